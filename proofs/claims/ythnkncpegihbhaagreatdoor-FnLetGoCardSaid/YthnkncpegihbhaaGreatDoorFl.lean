import Derived.Laws.FloatBits
import Derived.Laws.FloatArith
import Derived.Test.YthnkncpegihbhaaGreatDoorPlain
set_option maxRecDepth 100000
set_option maxHeartbeats 16000000
namespace Go.Proofs.YthnkncpegihbhaaGreatDoor.Fl
section
open Ieee
theorem NW{a b c:Nat}(h:a+b=c):2 ^ c=2 ^ a*2 ^ b:=by rw[<-h,Nat.pow_add]
theorem qq4{m:Nat}(hm:m≠0)(k:Nat):(m*2 ^ k).log2=m.log2+k:=by
 have hk:0<2 ^ k:=Nat.two_pow_pos k;have h0:m*2 ^ k≠0:=by
  intro h;rcases Nat.mul_eq_zero.1 h with h|h
  ·exact hm h
  ·omega
 rw[Nat.log2_eq_iff h0];have h1:=Nat.log2_self_le hm;have h2:=@Nat.lt_log2_self m;constructor
 ·rw[Nat.pow_add];exact Nat.mul_le_mul_right _ h1
 ·rw[show m.log2+k + 1=(m.log2+1)+k by omega,Nat.pow_add];exact Nat.mul_lt_mul_of_pos_right h2 hk
theorem UA(neg:Bool)(n d:Nat):Toward.even.cut neg n d=n / 2 ^ d+(decide (2 ^ d<2*(n%2 ^ d)) || (2 ^ d==2*(n%2 ^ d) && n / 2 ^ d%2==1)).toNat:=by
 unfold Toward.cut;simp only[Nat.one_shiftLeft];by_cases h:d<=n.log2+2
 ·rw[Nat.min_eq_left h]
 ·have h':n.log2+2<=d:=by omega
  rw[Nat.min_eq_right h'];have a:=@Nat.lt_log2_self n;have b:2 ^ (n.log2+2)=2*2 ^ (n.log2+1):=by rw[Nat.pow_succ];omega
  have c:2 ^ (n.log2+2)<=2 ^ d:=Nat.pow_le_pow_right (by omega) h';rw[Nat.div_eq_of_lt (by omega),Nat.mod_eq_of_lt (by omega),Nat.div_eq_of_lt (by omega),Nat.mod_eq_of_lt (by omega)];have e1:decide (2 ^ (n.log2+2)<2*n)=false:=by simp;omega
  have e2:decide (2 ^ d<2*(n%2 ^ d))=false:=by rw[Nat.mod_eq_of_lt (by omega)];simp;omega
  simp[e1,e2]
theorem yo1(neg:Bool)(n d:Nat):Toward.down.cut neg n d=n / 2 ^ d+(neg && n%2 ^ d != 0).toNat:=by
 unfold Toward.cut;simp only[Nat.one_shiftLeft];by_cases h:d<=n.log2+2
 ·rw[Nat.min_eq_left h]
 ·have h':n.log2+2<=d:=by omega
  rw[Nat.min_eq_right h'];have a:=@Nat.lt_log2_self n;have b:2 ^ (n.log2+2)=2*2 ^ (n.log2+1):=by rw[Nat.pow_succ];omega
  have c:2 ^ (n.log2+2)<=2 ^ d:=Nat.pow_le_pow_right (by omega) h';rw[Nat.div_eq_of_lt (by omega),Nat.mod_eq_of_lt (by omega),Nat.div_eq_of_lt (by omega),Nat.mod_eq_of_lt (by omega)]
theorem yo0(neg:Bool)(n d:Nat):Toward.zero.cut neg n d=n / 2 ^ d:=by
 unfold Toward.cut;simp only[Nat.one_shiftLeft];by_cases h:d<=n.log2+2
 ·rw[Nat.min_eq_left h];simp
 ·have h':n.log2+2<=d:=by omega
  rw[Nat.min_eq_right h'];have a:=@Nat.lt_log2_self n;have b:2 ^ (n.log2+2)=2*2 ^ (n.log2+1):=by rw[Nat.pow_succ];omega
  have c:2 ^ (n.log2+2)<=2 ^ d:=Nat.pow_le_pow_right (by omega) h';rw[Nat.div_eq_of_lt (by omega),Nat.div_eq_of_lt (by omega)];simp
theorem WL(neg:Bool)(n d:Nat):Toward.even.cut neg (n*2 ^ d) d=n:=by
 have:=Nat.two_pow_pos d;rw[UA,Nat.mul_div_cancel _ this,Nat.mul_mod_left];have e1:decide (2 ^ d<2*0)=false:=by simp
 have e2:(2 ^ d==2*0)=false:=by simp
 rw[e1,e2];simp
theorem qa0(neg:Bool)(n:Nat):Toward.even.cut neg n 0=n:=by
 have:=WL neg n 0;simpa using this
theorem z12(neg:Bool)(n d k:Nat):Toward.even.cut neg (n*2 ^ k) (d+k)=Toward.even.cut neg n d:=by
 have hk:=Nat.two_pow_pos k;rw[UA,UA,Nat.pow_add,Nat.mul_div_mul_right _ _ hk,Nat.mul_mod_mul_right];have e1:decide (2 ^ d*2 ^ k<2*(n%2 ^ d*2 ^ k))=decide (2 ^ d<2*(n%2 ^ d)):=by
  rw[<-Nat.mul_assoc];rw[decide_eq_decide];exact Nat.mul_lt_mul_right hk
 have e2:(2 ^ d*2 ^ k==2*(n%2 ^ d*2 ^ k))=(2 ^ d==2*(n%2 ^ d)):=by
  rw[<-Nat.mul_assoc,Bool.eq_iff_iff];simp only[beq_iff_eq];exact Nat.mul_left_inj (by omega)
 rw[e1,e2]
theorem lp:double.leastPlace = -1074:=by decide
theorem bn:double.binade=2 ^ 52:=rfl
theorem fb:double.fractionBits=52:=rfl
def enc(neg:Bool)(M:Nat):Nat:=double.nearest neg M (-1074)
theorem z99(neg:Bool)(m:Nat)(p:Int)(k:Nat):double.nearest neg (m*2 ^ k) (p-k)=double.nearest neg m p:=by
 by_cases hm:m=0
 ·subst hm;simp[Format.nearest]
 have hk:=Nat.two_pow_pos k;have h0:m*2 ^ k≠0:=by
  intro h;rcases Nat.mul_eq_zero.1 h with h|h
  ·exact hm h
  ·omega
 unfold Format.nearest;rw[if_neg hm,if_neg h0,qq4 hm];have e:p-(k:Int)+((m.log2+k:Nat):Int)-(double.fractionBits:Int)=p+(m.log2:Int)-(double.fractionBits:Int):=by omega
 simp only[e];generalize max (p+(m.log2:Int)-(double.fractionBits:Int)) double.leastPlace=L;have key:Toward.even.cut neg ((m*2 ^ k) <<< (p-k - L).toNat) (L-(p-k)).toNat=Toward.even.cut neg (m <<< (p-L).toNat) (L-p).toNat:=by
  simp only[Nat.shiftLeft_eq];by_cases c1:L<=p-k
  ·rw[show(L-(p-k)).toNat=0 by omega,show(L-p).toNat=0 by omega,qa0,qa0,Nat.mul_assoc,<-Nat.pow_add];congr 2;omega
  ·by_cases c2:L<=p
   ·rw[show(L-p).toNat=0 by omega,qa0,show(p-k - L).toNat=0 by omega,Nat.pow_zero,Nat.mul_one];rw[NW (show(p-L).toNat+(L-(p-k)).toNat=k by omega),<-Nat.mul_assoc,WL]
   ·rw[show(p-k - L).toNat=0 by omega,show(p-L).toNat=0 by omega,Nat.pow_zero,Nat.mul_one,Nat.mul_one];rw[show(L-(p-k)).toNat=(L-p).toNat+k by omega,z12]
 rw[key]
theorem zn3(neg:Bool)(m:Nat)(p:Int)(hp:-1074<=p):double.nearest neg m p=enc neg (m*2 ^ (p+1074).toNat):=by
 unfold enc;rw[<-z99 neg m p (p+1074).toNat];congr 1;omega
theorem yn7(neg:Bool):enc neg 0=double.word neg 0:=by simp[enc,Format.nearest]
theorem yu1(neg:Bool)(M:Nat):enc neg M=double.word neg (min ((M.log2-52)*2 ^ 52+Toward.even.cut neg M (M.log2-52)) double.infRung):=by
 by_cases hM:M=0
 ·subst hM;rw[yn7];have:(0:Nat).log2-52=0:=by decide
  rw[this,qa0];simp
 ·unfold enc Format.nearest;rw[if_neg hM,lp,fb,bn];have e:max (-1074+(M.log2:Int)-((52:Nat):Int)) (-1074) = -1074+((M.log2-52:Nat):Int):=by omega
  simp only[e];rw[show(-1074+((M.log2-52:Nat):Int) - -1074).toNat=M.log2-52 by omega];rw[show(-1074-(-1074+((M.log2-52:Nat):Int))).toNat=0 by omega];simp
theorem EC:double.infRung=2047*2 ^ 52:=by decide
theorem sw:double.signWeight=2 ^ 63:=rfl
def rep(M:Nat):Prop:=∃q a,q<2 ^ 53/\a<=2045/\M=q*2 ^ a
theorem yb0{q:Nat}(h:q<2 ^ 53):q.log2<=52:=by
 by_cases h0:q=0
 ·subst h0;decide
 ·have:=(Nat.log2_lt (n:=q) (k:=53) h0).2 h;omega
theorem yg4(neg:Bool){r:Nat}(h:r<2 ^ 63):(double.word neg r / double.signWeight%2==1)=neg/\double.word neg r%double.signWeight=r:=by
 rw[sw]
 cases neg
 ·simp only[Format.word,Bool.false_eq_true,if_false];rw[Nat.div_eq_of_lt h,Nat.mod_eq_of_lt h];exact⟨rfl,rfl⟩
 ·simp only[Format.word,if_true,sw];have e1:(2 ^ 63+r) / 2 ^ 63=1:=by omega
  have e2:(2 ^ 63+r)%2 ^ 63=r:=by omega
  rw[e1,e2];exact⟨rfl,rfl⟩
theorem y85(neg:Bool){r:Nat}(h:r<2 ^ 63):double.read (double.word neg r) =(if r<2 ^ 52 then .number neg r (-1074) else if r<2047*2 ^ 52 then .number neg (2 ^ 52+r%2 ^ 52) (-1074+(r / 2 ^ 52-1:Nat)) else if r=2047*2 ^ 52 then .infinity neg else .nan neg (r-2047*2 ^ 52)):=by
 obtain⟨h1,h2⟩:=yg4 neg h;unfold Format.read;simp only[h1,h2,lp,bn,EC]
def vJ(x:Nat)(s:Bool)(M:Nat):Prop:=∃m i,double.read x=.number s m i/\-1074<=i/\m*2 ^ (i+1074).toNat=M
theorem zy1{x:Nat}(hx:x<2 ^ 64):∃neg r,r<2 ^ 63/\x=double.word neg r:=by
 by_cases h:x<2 ^ 63
 ·exact⟨false,x,h,by simp[Format.word]⟩
 ·exact⟨true,x-2 ^ 63,by omega,by simp[Format.word,sw];omega⟩
theorem yN{x:Nat}(hx:x<2 ^ 64):(∃s M,vJ x s M/\rep M/\x=enc s M)\/(∃s,double.read x=.infinity s/\x=double.word s double.infRung)\/(∃s t,double.read x=.nan s t):=by
 obtain⟨neg,r,hr,rfl⟩:=zy1 hx;have hrd:=y85 neg hr;by_cases h1:r<2 ^ 52
 ·rw[if_pos h1] at hrd;refine .inl ⟨neg,r,⟨_,_,hrd,by omega,by simp⟩,⟨r,0,by omega,by omega,by simp⟩,?_⟩;rw[yu1];have:r.log2-52=0:=by have:=yb0 (q:=r) (by omega);omega
  rw[this,qa0,EC,Nat.min_eq_left (by omega)];simp
 ·rw[if_neg h1] at hrd;by_cases h2:r<2047*2 ^ 52
  ·rw[if_pos h2] at hrd;have e1:(-1074+((r / 2 ^ 52-1:Nat):Int)+1074).toNat=r / 2 ^ 52-1:=by omega
   refine .inl ⟨neg,(2 ^ 52+r%2 ^ 52)*2 ^ (r / 2 ^ 52-1),⟨_,_,hrd,by omega,by rw[e1]⟩,⟨2 ^ 52+r%2 ^ 52,r / 2 ^ 52-1,by omega,by omega,rfl⟩,?_⟩;rw[yu1];have hl:(2 ^ 52+r%2 ^ 52).log2=52:=by rw[Nat.log2_eq_iff (by omega)];omega
   rw[qq4 (by omega),hl,show 52+(r / 2 ^ 52-1)-52=r / 2 ^ 52-1 by omega,WL,EC];have:(r / 2 ^ 52-1)*2 ^ 52+(2 ^ 52+r%2 ^ 52)=r:=by omega
   rw[this,Nat.min_eq_left (by omega)]
  ·rw[if_neg h2] at hrd;by_cases h3:r=2047*2 ^ 52
   ·rw[if_pos h3] at hrd;exact .inr (.inl ⟨_,hrd,by rw[EC,h3]⟩)
   ·rw[if_neg h3] at hrd;exact .inr (.inr ⟨_,_,hrd⟩)
def sv(s:Bool)(M:Nat):Int:=if s then -(M:Int) else(M:Int)
theorem qp9(s:Bool)(m u v:Nat):signed s m u*((2 ^ v:Nat):Int)=sv s (m*2 ^ (u+v)):=by
 unfold signed sv;rw[Nat.shiftLeft_eq,Nat.pow_add,<-Nat.mul_assoc]
 cases s
 ·simp only[Bool.false_eq_true,if_false];rw[Int.natCast_mul (m*2 ^ u)]
 ·simp only[if_true];rw[Int.natCast_mul (m*2 ^ u),Int.neg_mul]
theorem zc5(a b:Int)(c:Nat)(hc:0<c):compare (a*(c:Int)) (b*(c:Int))=compare a b:=by
 have h:(0:Int)<(c:Int):=by omega
 rcases Int.lt_trichotomy a b with h1|h1|h1
 ·rw[Int.compare_eq_lt.2 h1,Int.compare_eq_lt.2 ((Int.mul_lt_mul_right h).2 h1)]
 ·subst h1;rw[Int.compare_eq_eq.2 rfl,Int.compare_eq_eq.2 rfl]
 ·rw[Int.compare_eq_gt.2 h1,Int.compare_eq_gt.2 ((Int.mul_lt_mul_right h).2 h1)]
theorem oz{x y:Nat}{s t:Bool}{M N:Nat}(hx:vJ x s M)(hy:vJ y t N):double.order x y=some (compare (sv s M) (sv t N)):=by
 obtain⟨m,i,h1,h2,h3⟩:=hx;obtain⟨n,j,g1,g2,g3⟩:=hy;unfold Format.order;rw[h1,g1];unfold Datum.order;simp only;rw[<-zc5 _ _ (2 ^ (min i j+1074).toNat) (Nat.two_pow_pos _),qp9,qp9];rw[show(i-min i j).toNat+(min i j+1074).toNat=(i+1074).toNat by omega,show(j-min i j).toNat+(min i j+1074).toNat=(j+1074).toNat by omega,h3,g3]
theorem zd6(s:Bool)(m:Nat):double.write (.number s m 0)=enc s (m*2 ^ 1074):=by
 show double.nearest s m 0=_;rw[zn3 s m 0 (by omega),show((0:Int)+1074).toNat=1074 by omega]
theorem yl8{x:Nat}{s:Bool}{M:Nat}(hx:vJ x s M):double.write ((double.read x).integral .down)=enc s ((M / 2 ^ 1074+(s && M%2 ^ 1074 != 0).toNat)*2 ^ 1074):=by
 obtain⟨m,i,h1,h2,h3⟩:=hx;rw[h1];unfold Datum.integral;simp only;rw[zd6,yo1];have e:(m <<< i.toNat) / 2 ^ (-i).toNat=M / 2 ^ 1074/\((m <<< i.toNat)%2 ^ (-i).toNat != 0)=(M%2 ^ 1074 != 0):=by
  subst h3;rw[Nat.shiftLeft_eq];by_cases hi:0<=i
  ·rw[show(-i).toNat=0 by omega,NW (show i.toNat+1074=(i+1074).toNat by omega),<-Nat.mul_assoc,Nat.mul_div_cancel _ (Nat.two_pow_pos 1074),Nat.mul_mod_left];simp[Nat.mod_one]
  ·have hp:=Nat.two_pow_pos (i+1074).toNat;rw[show i.toNat=0 by omega,Nat.pow_zero,Nat.mul_one];rw[NW (show(-i).toNat+(i+1074).toNat=1074 by omega),Nat.mul_div_mul_right _ _ hp,Nat.mul_mod_mul_right];refine⟨rfl,?_⟩;rw[Bool.eq_iff_iff];simp only[bne_iff_ne,ne_eq,Nat.mul_eq_zero];omega
 rw[e.1,e.2]
theorem zx3{x:Nat}{s:Bool}{M:Nat}(hx:vJ x s M):(double.read x).toInt .zero=some (sv s (M / 2 ^ 1074)):=by
 obtain⟨m,i,h1,h2,h3⟩:=hx;rw[h1];unfold Datum.toInt Datum.integral;simp only;rw[yo0];have e:(m <<< i.toNat) / 2 ^ (-i).toNat=M / 2 ^ 1074:=by
  subst h3;rw[Nat.shiftLeft_eq];by_cases hi:0<=i
  ·rw[show(-i).toNat=0 by omega,NW (show i.toNat+1074=(i+1074).toNat by omega),<-Nat.mul_assoc,Nat.mul_div_cancel _ (Nat.two_pow_pos 1074)];simp
  ·have hp:=Nat.two_pow_pos (i+1074).toNat;rw[show i.toNat=0 by omega,Nat.pow_zero,Nat.mul_one];rw[NW (show(-i).toNat+(i+1074).toNat=1074 by omega),Nat.mul_div_mul_right _ _ hp]
 rw[e];generalize M / 2 ^ 1074=q;unfold signed sv;simp
def pq(x:Nat):Nat:=double.write ((double.read x).integral .down)
theorem Zq{a b c d:Nat}(h:a+b=c+d):2 ^ a*2 ^ b=2 ^ c*2 ^ d:=by rw[<-Nat.pow_add,<-Nat.pow_add,h]
theorem qA:vJ 4890909195324358656 false (2 ^ 63*2 ^ 1074):=⟨2 ^ 52,11,by decide +kernel,by omega,(Zq (a:=52) (b:=((11:Int)+1074).toNat) (c:=63) (d:=1074) (by omega))⟩
theorem pF:vJ 14114281232179134464 true (2 ^ 63*2 ^ 1074):=⟨2 ^ 52,11,by decide +kernel,by omega,(Zq (a:=52) (b:=((11:Int)+1074).toNat) (c:=63) (d:=1074) (by omega))⟩
theorem zC{x:Nat}{s:Bool}{M:Nat}(hx:vJ x s M)(h1:-9223372036854775808<=sv s (M / 2 ^ 1074))(h2:sv s (M / 2 ^ 1074)<=9223372036854775807):floatToIntVal .f64 x .i64=some (sv s (M / 2 ^ 1074)):=by
 unfold floatToIntVal;have e:(FloatKind.f64.decode x).toInt .zero=some (sv s (M / 2 ^ 1074)):=zx3 hx;rw[e];generalize sv s (M / 2 ^ 1074)=q at *;have hr:IntKind.i64.min<=q/\q<=IntKind.i64.max:=by
  have g1:IntKind.i64.min = -9223372036854775808:=by decide
  have g2:IntKind.i64.max=9223372036854775807:=by decide
  rw[g1,g2];exact⟨h1,h2⟩
 simp only[hr,and_self,if_true]
theorem PX:0<2 ^ 1074:=Nat.two_pow_pos 1074
end
end Go.Proofs.YthnkncpegihbhaaGreatDoor.Fl
namespace Go.Proofs.YthnkncpegihbhaaGreatDoor
section
open Go.RowKit
attribute [local go_sem] iD
theorem zz4{f:Nat}(h:f<2 ^ 64):FloatKind.f64.format.order f f=some Ordering.eq\/FloatKind.f64.format.order f f=none:=by
 show Ieee.double.order f f=_\/Ieee.double.order f f=_;rcases Fl.yN h with⟨s,M,hf,_,_⟩|⟨s,hr,_⟩|⟨s,t,hr⟩
 ·left;rw[Fl.oz hf hf,Int.compare_eq_eq.2 rfl]
 ·left;unfold Ieee.Format.order;rw[hr];cases s<;>rfl
 ·right;unfold Ieee.Format.order;rw[hr];rfl
end
section
open Go.RowKit
abbrev two63:Nat:=4890909195324358656
abbrev oZ:Nat:=14114281232179134464
theorem yw0(f:Nat):∃A:Bool->Nat->Sem Value,Extern.MathFloor.toIntegral "math.archFloor" .down #[.float .f64 f]=(match FloatKind.f64.decode f with | .nan s t=>A s t|d=>pure (.float .f64 (FloatKind.f64.encode (d.integral .down)))):=⟨_,rfl⟩
theorem Lj(f:Nat)(w:World):Calls Tryz.prog 158 #[.float .f64 f] w fun e w'=>e=.returned (.bool (FloatKind.f64.format.order f f != some .eq))/\w'=w:=by
 go_in;go_wp2;go_ret;exact⟨rfl,rfl⟩
theorem zd1(f:Nat)(hf:f<2 ^ 64)(h:FloatKind.f64.format.order f f=some .eq)(w:World):(callFunc 403 #[.float .f64 f]).run Tryz.prog w=.ok (.value (.float .f64 (Fl.pq f))) w:=by
 rw[dS Tryz.func403 (by kernel_rfl) (by kernel_rfl) (by kernel_rfl) (show Extern.find Tryz.f403=some (Extern.MathFloor.toIntegral "math.archFloor" .down) by kernel_rfl)];have hr:(Extern.MathFloor.toIntegral "math.archFloor" .down #[.float .f64 f]).run Tryz.prog w=.ok (.float .f64 (Fl.pq f)) w:=by
  obtain⟨A,hA⟩:=yw0 f;rw[hA];have hd:FloatKind.f64.decode f=Ieee.double.read f:=rfl;rcases Fl.yN hf with⟨s,M,⟨m,i,g,_,_⟩,_,_⟩|⟨s,g,_⟩|⟨s,t,g⟩
  ·rw[hd,g];unfold Fl.pq;rw[g];rfl
  ·rw[hd,g];unfold Fl.pq;rw[g];rfl
  ·exfalso;have h':Ieee.double.order f f=some .eq:=h;unfold Ieee.Format.order at h';rw[g] at h'
   cases h'
 rw[hr];rfl
theorem SK(f:Nat)(hf:f<2 ^ 64)(h:FloatKind.f64.format.order f f=some .eq)(w:World):Calls Tryz.prog 373 #[.float .f64 f] w fun e w'=>e=.returned (.float .f64 (Fl.pq f))/\w'=w:=by
 have hx:=zd1 f hf h;go_in;go_wp2;go_ret;exact⟨rfl,rfl⟩
theorem Zp{f g:Nat}(hf:f<2 ^ 64)(h:FloatKind.f64.format.order f f=some .eq){s:Bool}{M:Nat}(g1:Fl.vJ g s M):∃d,FloatKind.f64.format.order f g=some d:=by
 have h':Ieee.double.order f f=some .eq:=h;show ∃d,Ieee.double.order f g=some d;rcases Fl.yN hf with⟨s,M,hx,_,_⟩|⟨s,g2,_⟩|⟨s,t,g2⟩
 ·exact⟨_,Fl.oz hx g1⟩
 ·obtain⟨m,i,e,_,_⟩:=g1;unfold Ieee.Format.order;rw[g2,e];exact⟨_,rfl⟩
 ·unfold Ieee.Format.order at h';rw[g2] at h'
  cases h'
theorem j63(s:Bool)(M E:Nat)(h:compare (Fl.sv s M) (Fl.sv true E)≠.lt):-(E:Int)<=Fl.sv s M:=by
 refine Int.not_lt.1 fun h'=>h (Int.compare_eq_lt.2 ?_);simpa[Fl.sv] using h'
theorem j64(s:Bool)(M E:Nat)(h:compare (Fl.sv s M) (Fl.sv false E)=.lt):Fl.sv s M<(E:Int):=by
 simpa[Fl.sv] using Int.compare_eq_lt.1 h
theorem j11(s:Bool)(M K:Nat)(hK:0<K)(h1:-((2 ^ 63*K:Nat):Int)<=Fl.sv s M)(h2:Fl.sv s M<((2 ^ 63*K:Nat):Int)):-9223372036854775808<=Fl.sv s (M / K)/\Fl.sv s (M / K)<=9223372036854775807:=by
 have hd:M / K*K<=M:=Nat.div_mul_le_self M K;generalize M / K=q at *
 cases s
 ·simp only[Fl.sv,Bool.false_eq_true,if_false] at *;have:q*K<2 ^ 63*K:=by omega
  have:=Nat.lt_of_mul_lt_mul_right this;omega
 ·simp only[Fl.sv,if_true] at *;have:q*K<=2 ^ 63*K:=by omega
  have:=Nat.le_of_mul_le_mul_right this hK;omega
theorem j12{f:Nat}(hf:f<2 ^ 64)(h1:FloatKind.f64.format.order f oZ=some .gt\/FloatKind.f64.format.order f oZ=some .eq)(h2:FloatKind.f64.format.order f two63=some .lt):∃v,floatToIntVal .f64 f .i64=some v:=by
 have h1':Ieee.double.order f oZ=some .gt\/Ieee.double.order f oZ=some .eq:=h1;have h2':Ieee.double.order f two63=some .lt:=h2;rcases Fl.yN hf with⟨s,M,hx,hr,_⟩|⟨s,g2,_⟩|⟨s,t,g2⟩
 ·rw[Fl.oz hx Fl.qA] at h2';rw[Fl.oz hx Fl.pF] at h1';have a:=j64 _ _ _ (aQ h2');have b:-((2 ^ 63*2 ^ 1074:Nat):Int)<=Fl.sv s M:=j63 _ _ _ (by
   rcases h1' with h|h<;>rw[aQ h]<;>decide)
  obtain⟨c,d⟩:=j11 s M _ Fl.PX b a;exact⟨_,Fl.zC hx c d⟩
 ·obtain⟨m1,i1,z2,_,_⟩:=Fl.qA;obtain⟨m2,i2,z3,_,_⟩:=Fl.pF;exfalso;unfold Ieee.Format.order at h1' h2';rw[g2,z2] at h2';rw[g2,z3] at h1'
  cases s
  ·cases h2'
  ·rcases h1' with h|h<;>cases h
 ·exfalso;unfold Ieee.Format.order at h2';rw[g2] at h2'
  cases h2'
end
end Go.Proofs.YthnkncpegihbhaaGreatDoor
