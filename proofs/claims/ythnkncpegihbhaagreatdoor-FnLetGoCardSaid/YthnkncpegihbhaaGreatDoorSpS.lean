import Derived.Test.YthnkncpegihbhaaGreatDoorSpA
import Derived.BigQuiet
import Derived.Deep.DeepCutAuto
set_option maxRecDepth 100000
set_option maxHeartbeats 16000000
namespace Go.Proofs.YthnkncpegihbhaaGreatDoor
section
open Go.RowKit
attribute [local go_sem] iD
attribute [local go_sem ↓] Go.wp_at_zero Go.wp_at_succ
abbrev nC(x:FT):Value:=.agg #[.int .i64 x.c,.int .i64 x.f,.int .i64 x.n]
theorem mZ{d:FD}{x k:Nat}{v:Int}:pR d x (k+1) v↔pR d x k v\/(d.nd x).r k=v:=by
 unfold pR;constructor
 ·rintro(h|h|⟨b,hb,h⟩)
  ·exact .inl (.inl h)
  ·exact .inl (.inr (.inl h))
  ·by_cases e:b=k
   ·subst e;exact .inr h
   ·exact .inl (.inr (.inr ⟨b,by omega,h⟩))
 ·rintro((h|h|⟨b,hb,h⟩)|h)
  ·exact .inl h
  ·exact .inr (.inl h)
  ·exact .inr (.inr ⟨b,by omega,h⟩)
  ·exact .inr (.inr ⟨k,by omega,h⟩)
theorem z32{d:FD}{x:Nat}{v:Int}:pR d (x+1) 0 v↔pR d x 0 v\/(rY (d.nd x).k/\BG (d.nd x) v):=by
 unfold pR;constructor
 ·rintro(h|⟨m,hm,h⟩|⟨b,hb,h⟩)
  ·exact .inl (.inl h)
  ·by_cases e:m=x
   ·subst e;exact .inr h
   ·exact .inl (.inr (.inl ⟨m,by omega,h⟩))
  ·omega
 ·rintro((h|⟨m,hm,h⟩|⟨b,hb,h⟩)|h)
  ·exact .inl h
  ·exact .inr (.inl ⟨m,by omega,h⟩)
  ·omega
  ·exact .inr (.inl ⟨x,by omega,h⟩)
theorem y70{d:FD}{x:Nat}{v:Int}:pR d x (d.nd x).rn v↔pR d x 0 v\/BG (d.nd x) v:=by
 unfold pR BG;constructor
 ·rintro(h|h|h)
  ·exact .inl (.inl h)
  ·exact .inl (.inr (.inl h))
  ·exact .inr h
 ·rintro((h|h|⟨b,hb,h⟩)|h)
  ·exact .inl h
  ·exact .inr (.inl h)
  ·omega
  ·exact .inr (.inr h)
def kM(w:World)(B:Nat)(d:FD)(x k:Nat):Prop:=w.rowIs B 4 d.vn (fun i=>.bool (dB (pR d x k i)))
theorem kM.below{w w':World}{B:Nat}{d:FD}{x k:Nat}(h:kM w B d x k)(hb:gZ w w'):kM w' B d x k:=World.rowIs.of_block h (hb.block _ h.lt)
theorem kM.congr{w:World}{B:Nat}{d:FD}{x k x' k':Nat}(h:kM w B d x k)(e:∀v:Nat,pR d x k v↔pR d x' k' v):kM w B d x' k':=World.rowIs.congr h fun i _=>by
 by_cases c:pR d x k i
 ·rw[pU c,pU ((e i).1 c)]
 ·rw[q30 c,q30 fun c'=>c ((e i).2 c')]
theorem kM.set{w:World}{B:Nat}{d:FD}{x k:Nat}(h:kM w B d x k){y:Nat}(hy:(d.nd x).r k=y):kM (w.setCell ⟨B,y,none⟩ (.bool true)) B d x (k+1):=(World.rowIs.set h y (.bool true)).congr fun i _=>by
 by_cases e:i=y
 ·rw[aO e,pU (mZ.2 (.inr (by rw[hy,e])))]
 ·rw[au e];by_cases c:pR d x k i
  ·rw[pU c,pU (mZ.2 (.inl c))]
  ·rw[q30 c,q30 fun c'=>(mZ.1 c').elim c fun h=>e (by omega)]
theorem Has.far{w:World}{B:Nat}{A:Array Value}(h:Has w B A){p:Addr}(hp:p.block≠B)(v:Value):Has (w.setCell p v) B A:=
 ⟨by have:=h.1;simpa using this,fun o=>(World.cell?_setCell_far w p ⟨B,o,none⟩ v hp).trans (h.2 o)⟩
abbrev MQ(d:ND)(ra:Option Addr)(rn:Nat)(x:NA):Array Value:=#[.int .i64 d.k,.int .i64 d.l,.int .i64 d.o,.int .i64 d.n,.float .f64 d.f,.string d.s,.slice ra rn x.rc,.slice x.ka d.kn x.kc]
theorem NG(w:World)(z:Value)(t:TypeId){b n:Nat}(hb:b=w.heap.size):(w.alloc (.cells (madeCells #[z] n) t)).rowIs b t n (fun _=>z):=by
 subst hb;exact World.rowIs_made w z n t
def iG(P:FT->Prop)(w:World)(e:Ending)(w':World):Prop:=∃x:FT,e=.returned (nC x)/\Least P x/\gZ w w'
theorem iG.of{P:FT->Prop}{w w':World}{x:FT}(h:Least P x)(hb:gZ w w'):iG P w (.returned (nC x)) w':=⟨x,rfl,h,hb⟩
abbrev jG(w:World)(u:UD)(a:Option Addr)(cap:Nat):World:=(w.alloc (.cells #[.slice a u.n cap] 31)).alloc (.cells #[.int .i64 0,.int .i64 0,.int .i64 0] 64)
theorem nO{w wr:World}{u:UD}{a:Option Addr}{cap:Nat}(h:Below (jG w u a cap).heap.size (jG w u a cap) wr):gZ w wr:=iq (kF w _ _) h
theorem JB{w wr:World}{u:UD}{a:Option Addr}{cap:Nat}(h:Below (jG w u a cap).heap.size (jG w u a cap) wr):Has wr w.heap.size #[.slice a u.n cap]:=((Has.new w _ _).alloc _).call h
theorem q22{w wr:World}{u:UD}{a:Option Addr}{cap:Nat}(h:Below (jG w u a cap).heap.size (jG w u a cap) wr):wr.rowIs (w.heap.size+1) 64 3 (fun _=>.int .i64 0):=by
 have h1:=World.rowIs_alloc (w.alloc (.cells #[.slice a u.n cap] 31)) #[.int .i64 0,.int .i64 0,.int .i64 0] 64 (fun _=>.int .i64 0) (fun i hi=>by
  have:i=0\/i=1\/i=2:=by simp at hi;omega
  rcases this with rfl|rfl|rfl<;>rfl)
 have h2:=h1.of_block (h.block _ h1.lt);simpa using h2
theorem qF{w wr:World}(h:gZ w wr)(c f n:Value):gZ w (((wr.setCell ⟨w.heap.size+1,0,none⟩ c).setCell ⟨w.heap.size+1,1,none⟩ f).setCell ⟨w.heap.size+1,2,none⟩ n):=
 og (og (og h (aZ _ 1) _) (aZ _ 1) _) (aZ _ 1) _
theorem yr7{u:UD}(hs:u.sm):∀k,k<=u.n->tot u.fn k<=k*1048576
 |0,_=>aF _
 |k+1,h=>by
  have h1:=yr7 hs k (by omega);have h2:=(hs.fn k (by omega)).nn;unfold tot;omega
def iV(i l m:Int):Bool:=decide (l<=i) && decide (i<=m)
def ou(i m:Int):Bool:=decide (0<=i) && decide (i<m)
theorem zQ(i l m:Int)(w:World):Calls Tryz.prog 47 #[.int .i64 i,.int .i64 l,.int .i64 m] w fun e w'=>e=.returned (.bool (iV i l m))/\w'=w:=by
 go_in;go_wp2_with fail;all_goals go_ret
 all_goals exact⟨by simp[iV, *]<;>(intros;omega),rfl⟩
theorem rJ(i m:Int)(w:World):Calls Tryz.prog 141 #[.int .i64 i,.int .i64 m] w fun e w'=>e=.returned (.bool (ou i m))/\w'=w:=by
 go_in;go_wp2_with fail;all_goals go_ret
 all_goals exact⟨by simp[ou, *]<;>(intros;omega),rfl⟩
theorem zl0{x:Int}(h0:0<=x)(h1:x<18446744073709551616):IntKind.u64.wrap x=x:=by
 simp only[IntKind.wrap_u64];omega
theorem j28(m:Nat)(hm:m<18446744073709551616):bits .and .u64 (m:Int) 1=((m%2:Nat):Int):=by
 have hb:bits .and .u64 (m:Int) 1=IntKind.u64.wrap (((BitVec.ofInt 64 (m:Int)) &&& (BitVec.ofInt 64 1)).toNat:Int):=rfl;rw[hb];have h1:(BitVec.ofInt 64 (m:Int)).toNat=m:=by simp;omega
 have h2:((BitVec.ofInt 64 (m:Int)) &&& (BitVec.ofInt 64 1)).toNat=m%2:=by
  rw[BitVec.toNat_and,h1];show m &&& 1=m%2;exact Nat.and_one_is_mod m
 rw[h2,zl0 (by omega) (by omega)]
theorem ja5{s:Nat}(hs:s<18446744073709551616){k:Int}:(bits .and .u64 ((s:Int) / 2 ^ min k.toNat 64) 1==1)=Nat.testBit s k.toNat:=by
 have hd:((s:Int) / 2 ^ min k.toNat 64)=((s / 2 ^ min k.toNat 64:Nat):Int):=by simp
 rw[hd,j28 _ (Nat.lt_of_le_of_lt (Nat.div_le_self _ _) hs)];by_cases h:k.toNat<=64
 ·rw[dL h,Nat.testBit_eq_decide_div_mod_eq];rw[cZ,beq_iff_eq,decide_eq_true_eq];omega
 ·rw[Nat.min_eq_right (by omega),ye9 (by omega) (by omega),Nat.div_eq_of_lt (by omega)];rfl
theorem Di(s:Nat)(hs:s<18446744073709551616)(k:Int)(w:World):Calls Tryz.prog 123 #[.int .u64 (s:Int),.int .i64 k] w fun e w'=>e=.returned (.bool (setB s k))/\w'=w:=by
 by_cases h0:0<=k
 ·go_in;go_wp2_with fail;go_ret;refine⟨jH ?_,rfl⟩;rw[ja5 hs];unfold setB;simp[h0]
 ·go_in;go_wp2_with fail;go_ret;refine⟨jH ?_,rfl⟩;unfold setB;simp;omega
theorem z01(d:ND)(x:NA)(w:World):Calls Tryz.prog 124 #[jP d x] w fun e w'=>e=.returned (.bool (if oW d.k then decide (1<=d.l) && decide (d.l<=100000) else d.l==0))/\gZ w w':=by
 cases hst:oW d.k
 ·have fJ:setB 32766 d.k=false:=(MV d.k).trans hst;go_in;go_wp2_with (go_at_call 123;refine(Di 32766 (by decide) _ _).mono ?_;rw[fJ];rintro e w1 ⟨rfl,rfl⟩);go_ret;exact⟨rfl,q01 _ _⟩
 ·have fJ:setB 32766 d.k=true:=(MV d.k).trans hst;go_in;go_wp2_with (first|(go_at_call 123;refine(Di 32766 (by decide) _ _).mono ?_;rw[fJ];rintro e w1 ⟨rfl,rfl⟩)|(go_at_call 47;refine(zQ _ _ _ _).mono ?_;rintro e w1 ⟨rfl,rfl⟩));go_ret;exact⟨rfl,q01 _ _⟩
def Eb(d:ND)(x:NA)(v:Int)(o n f s r k:Bool):Prop:=∀w:World,Calls Tryz.prog 155 #[jP d x,.int .i64 v] w fun e w'=>e=.returned (.bool (jQ d o n f s r k))/\gZ w w'
theorem y51(d:ND)(x:NA):Eb d x 0 false false false false false false:=by
 intro w;go_in;go_wp2_with fail;all_goals go_ret
 all_goals exact⟨by simp[jQ,fz,se, *],q01 _ _⟩
theorem Eo(d:ND)(x:NA):Eb d x 32 false false false false false true:=by
 intro w;go_in;go_wp2_with fail;all_goals go_ret
 all_goals exact⟨by simp[jQ,fz,se, *],q01 _ _⟩
theorem SG(d:ND)(x:NA):Eb d x 48 false false false false true true:=by
 intro w;go_in;go_wp2_with fail;all_goals go_ret
 all_goals exact⟨by simp[jQ,fz,se, *],q01 _ _⟩
theorem SE(d:ND)(x:NA):Eb d x 34 false true false false false true:=by
 intro w;go_in;go_wp2_with fail;all_goals go_ret
 all_goals exact⟨by simp[jQ,fz,se, *],q01 _ _⟩
theorem ZY(d:ND)(x:NA):Eb d x 2 false true false false false false:=by
 intro w;go_in;go_wp2_with fail;all_goals go_ret
 all_goals exact⟨by simp[jQ,fz,se, *],q01 _ _⟩
theorem y50(d:ND)(x:NA):Eb d x 4 false false true false false false:=by
 intro w;go_in;go_wp2_with fail;all_goals go_ret
 all_goals exact⟨by simp[jQ,fz,se, *],q01 _ _⟩
theorem y49(d:ND)(x:NA):Eb d x 8 false false false true false false:=by
 intro w;go_in;go_wp2_with fail;all_goals go_ret
 all_goals exact⟨by simp[jQ,fz,se, *],q01 _ _⟩
theorem zx2(d:ND)(x:NA):Eb d x 16 false false false false true false:=by
 intro w;go_in;go_wp2_with fail;all_goals go_ret
 all_goals exact⟨by simp[jQ,fz,se, *],q01 _ _⟩
theorem O4(d:ND)(x:NA):Eb d x 33 true false false false false true:=by
 intro w;go_in;go_wp2_with fail;all_goals go_ret
 all_goals exact⟨by simp[jQ,fz,se, *],q01 _ _⟩
structure AH(w:World)(F m:Nat)(nd:Nat->ND)(nas:Nat->NA):Prop where
 at':∃na nc,w.cell? ⟨F,0,none⟩=some (.slice na m nc)/\iF 8 0 w na m (fun i=>kQ (nd i) (nas i))
theorem AH.below{w w':World}{F m:Nat}{nd:Nat->ND}{nas:Nat->NA}(h:AH w F m nd nas)(hb:gZ w w'):AH w' F m nd nas:=by
 obtain⟨na,nc,h1,h2⟩:=h.at';exact⟨na,nc,y28 hb h1,h2.below hb⟩
theorem yz5{s:Nat}{nd:Nat->ND}{m:Nat}{c:Int}{k:Nat}(h:c=k)(hk:k<m):iK s nd m c=setB s (nd k).k:=by
 unfold iK;subst h;simp[hk]
theorem yl6{s:Nat}{nd:Nat->ND}{m:Nat}{c:Int}(h:¬(0<=c/\c<m)):iK s nd m c=false:=by
 unfold iK;by_cases h0:0<=c
 ·have:¬c<m:=fun h1=>h ⟨h0,h1⟩;simp[this]
 ·simp[h0]
theorem Gl(F m:Nat)(nd:Nat->ND)(nas:Nat->NA)(a:Option Addr)(n cap:Nat)(c:Nat->Int)(s:Nat)(w:World)(hs:s<18446744073709551616)(hn:n<=1048576)(hA:AH w F m nd nas)(hT:qO 0 w a n c):Calls Tryz.prog 156 #[.pointer (some ⟨F,0,none⟩),.slice a n cap,.int .u64 (s:Int)] w fun e w'=>e=.returned (.bool (allB (fun i=>iK s nd m (c i)) 0 n))/\w'=w:=by
 have HT:Hid (iF 1 0 w a n fun i=>#[.int .i64 (c i)]):=hT;obtain⟨na,nc,f0,hN⟩:=hA.at';have HN:Hid (iF 8 0 w na m (fun i=>kQ (nd i) (nas i))):=hN;go_in;go_wp2_with fail
 go_loopw [11] (fun i wr=>∃(k:Nat),k<=n/\i=.int .i64 k/\Hid (∀j,j<k->iK s nd m (c j)=true)/\wr=w) (fun i _=>n-(intOf i).toNat)
 case atStart=>exact⟨0,aF _,rfl,fun j hj=>by omega,rfl⟩
 case round=>
  obtain⟨k,hk,rfl,HK,rfl⟩:=hrel;by_cases fE:k<n
  ·obtain⟨b,off,rfl,_,hb,d0⟩:=jd HT.out fE;by_cases hin:0<=c k/\c k<m
   ·obtain⟨y,hy⟩:∃y:Nat,c k=y:=⟨(c k).toNat,by omega⟩;have hym:y<m:=by omega
    have hks:iK s nd m (c k)=setB s (nd y).k:=yz5 hy hym;have HKS:Hid (iK s nd m (c k)=setB s (nd y).k):=hks;rw[hy] at d0;obtain⟨b2,o2,rfl,_,eG,g0,_⟩:=jU HN.out hym;have hw:ou (y:Int) (m:Int)=true:=by unfold ou;simp;omega
    cases hset:setB s (nd y).k
    ·have hv:allB (fun i=>iK s nd m (c i)) 0 n=false:=Uj (aF _) fE (HKS.trans hset);have HV:Hid (allB (fun i=>iK s nd m (c i)) 0 n=false):=hv;go_wp2_with (first|(go_at_call 141;refine(rJ _ _ _).mono ?_;rw[hw];rintro e w1 ⟨rfl,rfl⟩)|(go_at_call 123;refine(Di s hs _ _).mono ?_;rw[hset];rintro e w1 ⟨rfl,rfl⟩));go_ret;exact⟨jH HV.symm,rfl⟩
    ·have HV:Hid (iK s nd m (c k)=true):=HKS.trans hset;go_wp2_with (first|(go_at_call 141;refine(rJ _ _ _).mono ?_;rw[hw];rintro e w1 ⟨rfl,rfl⟩)|(go_at_call 123;refine(Di s hs _ _).mono ?_;rw[hset];rintro e w1 ⟨rfl,rfl⟩));go_roundw
     case rel=>exact⟨k+1,by omega,by go_num,fun j hj=>by
      by_cases e:j=k
      ·subst e;exact HV
      ·exact HK.out j (by omega),by first|rfl|trivial⟩
     case measure=>simp[intOf];omega
   ·have hv:allB (fun i=>iK s nd m (c i)) 0 n=false:=Uj (aF _) fE (yl6 hin);have HV:Hid (allB (fun i=>iK s nd m (c i)) 0 n=false):=hv;have hw:ou (c k) (m:Int)=false:=by unfold ou;simp;omega
    go_wp2_with (go_at_call 141;refine(rJ _ _ _).mono ?_;rw[hw];rintro e w1 ⟨rfl,rfl⟩);go_ret;exact⟨jH HV.symm,rfl⟩
  ·have HV:Hid (allB (fun i=>iK s nd m (c i)) 0 n=true):=iw.2 fun i _ hi=>HK.out i (by omega);go_wp2_with fail;go_ret;exact⟨jH HV.symm,rfl⟩
theorem RZ{w:World}{a:Option Addr}{n:Nat}{c:Nat->Int}(h:qO 0 w a n c){b o:Nat}(e:a=some ⟨b,o,none⟩)(i j:Nat)(hij:i+j<=n):qO 0 w (some ⟨b,o+i,none⟩) j (fun k=>c (i+k)):=fun hj=>by
 obtain⟨b',o',e',_,h1,h2⟩:=h (by omega);obtain⟨rfl,rfl⟩:b=b'/\o=o':=by rw[e] at e';simpa using e'
 refine⟨b,o+i,rfl,aF _,h1,fun k hk l hl=>?_⟩;have:=h2 (i+k) (by omega) l hl;rw[<-this];congr 2;omega
theorem Sv(F m:Nat)(nd:Nat->ND)(nas:Nat->NA)(a:Option Addr)(n cap:Nat)(c:Nat->Int)(R j:Nat)(s:Nat->Nat)(w:World)(hs:∀i,i<j->s i<18446744073709551616)(hn:n<=1048576)(hj:j<=4)(gy:n<=cap)(hA:AH w F m nd nas)(hT:qO 0 w a n c)(hR:∀i,i<j->w.cell? ⟨R,i,none⟩=some (.int .u64 (s i:Int))):Calls Tryz.prog 157 #[.pointer (some ⟨F,0,none⟩),.slice a n cap,.slice (some ⟨R,0,none⟩) j j] w fun e w'=>e=.returned (.bool ((n:Int)==j && allB (fun i=>iK (s i) nd m (c i)) 0 j))/\w'=w:=by
 have HT:Hid (qO 0 w a n c):=hT;have HA:Hid (AH w F m nd nas):=hA;have HR:Hid (∀i,i<j->w.cell? ⟨R,i,none⟩=some (.int .u64 (s i:Int))):=hR;have HS:Hid (∀i,i<j->s i<18446744073709551616):=hs;by_cases hnj:n=j
 ·subst hnj;have he:((n:Int)==n && allB (fun i=>iK (s i) nd m (c i)) 0 n)=allB (fun i=>iK (s i) nd m (c i)) 0 n:=by simp
  rw[he];go_in;go_wp2_with fail
  go_loopw [16] (fun i wr=>∃(k:Nat),k<=n/\i=.int .i64 k/\Hid (∀j,j<k->iK (s j) nd m (c j)=true)/\wr=w) (fun i _=>n-(intOf i).toNat)
  case atStart=>exact⟨0,aF _,rfl,fun j hj=>by omega,rfl⟩
  case round=>
   obtain⟨k,hk,rfl,HK,rfl⟩:=hrel;by_cases fE:k<n
   ·have r0:=HR.out k fE;obtain⟨b,off,rfl,_,hb,d0⟩:=jd HT.out fE;have HI:Hid (qO 0 wr (some ⟨b,off+k,none⟩) 1 (fun i=>c (k+i))):=RZ HT.out rfl k 1 (by omega);have hone:allB (fun i=>iK (s k) nd m (c (k+i))) 0 1=iK (s k) nd m (c k):=by
     rw[cZ,iw];exact⟨fun h=>h 0 (ah _) (by omega),fun h i _ hi=>by
      obtain rfl:i=0:=by omega
      exact h⟩
    cases hks:iK (s k) nd m (c k)
    ·have HV:Hid (allB (fun i=>iK (s i) nd m (c i)) 0 n=false):=Uj (aF _) fE hks;rw[hks] at hone;go_wp2_with (go_at_call 156;refine(Gl F m nd nas _ _ _ (fun i=>c (k+i)) (s k) _ (HS.out k fE) (by omega) HA.out HI.out).mono ?_;rw[hone];rintro e w1 ⟨rfl,rfl⟩);go_ret;exact⟨jH HV.symm,rfl⟩
    ·have HV:Hid (iK (s k) nd m (c k)=true):=hks;rw[hks] at hone;go_wp2_with (go_at_call 156;refine(Gl F m nd nas _ _ _ (fun i=>c (k+i)) (s k) _ (HS.out k fE) (by omega) HA.out HI.out).mono ?_;rw[hone];rintro e w1 ⟨rfl,rfl⟩);go_roundw
     case rel=>exact⟨k+1,by omega,by go_num,fun j hj=>by
      by_cases e:j=k
      ·subst e;exact HV
      ·exact HK.out j (by omega),by first|rfl|trivial⟩
     case measure=>simp[intOf];omega
   ·have HV:Hid (allB (fun i=>iK (s i) nd m (c i)) 0 n=true):=iw.2 fun i _ hi=>HK.out i (by omega);go_wp2_with fail;go_ret;exact⟨jH HV.symm,rfl⟩
 ·have he:((n:Int)==j && allB (fun i=>iK (s i) nd m (c i)) 0 j)=false:=by
   have:((n:Int)==j)=false:=by simp;omega
   rw[this];rfl
  rw[he];have q:((n:Int) != (j:Int))=true:=by simp;omega
  go_in;go_wp2_with fail;go_ret;exact⟨rfl,rfl⟩
def Df(u:UD)(f n:Nat):Prop:=(n<(u.fn f).nn-1/\jM (u.fn f).nd (u.fn f).nn n<0)\/(n=(u.fn f).nn-1/\((u.fn f).nd n).k≠1)
theorem z40{nd:Nat->ND}{n:Nat}(h:∀i,i<n->(nd i).kn<=200):∀i,i<=n->∀x,0<=sF nd i x/\sF nd i x<=(i:Int)*200
 |0,_=>fun x=>by unfold sF;omega
 |i+1,hi=>fun x=>by
  have:=VP nd i (z40 h i (by omega)) (nd i).kn x;have h2:=h i (by omega);show 0<=xG nd i (sF nd i) (nd i).kn x/\xG nd i (sF nd i) (nd i).kn x<=_;omega
def kP(w:World)(B n:Nat)(c:Nat->Int):Prop:=w.rowIs B 3 n (fun i=>.int .i64 (c i))
theorem qv3(L:Nat)(d:FD)(x:FA)(w:World)(hn:d.nn<=3000)(hK:uh d.nd d.nn)(hk2:∀i,i<d.nn->(d.nd i).kn<=200)(hT:oM L w d x):Calls Tryz.prog 78 #[LJ d x] w fun e w'=>(∃B,e=.returned (.slice (some ⟨B,0,none⟩) d.nn d.nn)/\w.heap.size<=B/\kP w' B d.nn (sF d.nd d.nn))/\gZ w w':=by
 have HT:Hid (oM L w d x):=hT;have HK:Hid (uh d.nd d.nn):=hK;have qy:Hid (∀i,i<d.nn->(d.nd i).kn<=200):=hk2;have hmk:=fun v=>run_make_row' (P:=Tryz.prog) 45 3 (.int .i64 0) 8 Tryz.underlying45 QZ rfl .i64 .i64 d.nn (by omega) (by omega) v;go_in;go_wp2_with fail;obtain⟨w1,fQ⟩:∃w1,w1=(w.alloc (.cells (qG d x) 95)).alloc (.cells (madeCells #[.int .i64 0] d.nn) 3):=⟨_,rfl⟩;have fB:Hid (gZ w w1):=by show Below _ _ _;rw[fQ];exact kF _ _ _
 have gW:Hid (kP w1 (w.heap.size+1) d.nn (sF d.nd 0)):=by
  show World.rowIs _ _ _ _ _;rw[fQ];exact NG _ _ _ (by simp)
 have hz1:w.heap.size+1<w1.heap.size:=World.rowIs.lt gW.out;rw[<-fQ]
 go_loopw [15] (fun i wr=>∃(k:Nat),k<=d.nn/\i=.int .i64 k/\Hid (Below (w.heap.size+1) w1 wr)/\Hid (kP wr (w.heap.size+1) d.nn (sF d.nd k))) (fun i _=>d.nn-(intOf i).toNat)
 case atStart=>exact⟨0,aF _,rfl,ay _ _,gW⟩
 case round=>
  obtain⟨k,hk,rfl,HW,HR⟩:=hrel;have CS:Hid (gZ w wr):=fB.trans (HW.mono (by omega));by_cases fE:k<d.nn
  ·obtain⟨b,off,e0,_,hb,d0,d1,d2,d3,d4,d5,d6,d7⟩:=jU (HT.below CS.out).2.2.1 fE;rw[e0];have hkk:=qy.out k fE;go_wp2_with fail
   rename World=>wa
   have HW0:Hid (Below (w.heap.size+1) w1 (wa.alloc (.cells (kQ (d.nd k) (x.nas k)) 48))):=HW.alloc (Nat.le_of_lt (aH hz1 HW.size)) _;have HR0:Hid (kP (wa.alloc (.cells (kQ (d.nd k) (x.nas k)) 48)) (w.heap.size+1) d.nn (xG d.nd k (sF d.nd k) 0)):=World.rowIs.alloc HR.out _
   go_loopw [22] (fun i wr=>∃(j:Nat),j<=(d.nd k).kn/\i=.int .i64 j/\Hid (Below (w.heap.size+1) w1 wr)/\Hid (kP wr (w.heap.size+1) d.nn (xG d.nd k (sF d.nd k) j))) (fun i _=>(d.nd k).kn-(intOf i).toNat)
   case atStart=>exact⟨0,aF _,rfl,HW0,HR0⟩
   case round=>
    obtain⟨j,hj,rfl,HW,HR⟩:=hrel;have YU:Hid (gZ w wr):=fB.trans (HW.mono (by omega));by_cases hjn:j<(d.nd k).kn
    ·obtain⟨b2,o2,e2,_,eG,g0⟩:=jd ((HT.below YU.out).2.2.2 k fE).2 hjn;rw[e2];have hc:=HK.out k fE j hjn;obtain⟨y,hy⟩:∃y:Nat,(d.nd k).c j=y:=⟨((d.nd k).c j).toNat,by omega⟩;rw[hy] at g0 hc;have hyn:y<d.nn:=by omega
     have r0:=World.rowIs.cell HR.out (i:=y) hyn;have rz:=World.rowIs.frozen HR.out;have hrg:=VP d.nd k (z40 qy.out k hk) j y;have HN:Hid (kP (wr.setCell ⟨w.heap.size+1,y,none⟩ (.int .i64 (xG d.nd k (sF d.nd k) j y+1))) (w.heap.size+1) d.nn (xG d.nd k (sF d.nd k) (j+1))):=(World.rowIs.set HR.out y _).congr fun i _=>by
      show _=Value.int .i64 (MX (xG d.nd k (sF d.nd k) j) ((d.nd k).c j).toNat i);unfold MX;rw[hy,bV];split<;>rfl
     have HW2:Hid (Below (w.heap.size+1) w1 (wr.setCell ⟨w.heap.size+1,y,none⟩ (.int .i64 (xG d.nd k (sF d.nd k) j y+1)))):=og HW.out (ah _) _;go_wp2_with fail;go_roundw
     case rel=>exact⟨j+1,by omega,by go_num,HW2,HN⟩
     case measure=>simp[intOf];omega
    ·obtain rfl:j=(d.nd k).kn:=by omega
     go_wp2_with fail;go_roundw
     case rel=>exact⟨k+1,by omega,by go_num,HW,HR⟩
     case measure=>simp[intOf];omega
  ·obtain rfl:k=d.nn:=by omega
   go_wp2_with fail;go_ret;exact⟨⟨_,rfl,by omega,HR.out⟩,CS.out⟩
theorem Z9{u:UD}{f n:Nat}(hf:f<u.n)(hn:n<(u.fn f).nn)(h3:∀f',f'<f->∀n',n'<(u.fn f').nn->¬Df u f' n')(h4:∀n',n'<n->¬Df u f n')(h5:Df u f n):Least (vK u) ⟨4,f,n⟩:=At2.least (by decide) h3 h4 hf hn h5
theorem j24{u:UD}(h2:∀f',f'<u.n->∀n',n'<(u.fn f').nn->¬Df u f' n'):Least (vK u) oI:=Least.zero (At2.none h2)
theorem yo7{u:UD}(h:¬Ea u):Least (vM u) ⟨1,0,0⟩:=At2.least (by decide) (fun f' hf'=>by omega) (fun n' hn'=>by omega) (by decide) (by decide) h
theorem j27{u:UD}(h:Ea u):Least (vM u) oI:=Least.zero (At2.none fun _ _ _ _ k=>k h)
theorem RU{u:UD}{f:Nat}(hf:f<u.n)(h2:∀f',f'<f->Dc u f')(h3:¬Dc u f):Least (rV u) ⟨2,f,0⟩:=At2.least (by decide) (fun f' hf' _ _ h=>h (h2 f' hf')) (fun n' hn'=>by omega) hf (by show 0<1;decide) h3
theorem j26{u:UD}(h:∀f,f<u.n->Dc u f):Least (rV u) oI:=Least.zero (At2.none fun f hf _ _ k=>k (h f hf))
theorem NP{i l m:Int}(h1:l<=i)(h2:i<=m):iV i l m=true:=by unfold iV;simp[h1,h2]
theorem ZG{i l m:Int}(h:¬(l<=i/\i<=m)):iV i l m=false:=by unfold iV;simp;omega
theorem qv1(L:Nat)(u:UD)(a:Option Addr)(cap:Nat)(fas:Nat->FA)(w:World)(hs:u.sm)(hT:jh L w u.n u.fn a fas):Calls Tryz.prog 39 #[vN u a cap] w fun e w'=>iG (vM u) w e w':=by
 have HT:Hid (jh L w u.n u.fn a fas):=hT;have HS:Hid u.sm:=hs;have hun:=hs.n;go_in;go_wp2_with fail
 go_loopw [3,9] (fun s i wr=>∃(k:Nat),k<=u.n/\i=.int .i64 k/\s=.int .i64 (tot u.fn k)/\Hid (Below (jG w u a cap).heap.size (jG w u a cap) wr)) (fun _ i _=>u.n-(intOf i).toNat)
 case atStart=>exact⟨0,aF _,rfl,rfl,ay _ _⟩
 case round=>
  obtain⟨k,hk,rfl,rfl,HB⟩:=hrel;have ht:=yr7 HS.out k hk;by_cases fE:k<u.n
  ·obtain⟨b,off,e0,_,hb,d0,d1,d2,d3,d4,d5,d6⟩:=jZ (HT.below (nO HB.out)).1 fE;have hnn:=(HS.fn k fE).nn;subst e0;go_wp2_with fail;go_roundw
   case rel=>exact⟨k+1,by omega,by go_num,by show _=Value.int .i64 ((tot u.fn k+(u.fn k).nn:Nat):Int);go_num,jo HB.out _⟩
   case measure=>simp[intOf];omega
  ·obtain rfl:k=u.n:=by omega
   have f0:wr.cell? ⟨w.heap.size,0,none⟩=some (.slice a u.n cap):=(JB HB.out).cell 0 rfl;have s0:=(q22 HB.out).cell (i:=0) (by omega);have s1:=(q22 HB.out).cell (i:=1) (by omega);have s2:=(q22 HB.out).cell (i:=2) (by omega);have sz:=(q22 HB.out).frozen;by_cases hz:Ea u
   ·have HL:Hid (Least (vM u) ⟨0,0,0⟩):=j27 hz;have hbt:iV (u.n:Int) 1 300=true:=NP (by have:=hz.1;omega) (by have:=hz.2.1;omega);have z3:¬(3000:Int)<tot u.fn u.n:=by have:=hz.2.2;omega
    go_wp2_with (go_at_call 47;refine(zQ _ _ _ _).mono ?_;rw[hbt];rintro e w1 ⟨rfl,rfl⟩);refine aG (v:=nC ⟨0,0,0⟩) (by simp[results,Tryz.results39,go_sem,s0,s1,s2]) rfl ?_;exact iG.of HL (qF (nO HB) _ _ _)
   ·have HL:Hid (Least (vM u) ⟨1,0,0⟩):=yo7 hz;by_cases c1:(1:Int)<=u.n/\(u.n:Int)<=300
    ·have hbt:iV (u.n:Int) 1 300=true:=NP c1.1 c1.2;have c3:(3000:Int)<tot u.fn u.n:=by unfold Ea at hz;omega
     go_wp2_with (go_at_call 47;refine(zQ _ _ _ _).mono ?_;rw[hbt];rintro e w1 ⟨rfl,rfl⟩);refine aG (v:=nC ⟨1,0,0⟩) (by simp[results,Tryz.results39,go_sem,s0,s1,s2]) rfl ?_;exact iG.of HL (qF (nO HB) _ _ _)
    ·have hbt:iV (u.n:Int) 1 300=false:=ZG c1;go_wp2_with (go_at_call 47;refine(zQ _ _ _ _).mono ?_;rw[hbt];rintro e w1 ⟨rfl,rfl⟩);refine aG (v:=nC ⟨1,0,0⟩) (by simp[results,Tryz.results39,go_sem,s0,s1,s2]) rfl ?_;exact iG.of HL (qF (nO HB) _ _ _)
def wI(d:FD):Prop:=(d.nn≠0/\d.vn<=200/\d.un<=200)/\(∀i,i<d.vn->1<=(d.v i).size/\(d.v i).size<=40)/\(0<=d.params/\d.params<=d.vn)/\(0<=d.line/\d.line<=100000)/\d.name.size<=40
theorem mW{u:UD}{f:Nat}:Dc u f↔wI (u.fn f)/\(f=0->(u.fn f).params=0/\(u.fn f).un=0):=by
 unfold Dc wI;constructor
 ·rintro⟨⟨a,b,c,d,e⟩,⟨f,g,h,i⟩,j⟩;exact⟨⟨⟨a,b,c⟩,j,⟨d,e⟩,⟨f,g⟩,h⟩,i⟩
 ·rintro⟨⟨⟨a,b,c⟩,j,⟨d,e⟩,⟨f,g⟩,h⟩,i⟩;exact⟨⟨a,b,c,d,e⟩,⟨f,g,h,i⟩,j⟩
theorem Ll(L:Nat)(d:FD)(x:FA)(w:World)(hs:d.sm)(hT:oM L w d x):Calls Tryz.prog 75 #[LJ d x] w fun e w'=>e=.returned (.bool (dB (wI d)))/\gZ w w':=by
 have HT:Hid (oM L w d x):=hT;have HS:Hid d.sm:=hs;have hvn:=hs.vn;have hun:=hs.un;have hnn:=hs.nn;have hnm:=hs.name;by_cases c1:d.nn=0
 ·have he:dB (wI d)=false:=q30 fun h=>h.1.1 c1;have q1:((d.nn:Int)==0)=true:=by simp;omega
  rw[he];go_in;go_wp2_with fail;go_ret;exact⟨rfl,q01 _ _⟩
 have q1:((d.nn:Int)==0)=false:=by simp;omega
 have C1:Hid (d.nn≠0):=c1;by_cases c2:200<d.vn
 ·have he:dB (wI d)=false:=q30 fun h=>by have:=h.1.2.1;omega
  rw[he];go_in;go_wp2_with fail;go_ret;exact⟨rfl,q01 _ _⟩
 by_cases c3:200<d.un
 ·have he:dB (wI d)=false:=q30 fun h=>by have:=h.1.2.2;omega
  rw[he];go_in;go_wp2_with fail;go_ret;exact⟨rfl,q01 _ _⟩
 have HW:Hid (Has (w.alloc (.cells (qG d x) 95)) w.heap.size (qG d x)):=Has.new _ _ _;go_in;go_wp2_with fail
 go_loopw [24] (fun i wr=>∃(k:Nat),k<=d.vn/\i=.int .i64 k/\Hid (∀j,j<k->1<=(d.v j).size/\(d.v j).size<=40)/\Hid (Below (w.alloc (.cells (qG d x) 95)).heap.size (w.alloc (.cells (qG d x) 95)) wr)) (fun i _=>d.vn-(intOf i).toNat)
 case atStart=>exact⟨0,aF _,rfl,fun j hj=>by omega,ay _ _⟩
 case round=>
  obtain⟨k,hk,rfl,HK,HB⟩:=hrel;have CS:Hid (gZ w wr):=iq (q01 _ _) HB.out;by_cases fE:k<d.vn
  ·obtain⟨b2,o2,e2,_,eG,g0⟩:=jd (HT.below CS.out).1 fE;rw[e2];have hsz:=HS.v k fE;by_cases hg:1<=(d.v k).size/\(d.v k).size<=40
   ·have hbt:iV ((d.v k).size:Int) 1 40=true:=NP (by omega) (by omega);have HG:Hid (1<=(d.v k).size/\(d.v k).size<=40):=hg;go_wp2_with (go_at_call 47;refine(zQ _ _ _ _).mono ?_;rw[hbt];rintro e w1 ⟨rfl,rfl⟩);go_roundw
    case rel=>exact⟨k+1,by omega,by go_num,fun j hj=>by
     by_cases e:j=k
     ·subst e;exact HG
     ·exact HK.out j (by omega),HB⟩
    case measure=>simp[intOf];omega
   ·have hbt:iV ((d.v k).size:Int) 1 40=false:=ZG (by omega);have HE:Hid (dB (wI d)=false):=q30 fun h=>hg (h.2.1 k fE);go_wp2_with (go_at_call 47;refine(zQ _ _ _ _).mono ?_;rw[hbt];rintro e w1 ⟨rfl,rfl⟩);go_ret;exact⟨jH HE.symm,CS⟩
  ·have HA:Hid (∀i,i<d.vn->1<=(d.v i).size/\(d.v i).size<=40):=fun i hi=>HK.out i (by omega);have x0:wr.cell? ⟨w.heap.size,0,none⟩=some (.string d.name):=(HW.call HB.out).cell 0 rfl;have x1:wr.cell? ⟨w.heap.size,1,none⟩=some (.int .i64 d.line):=(HW.call HB.out).cell 1 rfl;have x2:wr.cell? ⟨w.heap.size,2,none⟩=some (.int .i64 d.params):=(HW.call HB.out).cell 2 rfl;have x4:wr.cell? ⟨w.heap.size,4,none⟩=some (.slice x.va d.vn x.vc):=(HW.call HB.out).cell 4 rfl
   cases h1:iV d.params 0 d.vn
   ·have HE:Hid (dB (wI d)=false):=q30 fun h=>by
     rw[NP h.2.2.1.1 h.2.2.1.2] at h1;cases h1
    go_wp2_with (go_at_call 47;refine(zQ _ _ _ _).mono ?_;rw[h1];rintro e w1 ⟨rfl,rfl⟩);go_ret;exact⟨jH HE.symm,CS⟩
   ·have H1:Hid (0<=d.params/\d.params<=d.vn):=by show _/\_;unfold iV at h1;simpa using h1
    cases h2:iV d.line 0 100000
    ·have HE:Hid (dB (wI d)=false):=q30 fun h=>by
      rw[NP h.2.2.2.1.1 h.2.2.2.1.2] at h2;cases h2
     go_wp2_with (go_at_call 47;refine(zQ _ _ _ _).mono ?_;first|(rw[h1];rintro e w1 ⟨rfl,rfl⟩)|(rw[h2];rintro e w1 ⟨rfl,rfl⟩));go_ret;exact⟨jH HE.symm,CS⟩
    ·have H2:Hid (0<=d.line/\d.line<=100000):=by show _/\_;unfold iV at h2;simpa using h2
     by_cases c8:d.name.size<=40
     ·have HE:Hid (dB (wI d)=true):=pU ⟨⟨C1.out,by omega,by omega⟩,HA.out,H1.out,H2.out,c8⟩;go_wp2_with (go_at_call 47;refine(zQ _ _ _ _).mono ?_;first|(rw[h1];rintro e w1 ⟨rfl,rfl⟩)|(rw[h2];rintro e w1 ⟨rfl,rfl⟩));go_ret;exact⟨jH (by rw[HE.out];simp;omega),CS.out⟩
     ·have HE:Hid (dB (wI d)=false):=q30 fun h=>c8 h.2.2.2.2;go_wp2_with (go_at_call 47;refine(zQ _ _ _ _).mono ?_;first|(rw[h1];rintro e w1 ⟨rfl,rfl⟩)|(rw[h2];rintro e w1 ⟨rfl,rfl⟩));go_ret;exact⟨jH (by rw[HE.out];simp;omega),CS.out⟩
theorem zb5(L:Nat)(u:UD)(a:Option Addr)(cap:Nat)(fas:Nat->FA)(w:World)(hs:u.sm)(hT:jh L w u.n u.fn a fas):Calls Tryz.prog 40 #[vN u a cap] w fun e w'=>iG (rV u) w e w':=by
 have HT:Hid (jh L w u.n u.fn a fas):=hT;have HS:Hid u.sm:=hs;have hun:=hs.n;clear hT hs;go_in;go_wp2_with fail
 go_loopw [8] (fun i wr=>∃(k:Nat),k<=u.n/\i=.int .i64 k/\Hid (∀f',f'<k->Dc u f')/\Hid (Below (jG w u a cap).heap.size (jG w u a cap) wr)) (fun i _=>u.n-(intOf i).toNat)
 case atStart=>exact⟨0,aF _,rfl,fun f' hf'=>by omega,ay _ _⟩
 case round=>
  obtain⟨k,hk,rfl,HH,HB⟩:=hrel;by_cases fE:k<u.n
  ·have pI:Hid (jh L wr u.n u.fn a fas):=HT.below (nO HB.out);obtain⟨b,off,e0,_,hb,d0,d1,d2,d3,d4,d5,d6⟩:=jZ pI.1 fE;subst e0;have a05:=(HS.fn k fE).un;by_cases hk0:k=0
   ·subst hk0;simp only[Nat.zero_mul,Nat.add_zero] at d0 d1 d2 d3 d4 d5 d6;have HA:Hid (∀w2,Below (wr.alloc (.cells (qG (u.fn 0) (fas 0)) 95)).heap.size (wr.alloc (.cells (qG (u.fn 0) (fas 0)) 95)) w2->Below (jG w u (some ⟨b,off,none⟩) cap).heap.size (jG w u (some ⟨b,off,none⟩) cap) w2/\Has w2 wr.heap.size (qG (u.fn 0) (fas 0))):=fun w2 h=>⟨iq (jo HB.out _) h,Has.made h⟩;by_cases hh:wI (u.fn 0)
    ·have hdb:dB (wI (u.fn 0))=true:=pU hh;by_cases hp:(u.fn 0).params=0
     ·have qp:((u.fn 0).params != 0)=false:=by rw[hp];rfl
      by_cases hu:(u.fn 0).un=0
      ·have qu:(((u.fn 0).un:Int) != 0)=false:=by simp;omega
       have HG:Hid (Dc u 0):=mW.2 ⟨hh,fun _=>⟨hp,hu⟩⟩;clear hh hp hu;go_wp2_with (go_at_call 75;refine(Ll L (u.fn 0) (fas 0) _ (HS.fn 0 fE) ((pI.2 0 fE).alloc _)).mono ?_;rw[hdb];rintro e w2 ⟨rfl,eG⟩;have fD:Hid (Below (jG w u (some ⟨b,off,none⟩) cap).heap.size (jG w u (some ⟨b,off,none⟩) cap) w2):=(HA.out _ eG).1;have x2:w2.cell? ⟨wr.heap.size,2,none⟩=some (.int .i64 (u.fn 0).params):=(HA.out _ eG).2.cell 2 rfl;have x5:w2.cell? ⟨wr.heap.size,5,none⟩=some (.slice (fas 0).ua (u.fn 0).un (fas 0).uc):=(HA.out _ eG).2.cell 5 rfl;have s0:=(q22 fD.out).cell (i:=0) (by omega);have s1:=(q22 fD.out).cell (i:=1) (by omega);have s2:=(q22 fD.out).cell (i:=2) (by omega);have sz:=(q22 fD.out).frozen;clear eG);go_roundw
       case rel=>exact⟨0+1,by omega,by go_num,fun j hj=>by
        by_cases e:j=0
        ·subst e;exact HG
        ·exact HH.out j (by omega),fD⟩
       case measure=>simp[intOf];omega
      ·have qu:(((u.fn 0).un:Int) != 0)=true:=by simp;omega
       have HL:Hid (Least (rV u) ⟨2,0,0⟩):=RU fE HH.out fun h=>hu ((mW.1 h).2 rfl).2;clear hh hp hu;go_wp2_with (go_at_call 75;refine(Ll L (u.fn 0) (fas 0) _ (HS.fn 0 fE) ((pI.2 0 fE).alloc _)).mono ?_;rw[hdb];rintro e w2 ⟨rfl,eG⟩;have fD:Hid (Below (jG w u (some ⟨b,off,none⟩) cap).heap.size (jG w u (some ⟨b,off,none⟩) cap) w2):=(HA.out _ eG).1;have x2:w2.cell? ⟨wr.heap.size,2,none⟩=some (.int .i64 (u.fn 0).params):=(HA.out _ eG).2.cell 2 rfl;have x5:w2.cell? ⟨wr.heap.size,5,none⟩=some (.slice (fas 0).ua (u.fn 0).un (fas 0).uc):=(HA.out _ eG).2.cell 5 rfl;have s0:=(q22 fD.out).cell (i:=0) (by omega);have s1:=(q22 fD.out).cell (i:=1) (by omega);have s2:=(q22 fD.out).cell (i:=2) (by omega);have sz:=(q22 fD.out).frozen;clear eG);refine aG (v:=nC ⟨2,0,0⟩) (by simp[results,Tryz.results40,go_sem,s0,s1,s2]) rfl ?_;exact iG.of HL (qF (nO fD) _ _ _)
     ·have qp:((u.fn 0).params != 0)=true:=by simpa using hp
      have HL:Hid (Least (rV u) ⟨2,0,0⟩):=RU fE HH.out fun h=>hp ((mW.1 h).2 rfl).1;clear hh hp;go_wp2_with (go_at_call 75;refine(Ll L (u.fn 0) (fas 0) _ (HS.fn 0 fE) ((pI.2 0 fE).alloc _)).mono ?_;rw[hdb];rintro e w2 ⟨rfl,eG⟩;have fD:Hid (Below (jG w u (some ⟨b,off,none⟩) cap).heap.size (jG w u (some ⟨b,off,none⟩) cap) w2):=(HA.out _ eG).1;have x2:w2.cell? ⟨wr.heap.size,2,none⟩=some (.int .i64 (u.fn 0).params):=(HA.out _ eG).2.cell 2 rfl;have x5:w2.cell? ⟨wr.heap.size,5,none⟩=some (.slice (fas 0).ua (u.fn 0).un (fas 0).uc):=(HA.out _ eG).2.cell 5 rfl;have s0:=(q22 fD.out).cell (i:=0) (by omega);have s1:=(q22 fD.out).cell (i:=1) (by omega);have s2:=(q22 fD.out).cell (i:=2) (by omega);have sz:=(q22 fD.out).frozen;clear eG);refine aG (v:=nC ⟨2,0,0⟩) (by simp[results,Tryz.results40,go_sem,s0,s1,s2]) rfl ?_;exact iG.of HL (qF (nO fD) _ _ _)
    ·have hdb:dB (wI (u.fn 0))=false:=q30 hh;have HL:Hid (Least (rV u) ⟨2,0,0⟩):=RU fE HH.out fun h=>hh (mW.1 h).1;clear hh;go_wp2_with (go_at_call 75;refine(Ll L (u.fn 0) (fas 0) _ (HS.fn 0 fE) ((pI.2 0 fE).alloc _)).mono ?_;rw[hdb];rintro e w2 ⟨rfl,eG⟩;have fD:Hid (Below (jG w u (some ⟨b,off,none⟩) cap).heap.size (jG w u (some ⟨b,off,none⟩) cap) w2):=(HA.out _ eG).1;have x2:w2.cell? ⟨wr.heap.size,2,none⟩=some (.int .i64 (u.fn 0).params):=(HA.out _ eG).2.cell 2 rfl;have x5:w2.cell? ⟨wr.heap.size,5,none⟩=some (.slice (fas 0).ua (u.fn 0).un (fas 0).uc):=(HA.out _ eG).2.cell 5 rfl;have s0:=(q22 fD.out).cell (i:=0) (by omega);have s1:=(q22 fD.out).cell (i:=1) (by omega);have s2:=(q22 fD.out).cell (i:=2) (by omega);have sz:=(q22 fD.out).frozen;clear eG);refine aG (v:=nC ⟨2,0,0⟩) (by simp[results,Tryz.results40,go_sem,s0,s1,s2]) rfl ?_;exact iG.of HL (qF (nO fD) _ _ _)
   ·have qk:((k:Int)==0)=false:=by simp;omega
    have HK0:Hid (k≠0):=hk0;clear hk0;have HA:Hid (∀w2,Below (wr.alloc (.cells (qG (u.fn k) (fas k)) 95)).heap.size (wr.alloc (.cells (qG (u.fn k) (fas k)) 95)) w2->Below (jG w u (some ⟨b,off,none⟩) cap).heap.size (jG w u (some ⟨b,off,none⟩) cap) w2/\Has w2 wr.heap.size (qG (u.fn k) (fas k))):=fun w2 h=>⟨iq (jo HB.out _) h,Has.made h⟩;by_cases hh:wI (u.fn k)
    ·have hdb:dB (wI (u.fn k))=true:=pU hh;have HG:Hid (Dc u k):=mW.2 ⟨hh,fun h=>absurd h HK0.out⟩;clear hh;go_wp2_with (go_at_call 75;refine(Ll L (u.fn k) (fas k) _ (HS.fn k fE) ((pI.2 k fE).alloc _)).mono ?_;rw[hdb];rintro e w2 ⟨rfl,eG⟩;have fD:Hid (Below (jG w u (some ⟨b,off,none⟩) cap).heap.size (jG w u (some ⟨b,off,none⟩) cap) w2):=(HA.out _ eG).1;have x2:w2.cell? ⟨wr.heap.size,2,none⟩=some (.int .i64 (u.fn k).params):=(HA.out _ eG).2.cell 2 rfl;have x5:w2.cell? ⟨wr.heap.size,5,none⟩=some (.slice (fas k).ua (u.fn k).un (fas k).uc):=(HA.out _ eG).2.cell 5 rfl;have s0:=(q22 fD.out).cell (i:=0) (by omega);have s1:=(q22 fD.out).cell (i:=1) (by omega);have s2:=(q22 fD.out).cell (i:=2) (by omega);have sz:=(q22 fD.out).frozen;clear eG);go_roundw
     case rel=>exact⟨k+1,by omega,by go_num,fun j hj=>by
      by_cases e:j=k
      ·subst e;exact HG
      ·exact HH.out j (by omega),fD⟩
     case measure=>simp[intOf];omega
    ·have hdb:dB (wI (u.fn k))=false:=q30 hh;have HL:Hid (Least (rV u) ⟨2,k,0⟩):=RU fE HH.out fun h=>hh (mW.1 h).1;clear hh;go_wp2_with (go_at_call 75;refine(Ll L (u.fn k) (fas k) _ (HS.fn k fE) ((pI.2 k fE).alloc _)).mono ?_;rw[hdb];rintro e w2 ⟨rfl,eG⟩;have fD:Hid (Below (jG w u (some ⟨b,off,none⟩) cap).heap.size (jG w u (some ⟨b,off,none⟩) cap) w2):=(HA.out _ eG).1;have x2:w2.cell? ⟨wr.heap.size,2,none⟩=some (.int .i64 (u.fn k).params):=(HA.out _ eG).2.cell 2 rfl;have x5:w2.cell? ⟨wr.heap.size,5,none⟩=some (.slice (fas k).ua (u.fn k).un (fas k).uc):=(HA.out _ eG).2.cell 5 rfl;have s0:=(q22 fD.out).cell (i:=0) (by omega);have s1:=(q22 fD.out).cell (i:=1) (by omega);have s2:=(q22 fD.out).cell (i:=2) (by omega);have sz:=(q22 fD.out).frozen;clear eG);refine aG (v:=nC ⟨2,k,0⟩) (by simp[results,Tryz.results40,go_sem,s0,s1,s2]) rfl ?_;exact iG.of HL (qF (nO fD) _ _ _)
  ·obtain rfl:k=u.n:=by omega
   have HL:Hid (Least (rV u) ⟨0,0,0⟩):=j26 HH.out;have s0:=(q22 HB.out).cell (i:=0) (by omega);have s1:=(q22 HB.out).cell (i:=1) (by omega);have s2:=(q22 HB.out).cell (i:=2) (by omega);have sz:=(q22 HB.out).frozen;go_wp2_with fail;refine aG (v:=nC ⟨0,0,0⟩) (by simp[results,Tryz.results40,go_sem,s0,s1,s2]) rfl ?_;exact iG.of HL (qF (nO HB) _ _ _)
def xO(a b:Int):Int:=if a<b then -1 else if b<a then 1 else 0
theorem zh1(a:Int)(w:World):Calls Tryz.prog 161 #[.int .i64 a] w fun e w'=>e=.returned (.bool false)/\w'=w:=by
 go_in;go_wp2_with fail;go_ret;exact⟨by simp,rfl⟩
theorem z13(a b:Int)(w:World):Calls Tryz.prog 127 #[.int .i64 a,.int .i64 b] w fun e w'=>e=.returned (.int .i64 (xO a b))/\w'=w:=by
 go_in;go_wp2_with (go_at_call 161;refine(zh1 _ _).mono ?_;rintro e w1 ⟨rfl,rfl⟩);all_goals go_ret
 all_goals exact⟨y81 (by unfold xO;(repeat split)<;>first|rfl|omega),rfl⟩
def Gs(x y z:Int):Int:=if x=0 then(if y=0 then z else y) else x
theorem y96(x y z:Int)(R:Nat)(w:World)(h0:w.cell? ⟨R,0,none⟩=some (.int .i64 x))(h1:w.cell? ⟨R,1,none⟩=some (.int .i64 y))(h2:w.cell? ⟨R,2,none⟩=some (.int .i64 z)):Calls Tryz.prog 126 #[.slice (some ⟨R,0,none⟩) 3 3] w fun e w'=>e=.returned (.int .i64 (Gs x y z))/\w'=w:=by
 by_cases c0:x=0
 ·by_cases c1:y=0
  ·by_cases c2:z=0
   ·subst c0 c1 c2;go_in;go_wp2_with fail;refine bW 4 ?_;rw[bC];go_wp2_with fail;rw[bC];go_wp2_with fail;rw[bC];go_wp2_with fail;rw[bC];go_wp2_with fail;go_ret;exact⟨rfl,rfl⟩
   ·have q2:(z != 0)=true:=by simpa using c2
    subst c0 c1;go_in;go_wp2_with fail;refine bW 3 ?_;rw[bC];go_wp2_with fail;rw[bC];go_wp2_with fail;rw[bC];go_wp2_with fail;go_ret;exact⟨rfl,rfl⟩
  ·have q1:(y != 0)=true:=by simpa using c1
   have hv:Gs x y z=y:=by unfold Gs;rw[aO c0,au c1]
   rw[hv];subst c0;go_in;go_wp2_with fail;refine bW 2 ?_;rw[bC];go_wp2_with fail;rw[bC];go_wp2_with fail;go_ret;exact⟨rfl,rfl⟩
 ·have q0:(x != 0)=true:=by simpa using c0
  have hv:Gs x y z=x:=by unfold Gs;rw[au c0]
  rw[hv];go_in;go_wp2_with fail;refine bW 1 ?_;rw[bC];go_wp2_with fail;go_ret;exact⟨rfl,rfl⟩
theorem ye5(a b:FT):0<Gs (xO a.c b.c) (xO a.f b.f) (xO a.n b.n)↔¬a.le b:=by
 unfold Gs xO FT.le
 (repeat split)<;>omega
abbrev AL(w:World)(a b:FT):World:=((w.alloc (.cells #[.int .i64 (a.c:Int),.int .i64 (a.f:Int),.int .i64 (a.n:Int)] 64)).alloc (.cells #[.int .i64 (b.c:Int),.int .i64 (b.f:Int),.int .i64 (b.n:Int)] 64)).alloc (.cells #[.int .i64 0,.int .i64 0,.int .i64 0] 64)
abbrev F2S(B ac af an bc bf bn:Nat)(w':World):Prop:=w'.cell? ⟨B,0,none⟩=some (.int .i64 (ac:Int))/\w'.cell? ⟨B,1,none⟩=some (.int .i64 (af:Int))/\w'.cell? ⟨B,2,none⟩=some (.int .i64 (an:Int))/\w'.cell? ⟨B+1,0,none⟩=some (.int .i64 (bc:Int))/\w'.cell? ⟨B+1,1,none⟩=some (.int .i64 (bf:Int))/\w'.cell? ⟨B+1,2,none⟩=some (.int .i64 (bn:Int))
theorem Zf{w wr:World}{a b:FT}(h:Below (AL w a b).heap.size (AL w a b) wr):gZ w wr:=iq (xW w _ _ _) h
theorem Zg{w wr:World}{ac af an bc bf bn:Nat}(h:Below (AL w ⟨ac,af,an⟩ ⟨bc,bf,bn⟩).heap.size (AL w ⟨ac,af,an⟩ ⟨bc,bf,bn⟩) wr):F2S w.heap.size ac af an bc bf bn wr:=by
 have h1:Has wr w.heap.size #[.int .i64 (ac:Int),.int .i64 (af:Int),.int .i64 (an:Int)]:=(((Has.new w _ _).alloc _).alloc _).call h;have h2:Has wr (w.heap.size+1) #[.int .i64 (bc:Int),.int .i64 (bf:Int),.int .i64 (bn:Int)]:=by
  have:=((Has.new (w.alloc (.cells #[.int .i64 (ac:Int),.int .i64 (af:Int),.int .i64 (an:Int)] 64)) #[.int .i64 (bc:Int),.int .i64 (bf:Int),.int .i64 (bn:Int)] 64).alloc (.cells #[.int .i64 0,.int .i64 0,.int .i64 0] 64)).call h;simpa using this
 exact⟨h1.cell 0 rfl,h1.cell 1 rfl,h1.cell 2 rfl,h2.cell 0 rfl,h2.cell 1 rfl,h2.cell 2 rfl⟩
theorem QG{w wr:World}{a b:FT}(h:Below (AL w a b).heap.size (AL w a b) wr):wr.rowIs (w.heap.size+1 + 1) 64 3 (fun _=>.int .i64 0):=by
 have h1:=World.rowIs_alloc ((w.alloc (.cells #[.int .i64 (a.c:Int),.int .i64 (a.f:Int),.int .i64 (a.n:Int)] 64)).alloc (.cells #[.int .i64 (b.c:Int),.int .i64 (b.f:Int),.int .i64 (b.n:Int)] 64)) #[.int .i64 0,.int .i64 0,.int .i64 0] 64 (fun _=>.int .i64 0) (fun i hi=>by
  have:i=0\/i=1\/i=2:=by simp at hi;omega
  rcases this with rfl|rfl|rfl<;>rfl)
 have h2:=h1.of_block (h.block _ h1.lt);simpa using h2
theorem WE(a b:FT)(w:World):Calls Tryz.prog 80 #[nC a,nC b] w fun e w'=>e=.returned (nC (wJ a b))/\gZ w w':=by
 obtain⟨ac,af,an⟩:=a;obtain⟨bc,bf,bn⟩:=b;go_in
 go_upto_region 1 with fail
 obtain⟨w3,HB,fV⟩:∃w3,Hid (Below (AL w ⟨ac,af,an⟩ ⟨bc,bf,bn⟩).heap.size (AL w ⟨ac,af,an⟩ ⟨bc,bf,bn⟩) w3)/\AL w ⟨ac,af,an⟩ ⟨bc,bf,bn⟩=w3:=⟨_,ay _ _,rfl⟩;simp only[AL] at fV;rw[fV];clear fV;have HS:Hid (∀W,gZ w3 W->F2S w.heap.size ac af an bc bf bn W):=fun W hW=>Zg (iq HB.out hW);have CS:Hid (gZ w w3):=Zf HB.out
 go_region_held3 (fun w'=>w'.cell? ⟨w.heap.size,0,none⟩=some (.int .i64 (ac:Int))/\w'.cell? ⟨w.heap.size,1,none⟩=some (.int .i64 (af:Int))/\w'.cell? ⟨w.heap.size,2,none⟩=some (.int .i64 (an:Int))/\w'.cell? ⟨w.heap.size+1,0,none⟩=some (.int .i64 (bc:Int))/\w'.cell? ⟨w.heap.size+1,1,none⟩=some (.int .i64 (bf:Int))/\w'.cell? ⟨w.heap.size+1,2,none⟩=some (.int .i64 (bn:Int))) (first|(with_reducible exact HS.out _ (ay _ _))|(with_reducible exact HS.out _ (q01 _ _))|(with_reducible exact HS.out _ (ay _ _).drew)|(with_reducible exact HS.out _ (q01 _ _).drew)) (first|(go_at_call 127;refine(z13 _ _ _).mono ?_;rintro e w1 ⟨rfl,rfl⟩)|(go_at_call 126;refine(y96 (xO (ac:Int) (bc:Int)) (xO (af:Int) (bf:Int)) (xO (an:Int) (bn:Int)) _ _ (by simp) (by simp) (by simp)).mono ?_;rintro e w1 ⟨rfl,rfl⟩))
 obtain⟨w4,hw4⟩:∃w4,w4=(w3.alloc (.cells #[.int .i64 (xO (ac:Int) (bc:Int)),.int .i64 (xO (af:Int) (bf:Int)),.int .i64 (xO (an:Int) (bn:Int))] 3)).drew:=⟨_,rfl⟩;have HB4:Hid (Below (AL w ⟨ac,af,an⟩ ⟨bc,bf,bn⟩).heap.size (AL w ⟨ac,af,an⟩ ⟨bc,bf,bn⟩) w4):=by show Below _ _ _;rw[hw4];exact(jo HB _).drew
 rw[<-hw4];clear hw4 HB CS;have Fg:Hid (gZ w w4):=Zf HB4.out;obtain⟨a0,a1,a2,b0,b1,b2⟩:=Zg HB4.out;have s0:=(QG HB4.out).cell (i:=0) (by omega);have s1:=(QG HB4.out).cell (i:=1) (by omega);have s2:=(QG HB4.out).cell (i:=2) (by omega);have sz:=(QG HB4.out).frozen;by_cases c0:ac=0
 ·subst c0;go_wp2_with fail;refine aG (v:=nC ⟨bc,bf,bn⟩) (by simp[results,Tryz.results80,go_sem,s0,s1,s2]) rfl ?_;refine⟨?_,og (og (og Fg (aZ _ 2) _) (aZ _ 2) _) (aZ _ 2) _⟩;exact z87 (by unfold wJ;rw[aO rfl])
 ·have q0:((ac:Int)==0)=false:=by simp;omega
  by_cases c1:bc=0
  ·subst c1;go_wp2_with fail;refine aG (v:=nC ⟨ac,af,an⟩) (by simp[results,Tryz.results80,go_sem,s0,s1,s2]) rfl ?_;refine⟨?_,og (og (og Fg (aZ _ 2) _) (aZ _ 2) _) (aZ _ 2) _⟩;exact z87 (by unfold wJ;rw[au c0,au (fun h=>h.1 rfl)])
  ·have q1:((bc:Int) != 0)=true:=by simp;omega
   have hle:=ye5 ⟨ac,af,an⟩ ⟨bc,bf,bn⟩;by_cases c2:0<Gs (xO (ac:Int) (bc:Int)) (xO (af:Int) (bf:Int)) (xO (an:Int) (bn:Int))
   ·have HV:Hid (wJ ⟨ac,af,an⟩ ⟨bc,bf,bn⟩=⟨bc,bf,bn⟩):=by show _=_;unfold wJ;rw[au c0,aO ⟨c1,hle.1 c2⟩]
    clear hle;go_wp2_with fail;refine aG (v:=nC ⟨bc,bf,bn⟩) (by simp[results,Tryz.results80,go_sem,s0,s1,s2]) rfl ?_;refine⟨?_,og (og (og Fg (aZ _ 2) _) (aZ _ 2) _) (aZ _ 2) _⟩;exact z87 (by rw[HV.out])
   ·have HV:Hid (wJ ⟨ac,af,an⟩ ⟨bc,bf,bn⟩=⟨ac,af,an⟩):=by show _=_;unfold wJ;rw[au c0,au (fun h=>c2 (hle.2 h.2))]
    clear hle;go_wp2_with fail;refine aG (v:=nC ⟨ac,af,an⟩) (by simp[results,Tryz.results80,go_sem,s0,s1,s2]) rfl ?_;refine⟨?_,og (og (og Fg (aZ _ 2) _) (aZ _ 2) _) (aZ _ 2) _⟩;exact z87 (by rw[HV.out])
end
section
variable {nd:Nat->ND}{m:Nat}{k n:Int}{rs cs:List Nat}
def Ahead(m:Nat)(cs:List Nat):Prop:=∀i z:Nat,cs[i]?=some z->z<m
end
theorem Sm{nd:Nat->ND}{i x:Nat}{p:Nat->Int}:∀j,(∀b,b<j->((nd i).c b).toNat≠x)->xP nd i p j x=p x
 |0,_=>rfl
 |j+1,h=>by
  unfold xP I7;rw[au (fun e=>h j (by omega) e.symm)];exact Sm j fun b hb=>h b (by omega)
theorem ZQ{nd:Nat->ND}{i x b0:Nat}{p:Nat->Int}(hp:p x = -2)(h0:((nd i).c b0).toNat=x):∀j,b0<j->(∀b,b<j->b≠b0->((nd i).c b).toNat≠x)->xP nd i p j x=(i:Int)
 |0,h,_=>by omega
 |j+1,h,hu=>by
  unfold xP I7;by_cases e:j=b0
  ·subst e;rw[aO h0.symm,h0,Sm j (fun b hb=>hu b (by omega) (by omega)),aO hp]
  ·rw[au (fun c=>hu j (by omega) e c.symm)];exact ZQ hp h0 j (by omega) fun b hb hne=>hu b (by omega) hne
theorem z39{nd:Nat->ND}{x:Nat}:∀i,(∀a,a<i->∀b,b<(nd a).kn->((nd a).c b).toNat≠x)->xR nd i x = -2
 |0,_=>rfl
 |i+1,h=>by
  unfold xR;rw[Sm _ (h i (by omega))];exact z39 i fun a ha=>h a (by omega)
theorem z38{nd:Nat->ND}{N x a0 b0:Nat}(hb:b0<(nd a0).kn)(h0:((nd a0).c b0).toNat=x)(hu:∀a b,a<N->b<(nd a).kn->((nd a).c b).toNat=x->a=a0/\b=b0):∀i,a0<i->i<=N->xR nd i x=(a0:Int)
 |0,h,_=>by omega
 |i+1,h,hi=>by
  unfold xR;by_cases e:i=a0
  ·subst e;exact ZQ (z39 i fun a ha b hb' c=>by have:=(hu a b (by omega) hb' c).1;omega) h0 _ hb fun b hb' hne c=>hne (hu _ b (by omega) hb' c).2
  ·rw[Sm _ fun b hb' c=>e (hu i b (by omega) hb' c).1];exact z38 hb h0 hu i (by omega) (by omega)
end Go.Proofs.YthnkncpegihbhaaGreatDoor
