import Derived.Test.YtihnikeikhjndaaGreatDoorUnD
import Derived.BigQuiet
import Derived.Deep.DeepCutAuto
set_option maxRecDepth 100000
set_option maxHeartbeats 16000000
namespace Go.Proofs.YtihnikeikhjndaaGreatDoor
section
open Go.RowKit
attribute [local go_sem] aN
attribute [local go_sem ↓] Go.wp_at_zero Go.wp_at_succ
abbrev iE(x:FT):Value:=.agg #[.int .i64 x.c,.int .i64 x.f,.int .i64 x.n]
theorem iC{d:FD}{x k:Nat}{v:Int}:jH d x (k+1) v↔jH d x k v\/(d.nd x).r k=v:=by
 unfold jH;constructor
 ·rintro(h|h|⟨b,hb,h⟩)
  ·exact .inl (.inl h)
  ·exact .inl (.inr (.inl h))
  ·by_cases e:b=k
   ·subst e;exact .inr h
   ·exact .inl (.inr (.inr ⟨b,by omega,h⟩))
 ·rintro((h|h|⟨b,hb,h⟩)|h)
  ·exact .inl h
  ·exact .inr (.inl h)
  ·exact .inr (.inr ⟨b,by omega,h⟩)
  ·exact .inr (.inr ⟨k,by omega,h⟩)
theorem Wu{d:FD}{x:Nat}{v:Int}:jH d (x+1) 0 v↔jH d x 0 v\/(mW (d.nd x).k/\z36 (d.nd x) v):=by
 unfold jH;constructor
 ·rintro(h|⟨m,hm,h⟩|⟨b,hb,h⟩)
  ·exact .inl (.inl h)
  ·by_cases e:m=x
   ·subst e;exact .inr h
   ·exact .inl (.inr (.inl ⟨m,by omega,h⟩))
  ·omega
 ·rintro((h|⟨m,hm,h⟩|⟨b,hb,h⟩)|h)
  ·exact .inl h
  ·exact .inr (.inl ⟨m,by omega,h⟩)
  ·omega
  ·exact .inr (.inl ⟨x,by omega,h⟩)
theorem ZV{d:FD}{x:Nat}{v:Int}:jH d x (d.nd x).rn v↔jH d x 0 v\/z36 (d.nd x) v:=by
 unfold jH z36;constructor
 ·rintro(h|h|h)
  ·exact .inl (.inl h)
  ·exact .inl (.inr (.inl h))
  ·exact .inr h
 ·rintro((h|h|⟨b,hb,h⟩)|h)
  ·exact .inl h
  ·exact .inr (.inl h)
  ·omega
  ·exact .inr (.inr h)
def eH(w:World)(B:Nat)(d:FD)(x k:Nat):Prop:=w.rowIs B 4 d.vn (fun i=>.bool (dB (jH d x k i)))
theorem eH.below{w w':World}{B:Nat}{d:FD}{x k:Nat}(h:eH w B d x k)(hb:ah w w'):eH w' B d x k:=World.rowIs.of_block h (hb.block _ h.lt)
theorem eH.congr{w:World}{B:Nat}{d:FD}{x k x' k':Nat}(h:eH w B d x k)(e:∀v:Nat,jH d x k v↔jH d x' k' v):eH w B d x' k':=World.rowIs.congr h fun i _=>by
 by_cases c:jH d x k i
 ·rw[jI c,jI ((e i).1 c)]
 ·rw[iP c,iP fun c'=>c ((e i).2 c')]
theorem eH.set{w:World}{B:Nat}{d:FD}{x k:Nat}(h:eH w B d x k){y:Nat}(hy:(d.nd x).r k=y):eH (w.setCell ⟨B,y,none⟩ (.bool true)) B d x (k+1):=(World.rowIs.set h y (.bool true)).congr fun i _=>by
 by_cases e:i=y
 ·rw[if_pos e,jI (iC.2 (.inr (by rw[hy,e])))]
 ·rw[if_neg e];by_cases c:jH d x k i
  ·rw[jI c,jI (iC.2 (.inl c))]
  ·rw[iP c,iP fun c'=>(iC.1 c').elim c fun h=>e (by omega)]
theorem Has.far{w:World}{B:Nat}{A:Array Value}(h:Has w B A){p:Addr}(hp:p.block≠B)(v:Value):Has (w.setCell p v) B A:=
 ⟨by have:=h.1;simpa using this,fun o=>(World.cell?_setCell_far w p ⟨B,o,none⟩ v hp).trans (h.2 o)⟩
abbrev FQ(d:ND)(ra:Option Addr)(rn:Nat)(x:NA):Array Value:=#[.int .i64 d.k,.int .i64 d.l,.int .i64 d.o,.int .i64 d.n,.float .f64 d.f,.string d.s,.slice ra rn x.rc,.slice x.ka d.kn x.kc]
theorem GH(w:World)(z:Value)(t:TypeId){b n:Nat}(hb:b=w.heap.size):(w.alloc (.cells (madeCells #[z] n) t)).rowIs b t n (fun _=>z):=by
 subst hb;exact World.rowIs_made w z n t
def aQ(P:FT->Prop)(w:World)(e:Ending)(w':World):Prop:=∃x:FT,e=.returned (iE x)/\Least P x/\ah w w'
theorem aQ.of{P:FT->Prop}{w w':World}{x:FT}(h:Least P x)(hb:ah w w'):aQ P w (.returned (iE x)) w':=⟨x,rfl,h,hb⟩
abbrev cZ(w:World)(u:UD)(a:Option Addr)(cap:Nat):World:=(w.alloc (.cells #[.slice a u.n cap] 31)).alloc (.cells #[.int .i64 0,.int .i64 0,.int .i64 0] 56)
theorem iH{w wr:World}{u:UD}{a:Option Addr}{cap:Nat}(h:Below (cZ w u a cap).heap.size (cZ w u a cap) wr):ah w wr:=aH (iy w _ _) h
theorem DY{w wr:World}{u:UD}{a:Option Addr}{cap:Nat}(h:Below (cZ w u a cap).heap.size (cZ w u a cap) wr):Has wr w.heap.size #[.slice a u.n cap]:=((Has.new w _ _).alloc _).call h
theorem bT{w wr:World}{u:UD}{a:Option Addr}{cap:Nat}(h:Below (cZ w u a cap).heap.size (cZ w u a cap) wr):wr.rowIs (w.heap.size+1) 56 3 (fun _=>.int .i64 0):=by
 have h1:=World.rowIs_alloc (w.alloc (.cells #[.slice a u.n cap] 31)) #[.int .i64 0,.int .i64 0,.int .i64 0] 56 (fun _=>.int .i64 0) (fun i hi=>by
  have:i=0\/i=1\/i=2:=by simp at hi;omega
  rcases this with rfl|rfl|rfl<;>rfl)
 have h2:=h1.of_block (h.block _ h1.lt);simpa using h2
theorem jR{w wr:World}(h:ah w wr)(c f n:Value):ah w (((wr.setCell ⟨w.heap.size+1,0,none⟩ c).setCell ⟨w.heap.size+1,1,none⟩ f).setCell ⟨w.heap.size+1,2,none⟩ n):=
 iT (iT (iT h (Nat.le_add_right _ 1) _) (Nat.le_add_right _ 1) _) (Nat.le_add_right _ 1) _
theorem Vw{u:UD}(hs:u.sm):∀k,k<=u.n->tot u.fn k<=k*1048576
 |0,_=>Nat.zero_le _
 |k+1,h=>by
  have h1:=Vw hs k (by omega);have h2:=(hs.fn k (by omega)).nn;unfold tot;omega
def aW(i l m:Int):Bool:=decide (l<=i) && decide (i<=m)
def je(i m:Int):Bool:=decide (0<=i) && decide (i<m)
theorem q24(i l m:Int)(w:World):Calls Tryz.prog 45 #[.int .i64 i,.int .i64 l,.int .i64 m] w fun e w'=>e=.returned (.bool (aW i l m))/\w'=w:=by
 go_in;go_wp2_with fail;all_goals go_ret
 all_goals exact⟨by simp[aW, *]<;>(intros;omega),rfl⟩
theorem q11(i m:Int)(w:World):Calls Tryz.prog 143 #[.int .i64 i,.int .i64 m] w fun e w'=>e=.returned (.bool (je i m))/\w'=w:=by
 go_in;go_wp2_with fail;all_goals go_ret
 all_goals exact⟨by simp[je, *]<;>(intros;omega),rfl⟩
theorem zb1{x:Int}(h0:0<=x)(h1:x<18446744073709551616):IntKind.u64.wrap x=x:=by
 simp only[IntKind.wrap_u64];omega
theorem yh5(m:Nat)(hm:m<18446744073709551616):bits .and .u64 (m:Int) 1=((m%2:Nat):Int):=by
 have hb:bits .and .u64 (m:Int) 1=IntKind.u64.wrap (((BitVec.ofInt 64 (m:Int)) &&& (BitVec.ofInt 64 1)).toNat:Int):=rfl;rw[hb];have h1:(BitVec.ofInt 64 (m:Int)).toNat=m:=by simp;omega
 have h2:((BitVec.ofInt 64 (m:Int)) &&& (BitVec.ofInt 64 1)).toNat=m%2:=by
  rw[BitVec.toNat_and,h1];show m &&& 1=m%2;exact Nat.and_one_is_mod m
 rw[h2,zb1 (by omega) (by omega)]
theorem yn2{s:Nat}(hs:s<18446744073709551616){k:Int}:(bits .and .u64 ((s:Int) / 2 ^ min k.toNat 64) 1==1)=Nat.testBit s k.toNat:=by
 have hd:((s:Int) / 2 ^ min k.toNat 64)=((s / 2 ^ min k.toNat 64:Nat):Int):=by simp
 rw[hd,yh5 _ (Nat.lt_of_le_of_lt (Nat.div_le_self _ _) hs)];by_cases h:k.toNat<=64
 ·rw[Nat.min_eq_left h,Nat.testBit_eq_decide_div_mod_eq];rw[Bool.eq_iff_iff,beq_iff_eq,decide_eq_true_eq];omega
 ·rw[Nat.min_eq_right (by omega),TA (by omega) (by omega),Nat.div_eq_of_lt (by omega)];rfl
theorem yE(s:Nat)(hs:s<18446744073709551616)(k:Int)(w:World):Calls Tryz.prog 125 #[.int .u64 (s:Int),.int .i64 k] w fun e w'=>e=.returned (.bool (setB s k))/\w'=w:=by
 by_cases h0:0<=k
 ·go_in;go_wp2_with fail;go_ret;refine⟨dh ?_,rfl⟩;rw[yn2 hs];unfold setB;simp[h0]
 ·go_in;go_wp2_with fail;go_ret;refine⟨dh ?_,rfl⟩;unfold setB;simp;omega
theorem qv3(d:ND)(x:NA)(w:World):Calls Tryz.prog 126 #[eG d x] w fun e w'=>e=.returned (.bool (if iJ d.k then decide (1<=d.l) && decide (d.l<=100000) else d.l==0))/\ah w w':=by
 cases hst:iJ d.k
 ·have hs2:setB 32766 d.k=false:=(FV d.k).trans hst;go_in;go_wp2_with (go_at_call 125;refine(yE 32766 (by decide) _ _).mono ?_;rw[hs2];rintro e w1 ⟨rfl,rfl⟩);go_ret;exact⟨rfl,q01 _ _⟩
 ·have hs2:setB 32766 d.k=true:=(FV d.k).trans hst;go_in;go_wp2_with (first|(go_at_call 125;refine(yE 32766 (by decide) _ _).mono ?_;rw[hs2];rintro e w1 ⟨rfl,rfl⟩)|(go_at_call 45;refine(q24 _ _ _ _).mono ?_;rintro e w1 ⟨rfl,rfl⟩));go_ret;exact⟨rfl,q01 _ _⟩
def zu(d:ND)(x:NA)(v:Int)(o n f s r k:Bool):Prop:=∀w:World,Calls Tryz.prog 157 #[eG d x,.int .i64 v] w fun e w'=>e=.returned (.bool (dH d o n f s r k))/\ah w w'
theorem zp9(d:ND)(x:NA):zu d x 0 false false false false false false:=by
 intro w;go_in;go_wp2_with fail;all_goals go_ret
 all_goals exact⟨by simp[dH,fz,se, *],q01 _ _⟩
theorem zF(d:ND)(x:NA):zu d x 32 false false false false false true:=by
 intro w;go_in;go_wp2_with fail;all_goals go_ret
 all_goals exact⟨by simp[dH,fz,se, *],q01 _ _⟩
theorem LH(d:ND)(x:NA):zu d x 48 false false false false true true:=by
 intro w;go_in;go_wp2_with fail;all_goals go_ret
 all_goals exact⟨by simp[dH,fz,se, *],q01 _ _⟩
theorem LG(d:ND)(x:NA):zu d x 34 false true false false false true:=by
 intro w;go_in;go_wp2_with fail;all_goals go_ret
 all_goals exact⟨by simp[dH,fz,se, *],q01 _ _⟩
theorem z43(d:ND)(x:NA):zu d x 2 false true false false false false:=by
 intro w;go_in;go_wp2_with fail;all_goals go_ret
 all_goals exact⟨by simp[dH,fz,se, *],q01 _ _⟩
theorem zp8(d:ND)(x:NA):zu d x 4 false false true false false false:=by
 intro w;go_in;go_wp2_with fail;all_goals go_ret
 all_goals exact⟨by simp[dH,fz,se, *],q01 _ _⟩
theorem zp7(d:ND)(x:NA):zu d x 8 false false false true false false:=by
 intro w;go_in;go_wp2_with fail;all_goals go_ret
 all_goals exact⟨by simp[dH,fz,se, *],q01 _ _⟩
theorem zk8(d:ND)(x:NA):zu d x 16 false false false false true false:=by
 intro w;go_in;go_wp2_with fail;all_goals go_ret
 all_goals exact⟨by simp[dH,fz,se, *],q01 _ _⟩
theorem Ht(d:ND)(x:NA):zu d x 33 true false false false false true:=by
 intro w;go_in;go_wp2_with fail;all_goals go_ret
 all_goals exact⟨by simp[dH,fz,se, *],q01 _ _⟩
structure AH(w:World)(F m:Nat)(nd:Nat->ND)(nas:Nat->NA):Prop where
 at':∃na nc,w.cell? ⟨F,0,none⟩=some (.slice na m nc)/\aP 8 0 w na m (fun i=>dJ (nd i) (nas i))
theorem AH.below{w w':World}{F m:Nat}{nd:Nat->ND}{nas:Nat->NA}(h:AH w F m nd nas)(hb:ah w w'):AH w' F m nd nas:=by
 obtain⟨na,nc,h1,h2⟩:=h.at';exact⟨na,nc,zo3 hb h1,h2.below hb⟩
theorem ye5{s:Nat}{nd:Nat->ND}{m:Nat}{c:Int}{k:Nat}(h:c=k)(hk:k<m):aS s nd m c=setB s (nd k).k:=by
 unfold aS;subst h;simp[hk]
theorem y48{s:Nat}{nd:Nat->ND}{m:Nat}{c:Int}(h:¬(0<=c/\c<m)):aS s nd m c=false:=by
 unfold aS;by_cases h0:0<=c
 ·have:¬c<m:=fun h1=>h ⟨h0,h1⟩;simp[this]
 ·simp[h0]
theorem Bh(F m:Nat)(nd:Nat->ND)(nas:Nat->NA)(a:Option Addr)(n cap:Nat)(c:Nat->Int)(s:Nat)(w:World)(hs:s<18446744073709551616)(hn:n<=1048576)(hA:AH w F m nd nas)(hT:jQ 0 w a n c):Calls Tryz.prog 158 #[.pointer (some ⟨F,0,none⟩),.slice a n cap,.int .u64 (s:Int)] w fun e w'=>e=.returned (.bool (allB (fun i=>aS s nd m (c i)) 0 n))/\w'=w:=by
 have HT:Hid (aP 1 0 w a n fun i=>#[.int .i64 (c i)]):=hT;obtain⟨na,nc,f0,hN⟩:=hA.at';have HN:Hid (aP 8 0 w na m (fun i=>dJ (nd i) (nas i))):=hN;clear hT hA hN;go_in;go_wp2_with fail
 go_loopw [11] (fun i wr=>∃(k:Nat),k<=n/\i=.int .i64 k/\Hid (∀j,j<k->aS s nd m (c j)=true)/\wr=w) (fun i _=>n-(intOf i).toNat)
 case atStart=>exact⟨0,Nat.zero_le _,rfl,fun j hj=>by omega,rfl⟩
 case round=>
  obtain⟨k,hk,rfl,HK,rfl⟩:=hrel;by_cases hkn:k<n
  ·obtain⟨b,off,rfl,_,hb,d0⟩:=aX HT.out hkn;by_cases hin:0<=c k/\c k<m
   ·obtain⟨y,hy⟩:∃y:Nat,c k=y:=⟨(c k).toNat,by omega⟩;have hym:y<m:=by omega
    have hks:aS s nd m (c k)=setB s (nd y).k:=ye5 hy hym;have xY:Hid (aS s nd m (c k)=setB s (nd y).k):=hks;rw[hy] at d0;obtain⟨b2,o2,rfl,_,hb2,g0,_⟩:=dK HN.out hym;have hw:je (y:Int) (m:Int)=true:=by unfold je;simp;omega
    clear hks hin hy
    cases hset:setB s (nd y).k
    ·have hv:allB (fun i=>aS s nd m (c i)) 0 n=false:=NW (Nat.zero_le _) hkn (xY.trans hset);have HV:Hid (allB (fun i=>aS s nd m (c i)) 0 n=false):=hv;clear hv;go_wp2_with (first|(go_at_call 143;refine(q11 _ _ _).mono ?_;rw[hw];rintro e w1 ⟨rfl,rfl⟩)|(go_at_call 125;refine(yE s hs _ _).mono ?_;rw[hset];rintro e w1 ⟨rfl,rfl⟩));go_ret;exact⟨dh HV.symm,rfl⟩
    ·have HV:Hid (aS s nd m (c k)=true):=xY.trans hset;go_wp2_with (first|(go_at_call 143;refine(q11 _ _ _).mono ?_;rw[hw];rintro e w1 ⟨rfl,rfl⟩)|(go_at_call 125;refine(yE s hs _ _).mono ?_;rw[hset];rintro e w1 ⟨rfl,rfl⟩));go_roundw
     case rel=>exact⟨k+1,by omega,by go_num,fun j hj=>by
      by_cases e:j=k
      ·subst e;exact HV
      ·exact HK.out j (by omega),by first|rfl|trivial⟩
     case measure=>simp[intOf];omega
   ·have hv:allB (fun i=>aS s nd m (c i)) 0 n=false:=NW (Nat.zero_le _) hkn (y48 hin);have HV:Hid (allB (fun i=>aS s nd m (c i)) 0 n=false):=hv;have hw:je (c k) (m:Int)=false:=by unfold je;simp;omega
    clear hv hin;go_wp2_with (go_at_call 143;refine(q11 _ _ _).mono ?_;rw[hw];rintro e w1 ⟨rfl,rfl⟩);go_ret;exact⟨dh HV.symm,rfl⟩
  ·have HV:Hid (allB (fun i=>aS s nd m (c i)) 0 n=true):=au.2 fun i _ hi=>HK.out i (by omega);go_wp2_with fail;go_ret;exact⟨dh HV.symm,rfl⟩
theorem L6{w:World}{a:Option Addr}{n:Nat}{c:Nat->Int}(h:jQ 0 w a n c){b o:Nat}(e:a=some ⟨b,o,none⟩)(i j:Nat)(hij:i+j<=n):jQ 0 w (some ⟨b,o+i,none⟩) j (fun k=>c (i+k)):=fun hj=>by
 obtain⟨b',o',e',_,h1,h2⟩:=h (by omega);obtain⟨rfl,rfl⟩:b=b'/\o=o':=by rw[e] at e';simpa using e'
 refine⟨b,o+i,rfl,Nat.zero_le _,h1,fun k hk l hl=>?_⟩;have:=h2 (i+k) (by omega) l hl;rw[<-this];congr 2;omega
theorem Lj(F m:Nat)(nd:Nat->ND)(nas:Nat->NA)(a:Option Addr)(n cap:Nat)(c:Nat->Int)(R j:Nat)(s:Nat->Nat)(w:World)(hs:∀i,i<j->s i<18446744073709551616)(hn:n<=1048576)(hj:j<=4)(hcap:n<=cap)(hA:AH w F m nd nas)(hT:jQ 0 w a n c)(hR:∀i,i<j->w.cell? ⟨R,i,none⟩=some (.int .u64 (s i:Int))):Calls Tryz.prog 159 #[.pointer (some ⟨F,0,none⟩),.slice a n cap,.slice (some ⟨R,0,none⟩) j j] w fun e w'=>e=.returned (.bool ((n:Int)==j && allB (fun i=>aS (s i) nd m (c i)) 0 j))/\w'=w:=by
 have HT:Hid (jQ 0 w a n c):=hT;have HA:Hid (AH w F m nd nas):=hA;have HR:Hid (∀i,i<j->w.cell? ⟨R,i,none⟩=some (.int .u64 (s i:Int))):=hR;have HS:Hid (∀i,i<j->s i<18446744073709551616):=hs;clear hT hA hR hs;by_cases hnj:n=j
 ·subst hnj;have he:((n:Int)==n && allB (fun i=>aS (s i) nd m (c i)) 0 n)=allB (fun i=>aS (s i) nd m (c i)) 0 n:=by simp
  rw[he];clear he;go_in;go_wp2_with fail
  go_loopw [16] (fun i wr=>∃(k:Nat),k<=n/\i=.int .i64 k/\Hid (∀j,j<k->aS (s j) nd m (c j)=true)/\wr=w) (fun i _=>n-(intOf i).toNat)
  case atStart=>exact⟨0,Nat.zero_le _,rfl,fun j hj=>by omega,rfl⟩
  case round=>
   obtain⟨k,hk,rfl,HK,rfl⟩:=hrel;by_cases hkn:k<n
   ·have r0:=HR.out k hkn;obtain⟨b,off,rfl,_,hb,d0⟩:=aX HT.out hkn;have HI:Hid (jQ 0 wr (some ⟨b,off+k,none⟩) 1 (fun i=>c (k+i))):=L6 HT.out rfl k 1 (by omega);have hone:allB (fun i=>aS (s k) nd m (c (k+i))) 0 1=aS (s k) nd m (c k):=by
     rw[Bool.eq_iff_iff,au];exact⟨fun h=>h 0 (Nat.le_refl _) (by omega),fun h i _ hi=>by
      obtain rfl:i=0:=by omega
      exact h⟩
    clear d0
    cases hks:aS (s k) nd m (c k)
    ·have HV:Hid (allB (fun i=>aS (s i) nd m (c i)) 0 n=false):=NW (Nat.zero_le _) hkn hks;rw[hks] at hone;go_wp2_with (go_at_call 158;refine(Bh F m nd nas _ _ _ (fun i=>c (k+i)) (s k) _ (HS.out k hkn) (by omega) HA.out HI.out).mono ?_;rw[hone];rintro e w1 ⟨rfl,rfl⟩);go_ret;exact⟨dh HV.symm,rfl⟩
    ·have HV:Hid (aS (s k) nd m (c k)=true):=hks;rw[hks] at hone;go_wp2_with (go_at_call 158;refine(Bh F m nd nas _ _ _ (fun i=>c (k+i)) (s k) _ (HS.out k hkn) (by omega) HA.out HI.out).mono ?_;rw[hone];rintro e w1 ⟨rfl,rfl⟩);go_roundw
     case rel=>exact⟨k+1,by omega,by go_num,fun j hj=>by
      by_cases e:j=k
      ·subst e;exact HV
      ·exact HK.out j (by omega),by first|rfl|trivial⟩
     case measure=>simp[intOf];omega
   ·have HV:Hid (allB (fun i=>aS (s i) nd m (c i)) 0 n=true):=au.2 fun i _ hi=>HK.out i (by omega);go_wp2_with fail;go_ret;exact⟨dh HV.symm,rfl⟩
 ·have he:((n:Int)==j && allB (fun i=>aS (s i) nd m (c i)) 0 j)=false:=by
   have:((n:Int)==j)=false:=by simp;omega
   rw[this];rfl
  rw[he];have q:((n:Int) != (j:Int))=true:=by simp;omega
  clear he;go_in;go_wp2_with fail;go_ret;exact⟨rfl,rfl⟩
theorem Lr(F m:Nat)(nd:Nat->ND)(nas:Nat->NA)(a:Option Addr)(n cap:Nat)(c:Nat->Int)(R:Nat)(s0:Nat)(w:World)(b0:s0<18446744073709551616)(hn:n<=1048576)(hcap:n<=cap)(hA:AH w F m nd nas)(hT:jQ 0 w a n c)(h0:w.cell? ⟨R,0,none⟩=some (.int .u64 (s0:Int))):Calls Tryz.prog 159 #[.pointer (some ⟨F,0,none⟩),.slice a n cap,.slice (some ⟨R,0,none⟩) 1 1] w fun e w'=>e=.returned (.bool ((n:Int)==1 && aS s0 nd m (c 0)))/\w'=w:=by
 refine(Lj F m nd nas a n cap c R 1 (fun i=>s0) w (fun i hi=>?_) hn (by omega) hcap hA hT (fun i hi=>?_)).mono ?_
 ·rcases(show i=0 by omega) with rfl
  ·exact b0
 ·rcases(show i=0 by omega) with rfl
  ·exact h0
 ·rintro e w' ⟨rfl,rfl⟩;refine⟨dh ?_,rfl⟩;rw[Bool.eq_iff_iff];simp only[Bool.and_eq_true,au];constructor
  ·rintro⟨h,k⟩;exact⟨h,k 0 (by omega) (by omega)⟩
  ·rintro⟨h,k0⟩;refine⟨h,fun i _ hi=>?_⟩;rcases(show i=0 by omega) with rfl
   ·exact k0
theorem EW(F m:Nat)(nd:Nat->ND)(nas:Nat->NA)(a:Option Addr)(n cap:Nat)(c:Nat->Int)(R:Nat)(s0 s1:Nat)(w:World)(b0:s0<18446744073709551616)(b1:s1<18446744073709551616)(hn:n<=1048576)(hcap:n<=cap)(hA:AH w F m nd nas)(hT:jQ 0 w a n c)(h0:w.cell? ⟨R,0,none⟩=some (.int .u64 (s0:Int)))(h1:w.cell? ⟨R,1,none⟩=some (.int .u64 (s1:Int))):Calls Tryz.prog 159 #[.pointer (some ⟨F,0,none⟩),.slice a n cap,.slice (some ⟨R,0,none⟩) 2 2] w fun e w'=>e=.returned (.bool ((n:Int)==2 && aS s0 nd m (c 0) && aS s1 nd m (c 1)))/\w'=w:=by
 refine(Lj F m nd nas a n cap c R 2 (fun i=>if i=0 then s0 else s1) w (fun i hi=>?_) hn (by omega) hcap hA hT (fun i hi=>?_)).mono ?_
 ·rcases(show i=0\/i=1 by omega) with rfl|rfl
  ·exact b0
  ·exact b1
 ·rcases(show i=0\/i=1 by omega) with rfl|rfl
  ·exact h0
  ·exact h1
 ·rintro e w' ⟨rfl,rfl⟩;refine⟨dh ?_,rfl⟩;rw[Bool.eq_iff_iff];simp only[Bool.and_eq_true,au];constructor
  ·rintro⟨h,k⟩;exact⟨⟨h,k 0 (by omega) (by omega)⟩,k 1 (by omega) (by omega)⟩
  ·rintro⟨⟨h,k0⟩,k1⟩;refine⟨h,fun i _ hi=>?_⟩;rcases(show i=0\/i=1 by omega) with rfl|rfl
   ·exact k0
   ·exact k1
theorem zl6(F m:Nat)(nd:Nat->ND)(nas:Nat->NA)(a:Option Addr)(n cap:Nat)(c:Nat->Int)(R:Nat)(s0 s1 s2 s3:Nat)(w:World)(b0:s0<18446744073709551616)(b1:s1<18446744073709551616)(b2:s2<18446744073709551616)(b3:s3<18446744073709551616)(hn:n<=1048576)(hcap:n<=cap)(hA:AH w F m nd nas)(hT:jQ 0 w a n c)(h0:w.cell? ⟨R,0,none⟩=some (.int .u64 (s0:Int)))(h1:w.cell? ⟨R,1,none⟩=some (.int .u64 (s1:Int)))(h2:w.cell? ⟨R,2,none⟩=some (.int .u64 (s2:Int)))(h3:w.cell? ⟨R,3,none⟩=some (.int .u64 (s3:Int))):Calls Tryz.prog 159 #[.pointer (some ⟨F,0,none⟩),.slice a n cap,.slice (some ⟨R,0,none⟩) 4 4] w fun e w'=>e=.returned (.bool ((n:Int)==4 && aS s0 nd m (c 0) && aS s1 nd m (c 1) && aS s2 nd m (c 2) && aS s3 nd m (c 3)))/\w'=w:=by
 refine(Lj F m nd nas a n cap c R 4 (fun i=>if i=0 then s0 else if i=1 then s1 else if i=2 then s2 else s3) w (fun i hi=>?_) hn (by omega) hcap hA hT (fun i hi=>?_)).mono ?_
 ·rcases(show i=0\/i=1\/i=2\/i=3 by omega) with rfl|rfl|rfl|rfl
  ·exact b0
  ·exact b1
  ·exact b2
  ·exact b3
 ·rcases(show i=0\/i=1\/i=2\/i=3 by omega) with rfl|rfl|rfl|rfl
  ·exact h0
  ·exact h1
  ·exact h2
  ·exact h3
 ·rintro e w' ⟨rfl,rfl⟩;refine⟨dh ?_,rfl⟩;rw[Bool.eq_iff_iff];simp only[Bool.and_eq_true,au];constructor
  ·rintro⟨h,k⟩;exact⟨⟨⟨⟨h,k 0 (by omega) (by omega)⟩,k 1 (by omega) (by omega)⟩,k 2 (by omega) (by omega)⟩,k 3 (by omega) (by omega)⟩
  ·rintro⟨⟨⟨⟨h,k0⟩,k1⟩,k2⟩,k3⟩;refine⟨h,fun i _ hi=>?_⟩;rcases(show i=0\/i=1\/i=2\/i=3 by omega) with rfl|rfl|rfl|rfl
   ·exact k0
   ·exact k1
   ·exact k2
   ·exact k3
def BO(i:Nat):Nat:=if i=0 then 549754765312 else if i=1 then 2 else 34
theorem ym9(i:Nat):BO i<18446744073709551616:=by unfold BO;split<;>(try split)<;>decide
theorem ch2{nd:Nat->ND}{m:Nat}{c:Nat->Int}:allB (fun i=>aS (BO i) nd m (c i)) 0 2=(aS fF nd m (c 0) && aS pF nd m (c 1)):=by
 rw[Bool.eq_iff_iff,au,Bool.and_eq_true];exact⟨fun h=>⟨h 0 (by omega) (by omega),h 1 (by omega) (by omega)⟩,fun h i _ hi=>by
  rcases(show i=0\/i=1 by omega) with rfl|rfl
  ·exact h.1
  ·exact h.2⟩
theorem ch3{nd:Nat->ND}{m:Nat}{c:Nat->Int}:allB (fun i=>aS (BO i) nd m (c i)) 0 3=(aS fF nd m (c 0) && aS pF nd m (c 1) && aS Gm nd m (c 2)):=by
 rw[Bool.eq_iff_iff,au,Bool.and_eq_true,Bool.and_eq_true];exact⟨fun h=>⟨⟨h 0 (by omega) (by omega),h 1 (by omega) (by omega)⟩,h 2 (by omega) (by omega)⟩,fun h i _ hi=>by
  rcases(show i=0\/i=1\/i=2 by omega) with rfl|rfl|rfl
  ·exact h.1.1
  ·exact h.1.2
  ·exact h.2⟩
def Ya(nd:Nat->ND)(m:Nat)(c:Nat->Int)(n j:Nat):Bool:=(n:Int)==j && allB (fun i=>aS (BO i) nd m (c i)) 0 j
theorem zb9(F m:Nat)(nd:Nat->ND)(nas:Nat->NA)(a:Option Addr)(n cap:Nat)(c:Nat->Int)(R j:Nat)(w:World)(hn:n<=1048576)(hj:j<=4)(hcap:n<=cap)(hA:AH w F m nd nas)(hT:jQ 0 w a n c)(hR:∀i,i<j->w.cell? ⟨R,i,none⟩=some (.int .u64 (BO i:Int))):Calls Tryz.prog 159 #[.pointer (some ⟨F,0,none⟩),.slice a n cap,.slice (some ⟨R,0,none⟩) j j] w fun e w'=>e=.returned (.bool (Ya nd m c n j))/\w'=w:=Lj F m nd nas a n cap c R j BO w (fun i _=>ym9 i) hn hj hcap hA hT hR
theorem Zk(F m:Nat)(nd:Nat->ND)(nas:Nat->NA)(w:World)(hA:AH w F m nd nas)(hN:ay 0 w (nd m) (nas m))(hs:(nd m).sm)(hcap:(nd m).kn<=(nas m).kc):Calls Tryz.prog 106 #[.pointer (some ⟨F,0,none⟩),eG (nd m) (nas m)] w fun e w'=>e=.returned (.bool (dH (nd m) false false false false false true && (((((nd m).kn:Int)==2 && aS fF nd m ((nd m).c 0) && aS pF nd m ((nd m).c 1)) || (((nd m).kn:Int)==3 && aS fF nd m ((nd m).c 0) && aS pF nd m ((nd m).c 1) && aS Gm nd m ((nd m).c 2))))))/\ah w w':=by
 have HA:Hid (AH w F m nd nas):=hA;have HN:Hid (ay 0 w (nd m) (nas m)):=hN;have hkn:=hs.kn;clear hA hN hs;go_in;go_wp2_with (first|(go_at_call 157;refine(zF (nd m) (nas m) _).mono ?_;rintro e w2 ⟨rfl,hb2⟩;have HB2:Hid (ah w w2):=aH (q01 _ _) hb2;have n2:w2.cell? ⟨w.heap.size,2,none⟩=some (.int .i64 (nd m).o):=(Has.made hb2).cell 2 rfl;have n3:w2.cell? ⟨w.heap.size,3,none⟩=some (.int .i64 (nd m).n):=(Has.made hb2).cell 3 rfl;have n4:w2.cell? ⟨w.heap.size,4,none⟩=some (.float .f64 (nd m).f):=(Has.made hb2).cell 4 rfl;have n5:w2.cell? ⟨w.heap.size,5,none⟩=some (.string (nd m).s):=(Has.made hb2).cell 5 rfl;have n6:w2.cell? ⟨w.heap.size,6,none⟩=some (.slice (nas m).ra (nd m).rn (nas m).rc):=(Has.made hb2).cell 6 rfl;have n7:w2.cell? ⟨w.heap.size,7,none⟩=some (.slice (nas m).ka (nd m).kn (nas m).kc):=(Has.made hb2).cell 7 rfl;have hz2:w.heap.size<w2.heap.size:=(Has.made hb2).lt;clear hb2)|(go_at_call 159;refine(zb9 F m nd nas _ _ _ (nd m).c _ _ _ (by omega) (by omega) hcap (by first|exact HA.below (bH HB2.out _)|exact HA.below (bH (bH HB2.out _) _)) (by first|exact aP.below HN.2 (bH HB2.out _)|exact aP.below HN.2 (bH (bH HB2.out _) _)) (fun i hi=>by rcases i with _|_|_|i<;>first|(simp[BO];done)|omega)).mono ?_;rintro e w1 ⟨rfl,rfl⟩));all_goals go_ret
 all_goals refine⟨dh ?_,by first|exact HB2.out|exact bH HB2.out _|exact bH (bH HB2.out _) _⟩
 all_goals first|(simp_all [Ya,ch2,ch3,Bool.and_assoc];done)|trace_state
theorem y55(F m:Nat)(nd:Nat->ND)(nas:Nat->NA)(w:World)(hA:AH w F m nd nas)(hN:ay 0 w (nd m) (nas m))(hs:(nd m).sm)(hcap:(nd m).kn<=(nas m).kc):Calls Tryz.prog 120 #[.pointer (some ⟨F,0,none⟩),eG (nd m) (nas m)] w fun e w'=>e=.returned (.bool (dH (nd m) true false false false false true && (aW (nd m).o 19 22 && (((nd m).kn:Int)==1 && aS fF nd m ((nd m).c 0)))))/\ah w w':=by
 have HA:Hid (AH w F m nd nas):=hA;have HN:Hid (ay 0 w (nd m) (nas m)):=hN;have hkn:=hs.kn;have hrn:=hs.rn;have hsz:=hs.s;clear hA hN hs;go_in;go_wp2_with (first|(go_at_call 157;refine(Ht (nd m) (nas m) _).mono ?_;rintro e w2 ⟨rfl,hb2⟩;have HB2:Hid (ah w w2):=aH (q01 _ _) hb2;have n2:w2.cell? ⟨w.heap.size,2,none⟩=some (.int .i64 (nd m).o):=(Has.made hb2).cell 2 rfl;have n3:w2.cell? ⟨w.heap.size,3,none⟩=some (.int .i64 (nd m).n):=(Has.made hb2).cell 3 rfl;have n4:w2.cell? ⟨w.heap.size,4,none⟩=some (.float .f64 (nd m).f):=(Has.made hb2).cell 4 rfl;have n5:w2.cell? ⟨w.heap.size,5,none⟩=some (.string (nd m).s):=(Has.made hb2).cell 5 rfl;have n6:w2.cell? ⟨w.heap.size,6,none⟩=some (.slice (nas m).ra (nd m).rn (nas m).rc):=(Has.made hb2).cell 6 rfl;have n7:w2.cell? ⟨w.heap.size,7,none⟩=some (.slice (nas m).ka (nd m).kn (nas m).kc):=(Has.made hb2).cell 7 rfl;have hz2:w.heap.size<w2.heap.size:=(Has.made hb2).lt;clear hb2)|(go_at_call 45;refine(q24 _ _ _ _).mono ?_;rintro e w1 ⟨rfl,rfl⟩)|(go_at_call 159;refine(Lr F m nd nas _ _ _ (nd m).c _ 549754765312 _ (by decide) (by omega) hcap (HA.below (bH HB2.out _)) (aP.below HN.2 (bH HB2.out _)) (by simp)).mono ?_;rintro e w1 ⟨rfl,rfl⟩));all_goals go_ret
 all_goals refine⟨dh ?_,by first|exact HB2.out|exact bH HB2.out _|exact bH (bH HB2.out _) _⟩
 all_goals first|rfl|(simp[*];done)|(simp[*];omega)|(simp[*];intros;omega)
theorem Zj(F m:Nat)(nd:Nat->ND)(nas:Nat->NA)(w:World)(hA:AH w F m nd nas)(hN:ay 0 w (nd m) (nas m))(hs:(nd m).sm)(hcap:(nd m).kn<=(nas m).kc):Calls Tryz.prog 121 #[.pointer (some ⟨F,0,none⟩),eG (nd m) (nas m)] w fun e w'=>e=.returned (.bool (dH (nd m) true false false false false true && (aW (nd m).o 1 18 && (((nd m).kn:Int)==2 && aS fF nd m ((nd m).c 0) && aS fF nd m ((nd m).c 1)))))/\ah w w':=by
 have HA:Hid (AH w F m nd nas):=hA;have HN:Hid (ay 0 w (nd m) (nas m)):=hN;have hkn:=hs.kn;have hrn:=hs.rn;have hsz:=hs.s;clear hA hN hs;go_in;go_wp2_with (first|(go_at_call 157;refine(Ht (nd m) (nas m) _).mono ?_;rintro e w2 ⟨rfl,hb2⟩;have HB2:Hid (ah w w2):=aH (q01 _ _) hb2;have n2:w2.cell? ⟨w.heap.size,2,none⟩=some (.int .i64 (nd m).o):=(Has.made hb2).cell 2 rfl;have n3:w2.cell? ⟨w.heap.size,3,none⟩=some (.int .i64 (nd m).n):=(Has.made hb2).cell 3 rfl;have n4:w2.cell? ⟨w.heap.size,4,none⟩=some (.float .f64 (nd m).f):=(Has.made hb2).cell 4 rfl;have n5:w2.cell? ⟨w.heap.size,5,none⟩=some (.string (nd m).s):=(Has.made hb2).cell 5 rfl;have n6:w2.cell? ⟨w.heap.size,6,none⟩=some (.slice (nas m).ra (nd m).rn (nas m).rc):=(Has.made hb2).cell 6 rfl;have n7:w2.cell? ⟨w.heap.size,7,none⟩=some (.slice (nas m).ka (nd m).kn (nas m).kc):=(Has.made hb2).cell 7 rfl;have hz2:w.heap.size<w2.heap.size:=(Has.made hb2).lt;clear hb2)|(go_at_call 45;refine(q24 _ _ _ _).mono ?_;rintro e w1 ⟨rfl,rfl⟩)|(go_at_call 159;refine(EW F m nd nas _ _ _ (nd m).c _ 549754765312 549754765312 _ (by decide) (by decide) (by omega) hcap (HA.below (bH HB2.out _)) (aP.below HN.2 (bH HB2.out _)) (by simp) (by simp)).mono ?_;rintro e w1 ⟨rfl,rfl⟩));all_goals go_ret
 all_goals refine⟨dh ?_,by first|exact HB2.out|exact bH HB2.out _|exact bH (bH HB2.out _) _⟩
 all_goals first|rfl|(simp[*];done)|(simp[*];omega)|(simp[*];intros;omega)
theorem y57(F m:Nat)(nd:Nat->ND)(nas:Nat->NA)(w:World)(hA:AH w F m nd nas)(hN:ay 0 w (nd m) (nas m))(hs:(nd m).sm)(hcap:(nd m).kn<=(nas m).kc):Calls Tryz.prog 108 #[.pointer (some ⟨F,0,none⟩),eG (nd m) (nas m)] w fun e w'=>e=.returned (.bool (dH (nd m) false false false false true true && (((nd m).rn:Int)==1 && (((nd m).kn:Int)==4 && aS fF nd m ((nd m).c 0) && aS fF nd m ((nd m).c 1) && aS fF nd m ((nd m).c 2) && aS pF nd m ((nd m).c 3)))))/\ah w w':=by
 have HA:Hid (AH w F m nd nas):=hA;have HN:Hid (ay 0 w (nd m) (nas m)):=hN;have hkn:=hs.kn;have hrn:=hs.rn;have hsz:=hs.s;clear hA hN hs;go_in;go_wp2_with (first|(go_at_call 157;refine(LH (nd m) (nas m) _).mono ?_;rintro e w2 ⟨rfl,hb2⟩;have HB2:Hid (ah w w2):=aH (q01 _ _) hb2;have n2:w2.cell? ⟨w.heap.size,2,none⟩=some (.int .i64 (nd m).o):=(Has.made hb2).cell 2 rfl;have n3:w2.cell? ⟨w.heap.size,3,none⟩=some (.int .i64 (nd m).n):=(Has.made hb2).cell 3 rfl;have n4:w2.cell? ⟨w.heap.size,4,none⟩=some (.float .f64 (nd m).f):=(Has.made hb2).cell 4 rfl;have n5:w2.cell? ⟨w.heap.size,5,none⟩=some (.string (nd m).s):=(Has.made hb2).cell 5 rfl;have n6:w2.cell? ⟨w.heap.size,6,none⟩=some (.slice (nas m).ra (nd m).rn (nas m).rc):=(Has.made hb2).cell 6 rfl;have n7:w2.cell? ⟨w.heap.size,7,none⟩=some (.slice (nas m).ka (nd m).kn (nas m).kc):=(Has.made hb2).cell 7 rfl;have hz2:w.heap.size<w2.heap.size:=(Has.made hb2).lt;clear hb2)|(go_at_call 159;refine(zl6 F m nd nas _ _ _ (nd m).c _ 549754765312 549754765312 549754765312 2 _ (by decide) (by decide) (by decide) (by decide) (by omega) hcap (HA.below (bH HB2.out _)) (aP.below HN.2 (bH HB2.out _)) (by simp) (by simp) (by simp) (by simp)).mono ?_;rintro e w1 ⟨rfl,rfl⟩));all_goals go_ret
 all_goals refine⟨dh ?_,by first|exact HB2.out|exact bH HB2.out _|exact bH (bH HB2.out _) _⟩
 all_goals first|rfl|(simp[*];done)|(simp[*];omega)|(simp[*];intros;omega)
theorem yf2(F m:Nat)(nd:Nat->ND)(nas:Nat->NA)(w:World)(hA:AH w F m nd nas)(hN:ay 0 w (nd m) (nas m))(hs:(nd m).sm)(hcap:(nd m).kn<=(nas m).kc):Calls Tryz.prog 109 #[.pointer (some ⟨F,0,none⟩),eG (nd m) (nas m)] w fun e w'=>e=.returned (.bool (dH (nd m) false false false false true true && (aW (nd m).rn 1 4 && (((nd m).kn:Int)==2 && aS fF nd m ((nd m).c 0) && aS pF nd m ((nd m).c 1)))))/\ah w w':=by
 have HA:Hid (AH w F m nd nas):=hA;have HN:Hid (ay 0 w (nd m) (nas m)):=hN;have hkn:=hs.kn;have hrn:=hs.rn;have hsz:=hs.s;clear hA hN hs;go_in;go_wp2_with (first|(go_at_call 157;refine(LH (nd m) (nas m) _).mono ?_;rintro e w2 ⟨rfl,hb2⟩;have HB2:Hid (ah w w2):=aH (q01 _ _) hb2;have n2:w2.cell? ⟨w.heap.size,2,none⟩=some (.int .i64 (nd m).o):=(Has.made hb2).cell 2 rfl;have n3:w2.cell? ⟨w.heap.size,3,none⟩=some (.int .i64 (nd m).n):=(Has.made hb2).cell 3 rfl;have n4:w2.cell? ⟨w.heap.size,4,none⟩=some (.float .f64 (nd m).f):=(Has.made hb2).cell 4 rfl;have n5:w2.cell? ⟨w.heap.size,5,none⟩=some (.string (nd m).s):=(Has.made hb2).cell 5 rfl;have n6:w2.cell? ⟨w.heap.size,6,none⟩=some (.slice (nas m).ra (nd m).rn (nas m).rc):=(Has.made hb2).cell 6 rfl;have n7:w2.cell? ⟨w.heap.size,7,none⟩=some (.slice (nas m).ka (nd m).kn (nas m).kc):=(Has.made hb2).cell 7 rfl;have hz2:w.heap.size<w2.heap.size:=(Has.made hb2).lt;clear hb2)|(go_at_call 45;refine(q24 _ _ _ _).mono ?_;rintro e w1 ⟨rfl,rfl⟩)|(go_at_call 159;refine(EW F m nd nas _ _ _ (nd m).c _ 549754765312 2 _ (by decide) (by decide) (by omega) hcap (HA.below (bH HB2.out _)) (aP.below HN.2 (bH HB2.out _)) (by simp) (by simp)).mono ?_;rintro e w1 ⟨rfl,rfl⟩));all_goals go_ret
 all_goals refine⟨dh ?_,by first|exact HB2.out|exact bH HB2.out _|exact bH (bH HB2.out _) _⟩
 all_goals first|rfl|(simp[*];done)|(simp[*];omega)|(simp[*];intros;omega)
theorem VO(F m:Nat)(nd:Nat->ND)(nas:Nat->NA)(w:World)(hA:AH w F m nd nas)(hN:ay 0 w (nd m) (nas m))(hs:(nd m).sm)(hcap:(nd m).kn<=(nas m).kc):Calls Tryz.prog 105 #[.pointer (some ⟨F,0,none⟩),eG (nd m) (nas m)] w fun e w'=>e=.returned (.bool (dH (nd m) false false false false false true && ((((nd m).kn:Int)==1 && aS KU nd m ((nd m).c 0)))))/\ah w w':=by
 have HA:Hid (AH w F m nd nas):=hA;have HN:Hid (ay 0 w (nd m) (nas m)):=hN;have hkn:=hs.kn;have hrn:=hs.rn;have hsz:=hs.s;clear hA hN hs;go_in;go_wp2_with (first|(go_at_call 157;refine(zF (nd m) (nas m) _).mono ?_;rintro e w2 ⟨rfl,hb2⟩;have HB2:Hid (ah w w2):=aH (q01 _ _) hb2;have n2:w2.cell? ⟨w.heap.size,2,none⟩=some (.int .i64 (nd m).o):=(Has.made hb2).cell 2 rfl;have n3:w2.cell? ⟨w.heap.size,3,none⟩=some (.int .i64 (nd m).n):=(Has.made hb2).cell 3 rfl;have n4:w2.cell? ⟨w.heap.size,4,none⟩=some (.float .f64 (nd m).f):=(Has.made hb2).cell 4 rfl;have n5:w2.cell? ⟨w.heap.size,5,none⟩=some (.string (nd m).s):=(Has.made hb2).cell 5 rfl;have n6:w2.cell? ⟨w.heap.size,6,none⟩=some (.slice (nas m).ra (nd m).rn (nas m).rc):=(Has.made hb2).cell 6 rfl;have n7:w2.cell? ⟨w.heap.size,7,none⟩=some (.slice (nas m).ka (nd m).kn (nas m).kc):=(Has.made hb2).cell 7 rfl;have hz2:w.heap.size<w2.heap.size:=(Has.made hb2).lt;clear hb2)|(go_at_call 159;refine(Lr F m nd nas _ _ _ (nd m).c _ 17179869184 _ (by decide) (by omega) hcap (HA.below (bH HB2.out _)) (aP.below HN.2 (bH HB2.out _)) (by simp)).mono ?_;rintro e w1 ⟨rfl,rfl⟩));all_goals go_ret
 all_goals refine⟨dh ?_,by first|exact HB2.out|exact bH HB2.out _|exact bH (bH HB2.out _) _⟩
 all_goals first|rfl|(simp[*];done)|(simp[*];omega)|(simp[*];intros;omega)
theorem y54(F m:Nat)(nd:Nat->ND)(nas:Nat->NA)(w:World)(hA:AH w F m nd nas)(hN:ay 0 w (nd m) (nas m))(hs:(nd m).sm)(hcap:(nd m).kn<=(nas m).kc):Calls Tryz.prog 107 #[.pointer (some ⟨F,0,none⟩),eG (nd m) (nas m)] w fun e w'=>e=.returned (.bool (dH (nd m) false false false false false true && ((((nd m).kn:Int)==2 && aS fF nd m ((nd m).c 0) && aS pF nd m ((nd m).c 1)))))/\ah w w':=by
 have HA:Hid (AH w F m nd nas):=hA;have HN:Hid (ay 0 w (nd m) (nas m)):=hN;have hkn:=hs.kn;have hrn:=hs.rn;have hsz:=hs.s;clear hA hN hs;go_in;go_wp2_with (first|(go_at_call 157;refine(zF (nd m) (nas m) _).mono ?_;rintro e w2 ⟨rfl,hb2⟩;have HB2:Hid (ah w w2):=aH (q01 _ _) hb2;have n2:w2.cell? ⟨w.heap.size,2,none⟩=some (.int .i64 (nd m).o):=(Has.made hb2).cell 2 rfl;have n3:w2.cell? ⟨w.heap.size,3,none⟩=some (.int .i64 (nd m).n):=(Has.made hb2).cell 3 rfl;have n4:w2.cell? ⟨w.heap.size,4,none⟩=some (.float .f64 (nd m).f):=(Has.made hb2).cell 4 rfl;have n5:w2.cell? ⟨w.heap.size,5,none⟩=some (.string (nd m).s):=(Has.made hb2).cell 5 rfl;have n6:w2.cell? ⟨w.heap.size,6,none⟩=some (.slice (nas m).ra (nd m).rn (nas m).rc):=(Has.made hb2).cell 6 rfl;have n7:w2.cell? ⟨w.heap.size,7,none⟩=some (.slice (nas m).ka (nd m).kn (nas m).kc):=(Has.made hb2).cell 7 rfl;have hz2:w.heap.size<w2.heap.size:=(Has.made hb2).lt;clear hb2)|(go_at_call 159;refine(EW F m nd nas _ _ _ (nd m).c _ 549754765312 2 _ (by decide) (by decide) (by omega) hcap (HA.below (bH HB2.out _)) (aP.below HN.2 (bH HB2.out _)) (by simp) (by simp)).mono ?_;rintro e w1 ⟨rfl,rfl⟩));all_goals go_ret
 all_goals refine⟨dh ?_,by first|exact HB2.out|exact bH HB2.out _|exact bH (bH HB2.out _) _⟩
 all_goals first|rfl|(simp[*];done)|(simp[*];omega)|(simp[*];intros;omega)
theorem qn3(F m:Nat)(nd:Nat->ND)(nas:Nat->NA)(w:World)(hA:AH w F m nd nas)(hN:ay 0 w (nd m) (nas m))(hs:(nd m).sm)(hcap:(nd m).kn<=(nas m).kc):Calls Tryz.prog 113 #[.pointer (some ⟨F,0,none⟩),eG (nd m) (nas m)] w fun e w'=>e=.returned (.bool (dH (nd m) false false false false false true && ((((nd m).kn:Int)==1 && aS fF nd m ((nd m).c 0)))))/\ah w w':=by
 have HA:Hid (AH w F m nd nas):=hA;have HN:Hid (ay 0 w (nd m) (nas m)):=hN;have hkn:=hs.kn;have hrn:=hs.rn;have hsz:=hs.s;clear hA hN hs;go_in;go_wp2_with (first|(go_at_call 157;refine(zF (nd m) (nas m) _).mono ?_;rintro e w2 ⟨rfl,hb2⟩;have HB2:Hid (ah w w2):=aH (q01 _ _) hb2;have n2:w2.cell? ⟨w.heap.size,2,none⟩=some (.int .i64 (nd m).o):=(Has.made hb2).cell 2 rfl;have n3:w2.cell? ⟨w.heap.size,3,none⟩=some (.int .i64 (nd m).n):=(Has.made hb2).cell 3 rfl;have n4:w2.cell? ⟨w.heap.size,4,none⟩=some (.float .f64 (nd m).f):=(Has.made hb2).cell 4 rfl;have n5:w2.cell? ⟨w.heap.size,5,none⟩=some (.string (nd m).s):=(Has.made hb2).cell 5 rfl;have n6:w2.cell? ⟨w.heap.size,6,none⟩=some (.slice (nas m).ra (nd m).rn (nas m).rc):=(Has.made hb2).cell 6 rfl;have n7:w2.cell? ⟨w.heap.size,7,none⟩=some (.slice (nas m).ka (nd m).kn (nas m).kc):=(Has.made hb2).cell 7 rfl;have hz2:w.heap.size<w2.heap.size:=(Has.made hb2).lt;clear hb2)|(go_at_call 159;refine(Lr F m nd nas _ _ _ (nd m).c _ 549754765312 _ (by decide) (by omega) hcap (HA.below (bH HB2.out _)) (aP.below HN.2 (bH HB2.out _)) (by simp)).mono ?_;rintro e w1 ⟨rfl,rfl⟩));all_goals go_ret
 all_goals refine⟨dh ?_,by first|exact HB2.out|exact bH HB2.out _|exact bH (bH HB2.out _) _⟩
 all_goals first|rfl|(simp[*];done)|(simp[*];omega)|(simp[*];intros;omega)
theorem PX(F m:Nat)(nd:Nat->ND)(nas:Nat->NA)(w:World)(hA:AH w F m nd nas)(hN:ay 0 w (nd m) (nas m))(hs:(nd m).sm)(hcap:(nd m).kn<=(nas m).kc):Calls Tryz.prog 119 #[.pointer (some ⟨F,0,none⟩),eG (nd m) (nas m)] w fun e w'=>e=.returned (.bool (dH (nd m) false false false false false true && ((((nd m).kn:Int)==2 && aS fF nd m ((nd m).c 0) && aS fF nd m ((nd m).c 1)))))/\ah w w':=by
 have HA:Hid (AH w F m nd nas):=hA;have HN:Hid (ay 0 w (nd m) (nas m)):=hN;have hkn:=hs.kn;have hrn:=hs.rn;have hsz:=hs.s;clear hA hN hs;go_in;go_wp2_with (first|(go_at_call 157;refine(zF (nd m) (nas m) _).mono ?_;rintro e w2 ⟨rfl,hb2⟩;have HB2:Hid (ah w w2):=aH (q01 _ _) hb2;have n2:w2.cell? ⟨w.heap.size,2,none⟩=some (.int .i64 (nd m).o):=(Has.made hb2).cell 2 rfl;have n3:w2.cell? ⟨w.heap.size,3,none⟩=some (.int .i64 (nd m).n):=(Has.made hb2).cell 3 rfl;have n4:w2.cell? ⟨w.heap.size,4,none⟩=some (.float .f64 (nd m).f):=(Has.made hb2).cell 4 rfl;have n5:w2.cell? ⟨w.heap.size,5,none⟩=some (.string (nd m).s):=(Has.made hb2).cell 5 rfl;have n6:w2.cell? ⟨w.heap.size,6,none⟩=some (.slice (nas m).ra (nd m).rn (nas m).rc):=(Has.made hb2).cell 6 rfl;have n7:w2.cell? ⟨w.heap.size,7,none⟩=some (.slice (nas m).ka (nd m).kn (nas m).kc):=(Has.made hb2).cell 7 rfl;have hz2:w.heap.size<w2.heap.size:=(Has.made hb2).lt;clear hb2)|(go_at_call 159;refine(EW F m nd nas _ _ _ (nd m).c _ 549754765312 549754765312 _ (by decide) (by decide) (by omega) hcap (HA.below (bH HB2.out _)) (aP.below HN.2 (bH HB2.out _)) (by simp) (by simp)).mono ?_;rintro e w1 ⟨rfl,rfl⟩));all_goals go_ret
 all_goals refine⟨dh ?_,by first|exact HB2.out|exact bH HB2.out _|exact bH (bH HB2.out _) _⟩
 all_goals first|rfl|(simp[*];done)|(simp[*];omega)|(simp[*];intros;omega)
theorem zn5(F m:Nat)(nd:Nat->ND)(nas:Nat->NA)(w:World)(hA:AH w F m nd nas)(hN:ay 0 w (nd m) (nas m))(hs:(nd m).sm)(hcap:(nd m).kn<=(nas m).kc):Calls Tryz.prog 124 #[.pointer (some ⟨F,0,none⟩),eG (nd m) (nas m)] w fun e w'=>e=.returned (.bool (dH (nd m) false false false false false true && ((((nd m).kn:Int)==1 && aS zn nd m ((nd m).c 0)))))/\ah w w':=by
 have HA:Hid (AH w F m nd nas):=hA;have HN:Hid (ay 0 w (nd m) (nas m)):=hN;have hkn:=hs.kn;have hrn:=hs.rn;have hsz:=hs.s;clear hA hN hs;go_in;go_wp2_with (first|(go_at_call 157;refine(zF (nd m) (nas m) _).mono ?_;rintro e w2 ⟨rfl,hb2⟩;have HB2:Hid (ah w w2):=aH (q01 _ _) hb2;have n2:w2.cell? ⟨w.heap.size,2,none⟩=some (.int .i64 (nd m).o):=(Has.made hb2).cell 2 rfl;have n3:w2.cell? ⟨w.heap.size,3,none⟩=some (.int .i64 (nd m).n):=(Has.made hb2).cell 3 rfl;have n4:w2.cell? ⟨w.heap.size,4,none⟩=some (.float .f64 (nd m).f):=(Has.made hb2).cell 4 rfl;have n5:w2.cell? ⟨w.heap.size,5,none⟩=some (.string (nd m).s):=(Has.made hb2).cell 5 rfl;have n6:w2.cell? ⟨w.heap.size,6,none⟩=some (.slice (nas m).ra (nd m).rn (nas m).rc):=(Has.made hb2).cell 6 rfl;have n7:w2.cell? ⟨w.heap.size,7,none⟩=some (.slice (nas m).ka (nd m).kn (nas m).kc):=(Has.made hb2).cell 7 rfl;have hz2:w.heap.size<w2.heap.size:=(Has.made hb2).lt;clear hb2)|(go_at_call 159;refine(Lr F m nd nas _ _ _ (nd m).c _ 154618822656 _ (by decide) (by omega) hcap (HA.below (bH HB2.out _)) (aP.below HN.2 (bH HB2.out _)) (by simp)).mono ?_;rintro e w1 ⟨rfl,rfl⟩));all_goals go_ret
 all_goals refine⟨dh ?_,by first|exact HB2.out|exact bH HB2.out _|exact bH (bH HB2.out _) _⟩
 all_goals first|rfl|(simp[*];done)|(simp[*];omega)|(simp[*];intros;omega)
theorem yl7(F m:Nat)(nd:Nat->ND)(nas:Nat->NA)(w:World)(hA:AH w F m nd nas)(hN:ay 0 w (nd m) (nas m))(hs:(nd m).sm)(hcap:(nd m).kn<=(nas m).kc):Calls Tryz.prog 112 #[.pointer (some ⟨F,0,none⟩),eG (nd m) (nas m)] w fun e w'=>e=.returned (.bool (dH (nd m) false false false false true true && (((nd m).rn:Int)==2 && (((nd m).kn:Int)==2 && aS pF nd m ((nd m).c 0) && aS pF nd m ((nd m).c 1)))))/\ah w w':=by
 have HA:Hid (AH w F m nd nas):=hA;have HN:Hid (ay 0 w (nd m) (nas m)):=hN;have hkn:=hs.kn;have hrn:=hs.rn;have hsz:=hs.s;clear hA hN hs;go_in;go_wp2_with (first|(go_at_call 157;refine(LH (nd m) (nas m) _).mono ?_;rintro e w2 ⟨rfl,hb2⟩;have HB2:Hid (ah w w2):=aH (q01 _ _) hb2;have n2:w2.cell? ⟨w.heap.size,2,none⟩=some (.int .i64 (nd m).o):=(Has.made hb2).cell 2 rfl;have n3:w2.cell? ⟨w.heap.size,3,none⟩=some (.int .i64 (nd m).n):=(Has.made hb2).cell 3 rfl;have n4:w2.cell? ⟨w.heap.size,4,none⟩=some (.float .f64 (nd m).f):=(Has.made hb2).cell 4 rfl;have n5:w2.cell? ⟨w.heap.size,5,none⟩=some (.string (nd m).s):=(Has.made hb2).cell 5 rfl;have n6:w2.cell? ⟨w.heap.size,6,none⟩=some (.slice (nas m).ra (nd m).rn (nas m).rc):=(Has.made hb2).cell 6 rfl;have n7:w2.cell? ⟨w.heap.size,7,none⟩=some (.slice (nas m).ka (nd m).kn (nas m).kc):=(Has.made hb2).cell 7 rfl;have hz2:w.heap.size<w2.heap.size:=(Has.made hb2).lt;clear hb2)|(go_at_call 159;refine(EW F m nd nas _ _ _ (nd m).c _ 2 2 _ (by decide) (by decide) (by omega) hcap (HA.below (bH HB2.out _)) (aP.below HN.2 (bH HB2.out _)) (by simp) (by simp)).mono ?_;rintro e w1 ⟨rfl,rfl⟩));all_goals go_ret
 all_goals refine⟨dh ?_,by first|exact HB2.out|exact bH HB2.out _|exact bH (bH HB2.out _) _⟩
 all_goals first|rfl|(simp[*];done)|(simp[*];omega)|(simp[*];intros;omega)
def yC(u:UD)(f n:Nat):Prop:=(n<(u.fn f).nn-1/\dn (u.fn f).nd (u.fn f).nn n<0)\/(n=(u.fn f).nn-1/\((u.fn f).nd n).k≠1)
end
section
open Go.RowKit
theorem Zv{u:UD}{g:Int}:¬q22 u 0 0 g:=by rintro⟨f',x',h,_⟩;omega
theorem Hl{u:UD}{f x:Nat}(hf:f<u.n)(hx:x<(u.fn f).nn){g:Int}:q22 u f (x+1) g↔q22 u f x g\/(((u.fn f).nd x).k=36/\((u.fn f).nd x).r 0=g):=by
 constructor
 ·rintro⟨f',x',h,hm⟩;by_cases e:f'=f/\x'=x
  ·obtain⟨rfl,rfl⟩:=e;exact .inr hm.2.2
  ·exact .inl ⟨f',x',by omega,hm⟩
 ·rintro(⟨f',x',h,hm⟩|h)
  ·exact⟨f',x',by omega,hm⟩
  ·exact⟨f,x,by omega,hf,hx,h⟩
theorem uj{u:UD}{f:Nat}{g:Int}:q22 u (f+1) 0 g↔q22 u f (u.fn f).nn g:=by
 constructor
 ·rintro⟨f',x',h,hm⟩;refine⟨f',x',?_,hm⟩;by_cases e:f'=f
  ·subst e;exact .inr ⟨rfl,hm.2.1⟩
  ·exact .inl (by omega)
 ·rintro⟨f',x',h,hm⟩;exact⟨f',x',by omega,hm⟩
theorem kQ{u:UD}{g:Int}:q22 u u.n 0 g↔∃f x,Ba u f x g:=by
 constructor
 ·rintro⟨f',x',_,hm⟩;exact⟨f',x',hm⟩
 ·rintro⟨f',x',hm⟩;exact⟨f',x',.inl hm.1,hm⟩
def bC(w:World)(M:Nat)(u:UD)(f x:Nat):Prop:=w.rowIs M 4 u.n (fun i=>.bool (dB (q22 u f x i)))
theorem bC.below{w w':World}{M:Nat}{u:UD}{f x:Nat}(h:bC w M u f x)(hb:ah w w'):bC w' M u f x:=World.rowIs.of_block h (hb.block _ h.lt)
theorem bC.congr{w:World}{M:Nat}{u:UD}{f x f' x':Nat}(h:bC w M u f x)(e:∀v:Nat,q22 u f x v↔q22 u f' x' v):bC w M u f' x':=World.rowIs.congr h fun i _=>by
 by_cases c:q22 u f x i
 ·rw[jI c,jI ((e i).1 c)]
 ·rw[iP c,iP fun c'=>c ((e i).2 c')]
theorem bC.set{w:World}{M:Nat}{u:UD}{f x g:Nat}(hf:f<u.n)(hx:x<(u.fn f).nn)(h:bC w M u f x)(hk:((u.fn f).nd x).k=36)(hg:((u.fn f).nd x).r 0=g):bC (w.setCell ⟨M,g,none⟩ (.bool true)) M u f (x+1):=(World.rowIs.set h g (.bool true)).congr fun i _=>by
 by_cases e:i=g
 ·rw[if_pos e,jI ((Hl hf hx).2 (.inr ⟨hk,by rw[hg,e]⟩))]
 ·rw[if_neg e];by_cases c:q22 u f x i
  ·rw[jI c,jI ((Hl hf hx).2 (.inl c))]
  ·rw[iP c,iP fun c'=>((Hl hf hx).1 c').elim c fun h=>e (by omega)]
theorem bC.skip{w:World}{M:Nat}{u:UD}{f x:Nat}(hf:f<u.n)(hx:x<(u.fn f).nn)(h:bC w M u f x)(hk:((u.fn f).nd x).k≠36):bC w M u f (x+1):=h.congr fun v=>by
 rw[Hl hf hx];exact⟨.inl,fun h=>h.elim id fun h=>absurd h.1 hk⟩
theorem Ug:(Tryz.prog.info? 4).map (fun i=>(i.zero,i.size,i.bytes))=some (some (.bool false),1,1):=by kernel_rfl
theorem zl5{d:FD}{p:Nat}(hp:d.params=p)(v:Nat):v<p↔jH d 0 0 v:=by
 unfold jH;constructor
 ·intro h;exact .inl (by omega)
 ·rintro(h|⟨m,hm,_⟩|⟨b,hb,_⟩)
  ·omega
  ·omega
  ·omega
end
section
open Go.RowKit
attribute [local go_sem] aN
attribute [local go_sem ↓] Go.wp_at_zero Go.wp_at_succ
theorem W9{nd:Nat->ND}{n:Nat}(h:∀i,i<n->(nd i).kn<=200):∀i,i<=n->∀x,0<=lq nd i x/\lq nd i x<=(i:Int)*200
 |0,_=>fun x=>by unfold lq;omega
 |i+1,hi=>fun x=>by
  have:=P6 nd i (W9 h i (by omega)) (nd i).kn x;have h2:=h i (by omega);show 0<=qQ nd i (lq nd i) (nd i).kn x/\qQ nd i (lq nd i) (nd i).kn x<=_;omega
def eX(w:World)(B n:Nat)(c:Nat->Int):Prop:=w.rowIs B 3 n (fun i=>.int .i64 (c i))
theorem qq5(L:Nat)(d:FD)(x:FA)(w:World)(hn:d.nn<=3000)(hK:og d.nd d.nn)(hk2:∀i,i<d.nn->(d.nd i).kn<=200)(hT:ig L w d x):Calls Tryz.prog 79 #[Fb d x] w fun e w'=>(∃B,e=.returned (.slice (some ⟨B,0,none⟩) d.nn d.nn)/\w.heap.size<=B/\eX w' B d.nn (lq d.nd d.nn))/\ah w w':=by
 have HT:Hid (ig L w d x):=hT;have HK:Hid (og d.nd d.nn):=hK;have iY:Hid (∀i,i<d.nn->(d.nd i).kn<=200):=hk2;clear hT hK hk2;have hmk:=fun v=>run_make_row' (P:=Tryz.prog) 45 3 (.int .i64 0) 8 Tryz.underlying45 z17 rfl .i64 .i64 d.nn (by omega) (by omega) v;go_in;go_wp2_with fail;clear hmk;obtain⟨w1,hw1⟩:∃w1,w1=(w.alloc (.cells (jO d x) 87)).alloc (.cells (madeCells #[.int .i64 0] d.nn) 3):=⟨_,rfl⟩;have HB1:Hid (ah w w1):=by show Below _ _ _;rw[hw1];exact iy _ _ _
 have HR1:Hid (eX w1 (w.heap.size+1) d.nn (lq d.nd 0)):=by
  show World.rowIs _ _ _ _ _;rw[hw1];exact GH _ _ _ (by simp)
 have hz1:w.heap.size+1<w1.heap.size:=World.rowIs.lt HR1.out;rw[<-hw1];clear hw1
 go_loopw [15] (fun i wr=>∃(k:Nat),k<=d.nn/\i=.int .i64 k/\Hid (Below (w.heap.size+1) w1 wr)/\Hid (eX wr (w.heap.size+1) d.nn (lq d.nd k))) (fun i _=>d.nn-(intOf i).toNat)
 case atStart=>exact⟨0,Nat.zero_le _,rfl,Below.refl _ _,HR1⟩
 case round=>
  clear HR1;obtain⟨k,hk,rfl,HW,HR⟩:=hrel;have yc:Hid (ah w wr):=HB1.trans (HW.mono (by omega));by_cases hkn:k<d.nn
  ·obtain⟨b,off,e0,_,hb,d0,d1,d2,d3,d4,d5,d6,d7⟩:=dK (HT.below yc.out).2.2.1 hkn;rw[e0];clear e0;have hkk:=iY.out k hkn;go_wp2_with fail;clear d0 d1 d2 d3 d4 d5 d6 d7
   rename World=>wa
   have HW0:Hid (Below (w.heap.size+1) w1 (wa.alloc (.cells (dJ (d.nd k) (x.nas k)) 98))):=HW.alloc (Nat.le_of_lt (Nat.lt_of_lt_of_le hz1 HW.size)) _;have HR0:Hid (eX (wa.alloc (.cells (dJ (d.nd k) (x.nas k)) 98)) (w.heap.size+1) d.nn (qQ d.nd k (lq d.nd k) 0)):=World.rowIs.alloc HR.out _;clear HW HR
   go_loopw [22] (fun i wr=>∃(j:Nat),j<=(d.nd k).kn/\i=.int .i64 j/\Hid (Below (w.heap.size+1) w1 wr)/\Hid (eX wr (w.heap.size+1) d.nn (qQ d.nd k (lq d.nd k) j))) (fun i _=>(d.nd k).kn-(intOf i).toNat)
   case atStart=>exact⟨0,Nat.zero_le _,rfl,HW0,HR0⟩
   case round=>
    clear HW0 HR0;obtain⟨j,hj,rfl,HW,HR⟩:=hrel;have SL:Hid (ah w wr):=HB1.trans (HW.mono (by omega));by_cases hjn:j<(d.nd k).kn
    ·obtain⟨b2,o2,e2,_,hb2,g0⟩:=aX ((HT.below SL.out).2.2.2 k hkn).2 hjn;rw[e2];clear e2;have hc:=HK.out k hkn j hjn;obtain⟨y,hy⟩:∃y:Nat,(d.nd k).c j=y:=⟨((d.nd k).c j).toNat,by omega⟩;rw[hy] at g0 hc;have hyn:y<d.nn:=by omega
     have r0:=World.rowIs.cell HR.out (i:=y) hyn;have rz:=World.rowIs.frozen HR.out;have hrg:=P6 d.nd k (W9 iY.out k hk) j y;have HN:Hid (eX (wr.setCell ⟨w.heap.size+1,y,none⟩ (.int .i64 (qQ d.nd k (lq d.nd k) j y+1))) (w.heap.size+1) d.nn (qQ d.nd k (lq d.nd k) (j+1))):=(World.rowIs.set HR.out y _).congr fun i _=>by
      show _=Value.int .i64 (FW (qQ d.nd k (lq d.nd k) j) ((d.nd k).c j).toNat i);unfold FW;rw[hy,Int.toNat_natCast];split<;>rfl
     have HW2:Hid (Below (w.heap.size+1) w1 (wr.setCell ⟨w.heap.size+1,y,none⟩ (.int .i64 (qQ d.nd k (lq d.nd k) j y+1)))):=iT HW.out (Nat.le_refl _) _;clear hy;go_wp2_with fail;go_roundw
     case rel=>exact⟨j+1,by omega,by go_num,HW2,HN⟩
     case measure=>simp[intOf];omega
    ·obtain rfl:j=(d.nd k).kn:=by omega
     go_wp2_with fail;go_roundw
     case rel=>exact⟨k+1,by omega,by go_num,HW,HR⟩
     case measure=>simp[intOf];omega
  ·obtain rfl:k=d.nn:=by omega
   go_wp2_with fail;go_ret;exact⟨⟨_,rfl,by omega,HR.out⟩,yc.out⟩
theorem U6{u:UD}{f n:Nat}(hf:f<u.n)(hn:n<(u.fn f).nn)(h3:∀f',f'<f->∀n',n'<(u.fn f').nn->¬yC u f' n')(h4:∀n',n'<n->¬yC u f n')(h5:yC u f n):Least (oV u) ⟨4,f,n⟩:=At2.least (by decide) h3 h4 hf hn h5
theorem yh0{u:UD}(h2:∀f',f'<u.n->∀n',n'<(u.fn f').nn->¬yC u f' n'):Least (oV u) jl:=Least.zero (At2.none h2)
theorem qp5(L:Nat)(u:UD)(a:Option Addr)(cap:Nat)(fas:Nat->FA)(w:World)(hs:u.sm)(h3:U3 u)(hT:aZ L w u.n u.fn a fas):Calls Tryz.prog 40 #[pq u a cap] w fun e w'=>aQ (oV u) w e w':=by
 have HT:Hid (aZ L w u.n u.fn a fas):=hT;have HS:Hid u.sm:=hs;have H3:Hid (U3 u):=h3;have hun:=h3.size.2.1;obtain⟨b,off,e0,_,hb,_⟩:=dQ hT.1 (show 0<u.n from h3.size.1);subst e0;clear hT hs h3;go_in;go_wp2_with fail
 go_loopw [12] (fun i wr=>∃(k:Nat),k<=u.n/\i=.int .i64 k/\Hid (∀f',f'<k->∀n',n'<(u.fn f').nn->¬yC u f' n')/\Hid (Below (cZ w u (some ⟨b,off,none⟩) cap).heap.size (cZ w u (some ⟨b,off,none⟩) cap) wr)) (fun i _=>u.n-(intOf i).toNat)
 case atStart=>exact⟨0,Nat.zero_le _,rfl,fun f' hf'=>by omega,Below.refl _ _⟩
 case round=>
  obtain⟨k,hk,rfl,HF,HB⟩:=hrel;by_cases hkn:k<u.n
  ·have iF:Hid (aZ L wr u.n u.fn (some ⟨b,off,none⟩) fas):=HT.below (iH HB.out);obtain⟨b',off',e0,_,hbz,d0,d1,d2,d3,d4,d5,d6⟩:=dQ iF.1 hkn;obtain⟨rfl,rfl⟩:b=b'/\off=off':=by simpa using e0
   clear e0;have hnn:=H3.nn hkn;have iY:Hid (∀i,i<(u.fn k).nn->((u.fn k).nd i).kn<=200):=fun i hi=>(H3.facts hkn hi).kn
   rename World=>wa
   go_wp2_with (go_at_call 79;refine(qq5 L (u.fn k) (fas k) _ hnn.1 (H3.kids hkn) iY ((iF.2 k hkn).alloc _)).mono ?_;rintro e w8 ⟨⟨B,rfl,QV,hR⟩,hb8⟩;have yS:Hid (eX w8 B (u.fn k).nn (lq (u.fn k).nd (u.fn k).nn)):=hR;have Nj:Hid (Has w8 wa.heap.size (jO (u.fn k) (fas k))):=Has.made hb8;have y6:w8.cell? ⟨wa.heap.size,6,none⟩=some (.slice (fas k).na (u.fn k).nn (fas k).nc):=Nj.cell 6 rfl;clear hR);clear y6 d0 d1 d2 d3 d4 d5 d6;have qV:Hid (Below (cZ w u (some ⟨b,off,none⟩) cap).heap.size (cZ w u (some ⟨b,off,none⟩) cap) w8):=aH HB.out (aH (q01 _ _) hb8);clear HB hb8 iF Nj QV
   go_loopw [26] (fun i wr=>∃(m:Nat),m<=(u.fn k).nn/\i=.int .i64 m/\Hid (∀n',n'<m->¬yC u k n')/\Hid (ah w8 wr)) (fun i _=>(u.fn k).nn-(intOf i).toNat)
   case atStart=>exact⟨0,Nat.zero_le _,rfl,fun f' hf'=>by omega,Below.refl _ _⟩
   case round=>
    obtain⟨m,hm,rfl,HN,HW⟩:=hrel;have HB:Hid (Below (cZ w u (some ⟨b,off,none⟩) cap).heap.size (cZ w u (some ⟨b,off,none⟩) cap) wr):=aH qV.out HW.out;by_cases hmn:m<(u.fn k).nn
    ·have iF:Hid (aZ L wr u.n u.fn (some ⟨b,off,none⟩) fas):=HT.below (iH HB.out);have Yu:Hid (eX wr B (u.fn k).nn (lq (u.fn k).nd (u.fn k).nn)):=World.rowIs.of_block yS.out (HW.block _ (World.rowIs.lt yS.out));have r0:=World.rowIs.cell Yu.out (i:=m) hmn;have hBw:=World.rowIs.lt Yu.out;have hrz:w.heap.size+1<wr.heap.size:=(bT HB.out).lt;obtain⟨b2,o2,e2,_,hb2,g0,g1,g2,g3,g4,g5,g6,g7⟩:=dK (iF.2 k hkn).2.2.1 hmn;rw[e2];clear e2;have Fh:Hid (ah w8 (wr.alloc (.cells (dJ ((u.fn k).nd m) (fas k |>.nas m)) 98))):=bH HW.out _;have s0:=(bT HB.out).cell (i:=0) (by omega);have s1:=(bT HB.out).cell (i:=1) (by omega);have s2:=(bT HB.out).cell (i:=2) (by omega);have sz:=(bT HB.out).frozen;by_cases hl:m=(u.fn k).nn-1
     ·have qa:¬(m:Int)<((u.fn k).nn:Int)-1:=by omega
      have qb:((m:Int)==((u.fn k).nn:Int)-1)=true:=by simp;omega
      by_cases hk1:((u.fn k).nd m).k=1
      ·have HG:Hid (¬yC u k m):=by
        show ¬yC u k m;rintro(⟨h,_⟩|⟨_,h⟩)
        ·omega
        ·exact h hk1
       have q1:(((u.fn k).nd m).k != 1)=false:=by rw[hk1];rfl
       clear hk1 hl;go_wp2_with fail;go_roundw
       case rel=>exact⟨m+1,by omega,by go_num,fun j hj=>by
        by_cases e:j=m
        ·subst e;exact HG
        ·exact HN.out j (by omega),Fh⟩
       case measure=>simp[intOf];omega
      ·have HL:Hid (Least (oV u) ⟨4,k,m⟩):=U6 hkn hmn HF.out HN.out (.inr ⟨hl,hk1⟩);have q1:(((u.fn k).nd m).k != 1)=true:=by simpa using hk1
       clear hk1 hl;go_wp2_with fail;refine bodyPost_ret (v:=iE ⟨4,k,m⟩) (by simp[results,Tryz.results40,go_sem,s0,s1,s2,hrz]) rfl ?_;exact aQ.of HL (bH (jR (iH HB) _ _ _) _)
     ·have qa:(m:Int)<((u.fn k).nn:Int)-1:=by omega
      have qb:((m:Int)==((u.fn k).nn:Int)-1)=false:=by simp;omega
      have hco:=Zd (H3.kids hkn) (x:=m) (by omega);by_cases hp:lq (u.fn k).nd (u.fn k).nn m=1
      ·have HG:Hid (¬yC u k m):=by
        show ¬yC u k m;rintro(⟨_,h⟩|⟨h,_⟩)
        ·have:=hco.1 hp;omega
        ·exact hl h
       have q1:(lq (u.fn k).nd (u.fn k).nn m != 1)=false:=by rw[hp];rfl
       clear hp hl hco;go_wp2_with fail;go_roundw
       case rel=>exact⟨m+1,by omega,by go_num,fun j hj=>by
        by_cases e:j=m
        ·subst e;exact HG
        ·exact HN.out j (by omega),Fh⟩
       case measure=>simp[intOf];omega
      ·have HL:Hid (Least (oV u) ⟨4,k,m⟩):=U6 hkn hmn HF.out HN.out (.inl ⟨by omega,by
        have:¬0<=dn (u.fn k).nd (u.fn k).nn m:=fun h=>hp (hco.2 h);omega⟩)
       have q1:(lq (u.fn k).nd (u.fn k).nn m != 1)=true:=by simpa using hp
       clear hp hl hco;go_wp2_with fail;refine bodyPost_ret (v:=iE ⟨4,k,m⟩) (by simp[results,Tryz.results40,go_sem,s0,s1,s2,hrz]) rfl ?_;exact aQ.of HL (bH (jR (iH HB) _ _ _) _)
    ·obtain rfl:m=(u.fn k).nn:=by omega
     go_wp2_with fail;go_roundw
     case rel=>exact⟨k+1,by omega,by go_num,fun j hj=>by
      by_cases e:j=k
      ·subst e;exact HN
      ·exact HF.out j (by omega),HB⟩
     case measure=>simp[intOf];omega
  ·obtain rfl:k=u.n:=by omega
   have HL:Hid (Least (oV u) ⟨0,0,0⟩):=yh0 HF.out;have s0:=(bT HB.out).cell (i:=0) (by omega);have s1:=(bT HB.out).cell (i:=1) (by omega);have s2:=(bT HB.out).cell (i:=2) (by omega);have sz:=(bT HB.out).frozen;go_wp2_with fail;refine bodyPost_ret (v:=iE ⟨0,0,0⟩) (by simp[results,Tryz.results40,go_sem,s0,s1,s2]) rfl ?_;exact aQ.of HL (jR (iH HB) _ _ _)
def Bc(u:UD)(f n:Nat):Prop:=100<iV (dn (u.fn f).nd (u.fn f).nn) (u.fn f).nn ((u.fn f).nn-1) n
theorem y72{u:UD}{f n:Nat}(hf:f<u.n)(hn:n<(u.fn f).nn)(h3:∀f',f'<f->∀n',n'<(u.fn f').nn->¬Bc u f' n')(h4:∀n',n'<n->¬Bc u f n')(h5:Bc u f n):Least (qN u) ⟨5,f,n⟩:=At2.least (by decide) h3 h4 hf hn h5
theorem yg9{u:UD}(h2:∀f',f'<u.n->∀n',n'<(u.fn f').nn->¬Bc u f' n'):Least (qN u) jl:=Least.zero (At2.none h2)
def Gs:Prop:=∀(L:Nat) (d:FD) (x:FA) (w:World),d.nn<=3000->og d.nd d.nn->(∀i,i<d.nn->(d.nd i).kn<=200)->ig L w d x->
 Calls Tryz.prog 80 #[Fb d x] w fun e w'=>(∃B,e=.returned (.slice (some ⟨B,0,none⟩) d.nn d.nn)/\w.heap.size<=B/\eX w' B d.nn (pG d.nd d.nn d.nn))/\ah w w'
theorem z64(hD:Gs)(L:Nat)(u:UD)(a:Option Addr)(cap:Nat)(fas:Nat->FA)(w:World)(h5:U5 u)(hT:aZ L w u.n u.fn a fas):Calls Tryz.prog 41 #[pq u a cap] w fun e w'=>aQ (qN u) w e w':=by
 have HD:Hid Gs:=hD;have HT:Hid (aZ L w u.n u.fn a fas):=hT;have H5:Hid (U5 u):=h5;have hun:=h5.size.2.1;obtain⟨b,off,e0,_,hb,_⟩:=dQ hT.1 (show 0<u.n from h5.size.1);subst e0;clear hT h5 hD;go_in;go_wp2_with fail
 go_loopw [10] (fun i wr=>∃(k:Nat),k<=u.n/\i=.int .i64 k/\Hid (∀f',f'<k->∀n',n'<(u.fn f').nn->¬Bc u f' n')/\Hid (Below (cZ w u (some ⟨b,off,none⟩) cap).heap.size (cZ w u (some ⟨b,off,none⟩) cap) wr)) (fun i _=>u.n-(intOf i).toNat)
 case atStart=>exact⟨0,Nat.zero_le _,rfl,fun f' hf'=>by omega,Below.refl _ _⟩
 case round=>
  obtain⟨k,hk,rfl,HF,HB⟩:=hrel;by_cases hkn:k<u.n
  ·have iF:Hid (aZ L wr u.n u.fn (some ⟨b,off,none⟩) fas):=HT.below (iH HB.out);obtain⟨b',off',e0,_,hbz,d0,d1,d2,d3,d4,d5,d6⟩:=dQ iF.1 hkn;obtain⟨rfl,rfl⟩:b=b'/\off=off':=by simpa using e0
   clear e0;have hnn:=H5.toU3.nn hkn;have iY:Hid (∀i,i<(u.fn k).nn->((u.fn k).nd i).kn<=200):=fun i hi=>(H5.toU3.facts hkn hi).kn
   rename World=>wa
   go_wp2_with (go_at_call 80;refine(HD L (u.fn k) (fas k) _ hnn.1 (H5.toU3.kids hkn) iY ((iF.2 k hkn).alloc _)).mono ?_;rintro e w8 ⟨⟨B,rfl,QV,hR⟩,hb8⟩;have yS:Hid (eX w8 B (u.fn k).nn (pG (u.fn k).nd (u.fn k).nn (u.fn k).nn)):=hR;clear hR);clear d0 d1 d2 d3 d4 d5 d6;have qV:Hid (Below (cZ w u (some ⟨b,off,none⟩) cap).heap.size (cZ w u (some ⟨b,off,none⟩) cap) w8):=aH HB.out (aH (q01 _ _) hb8);clear HB hb8 iF QV
   go_loopw [18] (fun i wr=>∃(m:Nat),m<=(u.fn k).nn/\i=.int .i64 m/\Hid (∀n',n'<m->¬Bc u k n')/\wr=w8) (fun i _=>(u.fn k).nn-(intOf i).toNat)
   case atStart=>exact⟨0,Nat.zero_le _,rfl,fun f' hf'=>by omega,rfl⟩
   case round=>
    obtain⟨m,hm,rfl,HN,rfl⟩:=hrel;by_cases hmn:m<(u.fn k).nn
    ·have r0:=World.rowIs.cell yS.out (i:=m) hmn;have hBw:=World.rowIs.lt yS.out;have hds:=y67 (H5.tree k hkn) hmn;have s0:=(bT qV.out).cell (i:=0) (by omega);have s1:=(bT qV.out).cell (i:=1) (by omega);have s2:=(bT qV.out).cell (i:=2) (by omega);have sz:=(bT qV.out).frozen;by_cases hp:100<pG (u.fn k).nd (u.fn k).nn (u.fn k).nn m
     ·have HL:Hid (Least (qN u) ⟨5,k,m⟩):=y72 hkn hmn HF.out HN.out (by unfold Bc;rw[<-hds];exact hp);clear hds;go_wp2_with fail;refine bodyPost_ret (v:=iE ⟨5,k,m⟩) (by simp[results,Tryz.results41,go_sem,s0,s1,s2]) rfl ?_;exact aQ.of HL (jR (iH qV) _ _ _)
     ·have HG:Hid (¬Bc u k m):=by
       show ¬(100 < _);rw[<-hds];exact hp
      clear hds;go_wp2_with fail;go_roundw
      case rel=>exact⟨m+1,by omega,by go_num,fun j hj=>by
       by_cases e:j=m
       ·subst e;exact HG
       ·exact HN.out j (by omega),by first|rfl|trivial⟩
      case measure=>simp[intOf];omega
    ·obtain rfl:m=(u.fn k).nn:=by omega
     go_wp2_with fail;go_roundw
     case rel=>exact⟨k+1,by omega,by go_num,fun j hj=>by
      by_cases e:j=k
      ·subst e;exact HN
      ·exact HF.out j (by omega),qV⟩
     case measure=>simp[intOf];omega
  ·obtain rfl:k=u.n:=by omega
   have HL:Hid (Least (qN u) ⟨0,0,0⟩):=yg9 HF.out;have s0:=(bT HB.out).cell (i:=0) (by omega);have s1:=(bT HB.out).cell (i:=1) (by omega);have s2:=(bT HB.out).cell (i:=2) (by omega);have sz:=(bT HB.out).frozen;go_wp2_with fail;refine bodyPost_ret (v:=iE ⟨0,0,0⟩) (by simp[results,Tryz.results41,go_sem,s0,s1,s2]) rfl ?_;exact aQ.of HL (jR (iH HB) _ _ _)
theorem y74{u:UD}(h:¬zq u):Least (oW u) ⟨1,0,0⟩:=At2.least (by decide) (fun f' hf'=>by omega) (fun n' hn'=>by omega) (by decide) (by decide) h
theorem yh3{u:UD}(h:zq u):Least (oW u) jl:=Least.zero (At2.none fun _ _ _ _ k=>k h)
theorem KX{u:UD}{f:Nat}(hf:f<u.n)(h2:∀f',f'<f->yB u f')(h3:¬yB u f):Least (kW u) ⟨2,f,0⟩:=At2.least (by decide) (fun f' hf' _ _ h=>h (h2 f' hf')) (fun n' hn'=>by omega) hf (by show 0<1;decide) h3
theorem yh2{u:UD}(h:∀f,f<u.n->yB u f):Least (kW u) jl:=Least.zero (At2.none fun f hf _ _ k=>k (h f hf))
theorem GN{i l m:Int}(h1:l<=i)(h2:i<=m):aW i l m=true:=by unfold aW;simp[h1,h2]
theorem UK{i l m:Int}(h:¬(l<=i/\i<=m)):aW i l m=false:=by unfold aW;simp;omega
theorem qq2(L:Nat)(u:UD)(a:Option Addr)(cap:Nat)(fas:Nat->FA)(w:World)(hs:u.sm)(hT:aZ L w u.n u.fn a fas):Calls Tryz.prog 37 #[pq u a cap] w fun e w'=>aQ (oW u) w e w':=by
 have HT:Hid (aZ L w u.n u.fn a fas):=hT;have HS:Hid u.sm:=hs;have hun:=hs.n;clear hT hs;go_in;go_wp2_with fail
 go_loopw [3,9] (fun s i wr=>∃(k:Nat),k<=u.n/\i=.int .i64 k/\s=.int .i64 (tot u.fn k)/\Hid (Below (cZ w u a cap).heap.size (cZ w u a cap) wr)) (fun _ i _=>u.n-(intOf i).toNat)
 case atStart=>exact⟨0,Nat.zero_le _,rfl,rfl,Below.refl _ _⟩
 case round=>
  obtain⟨k,hk,rfl,rfl,HB⟩:=hrel;have ht:=Vw HS.out k hk;by_cases hkn:k<u.n
  ·obtain⟨b,off,e0,_,hb,d0,d1,d2,d3,d4,d5,d6⟩:=dQ (HT.below (iH HB.out)).1 hkn;have hnn:=(HS.fn k hkn).nn;subst e0;go_wp2_with fail;go_roundw
   case rel=>exact⟨k+1,by omega,by go_num,by show _=Value.int .i64 ((tot u.fn k+(u.fn k).nn:Nat):Int);go_num,bH HB.out _⟩
   case measure=>simp[intOf];omega
  ·obtain rfl:k=u.n:=by omega
   have f0:wr.cell? ⟨w.heap.size,0,none⟩=some (.slice a u.n cap):=(DY HB.out).cell 0 rfl;have s0:=(bT HB.out).cell (i:=0) (by omega);have s1:=(bT HB.out).cell (i:=1) (by omega);have s2:=(bT HB.out).cell (i:=2) (by omega);have sz:=(bT HB.out).frozen;by_cases hz:zq u
   ·have HL:Hid (Least (oW u) ⟨0,0,0⟩):=yh3 hz;have hbt:aW (u.n:Int) 1 300=true:=GN (by have:=hz.1;omega) (by have:=hz.2.1;omega);have z3:¬(3000:Int)<tot u.fn u.n:=by have:=hz.2.2;omega
    clear hz;go_wp2_with (go_at_call 45;refine(q24 _ _ _ _).mono ?_;rw[hbt];rintro e w1 ⟨rfl,rfl⟩);refine bodyPost_ret (v:=iE ⟨0,0,0⟩) (by simp[results,Tryz.results37,go_sem,s0,s1,s2]) rfl ?_;exact aQ.of HL (jR (iH HB) _ _ _)
   ·have HL:Hid (Least (oW u) ⟨1,0,0⟩):=y74 hz;by_cases c1:(1:Int)<=u.n/\(u.n:Int)<=300
    ·have hbt:aW (u.n:Int) 1 300=true:=GN c1.1 c1.2;have c3:(3000:Int)<tot u.fn u.n:=by unfold zq at hz;omega
     clear hz c1;go_wp2_with (go_at_call 45;refine(q24 _ _ _ _).mono ?_;rw[hbt];rintro e w1 ⟨rfl,rfl⟩);refine bodyPost_ret (v:=iE ⟨1,0,0⟩) (by simp[results,Tryz.results37,go_sem,s0,s1,s2]) rfl ?_;exact aQ.of HL (jR (iH HB) _ _ _)
    ·have hbt:aW (u.n:Int) 1 300=false:=UK c1;clear hz c1;go_wp2_with (go_at_call 45;refine(q24 _ _ _ _).mono ?_;rw[hbt];rintro e w1 ⟨rfl,rfl⟩);refine bodyPost_ret (v:=iE ⟨1,0,0⟩) (by simp[results,Tryz.results37,go_sem,s0,s1,s2]) rfl ?_;exact aQ.of HL (jR (iH HB) _ _ _)
def qc(d:FD):Prop:=(d.nn≠0/\d.vn<=200/\d.un<=200)/\(∀i,i<d.vn->1<=(d.v i).size/\(d.v i).size<=40)/\(0<=d.params/\d.params<=d.vn)/\(0<=d.line/\d.line<=100000)/\d.name.size<=40
theorem gW{u:UD}{f:Nat}:yB u f↔qc (u.fn f)/\(f=0->(u.fn f).params=0/\(u.fn f).un=0):=by
 unfold yB qc;constructor
 ·rintro⟨⟨a,b,c,d,e⟩,⟨f,g,h,i⟩,j⟩;exact⟨⟨⟨a,b,c⟩,j,⟨d,e⟩,⟨f,g⟩,h⟩,i⟩
 ·rintro⟨⟨⟨a,b,c⟩,j,⟨d,e⟩,⟨f,g⟩,h⟩,i⟩;exact⟨⟨a,b,c,d,e⟩,⟨f,g,h,i⟩,j⟩
theorem EY(L:Nat)(d:FD)(x:FA)(w:World)(hs:d.sm)(hT:ig L w d x):Calls Tryz.prog 76 #[Fb d x] w fun e w'=>e=.returned (.bool (dB (qc d)))/\ah w w':=by
 have HT:Hid (ig L w d x):=hT;have HS:Hid d.sm:=hs;have hvn:=hs.vn;have hun:=hs.un;have hnn:=hs.nn;have hnm:=hs.name;clear hT hs;by_cases c1:d.nn=0
 ·have he:dB (qc d)=false:=iP fun h=>h.1.1 c1;have q1:((d.nn:Int)==0)=true:=by simp;omega
  rw[he];clear he c1;go_in;go_wp2_with fail;go_ret;exact⟨rfl,q01 _ _⟩
 have q1:((d.nn:Int)==0)=false:=by simp;omega
 have C1:Hid (d.nn≠0):=c1;clear c1;by_cases c2:200<d.vn
 ·have he:dB (qc d)=false:=iP fun h=>by have:=h.1.2.1;omega
  rw[he];clear he;go_in;go_wp2_with fail;go_ret;exact⟨rfl,q01 _ _⟩
 by_cases c3:200<d.un
 ·have he:dB (qc d)=false:=iP fun h=>by have:=h.1.2.2;omega
  rw[he];clear he;go_in;go_wp2_with fail;go_ret;exact⟨rfl,q01 _ _⟩
 have HW:Hid (Has (w.alloc (.cells (jO d x) 87)) w.heap.size (jO d x)):=Has.new _ _ _;go_in;go_wp2_with fail
 go_loopw [24] (fun i wr=>∃(k:Nat),k<=d.vn/\i=.int .i64 k/\Hid (∀j,j<k->1<=(d.v j).size/\(d.v j).size<=40)/\Hid (Below (w.alloc (.cells (jO d x) 87)).heap.size (w.alloc (.cells (jO d x) 87)) wr)) (fun i _=>d.vn-(intOf i).toNat)
 case atStart=>exact⟨0,Nat.zero_le _,rfl,fun j hj=>by omega,Below.refl _ _⟩
 case round=>
  obtain⟨k,hk,rfl,HK,HB⟩:=hrel;have yc:Hid (ah w wr):=aH (q01 _ _) HB.out;by_cases hkn:k<d.vn
  ·obtain⟨b2,o2,e2,_,hb2,g0⟩:=aX (HT.below yc.out).1 hkn;rw[e2];clear e2;have hsz:=HS.v k hkn;by_cases hg:1<=(d.v k).size/\(d.v k).size<=40
   ·have hbt:aW ((d.v k).size:Int) 1 40=true:=GN (by omega) (by omega);have HG:Hid (1<=(d.v k).size/\(d.v k).size<=40):=hg;clear hg;go_wp2_with (go_at_call 45;refine(q24 _ _ _ _).mono ?_;rw[hbt];rintro e w1 ⟨rfl,rfl⟩);go_roundw
    case rel=>exact⟨k+1,by omega,by go_num,fun j hj=>by
     by_cases e:j=k
     ·subst e;exact HG
     ·exact HK.out j (by omega),HB⟩
    case measure=>simp[intOf];omega
   ·have hbt:aW ((d.v k).size:Int) 1 40=false:=UK (by omega);have HE:Hid (dB (qc d)=false):=iP fun h=>hg (h.2.1 k hkn);clear hg;go_wp2_with (go_at_call 45;refine(q24 _ _ _ _).mono ?_;rw[hbt];rintro e w1 ⟨rfl,rfl⟩);go_ret;exact⟨dh HE.symm,yc⟩
  ·have HA:Hid (∀i,i<d.vn->1<=(d.v i).size/\(d.v i).size<=40):=fun i hi=>HK.out i (by omega);have x0:wr.cell? ⟨w.heap.size,0,none⟩=some (.string d.name):=(HW.call HB.out).cell 0 rfl;have x1:wr.cell? ⟨w.heap.size,1,none⟩=some (.int .i64 d.line):=(HW.call HB.out).cell 1 rfl;have x2:wr.cell? ⟨w.heap.size,2,none⟩=some (.int .i64 d.params):=(HW.call HB.out).cell 2 rfl;have x4:wr.cell? ⟨w.heap.size,4,none⟩=some (.slice x.va d.vn x.vc):=(HW.call HB.out).cell 4 rfl
   cases h1:aW d.params 0 d.vn
   ·have HE:Hid (dB (qc d)=false):=iP fun h=>by
     rw[GN h.2.2.1.1 h.2.2.1.2] at h1;cases h1
    go_wp2_with (go_at_call 45;refine(q24 _ _ _ _).mono ?_;rw[h1];rintro e w1 ⟨rfl,rfl⟩);go_ret;exact⟨dh HE.symm,yc⟩
   ·have H1:Hid (0<=d.params/\d.params<=d.vn):=by show _/\_;unfold aW at h1;simpa using h1
    cases h2:aW d.line 0 100000
    ·have HE:Hid (dB (qc d)=false):=iP fun h=>by
      rw[GN h.2.2.2.1.1 h.2.2.2.1.2] at h2;cases h2
     go_wp2_with (go_at_call 45;refine(q24 _ _ _ _).mono ?_;first|(rw[h1];rintro e w1 ⟨rfl,rfl⟩)|(rw[h2];rintro e w1 ⟨rfl,rfl⟩));go_ret;exact⟨dh HE.symm,yc⟩
    ·have H2:Hid (0<=d.line/\d.line<=100000):=by show _/\_;unfold aW at h2;simpa using h2
     by_cases c8:d.name.size<=40
     ·have HE:Hid (dB (qc d)=true):=jI ⟨⟨C1.out,by omega,by omega⟩,HA.out,H1.out,H2.out,c8⟩;go_wp2_with (go_at_call 45;refine(q24 _ _ _ _).mono ?_;first|(rw[h1];rintro e w1 ⟨rfl,rfl⟩)|(rw[h2];rintro e w1 ⟨rfl,rfl⟩));go_ret;exact⟨dh (by rw[HE.out];simp;omega),yc.out⟩
     ·have HE:Hid (dB (qc d)=false):=iP fun h=>c8 h.2.2.2.2;go_wp2_with (go_at_call 45;refine(q24 _ _ _ _).mono ?_;first|(rw[h1];rintro e w1 ⟨rfl,rfl⟩)|(rw[h2];rintro e w1 ⟨rfl,rfl⟩));go_ret;exact⟨dh (by rw[HE.out];simp;omega),yc.out⟩
theorem z19(L:Nat)(u:UD)(a:Option Addr)(cap:Nat)(fas:Nat->FA)(w:World)(hs:u.sm)(hT:aZ L w u.n u.fn a fas):Calls Tryz.prog 38 #[pq u a cap] w fun e w'=>aQ (kW u) w e w':=by
 have HT:Hid (aZ L w u.n u.fn a fas):=hT;have HS:Hid u.sm:=hs;have hun:=hs.n;clear hT hs;go_in;go_wp2_with fail
 go_loopw [8] (fun i wr=>∃(k:Nat),k<=u.n/\i=.int .i64 k/\Hid (∀f',f'<k->yB u f')/\Hid (Below (cZ w u a cap).heap.size (cZ w u a cap) wr)) (fun i _=>u.n-(intOf i).toNat)
 case atStart=>exact⟨0,Nat.zero_le _,rfl,fun f' hf'=>by omega,Below.refl _ _⟩
 case round=>
  obtain⟨k,hk,rfl,HH,HB⟩:=hrel;by_cases hkn:k<u.n
  ·have iF:Hid (aZ L wr u.n u.fn a fas):=HT.below (iH HB.out);obtain⟨b,off,e0,_,hb,d0,d1,d2,d3,d4,d5,d6⟩:=dQ iF.1 hkn;subst e0;have a01:=(HS.fn k hkn).un;by_cases hk0:k=0
   ·subst hk0;simp only[Nat.zero_mul,Nat.add_zero] at d0 d1 d2 d3 d4 d5 d6;have HA:Hid (∀w2,Below (wr.alloc (.cells (jO (u.fn 0) (fas 0)) 87)).heap.size (wr.alloc (.cells (jO (u.fn 0) (fas 0)) 87)) w2->Below (cZ w u (some ⟨b,off,none⟩) cap).heap.size (cZ w u (some ⟨b,off,none⟩) cap) w2/\Has w2 wr.heap.size (jO (u.fn 0) (fas 0))):=fun w2 h=>⟨aH (bH HB.out _) h,Has.made h⟩;by_cases hh:qc (u.fn 0)
    ·have hdb:dB (qc (u.fn 0))=true:=jI hh;by_cases hp:(u.fn 0).params=0
     ·have qp:((u.fn 0).params != 0)=false:=by rw[hp];rfl
      by_cases hu:(u.fn 0).un=0
      ·have qu:(((u.fn 0).un:Int) != 0)=false:=by simp;omega
       have HG:Hid (yB u 0):=gW.2 ⟨hh,fun _=>⟨hp,hu⟩⟩;clear hh hp hu;go_wp2_with (go_at_call 76;refine(EY L (u.fn 0) (fas 0) _ (HS.fn 0 hkn) ((iF.2 0 hkn).alloc _)).mono ?_;rw[hdb];rintro e w2 ⟨rfl,hb2⟩;have HB2:Hid (Below (cZ w u (some ⟨b,off,none⟩) cap).heap.size (cZ w u (some ⟨b,off,none⟩) cap) w2):=(HA.out _ hb2).1;have x2:w2.cell? ⟨wr.heap.size,2,none⟩=some (.int .i64 (u.fn 0).params):=(HA.out _ hb2).2.cell 2 rfl;have x5:w2.cell? ⟨wr.heap.size,5,none⟩=some (.slice (fas 0).ua (u.fn 0).un (fas 0).uc):=(HA.out _ hb2).2.cell 5 rfl;have s0:=(bT HB2.out).cell (i:=0) (by omega);have s1:=(bT HB2.out).cell (i:=1) (by omega);have s2:=(bT HB2.out).cell (i:=2) (by omega);have sz:=(bT HB2.out).frozen;clear hb2);go_roundw
       case rel=>exact⟨0+1,by omega,by go_num,fun j hj=>by
        by_cases e:j=0
        ·subst e;exact HG
        ·exact HH.out j (by omega),HB2⟩
       case measure=>simp[intOf];omega
      ·have qu:(((u.fn 0).un:Int) != 0)=true:=by simp;omega
       have HL:Hid (Least (kW u) ⟨2,0,0⟩):=KX hkn HH.out fun h=>hu ((gW.1 h).2 rfl).2;clear hh hp hu;go_wp2_with (go_at_call 76;refine(EY L (u.fn 0) (fas 0) _ (HS.fn 0 hkn) ((iF.2 0 hkn).alloc _)).mono ?_;rw[hdb];rintro e w2 ⟨rfl,hb2⟩;have HB2:Hid (Below (cZ w u (some ⟨b,off,none⟩) cap).heap.size (cZ w u (some ⟨b,off,none⟩) cap) w2):=(HA.out _ hb2).1;have x2:w2.cell? ⟨wr.heap.size,2,none⟩=some (.int .i64 (u.fn 0).params):=(HA.out _ hb2).2.cell 2 rfl;have x5:w2.cell? ⟨wr.heap.size,5,none⟩=some (.slice (fas 0).ua (u.fn 0).un (fas 0).uc):=(HA.out _ hb2).2.cell 5 rfl;have s0:=(bT HB2.out).cell (i:=0) (by omega);have s1:=(bT HB2.out).cell (i:=1) (by omega);have s2:=(bT HB2.out).cell (i:=2) (by omega);have sz:=(bT HB2.out).frozen;clear hb2);refine bodyPost_ret (v:=iE ⟨2,0,0⟩) (by simp[results,Tryz.results38,go_sem,s0,s1,s2]) rfl ?_;exact aQ.of HL (jR (iH HB2) _ _ _)
     ·have qp:((u.fn 0).params != 0)=true:=by simpa using hp
      have HL:Hid (Least (kW u) ⟨2,0,0⟩):=KX hkn HH.out fun h=>hp ((gW.1 h).2 rfl).1;clear hh hp;go_wp2_with (go_at_call 76;refine(EY L (u.fn 0) (fas 0) _ (HS.fn 0 hkn) ((iF.2 0 hkn).alloc _)).mono ?_;rw[hdb];rintro e w2 ⟨rfl,hb2⟩;have HB2:Hid (Below (cZ w u (some ⟨b,off,none⟩) cap).heap.size (cZ w u (some ⟨b,off,none⟩) cap) w2):=(HA.out _ hb2).1;have x2:w2.cell? ⟨wr.heap.size,2,none⟩=some (.int .i64 (u.fn 0).params):=(HA.out _ hb2).2.cell 2 rfl;have x5:w2.cell? ⟨wr.heap.size,5,none⟩=some (.slice (fas 0).ua (u.fn 0).un (fas 0).uc):=(HA.out _ hb2).2.cell 5 rfl;have s0:=(bT HB2.out).cell (i:=0) (by omega);have s1:=(bT HB2.out).cell (i:=1) (by omega);have s2:=(bT HB2.out).cell (i:=2) (by omega);have sz:=(bT HB2.out).frozen;clear hb2);refine bodyPost_ret (v:=iE ⟨2,0,0⟩) (by simp[results,Tryz.results38,go_sem,s0,s1,s2]) rfl ?_;exact aQ.of HL (jR (iH HB2) _ _ _)
    ·have hdb:dB (qc (u.fn 0))=false:=iP hh;have HL:Hid (Least (kW u) ⟨2,0,0⟩):=KX hkn HH.out fun h=>hh (gW.1 h).1;clear hh;go_wp2_with (go_at_call 76;refine(EY L (u.fn 0) (fas 0) _ (HS.fn 0 hkn) ((iF.2 0 hkn).alloc _)).mono ?_;rw[hdb];rintro e w2 ⟨rfl,hb2⟩;have HB2:Hid (Below (cZ w u (some ⟨b,off,none⟩) cap).heap.size (cZ w u (some ⟨b,off,none⟩) cap) w2):=(HA.out _ hb2).1;have x2:w2.cell? ⟨wr.heap.size,2,none⟩=some (.int .i64 (u.fn 0).params):=(HA.out _ hb2).2.cell 2 rfl;have x5:w2.cell? ⟨wr.heap.size,5,none⟩=some (.slice (fas 0).ua (u.fn 0).un (fas 0).uc):=(HA.out _ hb2).2.cell 5 rfl;have s0:=(bT HB2.out).cell (i:=0) (by omega);have s1:=(bT HB2.out).cell (i:=1) (by omega);have s2:=(bT HB2.out).cell (i:=2) (by omega);have sz:=(bT HB2.out).frozen;clear hb2);refine bodyPost_ret (v:=iE ⟨2,0,0⟩) (by simp[results,Tryz.results38,go_sem,s0,s1,s2]) rfl ?_;exact aQ.of HL (jR (iH HB2) _ _ _)
   ·have qk:((k:Int)==0)=false:=by simp;omega
    have HK0:Hid (k≠0):=hk0;clear hk0;have HA:Hid (∀w2,Below (wr.alloc (.cells (jO (u.fn k) (fas k)) 87)).heap.size (wr.alloc (.cells (jO (u.fn k) (fas k)) 87)) w2->Below (cZ w u (some ⟨b,off,none⟩) cap).heap.size (cZ w u (some ⟨b,off,none⟩) cap) w2/\Has w2 wr.heap.size (jO (u.fn k) (fas k))):=fun w2 h=>⟨aH (bH HB.out _) h,Has.made h⟩;by_cases hh:qc (u.fn k)
    ·have hdb:dB (qc (u.fn k))=true:=jI hh;have HG:Hid (yB u k):=gW.2 ⟨hh,fun h=>absurd h HK0.out⟩;clear hh;go_wp2_with (go_at_call 76;refine(EY L (u.fn k) (fas k) _ (HS.fn k hkn) ((iF.2 k hkn).alloc _)).mono ?_;rw[hdb];rintro e w2 ⟨rfl,hb2⟩;have HB2:Hid (Below (cZ w u (some ⟨b,off,none⟩) cap).heap.size (cZ w u (some ⟨b,off,none⟩) cap) w2):=(HA.out _ hb2).1;have x2:w2.cell? ⟨wr.heap.size,2,none⟩=some (.int .i64 (u.fn k).params):=(HA.out _ hb2).2.cell 2 rfl;have x5:w2.cell? ⟨wr.heap.size,5,none⟩=some (.slice (fas k).ua (u.fn k).un (fas k).uc):=(HA.out _ hb2).2.cell 5 rfl;have s0:=(bT HB2.out).cell (i:=0) (by omega);have s1:=(bT HB2.out).cell (i:=1) (by omega);have s2:=(bT HB2.out).cell (i:=2) (by omega);have sz:=(bT HB2.out).frozen;clear hb2);go_roundw
     case rel=>exact⟨k+1,by omega,by go_num,fun j hj=>by
      by_cases e:j=k
      ·subst e;exact HG
      ·exact HH.out j (by omega),HB2⟩
     case measure=>simp[intOf];omega
    ·have hdb:dB (qc (u.fn k))=false:=iP hh;have HL:Hid (Least (kW u) ⟨2,k,0⟩):=KX hkn HH.out fun h=>hh (gW.1 h).1;clear hh;go_wp2_with (go_at_call 76;refine(EY L (u.fn k) (fas k) _ (HS.fn k hkn) ((iF.2 k hkn).alloc _)).mono ?_;rw[hdb];rintro e w2 ⟨rfl,hb2⟩;have HB2:Hid (Below (cZ w u (some ⟨b,off,none⟩) cap).heap.size (cZ w u (some ⟨b,off,none⟩) cap) w2):=(HA.out _ hb2).1;have x2:w2.cell? ⟨wr.heap.size,2,none⟩=some (.int .i64 (u.fn k).params):=(HA.out _ hb2).2.cell 2 rfl;have x5:w2.cell? ⟨wr.heap.size,5,none⟩=some (.slice (fas k).ua (u.fn k).un (fas k).uc):=(HA.out _ hb2).2.cell 5 rfl;have s0:=(bT HB2.out).cell (i:=0) (by omega);have s1:=(bT HB2.out).cell (i:=1) (by omega);have s2:=(bT HB2.out).cell (i:=2) (by omega);have sz:=(bT HB2.out).frozen;clear hb2);refine bodyPost_ret (v:=iE ⟨2,k,0⟩) (by simp[results,Tryz.results38,go_sem,s0,s1,s2]) rfl ?_;exact aQ.of HL (jR (iH HB2) _ _ _)
  ·obtain rfl:k=u.n:=by omega
   have HL:Hid (Least (kW u) ⟨0,0,0⟩):=yh2 HH.out;have s0:=(bT HB.out).cell (i:=0) (by omega);have s1:=(bT HB.out).cell (i:=1) (by omega);have s2:=(bT HB.out).cell (i:=2) (by omega);have sz:=(bT HB.out).frozen;go_wp2_with fail;refine bodyPost_ret (v:=iE ⟨0,0,0⟩) (by simp[results,Tryz.results38,go_sem,s0,s1,s2]) rfl ?_;exact aQ.of HL (jR (iH HB) _ _ _)
def rE(a b:Int):Int:=if a<b then -1 else if b<a then 1 else 0
theorem z83(a:Int)(w:World):Calls Tryz.prog 163 #[.int .i64 a] w fun e w'=>e=.returned (.bool false)/\w'=w:=by
 go_in;go_wp2_with fail;go_ret;exact⟨by simp,rfl⟩
theorem qv7(a b:Int)(w:World):Calls Tryz.prog 129 #[.int .i64 a,.int .i64 b] w fun e w'=>e=.returned (.int .i64 (rE a b))/\w'=w:=by
 go_in;go_wp2_with (go_at_call 163;refine(z83 _ _).mono ?_;rintro e w1 ⟨rfl,rfl⟩);all_goals go_ret
 all_goals exact⟨yd4 (by unfold rE;(repeat split)<;>first|rfl|omega),rfl⟩
def Bq(x y z:Int):Int:=if x=0 then(if y=0 then z else y) else x
theorem ZH(x y z:Int)(R:Nat)(w:World)(h0:w.cell? ⟨R,0,none⟩=some (.int .i64 x))(h1:w.cell? ⟨R,1,none⟩=some (.int .i64 y))(h2:w.cell? ⟨R,2,none⟩=some (.int .i64 z)):Calls Tryz.prog 128 #[.slice (some ⟨R,0,none⟩) 3 3] w fun e w'=>e=.returned (.int .i64 (Bq x y z))/\w'=w:=by
 by_cases c0:x=0
 ·by_cases c1:y=0
  ·by_cases c2:z=0
   ·subst c0 c1 c2;go_in;go_wp2_with fail;refine wp_loop_rounds 4 ?_;rw[rounds_succ];go_wp2_with fail;rw[rounds_succ];go_wp2_with fail;rw[rounds_succ];go_wp2_with fail;rw[rounds_succ];go_wp2_with fail;go_ret;exact⟨rfl,rfl⟩
   ·have q2:(z != 0)=true:=by simpa using c2
    subst c0 c1;go_in;go_wp2_with fail;refine wp_loop_rounds 3 ?_;rw[rounds_succ];go_wp2_with fail;rw[rounds_succ];go_wp2_with fail;rw[rounds_succ];go_wp2_with fail;go_ret;exact⟨rfl,rfl⟩
  ·have q1:(y != 0)=true:=by simpa using c1
   have hv:Bq x y z=y:=by unfold Bq;rw[if_pos c0,if_neg c1]
   rw[hv];subst c0;go_in;go_wp2_with fail;refine wp_loop_rounds 2 ?_;rw[rounds_succ];go_wp2_with fail;rw[rounds_succ];go_wp2_with fail;go_ret;exact⟨rfl,rfl⟩
 ·have q0:(x != 0)=true:=by simpa using c0
  have hv:Bq x y z=x:=by unfold Bq;rw[if_neg c0]
  rw[hv];go_in;go_wp2_with fail;refine wp_loop_rounds 1 ?_;rw[rounds_succ];go_wp2_with fail;go_ret;exact⟨rfl,rfl⟩
theorem Zc(a b:FT):0<Bq (rE a.c b.c) (rE a.f b.f) (rE a.n b.n)↔¬a.le b:=by
 unfold Bq rE FT.le
 (repeat split)<;>omega
abbrev vC(w:World)(a b:FT):World:=((w.alloc (.cells #[.int .i64 (a.c:Int),.int .i64 (a.f:Int),.int .i64 (a.n:Int)] 56)).alloc (.cells #[.int .i64 (b.c:Int),.int .i64 (b.f:Int),.int .i64 (b.n:Int)] 56)).alloc (.cells #[.int .i64 0,.int .i64 0,.int .i64 0] 56)
abbrev Z4(B ac af an bc bf bn:Nat)(w':World):Prop:=w'.cell? ⟨B,0,none⟩=some (.int .i64 (ac:Int))/\w'.cell? ⟨B,1,none⟩=some (.int .i64 (af:Int))/\w'.cell? ⟨B,2,none⟩=some (.int .i64 (an:Int))/\w'.cell? ⟨B+1,0,none⟩=some (.int .i64 (bc:Int))/\w'.cell? ⟨B+1,1,none⟩=some (.int .i64 (bf:Int))/\w'.cell? ⟨B+1,2,none⟩=some (.int .i64 (bn:Int))
theorem Ub{w wr:World}{a b:FT}(h:Below (vC w a b).heap.size (vC w a b) wr):ah w wr:=aH (yG w _ _ _) h
theorem Uc{w wr:World}{ac af an bc bf bn:Nat}(h:Below (vC w ⟨ac,af,an⟩ ⟨bc,bf,bn⟩).heap.size (vC w ⟨ac,af,an⟩ ⟨bc,bf,bn⟩) wr):Z4 w.heap.size ac af an bc bf bn wr:=by
 have h1:Has wr w.heap.size #[.int .i64 (ac:Int),.int .i64 (af:Int),.int .i64 (an:Int)]:=(((Has.new w _ _).alloc _).alloc _).call h;have h2:Has wr (w.heap.size+1) #[.int .i64 (bc:Int),.int .i64 (bf:Int),.int .i64 (bn:Int)]:=by
  have:=((Has.new (w.alloc (.cells #[.int .i64 (ac:Int),.int .i64 (af:Int),.int .i64 (an:Int)] 56)) #[.int .i64 (bc:Int),.int .i64 (bf:Int),.int .i64 (bn:Int)] 56).alloc (.cells #[.int .i64 0,.int .i64 0,.int .i64 0] 56)).call h;simpa using this
 exact⟨h1.cell 0 rfl,h1.cell 1 rfl,h1.cell 2 rfl,h2.cell 0 rfl,h2.cell 1 rfl,h2.cell 2 rfl⟩
theorem Kv{w wr:World}{a b:FT}(h:Below (vC w a b).heap.size (vC w a b) wr):wr.rowIs (w.heap.size+1 + 1) 56 3 (fun _=>.int .i64 0):=by
 have h1:=World.rowIs_alloc ((w.alloc (.cells #[.int .i64 (a.c:Int),.int .i64 (a.f:Int),.int .i64 (a.n:Int)] 56)).alloc (.cells #[.int .i64 (b.c:Int),.int .i64 (b.f:Int),.int .i64 (b.n:Int)] 56)) #[.int .i64 0,.int .i64 0,.int .i64 0] 56 (fun _=>.int .i64 0) (fun i hi=>by
  have:i=0\/i=1\/i=2:=by simp at hi;omega
  rcases this with rfl|rfl|rfl<;>rfl)
 have h2:=h1.of_block (h.block _ h1.lt);simpa using h2
theorem PS(a b:FT)(w:World):Calls Tryz.prog 81 #[iE a,iE b] w fun e w'=>e=.returned (iE (qg a b))/\ah w w':=by
 obtain⟨ac,af,an⟩:=a;obtain⟨bc,bf,bn⟩:=b;go_in
 go_upto_region 1 with fail
 obtain⟨w3,HB,hw3⟩:∃w3,Hid (Below (vC w ⟨ac,af,an⟩ ⟨bc,bf,bn⟩).heap.size (vC w ⟨ac,af,an⟩ ⟨bc,bf,bn⟩) w3)/\vC w ⟨ac,af,an⟩ ⟨bc,bf,bn⟩=w3:=⟨_,Below.refl _ _,rfl⟩;simp only[vC] at hw3;rw[hw3];clear hw3;have HS:Hid (∀W,ah w3 W->Z4 w.heap.size ac af an bc bf bn W):=fun W hW=>Uc (aH HB.out hW);have yc:Hid (ah w w3):=Ub HB.out
 go_region_held3 (fun w'=>w'.cell? ⟨w.heap.size,0,none⟩=some (.int .i64 (ac:Int))/\w'.cell? ⟨w.heap.size,1,none⟩=some (.int .i64 (af:Int))/\w'.cell? ⟨w.heap.size,2,none⟩=some (.int .i64 (an:Int))/\w'.cell? ⟨w.heap.size+1,0,none⟩=some (.int .i64 (bc:Int))/\w'.cell? ⟨w.heap.size+1,1,none⟩=some (.int .i64 (bf:Int))/\w'.cell? ⟨w.heap.size+1,2,none⟩=some (.int .i64 (bn:Int))) (first|(with_reducible exact HS.out _ (Below.refl _ _))|(with_reducible exact HS.out _ (q01 _ _))|(with_reducible exact HS.out _ (Below.refl _ _).drew)|(with_reducible exact HS.out _ (q01 _ _).drew)) (first|(go_at_call 129;refine(qv7 _ _ _).mono ?_;rintro e w1 ⟨rfl,rfl⟩)|(go_at_call 128;refine(ZH (rE (ac:Int) (bc:Int)) (rE (af:Int) (bf:Int)) (rE (an:Int) (bn:Int)) _ _ (by simp) (by simp) (by simp)).mono ?_;rintro e w1 ⟨rfl,rfl⟩))
 obtain⟨w4,hw4⟩:∃w4,w4=(w3.alloc (.cells #[.int .i64 (rE (ac:Int) (bc:Int)),.int .i64 (rE (af:Int) (bf:Int)),.int .i64 (rE (an:Int) (bn:Int))] 3)).drew:=⟨_,rfl⟩;have HB4:Hid (Below (vC w ⟨ac,af,an⟩ ⟨bc,bf,bn⟩).heap.size (vC w ⟨ac,af,an⟩ ⟨bc,bf,bn⟩) w4):=by show Below _ _ _;rw[hw4];exact(bH HB _).drew
 rw[<-hw4];clear hw4 HB yc;have Ak:Hid (ah w w4):=Ub HB4.out;obtain⟨a0,a1,a2,b0,b1,b2⟩:=Uc HB4.out;have s0:=(Kv HB4.out).cell (i:=0) (by omega);have s1:=(Kv HB4.out).cell (i:=1) (by omega);have s2:=(Kv HB4.out).cell (i:=2) (by omega);have sz:=(Kv HB4.out).frozen;by_cases c0:ac=0
 ·subst c0;go_wp2_with fail;refine bodyPost_ret (v:=iE ⟨bc,bf,bn⟩) (by simp[results,Tryz.results81,go_sem,s0,s1,s2]) rfl ?_;refine⟨?_,iT (iT (iT Ak (Nat.le_add_right _ 2) _) (Nat.le_add_right _ 2) _) (Nat.le_add_right _ 2) _⟩;exact KH (by unfold qg;rw[if_pos rfl])
 ·have q0:((ac:Int)==0)=false:=by simp;omega
  by_cases c1:bc=0
  ·subst c1;go_wp2_with fail;refine bodyPost_ret (v:=iE ⟨ac,af,an⟩) (by simp[results,Tryz.results81,go_sem,s0,s1,s2]) rfl ?_;refine⟨?_,iT (iT (iT Ak (Nat.le_add_right _ 2) _) (Nat.le_add_right _ 2) _) (Nat.le_add_right _ 2) _⟩;exact KH (by unfold qg;rw[if_neg c0,if_neg (fun h=>h.1 rfl)])
  ·have q1:((bc:Int) != 0)=true:=by simp;omega
   have hle:=Zc ⟨ac,af,an⟩ ⟨bc,bf,bn⟩;by_cases c2:0<Bq (rE (ac:Int) (bc:Int)) (rE (af:Int) (bf:Int)) (rE (an:Int) (bn:Int))
   ·have HV:Hid (qg ⟨ac,af,an⟩ ⟨bc,bf,bn⟩=⟨bc,bf,bn⟩):=by show _=_;unfold qg;rw[if_neg c0,if_pos ⟨c1,hle.1 c2⟩]
    clear hle;go_wp2_with fail;refine bodyPost_ret (v:=iE ⟨bc,bf,bn⟩) (by simp[results,Tryz.results81,go_sem,s0,s1,s2]) rfl ?_;refine⟨?_,iT (iT (iT Ak (Nat.le_add_right _ 2) _) (Nat.le_add_right _ 2) _) (Nat.le_add_right _ 2) _⟩;exact KH (by rw[HV.out])
   ·have HV:Hid (qg ⟨ac,af,an⟩ ⟨bc,bf,bn⟩=⟨ac,af,an⟩):=by show _=_;unfold qg;rw[if_neg c0,if_neg (fun h=>c2 (hle.2 h.2))]
    clear hle;go_wp2_with fail;refine bodyPost_ret (v:=iE ⟨ac,af,an⟩) (by simp[results,Tryz.results81,go_sem,s0,s1,s2]) rfl ?_;refine⟨?_,iT (iT (iT Ak (Nat.le_add_right _ 2) _) (Nat.le_add_right _ 2) _) (Nat.le_add_right _ 2) _⟩;exact KH (by rw[HV.out])
theorem WZ(B o n cap:Nat)(p:Nat->Bool)(w:World)(hn:n<=1048576)(hT:∀i,i<n->w.cell? ⟨B,o+i,none⟩=some (.bool (p i))):Calls Tryz.prog 144 #[.slice (some ⟨B,o,none⟩) n cap,.bool false] w fun e w'=>(∃r:Int,e=.returned (.int .i64 r)/\((r = -1/\∀i,i<n->p i=true)\/∃i:Nat,r=i/\i<n/\p i=false/\∀j,j<i->p j=true))/\w'=w:=by
 have HT:Hid (∀i,i<n->w.cell? ⟨B,o+i,none⟩=some (.bool (p i))):=hT;clear hT;go_in;go_wp2_with fail
 go_loopw [8] (fun i wr=>∃(k:Nat),k<=n/\i=.int .i64 k/\Hid (∀j,j<k->p j=true)/\wr=w) (fun i _=>n-(intOf i).toNat)
 case atStart=>exact⟨0,Nat.zero_le _,rfl,fun j hj=>by omega,rfl⟩
 case round=>
  obtain⟨k,hk,rfl,HK,rfl⟩:=hrel;by_cases hkn:k<n
  ·have d0:=HT.out k hkn
   cases hp:p k
   ·rw[hp] at d0;go_wp2_with fail;go_ret;exact⟨⟨_,rfl,.inr ⟨k,rfl,hkn,hp,HK⟩⟩,rfl⟩
   ·rw[hp] at d0;have HP:Hid (p k=true):=hp;go_wp2_with fail;go_roundw
    case rel=>exact⟨k+1,by omega,by go_num,fun j hj=>by
     by_cases e:j=k
     ·subst e;exact HP
     ·exact HK.out j (by omega),by first|rfl|trivial⟩
    case measure=>simp[intOf];omega
  ·go_wp2_with fail;go_ret;exact⟨⟨_,rfl,.inl ⟨rfl,fun i hi=>HK.out i (by omega)⟩⟩,rfl⟩
theorem zc5{u:UD}{f n:Nat}(hf:f<u.n)(hn:n<(u.fn f).nn)(h3:∀f',f'<f->∀n',n'<(u.fn f').nn->¬sS u f' n')(h4:∀n',n'<n->¬sS u f n')(h5:sS u f n):Least (yA u) ⟨8,f,n⟩:=
 Least.ahead (At2.least (N:=fun f=>(u.fn f).nn) (bad:=sS u) (by decide) h3 h4 hf hn h5) (by show(8:Nat)≠0;decide) fun y hy=>by
  show 8<y.c;rw[hy.1];decide
theorem zm4{u:UD}{f:Nat}(hf:f<u.n)(h1:1<=f)(h8:∀f',f'<u.n->∀n',n'<(u.fn f').nn->¬sS u f' n')(h3:∀f',1<=f'->f'<f->∃g x,Ba u g x f')(h5:¬∃g x,Ba u g x f):Least (yA u) ⟨9,f,0⟩:=
 Least.behind (fun y hy=>h8 _ hy.2.1 _ hy.2.2.1 hy.2.2.2) (.inr ⟨by show(0:Nat)<9;decide,⟨rfl,rfl,h1,hf,h5⟩,fun y hy=>.inr ⟨hy.1.symm,by
  show f<y.f\/f=y.f/\0<=y.n;by_cases e:y.f<f
  ·exact absurd (h3 _ hy.2.2.1 e) hy.2.2.2.2
  ·omega⟩⟩)
theorem Wn{u:UD}(h8:∀f',f'<u.n->∀n',n'<(u.fn f').nn->¬sS u f' n')(h9:∀f',1<=f'->f'<u.n->∃g x,Ba u g x f'):Least (yA u) jl:=
 Least.zero fun y hy=>by
  rcases hy with hy|hy
  ·exact h8 _ hy.2.1 _ hy.2.2.1 hy.2.2.2
  ·exact hy.2.2.2.2 (h9 _ hy.2.2.1 hy.2.2.2.1)
theorem ye2{w:World}{M:Nat}{u:UD}{f x:Nat}(hf:f<u.n)(hx:x<(u.fn f).nn)(h:bC w M u f x)(hk:¬fO (((u.fn f).nd x).r 0) u.n):bC w M u f (x+1):=(World.rowIs.congr h fun i hi=>by
 have e:q22 u f (x+1) i↔q22 u f x i:=by
  rw[Hl hf hx];exact⟨fun h=>h.elim id fun h=>absurd (⟨by omega,by omega⟩:fO (((u.fn f).nd x).r 0) u.n) hk,.inl⟩
 by_cases c:q22 u f x i
 ·rw[jI c,jI (e.2 c)]
 ·rw[iP c,iP fun c'=>c (e.1 c')])
theorem qn1(L:Nat)(u:UD)(a:Option Addr)(cap:Nat)(fas:Nat->FA)(w:World)(hs:u.sm)(h3:U3 u)(hT:aZ L w u.n u.fn a fas):Calls Tryz.prog 84 #[pq u a cap] w fun e w'=>aQ (yA u) w e w':=by
 have HT:Hid (aZ L w u.n u.fn a fas):=hT;have HS:Hid u.sm:=hs;have H3:Hid (U3 u):=h3;have hun:=h3.size.2.1;have a02:=h3.size.1;obtain⟨b,off,e0,_,hb,_⟩:=dQ hT.1 (show 0<u.n from h3.size.1);subst e0;clear hT hs h3;have hmk:=fun v=>run_make_row' (P:=Tryz.prog) 217 4 (.bool false) 1 Tryz.underlying217 Ug rfl .i64 .i64 u.n (by omega) (by omega) v;go_in;go_wp2_with fail;clear hmk;obtain⟨w3,hw3⟩:∃w3,w3=(cZ w u (some ⟨b,off,none⟩) cap).alloc (.cells (madeCells #[.bool false] u.n) 4):=⟨_,rfl⟩;have YS:Hid (Below (cZ w u (some ⟨b,off,none⟩) cap).heap.size (cZ w u (some ⟨b,off,none⟩) cap) w3):=by show Below _ _ _;rw[hw3];exact q01 _ _
 have HR3:Hid (bC w3 (w.heap.size+1 + 1) u 0 0):=by
  show World.rowIs _ _ _ _ _;rw[hw3];exact(GH _ _ _ (by simp)).congr fun i _=>by rw[iP Zv]
 simp only[cZ] at hw3;rw[<-hw3];clear hw3;have hfm:(cZ w u (some ⟨b,off,none⟩) cap).heap.size<=w.heap.size+1 + 1:=by simp
 have hm3:w.heap.size+1 + 1<w3.heap.size:=World.rowIs.lt HR3.out
 go_loopw [16] (fun i wr=>∃(k:Nat),k<=u.n/\i=.int .i64 k/\Hid (∀f',f'<k->∀n',n'<(u.fn f').nn->¬sS u f' n')/\Hid (Below (w.heap.size+1 + 1) w3 wr)/\Hid (bC wr (w.heap.size+1 + 1) u k 0)) (fun i _=>u.n-(intOf i).toNat)
 case atStart=>exact⟨0,Nat.zero_le _,rfl,fun f' hf'=>by omega,Below.refl _ _,HR3⟩
 case round=>
  clear HR3;obtain⟨k,hk,rfl,H8,HW,HM⟩:=hrel;have HB:Hid (Below (cZ w u (some ⟨b,off,none⟩) cap).heap.size (cZ w u (some ⟨b,off,none⟩) cap) wr):=YS.trans (HW.mono hfm);by_cases hkn:k<u.n
  ·have iF:Hid (aZ L wr u.n u.fn (some ⟨b,off,none⟩) fas):=HT.below (iH HB.out);obtain⟨b',off',e0,_,hbz,d0,d1,d2,d3,d4,d5,d6⟩:=dQ iF.1 hkn;obtain⟨rfl,rfl⟩:b=b'/\off=off':=by simpa using e0
   clear e0;have hnn:=H3.nn hkn;have hMw:w.heap.size+1 + 1<wr.heap.size:=Nat.lt_of_lt_of_le hm3 HW.size
   rename World=>wa
   go_wp2_with fail;clear d0 d1 d2 d3 d4 d5 d6;have HW1:Hid (Below (w.heap.size+1 + 1) w3 (wa.alloc (.cells (jO (u.fn k) (fas k)) 87))):=HW.alloc (by omega) _;have uK:Hid (bC (wa.alloc (.cells (jO (u.fn k) (fas k)) 87)) (w.heap.size+1 + 1) u k 0):=HM.below (q01 _ _);clear HB iF HW HM
   go_loopw [24] (fun i wr=>∃(m:Nat),m<=(u.fn k).nn/\i=.int .i64 m/\Hid (∀n',n'<m->¬sS u k n')/\Hid (Below (w.heap.size+1 + 1) w3 wr)/\Hid (bC wr (w.heap.size+1 + 1) u k m)) (fun i _=>(u.fn k).nn-(intOf i).toNat)
   case atStart=>exact⟨0,Nat.zero_le _,rfl,fun f' hf'=>by omega,HW1,uK⟩
   case round=>
    clear HW1 uK;obtain⟨m,hm,rfl,HN,HW,HM⟩:=hrel;have HB:Hid (Below (cZ w u (some ⟨b,off,none⟩) cap).heap.size (cZ w u (some ⟨b,off,none⟩) cap) wr):=YS.trans (HW.mono hfm);by_cases hmn:m<(u.fn k).nn
    ·have iF:Hid (aZ L wr u.n u.fn (some ⟨b,off,none⟩) fas):=HT.below (iH HB.out);have a04:w.heap.size+1 + 1<wr.heap.size:=World.rowIs.lt HM.out;obtain⟨b2,o2,e2,_,hb2,g0,g1,g2,g3,g4,g5,g6,g7⟩:=dK (iF.2 k hkn).2.2.1 hmn;rw[e2];clear e2;have Fh:Hid (Below (w.heap.size+1 + 1) w3 (wr.alloc (.cells (dJ ((u.fn k).nd m) ((fas k).nas m)) 98))):=HW.alloc (by omega) _;have s0:=(bT HB.out).cell (i:=0) (by omega);have s1:=(bT HB.out).cell (i:=1) (by omega);have s2:=(bT HB.out).cell (i:=2) (by omega);have sz:=(bT HB.out).frozen;have hrz:w.heap.size+1<wr.heap.size:=(bT HB.out).lt;by_cases BM:((u.fn k).nd m).k=36
     ·have Xk:(((u.fn k).nd m).k != 36)=false:=by rw[BM];rfl
      have hrn:=(H3.facts hkn hmn).one (.inr (.inr (.inl BM)));obtain⟨b3,o3,e3,_,hb3,r0⟩:=aX ((iF.2 k hkn).2.2.2 m hmn).1 (show 0<((u.fn k).nd m).rn by omega);rw[e3,hrn] at g6;rw[Nat.add_zero] at r0;have hcell:dJ ((u.fn k).nd m) ((fas k).nas m)=FQ ((u.fn k).nd m) (some ⟨b3,o3,none⟩) 1 ((fas k).nas m):=by
       show #[_,_,_,_,_,_,_,_] = #[_,_,_,_,_,_,_,_];rw[e3,hrn]
      have HCL:Hid (dJ ((u.fn k).nd m) ((fas k).nas m)=FQ ((u.fn k).nd m) (some ⟨b3,o3,none⟩) 1 ((fas k).nas m)):=hcell;clear hcell hrn e3;have YW:Hid (((u.fn k).nd m).k=36):=BM;clear BM;by_cases hin:fO (((u.fn k).nd m).r 0) u.n
      ·obtain⟨g,hg⟩:∃g:Nat,((u.fn k).nd m).r 0=g:=⟨(((u.fn k).nd m).r 0).toNat,by have:=hin.1;omega⟩;have hgn:g<u.n:=by have:=hin.2;omega
       have HI:Hid (fO (((u.fn k).nd m).r 0) u.n):=hin;have HG:Hid (((u.fn k).nd m).r 0=g):=hg;rw[hg] at r0;have hw:je (g:Int) (u.n:Int)=true:=by unfold je;simp;omega
       clear hin hg;have m0:=World.rowIs.cell HM.out (i:=g) hgn;have mz:=World.rowIs.frozen HM.out;by_cases c2:q22 u k m g
       ·have HL:Hid (Least (yA u) ⟨8,k,m⟩):=zc5 hkn hmn H8.out HN.out ⟨YW.out,HI.out,by rw[HG.out];exact c2⟩;rw[jI c2] at m0;clear c2;go_wp2_with (go_at_call 143;refine(q11 _ _ _).mono ?_;rw[hw];rintro e w1 ⟨rfl,rfl⟩);refine bodyPost_ret (v:=iE ⟨8,k,m⟩) (by simp[results,Tryz.results84,go_sem,s0,s1,s2,hrz]) rfl ?_;exact aQ.of HL (bH (jR (iH HB) _ _ _) _)
       ·have HT2:Hid (¬sS u k m):=fun h=>c2 (by have:=h.2.2;rw[HG.out] at this;exact this);rw[iP c2] at m0;clear c2;have JA:Hid (bC ((wr.setCell ⟨w.heap.size+1 + 1,g,none⟩ (.bool true)).alloc (.cells (FQ ((u.fn k).nd m) (some ⟨b3,o3,none⟩) 1 ((fas k).nas m)) 98)) (w.heap.size+1 + 1) u k (m+1)):=(bC.set hkn hmn HM.out YW.out HG.out).below (q01 _ _);have HWs:Hid (Below (w.heap.size+1 + 1) w3 ((wr.setCell ⟨w.heap.size+1 + 1,g,none⟩ (.bool true)).alloc (.cells (FQ ((u.fn k).nd m) (some ⟨b3,o3,none⟩) 1 ((fas k).nas m)) 98))):=(iT HW.out (Nat.le_refl _) _).alloc (by simp;omega) _;go_wp2_with (go_at_call 143;refine(q11 _ _ _).mono ?_;rw[hw];rintro e w1 ⟨rfl,rfl⟩);go_roundw
        case rel=>exact⟨m+1,by omega,by go_num,fun j hj=>by
         by_cases e:j=m
         ·subst e;exact HT2
         ·exact HN.out j (by omega),HWs,JA⟩
        case measure=>simp[intOf];omega
      ·have hw:je (((u.fn k).nd m).r 0) (u.n:Int)=false:=by unfold je;unfold fO at hin;simp;omega
       have HT2:Hid (¬sS u k m):=fun h=>hin h.2.1;have JA:Hid (bC (wr.alloc (.cells (FQ ((u.fn k).nd m) (some ⟨b3,o3,none⟩) 1 ((fas k).nas m)) 98)) (w.heap.size+1 + 1) u k (m+1)):=(ye2 hkn hmn HM.out hin).below (q01 _ _);rw[HCL.out] at Fh;clear hin;go_wp2_with (go_at_call 143;refine(q11 _ _ _).mono ?_;rw[hw];rintro e w1 ⟨rfl,rfl⟩);go_roundw
       case rel=>exact⟨m+1,by omega,by go_num,fun j hj=>by
        by_cases e:j=m
        ·subst e;exact HT2
        ·exact HN.out j (by omega),Fh,JA⟩
       case measure=>simp[intOf];omega
     ·have Xk:(((u.fn k).nd m).k != 36)=true:=by simpa using BM
      have HT2:Hid (¬sS u k m):=fun h=>BM h.1;have JA:Hid (bC (wr.alloc (.cells (dJ ((u.fn k).nd m) ((fas k).nas m)) 98)) (w.heap.size+1 + 1) u k (m+1)):=(HM.skip hkn hmn BM).below (q01 _ _);clear BM;go_wp2_with fail;go_roundw
      case rel=>exact⟨m+1,by omega,by go_num,fun j hj=>by
       by_cases e:j=m
       ·subst e;exact HT2
       ·exact HN.out j (by omega),Fh,JA⟩
      case measure=>simp[intOf];omega
    ·obtain rfl:m=(u.fn k).nn:=by omega
     have nR:Hid (bC wr (w.heap.size+1 + 1) u (k+1) 0):=HM.congr fun v=>uj.symm;go_wp2_with fail;go_roundw
     case rel=>exact⟨k+1,by omega,by go_num,fun j hj=>by
      by_cases e:j=k
      ·subst e;exact HN
      ·exact H8.out j (by omega),HW,nR⟩
     case measure=>simp[intOf];omega
  ·obtain rfl:k=u.n:=by omega
   have s0:=(bT HB.out).cell (i:=0) (by omega);have s1:=(bT HB.out).cell (i:=1) (by omega);have s2:=(bT HB.out).cell (i:=2) (by omega);have sz:=(bT HB.out).frozen;have hrz:w.heap.size+1<wr.heap.size:=(bT HB.out).lt;have HC:Hid (∀i,i<u.n-1->wr.cell? ⟨w.heap.size+1 + 1,1+i,none⟩=some (.bool (dB (q22 u u.n 0 ((1+i:Nat):Int))))):=fun i hi=>World.rowIs.cell HM.out (i:=1+i) (by omega);have hsub:u.n-1<=1048576:=by omega
   have SY:Hid (∀f',f'<u.n->∀n',n'<(u.fn f').nn->¬sS u f' n'):=H8.out;by_cases h1n:u.n=1
   ·have HL:Hid (Least (yA u) jl):=Wn SY.out fun f' a b=>by omega
    go_wp2_with fail;all_goals first
     |(refine(WZ (w.heap.size+1 + 1) 0 0 0 (fun _=>true) wr (by omega) (fun i hi=>by omega)).mono ?_)
     |omega
    rintro e w1 ⟨⟨r,rfl,hr⟩,rfl⟩;rcases hr with⟨rfl,_⟩|⟨i,rfl,hin,_⟩
    ·go_wp2_with fail;refine bodyPost_ret (v:=iE jl) (by simp[results,Tryz.results84,go_sem,s0,s1,s2]) rfl ?_;exact aQ.of HL (jR (iH HB) _ _ _)
    ·omega
   ·go_wp2_with fail;all_goals first
     |(refine(WZ (w.heap.size+1 + 1) 1 (u.n-1) (u.n-1) (fun i=>dB (q22 u u.n 0 ((1+i:Nat):Int))) wr hsub HC.out).mono ?_)
     |omega
    rintro e w1 ⟨⟨r,rfl,hr⟩,rfl⟩;rcases hr with⟨rfl,ha⟩|⟨i,rfl,hin,hpi,hbe⟩
    ·have HL:Hid (Least (yA u) jl):=Wn SY.out fun f' a b=>by
      have:dB (q22 u u.n 0 ((1+(f'-1):Nat):Int))=true:=ha (f'-1) (by omega);rw[show 1+(f'-1)=f' by omega] at this;exact kQ.1 (xE.1 this)
     clear ha;go_wp2_with fail;refine bodyPost_ret (v:=iE jl) (by simp[results,Tryz.results84,go_sem,s0,s1,s2]) rfl ?_;exact aQ.of HL (jR (iH HB) _ _ _)
    ·have HL:Hid (Least (yA u) ⟨9,1+i,0⟩):=zm4 (by omega) (by omega) SY.out (fun f' a b=>by
      have:dB (q22 u u.n 0 ((1+(f'-1):Nat):Int))=true:=hbe (f'-1) (by omega);rw[show 1+(f'-1)=f' by omega] at this;exact kQ.1 (xE.1 this)) (fun h=>by
      have Xz:dB (q22 u u.n 0 ((1+i:Nat):Int))=false:=hpi;rw[jI (kQ.2 h)] at Xz
      cases Xz)
     clear hbe hpi;go_wp2_with fail;refine bodyPost_ret (v:=iE ⟨9,1+i,0⟩) (by simp[results,Tryz.results84,go_sem,s0,s1,s2];omega) rfl ?_;exact aQ.of HL (jR (iH HB) _ _ _)
end
end Go.Proofs.YtihnikeikhjndaaGreatDoor
