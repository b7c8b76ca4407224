import Derived.Test.YtaimofjekgnieaaGreatDoorUnD
import Derived.BigQuiet
import Derived.Deep.DeepCutAuto
import Derived.Deep.QuietTactic
set_option maxRecDepth 100000
set_option maxHeartbeats 16000000
namespace Go.Proofs.YtaimofjekgnieaaGreatDoor
open Go.RowKit
attribute [local go_sem] q00
attribute [local go_sem ↓] Go.wp_at_zero Go.wp_at_succ
theorem zr0 {w wx:World} {q:Addr} {v:Value} (hb:Below w.heap.size w wx) (h:w.cell? q=some v):wx.cell? q=some v:=by
 have hq:q.block<w.heap.size:=by
  refine Nat.lt_of_not_le fun hle=>?_
  have:w.heap[q.block]?=none:=Array.getElem?_eq_none hle
  simp[World.cell?,this] at h
 rw[hb.cell hq]
 exact h
theorem q03 {a w:World} (h:Below a.heap.size a w) (o:Obj):Below a.heap.size a (w.alloc o):=h.alloc h.size _
abbrev ftV (x:FT):Value:=.agg #[.int .i64 x.c,.int .i64 x.f,.int .i64 x.n]
theorem seenV_succ {d:FD} {x k:Nat} {v:Int}:q78 d x (k+1) v↔q78 d x k v\/(d.nd x).r k=v:=by
 unfold q78
 constructor
 ·rintro (h|h|⟨b,hb,h⟩)
  ·exact .inl (.inl h)
  ·exact .inl (.inr (.inl h))
  ·by_cases e:b=k
   ·subst e;exact .inr h
   ·exact .inl (.inr (.inr ⟨b,by omega,h⟩))
 ·rintro ((h|h|⟨b,hb,h⟩)|h)
  ·exact .inl h
  ·exact .inr (.inl h)
  ·exact .inr (.inr ⟨b,by omega,h⟩)
  ·exact .inr (.inr ⟨k,by omega,h⟩)
theorem qv7 {d:FD} {x:Nat} {v:Int}:q78 d (x+1) 0 v↔q78 d x 0 v\/(qc8 (d.nd x).k/\z44 (d.nd x) v):=by
 unfold q78
 constructor
 ·rintro (h|⟨m,hm,h⟩|⟨b,hb,h⟩)
  ·exact .inl (.inl h)
  ·by_cases e:m=x
   ·subst e;exact .inr h
   ·exact .inl (.inr (.inl ⟨m,by omega,h⟩))
  ·omega
 ·rintro ((h|⟨m,hm,h⟩|⟨b,hb,h⟩)|h)
  ·exact .inl h
  ·exact .inr (.inl ⟨m,by omega,h⟩)
  ·omega
  ·exact .inr (.inl ⟨x,by omega,h⟩)
theorem zu4 {d:FD} {x:Nat} {v:Int}:q78 d x (d.nd x).rn v↔q78 d x 0 v\/z44 (d.nd x) v:=by
 unfold q78 z44
 constructor
 ·rintro (h|h|h)
  ·exact .inl (.inl h)
  ·exact .inl (.inr (.inl h))
  ·exact .inr h
 ·rintro ((h|h|⟨b,hb,h⟩)|h)
  ·exact .inl h
  ·exact .inr (.inl h)
  ·omega
  ·exact .inr (.inr h)
def SeenRow (w:World) (B:Nat) (d:FD) (x k:Nat):Prop:=w.rowIs B 4 d.vn (fun i=>.bool (dB (q78 d x k i)))
theorem SeenRow.below {w w':World} {B:Nat} {d:FD} {x k:Nat} (h:SeenRow w B d x k) (hb:Below w.heap.size w w'):SeenRow w' B d x k:=World.rowIs.of_block h (hb.block _ h.lt)
theorem SeenRow.congr {w:World} {B:Nat} {d:FD} {x k x' k':Nat} (h:SeenRow w B d x k) (e:∀ v:Nat,q78 d x k v↔q78 d x' k' v):SeenRow w B d x' k':=World.rowIs.congr h fun i _=>by
 by_cases c:q78 d x k i
 ·rw[q32 c,q32 ((e i).1 c)]
 ·rw[q19 c,q19 fun c'=>c ((e i).2 c')]
theorem SeenRow.set {w:World} {B:Nat} {d:FD} {x k:Nat} (h:SeenRow w B d x k) {y:Nat} (hy:(d.nd x).r k=y):SeenRow (w.setCell ⟨B,y,none⟩ (.bool true)) B d x (k+1):=(World.rowIs.set h y (.bool true)).congr fun i _=>by
 by_cases e:i=y
 ·rw[if_pos e,q32 (seenV_succ.2 (.inr (by rw[hy,e])))]
 ·rw[if_neg e]
  by_cases c:q78 d x k i
  ·rw[q32 c,q32 (seenV_succ.2 (.inl c))]
  ·rw[q19 c,q19 fun c'=>(seenV_succ.1 c').elim c fun h=>e (by omega)]
theorem Has.far {w:World} {B:Nat} {A:Array Value} (h:Has w B A) {p:Addr} (hp:p.block≠B) (v:Value):Has (w.setCell p v) B A:=
 ⟨by have:=h.1;simpa using this,fun o=>(World.cell?_setCell_far w p ⟨B,o,none⟩ v hp).trans (h.2 o)⟩
abbrev zx3 (d:ND) (ra:Option Addr) (rn:Nat) (x:NA):Array Value:=#[.int .i64 d.k,.int .i64 d.l,.int .i64 d.o,.int .i64 d.n,.float .f64 d.f,.string d.s,.slice ra rn x.rc,.slice x.ka d.kn x.kc]
theorem qo6 (w:World) (z:Value) (t:TypeId) {b n:Nat} (hb:b=w.heap.size):(w.alloc (.cells (madeCells #[z] n) t)).rowIs b t n (fun _=>z):=by
 subst hb
 exact World.rowIs_made w z n t
def FtPost (P:FT->Prop) (w:World) (e:Ending) (w':World):Prop:=∃ x:FT,e=.returned (ftV x)/\Least P x/\Below w.heap.size w w'
theorem FtPost.of {P:FT->Prop} {w w':World} {x:FT} (h:Least P x) (hb:Below w.heap.size w w'):FtPost P w (.returned (ftV x)) w':=⟨x,rfl,h,hb⟩
abbrev fxW (w:World) (u:UD) (a:Option Addr) (cap:Nat):World:=(w.alloc (.cells #[.slice a u.n cap] 31)).alloc (.cells #[.int .i64 0,.int .i64 0,.int .i64 0] 60)
theorem q17 {w wr:World} {u:UD} {a:Option Addr} {cap:Nat} (h:Below (fxW w u a cap).heap.size (fxW w u a cap) wr):Below w.heap.size w wr:=q02 (q04 w _ _) h
theorem fx_u {w wr:World} {u:UD} {a:Option Addr} {cap:Nat} (h:Below (fxW w u a cap).heap.size (fxW w u a cap) wr):Has wr w.heap.size #[.slice a u.n cap]:=((Has.new w _ _).alloc _).call h
theorem q07 {w wr:World} {u:UD} {a:Option Addr} {cap:Nat} (h:Below (fxW w u a cap).heap.size (fxW w u a cap) wr):wr.rowIs (w.heap.size+1) 60 3 (fun _=>.int .i64 0):=by
 have h1:=World.rowIs_alloc (w.alloc (.cells #[.slice a u.n cap] 31)) #[.int .i64 0,.int .i64 0,.int .i64 0] 60 (fun _=>.int .i64 0) (fun i hi=>by
  have:i=0\/i=1\/i=2:=by simp at hi;omega
  rcases this with rfl|rfl|rfl<;>rfl)
 have h2:=h1.of_block (h.block _ h1.lt)
 simpa using h2
theorem q46 {w wr:World} (h:Below w.heap.size w wr) (c f n:Value):Below w.heap.size w (((wr.setCell ⟨w.heap.size+1,0,none⟩ c).setCell ⟨w.heap.size+1,1,none⟩ f).setCell ⟨w.heap.size+1,2,none⟩ n):=
 frS (frS (frS h (Nat.le_add_right _ 1) _) (Nat.le_add_right _ 1) _) (Nat.le_add_right _ 1) _
theorem y99 {u:UD} (hs:u.sm):∀ k,k<=u.n->tot u.fn k<=k*1048576
 |0,_=>Nat.zero_le _
 |k+1,h=>by
  have h1:=y99 hs k (by omega)
  have h2:=(hs.fn k (by omega)).nn
  unfold tot
  omega
def btB (i l m:Int):Bool:=decide (l<=i) && decide (i<=m)
def wiB (i m:Int):Bool:=decide (0<=i) && decide (i<m)
theorem q28 (i l m:Int) (w:World):Calls Tryz.prog 45 #[.int .i64 i,.int .i64 l,.int .i64 m] w fun e w'=>e=.returned (.bool (btB i l m))/\w'=w:=by
 go_enter Tryz.func45,Tryz.ntmps45
 go_wp2_with fail
 all_goals go_ret
 all_goals exact ⟨by simp[btB, *]<;>(intros;omega),rfl⟩
theorem q13 (i m:Int) (w:World):Calls Tryz.prog 136 #[.int .i64 i,.int .i64 m] w fun e w'=>e=.returned (.bool (wiB i m))/\w'=w:=by
 go_enter Tryz.func136,Tryz.ntmps136
 go_wp2_with fail
 all_goals go_ret
 all_goals exact ⟨by simp[wiB, *]<;>(intros;omega),rfl⟩
theorem zd9 {x:Int} (h0:0<=x) (h1:x<18446744073709551616):IntKind.u64.wrap x=x:=by
 simp only[IntKind.wrap_u64]
 omega
theorem yh9 (m:Nat) (hm:m<18446744073709551616):bits .and .u64 (m:Int) 1=((m%2:Nat):Int):=by
 have hb:bits .and .u64 (m:Int) 1=IntKind.u64.wrap (((BitVec.ofInt 64 (m:Int)) &&& (BitVec.ofInt 64 1)).toNat:Int):=rfl
 rw[hb]
 have h1:(BitVec.ofInt 64 (m:Int)).toNat=m:=by simp;omega
 have h2:((BitVec.ofInt 64 (m:Int)) &&& (BitVec.ofInt 64 1)).toNat=m%2:=by
  rw[BitVec.toNat_and,h1]
  show m &&& 1=m%2
  exact Nat.and_one_is_mod m
 rw[h2,zd9 (by omega) (by omega)]
theorem yn5 {s:Nat} (hs:s<18446744073709551616) {k:Int}:(bits .and .u64 ((s:Int) / 2 ^ min k.toNat 64) 1==1)=Nat.testBit s k.toNat:=by
 have hd:((s:Int) / 2 ^ min k.toNat 64)=((s / 2 ^ min k.toNat 64:Nat):Int):=by simp
 rw[hd,yh9 _ (Nat.lt_of_le_of_lt (Nat.div_le_self _ _) hs)]
 by_cases h:k.toNat<=64
 ·rw[Nat.min_eq_left h,Nat.testBit_eq_decide_div_mod_eq]
  rw[Bool.eq_iff_iff,beq_iff_eq,decide_eq_true_eq]
  omega
 ·rw[Nat.min_eq_right (by omega),y22 (by omega) (by omega),Nat.div_eq_of_lt (by omega)]
  rfl
theorem q70 (s:Nat) (hs:s<18446744073709551616) (k:Int) (w:World):Calls Tryz.prog 118 #[.int .u64 (s:Int),.int .i64 k] w fun e w'=>e=.returned (.bool (setB s k))/\w'=w:=by
 by_cases h0:0<=k
 ·go_enter Tryz.func118,Tryz.ntmps118
  go_wp2_with fail
  go_ret
  refine ⟨q06 ?_,rfl⟩
  rw[yn5 hs]
  unfold setB
  simp[h0]
 ·go_enter Tryz.func118,Tryz.ntmps118
  go_wp2_with fail
  go_ret
  refine ⟨q06 ?_,rfl⟩
  unfold setB
  simp
  omega
theorem qu2 (d:ND) (x:NA) (w:World):Calls Tryz.prog 119 #[q40 d x] w fun e w'=>e=.returned (.bool (if stK d.k then decide (1<=d.l) && decide (d.l<=100000) else d.l==0))/\Below w.heap.size w w':=by
 cases hst:stK d.k
 ·have hs2:setB 32766 d.k=false:=(zu3 d.k).trans hst
  go_enter Tryz.func119,Tryz.ntmps119
  go_wp2_with (go_at_call 118;refine (q70 32766 (by decide) _ _).mono ?_;rw[hs2];rintro e w1 ⟨rfl,rfl⟩)
  go_ret
  exact ⟨rfl,q01 _ _⟩
 ·have hs2:setB 32766 d.k=true:=(zu3 d.k).trans hst
  go_enter Tryz.func119,Tryz.ntmps119
  go_wp2_with (first|(go_at_call 118;refine (q70 32766 (by decide) _ _).mono ?_;rw[hs2];rintro e w1 ⟨rfl,rfl⟩)|(go_at_call 45;refine (q28 _ _ _ _).mono ?_;rintro e w1 ⟨rfl,rfl⟩))
  go_ret
  exact ⟨rfl,q01 _ _⟩
def qj2 (d:ND) (x:NA) (v:Int) (o n f s r k:Bool):Prop:=∀ w:World,Calls Tryz.prog 150 #[q40 d x,.int .i64 v] w fun e w'=>e=.returned (.bool (uoB d o n f s r k))/\Below w.heap.size w w'
theorem zs8 (d:ND) (x:NA):qj2 d x 0 false false false false false false:=by
 intro w
 go_enter Tryz.func150,Tryz.ntmps150
 go_wp2_with fail
 all_goals go_ret
 all_goals exact ⟨by simp[uoB,fz,se, *],q01 _ _⟩
theorem q61 (d:ND) (x:NA):qj2 d x 32 false false false false false true:=by
 intro w
 go_enter Tryz.func150,Tryz.ntmps150
 go_wp2_with fail
 all_goals go_ret
 all_goals exact ⟨by simp[uoB,fz,se, *],q01 _ _⟩
theorem qe7 (d:ND) (x:NA):qj2 d x 48 false false false false true true:=by
 intro w
 go_enter Tryz.func150,Tryz.ntmps150
 go_wp2_with fail
 all_goals go_ret
 all_goals exact ⟨by simp[uoB,fz,se, *],q01 _ _⟩
theorem qe8 (d:ND) (x:NA):qj2 d x 34 false true false false false true:=by
 intro w
 go_enter Tryz.func150,Tryz.ntmps150
 go_wp2_with fail
 all_goals go_ret
 all_goals exact ⟨by simp[uoB,fz,se, *],q01 _ _⟩
theorem z49 (d:ND) (x:NA):qj2 d x 2 false true false false false false:=by
 intro w
 go_enter Tryz.func150,Tryz.ntmps150
 go_wp2_with fail
 all_goals go_ret
 all_goals exact ⟨by simp[uoB,fz,se, *],q01 _ _⟩
theorem zs7 (d:ND) (x:NA):qj2 d x 4 false false true false false false:=by
 intro w
 go_enter Tryz.func150,Tryz.ntmps150
 go_wp2_with fail
 all_goals go_ret
 all_goals exact ⟨by simp[uoB,fz,se, *],q01 _ _⟩
theorem zs6 (d:ND) (x:NA):qj2 d x 8 false false false true false false:=by
 intro w
 go_enter Tryz.func150,Tryz.ntmps150
 go_wp2_with fail
 all_goals go_ret
 all_goals exact ⟨by simp[uoB,fz,se, *],q01 _ _⟩
theorem zn9 (d:ND) (x:NA):qj2 d x 16 false false false false true false:=by
 intro w
 go_enter Tryz.func150,Tryz.ntmps150
 go_wp2_with fail
 all_goals go_ret
 all_goals exact ⟨by simp[uoB,fz,se, *],q01 _ _⟩
theorem qb2 (d:ND) (x:NA):qj2 d x 33 true false false false false true:=by
 intro w
 go_enter Tryz.func150,Tryz.ntmps150
 go_wp2_with fail
 all_goals go_ret
 all_goals exact ⟨by simp[uoB,fz,se, *],q01 _ _⟩
structure AH (w:World) (F m:Nat) (nd:Nat->ND) (nas:Nat->NA):Prop where
 at':∃ na nc,w.cell? ⟨F,0,none⟩=some (.slice na m nc)/\RowN 8 0 w na m (fun i=>q24 (nd i) (nas i))
theorem AH.below {w w':World} {F m:Nat} {nd:Nat->ND} {nas:Nat->NA} (h:AH w F m nd nas) (hb:Below w.heap.size w w'):AH w' F m nd nas:=by
 obtain ⟨na,nc,h1,h2⟩:=h.at'
 exact ⟨na,nc,zr0 hb h1,h2.below hb⟩
theorem yf1 {s:Nat} {nd:Nat->ND} {m:Nat} {c:Int} {k:Nat} (h:c=k) (hk:k<m):kidS s nd m c=setB s (nd k).k:=by
 unfold kidS
 subst h
 simp[hk]
theorem y62 {s:Nat} {nd:Nat->ND} {m:Nat} {c:Int} (h:¬(0<=c/\c<m)):kidS s nd m c=false:=by
 unfold kidS
 by_cases h0:0<=c
 ·have:¬c<m:=fun h1=>h ⟨h0,h1⟩
  simp[this]
 ·simp[h0]
theorem q75 (F m:Nat) (nd:Nat->ND) (nas:Nat->NA) (a:Option Addr) (n cap:Nat) (c:Nat->Int) (s:Nat) (w:World) (hs:s<18446744073709551616) (hn:n<=1048576) (hA:AH w F m nd nas) (hT:q51 0 w a n c) :
  Calls Tryz.prog 151 #[.pointer (some ⟨F,0,none⟩),.slice a n cap,.int .u64 (s:Int)] w fun e w'=>e=.returned (.bool (allB (fun i=>kidS s nd m (c i)) 0 n))/\w'=w:=by
 have HT:Hid (RowN 1 0 w a n fun i=>#[.int .i64 (c i)]):=hT
 obtain ⟨na,nc,f0,hN⟩:=hA.at'
 have HN:Hid (RowN 8 0 w na m (fun i=>q24 (nd i) (nas i))):=hN
 clear hT hA hN
 go_enter Tryz.func151,Tryz.ntmps151
 go_wp2_with fail
 go_loopw [11] (fun i wr=>∃ (k:Nat),k<=n/\i=.int .i64 k/\Hid (∀ j,j<k->kidS s nd m (c j)=true)/\wr=w) (fun i _=>n-(intOf i).toNat)
 case atStart=>exact ⟨0,Nat.zero_le _,rfl,fun j hj=>by omega,rfl⟩
 case round=>
  obtain ⟨k,hk,rfl,HK,rfl⟩:=hrel
  by_cases hkn:k<n
  ·obtain ⟨b,off,rfl,_,hb,d0⟩:=cells1 HT.out hkn
   by_cases hin:0<=c k/\c k<m
   ·obtain ⟨y,hy⟩:∃ y:Nat,c k=y:=⟨(c k).toNat,by omega⟩
    have hym:y<m:=by omega
    have hks:kidS s nd m (c k)=setB s (nd y).k:=yf1 hy hym
    have HKS:Hid (kidS s nd m (c k)=setB s (nd y).k):=hks
    rw[hy] at d0
    obtain ⟨b2,o2,rfl,_,hb2,g0,_⟩:=cells8 HN.out hym
    have hw:wiB (y:Int) (m:Int)=true:=by unfold wiB;simp;omega
    clear hks hin hy
    cases hset:setB s (nd y).k
    ·have hv:allB (fun i=>kidS s nd m (c i)) 0 n=false:=zj2 (Nat.zero_le _) hkn (HKS.out.trans hset)
     have HV:Hid (allB (fun i=>kidS s nd m (c i)) 0 n=false):=hv
     clear hv
     go_wp2_with (first|(go_at_call 136;refine (q13 _ _ _).mono ?_;rw[hw];rintro e w1 ⟨rfl,rfl⟩)|(go_at_call 118;refine (q70 s hs _ _).mono ?_;rw[hset];rintro e w1 ⟨rfl,rfl⟩))
     go_ret
     exact ⟨q06 HV.out.symm,rfl⟩
    ·have HV:Hid (kidS s nd m (c k)=true):=HKS.out.trans hset
     go_wp2_with (first|(go_at_call 136;refine (q13 _ _ _).mono ?_;rw[hw];rintro e w1 ⟨rfl,rfl⟩)|(go_at_call 118;refine (q70 s hs _ _).mono ?_;rw[hset];rintro e w1 ⟨rfl,rfl⟩))
     go_roundw
     case rel=>exact ⟨k+1,by omega,by go_num,fun j hj=>by
      by_cases e:j=k
      ·subst e;exact HV.out
      ·exact HK.out j (by omega),by first|rfl|trivial⟩
     case measure=>simp[intOf];omega
   ·have hv:allB (fun i=>kidS s nd m (c i)) 0 n=false:=zj2 (Nat.zero_le _) hkn (y62 hin)
    have HV:Hid (allB (fun i=>kidS s nd m (c i)) 0 n=false):=hv
    have hw:wiB (c k) (m:Int)=false:=by unfold wiB;simp;omega
    clear hv hin
    go_wp2_with (go_at_call 136;refine (q13 _ _ _).mono ?_;rw[hw];rintro e w1 ⟨rfl,rfl⟩)
    go_ret
    exact ⟨q06 HV.out.symm,rfl⟩
  ·have HV:Hid (allB (fun i=>kidS s nd m (c i)) 0 n=true):=allB_true.2 fun i _ hi=>HK.out i (by omega)
   go_wp2_with fail
   go_ret
   exact ⟨q06 HV.out.symm,rfl⟩
theorem qn2 {w:World} {a:Option Addr} {n:Nat} {c:Nat->Int} (h:q51 0 w a n c) {b o:Nat} (e:a=some ⟨b,o,none⟩) (i j:Nat) (hij:i+j<=n):q51 0 w (some ⟨b,o+i,none⟩) j (fun k=>c (i+k)):=fun hj=>by
 obtain ⟨b',o',e',_,h1,h2⟩:=h (by omega)
 obtain ⟨rfl,rfl⟩:b=b'/\o=o':=by rw[e] at e';simpa using e'
 refine ⟨b,o+i,rfl,Nat.zero_le _,h1,fun k hk l hl=>?_⟩
 have:=h2 (i+k) (by omega) l hl
 rw[<-this]
 congr 2
 omega
theorem qh3 (F m:Nat) (nd:Nat->ND) (nas:Nat->NA) (a:Option Addr) (n cap:Nat) (c:Nat->Int) (R j:Nat) (s:Nat->Nat) (w:World) (hs:∀ i,i<j->s i<18446744073709551616) (hn:n<=1048576) (hj:j<=4) (hcap:n<=cap) (hA:AH w F m nd nas) (hT:q51 0 w a n c) (hR:∀ i,i<j->w.cell? ⟨R,i,none⟩=some (.int .u64 (s i:Int))) :
  Calls Tryz.prog 152 #[.pointer (some ⟨F,0,none⟩),.slice a n cap,.slice (some ⟨R,0,none⟩) j j] w fun e w'=>e=.returned (.bool ((n:Int)==j && allB (fun i=>kidS (s i) nd m (c i)) 0 j))/\w'=w:=by
 have HT:Hid (q51 0 w a n c):=hT
 have HA:Hid (AH w F m nd nas):=hA
 have HR:Hid (∀ i,i<j->w.cell? ⟨R,i,none⟩=some (.int .u64 (s i:Int))):=hR
 have HS:Hid (∀ i,i<j->s i<18446744073709551616):=hs
 clear hT hA hR hs
 by_cases hnj:n=j
 ·subst hnj
  have he:((n:Int)==n && allB (fun i=>kidS (s i) nd m (c i)) 0 n)=allB (fun i=>kidS (s i) nd m (c i)) 0 n:=by simp
  rw[he]
  clear he
  go_enter Tryz.func152,Tryz.ntmps152
  go_wp2_with fail
  go_loopw [16] (fun i wr=>∃ (k:Nat),k<=n/\i=.int .i64 k/\Hid (∀ j,j<k->kidS (s j) nd m (c j)=true)/\wr=w) (fun i _=>n-(intOf i).toNat)
  case atStart=>exact ⟨0,Nat.zero_le _,rfl,fun j hj=>by omega,rfl⟩
  case round=>
   obtain ⟨k,hk,rfl,HK,rfl⟩:=hrel
   by_cases hkn:k<n
   ·have r0:=HR.out k hkn
    obtain ⟨b,off,rfl,_,hb,d0⟩:=cells1 HT.out hkn
    have HI:Hid (q51 0 wr (some ⟨b,off+k,none⟩) 1 (fun i=>c (k+i))):=qn2 HT.out rfl k 1 (by omega)
    have hone:allB (fun i=>kidS (s k) nd m (c (k+i))) 0 1=kidS (s k) nd m (c k):=by
     rw[Bool.eq_iff_iff,allB_true]
     exact ⟨fun h=>h 0 (Nat.le_refl _) (by omega),fun h i _ hi=>by
      obtain rfl:i=0:=by omega
      exact h⟩
    clear d0
    cases hks:kidS (s k) nd m (c k)
    ·have HV:Hid (allB (fun i=>kidS (s i) nd m (c i)) 0 n=false):=zj2 (Nat.zero_le _) hkn hks
     rw[hks] at hone
     go_wp2_with (go_at_call 151;refine (q75 F m nd nas _ _ _ (fun i=>c (k+i)) (s k) _ (HS.out k hkn) (by omega) HA.out HI.out).mono ?_;rw[hone];rintro e w1 ⟨rfl,rfl⟩)
     go_ret
     exact ⟨q06 HV.out.symm,rfl⟩
    ·have HV:Hid (kidS (s k) nd m (c k)=true):=hks
     rw[hks] at hone
     go_wp2_with (go_at_call 151;refine (q75 F m nd nas _ _ _ (fun i=>c (k+i)) (s k) _ (HS.out k hkn) (by omega) HA.out HI.out).mono ?_;rw[hone];rintro e w1 ⟨rfl,rfl⟩)
     go_roundw
     case rel=>exact ⟨k+1,by omega,by go_num,fun j hj=>by
      by_cases e:j=k
      ·subst e;exact HV.out
      ·exact HK.out j (by omega),by first|rfl|trivial⟩
     case measure=>simp[intOf];omega
   ·have HV:Hid (allB (fun i=>kidS (s i) nd m (c i)) 0 n=true):=allB_true.2 fun i _ hi=>HK.out i (by omega)
    go_wp2_with fail
    go_ret
    exact ⟨q06 HV.out.symm,rfl⟩
 ·have he:((n:Int)==j && allB (fun i=>kidS (s i) nd m (c i)) 0 j)=false:=by
   have:((n:Int)==j)=false:=by simp;omega
   rw[this];rfl
  rw[he]
  have q:((n:Int) != (j:Int))=true:=by simp;omega
  clear he
  go_enter Tryz.func152,Tryz.ntmps152
  go_wp2_with fail
  go_ret
  exact ⟨rfl,rfl⟩
theorem qf0 (F m:Nat) (nd:Nat->ND) (nas:Nat->NA) (a:Option Addr) (n cap:Nat) (c:Nat->Int) (R:Nat) (s0:Nat) (w:World) (b0:s0<18446744073709551616) (hn:n<=1048576) (hcap:n<=cap) (hA:AH w F m nd nas) (hT:q51 0 w a n c) (h0:w.cell? ⟨R,0,none⟩=some (.int .u64 (s0:Int))) :
  Calls Tryz.prog 152 #[.pointer (some ⟨F,0,none⟩),.slice a n cap,.slice (some ⟨R,0,none⟩) 1 1] w fun e w'=>e=.returned (.bool ((n:Int)==1 && kidS s0 nd m (c 0)))/\w'=w:=by
 refine (qh3 F m nd nas a n cap c R 1 (fun i=>s0) w (fun i hi=>?_) hn (by omega) hcap hA hT (fun i hi=>?_)).mono ?_
 ·rcases (show i=0 by omega) with rfl
  ·exact b0
 ·rcases (show i=0 by omega) with rfl
  ·exact h0
 ·rintro e w' ⟨rfl,rfl⟩
  refine ⟨q06 ?_,rfl⟩
  rw[Bool.eq_iff_iff]
  simp only[Bool.and_eq_true,allB_true]
  constructor
  ·rintro ⟨h,k⟩
   exact ⟨h,k 0 (by omega) (by omega)⟩
  ·rintro ⟨h,k0⟩
   refine ⟨h,fun i _ hi=>?_⟩
   rcases (show i=0 by omega) with rfl
   ·exact k0
theorem q95 (F m:Nat) (nd:Nat->ND) (nas:Nat->NA) (a:Option Addr) (n cap:Nat) (c:Nat->Int) (R:Nat) (s0 s1:Nat) (w:World) (b0:s0<18446744073709551616) (b1:s1<18446744073709551616) (hn:n<=1048576) (hcap:n<=cap) (hA:AH w F m nd nas) (hT:q51 0 w a n c) (h0:w.cell? ⟨R,0,none⟩=some (.int .u64 (s0:Int))) (h1:w.cell? ⟨R,1,none⟩=some (.int .u64 (s1:Int))) :
  Calls Tryz.prog 152 #[.pointer (some ⟨F,0,none⟩),.slice a n cap,.slice (some ⟨R,0,none⟩) 2 2] w fun e w'=>e=.returned (.bool ((n:Int)==2 && kidS s0 nd m (c 0) && kidS s1 nd m (c 1)))/\w'=w:=by
 refine (qh3 F m nd nas a n cap c R 2 (fun i=>if i=0 then s0 else s1) w (fun i hi=>?_) hn (by omega) hcap hA hT (fun i hi=>?_)).mono ?_
 ·rcases (show i=0\/i=1 by omega) with rfl|rfl
  ·exact b0
  ·exact b1
 ·rcases (show i=0\/i=1 by omega) with rfl|rfl
  ·exact h0
  ·exact h1
 ·rintro e w' ⟨rfl,rfl⟩
  refine ⟨q06 ?_,rfl⟩
  rw[Bool.eq_iff_iff]
  simp only[Bool.and_eq_true,allB_true]
  constructor
  ·rintro ⟨h,k⟩
   exact ⟨⟨h,k 0 (by omega) (by omega)⟩,k 1 (by omega) (by omega)⟩
  ·rintro ⟨⟨h,k0⟩,k1⟩
   refine ⟨h,fun i _ hi=>?_⟩
   rcases (show i=0\/i=1 by omega) with rfl|rfl
   ·exact k0
   ·exact k1
theorem zo5 (F m:Nat) (nd:Nat->ND) (nas:Nat->NA) (a:Option Addr) (n cap:Nat) (c:Nat->Int) (R:Nat) (s0 s1 s2 s3:Nat) (w:World) (b0:s0<18446744073709551616) (b1:s1<18446744073709551616) (b2:s2<18446744073709551616) (b3:s3<18446744073709551616) (hn:n<=1048576) (hcap:n<=cap) (hA:AH w F m nd nas) (hT:q51 0 w a n c) (h0:w.cell? ⟨R,0,none⟩=some (.int .u64 (s0:Int))) (h1:w.cell? ⟨R,1,none⟩=some (.int .u64 (s1:Int))) (h2:w.cell? ⟨R,2,none⟩=some (.int .u64 (s2:Int))) (h3:w.cell? ⟨R,3,none⟩=some (.int .u64 (s3:Int))) :
  Calls Tryz.prog 152 #[.pointer (some ⟨F,0,none⟩),.slice a n cap,.slice (some ⟨R,0,none⟩) 4 4] w fun e w'=>e=.returned (.bool ((n:Int)==4 && kidS s0 nd m (c 0) && kidS s1 nd m (c 1) && kidS s2 nd m (c 2) && kidS s3 nd m (c 3)))/\w'=w:=by
 refine (qh3 F m nd nas a n cap c R 4 (fun i=>if i=0 then s0 else if i=1 then s1 else if i=2 then s2 else s3) w (fun i hi=>?_) hn (by omega) hcap hA hT (fun i hi=>?_)).mono ?_
 ·rcases (show i=0\/i=1\/i=2\/i=3 by omega) with rfl|rfl|rfl|rfl
  ·exact b0
  ·exact b1
  ·exact b2
  ·exact b3
 ·rcases (show i=0\/i=1\/i=2\/i=3 by omega) with rfl|rfl|rfl|rfl
  ·exact h0
  ·exact h1
  ·exact h2
  ·exact h3
 ·rintro e w' ⟨rfl,rfl⟩
  refine ⟨q06 ?_,rfl⟩
  rw[Bool.eq_iff_iff]
  simp only[Bool.and_eq_true,allB_true]
  constructor
  ·rintro ⟨h,k⟩
   exact ⟨⟨⟨⟨h,k 0 (by omega) (by omega)⟩,k 1 (by omega) (by omega)⟩,k 2 (by omega) (by omega)⟩,k 3 (by omega) (by omega)⟩
  ·rintro ⟨⟨⟨⟨h,k0⟩,k1⟩,k2⟩,k3⟩
   refine ⟨h,fun i _ hi=>?_⟩
   rcases (show i=0\/i=1\/i=2\/i=3 by omega) with rfl|rfl|rfl|rfl
   ·exact k0
   ·exact k1
   ·exact k2
   ·exact k3
def chS (i:Nat):Nat:=if i=0 then 549754765312 else if i=1 then 2 else 34
theorem yn3 (i:Nat):chS i<18446744073709551616:=by unfold chS;split<;>(try split)<;>decide
theorem ch2 {nd:Nat->ND} {m:Nat} {c:Nat->Int}:allB (fun i=>kidS (chS i) nd m (c i)) 0 2=(kidS sEx nd m (c 0) && kidS sBl nd m (c 1)):=by
 rw[Bool.eq_iff_iff,allB_true,Bool.and_eq_true]
 exact ⟨fun h=>⟨h 0 (by omega) (by omega),h 1 (by omega) (by omega)⟩,fun h i _ hi=>by
  rcases (show i=0\/i=1 by omega) with rfl|rfl
  ·exact h.1
  ·exact h.2⟩
theorem ch3 {nd:Nat->ND} {m:Nat} {c:Nat->Int}:allB (fun i=>kidS (chS i) nd m (c i)) 0 3=(kidS sEx nd m (c 0) && kidS sBl nd m (c 1) && kidS sEl nd m (c 2)):=by
 rw[Bool.eq_iff_iff,allB_true,Bool.and_eq_true,Bool.and_eq_true]
 exact ⟨fun h=>⟨⟨h 0 (by omega) (by omega),h 1 (by omega) (by omega)⟩,h 2 (by omega) (by omega)⟩,fun h i _ hi=>by
  rcases (show i=0\/i=1\/i=2 by omega) with rfl|rfl|rfl
  ·exact h.1.1
  ·exact h.1.2
  ·exact h.2⟩
def chR (nd:Nat->ND) (m:Nat) (c:Nat->Int) (n j:Nat):Bool:=(n:Int)==j && allB (fun i=>kidS (chS i) nd m (c i)) 0 j
theorem zf2 (F m:Nat) (nd:Nat->ND) (nas:Nat->NA) (a:Option Addr) (n cap:Nat) (c:Nat->Int) (R j:Nat) (w:World) (hn:n<=1048576) (hj:j<=4) (hcap:n<=cap) (hA:AH w F m nd nas) (hT:q51 0 w a n c) (hR:∀ i,i<j->w.cell? ⟨R,i,none⟩=some (.int .u64 (chS i:Int))) :
  Calls Tryz.prog 152 #[.pointer (some ⟨F,0,none⟩),.slice a n cap,.slice (some ⟨R,0,none⟩) j j] w fun e w'=>e=.returned (.bool (chR nd m c n j))/\w'=w:=qh3 F m nd nas a n cap c R j chS w (fun i _=>yn3 i) hn hj hcap hA hT hR
theorem y00 (F m:Nat) (nd:Nat->ND) (nas:Nat->NA) (w:World) (hA:AH w F m nd nas) (hN:NodeAt 0 w (nd m) (nas m)) (hs:(nd m).sm) (hcap:(nd m).kn<=(nas m).kc) :
  Calls Tryz.prog 99 #[.pointer (some ⟨F,0,none⟩),q40 (nd m) (nas m)] w fun e w'=>e=.returned (.bool (uoB (nd m) false false false false false true && (((((nd m).kn:Int)==2 && kidS sEx nd m ((nd m).c 0) && kidS sBl nd m ((nd m).c 1)) || (((nd m).kn:Int)==3 && kidS sEx nd m ((nd m).c 0) && kidS sBl nd m ((nd m).c 1) && kidS sEl nd m ((nd m).c 2))))))/\Below w.heap.size w w':=by
 have HA:Hid (AH w F m nd nas):=hA
 have HN:Hid (NodeAt 0 w (nd m) (nas m)):=hN
 have hkn:=hs.kn
 clear hA hN hs
 go_enter Tryz.func99,Tryz.ntmps99
 go_wp2_with (first|(go_at_call 150;refine (q61 (nd m) (nas m) _).mono ?_;rintro e w2 ⟨rfl,hb2⟩;have HB2:Hid (Below w.heap.size w w2):=q02 (q01 _ _) hb2;have n2:w2.cell? ⟨w.heap.size,2,none⟩=some (.int .i64 (nd m).o):=(Has.made hb2).cell 2 rfl;have n3:w2.cell? ⟨w.heap.size,3,none⟩=some (.int .i64 (nd m).n):=(Has.made hb2).cell 3 rfl;have n4:w2.cell? ⟨w.heap.size,4,none⟩=some (.float .f64 (nd m).f):=(Has.made hb2).cell 4 rfl;have n5:w2.cell? ⟨w.heap.size,5,none⟩=some (.string (nd m).s):=(Has.made hb2).cell 5 rfl;have n6:w2.cell? ⟨w.heap.size,6,none⟩=some (.slice (nas m).ra (nd m).rn (nas m).rc):=(Has.made hb2).cell 6 rfl;have n7:w2.cell? ⟨w.heap.size,7,none⟩=some (.slice (nas m).ka (nd m).kn (nas m).kc):=(Has.made hb2).cell 7 rfl;have hz2:w.heap.size<w2.heap.size:=(Has.made hb2).lt;clear hb2)|(go_at_call 152;refine (zf2 F m nd nas _ _ _ (nd m).c _ _ _ (by omega) (by omega) hcap (by first|exact HA.out.below (q03 HB2.out _)|exact HA.out.below (q03 (q03 HB2.out _) _)) (by first|exact RowN.below HN.out.2 (q03 HB2.out _)|exact RowN.below HN.out.2 (q03 (q03 HB2.out _) _)) (fun i hi=>by rcases i with _|_|_|i<;>first|(simp[chS];done)|omega)).mono ?_;rintro e w1 ⟨rfl,rfl⟩))
 all_goals go_ret
 all_goals refine ⟨q06 ?_,by first|exact HB2.out|exact q03 HB2.out _|exact q03 (q03 HB2.out _) _⟩
 all_goals first|(simp_all [chR,ch2,ch3,Bool.and_assoc];done)|trace_state
theorem y70 (F m:Nat) (nd:Nat->ND) (nas:Nat->NA) (w:World) (hA:AH w F m nd nas) (hN:NodeAt 0 w (nd m) (nas m)) (hs:(nd m).sm) (hcap:(nd m).kn<=(nas m).kc) :
  Calls Tryz.prog 113 #[.pointer (some ⟨F,0,none⟩),q40 (nd m) (nas m)] w fun e w'=>e=.returned (.bool (uoB (nd m) true false false false false true && (btB (nd m).o 19 22 && (((nd m).kn:Int)==1 && kidS sEx nd m ((nd m).c 0)))))/\Below w.heap.size w w':=by
 have HA:Hid (AH w F m nd nas):=hA
 have HN:Hid (NodeAt 0 w (nd m) (nas m)):=hN
 have hkn:=hs.kn
 have hrn:=hs.rn
 have hsz:=hs.s
 clear hA hN hs
 go_enter Tryz.func113,Tryz.ntmps113
 go_wp2_with (first|(go_at_call 150;refine (qb2 (nd m) (nas m) _).mono ?_;rintro e w2 ⟨rfl,hb2⟩;have HB2:Hid (Below w.heap.size w w2):=q02 (q01 _ _) hb2;have n2:w2.cell? ⟨w.heap.size,2,none⟩=some (.int .i64 (nd m).o):=(Has.made hb2).cell 2 rfl;have n3:w2.cell? ⟨w.heap.size,3,none⟩=some (.int .i64 (nd m).n):=(Has.made hb2).cell 3 rfl;have n4:w2.cell? ⟨w.heap.size,4,none⟩=some (.float .f64 (nd m).f):=(Has.made hb2).cell 4 rfl;have n5:w2.cell? ⟨w.heap.size,5,none⟩=some (.string (nd m).s):=(Has.made hb2).cell 5 rfl;have n6:w2.cell? ⟨w.heap.size,6,none⟩=some (.slice (nas m).ra (nd m).rn (nas m).rc):=(Has.made hb2).cell 6 rfl;have n7:w2.cell? ⟨w.heap.size,7,none⟩=some (.slice (nas m).ka (nd m).kn (nas m).kc):=(Has.made hb2).cell 7 rfl;have hz2:w.heap.size<w2.heap.size:=(Has.made hb2).lt;clear hb2)|(go_at_call 45;refine (q28 _ _ _ _).mono ?_;rintro e w1 ⟨rfl,rfl⟩)|(go_at_call 152;refine (qf0 F m nd nas _ _ _ (nd m).c _ 549754765312 _ (by decide) (by omega) hcap (HA.out.below (q03 HB2.out _)) (RowN.below HN.out.2 (q03 HB2.out _)) (by simp)).mono ?_;rintro e w1 ⟨rfl,rfl⟩))
 all_goals go_ret
 all_goals refine ⟨q06 ?_,by first|exact HB2.out|exact q03 HB2.out _|exact q03 (q03 HB2.out _) _⟩
 all_goals first|rfl|(simp[*];done)|(simp[*];omega)|(simp[*];intros;omega)
theorem y01 (F m:Nat) (nd:Nat->ND) (nas:Nat->NA) (w:World) (hA:AH w F m nd nas) (hN:NodeAt 0 w (nd m) (nas m)) (hs:(nd m).sm) (hcap:(nd m).kn<=(nas m).kc) :
  Calls Tryz.prog 114 #[.pointer (some ⟨F,0,none⟩),q40 (nd m) (nas m)] w fun e w'=>e=.returned (.bool (uoB (nd m) true false false false false true && (btB (nd m).o 1 18 && (((nd m).kn:Int)==2 && kidS sEx nd m ((nd m).c 0) && kidS sEx nd m ((nd m).c 1)))))/\Below w.heap.size w w':=by
 have HA:Hid (AH w F m nd nas):=hA
 have HN:Hid (NodeAt 0 w (nd m) (nas m)):=hN
 have hkn:=hs.kn
 have hrn:=hs.rn
 have hsz:=hs.s
 clear hA hN hs
 go_enter Tryz.func114,Tryz.ntmps114
 go_wp2_with (first|(go_at_call 150;refine (qb2 (nd m) (nas m) _).mono ?_;rintro e w2 ⟨rfl,hb2⟩;have HB2:Hid (Below w.heap.size w w2):=q02 (q01 _ _) hb2;have n2:w2.cell? ⟨w.heap.size,2,none⟩=some (.int .i64 (nd m).o):=(Has.made hb2).cell 2 rfl;have n3:w2.cell? ⟨w.heap.size,3,none⟩=some (.int .i64 (nd m).n):=(Has.made hb2).cell 3 rfl;have n4:w2.cell? ⟨w.heap.size,4,none⟩=some (.float .f64 (nd m).f):=(Has.made hb2).cell 4 rfl;have n5:w2.cell? ⟨w.heap.size,5,none⟩=some (.string (nd m).s):=(Has.made hb2).cell 5 rfl;have n6:w2.cell? ⟨w.heap.size,6,none⟩=some (.slice (nas m).ra (nd m).rn (nas m).rc):=(Has.made hb2).cell 6 rfl;have n7:w2.cell? ⟨w.heap.size,7,none⟩=some (.slice (nas m).ka (nd m).kn (nas m).kc):=(Has.made hb2).cell 7 rfl;have hz2:w.heap.size<w2.heap.size:=(Has.made hb2).lt;clear hb2)|(go_at_call 45;refine (q28 _ _ _ _).mono ?_;rintro e w1 ⟨rfl,rfl⟩)|(go_at_call 152;refine (q95 F m nd nas _ _ _ (nd m).c _ 549754765312 549754765312 _ (by decide) (by decide) (by omega) hcap (HA.out.below (q03 HB2.out _)) (RowN.below HN.out.2 (q03 HB2.out _)) (by simp) (by simp)).mono ?_;rintro e w1 ⟨rfl,rfl⟩))
 all_goals go_ret
 all_goals refine ⟨q06 ?_,by first|exact HB2.out|exact q03 HB2.out _|exact q03 (q03 HB2.out _) _⟩
 all_goals first|rfl|(simp[*];done)|(simp[*];omega)|(simp[*];intros;omega)
theorem y72 (F m:Nat) (nd:Nat->ND) (nas:Nat->NA) (w:World) (hA:AH w F m nd nas) (hN:NodeAt 0 w (nd m) (nas m)) (hs:(nd m).sm) (hcap:(nd m).kn<=(nas m).kc) :
  Calls Tryz.prog 101 #[.pointer (some ⟨F,0,none⟩),q40 (nd m) (nas m)] w fun e w'=>e=.returned (.bool (uoB (nd m) false false false false true true && (((nd m).rn:Int)==1 && (((nd m).kn:Int)==4 && kidS sEx nd m ((nd m).c 0) && kidS sEx nd m ((nd m).c 1) && kidS sEx nd m ((nd m).c 2) && kidS sBl nd m ((nd m).c 3)))))/\Below w.heap.size w w':=by
 have HA:Hid (AH w F m nd nas):=hA
 have HN:Hid (NodeAt 0 w (nd m) (nas m)):=hN
 have hkn:=hs.kn
 have hrn:=hs.rn
 have hsz:=hs.s
 clear hA hN hs
 go_enter Tryz.func101,Tryz.ntmps101
 go_wp2_with (first|(go_at_call 150;refine (qe7 (nd m) (nas m) _).mono ?_;rintro e w2 ⟨rfl,hb2⟩;have HB2:Hid (Below w.heap.size w w2):=q02 (q01 _ _) hb2;have n2:w2.cell? ⟨w.heap.size,2,none⟩=some (.int .i64 (nd m).o):=(Has.made hb2).cell 2 rfl;have n3:w2.cell? ⟨w.heap.size,3,none⟩=some (.int .i64 (nd m).n):=(Has.made hb2).cell 3 rfl;have n4:w2.cell? ⟨w.heap.size,4,none⟩=some (.float .f64 (nd m).f):=(Has.made hb2).cell 4 rfl;have n5:w2.cell? ⟨w.heap.size,5,none⟩=some (.string (nd m).s):=(Has.made hb2).cell 5 rfl;have n6:w2.cell? ⟨w.heap.size,6,none⟩=some (.slice (nas m).ra (nd m).rn (nas m).rc):=(Has.made hb2).cell 6 rfl;have n7:w2.cell? ⟨w.heap.size,7,none⟩=some (.slice (nas m).ka (nd m).kn (nas m).kc):=(Has.made hb2).cell 7 rfl;have hz2:w.heap.size<w2.heap.size:=(Has.made hb2).lt;clear hb2)|(go_at_call 152;refine (zo5 F m nd nas _ _ _ (nd m).c _ 549754765312 549754765312 549754765312 2 _ (by decide) (by decide) (by decide) (by decide) (by omega) hcap (HA.out.below (q03 HB2.out _)) (RowN.below HN.out.2 (q03 HB2.out _)) (by simp) (by simp) (by simp) (by simp)).mono ?_;rintro e w1 ⟨rfl,rfl⟩))
 all_goals go_ret
 all_goals refine ⟨q06 ?_,by first|exact HB2.out|exact q03 HB2.out _|exact q03 (q03 HB2.out _) _⟩
 all_goals first|rfl|(simp[*];done)|(simp[*];omega)|(simp[*];intros;omega)
theorem yf8 (F m:Nat) (nd:Nat->ND) (nas:Nat->NA) (w:World) (hA:AH w F m nd nas) (hN:NodeAt 0 w (nd m) (nas m)) (hs:(nd m).sm) (hcap:(nd m).kn<=(nas m).kc) :
  Calls Tryz.prog 102 #[.pointer (some ⟨F,0,none⟩),q40 (nd m) (nas m)] w fun e w'=>e=.returned (.bool (uoB (nd m) false false false false true true && (btB (nd m).rn 1 4 && (((nd m).kn:Int)==2 && kidS sEx nd m ((nd m).c 0) && kidS sBl nd m ((nd m).c 1)))))/\Below w.heap.size w w':=by
 have HA:Hid (AH w F m nd nas):=hA
 have HN:Hid (NodeAt 0 w (nd m) (nas m)):=hN
 have hkn:=hs.kn
 have hrn:=hs.rn
 have hsz:=hs.s
 clear hA hN hs
 go_enter Tryz.func102,Tryz.ntmps102
 go_wp2_with (first|(go_at_call 150;refine (qe7 (nd m) (nas m) _).mono ?_;rintro e w2 ⟨rfl,hb2⟩;have HB2:Hid (Below w.heap.size w w2):=q02 (q01 _ _) hb2;have n2:w2.cell? ⟨w.heap.size,2,none⟩=some (.int .i64 (nd m).o):=(Has.made hb2).cell 2 rfl;have n3:w2.cell? ⟨w.heap.size,3,none⟩=some (.int .i64 (nd m).n):=(Has.made hb2).cell 3 rfl;have n4:w2.cell? ⟨w.heap.size,4,none⟩=some (.float .f64 (nd m).f):=(Has.made hb2).cell 4 rfl;have n5:w2.cell? ⟨w.heap.size,5,none⟩=some (.string (nd m).s):=(Has.made hb2).cell 5 rfl;have n6:w2.cell? ⟨w.heap.size,6,none⟩=some (.slice (nas m).ra (nd m).rn (nas m).rc):=(Has.made hb2).cell 6 rfl;have n7:w2.cell? ⟨w.heap.size,7,none⟩=some (.slice (nas m).ka (nd m).kn (nas m).kc):=(Has.made hb2).cell 7 rfl;have hz2:w.heap.size<w2.heap.size:=(Has.made hb2).lt;clear hb2)|(go_at_call 45;refine (q28 _ _ _ _).mono ?_;rintro e w1 ⟨rfl,rfl⟩)|(go_at_call 152;refine (q95 F m nd nas _ _ _ (nd m).c _ 549754765312 2 _ (by decide) (by decide) (by omega) hcap (HA.out.below (q03 HB2.out _)) (RowN.below HN.out.2 (q03 HB2.out _)) (by simp) (by simp)).mono ?_;rintro e w1 ⟨rfl,rfl⟩))
 all_goals go_ret
 all_goals refine ⟨q06 ?_,by first|exact HB2.out|exact q03 HB2.out _|exact q03 (q03 HB2.out _) _⟩
 all_goals first|rfl|(simp[*];done)|(simp[*];omega)|(simp[*];intros;omega)
theorem qx9 (F m:Nat) (nd:Nat->ND) (nas:Nat->NA) (w:World) (hA:AH w F m nd nas) (hN:NodeAt 0 w (nd m) (nas m)) (hs:(nd m).sm) (hcap:(nd m).kn<=(nas m).kc) :
  Calls Tryz.prog 98 #[.pointer (some ⟨F,0,none⟩),q40 (nd m) (nas m)] w fun e w'=>e=.returned (.bool (uoB (nd m) false false false false false true && ((((nd m).kn:Int)==1 && kidS sCa nd m ((nd m).c 0)))))/\Below w.heap.size w w':=by
 have HA:Hid (AH w F m nd nas):=hA
 have HN:Hid (NodeAt 0 w (nd m) (nas m)):=hN
 have hkn:=hs.kn
 have hrn:=hs.rn
 have hsz:=hs.s
 clear hA hN hs
 go_enter Tryz.func98,Tryz.ntmps98
 go_wp2_with (first|(go_at_call 150;refine (q61 (nd m) (nas m) _).mono ?_;rintro e w2 ⟨rfl,hb2⟩;have HB2:Hid (Below w.heap.size w w2):=q02 (q01 _ _) hb2;have n2:w2.cell? ⟨w.heap.size,2,none⟩=some (.int .i64 (nd m).o):=(Has.made hb2).cell 2 rfl;have n3:w2.cell? ⟨w.heap.size,3,none⟩=some (.int .i64 (nd m).n):=(Has.made hb2).cell 3 rfl;have n4:w2.cell? ⟨w.heap.size,4,none⟩=some (.float .f64 (nd m).f):=(Has.made hb2).cell 4 rfl;have n5:w2.cell? ⟨w.heap.size,5,none⟩=some (.string (nd m).s):=(Has.made hb2).cell 5 rfl;have n6:w2.cell? ⟨w.heap.size,6,none⟩=some (.slice (nas m).ra (nd m).rn (nas m).rc):=(Has.made hb2).cell 6 rfl;have n7:w2.cell? ⟨w.heap.size,7,none⟩=some (.slice (nas m).ka (nd m).kn (nas m).kc):=(Has.made hb2).cell 7 rfl;have hz2:w.heap.size<w2.heap.size:=(Has.made hb2).lt;clear hb2)|(go_at_call 152;refine (qf0 F m nd nas _ _ _ (nd m).c _ 17179869184 _ (by decide) (by omega) hcap (HA.out.below (q03 HB2.out _)) (RowN.below HN.out.2 (q03 HB2.out _)) (by simp)).mono ?_;rintro e w1 ⟨rfl,rfl⟩))
 all_goals go_ret
 all_goals refine ⟨q06 ?_,by first|exact HB2.out|exact q03 HB2.out _|exact q03 (q03 HB2.out _) _⟩
 all_goals first|rfl|(simp[*];done)|(simp[*];omega)|(simp[*];intros;omega)
theorem y69 (F m:Nat) (nd:Nat->ND) (nas:Nat->NA) (w:World) (hA:AH w F m nd nas) (hN:NodeAt 0 w (nd m) (nas m)) (hs:(nd m).sm) (hcap:(nd m).kn<=(nas m).kc) :
  Calls Tryz.prog 100 #[.pointer (some ⟨F,0,none⟩),q40 (nd m) (nas m)] w fun e w'=>e=.returned (.bool (uoB (nd m) false false false false false true && ((((nd m).kn:Int)==2 && kidS sEx nd m ((nd m).c 0) && kidS sBl nd m ((nd m).c 1)))))/\Below w.heap.size w w':=by
 have HA:Hid (AH w F m nd nas):=hA
 have HN:Hid (NodeAt 0 w (nd m) (nas m)):=hN
 have hkn:=hs.kn
 have hrn:=hs.rn
 have hsz:=hs.s
 clear hA hN hs
 go_enter Tryz.func100,Tryz.ntmps100
 go_wp2_with (first|(go_at_call 150;refine (q61 (nd m) (nas m) _).mono ?_;rintro e w2 ⟨rfl,hb2⟩;have HB2:Hid (Below w.heap.size w w2):=q02 (q01 _ _) hb2;have n2:w2.cell? ⟨w.heap.size,2,none⟩=some (.int .i64 (nd m).o):=(Has.made hb2).cell 2 rfl;have n3:w2.cell? ⟨w.heap.size,3,none⟩=some (.int .i64 (nd m).n):=(Has.made hb2).cell 3 rfl;have n4:w2.cell? ⟨w.heap.size,4,none⟩=some (.float .f64 (nd m).f):=(Has.made hb2).cell 4 rfl;have n5:w2.cell? ⟨w.heap.size,5,none⟩=some (.string (nd m).s):=(Has.made hb2).cell 5 rfl;have n6:w2.cell? ⟨w.heap.size,6,none⟩=some (.slice (nas m).ra (nd m).rn (nas m).rc):=(Has.made hb2).cell 6 rfl;have n7:w2.cell? ⟨w.heap.size,7,none⟩=some (.slice (nas m).ka (nd m).kn (nas m).kc):=(Has.made hb2).cell 7 rfl;have hz2:w.heap.size<w2.heap.size:=(Has.made hb2).lt;clear hb2)|(go_at_call 152;refine (q95 F m nd nas _ _ _ (nd m).c _ 549754765312 2 _ (by decide) (by decide) (by omega) hcap (HA.out.below (q03 HB2.out _)) (RowN.below HN.out.2 (q03 HB2.out _)) (by simp) (by simp)).mono ?_;rintro e w1 ⟨rfl,rfl⟩))
 all_goals go_ret
 all_goals refine ⟨q06 ?_,by first|exact HB2.out|exact q03 HB2.out _|exact q03 (q03 HB2.out _) _⟩
 all_goals first|rfl|(simp[*];done)|(simp[*];omega)|(simp[*];intros;omega)
theorem qm4 (F m:Nat) (nd:Nat->ND) (nas:Nat->NA) (w:World) (hA:AH w F m nd nas) (hN:NodeAt 0 w (nd m) (nas m)) (hs:(nd m).sm) (hcap:(nd m).kn<=(nas m).kc) :
  Calls Tryz.prog 106 #[.pointer (some ⟨F,0,none⟩),q40 (nd m) (nas m)] w fun e w'=>e=.returned (.bool (uoB (nd m) false false false false false true && ((((nd m).kn:Int)==1 && kidS sEx nd m ((nd m).c 0)))))/\Below w.heap.size w w':=by
 have HA:Hid (AH w F m nd nas):=hA
 have HN:Hid (NodeAt 0 w (nd m) (nas m)):=hN
 have hkn:=hs.kn
 have hrn:=hs.rn
 have hsz:=hs.s
 clear hA hN hs
 go_enter Tryz.func106,Tryz.ntmps106
 go_wp2_with (first|(go_at_call 150;refine (q61 (nd m) (nas m) _).mono ?_;rintro e w2 ⟨rfl,hb2⟩;have HB2:Hid (Below w.heap.size w w2):=q02 (q01 _ _) hb2;have n2:w2.cell? ⟨w.heap.size,2,none⟩=some (.int .i64 (nd m).o):=(Has.made hb2).cell 2 rfl;have n3:w2.cell? ⟨w.heap.size,3,none⟩=some (.int .i64 (nd m).n):=(Has.made hb2).cell 3 rfl;have n4:w2.cell? ⟨w.heap.size,4,none⟩=some (.float .f64 (nd m).f):=(Has.made hb2).cell 4 rfl;have n5:w2.cell? ⟨w.heap.size,5,none⟩=some (.string (nd m).s):=(Has.made hb2).cell 5 rfl;have n6:w2.cell? ⟨w.heap.size,6,none⟩=some (.slice (nas m).ra (nd m).rn (nas m).rc):=(Has.made hb2).cell 6 rfl;have n7:w2.cell? ⟨w.heap.size,7,none⟩=some (.slice (nas m).ka (nd m).kn (nas m).kc):=(Has.made hb2).cell 7 rfl;have hz2:w.heap.size<w2.heap.size:=(Has.made hb2).lt;clear hb2)|(go_at_call 152;refine (qf0 F m nd nas _ _ _ (nd m).c _ 549754765312 _ (by decide) (by omega) hcap (HA.out.below (q03 HB2.out _)) (RowN.below HN.out.2 (q03 HB2.out _)) (by simp)).mono ?_;rintro e w1 ⟨rfl,rfl⟩))
 all_goals go_ret
 all_goals refine ⟨q06 ?_,by first|exact HB2.out|exact q03 HB2.out _|exact q03 (q03 HB2.out _) _⟩
 all_goals first|rfl|(simp[*];done)|(simp[*];omega)|(simp[*];intros;omega)
theorem q83 (F m:Nat) (nd:Nat->ND) (nas:Nat->NA) (w:World) (hA:AH w F m nd nas) (hN:NodeAt 0 w (nd m) (nas m)) (hs:(nd m).sm) (hcap:(nd m).kn<=(nas m).kc) :
  Calls Tryz.prog 112 #[.pointer (some ⟨F,0,none⟩),q40 (nd m) (nas m)] w fun e w'=>e=.returned (.bool (uoB (nd m) false false false false false true && ((((nd m).kn:Int)==2 && kidS sEx nd m ((nd m).c 0) && kidS sEx nd m ((nd m).c 1)))))/\Below w.heap.size w w':=by
 have HA:Hid (AH w F m nd nas):=hA
 have HN:Hid (NodeAt 0 w (nd m) (nas m)):=hN
 have hkn:=hs.kn
 have hrn:=hs.rn
 have hsz:=hs.s
 clear hA hN hs
 go_enter Tryz.func112,Tryz.ntmps112
 go_wp2_with (first|(go_at_call 150;refine (q61 (nd m) (nas m) _).mono ?_;rintro e w2 ⟨rfl,hb2⟩;have HB2:Hid (Below w.heap.size w w2):=q02 (q01 _ _) hb2;have n2:w2.cell? ⟨w.heap.size,2,none⟩=some (.int .i64 (nd m).o):=(Has.made hb2).cell 2 rfl;have n3:w2.cell? ⟨w.heap.size,3,none⟩=some (.int .i64 (nd m).n):=(Has.made hb2).cell 3 rfl;have n4:w2.cell? ⟨w.heap.size,4,none⟩=some (.float .f64 (nd m).f):=(Has.made hb2).cell 4 rfl;have n5:w2.cell? ⟨w.heap.size,5,none⟩=some (.string (nd m).s):=(Has.made hb2).cell 5 rfl;have n6:w2.cell? ⟨w.heap.size,6,none⟩=some (.slice (nas m).ra (nd m).rn (nas m).rc):=(Has.made hb2).cell 6 rfl;have n7:w2.cell? ⟨w.heap.size,7,none⟩=some (.slice (nas m).ka (nd m).kn (nas m).kc):=(Has.made hb2).cell 7 rfl;have hz2:w.heap.size<w2.heap.size:=(Has.made hb2).lt;clear hb2)|(go_at_call 152;refine (q95 F m nd nas _ _ _ (nd m).c _ 549754765312 549754765312 _ (by decide) (by decide) (by omega) hcap (HA.out.below (q03 HB2.out _)) (RowN.below HN.out.2 (q03 HB2.out _)) (by simp) (by simp)).mono ?_;rintro e w1 ⟨rfl,rfl⟩))
 all_goals go_ret
 all_goals refine ⟨q06 ?_,by first|exact HB2.out|exact q03 HB2.out _|exact q03 (q03 HB2.out _) _⟩
 all_goals first|rfl|(simp[*];done)|(simp[*];omega)|(simp[*];intros;omega)
theorem zq3 (F m:Nat) (nd:Nat->ND) (nas:Nat->NA) (w:World) (hA:AH w F m nd nas) (hN:NodeAt 0 w (nd m) (nas m)) (hs:(nd m).sm) (hcap:(nd m).kn<=(nas m).kc) :
  Calls Tryz.prog 117 #[.pointer (some ⟨F,0,none⟩),q40 (nd m) (nas m)] w fun e w'=>e=.returned (.bool (uoB (nd m) false false false false false true && ((((nd m).kn:Int)==1 && kidS sLi nd m ((nd m).c 0)))))/\Below w.heap.size w w':=by
 have HA:Hid (AH w F m nd nas):=hA
 have HN:Hid (NodeAt 0 w (nd m) (nas m)):=hN
 have hkn:=hs.kn
 have hrn:=hs.rn
 have hsz:=hs.s
 clear hA hN hs
 go_enter Tryz.func117,Tryz.ntmps117
 go_wp2_with (first|(go_at_call 150;refine (q61 (nd m) (nas m) _).mono ?_;rintro e w2 ⟨rfl,hb2⟩;have HB2:Hid (Below w.heap.size w w2):=q02 (q01 _ _) hb2;have n2:w2.cell? ⟨w.heap.size,2,none⟩=some (.int .i64 (nd m).o):=(Has.made hb2).cell 2 rfl;have n3:w2.cell? ⟨w.heap.size,3,none⟩=some (.int .i64 (nd m).n):=(Has.made hb2).cell 3 rfl;have n4:w2.cell? ⟨w.heap.size,4,none⟩=some (.float .f64 (nd m).f):=(Has.made hb2).cell 4 rfl;have n5:w2.cell? ⟨w.heap.size,5,none⟩=some (.string (nd m).s):=(Has.made hb2).cell 5 rfl;have n6:w2.cell? ⟨w.heap.size,6,none⟩=some (.slice (nas m).ra (nd m).rn (nas m).rc):=(Has.made hb2).cell 6 rfl;have n7:w2.cell? ⟨w.heap.size,7,none⟩=some (.slice (nas m).ka (nd m).kn (nas m).kc):=(Has.made hb2).cell 7 rfl;have hz2:w.heap.size<w2.heap.size:=(Has.made hb2).lt;clear hb2)|(go_at_call 152;refine (qf0 F m nd nas _ _ _ (nd m).c _ 154618822656 _ (by decide) (by omega) hcap (HA.out.below (q03 HB2.out _)) (RowN.below HN.out.2 (q03 HB2.out _)) (by simp)).mono ?_;rintro e w1 ⟨rfl,rfl⟩))
 all_goals go_ret
 all_goals refine ⟨q06 ?_,by first|exact HB2.out|exact q03 HB2.out _|exact q03 (q03 HB2.out _) _⟩
 all_goals first|rfl|(simp[*];done)|(simp[*];omega)|(simp[*];intros;omega)
theorem ym4 (F m:Nat) (nd:Nat->ND) (nas:Nat->NA) (w:World) (hA:AH w F m nd nas) (hN:NodeAt 0 w (nd m) (nas m)) (hs:(nd m).sm) (hcap:(nd m).kn<=(nas m).kc) :
  Calls Tryz.prog 105 #[.pointer (some ⟨F,0,none⟩),q40 (nd m) (nas m)] w fun e w'=>e=.returned (.bool (uoB (nd m) false false false false true true && (((nd m).rn:Int)==2 && (((nd m).kn:Int)==2 && kidS sBl nd m ((nd m).c 0) && kidS sBl nd m ((nd m).c 1)))))/\Below w.heap.size w w':=by
 have HA:Hid (AH w F m nd nas):=hA
 have HN:Hid (NodeAt 0 w (nd m) (nas m)):=hN
 have hkn:=hs.kn
 have hrn:=hs.rn
 have hsz:=hs.s
 clear hA hN hs
 go_enter Tryz.func105,Tryz.ntmps105
 go_wp2_with (first|(go_at_call 150;refine (qe7 (nd m) (nas m) _).mono ?_;rintro e w2 ⟨rfl,hb2⟩;have HB2:Hid (Below w.heap.size w w2):=q02 (q01 _ _) hb2;have n2:w2.cell? ⟨w.heap.size,2,none⟩=some (.int .i64 (nd m).o):=(Has.made hb2).cell 2 rfl;have n3:w2.cell? ⟨w.heap.size,3,none⟩=some (.int .i64 (nd m).n):=(Has.made hb2).cell 3 rfl;have n4:w2.cell? ⟨w.heap.size,4,none⟩=some (.float .f64 (nd m).f):=(Has.made hb2).cell 4 rfl;have n5:w2.cell? ⟨w.heap.size,5,none⟩=some (.string (nd m).s):=(Has.made hb2).cell 5 rfl;have n6:w2.cell? ⟨w.heap.size,6,none⟩=some (.slice (nas m).ra (nd m).rn (nas m).rc):=(Has.made hb2).cell 6 rfl;have n7:w2.cell? ⟨w.heap.size,7,none⟩=some (.slice (nas m).ka (nd m).kn (nas m).kc):=(Has.made hb2).cell 7 rfl;have hz2:w.heap.size<w2.heap.size:=(Has.made hb2).lt;clear hb2)|(go_at_call 152;refine (q95 F m nd nas _ _ _ (nd m).c _ 2 2 _ (by decide) (by decide) (by omega) hcap (HA.out.below (q03 HB2.out _)) (RowN.below HN.out.2 (q03 HB2.out _)) (by simp) (by simp)).mono ?_;rintro e w1 ⟨rfl,rfl⟩))
 all_goals go_ret
 all_goals refine ⟨q06 ?_,by first|exact HB2.out|exact q03 HB2.out _|exact q03 (q03 HB2.out _) _⟩
 all_goals first|rfl|(simp[*];done)|(simp[*];omega)|(simp[*];intros;omega)
def qb0 (u:UD) (f n:Nat):Prop:=(n<(u.fn f).nn-1/\parP (u.fn f).nd (u.fn f).nn n<0)\/(n=(u.fn f).nn-1/\((u.fn f).nd n).k≠1)
end Go.Proofs.YtaimofjekgnieaaGreatDoor
namespace Go.Proofs.YtaimofjekgnieaaGreatDoor
open Go.RowKit
theorem zx7 {u:UD} {g:Int}:¬q21 u 0 0 g:=by rintro ⟨f',x',h,_⟩;omega
theorem qd4 {u:UD} {f x:Nat} (hf:f<u.n) (hx:x<(u.fn f).nn) {g:Int}:q21 u f (x+1) g↔q21 u f x g\/(((u.fn f).nd x).k=36/\((u.fn f).nd x).r 0=g):=by
 constructor
 ·rintro ⟨f',x',h,hm⟩
  by_cases e:f'=f/\x'=x
  ·obtain ⟨rfl,rfl⟩:=e
   exact .inr hm.2.2
  ·exact .inl ⟨f',x',by omega,hm⟩
 ·rintro (⟨f',x',h,hm⟩|h)
  ·exact ⟨f',x',by omega,hm⟩
  ·exact ⟨f,x,by omega,hf,hx,h⟩
theorem made_next {u:UD} {f:Nat} {g:Int}:q21 u (f+1) 0 g↔q21 u f (u.fn f).nn g:=by
 constructor
 ·rintro ⟨f',x',h,hm⟩
  refine ⟨f',x',?_,hm⟩
  by_cases e:f'=f
  ·subst e;exact .inr ⟨rfl,hm.2.1⟩
  ·exact .inl (by omega)
 ·rintro ⟨f',x',h,hm⟩
  exact ⟨f',x',by omega,hm⟩
theorem made_all {u:UD} {g:Int}:q21 u u.n 0 g↔∃ f x,ql0 u f x g:=by
 constructor
 ·rintro ⟨f',x',_,hm⟩
  exact ⟨f',x',hm⟩
 ·rintro ⟨f',x',hm⟩
  exact ⟨f',x',.inl hm.1,hm⟩
def MadeRow (w:World) (M:Nat) (u:UD) (f x:Nat):Prop:=w.rowIs M 4 u.n (fun i=>.bool (dB (q21 u f x i)))
theorem MadeRow.below {w w':World} {M:Nat} {u:UD} {f x:Nat} (h:MadeRow w M u f x) (hb:Below w.heap.size w w'):MadeRow w' M u f x:=World.rowIs.of_block h (hb.block _ h.lt)
theorem MadeRow.congr {w:World} {M:Nat} {u:UD} {f x f' x':Nat} (h:MadeRow w M u f x) (e:∀ v:Nat,q21 u f x v↔q21 u f' x' v):MadeRow w M u f' x':=World.rowIs.congr h fun i _=>by
 by_cases c:q21 u f x i
 ·rw[q32 c,q32 ((e i).1 c)]
 ·rw[q19 c,q19 fun c'=>c ((e i).2 c')]
theorem MadeRow.set {w:World} {M:Nat} {u:UD} {f x g:Nat} (hf:f<u.n) (hx:x<(u.fn f).nn) (h:MadeRow w M u f x) (hk:((u.fn f).nd x).k=36) (hg:((u.fn f).nd x).r 0=g):MadeRow (w.setCell ⟨M,g,none⟩ (.bool true)) M u f (x+1):=(World.rowIs.set h g (.bool true)).congr fun i _=>by
 by_cases e:i=g
 ·rw[if_pos e,q32 ((qd4 hf hx).2 (.inr ⟨hk,by rw[hg,e]⟩))]
 ·rw[if_neg e]
  by_cases c:q21 u f x i
  ·rw[q32 c,q32 ((qd4 hf hx).2 (.inl c))]
  ·rw[q19 c,q19 fun c'=>((qd4 hf hx).1 c').elim c fun h=>e (by omega)]
theorem MadeRow.skip {w:World} {M:Nat} {u:UD} {f x:Nat} (hf:f<u.n) (hx:x<(u.fn f).nn) (h:MadeRow w M u f x) (hk:((u.fn f).nd x).k≠36):MadeRow w M u f (x+1):=h.congr fun v=>by
 rw[qd4 hf hx]
 exact ⟨.inl,fun h=>h.elim id fun h=>absurd h.1 hk⟩
theorem zl8:(Tryz.prog.info? 4).map (fun i=>(i.zero,i.size,i.bytes))=some (some (.bool false),1,1):=by kernel_rfl
theorem zo4 {d:FD} {p:Nat} (hp:d.params=p) (v:Nat):v<p↔q78 d 0 0 v:=by
 unfold q78
 constructor
 ·intro h;exact .inl (by omega)
 ·rintro (h|⟨m,hm,_⟩|⟨b,hb,_⟩)
  ·omega
  ·omega
  ·omega
end Go.Proofs.YtaimofjekgnieaaGreatDoor
namespace Go.Proofs.YtaimofjekgnieaaGreatDoor
open Go.RowKit
attribute [local go_sem] q00
attribute [local go_sem ↓] Go.wp_at_zero Go.wp_at_succ
theorem qw5 {nd:Nat->ND} {n:Nat} (h:∀ i,i<n->(nd i).kn<=200):∀ i,i<=n->∀ x,0<=q67 nd i x/\q67 nd i x<=(i:Int)*200
 |0,_=>fun x=>by unfold q67;omega
 |i+1,hi=>fun x=>by
  have:=qq6 nd i (qw5 h i (by omega)) (nd i).kn x
  have h2:=h i (by omega)
  show 0<=qf6 nd i (q67 nd i) (nd i).kn x/\qf6 nd i (q67 nd i) (nd i).kn x<=_
  omega
def CRow (w:World) (B n:Nat) (c:Nat->Int):Prop:=w.rowIs B 3 n (fun i=>.int .i64 (c i))
theorem qo9 (L:Nat) (d:FD) (x:FA) (w:World) (hn:d.nn<=3000) (hK:q79 d.nd d.nn) (hk2:∀ i,i<d.nn->(d.nd i).kn<=200) (hT:FnAt L w d x) :
  Calls Tryz.prog 73 #[fnV d x] w fun e w'=>(∃ B,e=.returned (.slice (some ⟨B,0,none⟩) d.nn d.nn)/\w.heap.size<=B/\CRow w' B d.nn (q67 d.nd d.nn))/\Below w.heap.size w w':=by
 have HT:Hid (FnAt L w d x):=hT
 have HK:Hid (q79 d.nd d.nn):=hK
 have HK2:Hid (∀ i,i<d.nn->(d.nd i).kn<=200):=hk2
 clear hT hK hk2
 have hmk:=fun v=>run_make_row' (P:=Tryz.prog) 44 3 (.int .i64 0) 8 Tryz.underlying44 z25 rfl .i64 .i64 d.nn (by omega) (by omega) v
 go_enter Tryz.func73,Tryz.ntmps73
 go_wp2_with fail
 clear hmk
 obtain ⟨w1,hw1⟩:∃ w1,w1=(w.alloc (.cells (fnC d x) 91)).alloc (.cells (madeCells #[.int .i64 0] d.nn) 3):=⟨_,rfl⟩
 have HB1:Hid (Below w.heap.size w w1):=by show Below _ _ _;rw[hw1];exact q04 _ _ _
 have HR1:Hid (CRow w1 (w.heap.size+1) d.nn (q67 d.nd 0)):=by
  show World.rowIs _ _ _ _ _
  rw[hw1]
  exact qo6 _ _ _ (by simp)
 have hz1:w.heap.size+1<w1.heap.size:=World.rowIs.lt HR1.out
 rw[<-hw1]
 clear hw1
 go_loopw [15] (fun i wr=>∃ (k:Nat),k<=d.nn/\i=.int .i64 k/\Hid (Below (w.heap.size+1) w1 wr)/\Hid (CRow wr (w.heap.size+1) d.nn (q67 d.nd k))) (fun i _=>d.nn-(intOf i).toNat)
 case atStart=>exact ⟨0,Nat.zero_le _,rfl,Below.refl _ _,HR1⟩
 case round=>
  clear HR1
  obtain ⟨k,hk,rfl,HW,HR⟩:=hrel
  have HBw:Hid (Below w.heap.size w wr):=HB1.out.trans (HW.out.mono (by omega))
  by_cases hkn:k<d.nn
  ·obtain ⟨b,off,e0,_,hb,d0,d1,d2,d3,d4,d5,d6,d7⟩:=cells8 (HT.out.below HBw.out).2.2.1 hkn
   rw[e0]
   clear e0
   have hkk:=HK2.out k hkn
   go_wp2_with fail
   clear d0 d1 d2 d3 d4 d5 d6 d7
   rename World=>wa
   have HW0:Hid (Below (w.heap.size+1) w1 (wa.alloc (.cells (q24 (d.nd k) (x.nas k)) 51))):=HW.out.alloc (Nat.le_of_lt (Nat.lt_of_lt_of_le hz1 HW.out.size)) _
   have HR0:Hid (CRow (wa.alloc (.cells (q24 (d.nd k) (x.nas k)) 51)) (w.heap.size+1) d.nn (qf6 d.nd k (q67 d.nd k) 0)):=World.rowIs.alloc HR.out _
   clear HW HR
   go_loopw [22] (fun i wr=>∃ (j:Nat),j<=(d.nd k).kn/\i=.int .i64 j/\Hid (Below (w.heap.size+1) w1 wr)/\Hid (CRow wr (w.heap.size+1) d.nn (qf6 d.nd k (q67 d.nd k) j))) (fun i _=>(d.nd k).kn-(intOf i).toNat)
   case atStart=>exact ⟨0,Nat.zero_le _,rfl,HW0,HR0⟩
   case round=>
    clear HW0 HR0
    obtain ⟨j,hj,rfl,HW,HR⟩:=hrel
    have HBw2:Hid (Below w.heap.size w wr):=HB1.out.trans (HW.out.mono (by omega))
    by_cases hjn:j<(d.nd k).kn
    ·obtain ⟨b2,o2,e2,_,hb2,g0⟩:=cells1 ((HT.out.below HBw2.out).2.2.2 k hkn).2 hjn
     rw[e2]
     clear e2
     have hc:=HK.out k hkn j hjn
     obtain ⟨y,hy⟩:∃ y:Nat,(d.nd k).c j=y:=⟨((d.nd k).c j).toNat,by omega⟩
     rw[hy] at g0 hc
     have hyn:y<d.nn:=by omega
     have r0:=World.rowIs.cell HR.out (i:=y) hyn
     have rz:=World.rowIs.frozen HR.out
     have hrg:=qq6 d.nd k (qw5 HK2.out k hk) j y
     have HN:Hid (CRow (wr.setCell ⟨w.heap.size+1,y,none⟩ (.int .i64 (qf6 d.nd k (q67 d.nd k) j y+1))) (w.heap.size+1) d.nn (qf6 d.nd k (q67 d.nd k) (j+1))):=(World.rowIs.set HR.out y _).congr fun i _=>by
      show _=Value.int .i64 (zu0 (qf6 d.nd k (q67 d.nd k) j) ((d.nd k).c j).toNat i)
      unfold zu0
      rw[hy,Int.toNat_natCast]
      split<;>rfl
     have HW2:Hid (Below (w.heap.size+1) w1 (wr.setCell ⟨w.heap.size+1,y,none⟩ (.int .i64 (qf6 d.nd k (q67 d.nd k) j y+1)))):=frS HW.out (Nat.le_refl _) _
     clear hy
     go_wp2_with fail
     go_roundw
     case rel=>exact ⟨j+1,by omega,by go_num,HW2,HN⟩
     case measure=>simp[intOf];omega
    ·obtain rfl:j=(d.nd k).kn:=by omega
     go_wp2_with fail
     go_roundw
     case rel=>exact ⟨k+1,by omega,by go_num,HW,HR⟩
     case measure=>simp[intOf];omega
  ·obtain rfl:k=d.nn:=by omega
   go_wp2_with fail
   go_ret
   exact ⟨⟨_,rfl,by omega,HR.out⟩,HBw.out⟩
theorem zn1 {u:UD} {f n:Nat} (hf:f<u.n) (hn:n<(u.fn f).nn) (h3:∀ f',f'<f->∀ n',n'<(u.fn f').nn->¬qb0 u f' n') (h4:∀ n',n'<n->¬qb0 u f n') (h5:qb0 u f n):Least (Bad4 u) ⟨4,f,n⟩:=At2.least (by decide) h3 h4 hf hn h5
theorem yh2 {u:UD} (h2:∀ f',f'<u.n->∀ n',n'<(u.fn f').nn->¬qb0 u f' n'):Least (Bad4 u) ft0:=Least.zero (At2.none h2)
theorem qo1 (L:Nat) (u:UD) (a:Option Addr) (cap:Nat) (fas:Nat->FA) (w:World) (hs:u.sm) (h3:U3 u) (hT:FnsAt L w u.n u.fn a fas) :
  Calls Tryz.prog 40 #[unV u a cap] w fun e w'=>FtPost (Bad4 u) w e w':=by
 have HT:Hid (FnsAt L w u.n u.fn a fas):=hT
 have HS:Hid u.sm:=hs
 have H3:Hid (U3 u):=h3
 have hun:=h3.size.2.1
 obtain ⟨b,off,e0,_,hb,_⟩:=cells7 hT.1 (show 0<u.n from h3.size.1)
 subst e0
 clear hT hs h3
 go_enter Tryz.func40,Tryz.ntmps40
 go_wp2_with fail
 go_loopw [12] (fun i wr=>∃ (k:Nat),k<=u.n/\i=.int .i64 k/\Hid (∀ f',f'<k->∀ n',n'<(u.fn f').nn->¬qb0 u f' n')/\Hid (Below (fxW w u (some ⟨b,off,none⟩) cap).heap.size (fxW w u (some ⟨b,off,none⟩) cap) wr)) (fun i _=>u.n-(intOf i).toNat)
 case atStart=>exact ⟨0,Nat.zero_le _,rfl,fun f' hf'=>by omega,Below.refl _ _⟩
 case round=>
  obtain ⟨k,hk,rfl,HF,HB⟩:=hrel
  by_cases hkn:k<u.n
  ·have HTr:Hid (FnsAt L wr u.n u.fn (some ⟨b,off,none⟩) fas):=HT.out.below (q17 HB.out)
   obtain ⟨b',off',e0,_,hbz,d0,d1,d2,d3,d4,d5,d6⟩:=cells7 HTr.out.1 hkn
   obtain ⟨rfl,rfl⟩:b=b'/\off=off':=by simpa using e0
   clear e0
   have hnn:=H3.out.nn hkn
   have HK2:Hid (∀ i,i<(u.fn k).nn->((u.fn k).nd i).kn<=200):=fun i hi=>(H3.out.facts hkn hi).kn
   rename World=>wa
   go_wp2_with (go_at_call 73;refine (qo9 L (u.fn k) (fas k) _ hnn.1 (H3.out.kids hkn) HK2.out ((HTr.out.2 k hkn).alloc _)).mono ?_;rintro e w8 ⟨⟨B,rfl,hBz,hR⟩,hb8⟩;have HR8:Hid (CRow w8 B (u.fn k).nn (q67 (u.fn k).nd (u.fn k).nn)):=hR;have HX8:Hid (Has w8 wa.heap.size (fnC (u.fn k) (fas k))):=Has.made hb8;have y6:w8.cell? ⟨wa.heap.size,6,none⟩=some (.slice (fas k).na (u.fn k).nn (fas k).nc):=HX8.out.cell 6 rfl;clear hR)
   clear y6 d0 d1 d2 d3 d4 d5 d6
   have HB8:Hid (Below (fxW w u (some ⟨b,off,none⟩) cap).heap.size (fxW w u (some ⟨b,off,none⟩) cap) w8):=q02 HB.out (q02 (q01 _ _) hb8)
   clear HB hb8 HTr HX8 hBz
   go_loopw [26] (fun i wr=>∃ (m:Nat),m<=(u.fn k).nn/\i=.int .i64 m/\Hid (∀ n',n'<m->¬qb0 u k n')/\Hid (Below w8.heap.size w8 wr)) (fun i _=>(u.fn k).nn-(intOf i).toNat)
   case atStart=>exact ⟨0,Nat.zero_le _,rfl,fun f' hf'=>by omega,Below.refl _ _⟩
   case round=>
    obtain ⟨m,hm,rfl,HN,HW⟩:=hrel
    have HB:Hid (Below (fxW w u (some ⟨b,off,none⟩) cap).heap.size (fxW w u (some ⟨b,off,none⟩) cap) wr):=q02 HB8.out HW.out
    by_cases hmn:m<(u.fn k).nn
    ·have HTr:Hid (FnsAt L wr u.n u.fn (some ⟨b,off,none⟩) fas):=HT.out.below (q17 HB.out)
     have HRr:Hid (CRow wr B (u.fn k).nn (q67 (u.fn k).nd (u.fn k).nn)):=World.rowIs.of_block HR8.out (HW.out.block _ (World.rowIs.lt HR8.out))
     have r0:=World.rowIs.cell HRr.out (i:=m) hmn
     have hBw:=World.rowIs.lt HRr.out
     have hrz:w.heap.size+1<wr.heap.size:=(q07 HB.out).lt
     obtain ⟨b2,o2,e2,_,hb2,g0,g1,g2,g3,g4,g5,g6,g7⟩:=cells8 (HTr.out.2 k hkn).2.2.1 hmn
     rw[e2]
     clear e2
     have HWn:Hid (Below w8.heap.size w8 (wr.alloc (.cells (q24 ((u.fn k).nd m) (fas k |>.nas m)) 51))):=q03 HW.out _
     have s0:=(q07 HB.out).cell (i:=0) (by omega)
     have s1:=(q07 HB.out).cell (i:=1) (by omega)
     have s2:=(q07 HB.out).cell (i:=2) (by omega)
     have sz:=(q07 HB.out).frozen
     by_cases hl:m=(u.fn k).nn-1
     ·have qa:¬(m:Int)<((u.fn k).nn:Int)-1:=by omega
      have qb:((m:Int)==((u.fn k).nn:Int)-1)=true:=by simp;omega
      by_cases hk1:((u.fn k).nd m).k=1
      ·have HG:Hid (¬qb0 u k m):=by
        show ¬qb0 u k m
        rintro (⟨h,_⟩|⟨_,h⟩)
        ·omega
        ·exact h hk1
       have q1:(((u.fn k).nd m).k != 1)=false:=by rw[hk1];rfl
       clear hk1 hl
       go_wp2_with fail
       go_roundw
       case rel=>exact ⟨m+1,by omega,by go_num,fun j hj=>by
        by_cases e:j=m
        ·subst e;exact HG.out
        ·exact HN.out j (by omega),HWn⟩
       case measure=>simp[intOf];omega
      ·have HL:Hid (Least (Bad4 u) ⟨4,k,m⟩):=zn1 hkn hmn HF.out HN.out (.inr ⟨hl,hk1⟩)
       have q1:(((u.fn k).nd m).k != 1)=true:=by simpa using hk1
       clear hk1 hl
       go_wp2_with fail
       refine bodyPost_ret (v:=ftV ⟨4,k,m⟩) (by simp[results,Tryz.results40,go_sem,s0,s1,s2,hrz]) rfl ?_
       exact FtPost.of HL.out (q03 (q46 (q17 HB.out) _ _ _) _)
     ·have qa:(m:Int)<((u.fn k).nn:Int)-1:=by omega
      have qb:((m:Int)==((u.fn k).nn:Int)-1)=false:=by simp;omega
      have hco:=y18 (H3.out.kids hkn) (x:=m) (by omega)
      by_cases hp:q67 (u.fn k).nd (u.fn k).nn m=1
      ·have HG:Hid (¬qb0 u k m):=by
        show ¬qb0 u k m
        rintro (⟨_,h⟩|⟨h,_⟩)
        ·have:=hco.1 hp;omega
        ·exact hl h
       have q1:(q67 (u.fn k).nd (u.fn k).nn m != 1)=false:=by rw[hp];rfl
       clear hp hl hco
       go_wp2_with fail
       go_roundw
       case rel=>exact ⟨m+1,by omega,by go_num,fun j hj=>by
        by_cases e:j=m
        ·subst e;exact HG.out
        ·exact HN.out j (by omega),HWn⟩
       case measure=>simp[intOf];omega
      ·have HL:Hid (Least (Bad4 u) ⟨4,k,m⟩):=zn1 hkn hmn HF.out HN.out (.inl ⟨by omega,by
        have:¬0<=parP (u.fn k).nd (u.fn k).nn m:=fun h=>hp (hco.2 h)
        omega⟩)
       have q1:(q67 (u.fn k).nd (u.fn k).nn m != 1)=true:=by simpa using hp
       clear hp hl hco
       go_wp2_with fail
       refine bodyPost_ret (v:=ftV ⟨4,k,m⟩) (by simp[results,Tryz.results40,go_sem,s0,s1,s2,hrz]) rfl ?_
       exact FtPost.of HL.out (q03 (q46 (q17 HB.out) _ _ _) _)
    ·obtain rfl:m=(u.fn k).nn:=by omega
     go_wp2_with fail
     go_roundw
     case rel=>exact ⟨k+1,by omega,by go_num,fun j hj=>by
      by_cases e:j=k
      ·subst e;exact HN.out
      ·exact HF.out j (by omega),HB⟩
     case measure=>simp[intOf];omega
  ·obtain rfl:k=u.n:=by omega
   have HL:Hid (Least (Bad4 u) ⟨0,0,0⟩):=yh2 HF.out
   have s0:=(q07 HB.out).cell (i:=0) (by omega)
   have s1:=(q07 HB.out).cell (i:=1) (by omega)
   have s2:=(q07 HB.out).cell (i:=2) (by omega)
   have sz:=(q07 HB.out).frozen
   go_wp2_with fail
   refine bodyPost_ret (v:=ftV ⟨0,0,0⟩) (by simp[results,Tryz.results40,go_sem,s0,s1,s2]) rfl ?_
   exact FtPost.of HL.out (q46 (q17 HB.out) _ _ _)
def qe5 (u:UD) (f n:Nat):Prop:=100<depP (parP (u.fn f).nd (u.fn f).nn) (u.fn f).nn ((u.fn f).nn-1) n
theorem y86 {u:UD} {f n:Nat} (hf:f<u.n) (hn:n<(u.fn f).nn) (h3:∀ f',f'<f->∀ n',n'<(u.fn f').nn->¬qe5 u f' n') (h4:∀ n',n'<n->¬qe5 u f n') (h5:qe5 u f n):Least (Bad5 u) ⟨5,f,n⟩:=At2.least (by decide) h3 h4 hf hn h5
theorem yh1 {u:UD} (h2:∀ f',f'<u.n->∀ n',n'<(u.fn f').nn->¬qe5 u f' n'):Least (Bad5 u) ft0:=Least.zero (At2.none h2)
def qt3:Prop:=∀ (L:Nat) (d:FD) (x:FA) (w:World),d.nn<=3000->q79 d.nd d.nn->(∀ i,i<d.nn->(d.nd i).kn<=200)->FnAt L w d x->
 Calls Tryz.prog 74 #[fnV d x] w fun e w'=>(∃ B,e=.returned (.slice (some ⟨B,0,none⟩) d.nn d.nn)/\w.heap.size<=B/\CRow w' B d.nn (q80 d.nd d.nn d.nn))/\Below w.heap.size w w'
theorem z77 (hD:qt3) (L:Nat) (u:UD) (a:Option Addr) (cap:Nat) (fas:Nat->FA) (w:World) (h5:U5 u) (hT:FnsAt L w u.n u.fn a fas) :
  Calls Tryz.prog 41 #[unV u a cap] w fun e w'=>FtPost (Bad5 u) w e w':=by
 have HD:Hid qt3:=hD
 have HT:Hid (FnsAt L w u.n u.fn a fas):=hT
 have H5:Hid (U5 u):=h5
 have hun:=h5.size.2.1
 obtain ⟨b,off,e0,_,hb,_⟩:=cells7 hT.1 (show 0<u.n from h5.size.1)
 subst e0
 clear hT h5 hD
 go_enter Tryz.func41,Tryz.ntmps41
 go_wp2_with fail
 go_loopw [10] (fun i wr=>∃ (k:Nat),k<=u.n/\i=.int .i64 k/\Hid (∀ f',f'<k->∀ n',n'<(u.fn f').nn->¬qe5 u f' n')/\Hid (Below (fxW w u (some ⟨b,off,none⟩) cap).heap.size (fxW w u (some ⟨b,off,none⟩) cap) wr)) (fun i _=>u.n-(intOf i).toNat)
 case atStart=>exact ⟨0,Nat.zero_le _,rfl,fun f' hf'=>by omega,Below.refl _ _⟩
 case round=>
  obtain ⟨k,hk,rfl,HF,HB⟩:=hrel
  by_cases hkn:k<u.n
  ·have HTr:Hid (FnsAt L wr u.n u.fn (some ⟨b,off,none⟩) fas):=HT.out.below (q17 HB.out)
   obtain ⟨b',off',e0,_,hbz,d0,d1,d2,d3,d4,d5,d6⟩:=cells7 HTr.out.1 hkn
   obtain ⟨rfl,rfl⟩:b=b'/\off=off':=by simpa using e0
   clear e0
   have hnn:=H5.out.toU3.nn hkn
   have HK2:Hid (∀ i,i<(u.fn k).nn->((u.fn k).nd i).kn<=200):=fun i hi=>(H5.out.toU3.facts hkn hi).kn
   rename World=>wa
   go_wp2_with (go_at_call 74;refine (HD.out L (u.fn k) (fas k) _ hnn.1 (H5.out.toU3.kids hkn) HK2.out ((HTr.out.2 k hkn).alloc _)).mono ?_;rintro e w8 ⟨⟨B,rfl,hBz,hR⟩,hb8⟩;have HR8:Hid (CRow w8 B (u.fn k).nn (q80 (u.fn k).nd (u.fn k).nn (u.fn k).nn)):=hR;clear hR)
   clear d0 d1 d2 d3 d4 d5 d6
   have HB8:Hid (Below (fxW w u (some ⟨b,off,none⟩) cap).heap.size (fxW w u (some ⟨b,off,none⟩) cap) w8):=q02 HB.out (q02 (q01 _ _) hb8)
   clear HB hb8 HTr hBz
   go_loopw [18] (fun i wr=>∃ (m:Nat),m<=(u.fn k).nn/\i=.int .i64 m/\Hid (∀ n',n'<m->¬qe5 u k n')/\wr=w8) (fun i _=>(u.fn k).nn-(intOf i).toNat)
   case atStart=>exact ⟨0,Nat.zero_le _,rfl,fun f' hf'=>by omega,rfl⟩
   case round=>
    obtain ⟨m,hm,rfl,HN,rfl⟩:=hrel
    by_cases hmn:m<(u.fn k).nn
    ·have r0:=World.rowIs.cell HR8.out (i:=m) hmn
     have hBw:=World.rowIs.lt HR8.out
     have hds:=y81 (H5.out.tree k hkn) hmn
     have s0:=(q07 HB8.out).cell (i:=0) (by omega)
     have s1:=(q07 HB8.out).cell (i:=1) (by omega)
     have s2:=(q07 HB8.out).cell (i:=2) (by omega)
     have sz:=(q07 HB8.out).frozen
     by_cases hp:100<q80 (u.fn k).nd (u.fn k).nn (u.fn k).nn m
     ·have HL:Hid (Least (Bad5 u) ⟨5,k,m⟩):=y86 hkn hmn HF.out HN.out (by unfold qe5;rw[<-hds];exact hp)
      clear hds
      go_wp2_with fail
      refine bodyPost_ret (v:=ftV ⟨5,k,m⟩) (by simp[results,Tryz.results41,go_sem,s0,s1,s2]) rfl ?_
      exact FtPost.of HL.out (q46 (q17 HB8.out) _ _ _)
     ·have HG:Hid (¬qe5 u k m):=by
       show ¬(100 < _)
       rw[<-hds]
       exact hp
      clear hds
      go_wp2_with fail
      go_roundw
      case rel=>exact ⟨m+1,by omega,by go_num,fun j hj=>by
       by_cases e:j=m
       ·subst e;exact HG.out
       ·exact HN.out j (by omega),by first|rfl|trivial⟩
      case measure=>simp[intOf];omega
    ·obtain rfl:m=(u.fn k).nn:=by omega
     go_wp2_with fail
     go_roundw
     case rel=>exact ⟨k+1,by omega,by go_num,fun j hj=>by
      by_cases e:j=k
      ·subst e;exact HN.out
      ·exact HF.out j (by omega),HB8⟩
     case measure=>simp[intOf];omega
  ·obtain rfl:k=u.n:=by omega
   have HL:Hid (Least (Bad5 u) ⟨0,0,0⟩):=yh1 HF.out
   have s0:=(q07 HB.out).cell (i:=0) (by omega)
   have s1:=(q07 HB.out).cell (i:=1) (by omega)
   have s2:=(q07 HB.out).cell (i:=2) (by omega)
   have sz:=(q07 HB.out).frozen
   go_wp2_with fail
   refine bodyPost_ret (v:=ftV ⟨0,0,0⟩) (by simp[results,Tryz.results41,go_sem,s0,s1,s2]) rfl ?_
   exact FtPost.of HL.out (q46 (q17 HB.out) _ _ _)
theorem y88 {u:UD} (h:¬qj4 u):Least (Bad1 u) ⟨1,0,0⟩:=At2.least (by decide) (fun f' hf'=>by omega) (fun n' hn'=>by omega) (by decide) (by decide) h
theorem yh5 {u:UD} (h:qj4 u):Least (Bad1 u) ft0:=Least.zero (At2.none fun _ _ _ _ k=>k h)
theorem qn4 {u:UD} {f:Nat} (hf:f<u.n) (h2:∀ f',f'<f->qg3 u f') (h3:¬qg3 u f):Least (Bad2 u) ⟨2,f,0⟩:=At2.least (by decide) (fun f' hf' _ _ h=>h (h2 f' hf')) (fun n' hn'=>by omega) hf (by show 0<1;decide) h3
theorem yh4 {u:UD} (h:∀ f,f<u.n->qg3 u f):Least (Bad2 u) ft0:=Least.zero (At2.none fun f hf _ _ k=>k (h f hf))
theorem qj0 {i l m:Int} (h1:l<=i) (h2:i<=m):btB i l m=true:=by unfold btB;simp[h1,h2]
theorem zc2 {i l m:Int} (h:¬(l<=i/\i<=m)):btB i l m=false:=by unfold btB;simp;omega
theorem qo5 (L:Nat) (u:UD) (a:Option Addr) (cap:Nat) (fas:Nat->FA) (w:World) (hs:u.sm) (hT:FnsAt L w u.n u.fn a fas) :
  Calls Tryz.prog 37 #[unV u a cap] w fun e w'=>FtPost (Bad1 u) w e w':=by
 have HT:Hid (FnsAt L w u.n u.fn a fas):=hT
 have HS:Hid u.sm:=hs
 have hun:=hs.n
 clear hT hs
 go_enter Tryz.func37,Tryz.ntmps37
 go_wp2_with fail
 go_loopw [3,9] (fun s i wr=>∃ (k:Nat),k<=u.n/\i=.int .i64 k/\s=.int .i64 (tot u.fn k)/\Hid (Below (fxW w u a cap).heap.size (fxW w u a cap) wr)) (fun _ i _=>u.n-(intOf i).toNat)
 case atStart=>exact ⟨0,Nat.zero_le _,rfl,rfl,Below.refl _ _⟩
 case round=>
  obtain ⟨k,hk,rfl,rfl,HB⟩:=hrel
  have ht:=y99 HS.out k hk
  by_cases hkn:k<u.n
  ·obtain ⟨b,off,e0,_,hb,d0,d1,d2,d3,d4,d5,d6⟩:=cells7 (HT.out.below (q17 HB.out)).1 hkn
   have hnn:=(HS.out.fn k hkn).nn
   subst e0
   go_wp2_with fail
   go_roundw
   case rel=>exact ⟨k+1,by omega,by go_num,by show _=Value.int .i64 ((tot u.fn k+(u.fn k).nn:Nat):Int);go_num,q03 HB.out _⟩
   case measure=>simp[intOf];omega
  ·obtain rfl:k=u.n:=by omega
   have f0:wr.cell? ⟨w.heap.size,0,none⟩=some (.slice a u.n cap):=(fx_u HB.out).cell 0 rfl
   have s0:=(q07 HB.out).cell (i:=0) (by omega)
   have s1:=(q07 HB.out).cell (i:=1) (by omega)
   have s2:=(q07 HB.out).cell (i:=2) (by omega)
   have sz:=(q07 HB.out).frozen
   by_cases hz:qj4 u
   ·have HL:Hid (Least (Bad1 u) ⟨0,0,0⟩):=yh5 hz
    have hbt:btB (u.n:Int) 1 300=true:=qj0 (by have:=hz.1;omega) (by have:=hz.2.1;omega)
    have z3:¬(3000:Int)<tot u.fn u.n:=by have:=hz.2.2;omega
    clear hz
    go_wp2_with (go_at_call 45;refine (q28 _ _ _ _).mono ?_;rw[hbt];rintro e w1 ⟨rfl,rfl⟩)
    refine bodyPost_ret (v:=ftV ⟨0,0,0⟩) (by simp[results,Tryz.results37,go_sem,s0,s1,s2]) rfl ?_
    exact FtPost.of HL.out (q46 (q17 HB.out) _ _ _)
   ·have HL:Hid (Least (Bad1 u) ⟨1,0,0⟩):=y88 hz
    by_cases c1:(1:Int)<=u.n/\(u.n:Int)<=300
    ·have hbt:btB (u.n:Int) 1 300=true:=qj0 c1.1 c1.2
     have c3:(3000:Int)<tot u.fn u.n:=by unfold qj4 at hz;omega
     clear hz c1
     go_wp2_with (go_at_call 45;refine (q28 _ _ _ _).mono ?_;rw[hbt];rintro e w1 ⟨rfl,rfl⟩)
     refine bodyPost_ret (v:=ftV ⟨1,0,0⟩) (by simp[results,Tryz.results37,go_sem,s0,s1,s2]) rfl ?_
     exact FtPost.of HL.out (q46 (q17 HB.out) _ _ _)
    ·have hbt:btB (u.n:Int) 1 300=false:=zc2 c1
     clear hz c1
     go_wp2_with (go_at_call 45;refine (q28 _ _ _ _).mono ?_;rw[hbt];rintro e w1 ⟨rfl,rfl⟩)
     refine bodyPost_ret (v:=ftV ⟨1,0,0⟩) (by simp[results,Tryz.results37,go_sem,s0,s1,s2]) rfl ?_
     exact FtPost.of HL.out (q46 (q17 HB.out) _ _ _)
def qe6 (d:FD):Prop:=(d.nn≠0/\d.vn<=200/\d.un<=200)/\(∀ i,i<d.vn->1<=(d.v i).size/\(d.v i).size<=40)/\(0<=d.params/\d.params<=d.vn)/\(0<=d.line/\d.line<=100000)/\d.name.size<=40
theorem head_iff {u:UD} {f:Nat}:qg3 u f↔qe6 (u.fn f)/\(f=0->(u.fn f).params=0/\(u.fn f).un=0):=by
 unfold qg3 qe6
 constructor
 ·rintro ⟨⟨a,b,c,d,e⟩,⟨f,g,h,i⟩,j⟩
  exact ⟨⟨⟨a,b,c⟩,j,⟨d,e⟩,⟨f,g⟩,h⟩,i⟩
 ·rintro ⟨⟨⟨a,b,c⟩,j,⟨d,e⟩,⟨f,g⟩,h⟩,i⟩
  exact ⟨⟨a,b,c,d,e⟩,⟨f,g,h,i⟩,j⟩
theorem q74 (L:Nat) (d:FD) (x:FA) (w:World) (hs:d.sm) (hT:FnAt L w d x) :
  Calls Tryz.prog 70 #[fnV d x] w fun e w'=>e=.returned (.bool (dB (qe6 d)))/\Below w.heap.size w w':=by
 have HT:Hid (FnAt L w d x):=hT
 have HS:Hid d.sm:=hs
 have hvn:=hs.vn
 have hun:=hs.un
 have hnn:=hs.nn
 have hnm:=hs.name
 clear hT hs
 by_cases c1:d.nn=0
 ·have he:dB (qe6 d)=false:=q19 fun h=>h.1.1 c1
  have q1:((d.nn:Int)==0)=true:=by simp;omega
  rw[he]
  clear he c1
  go_enter Tryz.func70,Tryz.ntmps70
  go_wp2_with fail
  go_ret
  exact ⟨rfl,q01 _ _⟩
 have q1:((d.nn:Int)==0)=false:=by simp;omega
 have C1:Hid (d.nn≠0):=c1
 clear c1
 by_cases c2:200<d.vn
 ·have he:dB (qe6 d)=false:=q19 fun h=>by have:=h.1.2.1;omega
  rw[he]
  clear he
  go_enter Tryz.func70,Tryz.ntmps70
  go_wp2_with fail
  go_ret
  exact ⟨rfl,q01 _ _⟩
 by_cases c3:200<d.un
 ·have he:dB (qe6 d)=false:=q19 fun h=>by have:=h.1.2.2;omega
  rw[he]
  clear he
  go_enter Tryz.func70,Tryz.ntmps70
  go_wp2_with fail
  go_ret
  exact ⟨rfl,q01 _ _⟩
 have HW:Hid (Has (w.alloc (.cells (fnC d x) 91)) w.heap.size (fnC d x)):=Has.new _ _ _
 go_enter Tryz.func70,Tryz.ntmps70
 go_wp2_with fail
 go_loopw [24] (fun i wr=>∃ (k:Nat),k<=d.vn/\i=.int .i64 k/\Hid (∀ j,j<k->1<=(d.v j).size/\(d.v j).size<=40)/\Hid (Below (w.alloc (.cells (fnC d x) 91)).heap.size (w.alloc (.cells (fnC d x) 91)) wr)) (fun i _=>d.vn-(intOf i).toNat)
 case atStart=>exact ⟨0,Nat.zero_le _,rfl,fun j hj=>by omega,Below.refl _ _⟩
 case round=>
  obtain ⟨k,hk,rfl,HK,HB⟩:=hrel
  have HBw:Hid (Below w.heap.size w wr):=q02 (q01 _ _) HB.out
  by_cases hkn:k<d.vn
  ·obtain ⟨b2,o2,e2,_,hb2,g0⟩:=cells1 (HT.out.below HBw.out).1 hkn
   rw[e2]
   clear e2
   have hsz:=HS.out.v k hkn
   by_cases hg:1<=(d.v k).size/\(d.v k).size<=40
   ·have hbt:btB ((d.v k).size:Int) 1 40=true:=qj0 (by omega) (by omega)
    have HG:Hid (1<=(d.v k).size/\(d.v k).size<=40):=hg
    clear hg
    go_wp2_with (go_at_call 45;refine (q28 _ _ _ _).mono ?_;rw[hbt];rintro e w1 ⟨rfl,rfl⟩)
    go_roundw
    case rel=>exact ⟨k+1,by omega,by go_num,fun j hj=>by
     by_cases e:j=k
     ·subst e;exact HG.out
     ·exact HK.out j (by omega),HB⟩
    case measure=>simp[intOf];omega
   ·have hbt:btB ((d.v k).size:Int) 1 40=false:=zc2 (by omega)
    have HE:Hid (dB (qe6 d)=false):=q19 fun h=>hg (h.2.1 k hkn)
    clear hg
    go_wp2_with (go_at_call 45;refine (q28 _ _ _ _).mono ?_;rw[hbt];rintro e w1 ⟨rfl,rfl⟩)
    go_ret
    exact ⟨q06 HE.out.symm,HBw.out⟩
  ·have HA:Hid (∀ i,i<d.vn->1<=(d.v i).size/\(d.v i).size<=40):=fun i hi=>HK.out i (by omega)
   have x0:wr.cell? ⟨w.heap.size,0,none⟩=some (.string d.name):=(HW.out.call HB.out).cell 0 rfl
   have x1:wr.cell? ⟨w.heap.size,1,none⟩=some (.int .i64 d.line):=(HW.out.call HB.out).cell 1 rfl
   have x2:wr.cell? ⟨w.heap.size,2,none⟩=some (.int .i64 d.params):=(HW.out.call HB.out).cell 2 rfl
   have x4:wr.cell? ⟨w.heap.size,4,none⟩=some (.slice x.va d.vn x.vc):=(HW.out.call HB.out).cell 4 rfl
   cases h1:btB d.params 0 d.vn
   ·have HE:Hid (dB (qe6 d)=false):=q19 fun h=>by
     rw[qj0 h.2.2.1.1 h.2.2.1.2] at h1;cases h1
    go_wp2_with (go_at_call 45;refine (q28 _ _ _ _).mono ?_;rw[h1];rintro e w1 ⟨rfl,rfl⟩)
    go_ret
    exact ⟨q06 HE.out.symm,HBw.out⟩
   ·have H1:Hid (0<=d.params/\d.params<=d.vn):=by show _/\_;unfold btB at h1;simpa using h1
    cases h2:btB d.line 0 100000
    ·have HE:Hid (dB (qe6 d)=false):=q19 fun h=>by
      rw[qj0 h.2.2.2.1.1 h.2.2.2.1.2] at h2;cases h2
     go_wp2_with (go_at_call 45;refine (q28 _ _ _ _).mono ?_;first|(rw[h1];rintro e w1 ⟨rfl,rfl⟩)|(rw[h2];rintro e w1 ⟨rfl,rfl⟩))
     go_ret
     exact ⟨q06 HE.out.symm,HBw.out⟩
    ·have H2:Hid (0<=d.line/\d.line<=100000):=by show _/\_;unfold btB at h2;simpa using h2
     by_cases c8:d.name.size<=40
     ·have HE:Hid (dB (qe6 d)=true):=q32 ⟨⟨C1.out,by omega,by omega⟩,HA.out,H1.out,H2.out,c8⟩
      go_wp2_with (go_at_call 45;refine (q28 _ _ _ _).mono ?_;first|(rw[h1];rintro e w1 ⟨rfl,rfl⟩)|(rw[h2];rintro e w1 ⟨rfl,rfl⟩))
      go_ret
      exact ⟨q06 (by rw[HE.out];simp;omega),HBw.out⟩
     ·have HE:Hid (dB (qe6 d)=false):=q19 fun h=>c8 h.2.2.2.2
      go_wp2_with (go_at_call 45;refine (q28 _ _ _ _).mono ?_;first|(rw[h1];rintro e w1 ⟨rfl,rfl⟩)|(rw[h2];rintro e w1 ⟨rfl,rfl⟩))
      go_ret
      exact ⟨q06 (by rw[HE.out];simp;omega),HBw.out⟩
theorem z28 (L:Nat) (u:UD) (a:Option Addr) (cap:Nat) (fas:Nat->FA) (w:World) (hs:u.sm) (hT:FnsAt L w u.n u.fn a fas) :
  Calls Tryz.prog 38 #[unV u a cap] w fun e w'=>FtPost (Bad2 u) w e w':=by
 have HT:Hid (FnsAt L w u.n u.fn a fas):=hT
 have HS:Hid u.sm:=hs
 have hun:=hs.n
 clear hT hs
 go_enter Tryz.func38,Tryz.ntmps38
 go_wp2_with fail
 go_loopw [8] (fun i wr=>∃ (k:Nat),k<=u.n/\i=.int .i64 k/\Hid (∀ f',f'<k->qg3 u f')/\Hid (Below (fxW w u a cap).heap.size (fxW w u a cap) wr)) (fun i _=>u.n-(intOf i).toNat)
 case atStart=>exact ⟨0,Nat.zero_le _,rfl,fun f' hf'=>by omega,Below.refl _ _⟩
 case round=>
  obtain ⟨k,hk,rfl,HH,HB⟩:=hrel
  by_cases hkn:k<u.n
  ·have HTr:Hid (FnsAt L wr u.n u.fn a fas):=HT.out.below (q17 HB.out)
   obtain ⟨b,off,e0,_,hb,d0,d1,d2,d3,d4,d5,d6⟩:=cells7 HTr.out.1 hkn
   subst e0
   have hun2:=(HS.out.fn k hkn).un
   by_cases hk0:k=0
   ·subst hk0
    simp only[Nat.zero_mul,Nat.add_zero] at d0 d1 d2 d3 d4 d5 d6
    have HA:Hid (∀ w2,Below (wr.alloc (.cells (fnC (u.fn 0) (fas 0)) 91)).heap.size (wr.alloc (.cells (fnC (u.fn 0) (fas 0)) 91)) w2->Below (fxW w u (some ⟨b,off,none⟩) cap).heap.size (fxW w u (some ⟨b,off,none⟩) cap) w2/\Has w2 wr.heap.size (fnC (u.fn 0) (fas 0))):=fun w2 h=>⟨q02 (q03 HB.out _) h,Has.made h⟩
    by_cases hh:qe6 (u.fn 0)
    ·have hdb:dB (qe6 (u.fn 0))=true:=q32 hh
     by_cases hp:(u.fn 0).params=0
     ·have qp:((u.fn 0).params != 0)=false:=by rw[hp];rfl
      by_cases hu:(u.fn 0).un=0
      ·have qu:(((u.fn 0).un:Int) != 0)=false:=by simp;omega
       have HG:Hid (qg3 u 0):=head_iff.2 ⟨hh,fun _=>⟨hp,hu⟩⟩
       clear hh hp hu
       go_wp2_with (go_at_call 70;refine (q74 L (u.fn 0) (fas 0) _ (HS.out.fn 0 hkn) ((HTr.out.2 0 hkn).alloc _)).mono ?_;rw[hdb];rintro e w2 ⟨rfl,hb2⟩;have HB2:Hid (Below (fxW w u (some ⟨b,off,none⟩) cap).heap.size (fxW w u (some ⟨b,off,none⟩) cap) w2):=(HA.out _ hb2).1;have x2:w2.cell? ⟨wr.heap.size,2,none⟩=some (.int .i64 (u.fn 0).params):=(HA.out _ hb2).2.cell 2 rfl;have x5:w2.cell? ⟨wr.heap.size,5,none⟩=some (.slice (fas 0).ua (u.fn 0).un (fas 0).uc):=(HA.out _ hb2).2.cell 5 rfl;have s0:=(q07 HB2.out).cell (i:=0) (by omega);have s1:=(q07 HB2.out).cell (i:=1) (by omega);have s2:=(q07 HB2.out).cell (i:=2) (by omega);have sz:=(q07 HB2.out).frozen;clear hb2)
       go_roundw
       case rel=>exact ⟨0+1,by omega,by go_num,fun j hj=>by
        by_cases e:j=0
        ·subst e;exact HG.out
        ·exact HH.out j (by omega),HB2⟩
       case measure=>simp[intOf];omega
      ·have qu:(((u.fn 0).un:Int) != 0)=true:=by simp;omega
       have HL:Hid (Least (Bad2 u) ⟨2,0,0⟩):=qn4 hkn HH.out fun h=>hu ((head_iff.1 h).2 rfl).2
       clear hh hp hu
       go_wp2_with (go_at_call 70;refine (q74 L (u.fn 0) (fas 0) _ (HS.out.fn 0 hkn) ((HTr.out.2 0 hkn).alloc _)).mono ?_;rw[hdb];rintro e w2 ⟨rfl,hb2⟩;have HB2:Hid (Below (fxW w u (some ⟨b,off,none⟩) cap).heap.size (fxW w u (some ⟨b,off,none⟩) cap) w2):=(HA.out _ hb2).1;have x2:w2.cell? ⟨wr.heap.size,2,none⟩=some (.int .i64 (u.fn 0).params):=(HA.out _ hb2).2.cell 2 rfl;have x5:w2.cell? ⟨wr.heap.size,5,none⟩=some (.slice (fas 0).ua (u.fn 0).un (fas 0).uc):=(HA.out _ hb2).2.cell 5 rfl;have s0:=(q07 HB2.out).cell (i:=0) (by omega);have s1:=(q07 HB2.out).cell (i:=1) (by omega);have s2:=(q07 HB2.out).cell (i:=2) (by omega);have sz:=(q07 HB2.out).frozen;clear hb2)
       refine bodyPost_ret (v:=ftV ⟨2,0,0⟩) (by simp[results,Tryz.results38,go_sem,s0,s1,s2]) rfl ?_
       exact FtPost.of HL.out (q46 (q17 HB2.out) _ _ _)
     ·have qp:((u.fn 0).params != 0)=true:=by simpa using hp
      have HL:Hid (Least (Bad2 u) ⟨2,0,0⟩):=qn4 hkn HH.out fun h=>hp ((head_iff.1 h).2 rfl).1
      clear hh hp
      go_wp2_with (go_at_call 70;refine (q74 L (u.fn 0) (fas 0) _ (HS.out.fn 0 hkn) ((HTr.out.2 0 hkn).alloc _)).mono ?_;rw[hdb];rintro e w2 ⟨rfl,hb2⟩;have HB2:Hid (Below (fxW w u (some ⟨b,off,none⟩) cap).heap.size (fxW w u (some ⟨b,off,none⟩) cap) w2):=(HA.out _ hb2).1;have x2:w2.cell? ⟨wr.heap.size,2,none⟩=some (.int .i64 (u.fn 0).params):=(HA.out _ hb2).2.cell 2 rfl;have x5:w2.cell? ⟨wr.heap.size,5,none⟩=some (.slice (fas 0).ua (u.fn 0).un (fas 0).uc):=(HA.out _ hb2).2.cell 5 rfl;have s0:=(q07 HB2.out).cell (i:=0) (by omega);have s1:=(q07 HB2.out).cell (i:=1) (by omega);have s2:=(q07 HB2.out).cell (i:=2) (by omega);have sz:=(q07 HB2.out).frozen;clear hb2)
      refine bodyPost_ret (v:=ftV ⟨2,0,0⟩) (by simp[results,Tryz.results38,go_sem,s0,s1,s2]) rfl ?_
      exact FtPost.of HL.out (q46 (q17 HB2.out) _ _ _)
    ·have hdb:dB (qe6 (u.fn 0))=false:=q19 hh
     have HL:Hid (Least (Bad2 u) ⟨2,0,0⟩):=qn4 hkn HH.out fun h=>hh (head_iff.1 h).1
     clear hh
     go_wp2_with (go_at_call 70;refine (q74 L (u.fn 0) (fas 0) _ (HS.out.fn 0 hkn) ((HTr.out.2 0 hkn).alloc _)).mono ?_;rw[hdb];rintro e w2 ⟨rfl,hb2⟩;have HB2:Hid (Below (fxW w u (some ⟨b,off,none⟩) cap).heap.size (fxW w u (some ⟨b,off,none⟩) cap) w2):=(HA.out _ hb2).1;have x2:w2.cell? ⟨wr.heap.size,2,none⟩=some (.int .i64 (u.fn 0).params):=(HA.out _ hb2).2.cell 2 rfl;have x5:w2.cell? ⟨wr.heap.size,5,none⟩=some (.slice (fas 0).ua (u.fn 0).un (fas 0).uc):=(HA.out _ hb2).2.cell 5 rfl;have s0:=(q07 HB2.out).cell (i:=0) (by omega);have s1:=(q07 HB2.out).cell (i:=1) (by omega);have s2:=(q07 HB2.out).cell (i:=2) (by omega);have sz:=(q07 HB2.out).frozen;clear hb2)
     refine bodyPost_ret (v:=ftV ⟨2,0,0⟩) (by simp[results,Tryz.results38,go_sem,s0,s1,s2]) rfl ?_
     exact FtPost.of HL.out (q46 (q17 HB2.out) _ _ _)
   ·have qk:((k:Int)==0)=false:=by simp;omega
    have HK0:Hid (k≠0):=hk0
    clear hk0
    have HA:Hid (∀ w2,Below (wr.alloc (.cells (fnC (u.fn k) (fas k)) 91)).heap.size (wr.alloc (.cells (fnC (u.fn k) (fas k)) 91)) w2->Below (fxW w u (some ⟨b,off,none⟩) cap).heap.size (fxW w u (some ⟨b,off,none⟩) cap) w2/\Has w2 wr.heap.size (fnC (u.fn k) (fas k))):=fun w2 h=>⟨q02 (q03 HB.out _) h,Has.made h⟩
    by_cases hh:qe6 (u.fn k)
    ·have hdb:dB (qe6 (u.fn k))=true:=q32 hh
     have HG:Hid (qg3 u k):=head_iff.2 ⟨hh,fun h=>absurd h HK0.out⟩
     clear hh
     go_wp2_with (go_at_call 70;refine (q74 L (u.fn k) (fas k) _ (HS.out.fn k hkn) ((HTr.out.2 k hkn).alloc _)).mono ?_;rw[hdb];rintro e w2 ⟨rfl,hb2⟩;have HB2:Hid (Below (fxW w u (some ⟨b,off,none⟩) cap).heap.size (fxW w u (some ⟨b,off,none⟩) cap) w2):=(HA.out _ hb2).1;have x2:w2.cell? ⟨wr.heap.size,2,none⟩=some (.int .i64 (u.fn k).params):=(HA.out _ hb2).2.cell 2 rfl;have x5:w2.cell? ⟨wr.heap.size,5,none⟩=some (.slice (fas k).ua (u.fn k).un (fas k).uc):=(HA.out _ hb2).2.cell 5 rfl;have s0:=(q07 HB2.out).cell (i:=0) (by omega);have s1:=(q07 HB2.out).cell (i:=1) (by omega);have s2:=(q07 HB2.out).cell (i:=2) (by omega);have sz:=(q07 HB2.out).frozen;clear hb2)
     go_roundw
     case rel=>exact ⟨k+1,by omega,by go_num,fun j hj=>by
      by_cases e:j=k
      ·subst e;exact HG.out
      ·exact HH.out j (by omega),HB2⟩
     case measure=>simp[intOf];omega
    ·have hdb:dB (qe6 (u.fn k))=false:=q19 hh
     have HL:Hid (Least (Bad2 u) ⟨2,k,0⟩):=qn4 hkn HH.out fun h=>hh (head_iff.1 h).1
     clear hh
     go_wp2_with (go_at_call 70;refine (q74 L (u.fn k) (fas k) _ (HS.out.fn k hkn) ((HTr.out.2 k hkn).alloc _)).mono ?_;rw[hdb];rintro e w2 ⟨rfl,hb2⟩;have HB2:Hid (Below (fxW w u (some ⟨b,off,none⟩) cap).heap.size (fxW w u (some ⟨b,off,none⟩) cap) w2):=(HA.out _ hb2).1;have x2:w2.cell? ⟨wr.heap.size,2,none⟩=some (.int .i64 (u.fn k).params):=(HA.out _ hb2).2.cell 2 rfl;have x5:w2.cell? ⟨wr.heap.size,5,none⟩=some (.slice (fas k).ua (u.fn k).un (fas k).uc):=(HA.out _ hb2).2.cell 5 rfl;have s0:=(q07 HB2.out).cell (i:=0) (by omega);have s1:=(q07 HB2.out).cell (i:=1) (by omega);have s2:=(q07 HB2.out).cell (i:=2) (by omega);have sz:=(q07 HB2.out).frozen;clear hb2)
     refine bodyPost_ret (v:=ftV ⟨2,k,0⟩) (by simp[results,Tryz.results38,go_sem,s0,s1,s2]) rfl ?_
     exact FtPost.of HL.out (q46 (q17 HB2.out) _ _ _)
  ·obtain rfl:k=u.n:=by omega
   have HL:Hid (Least (Bad2 u) ⟨0,0,0⟩):=yh4 HH.out
   have s0:=(q07 HB.out).cell (i:=0) (by omega)
   have s1:=(q07 HB.out).cell (i:=1) (by omega)
   have s2:=(q07 HB.out).cell (i:=2) (by omega)
   have sz:=(q07 HB.out).frozen
   go_wp2_with fail
   refine bodyPost_ret (v:=ftV ⟨0,0,0⟩) (by simp[results,Tryz.results38,go_sem,s0,s1,s2]) rfl ?_
   exact FtPost.of HL.out (q46 (q17 HB.out) _ _ _)
def qg8 (a b:Int):Int:=if a<b then -1 else if b<a then 1 else 0
theorem z97 (a:Int) (w:World):Calls Tryz.prog 156 #[.int .i64 a] w fun e w'=>e=.returned (.bool false)/\w'=w:=by
 go_enter Tryz.func156,Tryz.ntmps156
 go_wp2_with fail
 go_ret
 exact ⟨by simp,rfl⟩
theorem qu7 (a b:Int) (w:World):Calls Tryz.prog 122 #[.int .i64 a,.int .i64 b] w fun e w'=>e=.returned (.int .i64 (qg8 a b))/\w'=w:=by
 go_enter Tryz.func122,Tryz.ntmps122
 go_wp2_with (go_at_call 156;refine (z97 _ _).mono ?_;rintro e w1 ⟨rfl,rfl⟩)
 all_goals go_ret
 all_goals exact ⟨ye0 (by unfold qg8;(repeat split)<;>first|rfl|omega),rfl⟩
def or3 (x y z:Int):Int:=if x=0 then (if y=0 then z else y) else x
theorem zw4 (x y z:Int) (R:Nat) (w:World) (h0:w.cell? ⟨R,0,none⟩=some (.int .i64 x)) (h1:w.cell? ⟨R,1,none⟩=some (.int .i64 y)) (h2:w.cell? ⟨R,2,none⟩=some (.int .i64 z)):Calls Tryz.prog 121 #[.slice (some ⟨R,0,none⟩) 3 3] w fun e w'=>e=.returned (.int .i64 (or3 x y z))/\w'=w:=by
 by_cases c0:x=0
 ·by_cases c1:y=0
  ·by_cases c2:z=0
   ·subst c0 c1 c2
    go_enter Tryz.func121,Tryz.ntmps121
    go_wp2_with fail
    refine wp_loop_rounds 4 ?_
    rw[rounds_succ];go_wp2_with fail
    rw[rounds_succ];go_wp2_with fail
    rw[rounds_succ];go_wp2_with fail
    rw[rounds_succ];go_wp2_with fail
    go_ret
    exact ⟨rfl,rfl⟩
   ·have q2:(z != 0)=true:=by simpa using c2
    subst c0 c1
    go_enter Tryz.func121,Tryz.ntmps121
    go_wp2_with fail
    refine wp_loop_rounds 3 ?_
    rw[rounds_succ];go_wp2_with fail
    rw[rounds_succ];go_wp2_with fail
    rw[rounds_succ];go_wp2_with fail
    go_ret
    exact ⟨rfl,rfl⟩
  ·have q1:(y != 0)=true:=by simpa using c1
   have hv:or3 x y z=y:=by unfold or3;rw[if_pos c0,if_neg c1]
   rw[hv]
   subst c0
   go_enter Tryz.func121,Tryz.ntmps121
   go_wp2_with fail
   refine wp_loop_rounds 2 ?_
   rw[rounds_succ];go_wp2_with fail
   rw[rounds_succ];go_wp2_with fail
   go_ret
   exact ⟨rfl,rfl⟩
 ·have q0:(x != 0)=true:=by simpa using c0
  have hv:or3 x y z=x:=by unfold or3;rw[if_neg c0]
  rw[hv]
  go_enter Tryz.func121,Tryz.ntmps121
  go_wp2_with fail
  refine wp_loop_rounds 1 ?_
  rw[rounds_succ];go_wp2_with fail
  go_ret
  exact ⟨rfl,rfl⟩
theorem y19 (a b:FT):0<or3 (qg8 a.c b.c) (qg8 a.f b.f) (qg8 a.n b.n)↔¬a.le b:=by
 unfold or3 qg8 FT.le
 (repeat split)<;>omega
abbrev f2W (w:World) (a b:FT):World:=((w.alloc (.cells #[.int .i64 (a.c:Int),.int .i64 (a.f:Int),.int .i64 (a.n:Int)] 60)).alloc (.cells #[.int .i64 (b.c:Int),.int .i64 (b.f:Int),.int .i64 (b.n:Int)] 60)).alloc (.cells #[.int .i64 0,.int .i64 0,.int .i64 0] 60)
abbrev F2S (B ac af an bc bf bn:Nat) (w':World):Prop:=w'.cell? ⟨B,0,none⟩=some (.int .i64 (ac:Int))/\w'.cell? ⟨B,1,none⟩=some (.int .i64 (af:Int))/\w'.cell? ⟨B,2,none⟩=some (.int .i64 (an:Int))/\w'.cell? ⟨B+1,0,none⟩=some (.int .i64 (bc:Int))/\w'.cell? ⟨B+1,1,none⟩=some (.int .i64 (bf:Int))/\w'.cell? ⟨B+1,2,none⟩=some (.int .i64 (bn:Int))
theorem zm6 {w wr:World} {a b:FT} (h:Below (f2W w a b).heap.size (f2W w a b) wr):Below w.heap.size w wr:=q02 (q39 w _ _ _) h
theorem zm5 {w wr:World} {ac af an bc bf bn:Nat} (h:Below (f2W w ⟨ac,af,an⟩ ⟨bc,bf,bn⟩).heap.size (f2W w ⟨ac,af,an⟩ ⟨bc,bf,bn⟩) wr):F2S w.heap.size ac af an bc bf bn wr:=by
 have h1:Has wr w.heap.size #[.int .i64 (ac:Int),.int .i64 (af:Int),.int .i64 (an:Int)]:=(((Has.new w _ _).alloc _).alloc _).call h
 have h2:Has wr (w.heap.size+1) #[.int .i64 (bc:Int),.int .i64 (bf:Int),.int .i64 (bn:Int)]:=by
  have:=((Has.new (w.alloc (.cells #[.int .i64 (ac:Int),.int .i64 (af:Int),.int .i64 (an:Int)] 60)) #[.int .i64 (bc:Int),.int .i64 (bf:Int),.int .i64 (bn:Int)] 60).alloc (.cells #[.int .i64 0,.int .i64 0,.int .i64 0] 60)).call h
  simpa using this
 exact ⟨h1.cell 0 rfl,h1.cell 1 rfl,h1.cell 2 rfl,h2.cell 0 rfl,h2.cell 1 rfl,h2.cell 2 rfl⟩
theorem zm4 {w wr:World} {a b:FT} (h:Below (f2W w a b).heap.size (f2W w a b) wr):wr.rowIs (w.heap.size+1 + 1) 60 3 (fun _=>.int .i64 0):=by
 have h1:=World.rowIs_alloc ((w.alloc (.cells #[.int .i64 (a.c:Int),.int .i64 (a.f:Int),.int .i64 (a.n:Int)] 60)).alloc (.cells #[.int .i64 (b.c:Int),.int .i64 (b.f:Int),.int .i64 (b.n:Int)] 60)) #[.int .i64 0,.int .i64 0,.int .i64 0] 60 (fun _=>.int .i64 0) (fun i hi=>by
  have:i=0\/i=1\/i=2:=by simp at hi;omega
  rcases this with rfl|rfl|rfl<;>rfl)
 have h2:=h1.of_block (h.block _ h1.lt)
 simpa using h2
theorem qc5 (a b:FT) (w:World):Calls Tryz.prog 75 #[ftV a,ftV b] w fun e w'=>e=.returned (ftV (qe0 a b))/\Below w.heap.size w w':=by
 obtain ⟨ac,af,an⟩:=a
 obtain ⟨bc,bf,bn⟩:=b
 go_enter Tryz.func75,Tryz.ntmps75
 go_upto_region 1 with fail
 obtain ⟨w3,HB,hw3⟩:∃ w3,Hid (Below (f2W w ⟨ac,af,an⟩ ⟨bc,bf,bn⟩).heap.size (f2W w ⟨ac,af,an⟩ ⟨bc,bf,bn⟩) w3)/\f2W w ⟨ac,af,an⟩ ⟨bc,bf,bn⟩=w3:=⟨_,Below.refl _ _,rfl⟩
 simp only[f2W] at hw3
 rw[hw3]
 clear hw3
 have HS:Hid (∀ W,Below w3.heap.size w3 W->F2S w.heap.size ac af an bc bf bn W):=fun W hW=>zm5 (q02 HB.out hW)
 have HBw:Hid (Below w.heap.size w w3):=zm6 HB.out
 go_region_held3 (fun w'=>w'.cell? ⟨w.heap.size,0,none⟩=some (.int .i64 (ac:Int))/\w'.cell? ⟨w.heap.size,1,none⟩=some (.int .i64 (af:Int))/\w'.cell? ⟨w.heap.size,2,none⟩=some (.int .i64 (an:Int))/\w'.cell? ⟨w.heap.size+1,0,none⟩=some (.int .i64 (bc:Int))/\w'.cell? ⟨w.heap.size+1,1,none⟩=some (.int .i64 (bf:Int))/\w'.cell? ⟨w.heap.size+1,2,none⟩=some (.int .i64 (bn:Int))) (first|(with_reducible exact HS.out _ (Below.refl _ _))|(with_reducible exact HS.out _ (q01 _ _))|(with_reducible exact HS.out _ (Below.refl _ _).drew)|(with_reducible exact HS.out _ (q01 _ _).drew)) (first|(go_at_call 122;refine (qu7 _ _ _).mono ?_;rintro e w1 ⟨rfl,rfl⟩)|(go_at_call 121;refine (zw4 (qg8 (ac:Int) (bc:Int)) (qg8 (af:Int) (bf:Int)) (qg8 (an:Int) (bn:Int)) _ _ (by simp) (by simp) (by simp)).mono ?_;rintro e w1 ⟨rfl,rfl⟩))
 obtain ⟨w4,hw4⟩:∃ w4,w4=(w3.alloc (.cells #[.int .i64 (qg8 (ac:Int) (bc:Int)),.int .i64 (qg8 (af:Int) (bf:Int)),.int .i64 (qg8 (an:Int) (bn:Int))] 3)).drew:=⟨_,rfl⟩
 have HB4:Hid (Below (f2W w ⟨ac,af,an⟩ ⟨bc,bf,bn⟩).heap.size (f2W w ⟨ac,af,an⟩ ⟨bc,bf,bn⟩) w4):=by show Below _ _ _;rw[hw4];exact (q03 HB.out _).drew
 rw[<-hw4]
 clear hw4 HB HBw
 have HB4w:Hid (Below w.heap.size w w4):=zm6 HB4.out
 obtain ⟨a0,a1,a2,b0,b1,b2⟩:=zm5 HB4.out
 have s0:=(zm4 HB4.out).cell (i:=0) (by omega)
 have s1:=(zm4 HB4.out).cell (i:=1) (by omega)
 have s2:=(zm4 HB4.out).cell (i:=2) (by omega)
 have sz:=(zm4 HB4.out).frozen
 by_cases c0:ac=0
 ·subst c0
  go_wp2_with fail
  refine bodyPost_ret (v:=ftV ⟨bc,bf,bn⟩) (by simp[results,Tryz.results75,go_sem,s0,s1,s2]) rfl ?_
  refine ⟨?_,frS (frS (frS HB4w.out (Nat.le_add_right _ 2) _) (Nat.le_add_right _ 2) _) (Nat.le_add_right _ 2) _⟩
  exact z00 (by unfold qe0;rw[if_pos rfl])
 ·have q0:((ac:Int)==0)=false:=by simp;omega
  by_cases c1:bc=0
  ·subst c1
   go_wp2_with fail
   refine bodyPost_ret (v:=ftV ⟨ac,af,an⟩) (by simp[results,Tryz.results75,go_sem,s0,s1,s2]) rfl ?_
   refine ⟨?_,frS (frS (frS HB4w.out (Nat.le_add_right _ 2) _) (Nat.le_add_right _ 2) _) (Nat.le_add_right _ 2) _⟩
   exact z00 (by unfold qe0;rw[if_neg c0,if_neg (fun h=>h.1 rfl)])
  ·have q1:((bc:Int) != 0)=true:=by simp;omega
   have hle:=y19 ⟨ac,af,an⟩ ⟨bc,bf,bn⟩
   by_cases c2:0<or3 (qg8 (ac:Int) (bc:Int)) (qg8 (af:Int) (bf:Int)) (qg8 (an:Int) (bn:Int))
   ·have HV:Hid (qe0 ⟨ac,af,an⟩ ⟨bc,bf,bn⟩=⟨bc,bf,bn⟩):=by show _=_;unfold qe0;rw[if_neg c0,if_pos ⟨c1,hle.1 c2⟩]
    clear hle
    go_wp2_with fail
    refine bodyPost_ret (v:=ftV ⟨bc,bf,bn⟩) (by simp[results,Tryz.results75,go_sem,s0,s1,s2]) rfl ?_
    refine ⟨?_,frS (frS (frS HB4w.out (Nat.le_add_right _ 2) _) (Nat.le_add_right _ 2) _) (Nat.le_add_right _ 2) _⟩
    exact z00 (by rw[HV.out])
   ·have HV:Hid (qe0 ⟨ac,af,an⟩ ⟨bc,bf,bn⟩=⟨ac,af,an⟩):=by show _=_;unfold qe0;rw[if_neg c0,if_neg (fun h=>c2 (hle.2 h.2))]
    clear hle
    go_wp2_with fail
    refine bodyPost_ret (v:=ftV ⟨ac,af,an⟩) (by simp[results,Tryz.results75,go_sem,s0,s1,s2]) rfl ?_
    refine ⟨?_,frS (frS (frS HB4w.out (Nat.le_add_right _ 2) _) (Nat.le_add_right _ 2) _) (Nat.le_add_right _ 2) _⟩
    exact z00 (by rw[HV.out])
theorem ql7 (B o n cap:Nat) (p:Nat->Bool) (w:World) (hn:n<=1048576) (hT:∀ i,i<n->w.cell? ⟨B,o+i,none⟩=some (.bool (p i))) :
  Calls Tryz.prog 137 #[.slice (some ⟨B,o,none⟩) n cap,.bool false] w fun e w'=>(∃ r:Int,e=.returned (.int .i64 r)/\((r = -1/\∀ i,i<n->p i=true)\/∃ i:Nat,r=i/\i<n/\p i=false/\∀ j,j<i->p j=true))/\w'=w:=by
 have HT:Hid (∀ i,i<n->w.cell? ⟨B,o+i,none⟩=some (.bool (p i))):=hT
 clear hT
 go_enter Tryz.func137,Tryz.ntmps137
 go_wp2_with fail
 go_loopw [8] (fun i wr=>∃ (k:Nat),k<=n/\i=.int .i64 k/\Hid (∀ j,j<k->p j=true)/\wr=w) (fun i _=>n-(intOf i).toNat)
 case atStart=>exact ⟨0,Nat.zero_le _,rfl,fun j hj=>by omega,rfl⟩
 case round=>
  obtain ⟨k,hk,rfl,HK,rfl⟩:=hrel
  by_cases hkn:k<n
  ·have d0:=HT.out k hkn
   cases hp:p k
   ·rw[hp] at d0
    go_wp2_with fail
    go_ret
    exact ⟨⟨_,rfl,.inr ⟨k,rfl,hkn,hp,HK.out⟩⟩,rfl⟩
   ·rw[hp] at d0
    have HP:Hid (p k=true):=hp
    go_wp2_with fail
    go_roundw
    case rel=>exact ⟨k+1,by omega,by go_num,fun j hj=>by
     by_cases e:j=k
     ·subst e;exact HP.out
     ·exact HK.out j (by omega),by first|rfl|trivial⟩
    case measure=>simp[intOf];omega
  ·go_wp2_with fail
   go_ret
   exact ⟨⟨_,rfl,.inl ⟨rfl,fun i hi=>HK.out i (by omega)⟩⟩,rfl⟩
theorem zg2 {u:UD} {f n:Nat} (hf:f<u.n) (hn:n<(u.fn f).nn) (h3:∀ f',f'<f->∀ n',n'<(u.fn f').nn->¬q54 u f' n') (h4:∀ n',n'<n->¬q54 u f n') (h5:q54 u f n):Least (qv1 u) ⟨8,f,n⟩:=
 Least.ahead (At2.least (N:=fun f=>(u.fn f).nn) (bad:=q54 u) (by decide) h3 h4 hf hn h5) (by show (8:Nat)≠0;decide) fun y hy=>by
  show 8<y.c
  rw[hy.1];decide
theorem zp4 {u:UD} {f:Nat} (hf:f<u.n) (h1:1<=f) (h8:∀ f',f'<u.n->∀ n',n'<(u.fn f').nn->¬q54 u f' n') (h3:∀ f',1<=f'->f'<f->∃ g x,ql0 u g x f') (h5:¬∃ g x,ql0 u g x f):Least (qv1 u) ⟨9,f,0⟩:=
 Least.behind (fun y hy=>h8 _ hy.2.1 _ hy.2.2.1 hy.2.2.2) (.inr ⟨by show (0:Nat)<9;decide,⟨rfl,rfl,h1,hf,h5⟩,fun y hy=>.inr ⟨hy.1.symm,by
  show f<y.f\/f=y.f/\0<=y.n
  by_cases e:y.f<f
  ·exact absurd (h3 _ hy.2.2.1 e) hy.2.2.2.2
  ·omega⟩⟩)
theorem qw2 {u:UD} (h8:∀ f',f'<u.n->∀ n',n'<(u.fn f').nn->¬q54 u f' n') (h9:∀ f',1<=f'->f'<u.n->∃ g x,ql0 u g x f'):Least (qv1 u) ft0:=
 Least.zero fun y hy=>by
  rcases hy with hy|hy
  ·exact h8 _ hy.2.1 _ hy.2.2.1 hy.2.2.2
  ·exact hy.2.2.2.2 (h9 _ hy.2.2.1 hy.2.2.2.1)
theorem ye8 {w:World} {M:Nat} {u:UD} {f x:Nat} (hf:f<u.n) (hx:x<(u.fn f).nn) (h:MadeRow w M u f x) (hk:¬InR (((u.fn f).nd x).r 0) u.n):MadeRow w M u f (x+1):=(World.rowIs.congr h fun i hi=>by
 have e:q21 u f (x+1) i↔q21 u f x i:=by
  rw[qd4 hf hx]
  exact ⟨fun h=>h.elim id fun h=>absurd (⟨by omega,by omega⟩:InR (((u.fn f).nd x).r 0) u.n) hk,.inl⟩
 by_cases c:q21 u f x i
 ·rw[q32 c,q32 (e.2 c)]
 ·rw[q19 c,q19 fun c'=>c (e.1 c')])
theorem qm3 (L:Nat) (u:UD) (a:Option Addr) (cap:Nat) (fas:Nat->FA) (w:World) (hs:u.sm) (h3:U3 u) (hT:FnsAt L w u.n u.fn a fas) :
  Calls Tryz.prog 78 #[unV u a cap] w fun e w'=>FtPost (qv1 u) w e w':=by
 have HT:Hid (FnsAt L w u.n u.fn a fas):=hT
 have HS:Hid u.sm:=hs
 have H3:Hid (U3 u):=h3
 have hun:=h3.size.2.1
 have hun1:=h3.size.1
 obtain ⟨b,off,e0,_,hb,_⟩:=cells7 hT.1 (show 0<u.n from h3.size.1)
 subst e0
 clear hT hs h3
 have hmk:=fun v=>run_make_row' (P:=Tryz.prog) 212 4 (.bool false) 1 Tryz.underlying212 zl8 rfl .i64 .i64 u.n (by omega) (by omega) v
 go_enter Tryz.func78,Tryz.ntmps78
 go_wp2_with fail
 clear hmk
 obtain ⟨w3,hw3⟩:∃ w3,w3=(fxW w u (some ⟨b,off,none⟩) cap).alloc (.cells (madeCells #[.bool false] u.n) 4):=⟨_,rfl⟩
 have HBm:Hid (Below (fxW w u (some ⟨b,off,none⟩) cap).heap.size (fxW w u (some ⟨b,off,none⟩) cap) w3):=by show Below _ _ _;rw[hw3];exact q01 _ _
 have HR3:Hid (MadeRow w3 (w.heap.size+1 + 1) u 0 0):=by
  show World.rowIs _ _ _ _ _
  rw[hw3]
  exact (qo6 _ _ _ (by simp)).congr fun i _=>by rw[q19 zx7]
 simp only[fxW] at hw3
 rw[<-hw3]
 clear hw3
 have hfm:(fxW w u (some ⟨b,off,none⟩) cap).heap.size<=w.heap.size+1 + 1:=by simp
 have hm3:w.heap.size+1 + 1<w3.heap.size:=World.rowIs.lt HR3.out
 go_loopw [16] (fun i wr=>∃ (k:Nat),k<=u.n/\i=.int .i64 k/\Hid (∀ f',f'<k->∀ n',n'<(u.fn f').nn->¬q54 u f' n')/\Hid (Below (w.heap.size+1 + 1) w3 wr)/\Hid (MadeRow wr (w.heap.size+1 + 1) u k 0)) (fun i _=>u.n-(intOf i).toNat)
 case atStart=>exact ⟨0,Nat.zero_le _,rfl,fun f' hf'=>by omega,Below.refl _ _,HR3⟩
 case round=>
  clear HR3
  obtain ⟨k,hk,rfl,H8,HW,HM⟩:=hrel
  have HB:Hid (Below (fxW w u (some ⟨b,off,none⟩) cap).heap.size (fxW w u (some ⟨b,off,none⟩) cap) wr):=HBm.out.trans (HW.out.mono hfm)
  by_cases hkn:k<u.n
  ·have HTr:Hid (FnsAt L wr u.n u.fn (some ⟨b,off,none⟩) fas):=HT.out.below (q17 HB.out)
   obtain ⟨b',off',e0,_,hbz,d0,d1,d2,d3,d4,d5,d6⟩:=cells7 HTr.out.1 hkn
   obtain ⟨rfl,rfl⟩:b=b'/\off=off':=by simpa using e0
   clear e0
   have hnn:=H3.out.nn hkn
   have hMw:w.heap.size+1 + 1<wr.heap.size:=Nat.lt_of_lt_of_le hm3 HW.out.size
   rename World=>wa
   go_wp2_with fail
   clear d0 d1 d2 d3 d4 d5 d6
   have HW1:Hid (Below (w.heap.size+1 + 1) w3 (wa.alloc (.cells (fnC (u.fn k) (fas k)) 91))):=HW.out.alloc (by omega) _
   have HM1:Hid (MadeRow (wa.alloc (.cells (fnC (u.fn k) (fas k)) 91)) (w.heap.size+1 + 1) u k 0):=HM.out.below (q01 _ _)
   clear HB HTr HW HM
   go_loopw [24] (fun i wr=>∃ (m:Nat),m<=(u.fn k).nn/\i=.int .i64 m/\Hid (∀ n',n'<m->¬q54 u k n')/\Hid (Below (w.heap.size+1 + 1) w3 wr)/\Hid (MadeRow wr (w.heap.size+1 + 1) u k m)) (fun i _=>(u.fn k).nn-(intOf i).toNat)
   case atStart=>exact ⟨0,Nat.zero_le _,rfl,fun f' hf'=>by omega,HW1,HM1⟩
   case round=>
    clear HW1 HM1
    obtain ⟨m,hm,rfl,HN,HW,HM⟩:=hrel
    have HB:Hid (Below (fxW w u (some ⟨b,off,none⟩) cap).heap.size (fxW w u (some ⟨b,off,none⟩) cap) wr):=HBm.out.trans (HW.out.mono hfm)
    by_cases hmn:m<(u.fn k).nn
    ·have HTr:Hid (FnsAt L wr u.n u.fn (some ⟨b,off,none⟩) fas):=HT.out.below (q17 HB.out)
     have hMw2:w.heap.size+1 + 1<wr.heap.size:=World.rowIs.lt HM.out
     obtain ⟨b2,o2,e2,_,hb2,g0,g1,g2,g3,g4,g5,g6,g7⟩:=cells8 (HTr.out.2 k hkn).2.2.1 hmn
     rw[e2]
     clear e2
     have HWn:Hid (Below (w.heap.size+1 + 1) w3 (wr.alloc (.cells (q24 ((u.fn k).nd m) ((fas k).nas m)) 51))):=HW.out.alloc (by omega) _
     have s0:=(q07 HB.out).cell (i:=0) (by omega)
     have s1:=(q07 HB.out).cell (i:=1) (by omega)
     have s2:=(q07 HB.out).cell (i:=2) (by omega)
     have sz:=(q07 HB.out).frozen
     have hrz:w.heap.size+1<wr.heap.size:=(q07 HB.out).lt
     by_cases h36:((u.fn k).nd m).k=36
     ·have q36:(((u.fn k).nd m).k != 36)=false:=by rw[h36];rfl
      have hrn:=(H3.out.facts hkn hmn).one (.inr (.inr (.inl h36)))
      obtain ⟨b3,o3,e3,_,hb3,r0⟩:=cells1 ((HTr.out.2 k hkn).2.2.2 m hmn).1 (show 0<((u.fn k).nd m).rn by omega)
      rw[e3,hrn] at g6
      rw[Nat.add_zero] at r0
      have hcell:q24 ((u.fn k).nd m) ((fas k).nas m)=zx3 ((u.fn k).nd m) (some ⟨b3,o3,none⟩) 1 ((fas k).nas m):=by
       show #[_,_,_,_,_,_,_,_] = #[_,_,_,_,_,_,_,_]
       rw[e3,hrn]
      have HCL:Hid (q24 ((u.fn k).nd m) ((fas k).nas m)=zx3 ((u.fn k).nd m) (some ⟨b3,o3,none⟩) 1 ((fas k).nas m)):=hcell
      clear hcell hrn e3
      have H36:Hid (((u.fn k).nd m).k=36):=h36
      clear h36
      by_cases hin:InR (((u.fn k).nd m).r 0) u.n
      ·obtain ⟨g,hg⟩:∃ g:Nat,((u.fn k).nd m).r 0=g:=⟨(((u.fn k).nd m).r 0).toNat,by have:=hin.1;omega⟩
       have hgn:g<u.n:=by have:=hin.2;omega
       have HI:Hid (InR (((u.fn k).nd m).r 0) u.n):=hin
       have HG:Hid (((u.fn k).nd m).r 0=g):=hg
       rw[hg] at r0
       have hw:wiB (g:Int) (u.n:Int)=true:=by unfold wiB;simp;omega
       clear hin hg
       have m0:=World.rowIs.cell HM.out (i:=g) hgn
       have mz:=World.rowIs.frozen HM.out
       by_cases c2:q21 u k m g
       ·have HL:Hid (Least (qv1 u) ⟨8,k,m⟩):=zg2 hkn hmn H8.out HN.out ⟨H36.out,HI.out,by rw[HG.out];exact c2⟩
        rw[q32 c2] at m0
        clear c2
        go_wp2_with (go_at_call 136;refine (q13 _ _ _).mono ?_;rw[hw];rintro e w1 ⟨rfl,rfl⟩)
        refine bodyPost_ret (v:=ftV ⟨8,k,m⟩) (by simp[results,Tryz.results78,go_sem,s0,s1,s2,hrz]) rfl ?_
        exact FtPost.of HL.out (q03 (q46 (q17 HB.out) _ _ _) _)
       ·have HT2:Hid (¬q54 u k m):=fun h=>c2 (by have:=h.2.2;rw[HG.out] at this;exact this)
        rw[q19 c2] at m0
        clear c2
        have HMn:Hid (MadeRow ((wr.setCell ⟨w.heap.size+1 + 1,g,none⟩ (.bool true)).alloc (.cells (zx3 ((u.fn k).nd m) (some ⟨b3,o3,none⟩) 1 ((fas k).nas m)) 51)) (w.heap.size+1 + 1) u k (m+1)):=(MadeRow.set hkn hmn HM.out H36.out HG.out).below (q01 _ _)
        have HWs:Hid (Below (w.heap.size+1 + 1) w3 ((wr.setCell ⟨w.heap.size+1 + 1,g,none⟩ (.bool true)).alloc (.cells (zx3 ((u.fn k).nd m) (some ⟨b3,o3,none⟩) 1 ((fas k).nas m)) 51))):=(frS HW.out (Nat.le_refl _) _).alloc (by simp;omega) _
        go_wp2_with (go_at_call 136;refine (q13 _ _ _).mono ?_;rw[hw];rintro e w1 ⟨rfl,rfl⟩)
        go_roundw
        case rel=>exact ⟨m+1,by omega,by go_num,fun j hj=>by
         by_cases e:j=m
         ·subst e;exact HT2.out
         ·exact HN.out j (by omega),HWs,HMn⟩
        case measure=>simp[intOf];omega
      ·have hw:wiB (((u.fn k).nd m).r 0) (u.n:Int)=false:=by unfold wiB;unfold InR at hin;simp;omega
       have HT2:Hid (¬q54 u k m):=fun h=>hin h.2.1
       have HMn:Hid (MadeRow (wr.alloc (.cells (zx3 ((u.fn k).nd m) (some ⟨b3,o3,none⟩) 1 ((fas k).nas m)) 51)) (w.heap.size+1 + 1) u k (m+1)):=(ye8 hkn hmn HM.out hin).below (q01 _ _)
       rw[HCL.out] at HWn
       clear hin
       go_wp2_with (go_at_call 136;refine (q13 _ _ _).mono ?_;rw[hw];rintro e w1 ⟨rfl,rfl⟩)
       go_roundw
       case rel=>exact ⟨m+1,by omega,by go_num,fun j hj=>by
        by_cases e:j=m
        ·subst e;exact HT2.out
        ·exact HN.out j (by omega),HWn,HMn⟩
       case measure=>simp[intOf];omega
     ·have q36:(((u.fn k).nd m).k != 36)=true:=by simpa using h36
      have HT2:Hid (¬q54 u k m):=fun h=>h36 h.1
      have HMn:Hid (MadeRow (wr.alloc (.cells (q24 ((u.fn k).nd m) ((fas k).nas m)) 51)) (w.heap.size+1 + 1) u k (m+1)):=(HM.out.skip hkn hmn h36).below (q01 _ _)
      clear h36
      go_wp2_with fail
      go_roundw
      case rel=>exact ⟨m+1,by omega,by go_num,fun j hj=>by
       by_cases e:j=m
       ·subst e;exact HT2.out
       ·exact HN.out j (by omega),HWn,HMn⟩
      case measure=>simp[intOf];omega
    ·obtain rfl:m=(u.fn k).nn:=by omega
     have HM2:Hid (MadeRow wr (w.heap.size+1 + 1) u (k+1) 0):=HM.out.congr fun v=>made_next.symm
     go_wp2_with fail
     go_roundw
     case rel=>exact ⟨k+1,by omega,by go_num,fun j hj=>by
      by_cases e:j=k
      ·subst e;exact HN.out
      ·exact H8.out j (by omega),HW,HM2⟩
     case measure=>simp[intOf];omega
  ·obtain rfl:k=u.n:=by omega
   have s0:=(q07 HB.out).cell (i:=0) (by omega)
   have s1:=(q07 HB.out).cell (i:=1) (by omega)
   have s2:=(q07 HB.out).cell (i:=2) (by omega)
   have sz:=(q07 HB.out).frozen
   have hrz:w.heap.size+1<wr.heap.size:=(q07 HB.out).lt
   have HC:Hid (∀ i,i<u.n-1->wr.cell? ⟨w.heap.size+1 + 1,1+i,none⟩=some (.bool (dB (q21 u u.n 0 ((1+i:Nat):Int))))):=fun i hi=>World.rowIs.cell HM.out (i:=1+i) (by omega)
   have hsub:u.n-1<=1048576:=by omega
   have H8a:Hid (∀ f',f'<u.n->∀ n',n'<(u.fn f').nn->¬q54 u f' n'):=H8.out
   by_cases h1n:u.n=1
   ·have HL:Hid (Least (qv1 u) ft0):=qw2 H8a.out fun f' a b=>by omega
    go_wp2_with fail
    all_goals first
     |(refine (ql7 (w.heap.size+1 + 1) 0 0 0 (fun _=>true) wr (by omega) (fun i hi=>by omega)).mono ?_)
     |omega
    rintro e w1 ⟨⟨r,rfl,hr⟩,rfl⟩
    rcases hr with ⟨rfl,_⟩|⟨i,rfl,hin,_⟩
    ·go_wp2_with fail
     refine bodyPost_ret (v:=ftV ft0) (by simp[results,Tryz.results78,go_sem,s0,s1,s2]) rfl ?_
     exact FtPost.of HL.out (q46 (q17 HB.out) _ _ _)
    ·omega
   ·go_wp2_with fail
    all_goals first
     |(refine (ql7 (w.heap.size+1 + 1) 1 (u.n-1) (u.n-1) (fun i=>dB (q21 u u.n 0 ((1+i:Nat):Int))) wr hsub HC.out).mono ?_)
     |omega
    rintro e w1 ⟨⟨r,rfl,hr⟩,rfl⟩
    rcases hr with ⟨rfl,ha⟩|⟨i,rfl,hin,hpi,hbe⟩
    ·have HL:Hid (Least (qv1 u) ft0):=qw2 H8a.out fun f' a b=>by
      have:dB (q21 u u.n 0 ((1+(f'-1):Nat):Int))=true:=ha (f'-1) (by omega)
      rw[show 1+(f'-1)=f' by omega] at this
      exact made_all.1 (dB_iff.1 this)
     clear ha
     go_wp2_with fail
     refine bodyPost_ret (v:=ftV ft0) (by simp[results,Tryz.results78,go_sem,s0,s1,s2]) rfl ?_
     exact FtPost.of HL.out (q46 (q17 HB.out) _ _ _)
    ·have HL:Hid (Least (qv1 u) ⟨9,1+i,0⟩):=zp4 (by omega) (by omega) H8a.out (fun f' a b=>by
      have:dB (q21 u u.n 0 ((1+(f'-1):Nat):Int))=true:=hbe (f'-1) (by omega)
      rw[show 1+(f'-1)=f' by omega] at this
      exact made_all.1 (dB_iff.1 this)) (fun h=>by
      have hpj:dB (q21 u u.n 0 ((1+i:Nat):Int))=false:=hpi
      rw[q32 (made_all.2 h)] at hpj
      cases hpj)
     clear hbe hpi
     go_wp2_with fail
     refine bodyPost_ret (v:=ftV ⟨9,1+i,0⟩) (by simp[results,Tryz.results78,go_sem,s0,s1,s2];omega) rfl ?_
     exact FtPost.of HL.out (q46 (q17 HB.out) _ _ _)
end Go.Proofs.YtaimofjekgnieaaGreatDoor
