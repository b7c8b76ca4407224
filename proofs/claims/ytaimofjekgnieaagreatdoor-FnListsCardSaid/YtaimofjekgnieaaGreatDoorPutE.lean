import Derived.Test.YtaimofjekgnieaaGreatDoorPutA
import Derived.Lib.SliceRun
set_option maxRecDepth 100000
set_option maxHeartbeats 16000000
namespace Go.Proofs.YtaimofjekgnieaaGreatDoor
open Go.RowKit
attribute [local go_sem] q00
attribute [local go_sem ↓] Go.wp_at_zero Go.wp_at_succ
def addP (q:Nat->PD) (n:Nat) (p:PD):Nat->PD:=fun j=>if j=n then p else q j
theorem CO.new {N:Nat} {w:World} {X:Nat} {a:Option Addr} {n cap B:Nat} {t:Int} {q:Nat->PD} {L:List (Mk×Nat)} (hN:N<=w.heap.size) (hX:XO N w X a n cap B t q L) (y v:VD):CO N w X a n cap B t q L w.heap.size (w.heap.size+1) y v ((w.alloc (.cells (vCs y) 113)).alloc (.cells (vCs v) 113)):=by
 have h1:=Has.new w (vCs y) 113
 have h2:=Has.new (w.alloc (.cells (vCs y) 113)) (vCs v) 113
 rw[World.size_alloc] at h2
 exact ⟨(hX.alloc _).alloc _,h1.alloc _,h2,((Below.refl N w).alloc hN _).alloc (by rw[World.size_alloc];omega) _,hN,fun b off sp e=>by have:=ya3 hX.own e;simp at this;omega,fun o _=>by
  have hlt:=hX.lt
  rw[World.cell?_alloc_past _ _ _ (by simp;omega),World.cell?_alloc_past _ _ _ hlt],fun k hk _ _ _=>by
  rw[Below.heap_alloc _ _ _ (by simp;omega),Below.heap_alloc _ _ _ hk]⟩
theorem zk4 (N X:Nat) (a:Option Addr) (n cap B:Nat) (t:Int) (q:Nat->PD) (L:List (Mk×Nat)) (y v:VD) (w:World) (hN:N<=w.heap.size) (hn:n<=500) (t0:0<=t) (hL:∀ u,MapIs u B L->(Instr.lookup 236 (.map (some B)) (mkV (mk y)) true).run Tryz.prog u=.ok (.tuple #[.int .i64 0,.bool false]) u) (hX:XO N w X a n cap B t q L) :
  Calls Tryz.prog 257 #[.pointer (some ⟨X,0,none⟩),y.v,v.v] w fun e w'=>e=.returned (.tuple #[])/\(if v.k=0\/¬(n<500/\t<1000000000000) then ∃ L',XO N w' X a n cap B t q L' else ∃ a' cap',XO N w' X a' (n+1) cap' B (t+1) (addP q n ⟨y,v,t+1⟩) (upd L (mk y) n)/\y26 w a a')/\Below N w w'/\(∀ o,3<=o->w'.cell? ⟨X,o,none⟩=w.cell? ⟨X,o,none⟩)/\FrX w w' X B (Value.slice a n cap).ownBlock:=by
 have hC:CO N w X a n cap B t q L w.heap.size (w.heap.size+1) y v ((w.alloc (.cells (vCs y) 113)).alloc (.cells (vCs v) 113)):=CO.new hN hX y v
 have HM:Hid (∀ w,Calls Tryz.prog 181 #[y.v] w fun e w'=>e=.returned (mkV (mk y))/\Below w.heap.size w w'):=fun w=>qd3 y w
 have HL:Hid (∀ u,MapIs u B L->(Instr.lookup 236 (.map (some B)) (mkV (mk y)) true).run Tryz.prog u=.ok (.tuple #[.int .i64 0,.bool false]) u):=fun u h=>hL u h
 obtain ⟨m,HE⟩:∃ m,Hid (mk y=m):=⟨_,rfl⟩
 rw[HE.out] at HM HL ⊢
 clear hX hN hL
 go_enter Tryz.func257,Tryz.ntmps257
 go_wp2_with fail
 obtain ⟨W1,hW1⟩:∃ W1,(w.alloc (.cells (vCs y) 113)).alloc (.cells (vCs v) 113)=W1:=⟨_,rfl⟩
 rw[hW1] at hC ⊢
 clear hW1
 obtain ⟨KB,hKB⟩:∃ KB,w.heap.size=KB:=⟨_,rfl⟩
 obtain ⟨VB,hVB⟩:∃ VB,KB+1=VB:=⟨_,rfl⟩
 rw[hKB,hVB] at hC
 rw[hKB,hVB]
 clear hVB
 have HC:Hid (CO N w X a n cap B t q L KB VB y v W1):=hC
 clear hC
 go_region_held3 (fun w'=>w'.cell? ⟨X,0,none⟩=some (.slice a n cap)/\w'.cell? ⟨X,1,none⟩=some (.map (some B))/\w'.cell? ⟨KB,0,none⟩=some (.int .i64 y.k)/\w'.cell? ⟨KB,1,none⟩=some (.int .i64 y.n)/\w'.cell? ⟨KB,2,none⟩=some (.float .f64 y.f)/\w'.cell? ⟨KB,3,none⟩=some (.string y.s)/\w'.cell? ⟨KB,4,none⟩=some (.int .i64 y.r)) (first|(with_reducible exact HC4.out.s2)|(with_reducible exact HC.out.s2)|(with_reducible exact HC.out.drew.s2)) ((go_at_call 181;refine (HM.out _).mono ?_;rintro e w4 ⟨rfl,hb4⟩;have HC4:Hid (CO N w X a n cap B t q L KB VB y v w4):=(by first|exact HC.out.call hb4|exact HC.out.drew.call hb4);clear HC hb4;have hlk:=HL.out w4 HC4.out.x.map))
 clear HM HL hlk
 have c0:=HC4.out.x.c0
 have c2:=HC4.out.x.c2
 have k0:=HC4.out.k.at 0
 have k1:=HC4.out.k.at 1
 have k2:=HC4.out.k.at 2
 have k3:=HC4.out.k.at 3
 have k4:=HC4.out.k.at 4
 have v0:=HC4.out.v.at 0
 have v1:=HC4.out.v.at 1
 have v2:=HC4.out.v.at 2
 have v3:=HC4.out.v.at 3
 have v4:=HC4.out.v.at 4
 simp only[List.getElem?_toArray,List.getElem?_cons_zero,List.getElem?_cons_succ] at k0 k1 k2 k3 k4 v0 v1 v2 v3 v4
 by_cases hv:v.k=0
 ·go_wp2_with fail
  go_end0
  exact ⟨rfl,⟨_,HC4.out.x⟩,HC4.out.b,HC4.out.tl,HC4.out.ex⟩
 ·by_cases hn5:n<500
  ·have hn6:(n:Int)<500:=by omega
   by_cases ht:t<1000000000000
   ·go_wp2_with (go_at_call 304;refine (zi3 N X a n cap B t q L y v _ (Nat.le_trans HC4.out.s HC4.out.b.size) hn5 t0 ht HC4.out.x).mono ?_;rintro e w5 ⟨rfl,hx5,hb5,ht5,he5⟩)
    go_end0
    rw[HE.out] at hx5
    have hs4:=HC4.out.b.size
    obtain ⟨a',cap',hx6,hr6⟩:=hx5
    exact ⟨rfl,⟨a',⟨cap',hx6⟩,fun b e=>(hr6 b e).imp id (fun h=>Nat.le_trans hs4 h)⟩,HC4.out.b.trans hb5,fun o ho=>(ht5 o ho).trans (HC4.out.tl o ho),fun k hk h1 h2 h3=>(he5 k (Nat.lt_of_lt_of_le hk hs4) h1 h2 h3).trans (HC4.out.ex k hk h1 h2 h3)⟩
   ·go_wp2_with fail
    go_end0
    exact ⟨rfl,⟨_,HC4.out.x⟩,HC4.out.b,HC4.out.tl,HC4.out.ex⟩
  ·have hn6:¬(n:Int)<500:=by omega
   go_wp2_with fail
   go_end0
   exact ⟨rfl,⟨_,HC4.out.x⟩,HC4.out.b,HC4.out.tl,HC4.out.ex⟩
end Go.Proofs.YtaimofjekgnieaaGreatDoor
