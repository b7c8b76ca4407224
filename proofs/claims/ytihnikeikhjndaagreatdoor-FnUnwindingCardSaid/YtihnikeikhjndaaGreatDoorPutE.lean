import Derived.Test.YtihnikeikhjndaaGreatDoorPutA
set_option maxRecDepth 100000
set_option maxHeartbeats 16000000
namespace Go.Proofs.YtihnikeikhjndaaGreatDoor
section
open Go.RowKit
attribute [local go_sem] aN
attribute [local go_sem ↓] Go.wp_at_zero Go.wp_at_succ
def xH(q:Nat->PD)(n:Nat)(p:PD):Nat->PD:=fun j=>if j=n then p else q j
theorem CO.new{N:Nat}{w:World}{X:Nat}{a:Option Addr}{n cap B:Nat}{t:Int}{q:Nat->PD}{L:List (Mk×Nat)}(hN:N<=w.heap.size)(hX:XO N w X a n cap B t q L)(y v:VD):CO N w X a n cap B t q L w.heap.size (w.heap.size+1) y v ((w.alloc (.cells (oZ y) 53)).alloc (.cells (oZ v) 53)):=by
 have h1:=Has.new w (oZ y) 53;have h2:=Has.new (w.alloc (.cells (oZ y) 53)) (oZ v) 53;rw[World.size_alloc] at h2;exact⟨(hX.alloc _).alloc _,h1.alloc _,h2,((Below.refl N w).alloc hN _).alloc (by rw[World.size_alloc];omega) _,hN,fun b off sp e=>by have:=Vt hX.own e;simp at this;omega,fun o _=>by
  have hlt:=hX.lt;rw[World.cell?_alloc_past _ _ _ (by simp;omega),World.cell?_alloc_past _ _ _ hlt],fun k hk _ _ _=>by
  rw[Below.heap_alloc _ _ _ (by simp;omega),Below.heap_alloc _ _ _ hk]⟩
theorem Us(N X:Nat)(a:Option Addr)(n cap B:Nat)(t:Int)(q:Nat->PD)(L:List (Mk×Nat))(y v:VD)(w:World)(hN:N<=w.heap.size)(hn:n<=500)(t0:0<=t)(hL:∀u,dF u B L->(Instr.lookup 241 (.map (some B)) (mkV (mk y)) true).run Tryz.prog u=.ok (.tuple #[.int .i64 0,.bool false]) u)(hX:XO N w X a n cap B t q L):Calls Tryz.prog 264 #[.pointer (some ⟨X,0,none⟩),y.v,v.v] w fun e w'=>e=.returned (.tuple #[])/\(if v.k=0\/¬(n<500/\t<1000000000000) then ∃L',XO N w' X a n cap B t q L' else ∃a' cap',XO N w' X a' (n+1) cap' B (t+1) (xH q n ⟨y,v,t+1⟩) (upd L (mk y) n)/\FZ w a a')/\Below N w w'/\(∀o,3<=o->w'.cell? ⟨X,o,none⟩=w.cell? ⟨X,o,none⟩)/\vI w w' X B (Value.slice a n cap).ownBlock:=by
 have hC:CO N w X a n cap B t q L w.heap.size (w.heap.size+1) y v ((w.alloc (.cells (oZ y) 53)).alloc (.cells (oZ v) 53)):=CO.new hN hX y v;have HM:Hid (∀w,Calls Tryz.prog 188 #[y.v] w fun e w'=>e=.returned (mkV (mk y))/\ah w w'):=fun w=>PO y w;have HL:Hid (∀u,dF u B L->(Instr.lookup 241 (.map (some B)) (mkV (mk y)) true).run Tryz.prog u=.ok (.tuple #[.int .i64 0,.bool false]) u):=fun u h=>hL u h;obtain⟨m,HE⟩:∃m,Hid (mk y=m):=⟨_,rfl⟩;rw[HE.out] at HM HL ⊢;clear hX hN hL;go_in;go_wp2_with fail;obtain⟨W1,hW1⟩:∃W1,(w.alloc (.cells (oZ y) 53)).alloc (.cells (oZ v) 53)=W1:=⟨_,rfl⟩;rw[hW1] at hC ⊢;clear hW1;obtain⟨KB,MO⟩:∃KB,w.heap.size=KB:=⟨_,rfl⟩;obtain⟨VB,F8⟩:∃VB,KB+1=VB:=⟨_,rfl⟩;rw[MO,F8] at hC;rw[MO,F8];clear F8;have HC:Hid (CO N w X a n cap B t q L KB VB y v W1):=hC;clear hC
 go_region_held3 (fun w'=>w'.cell? ⟨X,0,none⟩=some (.slice a n cap)/\w'.cell? ⟨X,1,none⟩=some (.map (some B))/\w'.cell? ⟨KB,0,none⟩=some (.int .i64 y.k)/\w'.cell? ⟨KB,1,none⟩=some (.int .i64 y.n)/\w'.cell? ⟨KB,2,none⟩=some (.float .f64 y.f)/\w'.cell? ⟨KB,3,none⟩=some (.string y.s)/\w'.cell? ⟨KB,4,none⟩=some (.int .i64 y.r)) (first|(with_reducible exact gY.out.s2)|(with_reducible exact HC.out.s2)|(with_reducible exact HC.out.drew.s2)) ((go_at_call 188;refine(HM.out _).mono ?_;rintro e w4 ⟨rfl,hb4⟩;have gY:Hid (CO N w X a n cap B t q L KB VB y v w4):=(by first|exact HC.out.call hb4|exact HC.out.drew.call hb4);clear HC hb4;have hlk:=HL.out w4 gY.out.x.map))
 clear HM HL hlk;have c0:=gY.x.c0;have c2:=gY.x.c2;have k0:=gY.k.at 0;have k1:=gY.k.at 1;have k2:=gY.k.at 2;have k3:=gY.k.at 3;have k4:=gY.k.at 4;have v0:=gY.v.at 0;have v1:=gY.v.at 1;have v2:=gY.v.at 2;have v3:=gY.v.at 3;have v4:=gY.v.at 4;simp only[List.getElem?_toArray,List.getElem?_cons_zero,List.getElem?_cons_succ] at k0 k1 k2 k3 k4 v0 v1 v2 v3 v4;by_cases hv:v.k=0
 ·go_wp2_with fail;go_end0;exact⟨rfl,⟨_,gY.x⟩,gY.b,gY.tl,gY.ex⟩
 ·by_cases Ip:n<500
  ·have MB:(n:Int)<500:=by omega
   by_cases ht:t<1000000000000
   ·go_wp2_with (go_at_call 311;refine(ze9 N X a n cap B t q L y v _ (Nat.le_trans gY.s gY.b.size) Ip t0 ht gY.x).mono ?_;rintro e w5 ⟨rfl,hx5,hb5,LY,he5⟩);go_end0;rw[HE.out] at hx5;have hs4:=gY.b.size;obtain⟨a',cap',hx6,Mc⟩:=hx5;exact⟨rfl,⟨a',⟨cap',hx6⟩,fun b e=>(Mc b e).imp id (fun h=>Nat.le_trans hs4 h)⟩,gY.b.trans hb5,fun o ho=>(LY o ho).trans (gY.tl o ho),fun k hk h1 h2 h3=>(he5 k (Nat.lt_of_lt_of_le hk hs4) h1 h2 h3).trans (gY.ex k hk h1 h2 h3)⟩
   ·go_wp2_with fail;go_end0;exact⟨rfl,⟨_,gY.x⟩,gY.b,gY.tl,gY.ex⟩
  ·have MB:¬(n:Int)<500:=by omega
   go_wp2_with fail;go_end0;exact⟨rfl,⟨_,gY.x⟩,gY.b,gY.tl,gY.ex⟩
end
end Go.Proofs.YtihnikeikhjndaaGreatDoor
