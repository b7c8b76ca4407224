import Derived.Test.YthnkncpegihbhaaGreatDoorPutA
set_option maxRecDepth 100000
set_option maxHeartbeats 16000000
namespace Go.Proofs.YthnkncpegihbhaaGreatDoor
section
open Go.RowKit
attribute [local go_sem] iD
theorem qg9(g:Nat)(T:TypeId):∀(vs:List Value) (o:Nat) (w:World) (cur:Array Value),w.heap[g]?=some (.cells cur T (0,0))->o+vs.length<=cur.size->∃cur',(w.setCells g o vs).heap[g]?=some (.cells cur' T (0,0))/\cur'.size=cur.size/\(∀j,j<o\/o+vs.length<=j->cur'[j]?=cur[j]?)/\∀j,j<vs.length->cur'[o+j]?=vs[j]?
 |[],o,w,cur,h,hs=>⟨cur,h,rfl,fun _ _=>rfl,fun j hj=>by simp at hj⟩
 |v :: r,o,w,cur,h,hs=>by
  have hs':o+r.length+1<=cur.size:=by simpa[Nat.add_assoc] using hs
  obtain⟨c,h1,h2,h3,h4⟩:=qg9 g T r (o+1) (w.setCell ⟨g,o,none⟩ v) (cur.setIfInBounds o v) (Go.heap_setCell_same w g o cur T v h) (by simp;omega);refine⟨c,h1,by simpa using h2,fun j hj=>?_,fun j hj=>?_⟩
  ·have hj':j<o\/o+r.length+1<=j:=by simpa[Nat.add_assoc] using hj
   rw[h3 j (by omega),aW (by omega)]
  ·cases j with
   |zero=>rw[Nat.add_zero,h3 o (by omega),bY (by omega)];rfl
   |succ j=>
    have:=h4 j (by simpa using hj);rw[show o+(j+1)=o+1 + j by omega,this];rfl
theorem zb2(w:World)(g o:Nat)(v:Value):w.grownBy (w.setCell ⟨g,o,none⟩ v) (some g):=
 ⟨rfl,rfl,rfl,by simp,fun k _ hne=>aK _ _ _ _ (fun e=>hne (by rw[e]))⟩
theorem zo7{a b c:World}{r:Option Nat}(h:a.grownBy b r)(k:b.grownBy c r):a.grownBy c r:=
 ⟨k.os.trans h.os,k.tape.trans h.tape,k.output.trans h.output,aV h.size k.size,fun i hi hne=>(k.block i (aH hi h.size) hne).trans (h.block i hi hne)⟩
theorem qk6(g:Nat):∀(vs:List Value) (o:Nat) (w:World),w.grownBy (w.setCells g o vs) (some g)
 |[],_,_=>⟨rfl,rfl,rfl,ah _,fun _ _ _=>rfl⟩
 |v :: r,o,w=>zo7 (zb2 w g o v) (qk6 g r (o+1) _)
abbrev jb1:Array Value:=#[.int .i64 0,.int .i64 0,.float .f64 0,.string ⟨#[]⟩,.int .i64 0,.int .i64 0,.int .i64 0,.float .f64 0,.string ⟨#[]⟩,.int .i64 0,.int .i64 0]
end
section
open Go.RowKit
attribute [local go_sem] iD
attribute [local go_sem ↓] Go.wp_at_zero Go.wp_at_succ
structure TD where
 n:Nat
 t:Int
 q:Nat->PD
def jY(q:Nat->PD)(n:Nat)(p:PD):Nat->PD:=fun j=>if j=n then p else q j
theorem CO.new{N:Nat}{w:World}{X:Nat}{a:Option Addr}{n cap B:Nat}{t:Int}{q:Nat->PD}{L:List (Mk×Nat)}(hN:N<=w.heap.size)(hX:XO N w X a n cap B t q L)(y v:VD):CO N w X a n cap B t q L w.heap.size (w.heap.size+1) y v ((w.alloc (.cells (qN y) 61)).alloc (.cells (qN v) 61)):=by
 have h1:=Has.new w (qN y) 61;have h2:=Has.new (w.alloc (.cells (qN y) 61)) (qN v) 61;rw[aN] at h2;exact⟨(hX.alloc _).alloc _,h1.alloc _,h2,((ay N w).alloc hN _).alloc (by rw[aN];omega) _,hN,fun b off sp e=>by have:=ys6 hX.own e;simp at this;omega,fun o _=>by
  have gK:=hX.lt;rw[World.cell?_alloc_past _ _ _ (by simp;omega),World.cell?_alloc_past _ _ _ gK],fun k hk _ _ _=>by
  rw[dH _ _ _ (by simp;omega),dH _ _ _ hk]⟩
theorem yj5(N X:Nat)(a:Option Addr)(n cap B:Nat)(t:Int)(q:Nat->PD)(L:List (Mk×Nat))(y v:VD)(w:World)(hN:N<=w.heap.size)(hn:n<=500)(t0:0<=t)(hL:∀u,iZ u B L->(Instr.lookup 242 (.map (some B)) (mkV (mk y)) true).run Tryz.prog u=.ok (.tuple #[.int .i64 0,.bool false]) u)(hX:XO N w X a n cap B t q L):Calls Tryz.prog 262 #[.pointer (some ⟨X,0,none⟩),y.v,v.v] w fun e w'=>e=.returned (.tuple #[])/\(if v.k=0\/¬(n<500/\t<1000000000000) then ∃L',XO N w' X a n cap B t q L' else ∃a' cap',XO N w' X a' (n+1) cap' B (t+1) (jY q n ⟨y,v,t+1⟩) (upd L (mk y) n)/\KI w a a')/\Below N w w'/\(∀o,3<=o->w'.cell? ⟨X,o,none⟩=w.cell? ⟨X,o,none⟩)/\Bd w w' X B (Value.slice a n cap).ownBlock:=by
 have hC:CO N w X a n cap B t q L w.heap.size (w.heap.size+1) y v ((w.alloc (.cells (qN y) 61)).alloc (.cells (qN v) 61)):=CO.new hN hX y v;have HM:Hid (∀w,Calls Tryz.prog 186 #[y.v] w fun e w'=>e=.returned (mkV (mk y))/\gZ w w'):=fun w=>SH y w;have HL:Hid (∀u,iZ u B L->(Instr.lookup 242 (.map (some B)) (mkV (mk y)) true).run Tryz.prog u=.ok (.tuple #[.int .i64 0,.bool false]) u):=fun u h=>hL u h;obtain⟨m,HE⟩:∃m,Hid (mk y=m):=⟨_,rfl⟩;rw[HE.out] at HM HL ⊢;go_in;go_wp2_with fail;obtain⟨W1,hW1⟩:∃W1,(w.alloc (.cells (qN y) 61)).alloc (.cells (qN v) 61)=W1:=⟨_,rfl⟩;rw[hW1] at hC ⊢;obtain⟨KB,Jy⟩:∃KB,w.heap.size=KB:=⟨_,rfl⟩;obtain⟨VB,OY⟩:∃VB,KB+1=VB:=⟨_,rfl⟩;rw[Jy,OY] at hC;rw[Jy,OY];have HC:Hid (CO N w X a n cap B t q L KB VB y v W1):=hC
 go_region_held3 (fun w'=>w'.cell? ⟨X,0,none⟩=some (.slice a n cap)/\w'.cell? ⟨X,1,none⟩=some (.map (some B))/\w'.cell? ⟨KB,0,none⟩=some (.int .i64 y.k)/\w'.cell? ⟨KB,1,none⟩=some (.int .i64 y.n)/\w'.cell? ⟨KB,2,none⟩=some (.float .f64 y.f)/\w'.cell? ⟨KB,3,none⟩=some (.string y.s)/\w'.cell? ⟨KB,4,none⟩=some (.int .i64 y.r)) (first|(with_reducible exact mO.out.s2)|(with_reducible exact HC.out.s2)|(with_reducible exact HC.out.drew.s2)) ((go_at_call 186;refine(HM.out _).mono ?_;rintro e w4 ⟨rfl,eU⟩;have mO:Hid (CO N w X a n cap B t q L KB VB y v w4):=(by first|exact HC.out.call eU|exact HC.out.drew.call eU);have hlk:=HL.out w4 mO.out.x.map))
 have c0:=mO.x.c0;have c2:=mO.x.c2;have k0:=mO.k.at 0;have k1:=mO.k.at 1;have k2:=mO.k.at 2;have k3:=mO.k.at 3;have k4:=mO.k.at 4;have v0:=mO.v.at 0;have v1:=mO.v.at 1;have v2:=mO.v.at 2;have v3:=mO.v.at 3;have v4:=mO.v.at 4;simp only[List.getElem?_toArray,List.getElem?_cons_zero,List.getElem?_cons_succ] at k0 k1 k2 k3 k4 v0 v1 v2 v3 v4;by_cases hv:v.k=0
 ·go_wp2_with fail;go_end0;exact⟨rfl,⟨_,mO.x⟩,mO.b,mO.tl,mO.ex⟩
 ·by_cases OJ:n<500
  ·have Tv:(n:Int)<500:=by omega
   by_cases ht:t<1000000000000
   ·go_wp2_with (go_at_call 309;refine(zq0 N X a n cap B t q L y v _ (aV mO.s mO.b.size) OJ t0 ht mO.x).mono ?_;rintro e w5 ⟨rfl,hx5,eX,Tq,he5⟩);go_end0;rw[HE.out] at hx5;have fO:=mO.b.size;obtain⟨a',cap',hx6,Ls⟩:=hx5;exact⟨rfl,⟨a',⟨cap',hx6⟩,fun b e=>(Ls b e).imp id (fun h=>aV fO h)⟩,mO.b.trans eX,fun o ho=>(Tq o ho).trans (mO.tl o ho),fun k hk h1 h2 h3=>(he5 k (aH hk fO) h1 h2 h3).trans (mO.ex k hk h1 h2 h3)⟩
   ·go_wp2_with fail;go_end0;exact⟨rfl,⟨_,mO.x⟩,mO.b,mO.tl,mO.ex⟩
  ·have Tv:¬(n:Int)<500:=by omega
   go_wp2_with fail;go_end0;exact⟨rfl,⟨_,mO.x⟩,mO.b,mO.tl,mO.ex⟩
end
end Go.Proofs.YthnkncpegihbhaaGreatDoor
