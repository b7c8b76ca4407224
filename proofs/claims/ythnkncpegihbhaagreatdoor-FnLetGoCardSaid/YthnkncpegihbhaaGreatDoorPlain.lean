import Derived.Below
import Derived.Test.YthnkncpegihbhaaGreatDoorChecked
import Derived.WalkKit
import Derived.WalkLawsBesides
set_option maxRecDepth 100000
set_option maxHeartbeats 16000000
namespace Go.Proofs.YthnkncpegihbhaaGreatDoor
section
open Go.RowKit
abbrev gZ(w w':World):Prop:=Below w.heap.size w w'
theorem ah:type_of% @Nat.le_refl:=@Nat.le_refl
theorem aj:type_of% @Bool.and_assoc:=@Bool.and_assoc
theorem ak:type_of% @World.cell?_of_block:=@World.cell?_of_block
theorem au:type_of% @if_neg:=@if_neg
theorem ay:type_of% @Below.refl:=@Below.refl
theorem aA:type_of% @Array.getElem?_eq_some_iff:=@Array.getElem?_eq_some_iff
theorem aF:type_of% @Nat.zero_le:=@Nat.zero_le
theorem aG:type_of% @bodyPost_ret:=@bodyPost_ret
theorem aH:type_of% @Nat.lt_of_lt_of_le:=@Nat.lt_of_lt_of_le
theorem aJ:type_of% @congrArg:=@congrArg
theorem aK:type_of% @Below.heap_setCell:=@Below.heap_setCell
theorem aN:type_of% @World.size_alloc:=@World.size_alloc
theorem aO:type_of% @if_pos:=@if_pos
theorem aP:type_of% @List.getElem?_eq_some_iff:=@List.getElem?_eq_some_iff
theorem aQ:type_of% @Option.some.inj:=@Option.some.inj
theorem aS:type_of% @Int.natCast_nonneg:=@Int.natCast_nonneg
theorem aT:type_of% @Nat.not_lt_zero:=@Nat.not_lt_zero
theorem aU:type_of% @List.length_append:=@List.length_append
theorem aV:type_of% @Nat.le_trans:=@Nat.le_trans
theorem aW:type_of% @Array.getElem?_setIfInBounds_ne:=@Array.getElem?_setIfInBounds_ne
theorem aX:type_of% @World.ownsRow_nil:=@World.ownsRow_nil
theorem aY:type_of% @Bool.and_eq_true:=@Bool.and_eq_true
theorem aZ:type_of% @Nat.le_add_right:=@Nat.le_add_right
theorem bg:type_of% @List.getElem?_eq_getElem:=@List.getElem?_eq_getElem
theorem bC:type_of% @rounds_succ:=@rounds_succ
theorem bD:type_of% @World.frozen?_of_block:=@World.frozen?_of_block
theorem bG:type_of% @Classical.byContradiction:=@Classical.byContradiction
theorem bH:type_of% @List.map_append:=@List.map_append
theorem bI:type_of% @Nat.ne_of_lt:=@Nat.ne_of_lt
theorem bJ:type_of% @decide_eq_true:=@decide_eq_true
theorem bK:type_of% @Ne.symm:=@Ne.symm
theorem bM:type_of% @List.append_nil:=@List.append_nil
theorem bP:type_of% @decide_eq_false:=@decide_eq_false
theorem bQ:type_of% @Nat.ne_of_gt:=@Nat.ne_of_gt
theorem bT:type_of% @info_parts:=@info_parts
theorem bU:type_of% @List.range_succ:=@List.range_succ
theorem bV:type_of% @Int.toNat_natCast:=@Int.toNat_natCast
theorem bW:type_of% @wp_loop_rounds:=@wp_loop_rounds
theorem bY:type_of% @Array.getElem?_setIfInBounds_self_of_lt:=@Array.getElem?_setIfInBounds_self_of_lt
theorem bZ:type_of% @List.getElem?_append_left:=@List.getElem?_append_left
theorem cO:type_of% @Array.getElem?_eq_getElem:=@Array.getElem?_eq_getElem
theorem cZ:type_of% @Bool.eq_iff_iff:=@Bool.eq_iff_iff
theorem dh:type_of% @World.cell?_alloc_new:=@World.cell?_alloc_new
theorem dn:type_of% @run_underlying:=@run_underlying
theorem dw:type_of% @below_drewN:=@below_drewN
theorem dA:type_of% @List.getElem?_append_right:=@List.getElem?_append_right
theorem dD:type_of% @List.mem_append:=@List.mem_append
theorem dF:type_of% @Nat.lt_irrefl:=@Nat.lt_irrefl
theorem dG:type_of% @List.length_take:=@List.length_take
theorem dH:type_of% @Below.heap_alloc:=@Below.heap_alloc
theorem dI:type_of% @MapKept.run_getObj_map:=@MapKept.run_getObj_map
theorem dJ:type_of% @Array.getElem?_eq_none:=@Array.getElem?_eq_none
theorem dK:type_of% @List.length_map:=@List.length_map
theorem dL:type_of% @Nat.min_eq_left:=@Nat.min_eq_left
theorem dM:type_of% @Nat.two_pow_pos:=@Nat.two_pow_pos
theorem dO:type_of% @Array.getElem?_toList:=@Array.getElem?_toList
theorem dP:type_of% @callsIn_wide:=@callsIn_wide
theorem dQ:type_of% @Nat.mul_le_mul_right:=@Nat.mul_le_mul_right
theorem dR:type_of% @World.cell?_alloc_lt:=@World.cell?_alloc_lt
theorem dS:type_of% @run_callFunc_extern:=@run_callFunc_extern
theorem dU:type_of% @List.map_congr_left:=@List.map_congr_left
theorem dV:type_of% @Calls.mono:=@Calls.mono
theorem dW:type_of% @List.getElem?_map:=@List.getElem?_map
theorem dX:type_of% @callsIn_of_wp:=@callsIn_of_wp
theorem dY:type_of% @List.mem_range:=@List.mem_range
theorem dZ:type_of% @wpIn_wide:=@wpIn_wide
theorem iT{α:Type _}{l:List α}{i:Nat}{a:α}:l.toArray.setIfInBounds i a=(l.set i a).toArray:=List.setIfInBounds_toArray ..
theorem iR{α:Type _}{a b:α}{l:List α}:(a::l).set 0 b=b::l:=rfl
theorem iQ{α:Type _}{a b:α}{l:List α}{n:Nat}:(a::l).set (n+1) b=a::l.set n b:=rfl
theorem iD(P:Program)(w:World)(a:Addr)(m:Mode)(k:FloatKind)(b:Nat):(store a (.float k b) m).run P w=stored P w a (.float k b) m:=run_store P w a _ m rfl
theorem Eu:FloatKind.f64.format.order 0 0=some Ordering.eq:=by decide
def fz(f:Nat):Bool:=FloatKind.f64.format.order f 0==some Ordering.eq
def se(s:ByteArray):Bool:=s.toList.isEmpty
def lY(k n:Int)(f:Nat)(s:ByteArray)(r:Int):Bool:=
 if k=1\/k=2\/k=8 then fz f && se s && r==0
 else if k=3 then n==0 && se s && r==0
 else if k=4 then n==0 && fz f && r==0
 else if k=5\/k=6\/k=7 then n==0 && fz f && se s
 else n==0 && fz f && se s && r==0
def nH(k n:Int)(s:ByteArray)(r:Int):Bool:=
 if k=0 then true
 else if k=1 then n==0 || n==1
 else if k=2 then true
 else if k=3 then true
 else if k=4 then decide ((s.size:Int)<=4000)
 else if k=5\/k=6\/k=7 then decide (0<=r)
 else if k=8 then decide (0<=n) && decide (n<15)
 else false
def okB(k n:Int)(f:Nat)(s:ByteArray)(r:Int):Bool:=lY k n f s r && nH k n s r
abbrev iJ(k n:Int)(f:Nat)(s:ByteArray)(r:Int):Value:=.agg #[.int .i64 k,.int .i64 n,.float .f64 f,.string s,.int .i64 r]
theorem jH{a b:Bool}(h:a=b):Ending.returned (.bool a)=.returned (.bool b):=by rw[h]
theorem y81{k:IntKind}{a b:Int}(h:a=b):Ending.returned (.int k a)=.returned (.int k b):=by rw[h]
theorem iW{W w1:World}(hb:gZ W w1):(∀b o,b<W.heap.size->w1.cell? ⟨b,o,none⟩=W.cell? ⟨b,o,none⟩)/\(∀b o,b<W.heap.size->w1.frozen? ⟨b,o,none⟩=W.frozen? ⟨b,o,none⟩):=
 ⟨fun b o h=>hb.cell (p:=⟨b,o,none⟩) h,fun b o h=>hb.frozen (p:=⟨b,o,none⟩) h⟩
theorem iq{w w1 w2:World}(h1:gZ w w1)(h2:gZ w1 w2):gZ w w2:=h1.trans (h2.mono h1.size)
theorem q01(w:World)(o:Obj):gZ w (w.alloc o):=(ay _ _).alloc (ah _) _
theorem z87{a b:Value}(h:a=b):Ending.returned a=.returned b:=by rw[h]
theorem rH{B blk:Nat}{a w:World}(h:Below B a w)(hp:B<=blk)(v0 v1 v2 v3 v4 v5:Value):Below B a ((((((w.setCell ⟨blk,0,none⟩ v0).setCell ⟨blk,1,none⟩ v1).setCell ⟨blk,2,none⟩ v2).setCell ⟨blk,3,none⟩ v3).setCell ⟨blk,4,none⟩ v4).setCell ⟨blk,5,none⟩ v5):=
 (((((h.setCell (p:=⟨blk,0,none⟩) hp v0).setCell (p:=⟨blk,1,none⟩) hp v1).setCell (p:=⟨blk,2,none⟩) hp v2).setCell (p:=⟨blk,3,none⟩) hp v3).setCell (p:=⟨blk,4,none⟩) hp v4).setCell (p:=⟨blk,5,none⟩) hp v5
theorem pO{B blk:Nat}{a w:World}(h:Below B a w)(hp:B<=blk)(v0 v1 v2 v3 v4:Value):Below B a (((((w.setCell ⟨blk,0,none⟩ v0).setCell ⟨blk,1,none⟩ v1).setCell ⟨blk,2,none⟩ v2).setCell ⟨blk,3,none⟩ v3).setCell ⟨blk,4,none⟩ v4):=
 ((((h.setCell (p:=⟨blk,0,none⟩) hp v0).setCell (p:=⟨blk,1,none⟩) hp v1).setCell (p:=⟨blk,2,none⟩) hp v2).setCell (p:=⟨blk,3,none⟩) hp v3).setCell (p:=⟨blk,4,none⟩) hp v4
theorem kF(w:World)(o o':Obj):gZ w ((w.alloc o).alloc o'):=(q01 w o).alloc (by simp) _
theorem xW(w:World)(o o' o'':Obj):gZ w (((w.alloc o).alloc o').alloc o''):=(kF w o o').alloc (by simp;omega) _
theorem vT{w u:World}(h:gZ w u)(o:Obj):gZ w (u.alloc o):=h.alloc h.size _
def Has(w:World)(B:Nat)(A:Array Value):Prop:=B<w.heap.size/\∀o,w.cell? ⟨B,o,none⟩=A[o]?
theorem Has.lt{w:World}{B:Nat}{A:Array Value}(h:Has w B A):B<w.heap.size:=h.1
theorem Has.at{w:World}{B:Nat}{A:Array Value}(h:Has w B A):∀o,w.cell? ⟨B,o,none⟩=A[o]?:=h.2
theorem Has.call{u w:World}{B:Nat}{A:Array Value}(h:Has u B A)(hb:gZ u w):Has w B A:=
 ⟨aH h.1 hb.size,fun o=>(hb.cell (p:=⟨B,o,none⟩) h.1).trans (h.2 o)⟩
theorem Has.new(w:World)(A:Array Value)(t:TypeId):Has (w.alloc (.cells A t)) w.heap.size A:=
 ⟨by simp,fun o=>dh w A t o⟩
theorem Has.alloc{w:World}{B:Nat}{A:Array Value}(h:Has w B A)(o:Obj):Has (w.alloc o) B A:=
 ⟨by have:=h.1;simp;omega,fun i=>(dR w o ⟨B,i,none⟩ h.1).trans (h.2 i)⟩
theorem Has.drew{w:World}{B:Nat}{A:Array Value}(h:Has w B A):Has w.drew B A:=h
theorem Has.made{u w:World}{A:Array Value}{t:TypeId}(hb:Below (u.alloc (.cells A t)).heap.size (u.alloc (.cells A t)) w):Has w u.heap.size A:=(Has.new u A t).call hb
structure VD where
 k:Int
 n:Int
 f:Nat
 s:ByteArray
 r:Int
def vz:VD:=⟨0,0,0,⟨#[]⟩,0⟩
abbrev VD.v(x:VD):Value:=iJ x.k x.n x.f x.s x.r
def OwnB(w:World)(B:Nat)(A:Array Value):Prop:=Has w B A/\∀o,w.frozen? ⟨B,o,none⟩=false
theorem OwnB.block{w w':World}{B:Nat}{A:Array Value}(h:OwnB w B A)(hs:w.heap.size<=w'.heap.size)(hk:w'.heap[B]?=w.heap[B]?):OwnB w' B A:=
 ⟨⟨aH h.1.1 hs,fun o=>(ak (a:=⟨B,o,none⟩) hk).trans (h.1.2 o)⟩,fun o=>(bD (a:=⟨B,o,none⟩) hk).trans (h.2 o)⟩
theorem OwnB.set{w:World}{B:Nat}{A:Array Value}(h:OwnB w B A){o:Nat}(ho:o<A.size)(v:Value):OwnB (w.setCell ⟨B,o,none⟩ v) B (A.setIfInBounds o v):=by
 refine⟨⟨by have:=h.1.1;simpa using this,fun i=>?_⟩,fun i=>by rw[World.frozen?_setCell];exact h.2 i⟩;have h0:w.cell? ⟨B,o,none⟩=some (A[o]'ho):=by rw[h.1.2 o,cO ho]
 rw[Array.getElem?_setIfInBounds];by_cases e:o=i
 ·subst e;rw[aO rfl,aO ho];simp[go_sem,h0]
 ·rw[au e,<-h.1.2 i];exact World.cell?_setCell_other _ _ _ _ (by intro c;cases c;exact e rfl)
theorem OwnB.new(w:World)(A:Array Value)(t:TypeId):OwnB (w.alloc (.cells A t)) w.heap.size A:=⟨Has.new w A t,fun o=>by simp⟩
def ig(a:Option Addr):Option Nat:=a.map (·.block)
theorem jg(a:Option Addr)(n cap:Nat):(Value.slice a n cap).ownBlock=ig a:=by cases a<;>rfl
theorem qb1(x:Value)(w:World):(Instr.typeAssert (.iface 248 x) 196 248 true).run Tryz.prog w=.ok (.tuple #[x,.bool true]) w:=by kernel_rfl
theorem WQ(x:Value)(w:World):(Instr.typeAssert (.iface 249 x) 196 248 true).run Tryz.prog w=.ok (.tuple #[.agg #[],.bool false]) w:=by kernel_rfl
theorem WW(x:Value)(w:World):(Instr.typeAssert (.iface 250 x) 196 248 true).run Tryz.prog w=.ok (.tuple #[.agg #[],.bool false]) w:=by kernel_rfl
theorem WV(x:Value)(w:World):(Instr.typeAssert (.iface 251 x) 196 248 true).run Tryz.prog w=.ok (.tuple #[.agg #[],.bool false]) w:=by kernel_rfl
theorem WU(x:Value)(w:World):(Instr.typeAssert (.iface 169 x) 196 248 true).run Tryz.prog w=.ok (.tuple #[.agg #[],.bool false]) w:=by kernel_rfl
theorem WY(x:Value)(w:World):(Instr.typeAssert (.iface 254 x) 196 248 true).run Tryz.prog w=.ok (.tuple #[.agg #[],.bool false]) w:=by kernel_rfl
theorem WS(x:Value)(w:World):(Instr.typeAssert (.iface 253 x) 196 248 true).run Tryz.prog w=.ok (.tuple #[.agg #[],.bool false]) w:=by kernel_rfl
theorem WH(x:Value)(w:World):(Instr.typeAssert (.iface 249 x) 196 251 true).run Tryz.prog w=.ok (.tuple #[.float .f64 0,.bool false]) w:=by kernel_rfl
theorem WT(x:Value)(w:World):(Instr.typeAssert (.iface 250 x) 196 251 true).run Tryz.prog w=.ok (.tuple #[.float .f64 0,.bool false]) w:=by kernel_rfl
theorem WR(x:Value)(w:World):(Instr.typeAssert (.iface 251 x) 196 251 true).run Tryz.prog w=.ok (.tuple #[x,.bool true]) w:=by kernel_rfl
theorem WJ(x:Value)(w:World):(Instr.typeAssert (.iface 169 x) 196 251 true).run Tryz.prog w=.ok (.tuple #[.float .f64 0,.bool false]) w:=by kernel_rfl
theorem qb0(x:Value)(w:World):(Instr.typeAssert (.iface 254 x) 196 251 true).run Tryz.prog w=.ok (.tuple #[.float .f64 0,.bool false]) w:=by kernel_rfl
theorem WI(x:Value)(w:World):(Instr.typeAssert (.iface 253 x) 196 251 true).run Tryz.prog w=.ok (.tuple #[.float .f64 0,.bool false]) w:=by kernel_rfl
end
section
open Go.RowKit
attribute [local go_sem] iD
abbrev gV(c k n:Int)(f:Nat)(s:ByteArray)(r:Int):Value:=.agg #[.int .i64 c,.int .i64 k,.int .i64 n,.float .f64 f,.string s,.int .i64 r]
theorem Wv(c:Int)(w:World):Calls Tryz.prog 312 #[.int .i64 c] w fun e w'=>e=.returned (gV c 0 0 0 ⟨#[]⟩ 0)/\gZ w w':=by
 go_in;go_wp2;exact aG (v:=gV c 0 0 0 ⟨#[]⟩ 0) (by simp[results,Tryz.results312,go_sem]) rfl ⟨rfl,q01 _ _⟩
theorem ya7(b:Bool)(w:World):(method 610 249 (.bool b) "loop.example/meaning/impl.value").run Tryz.prog w=.ok (317,.bool b) w:=by kernel_rfl
theorem zk9(w:World):Calls Tryz.prog 317 #[.bool true] w fun e w'=>e=.returned (iJ 1 1 0 ⟨#[]⟩ 0)/\gZ w w':=by
 go_in;go_wp2;exact aG (v:=iJ 1 1 0 ⟨#[]⟩ 0) (by simp[results,Tryz.results317,go_sem]) rfl ⟨rfl,q01 _ _⟩
theorem j00(w:World):Calls Tryz.prog 315 #[.iface 249 (.bool true)] w fun e w'=>e=.returned (gV 0 1 1 0 ⟨#[]⟩ 0)/\gZ w w':=by
 have hm:=fun w=>ya7 true w;go_in;go_wp2_with (go_at_call 317;refine(zk9 _).mono ?_;rintro e w1 ⟨rfl,eu⟩;obtain⟨hc1,hf1⟩:=iW eu);exact aG (v:=gV 0 1 1 0 ⟨#[]⟩ 0) (by simp[results,Tryz.results315,go_sem,hc1]) rfl ⟨rfl,((((((iq (q01 _ _) eu).setCell (ah _) _).setCell (ah _) _).setCell (ah _) _).setCell (ah _) _).setCell (ah _) _).setCell (ah _) _⟩
theorem y00(n:Int)(w:World):(method 610 250 (.int .i64 n) "loop.example/meaning/impl.value").run Tryz.prog w=.ok (283,.int .i64 n) w:=by kernel_rfl
theorem Wu(n:Int)(w:World):Calls Tryz.prog 283 #[.int .i64 n] w fun e w'=>e=.returned (iJ 2 n 0 ⟨#[]⟩ 0)/\gZ w w':=by
 go_in;go_wp2;exact aG (v:=iJ 2 n 0 ⟨#[]⟩ 0) (by simp[results,Tryz.results283,go_sem]) rfl ⟨rfl,q01 _ _⟩
theorem qx7(n:Int)(w:World):Calls Tryz.prog 315 #[.iface 250 (.int .i64 n)] w fun e w'=>e=.returned (gV 0 2 n 0 ⟨#[]⟩ 0)/\gZ w w':=by
 have hm:=fun w=>y00 n w;go_in;go_wp2_with (go_at_call 283;refine(Wu n _).mono ?_;rintro e w1 ⟨rfl,eu⟩;obtain⟨hc1,hf1⟩:=iW eu);exact aG (v:=gV 0 2 n 0 ⟨#[]⟩ 0) (by simp[results,Tryz.results315,go_sem,hc1]) rfl ⟨rfl,((((((iq (q01 _ _) eu).setCell (ah _) _).setCell (ah _) _).setCell (ah _) _).setCell (ah _) _).setCell (ah _) _).setCell (ah _) _⟩
theorem y01(f:Nat)(w:World):(method 610 251 (.float .f64 f) "loop.example/meaning/impl.value").run Tryz.prog w=.ok (284,.float .f64 f) w:=by kernel_rfl
theorem zk8(f:Nat)(w:World):Calls Tryz.prog 284 #[.float .f64 f] w fun e w'=>e=.returned (iJ 3 0 f ⟨#[]⟩ 0)/\gZ w w':=by
 go_in;go_wp2;exact aG (v:=iJ 3 0 f ⟨#[]⟩ 0) (by simp[results,Tryz.results284,go_sem]) rfl ⟨rfl,q01 _ _⟩
theorem qx8(f:Nat)(w:World):Calls Tryz.prog 315 #[.iface 251 (.float .f64 f)] w fun e w'=>e=.returned (gV 0 3 0 f ⟨#[]⟩ 0)/\gZ w w':=by
 have hm:=fun w=>y01 f w;go_in;go_wp2_with (go_at_call 284;refine(zk8 f _).mono ?_;rintro e w1 ⟨rfl,eu⟩;obtain⟨hc1,hf1⟩:=iW eu);exact aG (v:=gV 0 3 0 f ⟨#[]⟩ 0) (by simp[results,Tryz.results315,go_sem,hc1]) rfl ⟨rfl,((((((iq (q01 _ _) eu).setCell (ah _) _).setCell (ah _) _).setCell (ah _) _).setCell (ah _) _).setCell (ah _) _).setCell (ah _) _⟩
theorem zx1(s:ByteArray)(w:World):Calls Tryz.prog 86 #[.string s] w fun e w'=>e=.returned (iJ 4 0 0 s 0)/\gZ w w':=by
 go_in;go_wp2;exact aG (v:=iJ 4 0 0 s 0) (by simp[results,Tryz.results86,go_sem]) rfl ⟨rfl,q01 _ _⟩
theorem uQ(k n:Int)(f:Nat)(s:ByteArray)(r:Int)(w:World):Calls Tryz.prog 154 #[iJ k n f s r] w fun e w'=>e=.returned (.bool (lY k n f s r))/\gZ w w':=by
 by_cases c1:k=1
 ·subst c1;go_in;go_wp2;all_goals(go_ret;exact⟨jH (by simp_all [lY,fz,se]),(ay _ _).alloc (ah _) _⟩)
 by_cases c2:k=2
 ·subst c2;go_in;go_wp2;all_goals(go_ret;exact⟨jH (by simp_all [lY,fz,se]),(ay _ _).alloc (ah _) _⟩)
 by_cases c8:k=8
 ·subst c8;go_in;go_wp2;all_goals(go_ret;exact⟨jH (by simp_all [lY,fz,se]),(ay _ _).alloc (ah _) _⟩)
 by_cases c3:k=3
 ·subst c3;have z0:=Eu;go_in;go_wp2;all_goals(go_ret;exact⟨jH (by simp_all [lY,se]),(ay _ _).alloc (ah _) _⟩)
 by_cases c4:k=4
 ·subst c4;go_in;go_wp2;all_goals(go_ret;exact⟨jH (by simp_all [lY,fz]),(ay _ _).alloc (ah _) _⟩)
 by_cases c5:k=5
 ·subst c5;go_in;go_wp2;all_goals(go_ret;exact⟨jH (by simp_all [lY,fz,se]),(ay _ _).alloc (ah _) _⟩)
 by_cases c6:k=6
 ·subst c6;go_in;go_wp2;all_goals(go_ret;exact⟨jH (by simp_all [lY,fz,se]),(ay _ _).alloc (ah _) _⟩)
 by_cases c7:k=7
 ·subst c7;go_in;go_wp2;all_goals(go_ret;exact⟨jH (by simp_all [lY,fz,se]),(ay _ _).alloc (ah _) _⟩)
 go_in;go_wp2;all_goals(go_ret;exact⟨jH (by simp_all [lY,fz,se]),(ay _ _).alloc (ah _) _⟩)
def uf(k n:Int)(f:Nat)(s:ByteArray)(r:Int):Value:=
 if k=0 then .iface 248 (.agg #[])
 else if k=1 then .iface 249 (.bool (n==1))
 else if k=2 then .iface 250 (.int .i64 n)
 else if k=3 then .iface 251 (.float .f64 f)
 else if k=4 then .iface 169 (.string s)
 else if k=8 then .iface 254 (.int .i64 n)
 else .iface 253 (.agg #[.int .i64 k,.int .i64 r])
def kE(k n:Int)(f:Nat)(s:ByteArray)(r:Int):Value:=if okB k n f s r then uf k n f s r else .nilIface
theorem yh4(k n:Int)(f:Nat)(s:ByteArray)(r:Int)(w:World)(h:lY k n f s r=false):Calls Tryz.prog 97 #[iJ k n f s r] w fun e w'=>e=.returned (kE k n f s r)/\gZ w w':=by
 have e1:kE k n f s r=.nilIface:=by simp[kE,okB,h]
 rw[e1];clear e1;go_in;go_wp2_with (go_at_call 154;refine(uQ _ _ _ _ _ _).mono ?_;rintro e w1 ⟨rfl,hb⟩;obtain⟨hc,hf⟩:=iW hb);go_ret;exact⟨rfl,iq (q01 _ _) hb⟩
theorem j45(n:Int)(f:Nat)(s:ByteArray)(r:Int)(w:World)(h:lY 0 n f s r=true):Calls Tryz.prog 97 #[iJ 0 n f s r] w fun e w'=>e=.returned (.iface 248 (.agg #[]))/\gZ w w':=by
 go_in;go_wp2_with (go_at_call 154;refine(uQ _ _ _ _ _ _).mono ?_;rintro e w1 ⟨rfl,hb⟩;obtain⟨hc,hf⟩:=iW hb);go_ret;exact⟨rfl,iq (q01 _ _) hb⟩
theorem yh7(n:Int)(f:Nat)(s:ByteArray)(r:Int)(w:World)(h:lY 1 n f s r=true)(hn:n=0):Calls Tryz.prog 97 #[iJ 1 n f s r] w fun e w'=>e=.returned (.iface 249 (.bool false))/\gZ w w':=by
 subst hn;go_in;go_wp2_with (go_at_call 154;refine(uQ _ _ _ _ _ _).mono ?_;rintro e w1 ⟨rfl,hb⟩;obtain⟨hc,hf⟩:=iW hb);go_ret;exact⟨rfl,iq (q01 _ _) hb⟩
theorem yh6(n:Int)(f:Nat)(s:ByteArray)(r:Int)(w:World)(h:lY 1 n f s r=true)(hn:n=1):Calls Tryz.prog 97 #[iJ 1 n f s r] w fun e w'=>e=.returned (.iface 249 (.bool true))/\gZ w w':=by
 subst hn;go_in;go_wp2_with (go_at_call 154;refine(uQ _ _ _ _ _ _).mono ?_;rintro e w1 ⟨rfl,hb⟩;obtain⟨hc,hf⟩:=iW hb);go_ret;exact⟨rfl,iq (q01 _ _) hb⟩
theorem y57(n:Int)(f:Nat)(s:ByteArray)(r:Int)(w:World)(h:lY 1 n f s r=true)(h0:n≠0)(h1:n≠1):Calls Tryz.prog 97 #[iJ 1 n f s r] w fun e w'=>e=.returned .nilIface/\gZ w w':=by
 have a0:(n==0)=false:=by simpa using h0
 have a1:(n==1)=false:=by simpa using h1
 go_in;go_wp2_with (go_at_call 154;refine(uQ _ _ _ _ _ _).mono ?_;rintro e w1 ⟨rfl,hb⟩;obtain⟨hc,hf⟩:=iW hb);go_ret;exact⟨rfl,iq (q01 _ _) hb⟩
theorem j46(n:Int)(f:Nat)(s:ByteArray)(r:Int)(w:World)(h:lY 2 n f s r=true):Calls Tryz.prog 97 #[iJ 2 n f s r] w fun e w'=>e=.returned (.iface 250 (.int .i64 n))/\gZ w w':=by
 go_in;go_wp2_with (go_at_call 154;refine(uQ _ _ _ _ _ _).mono ?_;rintro e w1 ⟨rfl,hb⟩;obtain⟨hc,hf⟩:=iW hb);go_ret;exact⟨rfl,iq (q01 _ _) hb⟩
theorem j47(n:Int)(f:Nat)(s:ByteArray)(r:Int)(w:World)(h:lY 3 n f s r=true):Calls Tryz.prog 97 #[iJ 3 n f s r] w fun e w'=>e=.returned (.iface 251 (.float .f64 f))/\gZ w w':=by
 go_in;go_wp2_with (go_at_call 154;refine(uQ _ _ _ _ _ _).mono ?_;rintro e w1 ⟨rfl,hb⟩;obtain⟨hc,hf⟩:=iW hb);go_ret;exact⟨rfl,iq (q01 _ _) hb⟩
theorem j44(n:Int)(f:Nat)(s:ByteArray)(r:Int)(w:World)(h:lY 4 n f s r=true)(hs:s.size<=4000):Calls Tryz.prog 97 #[iJ 4 n f s r] w fun e w'=>e=.returned (.iface 169 (.string s))/\gZ w w':=by
 go_in;go_wp2_with (go_at_call 154;refine(uQ _ _ _ _ _ _).mono ?_;rintro e w1 ⟨rfl,hb⟩;obtain⟨hc,hf⟩:=iW hb);go_ret;exact⟨rfl,iq (q01 _ _) hb⟩
theorem yh3(n:Int)(f:Nat)(s:ByteArray)(r:Int)(w:World)(h:lY 4 n f s r=true)(hs:4000<s.size):Calls Tryz.prog 97 #[iJ 4 n f s r] w fun e w'=>e=.returned .nilIface/\gZ w w':=by
 go_in;go_wp2_with (go_at_call 154;refine(uQ _ _ _ _ _ _).mono ?_;rintro e w1 ⟨rfl,hb⟩;obtain⟨hc,hf⟩:=iW hb);go_ret;exact⟨rfl,iq (q01 _ _) hb⟩
theorem yw4(n:Int)(f:Nat)(s:ByteArray)(r:Int)(w:World)(h:lY 5 n f s r=true)(hr:0<=r):Calls Tryz.prog 97 #[iJ 5 n f s r] w fun e w'=>e=.returned (.iface 253 (.agg #[.int .i64 5,.int .i64 r]))/\gZ w w':=by
 go_in;go_wp2_with (go_at_call 154;refine(uQ _ _ _ _ _ _).mono ?_;rintro e w1 ⟨rfl,hb⟩;obtain⟨hc,hf⟩:=iW hb);go_ret;exact⟨rfl,iq (q01 _ _) hb⟩
theorem y56(n:Int)(f:Nat)(s:ByteArray)(r:Int)(w:World)(h:lY 5 n f s r=true)(hr:r<0):Calls Tryz.prog 97 #[iJ 5 n f s r] w fun e w'=>e=.returned .nilIface/\gZ w w':=by
 go_in;go_wp2_with (go_at_call 154;refine(uQ _ _ _ _ _ _).mono ?_;rintro e w1 ⟨rfl,hb⟩;obtain⟨hc,hf⟩:=iW hb);go_ret;exact⟨rfl,iq (q01 _ _) hb⟩
theorem yw3(n:Int)(f:Nat)(s:ByteArray)(r:Int)(w:World)(h:lY 6 n f s r=true)(hr:0<=r):Calls Tryz.prog 97 #[iJ 6 n f s r] w fun e w'=>e=.returned (.iface 253 (.agg #[.int .i64 6,.int .i64 r]))/\gZ w w':=by
 go_in;go_wp2_with (go_at_call 154;refine(uQ _ _ _ _ _ _).mono ?_;rintro e w1 ⟨rfl,hb⟩;obtain⟨hc,hf⟩:=iW hb);go_ret;exact⟨rfl,iq (q01 _ _) hb⟩
theorem y55(n:Int)(f:Nat)(s:ByteArray)(r:Int)(w:World)(h:lY 6 n f s r=true)(hr:r<0):Calls Tryz.prog 97 #[iJ 6 n f s r] w fun e w'=>e=.returned .nilIface/\gZ w w':=by
 go_in;go_wp2_with (go_at_call 154;refine(uQ _ _ _ _ _ _).mono ?_;rintro e w1 ⟨rfl,hb⟩;obtain⟨hc,hf⟩:=iW hb);go_ret;exact⟨rfl,iq (q01 _ _) hb⟩
theorem yw2(n:Int)(f:Nat)(s:ByteArray)(r:Int)(w:World)(h:lY 7 n f s r=true)(hr:0<=r):Calls Tryz.prog 97 #[iJ 7 n f s r] w fun e w'=>e=.returned (.iface 253 (.agg #[.int .i64 7,.int .i64 r]))/\gZ w w':=by
 go_in;go_wp2_with (go_at_call 154;refine(uQ _ _ _ _ _ _).mono ?_;rintro e w1 ⟨rfl,hb⟩;obtain⟨hc,hf⟩:=iW hb);go_ret;exact⟨rfl,iq (q01 _ _) hb⟩
theorem y54(n:Int)(f:Nat)(s:ByteArray)(r:Int)(w:World)(h:lY 7 n f s r=true)(hr:r<0):Calls Tryz.prog 97 #[iJ 7 n f s r] w fun e w'=>e=.returned .nilIface/\gZ w w':=by
 go_in;go_wp2_with (go_at_call 154;refine(uQ _ _ _ _ _ _).mono ?_;rintro e w1 ⟨rfl,hb⟩;obtain⟨hc,hf⟩:=iW hb);go_ret;exact⟨rfl,iq (q01 _ _) hb⟩
theorem j48(n:Int)(f:Nat)(s:ByteArray)(r:Int)(w:World)(h:lY 8 n f s r=true)(h0:0<=n)(h1:n<15):Calls Tryz.prog 97 #[iJ 8 n f s r] w fun e w'=>e=.returned (.iface 254 (.int .i64 n))/\gZ w w':=by
 go_in;go_wp2_with (go_at_call 154;refine(uQ _ _ _ _ _ _).mono ?_;rintro e w1 ⟨rfl,hb⟩;obtain⟨hc,hf⟩:=iW hb);go_ret;exact⟨rfl,iq (q01 _ _) hb⟩
theorem yh8(n:Int)(f:Nat)(s:ByteArray)(r:Int)(w:World)(h:lY 8 n f s r=true)(h0:n<0):Calls Tryz.prog 97 #[iJ 8 n f s r] w fun e w'=>e=.returned .nilIface/\gZ w w':=by
 go_in;go_wp2_with (go_at_call 154;refine(uQ _ _ _ _ _ _).mono ?_;rintro e w1 ⟨rfl,hb⟩;obtain⟨hc,hf⟩:=iW hb);go_ret;exact⟨rfl,iq (q01 _ _) hb⟩
theorem yh9(n:Int)(f:Nat)(s:ByteArray)(r:Int)(w:World)(h:lY 8 n f s r=true)(h0:0<=n)(h1:15<=n):Calls Tryz.prog 97 #[iJ 8 n f s r] w fun e w'=>e=.returned .nilIface/\gZ w w':=by
 go_in;go_wp2_with (go_at_call 154;refine(uQ _ _ _ _ _ _).mono ?_;rintro e w1 ⟨rfl,hb⟩;obtain⟨hc,hf⟩:=iW hb);go_ret;exact⟨rfl,iq (q01 _ _) hb⟩
theorem yw5(k n:Int)(f:Nat)(s:ByteArray)(r:Int)(w:World)(h:lY k n f s r=true)(hk:k<0\/8<k):Calls Tryz.prog 97 #[iJ k n f s r] w fun e w'=>e=.returned .nilIface/\gZ w w':=by
 have a0:(k==0)=false:=by simp;omega
 have a1:(k==1)=false:=by simp;omega
 have a2:(k==2)=false:=by simp;omega
 have a3:(k==3)=false:=by simp;omega
 have a4:(k==4)=false:=by simp;omega
 have a5:(k==5)=false:=by simp;omega
 have a6:(k==6)=false:=by simp;omega
 have a7:(k==7)=false:=by simp;omega
 have a8:(k==8)=false:=by simp;omega
 go_in;go_wp2_with (go_at_call 154;refine(uQ _ _ _ _ _ _).mono ?_;rintro e w1 ⟨rfl,hb⟩;obtain⟨hc,hf⟩:=iW hb);go_ret;exact⟨rfl,iq (q01 _ _) hb⟩
theorem Zz(k n:Int)(f:Nat)(s:ByteArray)(r:Int)(w:World):Calls Tryz.prog 97 #[iJ k n f s r] w fun e w'=>e=.returned (kE k n f s r)/\gZ w w':=by
 cases h:lY k n f s r
 ·exact yh4 k n f s r w h
 by_cases hk:k<0\/8<k
 ·have e:kE k n f s r=.nilIface:=by
   have a:nH k n s r=false:=by
    unfold nH;rw[au (by omega),au (by omega),au (by omega),au (by omega),au (by omega),au (by omega),au (by omega)]
   simp[kE,okB,a]
  rw[e];exact yw5 k n f s r w h hk
 have hk':k=0\/k=1\/k=2\/k=3\/k=4\/k=5\/k=6\/k=7\/k=8:=by omega
 rcases hk' with rfl|rfl|rfl|rfl|rfl|rfl|rfl|rfl|rfl
 ·rw[show kE 0 n f s r=.iface 248 (.agg #[]) by simp[kE,uf,okB,nH,h]];exact j45 n f s r w h
 ·by_cases h0:n=0
  ·rw[show kE 1 n f s r=.iface 249 (.bool false) by subst h0;simp[kE,uf,okB,nH,h]];exact yh7 n f s r w h h0
  by_cases h1:n=1
  ·rw[show kE 1 n f s r=.iface 249 (.bool true) by subst h1;simp[kE,uf,okB,nH,h]];exact yh6 n f s r w h h1
  rw[show kE 1 n f s r=.nilIface by simp[kE,okB,nH,h0,h1]];exact y57 n f s r w h h0 h1
 ·rw[show kE 2 n f s r=.iface 250 (.int .i64 n) by simp[kE,uf,okB,nH,h]];exact j46 n f s r w h
 ·rw[show kE 3 n f s r=.iface 251 (.float .f64 f) by simp[kE,uf,okB,nH,h]];exact j47 n f s r w h
 ·by_cases h0:(s.size:Int)<=4000
  ·rw[show kE 4 n f s r=.iface 169 (.string s) by simp[kE,uf,okB,nH,h,h0]];exact j44 n f s r w h (by omega)
  rw[show kE 4 n f s r=.nilIface by simp[kE,okB,nH,h0]];exact yh3 n f s r w h (by omega)
 ·by_cases h0:0<=r
  ·rw[show kE 5 n f s r=.iface 253 (.agg #[.int .i64 5,.int .i64 r]) by simp[kE,uf,okB,nH,h,h0]];exact yw4 n f s r w h h0
  rw[show kE 5 n f s r=.nilIface by simp[kE,okB,nH,h0]];exact y56 n f s r w h (by omega)
 ·by_cases h0:0<=r
  ·rw[show kE 6 n f s r=.iface 253 (.agg #[.int .i64 6,.int .i64 r]) by simp[kE,uf,okB,nH,h,h0]];exact yw3 n f s r w h h0
  rw[show kE 6 n f s r=.nilIface by simp[kE,okB,nH,h0]];exact y55 n f s r w h (by omega)
 ·by_cases h0:0<=r
  ·rw[show kE 7 n f s r=.iface 253 (.agg #[.int .i64 7,.int .i64 r]) by simp[kE,uf,okB,nH,h,h0]];exact yw2 n f s r w h h0
  rw[show kE 7 n f s r=.nilIface by simp[kE,okB,nH,h0]];exact y54 n f s r w h (by omega)
 ·by_cases h0:0<=n
  ·by_cases h1:n<15
   ·rw[show kE 8 n f s r=.iface 254 (.int .i64 n) by simp[kE,uf,okB,nH,h,h0,h1]];exact j48 n f s r w h h0 h1
   rw[show kE 8 n f s r=.nilIface by simp[kE,okB,nH,h1]];exact yh9 n f s r w h h0 (by omega)
  rw[show kE 8 n f s r=.nilIface by simp[kE,okB,nH,h0]];exact yh8 n f s r w h (by omega)
end
section
open Go.RowKit
theorem yh5(k n:Int)(f:Nat)(s:ByteArray)(r:Int):(okB k n f s r=false/\kE k n f s r=.nilIface)\/(okB k n f s r=true/\k=0/\kE k n f s r=.iface 248 (.agg #[]))\/(okB k n f s r=true/\k=1/\(n=0\/n=1)/\kE k n f s r=.iface 249 (.bool (n==1)))\/(okB k n f s r=true/\k=2/\kE k n f s r=.iface 250 (.int .i64 n))\/(okB k n f s r=true/\k=3/\kE k n f s r=.iface 251 (.float .f64 f))\/(okB k n f s r=true/\k=4/\s.size<=4000/\kE k n f s r=.iface 169 (.string s))\/(okB k n f s r=true/\k=8/\0<=n/\n<15/\kE k n f s r=.iface 254 (.int .i64 n))\/(okB k n f s r=true/\(k=5\/k=6\/k=7)/\0<=r/\kE k n f s r=.iface 253 (.agg #[.int .i64 k,.int .i64 r])):=by
 cases h:okB k n f s r
 ·exact .inl ⟨rfl,by simp[kE,h]⟩
 ·right;have hu:nH k n s r=true:=by simp only[okB,aY] at h;exact h.2
  have ht:kE k n f s r=uf k n f s r:=by simp[kE,h]
  rw[ht];unfold nH at hu;by_cases c0:k=0
  ·exact .inl ⟨rfl,c0,by simp[uf,c0]⟩
  right;rw[au c0] at hu;by_cases c1:k=1
  ·rw[aO c1] at hu;exact .inl ⟨rfl,c1,by simpa using hu,by simp[uf,c1]⟩
  right;rw[au c1] at hu;by_cases c2:k=2
  ·exact .inl ⟨rfl,c2,by simp[uf,c2]⟩
  right;rw[au c2] at hu;by_cases c3:k=3
  ·exact .inl ⟨rfl,c3,by simp[uf,c3]⟩
  right;rw[au c3] at hu;by_cases c4:k=4
  ·rw[aO c4] at hu;exact .inl ⟨rfl,c4,by simp at hu;omega,by simp[uf,c4]⟩
  right;rw[au c4] at hu;by_cases c8:k=8
  ·rw[au (by omega),aO c8] at hu;simp at hu;exact .inl ⟨rfl,c8,hu.1,hu.2,by simp[uf,c8]⟩
  right;by_cases c5:k=5\/k=6\/k=7
  ·rw[aO c5] at hu;refine⟨rfl,c5,by simpa using hu,?_⟩;unfold uf;rw[au c0,au c1,au c2,au c3,au c4,au c8]
  ·rw[au c5,au c8] at hu
   cases hu
end
section
open Go.RowKit
attribute [local go_sem] iD
theorem yg2(k n:Int)(f:Nat)(s:ByteArray)(r:Int)(w:World):Calls Tryz.prog 72 #[iJ k n f s r,.bool false,.bool false,.bool false,.bool false] w fun e w'=>e=.returned (.bool (n==0 && fz f && se s && r==0))/\gZ w w':=by
 go_in;go_wp2;all_goals(go_ret;exact⟨jH (by simp_all [fz,se]),q01 _ _⟩)
theorem z65(k n:Int)(f:Nat)(s:ByteArray)(r:Int)(w:World):Calls Tryz.prog 72 #[iJ k n f s r,.bool true,.bool false,.bool false,.bool false] w fun e w'=>e=.returned (.bool (fz f && se s && r==0))/\gZ w w':=by
 go_in;go_wp2;all_goals(go_ret;exact⟨jH (by simp_all [fz,se]),q01 _ _⟩)
theorem yg1(k n:Int)(f:Nat)(s:ByteArray)(r:Int)(w:World):Calls Tryz.prog 72 #[iJ k n f s r,.bool false,.bool true,.bool false,.bool false] w fun e w'=>e=.returned (.bool (n==0 && se s && r==0))/\gZ w w':=by
 go_in;go_wp2;all_goals(go_ret;exact⟨jH (by simp_all [se]),q01 _ _⟩)
theorem yg0(k n:Int)(f:Nat)(s:ByteArray)(r:Int)(w:World):Calls Tryz.prog 72 #[iJ k n f s r,.bool false,.bool false,.bool true,.bool false] w fun e w'=>e=.returned (.bool (n==0 && fz f && r==0))/\gZ w w':=by
 go_in;go_wp2;all_goals(go_ret;exact⟨jH (by simp_all [fz]),q01 _ _⟩)
theorem z63(k n:Int)(f:Nat)(s:ByteArray)(r:Int)(w:World):Calls Tryz.prog 72 #[iJ k n f s r,.bool false,.bool false,.bool false,.bool true] w fun e w'=>e=.returned (.bool (n==0 && fz f && se s))/\gZ w w':=by
 go_in;go_wp2;all_goals(go_ret;exact⟨jH (by simp_all [fz,se]),q01 _ _⟩)
theorem zf0(k n:Int)(f:Nat)(s:ByteArray)(r:Int)(w:World):Calls Tryz.prog 36 #[iJ k n f s r] w fun e w'=>e=.returned (.bool (okB k n f s r))/\gZ w w':=by
 by_cases c0:k=0
 ·subst c0;go_in;go_wp2_with (go_at_call 72;refine(yg2 _ _ _ _ _ _).mono ?_;rintro e w1 ⟨rfl,hb⟩;obtain⟨hc,hf⟩:=iW hb);all_goals(go_ret;exact⟨jH (by simp_all [okB,lY,nH]),iq (q01 _ _) hb⟩)
 by_cases c1:k=1
 ·subst c1;go_in;go_wp2_with (go_at_call 72;refine(z65 _ _ _ _ _ _).mono ?_;rintro e w1 ⟨rfl,hb⟩;obtain⟨hc,hf⟩:=iW hb);all_goals(go_ret;exact⟨jH (by simp_all [okB,lY,nH]),iq (q01 _ _) hb⟩)
 by_cases c2:k=2
 ·subst c2;go_in;go_wp2_with (go_at_call 72;refine(z65 _ _ _ _ _ _).mono ?_;rintro e w1 ⟨rfl,hb⟩;obtain⟨hc,hf⟩:=iW hb);all_goals(go_ret;exact⟨jH (by simp_all [okB,lY,nH]),iq (q01 _ _) hb⟩)
 by_cases c3:k=3
 ·subst c3;go_in;go_wp2_with (go_at_call 72;refine(yg1 _ _ _ _ _ _).mono ?_;rintro e w1 ⟨rfl,hb⟩;obtain⟨hc,hf⟩:=iW hb);all_goals(go_ret;exact⟨jH (by simp_all [okB,lY,nH]),iq (q01 _ _) hb⟩)
 by_cases c4:k=4
 ·subst c4;go_in;go_wp2_with (go_at_call 72;refine(yg0 _ _ _ _ _ _).mono ?_;rintro e w1 ⟨rfl,hb⟩;obtain⟨hc,hf⟩:=iW hb);all_goals(go_ret;exact⟨jH (by simp_all [okB,lY,nH]),iq (q01 _ _) hb⟩)
 by_cases c5:k=5
 ·subst c5;go_in;go_wp2_with (go_at_call 72;refine(z63 _ _ _ _ _ _).mono ?_;rintro e w1 ⟨rfl,hb⟩;obtain⟨hc,hf⟩:=iW hb);all_goals(go_ret;exact⟨jH (by simp_all [okB,lY,nH]),iq (q01 _ _) hb⟩)
 by_cases c6:k=6
 ·subst c6;go_in;go_wp2_with (go_at_call 72;refine(z63 _ _ _ _ _ _).mono ?_;rintro e w1 ⟨rfl,hb⟩;obtain⟨hc,hf⟩:=iW hb);all_goals(go_ret;exact⟨jH (by simp_all [okB,lY,nH]),iq (q01 _ _) hb⟩)
 by_cases c7:k=7
 ·subst c7;go_in;go_wp2_with (go_at_call 72;refine(z63 _ _ _ _ _ _).mono ?_;rintro e w1 ⟨rfl,hb⟩;obtain⟨hc,hf⟩:=iW hb);all_goals(go_ret;exact⟨jH (by simp_all [okB,lY,nH]),iq (q01 _ _) hb⟩)
 by_cases c8:k=8
 ·subst c8;go_in;go_wp2_with (go_at_call 72;refine(z65 _ _ _ _ _ _).mono ?_;rintro e w1 ⟨rfl,hb⟩;obtain⟨hc,hf⟩:=iW hb);all_goals(go_ret;exact⟨jH (by simp_all [okB,lY,nH]<;>omega),iq (q01 _ _) hb⟩)
 have e1:okB k n f s r=false:=by
  have a:nH k n s r=false:=by
   unfold nH;rw[au (by omega),au (by omega),au (by omega),au (by omega),au (by omega),au (by omega),au (by omega)]
  simp[okB,a]
 rw[e1];have a0:(k==0)=false:=by simpa using c0
 have a1:(k==1)=false:=by simpa using c1
 have a2:(k==2)=false:=by simpa using c2
 have a3:(k==3)=false:=by simpa using c3
 have a4:(k==4)=false:=by simpa using c4
 have a5:(k==5)=false:=by simpa using c5
 have a6:(k==6)=false:=by simpa using c6
 have a7:(k==7)=false:=by simpa using c7
 have a8:(k==8)=false:=by simpa using c8
 go_in;go_wp2;go_ret;exact⟨rfl,q01 _ _⟩
end
end Go.Proofs.YthnkncpegihbhaaGreatDoor
