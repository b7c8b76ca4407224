import Derived.Test.YtaimofjekgnieaaGreatDoorQbA
import Derived.Test.YtaimofjekgnieaaGreatDoorGqA
import Derived.Test.YtaimofjekgnieaaGreatDoorQbC
set_option maxRecDepth 100000
set_option maxHeartbeats 16000000
namespace Go.Proofs.YtaimofjekgnieaaGreatDoor
open Go.RowKit
attribute [local go_sem] q00
attribute [local go_sem ↓] Go.wp_at_zero Go.wp_at_succ
theorem qf8 (P:Program) (w:World) (a:Addr) (m:Mode) (c:Option Nat):(store a (.chan c) m).run P w=stored P w a (.chan c) m:=run_store P w a _ m rfl
attribute [local go_sem] qf8
abbrev mY (tk dp ce:Int) (fns bod en:Value) (tks run:Value):Array Value:=#[fns,.slice none 0 0,.slice none 0 0,.int .i64 tk,.int .i64 dp,.int .i64 ce,wchV,bod,.int .i64 0,.slice none 0 0,.slice none 0 0,.string ⟨#[]⟩,.string ⟨#[]⟩,.int .i64 0,.int .i64 0,.int .i64 0,.slice none 0 0,.slice none 0 0,tks,.slice none 0 0,.int .i64 0,.int .i64 0,.int .i64 0,run,en,.int .u64 0,.int .u32 0]
abbrev tY (st:Int) (c1 c2 c3:Value):Array Value:=#[.int .i64 0,.int .i64 st,.int .i64 0,.int .i64 0,.float .f64 0,.string ⟨#[]⟩,.int .i64 0,.slice none 0 0,.slice none 0 0,.pointer none,c1,c2,c3,.bool false,.pointer none,.int .i64 0,.int .i64 0]
def y92 (tk dp ce:Int) (M:Nat) (fns bod en:Value) (w:World) (T:Nat) (w':World):Prop:=∃ tks c1 c2 c3,OwnB w' M (mY tk dp ce fns bod en tks (.pointer none))/\OwnB w' T (tY 0 c1 c2 c3)/\Gx (fun k=>k=M) w w'/\w.heap.size<=T/\T<w'.heap.size/\BkT w' M 81/\BkT w' T 120
theorem zy5:(Tryz.prog.info? 68).map (fun i=>(i.zero,i.size,i.bytes))=some (some (.pointer none),1,8):=by kernel_rfl
theorem zn0 (v:World) (o:Obj) (A:Array Value) (t:TypeId):BkT ((v.alloc o).alloc (.cells A t)).drew (v.heap.size+1) t:=by
 have h:=BkT.new (v.alloc o) A t
 rw[World.size_alloc] at h
 exact h
theorem BkT.alloc {w:World} {B:Nat} {t:TypeId} (h:BkT w B t) (o:Obj):BkT (w.alloc o) B t:=h.keep (Below.heap_alloc _ _ _ h.lt)
theorem BkT.drew {w:World} {B:Nat} {t:TypeId} (h:BkT w B t):BkT w.drew B t:=h
theorem own3 {w:World} {T:Nat} {a b c:Value} (h:OwnB w T (tY 0 a b c)) (x y z:Value):OwnB (((w.setCell ⟨T,10,none⟩ x).setCell ⟨T,11,none⟩ y).setCell ⟨T,12,none⟩ z) T (tY 0 x y z):=((h.set (o:=10) (by show 10<17;omega) x).set (o:=11) (by show 11<17;omega) y).set (o:=12) (by show 12<17;omega) z
theorem zk8 (v:World) :
  (Instr.makeChan 116 (.int .i64 0)).run Tryz.prog v=.ok (.chan (some v.heap.size)) (v.alloc (.chan 0 #[] false 0 0 false))/\
  (Instr.makeChan 69 (.int .i64 0)).run Tryz.prog v=.ok (.chan (some v.heap.size)) (v.alloc (.chan 0 #[] false 0 0 false))/\
  (Instr.makeChan 117 (.int .i64 0)).run Tryz.prog v=.ok (.chan (some v.heap.size)) (v.alloc (.chan 0 #[] false 0 0 false)):=by
 refine ⟨?_,?_,?_⟩<;>kernel_rfl
theorem z05 (tk dp ce:Int) (M:Nat) (fns bod en:Value) (w:World) (h:OwnB w M (mY tk dp ce fns bod en (.slice none 0 0) (.pointer none))) (hY:BkT w M 81) :
  Calls Tryz.prog 48 #[ptr M,.agg #[.int .i64 0,.int .i64 0,.float .f64 0,.string ⟨#[]⟩,.int .i64 0]] w fun e w'=>∃ T,e=.returned (ptr T)/\y92 tk dp ce M fns bod en w T w':=by
 have HM:Hid (OwnB w M (mY tk dp ce fns bod en (.slice none 0 0) (.pointer none))):=h
 have HY:Hid (BkT w M 81):=hY
 have m18:=h.1.cell 18 rfl
 have hMl:=h.1.1
 clear h hY
 go_enter Tryz.func48,Tryz.ntmps48
 have c1:=fun v=>(zk8 v).1
 have c2:=fun v=>(zk8 v).2.1
 have c3:=fun v=>(zk8 v).2.2
 go_upto_region 1 with fail
 go_cut [5] from 6 to 13 (fun v wc=>∃ T,v=ptr T/\Hid (Below w.heap.size w wc/\OwnB wc T (tY 0 (.chan none) (.chan none) (.chan none))/\w.heap.size<=T/\BkT wc T 120))
 case first=>
  go_region_with fail
  all_goals
   have HB1:Hid (Below w.heap.size w ((w.alloc (.cells #[.int .i64 0,.int .i64 0,.float .f64 0,.string ⟨#[]⟩,.int .i64 0] 113)).alloc (.cells (tY 0 (.chan none) (.chan none) (.chan none)) 120)).drew/\OwnB ((w.alloc (.cells #[.int .i64 0,.int .i64 0,.float .f64 0,.string ⟨#[]⟩,.int .i64 0] 113)).alloc (.cells (tY 0 (.chan none) (.chan none) (.chan none)) 120)).drew (w.heap.size+1) (tY 0 (.chan none) (.chan none) (.chan none))/\w.heap.size<=w.heap.size+1/\BkT ((w.alloc (.cells #[.int .i64 0,.int .i64 0,.float .f64 0,.string ⟨#[]⟩,.int .i64 0] 113)).alloc (.cells (tY 0 (.chan none) (.chan none) (.chan none)) 120)).drew (w.heap.size+1) 120):=⟨((q01 w _).alloc (by simp) _).drew,(q41 _ _ _ _).drew,by omega,zn0 _ _ _ _⟩
   go_wp2_with fail
   go_meet
   exact ⟨w.heap.size+1,rfl,HB1⟩
 case rest=>
  obtain ⟨T,rfl,H1⟩:=hcut
  rename World=>w1
  clear m18
  have t10:=H1.out.2.1.1.cell 10 rfl
  have t11:=H1.out.2.1.1.cell 11 rfl
  have t12:=H1.out.2.1.1.cell 12 rfl
  have tz:=H1.out.2.1.2
  have hT1:T<w1.heap.size:=H1.out.2.1.1.1
  have hT2:T<w1.heap.size+1:=by omega
  have hT3:T<w1.heap.size+1 + 1:=by omega
  go_upto_region 2 with fail
  go_cut [5] from 14 to 25 (fun v wc=>v=ptr T/\Hid (Below w.heap.size w wc/\(∃ c1 c2 c3,OwnB wc T (tY 0 c1 c2 c3))/\BkT wc T 120))
  case first=>
   go_region_with fail
   all_goals
    go_wp2_with fail
    go_meet
    refine ⟨rfl,?_,?_,?_⟩
    ·have h9:=H1.out.2.2.1
     (repeat (first|with_reducible exact H1.out.1|with_reducible refine q22 ?_|with_reducible refine q15 ?_ _|(with_reducible refine q29 ?_ _ h9)))
    ·refine ⟨?_,?_,?_,?_⟩
     rotate_left 3
     (repeat (first|with_reducible refine OwnB.drew ?_|with_reducible refine OwnB.alloc ?_ _))
     with_reducible exact own3 H1.out.2.1 _ _ _
    ·(repeat (first|with_reducible exact H1.out.2.2.2|with_reducible refine BkT.drew ?_|with_reducible refine BkT.alloc ?_ _|with_reducible refine BkT.set ?_ _ _))
  case rest=>
   obtain ⟨rfl,H2⟩:=hcut
   have HT:Hid (w.heap.size<=T):=H1.out.2.2.1
   clear H1 t10 t11 t12 tz hT1 hT2 hT3 c1 c2 c3
   have m18:wc.cell? ⟨M,18,none⟩=some (.slice none 0 0):=(World.cell?_of_block (a:=⟨M,18,none⟩) (H2.out.1.block M hMl)).trans (HM.out.1.cell 18 rfl)
   have mz:∀ o,wc.frozen? ⟨M,o,none⟩=false:=fun o=>(World.frozen?_of_block (a:=⟨M,o,none⟩) (H2.out.1.block M hMl)).trans (HM.out.2 o)
   obtain ⟨ta,hta⟩:∃ ta:Option Addr,Hid (ta=none):=⟨_,rfl⟩
   obtain ⟨tn,htn⟩:∃ tn:Nat,Hid (tn=0):=⟨_,rfl⟩
   obtain ⟨tc,htc⟩:∃ tc:Nat,Hid (tc=0):=⟨_,rfl⟩
   have htv:Hid (Value.slice none 0 0=.slice ta tn tc):=by rw[hta.out,htn.out,htc.out];exact rfl
   have hsz:=H2.out.1.size
   obtain ⟨i0,hi0,hy0,hy1,hy2⟩:=info_parts zy5
   obtain ⟨v',w7,happ,hown,hgrow,hnil,hat⟩:=run_append_own_at (P:=Tryz.prog) (wc.alloc (.cells #[ptr T] 68)) w.heap.size 67 67 68 i0 _ 1 8 Tryz.underlying67 hi0 hy0 hy1 hy2 rfl (by decide) (.slice none 0 0) 0 [] (World.ownsRow_nil _ _ _ _) ⟨wc.heap.size,0,none⟩ 1 1 [ptr T] rfl (cell_one_new _ _ _) (by simp[Value.oneCell']) (by unfold maxLen;omega) (by omega) (by simp;omega)
   have hg7:∀ k,k<wc.heap.size->w7.heap[k]?=wc.heap[k]?:=fun k hk=>(hgrow.block k (by simp;omega) (by simp[Value.ownBlock])).trans (Below.block (q01 _ _) _ hk)
   have hs7:=hgrow.size
   simp at hs7
   obtain ⟨oa',oc',rfl⟩:=q33 hown
   have HB7:Hid (Below w.heap.size w w7/\(∃ c1 c2 c3,OwnB w7 T (tY 0 c1 c2 c3))/\OwnB w7 M (mY tk dp ce fns bod en (.slice none 0 0) (.pointer none))/\BkT w7 M 81/\BkT w7 T 120):=by
    obtain ⟨c1,c2,c3,hO⟩:=H2.out.2.1
    exact ⟨(H2.out.1.alloc hsz _).grown hgrow (by simp;omega) (fun k e=>by cases e),⟨c1,c2,c3,hO.block (by omega) (hg7 _ hO.1.1)⟩,(HM.out.block hsz (H2.out.1.block M hMl)).block (by omega) (hg7 _ (by omega)),(HY.out.keep (H2.out.1.block M hMl)).keep (hg7 _ (by omega)),H2.out.2.2.keep (hg7 _ hO.1.1)⟩
   have m18':=(World.cell?_of_block (a:=⟨M,18,none⟩) (hg7 M (by omega))).trans m18
   have mz':=HB7.out.2.2.1.2
   have hM2:M<wc.heap.size:=by omega
   have hM7:M<w7.heap.size:=by omega
   rw[htv.out] at happ m18 m18'
   clear hs7 hg7 hown hgrow hnil hat htv hi0 hy0 hy1 hy2 hsz
   go_wp2_with (at_builtin;refine q25 (by rfl) _ _ _ _ (by rfl) (.slice ta tn tc) (.slice (some ⟨wc.heap.size,0,none⟩) 1 1) _ _ (by rfl) (by rfl) happ ?_)
   obtain ⟨q1,⟨c1,c2,c3,hO⟩,q3,q8,q9⟩:=HB7.out
   have q4:=HT.out
   exact bodyPost_ret (v:=ptr T) (by simp[results,Tryz.results48,go_sem]) rfl ⟨T,rfl,.slice oa' (0+1) oc',c1,c2,c3,q3.set (o:=18) (by show 18<27;omega) _,q05 hO (by omega),(Gx.below _ q1).trans (Gx.set w7 M 18 _) (fun _ _ e=>e),q4,by simpa using hO.1.1,q8.set _ _,q9.set _ _⟩
end Go.Proofs.YtaimofjekgnieaaGreatDoor
namespace Go.Proofs.YtaimofjekgnieaaGreatDoor
open Go.RowKit
attribute [local go_sem] q00
attribute [local go_sem ↓] Go.wp_at_zero Go.wp_at_succ
attribute [local go_sem] q45 qf8
theorem qb4 {P:Program} {ops:Array Oper} {o:Oper} {a:Act} {w:World} {K:Act->World->Prop} {Q:Exit->Act->World->Prop} {E:Prop} (hgd:o.guard=none) (f:Nat) (x:Operand) (t:TypeId) (ho:o.op=.call {callee:=.value (.func f),args:=#[x],argTypes:=#[t]}) (vx:Value) (hx:a.eval x=vx)
  (eg:∀ args w,(callFunc f args).run P w=.ok (.enter f args) w) (R:Ending->World->Prop) (hc:Calls P f #[vx] w R) (h:∀ e w',R e w'->∃ v,e=.returned v/\K (a.put o.dst v) w') :
  if Region.wanted o (yielded ops a.tmps)=true then Oper.wp P o a w K Q else E:=by
 have hw:Region.wanted o (yielded ops a.tmps)=true:=by simp[Region.wanted,hgd]
 rw[if_pos hw]
 have e1:(execOp a.eval o).run P w=.ok (.enter f #[vx]) w:=by
  unfold execOp
  simp[ho,resolve,invoke,eg,go_sem]
  simpa[Act.eval] using hx
 unfold Oper.wp
 rw[e1,Oper.upon_enter]
 refine hc.mono ?_
 intro e w' hr
 obtain ⟨v,rfl,hk⟩:=h e w' hr
 exact hk
theorem zz5 (v:World) (o:Obj):(v.alloc o).heap[v.heap.size]?=some o:=by
 show (v.heap.push o)[v.heap.size]?=some o
 exact Array.getElem?_push_size
abbrev mB (tk dp ce:Int) (fns:Value) (E:Nat) (oa:Option Addr) (k oc:Nat):Array Value:=mY tk dp ce fns (.slice oa k oc) (.chan (some E)) (.slice none 0 0) (.pointer none)
structure MkS (w:World) (tk dp ce:Int) (fns:Value) (M E:Nat) (Rs:Nat->Rel) (k:Nat) (oa:Option Addr) (oc:Nat) (Vs:Nat->Value) (u:World):Prop where
 bl:Below w.heap.size w u
 m:OwnB u M (mB tk dp ce fns E oa k oc)
 mw:w.heap.size<=M
 ym:BkT u M 81
 e:u.heap[E]?=some (.chan 0 #[] false 0 0 false)
 ew:w.heap.size<=E
 em:E≠M
 r:u.ownsRow w.heap.size 107 1 (.slice oa k oc) k ((List.range k).map Vs)
 l:∀ j,j<k->∃ (n:Nat) (u1:World),Rs j (Vs j) n u1/\M<n/\Fr n u1.heap.size u1 u/\u1.heap.size<=u.heap.size/\(∀ q,bkOf oa=some q->q<n\/u1.heap.size<=q)
section
variable {w:World} {tk dp ce:Int} {fns:Value} {M E:Nat} {Rs:Nat->Rel} {k:Nat} {oa:Option Addr} {oc:Nat} {Vs:Nat->Value} {u u' w7:World}
theorem MkS.call (h:MkS w tk dp ce fns M E Rs k oa oc Vs u) (hb:Below u.heap.size u u'):MkS w tk dp ce fns M E Rs k oa oc Vs u':=
 ⟨q02 h.bl hb,h.m.call hb,h.mw,h.ym.keep (hb.block _ h.m.1.1),(hb.block E (Array.getElem?_eq_some_iff.1 h.e).1).trans h.e,h.ew,h.em,q18 h.r hb,fun j hj=>by
  obtain ⟨n,u1,h1,h2,h3,h4,h5⟩:=h.l j hj
  exact ⟨n,u1,h1,h2,h3.call (Nat.le_refl _) hb,Nat.le_trans h4 hb.size,h5⟩⟩
theorem MkS.apart (h:MkS w tk dp ce fns M E Rs k oa oc Vs u):bkOf oa≠some M/\bkOf oa≠some E:=⟨fun e=>(q34 h.r e).ne h.ym (by decide) rfl,fun e=>by
 obtain ⟨A,fr,h1⟩:=q34 h.r e
 rw[h.e] at h1
 cases h1⟩
theorem MkS.mid (h:MkS w tk dp ce fns M E Rs k oa oc Vs u) (hg:u.grownBy w7 (Value.slice oa k oc).ownBlock):OwnB w7 M (mB tk dp ce fns E oa k oc):=by
 rw[q08] at hg
 exact h.m.block hg.size (hg.block _ h.m.1.1 (fun e=>h.apart.1 e.symm))
theorem MkS.push (h:MkS w tk dp ce fns M E Rs k oa oc Vs u) {V v':Value} {n:Nat} {u1:World} (hn1:Rs k V n u1) (hn2:M<n) (hn3:Fr n u1.heap.size u1 u) (hn4:u1.heap.size<=u.heap.size) (hn5:∀ q,bkOf oa=some q->q<n\/u1.heap.size<=q)
  (ho:w7.ownsRow w.heap.size 107 1 v' (k+1) (((List.range k).map Vs)++[V])) (hg:u.grownBy w7 (Value.slice oa k oc).ownBlock) (hat:v'.ownBlock=(Value.slice oa k oc).ownBlock\/v'.ownBlock=some u.heap.size) :
  ∃ oa' oc',v'=.slice oa' (k+1) oc'/\MkS w tk dp ce fns M E Rs (k+1) oa' oc' (fun j=>if j=k then V else Vs j) (w7.setCell ⟨M,7,none⟩ v'):=by
 obtain ⟨oa',oc',rfl⟩:=q33 ho
 have hm7:=h.mid hg
 have hap:=h.apart
 rw[q08] at hg
 rw[q08,q08] at hat
 have ym7:BkT w7 M 81:=h.ym.keep (hg.block _ h.m.1.1 (fun e=>hap.1 e.symm))
 have hEl:=(Array.getElem?_eq_some_iff.1 h.e).1
 have hne:∀ q,bkOf oa'=some q->q≠M:=fun q e=>(q34 ho e).ne ym7 (by decide)
 have hmv:∀ {n:Nat} {u1:World},Fr n u1.heap.size u1 u->u1.heap.size<=u.heap.size->(∀ q,bkOf oa=some q->q<n\/u1.heap.size<=q)->M<n->Fr n u1.heap.size u1 (w7.setCell ⟨M,7,none⟩ (.slice oa' (k+1) oc'))/\u1.heap.size<=(w7.setCell ⟨M,7,none⟩ (.slice oa' (k+1) oc')).heap.size/\(∀ q,bkOf oa'=some q->q<n\/u1.heap.size<=q):=fun hf hs h2 h3=>by
  refine ⟨⟨by have:=hg.size;simp;omega,fun q q1 q2=>?_⟩,by have:=hg.size;simp;omega,fun q e=>?_⟩
  ·refine (Below.heap_setCell _ ⟨M,7,none⟩ _ q (by show q≠M;omega)).trans ((hg.block q (by omega) (fun e=>?_)).trans (hf.k q q1 q2))
   rcases h2 q e.symm with c|c<;>omega
  ·rcases hat with c|c
   ·exact h2 q (c.symm.trans e)
   ·rw[c] at e;have:=Option.some.inj e;omega
 refine ⟨oa',oc',rfl,?_,hm7.set (o:=7) (by show 7<27;omega) _,h.mw,ym7.set _ _,?_,h.ew,h.em,?_,fun j hj=>?_⟩
 ·exact (h.bl.grown hg h.bl.size (fun q e=>(q09 h.r e).1)).setCell h.mw _
 ·exact (Below.heap_setCell _ ⟨M,7,none⟩ _ E h.em).trans ((hg.block E hEl (fun e=>hap.2 e.symm)).trans h.e)
 ·refine q16 ?_ _ (fun q e=>hne q ((q08 _ _ _).symm.trans e))
  have e:((List.range (k+1)).map fun j=>if j=k then V else Vs j)=((List.range k).map Vs)++[V]:=by
   rw[List.range_succ,List.map_append]
   congr 1
   ·refine List.map_congr_left fun j hj=>?_
    have:j<k:=by simpa using hj
    rw[if_neg (by omega)]
   ·simp
  rw[e]
  exact ho
 ·by_cases c:j=k
  ·subst c
   rw[if_pos rfl]
   obtain ⟨m1,m2,m3⟩:=hmv hn3 hn4 hn5 hn2
   exact ⟨n,u1,hn1,hn2,m1,m2,m3⟩
  ·rw[if_neg c]
   obtain ⟨n,u1,h1,h2,h3,h4,h5⟩:=h.l j (by omega)
   obtain ⟨m1,m2,m3⟩:=hmv h3 h4 h5 h2
   exact ⟨n,u1,h1,h2,m1,m2,m3⟩
end
theorem ye6 (w:World) (tk dp ce:Int) (fns:Value) (Rs:Nat->Rel) (Vs:Nat->Value) (B:Array Value) (t1 t2:TypeId):MkS w tk dp ce fns (w.heap.size+1 + 1+1) (w.heap.size+1 + 1) Rs 0 none 0 Vs ((((w.alloc (.cells #[fns] t1)).alloc (.cells B t2)).alloc (.chan 0 #[] false 0 0 false)).alloc (.cells (mB tk dp ce fns (w.heap.size+1 + 1) none 0 0) 81))/\Has ((((w.alloc (.cells #[fns] t1)).alloc (.cells B t2)).alloc (.chan 0 #[] false 0 0 false)).alloc (.cells (mB tk dp ce fns (w.heap.size+1 + 1) none 0 0) 81)) w.heap.size #[fns]:=by
 refine ⟨⟨q15 (q15 (q15 (q01 _ _) _) _) _,?_,by omega,?_,?_,by omega,by omega,World.ownsRow_nil _ _ _ _,fun j hj=>by omega⟩,(((Has.new w _ _).alloc _).alloc _).alloc _⟩
 ·have h:=q41 ((w.alloc (.cells #[fns] t1)).alloc (.cells B t2)) (.chan 0 #[] false 0 0 false) (mB tk dp ce fns (w.heap.size+1 + 1) none 0 0) 81
  rw[World.size_alloc,World.size_alloc] at h
  exact h
 ·have h:=zn0 ((w.alloc (.cells #[fns] t1)).alloc (.cells B t2)) (.chan 0 #[] false 0 0 false) (mB tk dp ce fns (w.heap.size+1 + 1) none 0 0) 81
  rw[World.size_alloc,World.size_alloc] at h
  exact h
 ·rw[Below.heap_alloc _ _ _ (by simp)]
  have h:=zz5 ((w.alloc (.cells #[fns] t1)).alloc (.cells B t2)) (.chan 0 #[] false 0 0 false)
  rw[World.size_alloc,World.size_alloc] at h
  exact h
structure NM (w:World) (tk dp ce:Nat) (fns:Value) (nf:Nat) (X:RX) (E:Nat) (Rs:Nat->Rel) (oa:Option Addr) (oc:Nat) (Vs:Nat->Value) (u:World):Prop where
 pm:Pm X u
 fn1:X.fns=fns
 bod:X.bod=.slice oa nf oc
 en:X.en=.chan (some E)
 ta:X.tk=tk/\X.dp=dp/\X.ce=ce
 b:MkS w (tk:Int) (dp:Int) (ce:Int) fns X.M E Rs nf oa oc Vs X.W
 k:Below w.heap.size w u
 e:u.heap[E]?=some (.chan 0 #[] false 0 0 false)
def y30 (w:World) (tk dp ce:Int) (fns:Value) (j:Nat) (R:Nat->Rel):Prop:=∀ M E oa k oc u,Below w.heap.size w u->w.heap.size<=M->OwnB u M (mB tk dp ce fns E oa k oc)->Calls Tryz.prog 46 #[ptr M,.int .i64 (j:Int)] u fun e u1=>∃ bb,e=.returned (ptr bb)/\Below u.heap.size u u1/\Calls Tryz.prog 47 #[ptr bb] u1 fun e u2=>∃ f x y,e=.returned (.func f x y)/\R M (.func f x y) u.heap.size u2/\Below u1.heap.size u1 u2
theorem qm1 (ub uo uc nf tk dp ce:Nat) (Rs:Nat->Nat->Rel) (w:World) (hnf:nf<=300) (hk:tk<=5000/\dp<=60/\ce<=20000) (hB:∀ j,j<nf->y30 w (tk:Int) (dp:Int) (ce:Int) (.slice (some ⟨ub,uo,none⟩) nf uc) j (fun M=>Rs M j)) :
  Calls Tryz.prog 26 #[.agg #[.slice (some ⟨ub,uo,none⟩) nf uc],.agg #[.slice none 0 0,.slice none 0 0,.int .i64 (tk:Int),.int .i64 (dp:Int),.int .i64 (ce:Int)],wchV] w fun e w'=>∃ X E oa oc Vs,e=.returned (ptr X.M)/\NM w tk dp ce (.slice (some ⟨ub,uo,none⟩) nf uc) nf X E (Rs X.M) oa oc Vs w':=by
 have HU:Hid ((∀ j,j<nf->y30 w (tk:Int) (dp:Int) (ce:Int) (.slice (some ⟨ub,uo,none⟩) nf uc) j (fun M=>Rs M j))/\tk<=5000/\dp<=60/\ce<=20000):=⟨hB,hk⟩
 have hmf:=q56
 have c2:=fun v=>(zk8 v).2.1
 clear hB hk
 go_enter Tryz.func26,Tryz.ntmps26
 go_upto_region 1 with fail
 go_cut [7] from 9 to 14 (fun v wc=>∃ M E,v=ptr M/\Hid (MkS w (tk:Int) (dp:Int) (ce:Int) (.slice (some ⟨ub,uo,none⟩) nf uc) M E (Rs M) 0 none 0 (fun _=>.bool false) wc/\Has wc w.heap.size #[.slice (some ⟨ub,uo,none⟩) nf uc]))
 case first=>
  go_region_with fail
  all_goals
   have HN:=ye6 w (tk:Int) (dp:Int) (ce:Int) (.slice (some ⟨ub,uo,none⟩) nf uc) (Rs (w.heap.size+1 + 1+1)) (fun _=>.bool false) #[.slice none 0 0,.slice none 0 0,.int .i64 (tk:Int),.int .i64 (dp:Int),.int .i64 (ce:Int)] 31 34
   go_wp2_with fail
   go_meet
   first
   |exact ⟨w.heap.size+1 + 1+1,w.heap.size+1 + 1,rfl,HN⟩
   |exact ⟨w.heap.size+1 + 1+1,w.heap.size+1 + 1,rfl,HN.1.call (Below.refl _ _).drew,HN.2.drew⟩
 case rest=>
  obtain ⟨M,E,rfl,H1⟩:=hcut
  have e0:=H1.out.2.cell 0 rfl
  have H0:Hid (MkS w (tk:Int) (dp:Int) (ce:Int) (.slice (some ⟨ub,uo,none⟩) nf uc) M E (Rs M) 0 none 0 (fun _=>.bool false) wc):=H1.out.1
  clear c2 H1
  go_wp2_with fail
  go_loopw [18] (fun i wr=>∃ (k:Nat) (oa:Option Addr) (oc:Nat) (Vs:Nat->Value),k<=nf/\i=.int .i64 k/\Hid (MkS w (tk:Int) (dp:Int) (ce:Int) (.slice (some ⟨ub,uo,none⟩) nf uc) M E (Rs M) k oa oc Vs wr)) (fun i _=>nf-(intOf i).toNat)
  case atStart=>exact ⟨0,none,0,fun _=>.bool false,Nat.zero_le _,rfl,H0⟩
  case round=>
   clear H0 e0
   obtain ⟨k,oa,oc,Vs,hk,rfl,HO⟩:=hrel
   by_cases hkn:k<nf
   ·have m7:wr.cell? ⟨M,7,none⟩=some (.slice oa k oc):=HO.out.m.1.cell 7 rfl
    have mz:=HO.out.m.2
    have hMl:=HO.out.m.1.1
    go_upto_region 5 with fail
    obtain ⟨i0,hi0,hy0,hy1,hy2⟩:=info_parts qx6
    have heg1:=enters_of Tryz.func46 (by kernel_rfl) rfl
    have heg2:=enters_of Tryz.func47 (by kernel_rfl) rfl
    have HNb:=HU.out.1 k hkn M E oa k oc wr.drew HO.out.bl.drew HO.out.mw HO.out.m.drew
    go_region_law (first
     |(refine qj6 (by rfl) 46 _ _ _ _ (by rfl) (ptr M) (.int .i64 (k:Int)) (by rfl) (by rfl) heg1 _ HNb ?_;rintro e w1 ⟨bb,rfl,hb1,hcb⟩;refine ⟨_,rfl,?_⟩;have HO1:Hid (MkS w (tk:Int) (dp:Int) (ce:Int) (.slice (some ⟨ub,uo,none⟩) nf uc) M E (Rs M) k oa oc Vs w1):=((HO.out.call (Below.refl _ _).drew).call hb1);have HS1:Hid (wr.heap.size<=w1.heap.size):=hb1.size;have HCB:Hid _:=hcb;have m7a:w1.cell? ⟨M,7,none⟩=some (.slice oa k oc):=HO1.out.m.1.cell 7 rfl;have mz1:=HO1.out.m.2;have hMl1:=HO1.out.m.1.1;clear hb1 hcb)
     |(refine qb4 (by rfl) 47 _ _ (by rfl) (ptr bb) (by rfl) heg2 _ HCB.out ?_;rintro e w2 ⟨ff,fx,fy,rfl,hn1,hb2⟩;refine ⟨_,rfl,?_⟩;have HO2:Hid (MkS w (tk:Int) (dp:Int) (ce:Int) (.slice (some ⟨ub,uo,none⟩) nf uc) M E (Rs M) k oa oc Vs (w2.alloc (.cells #[.func ff fx fy] 107))):=((HO1.out.call hb2).call (q01 _ _));obtain ⟨v',w7,happ,hown,hgrow,_,hat⟩:=run_append_own_at (P:=Tryz.prog) (w2.alloc (.cells #[.func ff fx fy] 107)) w.heap.size 64 64 107 i0 _ 1 8 Tryz.underlying64 hi0 hy0 hy1 hy2 rfl (by decide) (.slice oa k oc) k ((List.range k).map Vs) HO2.out.r ⟨w2.heap.size,0,none⟩ 1 1 [.func ff fx fy] rfl (cell_one_new _ _ _) (by simp[Value.oneCell']) (by unfold maxLen;omega) (by omega) HO2.out.bl.size;obtain ⟨oa',oc',rfl,hp⟩:=HO2.out.push hn1 (by have h8:M<wr.drew.heap.size:=hMl;exact h8) ((Fr.refl _ _ _).alloc (Nat.le_refl _) _) (by simp) (fun q e=>.inl (q09 HO.out.r e).2) hown hgrow hat;have HN:Hid (MkS w (tk:Int) (dp:Int) (ce:Int) (.slice (some ⟨ub,uo,none⟩) nf uc) M E (Rs M) (k+1) oa' oc' (fun j=>if j=k then .func ff fx fy else Vs j) (w7.setCell ⟨M,7,none⟩ (.slice oa' (k+1) oc'))):=hp;have b01:w2.cell? ⟨M,7,none⟩=some (.slice oa k oc):=(HO1.out.call hb2).m.1.cell 7 rfl;have hl01:=(HO1.out.call hb2).m.1.1;have bz01:=(HO1.out.call hb2).m.2;have b0':(w2.alloc (.cells #[.func ff fx fy] 107)).cell? ⟨M,7,none⟩=some (.slice oa k oc):=HO2.out.m.1.cell 7 rfl;have hm7:=HO2.out.mid hgrow;have b7:w7.cell? ⟨M,7,none⟩=some (.slice oa k oc):=hm7.1.cell 7 rfl;have z7:=hm7.2;have l7:=hm7.1.1;clear hown hgrow hat hp hn1 hb2 hm7)
     |(refine q84 (by rfl) _ _ _ _ (by rfl) (.slice oa k oc) (.slice (some ⟨w2.heap.size,0,none⟩) 1 1) _ _ (by rfl) (by rfl) happ ?_))
    all_goals
     clear HO HO1 HO2 HNb HCB HS1
     go_wp2_with fail
     go_roundw
     case rel=>exact ⟨k+1,oa',oc',_,by omega,by go_num,HN⟩
     case measure=>simp[intOf];omega
   ·obtain rfl:k=nf:=by omega
    have HNT:Hid _:=z05 (tk:Int) (dp:Int) (ce:Int) M (.slice (some ⟨ub,uo,none⟩) k uc) (.slice oa k oc) (.chan (some E)) wr HO.out.m HO.out.ym
    go_wp2_with fail
    refine Calls.mono HNT.out ?_
    rintro e w3 ⟨T,rfl,tks,c1,c2,c3,hM3,hT3,hg3,hTl,hTl2,hy3,hz3⟩
    have HT3:Hid (OwnB w3 M (mY (tk:Int) (dp:Int) (ce:Int) (.slice (some ⟨ub,uo,none⟩) k uc) (.slice oa k oc) (.chan (some E)) tks (.pointer none))/\OwnB w3 T (tY 0 c1 c2 c3)/\Gx (fun k=>k=M) wr w3/\wr.heap.size<=T/\T<w3.heap.size/\BkT w3 M 81/\BkT w3 T 120):=⟨hM3,hT3,hg3,hTl,hTl2,hy3,hz3⟩
    have hMr:=HO.out.m.1.1
    have hne:T≠M:=by omega
    have hne':M≠T:=by omega
    have m23:=hM3.1.cell 23 rfl
    have mz:=hM3.2
    have t1:=hT3.1.cell 1 rfl
    have tz:=hT3.2
    clear HNT hM3 hT3 hg3 hTl hMr hy3 hz3
    go_wp2_with fail
    obtain ⟨q1,q2,q3,q4,q5,q6,q7⟩:=HT3.out
    have hB:=HO.out
    have hbs:=hB.bl.size
    have hMr:=hB.m.1.1
    have hmw:=hB.mw
    have g1:Gx (fun k=>k=M\/wr.heap.size<=k) wr ((w3.setCell ⟨M,23,none⟩ (ptr T)).setCell ⟨T,1,none⟩ (.int .i64 2)):=((q3.mono (fun k e=>.inl e)).trans (Gx.set w3 M 23 _) (fun _ _ e=>.inl e)).trans (Gx.set _ T 1 _) (fun k _ e=>.inr (by omega))
    have hEl:E<wr.heap.size:=(Array.getElem?_eq_some_iff.1 hB.e).1
    refine bodyPost_ret (v:=ptr M) (by simp[results,Tryz.results26,go_sem]) rfl ⟨⟨M,T,0,0,0,wr,.slice (some ⟨ub,uo,none⟩) k uc,.slice oa k oc,tks,.chan (some E),c1,c2,c3,tk,dp,ce,0,⟨0,0,0,⟨#[]⟩,0⟩,.slice none 0 0,.slice none 0 0,0,0⟩,E,oa,oc,Vs,rfl,⟨⟨?_,?_,g1,hMr,q4,(q6.set _ _).set _ _,(q7.set _ _).set _ _,HU.out.2.1,HU.out.2.2.1,HU.out.2.2.2⟩,rfl,rfl,rfl,⟨rfl,rfl,rfl⟩,hB,?_,?_⟩⟩
    ·exact q05 (q1.set (o:=23) (by show 23<27;omega) _) hne'
    ·exact (q05 q2 hne).set (o:=1) (by show 1<17;omega) _
    ·exact hB.bl.trans (g1.to (N:=w.heap.size) (by omega) (fun k e=>by rcases e with e|e<;>omega))
    ·rw[g1.block E hEl (fun e=>by rcases e with e|e;exact hB.em e;omega)]
     exact hB.e
end Go.Proofs.YtaimofjekgnieaaGreatDoor
