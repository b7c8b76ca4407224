import Derived.Test.YtaimofjekgnieaaGreatDoorLcA
import Derived.Laws.BytesArg
import Derived.Test.YtaimofjekgnieaaGreatDoorUnD
import Derived.Test.YtaimofjekgnieaaGreatDoorLcL
set_option maxRecDepth 100000
set_option maxHeartbeats 16000000
namespace Go.Proofs.YtaimofjekgnieaaGreatDoor
open Go.RowKit
attribute [local go_sem] q00
attribute [local go_sem ↓] Go.wp_at_zero Go.wp_at_succ
theorem qy1 (c:Int) (w:World):(convert 22 9 (.slice (some ⟨w.heap.size,0,none⟩) 1 1)).run Tryz.prog (w.alloc (.cells #[.int .u8 c] 5))=.ok (.string (strOfNums [c])) (w.alloc (.cells #[.int .u8 c] 5))/\(convert 22 9 (.slice (some ⟨w.heap.size,0,none⟩) 1 1)).run Tryz.prog (w.alloc (.cells #[.int .u8 c] 5)).drew=.ok (.string (strOfNums [c])) (w.alloc (.cells #[.int .u8 c] 5)).drew:=by
 constructor
 ·exact run_convert_bytes_arg (P:=Tryz.prog) (w:=w.alloc (.cells #[.int .u8 c] 5)) 22 5 Tryz.underlying22 Tryz.underlying5 w.heap.size 0 1 1 [c] rfl (fun i hi=>by
   obtain rfl:i=0:=by omega
   exact World.cell?_alloc_new w #[.int .u8 c] 5 0) 9 Tryz.underlying9
 ·exact run_convert_bytes_arg (P:=Tryz.prog) (w:=(w.alloc (.cells #[.int .u8 c] 5)).drew) 22 5 Tryz.underlying22 Tryz.underlying5 w.heap.size 0 1 1 [c] rfl (fun i hi=>by
   obtain rfl:i=0:=by omega
   exact World.cell?_alloc_new w #[.int .u8 c] 5 0) 9 Tryz.underlying9
theorem LB.pushV {I:LBI} {S:LBS} {u w7:World} (h:LB I S u) {s v':Value} (ho:w7.ownsRow I.N 9 1 v' (S.vl.length+1) (S.vl++[s])) (hg:u.grownBy w7 (Value.slice S.va S.vl.length S.vc).ownBlock) (hat:v'.ownBlock=(Value.slice S.va S.vl.length S.vc).ownBlock\/v'.ownBlock=some u.heap.size) :
  ∃ va vc,v'=.slice va (S.vl.length+1) vc/\Lx I S u {S with va:=va,vc:=vc,vl:=S.vl++[s]} (w7.setCell ⟨I.F,I.fo+4,none⟩ v'):=by
 obtain ⟨va,vc,rfl⟩:=q33 ho
 rw[q08] at hg
 rw[q08,q08] at hat
 have hi:=h.i
 have hgx:Gx (fun k=>bkOf S.va=some k) u w7:=Gx.grown hg
 have hN:∀ k,bkOf S.va=some k->I.N<=k:=fun k e=>(q09 h.v e).1
 have g:Gx (fun k=>k=I.F\/bkOf S.va=some k) u (w7.setCell ⟨I.F,I.fo+4,none⟩ (.slice va (S.vl.length+1) vc)):=(hgx.mono (fun k e=>.inr e)).trans (Gx.set w7 I.F (I.fo+4) _) (fun _ _ e=>.inl e)
 have hm:∀ k,k<u.heap.size->(bkOf va=some k->bkOf S.va=some k):=fun k hk e=>by
  rcases hat with c|c
  ·exact c.symm.trans e
  ·rw[c] at e;have:=Option.some.inj e;omega
 have hb:∀ k,k<I.N->w7.heap[k]?=u.heap[k]?:=fun k hk=>hgx.block k (by have:=h.n;omega) (fun e=>by have:=hN k e;omega)
 have hq:∀ {a:Option Addr} {n:Nat} {q:Nat->Int},rOk I S u a n q->rOk I {S with va:=va,vc:=vc,vl:=S.vl++[s]} (w7.setCell ⟨I.F,I.fo+4,none⟩ (.slice va (S.vl.length+1) vc)) a n q:=fun r=>r.gx g (fun k e=>by
  rcases e with e|e
  ·exact .inl (e ▸ hi.f)
  ·exact .inr (.inr e)) (fun k hk=>⟨fun e=>e,hm k hk⟩)
 have hF:∀ k,I.N<=k->k≠I.F:=fun k hk e=>by have:=hi.f;omega
 refine ⟨va,vc,rfl,⟨hi,q30 (h.b.block hgx.size (hb _ hi.b)) hi.bf,?_,?_,(h.k.block hgx.size (hb _ hi.k)).other hi.fk.symm,?_,?_,fun p hp=>?_,by have:=hgx.size;have:=h.n;simp;omega⟩,g.mono (fun k e=>?_),fun k hk=>⟨fun e=>e,hm k hk⟩⟩
 ·obtain ⟨t,s,h1,h2⟩:=h.c
  have hk:(w7.setCell ⟨I.F,I.fo+4,none⟩ (.slice va (S.vl.length+1) vc)).heap[I.C]?=u.heap[I.C]?:=(Below.heap_setCell _ _ _ _ hi.cf).trans (hb _ hi.c)
  exact ⟨t,s,h1,by have:=hgx.size;have:=h2.lt;simp;omega,⟨(World.cell?_of_block (a:=⟨I.C,0,none⟩) hk).trans h2.c.1,(World.cell?_of_block (a:=⟨I.C,1,none⟩) hk).trans h2.c.2.1,(World.cell?_of_block (a:=⟨I.C,2,none⟩) hk).trans h2.c.2.2⟩,fun o=>(World.frozen?_of_block (a:=⟨I.C,o,none⟩) hk).trans (h2.fr o),fun i hi=>absurd hi (Nat.not_lt_zero _)⟩
 ·have:=(h.f.block hgx.size (hb _ hi.f)).set4 (v:=.slice va (S.vl.length+1) vc)
  show FnB _ _ (.slice va (S.vl++[s]).length vc) _
  rw[List.length_append]
  exact this
 ·refine q16 ?_ _ fun k e=>hF k (q09 h.r ((q08 _ _ _).symm.trans e)).1
  refine q14 h.r fun k e=>?_
  have e':=(q08 _ _ _).symm.trans e
  exact hgx.block k (q09 h.r e').2 (fun c=>q90 h.r h.v (by decide) e' c)
 ·show World.ownsRow _ _ _ _ (.slice va (S.vl++[s]).length vc) (S.vl++[s]).length (S.vl++[s])
  rw[List.length_append]
  exact q16 ho _ fun k e=>hF k (q09 ho ((q08 _ _ _).symm.trans e)).1
 ·obtain ⟨x1,x2,x3⟩:=h.x p hp
  exact ⟨hq x1,hq x2,x3⟩
 ·rcases e with e|e
  ·exact .inl ⟨e ▸ hi.f,.inr (.inr (.inl e))⟩
  ·exact .inr (.inr e)
theorem z23:(Tryz.prog.info? 9).map (fun i=>(i.zero,i.size,i.bytes))=some (some (.string ⟨#[]⟩),1,16):=by kernel_rfl
abbrev vNm (c:Int):Value:=.string (strOfNums [c])
theorem qu5 (I:LBI) (S:LBS) (n:Nat) (u:World) (h:LB I S u) (hg:Gd S n) (hv:S.vl.length=0) :
  Calls Tryz.prog 31 #[ptr I.B] u fun e w'=>e=.returned (.int .i64 0)/\∃ S',Lx I S u S' w'/\S'.l=S.l/\S'.vl=S.vl++[vNm 97]/\S'.sc=S.sc/\Gd S' n:=by
 have HL:Hid (LB I S u/\Gd S n/\S.vl.length=0):=⟨h,hg,hv⟩
 clear h hg hv
 go_enter Tryz.func31,Tryz.ntmps31
 go_wp2_with fail
 refine (qb7 I S _ HL.out.1).mono ?_
 rintro e w1 ⟨rfl,hb1⟩
 have H2:Hid (Lx I S u S w1):=Lx.below HL.out.1 hb1
 have f4:=H2.out.s.f.cell.1
 have fz:=H2.out.s.f.cell.2.2.1
 have hfl:=H2.out.s.f.cell.2.2.2
 rw[HL.out.2.2] at f4
 clear hb1
 obtain ⟨i0,hi0,hy0,hy1,hy2⟩:=info_parts z23
 have hca:=fun w=>(qy1 97 w).1
 have hcd:=fun w=>(qy1 97 w).2
 have hw1:IntKind.i64.wrap 97=97:=by decide
 have hw2:IntKind.u8.wrap 97=97:=by decide
 obtain ⟨sN,hsN⟩:∃ sN,strOfNums [(97:Int)]=sN:=⟨_,rfl⟩
 have HsN:Hid (strOfNums [(97:Int)]=sN):=hsN
 rw[hsN] at hca hcd
 clear hsN
 have HD:Hid (LB I S ((w1.alloc (.cells #[.int .u8 97] 5)).alloc (.cells #[.string sN] 9)).drew):=((H2.out.s.alloc _).alloc _).drew
 obtain ⟨v',w7,happ,hown,hgrow,_,hat⟩:=run_append_own_at (P:=Tryz.prog) ((w1.alloc (.cells #[.int .u8 97] 5)).alloc (.cells #[.string sN] 9)).drew I.N 25 25 9 i0 _ 1 16 Tryz.underlying25 hi0 hy0 hy1 hy2 rfl (by decide) (.slice S.va S.vl.length S.vc) S.vl.length S.vl HD.out.v ⟨w1.heap.size+1,0,none⟩ 1 1 [.string sN] rfl (fun j v e=>by
  have hn:=q85 (w1.alloc (.cells #[.int .u8 97] 5)) #[.string sN] 9 j v e
  rw[World.size_alloc] at hn
  exact hn) (by simp[Value.oneCell']) (by have:=HL.out.2.2;unfold maxLen;omega) (by have:=HL.out.2.2;omega) (by have:=HD.out.n;exact this)
 obtain ⟨va,vc,rfl,hpush⟩:=HD.out.pushV hown hgrow hat
 have HN:Hid (Lx I S u {S with va:=va,vc:=vc,vl:=S.vl++[.string sN]} (w7.setCell ⟨I.F,I.fo+4,none⟩ (.slice va (0+1) vc))):=by
  have:=(H2.out.trans (Lx.below H2.out.s ((q04 _ _ _).drew))).trans hpush
  rw[HL.out.2.2] at this
  exact this
 have hnF:bkOf S.va≠some I.F:=fun e=>by have h1:=(q09 HD.out.v e).1;have h2:=HD.out.i.f;omega
 rw[q08] at hgrow
 have f7:w7.cell? ⟨I.F,I.fo+4,none⟩=some (.slice S.va 0 S.vc):=by
  have hx:=(World.cell?_of_block (a:=⟨I.F,I.fo+4,none⟩) (hgrow.block I.F (by simp;omega) (fun e=>hnF e.symm))).trans HD.out.f.cell.1
  rw[HL.out.2.2] at hx
  exact hx
 have f7z:∀ o,w7.frozen? ⟨I.F,o,none⟩=false:=fun o=>(World.frozen?_of_block (a:=⟨I.F,o,none⟩) (hgrow.block I.F (by simp;omega) (fun e=>hnF e.symm))).trans (HD.out.f.cell.2.2.1 o)
 have hF7:I.F<w7.heap.size:=by have h1:=hgrow.size;simp at h1;omega
 rw[HL.out.2.2] at happ
 clear hown hgrow hat hpush HD H2 hi0 hy0 hy1 hy2 hnF
 obtain ⟨ta,hta⟩:∃ ta,ta=S.va:=⟨_,rfl⟩
 obtain ⟨vc0,hvc0⟩:∃ vc0,vc0=S.vc:=⟨_,rfl⟩
 rw[<-hta,<-hvc0] at happ f4 f7
 clear hta hvc0
 go_upto_region 2 with fail
 go_region_law (first
  |(refine q84 (by rfl) _ _ _ _ (by rfl) (.slice ta 0 vc0) (.slice (some ⟨w1.heap.size+1,0,none⟩) 1 1) _ _ (by rfl) (by rfl) happ ?_))
 all_goals
  have f8:(w7.setCell ⟨I.F,I.fo+4,none⟩ (.slice va (0+1) vc)).cell? ⟨I.F,I.fo+4,none⟩=some (.slice va (0+1) vc):=by
   have:=HN.out.s.f.cell.1
   simpa[HL.out.2.2] using this
  generalize w7.setCell ⟨I.F,I.fo+4,none⟩ (.slice va (0+1) vc)=w8 at *
  clear happ f7 f7z hF7
  go_wp2_with fail
  go_ret
  have g:=HL.out.2.1
  refine ⟨?_,_,HN.out,rfl,by show S.vl++[Value.string sN]=S.vl++[Value.string (strOfNums [(97:Int)])];rw[HsN.out],rfl,⟨g.l,g.f1,g.f2,g.A,g.n1,g.n2⟩⟩
  first
  |rfl
  |decide
theorem qu4 (I:LBI) (S:LBS) (n:Nat) (u:World) (h:LB I S u) (hg:Gd S n) (hv:S.vl.length=1) :
  Calls Tryz.prog 31 #[ptr I.B] u fun e w'=>e=.returned (.int .i64 1)/\∃ S',Lx I S u S' w'/\S'.l=S.l/\S'.vl=S.vl++[vNm 98]/\S'.sc=S.sc/\Gd S' n:=by
 have HL:Hid (LB I S u/\Gd S n/\S.vl.length=1):=⟨h,hg,hv⟩
 clear h hg hv
 go_enter Tryz.func31,Tryz.ntmps31
 go_wp2_with fail
 refine (qb7 I S _ HL.out.1).mono ?_
 rintro e w1 ⟨rfl,hb1⟩
 have H2:Hid (Lx I S u S w1):=Lx.below HL.out.1 hb1
 have f4:=H2.out.s.f.cell.1
 have fz:=H2.out.s.f.cell.2.2.1
 have hfl:=H2.out.s.f.cell.2.2.2
 rw[HL.out.2.2] at f4
 clear hb1
 obtain ⟨i0,hi0,hy0,hy1,hy2⟩:=info_parts z23
 have hca:=fun w=>(qy1 98 w).1
 have hcd:=fun w=>(qy1 98 w).2
 have hw1:IntKind.i64.wrap 98=98:=by decide
 have hw2:IntKind.u8.wrap 98=98:=by decide
 obtain ⟨sN,hsN⟩:∃ sN,strOfNums [(98:Int)]=sN:=⟨_,rfl⟩
 have HsN:Hid (strOfNums [(98:Int)]=sN):=hsN
 rw[hsN] at hca hcd
 clear hsN
 have HD:Hid (LB I S ((w1.alloc (.cells #[.int .u8 98] 5)).alloc (.cells #[.string sN] 9)).drew):=((H2.out.s.alloc _).alloc _).drew
 obtain ⟨v',w7,happ,hown,hgrow,_,hat⟩:=run_append_own_at (P:=Tryz.prog) ((w1.alloc (.cells #[.int .u8 98] 5)).alloc (.cells #[.string sN] 9)).drew I.N 25 25 9 i0 _ 1 16 Tryz.underlying25 hi0 hy0 hy1 hy2 rfl (by decide) (.slice S.va S.vl.length S.vc) S.vl.length S.vl HD.out.v ⟨w1.heap.size+1,0,none⟩ 1 1 [.string sN] rfl (fun j v e=>by
  have hn:=q85 (w1.alloc (.cells #[.int .u8 98] 5)) #[.string sN] 9 j v e
  rw[World.size_alloc] at hn
  exact hn) (by simp[Value.oneCell']) (by have:=HL.out.2.2;unfold maxLen;omega) (by have:=HL.out.2.2;omega) (by have:=HD.out.n;exact this)
 obtain ⟨va,vc,rfl,hpush⟩:=HD.out.pushV hown hgrow hat
 have HN:Hid (Lx I S u {S with va:=va,vc:=vc,vl:=S.vl++[.string sN]} (w7.setCell ⟨I.F,I.fo+4,none⟩ (.slice va (1+1) vc))):=by
  have:=(H2.out.trans (Lx.below H2.out.s ((q04 _ _ _).drew))).trans hpush
  rw[HL.out.2.2] at this
  exact this
 have hnF:bkOf S.va≠some I.F:=fun e=>by have h1:=(q09 HD.out.v e).1;have h2:=HD.out.i.f;omega
 rw[q08] at hgrow
 have f7:w7.cell? ⟨I.F,I.fo+4,none⟩=some (.slice S.va 1 S.vc):=by
  have hx:=(World.cell?_of_block (a:=⟨I.F,I.fo+4,none⟩) (hgrow.block I.F (by simp;omega) (fun e=>hnF e.symm))).trans HD.out.f.cell.1
  rw[HL.out.2.2] at hx
  exact hx
 have f7z:∀ o,w7.frozen? ⟨I.F,o,none⟩=false:=fun o=>(World.frozen?_of_block (a:=⟨I.F,o,none⟩) (hgrow.block I.F (by simp;omega) (fun e=>hnF e.symm))).trans (HD.out.f.cell.2.2.1 o)
 have hF7:I.F<w7.heap.size:=by have h1:=hgrow.size;simp at h1;omega
 rw[HL.out.2.2] at happ
 clear hown hgrow hat hpush HD H2 hi0 hy0 hy1 hy2 hnF
 obtain ⟨ta,hta⟩:∃ ta,ta=S.va:=⟨_,rfl⟩
 obtain ⟨vc0,hvc0⟩:∃ vc0,vc0=S.vc:=⟨_,rfl⟩
 rw[<-hta,<-hvc0] at happ f4 f7
 clear hta hvc0
 go_upto_region 2 with fail
 go_region_law (first
  |(refine q84 (by rfl) _ _ _ _ (by rfl) (.slice ta 1 vc0) (.slice (some ⟨w1.heap.size+1,0,none⟩) 1 1) _ _ (by rfl) (by rfl) happ ?_))
 all_goals
  have f8:(w7.setCell ⟨I.F,I.fo+4,none⟩ (.slice va (1+1) vc)).cell? ⟨I.F,I.fo+4,none⟩=some (.slice va (1+1) vc):=by
   have:=HN.out.s.f.cell.1
   simpa[HL.out.2.2] using this
  generalize w7.setCell ⟨I.F,I.fo+4,none⟩ (.slice va (1+1) vc)=w8 at *
  clear happ f7 f7z hF7
  go_wp2_with fail
  go_ret
  have g:=HL.out.2.1
  refine ⟨?_,_,HN.out,rfl,by show S.vl++[Value.string sN]=S.vl++[Value.string (strOfNums [(98:Int)])];rw[HsN.out],rfl,⟨g.l,g.f1,g.f2,g.A,g.n1,g.n2⟩⟩
  first
  |rfl
  |decide
theorem qu3 (I:LBI) (S:LBS) (n:Nat) (u:World) (h:LB I S u) (hg:Gd S n) (hv:S.vl.length=2) :
  Calls Tryz.prog 31 #[ptr I.B] u fun e w'=>e=.returned (.int .i64 2)/\∃ S',Lx I S u S' w'/\S'.l=S.l/\S'.vl=S.vl++[vNm 99]/\S'.sc=S.sc/\Gd S' n:=by
 have HL:Hid (LB I S u/\Gd S n/\S.vl.length=2):=⟨h,hg,hv⟩
 clear h hg hv
 go_enter Tryz.func31,Tryz.ntmps31
 go_wp2_with fail
 refine (qb7 I S _ HL.out.1).mono ?_
 rintro e w1 ⟨rfl,hb1⟩
 have H2:Hid (Lx I S u S w1):=Lx.below HL.out.1 hb1
 have f4:=H2.out.s.f.cell.1
 have fz:=H2.out.s.f.cell.2.2.1
 have hfl:=H2.out.s.f.cell.2.2.2
 rw[HL.out.2.2] at f4
 clear hb1
 obtain ⟨i0,hi0,hy0,hy1,hy2⟩:=info_parts z23
 have hca:=fun w=>(qy1 99 w).1
 have hcd:=fun w=>(qy1 99 w).2
 have hw1:IntKind.i64.wrap 99=99:=by decide
 have hw2:IntKind.u8.wrap 99=99:=by decide
 obtain ⟨sN,hsN⟩:∃ sN,strOfNums [(99:Int)]=sN:=⟨_,rfl⟩
 have HsN:Hid (strOfNums [(99:Int)]=sN):=hsN
 rw[hsN] at hca hcd
 clear hsN
 have HD:Hid (LB I S ((w1.alloc (.cells #[.int .u8 99] 5)).alloc (.cells #[.string sN] 9)).drew):=((H2.out.s.alloc _).alloc _).drew
 obtain ⟨v',w7,happ,hown,hgrow,_,hat⟩:=run_append_own_at (P:=Tryz.prog) ((w1.alloc (.cells #[.int .u8 99] 5)).alloc (.cells #[.string sN] 9)).drew I.N 25 25 9 i0 _ 1 16 Tryz.underlying25 hi0 hy0 hy1 hy2 rfl (by decide) (.slice S.va S.vl.length S.vc) S.vl.length S.vl HD.out.v ⟨w1.heap.size+1,0,none⟩ 1 1 [.string sN] rfl (fun j v e=>by
  have hn:=q85 (w1.alloc (.cells #[.int .u8 99] 5)) #[.string sN] 9 j v e
  rw[World.size_alloc] at hn
  exact hn) (by simp[Value.oneCell']) (by have:=HL.out.2.2;unfold maxLen;omega) (by have:=HL.out.2.2;omega) (by have:=HD.out.n;exact this)
 obtain ⟨va,vc,rfl,hpush⟩:=HD.out.pushV hown hgrow hat
 have HN:Hid (Lx I S u {S with va:=va,vc:=vc,vl:=S.vl++[.string sN]} (w7.setCell ⟨I.F,I.fo+4,none⟩ (.slice va (2+1) vc))):=by
  have:=(H2.out.trans (Lx.below H2.out.s ((q04 _ _ _).drew))).trans hpush
  rw[HL.out.2.2] at this
  exact this
 have hnF:bkOf S.va≠some I.F:=fun e=>by have h1:=(q09 HD.out.v e).1;have h2:=HD.out.i.f;omega
 rw[q08] at hgrow
 have f7:w7.cell? ⟨I.F,I.fo+4,none⟩=some (.slice S.va 2 S.vc):=by
  have hx:=(World.cell?_of_block (a:=⟨I.F,I.fo+4,none⟩) (hgrow.block I.F (by simp;omega) (fun e=>hnF e.symm))).trans HD.out.f.cell.1
  rw[HL.out.2.2] at hx
  exact hx
 have f7z:∀ o,w7.frozen? ⟨I.F,o,none⟩=false:=fun o=>(World.frozen?_of_block (a:=⟨I.F,o,none⟩) (hgrow.block I.F (by simp;omega) (fun e=>hnF e.symm))).trans (HD.out.f.cell.2.2.1 o)
 have hF7:I.F<w7.heap.size:=by have h1:=hgrow.size;simp at h1;omega
 rw[HL.out.2.2] at happ
 clear hown hgrow hat hpush HD H2 hi0 hy0 hy1 hy2 hnF
 obtain ⟨ta,hta⟩:∃ ta,ta=S.va:=⟨_,rfl⟩
 obtain ⟨vc0,hvc0⟩:∃ vc0,vc0=S.vc:=⟨_,rfl⟩
 rw[<-hta,<-hvc0] at happ f4 f7
 clear hta hvc0
 go_upto_region 2 with fail
 go_region_law (first
  |(refine q84 (by rfl) _ _ _ _ (by rfl) (.slice ta 2 vc0) (.slice (some ⟨w1.heap.size+1,0,none⟩) 1 1) _ _ (by rfl) (by rfl) happ ?_))
 all_goals
  have f8:(w7.setCell ⟨I.F,I.fo+4,none⟩ (.slice va (2+1) vc)).cell? ⟨I.F,I.fo+4,none⟩=some (.slice va (2+1) vc):=by
   have:=HN.out.s.f.cell.1
   simpa[HL.out.2.2] using this
  generalize w7.setCell ⟨I.F,I.fo+4,none⟩ (.slice va (2+1) vc)=w8 at *
  clear happ f7 f7z hF7
  go_wp2_with fail
  go_ret
  have g:=HL.out.2.1
  refine ⟨?_,_,HN.out,rfl,by show S.vl++[Value.string sN]=S.vl++[Value.string (strOfNums [(99:Int)])];rw[HsN.out],rfl,⟨g.l,g.f1,g.f2,g.A,g.n1,g.n2⟩⟩
  first
  |rfl
  |decide
theorem qb4 {P:Program} {ops:Array Oper} {o:Oper} {a:Act} {w:World} {K:Act->World->Prop} {Q:Exit->Act->World->Prop} {E:Prop} (hgd:o.guard=none) (f:Nat) (x:Operand) (t:TypeId) (ho:o.op=.call {callee:=.value (.func f),args:=#[x],argTypes:=#[t]}) (vx:Value) (hx:a.eval x=vx)
  (eg:∀ args w,(callFunc f args).run P w=.ok (.enter f args) w) (R:Ending->World->Prop) (hc:Calls P f #[vx] w R) (h:∀ e w',R e w'->∃ v,e=.returned v/\K (a.put o.dst v) w') :
  if Region.wanted o (yielded ops a.tmps)=true then Oper.wp P o a w K Q else E:=by
 have hw:Region.wanted o (yielded ops a.tmps)=true:=by simp[Region.wanted,hgd]
 rw[if_pos hw]
 have e1:(execOp a.eval o).run P w=.ok (.enter f #[vx]) w:=by
  unfold execOp
  simp[ho,resolve,invoke,eg,go_sem]
  simpa[Act.eval] using hx
 unfold Oper.wp
 rw[e1,Oper.upon_enter]
 refine hc.mono ?_
 intro e w' hr
 obtain ⟨v,rfl,hk⟩:=h e w' hr
 exact hk
theorem LB.scope {I:LBI} {S:LBS} {u:World} (h:LB I S u) (z:Value):Lx I S u {S with sc:=z} (u.setCell ⟨I.K,I.ko+1,none⟩ z):=by
 have hi:=h.i
 have hB:∀ k,I.N<=k->k≠I.K:=fun k hk e=>by have:=hi.k;omega
 have g:Gx (fun k=>k=I.K) u (u.setCell ⟨I.K,I.ko+1,none⟩ z):=Gx.set u I.K (I.ko+1) _
 refine ⟨⟨hi,q30 h.b hi.bk,?_,h.f.other hi.fk,h.k.scp,q16 h.r _ fun k e=>hB k (q09 h.r ((q08 _ _ _).symm.trans e)).1,q16 h.v _ fun k e=>hB k (q09 h.v ((q08 _ _ _).symm.trans e)).1,fun p hp=>?_,by simpa using h.n⟩,g.mono (fun k e=>.inl (by subst e;exact ⟨hi.k,.inr (.inr (.inr rfl))⟩)),fun _ _=>⟨fun e=>e,fun e=>e⟩⟩
 ·obtain ⟨t,s,h1,h2⟩:=h.c
  have hk:(u.setCell ⟨I.K,I.ko+1,none⟩ z).heap[I.C]?=u.heap[I.C]?:=Below.heap_setCell _ _ _ _ hi.ck
  exact ⟨t,s,h1,by simpa using h2.lt,⟨(World.cell?_of_block (a:=⟨I.C,0,none⟩) hk).trans h2.c.1,(World.cell?_of_block (a:=⟨I.C,1,none⟩) hk).trans h2.c.2.1,(World.cell?_of_block (a:=⟨I.C,2,none⟩) hk).trans h2.c.2.2⟩,fun o=>(World.frozen?_of_block (a:=⟨I.C,o,none⟩) hk).trans (h2.fr o),fun i hi=>absurd hi (Nat.not_lt_zero _)⟩
 ·obtain ⟨x1,x2,x3⟩:=h.x p hp
  have hq:∀ {a:Option Addr} {n:Nat} {q:Nat->Int},rOk I S u a n q->rOk I {S with sc:=z} (u.setCell ⟨I.K,I.ko+1,none⟩ z) a n q:=fun r=>r.gx g (fun k e=>.inl (by subst e;exact hi.k)) (fun _ _=>⟨fun e=>e,fun e=>e⟩)
  exact ⟨hq x1,hq x2,x3⟩
theorem z14 (I:LBI) (S:LBS) (z:Int) (n:Nat) (u:World) (h:LB I S u) (hg:Gd S n) (hsc:S.sc=.slice none 0 0) :
  Calls Tryz.prog 32 #[ptr I.B,.int .i64 z] u fun e w'=>e=.returned (.tuple #[])/\∃ S',Lx I S u S' w'/\S'.l=S.l/\S'.vl=S.vl/\Gd S' n:=by
 have HL:Hid (LB I S u/\Gd S n/\S.sc=.slice none 0 0):=⟨h,hg,hsc⟩
 clear h hg hsc
 obtain ⟨ta,hta⟩:∃ ta:Option Addr,Hid (ta=none):=⟨_,rfl⟩
 have htv:Hid (Value.slice none 0 0=.slice ta 0 0):=by rw[hta.out];exact rfl
 go_enter Tryz.func32,Tryz.ntmps32
 go_wp2_with fail
 refine (q82 I S _ HL.out.1).mono ?_
 rintro e w1 ⟨rfl,hb1⟩
 have H1:Hid (Lx I S u S w1):=Lx.below HL.out.1 hb1
 clear hb1
 go_wp2_with fail
 refine (q82 I S _ H1.out.s).mono ?_
 rintro e w2 ⟨rfl,hb⟩
 have H2:Hid (Lx I S u S w2):=H1.out.trans (Lx.below H1.out.s hb)
 have hk2:w2.cell? ⟨I.K,I.ko+1,none⟩=some (.slice ta 0 0):=by rw[<-htv.out,<-HL.out.2.2];exact H2.out.s.k.cell.2.2.2.2
 have hkl2:=H2.out.s.k.cell.2.2.2.1
 obtain ⟨i0,hi0,hy0,hy1,hy2⟩:=info_parts zl7
 obtain ⟨v',w7,happ,hown,hgrow,_,hat⟩:=run_append_own_at (P:=Tryz.prog) (w2.alloc (.cells #[.int .i64 z] 3)) I.N 44 44 3 i0 _ 1 8 Tryz.underlying44 hi0 hy0 hy1 hy2 rfl (by decide) (.slice none 0 0) 0 [] (World.ownsRow_nil _ _ _ _) ⟨w2.heap.size,0,none⟩ 1 1 [.int .i64 z] rfl (cell_one_new _ _ _) (by simp[Value.oneCell']) (by unfold maxLen;omega) (by omega) (by have:=H2.out.s.n;simp;omega)
 have H7:Hid (Lx I S u S w7):=H2.out.trans (Lx.below H2.out.s ((q01 _ _).grown hgrow (by simp) (fun k e=>by cases e)))
 have hk7:w7.cell? ⟨I.K,I.ko+1,none⟩=some (.slice ta 0 0):=by rw[<-htv.out,<-HL.out.2.2];exact H7.out.s.k.cell.2.2.2.2
 have hkl7:=H7.out.s.k.cell.2.2.2.1
 have hkz7:=H7.out.s.k.cell.2.2.1
 rw[htv.out] at happ
 obtain ⟨sa,sc',rfl⟩:=q33 hown
 clear hb hown hgrow hat hi0 hy0 hy1 hy2
 go_wp2_with (at_builtin;refine q25 (by rfl) _ _ _ _ (by rfl) (.slice ta 0 0) (.slice (some ⟨w2.heap.size,0,none⟩) 1 1) _ _ (by rfl) (by rfl) happ ?_)
 have H8:Hid (Lx I S u {S with sc:=.slice sa (0+1) sc'} (w7.setCell ⟨I.K,I.ko+1,none⟩ (.slice sa (0+1) sc'))):=H7.out.trans (H7.out.s.scope _)
 have g:=HL.out.2.1
 go_end0
 exact ⟨rfl,_,H8.out,rfl,rfl,⟨g.l,g.f1,g.f2,g.A,g.n1,g.n2⟩⟩
structure AdL (I:LBI) (S:LBS) (u:World) (ps:List (ND×NA)) (n:Nat) (S':LBS) (w':World):Prop where
 lx:Lx I S u S' w'
 l:S'.l=S.l++ps
 g:Gd S' n
structure ILis (r:IL) (zs:List Int):Prop where
 n:r.n=zs.length
 q:∀ (j:Nat) (z:Int),zs[j]?=some z->r.q j=z
 c:r.n<=r.c
def NdQ (st:Bool) (k z:Int) (rs cs:List Int) (p:ND×NA):Prop:=∃ (l:Int) (r c:IL),p=(ndR k l z r c,naR r c)/\ILis r rs/\ILis c cs/\(if st then 1<=l/\l<=1000 else l=0)
theorem q92:ILis il0 []:=⟨rfl,fun j z e=>by simp at e,Nat.le_refl _⟩
theorem qi4 (a:Option Addr) (z:Int):ILis ⟨a,1,1,fun _=>z⟩ [z]:=⟨rfl,fun j y e=>by
 rcases j with _|j
 ·simp at e;exact e
 ·simp at e,Nat.le_refl _⟩
theorem zh2 (I:LBI) (S:LBS) (x:Int) (n:Nat) (u:World) (h:LB I S u) (hg:Gd S n) (hn:n<=140) (hv:S.vl.length=0) (hsc:S.sc=.slice none 0 0) :
  Calls Tryz.prog 18 #[ptr I.B,.int .i64 x] u fun e w'=>e=.returned (.tuple #[.int .i64 (S.l.length:Int),.int .i64 0])/\∃ S' p,AdL I S u [p] (n+1) S' w'/\NdQ true 2 0 [0] [x] p/\S'.vl=[vNm 97]:=by
 have HL:Hid (LB I S u/\Gd S n/\S.vl.length=0/\S.sc=.slice none 0 0):=⟨h,hg,hv,hsc⟩
 clear h hg hv hsc
 go_enter Tryz.func18,Tryz.ntmps18
 go_wp2_with fail
 refine (qu5 I S n _ HL.out.1 HL.out.2.1 HL.out.2.2.1).mono ?_
 rintro e w1 ⟨rfl,S1,hx1,hl1,hv1,hc1,hg1⟩
 have H1:Hid (Lx I S u S1 w1/\S1.l=S.l/\S1.vl=S.vl++[vNm 97]/\S1.sc=S.sc/\Gd S1 n):=⟨hx1,hl1,hv1,hc1,hg1⟩
 clear hx1 hl1 hv1 hc1 hg1
 go_wp2_with fail
 have hst:=q57 I S1 2 ⟨some ⟨w1.heap.size,0,none⟩,1,1,fun _=>0⟩ ⟨some ⟨w1.heap.size+1,0,none⟩,1,1,fun _=>x⟩ n ((w1.alloc (.cells #[.int .i64 0] 3)).alloc (.cells #[.int .i64 x] 3)) ((H1.out.1.s.alloc _).alloc _) H1.out.2.2.2.2 (by omega) ((qa8 H1.out.1.s 0 _).call (q01 _ _)) (by
  have:=qa8 (H1.out.1.s.alloc (.cells #[.int .i64 0] 3)) x 3
  rw[World.size_alloc] at this
  exact this) (Nat.le_refl _)
 refine hst.mono ?_
 clear hst
 rintro e w2 ⟨rfl,l,S2,hl1,hl2,ha,hg2⟩
 have H2:Hid (Ad I S1 ((w1.alloc (.cells #[.int .i64 0] 3)).alloc (.cells #[.int .i64 x] 3)) (ndR 2 l 0 ⟨some ⟨w1.heap.size,0,none⟩,1,1,fun _=>0⟩ ⟨some ⟨w1.heap.size+1,0,none⟩,1,1,fun _=>x⟩) (naR ⟨some ⟨w1.heap.size,0,none⟩,1,1,fun _=>0⟩ ⟨some ⟨w1.heap.size+1,0,none⟩,1,1,fun _=>x⟩) S2 w2/\Gd S2 (n+1)/\S1.l=S.l):=⟨ha,hg2,H1.out.2.1⟩
 have HLn:Hid (1<=l/\l<=1000):=⟨hl1,hl2⟩
 clear ha hg2 hl1 hl2
 go_wp2_with fail
 refine (z14 I S2 0 (n+1) _ H2.out.1.lx.s H2.out.2.1 (by rw[H2.out.1.sc,H1.out.2.2.2.1];exact HL.out.2.2.2)).mono ?_
 rintro e w3 ⟨rfl,S3,hx3,hl3,hv3,hg3⟩
 have H3:Hid (Lx I S2 w2 S3 w3/\S3.l=S2.l/\S3.vl=S2.vl/\Gd S3 (n+1)):=⟨hx3,hl3,hv3,hg3⟩
 clear hx3 hl3 hv3 hg3
 go_wp2_with fail
 have hb:=(Lx.below H1.out.1.s (q04 w1 (.cells #[.int .i64 0] 3) (.cells #[.int .i64 x] 3))).trans H2.out.1.lx
 refine bodyPost_ret (v:=.tuple #[.int .i64 (S1.l.length:Int),.int .i64 0]) (by simp[results,Tryz.results18,go_sem]) rfl ⟨by rw[H1.out.2.1],S3,_,⟨(H1.out.1.trans hb).trans H3.out.1,by rw[H3.out.2.1,H2.out.1.l,H1.out.2.1],H3.out.2.2.2⟩,⟨l,_,_,rfl,qi4 _ 0,qi4 _ x,HLn.out⟩,?_⟩
 rw[H3.out.2.2.1,H2.out.1.va.2.2,H1.out.2.2.1,List.eq_nil_of_length_eq_zero HL.out.2.2.1]
 rfl
theorem qh4 {I:LBI} {S:LBS} {u:World} (h:LB I S u) (x y:Int) (t:TypeId):rOk I S (u.alloc (.cells #[.int .i64 x,.int .i64 y] t)) (some ⟨u.heap.size,0,none⟩) 2 (fun j=>if j=0 then x else y):=by
 refine ⟨fun _=>⟨u.heap.size,0,rfl,Nat.zero_le _,by simp,fun i hi j hj=>?_⟩,fun b e=>?_⟩
 ·obtain rfl:j=0:=by omega
  rcases (show i=0\/i=1 by omega) with rfl|rfl
  ·exact (Has.new u #[.int .i64 x,.int .i64 y] t).2 0
  ·exact (Has.new u #[.int .i64 x,.int .i64 y] t).2 1
 ·cases e
  exact ⟨h.n,by simp,fun e=>Nat.lt_irrefl _ (q09 h.r e).2,fun e=>Nat.lt_irrefl _ (q09 h.v e).2⟩
theorem zl9 (a:Option Addr) (x y:Int):ILis ⟨a,2,2,fun j=>if j=0 then x else y⟩ [x,y]:=⟨rfl,fun j z e=>by
 rcases j with _|_|j
 ·simp at e;exact e
 ·simp at e;exact e
 ·simp at e,Nat.le_refl _⟩
structure GdP (L:Int) (cs:List Int) (p0 p1 p2 p3 p4 p5 p6 p7:ND×NA):Prop where
 p0:NdQ true 1 0 [] cs p0
 p1:NdQ false 26 0 [1] [] p1
 p2:NdQ false 26 0 [2] [] p2
 p3:NdQ false 28 0 [] [] p3
 p4:NdQ false 34 0 [] [L+3,L+1,L+2] p4
 p5:NdQ true 4 0 [] [L+4] p5
 p6:NdQ true 1 0 [] [L+5] p6
 p7:NdQ true 12 0 [1,2] [L,L+6] p7
theorem qq2 (I:LBI) (S:LBS) (c:IL) (cs:List Int) (n:Nat) (u:World) (h:LB I S u) (hg:Gd S n) (hn:n<=120) (hv:S.vl.length=1) (hc:rOk I S u c.a c.n c.q) (hcs:ILis c cs) :
  Calls Tryz.prog 22 #[ptr I.B,ilV c] u fun e w'=>e=.returned (.int .i64 ((S.l.length:Int)+7))/\∃ S' p0 p1 p2 p3 p4 p5 p6 p7,AdL I S u [p0,p1,p2,p3,p4,p5,p6,p7] (n+8) S' w'/\GdP (S.l.length:Int) cs p0 p1 p2 p3 p4 p5 p6 p7/\S'.vl=S.vl++[vNm 98,vNm 99]:=by
 have HL:Hid (LB I S u/\Gd S n/\S.vl.length=1/\rOk I S u c.a c.n c.q/\ILis c cs):=⟨h,hg,hv,hc,hcs⟩
 clear h hg hv hc hcs
 obtain ⟨L,hL⟩:∃ L:Int,(S.l.length:Int)=L:=⟨_,rfl⟩
 have HLL:Hid ((S.l.length:Int)=L):=hL
 rw[hL]
 clear hL
 go_enter Tryz.func22,Tryz.ntmps22
 go_wp2_with fail
 refine (q57 I S 1 il0 c n _ HL.out.1 HL.out.2.1 (by omega) (rOk0 _ _ _) HL.out.2.2.2.1 HL.out.2.2.2.2.c).mono ?_
 rintro e w1 ⟨rfl,l0,S1,a1,a2,ha,hg1⟩
 have H1:Hid (Ad I S u (ndR 1 l0 0 il0 c) (naR il0 c) S1 w1/\Gd S1 (n+1)/\1<=l0/\l0<=1000):=⟨ha,hg1,a1,a2⟩
 clear ha hg1 a1 a2
 rw[HLL.out]
 go_wp2_with fail
 refine (qu4 I S1 (n+1) _ H1.out.1.lx.s H1.out.2.1 (by rw[H1.out.1.va.2.2];exact HL.out.2.2.1)).mono ?_
 rintro e w2 ⟨rfl,S2,hx,hl,hv,_,hg2⟩
 have H2:Hid (Lx I S1 w1 S2 w2/\S2.l=S1.l/\S2.vl=S1.vl++[vNm 98]/\Gd S2 (n+1)):=⟨hx,hl,hv,hg2⟩
 clear hx hl hv hg2
 go_wp2_with fail
 refine (qu3 I S2 (n+1) _ H2.out.1.s H2.out.2.2.2 (by rw[H2.out.2.2.1,H1.out.1.va.2.2,List.length_append,HL.out.2.2.1];rfl)).mono ?_
 rintro e w3 ⟨rfl,S3,hx,hl,hv,_,hg3⟩
 have H3:Hid (Lx I S2 w2 S3 w3/\S3.l=S1.l/\S3.vl=S2.vl++[vNm 99]/\Gd S3 (n+1)/\(S3.l.length:Int)=L+1):=⟨hx,by rw[hl,H2.out.2.1],hv,hg3,by rw[hl,H2.out.2.1,H1.out.1.l,<-HLL.out];simp⟩
 clear hx hl hv hg3
 go_wp2_with fail
 refine (q71 I S3 1 (n+1) _ H3.out.1.s H3.out.2.2.2.1 (by omega)).mono ?_
 rintro e w4 ⟨rfl,S4,ha,hg4⟩
 have H4:Hid (∃ a,Ad I S3 w3 (ndR 26 0 0 ⟨a,1,1,fun _=>1⟩ il0) (naR ⟨a,1,1,fun _=>1⟩ il0) S4 w4/\Gd S4 (n+1 + 1)/\(S4.l.length:Int)=L+2):=⟨_,ha,hg4,by rw[ha.l,List.length_append];have:=H3.out.2.2.2.2;simp;omega⟩
 clear ha hg4
 rw[H3.out.2.2.2.2]
 obtain ⟨a4,H4'⟩:=H4.out
 have H4:Hid _:=H4'
 clear H4'
 go_wp2_with fail
 refine (q71 I S4 2 (n+1 + 1) _ H4.out.1.lx.s H4.out.2.1 (by omega)).mono ?_
 rintro e w5 ⟨rfl,S5,ha,hg5⟩
 obtain ⟨a5,H5'⟩:∃ a,Ad I S4 w4 (ndR 26 0 0 ⟨a,1,1,fun _=>2⟩ il0) (naR ⟨a,1,1,fun _=>2⟩ il0) S5 w5/\Gd S5 (n+1 + 1+1)/\(S5.l.length:Int)=L+3:=⟨_,ha,hg5,by rw[ha.l,List.length_append];have:=H4.out.2.2;simp;omega⟩
 have H5:Hid _:=H5'
 clear ha hg5 H5'
 rw[H4.out.2.2]
 go_wp2_with fail
 refine (qi1 I S5 w5.heap.size 2 2 (fun j=>if j=0 then L+1 else L+2) (n+1 + 1+1) _ (H5.out.1.lx.s.alloc _) H5.out.2.1 (by omega) (by omega) (by omega) (qh4 H5.out.1.lx.s (L+1) (L+2) _)).mono ?_
 rintro e w6 ⟨rfl,l1,r2,r3,S6,hp⟩
 have H6:Hid (PrS I S5 (w5.alloc (.cells #[.int .i64 (L+1),.int .i64 (L+2)] 3)) 2 (fun j=>if j=0 then L+1 else L+2) (n+1 + 1+1) l1 r2 r3 S6 w6/\(S6.l.length:Int)=L+6):=⟨hp,by rw[hp.ll,List.length_append];have:=H5.out.2.2;simp;omega⟩
 clear hp
 rw[H5.out.2.2]
 have e35:L+3 + 2=L+5:=by omega
 rw[e35]
 clear e35
 go_wp2_with fail
 refine (q57 I S6 1 il0 ⟨some ⟨w6.heap.size,0,none⟩,1,1,fun _=>L+5⟩ (n+1 + 1+1 + 3) _ (H6.out.1.lx.s.alloc _) H6.out.1.g (by omega) (rOk0 _ _ _) (qa8 H6.out.1.lx.s (L+5) _) (Nat.le_refl _)).mono ?_
 rintro e w7 ⟨rfl,l2,S7,a1,a2,ha,hg7⟩
 obtain ⟨a7,H7'⟩:∃ a,Ad I S6 (w6.alloc (.cells #[.int .i64 (L+5)] 3)) (ndR 1 l2 0 il0 ⟨a,1,1,fun _=>L+5⟩) (naR il0 ⟨a,1,1,fun _=>L+5⟩) S7 w7/\Gd S7 (n+1 + 1+1 + 3+1)/\1<=l2/\l2<=1000/\(S7.l.length:Int)=L+7:=⟨_,ha,hg7,a1,a2,by rw[ha.l,List.length_append];have:=H6.out.2;simp;omega⟩
 have H7:Hid _:=H7'
 clear ha hg7 a1 a2 H7'
 rw[H6.out.2]
 go_wp2_with fail
 have hst:=q57 I S7 12 ⟨some ⟨w7.heap.size,0,none⟩,2,2,fun j=>if j=0 then 1 else 2⟩ ⟨some ⟨w7.heap.size+1,0,none⟩,2,2,fun j=>if j=0 then L else L+6⟩ (n+1 + 1+1 + 3+1) ((w7.alloc (.cells #[.int .i64 1,.int .i64 2] 3)).alloc (.cells #[.int .i64 L,.int .i64 (L+6)] 3)) ((H7.out.1.lx.s.alloc _).alloc _) H7.out.2.1 (by omega) ((qh4 H7.out.1.lx.s 1 2 _).call (q01 _ _)) (by
  have:=qh4 (H7.out.1.lx.s.alloc (.cells #[.int .i64 1,.int .i64 2] 3)) L (L+6) 3
  rw[World.size_alloc] at this
  exact this) (Nat.le_refl _)
 refine hst.mono ?_
 clear hst
 rintro e w8 ⟨rfl,l3,S8,a1,a2,ha,hg8⟩
 obtain ⟨a8,b8,H8'⟩:∃ a b,Ad I S7 ((w7.alloc (.cells #[.int .i64 1,.int .i64 2] 3)).alloc (.cells #[.int .i64 L,.int .i64 (L+6)] 3)) (ndR 12 l3 0 ⟨a,2,2,fun j=>if j=0 then 1 else 2⟩ ⟨b,2,2,fun j=>if j=0 then L else L+6⟩) (naR ⟨a,2,2,fun j=>if j=0 then 1 else 2⟩ ⟨b,2,2,fun j=>if j=0 then L else L+6⟩) S8 w8/\Gd S8 (n+1 + 1+1 + 3+1 + 1)/\1<=l3/\l3<=1000:=⟨_,_,ha,hg8,a1,a2⟩
 have H8:Hid _:=H8'
 clear ha hg8 a1 a2 H8'
 rw[H7.out.2.2.2.2]
 go_wp2_with fail
 go_ret
 obtain ⟨q8,q8g,q8a,q8b⟩:=H8.out
 obtain ⟨q7,q7g,q7a,q7b,q7c⟩:=H7.out
 obtain ⟨q6,q6c⟩:=H6.out
 obtain ⟨q5,_,q5c⟩:=H5.out
 obtain ⟨q4,_,_⟩:=H4.out
 obtain ⟨q3,q3l,q3v,_,_⟩:=H3.out
 obtain ⟨q2,q2l,q2v,_⟩:=H2.out
 obtain ⟨q1,_,q1a,q1b⟩:=H1.out
 have t1:=q1.lx.trans (q2.trans (q3.trans (q4.lx.trans q5.lx)))
 have t2:=t1.trans ((Lx.below t1.s (q01 w5 (.cells #[.int .i64 (L+1),.int .i64 (L+2)] 3))).trans q6.lx)
 have t3:=t2.trans ((Lx.below t2.s (q01 w6 (.cells #[.int .i64 (L+5)] 3))).trans q7.lx)
 have t4:=t3.trans ((Lx.below t3.s (q04 w7 (.cells #[.int .i64 1,.int .i64 2] 3) (.cells #[.int .i64 L,.int .i64 (L+6)] 3))).trans q8.lx)
 have h5:(S5.l.length:Int)=L+3:=q5c
 refine ⟨rfl,S8,_,_,_,_,_,_,_,_,⟨t4,?_,by have:=q8g;exact this⟩,⟨⟨l0,il0,c,rfl,q92,HL.out.2.2.2.2,q1a,q1b⟩,⟨0,⟨a4,1,1,fun _=>1⟩,il0,rfl,qi4 _ 1,q92,rfl⟩,⟨0,⟨a5,1,1,fun _=>2⟩,il0,rfl,qi4 _ 2,q92,rfl⟩,⟨0,il0,il0,rfl,q92,q92,rfl⟩,⟨0,il0,r2,rfl,q92,⟨q6.r2n,fun j z e=>?_,by rw[q6.r2n];exact q6.r2c⟩,rfl⟩,⟨l1,il0,r3,rfl,q92,⟨q6.r3n,fun j z e=>?_,by rw[q6.r3n];exact q6.r3c⟩,q6.l1,q6.l2⟩,⟨l2,il0,⟨a7,1,1,fun _=>L+5⟩,rfl,q92,qi4 _ _,q7a,q7b⟩,⟨l3,⟨a8,2,2,fun j=>if j=0 then 1 else 2⟩,⟨b8,2,2,fun j=>if j=0 then L else L+6⟩,rfl,zl9 _ 1 2,zl9 _ L (L+6),q8a,q8b⟩⟩,?_⟩
 ·rw[q8.l,q7.l,q6.ll,q5.l,q4.l,q3l,q1.l]
  simp
 ·rw[q6.r2q,h5]
  rcases j with _|_|_|j
  ·simp at e;exact e
  ·simp at e;exact e
  ·simp at e;exact e
  ·simp at e
 ·rw[q6.r3q,h5]
  rcases j with _|j
  ·simp at e;show L+3 + 1=z;omega
  ·simp at e
 ·rw[q8.va.2.2,q7.va.2.2,q6.va,q5.va.2.2,q4.va.2.2,q3v,q2v,q1.va.2.2]
  simp
end Go.Proofs.YtaimofjekgnieaaGreatDoor
namespace Go.Proofs.YtaimofjekgnieaaGreatDoor
open Go.RowKit
abbrev inL (j:Nat):List Value:=(List.range j).map fun (t:Nat)=>.int .i64 (t:Int)
theorem y65 (j:Nat):inL (j+1)=inL j++[.int .i64 (j:Int)]:=by simp[inL,List.range_succ]
theorem yf4 (j i:Nat) (h:i<j):(inL j)[i]?=some (.int .i64 (i:Int)):=by
 show ((List.range j).map fun (t:Nat)=>Value.int .i64 (t:Int))[i]?=_
 rw[List.getElem?_map,List.getElem?_range h]
 rfl
structure KL (I:LBI) (S0:LBS) (u:World) (L:List (ND×NA)) (j:Nat) (ka:Option Addr) (kc n:Nat) (S:LBS) (w:World):Prop where
 lx:Lx I S0 u S w
 l:S.l=L
 z:∀ p,p∈L->p.2=naR il0 il0
 vl:S.vl=S0.vl
 g:Gd S n
 r:w.ownsRow I.N 3 1 (.slice ka j kc) j (inL j)
 a:∀ k,bkOf ka=some k->u.heap.size<=k
section
variable {I:LBI} {S0 S S':LBS} {u w w':World} {L:List (ND×NA)} {j n kc:Nat} {ka:Option Addr}
theorem KL.apart (h:KL I S0 u L j ka kc n S w) {k:Nat} (e:bkOf ka=some k):I.N<=k/\k<w.heap.size/\bkOf S.na≠some k/\bkOf S.va≠some k:=⟨(q09 h.r e).1,(q09 h.r e).2,q90 h.r h.lx.s.r (by decide) e,q90 h.r h.lx.s.v (by decide) e⟩
theorem KL.node (h:KL I S0 u L j ka kc n S w) {d:ND} (ha:Ad I S w d (naR il0 il0) S' w') (hg:Gd S' (n+1)):KL I S0 u (L++[(d,naR il0 il0)]) j ka kc (n+1) S' w':=by
 refine ⟨h.lx.trans ha.lx,by rw[ha.l,h.l],fun p hp=>?_,by rw[ha.va.2.2,h.vl],hg,q14 h.r fun k e=>?_,h.a⟩
 ·rcases List.mem_append.1 hp with hp|hp
  ·exact h.z p hp
  ·simp at hp
   rw[hp]
 ·obtain ⟨h1,h2,h3,h4⟩:=h.apart ((q08 _ _ _).symm.trans e)
  exact ha.lx.g.block k h2 (fun c=>by
   rcases c with c|c|c
   ·omega
   ·exact h3 c
   ·exact h4 c)
theorem KL.app (h:KL I S0 u L j ka kc n S w) {o:Obj} {ka':Option Addr} {kc':Nat} (ho:w'.ownsRow I.N 3 1 (.slice ka' (j+1) kc') (j+1) (inL j++[.int .i64 (j:Int)])) (hgr:(w.alloc o).grownBy w' (Value.slice ka j kc).ownBlock) (hat:(Value.slice ka' (j+1) kc').ownBlock=(Value.slice ka j kc).ownBlock\/(Value.slice ka' (j+1) kc').ownBlock=some (w.alloc o).heap.size):KL I S0 u L (j+1) ka' kc' n S w':=by
 have g:Gx (fun k=>bkOf ka=some k) w w':=(Gx.below (fun k=>bkOf ka=some k) (q01 w o)).trans (Gx.grown hgr) (fun k _ e=>(q08 _ _ _).symm.trans e)
 have hs:=h.lx.s
 have hi:=hs.i
 have i1:=hi.b;have i2:=hi.c;have i3:=hi.f;have i4:=hi.k
 have nk:∀ k,k<I.N->¬bkOf ka=some k:=fun k hk e=>by have:=(h.apart e).1;omega
 have hn:=hs.n
 have gb:∀ k,k<w.heap.size->¬bkOf ka=some k->w'.heap[k]?=w.heap[k]?:=fun k hk e=>g.block k hk e
 have q:∀ {a:Option Addr} {m:Nat} {f:Nat->Int},a=none->rOk I S w a m f->rOk I S w' a m f:=fun e r=>by
  subst e
  exact ⟨fun h0=>(by obtain ⟨b,off,e,_⟩:=r.1 h0;exact nomatch e),fun b e=>nomatch e⟩
 refine ⟨⟨⟨hi,g.ownB hs.b (nk _ i1),zb8 hs.c g (nk _ i2),hs.f.block g.size (gb _ (by omega) (nk _ i3)),hs.k.block g.size (gb _ (by omega) (nk _ i4)),?_,?_,fun p hp=>?_,Nat.le_trans hn g.size⟩,h.lx.g.trans g (fun k hk e=>by have:=h.a k e;omega),h.lx.m⟩,h.l,h.z,h.vl,h.g,by rw[y65];exact ho,fun k e=>?_⟩
 ·exact q14 hs.r fun k e=>gb k (q09 hs.r ((q08 _ _ _).symm.trans e)).2 (fun c=>(h.apart c).2.2.1 ((q08 _ _ _).symm.trans e))
 ·exact q14 hs.v fun k e=>gb k (q09 hs.v ((q08 _ _ _).symm.trans e)).2 (fun c=>(h.apart c).2.2.2 ((q08 _ _ _).symm.trans e))
 ·have hz:=h.z p (by rw[<-h.l];exact hp)
  obtain ⟨x1,x2,x3⟩:=hs.x p hp
  have e1:p.2.ra=none:=by rw[hz]
  have e2:p.2.ka=none:=by rw[hz]
  exact ⟨q e1 x1,q e2 x2,x3⟩
 ·rcases hat with c|c
  ·exact h.a k ((q08 _ _ _).symm.trans (c.symm.trans ((q08 _ _ _).trans e)))
  ·have c':=((q08 _ _ _).trans e).symm.trans c
   have:=Option.some.inj c'
   simp at this
   have:=h.lx.g.size
   omega
theorem KL.row (h:KL I S0 u L j ka kc n S w):rOk I S w ka j (fun (i:Nat)=>(i:Int))/\j<=kc:=by
 rcases h.r.2 with ⟨e0,e⟩|⟨g,c,cur,e,h1,h2,h3,_⟩
 ·subst e
  cases e0
  exact ⟨⟨fun h0=>absurd h0 (Nat.not_lt_zero _),fun _ e=>nomatch e⟩,Nat.zero_le _⟩
 ·have e1:ka=some ⟨g,0,none⟩:=by injection e
  have e2:kc=c:=by injection e
  subst e1
  refine ⟨⟨fun _=>⟨g,0,rfl,Nat.zero_le _,(Array.getElem?_eq_some_iff.1 h2).1,fun i hi k hk=>?_⟩,fun b e=>?_⟩,by rw[e2];exact h3⟩
  ·obtain rfl:k=0:=by omega
   have:=h.r.cells (g:=g) rfl i _ (yf4 j i hi)
   rw[show 0+i*1+0=i by omega]
   cases i<;>simpa[Addr.add] using this
  ·cases e
   exact h.apart rfl
end
structure CL (n:Nat) (ps:List (ND×NA)):Prop where
 len:ps.length=2*n
 v:∀ i,i<n->NdQ false 26 0 [0] [] (ps.getD (2*i) nd0)
 c:∀ i,i<n->NdQ false 34 0 [] (if i=0 then [2] else [2*(i:Int)+2,2*(i:Int)+1]) (ps.getD (2*i+1) nd0)
theorem za1 {α:Type} {a b:List α} {i:Nat} {d:α} (h:i<a.length):(a++b).getD i d=a.getD i d:=by
 simp[List.getD_eq_getElem?_getD,List.getElem?_append_left h]
theorem zm1 {α:Type} {a b:List α} {m i:Nat} {d:α} (h:a.length=m):(a++b).getD (m+i) d=b.getD i d:=by
 subst h
 simp[List.getD_eq_getElem?_getD,List.getElem?_append_right]
theorem CL.snoc {n:Nat} {ps:List (ND×NA)} (h:CL n ps) {a b:ND×NA} (ha:NdQ false 26 0 [0] [] a) (hb:NdQ false 34 0 [] (if n=0 then [2] else [2*(n:Int)+2,2*(n:Int)+1]) b):CL (n+1) (ps++[a,b]):=by
 refine ⟨by simp[h.len];omega,fun i hi=>?_,fun i hi=>?_⟩
 ·by_cases e:i<n
  ·rw[za1 (by rw[h.len];omega)]
   exact h.v i e
  ·obtain rfl:i=n:=by omega
   rw[show 2*i=2*i+0 from rfl,zm1 h.len]
   exact ha
 ·by_cases e:i<n
  ·rw[za1 (by rw[h.len];omega)]
   exact h.c i e
  ·obtain rfl:i=n:=by omega
   rw[zm1 h.len]
   exact hb
theorem NdQ.f {st:Bool} {k z:Int} {rs' cs':List Int} {rs cs:List Nat} {p:ND×NA} (h:NdQ st k z rs' cs' p) (hr:rs'=rs.map fun (t:Nat)=>(t:Int)) (hc:cs'=cs.map fun (t:Nat)=>(t:Int)):NdF p.1 k z rs cs:=by
 obtain ⟨l,r,c,rfl,ir,ic,_⟩:=h
 subst hr hc
 exact ⟨rfl,rfl,rfl,rfl,rfl,by show r.n=_;rw[ir.n,List.length_map],fun j y e=>ir.q j y (by rw[List.getElem?_map,e];rfl),by show c.n=_;rw[ic.n,List.length_map],fun j y e=>ic.q j y (by rw[List.getElem?_map,e];rfl)⟩
theorem NdQ.e {k z:Int} {rs' cs':List Int} {rs cs:List Nat} {p:ND×NA} (h:NdQ false k z rs' cs' p) (hr:rs'=rs.map fun (t:Nat)=>(t:Int)) (hc:cs'=cs.map fun (t:Nat)=>(t:Int)):NdE p.1 k z rs cs:=⟨h.f hr hc,by
 obtain ⟨l,r,c,rfl,_,_,e⟩:=h
 exact e⟩
theorem NdQ.s {k:Int} {rs' cs':List Int} {rs cs:List Nat} {p:ND×NA} (h:NdQ true k 0 rs' cs' p) (hr:rs'=rs.map fun (t:Nat)=>(t:Int)) (hc:cs'=cs.map fun (t:Nat)=>(t:Int)):NdS p.1 k rs cs:=by
 refine ⟨h.f hr hc,?_,?_⟩
 all_goals
  obtain ⟨l,r,c,rfl,_,_,e⟩:=h
  have e':1<=l/\l<=1000:=e
  have e1:=e'.1
  have e2:=e'.2
 ·exact e1
 ·show l<=100000
  omega
def lzF (nm:ByteArray) (ln:Int) (vs:List ByteArray) (l:List (ND×NA)):FD:=⟨nm,ln,0,true,vs.length,fun i=>vs.getD i ⟨#[]⟩,0,fun _=>⟨false,0⟩,l.length,fun i=>(l.getD i nd0).1⟩
def lzA (S:LBS) (g:Nat) (l:List (ND×NA)):FA:=⟨S.va,S.vc,none,0,some ⟨g,0,none⟩,S.nc,fun i=>(l.getD i nd0).2⟩
theorem z26 {α:Type}:∀ (l:List α) (i:Nat) (d:α),i<l.length->l.getD i d∈l
 |[],i,d,h=>absurd h (by simp)
 |x :: l,0,d,_=>by simp
 |x :: l,i+1,d,h=>by
  have:=z26 l i d (by simpa using h)
  show l.getD i d∈x :: l
  exact List.mem_cons_of_mem _ this
theorem RowN.lift {K J:Nat} {w:World} {a:Option Addr} {n:Nat} {q:Nat->Array Value} (h:RowN K 0 w a n q) (hJ:∀ b,a=some b->J<=b.block):RowN K J w a n q:=fun h0=>by
 obtain ⟨b,off,e,_,h2⟩:=h h0
 exact ⟨b,off,e,hJ _ e,h2⟩
theorem LZ.fnAt {I:LBI} {S:LBS} {g J:Nat} {l:List (ND×NA)} {w:World} (h:LZ I S g l w) (nm:ByteArray) (ln:Int) {vs:List ByteArray} (hv:S.vl=vs.map .string) (hJ:J<=I.N) (hg:J<=g) (hl:∀ p,p∈l->(∀ b,p.2.ra=some b->J<=b.block)/\∀ b,p.2.ka=some b->J<=b.block):FnAt J w (lzF nm ln vs l) (lzA S g l):=by
 refine ⟨fun h0=>?_,fun h0=>absurd h0 (Nat.not_lt_zero _),?_,fun i hi=>?_⟩
 ·have hv0:=h.v
  rw[hv,List.length_map] at hv0
  rcases hv0.2 with ⟨_,e⟩|⟨g',c,cur,e,h1,h2,_⟩
  ·replace h0:0<vs.length:=h0
   omega
  ·have e1:S.va=some ⟨g',0,none⟩:=by injection e
   refine ⟨g',0,e1,by omega,(Array.getElem?_eq_some_iff.1 h2).1,fun i hi j hj=>?_⟩
   replace hi:i<vs.length:=hi
   obtain rfl:j=0:=by omega
   have hc:=hv0.cells (g:=g') (by rw[e1];rfl) i (.string (vs.getD i ⟨#[]⟩)) (by simp[List.getD_eq_getElem?_getD,List.getElem?_eq_getElem hi])
   rw[show 0+i*1+0=i by omega]
   show w.cell? ⟨g',i,none⟩=some (.string (vs.getD i ⟨#[]⟩))
   cases i<;>simpa[Addr.add] using hc
 ·exact RowN.lift h.r (fun b e=>by cases e;exact hg)
 ·have hm:=z26 l i nd0 hi
  obtain ⟨x1,x2,_⟩:=h.x _ hm
  exact ⟨RowN.lift x1 (hl _ hm).1,RowN.lift x2 (hl _ hm).2⟩
theorem LZ.capF {I:LBI} {S:LBS} {g:Nat} {l:List (ND×NA)} {w:World} (h:LZ I S g l w) (nm:ByteArray) (ln:Int) (vs:List ByteArray):CapF (lzF nm ln vs l) (lzA S g l):=⟨h.cap,fun i hi=>(h.x _ (z26 l i nd0 hi)).2.2⟩
theorem y02 {J:Nat} {T:Nat->Prop} {w w':World} {d:FD} {x:FA} (h:FnAt J w d x) (g:Gx T w w') (hT:∀ k,J<=k->k<w.heap.size->¬T k):FnAt J w' d x:=by
 have q:∀ {K n:Nat} {a:Option Addr} {f:Nat->Array Value},RowN K J w a n f->RowN K J w' a n f:=fun r h0=>by
  obtain ⟨b,off,e,h1,h2,h3⟩:=r h0
  exact ⟨b,off,e,h1,Nat.lt_of_lt_of_le h2 g.size,fun i hi j hj=>(World.cell?_of_block (a:=⟨b,off+i*_+j,none⟩) (g.block b h2 (hT b h1 h2))).trans (h3 i hi j hj)⟩
 exact ⟨q h.1,q h.2.1,q h.2.2.1,fun i hi=>⟨q (h.2.2.2 i hi).1,q (h.2.2.2 i hi).2⟩⟩
abbrev onN:ND×NA:=(ndR 23 0 1 il0 il0,naR il0 il0)
abbrev rsN:ND×NA:=(ndR 37 0 0 il0 il0,naR il0 il0)
theorem ym1 {k l z:Int}:NdF (ndR k l z il0 il0) k z [] []:=⟨rfl,rfl,rfl,rfl,rfl,rfl,fun j y e=>by simp at e,rfl,fun j y e=>by simp at e⟩
theorem yq4 {nm:ByteArray} {ln l1:Int} {k:Nat} {c c1:IL} (hnm:nm.size<=40) (h1:0<=ln) (h2:ln<=1000) (hl1:1<=l1/\l1<=1000) (hc:c.n=k+1/\c.q=fun (i:Nat)=>(i:Int)) (hc1:c1.n=1/\c1.q=fun _=>(k:Int)+1):GF (lzF nm ln [] (List.replicate k onN++[rsN,(ndR 11 l1 0 il0 c,naR il0 c),(ndR 1 1 0 il0 c1,naR il0 c1)])) k:=by
 have hr:∀ t,(List.replicate k onN++[rsN,(ndR 11 l1 0 il0 c,naR il0 c),(ndR 1 1 0 il0 c1,naR il0 c1)]).getD (k+t) nd0=[rsN,(ndR 11 l1 0 il0 c,naR il0 c),(ndR 1 1 0 il0 c1,naR il0 c1)].getD t nd0:=fun t=>zm1 (by simp)
 have e0:(lzF nm ln [] (List.replicate k onN++[rsN,(ndR 11 l1 0 il0 c,naR il0 c),(ndR 1 1 0 il0 c1,naR il0 c1)])).nd k=ndR 37 0 0 il0 il0:=congrArg Prod.fst (hr 0)
 have e1:(lzF nm ln [] (List.replicate k onN++[rsN,(ndR 11 l1 0 il0 c,naR il0 c),(ndR 1 1 0 il0 c1,naR il0 c1)])).nd (k+1)=ndR 11 l1 0 il0 c:=congrArg Prod.fst (hr 1)
 have e2:(lzF nm ln [] (List.replicate k onN++[rsN,(ndR 11 l1 0 il0 c,naR il0 c),(ndR 1 1 0 il0 c1,naR il0 c1)])).nd (k+2)=ndR 1 1 0 il0 c1:=congrArg Prod.fst (hr 2)
 refine ⟨by show (List.replicate k onN++_).length=_;simp,fun j hj=>?_,?_,?_,?_,rfl,rfl,rfl,rfl,hnm,h1,by show ln<=100000;omega⟩
 ·have e:(lzF nm ln [] (List.replicate k onN++[rsN,(ndR 11 l1 0 il0 c,naR il0 c),(ndR 1 1 0 il0 c1,naR il0 c1)])).nd j=ndR 23 0 1 il0 il0:=by
   show ((List.replicate k onN++_).getD j nd0).1=_
   rw[za1 (by simpa using hj)]
   simp[List.getD_eq_getElem?_getD,hj]
  rw[e]
  exact ⟨ym1,rfl⟩
 ·rw[e0]
  exact ⟨ym1,rfl⟩
 ·rw[e1]
  refine ⟨⟨rfl,rfl,rfl,rfl,rfl,rfl,fun j y e=>by simp at e,by show c.n=_;rw[hc.1];simp,fun j y e=>?_⟩,hl1.1,by show l1<=100000;omega⟩
  show c.q j=_
  rw[hc.2]
  have:=List.getElem?_eq_some_iff.1 e
  obtain ⟨hj,e'⟩:=this
  simp at e'
  show (j:Int)=_
  omega
 ·rw[e2]
  refine ⟨⟨rfl,rfl,rfl,rfl,rfl,rfl,fun j y e=>by simp at e,by show c1.n=_;rw[hc1.1];rfl,fun j y e=>?_⟩,by show (1:Int)<=1;omega,by show (1:Int)<=100000;omega⟩
  rcases j with _|j
  ·simp at e
   show c1.q 0=_
   rw[hc1.2,<-e]
   simp
  ·simp at e
abbrev mlL (p0 p1:ND×NA) (ps:List (ND×NA)) (a0 a1 a2 g0 g1 g2 g3 g4 g5 g6 g7 b:ND×NA):List (ND×NA):=([p0,p1]++ps)++[a0,a1,a2,g0,g1,g2,g3,g4,g5,g6,g7,b]
theorem yp5 {nm:ByteArray} {n:Nat} {va vb vc:ByteArray} {p0 p1 a0 a1 a2 g0 g1 g2 g3 g4 g5 g6 g7 b:ND×NA} {ps:List (ND×NA)} (hn:1<=n) (hnm:nm.size<=40) (hva:va.size=1/\vb.size=1/\vc.size=1)
  (h0:NdQ false 36 0 [1] [] p0) (h1:NdQ true 2 0 [0] [0] p1) (hc:CL n ps) (q0:NdQ false 28 0 [] [] a0) (q1:NdQ false 34 0 [] [2*(n:Int)+2,2*(n:Int)+1] a1) (q2:NdQ true 4 0 [] [2*(n:Int)+3] a2) (hg:GdP (2*(n:Int)+5) [2*(n:Int)+4] g0 g1 g2 g3 g4 g5 g6 g7) (hb:NdQ true 1 0 [] [1,2*(n:Int)+12] b) :
  MF (lzF nm 0 [va,vb,vc] (mlL p0 p1 ps a0 a1 a2 g0 g1 g2 g3 g4 g5 g6 g7 b)) n:=by
 have hlen:([p0,p1]++ps).length=2*n+2:=by simp[hc.len]
 have hr:∀ t,(mlL p0 p1 ps a0 a1 a2 g0 g1 g2 g3 g4 g5 g6 g7 b).getD (2*n+2 + t) nd0=[a0,a1,a2,g0,g1,g2,g3,g4,g5,g6,g7,b].getD t nd0:=fun t=>zm1 hlen
 have hl:∀ i,i<2*n->(mlL p0 p1 ps a0 a1 a2 g0 g1 g2 g3 g4 g5 g6 g7 b).getD (i+2) nd0=ps.getD i nd0:=fun i hi=>by
  rw[za1 (by rw[hlen];omega)]
  rfl
 obtain ⟨d,hd⟩:∃ d,lzF nm 0 [va,vb,vc] (mlL p0 p1 ps a0 a1 a2 g0 g1 g2 g3 g4 g5 g6 g7 b)=d:=⟨_,rfl⟩
 have R:∀ t,d.nd (2*n+2 + t)=([a0,a1,a2,g0,g1,g2,g3,g4,g5,g6,g7,b].getD t nd0).1:=fun t=>by rw[<-hd];exact congrArg Prod.fst (hr t)
 have M:∀ i,i<2*n->d.nd (i+2)=(ps.getD i nd0).1:=fun i hi=>by rw[<-hd];exact congrArg Prod.fst (hl i hi)
 have d0:d.nd 0=p0.1:=by rw[<-hd];rfl
 have d1:d.nd 1=p1.1:=by rw[<-hd];rfl
 have dn:d.nn=2*n+14:=by rw[<-hd];show (mlL p0 p1 ps a0 a1 a2 g0 g1 g2 g3 g4 g5 g6 g7 b).length=_;rw[List.length_append,hlen];rfl
 have r0:d.nd (2*n+2)=a0.1:=R 0
 have r1:d.nd (2*n+3)=a1.1:=R 1
 have r2:d.nd (2*n+4)=a2.1:=R 2
 have r3:d.nd (2*n+5)=g0.1:=R 3
 have r4:d.nd (2*n+6)=g1.1:=R 4
 have r5:d.nd (2*n+7)=g2.1:=R 5
 have r6:d.nd (2*n+8)=g3.1:=R 6
 have r7:d.nd (2*n+9)=g4.1:=R 7
 have r8:d.nd (2*n+10)=g5.1:=R 8
 have r9:d.nd (2*n+11)=g6.1:=R 9
 have r10:d.nd (2*n+12)=g7.1:=R 10
 have r11:d.nd (2*n+13)=b.1:=R 11
 rw[hd]
 refine ⟨dn,?_,?_,fun i hi=>?_,?_,fun i hi1 hi=>?_,?_,?_,?_,?_,?_,?_,?_,?_,?_,?_,?_,?_,by rw[<-hd];rfl,by rw[<-hd];rfl,by rw[<-hd];rfl,by rw[<-hd];rfl,by rw[<-hd];exact hnm,by rw[<-hd];exact Int.le_refl 0,by rw[<-hd];show (0:Int)<=100000;omega,fun i hi=>?_⟩
 ·rw[d0];exact h0.e rfl rfl
 ·rw[d1];exact h1.s rfl rfl
 ·rw[M (2*i) (by omega)];exact (hc.v i hi).e rfl rfl
 ·rw[show (3:Nat)=(2*0+1)+2 from rfl,M (2*0+1) (by omega)];exact (hc.c 0 (by omega)).e rfl rfl
 ·have:=hc.c i hi
  rw[if_neg (by omega)] at this
  rw[show 2*i+3=(2*i+1)+2 from rfl,M (2*i+1) (by omega)]
  exact this.e rfl (by simp)
 ·rw[r0];exact q0.e rfl rfl
 ·rw[r1];exact q1.e rfl (by simp)
 ·rw[r2];exact q2.s rfl (by simp)
 ·rw[r3];exact hg.p0.s rfl (by simp)
 ·rw[r4];exact hg.p1.e rfl rfl
 ·rw[r5];exact hg.p2.e rfl rfl
 ·rw[r6];exact hg.p3.e rfl rfl
 ·rw[r7];exact hg.p4.e rfl (by simp;omega)
 ·rw[r8];exact hg.p5.s rfl (by simp;omega)
 ·rw[r9];exact hg.p6.s rfl (by simp;omega)
 ·rw[r10];exact hg.p7.s rfl (by simp;omega)
 ·rw[r11];exact hb.s rfl (by simp)
 ·rw[<-hd]
  show 1<=([va,vb,vc].getD i ⟨#[]⟩).size/\([va,vb,vc].getD i ⟨#[]⟩).size<=40
  obtain ⟨v1,v2,v3⟩:=hva
  rcases (show i=0\/i=1\/i=2 by omega) with rfl|rfl|rfl
  ·show 1<=va.size/\va.size<=40;omega
  ·show 1<=vb.size/\vb.size<=40;omega
  ·show 1<=vc.size/\vc.size<=40;omega
def MlP (k n:Nat) (w:World) (e:Ending) (w':World):Prop:=∃ (ub uc:Nat) (fn:Nat->FD) (fas:Nat->FA),e=.returned (.agg #[.slice (some ⟨ub,0,none⟩) 2 uc])/\FnsAt 0 w' 2 fn (some ⟨ub,0,none⟩) fas/\(∀ j,j<2->CapF (fn j) (fas j))/\GF (fn 1) k/\MF (fn 0) n/\Below w.heap.size w w'
abbrev opS (S:LBS):LBS:=⟨S.lf,0,S.A+2,none,0,[],[],none,0,.slice none 0 0⟩
structure GZ (k:Nat) (w:World) (I:LBI) (S:LBS) (J:Nat) (fG:FD) (xG:FA) (v:World):Prop where
 s:LB I S v
 N:I.N=v.heap.size
 nf:I.nf=2
 f:I.f=0
 nk:I.nk=1
 kc:1<=I.kc
 j:I.B<J/\I.C<J/\I.F<J/\I.K<J/\J<=v.heap.size
 fa:FnAt J v fG xG
 cp:CapF fG xG
 gf:GF fG k
 A0:∀ (j:Nat) (z:Value),fnZ[j]?=some z->I.A0[j]?=some z
 A1:∀ (j:Nat) (z:Value),(fnC fG xG)[j]?=some z->I.A0[7+j]?=some z
 l:S.l=[]
 vl:S.vl=[]
 sc:S.sc=.slice none 0 0
 na:S.na=none/\S.va=none
 g:Gd S 95
 hb:Below w.heap.size w v
 bx:OwnB v w.heap.size #[.slice none 0 0]
 bl:w.heap.size<I.B/\w.heap.size<I.C/\w.heap.size<I.F/\w.heap.size<I.K
theorem yq2 {k:Nat} {w w1 w2 w7 w8 w9:World} {I I':LBI} {S3 S4 S5:LBS} {nm:ByteArray} {ka:Option Addr} {kc g:Nat} {l1:Int} (h1:L4P (w.alloc (.cells #[.slice none 0 0] 31)) I w1) (h2:OpP I lS0 w1 nm I' w2) (h3:KL I' (opS lS0) w2 (List.replicate k onN++[rsN]) (k+1) ka kc (1+k + 1) S3 w7) (hl:1<=l1/\l1<=1000) (h4:Ad I' S3 w7 (ndR 11 l1 0 il0 ⟨ka,k+1,kc,fun (i:Nat)=>(i:Int)⟩) (naR il0 ⟨ka,k+1,kc,fun (i:Nat)=>(i:Int)⟩) S4 w8) (h5:ShS I' S4 (w8.alloc (.cells #[.int .i64 (S3.l.length:Int)] 3)) ⟨some ⟨w8.heap.size,0,none⟩,1,1,fun _=>(S3.l.length:Int)⟩ S5 g w9) (hg:Gd S5 (1+k + 1+1 + 1)) (hk:k<=90):∃ I2 S6 J fG xG,GZ k w I2 S6 J fG xG w9/\I2.B=I'.B:=by
 obtain ⟨_,b1,hI,eN,_,_,_,_,_,_,_,_,_⟩:=h1
 have hi:=h2.s.i
 have i1:=hi.b;have i2:=hi.c;have i3:=hi.f;have i4:=hi.k
 have hx:Lx I' (opS lS0) w2 S4 (w8.alloc (.cells #[.int .i64 (S3.l.length:Int)] 3)):=(h3.lx.trans h4.lx).trans (Lx.below h4.lx.s (q01 _ _))
 have s1:w.heap.size+1<=w1.heap.size:=by have:=b1.size;simpa using this
 have s2:=h2.g.size
 have s4:w8.heap.size+1<=w9.heap.size:=by have:=h5.g.size;rwa [World.size_alloc] at this
 have s8:=h4.lx.s.n
 have N2:=h2.N
 have hIF:∀ k,(k=I.B\/k=I.C\/k=I.F\/k=I.K)->w.heap.size<k:=fun k e=>by have:=hI k e;simp at this;omega
 have hI':∀ k,(k=I'.B\/k=I'.C\/k=I'.F\/k=I'.K)->w.heap.size<k:=fun k e=>by
  rcases e with e|e|e|e
  ·rw[e,h2.eB];exact hIF _ (.inl rfl)
  ·rw[e,h2.eC];exact hIF _ (.inr (.inl rfl))
  ·rcases h2.F with c|c
   ·rw[e,c];exact hIF _ (.inr (.inr (.inl rfl)))
   ·omega
  ·rcases h2.Kn with c|c
   ·rw[e,c];exact hIF _ (.inr (.inr (.inr rfl)))
   ·omega
 have g9:Gx (fun k=>w.heap.size<k) w1 w9:=by
  refine ((h2.g.mono (S':=fun k=>w.heap.size<k) (fun k e=>hIF k e)).trans hx.g (fun k _ e=>?_)).trans h5.g (fun k _ e=>?_)
  ·rcases e with e|e|e
   ·exact hI' k e.2
   ·cases e
   ·cases e
  ·rcases e with e|e|e
   ·exact hI' k e
   ·have:=(q09 hx.s.r e).1;omega
   ·have:=(q09 hx.s.v e).1;omega
 have e3:S3.l=List.replicate k onN++[rsN]:=h3.l
 have n3:S3.l.length=k+1:=by rw[e3];simp
 have n4:S4.l.length=k+2:=by rw[h4.l];simp[n3]
 have hlG:S4.l++[(ndR 1 1 0 il0 ⟨some ⟨w8.heap.size,0,none⟩,1,1,fun _=>(S3.l.length:Int)⟩,naR il0 ⟨some ⟨w8.heap.size,0,none⟩,1,1,fun _=>(S3.l.length:Int)⟩)]=List.replicate k onN++[rsN,(ndR 11 l1 0 il0 ⟨ka,k+1,kc,fun (i:Nat)=>(i:Int)⟩,naR il0 ⟨ka,k+1,kc,fun (i:Nat)=>(i:Int)⟩),(ndR 1 1 0 il0 ⟨some ⟨w8.heap.size,0,none⟩,1,1,fun _=>(S3.l.length:Int)⟩,naR il0 ⟨some ⟨w8.heap.size,0,none⟩,1,1,fun _=>(S3.l.length:Int)⟩)]:=by
  rw[h4.l,e3]
  simp
 have v4:S4.vl=[]:=by rw[h4.va.2.2,h3.vl]
 have v5:S5.vl=[]:=by rw[h5.vl,v4]
 obtain ⟨A,K,hB,hA,a11,a13,ao⟩:=h5.back hi ⟨h2.nf,h2.f,h2.nk⟩ 0 ⟨h2.K 0 _ rfl,h2.K 1 _ rfl,h2.K 4 _ rfl⟩ ⟨h2.A 4 _ rfl,h2.A 6 _ rfl⟩ (by omega)
 have gf:=yq4 (nm:=nm) (ln:=0) (l1:=l1) (k:=k) (c:=⟨ka,k+1,kc,fun (i:Nat)=>(i:Int)⟩) (c1:=⟨some ⟨w8.heap.size,0,none⟩,1,1,fun _=>(S3.l.length:Int)⟩) h2.nm (Int.le_refl _) (by omega) hl ⟨rfl,rfl⟩ ⟨rfl,by funext j;show (S3.l.length:Int)=_;rw[n3];simp⟩
 have hz:=h5.z
 rw[hlG] at hz
 have hrow:=(h3.row).1
 have fa:FnAt I'.N w9 _ _:=hz.fnAt (J:=I'.N) nm 0 (vs:=[]) v5 (Nat.le_refl _) h5.gg (fun p hp=>by
  rcases List.mem_append.1 hp with hp|hp
  ·have e:=List.eq_of_mem_replicate hp
   subst e
   exact ⟨fun b e=>(nomatch e),fun b e=>(nomatch e)⟩
  ·simp at hp
   rcases hp with rfl|rfl|rfl
   ·exact ⟨fun b e=>(nomatch e),fun b e=>(nomatch e)⟩
   ·exact ⟨fun b e=>(nomatch e),fun b e=>(hrow.2 b e).1⟩
   ·refine ⟨fun b e=>(nomatch e),fun b e=>?_⟩
    have e':=Option.some.inj e
    subst e'
    exact s8)
 have g1:=hg.f1;have g2:=hg.f2;have g3:=hg.A
 refine ⟨I'.back w9.heap.size A K,_,I'.N,_,_,⟨hB,rfl,h2.nf,rfl,rfl,Nat.le_trans (by omega) h2.kc,⟨i1,i2,i3,i4,by omega⟩,fa,hz.capF nm 0 [],gf,fun j z e=>?_,fun j z e=>?_,rfl,rfl,rfl,⟨rfl,rfl⟩,⟨Nat.zero_le _,?_,g2,?_,Int.le_refl _,by show (0:Int)<=2*((95:Nat):Int);omega⟩,?_,?_,⟨hI' _ (.inl rfl),hI' _ (.inr (.inl rfl)),hI' _ (.inr (.inr (.inl rfl))),hI' _ (.inr (.inr (.inr rfl)))⟩⟩,rfl⟩
 ·have hj:j<7:=(Array.getElem?_eq_some_iff.1 e).1
  show A[j]?=_
  rw[ao j (by omega) (by omega)]
  refine h2.A j z ?_
  rw[List.getElem?_append_left (by exact hj),Array.getElem?_toList]
  exact e
 ·have hj:j<7:=(Array.getElem?_eq_some_iff.1 e).1
  show A[7+j]?=_
  rcases (show j=0\/j=1\/j=2\/j=3\/j=4\/j=5\/j=6 by omega) with rfl|rfl|rfl|rfl|rfl|rfl|rfl
  ·rw[ao 7 (by omega) (by omega),<-e];exact h2.A 7 _ rfl
  ·rw[ao 8 (by omega) (by omega),<-e];exact h2.A 8 _ rfl
  ·rw[ao 9 (by omega) (by omega),<-e];exact h2.A 9 _ rfl
  ·rw[ao 10 (by omega) (by omega),<-e];exact h2.A 10 _ rfl
  ·rw[v5] at a11
   rw[<-e];exact a11
  ·rw[ao 12 (by omega) (by omega),<-e];exact h2.A 12 _ rfl
  ·rw[n4] at a13
   have hlen:(List.replicate k onN++[rsN,(ndR 11 l1 0 il0 ⟨ka,k+1,kc,fun (i:Nat)=>(i:Int)⟩,naR il0 ⟨ka,k+1,kc,fun (i:Nat)=>(i:Int)⟩),(ndR 1 1 0 il0 ⟨some ⟨w8.heap.size,0,none⟩,1,1,fun _=>(S3.l.length:Int)⟩,naR il0 ⟨some ⟨w8.heap.size,0,none⟩,1,1,fun _=>(S3.l.length:Int)⟩)]).length=k+2 + 1:=by simp
   rw[<-e]
   show A[7+6]?=some (.slice (some ⟨g,0,none⟩) (List.replicate k onN++[rsN,(ndR 11 l1 0 il0 ⟨ka,k+1,kc,fun (i:Nat)=>(i:Int)⟩,naR il0 ⟨ka,k+1,kc,fun (i:Nat)=>(i:Int)⟩),(ndR 1 1 0 il0 ⟨some ⟨w8.heap.size,0,none⟩,1,1,fun _=>(S3.l.length:Int)⟩,naR il0 ⟨some ⟨w8.heap.size,0,none⟩,1,1,fun _=>(S3.l.length:Int)⟩)]).length S5.nc)
   rw[hlen]
   exact a13
 ·show 2000<=S5.lf+((95:Nat):Int);omega
 ·show S5.A<=2*95;omega
 ·exact (q02 (q01 _ _) b1).trans (g9.to (by omega) (fun k e=>by omega))
 ·exact g9.ownB ((OwnB.new w _ _).call b1) (Nat.lt_irrefl _)
structure ML (I:LBI) (S0:LBS) (u:World) (p0 p1:ND×NA) (i n:Nat) (S:LBS) (w:World):Prop where
 lx:Lx I S0 u S w
 l:∃ ps,S.l=[p0,p1]++ps/\CL i ps
 vl:S.vl=[vNm 97]
 g:Gd S n
section
variable {I:LBI} {S0 S S' S'':LBS} {u w w1 w2 w3:World} {p0 p1:ND×NA} {i n:Nat}
theorem ML.len (h:ML I S0 u p0 p1 i n S w):S.l.length=2*i+2:=by
 obtain ⟨ps,e,c⟩:=h.l
 rw[e]
 simp[c.len]
theorem ML.step (h:ML I S0 u p0 p1 i n S w) {a:Option Addr} {c:IL} (ha:Ad I S w (ndR 26 0 0 ⟨a,1,1,fun _=>0⟩ il0) (naR ⟨a,1,1,fun _=>0⟩ il0) S' w1) (hb:Below w1.heap.size w1 w2) (hc:Ad I S' w2 (ndR 34 0 0 il0 c) (naR il0 c) S'' w3) (hq:ILis c (if i=0 then [2] else [2*(i:Int)+2,2*(i:Int)+1])) (hg:Gd S'' (n+1 + 1)):ML I S0 u p0 p1 (i+1) (n+2) S'' w3:=by
 obtain ⟨ps,e,cl⟩:=h.l
 refine ⟨((h.lx.trans ha.lx).trans (Lx.below ha.lx.s hb)).trans hc.lx,⟨ps++[_,_],?_,cl.snoc (a:=(ndR 26 0 0 ⟨a,1,1,fun _=>0⟩ il0,naR ⟨a,1,1,fun _=>0⟩ il0)) (b:=(ndR 34 0 0 il0 c,naR il0 c)) ⟨0,_,_,rfl,qi4 a 0,q92,rfl⟩ ⟨0,_,_,rfl,q92,hq,rfl⟩⟩,by rw[hc.va.2.2,ha.va.2.2,h.vl],hg⟩
 rw[hc.l,ha.l,e]
 simp
end
theorem yp4 {k n m:Nat} {w w9 w14 w15 w16 w17:World} {I:LBI} {S6 S S2 S3 S4:LBS} {J g:Nat} {fG:FD} {xG:FA} {p0 p1 g0 g1 g2 g3 g4 g5 g6 g7:ND×NA} {l z z2:Int} {r2 r3 c:IL} {o o2 o3:Obj} {m2:Nat} (hn:1<=n) (hz:GZ k w I S6 J fG xG w9) (hm:ML I S6 w9 p0 p1 n m S w14) (h0:NdQ false 36 0 [1] [] p0) (h1:NdQ true 2 0 [0] [0] p1) (hp:PrS I S (w14.alloc o) 1 (fun _=>z) m l r2 r3 S2 w15) (ez:z=2*(n:Int)+1) (hgu:AdL I S2 (w15.alloc o2) [g0,g1,g2,g3,g4,g5,g6,g7] m2 S3 w16) (hgp:GdP (S2.l.length:Int) [z2] g0 g1 g2 g3 g4 g5 g6 g7) (e2:z2=2*(n:Int)+4) (hv3:S3.vl=S2.vl++[vNm 98,vNm 99]) (hlz:LZ I S4 g (S3.l++[(ndR 1 1 0 il0 c,naR il0 c)]) w17) (hc:ILis c [1,2*(n:Int)+12]) (hv4:S4.vl=S3.vl) (hgN:I.N<=g) (hvN:∀ k,bkOf S4.va=some k->I.N<=k) (hg17:Gx (fun k=>(k=I.B\/k=I.C\/k=I.F\/k=I.K)\/bkOf S3.na=some k\/bkOf S3.va=some k) (w16.alloc o3) w17):OwnB w17 w.heap.size #[.slice none 0 0]/\MlP k n w (.returned (.agg #[.slice (some ⟨I.F,0,none⟩) 2 I.fc])) (w17.setCell ⟨w.heap.size,0,none⟩ (.slice (some ⟨I.F,0,none⟩) 2 I.fc)):=by
 obtain ⟨q1,q2,q3,q4,q5⟩:=hz.bl |>.elim fun a b=>b.elim fun c d=>d.elim fun e f=>(⟨a,c,e,f,hz.j⟩:_/\_/\_/\_/\_)
 obtain ⟨j1,j2,j3,j4,j5⟩:=q5
 have eN:=hz.N
 have hx:Lx I S6 w9 S3 (w16.alloc o3):=(((hm.lx.trans (Lx.below hm.lx.s (q01 _ o))).trans hp.lx).trans ((Lx.below hp.lx.s (q01 _ o2)).trans hgu.lx)).trans (Lx.below hgu.lx.s (q01 _ o3))
 have gT:Gx (fun k=>(k=I.B\/k=I.C\/k=I.F\/k=I.K)\/w9.heap.size<=k) w9 w17:=by
  refine (hx.g.mono (S':=fun k=>(k=I.B\/k=I.C\/k=I.F\/k=I.K)\/w9.heap.size<=k) (fun k e=>?_)).trans hg17 (fun k _ e=>?_)
  ·rcases e with e|e|e
   ·exact .inl e.2
   ·rw[hz.na.1] at e;cases e
   ·rw[hz.na.2] at e;cases e
  ·rcases e with e|e|e
   ·exact .inl e
   ·exact .inr (by have:=(q09 hx.s.r e).1;omega)
   ·exact .inr (by have:=(q09 hx.s.v e).1;omega)
 have hO:OwnB w17 w.heap.size #[.slice none 0 0]:=gT.ownB hz.bx (fun e=>by
  have:=hz.hb.size
  have b9:=hz.bx.1.1
  rcases e with (e|e|e|e)|e<;>omega)
 have hL:=hlz.set (v:=.slice (some ⟨I.F,0,none⟩) 2 I.fc) hO (by omega) (by omega) (fun e=>by have:=hvN _ e;have:=hz.bx.1.1;omega)
 have gS:Gx (fun k=>k=w.heap.size) w17 (w17.setCell ⟨w.heap.size,0,none⟩ (.slice (some ⟨I.F,0,none⟩) 2 I.fc)):=Gx.set _ _ _ _
 obtain ⟨ps,el,cl⟩:=hm.l
 have nS:=hm.len
 have n2:(S2.l.length:Int)=2*(n:Int)+5:=by rw[hp.ll];simp[nS];omega
 have hlist:S3.l++[(ndR 1 1 0 il0 c,naR il0 c)]=mlL p0 p1 ps (ndR 28 0 0 il0 il0,naR il0 il0) (ndR 34 0 0 il0 r2,naR il0 r2) (ndR 4 l 0 il0 r3,naR il0 r3) g0 g1 g2 g3 g4 g5 g6 g7 (ndR 1 1 0 il0 c,naR il0 c):=by
  rw[hgu.l,hp.ll,el]
  simp
 rw[hlist] at hL
 rw[n2,e2] at hgp
 have v4:S4.vl=[strOfNums [(97:Int)],strOfNums [(98:Int)],strOfNums [(99:Int)]].map .string:=by rw[hv4,hv3,hp.va,hm.vl];rfl
 have hM:MF (lzF ⟨#[109,97,105,110]⟩ 0 [strOfNums [(97:Int)],strOfNums [(98:Int)],strOfNums [(99:Int)]] (mlL p0 p1 ps (ndR 28 0 0 il0 il0,naR il0 il0) (ndR 34 0 0 il0 r2,naR il0 r2) (ndR 4 l 0 il0 r3,naR il0 r3) g0 g1 g2 g3 g4 g5 g6 g7 (ndR 1 1 0 il0 c,naR il0 c))) n:=by
  refine yp5 hn (by decide) ⟨by kernel_rfl,by kernel_rfl,by kernel_rfl⟩ h0 h1 cl ⟨0,_,_,rfl,q92,q92,rfl⟩ ⟨0,_,_,rfl,q92,⟨by rw[hp.r2n];rfl,fun j y e=>?_,by rw[hp.r2n];exact hp.r2c⟩,rfl⟩ ⟨l,_,_,rfl,q92,⟨by rw[hp.r3n];rfl,fun j y e=>?_,by rw[hp.r3n];exact hp.r3c⟩,⟨hp.l1,hp.l2⟩⟩ hgp ⟨1,_,_,rfl,q92,hc,by decide⟩
  ·rw[hp.r2q]
   rcases j with _|_|j
   ·simp at e
    show (if 0=0 then (S.l.length:Int) else _)=y
    rw[if_pos rfl,nS]
    omega
   ·simp at e
    show (if 0+1=0 then _ else z)=y
    rw[if_neg (by omega)]
    omega
   ·simp at e
  ·rw[hp.r3q]
   rcases j with _|j
   ·simp at e
    show (S.l.length:Int)+1=y
    rw[nS]
    omega
   ·simp at e
 obtain ⟨LL,hLL⟩:∃ LL,mlL p0 p1 ps (ndR 28 0 0 il0 il0,naR il0 il0) (ndR 34 0 0 il0 r2,naR il0 r2) (ndR 4 l 0 il0 r3,naR il0 r3) g0 g1 g2 g3 g4 g5 g6 g7 (ndR 1 1 0 il0 c,naR il0 c)=LL:=⟨_,rfl⟩
 rw[hLL] at hM hL
 refine ⟨hO,I.F,I.fc,fun j=>if j=0 then lzF ⟨#[109,97,105,110]⟩ 0 [strOfNums [(97:Int)],strOfNums [(98:Int)],strOfNums [(99:Int)]] LL else fG,fun j=>if j=0 then lzA S4 g LL else xG,rfl,?_⟩
 obtain ⟨A,a1,a4,a6,ao⟩:=hL.f
 have ef:I.fo=0:=by show I.f*7=0;rw[hz.f]
 rw[ef] at a4 a6 ao
 refine ⟨⟨fun _=>⟨I.F,0,rfl,Nat.zero_le _,a1.1.1,fun i hi j hj=>?_⟩,fun i hi=>?_⟩,fun i hi=>?_,hz.gf,hM,?_⟩
 ·rcases (show i=0\/i=1 by omega) with rfl|rfl
  ·rw[show 0+0*7+j=j by omega,a1.1.2 j]
   show A[j]?=(fnC (lzF _ _ _ _) (lzA S4 g _))[j]?
   rcases (show j=0\/j=1\/j=2\/j=3\/j=4\/j=5\/j=6 by omega) with rfl|rfl|rfl|rfl|rfl|rfl|rfl
   ·exact (ao 0 (by omega) (by omega)).trans (hz.A0 0 _ rfl)
   ·exact (ao 1 (by omega) (by omega)).trans (hz.A0 1 _ rfl)
   ·exact (ao 2 (by omega) (by omega)).trans (hz.A0 2 _ rfl)
   ·exact (ao 3 (by omega) (by omega)).trans (hz.A0 3 _ rfl)
   ·rw[v4] at a4
    exact a4
   ·exact (ao 5 (by omega) (by omega)).trans (hz.A0 5 _ rfl)
   ·exact a6
  ·show _=(fnC fG xG)[j]?
   have hs:j<(fnC fG xG).size:=hj
   rw[show 0+1*7+j=7+j by omega,a1.1.2 (7+j),ao (7+j) (by omega) (by omega),Array.getElem?_eq_getElem hs]
   exact hz.A1 j _ (Array.getElem?_eq_getElem hs)
 ·rcases (show i=0\/i=1 by omega) with rfl|rfl
  ·exact hL.fnAt (J:=0) _ 0 v4 (Nat.zero_le _) (Nat.zero_le _) (fun p hp=>⟨fun b e=>Nat.zero_le _,fun b e=>Nat.zero_le _⟩)
  ·show FnAt 0 _ fG xG
   exact (y02 (y02 hz.fa gT (fun k h1 h2 e=>by rcases e with (e|e|e|e)|e<;>omega)) gS (fun k h1 h2 e=>by omega)).less (Nat.zero_le _)
 ·rcases (show i=0\/i=1 by omega) with rfl|rfl
  ·exact hL.capF _ 0 _
  ·exact hz.cp
 ·exact (hz.hb.trans (gT.to (N:=w.heap.size) (by have:=hz.bx.1.1;omega) (fun k e=>by have:=hz.bx.1.1;rcases e with (e|e|e|e)|e<;>omega))).trans (gS.to (by have:=hO.1.1;omega) (fun k e=>by omega))
end Go.Proofs.YtaimofjekgnieaaGreatDoor
namespace Go.Proofs.YtaimofjekgnieaaGreatDoor
open Go.RowKit
attribute [local go_sem] q00
attribute [local go_sem ↓] Go.wp_at_zero Go.wp_at_succ
theorem yb0 (a b:Int) (w:World):(convert 22 9 (.slice (some ⟨w.heap.size,0,none⟩) 2 2)).run Tryz.prog (w.alloc (.cells #[.int .u8 a,.int .u8 b] 5))=.ok (.string (strOfNums [a,b])) (w.alloc (.cells #[.int .u8 a,.int .u8 b] 5))/\(convert 22 9 (.slice (some ⟨w.heap.size,0,none⟩) 2 2)).run Tryz.prog (w.alloc (.cells #[.int .u8 a,.int .u8 b] 5)).drew=.ok (.string (strOfNums [a,b])) (w.alloc (.cells #[.int .u8 a,.int .u8 b] 5)).drew:=by
 constructor
 ·exact run_convert_bytes_arg (P:=Tryz.prog) (w:=w.alloc (.cells #[.int .u8 a,.int .u8 b] 5)) 22 5 Tryz.underlying22 Tryz.underlying5 w.heap.size 0 2 2 [a,b] rfl (fun i hi=>by
   rcases (show i=0\/i=1 by omega) with rfl|rfl
   ·exact World.cell?_alloc_new w #[.int .u8 a,.int .u8 b] 5 0
   ·exact World.cell?_alloc_new w #[.int .u8 a,.int .u8 b] 5 1) 9 Tryz.underlying9
 ·exact run_convert_bytes_arg (P:=Tryz.prog) (w:=(w.alloc (.cells #[.int .u8 a,.int .u8 b] 5)).drew) 22 5 Tryz.underlying22 Tryz.underlying5 w.heap.size 0 2 2 [a,b] rfl (fun i hi=>by
   rcases (show i=0\/i=1 by omega) with rfl|rfl
   ·exact World.cell?_alloc_new w #[.int .u8 a,.int .u8 b] 5 0
   ·exact World.cell?_alloc_new w #[.int .u8 a,.int .u8 b] 5 1) 9 Tryz.underlying9
theorem qf5 {a b:Int} {w:World} {B:Nat} (h:Has w B #[.int .u8 a,.int .u8 b]):(convert 22 9 (.slice (some ⟨B,0,none⟩) 2 2)).run Tryz.prog w=.ok (.string (strOfNums [a,b])) w:=
 run_convert_bytes_arg (P:=Tryz.prog) (w:=w) 22 5 Tryz.underlying22 Tryz.underlying5 B 0 2 2 [a,b] rfl (fun i hi=>by
  rcases (show i=0\/i=1 by omega) with rfl|rfl
  ·exact h.2 0
  ·exact h.2 1) 9 Tryz.underlying9
abbrev byO:Array Value:=#[.int .u8 102,.int .u8 49]
theorem Lx.beside {I:LBI} {S S':LBS} {u w w':World} (h:Lx I S u S' w) {P:Nat} (g:Gx (fun k=>k=P) w w') (hP:u.heap.size<=P) (hN:I.N<=P) (hl:S'.l=[]) (hna:S'.na=none) (hva:S'.va=none):Lx I S u S' w':=by
 have hi:=h.s.i
 have hb:∀ k,k<w.heap.size->k≠P->w'.heap[k]?=w.heap[k]?:=fun k hk e=>g.block k hk e
 have hn:=h.s.n
 have i1:=hi.b;have i2:=hi.c;have i3:=hi.f;have i4:=hi.k
 refine ⟨⟨hi,h.s.b.block g.size (hb _ (by omega) (by omega)),zb8 h.s.c g (by omega),h.s.f.block g.size (hb _ (by omega) (by omega)),h.s.k.block g.size (hb _ (by omega) (by omega)),?_,?_,fun p hp=>by rw[hl] at hp;exact absurd hp (by simp),Nat.le_trans hn g.size⟩,h.g.trans g (fun k hk e=>by omega),h.m⟩
 ·exact q14 h.s.r fun k e=>by
   have e':=(q08 _ _ _).symm.trans e
   rw[hna] at e'
   cases e'
 ·exact q14 h.s.v fun k e=>by
   have e':=(q08 _ _ _).symm.trans e
   rw[hva] at e'
   cases e'
theorem own7 {w:World} {P:Nat} (h:OwnB w P fnE) (nm:ByteArray) (ln:Int):OwnB (((((((w.setCell ⟨P,0,none⟩ (.string nm)).setCell ⟨P,1,none⟩ (.int .i64 ln)).setCell ⟨P,2,none⟩ (.int .i64 0)).setCell ⟨P,3,none⟩ (.bool true)).setCell ⟨P,4,none⟩ (.slice none 0 0)).setCell ⟨P,5,none⟩ (.slice none 0 0)).setCell ⟨P,6,none⟩ (.slice none 0 0)) P (fnO nm ln):=
 ((((((h.set (o:=0) (by show 0<7;omega) _).set (o:=1) (by show 1<7;omega) _).set (o:=2) (by show 2<7;omega) _).set (o:=3) (by show 3<7;omega) _).set (o:=4) (by show 4<7;omega) _).set (o:=5) (by show 5<7;omega) _).set (o:=6) (by show 6<7;omega) _
theorem yn4 {v w1:World} {A:Array Value} {t:TypeId} {o:Obj} (hb:Below ((v.alloc o).alloc (.cells A t)).drew.heap.size ((v.alloc o).alloc (.cells A t)).drew w1):OwnB w1 (v.heap.size+1) A:=(q41 v o A t).drew.call hb
theorem boxD {v w1:World} {A:Array Value} {t:TypeId} (hb:Below (v.alloc (.cells A t)).drew.heap.size (v.alloc (.cells A t)).drew w1):OwnB w1 v.heap.size A:=(OwnB.new v A t).drew.call hb
theorem boxE {v w1:World} {A:Array Value} {t:TypeId} {o:Obj} (hb:Below ((v.alloc (.cells A t)).alloc o).drew.heap.size ((v.alloc (.cells A t)).alloc o).drew w1):OwnB w1 v.heap.size A:=((OwnB.new v A t).alloc o).drew.call hb
theorem z88 (I:LBI) (S:LBS) (u:World) (h:LB I S u) (hnf:I.nf=1/\I.f=0/\I.nk=1) (hA:S.A<=100) (hS:S.l=[]/\S.na=none/\S.va=none) (hsc:S.sc=.slice none 0 0) (hrk:u.ownsRow 0 93 5 (.slice (some ⟨I.K,0,none⟩) 1 I.kc) 1 ctZ.toList) (hrow:u.ownsRow 0 91 7 (.slice (some ⟨I.F,0,none⟩) 1 I.fc) 1 fnZ.toList) :
  Calls Tryz.prog 12 #[ptr I.B,.int .i64 0,.bool true] u fun e w'=>e=.returned (.int .i64 1)/\∃ nm I',OpP I S u nm I' w':=by
 have HL:Hid (LB I S u/\I.nf=1/\I.f=0/\I.nk=1):=⟨h,hnf⟩
 have HRk:Hid (u.ownsRow 0 93 5 (.slice (some ⟨I.K,0,none⟩) 1 I.kc) 1 ctZ.toList):=hrk
 have HSc:Hid (S.sc=.slice none 0 0):=hsc
 have HSe:Hid (S.l=[]/\S.na=none/\S.va=none):=hS
 have HRw:Hid (u.ownsRow 0 91 7 (.slice (some ⟨I.F,0,none⟩) 1 I.fc) 1 fnZ.toList):=hrow
 have b1:u.cell? ⟨I.B,1,none⟩=some (.slice (some ⟨I.F,0,none⟩) 1 I.fc):=by have:=h.b.1.cell 1 rfl;rw[hnf.1] at this;exact this
 have hbl:=h.b.1.1
 have hca:=fun w=>(yb0 102 49 w).1
 have hcd:=fun w=>(yb0 102 49 w).2
 obtain ⟨sN,hsN⟩:∃ sN,strOfNums [(102:Int),49]=sN:=⟨_,rfl⟩
 have HsN:Hid (strOfNums [(102:Int),49]=sN):=hsN
 rw[hsN] at hca hcd
 have hw1:IntKind.i64.wrap 49=49:=by decide
 have hw2:IntKind.u8.wrap 49=49:=by decide
 clear h hnf hsN hrow hS hsc hrk
 go_enter Tryz.func12,Tryz.ntmps12
 go_upto_region 2 with fail
 clear b1 hbl
 have HC:Hid (∀ w,Below u.heap.size u w->w.cell? ⟨I.K,I.ko+4,none⟩=some (.int .i64 S.ln)):=fun w hw=>(HL.out.1.call hw).k.cell.2.1
 go_cut [8] from 16 to 29 (fun v wc=>∃ P,v=ptr P/\Hid (Below u.heap.size u wc/\OwnB wc P (fnO sN S.ln)/\u.heap.size<=P))
 case first=>
  have hk0:u.drew.cell? ⟨I.K,I.ko+4,none⟩=some (.int .i64 S.ln):=HL.out.1.k.cell.2.1
  have hcx1:=qf5 (((OwnB.new u byO 5).alloc (.cells fnE 91)).drew).1
  have hcx2:=qf5 ((q41 u (.cells fnE 91) byO 5).drew).1
  rw[HsN.out] at hcx1 hcx2
  have heg:=enters_of Tryz.func29 (by kernel_rfl) rfl
  go_region_law (first
   |(refine qb4 (by rfl) 29 _ _ (by rfl) (ptr I.B) (by rfl) heg _ (q82 I S _ ?_) ?_;(first|exact HL.out.1.drew|exact (HL.out.1.alloc _).drew|exact ((HL.out.1.alloc _).alloc _).drew|exact (HL.out.1.drew.alloc _)|exact ((HL.out.1.drew.alloc _).alloc _));rintro e w1 ⟨rfl,hb⟩;refine ⟨_,rfl,?_⟩;have HB1:Hid (Below u.heap.size u w1):=(by refine q02 ?_ hb;(repeat (first|with_reducible exact q20 _|with_reducible refine q15 ?_ _|with_reducible refine q22 ?_)));have hk1:=(HL.out.1.call HB1.out).k.cell.2.1;have hkl:=(HL.out.1.call HB1.out).k.cell.2.2.2.1;(first|(have hy:OwnB w1 (u.heap.size+1) fnE:=yn4 hb)|(have hy:OwnB w1 u.heap.size fnE:=boxE hb)|(have hy:OwnB w1 u.heap.size fnE:=boxD hb)|(have hy:OwnB w1 (u.heap.size+1) fnE:=boxA1 hb)|(have hy:OwnB w1 u.heap.size fnE:=boxB hb)|(have hy:OwnB w1 u.heap.size fnE:=boxA hb)|(have hy:=True.intro));(first|(have hby:OwnB w1 u.heap.size byO:=boxE hb)|(have hby:OwnB w1 u.heap.size byO:=boxD hb)|(have hby:OwnB w1 (u.heap.size+1) byO:=yn4 hb)|(have hby:=True.intro));(have hcv3:=qf5 (q41 w1 (.cells fnE 91) byO 5).1;have hcv4:=qf5 ((OwnB.new w1 byO 5).alloc (.cells fnE 91)).1;rw[HsN.out] at hcv3 hcv4);(first|(have hcv:=qf5 hby.1;rw[HsN.out] at hcv;have hcv2:=qf5 (hby.alloc (.cells fnE 91)).1;rw[HsN.out] at hcv2)|skip);(first|(have c0:=hy.1.cell 0 rfl;have c1:=hy.1.cell 1 rfl;have c2:=hy.1.cell 2 rfl;have c3:=hy.1.cell 3 rfl;have c4:=hy.1.cell 4 rfl;have c5:=hy.1.cell 5 rfl;have c6:=hy.1.cell 6 rfl;have pz:=hy.2;have pl:=hy.1.1;have pn1:=Nat.ne_of_lt pl;have pn2:=Nat.ne_of_gt pl)|skip);clear hb))
  all_goals
   go_wp2_with fail
   go_meet
   have q1:=HB1.out.size
   refine ⟨_,rfl,?_,?_,?_⟩
   ·(repeat (first|with_reducible exact HB1.out|with_reducible refine q15 ?_ _|with_reducible refine q22 ?_|(with_reducible refine q29 ?_ _ (by omega))))
   ·(repeat (first|with_reducible exact own7 hy _ _|with_reducible exact OwnB.new _ _ _|with_reducible exact q41 _ _ _ _|with_reducible refine OwnB.alloc ?_ _|with_reducible refine OwnB.drew ?_))
   ·omega
 case rest=>
  obtain ⟨P,rfl,H1⟩:=hcut
  clear hca hcd hw1 hw2
  have b0:=(HL.out.1.call H1.out.1).b.1.cell 0 rfl
  have hbl:=(HL.out.1.call H1.out.1).b.1.1
  go_wp2_with fail
  refine (qw1 I.C none 0 0 S.A 4 _ (by omega) (by omega) (by omega) ?_).mono ?_
  ·exact (HL.out.1.call H1.out.1).c
  rintro e w2 ⟨⟨v,rfl,hv1,hv2⟩,hc,hg⟩
  have hx:=(HL.out.1.call H1.out.1).pick hc hg
  have hPC:P≠I.C:=fun e=>by have h1:=H1.out.2.2;have h2:=HL.out.1.i.c;have h3:=HL.out.1.n;omega
  have hFC:I.F≠I.C:=HL.out.1.i.cf.symm
  have H2:Hid (Lx I S u {S with A:=S.A+2} w2/\OwnB w2 P (fnO sN S.ln)/\u.heap.size<=P/\w2.ownsRow 0 91 7 (.slice (some ⟨I.F,0,none⟩) 1 I.fc) 1 fnZ.toList/\w2.heap[I.K]?=u.heap[I.K]?):=⟨(Lx.below HL.out.1 H1.out.1).trans hx,H1.out.2.1.block hg.size (hg.block P H1.out.2.1.1.1 (fun e=>hPC (Option.some.inj e))),H1.out.2.2,q14 (q18 HRw.out H1.out.1) (fun k e=>by
   have e':=Option.some.inj e
   replace e':I.F=k:=e'
   exact hg.block k (by have:=(HL.out.1.call H1.out.1).f.cell.2.2.2;omega) (fun c=>by have:=Option.some.inj c;omega)),(hg.block I.K (by have:=(HL.out.1.call H1.out.1).k.cell.2.2.2.1;exact this) (fun c=>HL.out.1.i.ck (Option.some.inj c).symm)).trans (H1.out.1.block I.K HL.out.1.k.cell.2.2.2.1)⟩
  have p0:=H2.out.2.1.1.cell 0 rfl
  have pz:=H2.out.2.1.2
  have pl:=H2.out.2.1.1.1
  clear hx hc hg b0 hbl H1 hPC hFC
  obtain ⟨vb,hvb⟩:∃ vb:Bool,(v==0)=vb:=⟨_,rfl⟩
  have HsZ:Hid (sN.size<=40):=by
   rw[<-HsN.out]
   show (strOfNums [(102:Int),49]).size<=40
   have:(strOfNums [(102:Int),49]).size=2:=by kernel_rfl
   omega
  have hPN:Hid (I.N<=P):=Nat.le_trans HL.out.1.n H2.out.2.2.1
  go_upto_if 35 with fail
  go_cut [] from 30 to 36 (fun w3=>∃ nm:ByteArray,Hid (nm.size<=40/\Lx I S u {S with A:=S.A+2} w3/\OwnB w3 P (fnO nm S.ln)/\u.heap.size<=P/\w3.ownsRow 0 91 7 (.slice (some ⟨I.F,0,none⟩) 1 I.fc) 1 fnZ.toList/\w3.heap[I.K]?=u.heap[I.K]?))
  case first=>
   go_wp2_with fail
   all_goals go_meet
   all_goals first
    |exact ⟨sN,HsZ.out,H2.out⟩
    |exact ⟨⟨#[]⟩,of_decide_eq_true rfl,H2.out.1.beside (Gx.set w2 P 0 _) H2.out.2.2.1 hPN.out HSe.out.1 HSe.out.2.1 HSe.out.2.2,H2.out.2.1.set (o:=0) (by show 0<7;omega) _,H2.out.2.2.1,q16 H2.out.2.2.2.1 _ (fun k e=>by
        have e':=Option.some.inj e
        replace e':I.F=k:=e'
        have h1:=HL.out.1.i.f
        have h2:=hPN.out
        show k≠P
        omega),(Below.heap_setCell _ _ _ _ (by have h1:=HL.out.1.i.k;have h2:=hPN.out;show I.K≠P;omega)).trans H2.out.2.2.2.2⟩
  case rest=>
   obtain ⟨nm,HQ⟩:=hcut
   rename World=>w3
   obtain ⟨hnm,hx3,hP3,hPu,hr3,hK3⟩:=HQ.out
   have H3:Hid (nm.size<=40/\Lx I S u {S with A:=S.A+2} w3/\OwnB w3 P (fnO nm S.ln)/\u.heap.size<=P/\w3.heap[I.K]?=u.heap[I.K]?):=⟨hnm,hx3,hP3,hPu,hK3⟩
   clear p0 pz pl
   have p0:=hP3.1.cell 0 rfl
   have p1:=hP3.1.cell 1 rfl
   have p2:=hP3.1.cell 2 rfl
   have p3:=hP3.1.cell 3 rfl
   have p4:=hP3.1.cell 4 rfl
   have p5:=hP3.1.cell 5 rfl
   have p6:=hP3.1.cell 6 rfl
   have b1:w3.cell? ⟨I.B,1,none⟩=some (.slice (some ⟨I.F,0,none⟩) 1 I.fc):=by
    have:=hx3.s.b.1.cell 1 rfl
    rw[HL.out.2.1] at this
    exact this
   have bl:=hx3.s.b.1.1
   have bz:=hx3.s.b.2
   obtain ⟨i0,hi0,hy0,hy1,hy2⟩:=info_parts zy7
   obtain ⟨v',w7,happ,hown,hgrow,_,hat⟩:=run_append_own_at (P:=Tryz.prog) (w3.alloc (.cells (fnO nm S.ln) 91)).drew 0 29 29 91 i0 _ 7 112 Tryz.underlying29 hi0 hy0 hy1 hy2 rfl (by decide) (.slice (some ⟨I.F,0,none⟩) 1 I.fc) 1 fnZ.toList (q18 hr3 ((q01 _ _).drew)) ⟨w3.heap.size,0,none⟩ 1 1 (fnO nm S.ln).toList rfl (q85 w3 (fnO nm S.ln) _) (by simp[Value.oneCell']) (by unfold maxLen;omega) (by omega) (Nat.zero_le _)
   obtain ⟨F',fc',rfl,HFa⟩:∃ F' fc',v'=.slice (some ⟨F',0,none⟩) 2 fc'/\Hid (∃ cur,OwnB w7 F' cur/\(∀ (j:Nat) (z:Value),(fnZ.toList++(fnO nm S.ln).toList)[j]?=some z->cur[j]?=some z)/\(F'=I.F\/w3.heap.size<F')/\2<=fc'):=by
    rcases hown.2 with ⟨_,d⟩|⟨g,cap,cur,e1,hb,hgh,h2,h3,h4,h5⟩
    ·omega
    ·refine ⟨g,cap,e1,cur,⟨⟨(Array.getElem?_eq_some_iff.1 hgh).1,fun o=>by simp[World.cell?,hgh]⟩,fun o=>by simp[World.frozen?,hgh]⟩,fun j z hj=>?_,?_,h2⟩
     ·have hjl:=(List.getElem?_eq_some_iff.1 hj).1
      have hjl':j<2*7:=hjl
      rw[<-Array.getElem?_toList,<-List.getElem?_take_of_lt (j:=2*7) hjl',h5]
      exact hj
     ·rw[e1] at hat
      rcases hat with e|e
      ·exact .inl (Option.some.inj e)
      ·refine .inr ?_
       have:=Option.some.inj e
       simp at this
       omega
   have hgx:Gx (fun k=>k=I.F) w3 w7:=((Gx.below (fun k=>k=I.F) ((q01 w3 _).drew)).trans (Gx.grown hgrow) (fun k _ e=>(Option.some.inj e).symm))
   have hBF:I.B≠I.F:=HL.out.1.i.bf
   have hB7:OwnB w7 I.B #[ptr I.C,.slice (some ⟨I.F,0,none⟩) I.nf I.fc,.slice (some ⟨I.K,0,none⟩) I.nk I.kc,.int .i64 S.lf]:=hgx.ownB hx3.s.b hBF
   have b17:w7.cell? ⟨I.B,1,none⟩=some (.slice (some ⟨I.F,0,none⟩) 1 I.fc):=by
    have:=hB7.1.cell 1 rfl
    rw[HL.out.2.1] at this
    exact this
   have bz7:=hB7.2
   have bl7:=hB7.1.1
   have H7:Hid (Gx (fun k=>k=I.F) w3 w7/\OwnB w7 I.B #[ptr I.C,.slice (some ⟨I.F,0,none⟩) I.nf I.fc,.slice (some ⟨I.K,0,none⟩) I.nk I.kc,.int .i64 S.lf]):=⟨hgx,hB7⟩
   clear hnm hx3 hP3 hPu hr3 hK3 hi0 hy0 hy1 hy2 HQ H2 hown hgrow hat hgx hB7 hBF
   go_upto_region 5 with fail
   go_cut [] from 37 to 46 (fun w8=>∃ I1,Hid (Op8 I S u nm I1 w8))
   case first=>
    go_region_law (first
     |(refine q84 (by rfl) _ _ _ _ (by rfl) (.slice (some ⟨I.F,0,none⟩) 1 I.fc) (.slice (some ⟨w3.heap.size,0,none⟩) 1 1) _ _ (by rfl) (by rfl) happ ?_))
    all_goals
     go_wp2_with fail
     go_meet
     obtain ⟨w8,hw8⟩:∃ w8,w7.setCell ⟨I.B,1,none⟩ (.slice (some ⟨F',0,none⟩) 2 fc')=w8:=⟨_,rfl⟩
     rw[hw8]
     obtain ⟨cur,o1,o2,o3,o4⟩:=HFa.out
     obtain ⟨g7,q7⟩:=H7.out
     have hx:=H3.out.2.1
     have hi:=hx.s.i
     have hn:=hx.s.n
     have i1:=hi.b;have i2:=hi.c;have i3:=hi.f;have i4:=hi.k
     have s7:=g7.size
     have o5:=o1.1.1
     have n1:I.B≠F':=by rcases o3 with e|e;rw[e];exact hi.bf;omega
     have n2:I.C≠F':=by rcases o3 with e|e;rw[e];exact hi.cf;omega
     have n3:F'≠I.K:=by rcases o3 with e|e;rw[e];exact hi.fk;omega
     obtain ⟨A,k1,k2,k3,k4,k5⟩:=hx.s.k
     have nk:=HL.out.2.2.2
     have ff:=HL.out.2.2.1
     refine ⟨{I with N:=w8.heap.size,F:=F',fc:=fc',nf:=2,A0:=cur},⟨⟨⟨?_,?_,?_,?_,hi.bc,n1,hi.bk,n2,hi.ck,n3,?_,?_,?_⟩,?_,?_,⟨cur,?_,?_,?_,fun _ _ _=>rfl⟩,⟨A,?_,k2,?_,k4,k5⟩,World.ownsRow_nil _ _ _ _,World.ownsRow_nil _ _ _ _,fun p hp=>absurd hp (by simp),Nat.le_refl _⟩,rfl,rfl,rfl,rfl,rfl,ff,nk,rfl,?_,o2,?_,?_,H3.out.1,?_⟩⟩
     ·show I.B<w8.heap.size;rw[<-hw8];simp;omega
     ·show I.C<w8.heap.size;rw[<-hw8];simp;omega
     ·show F'<w8.heap.size;rw[<-hw8];simpa using o5
     ·show I.K<w8.heap.size;rw[<-hw8];simp;omega
     ·show I.f<2;omega
     ·exact hi.hk
     ·show 2<=2/\I.nk<=2;omega
     ·rw[<-hw8];exact q7.set (o:=1) (by show 1<4;omega) _
     ·rw[<-hw8];exact zb8 (zb8 hx.s.c g7 hi.cf) (Gx.set w7 I.B 1 _) (fun e=>hi.bc e.symm)
     ·rw[<-hw8];exact q30 o1 n1.symm
     ·show cur[I.f*7+4]?=_
      rw[ff]
      exact o2 4 _ rfl
     ·show cur[I.f*7+6]?=_
      rw[ff]
      exact o2 6 _ rfl
     ·rw[<-hw8];exact q30 (g7.ownB k1 hi.fk.symm) hi.bk.symm
     ·have:A[I.ko+1]?=some S.sc:=k3
      rw[HSc.out] at this
      exact this
     ·refine q14 HRk.out fun k e=>?_
      have e':=Option.some.inj e
      replace e':I.K=k:=e'
      subst e'
      rw[<-hw8]
      exact (Below.heap_setCell _ _ _ _ (fun c=>HL.out.1.i.bk c.symm)).trans ((H7.out.1.block I.K (by have h1:=H3.out.2.1.s.k.cell.2.2.2.1;exact h1) (fun c=>HL.out.1.i.fk c.symm)).trans H3.out.2.2.2.2)
     ·rw[<-hw8];exact q30 o1 n1.symm
     ·rcases o3 with e|e
      ·exact .inl e
      ·exact .inr (by have:=hx.g.size;show u.heap.size<=F';omega)
     ·rw[<-hw8]
      refine ((hx.g.mono (S':=fun k=>k=I.B\/k=I.C\/k=I.F\/k=I.K) (fun k e=>?_)).trans g7 (fun k _ e=>.inr (.inr (.inl e)))).trans (Gx.set w7 I.B 1 _) (fun k _ e=>.inl e)
      rcases e with e|e|e
      ·exact e.2
      ·rw[HSe.out.2.1] at e;cases e
      ·rw[HSe.out.2.2] at e;cases e
   case rest=>
    obtain ⟨I1,H8⟩:=hcut
    rename World=>w8
    clear happ b1 bl bz b17 bz7 bl7 p0 p1 p2 p3 p4 p5 p6
    have HAt:Hid (∀ w,Below w8.heap.size w8 w->Calls Tryz.prog 29 #[ptr I.B] w fun e w'=>e=.returned (pA I.K 0)/\Below w.heap.size w w'):=fun w hw=>by
     have:=q82 I1 _ w (H8.out.s.call hw)
     have eo:I1.ko=0:=by
      show (I1.nk-1)*5=0
      rw[H8.out.nk]
     rw[H8.out.eB,H8.out.eK,eo] at this
     exact this
    have HKc:Hid (∀ w,Below w8.heap.size w8 w->w.cell? ⟨I.K,3,none⟩=some (.int .i64 0)/\w.cell? ⟨I.K,4,none⟩=some (.int .i64 0)/\w.cell? ⟨I.B,2,none⟩=some (.slice (some ⟨I.K,0,none⟩) 1 I.kc)/\(∀ o,w.frozen? ⟨I.B,o,none⟩=false)/\I.B<w.heap.size/\I.K<w.heap.size):=fun w hw=>by
     have hr:=q18 H8.out.r hw
     have hB:=(H8.out.s.call hw).b
     rw[H8.out.nk,H8.out.eB,H8.out.eK,H8.out.ek] at hB
     exact ⟨by have:=hr.cells (g:=I.K) rfl 3 (.int .i64 0) rfl;simpa[Addr.add] using this,by have:=hr.cells (g:=I.K) rfl 4 (.int .i64 0) rfl;simpa[Addr.add] using this,hB.1.cell 2 rfl,hB.2,hB.1.1,by have:=(H8.out.s.call hw).k.cell.2.2.2.1;rw[H8.out.eK] at this;exact this⟩
    have nBK:I.B≠I.K:=HL.out.1.i.bk
    obtain ⟨i0,hi0,hy0,hy1,hy2⟩:=info_parts zy8
    have heg:=enters_of Tryz.func29 (by kernel_rfl) rfl
    obtain ⟨k3,k4,kb2,kbz,kbl,kkl⟩:=HKc.out w8.drew (q22 (q20 _))
    clear H3 H7 HFa HRk HRw HSc HSe HC HsN HsZ hPN
    go_upto_region 6 with fail
    go_cut [] from 47 to 68 (fun w12=>∃ I',Hid (OpP I S u nm I' w12))
    case first=>
     go_region_law (first
      |(have hz9:=HB1.out;clear hz9;refine qb4 (by rfl) 29 _ _ (by rfl) (ptr I.B) (by rfl) heg _ (HAt.out w1 HB1.out) ?_;rintro e w10 ⟨rfl,hb⟩;refine ⟨_,rfl,?_⟩;have HB2:Hid (Below w8.heap.size w8 w10):=q02 HB1.out hb;obtain ⟨m3,m4,mb2,mbz,mbl,mkl⟩:=HKc.out w10 HB2.out;obtain ⟨v'',w11,happ2,hown2,hgrow2,_,hat2⟩:=run_append_own_at (P:=Tryz.prog) (w10.alloc (.cells (ctO 0 1) 93)) 0 85 85 93 i0 _ 5 56 Tryz.underlying85 hi0 hy0 hy1 hy2 rfl (by decide) (.slice (some ⟨I.K,0,none⟩) 1 I.kc) 1 ctZ.toList (q18 (q18 H8.out.r HB2.out) (q01 _ _)) ⟨w10.heap.size,0,none⟩ 1 1 (ctO 0 1).toList rfl (fun j z e=>q85 w10 (ctO 0 1) _ j z e) (by simp[Value.oneCell']) (by unfold maxLen;omega) (by omega) (Nat.zero_le _);have hgB:w11.cell? ⟨I.B,2,none⟩=some (.slice (some ⟨I.K,0,none⟩) 1 I.kc)/\(∀ o,w11.frozen? ⟨I.B,o,none⟩=false)/\I.B<w11.heap.size:=(by have hk:=hgrow2.block I.B (by simp;omega) (fun e=>nBK (Option.some.inj e));have hk2:=hk.trans (Below.heap_alloc w10 (.cells (ctO 0 1) 93) I.B mbl);exact ⟨(World.cell?_of_block (a:=⟨I.B,2,none⟩) hk2).trans mb2,fun o=>(World.frozen?_of_block (a:=⟨I.B,o,none⟩) hk2).trans (mbz o),by have:=hgrow2.size;simp at this;omega⟩);obtain ⟨nb2,nbz,nbl⟩:=hgB;obtain ⟨ka,kc',rfl⟩:=q33 hown2;have H11:Hid (∃ I',OpP I S u nm I' (w11.setCell ⟨I.B,2,none⟩ (.slice ka 2 kc'))):=yl5 H8.out HB2.out hown2 hgrow2 hat2;clear hb hown2 hgrow2 hat2)
      |(refine qb4 (by rfl) 29 _ _ (by rfl) (ptr I.B) (by rfl) heg _ (HAt.out w8.drew (q22 (q20 _))) ?_;rintro e w1 ⟨rfl,hb⟩;refine ⟨_,rfl,?_⟩;have HB1:Hid (Below w8.heap.size w8 w1):=q02 (q22 (q20 _)) hb;obtain ⟨l3,l4,lb2,lbz,lbl,lkl⟩:=HKc.out w1 HB1.out;clear hb)
      |(refine q84 (by rfl) _ _ _ _ (by rfl) (.slice (some ⟨I.K,0,none⟩) 1 I.kc) (.slice (some ⟨w10.heap.size,0,none⟩) 1 1) _ _ (by rfl) (by rfl) happ2 ?_))
     all_goals
      go_wp2_with fail
      go_meet
      exact H11.out
    case rest=>
     obtain ⟨I',HO⟩:=hcut
     clear k3 k4 kb2 kbz kbl kkl HKc HAt H8
     go_wp2_with fail
     go_loopw [9] (fun v wr=>v=.int .i64 0/\Hid (OpP I S u nm I' wr)) (fun _ _=>0)
     case atStart=>exact ⟨rfl,HO⟩
     case round=>
      obtain ⟨rfl,HR⟩:=hrel
      go_wp2_with fail
      go_ret
      exact ⟨rfl,nm,I',HR.out⟩
theorem KL.start {I:LBI} {S:LBS} {u:World} (h:LB I S u) (hl:S.l=[]) (hg:Gd S 1):KL I S u (List.replicate 0 onN) 0 none 0 (1+0) S u:=⟨Lx.below h (q20 _),by rw[hl];rfl,fun p hp=>absurd hp (by simp),rfl,hg,World.ownsRow_nil _ _ _ _,fun k e=>nomatch e⟩
theorem z93 {I:LBI} {S0 S:LBS} {u w:World} {L:List (ND×NA)} {j n kc:Nat} {ka:Option Addr} (h:KL I S0 u L j ka kc n S w) (hj:j<=100):∃ ka' kc' w',(Builtin.append_ #[44,44] 44 #[.slice ka j kc,.slice (some ⟨w.heap.size,0,none⟩) 1 1]).run Tryz.prog (w.alloc (.cells #[.int .i64 (j:Int)] 3))=.ok (.slice ka' (j+1) kc') w'/\KL I S0 u L (j+1) ka' kc' n S w':=by
 obtain ⟨i0,hi0,hy0,hy1,hy2⟩:=info_parts zl7
 obtain ⟨v',w7,happ,hown,hgrow,_,hat⟩:=run_append_own_at (P:=Tryz.prog) (w.alloc (.cells #[.int .i64 (j:Int)] 3)) I.N 44 44 3 i0 _ 1 8 Tryz.underlying44 hi0 hy0 hy1 hy2 rfl (by decide) (.slice ka j kc) j (inL j) (q18 h.r (q01 _ _)) ⟨w.heap.size,0,none⟩ 1 1 [.int .i64 (j:Int)] rfl (cell_one_new _ _ _) (by simp[Value.oneCell']) (by unfold maxLen;omega) (by omega) (by have:=h.lx.s.n;simp;omega)
 obtain ⟨ka',kc',rfl⟩:=q33 hown
 exact ⟨ka',kc',w7,happ,h.app hown hgrow hat⟩
theorem qp9 (k n:Nat) (w:World) (hk:k<=90) (hn1:1<=n) (hn:n<=8) :
  Calls Tryz.prog 6 #[.int .i64 (k:Int),.int .i64 (n:Int)] w fun e w'=>MlP k n w e w':=by
 go_enter Tryz.func6,Tryz.ntmps6
 go_wp2_with fail
 refine (z92 _).mono ?_
 rintro e w1 ⟨I,rfl,h4⟩
 have H1:Hid (L4P (w.alloc (.cells #[.slice none 0 0] 31)) I w1):=h4
 clear h4
 go_wp2_with fail
 refine (z88 I lS0 _ H1.out.1 ⟨H1.out.2.2.2.2.1,H1.out.2.2.2.2.2.1,H1.out.2.2.2.2.2.2.1⟩ (by decide) ⟨rfl,rfl,rfl⟩ rfl H1.out.2.2.2.2.2.2.2.2.2.2.2.2 H1.out.2.2.2.2.2.2.2.2.2.2.2.1).mono ?_
 rintro e w2 ⟨rfl,nm,I',hO⟩
 rw[<-hO.eB]
 have H2:Hid (OpP I lS0 w1 nm I' w2):=hO
 clear hO
 have HS:Hid (KL I' (opS lS0) w2 (List.replicate 0 onN) 0 none 0 (1+0) (opS lS0) w2):=KL.start H2.out.s rfl ⟨Nat.zero_le _,by decide,by decide,by decide,by decide,by decide⟩
 go_wp2_with fail
 go_loopw [7,8] (fun v i wr=>∃ (j kc:Nat) (ka:Option Addr) (S:LBS),j<=k/\v=.slice ka j kc/\i=.int .i64 (j:Int)/\Hid (KL I' (opS lS0) w2 (List.replicate j onN) j ka kc (1+j) S wr)) (fun _ i _=>k-(intOf i).toNat)
 case atStart=>exact ⟨0,0,none,_,Nat.zero_le _,rfl,rfl,HS⟩
 case round=>
  obtain ⟨j,kc,ka,S,hj,rfl,rfl,HR⟩:=hrel
  have HL:Hid ((S.l.length:Int)=(j:Int)):=by
   show (S.l.length:Int)=(j:Int)
   rw[HR.out.l]
   simp
  by_cases hjk:j<k
  ·go_wp2_with fail
   refine (zh1 I' S 1 (1+j) _ HR.out.lx.s HR.out.g (by omega)).mono ?_
   rintro e w3 ⟨rfl,S3,ha,hg⟩
   have H3:Hid (KL I' (opS lS0) w2 (List.replicate j onN++[onN]) j ka kc (1+j + 1) S3 w3):=HR.out.node ha hg
   clear ha hg
   rw[HL.out]
   obtain ⟨ka',kc',w7,happ,hK⟩:=z93 H3.out (by omega)
   have H7:Hid (KL I' (opS lS0) w2 (List.replicate j onN++[onN]) (j+1) ka' kc' (1+j + 1) S3 w7):=hK
   clear hK
   go_wp2_with (at_builtin;refine q25 (by rfl) _ _ _ _ (by rfl) (.slice ka j kc) (.slice (some ⟨w3.heap.size,0,none⟩) 1 1) _ _ (by rfl) (by rfl) happ ?_)
   go_roundw
   case rel=>exact ⟨j+1,kc',ka',S3,by omega,rfl,by go_num,by have h:=H7.out;rw[<-List.replicate_succ'] at h;exact h⟩
   case measure=>simp[intOf];omega
  ·obtain rfl:j=k:=by omega
   clear hjk hj
   go_wp2_with fail
   refine (z13 I' S 37 (1+j) _ HR.out.lx.s HR.out.g (by omega)).mono ?_
   rintro e w3 ⟨rfl,S3,ha,hg⟩
   have H3:Hid (KL I' (opS lS0) w2 (List.replicate j onN++[rsN]) j ka kc (1+j + 1) S3 w3):=HR.out.node ha hg
   clear ha hg
   rw[HL.out]
   obtain ⟨ka',kc',w7,happ,hK⟩:=z93 H3.out (by omega)
   have H7:Hid (KL I' (opS lS0) w2 (List.replicate j onN++[rsN]) (j+1) ka' kc' (1+j + 1) S3 w7):=hK
   clear hK H3
   go_wp2_with (at_builtin;refine q25 (by rfl) _ _ _ _ (by rfl) (.slice ka j kc) (.slice (some ⟨w3.heap.size,0,none⟩) 1 1) _ _ (by rfl) (by rfl) happ ?_)
   clear happ
   have hst:=q57 I' S3 11 il0 ⟨ka',j+1,kc',fun (i:Nat)=>(i:Int)⟩ (1+j + 1) w7 H7.out.lx.s H7.out.g (by omega) (rOk0 _ _ _) H7.out.row.1 H7.out.row.2
   refine hst.mono ?_
   clear hst
   rintro e w8 ⟨rfl,l1,S4,hl1,hl2,h8,g8⟩
   have H8:Hid (Ad I' S3 w7 (ndR 11 l1 0 il0 ⟨ka',j+1,kc',fun (i:Nat)=>(i:Int)⟩) (naR il0 ⟨ka',j+1,kc',fun (i:Nat)=>(i:Int)⟩) S4 w8/\Gd S4 (1+j + 1+1)/\1<=l1/\l1<=1000):=⟨h8,g8,hl1,hl2⟩
   clear h8 g8 hl1 hl2
   go_wp2_with fail
   refine (ql5 I' S4 ⟨some ⟨w8.heap.size,0,none⟩,1,1,fun _=>(S3.l.length:Int)⟩ (1+j + 1+1) _ (H8.out.1.lx.s.alloc _) H8.out.2.1 (by omega) (qa8 H8.out.1.lx.s _ _) (Nat.le_refl _) (by rw[H2.out.nk];exact H2.out.kc)).mono ?_
   rintro e w9 ⟨rfl,S5,g,h9,g9⟩
   obtain ⟨I2,S6,J,fG,xG,hz,eB2⟩:=yq2 H1.out H2.out H7.out H8.out.2.2 H8.out.1 h9 g9 hk
   rw[<-eB2]
   have HZ:Hid (GZ j w I2 S6 J fG xG w9):=hz
   clear hz eB2 h9 g9 H8 H7 H2 H1 HR HS HL
   go_wp2_with fail
   have hnd:=qf2 I2 S6 (ndR 36 0 0 ⟨some ⟨w9.heap.size,0,none⟩,1,1,fun _=>1⟩ il0) (naR ⟨some ⟨w9.heap.size,0,none⟩,1,1,fun _=>1⟩ il0) 95 (w9.alloc (.cells #[.int .i64 1] 3)) (HZ.out.s.alloc _) HZ.out.g (by omega) (qa8 HZ.out.s _ _) (rOk0 _ _ _) (Nat.le_refl _)
   refine hnd.mono ?_
   clear hnd
   rintro e w10 ⟨rfl,S7,h10,g10⟩
   obtain ⟨p0,hp0⟩:∃ p0:ND×NA,((ndR 36 0 0 ⟨some ⟨w9.heap.size,0,none⟩,1,1,fun _=>1⟩ il0,naR ⟨some ⟨w9.heap.size,0,none⟩,1,1,fun _=>1⟩ il0):ND×NA)=p0:=⟨_,rfl⟩
   have H10:Hid (Lx I2 S6 w9 S7 w10/\S7.l=[p0]/\NdQ false 36 0 [1] [] p0/\S7.vl=[]/\S7.sc=.slice none 0 0/\Gd S7 96):=⟨(Lx.below HZ.out.s (q01 _ _)).trans h10.lx,by rw[h10.l,HZ.out.l,<-hp0];rfl,by rw[<-hp0];exact ⟨0,_,_,rfl,qi4 _ 1,q92,rfl⟩,by rw[h10.va.2.2,HZ.out.vl],by rw[h10.sc,HZ.out.sc],g10⟩
   clear h10 g10 hp0
   rw[show (S6.l.length:Int)=0 by rw[HZ.out.l];rfl]
   go_wp2_with fail
   refine (zh2 I2 S7 0 96 _ H10.out.1.s H10.out.2.2.2.2.2 (by omega) (by rw[H10.out.2.2.2.1];rfl) H10.out.2.2.2.2.1).mono ?_
   rintro e w11 ⟨rfl,S8,p1,hA,hq,hvl⟩
   have H11:Hid (ML I2 S6 w9 p0 p1 0 (97+2*0) S8 w11/\NdQ false 36 0 [1] [] p0/\NdQ true 2 0 [0] [0] p1):=⟨⟨H10.out.1.trans hA.lx,⟨[],by rw[hA.l,H10.out.2.1];rfl,⟨rfl,fun i hi=>absurd hi (Nat.not_lt_zero _),fun i hi=>absurd hi (Nat.not_lt_zero _)⟩⟩,hvl,hA.g⟩,H10.out.2.2.1,hq⟩
   rw[show (S7.l.length:Int)=1 by rw[H10.out.2.1];rfl]
   clear hA hq hvl H10
   go_wp2_with fail
   refine (q71 I2 S8 0 97 _ H11.out.1.lx.s H11.out.1.g (by omega)).mono ?_
   rintro e w12 ⟨rfl,S9,h12,g12⟩
   have H12:Hid (Ad I2 S8 w11 (ndR 26 0 0 ⟨some ⟨w11.heap.size,0,none⟩,1,1,fun _=>0⟩ il0) (naR ⟨some ⟨w11.heap.size,0,none⟩,1,1,fun _=>0⟩ il0) S9 w12/\Gd S9 98):=⟨h12,g12⟩
   clear h12 g12
   rw[show (S8.l.length:Int)=2 by rw[H11.out.1.len];rfl]
   go_wp2_with fail
   refine (qd6 I2 S9 ⟨some ⟨w12.heap.size,0,none⟩,1,1,fun _=>2⟩ 98 _ (H12.out.1.lx.s.alloc _) H12.out.2 (by omega) (qa8 H12.out.1.lx.s _ _) (Nat.le_refl _)).mono ?_
   rintro e w13 ⟨rfl,S10,h13,g13⟩
   have H13:Hid (ML I2 S6 w9 p0 p1 1 (97+2*1) S10 w13):=H11.out.1.step H12.out.1 (q01 _ _) h13 (qi4 _ 2) g13
   have HQ:Hid (NdQ false 36 0 [1] [] p0/\NdQ true 2 0 [0] [0] p1):=H11.out.2
   rw[show (S9.l.length:Int)=3 by rw[H12.out.1.l];simp[H11.out.1.len]]
   clear h13 g13 H12 H11
   go_wp2_with fail
   rename World=>w13
   go_loopw [10,15] (fun x i wr=>∃ (t:Nat) (z:Int) (S:LBS),1<=t/\t<=n/\x=.int .i64 z/\i=.int .i64 (t:Int)/\Hid (z=2*(t:Int)+1/\ML I2 S6 w9 p0 p1 t (97+2*t) S wr)) (fun _ i _=>n-(intOf i).toNat)
   case atStart=>exact ⟨1,3,S10,Nat.le_refl _,hn1,rfl,rfl,by decide,H13.out⟩
   case round=>
    obtain ⟨t,z,S',ht1,htn,rfl,rfl,HR⟩:=hrel
    by_cases htk:t<n
    ·go_wp2_with fail
     refine (q71 I2 S' 0 (97+2*t) _ HR.out.2.lx.s HR.out.2.g (by omega)).mono ?_
     rintro e w14 ⟨rfl,S11,h14,g14⟩
     have H14:Hid (Ad I2 S' wr (ndR 26 0 0 ⟨some ⟨wr.heap.size,0,none⟩,1,1,fun _=>0⟩ il0) (naR ⟨some ⟨wr.heap.size,0,none⟩,1,1,fun _=>0⟩ il0) S11 w14/\Gd S11 (97+2*t+1)):=⟨h14,g14⟩
     clear h14 g14
     obtain ⟨y,hy⟩:∃ y:Int,(S'.l.length:Int)=y:=⟨_,rfl⟩
     have HY:Hid (y=2*(t:Int)+2):=by show y=_;rw[<-hy,HR.out.2.len];simp
     rw[hy]
     clear hy
     go_wp2_with fail
     refine (qd6 I2 S11 ⟨some ⟨w14.heap.size,0,none⟩,2,2,fun j=>if j=0 then y else z⟩ (97+2*t+1) _ (H14.out.1.lx.s.alloc _) H14.out.2 (by omega) (qh4 H14.out.1.lx.s _ _ _) (Nat.le_refl _)).mono ?_
     rintro e w15 ⟨rfl,S12,h15,g15⟩
     have H15:Hid (ML I2 S6 w9 p0 p1 (t+1) (97+2*t+2) S12 w15):=HR.out.2.step H14.out.1 (q01 _ _) h15 (by rw[if_neg (by omega),<-HY.out,<-HR.out.1];exact zl9 _ y z) g15
     obtain ⟨x,hx⟩:∃ x:Int,(S11.l.length:Int)=x:=⟨_,rfl⟩
     have HX:Hid (x=2*((t+1:Nat):Int)+1):=by show x=_;rw[<-hx,H14.out.1.l];simp[HR.out.2.len];omega
     rw[hx]
     clear hx h15 g15 H14
     go_wp2_with fail
     go_roundw
     case rel=>exact ⟨t+1,x,S12,by omega,by omega,rfl,by go_num,HX.out,by have h:=H15.out;rw[show 97+2*(t+1)=97+2*t+2 by omega];exact h⟩
     case measure=>simp[intOf];omega
    ·obtain rfl:t=n:=by omega
     clear htk htn
     go_wp2_with fail
     refine (qi1 I2 S' wr.heap.size 1 1 (fun _=>z) (97+2*t) _ (HR.out.2.lx.s.alloc _) HR.out.2.g (by omega) (by omega) (by omega) (qa8 HR.out.2.lx.s _ _)).mono ?_
     rintro e w15 ⟨rfl,l,r2,r3,S11,h15⟩
     have H15:Hid (PrS I2 S' (wr.alloc (.cells #[.int .i64 z] 3)) 1 (fun _=>z) (97+2*t) l r2 r3 S11 w15):=h15
     clear h15
     obtain ⟨z2,hz2⟩:∃ z2:Int,(S'.l.length:Int)+2=z2:=⟨_,rfl⟩
     have HZ2:Hid (z2=2*(t:Int)+4):=by show z2=_;rw[<-hz2,HR.out.2.len];simp;omega
     rw[hz2]
     clear hz2
     go_wp2_with fail
     refine (qq2 I2 S11 ⟨some ⟨w15.heap.size,0,none⟩,1,1,fun _=>z2⟩ [z2] (97+2*t+3) _ (H15.out.lx.s.alloc _) H15.out.g (by omega) (by rw[H15.out.va,HR.out.2.vl];rfl) (qa8 H15.out.lx.s _ _) (qi4 _ z2)).mono ?_
     rintro e w16 ⟨rfl,S12,g0,g1,g2,g3,g4,g5,g6,g7,h16,hgp,hv16⟩
     have H16:Hid (AdL I2 S11 (w15.alloc (.cells #[.int .i64 z2] 3)) [g0,g1,g2,g3,g4,g5,g6,g7] (97+2*t+3 + 8) S12 w16/\GdP (S11.l.length:Int) [z2] g0 g1 g2 g3 g4 g5 g6 g7/\S12.vl=S11.vl++[vNm 98,vNm 99]):=⟨h16,hgp,hv16⟩
     clear h16 hgp hv16
     obtain ⟨z3,hz3⟩:∃ z3:Int,(S11.l.length:Int)+7=z3:=⟨_,rfl⟩
     have HZ3:Hid (z3=2*(t:Int)+12):=by show z3=_;rw[<-hz3,H15.out.ll];simp[HR.out.2.len];omega
     rw[hz3]
     clear hz3
     go_wp2_with fail
     refine (z89 I2 S12 ⟨some ⟨w16.heap.size,0,none⟩,2,2,fun j=>if j=0 then 1 else z3⟩ (97+2*t+3 + 8) _ (H16.out.1.lx.s.alloc _) H16.out.1.g (by omega) (qh4 H16.out.1.lx.s _ _ _) (Nat.le_refl _) (by rw[HZ.out.nk];exact HZ.out.kc)).mono ?_
     rintro e w17 ⟨rfl,S13,g,hz,hvl,hgN,hvN,hg17⟩
     obtain ⟨hO,hM⟩:=yp4 hn1 HZ.out HR.out.2 HQ.out.1 HQ.out.2 H15.out HR.out.1 H16.out.1 H16.out.2.1 HZ2.out H16.out.2.2 hz (by rw[<-HZ3.out];exact zl9 _ 1 z3) hvl hgN hvN hg17
     rw[HZ.out.nf]
     have HM:Hid (MlP j t w (.returned (.agg #[.slice (some ⟨I2.F,0,none⟩) 2 I2.fc])) (w17.setCell ⟨w.heap.size,0,none⟩ (.slice (some ⟨I2.F,0,none⟩) 2 I2.fc))):=hM
     have r0:=hO.1.cell 0 rfl
     have rz:=hO.2
     have rl:=hO.1.1
     clear hz hvl hgN hvN hg17 hO hM H15 H16 HR
     go_wp2_with fail
     exact bodyPost_ret (v:=.agg #[.slice (some ⟨I2.F,0,none⟩) 2 I2.fc]) (by simp[results,Tryz.results6,go_sem,r0]) rfl HM.out
end Go.Proofs.YtaimofjekgnieaaGreatDoor
