import Derived.Test.YtihnikeikhjndaaGreatDoorYcA
set_option maxRecDepth 100000
set_option maxHeartbeats 16000000
namespace Go.Proofs.YtihnikeikhjndaaGreatDoor
section
open Go.RowKit
attribute [local go_sem] aN
attribute [local go_sem ↓] Go.wp_at_zero Go.wp_at_succ
theorem Ku(c:Int)(w:World):(convert 22 9 (.slice (some ⟨w.heap.size,0,none⟩) 1 1)).run Tryz.prog (w.alloc (.cells #[.int .u8 c] 5))=.ok (.string (strOfNums [c])) (w.alloc (.cells #[.int .u8 c] 5))/\(convert 22 9 (.slice (some ⟨w.heap.size,0,none⟩) 1 1)).run Tryz.prog (w.alloc (.cells #[.int .u8 c] 5)).drew=.ok (.string (strOfNums [c])) (w.alloc (.cells #[.int .u8 c] 5)).drew:=by
 constructor
 ·exact run_convert_bytes_arg (P:=Tryz.prog) (w:=w.alloc (.cells #[.int .u8 c] 5)) 22 5 Tryz.underlying22 Tryz.underlying5 w.heap.size 0 1 1 [c] rfl (fun i hi=>by
   obtain rfl:i=0:=by omega
   exact World.cell?_alloc_new w #[.int .u8 c] 5 0) 9 Tryz.underlying9
 ·exact run_convert_bytes_arg (P:=Tryz.prog) (w:=(w.alloc (.cells #[.int .u8 c] 5)).drew) 22 5 Tryz.underlying22 Tryz.underlying5 w.heap.size 0 1 1 [c] rfl (fun i hi=>by
   obtain rfl:i=0:=by omega
   exact World.cell?_alloc_new w #[.int .u8 c] 5 0) 9 Tryz.underlying9
theorem LB.Bj{I:bQ}{S:bJ}{u w7:World}(h:LB I S u){s v':Value}(ho:w7.ownsRow 0 9 1 v' (S.vl.length+1) (S.vl++[s]))(hg:u.grownBy w7 (Value.slice S.va S.vl.length S.vc).ownBlock)(hat:v'.ownBlock=(Value.slice S.va S.vl.length S.vc).ownBlock\/v'.ownBlock=some u.heap.size):∃va vc,v'=.slice va (S.vl.length+1) vc/\Lx I S u {S with va:=va,vc:=vc,vl:=S.vl++[s]} (w7.setCell ⟨I.F,I.fo+4,none⟩ v'):=by
 obtain⟨va,vc,rfl⟩:=sU ho;rw[dD] at hg;rw[dD,dD] at hat;have hi:=h.i;obtain⟨l1,l2,l3,l4⟩:=h.lt;have hgx:Gx (fun k=>aj S.va=some k) u w7:=Gx.grown hg;have g:Gx (fun k=>k=I.F\/aj S.va=some k) u (w7.setCell ⟨I.F,I.fo+4,none⟩ (.slice va (S.vl.length+1) vc)):=(hgx.mono (fun k e=>.inr e)).trans (Gx.set w7 I.F (I.fo+4) _) (fun _ _ e=>.inl e);have hm:∀k,k<u.heap.size->(aj va=some k->aj S.va=some k):=fun k hk e=>by
  rcases hat with c|c
  ·exact c.symm.trans e
  ·rw[c] at e;have:=Option.some.inj e;omega
 have hbn:∀k,aj va=some k->bl I k:=fun k e=>by
  rcases hat with c|c
  ·exact h.vb k (c.symm.trans e)
  ·rw[c] at e;exact h.fresh (by have:=Option.some.inj e;omega)
 have hb:∀k,k<u.heap.size->inb I k->w7.heap[k]?=u.heap[k]?:=fun k hk hq=>hgx.block k hk (fun e=>(h.vb k e).no hq);have hq:∀{a:Option Addr} {n:Nat} {q:Nat->Int},dV I S u a n q->dV I {S with va:=va,vc:=vc,vl:=S.vl++[s]} (w7.setCell ⟨I.F,I.fo+4,none⟩ (.slice va (S.vl.length+1) vc)) a n q:=fun r=>r.gx g (fun k e=>by
  rcases e with e|e
  ·exact .inl (.inr (.inr (.inl e)))
  ·exact .inr (.inr e)) (fun k hk=>⟨fun e=>e,hm k hk⟩)
 refine⟨va,vc,rfl,⟨hi,uV (h.b.block hgx.size (hb _ l1 (.inl rfl))) hi.bf,uQ h.c g (fun e=>?_),?_,(h.k.block (hb _ l4 (.inr (.inr (.inr rfl))))).other hi.fk.symm,?_,?_,fun p hp=>?_,h.rb,hbn,Nat.le_trans h.n g.size⟩,g.mono (fun k e=>?_),fun k hk=>⟨fun e=>e,hm k hk⟩⟩
 ·rcases e with e|e
  ·exact hi.cf e
  ·exact(h.vb _ e).c rfl
 ·have:=(h.f.block (hb _ l3 (.inr (.inr (.inl rfl))))).OG (v:=.slice va (S.vl.length+1) vc);show lK _ _ (.slice va (S.vl++[s]).length vc) _;rw[List.length_append];exact this
 ·refine jh ?_ _ fun k e=>(h.rb k ((dD _ _ _).symm.trans e)).f;refine jS h.r fun k e=>?_;have e':=(dD _ _ _).symm.trans e;exact hgx.block k (q16 h.r e').2 (fun c=>sQ h.r h.v (by decide) e' c)
 ·show World.ownsRow _ _ _ _ (.slice va (S.vl++[s]).length vc) (S.vl++[s]).length (S.vl++[s]);rw[List.length_append];exact jh ho _ fun k e=>(hbn k ((dD _ _ _).symm.trans e)).f
 ·obtain⟨x1,x2,x3⟩:=h.x p hp;exact⟨hq x1,hq x2,x3⟩
 ·rcases e with e|e
  ·exact .inl (.inr (.inr (.inl e)))
  ·exact .inr (.inr e)
theorem Uh:(Tryz.prog.info? 9).map (fun i=>(i.zero,i.size,i.bytes))=some (some (.string ⟨#[]⟩),1,16):=by kernel_rfl
abbrev yw(c:Int):Value:=.string (strOfNums [c])
theorem qv5(I:bQ)(S:bJ)(n:Nat)(u:World)(h:LB I S u)(hg:Gd S n)(hv:S.vl.length=0):Calls Tryz.prog 31 #[ptr I.B] u fun e w'=>e=.returned (.int .i64 0)/\∃S',Lx I S u S' w'/\S'.l=S.l/\S'.vl=S.vl++[yw 97]/\S'.sc=S.sc/\Gd S' n:=by
 have HL:Hid (LB I S u/\Gd S n/\S.vl.length=0):=⟨h,hg,hv⟩;clear h hg hv;go_in;go_wp2_with fail;refine(qb0 I S _ HL.1).mono ?_;rintro e w1 ⟨rfl,hb1⟩;have H2:Hid (Lx I S u S w1):=Lx.below HL.1 hb1;have f4:=H2.s.f.cell.1;have fz:=H2.s.f.cell.2.2.1;have hfl:=H2.s.f.cell.2.2.2;rw[HL.2.2] at f4;clear hb1;obtain⟨i0,hi0,hy0,hy1,hy2⟩:=info_parts Uh;have hca:=fun w=>(Ku 97 w).1;have hcd:=fun w=>(Ku 97 w).2;have hw1:IntKind.i64.wrap 97=97:=by decide
 have hw2:IntKind.u8.wrap 97=97:=by decide
 obtain⟨sN,wX⟩:∃sN,strOfNums [(97:Int)]=sN:=⟨_,rfl⟩;have Cc:Hid (strOfNums [(97:Int)]=sN):=wX;rw[wX] at hca hcd;clear wX;have HD:Hid (LB I S ((w1.alloc (.cells #[.int .u8 97] 5)).alloc (.cells #[.string sN] 9)).drew):=((H2.s.alloc _).alloc _).drew;obtain⟨v',w7,happ,hown,hgrow,_,hat⟩:=run_append_own_at (P:=Tryz.prog) ((w1.alloc (.cells #[.int .u8 97] 5)).alloc (.cells #[.string sN] 9)).drew 0 25 25 9 i0 _ 1 16 Tryz.underlying25 hi0 hy0 hy1 hy2 rfl (by decide) (.slice S.va S.vl.length S.vc) S.vl.length S.vl HD.v ⟨w1.heap.size+1,0,none⟩ 1 1 [.string sN] rfl (fun j v e=>by
  have hn:=yD (w1.alloc (.cells #[.int .u8 97] 5)) #[.string sN] 9 j v e;rw[World.size_alloc] at hn;exact hn) (by simp[Value.oneCell']) (by have:=HL.2.2;unfold maxLen;omega) (by have:=HL.2.2;omega) (Nat.zero_le _)
 obtain⟨va,vc,rfl,hpush⟩:=HD.Bj hown hgrow hat;have HN:Hid (Lx I S u {S with va:=va,vc:=vc,vl:=S.vl++[.string sN]} (w7.setCell ⟨I.F,I.fo+4,none⟩ (.slice va (0+1) vc))):=by
  have:=(H2.trans (Lx.below H2.s ((iy _ _ _).drew))).trans hpush;rw[HL.2.2] at this;exact this
 have hnF:aj S.va≠some I.F:=fun e=>(HD.vb _ e).f rfl;rw[dD] at hgrow;have f7:w7.cell? ⟨I.F,I.fo+4,none⟩=some (.slice S.va 0 S.vc):=by
  have hx:=(World.cell?_of_block (a:=⟨I.F,I.fo+4,none⟩) (hgrow.block I.F (by simp;omega) (fun e=>hnF e.symm))).trans HD.f.cell.1;rw[HL.2.2] at hx;exact hx
 have J7:∀o,w7.frozen? ⟨I.F,o,none⟩=false:=fun o=>(World.frozen?_of_block (a:=⟨I.F,o,none⟩) (hgrow.block I.F (by simp;omega) (fun e=>hnF e.symm))).trans (HD.f.cell.2.2.1 o);have IY:I.F<w7.heap.size:=by have h1:=hgrow.size;simp at h1;omega
 rw[HL.2.2] at happ;clear hown hgrow hat hpush HD H2 hi0 hy0 hy1 hy2 hnF;obtain⟨ta,hta⟩:∃ta,ta=S.va:=⟨_,rfl⟩;obtain⟨CS,wU⟩:∃CS,CS=S.vc:=⟨_,rfl⟩;rw[<-hta,<-wU] at happ f4 f7;clear hta wU
 go_upto_region 2 with fail
 go_region_law (first
  |(refine wF (by rfl) _ _ _ _ (by rfl) (.slice ta 0 CS) (.slice (some ⟨w1.heap.size+1,0,none⟩) 1 1) _ _ (by rfl) (by rfl) happ ?_))
 all_goals
  have f8:(w7.setCell ⟨I.F,I.fo+4,none⟩ (.slice va (0+1) vc)).cell? ⟨I.F,I.fo+4,none⟩=some (.slice va (0+1) vc):=by
   have:=HN.s.f.cell.1;simpa[HL.2.2] using this
  generalize w7.setCell ⟨I.F,I.fo+4,none⟩ (.slice va (0+1) vc)=w8 at *;clear happ f7 J7 IY;go_wp2_with fail;go_ret;have g:=HL.2.1;refine⟨?_,_,HN.out,rfl,by show S.vl++[Value.string sN]=S.vl++[Value.string (strOfNums [(97:Int)])];rw[Cc.out],rfl,⟨g.l,g.f1,g.f2,g.A,g.n1,g.n2⟩⟩
  first
  |rfl
  |decide
theorem qv4(I:bQ)(S:bJ)(n:Nat)(u:World)(h:LB I S u)(hg:Gd S n)(hv:S.vl.length=1):Calls Tryz.prog 31 #[ptr I.B] u fun e w'=>e=.returned (.int .i64 1)/\∃S',Lx I S u S' w'/\S'.l=S.l/\S'.vl=S.vl++[yw 98]/\S'.sc=S.sc/\Gd S' n:=by
 have HL:Hid (LB I S u/\Gd S n/\S.vl.length=1):=⟨h,hg,hv⟩;clear h hg hv;go_in;go_wp2_with fail;refine(qb0 I S _ HL.1).mono ?_;rintro e w1 ⟨rfl,hb1⟩;have H2:Hid (Lx I S u S w1):=Lx.below HL.1 hb1;have f4:=H2.s.f.cell.1;have fz:=H2.s.f.cell.2.2.1;have hfl:=H2.s.f.cell.2.2.2;rw[HL.2.2] at f4;clear hb1;obtain⟨i0,hi0,hy0,hy1,hy2⟩:=info_parts Uh;have hca:=fun w=>(Ku 98 w).1;have hcd:=fun w=>(Ku 98 w).2;have hw1:IntKind.i64.wrap 98=98:=by decide
 have hw2:IntKind.u8.wrap 98=98:=by decide
 obtain⟨sN,wX⟩:∃sN,strOfNums [(98:Int)]=sN:=⟨_,rfl⟩;have Cc:Hid (strOfNums [(98:Int)]=sN):=wX;rw[wX] at hca hcd;clear wX;have HD:Hid (LB I S ((w1.alloc (.cells #[.int .u8 98] 5)).alloc (.cells #[.string sN] 9)).drew):=((H2.s.alloc _).alloc _).drew;obtain⟨v',w7,happ,hown,hgrow,_,hat⟩:=run_append_own_at (P:=Tryz.prog) ((w1.alloc (.cells #[.int .u8 98] 5)).alloc (.cells #[.string sN] 9)).drew 0 25 25 9 i0 _ 1 16 Tryz.underlying25 hi0 hy0 hy1 hy2 rfl (by decide) (.slice S.va S.vl.length S.vc) S.vl.length S.vl HD.v ⟨w1.heap.size+1,0,none⟩ 1 1 [.string sN] rfl (fun j v e=>by
  have hn:=yD (w1.alloc (.cells #[.int .u8 98] 5)) #[.string sN] 9 j v e;rw[World.size_alloc] at hn;exact hn) (by simp[Value.oneCell']) (by have:=HL.2.2;unfold maxLen;omega) (by have:=HL.2.2;omega) (Nat.zero_le _)
 obtain⟨va,vc,rfl,hpush⟩:=HD.Bj hown hgrow hat;have HN:Hid (Lx I S u {S with va:=va,vc:=vc,vl:=S.vl++[.string sN]} (w7.setCell ⟨I.F,I.fo+4,none⟩ (.slice va (1+1) vc))):=by
  have:=(H2.trans (Lx.below H2.s ((iy _ _ _).drew))).trans hpush;rw[HL.2.2] at this;exact this
 have hnF:aj S.va≠some I.F:=fun e=>(HD.vb _ e).f rfl;rw[dD] at hgrow;have f7:w7.cell? ⟨I.F,I.fo+4,none⟩=some (.slice S.va 1 S.vc):=by
  have hx:=(World.cell?_of_block (a:=⟨I.F,I.fo+4,none⟩) (hgrow.block I.F (by simp;omega) (fun e=>hnF e.symm))).trans HD.f.cell.1;rw[HL.2.2] at hx;exact hx
 have J7:∀o,w7.frozen? ⟨I.F,o,none⟩=false:=fun o=>(World.frozen?_of_block (a:=⟨I.F,o,none⟩) (hgrow.block I.F (by simp;omega) (fun e=>hnF e.symm))).trans (HD.f.cell.2.2.1 o);have IY:I.F<w7.heap.size:=by have h1:=hgrow.size;simp at h1;omega
 rw[HL.2.2] at happ;clear hown hgrow hat hpush HD H2 hi0 hy0 hy1 hy2 hnF;obtain⟨ta,hta⟩:∃ta,ta=S.va:=⟨_,rfl⟩;obtain⟨CS,wU⟩:∃CS,CS=S.vc:=⟨_,rfl⟩;rw[<-hta,<-wU] at happ f4 f7;clear hta wU
 go_upto_region 2 with fail
 go_region_law (first
  |(refine wF (by rfl) _ _ _ _ (by rfl) (.slice ta 1 CS) (.slice (some ⟨w1.heap.size+1,0,none⟩) 1 1) _ _ (by rfl) (by rfl) happ ?_))
 all_goals
  have f8:(w7.setCell ⟨I.F,I.fo+4,none⟩ (.slice va (1+1) vc)).cell? ⟨I.F,I.fo+4,none⟩=some (.slice va (1+1) vc):=by
   have:=HN.s.f.cell.1;simpa[HL.2.2] using this
  generalize w7.setCell ⟨I.F,I.fo+4,none⟩ (.slice va (1+1) vc)=w8 at *;clear happ f7 J7 IY;go_wp2_with fail;go_ret;have g:=HL.2.1;refine⟨?_,_,HN.out,rfl,by show S.vl++[Value.string sN]=S.vl++[Value.string (strOfNums [(98:Int)])];rw[Cc.out],rfl,⟨g.l,g.f1,g.f2,g.A,g.n1,g.n2⟩⟩
  first
  |rfl
  |decide
theorem Hr{P:Program}{ops:Array Oper}{o:Oper}{a:Act}{w:World}{K:Act->World->Prop}{Q:Exit->Act->World->Prop}{E:Prop}(hgd:o.guard=none)(f:Nat)(x:Operand)(t:TypeId)(ho:o.op=.call {callee:=.value (.func f),args:=#[x],argTypes:=#[t]})(vx:Value)(hx:a.eval x=vx)(eg:∀args w,(callFunc f args).run P w=.ok (.enter f args) w)(R:Ending->World->Prop)(hc:Calls P f #[vx] w R)(h:∀e w',R e w'->∃v,e=.returned v/\K (a.put o.dst v) w'):if Region.wanted o (yielded ops a.tmps)=true then Oper.wp P o a w K Q else E:=by
 have hw:Region.wanted o (yielded ops a.tmps)=true:=by simp[Region.wanted,hgd]
 rw[if_pos hw];have e1:(execOp a.eval o).run P w=.ok (.enter f #[vx]) w:=by
  unfold execOp;simp[ho,resolve,invoke,eg,go_sem];simpa[Act.eval] using hx
 unfold Oper.wp;rw[e1,Oper.upon_enter];refine hc.mono ?_;intro e w' hr;obtain⟨v,rfl,hk⟩:=h e w' hr;exact hk
structure Z5(I:bQ)(S:bJ)(u:World)(ps:List (ND×NA))(n:Nat)(S':bJ)(w':World):Prop where
 lx:Lx I S u S' w'
 l:S'.l=S.l++ps
 g:Gd S' n
structure rX(r:IL)(zs:List Int):Prop where
 n:r.n=zs.length
 q:∀(j:Nat) (z:Int),zs[j]?=some z->r.q j=z
 c:r.n<=r.c
def gX(st:Bool)(k z:Int)(rs cs:List Int)(p:ND×NA):Prop:=∃(l:Int) (r c:IL),p=(gQ k l z r c,gJ r c)/\rX r rs/\rX c cs/\(if st then 1<=l/\l<=5000 else l=0)
theorem lV:rX aY []:=⟨rfl,fun j z e=>by simp at e,Nat.le_refl _⟩
theorem vX(a:Option Addr)(z:Int):rX ⟨a,1,1,fun _=>z⟩ [z]:=⟨rfl,fun j y e=>by
 rcases j with _|j
 ·simp at e;exact e
 ·simp at e,Nat.le_refl _⟩
theorem La{I:bQ}{S:bJ}{u:World}(h:LB I S u)(x y:Int)(t:TypeId):dV I S (u.alloc (.cells #[.int .i64 x,.int .i64 y] t)) (some ⟨u.heap.size,0,none⟩) 2 (fun j=>if j=0 then x else y):=by
 refine⟨fun _=>⟨u.heap.size,0,rfl,Nat.zero_le _,by simp,fun i hi j hj=>?_⟩,fun b e=>?_⟩
 ·obtain rfl:j=0:=by omega
  rcases(show i=0\/i=1 by omega) with rfl|rfl
  ·exact(Has.new u #[.int .i64 x,.int .i64 y] t).2 0
  ·exact(Has.new u #[.int .i64 x,.int .i64 y] t).2 1
 ·cases e;exact⟨h.fresh (Nat.le_refl _),by simp,fun e=>Nat.lt_irrefl _ (q16 h.r e).2,fun e=>Nat.lt_irrefl _ (q16 h.v e).2⟩
theorem NQ(a:Option Addr)(x y:Int):rX ⟨a,2,2,fun j=>if j=0 then x else y⟩ [x,y]:=⟨rfl,fun j z e=>by
 rcases j with _|_|j
 ·simp at e;exact e
 ·simp at e;exact e
 ·simp at e,Nat.le_refl _⟩
structure Td(L:Int)(cs:List Int)(p0 p1 p2 p3 p4 p5 p6 p7:ND×NA):Prop where
 p0:gX true 1 0 [] cs p0
 p1:gX false 26 0 [0] [] p1
 p2:gX false 26 0 [1] [] p2
 p3:gX false 28 0 [] [] p3
 p4:gX false 34 0 [] [L+3,L+1,L+2] p4
 p5:gX true 4 0 [] [L+4] p5
 p6:gX true 1 0 [] [L+5] p6
 p7:gX true 12 0 [0,1] [L,L+6] p7
theorem qs0(I:bQ)(S:bJ)(c:IL)(cs:List Int)(n:Nat)(u:World)(h:LB I S u)(hg:Gd S n)(hn:n<=570)(hv:S.vl.length=0)(hc:dV I S u c.a c.n c.q)(hcs:rX c cs):Calls Tryz.prog 14 #[ptr I.B,DF c] u fun e w'=>e=.returned (.int .i64 ((S.l.length:Int)+7))/\∃S' p0 p1 p2 p3 p4 p5 p6 p7,Z5 I S u [p0,p1,p2,p3,p4,p5,p6,p7] (n+8) S' w'/\Td (S.l.length:Int) cs p0 p1 p2 p3 p4 p5 p6 p7/\S'.vl=S.vl++[yw 97,yw 98]:=by
 have HL:Hid (LB I S u/\Gd S n/\S.vl.length=0/\dV I S u c.a c.n c.q/\rX c cs):=⟨h,hg,hv,hc,hcs⟩;clear h hg hv hc hcs;obtain⟨L,hL⟩:∃L:Int,(S.l.length:Int)=L:=⟨_,rfl⟩;have YF:Hid ((S.l.length:Int)=L):=hL;rw[hL];clear hL;go_in;go_wp2_with fail;refine(zG I S 1 aY c n _ HL.1 HL.2.1 (by omega) (iM _ _ _) HL.2.2.2.1 HL.2.2.2.2.c).mono ?_;rintro e w1 ⟨rfl,l0,S1,a1,a2,ha,hg1⟩;have H1:Hid (Ad I S u (gQ 1 l0 0 aY c) (gJ aY c) S1 w1/\Gd S1 (n+1)/\1<=l0/\l0<=5000):=⟨ha,hg1,a1,a2⟩;clear ha hg1 a1 a2;rw[YF.out];go_wp2_with fail;refine(qv5 I S1 (n+1) _ H1.1.lx.s H1.2.1 (by rw[H1.1.va.2.2];exact HL.2.2.1)).mono ?_;rintro e w2 ⟨rfl,S2,hx,hl,hv,_,hg2⟩;have H2:Hid (Lx I S1 w1 S2 w2/\S2.l=S1.l/\S2.vl=S1.vl++[yw 97]/\Gd S2 (n+1)):=⟨hx,hl,hv,hg2⟩;clear hx hl hv hg2;go_wp2_with fail;refine(qv4 I S2 (n+1) _ H2.1.s H2.2.2.2 (by rw[H2.2.2.1,H1.1.va.2.2,List.length_append,HL.2.2.1];rfl)).mono ?_;rintro e w3 ⟨rfl,S3,hx,hl,hv,_,hg3⟩;have H3:Hid (Lx I S2 w2 S3 w3/\S3.l=S1.l/\S3.vl=S2.vl++[yw 98]/\Gd S3 (n+1)/\(S3.l.length:Int)=L+1):=⟨hx,by rw[hl,H2.2.1],hv,hg3,by rw[hl,H2.2.1,H1.1.l,<-YF.out];simp⟩;clear hx hl hv hg3;go_wp2_with fail;refine(qc3 I S3 0 (n+1) _ H3.1.s H3.2.2.2.1 (by omega)).mono ?_;rintro e w4 ⟨rfl,S4,ha,hg4⟩;have H4:Hid (∃a,Ad I S3 w3 (gQ 26 0 0 ⟨a,1,1,fun _=>0⟩ aY) (gJ ⟨a,1,1,fun _=>0⟩ aY) S4 w4/\Gd S4 (n+1 + 1)/\(S4.l.length:Int)=L+2):=⟨_,ha,hg4,by rw[ha.l,List.length_append];have:=H3.2.2.2.2;simp;omega⟩;clear ha hg4;rw[H3.2.2.2.2];obtain⟨a4,YV⟩:=H4.out;have H4:Hid _:=YV;clear YV;go_wp2_with fail;refine(qc3 I S4 1 (n+1 + 1) _ H4.1.lx.s H4.2.1 (by omega)).mono ?_;rintro e w5 ⟨rfl,S5,ha,hg5⟩;obtain⟨a5,YU⟩:∃a,Ad I S4 w4 (gQ 26 0 0 ⟨a,1,1,fun _=>1⟩ aY) (gJ ⟨a,1,1,fun _=>1⟩ aY) S5 w5/\Gd S5 (n+1 + 1+1)/\(S5.l.length:Int)=L+3:=⟨_,ha,hg5,by rw[ha.l,List.length_append];have:=H4.2.2;simp;omega⟩;have H5:Hid _:=YU;clear ha hg5 YU;rw[H4.2.2];go_wp2_with fail;refine(z12 I S5 w5.heap.size 2 2 (fun j=>if j=0 then L+1 else L+2) (n+1 + 1+1) _ (H5.1.lx.s.alloc _) H5.2.1 (by omega) (by omega) (by omega) (La H5.1.lx.s (L+1) (L+2) _)).mono ?_;rintro e w6 ⟨rfl,l1,r2,r3,S6,hp⟩;have H6:Hid (Yi I S5 (w5.alloc (.cells #[.int .i64 (L+1),.int .i64 (L+2)] 3)) 2 (fun j=>if j=0 then L+1 else L+2) (n+1 + 1+1) l1 r2 r3 S6 w6/\(S6.l.length:Int)=L+6):=⟨hp,by rw[hp.ll,List.length_append];have:=H5.2.2;simp;omega⟩;clear hp;rw[H5.2.2];have e35:L+3 + 2=L+5:=by omega
 rw[e35];clear e35;go_wp2_with fail;refine(zG I S6 1 aY ⟨some ⟨w6.heap.size,0,none⟩,1,1,fun _=>L+5⟩ (n+1 + 1+1 + 3) _ (H6.1.lx.s.alloc _) H6.1.g (by omega) (iM _ _ _) (wE H6.1.lx.s (L+5) _) (Nat.le_refl _)).mono ?_;rintro e w7 ⟨rfl,l2,S7,a1,a2,ha,lG⟩;obtain⟨a7,JU⟩:∃a,Ad I S6 (w6.alloc (.cells #[.int .i64 (L+5)] 3)) (gQ 1 l2 0 aY ⟨a,1,1,fun _=>L+5⟩) (gJ aY ⟨a,1,1,fun _=>L+5⟩) S7 w7/\Gd S7 (n+1 + 1+1 + 3+1)/\1<=l2/\l2<=5000/\(S7.l.length:Int)=L+7:=⟨_,ha,lG,a1,a2,by rw[ha.l,List.length_append];have:=H6.2;simp;omega⟩;have H7:Hid _:=JU;clear ha lG a1 a2 JU;rw[H6.2];go_wp2_with fail;have hst:=zG I S7 12 ⟨some ⟨w7.heap.size,0,none⟩,2,2,fun j=>if j=0 then 0 else 1⟩ ⟨some ⟨w7.heap.size+1,0,none⟩,2,2,fun j=>if j=0 then L else L+6⟩ (n+1 + 1+1 + 3+1) ((w7.alloc (.cells #[.int .i64 0,.int .i64 1] 3)).alloc (.cells #[.int .i64 L,.int .i64 (L+6)] 3)) ((H7.1.lx.s.alloc _).alloc _) H7.2.1 (by omega) ((La H7.1.lx.s 0 1 _).call (q01 _ _)) (by
  have:=La (H7.1.lx.s.alloc (.cells #[.int .i64 0,.int .i64 1] 3)) L (L+6) 3;rw[World.size_alloc] at this;exact this) (Nat.le_refl _)
 refine hst.mono ?_;clear hst;rintro e w8 ⟨rfl,l3,S8,a1,a2,ha,yL⟩;obtain⟨a8,b8,JR⟩:∃a b,Ad I S7 ((w7.alloc (.cells #[.int .i64 0,.int .i64 1] 3)).alloc (.cells #[.int .i64 L,.int .i64 (L+6)] 3)) (gQ 12 l3 0 ⟨a,2,2,fun j=>if j=0 then 0 else 1⟩ ⟨b,2,2,fun j=>if j=0 then L else L+6⟩) (gJ ⟨a,2,2,fun j=>if j=0 then 0 else 1⟩ ⟨b,2,2,fun j=>if j=0 then L else L+6⟩) S8 w8/\Gd S8 (n+1 + 1+1 + 3+1 + 1)/\1<=l3/\l3<=5000:=⟨_,_,ha,yL,a1,a2⟩;have H8:Hid _:=JR;clear ha yL a1 a2 JR;rw[H7.2.2.2.2];go_wp2_with fail;go_ret;obtain⟨q8,q8g,q8a,q8b⟩:=H8.out;obtain⟨q7,q7g,q7a,q7b,q7c⟩:=H7.out;obtain⟨q6,q6c⟩:=H6.out;obtain⟨q5,_,q5c⟩:=H5.out;obtain⟨q4,_,_⟩:=H4.out;obtain⟨q3,q3l,q3v,_,_⟩:=H3.out;obtain⟨q2,q2l,q2v,_⟩:=H2.out;obtain⟨q1,_,q1a,q1b⟩:=H1.out;have t1:=q1.lx.trans (q2.trans (q3.trans (q4.lx.trans q5.lx)));have t2:=t1.trans ((Lx.below t1.s (q01 w5 (.cells #[.int .i64 (L+1),.int .i64 (L+2)] 3))).trans q6.lx);have t3:=t2.trans ((Lx.below t2.s (q01 w6 (.cells #[.int .i64 (L+5)] 3))).trans q7.lx);have t4:=t3.trans ((Lx.below t3.s (iy w7 (.cells #[.int .i64 0,.int .i64 1] 3) (.cells #[.int .i64 L,.int .i64 (L+6)] 3))).trans q8.lx);have h5:(S5.l.length:Int)=L+3:=q5c;refine⟨rfl,S8,_,_,_,_,_,_,_,_,⟨t4,?_,by have:=q8g;exact this⟩,⟨⟨l0,aY,c,rfl,lV,HL.2.2.2.2,q1a,q1b⟩,⟨0,⟨a4,1,1,fun _=>0⟩,aY,rfl,vX _ 0,lV,rfl⟩,⟨0,⟨a5,1,1,fun _=>1⟩,aY,rfl,vX _ 1,lV,rfl⟩,⟨0,aY,aY,rfl,lV,lV,rfl⟩,⟨0,aY,r2,rfl,lV,⟨q6.VI,fun j z e=>?_,by rw[q6.VI];exact q6.r2c⟩,rfl⟩,⟨l1,aY,r3,rfl,lV,⟨q6.VH,fun j z e=>?_,by rw[q6.VH];exact q6.r3c⟩,q6.l1,q6.l2⟩,⟨l2,aY,⟨a7,1,1,fun _=>L+5⟩,rfl,lV,vX _ _,q7a,q7b⟩,⟨l3,⟨a8,2,2,fun j=>if j=0 then 0 else 1⟩,⟨b8,2,2,fun j=>if j=0 then L else L+6⟩,rfl,NQ _ 0 1,NQ _ L (L+6),q8a,q8b⟩⟩,?_⟩
 ·rw[q8.l,q7.l,q6.ll,q5.l,q4.l,q3l,q1.l];simp
 ·rw[q6.r2q,h5];rcases j with _|_|_|j
  ·simp at e;exact e
  ·simp at e;exact e
  ·simp at e;exact e
  ·simp at e
 ·rw[q6.r3q,h5];rcases j with _|j
  ·simp at e;show L+3 + 1=z;omega
  ·simp at e
 ·rw[q8.va.2.2,q7.va.2.2,q6.va,q5.va.2.2,q4.va.2.2,q3v,q2v,q1.va.2.2];simp
abbrev lX(nm:ByteArray)(ln:Int):Array Value:=#[.string nm,.int .i64 ln,.int .i64 0,.bool false,.slice none 0 0,.slice none 0 0,.slice none 0 0]
abbrev pJ(f ne ln:Int):Array Value:=#[.int .i64 f,.slice none 0 0,.int .i64 0,.int .i64 ne,.int .i64 ln]
abbrev vw:Array Value:=#[.string ⟨#[]⟩,.int .i64 0,.int .i64 0,.bool false,.slice none 0 0,.slice none 0 0,.slice none 0 0]
theorem Bg{a b:Int}{w:World}{B:Nat}(h:Has w B #[.int .u8 a,.int .u8 b]):(convert 22 9 (.slice (some ⟨B,0,none⟩) 2 2)).run Tryz.prog w=.ok (.string (strOfNums [a,b])) w:=
 run_convert_bytes_arg (P:=Tryz.prog) (w:=w) 22 5 Tryz.underlying22 Tryz.underlying5 B 0 2 2 [a,b] rfl (fun i hi=>by
  rcases(show i=0\/i=1 by omega) with rfl|rfl
  ·exact h.2 0
  ·exact h.2 1) 9 Tryz.underlying9
abbrev zW(c:Int):Array Value:=#[.int .u8 102,.int .u8 c]
theorem PY{w:World}{P:Nat}(h:OwnB w P vw)(nm:ByteArray)(ln:Int):OwnB (((((((w.setCell ⟨P,0,none⟩ (.string nm)).setCell ⟨P,1,none⟩ (.int .i64 ln)).setCell ⟨P,2,none⟩ (.int .i64 0)).setCell ⟨P,3,none⟩ (.bool false)).setCell ⟨P,4,none⟩ (.slice none 0 0)).setCell ⟨P,5,none⟩ (.slice none 0 0)).setCell ⟨P,6,none⟩ (.slice none 0 0)) P (lX nm ln):=
 ((((((h.set (o:=0) (by show 0<7;omega) _).set (o:=1) (by show 1<7;omega) _).set (o:=2) (by show 2<7;omega) _).set (o:=3) (by show 3<7;omega) _).set (o:=4) (by show 4<7;omega) _).set (o:=5) (by show 5<7;omega) _).set (o:=6) (by show 6<7;omega) _
theorem Rq{v w1:World}{A:Array Value}{t:TypeId}(hb:Below (v.alloc (.cells A t)).heap.size (v.alloc (.cells A t)) w1):OwnB w1 v.heap.size A:=(OwnB.new v A t).call hb
theorem yq4{v w1:World}{A:Array Value}{t:TypeId}{o:Obj}(hb:Below ((v.alloc o).alloc (.cells A t)).heap.size ((v.alloc o).alloc (.cells A t)) w1):OwnB w1 (v.heap.size+1) A:=(q35 v o A t).call hb
theorem UW{v w1:World}{A:Array Value}{t:TypeId}{o:Obj}(hb:Below ((v.alloc o).alloc (.cells A t)).drew.heap.size ((v.alloc o).alloc (.cells A t)).drew w1):OwnB w1 (v.heap.size+1) A:=(q35 v o A t).drew.call hb
theorem Jg{v w1:World}{A:Array Value}{t:TypeId}(hb:Below (v.alloc (.cells A t)).drew.heap.size (v.alloc (.cells A t)).drew w1):OwnB w1 v.heap.size A:=(OwnB.new v A t).drew.call hb
theorem Jf{v w1:World}{A:Array Value}{t:TypeId}{o:Obj}(hb:Below ((v.alloc (.cells A t)).alloc o).drew.heap.size ((v.alloc (.cells A t)).alloc o).drew w1):OwnB w1 v.heap.size A:=((OwnB.new v A t).alloc o).drew.call hb
theorem Ro{v w1:World}{A:Array Value}{t:TypeId}{o:Obj}(hb:Below ((v.alloc (.cells A t)).alloc o).heap.size ((v.alloc (.cells A t)).alloc o) w1):OwnB w1 v.heap.size A:=((OwnB.new v A t).alloc o).call hb
structure JY(I:bQ)(L:List Value)(va na:Value):Prop where
 n:L.length=I.nf*7
 v:L[I.fo+4]?=some va
 d:L[I.fo+6]?=some na
 o:∀o,o≠I.fo+4->o≠I.fo+6->L[o]?=I.A0[o]?
structure Ju(I:bQ)(L:List Value)(ln:Int)(sc:Value):Prop where
 n:L.length=I.nk*5
 f:L[I.ko]?=some (.int .i64 (I.f:Int))
 sc:L[I.ko+1]?=some sc
 ne:L[I.ko+3]?=some (.int .i64 ((I.nk:Int)-1))
 ln:L[I.ko+4]?=some (.int .i64 ln)
 o:∀o,o<I.ko->L[o]?=I.K0[o]?
theorem lK.l{I:bQ}{u:World}{va na:Value}(h:lK I u va na):∃L,JY I L va na/\u.ownsRow 0 87 7 (.slice (some ⟨I.F,0,none⟩) I.nf I.fc) I.nf L:=by
 obtain⟨L,h1,h2,h3,h4⟩:=h;exact⟨L,⟨h1.1,h2,h3,h4⟩,h1⟩
theorem qH.l{I:bQ}{u:World}{ln:Int}{sc:Value}(h:qH I u ln sc):∃L,Ju I L ln sc/\u.ownsRow 0 89 5 (.slice (some ⟨I.K,0,none⟩) I.nk I.kc) I.nk L:=by
 obtain⟨L,h1,h2,h3,h4,h5,h6⟩:=h;exact⟨L,⟨h1.1,h2,h3,h4,h5,h6⟩,h1⟩
abbrev Q7(S:bJ):bJ:=⟨S.lf,S.ln,S.A+2,none,0,[],[],none,0,.slice none 0 0⟩
structure RZ(I:bQ)(S:bJ)(u:World)(nm:ByteArray)(L:List Value)(F fc:Nat)(w:World):Prop where
 b:OwnB w I.B #[ptr I.C,.slice (some ⟨F,0,none⟩) (I.nf+1) fc,.slice (some ⟨I.K,0,none⟩) I.nk I.kc,.int .i64 S.lf]
 c:CU I.C none 0 0 (S.A+2) w
 f:w.ownsRow 0 87 7 (.slice (some ⟨F,0,none⟩) (I.nf+1) fc) (I.nf+1) (L++(lX nm S.ln).toList)
 fl:JY I L (.slice S.va S.vl.length S.vc) (.slice S.na S.l.length S.nc)
 k:qH I w S.ln S.sc
 hF:F=I.F\/u.heap.size<=F
 lt:F<w.heap.size
 g:Gx (inb I) u w
structure Ej(I:bQ)(S:bJ)(u:World)(nm:ByteArray)(L LK:List Value)(F K fc kc:Nat)(w:World):Prop where
 s:LB ⟨w.heap.size,I.B,I.C,F,K,fc,kc,I.nf+1,I.nf,I.nk+1,L++(lX nm S.ln).toList,LK++(pJ (I.nf:Int) (I.nk:Int) S.ln).toList⟩ (Q7 S) w
 fl:JY I L (.slice S.va S.vl.length S.vc) (.slice S.na S.l.length S.nc)
 kl:Ju I LK S.ln S.sc
 hF:F=I.F\/u.heap.size<=F
 hK:K=I.K\/u.heap.size<=K
 g:Gx (inb I) u w
theorem LB.beside{I:bQ}{S:bJ}{a:Nat}{u w w':World}(h0:LB I S u)(h:Lx I S u {S with A:=a} w){P:Nat}(g:Gx (fun k=>k=P) w w')(hP:u.heap.size<=P):Lx I S u {S with A:=a} w':=by
 obtain⟨l1,l2,l3,l4⟩:=h0.lt;have s1:=h.g.size;have hb:∀k,k<u.heap.size->w'.heap[k]?=w.heap[k]?:=fun k hk=>g.block k (by omega) (by omega);have q:∀{b:Option Addr} {n:Nat} {f:Nat->Int},dV I S u b n f->dV I {S with A:=a} w b n f->dV I {S with A:=a} w' b n f:=fun r0 r=>⟨fun e=>by
  obtain⟨b,off,e1,h1,h2,h3⟩:=r.1 e;exact⟨b,off,e1,h1,Nat.lt_of_lt_of_le h2 g.size,fun i hi j hj=>(World.cell?_of_block (a:=⟨b,off+i*1+j,none⟩) (hb b (r0.2 _ e1).2.1)).trans (h3 i hi j hj)⟩,fun b e=>⟨(r.2 b e).1,Nat.lt_of_lt_of_le (r.2 b e).2.1 g.size,(r.2 b e).2.2⟩⟩
 refine⟨⟨h.s.i,h.s.b.block g.size (hb _ l1),uQ h.s.c g (by omega),h.s.f.block (hb _ l3),h.s.k.block (hb _ l4),?_,?_,fun p hp=>?_,h.s.rb,h.s.vb,Nat.le_trans h.s.n g.size⟩,h.g.trans g (fun k hk e=>by omega),h.m⟩
 ·exact jS h.s.r fun k e=>hb k (q16 h0.r ((dD _ _ _).symm.trans e)).2
 ·exact jS h.s.v fun k e=>hb k (q16 h0.v ((dD _ _ _).symm.trans e)).2
 ·obtain⟨x1,x2,x3⟩:=h.s.x p hp;obtain⟨y1,y2,_⟩:=h0.x p hp;exact⟨q y1 x1,q y2 x2,x3⟩
theorem Z7{B K nk kc:Nat}{u:World}(b2:u.cell? ⟨B,2,none⟩=some (.slice (some ⟨K,0,none⟩) nk kc))(_hbl:B<u.heap.size)(h1:1<=nk)(h2:nk<=50):Calls Tryz.prog 69 #[ptr B] u fun e w'=>e=.returned (pA K ((nk-1)*5))/\ah u w':=by
 obtain⟨j,hj⟩:∃j:Int,j=(nk:Int)-1:=⟨_,rfl⟩;have hw:IntKind.i64.wrap ((nk:Int)-1)=j:=by
  simp[IntKind.wrap,IntKind.bits,IntKind.signed];omega
 have hi0:(0:Int)<=j:=by omega
 have hi1:j<(nk:Int):=by omega
 have HS:Hid ((nk-1)*5=j.toNat*5):=by
  show(nk-1)*5=j.toNat*5;congr 1;omega
 rw[HS.out];clear hj h1 h2;go_in
 go_upto_region 1 with fail
 go_region_with fail
 all_goals
  go_wp2_with fail;go_ret;refine⟨?_,?_⟩
  ·first
   |rfl
   |(show _=Ending.returned (pA K (j.toNat*5));congr 4;omega)
   |(show _=Ending.returned (pA K (j.toNat*5));simp;omega)
  ·first
   |exact(Below.refl _ _).drew
   |exact Below.refl _ _
theorem Uu{w:World}{t:TypeId}{K n:Nat}{v:Value}{xs:List Value}(h:w.ownsRow 0 t K v n xs)(hn:0<n):∃g c,v=.slice (some ⟨g,0,none⟩) n c/\g<w.heap.size:=by
 rcases h.2 with⟨_,e⟩|⟨g,c,cur,e,_,h2,_⟩
 ·omega
 ·exact⟨g,c,e,(Array.getElem?_eq_some_iff.1 h2).1⟩
theorem yk3{I:bQ}{S:bJ}{u w8 w10 kX:World}{nm:ByteArray}{L LK:List Value}{F fc:Nat}{v:Value}(h:RZ I S u nm L F fc w8)(hu:LB I S u)(hm:I.nf<=49/\I.nk<=49)(hb:ah w8 w10)(hl:Ju I LK S.ln S.sc)(ho:kX.ownsRow 0 89 5 v (I.nk+1) (LK++(pJ (I.nf:Int) (I.nk:Int) S.ln).toList))(hg:(w10.alloc (.cells (pJ (I.nf:Int) (I.nk:Int) S.ln) 89)).grownBy kX (Value.slice (some ⟨I.K,0,none⟩) I.nk I.kc).ownBlock)(hat:v.ownBlock=(Value.slice (some ⟨I.K,0,none⟩) I.nk I.kc).ownBlock\/v.ownBlock=some (w10.alloc (.cells (pJ (I.nf:Int) (I.nk:Int) S.ln) 89)).heap.size):∃K kc,v=.slice (some ⟨K,0,none⟩) (I.nk+1) kc/\Ej I S u nm L LK F K fc kc (kX.setCell ⟨I.B,2,none⟩ v):=by
 have hi:=hu.i;obtain⟨l1,l2,l3,l4⟩:=hu.lt;have s8:=h.g.size;have s10:=hb.size;obtain⟨K,kc,rfl,hKl⟩:=Uu ho (by omega);have g11:Gx (fun k=>k=I.K) w8 kX:=(Gx.below (fun k=>k=I.K) (aH hb (q01 w10 _))).trans (Gx.grown hg) (fun k _ e=>(Option.some.inj e).symm);have s11:=g11.size;have hKn:K=I.K\/w8.heap.size<K:=by
  rcases hat with e|e
  ·exact .inl (Option.some.inj e)
  ·refine .inr ?_;have:=Option.some.inj e;simp at this;omega
 have hF:=h.hF;have MP:=h.lt;have nB:K≠I.B:=by rcases hKn with e|e;rw[e];exact hi.bk.symm;omega
 have nC:K≠I.C:=by rcases hKn with e|e;rw[e];exact hi.ck.symm;omega
 have nF:F≠K:=by
  rcases hKn with e|e
  ·rcases hF with c|c
   ·rw[e,c];exact hi.fk
   ·omega
  ·omega
 have bF:I.B≠F:=by rcases hF with c|c;rw[c];exact hi.bf;omega
 have cF:I.C≠F:=by rcases hF with c|c;rw[c];exact hi.cf;omega
 have kF:I.K≠F:=by rcases hF with c|c;rw[c];exact hi.fk.symm;omega
 have MG:=h.b;refine⟨K,kc,rfl,⟨⟨⟨hi.bc,bF,nB.symm,cF,nC.symm,nF,?_,?_,?_⟩,(g11.ownB MG hi.bk).set (o:=2) (by show 2<4;omega) _,uQ (uQ h.c g11 hi.ck) (Gx.set kX I.B 2 _) (fun e=>hi.bc e.symm),⟨L++(lX nm S.ln).toList,?_,?_,?_,fun _ _ _=>rfl⟩,⟨LK++(pJ (I.nf:Int) (I.nk:Int) S.ln).toList,jh ho _ (fun k e=>by rw[<-Option.some.inj e];exact nB),?_,?_,?_,?_,fun _ _=>rfl⟩,World.ownsRow_nil _ _ _ _,World.ownsRow_nil _ _ _ _,fun p hp=>absurd hp (by simp),fun k e=>(nomatch e),fun k e=>(nomatch e),Nat.le_refl _⟩,h.fl,hl,hF,?_,?_⟩⟩
 ·show I.nf<I.nf+1;omega
 ·show 1<=I.nk+1;omega
 ·show I.nf+1<=50/\I.nk+1<=50;omega
 ·refine jh (jS h.f fun k e=>?_) _ (fun k e=>by rw[<-Option.some.inj e];exact bF.symm);rw[<-Option.some.inj e];exact g11.block F MP (fun e=>kF e.symm)
 ·show(L++(lX nm S.ln).toList)[I.nf*7+4]?=_;rw[List.getElem?_append_right (by have:=h.fl.n;omega),show I.nf*7+4-L.length=4 by have:=h.fl.n;omega];rfl
 ·show(L++(lX nm S.ln).toList)[I.nf*7+6]?=_;rw[List.getElem?_append_right (by have:=h.fl.n;omega),show I.nf*7+6-L.length=6 by have:=h.fl.n;omega];rfl
 ·show(LK++(pJ (I.nf:Int) (I.nk:Int) S.ln).toList)[(I.nk+1-1)*5]?=_;rw[List.getElem?_append_right (by have:=hl.n;omega),show(I.nk+1-1)*5-LK.length=0 by have:=hl.n;omega];rfl
 ·show(LK++(pJ (I.nf:Int) (I.nk:Int) S.ln).toList)[(I.nk+1-1)*5+1]?=_;rw[List.getElem?_append_right (by have:=hl.n;omega),show(I.nk+1-1)*5+1-LK.length=1 by have:=hl.n;omega];rfl
 ·show(LK++(pJ (I.nf:Int) (I.nk:Int) S.ln).toList)[(I.nk+1-1)*5+3]?=some (.int .i64 (((I.nk+1:Nat):Int)-1));rw[List.getElem?_append_right (by have:=hl.n;omega),show(I.nk+1-1)*5+3-LK.length=3 by have:=hl.n;omega,show((I.nk+1:Nat):Int)-1=(I.nk:Int) by omega];rfl
 ·show(LK++(pJ (I.nf:Int) (I.nk:Int) S.ln).toList)[(I.nk+1-1)*5+4]?=_;rw[List.getElem?_append_right (by have:=hl.n;omega),show(I.nk+1-1)*5+4-LK.length=4 by have:=hl.n;omega];rfl
 ·rcases hKn with e|e
  ·exact .inl e
  ·exact .inr (by omega)
 ·exact(h.g.trans g11 (fun k _ e=>.inr (.inr (.inr e)))).trans (Gx.set kX I.B 2 _) (fun k _ e=>.inl e)
theorem z71(I:bQ)(S:bJ)(u:World)(h:LB I S u)(hA:S.A<=2000)(hm:I.nf<=49/\I.nk<=49):Calls Tryz.prog 22 #[ptr I.B,.int .i64 0,.bool false] u fun e w'=>e=.returned (.int .i64 (I.nf:Int))/\∃nm L LK F K fc kc,Ej I S u nm L LK F K fc kc w':=by
 have HL:Hid (LB I S u):=h;have HM:Hid (I.nf<=49/\I.nk<=49):=hm;have b1:u.cell? ⟨I.B,1,none⟩=some (.slice (some ⟨I.F,0,none⟩) I.nf I.fc):=h.b.1.cell 1 rfl;have hbl:=h.b.1.1;obtain⟨z,hz⟩:∃z:Int,(I.nf:Int)=z:=⟨_,rfl⟩;have Ig:0<=z/\z<=50:=by have:=h.i.m.1;omega
 obtain⟨c,hc⟩:∃c:Int,48+z.tmod 10=c:=⟨_,rfl⟩;have ht1:0<=z.tmod 10:=Int.tmod_nonneg _ Ig.1;have ht2:z.tmod 10<10:=Int.tmod_lt_of_pos _ (by decide);have hw0:IntKind.i64.wrap (z.tmod 10)=z.tmod 10:=by
  generalize z.tmod 10=r at *;simp[IntKind.wrap,IntKind.bits,IntKind.signed];omega
 have hw1:IntKind.i64.wrap (48+z.tmod 10)=48+z.tmod 10:=by
  generalize z.tmod 10=r at *;simp[IntKind.wrap,IntKind.bits,IntKind.signed];omega
 have hw2:IntKind.u8.wrap (48+z.tmod 10)=c:=by
  clear hw0 hw1;generalize z.tmod 10=r at *;simp[IntKind.wrap,IntKind.bits,IntKind.signed];omega
 have IE:=Bg (((OwnB.new u (zW c) 5).alloc (.cells vw 87)).drew).1;have IC:=Bg ((q35 u (.cells vw 87) (zW c) 5).drew).1;have hca:=fun w=>Bg (OwnB.new w (zW c) 5).1;have hcd:=fun w=>Bg (OwnB.new w (zW c) 5).drew.1;obtain⟨sN,wX⟩:∃sN,strOfNums [(102:Int),c]=sN:=⟨_,rfl⟩;have Cc:Hid (strOfNums [(102:Int),c]=sN):=wX;have HZ:Hid ((I.nf:Int)=z):=hz;rw[wX] at IE IC hca hcd;clear h wX hc Ig ht1 ht2 hm;rw[HZ.out];go_in
 go_upto_region 2 with fail
 clear hz b1 hbl
 go_cut [8] from 16 to 29 (fun v wc=>∃P,v=ptr P/\Hid (ah u wc/\OwnB wc P (lX sN S.ln)/\u.heap.size<=P))
 case first=>
  have hk0:u.drew.cell? ⟨I.K,I.ko+4,none⟩=some (.int .i64 S.ln):=HL.k.cell.2.1;have vk:=enters_of Tryz.func69 (by kernel_rfl) rfl
  go_region_law (first
   |(refine Hr (by rfl) 69 _ _ (by rfl) (ptr I.B) (by rfl) vk _ (Lp I S _ ?_) ?_;(first|exact HL.out.drew|exact(HL.out.alloc _).drew|exact((HL.out.alloc _).alloc _).drew|exact(HL.out.drew.alloc _)|exact((HL.out.drew.alloc _).alloc _));rintro e w1 ⟨rfl,hb⟩;refine⟨_,rfl,?_⟩;have HB1:Hid (ah u w1):=(by refine aH ?_ hb;(repeat(with_reducible first|exact iw _|refine gI ?_ _|refine iq ?_)));have hk1:=(HL.out.call HB1.out).k.cell.2.1;have hkl:=(HL.out.call HB1.out).k.cell.2.2.2.1;(first|(have hy:OwnB w1 (u.heap.size+1) vw:=UW hb)|(have hy:OwnB w1 u.heap.size vw:=Jf hb)|(have hy:OwnB w1 u.heap.size vw:=Jg hb)|(have hy:OwnB w1 (u.heap.size+1) vw:=yq4 hb)|(have hy:OwnB w1 u.heap.size vw:=Ro hb)|(have hy:OwnB w1 u.heap.size vw:=Rq hb)|(have hy:=True.intro));(first|(have hby:OwnB w1 u.heap.size (zW c):=Jf hb)|(have hby:OwnB w1 u.heap.size (zW c):=Jg hb)|(have hby:OwnB w1 (u.heap.size+1) (zW c):=UW hb)|(have hby:=True.intro));(have QG:=Bg (q35 w1 (.cells vw 87) (zW c) 5).1;have QF:=Bg ((OwnB.new w1 (zW c) 5).alloc (.cells vw 87)).1;rw[Cc.out] at QG QF);(first|(have hcv:=Bg hby.1;rw[Cc.out] at hcv;have hcv2:=Bg (hby.alloc (.cells vw 87)).1;rw[Cc.out] at hcv2)|skip);(first|(have c0:=hy.1.cell 0 rfl;have c1:=hy.1.cell 1 rfl;have c2:=hy.1.cell 2 rfl;have c3:=hy.1.cell 3 rfl;have c4:=hy.1.cell 4 rfl;have c5:=hy.1.cell 5 rfl;have c6:=hy.1.cell 6 rfl;have pz:=hy.2;have pl:=hy.1.1;have pn1:=Nat.ne_of_lt pl;have pn2:=Nat.ne_of_gt pl)|skip);clear hb))
  all_goals
   go_wp2_with fail
   go_meet
   have q1:=HB1.size;refine⟨_,rfl,?_,?_,?_⟩
   ·(repeat(with_reducible first|exact HB1.out|refine gI ?_ _|refine iq ?_|refine q23 ?_ _ (by omega)))
   ·(repeat(with_reducible first|exact PY hy _ _|exact OwnB.new _ _ _|exact q35 _ _ _ _|refine OwnB.alloc ?_ _|refine OwnB.drew ?_))
   ·omega
 case rest=>
  obtain⟨P,rfl,H1⟩:=hcut;clear hca hcd hw0 hw1 hw2 IE IC;have b0:=(HL.call H1.1).b.1.cell 0 rfl;have hbl:=(HL.call H1.1).b.1.1;go_wp2_with fail;refine(Wp I.C none 0 0 S.A 4 _ (by omega) (by omega) (by omega) ?_).mono ?_
  ·exact(HL.call H1.1).c
  rintro e w2 ⟨⟨v,rfl,hv1,hv2⟩,hc,hg⟩;have hx:=(HL.call H1.1).pick hc hg;have XQ:P≠I.C:=fun e=>by have h1:=H1.2.2;have h2:=HL.lt.2.1;omega
  have H2:Hid (Lx I S u {S with A:=S.A+2} w2/\OwnB w2 P (lX sN S.ln)/\u.heap.size<=P/\Gx (fun k=>k=I.C) u w2):=⟨(Lx.below HL.out H1.1).trans hx,H1.2.1.block hg.size (hg.block P H1.2.1.1.1 (fun e=>XQ (Option.some.inj e))),H1.2.2,(Gx.below (fun k=>k=I.C) H1.1).trans (Gx.grown hg) (fun k _ e=>(Option.some.inj e).symm)⟩;have p0:=H2.2.1.1.cell 0 rfl;have pz:=H2.2.1.2;have pl:=H2.2.1.1.1;clear hx hc hg b0 hbl H1 XQ;obtain⟨vb,hvb⟩:∃vb:Bool,(v==0)=vb:=⟨_,rfl⟩
  go_upto_if 35 with fail
  go_cut [] from 30 to 36 (fun w3=>∃nm:ByteArray,Hid (Lx I S u {S with A:=S.A+2} w3/\OwnB w3 P (lX nm S.ln)/\u.heap.size<=P/\Gx (fun k=>k=I.C) u w3))
  case first=>
   go_wp2_with fail;all_goals go_meet
   all_goals first
    |exact⟨sN,H2.out⟩
    |exact⟨⟨#[]⟩,HL.beside H2.1 (Gx.set w2 P 0 _) H2.2.2.1,H2.2.1.set (o:=0) (by show 0<7;omega) _,H2.2.2.1,H2.2.2.2.trans (Gx.set w2 P 0 _) (fun k hk e=>by have:=H2.2.2.1;omega)⟩
  case rest=>
   obtain⟨nm,HQ⟩:=hcut
   rename World=>w3
   obtain⟨hx3,hP3,hPu,hg3⟩:=HQ.out;clear p0 pz pl;have p0:=hP3.1.cell 0 rfl;have p1:=hP3.1.cell 1 rfl;have p2:=hP3.1.cell 2 rfl;have p3:=hP3.1.cell 3 rfl;have p4:=hP3.1.cell 4 rfl;have p5:=hP3.1.cell 5 rfl;have p6:=hP3.1.cell 6 rfl;have b1:w3.cell? ⟨I.B,1,none⟩=some (.slice (some ⟨I.F,0,none⟩) I.nf I.fc):=hx3.s.b.1.cell 1 rfl;have Ru:=hx3.s.b.1.1;have bz:=hx3.s.b.2;obtain⟨L,Y1,hr3⟩:=hx3.s.f.l;obtain⟨i0,hi0,hy0,hy1,hy2⟩:=info_parts TL;obtain⟨v',w7,happ,hown,hgrow,_,hat⟩:=run_append_own_at (P:=Tryz.prog) (w3.alloc (.cells (lX nm S.ln) 87)).drew 0 29 29 87 i0 _ 7 112 Tryz.underlying29 hi0 hy0 hy1 hy2 rfl (by decide) (.slice (some ⟨I.F,0,none⟩) I.nf I.fc) I.nf L (mZ hr3 ((q01 _ _).drew)) ⟨w3.heap.size,0,none⟩ 1 1 (lX nm S.ln).toList rfl (yD w3 (lX nm S.ln) _) (by simp[Value.oneCell']) (by have:=HM.1;unfold maxLen;omega) (by have:=HM.1;omega) (Nat.zero_le _);obtain⟨F',E8,rfl,MP⟩:=Uu hown (by omega);have HO:Hid (w7.ownsRow 0 87 7 (.slice (some ⟨F',0,none⟩) (I.nf+1) E8) (I.nf+1) (L++(lX nm S.ln).toList)/\JY I L (.slice S.va S.vl.length S.vc) (.slice S.na S.l.length S.nc)/\(F'=I.F\/w3.heap.size<F')/\F'<w7.heap.size):=⟨hown,Y1,by
    rcases hat with e|e
    ·exact .inl (Option.some.inj e)
    ·refine .inr ?_;have:=Option.some.inj e;simp at this;omega,MP⟩
   have hgx:Gx (fun k=>k=I.F) w3 w7:=((Gx.below (fun k=>k=I.F) ((q01 w3 _).drew)).trans (Gx.grown hgrow) (fun k _ e=>(Option.some.inj e).symm));have BL:OwnB w7 I.B #[ptr I.C,.slice (some ⟨I.F,0,none⟩) I.nf I.fc,.slice (some ⟨I.K,0,none⟩) I.nk I.kc,.int .i64 S.lf]:=hgx.ownB hx3.s.b HL.i.bf;have b17:w7.cell? ⟨I.B,1,none⟩=some (.slice (some ⟨I.F,0,none⟩) I.nf I.fc):=BL.1.cell 1 rfl;have bz7:=BL.2;have bl7:=BL.1.1;have H7:Hid (Gx (fun k=>k=I.F) w3 w7/\OwnB w7 I.B #[ptr I.C,.slice (some ⟨I.F,0,none⟩) I.nf I.fc,.slice (some ⟨I.K,0,none⟩) I.nk I.kc,.int .i64 S.lf]):=⟨hgx,BL⟩;have H3:Hid (Lx I S u {S with A:=S.A+2} w3/\Gx (fun k=>k=I.C) u w3):=⟨hx3,hg3⟩;clear hx3 hP3 hPu hg3 hr3 Y1 hi0 hy0 hy1 hy2 HQ H2 hown hgrow hat hgx BL MP;have hnE:((I.nf+1:Nat):Int)=(I.nf:Int)+1:=by omega
   go_upto_region 5 with fail
   go_cut [] from 37 to 46 (fun w8=>Hid (RZ I S u nm L F' E8 w8))
   case first=>
    go_region_law (first
     |(refine wF (by rfl) _ _ _ _ (by rfl) (.slice (some ⟨I.F,0,none⟩) I.nf I.fc) (.slice (some ⟨w3.heap.size,0,none⟩) 1 1) _ _ (by rfl) (by rfl) happ ?_))
    all_goals
     go_wp2_with fail
     go_meet
     obtain⟨w8,hw8⟩:∃w8,w7.setCell ⟨I.B,1,none⟩ (.slice (some ⟨F',0,none⟩) (I.nf+1) E8)=w8:=⟨_,rfl⟩;rw[hw8];obtain⟨o1,o2,o3,o4⟩:=HO.out;obtain⟨g7,q7⟩:=H7.out;have hx:=H3.1;have hi:=hx.s.i;obtain⟨l1,l2,l3,l4⟩:=hx.s.lt;have s7:=g7.size;have s3:=hx.g.size;have nB:I.B≠F':=by rcases o3 with e|e;rw[e];exact hi.bf;omega
     refine⟨?_,?_,?_,o2,?_,?_,?_,?_⟩
     ·rw[<-hw8];exact q7.set (o:=1) (by show 1<4;omega) _
     ·rw[<-hw8];exact uQ (uQ hx.s.c g7 hi.cf) (Gx.set w7 I.B 1 _) (fun e=>hi.bc e.symm)
     ·rw[<-hw8];exact jh o1 _ (fun k e=>by rw[<-Option.some.inj e];exact nB.symm)
     ·rw[<-hw8];exact(hx.s.k.block (g7.block I.K l4 (fun e=>hi.fk e.symm))).other hi.bk.symm
     ·rcases o3 with e|e
      ·exact .inl e
      ·exact .inr (by omega)
     ·rw[<-hw8];simpa using o4
     ·rw[<-hw8];exact((H3.2.mono (S':=inb I) (fun k e=>.inr (.inl e))).trans g7 (fun k _ e=>.inr (.inr (.inl e)))).trans (Gx.set w7 I.B 1 _) (fun k _ e=>.inl e)
   case rest=>
    rename World=>w8
    rename Hid (RZ _ _ _ _ _ _ _ _)=>H8
    clear happ b1 Ru bz b17 bz7 bl7 p0 p1 p2 p3 p4 p5 p6;obtain⟨LK,XY,Xu⟩:=H8.k.l;have HK:Hid (Ju I LK S.ln S.sc/\w8.ownsRow 0 89 5 (.slice (some ⟨I.K,0,none⟩) I.nk I.kc) I.nk LK):=⟨XY,Xu⟩;clear XY Xu;have HAt:Hid (∀w,ah w8 w->Calls Tryz.prog 69 #[ptr I.B] w fun e w'=>e=.returned (pA I.K I.ko)/\ah w w'):=fun w hw=>Z7 ((H8.b.call hw).1.cell 2 rfl) (H8.b.call hw).1.1 HL.i.hk HL.i.m.2;obtain⟨y,hy⟩:∃y:Int,(I.nk:Int)-1=y:=⟨_,rfl⟩;obtain⟨y1,hy1⟩:∃y1:Int,(I.nk:Int)=y1:=⟨_,rfl⟩;have HY:Hid ((I.nk:Int)-1=y/\(I.nk:Int)=y1/\(I.nf:Int)=z):=⟨hy,hy1,HZ.out⟩;have hwy:IntKind.i64.wrap (y+1)=y1:=by
     have:=HM.2;simp[IntKind.wrap,IntKind.bits,IntKind.signed];omega
    clear hy hy1;have Ny:Hid (∀w,ah w8 w->w.cell? ⟨I.K,I.ko+3,none⟩=some (.int .i64 y)/\w.cell? ⟨I.K,I.ko+4,none⟩=some (.int .i64 S.ln)/\w.cell? ⟨I.B,2,none⟩=some (.slice (some ⟨I.K,0,none⟩) I.nk I.kc)/\(∀o,w.frozen? ⟨I.B,o,none⟩=false)/\I.B<w.heap.size/\I.K<w.heap.size):=fun w hw=>by
     have hr:=Gz (mZ HK.2 hw);have hB:=H8.b.call hw;exact⟨hr.2.2 _ _ (by rw[<-HY.1];exact HK.1.ne),hr.2.2 _ _ HK.1.ln,hB.1.cell 2 rfl,hB.2,hB.1.1,hr.1⟩
    have nBK:I.B≠I.K:=HL.i.bk;obtain⟨i0,hi0,hy0,hy1,hy2⟩:=info_parts TK;have vk:=enters_of Tryz.func69 (by kernel_rfl) rfl;obtain⟨k3,k4,kb2,kbz,kbl,kkl⟩:=Ny.out w8.drew (iq (iw _));clear H3 H7 Cc HO
    go_upto_region 6 with fail
    go_cut [] from 47 to 68 (fun w12=>∃K kc,Hid (Ej I S u nm L LK F' K E8 kc w12))
    case first=>
     go_region_law (first
      |(have Qo:=HB1.out;clear Qo;refine Hr (by rfl) 69 _ _ (by rfl) (ptr I.B) (by rfl) vk _ (HAt.out w1 HB1.out) ?_;rintro e w10 ⟨rfl,hb⟩;refine⟨_,rfl,?_⟩;have HB2:Hid (ah w8 w10):=aH HB1.out hb;obtain⟨m3,m4,mb2,mbz,mbl,mkl⟩:=Ny.out w10 HB2.out;obtain⟨v'',kX,IJ,hown2,hgrow2,_,II⟩:=run_append_own_at (P:=Tryz.prog) (w10.alloc (.cells (pJ z y1 S.ln) 89)) 0 81 81 89 i0 _ 5 56 Tryz.underlying81 hi0 hy0 hy1 hy2 rfl (by decide) (.slice (some ⟨I.K,0,none⟩) I.nk I.kc) I.nk LK (mZ (mZ HK.2 HB2.out) (q01 _ _)) ⟨w10.heap.size,0,none⟩ 1 1 (pJ z y1 S.ln).toList rfl (fun j z e=>yD w10 (pJ _ _ _) _ j z e) (by simp[Value.oneCell']) (by have:=HM.2;unfold maxLen;omega) (by have:=HM.2;omega) (Nat.zero_le _);have hgB:kX.cell? ⟨I.B,2,none⟩=some (.slice (some ⟨I.K,0,none⟩) I.nk I.kc)/\(∀o,kX.frozen? ⟨I.B,o,none⟩=false)/\I.B<kX.heap.size:=(by have hk:=hgrow2.block I.B (by simp;omega) (fun e=>nBK (Option.some.inj e));have hk2:=hk.trans (Below.heap_alloc w10 (.cells (pJ z y1 S.ln) 89) I.B mbl);exact⟨(World.cell?_of_block (a:=⟨I.B,2,none⟩) hk2).trans mb2,fun o=>(World.frozen?_of_block (a:=⟨I.B,o,none⟩) hk2).trans (mbz o),by have:=hgrow2.size;simp at this;omega⟩);obtain⟨nb2,nbz,nbl⟩:=hgB;obtain⟨K',kc',rfl,hP⟩:=yk3 (v:=v'') H8.out HL.out HM.out HB2.out HK.1 (by rw[HY.2.1,HY.2.2];exact hown2) (by rw[HY.2.1,HY.2.2];exact hgrow2) (by rw[HY.2.1,HY.2.2];exact II);have tK:Hid (∃K kc,Ej I S u nm L LK F' K E8 kc (kX.setCell ⟨I.B,2,none⟩ (.slice (some ⟨K',0,none⟩) (I.nk+1) kc'))):=⟨_,_,hP⟩;clear hb hown2 hgrow2 II hP)
      |(refine Hr (by rfl) 69 _ _ (by rfl) (ptr I.B) (by rfl) vk _ (HAt.out w8.drew (iq (iw _))) ?_;rintro e w1 ⟨rfl,hb⟩;refine⟨_,rfl,?_⟩;have HB1:Hid (ah w8 w1):=aH (iq (iw _)) hb;obtain⟨l3,l4,lb2,lbz,lbl,lkl⟩:=Ny.out w1 HB1.out;clear hb)
      |(refine wF (by rfl) _ _ _ _ (by rfl) (.slice (some ⟨I.K,0,none⟩) I.nk I.kc) (.slice (some ⟨w10.heap.size,0,none⟩) 1 1) _ _ (by rfl) (by rfl) IJ ?_))
     all_goals
      go_wp2_with fail
      go_meet
      exact tK
    case rest=>
     obtain⟨K,kc,HO⟩:=hcut;clear k3 k4 kb2 kbz kbl kkl Ny HAt H8 hwy;go_wp2_with fail
     go_loopw [9] (fun v wr=>v=.int .i64 0/\Hid (Ej I S u nm L LK F' K E8 kc wr)) (fun _ _=>0)
     case atStart=>exact⟨rfl,HO⟩
     case round=>
      obtain⟨rfl,HR⟩:=hrel;go_wp2_with fail;go_ret;exact⟨rfl,nm,L,LK,F',K,E8,kc,HR⟩
end
end Go.Proofs.YtihnikeikhjndaaGreatDoor
