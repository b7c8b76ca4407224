import Derived.Test.YthnkncpegihbhaaGreatDoorVcA
import Derived.Test.YthnkncpegihbhaaGreatDoorXfA
import Derived.Test.YthnkncpegihbhaaGreatDoorSpA
set_option maxRecDepth 100000
set_option maxHeartbeats 16000000
namespace Go.Proofs.YthnkncpegihbhaaGreatDoor
section
open Go.RowKit
attribute [local go_sem] iD
attribute [local go_sem ↓] Go.wp_at_zero Go.wp_at_succ
theorem yu3(c:Int)(w:World):(convert 22 9 (.slice (some ⟨w.heap.size,0,none⟩) 1 1)).run Tryz.prog (w.alloc (.cells #[.int .u8 c] 5))=.ok (.string (strOfNums [c])) (w.alloc (.cells #[.int .u8 c] 5))/\(convert 22 9 (.slice (some ⟨w.heap.size,0,none⟩) 1 1)).run Tryz.prog (w.alloc (.cells #[.int .u8 c] 5)).drew=.ok (.string (strOfNums [c])) (w.alloc (.cells #[.int .u8 c] 5)).drew:=by
 constructor
 ·exact run_convert_bytes_arg (P:=Tryz.prog) (w:=w.alloc (.cells #[.int .u8 c] 5)) 22 5 Tryz.underlying22 Tryz.underlying5 w.heap.size 0 1 1 [c] rfl (fun i hi=>by
   obtain rfl:i=0:=by omega
   exact dh w #[.int .u8 c] 5 0) 9 Tryz.underlying9
 ·exact run_convert_bytes_arg (P:=Tryz.prog) (w:=(w.alloc (.cells #[.int .u8 c] 5)).drew) 22 5 Tryz.underlying22 Tryz.underlying5 w.heap.size 0 1 1 [c] rfl (fun i hi=>by
   obtain rfl:i=0:=by omega
   exact dh w #[.int .u8 c] 5 0) 9 Tryz.underlying9
theorem LB.Oc{I:jK}{S:jF}{u w7:World}(h:LB I S u){s v':Value}(ho:w7.ownsRow I.N 9 1 v' (S.vl.length+1) (S.vl++[s]))(hg:u.grownBy w7 (Value.slice S.va S.vl.length S.vc).ownBlock)(hat:v'.ownBlock=(Value.slice S.va S.vl.length S.vc).ownBlock\/v'.ownBlock=some u.heap.size):∃va vc,v'=.slice va (S.vl.length+1) vc/\Lx I S u {S with va:=va,vc:=vc,vl:=S.vl++[s]} (w7.setCell ⟨I.F,I.fo+4,none⟩ v'):=by
 obtain⟨va,vc,rfl⟩:=zO ho;rw[jg] at hg;rw[jg,jg] at hat;have hi:=h.i;have hgx:Gx (fun k=>ig S.va=some k) u w7:=Gx.grown hg;have hN:∀k,ig S.va=some k->I.N<=k:=fun k e=>(jm h.v e).1;have g:Gx (fun k=>k=I.F\/ig S.va=some k) u (w7.setCell ⟨I.F,I.fo+4,none⟩ (.slice va (S.vl.length+1) vc)):=(hgx.mono (fun k e=>.inr e)).trans (Gx.set w7 I.F (I.fo+4) _) (fun _ _ e=>.inl e);have hm:∀k,k<u.heap.size->(ig va=some k->ig S.va=some k):=fun k hk e=>by
  rcases hat with c|c
  ·exact c.symm.trans e
  ·rw[c] at e;have:=aQ e;omega
 have hb:∀k,k<I.N->w7.heap[k]?=u.heap[k]?:=fun k hk=>hgx.block k (by have:=h.n;omega) (fun e=>by have:=hN k e;omega);have hq:∀{a:Option Addr} {n:Nat} {q:Nat->Int},jX I S u a n q->jX I {S with va:=va,vc:=vc,vl:=S.vl++[s]} (w7.setCell ⟨I.F,I.fo+4,none⟩ (.slice va (S.vl.length+1) vc)) a n q:=fun r=>r.gx g (fun k e=>by
  rcases e with e|e
  ·exact .inl (e ▸ hi.f)
  ·exact .inr (.inr e)) (fun k hk=>⟨fun e=>e,hm k hk⟩)
 have hF:∀k,I.N<=k->k≠I.F:=fun k hk e=>by have:=hi.f;omega
 refine⟨va,vc,rfl,⟨hi,wO (h.b.block hgx.size (hb _ hi.b)) hi.bf,?_,?_,(h.k.block hgx.size (hb _ hi.k)).other hi.fk.symm,?_,?_,fun p hp=>?_,by have:=hgx.size;have:=h.n;simp;omega⟩,g.mono (fun k e=>?_),fun k hk=>⟨fun e=>e,hm k hk⟩⟩
 ·obtain⟨t,s,h1,h2⟩:=h.c;have hk:(w7.setCell ⟨I.F,I.fo+4,none⟩ (.slice va (S.vl.length+1) vc)).heap[I.C]?=u.heap[I.C]?:=(aK _ _ _ _ hi.cf).trans (hb _ hi.c);exact⟨t,s,h1,by have:=hgx.size;have:=h2.lt;simp;omega,⟨(ak (a:=⟨I.C,0,none⟩) hk).trans h2.c.1,(ak (a:=⟨I.C,1,none⟩) hk).trans h2.c.2.1,(ak (a:=⟨I.C,2,none⟩) hk).trans h2.c.2.2⟩,fun o=>(bD (a:=⟨I.C,o,none⟩) hk).trans (h2.fr o),fun i hi=>absurd hi (aT _)⟩
 ·have:=(h.f.block hgx.size (hb _ hi.f)).VA (v:=.slice va (S.vl.length+1) vc);show wu _ _ (.slice va (S.vl++[s]).length vc) _;rw[aU];exact this
 ·refine q23 ?_ _ fun k e=>hF k (jm h.r ((jg _ _ _).symm.trans e)).1;refine nY h.r fun k e=>?_;have e':=(jg _ _ _).symm.trans e;exact hgx.block k (jm h.r e').2 (fun c=>qP h.r h.v (by decide) e' c)
 ·show World.ownsRow _ _ _ _ (.slice va (S.vl++[s]).length vc) (S.vl++[s]).length (S.vl++[s]);rw[aU];exact q23 ho _ fun k e=>hF k (jm ho ((jg _ _ _).symm.trans e)).1
 ·obtain⟨x1,x2,x3⟩:=h.x p hp;exact⟨hq x1,hq x2,x3⟩
 ·rcases e with e|e
  ·exact .inl ⟨e ▸ hi.f,.inr (.inr (.inl e))⟩
  ·exact .inr (.inr e)
theorem ym0:(Tryz.prog.info? 9).map (fun i=>(i.zero,i.size,i.bytes))=some (some (.string ⟨#[]⟩),1,16):=by kernel_rfl
abbrev Vu(c:Int):Value:=.string (strOfNums [c])
theorem WG(I:jK)(S:jF)(n m:Nat)(u:World)(h:LB I S u)(hg:Gd S n)(hv:S.vl.length=m)(hm:m<=40):Calls Tryz.prog 22 #[ptr I.B] u fun e w'=>e=.returned (.int .i64 (m:Int))/\∃c S',Lx I S u S' w'/\S'.l=S.l/\S'.vl=S.vl++[Vu c]/\S'.sc=S.sc/\Gd S' n:=by
 have HL:Hid (LB I S u/\Gd S n/\S.vl.length=m):=⟨h,hg,hv⟩;clear h hg hv;go_in;go_wp2_with fail;refine(VY I S _ HL.1).mono ?_;rintro e w1 ⟨rfl,eu⟩;have H2:Hid (Lx I S u S w1):=Lx.below HL.1 eu;have f4:=H2.s.f.cell.1;have fz:=H2.s.f.cell.2.2.1;have hfl:=H2.s.f.cell.2.2.2;rw[HL.2.2] at f4;clear eu;obtain⟨i0,gU,gQ,hy1,hy2⟩:=bT ym0;obtain⟨r,c,fG,hr2,fQ,fU⟩:∃r c:Int,(m:Int).tmod 26=r/\IntKind.i64.wrap r=r/\IntKind.i64.wrap (97+r)=c/\IntKind.u8.wrap c=c:=by
  have e:(m:Int).tmod 26=(m:Int)%26:=Int.tmod_eq_emod_of_nonneg (aS _);have hr:0<=(m:Int).tmod 26/\(m:Int).tmod 26<26:=by rw[e];omega
  refine⟨_,_,rfl,?_,rfl,?_⟩
  ·exact Dl (by omega) (by omega)
  ·rw[Dl (by omega) (by omega)];generalize (m:Int).tmod 26=r at hr;unfold IntKind.wrap;simp[IntKind.signed,IntKind.bits];omega
 have hca:=fun w=>(yu3 c w).1;have hcd:=fun w=>(yu3 c w).2;obtain⟨sN,OE⟩:∃sN,strOfNums [c]=sN:=⟨_,rfl⟩;have HsN:Hid (strOfNums [c]=sN):=OE;rw[OE] at hca hcd;clear OE;have HD:Hid (LB I S ((w1.alloc (.cells #[.int .u8 c] 5)).alloc (.cells #[.string sN] 9)).drew):=((H2.s.alloc _).alloc _).drew;obtain⟨v',w7,gq,gB,gY,_,hat⟩:=run_append_own_at (P:=Tryz.prog) ((w1.alloc (.cells #[.int .u8 c] 5)).alloc (.cells #[.string sN] 9)).drew I.N 25 25 9 i0 _ 1 16 Tryz.underlying25 gU gQ hy1 hy2 rfl (by decide) (.slice S.va S.vl.length S.vc) S.vl.length S.vl HD.v ⟨w1.heap.size+1,0,none⟩ 1 1 [.string sN] rfl (fun j v e=>by
  have hn:=Az (w1.alloc (.cells #[.int .u8 c] 5)) #[.string sN] 9 j v e;rw[aN] at hn;exact hn) (by simp[Value.oneCell']) (by have:=HL.2.2;unfold maxLen;omega) (by have:=HL.2.2;omega) (by have:=HD.n;exact this)
 obtain⟨va,vc,rfl,hpush⟩:=HD.Oc gB gY hat;have HN:Hid (Lx I S u {S with va:=va,vc:=vc,vl:=S.vl++[.string sN]} (w7.setCell ⟨I.F,I.fo+4,none⟩ (.slice va (m+1) vc))):=by
  have:=(H2.trans (Lx.below H2.s ((kF _ _ _).drew))).trans hpush;rw[HL.2.2] at this;exact this
 have hnF:ig S.va≠some I.F:=fun e=>by have h1:=(jm HD.v e).1;have h2:=HD.i.f;omega
 rw[jg] at gY;have f7:w7.cell? ⟨I.F,I.fo+4,none⟩=some (.slice S.va m S.vc):=by
  have hx:=(ak (a:=⟨I.F,I.fo+4,none⟩) (gY.block I.F (by simp;omega) (fun e=>hnF e.symm))).trans HD.f.cell.1;rw[HL.2.2] at hx;exact hx
 have f7z:∀o,w7.frozen? ⟨I.F,o,none⟩=false:=fun o=>(bD (a:=⟨I.F,o,none⟩) (gY.block I.F (by simp;omega) (fun e=>hnF e.symm))).trans (HD.f.cell.2.2.1 o);have hF7:I.F<w7.heap.size:=by have h1:=gY.size;simp at h1;omega
 rw[HL.2.2] at gq;clear gB gY hat hpush HD H2 gU gQ hy1 hy2 hnF;obtain⟨ta,hta⟩:∃ta,ta=S.va:=⟨_,rfl⟩;obtain⟨Vr,OB⟩:∃Vr,Vr=S.vc:=⟨_,rfl⟩;rw[<-hta,<-OB] at gq f4 f7;clear hta OB
 go_upto_region 2 with fail
 go_region_law (first
  |(refine xU (by rfl) _ _ _ _ (by rfl) (.slice ta m Vr) (.slice (some ⟨w1.heap.size+1,0,none⟩) 1 1) _ _ (by rfl) (by rfl) gq ?_))
 all_goals
  have f8:(w7.setCell ⟨I.F,I.fo+4,none⟩ (.slice va (m+1) vc)).cell? ⟨I.F,I.fo+4,none⟩=some (.slice va (m+1) vc):=by
   have:=HN.s.f.cell.1;simpa[HL.2.2] using this
  generalize w7.setCell ⟨I.F,I.fo+4,none⟩ (.slice va (m+1) vc)=w8 at *;clear gq f7 f7z hF7;go_wp2_with fail;go_ret;have g:=HL.2.1;refine⟨?_,c,_,HN.out,rfl,by show S.vl++[Value.string sN]=S.vl++[Value.string (strOfNums [c])];rw[HsN.out],rfl,⟨g.l,g.f1,g.f2,g.A,g.n1,g.n2⟩⟩
  first
  |rfl
  |decide
theorem LB.scope{I:jK}{S:jF}{u:World}(h:LB I S u)(z:Value):Lx I S u {S with sc:=z} (u.setCell ⟨I.K,I.ko+1,none⟩ z):=by
 have hi:=h.i;have hB:∀k,I.N<=k->k≠I.K:=fun k hk e=>by have:=hi.k;omega
 have g:Gx (fun k=>k=I.K) u (u.setCell ⟨I.K,I.ko+1,none⟩ z):=Gx.set u I.K (I.ko+1) _;refine⟨⟨hi,wO h.b hi.bk,?_,h.f.other hi.fk,h.k.scp,q23 h.r _ fun k e=>hB k (jm h.r ((jg _ _ _).symm.trans e)).1,q23 h.v _ fun k e=>hB k (jm h.v ((jg _ _ _).symm.trans e)).1,fun p hp=>?_,by simpa using h.n⟩,g.mono (fun k e=>.inl (by subst e;exact⟨hi.k,.inr (.inr (.inr rfl))⟩)),fun _ _=>⟨fun e=>e,fun e=>e⟩⟩
 ·obtain⟨t,s,h1,h2⟩:=h.c;have hk:(u.setCell ⟨I.K,I.ko+1,none⟩ z).heap[I.C]?=u.heap[I.C]?:=aK _ _ _ _ hi.ck;exact⟨t,s,h1,by simpa using h2.lt,⟨(ak (a:=⟨I.C,0,none⟩) hk).trans h2.c.1,(ak (a:=⟨I.C,1,none⟩) hk).trans h2.c.2.1,(ak (a:=⟨I.C,2,none⟩) hk).trans h2.c.2.2⟩,fun o=>(bD (a:=⟨I.C,o,none⟩) hk).trans (h2.fr o),fun i hi=>absurd hi (aT _)⟩
 ·obtain⟨x1,x2,x3⟩:=h.x p hp;have hq:∀{a:Option Addr} {n:Nat} {q:Nat->Int},jX I S u a n q->jX I {S with sc:=z} (u.setCell ⟨I.K,I.ko+1,none⟩ z) a n q:=fun r=>r.gx g (fun k e=>.inl (by subst e;exact hi.k)) (fun _ _=>⟨fun e=>e,fun e=>e⟩);exact⟨hq x1,hq x2,x3⟩
structure pG(r:IL)(zs:List Int):Prop where
 n:r.n=zs.length
 q:∀(j:Nat) (z:Int),zs[j]?=some z->r.q j=z
 c:r.n<=r.c
theorem tH:pG jB []:=⟨rfl,fun j z e=>by simp at e,ah _⟩
theorem MG(a:Option Addr)(z:Int):pG ⟨a,1,1,fun _=>z⟩ [z]:=⟨rfl,fun j y e=>by
 rcases j with _|j
 ·simp at e;exact e
 ·simp at e,ah _⟩
theorem IV{I:jK}{S:jF}{u:World}(h:LB I S u)(x y:Int)(t:TypeId):jX I S (u.alloc (.cells #[.int .i64 x,.int .i64 y] t)) (some ⟨u.heap.size,0,none⟩) 2 (fun j=>if j=0 then x else y):=by
 refine⟨fun _=>⟨u.heap.size,0,rfl,aF _,by simp,fun i hi j hj=>?_⟩,fun b e=>?_⟩
 ·obtain rfl:j=0:=by omega
  rcases(show i=0\/i=1 by omega) with rfl|rfl
  ·exact(Has.new u #[.int .i64 x,.int .i64 y] t).2 0
  ·exact(Has.new u #[.int .i64 x,.int .i64 y] t).2 1
 ·cases e;exact⟨h.n,by simp,fun e=>dF _ (jm h.r e).2,fun e=>dF _ (jm h.v e).2⟩
theorem Iz(a:Option Addr)(x y:Int):pG ⟨a,2,2,fun j=>if j=0 then x else y⟩ [x,y]:=⟨rfl,fun j z e=>by
 rcases j with _|_|j
 ·simp at e;exact e
 ·simp at e;exact e
 ·simp at e,ah _⟩
structure uH(I:jK)(S:jF)(a:Option Addr)(n c:Nat)(xs:List Value)(u:World):Prop where
 r:u.ownsRow I.N 3 1 (.slice a n c) n xs
 p:∀p,p∈S.l->(∀b,p.2.ra=some b->ig a≠some b.block)/\∀b,p.2.ka=some b->ig a≠some b.block
section
variable {I:jK}{S S':jF}{a b:Option Addr}{n c m k:Nat}{xs ys:List Value}{u u':World}
theorem uH.call(h:uH I S a n c xs u)(hb:gZ u u'):uH I S a n c xs u':=⟨q35 h.r hb,h.p⟩
theorem uH.lx(h:uH I S a n c xs u)(hs:LB I S u)(k:Lx I S u S' u'){ps:List (ND×NA)}(hl:S'.l=S.l++ps)(hp:∀p,p∈ps->(∀b,p.2.ra=some b->ig a≠some b.block)/\∀b,p.2.ka=some b->ig a≠some b.block):uH I S' a n c xs u':=by
 refine⟨nY h.r fun q e=>?_,fun p hp'=>?_⟩
 ·have e':=(jg _ _ _).symm.trans e;have hge:=jm h.r e';exact k.g.block q hge.2 (fun t=>by
   rcases t with t|t|t
   ·omega
   ·exact qP h.r hs.r (by decide) e' t
   ·exact qP h.r hs.v (by decide) e' t)
 ·rw[hl] at hp';rcases dD.1 hp' with q|q
  ·exact h.p p q
  ·exact hp p q
theorem uH.same(h:uH I S a n c xs u)(hs:LB I S u)(k:Lx I S u S' u')(hl:S'.l=S.l):uH I S' a n c xs u':=h.lx hs k (ps:=[]) (by rw[hl,bM]) (fun p hp=>absurd hp (by simp))
theorem LB.beside(h:LB I S u)(r:uH I S a n c xs u)(g:Gx (fun k=>ig a=some k) u u'):LB I S u':=by
 have hN:∀k,ig a=some k->I.N<=k:=fun k e=>(jm r.r e).1;have hi:=h.i;have hb:∀k,k<I.N->u'.heap[k]?=u.heap[k]?:=fun k hk=>g.block k (by have:=h.n;omega) (fun e=>by have:=hN k e;omega);have hq:∀{x:Option Addr} {n:Nat} {q:Nat->Int},jX I S u x n q->(∀b,x=some b->ig a≠some b.block)->jX I S u' x n q:=fun hr hx=>⟨g.row hr.1 hx,fun b e=>⟨(hr.2 b e).1,aH (hr.2 b e).2.1 g.size,(hr.2 b e).2.2⟩⟩;refine⟨hi,h.b.block g.size (hb _ hi.b),j13 h.c g (fun e=>by have:=hN _ e;have:=hi.c;omega),h.f.block g.size (hb _ hi.f),h.k.block g.size (hb _ hi.k),nY h.r fun q e=>?_,nY h.v fun q e=>?_,fun p hp=>?_,aV h.n g.size⟩
 ·have e':=(jg _ _ _).symm.trans e;exact g.block q (jm h.r e').2 (fun t=>qP h.r r.r (by decide) e' t)
 ·have e':=(jg _ _ _).symm.trans e;exact g.block q (jm h.v e').2 (fun t=>qP h.v r.r (by decide) e' t)
 ·obtain⟨x1,x2,x3⟩:=h.x p hp;exact⟨hq x1 (r.p p hp).1,hq x2 (r.p p hp).2,x3⟩
theorem uH.beside(h:uH I S b m k ys u)(g:Gx (fun k=>ig a=some k) u u')(hab:∀k,ig b=some k->ig a≠some k):uH I S b m k ys u':=⟨nY h.r fun q e=>by
 have e':=(jg _ _ _).symm.trans e;exact g.block q (jm h.r e').2 (hab q e'),h.p⟩
theorem uH.app(h:LB I S u)(r:uH I S a n c xs u)(z:Int)(hn:n<=1000):∃a' c' w',(Builtin.append_ #[45,45] 45 #[.slice a n c,.slice (some ⟨u.heap.size,0,none⟩) 1 1]).run Tryz.prog (u.alloc (.cells #[.int .i64 z] 3))=.ok (.slice a' (n+1) c') w'/\LB I S w'/\uH I S a' (n+1) c' (xs++[.int .i64 z]) w'/\Gx (fun k=>ig a=some k) u w'/\(∀k,ig a'=some k->ig a=some k\/u.heap.size<=k)/\n+1<=c':=by
 obtain⟨i0,gU,gQ,hy1,hy2⟩:=bT QI;obtain⟨v',w7,gq,gB,gY,_,hat⟩:=run_append_own_at (P:=Tryz.prog) (u.alloc (.cells #[.int .i64 z] 3)) I.N 45 45 3 i0 _ 1 8 Tryz.underlying45 gU gQ hy1 hy2 rfl (by decide) (.slice a n c) n xs (q35 r.r (q01 _ _)) ⟨u.heap.size,0,none⟩ 1 1 [.int .i64 z] rfl (cell_one_new _ _ _) (by simp[Value.oneCell']) (by unfold maxLen;omega) (by omega) (by have:=h.n;simp;omega);have gy:∃a' c',v'=.slice a' (n+1) c'/\n+1<=c':=by
  rcases gB.2 with⟨_,e⟩|⟨g,c,cur,e,_,_,hc,_⟩
  ·omega
  ·exact⟨_,_,e,hc⟩
 obtain⟨a',c',rfl,hc'⟩:=gy;rw[jg] at gY;rw[jg,jg] at hat;have g:Gx (fun k=>ig a=some k) (u.alloc (.cells #[.int .i64 z] 3)) w7:=Gx.grown gY;have hmv:∀k,ig a'=some k->ig a=some k\/u.heap.size<=k:=fun k e=>by
  rcases hat with q|q
  ·exact .inl (q.symm.trans e)
  ·rw[q] at e;have:=aQ e;simp at this;omega
 refine⟨a',c',w7,gq,(h.alloc _).beside (r.call (q01 _ _)) g,⟨gB,fun p hp=>?_⟩,(Gx.below (fun k=>ig a=some k) (q01 _ _)).trans g (fun _ _ e=>e),hmv,hc'⟩;obtain⟨x1,x2,_⟩:=h.x p hp;refine⟨fun b e c=>?_,fun b e c=>?_⟩
 ·rcases hmv _ c with q|q
  ·exact(r.p p hp).1 b e q
  ·have:=(x1.2 b e).2.1;omega
 ·rcases hmv _ c with q|q
  ·exact(r.p p hp).2 b e q
  ·have:=(x2.2 b e).2.1;omega
end
theorem Lx.base{I:jK}{S S':jF}{u u':World}(h:LB I S u)(k:Lx I S u S' u'){N0:Nat}{w0:World}(hb:Below N0 w0 u)(hN:N0<=I.N/\N0<=I.B/\N0<=I.C/\N0<=I.F/\N0<=I.K)(h0:N0<=u.heap.size):Below N0 w0 u':=hb.trans (k.g.to h0 (fun q e=>by
 rcases e with e|e|e
 ·omega
 ·have:=(jm h.r e).1;omega
 ·have:=(jm h.v e).1;omega))
structure WB(T:Nat->sZ)(N0:Nat)(w0:World)(I:jK)(S:jF)(sa:Option Addr)(sn sx:Nat)(ss:List Value)(oa:Option Addr)(on ox:Nat)(os:List Value)(w:World):Prop where
 lb:LB I S w
 gd:Gd S S.l.length
 bl:Below N0 w0 w
 nN:N0<=I.N/\N0<=I.B/\N0<=I.C/\N0<=I.F/\N0<=I.K
 sc:S.sc=.slice sa sn sx
 s:uH I S sa sn sx ss w
 o:uH I S oa on ox os w
 ap:∀k,ig sa=some k->ig oa≠some k
 nd:∀a p,S.l[a]?=some p->l9 p.1 (T a)
 vl:∀x,x∈S.vl->∃c,x=Vu c
section
variable {T:Nat->sZ}{N0:Nat}{w0:World}{I:jK}{S S':jF}{sa oa:Option Addr}{sn sx on ox:Nat}{ss os:List Value}{w w':World}
theorem WB.call(h:WB T N0 w0 I S sa sn sx ss oa on ox os w)(hb:gZ w w'):WB T N0 w0 I S sa sn sx ss oa on ox os w':=⟨h.lb.call hb,h.gd,h.bl.trans (hb.mono (by have:=h.lb.n;have:=h.nN.1;omega)),h.nN,h.sc,h.s.call hb,h.o.call hb,h.ap,h.nd,h.vl⟩
theorem WB.alloc(h:WB T N0 w0 I S sa sn sx ss oa on ox os w)(o:Obj):WB T N0 w0 I S sa sn sx ss oa on ox os (w.alloc o):=h.call (q01 _ _)
theorem WB.node(h:WB T N0 w0 I S sa sn sx ss oa on ox os w){d:ND}{x:NA}(ha:Ad I S w d x S' w')(hg:Gd S' (S.l.length+1))(hd:l9 d (T S.l.length))(hr:∀b,x.ra=some b->ig sa≠some b.block/\ig oa≠some b.block)(hk:∀b,x.ka=some b->ig sa≠some b.block/\ig oa≠some b.block):WB T N0 w0 I S' sa sn sx ss oa on ox os w'/\S'.l.length=S.l.length+1/\S'.vl=S.vl:=by
 have hl:S'.l.length=S.l.length+1:=by rw[ha.l];simp
 refine⟨⟨ha.lx.s,by rw[hl];exact hg,ha.lx.base h.lb h.bl h.nN (by have:=h.lb.n;have:=h.nN.1;omega),h.nN,ha.sc.trans h.sc,h.s.lx h.lb ha.lx ha.l (fun p hp=>?_),h.o.lx h.lb ha.lx ha.l (fun p hp=>?_),h.ap,fun a p e=>?_,by rw[ha.va.2.2];exact h.vl⟩,hl,ha.va.2.2⟩
 ·obtain rfl:p=(d,x):=by simpa using hp
  exact⟨fun b e=>(hr b e).1,fun b e=>(hk b e).1⟩
 ·obtain rfl:p=(d,x):=by simpa using hp
  exact⟨fun b e=>(hr b e).2,fun b e=>(hk b e).2⟩
 ·rw[ha.l] at e;by_cases c:a<S.l.length
  ·rw[bZ c] at e;exact h.nd a p e
  ·have gK:=(aP.1 e).1;simp at gK;obtain rfl:a=S.l.length:=by omega
   simp at e;rw[<-e];exact hd
theorem WB.new(h:WB T N0 w0 I S sa sn sx ss oa on ox os w){k:Nat}(hk:w.heap.size<=k):ig sa≠some k/\ig oa≠some k:=⟨fun e=>by have:=(jm h.s.r e).2;omega,fun e=>by have:=(jm h.o.r e).2;omega⟩
theorem WB.var(h:WB T N0 w0 I S sa sn sx ss oa on ox os w){c:Int}{n:Nat}(hx:Lx I S w S' w')(hl:S'.l=S.l)(hv:S'.vl=S.vl++[Vu c])(hc:S'.sc=S.sc)(hg:Gd S' n)(hn:n=S.l.length):WB T N0 w0 I S' sa sn sx ss oa on ox os w':=by
 subst hn;refine⟨hx.s,by rw[hl];exact hg,hx.base h.lb h.bl h.nN (by have:=h.lb.n;have:=h.nN.1;omega),h.nN,hc.trans h.sc,h.s.same h.lb hx hl,h.o.same h.lb hx hl,h.ap,by rw[hl];exact h.nd,fun x hx'=>?_⟩;rw[hv] at hx';rcases dD.1 hx' with q|q
 ·exact h.vl x q
 ·exact⟨c,by simpa using q⟩
theorem WB.out(h:WB T N0 w0 I S sa sn sx ss oa on ox os w)(z:Int)(hn:on<=1000):∃a' c' w',(Builtin.append_ #[45,45] 45 #[.slice oa on ox,.slice (some ⟨w.heap.size,0,none⟩) 1 1]).run Tryz.prog (w.alloc (.cells #[.int .i64 z] 3))=.ok (.slice a' (on+1) c') w'/\WB T N0 w0 I S sa sn sx ss a' (on+1) c' (os++[.int .i64 z]) w'/\on+1<=c':=by
 obtain⟨a',c',w',h1,h2,h3,h4,h5,h6⟩:=uH.app h.lb h.o z hn;refine⟨a',c',w',h1,⟨h2,h.gd,h.bl.trans (h4.to (by have:=h.lb.n;have:=h.nN.1;omega) (fun k e=>by have:=(jm h.o.r e).1;have:=h.nN.1;omega)),h.nN,h.sc,h.s.beside h4 h.ap,h3,fun k e=>?_,h.nd,h.vl⟩,h6⟩;intro e';rcases h5 k e' with q|q
 ·exact h.ap k e q
 ·have:=(jm h.s.r e).2;omega
end
theorem Tm{r:IL}{rs:List Nat}(h:pG r (rs.map fun t:Nat=>(t:Int))):r.n=rs.length/\∀j z:Nat,rs[j]?=some z->r.q j=(z:Int):=⟨by rw[h.n,dK],fun j z e=>h.q j z (by rw[dW,e];rfl)⟩
theorem xQ{k l z:Int}{r c:IL}{rs cs:List Nat}(hr:pG r (rs.map fun t:Nat=>(t:Int)))(hc:pG c (cs.map fun t:Nat=>(t:Int)))(h1:k<20->1<=l/\l<=1000)(h2:20<=k->l=0):l9 (oG k l z r c) (jO k z rs cs):=
 ⟨rfl,rfl,rfl,rfl,rfl,(Tm hr).1,(Tm hr).2,(Tm hc).1,(Tm hc).2,fun h=>⟨(h1 h).1,by have:=(h1 h).2;show l<=100000;omega⟩,h2⟩
def Ci(T:Nat->sZ)(N0:Nat)(w0:World)(I:jK)(S:jF)(sa:Option Addr)(sn sx:Nat)(ss:List Value)(oa:Option Addr)(on ox:Nat)(os:List Value)(j:Nat)(e:Ending)(w':World):Prop:=∃S':jF,e=.returned (.int .i64 (((S.l.length+j:Nat)):Int))/\WB T N0 w0 I S' sa sn sx ss oa on ox os w'/\S'.l.length=S.l.length+j + 1/\S'.vl=S.vl
section
variable {T:Nat->sZ}{N0:Nat}{w0:World}{I:jK}{S S':jF}{sa oa:Option Addr}{sn sx on ox:Nat}{ss os:List Value}{w w' u:World}
theorem WB.EU(h:WB T N0 w0 I S sa sn sx ss oa on ox os w){d:ND}{x:NA}{e:Ending}(k:Aj I S w d x S.l.length e w')(hd:l9 d (T S.l.length))(hr:∀b,x.ra=some b->ig sa≠some b.block/\ig oa≠some b.block)(hk:∀b,x.ka=some b->ig sa≠some b.block/\ig oa≠some b.block):Ci T N0 w0 I S sa sn sx ss oa on ox os 0 e w':=by
 obtain⟨rfl,S',ha,hg⟩:=k;obtain⟨h1,h2,h3⟩:=h.node ha hg hd hr hk;exact⟨S',rfl,h1,h2,h3⟩
theorem su{P:Addr->Prop}:∀b,(none:Option Addr)=some b->P b:=fun b e=>by cases e
theorem WB.num(h:WB T N0 w0 I S sa sn sx ss oa on ox os w)(z:Int)(hl:S.l.length<=400)(hT:T S.l.length=jO 23 z [] []):Calls Tryz.prog 19 #[ptr I.B,.int .i64 z] w fun e w'=>Ci T N0 w0 I S sa sn sx ss oa on ox os 0 e w':=
 (zo1 I S z _ w h.lb h.gd (by omega)).mono fun _ _ k=>h.EU k (by rw[hT];exact xQ tH tH (fun c=>absurd c (by decide)) (fun _=>rfl)) su su
theorem WB.variable(h:WB T N0 w0 I S sa sn sx ss oa on ox os w)(v:Nat)(hl:S.l.length<=400)(hT:T S.l.length=jO 26 0 [v] []):Calls Tryz.prog 17 #[ptr I.B,.int .i64 (v:Int)] w fun e w'=>Ci T N0 w0 I S sa sn sx ss oa on ox os 0 e w':=
 (qr7 I S (v:Int) _ w h.lb h.gd (by omega)).mono fun _ _ k=>h.EU k (by rw[hT];exact xQ (MG _ _) tH (fun c=>absurd c (by decide)) (fun _=>rfl)) (fun b e=>by cases e;exact h.new (ah _)) su
theorem WB.kids(h:WB T N0 w0 I S sa sn sx ss oa on ox os w)(k:Int)(c:IL)(cs:List Nat)(hl:S.l.length<=400)(hk:20<=k)(hT:T S.l.length=jO k 0 [] cs)(hc:jX I S w c.a c.n c.q)(hi:pG c (cs.map fun t:Nat=>(t:Int)))(hn:∀b,c.a=some b->ig sa≠some b.block/\ig oa≠some b.block):Calls Tryz.prog 18 #[ptr I.B,.int .i64 k,Dt c] w fun e w'=>Ci T N0 w0 I S sa sn sx ss oa on ox os 0 e w':=
 (qq5 I S k c _ w h.lb h.gd (by omega) hc hi.c).mono fun _ _ q=>h.EU q (by rw[hT];exact xQ tH hi (fun c=>by omega) (fun _=>rfl)) su hn
theorem WB.calls(h:WB T N0 w0 I S sa sn sx ss oa on ox os w)(c:IL)(cs:List Nat)(hl:S.l.length<=400)(hT:T S.l.length=jO 34 0 [] cs)(hc:jX I S w c.a c.n c.q)(hi:pG c (cs.map fun t:Nat=>(t:Int)))(hn:∀b,c.a=some b->ig sa≠some b.block/\ig oa≠some b.block):Calls Tryz.prog 15 #[ptr I.B,Dt c] w fun e w'=>Ci T N0 w0 I S sa sn sx ss oa on ox os 0 e w':=
 (qq6 I S c _ w h.lb h.gd (by omega) hc hi.c).mono fun _ _ q=>h.EU q (by rw[hT];exact xQ tH hi (fun c=>absurd c (by decide)) (fun _=>rfl)) su hn
theorem WB.put(h:WB T N0 w0 I S sa sn sx ss oa on ox os w)(d:ND)(x:NA)(hl:S.l.length<=400)(hd:l9 d (T S.l.length))(hr:jX I S w x.ra d.rn d.r)(hk:jX I S w x.ka d.kn d.c)(hc:d.kn<=x.kc)(hr':∀b,x.ra=some b->ig sa≠some b.block/\ig oa≠some b.block)(hk':∀b,x.ka=some b->ig sa≠some b.block/\ig oa≠some b.block):Calls Tryz.prog 13 #[ptr I.B,jP d x] w fun e w'=>Ci T N0 w0 I S sa sn sx ss oa on ox os 0 e w':=
 (IU I S d x _ w h.lb h.gd (by omega) hr hk hc).mono fun _ _ q=>h.EU q hd hr' hk'
theorem WB.stat(h:WB T N0 w0 I S sa sn sx ss oa on ox os w)(k:Int)(r c:IL)(rs cs:List Nat)(hl:S.l.length<=400)(hk:k<20)(hT:T S.l.length=jO k 0 rs cs)(hr:jX I S w r.a r.n r.q)(hc:jX I S w c.a c.n c.q)(hir:pG r (rs.map fun t:Nat=>(t:Int)))(hi:pG c (cs.map fun t:Nat=>(t:Int)))(hr':∀b,r.a=some b->ig sa≠some b.block/\ig oa≠some b.block)(hn:∀b,c.a=some b->ig sa≠some b.block/\ig oa≠some b.block):Calls Tryz.prog 23 #[ptr I.B,.int .i64 k,Dt r,Dt c] w fun e w'=>Ci T N0 w0 I S sa sn sx ss oa on ox os 0 e w':=
 (WA I S k r c _ w h.lb h.gd (by omega) hr hc hi.c).mono fun e w' ⟨e1,l,S',h1,h2,ha,hg⟩=>h.EU ⟨e1,S',ha,hg⟩ (by rw[hT];exact xQ hir hi (fun _=>⟨h1,h2⟩) (fun c=>by omega)) hr' hn
theorem WB.nodes(h:WB T N0 w0 I S sa sn sx ss oa on ox os w){ps:List (ND×NA)}(hx:Lx I S w S' w')(hl:S'.l=S.l++ps)(hv:S'.vl=S.vl)(hs:S'.sc=S.sc)(hg:Gd S' (S.l.length+ps.length))(hp:∀j p,ps[j]?=some p->l9 p.1 (T (S.l.length+j))/\(∀b,p.2.ra=some b->ig sa≠some b.block/\ig oa≠some b.block)/\∀b,p.2.ka=some b->ig sa≠some b.block/\ig oa≠some b.block):WB T N0 w0 I S' sa sn sx ss oa on ox os w'/\S'.l.length=S.l.length+ps.length:=by
 have gG:S'.l.length=S.l.length+ps.length:=by rw[hl];simp
 have hm:∀p,p∈ps->∃j:Nat,ps[j]?=some p:=fun p hp=>by
  obtain⟨j,hj,e⟩:=List.getElem_of_mem hp;exact⟨j,by rw[bg hj,e]⟩
 refine⟨⟨hx.s,by rw[gG];exact hg,hx.base h.lb h.bl h.nN (by have:=h.lb.n;have:=h.nN.1;omega),h.nN,hs.trans h.sc,h.s.lx h.lb hx hl (fun p hp'=>?_),h.o.lx h.lb hx hl (fun p hp'=>?_),h.ap,fun a p e=>?_,by rw[hv];exact h.vl⟩,gG⟩
 ·obtain⟨j,e⟩:=hm p hp';exact⟨fun b q=>((hp j p e).2.1 b q).1,fun b q=>((hp j p e).2.2 b q).1⟩
 ·obtain⟨j,e⟩:=hm p hp';exact⟨fun b q=>((hp j p e).2.1 b q).2,fun b q=>((hp j p e).2.2 b q).2⟩
 ·rw[hl] at e;by_cases c:a<S.l.length
  ·rw[bZ c] at e;exact h.nd a p e
  ·rw[dA (by omega)] at e;have:=(hp _ p e).1;rw[show S.l.length+(a-S.l.length)=a by omega] at this;exact this
theorem WB.print(h:WB T N0 w0 I S sa sn sx ss oa on ox os w)(kb kc x:Nat)(hl:S.l.length<=400)(hT0:T S.l.length=jO 28 0 [] [])(hT1:T (S.l.length+1)=jO 34 0 [] [S.l.length,x])(hT2:T (S.l.length+2)=jO 4 0 [] [S.l.length+1])(hc:jX I S w (some ⟨kb,0,none⟩) 1 (fun _=>(x:Int))):Calls Tryz.prog 21 #[ptr I.B,.slice (some ⟨kb,0,none⟩) 1 kc] w fun e w'=>Ci T N0 w0 I S sa sn sx ss oa on ox os 2 e w':=by
 refine(za4 I S kb 1 kc (fun _=>(x:Int)) _ w h.lb h.gd (by omega) (by omega) (by omega) hc).mono ?_;rintro e w' ⟨rfl,l,r2,r3,S',hp⟩;have h2:pG r2 (([S.l.length,x]:List Nat).map fun t:Nat=>(t:Int)):=⟨hp.r2n,fun j z e=>by
  rw[hp.r2q];rcases j with _|_|j
  ·simpa[D7] using e
  ·simpa[D7] using e
  ·simp at e,by rw[hp.r2n];exact hp.r2c⟩
 have h3:pG r3 (([S.l.length+1]:List Nat).map fun t:Nat=>(t:Int)):=⟨hp.r3n,fun j z e=>by
  rw[hp.r3q];rcases j with _|j
  ·simpa using e
  ·simp at e,by rw[hp.r3n];exact hp.r3c⟩
 have hb:∀{a:Option Addr},(∀b,a=some b->w.heap.size<=b.block)->∀b,a=some b->ig sa≠some b.block/\ig oa≠some b.block:=fun hh b e=>h.new (hh b e);obtain⟨q1,q2⟩:=h.nodes hp.lx hp.ll hp.va hp.sc hp.g (fun j p e=>by
  rcases j with _|_|_|j
  ·obtain rfl:_=p:=by simpa using e
   rw[Nat.add_zero,hT0];exact⟨xQ tH tH (fun c=>absurd c (by decide)) (fun _=>rfl),su,su⟩
  ·obtain rfl:_=p:=by simpa using e
   rw[hT1];exact⟨xQ tH h2 (fun c=>absurd c (by decide)) (fun _=>rfl),su,hb hp.r2b⟩
  ·obtain rfl:_=p:=by simpa using e
   rw[hT2];exact⟨xQ tH h3 (fun _=>⟨hp.l1,hp.l2⟩) (fun c=>absurd c (by decide)),su,hb hp.r3b⟩
  ·simp at e)
 exact⟨S',by congr 2,q1,q2,hp.va⟩
end
theorem qr8(I:jK)(S:jF)(z:Int)(n:Nat)(u:World)(h:LB I S u)(hg:Gd S n)(hn:n<=450):Calls Tryz.prog 14 #[ptr I.B,.int .i64 z] u fun e w'=>Aj I S u (oG 28 0 z jB jB) (oC jB jB) n e w':=by
 have HN:Hid _:=IU I S (oG 28 0 z jB jB) (oC jB jB) n u h hg hn (mD _ _ _) (mD _ _ _) (ah _);go_in;go_wp2_with fail;refine dV HN ?_;rintro e w1 ⟨rfl,hx⟩;have HX:Hid _:=hx;go_wp2_with fail;go_ret;exact⟨rfl,HX⟩
abbrev ndS(s:ByteArray):ND:=⟨25,0,0,0,0,s,0,fun _=>0,0,fun _=>0⟩
theorem zo0(I:jK)(S:jF)(s:ByteArray)(n:Nat)(u:World)(h:LB I S u)(hg:Gd S n)(hn:n<=450):Calls Tryz.prog 12 #[ptr I.B,.string s] u fun e w'=>Aj I S u (ndS s) (oC jB jB) n e w':=by
 have HN:Hid _:=IU I S (ndS s) (oC jB jB) n u h hg hn (mD _ _ _) (mD _ _ _) (ah _);go_in;go_wp2_with fail;refine dV HN ?_;rintro e w1 ⟨rfl,hx⟩;have HX:Hid _:=hx;go_wp2_with fail;go_ret;exact⟨rfl,HX⟩
section
variable {T:Nat->sZ}{N0:Nat}{w0:World}{I:jK}{S S':jF}{sa oa:Option Addr}{sn sx on ox:Nat}{ss os:List Value}{w w' u:World}
theorem WB.builtin(h:WB T N0 w0 I S sa sn sx ss oa on ox os w)(z:Int)(hl:S.l.length<=400)(hT:T S.l.length=jO 28 z [] []):Calls Tryz.prog 14 #[ptr I.B,.int .i64 z] w fun e w'=>Ci T N0 w0 I S sa sn sx ss oa on ox os 0 e w':=
 (qr8 I S z _ w h.lb h.gd (by omega)).mono fun _ _ k=>h.EU k (by rw[hT];exact xQ tH tH (fun c=>absurd c (by decide)) (fun _=>rfl)) su su
theorem WB.str(h:WB T N0 w0 I S sa sn sx ss oa on ox os w)(s:ByteArray)(hl:S.l.length<=400)(hT:T S.l.length=⟨25,0,s,[],[]⟩):Calls Tryz.prog 12 #[ptr I.B,.string s] w fun e w'=>Ci T N0 w0 I S sa sn sx ss oa on ox os 0 e w':=
 (zo0 I S s _ w h.lb h.gd (by omega)).mono fun _ _ k=>h.EU k (by rw[hT];exact⟨rfl,rfl,rfl,rfl,rfl,rfl,fun j z e=>by simp at e,rfl,fun j z e=>by simp at e,fun c=>absurd c (by simp),fun _=>rfl⟩) su su
theorem WB.ent(h:WB T N0 w0 I S sa sn sx ss oa on ox os w)(z:Int)(hn:sn<=1000):∃a' c' w',(Builtin.append_ #[45,45] 45 #[.slice sa sn sx,.slice (some ⟨w.heap.size,0,none⟩) 1 1]).run Tryz.prog (w.alloc (.cells #[.int .i64 z] 3))=.ok (.slice a' (sn+1) c') w'/\WB T N0 w0 I {S with sc:=.slice a' (sn+1) c'} a' (sn+1) c' (ss++[.int .i64 z]) oa on ox os (w'.setCell ⟨I.K,I.ko+1,none⟩ (.slice a' (sn+1) c'))/\w'.cell? ⟨I.K,I.ko+1,none⟩=some (.slice sa sn sx)/\(∀o,w'.frozen? ⟨I.K,o,none⟩=false)/\I.K<w'.heap.size:=by
 obtain⟨a',c',w',h1,h2,h3,h4,h5,h6⟩:=uH.app h.lb h.s z hn;have hx:=h2.scope (.slice a' (sn+1) c');have ho:=h.o.beside h4 (fun k e c=>h.ap k c e);have hk:=h2.k.cell;have hb:Below N0 w0 w':=h.bl.trans (h4.to (by have:=h.lb.n;have:=h.nN.1;omega) (fun k e=>by have:=(jm h.s.r e).1;have:=h.nN.1;omega));have hN:=h.nN;refine⟨a',c',w',h1,⟨hx.s,⟨h.gd.l,h.gd.f1,h.gd.f2,h.gd.A,h.gd.n1,h.gd.n2⟩,hx.base h2 hb h.nN (by have:=h2.n;omega),h.nN,rfl,h3.same h2 hx rfl,ho.same h2 hx rfl,fun k e c=>?_,h.nd,h.vl⟩,by rw[hk.2.2.2.2,h.sc],hk.2.2.1,hk.2.2.2.1⟩;rcases h5 k e with q|q
 ·exact h.ap k q c
 ·have:=(jm h.o.r c).2;omega
end
theorem WB.enter{T:Nat->sZ}{N0:Nat}{w0:World}{I:jK}{S:jF}{sa oa:Option Addr}{sn sx on ox:Nat}{ss os:List Value}{w:World}(h:WB T N0 w0 I S sa sn sx ss oa on ox os w)(z:Int)(hn:sn<=1000):Calls Tryz.prog 32 #[ptr I.B,.int .i64 z] w fun e w'=>e=.returned (.tuple #[])/\∃S' sa' KT ss',WB T N0 w0 I S' sa' (sn+1) KT ss' oa on ox os w'/\S'.l=S.l/\S'.vl=S.vl:=by
 have HL:Hid (WB T N0 w0 I S sa sn sx ss oa on ox os w):=h;go_in;go_wp2_with fail;refine(NZ I S _ HL.lb).mono ?_;rintro e w1 ⟨rfl,eu⟩;have H1:Hid (WB T N0 w0 I S sa sn sx ss oa on ox os w1):=HL.call eu;go_wp2_with fail;refine(NZ I S _ H1.lb).mono ?_;rintro e w2 ⟨rfl,hb⟩;have H2:Hid (WB T N0 w0 I S sa sn sx ss oa on ox os w2):=H1.call hb;have hk2:w2.cell? ⟨I.K,I.ko+1,none⟩=some (.slice sa sn sx):=by rw[<-H2.sc];exact H2.lb.k.cell.2.2.2.2
 have hkl2:=H2.lb.k.cell.2.2.2.1;obtain⟨a',c',w7,gq,hwb,hk7,a09,a0a⟩:=H2.ent z hn;have H8:Hid _:=hwb;go_wp2_with (at_builtin;refine um (by rfl) _ _ _ _ (by rfl) (.slice sa sn sx) (.slice (some ⟨w2.heap.size,0,none⟩) 1 1) _ _ (by rfl) (by rfl) gq ?_);go_end0;exact⟨rfl,_,_,_,_,H8,rfl,rfl⟩
theorem WB.let{T:Nat->sZ}{N0:Nat}{w0:World}{I:jK}{S:jF}{sa oa:Option Addr}{sn sx on ox:Nat}{ss os:List Value}{w:World}(h:WB T N0 w0 I S sa sn sx ss oa on ox os w)(x m:Nat)(hl:S.l.length<=400)(hm:S.vl.length=m)(hm2:m<=40)(hn:sn<=1000)(hT:T S.l.length=jO 2 0 [m] [x]):Calls Tryz.prog 16 #[ptr I.B,.int .i64 (x:Int)] w fun e w'=>e=.returned (.tuple #[.int .i64 (S.l.length:Int),.int .i64 (m:Int)])/\∃S' sa' KT ss',WB T N0 w0 I S' sa' (sn+1) KT ss' oa on ox os w'/\S'.l.length=S.l.length+1/\S'.vl.length=m+1:=by
 have HL:Hid (WB T N0 w0 I S sa sn sx ss oa on ox os w/\S.vl.length=m/\T S.l.length=jO 2 0 [m] [x]):=⟨h,hm,hT⟩;clear h hm hT;go_in;go_wp2_with fail;refine(WG I S _ m _ HL.1.lb HL.1.gd HL.2.1 hm2).mono ?_;rintro e w1 ⟨rfl,c,S1,hx1,hl1,hv1,hc1,hg1⟩;have H1:Hid (WB T N0 w0 I S1 sa sn sx ss oa on ox os w1/\S1.l=S.l/\S1.vl.length=m+1):=⟨HL.1.var hx1 hl1 hv1 hc1 hg1 rfl,hl1,by rw[hv1,aU,HL.2.1];rfl⟩;clear hx1 hl1 hv1 hc1 hg1;go_wp2_with fail;have hst:=(H1.1.call (kF w1 (.cells #[.int .i64 (m:Int)] 3) (.cells #[.int .i64 (x:Int)] 3))).stat 2 ⟨some ⟨w1.heap.size,0,none⟩,1,1,fun _=>(m:Int)⟩ ⟨some ⟨w1.heap.size+1,0,none⟩,1,1,fun _=>(x:Int)⟩ [m] [x] (by rw[H1.2.1];exact hl) (by decide) (by rw[H1.2.1];exact HL.2.2) ((Gg H1.1.lb (m:Int) _).call (q01 _ _)) (by
  have:=Gg (H1.1.lb.alloc (.cells #[.int .i64 (m:Int)] 3)) (x:Int) 3;rw[aN] at this;exact this) (MG _ _) (MG _ _) (fun b e=>by cases e;exact H1.1.new (ah _)) (fun b e=>by cases e;exact H1.1.new (Nat.le_succ _))
 refine hst.mono ?_;clear hst;rintro e w2 ⟨S2,rfl,fU,hl2,hv2⟩;have H2:Hid (WB T N0 w0 I S2 sa sn sx ss oa on ox os w2/\S2.l.length=S.l.length+1/\S2.vl.length=m+1/\S1.l.length=S.l.length):=⟨fU,by rw[hl2,H1.2.1],by rw[hv2];exact H1.2.2,by rw[H1.2.1]⟩;clear fU hl2 hv2;go_wp2_with fail;refine(H2.1.enter (m:Int) hn).mono ?_;rintro e w3 ⟨rfl,S3,sa',KT,ss',fV,hl3,hv3⟩;have H3:Hid (WB T N0 w0 I S3 sa' (sn+1) KT ss' oa on ox os w3/\S3.l.length=S.l.length+1/\S3.vl.length=m+1):=⟨fV,by rw[hl3];exact H2.2.1,by rw[hv3];exact H2.2.2.1⟩;clear fV hl3 hv3;go_wp2_with fail;exact aG (v:=.tuple #[.int .i64 (S.l.length:Int),.int .i64 (m:Int)]) (by simp[results,Tryz.results16,go_sem,H2.2.2.2]) rfl ⟨rfl,S3,sa',KT,ss',H3.out⟩
end
section
open Go.RowKit
def Om(nm:ByteArray)(ln:Int)(vs:List ByteArray)(l:List (ND×NA)):FD:=⟨nm,ln,0,true,vs.length,fun i=>vs.getD i ⟨#[]⟩,0,fun _=>⟨false,0⟩,l.length,fun i=>(l.getD i nd0).1⟩
def SY(S:jF)(g:Nat)(l:List (ND×NA)):FA:=⟨S.va,S.vc,none,0,some ⟨g,0,none⟩,S.nc,fun i=>(l.getD i nd0).2⟩
theorem RY{α:Type}:∀(l:List α) (i:Nat) (d:α),i<l.length->l.getD i d∈l
 |[],i,d,h=>absurd h (by simp)
 |x :: l,0,d,_=>by simp
 |x :: l,i+1,d,h=>by
  have:=RY l i d (by simpa using h);show l.getD i d∈x :: l;exact List.mem_cons_of_mem _ this
theorem iF.lift{K J:Nat}{w:World}{a:Option Addr}{n:Nat}{q:Nat->Array Value}(h:iF K 0 w a n q)(hJ:∀b,a=some b->J<=b.block):iF K J w a n q:=fun h0=>by
 obtain⟨b,off,e,_,h2⟩:=h h0;exact⟨b,off,e,hJ _ e,h2⟩
theorem LZ.Y7{I:jK}{S:jF}{g J:Nat}{l:List (ND×NA)}{w:World}(h:LZ I S g l w)(nm:ByteArray)(ln:Int){vs:List ByteArray}(hv:S.vl=vs.map .string)(hJ:J<=I.N)(hg:J<=g)(hl:∀p,p∈l->(∀b,p.2.ra=some b->J<=b.block)/\∀b,p.2.ka=some b->J<=b.block):oM J w (Om nm ln vs l) (SY S g l):=by
 refine⟨fun h0=>?_,fun h0=>absurd h0 (aT _),?_,fun i hi=>?_⟩
 ·have hv0:=h.v;rw[hv,dK] at hv0;rcases hv0.2 with⟨_,e⟩|⟨g',c,cur,e,h1,h2,_⟩
  ·replace h0:0<vs.length:=h0;omega
  ·have e1:S.va=some ⟨g',0,none⟩:=by injection e
   refine⟨g',0,e1,by omega,(aA.1 h2).1,fun i hi j hj=>?_⟩;replace hi:i<vs.length:=hi;obtain rfl:j=0:=by omega
   have hc:=hv0.cells (g:=g') (by rw[e1];rfl) i (.string (vs.getD i ⟨#[]⟩)) (by simp[List.getD_eq_getElem?_getD,bg hi]);rw[show 0+i*1+0=i by omega];show w.cell? ⟨g',i,none⟩=some (.string (vs.getD i ⟨#[]⟩))
   cases i<;>simpa[Addr.add] using hc
 ·exact iF.lift h.r (fun b e=>by cases e;exact hg)
 ·have hm:=RY l i nd0 hi;obtain⟨x1,x2,_⟩:=h.x _ hm;exact⟨iF.lift x1 (hl _ hm).1,iF.lift x2 (hl _ hm).2⟩
theorem LZ.Ye{I:jK}{S:jF}{g:Nat}{l:List (ND×NA)}{w:World}(h:LZ I S g l w)(nm:ByteArray)(ln:Int)(vs:List ByteArray):qj (Om nm ln vs l) (SY S g l):=⟨h.cap,fun i hi=>(h.x _ (RY l i nd0 hi)).2.2⟩
section
variable {T:Nat->sZ}{N0:Nat}{w0:World}{I:jK}{S:jF}{sa oa:Option Addr}{sn sx on ox:Nat}{ss os:List Value}{w w1 w2:World}
theorem WB.lined(h:WB T N0 w0 I S sa sn sx ss oa on ox os w){v:Int}(hv1:0<=v)(hv2:v<=2)(hx:Lx I S w (S.lined v) w1)(hb:gZ w1 w2)(k z:Int)(c:IL)(cs:List Nat)(hk:k<20)(hl:S.l.length<=400)(hT:T S.l.length=jO k z [] cs)(hc:jX I (S.lined v) w2 c.a c.n c.q)(hi:pG c (cs.map fun t:Nat=>(t:Int)))(hn:∀b,c.a=some b->w.heap.size<=b.block):Calls Tryz.prog 13 #[ptr I.B,jP (oG k (1+(S.ln+v)) z jB c) (oC jB c)] w2 fun e w'=>Ci T N0 w0 I S sa sn sx ss oa on ox os 0 e w':=by
 have g:=h.gd;have g1:=g.l;have g2:=g.f1;have g3:=g.f2;have g4:=g.A;have g5:=g.n1;have g6:=g.n2;refine(Wy I (S.lined v) (oG k (1+(S.ln+v)) z jB c) (oC jB c) w2 (hx.s.call hb) (mD _ _ _) hc hi.c (by show S.l.length<=1000;omega) (by show 1000<=S.lf;omega) g3).mono ?_;rintro e w' ⟨rfl,na,nc,hy⟩;refine h.EU ⟨rfl,_,⟨(hx.trans (Lx.below hx.s hb)).trans hy,rfl,⟨rfl,rfl,rfl⟩,rfl⟩,⟨?_,?_,?_,?_,?_,?_⟩⟩ (by rw[hT];exact xQ tH hi (fun _=>⟨by omega,by omega⟩) (fun c=>by omega)) su (fun b e=>h.new (hn b e))
 ·show(S.l++[_]).length<=S.l.length+1;simp
 ·show 2000<=S.lf-1+(S.l.length+1:Nat);omega
 ·show S.lf-1<=100000;omega
 ·show S.A+2<=2*(S.l.length+1);omega
 ·show 0<=S.ln+v;omega
 ·show S.ln+v<=2*(S.l.length+1:Nat);omega
theorem WB.start{I:jK}(h:TW w I w1)(hN:N0<=w.heap.size)(hb:Below N0 w0 w):WB T N0 w0 I Gv none 0 0 [] none 0 0 [] w1:=by
 obtain⟨h1,h2,h3,h4,_⟩:=h;have hs:=h2.size;exact⟨h1,⟨by decide,by decide,by decide,by decide,by decide,by decide⟩,hb.trans (h2.mono hN),⟨by omega,by have:=h3 I.B (.inl rfl);omega,by have:=h3 I.C (.inr (.inl rfl));omega,by have:=h3 I.F (.inr (.inr (.inl rfl)));omega,by have:=h3 I.K (.inr (.inr (.inr rfl)));omega⟩,rfl,⟨aX _ _ _ _,fun p hp=>absurd hp (by simp[Gv])⟩,⟨aX _ _ _ _,fun p hp=>absurd hp (by simp[Gv])⟩,(fun k e=>nomatch e),(fun a p e=>by simp[Gv] at e),fun x hx=>absurd hx (by simp[Gv])⟩
theorem WB.J5(h:WB T N0 w0 I S sa sn sx ss none 0 0 [] w)(z:Int):WB T N0 w0 I S sa sn sx ss (some ⟨w.heap.size,0,none⟩) 1 1 [.int .i64 z] (w.alloc (.cells #[.int .i64 z] 3)):=by
 have h1:=h.alloc (.cells #[.int .i64 z] 3);refine⟨h1.lb,h1.gd,h1.bl,h1.nN,h1.sc,h1.s,⟨qv5 h.lb z,fun p hp=>?_⟩,fun k e c=>?_,h1.nd,h1.vl⟩
 ·obtain⟨x1,x2,_⟩:=h.lb.x p hp;refine⟨fun b e c=>?_,fun b e c=>?_⟩
  ·have:=(x1.2 b e).2.1;have:=aQ c;replace this:w.heap.size=b.block:=this;omega
  ·have:=(x2.2 b e).2.1;have:=aQ c;replace this:w.heap.size=b.block:=this;omega
 ·have:=(jm h.s.r e).2;have:=aQ c;replace this:w.heap.size=k:=this;omega
end
def Yu(n kept:Nat)(w:World)(e:Ending)(w':World):Prop:=∃(ub uc:Nat) (fn:Nat->FD) (fas:Nat->FA),e=.returned (.agg #[.slice (some ⟨ub,0,none⟩) 1 uc])/\jh 0 w' 1 fn (some ⟨ub,0,none⟩) fas/\qj (fn 0) (fas 0)/\WF (fn 0) n kept/\gZ w w'
abbrev nV(n kept on:Nat):List Value:=(List.range on).map fun k:Nat=>.int .i64 ((jq n kept k:Nat):Int)
theorem NS(n kept on:Nat):nV n kept (on+1)=nV n kept on++[.int .i64 ((jq n kept on:Nat):Int)]:=by simp[nV,bU]
theorem yy5{T:Nat->sZ}{N0:Nat}{w0:World}{I:jK}{S:jF}{sa oa:Option Addr}{sn sx on ox n kept:Nat}{ss:List Value}{w:World}(h:WB T N0 w0 I S sa sn sx ss oa on ox (nV n kept on) w):jX I S w oa on (fun i=>((jq n kept i:Nat):Int)):=by
 refine⟨fun h0=>?_,fun b e=>?_⟩
 ·rcases h.o.r.2 with⟨_,e⟩|⟨g,c,cur,e,h1,h2,_⟩
  ·omega
  ·cases e;refine⟨g,0,rfl,aF _,(aA.1 h2).1,fun i hi j hj=>?_⟩;obtain rfl:j=0:=by
    have:j<1:=hj;omega
   have:=h.o.r.cells (g:=g) rfl i (.int .i64 ((jq n kept i:Nat):Int)) (by simp[nV,hi]);rw[show 0+i*1+0=i by omega]
   cases i<;>simpa[Addr.add] using this
 ·have hb:ig oa=some b.block:=by rw[e];rfl
  exact⟨(jm h.o.r hb).1,(jm h.o.r hb).2,qP h.o.r h.lb.r (by decide) hb,qP h.o.r h.lb.v (by decide) hb⟩
theorem j77(n kept:Nat)(oa:Option Addr)(on ox:Nat)(hn:on=3+kept+n)(hx:on<=ox):pG ⟨oa,on,ox,fun i=>((jq n kept i:Nat):Int)⟩ (((List.range (3+kept+n)).map (jq n kept)).map fun t:Nat=>(t:Int)):=by
 subst hn;refine⟨by simp,fun j z e=>?_,hx⟩;rw[dW] at e;have hj:j<3+kept+n:=by
  cases c:((List.range (3+kept+n)).map (jq n kept))[j]? with
  |none=>rw[c] at e;cases e
  |some y=>have:=(aP.1 c).1;simpa using this
 rw[IY hj] at e;exact aQ e
theorem y63(c:Int):(strOfNums [c]).size=1:=rfl
theorem j81{n kept:Nat}{w w1 w2 w':World}{I:jK}{S S':jF}{sa oa:Option Addr}{sn sx on ox g:Nat}{ss:List Value}(h4:TW w1 I w2){N0:Nat}{w0:World}(h:WB (jJ n kept) N0 w0 I S sa sn sx ss oa on ox (nV n kept on) w'){v:World}(hon:on=3+kept+n)(hox:on<=ox)(hL:S.l.length=iH n kept+12)(hV:S.vl.length=kept+3)(hz:LZ I S' g (S.l++[(oG 1 1 0 jB ⟨oa,on,ox,fun i=>((jq n kept i:Nat):Int)⟩,oC jB ⟨oa,on,ox,fun i=>((jq n kept i:Nat):Int)⟩)]) v)(hv:S'.vl=S.vl)(hbl:gZ w v):Yu n kept w (.returned (.agg #[.slice (some ⟨I.F,0,none⟩) I.nf I.fc])) v:=by
 obtain⟨_,_,_,_,e1,e2,_,hA0,_⟩:=h4;obtain⟨vs,hvs⟩:∃vs:List ByteArray,vs=S.vl.map fun x=>match x with | .string s=>s|_=>⟨#[]⟩:=⟨_,rfl⟩
 have hmap:S'.vl=vs.map .string:=by
  rw[hv,hvs,List.map_map];refine(List.map_id' _).symm.trans (dU fun x hx=>?_);obtain⟨c,rfl⟩:=h.vl x hx;rfl
 have hsz:∀s,s∈vs->s.size=1:=fun s hs=>by
  rw[hvs] at hs;obtain⟨x,hx,rfl⟩:=List.mem_map.1 hs;obtain⟨c,rfl⟩:=h.vl x hx;exact y63 c
 have hvl:vs.length=kept+3:=by rw[hvs,dK,hV]
 obtain⟨LL,TJ⟩:∃LL,S.l++[((oG 1 1 0 jB ⟨oa,on,ox,fun i=>((jq n kept i:Nat):Int)⟩,oC jB ⟨oa,on,ox,fun i=>((jq n kept i:Nat):Int)⟩):ND×NA)]=LL:=⟨_,rfl⟩;have gG:LL.length=iH n kept+13:=by rw[<-TJ];simp[hL]
 have hnd:∀a,a<LL.length->l9 (LL.getD a nd0).1 (jJ n kept a):=fun a ha=>by
  rw[List.getD_eq_getElem?_getD];by_cases c:a<S.l.length
  ·rw[<-TJ,bZ c,bg c];exact h.nd a _ (bg c)
  ·obtain rfl:a=iH n kept+12:=by omega
   rw[<-TJ,dA (by omega),hL,Nat.sub_self,uP];exact xQ tH (j77 n kept oa on ox hon hox) (fun _=>⟨by decide,by decide⟩) (fun c=>absurd c (by decide))
 have hW:WF (Om ⟨#[109,97,105,110]⟩ 0 vs LL) n kept:=⟨gG,hnd,rfl,rfl,hvl,rfl,by show(⟨#[109,97,105,110]⟩:ByteArray).size<=40;decide,by show(0:Int)<=0;decide,by show(0:Int)<=100000;decide,fun i hi=>by
  have:(vs.getD i ⟨#[]⟩).size=1:=hsz _ (RY vs i _ (by omega));show 1<=(vs.getD i ⟨#[]⟩).size/\(vs.getD i ⟨#[]⟩).size<=40;omega⟩
 rw[TJ] at hz;rw[e1];refine⟨I.F,I.fc,fun _=>Om ⟨#[109,97,105,110]⟩ 0 vs LL,fun _=>SY S' g LL,rfl,?_,hz.Ye _ 0 _,hW,hbl⟩
 ·obtain⟨A,a1,a4,a6,ao⟩:=hz.f;have ef:I.fo=0:=by show I.f*7=0;rw[e2]
  rw[ef] at a4 a6 ao;refine⟨fun _=>⟨I.F,0,rfl,aF _,a1.1.1,fun i hi j hj=>?_⟩,fun i hi=>hz.Y7 (J:=0) _ 0 hmap (aF _) (aF _) (fun p hp=>⟨fun b e=>aF _,fun b e=>aF _⟩)⟩;obtain rfl:i=0:=by omega
  rw[show 0+0*7+j=j by omega,a1.1.2 j];show A[j]?=(qG (Om _ _ _ _) (SY S' g _))[j]?;rcases(show j=0\/j=1\/j=2\/j=3\/j=4\/j=5\/j=6 by omega) with rfl|rfl|rfl|rfl|rfl|rfl|rfl
  ·exact(ao 0 (by omega) (by omega)).trans (hA0 0 _ rfl)
  ·exact(ao 1 (by omega) (by omega)).trans (hA0 1 _ rfl)
  ·exact(ao 2 (by omega) (by omega)).trans (hA0 2 _ rfl)
  ·exact(ao 3 (by omega) (by omega)).trans (hA0 3 _ rfl)
  ·rw[hmap,dK] at a4;exact a4
  ·exact(ao 5 (by omega) (by omega)).trans (hA0 5 _ rfl)
  ·exact a6
end
end Go.Proofs.YthnkncpegihbhaaGreatDoor
