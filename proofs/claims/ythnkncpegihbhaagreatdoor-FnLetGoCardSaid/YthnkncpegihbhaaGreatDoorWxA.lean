import Derived.Test.YthnkncpegihbhaaGreatDoorWnE
import Derived.Test.YthnkncpegihbhaaGreatDoorPutC
import Derived.Deep.Cut
import Derived.Test.YthnkncpegihbhaaGreatDoorXfA
set_option maxRecDepth 100000
set_option maxHeartbeats 16000000
namespace Go.Proofs.YthnkncpegihbhaaGreatDoor
section
open Go.RowKit
structure TS where
 nt:Nat
 K:Nat->Nat
 B:Nat->Nat
 D:Nat->TD
 a:Nat->Option Addr
 c:Nat->Nat
 kd:Nat->Value
 se:Nat->Nat
 tv:Nat->Value
 li:List Nat
 ta:Option Addr
 tc:Nat
 la:Option Addr
 lc:Nat
abbrev rX(S:TS)(j:Nat):Array Value:=#[.slice (S.a j) (S.D j).n (S.c j),.map (some (S.B j)),.int .i64 (S.D j).t,.int .i64 (j:Int),S.kd j,.bool false,.int .i64 (S.se j:Int)]
def TS.tb(S:TS)(k:Nat):Prop:=(∃j,j<S.nt/\(k=S.K j\/k=S.B j\/ig (S.a j)=some k))\/ig S.ta=some k\/ig S.la=some k
structure iU(N:Nat)(S:TS)(u:World):Prop where
 r:u.ownsRow N 188 1 (.slice S.ta S.nt S.tc) S.nt ((List.range S.nt).map S.tv)
 l:u.ownsRow N 188 1 (.slice S.la S.li.length S.lc) S.li.length (S.li.map fun j=>ptr (S.K j))
 rl:∀k,ig S.ta=some k->ig S.la≠some k
 k:∀j,j<S.nt->OwnB u (S.K j) (rX S j)/\N<=S.K j
 m:∀j,j<S.nt->iZ u (S.B j) (places (S.D j).q (S.D j).n)/\N<=S.B j
 p:∀j,j<S.nt->u.ownsRow N 278 11 (.slice (S.a j) (S.D j).n (S.c j)) (S.D j).n (cellsOf (S.D j).q (S.D j).n)
 ki:∀i j,i<S.nt->j<S.nt->S.K i=S.K j->i=j
 bi:∀i j,i<S.nt->j<S.nt->S.B i=S.B j->i=j
 pi:∀i j,i<S.nt->j<S.nt->i≠j->∀k,ig (S.a i)=some k->ig (S.a j)≠some k
 kp:∀i j,i<S.nt->j<S.nt->ig (S.a i)≠some (S.K j)
 kr:∀j,j<S.nt->ig S.ta≠some (S.K j)/\ig S.la≠some (S.K j)
 ok:∀j,j<S.nt->xM (S.D j).n (S.D j).t (S.D j).q
section
variable {N:Nat}{S:TS}{u w w':World}
theorem Gn{B:Nat}{L:List (Mk×Nat)}(h:iZ w B L)(hk:w'.heap[B]?=w.heap[B]?):iZ w' B L:=by
 obtain⟨es,c,hm,e⟩:=h;exact⟨es,c,hk.trans hm,e⟩
theorem iU.keep(h:iU N S w)(hs:w.heap.size<=w'.heap.size)(hk:∀k,S.tb k->w'.heap[k]?=w.heap[k]?):iU N S w':=
 ⟨nY h.r fun k e=>hk k (.inr (.inl ((jg _ _ _).symm.trans e))),nY h.l fun k e=>hk k (.inr (.inr ((jg _ _ _).symm.trans e))),h.rl,fun j hj=>⟨(h.k j hj).1.block hs (hk _ (.inl ⟨j,hj,.inl rfl⟩)),(h.k j hj).2⟩,fun j hj=>⟨Gn (h.m j hj).1 (hk _ (.inl ⟨j,hj,.inr (.inl rfl)⟩)),(h.m j hj).2⟩,fun j hj=>nY (h.p j hj) fun k e=>hk k (.inl ⟨j,hj,.inr (.inr ((jg _ _ _).symm.trans e))⟩),h.ki,h.bi,h.pi,h.kp,h.kr,h.ok⟩
theorem iU.lt(h:iU N S u){k:Nat}(e:S.tb k):N<=k/\k<u.heap.size:=by
 rcases e with⟨j,hj,e|e|e⟩|e|e
 ·rw[e];exact⟨(h.k j hj).2,(h.k j hj).1.1.1⟩
 ·rw[e];exact⟨(h.m j hj).2,(h.m j hj).1.lt⟩
 ·exact jm (h.p j hj) e
 ·exact jm h.r e
 ·exact jm h.l e
theorem iU.KR(h:iU N S u):EY N S.tb (iU N S) u:=⟨h,fun _ _ h hs hk=>h.keep hs hk,fun _ e=>h.lt e⟩
theorem iU.xo(h:iU N S u){j:Nat}(hj:j<S.nt):XO N u (S.K j) (S.a j) (S.D j).n (S.c j) (S.B j) (S.D j).t (S.D j).q (places (S.D j).q (S.D j).n):=
 ⟨(h.k j hj).2,(h.k j hj).1.1.1,(h.k j hj).1.1.cell 0 rfl,(h.k j hj).1.1.cell 1 rfl,(h.k j hj).1.1.cell 2 rfl,(h.k j hj).1.2,h.p j hj,(h.m j hj).1,(h.m j hj).2,fun b off sp e c=>h.kp j j hj hj (by rw[e,<-c];rfl)⟩
theorem iU.box(h:iU N S u){j:Nat}(hj:j<S.nt):qQ u (S.K j) (S.a j) (S.D j).n (S.c j) (S.B j) (S.D j).t (S.D j).q:=by
 have hX:=h.xo hj;exact⟨hX.lt,hX.c0,hX.c1,hX.c2,NC hX.own,hX.map⟩
theorem iU.at(h:iU N S u){j:Nat}(hj:j<S.nt):∃g,S.ta=some ⟨g,0,none⟩/\g<u.heap.size/\u.cell? ⟨g,j,none⟩=some (S.tv j):=by
 rcases h.r.2 with⟨_,e⟩|⟨g,c,cur,e,_,hg,_⟩
 ·omega
 ·have e1:S.ta=some ⟨g,0,none⟩:=by injection e
  refine⟨g,e1,(aA.1 hg).1,?_⟩;have hc:=h.r.cells (g:=g) (by rw[e1];rfl) j (S.tv j) (by simp[hj])
  cases j<;>simpa[Addr.add] using hc
end
end
section
open Go.RowKit
attribute [local go_sem] iD
attribute [local go_sem ↓] Go.wp_at_zero Go.wp_at_succ
structure jl(X:RX)(d:MD)(S:TS):Prop where
 b:d.tb=S.tb
 p:d.TP=iU X.N S
 t:d.tab=.slice S.ta S.nt S.tc
 l:d.jA=.slice S.la S.li.length S.lc
theorem jl.is{X:RX}{d:MD}{S:TS}{u:World}(o:jl X d S)(h:St X d u):iU X.N S u:=by
 have:=h.tt.p;rw[o.p] at this;exact this
abbrev MD.tabs(d:MD)(tab jA:Value)(jc sin lv ro:Nat)(tb:Nat->Prop)(TP:World->Prop):MD:={d with tab:=tab,jA:=jA,jc:=jc,sin:=sin,lv:=lv,ro:=ro,tb:=tb,TP:=TP}
theorem Sp.tabs{X:RX}{d:MD}{u w':World}{tab jA:Value}{jc sin lv ro:Nat}{tb:Nat->Prop}{TP:World->Prop}(h:St X d u)(g:Gx (fun k=>k=X.M\/d.tb k) u w')(hM:OwnB w' X.M (mA X (d.tabs tab jA jc sin lv ro tb TP)))(hY:jC w' X.M 85)(hT:EY X.N tb TP w')(hmv:∀k,k<u.heap.size->tb k->d.tb k):Sp X d u (d.tabs tab jA jc sin lv ro tb TP) w':=by
 have hx:=h.ty;have hs:∀k,vP X d k->k<u.heap.size:=fun k e=>h.lt e.b;have hno:∀{B:Nat} {t:TypeId},jC u B t->t≠85->vP X d B->¬(B=X.M\/d.tb B):=fun hb ht hr c=>by
  rcases c with c|c
  ·exact hb.ne hx.m ht c
  ·exact h.ts _ c hr
 have gJ:∀{t:TypeId} {K n m c:Nat} {a:Option Addr} {xs:List Value},u.ownsRow X.N t K (.slice a m c) n xs->t≠85->(∀k,ig a=some k->vP X d k)->w'.ownsRow X.N t K (.slice a m c) n xs:=fun ho ht hr=>nY ho fun k e=>by
  have e':=(jg _ _ _).symm.trans e;exact g.block k (jm ho e').2 (hno (lJ ho e') ht (hr k e'))
 refine⟨⟨h.x,hM,g.ownB h.t (hno hx.t (by decide) (.inr (.inl rfl))),g.ownB h.f (hno hx.f (by decide) (.inr (.inr (.inl rfl)))),g.ownB h.v (hno hx.v (by decide) (.inr (.inr (.inr (.inl rfl))))),gJ h.fw (by decide) (fun k e=>.inr (.inr (.inr (.inr (.inr (.inr (.inr e))))))),gJ h.rr (by decide) (fun k e=>.inr (.inr (.inr (.inr (.inl e))))),gJ h.hr (by decide) (fun k e=>.inr (.inr (.inr (.inr (.inr (.inl e)))))),gJ h.sr (by decide) (fun k e=>.inr (.inr (.inr (.inr (.inr (.inr (.inl e))))))),?_,aV h.n g.size,h.nv,?_,h.r0,hT,?_⟩,?_,?_⟩
 ·refine h.k.trans g (fun k _ e=>?_);rcases e with e|e
  ·exact .inl e
  ·exact .inr (aV h.x.nW (h.tt.a k e).1)
 ·exact⟨hY,hx.t.keep (g.block _ hx.t.lt (hno hx.t (by decide) (.inr (.inl rfl)))),hx.f.keep (g.block _ hx.f.lt (hno hx.f (by decide) (.inr (.inr (.inl rfl))))),hx.v.keep (g.block _ hx.v.lt (hno hx.v (by decide) (.inr (.inr (.inr (.inl rfl))))))⟩
 ·intro k e c;have c':vP X d k:=c;exact h.ts k (hmv k (hs k c') e) c'
 ·exact g.mono (fun k e=>by
   rcases e with e|e
   ·exact .inl e
   ·exact stB.tb e)
 ·intro k hk e;rcases e.or with e|e
  ·have e':vP X d k:=e;exact e'.b
  ·exact stB.tb (hmv k hk e)
def TS.add(S:TS)(K B:Nat)(ta:Option Addr)(tc:Nat)(la:Option Addr)(lc:Nat):TS:=
 {nt:=S.nt+1,K:=fun j=>if j=S.nt then K else S.K j,B:=fun j=>if j=S.nt then B else S.B j,D:=fun j=>if j=S.nt then⟨0,0,fun _=>pz⟩ else S.D j,a:=fun j=>if j=S.nt then none else S.a j,c:=fun j=>if j=S.nt then 0 else S.c j,kd:=fun j=>if j=S.nt then .pointer none else S.kd j,se:=fun j=>if j=S.nt then 0 else S.se j,tv:=fun j=>if j=S.nt then ptr K else S.tv j,li:=S.li++[S.nt],ta:=ta,tc:=tc,la:=la,lc:=lc}
theorem j51:xM 0 0 (fun _=>pz):=⟨by omega,by omega,by omega,fun i h=>absurd h (aT _),fun i j _ h=>absurd h (aT _)⟩
theorem iU.add{N:Nat}{S:TS}{u w:World}{K B:Nat}{ta la:Option Addr}{tc lc:Nat}(h:iU N S u)(pW:∀j,j∈S.li->j<S.nt)(hs:u.heap.size<=w.heap.size)(hN:N<=u.heap.size)(hk:∀k,k<u.heap.size->ig S.ta≠some k->ig S.la≠some k->S.tb k->w.heap[k]?=u.heap[k]?)(hK:OwnB w K #[.slice none 0 0,.map (some B),.int .i64 0,.int .i64 (S.nt:Int),.pointer none,.bool false,.int .i64 0])(nK:u.heap.size<=K)(hB:iZ w B [])(nB:u.heap.size<=B)(hr:w.ownsRow N 188 1 (.slice ta (S.nt+1) tc) (S.nt+1) ((List.range S.nt).map S.tv++[ptr K]))(hl:w.ownsRow N 188 1 (.slice la (S.li.length+1) lc) (S.li.length+1) ((S.li.map fun j=>ptr (S.K j))++[ptr K]))(hrl:∀k,ig ta=some k->ig la≠some k)(hra:∀k,ig ta=some k->k<u.heap.size->ig S.ta=some k)(hla:∀k,ig la=some k->k<u.heap.size->ig S.la=some k)(hKr:ig ta≠some K/\ig la≠some K):iU N (S.add K B ta tc la lc) w:=by
 have lt:∀j,j<S.nt->S.K j<u.heap.size:=fun j hj=>(h.k j hj).1.1.1;have Xe:∀j,j<S.nt->S.B j<u.heap.size:=fun j hj=>(h.m j hj).1.lt;have kr:∀j,j<S.nt->ig ta≠some (S.K j)/\ig la≠some (S.K j):=fun j hj=>⟨fun e=>(h.kr j hj).1 (hra _ e (lt j hj)),fun e=>(h.kr j hj).2 (hla _ e (lt j hj))⟩;have hb:∀j,j<S.nt->w.heap[S.K j]?=u.heap[S.K j]?:=fun j hj=>hk _ (lt j hj) (h.kr j hj).1 (h.kr j hj).2 (.inl ⟨j,hj,.inl rfl⟩);have xZ:∀{b:Nat} {L:List (Mk×Nat)} {t:TypeId} {K n m c:Nat} {a:Option Addr} {xs:List Value},iZ u b L->u.ownsRow N t K (.slice a m c) n xs->ig a≠some b:=fun hm ho e=>by
  obtain⟨es,c,hm',_⟩:=hm;obtain⟨A,fr,hA⟩:=lJ ho e;rw[hm'] at hA
  cases hA
 refine⟨?_,?_,hrl,fun j hj=>?_,fun j hj=>?_,fun j hj=>?_,fun i j hi hj e=>?_,fun i j hi hj e=>?_,fun i j hi hj hne k e=>?_,fun i j hi hj=>?_,fun j hj=>?_,fun j hj=>?_⟩
 ·show w.ownsRow N _ 1 (.slice ta (S.nt+1) tc) (S.nt+1) ((List.range (S.nt+1)).map fun j=>if j=S.nt then ptr K else S.tv j);have e:((List.range (S.nt+1)).map fun j=>if j=S.nt then ptr K else S.tv j)=(List.range S.nt).map S.tv++[ptr K]:=by
   rw[bU,bH];congr 1
   ·exact dU fun j hj=>au (by have:=dY.1 hj;omega)
   ·simp
  rw[e];exact hr
 ·show w.ownsRow N _ 1 (.slice la (S.li++[S.nt]).length lc) (S.li++[S.nt]).length ((S.li++[S.nt]).map fun j=>ptr (if j=S.nt then K else S.K j));have e:((S.li++[S.nt]).map fun j=>ptr (if j=S.nt then K else S.K j))=(S.li.map fun j=>ptr (S.K j))++[ptr K]:=by
   rw[bH];congr 1
   ·exact dU fun j hj=>by rw[au (by have:=pW j hj;omega)]
   ·simp
  rw[e,aU];exact hl
 ·by_cases c:j=S.nt
  ·subst c;simp only[TS.add,rX,if_true];exact⟨hK,by omega⟩
  ·replace hj:j<S.nt:=by have:j<S.nt+1:=hj;omega
   simp only[TS.add,rX,au c];exact⟨(h.k j hj).1.block hs (hb j hj),(h.k j hj).2⟩
 ·by_cases c:j=S.nt
  ·subst c;simp only[TS.add,if_true];exact⟨hB,by omega⟩
  ·replace hj:j<S.nt:=by have:j<S.nt+1:=hj;omega
   simp only[TS.add,au c];exact⟨Gn (h.m j hj).1 (hk _ (Xe j hj) (xZ (h.m j hj).1 h.r) (xZ (h.m j hj).1 h.l) (.inl ⟨j,hj,.inr (.inl rfl)⟩)),(h.m j hj).2⟩
 ·by_cases c:j=S.nt
  ·subst c;simp only[TS.add,if_true];exact aX _ _ _ _
  ·replace hj:j<S.nt:=by have:j<S.nt+1:=hj;omega
   simp only[TS.add,au c];refine nY (h.p j hj) fun k e=>?_;have e':=(jg _ _ _).symm.trans e;exact hk k (jm (h.p j hj) e').2 (qP (h.p j hj) h.r (by decide) e') (qP (h.p j hj) h.l (by decide) e') (.inl ⟨j,hj,.inr (.inr e')⟩)
 ·replace hi:i<S.nt+1:=hi;replace hj:j<S.nt+1:=hj;simp only[TS.add] at e;by_cases c:i=S.nt
  ·by_cases c':j=S.nt
   ·omega
   ·rw[aO c,au c'] at e;have:=lt j (by omega);omega
  ·by_cases c':j=S.nt
   ·rw[au c,aO c'] at e;have:=lt i (by omega);omega
   ·rw[au c,au c'] at e;exact h.ki i j (by omega) (by omega) e
 ·replace hi:i<S.nt+1:=hi;replace hj:j<S.nt+1:=hj;simp only[TS.add] at e;by_cases c:i=S.nt
  ·by_cases c':j=S.nt
   ·omega
   ·rw[aO c,au c'] at e;have:=Xe j (by omega);omega
  ·by_cases c':j=S.nt
   ·rw[au c,aO c'] at e;have:=Xe i (by omega);omega
   ·rw[au c,au c'] at e;exact h.bi i j (by omega) (by omega) e
 ·replace hi:i<S.nt+1:=hi;replace hj:j<S.nt+1:=hj;simp only[TS.add] at e ⊢;by_cases c:i=S.nt
  ·rw[aO c] at e
   cases e
  ·rw[au c] at e;by_cases c':j=S.nt
   ·rw[aO c'];exact fun e=>nomatch e
   ·rw[au c'];exact h.pi i j (by omega) (by omega) hne k e
 ·replace hi:i<S.nt+1:=hi;replace hj:j<S.nt+1:=hj;simp only[TS.add];by_cases c:i=S.nt
  ·rw[aO c];exact fun e=>nomatch e
  ·rw[au c];by_cases c':j=S.nt
   ·rw[aO c'];exact fun e=>by have:=(jm (h.p i (by omega)) e).2;omega
   ·rw[au c'];exact h.kp i j (by omega) (by omega)
 ·replace hj:j<S.nt+1:=hj;simp only[TS.add];by_cases c:j=S.nt
  ·rw[aO c];exact hKr
  ·rw[au c];exact kr j (by omega)
 ·replace hj:j<S.nt+1:=hj;by_cases c:j=S.nt
  ·subst c;simp only[TS.add,if_true];exact j51
  ·simp only[TS.add,au c];exact h.ok j (by omega)
theorem zg1(w:World):(Instr.makeMap 242 none).run Tryz.prog w=.ok (.map (some w.heap.size)) (w.alloc (.map #[] 0)):=by
 simp[Instr.makeMap,newObj,Sem.run,Result.andThen]
theorem y13:(Tryz.prog.info? 188).map (fun i=>(i.zero,i.size,i.bytes))=some (some (.pointer none),1,8):=by kernel_rfl
abbrev tbN(r:Int)(B:Nat):Array Value:=#[.slice none 0 0,.map (some B),.int .i64 0,.int .i64 r,.pointer none,.bool false,.int .i64 0]
theorem yc8(v:World)(o:Obj):(v.alloc o).heap[v.heap.size]?=some o:=by
 show(v.heap.push o)[v.heap.size]?=some o;exact Array.getElem?_push_size
theorem zN(w:World)(o:Obj)(A:Array Value)(t:TypeId):OwnB ((w.alloc o).alloc (.cells A t)) (w.heap.size+1) A:=by
 have:=OwnB.new (w.alloc o) A t
 rwa [aN] at this
theorem y78{N n c:Nat}{a:Option Addr}{xs:List Value}{w:World}(p:Value)(hp:p.oneCell'=true)(h:w.ownsRow N 188 1 (.slice a n c) n xs)(hn:n<=1000)(hN:N<=w.heap.size):∃a' c' w',(Builtin.append_ #[69,69] 69 #[.slice a n c,.slice (some ⟨w.heap.size,0,none⟩) 1 1]).run Tryz.prog (w.alloc (.cells #[p] 188))=.ok (.slice a' (n+1) c') w'/\w'.ownsRow N 188 1 (.slice a' (n+1) c') (n+1) (xs++[p])/\Gx (fun k=>ig a=some k) w w'/\(∀k,ig a'=some k->ig a=some k\/w.heap.size<k):=by
 obtain⟨i0,gU,gQ,hy1,hy2⟩:=bT y13;obtain⟨v',w7,gq,gB,gY,_,hat⟩:=run_append_own_at (P:=Tryz.prog) (w.alloc (.cells #[p] 188)) N 69 69 188 i0 _ 1 8 Tryz.underlying69 gU gQ hy1 hy2 rfl (by decide) (.slice a n c) n xs (q35 h (q01 _ _)) ⟨w.heap.size,0,none⟩ 1 1 [p] rfl (cell_one_new _ _ _) (by simpa using hp) (by unfold maxLen;omega) (by omega) (by simp;omega);obtain⟨a',c',rfl⟩:=zO gB;refine⟨a',c',w7,gq,gB,(Gx.below (fun k=>ig a=some k) (q01 w _)).trans (Gx.grown gY) (fun k _ e=>(jg _ _ _).symm.trans e),fun k e=>?_⟩;rcases hat with c|c
 ·exact .inl ((jg _ _ _).symm.trans (c.symm.trans ((jg _ _ _).trans e)))
 ·refine .inr ?_;have:=aQ (((jg _ _ _).trans e).symm.trans c);simp at this;omega
def NTo(X:RX)(d:MD)(S:TS)(u:World)(e:Ending)(w':World):Prop:=∃K B ta tc la lc,e=.returned (ptr K)/\u.heap.size<=K/\Sp X d u (d.tabs (.slice ta (S.nt+1) tc) (.slice la (S.li.length+1) lc) d.jc d.sin d.lv d.ro (S.add K B ta tc la lc).tb (iU X.N (S.add K B ta tc la lc))) w'
theorem qk4(X:RX)(d:MD)(S:TS)(u:World)(h:St X d u)(o:jl X d S)(pW:∀j,j∈S.li->j<S.nt)(hnt:S.nt<=900)(hll:S.li.length<=900):Calls Tryz.prog 261 #[ptr X.M] u fun e w'=>NTo X d S u e w':=by
 have HS:Hid (St X d u/\jl X d S/\∀j,j∈S.li->j<S.nt):=⟨h,o,pW⟩;have m16:u.cell? ⟨X.M,16,none⟩=some (.slice S.ta S.nt S.tc):=by rw[<-o.t];exact h.m.1.cell 16 rfl
 have Dw:=h.m.1.1;have hmk:=zg1;go_in
 go_upto_region 2 with fail
 obtain⟨w1,fQ⟩:∃w1,(u.alloc (.map #[] 0)).alloc (.cells (tbN (S.nt:Int) u.heap.size) 246)=w1:=⟨_,rfl⟩;have H1:Hid (St X d w1/\gZ u w1/\OwnB w1 (u.heap.size+1) (tbN (S.nt:Int) u.heap.size)/\w1.heap[u.heap.size]?=some (.map #[] 0)/\w1.heap.size=u.heap.size+2):=by
  rw[<-fQ];refine⟨(HS.1.alloc _).alloc _,(q01 _ _).alloc (by simp) _,zN _ _ _ _,?_,by simp⟩;rw[dH _ _ _ (by simp)];exact yc8 u _
 rw[fQ];obtain⟨K,hK⟩:∃K,u.heap.size+1=K:=⟨_,rfl⟩;rw[hK] at H1;rw[hK];have HK:Hid (u.heap.size+1=K):=hK;have hT1:=HS.2.1.is H1.1;obtain⟨ta,tc,w2,gq,hr2,hg2,hta⟩:=y78 (ptr K) rfl hT1.r (by omega) H1.1.n;have hne1:¬ig S.ta=some X.M:=fun e=>H1.1.ts X.M (by rw[HS.2.1.b];exact .inr (.inl e)) (.inl rfl);have hne2:¬ig S.la=some X.M:=fun e=>H1.1.ts X.M (by rw[HS.2.1.b];exact .inr (.inr e)) (.inl rfl);have hM2:=hg2.ownB H1.1.m hne1;have m16:w1.cell? ⟨X.M,16,none⟩=some (.slice S.ta S.nt S.tc):=by rw[<-HS.2.1.t];exact H1.1.m.1.cell 16 rfl
 have a04:w2.cell? ⟨X.M,16,none⟩=some (.slice S.ta S.nt S.tc):=by rw[<-HS.2.1.t];exact hM2.1.cell 16 rfl
 have mz':=hM2.2;have hl1:=H1.1.m.1.1;have hl2:=hM2.1.1;have XD:w2.ownsRow X.N 188 1 (.slice S.la S.li.length S.lc) S.li.length (S.li.map fun j=>ptr (S.K j)):=nY hT1.l fun k e=>by
  have e':=(jg _ _ _).symm.trans e;exact hg2.block k (jm hT1.l e').2 (fun c=>hT1.rl k c e')
 have H2:Hid (OwnB w2 X.M (mA X d)/\w2.ownsRow X.N 188 1 (.slice ta (S.nt+1) tc) (S.nt+1) ((List.range S.nt).map S.tv++[ptr K])/\Gx (fun k=>ig S.ta=some k) w1 w2/\(∀k,ig ta=some k->ig S.ta=some k\/w1.heap.size<k)/\w2.ownsRow X.N 188 1 (.slice S.la S.li.length S.lc) S.li.length (S.li.map fun j=>ptr (S.K j))/\jC w2 X.M 85):=⟨hM2,hr2,hg2,hta,XD,H1.1.ty.m.keep (hg2.block _ H1.1.m.1.1 hne1)⟩;have Qh:Hid (¬ig S.ta=some X.M/\¬ig S.la=some X.M):=⟨hne1,hne2⟩
 go_upto_region 3 with(at_builtin;refine um (by rfl) _ _ _ _ (by rfl) (.slice S.ta S.nt S.tc) (.slice (some ⟨w1.heap.size,0,none⟩) 1 1) _ _ (by rfl) (by rfl) gq ?_)
 obtain⟨w3,fV⟩:∃w3,w2.setCell ⟨X.M,16,none⟩ (.slice ta (S.nt+1) tc)=w3:=⟨_,rfl⟩;have F9:Hid (w3.heap.size=w2.heap.size):=by rw[<-fV];exact(by simp:(w2.setCell ⟨X.M,16,none⟩ (.slice ta (S.nt+1) tc)).heap.size=w2.heap.size)
 have H3:Hid (OwnB w3 X.M (mA X {d with tab:=.slice ta (S.nt+1) tc})/\Gx (fun k=>k=X.M) w2 w3/\jC w3 X.M 85/\w3.ownsRow X.N 188 1 (.slice S.la S.li.length S.lc) S.li.length (S.li.map fun j=>ptr (S.K j))):=by
  rw[<-fV];refine⟨H2.1.set (o:=16) (by show 16<27;omega) _,Gx.set _ _ _ _,H2.2.2.2.2.2.set _ _,q23 H2.2.2.2.2.1 _ fun k e c=>?_⟩;have e':=(jg _ _ _).symm.trans e;rw[c] at e';exact Qh.2 e'
 rw[fV];obtain⟨la,lc,w4,gq,hr4,hg4,hla⟩:=y78 (ptr K) rfl H3.2.2.2 (by omega) (by have:=H1.1.n;have:=H2.2.2.1.size;have:=F9.out;omega);have TI:=hg4.ownB H3.1 Qh.2;have m19:w3.cell? ⟨X.M,19,none⟩=some (.slice S.la S.li.length S.lc):=by rw[<-HS.2.1.l];exact H3.1.1.cell 19 rfl
 have Xc:w4.cell? ⟨X.M,19,none⟩=some (.slice S.la S.li.length S.lc):=by rw[<-HS.2.1.l];exact TI.1.cell 19 rfl
 have mz':=TI.2;have hl3:=H3.1.1.1;have hl4:=TI.1.1;have H4:Hid (OwnB w4 X.M (mA X {d with tab:=.slice ta (S.nt+1) tc})/\w4.ownsRow X.N 188 1 (.slice la (S.li.length+1) lc) (S.li.length+1) ((S.li.map fun j=>ptr (S.K j))++[ptr K])/\Gx (fun k=>ig S.la=some k) w3 w4/\(∀k,ig la=some k->ig S.la=some k\/w3.heap.size<k)/\jC w4 X.M 85):=⟨TI,hr4,hg4,hla,H3.2.2.1.keep (hg4.block _ H3.1.1.1 Qh.2)⟩;go_wp2_with (at_builtin;refine um (by rfl) _ _ _ _ (by rfl) (.slice S.la S.li.length S.lc) (.slice (some ⟨w3.heap.size,0,none⟩) 1 1) _ _ (by rfl) (by rfl) gq ?_);obtain⟨hS,o,pW⟩:=HS.out;have fM:=F9.out;obtain⟨a1,a2,a3,a4,a5⟩:=H1.out;obtain⟨b1,b2,b3,b4,b5,b6⟩:=H2.out;obtain⟨c1,c2,c3,c4⟩:=H3.out;obtain⟨e1,e2,e3,e4,e5⟩:=H4.out;have s2:=b3.size;have s4:=e3.size;have hk:=HK.out;have hT0:=o.is hS;have lM:X.M<u.heap.size:=hS.m.1.1;have g3:Gx (fun k=>k=X.M\/ig S.ta=some k) w1 w3:=(b3.mono (fun k e=>.inr e)).trans c2 (fun k _ e=>.inl e);have g5:Gx (fun k=>ig S.la=some k\/k=X.M) w3 (w4.setCell ⟨X.M,19,none⟩ (.slice la (S.li.length+1) lc)):=(e3.mono (fun k e=>.inl e)).trans (Gx.set w4 X.M 19 _) (fun k _ e=>.inr e);have g15:Gx (fun k=>k=X.M\/ig S.ta=some k\/ig S.la=some k) w1 (w4.setCell ⟨X.M,19,none⟩ (.slice la (S.li.length+1) lc)):=(g3.mono (fun k e=>by rcases e with e|e;exact .inl e;exact .inr (.inl e))).trans g5 (fun k _ e=>by rcases e with e|e;exact .inr (.inr e);exact .inl e);have gu:Gx (fun k=>k=X.M\/d.tb k) u (w4.setCell ⟨X.M,19,none⟩ (.slice la (S.li.length+1) lc)):=(Gx.below _ a2).trans g15 (fun k _ e=>by
  rw[o.b];rcases e with e|e|e
  ·exact .inl e
  ·exact .inr (.inr (.inl e))
  ·exact .inr (.inr (.inr e)))
 have nK:¬(K=X.M\/ig S.ta=some K\/ig S.la=some K):=fun e=>by
  rcases e with e|e|e
  ·omega
  ·have:=(jm hT0.r e).2;omega
  ·have:=(jm hT0.l e).2;omega
 have nB:¬(u.heap.size=X.M\/ig S.ta=some u.heap.size\/ig S.la=some u.heap.size):=fun e=>by
  rcases e with e|e|e
  ·omega
  ·have:=(jm hT0.r e).2;omega
  ·have:=(jm hT0.l e).2;omega
 have tal:∀k,ig ta=some k->k≠X.M:=fun k e c=>by
  rcases b4 k e with q|q
  ·rw[c] at q;exact Qh.1 q
  ·omega
 have b2':(w4.setCell ⟨X.M,19,none⟩ (.slice la (S.li.length+1) lc)).ownsRow X.N 188 1 (.slice ta (S.nt+1) tc) (S.nt+1) ((List.range S.nt).map S.tv++[ptr K]):=by
  refine nY (nY b2 (w:=w3) fun k e=>c2.block k (jm b2 ((jg _ _ _).symm.trans e)).2 (tal k ((jg _ _ _).symm.trans e))) fun k e=>?_;have e':=(jg _ _ _).symm.trans e;have gK:=(jm b2 e').2;refine g5.block k (by omega) (fun q=>?_);rcases q with q|q
  ·rcases b4 k e' with z|z
   ·exact hT0.rl k z q
   ·have:=(jm hT0.l q).2;omega
  ·exact tal k e' q
 have e2':(w4.setCell ⟨X.M,19,none⟩ (.slice la (S.li.length+1) lc)).ownsRow X.N 188 1 (.slice la (S.li.length+1) lc) (S.li.length+1) ((S.li.map fun j=>ptr (S.K j))++[ptr K]):=q23 e2 _ fun k e c=>by
  have e':=(jg _ _ _).symm.trans e;rw[c] at e';rcases e4 _ e' with q|q
  ·exact Qh.2 q
  ·omega
 have Dv:iU X.N (S.add K u.heap.size ta tc la lc) (w4.setCell ⟨X.M,19,none⟩ (.slice la (S.li.length+1) lc)):=by
  refine hT0.add pW gu.size hS.n (fun k hk' n1 n2 et=>(g15.block k (by omega) (fun q=>?_)).trans (a2.block k hk')) (g15.ownB a3 nK) (by omega) (Gn (show iZ w1 u.heap.size [] from⟨#[],0,a4,rfl⟩) (g15.block _ (by omega) nB)) (ah _) b2' e2' (fun k e q=>?_) (fun k e hk'=>?_) (fun k e hk'=>?_) ⟨fun e=>?_,fun e=>?_⟩
  ·rcases q with q|q|q
   ·exact hS.ts k (by rw[o.b];exact et) (.inl q)
   ·exact n1 q
   ·exact n2 q
  ·rcases b4 k e with z|z
   ·rcases e4 k q with y|y
    ·exact hT0.rl k z y
    ·have:=(jm hT0.r z).2;omega
   ·rcases e4 k q with y|y
    ·have:=(jm hT0.l y).2;omega
    ·have:=(jm b2 e).2;omega
  ·rcases b4 k e with z|z
   ·exact z
   ·omega
  ·rcases e4 k e with z|z
   ·exact z
   ·omega
  ·rcases b4 K e with z|z
   ·exact nK (.inr (.inl z))
   ·omega
  ·rcases e4 K e with z|z
   ·exact nK (.inr (.inr z))
   ·omega
 have hfin:NTo X d S u (.returned (ptr K)) (w4.setCell ⟨X.M,19,none⟩ (.slice la (S.li.length+1) lc)):=by
  refine⟨K,u.heap.size,ta,tc,la,lc,rfl,by omega,Sp.tabs hS gu ?_ (e5.set _ _) Dv.KR (fun k hk' e=>?_)⟩
  ·exact e1.set (o:=19) (by show 19<27;omega) _
  ·rw[o.b];rcases e with⟨j,hj,e|e|e⟩|e|e
   ·replace hj:j<S.nt+1:=hj;simp only[TS.add] at e;by_cases c:j=S.nt
    ·rw[aO c] at e;omega
    ·rw[au c] at e;exact .inl ⟨j,by omega,.inl e⟩
   ·replace hj:j<S.nt+1:=hj;simp only[TS.add] at e;by_cases c:j=S.nt
    ·rw[aO c] at e;omega
    ·rw[au c] at e;exact .inl ⟨j,by omega,.inr (.inl e)⟩
   ·replace hj:j<S.nt+1:=hj;simp only[TS.add] at e;by_cases c:j=S.nt
    ·rw[aO c] at e;cases e
    ·rw[au c] at e;exact .inl ⟨j,by omega,.inr (.inr e)⟩
   ·rcases b4 k e with z|z
    ·exact .inr (.inl z)
    ·omega
   ·rcases e4 k e with z|z
    ·exact .inr (.inr z)
    ·omega
 exact aG (v:=ptr K) (by simp[results,Tryz.results261,go_sem]) rfl hfin
end
section
open Go.RowKit
def TS.put(S:TS)(j:Nat)(D:TD)(a:Option Addr)(c:Nat):TS:={S with D:=fun i=>if i=j then D else S.D i,a:=fun i=>if i=j then a else S.a i,c:=fun i=>if i=j then c else S.c i}
theorem xZ{N:Nat}{u:World}{b:Nat}{L:List (Mk×Nat)}{t:TypeId}{K n m c:Nat}{a:Option Addr}{xs:List Value}(hm:iZ u b L)(ho:u.ownsRow N t K (.slice a m c) n xs):ig a≠some b:=fun e=>by
 obtain⟨es,c,hm',_⟩:=hm;obtain⟨A,fr,hA⟩:=lJ ho e;rw[hm'] at hA
 cases hA
theorem iU.put{N:Nat}{S:TS}{u w:World}{j:Nat}{D:TD}{a:Option Addr}{c:Nat}(h:iU N S u)(hj:j<S.nt)(hX:XO N w (S.K j) a D.n c (S.B j) D.t D.q (places D.q D.n))(hs:u.heap.size<=w.heap.size)(ht:∀o,3<=o->w.cell? ⟨S.K j,o,none⟩=u.cell? ⟨S.K j,o,none⟩)(hf:Bd u w (S.K j) (S.B j) (Value.slice (S.a j) (S.D j).n (S.c j)).ownBlock)(hr:KI u (S.a j) a)(hok:xM D.n D.t D.q):iU N (S.put j D a c) w:=by
 have gK:∀i,i<S.nt->S.K i<u.heap.size:=fun i hi=>(h.k i hi).1.1.1;have fr:∀k,k<u.heap.size->k≠S.K j->k≠S.B j->ig (S.a j)≠some k->w.heap[k]?=u.heap[k]?:=fun k hk h1 h2 h3=>hf k hk h1 h2 (fun e=>h3 ((jg _ _ _).symm.trans e.symm));have Jy:∀i l,i<S.nt->l<S.nt->S.K i≠S.B l:=fun i l hi hl e=>La (h.m l hl).1 ((h.k i hi).1.1.cell 0 rfl) e.symm;have hnew:∀k,ig a=some k->ig (S.a j)=some k\/u.heap.size<=k:=fun k e=>by
  cases a with
  |none=>cases e
  |some b=>
   have e':b.block=k:=aQ e;rcases hr b rfl with q|q
   ·exact .inl (by rw[q];exact e)
   ·exact .inr (by rw[<-e'];exact q)
 have hO:OwnB w (S.K j) #[.slice a D.n c,.map (some (S.B j)),.int .i64 D.t,.int .i64 (j:Int),S.kd j,.bool false,.int .i64 (S.se j:Int)]:=by
  have hu:=(h.k j hj).1.1;refine⟨⟨hX.lt,fun o=>?_⟩,hX.fr⟩;rcases(show o=0\/o=1\/o=2\/3<=o by omega) with rfl|rfl|rfl|ho
  ·exact hX.c0
  ·exact hX.c1
  ·exact hX.c2
  ·rw[ht o ho,hu.2 o];rcases(show o=3\/o=4\/o=5\/o=6\/7<=o by omega) with rfl|rfl|rfl|rfl|ho
   ·rfl
   ·rfl
   ·rfl
   ·rfl
   ·rw[dJ (by show 7<=o;omega),dJ (by show 7<=o;omega)]
 refine⟨?_,?_,h.rl,fun i hi=>?_,fun i hi=>?_,fun i hi=>?_,h.ki,h.bi,fun i l hi hl hne k e=>?_,fun i l hi hl=>?_,h.kr,fun i hi=>?_⟩
 ·refine nY h.r fun k e=>?_;have e':=(jg _ _ _).symm.trans e;exact fr k (jm h.r e').2 (fun q=>(h.kr j hj).1 (by rw[<-q];exact e')) (fun q=>xZ (h.m j hj).1 h.r (by rw[<-q];exact e')) (fun q=>qP (h.p j hj) h.r (by decide) q e')
 ·refine nY h.l fun k e=>?_;have e':=(jg _ _ _).symm.trans e;exact fr k (jm h.l e').2 (fun q=>(h.kr j hj).2 (by rw[<-q];exact e')) (fun q=>xZ (h.m j hj).1 h.l (by rw[<-q];exact e')) (fun q=>qP (h.p j hj) h.l (by decide) q e')
 ·replace hi:i<S.nt:=hi;by_cases q:i=j
  ·subst q;simp only[TS.put,rX,if_true];exact⟨hO,(h.k i hi).2⟩
  ·simp only[TS.put,rX,au q];exact⟨(h.k i hi).1.block hs (fr _ (gK i hi) (fun e=>q (h.ki i j hi hj e)) (Jy i j hi hj) (h.kp j i hj hi)),(h.k i hi).2⟩
 ·replace hi:i<S.nt:=hi;by_cases q:i=j
  ·subst q;simp only[TS.put,if_true];exact⟨hX.map,(h.m i hi).2⟩
  ·simp only[TS.put,au q];exact⟨Gn (h.m i hi).1 (fr _ (h.m i hi).1.lt (fun e=>Jy j i hj hi e.symm) (fun e=>q (h.bi i j hi hj e)) (xZ (h.m i hi).1 (h.p j hj))),(h.m i hi).2⟩
 ·replace hi:i<S.nt:=hi;by_cases q:i=j
  ·subst q;simp only[TS.put,if_true];exact hX.own
  ·simp only[TS.put,au q];refine nY (h.p i hi) fun k e=>?_;have e':=(jg _ _ _).symm.trans e;exact fr k (jm (h.p i hi) e').2 (fun z=>h.kp i j hi hj (by rw[<-z];exact e')) (fun z=>xZ (h.m j hj).1 (h.p i hi) (by rw[<-z];exact e')) (fun z=>h.pi j i hj hi (fun y=>q y.symm) k z e')
 ·replace hi:i<S.nt:=hi;replace hl:l<S.nt:=hl;simp only[TS.put] at e ⊢;by_cases q:i=j
  ·rw[aO q] at e;rw[au (by omega)];rcases hnew k e with z|z
   ·exact h.pi j l hj hl (by omega) k z
   ·intro y;have:=(jm (h.p l hl) y).2;omega
  ·rw[au q] at e;by_cases q':l=j
   ·rw[aO q'];intro y;rcases hnew k y with z|z
    ·exact h.pi i j hi hj q k e z
    ·have:=(jm (h.p i hi) e).2;omega
   ·rw[au q'];exact h.pi i l hi hl hne k e
 ·replace hi:i<S.nt:=hi;replace hl:l<S.nt:=hl;simp only[TS.put];by_cases q:i=j
  ·rw[aO q];intro y;rcases hnew _ y with z|z
   ·exact h.kp j l hj hl z
   ·have:=gK l hl;omega
  ·rw[au q];exact h.kp i l hi hl
 ·replace hi:i<S.nt:=hi;by_cases q:i=j
  ·subst q;simp only[TS.put,if_true];exact hok
  ·simp only[TS.put,au q];exact h.ok i hi
theorem TS.J3{S:TS}{u:World}{j:Nat}{D:TD}{a:Option Addr}{c:Nat}(hj:j<S.nt)(hr:KI u (S.a j) a)(k:Nat)(hk:k<u.heap.size)(e:(S.put j D a c).tb k):S.tb k:=by
 rcases e with⟨i,hi,e|e|e⟩|e|e
 ·exact .inl ⟨i,hi,.inl e⟩
 ·exact .inl ⟨i,hi,.inr (.inl e)⟩
 ·simp only[TS.put] at e;by_cases q:i=j
  ·rw[aO q] at e
   cases a with
   |none=>cases e
   |some b=>
    have e':b.block=k:=aQ e;rcases hr b rfl with z|z
    ·exact .inl ⟨j,hj,.inr (.inr (by rw[z];exact e))⟩
    ·omega
  ·rw[au q] at e;exact .inl ⟨i,hi,.inr (.inr e)⟩
 ·exact .inr (.inl e)
 ·exact .inr (.inr e)
end
section
open Go.RowKit
attribute [local go_sem] iD
attribute [local go_sem ↓] Go.wp_at_zero Go.wp_at_succ
theorem z56(k n:Int)(f:Nat)(s:ByteArray)(r:Int)(w:World):(Instr.field 61 (.agg #[.int .i64 k,.int .i64 n,.float .f64 f,.string s,.int .i64 r]) 0).run Tryz.prog w=.ok (.int .i64 k) w:=by kernel_rfl
abbrev uV(D:TD)(y v:VD):TD:=⟨D.n+1,D.t+1,jY D.q D.n ⟨y,v,D.t+1⟩⟩
def DR(X:RX)(d:MD)(S:TS)(j:Nat)(y v:VD)(u:World)(w':World):Prop:=∃a c d',Sp X d u d' w'/\jl X d' (S.put j (uV (S.D j) y v) a c)/\d'.p={d.p.paid 1 with tb:=d'.tb,TP:=d'.TP}
theorem yy2{X:RX}{d:MD}{S:TS}{u w:World}{j:Nat}{D:TD}{a:Option Addr}{c:Nat}(h:St X d u)(o:jl X d S)(hj:j<S.nt)(hX:XO X.N w (S.K j) a D.n c (S.B j) D.t D.q (places D.q D.n))(hb:Below X.N u w)(ht:∀o,3<=o->w.cell? ⟨S.K j,o,none⟩=u.cell? ⟨S.K j,o,none⟩)(hf:Bd u w (S.K j) (S.B j) (Value.slice (S.a j) (S.D j).n (S.c j)).ownBlock)(hr:KI u (S.a j) a)(hok:xM D.n D.t D.q):Sp X d u (d.tabs d.tab d.jA d.jc d.sin d.lv d.ro (S.put j D a c).tb (iU X.N (S.put j D a c))) w/\jl X (d.tabs d.tab d.jA d.jc d.sin d.lv d.ro (S.put j D a c).tb (iU X.N (S.put j D a c))) (S.put j D a c):=by
 have hT:=o.is h;have g:Gx (fun k=>k=X.M\/d.tb k) u w:=⟨hb.os,hb.tape,hb.output,hb.size,fun k hk hn=>hf k hk (fun e=>hn (.inr (by rw[o.b];exact .inl ⟨j,hj,.inl e⟩))) (fun e=>hn (.inr (by rw[o.b];exact .inl ⟨j,hj,.inr (.inl e)⟩))) (fun e=>hn (.inr (by rw[o.b];exact .inl ⟨j,hj,.inr (.inr ((jg _ _ _).symm.trans e.symm))⟩)))⟩;have hbM:w.heap[X.M]?=u.heap[X.M]?:=by
  have nt:¬d.tb X.M:=fun e=>h.ts _ e (.inl rfl);rw[o.b] at nt;exact hf X.M h.m.1.1 (fun e=>nt (.inl ⟨j,hj,.inl e⟩)) (fun e=>nt (.inl ⟨j,hj,.inr (.inl e)⟩)) (fun e=>nt (.inl ⟨j,hj,.inr (.inr ((jg _ _ _).symm.trans e.symm))⟩))
 refine⟨Sp.tabs h g (h.m.block hb.size hbM) (h.ty.m.keep hbM) (hT.put hj hX hb.size ht hf hr hok).KR (fun k hk e=>by rw[o.b];exact TS.J3 hj hr k hk e),⟨rfl,rfl,o.t,o.l⟩⟩
theorem z42(X:RX)(d:MD)(S:TS)(j:Nat)(y v:VD)(u:World)(h:St X d u)(o:jl X d S)(hj:j<S.nt)(hc:kc y=0)(hk:kv y=y)(yf:y.f<2 ^ 64)(hv:v.k≠0)(hn:(S.D j).n<500)(ht:(S.D j).t<1000000000000)(hf:rP (S.D j).q (mk y) (S.D j).n=none)(hce:d.lv+d.sin+1<=X.ce)(yw:d.jc<=100000)(hok:xM ((S.D j).n+1) ((S.D j).t+1) (jY (S.D j).q (S.D j).n ⟨y,v,(S.D j).t+1⟩)):Calls Tryz.prog 280 #[ptr X.M,ptr (S.K j),y.v,v.v] u fun e w'=>e=.returned (.tuple #[])/\DR X d S j y v u w':=by
 have HS:Hid (St X d u/\jl X d S):=⟨h,o⟩;have YO:Hid (∀w,Calls Tryz.prog 292 #[y.v] w fun e w'=>e=.returned (kgV 0 y)/\gZ w w'):=by
  intro w;have:=qm9 y.k y.n y.f y.s y.r yf w;rw[yt0,hc,hk] at this;exact this
 have HG:Hid (∀w,St X d w->Calls Tryz.prog 153 #[ptr (S.K j),y.v] w fun e w'=>e=.returned (.agg #[.int .i64 0,.int .i64 0,.float .f64 0,.string ⟨#[]⟩,.int .i64 0])/\gZ w w'):=fun w hw=>by
  have hT:=o.is hw;have:=ZM (S.K j) (S.a j) (S.D j).n (S.c j) (S.B j) (S.D j).t (S.D j).q y w (hT.ok j hj) (hT.box hj);have e:(gt (S.D j).q (mk y) (S.D j).n).val=vz:=by
   unfold gt;rw[hf];rfl
  rw[e] at this;exact this
 have hvb:(v.k != 0)=true:=by simpa using hv
 have hfk:=z56 0 0 0 ⟨#[]⟩ 0;have HR:Hid (kc y=0/\rP (S.D j).q (mk y) (S.D j).n=none):=⟨hc,hf⟩;have HOk:Hid (xM ((S.D j).n+1) ((S.D j).t+1) (jY (S.D j).q (S.D j).n ⟨y,v,(S.D j).t+1⟩)):=hok;go_in;go_wp2_with fail;refine(YO _).mono ?_;rintro e w1 ⟨rfl,eu⟩;obtain⟨b6,eY⟩:∃b6,u.heap.size=b6:=⟨_,rfl⟩;obtain⟨b7,hb7⟩:∃b7,u.heap.size+1=b7:=⟨_,rfl⟩;have H1:Hid (gZ u w1/\Has w1 b7 (qN v)/\b7<w1.heap.size/\u.heap.size<=b7):=by
  rw[<-hb7];have h2:=(zN u (.cells (qN y) 61) (qN v) 61).1;exact⟨iq ((q01 _ _).alloc (by simp) _) eu,h2.call eu,(h2.call eu).1,by omega⟩
 rw[hb7];rw[eY]
 go_upto_region 4 with fail
 obtain⟨w2,fU⟩:∃w2,w1.alloc (.cells #[.int .i64 0,.int .i64 y.k,.int .i64 y.n,.float .f64 y.f,.string y.s,.int .i64 y.r] 349)=w2:=⟨_,rfl⟩;obtain⟨b8,hb8⟩:∃b8,w1.heap.size=b8:=⟨_,rfl⟩;have H2:Hid (Sp X d u d w2/\Has w2 b7 (qN v)/\Has w2 b8 #[.int .i64 0,.int .i64 y.k,.int .i64 y.n,.float .f64 y.f,.string y.s,.int .i64 y.r]/\u.heap.size<=b7/\u.heap.size<=b8):=by
  rw[<-fU,<-hb8];exact⟨(Sp.below HS.1 H1.1).alloc _,H1.2.1.alloc _,Has.new _ _ _,H1.2.2.2,H1.1.size⟩
 rw[fU,hb8];have GZ:Hid (∀w,gZ w2 w->w.cell? ⟨b7,0,none⟩=some (.int .i64 v.k)/\w.cell? ⟨b8,1,none⟩=some (.int .i64 y.k)/\w.cell? ⟨b8,2,none⟩=some (.int .i64 y.n)/\w.cell? ⟨b8,3,none⟩=some (.float .f64 y.f)/\w.cell? ⟨b8,4,none⟩=some (.string y.s)/\w.cell? ⟨b8,5,none⟩=some (.int .i64 y.r)):=fun w hw=>⟨(H2.2.1.call hw).cell 0 rfl,(H2.2.2.1.call hw).cell 1 rfl,(H2.2.2.1.call hw).cell 2 rfl,(H2.2.2.1.call hw).cell 3 rfl,(H2.2.2.1.call hw).cell 4 rfl,(H2.2.2.1.call hw).cell 5 rfl⟩
 go_cut [29] from 17 (fun s w=>s=.bool true/\Hid (gZ w2 w))
 case first=>
  have S0:=GZ.out w2.drew ((ay _ _).drew);have HD:Hid (St X d w2.drew):=H2.1.s.drew
  go_region_held3 (fun w'=>w'.cell? ⟨b7,0,none⟩=some (.int .i64 v.k)/\w'.cell? ⟨b8,1,none⟩=some (.int .i64 y.k)/\w'.cell? ⟨b8,2,none⟩=some (.int .i64 y.n)/\w'.cell? ⟨b8,3,none⟩=some (.float .f64 y.f)/\w'.cell? ⟨b8,4,none⟩=some (.string y.s)/\w'.cell? ⟨b8,5,none⟩=some (.int .i64 y.r)) (first|(with_reducible exact S0)|(with_reducible exact S4)) ((go_at_call 153;refine(HG.out _ HD.out).mono ?_;rintro e w4 ⟨rfl,eU⟩;have HB4:Hid (gZ w2 w4):=iq ((ay _ _).drew) eU;have S4:=GZ.out w4 HB4.out))
  all_goals
   go_wp2_with fail
   go_meet
   case rel=>exact⟨by simp,HB4.out⟩
 case rest=>
  obtain⟨rfl,Hf⟩:=hcut
  rename World=>w3
  have H3:Hid (Sp X d u d w3/\Has w3 b7 (qN v)/\Has w3 b8 #[.int .i64 0,.int .i64 y.k,.int .i64 y.n,.float .f64 y.f,.string y.s,.int .i64 y.r]):=⟨H2.1.call Hf.out,H2.2.1.call Hf.out,H2.2.2.1.call Hf.out⟩;have H3n:Hid (u.heap.size<=b7/\u.heap.size<=b8):=H2.2.2.2;have hx3:=(HS.2.is H3.1.s).xo hj;have k0:=hx3.c0;have kl:=hx3.lt;have hne:((S.D j).n:Int)≠500:=by omega
  have hneb:(((S.D j).n:Int)==500)=false:=by simpa using hne
  go_wp2_with fail;refine(W9 X d _ H3.1.s hce yw).mono ?_;rintro e w4 ⟨rfl,d4,fO,hd4⟩;have ob:d4.tb=d.tb:=aJ DP.tb hd4;have op:d4.TP=d.TP:=aJ DP.TP hd4;have ot:d4.tab=d.tab:=aJ DP.tab hd4;have ol:d4.jA=d.jA:=aJ DP.jA hd4;have o4:jl X d4 S:=⟨ob.trans HS.2.b,op.trans HS.2.p,ot.trans HS.2.t,ol.trans HS.2.l⟩;have OW:¬stB X d b7:=HS.1.other H3n.1;have OV:¬stB X d b8:=HS.1.other H3n.2;have H4:Hid (Sp X d u d4 w4/\d4.p=d.p.paid 1/\jl X d4 S):=⟨H3.1.trans fO,hd4,o4⟩;have h7:=fO.g.has H3.2.1 OW;have h8:=fO.g.has H3.2.2 OV;have Ba:Hid (Has w4 b7 (qN v)/\Has w4 b8 #[.int .i64 0,.int .i64 y.k,.int .i64 y.n,.float .f64 y.f,.string y.s,.int .i64 y.r]):=⟨h7,h8⟩;have H4c:Hid (¬stB X d4 b7/\¬stB X d4 b8):=⟨fun e=>OW (fO.mv b7 H3.2.1.1 e),fun e=>OV (fO.mv b8 H3.2.2.1 e)⟩;have q0:=h7.cell 0 rfl;have q1:=h7.cell 1 rfl;have q2:=h7.cell 2 rfl;have q3:=h7.cell 3 rfl;have q4:=h7.cell 4 rfl;have r1:=h8.cell 1 rfl;have r2:=h8.cell 2 rfl;have r3:=h8.cell 3 rfl;have r4:=h8.cell 4 rfl;have r5:=h8.cell 5 rfl;go_wp2_with fail;have DK:Hid (∀w,gZ w4 w->w.cell? ⟨b7,0,none⟩=some (.int .i64 v.k)/\w.cell? ⟨b7,1,none⟩=some (.int .i64 v.n)/\w.cell? ⟨b7,2,none⟩=some (.float .f64 v.f)/\w.cell? ⟨b7,3,none⟩=some (.string v.s)/\w.cell? ⟨b7,4,none⟩=some (.int .i64 v.r)/\w.cell? ⟨b8,1,none⟩=some (.int .i64 y.k)/\w.cell? ⟨b8,2,none⟩=some (.int .i64 y.n)/\w.cell? ⟨b8,3,none⟩=some (.float .f64 y.f)/\w.cell? ⟨b8,4,none⟩=some (.string y.s)/\w.cell? ⟨b8,5,none⟩=some (.int .i64 y.r)):=fun w hw=>⟨(Ba.1.call hw).cell 0 rfl,(Ba.1.call hw).cell 1 rfl,(Ba.1.call hw).cell 2 rfl,(Ba.1.call hw).cell 3 rfl,(Ba.1.call hw).cell 4 rfl,(Ba.2.call hw).cell 1 rfl,(Ba.2.call hw).cell 2 rfl,(Ba.2.call hw).cell 3 rfl,(Ba.2.call hw).cell 4 rfl,(Ba.2.call hw).cell 5 rfl⟩;have S0:=DK.out w4.drew ((ay _ _).drew);have Fa:Hid (Calls Tryz.prog 262 #[ptr (S.K j),y.v,v.v] w4.drew fun e w'=>e=.returned (.tuple #[])/\DR X d S j y v u w'/\Has w' b7 (qN v)/\Has w' b8 #[.int .i64 0,.int .i64 y.k,.int .i64 y.n,.float .f64 y.f,.string y.s,.int .i64 y.r]):=by
   have hS4:=H4.1.s.drew;have o4:=H4.2.2;have hT4:=o4.is hS4;have hX4:=hT4.xo hj;have OH:=hT4.ok j hj;have hl:∀z,iZ z (S.B j) (places (S.D j).q (S.D j).n)->(Instr.lookup 242 (.map (some (S.B j))) (mkV (mk y)) true).run Tryz.prog z=.ok (.tuple #[.int .i64 0,.bool false]) z:=fun z hz=>by
    have:=z43 Tryz.underlying242 Rx hz (mk y) (Tryz.zeroValue3 _);rw[yt3 OH,HR.2] at this;exact this
   refine(yj5 X.N (S.K j) (S.a j) (S.D j).n (S.c j) (S.B j) (S.D j).t (S.D j).q _ y v w4.drew hS4.n (by omega) OH.t0 hl hX4).mono ?_;rintro e w5 ⟨rfl,hcase,eX,Tq,hf5⟩;rw[au (by rintro(c|c);exact hv c;exact c ⟨hn,ht⟩)] at hcase;obtain⟨a',c',hX5,Xx⟩:=hcase;have hpl:places (jY (S.D j).q (S.D j).n ⟨y,v,(S.D j).t+1⟩) ((S.D j).n+1)=upd (places (S.D j).q (S.D j).n) (mk y) (S.D j).n:=by
    show upd (places (jY (S.D j).q (S.D j).n ⟨y,v,(S.D j).t+1⟩) (S.D j).n) (mk (jY (S.D j).q (S.D j).n ⟨y,v,(S.D j).t+1⟩ (S.D j).n).key) (S.D j).n=_;have e1:jY (S.D j).q (S.D j).n ⟨y,v,(S.D j).t+1⟩ (S.D j).n=⟨y,v,(S.D j).t+1⟩:=aO rfl;have e2:∀n,n<=(S.D j).n->places (jY (S.D j).q (S.D j).n ⟨y,v,(S.D j).t+1⟩) n=places (S.D j).q n:=fun n=>by
     induction n with
     |zero=>intro _;rfl
     |succ n ih=>
      intro hn';show upd (places _ n) (mk (jY (S.D j).q (S.D j).n ⟨y,v,(S.D j).t+1⟩ n).key) n=upd (places _ n) (mk ((S.D j).q n).key) n;rw[ih (by omega),show jY (S.D j).q (S.D j).n ⟨y,v,(S.D j).t+1⟩ n=(S.D j).q n from au (by omega)]
    rw[e1,e2 _ (ah _)]
   rw[<-hpl] at hX5;obtain⟨fP,o5⟩:=yy2 (D:=uV (S.D j) y v) hS4 o4 hj hX5 eX Tq hf5 Xx HOk.out;refine⟨rfl,⟨a',c',_,(H4.1.drew).trans fP,o5,?_⟩,fP.g.has Ba.1.drew H4c.1,fP.g.has Ba.2.drew H4c.2⟩;have hp:=H4.2.1;have q:∀(tb:Nat->Prop) (TP:World->Prop),(d4.tabs d4.tab d4.jA d4.jc d4.sin d4.lv d4.ro tb TP).p={d4.p with tb:=tb,TP:=TP}:=fun _ _=>rfl;rw[q,hp]
  go_region_held3 (fun w'=>w'.cell? ⟨b7,0,none⟩=some (.int .i64 v.k)/\w'.cell? ⟨b7,1,none⟩=some (.int .i64 v.n)/\w'.cell? ⟨b7,2,none⟩=some (.float .f64 v.f)/\w'.cell? ⟨b7,3,none⟩=some (.string v.s)/\w'.cell? ⟨b7,4,none⟩=some (.int .i64 v.r)/\w'.cell? ⟨b8,1,none⟩=some (.int .i64 y.k)/\w'.cell? ⟨b8,2,none⟩=some (.int .i64 y.n)/\w'.cell? ⟨b8,3,none⟩=some (.float .f64 y.f)/\w'.cell? ⟨b8,4,none⟩=some (.string y.s)/\w'.cell? ⟨b8,5,none⟩=some (.int .i64 y.r)) (first|(with_reducible exact S0)|(with_reducible exact S5)) ((go_at_call 262;refine Fa.out.mono ?_;rintro e w5 ⟨rfl,qY,h57,Pg⟩;have U8:Hid (DR X d S j y v u w5):=qY;have S5:w5.cell? ⟨b7,0,none⟩=some (.int .i64 v.k)/\w5.cell? ⟨b7,1,none⟩=some (.int .i64 v.n)/\w5.cell? ⟨b7,2,none⟩=some (.float .f64 v.f)/\w5.cell? ⟨b7,3,none⟩=some (.string v.s)/\w5.cell? ⟨b7,4,none⟩=some (.int .i64 v.r)/\w5.cell? ⟨b8,1,none⟩=some (.int .i64 y.k)/\w5.cell? ⟨b8,2,none⟩=some (.int .i64 y.n)/\w5.cell? ⟨b8,3,none⟩=some (.float .f64 y.f)/\w5.cell? ⟨b8,4,none⟩=some (.string y.s)/\w5.cell? ⟨b8,5,none⟩=some (.int .i64 y.r):=⟨h57.cell 0 rfl,h57.cell 1 rfl,h57.cell 2 rfl,h57.cell 3 rfl,h57.cell 4 rfl,Pg.cell 1 rfl,Pg.cell 2 rfl,Pg.cell 3 rfl,Pg.cell 4 rfl,Pg.cell 5 rfl⟩))
  all_goals
   go_wp2_with fail;go_end0;exact⟨rfl,U8⟩
end
end Go.Proofs.YthnkncpegihbhaaGreatDoor
