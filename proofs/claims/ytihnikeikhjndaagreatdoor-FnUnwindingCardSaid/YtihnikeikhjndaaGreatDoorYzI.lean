import Derived.Test.YtihnikeikhjndaaGreatDoorYzG
set_option maxRecDepth 100000
set_option maxHeartbeats 16000000
namespace Go.Proofs.YtihnikeikhjndaaGreatDoor
section
open Go.RowKit Go.Shelf
attribute [local go_sem] aN
attribute [local go_sem] Oper.semAt_some
theorem I4{P:Program}{ops:Array Oper}{o:Oper}{a:Act}{w:World}{K:Act->World->Prop}{Q:Exit->Act->World->Prop}{E:Prop}(hgd:o.guard=none)(sl x:Operand)(t u:TypeId)(ho:o.op=.call {callee:=.builtin .append,args:=#[sl,x],argTypes:=#[t,u]})(v xv v':Value)(w':World)(hs:a.eval sl=v)(hx:a.eval x=xv)(hr:(Builtin.append_ #[t,u] o.type #[v,xv]).run P w=.ok v' w')(h:K (a.put o.dst v') w'):if Region.wanted o (yielded ops a.tmps)=true then Oper.wp P o a w K Q else E:=by
 have hw:Region.wanted o (yielded ops a.tmps)=true:=by simp[Region.wanted,hgd]
 rw[if_pos hw];unfold Oper.wp execOp;simp only[ho,resolve,invoke,builtin,Sem.run_bind,Sem.run_pure,Result.andThen_ok,List.map_toArray,List.map_cons,List.map_nil,hs,hx,hr];exact h
structure lJ where
 F:Nat
 fn:Nat
 ln:Int
 nm:ByteArray
def lJ.text(f:lJ):ByteArray:=ni f.nm++⟨#[58]⟩++bA (bI f.ln)
theorem AV(a b:ByteArray):(a++b).size=a.size+b.size:=ByteArray.size_append
theorem L9(s:ByteArray):(ni s).size<=s.size+2:=by
 unfold ni;split
 ·show 2<=s.size+2;omega
 ·omega
theorem lJ.text_size(f:lJ)(h:f.nm.size<=1000):f.text.size<=1100:=by
 have h1:=L9 f.nm;have h2:=KY f.ln;have h3:(bA (bI f.ln)).size=(bI f.ln).length:=EM _;unfold lJ.text;rw[AV,AV];show(ni f.nm).size+1 + (bA (bI f.ln)).size<=1100;omega
def qZ(l:List ByteArray):List Value:=l.map fun s=>.string s
structure lZ(C:Nat)(W0:World)(ss:List ByteArray)(W:World):Prop where
 k:Gx (fun b=>b=C) W0 W
 r:∃a c,OwnB W C #[.slice a ss.length c]/\W.ownsRow W0.heap.size 9 1 (.slice a ss.length c) ss.length (qZ ss)
theorem z56{W:World}{N n c:Nat}{t:TypeId}{a:Option Addr}{xs:List Value}(h:W.ownsRow N t 1 (.slice a n c) n xs){k:Nat}(e:(Value.slice a n c).ownBlock=some k):∃o:Obj,W.heap[k]?=some o/\o.isCells=true:=by
 rcases h.2 with⟨c,_⟩|⟨g,_,cur,c,_,hg,_⟩
 ·cases c;cases e
 ·cases c;have:g=k:=by simpa[Value.ownBlock] using e
  subst this;exact⟨_,hg,rfl⟩
theorem lZ.abide{C:Nat}{ss:List ByteArray}{W0 W W':World}{row:Option Nat}(hC:C<W0.heap.size)(h:lZ C W0 ss W)(hg:W.grownBy W' row)(hr:∀r,row=some r->W0.heap.size<=r/\∃o:Obj,W.heap[r]?=some o/\o.isCells=false):lZ C W0 ss W':=by
 have hk:∀b,b<W0.heap.size->W'.heap[b]?=W.heap[b]?:=fun b hb=>hg.block b (Nat.lt_of_lt_of_le hb h.k.size) (fun e=>by have:=(hr b e.symm).1;omega);refine⟨⟨hg.os.trans h.k.os,hg.tape.trans h.k.tape,hg.output.trans h.k.output,Nat.le_trans h.k.size hg.size,fun b hb hn=>(hk b hb).trans (h.k.block b hb hn)⟩,?_⟩;obtain⟨a,c,h1,h2⟩:=h.r;refine⟨a,c,h1.block hg.size (hk C hC),jS h2 fun k e=>hg.block k (h2.lt k e).2 (fun e'=>?_)⟩;obtain⟨o,ho,hoc⟩:=z56 h2 e;obtain⟨o',ho',Il⟩:=(hr k e'.symm).2;rw[ho] at ho'
 cases ho';rw[hoc] at Il
 cases Il
structure Tv(C:Nat)(W0 W:World)(ss:List ByteArray)(s:ByteArray)(aJ:Option Addr)(nJ cJ:Nat)(a3:Option Addr)(c3:Nat)(jg:World):Prop where
 c:jg.cell? ⟨C,0,none⟩=some (.slice aJ nJ cJ)
 z:∀o,jg.frozen? ⟨C,o,none⟩=false
 k:Gx (fun b=>b=C) W0 jg
 t:lZ C W0 (ss++[s]) (jg.setCell ⟨C,0,none⟩ (.slice a3 (nJ+1) c3))
 o:KeepsOthers W (jg.setCell ⟨C,0,none⟩ (.slice a3 (nJ+1) c3))
 n:KN W0.heap.size C W (jg.setCell ⟨C,0,none⟩ (.slice a3 (nJ+1) c3))
theorem lZ.app{C nJ cJ:Nat}{aJ:Option Addr}{ss:List ByteArray}{W0 W w2:World}(hC:C<W0.heap.size)(h:lZ C W0 ss W)(hb:ah W w2)(s:ByteArray)(hq:OwnB W C #[.slice aJ nJ cJ]/\W.ownsRow W0.heap.size 9 1 (.slice aJ nJ cJ) nJ (qZ ss)/\ss.length=nJ/\nJ<=3000):∃a3 c3 jg,(Builtin.append_ #[25,25] 25 #[.slice aJ nJ cJ,.slice (some ⟨w2.heap.size,0,none⟩) 1 1]).run Tryz.prog (w2.alloc (.cells #[.string s] 9))=.ok (.slice a3 (nJ+1) c3) jg/\Tv C W0 W ss s aJ nJ cJ a3 c3 jg:=by
 obtain⟨hO,hrow,hn,hl⟩:=hq;have hb2:ah W (w2.alloc (.cells #[.string s] 9)):=aH hb (q01 _ _);have hs0:=h.k.size;have hs2:=hb.size;obtain⟨i0,hi0,hy0,hy1,hy2⟩:=info_parts O5;obtain⟨v',w7,happ,hown,hgrow,_,hat⟩:=run_append_own_at (P:=Tryz.prog) (w2.alloc (.cells #[.string s] 9)) W0.heap.size 25 25 9 i0 _ 1 16 Tryz.underlying25 hi0 hy0 hy1 hy2 rfl (by decide) (.slice aJ nJ cJ) nJ (qZ ss) (mZ hrow hb2) ⟨w2.heap.size,0,none⟩ 1 1 [.string s] rfl (cell_one_new _ _ _) (by simp[Value.oneCell']) (by unfold maxLen;omega) (by omega) (by simp;omega);obtain⟨a3,c3,rfl⟩:=sU hown;have hrl:∀k,(Value.slice aJ nJ cJ).ownBlock=some k->W0.heap.size<=k/\k<W.heap.size:=fun k e=>hrow.lt k e;have vg:∀k,k<W.heap.size->(Value.slice aJ nJ cJ).ownBlock≠some k->w7.heap[k]?=W.heap[k]?:=fun k hk hne=>(hgrow.block k (by simp;omega) (fun e=>hne e.symm)).trans (hb2.block k hk);have Y5:w7.heap[C]?=W.heap[C]?:=vg C (by omega) (fun e=>by have:=(hrl C e).1;omega);have hsz:W.heap.size<=w7.heap.size:=by have:=hgrow.size;simp at this;omega
 have Fa:OwnB w7 C #[.slice aJ nJ cJ]:=hO.block hsz Y5;have hcs:W.heap[C]?=w7.heap[C]?:=Y5.symm;have g7:Gx (fun b=>b=C) W0 w7:=⟨(hgrow.os.trans hb2.os).trans h.k.os,(hgrow.tape.trans hb2.tape).trans h.k.tape,(hgrow.output.trans hb2.output).trans h.k.output,by omega,fun k hk hne=>(vg k (by omega) (fun e=>by have:=(hrl k e).1;omega)).trans (h.k.block k hk hne)⟩;refine⟨a3,c3,w7,happ,Fa.1.cell 0 rfl,Fa.2,g7,⟨g7.trans (Gx.set _ _ _ _) (fun _ _ e=>e),a3,c3,?_,?_⟩,?_,?_⟩
 ·rw[List.length_append,hn];exact Fa.set (o:=0) (by show 0<1;omega) _
 ·rw[List.length_append,hn];have:(qZ (ss++[s]))=qZ ss++[.string s]:=by simp[qZ]
  rw[this];exact jh hown _ fun k e=>by have:=(hown.lt k e).1;omega
 ·refine KeepsOthers.trans ?_ (KeepsOthers.setCell _ _ _);refine⟨hsz,fun k o hk ho=>(vg k (Array.getElem?_eq_some_iff.1 hk).1 (fun e=>?_)).trans hk⟩;obtain⟨o',ho',hoc⟩:=z56 hrow e;rw[hk] at ho'
  cases ho';rw[ho] at hoc
  cases hoc
 ·refine⟨by simpa using hsz,fun k hk hne=>?_⟩;rw[Below.heap_setCell _ _ _ _ hne];exact vg k (by omega) (fun e=>by have:=(hrl k e).1;omega)
abbrev zY(X:RX)(E ub uo nf uc:Nat)(fx:lJ)(w':World):Prop:=w'.cell? ⟨E,0,none⟩=some (ptr X.M)/\w'.cell? ⟨X.M,0,none⟩=some (.slice (some ⟨ub,uo,none⟩) nf uc)/\w'.cell? ⟨fx.F,1,none⟩=some (.int .i64 (fx.fn:Int))/\w'.cell? ⟨fx.F,12,none⟩=some (.int .i64 fx.ln)/\w'.cell? ⟨ub,uo+fx.fn*7,none⟩=some (.string fx.nm)
abbrev trA(X:RX)(E:Nat)(fs:Value)(i:Int)(F:Nat):Act:={tmps:=#[ptr X.M,.pointer (some ⟨E,0,none⟩),.string ⟨#[]⟩,.pointer (some ⟨E+1,0,none⟩),undef,ptr F,ptr X.M,ptr X.M,.pointer (some ⟨X.M,23,none⟩),ptr X.T,ptr X.T,.pointer (some ⟨X.T,7,none⟩),fs,Yd (E+1 + 1),.int .i64 i,ptr F,undef,undef,undef,undef,undef,undef,undef,undef,undef,undef,undef,undef,undef,undef,undef,undef,undef,undef,undef,undef,undef,undef,undef,undef,undef,undef],defers:=[]}
structure kV(X:RX)(ub uo nf:Nat)(f:lJ)(u:World):Prop where
 lt:f.F<u.heap.size
 c1:u.cell? ⟨f.F,1,none⟩=some (.int .i64 (f.fn:Int))
 c12:u.cell? ⟨f.F,12,none⟩=some (.int .i64 f.ln)
 ln:dU f.ln
 fn:f.fn<nf
 nm:X.W.cell? ⟨ub,uo+f.fn*7,none⟩=some (.string f.nm)
 sz:f.nm.size<=1000
def uO(bM:Nat->lJ)(n:Nat):ByteArray:=⟨(Lib.join (((jD n n).map (fun i=>(bM i).text)).map (·.data.toList)) [32]).toArray⟩
theorem ye7(xs:List (List UInt8))(h:∀x∈xs,x.length<=2000):(Lib.join xs [32]).length<=xs.length*2001:=by
 have hl:∀r:List (List UInt8),(∀x∈r,x.length<=2000)->Lib.lens r<=r.length*2000:=fun r=>by
  induction r with
  |nil=>intro _;simp[Lib.lens]
  |cons y r ih=>
   intro hy;have h1:=ih (fun x hx=>hy x (List.mem_cons_of_mem _ hx));have h2:=hy y (List.mem_cons_self ..);simp only[Lib.lens,List.map_cons,List.sum_cons,List.length_cons] at h1 ⊢;omega
 cases xs with
 |nil=>simp[Lib.join]
 |cons x r=>
  rw[Lib.join_length];have h1:=hl (x :: r) h;simp only[List.length_cons,List.length_nil] at h1 ⊢;omega
theorem WR(X:RX)(d:MD)(ub uo nf uc:Nat)(bM:Nat->lJ)(u:World)(h:St X d u)(hf:X.fns=.slice (some ⟨ub,uo,none⟩) nf uc)(hub:ub<X.W.heap.size/\ub≠X.M)(hfx:∀i,i<X.fl->kV X ub uo nf (bM i) u/\d.fr[i]?=some (ptr (bM i).F))(hT:jV X):Calls Tryz.prog 236 #[ptr X.M] u fun e w'=>e=.returned (.string (uO bM X.fl))/\ah u w':=by
 have HS:Hid (St X d u):=h;have HT:Hid (jV X):=hT;have HU:Hid (X.fns=.slice (some ⟨ub,uo,none⟩) nf uc/\ub<X.W.heap.size/\ub≠X.M):=⟨hf,hub⟩;have HX:Hid (∀i,i<X.fl->kV X ub uo nf (bM i) u/\d.fr[i]?=some (ptr (bM i).F)):=hfx;obtain⟨gF,hfa,hgl,Iw,_⟩:=h.J5;have m23:u.cell? ⟨X.M,23,none⟩=some (ptr X.T):=h.m.1.cell 23 rfl;have t7:u.cell? ⟨X.T,7,none⟩=some (.slice (some ⟨gF,0,none⟩) X.fl d.fc):=by rw[<-hfa];exact h.t.1.cell 7 rfl
 have JK:Hid (d.fa=some ⟨gF,0,none⟩/\gF<u.heap.size):=⟨hfa,hgl⟩;have kU:=h.m.1.1;have hTl:=h.t.1.1;have hn1:=h.x.f0;have hn2:=h.x.f2;obtain⟨n,hnn⟩:∃n,X.fl=n:=⟨_,rfl⟩;have Ns:Hid (X.fl=n):=hnn;rw[hnn] at t7 hn1 hn2;rw[hnn];obtain⟨sT,pI⟩:∃sT,uO bM n=sT:=⟨_,rfl⟩;rw[pI];have xU:Hid (uO bM n=sT):=pI;clear h hf hub hfx hT hfa hgl Iw hnn pI;refine callsIn_wide.1 (callsIn_of_wp_marks (F:=Fence.wide) (n:=3) Tryz.func236 rfl trivial ?_ rfl);simp only[Tryz.ntmps236,List.size_toArray,List.length_cons,List.length_nil,Nat.reduceAdd,Nat.reduceSub,Array.replicate_succ,Array.replicate_zero,List.push_toArray,List.append_toArray,List.nil_append,List.cons_append];refine wpIn_wide.2 ?_;go_wp2_with fail;refine(zf5 _ _ _ _).mono ?_;rintro e w1 ⟨rfl,rfl⟩;go_wp2_with fail;obtain⟨E,hE⟩:∃E,u.heap.size=E:=⟨_,rfl⟩;obtain⟨W0,hW0⟩:∃W0,((u.alloc (.cells #[ptr X.M] 39)).alloc (.cells #[.slice none 0 0] 25)).alloc (.cells #[.slice (some ⟨gF,0,none⟩) n d.fc] 114)=W0:=⟨_,rfl⟩;have HW:Hid (W0.heap.size=E+3/\ah u W0/\Has W0 E #[ptr X.M]/\OwnB W0 (E+1) #[.slice none 0 0]/\Has W0 (E+1 + 1) #[.slice (some ⟨gF,0,none⟩) n d.fc]):=by
  have k1:=Has.new u #[ptr X.M] 39;have k2:OwnB _ _ _:=OwnB.new (u.alloc (.cells #[ptr X.M] 39)) #[.slice none 0 0] 25;have k3:=Has.new ((u.alloc (.cells #[ptr X.M] 39)).alloc (.cells #[.slice none 0 0] 25)) #[.slice (some ⟨gF,0,none⟩) n d.fc] 114;rw[World.size_alloc] at k2;rw[World.size_alloc,World.size_alloc] at k3;rw[<-hW0,<-hE];exact⟨by simp,((q01 _ _).alloc (by simp) _).alloc (by simp;omega) _,(k1.alloc _).alloc _,OwnB.block k2 (by simp) (Below.heap_alloc _ _ _ (by simp)),k3⟩
 rw[hW0,hE];clear hW0 m23 t7 kU hTl;have HE:Hid (u.heap.size=E):=hE;clear hE;have Ci:Hid (St X d W0):=HS.call HW.2.1;have Sm:Hid (∀i,i<n->∀w',Gx (fun b=>b=E+1) W0 w'->zY X E ub uo nf uc (bM i) w'):=fun i hi w' g=>by
  have hs:=HS.out;have he:=HE.out;have hsz:=HW.1;have hk:∀b o,b<E->w'.cell? ⟨b,o,none⟩=W0.cell? ⟨b,o,none⟩:=fun b o hb=>World.cell?_of_block (a:=⟨b,o,none⟩) (g.block b (by omega) (by omega));have hk2:∀b o,b<E->w'.cell? ⟨b,o,none⟩=u.cell? ⟨b,o,none⟩:=fun b o hb=>(hk b o hb).trans (HW.2.1.cell (p:=⟨b,o,none⟩) (by show b<u.heap.size;omega));have hM:=hs.m.1.1;have hu:=HU.out;have hks:=hs.k.size;obtain⟨hfo,_⟩:=HX.out i (by rw[Ns.out];exact hi);have hlt:=hfo.lt;refine⟨(World.cell?_of_block (a:=⟨E,0,none⟩) (g.block E (by omega) (by omega))).trans (HW.2.2.1.cell 0 rfl),?_,?_,?_,?_⟩
  ·rw[hk _ _ (by omega),<-hu.1];exact Ci.m.1.cell 0 rfl
  ·rw[hk2 _ _ (by omega)];exact hfo.c1
  ·rw[hk2 _ _ (by omega)];exact hfo.c12
  ·rw[hk2 _ _ (by omega)];exact(World.cell?_of_block (a:=⟨ub,uo+(bM i).fn*7,none⟩) (hs.k.block ub hu.2.1 (fun e=>by
    rcases e with e|e
    ·exact hu.2.2 e
    ·have h1:=hu.2.1;have h2:X.W.heap.size<=ub:=e;omega))).trans hfo.nm
 have HTT:Hid (∀w',Gx (fun b=>b=E+1) W0 w'->eU w'):=fun w' g=>HT.out w' (Ci.k.trans g (fun k hk e=>.inr (by have:=HS.k.size;have:=HE.out;omega)));have hR0:aP 1 0 W0 (some ⟨gF,0,none⟩) n fun i=>#[ptr (bM i).F]:=fun _=>⟨gF,0,rfl,Nat.zero_le _,by have h1:=JK.2;have h2:=HW.1;have h3:=HE.out;omega,fun i hi j hj=>by
  obtain rfl:j=0:=by omega
  have h1:=Ci.fw.cells (g:=gF) (by rw[JK.1];rfl) i _ (HX.out i (by rw[Ns.out];exact hi)).2;have h2:W0.cell? ⟨gF,0+i*1+0,none⟩=some (ptr (bM i).F):=by
   rw[show 0+i*1+0=i by omega]
   cases i<;>simpa[Addr.add] using h1
  exact h2⟩
 have hRE:gF<E:=by have h1:=JK.2;have h3:=HE.out;omega
 have hsz:=HW.1;have hcP:W0.cell? ⟨E+1 + 1,0,none⟩=some (.slice (some ⟨gF,0,none⟩) n d.fc):=HW.2.2.2.2.cell 0 rfl;refine(wpIn_wide (n:=3)).1 ?_;refine wpIn_rangeFunc_ownH (F:=Fence.wide) rfl (by omega) (gf:=329) (lb:=#[.pointer (some ⟨E+1 + 1,0,none⟩)]) rfl trivial (enters_of Tryz.func329 (by kernel_rfl) rfl)
  (encs:=fun x:Fin n=>#[.int .i64 (x.val:Int),ptr (bM x.val).F]) (Kp:=KN W0.heap.size (E+1)) (S:=fun ys=>ys.map Fin.val=jD n n) (Sp:=fun _=>True) (N:=n) (w0:=W0)
  (fun l J Jx W hW _ _ hY h0=>Z8 l (E+1 + 1) (E+1) (some ⟨gF,0,none⟩) n d.fc (fun i=>ptr (bM i).F) (by omega) J Jx W0 W hW hY (by omega) (by omega) (fun b off _ e=>by cases e;omega) hcP hR0 h0)
  KN.trans (fun W l o o' hl _ _ _=>⟨by simp,fun k hk _=>World.putObj_heap_other (fun e=>by omega)⟩) (Below.refl _ _) (fun _=>rfl)
  (fun pre W=>lZ (E+1) W0 (pre.map (fun x:Fin n=>(bM x.val).text)) W)
  (fun _ _ _=>False)
  (fun pre W W' row hs hg hr=>lZ.abide (by omega) hs hg hr)
  (fun c s W W' row hs hg hr=>hs)
  ⟨Gx.refl _ _,none,0,HW.2.2.2.1,World.ownsRow_nil _ _ _ _⟩
  (fun x a' _=>a'=trA X E (.slice (some ⟨gF,0,none⟩) n d.fc) (x.val:Int) (bM x.val).F)
  (fun x a' _ W W' row hs hg hr=>hs)
  ?assign ?body ?done ?stop
 case assign=>
  rintro l pre x W K hJ hK;gi_wp2;exact hK _ _ ((KeepsOthers.refl _).from _) (KN.refl _ _ _) hJ rfl
 case body=>
  rintro l pre x a' W hl ⟨r,hr⟩ hJ rfl hlt;obtain⟨fx,zL⟩:∃fx,bM x.val=fx:=⟨_,rfl⟩;have YK:Hid (bM x.val=fx):=zL;have HJ:Hid (lZ (E+1) W0 (pre.map (fun x:Fin n=>(bM x.val).text)) W):=hJ;obtain⟨aJ,cJ,QN,hrow0⟩:=hJ.r;obtain⟨nJ,Me⟩:∃nJ,(pre.map (fun x:Fin n=>(bM x.val).text)).length=nJ:=⟨_,rfl⟩;rw[Me] at QN hrow0;have hpl:nJ<=3000:=by rw[<-Me,List.length_map];omega
  have HQ:Hid (OwnB W (E+1) #[.slice aJ nJ cJ]/\W.ownsRow W0.heap.size 9 1 (.slice aJ nJ cJ) nJ (qZ (pre.map (fun x:Fin n=>(bM x.val).text)))/\(pre.map (fun x:Fin n=>(bM x.val).text)).length=nJ/\nJ<=3000):=⟨QN,hrow0,Me,hpl⟩;clear hJ QN hrow0 Me hpl;obtain⟨hfo,_⟩:=HX.out x.val (by rw[Ns.out];exact x.isLt);rw[zL] at hfo;have HL:Hid (dU fx.ln/\fx.fn<nf/\fx.nm.size<=1000):=⟨hfo.ln,hfo.fn,hfo.sz⟩;have xX:Hid (∀w',Gx (fun b=>b=E+1) W0 w'->zY X E ub uo nf uc fx w'):=fun w' g=>by rw[<-YK.out];exact Sm x.val x.isLt w' g
  rw[zL];clear hfo zL;have kH:Hid (∀w',ah W w'->zY X E ub uo nf uc fx w'):=fun w' hb=>xX.out w' (HJ.k.trans (Gx.below (fun b=>b=E+1) hb) (fun _ _ e=>e));have Np:Hid (∀w',ah W w'->eU w'):=fun w' hb=>HTT.out w' (HJ.k.trans (Gx.below (fun b=>b=E+1) hb) (fun _ _ e=>e));have vH:Hid (∀w',ah W w'->w'.cell? ⟨E+1,0,none⟩=some (.slice aJ nJ cJ)):=fun w' hb=>(hb.cell (p:=⟨E+1,0,none⟩) HQ.1.1.1).trans (HQ.1.1.cell 0 rfl);have HB:Hid (ah W W.drew):=(Below.refl _ _).drew;have c0:=vH.out _ HB.out;have hi0:(0:Int)<=(fx.fn:Int):=Int.natCast_nonneg _;have hi1:(fx.fn:Int)<(nf:Int):=by have:=HL.2.1;omega
  have bW:¬9223372036854775807<(ni fx.nm).size+1:=by
   have h1:=L9 fx.nm;have h2:=HL.2.2;omega
  have hsz5:¬9223372036854775807<(ni fx.nm).size+1 + (bA (bI fx.ln)).size:=by
   have h1:=KY fx.ln;have h2:(bA (bI fx.ln)).size=(bI fx.ln).length:=EM _;have h3:=L9 fx.nm;have h4:=HL.2.2;omega
  gi_wp2;refine wpIn_mono (Q:=AA fun _ w'=>lZ (E+1) W0 (pre.map (fun x:Fin n=>(bM x.val).text)++[fx.text]) w'/\KeepsOthers W w'/\KN W0.heap.size (E+1) W w') ?reg ?go
  case go=>
   rintro e a w' ⟨rfl,h1,h2,h3⟩;gi_wp2;refine⟨h2.from _,h3,?_⟩;show lZ (E+1) W0 ((pre++[x]).map (fun x:Fin n=>(bM x.val).text)) w';rw[List.map_append,List.map_cons,List.map_nil,YK.out];exact h1
  refine qo9 (S:=zY X E ub uo nf uc fx) (by kernel_rfl) (by kernel_rfl) (kH.out _ HB.out) (fun ak=>?_);refine wpAnyH_take (i:=1) (oi:=⟨some 17,_,_,_,_,_⟩) (v:=?v1) rfl (by kernel_rfl) (by kernel_rfl) (by kernel_rfl) (fun _ _ _ h=>nomatch h.1) (Or.inl ⟨by rfl,?hy1⟩) (by assumption) ?mV
  case hy1=>(intro wz hSw;(try dsimp only at hSw);(first|(go_simp<;>with_reducible rfl)|(simp only[hsz5] at *;go_simp;rw[if_neg hsz5])|(simp only[bW] at *;go_simp;rw[if_neg bW])))
  try simp only[Act.put,aG,aF,aA]
  refine wpAnyH_take (i:=2) (oi:=⟨some 18,_,_,_,_,_⟩) (v:=?v2) rfl (by kernel_rfl) (by kernel_rfl) (by kernel_rfl) (fun _ _ _ h=>nomatch h.1) (Or.inl ⟨by rfl,?hy2⟩) (by assumption) ?mQ
  case hy2=>(intro wz hSw;(try dsimp only at hSw);(first|(go_simp<;>with_reducible rfl)|(simp only[hsz5] at *;go_simp;rw[if_neg hsz5])|(simp only[bW] at *;go_simp;rw[if_neg bW])))
  try simp only[Act.put,aG,aF,aA]
  refine wpAnyH_take (i:=3) (oi:=⟨some 19,_,_,_,_,_⟩) (v:=?v3) rfl (by kernel_rfl) (by kernel_rfl) (by kernel_rfl) (fun _ _ _ h=>nomatch h.1) (Or.inl ⟨by rfl,?hy3⟩) (by assumption) ?mP
  case hy3=>(intro wz hSw;(try dsimp only at hSw);(first|(go_simp<;>with_reducible rfl)|(simp only[hsz5] at *;go_simp;rw[if_neg hsz5])|(simp only[bW] at *;go_simp;rw[if_neg bW])))
  try simp only[Act.put,aG,aF,aA]
  refine wpAnyH_take (i:=4) (oi:=⟨some 20,_,_,_,_,_⟩) (v:=?v4) rfl (by kernel_rfl) (by kernel_rfl) (by kernel_rfl) (fun _ _ _ h=>nomatch h.1) (Or.inl ⟨by rfl,?hy4⟩) (by assumption) ?mO
  case hy4=>(intro wz hSw;(try dsimp only at hSw);(first|(go_simp<;>with_reducible rfl)|(simp only[hsz5] at *;go_simp;rw[if_neg hsz5])|(simp only[bW] at *;go_simp;rw[if_neg bW])))
  try simp only[Act.put,aG,aF,aA]
  refine wpAnyH_take (i:=5) (oi:=⟨some 21,_,_,_,_,_⟩) (v:=?v5) rfl (by kernel_rfl) (by kernel_rfl) (by kernel_rfl) (fun _ _ _ h=>nomatch h.1) (Or.inl ⟨by rfl,?uw⟩) (by assumption) ?mM
  case uw=>(intro wz hSw;(try dsimp only at hSw);(first|(go_simp<;>with_reducible rfl)|(simp only[hsz5] at *;go_simp;rw[if_neg hsz5])|(simp only[bW] at *;go_simp;rw[if_neg bW])))
  try simp only[Act.put,aG,aF,aA]
  refine wpAnyH_take (i:=6) (oi:=⟨some 22,_,_,_,_,_⟩) (v:=?v6) rfl (by kernel_rfl) (by kernel_rfl) (by kernel_rfl) (fun _ _ _ h=>nomatch h.1) (Or.inl ⟨by rfl,?wL⟩) (by assumption) ?pY
  case wL=>(intro wz hSw;(try dsimp only at hSw);(first|(go_simp<;>with_reducible rfl)|(simp only[hsz5] at *;go_simp;rw[if_neg hsz5])|(simp only[bW] at *;go_simp;rw[if_neg bW])))
  try simp only[Act.put,aG,aF,aA]
  refine wpAnyH_take (i:=7) (oi:=⟨some 23,_,_,_,_,_⟩) (v:=?v7) rfl (by kernel_rfl) (by kernel_rfl) (by kernel_rfl) (fun _ _ _ h=>nomatch h.1) (Or.inl ⟨by rfl,?qw⟩) (by assumption) ?mJ
  case qw=>(intro wz hSw;(try dsimp only at hSw);(first|(go_simp<;>with_reducible rfl)|(simp only[hsz5] at *;go_simp;rw[if_neg hsz5])|(simp only[bW] at *;go_simp;rw[if_neg bW])))
  try simp only[Act.put,aG,aF,aA]
  refine wpAnyH_take (i:=8) (oi:=⟨some 24,_,_,_,_,_⟩) (v:=?v8) rfl (by kernel_rfl) (by kernel_rfl) (by kernel_rfl) (fun _ _ _ h=>nomatch h.1) (Or.inl ⟨by rfl,?rJ⟩) (by assumption) ?kM
  case rJ=>(intro wz hSw;(try dsimp only at hSw);(first|(go_simp<;>with_reducible rfl)|(simp only[hsz5] at *;go_simp;rw[if_neg hsz5])|(simp only[bW] at *;go_simp;rw[if_neg bW])))
  try simp only[Act.put,aG,aF,aA]
  refine wpAnyH_take (i:=9) (oi:=⟨some 25,_,_,_,_,_⟩) (v:=?v9) rfl (by kernel_rfl) (by kernel_rfl) (by kernel_rfl) (fun _ _ _ h=>nomatch h.1) (Or.inl ⟨by rfl,?wK⟩) (by assumption) ?pX
  case wK=>(intro wz hSw;(try dsimp only at hSw);(first|(go_simp<;>with_reducible rfl)|(simp only[hsz5] at *;go_simp;rw[if_neg hsz5])|(simp only[bW] at *;go_simp;rw[if_neg bW])))
  try simp only[Act.put,aG,aF,aA]
  refine wpAnyH_take (i:=10) (oi:=⟨some 26,_,_,_,_,_⟩) (v:=?v10) rfl (by kernel_rfl) (by kernel_rfl) (by kernel_rfl) (fun _ _ _ h=>nomatch h.1) (Or.inl ⟨by rfl,?oG⟩) (by assumption) ?o9
  case oG=>(intro wz hSw;(try dsimp only at hSw);(first|(go_simp<;>with_reducible rfl)|(simp only[hsz5] at *;go_simp;rw[if_neg hsz5])|(simp only[bW] at *;go_simp;rw[if_neg bW])))
  try simp only[Act.put,aG,aF,aA]
  refine wpAnyH_take (i:=11) (oi:=⟨some 27,_,_,_,_,_⟩) (v:=?v11) rfl (by kernel_rfl) (by kernel_rfl) (by kernel_rfl) (fun _ _ _ h=>nomatch h.1) (Or.inl ⟨by rfl,?oD⟩) (by assumption) ?o8
  case oD=>(intro wz hSw;(try dsimp only at hSw);(first|(go_simp<;>with_reducible rfl)|(simp only[hsz5] at *;go_simp;rw[if_neg hsz5])|(simp only[bW] at *;go_simp;rw[if_neg bW])))
  try simp only[Act.put,aG,aF,aA]
  refine wpAnyH_take (i:=12) (oi:=⟨some 28,_,_,_,_,_⟩) (v:=?v12) rfl (by kernel_rfl) (by kernel_rfl) (by kernel_rfl) (fun _ _ _ h=>nomatch h.1) (Or.inl ⟨by rfl,?oC⟩) (by assumption) ?o7
  case oC=>(intro wz hSw;(try dsimp only at hSw);(first|(go_simp<;>with_reducible rfl)|(simp only[hsz5] at *;go_simp;rw[if_neg hsz5])|(simp only[bW] at *;go_simp;rw[if_neg bW])))
  try simp only[Act.put,aG,aF,aA]
  refine wpAnyH_take (i:=16) (oi:=⟨some 32,_,_,_,_,_⟩) (v:=?v13) rfl (by kernel_rfl) (by kernel_rfl) (by kernel_rfl) (fun _ _ _ h=>nomatch h.1) (Or.inl ⟨by rfl,?oz⟩) (by assumption) ?nZ
  case oz=>(intro wz hSw;(try dsimp only at hSw);(first|(go_simp<;>with_reducible rfl)|(simp only[hsz5] at *;go_simp;rw[if_neg hsz5])|(simp only[bW] at *;go_simp;rw[if_neg bW])))
  try simp only[Act.put,aG,aF,aA]
  refine wpAnyH_take (i:=17) (oi:=⟨some 33,_,_,_,_,_⟩) (v:=?v14) rfl (by kernel_rfl) (by kernel_rfl) (by kernel_rfl) (fun _ _ _ h=>nomatch h.1) (Or.inl ⟨by rfl,?ou⟩) (by assumption) ?nY
  case ou=>(intro wz hSw;(try dsimp only at hSw);(first|(go_simp<;>with_reducible rfl)|(simp only[hsz5] at *;go_simp;rw[if_neg hsz5])|(simp only[bW] at *;go_simp;rw[if_neg bW])))
  try simp only[Act.put,aG,aF,aA]
  refine wpAnyH_take (i:=18) (oi:=⟨some 34,_,_,_,_,_⟩) (v:=?v15) rfl (by kernel_rfl) (by kernel_rfl) (by kernel_rfl) (fun _ _ _ h=>nomatch h.1) (Or.inl ⟨by rfl,?rP⟩) (by assumption) ?rD
  case rP=>(intro wz hSw;(try dsimp only at hSw);(first|(go_simp<;>with_reducible rfl)|(simp only[hsz5] at *;go_simp;rw[if_neg hsz5])|(simp only[bW] at *;go_simp;rw[if_neg bW])))
  try simp only[Act.put,aG,aF,aA]
  refine wpAnyH_take (i:=19) (oi:=⟨some 35,_,_,_,_,_⟩) (v:=?v16) rfl (by kernel_rfl) (by kernel_rfl) (by kernel_rfl) (fun _ _ _ h=>nomatch h.1) (Or.inl ⟨by rfl,?rO⟩) (by assumption) ?rC
  case rO=>(intro wz hSw;(try dsimp only at hSw);(first|(go_simp<;>with_reducible rfl)|(simp only[hsz5] at *;go_simp;rw[if_neg hsz5])|(simp only[bW] at *;go_simp;rw[if_neg bW])))
  try simp only[Act.put,aG,aF,aA]
  refine wpAnyH_ready (rs:=[0,13]) (by kernel_rfl) (by simp) ?_;refine AllReadyH.cons (o:=⟨some 16,_,_,_,_,_⟩) rfl (fun K hK=>?_) ?_
  ·go_simp;refine hK.out _ _ (kH _ HB) (fun hHeld=>?_);clear hK K ak;have ak:=hHeld;clear hHeld;try simp only[Act.put,aG,aF,aA]
   refine wpAnyH_ready (rs:=[13]) (by kernel_rfl) (by simp) ?_;refine AllReadyH.cons (o:=⟨some 29,_,_,_,_,_⟩) rfl (fun K hK=>?_) AllReadyH.nil;go_simp;obtain⟨pV,oH⟩:∃pV,(World.alloc W (.cells #[.string fx.nm,.string ⟨#[102,110]⟩] 9)).drew=pV:=⟨_,rfl⟩;have HR:Hid (pV.cell? ⟨W.heap.size,0,none⟩=some (.string fx.nm)/\pV.cell? ⟨W.heap.size,1,none⟩=some (.string ⟨#[102,110]⟩)):=by rw[<-oH];exact⟨(Has.new W _ _).drew.cell 0 rfl,(Has.new W _ _).drew.cell 1 rfl⟩
   replace HB:Hid (ah W pV):=by rw[<-oH];exact(q01 _ _).drew
   rw[oH];clear oH;have c0:=vH.out _ HB.out;refine hK.out _ _ (kH _ HB) (fun hHeld=>?_);clear hK K ak;have ak:=hHeld;clear hHeld;try simp only[Act.put,aG,aF,aA]
   refine wpAnyH_ready (rs:=[14]) (by kernel_rfl) (by simp) ?_;refine AllReadyH.cons (o:=⟨some 30,_,_,_,_,_⟩) rfl (fun K hK=>?_) AllReadyH.nil;go_simp;refine(Pg _ fx.nm _ HR.1 HR.2).mono ?_;rintro e G6 ⟨rfl,rfl⟩;dsimp only;refine hK.out _ _ (kH _ HB) (fun hHeld=>?_);clear hK K ak;have ak:=hHeld;clear hHeld;try simp only[Act.put,aG,aF,aA]
   refine wpAnyH_take (i:=15) (oi:=⟨some 31,_,_,_,_,_⟩) (v:=?v17) rfl (by kernel_rfl) (by kernel_rfl) (by kernel_rfl) (fun _ _ _ h=>nomatch h.1) (Or.inl ⟨by rfl,?wS⟩) (by assumption) ?vV
   case wS=>(intro wz hSw;(try dsimp only at hSw);(first|(go_simp<;>with_reducible rfl)|(simp only[hsz5] at *;go_simp;rw[if_neg hsz5])|(simp only[bW] at *;go_simp;rw[if_neg bW])))
   try simp only[Act.put,aG,aF,aA]
   refine wpAnyH_ready (rs:=[20]) (by kernel_rfl) (by simp) ?_;refine AllReadyH.cons (o:=⟨some 36,_,_,_,_,_⟩) rfl (fun K hK=>?_) AllReadyH.nil;go_simp;refine(Lm _ _ HL.1 (Np _ HB)).mono ?_;rintro e pU ⟨rfl,kS⟩;replace HB:Hid (ah W pU):=aH HB.out kS;clear kS;have c0:=vH.out _ HB.out;dsimp only;refine hK.out _ _ (kH _ HB) (fun hHeld=>?_);clear hK K ak;have ak:=hHeld;clear hHeld;try simp only[Act.put,aG,aF,aA]
   refine wpAnyH_take (i:=21) (oi:=⟨some 37,_,_,_,_,_⟩) (v:=?v18) rfl (by kernel_rfl) (by kernel_rfl) (by kernel_rfl) (fun _ _ _ h=>nomatch h.1) (Or.inl ⟨by rfl,?rM⟩) (by assumption) ?ru
   case rM=>(intro wz hSw;(try dsimp only at hSw);(first|(go_simp<;>with_reducible rfl)|(simp only[hsz5] at *;go_simp;rw[if_neg hsz5])|(simp only[bW] at *;go_simp;rw[if_neg bW])))
   try simp only[Act.put,aG,aF,aA]
   refine wpAnyH_ready (rs:=[22]) (by kernel_rfl) (by simp) ?_;refine AllReadyH.cons (o:=⟨some 38,_,_,_,_,_⟩) rfl (fun K hK=>?_) AllReadyH.nil;go_simp;obtain⟨sT,pI⟩:∃sT:ByteArray,ni fx.nm++⟨#[58]⟩++bA (bI fx.ln)=sT:=⟨_,rfl⟩;rw[pI];have xU:Hid (fx.text=sT):=pI;obtain⟨a3,c3,jg,happ,hJ3⟩:=lZ.app (by omega) HJ.out HB.out sT HQ.out;have gZ:Hid (ah W (World.alloc pU (.cells #[.string sT] 9))):=aH HB.out (q01 _ _);have c0:=vH.out _ gZ.out;refine hK.out _ _ (kH _ gZ) (fun hHeld=>?_);clear hK K ak;have ak:=hHeld;clear hHeld;try simp only[Act.put,aG,aF,aA]
   refine wpAnyH_ready (rs:=[23]) (by kernel_rfl) (by simp) ?_;refine AllReadyH.cons (o:=⟨some 39,_,_,_,_,_⟩) rfl (fun K hK=>?_) AllReadyH.nil;refine I4 (by rfl) _ _ _ _ (by rfl) (.slice aJ nJ cJ) (.slice (some ⟨pU.heap.size,0,none⟩) 1 1) _ _ (by rfl) (by rfl) happ ?_;have c0:=hJ3.c;have cz:=hJ3.z;have oQ:Hid (zY X E ub uo nf uc fx jg):=xX.out _ hJ3.k;have HF:Hid (lZ (E+1) W0 (pre.map (fun x:Fin n=>(bM x.val).text)++[fx.text]) (jg.setCell ⟨E+1,0,none⟩ (.slice a3 (nJ+1) c3))/\KeepsOthers W (jg.setCell ⟨E+1,0,none⟩ (.slice a3 (nJ+1) c3))/\KN W0.heap.size (E+1) W (jg.setCell ⟨E+1,0,none⟩ (.slice a3 (nJ+1) c3))):=by rw[xU.out];exact⟨hJ3.t,hJ3.o,hJ3.n⟩
   clear happ hJ3 gZ;refine hK.out _ _ (oQ) (fun hHeld=>?_);clear hK K ak;have ak:=hHeld;clear hHeld;try simp only[Act.put,aG,aF,aA]
   refine wpAnyH_ready (rs:=[24]) (by kernel_rfl) (by simp) ?_;refine AllReadyH.cons (o:=⟨none,_,_,_,_,_⟩) rfl (fun K hK=>?_) AllReadyH.nil;go_simp;refine hK.out _ _ (xX _ HF.1.k) (fun hHeld=>?_);clear hK K ak;have ak:=hHeld;clear hHeld;try simp only[Act.put,aG,aF,aA]
   exact wpAnyH_done (by kernel_rfl) ⟨rfl,HF.out⟩ _
  ·skip
   refine AllReadyH.cons (o:=⟨some 29,_,_,_,_,_⟩) rfl (fun K hK=>?_) AllReadyH.nil;go_simp;obtain⟨pV,oH⟩:∃pV,(World.alloc W (.cells #[.string fx.nm,.string ⟨#[102,110]⟩] 9)).drew=pV:=⟨_,rfl⟩;have HR:Hid (pV.cell? ⟨W.heap.size,0,none⟩=some (.string fx.nm)/\pV.cell? ⟨W.heap.size,1,none⟩=some (.string ⟨#[102,110]⟩)):=by rw[<-oH];exact⟨(Has.new W _ _).drew.cell 0 rfl,(Has.new W _ _).drew.cell 1 rfl⟩
   replace HB:Hid (ah W pV):=by rw[<-oH];exact(q01 _ _).drew
   rw[oH];clear oH;have c0:=vH.out _ HB.out;refine hK.out _ _ (kH _ HB) (fun hHeld=>?_);clear hK K ak;have ak:=hHeld;clear hHeld;try simp only[Act.put,aG,aF,aA]
   refine wpAnyH_ready (rs:=[0,14]) (by kernel_rfl) (by simp) ?_;refine AllReadyH.cons (o:=⟨some 16,_,_,_,_,_⟩) rfl (fun K hK=>?_) ?_
   ·go_simp;refine hK.out _ _ (kH _ HB) (fun hHeld=>?_);clear hK K ak;have ak:=hHeld;clear hHeld;try simp only[Act.put,aG,aF,aA]
    refine wpAnyH_ready (rs:=[14]) (by kernel_rfl) (by simp) ?_;refine AllReadyH.cons (o:=⟨some 30,_,_,_,_,_⟩) rfl (fun K hK=>?_) AllReadyH.nil;go_simp;refine(Pg _ fx.nm _ HR.1 HR.2).mono ?_;rintro e G6 ⟨rfl,rfl⟩;dsimp only;refine hK.out _ _ (kH _ HB) (fun hHeld=>?_);clear hK K ak;have ak:=hHeld;clear hHeld;try simp only[Act.put,aG,aF,aA]
    refine wpAnyH_take (i:=15) (oi:=⟨some 31,_,_,_,_,_⟩) (v:=?v19) rfl (by kernel_rfl) (by kernel_rfl) (by kernel_rfl) (fun _ _ _ h=>nomatch h.1) (Or.inl ⟨by rfl,?wR⟩) (by assumption) ?vU
    case wR=>(intro wz hSw;(try dsimp only at hSw);(first|(go_simp<;>with_reducible rfl)|(simp only[hsz5] at *;go_simp;rw[if_neg hsz5])|(simp only[bW] at *;go_simp;rw[if_neg bW])))
    try simp only[Act.put,aG,aF,aA]
    refine wpAnyH_ready (rs:=[20]) (by kernel_rfl) (by simp) ?_;refine AllReadyH.cons (o:=⟨some 36,_,_,_,_,_⟩) rfl (fun K hK=>?_) AllReadyH.nil;go_simp;refine(Lm _ _ HL.1 (Np _ HB)).mono ?_;rintro e pU ⟨rfl,kS⟩;replace HB:Hid (ah W pU):=aH HB.out kS;clear kS;have c0:=vH.out _ HB.out;dsimp only;refine hK.out _ _ (kH _ HB) (fun hHeld=>?_);clear hK K ak;have ak:=hHeld;clear hHeld;try simp only[Act.put,aG,aF,aA]
    refine wpAnyH_take (i:=21) (oi:=⟨some 37,_,_,_,_,_⟩) (v:=?v20) rfl (by kernel_rfl) (by kernel_rfl) (by kernel_rfl) (fun _ _ _ h=>nomatch h.1) (Or.inl ⟨by rfl,?wQ⟩) (by assumption) ?vS
    case wQ=>(intro wz hSw;(try dsimp only at hSw);(first|(go_simp<;>with_reducible rfl)|(simp only[hsz5] at *;go_simp;rw[if_neg hsz5])|(simp only[bW] at *;go_simp;rw[if_neg bW])))
    try simp only[Act.put,aG,aF,aA]
    refine wpAnyH_ready (rs:=[22]) (by kernel_rfl) (by simp) ?_;refine AllReadyH.cons (o:=⟨some 38,_,_,_,_,_⟩) rfl (fun K hK=>?_) AllReadyH.nil;go_simp;obtain⟨sT,pI⟩:∃sT:ByteArray,ni fx.nm++⟨#[58]⟩++bA (bI fx.ln)=sT:=⟨_,rfl⟩;rw[pI];have xU:Hid (fx.text=sT):=pI;obtain⟨a3,c3,jg,happ,hJ3⟩:=lZ.app (by omega) HJ.out HB.out sT HQ.out;have gZ:Hid (ah W (World.alloc pU (.cells #[.string sT] 9))):=aH HB.out (q01 _ _);have c0:=vH.out _ gZ.out;refine hK.out _ _ (kH _ gZ) (fun hHeld=>?_);clear hK K ak;have ak:=hHeld;clear hHeld;try simp only[Act.put,aG,aF,aA]
    refine wpAnyH_ready (rs:=[23]) (by kernel_rfl) (by simp) ?_;refine AllReadyH.cons (o:=⟨some 39,_,_,_,_,_⟩) rfl (fun K hK=>?_) AllReadyH.nil;refine I4 (by rfl) _ _ _ _ (by rfl) (.slice aJ nJ cJ) (.slice (some ⟨pU.heap.size,0,none⟩) 1 1) _ _ (by rfl) (by rfl) happ ?_;have c0:=hJ3.c;have cz:=hJ3.z;have oQ:Hid (zY X E ub uo nf uc fx jg):=xX.out _ hJ3.k;have HF:Hid (lZ (E+1) W0 (pre.map (fun x:Fin n=>(bM x.val).text)++[fx.text]) (jg.setCell ⟨E+1,0,none⟩ (.slice a3 (nJ+1) c3))/\KeepsOthers W (jg.setCell ⟨E+1,0,none⟩ (.slice a3 (nJ+1) c3))/\KN W0.heap.size (E+1) W (jg.setCell ⟨E+1,0,none⟩ (.slice a3 (nJ+1) c3))):=by rw[xU.out];exact⟨hJ3.t,hJ3.o,hJ3.n⟩
    clear happ hJ3 gZ;refine hK.out _ _ (oQ) (fun hHeld=>?_);clear hK K ak;have ak:=hHeld;clear hHeld;try simp only[Act.put,aG,aF,aA]
    refine wpAnyH_ready (rs:=[24]) (by kernel_rfl) (by simp) ?_;refine AllReadyH.cons (o:=⟨none,_,_,_,_,_⟩) rfl (fun K hK=>?_) AllReadyH.nil;go_simp;refine hK.out _ _ (xX _ HF.1.k) (fun hHeld=>?_);clear hK K ak;have ak:=hHeld;clear hHeld;try simp only[Act.put,aG,aF,aA]
    exact wpAnyH_done (by kernel_rfl) ⟨rfl,HF.out⟩ _
   ·skip
    refine AllReadyH.cons (o:=⟨some 30,_,_,_,_,_⟩) rfl (fun K hK=>?_) AllReadyH.nil;go_simp;refine(Pg _ fx.nm _ HR.1 HR.2).mono ?_;rintro e G6 ⟨rfl,rfl⟩;dsimp only;refine hK.out _ _ (kH _ HB) (fun hHeld=>?_);clear hK K ak;have ak:=hHeld;clear hHeld;try simp only[Act.put,aG,aF,aA]
    refine wpAnyH_take (i:=15) (oi:=⟨some 31,_,_,_,_,_⟩) (v:=?v21) rfl (by kernel_rfl) (by kernel_rfl) (by kernel_rfl) (fun _ _ _ h=>nomatch h.1) (Or.inl ⟨by rfl,?wP⟩) (by assumption) ?vP
    case wP=>(intro wz hSw;(try dsimp only at hSw);(first|(go_simp<;>with_reducible rfl)|(simp only[hsz5] at *;go_simp;rw[if_neg hsz5])|(simp only[bW] at *;go_simp;rw[if_neg bW])))
    try simp only[Act.put,aG,aF,aA]
    refine wpAnyH_ready (rs:=[0,20]) (by kernel_rfl) (by simp) ?_;refine AllReadyH.cons (o:=⟨some 16,_,_,_,_,_⟩) rfl (fun K hK=>?_) ?_
    ·go_simp;refine hK.out _ _ (kH _ HB) (fun hHeld=>?_);clear hK K ak;have ak:=hHeld;clear hHeld;try simp only[Act.put,aG,aF,aA]
     refine wpAnyH_ready (rs:=[20]) (by kernel_rfl) (by simp) ?_;refine AllReadyH.cons (o:=⟨some 36,_,_,_,_,_⟩) rfl (fun K hK=>?_) AllReadyH.nil;go_simp;refine(Lm _ _ HL.1 (Np _ HB)).mono ?_;rintro e pU ⟨rfl,kS⟩;replace HB:Hid (ah W pU):=aH HB.out kS;clear kS;have c0:=vH.out _ HB.out;dsimp only;refine hK.out _ _ (kH _ HB) (fun hHeld=>?_);clear hK K ak;have ak:=hHeld;clear hHeld;try simp only[Act.put,aG,aF,aA]
     refine wpAnyH_take (i:=21) (oi:=⟨some 37,_,_,_,_,_⟩) (v:=?v22) rfl (by kernel_rfl) (by kernel_rfl) (by kernel_rfl) (fun _ _ _ h=>nomatch h.1) (Or.inl ⟨by rfl,?wO⟩) (by assumption) ?vO
     case wO=>(intro wz hSw;(try dsimp only at hSw);(first|(go_simp<;>with_reducible rfl)|(simp only[hsz5] at *;go_simp;rw[if_neg hsz5])|(simp only[bW] at *;go_simp;rw[if_neg bW])))
     try simp only[Act.put,aG,aF,aA]
     refine wpAnyH_ready (rs:=[22]) (by kernel_rfl) (by simp) ?_;refine AllReadyH.cons (o:=⟨some 38,_,_,_,_,_⟩) rfl (fun K hK=>?_) AllReadyH.nil;go_simp;obtain⟨sT,pI⟩:∃sT:ByteArray,ni fx.nm++⟨#[58]⟩++bA (bI fx.ln)=sT:=⟨_,rfl⟩;rw[pI];have xU:Hid (fx.text=sT):=pI;obtain⟨a3,c3,jg,happ,hJ3⟩:=lZ.app (by omega) HJ.out HB.out sT HQ.out;have gZ:Hid (ah W (World.alloc pU (.cells #[.string sT] 9))):=aH HB.out (q01 _ _);have c0:=vH.out _ gZ.out;refine hK.out _ _ (kH _ gZ) (fun hHeld=>?_);clear hK K ak;have ak:=hHeld;clear hHeld;try simp only[Act.put,aG,aF,aA]
     refine wpAnyH_ready (rs:=[23]) (by kernel_rfl) (by simp) ?_;refine AllReadyH.cons (o:=⟨some 39,_,_,_,_,_⟩) rfl (fun K hK=>?_) AllReadyH.nil;refine I4 (by rfl) _ _ _ _ (by rfl) (.slice aJ nJ cJ) (.slice (some ⟨pU.heap.size,0,none⟩) 1 1) _ _ (by rfl) (by rfl) happ ?_;have c0:=hJ3.c;have cz:=hJ3.z;have oQ:Hid (zY X E ub uo nf uc fx jg):=xX.out _ hJ3.k;have HF:Hid (lZ (E+1) W0 (pre.map (fun x:Fin n=>(bM x.val).text)++[fx.text]) (jg.setCell ⟨E+1,0,none⟩ (.slice a3 (nJ+1) c3))/\KeepsOthers W (jg.setCell ⟨E+1,0,none⟩ (.slice a3 (nJ+1) c3))/\KN W0.heap.size (E+1) W (jg.setCell ⟨E+1,0,none⟩ (.slice a3 (nJ+1) c3))):=by rw[xU.out];exact⟨hJ3.t,hJ3.o,hJ3.n⟩
     clear happ hJ3 gZ;refine hK.out _ _ (oQ) (fun hHeld=>?_);clear hK K ak;have ak:=hHeld;clear hHeld;try simp only[Act.put,aG,aF,aA]
     refine wpAnyH_ready (rs:=[24]) (by kernel_rfl) (by simp) ?_;refine AllReadyH.cons (o:=⟨none,_,_,_,_,_⟩) rfl (fun K hK=>?_) AllReadyH.nil;go_simp;refine hK.out _ _ (xX _ HF.1.k) (fun hHeld=>?_);clear hK K ak;have ak:=hHeld;clear hHeld;try simp only[Act.put,aG,aF,aA]
     exact wpAnyH_done (by kernel_rfl) ⟨rfl,HF.out⟩ _
    ·skip
     refine AllReadyH.cons (o:=⟨some 36,_,_,_,_,_⟩) rfl (fun K hK=>?_) AllReadyH.nil;go_simp;refine(Lm _ _ HL.1 (Np _ HB)).mono ?_;rintro e pU ⟨rfl,kS⟩;replace HB:Hid (ah W pU):=aH HB.out kS;clear kS;have c0:=vH.out _ HB.out;dsimp only;refine hK.out _ _ (kH _ HB) (fun hHeld=>?_);clear hK K ak;have ak:=hHeld;clear hHeld;try simp only[Act.put,aG,aF,aA]
     refine wpAnyH_take (i:=21) (oi:=⟨some 37,_,_,_,_,_⟩) (v:=?v23) rfl (by kernel_rfl) (by kernel_rfl) (by kernel_rfl) (fun _ _ _ h=>nomatch h.1) (Or.inl ⟨by rfl,?wM⟩) (by assumption) ?vN
     case wM=>(intro wz hSw;(try dsimp only at hSw);(first|(go_simp<;>with_reducible rfl)|(simp only[hsz5] at *;go_simp;rw[if_neg hsz5])|(simp only[bW] at *;go_simp;rw[if_neg bW])))
     try simp only[Act.put,aG,aF,aA]
     refine wpAnyH_ready (rs:=[0,22]) (by kernel_rfl) (by simp) ?_;refine AllReadyH.cons (o:=⟨some 16,_,_,_,_,_⟩) rfl (fun K hK=>?_) ?_
     ·go_simp;refine hK.out _ _ (kH _ HB) (fun hHeld=>?_);clear hK K ak;have ak:=hHeld;clear hHeld;try simp only[Act.put,aG,aF,aA]
      refine wpAnyH_ready (rs:=[22]) (by kernel_rfl) (by simp) ?_;refine AllReadyH.cons (o:=⟨some 38,_,_,_,_,_⟩) rfl (fun K hK=>?_) AllReadyH.nil;go_simp;obtain⟨sT,pI⟩:∃sT:ByteArray,ni fx.nm++⟨#[58]⟩++bA (bI fx.ln)=sT:=⟨_,rfl⟩;rw[pI];have xU:Hid (fx.text=sT):=pI;obtain⟨a3,c3,jg,happ,hJ3⟩:=lZ.app (by omega) HJ.out HB.out sT HQ.out;have gZ:Hid (ah W (World.alloc pU (.cells #[.string sT] 9))):=aH HB.out (q01 _ _);have c0:=vH.out _ gZ.out;refine hK.out _ _ (kH _ gZ) (fun hHeld=>?_);clear hK K ak;have ak:=hHeld;clear hHeld;try simp only[Act.put,aG,aF,aA]
      refine wpAnyH_ready (rs:=[23]) (by kernel_rfl) (by simp) ?_;refine AllReadyH.cons (o:=⟨some 39,_,_,_,_,_⟩) rfl (fun K hK=>?_) AllReadyH.nil;refine I4 (by rfl) _ _ _ _ (by rfl) (.slice aJ nJ cJ) (.slice (some ⟨pU.heap.size,0,none⟩) 1 1) _ _ (by rfl) (by rfl) happ ?_;have c0:=hJ3.c;have cz:=hJ3.z;have oQ:Hid (zY X E ub uo nf uc fx jg):=xX.out _ hJ3.k;have HF:Hid (lZ (E+1) W0 (pre.map (fun x:Fin n=>(bM x.val).text)++[fx.text]) (jg.setCell ⟨E+1,0,none⟩ (.slice a3 (nJ+1) c3))/\KeepsOthers W (jg.setCell ⟨E+1,0,none⟩ (.slice a3 (nJ+1) c3))/\KN W0.heap.size (E+1) W (jg.setCell ⟨E+1,0,none⟩ (.slice a3 (nJ+1) c3))):=by rw[xU.out];exact⟨hJ3.t,hJ3.o,hJ3.n⟩
      clear happ hJ3 gZ;refine hK.out _ _ (oQ) (fun hHeld=>?_);clear hK K ak;have ak:=hHeld;clear hHeld;try simp only[Act.put,aG,aF,aA]
      refine wpAnyH_ready (rs:=[24]) (by kernel_rfl) (by simp) ?_;refine AllReadyH.cons (o:=⟨none,_,_,_,_,_⟩) rfl (fun K hK=>?_) AllReadyH.nil;go_simp;refine hK.out _ _ (xX _ HF.1.k) (fun hHeld=>?_);clear hK K ak;have ak:=hHeld;clear hHeld;try simp only[Act.put,aG,aF,aA]
      exact wpAnyH_done (by kernel_rfl) ⟨rfl,HF.out⟩ _
     ·skip
      refine AllReadyH.cons (o:=⟨some 38,_,_,_,_,_⟩) rfl (fun K hK=>?_) AllReadyH.nil;go_simp;obtain⟨sT,pI⟩:∃sT:ByteArray,ni fx.nm++⟨#[58]⟩++bA (bI fx.ln)=sT:=⟨_,rfl⟩;rw[pI];have xU:Hid (fx.text=sT):=pI;obtain⟨a3,c3,jg,happ,hJ3⟩:=lZ.app (by omega) HJ.out HB.out sT HQ.out;have gZ:Hid (ah W (World.alloc pU (.cells #[.string sT] 9))):=aH HB.out (q01 _ _);have c0:=vH.out _ gZ.out;refine hK.out _ _ (kH _ gZ) (fun hHeld=>?_);clear hK K ak;have ak:=hHeld;clear hHeld;try simp only[Act.put,aG,aF,aA]
      refine wpAnyH_ready (rs:=[0]) (by kernel_rfl) (by simp) ?_;refine AllReadyH.cons (o:=⟨some 16,_,_,_,_,_⟩) rfl (fun K hK=>?_) AllReadyH.nil;go_simp;refine hK.out _ _ (kH _ gZ) (fun hHeld=>?_);clear hK K ak;have ak:=hHeld;clear hHeld;try simp only[Act.put,aG,aF,aA]
      refine wpAnyH_ready (rs:=[23]) (by kernel_rfl) (by simp) ?_;refine AllReadyH.cons (o:=⟨some 39,_,_,_,_,_⟩) rfl (fun K hK=>?_) AllReadyH.nil;refine I4 (by rfl) _ _ _ _ (by rfl) (.slice aJ nJ cJ) (.slice (some ⟨pU.heap.size,0,none⟩) 1 1) _ _ (by rfl) (by rfl) happ ?_;have c0:=hJ3.c;have cz:=hJ3.z;have oQ:Hid (zY X E ub uo nf uc fx jg):=xX.out _ hJ3.k;have HF:Hid (lZ (E+1) W0 (pre.map (fun x:Fin n=>(bM x.val).text)++[fx.text]) (jg.setCell ⟨E+1,0,none⟩ (.slice a3 (nJ+1) c3))/\KeepsOthers W (jg.setCell ⟨E+1,0,none⟩ (.slice a3 (nJ+1) c3))/\KN W0.heap.size (E+1) W (jg.setCell ⟨E+1,0,none⟩ (.slice a3 (nJ+1) c3))):=by rw[xU.out];exact⟨hJ3.t,hJ3.o,hJ3.n⟩
      clear happ hJ3 gZ;refine hK.out _ _ (oQ) (fun hHeld=>?_);clear hK K ak;have ak:=hHeld;clear hHeld;try simp only[Act.put,aG,aF,aA]
      refine wpAnyH_ready (rs:=[24]) (by kernel_rfl) (by simp) ?_;refine AllReadyH.cons (o:=⟨none,_,_,_,_,_⟩) rfl (fun K hK=>?_) AllReadyH.nil;go_simp;refine hK.out _ _ (xX _ HF.1.k) (fun hHeld=>?_);clear hK K ak;have ak:=hHeld;clear hHeld;try simp only[Act.put,aG,aF,aA]
      exact wpAnyH_done (by kernel_rfl) ⟨rfl,HF.out⟩ _
 case done=>
  rintro D ys W hD hS hJ hK;have hys:ys.map (fun x:Fin n=>(bM x.val).text)=(jD n n).map (fun i=>(bM i).text):=by rw[<-hS,List.map_map];rfl
  rw[hys] at hJ;have hln:((jD n n).map (fun i=>(bM i).text)).length=n:=by rw[List.length_map,He]
  obtain⟨a,c,h1,h2⟩:=hJ.r;rw[hln] at h1 h2;obtain⟨g,rfl,hc5,hcap,hlt⟩:∃g,a=some ⟨g,0,none⟩/\(∀(i:Nat) x,((jD n n).map (fun i=>(bM i).text))[i]?=some x->W.cell? ⟨g,0+i,none⟩=some (.string x))/\n<=c/\g<W.heap.size:=by
   have hown:=h2;rcases h2.2 with⟨e,h0⟩|⟨g,cap,cur,e,_,hg,h5,_⟩
   ·omega
   ·obtain⟨e1,e3⟩:a=some ⟨g,0,none⟩/\c=cap:=by simpa using e
    subst e1 e3;refine⟨g,rfl,fun i x hx=>?_,h5,(Array.getElem?_eq_some_iff.1 hg).1⟩;have:=hown.cells (g:=g) rfl i (.string x) (by
     show(List.map _ _)[i]?=_;rw[List.getElem?_map,hx];rfl)
    cases i<;>simpa[Addr.add] using this
  have QS:=WE g 0 c ((jD n n).map (fun i=>(bM i).text)) ⟨#[32]⟩ W hc5 hlt (by rw[hln];omega) (by rw[hln];exact hcap) (by
   refine Nat.le_trans (ye7 _ (fun x hx=>?_)) ?_
   ·obtain⟨s,hs,rfl⟩:=List.mem_map.1 hx;obtain⟨i,hi,rfl⟩:=List.mem_map.1 hs;have hin:i<n:=by
     obtain⟨j,hj,rfl⟩:=List.mem_map.1 hi;omega
    have h3:=lJ.text_size (bM i) (HX.out i (by rw[Ns.out];exact hin)).1.sz;show(bM i).text.size<=2000;omega
   ·rw[List.length_map,hln];omega)
  rw[hln] at QS;have HJn:Hid (Calls Tryz.prog 291 #[.slice (some ⟨g,0,none⟩) n c,.string ⟨#[32]⟩] W fun e w'=>e=.returned (.string sT)/\ah W w'):=by rw[<-xU.out];exact QS
  have c1:W.cell? ⟨E+1,0,none⟩=some (.slice (some ⟨g,0,none⟩) n c):=h1.1.cell 0 rfl;have hBW:ah u W:=HW.2.1.trans (hJ.k.to (by have:=HW.2.1.size;omega) (fun k e=>by have:=HE.out;omega));clear hS hJ hys hln h1 h2 hc5 hcap hlt QS;go_wp2_with fail;refine HJn.mono ?_;rintro e w5 ⟨rfl,hb5⟩;have hK5:w5.heap[D]?=some (.deferred (some [])):=(hb5.block D (Array.getElem?_eq_some_iff.1 hK).1).trans hK;have MR:ah u w5:=hBW.trans (hb5.mono hBW.size);go_wp2_with fail;refine⟨by simp,.inl ⟨_,_,rfl,run_takeDeferred hK5,?_⟩⟩;refine⟨.string sT,?_,rfl,MR.trans (belowK_b (w:=W0) (by have:=HW.2.1.size;omega) _ D _ _ hD hK5 rfl rfl)⟩;simp[results,Tryz.results236,go_sem]
 case stop=>
  rintro D c pre W hD _ h hK;exact h.elim
end
end Go.Proofs.YtihnikeikhjndaaGreatDoor
