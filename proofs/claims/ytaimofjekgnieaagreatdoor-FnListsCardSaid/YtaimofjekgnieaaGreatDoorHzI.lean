import Derived.Test.YtaimofjekgnieaaGreatDoorHzG
import Derived.Maps.AppendAt
import Derived.RegionIn
set_option maxRecDepth 100000
set_option maxHeartbeats 16000000
namespace Go.Proofs.YtaimofjekgnieaaGreatDoor
open Go.RowKit Go.Shelf
attribute [local go_sem] q00
attribute [local go_sem] Oper.semAt_some
theorem q50 {P:Program} {ops:Array Oper} {o:Oper} {a:Act} {w:World} {K:Act->World->Prop} {Q:Exit->Act->World->Prop} {E:Prop} (hgd:o.guard=none) (sl x:Operand) (t u:TypeId) (ho:o.op=.call {callee:=.builtin .append,args:=#[sl,x],argTypes:=#[t,u]})
  (v xv v':Value) (w':World) (hs:a.eval sl=v) (hx:a.eval x=xv) (hr:(Builtin.append_ #[t,u] o.type #[v,xv]).run P w=.ok v' w') (h:K (a.put o.dst v') w') :
  if Region.wanted o (yielded ops a.tmps)=true then Oper.wp P o a w K Q else E:=by
 have hw:Region.wanted o (yielded ops a.tmps)=true:=by simp[Region.wanted,hgd]
 rw[if_pos hw]
 unfold Oper.wp execOp
 simp only[ho,resolve,invoke,builtin,Sem.run_bind,Sem.run_pure,Result.andThen_ok,List.map_toArray,List.map_cons,List.map_nil,hs,hx,hr]
 exact h
structure FrD where
 F:Nat
 fn:Nat
 ln:Int
 nm:ByteArray
def FrD.text (f:FrD):ByteArray:=nmO f.nm++⟨#[58]⟩++bA (decB f.ln)
theorem yb3 (a b:ByteArray):(a++b).size=a.size+b.size:=ByteArray.size_append
theorem z04 (s:ByteArray):(nmO s).size<=s.size+2:=by
 unfold nmO
 split
 ·show 2<=s.size+2;omega
 ·omega
theorem FrD.text_size (f:FrD) (h:f.nm.size<=1000):f.text.size<=1100:=by
 have h1:=z04 f.nm
 have h2:=zm9 f.ln
 have h3:(bA (decB f.ln)).size=(decB f.ln).length:=zj0 _
 unfold FrD.text
 rw[yb3,yb3]
 show (nmO f.nm).size+1 + (bA (decB f.ln)).size<=1100
 omega
def strL (l:List ByteArray):List Value:=l.map fun s=>.string s
structure TrJ (C:Nat) (W0:World) (ss:List ByteArray) (W:World):Prop where
 k:Gx (fun b=>b=C) W0 W
 r:∃ a c,OwnB W C #[.slice a ss.length c]/\W.ownsRow W0.heap.size 9 1 (.slice a ss.length c) ss.length (strL ss)
theorem z65 {W:World} {N n c:Nat} {t:TypeId} {a:Option Addr} {xs:List Value} (h:W.ownsRow N t 1 (.slice a n c) n xs) {k:Nat} (e:(Value.slice a n c).ownBlock=some k):∃ o:Obj,W.heap[k]?=some o/\o.isCells=true:=by
 rcases h.2 with ⟨c,_⟩|⟨g,_,cur,c,_,hg,_⟩
 ·cases c;cases e
 ·cases c
  have:g=k:=by simpa[Value.ownBlock] using e
  subst this
  exact ⟨_,hg,rfl⟩
theorem TrJ.abide {C:Nat} {ss:List ByteArray} {W0 W W':World} {row:Option Nat} (hC:C<W0.heap.size) (h:TrJ C W0 ss W) (hg:W.grownBy W' row) (hr:∀ r,row=some r->W0.heap.size<=r/\∃ o:Obj,W.heap[r]?=some o/\o.isCells=false):TrJ C W0 ss W':=by
 have hk:∀ b,b<W0.heap.size->W'.heap[b]?=W.heap[b]?:=fun b hb=>hg.block b (Nat.lt_of_lt_of_le hb h.k.size) (fun e=>by have:=(hr b e.symm).1;omega)
 refine ⟨⟨hg.os.trans h.k.os,hg.tape.trans h.k.tape,hg.output.trans h.k.output,Nat.le_trans h.k.size hg.size,fun b hb hn=>(hk b hb).trans (h.k.block b hb hn)⟩,?_⟩
 obtain ⟨a,c,h1,h2⟩:=h.r
 refine ⟨a,c,h1.block hg.size (hk C hC),q14 h2 fun k e=>hg.block k (h2.lt k e).2 (fun e'=>?_)⟩
 obtain ⟨o,ho,hoc⟩:=z65 h2 e
 obtain ⟨o',ho',hoc'⟩:=(hr k e'.symm).2
 rw[ho] at ho'
 cases ho'
 rw[hoc] at hoc'
 cases hoc'
structure AppJ (C:Nat) (W0 W:World) (ss:List ByteArray) (s:ByteArray) (aJ:Option Addr) (nJ cJ:Nat) (a3:Option Addr) (c3:Nat) (w23:World):Prop where
 c:w23.cell? ⟨C,0,none⟩=some (.slice aJ nJ cJ)
 z:∀ o,w23.frozen? ⟨C,o,none⟩=false
 k:Gx (fun b=>b=C) W0 w23
 t:TrJ C W0 (ss++[s]) (w23.setCell ⟨C,0,none⟩ (.slice a3 (nJ+1) c3))
 o:KeepsOthers W (w23.setCell ⟨C,0,none⟩ (.slice a3 (nJ+1) c3))
 n:KN W0.heap.size C W (w23.setCell ⟨C,0,none⟩ (.slice a3 (nJ+1) c3))
theorem TrJ.app {C nJ cJ:Nat} {aJ:Option Addr} {ss:List ByteArray} {W0 W w2:World} (hC:C<W0.heap.size) (h:TrJ C W0 ss W) (hb:Below W.heap.size W w2) (s:ByteArray) (hq:OwnB W C #[.slice aJ nJ cJ]/\W.ownsRow W0.heap.size 9 1 (.slice aJ nJ cJ) nJ (strL ss)/\ss.length=nJ/\nJ<=3000) :
  ∃ a3 c3 w23,(Builtin.append_ #[25,25] 25 #[.slice aJ nJ cJ,.slice (some ⟨w2.heap.size,0,none⟩) 1 1]).run Tryz.prog (w2.alloc (.cells #[.string s] 9))=.ok (.slice a3 (nJ+1) c3) w23/\AppJ C W0 W ss s aJ nJ cJ a3 c3 w23:=by
 obtain ⟨hO,hrow,hn,hl⟩:=hq
 have hb2:Below W.heap.size W (w2.alloc (.cells #[.string s] 9)):=q02 hb (q01 _ _)
 have hs0:=h.k.size
 have hs2:=hb.size
 obtain ⟨i0,hi0,hy0,hy1,hy2⟩:=info_parts z24
 obtain ⟨v',w7,happ,hown,hgrow,_,hat⟩:=run_append_own_at (P:=Tryz.prog) (w2.alloc (.cells #[.string s] 9)) W0.heap.size 25 25 9 i0 _ 1 16 Tryz.underlying25 hi0 hy0 hy1 hy2 rfl (by decide) (.slice aJ nJ cJ) nJ (strL ss) (q18 hrow hb2) ⟨w2.heap.size,0,none⟩ 1 1 [.string s] rfl (cell_one_new _ _ _) (by simp[Value.oneCell']) (by unfold maxLen;omega) (by omega) (by simp;omega)
 obtain ⟨a3,c3,rfl⟩:=q33 hown
 have hrl:∀ k,(Value.slice aJ nJ cJ).ownBlock=some k->W0.heap.size<=k/\k<W.heap.size:=fun k e=>hrow.lt k e
 have hk7:∀ k,k<W.heap.size->(Value.slice aJ nJ cJ).ownBlock≠some k->w7.heap[k]?=W.heap[k]?:=fun k hk hne=>(hgrow.block k (by simp;omega) (fun e=>hne e.symm)).trans (hb2.block k hk)
 have hC7:w7.heap[C]?=W.heap[C]?:=hk7 C (by omega) (fun e=>by have:=(hrl C e).1;omega)
 have hsz:W.heap.size<=w7.heap.size:=by have:=hgrow.size;simp at this;omega
 have hO7:OwnB w7 C #[.slice aJ nJ cJ]:=hO.block hsz hC7
 have hcs:W.heap[C]?=w7.heap[C]?:=hC7.symm
 have g7:Gx (fun b=>b=C) W0 w7:=⟨(hgrow.os.trans hb2.os).trans h.k.os,(hgrow.tape.trans hb2.tape).trans h.k.tape,(hgrow.output.trans hb2.output).trans h.k.output,by omega,fun k hk hne=>(hk7 k (by omega) (fun e=>by have:=(hrl k e).1;omega)).trans (h.k.block k hk hne)⟩
 refine ⟨a3,c3,w7,happ,hO7.1.cell 0 rfl,hO7.2,g7,⟨g7.trans (Gx.set _ _ _ _) (fun _ _ e=>e),a3,c3,?_,?_⟩,?_,?_⟩
 ·rw[List.length_append,hn]
  exact hO7.set (o:=0) (by show 0<1;omega) _
 ·rw[List.length_append,hn]
  have:(strL (ss++[s]))=strL ss++[.string s]:=by simp[strL]
  rw[this]
  exact q16 hown _ fun k e=>by have:=(hown.lt k e).1;omega
 ·refine KeepsOthers.trans ?_ (KeepsOthers.setCell _ _ _)
  refine ⟨hsz,fun k o hk ho=>(hk7 k (Array.getElem?_eq_some_iff.1 hk).1 (fun e=>?_)).trans hk⟩
  obtain ⟨o',ho',hoc⟩:=z65 hrow e
  rw[hk] at ho'
  cases ho'
  rw[ho] at hoc
  cases hoc
 ·refine ⟨by simpa using hsz,fun k hk hne=>?_⟩
  rw[Below.heap_setCell _ _ _ _ hne]
  exact hk7 k (by omega) (fun e=>by have:=(hrl k e).1;omega)
abbrev TrS (X:RX) (E ub uo nf uc:Nat) (fx:FrD) (w':World):Prop:=w'.cell? ⟨E,0,none⟩=some (ptr X.M)/\w'.cell? ⟨X.M,0,none⟩=some (.slice (some ⟨ub,uo,none⟩) nf uc)/\w'.cell? ⟨fx.F,1,none⟩=some (.int .i64 (fx.fn:Int))/\w'.cell? ⟨fx.F,12,none⟩=some (.int .i64 fx.ln)/\w'.cell? ⟨ub,uo+fx.fn*7,none⟩=some (.string fx.nm)
abbrev trA (X:RX) (E:Nat) (fs:Value) (i:Int) (F:Nat):Act:={tmps:=#[ptr X.M,.pointer (some ⟨E,0,none⟩),.string ⟨#[]⟩,.pointer (some ⟨E+1,0,none⟩),undef,ptr F,ptr X.M,ptr X.M,.pointer (some ⟨X.M,23,none⟩),ptr X.T,ptr X.T,.pointer (some ⟨X.T,7,none⟩),fs,bfV (E+1 + 1),.int .i64 i,ptr F,undef,undef,undef,undef,undef,undef,undef,undef,undef,undef,undef,undef,undef,undef,undef,undef,undef,undef,undef,undef,undef,undef,undef,undef,undef,undef],defers:=[]}
structure FrOk (X:RX) (ub uo nf:Nat) (f:FrD) (u:World):Prop where
 lt:f.F<u.heap.size
 c1:u.cell? ⟨f.F,1,none⟩=some (.int .i64 (f.fn:Int))
 c12:u.cell? ⟨f.F,12,none⟩=some (.int .i64 f.ln)
 ln:I64r f.ln
 fn:f.fn<nf
 nm:X.W.cell? ⟨ub,uo+f.fn*7,none⟩=some (.string f.nm)
 sz:f.nm.size<=1000
def trS (fxs:Nat->FrD) (n:Nat):ByteArray:=⟨(Lib.join (((qb8 n n).map (fun i=>(fxs i).text)).map (·.data.toList)) [32]).toArray⟩
theorem yf3 (xs:List (List UInt8)) (h:∀ x∈xs,x.length<=2000):(Lib.join xs [32]).length<=xs.length*2001:=by
 have hl:∀ r:List (List UInt8),(∀ x∈r,x.length<=2000)->Lib.lens r<=r.length*2000:=fun r=>by
  induction r with
  |nil=>intro _;simp[Lib.lens]
  |cons y r ih=>
   intro hy
   have h1:=ih (fun x hx=>hy x (List.mem_cons_of_mem _ hx))
   have h2:=hy y (List.mem_cons_self ..)
   simp only[Lib.lens,List.map_cons,List.sum_cons,List.length_cons] at h1 ⊢
   omega
 cases xs with
 |nil=>simp[Lib.join]
 |cons x r=>
  rw[Lib.join_length]
  have h1:=hl (x :: r) h
  simp only[List.length_cons,List.length_nil] at h1 ⊢
  omega
theorem ze1 (X:RX) (d:MD) (ub uo nf uc:Nat) (fxs:Nat->FrD) (u:World) (h:St X d u) (hf:X.fns=.slice (some ⟨ub,uo,none⟩) nf uc) (hub:ub<X.W.heap.size/\ub≠X.M) (hfx:∀ i,i<X.fl->FrOk X ub uo nf (fxs i) u/\d.fr[i]?=some (ptr (fxs i).F)) (hT:TabX X) :
  Calls Tryz.prog 229 #[ptr X.M] u fun e w'=>e=.returned (.string (trS fxs X.fl))/\Below u.heap.size u w':=by
 have HS:Hid (St X d u):=h
 have HT:Hid (TabX X):=hT
 have HU:Hid (X.fns=.slice (some ⟨ub,uo,none⟩) nf uc/\ub<X.W.heap.size/\ub≠X.M):=⟨hf,hub⟩
 have HX:Hid (∀ i,i<X.fl->FrOk X ub uo nf (fxs i) u/\d.fr[i]?=some (ptr (fxs i).F)):=hfx
 obtain ⟨gF,hfa,hgl,hfcap,_⟩:=h.frAt
 have m23:u.cell? ⟨X.M,23,none⟩=some (ptr X.T):=h.m.1.cell 23 rfl
 have t7:u.cell? ⟨X.T,7,none⟩=some (.slice (some ⟨gF,0,none⟩) X.fl d.fc):=by rw[<-hfa];exact h.t.1.cell 7 rfl
 have HFa:Hid (d.fa=some ⟨gF,0,none⟩/\gF<u.heap.size):=⟨hfa,hgl⟩
 have hMl:=h.m.1.1
 have hTl:=h.t.1.1
 have hn1:=h.x.f0
 have hn2:=h.x.f2
 obtain ⟨n,hnn⟩:∃ n,X.fl=n:=⟨_,rfl⟩
 have HNn:Hid (X.fl=n):=hnn
 rw[hnn] at t7 hn1 hn2
 rw[hnn]
 obtain ⟨sT,hsT⟩:∃ sT,trS fxs n=sT:=⟨_,rfl⟩
 rw[hsT]
 have HsT:Hid (trS fxs n=sT):=hsT
 clear h hf hub hfx hT hfa hgl hfcap hnn hsT
 refine callsIn_wide.1 (callsIn_of_wp_marks (F:=Fence.wide) (n:=3) Tryz.func229 rfl trivial ?_ rfl)
 simp only[Tryz.ntmps229,List.size_toArray,List.length_cons,List.length_nil,Nat.reduceAdd,Nat.reduceSub,Array.replicate_succ,Array.replicate_zero,List.push_toArray,List.append_toArray,List.nil_append,List.cons_append]
 refine wpIn_wide.2 ?_
 go_wp2_with fail
 refine (zi9 _ _ _ _).mono ?_
 rintro e w1 ⟨rfl,rfl⟩
 go_wp2_with fail
 obtain ⟨E,hE⟩:∃ E,u.heap.size=E:=⟨_,rfl⟩
 obtain ⟨W0,hW0⟩:∃ W0,((u.alloc (.cells #[ptr X.M] 39)).alloc (.cells #[.slice none 0 0] 25)).alloc (.cells #[.slice (some ⟨gF,0,none⟩) n d.fc] 114)=W0:=⟨_,rfl⟩
 have HW:Hid (W0.heap.size=E+3/\Below u.heap.size u W0/\Has W0 E #[ptr X.M]/\OwnB W0 (E+1) #[.slice none 0 0]/\Has W0 (E+1 + 1) #[.slice (some ⟨gF,0,none⟩) n d.fc]):=by
  have k1:=Has.new u #[ptr X.M] 39
  have k2:OwnB _ _ _:=OwnB.new (u.alloc (.cells #[ptr X.M] 39)) #[.slice none 0 0] 25
  have k3:=Has.new ((u.alloc (.cells #[ptr X.M] 39)).alloc (.cells #[.slice none 0 0] 25)) #[.slice (some ⟨gF,0,none⟩) n d.fc] 114
  rw[World.size_alloc] at k2
  rw[World.size_alloc,World.size_alloc] at k3
  rw[<-hW0,<-hE]
  exact ⟨by simp,((q01 _ _).alloc (by simp) _).alloc (by simp;omega) _,(k1.alloc _).alloc _,OwnB.block k2 (by simp) (Below.heap_alloc _ _ _ (by simp)),k3⟩
 rw[hW0,hE]
 clear hW0 m23 t7 hMl hTl
 have HE:Hid (u.heap.size=E):=hE
 clear hE
 have HS0:Hid (St X d W0):=HS.out.call HW.out.2.1
 have HSS0:Hid (∀ i,i<n->∀ w',Gx (fun b=>b=E+1) W0 w'->TrS X E ub uo nf uc (fxs i) w'):=fun i hi w' g=>by
  have hs:=HS.out
  have he:=HE.out
  have hsz:=HW.out.1
  have hk:∀ b o,b<E->w'.cell? ⟨b,o,none⟩=W0.cell? ⟨b,o,none⟩:=fun b o hb=>World.cell?_of_block (a:=⟨b,o,none⟩) (g.block b (by omega) (by omega))
  have hk2:∀ b o,b<E->w'.cell? ⟨b,o,none⟩=u.cell? ⟨b,o,none⟩:=fun b o hb=>(hk b o hb).trans (HW.out.2.1.cell (p:=⟨b,o,none⟩) (by show b<u.heap.size;omega))
  have hM:=hs.m.1.1
  have hu:=HU.out
  have hks:=hs.k.size
  obtain ⟨hfo,_⟩:=HX.out i (by rw[HNn.out];exact hi)
  have hlt:=hfo.lt
  refine ⟨(World.cell?_of_block (a:=⟨E,0,none⟩) (g.block E (by omega) (by omega))).trans (HW.out.2.2.1.cell 0 rfl),?_,?_,?_,?_⟩
  ·rw[hk _ _ (by omega),<-hu.1];exact HS0.out.m.1.cell 0 rfl
  ·rw[hk2 _ _ (by omega)];exact hfo.c1
  ·rw[hk2 _ _ (by omega)];exact hfo.c12
  ·rw[hk2 _ _ (by omega)]
   exact (World.cell?_of_block (a:=⟨ub,uo+(fxs i).fn*7,none⟩) (hs.k.block ub hu.2.1 (fun e=>by
    rcases e with e|e
    ·exact hu.2.2 e
    ·have h1:=hu.2.1
     have h2:X.W.heap.size<=ub:=e
     omega))).trans hfo.nm
 have HTT:Hid (∀ w',Gx (fun b=>b=E+1) W0 w'->TabP w'):=fun w' g=>HT.out w' (HS0.out.k.trans g (fun k hk e=>.inr (by have:=HS.out.k.size;have:=HE.out;omega)))
 have hR0:RowN 1 0 W0 (some ⟨gF,0,none⟩) n fun i=>#[ptr (fxs i).F]:=fun _=>⟨gF,0,rfl,Nat.zero_le _,by have h1:=HFa.out.2;have h2:=HW.out.1;have h3:=HE.out;omega,fun i hi j hj=>by
  obtain rfl:j=0:=by omega
  have h1:=HS0.out.fw.cells (g:=gF) (by rw[HFa.out.1];rfl) i _ (HX.out i (by rw[HNn.out];exact hi)).2
  have h2:W0.cell? ⟨gF,0+i*1+0,none⟩=some (ptr (fxs i).F):=by
   rw[show 0+i*1+0=i by omega]
   cases i<;>simpa[Addr.add] using h1
  exact h2⟩
 have hRE:gF<E:=by have h1:=HFa.out.2;have h3:=HE.out;omega
 have hsz:=HW.out.1
 have hcP:W0.cell? ⟨E+1 + 1,0,none⟩=some (.slice (some ⟨gF,0,none⟩) n d.fc):=HW.out.2.2.2.2.cell 0 rfl
 refine (wpIn_wide (n:=3)).1 ?_
 refine wpIn_rangeFunc_ownH (F:=Fence.wide) rfl (by omega) (gf:=322) (lb:=#[.pointer (some ⟨E+1 + 1,0,none⟩)]) rfl trivial (enters_of Tryz.func322 (by kernel_rfl) rfl)
  (encs:=fun x:Fin n=>#[.int .i64 (x.val:Int),ptr (fxs x.val).F]) (Kp:=KN W0.heap.size (E+1)) (S:=fun ys=>ys.map Fin.val=qb8 n n) (Sp:=fun _=>True) (N:=n) (w0:=W0)
  (fun l J Jx W hW _ _ hY h0=>y24 l (E+1 + 1) (E+1) (some ⟨gF,0,none⟩) n d.fc (fun i=>ptr (fxs i).F) (by omega) J Jx W0 W hW hY (by omega) (by omega) (fun b off _ e=>by cases e;omega) hcP hR0 h0)
  KN.trans (fun W l o o' hl _ _ _=>⟨by simp,fun k hk _=>World.putObj_heap_other (fun e=>by omega)⟩) (Below.refl _ _) (fun _=>rfl)
  (fun pre W=>TrJ (E+1) W0 (pre.map (fun x:Fin n=>(fxs x.val).text)) W)
  (fun _ _ _=>False)
  (fun pre W W' row hs hg hr=>TrJ.abide (by omega) hs hg hr)
  (fun c s W W' row hs hg hr=>hs)
  ⟨Gx.refl _ _,none,0,HW.out.2.2.2.1,World.ownsRow_nil _ _ _ _⟩
  (fun x a' _=>a'=trA X E (.slice (some ⟨gF,0,none⟩) n d.fc) (x.val:Int) (fxs x.val).F)
  (fun x a' _ W W' row hs hg hr=>hs)
  ?assign ?body ?done ?stop
 case assign=>
  rintro l pre x W K hJ hK
  gi_wp2
  exact hK _ _ ((KeepsOthers.refl _).from _) (KN.refl _ _ _) hJ rfl
 case body=>
  rintro l pre x a' W hl ⟨r,hr⟩ hJ rfl hlt
  obtain ⟨fx,hfxe⟩:∃ fx,fxs x.val=fx:=⟨_,rfl⟩
  have HFx:Hid (fxs x.val=fx):=hfxe
  have HJ:Hid (TrJ (E+1) W0 (pre.map (fun x:Fin n=>(fxs x.val).text)) W):=hJ
  obtain ⟨aJ,cJ,hO0,hrow0⟩:=hJ.r
  obtain ⟨nJ,hnJ⟩:∃ nJ,(pre.map (fun x:Fin n=>(fxs x.val).text)).length=nJ:=⟨_,rfl⟩
  rw[hnJ] at hO0 hrow0
  have hpl:nJ<=3000:=by rw[<-hnJ,List.length_map];omega
  have HQ:Hid (OwnB W (E+1) #[.slice aJ nJ cJ]/\W.ownsRow W0.heap.size 9 1 (.slice aJ nJ cJ) nJ (strL (pre.map (fun x:Fin n=>(fxs x.val).text)))/\(pre.map (fun x:Fin n=>(fxs x.val).text)).length=nJ/\nJ<=3000):=⟨hO0,hrow0,hnJ,hpl⟩
  clear hJ hO0 hrow0 hnJ hpl
  obtain ⟨hfo,_⟩:=HX.out x.val (by rw[HNn.out];exact x.isLt)
  rw[hfxe] at hfo
  have HL:Hid (I64r fx.ln/\fx.fn<nf/\fx.nm.size<=1000):=⟨hfo.ln,hfo.fn,hfo.sz⟩
  have HSS:Hid (∀ w',Gx (fun b=>b=E+1) W0 w'->TrS X E ub uo nf uc fx w'):=fun w' g=>by rw[<-HFx.out];exact HSS0.out x.val x.isLt w' g
  rw[hfxe]
  clear hfo hfxe
  have HSW:Hid (∀ w',Below W.heap.size W w'->TrS X E ub uo nf uc fx w'):=fun w' hb=>HSS.out w' (HJ.out.k.trans (Gx.below (fun b=>b=E+1) hb) (fun _ _ e=>e))
  have HTW:Hid (∀ w',Below W.heap.size W w'->TabP w'):=fun w' hb=>HTT.out w' (HJ.out.k.trans (Gx.below (fun b=>b=E+1) hb) (fun _ _ e=>e))
  have HC0:Hid (∀ w',Below W.heap.size W w'->w'.cell? ⟨E+1,0,none⟩=some (.slice aJ nJ cJ)):=fun w' hb=>(hb.cell (p:=⟨E+1,0,none⟩) HQ.out.1.1.1).trans (HQ.out.1.1.cell 0 rfl)
  have HB:Hid (Below W.heap.size W W.drew):=(Below.refl _ _).drew
  have c0:=HC0.out _ HB.out
  have hi0:(0:Int)<=(fx.fn:Int):=Int.natCast_nonneg _
  have hi1:(fx.fn:Int)<(nf:Int):=by have:=HL.out.2.1;omega
  have hsz4:¬9223372036854775807<(nmO fx.nm).size+1:=by
   have h1:=z04 fx.nm
   have h2:=HL.out.2.2
   omega
  have hsz5:¬9223372036854775807<(nmO fx.nm).size+1 + (bA (decB fx.ln)).size:=by
   have h1:=zm9 fx.ln
   have h2:(bA (decB fx.ln)).size=(decB fx.ln).length:=zj0 _
   have h3:=z04 fx.nm
   have h4:=HL.out.2.2
   omega
  gi_wp2
  refine wpIn_mono (Q:=zd3 fun _ w'=>TrJ (E+1) W0 (pre.map (fun x:Fin n=>(fxs x.val).text)++[fx.text]) w'/\KeepsOthers W w'/\KN W0.heap.size (E+1) W w') ?reg ?go
  case go=>
   rintro e a w' ⟨rfl,h1,h2,h3⟩
   gi_wp2
   refine ⟨h2.from _,h3,?_⟩
   show TrJ (E+1) W0 ((pre++[x]).map (fun x:Fin n=>(fxs x.val).text)) w'
   rw[List.map_append,List.map_cons,List.map_nil,HFx.out]
   exact h1
  refine qn5 (S:=TrS X E ub uo nf uc fx) (by kernel_rfl) (by kernel_rfl) (HSW.out _ HB.out) (fun hHold=>?_)
  refine wpAnyH_take (i:=1) (oi:=⟨some 17,_,_,_,_,_⟩) (v:=?v1) rfl (by kernel_rfl) (by kernel_rfl) (by kernel_rfl) (fun _ _ _ h=>nomatch h.1) (Or.inl ⟨by rfl,?hy1⟩) (by assumption) ?rest1
  case hy1=>(intro wz hSw;(try dsimp only at hSw);(first|(go_simp<;>with_reducible rfl)|(simp only[hsz5] at *;go_simp;rw[if_neg hsz5])|(simp only[hsz4] at *;go_simp;rw[if_neg hsz4])))
  try simp only[Act.put,zz1,zz2,zz3]
  refine wpAnyH_take (i:=2) (oi:=⟨some 18,_,_,_,_,_⟩) (v:=?v2) rfl (by kernel_rfl) (by kernel_rfl) (by kernel_rfl) (fun _ _ _ h=>nomatch h.1) (Or.inl ⟨by rfl,?hy2⟩) (by assumption) ?rest2
  case hy2=>(intro wz hSw;(try dsimp only at hSw);(first|(go_simp<;>with_reducible rfl)|(simp only[hsz5] at *;go_simp;rw[if_neg hsz5])|(simp only[hsz4] at *;go_simp;rw[if_neg hsz4])))
  try simp only[Act.put,zz1,zz2,zz3]
  refine wpAnyH_take (i:=3) (oi:=⟨some 19,_,_,_,_,_⟩) (v:=?v3) rfl (by kernel_rfl) (by kernel_rfl) (by kernel_rfl) (fun _ _ _ h=>nomatch h.1) (Or.inl ⟨by rfl,?hy3⟩) (by assumption) ?rest3
  case hy3=>(intro wz hSw;(try dsimp only at hSw);(first|(go_simp<;>with_reducible rfl)|(simp only[hsz5] at *;go_simp;rw[if_neg hsz5])|(simp only[hsz4] at *;go_simp;rw[if_neg hsz4])))
  try simp only[Act.put,zz1,zz2,zz3]
  refine wpAnyH_take (i:=4) (oi:=⟨some 20,_,_,_,_,_⟩) (v:=?v4) rfl (by kernel_rfl) (by kernel_rfl) (by kernel_rfl) (fun _ _ _ h=>nomatch h.1) (Or.inl ⟨by rfl,?hy4⟩) (by assumption) ?rest4
  case hy4=>(intro wz hSw;(try dsimp only at hSw);(first|(go_simp<;>with_reducible rfl)|(simp only[hsz5] at *;go_simp;rw[if_neg hsz5])|(simp only[hsz4] at *;go_simp;rw[if_neg hsz4])))
  try simp only[Act.put,zz1,zz2,zz3]
  refine wpAnyH_take (i:=5) (oi:=⟨some 21,_,_,_,_,_⟩) (v:=?v5) rfl (by kernel_rfl) (by kernel_rfl) (by kernel_rfl) (fun _ _ _ h=>nomatch h.1) (Or.inl ⟨by rfl,?hy5⟩) (by assumption) ?rest5
  case hy5=>(intro wz hSw;(try dsimp only at hSw);(first|(go_simp<;>with_reducible rfl)|(simp only[hsz5] at *;go_simp;rw[if_neg hsz5])|(simp only[hsz4] at *;go_simp;rw[if_neg hsz4])))
  try simp only[Act.put,zz1,zz2,zz3]
  refine wpAnyH_take (i:=6) (oi:=⟨some 22,_,_,_,_,_⟩) (v:=?v6) rfl (by kernel_rfl) (by kernel_rfl) (by kernel_rfl) (fun _ _ _ h=>nomatch h.1) (Or.inl ⟨by rfl,?hy6⟩) (by assumption) ?rest6
  case hy6=>(intro wz hSw;(try dsimp only at hSw);(first|(go_simp<;>with_reducible rfl)|(simp only[hsz5] at *;go_simp;rw[if_neg hsz5])|(simp only[hsz4] at *;go_simp;rw[if_neg hsz4])))
  try simp only[Act.put,zz1,zz2,zz3]
  refine wpAnyH_take (i:=7) (oi:=⟨some 23,_,_,_,_,_⟩) (v:=?v7) rfl (by kernel_rfl) (by kernel_rfl) (by kernel_rfl) (fun _ _ _ h=>nomatch h.1) (Or.inl ⟨by rfl,?hy7⟩) (by assumption) ?rest7
  case hy7=>(intro wz hSw;(try dsimp only at hSw);(first|(go_simp<;>with_reducible rfl)|(simp only[hsz5] at *;go_simp;rw[if_neg hsz5])|(simp only[hsz4] at *;go_simp;rw[if_neg hsz4])))
  try simp only[Act.put,zz1,zz2,zz3]
  refine wpAnyH_take (i:=8) (oi:=⟨some 24,_,_,_,_,_⟩) (v:=?v8) rfl (by kernel_rfl) (by kernel_rfl) (by kernel_rfl) (fun _ _ _ h=>nomatch h.1) (Or.inl ⟨by rfl,?hy8⟩) (by assumption) ?rest8
  case hy8=>(intro wz hSw;(try dsimp only at hSw);(first|(go_simp<;>with_reducible rfl)|(simp only[hsz5] at *;go_simp;rw[if_neg hsz5])|(simp only[hsz4] at *;go_simp;rw[if_neg hsz4])))
  try simp only[Act.put,zz1,zz2,zz3]
  refine wpAnyH_take (i:=9) (oi:=⟨some 25,_,_,_,_,_⟩) (v:=?v9) rfl (by kernel_rfl) (by kernel_rfl) (by kernel_rfl) (fun _ _ _ h=>nomatch h.1) (Or.inl ⟨by rfl,?hy9⟩) (by assumption) ?rest9
  case hy9=>(intro wz hSw;(try dsimp only at hSw);(first|(go_simp<;>with_reducible rfl)|(simp only[hsz5] at *;go_simp;rw[if_neg hsz5])|(simp only[hsz4] at *;go_simp;rw[if_neg hsz4])))
  try simp only[Act.put,zz1,zz2,zz3]
  refine wpAnyH_take (i:=10) (oi:=⟨some 26,_,_,_,_,_⟩) (v:=?v10) rfl (by kernel_rfl) (by kernel_rfl) (by kernel_rfl) (fun _ _ _ h=>nomatch h.1) (Or.inl ⟨by rfl,?hy10⟩) (by assumption) ?rest10
  case hy10=>(intro wz hSw;(try dsimp only at hSw);(first|(go_simp<;>with_reducible rfl)|(simp only[hsz5] at *;go_simp;rw[if_neg hsz5])|(simp only[hsz4] at *;go_simp;rw[if_neg hsz4])))
  try simp only[Act.put,zz1,zz2,zz3]
  refine wpAnyH_take (i:=11) (oi:=⟨some 27,_,_,_,_,_⟩) (v:=?v11) rfl (by kernel_rfl) (by kernel_rfl) (by kernel_rfl) (fun _ _ _ h=>nomatch h.1) (Or.inl ⟨by rfl,?hy11⟩) (by assumption) ?rest11
  case hy11=>(intro wz hSw;(try dsimp only at hSw);(first|(go_simp<;>with_reducible rfl)|(simp only[hsz5] at *;go_simp;rw[if_neg hsz5])|(simp only[hsz4] at *;go_simp;rw[if_neg hsz4])))
  try simp only[Act.put,zz1,zz2,zz3]
  refine wpAnyH_take (i:=12) (oi:=⟨some 28,_,_,_,_,_⟩) (v:=?v12) rfl (by kernel_rfl) (by kernel_rfl) (by kernel_rfl) (fun _ _ _ h=>nomatch h.1) (Or.inl ⟨by rfl,?hy12⟩) (by assumption) ?rest12
  case hy12=>(intro wz hSw;(try dsimp only at hSw);(first|(go_simp<;>with_reducible rfl)|(simp only[hsz5] at *;go_simp;rw[if_neg hsz5])|(simp only[hsz4] at *;go_simp;rw[if_neg hsz4])))
  try simp only[Act.put,zz1,zz2,zz3]
  refine wpAnyH_take (i:=16) (oi:=⟨some 32,_,_,_,_,_⟩) (v:=?v13) rfl (by kernel_rfl) (by kernel_rfl) (by kernel_rfl) (fun _ _ _ h=>nomatch h.1) (Or.inl ⟨by rfl,?hy13⟩) (by assumption) ?rest13
  case hy13=>(intro wz hSw;(try dsimp only at hSw);(first|(go_simp<;>with_reducible rfl)|(simp only[hsz5] at *;go_simp;rw[if_neg hsz5])|(simp only[hsz4] at *;go_simp;rw[if_neg hsz4])))
  try simp only[Act.put,zz1,zz2,zz3]
  refine wpAnyH_take (i:=17) (oi:=⟨some 33,_,_,_,_,_⟩) (v:=?v14) rfl (by kernel_rfl) (by kernel_rfl) (by kernel_rfl) (fun _ _ _ h=>nomatch h.1) (Or.inl ⟨by rfl,?hy14⟩) (by assumption) ?rest14
  case hy14=>(intro wz hSw;(try dsimp only at hSw);(first|(go_simp<;>with_reducible rfl)|(simp only[hsz5] at *;go_simp;rw[if_neg hsz5])|(simp only[hsz4] at *;go_simp;rw[if_neg hsz4])))
  try simp only[Act.put,zz1,zz2,zz3]
  refine wpAnyH_take (i:=18) (oi:=⟨some 34,_,_,_,_,_⟩) (v:=?v15) rfl (by kernel_rfl) (by kernel_rfl) (by kernel_rfl) (fun _ _ _ h=>nomatch h.1) (Or.inl ⟨by rfl,?hy15⟩) (by assumption) ?rest15
  case hy15=>(intro wz hSw;(try dsimp only at hSw);(first|(go_simp<;>with_reducible rfl)|(simp only[hsz5] at *;go_simp;rw[if_neg hsz5])|(simp only[hsz4] at *;go_simp;rw[if_neg hsz4])))
  try simp only[Act.put,zz1,zz2,zz3]
  refine wpAnyH_take (i:=19) (oi:=⟨some 35,_,_,_,_,_⟩) (v:=?v16) rfl (by kernel_rfl) (by kernel_rfl) (by kernel_rfl) (fun _ _ _ h=>nomatch h.1) (Or.inl ⟨by rfl,?hy16⟩) (by assumption) ?rest16
  case hy16=>(intro wz hSw;(try dsimp only at hSw);(first|(go_simp<;>with_reducible rfl)|(simp only[hsz5] at *;go_simp;rw[if_neg hsz5])|(simp only[hsz4] at *;go_simp;rw[if_neg hsz4])))
  try simp only[Act.put,zz1,zz2,zz3]
  refine wpAnyH_ready (rs:=[0,13]) (by kernel_rfl) (by simp) ?_
  refine AllReadyH.cons (o:=⟨some 16,_,_,_,_,_⟩) rfl (fun K hK=>?_) ?_
  ·go_simp
   refine hK.out _ _ (HSW.out _ HB.out) (fun hHeld=>?_)
   clear hK K hHold
   have hHold:=hHeld
   clear hHeld
   try simp only[Act.put,zz1,zz2,zz3]
   refine wpAnyH_ready (rs:=[13]) (by kernel_rfl) (by simp) ?_
   refine AllReadyH.cons (o:=⟨some 29,_,_,_,_,_⟩) rfl (fun K hK=>?_) AllReadyH.nil
   go_simp
   obtain ⟨w13,hw13⟩:∃ w13,(World.alloc W (.cells #[.string fx.nm,.string ⟨#[102,110]⟩] 9)).drew=w13:=⟨_,rfl⟩
   have HR:Hid (w13.cell? ⟨W.heap.size,0,none⟩=some (.string fx.nm)/\w13.cell? ⟨W.heap.size,1,none⟩=some (.string ⟨#[102,110]⟩)):=by rw[<-hw13];exact ⟨(Has.new W _ _).drew.cell 0 rfl,(Has.new W _ _).drew.cell 1 rfl⟩
   replace HB:Hid (Below W.heap.size W w13):=by rw[<-hw13];exact (q01 _ _).drew
   rw[hw13]
   clear hw13
   have c0:=HC0.out _ HB.out
   refine hK.out _ _ (HSW.out _ HB.out) (fun hHeld=>?_)
   clear hK K hHold
   have hHold:=hHeld
   clear hHeld
   try simp only[Act.put,zz1,zz2,zz3]
   refine wpAnyH_ready (rs:=[14]) (by kernel_rfl) (by simp) ?_
   refine AllReadyH.cons (o:=⟨some 30,_,_,_,_,_⟩) rfl (fun K hK=>?_) AllReadyH.nil
   go_simp
   refine (qp0 _ fx.nm _ HR.out.1 HR.out.2).mono ?_
   rintro e w14 ⟨rfl,rfl⟩
   dsimp only
   refine hK.out _ _ (HSW.out _ HB.out) (fun hHeld=>?_)
   clear hK K hHold
   have hHold:=hHeld
   clear hHeld
   try simp only[Act.put,zz1,zz2,zz3]
   refine wpAnyH_take (i:=15) (oi:=⟨some 31,_,_,_,_,_⟩) (v:=?v17) rfl (by kernel_rfl) (by kernel_rfl) (by kernel_rfl) (fun _ _ _ h=>nomatch h.1) (Or.inl ⟨by rfl,?hy17⟩) (by assumption) ?rest17
   case hy17=>(intro wz hSw;(try dsimp only at hSw);(first|(go_simp<;>with_reducible rfl)|(simp only[hsz5] at *;go_simp;rw[if_neg hsz5])|(simp only[hsz4] at *;go_simp;rw[if_neg hsz4])))
   try simp only[Act.put,zz1,zz2,zz3]
   refine wpAnyH_ready (rs:=[20]) (by kernel_rfl) (by simp) ?_
   refine AllReadyH.cons (o:=⟨some 36,_,_,_,_,_⟩) rfl (fun K hK=>?_) AllReadyH.nil
   go_simp
   refine (qf3 _ _ HL.out.1 (HTW.out _ HB.out)).mono ?_
   rintro e w20 ⟨rfl,hb20⟩
   replace HB:Hid (Below W.heap.size W w20):=q02 HB.out hb20
   clear hb20
   have c0:=HC0.out _ HB.out
   dsimp only
   refine hK.out _ _ (HSW.out _ HB.out) (fun hHeld=>?_)
   clear hK K hHold
   have hHold:=hHeld
   clear hHeld
   try simp only[Act.put,zz1,zz2,zz3]
   refine wpAnyH_take (i:=21) (oi:=⟨some 37,_,_,_,_,_⟩) (v:=?v18) rfl (by kernel_rfl) (by kernel_rfl) (by kernel_rfl) (fun _ _ _ h=>nomatch h.1) (Or.inl ⟨by rfl,?hy18⟩) (by assumption) ?rest18
   case hy18=>(intro wz hSw;(try dsimp only at hSw);(first|(go_simp<;>with_reducible rfl)|(simp only[hsz5] at *;go_simp;rw[if_neg hsz5])|(simp only[hsz4] at *;go_simp;rw[if_neg hsz4])))
   try simp only[Act.put,zz1,zz2,zz3]
   refine wpAnyH_ready (rs:=[22]) (by kernel_rfl) (by simp) ?_
   refine AllReadyH.cons (o:=⟨some 38,_,_,_,_,_⟩) rfl (fun K hK=>?_) AllReadyH.nil
   go_simp
   obtain ⟨sT,hsT⟩:∃ sT:ByteArray,nmO fx.nm++⟨#[58]⟩++bA (decB fx.ln)=sT:=⟨_,rfl⟩
   rw[hsT]
   have HsT:Hid (fx.text=sT):=hsT
   obtain ⟨a3,c3,w23,happ,hJ3⟩:=TrJ.app (by omega) HJ.out HB.out sT HQ.out
   have HB22:Hid (Below W.heap.size W (World.alloc w20 (.cells #[.string sT] 9))):=q02 HB.out (q01 _ _)
   have c0:=HC0.out _ HB22.out
   refine hK.out _ _ (HSW.out _ HB22.out) (fun hHeld=>?_)
   clear hK K hHold
   have hHold:=hHeld
   clear hHeld
   try simp only[Act.put,zz1,zz2,zz3]
   refine wpAnyH_ready (rs:=[23]) (by kernel_rfl) (by simp) ?_
   refine AllReadyH.cons (o:=⟨some 39,_,_,_,_,_⟩) rfl (fun K hK=>?_) AllReadyH.nil
   refine q50 (by rfl) _ _ _ _ (by rfl) (.slice aJ nJ cJ) (.slice (some ⟨w20.heap.size,0,none⟩) 1 1) _ _ (by rfl) (by rfl) happ ?_
   have c0:=hJ3.c
   have cz:=hJ3.z
   have HS23:Hid (TrS X E ub uo nf uc fx w23):=HSS.out _ hJ3.k
   have HF:Hid (TrJ (E+1) W0 (pre.map (fun x:Fin n=>(fxs x.val).text)++[fx.text]) (w23.setCell ⟨E+1,0,none⟩ (.slice a3 (nJ+1) c3))/\KeepsOthers W (w23.setCell ⟨E+1,0,none⟩ (.slice a3 (nJ+1) c3))/\KN W0.heap.size (E+1) W (w23.setCell ⟨E+1,0,none⟩ (.slice a3 (nJ+1) c3))):=by rw[HsT.out];exact ⟨hJ3.t,hJ3.o,hJ3.n⟩
   clear happ hJ3 HB22
   refine hK.out _ _ (HS23.out) (fun hHeld=>?_)
   clear hK K hHold
   have hHold:=hHeld
   clear hHeld
   try simp only[Act.put,zz1,zz2,zz3]
   refine wpAnyH_ready (rs:=[24]) (by kernel_rfl) (by simp) ?_
   refine AllReadyH.cons (o:=⟨none,_,_,_,_,_⟩) rfl (fun K hK=>?_) AllReadyH.nil
   go_simp
   refine hK.out _ _ (HSS.out _ HF.out.1.k) (fun hHeld=>?_)
   clear hK K hHold
   have hHold:=hHeld
   clear hHeld
   try simp only[Act.put,zz1,zz2,zz3]
   exact wpAnyH_done (by kernel_rfl) ⟨rfl,HF.out⟩ _
  ·skip
   refine AllReadyH.cons (o:=⟨some 29,_,_,_,_,_⟩) rfl (fun K hK=>?_) AllReadyH.nil
   go_simp
   obtain ⟨w13,hw13⟩:∃ w13,(World.alloc W (.cells #[.string fx.nm,.string ⟨#[102,110]⟩] 9)).drew=w13:=⟨_,rfl⟩
   have HR:Hid (w13.cell? ⟨W.heap.size,0,none⟩=some (.string fx.nm)/\w13.cell? ⟨W.heap.size,1,none⟩=some (.string ⟨#[102,110]⟩)):=by rw[<-hw13];exact ⟨(Has.new W _ _).drew.cell 0 rfl,(Has.new W _ _).drew.cell 1 rfl⟩
   replace HB:Hid (Below W.heap.size W w13):=by rw[<-hw13];exact (q01 _ _).drew
   rw[hw13]
   clear hw13
   have c0:=HC0.out _ HB.out
   refine hK.out _ _ (HSW.out _ HB.out) (fun hHeld=>?_)
   clear hK K hHold
   have hHold:=hHeld
   clear hHeld
   try simp only[Act.put,zz1,zz2,zz3]
   refine wpAnyH_ready (rs:=[0,14]) (by kernel_rfl) (by simp) ?_
   refine AllReadyH.cons (o:=⟨some 16,_,_,_,_,_⟩) rfl (fun K hK=>?_) ?_
   ·go_simp
    refine hK.out _ _ (HSW.out _ HB.out) (fun hHeld=>?_)
    clear hK K hHold
    have hHold:=hHeld
    clear hHeld
    try simp only[Act.put,zz1,zz2,zz3]
    refine wpAnyH_ready (rs:=[14]) (by kernel_rfl) (by simp) ?_
    refine AllReadyH.cons (o:=⟨some 30,_,_,_,_,_⟩) rfl (fun K hK=>?_) AllReadyH.nil
    go_simp
    refine (qp0 _ fx.nm _ HR.out.1 HR.out.2).mono ?_
    rintro e w14 ⟨rfl,rfl⟩
    dsimp only
    refine hK.out _ _ (HSW.out _ HB.out) (fun hHeld=>?_)
    clear hK K hHold
    have hHold:=hHeld
    clear hHeld
    try simp only[Act.put,zz1,zz2,zz3]
    refine wpAnyH_take (i:=15) (oi:=⟨some 31,_,_,_,_,_⟩) (v:=?v19) rfl (by kernel_rfl) (by kernel_rfl) (by kernel_rfl) (fun _ _ _ h=>nomatch h.1) (Or.inl ⟨by rfl,?hy19⟩) (by assumption) ?rest19
    case hy19=>(intro wz hSw;(try dsimp only at hSw);(first|(go_simp<;>with_reducible rfl)|(simp only[hsz5] at *;go_simp;rw[if_neg hsz5])|(simp only[hsz4] at *;go_simp;rw[if_neg hsz4])))
    try simp only[Act.put,zz1,zz2,zz3]
    refine wpAnyH_ready (rs:=[20]) (by kernel_rfl) (by simp) ?_
    refine AllReadyH.cons (o:=⟨some 36,_,_,_,_,_⟩) rfl (fun K hK=>?_) AllReadyH.nil
    go_simp
    refine (qf3 _ _ HL.out.1 (HTW.out _ HB.out)).mono ?_
    rintro e w20 ⟨rfl,hb20⟩
    replace HB:Hid (Below W.heap.size W w20):=q02 HB.out hb20
    clear hb20
    have c0:=HC0.out _ HB.out
    dsimp only
    refine hK.out _ _ (HSW.out _ HB.out) (fun hHeld=>?_)
    clear hK K hHold
    have hHold:=hHeld
    clear hHeld
    try simp only[Act.put,zz1,zz2,zz3]
    refine wpAnyH_take (i:=21) (oi:=⟨some 37,_,_,_,_,_⟩) (v:=?v20) rfl (by kernel_rfl) (by kernel_rfl) (by kernel_rfl) (fun _ _ _ h=>nomatch h.1) (Or.inl ⟨by rfl,?hy20⟩) (by assumption) ?rest20
    case hy20=>(intro wz hSw;(try dsimp only at hSw);(first|(go_simp<;>with_reducible rfl)|(simp only[hsz5] at *;go_simp;rw[if_neg hsz5])|(simp only[hsz4] at *;go_simp;rw[if_neg hsz4])))
    try simp only[Act.put,zz1,zz2,zz3]
    refine wpAnyH_ready (rs:=[22]) (by kernel_rfl) (by simp) ?_
    refine AllReadyH.cons (o:=⟨some 38,_,_,_,_,_⟩) rfl (fun K hK=>?_) AllReadyH.nil
    go_simp
    obtain ⟨sT,hsT⟩:∃ sT:ByteArray,nmO fx.nm++⟨#[58]⟩++bA (decB fx.ln)=sT:=⟨_,rfl⟩
    rw[hsT]
    have HsT:Hid (fx.text=sT):=hsT
    obtain ⟨a3,c3,w23,happ,hJ3⟩:=TrJ.app (by omega) HJ.out HB.out sT HQ.out
    have HB22:Hid (Below W.heap.size W (World.alloc w20 (.cells #[.string sT] 9))):=q02 HB.out (q01 _ _)
    have c0:=HC0.out _ HB22.out
    refine hK.out _ _ (HSW.out _ HB22.out) (fun hHeld=>?_)
    clear hK K hHold
    have hHold:=hHeld
    clear hHeld
    try simp only[Act.put,zz1,zz2,zz3]
    refine wpAnyH_ready (rs:=[23]) (by kernel_rfl) (by simp) ?_
    refine AllReadyH.cons (o:=⟨some 39,_,_,_,_,_⟩) rfl (fun K hK=>?_) AllReadyH.nil
    refine q50 (by rfl) _ _ _ _ (by rfl) (.slice aJ nJ cJ) (.slice (some ⟨w20.heap.size,0,none⟩) 1 1) _ _ (by rfl) (by rfl) happ ?_
    have c0:=hJ3.c
    have cz:=hJ3.z
    have HS23:Hid (TrS X E ub uo nf uc fx w23):=HSS.out _ hJ3.k
    have HF:Hid (TrJ (E+1) W0 (pre.map (fun x:Fin n=>(fxs x.val).text)++[fx.text]) (w23.setCell ⟨E+1,0,none⟩ (.slice a3 (nJ+1) c3))/\KeepsOthers W (w23.setCell ⟨E+1,0,none⟩ (.slice a3 (nJ+1) c3))/\KN W0.heap.size (E+1) W (w23.setCell ⟨E+1,0,none⟩ (.slice a3 (nJ+1) c3))):=by rw[HsT.out];exact ⟨hJ3.t,hJ3.o,hJ3.n⟩
    clear happ hJ3 HB22
    refine hK.out _ _ (HS23.out) (fun hHeld=>?_)
    clear hK K hHold
    have hHold:=hHeld
    clear hHeld
    try simp only[Act.put,zz1,zz2,zz3]
    refine wpAnyH_ready (rs:=[24]) (by kernel_rfl) (by simp) ?_
    refine AllReadyH.cons (o:=⟨none,_,_,_,_,_⟩) rfl (fun K hK=>?_) AllReadyH.nil
    go_simp
    refine hK.out _ _ (HSS.out _ HF.out.1.k) (fun hHeld=>?_)
    clear hK K hHold
    have hHold:=hHeld
    clear hHeld
    try simp only[Act.put,zz1,zz2,zz3]
    exact wpAnyH_done (by kernel_rfl) ⟨rfl,HF.out⟩ _
   ·skip
    refine AllReadyH.cons (o:=⟨some 30,_,_,_,_,_⟩) rfl (fun K hK=>?_) AllReadyH.nil
    go_simp
    refine (qp0 _ fx.nm _ HR.out.1 HR.out.2).mono ?_
    rintro e w14 ⟨rfl,rfl⟩
    dsimp only
    refine hK.out _ _ (HSW.out _ HB.out) (fun hHeld=>?_)
    clear hK K hHold
    have hHold:=hHeld
    clear hHeld
    try simp only[Act.put,zz1,zz2,zz3]
    refine wpAnyH_take (i:=15) (oi:=⟨some 31,_,_,_,_,_⟩) (v:=?v21) rfl (by kernel_rfl) (by kernel_rfl) (by kernel_rfl) (fun _ _ _ h=>nomatch h.1) (Or.inl ⟨by rfl,?hy21⟩) (by assumption) ?rest21
    case hy21=>(intro wz hSw;(try dsimp only at hSw);(first|(go_simp<;>with_reducible rfl)|(simp only[hsz5] at *;go_simp;rw[if_neg hsz5])|(simp only[hsz4] at *;go_simp;rw[if_neg hsz4])))
    try simp only[Act.put,zz1,zz2,zz3]
    refine wpAnyH_ready (rs:=[0,20]) (by kernel_rfl) (by simp) ?_
    refine AllReadyH.cons (o:=⟨some 16,_,_,_,_,_⟩) rfl (fun K hK=>?_) ?_
    ·go_simp
     refine hK.out _ _ (HSW.out _ HB.out) (fun hHeld=>?_)
     clear hK K hHold
     have hHold:=hHeld
     clear hHeld
     try simp only[Act.put,zz1,zz2,zz3]
     refine wpAnyH_ready (rs:=[20]) (by kernel_rfl) (by simp) ?_
     refine AllReadyH.cons (o:=⟨some 36,_,_,_,_,_⟩) rfl (fun K hK=>?_) AllReadyH.nil
     go_simp
     refine (qf3 _ _ HL.out.1 (HTW.out _ HB.out)).mono ?_
     rintro e w20 ⟨rfl,hb20⟩
     replace HB:Hid (Below W.heap.size W w20):=q02 HB.out hb20
     clear hb20
     have c0:=HC0.out _ HB.out
     dsimp only
     refine hK.out _ _ (HSW.out _ HB.out) (fun hHeld=>?_)
     clear hK K hHold
     have hHold:=hHeld
     clear hHeld
     try simp only[Act.put,zz1,zz2,zz3]
     refine wpAnyH_take (i:=21) (oi:=⟨some 37,_,_,_,_,_⟩) (v:=?v22) rfl (by kernel_rfl) (by kernel_rfl) (by kernel_rfl) (fun _ _ _ h=>nomatch h.1) (Or.inl ⟨by rfl,?hy22⟩) (by assumption) ?rest22
     case hy22=>(intro wz hSw;(try dsimp only at hSw);(first|(go_simp<;>with_reducible rfl)|(simp only[hsz5] at *;go_simp;rw[if_neg hsz5])|(simp only[hsz4] at *;go_simp;rw[if_neg hsz4])))
     try simp only[Act.put,zz1,zz2,zz3]
     refine wpAnyH_ready (rs:=[22]) (by kernel_rfl) (by simp) ?_
     refine AllReadyH.cons (o:=⟨some 38,_,_,_,_,_⟩) rfl (fun K hK=>?_) AllReadyH.nil
     go_simp
     obtain ⟨sT,hsT⟩:∃ sT:ByteArray,nmO fx.nm++⟨#[58]⟩++bA (decB fx.ln)=sT:=⟨_,rfl⟩
     rw[hsT]
     have HsT:Hid (fx.text=sT):=hsT
     obtain ⟨a3,c3,w23,happ,hJ3⟩:=TrJ.app (by omega) HJ.out HB.out sT HQ.out
     have HB22:Hid (Below W.heap.size W (World.alloc w20 (.cells #[.string sT] 9))):=q02 HB.out (q01 _ _)
     have c0:=HC0.out _ HB22.out
     refine hK.out _ _ (HSW.out _ HB22.out) (fun hHeld=>?_)
     clear hK K hHold
     have hHold:=hHeld
     clear hHeld
     try simp only[Act.put,zz1,zz2,zz3]
     refine wpAnyH_ready (rs:=[23]) (by kernel_rfl) (by simp) ?_
     refine AllReadyH.cons (o:=⟨some 39,_,_,_,_,_⟩) rfl (fun K hK=>?_) AllReadyH.nil
     refine q50 (by rfl) _ _ _ _ (by rfl) (.slice aJ nJ cJ) (.slice (some ⟨w20.heap.size,0,none⟩) 1 1) _ _ (by rfl) (by rfl) happ ?_
     have c0:=hJ3.c
     have cz:=hJ3.z
     have HS23:Hid (TrS X E ub uo nf uc fx w23):=HSS.out _ hJ3.k
     have HF:Hid (TrJ (E+1) W0 (pre.map (fun x:Fin n=>(fxs x.val).text)++[fx.text]) (w23.setCell ⟨E+1,0,none⟩ (.slice a3 (nJ+1) c3))/\KeepsOthers W (w23.setCell ⟨E+1,0,none⟩ (.slice a3 (nJ+1) c3))/\KN W0.heap.size (E+1) W (w23.setCell ⟨E+1,0,none⟩ (.slice a3 (nJ+1) c3))):=by rw[HsT.out];exact ⟨hJ3.t,hJ3.o,hJ3.n⟩
     clear happ hJ3 HB22
     refine hK.out _ _ (HS23.out) (fun hHeld=>?_)
     clear hK K hHold
     have hHold:=hHeld
     clear hHeld
     try simp only[Act.put,zz1,zz2,zz3]
     refine wpAnyH_ready (rs:=[24]) (by kernel_rfl) (by simp) ?_
     refine AllReadyH.cons (o:=⟨none,_,_,_,_,_⟩) rfl (fun K hK=>?_) AllReadyH.nil
     go_simp
     refine hK.out _ _ (HSS.out _ HF.out.1.k) (fun hHeld=>?_)
     clear hK K hHold
     have hHold:=hHeld
     clear hHeld
     try simp only[Act.put,zz1,zz2,zz3]
     exact wpAnyH_done (by kernel_rfl) ⟨rfl,HF.out⟩ _
    ·skip
     refine AllReadyH.cons (o:=⟨some 36,_,_,_,_,_⟩) rfl (fun K hK=>?_) AllReadyH.nil
     go_simp
     refine (qf3 _ _ HL.out.1 (HTW.out _ HB.out)).mono ?_
     rintro e w20 ⟨rfl,hb20⟩
     replace HB:Hid (Below W.heap.size W w20):=q02 HB.out hb20
     clear hb20
     have c0:=HC0.out _ HB.out
     dsimp only
     refine hK.out _ _ (HSW.out _ HB.out) (fun hHeld=>?_)
     clear hK K hHold
     have hHold:=hHeld
     clear hHeld
     try simp only[Act.put,zz1,zz2,zz3]
     refine wpAnyH_take (i:=21) (oi:=⟨some 37,_,_,_,_,_⟩) (v:=?v23) rfl (by kernel_rfl) (by kernel_rfl) (by kernel_rfl) (fun _ _ _ h=>nomatch h.1) (Or.inl ⟨by rfl,?hy23⟩) (by assumption) ?rest23
     case hy23=>(intro wz hSw;(try dsimp only at hSw);(first|(go_simp<;>with_reducible rfl)|(simp only[hsz5] at *;go_simp;rw[if_neg hsz5])|(simp only[hsz4] at *;go_simp;rw[if_neg hsz4])))
     try simp only[Act.put,zz1,zz2,zz3]
     refine wpAnyH_ready (rs:=[0,22]) (by kernel_rfl) (by simp) ?_
     refine AllReadyH.cons (o:=⟨some 16,_,_,_,_,_⟩) rfl (fun K hK=>?_) ?_
     ·go_simp
      refine hK.out _ _ (HSW.out _ HB.out) (fun hHeld=>?_)
      clear hK K hHold
      have hHold:=hHeld
      clear hHeld
      try simp only[Act.put,zz1,zz2,zz3]
      refine wpAnyH_ready (rs:=[22]) (by kernel_rfl) (by simp) ?_
      refine AllReadyH.cons (o:=⟨some 38,_,_,_,_,_⟩) rfl (fun K hK=>?_) AllReadyH.nil
      go_simp
      obtain ⟨sT,hsT⟩:∃ sT:ByteArray,nmO fx.nm++⟨#[58]⟩++bA (decB fx.ln)=sT:=⟨_,rfl⟩
      rw[hsT]
      have HsT:Hid (fx.text=sT):=hsT
      obtain ⟨a3,c3,w23,happ,hJ3⟩:=TrJ.app (by omega) HJ.out HB.out sT HQ.out
      have HB22:Hid (Below W.heap.size W (World.alloc w20 (.cells #[.string sT] 9))):=q02 HB.out (q01 _ _)
      have c0:=HC0.out _ HB22.out
      refine hK.out _ _ (HSW.out _ HB22.out) (fun hHeld=>?_)
      clear hK K hHold
      have hHold:=hHeld
      clear hHeld
      try simp only[Act.put,zz1,zz2,zz3]
      refine wpAnyH_ready (rs:=[23]) (by kernel_rfl) (by simp) ?_
      refine AllReadyH.cons (o:=⟨some 39,_,_,_,_,_⟩) rfl (fun K hK=>?_) AllReadyH.nil
      refine q50 (by rfl) _ _ _ _ (by rfl) (.slice aJ nJ cJ) (.slice (some ⟨w20.heap.size,0,none⟩) 1 1) _ _ (by rfl) (by rfl) happ ?_
      have c0:=hJ3.c
      have cz:=hJ3.z
      have HS23:Hid (TrS X E ub uo nf uc fx w23):=HSS.out _ hJ3.k
      have HF:Hid (TrJ (E+1) W0 (pre.map (fun x:Fin n=>(fxs x.val).text)++[fx.text]) (w23.setCell ⟨E+1,0,none⟩ (.slice a3 (nJ+1) c3))/\KeepsOthers W (w23.setCell ⟨E+1,0,none⟩ (.slice a3 (nJ+1) c3))/\KN W0.heap.size (E+1) W (w23.setCell ⟨E+1,0,none⟩ (.slice a3 (nJ+1) c3))):=by rw[HsT.out];exact ⟨hJ3.t,hJ3.o,hJ3.n⟩
      clear happ hJ3 HB22
      refine hK.out _ _ (HS23.out) (fun hHeld=>?_)
      clear hK K hHold
      have hHold:=hHeld
      clear hHeld
      try simp only[Act.put,zz1,zz2,zz3]
      refine wpAnyH_ready (rs:=[24]) (by kernel_rfl) (by simp) ?_
      refine AllReadyH.cons (o:=⟨none,_,_,_,_,_⟩) rfl (fun K hK=>?_) AllReadyH.nil
      go_simp
      refine hK.out _ _ (HSS.out _ HF.out.1.k) (fun hHeld=>?_)
      clear hK K hHold
      have hHold:=hHeld
      clear hHeld
      try simp only[Act.put,zz1,zz2,zz3]
      exact wpAnyH_done (by kernel_rfl) ⟨rfl,HF.out⟩ _
     ·skip
      refine AllReadyH.cons (o:=⟨some 38,_,_,_,_,_⟩) rfl (fun K hK=>?_) AllReadyH.nil
      go_simp
      obtain ⟨sT,hsT⟩:∃ sT:ByteArray,nmO fx.nm++⟨#[58]⟩++bA (decB fx.ln)=sT:=⟨_,rfl⟩
      rw[hsT]
      have HsT:Hid (fx.text=sT):=hsT
      obtain ⟨a3,c3,w23,happ,hJ3⟩:=TrJ.app (by omega) HJ.out HB.out sT HQ.out
      have HB22:Hid (Below W.heap.size W (World.alloc w20 (.cells #[.string sT] 9))):=q02 HB.out (q01 _ _)
      have c0:=HC0.out _ HB22.out
      refine hK.out _ _ (HSW.out _ HB22.out) (fun hHeld=>?_)
      clear hK K hHold
      have hHold:=hHeld
      clear hHeld
      try simp only[Act.put,zz1,zz2,zz3]
      refine wpAnyH_ready (rs:=[0]) (by kernel_rfl) (by simp) ?_
      refine AllReadyH.cons (o:=⟨some 16,_,_,_,_,_⟩) rfl (fun K hK=>?_) AllReadyH.nil
      go_simp
      refine hK.out _ _ (HSW.out _ HB22.out) (fun hHeld=>?_)
      clear hK K hHold
      have hHold:=hHeld
      clear hHeld
      try simp only[Act.put,zz1,zz2,zz3]
      refine wpAnyH_ready (rs:=[23]) (by kernel_rfl) (by simp) ?_
      refine AllReadyH.cons (o:=⟨some 39,_,_,_,_,_⟩) rfl (fun K hK=>?_) AllReadyH.nil
      refine q50 (by rfl) _ _ _ _ (by rfl) (.slice aJ nJ cJ) (.slice (some ⟨w20.heap.size,0,none⟩) 1 1) _ _ (by rfl) (by rfl) happ ?_
      have c0:=hJ3.c
      have cz:=hJ3.z
      have HS23:Hid (TrS X E ub uo nf uc fx w23):=HSS.out _ hJ3.k
      have HF:Hid (TrJ (E+1) W0 (pre.map (fun x:Fin n=>(fxs x.val).text)++[fx.text]) (w23.setCell ⟨E+1,0,none⟩ (.slice a3 (nJ+1) c3))/\KeepsOthers W (w23.setCell ⟨E+1,0,none⟩ (.slice a3 (nJ+1) c3))/\KN W0.heap.size (E+1) W (w23.setCell ⟨E+1,0,none⟩ (.slice a3 (nJ+1) c3))):=by rw[HsT.out];exact ⟨hJ3.t,hJ3.o,hJ3.n⟩
      clear happ hJ3 HB22
      refine hK.out _ _ (HS23.out) (fun hHeld=>?_)
      clear hK K hHold
      have hHold:=hHeld
      clear hHeld
      try simp only[Act.put,zz1,zz2,zz3]
      refine wpAnyH_ready (rs:=[24]) (by kernel_rfl) (by simp) ?_
      refine AllReadyH.cons (o:=⟨none,_,_,_,_,_⟩) rfl (fun K hK=>?_) AllReadyH.nil
      go_simp
      refine hK.out _ _ (HSS.out _ HF.out.1.k) (fun hHeld=>?_)
      clear hK K hHold
      have hHold:=hHeld
      clear hHeld
      try simp only[Act.put,zz1,zz2,zz3]
      exact wpAnyH_done (by kernel_rfl) ⟨rfl,HF.out⟩ _
 case done=>
  rintro D ys W hD hS hJ hK
  have hys:ys.map (fun x:Fin n=>(fxs x.val).text)=(qb8 n n).map (fun i=>(fxs i).text):=by rw[<-hS,List.map_map];rfl
  rw[hys] at hJ
  have hln:((qb8 n n).map (fun i=>(fxs i).text)).length=n:=by rw[List.length_map,qr7]
  obtain ⟨a,c,h1,h2⟩:=hJ.r
  rw[hln] at h1 h2
  obtain ⟨g,rfl,hc5,hcap,hlt⟩:∃ g,a=some ⟨g,0,none⟩/\(∀ (i:Nat) x,((qb8 n n).map (fun i=>(fxs i).text))[i]?=some x->W.cell? ⟨g,0+i,none⟩=some (.string x))/\n<=c/\g<W.heap.size:=by
   have hown:=h2
   rcases h2.2 with ⟨e,h0⟩|⟨g,cap,cur,e,_,hg,h5,_⟩
   ·omega
   ·obtain ⟨e1,e3⟩:a=some ⟨g,0,none⟩/\c=cap:=by simpa using e
    subst e1 e3
    refine ⟨g,rfl,fun i x hx=>?_,h5,(Array.getElem?_eq_some_iff.1 hg).1⟩
    have:=hown.cells (g:=g) rfl i (.string x) (by
     show (List.map _ _)[i]?=_
     rw[List.getElem?_map,hx]
     rfl)
    cases i<;>simpa[Addr.add] using this
  have hJn:=qq9 g 0 c ((qb8 n n).map (fun i=>(fxs i).text)) ⟨#[32]⟩ W hc5 hlt (by rw[hln];omega) (by rw[hln];exact hcap) (by
   refine Nat.le_trans (yf3 _ (fun x hx=>?_)) ?_
   ·obtain ⟨s,hs,rfl⟩:=List.mem_map.1 hx
    obtain ⟨i,hi,rfl⟩:=List.mem_map.1 hs
    have hin:i<n:=by
     obtain ⟨j,hj,rfl⟩:=List.mem_map.1 hi
     omega
    have h3:=FrD.text_size (fxs i) (HX.out i (by rw[HNn.out];exact hin)).1.sz
    show (fxs i).text.size<=2000
    omega
   ·rw[List.length_map,hln]
    omega)
  rw[hln] at hJn
  have HJn:Hid (Calls Tryz.prog 284 #[.slice (some ⟨g,0,none⟩) n c,.string ⟨#[32]⟩] W fun e w'=>e=.returned (.string sT)/\Below W.heap.size W w'):=by rw[<-HsT.out];exact hJn
  have c1:W.cell? ⟨E+1,0,none⟩=some (.slice (some ⟨g,0,none⟩) n c):=h1.1.cell 0 rfl
  have hBW:Below u.heap.size u W:=HW.out.2.1.trans (hJ.k.to (by have:=HW.out.2.1.size;omega) (fun k e=>by have:=HE.out;omega))
  clear hS hJ hys hln h1 h2 hc5 hcap hlt hJn
  go_wp2_with fail
  refine HJn.out.mono ?_
  rintro e w5 ⟨rfl,hb5⟩
  have hK5:w5.heap[D]?=some (.deferred (some [])):=(hb5.block D (Array.getElem?_eq_some_iff.1 hK).1).trans hK
  have hB5:Below u.heap.size u w5:=hBW.trans (hb5.mono hBW.size)
  go_wp2_with fail
  refine ⟨by simp,.inl ⟨_,_,rfl,run_takeDeferred hK5,?_⟩⟩
  refine ⟨.string sT,?_,rfl,hB5.trans (belowK_b (w:=W0) (by have:=HW.out.2.1.size;omega) _ D _ _ hD hK5 rfl rfl)⟩
  simp[results,Tryz.results229,go_sem]
 case stop=>
  rintro D c pre W hD _ h hK
  exact h.elim
end Go.Proofs.YtaimofjekgnieaaGreatDoor
