import Derived.Test.YthnkncpegihbhaaGreatDoorWyG
set_option maxRecDepth 100000
set_option maxHeartbeats 16000000
namespace Go.Proofs.YthnkncpegihbhaaGreatDoor
section
open Go.RowKit
attribute [local go_sem] iD
attribute [local go_sem ↓] Go.wp_at_zero Go.wp_at_succ
section
variable {X:RX}{S:TS}{d:MD}{w u:World}
theorem Sp.round(h:St X d u)(n:Nat):Sp X d u {d with ro:=n} (u.setCell ⟨X.M,22,none⟩ (.int .i64 (n:Int))):=by
 have hx:=h.ty;refine h.put _ (.inl rfl) ?_ (kR h.t hx.tm) (kR h.f hx.fm) (kR h.v hx.vm) h.rr h.hr h.sr h.fw h.r0 (fun _ _ e=>e) rfl;exact h.m.set (o:=22) (by show 22<27;omega) (.int .i64 (n:Int))
abbrev Am:RQ:=⟨[],none,0,0,[]⟩
theorem y03(w:World):(Instr.makeMap 379 none).run Tryz.prog w=.ok (.map (some w.heap.size)) (w.alloc (.map #[] 0)):=by
 simp[Instr.makeMap,newObj,Sem.run,Result.andThen]
theorem lW.new(w:World):lW (w.alloc (.map #[] 0)) w.heap.size []:=⟨#[],0,(MapKept.heap_alloc w _).1,rfl,fun _ h=>by simp at h⟩
theorem Rz.begin(h:St X d w)(o:jl X d S)(k:lX X d w):Rz X (w.heap.size+1) w.heap.size S d Am ((w.alloc (.map #[] 0)).alloc (.cells (Ak X d.ro w.heap.size Am) 381)):=by
 have hb:gZ w ((w.alloc (.map #[] 0)).alloc (.cells (Ak X d.ro w.heap.size Am) 381)):=(q01 _ _).alloc (by rw[aN];omega) _;have hW:X.W.heap.size<=w.heap.size:=h.k.size;have hs:=Sp.below h hb;refine⟨⟨hs.s,zN _ _ _ _,?_,h.other (by omega),by omega,aX _ _ _ _,(fun k e=>nomatch e),?_,h.other (ah _),by omega⟩,o,k.step hs⟩
 ·have:=jC.new (w.alloc (.map #[] 0)) (Ak X d.ro w.heap.size Am) 381;rw[aN] at this;exact this
 ·exact(lW.new w).block ((q01 _ _).block _ (by simp))
def qB(X:RX)(d:MD)(w:World)(l:List Nat):Prop:=l.length=d.sc.length/\∀i t:Nat,l[i]?=some t->∃v B:Nat,d.sc[i]?=some (v:Int)/\d.vs[v]?=some (ptr B)/\OwnB w B (vA (jT 5 (t:Int)))/\¬stB X d B
theorem qB.step{l:List Nat}{d':MD}{w':World}(h:qB X d w l)(hp:Sp X d w d' w')(e1:d'.sc=d.sc)(e2:d'.vs=d.vs):qB X d' w' l:=by
 refine⟨by rw[e1];exact h.1,fun i t ht=>?_⟩;obtain⟨v,B,h1,h2,h3,h4⟩:=h.2 i t ht;exact⟨v,B,by rw[e1];exact h1,by rw[e2];exact h2,hp.g.ownB h3 h4,fun e=>h4 (hp.mv B h3.1.1 e)⟩
theorem qB.at{l:List Nat}{R Q:Nat}{u:World}(h:qB X d u l)(hb:gZ u w)(hR:u.heap.size<=R)(hQ:u.heap.size<=Q):nG X R Q d Am w l:=by
 refine⟨h.1,fun i t ht=>?_⟩;obtain⟨v,B,h1,h2,h3,h4⟩:=h.2 i t ht;refine⟨v,B,h1,h2,h3.iy hb,fun e=>?_⟩;have:=h3.1.1;rcases e with e|e|e|e
 ·exact h4 e
 ·omega
 ·omega
 ·exact nomatch e
end
theorem z91{N:Nat}{w:World}{t:TypeId}{K n c:Nat}{a:Option Addr}{xs:List Value}(h:w.ownsRow N t K (.slice a n c) n xs):n<=c:=by
 rcases h.2 with⟨e,h0⟩|⟨g,c',cur,e,_,_,h4,_⟩
 ·omega
 ·cases e;exact h4
structure TN where
 S:Nat->TS
 row:Nat->List VD
 cells:Nat->Nat
 wt:Nat->List (Int×Int)
 se:Nat->Nat
def TN.step(G:TN)(X:RX)(R Q:Nat)(d:MD)(l:List Nat)(N:Nat):Prop:=∀s,s<N->(G.row s).length<=1000/\∃r' k r,G.row s=r'++[jT k r]/\∀(d':MD) (a:Option Addr) (c:Nat) (w':World),d'=d.sn (G.se s) d'.tb d'.TP->Rz X R Q (G.S s) d' ⟨r',a,c,G.cells s,G.wt s⟩ w'->nG X R Q d' ⟨r',a,c,G.cells s,G.wt s⟩ w' l->
 Calls Tryz.prog 337 #[ptr R,iJ k 0 0 ⟨#[]⟩ r] w' fun e w''=>e=.returned (.tuple #[])/\jv X R Q d' ⟨r',a,c,G.cells s,G.wt s⟩ w' (G.S (s+1)) (G.row (s+1)) (G.cells (s+1)) (G.wt (s+1)) (G.se (s+1)) w''
def Reached(X:RX)(d:MD)(u:World)(S':TS)(cells:Nat)(wt:List (Int×Int))(se R Q:Nat)(w':World):Prop:=
 ∃d' a c,d'={d with ro:=d.ro+1,se:=se,tb:=d'.tb,TP:=d'.TP}/\Sp X d u d' w'/\Rz X R Q S' d' ⟨[],a,c,cells,wt⟩ w'/\u.heap.size<=R/\u.heap.size<=Q
theorem zm4(X:RX)(d:MD)(S:TS)(u:World)(l:List Nat)(G:TN)(N:Nat)(h:St X d u)(o:jl X d S)(k:lX X d u)(hV:qB X d u l)(hse:d.se≠d.ro+1)(hro:d.ro<=1000)(g0:G.S 0=S/\G.row 0=[jT 7 0]/\G.cells 0=0/\G.wt 0=[]/\G.se 0=d.ro+1)(gN:G.row N=[])(hG:∀R Q,G.step X R Q {d with ro:=d.ro+1} l N):Calls Tryz.prog 303 #[ptr X.M] u fun e w'=>∃R Q,e=.returned (ptr R)/\Reached X d u (G.S N) (G.cells N) (G.wt N) (G.se N) R Q w':=by
 have HS:Hid (St X d u/\jl X d S/\lX X d u/\qB X d u l):=⟨h,o,k,hV⟩;have HG:Hid (∀R Q,G.step X R Q {d with ro:=d.ro+1} l N):=hG;have Hg:Hid ((G.S 0=S/\G.row 0=[jT 7 0]/\G.cells 0=0/\G.wt 0=[]/\G.se 0=d.ro+1)/\G.row N=[]):=⟨g0,gN⟩;have m22:u.cell? ⟨X.M,22,none⟩=some (.int .i64 (d.ro:Int)):=h.m.1.cell 22 rfl;have mf:=h.m.2;have lM:=h.m.1.1;clear h o k hV hG g0 gN;go_in
 go_upto_region 2 with fail
 obtain⟨w1,fQ⟩:∃w1,u.setCell ⟨X.M,22,none⟩ (.int .i64 ((d.ro:Int)+1))=w1:=⟨_,rfl⟩;obtain⟨d1,hd1⟩:∃d1:MD,{d with ro:=d.ro+1}=d1:=⟨_,rfl⟩;have H1:Hid (Sp X d u d1 w1/\jl X d1 S/\lX X d1 w1/\qB X d1 w1 l):=by
  have hs:Sp X d u d1 w1:=by rw[<-fQ,<-hd1];exact Sp.round HS.1 (d.ro+1)
  have e1:d1.sc=d.sc:=by rw[<-hd1]
  have e2:d1.vs=d.vs:=by rw[<-hd1]
  exact⟨hs,by rw[<-hd1];exact⟨HS.2.1.b,HS.2.1.p,HS.2.1.t,HS.2.1.l⟩,HS.2.2.1.step hs,HS.2.2.2.step hs e1 e2⟩
 have Hd:Hid (d1={d with ro:=d.ro+1}/\d1.ro=d.ro+1/\d1.se=d.se):=⟨hd1.symm,by rw[<-hd1],by rw[<-hd1]⟩;rw[fQ];rw[hd1] at HG;clear fQ m22 mf lM hd1;have m22:w1.cell? ⟨X.M,22,none⟩=some (.int .i64 (d1.ro:Int)):=H1.1.s.m.1.cell 22 rfl;have lM:=H1.1.s.m.1.1;have hmk:=y03
 go_upto_region 3 with fail
 clear hmk;obtain⟨w2,fU⟩:∃w2,(w1.alloc (.map #[] 0)).alloc (.cells #[ptr X.M,.int .i64 (d1.ro:Int),.slice none 0 0,.map (some w1.heap.size),.int .i64 0] 381)=w2:=⟨_,rfl⟩;obtain⟨Q,hQ⟩:∃Q,w1.heap.size=Q:=⟨_,rfl⟩;obtain⟨R,hR⟩:∃R,w1.heap.size+1=R:=⟨_,rfl⟩;have H2:Hid (Rz X R Q S d1 Am w2/\Sp X d u d1 w2/\nG X R Q d1 Am w2 l/\u.heap.size<=R/\u.heap.size<=Q):=by
  have hb:gZ w1 w2:=by rw[<-fU];exact(q01 _ _).alloc (by rw[aN];omega) _
  have hu:=H1.1.g.size;refine⟨?_,H1.1.call hb,H1.2.2.2.at hb (by omega) (by omega),by omega,by omega⟩;rw[<-fU,<-hR,<-hQ];exact Rz.begin H1.1.s H1.2.1 H1.2.2.1
 rw[fU,hR];clear fU hR hQ m22 lM H1;have m23:w2.cell? ⟨X.M,23,none⟩=some (ptr X.T):=H2.1.t.s.m.1.cell 23 rfl;have lM:=H2.1.t.s.m.1.1;go_wp2_with fail;refine bW 2 ?_;rw[bC];go_wp2_with fail;refine(qu6 X.T 0 w2 H2.1.t.s.t.1.1 (H2.1.t.s.t.1.cell 0 rfl)).mono ?_;rintro e w3 ⟨rfl,eH⟩;have HB3:Hid (gZ w2 w3):=eH;clear eH m23 lM;go_wp2_with fail;refine(zi7 (g:=w3.heap.size) (H2.1.below (iq HB3.out (q01 _ _))) (Ry.new (H2.1.below HB3.out).t _ _) (by have:=Hd.2.1;have:=Hd.2.2;omega) (by show 0<=_;omega)).mono ?_;rintro e w4 ⟨rfl,ED⟩;have Dz:Hid (jv X R Q d1 Am w2 (G.S 0) (G.row 0) (G.cells 0) (G.wt 0) (G.se 0) w4):=by
  obtain⟨⟨g1,g2,g3,g4,g5⟩,_⟩:=Hg.out;rw[g1,g2,g3,g4,g5,<-Hd.2.1];exact jv.then (e1:=d1.se) (Rp.below H2.1.t (iq HB3 (q01 _ _))) rfl ED
 clear ED;obtain⟨d4,a4,c4,Tt,ED,hd4⟩:=Dz.out;have t9:=ED.t.s.t.1.cell 9 rfl;have lT:=ED.t.s.t.1.1;clear Tt ED hd4 HB3;go_wp2_with fail;rw[bC];go_wp2_with fail
 go_loopg [] N (fun gk wr=>∃s,s+gk=N/\Hid (jv X R Q d1 Am w2 (G.S s) (G.row s) (G.cells s) (G.wt s) (G.se s) wr))
 case atStart=>exact⟨0,by omega,Dz⟩
 case round=>
  clear t9 lT Dz;obtain⟨s,hs,HR⟩:=hrel;obtain⟨d5,a5,c5,qY,Tn,hd5⟩:=HR.out;have U8:Hid (Rp X R Q d1 Am w2 d5 ⟨G.row s,a5,c5,G.cells s,G.wt s⟩ wr):=qY;have zx:Hid (Rz X R Q (G.S s) d5 ⟨G.row s,a5,c5,G.cells s,G.wt s⟩ wr):=Tn;have HD5:Hid (d5=d1.sn (G.se s) d5.tb d5.TP):=hd5;clear qY Tn hd5 HR;have r2:wr.cell? ⟨R,2,none⟩=some (.slice a5 (G.row s).length c5):=zx.t.b.1.cell 2 rfl;have lR:=zx.t.b.1.1;have rf:=zx.t.b.2;by_cases h0:gk=0
  ·obtain rfl:s=N:=by omega
   rw[Hg.2] at r2;go_wp2_with fail;go_ret;refine⟨R,Q,rfl,d5,a5,c5,?_,?_,?_,H2.2.2.2.1,H2.2.2.2.2⟩
   ·have:=HD5.out;rw[Hd.1] at this;exact this
   ·exact U8.sp H2.2.1 H2.2.2.2.1 H2.2.2.2.2 (fun k e=>nomatch e)
   ·have:=zx.out;rw[Hg.2] at this;exact this
  ·have OE:s<N:=by omega
   obtain⟨gG,r',k,r,gJ,hcall⟩:=HG.out R Q s OE;have CQ:Hid (∀(d':MD) (a:Option Addr) (c:Nat) (w':World),d'=d1.sn (G.se s) d'.tb d'.TP->Rz X R Q (G.S s) d' ⟨r',a,c,G.cells s,G.wt s⟩ w'->nG X R Q d' ⟨r',a,c,G.cells s,G.wt s⟩ w' l->Calls Tryz.prog 337 #[ptr R,iJ k 0 0 ⟨#[]⟩ r] w' fun e w''=>e=.returned (.tuple #[])/\jv X R Q d' ⟨r',a,c,G.cells s,G.wt s⟩ w' (G.S (s+1)) (G.row (s+1)) (G.cells (s+1)) (G.wt (s+1)) (G.se (s+1)) w''):=hcall;have U6:Hid (G.row s=r'++[jT k r]):=gJ;have hl1:(G.row s).length=r'.length+1:=by rw[gJ];simp
   rw[hl1] at r2 gG;clear hcall gJ hl1;obtain⟨g,off,hga,hgl,hgc⟩:=(Zx (l:=G.row s) zx.t.r rfl).at (k:=r'.length) (v:=jT k r) (by rw[U6.out];simp);replace hga:a5=some ⟨g,off,none⟩:=hga;rw[hga] at r2;have c0:wr.cell? ⟨g,off+r'.length*5,none⟩=some (.int .i64 k):=hgc 0 _ rfl;have c1:=hgc 1 _ rfl;have c2:=hgc 2 _ rfl;have c3:=hgc 3 _ rfl;have xH:=hgc 4 _ rfl;have i0:(0:Int)<=(r'.length:Int):=aS _;have i1:(r'.length:Int)<(r'.length:Int)+1:=by omega
   have fQ:(r'.length:Int)+1-1=(r'.length:Int):=by omega
   have i2:(r'.length:Int)<=(c5:Int):=by
    have:=z91 zx.t.r;have h2:(G.row s).length=r'.length+1:=by rw[U6.out];simp
    have h3:(G.row s).length<=c5:=this;omega
   clear hgc
   go_upto_region 11 with fail
   obtain⟨w6,hw6⟩:∃w6,(wr.setCell ⟨R,2,none⟩ (.slice (some ⟨g,off,none⟩) r'.length c5)).alloc (.cells #[.int .i64 k,.int .i64 0,.float .f64 0,.string ⟨#[]⟩,.int .i64 r] 61)=w6:=⟨_,rfl⟩;obtain⟨b6,eY⟩:∃b6,wr.heap.size=b6:=⟨_,rfl⟩;have H6:Hid (Rp X R Q d1 Am w2 d5 ⟨r',a5,c5,G.cells s,G.wt s⟩ w6/\Rz X R Q (G.S s) d5 ⟨r',a5,c5,G.cells s,G.wt s⟩ w6/\C5 w6 b6 (jT k r)/\b6<w6.heap.size):=by
    rw[<-hw6,<-eY];have hz:=zx.out;have hp:=U8.out;rw[hga] at hz hp ⊢;have hcut:=Rp.cut (m:=r'.length) hz.t (by show r'.length<=(G.row s).length;rw[U6.out];simp);have e:(G.row s).take r'.length=r':=by rw[U6.out];simp
    dsimp only at hcut;rw[e] at hcut;have hb:=OwnB.new (wr.setCell ⟨R,2,none⟩ (.slice (some ⟨g,off,none⟩) r'.length c5)) #[.int .i64 k,.int .i64 0,.float .f64 0,.string ⟨#[]⟩,.int .i64 r] 61;have hsz:(wr.setCell ⟨R,2,none⟩ (.slice (some ⟨g,off,none⟩) r'.length c5)).heap.size=wr.heap.size:=by simp
    rw[hsz] at hb;exact⟨(hp.trans hcut).call (q01 _ _),(⟨hcut.t,hz.o,hz.k.rp hz.t hcut⟩:Rz X R Q (G.S s) d5 ⟨r',some ⟨g,off,none⟩,c5,G.cells s,G.wt s⟩ _).below (q01 _ _),hb.c5,hb.1.1⟩
   rw[hw6,eY];clear hw6 eY c0 c1 c2 c3 xH hgl r2 lR rf;have HV6:Hid (nG X R Q d5 ⟨r',a5,c5,G.cells s,G.wt s⟩ w6 l):=H2.2.2.1.step (e1:=G.se s) H6.1 HD5.out;obtain⟨⟨v0,v1,v2,v3,v4⟩,l6⟩:=H6.2.2;go_wp2_with fail;refine(CQ d5 a5 c5 w6 HD5 H6.2.1 HV6).mono ?_;rintro e w7 ⟨rfl,hz7⟩;have CJ:Hid (jv X R Q d1 Am w2 (G.S (s+1)) (G.row (s+1)) (G.cells (s+1)) (G.wt (s+1)) (G.se (s+1)) w7):=jv.then (e1:=G.se s) H6.1 HD5.out hz7;clear hz7 v0 v1 v2 v3 v4 l6;go_wp2_with fail
   go_roundg (gk-1)
   case measure=>omega
   case rel=>exact⟨s+1,by omega,CJ⟩
def QD(X:RX)(d:MD)(S:TS)(j m:Nat)(u w':World):Prop:=∃d' Bn,Sp X d u d' w'/\jl X d' (S.cut j m Bn)/\d'=d.sn d.se d'.tb d'.TP
theorem ZP{X:RX}{d:MD}{S:TS}{j m Bn:Nat}{u w':World}(h:St X d u)(o:jl X d S)(hj:j<S.nt)(hm:m<=(S.D j).n)(g:Gx (fun k=>k=S.K j\/ig (S.a j)=some k) u w')(hK:OwnB w' (S.K j) (rX (S.cut j m Bn) j))(hp:w'.ownsRow X.N 278 11 (.slice (S.a j) m (S.c j)) m (cellsOf (S.D j).q m))(hM:iZ w' Bn (places (S.D j).q m)/\X.N<=Bn)(hB:Bn=S.B j\/u.heap.size<=Bn):QD X d S j m u w':=by
 have hT:=(o.is h).cut (Bn:=Bn) hj hm g.size (fun k e n1 n2=>g.block k ((o.is h).lt e).2 (fun c=>c.elim n1 n2)) hK hp hM hB;have hg:∀k,(k=S.K j\/ig (S.a j)=some k)->d.tb k:=fun k e=>by
  rw[o.b];rcases e with e|e
  ·exact .inl ⟨j,hj,.inl e⟩
  ·exact .inl ⟨j,hj,.inr (.inr e)⟩
 have nM:¬(X.M=S.K j\/ig (S.a j)=some X.M):=fun e=>h.ts _ (hg _ e) (.inl rfl);refine⟨d.tabs d.tab d.jA d.jc d.sin d.lv d.ro (S.cut j m Bn).tb (iU X.N (S.cut j m Bn)),Bn,Sp.tabs h (g.mono fun k e=>.inr (hg k e)) (g.ownB h.m nM) (h.ty.m.keep (g.block _ h.m.1.1 nM)) hT.KR (fun k hk e=>?_),⟨rfl,rfl,o.t,o.l⟩,rfl⟩;rw[o.b];rcases e with⟨i,hi,e|e|e⟩|e|e
 ·exact .inl ⟨i,hi,.inl e⟩
 ·by_cases c:i=j
  ·simp only[TS.cut,aO c] at e;rcases hB with hB|hB
   ·exact .inl ⟨j,hj,.inr (.inl (e.trans hB))⟩
   ·omega
  ·simp only[TS.cut,au c] at e;exact .inl ⟨i,hi,.inr (.inl e)⟩
 ·exact .inl ⟨i,hi,.inr (.inr e)⟩
 ·exact .inr (.inl e)
 ·exact .inr (.inr e)
theorem y11(X:RX)(d:MD)(S:TS)(j n m b1 b2 b3:Nat)(w:World)(hnn:(S.D j).n=n)(h:St X d w)(o:jl X d S)(hj:j<S.nt)(hm:m<=n)(hd:∀i,i<n->∀w',gZ w w'->Calls Tryz.prog 387 #[uS ((S.D j).q i),.pointer (some ⟨b1,0,none⟩),.pointer (some ⟨b2,0,none⟩),.pointer (some ⟨b3,0,none⟩)] w' fun e w''=>e=.returned (.bool (decide (i<m)))/\gZ w' w''):Calls Tryz.prog 386 #[ptr (S.K j),J8 b1 b2 b3] w fun e w'=>e=.returned (.tuple #[])/\QD X d S j m w w':=by
 have HT:Hid (St X d w/\jl X d S/\(S.D j).n=n):=⟨h,o,hnn⟩;have hn:n<=500:=by have:=((o.is h).ok j hj).nn;omega
 have hO:=((o.is h).k j hj).1;have k0:w.cell? ⟨S.K j,0,none⟩=some (.slice (S.a j) n (S.c j)):=by rw[<-hnn];exact hO.1.cell 0 rfl
 have lK:=hO.1.1;have HP:Hid (∀w1,gZ w w1->OwnB w1 w.heap.size #[J8 b1 b2 b3]->Calls Tryz.prog 415 #[.slice (S.a j) n (S.c j),Rw w.heap.size] w1 fun e w'=>e=.returned (.slice (S.a j) m (S.c j))/\w'.ownsRow X.N 278 11 (.slice (S.a j) m (S.c j)) m (cellsOf (S.D j).q m)/\Gx (fun k=>ig (S.a j)=some k) w1 w'):=fun w1 hb hB=>by
  have ho:=(o.is (h.call hb)).p j hj;rw[hnn] at ho;refine z10 X.N (S.a j) n (S.c j) m w.heap.size (S.D j).q w1 ho hm hn (fun i hi w' hb'=>?_);have hB':=hB.iy hb';have:=zo2 w.heap.size b1 b2 b3 (decide (i<m)) ((S.D j).q i) w' (hB'.1.cell 0 rfl) hB'.1.1 (fun w'' Jv=>hd i hi w'' (iq hb (iq hb' Jv)));have e:(!decide (i<m))=decide (m<=i):=by
   by_cases c:i<m
   ·simp[c]
   ·simp[c];omega
  rw[e] at this;exact this
 go_in;go_wp2_with fail;refine(HP _ (q01 _ _) (OwnB.new _ _ _)).mono ?_;rintro e w2 ⟨rfl,ho2,hg2⟩;have HG2:Hid (w2.ownsRow X.N 278 11 (.slice (S.a j) m (S.c j)) m (cellsOf (S.D j).q m)/\Gx (fun k=>ig (S.a j)=some k) w w2):=⟨ho2,(Gx.below _ (q01 _ _)).trans hg2 (fun _ _ e=>e)⟩;have qy:Hid (OwnB w2 (S.K j) (rX S j)):=HG2.2.ownB ((HT.2.1.is HT.1).k j hj).1 ((HT.2.1.is HT.1).kp j j hj hj);have k0:w2.cell? ⟨S.K j,0,none⟩=some (.slice (S.a j) n (S.c j)):=by rw[<-HT.2.2];exact qy.1.cell 0 rfl
 have kf:=qy.2;have lK:=qy.1.1
 go_upto_region 3 with fail
 obtain⟨w3,fV⟩:∃w3,w2.setCell ⟨S.K j,0,none⟩ (.slice (S.a j) m (S.c j))=w3:=⟨_,rfl⟩;have H3:Hid (w3.ownsRow X.N 278 11 (.slice (S.a j) m (S.c j)) m (cellsOf (S.D j).q m)/\Gx (fun k=>k=S.K j\/ig (S.a j)=some k) w w3/\OwnB w3 (S.K j) ((rX S j).setIfInBounds 0 (.slice (S.a j) m (S.c j)))):=by
  rw[<-fV];exact⟨q23 HG2.1 _ (fun k e c=>(HT.2.1.is HT.1).kp j j hj hj (by rw[<-c];exact(jg _ _ _).symm.trans e)),(HG2.2.mono (fun _ e=>.inr e)).trans (Gx.set w2 (S.K j) 0 _) (fun _ _ e=>.inl e),qy.set (o:=0) (by show 0<7;omega) _⟩
 rw[fV];have k0:w3.cell? ⟨S.K j,0,none⟩=some (.slice (S.a j) m (S.c j)):=H3.2.2.1.cell 0 rfl;have lK:=H3.2.2.1.1;have kf:=H3.2.2.2;by_cases hmn:m<n
 ·have gK:(m:Int)<(n:Int):=by omega
  go_wp2_with fail;refine(qz5 (S.a j) m (S.c j) (S.D j).q w3 (by omega) (NC H3.1)).mono ?_;rintro e w4 ⟨rfl,hm4,eU⟩;have H4:Hid (iZ w4 w3.heap.size (places (S.D j).q m)/\gZ w3 w4):=⟨hm4,eU⟩;have hO4:=H3.2.2.iy H4.2;have k1:w4.cell? ⟨S.K j,1,none⟩=some (.map (some (S.B j))):=hO4.1.cell 1 rfl;have lK:=hO4.1.1;have kf:=hO4.2;go_wp2_with fail;go_end0;refine⟨rfl,?_⟩;have Dv:=HT.2.1.is HT.1;have hO4:=H3.2.2.iy H4.2;have hsz:w.heap.size<=w3.heap.size:=H3.2.1.size;refine ZP (Bn:=w3.heap.size) HT.1 HT.2.1 hj (by rw[HT.2.2];omega) ((H3.2.1.trans (Gx.below (fun _=>False) H4.2) (fun _ _ e=>e.elim)).trans (Gx.set w4 (S.K j) 1 _) (fun _ _ e=>.inl e)) ?_ ?_ ⟨?_,?_⟩ (.inr hsz)
  ·have:=hO4.set (o:=1) (by show 1<7;omega) (.map (some w3.heap.size));simpa[rX,TS.cut] using this
  ·exact q23 (nY H3.1 (fun k e=>H4.2.block k (H3.1.lt k e).2)) _ (fun k e c=>Dv.kp j j hj hj (by rw[<-c];exact(jg _ _ _).symm.trans e))
  ·exact Sr H4.1 (a:=⟨S.K j,1,none⟩) (La H4.1 k1) _
  ·have:=HT.1.n;omega
 ·obtain rfl:m=n:=by omega
  have e0:((m:Int)<(m:Int))=False:=by simp
  go_wp2_with fail;go_end0;refine⟨rfl,?_⟩;have Dv:=HT.2.1.is HT.1;refine ZP (Bn:=S.B j) HT.1 HT.2.1 hj (by rw[HT.2.2];omega) H3.2.1 ?_ H3.1 ⟨?_,(Dv.m j hj).2⟩ (.inl rfl)
  ·have:=H3.2.2;simpa[rX,TS.cut] using this
  ·have hmm:=(Dv.m j hj).1;rw[HT.2.2] at hmm;refine Gn hmm (H3.2.1.block _ hmm.lt (fun c=>?_));rcases c with c|c
   ·have:=La hmm ((Dv.k j hj).1.1.cell 0 rfl);exact this c
   ·obtain⟨es,cc,hm',_⟩:=hmm;obtain⟨A,fr,hA⟩:=lJ (Dv.p j hj) c;rw[hm'] at hA
    cases hA
structure PW(X:RX)(S:TS)(ro j:Nat)(wk:Bool)(n m:Nat):Prop where
 f:wk=false->m=n
 t:wk=true->∀i,i<n->∃t:Nat,((S.D j).q i).key=jT 5 (t:Int)/\t<S.nt/\S.tv t=ptr (S.K t)/\(((S.se t:Nat):Int)==(ro:Int))=decide (i<m)
theorem qq3(X:RX)(R Q:Nat)(S:TS)(d:MD)(q:RQ)(w:World)(j n m:Nat)(wk:Bool)(hnn:(S.D j).n=n)(h:Rz X R Q S d q w)(hj:j<S.nt)(hm:m<=n)(hL:PW X S d.ro j wk n m)(hW:∀d' w',St X d' w'->jl X d' S->Calls Tryz.prog 385 #[ptr (S.K j)] w' fun e w''=>e=.returned (.tuple #[.bool wk,.bool false])/\gZ w' w''):Calls Tryz.prog 356 #[ptr R,ptr (S.K j)] w fun e w'=>e=.returned (.tuple #[])/\QD X d S j m w w':=by
 have HT:Hid (Rz X R Q S d q w/\(S.D j).n=n/\PW X S d.ro j wk n m):=⟨h,hnn,hL⟩;have HW:Hid (∀d' w',St X d' w'->jl X d' S->Calls Tryz.prog 385 #[ptr (S.K j)] w' fun e w''=>e=.returned (.tuple #[.bool wk,.bool false])/\gZ w' w''):=hW;go_in;go_wp2_with fail;refine(HW d _ (HT.1.below (q01 _ _)).t.s HT.1.o).mono ?_;rintro e w1 ⟨rfl,eu⟩;have H1:Hid (gZ w w1/\OwnB w1 w.heap.size #[ptr R]):=⟨iq (q01 _ _) eu,(OwnB.new w #[ptr R] _).iy eu⟩
 go_upto_region 2 with fail
 obtain⟨b2,eG⟩:∃b2,w.heap.size=b2:=⟨_,rfl⟩;obtain⟨b4,eU⟩:∃b4,w1.heap.size=b4:=⟨_,rfl⟩;obtain⟨b5,eX⟩:∃b5,w1.heap.size+1=b5:=⟨_,rfl⟩;obtain⟨w2,fU⟩:∃w2,(w1.alloc (.cells #[.bool wk] 4)).alloc (.cells #[.bool false] 4)=w2:=⟨_,rfl⟩;have H2:Hid (gZ w w2/\OwnB w2 b2 #[ptr R]/\OwnB w2 b4 #[.bool wk]/\OwnB w2 b5 #[.bool false]):=by
  rw[<-fU,<-eG,<-eU,<-eX];have hb:gZ w1 ((w1.alloc (.cells #[.bool wk] 4)).alloc (.cells #[.bool false] 4)):=(q01 _ _).alloc (by rw[aN];omega) _;exact⟨iq H1.1 hb,H1.2.iy hb,(OwnB.new _ _ _).iy (q01 _ _),zN _ _ _ _⟩
 rw[fU,eG,eX,eU];have HZ2:Hid (Rz X R Q S d q w2):=HT.1.below H2.1;have HD:Hid (∀i,i<n->∀w',gZ w2 w'->Calls Tryz.prog 387 #[uS ((S.D j).q i),.pointer (some ⟨b4,0,none⟩),.pointer (some ⟨b2,0,none⟩),.pointer (some ⟨b5,0,none⟩)] w' fun e w''=>e=.returned (.bool (decide (i<m)))/\gZ w' w''):=fun i hi w' hb=>by
  have h2:=H2.2.1.iy hb;have h4:=H2.2.2.1.iy hb;have h5:=H2.2.2.2.iy hb
  cases wk with
  |false=>
   have e:=HT.2.2.f rfl;rw[bJ (show i<m by omega)];exact zn6 b4 b2 b5 _ w' (h4.1.cell 0 rfl) (h5.1.cell 0 rfl) h4.1.1 h5.1.1
  |true=>
   obtain⟨t,e1,e2,e3,e4⟩:=HT.2.2.t rfl i hi;refine zn5 b4 b2 b5 R _ _ w' (h4.1.cell 0 rfl) (h2.1.cell 0 rfl) (h5.1.cell 0 rfl) h4.1.1 h2.1.1 h5.1.1 (fun w'' Jv=>?_);have hz:=HZ2.below (iq hb Jv);have hA:=(hz.is.k t e2).1;have hR:=hz.t.b;have:=Wn R (S.K t) 6 5 (t:Int) (S.se t:Int) d.ro w'' X.M (hR.1.cell 0 rfl) (hR.1.cell 1 rfl) hR.1.1 (hA.1.cell 6 rfl) hA.1.1 (fun w=>WO _ w) (fun w' hb=>Ws X d S t w' (hz.below hb).t.s hz.o e2 e3);rw[e4] at this;rw[e1];exact this
 go_wp2_with fail;refine(y11 X d S j n m b4 b2 b5 w2 HT.2.1 HZ2.t.s HZ2.o hj hm HD).mono ?_;rintro e w3 ⟨rfl,d3,Bn,fM,ho3,hd3⟩;have HF:Hid (QD X d S j m w w3):=⟨d3,Bn,(Sp.below HT.1.t.s H2.1).trans fM,ho3,hd3⟩;go_wp2_with fail;go_end0;exact⟨rfl,HF⟩
theorem iU.jA{N:Nat}{S:TS}{u:World}(h:iU N S u){i j:Nat}(hi:S.li[i]?=some j):∃g,S.la=some ⟨g,0,none⟩/\g<u.heap.size/\u.cell? ⟨g,i,none⟩=some (ptr (S.K j)):=by
 have hl:=(aP.1 hi).1;obtain⟨g,e,h1,h2⟩:=Us h.l (by omega);exact⟨g,e,h1,h2 i _ (by rw[dW,hi];rfl)⟩
theorem z02(X:RX)(R Q:Nat)(S:TS)(d:MD)(q:RQ)(w:World)(h:Rz X R Q S d q w)(pW:∀j∈S.li,j<S.nt)(hn:S.li.length<=10000):Calls Tryz.prog 357 #[ptr X.M,ptr R] w fun e w'=>e=.returned (.slice none 0 0)/\gZ w w':=by
 have HT:Hid (Rz X R Q S d q w):=h;have HL:Hid (∀j∈S.li,j<S.nt):=pW;have m19:w.cell? ⟨X.M,19,none⟩=some (.slice S.la S.li.length S.lc):=by rw[<-h.o.l];exact h.t.s.m.1.cell 19 rfl
 have lM:=h.t.s.m.1.1;go_in;go_wp2_with fail
 go_loopw [5,14] (fun v i wr=>v=.slice none 0 0/\∃(k:Nat),k<=S.li.length/\i=.int .i64 k/\Hid (gZ w wr)) (fun _ i _=>S.li.length-(intOf i).toNat)
 case atStart=>exact⟨rfl,0,aF _,rfl,ay _ _⟩
 case round=>
  obtain⟨rfl,k,hk,rfl,HB⟩:=hrel;by_cases fE:k<S.li.length
  ·obtain⟨j,hj⟩:∃j,Hid (S.li[k]?=some j):=⟨S.li[k],aP.2 ⟨fE,rfl⟩⟩;have hz:=HT.below HB.out;obtain⟨g,hla,hgl,hgc⟩:=hz.is.jA hj.out;rw[hla];have hjn:=HL.out j (List.mem_of_getElem? hj.out);have hO:=(hz.is.k j hjn).1;have k5:wr.cell? ⟨S.K j,5,none⟩=some (.bool false):=hO.1.cell 5 rfl;have k6:wr.cell? ⟨S.K j,6,none⟩=some (.int .i64 (S.se j:Int)):=hO.1.cell 6 rfl;have lK:=hO.1.1;have r1:wr.cell? ⟨R,1,none⟩=some (.int .i64 (d.ro:Int)):=hz.t.b.1.cell 1 rfl;have lR:=hz.t.b.1.1;have i0:(0:Int)<=(k:Int):=aS _;have i1:(k:Int)<(S.li.length:Int):=by omega
   obtain⟨b,hb⟩:∃b,((S.se j:Int)==(d.ro:Int))=b:=⟨_,rfl⟩
   cases b;all_goals
    go_upto_region 5 with fail
    go_quiet ((fail))
    go_wp2_with fail;go_roundw
    case rel=>exact⟨rfl,k+1,by omega,by go_num,dw HB.out _⟩
    case measure=>simp[intOf];omega
  ·obtain rfl:k=S.li.length:=by omega
   have e0:((S.li.length:Int)<(S.li.length:Int))=False:=by simp
   go_wp2_with fail;go_ret;exact⟨rfl,HB⟩
theorem X6(X:RX)(R Q:Nat)(S:TS)(d:MD)(q:RQ)(w:World)(j:Nat)(ko:Option Nat)(wk:Bool)(ks:Nat->Bool)(tt:Nat->Nat)(n:Nat)(hnn:(S.D j).n=n)(h:Rz X R Q S d q w)(hj:j<S.nt)(hko:vH S j ko)(hki:∀i,ko=some i->i<S.nt/\S.tv i=ptr (S.K i)/\S.se i≠d.ro)(hW:∀d' w',St X d' w'->jl X d' (S.uM ko d.ro)->Calls Tryz.prog 385 #[ptr (S.K j)] w' fun e w''=>e=.returned (.tuple #[.bool wk,.bool false])/\gZ w' w'')(hP:yH (S.uM ko d.ro) d.ro j wk ks tt q.wt)(hr:q.row.length<=9000)(hc:q.cells<=100000)(hn:n<=500):Calls Tryz.prog 364 #[ptr R,ptr (S.K j)] w fun e w'=>e=.returned (.tuple #[])/\jv X R Q d q w (S.uM ko d.ro) (q.row++uN ko) (q.cells+(1+n)) (q.wt++nU ks tt n) d.se w':=by
 have HT:Hid (Rz X R Q S d q w/\vH S j ko/\(S.D j).n=n):=⟨h,hko,hnn⟩;have HI:Hid (∀i,ko=some i->i<S.nt/\S.tv i=ptr (S.K i)/\S.se i≠d.ro):=hki;have HW:Hid (∀d' w',St X d' w'->jl X d' (S.uM ko d.ro)->Calls Tryz.prog 385 #[ptr (S.K j)] w' fun e w''=>e=.returned (.tuple #[.bool wk,.bool false])/\gZ w' w''):=hW;have HP:Hid (yH (S.uM ko d.ro) d.ro j wk ks tt q.wt):=hP;have hO:=(h.is.k j hj).1;have k0:w.cell? ⟨S.K j,0,none⟩=some (.slice (S.a j) n (S.c j)):=by rw[<-hnn];exact hO.1.cell 0 rfl
 have lK:=hO.1.1;have r4:w.cell? ⟨R,4,none⟩=some (.int .i64 (q.cells:Int)):=h.t.b.1.cell 4 rfl;have rf:=h.t.b.2;have lR:=h.t.b.1.1;have hwn:IntKind.i64.wrap (1+(n:Int))=1+(n:Int):=by rw[IntKind.wrap_i64];omega
 have hwr:IntKind.i64.wrap ((q.cells:Int)+(1+(n:Int)))=(q.cells:Int)+(1+(n:Int)):=by rw[IntKind.wrap_i64];omega
 have hwc:(q.cells:Int)+(1+(n:Int))=((q.cells+(1+n):Nat):Int):=by omega
 have HWc:Hid ((q.cells:Int)+(1+(n:Int))=((q.cells+(1+n):Nat):Int)):=hwc;clear hwc;clear hO h hko hnn hki hW hP;go_in;go_wp2_with fail
 go_cut [] from 9 (fun wc=>Hid (Rp X R Q d q w d {q with cells:=q.cells+(1+n)} wc))
 case first=>
  go_region_with fail
  all_goals go_wp2_with fail
  all_goals go_meet
  all_goals exact(by rw[HWc.out];exact(Rp.cells HT.1.t (q.cells+(1+n))).call ((ay _ _).drew))
 case rest=>
  rename World=>w1
  clear k0 lK r4 rf lR hwr hwn;have qJ:=hcut;clear hcut
  go_step
  go_step
  go_cut [] from 9 (fun wc=>Hid (jv X R Q d q w (S.uM ko d.ro) (q.row++uN ko) (q.cells+(1+n)) q.wt d.se wc))
  case first=>
   have HZ1:Hid (Rz X R Q S d {q with cells:=q.cells+(1+n)} w1):=⟨qJ.t,HT.1.o,HT.1.k.rp HT.1.t qJ.out⟩;have hO:=(HZ1.is.k j hj).1;have k4:w1.cell? ⟨S.K j,4,none⟩=some (S.kd j):=hO.1.cell 4 rfl;have lK:=hO.1.1
   cases ko with
   |none=>
    have e:S.kd j=.pointer none:=HT.2.1;rw[e] at k4;go_wp2_with fail
    go_meet
    show jv _ _ _ _ _ _ _ _ _ _ _ _;simp only[uN,bM];exact⟨d,_,_,qJ,HZ1,rfl⟩
   |some i=>
    have e:S.kd j=ptr (S.K i):=HT.2.1.1;obtain⟨hi1,hi2,hi3⟩:=HI.out i rfl;rw[e] at k4;have Y0:=(HZ1.is.k i hi1).1;go_wp2_with fail;refine(O6 (S.K i) (i:Int) w1 Y0.1.1 (Y0.1.cell 3 rfl)).mono ?_;rintro e w2 ⟨rfl,eG⟩;have HZ2:Hid (Rz X R Q S d {q with cells:=q.cells+(1+n)} w2/\Rp X R Q d q w d {q with cells:=q.cells+(1+n)} w2):=⟨HZ1.below eG,qJ.call eG⟩;clear eG Y0 k4 lK hO;go_wp2_with fail;refine(qq8 (g:=w2.heap.size) (j:=i) (HZ2.1.below (q01 _ _)) (Ry.new HZ2.1.t _ _) hi1 hi2 hi3 (by show q.row.length<=_;omega)).mono ?_;rintro e w3 ⟨rfl,hz3⟩;have HZ3:Hid (jv X R Q d q w (S.uM (some i) d.ro) (q.row++uN (some i)) (q.cells+(1+n)) q.wt d.se w3):=jv.then (e1:=d.se) (HZ2.2.call (q01 _ _)) rfl hz3;clear hz3;go_wp2_with fail
    go_meet
    exact HZ3
  case rest=>
   rename World=>w2
   have HZ2:=hcut;clear hcut qJ HI;obtain⟨S1,hS1⟩:∃S1,S.uM ko d.ro=S1:=⟨_,rfl⟩;have HE:Hid (S1.K=S.K/\S1.a=S.a/\S1.c=S.c/\S1.D=S.D/\S1.nt=S.nt/\(S.D j).n=n):=by
    rw[<-hS1]
    cases ko<;>exact⟨rfl,rfl,rfl,rfl,rfl,HT.2.2⟩
   rw[hS1] at HZ2 HW HP;clear HT;obtain⟨r1,fG⟩:∃r1,q.row++uN ko=r1:=⟨_,rfl⟩;have hrl:r1.length<=9001:=by
    rw[<-fG,aU]
    cases ko<;>simp[uN]<;>omega
   rw[fG] at HZ2;have HG:Hid (S.uM ko d.ro=S1/\q.row++uN ko=r1):=⟨hS1,fG⟩;clear fG hS1;obtain⟨d2,a2,c2,hp2,hz2,hd2⟩:=HZ2.out;obtain⟨tb,TP,rfl⟩:∃tb TP,d2=d.sn d.se tb TP:=⟨_,_,hd2⟩;go_wp2_with fail;refine(HW _ w2 hz2.t.s hz2.o).mono ?_;rintro e w3 ⟨rfl,eH⟩;have HZ3:Hid (Rz X R Q S1 (d.sn d.se tb TP) ⟨r1,a2,c2,q.cells+(1+n),q.wt⟩ w3/\Rp X R Q d q w (d.sn d.se tb TP) ⟨r1,a2,c2,q.cells+(1+n),q.wt⟩ w3):=⟨hz2.below eH,hp2.call eH⟩;clear eH hp2 hz2 hd2 HZ2 HW;have hO:=(HZ3.1.is.k j (by rw[HE.2.2.2.2.1];exact hj)).1;have k0:w3.cell? ⟨S.K j,0,none⟩=some (.slice (S.a j) n (S.c j)):=by
    have:w3.cell? ⟨S1.K j,0,none⟩=some (.slice (S1.a j) (S1.D j).n (S1.c j)):=hO.1.cell 0 rfl;obtain⟨e1,e2,e3,e4,e5,e6⟩:=HE.out;rw[e1,e2,e3,e4,e6] at this;exact this
   have lK:S.K j<w3.heap.size:=by rw[<-HE.1];exact hO.1.1
   clear hO;go_wp2_with fail
   go_loopw [47] (fun i wr=>∃(k:Nat),k<=n/\i=.int .i64 k/\Hid (jv X R Q d q w S1 r1 (q.cells+(1+n)) (q.wt++nU ks tt k) d.se wr)) (fun i _=>n-(intOf i).toNat)
   case atStart=>
    refine⟨0,aF _,rfl,?_⟩;show jv _ _ _ _ _ _ _ _ _ _ _ _;simp only[nU,List.range_zero,List.filter_nil,List.map_nil,bM];exact⟨_,_,_,HZ3.2,HZ3.1,rfl⟩
   case round=>
    obtain⟨k,hk,rfl,Qc⟩:=hrel;clear k0 lK;obtain⟨d4,a4,c4,Tt,ED,hd4⟩:=Qc.out;obtain⟨Ie,JM,rfl⟩:∃tb TP,d4=d.sn d.se tb TP:=⟨_,_,hd4⟩;have Dz:Hid (Rz X R Q S1 (d.sn d.se Ie JM) ⟨r1,a4,c4,q.cells+(1+n),q.wt++nU ks tt k⟩ wr/\Rp X R Q d q w (d.sn d.se Ie JM) ⟨r1,a4,c4,q.cells+(1+n),q.wt++nU ks tt k⟩ wr):=⟨ED,Tt⟩;clear Tt ED hd4;by_cases fE:k<n
    ·clear Qc;have hj1:j<S1.nt:=by rw[HE.2.2.2.2.1];exact hj
     have hkd:k<(S1.D j).n:=by obtain⟨e1,e2,e3,e4,e5,e6⟩:=HE.out;rw[e4,e6];exact fE
     obtain⟨g,off,hga,hgl,vw⟩:=(NC (Dz.1.is.p j hj1)).c11 hkd;rw[HE.2.1] at hga;rw[hga];have hV:=HP.v k hkd;have HN:Hid (((5:Int),(tt k:Int)) ∉ q.wt++nU ks tt k):=HP.not hkd;have hKF:=HP.k;have hKT:=HP.t;obtain⟨p,hp⟩:∃p,(S1.D j).q k=p:=⟨_,rfl⟩;have HK:Hid ((wk=false/\mX p.key/\ks k=true)\/(wk=true/\p.key=jT 5 (tt k:Int)/\tt k<S1.nt/\S1.tv (tt k)=ptr (S1.K (tt k))/\ks k=(((S1.se (tt k):Nat):Int)==(d.ro:Int)))):=by
      rw[<-hp]
      cases hwk:wk with
      |false=>exact .inl ⟨rfl,hKF hwk k hkd⟩
      |true=>exact .inr ⟨rfl,hKT hwk k hkd⟩
     rw[hp] at vw hV;have HV:Hid (mX p.val):=hV;obtain⟨pk,pv,pt⟩:=p;clear hp hKF hKT hV hkd;obtain⟨c0,c1,c2',c3,xH,c5,c6,c7,c8,c9,c10⟩:=vw;have i0:(0:Int)<=(k:Int):=aS _;have i1:(k:Int)<(n:Int):=by omega
     go_upto_region 7 with fail
     obtain⟨w5,hw5⟩:∃w5,wr.alloc (.cells #[.int .i64 pk.k,.int .i64 pk.n,.float .f64 pk.f,.string pk.s,.int .i64 pk.r,.int .i64 pv.k,.int .i64 pv.n,.float .f64 pv.f,.string pv.s,.int .i64 pv.r,.int .i64 pt] 278)=w5:=⟨_,rfl⟩;obtain⟨b7,hb7⟩:∃b7,wr.heap.size=b7:=⟨_,rfl⟩;have H5:Hid (gZ wr w5/\OwnB w5 b7 #[.int .i64 pk.k,.int .i64 pk.n,.float .f64 pk.f,.string pk.s,.int .i64 pk.r,.int .i64 pv.k,.int .i64 pv.n,.float .f64 pv.f,.string pv.s,.int .i64 pv.r,.int .i64 pt]):=by
      rw[<-hw5,<-hb7];exact⟨q01 _ _,OwnB.new _ _ _⟩
     rw[hw5,hb7];clear hw5 hb7 c0 c1 c2' c3 xH c5 c6 c7 c8 c9 c10 hgl hga;have CQ:Hid (∀u,gZ w5 u->b7<u.heap.size/\u.cell? ⟨b7,0,none⟩=some (.int .i64 pk.k)/\u.cell? ⟨b7,1,none⟩=some (.int .i64 pk.n)/\u.cell? ⟨b7,2,none⟩=some (.float .f64 pk.f)/\u.cell? ⟨b7,3,none⟩=some (.string pk.s)/\u.cell? ⟨b7,4,none⟩=some (.int .i64 pk.r)/\u.cell? ⟨b7,5,none⟩=some (.int .i64 pv.k)/\u.cell? ⟨b7,6,none⟩=some (.int .i64 pv.n)/\u.cell? ⟨b7,7,none⟩=some (.float .f64 pv.f)/\u.cell? ⟨b7,8,none⟩=some (.string pv.s)/\u.cell? ⟨b7,9,none⟩=some (.int .i64 pv.r)):=fun u hu=>by
      have h7:=H5.2.iy hu;exact⟨h7.1.1,h7.1.cell 0 rfl,h7.1.cell 1 rfl,h7.1.cell 2 rfl,h7.1.cell 3 rfl,h7.1.cell 4 rfl,h7.1.cell 5 rfl,h7.1.cell 6 rfl,h7.1.cell 7 rfl,h7.1.cell 8 rfl,h7.1.cell 9 rfl⟩
     have KF:Hid (∀u,gZ w5 u->ks k=true->jv X R Q d q w S1 r1 (q.cells+(1+n)) (q.wt++nU ks tt (k+1)) d.se u):=fun u hu hks=>by
      rw[zs2,hks];simp only[if_true,bM];have hu':=iq H5.1 hu;exact⟨_,_,_,Dz.2.call hu',Dz.1.below hu',rfl⟩
     obtain⟨l7,c0,c1,c2',c3,xH,c5,c6,c7,c8,c9⟩:=CQ.out w5 (ay _ _);rcases HK.out with⟨rfl,hk1,hk2⟩|⟨rfl,hk1,hk2,hk3,hk4⟩
     ·have YP:Hid (mX pk/\ks k=true):=⟨hk1,hk2⟩;clear hk1 hk2 HK;go_wp2_with fail;refine(IZ R _ 1 _ [pk] _ (Sj (OwnB.new w5 _ _).1) (by simpa using YP.1) (by omega)).mono ?_;rintro e w6 ⟨rfl,eY⟩;have yJ:Hid (gZ w5 w6):=iq (q01 _ _) eY;clear eY l7 c0 c1 c2' c3 xH c5 c6 c7 c8 c9;obtain⟨l7,c0,c1,c2',c3,xH,c5,c6,c7,c8,c9⟩:=CQ.out w6 yJ.out;go_wp2_with fail;refine(qx4 R pk w6 YP.1).mono ?_;rintro e w7 ⟨rfl,hb7⟩;have xw:Hid (gZ w5 w7):=iq yJ.out hb7;clear hb7 l7 c0 c1 c2' c3 xH c5 c6 c7 c8 c9;obtain⟨l7,c0,c1,c2',c3,xH,c5,c6,c7,c8,c9⟩:=CQ.out w7 xw.out;go_wp2_with fail;refine(IZ R _ 1 _ [pv] _ (Sj (OwnB.new w7 _ _).1) (by simpa using HV.out) (by omega)).mono ?_;rintro e w8 ⟨rfl,hb8⟩;have HF:Hid (jv X R Q d q w S1 r1 (q.cells+(1+n)) (q.wt++nU ks tt (k+1)) d.se w8):=KF.out w8 (iq xw.out (iq (q01 _ _) hb8)) YP.2;clear hb8 l7 c0 c1 c2' c3 xH c5 c6 c7 c8 c9;go_wp2_with fail;go_roundw
      case rel=>exact⟨k+1,by omega,by go_num,HF⟩
      case measure=>simp[intOf];omega
     ·have XG:pk=jT 5 (tt k:Int):=hk1;clear hk1 HK;subst XG;have DI:Hid (tt k<S1.nt/\S1.tv (tt k)=ptr (S1.K (tt k))/\ks k=(((S1.se (tt k):Nat):Int)==(d.ro:Int))):=⟨hk2,hk3,hk4⟩;clear hk2 hk3 hk4;have zx:Hid (Rz X R Q S1 (d.sn d.se Ie JM) ⟨r1,a4,c4,q.cells+(1+n),q.wt++nU ks tt k⟩ w5):=Dz.1.below H5.1;have HH:Hid (Calls Tryz.prog 362 #[ptr R,iJ 5 0 0 ⟨#[]⟩ (tt k:Int)] w5 fun e w'=>e=.returned (.bool (ks k))/\gZ w5 w'):=by
       have hA:=(zx.is.k (tt k) DI.1).1;have hR:=zx.t.b;have:=Wn R (S1.K (tt k)) 6 5 (tt k:Int) (S1.se (tt k):Int) d.ro w5 X.M (hR.1.cell 0 rfl) (hR.1.cell 1 rfl) hR.1.1 (hA.1.cell 6 rfl) hA.1.1 (fun w=>WO _ w) (fun w' hb=>Ws X _ S1 (tt k) w' (zx.below hb).t.s zx.o DI.1 DI.2.1);rw[<-DI.2.2] at this;exact this
      obtain⟨kb,hkb⟩:∃kb,ks k=kb:=⟨_,rfl⟩;have HKb:Hid (ks k=kb):=hkb;rw[hkb] at HH;clear hkb;go_wp2_with fail;refine HH.mono ?_;rintro e w6 ⟨rfl,eY⟩;have yJ:Hid (gZ w5 w6):=eY;clear eY l7 c0 c1 c2' c3 xH c5 c6 c7 c8 c9 HH;obtain⟨l7,c0,c1,c2',c3,xH,c5,c6,c7,c8,c9⟩:=CQ.out w6 yJ.out
      cases kb with
      |true=>
       go_wp2_with fail;refine(IZ R _ 1 _ [pv] _ (Sj (OwnB.new w6 _ _).1) (by simpa using HV.out) (by omega)).mono ?_;rintro e w8 ⟨rfl,hb8⟩;have HF:Hid (jv X R Q d q w S1 r1 (q.cells+(1+n)) (q.wt++nU ks tt (k+1)) d.se w8):=KF.out w8 (iq yJ.out (iq (q01 _ _) hb8)) HKb.out;clear hb8 l7 c0 c1 c2' c3 xH c5 c6 c7 c8 c9;go_wp2_with fail;go_roundw
       case rel=>exact⟨k+1,by omega,by go_num,HF⟩
       case measure=>simp[intOf];omega
      |false=>
       go_upto_region 10 with fail
       obtain⟨w7,hw7⟩:∃w7,w6.alloc (.cells #[.int .i64 5,.int .i64 (tt k:Int)] 253)=w7:=⟨_,rfl⟩;obtain⟨b8,hb8⟩:∃b8,w6.heap.size=b8:=⟨_,rfl⟩;have H7:Hid (gZ w5 w7/\OwnB w7 b8 #[.int .i64 5,.int .i64 (tt k:Int)]):=by
        rw[<-hw7,<-hb8];exact⟨iq yJ (q01 _ _),OwnB.new _ _ _⟩
       rw[hw7,hb8];clear hw7 hb8 l7 c0 c1 c2' c3 xH c5 c6 c7 c8 c9;obtain⟨l7,_,_,_,_,_,c5,c6,c7,c8,c9⟩:=CQ.out w7 H7.1;have CJ:Hid (Rz X R Q S1 (d.sn d.se Ie JM) ⟨r1,a4,c4,q.cells+(1+n),q.wt++nU ks tt k⟩ w7/\Rp X R Q d q w (d.sn d.se Ie JM) ⟨r1,a4,c4,q.cells+(1+n),q.wt++nU ks tt k⟩ w7):=⟨zx.below H7.1,Dz.2.call (iq H5.1 H7.1)⟩;have m0:=H7.2.1.cell 0 rfl;have m1:=H7.2.1.cell 1 rfl;have l8:=H7.2.1.1;have r3:w7.cell? ⟨R,3,none⟩=some (.map (some Q)):=CJ.1.t.b.1.cell 3 rfl;have lR:=CJ.1.t.b.1.1;obtain⟨st1,w81,v1,w91,wA,OQ,GI,a01,hp1⟩:=CJ.1.t.N9 (m:=(5,(tt k:Int))) HN.out pv;obtain⟨st2,w82,v2,w92,wB,OO,GH,a00,hp2⟩:=CJ.1.t.N8 (m:=(5,(tt k:Int))) HN.out pv;have HFin:Hid (∀u,Rp X R Q (d.sn d.se Ie JM) ⟨r1,a4,c4,q.cells+(1+n),q.wt++nU ks tt k⟩ w7 (d.sn d.se Ie JM) ⟨r1,a4,c4,q.cells+(1+n),(q.wt++nU ks tt k)++[(5,(tt k:Int))]⟩ u->jv X R Q d q w S1 r1 (q.cells+(1+n)) (q.wt++nU ks tt (k+1)) d.se u):=fun u hu=>by
        rw[zs2,HKb.out,<-List.append_assoc];exact⟨_,_,_,CJ.2.trans hu,⟨hu.t,CJ.1.o,CJ.1.k.rp CJ.1.t hu⟩,rfl⟩
       have HFA:Hid (jv X R Q d q w S1 r1 (q.cells+(1+n)) (q.wt++nU ks tt (k+1)) d.se wA):=HFin.out _ hp1;have HFB:Hid (jv X R Q d q w S1 r1 (q.cells+(1+n)) (q.wt++nU ks tt (k+1)) d.se wB):=HFin.out _ hp2;dsimp only[qX,vO] at OQ OO GI GH;clear hp1 hp2 HFin CJ H7 yJ CQ KF zx Dz H5
       go_region_law (first
        |(refine xU (by rfl) _ _ _ _ (by rfl) (.slice none 0 0) (.slice (some ⟨w7.heap.size,0,none⟩) 1 1) _ _ (by rfl) (by rfl) GI ?_)
        |(refine xU (by rfl) _ _ _ _ (by rfl) (.slice none 0 0) (.slice (some ⟨w82.heap.size,0,none⟩) 1 1) _ _ (by rfl) (by rfl) GH ?_))
       all_goals go_wp2_with fail
       all_goals go_roundw
       all_goals first
        |exact⟨k+1,by omega,by go_num,HFA⟩
        |exact⟨k+1,by omega,by go_num,HFB⟩
        |(simp[intOf];omega)
    ·obtain rfl:k=n:=by omega
     have e0:((k:Int)<(k:Int))=False:=by simp
     go_wp2_with fail;go_end0;refine⟨rfl,?_⟩;rw[HG.1,HG.2];exact Qc
end
section
open Go.RowKit
structure nJ(S:TS)(n p:Nat):Prop where
 nt:S.nt=n+2
 p0:(S.D 0).n=p
 k0:∀i,i<p->((S.D 0).q i).key=jT 5 ((i+2:Nat):Int)
 v0:∀i,i<p->((S.D 0).q i).val=⟨2,(i:Int),0,⟨#[]⟩,0⟩
 t0:∀i,i<p->((S.D 0).q i).turn=(i:Int)+1
 p1:(S.D 1).n=1
 k1:((S.D 1).q 0).key=pV tC
 v1:((S.D 1).q 0).val=pV sK
 pe:∀j,2<=j->j<n+2->(S.D j).n=0
 Jd:S.kd 0=ptr (S.K 1)
 Jc:∀j,1<=j->j<n+2->S.kd j=.pointer none
def jS(kept:Nat):List Nat:=0 :: (List.range kept).map (·+2)
theorem Uw(kept:Nat):(jS kept).length=kept+1:=by simp[jS]
theorem yq9{kept i:Nat}(h:i<kept):(jS kept)[i+1]?=some (i+2):=by simp[jS,h]
theorem kJ{kept t:Nat}:t∈jS kept↔t=0\/(2<=t/\t<kept+2):=by
 simp only[jS,List.mem_cons,List.mem_map,dY];constructor
 ·rintro(h|⟨a,h1,h2⟩)
  ·exact .inl h
  ·exact .inr (by omega)
 ·rintro(h|h)
  ·exact .inl h
  ·exact .inr ⟨t-2,by omega,by omega⟩
theorem y42(kept:Nat):(jS kept).Nodup:=by
 unfold jS;rw[List.nodup_cons];refine⟨fun h=>?_,?_⟩
 ·obtain⟨a,_,h⟩:=List.mem_map.1 h;omega
 ·exact List.pairwise_map.2 (List.nodup_range.imp (fun h e=>h (by simpa using e)))
section
variable {S S':TS}{n p kept ro:Nat}
theorem nJ.sees(h:nJ S n p)(f:Nat->Nat):nJ {S with se:=f} n p:=⟨h.nt,h.p0,h.k0,h.v0,h.t0,h.p1,h.k1,h.v1,h.pe,h.Jd,h.Jc⟩
theorem yg5(h:nJ S n p):hdl S (some 1) tC=pV sK:=by
 show(gt (S.D 1).q (mk (pV tC)) (S.D 1).n).val=_;rw[h.p1];have:rP (S.D 1).q (mk (pV tC)) 1=some 0:=Zi (by rw[h.k1]) (fun j hj=>absurd hj (aT _)) (by omega);unfold gt;rw[this];exact h.v1
theorem nJ.wE(h:nJ S n p):vH S 0 (some 1)/\EW (hdl S (some 1) tC) true:=⟨⟨h.Jd,by rw[h.nt];omega⟩,.inr ⟨by rw[yg5 h],rfl⟩⟩
theorem nJ.Bq(h:nJ S n p){j:Nat}(h1:1<=j)(h2:j<n+2):vH S j none/\EW (hdl S none tC) false:=⟨h.Jc j h1 h2,.inl ⟨rfl,rfl⟩⟩
theorem yk6(i:Int):mX ⟨2,i,0,⟨#[]⟩,0⟩:=⟨rfl,rfl,rfl⟩
theorem ya5(s:ByteArray):mX (pV s):=⟨rfl,rfl,rfl⟩
def yc(kept:Nat)(i:Nat):Bool:=decide (i<kept)
def rW(i:Nat):Nat:=i+2
def RI(S:TS)(kept ro s:Nat):TS:=if s=0 then S else if s<kept+2 then S.jD (jS kept) ro else(S.jD (jS kept) ro).ng 1 ro
def rE(S:TS)(p kept ro:Nat):TN where
 S:=RI S kept ro
 row s:=if s=0 then[jT 7 0] else if s<kept+2 then((jS kept).take (kept+2-s)).map (fun t:Nat=>jT 5 (t:Int)) else if s=kept+2 then[jT 5 1] else[]
 cells s:=if s<kept+2 then s-1 else if s=kept+2 then kept+(1+p) else kept+(1+p)+2
 wt s:=if s<kept+2 then[] else nU (yc kept) rW p
 se _:=ro
theorem j71(h:nJ S n p){j:Nat}(hj:2<=j)(hj2:j<n+2)(wt:List (Int×Int)):yH S ro j false (fun _=>true) rW wt:=by
 have e:=h.pe j hj hj2;exact⟨fun i hi=>by omega,fun _ i hi=>by omega,fun _ i hi=>by omega,fun i i' hi _ _=>by omega,fun i hi=>by omega⟩
theorem j72(h:nJ S n p){wt:List (Int×Int)}(hw:((5:Int),(1:Int)) ∉ wt):yH S ro 1 false (fun _=>true) (fun _=>1) wt:=by
 have e:=h.p1;have h0:∀i,i<(S.D 1).n->i=0:=fun i hi=>by omega
 exact⟨fun i hi=>by rw[h0 i hi,h.v1];exact ya5 _,fun _ i hi=>⟨by rw[h0 i hi,h.k1];exact ya5 _,rfl⟩,(fun e=>nomatch e),fun i i' hi hi' _=>by rw[h0 i hi,h0 i' hi'],fun i _=>hw⟩
theorem j73(h:nJ S n p)(hp:p<=n)(oQ:∀j,j<p+2->S.tv j=ptr (S.K j))(hse:∀i,i<p->(S.se (i+2)=ro↔i<kept)):yH S ro 0 true (yc kept) rW []:=by
 refine⟨fun i hi=>?_,(fun e=>nomatch e),fun _ i hi=>?_,fun i i' _ _ e=>by unfold rW at e;omega,(fun i _ c=>nomatch c)⟩
 ·rw[h.p0] at hi;rw[h.v0 i hi];exact yk6 _
 ·rw[h.p0] at hi;refine⟨h.k0 i hi,by rw[h.nt];unfold rW;omega,oQ _ (by unfold rW;omega),?_⟩;have:=hse i hi;unfold yc rW;by_cases c:i<kept
  ·rw[bJ c,this.2 c];simp
  ·rw[bP c];have:S.se (i+2)≠ro:=fun e=>c (this.1 e);symm;simp;omega
theorem yy0(S:TS)(kept ro i:Nat)(h0:∀j,S.se j≠ro):((S.jD (jS kept) ro).ng 1 ro).se (i+2)=ro↔i<kept:=by
 show(if i+2=1 then ro else if i+2∈jS kept then ro else S.se (i+2))=ro↔_;rw[au (by omega)];by_cases c:i<kept
 ·rw[aO (kJ.2 (.inr ⟨by omega,by omega⟩))];simp[c]
 ·rw[au (fun h=>by rcases kJ.1 h with h|h<;>omega)];exact⟨fun e=>absurd e (h0 _),fun e=>absurd e c⟩
theorem y38(kept p:Nat):((5:Int),(1:Int)) ∉ nU (yc kept) rW p:=fun c=>by
 obtain⟨i,_,e⟩:=List.mem_map.1 c;have:((rW i:Nat):Int)=1:=aJ Prod.snd e;unfold rW at this;omega
theorem zs1(tt:Nat->Nat)(k:Nat):nU (fun _=>true) tt k=[]:=by simp[nU]
end
end
end Go.Proofs.YthnkncpegihbhaaGreatDoor
