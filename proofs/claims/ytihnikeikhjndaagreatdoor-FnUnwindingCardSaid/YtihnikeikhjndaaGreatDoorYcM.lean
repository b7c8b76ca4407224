import Derived.Test.YtihnikeikhjndaaGreatDoorYrG
import Derived.Test.YtihnikeikhjndaaGreatDoorUnD
import Derived.Test.YtihnikeikhjndaaGreatDoorYcE
set_option maxRecDepth 100000
set_option maxHeartbeats 16000000
namespace Go.Proofs.YtihnikeikhjndaaGreatDoor
section
open Go.RowKit
theorem y38{u:World}{t:TypeId}{K g n m cap:Nat}{L:List Value}(h:u.ownsRow 0 t K (.slice (some ⟨g,0,none⟩) n cap) n L)(hm:m<=n):u.ownsRow 0 t K (.slice (some ⟨g,0,none⟩) m cap) m (L.take (m*K)):=by
 have hmk:m*K<=n*K:=Nat.mul_le_mul_right K hm;refine⟨by rw[List.length_take,h.1];omega,?_⟩;rcases h.2 with⟨e,_⟩|⟨g',c',cur,e,h1,h2,h3,h4,h5,h6⟩
 ·cases e
 ·cases e;exact .inr ⟨g,cap,cur,rfl,h1,h2,by omega,h4,h5,by rw[<-h6,List.take_take,Nat.min_eq_left hmk]⟩
def fab(d:FD)(x:FA)(k:Nat):Prop:=aj x.va=some k\/aj x.ua=some k\/aj x.na=some k\/∃i,i<d.nn/\(aj (x.nas i).ra=some k\/aj (x.nas i).ka=some k)
theorem z21{T:Nat->Prop}{w w':World}{d:FD}{x:FA}(h:ig 0 w d x)(g:Gx T w w')(hT:∀k,fab d x k->¬T k):ig 0 w' d x:=
 ⟨g.row h.1 (fun b e=>hT _ (.inl (by rw[e];rfl))),g.row h.2.1 (fun b e=>hT _ (.inr (.inl (by rw[e];rfl)))),g.row h.2.2.1 (fun b e=>hT _ (.inr (.inr (.inl (by rw[e];rfl))))),fun i hi=>⟨g.row (h.2.2.2 i hi).1 (fun b e=>hT _ (.inr (.inr (.inr ⟨i,hi,.inl (by rw[e];rfl)⟩)))),g.row (h.2.2.2 i hi).2 (fun b e=>hT _ (.inr (.inr (.inr ⟨i,hi,.inr (by rw[e];rfl)⟩))))⟩⟩
def yJ(nm:ByteArray)(ln:Int)(rs:Bool)(vs:List ByteArray)(l:List (ND×NA)):FD:=⟨nm,ln,0,rs,vs.length,fun i=>vs.getD i ⟨#[]⟩,0,fun _=>⟨false,0⟩,l.length,fun i=>(l.getD i nd0).1⟩
def Ia(S:bJ)(g:Nat)(l:List (ND×NA)):FA:=⟨S.va,S.vc,none,0,some ⟨g,0,none⟩,S.nc,fun i=>(l.getD i nd0).2⟩
theorem GR{α:Type}:∀(l:List α) (i:Nat) (d:α),i<l.length->l.getD i d∈l
 |[],i,d,h=>absurd h (by simp)
 |x :: l,0,d,_=>by simp
 |x :: l,i+1,d,h=>by
  have:=GR l i d (by simpa using h);show l.getD i d∈x :: l;exact List.mem_cons_of_mem _ this
theorem LZ.J6{I:bQ}{S:bJ}{g:Nat}{l:List (ND×NA)}{w:World}(h:LZ I S g l w)(nm:ByteArray)(ln:Int)(rs:Bool){vs:List ByteArray}(hv:S.vl=vs.map .string):ig 0 w (yJ nm ln rs vs l) (Ia S g l):=by
 refine⟨fun h0=>?_,fun h0=>absurd h0 (Nat.not_lt_zero _),h.r,fun i hi=>?_⟩
 ·have hv0:=h.v;rw[hv,List.length_map] at hv0;rcases hv0.2 with⟨_,e⟩|⟨g',c,cur,e,h1,h2,_⟩
  ·replace h0:0<vs.length:=h0;omega
  ·have e1:S.va=some ⟨g',0,none⟩:=by injection e
   refine⟨g',0,e1,by omega,(Array.getElem?_eq_some_iff.1 h2).1,fun i hi j hj=>?_⟩;replace hi:i<vs.length:=hi;obtain rfl:j=0:=by omega
   have hc:=hv0.cells (g:=g') (by rw[e1];rfl) i (.string (vs.getD i ⟨#[]⟩)) (by simp[List.getD_eq_getElem?_getD,List.getElem?_eq_getElem hi]);rw[show 0+i*1+0=i by omega];show w.cell? ⟨g',i,none⟩=some (.string (vs.getD i ⟨#[]⟩))
   cases i<;>simpa[Addr.add] using hc
 ·have hm:=GR l i nd0 hi;obtain⟨x1,x2,_⟩:=h.x _ hm;exact⟨x1,x2⟩
theorem LZ.Je{I:bQ}{S:bJ}{g:Nat}{l:List (ND×NA)}{w:World}(h:LZ I S g l w)(nm:ByteArray)(ln:Int)(rs:Bool)(vs:List ByteArray):jc (yJ nm ln rs vs l) (Ia S g l):=⟨h.cap,fun i hi=>(h.x _ (GR l i nd0 hi)).2.2⟩
theorem LZ.fab{I:bQ}{S:bJ}{g:Nat}{l:List (ND×NA)}{w:World}(h:LZ I S g l w)(nm:ByteArray)(ln:Int)(rs:Bool)(vs:List ByteArray){k:Nat}(e:fab (yJ nm ln rs vs l) (Ia S g l) k):bl I k/\k<w.heap.size:=by
 rcases e with e|e|e|⟨i,hi,e⟩
 ·exact⟨h.vb k e,(q16 h.v e).2⟩
 ·cases e
 ·obtain rfl:g=k:=Option.some.inj e;exact h.gb
 ·exact h.xb _ (GR l i nd0 hi) k e
theorem bl.of{I I':bQ}{k:Nat}(h:bl I k)(hn:I'.N<=k)(eB:I'.B=I.B)(eC:I'.C=I.C)(hF:k≠I'.F)(hK:k≠I'.K):bl I' k:=⟨hn,by rw[eB];exact h.b,by rw[eC];exact h.c,hF,hK⟩
theorem LB.name{I:bQ}{S:bJ}{u:World}(h:LB I S u)(v:Value):LB {I with A0:=I.A0.set I.fo v} S (u.setCell ⟨I.F,I.fo,none⟩ v)/\Gx (fun k=>k=I.F) u (u.setCell ⟨I.F,I.fo,none⟩ v):=by
 have hi:=h.i;have g:Gx (fun k=>k=I.F) u (u.setCell ⟨I.F,I.fo,none⟩ v):=Gx.set u I.F I.fo _;obtain⟨L,h1,h4,h6,h0⟩:=h.f;have hb:∀{k:Nat},bl I k->bl {I with A0:=I.A0.set I.fo v} k:=fun q=>⟨q.n,q.b,q.c,q.f,q.k⟩;have hq:∀{a:Option Addr} {n:Nat} {q:Nat->Int},dV I S u a n q->dV {I with A0:=I.A0.set I.fo v} S (u.setCell ⟨I.F,I.fo,none⟩ v) a n q:=fun r=>by
  have r':=r.gx (S':=S) g (fun k e=>.inl (.inr (.inr (.inl e)))) (fun _ _=>⟨fun e=>e,fun e=>e⟩);exact⟨r'.1,fun b e=>⟨hb (r'.2 b e).1,(r'.2 b e).2⟩⟩
 refine⟨⟨⟨hi.bc,hi.bf,hi.bk,hi.cf,hi.ck,hi.fk,hi.hf,hi.hk,hi.m⟩,uV h.b hi.bf,uQ h.c g hi.cf,⟨L.set I.fo v,Lh h1 _,?_,?_,fun o o1 o2=>?_⟩,h.k.other hi.fk.symm,jh h.r _ fun k e=>(h.rb k ((dD _ _ _).symm.trans e)).f,jh h.v _ fun k e=>(h.vb k ((dD _ _ _).symm.trans e)).f,fun p hp=>⟨hq (h.x p hp).1,hq (h.x p hp).2.1,(h.x p hp).2.2⟩,fun k e=>hb (h.rb k e),fun k e=>hb (h.vb k e),by simpa using h.n⟩,g⟩
 ·show(L.set I.fo v)[I.fo+4]?=_;rw[List.getElem?_set_ne (by omega)];exact h4
 ·show(L.set I.fo v)[I.fo+6]?=_;rw[List.getElem?_set_ne (by omega)];exact h6
 ·have e1:I.fo<L.length:=by have:=(List.getElem?_eq_some_iff.1 h6).1;omega
  have e2:I.fo<I.A0.length:=by
   have:=h0 I.fo (by omega) (by omega);rw[List.getElem?_eq_getElem e1] at this;exact(List.getElem?_eq_some_iff.1 this.symm).1
  show(L.set I.fo v)[o]?=(I.A0.set I.fo v)[o]?;by_cases c:o=I.fo
  ·rw[c,List.getElem?_set_self e1,List.getElem?_set_self e2]
  ·rw[List.getElem?_set_ne (by omega),List.getElem?_set_ne (by omega)];exact h0 o o1 o2
structure Sb(I:bQ)(S:bJ)(u:World)(m:Nat)(I':bQ)(S':bJ)(w:World):Prop where
 s:LB I' S' w
 eN:I'.N=I.N
 eB:I'.B=I.B
 eC:I'.C=I.C
 ef:I'.f=I.f
 ek:I'.nk=I.nk
 en:I'.nf=I.nf+m
 hF:I'.F=I.F\/u.heap.size<=I'.F
 hK:I'.K=I.K\/u.heap.size<=I'.K
 A:∀o,o<I.nf*7->o≠I.fo+4->o≠I.fo+6->I'.A0[o]?=I.A0[o]?
 K:∀o,o<I.ko->I'.K0[o]?=I.K0[o]?
 g:Gx (fun k=>inb I k\/aj S.na=some k\/aj S.va=some k) u w
 m:∀k,k<u.heap.size->(aj S'.na=some k->aj S.na=some k)/\(aj S'.va=some k->aj S.va=some k)
 vl:S'.vl=S.vl
section
variable {I I':bQ}{S S' zZ:bJ}{u w w':World}{m:Nat}
theorem Sb.inb(h:Sb I S u m I' S' w){k:Nat}(hk:k<u.heap.size)(e:inb I' k):inb I k:=by
 rcases e with e|e|e|e
 ·exact .inl (by rw[e,h.eB])
 ·exact .inr (.inl (by rw[e,h.eC]))
 ·rcases h.hF with c|c
  ·exact .inr (.inr (.inl (by rw[e,c])))
  ·omega
 ·rcases h.hK with c|c
  ·exact .inr (.inr (.inr (by rw[e,c])))
  ·omega
theorem Sb.lx(h:Sb I S u m I' S' w)(k:Lx I' S' w zZ w')(hv:zZ.vl=S'.vl):Sb I S u m I' zZ w':=by
 have hs:=h.g.size;refine⟨k.s,h.eN,h.eB,h.eC,h.ef,h.ek,h.en,h.hF,h.hK,h.A,h.K,h.g.trans k.g (fun i hi e=>?_),fun i hi=>⟨fun e=>(h.m i hi).1 ((k.m i (by omega)).1 e),fun e=>(h.m i hi).2 ((k.m i (by omega)).2 e)⟩,hv.trans h.vl⟩;rcases e with e|e|e
 ·exact .inl (h.inb hi e)
 ·exact .inr (.inl ((h.m i hi).1 e))
 ·exact .inr (.inr ((h.m i hi).2 e))
theorem Sb.refl(h:LB I S u):Sb I S u 0 I S u:=⟨h,rfl,rfl,rfl,rfl,rfl,rfl,.inl rfl,.inl rfl,fun _ _ _ _=>rfl,fun _ _=>rfl,Gx.refl _ _,fun _ _=>⟨fun e=>e,fun e=>e⟩,rfl⟩
end
theorem yc9{I0 I2:bQ}{S0 S2 S3:bJ}{u0 u2 w:World}{c:IL}{g:Nat}{L LK:List Value}(h0:LB I0 S0 u0)(hs:BZ I2 S2 u2 c S3 g w)(hi2:I2.ok)(eB:I2.B=I0.B)(eC:I2.C=I0.C)(ef:I2.f=I0.nf)(en:I0.nf<I2.nf)(ek:I2.nk=I0.nk+1)(hF:I2.F=I0.F\/u0.heap.size<=I2.F)(hK:I2.K=I0.K\/u0.heap.size<=I2.K)(hL:JY I0 L (.slice S0.va S0.vl.length S0.vc) (.slice S0.na S0.l.length S0.nc))(IX:Ju I0 LK S0.ln S0.sc)(hA:∀o,o<I0.nf*7->I2.A0[o]?=L[o]?)(ML:∀o,o<I0.nk*5->I2.K0[o]?=LK[o]?)(G:Gx (inb I0) u0 w):∃A K,Sb I0 S0 u0 (I2.nf-I0.nf) ⟨I0.N,I0.B,I0.C,I2.F,I2.K,I2.fc,I2.kc,I2.nf,I0.f,I0.nk,A,K⟩ {S0 with lf:=S3.lf,A:=S3.A} w/\(∀o,o≠I2.fo+4->o≠I2.fo+6->A[o]?=I2.A0[o]?)/\A[I2.fo+4]?=some (.slice S3.va S3.vl.length S3.vc)/\A[I2.fo+6]?=some (.slice (some ⟨g,0,none⟩) (S2.l.length+1) S3.nc):=by
 obtain⟨A,a1,a4,a6,a0⟩:=hs.z.f;obtain⟨Kl,k1,kf,ksc,kne,kln,kr⟩:=hs.kx;have hi:=h0.i;have hf:=hi.hf;have hk:=hi.hk;have hfo:I2.fo=I0.nf*7:=by show I2.f*7=_;rw[ef]
 have hko:I2.ko=I0.nk*5:=by show(I2.nk-1)*5=_;rw[ek];rfl
 have hlen:(S2.l++[(gQ 1 1 0 aY c,gJ aY c)]).length=S2.l.length+1:=by simp
 rw[hlen] at a6;have hb:=hs.b;rw[eB,eC,ek,show I0.nk+1-1=I0.nk by omega] at hb;have XI:=hs.cu;rw[eC] at XI;have bF:I0.B≠I2.F:=by rw[<-eB];exact hi2.bf
 have bK:I0.B≠I2.K:=by rw[<-eB];exact hi2.bk
 have cF:I0.C≠I2.F:=by rw[<-eC];exact hi2.cf
 have cK:I0.C≠I2.K:=by rw[<-eC];exact hi2.ck
 have Rt:∀{k:Nat},bl I0 k->k<u0.heap.size->bl ⟨I0.N,I0.B,I0.C,I2.F,I2.K,I2.fc,I2.kc,I2.nf,I0.f,I0.nk,A,Kl⟩ k:=fun q hk=>⟨q.n,q.b,q.c,by
  rcases hF with e|e
  ·rw[e];exact q.f
  ·show _≠I2.F;omega,by
  rcases hK with e|e
  ·rw[e];exact q.k
  ·show _≠I2.K;omega⟩
 have hq:∀{a:Option Addr} {n:Nat} {q:Nat->Int},dV I0 S0 u0 a n q->dV ⟨I0.N,I0.B,I0.C,I2.F,I2.K,I2.fc,I2.kc,I2.nf,I0.f,I0.nk,A,Kl⟩ {S0 with lf:=S3.lf,A:=S3.A} w a n q:=fun r=>⟨G.row r.1 (fun b e t=>(r.2 b e).1.no t),fun b e=>⟨Rt (r.2 b e).1 (r.2 b e).2.1,Nat.lt_of_lt_of_le (r.2 b e).2.1 G.size,(r.2 b e).2.2⟩⟩;have fo0:I0.fo+6<I0.nf*7:=by show I0.f*7+6 < _;omega
 have kt:∀o,o<I0.nk*5->(Kl.take (I0.nk*5))[o]?=LK[o]?:=fun o ho=>by
  rw[List.getElem?_take_of_lt ho,kr o (by rw[hko];exact ho)];exact ML o ho
 have ko0:I0.ko+4<I0.nk*5:=by show(I0.nk-1)*5+4 < _;omega
 refine⟨A,Kl,⟨⟨⟨hi.bc,bF,bK,cF,cK,hi2.fk,by show I0.f<I2.nf;omega,hk,by have:=hi2.m.1;have:=hi.m.2;show I2.nf<=50/\I0.nk<=50;omega⟩,hb,XI,⟨A,a1,?_,?_,fun _ _ _=>rfl⟩,⟨Kl.take (I0.nk*5),?_,?_,?_,?_,?_,fun o ho=>?_⟩,?_,?_,fun p hp=>⟨hq (h0.x p hp).1,hq (h0.x p hp).2.1,(h0.x p hp).2.2⟩,fun k e=>Rt (h0.rb k e) (q16 h0.r e).2,fun k e=>Rt (h0.vb k e) (q16 h0.v e).2,Nat.le_trans h0.n G.size⟩,rfl,rfl,rfl,rfl,rfl,by show I2.nf=I0.nf+(I2.nf-I0.nf);omega,hF,hK,fun o ho o4 o6=>?_,fun o ho=>?_,G.mono (fun k e=>.inl e),fun _ _=>⟨fun e=>e,fun e=>e⟩,rfl⟩,a0,a4,a6⟩
 ·show A[I0.fo+4]?=_;rw[a0 _ (by omega) (by omega),hA _ (by omega)];exact hL.v
 ·show A[I0.fo+6]?=_;rw[a0 _ (by omega) (by omega),hA _ (by omega)];exact hL.d
 ·exact y38 (by rw[ek] at k1;exact k1) (by show I0.nk<=I0.nk+1;omega)
 ·exact(kt _ (by show(I0.nk-1)*5 < _;omega)).trans IX.f
 ·exact(kt _ (by show(I0.nk-1)*5+1 < _;omega)).trans IX.sc
 ·exact(kt _ (by show(I0.nk-1)*5+3 < _;omega)).trans IX.ne
 ·exact(kt _ (by show(I0.nk-1)*5+4 < _;omega)).trans IX.ln
 ·replace ho:o<(I0.nk-1)*5:=ho;show(Kl.take (I0.nk*5))[o]?=Kl[o]?;rw[List.getElem?_take_of_lt (by omega)]
 ·exact jS h0.r fun k e=>by
   have e':=(dD _ _ _).symm.trans e;exact G.block k (q16 h0.r e').2 (fun t=>(h0.rb k e').no t)
 ·exact jS h0.v fun k e=>by
   have e':=(dD _ _ _).symm.trans e;exact G.block k (q16 h0.v e').2 (fun t=>(h0.vb k e').no t)
 ·rw[show A[o]?=I2.A0[o]? from a0 o (by omega) (by omega),hA o ho];exact hL.o o o4 o6
 ·show Kl[o]?=I0.K0[o]?;have ho':o<(I0.nk-1)*5:=ho;rw[kr o (by rw[hko];omega),ML o (by omega)];exact IX.o o ho
abbrev CZ:ND×NA:=(⟨25,0,0,0,0,dP,0,fun _=>0,0,fun _=>0⟩,gJ aY aY)
structure IsG(z:Int)(f:Nat)(p0 p1 p2 p3 p4 p5 p6 p7:ND×NA):Prop where
 p0:gX false 28 0 [] [] p0
 p1:gX false 23 z [] [] p1
 p2:gX false 34 0 [] [0,1] p2
 p3:gX true 14 0 [] [2] p3
 p4:gX false 36 0 [(f:Int)] [] p4
 p5:gX false 34 0 [] [4] p5
 p6:gX true 4 0 [] [5] p6
 p7:gX true 1 0 [] [3,6] p7
structure IsT(z:Int)(p0 p1 p2 p3 p5 p6:ND×NA):Prop where
 p0:gX false 28 0 [] [] p0
 p1:gX false 23 z [] [] p1
 p2:gX false 34 0 [] [0,1] p2
 p3:gX true 14 0 [] [2] p3
 p5:gX true 13 0 [] [4] p5
 p6:gX true 1 0 [] [3,5] p6
def Ae(f n:Nat)(l:List (ND×NA)):Prop:=(f<n/\∃p0 p1 p2 p3 p4 p5 p6 p7,l=[p0,p1,p2,p3,p4,p5,p6,p7]/\IsG ((f:Int)-1) (f+1) p0 p1 p2 p3 p4 p5 p6 p7)\/(f=n/\∃p0 p1 p2 p3 p5 p6,l=[p0,p1,p2,p3,CZ,p5,p6]/\IsT ((f:Int)-1) p0 p1 p2 p3 p5 p6)
structure Done(w:World)(f n:Nat)(d:FD)(x:FA):Prop where
 at_:ig 0 w d x
 cap:jc d x
 sh:∃ln l,d=yJ sG ln false [] l/\0<=ln/\ln<=5000/\Ae f n l
structure Fs(I:bQ)(S:bJ)(a b n lo:Nat)(fd:Nat->FD)(fx:Nat->FA)(w:World):Prop where
 c:∀j,a<=j->j<b->∀t,t<7->I.A0[j*7+t]?=(jO (fd j) (fx j))[t]?
 d:∀j,a<=j->j<b->Done w j n (fd j) (fx j)
 b:∀j,a<=j->j<b->∀k,fab (fd j) (fx j) k->lo<=k/\k<w.heap.size/\bl I k/\aj S.na≠some k/\aj S.va≠some k
section
variable {I:bQ}{S S':bJ}{a b n lo:Nat}{fd:Nat->FD}{fx:Nat->FA}{w w':World}
theorem Fs.lx(h:Fs I S a b n lo fd fx w)(k:Lx I S w S' w'):Fs I S' a b n lo fd fx w':=by
 refine⟨h.c,fun j h1 h2=>?_,fun j h1 h2 i e=>?_⟩
 ·have hd:=h.d j h1 h2;exact⟨z21 hd.at_ k.g (fun i e t=>by
   obtain⟨_,_,q1,q2,q3⟩:=h.b j h1 h2 i e;rcases t with t|t|t
   ·exact q1.no t
   ·exact q2 t
   ·exact q3 t),hd.cap,hd.sh⟩
 ·obtain⟨l1,l2,q1,q2,q3⟩:=h.b j h1 h2 i e;exact⟨l1,Nat.lt_of_lt_of_le l2 k.g.size,q1,fun c=>q2 ((k.m i l2).1 c),fun c=>q3 ((k.m i l2).2 c)⟩
theorem Fs.nil(I:bQ)(S:bJ)(a n lo:Nat)(fd:Nat->FD)(fx:Nat->FA)(w:World):Fs I S a a n lo fd fx w:=⟨fun j h1 h2=>by omega,fun j h1 h2=>by omega,fun j h1 h2=>by omega⟩
end
theorem Fs.lo{I:bQ}{S:bJ}{a b n lo lo':Nat}{fd:Nat->FD}{fx:Nat->FA}{w:World}(h:Fs I S a b n lo fd fx w)(hl:lo'<=lo):Fs I S a b n lo' fd fx w:=⟨h.c,h.d,fun j h1 h2 k e=>⟨Nat.le_trans hl (h.b j h1 h2 k e).1,(h.b j h1 h2 k e).2⟩⟩
theorem Gd.mono{S:bJ}{n m:Nat}(g:Gd S n)(h:n<=m):Gd S m:=by
 have g1:=g.l;have g2:=g.f1;have g3:=g.f2;have g4:=g.A;have g5:=g.n1;have g6:=g.n2;exact⟨by omega,by omega,g3,by omega,g5,by omega⟩
theorem Sb.trans{I I' Ym:bQ}{S S' zZ:bJ}{u w w':World}{m m':Nat}(h:Sb I S u m I' S' w)(k:Sb I' S' w m' Ym zZ w'):Sb I S u (m+m') Ym zZ w':=by
 have hs:=h.g.size;have e1:I'.fo=I.fo:=by show I'.f*7=I.f*7;rw[h.ef]
 have e2:I'.ko=I.ko:=by show(I'.nk-1)*5=(I.nk-1)*5;rw[h.ek]
 have en:=h.en;refine⟨k.s,k.eN.trans h.eN,k.eB.trans h.eB,k.eC.trans h.eC,k.ef.trans h.ef,k.ek.trans h.ek,by rw[k.en,h.en];omega,?_,?_,fun o ho o4 o6=>?_,fun o ho=>?_,h.g.trans k.g (fun i hi e=>?_),fun i hi=>⟨fun e=>(h.m i hi).1 ((k.m i (by omega)).1 e),fun e=>(h.m i hi).2 ((k.m i (by omega)).2 e)⟩,k.vl.trans h.vl⟩
 ·rcases k.hF with c|c
  ·rw[c];exact h.hF
  ·exact .inr (by omega)
 ·rcases k.hK with c|c
  ·rw[c];exact h.hK
  ·exact .inr (by omega)
 ·rw[k.A o (by rw[en];omega) (by rw[e1];exact o4) (by rw[e1];exact o6)];exact h.A o ho o4 o6
 ·rw[k.K o (by rw[e2];exact ho)];exact h.K o ho
 ·rcases e with e|e|e
  ·exact .inl (h.inb hi e)
  ·exact .inr (.inl ((h.m i hi).1 e))
  ·exact .inr (.inr ((h.m i hi).2 e))
structure N7(I:bQ)(S:bJ)(u:World)(n c:Nat)(I':bQ)(S':bJ)(p0 p1:ND×NA)(fd:Nat->FD)(fx:Nat->FA)(w:World):Prop where
 s:Sb I S u (n+1-I.nf) I' S' w
 fs:Fs I' S' I.nf (n+1) n u.heap.size fd fx w
 l:S'.l=S.l++[p0,p1]
 p0:gX false 36 0 [(I.nf:Int)] [] p0
 p1:gX false 34 0 [] [(S.l.length:Int)] p1
 g:Gd S' c
theorem yb1{I:bQ}{S:bJ}{u w1 w2 wa w3:World}{nm:ByteArray}{L LK:List Value}{F K fc kc n c:Nat}{S1 S2 S3:bJ}{I2:bQ}{cl:IL}{g:Nat}{fd:Nat->FD}{fx:Nat->FA}(h0:LB I S u)(hg0:Gd S c)(ho:Ej I S u nm L LK F K fc kc w1)(ln:0<=S.ln/\S.ln<=5000)(w1':World)(hg1:Gx (fun k=>k=F) w1 w1')(h1:Sb ⟨w1.heap.size,I.B,I.C,F,K,fc,kc,I.nf+1,I.nf,I.nk+1,(L++(lX nm S.ln).toList).set (I.nf*7) (.string sG),LK++(pJ (I.nf:Int) (I.nk:Int) S.ln).toList⟩ S1 w1' (n-I.nf) I2 S2 w2)(hS1:S1.na=none/\S1.va=none/\S1.vl=[])(hf:Fs I2 S2 (I.nf+1) (n+1) n w1.heap.size fd fx w2)(hnf:I.nf<=n)(hb:ah w2 wa)(hs:BZ I2 S2 wa cl S3 g w3)(hl:Ae I.nf n (S2.l++[(gQ 1 1 0 aY cl,gJ aY cl)]))(hg3:Gd S3 (c+8)):∃(I':bQ) (S':bJ) (MX:Nat->FD) (MV:Nat->FA),Sb I S u (n+1-I.nf) I' S' w3/\Fs I' S' I.nf (n+1) n u.heap.size MX MV w3/\S'.l=S.l/\Gd S' (c+8):=by
 have sz1:=hg1.size;have su:=ho.g.size;have yM:=h1.eB;have Y8:=h1.eC;have Y7:I2.f=I.nf:=h1.ef;have e2k:I2.nk=I.nk+1:=h1.ek;have e2n:I2.nf=n+1:=by have:=h1.en;replace this:I2.nf=I.nf+1 + (n-I.nf):=this;omega
 have hF2:I2.F=I.F\/u.heap.size<=I2.F:=by
  rcases h1.hF with e|e
  ·replace e:I2.F=F:=e;rw[e];exact ho.hF
  ·exact .inr (by omega)
 have hK2:I2.K=I.K\/u.heap.size<=I2.K:=by
  rcases h1.hK with e|e
  ·replace e:I2.K=K:=e;rw[e];exact ho.hK
  ·exact .inr (by omega)
 have DC:∀k,k<u.heap.size->inb ⟨w1.heap.size,I.B,I.C,F,K,fc,kc,I.nf+1,I.nf,I.nk+1,(L++(lX nm S.ln).toList).set (I.nf*7) (.string sG),LK++(pJ (I.nf:Int) (I.nk:Int) S.ln).toList⟩ k->inb I k:=fun k hk e=>by
  rcases e with e|e|e|e
  ·exact .inl e
  ·exact .inr (.inl e)
  ·replace e:k=F:=e;rcases ho.hF with c|c
   ·exact .inr (.inr (.inl (e.trans c)))
   ·omega
  ·replace e:k=K:=e;rcases ho.hK with c|c
   ·exact .inr (.inr (.inr (e.trans c)))
   ·omega
 have s12:=h1.g.size;have sa:=hb.size;have s3:=hs.g.size;have T23:∀k,k<u.heap.size->(inb I2 k\/aj S2.na=some k\/aj S2.va=some k)->inb I k:=fun k hk e=>by
  rcases e with e|e|e
  ·exact DC k hk (h1.inb (by omega) e)
  ·have:=(h1.m k (by omega)).1 e;rw[hS1.1] at this
   cases this
  ·have:=(h1.m k (by omega)).2 e;rw[hS1.2.1] at this
   cases this
 have G:Gx (inb I) u w3:=by
  refine(((ho.g.trans hg1 (fun k hk e=>DC k hk (.inr (.inr (.inl e))))).trans h1.g (fun k hk e=>?_)).trans (Gx.below (fun _=>False) hb) (fun _ _ e=>e.elim)).trans hs.g T23;rcases e with e|e|e
  ·exact DC k hk e
  ·rw[hS1.1] at e;cases e
  ·rw[hS1.2.1] at e;cases e
 have hA:∀o,o<I.nf*7->I2.A0[o]?=L[o]?:=fun o hO=>by
  rw[h1.A o (by show o<(I.nf+1)*7;omega) (by show o≠I.nf*7+4;omega) (by show o≠I.nf*7+6;omega)];show((L++(lX nm S.ln).toList).set (I.nf*7) (.string sG))[o]?=_;rw[List.getElem?_set_ne (by omega),List.getElem?_append_left (by rw[ho.fl.n];exact hO)]
 have hA1:∀t,t<7->t≠4->t≠6->I2.A0[I.nf*7+t]?=(lX sG S.ln)[t]?:=fun t ht t4 t6=>by
  rw[h1.A (I.nf*7+t) (by show I.nf*7+t<(I.nf+1)*7;omega) (by show I.nf*7+t≠I.nf*7+4;omega) (by show I.nf*7+t≠I.nf*7+6;omega)];show((L++(lX nm S.ln).toList).set (I.nf*7) (.string sG))[I.nf*7+t]?=_;have hln:=ho.fl.n;rcases(show t=0\/t=1\/t=2\/t=3\/t=5 by omega) with rfl|rfl|rfl|rfl|rfl
  ·rw[Nat.add_zero,List.getElem?_set_self (by simp;omega)];rfl
  all_goals
   rw[List.getElem?_set_ne (by omega),List.getElem?_append_right (by omega),show ∀t,I.nf*7+t-L.length=t from fun t=>by omega];rfl
 have ML:∀o,o<I.nk*5->I2.K0[o]?=LK[o]?:=fun o hO=>by
  rw[h1.K o (by show o<(I.nk+1-1)*5;omega)];show(LK++(pJ (I.nf:Int) (I.nk:Int) S.ln).toList)[o]?=_;rw[List.getElem?_append_left (by rw[ho.kl.n];exact hO)]
 obtain⟨A,Kl,hSb,a0,a4,a6⟩:=yc9 h0 hs h1.s.i yM Y8 Y7 (by omega) e2k hF2 hK2 ho.fl ho.kl hA ML G;rw[e2n] at hSb;have fo2:I2.fo=I.nf*7:=by show I2.f*7=_;rw[Y7]
 rw[fo2] at a0 a4 a6;have Vy:S3.vl=[]:=by rw[hs.vl,h1.vl,hS1.2.2]
 have e2N:I2.N=w1.heap.size:=h1.eN;obtain⟨l,hll⟩:∃l,S2.l++[(gQ 1 1 0 aY cl,gJ aY cl)]=l:=⟨_,rfl⟩;have len:l.length=S2.l.length+1:=by rw[<-hll];simp
 have hz:=hs.z;rw[hll] at hl hz;have bo:∀k,bl I2 k->u.heap.size<=k->bl ⟨I.N,I.B,I.C,I2.F,I2.K,I2.fc,I2.kc,n+1,I.f,I.nk,A,Kl⟩ k:=fun k q hk=>q.of (by have:=h0.n;show I.N<=k;omega) yM.symm Y8.symm q.f q.k;have no:∀k,u.heap.size<=k->aj S.na≠some k/\aj S.va≠some k:=fun k hk=>⟨fun e=>by have:=(q16 h0.r e).2;omega,fun e=>by have:=(q16 h0.v e).2;omega⟩;refine⟨_,_,fun j=>if j=I.nf then yJ sG S.ln false [] l else fd j,fun j=>if j=I.nf then Ia S3 g l else fx j,hSb,⟨fun j j1 j2 t ht=>?_,fun j j1 j2=>?_,fun j j1 j2 k e=>?_⟩,rfl,?_⟩
 ·show A[j*7+t]?=_;by_cases cj:j=I.nf
  ·subst cj;rw[if_pos rfl,if_pos rfl];by_cases t4:t=4
   ·subst t4;rw[a4,Vy];rfl
   ·by_cases t6:t=6
    ·subst t6;rw[a6,<-len];rfl
    ·rw[a0 _ (by omega) (by omega),hA1 t ht t4 t6];rcases(show t=0\/t=1\/t=2\/t=3\/t=5 by omega) with rfl|rfl|rfl|rfl|rfl<;>rfl
  ·rw[if_neg cj,if_neg cj,a0 _ (by omega) (by omega)];exact hf.c j (by omega) j2 t ht
 ·by_cases cj:j=I.nf
  ·subst cj;rw[if_pos rfl,if_pos rfl];exact⟨hz.J6 sG S.ln false (vs:=[]) Vy,hz.Je sG S.ln false [],⟨S.ln,l,rfl,ln.1,ln.2,hl⟩⟩
  ·rw[if_neg cj,if_neg cj];have hd:=hf.d j (by omega) j2;refine⟨z21 hd.at_ ((Gx.below (fun k=>inb I2 k\/aj S2.na=some k\/aj S2.va=some k) hb).trans hs.g (fun _ _ e=>e)) (fun i e t=>?_),hd.cap,hd.sh⟩;obtain⟨_,_,q1,q2,q3⟩:=hf.b j (by omega) j2 i e;rcases t with t|t|t
   ·exact q1.no t
   ·exact q2 t
   ·exact q3 t
 ·by_cases cj:j=I.nf
  ·subst cj;rw[if_pos rfl,if_pos rfl] at e;obtain⟨q,hk⟩:=hz.fab sG S.ln false [] e;have qn:=q.n;rw[e2N] at qn;exact⟨by omega,hk,bo k q (by omega),no k (by omega)⟩
  ·rw[if_neg cj,if_neg cj] at e;obtain⟨q1,q2,q3,_⟩:=hf.b j (by omega) j2 k e;exact⟨by omega,by omega,bo k q3 (by omega),no k (by omega)⟩
 ·have g1:=hg0.l;have g2:=hg3.f1;have g3:=hg3.f2;have g4:=hg3.A;have g5:=hg0.n1;have g6:=hg0.n2;refine⟨?_,g2,g3,g4,g5,?_⟩
  ·show S.l.length<=c+8;omega
  ·show S.ln<=2*((c+8:Nat):Int);omega
end
section
open Go.RowKit
attribute [local go_sem] aN
attribute [local go_sem ↓] Go.wp_at_zero Go.wp_at_succ
theorem zd4(I:bQ)(S:bJ)(n:Nat)(u:World)(h:LB I S u)(hg:Gd S n)(hn:n<=600):Calls Tryz.prog 27 #[ptr I.B,.string dP] u fun e w'=>yu I S u CZ.1 CZ.2 n e w':=by
 have HN:Hid _:=ET I S CZ.1 CZ.2 n u h hg hn (iM _ _ _) (iM _ _ _) (Nat.le_refl _);clear h hg;go_in;go_wp2_with fail;refine Calls.mono HN ?_;rintro e w1 ⟨rfl,hx⟩;have HX:Hid _:=hx;clear hx HN;go_wp2_with fail;go_ret;exact⟨rfl,HX⟩
theorem lK.any{I:bQ}{u:World}{va na v:Value}{o:Nat}(h:lK I u va na)(h4:o≠I.fo+4)(h6:o≠I.fo+6)(e:I.A0[o]?=some v):u.cell? ⟨I.F,o,none⟩=some v:=by
 obtain⟨L,h1,_,_,h0⟩:=h;exact(Gz h1).2.2 o v ((h0 o h4 h6).trans e)
theorem yb4{w:World}{N:Nat}{v:Value}{x y:Int}(ho:w.ownsRow N 3 1 v 2 [.int .i64 x,.int .i64 y]):∃g c,v=.slice (some ⟨g,0,none⟩) 2 c/\N<=g/\2<=c/\jQ 0 w (some ⟨g,0,none⟩) 2 (fun j=>if j=0 then x else y)/\g<w.heap.size:=by
 rcases ho.2 with⟨_,e⟩|⟨g,c,cur,rfl,h1,h2,h3,_⟩
 ·omega
 ·have hl:=(Array.getElem?_eq_some_iff.1 h2).1;refine⟨g,c,rfl,h1,h3,fun _=>⟨g,0,rfl,Nat.zero_le _,hl,fun i hi j hj=>?_⟩,hl⟩;obtain rfl:j=0:=by omega
  rcases(show i=0\/i=1 by omega) with rfl|rfl
  ·have:=ho.cells (g:=g) rfl 0 (.int .i64 x) rfl;simpa[Addr.add] using this
  ·have:=ho.cells (g:=g) rfl 1 (.int .i64 y) rfl;simpa[Addr.add] using this
def RQ(I:bQ)(S:bJ)(u:World)(n c:Nat)(e:Ending)(w:World):Prop:=e=.returned (.int .i64 ((S.l.length:Int)+1))/\∃I' S' p0 p1 fd fx,N7 I S u n c I' S' p0 p1 fd fx w
structure Mid(I1:bQ)(S1:bJ)(w1:World)(a n c lo bb:Nat)(I2:bQ)(S2:bJ)(fd:Nat->FD)(fx:Nat->FA)(s0:Int)(w:World):Prop where
 s:Sb I1 S1 w1 (n-a) I2 S2 w
 fs:Fs I2 S2 (a+1) (n+1) n lo fd fx w
 g:Gd S2 c
 b:w.cell? ⟨bb,0,none⟩=some (.int .i64 3)
 l:∀p,gX true 1 0 [] [3,s0] p->Ae a n (S2.l++[p])
theorem z32{T:Nat->Prop}{w w':World}{b o:Nat}{v:Value}(h:w.cell? ⟨b,o,none⟩=some v)(g:Gx T w w')(hb:b<w.heap.size)(hT:¬T b):w'.cell? ⟨b,o,none⟩=some v:=(World.cell?_of_block (a:=⟨b,o,none⟩) (g.block b hb hT)).trans h
theorem Uz(n i c:Nat)(I:bQ)(S:bJ)(u:World)(hi:i<n)(hn:n<=40)(h:LB I S u)(hnf:I.nf=i+1)(hnk:I.nk=i+1)(hg:Gd S c)(hc:c+10*(n-i)<=560)(HR:i+1<n->∀(c:Nat) (I:bQ) (S:bJ) (u:World),LB I S u->I.nf=i+1 + 1->I.nk=i+1 + 1->Gd S c->c+10*(n-(i+1))<=560->Calls Tryz.prog 12 #[ptr I.B,.int .i64 ((i+1:Nat):Int),.int .i64 (n:Int)] u fun e w'=>RQ I S u n (c+10*(n-(i+1))) e w'):Calls Tryz.prog 12 #[ptr I.B,.int .i64 (i:Int),.int .i64 (n:Int)] u fun e w'=>RQ I S u n (c+10*(n-i)) e w':=by
 have HL:Hid (LB I S u/\Gd S c/\I.nf=i+1/\I.nk=i+1):=⟨h,hg,hnf,hnk⟩;have HRR:Hid _:=HR;have Hc:Hid (c+10*(n-i)<=560/\i<n/\n<=40):=⟨hc,hi,hn⟩;clear h hg hnf hnk HR hc hi hn;go_in;go_wp2_with fail;refine(z71 I S _ HL.1 (by have:=HL.2.1.A;have:=Hc.out;omega) (by have:=HL.2.2;have:=Hc.out;omega)).mono ?_;rintro e w1 ⟨rfl,nm,L,LK,F,K,fc,kc,hO⟩;have H1:Hid (Ej I S u nm L LK F K fc kc w1):=hO;clear hO;obtain⟨fz,hfz⟩:∃fz:Int,(I.nf:Int)=fz:=⟨_,rfl⟩;have HFz:Hid ((I.nf:Int)=fz):=hfz;rw[hfz];clear hfz;go_wp2_with fail;refine(qb0 _ _ _ H1.s).mono ?_;rintro e w2 ⟨he,hb2⟩;obtain rfl:e=.returned (pA F (I.nf*7)):=he;have hs2:=H1.s.call hb2;have hcl:w2.cell? ⟨F,I.nf*7,none⟩=some (.string nm):=by
  refine hs2.f.any (by show I.nf*7≠I.nf*7+4;omega) (by show I.nf*7≠I.nf*7+6;omega) ?_;show(L++(lX nm S.ln).toList)[I.nf*7]?=_;rw[List.getElem?_append_right (by rw[H1.fl.n];exact Nat.le_refl _),H1.fl.n,Nat.sub_self];rfl
 have hfr:=hs2.f.cell.2.2.1;have hfl:=hs2.f.cell.2.2.2;obtain⟨I1,hI1⟩:∃I1:bQ,I1=⟨w1.heap.size,I.B,I.C,F,K,fc,kc,I.nf+1,I.nf,I.nk+1,(L++(lX nm S.ln).toList).set (I.nf*7) (.string sG),LK++(pJ (I.nf:Int) (I.nk:Int) S.ln).toList⟩:=⟨_,rfl⟩;obtain⟨S1,hS1⟩:∃S1:bJ,S1=Q7 S:=⟨_,rfl⟩;have HI1:Hid (I1=⟨w1.heap.size,I.B,I.C,F,K,fc,kc,I.nf+1,I.nf,I.nk+1,(L++(lX nm S.ln).toList).set (I.nf*7) (.string sG),LK++(pJ (I.nf:Int) (I.nk:Int) S.ln).toList⟩/\S1=Q7 S):=⟨hI1,hS1⟩;have H3:Hid (LB I1 S1 (w2.setCell ⟨F,I.nf*7,none⟩ (.string sG))/\Gd S1 (c+1)/\Gx (fun k=>k=F) w1 (w2.setCell ⟨F,I.nf*7,none⟩ (.string sG))/\S1.l=[]/\S1.na=none/\S1.va=none/\S1.vl=[]):=by
  have hnm:=hs2.name (.string sG);rw[hI1,hS1];refine⟨hnm.1,?_,(Gx.below (fun k=>k=F) hb2).trans hnm.2 (fun _ _ e=>e),rfl,rfl,rfl,rfl⟩;have g:=HL.2.1;have g1:=g.l;have g2:=g.f1;have g3:=g.f2;have g4:=g.A;have g5:=g.n1;have g6:=g.n2;refine⟨Nat.zero_le _,?_,g3,?_,g5,?_⟩
  ·show 3000<=S.lf+((c+1:Nat):Int);omega
  ·show S.A+2<=2*(c+1);omega
  ·show S.ln<=2*((c+1:Nat):Int);omega
 have eB:Hid (I1.B=I.B):=by show I1.B=I.B;rw[hI1]
 have hcA:Hid (c+10<=560):=by have:=Hc.out;show c+10<=560;omega
 rw[<-eB.out];clear hs2 hI1 hS1 hb2;go_wp2_with fail;generalize w2.setCell ⟨F,I.nf*7,none⟩ (.string sG)=w3 at *;clear hcl hfr hfl;refine(Xi I1 S1 (c+1) _ H3.1 H3.2.1 (by have:=hcA.out;omega)).mono ?_;rintro e w4 ⟨rfl,S2,ha,hg⟩;have H4:Hid (Ad I1 S1 w3 (gQ 28 0 0 aY aY) (gJ aY aY) S2 w4/\Gd S2 (c+2)/\(S2.l.length:Int)=1):=⟨ha,hg,by rw[ha.l,H3.2.2.2.1];rfl⟩;clear ha hg;rw[show(S1.l.length:Int)=0 by rw[H3.2.2.2.1];rfl];go_wp2_with fail;refine(zd5 I1 S2 (i:Int) (c+2) _ H4.1.lx.s H4.2.1 (by have:=hcA.out;omega)).mono ?_;rintro e w5 ⟨rfl,S3,ha,hg⟩;have H5:Hid (Ad I1 S2 w4 (gQ 23 0 (i:Int) aY aY) (gJ aY aY) S3 w5/\Gd S3 (c+3)/\(S3.l.length:Int)=2):=⟨ha,hg,by rw[ha.l,List.length_append];have:=H4.2.2;simp;omega⟩;clear ha hg;rw[H4.2.2];go_wp2_with fail;refine(PN I1 S3 ⟨some ⟨w5.heap.size,0,none⟩,2,2,fun j=>if j=0 then 0 else 1⟩ (c+3) _ (H5.1.lx.s.alloc _) H5.2.1 (by have:=hcA.out;omega) (La H5.1.lx.s 0 1 _) (Nat.le_refl _)).mono ?_;rintro e w6 ⟨rfl,S4,ha,hg⟩;obtain⟨a6,YT⟩:∃a,Ad I1 S3 (w5.alloc (.cells #[.int .i64 0,.int .i64 1] 3)) (gQ 34 0 0 aY ⟨a,2,2,fun j=>if j=0 then 0 else 1⟩) (gJ aY ⟨a,2,2,fun j=>if j=0 then 0 else 1⟩) S4 w6/\Gd S4 (c+4)/\(S4.l.length:Int)=3:=⟨_,ha,hg,by rw[ha.l,List.length_append];have:=H5.2.2;simp;omega⟩;have H6:Hid _:=YT;clear ha hg YT;rw[H5.2.2];go_wp2_with fail;refine(zG I1 S4 14 aY ⟨some ⟨w6.heap.size,0,none⟩,1,1,fun _=>2⟩ (c+4) _ (H6.1.lx.s.alloc _) H6.2.1 (by have:=hcA.out;omega) (iM _ _ _) (wE H6.1.lx.s 2 _) (Nat.le_refl _)).mono ?_;rintro e w7 ⟨rfl,l3,S5,r1,r2,ha,hg⟩;obtain⟨a7,JU⟩:∃a,Ad I1 S4 (w6.alloc (.cells #[.int .i64 2] 3)) (gQ 14 l3 0 aY ⟨a,1,1,fun _=>2⟩) (gJ aY ⟨a,1,1,fun _=>2⟩) S5 w7/\Gd S5 (c+5)/\(S5.l.length:Int)=4/\1<=l3/\l3<=5000:=⟨_,ha,hg,by rw[ha.l,List.length_append];have:=H6.2.2;simp;omega,r1,r2⟩;have H7:Hid _:=JU;clear ha hg JU r1 r2;rw[H6.2.2];obtain⟨p0,p1,p2,p3,JR⟩:∃p0 p1 p2 p3,Lx I1 S1 w3 S5 w7/\S5.l=[p0,p1,p2,p3]/\gX false 28 0 [] [] p0/\gX false 23 (i:Int) [] [] p1/\gX false 34 0 [] [0,1] p2/\gX true 14 0 [] [2] p3/\Gd S5 (c+5)/\S5.vl=S1.vl:=by
  obtain⟨q4,_,_⟩:=H4.out;obtain⟨q5,_,_⟩:=H5.out;obtain⟨q6,_,_⟩:=H6.out;obtain⟨q7,g7,_,r1,r2⟩:=H7.out;have t1:=q4.lx.trans q5.lx;have t2:=t1.trans ((Lx.below t1.s (q01 w5 (.cells #[.int .i64 0,.int .i64 1] 3))).trans q6.lx);have t3:=t2.trans ((Lx.below t2.s (q01 w6 (.cells #[.int .i64 2] 3))).trans q7.lx);refine⟨_,_,_,_,t3,by rw[q7.l,q6.l,q5.l,q4.l,H3.2.2.2.1];rfl,⟨0,aY,aY,rfl,lV,lV,rfl⟩,⟨0,aY,aY,rfl,lV,lV,rfl⟩,⟨0,aY,_,rfl,lV,NQ _ 0 1,rfl⟩,⟨l3,aY,_,rfl,lV,vX _ 2,r1,r2⟩,g7,by rw[q7.va.2.2,q6.va.2.2,q5.va.2.2,q4.va.2.2]⟩
 have H8:Hid _:=JR;clear JR H4 H5 H6 H7;have hi:=Hc.2.1;have hn:=Hc.2.2;have HB:Hid ((w7.alloc (.cells #[.int .i64 3] 3)).cell? ⟨w7.heap.size,0,none⟩=some (.int .i64 3)):=(Has.new w7 #[.int .i64 3] 3).2 0;obtain⟨bb,hbb⟩:∃bb,w7.heap.size=bb:=⟨_,rfl⟩;have SQ:Hid (w7.heap.size=bb):=hbb;have hw9:IntKind.i64.wrap ((i:Int)+1)=(i:Int)+1:=by simp[IntKind.wrap,IntKind.bits,IntKind.signed];omega
 go_upto_if 41 with fail
 rw[hbb] at HB;clear hbb;obtain⟨cc,hcc⟩:∃cc,cc=c+10*(n-(i+1)):=⟨_,rfl⟩;have HC:Hid (cc+10=c+10*(n-i)/\c<=cc/\cc=c+10*(n-(i+1))/\cc+10<=560):=by have:=Hc.out;show cc+10=c+10*(n-i)/\c<=cc/\cc=c+10*(n-(i+1))/\cc+10<=560;omega
 clear hcc
 go_cut [11,13,14] from 38 to 56 (fun v11 v13 v14 wr=>∃I2 S2 fd fx s,v11=.int .i64 s/\Hid (Mid I1 S1 w3 I.nf n (cc+7) w1.heap.size bb I2 S2 fd fx s wr))
 case first=>
  by_cases hlt:i+1<n
  ·have DL:(i:Int)+1<(n:Int):=by omega
   go_wp2_with fail;have hR:=HRR.out hlt (c+5) I1 S5 (w7.alloc (.cells #[.int .i64 3] 3)) (H8.1.s.alloc _) (by rw[HI1.1];show I.nf+1=i+1 + 1;rw[HL.2.2.1]) (by rw[HI1.1];show I.nk+1=i+1 + 1;rw[HL.2.2.2]) H8.2.2.2.2.2.2.1 (by have:=HC.out;omega);rw[show((i+1:Nat):Int)=(i:Int)+1 by omega] at hR;refine hR.mono ?_;clear hR;rintro e w8 ⟨rfl,I2,S6,q0,q1,fd,fx,hU⟩;have H9:Hid (N7 I1 S5 (w7.alloc (.cells #[.int .i64 3] 3)) n (c+5 + 10*(n-(i+1))) I2 S6 q0 q1 fd fx w8):=hU;clear hU;have l5:Hid (S5.l.length=4):=by show S5.l.length=4;rw[H8.2.1];rfl
   have yM:Hid (I2.B=I1.B):=H9.s.eB;rw[show(S5.l.length:Int)+1=5 by rw[l5.out];rfl,<-yM.out];go_wp2_with fail;refine(zG I2 S6 4 aY ⟨some ⟨w8.heap.size,0,none⟩,1,1,fun _=>5⟩ (c+5 + 10*(n-(i+1))) _ (H9.s.s.alloc _) H9.g (by have:=HC.out;omega) (iM _ _ _) (wE H9.s.s 5 _) (Nat.le_refl _)).mono ?_;rintro e w9 ⟨rfl,l6,S7,r1,r2,ha,hg⟩;obtain⟨a9,yh⟩:∃a,Ad I2 S6 (w8.alloc (.cells #[.int .i64 5] 3)) (gQ 4 l6 0 aY ⟨a,1,1,fun _=>5⟩) (gJ aY ⟨a,1,1,fun _=>5⟩) S7 w9/\Gd S7 (c+5 + 10*(n-(i+1))+1)/\1<=l6/\l6<=5000:=⟨_,ha,hg,r1,r2⟩;have nU:Hid _:=yh;clear ha hg r1 r2 yh;go_wp2_with fail;rw[yM.out]
   go_meet
   have hU:=H9.out;obtain⟨q10,g10,r1,r2⟩:=nU.out;have Qi:S6.l.length=6:=by rw[hU.l,List.length_append,l5.out];rfl
   have hnf:=HL.2.2.1;have J9:I1.nf=I.nf+1:=by rw[HI1.1]
   have ubb:=SQ.out;have xA:=Lx.below hU.s.s (q01 w8 (.cells #[.int .i64 5] 3));have xB:=xA.trans q10.lx;have hs5:=((Sb.refl H3.1).lx (H8.1.trans (Lx.below H8.1.s (q01 w7 (.cells #[.int .i64 3] 3)))) H8.2.2.2.2.2.2.2).trans hU.s;have F5:¬(inb I1 bb\/aj S5.na=some bb\/aj S5.va=some bb):=fun e=>by
    have h8:=H8.1.s;rcases e with e|e|e
    ·have:=h8.Dz e;omega
    ·have:=(q16 h8.r e).2;omega
    ·have:=(q16 h8.v e).2;omega
   have sz8:=hU.s.g.size;have b8:w8.cell? ⟨bb,0,none⟩=some (.int .i64 3):=z32 HB.out hU.s.g (by simp;omega) F5;have Q9:¬(inb I2 bb\/aj S6.na=some bb\/aj S6.va=some bb):=fun e=>by
    have DK:bb<(w7.alloc (.cells #[.int .i64 3] 3)).heap.size:=by simp;omega
    rcases e with e|e|e
    ·exact F5 (.inl (hU.s.inb DK e))
    ·exact F5 (.inr (.inl ((hU.s.m bb DK).1 e)))
    ·exact F5 (.inr (.inr ((hU.s.m bb DK).2 e)))
   refine⟨I2,S7,fd,fx,6,?_,⟨?_,?_,g10.mono (by have:=HC.out;omega),z32 b8 xB.g (by simp at sz8;omega) Q9,fun p hp=>.inl ⟨by omega,p0,p1,p2,p3,q0,q1,_,p,?_,⟨H8.2.2.1,?_,H8.2.2.2.2.1,H8.2.2.2.2.2.1,?_,?_,⟨l6,aY,⟨a9,1,1,fun _=>5⟩,rfl,lV,vX a9 5,r1,r2⟩,hp⟩⟩⟩⟩
   ·show Value.int .i64 (S6.l.length:Int)=_;rw[Qi];rfl
   ·have:=hs5.lx xB q10.va.2.2;rw[show 0+(n+1-I1.nf)=n-I.nf by omega] at this;exact this
   ·have:=(hU.fs.lx xB).lo (lo':=w1.heap.size) (by have h1:=H3.2.2.1.size;have h2:=H8.1.g.size;simp;omega);rw[J9] at this;exact this
   ·rw[q10.l,hU.l,H8.2.1];rfl
   ·have:=H8.2.2.2.1;rw[show((I.nf:Int)-1)=(i:Int) by omega];exact this
   ·have:=hU.p0;rw[J9] at this;exact this
   ·have:=hU.p1;rw[l5.out] at this;exact this
  ·have DL:¬(i:Int)+1<(n:Int):=by omega
   go_wp2_with fail;refine(zd4 I1 S5 (c+5) _ (H8.1.s.alloc _) H8.2.2.2.2.2.2.1 (by have:=HC.out;omega)).mono ?_;rintro e w8 ⟨rfl,S6,ha,hg⟩;have H9:Hid (Ad I1 S5 (w7.alloc (.cells #[.int .i64 3] 3)) CZ.1 CZ.2 S6 w8/\Gd S6 (c+6)):=⟨ha,hg⟩;clear ha hg;have l5:Hid (S5.l.length=4):=by show S5.l.length=4;rw[H8.2.1];rfl
   rw[show(S5.l.length:Int)=4 by rw[l5.out];rfl];go_wp2_with fail;refine(zG I1 S6 13 aY ⟨some ⟨w8.heap.size,0,none⟩,1,1,fun _=>4⟩ (c+6) _ (H9.1.lx.s.alloc _) H9.2 (by have:=HC.out;omega) (iM _ _ _) (wE H9.1.lx.s 4 _) (Nat.le_refl _)).mono ?_;rintro e w9 ⟨rfl,l6,S7,r1,r2,ha,hg⟩;obtain⟨a9,yh⟩:∃a,Ad I1 S6 (w8.alloc (.cells #[.int .i64 4] 3)) (gQ 13 l6 0 aY ⟨a,1,1,fun _=>4⟩) (gJ aY ⟨a,1,1,fun _=>4⟩) S7 w9/\Gd S7 (c+6 + 1)/\1<=l6/\l6<=5000:=⟨_,ha,hg,r1,r2⟩;have nU:Hid _:=yh;clear ha hg r1 r2 yh;go_wp2_with fail
   go_meet
   obtain⟨q9,g9⟩:=H9.out;obtain⟨q10,g10,r1,r2⟩:=nU.out;have Qi:S6.l.length=5:=by rw[q9.l,List.length_append,l5.out];rfl
   have hnf:=HL.2.2.1;have ubb:=SQ.out;have xA:=q9.lx.trans ((Lx.below q9.lx.s (q01 w8 (.cells #[.int .i64 4] 3))).trans q10.lx);have xB:=(H8.1.trans (Lx.below H8.1.s (q01 w7 (.cells #[.int .i64 3] 3)))).trans xA;have F5:¬(inb I1 bb\/aj S5.na=some bb\/aj S5.va=some bb):=fun e=>by
    have h8:=H8.1.s;rcases e with e|e|e
    ·have:=h8.Dz e;omega
    ·have:=(q16 h8.r e).2;omega
    ·have:=(q16 h8.v e).2;omega
   have hsb:=(Sb.refl H3.1).lx xB (by rw[q10.va.2.2,q9.va.2.2,H8.2.2.2.2.2.2.2]);refine⟨I1,S7,fun _=>default,fun _=>default,5,?_,⟨?_,?_,g10.mono (by have:=HC.out;omega),z32 HB.out xA.g (by simp;omega) F5,fun p hp=>.inr ⟨by omega,p0,p1,p2,p3,_,p,?_,⟨H8.2.2.1,?_,H8.2.2.2.2.1,H8.2.2.2.2.2.1,⟨l6,aY,⟨a9,1,1,fun _=>4⟩,rfl,lV,vX a9 4,r1,r2⟩,hp⟩⟩⟩⟩
   ·show Value.int .i64 (S6.l.length:Int)=_;rw[Qi];rfl
   ·rw[show n-I.nf=0 by omega];exact hsb
   ·rw[show I.nf+1=n+1 by omega];exact Fs.nil _ _ _ _ _ _ _ _
   ·rw[q10.l,q9.l,H8.2.1];rfl
   ·have:=H8.2.2.2.1;rw[show((I.nf:Int)-1)=(i:Int) by omega];exact this
 case rest=>
  obtain⟨I2,S6,fd,fx,s,rfl,HM⟩:=hcut
  rename World=>w9
  obtain⟨i0,hi0,hy0,hy1,hy2⟩:=info_parts NR;obtain⟨v',w10,happ,hown,hgrow⟩:=run_append_arg_grows (P:=Tryz.prog) (w9.alloc (.cells #[.int .i64 s] 3)) 45 45 3 i0 _ 1 8 Tryz.underlying45 hi0 hy0 hy1 hy2 rfl (by decide) ⟨bb,0,none⟩ 1 1 [.int .i64 3] rfl (fun j v e=>by
   rcases j with _|j
   ·simp at e;subst e;have h9:bb<w9.heap.size:=by
     have h1:=HM.b;by_cases c:bb<w9.heap.size
     ·exact c
     ·have h2:w9.heap[bb]?=none:=Array.getElem?_eq_none (by omega);simp[World.cell?,h2] at h1
    exact(World.cell?_of_block (a:=⟨bb,0,none⟩) (Below.heap_alloc w9 _ bb h9)).trans HM.b
   ·simp at e) ⟨w9.heap.size,0,none⟩ 1 1 [.int .i64 s] rfl (cell_one_new _ _ _) (by omega) (by unfold maxLen;omega) (by omega)
  obtain⟨g,gc,rfl,hgN,hgc,hints,hgl⟩:=yb4 hown;have DU:ah w9 w10:=(q01 w9 (.cells #[.int .i64 s] 3)).grown hgrow (by simp) (fun k e=>by cases e);have nU:Hid (ah w9 w10/\LB I2 S6 w10/\dV I2 S6 w10 (some ⟨g,0,none⟩) 2 (fun j=>if j=0 then 3 else s)/\2<=gc):=by
   have h9:=HM.s.s;have hg9:w9.heap.size<=g:=by simp at hgN;omega
   exact⟨DU,h9.call DU,⟨hints,fun b e=>by
    cases e;exact⟨h9.fresh hg9,hgl,fun e=>by have h1:=(q16 h9.r e).2;replace h1:g<w9.heap.size:=h1;omega,fun e=>by have h1:=(q16 h9.v e).2;replace h1:g<w9.heap.size:=h1;omega⟩⟩,hgc⟩
  clear hown hgrow hgN hgc hints hgl DU hi0 hy0 hy1 hy2;have yM:Hid (I2.B=I1.B):=HM.s.eB;rw[<-yM.out];go_wp2_with (at_builtin;refine q32 (by rfl) _ _ _ _ (by rfl) (.slice (some ⟨bb,0,none⟩) 1 1) (.slice (some ⟨w9.heap.size,0,none⟩) 1 1) _ _ (by rfl) (by rfl) happ ?_);clear happ;refine(X4 I2 S6 ⟨some ⟨g,0,none⟩,2,gc,fun j=>if j=0 then 3 else s⟩ (cc+7) w10 nU.2.1 HM.g (by have:=HC.out;omega) nU.2.2.1 nU.2.2.2).mono ?_;rintro e kX ⟨rfl,S7,gg,hsh,lG⟩;have hln:0<=S.ln/\S.ln<=5000:=by
   have h1:=HL.2.1.n1;have h2:=HL.2.1.n2;have h3:=HC.out;omega
  have hms:=HM.s;rw[HI1.1] at hms;obtain⟨I',S8,MX,MV,hsb,hfs,uZ,yL⟩:=yb1 HL.1 (HL.2.1.mono HC.2.1) H1.out hln w3 H3.2.2.1 hms ⟨H3.2.2.2.2.1,H3.2.2.2.2.2.1,H3.2.2.2.2.2.2⟩ HM.fs (by have:=HL.2.2.1;omega) nU.1 hsh (HM.l _ ⟨1,aY,⟨some ⟨g,0,none⟩,2,gc,fun j=>if j=0 then 3 else s⟩,rfl,lV,⟨rfl,fun j z e=>by
   rcases j with _|_|j
   ·simp at e;exact e
   ·simp at e;exact e
   ·simp at e,nU.2.2.2⟩,by decide,by decide⟩) lG
  have tK:Hid (Sb I S u (n+1-I.nf) I' S8 kX/\Fs I' S8 I.nf (n+1) n u.heap.size MX MV kX/\S8.l=S.l/\Gd S8 (cc+8)):=⟨hsb,hfs,uZ,yL⟩;have e1B:Hid (I2.B=I'.B):=by
   show I2.B=I'.B;rw[hsb.eB,yM.out,eB.out]
  rw[e1B.out];clear hsh lG hms hsb hfs uZ yL hln HM nU H8 H3 HB SQ hw9 hi hn;go_wp2_with fail;refine(ET I' S8 (gQ 36 0 0 ⟨some ⟨kX.heap.size,0,none⟩,1,1,fun _=>fz⟩ aY) (gJ ⟨some ⟨kX.heap.size,0,none⟩,1,1,fun _=>fz⟩ aY) (cc+8) (kX.alloc (.cells #[.int .i64 fz] 3)) (tK.1.s.alloc _) tK.2.2.2 (by have:=HC.out;omega) (wE tK.1.s _ _) (iM _ _ _) (Nat.le_refl _)).mono ?_;rintro e w12 ⟨rfl,S9,ha,hg⟩;obtain⟨a12,JW⟩:∃a,Ad I' S8 (kX.alloc (.cells #[.int .i64 fz] 3)) (gQ 36 0 0 ⟨a,1,1,fun _=>fz⟩ aY) (gJ ⟨a,1,1,fun _=>fz⟩ aY) S9 w12/\Gd S9 (cc+9):=⟨_,ha,hg⟩;have NG:Hid _:=JW;clear ha hg JW;obtain⟨y,hy⟩:∃y:Int,(S8.l.length:Int)=y:=⟨_,rfl⟩;have HY:Hid ((S8.l.length:Int)=y):=hy;rw[hy];clear hy;go_wp2_with fail;refine(PN I' S9 ⟨some ⟨w12.heap.size,0,none⟩,1,1,fun _=>y⟩ (cc+9) _ (NG.1.lx.s.alloc _) NG.2 (by have:=HC.out;omega) (wE NG.1.lx.s y _) (Nat.le_refl _)).mono ?_;rintro e pV ⟨rfl,RU,ha,hg⟩;obtain⟨Ye,JV⟩:∃a,Ad I' S9 (w12.alloc (.cells #[.int .i64 y] 3)) (gQ 34 0 0 aY ⟨a,1,1,fun _=>y⟩) (gJ aY ⟨a,1,1,fun _=>y⟩) RU pV/\Gd RU (cc+10):=⟨_,ha,hg⟩;have H13:Hid _:=JV;clear ha hg JV;go_wp2_with fail;go_ret;obtain⟨hsb,hfs,uZ,_⟩:=tK.out;obtain⟨q12,_⟩:=NG.out;obtain⟨q13,g13⟩:=H13.out;have x1:=(Lx.below hsb.s (q01 kX (.cells #[.int .i64 fz] 3))).trans q12.lx;have x2:=x1.trans ((Lx.below x1.s (q01 w12 (.cells #[.int .i64 y] 3))).trans q13.lx);refine⟨?_,I',RU,_,_,MX,MV,⟨hsb.lx x2 (by rw[q13.va.2.2,q12.va.2.2]),hfs.lx x2,by rw[q13.l,q12.l,uZ,List.append_assoc];rfl,⟨0,⟨a12,1,1,fun _=>fz⟩,aY,rfl,by rw[HFz.out];exact vX a12 fz,lV,rfl⟩,⟨0,aY,⟨Ye,1,1,fun _=>y⟩,rfl,lV,by rw[<-uZ,HY.out];exact vX Ye y,rfl⟩,by rw[<-HC.1];exact g13⟩⟩;show Ending.returned (.int .i64 (S9.l.length:Int))=_;rw[q12.l,uZ,List.length_append];rfl
theorem z44(n:Nat)(hn:n<=40):∀(k i:Nat),i+k + 1=n->∀(c:Nat) (I:bQ) (S:bJ) (u:World),LB I S u->I.nf=i+1->I.nk=i+1->Gd S c->c+10*(n-i)<=560->Calls Tryz.prog 12 #[ptr I.B,.int .i64 (i:Int),.int .i64 (n:Int)] u fun e w'=>RQ I S u n (c+10*(n-i)) e w'
 |0,i,e,c,I,S,u,h,hf,hk,hg,hc=>Uz n i c I S u (by omega) hn h hf hk hg hc (fun c=>by omega)
 |k+1,i,e,c,I,S,u,h,hf,hk,hg,hc=>Uz n i c I S u (by omega) hn h hf hk hg hc (fun _=>z44 n hn k (i+1) (by omega))
structure Yl(q0 q1 q2 q3 q4 q5 q6 q7 q8 q9 qa qb:ND×NA):Prop where
 q0:gX false 36 0 [1] [] q0
 q1:gX false 34 0 [] [0] q1
 q2:gX true 4 0 [] [1] q2
 g:Td 3 [2] q3 q4 q5 q6 q7 q8 q9 qa
 qb:gX true 1 0 [] [10] qb
structure qG(n:Nat)(fn:Nat->FD):Prop where
 m:∃q0 q1 q2 q3 q4 q5 q6 q7 q8 q9 qa qb,fn 0=yJ iK 0 true [strOfNums [97],strOfNums [98]] [q0,q1,q2,q3,q4,q5,q6,q7,q8,q9,qa,qb]/\Yl q0 q1 q2 q3 q4 q5 q6 q7 q8 q9 qa qb
 g:∀j,1<=j->j<n+1->∃ln l,fn j=yJ sG ln false [] l/\0<=ln/\ln<=5000/\Ae j n l
def Nc(n:Nat)(w:World)(e:Ending)(w':World):Prop:=∃(ub uc:Nat) (fn:Nat->FD) (fas:Nat->FA),e=.returned (.agg #[.slice (some ⟨ub,0,none⟩) (n+1) uc])/\aZ 0 w' (n+1) fn (some ⟨ub,0,none⟩) fas/\(∀j,j<n+1->jc (fn j) (fas j))/\qG n fn/\ah w w'
theorem yp3{n:Nat}{w w1 w2 w5 w6:World}{I I':bQ}{S' S4 S5:bJ}{c g:Nat}{p0 p1:ND×NA}{fd:Nat->FD}{fx:Nat->FA}{l:List (ND×NA)}{o:Obj}(hn1:1<=n)(ho:o=.cells #[.slice none 0 0] 31)(h4:Si (w.alloc o) I w1)(hU:N7 I Dy w1 n c I' S' p0 p1 fd fx w2)(hx:Lx I' S' w2 S4 w5)(hz:LZ I' S5 g l w6)(hg:Gx (fun k=>inb I' k\/aj S4.na=some k\/aj S4.va=some k) w5 w6)(hv:S5.vl=[yw 97,yw 98])(hl:∃q0 q1 q2 q3 q4 q5 q6 q7 q8 q9 qa qb,l=[q0,q1,q2,q3,q4,q5,q6,q7,q8,q9,qa,qb]/\Yl q0 q1 q2 q3 q4 q5 q6 q7 q8 q9 qa qb):OwnB w6 w.heap.size #[.slice none 0 0]/\Nc n w (.returned (.agg #[.slice (some ⟨I'.F,0,none⟩) I'.nf I'.fc])) (w6.setCell ⟨w.heap.size,0,none⟩ (.slice (some ⟨I'.F,0,none⟩) I'.nf I'.fc)):=by
 have inf:I.nf=1:=h4.nf;have iff:I.f=0:=h4.f;have iN:I.N=w.heap.size+1:=by rw[h4.N];simp
 have eN:I'.N=w.heap.size+1:=hU.s.eN.trans iN;have ef:I'.f=0:=hU.s.ef.trans iff;have en:I'.nf=n+1:=by rw[hU.s.en,inf];omega
 have s0:(w.alloc o).heap.size=w.heap.size+1:=by simp
 have s1:=h4.b.size;have s2:=hU.s.g.size;have s5:=hx.g.size;have s6:=hg.size;have inh:∀k,inb I k->w.heap.size+1<=k:=fun k e=>by have:=h4.h k e;omega
 have Ie:∀k,inb I' k->w.heap.size+1<=k:=fun k e=>by
  by_cases hk:k<w1.heap.size
  ·exact inh k (hU.s.inb hk e)
  ·omega
 have no0:∀k,(inb I k\/aj Dy.na=some k\/aj Dy.va=some k)->w.heap.size+1<=k:=fun k e=>by
  rcases e with e|e|e
  ·exact inh k e
  ·cases e
  ·cases e
 have no':∀{S:bJ} {v:World},LB I' S v->∀k,(inb I' k\/aj S.na=some k\/aj S.va=some k)->w.heap.size+1<=k:=fun h k e=>by
  rcases e with e|e|e
  ·exact Ie k e
  ·rw[<-eN];exact(h.rb k e).n
  ·rw[<-eN];exact(h.vb k e).n
 have G:Gx (fun k=>w.heap.size+1<=k) (w.alloc o) w6:=(((Gx.below (fun k=>w.heap.size+1<=k) h4.b).trans hU.s.g (fun k _ e=>no0 k e)).trans hx.g (fun k _ e=>no' hU.s.s k e)).trans hg (fun k _ e=>no' hx.s k e);have hO:OwnB w6 w.heap.size #[.slice none 0 0]:=G.ownB (by rw[ho];exact OwnB.new _ _ _) (by show ¬w.heap.size+1<=w.heap.size;omega);have nF:I'.F≠w.heap.size:=by have:=Ie I'.F (.inr (.inr (.inl rfl)));omega
 have ngB:g≠w.heap.size:=by have:=hz.gb.1.n;rw[eN] at this;omega
 have nva:aj S5.va≠some w.heap.size:=fun e=>by have:=(hz.vb _ e).n;rw[eN] at this;omega
 refine⟨hO,?_⟩;obtain⟨V,hV⟩:∃V,Value.slice (some ⟨I'.F,0,none⟩) I'.nf I'.fc=V:=⟨_,rfl⟩;have hzs:=hz.set (v:=V) hO nF ngB nva;have gS:Gx (fun k=>k=w.heap.size) w6 (w6.setCell ⟨w.heap.size,0,none⟩ V):=Gx.set _ _ _ _;have hfs:=hU.fs.lx hx;rw[inf] at hfs;obtain⟨q0,q1,q2,q3,q4,q5,q6,q7,q8,q9,qa,qb,hll,hM⟩:=hl;have hat:=hzs.J6 iK 0 true (vs:=[strOfNums [97],strOfNums [98]]) (by rw[hv];rfl);obtain⟨L,r1,r4,r6,r0⟩:=hzs.f;have fo':I'.fo=0:=by show I'.f*7=0;rw[ef]
 rw[fo'] at r4 r6 r0;have hF:=Gz r1;have kA:∀o,o<7->o≠4->o≠6->I'.A0[o]?=zU.toList[o]?:=fun o h1 h2 h3=>by
  have hfo:I.fo=0:=by show I.f*7=0;rw[iff]
  rw[hU.s.A o (by rw[inf];omega) (by rw[hfo];exact h2) (by rw[hfo];exact h3),h4.A]
 rw[hV];refine⟨I'.F,I'.fc,fun j=>if j=0 then yJ iK 0 true [strOfNums [97],strOfNums [98]] l else fd j,fun j=>if j=0 then Ia S5 g l else fx j,by rw[<-hV,en],⟨fun _=>⟨I'.F,0,rfl,Nat.zero_le _,hF.1,fun i hi j hj=>?_⟩,fun i hi=>?_⟩,fun j hj=>?_,⟨⟨q0,q1,q2,q3,q4,q5,q6,q7,q8,q9,qa,qb,by show(if 0=0 then yJ _ _ _ _ l else _)=_;rw[if_pos rfl,hll],hM⟩,fun j h1 h2=>?_⟩,?_⟩
 ·show(w6.setCell ⟨w.heap.size,0,none⟩ V).cell? ⟨I'.F,0+i*7+j,none⟩=(jO (if i=0 then _ else _) (if i=0 then _ else _))[j]?;rw[Nat.zero_add];by_cases c0:i=0
  ·subst c0;rw[if_pos rfl,if_pos rfl,show 0*7+j=j by omega];rcases(show j=0\/j=1\/j=2\/j=3\/j=4\/j=5\/j=6 by omega) with rfl|rfl|rfl|rfl|rfl|rfl|rfl
   ·exact hF.2.2 _ _ ((r0 0 (by omega) (by omega)).trans (kA 0 (by omega) (by omega) (by omega)))
   ·exact hF.2.2 _ _ ((r0 1 (by omega) (by omega)).trans (kA 1 (by omega) (by omega) (by omega)))
   ·exact hF.2.2 _ _ ((r0 2 (by omega) (by omega)).trans (kA 2 (by omega) (by omega) (by omega)))
   ·exact hF.2.2 _ _ ((r0 3 (by omega) (by omega)).trans (kA 3 (by omega) (by omega) (by omega)))
   ·rw[hv] at r4;exact hF.2.2 _ _ r4
   ·exact hF.2.2 _ _ ((r0 5 (by omega) (by omega)).trans (kA 5 (by omega) (by omega) (by omega)))
   ·exact hF.2.2 _ _ r6
  ·rw[if_neg c0,if_neg c0];have hc:=hfs.c i (by omega) hi j hj;have hs:j<(jO (fd i) (fx i)).size:=hj;rw[Array.getElem?_eq_getElem hs] at hc ⊢;exact hF.2.2 _ _ ((r0 (i*7+j) (by omega) (by omega)).trans hc)
 ·show ig 0 _ (if i=0 then _ else _) (if i=0 then _ else _);by_cases c0:i=0
  ·rw[if_pos c0,if_pos c0];exact hat
  ·rw[if_neg c0,if_neg c0];refine z21 (z21 (hfs.d i (by omega) hi).at_ hg (fun k e t=>?_)) gS (fun k e t=>?_)
   ·obtain⟨_,_,a1,a2,a3⟩:=hfs.b i (by omega) hi k e;rcases t with t|t|t
    ·exact a1.no t
    ·exact a2 t
    ·exact a3 t
   ·have:=(hfs.b i (by omega) hi k e).1;replace t:k=w.heap.size:=t;omega
 ·show jc (if j=0 then _ else _) (if j=0 then _ else _);by_cases c0:j=0
  ·rw[if_pos c0,if_pos c0];exact hz.Je _ _ _ _
  ·rw[if_neg c0,if_neg c0];exact(hfs.d j (by omega) hj).cap
 ·show ∃ln l',(if j=0 then _ else fd j)=_/\_;rw[if_neg (by omega)];exact(hfs.d j h1 h2).sh
 ·exact((q01 w o).trans (G.to (N:=w.heap.size) (by omega) (fun k e=>by omega))).trans (gS.to (by omega) (fun k e=>by omega))
theorem qn2(n:Nat)(w:World)(hn1:1<=n)(hn:n<=40):Calls Tryz.prog 6 #[.int .i64 (n:Int)] w fun e w'=>Nc n w e w':=by
 have Hn:Hid (1<=n/\n<=40):=⟨hn1,hn⟩;clear hn1 hn;go_in;go_wp2_with fail;refine(z78 _).mono ?_;rintro e w1 ⟨I,rfl,h4⟩;have H1:Hid (Si (w.alloc (.cells #[.slice none 0 0] 31)) I w1):=h4;clear h4;go_wp2_with fail;have hR:=z44 n Hn.2 (n-1) 0 (by have:=Hn.out;omega) 0 I Dy w1 H1.s (by rw[H1.nf]) (by rw[H1.nk]) ⟨Nat.le_refl _,by decide,by decide,Nat.le_refl _,by decide,by decide⟩ (by have:=Hn.out;omega);refine hR.mono ?_;clear hR;rintro e w2 ⟨he,I',S1,p0,p1,fd,fx,hU⟩;obtain rfl:e=.returned (.int .i64 1):=he;have H2:Hid (N7 I Dy w1 n (0+10*(n-0)) I' S1 p0 p1 fd fx w2):=hU;clear hU;have yM:Hid (I'.B=I.B):=H2.s.eB;rw[<-yM.out];go_wp2_with fail;refine(zG I' S1 4 aY ⟨some ⟨w2.heap.size,0,none⟩,1,1,fun _=>1⟩ (0+10*(n-0)) _ (H2.s.s.alloc _) H2.g (by have:=Hn.out;omega) (iM _ _ _) (wE H2.s.s 1 _) (Nat.le_refl _)).mono ?_;rintro e w3 ⟨rfl,l2,S2,r1,r2,ha,hg⟩;obtain⟨a3,YX⟩:∃a,Ad I' S1 (w2.alloc (.cells #[.int .i64 1] 3)) (gQ 4 l2 0 aY ⟨a,1,1,fun _=>1⟩) (gJ aY ⟨a,1,1,fun _=>1⟩) S2 w3/\Gd S2 (0+10*(n-0)+1)/\1<=l2/\l2<=5000:=⟨_,ha,hg,r1,r2⟩;have H3:Hid _:=YX;clear ha hg r1 r2 YX;rw[show(S1.l.length:Int)=2 by rw[H2.l];rfl];go_wp2_with fail;refine(qs0 I' S2 ⟨some ⟨w3.heap.size,0,none⟩,1,1,fun _=>2⟩ [2] (0+10*(n-0)+1) _ (H3.1.lx.s.alloc _) H3.2.1 (by have:=Hn.out;omega) (by rw[H3.1.va.2.2,H2.s.vl];rfl) (wE H3.1.lx.s _ _) (vX _ 2)).mono ?_;rintro e w4 ⟨rfl,S3,g0,g1,g2,g3,g4,g5,g6,g7,h16,Ir,Ih⟩;have hlen:S2.l.length=3:=by rw[H3.1.l,H2.l];rfl
 rw[hlen] at Ir;have H4:Hid (Z5 I' S2 (w3.alloc (.cells #[.int .i64 2] 3)) [g0,g1,g2,g3,g4,g5,g6,g7] (0+10*(n-0)+1 + 8) S3 w4/\Td 3 [2] g0 g1 g2 g3 g4 g5 g6 g7/\S3.vl=S2.vl++[yw 97,yw 98]):=⟨h16,Ir,Ih⟩;rw[show(S2.l.length:Int)+7=10 by rw[hlen];rfl];clear h16 Ir Ih hlen;go_wp2_with fail;refine(z73 I' S3 ⟨some ⟨w4.heap.size,0,none⟩,1,1,fun _=>10⟩ (0+10*(n-0)+1 + 8) _ (H4.1.lx.s.alloc _) H4.1.g (by have:=Hn.out;omega) (wE H4.1.lx.s _ _) (Nat.le_refl _)).mono ?_;rintro e w5 ⟨rfl,S4,g,hz,hvl,hg5⟩;obtain⟨hO,hM⟩:OwnB w5 w.heap.size #[.slice none 0 0]/\Nc n w (.returned (.agg #[.slice (some ⟨I'.F,0,none⟩) I'.nf I'.fc])) (w5.setCell ⟨w.heap.size,0,none⟩ (.slice (some ⟨I'.F,0,none⟩) I'.nf I'.fc)):=by
  obtain⟨q3,_,r1,r2⟩:=H3.out;obtain⟨q4,Ir,hv4⟩:=H4.out;have hU:=H2.out;have x1:=(Lx.below hU.s.s (q01 w2 (.cells #[.int .i64 1] 3))).trans q3.lx;have x2:=x1.trans ((Lx.below x1.s (q01 w3 (.cells #[.int .i64 2] 3))).trans q4.lx);have x3:=x2.trans (Lx.below x2.s (q01 w4 (.cells #[.int .i64 10] 3)));refine yp3 Hn.1 rfl H1.out hU x3 hz hg5 (by rw[hvl,hv4,q3.va.2.2,hU.s.vl];rfl) ⟨p0,p1,(gQ 4 l2 0 aY ⟨a3,1,1,fun _=>1⟩,gJ aY ⟨a3,1,1,fun _=>1⟩),g0,g1,g2,g3,g4,g5,g6,g7,_,by rw[q4.l,q3.l,hU.l];rfl,⟨?_,?_,⟨l2,aY,⟨a3,1,1,fun _=>1⟩,rfl,lV,vX a3 1,r1,r2⟩,Ir,⟨1,aY,⟨some ⟨w4.heap.size,0,none⟩,1,1,fun _=>10⟩,rfl,lV,vX _ 10,by decide,by decide⟩⟩⟩
  ·have:=hU.p0;rw[H1.nf] at this;exact this
  ·exact hU.p1
 have HM:Hid (Nc n w (.returned (.agg #[.slice (some ⟨I'.F,0,none⟩) I'.nf I'.fc])) (w5.setCell ⟨w.heap.size,0,none⟩ (.slice (some ⟨I'.F,0,none⟩) I'.nf I'.fc))):=hM;have r0:=hO.1.cell 0 rfl;have rz:=hO.2;have rl:=hO.1.1;clear hz hvl hg5 hO hM H1 H2 H3 H4;go_wp2_with fail;exact bodyPost_ret (v:=.agg #[.slice (some ⟨I'.F,0,none⟩) I'.nf I'.fc]) (by simp[results,Tryz.results6,go_sem,r0]) rfl HM.out
end
end Go.Proofs.YtihnikeikhjndaaGreatDoor
