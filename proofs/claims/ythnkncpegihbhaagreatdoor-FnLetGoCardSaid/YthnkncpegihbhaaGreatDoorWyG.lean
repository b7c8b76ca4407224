import Derived.Test.YthnkncpegihbhaaGreatDoorWyB
set_option maxRecDepth 100000
set_option maxHeartbeats 16000000
namespace Go.Proofs.YthnkncpegihbhaaGreatDoor
section
open Go.RowKit
structure Rz(X:RX)(R Q:Nat)(S:TS)(d:MD)(q:RQ)(w:World):Prop where
 t:Rt X R Q d q w
 o:jl X d S
 k:lX X d w
abbrev MD.sn(d:MD)(se:Nat)(tb:Nat->Prop)(TP:World->Prop):MD:={d with se:=se,tb:=tb,TP:=TP}
def jv(X:RX)(R Q:Nat)(d:MD)(q:RQ)(w:World)(S':TS)(row:List VD)(cells:Nat)(wt:List (Int×Int))(se:Nat)(w':World):Prop:=
 ∃d' a c,Rp X R Q d q w d' ⟨row,a,c,cells,wt⟩ w'/\Rz X R Q S' d' ⟨row,a,c,cells,wt⟩ w'/\d'=d.sn se d'.tb d'.TP
section
variable {X:RX}{R Q:Nat}{S S' Dx:TS}{d d':MD}{q:RQ}{w w' w'':World}
theorem Rz.below(h:Rz X R Q S d q w)(hb:gZ w w'):Rz X R Q S d q w':=⟨(Rp.below h.t hb).t,h.o,h.k.rp h.t (Rp.below h.t hb)⟩
theorem Rz.is(h:Rz X R Q S d q w):iU X.N S w:=h.o.is h.t.s
theorem Sp.seen{u:World}(h:St X d u)(n:Nat):Sp X d u {d with se:=n} (u.setCell ⟨X.T,16,none⟩ (.int .i64 (n:Int))):=by
 have hx:=h.ty;refine h.put _ (.inr (.inl rfl)) (kR h.m (bK hx.tm)) ?_ (kR h.f (bK hx.tf)) (kR h.v (bK hx.tv)) h.rr h.hr h.sr h.fw h.r0 (fun _ _ e=>e) rfl;exact h.t.set (o:=16) (by show 16<17;omega) (.int .i64 (n:Int))
theorem jv.refl(h:Rz X R Q S d q w):jv X R Q d q w S q.row q.cells q.wt d.se w:=⟨d,q.a,q.c,Rp.refl h.t,h,rfl⟩
theorem jv.call{r1:List VD}{n1 e1:Nat}{l1:List (Int×Int)}(h:jv X R Q d q w S' r1 n1 l1 e1 w')(hb:gZ w' w''):jv X R Q d q w S' r1 n1 l1 e1 w'':=by
 obtain⟨d1,a1,c1,h1,h2,h3⟩:=h;exact⟨d1,a1,c1,h1.call hb,h2.below hb,h3⟩
theorem qq8{g j:Nat}(h:Rz X R Q S d q w)(hg:Ry X R Q d q w g (vA (jT 5 j)))(hj:j<S.nt)(hv:S.tv j=ptr (S.K j))(hne:S.se j≠d.ro)(gJ:q.row.length<=10000):Calls Tryz.prog 335 #[ptr R,.slice (some ⟨g,0,none⟩) 1 1] w fun e w'=>e=.returned (.tuple #[])/\jv X R Q d q w (S.ng j d.ro) (q.row++[jT 5 j]) q.cells q.wt d.se w':=by
 have hst:∀w',gZ w w'->Sp X d w' (d.tabs d.tab d.jA d.jc d.sin d.lv d.ro (S.ng j d.ro).tb (iU X.N (S.ng j d.ro))) (w'.setCell ⟨S.K j,6,none⟩ (.int .i64 (d.ro:Int)))/\jl X (d.tabs d.tab d.jA d.jc d.sin d.lv d.ro (S.ng j d.ro).tb (iU X.N (S.ng j d.ro))) (S.ng j d.ro):=fun w' hb=>Sp.cell (h.below hb).t.s h.o hj ((h.below hb).is.ng hj d.ro) rfl ⟨rfl,rfl,rfl⟩ ⟨rfl,rfl,rfl⟩;refine(qn3 X R Q d (d.tabs d.tab d.jA d.jc d.sin d.lv d.ro (S.ng j d.ro).tb (iU X.N (S.ng j d.ro))) q g (S.K j) 6 (rX S j) 5 j (S.se j) w h.t hg (h.is.k j hj).1 rfl (stB.tb (by rw[h.o.b];exact .inl ⟨j,hj,.inl rfl⟩)) (by simp;omega) rfl (fun w=>WO j w) (fun w' hb=>Ws X d S j w' (h.below hb).t.s h.o hj hv) (fun w' hb=>Rp.run (h.below hb).t (hst w' hb).1 rfl) gJ).mono ?_;rintro e w' ⟨rfl,a,c,hr⟩;exact⟨rfl,_,a,c,hr,⟨hr.t,(hst w (ay _ _)).2,h.k.rp h.t hr⟩,rfl⟩
theorem zi7{g:Nat}(h:Rz X R Q S d q w)(hg:Ry X R Q d q w g (vA (jT 7 0)))(hne:d.se≠d.ro)(gJ:q.row.length<=10000):Calls Tryz.prog 335 #[ptr R,.slice (some ⟨g,0,none⟩) 1 1] w fun e w'=>e=.returned (.tuple #[])/\jv X R Q d q w S (q.row++[jT 7 0]) q.cells q.wt d.ro w':=by
 refine(qn3 X R Q d {d with se:=d.ro} q g X.T 16 (tA X d) 7 0 d.se w h.t hg h.t.s.t rfl (.inr (.inl rfl)) (by simp;omega) rfl (fun w=>z03 0 w) (fun w' hb=>zm1 X d w' (h.below hb).t.s (h.below hb).k) (fun w' hb=>Rp.run (h.below hb).t (Sp.seen (h.below hb).t.s d.ro) rfl) gJ).mono ?_;rintro e w' ⟨rfl,a,c,hr⟩;exact⟨rfl,_,a,c,hr,⟨hr.t,⟨h.o.b,h.o.p,h.o.t,h.o.l⟩,h.k.rp h.t hr⟩,rfl⟩
end
end
section
open Go.RowKit
attribute [local go_sem] iD
attribute [local go_sem ↓] Go.wp_at_zero Go.wp_at_succ
def TS.jD(S:TS)(l:List Nat)(r:Nat):TS:={S with se:=fun i=>if i∈l then r else S.se i}
theorem yi9(S:TS)(r:Nat):S.jD [] r=S:=by simp[TS.jD]
theorem yi8(S:TS)(l:List Nat)(j r:Nat):(S.jD l r).ng j r=S.jD (l++[j]) r:=by
 simp only[TS.jD,TS.ng,TS.mk.injEq,true_and,and_true];funext i;by_cases e:i=j
 ·simp[e]
 ·simp[e]
section
variable {X:RX}{R Q:Nat}{S S' Dx:TS}{d d':MD}{q q':RQ}{w w' w'':World}
theorem jv.then{r2:List VD}{n2 e1 e2:Nat}{l2:List (Int×Int)}(hp:Rp X R Q d q w d' q' w')(hd:d'=d.sn e1 d'.tb d'.TP)(k:jv X R Q d' q' w' Dx r2 n2 l2 e2 w''):jv X R Q d q w Dx r2 n2 l2 e2 w'':=by
 obtain⟨d2,a2,c2,k1,k2,k3⟩:=k;exact⟨d2,a2,c2,hp.trans k1,k2,by rw[hd] at k3;exact k3⟩
theorem Us{N n c:Nat}{a:Option Addr}{t:TypeId}{xs:List Value}(h:w.ownsRow N t 1 (.slice a n c) n xs)(h0:0<n):∃g,a=some ⟨g,0,none⟩/\g<w.heap.size/\∀i v,xs[i]?=some v->w.cell? ⟨g,i,none⟩=some v:=by
 rcases h.2 with⟨_,e⟩|⟨g,c,cur,e,_,hg,_⟩
 ·omega
 ·have e1:a=some ⟨g,0,none⟩:=by injection e
  refine⟨g,e1,(aA.1 hg).1,fun i v hv=>?_⟩;have hc:=h.cells (g:=g) (by rw[e1];rfl) i v hv
  cases i<;>simpa[Addr.add] using hc
theorem Zx{N n c:Nat}{a:Option Addr}{l:List VD}(h:w.ownsRow N 61 5 (.slice a n c) n (hL l))(hl:l.length=n):tV w a n l:=⟨hl,fun h0=>by
 rcases h.2 with⟨_,e⟩|⟨g,c,cur,e,_,hg,_⟩
 ·omega
 ·have e1:a=some ⟨g,0,none⟩:=by injection e
  refine⟨g,0,e1,(aA.1 hg).1,fun i v hv=>?_⟩;have hc:=h.cells (g:=g) (by rw[e1];rfl) i v hv;rw[Nat.zero_add]
  cases i<;>simpa[Addr.add] using hc⟩
def nG(X:RX)(R Q:Nat)(d:MD)(q:RQ)(w:World)(l:List Nat):Prop:=l.length=d.sc.length/\∀i t:Nat,l[i]?=some t->∃v B:Nat,d.sc[i]?=some (v:Int)/\d.vs[v]?=some (ptr B)/\Ry X R Q d q w B (vA (jT 5 (t:Int)))
theorem nG.step{l:List Nat}{e1:Nat}(h:nG X R Q d q w l)(hp:Rp X R Q d q w d' q' w')(hd:d'=d.sn e1 d'.tb d'.TP):nG X R Q d' q' w' l:=by
 have e1:d'.sc=d.sc:=by rw[hd]
 have e2:d'.vs=d.vs:=by rw[hd]
 refine⟨by rw[e1];exact h.1,fun i t ht=>?_⟩;obtain⟨v,B,h1,h2,h3⟩:=h.2 i t ht;exact⟨v,B,by rw[e1];exact h1,by rw[e2];exact h2,h3.step hp⟩
end
theorem qm1(X:RX)(R Q:Nat)(S:TS)(d:MD)(q:RQ)(w:World)(l:List Nat)(ra:Option Addr)(rc:Nat)(h:Rz X R Q S d q w)(hc:mX X.cal)(hr:X.rest=.slice ra 0 rc)(hV:nG X R Q d q w l)(hl:l.Nodup)(hs:∀t∈l,t<S.nt/\S.tv t=ptr (S.K t)/\S.se t≠d.ro)(hn:q.row.length+l.length<=10000):Calls Tryz.prog 392 #[ptr R,ptr X.F] w fun e w'=>e=.returned (.tuple #[])/\jv X R Q d q w (S.jD l d.ro) (q.row++l.map fun t:Nat=>jT 5 (t:Int)) q.cells q.wt d.se w':=by
 have HT:Hid (Rz X R Q S d q w):=h;have HC:Hid (mX X.cal):=hc;have HV:Hid (nG X R Q d q w l):=hV;have HL:Hid (l.Nodup/\∀t∈l,t<S.nt/\S.tv t=ptr (S.K t)/\S.se t≠d.ro):=⟨hl,hs⟩;have f:=h.t.s.f;have lF:=f.1.1;have f2:w.cell? ⟨X.F,2,none⟩=some (.int .i64 X.cal.k):=f.1.cell 2 rfl;have f3:w.cell? ⟨X.F,3,none⟩=some (.int .i64 X.cal.n):=f.1.cell 3 rfl;have f4:w.cell? ⟨X.F,4,none⟩=some (.float .f64 X.cal.f):=f.1.cell 4 rfl;have f5:w.cell? ⟨X.F,5,none⟩=some (.string X.cal.s):=f.1.cell 5 rfl;have f6:w.cell? ⟨X.F,6,none⟩=some (.int .i64 X.cal.r):=f.1.cell 6 rfl;go_in;go_wp2_with fail;refine(IZ R _ 1 _ [X.cal] _ (Sj (OwnB.new w _ _).1) (by simpa using HC.out) (by omega)).mono ?_;rintro e w1 ⟨rfl,eu⟩;have fB:Hid (gZ w w1):=iq (q01 _ _) eu;have f:=(HT.below fB.out).t.s.f;have lF:=f.1.1;have f9:w1.cell? ⟨X.F,9,none⟩=some (.slice ra 0 rc):=by rw[<-hr];exact f.1.cell 9 rfl
 go_wp2_with fail;refine(IZ R ra 0 rc [] w1 (Zw _ _) (by simp) (by omega)).mono ?_;rintro e w2 ⟨rfl,eG⟩;have fD:Hid (gZ w w2):=iq fB.out eG;have f:=(HT.below fD.out).t.s.f;have lF:=f.1.1;have f10:w2.cell? ⟨X.F,10,none⟩=some (.slice d.sa d.sc.length d.sp):=f.1.cell 10 rfl;go_wp2_with fail
 go_loopw [26] (fun i wr=>∃(k:Nat),k<=d.sc.length/\i=.int .i64 k/\Hid (jv X R Q d q w (S.jD (l.take k) d.ro) (q.row++(l.take k).map fun t:Nat=>jT 5 (t:Int)) q.cells q.wt d.se wr)) (fun i _=>d.sc.length-(intOf i).toNat)
 case atStart=>
  refine⟨0,aF _,rfl,?_⟩;show jv _ _ _ _ _ _ _ _ _ _ _ _;simp only[List.take_zero,yi9,List.map_nil,bM];exact(jv.refl HT).call fD
 case round=>
  obtain⟨k,hk,rfl,HP⟩:=hrel;obtain⟨d1,a1,c1,hp1,hz1,hd1⟩:=HP.out;obtain⟨tb,TP,rfl⟩:∃tb TP,d1=d.sn d.se tb TP:=⟨_,_,hd1⟩;have qJ:Hid (Rp X R Q d q w (d.sn d.se tb TP) ⟨q.row++(l.take k).map fun t:Nat=>jT 5 (t:Int),a1,c1,q.cells,q.wt⟩ wr):=hp1;have HZ1:Hid (Rz X R Q (S.jD (l.take k) d.ro) (d.sn d.se tb TP) ⟨q.row++(l.take k).map fun t:Nat=>jT 5 (t:Int),a1,c1,q.cells,q.wt⟩ wr):=hz1;by_cases fE:k<d.sc.length
  ·obtain⟨t,ht⟩:∃t,Hid (l[k]?=some t):=⟨l[k]'(by have:=HV.1;omega),aP.2 ⟨by have:=HV.1;omega,rfl⟩⟩;obtain⟨v,B,hv1,hv2,hv3⟩:=(HV.step (e1:=d.se) qJ.out rfl).2 k t ht.out;obtain⟨g,hsa,hg,hsc⟩:=Us HZ1.t.s.sr (by show 0<d.sc.length;omega);have sk:wr.cell? ⟨g,k,none⟩=some (.int .i64 (v:Int)):=hsc k _ (by show(iL d.sc)[k]?=_;simp only[iL,dW];rw[hv1];rfl);replace hsa:d.sa=some ⟨g,0,none⟩:=hsa;rw[hsa];have fF:=HZ1.t.s.f;have lF:=fF.1.1;have f8:wr.cell? ⟨X.F,8,none⟩=some (.slice (some ⟨X.V,0,none⟩) X.nv X.nv):=fF.1.cell 8 rfl;have hvv:=HZ1.t.s.v;have lV:=hvv.1.1;have vv:wr.cell? ⟨X.V,v,none⟩=some (ptr B):=(hvv.1.2 v).trans (by show d.vs.toArray[v]?=_;simpa using hv2);have hvn:v<X.nv:=by
    have:=HZ1.t.s.nv;have h2:=(aP.1 hv2).1;show v<X.nv;omega
   obtain⟨b0,b1,b2,b3,b4⟩:=hv3.1.c5;have lB:=hv3.1.1.1;have i0:(0:Int)<=(k:Int):=aS _;have i1:(k:Int)<(d.sc.length:Int):=by omega
   have v0:(0:Int)<=(v:Int):=aS _;have v1:(v:Int)<(X.nv:Int):=by omega
   go_wp2_with fail;have hz2:=HZ1.below (q01 wr (.cells #[.int .i64 5,.int .i64 0,.float .f64 0,.string ⟨#[]⟩,.int .i64 (t:Int)] 61));have hmem:t∈l:=List.mem_of_getElem? ht.out;have hlk:k<l.length:=(aP.1 ht.out).1;have hnot:t ∉ l.take k:=fun c=>by
    obtain⟨i,hi⟩:=List.mem_iff_getElem?.1 c;rw[List.getElem?_take] at hi;split at hi
    ·have:=(List.getElem?_inj (by omega) HL.1).1 (hi.trans ht.symm);omega
    ·cases hi
   refine(qq8 (g:=wr.heap.size) (j:=t) hz2 (Ry.new HZ1.t _ _) (HL.2 t hmem).1 (HL.2 t hmem).2.1 (by show(if t∈l.take k then d.ro else S.se t)≠d.ro;rw[au hnot];exact(HL.2 t hmem).2.2) (by show(q.row++_).length<=_;simp;omega)).mono ?_;rintro e w3 ⟨rfl,hz3⟩;have HZ3:Hid (jv X R Q d q w (S.jD (l.take (k+1)) d.ro) (q.row++(l.take (k+1)).map fun t:Nat=>jT 5 (t:Int)) q.cells q.wt d.se w3):=by
    have:=jv.then (e1:=d.se) (qJ.call (q01 wr _)) rfl hz3;rw[yi8] at this;have e:l.take (k+1)=l.take k++[t]:=by rw[List.take_add_one,ht.out];rfl
    show jv _ _ _ _ _ _ _ _ _ _ _ _;rw[e,bH,<-List.append_assoc];exact this
   go_wp2_with fail;go_roundw
   case rel=>exact⟨k+1,by omega,by go_num,HZ3⟩
   case measure=>simp[intOf];omega
  ·obtain rfl:k=d.sc.length:=by omega
   have e0:((d.sc.length:Int)<(d.sc.length:Int))=False:=by simp
   have fF:=HZ1.t.s.f;have lF:=fF.1.1;have f11:wr.cell? ⟨X.F,11,none⟩=some (.slice none 0 0):=fF.1.cell 11 rfl;go_wp2_with fail;refine bW 1 ?_;rw[bC];go_wp2_with fail;go_end0;refine⟨rfl,?_⟩;have e:l.take d.sc.length=l:=List.take_of_length_le (by have:=HV.1;omega);have:=HZ1.out;have hp:=qJ.out;rw[e] at this hp;exact⟨_,_,_,hp,this,rfl⟩
theorem qo4(X:RX)(R Q:Nat)(S:TS)(d:MD)(q:RQ)(w:World)(l:List Nat)(ra:Option Addr)(rc:Nat)(h:Rz X R Q S d q w)(hfl:X.fl=1)(hh:∀v,v∈d.held->mX v)(hhn:d.held.length<=100000)(hc:mX X.cal)(hr:X.rest=.slice ra 0 rc)(hV:nG X R Q d q w l)(hl:l.Nodup)(hs:∀t∈l,t<S.nt/\S.tv t=ptr (S.K t)/\S.se t≠d.ro)(hn:q.row.length+l.length<=10000):Calls Tryz.prog 366 #[ptr R,ptr X.T] w fun e w'=>e=.returned (.tuple #[])/\jv X R Q d q w (S.jD l d.ro) (q.row++l.map fun t:Nat=>jT 5 (t:Int)) q.cells q.wt d.se w':=by
 have HT:Hid (Rz X R Q S d q w):=h;have HV:Hid (nG X R Q d q w l):=hV;have HC:Hid (∀w',gZ w w'->Calls Tryz.prog 392 #[ptr R,ptr X.F] w' fun e w''=>e=.returned (.tuple #[])/\jv X R Q d q w (S.jD l d.ro) (q.row++l.map fun t:Nat=>jT 5 (t:Int)) q.cells q.wt d.se w''):=fun w' hb=>by
  refine(qm1 X R Q S d q w' l ra rc (h.below hb) hc hr (hV.step (e1:=d.se) (Rp.below h.t hb) rfl) hl hs hn).mono ?_;rintro e w'' ⟨rfl,hz⟩;exact⟨rfl,jv.then (e1:=d.se) (Rp.below h.t hb) rfl hz⟩
 have HH:Hid (∀v,v∈d.held->mX v):=hh;have t0:=h.t.s.t.1.cell 0 rfl;have t1:=h.t.s.t.1.cell 1 rfl;have t8:w.cell? ⟨X.T,8,none⟩=some (.slice d.ha d.held.length d.hc):=h.t.s.t.1.cell 8 rfl;have lT:=h.t.s.t.1.1;go_in;go_wp2_with fail;refine(IZ R d.ha d.held.length d.hc d.held w (Zx HT.t.s.hr rfl) HH hhn).mono ?_;rintro e w1 ⟨rfl,eu⟩;have fB:Hid (gZ w w1):=eu;have hS:=(HT.below fB.out).t.s;have t14:=hS.t.1.cell 14 rfl;have lT:=hS.t.1.1;obtain⟨g,hg,hgl,hgc⟩:=Us hS.fw (by omega);have t7:w1.cell? ⟨X.T,7,none⟩=some (.slice (some ⟨g,0,none⟩) 1 d.fc):=by rw[<-hg,<-hfl];exact hS.t.1.cell 7 rfl
 have f0:w1.cell? ⟨g,0,none⟩=some (ptr X.F):=hgc 0 _ (by have:=hS.r0;rw[hfl] at this;exact this);go_wp2_with fail;refine bW 2 ?_;rw[bC];go_wp2_with fail;refine(HC w1 fB).mono ?_;rintro e w2 ⟨rfl,hz2⟩;have HZ2:Hid (jv X R Q d q w (S.jD l d.ro) (q.row++l.map fun t:Nat=>jT 5 (t:Int)) q.cells q.wt d.se w2):=hz2;go_wp2_with fail;rw[bC];go_wp2_with fail;go_end0;exact⟨rfl,HZ2⟩
theorem qu6(K:Nat)(r:Int)(w:World)(hK:K<w.heap.size)(h:w.cell? ⟨K,0,none⟩=some (.int .i64 r)):Calls Tryz.prog 336 #[ptr K] w fun e w'=>e=.returned (iJ 7 0 0 ⟨#[]⟩ r)/\gZ w w':=by
 go_in;go_wp2_with fail;refine(z27 7 r _).mono ?_;rintro e w1 ⟨rfl,hb⟩;have hO:=(OwnB.new w #[.int .i64 0,.int .i64 0,.float .f64 0,.string ⟨#[]⟩,.int .i64 0] 61).iy hb;have r0:=hO.1.cell 0 rfl;have r1:=hO.1.cell 1 rfl;have r2:=hO.1.cell 2 rfl;have r3:=hO.1.cell 3 rfl;have r4:=hO.1.cell 4 rfl;have rz:=hO.2;have HB:Hid (gZ w w1):=iq (q01 _ _) hb;go_wp2_with fail;exact aG (v:=iJ 7 0 0 ⟨#[]⟩ r) (by simp[results,Tryz.results336,go_sem,r0,r1,r2,r3,r4]) rfl ⟨rfl,pO HB.out (ah _) _ _ _ _ _⟩
def yu9(X:RX)(R Q:Nat)(S:TS)(d:MD)(q:RQ)(w:World)(Post:World->Prop)(k r:Int):Prop:=
 (k=5/\∃j:Nat,r=(j:Int)/\j<S.nt/\S.tv j=ptr (S.K j)/\∀w',Rp X R Q d q w d q w'->Rz X R Q S d q w'->Calls Tryz.prog 364 #[ptr R,ptr (S.K j)] w' fun e w''=>e=.returned (.tuple #[])/\Post w'')\/
 (k=7/\r=0/\∀w',Rp X R Q d q w d q w'->Rz X R Q S d q w'->Calls Tryz.prog 366 #[ptr R,ptr X.T] w' fun e w''=>e=.returned (.tuple #[])/\Post w'')
theorem qb2(X:RX)(R Q:Nat)(S:TS)(d:MD)(q:RQ)(w:World)(Post:World->Prop)(k r:Int)(h:Rz X R Q S d q w)(hn:(k,r) ∉ q.wt)(hk:yu9 X R Q S d q w Post k r):Calls Tryz.prog 337 #[ptr R,iJ k 0 0 ⟨#[]⟩ r] w fun e w'=>e=.returned (.tuple #[])/\Post w':=by
 have HT:Hid (Rz X R Q S d q w):=h;have HN:Hid ((k,r) ∉ q.wt):=hn;have HK:Hid (yu9 X R Q S d q w Post k r):=hk;go_in
 go_upto_region 2 with fail
 obtain⟨w1,fQ⟩:∃w1,(w.alloc (.cells #[.int .i64 k,.int .i64 0,.float .f64 0,.string ⟨#[]⟩,.int .i64 r] 61)).alloc (.cells #[.int .i64 k,.int .i64 r] 253)=w1:=⟨_,rfl⟩;obtain⟨b3,eH⟩:∃b3,w.heap.size=b3:=⟨_,rfl⟩;obtain⟨b4,eU⟩:∃b4,w.heap.size+1=b4:=⟨_,rfl⟩;have H1:Hid (gZ w w1/\OwnB w1 b3 (vA (jT k r))/\OwnB w1 b4 #[.int .i64 k,.int .i64 r]/\w.heap.size<=b3/\w.heap.size<=b4):=by
  rw[<-fQ,<-eU,<-eH];exact⟨(q01 _ _).alloc (by rw[aN];omega) _,(OwnB.new _ _ _).iy (q01 _ _),zN _ _ _ _,by omega,by omega⟩
 rw[fQ,eU,eH];have HC:Hid (∀w',gZ w1 w'->w'.cell? ⟨R,3,none⟩=some (.map (some Q))/\w'.cell? ⟨b4,0,none⟩=some (.int .i64 k)/\w'.cell? ⟨b4,1,none⟩=some (.int .i64 r)/\(Instr.lookup Bf (.map (some Q)) (.agg #[.int .i64 k,.int .i64 r]) false).run Tryz.prog w'=.ok (.slice none 0 0) w'):=fun w' hb=>by
  have hR:=(HT.below (iq H1.1 hb)).t;have h4:=H1.2.2.1.iy hb;exact⟨hR.b.1.cell 3 rfl,h4.1.cell 0 rfl,h4.1.cell 1 rfl,hR.m.no (m:=(k,r)) HN⟩
 have S0:=HC.out w1.drew ((ay _ _).drew)
 go_region_held3 (fun w'=>w'.cell? ⟨R,3,none⟩=some (.map (some Q))/\w'.cell? ⟨b4,0,none⟩=some (.int .i64 k)/\w'.cell? ⟨b4,1,none⟩=some (.int .i64 r)/\(Instr.lookup Bf (.map (some Q)) (.agg #[.int .i64 k,.int .i64 r]) false).run Tryz.prog w'=.ok (.slice none 0 0) w') (first|(with_reducible exact S0)|(with_reducible exact S2)) (first
  |(go_at_call 335;refine(IZ R none 0 0 [] w1.drew (Zw _ _) (by simp) (by omega)).mono ?_;rintro e w2 ⟨rfl,eG⟩;have fD:Hid (gZ w1 w2):=iq ((ay _ _).drew) eG;have S2:=HC.out w2 fD.out))
 go_upto_region 3 with fail
 have HZ2:Hid (Rz X R Q S d q w2.drew):=HT.below (iq H1.1 (fD.drew));obtain⟨w3,hrun0,zZ,g3⟩:=HZ2.t.m.del (m:=(k,r)) HN.out;have hrun:=fun ty=>hrun0 ty 253;have H3:Hid (Rp X R Q d q w d q w3/\Rz X R Q S d q w3/\OwnB w3 b3 (vA (jT k r))):=by
  have hp:Rp X R Q d q w2.drew d q w3:=Rp.wait HZ2.t g3 zZ;refine⟨(Rp.below HT.t (iq H1.1 fD.drew)).trans hp,⟨hp.t,HZ2.o,HZ2.k.rp HZ2.t hp⟩,g3.ownB (H1.2.1.iy fD.drew) (fun e=>?_)⟩;have:=HT.t.m.lt;have:=H1.2.2.2.1;omega
 have r3:w2.cell? ⟨R,3,none⟩=some (.map (some Q)):=(HT.below (iq H1.1 fD.out)).t.b.1.cell 3 rfl;have h4:=H1.2.2.1.iy fD.out;have k0:=h4.1.cell 0 rfl;have k1:=h4.1.cell 1 rfl;have lR:=(HT.below (iq H1.1 fD.out)).t.b.1.1;have l4:=h4.1.1
 go_cut [] from 5 (fun wc=>Hid (Rp X R Q d q w d q wc/\Rz X R Q S d q wc/\OwnB wc b3 (vA (jT k r))))
 case first=>
  go_region_with fail
  all_goals go_wp2_with fail
  all_goals go_meet
  all_goals exact H3
 case rest=>
  rename World=>wc
  have HC:=hcut;obtain⟨v0,v1,v2,v3,v4⟩:=HC.2.2.c5;have l3:=HC.2.2.1.1;rcases HK.out with⟨rfl,j,rfl,hj,hv,hc⟩|⟨rfl,rfl,hc⟩
  ·have HG:Hid (∀w',Rp X R Q d q w d q w'->Rz X R Q S d q w'->Calls Tryz.prog 364 #[ptr R,ptr (S.K j)] w' fun e w''=>e=.returned (.tuple #[])/\Post w''):=hc;have hT:=HC.2.1.is;obtain⟨g,hg,hl,gI⟩:=hT.at hj;rw[hv] at gI;have m16:wc.cell? ⟨X.M,16,none⟩=some (.slice (some ⟨g,0,none⟩) S.nt S.tc):=by rw[<-hg,<-HC.2.1.o.t];exact HC.2.1.t.s.m.1.cell 16 rfl
   have lM:=HC.2.1.t.s.m.1.1;have r0:wc.cell? ⟨R,0,none⟩=some (ptr X.M):=HC.2.1.t.b.1.cell 0 rfl;have lR:=HC.2.1.t.b.1.1;have i0:(0:Int)<=(j:Int):=aS _;have i1:(j:Int)<(S.nt:Int):=by omega
   go_upto_region 6 with fail
   have Qd:Hid (Rp X R Q d q w d q wc.drew/\Rz X R Q S d q wc.drew):=⟨HC.1.call ((ay _ _).drew),HC.2.1.below ((ay _ _).drew)⟩
   go_region_with (first
    |(go_at_call 364;refine(HG wc.drew Qd.1 Qd.2).mono ?_;rintro e w4 ⟨rfl,eU⟩;have HE:Hid (Post w4):=eU))
   all_goals go_wp2_with fail
   all_goals go_end0
   all_goals exact⟨rfl,HE.out⟩
  ·have HG:Hid (∀w',Rp X R Q d q w d q w'->Rz X R Q S d q w'->Calls Tryz.prog 366 #[ptr R,ptr X.T] w' fun e w''=>e=.returned (.tuple #[])/\Post w''):=hc;obtain⟨g,c,hg,hl,gI,_⟩:=HC.2.1.k;replace hl:=hl.lt;have m18:wc.cell? ⟨X.M,18,none⟩=some (.slice (some ⟨g,0,none⟩) 1 c):=by rw[<-hg];exact HC.2.1.t.s.m.1.cell 18 rfl
   have lM:=HC.2.1.t.s.m.1.1;have r0:wc.cell? ⟨R,0,none⟩=some (ptr X.M):=HC.2.1.t.b.1.cell 0 rfl;have lR:=HC.2.1.t.b.1.1;have Qd:Hid (Rp X R Q d q w d q wc.drew/\Rz X R Q S d q wc.drew):=⟨HC.1.call ((ay _ _).drew),HC.2.1.below ((ay _ _).drew)⟩
   go_upto_region 12 with fail
   go_region_with (first
    |(go_at_call 366;refine(HG wc.drew Qd.1 Qd.2).mono ?_;rintro e w4 ⟨rfl,eU⟩;have HE:Hid (Post w4):=eU))
   all_goals go_wp2_with fail
   all_goals go_end0
   all_goals exact⟨rfl,HE.out⟩
abbrev C11(w:World)(g o:Nat)(p:PD):Prop:=w.cell? ⟨g,o,none⟩=some (.int .i64 p.key.k)/\w.cell? ⟨g,o+1,none⟩=some (.int .i64 p.key.n)/\w.cell? ⟨g,o+2,none⟩=some (.float .f64 p.key.f)/\w.cell? ⟨g,o+3,none⟩=some (.string p.key.s)/\w.cell? ⟨g,o+4,none⟩=some (.int .i64 p.key.r)/\w.cell? ⟨g,o+5,none⟩=some (.int .i64 p.val.k)/\w.cell? ⟨g,o+6,none⟩=some (.int .i64 p.val.n)/\w.cell? ⟨g,o+7,none⟩=some (.float .f64 p.val.f)/\w.cell? ⟨g,o+8,none⟩=some (.string p.val.s)/\w.cell? ⟨g,o+9,none⟩=some (.int .i64 p.val.r)/\w.cell? ⟨g,o+10,none⟩=some (.int .i64 p.turn)
theorem Tab.c11{w:World}{a:Option Addr}{n:Nat}{q:Nat->PD}(h:Tab w a n q){i:Nat}(hi:i<n):∃g off,a=some ⟨g,off,none⟩/\g<w.heap.size/\C11 w g (off+i*11) (q i):=by
 obtain⟨g,off,e,h1,h2⟩:=h (by omega);exact⟨g,off,e,h1,h2 i hi 0 (by omega),h2 i hi 1 (by omega),h2 i hi 2 (by omega),h2 i hi 3 (by omega),h2 i hi 4 (by omega),h2 i hi 5 (by omega),h2 i hi 6 (by omega),h2 i hi 7 (by omega),h2 i hi 8 (by omega),h2 i hi 9 (by omega),h2 i hi 10 (by omega)⟩
def TS.uM(S:TS)(k:Option Nat)(r:Nat):TS:=match k with
 |none=>S
 |some i=>S.ng i r
def uN(k:Option Nat):List VD:=match k with
 |none=>[]
 |some i=>[jT 5 (i:Int)]
def nU(ks:Nat->Bool)(tt:Nat->Nat)(k:Nat):List (Int×Int):=((List.range k).filter fun i=>!ks i).map fun i=>(5,(tt i:Int))
structure yH(S:TS)(ro j:Nat)(wk:Bool)(ks:Nat->Bool)(tt:Nat->Nat)(wt:List (Int×Int)):Prop where
 v:∀i,i<(S.D j).n->mX ((S.D j).q i).val
 k:wk=false->∀i,i<(S.D j).n->mX ((S.D j).q i).key/\ks i=true
 t:wk=true->∀i,i<(S.D j).n->((S.D j).q i).key=jT 5 (tt i:Int)/\tt i<S.nt/\S.tv (tt i)=ptr (S.K (tt i))/\ks i=(((S.se (tt i):Nat):Int)==(ro:Int))
 i:∀i i',i<(S.D j).n->i'<(S.D j).n->tt i=tt i'->i=i'
 w:∀i,i<(S.D j).n->((5:Int),(tt i:Int)) ∉ wt
theorem zs2(ks:Nat->Bool)(tt:Nat->Nat)(k:Nat):nU ks tt (k+1)=nU ks tt k++(if ks k then[] else[(5,(tt k:Int))]):=by
 unfold nU;rw[bU,List.filter_append,bH];congr 1
 cases h:ks k<;>simp[h]
theorem yH.not{S:TS}{ro j:Nat}{wk:Bool}{ks:Nat->Bool}{tt:Nat->Nat}{wt:List (Int×Int)}(h:yH S ro j wk ks tt wt){k:Nat}(hk:k<(S.D j).n):((5:Int),(tt k:Int)) ∉ wt++nU ks tt k:=fun c=>by
 rcases dD.1 c with c|c
 ·exact h.w k hk c
 ·obtain⟨i,hi,e⟩:=List.mem_map.1 c;have hi':=dY.1 (List.mem_filter.1 hi).1;have e2:tt i=tt k:=by have:=aJ Prod.snd e;exact Int.ofNat_inj.1 this
  have:=h.i i k (by omega) hk e2;omega
theorem yf2(u:World)(g:Nat)(x:VD)(hc:∀(j:Nat) (v:Value),(v5 x)[j]?=some v->u.cell? ((⟨g,0,none⟩:Addr).add j)=some v):∃v' w',(Builtin.append_ #[119,119] 119 #[.slice none 0 0,.slice (some ⟨g,0,none⟩) 1 1]).run Tryz.prog u=.ok v' w'/\u.grownBy w' none:=by
 obtain⟨i0,gU,gQ,hy1,hy2⟩:=bT NR;obtain⟨v',w7,gq,_,gY,_,_⟩:=run_append_own_at (P:=Tryz.prog) u u.heap.size 119 119 61 i0 _ 5 48 Tryz.underlying119 gU gQ hy1 hy2 rfl (by decide) (.slice none 0 0) 0 [] (aX _ _ _ _) ⟨g,0,none⟩ 1 1 (v5 x) rfl hc (Vd _) (by unfold maxLen;omega) (by omega) (ah _);exact⟨v',w7,gq,gY⟩
section
variable {X:RX}{R Q:Nat}{d:MD}{q:RQ}{w:World}
abbrev vO(x:VD):Obj:=.cells #[.int .i64 x.k,.int .i64 x.n,.float .f64 x.f,.string x.s,.int .i64 x.r] 61
theorem Rt.N9(h:Rt X R Q d q w){m:Int×Int}(hn:m ∉ q.wt)(x:VD):∃(st:Nat) (w8:World) (v':Value) (w9 w10:World),(Instr.mapEntry Bf (.map (some Q)) (qX m)).run Tryz.prog (w.alloc (vO x)).drew=.ok (.tuple #[.slice none 0 0,.int .i64 (st:Int)]) w8/\(Builtin.append_ #[119,119] 119 #[.slice none 0 0,.slice (some ⟨w.heap.size,0,none⟩) 1 1]).run Tryz.prog w8=.ok v' w9/\(Instr.entryStore Bf (.map (some Q)) (.int .i64 (st:Int)) v').run Tryz.prog w9=.ok () w10/\Rp X R Q d q w d {q with wt:=q.wt++[m]} w10:=by
 have hT:=(Rp.below h ((q01 w (vO x)).drew));obtain⟨st,w8,h1,h2,h3,h4⟩:=hT.t.m.more (m:=m) hn;have hQ:=h.m.lt;have hb:w8.heap[w.heap.size]?=(w.alloc (vO x)).drew.heap[w.heap.size]?:=h3.block _ (by show w.heap.size<(w.alloc (vO x)).heap.size;simp) (by omega);obtain⟨v',w9,h5,h6⟩:=yf2 w8 w.heap.size x (fun j v hv=>(ak (a:=(⟨w.heap.size,0,none⟩:Addr).add j) (by cases j<;>exact hb)).trans (Az w #[.int .i64 x.k,.int .i64 x.n,.float .f64 x.f,.string x.s,.int .i64 x.r] 61 j v hv));have g9:Gx (fun k=>k=Q) w8 w9:=(Gx.grown h6).mono (fun k e=>nomatch e);obtain⟨w10,h7,h8,h9⟩:=h4 w9 v' (h6.block Q h2.lt (by simp));exact⟨st,w8,v',w9,w10,h1,h5,h7,hT.trans (Rp.wait hT.t ((h3.trans g9 (fun _ _ e=>e)).trans h9 (fun _ _ e=>e)) h8)⟩
theorem Rt.N8(h:Rt X R Q d q w){m:Int×Int}(hn:m ∉ q.wt)(x:VD):∃(st:Nat) (w8:World) (v':Value) (w9 w10:World),(Instr.mapEntry Bf (.map (some Q)) (qX m)).run Tryz.prog w.drew=.ok (.tuple #[.slice none 0 0,.int .i64 (st:Int)]) w8/\(Builtin.append_ #[119,119] 119 #[.slice none 0 0,.slice (some ⟨w8.heap.size,0,none⟩) 1 1]).run Tryz.prog (w8.alloc (vO x))=.ok v' w9/\(Instr.entryStore Bf (.map (some Q)) (.int .i64 (st:Int)) v').run Tryz.prog w9=.ok () w10/\Rp X R Q d q w d {q with wt:=q.wt++[m]} w10:=by
 have hT:=(Rp.below h ((ay w.heap.size w).drew));obtain⟨st,w8,h1,h2,h3,h4⟩:=hT.t.m.more (m:=m) hn;obtain⟨v',w9,h5,h6⟩:=yf2 (w8.alloc (vO x)) w8.heap.size x (Az w8 #[.int .i64 x.k,.int .i64 x.n,.float .f64 x.f,.string x.s,.int .i64 x.r] 61);have g9:Gx (fun k=>k=Q) (w8.alloc (vO x)) w9:=(Gx.grown h6).mono (fun k e=>nomatch e);have ga:Gx (fun k=>k=Q) w8 (w8.alloc (vO x)):=Gx.below _ (q01 _ _);have hq:w9.heap[Q]?=w8.heap[Q]?:=(h6.block Q (by have:=h2.lt;simp;omega) (by simp)).trans ((q01 w8 (vO x)).block Q h2.lt);obtain⟨w10,h7,h8,h9⟩:=h4 w9 v' hq;exact⟨st,w8,v',w9,w10,h1,h5,h7,hT.trans (Rp.wait hT.t (((h3.trans ga (fun _ _ e=>e)).trans g9 (fun _ _ e=>e)).trans h9 (fun _ _ e=>e)) h8)⟩
end
theorem j33(zs:Array Value)(k:Nat):(Builtin.zeroCells zs k).toList.length=k*zs.size:=by simp[Builtin.zeroCells]
theorem j32(zs:Array Value)(k:Nat)(h:∀v∈zs.toList,v.oneCell'=true):∀v∈(Builtin.zeroCells zs k).toList,v.oneCell'=true:=fun v hv=>by
 simp only[Builtin.zeroCells,Array.toList_map,List.mem_map] at hv;obtain⟨i,hi,rfl⟩:=hv;have hi':i<k*zs.size:=by simpa using hi
 have hz:0<zs.size:=by
  rcases Nat.eq_zero_or_pos zs.size with e|e
  ·rw[e] at hi';omega
  ·exact e
 have hm:=Nat.mod_lt i hz;rw[getElem!_pos zs (i%zs.size) hm];exact h _ (by simp)
theorem ZH{w:World}{N K n m cap g:Nat}{E T:TypeId}{xs:List Value}{zs:Array Value}{z:Value}(h:w.ownsRow N E K (.slice (some ⟨g,0,none⟩) n cap) n xs)(hm:m<n)(hT:Tryz.prog.underlying T=some (.slice E))(hz:∀w,(zeroValue E).run Tryz.prog w=.ok z w)(hzc:z.cells=zs)(hzs:zs.size=K)(h1:∀v∈zs.toList,v.oneCell'=true):∃w',(∀ty c,(Builtin.clear_ #[T] ty #[.slice (some ⟨g,m*K,none⟩) (n-m) c]).run Tryz.prog w=.ok (.tuple #[]) w')/\w'.ownsRow N E K (.slice (some ⟨g,0,none⟩) m cap) m (xs.take (m*K))/\w.grownBy w' (some g):=by
 obtain⟨hl,h2⟩:=h;rcases h2 with⟨h2,_⟩|⟨g',cap',cur,e,h3,hh,h4,h5,h6,h7⟩
 ·cases h2
 ·cases e;obtain⟨k,hk⟩:∃k,n-m=k+1:=⟨n-m - 1,by omega⟩;have hlz:(Builtin.zeroCells zs (n-m)).toList.length=(n-m)*K:=by rw[j33,hzs]
  have hmul:m*K+(n-m)*K=n*K:=by rw[<-Nat.add_mul,Nat.add_sub_cancel' (Nat.le_of_lt hm)]
  have gy:n*K<=cap*K:=dQ _ h4;obtain⟨c1,a1,a2,a3,a4⟩:=qg9 g E (Builtin.zeroCells zs (n-m)).toList (m*K) w cur hh (by rw[hlz,h6];omega);refine⟨w.setCells g (m*K) (Builtin.zeroCells zs (n-m)).toList,fun ty c=>?_,⟨?_,.inr ⟨g,cap,c1,rfl,h3,a1,by omega,h5,by rw[a2,h6],?_⟩⟩,qk6 g _ _ _⟩
  ·have hst:=run_storeCells_cells (P:=Tryz.prog) g (m*K) (Builtin.zeroCells zs (n-m)).toList 0 w (fun j hj=>by
    rw[hlz] at hj;simp only[World.cell?,hh];simp;rw[h6];omega) (fun j hj=>by simp[World.frozen?,hh]) (j32 zs _ h1)
   simp only[Nat.add_zero] at hst;rw[hk] at hst ⊢;simp[Builtin.clear_,dn hT,hz,hzc,hst]
  ·rw[dG,hl];have:m*K<=n*K:=dQ _ (by omega);omega
  ·rw[<-h7,List.take_take];have hmn:m*K<=n*K:=dQ _ (by omega);rw[dL hmn];apply List.ext_getElem?;intro j;rw[List.getElem?_take,List.getElem?_take];by_cases hj:j<m*K
   ·rw[aO hj,aO hj,dO,dO,a3 j (.inl hj)]
   ·rw[au hj,au hj]
abbrev Rw(B:Nat):Value:=.func (.func 416) #[] #[.pointer (some ⟨B,0,none⟩)]
def Fj(n m B:Nat)(q:Nat->PD)(w:World):Prop:=∀i,i<n->∀w',gZ w w'->Calls Tryz.prog 416 #[uS (q i),.pointer (some ⟨B,0,none⟩)] w' fun e w''=>e=.returned (.bool (decide (m<=i)))/\gZ w' w''
theorem z04(a:Option Addr)(n cap m B:Nat)(q:Nat->PD)(w:World)(hT:Tab w a n q)(hm:m<=n)(hn:n<=500)(hd:Fj n m B q w):Calls Tryz.prog 431 #[.slice a n cap,Rw B] w fun e w'=>e=.returned (.int .i64 (if m<n then(m:Int) else -1))/\gZ w w':=by
 have HT:Hid (Tab w a n q):=hT;have HD:Hid (Fj n m B q w):=hd;go_in;go_wp2_with fail
 go_loopw [8] (fun i wr=>∃(k:Nat),k<=m/\i=.int .i64 k/\Hid (gZ w wr)) (fun i _=>n-(intOf i).toNat)
 case atStart=>exact⟨0,aF _,rfl,ay _ _⟩
 case round=>
  obtain⟨k,hk,rfl,HB⟩:=hrel;by_cases fE:k<n
  ·obtain⟨g,off,rfl,hgl,vw⟩:=(HT.below HB.out).c11 fE;have HC:Hid (∀w',gZ w w'->Calls Tryz.prog 416 #[uS (q k),.pointer (some ⟨B,0,none⟩)] w' fun e w''=>e=.returned (.bool (decide (m<=k)))/\gZ w' w''):=HD.out k fE;generalize q k=p at vw HC;obtain⟨c0,c1,c2',c3,xH,c5,c6,c7,c8,c9,c10⟩:=vw;have i0:(0:Int)<=(k:Int):=aS _;have i1:(k:Int)<(n:Int):=by omega
   go_wp2_with fail;refine(HC wr HB).mono ?_;rintro e w2 ⟨rfl,eG⟩;have fD:Hid (gZ w w2):=iq HB.out eG;by_cases hkm:m<=k
   ·obtain rfl:k=m:=by omega
    rw[bJ (ah k)];go_wp2_with fail;go_ret;exact⟨rfl,fD⟩
   ·rw[bP hkm];go_wp2_with fail;go_roundw
    case rel=>exact⟨k+1,by omega,by go_num,fD⟩
    case measure=>simp[intOf];omega
  ·obtain rfl:k=n:=by omega
   have e0:((k:Int)<(k:Int))=False:=by simp
   go_wp2_with fail;go_ret;exact⟨by first|rfl|rw[au (by omega)],HB.out⟩
theorem zj2(q:Nat->PD)(n m:Nat)(h:m<=n):(cellsOf q n).take (m*11)=cellsOf q m:=by
 unfold cellsOf;rw[<-List.map_take,List.take_range,dL (dQ _ h)]
theorem z10(N:Nat)(a:Option Addr)(n cap m B:Nat)(q:Nat->PD)(w:World)(ho:w.ownsRow N 278 11 (.slice a n cap) n (cellsOf q n))(hm:m<=n)(hn:n<=500)(hd:Fj n m B q w):Calls Tryz.prog 415 #[.slice a n cap,Rw B] w fun e w'=>e=.returned (.slice a m cap)/\w'.ownsRow N 278 11 (.slice a m cap) m (cellsOf q m)/\Gx (fun k=>ig a=some k) w w':=by
 have HI:Hid (Calls Tryz.prog 431 #[.slice a n cap,Rw B] w fun e w'=>e=.returned (.int .i64 (if m<n then(m:Int) else -1))/\gZ w w'):=z04 a n cap m B q w (NC ho) hm hn hd;have HO:Hid (w.ownsRow N 278 11 (.slice a n cap) n (cellsOf q n)):=ho;have HD:Hid (Fj n m B q w):=hd;by_cases hmn:m<n
 ·rw[aO hmn] at HI;rcases ho.2 with⟨_,h0⟩|⟨g,cap',cur,e,h3,hh,h4,h5,h6,h7⟩
  ·omega
  ·cases e;have Tz:((m:Int) == -1)=false:=by simp
   have hmx:cap<=9223372036854775807:=by unfold maxLen at h5;omega
   go_in;go_wp2_with fail;refine HI.mono ?_;rintro e w1 ⟨rfl,eu⟩;have fB:Hid (gZ w w1):=eu;go_wp2_with fail
   go_loopw [5,6] (fun j i wr=>j=.int .i64 (m:Int)/\∃(k:Nat),m<k/\k<=n/\i=.int .i64 k/\Hid (gZ w wr)) (fun _ i _=>n-(intOf i).toNat)
   case atStart=>exact⟨rfl,m+1,by omega,by omega,by go_num,fB⟩
   case round=>
    obtain⟨rfl,k,hk,hk2,rfl,HB⟩:=hrel;by_cases fE:k<n
    ·obtain⟨g',off,e',hgl,vw⟩:=((NC HO.out).below HB.out).c11 fE
     cases e';have HC:Hid (∀w',gZ w w'->Calls Tryz.prog 416 #[uS (q k),.pointer (some ⟨B,0,none⟩)] w' fun e w''=>e=.returned (.bool (decide (m<=k)))/\gZ w' w''):=HD.out k fE;rw[bJ (show m<=k by omega)] at HC;generalize q k=p at vw HC;simp only[Nat.zero_add] at vw;obtain⟨c0,c1,c2',c3,xH,c5,c6,c7,c8,c9,c10⟩:=vw;have i0:(0:Int)<=(k:Int):=aS _;have i1:(k:Int)<(n:Int):=by omega
     go_wp2_with fail;refine(HC _ (iq HB (q01 _ _))).mono ?_;rintro e w2 ⟨rfl,eG⟩;have fD:Hid (gZ w w2):=iq HB.out (iq (q01 _ _) eG);go_wp2_with fail;go_roundw
     case rel=>exact⟨rfl,k+1,by omega,by omega,by go_num,fD⟩
     case measure=>simp[intOf];omega
    ·obtain rfl:k=n:=by omega
     have e0:((k:Int)<(k:Int))=False:=by simp
     have hor:wr.ownsRow N 278 11 (.slice (some ⟨g,0,none⟩) k cap) k (cellsOf q k):=nY HO.out (fun j e=>HB.block j (HO.lt j e).2);obtain⟨w5,hcl,yu,hg5⟩:=ZH (T:=241) (zs:=jb1) hor hmn Tryz.underlying241 (fun w=>Tryz.zeroValue278 w) rfl rfl (by simp[Value.oneCell']);have HF:Hid (w5.ownsRow N 278 11 (.slice (some ⟨g,0,none⟩) m cap) m (cellsOf q m)/\Gx (fun k=>ig (some (⟨g,0,none⟩:Addr))=some k) w w5):=by
      rw[zj2 q k m (by omega)] at yu;exact⟨yu,(Gx.below _ HB).trans (Gx.grown hg5) (fun _ _ e=>e)⟩
     have i0:(0:Int)<=(m:Int):=aS _;have i1:(m:Int)<=(k:Int):=by omega
     have i2:(m:Int)<=(cap:Int):=by omega
     have hcm:(cap=m)=False:=by simp;omega
     go_wp2_with fail;go_ret;exact⟨rfl,HF⟩
 ·obtain rfl:m=n:=by omega
  rw[au (dF m)] at HI;go_in;go_wp2_with fail;refine HI.mono ?_;rintro e w1 ⟨rfl,eu⟩;have fB:Hid (gZ w w1):=eu;go_wp2_with fail;go_ret;exact⟨rfl,nY HO (fun j e=>fB.block j (HO.lt j e).2),Gx.below _ fB⟩
abbrev J8(b1 b2 b3:Nat):Value:=.func (.func 387) #[] #[.pointer (some ⟨b1,0,none⟩),.pointer (some ⟨b2,0,none⟩),.pointer (some ⟨b3,0,none⟩)]
theorem zn6(b1 b2 b3:Nat)(p:PD)(w:World)(h1:w.cell? ⟨b1,0,none⟩=some (.bool false))(h3:w.cell? ⟨b3,0,none⟩=some (.bool false))(l1:b1<w.heap.size)(l3:b3<w.heap.size):Calls Tryz.prog 387 #[uS p,.pointer (some ⟨b1,0,none⟩),.pointer (some ⟨b2,0,none⟩),.pointer (some ⟨b3,0,none⟩)] w fun e w'=>e=.returned (.bool true)/\gZ w w':=by
 go_in;go_wp2_with fail;go_ret;exact⟨rfl,q01 _ _⟩
theorem zn5(b1 b2 b3 R:Nat)(kb:Bool)(p:PD)(w:World)(h1:w.cell? ⟨b1,0,none⟩=some (.bool true))(h2:w.cell? ⟨b2,0,none⟩=some (ptr R))(h3:w.cell? ⟨b3,0,none⟩=some (.bool false))(l1:b1<w.heap.size)(l2:b2<w.heap.size)(l3:b3<w.heap.size)(hH:∀w',gZ w w'->Calls Tryz.prog 362 #[ptr R,iJ p.key.k p.key.n p.key.f p.key.s p.key.r] w' fun e w''=>e=.returned (.bool kb)/\gZ w' w''):Calls Tryz.prog 387 #[uS p,.pointer (some ⟨b1,0,none⟩),.pointer (some ⟨b2,0,none⟩),.pointer (some ⟨b3,0,none⟩)] w fun e w'=>e=.returned (.bool kb)/\gZ w w':=by
 have HH:Hid (∀w',gZ w w'->Calls Tryz.prog 362 #[ptr R,iJ p.key.k p.key.n p.key.f p.key.s p.key.r] w' fun e w''=>e=.returned (.bool kb)/\gZ w' w''):=hH;go_in;go_wp2_with fail;refine(HH _ (q01 _ _)).mono ?_;rintro e w1 ⟨rfl,eu⟩;have fB:Hid (gZ w w1):=iq (q01 _ _) eu;have c3:w1.cell? ⟨b3,0,none⟩=some (.bool false):=(fB.cell (p:=⟨b3,0,none⟩) l3).trans h3;have k3:b3<w1.heap.size:=aH l3 fB.size
 cases kb;all_goals go_wp2_with fail
 all_goals go_ret
 all_goals exact⟨rfl,fB.out⟩
theorem zo2(B b1 b2 b3:Nat)(s:Bool)(p:PD)(w:World)(h1:w.cell? ⟨B,0,none⟩=some (J8 b1 b2 b3))(l1:B<w.heap.size)(hH:∀w',gZ w w'->Calls Tryz.prog 387 #[uS p,.pointer (some ⟨b1,0,none⟩),.pointer (some ⟨b2,0,none⟩),.pointer (some ⟨b3,0,none⟩)] w' fun e w''=>e=.returned (.bool s)/\gZ w' w''):Calls Tryz.prog 416 #[uS p,.pointer (some ⟨B,0,none⟩)] w fun e w'=>e=.returned (.bool (!s))/\gZ w w':=by
 have HH:Hid (∀w',gZ w w'->Calls Tryz.prog 387 #[uS p,.pointer (some ⟨b1,0,none⟩),.pointer (some ⟨b2,0,none⟩),.pointer (some ⟨b3,0,none⟩)] w' fun e w''=>e=.returned (.bool s)/\gZ w' w''):=hH;go_in;go_wp2_with fail;refine(HH _ (q01 _ _)).mono ?_;rintro e w1 ⟨rfl,eu⟩;have fB:Hid (gZ w w1):=iq (q01 _ _) eu;go_wp2_with fail;go_ret;exact⟨rfl,fB⟩
def TS.cut(S:TS)(j m Bn:Nat):TS:={S with D:=fun i=>if i=j then⟨m,(S.D i).t,(S.D i).q⟩ else S.D i,B:=fun i=>if i=j then Bn else S.B i}
section
variable {N:Nat}{S:TS}{u w':World}{j m Bn:Nat}
theorem iU.cut(h:iU N S u)(hj:j<S.nt)(hm:m<=(S.D j).n)(hs:u.heap.size<=w'.heap.size)(hk:∀k,S.tb k->k≠S.K j->ig (S.a j)≠some k->w'.heap[k]?=u.heap[k]?)(hK:OwnB w' (S.K j) (rX (S.cut j m Bn) j))(hp:w'.ownsRow N 278 11 (.slice (S.a j) m (S.c j)) m (cellsOf (S.D j).q m))(hM:iZ w' Bn (places (S.D j).q m)/\N<=Bn)(hB:Bn=S.B j\/u.heap.size<=Bn):iU N (S.cut j m Bn) w':=by
 have nKj:∀i,i<S.nt->i≠j->S.K i≠S.K j:=fun i hi hne e=>hne (h.ki i j hi hj e);have gJ:∀{t:TypeId} {n c x:Nat} {a:Option Addr} {xs:List Value},u.ownsRow N t 1 (.slice a n c) x xs->t≠278->(∀k,ig a=some k->S.tb k/\k≠S.K j)->w'.ownsRow N t 1 (.slice a n c) x xs:=fun ho ht hr=>nY ho fun k e=>by
  have e':=(jg _ _ _).symm.trans e;exact hk k (hr k e').1 (hr k e').2 (fun c=>qP (h.p j hj) ho (bK ht) c e')
 refine⟨gJ h.r (by decide) (fun k e=>⟨.inr (.inl e),fun c=>(h.kr j hj).1 (by rw[<-c];exact e)⟩),gJ h.l (by decide) (fun k e=>⟨.inr (.inr e),fun c=>(h.kr j hj).2 (by rw[<-c];exact e)⟩),h.rl,fun i hi=>?_,fun i hi=>?_,fun i hi=>?_,h.ki,fun i i' hi hi' e=>?_,h.pi,h.kp,h.kr,fun i hi=>?_⟩
 ·by_cases e:i=j
  ·subst e;exact⟨hK,(h.k i hi).2⟩
  ·refine⟨?_,(h.k i hi).2⟩;have:=(h.k i hi).1.block hs (hk _ (.inl ⟨i,hi,.inl rfl⟩) (nKj i hi e) (h.kp j i hj hi));simp only[TS.cut,rX,au e];exact this
 ·by_cases e:i=j
  ·subst e;simp only[TS.cut,if_true];exact hM
  ·simp only[TS.cut,au e];refine⟨Gn (h.m i hi).1 (hk _ (.inl ⟨i,hi,.inr (.inl rfl)⟩) (fun c=>?_) (fun c=>?_)),(h.m i hi).2⟩
   ·obtain⟨es,cc,hm',_⟩:=(h.m i hi).1;have hc:=(h.k j hj).1.1.cell 0 rfl;rw[<-c] at hc;simp[World.cell?,hm'] at hc
   ·obtain⟨es,cc,hm',_⟩:=(h.m i hi).1;obtain⟨A,fr,hA⟩:=lJ (h.p j hj) c;rw[hm'] at hA
    cases hA
 ·by_cases e:i=j
  ·subst e;simp only[TS.cut,if_true];exact hp
  ·simp only[TS.cut,au e];refine nY (h.p i hi) fun k ek=>?_;have e':=(jg _ _ _).symm.trans ek;exact hk k (.inl ⟨i,hi,.inr (.inr e')⟩) (fun c=>h.kp i j hi hj (by rw[<-c];exact e')) (h.pi i j hi hj e k e')
 ·simp only[TS.cut] at e;have hb:∀i,i<S.nt->S.B i<u.heap.size:=fun i hi=>(h.m i hi).1.lt;by_cases c:i=j
  ·by_cases c':i'=j
   ·omega
   ·rw[aO c,au c'] at e;rcases hB with hB|hB
    ·rw[hB] at e;have:=h.bi j i' hj hi' e;omega
    ·have:=hb i' hi';omega
  ·by_cases c':i'=j
   ·rw[au c,aO c'] at e;rcases hB with hB|hB
    ·rw[hB] at e;have:=h.bi i j hi hj e;omega
    ·have:=hb i hi;omega
   ·rw[au c,au c'] at e;exact h.bi i i' hi hi' e
 ·by_cases e:i=j
  ·subst e;simp only[TS.cut,if_true];have:=h.ok i hi;exact⟨by have:=this.nn;omega,this.t0,this.t1,fun x hx=>this.row x (by omega),fun x y hy hx=>this.key x y hy (by omega)⟩
  ·simp only[TS.cut,au e];exact h.ok i hi
end
end
end Go.Proofs.YthnkncpegihbhaaGreatDoor
