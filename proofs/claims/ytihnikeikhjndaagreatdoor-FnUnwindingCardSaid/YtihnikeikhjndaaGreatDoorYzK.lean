import Derived.Test.YtihnikeikhjndaaGreatDoorYzJ
import Derived.Test.YtihnikeikhjndaaGreatDoorYnW
set_option maxRecDepth 100000
set_option maxHeartbeats 16000000
namespace Go.Proofs.YtihnikeikhjndaaGreatDoor
section
open Go.RowKit
structure Yj where
 gq:Value
 cls:Value
 df:Value
 fM:Nat
 sin:Nat
 tb:Nat->Prop
 TP:World->Prop
def DP.qm(p:DP)(t:Value)(v:Yj):DP:={p with tab:=t,gq:=v.gq,cls:=v.cls,df:=v.df,fM:=v.fM,sin:=v.sin,tb:=v.tb,TP:=v.TP}
structure Ek where
 tb:Bool
 cd:Int
 dg:UInt8
 l:Int
 s:ByteArray
abbrev VF:VD:=⟨5,0,0,⟨#[]⟩,0⟩
abbrev fE(s:ByteArray):VD:=⟨4,0,0,s,0⟩
def Ek.v(k:Ek):VD:=bif k.tb then VF else fE k.s
structure Ek.ok(k:Ek):Prop where
 c:bA (bI k.cd)=⟨#[k.dg]⟩/\dU k.cd
 s:k.s.size<=1000
abbrev Ea(v:VD)(tr:ByteArray):Array Value:=#[.int .i64 v.k,.int .i64 v.n,.float .f64 v.f,.string v.s,.int .i64 v.r,.string tr]
structure dZ(X:RX)(N0:Nat)(k:Ek)(tr:ByteArray)(q:DP)(E:Nat)(d:MD)(w:World):Prop where
 p:∃t v,d.p=q.qm t v
 e:fB X d w E (Ea k.v tr)
 n:N0<=E
 t:k.tb=true->∃N K t1 c1,N0<=N/\d.tab=.slice (some ⟨t1,0,none⟩) 1 c1/\qX X d w N E K t1 k.cd k.l tr
theorem dZ.mono{X:RX}{N0 N1:Nat}{k:Ek}{tr:ByteArray}{q:DP}{E:Nat}{d:MD}{w:World}(h:dZ X N0 k tr q E d w)(hN:N1<=N0):dZ X N1 k tr q E d w:=
 ⟨h.p,h.e,Nat.le_trans hN h.n,fun c=>by obtain⟨N,K,t1,c1,a,b⟩:=h.t c;exact⟨N,K,t1,c1,Nat.le_trans hN a,b⟩⟩
theorem dZ.step{X:RX}{N0:Nat}{k:Ek}{tr:ByteArray}{q q':DP}{E:Nat}{d d':MD}{w w':World}(h:dZ X N0 k tr q E d w)(s:Sp X d w d' w')(e:∀t v,d.p=q.qm t v->∃v',d'.p=q'.qm t v'):dZ X N0 k tr q' E d' w':=by
 obtain⟨t,v,h1⟩:=h.p;obtain⟨v',h2⟩:=e t v h1;have h3:d'.tab=d.tab:=(congrArg DP.tab h2).trans (congrArg DP.tab h1).symm;exact⟨⟨t,v',h2⟩,h.e.step s,h.n,fun c=>by obtain⟨N,K,t1,c1,a,b,x⟩:=h.t c;exact⟨N,K,t1,c1,a,h3.trans b,x.step s⟩⟩
theorem dZ.held{X:RX}{N0:Nat}{k:Ek}{tr:ByteArray}{q:DP}{E:Nat}{d:MD}{w:World}(h:dZ X N0 k tr q E d w):d.held=q.held:=by
 obtain⟨t,v,h1⟩:=h.p;exact congrArg DP.held h1
theorem dZ.sc{X:RX}{N0:Nat}{k:Ek}{tr:ByteArray}{q:DP}{E:Nat}{d:MD}{w:World}(h:dZ X N0 k tr q E d w):d.sc=q.sc:=by
 obtain⟨t,v,h1⟩:=h.p;exact congrArg DP.sc h1
theorem dZ.recs{X:RX}{N0:Nat}{k:Ek}{tr:ByteArray}{q:DP}{E:Nat}{d:MD}{w:World}(h:dZ X N0 k tr q E d w):d.recs=q.recs:=by
 obtain⟨t,v,h1⟩:=h.p;exact congrArg DP.recs h1
theorem dZ.far{X:RX}{N0 B:Nat}{k:Ek}{tr:ByteArray}{q:DP}{E:Nat}{d:MD}{w w':World}(h:dZ X N0 k tr q E d w)(g:Gx (fun k=>k=B) w w')(hB:B<N0):dZ X N0 k tr q E d w':=
 ⟨h.p,⟨g.ownB h.e.1 (by have:=h.n;omega),h.e.2⟩,h.n,fun c=>by obtain⟨N,K,t1,c1,a,b,x⟩:=h.t c;exact⟨N,K,t1,c1,a,b,x.far g (by omega)⟩⟩
abbrev dW(E:Nat):Value:=.iface 118 (ptr E)
structure yP(X:RX)(N0:Nat)(P:MD->World->Prop):Prop where
 s:∀d w d' w',P d w->Sp X d w d' w'->d'.df=d.df->P d' w'
 f:∀d w w' B,P d w->Gx (fun k=>k=B) w w'->B<N0->P d w'
def iD(X:RX)(N0:Nat)(k:Ek)(tr:ByteArray)(q:DP)(P:MD->World->Prop)(E:Nat)(d':MD)(w':World):Prop:=dZ X N0 k tr q E d' w'/\P d' w'
def jw(X:RX)(N0:Nat)(k:Ek)(tr:ByteArray)(q:DP)(P:MD->World->Prop)(way:Value)(d':MD)(w':World):Prop:=∃E,way=dW E/\iD X N0 k tr q P E d' w'
theorem jw.ln{X:RX}{N0:Nat}{k:Ek}{tr:ByteArray}{q:DP}{P:MD->World->Prop}{way:Value}{l:Int}{d':MD}{w':World}(hP:yP X N0 P)(h:jX X l (jw X N0 k tr q P) way d' w'):jw X N0 k tr (q.ln l) P way d' w':=by
 obtain⟨d4,w4,⟨E,rfl,hT,hz⟩,s,e⟩:=h;exact⟨E,rfl,hT.step s (fun t v e4=>⟨v,by rw[e,e4];rfl⟩),hP.s _ _ _ _ hz s (congrArg DP.df e)⟩
theorem yP.true(X:RX)(N0:Nat):yP X N0 (fun _ _=>True):=⟨fun _ _ _ _ _ _ _=>trivial,fun _ _ _ _ _ _ _=>trivial⟩
theorem dZ.caught{X:RX}{d d1:MD}{u u3 w1:World}{N0 E wb m:Nat}{k:Ek}{tr:ByteArray}{q:DP}(h0:St X d u)(h3:Sp X d u d u3)(s:Sp X d u3 d1 w1)(hT:dZ X N0 k tr q E d1 w1)(hm:m<=q.held.length)(hwb:u.heap.size<=wb)(hwl:wb<u3.heap.size)(Xr:wb<N0)(hns:¬stB X d wb){P:MD->World->Prop}(hP:yP X N0 P)(p1:P d1 w1):Sp X d u {d1 with held:=d1.held.take m} ((w1.setCell ⟨wb,0,none⟩ (dW E)).setCell ⟨X.T,8,none⟩ (.slice d1.ha m d1.hc)).drew/\iD X N0 k tr (q.dX m) P E {d1 with held:=d1.held.take m} ((w1.setCell ⟨wb,0,none⟩ (dW E)).setCell ⟨X.T,8,none⟩ (.slice d1.ha m d1.hc)).drew:=by
 have hn1:¬stB X d1 wb:=fun c=>hns (s.mv wb hwl c);have hs2:Sp X d u d1 (w1.setCell ⟨wb,0,none⟩ (dW E)):=Sp.beside h0 (h3.trans s) (Gx.set _ _ _ _) hwb hn1;have hs3:=(Sp.dX hs2.s (m:=m) (by rw[hT.held];exact hm)).drew;exact⟨hs2.trans hs3,(hT.far (Gx.set w1 wb 0 (dW E)) Xr).step hs3 (fun t v e=>⟨v,by show d1.p.dX m=_;rw[e];rfl⟩),hP.s _ _ _ _ (hP.f _ _ _ _ p1 (Gx.set w1 wb 0 (dW E)) Xr) hs3 rfl⟩
theorem dZ.back{X X':RX}{d d':MD}{u w w':World}{N0 E:Nat}{k:Ek}{tr:ByteArray}{q q':DP}(t:Tr X d u X' d' w)(hs:dR X X')(h:St X (lY d d') w')(gx:Gx (fun k=>k=X.T) w w')(hT:dZ X' N0 k tr q E d' w)(hN:u.heap.size<=N0)(h0:St X d u)(hq:∀t v,d'.p=q.qm t v->∃v',(lY d d').p=q'.qm t v'):Sp X d u (lY d d') w'/\dZ X u.heap.size k tr q' E (lY d d') w':=by
 have BK:X'.T=X.T:=hs.T;have hM:X'.M=X.M:=hs.M;have hk:∀i,u.heap.size<=i->i<w.heap.size->¬stB X' d' i->w'.heap[i]?=w.heap[i]?/\¬stB X (lY d d') i:=fun i h1 h2 hn=>by
  refine⟨gx.block i h2 (fun e=>hn (.inr (.inl (by rw[BK];exact e)))),fun e=>?_⟩;have hlt:∀{k:Nat},stB X d k->k<u.heap.size:=fun e=>h0.lt e;rcases e with e|e|e|e|e|e|e|e|e
  ·exact hn (.inl (by rw[hM];exact e))
  ·exact hn (.inr (.inl (by rw[BK];exact e)))
  ·have:=hlt (k:=i) (.inr (.inr (.inl e)));omega
  ·have:=hlt (k:=i) (.inr (.inr (.inr (.inl e))));omega
  ·exact hn (.inr (.inr (.inr (.inr (.inl e)))))
  ·exact hn (.inr (.inr (.inr (.inr (.inr (.inl e))))))
  ·have:=hlt (k:=i) (.inr (.inr (.inr (.inr (.inr (.inr (.inl e)))))));omega
  ·exact hn (.inr (.inr (.inr (.inr (.inr (.inr (.inr (.inl e))))))))
  ·exact hn (stB.tb e)
 obtain⟨t0,v0,h1⟩:=hT.p;obtain⟨v',h2⟩:=hq t0 v0 h1;have h3:(lY d d').tab=d'.tab:=rfl;have hE:=hk E (Nat.le_trans hN hT.n) hT.e.1.1.1 hT.e.2;refine⟨⟨h,t.g.trans gx (fun k _ e=>.inr (.inl e)),fun k hk e=>?_⟩,⟨t0,v',h2⟩,⟨hT.e.1.block gx.size hE.1,hE.2⟩,Nat.le_trans hN hT.n,fun c=>?_⟩
 ·rcases e with e|e|e|e|e|e|e|e|e
  ·exact .inl e
  ·exact .inr (.inl e)
  ·exact .inr (.inr (.inl e))
  ·exact .inr (.inr (.inr (.inl e)))
  ·exact t.mv k hk (.inr (.inr (.inr (.inr (.inl e)))))
  ·exact t.mv k hk (.inr (.inr (.inr (.inr (.inr (.inl e))))))
  ·exact .inr (.inr (.inr (.inr (.inr (.inr (.inl e))))))
  ·exact t.mv k hk (.inr (.inr (.inr (.inr (.inr (.inr (.inr (.inl e))))))))
  ·exact t.mv k hk (stB.tb e)
 ·obtain⟨N,K,t1,c1,a,b,x⟩:=hT.t c;exact⟨N,K,t1,c1,Nat.le_trans hN a,b,x.keep gx.size fun i i1 i2 i3=>hk i (by omega) i2 i3⟩
theorem yg0{d d5:MD}{F nv fc:Nat}{fa:Option Addr}{rs:List eP}{n:Nat}(t:Value)(v:Yj)(e:d5.p=((dO d F nv fa fc).p.plus rs n).qm t v):∃v',(lY d d5).p=(d.p.plus rs n).qm t v':=by
 have h1:d5.recs=d.recs++rs:=congrArg DP.recs e;have h2:d5.ti=d.ti+n:=congrArg DP.ti e;have h3:d5.held=d.held:=congrArg DP.held e;have h4:d5.tab=t:=congrArg DP.tab e;exact⟨⟨d5.gq,d5.cls,d.df,d5.fM,d5.sin,d5.tb,d5.TP⟩,by simp[MD.p,DP.plus,DP.qm,h1,h2,h3,h4]⟩
abbrev J8(cd:Int)(dg:UInt8)(l:Int):Ek:=⟨true,cd,dg,l,⟨#[]⟩⟩
abbrev Fe(s:ByteArray):Ek:=⟨false,0,48,0,s⟩
theorem N8.thr{X:RX}{N0:Nat}{cd l:Int}{dg:UInt8}{tr:ByteArray}{q:DP}{E:Nat}{d:MD}{w:World}(h:N8 X N0 cd l tr q E d w):dZ X N0 (J8 cd dg l) tr q E d w:=by
 obtain⟨N,K,t1,c1,v,h0,h1,h2⟩:=h;exact⟨⟨_,⟨v,q.cls,q.df,q.fM,q.sin,q.tb,q.TP⟩,h1⟩,h2.e,Nat.le_trans h0 h2.eN,fun _=>⟨N,K,t1,c1,h0,congrArg DP.tab h1,h2⟩⟩
theorem Zf{X:RX}{N0:Nat}{k:Ek}{tr:ByteArray}{q:DP}{E:Nat}{d:MD}{w:World}(h:dZ X N0 k tr q E d w):w.cell? ⟨E,0,none⟩=some (.int .i64 k.v.k)/\w.cell? ⟨E,1,none⟩=some (.int .i64 k.v.n)/\w.cell? ⟨E,2,none⟩=some (.float .f64 k.v.f)/\w.cell? ⟨E,3,none⟩=some (.string k.v.s)/\w.cell? ⟨E,4,none⟩=some (.int .i64 k.v.r)/\w.cell? ⟨E,5,none⟩=some (.string tr):=
 ⟨h.e.1.1.cell 0 rfl,h.e.1.1.cell 1 rfl,h.e.1.1.cell 2 rfl,h.e.1.1.cell 3 rfl,h.e.1.1.cell 4 rfl,h.e.1.1.cell 5 rfl⟩
end
section
open Go.RowKit
attribute [local go_sem] aN
attribute [local go_sem ↓] Go.wp_at_zero Go.wp_at_succ
theorem z00(E:Nat)(w:World):(Instr.typeAssert (dW E) 20 118 true).run Tryz.prog w=.ok (.tuple #[ptr E,.bool true]) w:=by kernel_rfl
theorem z41(E:Nat)(u:World):Calls Tryz.prog 151 #[dW E] u fun e w'=>e=.returned (dW E)/\w'=u:=by
 have h1:=z00 E;go_in;go_wp2_with fail;go_ret;exact⟨rfl,rfl⟩
abbrev VA(E:Nat):List PanicEntry:=[{v:=.iface 118 (ptr E),recovered:=true}]
theorem y00(E wb tb hb T m n:Nat)(ha:Option Addr)(hc:Nat)(w:World)(hif:(if hc=0 then ha else ha.map (fun x=>x.add 0))=ha)(hmn:m<=n)(hnc:n<=hc)(c1:w.cell? ⟨wb,0,none⟩=some .nilIface)(z1:∀o,w.frozen? ⟨wb,o,none⟩=false)(c2:w.cell? ⟨tb,0,none⟩=some (ptr T))(c3:w.cell? ⟨hb,0,none⟩=some (.int .i64 (m:Int)))(c4:w.cell? ⟨T,8,none⟩=some (.slice ha n hc))(z4:∀o,w.frozen? ⟨T,o,none⟩=false)(n1:wb≠tb)(n2:wb≠hb)(n3:wb≠T):CallsD Tryz.prog 150 #[ptr wb,ptr tb,ptr hb] (.panicking (lQ E)) w fun e u' w'=>e=.returned (.tuple #[])/\u'=.panicking (VA E)/\w'=((w.setCell ⟨wb,0,none⟩ (dW E)).setCell ⟨T,8,none⟩ (.slice ha m hc)).drew:=by
 have hif1:=hif;have hm0:¬(m:Int)<0:=by omega
 have hmc:m<=hc:=by omega
 refine callsD_of_wpS Tryz.func150 rfl fun c₀ cs hu=>?_;apply wpS_seq;apply wpS_region;simp[wpOpsS,go_sem,recoverD,hu,Tryz.ntmps150,Exit.thenS];apply wpS_seq;apply wpS_region;simp[wpOpsS,go_sem,Exit.thenS,Act.eval,Array.replicate];refine wpS_cond (t:=true) (by simp[Act.eval]) ?_;simp only[if_true];refine wpS_of_wp ?_;refine wp_mono (Q:=fun e a w'=>e=.normal/\a.defers=[]/\w'=((w.setCell ⟨wb,0,none⟩ (dW E)).setCell ⟨T,8,none⟩ (.slice ha m hc)).drew) ?wk ?go
 case go=>
  rintro e a w' ⟨rfl,hd,rfl⟩
  cases c₀;simp_all [bodyPostS,results,Tryz.results150]
 clear hmn hnc;go_wp2_with fail;refine(z41 E _).mono ?_;rintro e w1 ⟨rfl,rfl⟩;go_wp2_with fail
 go_region_with fail
 all_goals exact⟨rfl,rfl,rfl⟩
theorem St.IB{X:RX}{d:MD}{u:World}(h:St X d u):d.held.length<=d.hc/\(d.ha=none\/∃g,d.ha=some ⟨g,0,none⟩):=by
 rcases h.hr.2 with⟨e,h0⟩|⟨g,cap,cur,e,_,_,h5,_⟩
 ·obtain⟨e1,e2,e3⟩:d.ha=none/\d.held.length=0/\d.hc=0:=by simpa using e
  exact⟨by omega,.inl e1⟩
 ·obtain⟨e1,e3⟩:d.ha=some ⟨g,0,none⟩/\d.hc=cap:=by simpa using e
  exact⟨by omega,.inr ⟨g,e1⟩⟩
theorem zb6(X:RX)(d:MD)(F:Nat)(cs:Array Value)(k:Ek)(tr:ByteArray)(q:DP)(P:MD->World->Prop)(u:World)(h:St X d u)(hE:Au F)(hP:yP X (u.heap.size+3) P)(hq:d.held.length<=q.held.length)(hrun:∀w2,Sp X d u d w2->w2.heap.size=u.heap.size+3->Calls Tryz.prog F cs w2 fun e w'=>bG X d w2 (iD X (u.heap.size+3) k tr q P) e w'):Calls Tryz.prog 90 #[ptr X.T,jA F cs] u fun e w'=>gG X d u (jw X (u.heap.size+3) k tr (q.dX d.held.length) P) e w':=by
 have HS:Hid (St X d u):=h;unfold Au at hE;have HPs:Hid (yP X (u.heap.size+3) P):=hP;have HQ:Hid (d.held.length<=q.held.length):=hq;have jZ:Hid (∀w2,Sp X d u d w2->w2.heap.size=u.heap.size+3->Calls Tryz.prog F cs w2 fun e w'=>bG X d w2 (iD X (u.heap.size+3) k tr q P) e w'):=hrun;have t8:u.cell? ⟨X.T,8,none⟩=some (.slice d.ha d.held.length d.hc):=h.t.1.cell 8 rfl;have hTl:=h.t.1.1;obtain⟨m,hm⟩:∃m,d.held.length=m:=⟨_,rfl⟩;have YE:Hid (d.held.length=m):=hm;rw[hm] at t8;rw[hm];clear h hq hrun hm hP;have hmf:=Dc
 go_enter_defers Tryz.func90,Tryz.ntmps90
 go_wp2_with fail;have Fp:Hid (Sp X d u d (((u.alloc (.cells #[ptr X.T] 64)).alloc (.cells #[.nilIface] 128)).alloc (.cells #[.int .i64 (m:Int)] 3))):=(((Sp.refl HS.out).alloc _).alloc _).alloc _;clear hE;refine(jZ.out _ Fp.out (by simp)).mono ?_;rintro e w1 ⟨E,d1,rfl,hs1,hr1,hz1⟩;obtain⟨E0,hE0⟩:∃E0,u.heap.size=E0:=⟨_,rfl⟩;obtain⟨u3,hu3⟩:∃u3,((u.alloc (.cells #[ptr X.T] 64)).alloc (.cells #[.nilIface] 128)).alloc (.cells #[.int .i64 (m:Int)] 3)=u3:=⟨_,rfl⟩;rw[hu3] at hs1;have HB:Hid (Sp X d u d u3/\u3.heap.size=E0+3/\Bx X d u3 E0 #[ptr X.T]/\fB X d u3 (E0+1) #[.nilIface]/\Bx X d u3 (E0+1 + 1) #[.int .i64 (m:Int)]):=by
  have k1:=Bx.new HS.out #[ptr X.T] 64;have k2:=fB.new (HS.alloc (.cells #[ptr X.T] 64)) #[.nilIface] 128;have k3:=Bx.new ((HS.alloc (.cells #[ptr X.T] 64)).alloc (.cells #[.nilIface] 128)) #[.int .i64 (m:Int)] 3;rw[World.size_alloc] at k2;rw[World.size_alloc,World.size_alloc] at k3;rw[<-hu3,<-hE0];exact⟨(((Sp.refl HS.out).alloc _).alloc _).alloc _,by simp,(k1.alloc _).alloc _,k2.alloc _,k3⟩
 have hEl:X.T<E0:=by rw[<-hE0];exact HS.t.1.1
 have Nz:Hid (u.heap.size=E0):=hE0;rw[hE0];rw[hE0] at hr1;have hc:=dZ.caught (wb:=E0+1) (m:=m) HS.out HB.1 hs1 hr1 (by have:=HQ.out;rw[YE.out] at this;exact this) (by have:=Nz.out;omega) (by have:=HB.2.1;omega) (by omega) HB.2.2.2.1.2 (P:=P) (by have:=HPs.out;rw[Nz.out] at this;exact this) hz1;have HP2:Hid (gG X d u (jw X (u.heap.size+3) k tr (q.dX m) P) (.returned (dW E)) ((w1.setCell ⟨E0+1,0,none⟩ (dW E)).setCell ⟨X.T,8,none⟩ (.slice d1.ha m d1.hc)).drew):=⟨_,_,rfl,hc.1,E,rfl,by rw[Nz.out];exact hc.2⟩;have hh1:m<=d1.held.length:=by
  rw[hr1.held,<-YE.out];exact HQ
 have kw:=HB.2.2.2.1.step hs1;have kt:=(HB.2.2.1.step hs1).cell 0 rfl;have kh:=(HB.2.2.2.2.step hs1).cell 0 rfl;have kT:w1.cell? ⟨X.T,8,none⟩=some (.slice d1.ha d1.held.length d1.hc):=hs1.s.t.1.cell 8 rfl;have kz:=hs1.s.t.2;have hcp:=hs1.s.IB;have HC:=y00 E (E0+1) E0 (E0+1 + 1) X.T m d1.held.length d1.ha d1.hc w1 (AY d1.ha (d1.hc=0) hcp.2) hh1 hcp.1 (kw.1.1.cell 0 rfl) kw.1.2 kt kh kT kz (by omega) (by omega) (by omega);have HCC:Hid (CallsD Tryz.prog 150 #[ptr (E0+1),ptr E0,ptr (E0+1 + 1)] (.panicking (lQ E)) w1 fun e u' w'=>e=.returned (.tuple #[])/\u'=.panicking (VA E)/\w'=((w1.setCell ⟨E0+1,0,none⟩ (dW E)).setCell ⟨X.T,8,none⟩ (.slice d1.ha m d1.hc)).drew):=HC;have hcw:=kw.1.1.cell 0 rfl;clear HC hc hs1 hr1 hz1 hh1 kw kt kh kT kz hcp HB hu3 hE0 t8 hTl Fp;go_wp2_with fail;refine leaves_cons (f:=150) (args:=#[ptr (E0+1),ptr E0,ptr (E0+1 + 1)]) (by simp) (by simp[go_sem]) ?_;refine HCC.mono ?_;rintro e u' w'' ⟨rfl,rfl,rfl⟩;have r0:((w1.setCell ⟨E0+1,0,none⟩ (dW E)).setCell ⟨X.T,8,none⟩ (.slice d1.ha m d1.hc)).drew.cell? ⟨E0+1,0,none⟩=some (dW E):=by
  have hne:X.T≠E0+1:=by omega
  show((w1.setCell ⟨E0+1,0,none⟩ (dW E)).setCell ⟨X.T,8,none⟩ (.slice d1.ha m d1.hc)).cell? ⟨E0+1,0,none⟩=_;rw[World.cell?_setCell_other _ _ _ _ (fun e=>hne (congrArg Addr.block e))];simp[go_sem,hcw]
 refine⟨_,?_,HP2⟩;simp[results,Tryz.results90,go_sem,r0]
theorem PK(X:RX)(d:MD)(F:Nat)(cs:Array Value)(k:Ek)(tr:ByteArray)(q:DP)(P:MD->World->Prop)(u:World)(h:St X d u)(hE:Au F)(hP:yP X (u.heap.size+3) P)(hq:d.held.length<=q.held.length)(hrun:∀w2,Sp X d u d w2->w2.heap.size=u.heap.size+3->Calls Tryz.prog F cs w2 fun e w'=>bG X d w2 (iD X (u.heap.size+3) k tr q P) e w'):Calls Tryz.prog 53 #[ptr X.F,jA F cs] u fun e w'=>gG X d u (jw X (u.heap.size+3) k tr ((q.dX d.held.length).ln d.line) P) e w':=by
 refine(PI X d (jA F cs) _ u h (zb6 X d F cs k tr q P u h hE hP hq hrun)).mono ?_;rintro e w' ⟨way,d',rfl,hs,hr⟩;exact⟨way,d',rfl,hs,jw.ln hP hr⟩
abbrev sErr:ByteArray:=⟨#[101,114,114,111,114]⟩
theorem zf4(E:Nat)(u:World)(hg:kJ u):Calls Tryz.prog 297 #[dW E] u fun e w'=>e=.returned (.string sErr)/\ah u w':=by
 have b0:ah u ((u.alloc (.cells #[.pointer none] 118)).alloc (.cells #[.pointer none] 246)):=(q01 u _).alloc (by simp) _;have HB0:Hid (ah u ((u.alloc (.cells #[.pointer none] 118)).alloc (.cells #[.pointer none] 246))):=b0;have HG:Hid (kJ ((u.alloc (.cells #[.pointer none] 118)).alloc (.cells #[.pointer none] 246))):=hg.keep b0 (Nat.le_refl _);have h1:Hid (OwnB ((u.alloc (.cells #[.pointer none] 118)).alloc (.cells #[.pointer none] 246)) u.heap.size #[.pointer none]):=(OwnB.new u _ _).call (q01 _ _);clear hg b0;go_in;go_wp2_with fail;refine(PE ⟨E,0,none⟩ ⟨u.heap.size,0,none⟩ (.pointer none) _ HG (h1.1.cell 0 rfl) (h1.2 0)).mono ?_;rintro e w1 ⟨rfl,w4,hb,rfl⟩;have HB1:Hid (ah u (w4.setCell ⟨u.heap.size,0,none⟩ (.pointer (some ⟨E,0,none⟩)))):=(HB0.trans (hb.mono HB0.size)).setCell (Nat.le_refl _) _;obtain⟨w5,hw5⟩:∃w5,w4.setCell ⟨u.heap.size,0,none⟩ (.pointer (some ⟨E,0,none⟩))=w5:=⟨_,rfl⟩;rw[hw5] at HB1;rw[hw5];clear hb hw5;go_wp2_with fail;go_ret;exact⟨rfl,HB1⟩
theorem zb4(E:Nat)(w:World):(Instr.typeAssert (dW E) 128 246 true).run Tryz.prog w=.ok (.tuple #[.pointer none,.bool false]) w:=by kernel_rfl
theorem qz8(E:Nat)(w:World):(Instr.typeAssert (dW E) 128 118 true).run Tryz.prog w=.ok (.tuple #[ptr E,.bool true]) w:=by kernel_rfl
theorem WV(E:Nat)(u:World):Calls Tryz.prog 97 #[dW E] u fun e w'=>e=.panicked (lQ E)/\w'=u:=by
 have h1:=qz8 E;have h2:=zb4 E;go_in;go_wp2_with fail;simp[bodyPost]
theorem qq4(E:Nat)(u:World):Calls Tryz.prog 57 #[dW E] u fun e w'=>e=.panicked (lQ E)/\ah u w':=by
 go_in;go_wp2_with fail;refine(WV E _).mono ?_;rintro e w1 ⟨rfl,rfl⟩;go_wp2_with fail;simp[bodyPost];exact q01 _ _
theorem DP.uF(p:DP)(rs:List eP)(t:Nat)(L:Int):((((p.plus rs t).ln L).dX p.held.length).ln p.line)=p.plus rs t:=by
 simp[DP.plus,DP.ln,DP.dX]
abbrev uq(a b:Nat):Value:=.func (.func 189) #[] #[ptr a,ptr b]
abbrev Q5(x1 x2 x3:Nat):Value:=.func (.func 296) #[] #[ptr x1,ptr x2,ptr x3]
theorem z84(X:RX)(d:MD)(j:Nat)(R:Nat->MD->World->Prop)(u:World)(h:St X d u)(ht:d.ti<X.tk)(hop:∀d1 w1,Sp X d u d1 w1->d1.p=d.p.tick->Calls Tryz.prog 249 #[ptr X.M,(jM j).v,.slice none 0 0] w1 fun e w'=>bG X d1 w1 R e w'):Calls Tryz.prog 200 #[ptr X.M,(jM j).v,.slice none 0 0] u fun e w'=>bG X d u R e w':=by
 have HS:Hid (St X d u):=h;have HOp:Hid (∀d1 w1,Sp X d u d1 w1->d1.p=d.p.tick->Calls Tryz.prog 249 #[ptr X.M,(jM j).v,.slice none 0 0] w1 fun e w'=>bG X d1 w1 R e w'):=hop;clear h hop;go_in;go_wp2_with fail;obtain⟨w1,hw1⟩:∃w1,u.alloc (.cells (vA (jM j)) 53)=w1:=⟨_,rfl⟩;obtain⟨C,hC0⟩:∃C,u.heap.size=C:=⟨_,rfl⟩;have H1:Hid (Sp X d u d w1):=by rw[<-hw1];exact(Sp.refl HS).alloc _
 have HC:Hid (Bx X d w1 C (vA (jM j))):=by rw[<-hw1,<-hC0];exact Bx.new HS _ _
 rw[show u.alloc (.cells #[.int .i64 6,.int .i64 0,.float .f64 0,.string ⟨#[]⟩,.int .i64 (j:Int)] 53)=w1 from hw1,hC0];clear hw1 hC0
 go_loopw [2,7] (fun a i wr=>a=.slice none 0 0/\i=.int .i64 0/\wr=w1) (fun _ _ _=>0)
 case atStart=>exact⟨rfl,rfl,rfl⟩
 case round=>
  obtain⟨rfl,rfl,rfl⟩:=hrel;go_wp2_with fail;refine(Pz X d _ H1.s ht).mono ?_;rintro e w2 ⟨rfl,d2,hs2,e2⟩;have H2:Hid (Sp X d u d2 w2/\d2.p=d.p.tick):=⟨H1.trans hs2,e2⟩;have HC2:Hid (Bx X d2 w2 C (vA (jM j))):=HC.step hs2;clear hs2 e2 H1 HC;have c0:=HC2.cell 0 rfl;have c1:=HC2.cell 1 rfl;have c2:=HC2.cell 2 rfl;have c3:=HC2.cell 3 rfl;have c4:=HC2.cell 4 rfl;go_wp2_with fail;refine(HOp d2 w2 H2.1 H2.2).mono ?_;rintro e w3 ⟨E3,d3,rfl,hs3,hr3⟩;have HF:Hid (bG X d u R (.panicked (lQ E3)) w3):=⟨E3,d3,rfl,H2.1.trans hs3,hr3⟩;clear hs3 hr3 c0 c1 c2 c3 c4;go_wp2_with fail;simp[bodyPost];exact HF
theorem ZF(X:RX)(d:MD)(x1 x2 x3 C fn nf bo bc k1 k2:Nat)(R:Nat->MD->World->Prop)(u:World)(h:St X d u)(b1:Bx X d u x1 #[ptr X.M])(b2:Bx X d u x2 #[ptr C])(b3:Bx X d u x3 #[ptr X.F])(hC:Bx X d u C (cA (fn:Int)))(jK:X.jB=.slice (some ⟨bo,0,none⟩) nf bc)(hfn:fn<nf)(hb:Oo X bo fn (uq k1 k2))(hrun:∀w2,Sp X d u d w2->w2.heap.size=u.heap.size->Calls Tryz.prog 189 #[ptr X.F,ptr k1,ptr k2] w2 fun e w'=>bG X d w2 R e w'):Calls Tryz.prog 296 #[ptr x1,ptr x2,ptr x3] u fun e w'=>bG X d u R e w':=by
 have HS:Hid (St X d u):=h;have jZ:Hid (∀w2,Sp X d u d w2->w2.heap.size=u.heap.size->Calls Tryz.prog 189 #[ptr X.F,ptr k1,ptr k2] w2 fun e w'=>bG X d w2 R e w'):=hrun;have HK:Hid (∀d' w',Sp X d u d' w'->(w'.cell? ⟨x1,0,none⟩=some (ptr X.M)/\w'.cell? ⟨x2,0,none⟩=some (ptr C)/\w'.cell? ⟨x3,0,none⟩=some (ptr X.F)/\w'.cell? ⟨C,0,none⟩=some (.int .i64 (fn:Int))/\w'.cell? ⟨X.M,7,none⟩=some (.slice (some ⟨bo,0,none⟩) nf bc)/\w'.cell? ⟨bo,fn,none⟩=some (uq k1 k2))):=fun d' w' k=>⟨(b1.step k).cell 0 rfl,(b2.step k).cell 0 rfl,(b3.step k).cell 0 rfl,(hC.step k).cell 0 rfl,by rw[<-jK];exact k.s.m.1.cell 7 rfl,hb.at k.s⟩;have S0:=HK.out d _ (Sp.refl HS.out).drew;have hi0:(0:Int)<=(fn:Int):=Int.natCast_nonneg _;have hi1:(fn:Int)<(nf:Int):=by omega
 clear h b1 b2 b3 hC jK hfn hb hrun;go_in;go_wp2_with fail;refine wp_mono (Q:=fun e a w'=>a.defers=[]/\∃E3,e=.panic (lQ E3)/\bG X d u R (.panicked (lQ E3)) w') ?reg ?go
 case go=>
  rintro e a w' ⟨hd,E3,rfl,h3⟩;simp only[Exit.then];exact⟨hd,h3⟩
 refine wp_region_held_drew (S:=(fun w'=>w'.cell? ⟨x1,0,none⟩=some (ptr X.M)/\w'.cell? ⟨x2,0,none⟩=some (ptr C)/\w'.cell? ⟨x3,0,none⟩=some (ptr X.F)/\w'.cell? ⟨C,0,none⟩=some (.int .i64 (fn:Int))/\w'.cell? ⟨X.M,7,none⟩=some (.slice (some ⟨bo,0,none⟩) nf bc)/\w'.cell? ⟨bo,fn,none⟩=some (uq k1 k2))) (by kernel_rfl) S0 (fun ak=>?_);refine wpAnyH_take (i:=0) (oi:=⟨some 4,_,_,_,_,_⟩) (v:=?v13) rfl (by kernel_rfl) (by kernel_rfl) (by kernel_rfl) (fun _ _ _ h=>h) (Or.inl ⟨by rfl,?oz⟩) (by assumption) ?nZ
 case oz=>(intro wz hSw;(try dsimp only at hSw);go_simp<;>with_reducible rfl)
 try simp only[Act.put,aG,aF,aA]
 refine wpAnyH_take (i:=1) (oi:=⟨some 5,_,_,_,_,_⟩) (v:=?v14) rfl (by kernel_rfl) (by kernel_rfl) (by kernel_rfl) (fun _ _ _ h=>h) (Or.inl ⟨by rfl,?ou⟩) (by assumption) ?nY
 case ou=>(intro wz hSw;(try dsimp only at hSw);go_simp<;>with_reducible rfl)
 try simp only[Act.put,aG,aF,aA]
 refine wpAnyH_take (i:=2) (oi:=⟨some 6,_,_,_,_,_⟩) (v:=?v15) rfl (by kernel_rfl) (by kernel_rfl) (by kernel_rfl) (fun _ _ _ h=>h) (Or.inl ⟨by rfl,?rP⟩) (by assumption) ?rD
 case rP=>(intro wz hSw;(try dsimp only at hSw);go_simp<;>with_reducible rfl)
 try simp only[Act.put,aG,aF,aA]
 refine wpAnyH_take (i:=3) (oi:=⟨some 7,_,_,_,_,_⟩) (v:=?v16) rfl (by kernel_rfl) (by kernel_rfl) (by kernel_rfl) (fun _ _ _ h=>h) (Or.inl ⟨by rfl,?rO⟩) (by assumption) ?rC
 case rO=>(intro wz hSw;(try dsimp only at hSw);go_simp<;>with_reducible rfl)
 try simp only[Act.put,aG,aF,aA]
 refine wpAnyH_take (i:=4) (oi:=⟨some 8,_,_,_,_,_⟩) (v:=?v17) rfl (by kernel_rfl) (by kernel_rfl) (by kernel_rfl) (fun _ _ _ h=>h) (Or.inl ⟨by rfl,?wS⟩) (by assumption) ?vV
 case wS=>(intro wz hSw;(try dsimp only at hSw);go_simp<;>with_reducible rfl)
 try simp only[Act.put,aG,aF,aA]
 refine wpAnyH_take (i:=5) (oi:=⟨some 9,_,_,_,_,_⟩) (v:=?v18) rfl (by kernel_rfl) (by kernel_rfl) (by kernel_rfl) (fun _ _ _ h=>h) (Or.inl ⟨by rfl,?rM⟩) (by assumption) ?ru
 case rM=>(intro wz hSw;(try dsimp only at hSw);go_simp<;>with_reducible rfl)
 try simp only[Act.put,aG,aF,aA]
 refine wpAnyH_take (i:=6) (oi:=⟨some 10,_,_,_,_,_⟩) (v:=?v19) rfl (by kernel_rfl) (by kernel_rfl) (by kernel_rfl) (fun _ _ _ h=>h) (Or.inl ⟨by rfl,?wR⟩) (by assumption) ?vU
 case wR=>(intro wz hSw;(try dsimp only at hSw);go_simp<;>with_reducible rfl)
 try simp only[Act.put,aG,aF,aA]
 refine wpAnyH_take (i:=7) (oi:=⟨some 11,_,_,_,_,_⟩) (v:=?v20) rfl (by kernel_rfl) (by kernel_rfl) (by kernel_rfl) (fun _ _ _ h=>h) (Or.inl ⟨by rfl,?wQ⟩) (by assumption) ?vS
 case wQ=>(intro wz hSw;(try dsimp only at hSw);go_simp<;>with_reducible rfl)
 try simp only[Act.put,aG,aF,aA]
 refine wpAnyH_take (i:=8) (oi:=⟨some 12,_,_,_,_,_⟩) (v:=?v21) rfl (by kernel_rfl) (by kernel_rfl) (by kernel_rfl) (fun _ _ _ h=>h) (Or.inl ⟨by rfl,?wP⟩) (by assumption) ?vP
 case wP=>(intro wz hSw;(try dsimp only at hSw);go_simp<;>with_reducible rfl)
 try simp only[Act.put,aG,aF,aA]
 refine wpAnyH_take (i:=9) (oi:=⟨some 13,_,_,_,_,_⟩) (v:=?v22) rfl (by kernel_rfl) (by kernel_rfl) (by kernel_rfl) (fun _ _ _ h=>h) (Or.inl ⟨by rfl,?wO⟩) (by assumption) ?vO
 case wO=>(intro wz hSw;(try dsimp only at hSw);go_simp<;>with_reducible rfl)
 try simp only[Act.put,aG,aF,aA]
 refine wpAnyH_take (i:=10) (oi:=⟨some 14,_,_,_,_,_⟩) (v:=?v23) rfl (by kernel_rfl) (by kernel_rfl) (by kernel_rfl) (fun _ _ _ h=>h) (Or.inl ⟨by rfl,?wM⟩) (by assumption) ?vN
 case wM=>(intro wz hSw;(try dsimp only at hSw);go_simp<;>with_reducible rfl)
 try simp only[Act.put,aG,aF,aA]
 refine wpAnyH_ready (rs:=[11]) (by kernel_rfl) (by simp) ?_;refine AllReadyH.cons (o:=⟨some 15,_,_,_,_,_⟩) rfl (fun K hK=>?_) AllReadyH.nil;go_simp;refine(jZ _ (Sp.refl HS).drew rfl).mono ?_;rintro e w1 ⟨E1,d1,rfl,hs1,hr1⟩;exact⟨E1,rfl,E1,d1,rfl,(Sp.refl HS).drew.trans hs1,hr1⟩
theorem zq0(X:RX)(d:MD)(x1 b5 k1:Nat)(R:Nat->MD->World->Prop)(u:World)(h:St X d u)(h1:Od X x1 #[nN k1])(h5:Bx X d u b5 #[ptr X.F])(hrun:Calls Tryz.prog 170 #[ptr X.F,ptr k1] u fun e w'=>bG X d u R e w'):Calls Tryz.prog 219 #[ptr x1,ptr b5] u fun e w'=>bG X d u R e w':=by
 have jZ:Hid (Calls Tryz.prog 170 #[ptr X.F,ptr k1] u fun e w'=>bG X d u R e w'):=hrun;have c1:=(h1.at h).cell 0 rfl;have z1:=(h1.at h).1;have c5:=h5.cell 0 rfl;clear h h1 h5 hrun;go_in;go_wp2_with fail;refine jZ.mono ?_;rintro e w1 ⟨E1,d1,rfl,hs1,hr1⟩;have HF:Hid (bG X d u R (.panicked (lQ E1)) w1):=⟨E1,d1,rfl,hs1,hr1⟩;clear hs1 hr1 c1 z1 c5;go_wp2_with fail;simp[bodyPost];exact HF
theorem y40(X:RX)(d:MD)(fn nf ub uo uc nv vc bo bc k1 k2 C B R cc nc tt:Nat)(va:Option Addr)(nm:ByteArray)(fL:Int)(p1 q1:Option Addr)(p2 p3 q2 q3:Nat)(rs:List eP)(k:Ek)(L':Int)(tr:ByteArray)(u:World)(h:St X d u)(hE:qW X)(hU:UG X fn nf ub uo uc nv vc va nm fL (.slice p1 p2 p3) (.slice q1 q2 q3))(hfn:Bx X d u C (cA (fn:Int)))(hcls:d.cls=.slice (some ⟨R,0,none⟩) nc cc)(hBn:B<nc)(hcl:∀w,St X d w->w.cell? ⟨R,B,none⟩=some (ptr C))(xk:X.fl<X.dp)(hrec:d.recs.length+rs.length<4000)(nH:nv<=1000)(jK:X.jB=.slice (some ⟨bo,0,none⟩) nf bc)(hb:Oo X bo fn (uq k1 k2))(hbody:∀F V fa fc d1 w1,St (xC X F V B (fn:Int) (.slice none 0 0) nv) d1 w1->d1.p=(dO d F nv fa fc).p.plus [⟨2,0,(fn:Int),fL,nm⟩] 0->Tr X d u (xC X F V B (fn:Int) (.slice none 0 0) nv) d1 w1->jW X d (xC X F V B (fn:Int) (.slice none 0 0) nv) d1 w1->Calls Tryz.prog 189 #[ptr F,ptr k1,ptr k2] w1 fun e w'=>bG (xC X F V B (fn:Int) (.slice none 0 0) nv) d1 w1 (dZ (xC X F V B (fn:Int) (.slice none 0 0) nv) w1.heap.size k tr ((d1.p.plus rs tt).ln L')) e w'):Calls Tryz.prog 249 #[ptr X.M,(jM B).v,.slice none 0 0] u fun e w'=>bG X d u (iD X u.heap.size k tr (d.p.plus ([⟨2,0,(fn:Int),fL,nm⟩]++rs++[⟨3,0,(fn:Int),0,sErr⟩]) tt) (fun d' _=>d'.df=d.df)) e w':=by
 have HS:Hid (St X d u):=h;have HE:Hid (qW X):=hE;have HU:Hid (UG X fn nf ub uo uc nv vc va nm fL (.slice p1 p2 p3) (.slice q1 q2 q3)):=hU;have HFn:Hid (Bx X d u C (cA (fn:Int))):=hfn;have HC:Hid (d.cls=.slice (some ⟨R,0,none⟩) nc cc/\B<nc/\∀w,St X d w->w.cell? ⟨R,B,none⟩=some (ptr C)):=⟨hcls,hBn,hcl⟩;have HN:Hid (X.fl<X.dp/\d.recs.length+rs.length<4000/\nv<=1000):=⟨xk,hrec,nH⟩;have YR:Hid (X.jB=.slice (some ⟨bo,0,none⟩) nf bc/\Oo X bo fn (uq k1 k2)):=⟨jK,hb⟩;have yg:Hid (∀F V fa fc d1 w1,St (xC X F V B (fn:Int) (.slice none 0 0) nv) d1 w1->d1.p=(dO d F nv fa fc).p.plus [⟨2,0,(fn:Int),fL,nm⟩] 0->Tr X d u (xC X F V B (fn:Int) (.slice none 0 0) nv) d1 w1->jW X d (xC X F V B (fn:Int) (.slice none 0 0) nv) d1 w1->
   Calls Tryz.prog 189 #[ptr F,ptr k1,ptr k2] w1 fun e w'=>bG (xC X F V B (fn:Int) (.slice none 0 0) nv) d1 w1 (dZ (xC X F V B (fn:Int) (.slice none 0 0) nv) w1.heap.size k tr ((d1.p.plus rs tt).ln L')) e w'):=hbody
 clear h hE hU hfn hcls hBn hcl xk hrec nH jK hb hbody;go_in
 go_upto_region 1 with fail
 obtain⟨w1,hw1⟩:∃w1,(u.alloc (.cells #[ptr X.M] 39)).alloc (.cells (vA (jM B)) 53)=w1:=⟨_,rfl⟩;obtain⟨b3,hb3⟩:∃b3,u.heap.size=b3:=⟨_,rfl⟩;obtain⟨b4,hb4⟩:∃b4,b3+1=b4:=⟨_,rfl⟩;have H1:Hid (Sp X d u d w1/\Bx X d w1 b3 #[ptr X.M]/\Bx X d w1 b4 (vA (jM B))/\u.heap.size<=b3/\u.heap.size<=b4):=by
  rw[<-hw1,<-hb4,<-hb3];have h2:=Bx.new (HS.alloc (.cells #[ptr X.M] 39)) (vA (jM B)) 53;rw[World.size_alloc] at h2;exact⟨((Sp.refl HS.out).alloc _).alloc _,(Bx.new HS.out _ _).alloc _,h2,Nat.le_refl _,by omega⟩
 rw[hw1,hb3,hb4];clear hw1 hb4 hb3;have hge:((X.dp:Int)<=(X.fl:Int))=False:=by have:=HN.1;simp;omega
 have Ag:Hid (∀w',Sp X d w1 d w'->w'.cell? ⟨b3,0,none⟩=some (ptr X.M)/\w'.cell? ⟨X.M,4,none⟩=some (.int .i64 (X.dp:Int))):=fun w' k=>⟨(H1.2.1.step k).cell 0 rfl,k.s.m.1.cell 4 rfl⟩
 go_cut [18] from 11 (fun OH w=>OH=.bool false/\Hid (Sp X d w1 d w))
 case first=>
  have S0:=Ag.out _ (Sp.refl H1.1.s).drew;have HD:Hid (St X d w1.drew):=H1.1.s.drew
  go_region_held3 (fun w'=>w'.cell? ⟨b3,0,none⟩=some (ptr X.M)/\w'.cell? ⟨X.M,4,none⟩=some (.int .i64 (X.dp:Int))) (first|exact S0) (first|(go_at_call 295;refine(WB X d _ HD).mono ?_;rintro e w2 ⟨rfl,rfl⟩))
  all_goals
   go_wp2_with fail
   go_meet
   case rel=>exact⟨by simp,(Sp.refl H1.1.s).drew⟩
 obtain⟨rfl,fP⟩:=hcut
 rename World=>w2
 have H2:Hid (Sp X d u d w2/\Bx X d w2 b3 #[ptr X.M]/\Bx X d w2 b4 (vA (jM B))/\u.heap.size<=b3/\u.heap.size<=b4/\Bx X d w2 C (cA (fn:Int))):=⟨H1.1.trans fP.out,H1.2.1.step fP.out,H1.2.2.1.step fP.out,H1.2.2.2.1,H1.2.2.2.2,HFn.step (H1.1.trans fP.out)⟩;clear fP H1 Ag hge
 go_upto_region 3 with fail
 go_cut [7] from 11 (fun s7 w=>∃b7,s7=ptr b7/\Hid (Sp X d w2 d w/\Bx X d w b7 #[ptr C]/\u.heap.size<=b7))
 case first=>
  have HK:Hid (∀w',Sp X d w2 d w'->w'.cell? ⟨b3,0,none⟩=some (ptr X.M)/\w'.cell? ⟨X.M,17,none⟩=some (.slice (some ⟨R,0,none⟩) nc cc)/\w'.cell? ⟨b4,4,none⟩=some (.int .i64 (B:Int))/\w'.cell? ⟨R,B,none⟩=some (ptr C)):=fun w' k=>⟨(H2.2.1.step k).cell 0 rfl,by rw[<-HC.1];exact k.s.m.1.cell 17 rfl,(H2.2.2.1.step k).cell 4 rfl,HC.2.2 _ k.s⟩;have hJ0:(0:Int)<=(B:Int):=Int.natCast_nonneg _;have hJ1:(B:Int)<(nc:Int):=by have:=HC.2.1;omega
  have S0:=HK.out _ (Sp.refl H2.1.s).drew;have S1:=HK.out _ ((Sp.refl H2.1.s).alloc (.cells #[.pointer none] 371)).drew;have S2:=HK.out _ ((Sp.refl H2.1.s).alloc (.cells #[ptr C] 371)).drew
  go_region_held3 (fun w'=>w'.cell? ⟨b3,0,none⟩=some (ptr X.M)/\w'.cell? ⟨X.M,17,none⟩=some (.slice (some ⟨R,0,none⟩) nc cc)/\w'.cell? ⟨b4,4,none⟩=some (.int .i64 (B:Int))/\w'.cell? ⟨R,B,none⟩=some (ptr C)) (first|exact S0|exact S1|exact S2) (fail)
  all_goals
   go_wp2_with fail
   go_meet
   case rel=>exact⟨w2.heap.size,rfl,((Sp.refl H2.1.s).alloc _).drew,(Bx.new H2.1.s _ _).step (Sp.refl (H2.1.s.alloc _)).drew,H2.1.g.size⟩
 obtain⟨b7,rfl,Ez⟩:=hcut
 rename World=>w3
 have H3:Hid (Sp X d u d w3/\Bx X d w3 b3 #[ptr X.M]/\Bx X d w3 b4 (vA (jM B))/\u.heap.size<=b3/\u.heap.size<=b4/\Bx X d w3 C (cA (fn:Int))/\Bx X d w3 b7 #[ptr C]/\u.heap.size<=b7):=⟨H2.1.trans Ez.1,H2.2.1.step Ez.1,H2.2.2.1.step Ez.1,H2.2.2.2.1,H2.2.2.2.2.1,H2.2.2.2.2.2.step Ez.1,Ez.2.1,Ez.2.2⟩;clear H2 Ez
 go_upto_region 4 with fail
 go_cut [8] from 11 (fun s8 w=>∃b8 F V fa fc,s8=ptr b8/\Hid (Op X d u (xO X F V (fn:Int) (.slice none 0 0) nv) (dO d F nv fa fc) w (fn:Int) C B b3 b4 b7 b8 F/\u.heap.size<=b8))
 case first=>
  have HK:Hid (∀w',Sp X d w3 d w'->w'.cell? ⟨b3,0,none⟩=some (ptr X.M)/\w'.cell? ⟨b7,0,none⟩=some (ptr C)/\w'.cell? ⟨C,0,none⟩=some (.int .i64 (fn:Int))):=fun w' k=>⟨(H3.2.1.step k).cell 0 rfl,(H3.2.2.2.2.2.2.1.step k).cell 0 rfl,(H3.2.2.2.2.2.1.step k).cell 0 rfl⟩;have S0:=HK.out _ (Sp.refl H3.1.s).drew;have S1:=HK.out _ ((Sp.refl H3.1.s).alloc (.cells #[.pointer none] 125)).drew;have KA:Hid (Sp X d w3 d w3.drew):=(Sp.refl H3.1.s).drew;have KB:Hid (Sp X d w3 d (w3.alloc (.cells #[.pointer none] 125)).drew):=((Sp.refl H3.1.s).alloc _).drew;have YQ:Hid (fB X d (w3.alloc (.cells #[.pointer none] 125)).drew w3.heap.size #[.pointer none]):=(fB.new H3.1.s _ _).step (Sp.refl (H3.1.s.alloc _)).drew
  go_region_held3 (fun w'=>w'.cell? ⟨b3,0,none⟩=some (ptr X.M)/\w'.cell? ⟨b7,0,none⟩=some (ptr C)/\w'.cell? ⟨C,0,none⟩=some (.int .i64 (fn:Int))) (first|exact S0|exact S1|exact S2|exact S3|exact S4)
   (first
    |(go_at_call 52;refine(Xf X d fn nf ub uo uc nv vc va _ KA.s HU.u HN.2.2 (by have h5:=H3.1.s.x.kd;have h6:=HN.1;omega)).mono ?_;rintro e w4 ⟨F,V,fa,fc,rfl,ho⟩;have HR:Hid (Op X d u (xO X F V (fn:Int) (.slice none 0 0) nv) (dO d F nv fa fc) (w4.alloc (.cells #[ptr F] 125)) (fn:Int) C B b3 b4 b7 w4.heap.size F/\u.heap.size<=w4.heap.size):=Op.mk0 H3.out KA.out ho;have S2:=Hq H3.out KA.out ho _ (fun _ _=>rfl);have S3:=Hq H3.out KA.out ho (w4.alloc (.cells #[.pointer none] 125)) (fun k hk=>Below.heap_alloc _ _ k (Nat.lt_of_lt_of_le hk (KA.tr.trans ho.tr).g.size));have S4:=Hq H3.out KA.out ho (w4.alloc (.cells #[ptr F] 125)) (fun k hk=>Below.heap_alloc _ _ k (Nat.lt_of_lt_of_le hk (KA.tr.trans ho.tr).g.size));clear ho)
    |(go_at_call 52;refine(Xf X d fn nf ub uo uc nv vc va _ KB.s HU.u HN.2.2 (by have h5:=H3.1.s.x.kd;have h6:=HN.1;omega)).mono ?_;rintro e w4 ⟨F,V,fa,fc,rfl,ho⟩;have HR:Hid (Op X d u (xO X F V (fn:Int) (.slice none 0 0) nv) (dO d F nv fa fc) (w4.setCell ⟨w3.heap.size,0,none⟩ (ptr F)) (fn:Int) C B b3 b4 b7 w3.heap.size F/\u.heap.size<=w3.heap.size):=Op.mk1 H3.out KB.out YQ.out ho;have S2:=Hq H3.out KB.out ho _ (fun _ _=>rfl);have S3:=Hq H3.out KB.out ho (w4.setCell ⟨w3.heap.size,0,none⟩ (ptr F)) (fun k hk=>Below.heap_setCell _ _ _ _ (show k≠w3.heap.size by omega));have hbz:=(YQ.tr ho.tr).1;have q0:=hbz.1.cell 0 rfl;have qz:=hbz.2;have ql:=hbz.1.1;clear ho hbz))
  all_goals
   go_wp2_with fail
   go_meet
   case rel=>exact⟨_,F,V,fa,fc,rfl,HR⟩
 obtain⟨b8,F,V,fa,fc,rfl,H4⟩:=hcut
 rename World=>w4
 clear H3
 go_upto_region 5 with fail
 go_cut [] from 11 (fun w=>Hid (Op X d u (xC X F V B (fn:Int) (.slice none 0 0) nv) (dO d F nv fa fc) w (fn:Int) C B b3 b4 b7 b8 F))
 case first=>
  have HK:Hid (∀w',Gx (fun k=>k=F) w4 w'->w'.cell? ⟨b8,0,none⟩=some (ptr F)/\w'.cell? ⟨b7,0,none⟩=some (ptr C)/\w'.cell? ⟨C,1,none⟩=some (.slice none 0 0)/\w'.cell? ⟨b4,0,none⟩=some (.int .i64 6)/\w'.cell? ⟨b4,1,none⟩=some (.int .i64 0)/\w'.cell? ⟨b4,2,none⟩=some (.float .f64 0)/\w'.cell? ⟨b4,3,none⟩=some (.string ⟨#[]⟩)/\w'.cell? ⟨b4,4,none⟩=some (.int .i64 (B:Int))):=fun w' k=>ZE H4.1 k;have f2:=H4.1.s.f.1.cell 2 rfl;have f3:=H4.1.s.f.1.cell 3 rfl;have f4:=H4.1.s.f.1.cell 4 rfl;have f5:=H4.1.s.f.1.cell 5 rfl;have f6:=H4.1.s.f.1.cell 6 rfl;have f7:=H4.1.s.f.1.cell 7 rfl;have fz:=H4.1.s.f.2;have lF:=H4.1.s.f.1.1;have S0:=HK.out w4.drew (FK.drew (Gx.refl _ _))
  go_region_held3 (fun w'=>w'.cell? ⟨b8,0,none⟩=some (ptr F)/\w'.cell? ⟨b7,0,none⟩=some (ptr C)/\w'.cell? ⟨C,1,none⟩=some (.slice none 0 0)/\w'.cell? ⟨b4,0,none⟩=some (.int .i64 6)/\w'.cell? ⟨b4,1,none⟩=some (.int .i64 0)/\w'.cell? ⟨b4,2,none⟩=some (.float .f64 0)/\w'.cell? ⟨b4,3,none⟩=some (.string ⟨#[]⟩)/\w'.cell? ⟨b4,4,none⟩=some (.int .i64 (B:Int))) (first|with_reducible exact S0|(refine HK.out _ ?_;(repeat(with_reducible first|exact Gx.refl _ _|refine FK.set ?_ _ _|refine FK.drew ?_)))) (fail)
  all_goals
   go_wp2_with fail
   go_meet
   case rel=>exact Op.called H4.1
 have H5:=hcut
 rename World=>w5
 have YG:Hid (u.heap.size<=b8):=H4.2;clear H4 hcut;obtain⟨X',hX'⟩:∃X',xC X F V B (fn:Int) (.slice none 0 0) nv=X':=⟨_,rfl⟩;obtain⟨d0,hd0⟩:∃d0,dO d F nv fa fc=d0:=⟨_,rfl⟩;have Yo:Hid (xC X F V B (fn:Int) (.slice none 0 0) nv=X'):=hX';have FI:Hid (dO d F nv fa fc=d0):=hd0;have yQ:Hid (X'.M=X.M/\X'.W=X.W/\X'.F=F/\X'.fns=X.fns/\X'.jB=X.jB):=by rw[<-hX'];exact⟨rfl,rfl,rfl,rfl,rfl⟩
 have H6:Hid (Op X d u X' d0 w5 (fn:Int) C B b3 b4 b7 b8 F):=by rw[<-hX',<-hd0];exact H5
 clear H5 hX' hd0
 go_upto_region 6 with fail
 have hi0:(0:Int)<=(fn:Int):=Int.natCast_nonneg _;have hi1:(fn:Int)<(nf:Int):=by have:=HU.u.i;omega
 go_cut [9] from 11 (fun s9 w=>∃b9,s9=ptr b9/\Hid (Sp X' d0 w5 d0 w/\Bx X' d0 w b9 (fn7 nm fL va nv vc (.slice p1 p2 p3) (.slice q1 q2 q3))))
 case first=>
  have HK:Hid (∀w',Sp X' d0 w5 d0 w'->w'.cell? ⟨b3,0,none⟩=some (ptr X.M)/\w'.cell? ⟨X.M,0,none⟩=some (.slice (some ⟨ub,uo,none⟩) nf uc)/\w'.cell? ⟨b7,0,none⟩=some (ptr C)/\w'.cell? ⟨C,0,none⟩=some (.int .i64 (fn:Int))/\w'.cell? ⟨ub,uo+fn*7,none⟩=some (.string nm)/\w'.cell? ⟨ub,uo+fn*7+1,none⟩=some (.int .i64 fL)/\w'.cell? ⟨ub,uo+fn*7+2,none⟩=some (.int .i64 0)/\w'.cell? ⟨ub,uo+fn*7+3,none⟩=some (.bool false)/\w'.cell? ⟨ub,uo+fn*7+4,none⟩=some (.slice va nv vc)/\w'.cell? ⟨ub,uo+fn*7+5,none⟩=some (.slice p1 p2 p3)/\w'.cell? ⟨ub,uo+fn*7+6,none⟩=some (.slice q1 q2 q3)):=fun w' k=>zu2 HU.out yQ.1 yQ.2.1 yQ.2.2.2.1 H6.out k;have Fj:Hid (Sp X' d0 w5 d0 w5):=Sp.refl H6.s
  go_region_held3 (fun w'=>w'.cell? ⟨b3,0,none⟩=some (ptr X.M)/\w'.cell? ⟨X.M,0,none⟩=some (.slice (some ⟨ub,uo,none⟩) nf uc)/\w'.cell? ⟨b7,0,none⟩=some (ptr C)/\w'.cell? ⟨C,0,none⟩=some (.int .i64 (fn:Int))/\w'.cell? ⟨ub,uo+fn*7,none⟩=some (.string nm)/\w'.cell? ⟨ub,uo+fn*7+1,none⟩=some (.int .i64 fL)/\w'.cell? ⟨ub,uo+fn*7+2,none⟩=some (.int .i64 0)/\w'.cell? ⟨ub,uo+fn*7+3,none⟩=some (.bool false)/\w'.cell? ⟨ub,uo+fn*7+4,none⟩=some (.slice va nv vc)/\w'.cell? ⟨ub,uo+fn*7+5,none⟩=some (.slice p1 p2 p3)/\w'.cell? ⟨ub,uo+fn*7+6,none⟩=some (.slice q1 q2 q3)) (first|(refine HK.out _ ?_;(repeat(with_reducible first|exact Fj.out|refine Sp.alloc ?_ _|refine Sp.drew ?_)))) (fail)
  all_goals
   go_wp2_with fail
   go_meet
   case rel=>exact⟨_,rfl,(Fj.alloc _).drew,(Bx.new H6.s _ _).step (Sp.refl (H6.s.alloc _)).drew⟩
 obtain⟨b9,rfl,Am⟩:=hcut
 rename World=>w6
 have H7:Hid (Op X d u X' d0 w6 (fn:Int) C B b3 b4 b7 b8 F/\Bx X' d0 w6 b9 (fn7 nm fL va nv vc (.slice p1 p2 p3) (.slice q1 q2 q3))):=⟨H6.step Am.1,Am.2⟩;clear H6 Am hi0 hi1
 go_upto_region 7 with fail
 go_cut [] from 11 (fun w=>∃d1,Hid (Op X d u X' d1 w (fn:Int) C B b3 b4 b7 b8 F/\Bx X' d1 w b9 (fn7 nm fL va nv vc (.slice p1 p2 p3) (.slice q1 q2 q3))/\d1.p=d0.p.plus [⟨2,0,(fn:Int),fL,nm⟩] 0))
 case first=>
  have HK:Hid (∀d' w',Sp X' d0 w6 d' w'->w'.cell? ⟨b3,0,none⟩=some (ptr X.M)/\w'.cell? ⟨b7,0,none⟩=some (ptr C)/\w'.cell? ⟨C,0,none⟩=some (.int .i64 (fn:Int))/\w'.cell? ⟨b9,0,none⟩=some (.string nm)/\w'.cell? ⟨b9,1,none⟩=some (.int .i64 fL)):=fun d' w' k=>⟨(H7.1.x3.step k).cell 0 rfl,(H7.1.x7.step k).cell 0 rfl,(H7.1.f.step k).cell 0 rfl,(H7.2.step k).cell 0 rfl,(H7.2.step k).cell 1 rfl⟩;have S0:=HK.out d0 _ (Sp.refl H7.1.s).drew;have Sl:Hid (St X' d0 w6.drew):=H7.1.s.drew;have hrec:d0.recs.length<5000:=by rw[<-FI.out];show d.recs.length<5000;have:=HN.2.1;omega
  have QH:=yQ.1
  go_region_held3 (fun w'=>w'.cell? ⟨b3,0,none⟩=some (ptr X.M)/\w'.cell? ⟨b7,0,none⟩=some (ptr C)/\w'.cell? ⟨C,0,none⟩=some (.int .i64 (fn:Int))/\w'.cell? ⟨b9,0,none⟩=some (.string nm)/\w'.cell? ⟨b9,1,none⟩=some (.int .i64 fL)) (with_reducible first|exact S0|exact S1) (first|(go_at_call 149;have DW:=Du X' d0 2 (fn:Int) fL nm _ Sl.out hrec;rw[QH] at DW;refine DW.mono ?_;clear DW;rintro e w7 ⟨rfl,d1,hs7,e7⟩;have S1:=HK.out d1 w7 ((Sp.refl H7.out.1.s).drew.trans hs7);have HR:Hid (Op X d u X' d1 w7 (fn:Int) C B b3 b4 b7 b8 F/\Bx X' d1 w7 b9 (fn7 nm fL va nv vc (.slice p1 p2 p3) (.slice q1 q2 q3))/\d1.p=d0.p.plus [⟨2,0,(fn:Int),fL,nm⟩] 0):=⟨H7.out.1.step ((Sp.refl H7.out.1.s).drew.trans hs7),H7.out.2.step ((Sp.refl H7.out.1.s).drew.trans hs7),by rw[e7,DP.kP]⟩;clear hs7 e7))
  all_goals
   go_wp2_with fail
   go_meet
   case rel=>exact⟨_,HR⟩
 obtain⟨d1,H8⟩:=hcut
 rename World=>w8
 clear H7;have ku:Hid (Calls Tryz.prog 53 #[ptr F,Q5 b3 b7 b8] w8 fun e w'=>gG X' d1 w8 (jw X' (w8.heap.size+3) k tr (d1.p.plus rs tt) (fun _ _=>True)) e w'):=by
  have hX:=Yo.out;have hD:=FI.out;subst hX hD;have hz:=PK _ d1 296 #[ptr b3,ptr b7,ptr b8] k tr ((d1.p.plus rs tt).ln L') (fun _ _=>True) w8 H8.1.s (fun _ _=>rfl) (yP.true _ _) (Nat.le_refl _) (fun w2 s hsz=>?_)
  ·have he:=DP.uF d1.p rs tt L';rw[show(((d1.p.plus rs tt).ln L').dX d1.held.length).ln d1.line=d1.p.plus rs tt from he] at hz;exact hz
  refine ZF _ d1 b3 b7 b8 C fn nf bo bc k1 k2 _ w2 s.s (H8.1.x3.step s) (H8.1.x7.step s) (H8.1.x8.step s) (H8.1.f.step s) YR.1 HU.u.i YR.2 (fun w3 k3 hsz3=>?_);refine(yg F V fa fc d1 w3 k3.s H8.2.2 (H8.1.t.trans (s.trans k3).tr) (H8.1.p.step (s.trans k3))).mono ?_;rintro e w' ⟨E,d',rfl,hs,hr⟩;exact⟨E,d',rfl,hs,hr.mono (by omega),trivial⟩
 have Rw:=H8.1.x8.cell 0 rfl;have hmf:=Dc;go_wp2_with fail;refine ku.mono ?_;rintro e w9 ⟨way,d3,rfl,hs3,E,rfl,hr3,_⟩;have Jz:Hid (u.heap.size<=w8.heap.size+3):=Nat.le_trans H8.1.t.g.size (by omega);have H9:Hid (Op X d u X' d3 w9 (fn:Int) C B b3 b4 b7 b8 F/\Bx X' d3 w9 b9 (fn7 nm fL va nv vc (.slice p1 p2 p3) (.slice q1 q2 q3))/\dZ X' (w8.heap.size+3) k tr (d0.p.plus ([⟨2,0,(fn:Int),fL,nm⟩]++rs) tt) E d3 w9):=⟨H8.1.step hs3,H8.2.1.step hs3,by
  have e1:d1.p.plus rs tt=d0.p.plus ([⟨2,0,(fn:Int),fL,nm⟩]++rs) tt:=by rw[H8.2.2,DP.ng,Nat.zero_add]
  rw[e1] at hr3;exact hr3⟩
 obtain⟨N0,hN0⟩:∃N0,w8.heap.size+3=N0:=⟨_,rfl⟩;rw[hN0] at H9 Jz;clear hs3 hr3 ku H8 Rw hmf hN0
 go_upto_region 9 with fail
 go_cut [] from 11 (fun w=>∃d4,Hid (Sp X' d3 w9 d4 w/\d4.p=d3.p))
 case first=>
  have hsc:d3.sc=[]:=by
   have h1:d3.sc=d0.sc:=H9.2.2.sc;rw[h1,<-FI.out]
  have IK:=yQ.2.2.1;have f10:w9.cell? ⟨F,10,none⟩=some (.slice d3.sa 0 d3.sp):=by
   have h1:w9.cell? ⟨X'.F,10,none⟩=some (.slice d3.sa d3.sc.length d3.sp):=H9.1.s.f.1.cell 10 rfl;rw[IK,hsc] at h1;exact h1
  have fz:∀o,w9.frozen? ⟨F,o,none⟩=false:=by
   have h1:=H9.1.s.f.2;rw[IK] at h1;exact h1
  have lF:F<w9.heap.size:=by rw[<-IK];exact H9.1.s.f.1.1
  have hif:=AY d3.sa (d3.sp=0) (H9.1.s.mG.2.elim (fun h=>.inl h.1) .inr);have hSp:Sp X' d3 w9 {d3 with sc:=d3.sc.take 0} (w9.setCell ⟨F,10,none⟩ (.slice d3.sa 0 d3.sp)):=by
   rw[<-IK];exact Sp.qB H9.1.s (m:=0) (Nat.zero_le _)
  have HR:Hid (Sp X' d3 w9 {d3 with sc:=d3.sc.take 0} (w9.setCell ⟨F,10,none⟩ (.slice d3.sa 0 d3.sp)).drew/\({d3 with sc:=d3.sc.take 0}:MD).p=d3.p):=⟨hSp.drew,by rw[hsc];simp[MD.p,hsc]⟩;have S0:w9.cell? ⟨b8,0,none⟩=some (ptr F)/\w9.cell? ⟨b9,2,none⟩=some (.int .i64 0):=⟨H9.1.x8.cell 0 rfl,H9.2.1.cell 2 rfl⟩;have S1:((w9.setCell ⟨F,10,none⟩ (.slice d3.sa 0 d3.sp)).drew).cell? ⟨b8,0,none⟩=some (ptr F)/\((w9.setCell ⟨F,10,none⟩ (.slice d3.sa 0 d3.sp)).drew).cell? ⟨b9,2,none⟩=some (.int .i64 0):=⟨(H9.1.x8.step hSp.drew).cell 0 rfl,(H9.2.1.step hSp.drew).cell 2 rfl⟩;clear hSp hsc IK;refine wp_region_held_drew (S:=fun w'=>w'.cell? ⟨b8,0,none⟩=some (ptr F)/\w'.cell? ⟨b9,2,none⟩=some (.int .i64 0)) (by kernel_rfl) S0 (fun ak=>?_);refine wpAnyH_take (i:=0) (oi:=⟨some 72,_,_,_,_,_⟩) (v:=?v1) rfl (by kernel_rfl) (by kernel_rfl) (by kernel_rfl) (fun _ _ _ h=>h) (Or.inl ⟨by rfl,?hy1⟩) (by assumption) ?mV
  case hy1=>(intro wz hSw;(try dsimp only at hSw);go_simp<;>with_reducible rfl)
  try simp only[Act.put,aG,aF,aA]
  refine wpAnyH_take (i:=1) (oi:=⟨some 73,_,_,_,_,_⟩) (v:=?v2) rfl (by kernel_rfl) (by kernel_rfl) (by kernel_rfl) (fun _ _ _ h=>h) (Or.inl ⟨by rfl,?hy2⟩) (by assumption) ?mQ
  case hy2=>(intro wz hSw;(try dsimp only at hSw);go_simp<;>with_reducible rfl)
  try simp only[Act.put,aG,aF,aA]
  refine wpAnyH_take (i:=2) (oi:=⟨some 74,_,_,_,_,_⟩) (v:=?v3) rfl (by kernel_rfl) (by kernel_rfl) (by kernel_rfl) (fun _ _ _ h=>h) (Or.inl ⟨by rfl,?hy3⟩) (by assumption) ?mP
  case hy3=>(intro wz hSw;(try dsimp only at hSw);go_simp<;>with_reducible rfl)
  try simp only[Act.put,aG,aF,aA]
  refine wpAnyH_take (i:=3) (oi:=⟨some 75,_,_,_,_,_⟩) (v:=?v4) rfl (by kernel_rfl) (by kernel_rfl) (by kernel_rfl) (fun _ _ _ h=>h) (Or.inl ⟨by rfl,?hy4⟩) (by assumption) ?mO
  case hy4=>(intro wz hSw;(try dsimp only at hSw);go_simp<;>with_reducible rfl)
  try simp only[Act.put,aG,aF,aA]
  refine wpAnyH_take (i:=5) (oi:=⟨some 77,_,_,_,_,_⟩) (v:=?v5) rfl (by kernel_rfl) (by kernel_rfl) (by kernel_rfl) (fun _ _ _ h=>h) (Or.inl ⟨by rfl,?uw⟩) (by assumption) ?mM
  case uw=>(intro wz hSw;(try dsimp only at hSw);go_simp<;>with_reducible rfl)
  try simp only[Act.put,aG,aF,aA]
  refine wpAnyH_take (i:=6) (oi:=⟨some 78,_,_,_,_,_⟩) (v:=?v6) rfl (by kernel_rfl) (by kernel_rfl) (by kernel_rfl) (fun _ _ _ h=>h) (Or.inl ⟨by rfl,?wL⟩) (by assumption) ?pY
  case wL=>(intro wz hSw;(try dsimp only at hSw);go_simp<;>with_reducible rfl)
  try simp only[Act.put,aG,aF,aA]
  refine wpAnyH_ready (rs:=[4]) (by kernel_rfl) (by simp) ?_;refine AllReadyH.cons (o:=⟨some 76,_,_,_,_,_⟩) rfl (fun K hK=>?_) AllReadyH.nil;go_simp;refine hK.out _ _ S0 (fun hHeld=>?_);clear hK K ak;have ak:=hHeld;clear hHeld;try simp only[Act.put,aG,aF,aA]
  refine wpAnyH_take (i:=7) (oi:=⟨some 79,_,_,_,_,_⟩) (v:=?v7) rfl (by kernel_rfl) (by kernel_rfl) (by kernel_rfl) (fun _ _ _ h=>h) (Or.inl ⟨by rfl,?qw⟩) (by assumption) ?mJ
  case qw=>(intro wz hSw;(try dsimp only at hSw);go_simp<;>with_reducible rfl)
  try simp only[Act.put,aG,aF,aA]
  refine wpAnyH_take (i:=8) (oi:=⟨some 80,_,_,_,_,_⟩) (v:=?v8) rfl (by kernel_rfl) (by kernel_rfl) (by kernel_rfl) (fun _ _ _ h=>h) (Or.inl ⟨by rfl,?rJ⟩) (by assumption) ?kM
  case rJ=>(intro wz hSw;(try dsimp only at hSw);go_simp<;>with_reducible rfl)
  try simp only[Act.put,aG,aF,aA]
  refine wpAnyH_take (i:=9) (oi:=⟨some 81,_,_,_,_,_⟩) (v:=?v9) rfl (by kernel_rfl) (by kernel_rfl) (by kernel_rfl) (fun _ _ _ h=>h) (Or.inl ⟨by rfl,?wK⟩) (by assumption) ?pX
  case wK=>(intro wz hSw;(try dsimp only at hSw);go_simp<;>with_reducible rfl)
  try simp only[Act.put,aG,aF,aA]
  refine wpAnyH_ready (rs:=[10]) (by kernel_rfl) (by simp) ?_;refine AllReadyH.cons (o:=⟨none,_,_,_,_,_⟩) rfl (fun K hK=>?_) AllReadyH.nil;go_simp;refine hK.out _ _ S1 (fun hHeld=>?_);clear hK K ak;have ak:=hHeld;clear hHeld;try simp only[Act.put,aG,aF,aA]
  refine wpAnyH_done (by kernel_rfl) ?_ _;go_wp2_with fail
  go_meet
  case rel=>exact⟨_,HR⟩
 obtain⟨d4,Ap⟩:=hcut
 rename World=>w10
 have nU:Hid (Op X d u X' d4 w10 (fn:Int) C B b3 b4 b7 b8 F/\dZ X' N0 k tr (d0.p.plus ([⟨2,0,(fn:Int),fL,nm⟩]++rs) tt) E d4 w10):=⟨H9.1.step Ap.1,H9.2.2.step Ap.1 (fun t v e=>⟨v,by rw[Ap.2];exact e⟩)⟩;clear H9 Ap
 go_upto_region 10 with fail
 have HE':Hid (qW X'):=by
  have h1:=HE.out;unfold qW at h1 ⊢;rw[yQ.1,yQ.2.1];exact h1
 go_cut [] from 11 (fun w=>∃d5,Hid (Op X d u X' d5 w (fn:Int) C B b3 b4 b7 b8 F/\dZ X' N0 k tr (d0.p.plus ([⟨2,0,(fn:Int),fL,nm⟩]++rs++[⟨3,0,(fn:Int),0,sErr⟩]) tt) E d5 w))
 case first=>
  have HK:Hid (∀d' w',Sp X' d4 w10 d' w'->w'.cell? ⟨b3,0,none⟩=some (ptr X.M)/\w'.cell? ⟨b7,0,none⟩=some (ptr C)/\w'.cell? ⟨C,0,none⟩=some (.int .i64 (fn:Int))):=fun d' w' k=>⟨(nU.1.x3.step k).cell 0 rfl,(nU.1.x7.step k).cell 0 rfl,(nU.1.f.step k).cell 0 rfl⟩;have S0:=HK.out d4 _ (Sp.refl nU.1.s).drew;have KA:Hid (Sp X' d4 w10 d4 w10.drew):=(Sp.refl nU.1.s).drew;have hrec:d4.recs.length<5000:=by
   have h1:d4.recs=d0.recs++([⟨2,0,(fn:Int),fL,nm⟩]++rs):=nU.2.recs;have h2:d0.recs=d.recs:=by rw[<-FI.out]
   have h3:=HN.2.1;rw[h1,h2];simp;omega
  have QH:=yQ.1
  go_region_held3 (fun w'=>w'.cell? ⟨b3,0,none⟩=some (ptr X.M)/\w'.cell? ⟨b7,0,none⟩=some (ptr C)/\w'.cell? ⟨C,0,none⟩=some (.int .i64 (fn:Int))) (with_reducible first|exact S0|exact S1|exact S2)
   (first
    |(go_at_call 297;refine(zf4 E _ (HE'.at KA.s)).mono ?_;rintro e kX ⟨rfl,IG⟩;have KB:Hid (Sp X' d4 w10 d4 kX):=KA.call IG;have S1:=HK.out d4 kX KB.out;clear IG)
    |(go_at_call 149;have DW:=Du X' d4 3 (fn:Int) 0 sErr _ KB.s hrec;rw[QH] at DW;refine DW.mono ?_;clear DW;rintro e w12 ⟨rfl,d5,zJ,e12⟩;have S2:=HK.out d5 w12 (KB.trans zJ);have HR:Hid (Op X d u X' d5 w12 (fn:Int) C B b3 b4 b7 b8 F/\dZ X' N0 k tr (d0.p.plus ([⟨2,0,(fn:Int),fL,nm⟩]++rs++[⟨3,0,(fn:Int),0,sErr⟩]) tt) E d5 w12):=⟨nU.1.step (KB.trans zJ),nU.2.step (KB.trans zJ) (fun t v e=>⟨v,by rw[e12,e,DP.kP];show((d0.p.plus ([⟨2,0,(fn:Int),fL,nm⟩]++rs) tt).plus [⟨3,0,(fn:Int),0,sErr⟩] 0).qm t v=_;rw[DP.ng,Nat.add_zero]⟩)⟩;clear zJ e12))
  all_goals
   go_wp2_with fail
   go_meet
   case rel=>exact⟨_,HR⟩
 obtain⟨d5,tK⟩:=hcut
 rename World=>pV
 clear nU;have hSR:dR X X':=by rw[<-Yo.out];exact dR.xC _ _ _ _ _ _ _
 have HSR:Hid (dR X X'):=hSR;have hfr:d5.fr=d.fr++[ptr X'.F]:=by
  have h1:d5.fr=d0.fr:=by
   obtain⟨t,v,e⟩:=tK.2.p;exact congrArg DP.fr e
  rw[h1,yQ.2.2.1,<-FI.out]
 have hcl:=zf1 X X' d d5 pV tK.1.s hSR tK.1.p hfr;rw[yQ.2.2.1] at hcl;have NC:Hid (Calls Tryz.prog 298 #[ptr X.M,ptr F] pV fun e w'=>e=.returned (.tuple #[])/\St X (lY d d5) w'/\Gx (fun k=>k=X.T) pV w'):=hcl;have b30:=tK.1.x3.cell 0 rfl;have Rw:=tK.1.x8.cell 0 rfl;clear hcl hfr hSR;go_wp2_with fail;refine NC.mono ?_;rintro e G6 ⟨rfl,IU,Iu⟩;have hrl:=dZ.back (q':=d.p.plus ([⟨2,0,(fn:Int),fL,nm⟩]++rs++[⟨3,0,(fn:Int),0,sErr⟩]) tt) tK.1.t HSR.out IU Iu tK.2 Jz.out HS.out (fun t v e=>yg0 t v (by rw[FI.out];exact e));have Tc:Hid (Sp X d u (lY d d5) G6/\dZ X u.heap.size k tr (d.p.plus ([⟨2,0,(fn:Int),fL,nm⟩]++rs++[⟨3,0,(fn:Int),0,sErr⟩]) tt) E (lY d d5) G6):=hrl;clear IU Iu hrl b30 Rw NC;go_wp2_with fail;refine(qq4 E _).mono ?_;rintro e w15 ⟨rfl,DR⟩;have HF:Hid (bG X d u (iD X u.heap.size k tr (d.p.plus ([⟨2,0,(fn:Int),fL,nm⟩]++rs++[⟨3,0,(fn:Int),0,sErr⟩]) tt) (fun d' _=>d'.df=d.df)) (.panicked (lQ E)) w15):=⟨E,lY d d5,rfl,Tc.1.call DR,Tc.2.step (Sp.below Tc.1.s DR) (fun t v e=>⟨v,e⟩),rfl⟩;clear DR;go_wp2_with fail;simp[bodyPost];exact HF
end
end Go.Proofs.YtihnikeikhjndaaGreatDoor
