import Derived.Test.YthnkncpegihbhaaGreatDoorXbC
import Derived.Test.YthnkncpegihbhaaGreatDoorXcA
set_option maxRecDepth 100000
set_option maxHeartbeats 16000000
namespace Go.Proofs.YthnkncpegihbhaaGreatDoor
section
open Go.RowKit
def sS(X:RX)(c:Nat)(d:MD)(w:World):Prop:=vF X d w c/\lX X d w
theorem sS.step{X:RX}{c:Nat}{d d':MD}{w w':World}(h:sS X c d w)(hs:Sp X d w d' w')(e:d'.vs=d.vs):sS X c d' w':=⟨h.1.step hs e,h.2.step hs⟩
theorem vW.vs{X:RX}{p:DP}{n m i:Nat}{q:DP}(h:vW X p n m i q):q.vs=p.vs:=by
 obtain⟨S,_,_,e⟩:=h;rw[e];rfl
theorem yx5:tq 193:=enters_of Tryz.func193 (by kernel_rfl) rfl
theorem yb4:tq 191:=enters_of Tryz.func191 (by kernel_rfl) rfl
theorem Zy(X:RX)(d:MD)(u:World)(c m i n s F FA FK:Nat)(cs csA Aa:Array Value)(h:St X d u)(x:EX X d u c m i s)(hC:vY X F FA cs csA)(hS:yF X 0 i FA FK csA Aa)(hi:i<=100)(hn:m+n=i+1)(hs:s<=1000)(hce:m+i + 3+n + 1<=X.ce)(htk:3*s<X.tk)(hK:∀d3 w3,Sp X d u d3 w3->qC X d3.p c m i (s+1)->sS X c d3 w3->rD X FK Aa d3 w3 (d3.p.hold [jr 0]) (jr (i+2)) (fun q=>∃q2,vW X d3.p n (i+1) i q2/\q=q2.hold [jr 0])):Calls Tryz.prog F (#[ptr X.F]++cs) u fun e w'=>kK X d u (fun way d' w'=>way=.nilIface/\qC X d'.p c (i+1) (i+1) (s+1)/\sS X c d' w') e w':=by
 have hFA:FA=193:=by obtain⟨_,_,_,_,_,_,_,_,_,_,_,_,_,_,_,e,_⟩:=hS;exact e
 refine MH X d u F FA cs csA (fun q=>qC X q c (i+1) (i+1) (s+1)) (sS X c) h hC (by rw[hFA];exact yx5) (by have:=x.p.rl;have e:d.p.recs=d.recs:=rfl;rw[e] at this;omega) (by have:=x.p.ti;have e:d.p.ti=d.ti:=rfl;omega) (fun q hq=>hq.ln _) (fun d1 w1 d2 w2 h1 h2 h3=>h1.step h2 h3) (fun L d3 w3 h1 h2=>?_);have hp3:qC X d3.p c m i (s+1):=by rw[h2];exact x.p.begun _ _
 have hB3:sS X c d3 w3:=sS.step ⟨x.v,x.t⟩ h1 (aJ DP.vs h2);obtain⟨Q,hv,hQ⟩:=hB3.1 0 (by omega);have e1:d3.held=[]:=hp3.held;have e2:d3.lv=0:=hp3.lv;have e3:d3.sin=m+i + 3:=hp3.sin;have e4:d3.jc=m+i + 3:=hp3.jc;refine(yx6 X d3 w3 0 i n FA FK Q csA Aa h1.s hS hv hQ.bx (by rw[e1];simp) hi (by omega) (by omega) (hK d3 w3 h1 hp3 hB3)).mono ?_;rintro e w' ⟨way,d',rfl,hs',rfl,hq⟩;exact⟨_,d',rfl,hs',rfl,hp3.Vk hq (by omega),hB3.step hs' hq.vs⟩
theorem y64(X:RX)(d:MD)(u:World)(c i s F FA Wb:Nat)(cs csA:Array Value)(h:St X d u)(x:EX X d u c (i+1) i s)(hC:vY X F FA cs csA)(hS:yF X 0 i FA 218 csA #[ptr Wb])(kW:Od X Wb #[.int .i64 ((i+1:Nat):Int)])(hc:i+1<=c)(hi:i<=90)(hs:s<=1000)(hce:2*i+5<=X.ce)(htk:3*s<X.tk):Calls Tryz.prog F (#[ptr X.F]++cs) u fun e w'=>kK X d u (fun way d' w'=>way=.nilIface/\qC X d'.p c (i+1) (i+1) (s+1)/\sS X c d' w') e w':=by
 refine Zy X d u c (i+1) i 0 s F FA _ cs csA _ h x hC hS (by omega) (by omega) hs (by omega) htk (fun d3 w3 _ hp hB=>?_);obtain⟨Q,hv,hQ⟩:=hB.1 (i+1) (by omega);refine(QM (p:=d3.p.hold [jr 0]) kW hv hQ.bx).mono fun q e=>?_;obtain⟨S,hW,hb⟩:=hp.wk;exact⟨d3.p,⟨S,hW,hb,rfl⟩,e⟩
theorem y65(X:RX)(d:MD)(u:World)(c i s F FA b1 b2 b3:Nat)(cs csA:Array Value)(h:St X d u)(x:EX X d u c i i s)(hC:vY X F FA cs csA)(hS:yF X 0 i FA 278 csA #[ptr b1,ptr b2,ptr b3])(k1:Od X b1 #[ptr X.M])(k2:Od X b2 #[.slice none 0 0])(k3:Od X b3 #[.func (.func 275) #[] #[]])(hi:i<=90)(hs:s<=1000)(hce:2*i+5<=X.ce)(htk:3*s<X.tk):Calls Tryz.prog F (#[ptr X.F]++cs) u fun e w'=>kK X d u (fun way d' w'=>way=.nilIface/\qC X d'.p c (i+1) (i+1) (s+1)/\sS X c d' w') e w':=by
 refine Zy X d u c i i 1 s F FA _ cs csA _ h x hC hS (by omega) (by omega) hs (by omega) htk (fun d3 w3 _ hp hB=>?_);obtain⟨S,hW,hb⟩:=hp.wk;have hnt:=hW.w.nt;have pW:=hW.li;have e2:(d3.p.hold [jr 0]).lv=0:=hp.lv;have e3:(d3.p.hold [jr 0]).sin=i+i + 3:=hp.sin;have e4:(d3.p.hold [jr 0]).jc=i+i + 3:=hp.jc;have e1:(d3.p.hold [jr 0]).held=[jr 0]:=by show d3.p.held++_=_;rw[hp.held];rfl
 have:=UU X d3 w3 (d3.p.hold [jr 0]) S b1 b2 b3 k1 k2 k3 ⟨hb,fun j hj=>by rw[pW] at hj;rw[hnt];exact dY.1 hj,by omega,by rw[pW,List.length_range];omega,by omega,by omega,by rw[e1];simp⟩;rw[hnt] at this;refine this.mono fun q hq=>?_;obtain⟨q2,h1,h2⟩:=hq.rF;obtain⟨K,B,ta,tc,la,lc,h3,h4⟩:=h1;exact⟨q2,⟨_,hW.add,h3,h4⟩,h2⟩
def wZ(X:RX)(j FA FE:Nat)(csA kT:Array Value):Prop:=∃x1 x2 rb ro rc L A2,FA=191/\csA = #[ptr x1,ptr x2]/\Od X x1 A2/\A2[6]?=some (.slice (some ⟨rb,ro,none⟩) 1 rc)/\Oo X rb ro (.int .i64 (j:Int))/\Od X x2 #[iE 239 #[ptr L]]/\Od X L #[iE FE kT]
theorem wZ.fa{X:RX}{j FA FE:Nat}{csA kT:Array Value}(h:wZ X j FA FE csA kT):FA=191:=by
 obtain⟨_,_,_,_,_,_,_,e,_⟩:=h;exact e
theorem yb5(X:RX)(d:MD)(u:World)(j FA FE:Nat)(csA kT:Array Value)(v:VD)(R:DP->Prop)(h:St X d u)(hC:wZ X j FA FE csA kT)(hj:j<X.nv)(hE:rD X FE kT d u d.p v R)(hsc:∀q,R q->q.sc.length<=900):Calls Tryz.prog FA (#[ptr X.F]++csA) u fun e w'=>kK X d u (JX X v j R) e w':=by
 obtain⟨x1,x2,rb,ro,rc,L,A2,rfl,rfl,k1,hA,kr,k2,kL⟩:=hC;exact y06 X d u x1 x2 rb ro rc j 239 #[ptr L] A2 v R h k1 hA kr hj k2 (yt6 X FE L kT d u d.p v R kL hE) hsc
theorem vF.more{X:RX}{d3 d':MD}{w3 w':World}{c Q:Nat}{q:DP}(h:vF X d3 w3 c)(hs:Sp X d3 w3 d' w')(e:q.vs=d3.vs)(ep:d'.p=(q.var (c+1) (ptr Q)).scope ((c+1:Nat):Int))(hc:c+1<X.nv)(hQ:jk X d' w' Q (vA (jr (c+2)))):vF X d' w' (c+1):=fun j hj=>by
 have ev:d'.vs=d3.vs.set (c+1) (ptr Q):=by
  have:d'.vs=q.vs.set (c+1) (ptr Q):=aJ DP.vs ep;rw[this,e]
 have hl:d'.vs.length=X.nv:=hs.s.nv;by_cases cj:j=c+1
 ·subst cj;refine⟨Q,?_,hQ⟩;rw[ev];rw[ev,List.length_set] at hl;simp[hl,hc]
 ·obtain⟨Q',h1,h2⟩:=h j (by omega);refine⟨Q',?_,h2.step hs⟩;rw[ev,List.getElem?_set_ne (by omega)];exact h1
theorem qC.more{X:RX}{q q':DP}{c m i s Q:Nat}(h:qC X q c m i s)(e:q'=(q.var (c+1) (ptr Q)).scope ((c+1:Nat):Int)):qC X q' (c+1) m i s:=by
 subst e;refine⟨h.wk,h.jc,h.sin,h.lv,h.ro,h.se,h.held,?_,h.rl,h.rk,h.ti⟩;show q.sc++[((c+1:Nat):Int)]=_;rw[h.sc,bU (n:=c+1),bH];rfl
theorem yi4(X:RX)(d:MD)(u:World)(i s F FA b1 b2 b3:Nat)(cs csA:Array Value)(h:St X d u)(x:EX X d u i i i s)(hC:vY X F FA cs csA)(hL:wZ X (i+1) FA 278 csA #[ptr b1,ptr b2,ptr b3])(k1:Od X b1 #[ptr X.M])(k2:Od X b2 #[.slice none 0 0])(k3:Od X b3 #[.func (.func 275) #[] #[]])(qZ:i+1<X.nv)(hi:i<=90)(hs:s<=1000)(hce:2*i+5<=X.ce)(htk:3*s<X.tk):Calls Tryz.prog F (#[ptr X.F]++cs) u fun e w'=>kK X d u (fun way d' w'=>way=.nilIface/\qC X d'.p (i+1) (i+1) i (s+1)/\sS X (i+1) d' w') e w':=by
 refine MH X d u F FA cs csA (fun q=>qC X q (i+1) (i+1) i (s+1)) (sS X (i+1)) h hC (by rw[hL.fa];exact yb4) (by have:=x.p.rl;have e:d.p.recs=d.recs:=rfl;rw[e] at this;omega) (by have:=x.p.ti;have e:d.p.ti=d.ti:=rfl;omega) (fun q hq=>hq.ln _) (fun d1 w1 d2 w2 h1 h2 h3=>h1.step h2 h3) (fun L d3 w3 h1 h2=>?_);have hp:qC X d3.p i i i (s+1):=by rw[h2];exact x.p.begun _ _
 have hB3:sS X i d3 w3:=sS.step ⟨x.v,x.t⟩ h1 (aJ DP.vs h2);obtain⟨S,hW,hb⟩:=hp.wk;have hnt:=hW.w.nt;have pW:=hW.li;have e2:d3.p.lv=0:=hp.lv;have e3:d3.p.sin=i+i + 3:=hp.sin;have e4:d3.p.jc=i+i + 3:=hp.jc;have e1:d3.p.held=[]:=hp.held;have ht:=UU X d3 w3 d3.p S b1 b2 b3 k1 k2 k3 ⟨hb,fun j hj=>by rw[pW] at hj;rw[hnt];exact dY.1 hj,by omega,by rw[pW,List.length_range];omega,by omega,by omega,by rw[e1];simp⟩;rw[hnt] at ht;have hw:∀q,tX X d3.p S q->vW X d3.p 1 (i+1) i q:=fun q hq=>by
  obtain⟨K,B,ta,tc,la,lc,h3,h4⟩:=hq;exact⟨_,hW.add,h3,h4⟩
 refine(yb5 X d3 w3 (i+1) FA _ csA _ (jr (i+2)) _ h1.s hL qZ (ht.mono hw) (fun q hq=>?_)).mono ?_
 ·have:=(hp.Vk hq (by omega)).sc;rw[this];simp;omega
 ·rintro e w' ⟨way,d',rfl,hs',rfl,Q,q,hq,ep,hQ⟩;exact⟨_,d',rfl,hs',rfl,(hp.Vk hq (by omega)).more ep,hB3.1.more hs' hq.vs ep qZ hQ,hB3.2.step hs'⟩
structure Yl(X:RX)(p:DP):Prop where
 wk:qw X p ug
 jc:p.jc=0
 sin:p.sin=0
 lv:p.lv=0
 ro:p.ro=0
 se:p.se=0
 held:p.held=[]
 sc:p.sc=[]
 recs:p.recs=[]
 ti:p.ti=0
theorem zx9(X:RX)(d:MD)(u:World)(F FA FE:Nat)(cs csA kT:Array Value)(h:St X d u)(x:Yl X d.p)(t:lX X d u)(hC:vY X F FA cs csA)(hL:wZ X 0 FA FE csA kT)(hK:Ro X FE kT)(qZ:0<X.nv)(hce:3<=X.ce)(htk:3<X.tk):Calls Tryz.prog F (#[ptr X.F]++cs) u fun e w'=>kK X d u (fun way d' w'=>way=.nilIface/\qC X d'.p 0 0 0 1/\sS X 0 d' w') e w':=by
 have r0:d.recs=[]:=x.recs;have t0:d.ti=0:=x.ti;refine MH X d u F FA cs csA (fun q=>qC X q 0 0 0 1) (sS X 0) h hC (by rw[hL.fa];exact yb4) (by rw[r0];simp) (by omega) (fun q hq=>hq.ln _) (fun d1 w1 d2 w2 h1 h2 h3=>h1.step h2 h3) (fun L d3 w3 h1 h2=>?_);have e3:d3.p.sin=0:=by rw[h2];exact x.sin
 have e4:d3.p.jc=0:=by rw[h2];exact x.jc
 have e2:d3.p.lv=0:=by rw[h2];exact x.lv
 have e1:d3.p.held=[]:=by rw[h2];exact x.held
 have e5:d3.p.ti=1:=by rw[h2];show d.p.ti+1=1;rw[x.ti]
 have e6:d3.p.sc=[]:=by rw[h2];exact x.sc
 have e7:d3.p.ro=0:=by rw[h2];exact x.ro
 have e8:d3.p.se=0:=by rw[h2];exact x.se
 have e9:d3.p.recs=[⟨1,0,X.fn,L,⟨#[]⟩⟩]:=by rw[h2];show d.p.recs++_=_;rw[x.recs];rfl
 have ht:=yz4 X d3 w3 d3.p FE kT hK (by rw[h2];exact x.wk) (by omega) (by omega) (by omega) (by rw[e1];simp);refine(yb5 X d3 w3 0 FA FE csA kT (jr 0) _ h1.s hL qZ ht (fun q hq=>?_)).mono ?_
 ·obtain⟨S,_,_,eq⟩:=hq;have:q.sc=d3.p.sc:=by rw[eq];rfl
  rw[this,e6];simp
 ·rintro e w' ⟨way,d',rfl,hs',rfl,Q,q,⟨S,hW,hb,eq⟩,ep,hQ⟩;have hv:d'.vs=q.vs.set 0 (ptr Q):=aJ DP.vs ep;have hl:d'.vs.length=X.nv:=hs'.s.nv;refine⟨_,d',rfl,hs',rfl,?_,?_,(t.step h1).step hs'⟩
  ·rw[ep];refine⟨⟨S,hW,hb⟩,?_,?_,?_,?_,?_,?_,?_,?_,?_,?_⟩
   ·show q.jc=3;rw[eq];show d3.p.jc+3=3;omega
   ·show q.sin=3;rw[eq];show d3.p.sin+3=3;omega
   ·show q.lv=0;rw[eq];exact e2
   ·show q.ro=0;rw[eq];exact e7
   ·show q.se=0;rw[eq];exact e8
   ·show q.held=[];rw[eq];exact e1
   ·show q.sc++[((0:Nat):Int)]=_;have:q.sc=d3.p.sc:=by rw[eq];rfl
    rw[this,e6];rfl
   ·show q.recs.length=1;have:q.recs=d3.p.recs:=by rw[eq];rfl
    rw[this,e9];rfl
   ·intro y hy;have:q.recs=d3.p.recs:=by rw[eq];rfl
    have hy':y∈q.recs:=hy;rw[this,e9] at hy';rw[List.mem_singleton.1 hy'];show(1:Int)≠6;decide
   ·show q.ti<=3;have:q.ti=d3.p.ti+1:=by rw[eq];rfl
    omega
  ·intro j hj;obtain rfl:j=0:=by omega
   refine⟨Q,?_,hQ⟩;rw[hv];rw[hv,List.length_set] at hl;simp[hl,qZ]
def tK(l:List lU):List ByteArray:=(l.filter fun x=>x.k==6).map lU.s
theorem z89(l m:List lU):tK (l++m)=tK l++tK m:=by simp[tK]
theorem yj6{l:List lU}(h:∀x∈l,x.k≠6):tK l=[]:=by
 have:l.filter (fun x=>x.k==6)=[]:=List.filter_eq_nil_iff.2 fun x hx=>by have:=h x hx;simpa using this
 simp[tK,this]
theorem qC.vars{X:RX}{d:MD}{w:World}{kept m i s:Nat}(h:qC X d.p kept m i s)(hv:vF X d w kept):qB X d w (jS kept):=by
 have hsc:d.sc=(List.range (kept+1)).map fun j:Nat=>(j:Int):=h.sc;refine⟨by rw[Uw,hsc];simp,fun j t ht=>?_⟩;have hj:j<kept+1:=by
  have:=(aP.1 ht).1;rw[Uw] at this;exact this
 obtain⟨Q,h1,h2⟩:=hv j hj;have et:t=tbJ j:=by
  cases j with
  |zero=>
   have:some 0=some t:=ht;exact(aQ this).symm
  |succ j=>
   rw[yq9 (by omega)] at ht;exact(aQ ht).symm
 subst et;exact⟨j,Q,by rw[hsc];simp[hj],h1,h2.1,h2.2⟩
def Rk(X:RX)(F:Nat)(cs:Array Value):Prop:=∃a1 a2 bb p1 p2 A nd,F=197/\cs = #[ptr a1,ptr a2]/\Od X a1 #[iE 246 #[ptr p1,ptr p2]]/\Od X a2 #[ptr bb]/\Od X bb #[ptr X.M,nd]/\Od X p1 #[iE 232 #[ptr A]]/\Od X A (vA (oh 13))/\Od X p2 #[iE 213 #[]]
def Cj(X:RX)(F FE:Nat)(cs kT:Array Value):Prop:=∃a1 a2 bb p1 p2 A nd l1 l2 b1 B c a,F=197/\cs = #[ptr a1,ptr a2]/\Od X a1 #[iE 246 #[ptr p1,ptr p2]]/\Od X a2 #[ptr bb]/\Od X bb #[ptr X.M,nd]/\Od X p1 #[iE 232 #[ptr A]]/\Od X A (vA (oh 0))/\Od X p2 #[iE 214 #[ptr l1,ptr l2,ptr b1]]/\Od X l1 #[iE 251 #[ptr B]]/\Od X B #[.slice a 0 c]/\(∀b,a=some b->b.block≠X.M)/\Od X l2 #[iE FE kT]
theorem ys4(X:RX)(d:MD)(u:World)(p:DP)(F FE:Nat)(cs kT:Array Value)(v:VD)(tx:VD->ByteArray)(R:DP->Prop)(hC:Cj X F FE cs kT)(hT:zK X tx [v])(hj:(mQ tx [v]).size<=4000)(hp:p.held.length<=100)(hR:∀q,R q->q.held.length<=100/\q.ti<X.tk/\q.recs.length<5000)(hE:qI X FE kT d u (p.hold [oh 0]) [v] (fun q'=>∃q2,R q2/\q'=q2.hold [oh 0])):qI X F cs d u p [] (fun q'=>∃q,R q/\q'=q.tick.D8 ⟨6,0,X.fn,q.line,mQ tx [v]⟩):=by
 obtain⟨a1,a2,bb,p1,p2,A,nd,l1,l2,b1,B,c,a,rfl,rfl,k1,k2,kb,Ja,kA,Dq,Xh,kB,hrm,Xg⟩:=hC;refine Uy X d u p a1 a2 bb p1 p2 A 214 0 #[ptr l1,ptr l2,ptr b1] nd [v] [] R _ k1 k2 kb Ja kA Dq (by omega) ?_ (fun q hq=>⟨by have:=(hR q hq).1;omega,(hR q hq).2.1⟩) (by omega) (fun d1 w1 a' c' h1 h2 h3=>?_)
 ·exact yp0 X d u (p.hold [oh 0]) l1 l2 b1 B c FE a kT [v] _ Xh kB hrm Xg hE (by show 0<(p.held++[oh 0]).length;simp) (by show(p.held++[oh 0]).length<=800;simp;omega) (fun q hq=>by
   obtain⟨q2,h1,rfl⟩:=hq;have:=(hR q2 h1).1;show(q2.held++[oh 0]).length<=800;simp;omega) (by simp) (by simp)
 ·obtain⟨q,hq,he⟩:=h2;rcases h3 with⟨h0,_⟩|⟨_,g,rfl,_,hg⟩
  ·exact absurd h0 (by simp)
  ·have er:d1.recs=q.recs:=aJ DP.recs he;have el:d1.line=q.line:=aJ DP.line he;refine(z14 X d1 g c' 1 [v] tx w1 h1.s hT hg rfl (by omega) (by omega) hj (by rw[er];exact(hR q hq).2.2)).mono ?_;rintro e w' ⟨ar,cr,d2,rfl,hla,fJ,e2⟩;exact⟨ar,cr,d2,rfl,hla,fJ,q,hq,by rw[e2,he,el]⟩
theorem j15(X:RX)(d:MD)(u:World)(p:DP)(F n kept:Nat)(cs:Array Value)(hC:Rk X F cs)(hp:p.held.length<=100)(ht:p.ti<X.tk)(XT:∀d1 w1,Sp X d u d1 w1->d1.p=p.tick->Calls Tryz.prog 302 #[ptr X.M] w1 fun e w'=>e=.returned (.int .i64 ((3+2*kept:Nat):Int))/\MB X d1 n kept w1 w'):qI X F cs d u p [mG (3+2*kept)] (MN X p.tick n kept):=by
 obtain⟨a1,a2,bb,p1,p2,A,nd,rfl,rfl,k1,k2,kb,Ja,kA,Dq⟩:=hC;refine Uy X d u p a1 a2 bb p1 p2 A 213 13 #[] nd [] [mG (3+2*kept)] (·=p) _ k1 k2 kb Ja kA Dq (by omega) (BO.mono fun q e=>⟨p,rfl,e⟩) (fun q e=>by rw[e];exact⟨by omega,ht⟩) (by omega) (fun d1 w1 a c h1 h2 h3=>?_);obtain⟨q,rfl,he⟩:=h2;refine(z16 X d1 w1 n kept c a h1.s (fun w hb=>?_)).mono ?_
 ·exact XT d1 w (h1.call hb) he
 ·rintro e w' ⟨ar,cr,d2,rfl,hla,fJ,hq⟩;rw[he] at hq;exact⟨ar,cr,d2,rfl,hla,fJ,hq⟩
def KG(X:RX)(FA F:Nat)(csA cs:Array Value):Prop:=∃x,FA=172/\csA = #[ptr x]/\Od X x #[iE F cs]
theorem KG.ent{X:RX}{FA F:Nat}{csA cs:Array Value}(h:KG X FA F csA cs):tq FA:=by
 obtain⟨x,rfl,_⟩:=h;exact enters_of Tryz.func172 (by kernel_rfl) rfl
theorem yu2(X:RX)(d:MD)(u:World)(FA F:Nat)(csA cs:Array Value)(l:List VD)(R:DP->Prop)(h:St X d u)(hC:KG X FA F csA cs)(hl:qI X F cs d u d.p l R):Calls Tryz.prog FA (#[ptr X.F]++csA) u fun e w'=>kK X d u (fun way d' _=>way=.nilIface/\R d'.p) e w':=by
 obtain⟨x,rfl,rfl,k⟩:=hC;exact ye1 X d u x F cs l R h k hl
structure Yk(X:RX):Prop where
 fl:X.fl=1
 c:mX X.cal
 r:∃ra rc,X.rest=.slice ra 0 rc
structure JJ(X:RX)(p:DP)(n kept s:Nat)(l:List ByteArray):Prop where
 wk:∃S,qw X p S/\nJ S n kept/\∀j,j<kept+2->S.tv j=ptr (S.K j)
 jc:p.jc=n+n + 3
 held:p.held=[]
 sc:p.sc=(List.range (kept+1)).map fun j:Nat=>(j:Int)
 pr:tK p.recs=l
 rl:p.recs.length=s+1
 ti:p.ti<=3*s
theorem JJ.ln{X:RX}{p:DP}{n kept s:Nat}{l:List ByteArray}(h:JJ X p n kept s l)(L:Int):JJ X (p.ln L) n kept s l:=⟨h.wk,h.jc,h.held,h.sc,h.pr,h.rl,h.ti⟩
theorem j78(b:Int):mX (oh b):=by constructor<;>simp
theorem ze7(X:RX)(d:MD)(u:World)(n kept s F FA FP FE:Nat)(cs csA sO kT:Array Value)(tx:VD->ByteArray)(h:St X d u)(x:EX X d u kept n n s)(hX:Yk X)(hC:vY X F FA cs csA)(hD:KG X FA FP csA sO)(hP:Cj X FP FE sO kT)(hE:Rk X FE kT)(hT:zK X tx [mG (3+2*kept)])(hj:(mQ tx [mG (3+2*kept)]).size<=4000)(hk:kept<=n)(hn:n<=90)(hs:s<=1000)(htk:3*s+3<X.tk):Calls Tryz.prog F (#[ptr X.F]++cs) u fun e w'=>kK X d u (fun way d' w'=>way=.nilIface/\JJ X d'.p n kept (s+1) [mQ tx [mG (3+2*kept)]]/\sS X kept d' w') e w':=by
 refine MH X d u F FA cs csA (fun q=>JJ X q n kept (s+1) [mQ tx [mG (3+2*kept)]]) (sS X kept) h hC hD.ent (by have:=x.p.rl;have e:d.p.recs=d.recs:=rfl;rw[e] at this;omega) (by have:=x.p.ti;have e:d.p.ti=d.ti:=rfl;omega) (fun q hq=>hq.ln _) (fun d1 w1 d2 w2 h1 h2 h3=>h1.step h2 h3) (fun L d3 w3 h1 h2=>?_);have hp:qC X d3.p kept n n (s+1):=by rw[h2];exact x.p.begun _ _
 have hti:d3.p.ti<=3*s+1:=by rw[h2];show d.p.ti+1<=_;have:=x.p.ti;omega
 have hB3:sS X kept d3 w3:=sS.step ⟨x.v,x.t⟩ h1 (aJ DP.vs h2);obtain⟨S,hW,hb⟩:=hp.wk;have e1:d3.p.held=[]:=hp.held;have hcl:=j15 X d3 w3 (d3.p.hold [oh 0]) FE n kept kT hE (by show(d3.p.held++[oh 0]).length<=100;rw[e1];simp) (by show d3.p.ti<X.tk;omega) (fun d1 w1 k1 k2=>by
  have eh:d1.held=[oh 0]:=by
   have:d1.held=d3.p.held++[oh 0]:=aJ DP.held k2;rw[this,e1];rfl
  have er:d1.ro=0:=(aJ DP.ro k2).trans hp.ro;have es:d1.se=0:=(aJ DP.se k2).trans hp.se;have hpv:d1.sc=d3.sc:=aJ DP.sc k2;have hvv:d1.vs=d3.vs:=aJ DP.vs k2;refine zc6 X d1 S w1 n kept k1.s (qw.to (by rw[k2];exact hb)) (hB3.2.step k1) ((hp.vars hB3.1).step k1 hpv hvv) hW.w hk (by omega) (fun j hj=>hW.tv j hj) hW.li (fun j=>by rw[hW.se j];omega) (by omega) (by omega) ⟨hX.fl,fun v hv=>?_,by rw[eh];simp,hX.c,hX.r⟩;rw[eh] at hv;rw[List.mem_singleton.1 hv];exact j78 0)
 have hls:=ys4 X d3 w3 d3.p FP FE sO kT (mG (3+2*kept)) tx (MN X d3.p.tick n kept) hP hT hj (by rw[e1];simp) (fun q hq=>by
  obtain⟨S',_,_,_,eq⟩:=hq;have a1:q.held=d3.p.held:=by rw[eq];rfl
  have a2:q.ti=d3.p.ti+1:=by rw[eq];rfl
  have a3:q.recs=d3.p.recs:=by rw[eq];rfl
  have:=hp.rl;rw[a1,a2,a3,e1];exact⟨by simp,by omega,by omega⟩) (hcl.mono fun q hq=>by
  obtain⟨S',t1,t2,t3,eq⟩:=hq;exact⟨{d3.p.tick with lv:=3+2*kept,ro:=d3.p.ro+2,se:=d3.p.ro+2,sin:=0,jA:=q.jA,tb:=q.tb,TP:=q.TP},⟨S',⟨t1.1,t1.2.1,by have:=t1.2.2.1;rw[eq] at this;exact this,t1.2.2.2⟩,t2,t3,rfl⟩,by rw[eq];rfl⟩)
 refine(yu2 X d3 w3 FA FP csA sO [] _ h1.s hD hls).mono ?_;rintro e w' ⟨way,d',rfl,hs',rfl,q,⟨S',t1,t2,t3,eq⟩,hq⟩;refine⟨_,d',rfl,hs',rfl,?_,hB3.step hs' ?_⟩
 ·rw[hq];have a3:q.recs=d3.p.recs:=by rw[eq];rfl
  refine⟨⟨S',t1,t2,t3⟩,?_,?_,?_,?_,?_,?_⟩
  ·show q.jc=_;rw[eq];exact hp.jc
  ·show q.held=_;rw[eq];exact e1
  ·show q.sc=_;rw[eq];exact hp.sc
  ·show tK (q.recs++[_])=_;rw[z89,a3,yj6 hp.rk];rfl
  ·show(q.recs++[_]).length=_;rw[a3];simp[hp.rl]
  ·show q.ti+1<=_;have:q.ti=d3.p.ti+1:=by rw[eq];rfl
   omega
 ·have:d'.vs=q.vs:=aJ DP.vs hq;rw[this,eq];rfl
def Es(p:DP)(f L:Int)(s:ByteArray):DP:=(((p.begun f L).tick).D8 ⟨6,0,f,L,s⟩).ln p.line
def LW(X:RX)(j F:Nat)(cs:Array Value):Prop:=∃FA FP csA sO a3 Vb,vY X F FA cs csA/\KG X FA FP csA sO/\Cj X FP 200 sO #[ptr a3]/\Od X a3 #[iE 218 #[ptr Vb]]/\Od X Vb #[.int .i64 (j:Int)]
theorem j70(X:RX)(d:MD)(u:World)(j Q F:Nat)(cs:Array Value)(v:VD)(tx:VD->ByteArray)(h:St X d u)(hC:LW X j F cs)(hv:d.vs[j]?=some (ptr Q))(hQ:Bx X d u Q (vA v))(hT:zK X tx [v])(hj:(mQ tx [v]).size<=4000)(hh:d.held.length<=100)(hl:d.recs.length<3000)(ht:d.ti+1<X.tk):Calls Tryz.prog F (#[ptr X.F]++cs) u fun e w'=>kK X d u (fun way d' _=>way=.nilIface/\∃L,d'.p=Es d.p X.fn L (mQ tx [v])) e w':=by
 obtain⟨FA,FP,csA,sO,a3,Vb,⟨s1,s2,s3,bb,nd,A2,L,rfl,rfl,k1,kb,k2,hA,k3⟩,hD,hP,Xi,kV⟩:=hC;refine(ZX X d s1 s2 s3 bb FA csA nd A2 L (fun way d' _=>way=.nilIface/\d'.p=((d.p.begun X.fn L).tick).D8 ⟨6,0,X.fn,L,mQ tx [v]⟩) u h k1 kb k2 hA k3 hD.ent (by omega) (by omega) (fun d3 w3 h1 h2=>?_)).mono ?_
 ·have e1:d3.held=d.held:=aJ DP.held h2;have e2:d3.ti=d.ti+1:=aJ DP.ti h2;have e3:d3.recs=d.recs++[_]:=aJ DP.recs h2;have e4:d3.vs=d.vs:=aJ DP.vs h2;have hls:=ys4 X d3 w3 d3.p FP 200 sO #[ptr a3] v tx (·=d3.p) hP hT hj (by show d3.held.length<=100;rw[e1];exact hh) (fun q e=>by
   rw[e];refine⟨by show d3.held.length<=100;rw[e1];exact hh,by show d3.ti<X.tk;omega,?_⟩;show d3.recs.length<5000;rw[e3];simp;omega) (ys7 X 218 a3 #[ptr Vb] d3 w3 _ v _ Xi ((QM kV (by show d3.vs[j]?=_;rw[e4];exact hv) (hQ.step h1)).mono fun q e=>⟨d3.p,rfl,e⟩))
  refine(yu2 X d3 w3 FA FP csA sO [] _ h1.s hD hls).mono ?_;rintro e w' ⟨way,d',rfl,hs',rfl,q,rfl,hq⟩;refine⟨_,d',rfl,hs',rfl,?_⟩;rw[hq,h2];rfl
 ·rintro e w' ⟨way,d',rfl,hs,d4,w4,⟨rfl,h1⟩,fO,e4⟩;refine⟨_,d',rfl,hs,rfl,L,?_⟩;rw[e4,h1];rfl
def Ah(X:RX)(G F:Nat)(gs cs:Array Value):Prop:=∃k1 a rc,G=168/\gs = #[ptr k1]/\Od X k1 #[.slice a 1 rc]/\(iF 1 0 X.W a 1 fun _=>#[iE F cs])/\∀b,a=some b->b.block≠X.M
theorem Ah.ent{X:RX}{G F:Nat}{gs cs:Array Value}(h:Ah X G F gs cs):tq G:=by
 obtain⟨_,_,_,rfl,_⟩:=h;exact enters_of Tryz.func168 (by kernel_rfl) rfl
theorem LW.ent{X:RX}{j F:Nat}{cs:Array Value}(h:LW X j F cs):tq F:=by
 obtain⟨_,_,_,_,_,_,h,_⟩:=h;exact h.ent
theorem j20(X:RX)(d:MD)(u:World)(j Q G F:Nat)(gs cs:Array Value)(v:VD)(tx:VD->ByteArray)(h:St X d u)(hG:Ah X G F gs cs)(hC:LW X j F cs)(hv:d.vs[j]?=some (ptr Q))(hQ:Bx X d u Q (vA v))(hT:zK X tx [v])(hj:(mQ tx [v]).size<=4000)(hh:d.held.length<=100)(hl:d.recs.length<3000)(ht:d.ti+1<X.tk):Calls Tryz.prog G (#[ptr X.F]++gs) u fun e w'=>kK X d u (fun way d' _=>way=.nilIface/\∃L,d'.p=(Es d.p X.fn L (mQ tx [v])).wU d.sc.length) e w':=by
 obtain⟨k1,a,rc,rfl,rfl,kk,gJ,hrm⟩:=hG;refine(qq9 X d u k1 1 rc a (fun _=>F) (fun _=>cs) (fun k d1 _=>if k=0 then d1.p=d.p else ∃L,d1.p=Es d.p X.fn L (mQ tx [v])) h kk gJ hrm rfl (fun _ _=>hC.ent) (by omega) (fun k hk d1 w1 h1 h2=>?_) (fun d1 w1 h1=>?_)).mono ?_
 ·obtain rfl:k=0:=by omega
  have e:d1.p=d.p:=h2;refine(j70 X d1 w1 j Q F cs v tx h1.s hC (by have:d1.vs=d.vs:=aJ DP.vs e;rw[this];exact hv) (hQ.step h1) hT hj (by have:d1.held=d.held:=aJ DP.held e;rw[this];exact hh) (by have:d1.recs=d.recs:=aJ DP.recs e;rw[this];exact hl) (by have:d1.ti=d.ti:=aJ DP.ti e;omega)).mono ?_;rintro e' w' ⟨way,d',rfl,hs,rfl,L,hp⟩;exact⟨_,d',rfl,hs,rfl,L,by rw[hp,e]⟩
 ·obtain⟨L,e⟩:∃L,d1.p=Es d.p X.fn L (mQ tx [v]):=h1;have:d1.sc=d.sc:=aJ DP.sc e;rw[this];exact ah _
 ·rintro e w' ⟨way,d',rfl,hs,rfl,d1,w1,⟨L,e1⟩,fH,e2⟩;exact⟨_,d',rfl,hs,rfl,L,by rw[e2,e1]⟩
def xB(X:RX)(i1 i2 FA G:Nat)(csA gs:Array Value):Prop:=∃x1 x2 x3 x4 rb ro rc A3 Vs,FA=210/\csA = #[ptr x1,ptr x2,ptr x3,ptr x4]/\Od X x1 #[ptr X.M]/\Od X x2 #[iE 218 #[ptr Vs]]/\Od X Vs #[.int .i64 ((0:Nat):Int)]/\Od X x3 A3/\A3[6]?=some (.slice (some ⟨rb,ro,none⟩) 2 rc)/\Oo X rb ro (.int .i64 (i1:Int))/\Oo X rb (ro+1) (.int .i64 (i2:Int))/\Od X x4 #[iE G gs]
theorem xB.ent{X:RX}{i1 i2 FA G:Nat}{csA gs:Array Value}(h:xB X i1 i2 FA G csA gs):tq FA:=by
 obtain⟨_,_,_,_,_,_,_,_,_,rfl,_⟩:=h;exact enters_of Tryz.func210 (by kernel_rfl) rfl
structure EJ(X:RX)(S:TS)(n kept s:Nat)(tx:VD->ByteArray)(l:List ByteArray)(k:Nat)(q:DP):Prop where
 o:qw X q S
 jc:q.jc=n+n + 3
 held:q.held=[jr 0]
 sc:q.sc=(List.range (kept+1)).map fun j:Nat=>(j:Int)
 pr:tK q.recs=l++(List.range k).map fun i:Nat=>mQ tx [mG i]
 rl:q.recs.length=s+2 + 2*k
 ti:q.ti<=3*s+1 + 3*k
structure JI(X:RX)(p:DP)(n kept:Nat)(tx:VD->ByteArray)(l:List ByteArray):Prop where
 jc:p.jc=n+n + 3
 held:p.held=[]
 sc:p.sc=(List.range (kept+1)).map fun j:Nat=>(j:Int)
 pr:tK p.recs=l++(List.range kept).map fun i:Nat=>mQ tx [mG i]
 rl:p.recs.length<=2000
 tb:∃S,qw X p S
theorem JI.ln{X:RX}{p:DP}{n kept:Nat}{tx:VD->ByteArray}{l:List ByteArray}(h:JI X p n kept tx l)(L:Int):JI X (p.ln L) n kept tx l:=⟨h.jc,h.held,h.sc,h.pr,h.rl,h.tb⟩
theorem yy3(l:List lU)(f L M:Int)(s:ByteArray):tK (l++[⟨1,0,f,L,⟨#[]⟩⟩]++[⟨6,0,f,M,s⟩])=tK l++[s]:=by
 rw[z89,z89];have e1:tK [(⟨1,0,f,L,⟨#[]⟩⟩:lU)]=[]:=rfl;have e2:tK [(⟨6,0,f,M,s⟩:lU)]=[s]:=rfl;rw[e1,e2,bM]
theorem y66(X:RX)(d:MD)(u:World)(n kept s F FA G FB:Nat)(cs csA gs csB:Array Value)(tx:VD->ByteArray)(l:List ByteArray)(h:St X d u)(x:JJ X d.p n kept s l)(xb:sS X kept d u)(hC:vY X F FA cs csA)(hE:xB X (kept+1) (kept+2) FA G csA gs)(hG:Ah X G FB gs csB)(hP:LW X (kept+2) FB csB)(hT:∀i,i<kept->zK X tx [mG i])(hj:∀i,i<kept->(mQ tx [mG i]).size<=4000)(hk:kept<=90)(hs:s<=500)(qZ:kept+2<X.nv)(htk:3*s+3*kept+10<X.tk):Calls Tryz.prog F (#[ptr X.F]++cs) u fun e w'=>kK X d u (fun way d' _=>way=.nilIface/\JI X d'.p n kept tx l/\True) e w':=by
 refine MH X d u F FA cs csA (fun q=>JI X q n kept tx l) (fun _ _=>True) h hC hE.ent (by have:=x.rl;have e:d.p.recs=d.recs:=rfl;rw[e] at this;omega) (by have:=x.ti;have e:d.p.ti=d.ti:=rfl;omega) (fun q hq=>hq.ln _) (fun _ _ _ _ _ _ _=>trivial) (fun L d3 w3 h1 h2=>?_);obtain⟨S,hb,hW,oQ⟩:=x.wk;have eH:qw X d3.p S:=by rw[h2];exact hb
 have e1:d3.p.held=[]:=by rw[h2];exact x.held
 have e2:d3.p.sc=(List.range (kept+1)).map fun j:Nat=>(j:Int):=by rw[h2];exact x.sc
 have e3:d3.p.recs=d.p.recs++[⟨1,0,X.fn,L,⟨#[]⟩⟩]:=by rw[h2];rfl
 have e4:d3.p.ti<=3*s+1:=by rw[h2];show d.p.ti+1<=_;have:=x.ti;omega
 have e5:d3.p.jc=n+n + 3:=by rw[h2];exact x.jc
 obtain⟨Q,hv,hQ⟩:=(xb.1.step h1 (aJ DP.vs h2)) 0 (by omega);obtain⟨x1,x2,x3,x4,rb,ro,rc,A3,Vs,rfl,rfl,k1,k2,kV,k3,hA,fG,hr2,k4⟩:=hE;have h0:d3.held=[]:=e1;refine(zp5 X d3 w3 x1 x2 x3 x4 rb ro rc (kept+1) (kept+2) 218 G 0 kept #[ptr Vs] gs A3 S (some 1) (EJ X S n kept s tx l) h1.s eH.to k1 k2 k3 hA fG hr2 (by omega) qZ k4 (QM kV hv hQ.bx) (by rw[hW.nt];omega) (oQ 0 (by omega)) hW.wE.1 (hW.sets (by decide)) hW.p0 hW.t0 (by omega) (by rw[h0];simp) ?_ (fun k q _ hq=>by have:=hq.ti;omega) (fun k q _ hq=>by rw[hq.sc];simp;omega) (fun q hq=>by rw[hq.held,h0];rfl) hG.ent ?_).mono ?_
 ·refine⟨eH,e5,by show d3.p.held++_=_;rw[e1];rfl,e2,?_,?_,e4⟩
  ·show tK d3.p.recs=_;rw[e3,z89,x.pr];rfl
  ·show d3.p.recs.length=_;rw[e3];simp[x.rl]
 ·intro k d1 d2 w1 w2 Q1 Q2 hkk fH ho1 hJ fJ he hB1 hB2;obtain⟨q,hq,hq1⟩:=hJ;have ev:d2.vs=(d1.vs.set (kept+1) (ptr Q1)).set (kept+2) (ptr Q2):=aJ DP.vs he;have esc:d2.sc=d1.sc++[((kept+1:Nat):Int)]++[((kept+2:Nat):Int)]:=aJ DP.sc he;have gG:d2.vs.length=X.nv:=fJ.s.nv;have eh:d2.held=[jr 0]:=by
   have a:d2.held=d1.held:=aJ DP.held he;have b:d1.held=q.held:=aJ DP.held hq1;rw[a,b,hq.held]
  have er:d2.recs=q.recs:=by
   have a:d2.recs=d1.recs:=aJ DP.recs he;have b:d1.recs=q.recs:=aJ DP.recs hq1;rw[a,b]
  have et:d2.ti=q.ti+1:=by
   have a:d2.ti=d1.ti:=aJ DP.ti he;have b:d1.ti=q.ti+1:=aJ DP.ti hq1;rw[a,b]
  have es1:d1.sc=q.sc:=aJ DP.sc hq1;have hval:((S.D 0).q k).val=mG k:=hW.v0 k hkk;rw[hval] at hB2;have hrl:=hq.rl;have hti:=hq.ti;refine(j20 X d2 w2 (kept+2) Q2 G FB gs csB (mG k) tx fJ.s hG hP ?_ hB2 (hT k hkk) (hj k hkk) (by rw[eh];simp) (by rw[er];omega) (by omega)).mono ?_
  ·rw[ev];rw[ev,List.length_set,List.length_set] at gG;simp[gG,qZ]
  ·rintro e w' ⟨way,d',rfl,hs',rfl,M,hp⟩;have OD:d'.sc=d2.sc:=by
    have:d'.sc=d2.sc.take d2.sc.length:=aJ DP.sc hp;rw[this,List.take_length]
   have ho':qw X d'.p S:=by
    have:=ho1.tp;have a:qw X d2.p S:=by rw[he];exact this
    rw[hp];exact a
   refine⟨_,d',rfl,hs',rfl,ho'.to,?_,?_⟩
   ·rw[OD,esc];simp
   ·refine⟨ho',?_,?_,?_,?_,?_,?_⟩
    ·show d'.p.jc=_;rw[hp];show d2.p.jc=_;rw[he];show d1.p.jc=_;rw[hq1];exact hq.jc
    ·show d'.p.held=_;rw[hp];exact eh
    ·show d'.sc.take d1.sc.length=_;rw[OD,esc,List.append_assoc,List.take_left,es1];exact hq.sc
    ·show tK d'.p.recs=_;have a:d'.p.recs=d2.recs++[⟨1,0,X.fn,M,⟨#[]⟩⟩]++[⟨6,0,X.fn,M,mQ tx [mG k]⟩]:=by rw[hp];rfl
     rw[a,yy3,er,hq.pr,bU,bH,List.append_assoc];rfl
    ·show d'.p.recs.length=_;have a:d'.p.recs=d2.recs++[⟨1,0,X.fn,M,⟨#[]⟩⟩]++[⟨6,0,X.fn,M,mQ tx [mG k]⟩]:=by rw[hp];rfl
     rw[a,er];simp[hrl];omega
    ·show d'.p.ti<=_;have a:d'.p.ti=d2.ti+1 + 1:=by rw[hp];rfl
     rw[a];omega
 ·rintro e w' ⟨way,d',rfl,hs',rfl,q,hq,hp⟩;refine⟨_,d',rfl,hs',rfl,?_,trivial⟩;rw[hp];refine⟨hq.jc,?_,hq.sc,hq.pr,?_,S,hq.o⟩
  ·show q.held.take d3.held.length=[];rw[h0];rfl
  ·have:=hq.rl;show q.recs.length<=2000;omega
def JL(X:RX)(b1 b2 b3:Nat):Prop:=Od X b1 #[ptr X.M]/\Od X b2 #[.slice none 0 0]/\Od X b3 #[.func (.func 275) #[] #[]]
structure pX(X:RX)(n kept:Nat)(Fs:Nat->Nat)(Cs:Nat->Array Value):Prop where
 first:∃FA csA FE kT,vY X (Fs 0) FA (Cs 0) csA/\wZ X 0 FA FE csA kT/\Ro X FE kT
 J9:∀i,i<kept->∃FA csA b1 b2 b3,vY X (Fs (1+2*i)) FA (Cs (1+2*i)) csA/\wZ X (i+1) FA 278 csA #[ptr b1,ptr b2,ptr b3]/\JL X b1 b2 b3
 Ih:∀i,i<kept->∃FA csA Wb,vY X (Fs (2+2*i)) FA (Cs (2+2*i)) csA/\yF X 0 i FA 218 csA #[ptr Wb]/\Od X Wb #[.int .i64 ((i+1:Nat):Int)]
 Ii:∀i,kept<=i->i<n->∃FA csA b1 b2 b3,vY X (Fs (1+kept+i)) FA (Cs (1+kept+i)) csA/\yF X 0 i FA 278 csA #[ptr b1,ptr b2,ptr b3]/\JL X b1 b2 b3
 coll:∃FA csA FP sO FE kT,vY X (Fs (1+kept+n)) FA (Cs (1+kept+n)) csA/\KG X FA FP csA sO/\Cj X FP FE sO kT/\Rk X FE kT
 each:∃FA csA G gs FB csB,vY X (Fs (2+kept+n)) FA (Cs (2+kept+n)) csA/\xB X (kept+1) (kept+2) FA G csA gs/\Ah X G FB gs csB/\LW X (kept+2) FB csB
def zF(X:RX)(n kept:Nat)(tx:VD->ByteArray)(k:Nat)(d:MD)(w:World):Prop:=
 (k=0/\Yl X d.p/\lX X d w)\/(∃i,i<=kept/\k=1+2*i/\EX X d w i i i k)\/(∃i,i<kept/\k=2+2*i/\EX X d w (i+1) (i+1) i k)\/(∃i,kept<=i/\i<=n/\k=1+kept+i/\EX X d w kept i i k)\/(k=2+kept+n/\JJ X d.p n kept k [mQ tx [mG (3+2*kept)]]/\sS X kept d w)\/(k=3+kept+n/\JI X d.p n kept tx [mQ tx [mG (3+2*kept)]])
theorem yi3(X:RX)(n kept:Nat)(tx:VD->ByteArray)(Fs:Nat->Nat)(Cs:Nat->Array Value)(hC:pX X n kept Fs Cs)(hX:Yk X)(hk:kept<=n)(hn:n<=30)(hce:3+2*n<=X.ce)(htk:1000<=X.tk)(qZ:kept+3<=X.nv)(hT:∀i,i<100->zK X tx [mG i])(hj:∀i,i<100->(mQ tx [mG i]).size<=4000)(k:Nat)(hkM:k<3+kept+n)(d:MD)(u:World)(h:St X d u)(x:zF X n kept tx k d u):Calls Tryz.prog (Fs k) (#[ptr X.F]++Cs k) u fun e w'=>kK X d u (fun way d' w'=>way=.nilIface/\zF X n kept tx (k+1) d' w') e w':=by
 have weak:∀{P:MD->World->Prop},(∀d' w',P d' w'->zF X n kept tx (k+1) d' w')->(Calls Tryz.prog (Fs k) (#[ptr X.F]++Cs k) u fun e w'=>kK X d u (fun way d' w'=>way=.nilIface/\P d' w') e w')->Calls Tryz.prog (Fs k) (#[ptr X.F]++Cs k) u fun e w'=>kK X d u (fun way d' w'=>way=.nilIface/\zF X n kept tx (k+1) d' w') e w':=fun hP hc=>hc.mono (by
  rintro e w' ⟨way,d',rfl,hs,rfl,hp⟩;exact⟨_,d',rfl,hs,rfl,hP d' w' hp⟩)
 have four:∀i,kept<=i->i<=n->k=1+kept+i->EX X d u kept i i k->Calls Tryz.prog (Fs k) (#[ptr X.F]++Cs k) u fun e w'=>kK X d u (fun way d' w'=>way=.nilIface/\zF X n kept tx (k+1) d' w') e w':=fun i h1 h2 h3 hx=>by
  by_cases c:i<n
  ·obtain⟨FA,csA,b1,b2,b3,c1,c2,c3⟩:=hC.Ii i h1 c;rw[<-h3] at c1;refine weak (fun d' w' hp=>?_) (y65 X d u kept i k (Fs k) FA b1 b2 b3 (Cs k) csA h hx c1 c2 c3.1 c3.2.1 c3.2.2 (by omega) (by omega) (by omega) (by omega));exact .inr (.inr (.inr (.inl ⟨i+1,by omega,by omega,by omega,hp.1,hp.2.1,hp.2.2⟩)))
  ·obtain rfl:i=n:=by omega
   obtain⟨FA,csA,FP,sO,FE,kT,c1,c2,c3,c4⟩:=hC.coll;rw[<-h3] at c1;refine weak (fun d' w' hp=>?_) (ze7 X d u i kept k (Fs k) FA FP FE (Cs k) csA sO kT tx h hx hX c1 c2 c3 c4 (hT _ (by omega)) (hj _ (by omega)) hk (by omega) (by omega) (by omega));exact .inr (.inr (.inr (.inr (.inl ⟨by omega,hp.1,hp.2⟩))))
 rcases x with⟨rfl,hx,ht⟩|⟨i,h1,h2,hx⟩|⟨i,h1,h2,hx⟩|⟨i,h1,h2,h3,hx⟩|⟨h1,hx,hB⟩|⟨h1,_⟩
 ·obtain⟨FA,csA,FE,kT,c1,c2,c3⟩:=hC.first;refine weak (fun d' w' hp=>?_) (zx9 X d u (Fs 0) FA FE (Cs 0) csA kT h hx ht c1 c2 c3 (by omega) (by omega) (by omega));exact .inr (.inl ⟨0,by omega,rfl,hp.1,hp.2.1,hp.2.2⟩)
 ·by_cases c:i<kept
  ·obtain⟨FA,csA,b1,b2,b3,c1,c2,c3⟩:=hC.J9 i c;rw[<-h2] at c1;refine weak (fun d' w' hp=>?_) (yi4 X d u i k (Fs k) FA b1 b2 b3 (Cs k) csA h hx c1 c2 c3.1 c3.2.1 c3.2.2 (by omega) (by omega) (by omega) (by omega) (by omega));exact .inr (.inr (.inl ⟨i,c,by omega,hp.1,hp.2.1,hp.2.2⟩))
  ·obtain rfl:i=kept:=by omega
   exact four i (by omega) hk (by omega) hx
 ·obtain⟨FA,csA,Wb,c1,c2,c3⟩:=hC.Ih i h1;rw[<-h2] at c1;refine weak (fun d' w' hp=>?_) (y64 X d u (i+1) i k (Fs k) FA Wb (Cs k) csA h hx c1 c2 c3 (by omega) (by omega) (by omega) (by omega) (by omega));exact .inr (.inl ⟨i+1,by omega,by omega,hp.1,hp.2.1,hp.2.2⟩)
 ·exact four i h1 h2 h3 hx
 ·obtain⟨FA,csA,G,gs,FB,csB,c1,c2,c3,c4⟩:=hC.each;rw[<-h1] at c1;refine weak (fun d' w' hp=>?_) (y66 X d u n kept k (Fs k) FA G FB (Cs k) csA gs csB tx _ h hx hB c1 c2 c3 c4 (fun i hi=>hT i (by omega)) (fun i hi=>hj i (by omega)) (by omega) (by omega) (by omega) (by omega));exact .inr (.inr (.inr (.inr (.inr ⟨by omega,hp.1⟩))))
 ·omega
theorem pX.ent{X:RX}{n kept:Nat}{Fs:Nat->Nat}{Cs:Nat->Array Value}(h:pX X n kept Fs Cs)(k:Nat)(hkM:k<3+kept+n):tq (Fs k):=by
 by_cases c0:k=0
 ·subst c0;obtain⟨_,_,_,_,c,_⟩:=h.first;exact c.ent
 by_cases c1:k<1+2*kept
 ·by_cases c2:k%2=1
  ·obtain⟨_,_,_,_,_,c,_⟩:=h.J9 (k / 2) (by omega);rw[show 1+2*(k / 2)=k by omega] at c;exact c.ent
  ·obtain⟨_,_,_,c,_⟩:=h.Ih (k / 2-1) (by omega);rw[show 2+2*(k / 2-1)=k by omega] at c;exact c.ent
 by_cases c2:k<1+kept+n
 ·obtain⟨_,_,_,_,_,c,_⟩:=h.Ii (k-1 - kept) (by omega) (by omega);rw[show 1+kept+(k-1 - kept)=k by omega] at c;exact c.ent
 by_cases c3:k=1+kept+n
 ·subst c3;obtain⟨_,_,_,_,_,_,c,_⟩:=h.coll;exact c.ent
 ·obtain rfl:k=2+kept+n:=by omega
  obtain⟨_,_,_,_,_,_,c,_⟩:=h.each;exact c.ent
theorem zw8(X:RX)(d:MD)(u:World)(n kept k1 rc:Nat)(a:Option Addr)(tx:VD->ByteArray)(Fs:Nat->Nat)(Cs:Nat->Array Value)(h:St X d u)(kk:Od X k1 #[.slice a (3+kept+n) rc])(gJ:iF 1 0 X.W a (3+kept+n) fun i=>#[iE (Fs i) (Cs i)])(hrm:∀b,a=some b->b.block≠X.M)(hC:pX X n kept Fs Cs)(hX:Yk X)(hk:kept<=n)(hn:n<=30)(hce:3+2*n<=X.ce)(htk:1000<=X.tk)(qZ:kept+3<=X.nv)(hT:∀i,i<100->zK X tx [mG i])(hj:∀i,i<100->(mQ tx [mG i]).size<=4000)(x:Yl X d.p)(t:lX X d u):Calls Tryz.prog 168 #[ptr X.F,ptr k1] u fun e w'=>kK X d u (fun way d' _=>way=.nilIface/\d'.p.jc=2*n+3/\d'.p.held=[]/\d'.p.sc=[]/\d'.p.recs.length<=2000/\tK d'.p.recs=mQ tx [mG (3+2*kept)] :: (List.range kept).map fun i:Nat=>mQ tx [mG i]) e w':=by
 have hsc:d.sc=[]:=x.sc;refine(qq9 X d u k1 (3+kept+n) rc a Fs Cs (zF X n kept tx) h kk gJ hrm (.inl ⟨rfl,x,t⟩) (fun k hk'=>hC.ent k hk') (by omega) (fun k hk' d1 w1 h1 h2=>yi3 X n kept tx Fs Cs hC hX hk hn hce htk qZ hT hj k hk' d1 w1 h1.s h2) (fun d1 w1 _=>by rw[hsc];exact aF _)).mono ?_;rintro e w' ⟨way,d',rfl,hs,rfl,d1,w1,hp,fH,e1⟩;have hx:JI X d1.p n kept tx [mQ tx [mG (3+2*kept)]]:=by
  rcases hp with⟨h1,_⟩|⟨i,h1,h2,_⟩|⟨i,h1,h2,_⟩|⟨i,h1,h2,h3,_⟩|⟨h1,_⟩|⟨_,hx⟩
  ·omega
  ·omega
  ·omega
  ·omega
  ·omega
  ·exact hx
 refine⟨_,d',rfl,hs,rfl,?_⟩;rw[e1];refine⟨by have:=hx.jc;show d1.p.jc=_;omega,hx.held,?_,hx.rl,hx.pr⟩;show d1.p.sc.take d.sc.length=[];rw[hsc];rfl
end
section
open Go.RowKit
attribute [local go_sem] iD
attribute [local go_sem ↓] Go.wp_at_zero Go.wp_at_succ
theorem z79(w:World):(Instr.typeAssert .nilIface 132 122 true).run Tryz.prog w=.ok (.tuple #[.pointer none,.bool false]) w:=by kernel_rfl
theorem zl5(w:World):(Instr.typeAssert .nilIface 132 247 true).run Tryz.prog w=.ok (.tuple #[.pointer none,.bool false]) w:=by kernel_rfl
theorem z18(u:World):Calls Tryz.prog 96 #[.nilIface] u fun e w'=>e=.returned .nilIface/\w'=u:=by
 have h1:=z79;have h2:=zl5;go_in;go_wp2_with fail;go_ret;exact⟨rfl,rfl⟩
theorem qo6(u:World):Calls Tryz.prog 59 #[.nilIface] u fun e w'=>e=.returned (.slice none 0 0)/\gZ u w':=by
 go_in;go_wp2_with fail;refine(z18 _).mono ?_;rintro e w1 ⟨rfl,rfl⟩;go_wp2_with fail;refine(Wj _ _).mono ?_;rintro e w1 ⟨rfl,rfl⟩;go_wp2_with fail;go_ret;exact⟨rfl,q01 _ _⟩
theorem yj2(p:Value)(w:World):CallsD Tryz.prog 51 #[p] .returning w fun e u' w'=>e=.returned (.tuple #[])/\u'=.returning/\w'=w:=by
 refine callsD_of_wpS Tryz.func51 rfl fun c₀ cs hu=>?_;apply wpS_seq;apply wpS_region;simp[wpOpsS,go_sem,recoverD,hu,Tryz.ntmps51,Exit.thenS];apply wpS_seq;apply wpS_region;simp[wpOpsS,go_sem,Exit.thenS,Act.eval,Array.replicate];refine wpS_cond (t:=false) (by simp[Act.eval]) ?_;simp only[Bool.false_eq_true,if_false];refine wpS_of_wp (wp_skip ?_)
 cases c₀;simp_all [bodyPostS,results,Tryz.results51]
def oO(Q:List lU->Nat->Prop)(way:Value)(d':MD)(_:World):Prop:=way=.nilIface/\Q d'.recs d'.jc
theorem oO.N7(Q:List lU->Nat->Prop):j29 (oO Q):=fun _ _ _ h=>.inl h.1
theorem oO.Po(N:Nat)(Q:List lU->Nat->Prop):j30 N (oO Q):=fun _ _ _ _ _ h _ _=>h
theorem oO.ln{Q:List lU->Nat->Prop}{X:RX}{l:Int}{way:Value}{d':MD}{w':World}(h:Cm X l (oO Q) way d' w'):oO Q way d' w':=by
 obtain⟨d4,w4,⟨h1,h2⟩,_,e⟩:=h;have e1:d'.recs=d4.recs:=aJ DP.recs e;have e2:d'.jc=d4.jc:=aJ DP.jc e;exact⟨h1,by rw[e1,e2];exact h2⟩
theorem y77(X:RX)(d:MD)(x1 x2 nf bo bc k1:Nat)(R:Value->MD->World->Prop)(u:World)(h:St X d u)(b1:Bx X d u x1 #[ptr X.M])(b3:Bx X d u x2 #[ptr X.F])(BZ:X.wY=.slice (some ⟨bo,0,none⟩) nf bc)(hfn:0<nf)(hb:Oo X bo 0 (ER k1))(hrun:∀w2,Sp X d u d w2->Calls Tryz.prog 168 #[ptr X.F,ptr k1] w2 fun e w'=>kK X d w2 R e w'):Calls Tryz.prog 56 #[ptr x1,ptr x2] u fun e w'=>kK X d u R e w':=by
 have HS:Hid (St X d u):=h;have Ku:Hid (∀w2,Sp X d u d w2->Calls Tryz.prog 168 #[ptr X.F,ptr k1] w2 fun e w'=>kK X d w2 R e w'):=hrun;have HK:Hid (∀d' w',Sp X d u d' w'->(w'.cell? ⟨x1,0,none⟩=some (ptr X.M)/\w'.cell? ⟨x2,0,none⟩=some (ptr X.F)/\w'.cell? ⟨X.M,7,none⟩=some (.slice (some ⟨bo,0,none⟩) nf bc)/\w'.cell? ⟨bo,0,none⟩=some (ER k1))):=fun d' w' k=>⟨(b1.step k).cell 0 rfl,(b3.step k).cell 0 rfl,by rw[<-BZ];exact k.s.m.1.cell 7 rfl,hb.at k.s⟩;have S0:=HK.out d _ (Sp.refl HS.out).drew;have hi1:(0:Int)<(nf:Int):=by omega
 have hi2:((nf:Int)<=0)=False:=by simp;omega
 have hi3:(nf=0)=False:=by simp;omega
 go_in;go_wp2_with fail
 go_region_held3 (fun w'=>w'.cell? ⟨x1,0,none⟩=some (ptr X.M)/\w'.cell? ⟨x2,0,none⟩=some (ptr X.F)/\w'.cell? ⟨X.M,7,none⟩=some (.slice (some ⟨bo,0,none⟩) nf bc)/\w'.cell? ⟨bo,0,none⟩=some (ER k1)) (first|exact S0|exact S1) (first|(go_at_call 168;refine(Ku _ (Sp.refl HS).drew).mono ?_;rintro e w1 ⟨way,d1,rfl,fH,fG⟩;have H1:Hid (kK X d u R (.returned way) w1):=⟨way,d1,rfl,(Sp.refl HS.out).drew.trans fH,fG⟩;have S1:=HK.out d1 w1 ((Sp.refl HS.out).drew.trans fH)))
 all_goals
  go_wp2_with fail;go_ret;exact H1
def MO(X:RX)(w:World)(nv:Nat)(Q:List lU->Nat->Prop)(w':World):Prop:=∃F V N d',St (xT X F V N 0 (.slice none 0 0) nv) d' w'/\Q d'.recs d'.jc/\Gx (fun k=>k=X.M\/k=X.T) w w'
theorem z86(X:RX)(nf ub uo uc nv vc bo bc k1:Nat)(va:Option Addr)(Q:List lU->Nat->Prop)(w:World)(h:Pm X w)(hU:UF X 0 nf ub uo uc nv vc va)(qZ:nv<=1000)(BZ:X.wY=.slice (some ⟨bo,0,none⟩) nf bc)(hb:Oo X bo 0 (ER k1))(hrun:∀F V N fa fc u,St (xT X F V N 0 (.slice none 0 0) nv) (dT F nv fa fc) u->Gx (fun k=>k=X.M\/k=X.T) w u->Calls Tryz.prog 168 #[ptr F,ptr k1] u fun e w'=>kK (xT X F V N 0 (.slice none 0 0) nv) (dT F nv fa fc) u (oO Q) e w'):Calls Tryz.prog 29 #[ptr X.M] w fun e w'=>e=.returned (.tuple #[])/\MO X w nv Q w':=by
 have HP:Hid (Pm X w):=h;have HU:Hid (UF X 0 nf ub uo uc nv vc va/\nv<=1000/\X.wY=.slice (some ⟨bo,0,none⟩) nf bc/\Oo X bo 0 (ER k1)):=⟨hU,qZ,BZ,hb⟩;have HR:Hid (∀F V N fa fc u,St (xT X F V N 0 (.slice none 0 0) nv) (dT F nv fa fc) u->Gx (fun k=>k=X.M\/k=X.T) w u->Calls Tryz.prog 168 #[ptr F,ptr k1] u fun e w'=>kK (xT X F V N 0 (.slice none 0 0) nv) (dT F nv fa fc) u (oO Q) e w'):=hrun;have m1:w.cell? ⟨X.M,1,none⟩=some (.slice none 0 0):=h.m.1.cell 1 rfl;have Dw:=h.m.1.1;have hTl:=h.t.1.1;have hmf:=ys8
 go_enter_defers Tryz.func29,Tryz.ntmps29
 go_wp2_with fail;obtain⟨w1,fQ⟩:∃w1,w.alloc (.cells #[ptr X.M] 39)=w1:=⟨_,rfl⟩;have qJ:Hid (Pm X w1/\OwnB w1 w.heap.size #[ptr X.M]/\w1.heap.size=w.heap.size+1/\gZ w w1):=by
  rw[<-fQ];exact⟨HP.call (q01 _ _),OwnB.new _ _ _,by simp,q01 _ _⟩
 rw[fQ];have b0:=qJ.2.1.1.cell 0 rfl
 go_loopw [2,17] (fun v i wr=>v=.slice none 0 0/\i=.int .i64 0/\wr=w1) (fun _ _ _=>0)
 case atStart=>exact⟨rfl,rfl,rfl⟩
 case round=>
  obtain⟨rfl,rfl,rfl⟩:=hrel;go_wp2_with fail;refine dV (qw3 X 0 nf ub uo uc nv vc 0 0 va none _ qJ.1 HU.1 HU.2.1 (ah _) (.inl rfl)) ?_;rintro e w2 ⟨F,V,fa,fc,rfl,hop⟩;obtain⟨X',hX'⟩:∃X',X'=xT X F V wr.heap.size 0 (.slice none 0 0) nv:=⟨_,rfl⟩;have hst:St X' (dT F nv fa fc) w2:=by rw[hX'];exact hop.s
  have HS2:Hid (St X' (dT F nv fa fc) w2/\Gx (fun k=>k=X.T) wr w2):=⟨hst,hop.g⟩;have hbs:wr.heap.size=w.heap.size+1:=qJ.2.2.1;have hoF:=hop.F;have hoV:=hop.V;have hoA:=hop.fa;have YI:Hid (∀k,k<wr.heap.size->stB X' (dT F nv fa fc) k->k=X.M\/k=X.T):=fun k hk e=>by
   subst hX';rcases e with e|e|e|e|e|e|e|e|e
   ·exact .inl e
   ·exact .inr e
   ·replace e:k=F:=e;omega
   ·replace e:k=V:=e;omega
   ·cases e
   ·cases e
   ·cases e
   ·have:=hoA k e;omega
   ·exact(e:False).elim
  have wo:Hid (Bx X' (dT F nv fa fc) w2 w.heap.size #[ptr X.M]):=⟨hop.g.has qJ.2.1.1 (fun e=>by omega),fun e=>by
   rcases YI.out _ (by omega) e with e|e<;>omega⟩
  have b2:=wo.cell 0 rfl;have hE:w.heap.size<w2.heap.size:=wo.1.1;have eM:X'.M=X.M:=by rw[hX']
  have eF:X'.F=F:=by rw[hX']
  have HX:Hid (X'=xT X F V wr.heap.size 0 (.slice none 0 0) nv):=hX';go_wp2_with fail;have HB:Hid (Bx X' (dT F nv fa fc) (w2.alloc (.cells #[ptr F] 129)) w2.heap.size #[ptr X'.F]):=by rw[eF];exact Bx.new HS2.1 _ _
  have HAt:Hid (Calls Tryz.prog 55 #[ptr F,BA w.heap.size w2.heap.size] (w2.alloc (.cells #[ptr F] 129)) fun e w'=>kK X' (dT F nv fa fc) (w2.alloc (.cells #[ptr F] 129)) (oO Q) e w'):=by
   have hS:=HS2.1.alloc (.cells #[ptr F] 129);have hM:=wo.alloc (.cells #[ptr F] 129);rw[<-eM] at hM;have hz:=zi2 X' (dT F nv fa fc) w.heap.size w2.heap.size (oO Q) _ hS (ze6 X' (dT F nv fa fc) w.heap.size w2.heap.size (oO Q) _ hS (oO.N7 Q) (oO.Po _ Q) (fun w3 k3 _=>y77 X' (dT F nv fa fc) w.heap.size w2.heap.size nf bo bc k1 (oO Q) w3 k3.s (hM.step k3) (HB.step k3) (by rw[HX.out];exact HU.2.2.1) (Nat.lt_of_le_of_lt (aF _) HU.1.i) (by rw[HX.out];exact HU.2.2.2) (fun w4 k4=>by
    have hr:=HR.out F V wr.heap.size fa fc w4 (by rw[<-HX.out];exact k4.s) (((Gx.below _ qJ.2.2.2).trans (HS2.2.mono (fun _ e=>.inr e)) (fun _ _ e=>e)).trans (Sp.first HS2.1 (k3.trans k4)).g (fun k hk e=>YI.out k (by have:=qJ.2.2.1;omega) e));rw[<-HX.out] at hr;rw[eF];exact hr)))
   rw[eF] at hz;exact hz.mono fun e w' ⟨way,d',he,hs,hr⟩=>⟨way,d',he,hs,oO.ln hr⟩
  refine HAt.mono ?_;rintro e w3 ⟨way,d1,rfl,fH,Xq,hq⟩;subst Xq;have H3:Hid (Sp X' (dT F nv fa fc) w2 d1 w3/\Q d1.recs d1.jc):=⟨Sp.first HS2.1 fH,hq⟩;have b3:=(wo.step H3.1).cell 0 rfl;have hE3:w.heap.size<w3.heap.size:=(wo.step H3.1).1.1;go_wp2_with fail;refine(Wj _ _).mono ?_;rintro e w4 ⟨rfl,rfl⟩;go_wp2_with fail;refine(qo6 _).mono ?_;rintro e w4 ⟨rfl,eU⟩;have H4:Hid (Sp X' (dT F nv fa fc) w2 d1 w4):=(H3.1.alloc _).call eU;go_wp2_with fail;have HG:Hid (MO X w nv Q w4):=⟨F,V,wr.heap.size,d1,by rw[<-HX.out];exact H4.s,H3.2,((Gx.below _ qJ.2.2.2).trans (HS2.2.mono (fun _ e=>.inr e)) (fun _ _ e=>e)).trans H4.g (fun k hk e=>YI.out k (by have:=qJ.2.2.1;omega) e)⟩
  go_loopw [61] (fun i wr=>i=.int .i64 0/\wr=w4) (fun _ _=>0)
  case atStart=>exact⟨rfl,rfl⟩
  case round=>
   obtain⟨rfl,rfl⟩:=hrel;go_wp2_with fail;refine leaves_cons (f:=51) (args:=#[ptr w.heap.size]) (by simp) (by simp[go_sem]) ?_;refine(yj2 _ _).mono ?_;rintro e u' w'' ⟨rfl,rfl,rfl⟩;simp[Leaves,settle,results,Tryz.results29,go_sem];exact HG
end
end Go.Proofs.YthnkncpegihbhaaGreatDoor
