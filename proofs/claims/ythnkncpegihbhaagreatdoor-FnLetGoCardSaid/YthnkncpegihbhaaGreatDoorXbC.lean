import Derived.Test.YthnkncpegihbhaaGreatDoorXaB
import Derived.Test.YthnkncpegihbhaaGreatDoorWzG
import Derived.Test.YthnkncpegihbhaaGreatDoorXbB
import Derived.Test.YthnkncpegihbhaaGreatDoorJnA
set_option maxRecDepth 100000
set_option maxHeartbeats 16000000
namespace Go.Proofs.YthnkncpegihbhaaGreatDoor
section
open Go.RowKit
attribute [local go_sem] iD
attribute [local go_sem ↓] Go.wp_at_zero Go.wp_at_succ
def tX(X:RX)(p:DP)(S:TS)(q:DP):Prop:=∃K B ta tc la lc,qw X q (S.add K B ta tc la lc)/\q={p.paid 1 with tab:=q.tab,jA:=q.jA,tb:=q.tb,TP:=q.TP}
def qH(X:RX)(p:DP)(S:TS)(y v:VD)(q:DP):Prop:=∃K B ta tc la lc a c,qw X q ((S.add K B ta tc la lc).put S.nt (uV ((S.add K B ta tc la lc).D S.nt) y v) a c)/\q={p.paid 2 with tab:=q.tab,jA:=q.jA,tb:=q.tb,TP:=q.TP}
structure QE(X:RX)(p:DP)(S:TS)(n:Nat):Prop where
 o:qw X p S
 li:∀j,j∈S.li->j<S.nt
 nt:S.nt<=900
 ll:S.li.length<=900
 ce:p.lv+p.sin+n<=X.ce
 jc:p.jc<=80000
 h:p.held.length<=700
theorem UU(X:RX)(d:MD)(u:World)(p:DP)(S:TS)(b1 b2 b3:Nat)(k1:Od X b1 #[ptr X.M])(k2:Od X b2 #[.slice none 0 0])(k3:Od X b3 #[.func (.func 275) #[] #[]])(m:QE X p S 1):rD X 278 #[ptr b1,ptr b2,ptr b3] d u p (jr S.nt) (tX X p S):=
 ⟨enters_of Tryz.func278 (by kernel_rfl) rfl,fun d' u' h1 h2=>by
  subst h2;refine(ze4 X d' S b1 b2 b3 u' h1.s m.o.to k1 k2 k3 m.li m.nt m.ll m.ce (by have:=m.jc;show d'.jc<=_;have e:d'.p.jc=d'.jc:=rfl;omega) (by have:=m.h;show d'.held.length<=_;have e:d'.p.held=d'.held:=rfl;rw[e] at this;omega)).mono ?_;rintro e w' ⟨rfl,K,B,ta,tc,la,lc,d2,hs,ho,hp⟩;exact⟨d2,rfl,hs,K,B,ta,tc,la,lc,ho.tp,hp⟩⟩
theorem jb9(X:RX)(d:MD)(u:World)(p:DP)(S:TS)(b1 b2 b3 ra ro rc F2:Nat)(cs2:Array Value)(y v:VD)(k1:Od X b1 #[ptr X.M])(k2:Od X b2 #[.slice (some ⟨ra,ro,none⟩) 1 rc])(kr:Oo X ra ro (iE F2 cs2))(k3:Od X b3 #[.func (.func 275) #[] #[]])(h2:∀d' u',Sp X d u d' u'->d'.p=p->zq X F2 cs2 d' u' y v)(m:QE X p S 2)(hy1:kc y=0)(hy2:kv y=y)(Xl:y.f<2 ^ 64)(hv0:v.k≠0)(hok:xM 1 1 (jY (fun _=>pz) 0 ⟨y,v,1⟩)):rD X 278 #[ptr b1,ptr b2,ptr b3] d u p (jr S.nt) (qH X p S y v):=
 ⟨enters_of Tryz.func278 (by kernel_rfl) rfl,fun d' u' h1 hp=>by
  have h2':=h2 d' u' h1 hp;subst hp;refine(ze3 X d' S b1 b2 b3 ra ro rc F2 cs2 y v u' h1.s m.o.to k1 k2 kr h2' k3 m.li m.nt m.ll m.ce (by have:=m.jc;have e:d'.p.jc=d'.jc:=rfl;omega) hy1 hy2 Xl hv0 hok (by have:=m.h;have e:d'.p.held=d'.held:=rfl;rw[e] at this;omega)).mono ?_;rintro e w' ⟨rfl,K,B,ta,tc,la,lc,a,c,d2,hs,ho,hp⟩;exact⟨d2,rfl,hs,K,B,ta,tc,la,lc,a,c,ho.tp,hp⟩⟩
theorem yb1(X:RX)(d:MD)(u:World)(a b A B:Nat)(y v:VD)(k1:Od X a #[iE 232 #[ptr A]])(k2:Od X b #[iE 232 #[ptr B]])(kA:Od X A (vA y))(kB:Od X B (vA v))(hh:d.held.length<=700):zq X 269 #[ptr a,ptr b] d u y v:=by
 refine⟨enters_of Tryz.func269 (by kernel_rfl) rfl,fun d3 w3 h1 h2=>?_⟩;have hl:d3.p.held.length<=701:=by show d3.held.length<=701;omega
 have ht:=yr6 X 232 232 a b #[ptr A] #[ptr B] d u d3.p y v (·=d3.p) (·=d3.p.hold [y]) k1 k2 (QJ kA) (fun q e=>by rw[e];omega) (fun q e=>by rw[e];exact QJ kB) (fun q e=>by rw[e];simp[DP.hold];omega);refine(ht.2 d3 w3 h1 rfl).mono ?_;rintro e w' ⟨d',rfl,hs,q,rfl,hq⟩;refine⟨d',rfl,hs,?_⟩;rw[hq];show{d3.p with held:=(d3.held++[y]).take ((d3.held++[y]).length-1)}=d3.p;rw[show(d3.held++[y]).length-1=d3.held.length by simp,List.take_left];rfl
theorem Uy(X:RX)(d:MD)(u:World)(p:DP)(a1 a2 bb p1 p2 A FA b:Nat)(csA:Array Value)(nd:Value)(la l:List VD)(R1 R2:DP->Prop)(k1:Od X a1 #[iE 246 #[ptr p1,ptr p2]])(k2:Od X a2 #[ptr bb])(kb:Od X bb #[ptr X.M,nd])(Ja:Od X p1 #[iE 232 #[ptr A]])(kA:Od X A (vA (oh (b:Int))))(Dq:Od X p2 #[iE FA csA])(hp:p.held.length<=700)(hl:qI X FA csA d u (p.hold [oh (b:Int)]) la (fun q'=>∃q2,R1 q2/\q'=q2.hold [oh (b:Int)]))(eu:∀q,R1 q->q.held.length<=700/\q.ti<X.tk)(hb:b<=20)(hB:∀d1 w1 a c,Sp X d u d1 w1->(∃q,R1 q/\d1.p=q.tick)->vG X d1 w1 0 a c la->Calls Tryz.prog 248 #[ptr X.M,.int .i64 (b:Int),.slice a la.length c] w1 fun e w'=>qx X d1 w1 l R2 e w'):qI X 197 #[ptr a1,ptr a2] d u p l R2:=by
 have hpt:=yj7 X d u p p1 p2 232 FA #[ptr A] csA (oh (b:Int)) la (·=p) R1 Ja Dq (QJ kA) (fun q e=>by rw[e];omega) (fun q e=>by rw[e];exact hl) (fun q h=>by have:=(eu q h).1;omega);refine ja7 X d u p a1 a2 bb 246 #[ptr p1,ptr p2] nd (oh (b:Int)) la l R1 R2 k1 k2 kb hpt (fun d1 w1 a c h1 h2 h3=>?_);exact za9 X d1 w1 b a la.length c l R2 h1.s (eu _ h2).2 hb (fun d2 w2 h4 h5=>hB d2 w2 a c (h1.trans h4) ⟨d1.p,h2,h5⟩ (h3.step h4))
end
section
open Go.RowKit
theorem yp0(X:RX)(d:MD)(u:World)(p:DP)(l1 l2 b1 B c F2:Nat)(a:Option Addr)(cs2:Array Value)(more:List VD)(R:DP->Prop)(k1:Od X l1 #[iE 251 #[ptr B]])(kB:Od X B #[.slice a 0 c])(hrm:∀b,a=some b->b.block≠X.M)(k2:Od X l2 #[iE F2 cs2])(hl:qI X F2 cs2 d u p more R)(hp:0<p.held.length)(hp2:p.held.length<=800)(hR:∀q,R q->q.held.length<=800)(hm:more.length<=250)(h0:more≠[]):qI X 214 #[ptr l1,ptr l2,ptr b1] d u p more R:=by
 have ho:=y98 X d u p B a 0 c (fun _=>0) (fun _=>#[]) (fun _=>vz) (fun _=>(·=p)) kB (fun h=>absurd h (dF _)) hrm rfl (fun k h=>absurd h (aT _)) (fun k q e=>by rw[e]) (by omega) (by omega) hp2;have:=yb3 X d u p l1 l2 b1 251 F2 #[ptr B] cs2 [] more (·=p) R k1 k2 ho (fun q e=>by rw[e];omega) (fun q e=>by
  rw[e,DP.o7];exact hl.mono fun q h=>⟨q,h,(DP.o7 q).symm⟩) hR (by simpa using hm)
 exact ys5 this h0
theorem yo9(X:RX)(d:MD)(u:World)(p:DP)(l1 l2 b1 B c ra ro F1 F2 a3:Nat)(cs1 cs2:Array Value)(x y:VD)(R1 R2:DP->Prop)(k1:Od X l1 #[iE 251 #[ptr B]])(kB:Od X B #[.slice (some ⟨ra,ro,none⟩) 1 c])(gJ:iF 1 0 X.W (some ⟨ra,ro,none⟩) 1 fun _=>#[iE F1 cs1])(hrm:ra≠X.M)(k2:Od X l2 #[iE 200 #[ptr a3]])(k3:Od X a3 #[iE F2 cs2])(h1:rD X F1 cs1 d u p x R1)(b1':∀q,R1 q->q.held.length=p.held.length)(h2:∀q,R1 q->rD X F2 cs2 d u (q.hold [x]) y (fun q'=>∃q2,R2 q2/\q'=q2.hold [x]))(hp2:p.held.length<=800)(hR:∀q,R2 q->q.held.length<=800):qI X 214 #[ptr l1,ptr l2,ptr b1] d u p [x,y] R2:=by
 have ho:=y98 X d u p B (some ⟨ra,ro,none⟩) 1 c (fun _=>F1) (fun _=>cs1) (fun _=>x) (fun k=>if k=0 then(·=p) else R1) kB gJ (fun b e=>by cases e;exact hrm) rfl (fun k hk q hq=>by
  obtain rfl:k=0:=by omega
  have e:q=p:=hq;rw[e];show rD X F1 cs1 d u (p.hold []) x _;rw[DP.o7];exact h1.mono fun q h=>⟨q,h,(DP.o7 q).symm⟩) (fun k q hq=>by
  by_cases c:k=0
  ·rw[aO c] at hq;rw[show q=p from hq]
  ·rw[au c] at hq;exact b1' q hq) (by omega) (by omega) hp2
 have:=yb3 X d u p l1 l2 b1 251 200 #[ptr B] #[ptr a3] [x] [y] R1 R2 k1 k2 ho (fun q e=>by rw[b1' q e];omega) (fun q e=>ys7 X F2 a3 cs2 d u (q.hold [x]) y _ k3 (h2 q e)) hR (by simp);exact ys5 this (by simp)
theorem Z8{S:TS}{s:ByteArray}(h:(S.D 1).n=1)(hk:((S.D 1).q 0).key=pV tC)(hne:tC≠s):ET S 1 s=vz:=by
 show(gt (S.D 1).q (mk (pV s)) (S.D 1).n).val=_;rw[h];have:rP (S.D 1).q (mk (pV s)) 1=none:=RV fun i hi=>by
  obtain rfl:i=0:=by omega
  rw[hk];intro e;exact hne (by simpa[mk] using e)
 unfold gt;rw[this];rfl
theorem tX.rF{X:RX}{p:DP}{l:List VD}{S:TS}{q:DP}(h:tX X (p.hold l) S q):∃q2,tX X p S q2/\q=q2.hold l:=by
 obtain⟨K,B,ta,tc,la,lc,h1,h2⟩:=h;refine⟨{p.paid 1 with tab:=q.tab,jA:=q.jA,tb:=q.tb,TP:=q.TP},⟨K,B,ta,tc,la,lc,h1,rfl⟩,?_⟩;rw[h2];rfl
theorem qH.rF{X:RX}{p:DP}{l:List VD}{S:TS}{y v:VD}{q:DP}(h:qH X (p.hold l) S y v q):∃q2,qH X p S y v q2/\q=q2.hold l:=by
 obtain⟨K,B,ta,tc,la,lc,a,c,h1,h2⟩:=h;refine⟨{p.paid 2 with tab:=q.tab,jA:=q.jA,tb:=q.tb,TP:=q.TP},⟨K,B,ta,tc,la,lc,a,c,h1,rfl⟩,?_⟩;rw[h2];rfl
theorem tX.held{X:RX}{p:DP}{S:TS}{q:DP}(h:tX X p S q):q.held=p.held:=by
 obtain⟨K,B,ta,tc,la,lc,h1,h2⟩:=h;rw[h2];rfl
theorem qH.held{X:RX}{p:DP}{S:TS}{y v:VD}{q:DP}(h:qH X p S y v q):q.held=p.held:=by
 obtain⟨K,B,ta,tc,la,lc,a,c,h1,h2⟩:=h;rw[h2];rfl
def Ym(X:RX)(p q:DP):Prop:=∃q0,tX X p ug q0/\∃K B ta tc la lc,qw X q0 (ug.add K B ta tc la lc)/\qH X q0 (ug.add K B ta tc la lc) (pV tC) (pV sK) q
def vW(X:RX)(p:DP)(n m i:Nat)(q:DP):Prop:=∃S,AP S m i/\qw X q S/\q={p.paid n with tab:=q.tab,jA:=q.jA,tb:=q.tb,TP:=q.TP}
theorem j50:xM 1 1 (jY (fun _=>pz) 0 ⟨pV tC,pV sK,1⟩):=by
 refine⟨by omega,by omega,by omega,fun i h=>?_,fun i j _ h=>?_⟩
 ·obtain rfl:i=0:=by omega
  decide
 ·omega
structure Ro(X:RX)(F:Nat)(cs:Array Value):Prop where
 c:∃e a1 a2 bb p1 p2 A nd l1 l2 b1 B c ra ro a3 s1 s2 s3 t1 t2 t3 r1 r2 rc x1 x2 X1 X2,F=230/\cs = #[ptr e]/\Od X e #[iE 197 #[ptr a1,ptr a2]]/\Od X a1 #[iE 246 #[ptr p1,ptr p2]]/\Od X a2 #[ptr bb]/\Od X bb #[ptr X.M,nd]/\Od X p1 #[iE 232 #[ptr A]]/\Od X A (vA (oh 4))/\Od X p2 #[iE 214 #[ptr l1,ptr l2,ptr b1]]/\Od X l1 #[iE 251 #[ptr B]]/\Od X B #[.slice (some ⟨ra,ro,none⟩) 1 c]/\(iF 1 0 X.W (some ⟨ra,ro,none⟩) 1 fun _=>#[iE 278 #[ptr s1,ptr s2,ptr s3]])/\ra≠X.M/\Od X l2 #[iE 200 #[ptr a3]]/\Od X a3 #[iE 278 #[ptr t1,ptr t2,ptr t3]]/\Od X s1 #[ptr X.M]/\Od X s2 #[.slice none 0 0]/\Od X s3 #[.func (.func 275) #[] #[]]/\Od X t1 #[ptr X.M]/\Od X t2 #[.slice (some ⟨r1,r2,none⟩) 1 rc]/\Oo X r1 r2 (iE 269 #[ptr x1,ptr x2])/\Od X t3 #[.func (.func 275) #[] #[]]/\Od X x1 #[iE 232 #[ptr X1]]/\Od X x2 #[iE 232 #[ptr X2]]/\Od X X1 (vA (pV tC))/\Od X X2 (vA (pV sK))
theorem yz4(X:RX)(d:MD)(u:World)(p:DP)(F:Nat)(cs:Array Value)(hC:Ro X F cs)(o:qw X p ug)(hce:p.lv+p.sin+3<=X.ce)(yw:p.jc<=1000)(hti:p.ti<X.tk)(hh:p.held.length<=100):rD X F cs d u p (jr 0) (fun q=>vW X p.tick 3 0 0 q):=by
 obtain⟨e,a1,a2,bb,p1,p2,A,nd,l1,l2,b1,B,c,ra,ro,a3,s1,s2,s3,t1,t2,t3,r1,r2,rc,x1,x2,X1,X2,rfl,rfl,ke,ka1,ka2,kbb,Ja,kA,Dq,Xh,kB,gJ,hrm,Xg,Xi,ks1,ks2,ks3,kt1,kt2,kr,kt3,kx1,kx2,kX1,kX2⟩:=hC.c;refine j19 X 197 e #[ptr a1,ptr a2] d u p (jr 0) _ ke ?_;have m0:QE X (p.hold [oh 4]) ug 1:=⟨o,fun j h=>by simp at h,by decide,by decide,by show p.lv+p.sin+1<=X.ce;omega,by show p.jc<=_;omega,by show(p.held++[oh 4]).length<=_;simp;omega⟩;refine Uy X d u p a1 a2 bb p1 p2 A 214 4 #[ptr l1,ptr l2,ptr b1] nd [jr 0,jr 1] [jr 0] (Ym X p) _ ka1 ka2 kbb Ja kA Dq (by omega) ?_ (fun q hq=>?_) (by omega) (fun d1 w1 a c' h1 h2 h3=>?_)
 ·refine(yo9 X d u (p.hold [oh 4]) l1 l2 b1 B c ra ro 278 278 a3 #[ptr s1,ptr s2,ptr s3] #[ptr t1,ptr t2,ptr t3] (jr 0) (jr 1) (tX X (p.hold [oh 4]) ug) (fun q=>∃q1,tX X (p.hold [oh 4]) ug q1/\∃K B ta tc la lc,qw X q1 (ug.add K B ta tc la lc)/\qH X q1 (ug.add K B ta tc la lc) (pV tC) (pV sK) q) Xh kB gJ hrm Xg Xi (UU X d u (p.hold [oh 4]) ug s1 s2 s3 ks1 ks2 ks3 m0) (fun q h=>by rw[h.held]) (fun q h=>?_) (by show(p.held++[oh 4]).length<=_;simp;omega) (fun q h=>?_)).mono ?_
  ·obtain⟨K,B,ta,tc,la,lc,hb,hq⟩:=h;have hqh:q.held=p.held++[oh 4]:=by rw[hq];rfl
   have Lu:q.lv=p.lv/\q.sin=p.sin+1/\q.jc=p.jc+1:=by rw[hq];exact⟨rfl,rfl,rfl⟩
   have m1:QE X (q.hold [jr 0]) (ug.add K B ta tc la lc) 2:=⟨hb,fun j h=>by have e0:j=0:=(by simpa[TS.add] using h);rw[e0];show 0<1;omega,by show(1:Nat)<=900;omega,by show(1:Nat)<=900;omega,by show q.lv+q.sin+2<=X.ce;omega,by show q.jc<=_;omega,by show(q.held++[jr 0]).length<=_;rw[hqh];simp;omega⟩;refine(jb9 X d u (q.hold [jr 0]) (ug.add K B ta tc la lc) t1 t2 t3 r1 r2 rc 269 #[ptr x1,ptr x2] (pV tC) (pV sK) kt1 kt2 kr kt3 (fun d' u' _ he=>yb1 X d' u' x1 x2 X1 X2 _ _ kx1 kx2 kX1 kX2 (by have e1:d'.held=q.held++[jr 0]:=aJ DP.held he;rw[e1,hqh];simp;omega)) m1 rfl rfl (by decide) (by decide) j50).mono fun q' h'=>?_;obtain⟨q2,h4,h5⟩:=h'.rF;exact⟨q2,⟨q,⟨K,B,ta,tc,la,lc,hb,hq⟩,K,B,ta,tc,la,lc,hb,h4⟩,h5⟩
  ·obtain⟨q1,h1,K,B,ta,tc,la,lc,h2,h3⟩:=h;rw[h3.held,h1.held];show(p.held++[oh 4]).length<=_;simp;omega
  ·rintro q ⟨q1,h1,K,B,ta,tc,la,lc,h2,h3⟩;obtain⟨q0,h4,rfl⟩:=h1.rF;obtain⟨q2,h5,rfl⟩:=h3.rF;exact⟨q2,⟨q0,h4,K,B,ta,tc,la,lc,h2,h5⟩,rfl⟩
 ·obtain⟨q0,h4,K,B,ta,tc,la,lc,h2,h5⟩:=hq;refine⟨by rw[h5.held,h4.held];omega,?_⟩;obtain⟨_,_,_,_,_,_,_,hq0⟩:=h4;obtain⟨_,_,_,_,_,_,_,_,_,hq5⟩:=h5;rw[hq5,hq0];exact hti
 ·obtain⟨q,⟨q0,⟨_,_,_,_,_,_,_,hq0⟩,K,B,ta,tc,la,lc,_,⟨K1,B1,Nk,Nj,Ot,Oq,a9,c9,Ju,hq9⟩⟩,he⟩:=h2;rcases h3 with⟨h0,_⟩|⟨_,g,rfl,_,hg⟩
  ·exact absurd h0 (by simp)
  ·have ho:jl X d1 _:=qw.to (S:=((ug.add K B ta tc la lc).add K1 B1 Nk Nj Ot Oq).put 1 (uV (((ug.add K B ta tc la lc).add K1 B1 Nk Nj Ot Oq).D 1) (pV tC) (pV sK)) a9 c9) (by rw[he];exact Ju);refine(z15 X d1 _ 0 1 g c' w1 h1.s ho hg (by show 0<2;omega) (by show 1<2;omega) rfl rfl (by rw[Z8 rfl rfl (by decide)];decide)).mono ?_;rintro e' w' ⟨ar,cr,d2,rfl,hla,fJ,ht2,hp2⟩;refine⟨ar,cr,d2,rfl,hla,fJ,_,AP.first,ht2,?_⟩;rw[hp2,he,hq9,hq0];rfl
abbrev mG(i:Nat):VD:=⟨2,(i:Int),0,⟨#[]⟩,0⟩
theorem j49(r:Nat):(jT 5 (r:Int)).ok=true:=by
 simp[VD.ok,okB,lY,nH];exact⟨rfl,by kernel_rfl⟩
theorem UW(r:Nat):kc (jT 5 (r:Int))=0:=by
 unfold kc;rw[j49];simp
theorem UY(r:Nat):kv (jT 5 (r:Int))=jT 5 (r:Int):=by
 unfold kv;rw[j49];simp
theorem jd1(i:Nat):(mG i).ok=true:=by
 simp[VD.ok,okB,lY,nH];exact⟨rfl,by kernel_rfl⟩
theorem j74(r i:Nat)(t:Int):Et ⟨jT 5 (r:Int),mG i,t⟩=true:=by
 show(Tj (jT 5 (r:Int)) && (mG i).ok && !((mG i).k==0))=true;rw[jd1];have:Tj (jT 5 (r:Int))=true:=by
  unfold Tj;rw[UW,UY];simp
 rw[this];rfl
theorem zx5{n:Nat}{t:Int}{q:Nat->PD}{y v:VD}(h:xM n t q)(hn:n<500)(ht:t<1000000000000)(hp:Et ⟨y,v,t+1⟩=true)(hk:∀j,j<n->mk (q j).key≠mk y):xM (n+1) (t+1) (jY q n ⟨y,v,t+1⟩):=by
 have t0:=h.t0;have hl:∀i,i<=n->MP (jY q n ⟨y,v,t+1⟩) i=MP q i:=fun i hi=>by
  cases i with
  |zero=>rfl
  |succ i=>show(jY q n ⟨y,v,t+1⟩ i).turn=(q i).turn;unfold jY;rw[au (by omega)]
 have gJ:∀i,i<n->Et (q i)=true/\MP q i<(q i).turn/\(q i).turn<=t:=fun i hi=>by
  have:=h.row i hi;simpa[V9,and_assoc] using this
 refine⟨by omega,by omega,by omega,fun i hi=>?_,fun i j hj hi=>?_⟩
 ·unfold V9;rw[hl i (by omega)];by_cases c:i=n
  ·subst c;have e:jY q i ⟨y,v,t+1⟩ i=⟨y,v,t+1⟩:=aO rfl;rw[e];have gK:MP q i<t+1:=by
    cases i with
    |zero=>show(0:Int)<t+1;omega
    |succ i=>have:=(gJ i (by omega)).2.2;show(q i).turn<t+1;omega
   simp[hp,gK]
  ·have e:jY q n ⟨y,v,t+1⟩ i=q i:=au c;rw[e];obtain⟨a,b,d⟩:=gJ i (by omega);have:(q i).turn<=t+1:=by omega
   simp[a,b,this]
 ·have ej:jY q n ⟨y,v,t+1⟩ j=q j:=au (by omega);rw[ej];by_cases c:i=n
  ·subst c;rw[show jY q i ⟨y,v,t+1⟩ i=⟨y,v,t+1⟩ from aO rfl];exact hk j (by omega)
  ·rw[show jY q n ⟨y,v,t+1⟩ i=q i from au c];exact h.key i j hj (by omega)
theorem nJ.sets{S:TS}{n p:Nat}(h:nJ S n p){s:ByteArray}(hne:tC≠s):(hdl S (some 1) s).k=0:=by
 show(ET S 1 s).k=0;rw[Z8 h.p1 h.k1 hne];rfl
theorem jb5(X:RX)(d:MD)(S:TS)(i:Nat)(u:World)(h:St X d u)(o:jl X d S)(hW:AP S (i+1) i)(hi:i<=100)(hce:d.lv+d.sin+1<=X.ce)(yw:d.jc<=1000):Calls Tryz.prog 245 #[ptr X.M,iJ 5 0 0 ⟨#[]⟩ ((0:Nat):Int),iJ 5 0 0 ⟨#[]⟩ ((i+2:Nat):Int),iJ 2 (i:Int) 0 ⟨#[]⟩ 0] u fun e w'=>e=.returned (.tuple #[])/\DR X d S 0 (jT 5 ((i+2:Nat):Int)) (mG i) u w':=by
 have hn:=hW.w.p0;have ht:=hW.t;have hnt:0<S.nt:=by rw[hW.w.nt];omega
 have hk:∀j,j<(S.D 0).n->mk ((S.D 0).q j).key≠mk (jT 5 ((i+2:Nat):Int)):=fun j hj=>by
  rw[hn] at hj;rw[hW.w.k0 j hj];intro e;have:((j+2:Nat):Int)=((i+2:Nat):Int):=by simpa[mk] using e
  omega
 refine zk4 X d S 0 (some 1) (jT 5 ((i+2:Nat):Int)) (mG i) u h o hnt (hW.tv 0 (by omega)) hW.w.wE.1 (hW.w.sets (by decide)) (UW _) (UY _) (by show(0:Nat)<2 ^ 64;decide) (fun w hw=>?_);exact z42 X d S 0 _ _ w hw o hnt (UW _) (UY _) (by show(0:Nat)<2 ^ 64;decide) (by show(2:Int)≠0;decide) (by omega) (by omega) (RV hk) hce (by omega) (zx5 ((o.is h).ok 0 hnt) (by omega) (by omega) (j74 _ _ _) hk)
theorem DP.uF(q:DP)(x:VD):(q.hold [x]).kH ((q.hold [x]).held.length-1)=q:=by
 show{q with held:=(q.held++[x]).take ((q.held++[x]).length-1)}=q;rw[show(q.held++[x]).length-1=q.held.length by simp,List.take_left]
theorem vW.held{X:RX}{p:DP}{n m i:Nat}{q:DP}(h:vW X p n m i q):q.held=p.held:=by
 obtain⟨S,_,_,e⟩:=h;rw[e];rfl
theorem vW.put{X:RX}{p:DP}{n m i m' i':Nat}{q q':DP}(h:vW X p n m i q){k:Nat}(h':vW X q k m' i' q'):vW X p (n+k) m' i' q':=by
 obtain⟨S,_,_,e⟩:=h;obtain⟨S',hW,ht,e'⟩:=h';refine⟨S',hW,ht,?_⟩;have e1:q.jc=p.jc+n:=by rw[e];rfl
 have e2:q.sin=p.sin+n:=by rw[e];rfl
 rw[e',DP.mk.injEq];refine⟨?_,?_,?_,?_,?_,?_,rfl,rfl,?_,?_,?_,?_,?_,?_,?_,rfl,rfl⟩
 ·show q.recs=p.recs;rw[e];rfl
 ·show q.ti=p.ti;rw[e];rfl
 ·show q.held=p.held;rw[e];rfl
 ·show q.sc=p.sc;rw[e];rfl
 ·show q.line=p.line;rw[e];rfl
 ·show q.vs=p.vs;rw[e];rfl
 ·show q.jc+k=p.jc+(n+k);omega
 ·show q.sin+k=p.sin+(n+k);omega
 ·show q.cls=p.cls;rw[e];rfl
 ·show q.fr=p.fr;rw[e];rfl
 ·show q.lv=p.lv;rw[e];rfl
 ·show q.ro=p.ro;rw[e];rfl
 ·show q.se=p.se;rw[e];rfl
def yF(X:RX)(iv i F FK:Nat)(cs Aa:Array Value):Prop:=∃s1 s2 s3 ra ro rc fa pb bb L Z a b V nd,F=193/\cs = #[ptr s1,ptr s2,ptr s3]/\Od X s1 #[.int .i64 1]/\Od X s2 #[.slice (some ⟨ra,ro,none⟩) 1 rc]/\Oo X ra ro (CZ fa)/\Oo X ra (ro+1) (rM pb)/\Od X s3 #[iE 239 #[ptr L]]/\Od X L #[iE 232 #[ptr Z]]/\Od X Z (vA (mG i))/\Od X fa #[iE 269 #[ptr a,ptr b]]/\Od X pb #[ptr bb]/\Od X bb #[ptr X.M,nd]/\Od X a #[iE 218 #[ptr V]]/\Od X V #[.int .i64 (iv:Int)]/\Od X b #[iE FK Aa]
theorem yx6(X:RX)(d:MD)(u:World)(iv i n F FK Q:Nat)(cs Aa:Array Value)(h:St X d u)(hC:yF X iv i F FK cs Aa)(hv:d.vs[iv]?=some (ptr Q))(hQ:Bx X d u Q (vA (jr 0)))(hh:d.held.length<=100)(hi:i<=100)(hce:d.lv+d.sin+n + 1<=X.ce)(yw:d.jc+n<=1000)(hK:rD X FK Aa d u (d.p.hold [jr 0]) (jr (i+2)) (fun q=>∃q2,vW X d.p n (i+1) i q2/\q=q2.hold [jr 0])):Calls Tryz.prog F (#[ptr X.F]++cs) u fun e w'=>kK X d u (fun way d' _=>way=.nilIface/\vW X d.p (n+1) (i+1) (i+1) d'.p) e w':=by
 obtain⟨s1,s2,s3,ra,ro,rc,fa,pb,bb,L,Z,a,b,V,nd,rfl,rfl,k1,k2,BP,Dp,k3,kL,kZ,kf,kp,kb,ka,kV,kbK⟩:=hC;have hh':d.p.held.length<=100:=hh;have hT:=yr6 X 218 FK a b #[ptr V] Aa d u d.p (jr 0) (jr (i+2)) (·=d.p) (fun q=>∃q2,vW X d.p n (i+1) i q2/\q=q2.hold [jr 0]) ka kbK (QM kV hv hQ) (fun q e=>by rw[e];omega) (fun q e=>by rw[e];exact hK) (fun q hq=>by
  obtain⟨q2,h1,rfl⟩:=hq;show 1<=(q2.held++[jr 0]).length/\(q2.held++[jr 0]).length<=1000;rw[h1.held];simp;omega)
 refine zy3 X d u s1 s2 s3 ra ro rc fa pb bb 269 239 #[ptr a,ptr b] #[ptr L] nd (jr 0) (jr (i+2)) (mG i) _ (fun q=>∃q2,vW X d.p n (i+1) i q2/\q=q2.hold [jr 0,jr (i+2)]) (vW X d.p n (i+1) i) (vW X d.p (n+1) (i+1) (i+1)) h k1 k2 BP Dp k3 kf kp kb hT (fun q hq=>?_) (by omega) (fun q hq=>?_) (fun q hq=>?_) (fun d1 w1 hs hq=>?_)
 ·obtain⟨q2,h1,rfl⟩:=hq;rw[DP.uF];exact h1.held
 ·obtain⟨q2,h1,rfl⟩:=hq;rw[DP.uF];exact(yt6 X 232 L #[ptr Z] d u _ (mG i) _ kL (QJ kZ)).mono fun q e=>⟨q2,h1,e⟩
 ·obtain⟨q2,h1,e⟩:=hq;exact⟨q2,h1,e,h1.held⟩
 ·have hq0:=hq;obtain⟨S,hW,ht,e⟩:=hq;have e1:d1.lv=d.lv/\d1.sin=d.sin+n/\d1.jc=d.jc+n:=⟨aJ DP.lv e,aJ DP.sin e,aJ DP.jc e⟩;refine(jb5 X d1 S i w1 hs.s ht.to hW hi (by omega) (by omega)).mono ?_;rintro e' w' ⟨rfl,a',c',d2,fJ,ho2,hp2⟩;exact⟨rfl,d2,fJ,hq0.put (k:=1) ⟨_,hW.put,ho2.tp,by rw[hp2]⟩⟩
structure qC(X:RX)(p:DP)(c m i s:Nat):Prop where
 wk:∃S,AP S m i/\qw X p S
 jc:p.jc=m+i + 3
 sin:p.sin=m+i + 3
 lv:p.lv=0
 ro:p.ro=0
 se:p.se=0
 held:p.held=[]
 sc:p.sc=(List.range (c+1)).map fun j:Nat=>(j:Int)
 rl:p.recs.length=s
 rk:∀x∈p.recs,x.k≠6
 ti:p.ti<=3*s
def tbJ(j:Nat):Nat:=if j=0 then 0 else j+1
def vF(X:RX)(d:MD)(w:World)(c:Nat):Prop:=∀j,j<c+1->∃Q,d.vs[j]?=some (ptr Q)/\jk X d w Q (vA (jr (tbJ j)))
structure EX(X:RX)(d:MD)(w:World)(c m i s:Nat):Prop where
 p:qC X d.p c m i s
 v:vF X d w c
 t:lX X d w
theorem vF.step{X:RX}{d d':MD}{w w':World}{c:Nat}(h:vF X d w c)(hs:Sp X d w d' w')(e:d'.vs=d.vs):vF X d' w' c:=fun j hj=>by
 obtain⟨Q,h1,h2⟩:=h j hj;exact⟨Q,by rw[e];exact h1,h2.step hs⟩
def vY(X:RX)(F FA:Nat)(cs csA:Array Value):Prop:=∃s1 s2 s3 bb nd A2 L,F=145/\cs = #[ptr s1,ptr s2,ptr s3]/\Od X s1 #[ptr bb]/\Od X bb #[ptr X.M,nd]/\Od X s2 A2/\A2[1]?=some (.int .i64 L)/\Od X s3 #[iE FA csA]
theorem vY.ent{X:RX}{F FA:Nat}{cs csA:Array Value}(h:vY X F FA cs csA):tq F:=by
 obtain⟨s1,s2,s3,bb,nd,A2,L,rfl,_⟩:=h;exact enters_of Tryz.func145 (by kernel_rfl) rfl
theorem MH(X:RX)(d:MD)(u:World)(F FA:Nat)(cs csA:Array Value)(P:DP->Prop)(B:MD->World->Prop)(h:St X d u)(hC:vY X F FA cs csA)(hE:tq FA)(hl:d.recs.length<4000)(ht:d.ti<X.tk)(hP:∀q,P q->P (q.ln d.line))(hB:∀d1 w1 d2 w2,B d1 w1->Sp X d1 w1 d2 w2->d2.vs=d1.vs->B d2 w2)(ha:∀L d3 w3,Sp X d u d3 w3->d3.p=d.p.begun X.fn L->Calls Tryz.prog FA (#[ptr X.F]++csA) w3 fun e w'=>kK X d3 w3 (fun way d' w'=>way=.nilIface/\P d'.p/\B d' w') e w'):Calls Tryz.prog F (#[ptr X.F]++cs) u fun e w'=>kK X d u (fun way d' w'=>way=.nilIface/\P d'.p/\B d' w') e w':=by
 obtain⟨s1,s2,s3,bb,nd,A2,L,rfl,rfl,k1,kb,k2,hA,k3⟩:=hC;refine(ZX X d s1 s2 s3 bb FA csA nd A2 L _ u h k1 kb k2 hA k3 hE hl ht (ha L)).mono ?_;rintro e w' ⟨way,d',rfl,hs,d4,w4,⟨rfl,h1,h2⟩,fO,e4⟩;exact⟨_,d',rfl,hs,rfl,by rw[e4];exact hP _ h1,hB d4 w4 d' w' h2 fO (aJ DP.vs e4)⟩
theorem qC.begun{X:RX}{p:DP}{c m i s:Nat}(h:qC X p c m i s)(f L:Int):qC X (p.begun f L) c m i (s+1):=
 ⟨h.wk,h.jc,h.sin,h.lv,h.ro,h.se,h.held,h.sc,by show(p.recs++[_]).length=_;simp[h.rl],fun x hx=>by
  have hx':x∈p.recs++[(⟨1,0,f,L,⟨#[]⟩⟩:lU)]:=hx;rcases dD.1 hx' with h1|h1
  ·exact h.rk x h1
  ·rw[List.mem_singleton.1 h1];show(1:Int)≠6;decide,by show p.ti+1<=_;have:=h.ti;omega⟩
theorem qC.ln{X:RX}{p:DP}{c m i s:Nat}(h:qC X p c m i s)(L:Int):qC X (p.ln L) c m i s:=⟨h.wk,h.jc,h.sin,h.lv,h.ro,h.se,h.held,h.sc,h.rl,h.rk,h.ti⟩
theorem qC.Vk{X:RX}{p q:DP}{c m i s n m' i':Nat}(h:qC X p c m i s)(k:vW X p n m' i' q)(e:m+i + n=m'+i'):qC X q c m' i' s:=by
 obtain⟨S,hW,hb,eq⟩:=k;refine⟨⟨S,hW,hb⟩,?_,?_,?_,?_,?_,?_,?_,?_,?_,?_⟩
 ·have:q.jc=p.jc+n:=by rw[eq];rfl
  rw[this,h.jc];omega
 ·have:q.sin=p.sin+n:=by rw[eq];rfl
  rw[this,h.sin];omega
 ·rw[eq];exact h.lv
 ·rw[eq];exact h.ro
 ·rw[eq];exact h.se
 ·rw[eq];exact h.held
 ·rw[eq];exact h.sc
 ·rw[eq];exact h.rl
 ·rw[eq];exact h.rk
 ·rw[eq];exact h.ti
end
section
open Go.RowKit
attribute [local go_sem] iD
attribute [local go_sem ↓] Go.wp_at_zero Go.wp_at_succ
theorem z14(X:RX)(d:MD)(g c n:Nat)(l:List VD)(tx:VD->ByteArray)(u:World)(h:St X d u)(hT:zK X tx l)(hg:Bl X d u g l)(hn:l.length=n)(h1:1<=n)(h2:n<=1000)(hj:(mQ tx l).size<=4000)(hl:d.recs.length<5000):Calls Tryz.prog 248 #[ptr X.M,.int .i64 0,.slice (some ⟨g,0,none⟩) n c] u fun e w'=>qx X d u [] (·=d.p.D8 ⟨6,0,X.fn,d.line,mQ tx l⟩) e w':=by
 have HP:Hid (Calls Tryz.prog 297 #[ptr X.M,.slice (some ⟨g,0,none⟩) n c] u fun e w'=>e=.returned (.tuple #[])/\To X d u (d.p.D8 ⟨6,0,X.fn,d.line,mQ tx l⟩) w'):=zm5 X d g c n l tx u h hT hg hn h1 h2 hj hl;go_in;go_wp2_with fail;refine HP.mono ?_;rintro e w1 ⟨rfl,d1,fH,e1⟩;have HF:Hid (qx X d u [] (·=d.p.D8 ⟨6,0,X.fn,d.line,mQ tx l⟩) (.returned (.slice none 0 0)) w1):=⟨none,0,d1,rfl,.inl ⟨rfl,rfl,rfl⟩,fH,e1⟩;go_wp2_with fail;go_ret;exact HF
end
end Go.Proofs.YthnkncpegihbhaaGreatDoor
