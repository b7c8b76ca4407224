import Derived.Test.YtihnikeikhjndaaGreatDoorYrG
set_option maxRecDepth 100000
set_option maxHeartbeats 16000000
namespace Go.Proofs.YtihnikeikhjndaaGreatDoor
section
open Go.RowKit
abbrev sD(v:VD):ByteArray:=bA (bI v.n)
theorem OA{X:RX}(hT:jV X)(m:Nat)(hm:m<=1000):sK X sD [jk (m:Int)]:=fun v hv w hw=>by
 obtain rfl:=List.mem_singleton.1 hv;exact Wv (m:Int) w ⟨by omega,by omega⟩ (hT w hw)
theorem yp7(v:VD):dM sD [v]=sD v:=by simp[dM,Lib.join]
theorem y20(v:VD):(sD v).size<=100:=by
 have h2:=KY v.n;have h3:(bA (bI v.n)).size=(bI v.n).length:=EM _;show(bA (bI v.n)).size<=100;omega
theorem dZ.congr{X:RX}{N0:Nat}{k:Ek}{tr:ByteArray}{q q':DP}{E:Nat}{d:MD}{w:World}(h:dZ X N0 k tr q E d w)(hs:St X d w)(e:∀t v,∃v',q.qm t v=q'.qm t v'):dZ X N0 k tr q' E d w:=h.step (Sp.refl hs) (fun t v h1=>by obtain⟨v',h2⟩:=e t v;exact⟨v',h1.trans h2⟩)
def UV.lrs(V:UV)(f:Nat)(rs:List eP):List eP:=[⟨2,0,(f:Int),V.fL f,sG⟩]++([⟨1,0,(f:Int),(V.Ls f).L1,⟨#[]⟩⟩,⟨1,0,(f:Int),(V.Ls f).L2,⟨#[]⟩⟩]++rs++[⟨6,0,(f:Int),(V.Ls f).L1,dM sD [jk (f-1:Nat)]⟩])++[⟨3,0,(f:Int),0,sErr⟩]
def UR(X:RX)(N:Nat)(L:Int)(v:VD)(p:DP)(way:Value)(d':MD)(w':World):Prop:=way=.nilIface/\Kd X N L v d' w'/\d'.p=(p.defs d'.df)
theorem jX.Jo{X:RX}{N:Nat}{L l:Int}{v:VD}{p:DP}{way:Value}{d':MD}{w':World}(h:jX X l (Kr X N p L v) way d' w'):UR X N L v (p.ln l) way d' w':=by
 obtain⟨d4,w4,⟨rfl,D,dc,g,c,e4,h1,h2,h3,h4,h5⟩,s,e⟩:=h;have hdf:d'.df=.slice (some ⟨D,0,none⟩) 1 dc:=(congrArg DP.df e).trans (congrArg DP.df e4);exact⟨rfl,⟨D,dc,g,c,hdf,h1,h2.step s,h3.step s,h4,h5⟩,by rw[hdf,e,e4];rfl⟩
theorem Kd.step{X:RX}{N:Nat}{L:Int}{v:VD}{d d':MD}{w w':World}(h:Kd X N L v d w)(s:Sp X d w d' w')(e:d'.df=d.df):Kd X N L v d' w':=(Kd.Xl X N L v).s _ _ _ _ h s e
theorem yg6(V:UV)(f:Nat)(X:RX)(d:MD)(F2:Nat)(cs2:Array Value)(k:Ek)(tr:ByteArray)(rs:List eP)(tt:Nat)(u:World)(h:St X d u)(hV:V.ok X)(h1:1<=f)(hf:f<=V.n)(hfn:X.fn=(f:Int))(hsc:d.sc=[])(hdf:d.df=.slice none 0 0)(hh:d.held=[])(hti:d.ti+tt<=4000)(hre:d.recs.length+rs.length<=3000)(hE2:Au F2)(ht3:Od X (V.Ls f).t3 #[jA F2 cs2])(hact:∀d3 w3,Sp X d u d3 w3->(∃v,d3.p=((d.p.plus [⟨1,0,(f:Int),(V.Ls f).L1,⟨#[]⟩⟩,⟨1,0,(f:Int),(V.Ls f).L2,⟨#[]⟩⟩] 2).ln (V.Ls f).L2).defs v)->Calls Tryz.prog F2 (#[ptr X.F]++cs2) w3 fun e w'=>bG X d3 w3 (iD X w3.heap.size k tr (d3.p.plus rs tt) (fun d' _=>d'.df=d3.df)) e w'):Calls Tryz.prog 189 #[ptr X.F,ptr (V.Ls f).k1,ptr (V.Ls f).k2] u fun e w'=>bG X d u (dZ X u.heap.size k tr ((d.p.plus ([⟨1,0,(f:Int),(V.Ls f).L1,⟨#[]⟩⟩,⟨1,0,(f:Int),(V.Ls f).L2,⟨#[]⟩⟩]++rs++[⟨6,0,(f:Int),(V.Ls f).L1,dM sD [jk (f-1:Nat)]⟩]) (tt+3)).ln d.line)) e w':=by
 have hI:=hV.l f h1 hf;have htk:=hV.tk;have hn:=hV.n;have hz:=yl2 X d (V.Ls f).k1 (V.Ls f).k2 (V.Ls f).bb (V.Ls f).nd k tr ((d.p.plus ([⟨1,0,(f:Int),(V.Ls f).L1,⟨#[]⟩⟩,⟨1,0,(f:Int),(V.Ls f).L2,⟨#[]⟩⟩]++rs) (tt+2)).ln (V.Ls f).L2) (V.Ls f).L1 (jk (f-1:Nat)) sD u h hV.e hI.k2 hI.bb hsc hdf hsc rfl (OA hV.t _ (by omega)) (by rw[yp7];have:=y20 (jk (f-1:Nat));omega) (by show d.ti+(tt+2)<X.tk;omega) (by show(d.recs++_).length<5000;simp;omega) (by rw[hh];simp) (fun b3 b7 w2 s2 x3 x7=>?_)
 ·refine hz.mono ?_;rintro e w' ⟨E,d',rfl,hs,hr⟩;refine⟨E,d',rfl,hs,?_⟩;have e1:(((d.p.plus ([⟨1,0,(f:Int),(V.Ls f).L1,⟨#[]⟩⟩,⟨1,0,(f:Int),(V.Ls f).L2,⟨#[]⟩⟩]++rs) (tt+2)).ln (V.Ls f).L2).ln d.line).plus [⟨6,0,X.fn,(V.Ls f).L1,dM sD [jk (f-1:Nat)]⟩] 1=(d.p.plus ([⟨1,0,(f:Int),(V.Ls f).L1,⟨#[]⟩⟩,⟨1,0,(f:Int),(V.Ls f).L2,⟨#[]⟩⟩]++rs++[⟨6,0,(f:Int),(V.Ls f).L1,dM sD [jk (f-1:Nat)]⟩]) (tt+3)).ln d.line:=by
   rw[hfn];simp[DP.plus,DP.ln,Nat.add_assoc]
  rw[e1] at hr;exact hr
 ·refine ye4 X d (V.Ls f).k1 (V.Ls f).ka (V.Ls f).kc b3 b7 (V.Ls f).s1 (V.Ls f).s2 (V.Ls f).s3 (V.Ls f).t1 (V.Ls f).t2 (V.Ls f).t3 (UR X w2.heap.size (V.Ls f).L1 (jk (f-1:Nat)) ((d.p.begun X.fn (V.Ls f).L1).ln d.line)) _ w2 s2.s hI.k1 hI.ka hI.kb x3 x7 hsc (fun way d' w' hr=>⟨hr.1,by have e:d'.sc=d.sc:=congrArg DP.sc hr.2.2;rw[e];exact hsc⟩) ?_ (fun d1 w1 s1 hr1=>?_)
  ·refine(GY X d (V.Ls f).s1 (V.Ls f).s2 (V.Ls f).s3 (V.Ls f).bb 237 #[ptr (V.Ls f).y1,ptr (V.Ls f).y2] (V.Ls f).nd (V.Ls f).A1 (V.Ls f).L1 (Kr X w2.heap.size (d.p.begun X.fn (V.Ls f).L1) (V.Ls f).L1 (jk (f-1:Nat))) (fun _ _ _=>False) w2 s2.s hI.s1 hI.bb hI.s2 hI.A1 hI.s3 (fun _ _=>rfl) (by omega) (by omega) (fun d3 w3 s3 e3=>?_)).mono ?_
   ·have DN:d3.df=.slice none 0 0:=(congrArg DP.df e3).trans hdf;have hh3:d3.held=[]:=(congrArg DP.held e3).trans hh;refine(zn2 X d3 (V.Ls f).y1 (V.Ls f).y2 (V.Ls f).P.p1 (V.Ls f).P.p2 (V.Ls f).Ay (V.Ls f).L1 (jk (f-1:Nat)) w3 s3.s hI.y1 hI.y2 hI.Ay DN (z57 (V.Ls f).P X d3 (jk (f-1:Nat)) w3 hI.P s3.s (by rw[hh3];simp))).mono ?_;rintro e w' ⟨way,d',rfl,hs,hw,D,dc,g,c,e1,e2,e4,e5,e6,e7⟩;exact .inl ⟨way,d',rfl,hs,hw,D,dc,g,c,by rw[e1,e3],e2,e4,e5,Nat.le_trans s3.g.size e6,Nat.le_trans s3.g.size e7⟩
   ·rintro e w' (⟨way,d',rfl,hs,hr⟩|⟨_,_,_,_,hr⟩)
    ·exact⟨way,d',rfl,hs,hr.Jo⟩
    ·exact hr.elim
  ·have e1:=hr1.2.2;have hr2:d1.recs=d.recs++[⟨1,0,X.fn,(V.Ls f).L1,⟨#[]⟩⟩]:=congrArg DP.recs e1;have ht2:d1.ti=d.ti+1:=congrArg DP.ti e1;refine(GY X d1 (V.Ls f).t1 (V.Ls f).t2 (V.Ls f).t3 (V.Ls f).bb F2 cs2 (V.Ls f).nd (V.Ls f).A2 (V.Ls f).L2 (fun _ _ _=>False) (iD X w2.heap.size k tr ((d.p.plus ([⟨1,0,(f:Int),(V.Ls f).L1,⟨#[]⟩⟩,⟨1,0,(f:Int),(V.Ls f).L2,⟨#[]⟩⟩]++rs) (tt+2)).ln (V.Ls f).L2) (Kd X w2.heap.size (V.Ls f).L1 (jk (f-1:Nat)))) w1 s1.s hI.t1 hI.bb hI.t2 hI.A2 ht3 hE2 (by rw[hr2];simp;omega) (by omega) (fun d3 w3 s3 e3=>?_)).mono ?_
   ·have e3':d3.p=((d.p.plus [⟨1,0,(f:Int),(V.Ls f).L1,⟨#[]⟩⟩,⟨1,0,(f:Int),(V.Ls f).L2,⟨#[]⟩⟩] 2).ln (V.Ls f).L2).defs d1.df:=by
     rw[e3,e1,hfn];simp[DP.begun,DP.plus,DP.ln,DP.defs,DP.tick,DP.gU]
    have DN:d3.df=d1.df:=congrArg DP.df e3';refine(hact d3 w3 ((s2.trans s1).trans s3) ⟨_,e3'⟩).mono ?_;rintro e w' ⟨E,d',rfl,hs,hr,hz⟩;refine .inr ⟨E,d',rfl,hs,?_,?_⟩
    ·refine(hr.mono (Nat.le_trans s1.g.size s3.g.size)).congr hs.s (fun t v=>⟨v,?_⟩);rw[e3'];simp[DP.plus,DP.ln,DP.defs,DP.qm,Nat.add_assoc,Nat.add_comm]
    ·exact((hr1.2.1.step s3 DN).step hs hz)
   ·rintro e w' (⟨_,_,_,_,_,_,hr,_⟩|hr)
    ·exact hr.elim
    ·exact hr
end
section
open Go.RowKit
attribute [local go_sem] aN
attribute [local go_sem ↓] Go.wp_at_zero Go.wp_at_succ
theorem Vl(X:RX)(d:MD)(x1 r1 r2:Nat)(R:Nat->MD->World->Prop)(u:World)(h:St X d u)(k1:Od X x1 #[qF r1 r2])(hi:Calls Tryz.prog 199 #[ptr X.F,ptr r1,ptr r2] u fun e w'=>bG X d u R e w'):Calls Tryz.prog 174 #[ptr X.F,ptr x1] u fun e w'=>bG X d u R e w':=by
 have HI:Hid (Calls Tryz.prog 199 #[ptr X.F,ptr r1,ptr r2] u fun e w'=>bG X d u R e w'):=hi;have b1':=(k1.at h).cell 0 rfl;have z1:=(k1.at h).1;clear h k1 hi;go_in;go_wp2_with fail;refine HI.mono ?_;rintro e w1 ⟨E1,d1,rfl,hs1,hr1⟩;have HF:Hid (bG X d u R (.panicked (lQ E1)) w1):=⟨E1,d1,rfl,hs1,hr1⟩;clear hs1 hr1 b1' z1;go_wp2_with fail;simp[bodyPost];exact HF
theorem Cx.i64{V:UV}{f:Nat}{X:RX}{d:MD}{w:World}(h:Cx V f X d w):dU d.line:=by rw[h.ln];exact h.v.ln f
def yr7(X:RX)(d:MD)(fn:Int)(cl:List Value)(d1:MD)(w1:World):Prop:=d1.p=(d.p.paid 1).fQ d1.cls d1.tb d1.TP/\∃Cb ca cc,lN X d1 ca cc (cl++[ptr Cb])/\Bx X d1 w1 Cb (cA fn)
theorem y93(V:UV)(f:Nat)(X:RX)(d:MD)(C:CI)(bb:Nat)(nd:Value)(R:Nat->MD->World->Prop)(u:World)(h:Cx V f X d u)(hC:C.ok X bb ((f+1:Nat):Int))(kb:Od X bb #[ptr X.M,nd])(hop:∀d2 w3,Sp X d u d2 w3->d2.p=((d.p.paid 1).tick).fQ d2.cls d2.tb d2.TP->(∃cl Cb ca cc,cl.length=f/\lN X d2 ca cc (cl++[ptr Cb])/\Bx X d2 w3 Cb (cA ((f+1:Nat):Int)))->Calls Tryz.prog 249 #[ptr X.M,(jM f).v,.slice none 0 0] w3 fun e w'=>bG X d2 w3 R e w'):Calls Tryz.prog 199 #[ptr X.F,ptr C.r1,ptr C.r2] u fun e w'=>bG X d u R e w':=by
 obtain⟨ca0,cc0,cl,hcl,hcn⟩:=h.cl;have hn:=h.v.n;have hfn:=h.fn;refine y77 X d C.r1 C.r2 C.c1 C.c2 bb nd (jM f) (yr7 X d ((f+1:Nat):Int) cl) R u h.s hC.r1 hC.r2 kb ?_ (fun d1 w1 w2 s1 q1 s12=>?_)
 ·refine(z58 X d C.c1 C.c2 C.b1 C.b2 C.b3 C.ua C.uc ((f+1:Nat):Int) ca0 cc0 cl u h.s hC.c1 hC.b1 hC.b2 hC.b3 hcl (by omega) (by rw[h.sin,h.v.ce];omega) (by rw[h.fM];omega) hC.c2 (by rw[h.held];simp)).mono ?_;rintro e w' ⟨Cb,ca,cc,d',rfl,hs,e',ho,hb⟩;exact⟨by rw[hcn],d',hs,e',Cb,ca,cc,ho,hb⟩
 ·obtain⟨e1,Cb,ca,cc,ho,hb⟩:=q1;have ht1:d1.ti=d.ti:=congrArg DP.ti e1;have hti:=h.ti;refine z84 X d1 f R w2 s12.s (by rw[ht1,h.v.tk];omega) (fun d2 w3 s3 e3=>?_);refine(hop d2 w3 ((s1.trans s12).trans s3) ?_ ⟨cl,Cb,ca,cc,hcn,ho.step (congrArg DP.cls e3) (congrArg DP.tb e3) (congrArg DP.TP e3),(hb.step s12).step s3⟩);have h1:d2.cls=d1.cls:=congrArg DP.cls e3;have h2:d2.tb=d1.tb:=congrArg DP.tb e3;have h3:d2.TP=d1.TP:=congrArg DP.TP e3;rw[e3,h1,h2,h3,e1];rfl
theorem Ja:bA (bI 8)=⟨#[56]⟩/\dU 8:=⟨by decide,by decide,by decide⟩
theorem Ud(V:UV)(f:Nat)(X:RX)(d:MD)(C:CI)(bb:Nat)(nd:Value)(u:World)(h:Cx V f X d u)(hC:C.ok X bb ((f+1:Nat):Int))(kb:Od X bb #[ptr X.M,nd])(hdp:¬f+1<V.dp):Calls Tryz.prog 199 #[ptr X.F,ptr C.r1,ptr C.r2] u fun e w'=>bG X d u (iD X u.heap.size (J8 8 56 (V.ln f)) (kY V.tf (f+1)) (d.p.plus [⟨4,0,(f:Int),V.ln f,qP 56⟩] 1) (fun d' _=>d'.df=d.df)) e w':=by
 refine y93 V f X d C bb nd _ u h hC kb (fun d2 w3 s3 e3 _=>?_);have hfr:d2.fr=d.fr:=congrArg DP.fr e3;have hln:d2.line=d.line:=congrArg DP.line e3;have hrec:d2.recs=d.recs:=congrArg DP.recs e3;have htab:d2.tab=d.tab:=congrArg DP.tab e3;have Qx:d2.gq=d.gq:=congrArg DP.gq e3;have hf:=h.fn;have hn:=h.v.n;have hre:=h.recs;refine ZG X d2 f _ w3 s3.s (by rw[h.v.dp,h.fl];omega) (fun w4 s4=>?_);obtain⟨bM,hF,hx⟩:=h.MW;have hF4:=(hF.step s3 hfr).step s4 rfl;have hi:dU d2.line:=by rw[hln];exact h.i64
 have hall:=hF4.all h.top s4.s hi;have htr:uO (jL X bM f (V.nm f) d2.line) X.fl=kY V.tf (f+1):=by
  rw[h.fl];refine U0 fun i hi=>?_;unfold jL;rw[h.fl];by_cases hh:i+1<f+1
  ·rw[if_pos hh];exact hx i (by omega)
  ·rw[if_neg hh,show i=f by omega,hln,h.ln];rfl
 have hz:=z22 X 8 56 Ja d2 V.ub V.uo (V.n+1) V.uc (jL X bM f (V.nm f) d2.line) w4 s4.s h.v.f ⟨h.v.lt,h.v.ne⟩ hall.1 h.v.t (by rw[hrec];omega) (htab.trans h.tab) (Qx.trans h.gq) hall.2;refine hz.mono ?_;rintro e w' ⟨E,d',rfl,hs,hr⟩;have hdf:d'.df=d.df:=by
  obtain⟨N,K,t1,c1,v,_,e,_⟩:=hr;exact(congrArg DP.df e).trans (congrArg DP.df e3)
 rw[htr,hln,h.ln] at hr;refine⟨E,d',rfl,hs,?_,hdf⟩;refine((hr.thr (dg:=56)).mono (Nat.le_trans s3.g.size s4.g.size)).congr hs.s (fun t v=>⟨v,?_⟩);rw[e3,h.top.e];simp[DP.fQ,DP.paid,DP.tick,DP.plus,DP.gU,DP.qm]
theorem TM(V:UV)(f:Nat)(X:RX)(d:MD)(C:CI)(bb:Nat)(nd:Value)(F2:Nat)(cs2:Array Value)(k:Ek)(tr:ByteArray)(rs:List eP)(tt:Nat)(u:World)(h:Cx V f X d u)(hC:C.ok X bb ((f+1:Nat):Int))(kb:Od X bb #[ptr X.M,nd])(hdp:f+1<V.dp)(hfn:f+1<=V.n)(hE2:Au F2)(ht3:Od X (V.Ls (f+1)).t3 #[jA F2 cs2])(hrs:rs.length<=1000)(htt:tt<=1000)(hact:∀X' d3 w3,Cx V (f+1) X' d3 w3->(∃F V0 j r,X'=xC X F V0 j ((f+1:Nat):Int) r 0)->Calls Tryz.prog F2 (#[ptr X'.F]++cs2) w3 fun e w'=>bG X' d3 w3 (iD X' w3.heap.size k tr (d3.p.plus rs tt) (fun d' _=>d'.df=d3.df)) e w'):Calls Tryz.prog 199 #[ptr X.F,ptr C.r1,ptr C.r2] u fun e w'=>bG X d u (iD X u.heap.size k tr (d.p.plus (V.lrs (f+1) rs) (tt+4)) (fun d' _=>d'.df=d.df)) e w':=by
 refine y93 V f X d C bb nd _ u h hC kb (fun d2 w3 s3 e3 ⟨cl,Cb,ca,cc,hcn,ho,hb⟩=>?_);have hfr:d2.fr=d.fr:=congrArg DP.fr e3;have hln:d2.line=d.line:=congrArg DP.line e3;have hrec:d2.recs=d.recs:=congrArg DP.recs e3;have Ii:d2.ti=d.ti+1:=congrArg DP.ti e3;have BH:d2.held=d.held:=congrArg DP.held e3;have hn:=h.v.n;have hf:=h.fn;have hre:=h.recs;have hti:=h.ti;have hU:=h.v.u (f+1) (by omega) hfn;obtain⟨Rb,rfl,_,_⟩:=ho.at s3.s (j:=f) (v:=ptr Cb) (by rw[List.getElem?_append_right (by omega),hcn];simp);have BI:(cl++[ptr Cb]).length=f+1:=by rw[List.length_append,hcn];rfl
 have hz:=y40 X d2 (f+1) (V.n+1) V.ub V.uo V.uc 0 (V.vc (f+1)) V.bo V.bc (V.Ls (f+1)).k1 (V.Ls (f+1)).k2 Cb f Rb cc (f+1) (tt+3) (V.va (f+1)) sG (V.fL (f+1)) (V.p1 (f+1)) (V.q1 (f+1)) (V.p2 (f+1)) (V.p3 (f+1)) (V.q2 (f+1)) (V.q3 (f+1)) ([⟨1,0,((f+1:Nat):Int),(V.Ls (f+1)).L1,⟨#[]⟩⟩,⟨1,0,((f+1:Nat):Int),(V.Ls (f+1)).L2,⟨#[]⟩⟩]++rs++[⟨6,0,((f+1:Nat):Int),(V.Ls (f+1)).L1,dM sD [jk (f+1-1:Nat)]⟩]) k 0 tr w3 s3.s h.v.e hU hb (by rw[ho.c,BI]) (by omega) (fun w hw=>by
   obtain⟨B',e,_,hc⟩:=ho.at hw (j:=f) (v:=ptr Cb) (by rw[List.getElem?_append_right (by omega),hcn];simp)
   cases e;exact hc) (by rw[h.v.dp,h.fl];omega) (by rw[hrec];simp;omega) (by omega) h.v.jB (h.v.b (f+1) (by omega) hfn) (fun F V0 fa fc dd ww hs ed td pd=>?_)
 ·refine hz.mono ?_;rintro e w' ⟨E,d',rfl,hs,hr,hdf⟩;refine⟨E,d',rfl,hs,?_,hdf.trans (congrArg DP.df e3)⟩;refine(hr.mono s3.g.size).congr hs.s (fun t v=>⟨v,?_⟩);rw[e3];simp[UV.lrs,DP.fQ,DP.paid,DP.tick,DP.plus,DP.qm];omega
 ·have hdl:dd.line=0:=congrArg DP.line ed;have hdt:dd.ti=d2.ti:=congrArg DP.ti ed;have hdr:dd.recs=d2.recs++[⟨2,0,((f+1:Nat):Int),V.fL (f+1),sG⟩]:=congrArg DP.recs ed;have XG:dd.held=d2.held:=congrArg DP.held ed;have QD:dd.fr=d2.fr++[ptr F]:=congrArg DP.fr ed;have hy:=yg6 V (f+1) (xC X F V0 f ((f+1:Nat):Int) (.slice none 0 0) 0) dd F2 cs2 k tr rs tt ww hs (h.v.xC _ _ _ _ _ _) (by omega) hfn rfl (congrArg DP.sc ed) (congrArg DP.df ed) (by rw[XG,BH];exact h.held) (by rw[hdt,Ii];omega) (by rw[hdr,hrec];simp;omega) hE2 ht3 (fun d3 w4 s4 ⟨v,e4⟩=>?_)
  ·rw[hdl] at hy;exact hy
  ·refine hact _ d3 w4 ?_ ⟨F,V0,f,_,rfl⟩;obtain⟨bM,hF,hx⟩:=h.MW;have hi:dU d2.line:=by rw[hln];exact h.i64
   have hF2:=(hF.step s3 hfr).open h.top s3.s hi td pd (dR.xC X F V0 f _ _ _) QD;refine⟨s4.s,h.v.xC _ _ _ _ _ _,hfn,by show X.fl+1=f+1 + 1;rw[h.fl],hdp,by rw[show V.nm (f+1)=sG by simp[UV.nm]];exact⟨rfl,by omega,hU.n0,by decide⟩,⟨_,hF2.step s4 (congrArg DP.fr e4),fun i hi=>?_⟩,by have h1:d3.line=(V.Ls (f+1)).L2:=congrArg DP.line e4;rw[h1];simp[UV.ln],⟨some ⟨Rb,0,none⟩,cc,cl++[ptr Cb],lN.step (X:=xC X F V0 f ((f+1:Nat):Int) (.slice none 0 0) 0) ⟨ho.c,ho.b,ho.p⟩ ((show d3.cls=dd.cls from congrArg DP.cls e4).trans (show dd.cls=d2.cls from congrArg DP.cls ed)) ((show d3.tb=dd.tb from congrArg DP.tb e4).trans (show dd.tb=d2.tb from congrArg DP.tb ed)) ((show d3.TP=dd.TP from congrArg DP.TP e4).trans (show dd.TP=d2.TP from congrArg DP.TP ed)),BI⟩,?_,?_,?_,?_,?_,?_,?_⟩
   ·unfold jL;rw[h.fl];by_cases hh:i+1<f+1
    ·rw[if_pos hh];exact hx i (by omega)
    ·rw[if_neg hh,show i=f by omega,hln,h.ln];rfl
   ·exact(((show d3.tab=dd.tab from congrArg DP.tab e4).trans (show dd.tab=d2.tab from congrArg DP.tab ed)).trans (congrArg DP.tab e3)).trans h.tab
   ·exact(((show d3.gq=dd.gq from congrArg DP.gq e4).trans (show dd.gq=d2.gq from congrArg DP.gq ed)).trans (congrArg DP.gq e3)).trans h.gq
   ·exact(((show d3.held=dd.held from congrArg DP.held e4).trans XG).trans BH).trans h.held
   ·exact(((show d3.sin=dd.sin from congrArg DP.sin e4).trans (show dd.sin=d2.sin from congrArg DP.sin ed)).trans (congrArg DP.sin e3)).trans (by show d.sin+1=f+1;rw[h.sin])
   ·exact(((show d3.fM=dd.fM from congrArg DP.fM e4).trans (show dd.fM=d2.fM from congrArg DP.fM ed)).trans (congrArg DP.fM e3)).trans (by show d.fM+1=f+1;rw[h.fM])
   ·have h1:d3.ti=dd.ti+2:=congrArg DP.ti e4;rw[h1,hdt,Ii];omega
   ·have h1:d3.recs=dd.recs++_:=congrArg DP.recs e4;rw[h1,hdr,hrec];simp;omega
end
section
open Go.RowKit
def UV.aR(V:UV):Nat->Nat->List eP
 |0,f=>[⟨4,0,(f:Int),V.ln f,dP⟩]
 |m+1,f=>if f+1<V.dp then V.lrs (f+1) (V.aR m (f+1)) else[⟨4,0,(f:Int),V.ln f,qP 56⟩]
def UV.aT(V:UV):Nat->Nat->Nat
 |0,_=>0
 |m+1,f=>if f+1<V.dp then V.aT m (f+1)+4 else 1
def UV.aK(V:UV):Nat->Nat->Ek
 |0,_=>Fe dP
 |m+1,f=>if f+1<V.dp then V.aK m (f+1) else J8 8 56 (V.ln f)
def UV.aO(V:UV):Nat->Nat->Nat
 |0,f=>f
 |m+1,f=>if f+1<V.dp then V.aO m (f+1) else f
theorem UV.oL(V:UV):∀m f,(V.aR m f).length<=5*m+1
 |0,_=>by simp[UV.aR]
 |m+1,f=>by
  have:=V.oL m (f+1);unfold UV.aR;split
  ·simp[UV.lrs];omega
  ·simp
theorem UV.xI(V:UV):∀m f,V.aT m f<=4*m+1
 |0,_=>by simp[UV.aT]
 |m+1,f=>by
  have:=V.xI m (f+1);unfold UV.aT;split<;>omega
theorem zq4(V:UV)(f:Nat)(X:RX)(d:MD)(u:World)(h:Cx V f X d u)(h1:1<=f)(hI:(V.Ls f).ok X (jk (f-1:Nat)))(hT:(V.Ls f).th X):Calls Tryz.prog 184 #[ptr X.F,ptr (V.Ls f).z1,ptr (V.Ls f).z2] u fun e w'=>bG X d u (iD X u.heap.size (Fe dP) (kY V.tf (f+1)) (d.p.plus [⟨4,0,(f:Int),V.ln f,dP⟩] 0) (fun d' _=>d'.df=d.df)) e w':=by
 have hf:=h.fn;have hn:=h.v.n;have hre:=h.recs;have hz:=y79 X d (V.Ls f).z1 (V.Ls f).z2 (V.Ls f).bb (V.Ls f).pc (V.Ls f).nd dP (kY V.tf (f+1)) u h.s (by decide) hT.z1 hI.bb hT.z2 hT.pc (by omega) (fun w1 hb=>?_)
 ·rw[h.top.e,h.ln,DP.kP] at hz;exact hz
 ·have h2:Cx V f X d w1:=h.step (Sp.below h.s hb) rfl rfl rfl rfl rfl rfl rfl rfl rfl rfl rfl rfl;obtain⟨bM,hF,_,htr⟩:=h2.all;rw[<-htr];exact WR X d V.ub V.uo (V.n+1) V.uc bM w1 h2.s h.v.f ⟨h.v.lt,h.v.ne⟩ hF h.v.t
theorem y71(V:UV):∀(m f:Nat) (X:RX) (d:MD) (C:CI) (bb:Nat) (nd:Value) (u:World),f+(m+1)=V.n->Cx V f X d u->C.ok X bb ((f+1:Nat):Int)->Od X bb #[ptr X.M,nd]->Calls Tryz.prog 199 #[ptr X.F,ptr C.r1,ptr C.r2] u fun e w'=>bG X d u (iD X u.heap.size (V.aK (m+1) f) (kY V.tf (V.aO (m+1) f+1)) (d.p.plus (V.aR (m+1) f) (V.aT (m+1) f)) (fun d' _=>d'.df=d.df)) e w':=by
 intro m
 induction m with
 |zero=>
  intro f X d C bb nd u hm h hC kb;by_cases hdp:f+1<V.dp
  ·have hI:=h.v.l (f+1) (by omega) (by omega);have hT:=h.v.h (by omega);rw[show V.n=f+1 by omega] at hT;simp only[UV.aK,UV.aO,UV.aR,UV.aT,if_pos hdp];refine TM V f X d C bb nd 184 #[ptr (V.Ls (f+1)).z1,ptr (V.Ls (f+1)).z2] (Fe dP) (kY V.tf (f+1 + 1)) [⟨4,0,((f+1:Nat):Int),V.ln (f+1),dP⟩] 0 u h hC kb hdp (by omega) (fun _ _=>rfl) hT.t3 (by simp) (by omega) (fun X' d3 w3 h3 hX=>?_);obtain⟨F,V0,j,r,rfl⟩:=hX;exact zq4 V (f+1) _ d3 w3 h3 (by omega) (hI.xC _ _ _ _ _ _) ⟨hT.t3,hT.z1,hT.z2,hT.pc⟩
  ·simp only[UV.aK,UV.aO,UV.aR,UV.aT,if_neg hdp];exact Ud V f X d C bb nd u h hC kb hdp
 |succ m ih=>
  intro f X d C bb nd u hm h hC kb;by_cases hdp:f+1<V.dp
  ·have hI:=h.v.l (f+1) (by omega) (by omega);have hG:=h.v.g (f+1) (by omega) (by omega);have hn:=h.v.n;have hl:=V.oL (m+1) (f+1);have ht:=V.xI (m+1) (f+1);rw[show V.aK (m+1 + 1) f=V.aK (m+1) (f+1) from if_pos hdp,show V.aO (m+1 + 1) f=V.aO (m+1) (f+1) from if_pos hdp,show V.aR (m+1 + 1) f=V.lrs (f+1) (V.aR (m+1) (f+1)) from if_pos hdp,show V.aT (m+1 + 1) f=V.aT (m+1) (f+1)+4 from if_pos hdp];refine TM V f X d C bb nd 174 #[ptr (V.Ls (f+1)).z1] _ _ _ _ u h hC kb hdp (by omega) (fun _ _=>rfl) hG.t3 (by omega) (by omega) (fun X' d3 w3 h3 hX=>?_);obtain⟨F,V0,j,r,rfl⟩:=hX;exact Vl _ d3 (V.Ls (f+1)).z1 (V.Ls (f+1)).C.r1 (V.Ls (f+1)).C.r2 _ w3 h3.s hG.z1 (ih (f+1) _ d3 (V.Ls (f+1)).C (V.Ls (f+1)).bb (V.Ls (f+1)).nd w3 (by omega) h3 (hG.c.xC _ _ _ _ _ _) hI.bb)
  ·rw[show V.aK (m+1 + 1) f=J8 8 56 (V.ln f) from if_neg hdp,show V.aO (m+1 + 1) f=f from if_neg hdp,show V.aR (m+1 + 1) f=[⟨4,0,(f:Int),V.ln f,qP 56⟩] from if_neg hdp,show V.aT (m+1 + 1) f=1 from if_neg hdp];exact Ud V f X d C bb nd u h hC kb hdp
end
section
open Go.RowKit
attribute [local go_sem] aN
attribute [local go_sem ↓] Go.wp_at_zero Go.wp_at_succ
structure QI where
 r1:Nat
 r2:Nat
 p1:Nat
 p2:Nat
 pc:Nat
 l1:Nat
 l2:Nat
 b1:Nat
 o:Nat
 la:Option Addr
 lc:Nat
 Bs:Nat->Nat
 r:Nat
 B:Nat
 i1:Nat
 i2:Nat
structure QI.ok(P:QI)(X:RX)(bb:Nat):Prop where
 r1:Od X P.r1 #[AX P.p1 P.p2]
 r2:Od X P.r2 #[ptr bb]
 p1:Od X P.p1 #[jP P.pc]
 pc:Od X P.pc (vA kE)
 p2:Od X P.p2 #[FP P.l1 P.l2 P.b1]
 l1:Od X P.l1 #[FU P.o]
 o:Od X P.o #[.slice P.la 1 P.lc]
 ls:Kt X P.la 1 P.Bs (fun _=>P.i1)
 l2:Od X P.l2 #[wI P.r]
 r:Od X P.r #[yY P.B]
 B:Od X P.B #[.int .i64 (P.i2:Int)]
theorem yi0(v:VD):vl (fun _=>v) 1=[v]:=by simp[vl]
def pW(v:VD):ByteArray:=if v.k=5 then jG else v.s
def kD(recs:List eP)(m:Nat)(way:Value)(d':MD)(_:World):Prop:=way=.nilIface/\d'.recs=recs/\m<=d'.sc.length
theorem Ek.cases(k:Ek):(k.tb=true/\k.v=VF)\/(k.tb=false/\k.v=fE k.s):=by
 unfold Ek.v
 cases k.tb
 ·exact .inr ⟨rfl,rfl⟩
 ·exact .inl ⟨rfl,rfl⟩
def Ek.hd(k:Ek):ByteArray:=bif k.tb then jG else k.s
theorem Ek.QE(k:Ek):pW k.v=k.hd:=by
 unfold Ek.v Ek.hd pW
 cases k.tb<;>simp
theorem OB(X:RX)(k:Ek)(hk:k.ok)(s:ByteArray)(hs:s.size<=4000):sK X pW [k.v,fE s]:=fun v hv w _=>by
 have hS:∀z:ByteArray,z.size<=4000->Calls Tryz.prog 58 #[(fE z).v] w fun e w'=>e=.returned (.string (pW (fE z)))/\ah w w':=fun z hz=>WO z w hz;have hks:=hk.s;rcases List.mem_cons.1 hv with rfl|hv
 ·rcases k.cases with⟨_,e⟩|⟨_,e⟩
  ·rw[e];exact zb3 w
  ·rw[e];exact hS k.s (by omega)
 ·obtain rfl:=List.mem_singleton.1 hv;exact hS s hs
theorem V5(k:Ek)(s:ByteArray):dM pW [k.v,fE s]=k.hd++⟨#[32]⟩++s:=by
 have h1:=k.QE;have h2:pW (fE s)=s:=by simp[pW]
 have h3:dM pW [k.v,fE s]=⟨(k.hd.data.toList++32 :: s.data.toList).toArray⟩:=by simp[dM,h1,h2,Lib.join]
 rw[h3]
 ext1
 simp[ByteArray.data_append]
theorem zn3(k:Ek)(hk:k.ok)(s:ByteArray):(dM pW [k.v,fE s]).size<=1010+s.size:=by
 rw[V5,AV,AV];have h1:k.hd.size<=1005:=by
  have:=hk.s;unfold Ek.hd
  cases k.tb
  ·simp;omega
  ·show jG.size<=1005;decide
 have h2:(⟨#[32]⟩:ByteArray).size=1:=rfl;omega
theorem ZL(P:QI)(X:RX)(d:MD)(bb:Nat)(nd:Value)(Q1 Q2:Nat)(k:Ek)(hk:k.ok)(s:ByteArray)(u:World)(hP:P.ok X bb)(kb:Od X bb #[ptr X.M,nd])(h:St X d u)(hv1:d.vs[P.i1]?=some (ptr Q1))(hQ1:Bx X d u Q1 (vA k.v))(hv2:d.vs[P.i2]?=some (ptr Q2))(hQ2:Bx X d u Q2 (vA (fE s)))(hs:s.size<=2900)(hr:d.recs.length<4000)(hh:d.held.length<=500)(ht:d.ti<X.tk):Calls Tryz.prog 199 #[ptr X.F,ptr P.r1,ptr P.r2] u fun e w'=>bP X d u [] ((d.p.plus [] 1).gU ⟨6,0,X.fn,d.line,dM pW [k.v,fE s]⟩) e w':=by
 refine zo6 X d P.r1 P.r2 P.p1 P.p2 bb nd kE [k.v,fE s] [] d.p _ u h hP.r1 hP.r2 kb (Xb X d P.p1 P.p2 P.pc P.l1 P.l2 P.b1 kE [k.v,fE s] d.p u h hP.p1 hP.pc hP.p2 rfl (fun d2 w2 k2 e2=>?_) (by omega)) (fun g c d1 w1 k1 e1 hb hc=>?_)
 ·have hv:d2.vs=d.vs:=congrArg DP.vs e2;have hh2:d2.held=d.held++[kE]:=congrArg DP.held e2;have hl2:d2.held.length=d.held.length+1:=by rw[hh2];simp
  have hz:=X5 X d2 P.l1 P.l2 P.b1 P.o P.r [k.v] [fE s] d2.p w2 k2.s hP.l1 hP.l2 rfl ?_ (fun d3 w3 k3 e3=>?_) (by simp;omega) (by simp)
  ·rw[e2] at hz;exact hz
  ·have:=zc3 X d2 P.o P.la 1 P.lc P.Bs (fun _=>P.i1) (fun _=>Q1) (fun _=>k.v) w2 k2.s hP.o.1 hP.o.2 hP.ls (fun _ _=>⟨by rw[hv];exact hv1,hQ1.step k2⟩) (by omega) (by omega) (by omega);rw[<-yi0 k.v];exact this.mono (fun e w' he=>TR he)
  ·have hv3:d3.vs=d2.vs:=congrArg DP.vs e3;refine(ZB X d3 P.r P.B Q2 P.i2 (fE s) w3 k3.s (hP.r.at k3.s) (hP.B.at k3.s) (by rw[hv3,hv];exact hv2) ((hQ2.step k2).step k3).1).mono ?_;rintro e w' ⟨⟨g,rfl,hg,hG⟩,hb⟩;refine⟨some ⟨g,0,none⟩,1,d3,rfl,(fun e=>nomatch e),?_,(Sp.refl k3.s).call hb,e3,fun ad e _=>by cases e;exact k3.s.other hg⟩;exact fun _=>⟨_,rfl,hG.1,fun j v hv=>by
    have h1:w'.cell? ⟨g,j,none⟩=some v:=(hG.2 j).trans (by simpa[hL,v5] using hv)
    cases j<;>simpa[Addr.add] using h1⟩
 ·have hr1:d1.recs=d.recs:=congrArg DP.recs e1;have ht1:d1.ti=d.ti:=congrArg DP.ti e1;have hl1:d1.line=d.line:=congrArg DP.line e1;have hz:=Xe X d1 g c 2 [k.v,fE s] pW w1 k1.s (by omega) (OB X k hk s (by omega)) hb rfl (by omega) (by omega) (by have:=zn3 k hk s;omega) (by rw[hr1];omega);rw[e1,hl1,DP.tV] at hz;exact hz
theorem z85(X:RX)(d:MD)(rb ro rc g c n kb:Nat)(iv:List Nat)(l:List VD)(recs:List eP)(u:World)(h:St X d u)(hr:∀d' w',Sp X d u d' w'->∀(j i:Nat),iv[j]?=some i->w'.cell? ⟨rb,ro+j,none⟩=some (.int .i64 (i:Int)))(hiv:∀(j i:Nat),iv[j]?=some i->i<X.nv)(hg:Bl X d u g l)(hn:iv.length=n)(hl:l.length=n)(hn2:n<=100)(hsc:d.sc.length<=900)(hbody:∀qs d1 w1,Sp X d u d1 w1->d1.p=d.p.decl qs->qs.map Prod.fst=iv->(∀(i:Nat) (x:Nat×Nat) (v:VD),qs[i]?=some x->l[i]?=some v->Bx X d1 w1 x.2 (vA v))->Calls Tryz.prog 170 #[ptr X.F,ptr kb] w1 fun e w'=>gG X d1 w1 (kD recs d1.sc.length) e w'):Calls Tryz.prog 211 #[ptr X.F,.slice (some ⟨rb,ro,none⟩) n rc,.slice (some ⟨g,0,none⟩) n c,nN kb] u fun e w'=>gG X d u (kD recs d.sc.length) e w':=by
 have HS:Hid (St X d u):=h;have HD:Hid (Calls Tryz.prog 88 #[ptr X.F,.slice (some ⟨rb,ro,none⟩) n rc,.slice (some ⟨g,0,none⟩) n c] u fun e w'=>e=.returned (.tuple #[])/\Kq X d u iv l n w'):=z27 X d rb ro rc g c n iv l u h hr hiv hg hn hl hn2 hsc;have yg:Hid (∀qs d1 w1,Sp X d u d1 w1->d1.p=d.p.decl qs->qs.map Prod.fst=iv->(∀(i:Nat) (x:Nat×Nat) (v:VD),qs[i]?=some x->l[i]?=some v->Bx X d1 w1 x.2 (vA v))->Calls Tryz.prog 170 #[ptr X.F,ptr kb] w1 fun e w'=>gG X d1 w1 (kD recs d1.sc.length) e w'):=hbody;have HN:Hid (iv.length=n):=hn;have f10:u.cell? ⟨X.F,10,none⟩=some (.slice d.sa d.sc.length d.sp):=h.f.1.cell 10 rfl;have lF:=h.f.1.1;obtain⟨m,hm⟩:∃m,d.sc.length=m:=⟨_,rfl⟩;have HM:Hid (d.sc.length=m):=hm;rw[hm] at f10;rw[hm];clear h hr hiv hg hn hl hn2 hsc hbody hm;go_in;go_wp2_with fail;refine HD.mono ?_;rintro e w1 ⟨rfl,qs,d1,hq1,hs1,e1,hb1⟩;have H1:Hid (Sp X d u d1 w1/\d1.p=d.p.decl qs/\qs.map Prod.fst=iv/\(∀(i:Nat) (x:Nat×Nat) (v:VD),qs[i]?=some x->l[i]?=some v->Bx X d1 w1 x.2 (vA v))):=⟨hs1,e1,by rw[hq1];exact List.take_of_length_le (by have:=HN.out;omega),hb1⟩;clear hq1 hs1 e1 hb1 f10 lF;go_wp2_with fail;refine(yg qs d1 w1 H1.1 H1.2.1 H1.2.2.1 H1.2.2.2).mono ?_;rintro e w2 ⟨way,d2,rfl,hs2,rfl,hr2,hsl2⟩;have hsc1:m<=d1.sc.length:=by
  have h1:d1.sc.length=d.sc.length+qs.length:=by
   have h2:=DP.sW d.p qs;have h3:d1.sc=(d.p.decl qs).sc:=congrArg DP.sc H1.2.1;rw[h3];exact h2
  have:=HM.out;omega
 have hm2:m<=d2.sc.length:=by omega
 have hcap:=hs2.s.mG;have hif:=AY d2.sa (d2.sp=0) (hcap.2.elim (fun h=>.inl h.1) .inr);have hcp:m<=d2.sp:=by have:=hcap.1;omega
 obtain⟨z,hz⟩:∃z,d2.sc.length=z:=⟨_,rfl⟩;have g10:w2.cell? ⟨X.F,10,none⟩=some (.slice d2.sa z d2.sp):=by rw[<-hz];exact hs2.s.f.1.cell 10 rfl
 have gz:=hs2.s.f.2;have lF:=hs2.s.f.1.1;have HF:Hid (gG X d u (kD recs m) (.returned .nilIface) (w2.setCell ⟨X.F,10,none⟩ (.slice d2.sa m d2.sp))):=by
  have h2:=Sp.qB hs2.s (m:=m) hm2;refine⟨_,_,rfl,(H1.1.trans hs2).trans h2,rfl,hr2,?_⟩;show m<=(d2.sc.take m).length;rw[List.length_take];omega
 clear hs2 hr2 hsl2 hsc1 hm2 hcap hz H1;go_wp2_with fail;go_ret;exact HF
theorem Bx.er{X:RX}{d:MD}{w:World}{E:Nat}{v:VD}{tr:ByteArray}(h:fB X d w E (Ea v tr)):w.cell? ⟨E,0,none⟩=some (.int .i64 v.k)/\w.cell? ⟨E,1,none⟩=some (.int .i64 v.n)/\w.cell? ⟨E,2,none⟩=some (.float .f64 v.f)/\w.cell? ⟨E,3,none⟩=some (.string v.s)/\w.cell? ⟨E,4,none⟩=some (.int .i64 v.r)/\w.cell? ⟨E,5,none⟩=some (.string tr):=
 ⟨h.1.1.cell 0 rfl,h.1.1.cell 1 rfl,h.1.1.cell 2 rfl,h.1.1.cell 3 rfl,h.1.1.cell 4 rfl,h.1.1.cell 5 rfl⟩
def Ek.tx(k:Ek):ByteArray:=bif k.tb then qP k.dg else k.s
theorem dZ.told{X:RX}{N0:Nat}{k:Ek}{tr:ByteArray}{q:DP}{E:Nat}{d:MD}{w:World}(h:dZ X N0 k tr q E d w)(hk:k.ok)(hs:St X d w)(hT:jV X):Calls Tryz.prog 56 #[ptr X.M,dI k.v.k k.v.n k.v.f k.v.s k.v.r] w fun e w'=>e=.returned (.string k.tx)/\ah w w':=by
 rcases k.cases with⟨e1,e⟩|⟨e1,e⟩
 ·obtain⟨N,K,t1,c1,h0,h1,h2⟩:=h.t e1;have hz:=Wx X k.cd k.dg hk.c d w hs t1 c1 K k.l h1 h2.tl h2.t (fun w' hb=>(h2.call hb).ex) hT;rw[e,show k.tx=qP k.dg by simp[Ek.tx,e1]];exact hz
 ·rw[e,show k.tx=k.s by simp[Ek.tx,e1]];exact WQ X.M k.s w hk.s
theorem Bl.new2{X:RX}{d:MD}{u:World}(h:St X d u)(v:VD)(s:ByteArray)(t:TypeId):Bl X d (u.alloc (.cells #[.int .i64 v.k,.int .i64 v.n,.float .f64 v.f,.string v.s,.int .i64 v.r,.int .i64 4,.int .i64 0,.float .f64 0,.string s,.int .i64 0] t)) u.heap.size [v,fE s]:=by
 refine⟨⟨by simp,fun j x hv=>?_⟩,h.other (Nat.le_refl _)⟩;have h1:=(Has.new u #[.int .i64 v.k,.int .i64 v.n,.float .f64 v.f,.string v.s,.int .i64 v.r,.int .i64 4,.int .i64 0,.float .f64 0,.string s,.int .i64 0] t).2 j;rw[h1];simpa[hL,v5] using hv
theorem qu7(X:RX)(d:MD)(x1 x2 x3 x4 k1 k2 rb ro rc:Nat)(A3:Array Value)(ek:Ek)(ev:VD)(hev:ek.v=ev)(hk:ek.ok)(tx:ByteArray)(htx:ek.tx=tx)(ln:Int)(tr:ByteArray)(q:DP)(recs:List eP)(u:World)(h:St X d u)(hE:qW X)(hT:jV X)(h1:Od X x1 #[nN k1])(h2:Od X x2 #[ptr X.M])(h3:Od X x3 A3)(hA3:A3[6]?=some (.slice (some ⟨rb,ro,none⟩) 2 rc))(h4:Od X x4 #[nN k2])(hsc:q.sc=d.sc)(hh:d.held.length<=q.held.length)(hl:d.line=ln)(hrec:q.recs.length<5000)(hrun:∀w2,Sp X d u d w2->Calls Tryz.prog 170 #[ptr X.F,ptr k1] w2 fun e w'=>bG X d w2 (dZ X w2.heap.size ek tr q) e w')(hins:∀d6 w6 g t v,Sp X d u d6 w6->d6.p=(((q.dX d.held.length).ln ln).gU ⟨5,0,X.fn,ln,tx⟩).qm t v->Bl X d6 w6 g [ev,fE tr]->Calls Tryz.prog 211 #[ptr X.F,.slice (some ⟨rb,ro,none⟩) 2 rc,.slice (some ⟨g,0,none⟩) 2 2,nN k2] w6 fun e w'=>gG X d6 w6 (kD recs d6.sc.length) e w'):Calls Tryz.prog 218 #[ptr X.F,ptr x1,ptr x2,ptr x3,ptr x4] u fun e w'=>gG X d u (kD recs d.sc.length) e w':=by
 have HS:Hid (St X d u):=h;have Ah:Hid (qW X/\jV X/\ek.ok/\ek.v=ev/\ek.tx=tx):=⟨hE,hT,hk,hev,htx⟩;have HK:Hid (Od X x2 #[ptr X.M]/\Od X x3 A3/\Od X x4 #[nN k2]/\A3[6]?=some (.slice (some ⟨rb,ro,none⟩) 2 rc)):=⟨h2,h3,h4,hA3⟩;have JJ:Hid (∀d6 w6 g t v,Sp X d u d6 w6->d6.p=(((q.dX d.held.length).ln ln).gU ⟨5,0,X.fn,ln,tx⟩).qm t v->Bl X d6 w6 g [ev,fE tr]->Calls Tryz.prog 211 #[ptr X.F,.slice (some ⟨rb,ro,none⟩) 2 rc,.slice (some ⟨g,0,none⟩) 2 2,nN k2] w6 fun e w'=>gG X d6 w6 (kD recs d6.sc.length) e w'):=hins;have ku:Hid (Calls Tryz.prog 53 #[ptr X.F,jA 219 #[ptr x1,ptr u.heap.size]] (u.alloc (.cells #[ptr X.F] 125)) fun e w'=>gG X d (u.alloc (.cells #[ptr X.F] 125)) (jw X ((u.alloc (.cells #[ptr X.F] 125)).heap.size+3) ek tr ((q.dX d.held.length).ln ln) (fun _ _=>True)) e w'):=by
  have k0:Sp X d u d (u.alloc (.cells #[ptr X.F] 125)):=(Sp.refl h).alloc _;rw[<-hl];refine PK X d 219 #[ptr x1,ptr u.heap.size] ek tr q (fun _ _=>True) _ k0.s (fun _ _=>rfl) (yP.true _ _) hh (fun w2 k hsz=>?_);refine zq0 X d x1 u.heap.size k1 _ w2 k.s h1 ((Bx.new h _ _).step k) ?_;refine(hrun w2 (k0.trans k)).mono fun e w' he=>he.mono fun E d' w'' ht=>⟨ht.mono (by omega),trivial⟩
 have HQ:Hid (q.sc=d.sc/\q.recs.length<5000):=⟨hsc,hrec⟩;have f10:u.cell? ⟨X.F,10,none⟩=some (.slice d.sa d.sc.length d.sp):=h.f.1.cell 10 rfl;have lF:=h.f.1.1;have hmf:=Dc;obtain⟨q',hq'⟩:∃q',(q.dX d.held.length).ln ln=q':=⟨_,rfl⟩;have Nr:Hid (q'.sc=d.sc/\q'.recs.length<5000/\q'.line=ln):=by rw[<-hq'];exact⟨hsc,hrec,rfl⟩
 rw[hq'] at ku JJ;clear h h1 h2 h3 h4 hA3 hE hT hk hev htx hrun hins hsc hh hl hrec hq';go_in;go_wp2_with fail;refine ku.mono ?_;rintro e w2 ⟨way,d2,rfl,hs2,E,rfl,hr2,_⟩;obtain⟨b5,hb5⟩:∃b5,u.heap.size=b5:=⟨_,rfl⟩;obtain⟨N0,hN0⟩:∃N0,(u.alloc (.cells #[ptr X.F] 125)).heap.size+3=N0:=⟨_,rfl⟩;rw[hN0] at hr2;have H2:Hid (Sp X d u d2 w2/\dZ X N0 ek tr q' E d2 w2/\Bx X d2 w2 b5 #[ptr X.F]):=by
  rw[<-hb5];exact⟨Sp.first HS hs2,hr2,(Bx.new HS _ _).step hs2⟩
 rw[hb5];clear hs2 hr2 hb5 ku f10 lF hmf hN0
 go_upto_region 3 with fail
 go_cut [] from 10 (fun w=>∃d3,Hid (Sp X d u d3 w/\dZ X N0 ek tr q' E d3 w/\Bx X d3 w b5 #[ptr X.F]))
 case first=>
  have hsc:d2.sc.length=d.sc.length:=by
   rw[H2.2.1.sc,Nr.1]
  have f10:w2.cell? ⟨X.F,10,none⟩=some (.slice d2.sa d.sc.length d2.sp):=by
   rw[<-hsc];exact H2.1.s.f.1.cell 10 rfl
  have fz:=H2.1.s.f.2;have lF:=H2.1.s.f.1.1;have hcap:=H2.1.s.mG;have hif:=AY d2.sa (d2.sp=0) (hcap.2.elim (fun h=>.inl h.1) .inr);have hcp:d.sc.length<=d2.sp:=by have:=hcap.1;omega
  have hSp:=(Sp.qB H2.1.s (m:=d.sc.length) (by omega)).drew;have hpp:({d2 with sc:=d2.sc.take d.sc.length}:MD).p=d2.p:=by
   have:d2.sc.take d.sc.length=d2.sc:=by rw[<-hsc];exact List.take_length
   rw[this]
  have HR:Hid (Sp X d u {d2 with sc:=d2.sc.take d.sc.length} (w2.setCell ⟨X.F,10,none⟩ (.slice d2.sa d.sc.length d2.sp)).drew/\dZ X N0 ek tr q' E {d2 with sc:=d2.sc.take d.sc.length} (w2.setCell ⟨X.F,10,none⟩ (.slice d2.sa d.sc.length d2.sp)).drew/\Bx X {d2 with sc:=d2.sc.take d.sc.length} (w2.setCell ⟨X.F,10,none⟩ (.slice d2.sa d.sc.length d2.sp)).drew b5 #[ptr X.F]):=⟨H2.1.trans hSp,H2.2.1.step hSp (fun t v e=>⟨v,by rw[hpp];exact e⟩),H2.2.2.step hSp⟩;have S0:w2.cell? ⟨b5,0,none⟩=some (ptr X.F):=H2.2.2.cell 0 rfl;have S1:((w2.setCell ⟨X.F,10,none⟩ (.slice d2.sa d.sc.length d2.sp)).drew).cell? ⟨b5,0,none⟩=some (ptr X.F):=(H2.2.2.step hSp).cell 0 rfl;clear hSp hsc hcap hpp;generalize d.sc.length=m at *;refine wp_region_held_drew (S:=fun w'=>w'.cell? ⟨b5,0,none⟩=some (ptr X.F)) (by kernel_rfl) S0 (fun ak=>?_);refine wpAnyH_take (i:=0) (oi:=⟨some 18,_,_,_,_,_⟩) (v:=?v1) rfl (by kernel_rfl) (by kernel_rfl) (by kernel_rfl) (fun _ _ _ h=>h) (Or.inl ⟨by rfl,?hy1⟩) (by assumption) ?mV
  case hy1=>(intro wz hSw;(try dsimp only at hSw);go_simp<;>with_reducible rfl)
  try simp only[Act.put,aG,aF,aA]
  refine wpAnyH_take (i:=1) (oi:=⟨some 19,_,_,_,_,_⟩) (v:=?v2) rfl (by kernel_rfl) (by kernel_rfl) (by kernel_rfl) (fun _ _ _ h=>h) (Or.inl ⟨by rfl,?hy2⟩) (by assumption) ?mQ
  case hy2=>(intro wz hSw;(try dsimp only at hSw);go_simp<;>with_reducible rfl)
  try simp only[Act.put,aG,aF,aA]
  refine wpAnyH_take (i:=2) (oi:=⟨some 20,_,_,_,_,_⟩) (v:=?v3) rfl (by kernel_rfl) (by kernel_rfl) (by kernel_rfl) (fun _ _ _ h=>h) (Or.inl ⟨by rfl,?hy3⟩) (by assumption) ?mP
  case hy3=>(intro wz hSw;(try dsimp only at hSw);go_simp<;>with_reducible rfl)
  try simp only[Act.put,aG,aF,aA]
  refine wpAnyH_take (i:=3) (oi:=⟨some 21,_,_,_,_,_⟩) (v:=?v4) rfl (by kernel_rfl) (by kernel_rfl) (by kernel_rfl) (fun _ _ _ h=>h) (Or.inl ⟨by rfl,?hy4⟩) (by assumption) ?mO
  case hy4=>(intro wz hSw;(try dsimp only at hSw);go_simp<;>with_reducible rfl)
  try simp only[Act.put,aG,aF,aA]
  refine wpAnyH_take (i:=5) (oi:=⟨some 23,_,_,_,_,_⟩) (v:=?v5) rfl (by kernel_rfl) (by kernel_rfl) (by kernel_rfl) (fun _ _ _ h=>h) (Or.inl ⟨by rfl,?uw⟩) (by assumption) ?mM
  case uw=>(intro wz hSw;(try dsimp only at hSw);go_simp<;>with_reducible rfl)
  try simp only[Act.put,aG,aF,aA]
  refine wpAnyH_ready (rs:=[4]) (by kernel_rfl) (by simp) ?_;refine AllReadyH.cons (o:=⟨some 22,_,_,_,_,_⟩) rfl (fun K hK=>?_) AllReadyH.nil;go_simp;refine hK.out _ _ S0 (fun hHeld=>?_);clear hK K ak;have ak:=hHeld;clear hHeld;try simp only[Act.put,aG,aF,aA]
  refine wpAnyH_take (i:=6) (oi:=⟨some 24,_,_,_,_,_⟩) (v:=?v6) rfl (by kernel_rfl) (by kernel_rfl) (by kernel_rfl) (fun _ _ _ h=>h) (Or.inl ⟨by rfl,?wL⟩) (by assumption) ?pY
  case wL=>(intro wz hSw;(try dsimp only at hSw);go_simp<;>with_reducible rfl)
  try simp only[Act.put,aG,aF,aA]
  refine wpAnyH_take (i:=7) (oi:=⟨some 25,_,_,_,_,_⟩) (v:=?v7) rfl (by kernel_rfl) (by kernel_rfl) (by kernel_rfl) (fun _ _ _ h=>h) (Or.inl ⟨by rfl,?qw⟩) (by assumption) ?mJ
  case qw=>(intro wz hSw;(try dsimp only at hSw);go_simp<;>with_reducible rfl)
  try simp only[Act.put,aG,aF,aA]
  refine wpAnyH_take (i:=8) (oi:=⟨some 26,_,_,_,_,_⟩) (v:=?v8) rfl (by kernel_rfl) (by kernel_rfl) (by kernel_rfl) (fun _ _ _ h=>h) (Or.inl ⟨by rfl,?rJ⟩) (by assumption) ?kM
  case rJ=>(intro wz hSw;(try dsimp only at hSw);go_simp<;>with_reducible rfl)
  try simp only[Act.put,aG,aF,aA]
  refine wpAnyH_ready (rs:=[9]) (by kernel_rfl) (by simp) ?_;refine AllReadyH.cons (o:=⟨none,_,_,_,_,_⟩) rfl (fun K hK=>?_) AllReadyH.nil;go_simp;refine hK.out _ _ S1 (fun hHeld=>?_);clear hK K ak;have ak:=hHeld;clear hHeld;try simp only[Act.put,aG,aF,aA]
  refine wpAnyH_done (by kernel_rfl) ?_ _;go_wp2_with fail
  go_meet
  case rel=>exact⟨_,HR⟩
 obtain⟨d3,H3⟩:=hcut
 rename World=>w3
 clear H2;go_wp2_with fail;have K3:Hid (Sp X d3 w3 d3 (w3.alloc (.cells #[.pointer none] 118))):=(Sp.refl H3.1.s).alloc _;have Aj:Hid (fB X d3 (w3.alloc (.cells #[.pointer none] 118)) w3.heap.size #[.pointer none]):=fB.new H3.1.s _ _;refine(PE ⟨E,0,none⟩ ⟨w3.heap.size,0,none⟩ (.pointer none) _ (Ah.1.at K3.s) (Aj.1.1.cell 0 rfl) (Aj.1.2 0)).mono ?_;rintro e w4 ⟨rfl,w4',hb4,rfl⟩;obtain⟨b9,kR⟩:∃b9,w3.heap.size=b9:=⟨_,rfl⟩;have H4:Hid (Sp X d u d3 (w4'.setCell ⟨b9,0,none⟩ (ptr E))/\dZ X N0 ek tr q' E d3 (w4'.setCell ⟨b9,0,none⟩ (ptr E))/\Bx X d3 (w4'.setCell ⟨b9,0,none⟩ (ptr E)) b5 #[ptr X.F]/\Bx X d3 (w4'.setCell ⟨b9,0,none⟩ (ptr E)) b9 #[ptr E]):=by
  have hbb:ah w3 (w4'.setCell ⟨b9,0,none⟩ (ptr E)):=(aH (q01 _ _) hb4).setCell (by show w3.heap.size<=b9;omega) _;have k4:Sp X d3 w3 d3 (w4'.setCell ⟨b9,0,none⟩ (ptr E)):=Sp.below H3.1.s hbb;have ho:OwnB w4' b9 #[.pointer none]:=by rw[<-kR];exact Aj.1.block hb4.size (hb4.block _ Aj.1.1.1)
  exact⟨H3.1.trans k4,H3.2.1.step k4 (fun t v e=>⟨v,e⟩),H3.2.2.step k4,(ho.set (o:=0) (by show 0<1;omega) (ptr E)).1,by rw[<-kR];exact Aj.2⟩
 rw[kR];obtain⟨w5,hw5⟩:∃w5,w4'.setCell ⟨b9,0,none⟩ (.pointer (some ⟨E,0,none⟩))=w5:=⟨_,rfl⟩;rw[hw5] at H4;rw[hw5];clear hb4 hw5 kR H3 K3 Aj
 go_upto_region 7 with fail
 have zK:d3.line=ln:=by
  obtain⟨t,v,e⟩:=H4.2.1.p;have h1:d3.line=q'.line:=congrArg DP.line e;rw[h1,Nr.2.2]
 have Ik:d3.recs.length<5000:=by
  rw[H4.2.1.recs];exact Nr.2.1
 go_cut [] from 10 (fun w=>∃d5,Hid (Sp X d u d5 w/\dZ X N0 ek tr (q'.gU ⟨5,0,X.fn,ln,tx⟩) E d5 w/\Bx X d5 w b5 #[ptr X.F]/\Bx X d5 w b9 #[ptr E]))
 case first=>
  have xY:Hid (∀d' w',Sp X d3 w5 d' w'->d'.line=ln->w'.cell? ⟨x2,0,none⟩=some (ptr X.M)/\w'.cell? ⟨b5,0,none⟩=some (ptr X.F)/\w'.cell? ⟨X.F,1,none⟩=some (.int .i64 X.fn)/\w'.cell? ⟨X.F,12,none⟩=some (.int .i64 ln)/\w'.cell? ⟨b9,0,none⟩=some (ptr E)/\w'.cell? ⟨E,0,none⟩=some (.int .i64 ev.k)/\w'.cell? ⟨E,1,none⟩=some (.int .i64 ev.n)/\w'.cell? ⟨E,2,none⟩=some (.float .f64 ev.f)/\w'.cell? ⟨E,3,none⟩=some (.string ev.s)/\w'.cell? ⟨E,4,none⟩=some (.int .i64 ev.r)):=fun d' w' k el=>by
   obtain⟨a0,a1,a2,a3,a4,_⟩:=Bx.er (H4.2.1.e.step k);rw[Ah.2.2.2.1] at a0 a1 a2 a3 a4;exact⟨(HK.1.at k.s).cell 0 rfl,(H4.2.2.1.step k).cell 0 rfl,k.s.f.1.cell 1 rfl,by rw[<-el];exact k.s.f.1.cell 12 rfl,(H4.2.2.2.step k).cell 0 rfl,a0,a1,a2,a3,a4⟩
  have KA:Hid (Sp X d3 w5 d3 w5.drew):=(Sp.refl H4.1.s).drew;have S0:=xY.out d3 _ KA.out zK;have Nl:Hid (Calls Tryz.prog 56 #[ptr X.M,dI ev.k ev.n ev.f ev.s ev.r] w5.drew fun e w'=>e=.returned (.string tx)/\ah w5.drew w'):=by
   have hz:=(H4.2.1.step (q':=q') KA.out (fun t v e=>⟨v,e⟩)).told Ah.2.2.1 KA.s Ah.2.1;rw[Ah.2.2.2.1,Ah.2.2.2.2] at hz;exact hz
  have HRc:Hid (∀w7,Sp X d3 w5 d3 w7->Calls Tryz.prog 149 #[ptr X.M,.int .i64 5,.int .i64 X.fn,.int .i64 ln,.string tx] w7 fun e w'=>e=.returned (.tuple #[])/\To X d3 w7 (d3.p.gU ⟨5,0,X.fn,ln,tx⟩) w'):=fun w7 k=>Du X d3 5 X.fn ln tx w7 k.s Ik
  go_region_held3 (fun w'=>w'.cell? ⟨x2,0,none⟩=some (ptr X.M)/\w'.cell? ⟨b5,0,none⟩=some (ptr X.F)/\w'.cell? ⟨X.F,1,none⟩=some (.int .i64 X.fn)/\w'.cell? ⟨X.F,12,none⟩=some (.int .i64 ln)/\w'.cell? ⟨b9,0,none⟩=some (ptr E)/\w'.cell? ⟨E,0,none⟩=some (.int .i64 ev.k)/\w'.cell? ⟨E,1,none⟩=some (.int .i64 ev.n)/\w'.cell? ⟨E,2,none⟩=some (.float .f64 ev.f)/\w'.cell? ⟨E,3,none⟩=some (.string ev.s)/\w'.cell? ⟨E,4,none⟩=some (.int .i64 ev.r)) (with_reducible first|exact S0|exact S1|exact S2)
   (first
    |(go_at_call 56;refine Nl.mono ?_;rintro e w7 ⟨rfl,hb7⟩;have KB:Hid (Sp X d3 w5 d3 w7):=KA.call hb7;have S1:=xY.out d3 w7 KB.out zK;clear hb7)
    |(go_at_call 149;refine(HRc _ KB).mono ?_;rintro e w8 ⟨rfl,d5,hs8,e8⟩;have uZ:d5.line=ln:=(congrArg DP.line e8:d5.line=d3.line).trans zK;have S2:=xY.out d5 w8 (KB.trans hs8) uZ;have HR:Hid (Sp X d u d5 w8/\dZ X N0 ek tr (q'.gU ⟨5,0,X.fn,ln,tx⟩) E d5 w8/\Bx X d5 w8 b5 #[ptr X.F]/\Bx X d5 w8 b9 #[ptr E]):=⟨H4.1.trans (KB.trans hs8),H4.2.1.step (KB.trans hs8) (fun t v e=>⟨v,by rw[e8,e];rfl⟩),H4.2.2.1.step (KB.trans hs8),H4.2.2.2.step (KB.trans hs8)⟩;clear hs8 e8 uZ))
  all_goals
   go_wp2_with fail
   go_meet
   case rel=>exact⟨_,HR⟩
 obtain⟨d5,H5⟩:=hcut
 rename World=>w6
 clear H4 zK Ik
 go_upto_region 8 with fail
 obtain⟨t5,v5,e5⟩:=H5.2.1.p;have FH:Hid (d5.p=(q'.gU ⟨5,0,X.fn,ln,tx⟩).qm t5 v5):=e5;clear e5;have xY:Hid (∀d' w',Sp X d5 w6 d' w'->w'.cell? ⟨b5,0,none⟩=some (ptr X.F)/\w'.cell? ⟨x3,6,none⟩=some (.slice (some ⟨rb,ro,none⟩) 2 rc)/\w'.cell? ⟨b9,0,none⟩=some (ptr E)/\w'.cell? ⟨E,0,none⟩=some (.int .i64 ev.k)/\w'.cell? ⟨E,1,none⟩=some (.int .i64 ev.n)/\w'.cell? ⟨E,2,none⟩=some (.float .f64 ev.f)/\w'.cell? ⟨E,3,none⟩=some (.string ev.s)/\w'.cell? ⟨E,4,none⟩=some (.int .i64 ev.r)/\w'.cell? ⟨E,5,none⟩=some (.string tr)/\w'.cell? ⟨x4,0,none⟩=some (nN k2)):=fun d' w' k=>by
  obtain⟨a0,a1,a2,a3,a4,a5⟩:=Bx.er (H5.2.1.e.step k);rw[Ah.2.2.2.1] at a0 a1 a2 a3 a4;exact⟨(H5.2.2.1.step k).cell 0 rfl,(HK.2.1.at k.s).cell 6 HK.2.2.2,(H5.2.2.2.step k).cell 0 rfl,a0,a1,a2,a3,a4,a5,(HK.2.2.1.at k.s).cell 0 rfl⟩
 have KA:Hid (Sp X d5 w6 d5 w6.drew):=(Sp.refl H5.1.s).drew;have wW:d5.sc=d.sc:=by
  have h1:d5.sc=q'.sc:=congrArg DP.sc FH.out;rw[h1,Nr.1]
 have HSc:Hid (d5.sc=d.sc):=wW;clear wW;have S0:=xY.out d5 _ KA.out
 go_region_held3 (fun w'=>w'.cell? ⟨b5,0,none⟩=some (ptr X.F)/\w'.cell? ⟨x3,6,none⟩=some (.slice (some ⟨rb,ro,none⟩) 2 rc)/\w'.cell? ⟨b9,0,none⟩=some (ptr E)/\w'.cell? ⟨E,0,none⟩=some (.int .i64 ev.k)/\w'.cell? ⟨E,1,none⟩=some (.int .i64 ev.n)/\w'.cell? ⟨E,2,none⟩=some (.float .f64 ev.f)/\w'.cell? ⟨E,3,none⟩=some (.string ev.s)/\w'.cell? ⟨E,4,none⟩=some (.int .i64 ev.r)/\w'.cell? ⟨E,5,none⟩=some (.string tr)/\w'.cell? ⟨x4,0,none⟩=some (nN k2)) (with_reducible first|exact S0|exact S1|exact S2|exact S3)
  (first
   |(go_at_call 51;refine(Hw tr _).mono ?_;rintro e w7 ⟨rfl,hb7⟩;have KB:Hid (Sp X d5 w6 d5 w7):=KA.call hb7;have S1:=xY.out d5 w7 KB.out;have S2:=xY.out d5 _ (KB.alloc (.cells #[.int .i64 ev.k,.int .i64 ev.n,.float .f64 ev.f,.string ev.s,.int .i64 ev.r,.int .i64 4,.int .i64 0,.float .f64 0,.string tr,.int .i64 0] 53));clear hb7)
   |(go_at_call 211;refine(JJ d5 _ w7.heap.size t5 v5 ((H5.1.trans KB).alloc _) FH (Bl.new2 KB.s ev tr _)).mono ?_;rintro e w9 ⟨way,d9,rfl,hs9,rfl,Xv,BF⟩;have S3:=xY.out d9 w9 ((KB.alloc _).trans hs9);have HF:Hid (gG X d u (kD recs d.sc.length) (.returned .nilIface) w9):=⟨_,d9,rfl,((H5.1.trans KB.out).alloc _).trans hs9,rfl,Xv,(by rw[<-HSc.out];exact BF)⟩;clear hs9 Xv BF))
 all_goals
  go_wp2_with fail;go_ret;exact HF
end
section
open Go.RowKit
structure DI where
 k1:Nat
 ka:Nat
 kc:Nat
 s1:Nat
 s2:Nat
 s3:Nat
 A:Array Value
 L:Int
 z1:Nat
 r1:Nat
 r2:Nat
structure DI.ok(D:DI)(X:RX)(bb:Nat):Prop where
 k1:Od X D.k1 #[.slice (some ⟨D.ka,0,none⟩) 1 D.kc]
 ka:Oc X D.ka (zh D.s1 D.s2 D.s3)
 s1:Od X D.s1 #[ptr bb]
 s2:Od X D.s2 D.A
 A:D.A[1]?=some (.int .i64 D.L)
 s3:Od X D.s3 #[MZ D.z1]
 z1:Od X D.z1 #[qF D.r1 D.r2]
theorem zf2(D:DI)(X:RX)(d:MD)(bb:Nat)(nd:Value)(l:List VD)(q:DP)(u:World)(hD:D.ok X bb)(kb:Od X bb #[ptr X.M,nd])(h:St X d u)(hq:q.sc=d.sc)(hl:d.recs.length<4000)(ht:d.ti<X.tk)(hall:∀d3 w3,Sp X d u d3 w3->d3.p=d.p.begun X.fn D.L->Calls Tryz.prog 199 #[ptr X.F,ptr D.r1,ptr D.r2] w3 fun e w'=>bP X d3 w3 l q e w'):Calls Tryz.prog 170 #[ptr X.F,ptr D.k1] u fun e w'=>gG X d u (iW (q.ln d.line)) e w':=by
 refine(PG X d D.k1 D.ka D.kc D.s1 D.s2 D.s3 (jX X d.line (iW q)) (fun _ _ _=>False) u h hD.k1 hD.ka ?_ (GY X d D.s1 D.s2 D.s3 bb 174 #[ptr D.z1] nd D.A D.L (iW q) (fun _ _ _=>False) u h hD.s1 kb hD.s2 hD.A hD.s3 (fun _ _=>rfl) hl ht (fun d3 w3 k3 e3=>(y66 X d3 D.z1 D.r1 D.r2 l q w3 k3.s hD.z1 (hall d3 w3 k3 e3)).mono fun _ _ h=>.inl h))).mono ?_
 ·rintro way d' w' ⟨d4,w4,⟨rfl,e4⟩,k4,e'⟩;refine⟨rfl,?_⟩;have h1:d'.sc=d4.sc:=congrArg DP.sc e';have h2:d4.sc=q.sc:=congrArg DP.sc e4;rw[h1,h2,hq];exact Nat.le_refl _
 ·rintro e w' (⟨way,d',rfl,hs,rfl,d1,w1,⟨d4,w4,⟨_,e4⟩,k4,e1⟩,k1,e'⟩|⟨_,_,_,_,hr⟩)
  ·refine⟨_,d',rfl,hs,rfl,?_⟩;rw[e',e1,e4];show DP.qB (q.ln d.line) d.sc.length=_;have:(q.ln d.line).sc.take d.sc.length=(q.ln d.line).sc:=by
    show q.sc.take d.sc.length=q.sc;rw[hq];exact List.take_length
   simp only[DP.qB,this]
  ·exact hr.elim
theorem Za(D:DI)(X:RX)(d:MD)(bb:Nat)(nd:Value)(R:Nat->MD->World->Prop)(u:World)(hD:D.ok X bb)(kb:Od X bb #[ptr X.M,nd])(h:St X d u)(hl:d.recs.length<4000)(ht:d.ti<X.tk)(hall:∀d3 w3,Sp X d u d3 w3->d3.p=d.p.begun X.fn D.L->Calls Tryz.prog 199 #[ptr X.F,ptr D.r1,ptr D.r2] w3 fun e w'=>bG X d3 w3 R e w'):Calls Tryz.prog 170 #[ptr X.F,ptr D.k1] u fun e w'=>bG X d u R e w':=by
 refine(PG X d D.k1 D.ka D.kc D.s1 D.s2 D.s3 (jX X d.line (fun _ _ _=>False)) R u h hD.k1 hD.ka ?_ (GY X d D.s1 D.s2 D.s3 bb 174 #[ptr D.z1] nd D.A D.L (fun _ _ _=>False) R u h hD.s1 kb hD.s2 hD.A hD.s3 (fun _ _=>rfl) hl ht (fun d3 w3 k3 e3=>(Vl X d3 D.z1 D.r1 D.r2 R w3 k3.s hD.z1 (hall d3 w3 k3 e3)).mono fun _ _ h=>.inr h))).mono ?_
 ·rintro way d' w' ⟨d4,w4,hf,_⟩;exact hf.elim
 ·rintro e w' (⟨_,_,_,_,_,_,_,⟨_,_,hf,_⟩,_⟩|h)
  ·exact hf.elim
  ·exact h
structure MI where
 bb:Nat
 nd:Value
 k1:Nat
 ka:Nat
 kc:Nat
 s1:Nat
 s2:Nat
 s3:Nat
 A1:Array Value
 L1:Int
 x1:Nat
 x2:Nat
 x3:Nat
 x4:Nat
 A3:Array Value
 rb:Nat
 ro:Nat
 rc:Nat
 D:DI
 C:CI
 S:DI
 P:QI
abbrev OC(a b c e:Nat):Value:=jA 218 #[ptr a,ptr b,ptr c,ptr e]
structure MI.ok(M:MI)(X:RX):Prop where
 bb:Od X M.bb #[ptr X.M,M.nd]
 k1:Od X M.k1 #[.slice (some ⟨M.ka,0,none⟩) 1 M.kc]
 ka:Oc X M.ka (zh M.s1 M.s2 M.s3)
 s1:Od X M.s1 #[ptr M.bb]
 s2:Od X M.s2 M.A1
 A1:M.A1[1]?=some (.int .i64 M.L1)
 s3:Od X M.s3 #[OC M.x1 M.x2 M.x3 M.x4]
 x1:Od X M.x1 #[nN M.D.k1]
 x2:Od X M.x2 #[ptr X.M]
 x3:Od X M.x3 M.A3
 A3:M.A3[6]?=some (.slice (some ⟨M.rb,M.ro,none⟩) 2 M.rc)
 r0:Oo X M.rb M.ro (.int .i64 (M.P.i1:Int))
 r1:Oo X M.rb (M.ro+1) (.int .i64 (M.P.i2:Int))
 x4:Od X M.x4 #[nN M.S.k1]
 D:M.D.ok X M.bb
 d1:M.D.r1=M.C.r1
 d2:M.D.r2=M.C.r2
 C:M.C.ok X M.bb 1
 S:M.S.ok X M.bb
 P:M.P.ok X M.bb
 q1:M.S.r1=M.P.r1
 q2:M.S.r2=M.P.r2
 i1:M.P.i1<X.nv
 i2:M.P.i2<X.nv
 ne:M.P.i1≠M.P.i2
theorem z54(M:MI)(X:RX)(d:MD)(k:Ek)(hk:k.ok)(tr:ByteArray)(g:Nat)(u:World)(hM:M.ok X)(h:St X d u)(hb:Bl X d u g [k.v,fE tr])(htr:tr.size<=2900)(hr:d.recs.length<2000)(hh:d.held.length<=400)(ht:d.ti+2<X.tk)(hsc:d.sc.length<=900):Calls Tryz.prog 211 #[ptr X.F,.slice (some ⟨M.rb,M.ro,none⟩) 2 M.rc,.slice (some ⟨g,0,none⟩) 2 2,nN M.S.k1] u fun e w'=>gG X d u (kD (d.recs++[⟨1,0,X.fn,M.S.L,⟨#[]⟩⟩,⟨6,0,X.fn,M.S.L,dM pW [k.v,fE tr]⟩]) d.sc.length) e w':=by
 refine z85 X d M.rb M.ro M.rc g 2 2 M.S.k1 [M.P.i1,M.P.i2] [k.v,fE tr] _ u h ?_ ?_ hb rfl rfl (by omega) hsc (fun qs d1 w1 s1 e1 hq hbx=>?_)
 ·intro d' w' k' j i e
  match j,e with
  |0,e=>cases e;exact hM.r0.at k'.s
  |1,e=>cases e;exact hM.r1.at k'.s
 ·intro j i e
  match j,e with
  |0,e=>cases e;exact hM.i1
  |1,e=>cases e;exact hM.i2
 ·obtain⟨Q1,Q2,rfl⟩:∃Q1 Q2,qs=[(M.P.i1,Q1),(M.P.i2,Q2)]:=by
   match qs,hq with
   |[(a,Q1),(b,Q2)],hq=>
    simp only[List.map_cons,List.map_nil,List.cons.injEq,and_true] at hq;exact⟨Q1,Q2,by rw[hq.1,hq.2]⟩
  have b1:=hbx 0 _ _ rfl rfl;have b2:=hbx 1 _ _ rfl rfl;have hr1:d1.recs=d.recs:=congrArg DP.recs e1;have hh1:d1.held=d.held:=congrArg DP.held e1;have ht1:d1.ti=d.ti:=congrArg DP.ti e1;have hvs:d1.vs=(d.vs.set M.P.i1 (ptr Q1)).set M.P.i2 (ptr Q2):=congrArg DP.vs e1;have nH:=h.nv;have v1:d1.vs[M.P.i1]?=some (ptr Q1):=by
   rw[hvs,List.getElem?_set_ne (Ne.symm hM.ne),List.getElem?_set_self (by rw[nH];exact hM.i1)]
  have v2:d1.vs[M.P.i2]?=some (ptr Q2):=by
   rw[hvs,List.getElem?_set_self (by rw[List.length_set,nH];exact hM.i2)]
  refine(zf2 M.S X d1 M.bb M.nd [] (((d1.p.begun X.fn M.S.L).plus [] 1).gU ⟨6,0,X.fn,M.S.L,dM pW [k.v,fE tr]⟩) w1 hM.S hM.bb s1.s rfl (by rw[hr1];omega) (by rw[ht1];omega) (fun d3 w3 s3 e3=>?_)).mono ?_
  ·have hv3:d3.vs=d1.vs:=congrArg DP.vs e3;have hr3:d3.recs=d1.recs++[⟨1,0,X.fn,M.S.L,⟨#[]⟩⟩]:=congrArg DP.recs e3;have hh3:d3.held=d1.held:=congrArg DP.held e3;have ht3:d3.ti=d1.ti+1:=congrArg DP.ti e3;have hl3:d3.line=M.S.L:=congrArg DP.line e3;have hz:=ZL M.P X d3 M.bb M.nd Q1 Q2 k hk tr w3 hM.P hM.bb s3.s (by rw[hv3];exact v1) (b1.step s3) (by rw[hv3];exact v2) (b2.step s3) htr (by rw[hr3,hr1];simp;omega) (by rw[hh3,hh1];omega) (by rw[ht3,ht1];omega);rw[e3,hl3] at hz;rw[hM.q1,hM.q2];exact hz
  ·rintro e w' ⟨way,d',rfl,hs,rfl,e'⟩;refine⟨_,d',rfl,hs,rfl,?_,?_⟩
   ·have h1:d'.recs=(d1.recs++[⟨1,0,X.fn,M.S.L,⟨#[]⟩⟩]++[])++[⟨6,0,X.fn,M.S.L,dM pW [k.v,fE tr]⟩]:=congrArg DP.recs e';rw[h1,hr1];simp
   ·have h1:d'.sc=d1.sc:=congrArg DP.sc e';rw[h1];exact Nat.le_refl _
theorem y49(B:Nat)(xs:List (List UInt8))(h:∀x∈xs,x.length<=B):(Lib.join xs [32]).length<=xs.length*(B+1):=by
 induction xs with
 |nil=>simp[Lib.join]
 |cons x xs ih=>
  have h1:=h x (List.mem_cons_self ..);have h2:=ih fun y hy=>h y (List.mem_cons_of_mem _ hy)
  cases xs with
  |nil=>simp[Lib.join];omega
  |cons y ys=>
   have e:(Lib.join (x :: y :: ys) [32]).length=x.length+1 + (Lib.join (y :: ys) [32]).length:=by simp[Lib.join];omega
   rw[e];simp only[List.length_cons] at h2 ⊢;have:(ys.length+1 + 1)*(B+1)=(ys.length+1)*(B+1)+(B+1):=by rw[Nat.add_mul (ys.length+1) 1 (B+1)];omega
   omega
theorem UV.zf(V:UV)(i:Nat):(V.tf i).size<=60:=by
 have h2:=KY (V.ln i);have h3:(bA (bI (V.ln i))).size=(bI (V.ln i)).length:=EM _;have h4:(ni (V.nm i)).size<=6:=by
  have:=L9 (V.nm i);have h5:(V.nm i).size<=4:=by
   unfold UV.nm;split<;>decide
  omega
 unfold UV.tf lJ.text;rw[AV,AV];show(ni (V.nm i)).size+1 + (bA (bI (V.ln i))).size<=60;omega
theorem UV.sF(V:UV)(n:Nat)(hn:n<=41):(kY V.tf n).size<=2900:=by
 have h1:(kY V.tf n).size=(Lib.join (((jD n n).map V.tf).map (·.data.toList)) [32]).length:=by simp[kY,ByteArray.size]
 have h2:=y49 60 (((jD n n).map V.tf).map (·.data.toList)) (fun x hx=>by
  obtain⟨y,hy,rfl⟩:=List.mem_map.1 hx;obtain⟨i,_,rfl⟩:=List.mem_map.1 hy;have h5:=V.zf i;show(V.tf i).data.toList.length<=60;rw[Array.length_toList];exact h5)
 rw[List.length_map,List.length_map,He] at h2;omega
theorem UV.BP(V:UV):∀m f,V.aO m f<=f+m
 |0,f=>by simp[UV.aO]
 |m+1,f=>by
  have:=V.BP m (f+1);unfold UV.aO;split<;>omega
theorem UV.xJ(V:UV):∀m f,(V.aK m f).ok
 |0,_=>⟨⟨(by decide:bA (bI 0)=⟨#[48]⟩),(by decide:(-9223372036854775808:Int)<=0),(by decide:(0:Int)<=9223372036854775807)⟩,(by decide:dP.size<=1000)⟩
 |m+1,f=>by
  unfold UV.aK;split
  ·exact V.xJ m (f+1)
  ·exact⟨Ja,by show(⟨#[]⟩:ByteArray).size<=1000;decide⟩
def UV.mR(V:UV)(M:MI):List eP:=[⟨1,0,0,M.L1,⟨#[]⟩⟩,⟨1,0,0,M.D.L,⟨#[]⟩⟩]++V.aR V.n 0++[⟨5,0,0,M.L1,(V.aK V.n 0).tx⟩,⟨1,0,0,M.S.L,⟨#[]⟩⟩,⟨6,0,0,M.S.L,dM pW [(V.aK V.n 0).v,fE (kY V.tf (V.aO V.n 0+1))]⟩]
structure Beg(d:MD):Prop where
 recs:d.recs=[]
 held:d.held=[]
 sc:d.sc=[]
 ti:d.ti=0
 tab:d.tab=.slice none 0 0
 gq:d.gq=.slice none 0 0
 cls:d.cls=.slice none 0 0
 sin:d.sin=0
 fM:d.fM=0
theorem zm8(V:UV)(M:MI)(X:RX)(d:MD)(u:World)(hV:V.ok X)(hM:M.ok X)(hL:M.D.L=V.L0)(h:St X d u)(hfl:X.fl=1)(hfn:X.fn=0)(hnm:X.W.cell? ⟨V.ub,V.uo,none⟩=some (.string iK))(h1:1<=V.n)(hB:Beg d):Calls Tryz.prog 170 #[ptr X.F,ptr M.k1] u fun e w'=>gG X d u (kD (V.mR M) 0) e w':=by
 have htk:=hV.tk;have hn:=hV.n;have haR:=V.oL V.n 0;have haT:=V.xI V.n 0;refine(PG X d M.k1 M.ka M.kc M.s1 M.s2 M.s3 (kD (V.mR M) 0) (fun _ _ _=>False) u h hM.k1 hM.ka (fun way d' w' hr=>⟨hr.1,by rw[hB.sc];exact Nat.zero_le _⟩) ((GY X d M.s1 M.s2 M.s3 M.bb 218 #[ptr M.x1,ptr M.x2,ptr M.x3,ptr M.x4] M.nd M.A1 M.L1 (kD (V.mR M) 0) (fun _ _ _=>False) u h hM.s1 hM.bb hM.s2 hM.A1 hM.s3 (fun _ _=>rfl) (by rw[hB.recs];simp) (by rw[hB.ti];omega) (fun d3 w3 s3 e3=>?_)).mono ?_)).mono ?_
 ·have hr3:d3.recs=d.recs++[⟨1,0,X.fn,M.L1,⟨#[]⟩⟩]:=congrArg DP.recs e3;have hh3:d3.held=d.held:=congrArg DP.held e3;have ht3:d3.ti=d.ti+1:=congrArg DP.ti e3;have hl3:d3.line=M.L1:=congrArg DP.line e3;have hs3:d3.sc=d.sc:=congrArg DP.sc e3;have hz:=qu7 X d3 M.x1 M.x2 M.x3 M.x4 M.D.k1 M.S.k1 M.rb M.ro M.rc M.A3 (V.aK V.n 0) _ rfl (V.xJ V.n 0) _ rfl M.L1 (kY V.tf (V.aO V.n 0+1)) ((d3.p.begun X.fn M.D.L).plus (V.aR V.n 0) (V.aT V.n 0)) (V.mR M) w3 s3.s hV.e hV.t hM.x1 hM.x2 hM.x3 hM.A3 hM.x4 rfl (Nat.le_refl _) hl3 (by
    show((d3.recs++[(⟨1,0,X.fn,M.D.L,⟨#[]⟩⟩:eP)])++V.aR V.n 0).length<5000;rw[hr3,hB.recs];simp;omega) (fun w4 s4=>?_) (fun d6 w6 g t v s6 e6 hb6=>?_)
  ·rw[hs3,hB.sc] at hz;exact hz.mono fun _ _ h=>.inl h
  ·refine Za M.D X d3 M.bb M.nd _ w4 hM.D hM.bb s4.s (by rw[hr3,hB.recs];simp) (by rw[ht3,hB.ti];omega) (fun d5 w5 s5 e5=>?_);obtain⟨m,hm⟩:∃m,V.n=m+1:=⟨V.n-1,by omega⟩;have Md:d5.recs=d3.recs++[⟨1,0,X.fn,M.D.L,⟨#[]⟩⟩]:=congrArg DP.recs e5;have LY:d5.ti=d3.ti+1:=congrArg DP.ti e5;have hl5:d5.line=M.D.L:=congrArg DP.line e5;have q1:d5.cls=d.cls:=(show d5.cls=d3.cls from congrArg DP.cls e5).trans (congrArg DP.cls e3);have q4:d5.tab=d.tab:=(show d5.tab=d3.tab from congrArg DP.tab e5).trans (congrArg DP.tab e3);have q5:d5.gq=d.gq:=(show d5.gq=d3.gq from congrArg DP.gq e5).trans (congrArg DP.gq e3);have q6:d5.held=d.held:=(show d5.held=d3.held from congrArg DP.held e5).trans hh3;have q7:d5.sin=d.sin:=(show d5.sin=d3.sin from congrArg DP.sin e5).trans (congrArg DP.sin e3);have q8:d5.fM=d.fM:=(show d5.fM=d3.fM from congrArg DP.fM e5).trans (congrArg DP.fM e3);have hC:Cx V 0 X d5 w5:=by
    refine⟨s5.s,hV,by omega,hfl,by have:=hV.d1;omega,⟨by rw[hfn];rfl,by omega,by rw[show V.nm 0=iK from rfl,show V.uo+0*7=V.uo by omega];exact hnm,by show iK.size<=1000;decide⟩,⟨fun _=>⟨0,0,0,⟨#[]⟩⟩,fun i hi=>by rw[hfl] at hi;omega,fun i hi=>absurd hi (Nat.not_lt_zero _)⟩,by rw[hl5,hL];rfl,⟨none,0,[],⟨by rw[q1];exact hB.cls,(fun _ e=>by cases e),fun _ _=>World.ownsRow_nil _ _ _ _⟩,rfl⟩,q4.trans hB.tab,q5.trans hB.gq,q6.trans hB.held,q7.trans hB.sin,q8.trans hB.fM,by rw[LY,ht3,hB.ti];omega,by rw[Md,hr3,hB.recs];simp⟩
   have hy:=y71 V m 0 X d5 M.C M.bb M.nd w5 (by omega) hC (by have:=hM.C;exact this) hM.bb;rw[<-hm,e5] at hy;rw[hM.d1,hM.d2];exact hy.mono fun e w' he=>he.mono fun E d' w'' ht'=>ht'.1.mono s5.g.size
  ·have hO:=V.BP V.n 0;have Mc:d6.recs=((d3.recs++[(⟨1,0,X.fn,M.D.L,⟨#[]⟩⟩:eP)])++V.aR V.n 0)++[⟨5,0,X.fn,M.L1,(V.aK V.n 0).tx⟩]:=congrArg DP.recs e6;have hh6:d6.held=d3.held.take d3.held.length:=congrArg DP.held e6;have ht6:d6.ti=d3.ti+1 + V.aT V.n 0:=congrArg DP.ti e6;have hs6:d6.sc=d3.sc:=congrArg DP.sc e6;have hz2:=z54 M X d6 (V.aK V.n 0) (V.xJ V.n 0) (kY V.tf (V.aO V.n 0+1)) g w6 hM s6.s hb6 (V.sF _ (by omega)) (by rw[Mc,hr3,hB.recs];simp;omega) (by rw[hh6,hh3,hB.held];simp) (by rw[ht6,ht3,hB.ti];omega) (by rw[hs6,hs3,hB.sc];simp);have er:d6.recs++[⟨1,0,X.fn,M.S.L,⟨#[]⟩⟩,⟨6,0,X.fn,M.S.L,dM pW [(V.aK V.n 0).v,fE (kY V.tf (V.aO V.n 0+1))]⟩]=V.mR M:=by
    rw[Mc,hr3,hB.recs,hfn];simp[UV.mR]
   rw[er] at hz2;exact hz2
 ·rintro e w' (⟨way,d',rfl,hs,d4,w4,⟨rfl,e4,_⟩,k4,e'⟩|⟨_,_,_,_,hr⟩)
  ·exact .inl ⟨_,d',rfl,hs,rfl,(show d'.recs=d4.recs from congrArg DP.recs e').trans e4,Nat.zero_le _⟩
  ·exact hr.elim
 ·rintro e w' (⟨way,d',rfl,hs,rfl,d1,w1,⟨_,hr,_⟩,k1,e'⟩|⟨_,_,_,_,hr⟩)
  ·exact⟨_,d',rfl,hs,rfl,(show d'.recs=d1.recs from congrArg DP.recs e').trans hr,Nat.zero_le _⟩
  ·exact hr.elim
end
end Go.Proofs.YtihnikeikhjndaaGreatDoor
