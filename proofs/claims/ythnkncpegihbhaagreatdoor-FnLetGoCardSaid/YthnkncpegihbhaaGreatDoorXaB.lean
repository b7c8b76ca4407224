import Derived.Test.YthnkncpegihbhaaGreatDoorWnE
import Derived.Test.YthnkncpegihbhaaGreatDoorWxF
import Derived.Shelf.Abstract
import Derived.Test.YthnkncpegihbhaaGreatDoorWyB
import Derived.Test.YthnkncpegihbhaaGreatDoorWyM
set_option maxRecDepth 100000
set_option maxHeartbeats 16000000
namespace Go.Proofs.YthnkncpegihbhaaGreatDoor
section
open Go.RowKit
attribute [local go_sem] iD
attribute [local go_sem ↓] Go.wp_at_zero Go.wp_at_succ
def Fh(X:RX)(d:MD)(u:World)(v:VD)(R:DP->Prop)(e:Ending)(w':World):Prop:=∃d',e=.returned (iJ v.k v.n v.f v.s v.r)/\Sp X d u d' w'/\R d'.p
def rD(X:RX)(F:Nat)(cs:Array Value)(d:MD)(u:World)(p:DP)(v:VD)(R:DP->Prop):Prop:=tq F/\∀d' u',Sp X d u d' u'->d'.p=p->Calls Tryz.prog F (#[ptr X.F]++cs) u' fun e w'=>Fh X d' u' v R e w'
def vG(X:RX)(d:MD)(w:World)(N:Nat)(a:Option Addr)(c:Nat)(l:List VD):Prop:=(l=[]/\a=none/\c=0)\/(l≠[]/\∃g,a=some ⟨g,0,none⟩/\N<=g/\Bl X d w g l)
theorem vG.step{X:RX}{d d':MD}{u u':World}{N:Nat}{a:Option Addr}{c:Nat}{l:List VD}(h:vG X d u N a c l)(k:Sp X d u d' u'):vG X d' u' N a c l:=by
 rcases h with h|⟨h1,g,h2,h3,h4⟩
 ·exact .inl h
 ·exact .inr ⟨h1,g,h2,h3,h4.step k⟩
theorem vG.low{X:RX}{d:MD}{w:World}{N N':Nat}{a:Option Addr}{c:Nat}{l:List VD}(h:vG X d w N a c l)(hN:N'<=N):vG X d w N' a c l:=by
 rcases h with h|⟨h1,g,h2,h3,h4⟩
 ·exact .inl h
 ·exact .inr ⟨h1,g,h2,aV hN h3,h4⟩
def qx(X:RX)(d:MD)(u:World)(l:List VD)(R:DP->Prop)(e:Ending)(w':World):Prop:=∃a c d',e=.returned (.slice a l.length c)/\vG X d' w' u.heap.size a c l/\Sp X d u d' w'/\R d'.p
def qI(X:RX)(F:Nat)(cs:Array Value)(d:MD)(u:World)(p:DP)(l:List VD)(R:DP->Prop):Prop:=tq F/\∀d' u',Sp X d u d' u'->d'.p=p->Calls Tryz.prog F (#[ptr X.F]++cs) u' fun e w'=>qx X d' u' l R e w'
section
variable {X:RX}{F:Nat}{cs:Array Value}{d d1:MD}{u u1:World}{p:DP}{v:VD}{l:List VD}{R R':DP->Prop}
theorem rD.mono(h:rD X F cs d u p v R)(k:∀q,R q->R' q):rD X F cs d u p v R':=⟨h.1,fun d' u' h1 h2=>(h.2 d' u' h1 h2).mono fun _ _ ⟨d'',a,b,c⟩=>⟨d'',a,b,k _ c⟩⟩
theorem qI.mono(h:qI X F cs d u p l R)(k:∀q,R q->R' q):qI X F cs d u p l R':=⟨h.1,fun d' u' h1 h2=>(h.2 d' u' h1 h2).mono fun _ _ ⟨a,c,d'',h1,h2,h3,h4⟩=>⟨a,c,d'',h1,h2,h3,k _ h4⟩⟩
theorem QJ{B:Nat}(k:Od X B (vA v)):rD X 232 #[ptr B] d u p v (·=p):=
 ⟨enters_of Tryz.func232 (by kernel_rfl) rfl,fun d' u' h1 h2=>(yb2 (ptr X.F) B v u' (k.at h1.s)).mono fun _ _ ⟨e,hb⟩=>⟨d',e,Sp.below h1.s hb,h2⟩⟩
theorem QM{B Q i:Nat}(k:Od X B #[.int .i64 (i:Int)])(hv:p.vs[i]?=some (ptr Q))(hQ:Bx X d u Q (vA v)):rD X 218 #[ptr B] d u p v (·=p):=
 ⟨enters_of Tryz.func218 (by kernel_rfl) rfl,fun d' u' h1 h2=>(y47 X d' B Q i v u' h1.s (k.at h1.s) (by rw[<-h2] at hv;exact hv) (hQ.step h1).1).mono fun _ _ ⟨e,hb⟩=>⟨d',e,Sp.below h1.s hb,h2⟩⟩
end
theorem QF{X:RX}{d:MD}{w:World}(h:St X d w)(v:VD):Bl X d (w.alloc (.cells (vA v) 61)) w.heap.size [v]:=by
 refine⟨⟨by simp,fun j x hx=>?_⟩,h.other (ah _)⟩;have e:hL [v]=(vA v).toList:=by simp[hL,v5]
 rw[e] at hx;exact((OwnB.new w (vA v) 61).1.2 j).trans (by simpa using hx)
theorem yt6(X:RX)(F a:Nat)(cs:Array Value)(d:MD)(u:World)(p:DP)(v:VD)(R:DP->Prop)(k:Od X a #[iE F cs])(h:rD X F cs d u p v R):qI X 239 #[ptr a] d u p [v] R:=by
 refine⟨enters_of Tryz.func239 (by kernel_rfl) rfl,fun d' u' h1 h2=>?_⟩;show Calls _ _ #[ptr X.F,ptr a] _ _;have HC:Hid (Calls Tryz.prog F (#[ptr X.F]++cs) u' fun e w'=>Fh X d' u' v R e w'):=h.2 d' u' h1 h2;have sJ:∀args w,(callFunc F args).run Tryz.prog w=.ok (.enter F args) w:=h.1;have b0:=(k.at h1.s).cell 0 rfl;have l0:=(k.at h1.s).1;go_in;go_wp2_with fail;refine HC.mono ?_;rintro e w1 ⟨d1,rfl,fH,fG⟩;have HF:Hid (qx X d' u' [v] R (.returned (.slice (some ⟨w1.heap.size,0,none⟩) 1 1)) (w1.alloc (.cells (vA v) 61))):=⟨_,_,d1,rfl,.inr ⟨by simp,_,rfl,fH.g.size,QF fH.s v⟩,fH.alloc _,fG⟩;go_wp2_with fail;go_ret;exact HF
theorem ys7(X:RX)(F a:Nat)(cs:Array Value)(d:MD)(u:World)(p:DP)(v:VD)(R:DP->Prop)(k:Od X a #[iE F cs])(h:rD X F cs d u p v R):qI X 200 #[ptr a] d u p [v] R:=by
 refine⟨enters_of Tryz.func200 (by kernel_rfl) rfl,fun d' u' h1 h2=>?_⟩;show Calls _ _ #[ptr X.F,ptr a] _ _;have HC:Hid (Calls Tryz.prog F (#[ptr X.F]++cs) u' fun e w'=>Fh X d' u' v R e w'):=h.2 d' u' h1 h2;have sJ:∀args w,(callFunc F args).run Tryz.prog w=.ok (.enter F args) w:=h.1;have b0:=(k.at h1.s).cell 0 rfl;have l0:=(k.at h1.s).1;go_in;go_wp2_with fail;refine HC.mono ?_;rintro e w1 ⟨d1,rfl,fH,fG⟩;have HF:Hid (qx X d' u' [v] R (.returned (.slice (some ⟨w1.heap.size,0,none⟩) 1 1)) (w1.alloc (.cells (vA v) 61))):=⟨_,_,d1,rfl,.inr ⟨by simp,_,rfl,fH.g.size,QF fH.s v⟩,fH.alloc _,fG⟩;go_wp2_with fail;go_ret;exact HF
theorem j19(X:RX)(F a:Nat)(cs:Array Value)(d:MD)(u:World)(p:DP)(v:VD)(R:DP->Prop)(k:Od X a #[iE F cs])(h:qI X F cs d u p [v] R):rD X 230 #[ptr a] d u p v R:=by
 refine⟨enters_of Tryz.func230 (by kernel_rfl) rfl,fun d' u' h1 h2=>?_⟩;show Calls _ _ #[ptr X.F,ptr a] _ _;have hs0:=Sp.below h1.s (q01 u' (.cells z5 61));have HC:Hid (Calls Tryz.prog F (#[ptr X.F]++cs) (u'.alloc (.cells z5 61)) fun e w'=>qx X d' (u'.alloc (.cells z5 61)) [v] R e w'):=h.2 d' _ (h1.trans hs0) h2;have HS:Hid (St X d' u'):=h1.s;have sJ:∀args w,(callFunc F args).run Tryz.prog w=.ok (.enter F args) w:=h.1;have b0:=(k.at h1.s).cell 0 rfl;have l0:=(k.at h1.s).1;go_in;go_wp2_with fail;refine HC.mono ?_;rintro e w1 ⟨a1,c1,d1,rfl,hL1,fH,fG⟩;rcases hL1 with⟨h0,_⟩|⟨_,g,rfl,_,hg⟩
 ·cases h0
 have HB:Hid (jk X d1 w1 u'.heap.size z5):=(jk.new HS.out z5 _).step fH;have HG:Hid (Bl X d1 w1 g [v]):=hg;have H1:Hid (Sp X d' u' d1 w1/\R d1.p):=⟨(Sp.below HS.out (q01 _ _)).trans fH,fG⟩;go_wp2_with fail;refine(L6 g c1 1 0 v w1 (by omega) HG.1.1 (HG.at rfl)).mono ?_;rintro e w2 ⟨rfl,eG⟩;have fD:Hid (jk X d1 w2 u'.heap.size z5/\Sp X d' u' d1 w2):=⟨HB.step (Sp.below H1.1.s eG),H1.1.call eG⟩;have r0:=fD.1.1.1.cell 0 rfl;have r1:=fD.1.1.1.cell 1 rfl;have r2:=fD.1.1.1.cell 2 rfl;have r3:=fD.1.1.1.cell 3 rfl;have r4:=fD.1.1.1.cell 4 rfl;have rz:=fD.1.1.2;have rl:=fD.1.1.1.1;have HF:Hid (∀w6,Gx (fun k=>k=u'.heap.size) w2 w6->Fh X d' u' v R (.returned (iJ v.k v.n v.f v.s v.r)) w6):=fun w6 zY=>⟨d1,rfl,Sp.beside HS.out fD.2 zY (ah _) fD.1.2,H1.2⟩;go_wp2_with fail;generalize u'.heap.size=Rb at *;exact aG (v:=iJ v.k v.n v.f v.s v.r) (by simp[results,Tryz.results230,go_sem,r0,r1,r2,r3,r4]) rfl (HF.out _ (LH _ _ _ _ _ _ _))
def JK(X:RX)(d:MD)(u:World)(x y:VD)(R:DP->Prop)(e:Ending)(w':World):Prop:=∃d',e=.returned (.tuple #[iJ x.k x.n x.f x.s x.r,iJ y.k y.n y.f y.s y.r])/\Sp X d u d' w'/\∃q,R q/\d'.p=q.kH (q.held.length-1)
def yD(X:RX)(F:Nat)(cs:Array Value)(d:MD)(u:World)(p:DP)(x y:VD)(R:DP->Prop):Prop:=tq F/\∀d' u',Sp X d u d' u'->d'.p=p->Calls Tryz.prog F (#[ptr X.F]++cs) u' fun e w'=>JK X d' u' x y R e w'
theorem Jz(w:World)(B C:Nat)(a b c e f a' b' c' e' f':Value):Gx (fun k=>k=B\/k=C) w ((((((((((w.setCell ⟨B,0,none⟩ a).setCell ⟨B,1,none⟩ b).setCell ⟨B,2,none⟩ c).setCell ⟨B,3,none⟩ e).setCell ⟨B,4,none⟩ f).setCell ⟨C,0,none⟩ a').setCell ⟨C,1,none⟩ b').setCell ⟨C,2,none⟩ c').setCell ⟨C,3,none⟩ e').setCell ⟨C,4,none⟩ f'):=
 ((LH w B a b c e f).mono (fun _ h=>.inl h)).trans (LH _ C a' b' c' e' f') (fun _ _ h=>.inr h)
theorem Sp.ES{X:RX}{d d':MD}{u u' u'':World}(h0:St X d u)(h:Sp X d u d' u'){B C:Nat}(hg:Gx (fun k=>k=B\/k=C) u' u'')(hB:u.heap.size<=B)(hC:u.heap.size<=C)(hn:¬stB X d' B)(hm:¬stB X d' C):Sp X d u d' u'':=
 ⟨h.s.besides hg (fun k e=>by rcases e with e|e<;>rw[e]<;>assumption) (fun k e=>by have:=h0.k.size;omega),h.g.trans hg (fun k hk e=>by omega),h.mv⟩
theorem yr6(X:RX)(F1 F2 a b:Nat)(cs1 cs2:Array Value)(d:MD)(u:World)(p:DP)(x y:VD)(R1 R2:DP->Prop)(k1:Od X a #[iE F1 cs1])(k2:Od X b #[iE F2 cs2])(h1:rD X F1 cs1 d u p x R1)(b1:∀q,R1 q->q.held.length<=900)(h2:∀q,R1 q->rD X F2 cs2 d u (q.hold [x]) y R2)(b2:∀q,R2 q->1<=q.held.length/\q.held.length<=1000):yD X 269 #[ptr a,ptr b] d u p x y R2:=by
 refine⟨enters_of Tryz.func269 (by kernel_rfl) rfl,fun d' u' hs hp=>?_⟩;show Calls _ _ #[ptr X.F,ptr a,ptr b] _ _;have HS:Hid (St X d' u'/\Sp X d u d' u'):=⟨hs.s,hs⟩;have HK:Hid (Od X a #[iE F1 cs1]/\Od X b #[iE F2 cs2]):=⟨k1,k2⟩;have H1':Hid (∀w,gZ u' w->Calls Tryz.prog F1 (#[ptr X.F]++cs1) w fun e w'=>Fh X d' w x R1 e w'):=fun w hb=>h1.2 d' w (hs.call hb) hp;have HE1:Hid (∀args w,(callFunc F1 args).run Tryz.prog w=.ok (.enter F1 args) w):=h1.1;have H2':Hid (∀q,R1 q->rD X F2 cs2 d u (q.hold [x]) y R2):=h2;have fB:Hid (∀q,R1 q->q.held.length<=900):=b1;have fD:Hid (∀q,R2 q->1<=q.held.length/\q.held.length<=1000):=b2;have c0:=(k1.at hs.s).cell 0 rfl;have l0:=(k1.at hs.s).1;have sJ:=HE1.out;go_in;go_wp2_with fail;obtain⟨w0,hw0⟩:∃w0,(u'.alloc (.cells z5 61)).alloc (.cells z5 61)=w0:=⟨_,rfl⟩;obtain⟨B4,hB4⟩:∃B4,u'.heap.size=B4:=⟨_,rfl⟩;obtain⟨B5,uy⟩:∃B5,u'.heap.size+1=B5:=⟨_,rfl⟩;have H0:Hid (gZ u' w0/\jk X d' w0 B4 z5/\jk X d' w0 B5 z5/\B4≠B5/\u'.heap.size<=B4/\u'.heap.size<=B5):=by
  rw[<-hw0,<-hB4,<-uy];exact⟨(q01 _ _).alloc (by rw[aN];omega) _,(jk.new HS.1 z5 _).alloc _,⟨zN _ _ _ _,HS.1.other (by omega)⟩,by omega,by omega,by omega⟩
 rw[hw0,uy,hB4];refine(H1'.out w0 H0.1).mono ?_;rintro e w1 ⟨d1,rfl,fH,fG⟩;have H1:Hid (Sp X d' u' d1 w1/\R1 d1.p/\jk X d1 w1 B4 z5/\jk X d1 w1 B5 z5):=⟨(Sp.below HS.1 H0.1).trans fH,fG,H0.2.1.step fH,H0.2.2.1.step fH⟩
 go_upto_region 2 with fail
 obtain⟨w2,fU⟩:∃w2,w1.alloc (.cells (vA x) 61)=w2:=⟨_,rfl⟩;obtain⟨C,hC0⟩:∃C,w1.heap.size=C:=⟨_,rfl⟩;have H2:Hid (Sp X d' u' d1 w2/\R1 d1.p/\jk X d1 w2 B4 z5/\jk X d1 w2 B5 z5/\Bx X d1 w2 C (vA x)):=by
  rw[<-fU,<-hC0];exact⟨H1.1.alloc _,H1.2.1,H1.2.2.1.alloc _,H1.2.2.2.alloc _,Bx.new H1.1.s _ _⟩
 rw[show w1.alloc (.cells #[.int .i64 x.k,.int .i64 x.n,.float .f64 x.f,.string x.s,.int .i64 x.r] 61)=w2 from fU,hC0];have Qj:Hid (C≠B4/\C≠B5):=by
  have h1:=H1.2.2.1.1.1.1;have h2:=H1.2.2.2.1.1;exact⟨by omega,by have:=h2.1;omega⟩
 have f0:=H2.1.s.f.1.cell 0 rfl;have hF:=H2.1.s.f.1.1;have hC:=H2.2.2.2.2.1.1;have c0:=H2.2.2.2.2.cell 0 rfl;have c1:=H2.2.2.2.2.cell 1 rfl;have c2:=H2.2.2.2.2.cell 2 rfl;have c3:=H2.2.2.2.2.cell 3 rfl;have c4:=H2.2.2.2.2.cell 4 rfl;have HG:Hid (Has (w2.alloc (.cells (vA x) 61)).drew w2.heap.size (vA x)):=Has.drew (Has.new _ _ _);have HS2:Hid (St X d1 (w2.alloc (.cells (vA x) 61)).drew/\d1.held.length<=900):=⟨(H2.1.s.alloc _).drew,fB.out _ H2.2.1⟩
 go_cut [] from 8 (fun wc=>∃d3,Hid (Sp X d' u' d3 wc/\(∃q,R1 q/\d3.p=q.hold [x])/\jk X d3 wc B4 z5/\jk X d3 wc B5 z5/\Bx X d3 wc C (vA x)))
 case first=>
  go_region_with (go_at_call 194;refine(L8 X d1 _ x _ HS2.1 (by have:=HS2.2;omega) HG.out).mono ?_;rintro e w3 ⟨rfl,ht3⟩)
  all_goals
   obtain⟨d3,fM,e3⟩:=ht3;have hsp:Sp X d1 w2 d3 w3:=((Sp.refl H2.1.s).alloc _).drew.trans fM;have H3:Hid (Sp X d' u' d3 w3/\(∃q,R1 q/\d3.p=q.hold [x])/\jk X d3 w3 B4 z5/\jk X d3 w3 B5 z5/\Bx X d3 w3 C (vA x)):=⟨H2.1.trans hsp,⟨_,H2.2.1,e3⟩,H2.2.2.1.step hsp,H2.2.2.2.1.step hsp,H2.2.2.2.2.step hsp⟩;go_wp2_with fail
   go_meet
   exact⟨d3,H3⟩
 case rest=>
  rename World=>w3
  obtain⟨d3,H3⟩:=hcut;obtain⟨q3,hq3,e3⟩:=H3.2.1;have HE2:=H2'.out q3 hq3;have sJ:∀args w,(callFunc F2 args).run Tryz.prog w=.ok (.enter F2 args) w:=HE2.1;have HC2:Hid (Calls Tryz.prog F2 (#[ptr X.F]++cs2) w3 fun e w'=>Fh X d3 w3 y R2 e w'):=HE2.2 d3 w3 (HS.2.trans H3.1) e3;have b0:=(HK.2.at H3.1.s).cell 0 rfl;have l0:=(HK.2.at H3.1.s).1;go_wp2_with fail;refine HC2.mono ?_;rintro e w4 ⟨d4,rfl,fO,hr4⟩;have H4:Hid (Sp X d' u' d4 w4/\R2 d4.p/\jk X d4 w4 B4 z5/\jk X d4 w4 B5 z5/\Bx X d4 w4 C (vA x)):=⟨H3.1.trans fO,hr4,H3.2.2.1.step fO,H3.2.2.2.1.step fO,H3.2.2.2.2.step fO⟩
  go_upto_region 4 with fail
  obtain⟨w5,hw5⟩:∃w5,w4.alloc (.cells (vA y) 61)=w5:=⟨_,rfl⟩;obtain⟨E,hE0⟩:∃E,w4.heap.size=E:=⟨_,rfl⟩;have H5:Hid (Sp X d' u' d4 w5/\R2 d4.p/\jk X d4 w5 B4 z5/\jk X d4 w5 B5 z5/\Bx X d4 w5 C (vA x)/\Bx X d4 w5 E (vA y)):=by
   rw[<-hw5,<-hE0];exact⟨H4.1.alloc _,H4.2.1,H4.2.2.1.alloc _,H4.2.2.2.1.alloc _,H4.2.2.2.2.alloc _,Bx.new H4.1.s _ _⟩
  rw[show w4.alloc (.cells #[.int .i64 y.k,.int .i64 y.n,.float .f64 y.f,.string y.s,.int .i64 y.r] 61)=w5 from hw5,hE0];have HN:Hid (C≠B4/\C≠B5/\E≠B4/\E≠B5):=by
   have h1:=H4.2.2.1.1.1.1;have h2:=H4.2.2.2.1.1.1;exact⟨Qj.1,Qj.2,by omega,by have:=h2.1;omega⟩
  have f0:=H5.1.s.f.1.cell 0 rfl;have lF:=H5.1.s.f.1.1;have eG:=fD.out _ H5.2.1;have hb2':1<=d4.held.length/\d4.held.length<=1000:=eG;go_wp2_with fail;refine(Gp X d4 1 w5 H5.1.s hb2'.1 (by omega)).mono ?_;rintro e w6 ⟨rfl,d6,hs6,e6⟩;have H6:Hid (Sp X d' u' d6 w6/\(∃q,R2 q/\d6.p=q.kH (q.held.length-1))/\jk X d6 w6 B4 z5/\jk X d6 w6 B5 z5/\Bx X d6 w6 C (vA x)/\Bx X d6 w6 E (vA y)):=⟨H5.1.trans hs6,⟨_,H5.2.1,e6⟩,H5.2.2.1.step hs6,H5.2.2.2.1.step hs6,H5.2.2.2.2.1.step hs6,H5.2.2.2.2.2.step hs6⟩;have HF:Hid (∀w7,Gx (fun k=>k=B4\/k=B5) w6 w7->JK X d' u' x y R2 (.returned (.tuple #[iJ x.k x.n x.f x.s x.r,iJ y.k y.n y.f y.s y.r])) w7.drew):=fun w7 vV=>⟨d6,rfl,Sp.drew (Sp.ES HS.1 H6.1 vV H0.2.2.2.2.1 H0.2.2.2.2.2 H6.2.2.1.2 H6.2.2.2.1.2),H6.2.1⟩;have c0:=H6.2.2.2.2.1.cell 0 rfl;have c1:=H6.2.2.2.2.1.cell 1 rfl;have c2:=H6.2.2.2.2.1.cell 2 rfl;have c3:=H6.2.2.2.2.1.cell 3 rfl;have c4:=H6.2.2.2.2.1.cell 4 rfl;have lC:=H6.2.2.2.2.1.1.1;have e0:=H6.2.2.2.2.2.cell 0 rfl;have e1:=H6.2.2.2.2.2.cell 1 rfl;have e2:=H6.2.2.2.2.2.cell 2 rfl;have e3:=H6.2.2.2.2.2.cell 3 rfl;have e4:=H6.2.2.2.2.2.cell 4 rfl;have lE:=H6.2.2.2.2.2.1.1;have r0:=H6.2.2.1.1.1.cell 0 rfl;have r1:=H6.2.2.1.1.1.cell 1 rfl;have r2:=H6.2.2.1.1.1.cell 2 rfl;have r3:=H6.2.2.1.1.1.cell 3 rfl;have r4:=H6.2.2.1.1.1.cell 4 rfl;have rz:=H6.2.2.1.1.2;have rl:=H6.2.2.1.1.1.1;have s0:=H6.2.2.2.1.1.1.cell 0 rfl;have s1:=H6.2.2.2.1.1.1.cell 1 rfl;have s2:=H6.2.2.2.1.1.1.cell 2 rfl;have s3:=H6.2.2.2.1.1.1.cell 3 rfl;have s4:=H6.2.2.2.1.1.1.cell 4 rfl;have sz:=H6.2.2.2.1.1.2;have sl:=H6.2.2.2.1.1.1.1;have hne:=H0.2.2.2.1;have hne':=bK hne;have TL:C≠B4/\C≠B5/\E≠B4/\E≠B5:=HN.out;have F8:Hid (∀w,Gx (fun k=>k=B4\/k=B5) w6 w->C5 w.drew C x/\C5 w.drew E y):=fun w hg=>by
   have hC:=hg.has H6.2.2.2.2.1.1 (fun c=>c.elim TL.1 TL.2.1);have hE:=hg.has H6.2.2.2.2.2.1 (fun c=>c.elim TL.2.2.1 TL.2.2.2);exact⟨⟨hC.cell 0 rfl,hC.cell 1 rfl,hC.cell 2 rfl,hC.cell 3 rfl,hC.cell 4 rfl⟩,hE.cell 0 rfl,hE.cell 1 rfl,hE.cell 2 rfl,hE.cell 3 rfl,hE.cell 4 rfl⟩
  have S0:=F8.out w6 (Gx.refl _ _);have S1:=F8.out _ ((LH w6 B4 (.int .i64 x.k) (.int .i64 x.n) (.float .f64 x.f) (.string x.s) (.int .i64 x.r)).mono (fun _ h=>.inl h));have S2:=F8.out _ ((LH w6 B5 (.int .i64 y.k) (.int .i64 y.n) (.float .f64 y.f) (.string y.s) (.int .i64 y.r)).mono (fun _ h=>.inr h));have S3:=F8.out _ (Jz w6 B4 B5 (.int .i64 x.k) (.int .i64 x.n) (.float .f64 x.f) (.string x.s) (.int .i64 x.r) (.int .i64 y.k) (.int .i64 y.n) (.float .f64 y.f) (.string y.s) (.int .i64 y.r));have S4:=F8.out _ ((Jz w6 B5 B4 (.int .i64 y.k) (.int .i64 y.n) (.float .f64 y.f) (.string y.s) (.int .i64 y.r) (.int .i64 x.k) (.int .i64 x.n) (.float .f64 x.f) (.string x.s) (.int .i64 x.r)).mono (fun _ h=>h.elim .inr .inl));go_wp2_with fail
  go_region_held3 (fun w'=>C5 w' C x/\C5 w' E y) (first|(with_reducible exact S0)|(with_reducible exact S1)|(with_reducible exact S2)|(with_reducible exact S3)|(with_reducible exact S4)) (fail)
  go_wp2_with fail;exact aG (v:=.tuple #[iJ x.k x.n x.f x.s x.r,iJ y.k y.n y.f y.s y.r]) (by simp[results,Tryz.results269,go_sem,r0,r1,r2,r3,r4,s0,s1,s2,s3,s4]) rfl (HF.out _ (Jz _ _ _ _ _ _ _ _ _ _ _ _ _))
def F5(X:RX)(d:MD)(u:World)(l:List VD)(R:DP->Prop)(e:Ending)(w':World):Prop:=∃g c d',e=.returned (.slice (some ⟨g,0,none⟩) l.length c)/\Dy u.heap.size w' g c l/\Sp X d u d' w'/\R d'.p/\¬stB X d' g
def TU(X:RX)(F:Nat)(cs:Array Value)(d:MD)(u:World)(p:DP)(l:List VD)(R:DP->Prop):Prop:=tq F/\∀d' u',Sp X d u d' u'->d'.p=p->Calls Tryz.prog F (#[ptr X.F]++cs) u' fun e w'=>F5 X d' u' l R e w'
theorem j76{X:RX}{d:MD}{u w':World}{l:List VD}{R:DP->Prop}{q:DP}{g c n:Nat}(h1:w'.ownsRow u.heap.size 61 5 (.slice (some ⟨g,0,none⟩) n c) n (hL l))(h2:ToG X d u q w' g)(h3:R q)(h4:l.length=n):F5 X d u l R (.returned (.slice (some ⟨g,0,none⟩) n c)) w':=by
 subst h4;obtain⟨d',a,b,e⟩:=h2;exact⟨g,c,d',rfl,h1,a,by rw[b];exact h3,e⟩
theorem y98(X:RX)(dB:MD)(uB:World)(p:DP)(B:Nat)(a:Option Addr)(n cap:Nat)(Fs:Nat->Nat)(Cs:Nat->Array Value)(vs:Nat->VD)(R:Nat->DP->Prop)(hB:Od X B #[.slice a n cap])(gJ:iF 1 0 X.W a n fun i=>#[iE (Fs i) (Cs i)])(hrm:∀b,a=some b->b.block≠X.M)(r0:R 0 p)(hR:∀k,k<n->∀q,R k q->rD X (Fs k) (Cs k) dB uB (q.hold (vl vs k)) (vs k) (fun q'=>∃q2,R (k+1) q2/\q'=q2.hold (vl vs k)))(hh:∀k q,R k q->q.held.length=p.held.length)(hn:n<=100)(hp:0<p.held.length+n)(gG:p.held.length<=800):TU X 251 #[ptr B] dB uB p (vl vs n) (R n):=by
 refine⟨enters_of Tryz.func251 (by kernel_rfl) rfl,fun d u hs hpp=>?_⟩;show Calls _ _ #[ptr X.F,ptr B] _ _;have h:=hs.s;have Kt:Hid (Sp X dB uB d u):=hs;have HRs:Hid (∀k,k<n->∀q,R k q->rD X (Fs k) (Cs k) dB uB (q.hold (vl vs k)) (vs k) (fun q'=>∃q2,R (k+1) q2/\q'=q2.hold (vl vs k))):=hR;have HHd:Hid (∀k q,R k q->q.held.length=p.held.length):=hh;have HL:Hid ((iF 1 0 X.W a n fun i=>#[iE (Fs i) (Cs i)])/\∀b,a=some b->b.block≠X.M):=⟨gJ,hrm⟩;have Ua:Hid (R 0 p/\d.p=p):=⟨r0,hpp⟩;have hdl:d.held.length=p.held.length:=aJ (fun q:DP=>q.held.length) hpp;rw[<-hdl] at hp gG;have HDl:Hid (d.held.length=p.held.length):=hdl;have HS:Hid (St X d u):=h;have b0:=(hB.at h).cell 0 rfl;have f0:=h.f.1.cell 0 rfl;have c8:u.cell? ⟨X.T,8,none⟩=some (.slice d.ha d.held.length d.hc):=h.t.1.cell 8 rfl;obtain⟨H,hH⟩:∃H,d.held.length=H:=⟨_,rfl⟩;rw[hH] at c8 hp gG;have HH:Hid (d.held.length=H):=hH;go_in;go_wp2_with fail
 go_loopw [20] (fun i wr=>∃(k:Nat) (d1:MD),k<=n/\i=.int .i64 k/\Hid (Sp X d u d1 wr/\∃q,R k q/\d1.p=q.hold (vl vs k))) (fun i _=>n-(intOf i).toNat)
 case atStart=>exact⟨0,d,aF _,rfl,Sp.refl HS.out,p,Ua.1,by rw[Ua.2];exact(DP.o7 _).symm⟩
 case round=>
  obtain⟨k,d1,hk,rfl,Qe⟩:=hrel;obtain⟨q,hq1,hq2⟩:=Qe.2;have HP:Hid (Sp X d u d1 wr/\d1.p=q.hold (vl vs k)):=⟨Qe.1,hq2⟩;have HQ:Hid (R k q/\q.held.length=H):=⟨hq1,by rw[HHd.out k q hq1,<-HDl.out];exact HH⟩;have hl1:d1.held.length=H+k:=by
   have h2:d1.held=q.held++vl vs k:=aJ DP.held HP.2;rw[h2,aU,z26,HQ.2]
  by_cases fE:k<n
  ·obtain⟨b,off,rfl,_,hb,d0⟩:=jd (HP.1.s.oldRow HL.1 HL.2) fE;have HE:=HRs.out k fE q HQ.1;have sJ:∀args w,(callFunc (Fs k) args).run Tryz.prog w=.ok (.enter (Fs k) args) w:=HE.1;have HC:Hid (Calls Tryz.prog (Fs k) (#[ptr X.F]++Cs k) wr fun e w'=>Fh X d1 wr (vs k) (fun q'=>∃q2,R (k+1) q2/\q'=q2.hold (vl vs k)) e w'):=HE.2 d1 wr (Kt.trans HP.1) HP.2;have i0:(0:Int)<=(k:Int):=aS _;have i1:(k:Int)<(n:Int):=by omega
   go_wp2_with fail;refine HC.mono ?_;rintro e w1 ⟨d1',rfl,fH,q2,fG,e1⟩;have qJ:Hid (Sp X d u d1' (w1.alloc (.cells (vA (vs k)) 61))/\R (k+1) q2/\d1'.p=q2.hold (vl vs k)):=⟨(HP.1.trans fH).alloc _,fG,e1⟩;have HG:Hid (Has (w1.alloc (.cells (vA (vs k)) 61)) w1.heap.size (vA (vs k))):=Has.new _ _ _;have hl2:d1'.held.length<=900:=by
    have h2:d1'.held=q2.held++vl vs k:=aJ DP.held e1;rw[h2,aU,z26,HHd.out _ _ fG,<-HDl.out,HH.out];omega
   go_wp2_with fail;refine(L8 X d1' _ (vs k) _ qJ.1.s (by omega) HG.out).mono ?_;rintro e w2 ⟨rfl,ht2⟩;obtain⟨d2,fJ,e2⟩:=ht2;have HP2:Hid (Sp X d u d2 w2/\∃q,R (k+1) q/\d2.p=q.hold (vl vs (k+1))):=⟨qJ.1.trans fJ,q2,qJ.2.1,by rw[e2,qJ.2.2,DP.zW,yv7]⟩;go_wp2_with fail;go_roundw
   case rel=>exact⟨k+1,d2,by omega,by go_num,HP2⟩
   case measure=>simp[intOf];omega
  ·obtain rfl:k=n:=by omega
   have hpos:0<d1.held.length:=by omega
   obtain⟨g,hg1,hg2,hg3,hg4⟩:=HP.1.s.BU hpos;have HG4:Hid (∀j v,(hL d1.held)[j]?=some v->wr.cell? ⟨g,j,none⟩=some v):=hg4;have c8:wr.cell? ⟨X.T,8,none⟩=some (.slice (some ⟨g,0,none⟩) (H+k) d1.hc):=by
    have:=HP.1.s.t.1.cell 8 rfl;rw[<-hl1,<-hg1];exact this
   have hT:=HP.1.s.t.1.1;have z:=HP.1.s.t.2;have hh2:d1.held=q.held++vl vs k:=aJ DP.held HP.2;have HX:Hid (∀(x:Addr),x=(if d1.hc=H then⟨g,0,none⟩ else⟨g,H*5,none⟩)->∀j v,(hL (vl vs k))[j]?=some v->wr.cell? (x.add j)=some v):=by
    intro x hx j v hv;have hj:j<k*5:=by
     have:=(aP.1 hv).1
     rwa [z52,z26] at this
    have hc:¬d1.hc=H:=by omega
    rw[au hc] at hx;subst hx;have h5:=HG4.out (H*5+j) v (by
     rw[hh2,QH,dA (by rw[z52,HQ.2];omega),z52,HQ.2,show H*5+j-H*5=j by omega];exact hv)
    cases j<;>simpa[Addr.add] using h5
   have HF:Hid (∀w' g2,gZ wr w'->wr.heap.size<=g2->ToG X d u q (w'.setCell ⟨X.T,8,none⟩ (.slice (some ⟨g,0,none⟩) H d1.hc)) g2):=fun w' g2 hb hg2=>by
    have h1:=HP.1.call hb;have h2:=Sp.kH h1.s (m:=H) (by omega);rw[<-hg1];refine⟨_,h1.trans h2,?_,fun e=>HP.1.s.other hg2 e⟩;show DP.kH d1.p H=q;rw[HP.2];exact DP.o8 q _ HQ.2
   have HO:Hid (∀(w':World) (g2 c2:Nat) (v:Value),gZ wr w'->w'.ownsRow wr.heap.size 61 5 (.slice (some ⟨g2,0,none⟩) k c2) k (hL (vl vs k))->(w'.setCell ⟨X.T,8,none⟩ v).ownsRow u.heap.size 61 5 (.slice (some ⟨g2,0,none⟩) k c2) k (hL (vl vs k))):=fun w' g2 c2 v hb ho=>y95 (q23 ho v (fun q e=>by have:=(ho.lt q e).1;omega)) HP.1.g.size;by_cases hc:d1.hc=H
   ·obtain rfl:k=0:=by omega
    rw[hc] at c8 HF;have hX:=HX.out ⟨g,0,none⟩ (by rw[aO hc]);have Yy:Hid (∀j v,(hL (vl vs 0))[j]?=some v->wr.cell? ((⟨g,0,none⟩:Addr).add j)=some v):=hX;have hH0:¬H=0:=by omega
    go_wp2_with (go_at_call 252;refine(qn4 ⟨g,0,none⟩ (vl vs 0) 0 _ _ rfl (by omega) Yy.out hg2).mono ?_;rintro e w3 ⟨⟨g3,c3,rfl,ho3⟩,eH⟩;have d8:=(ak (a:=⟨X.T,8,none⟩) (eH.block X.T hT)).trans c8;have dz:∀o,w3.frozen? ⟨X.T,o,none⟩=false:=fun o=>(bD (a:=⟨X.T,o,none⟩) (eH.block X.T hT)).trans (z o));go_ret;exact j76 (HO _ _ _ _ eH ho3) (HF _ _ eH (jm ho3 (k:=g3) rfl).1) HQ.1 (z26 vs _)
   ·have hX:=HX.out ⟨g,H*5,none⟩ (by rw[au hc]);have Yy:Hid (∀j v,(hL (vl vs k))[j]?=some v->wr.cell? ((⟨g,H*5,none⟩:Addr).add j)=some v):=hX;have hH0:¬d1.hc=0:=by omega
    go_wp2_with (go_at_call 252;refine(qn4 ⟨g,H*5,none⟩ (vl vs k) k _ _ (z26 vs k) (by omega) Yy.out hg2).mono ?_;rintro e w3 ⟨⟨g3,c3,rfl,ho3⟩,eH⟩;have d8:=(ak (a:=⟨X.T,8,none⟩) (eH.block X.T hT)).trans c8;have dz:∀o,w3.frozen? ⟨X.T,o,none⟩=false:=fun o=>(bD (a:=⟨X.T,o,none⟩) (eH.block X.T hT)).trans (z o));go_ret;exact j76 (HO _ _ _ _ eH ho3) (HF _ _ eH (jm ho3 (k:=g3) rfl).1) HQ.1 (z26 vs _)
theorem vG.lst{X:RX}{d:MD}{w:World}{N:Nat}{a:Option Addr}{c:Nat}{l:List VD}(h:vG X d w N a c l):JW w a l/\(l=[]->a=none/\c=0)/\∀ad,a=some ad->l≠[]->¬stB X d ad.block:=by
 rcases h with⟨rfl,rfl,rfl⟩|⟨h0,g,rfl,_,hg⟩
 ·exact⟨fun h=>absurd rfl h,fun _=>⟨rfl,rfl⟩,fun ad e=>nomatch e⟩
 ·refine⟨fun _=>⟨⟨g,0,none⟩,rfl,hg.1.1,fun j v hv=>?_⟩,fun e=>absurd e h0,fun ad e _=>by cases e;exact hg.2⟩;have:=hg.1.2 j v hv
  cases j<;>simpa[Addr.add] using this
theorem yb3(X:RX)(dB:MD)(uB:World)(p:DP)(l1 l2 b1 F1 F2:Nat)(cs1 cs2:Array Value)(vs more:List VD)(R1 R2:DP->Prop)(k1:Od X l1 #[iE F1 cs1])(k2:Od X l2 #[iE F2 cs2])(h1:TU X F1 cs1 dB uB p vs R1)(eu:∀q,R1 q->q.held.length<=800)(h2:∀q,R1 q->qI X F2 cs2 dB uB (q.hold vs) more (fun q'=>∃q2,R2 q2/\q'=q2.hold vs))(eG:∀q,R2 q->q.held.length<=800)(hm:vs.length+more.length<=250):TU X 214 #[ptr l1,ptr l2,ptr b1] dB uB p (vs++more) R2:=by
 refine⟨enters_of Tryz.func214 (by kernel_rfl) rfl,fun d u hs hpp=>?_⟩;show Calls _ _ #[ptr X.F,ptr l1,ptr l2,ptr b1] _ _;have h:=hs.s;have Kt:Hid (Sp X dB uB d u):=hs;have qy:Hid (Od X l2 #[iE F2 cs2]):=k2;have sJ:∀args w,(callFunc F1 args).run Tryz.prog w=.ok (.enter F1 args) w:=h1.1;have HO:Hid (Calls Tryz.prog F1 (#[ptr X.F]++cs1) u fun e w'=>F5 X d u vs R1 e w'):=h1.2 d u hs hpp;have HR:Hid (∀q,R1 q->qI X F2 cs2 dB uB (q.hold vs) more (fun q'=>∃q2,R2 q2/\q'=q2.hold vs)):=h2;have fB:Hid (∀q,R1 q->q.held.length<=800):=eu;have fD:Hid (∀q,R2 q->q.held.length<=800):=eG;have HS:Hid (St X d u):=h;have b1':=(k1.at h).cell 0 rfl;have Tc:=(k1.at h).1;clear h k1 k2 h1 h2 eu eG hs hpp;go_in;go_wp2_with fail;refine HO.mono ?_;rintro e w1 ⟨g1,c1,d1,rfl,ho1,fH,e1,hg1⟩;have HV:Hid (Dy u.heap.size w1 g1 c1 vs/\¬stB X d1 g1):=⟨ho1,hg1⟩;have H1:Hid (Sp X d u d1 w1/\R1 d1.p):=⟨fH,e1⟩;clear ho1 hg1 fH e1 b1' Tc sJ;have f0:=H1.1.s.f.1.cell 0 rfl;have hl1:d1.held.length<=800:=fB.out _ H1.2;go_wp2_with fail;refine(Sz X d1 ⟨g1,0,none⟩ vs c1 _ H1.1.s (by omega) HV.1.at).mono ?_;rintro e w2 ⟨rfl,d2,fJ,e2⟩;have LY:Hid (Dy u.heap.size w2 g1 c1 vs/\¬stB X d2 g1):=UR HV.1 HV.2 fJ;have H2:Hid (Sp X d u d2 w2/\d2.p=d1.p.hold vs):=⟨H1.1.trans fJ,e2⟩;have HE2:=HR.out _ H1.2;have sJ:∀args w,(callFunc F2 args).run Tryz.prog w=.ok (.enter F2 args) w:=HE2.1;have HC2:Hid (Calls Tryz.prog F2 (#[ptr X.F]++cs2) w2 fun e w'=>qx X d2 w2 more (fun q'=>∃q2,R2 q2/\q'=q2.hold vs) e w'):=HE2.2 d2 w2 (Kt.trans H2.1) H2.2;clear fJ e2 HV H1 f0 hl1 HE2;have b2:=(qy.at H2.1.s).cell 0 rfl;have l2':=(qy.at H2.1.s).1;go_wp2_with fail;refine HC2.mono ?_;rintro e w3 ⟨a3,c3,d3,rfl,P6,fM,q,hq3,e3⟩;obtain⟨hL3,hn3,eH⟩:=P6.lst;have YB:Hid (Dy u.heap.size w3 g1 c1 vs/\¬stB X d3 g1):=UR LY.1 LY.2 fM;have GY:Hid (JW w3 a3 more/\(more=[]->a3=none/\c3=0)/\∀ad,a3=some ad->more≠[]->¬stB X d3 ad.block):=⟨hL3,hn3,eH⟩;have H3:Hid (Sp X d u d3 w3/\d3.p=q.hold vs):=⟨H2.1.trans fM,e3⟩;have HQ2:Hid (R2 q/\q.held.length<=800):=⟨hq3,fD.out _ hq3⟩;clear hn3 hL3 fM e3 eH LY H2 b2 l2' sJ HC2 P6 hq3;have f0:=H3.1.s.f.1.cell 0 rfl;have hl3:d3.held.length=q.held.length+vs.length:=by
  have h1:d3.held=q.held++vs:=aJ DP.held H3.2;rw[h1,aU]
 have hq8:q.held.length<=800:=HQ2.2;go_wp2_with fail;refine(Gp X d3 vs.length _ H3.1.s (by omega) (by omega)).mono ?_;rintro e w4 ⟨rfl,d4,fO,e4⟩;have Q5:Hid (Dy u.heap.size w4 g1 c1 vs/\¬stB X d4 g1):=UR YB.1 YB.2 fO;have HL4:Hid (JW w4 a3 more/\∀ad,a3=some ad->more≠[]->¬stB X d4 ad.block):=GY.1.step GY.2.2 fO;have H4:Hid (Sp X d u d4 w4/\d4.p=q):=⟨H3.1.trans fO,by
  rw[e4,H3.2];exact DP.zX q vs (by rw[<-show d3.held=q.held++vs from aJ DP.held H3.2])⟩
 clear fO e4 YB H3 f0 hl3;obtain⟨g5,c5,w5,gq,yu,hg5,OX⟩:=yp2 u.heap.size w4 g1 c1 c3 a3 vs more H4.1.g.size Q5.1 HL4.1 (by omega) GY.2.1;have HF:Hid (F5 X d u (vs++more) R2 (.returned (.slice (some ⟨g5,0,none⟩) (vs.length+more.length) c5)) w5):=by
  have hgx:Gx (fun k=>k=g1) w4 w5:=(Gx.grown hg5).mono (fun k e=>(aQ e).symm);refine⟨g5,c5,d4,by rw[aU],yu,Sp.beside HS.out H4.1 hgx (jm Q5.1 (k:=g1) rfl).1 Q5.2,by rw[H4.2];exact HQ2.1,?_⟩;rcases OX with e|e
  ·rw[e];exact Q5.2
  ·exact H4.1.s.other (Nat.le_of_eq e.symm)
 clear Q5 HL4 GY H4 yu hg5 OX;obtain⟨n,hn⟩:∃n,vs.length=n:=⟨_,rfl⟩;obtain⟨m,hm'⟩:∃m,more.length=m:=⟨_,rfl⟩;rw[hn,hm'] at gq hm;rw[hn,hm'];have hmI:¬(250:Int)<(n:Int)+(m:Int):=by omega
 clear hn hm';go_wp2_with (at_builtin;refine um (by rfl) _ _ _ _ (by rfl) (.slice (some ⟨g1,0,none⟩) n c1) (.slice a3 m c3) _ _ (by rfl) (by rfl) gq ?_);go_ret;exact HF
theorem ys5{X:RX}{F:Nat}{cs:Array Value}{d:MD}{u:World}{p:DP}{l:List VD}{R:DP->Prop}(h:TU X F cs d u p l R)(hl:l≠[]):qI X F cs d u p l R:=⟨h.1,fun d' u' h1 h2=>(h.2 d' u' h1 h2).mono fun _ _ ⟨g,c,d'',a1,a2,a3,a4,a5⟩=>⟨_,c,d'',a1,.inr ⟨hl,g,rfl,(jm a2 (k:=g) rfl).1,⟨(jm a2 (k:=g) rfl).2,fun j v hv=>by have:=a2.at j v hv;cases j<;>simpa[Addr.add] using this⟩,a5⟩,a3,a4⟩⟩
theorem BO{X:RX}{d:MD}{u:World}{p:DP}:qI X 213 #[] d u p [] (·=p):=⟨enters_of Tryz.func213 (by kernel_rfl) rfl,fun d' u' h1 h2=>(zn8 (ptr X.F) u').mono fun _ _ ⟨e,hw⟩=>⟨none,0,d',e,.inl ⟨rfl,rfl,rfl⟩,by rw[hw];exact Sp.refl h1.s,h2⟩⟩
def JR(X:RX)(d:MD)(u:World)(cv:VD)(l:List VD)(R:DP->Prop)(e:Ending)(w':World):Prop:=∃a c d',e=.returned (.tuple #[iJ cv.k cv.n cv.f cv.s cv.r,.slice a l.length c])/\vG X d' w' u.heap.size a c l/\Sp X d u d' w'/\R d'.p
def PU(X:RX)(F:Nat)(cs:Array Value)(d:MD)(u:World)(p:DP)(cv:VD)(l:List VD)(R:DP->Prop):Prop:=tq F/\∀d' u',Sp X d u d' u'->d'.p=p->Calls Tryz.prog F (#[ptr X.F]++cs) u' fun e w'=>JR X d' u' cv l R e w'
theorem vG.far{X:RX}{d:MD}{w w':World}{N B:Nat}{a:Option Addr}{c:Nat}{l:List VD}(h:vG X d w N a c l)(hg:Gx (fun k=>k=B) w w')(hB:B<N):vG X d w' N a c l:=by
 rcases h with h|⟨h1,g,h2,h3,h4⟩
 ·exact .inl h
 ·exact .inr ⟨h1,g,h2,h3,⟨aH h4.1.1 hg.size,fun j v hv=>(ak (a:=⟨g,j,none⟩) (hg.block g h4.1.1 (fun e=>by omega))).trans (h4.1.2 j v hv)⟩,h4.2⟩
theorem yj7(X:RX)(dB:MD)(uB:World)(p:DP)(p1 p2 F1 F2:Nat)(cs1 cs2:Array Value)(cv:VD)(l:List VD)(R1 R2:DP->Prop)(k1:Od X p1 #[iE F1 cs1])(k2:Od X p2 #[iE F2 cs2])(h1:rD X F1 cs1 dB uB p cv R1)(eu:∀q,R1 q->q.held.length<=800)(h2:∀q,R1 q->qI X F2 cs2 dB uB (q.hold [cv]) l (fun q'=>∃q2,R2 q2/\q'=q2.hold [cv]))(eG:∀q,R2 q->q.held.length<=800):PU X 246 #[ptr p1,ptr p2] dB uB p cv l R2:=by
 refine⟨enters_of Tryz.func246 (by kernel_rfl) rfl,fun d u hs hpp=>?_⟩;show Calls _ _ #[ptr X.F,ptr p1,ptr p2] _ _;have HS:Hid (St X d u):=hs.s;have Kt:Hid (Sp X dB uB d u):=hs;have qy:Hid (Od X p2 #[iE F2 cs2]):=k2;have sJ:∀args w,(callFunc F1 args).run Tryz.prog w=.ok (.enter F1 args) w:=h1.1;have Qx:Hid (∀w,Sp X d u d w->Calls Tryz.prog F1 (#[ptr X.F]++cs1) w fun e w'=>Fh X d w cv R1 e w'):=fun w hw=>h1.2 d w (hs.trans hw) hpp;have HR:Hid (∀q,R1 q->qI X F2 cs2 dB uB (q.hold [cv]) l (fun q'=>∃q2,R2 q2/\q'=q2.hold [cv])):=h2;have fB:Hid (∀q,R1 q->q.held.length<=800):=eu;have fD:Hid (∀q,R2 q->q.held.length<=800):=eG;have b1':=(k1.at hs.s).cell 0 rfl;have hbl:=(k1.at hs.s).1;go_in;go_wp2_with fail;refine(Qx _ (Sp.below HS (q01 _ _))).mono ?_;rintro e w1 ⟨d1,rfl,fH,fG⟩;have H1:Hid (Sp X d u d1 w1):=Sp.first HS.out fH;have gW:Hid (jk X d1 w1 u.heap.size z5):=(jk.new HS.out z5 _).step fH;have HQ1:Hid (R1 d1.p/\d1.held.length<=800):=⟨fG,fB.out _ fG⟩;go_wp2_with fail;obtain⟨w2,fU⟩:∃w2,w1.alloc (.cells (vA cv) 61)=w2:=⟨_,rfl⟩;obtain⟨C,hC0⟩:∃C,w1.heap.size=C:=⟨_,rfl⟩;have H2:Hid (Sp X d u d1 w2):=by rw[<-fU];exact H1.alloc _
 have HC:Hid (Bx X d1 w2 C (vA cv)):=by rw[<-fU,<-hC0];exact Bx.new H1.s _ _
 have HR2:Hid (jk X d1 w2 u.heap.size z5):=by rw[<-fU];exact gW.alloc _
 rw[fU,hC0];have f0:=H2.s.f.1.cell 0 rfl;have hF:=H2.s.f.1.1;have hC:=HC.1.1;have c0:=HC.cell 0 rfl;have c1:=HC.cell 1 rfl;have c2:=HC.cell 2 rfl;have c3:=HC.cell 3 rfl;have c4:=HC.cell 4 rfl;have HG:Hid (Has (w2.alloc (.cells (vA cv) 61)).drew w2.heap.size (vA cv)):=Has.drew (Has.new _ _ _);have HS2:Hid (St X d1 (w2.alloc (.cells (vA cv) 61)).drew):=(H2.s.alloc _).drew
 go_region_with (go_at_call 194;refine(L8 X d1 _ cv _ HS2.out (by have:=HQ1.2;omega) HG.out).mono ?_;rintro e w3 ⟨rfl,ht3⟩)
 all_goals
  obtain⟨d3,fM,e3⟩:=ht3;have hsp:Sp X d1 w2 d3 w3:=((Sp.refl H2.s).alloc _).drew.trans fM;have H3:Hid (Sp X d u d3 w3/\d3.p=d1.p.hold [cv]):=⟨H2.trans hsp,e3⟩;have HC3:Hid (Bx X d3 w3 C (vA cv)):=HC.step hsp;have HR3:Hid (jk X d3 w3 u.heap.size z5):=HR2.step hsp;have b2:=(qy.at H3.1.s).cell 0 rfl;have a0c:=(qy.at H3.1.s).1;have HE2:=HR.out _ HQ1.1;have sJ:∀args w,(callFunc F2 args).run Tryz.prog w=.ok (.enter F2 args) w:=HE2.1;have HC2:Hid (Calls Tryz.prog F2 (#[ptr X.F]++cs2) w3 fun e w'=>qx X d3 w3 l (fun q'=>∃q2,R2 q2/\q'=q2.hold [cv]) e w'):=HE2.2 d3 w3 (Kt.trans H3.1) H3.2;go_wp2_with fail;refine HC2.mono ?_;rintro e w4 ⟨a4,c4,d4,rfl,Jr,fO,q,hq4,e4⟩;have Qg:Hid (vG X d4 w4 w3.heap.size a4 c4 l):=Jr;have HQ4:Hid (R2 q/\q.held.length<=800):=⟨hq4,fD.out _ hq4⟩;have H4:Hid (Sp X d u d4 w4/\d4.p=q.hold [cv]):=⟨H3.1.trans fO,e4⟩;have mO:Hid (Bx X d4 w4 C (vA cv)):=HC3.step fO;have HR4:Hid (jk X d4 w4 u.heap.size z5):=HR3.step fO;have HZ:Hid (u.heap.size<=w3.heap.size):=H3.1.g.size;have HZ2:Hid (u.heap.size<w3.heap.size):=HR3.1.1.1;have f0:=H4.1.s.f.1.cell 0 rfl;have hh4:d4.held=q.held++[cv]:=aJ DP.held H4.2;have hl4:d4.held.length=q.held.length+1:=by rw[hh4];simp
  have hq8:q.held.length<=800:=HQ4.2;go_wp2_with fail;refine(Gp X d4 1 _ H4.1.s (by omega) (by omega)).mono ?_;rintro e w5 ⟨rfl,d5,fP,e5⟩;have Ky:Hid (vG X d5 w5 w3.heap.size a4 c4 l):=Qg.step fP;have H5:Hid (Sp X d u d5 w5/\d5.p=q):=⟨H4.1.trans fP,by rw[e5,H4.2];exact DP.o8 q _ (by omega)⟩;have DK:Hid (Bx X d5 w5 C (vA cv)):=mO.step fP;have DF:Hid (jk X d5 w5 u.heap.size z5):=HR4.step fP;have c0:=DK.cell 0 rfl;have c1:=DK.cell 1 rfl;have c2:=DK.cell 2 rfl;have c3:=DK.cell 3 rfl;have xH:=DK.cell 4 rfl;have r0:=DF.1.1.cell 0 rfl;have r1:=DF.1.1.cell 1 rfl;have r2:=DF.1.1.cell 2 rfl;have r3:=DF.1.1.cell 3 rfl;have r4:=DF.1.1.cell 4 rfl;have rz:=DF.1.2;obtain⟨n,hn⟩:∃n,l.length=n:=⟨_,rfl⟩;have HF:Hid (∀w6,Gx (fun k=>k=u.heap.size) w5 w6->JR X d u cv l R2 (.returned (.tuple #[iJ cv.k cv.n cv.f cv.s cv.r,.slice a4 n c4])) w6):=fun w6 zY=>⟨a4,c4,d5,by rw[hn],(Ky.far zY HZ2.out).low HZ.out,Sp.beside HS.out H5.1 zY (ah _) DF.2,by rw[H5.2];exact HQ4.1⟩;rw[hn];go_wp2_with fail;generalize u.heap.size=R at *;exact aG (v:=.tuple #[iJ cv.k cv.n cv.f cv.s cv.r,.slice a4 n c4]) (by simp[results,Tryz.results246,go_sem,r0,r1,r2,r3,r4]) rfl (HF.out _ (LH _ _ _ _ _ _ _))
def Oo(X:RX)(B o:Nat)(v:Value):Prop:=(B<X.W.heap.size/\X.W.cell? ⟨B,o,none⟩=some v)/\B≠X.M
theorem Oo.at{X:RX}{d:MD}{u:World}{B o:Nat}{v:Value}(h:Oo X B o v)(s:St X d u):u.cell? ⟨B,o,none⟩=some v:=(ak (a:=⟨B,o,none⟩) (s.k.block B h.1.1 (fun e=>by
 rcases e with e|e
 ·exact h.2 e
 ·have:=h.1.1;omega))).trans h.1.2
def zq(X:RX)(F:Nat)(cs:Array Value)(d:MD)(u:World)(y v:VD):Prop:=tq F/\∀d3 w3,Sp X d u d3 w3->d3.held.length<=d.held.length+1->Calls Tryz.prog F (#[ptr X.F]++cs) w3 fun e w'=>∃d',e=.returned (.tuple #[iJ y.k y.n y.f y.s y.r,iJ v.k v.n v.f v.s v.r])/\Sp X d3 w3 d' w'/\d'.p=d3.p
def JV(X:RX)(d:MD)(S:TS)(y v:VD)(u:World)(w':World):Prop:=∃K B ta tc la lc a c d',Sp X d u d' w'/\jl X d' ((S.add K B ta tc la lc).put S.nt (uV ((S.add K B ta tc la lc).D S.nt) y v) a c)/\d'.p={d.p.paid 2 with tab:=d'.tab,jA:=d'.jA,tb:=d'.tb,TP:=d'.TP}
theorem ze3(X:RX)(d:MD)(S:TS)(b1 b2 b3 ra ro rc F2:Nat)(cs2:Array Value)(y v:VD)(u:World)(h:St X d u)(o:jl X d S)(k1:Od X b1 #[ptr X.M])(k2:Od X b2 #[.slice (some ⟨ra,ro,none⟩) 1 rc])(kr:Oo X ra ro (iE F2 cs2))(h2:zq X F2 cs2 d u y v)(k3:Od X b3 #[.func (.func 275) #[] #[]])(pW:∀j,j∈S.li->j<S.nt)(hnt:S.nt<=900)(hll:S.li.length<=900)(hce:d.lv+d.sin+2<=X.ce)(yw:d.jc<=90000)(hy1:kc y=0)(hy2:kv y=y)(Xl:y.f<2 ^ 64)(hv0:v.k≠0)(hok:xM 1 1 (jY (fun _=>pz) 0 ⟨y,v,1⟩))(hh:d.held.length<=80000):Calls Tryz.prog 278 #[ptr X.F,ptr b1,ptr b2,ptr b3] u fun e w'=>e=.returned (jr S.nt).v/\JV X d S y v u w':=by
 have HS:Hid (St X d u/\jl X d S/\Od X b1 #[ptr X.M]/\Od X b2 #[.slice (some ⟨ra,ro,none⟩) 1 rc]/\Od X b3 #[.func (.func 275) #[] #[]]/\∀j,j∈S.li->j<S.nt):=⟨h,o,k1,k2,k3,pW⟩;have c1:=(h.old k1.1 k1.2).cell 0 rfl;have l1:=(h.old k1.1 k1.2).1;have HR2:Hid (Oo X ra ro (iE F2 cs2)/\zq X F2 cs2 d u y v/\kc y=0/\kv y=y/\y.f<2 ^ 64/\v.k≠0/\xM 1 1 (jY (fun _=>pz) 0 ⟨y,v,1⟩)):=⟨kr,h2,hy1,hy2,Xl,hv0,hok⟩;go_in;go_wp2_with fail;refine(W9 X d _ (HS.1.alloc _) (by omega) (by omega)).mono ?_;rintro e w1 ⟨rfl,d1,fH,hd1⟩;have o1:jl X d1 S:=⟨(aJ DP.tb hd1).trans HS.2.1.b,(aJ DP.TP hd1).trans HS.2.1.p,(aJ DP.tab hd1).trans HS.2.1.t,(aJ DP.jA hd1).trans HS.2.1.l⟩;obtain⟨b5,eX⟩:∃b5,u.heap.size=b5:=⟨_,rfl⟩;have H1:Hid (Sp X d u d1 w1/\d1.p=d.p.paid 1/\jl X d1 S/\OwnB w1 b5 #[.int .i64 0,.int .i64 0,.float .f64 0,.string ⟨#[]⟩,.int .i64 0]/\¬stB X d1 b5/\u.heap.size<=b5):=by
  rw[<-eX];exact⟨Sp.first HS.1 fH,hd1,o1,fH.g.ownB (OwnB.new _ _ _) (HS.1.other (ah _)),fun e=>HS.1.other (ah _) (fH.mv _ (by simp) e),ah _⟩
 have c1':=(H1.1.s.old HS.2.2.1.1 HS.2.2.1.2).cell 0 rfl;rw[eX];have l1:=(H1.1.s.old HS.2.2.1.1 HS.2.2.1.2).1;go_wp2_with fail;refine(qk4 X d1 S _ H1.1.s H1.2.2.1 HS.2.2.2.2.2 hnt hll).mono ?_;rintro e w2 ⟨K,B,ta,tc,la,lc,rfl,nK,fJ⟩;obtain⟨d2,hd2⟩:∃d2:MD,d1.tabs (.slice ta (S.nt+1) tc) (.slice la (S.li.length+1) lc) d1.jc d1.sin d1.lv d1.ro (S.add K B ta tc la lc).tb (iU X.N (S.add K B ta tc la lc))=d2:=⟨_,rfl⟩;rw[hd2] at fJ;have H2:Hid (Sp X d u d2 w2/\jl X d2 (S.add K B ta tc la lc)/\d2.p={d.p.paid 1 with tab:=d2.tab,jA:=d2.jA,tb:=d2.tb,TP:=d2.TP}/\OwnB w2 b5 #[.int .i64 0,.int .i64 0,.float .f64 0,.string ⟨#[]⟩,.int .i64 0]/\¬stB X d2 b5/\u.heap.size<=b5):=by
  have nb:¬stB X d1 b5:=H1.2.2.2.2.1;refine⟨H1.1.trans fJ,by rw[<-hd2];exact⟨rfl,rfl,rfl,by simp[TS.add]⟩,?_,fJ.g.ownB H1.2.2.2.1 nb,fun e=>nb (fJ.mv b5 H1.2.2.2.1.1.1 e),H1.2.2.2.2.2⟩;have q:d2.p={d1.p with tab:=d2.tab,jA:=d2.jA,tb:=d2.tb,TP:=d2.TP}:=by rw[<-hd2];rfl
  rw[q,H1.2.1]
 have HK:Hid (∀w,gZ w2 w->K<w.heap.size/\w.cell? ⟨K,3,none⟩=some (.int .i64 (S.nt:Int))):=fun w hw=>by
  have h0:=((H2.2.1.is (H2.1.s.call hw)).k S.nt (by show S.nt<S.nt+1;omega)).1;simp only[TS.add,rX,if_true] at h0;exact⟨h0.1.1,h0.1.cell 3 rfl⟩
 have hh2:d2.held.length<=80000:=by
  have:d2.held=d.held:=aJ DP.held H2.2.2.1;rw[this];exact hh
 go_upto_region 3 with fail
 go_cut [] from 15 (fun w=>∃d3,Hid (Sp X d2 w2 d3 w/\d3.p=d2.p.hold [jr S.nt]))
 case first=>
  have KE:Hid (∀w,gZ w2 w->w.cell? ⟨X.F,0,none⟩=some (ptr X.T)):=fun w hw=>(H2.1.s.call hw).f.1.cell 0 rfl;have S0:=KE.out w2.drew ((ay _ _).drew)
  go_region_held3 (fun w'=>w'.cell? ⟨X.F,0,none⟩=some (ptr X.T)) (first|(with_reducible exact S0)|(with_reducible exact S4)|(with_reducible exact Yo)|(with_reducible exact S5)) (first
   |(go_at_call 264;refine(O6 K (S.nt:Int) _ (HK w2.drew ((ay _ _).drew)).1 (HK w2.drew ((ay _ _).drew)).2).mono ?_;rintro e w4 ⟨rfl,eU⟩;have HB4:Hid (gZ w2 w4):=iq ((ay _ _).drew) eU;have S4:=KE.out w4 HB4.out;have Yo:=KE.out (w4.alloc (.cells (vA (jr S.nt)) 61)) (HB4.alloc HB4.size _))
   |(go_at_call 194;refine(L8 X d2 w4.heap.size (jr S.nt) _ ((H2.1.s.call HB4.out).alloc _) (by omega) (Has.new _ _ _)).mono ?_;rintro e w5 ⟨rfl,d5,fP,hd5⟩;have YD:Hid (Sp X d2 w2 d5 w5/\d5.p=d2.p.hold [jr S.nt]):=⟨((Sp.below H2.1.s HB4.out).alloc _).trans fP,hd5⟩;have S5:w5.cell? ⟨X.F,0,none⟩=some (ptr X.T):=fP.s.f.1.cell 0 rfl))
  all_goals
   go_wp2_with fail
   go_meet
   case rel=>exact⟨_,YD⟩
 case rest=>
  obtain⟨d3,H3⟩:=hcut
  rename World=>w3
  have c2:=(H3.1.s.old HS.2.2.2.1.1 HS.2.2.2.1.2).cell 0 rfl;have l2:=(H3.1.s.old HS.2.2.2.1.1 HS.2.2.2.1.2).1;have c2r:=HR2.1.at H3.1.s;have l2r:ra<w3.heap.size:=aH HR2.1.1.1 H3.1.s.k.size;have sJ:∀args w,(callFunc F2 args).run Tryz.prog w=.ok (.enter F2 args) w:=HR2.2.1.1;have HC2:Hid (Calls Tryz.prog F2 (#[ptr X.F]++cs2) w3 fun e w'=>∃d',e=.returned (.tuple #[iJ y.k y.n y.f y.s y.r,iJ v.k v.n v.f v.s v.r])/\Sp X d3 w3 d' w'/\d'.p=d3.p):=HR2.2.1.2 d3 w3 (H2.1.trans H3.1) (by have e:d3.p=d2.p.hold [jr S.nt]:=H3.2;rw[H2.2.2.1] at e;have e2:d3.held=d.held++[jr S.nt]:=aJ DP.held e;rw[e2];simp);go_wp2_with fail;refine bW 2 ?_;rw[bC];go_wp2_with fail;refine HC2.mono ?_;rintro e KP ⟨Cb,rfl,Xw,e3a⟩;have Hf:Hid (Sp X d2 w2 Cb KP/\Cb.p=d2.p.hold [jr S.nt]):=⟨H3.1.trans Xw,e3a.trans H3.2⟩
  go_upto_region 8 with fail
  obtain⟨D5,OA⟩:∃D5,(KP.alloc (.cells #[.int .i64 y.k,.int .i64 y.n,.float .f64 y.f,.string y.s,.int .i64 y.r] 61)).alloc (.cells #[.int .i64 v.k,.int .i64 v.n,.float .f64 v.f,.string v.s,.int .i64 v.r] 61)=D5:=⟨_,rfl⟩;obtain⟨B9,hB9⟩:∃B9,KP.heap.size=B9:=⟨_,rfl⟩;obtain⟨B10,P8⟩:∃B10,KP.heap.size+1=B10:=⟨_,rfl⟩;have hB:gZ KP D5/\OwnB D5 B9 (vA y)/\OwnB D5 B10 (vA v):=by
   rw[<-OA,<-hB9,<-P8];exact⟨(q01 _ _).alloc (by rw[aN];omega) _,(OwnB.new _ _ _).iy (q01 _ _),zN _ _ _ _⟩
  rw[OA,P8,hB9];have o3:jl X Cb (S.add K B ta tc la lc):=by
   have o2:=H2.2.1;have e:=Hf.2;exact⟨(aJ DP.tb e).trans o2.b,(aJ DP.TP e).trans o2.p,(aJ DP.tab e).trans o2.t,(aJ DP.jA e).trans o2.l⟩
  have EG:Sp X d2 w2 Cb D5:=Hf.1.call hB.1;have hD:(S.add K B ta tc la lc).D S.nt=⟨0,0,fun _=>pz⟩:=by simp[TS.add]
  have a07:Cb.sin=d.sin+1/\Cb.lv=d.lv/\Cb.jc=d.jc+1:=by
   have e:Cb.p=d2.p.hold [jr S.nt]:=Hf.2;have e2:=H2.2.2.1;rw[e2] at e;exact⟨aJ DP.sin e,aJ DP.lv e,aJ DP.jc e⟩
  have Fa:Hid (Calls Tryz.prog 280 #[ptr X.M,ptr ((S.add K B ta tc la lc).K S.nt),iJ y.k y.n y.f y.s y.r,iJ v.k v.n v.f v.s v.r] D5 fun e w'=>e=.returned (.tuple #[])/\DR X Cb (S.add K B ta tc la lc) S.nt y v D5 w'):=z42 X Cb (S.add K B ta tc la lc) S.nt y v D5 EG.s o3 (by show S.nt<S.nt+1;omega) HR2.2.2.1 HR2.2.2.2.1 HR2.2.2.2.2.1 HR2.2.2.2.2.2.1 (by rw[hD];show 0<500;omega) (by rw[hD];show(0:Int)<1000000000000;omega) (by rw[hD];rfl) (by omega) (by omega) (by rw[hD];exact HR2.2.2.2.2.2.2);have eK:(S.add K B ta tc la lc).K S.nt=K:=by simp[TS.add]
  rw[eK] at Fa;have y0:=hB.2.1.1.cell 0 rfl;have y1:=hB.2.1.1.cell 1 rfl;have y2:=hB.2.1.1.cell 2 rfl;have y3:=hB.2.1.1.cell 3 rfl;have y4:=hB.2.1.1.cell 4 rfl;have ly:=hB.2.1.1.1;have v0:=hB.2.2.1.cell 0 rfl;have v1:=hB.2.2.1.cell 1 rfl;have v2:=hB.2.2.1.cell 2 rfl;have v3:=hB.2.2.1.cell 3 rfl;have v4:=hB.2.2.1.cell 4 rfl;have lv:=hB.2.2.1.1;have m1:=(EG.s.old HS.2.2.1.1 HS.2.2.1.2).cell 0 rfl;have lm1:=(EG.s.old HS.2.2.1.1 HS.2.2.1.2).1;have YE:Hid (Sp X d2 w2 Cb D5):=EG;go_wp2_with fail;refine Fa.mono ?_;rintro e w3c ⟨rfl,Yi,Yg,uD,Xv,OI,Xy⟩;obtain⟨S',hS'⟩:∃S',(S.add K B ta tc la lc).put S.nt (uV ((S.add K B ta tc la lc).D S.nt) y v) Yi Yg=S':=⟨_,rfl⟩;rw[hS'] at OI;have HSx:Hid (S'=(S.add K B ta tc la lc).put S.nt (uV ((S.add K B ta tc la lc).D S.nt) y v) Yi Yg):=hS'.symm;have H3:Hid (Sp X d2 w2 uD w3c/\jl X uD S'/\uD.p={(d2.p.hold [jr S.nt]).paid 1 with tb:=uD.tb,TP:=uD.TP}):=⟨YE.trans Xv,OI,by rw[Xy,Hf.2]⟩;go_wp2_with fail;rw[bC];have c3:=(H3.1.s.old HS.2.2.2.2.1.1 HS.2.2.2.2.1.2).cell 0 rfl;have l3:=(H3.1.s.old HS.2.2.2.2.1.1 HS.2.2.2.2.1.2).1;have f0:w3c.cell? ⟨X.F,0,none⟩=some (ptr X.T):=H3.1.s.f.1.cell 0 rfl;have lF:=H3.1.s.f.1.1;have hl3:uD.held=d2.held++[jr S.nt]:=aJ DP.held H3.2.2;have GY:Hid (uD.held=d2.held++[jr S.nt]):=hl3;have gG:uD.held.length<=90000/\1<=uD.held.length:=by rw[hl3];simp;omega
  go_wp2_with (go_at_call 275;refine(qk3 X.F K _).mono ?_;rintro e w4 ⟨rfl,rfl⟩);have hrel:=Gp X uD 1 w4 H3.1.s gG.2 (by omega);refine hrel.mono ?_;rintro e w5 ⟨rfl,d5,fP,hd5⟩;have H5:Hid (Sp X d u d5 w5/\jl X d5 S'/\d5.p={d.p.paid 2 with tab:=d5.tab,jA:=d5.jA,tb:=d5.tb,TP:=d5.TP}/\OwnB w5 b5 #[.int .i64 0,.int .i64 0,.float .f64 0,.string ⟨#[]⟩,.int .i64 0]/\¬stB X d5 b5/\u.heap.size<=b5):=by
   have e5:d5.p={d2.p.paid 1 with tb:=uD.tb,TP:=uD.TP}:=by
    rw[hd5,H3.2.2];show({d2.p.paid 1 with held:=(d2.held++[jr S.nt]).take (uD.held.length-1),tb:=uD.tb,TP:=uD.TP}:DP)=_;rw[GY.out];simp;rfl
   have n3:¬stB X uD b5:=fun e=>H2.2.2.2.2.1 (H3.1.mv b5 H2.2.2.2.1.1.1 e);have b3:=H3.1.g.ownB H2.2.2.2.1 H2.2.2.2.2.1;have o2:=H3.2.1;have et:d5.tab=d2.tab:=aJ DP.tab e5;have el:d5.jA=d2.jA:=aJ DP.jA e5;have eb:d5.tb=uD.tb:=aJ DP.tb e5;have eP:d5.TP=uD.TP:=aJ DP.TP e5;have et3:uD.tab=d2.tab:=aJ DP.tab H3.2.2;have el3:uD.jA=d2.jA:=aJ DP.jA H3.2.2;refine⟨(H2.1.trans H3.1).trans fP,⟨eb.trans o2.b,eP.trans o2.p,(et.trans et3.symm).trans o2.t,(el.trans el3.symm).trans o2.l⟩,?_,fP.g.ownB b3 n3,fun e=>n3 (fP.mv b5 b3.1.1 e),H2.2.2.2.2.2⟩;rw[e5,H2.2.2.1,et,el,eb,eP];rfl
  have hk5:K<w5.heap.size/\w5.cell? ⟨K,3,none⟩=some (.int .i64 (S.nt:Int)):=by
   have hS:=HSx.out;have h0:=((H5.2.1.is H5.1.s).k S.nt (by rw[hS];show S.nt<S.nt+1;omega)).1;have eK:S'.K S.nt=K:=by rw[hS];simp[TS.put,TS.add]
   rw[eK] at h0;exact⟨h0.1.1,h0.1.cell 3 rfl⟩
  go_wp2_with fail;refine(O6 K (S.nt:Int) _ hk5.1 hk5.2).mono ?_;rintro e w6 ⟨rfl,eY⟩;have hO:=H5.2.2.2.1.iy eY;have r0:=hO.1.cell 0 rfl;have r1:=hO.1.cell 1 rfl;have r2:=hO.1.cell 2 rfl;have r3:=hO.1.cell 3 rfl;have r4:=hO.1.cell 4 rfl;have rz:=hO.2;have rl:=hO.1.1;have H6:Hid (Sp X d u d5 w6):=H5.1.call eY;go_wp2_with fail;refine aG (v:=(jr S.nt).v) (by simp[results,Tryz.results278,go_sem,r0,r1,r2,r3,r4]) rfl ⟨rfl,⟨K,B,ta,tc,la,lc,Yi,Yg,d5,?_,by rw[<-HSx.out];exact H5.2.1,H5.2.2.1⟩⟩;refine Sp.beside HS.1 H6 (g:=b5) ?_ H5.2.2.2.2.2 H5.2.2.2.2.1;exact((((Gx.set _ _ _ _).trans (Gx.set _ _ _ _) (fun _ _ e=>e)).trans (Gx.set _ _ _ _) (fun _ _ e=>e)).trans (Gx.set _ _ _ _) (fun _ _ e=>e)).trans (Gx.set _ _ _ _) (fun _ _ e=>e)
end
section
open Go.RowKit
section
variable {S:TS}{n p kept ro:Nat}
theorem j37:(rE S p kept ro).S 0=S/\(rE S p kept ro).row 0=[jT 7 0]/\(rE S p kept ro).cells 0=0/\(rE S p kept ro).wt 0=[]:=⟨rfl,rfl,by simp[rE],by simp[rE]⟩
theorem RG{s:Nat}(h0:0<s)(h:s<kept+2):(rE S p kept ro).S s=S.jD (jS kept) ro/\(rE S p kept ro).row s=((jS kept).take (kept+2-s)).map (fun t:Nat=>jT 5 (t:Int))/\(rE S p kept ro).cells s=s-1/\(rE S p kept ro).wt s=[]:=by
 have h1:s≠0:=by omega
 refine⟨?_,?_,?_,?_⟩<;>simp[rE,RI,h1,h]
theorem j35:(rE S p kept ro).S (kept+2)=(S.jD (jS kept) ro).ng 1 ro/\(rE S p kept ro).row (kept+2)=[jT 5 1]/\(rE S p kept ro).cells (kept+2)=kept+(1+p)/\(rE S p kept ro).wt (kept+2)=nU (yc kept) rW p:=by
 refine⟨?_,?_,?_,?_⟩<;>simp[rE,RI]
theorem j36:(rE S p kept ro).S (kept+3)=(S.jD (jS kept) ro).ng 1 ro/\(rE S p kept ro).row (kept+3)=[]/\(rE S p kept ro).cells (kept+3)=kept+(1+p)+2/\(rE S p kept ro).wt (kept+3)=nU (yc kept) rW p:=by
 refine⟨?_,?_,?_,?_⟩<;>simp[rE,RI]
end
structure JG(X:RX)(d:MD):Prop where
 fl:X.fl=1
 h:∀v,v∈d.held->mX v
 hn:d.held.length<=100000
 c:mX X.cal
 r:∃ra rc,X.rest=.slice ra 0 rc
theorem yg6(X:RX)(d:MD)(S:TS)(n p kept ro:Nat)(hW:nJ S n p)(hp:p<=n)(hk:kept<=p)(hn:n<=400)(oQ:∀j,j<p+2->S.tv j=ptr (S.K j))(hse:∀j,S.se j≠ro)(hro:d.ro=ro)(hX:JG X d)(R Q:Nat):(rE S p kept ro).step X R Q d (jS kept) (kept+3):=by
 obtain⟨ra,rc,hrest⟩:=hX.r;have hl:=Uw kept;intro s hs;by_cases s0:s=0
 ·subst s0;obtain⟨e1,e2,e3,e4⟩:=j37 (S:=S) (p:=p) (kept:=kept) (ro:=ro);obtain⟨f1,f2,f3,f4⟩:=RG (S:=S) (p:=p) (kept:=kept) (ro:=ro) (s:=0+1) (by omega) (by omega);rw[e1,e2,e3,e4,f1,f2,f3,f4];refine⟨by show 1<=_;omega,[],7,0,rfl,fun d' a c w' hd hz hV=>?_⟩;refine qb2 X R Q S d' _ w' (fun w''=>jv X R Q d' ⟨[],a,c,0,[]⟩ w' (S.jD (jS kept) ro) (((jS kept).take (kept+2-(0+1))).map (fun t:Nat=>jT 5 (t:Int))) (0+1-1) [] ro w'') 7 0 hz (fun c=>nomatch c) (.inr ⟨rfl,rfl,fun w'' hpp hzz=>?_⟩);have vg:d'.ro=ro:=by rw[hd];exact hro
  have yh:d'.se=ro:=by rw[hd];rfl
  have hh':d'.held=d.held:=by rw[hd]
  refine(qo4 X R Q S d' ⟨[],a,c,0,[]⟩ w'' (jS kept) ra rc hzz hX.fl (by rw[hh'];exact hX.h) (by rw[hh'];exact hX.hn) hX.c hrest (hV.step (e1:=d'.se) hpp rfl) (y42 kept) (fun t ht=>?_) (by show 0+_<=_;omega)).mono ?_
  ·rw[hW.nt,vg];rcases kJ.1 ht with h|h
   ·exact⟨by omega,oQ t (by omega),hse t⟩
   ·exact⟨by omega,oQ t (by omega),hse t⟩
  ·rintro e w3 ⟨rfl,hz3⟩;rw[vg,yh] at hz3;refine⟨rfl,jv.then (e1:=d'.se) hpp rfl ?_⟩;have e:(jS kept).take (kept+2-(0+1))=jS kept:=List.take_of_length_le (by omega);rw[e];exact hz3
 ·by_cases s1:s<kept+1
  ·obtain⟨e1,e2,e3,e4⟩:=RG (S:=S) (p:=p) (kept:=kept) (ro:=ro) (s:=s) (by omega) (by omega);obtain⟨f1,f2,f3,f4⟩:=RG (S:=S) (p:=p) (kept:=kept) (ro:=ro) (s:=s+1) (by omega) (by omega);rw[e1,e2,e3,e4,f1,f2,f3,f4];obtain⟨i,hi⟩:∃i,kept-s=i:=⟨_,rfl⟩;have gJ:((jS kept).take (kept+2-s)).map (fun t:Nat=>jT 5 (t:Int))=((jS kept).take (kept+2-(s+1))).map (fun t:Nat=>jT 5 (t:Int))++[jT 5 ((i+2:Nat):Int)]:=by
    have h1:kept+2-s=(i+1)+1:=by omega
    have h2:kept+2-(s+1)=i+1:=by omega
    rw[h1,h2,List.take_add_one,yq9 (show i<kept by omega),bH];rfl
   refine⟨by rw[dK,dG];omega,_,5,((i+2:Nat):Int),gJ,fun d' a c w' hd hz hV=>?_⟩;obtain⟨r1,fG⟩:∃r1,((jS kept).take (kept+2-(s+1))).map (fun t:Nat=>jT 5 (t:Int))=r1:=⟨_,rfl⟩;have a08:r1.length<=1000:=by rw[<-fG,dK,dG];omega
   rw[fG] at hz hV ⊢;have vg:d'.ro=ro:=by rw[hd];exact hro
   have yh:d'.se=ro:=by rw[hd];rfl
   have hW1:nJ (S.jD (jS kept) ro) n p:=hW.sees _;have hnt:i+2<n+2:=by omega
   refine qb2 X R Q _ d' _ w' (fun w''=>jv X R Q d' ⟨r1,a,c,s-1,[]⟩ w' (S.jD (jS kept) ro) r1 (s+1-1) [] ro w'') 5 _ hz (fun c=>nomatch c) (.inl ⟨rfl,i+2,rfl,by rw[hW1.nt];exact hnt,oQ _ (by omega),fun w'' hpp hzz=>?_⟩);obtain⟨w1,w2⟩:=hW1.Bq (j:=i+2) (by omega) hnt;refine(X6 X R Q _ d' ⟨r1,a,c,s-1,[]⟩ w'' (i+2) none false (fun _=>true) rW 0 (hW1.pe _ (by omega) hnt) hzz (by rw[hW1.nt];exact hnt) w1 (fun j e=>nomatch e) (fun d2 w2' fJ ho2=>NY X d2 _ (i+2) none false w2' fJ ho2 (by show i+2<(S.jD (jS kept) ro).nt;rw[hW1.nt];exact hnt) w1 w2) (j71 (S:=S.jD (jS kept) ro) hW1 (by omega) hnt _) (by show r1.length<=_;omega) (by show s-1<=_;omega) (by omega)).mono ?_;rintro e w3 ⟨rfl,hz3⟩;refine⟨rfl,jv.then (e1:=d'.se) hpp rfl ?_⟩;rw[yh,zs1] at hz3;simp only[uN,bM] at hz3;have e:s-1+(1+0)=s+1-1:=by omega
   rw[e] at hz3;exact hz3
  ·by_cases s2:s=kept+1
   ·subst s2;obtain⟨e1,e2,e3,e4⟩:=RG (S:=S) (p:=p) (kept:=kept) (ro:=ro) (s:=kept+1) (by omega) (by omega);obtain⟨f1,f2,f3,f4⟩:=j35 (S:=S) (p:=p) (kept:=kept) (ro:=ro);rw[e1,e2,e3,e4,f1,f2,f3,f4];refine⟨by rw[dK,dG];omega,[],5,((0:Nat):Int),?_,fun d' a c w' hd hz hV=>?_⟩
    ·have:kept+2-(kept+1)=1:=by omega
     rw[this];rfl
    ·have vg:d'.ro=ro:=by rw[hd];exact hro
     have yh:d'.se=ro:=by rw[hd];rfl
     have hW1:nJ (S.jD (jS kept) ro) n p:=hW.sees _;refine qb2 X R Q _ d' _ w' (fun w''=>jv X R Q d' ⟨[],a,c,kept+1-1,[]⟩ w' ((S.jD (jS kept) ro).ng 1 ro) [jT 5 1] (kept+(1+p)) (nU (yc kept) rW p) ro w'') 5 _ hz (fun c=>nomatch c) (.inl ⟨rfl,0,rfl,by rw[hW1.nt];omega,oQ _ (by omega),fun w'' hpp hzz=>?_⟩);have hW2:nJ ((S.jD (jS kept) ro).ng 1 ro) n p:=hW.sees _;obtain⟨w1,w2⟩:=hW1.wE;obtain⟨x1,x2⟩:=hW2.wE;refine(X6 X R Q _ d' ⟨[],a,c,kept+1-1,[]⟩ w'' 0 (some 1) true (yc kept) rW p hW1.p0 hzz (by rw[hW1.nt];omega) w1 (fun j e=>?_) (fun d2 w2' fJ ho2=>?_) ?_ (by show 0<=_;omega) (by show kept+1-1<=_;omega) (by omega)).mono ?_
     ·cases e;rw[hW1.nt,vg];refine⟨by omega,oQ 1 (by omega),?_⟩;show(if 1∈jS kept then ro else S.se 1)≠ro;rw[au (fun h=>by rcases kJ.1 h with h|h<;>omega)];exact hse 1
     ·rw[vg] at ho2;exact NY X d2 ((S.jD (jS kept) ro).ng 1 ro) 0 (some 1) true w2' fJ ho2 (by rw[hW2.nt];omega) x1 x2
     ·rw[vg];exact j73 (S:=(S.jD (jS kept) ro).ng 1 ro) hW2 hp oQ (fun i _=>yy0 S kept ro i hse)
     ·rintro e w3 ⟨rfl,hz3⟩;refine⟨rfl,jv.then (e1:=d'.se) hpp rfl ?_⟩;rw[yh,vg] at hz3;exact hz3
   ·obtain rfl:s=kept+2:=by omega
    obtain⟨e1,e2,e3,e4⟩:=j35 (S:=S) (p:=p) (kept:=kept) (ro:=ro);obtain⟨f1,f2,f3,f4⟩:=j36 (S:=S) (p:=p) (kept:=kept) (ro:=ro);rw[e1,e2,e3,e4,f1,f2,f3,f4];refine⟨by show 1<=_;omega,[],5,((1:Nat):Int),rfl,fun d' a c w' hd hz hV=>?_⟩;have vg:d'.ro=ro:=by rw[hd];exact hro
    have yh:d'.se=ro:=by rw[hd];rfl
    have hW2:nJ ((S.jD (jS kept) ro).ng 1 ro) n p:=hW.sees _;refine qb2 X R Q _ d' _ w' (fun w''=>jv X R Q d' ⟨[],a,c,kept+(1+p),nU (yc kept) rW p⟩ w' ((S.jD (jS kept) ro).ng 1 ro) [] (kept+(1+p)+2) (nU (yc kept) rW p) ro w'') 5 _ hz (y38 kept p) (.inl ⟨rfl,1,rfl,by rw[hW2.nt];omega,oQ _ (by omega),fun w'' hpp hzz=>?_⟩);obtain⟨x1,x2⟩:=hW2.Bq (j:=1) (by omega) (by omega);refine(X6 X R Q _ d' ⟨[],a,c,kept+(1+p),nU (yc kept) rW p⟩ w'' 1 none false (fun _=>true) (fun _=>1) 1 hW2.p1 hzz (by rw[hW2.nt];omega) x1 (fun j e=>nomatch e) (fun d2 w2' fJ ho2=>NY X d2 _ 1 none false w2' fJ ho2 (by show 1<((S.jD (jS kept) ro).ng 1 ro).nt;rw[hW2.nt];omega) x1 x2) (j72 (S:=(S.jD (jS kept) ro).ng 1 ro) hW2 (y38 kept p)) (by show 0<=_;omega) (by show kept+(1+p)<=_;omega) (by omega)).mono ?_;rintro e w3 ⟨rfl,hz3⟩;refine⟨rfl,jv.then (e1:=d'.se) hpp rfl ?_⟩;rw[yh,zs1] at hz3;simp only[uN,bM] at hz3;exact hz3
theorem qq2(X:RX)(d:MD)(S:TS)(u:World)(n p kept:Nat)(h:St X d u)(o:jl X d S)(k:lX X d u)(hV:qB X d u (jS kept))(hW:nJ S n p)(hp:p<=n)(hk:kept<=p)(hn:n<=400)(oQ:∀j,j<p+2->S.tv j=ptr (S.K j))(hse:∀j,S.se j<=d.ro)(hds:d.se<=d.ro)(hro:d.ro<=1000)(hX:JG X d):Calls Tryz.prog 303 #[ptr X.M] u fun e w'=>∃R Q,e=.returned (ptr R)/\Reached X d u ((S.jD (jS kept) (d.ro+1)).ng 1 (d.ro+1)) (kept+(1+p)+2) (nU (yc kept) rW p) (d.ro+1) R Q w':=by
 obtain⟨e1,e2,e3,e4⟩:=j37 (S:=S) (p:=p) (kept:=kept) (ro:=d.ro+1);obtain⟨f1,f2,f3,f4⟩:=j36 (S:=S) (p:=p) (kept:=kept) (ro:=d.ro+1);have:=zm4 X d S u (jS kept) (rE S p kept (d.ro+1)) (kept+3) h o k hV (by omega) hro ⟨e1,e2,e3,e4,rfl⟩ f2 (fun R Q=>yg6 X {d with ro:=d.ro+1} S n p kept (d.ro+1) hW hp hk hn oQ (fun j e=>by have:=hse j;omega) rfl ⟨hX.fl,hX.h,hX.hn,hX.c,hX.r⟩ R Q);rw[f1,f3,f4] at this;exact this
end
end Go.Proofs.YthnkncpegihbhaaGreatDoor
