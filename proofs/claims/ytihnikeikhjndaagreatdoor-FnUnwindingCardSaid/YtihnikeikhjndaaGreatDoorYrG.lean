import Derived.Test.YtihnikeikhjndaaGreatDoorYrA
import Derived.Test.YtihnikeikhjndaaGreatDoorYpS
set_option maxRecDepth 100000
set_option maxHeartbeats 16000000
namespace Go.Proofs.YtihnikeikhjndaaGreatDoor
section
open Go.RowKit
attribute [local go_sem] aN
attribute [local go_sem ↓] Go.wp_at_zero Go.wp_at_succ
theorem qu8(M:Nat)(s:ByteArray)(u:World):Calls Tryz.prog 95 #[ptr M,dI 4 0 0 s 0] u fun e w'=>e=.returned (.pointer none)/\ah u w':=by
 have b0:Hid (ah u (u.alloc (.cells (vA (fE s)) 53))):=q01 _ _;go_in;go_wp2_with fail;go_ret;exact⟨rfl,b0.out⟩
theorem WQ(M:Nat)(s:ByteArray)(u:World)(hs:s.size<=1000):Calls Tryz.prog 56 #[ptr M,dI 4 0 0 s 0] u fun e w'=>e=.returned (.string s)/\ah u w':=by
 have HB0:Hid (ah u (u.alloc (.cells (vA (fE s)) 53))):=q01 _ _;have Yz:Hid (OwnB (u.alloc (.cells (vA (fE s)) 53)) u.heap.size (vA (fE s))):=OwnB.new _ _ _;go_in;go_wp2_with fail;refine(qu8 M s _).mono ?_;rintro e w1 ⟨rfl,hb1⟩;have HB1:Hid (ah u w1):=aH HB0.out hb1;obtain⟨b0,b1,b2,b3,b4⟩:=oq (Yz.call hb1);have l1:u.heap.size<w1.heap.size:=(Yz.call hb1).1.1;clear hb1;go_wp2_with fail;refine(WO s w1 (by omega)).mono ?_;rintro e w2 ⟨rfl,hb2⟩;have HB2:Hid (ah u w2):=aH HB1.out hb2;clear hb2 b0 b1 b2 b3 b4 l1;go_wp2_with fail;go_ret;exact⟨rfl,HB2⟩
theorem z47(X:RX)(s tr:ByteArray)(hs:s.size<=1000)(d:MD)(u:World)(h:St X d u)(hn:d.recs.length<5000)(hTr:∀w1,ah u w1->Calls Tryz.prog 236 #[ptr X.M] w1 fun e w'=>e=.returned (.string tr)/\ah w1 w'):Calls Tryz.prog 185 #[ptr X.M,dI 4 0 0 s 0] u fun e w'=>∃E d',e=.returned (ptr E)/\u.heap.size<=E/\fB X d' w' E (Ea (fE s) tr)/\Sp X d u d' w'/\d'.p=d.p.gU ⟨4,0,X.fn,d.line,s⟩:=by
 have HS:Hid (St X d u):=h;have iF:Hid (∀w1,ah u w1->Calls Tryz.prog 236 #[ptr X.M] w1 fun e w'=>e=.returned (.string tr)/\ah w1 w'):=hTr;have HD:Hid (∀w1,ah u w1->Calls Tryz.prog 56 #[ptr X.M,dI 4 0 0 s 0] w1 fun e w'=>e=.returned (.string s)/\ah w1 w'):=fun w1 _=>WQ X.M s w1 hs;have HR:Hid (∀w1,ah u w1->Calls Tryz.prog 149 #[ptr X.M,.int .i64 4,.int .i64 X.fn,.int .i64 d.line,.string s] w1 fun e w'=>e=.returned (.tuple #[])/\To X d w1 (d.p.gU ⟨4,0,X.fn,d.line,s⟩) w'):=fun w1 hb=>Du X d 4 X.fn d.line s w1 (h.call hb) hn;have HH:Hid (∀w1,ah u w1->Calls Tryz.prog 235 #[ptr X.T] w1 fun e w'=>e=.returned (.tuple #[.int .i64 X.fn,.int .i64 d.line])/\ah w1 w'):=fun w1 hb=>Ll X d w1 (h.call hb);have m23:u.cell? ⟨X.M,23,none⟩=some (ptr X.T):=h.m.1.cell 23 rfl;have kU:=h.m.1.1;clear h hn hTr;generalize d.line=ln at *;go_in;go_wp2_with fail;refine(HH _ (q01 _ _)).mono ?_;rintro e w1 ⟨rfl,hb1⟩;have HO:Hid (OwnB w1 u.heap.size (vA (fE s))):=(OwnB.new u _ _).call hb1;have HB:Hid (ah u w1):=aH (q01 _ _) hb1;clear hb1 m23 kU
 go_upto_region 2 with fail
 go_region_held3 (fun w'=>w'.cell? ⟨u.heap.size,0,none⟩=some (.int .i64 4)/\w'.cell? ⟨u.heap.size,1,none⟩=some (.int .i64 0)/\w'.cell? ⟨u.heap.size,2,none⟩=some (.float .f64 0)/\w'.cell? ⟨u.heap.size,3,none⟩=some (.string s)/\w'.cell? ⟨u.heap.size,4,none⟩=some (.int .i64 0)) (first|(with_reducible exact oq HO.out)|(with_reducible exact oq HO.out.drew)|(with_reducible exact oq (HO.out.call (q01 _ _)))) ((go_at_call 236;refine(iF.out _ (by first|exact HB.out|exact HB.out.drew)).mono ?_;rintro e w2 ⟨rfl,hb2⟩;replace HO:Hid (OwnB w2 u.heap.size (vA (fE s))):=(by first|exact HO.out.call hb2|exact HO.out.drew.call hb2);replace HB:Hid (ah u w2):=(by first|exact aH HB.out hb2|exact aH HB.out.drew hb2);clear hb2))
 go_upto_region 3 with fail
 obtain⟨w3,hw3⟩:∃w3,w2.alloc (.cells (Ea (fE s) tr) 134)=w3:=⟨_,rfl⟩;have SK:Hid (OwnB w3 w2.heap.size (Ea (fE s) tr)):=by rw[<-hw3];exact OwnB.new w2 _ _
 have Fq:Hid (OwnB w3 u.heap.size (vA (fE s))):=by rw[<-hw3];exact HO.call (q01 _ _)
 have HB3:Hid (ah u w3):=by rw[<-hw3];exact aH HB (q01 _ _)
 have HL:Hid (u.heap.size<=w2.heap.size):=HB.size;rw[hw3] at *;clear hw3 HO HB;generalize w2.heap.size=E at *;obtain⟨b0,b1,b2,b3,b4⟩:=oq Fq.out;go_wp2_with fail;refine(HD _ HB3).mono ?_;rintro e w4 ⟨rfl,hb4⟩;have JL:Hid (OwnB w4 E (Ea (fE s) tr)):=SK.call hb4;have HB4:Hid (ah u w4):=aH HB3.out hb4;clear hb4 b0 b1 b2 b3 b4;go_wp2_with fail;refine(HR _ HB4).mono ?_;rintro e w5 ⟨rfl,d5,hs5,e5⟩;have hn4:¬stB X d E:=fun c=>by
  have h1:=HS.lt c;have h2:=HL.out;omega
 have FH:Hid (fB X d5 w5 E (Ea (fE s) tr)):=⟨hs5.g.ownB JL.out hn4,fun c=>hn4 (hs5.mv E JL.1.1 c)⟩;have Jw:Hid (Sp X d u d5 w5/\d5.p=d.p.gU ⟨4,0,X.fn,ln,s⟩):=⟨(Sp.below HS.out HB4.out).trans hs5,e5⟩;clear hs5 e5 hn4;go_wp2_with fail;go_ret;exact⟨E,d5,rfl,HL,FH,Jw.1,Jw.2⟩
abbrev Gh(a b:Nat):Value:=.func (.func 184) #[] #[ptr a,ptr b]
theorem y79(X:RX)(d:MD)(x1 x2 bb pc:Nat)(nd:Value)(s tr:ByteArray)(u:World)(h:St X d u)(hs:s.size<=1000)(k1:Od X x1 #[ptr bb])(kb:Od X bb #[ptr X.M,nd])(k2:Od X x2 #[jP pc])(kc:Od X pc (vA (fE s)))(hn:d.recs.length<5000)(hTr:∀w1,ah u w1->Calls Tryz.prog 236 #[ptr X.M] w1 fun e w'=>e=.returned (.string tr)/\ah w1 w'):Calls Tryz.prog 184 #[ptr X.F,ptr x1,ptr x2] u fun e w'=>bG X d u (iD X u.heap.size (Fe s) tr (d.p.gU ⟨4,0,X.fn,d.line,s⟩) (fun d' _=>d'.df=d.df)) e w':=by
 have HS:Hid (St X d u):=h;have HO:Hid (Od X x1 #[ptr bb]/\Od X bb #[ptr X.M,nd]/\Od X x2 #[jP pc]/\Od X pc (vA (fE s))):=⟨k1,kb,k2,kc⟩;have iF:Hid (∀w1,ah u w1->Calls Tryz.prog 236 #[ptr X.M] w1 fun e w'=>e=.returned (.string tr)/\ah w1 w'):=hTr;have HN:Hid (d.recs.length<5000/\s.size<=1000):=⟨hn,hs⟩;have HK:Hid (∀w',St X d w'->w'.cell? ⟨x1,0,none⟩=some (ptr bb)/\w'.cell? ⟨bb,0,none⟩=some (ptr X.M)/\w'.cell? ⟨x2,0,none⟩=some (jP pc)):=fun w' k=>⟨(k1.at k).cell 0 rfl,(kb.at k).cell 0 rfl,(k2.at k).cell 0 rfl⟩;have S0:=HK.out _ HS.drew;clear h k1 kb k2 kc hn hTr hs;go_in;go_wp2_with fail;refine wp_mono (Q:=fun e a w'=>a.defers=[]/\∃E3,e=.panic (lQ E3)/\bG X d u (iD X u.heap.size (Fe s) tr (d.p.gU ⟨4,0,X.fn,d.line,s⟩) (fun d' _=>d'.df=d.df)) (.panicked (lQ E3)) w') ?reg ?go
 case go=>
  rintro e a w' ⟨hd,E3,rfl,h3⟩;exact⟨hd,h3⟩
 refine wp_region_held_drew (S:=(fun w'=>w'.cell? ⟨x1,0,none⟩=some (ptr bb)/\w'.cell? ⟨bb,0,none⟩=some (ptr X.M)/\w'.cell? ⟨x2,0,none⟩=some (jP pc))) (by kernel_rfl) S0 (fun ak=>?_);refine wpAnyH_take (i:=0) (oi:=⟨some 5,_,_,_,_,_⟩) (v:=?v0) rfl (by kernel_rfl) (by kernel_rfl) (by kernel_rfl) (fun _ _ _ h=>h) (Or.inl ⟨by rfl,?hy0⟩) (by assumption) ?AP
 case hy0=>(intro wz hSw;(try dsimp only at hSw);go_simp<;>with_reducible rfl)
 try simp only[Act.put,aG,aF,aA]
 refine wpAnyH_take (i:=1) (oi:=⟨some 6,_,_,_,_,_⟩) (v:=?v1) rfl (by kernel_rfl) (by kernel_rfl) (by kernel_rfl) (fun _ _ _ h=>h) (Or.inl ⟨by rfl,?hy1⟩) (by assumption) ?mV
 case hy1=>(intro wz hSw;(try dsimp only at hSw);go_simp<;>with_reducible rfl)
 try simp only[Act.put,aG,aF,aA]
 refine wpAnyH_take (i:=2) (oi:=⟨some 7,_,_,_,_,_⟩) (v:=?v2) rfl (by kernel_rfl) (by kernel_rfl) (by kernel_rfl) (fun _ _ _ h=>h) (Or.inl ⟨by rfl,?hy2⟩) (by assumption) ?mQ
 case hy2=>(intro wz hSw;(try dsimp only at hSw);go_simp<;>with_reducible rfl)
 try simp only[Act.put,aG,aF,aA]
 refine wpAnyH_take (i:=3) (oi:=⟨some 8,_,_,_,_,_⟩) (v:=?v3) rfl (by kernel_rfl) (by kernel_rfl) (by kernel_rfl) (fun _ _ _ h=>h) (Or.inl ⟨by rfl,?hy3⟩) (by assumption) ?mP
 case hy3=>(intro wz hSw;(try dsimp only at hSw);go_simp<;>with_reducible rfl)
 try simp only[Act.put,aG,aF,aA]
 refine wpAnyH_take (i:=4) (oi:=⟨some 9,_,_,_,_,_⟩) (v:=?v4) rfl (by kernel_rfl) (by kernel_rfl) (by kernel_rfl) (fun _ _ _ h=>h) (Or.inl ⟨by rfl,?hy4⟩) (by assumption) ?mO
 case hy4=>(intro wz hSw;(try dsimp only at hSw);go_simp<;>with_reducible rfl)
 try simp only[Act.put,aG,aF,aA]
 refine wpAnyH_take (i:=5) (oi:=⟨some 10,_,_,_,_,_⟩) (v:=?v5) rfl (by kernel_rfl) (by kernel_rfl) (by kernel_rfl) (fun _ _ _ h=>h) (Or.inl ⟨by rfl,?uw⟩) (by assumption) ?mM
 case uw=>(intro wz hSw;(try dsimp only at hSw);go_simp<;>with_reducible rfl)
 try simp only[Act.put,aG,aF,aA]
 refine wpAnyH_ready (rs:=[6]) (by kernel_rfl) (by simp) ?_;refine AllReadyH.cons (o:=⟨some 11,_,_,_,_,_⟩) rfl (fun K hK=>?_) AllReadyH.nil;go_simp;refine(Le _ pc (fE s) _ (HO.2.2.2.at HS.drew)).mono ?_;rintro e w1 ⟨rfl,hb1⟩;have H1:Hid (ah u w1):=aH (Below.refl _ _).drew hb1;have S1:=HK.out w1 (HS.call H1.out);clear hb1;refine hK.out _ _ S1 (fun hHeld=>?_);clear hK K ak;have ak:=hHeld;clear hHeld;try simp only[Act.put,aG,aF,aA]
 refine wpAnyH_ready (rs:=[7]) (by kernel_rfl) (by simp) ?_;refine AllReadyH.cons (o:=⟨some 12,_,_,_,_,_⟩) rfl (fun K hK=>?_) AllReadyH.nil;go_simp;refine(z47 X s tr HN.2 d w1 (HS.call H1) HN.1 (fun w2 hb2=>iF.out w2 (aH H1 hb2))).mono ?_;rintro e w2 ⟨E,d2,rfl,hE,hO2,hs2,e2⟩;have H2:Hid (bG X d u (iD X u.heap.size (Fe s) tr (d.p.gU ⟨4,0,X.fn,d.line,s⟩) (fun d' _=>d'.df=d.df)) (.panicked (lQ E)) w2):=⟨E,d2,rfl,(Sp.below HS.out H1.out).trans hs2,⟨⟨d.tab,⟨d.gq,d.cls,d.df,d.fM,d.sin,d.tb,d.TP⟩,by rw[e2];rfl⟩,hO2,Nat.le_trans H1.size hE,fun c=>by cases c⟩,congrArg DP.df e2⟩;have S2:w2.cell? ⟨x1,0,none⟩=some (ptr bb)/\w2.cell? ⟨bb,0,none⟩=some (ptr X.M)/\w2.cell? ⟨x2,0,none⟩=some (jP pc):=⟨(HO.1.at hs2.s).cell 0 rfl,(HO.2.1.at hs2.s).cell 0 rfl,(HO.2.2.1.at hs2.s).cell 0 rfl⟩;clear hE hO2 hs2 e2;refine hK.out _ _ S2 (fun hHeld=>?_);clear hK K ak;have ak:=hHeld;clear hHeld;try simp only[Act.put,aG,aF,aA]
 refine wpAnyH_take (i:=8) (oi:=⟨some 13,_,_,_,_,_⟩) (v:=?v8) rfl (by kernel_rfl) (by kernel_rfl) (by kernel_rfl) (fun _ _ _ h=>h) (Or.inl ⟨by rfl,?rJ⟩) (by assumption) ?kM
 case rJ=>(intro wz hSw;(try dsimp only at hSw);go_simp<;>with_reducible rfl)
 try simp only[Act.put,aG,aF,aA]
 refine wpAnyH_ready (rs:=[9]) (by kernel_rfl) (by simp) ?_;refine AllReadyH.cons (o:=⟨none,_,_,_,_,_⟩) rfl (fun K hK=>?_) AllReadyH.nil;go_simp;exact H2
theorem TR{X:RX}{d:MD}{u:World}{n:Nat}{vs:Nat->VD}{e:Ending}{w':World}(h:∃g c,e=.returned (.slice (some ⟨g,0,none⟩) n c)/\w'.ownsRow u.heap.size 53 5 (.slice (some ⟨g,0,none⟩) n c) n (hL (vl vs n))/\Jq X d u d.p w' g):vW X d u (vl vs n) d.p e w':=by
 obtain⟨g,c,h1,h2,d',h3,h4,h5⟩:=h;refine⟨g,c,d',by rw[AZ];exact h1,?_,h3,h4,h5⟩;show w'.ownsRow _ _ _ (.slice (some ⟨g,0,none⟩) (vl vs n).length c) (vl vs n).length _;rw[AZ];exact h2
theorem zm1(X:RX)(d:MD)(B1 B:Nat)(v:VD)(u:World)(h:St X d u)(h1:Od X B1 #[jP B])(hB:Od X B (vA v)):Calls Tryz.prog 202 #[ptr X.F,ptr B1] u fun e w'=>bP X d u [v] d.p e w':=by
 have b0:=(h1.at h).cell 0 rfl;have HS:Hid (St X d u):=h;have HB:Hid (Has u B (vA v)):=hB.at h;have HF:Hid (∀w1:World,ah u w1->bP X d u [v] d.p (.returned (.slice (some ⟨w1.heap.size,0,none⟩) 1 1)) (w1.alloc (.cells (vA v) 53))):=fun w1 hb1=>by
  have s1:=(Sp.below h hb1).alloc (.cells (vA v) 53);have hG:=Has.new w1 (vA v) 53;refine⟨some ⟨w1.heap.size,0,none⟩,1,d,rfl,(fun e=>nomatch e),?_,s1,rfl,fun ad e _=>by cases e;exact h.other hb1.size⟩;exact fun _=>⟨_,rfl,hG.1,fun j x hv=>by
   have h1:(w1.alloc (.cells (vA v) 53)).cell? ⟨w1.heap.size,j,none⟩=some x:=(hG.2 j).trans (by simpa[hL,v5] using hv)
   cases j<;>simpa[Addr.add] using h1⟩
 clear h h1 hB;go_in;go_wp2_with (go_at_call 234;refine(Le _ B v _ HB).mono ?_;rintro e w1 ⟨rfl,hb1⟩);go_ret;exact HF w1 hb1
structure EI where
 p1:Nat
 p2:Nat
 pc:Nat
 l1:Nat
 l2:Nat
 b1:Nat
 o:Nat
 la:Option Addr
 lc:Nat
 Bs:Nat->Nat
 r:Nat
 B:Nat
structure EI.ok(P:EI)(X:RX)(v:VD):Prop where
 p1:Od X P.p1 #[jP P.pc]
 pc:Od X P.pc (vA kE)
 p2:Od X P.p2 #[FP P.l1 P.l2 P.b1]
 l1:Od X P.l1 #[FU P.o]
 o:Od X P.o #[.slice P.la 0 P.lc]
 ls:Ot X P.la 0 P.Bs (fun _=>v)
 l2:Od X P.l2 #[wI P.r]
 r:Od X P.r #[jP P.B]
 B:Od X P.B (vA v)
theorem z57(P:EI)(X:RX)(d:MD)(v:VD)(u:World)(hP:P.ok X v)(h:St X d u)(hh:d.held.length<=500):Calls Tryz.prog 248 #[ptr X.F,ptr P.p1,ptr P.p2] u fun e w'=>Di X d u kE [v] d.p e w':=by
 refine Xb X d P.p1 P.p2 P.pc P.l1 P.l2 P.b1 kE [v] d.p u h hP.p1 hP.pc hP.p2 rfl (fun d2 w2 k2 e2=>?_) (by omega);have hh2:d2.held=d.held++[kE]:=congrArg DP.held e2;have hl2:d2.held.length=d.held.length+1:=by rw[hh2];simp
 have hz:=X5 X d2 P.l1 P.l2 P.b1 P.o P.r [] [v] d2.p w2 k2.s hP.l1 hP.l2 rfl ?_ (fun d3 w3 k3 e3=>?_) (by simp;omega) (by simp)
 ·rw[e2] at hz;exact hz
 ·have:=zm0 X d2 P.o P.la 0 P.lc P.Bs (fun _=>v) w2 k2.s hP.o.1 hP.o.2 hP.ls (by omega) (by omega) (by omega);exact this.mono (fun e w' he=>TR he)
 ·have:=zm1 X d3 P.r P.B v w3 k3.s hP.r hP.B;rw[e3] at this;exact this
def Vh(X:RX)(d:MD)(u:World)(fn:Int)(cl:List Value)(e:Ending)(w':World):Prop:=∃C ca cc d',e=.returned (.tuple #[(jM cl.length).v,.slice none 0 0])/\Sp X d u d' w'/\d'.p=(d.p.paid 1).fQ d'.cls d'.tb d'.TP/\lN X d' ca cc (cl++[ptr C])/\Bx X d' w' C (cA fn)
theorem z58(X:RX)(d:MD)(p1 p2 b1 b2 b3:Nat)(ua:Option Addr)(uc:Nat)(fn:Int)(ca:Option Addr)(cc:Nat)(cl:List Value)(u:World)(h:St X d u)(k1:Od X p1 #[Y9 b1 b2 b3])(Xq:Od X b1 #[ptr X.M])(Xp:Od X b2 #[.slice ua 0 uc])(Xo:Od X b3 #[.int .i64 fn])(hcl:lN X d ca cc cl)(hcn:cl.length<=1000)(hsi:d.sin+1<=X.ce)(hma:d.fM<=100000)(k2:Od X p2 #[rH])(hlen:d.held.length<=900):Calls Tryz.prog 248 #[ptr X.F,ptr p1,ptr p2] u fun e w'=>Vh X d u fn cl e w':=by
 have HS:Hid (St X d u):=h;have iY:Hid (Od X p2 #[rH]):=k2;have uM:Hid (Od X b1 #[ptr X.M]/\Od X b2 #[.slice ua 0 uc]/\Od X b3 #[.int .i64 fn]/\lN X d ca cc cl/\cl.length<=1000/\d.sin+1<=X.ce/\d.fM<=100000):=⟨Xq,Xp,Xo,hcl,hcn,hsi,hma⟩;have hb:=(k1.at h);have b1':=hb.cell 0 rfl;have hbl:=hb.1;clear h k1 k2 Xq Xp Xo hcl hcn hsi hma hb;go_in;go_wp2_with fail;have Yt:Hid (St X d (u.alloc (.cells z5 53))):=HS.alloc _;refine(z29 X d b1 b2 b3 ua uc fn ca cc cl _ Yt uM.1 uM.2.1 uM.2.2.1 uM.2.2.2.1 uM.2.2.2.2.1 uM.2.2.2.2.2.1 uM.2.2.2.2.2.2).mono ?_;rintro e w1 ⟨C9,ca1,Yb,d1,rfl,hs1,e1,ho1,hx1,Y4⟩;obtain⟨cv,hcv⟩:∃cv,jM cl.length=cv:=⟨_,rfl⟩;rw[show(jM cl.length).v=cv.v from by rw[hcv]];have HCV:Hid (jM cl.length=cv):=hcv;have H1:Hid (Sp X d u d1 w1/\d1.p=(d.p.paid 1).fQ d1.cls d1.tb d1.TP/\lN X d1 ca1 Yb (cl++[ptr C9])/\Bx X d1 w1 C9 (cA fn)/\u.heap.size<C9):=⟨Sp.first HS.out hs1,e1,ho1,hx1,by rw[World.size_alloc] at Y4;omega⟩;have HR1:Hid (fB X d1 w1 u.heap.size z5):=(fB.new HS.out z5 _).step hs1;have hh1:d1.held=d.held:=congrArg DP.held e1;have hlen1:d1.held.length<=900:=by rw[hh1];exact hlen
 clear hs1 e1 ho1 hx1 Y4 b1' hbl Yt hcv hlen hh1;go_wp2_with fail;obtain⟨w2,hw2⟩:∃w2,w1.alloc (.cells (vA cv) 53)=w2:=⟨_,rfl⟩;obtain⟨C,hC0⟩:∃C,w1.heap.size=C:=⟨_,rfl⟩;have H2:Hid (Sp X d1 w1 d1 w2):=by rw[<-hw2];exact(Sp.refl H1.1.s).alloc _
 have HC:Hid (Bx X d1 w2 C (vA cv)):=by rw[<-hw2,<-hC0];exact Bx.new H1.1.s _ _
 have HR2:Hid (fB X d1 w2 u.heap.size z5):=by rw[<-hw2];exact HR1.alloc _
 rw[hw2,hC0];clear hw2 hC0 HR1;have f0:=H2.s.f.1.cell 0 rfl;have hF:=H2.s.f.1.1;have hC:=HC.1.1;have c0:=HC.cell 0 rfl;have c1:=HC.cell 1 rfl;have c2:=HC.cell 2 rfl;have c3:=HC.cell 3 rfl;have c4:=HC.cell 4 rfl;have HG:Hid (Has (w2.alloc (.cells (vA cv) 53)).drew w2.heap.size (vA cv)):=Has.drew (Has.new _ _ _);have HS2:Hid (St X d1 (w2.alloc (.cells (vA cv) 53)).drew):=(H2.s.alloc _).drew
 go_region_with (go_at_call 196;refine(GU X d1 _ cv _ HS2.out (by omega) HG.out).mono ?_;rintro e w3 ⟨rfl,ht3⟩)
 all_goals
  obtain⟨d3,hs3,e3⟩:=ht3;have hsp:Sp X d1 w2 d3 w3:=((Sp.refl H2.s).alloc _).drew.trans hs3;have H3:Hid (Sp X d1 w1 d3 w3/\d3.p=d1.p.hold [cv]):=⟨H2.trans hsp,e3⟩;have JM:Hid (Bx X d3 w3 C (vA cv)):=HC.step hsp;have HR3:Hid (fB X d3 w3 u.heap.size z5):=HR2.step hsp;clear hs3 e3 hsp H2 HC HR2 HG HS2 f0 hF hC c0 c1 c2 c3 c4;have b2:=(iY.at H3.1.s).cell 0 rfl;have hh3:d3.held=d1.held++[cv]:=congrArg DP.held H3.2;have hl3:d3.held.length=d1.held.length+1:=by rw[hh3];simp
  go_wp2_with fail;refine(zd1 _ _).mono ?_;rintro e w4 ⟨rfl,rfl⟩;clear b2;have f0:=H3.1.s.f.1.cell 0 rfl;go_wp2_with fail;refine(Hz X d3 1 _ H3.1.s (by omega) (by omega)).mono ?_;rintro e w5 ⟨rfl,d5,hs5,e5⟩;have H5:Hid (Sp X d1 w1 d5 w5/\d5.p=d1.p):=⟨H3.1.trans hs5,by rw[e5,H3.2];exact DP.iQ d1.p _ (by show d1.held.length=_;omega)⟩;have xZ:Hid (Bx X d5 w5 C (vA cv)):=JM.step hs5;have rY:Hid (fB X d5 w5 u.heap.size z5):=HR3.step hs5;clear hs5 e5 H3 JM HR3 f0 hh3 hl3;have c0:=xZ.cell 0 rfl;have c1:=xZ.cell 1 rfl;have c2:=xZ.cell 2 rfl;have c3:=xZ.cell 3 rfl;have c4':=xZ.cell 4 rfl;have r0:=rY.1.1.cell 0 rfl;have r1:=rY.1.1.cell 1 rfl;have r2:=rY.1.1.cell 2 rfl;have r3:=rY.1.1.cell 3 rfl;have r4:=rY.1.1.cell 4 rfl;have rz:=rY.1.2;have HF:Hid (∀w6,Gx (fun k=>k=u.heap.size) w5 w6->Vh X d u fn cl (.returned (.tuple #[cv.v,.slice none 0 0])) w6):=fun w6 wZ=>by
   have hx5:=H1.2.2.2.1.step H5.1;have hne:C9≠u.heap.size:=by have:=H1.2.2.2.2;omega
   have e1:d5.cls=d1.cls:=congrArg DP.cls H5.2;have e2:d5.tb=d1.tb:=congrArg DP.tb H5.2;have e3:d5.TP=d1.TP:=congrArg DP.TP H5.2;refine⟨C9,ca1,Yb,d5,by rw[<-HCV.out],Sp.beside HS.out (H1.1.trans H5.1) wZ (Nat.le_refl _) rY.2,?_,H1.2.2.1.step e1 e2 e3,⟨wZ.has hx5.1 hne,hx5.2⟩⟩;rw[H5.2,e1,e2,e3];exact H1.2.1
  go_wp2_with fail;generalize u.heap.size=R at *;exact bodyPost_ret (v:=.tuple #[cv.v,.slice none 0 0]) (by simp[results,Tryz.results248,go_sem,r0,r1,r2,r3,r4]) rfl (HF.out _ (MS _ _ _ _ _ _ _))
theorem y77(X:RX)(d:MD)(a1 a2 p1 p2 bb:Nat)(nd:Value)(cv:VD)(Q:MD->World->Prop)(R:Nat->MD->World->Prop)(u:World)(h:St X d u)(k1:Od X a1 #[AX p1 p2])(k2:Od X a2 #[ptr bb])(kb:Od X bb #[ptr X.M,nd])(hp:Calls Tryz.prog 248 #[ptr X.F,ptr p1,ptr p2] u fun e w'=>e=.returned (.tuple #[cv.v,.slice none 0 0])/\∃d1,Sp X d u d1 w'/\Q d1 w')(hinv:∀d1 w1 w2,Sp X d u d1 w1->Q d1 w1->Sp X d1 w1 d1 w2->Calls Tryz.prog 200 #[ptr X.M,cv.v,.slice none 0 0] w2 fun e w'=>bG X d1 w2 R e w'):Calls Tryz.prog 199 #[ptr X.F,ptr a1,ptr a2] u fun e w'=>bG X d u R e w':=by
 have HP:Hid (Calls Tryz.prog 248 #[ptr X.F,ptr p1,ptr p2] u fun e w'=>e=.returned (.tuple #[cv.v,.slice none 0 0])/\∃d1,Sp X d u d1 w'/\Q d1 w'):=hp;have HI:Hid (∀d1 w1 w2,Sp X d u d1 w1->Q d1 w1->Sp X d1 w1 d1 w2->Calls Tryz.prog 200 #[ptr X.M,cv.v,.slice none 0 0] w2 fun e w'=>bG X d1 w2 R e w'):=hinv;have iY:Hid (Od X a2 #[ptr bb]):=k2;have HKB:Hid (Od X bb #[ptr X.M,nd]):=kb;have b1:=(k1.at h).cell 0 rfl;have z1:=(k1.at h).1;clear h k1 k2 kb hp hinv;go_in;go_wp2_with fail;refine HP.mono ?_;rintro e w1 ⟨rfl,d1,hs1,e1⟩;have H1:Hid (Sp X d u d1 w1/\Q d1 w1):=⟨hs1,e1⟩;clear hs1 e1;clear b1 z1 HP;go_wp2_with fail;obtain⟨w2,hw2⟩:∃w2,w1.alloc (.cells (vA cv) 53)=w2:=⟨_,rfl⟩;obtain⟨C,hC0⟩:∃C,w1.heap.size=C:=⟨_,rfl⟩;have K2:Hid (Sp X d1 w1 d1 w2.drew):=by rw[<-hw2];exact((Sp.refl H1.1.s).alloc _).drew
 have HC:Hid (Bx X d1 w2.drew C (vA cv)):=by rw[<-hw2,<-hC0];exact(Bx.new H1.1.s _ _).step (Sp.refl (H1.1.s.alloc _)).drew
 rw[show w1.alloc (.cells #[.int .i64 cv.k,.int .i64 cv.n,.float .f64 cv.f,.string cv.s,.int .i64 cv.r] 53)=w2 from hw2,hC0];clear hw2 hC0;have HK:Hid (∀d' w',Sp X d1 w2.drew d' w'->w'.cell? ⟨a2,0,none⟩=some (ptr bb)/\w'.cell? ⟨bb,0,none⟩=some (ptr X.M)/\w'.cell? ⟨C,0,none⟩=some (.int .i64 cv.k)/\w'.cell? ⟨C,1,none⟩=some (.int .i64 cv.n)/\w'.cell? ⟨C,2,none⟩=some (.float .f64 cv.f)/\w'.cell? ⟨C,3,none⟩=some (.string cv.s)/\w'.cell? ⟨C,4,none⟩=some (.int .i64 cv.r)):=fun d' w' k=>⟨(iY.at k.s).cell 0 rfl,(HKB.at k.s).cell 0 rfl,(HC.step k).cell 0 rfl,(HC.step k).cell 1 rfl,(HC.step k).cell 2 rfl,(HC.step k).cell 3 rfl,(HC.step k).cell 4 rfl⟩;have S0:=HK.out d1 _ (Sp.refl K2.s);refine wp_mono (Q:=fun e a w'=>a.defers=[]/\∃E3,e=.panic (lQ E3)/\bG X d u R (.panicked (lQ E3)) w') ?reg ?go
 case go=>
  rintro e a w' ⟨hd,E3,rfl,h3⟩;simp only[Exit.then];exact⟨hd,h3⟩
 refine wp_region_held_drew (S:=(fun w'=>w'.cell? ⟨a2,0,none⟩=some (ptr bb)/\w'.cell? ⟨bb,0,none⟩=some (ptr X.M)/\w'.cell? ⟨C,0,none⟩=some (.int .i64 cv.k)/\w'.cell? ⟨C,1,none⟩=some (.int .i64 cv.n)/\w'.cell? ⟨C,2,none⟩=some (.float .f64 cv.f)/\w'.cell? ⟨C,3,none⟩=some (.string cv.s)/\w'.cell? ⟨C,4,none⟩=some (.int .i64 cv.r))) (by kernel_rfl) S0 (fun ak=>?_);refine wpAnyH_take (i:=0) (oi:=⟨some 13,_,_,_,_,_⟩) (v:=?v7) rfl (by kernel_rfl) (by kernel_rfl) (by kernel_rfl) (fun _ _ _ h=>h) (Or.inl ⟨by rfl,?qw⟩) (by assumption) ?mJ
 case qw=>(intro wz hSw;(try dsimp only at hSw);go_simp<;>with_reducible rfl)
 try simp only[Act.put,aG,aF,aA]
 refine wpAnyH_take (i:=1) (oi:=⟨some 14,_,_,_,_,_⟩) (v:=?v8) rfl (by kernel_rfl) (by kernel_rfl) (by kernel_rfl) (fun _ _ _ h=>h) (Or.inl ⟨by rfl,?rJ⟩) (by assumption) ?kM
 case rJ=>(intro wz hSw;(try dsimp only at hSw);go_simp<;>with_reducible rfl)
 try simp only[Act.put,aG,aF,aA]
 refine wpAnyH_take (i:=2) (oi:=⟨some 15,_,_,_,_,_⟩) (v:=?v9) rfl (by kernel_rfl) (by kernel_rfl) (by kernel_rfl) (fun _ _ _ h=>h) (Or.inl ⟨by rfl,?wK⟩) (by assumption) ?pX
 case wK=>(intro wz hSw;(try dsimp only at hSw);go_simp<;>with_reducible rfl)
 try simp only[Act.put,aG,aF,aA]
 refine wpAnyH_take (i:=3) (oi:=⟨some 16,_,_,_,_,_⟩) (v:=?v10) rfl (by kernel_rfl) (by kernel_rfl) (by kernel_rfl) (fun _ _ _ h=>h) (Or.inl ⟨by rfl,?oG⟩) (by assumption) ?o9
 case oG=>(intro wz hSw;(try dsimp only at hSw);go_simp<;>with_reducible rfl)
 try simp only[Act.put,aG,aF,aA]
 refine wpAnyH_take (i:=4) (oi:=⟨some 17,_,_,_,_,_⟩) (v:=?v11) rfl (by kernel_rfl) (by kernel_rfl) (by kernel_rfl) (fun _ _ _ h=>h) (Or.inl ⟨by rfl,?oD⟩) (by assumption) ?o8
 case oD=>(intro wz hSw;(try dsimp only at hSw);go_simp<;>with_reducible rfl)
 try simp only[Act.put,aG,aF,aA]
 refine wpAnyH_take (i:=5) (oi:=⟨some 18,_,_,_,_,_⟩) (v:=?v12) rfl (by kernel_rfl) (by kernel_rfl) (by kernel_rfl) (fun _ _ _ h=>h) (Or.inl ⟨by rfl,?oC⟩) (by assumption) ?o7
 case oC=>(intro wz hSw;(try dsimp only at hSw);go_simp<;>with_reducible rfl)
 try simp only[Act.put,aG,aF,aA]
 refine wpAnyH_ready (rs:=[6]) (by kernel_rfl) (by simp) ?_;refine AllReadyH.cons (o:=⟨some 19,_,_,_,_,_⟩) rfl (fun K hK=>?_) AllReadyH.nil;go_simp;refine(HI d1 w1 _ H1.1 H1.2 K2).mono ?_;rintro e w3 ⟨E3,d3,rfl,hs3,hr3⟩;exact⟨E3,rfl,E3,d3,rfl,(H1.1.trans K2).trans hs3,hr3⟩
theorem ZG(X:RX)(d:MD)(B:Nat)(R:Nat->MD->World->Prop)(u:World)(h:St X d u)(xk:X.dp<=X.fl)(hF:∀w3,Sp X d u d w3->Calls Tryz.prog 217 #[ptr X.M,.int .i64 8] w3 fun e w'=>∃E d',e=.returned (ptr E)/\Sp X d w3 d' w'/\R E d' w'):Calls Tryz.prog 249 #[ptr X.M,(jM B).v,.slice none 0 0] u fun e w'=>bG X d u R e w':=by
 have HS:Hid (St X d u):=h;have HN:Hid (X.dp<=X.fl):=xk;have JK:Hid (∀w3,Sp X d u d w3->Calls Tryz.prog 217 #[ptr X.M,.int .i64 8] w3 fun e w'=>∃E d',e=.returned (ptr E)/\Sp X d w3 d' w'/\R E d' w'):=hF;clear h xk hF;go_in
 go_upto_region 1 with fail
 obtain⟨w1,hw1⟩:∃w1,(u.alloc (.cells #[ptr X.M] 39)).alloc (.cells (vA (jM B)) 53)=w1:=⟨_,rfl⟩;obtain⟨b3,hb3⟩:∃b3,u.heap.size=b3:=⟨_,rfl⟩;have H1:Hid (Sp X d u d w1/\Bx X d w1 b3 #[ptr X.M]):=by
  rw[<-hw1,<-hb3];exact⟨((Sp.refl HS).alloc _).alloc _,(Bx.new HS _ _).alloc _⟩
 rw[hw1,hb3];clear hw1 hb3;have hge:((X.dp:Int)<=(X.fl:Int))=True:=by have:=HN.out;simp;omega
 have Ag:Hid (∀w',Sp X d w1 d w'->w'.cell? ⟨b3,0,none⟩=some (ptr X.M)/\w'.cell? ⟨X.M,4,none⟩=some (.int .i64 (X.dp:Int))):=fun w' k=>⟨(H1.2.step k).cell 0 rfl,k.s.m.1.cell 4 rfl⟩
 go_cut [18] from 11 (fun OH w=>OH=.bool true/\Hid (Sp X d w1 d w))
 case first=>
  have S0:=Ag.out _ (Sp.refl H1.1.s).drew;have HD:Hid (St X d w1.drew):=H1.1.s.drew
  go_region_held3 (fun w'=>w'.cell? ⟨b3,0,none⟩=some (ptr X.M)/\w'.cell? ⟨X.M,4,none⟩=some (.int .i64 (X.dp:Int))) (first|exact S0) (first|(go_at_call 295;refine(WB X d _ HD).mono ?_;rintro e w2 ⟨rfl,rfl⟩))
  all_goals
   go_wp2_with fail
   go_meet
   case rel=>exact⟨by simp,(Sp.refl H1.1.s).drew⟩
 obtain⟨rfl,fP⟩:=hcut
 rename World=>w2
 have c3:=(H1.2.step fP.out).cell 0 rfl;have l3:=(H1.2.step fP.out).1.1;go_wp2_with fail;refine(JK _ (H1.1.trans fP)).mono ?_;rintro e w5 ⟨E5,d5,rfl,hs5,Md⟩;have HF:Hid (bG X d u R (.panicked (lQ E5)) w5):=⟨E5,d5,rfl,(H1.1.trans fP.out).trans hs5,Md⟩;clear hs5 Md c3 l3;go_wp2_with fail;simp[bodyPost];exact HF
end
section
open Go.RowKit
def Aq(X:RX)(ub uo nf:Nat)(bM:Nat->lJ)(d:MD)(w:World):Prop:=∀i,i+1<X.fl->kV X ub uo nf (bM i) w/\d.fr[i]?=some (ptr (bM i).F)/\¬stB X d (bM i).F
structure xK(X:RX)(ub uo nf fn:Nat)(nm:ByteArray):Prop where
 e:X.fn=(fn:Int)
 lt:fn<nf
 n:X.W.cell? ⟨ub,uo+fn*7,none⟩=some (.string nm)
 sz:nm.size<=1000
def jL(X:RX)(bM:Nat->lJ)(fn:Nat)(nm:ByteArray)(ln:Int)(i:Nat):lJ:=if i+1<X.fl then bM i else⟨X.F,fn,ln,nm⟩
theorem kV.keep{X X':RX}{ub uo nf:Nat}{f:lJ}{u w:World}(h:kV X ub uo nf f u)(hs:u.heap.size<=w.heap.size)(hk:w.heap[f.F]?=u.heap[f.F]?)(hW:X'.W=X.W):kV X' ub uo nf f w:=
 ⟨Nat.lt_of_lt_of_le h.lt hs,(World.cell?_of_block (a:=⟨f.F,1,none⟩) hk).trans h.c1,(World.cell?_of_block (a:=⟨f.F,12,none⟩) hk).trans h.c12,h.ln,h.fn,by rw[hW];exact h.nm,h.sz⟩
theorem Aq.step{X:RX}{ub uo nf:Nat}{bM:Nat->lJ}{d d':MD}{u w:World}(h:Aq X ub uo nf bM d u)(k:Sp X d u d' w)(hf:d'.fr=d.fr):Aq X ub uo nf bM d' w:=fun i hi=>by
 obtain⟨h1,h2,h3⟩:=h i hi;exact⟨h1.keep k.g.size (k.g.block _ h1.lt h3) rfl,by rw[hf];exact h2,fun c=>h3 (k.mv _ h1.lt c)⟩
theorem xK.ok{X:RX}{ub uo nf fn:Nat}{nm:ByteArray}{d:MD}{w:World}(h:xK X ub uo nf fn nm)(s:St X d w)(hl:dU d.line):kV X ub uo nf ⟨X.F,fn,d.line,nm⟩ w:=
 ⟨s.f.1.1,by
  show w.cell? ⟨X.F,1,none⟩=some (.int .i64 (fn:Int));rw[<-h.e];exact s.f.1.cell 1 rfl,s.f.1.cell 12 rfl,hl,h.lt,h.n,h.sz⟩
theorem Aq.all{X:RX}{ub uo nf fn:Nat}{nm:ByteArray}{bM:Nat->lJ}{d:MD}{w:World}(h:Aq X ub uo nf bM d w)(t:xK X ub uo nf fn nm)(s:St X d w)(hl:dU d.line):(∀i,i<X.fl->kV X ub uo nf (jL X bM fn nm d.line i) w/\d.fr[i]?=some (ptr (jL X bM fn nm d.line i).F))/\∀i,i<X.fl->(jL X bM fn nm d.line i).F=X.F\/¬stB X d (jL X bM fn nm d.line i).F:=by
 have hc:∀i,i<X.fl->¬(i+1<X.fl)->i=X.fl-1:=fun i h1 h2=>by omega
 refine⟨fun i hi=>?_,fun i hi=>?_⟩
 ·unfold jL;by_cases hh:i+1<X.fl
  ·rw[if_pos hh];exact⟨(h i hh).1,(h i hh).2.1⟩
  ·rw[if_neg hh];refine⟨t.ok s hl,?_⟩;rw[hc i hi hh];exact s.r0
 ·unfold jL;by_cases hh:i+1<X.fl
  ·rw[if_pos hh];exact .inr (h i hh).2.2
  ·rw[if_neg hh];exact .inl rfl
theorem Aq.open{X X':RX}{ub uo nf fn:Nat}{nm:ByteArray}{bM:Nat->lJ}{d d1:MD}{u w:World}(h:Aq X ub uo nf bM d u)(t:xK X ub uo nf fn nm)(s:St X d u)(hl:dU d.line)(k:Tr X d u X' d1 w)(p:jW X d X' d1 w)(hs:dR X X')(hf:d1.fr=d.fr++[ptr X'.F]):Aq X' ub uo nf (jL X bM fn nm d.line) d1 w:=fun i hi=>by
 have hfl:d.fr.length=X.fl:=by have:=s.fw.1;omega
 have hi':i<X.fl:=by have:=hs.fl;omega
 obtain⟨ho,hr⟩:=(h.all t s hl).1 i hi';have hfr:d1.fr[i]?=some (ptr (jL X bM fn nm d.line i).F):=by
  rw[hf,List.getElem?_append_left (by omega)];exact hr
 rcases(h.all t s hl).2 i hi' with e|e
 ·refine⟨⟨?_,?_,?_,ho.ln,ho.fn,by rw[hs.W];exact ho.nm,ho.sz⟩,hfr,?_⟩
  ·rw[e];exact p.1.tf.lt
  ·have h1:w.cell? ⟨X.F,1,none⟩=some (.int .i64 X.fn):=p.1.f.1.cell 1 rfl;have h2:u.cell? ⟨X.F,1,none⟩=some (.int .i64 X.fn):=s.f.1.cell 1 rfl;have h3:=ho.c1;rw[e] at h3 ⊢;rw[h1,<-h2];exact h3
  ·have h1:w.cell? ⟨X.F,12,none⟩=some (.int .i64 d.line):=p.1.f.1.cell 12 rfl;have h2:u.cell? ⟨X.F,12,none⟩=some (.int .i64 d.line):=s.f.1.cell 12 rfl;have h3:=ho.c12;rw[e] at h3 ⊢;rw[h1,<-h2];exact h3
  ·rw[e];exact p.2 _ (.inl rfl)
 ·exact⟨ho.keep k.g.size (k.g.block _ ho.lt e) hs.W,hfr,fun c=>e (k.mv _ ho.lt c)⟩
abbrev sG:ByteArray:=⟨#[103]⟩
abbrev dP:ByteArray:=⟨#[111,117,116]⟩
abbrev V6(a b:Nat):Value:=jA 237 #[ptr a,ptr b]
structure CI where
 r1:Nat
 r2:Nat
 c1:Nat
 c2:Nat
 b1:Nat
 b2:Nat
 b3:Nat
 ua:Option Addr
 uc:Nat
structure CI.ok(C:CI)(X:RX)(bb:Nat)(fn:Int):Prop where
 r1:Od X C.r1 #[AX C.c1 C.c2]
 r2:Od X C.r2 #[ptr bb]
 c1:Od X C.c1 #[Y9 C.b1 C.b2 C.b3]
 c2:Od X C.c2 #[rH]
 b1:Od X C.b1 #[ptr X.M]
 b2:Od X C.b2 #[.slice C.ua 0 C.uc]
 b3:Od X C.b3 #[.int .i64 fn]
structure LI where
 bb:Nat
 nd:Value
 k1:Nat
 k2:Nat
 ka:Nat
 kc:Nat
 s1:Nat
 s2:Nat
 s3:Nat
 A1:Array Value
 L1:Int
 y1:Nat
 y2:Nat
 Ay:Array Value
 P:EI
 t1:Nat
 t2:Nat
 t3:Nat
 A2:Array Value
 L2:Int
 z1:Nat
 z2:Nat
 C:CI
 pc:Nat
structure LI.ok(I:LI)(X:RX)(v:VD):Prop where
 bb:Od X I.bb #[ptr X.M,I.nd]
 k1:Od X I.k1 #[.slice (some ⟨I.ka,0,none⟩) 2 I.kc]
 k2:Od X I.k2 #[ptr I.bb]
 ka:Oo X I.ka 0 (zh I.s1 I.s2 I.s3)
 kb:Oo X I.ka 1 (zh I.t1 I.t2 I.t3)
 s1:Od X I.s1 #[ptr I.bb]
 s2:Od X I.s2 I.A1
 A1:I.A1[1]?=some (.int .i64 I.L1)
 s3:Od X I.s3 #[V6 I.y1 I.y2]
 y1:Od X I.y1 #[AX I.P.p1 I.P.p2]
 y2:Od X I.y2 I.Ay
 Ay:I.Ay[1]?=some (.int .i64 I.L1)
 P:I.P.ok X v
 t1:Od X I.t1 #[ptr I.bb]
 t2:Od X I.t2 I.A2
 A2:I.A2[1]?=some (.int .i64 I.L2)
structure LI.go(I:LI)(X:RX)(fn:Int):Prop where
 t3:Od X I.t3 #[MZ I.z1]
 z1:Od X I.z1 #[qF I.C.r1 I.C.r2]
 c:I.C.ok X I.bb fn
structure LI.th(I:LI)(X:RX):Prop where
 t3:Od X I.t3 #[Gh I.z1 I.z2]
 z1:Od X I.z1 #[ptr I.bb]
 z2:Od X I.z2 #[jP I.pc]
 pc:Od X I.pc (vA (fE dP))
structure UV where
 n:Nat
 ub:Nat
 uo:Nat
 uc:Nat
 bo:Nat
 bc:Nat
 dp:Nat
 L0:Int
 Ls:Nat->LI
 fL:Nat->Int
 va:Nat->Option Addr
 vc:Nat->Nat
 p1:Nat->Option Addr
 p2:Nat->Nat
 p3:Nat->Nat
 q1:Nat->Option Addr
 q2:Nat->Nat
 q3:Nat->Nat
def UV.nm(_:UV)(i:Nat):ByteArray:=if i=0 then iK else sG
def UV.ln(V:UV)(i:Nat):Int:=if i=0 then V.L0 else(V.Ls i).L2
def UV.tf(V:UV)(i:Nat):ByteArray:=lJ.text ⟨0,0,V.ln i,V.nm i⟩
structure UV.ok(V:UV)(X:RX):Prop where
 e:qW X
 t:jV X
 n:V.n<=40
 dp:X.dp=V.dp
 d1:1<=V.dp
 tk:X.tk=5000
 ce:X.ce=1000
 f:X.fns=.slice (some ⟨V.ub,V.uo,none⟩) (V.n+1) V.uc
 lt:V.ub<X.W.heap.size
 ne:V.ub≠X.M
 u:∀f,1<=f->f<=V.n->UG X f (V.n+1) V.ub V.uo V.uc 0 (V.vc f) (V.va f) sG (V.fL f) (.slice (V.p1 f) (V.p2 f) (V.p3 f)) (.slice (V.q1 f) (V.q2 f) (V.q3 f))
 jB:X.jB=.slice (some ⟨V.bo,0,none⟩) (V.n+1) V.bc
 b:∀f,1<=f->f<=V.n->Oo X V.bo f (uq (V.Ls f).k1 (V.Ls f).k2)
 l:∀f,1<=f->f<=V.n->(V.Ls f).ok X (jk (f-1:Nat))
 g:∀f,1<=f->f<V.n->(V.Ls f).go X ((f+1:Nat):Int)
 h:1<=V.n->(V.Ls V.n).th X
 ln:∀i,dU (V.ln i)
theorem EI.ok.xC{P:EI}{X:RX}{v:VD}(h:P.ok X v)(F V j:Nat)(fn:Int)(r:Value)(nv:Nat):P.ok (xC X F V j fn r nv) v:=⟨h.p1,h.pc,h.p2,h.l1,h.o,⟨h.ls.1,h.ls.2,h.ls.3⟩,h.l2,h.r,h.B⟩
theorem CI.ok.xC{C:CI}{X:RX}{bb:Nat}{f:Int}(h:C.ok X bb f)(F V j:Nat)(fn:Int)(r:Value)(nv:Nat):C.ok (xC X F V j fn r nv) bb f:=⟨h.r1,h.r2,h.c1,h.c2,h.b1,h.b2,h.b3⟩
theorem LI.ok.xC{I:LI}{X:RX}{v:VD}(h:I.ok X v)(F V j:Nat)(fn:Int)(r:Value)(nv:Nat):I.ok (xC X F V j fn r nv) v:=⟨h.bb,h.k1,h.k2,h.ka,h.kb,h.s1,h.s2,h.A1,h.s3,h.y1,h.y2,h.Ay,h.P.xC F V j fn r nv,h.t1,h.t2,h.A2⟩
theorem UV.ok.xC{U:UV}{X:RX}(h:U.ok X)(F V j:Nat)(fn:Int)(r:Value)(nv:Nat):U.ok (xC X F V j fn r nv):=
 ⟨h.e,h.t,h.n,h.dp,h.d1,h.tk,h.ce,h.f,h.lt,h.ne,fun f h1 h2=>⟨⟨(h.u f h1 h2).u.f,(h.u f h1 h2).u.i,(h.u f h1 h2).u.lt,(h.u f h1 h2).u.ne,(h.u f h1 h2).u.p,(h.u f h1 h2).u.r,(h.u f h1 h2).u.v⟩,(h.u f h1 h2).n0,(h.u f h1 h2).n1,(h.u f h1 h2).n5,(h.u f h1 h2).n6⟩,h.jB,h.b,fun f h1 h2=>(h.l f h1 h2).xC F V j fn r nv,fun f h1 h2=>⟨(h.g f h1 h2).t3,(h.g f h1 h2).z1,(h.g f h1 h2).c.xC F V j fn r nv⟩,fun h1=>⟨(h.h h1).t3,(h.h h1).z1,(h.h h1).z2,(h.h h1).pc⟩,h.ln⟩
structure Cx(V:UV)(f:Nat)(X:RX)(d:MD)(w:World):Prop where
 s:St X d w
 v:V.ok X
 fn:f<=V.n
 fl:X.fl=f+1
 lt:f<V.dp
 top:xK X V.ub V.uo (V.n+1) f (V.nm f)
 MW:∃bM,Aq X V.ub V.uo (V.n+1) bM d w/\∀i,i<f->(bM i).text=V.tf i
 ln:d.line=V.ln f
 cl:∃ca cc cl,lN X d ca cc cl/\cl.length=f
 tab:d.tab=.slice none 0 0
 gq:d.gq=.slice none 0 0
 held:d.held=[]
 sin:d.sin=f
 fM:d.fM=f
 ti:d.ti<=10*(f+1)
 recs:d.recs.length<=10*(f+1)
theorem Cx.step{V:UV}{f:Nat}{X:RX}{d d':MD}{w w':World}(h:Cx V f X d w)(k:Sp X d w d' w')(hl:d'.line=d.line)(h1:d'.cls=d.cls)(h2:d'.tb=d.tb)(h3:d'.TP=d.TP)(h4:d'.tab=d.tab)(h5:d'.gq=d.gq)(h6:d'.held=d.held)(h7:d'.sin=d.sin)(h8:d'.fM=d.fM)(h9:d'.ti=d.ti)(h10:d'.recs=d.recs)(h11:d'.fr=d.fr):Cx V f X d' w':=by
 obtain⟨bM,hF,hx⟩:=h.MW;obtain⟨ca,cc,cl,hc,hn⟩:=h.cl;exact⟨k.s,h.v,h.fn,h.fl,h.lt,h.top,⟨bM,hF.step k h11,hx⟩,hl.trans h.ln,⟨ca,cc,cl,hc.step h1 h2 h3,hn⟩,h4.trans h.tab,h5.trans h.gq,h6.trans h.held,h7.trans h.sin,h8.trans h.fM,by rw[h9];exact h.ti,by rw[h10];exact h.recs⟩
def kY(tf:Nat->ByteArray)(n:Nat):ByteArray:=⟨(Lib.join (((jD n n).map tf).map (·.data.toList)) [32]).toArray⟩
theorem y65(n:Nat):∀i∈jD n n,i<n:=by
 simp only[jD,List.mem_map,List.mem_range];rintro i ⟨j,hj,rfl⟩;omega
theorem U0{bM:Nat->lJ}{tf:Nat->ByteArray}{n:Nat}(h:∀i,i<n->(bM i).text=tf i):uO bM n=kY tf n:=by
 unfold uO kY;rw[show(jD n n).map (fun i=>(bM i).text)=(jD n n).map tf from List.map_congr_left fun i hi=>h i (y65 n i hi)]
theorem Cx.all{V:UV}{f:Nat}{X:RX}{d:MD}{w:World}(h:Cx V f X d w):∃bM,(∀i,i<X.fl->kV X V.ub V.uo (V.n+1) (bM i) w/\d.fr[i]?=some (ptr (bM i).F))/\(∀i,i<X.fl->(bM i).F=X.F\/¬stB X d (bM i).F)/\uO bM X.fl=kY V.tf (f+1):=by
 obtain⟨bM,hF,hx⟩:=h.MW;have hl:dU d.line:=by rw[h.ln];exact h.v.ln f
 refine⟨jL X bM f (V.nm f) d.line,(hF.all h.top h.s hl).1,(hF.all h.top h.s hl).2,?_⟩;rw[h.fl];refine U0 fun i hi=>?_;unfold jL;rw[h.fl];by_cases hh:i+1<f+1
 ·rw[if_pos hh];exact hx i (by omega)
 ·rw[if_neg hh,show i=f by omega,h.ln];rfl
end
end Go.Proofs.YtihnikeikhjndaaGreatDoor
