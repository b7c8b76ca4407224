import Derived.Test.YthnkncpegihbhaaGreatDoorWxA
set_option maxRecDepth 100000
set_option maxHeartbeats 16000000
namespace Go.Proofs.YthnkncpegihbhaaGreatDoor
section
open Go.RowKit
attribute [local go_sem] iD
attribute [local go_sem ↓] Go.wp_at_zero Go.wp_at_succ
theorem z27(k r:Int)(w:World):Calls Tryz.prog 310 #[.agg #[.int .i64 k,.int .i64 r]] w fun e w'=>e=.returned (iJ k 0 0 ⟨#[]⟩ r)/\gZ w w':=by
 go_in;go_wp2_with fail;refine aG (v:=iJ k 0 0 ⟨#[]⟩ r) (by simp[results,Tryz.results310,go_sem]) rfl ⟨rfl,?_⟩
 with_reducible exact kF _ _ _
theorem OwnB.iy{w w':World}{B:Nat}{A:Array Value}(h:OwnB w B A)(hb:gZ w w'):OwnB w' B A:=h.block hb.size (hb.block _ h.1.1)
theorem O6(K:Nat)(r:Int)(w:World)(hK:K<w.heap.size)(h:w.cell? ⟨K,3,none⟩=some (.int .i64 r)):Calls Tryz.prog 264 #[ptr K] w fun e w'=>e=.returned (iJ 5 0 0 ⟨#[]⟩ r)/\gZ w w':=by
 go_in;go_wp2_with fail;refine(z27 5 r _).mono ?_;rintro e w1 ⟨rfl,hb⟩;have hO:=(OwnB.new w #[.int .i64 0,.int .i64 0,.float .f64 0,.string ⟨#[]⟩,.int .i64 0] 61).iy hb;have r0:=hO.1.cell 0 rfl;have r1:=hO.1.cell 1 rfl;have r2:=hO.1.cell 2 rfl;have r3:=hO.1.cell 3 rfl;have r4:=hO.1.cell 4 rfl;have rz:=hO.2;have HB:Hid (gZ w w1):=iq (q01 _ _) hb;go_wp2_with fail;exact aG (v:=iJ 5 0 0 ⟨#[]⟩ r) (by simp[results,Tryz.results264,go_sem,r0,r1,r2,r3,r4]) rfl ⟨rfl,pO HB.out (ah _) _ _ _ _ _⟩
abbrev jr(j:Nat):VD:=⟨5,0,0,⟨#[]⟩,(j:Int)⟩
theorem qk3(F K:Nat)(w:World):Calls Tryz.prog 275 #[ptr F,ptr K] w fun e w'=>e=.returned (.tuple #[])/\w'=w:=by
 go_in;go_wp2_with fail;go_end0;exact⟨rfl,rfl⟩
def je0(X:RX)(d:MD)(S:TS)(u:World)(w':World):Prop:=∃K B ta tc la lc d',Sp X d u d' w'/\jl X d' (S.add K B ta tc la lc)/\d'.p={d.p.paid 1 with tab:=d'.tab,jA:=d'.jA,tb:=d'.tb,TP:=d'.TP}
theorem ze4(X:RX)(d:MD)(S:TS)(b1 b2 b3:Nat)(u:World)(h:St X d u)(o:jl X d S)(k1:Od X b1 #[ptr X.M])(k2:Od X b2 #[.slice none 0 0])(k3:Od X b3 #[.func (.func 275) #[] #[]])(pW:∀j,j∈S.li->j<S.nt)(hnt:S.nt<=900)(hll:S.li.length<=900)(hce:d.lv+d.sin+1<=X.ce)(yw:d.jc<=100000)(hh:d.held.length<=80000):Calls Tryz.prog 278 #[ptr X.F,ptr b1,ptr b2,ptr b3] u fun e w'=>e=.returned (jr S.nt).v/\je0 X d S u w':=by
 have HS:Hid (St X d u/\jl X d S/\Od X b1 #[ptr X.M]/\Od X b2 #[.slice none 0 0]/\Od X b3 #[.func (.func 275) #[] #[]]/\∀j,j∈S.li->j<S.nt):=⟨h,o,k1,k2,k3,pW⟩;have c1:=(h.old k1.1 k1.2).cell 0 rfl;have l1:=(h.old k1.1 k1.2).1;go_in;go_wp2_with fail;refine(W9 X d _ (HS.1.alloc _) hce yw).mono ?_;rintro e w1 ⟨rfl,d1,fH,hd1⟩;have o1:jl X d1 S:=⟨(aJ DP.tb hd1).trans HS.2.1.b,(aJ DP.TP hd1).trans HS.2.1.p,(aJ DP.tab hd1).trans HS.2.1.t,(aJ DP.jA hd1).trans HS.2.1.l⟩;obtain⟨b5,eX⟩:∃b5,u.heap.size=b5:=⟨_,rfl⟩;have H1:Hid (Sp X d u d1 w1/\d1.p=d.p.paid 1/\jl X d1 S/\OwnB w1 b5 #[.int .i64 0,.int .i64 0,.float .f64 0,.string ⟨#[]⟩,.int .i64 0]/\¬stB X d1 b5/\u.heap.size<=b5):=by
  rw[<-eX];exact⟨Sp.first HS.1 fH,hd1,o1,fH.g.ownB (OwnB.new _ _ _) (HS.1.other (ah _)),fun e=>HS.1.other (ah _) (fH.mv _ (by simp) e),ah _⟩
 have c1':=(H1.1.s.old HS.2.2.1.1 HS.2.2.1.2).cell 0 rfl;rw[eX];have l1:=(H1.1.s.old HS.2.2.1.1 HS.2.2.1.2).1;go_wp2_with fail;refine(qk4 X d1 S _ H1.1.s H1.2.2.1 HS.2.2.2.2.2 hnt hll).mono ?_;rintro e w2 ⟨K,B,ta,tc,la,lc,rfl,nK,fJ⟩;obtain⟨d2,hd2⟩:∃d2:MD,d1.tabs (.slice ta (S.nt+1) tc) (.slice la (S.li.length+1) lc) d1.jc d1.sin d1.lv d1.ro (S.add K B ta tc la lc).tb (iU X.N (S.add K B ta tc la lc))=d2:=⟨_,rfl⟩;rw[hd2] at fJ;have H2:Hid (Sp X d u d2 w2/\jl X d2 (S.add K B ta tc la lc)/\d2.p={d.p.paid 1 with tab:=d2.tab,jA:=d2.jA,tb:=d2.tb,TP:=d2.TP}/\OwnB w2 b5 #[.int .i64 0,.int .i64 0,.float .f64 0,.string ⟨#[]⟩,.int .i64 0]/\¬stB X d2 b5/\u.heap.size<=b5):=by
  have nb:¬stB X d1 b5:=H1.2.2.2.2.1;refine⟨H1.1.trans fJ,by rw[<-hd2];exact⟨rfl,rfl,rfl,by simp[TS.add]⟩,?_,fJ.g.ownB H1.2.2.2.1 nb,fun e=>nb (fJ.mv b5 H1.2.2.2.1.1.1 e),H1.2.2.2.2.2⟩;have q:d2.p={d1.p with tab:=d2.tab,jA:=d2.jA,tb:=d2.tb,TP:=d2.TP}:=by rw[<-hd2];rfl
  rw[q,H1.2.1]
 have HK:Hid (∀w,gZ w2 w->K<w.heap.size/\w.cell? ⟨K,3,none⟩=some (.int .i64 (S.nt:Int))):=fun w hw=>by
  have h0:=((H2.2.1.is (H2.1.s.call hw)).k S.nt (by show S.nt<S.nt+1;omega)).1;simp only[TS.add,rX,if_true] at h0;exact⟨h0.1.1,h0.1.cell 3 rfl⟩
 have hh2:d2.held.length<=80000:=by
  have:d2.held=d.held:=aJ DP.held H2.2.2.1;rw[this];exact hh
 go_upto_region 3 with fail
 go_cut [] from 15 (fun w=>∃d3,Hid (Sp X d2 w2 d3 w/\d3.p=d2.p.hold [jr S.nt]))
 case first=>
  have KE:Hid (∀w,gZ w2 w->w.cell? ⟨X.F,0,none⟩=some (ptr X.T)):=fun w hw=>(H2.1.s.call hw).f.1.cell 0 rfl;have S0:=KE.out w2.drew ((ay _ _).drew)
  go_region_held3 (fun w'=>w'.cell? ⟨X.F,0,none⟩=some (ptr X.T)) (first|(with_reducible exact S0)|(with_reducible exact S4)|(with_reducible exact Yo)|(with_reducible exact S5)) (first
   |(go_at_call 264;refine(O6 K (S.nt:Int) _ (HK w2.drew ((ay _ _).drew)).1 (HK w2.drew ((ay _ _).drew)).2).mono ?_;rintro e w4 ⟨rfl,eU⟩;have HB4:Hid (gZ w2 w4):=iq ((ay _ _).drew) eU;have S4:=KE.out w4 HB4.out;have Yo:=KE.out (w4.alloc (.cells (vA (jr S.nt)) 61)) (HB4.alloc HB4.size _))
   |(go_at_call 194;refine(L8 X d2 w4.heap.size (jr S.nt) _ ((H2.1.s.call HB4.out).alloc _) (by omega) (Has.new _ _ _)).mono ?_;rintro e w5 ⟨rfl,d5,fP,hd5⟩;have YD:Hid (Sp X d2 w2 d5 w5/\d5.p=d2.p.hold [jr S.nt]):=⟨((Sp.below H2.1.s HB4.out).alloc _).trans fP,hd5⟩;have S5:w5.cell? ⟨X.F,0,none⟩=some (ptr X.T):=fP.s.f.1.cell 0 rfl))
  all_goals
   go_wp2_with fail
   go_meet
   case rel=>exact⟨_,YD⟩
 case rest=>
  obtain⟨d3,H3⟩:=hcut
  rename World=>w3
  have c2:=(H3.1.s.old HS.2.2.2.1.1 HS.2.2.2.1.2).cell 0 rfl;have l2:=(H3.1.s.old HS.2.2.2.1.1 HS.2.2.2.1.2).1;go_wp2_with fail
  go_loopw [25] (fun i wr=>i=.int .i64 0/\wr=w3) (fun _ _=>0)
  case atStart=>exact⟨rfl,rfl⟩
  case round=>
   obtain⟨rfl,rfl⟩:=hrel
   rename World=>w3
   have c3:=(H3.1.s.old HS.2.2.2.2.1.1 HS.2.2.2.2.1.2).cell 0 rfl;have l3:=(H3.1.s.old HS.2.2.2.2.1.1 HS.2.2.2.2.1.2).1;have f0:w3.cell? ⟨X.F,0,none⟩=some (ptr X.T):=H3.1.s.f.1.cell 0 rfl;have lF:=H3.1.s.f.1.1;have hl3:d3.held=d2.held++[jr S.nt]:=aJ DP.held H3.2;have GY:Hid (d3.held=d2.held++[jr S.nt]):=hl3;have gG:d3.held.length<=90000/\1<=d3.held.length:=by rw[hl3];simp;omega
   go_wp2_with (go_at_call 275;refine(qk3 X.F K _).mono ?_;rintro e w4 ⟨rfl,rfl⟩);have hrel:=Gp X d3 1 w4 H3.1.s gG.2 (by omega);refine hrel.mono ?_;rintro e w5 ⟨rfl,d5,fP,hd5⟩;have H5:Hid (Sp X d u d5 w5/\jl X d5 (S.add K B ta tc la lc)/\d5.p={d.p.paid 1 with tab:=d5.tab,jA:=d5.jA,tb:=d5.tb,TP:=d5.TP}/\OwnB w5 b5 #[.int .i64 0,.int .i64 0,.float .f64 0,.string ⟨#[]⟩,.int .i64 0]/\¬stB X d5 b5/\u.heap.size<=b5):=by
    have e5:d5.p=d2.p:=by
     rw[hd5,H3.2];show{d2.p with held:=(d2.held++[jr S.nt]).take (d3.held.length-1)}=d2.p;rw[GY.out];simp;rfl
    have n3:¬stB X d3 b5:=fun e=>H2.2.2.2.2.1 (H3.1.mv b5 H2.2.2.2.1.1.1 e);have b3:=H3.1.g.ownB H2.2.2.2.1 H2.2.2.2.2.1;have o2:=H2.2.1;have et:d5.tab=d2.tab:=aJ DP.tab e5;have el:d5.jA=d2.jA:=aJ DP.jA e5;have eb:d5.tb=d2.tb:=aJ DP.tb e5;have eP:d5.TP=d2.TP:=aJ DP.TP e5;refine⟨(H2.1.trans H3.1).trans fP,⟨eb.trans o2.b,eP.trans o2.p,et.trans o2.t,el.trans o2.l⟩,?_,fP.g.ownB b3 n3,fun e=>n3 (fP.mv b5 b3.1.1 e),H2.2.2.2.2.2⟩;rw[e5,H2.2.2.1,et,el,eb,eP]
   have hk5:K<w5.heap.size/\w5.cell? ⟨K,3,none⟩=some (.int .i64 (S.nt:Int)):=by
    have h0:=((H5.2.1.is H5.1.s).k S.nt (by show S.nt<S.nt+1;omega)).1;simp only[TS.add,rX,if_true] at h0;exact⟨h0.1.1,h0.1.cell 3 rfl⟩
   go_wp2_with fail;refine(O6 K (S.nt:Int) _ hk5.1 hk5.2).mono ?_;rintro e w6 ⟨rfl,eY⟩;have hO:=H5.2.2.2.1.iy eY;have r0:=hO.1.cell 0 rfl;have r1:=hO.1.cell 1 rfl;have r2:=hO.1.cell 2 rfl;have r3:=hO.1.cell 3 rfl;have r4:=hO.1.cell 4 rfl;have rz:=hO.2;have rl:=hO.1.1;have H6:Hid (Sp X d u d5 w6):=H5.1.call eY;go_wp2_with fail;refine aG (v:=(jr S.nt).v) (by simp[results,Tryz.results278,go_sem,r0,r1,r2,r3,r4]) rfl ⟨rfl,⟨K,B,ta,tc,la,lc,d5,?_,H5.2.1,H5.2.2.1⟩⟩;refine Sp.beside HS.1 H6 (g:=b5) ?_ H5.2.2.2.2.2 H5.2.2.2.2.1;exact((((Gx.set _ _ _ _).trans (Gx.set _ _ _ _) (fun _ _ e=>e)).trans (Gx.set _ _ _ _) (fun _ _ e=>e)).trans (Gx.set _ _ _ _) (fun _ _ e=>e)).trans (Gx.set _ _ _ _) (fun _ _ e=>e)
theorem OwnB.GR{w:World}{B:Nat}{A:Array Value}(h:OwnB w B A):OwnB w.drew B A:=h.iy (ay _ _).drew
theorem qu5(s:ByteArray)(w:World):Calls Tryz.prog 53 #[.string s] w fun e w'=>e=.returned (iJ 4 0 0 s 0)/\gZ w w':=by
 go_in;go_wp2_with fail;refine(zx1 s _).mono ?_;rintro e w1 ⟨rfl,hb⟩;have hO:=(OwnB.new w #[.int .i64 0,.int .i64 0,.float .f64 0,.string ⟨#[]⟩,.int .i64 0] 61).iy hb;have r0:=hO.1.cell 0 rfl;have r1:=hO.1.cell 1 rfl;have r2:=hO.1.cell 2 rfl;have r3:=hO.1.cell 3 rfl;have r4:=hO.1.cell 4 rfl;have rz:=hO.2;have HB:Hid (gZ w w1):=iq (q01 _ _) hb;go_wp2_with fail;exact aG (v:=iJ 4 0 0 s 0) (by simp[results,Tryz.results53,go_sem,r0,r1,r2,r3,r4]) rfl ⟨rfl,pO HB.out (ah _) _ _ _ _ _⟩
abbrev pV(s:ByteArray):VD:=⟨4,0,0,s,0⟩
theorem zp4(K:Nat)(x:VD)(s:ByteArray)(w:World)(h:∀w',gZ w w'->Calls Tryz.prog 153 #[ptr K,iJ 4 0 0 s 0] w' fun e w''=>e=.returned (iJ x.k x.n x.f x.s x.r)/\gZ w' w''):Calls Tryz.prog 95 #[ptr K,.string s] w fun e w'=>e=.returned (iJ x.k x.n x.f x.s x.r)/\gZ w w':=by
 have HE:Hid (∀w',gZ w w'->Calls Tryz.prog 153 #[ptr K,iJ 4 0 0 s 0] w' fun e w''=>e=.returned (iJ x.k x.n x.f x.s x.r)/\gZ w' w''):=h;go_in
 go_upto_region 1 with fail
 obtain⟨w0,hw0⟩:∃w0,w.alloc (.cells #[.int .i64 0,.int .i64 0,.float .f64 0,.string ⟨#[]⟩,.int .i64 0] 61)=w0:=⟨_,rfl⟩;have HO:Hid (OwnB w0 w.heap.size #[.int .i64 0,.int .i64 0,.float .f64 0,.string ⟨#[]⟩,.int .i64 0]):=by rw[<-hw0];exact OwnB.new w _ _
 have HB:Hid (gZ w w0):=by rw[<-hw0];exact q01 _ _
 rw[hw0]
 go_region_with (first|(go_at_call 53;refine(qu5 _ _).mono ?_;rintro e w1 ⟨rfl,eu⟩;replace HO:Hid (OwnB w1 w.heap.size #[.int .i64 0,.int .i64 0,.float .f64 0,.string ⟨#[]⟩,.int .i64 0]):=(by first|exact HO.iy eu|exact HO.GR.iy eu);replace HB:Hid (gZ w w1):=(by first|exact iq HB.out eu|exact iq HB.drew eu))|(go_at_call 153;refine(HE _ HB).mono ?_;rintro e w2 ⟨rfl,eG⟩;replace HO:Hid (OwnB w2 w.heap.size #[.int .i64 0,.int .i64 0,.float .f64 0,.string ⟨#[]⟩,.int .i64 0]):=(by first|exact HO.iy eG|exact HO.GR.iy eG);replace HB:Hid (gZ w w2):=(by first|exact iq HB.out eG|exact iq HB.drew eG);have r0:=HO.1.cell 0 rfl;have r1:=HO.1.cell 1 rfl;have r2:=HO.1.cell 2 rfl;have r3:=HO.1.cell 3 rfl;have r4:=HO.1.cell 4 rfl;have rz:=HO.2;have rl:=HO.1.1))
 all_goals go_wp2_with fail
 all_goals exact aG (v:=iJ x.k x.n x.f x.s x.r) (by simp[results,Tryz.results95,go_sem,r0,r1,r2,r3,r4]) rfl ⟨rfl,pO HB.out (ah _) _ _ _ _ _⟩
abbrev ET(S:TS)(j:Nat)(s:ByteArray):VD:=(gt (S.D j).q (mk (pV s)) (S.D j).n).val
theorem ze5(X:RX)(d:MD)(S:TS)(j:Nat)(s:ByteArray)(u:World)(h:St X d u)(o:jl X d S)(hj:j<S.nt):Calls Tryz.prog 95 #[ptr (S.K j),.string s] u fun e w'=>e=.returned (ET S j s).v/\gZ u w':=
 zp4 (S.K j) (ET S j s) s u fun w' hw=>by
  have hT:=o.is (h.call hw);exact ZM (S.K j) (S.a j) (S.D j).n (S.c j) (S.B j) (S.D j).t (S.D j).q (pV s) w' (hT.ok j hj) (hT.box hj)
theorem qr9(K:Nat)(s:ByteArray)(u:World)(c4:u.cell? ⟨K,4,none⟩=some (.pointer none))(lk:K<u.heap.size):Calls Tryz.prog 266 #[ptr K,.string s] u fun e w'=>e=.returned (iJ 0 0 0 ⟨#[]⟩ 0)/\gZ u w':=by
 go_in;go_wp2_with fail;refine aG (v:=iJ 0 0 0 ⟨#[]⟩ 0) (by simp[results,Tryz.results266,go_sem]) rfl ⟨rfl,?_⟩
 with_reducible exact q01 _ _
theorem qx5(K I:Nat)(x:VD)(s:ByteArray)(u:World)(c4:u.cell? ⟨K,4,none⟩=some (ptr I))(lk:K<u.heap.size)(h:∀w',gZ u w'->Calls Tryz.prog 95 #[ptr I,.string s] w' fun e w''=>e=.returned (iJ x.k x.n x.f x.s x.r)/\gZ w' w''):Calls Tryz.prog 266 #[ptr K,.string s] u fun e w'=>e=.returned (iJ x.k x.n x.f x.s x.r)/\gZ u w':=by
 have HE:Hid (∀w',gZ u w'->Calls Tryz.prog 95 #[ptr I,.string s] w' fun e w''=>e=.returned (iJ x.k x.n x.f x.s x.r)/\gZ w' w''):=h;go_in;go_wp2_with fail;refine(HE _ (q01 _ _)).mono ?_;rintro e w1 ⟨rfl,eu⟩;have hO:=(OwnB.new u #[.int .i64 0,.int .i64 0,.float .f64 0,.string ⟨#[]⟩,.int .i64 0] 61).iy eu;have r0:=hO.1.cell 0 rfl;have r1:=hO.1.cell 1 rfl;have r2:=hO.1.cell 2 rfl;have r3:=hO.1.cell 3 rfl;have r4:=hO.1.cell 4 rfl;have rz:=hO.2;have rl:=hO.1.1;have HB:Hid (gZ u w1):=iq (q01 _ _) eu;go_wp2_with fail;exact aG (v:=iJ x.k x.n x.f x.s x.r) (by simp[results,Tryz.results266,go_sem,r0,r1,r2,r3,r4]) rfl ⟨rfl,pO HB.out (ah _) _ _ _ _ _⟩
def vH(S:TS)(j:Nat):Option Nat->Prop
 |none=>S.kd j=.pointer none
 |some i=>S.kd j=ptr (S.K i)/\i<S.nt
def hdl(S:TS)(k:Option Nat)(s:ByteArray):VD:=match k with
 |none=>vz
 |some i=>ET S i s
theorem SI(X:RX)(d:MD)(S:TS)(j:Nat)(k:Option Nat)(s:ByteArray)(u:World)(h:St X d u)(o:jl X d S)(hj:j<S.nt)(hk:vH S j k):Calls Tryz.prog 266 #[ptr (S.K j),.string s] u fun e w'=>e=.returned (hdl S k s).v/\gZ u w':=by
 have hO:=((o.is h).k j hj).1;have c4:u.cell? ⟨S.K j,4,none⟩=some (S.kd j):=hO.1.cell 4 rfl
 cases k with
 |none=>
  have hk':S.kd j=.pointer none:=hk;rw[hk'] at c4;exact qr9 (S.K j) s u c4 hO.1.1
 |some i=>
  obtain⟨hk1,hi⟩:=hk;rw[hk1] at c4;exact qx5 (S.K j) (S.K i) (ET S i s) s u c4 hO.1.1 fun w' hw=>ze5 X d S i s w' (h.call hw) o hi
theorem O9(X:RX)(d:MD)(S:TS)(j:Nat)(u:World)(h:St X d u)(o:jl X d S)(hj:j<S.nt)(hv:S.tv j=ptr (S.K j)):Calls Tryz.prog 94 #[ptr X.M,iJ 5 0 0 ⟨#[]⟩ (j:Int)] u fun e w'=>e=.returned (ptr (S.K j))/\gZ u w':=by
 have m16:u.cell? ⟨X.M,16,none⟩=some (.slice S.ta S.nt S.tc):=by rw[<-o.t];exact h.m.1.cell 16 rfl
 obtain⟨g,hg,hl,hc⟩:=(o.is h).at hj;rw[hg] at m16;rw[hv] at hc;have lM:=h.m.1.1;have i0:(0:Int)<=(j:Int):=aS _;have i1:(j:Int)<(S.nt:Int):=by omega
 go_in;go_wp2_with fail
 go_region_with fail
 all_goals go_wp2_with fail
 all_goals go_ret
 all_goals exact⟨rfl,(q01 _ _).drew⟩
end
section
open Go.RowKit
def TS.kind(S:TS)(j:Nat)(v:Value):TS:={S with kd:=fun i=>if i=j then v else S.kd i}
def TS.ng(S:TS)(j r:Nat):TS:={S with se:=fun i=>if i=j then r else S.se i}
section
variable {N:Nat}{S:TS}{u:World}{j o:Nat}{v:Value}
theorem iU.cell(h:iU N S u)(hj:j<S.nt)(ho:o<7){S':TS}(e1:S'.nt=S.nt)(e2:S'.K=S.K)(e3:S'.B=S.B)(e4:S'.D=S.D)(e5:S'.a=S.a)(e6:S'.c=S.c)(e7:S'.tv=S.tv)(e8:S'.li=S.li)(e9:S'.ta=S.ta/\S'.tc=S.tc/\S'.la=S.la/\S'.lc=S.lc)(eo:∀i,i≠j->S'.kd i=S.kd i/\S'.se i=S.se i)(ec:(rX S j).setIfInBounds o v=rX S' j):iU N S' (u.setCell ⟨S.K j,o,none⟩ v):=by
 obtain⟨nt,K,B,D,a,c,kd,se,tv,li,ta,tc,la,lc⟩:=S';simp only at e1 e2 e3 e4 e5 e6 e7 e8 e9 eo;obtain⟨f1,f2,f3,f4⟩:=e9;subst e1 e2 e3 e4 e5 e6 e7 e8 f1 f2 f3 f4;refine⟨q23 h.r _ fun k e c=>(h.kr j hj).1 (by rw[<-c];exact(jg _ _ _).symm.trans e),q23 h.l _ fun k e c=>(h.kr j hj).2 (by rw[<-c];exact(jg _ _ _).symm.trans e),h.rl,fun i hi=>?_,fun i hi=>⟨Sr (h.m i hi).1 (a:=⟨S.K j,o,none⟩) (La (h.m i hi).1 ((h.k j hj).1.1.cell 0 rfl)) _,(h.m i hi).2⟩,fun i hi=>q23 (h.p i hi) _ fun k e c=>h.kp i j hi hj (by rw[<-c];exact(jg _ _ _).symm.trans e),h.ki,h.bi,h.pi,h.kp,h.kr,h.ok⟩;by_cases q:i=j
 ·subst q;refine⟨?_,(h.k i hi).2⟩;have:=(h.k i hi).1.set (o:=o) (by show o<7;exact ho) v;rw[ec] at this;exact this
 ·refine⟨?_,(h.k i hi).2⟩;have h0:=kR (o:=o) (v:=v) (h.k i hi).1 (fun e=>q (h.ki i j hi hj e));obtain⟨g1,g2⟩:=eo i q;simp only[rX,g1,g2];exact h0
theorem iU.kind(h:iU N S u)(hj:j<S.nt)(v:Value):iU N (S.kind j v) (u.setCell ⟨S.K j,4,none⟩ v):=
 h.cell hj (by omega) rfl rfl rfl rfl rfl rfl rfl rfl ⟨rfl,rfl,rfl,rfl⟩ (fun i q=>⟨au q,rfl⟩) (by simp[rX,TS.kind])
theorem iU.ng(h:iU N S u)(hj:j<S.nt)(r:Nat):iU N (S.ng j r) (u.setCell ⟨S.K j,6,none⟩ (.int .i64 (r:Int))):=
 h.cell hj (by omega) rfl rfl rfl rfl rfl rfl rfl rfl ⟨rfl,rfl,rfl,rfl⟩ (fun i q=>⟨rfl,au q⟩) (by simp[rX,TS.ng])
theorem iU.same(h:iU N S u)(hj:j<S.nt):iU N S (u.setCell ⟨S.K j,5,none⟩ (.bool false)):=
 h.cell hj (by omega) rfl rfl rfl rfl rfl rfl rfl rfl ⟨rfl,rfl,rfl,rfl⟩ (fun i q=>⟨rfl,rfl⟩) (by simp[rX])
end
theorem Sp.cell{X:RX}{d:MD}{S S':TS}{u:World}{j o:Nat}{v:Value}(h:St X d u)(ob:jl X d S)(hj:j<S.nt)(hT:iU X.N S' (u.setCell ⟨S.K j,o,none⟩ v))(eb:S'.tb=S.tb)(et:S'.ta=S.ta/\S'.nt=S.nt/\S'.tc=S.tc)(el:S'.la=S.la/\S'.li=S.li/\S'.lc=S.lc):Sp X d u (d.tabs d.tab d.jA d.jc d.sin d.lv d.ro S'.tb (iU X.N S')) (u.setCell ⟨S.K j,o,none⟩ v)/\jl X (d.tabs d.tab d.jA d.jc d.sin d.lv d.ro S'.tb (iU X.N S')) S':=by
 have hK:d.tb (S.K j):=by rw[ob.b];exact .inl ⟨j,hj,.inl rfl⟩
 have nM:X.M≠S.K j:=fun e=>h.ts _ hK (.inl e.symm);refine⟨Sp.tabs h ((Gx.set u (S.K j) o v).mono (fun k e=>.inr (by rw[e];exact hK))) (kR h.m nM) (h.ty.m.set _ _) hT.KR (fun k _ e=>by rw[ob.b,<-eb];exact e),⟨rfl,rfl,?_,?_⟩⟩
 ·rw[et.1,et.2.1,et.2.2];exact ob.t
 ·rw[el.1,el.2.1,el.2.2];exact ob.l
end
section
open Go.RowKit
attribute [local go_sem] iD
attribute [local go_sem ↓] Go.wp_at_zero Go.wp_at_succ
abbrev MS:ByteArray:=⟨#[108,97,115,116]⟩
def yu8(X:RX)(d:MD)(S:TS)(i j:Nat)(u:World)(w':World):Prop:=∃d',Sp X d u d' w'/\jl X d' (S.kind i (ptr (S.K j)))/\d'.p={d.p with tb:=d'.tb,TP:=d'.TP}
theorem z82(X:RX)(d:MD)(S:TS)(i j:Nat)(u:World)(h:St X d u)(o:jl X d S)(hi:i<S.nt)(hj:j<S.nt)(vi:S.tv i=ptr (S.K i))(vj:S.tv j=ptr (S.K j))(hl:(ET S j MS).k≠6):Calls Tryz.prog 299 #[ptr X.M,iJ 5 0 0 ⟨#[]⟩ (i:Int),iJ 5 0 0 ⟨#[]⟩ (j:Int)] u fun e w'=>e=.returned (iJ 5 0 0 ⟨#[]⟩ (i:Int))/\yu8 X d S i j u w':=by
 have HS:Hid (St X d u/\jl X d S):=⟨h,o⟩;have HT1:Hid (∀w,gZ u w->Calls Tryz.prog 94 #[ptr X.M,iJ 5 0 0 ⟨#[]⟩ (i:Int)] w fun e w'=>e=.returned (ptr (S.K i))/\gZ w w'):=fun w hw=>O9 X d S i w (h.call hw) o hi vi;have HT2:Hid (∀w,gZ u w->Calls Tryz.prog 94 #[ptr X.M,iJ 5 0 0 ⟨#[]⟩ (j:Int)] w fun e w'=>e=.returned (ptr (S.K j))/\gZ w w'):=fun w hw=>O9 X d S j w (h.call hw) o hj vj;go_in
 go_upto_region 1 with fail
 obtain⟨w1,fQ⟩:∃w1,((u.alloc (.cells #[.int .i64 5,.int .i64 0,.float .f64 0,.string ⟨#[]⟩,.int .i64 (i:Int)] 61)).alloc (.cells #[.int .i64 5,.int .i64 0,.float .f64 0,.string ⟨#[]⟩,.int .i64 (j:Int)] 61)).alloc (.cells #[.int .i64 0,.int .i64 0,.float .f64 0,.string ⟨#[]⟩,.int .i64 0] 61)=w1:=⟨_,rfl⟩;obtain⟨b4,eU⟩:∃b4,u.heap.size=b4:=⟨_,rfl⟩;obtain⟨b5,eX⟩:∃b5,u.heap.size+1=b5:=⟨_,rfl⟩;obtain⟨b6,eY⟩:∃b6,u.heap.size+1 + 1=b6:=⟨_,rfl⟩;have H1:Hid (gZ u w1/\OwnB w1 b4 #[.int .i64 5,.int .i64 0,.float .f64 0,.string ⟨#[]⟩,.int .i64 (i:Int)]/\OwnB w1 b5 #[.int .i64 5,.int .i64 0,.float .f64 0,.string ⟨#[]⟩,.int .i64 (j:Int)]/\OwnB w1 b6 #[.int .i64 0,.int .i64 0,.float .f64 0,.string ⟨#[]⟩,.int .i64 0]/\u.heap.size<=b4/\u.heap.size<=b5/\u.heap.size<=b6):=by
  rw[<-fQ,<-eU,<-eX,<-eY];have h3:=OwnB.new ((u.alloc (.cells #[.int .i64 5,.int .i64 0,.float .f64 0,.string ⟨#[]⟩,.int .i64 (i:Int)] 61)).alloc (.cells #[.int .i64 5,.int .i64 0,.float .f64 0,.string ⟨#[]⟩,.int .i64 (j:Int)] 61)) #[.int .i64 0,.int .i64 0,.float .f64 0,.string ⟨#[]⟩,.int .i64 0] 61;rw[aN,aN] at h3;exact⟨((q01 _ _).alloc (by rw[aN];omega) _).alloc (by rw[aN,aN];omega) _,((OwnB.new _ _ _).iy (q01 _ _)).iy (q01 _ _),(zN _ _ _ _).iy (q01 _ _),h3,by omega,by omega,by omega⟩
 rw[fQ,eY,eX,eU];have HC:Hid (∀w,gZ w1 w->w.cell? ⟨b4,0,none⟩=some (.int .i64 5)/\w.cell? ⟨b4,1,none⟩=some (.int .i64 0)/\w.cell? ⟨b4,2,none⟩=some (.float .f64 0)/\w.cell? ⟨b4,3,none⟩=some (.string ⟨#[]⟩)/\w.cell? ⟨b4,4,none⟩=some (.int .i64 (i:Int))/\w.cell? ⟨b5,0,none⟩=some (.int .i64 5)/\w.cell? ⟨b5,1,none⟩=some (.int .i64 0)/\w.cell? ⟨b5,2,none⟩=some (.float .f64 0)/\w.cell? ⟨b5,3,none⟩=some (.string ⟨#[]⟩)/\w.cell? ⟨b5,4,none⟩=some (.int .i64 (j:Int))):=fun w hw=>⟨(H1.2.1.iy hw).1.cell 0 rfl,(H1.2.1.iy hw).1.cell 1 rfl,(H1.2.1.iy hw).1.cell 2 rfl,(H1.2.1.iy hw).1.cell 3 rfl,(H1.2.1.iy hw).1.cell 4 rfl,(H1.2.2.1.iy hw).1.cell 0 rfl,(H1.2.2.1.iy hw).1.cell 1 rfl,(H1.2.2.1.iy hw).1.cell 2 rfl,(H1.2.2.1.iy hw).1.cell 3 rfl,(H1.2.2.1.iy hw).1.cell 4 rfl⟩
 go_cut [7,8] from 9 (fun s7 s8 w=>s7=ptr (S.K i)/\s8=ptr (S.K j)/\Hid (gZ w1 w))
 case first=>
  have S0:=HC.out w1.drew ((ay _ _).drew)
  go_region_held3 (fun w'=>w'.cell? ⟨b4,0,none⟩=some (.int .i64 5)/\w'.cell? ⟨b4,1,none⟩=some (.int .i64 0)/\w'.cell? ⟨b4,2,none⟩=some (.float .f64 0)/\w'.cell? ⟨b4,3,none⟩=some (.string ⟨#[]⟩)/\w'.cell? ⟨b4,4,none⟩=some (.int .i64 (i:Int))/\w'.cell? ⟨b5,0,none⟩=some (.int .i64 5)/\w'.cell? ⟨b5,1,none⟩=some (.int .i64 0)/\w'.cell? ⟨b5,2,none⟩=some (.float .f64 0)/\w'.cell? ⟨b5,3,none⟩=some (.string ⟨#[]⟩)/\w'.cell? ⟨b5,4,none⟩=some (.int .i64 (j:Int))) (first|(with_reducible exact S0)|(with_reducible exact S3)|(with_reducible exact S2)) (first
   |(have hz:=fD.out;go_at_call 94;refine(HT2 w2 (iq H1.1 fD)).mono ?_;rintro e w3 ⟨rfl,eH⟩;have HB3:Hid (gZ w1 w3):=iq fD.out eH;have S3:=HC.out w3 HB3.out)
   |(go_at_call 94;refine(HT1 w1.drew (iq H1.1 ((ay _ _).drew))).mono ?_;rintro e w2 ⟨rfl,eG⟩;have fD:Hid (gZ w1 w2):=iq ((ay _ _).drew) eG;have S2:=HC.out w2 fD.out))
  all_goals
   go_wp2_with fail
   go_meet
   case rel=>exact⟨rfl,rfl,HB3.out⟩
 case rest=>
  obtain⟨rfl,rfl,YZ⟩:=hcut
  rename World=>w2
  have HS2:Hid (Sp X d u d w2):=(Sp.below HS.1 H1.1).call YZ.out;have hO2:=((HS.2.is HS2.s).k i hi).1;have k4:w2.cell? ⟨S.K i,4,none⟩=some (S.kd i):=hO2.1.cell 4 rfl;have kz:=hO2.2;have kl:=hO2.1.1;have Uf:Hid (OwnB w2 b4 #[.int .i64 5,.int .i64 0,.float .f64 0,.string ⟨#[]⟩,.int .i64 (i:Int)]/\OwnB w2 b6 #[.int .i64 0,.int .i64 0,.float .f64 0,.string ⟨#[]⟩,.int .i64 0]):=⟨H1.2.1.iy YZ.out,H1.2.2.2.1.iy YZ.out⟩;have HN:Hid (u.heap.size<=b4/\u.heap.size<=b6):=⟨H1.2.2.2.2.1,H1.2.2.2.2.2.2⟩
  go_upto_region 5 with fail
  obtain⟨w3,fV⟩:∃w3,w2.setCell ⟨S.K i,4,none⟩ (ptr (S.K j))=w3:=⟨_,rfl⟩;obtain⟨fM,o3⟩:=Sp.cell HS2.s HS.2 hi ((HS.2.is HS2.s).kind hi (ptr (S.K j))) rfl ⟨rfl,rfl,rfl⟩ ⟨rfl,rfl,rfl⟩;obtain⟨d3,hd3⟩:∃d3:MD,d.tabs d.tab d.jA d.jc d.sin d.lv d.ro (S.kind i (ptr (S.K j))).tb (iU X.N (S.kind i (ptr (S.K j))))=d3:=⟨_,rfl⟩;rw[hd3,fV] at fM;rw[hd3] at o3;have hp3:d3.p={d.p with tb:=d3.tb,TP:=d3.TP}:=by rw[<-hd3];rfl
  have H3:Hid (Sp X d u d3 w3/\jl X d3 (S.kind i (ptr (S.K j)))/\d3.p={d.p with tb:=d3.tb,TP:=d3.TP}):=⟨HS2.trans fM,o3,hp3⟩;have n4:¬stB X d b4:=HS.1.other HN.1;have n6:¬stB X d b6:=HS.1.other HN.2;have HB3:Hid (OwnB w3 b4 #[.int .i64 5,.int .i64 0,.float .f64 0,.string ⟨#[]⟩,.int .i64 (i:Int)]/\OwnB w3 b6 #[.int .i64 0,.int .i64 0,.float .f64 0,.string ⟨#[]⟩,.int .i64 0]/\¬stB X d3 b4/\¬stB X d3 b6):=⟨fM.g.ownB Uf.1 n4,fM.g.ownB Uf.2 n6,fun e=>n4 (fM.mv _ Uf.1.1.1 e),fun e=>n6 (fM.mv _ Uf.2.1.1 e)⟩;rw[fV];obtain⟨x,hx⟩:∃x,ET S j MS=x:=⟨_,rfl⟩;have HH:Hid (Calls Tryz.prog 266 #[ptr (S.K i),.string MS] w3 fun e w'=>e=.returned (iJ x.k x.n x.f x.s x.r)/\gZ w3 w'):=by
   have:=SI X d3 (S.kind i (ptr (S.K j))) i (some j) MS w3 H3.1.s H3.2.1 hi ⟨by simp[TS.kind],hj⟩;rw[<-hx];exact this
  have hfk:=z56 x.k x.n x.f x.s x.r;rw[hx] at hl;have hlb:(x.k==6)=false:=by simpa using hl
  go_wp2_with fail;refine HH.mono ?_;rintro e w4 ⟨rfl,eU⟩;have H4:Hid (Sp X d u d3 w4/\OwnB w4 b4 #[.int .i64 5,.int .i64 0,.float .f64 0,.string ⟨#[]⟩,.int .i64 (i:Int)]/\OwnB w4 b6 #[.int .i64 0,.int .i64 0,.float .f64 0,.string ⟨#[]⟩,.int .i64 0]):=⟨H3.1.call eU,HB3.1.iy eU,HB3.2.1.iy eU⟩;have hO4:=((H3.2.1.is H4.1.s).k i hi).1;have k5:w4.cell? ⟨S.K i,5,none⟩=some (.bool false):=hO4.1.cell 5 rfl;have kz:=hO4.2;replace kz:∀o,w4.frozen? ⟨S.K i,o,none⟩=false:=kz;have kl:S.K i<w4.heap.size:=hO4.1.1
  go_upto_region 6 with fail
  obtain⟨w5,hw5⟩:∃w5,w4.setCell ⟨S.K i,5,none⟩ (.bool false)=w5:=⟨_,rfl⟩;obtain⟨fP,o5⟩:=Sp.cell (S:=S.kind i (ptr (S.K j))) (S':=S.kind i (ptr (S.K j))) (j:=i) (o:=5) (v:=.bool false) H4.1.s H3.2.1 hi ((H3.2.1.is H4.1.s).same hi) rfl ⟨rfl,rfl,rfl⟩ ⟨rfl,rfl,rfl⟩;replace fP:Sp X d3 w4 (d3.tabs d3.tab d3.jA d3.jc d3.sin d3.lv d3.ro (S.kind i (ptr (S.K j))).tb (iU X.N (S.kind i (ptr (S.K j))))) (w4.setCell ⟨S.K i,5,none⟩ (.bool false)):=fP;rw[hw5] at fP;rw[hw5];obtain⟨d5,hd5⟩:∃d5:MD,d3.tabs d3.tab d3.jA d3.jc d3.sin d3.lv d3.ro (S.kind i (ptr (S.K j))).tb (iU X.N (S.kind i (ptr (S.K j))))=d5:=⟨_,rfl⟩;rw[hd5] at fP o5;have qY:d5.p={d.p with tb:=d5.tb,TP:=d5.TP}:=by
   have q:d5.p={d3.p with tb:=d5.tb,TP:=d5.TP}:=by rw[<-hd5];rfl
   rw[q,H3.2.2]
  have n6:¬stB X d5 b6:=fun e=>HB3.2.2.2 (fP.mv b6 H4.2.2.1.1 e);have g4:=fP.g.ownB H4.2.1 HB3.2.2.1;have g6:=fP.g.ownB H4.2.2 HB3.2.2.2;have H5:Hid (Sp X d u d5 w5/\jl X d5 (S.kind i (ptr (S.K j)))/\d5.p={d.p with tb:=d5.tb,TP:=d5.TP}/\¬stB X d5 b6):=⟨H4.1.trans fP,o5,qY,n6⟩;have q0:=g4.1.cell 0 rfl;have q1:=g4.1.cell 1 rfl;have q2:=g4.1.cell 2 rfl;have q3:=g4.1.cell 3 rfl;have q4:=g4.1.cell 4 rfl;have r0:=g6.1.cell 0 rfl;have r1:=g6.1.cell 1 rfl;have r2:=g6.1.cell 2 rfl;have r3:=g6.1.cell 3 rfl;have r4:=g6.1.cell 4 rfl;have rz:=g6.2;have rl:=g6.1.1;have ql:=g4.1.1;go_wp2_with fail;refine aG (v:=iJ 5 0 0 ⟨#[]⟩ (i:Int)) (by simp[results,Tryz.results299,go_sem,r0,r1,r2,r3,r4]) rfl ⟨rfl,⟨d5,?_,H5.2.1,H5.2.2.1⟩⟩;refine Sp.beside HS.1 H5.1 (g:=b6) ?_ HN.2 H5.2.2.2;exact((((Gx.set _ _ _ _).trans (Gx.set _ _ _ _) (fun _ _ e=>e)).trans (Gx.set _ _ _ _) (fun _ _ e=>e)).trans (Gx.set _ _ _ _) (fun _ _ e=>e)).trans (Gx.set _ _ _ _) (fun _ _ e=>e)
abbrev RD:ByteArray:=⟨#[115,101,116,105,110,100,101,120]⟩
theorem zp1(c k n:Int)(f:Nat)(s:ByteArray)(r:Int)(w:World):(Instr.field 349 (gV c k n f s r) 0).run Tryz.prog w=.ok (.int .i64 c) w:=by kernel_rfl
theorem zk4(X:RX)(d:MD)(S:TS)(i:Nat)(kk:Option Nat)(y v:VD)(u:World)(h:St X d u)(o:jl X d S)(hi:i<S.nt)(vi:S.tv i=ptr (S.K i))(hk:vH S i kk)(hh:(hdl S kk RD).k=0)(hc:kc y=0)(hky:kv y=y)(yf:y.f<2 ^ 64)(hput:∀w,St X d w->Calls Tryz.prog 280 #[ptr X.M,ptr (S.K i),iJ y.k y.n y.f y.s y.r,iJ v.k v.n v.f v.s v.r] w fun e w'=>e=.returned (.tuple #[])/\DR X d S i y v w w'):Calls Tryz.prog 245 #[ptr X.M,iJ 5 0 0 ⟨#[]⟩ (i:Int),iJ y.k y.n y.f y.s y.r,iJ v.k v.n v.f v.s v.r] u fun e w'=>e=.returned (.tuple #[])/\DR X d S i y v u w':=by
 have HS:Hid (St X d u):=h;have HT:Hid (∀w,gZ u w->Calls Tryz.prog 94 #[ptr X.M,iJ 5 0 0 ⟨#[]⟩ (i:Int)] w fun e w'=>e=.returned (ptr (S.K i))/\gZ w w'):=fun w hw=>O9 X d S i w (h.call hw) o hi vi;obtain⟨x,hx⟩:∃x,hdl S kk RD=x:=⟨_,rfl⟩;have HH:Hid (∀w,gZ u w->Calls Tryz.prog 266 #[ptr (S.K i),.string RD] w fun e w'=>e=.returned (iJ x.k x.n x.f x.s x.r)/\gZ w w'):=fun w hw=>by
  have:=SI X d S i kk RD w (h.call hw) o hi hk;rw[hx] at this;exact this
 have YO:Hid (∀w,Calls Tryz.prog 292 #[iJ y.k y.n y.f y.s y.r] w fun e w'=>e=.returned (gV 0 y.k y.n y.f y.s y.r)/\gZ w w'):=by
  intro w;have:=qm9 y.k y.n y.f y.s y.r yf w;rw[yt0,hc,hky] at this;exact this
 have HP:Hid (∀w,St X d w->Calls Tryz.prog 280 #[ptr X.M,ptr (S.K i),iJ y.k y.n y.f y.s y.r,iJ v.k v.n v.f v.s v.r] w fun e w'=>e=.returned (.tuple #[])/\DR X d S i y v w w'):=hput;rw[hx] at hh;have hxb:(x.k==0)=true:=by simpa using hh
 have hfc:=zp1 0 y.k y.n y.f y.s y.r;go_in;go_wp2_with fail;refine bW 1 ?_;rw[bC];go_wp2_with fail;obtain⟨w1,fQ⟩:∃w1,((u.alloc (.cells #[.int .i64 5,.int .i64 0,.float .f64 0,.string ⟨#[]⟩,.int .i64 (i:Int)] 61)).alloc (.cells #[.int .i64 y.k,.int .i64 y.n,.float .f64 y.f,.string y.s,.int .i64 y.r] 61)).alloc (.cells #[.int .i64 v.k,.int .i64 v.n,.float .f64 v.f,.string v.s,.int .i64 v.r] 61)=w1:=⟨_,rfl⟩;obtain⟨b5,eX⟩:∃b5,u.heap.size=b5:=⟨_,rfl⟩;obtain⟨b6,eY⟩:∃b6,u.heap.size+1=b6:=⟨_,rfl⟩;obtain⟨b7,hb7⟩:∃b7,u.heap.size+1 + 1=b7:=⟨_,rfl⟩;have H1:Hid (gZ u w1/\OwnB w1 b6 #[.int .i64 y.k,.int .i64 y.n,.float .f64 y.f,.string y.s,.int .i64 y.r]/\OwnB w1 b7 #[.int .i64 v.k,.int .i64 v.n,.float .f64 v.f,.string v.s,.int .i64 v.r]):=by
  rw[<-fQ,<-eY,<-hb7];have h3:=OwnB.new ((u.alloc (.cells #[.int .i64 5,.int .i64 0,.float .f64 0,.string ⟨#[]⟩,.int .i64 (i:Int)] 61)).alloc (.cells #[.int .i64 y.k,.int .i64 y.n,.float .f64 y.f,.string y.s,.int .i64 y.r] 61)) #[.int .i64 v.k,.int .i64 v.n,.float .f64 v.f,.string v.s,.int .i64 v.r] 61;rw[aN,aN] at h3;exact⟨((q01 _ _).alloc (by rw[aN];omega) _).alloc (by rw[aN,aN];omega) _,(zN _ _ _ _).iy (q01 _ _),h3⟩
 rw[fQ,hb7,eY,eX];refine(HT w1 H1.1).mono ?_;rintro e w2 ⟨rfl,eG⟩;have H2:Hid (gZ u w2/\OwnB w2 b6 #[.int .i64 y.k,.int .i64 y.n,.float .f64 y.f,.string y.s,.int .i64 y.r]/\OwnB w2 b7 #[.int .i64 v.k,.int .i64 v.n,.float .f64 v.f,.string v.s,.int .i64 v.r]):=⟨iq H1.1 eG,H1.2.1.iy eG,H1.2.2.iy eG⟩;have p0:=H2.2.1.1.cell 0 rfl;have p1:=H2.2.1.1.cell 1 rfl;have p2:=H2.2.1.1.cell 2 rfl;have p3:=H2.2.1.1.cell 3 rfl;have p4:=H2.2.1.1.cell 4 rfl;have pl:=H2.2.1.1.1;go_wp2_with fail;refine(YO w2).mono ?_;rintro e w3 ⟨rfl,eH⟩;have H3:Hid (gZ u w3/\OwnB w3 b6 #[.int .i64 y.k,.int .i64 y.n,.float .f64 y.f,.string y.s,.int .i64 y.r]/\OwnB w3 b7 #[.int .i64 v.k,.int .i64 v.n,.float .f64 v.f,.string v.s,.int .i64 v.r]):=⟨iq H2.1 eH,H2.2.1.iy eH,H2.2.2.iy eH⟩;go_wp2_with fail;refine(HH w3 H3.1).mono ?_;rintro e w4 ⟨rfl,eU⟩;have H4:Hid (gZ u w4/\OwnB w4 b6 #[.int .i64 y.k,.int .i64 y.n,.float .f64 y.f,.string y.s,.int .i64 y.r]/\OwnB w4 b7 #[.int .i64 v.k,.int .i64 v.n,.float .f64 v.f,.string v.s,.int .i64 v.r]):=⟨iq H3.1 eU,H3.2.1.iy eU,H3.2.2.iy eU⟩;have q6:=H4.2.1.iy (q01 w4 (.cells #[.int .i64 x.k,.int .i64 x.n,.float .f64 x.f,.string x.s,.int .i64 x.r] 61));have q7:=H4.2.2.iy (q01 w4 (.cells #[.int .i64 x.k,.int .i64 x.n,.float .f64 x.f,.string x.s,.int .i64 x.r] 61));have a0:=q6.1.cell 0 rfl;have a1:=q6.1.cell 1 rfl;have a2:=q6.1.cell 2 rfl;have a3:=q6.1.cell 3 rfl;have a4:=q6.1.cell 4 rfl;have c0:=q7.1.cell 0 rfl;have c1:=q7.1.cell 1 rfl;have c2:=q7.1.cell 2 rfl;have c3:=q7.1.cell 3 rfl;have c4:=q7.1.cell 4 rfl;have l6:=H4.2.1.1.1;have l7:=H4.2.2.1.1;have d0:=H4.2.1.1.cell 0 rfl;have d1:=H4.2.1.1.cell 1 rfl;have d2:=H4.2.1.1.cell 2 rfl;have d3:=H4.2.1.1.cell 3 rfl;have d4:=H4.2.1.1.cell 4 rfl;have e0:=H4.2.2.1.cell 0 rfl;have e1:=H4.2.2.1.cell 1 rfl;have e2:=H4.2.2.1.cell 2 rfl;have e3:=H4.2.2.1.cell 3 rfl;have e4:=H4.2.2.1.cell 4 rfl;go_wp2_with fail;refine(HP _ ((HS.call H4.1).alloc _)).mono ?_;rintro e w5 ⟨rfl,qY⟩;obtain⟨a',c',d',hs',o',hd'⟩:=qY;have HF:Hid (DR X d S i y v u w5):=⟨a',c',d',((Sp.below HS.out H4.1).alloc _).trans hs',o',hd'⟩;go_wp2_with fail;exact aG (v:=.tuple #[]) (by simp[results,Tryz.results245,go_sem]) rfl ⟨rfl,HF.out⟩
end
section
open Go.RowKit
theorem St.besides{X:RX}{d:MD}{u u':World}{P:Nat->Prop}(h:St X d u)(hg:Gx P u u')(hn:∀k,P k->¬stB X d k)(hW:∀k,P k->X.W.heap.size<=k):St X d u':=by
 have ho:∀{B:Nat} {A:Array Value},OwnB u B A->stB X d B->OwnB u' B A:=fun hh hb=>hg.ownB hh (fun c=>hn _ c hb);have hr:∀{N K n c m:Nat} {t:TypeId} {xs:List Value} {a:Option Addr},u.ownsRow N t K (.slice a m c) n xs->(∀k,ig a=some k->stB X d k)->u'.ownsRow N t K (.slice a m c) n xs:=fun hh hb=>nY hh fun q e=>hg.block q (hh.lt q e).2 (fun c=>hn _ c (hb q ((jg _ _ _).symm.trans e)));refine⟨h.x,ho h.m (.inl rfl),ho h.t (.inr (.inl rfl)),ho h.f (.inr (.inr (.inl rfl))),ho h.v (.inr (.inr (.inr (.inl rfl)))),hr h.fw (fun k e=>.inr (.inr (.inr (.inr (.inr (.inr (.inr (.inl e)))))))),hr h.rr (fun k e=>.inr (.inr (.inr (.inr (.inl e))))),hr h.hr (fun k e=>.inr (.inr (.inr (.inr (.inr (.inl e)))))),hr h.sr (fun k e=>.inr (.inr (.inr (.inr (.inr (.inr (.inl e))))))),h.k.trans hg (fun k _ e=>.inr (hW k e)),aV h.n hg.size,h.nv,h.ty.keep (fun k e=>?_),h.r0,h.tt.keep hg.size (fun k e=>hg.block k (h.tt.a k e).2 (fun c=>hn k c (stB.tb e))),h.ts⟩;have hs:stB X d k:=by
  rcases e with e|e|e|e
  ·exact .inl e
  ·exact .inr (.inl e)
  ·exact .inr (.inr (.inl e))
  ·exact .inr (.inr (.inr (.inl e)))
 exact hg.block k (h.lt hs) (fun c=>hn k c hs)
structure RQ where
 row:List VD
 a:Option Addr
 c:Nat
 cells:Nat
 wt:List (Int×Int)
abbrev qX(p:Int×Int):Value:=.agg #[.int .i64 p.1,.int .i64 p.2]
def lW(w:World)(Q:Nat)(L:List (Int×Int)):Prop:=∃es c,w.heap[Q]?=some (.map es c)/\es.toList.map (·.key)=L.map qX/\∀e∈es.toList,e.born<c
abbrev Ak(X:RX)(ro Q:Nat)(q:RQ):Array Value:=#[ptr X.M,.int .i64 (ro:Int),.slice q.a q.row.length q.c,.map (some Q),.int .i64 (q.cells:Int)]
def rB(X:RX)(R Q:Nat)(d:MD)(q:RQ)(k:Nat):Prop:=stB X d k\/k=R\/k=Q\/ig q.a=some k
structure Rt(X:RX)(R Q:Nat)(d:MD)(q:RQ)(w:World):Prop where
 s:St X d w
 b:OwnB w R (Ak X d.ro Q q)
 y:jC w R 381
 bn:¬stB X d R
 bw:X.W.heap.size<=R
 r:w.ownsRow X.N 61 5 (.slice q.a q.row.length q.c) q.row.length (hL q.row)
 rn:∀k,ig q.a=some k->¬stB X d k
 m:lW w Q q.wt
 mn:¬stB X d Q
 mw:X.W.heap.size<=Q
structure Rp(X:RX)(R Q:Nat)(d:MD)(q:RQ)(w:World)(d':MD)(q':RQ)(w':World):Prop where
 t:Rt X R Q d' q' w'
 g:Gx (rB X R Q d q) w w'
 mv:∀k,k<w.heap.size->rB X R Q d' q' k->rB X R Q d q k
section
variable {X:RX}{R Q:Nat}{d d' d'':MD}{q q' q'':RQ}{w w' w'' w7:World}
theorem lW.lt{L:List (Int×Int)}(h:lW w Q L):Q<w.heap.size:=by
 obtain⟨es,c,e,_⟩:=h;exact(aA.1 e).1
theorem lW.block{L:List (Int×Int)}(h:lW w Q L)(hk:w'.heap[Q]?=w.heap[Q]?):lW w' Q L:=by
 obtain⟨es,c,e,h2⟩:=h;exact⟨es,c,hk.trans e,h2⟩
theorem lW.ne{L:List (Int×Int)}(h:lW w Q L){B:Nat}{t:TypeId}(hB:jC w B t):B≠Q:=fun e=>by
 obtain⟨es,c,h1,_⟩:=h;obtain⟨A,fr,h2⟩:=hB;rw[e,h1] at h2
 cases h2
theorem Rt.lt(h:Rt X R Q d q w){k:Nat}(e:rB X R Q d q k):k<w.heap.size:=by
 rcases e with e|rfl|rfl|e
 ·exact h.s.lt e
 ·exact h.b.1.1
 ·exact h.m.lt
 ·exact(jm h.r e).2
theorem Rt.other(h:Rt X R Q d q w){k:Nat}(hk:w.heap.size<=k):¬rB X R Q d q k:=fun e=>by have:=h.lt e;omega
theorem Rt.rq(h:Rt X R Q d q w):∀k,ig q.a=some k->k≠R/\k≠Q:=fun k e=>⟨(lJ h.r e).ne h.y (by decide),h.m.ne (lJ h.r e)⟩
theorem Rt.ne(h:Rt X R Q d q w):R≠Q:=h.m.ne h.y
theorem Rp.refl(h:Rt X R Q d q w):Rp X R Q d q w d q w:=⟨h,Gx.refl _ _,fun _ _ e=>e⟩
theorem Rp.trans(h:Rp X R Q d q w d' q' w')(k:Rp X R Q d' q' w' d'' q'' w''):Rp X R Q d q w d'' q'' w'':=
 ⟨k.t,h.g.trans k.g (fun i hi e=>h.mv i hi e),fun i hi e=>h.mv i hi (k.mv i (aH hi h.g.size) e)⟩
theorem Rp.run(h:Rt X R Q d q w)(k:Sp X d w d' w')(e:d'.ro=d.ro):Rp X R Q d q w d' q w':=by
 refine⟨⟨k.s,?_,h.y.keep (k.g.block _ h.b.1.1 h.bn),fun c=>h.bn (k.mv _ h.b.1.1 c),h.bw,nY h.r (fun j c=>?_),fun j c e=>h.rn j c (k.mv j (jm h.r c).2 e),h.m.block (k.g.block _ h.m.lt h.mn),fun c=>h.mn (k.mv _ h.m.lt c),h.mw⟩,k.g.mono (fun _ e=>.inl e),fun j hj c=>?_⟩
 ·rw[e];exact k.g.ownB h.b h.bn
 ·have c':=(jg _ _ _).symm.trans c;exact k.g.block j (jm h.r c').2 (h.rn j c')
 ·rcases c with c|c
  ·exact .inl (k.mv j hj c)
  ·exact .inr c
theorem Rp.below(h:Rt X R Q d q w)(hb:gZ w w'):Rp X R Q d q w d q w':=Rp.run h (Sp.below h.s hb) rfl
theorem Rp.call(h:Rp X R Q d q w d' q' w')(hb:gZ w' w''):Rp X R Q d q w d' q' w'':=h.trans (Rp.below h.t hb)
theorem Rt.own(h:Rt X R Q d q w){P:Nat->Prop}(g:Gx P w w')(hP:∀k,P k->k=R\/k=Q\/ig q.a=some k)(hb:OwnB w' R (Ak X d.ro Q q'))(hy:jC w' R 381)(hr:w'.ownsRow X.N 61 5 (.slice q'.a q'.row.length q'.c) q'.row.length (hL q'.row))(ha:∀k,ig q'.a=some k->ig q.a=some k\/w.heap.size<=k)(hm:lW w' Q q'.wt):Rp X R Q d q w d q' w':=by
 have hn:∀k,P k->¬stB X d k:=fun k e c=>by
  rcases hP k e with rfl|rfl|e
  ·exact h.bn c
  ·exact h.mn c
  ·exact h.rn k e c
 have hW:∀k,P k->X.W.heap.size<=k:=fun k e=>by
  rcases hP k e with rfl|rfl|e
  ·exact h.bw
  ·exact h.mw
  ·exact aV h.s.x.nW (jm h.r e).1
 refine⟨⟨h.s.besides g hn hW,hb,hy,h.bn,h.bw,hr,fun k e c=>?_,hm,h.mn,h.mw⟩,g.mono (fun k e=>.inr (hP k e)),fun k hk e=>?_⟩
 ·rcases ha k e with e|e
  ·exact h.rn k e c
  ·exact h.s.other e c
 ·rcases e with e|e|e|e
  ·exact .inl e
  ·exact .inr (.inl e)
  ·exact .inr (.inr (.inl e))
  ·rcases ha k e with e|e
   ·exact .inr (.inr (.inr e))
   ·omega
theorem Rt.set(h:Rt X R Q d q w){o:Nat}{v:Value}(hb:OwnB (w.setCell ⟨R,o,none⟩ v) R (Ak X d.ro Q q'))(hr:w.ownsRow X.N 61 5 (.slice q'.a q'.row.length q'.c) q'.row.length (hL q'.row))(ha:q'.a=q.a)(hm:q'.wt=q.wt):Rp X R Q d q w d q' (w.setCell ⟨R,o,none⟩ v):=by
 refine h.own (Gx.set w R o v) (fun k e=>.inl e) hb (h.y.set _ _) (q23 hr _ (fun k e=>?_)) (fun k e=>.inl (by rw[<-ha];exact e)) ?_
 ·have:=(jg _ _ _).symm.trans e;rw[ha] at this;exact(h.rq k this).1
 ·rw[hm];exact h.m.block (aK _ _ _ _ (bK h.ne))
theorem Rp.cells(h:Rt X R Q d q w)(n:Nat):Rp X R Q d q w d {q with cells:=n} (w.setCell ⟨R,4,none⟩ (.int .i64 (n:Int))):=
 h.set (h.b.set (o:=4) (by show 4<5;omega) _) h.r rfl rfl
theorem Rp.cut(h:Rt X R Q d q w){m:Nat}(hm:m<=q.row.length):Rp X R Q d q w d {q with row:=q.row.take m} (w.setCell ⟨R,2,none⟩ (.slice q.a m q.c)):=by
 have gG:(q.row.take m).length=m:=by rw[dG];omega
 refine h.set ?_ ?_ rfl rfl
 ·have:=h.b.set (o:=2) (by show 2<5;omega) (.slice q.a m q.c);show OwnB _ _ (Ak X d.ro Q {q with row:=q.row.take m});simp only[Ak,gG];exact this
 ·show World.ownsRow _ _ _ _ (.slice q.a (q.row.take m).length q.c) (q.row.take m).length (hL (q.row.take m));rw[gG,yd0];exact Ut h.r hm
theorem Rp.push(h:Rt X R Q d q w){x:VD}{v':Value}(ho:w7.ownsRow X.N 61 5 v' (q.row.length+1) (hL q.row++v5 x))(hg:w.grownBy w7 (Value.slice q.a q.row.length q.c).ownBlock)(hat:v'.ownBlock=(Value.slice q.a q.row.length q.c).ownBlock\/v'.ownBlock=some w.heap.size):∃a c,v'=.slice a (q.row.length+1) c/\Rp X R Q d q w d {q with row:=q.row++[x],a:=a,c:=c} (w7.setCell ⟨R,2,none⟩ v'):=by
 obtain⟨a,c,rfl⟩:=zO ho;rw[jg] at hg;have gG:(q.row++[x]).length=q.row.length+1:=by simp
 have hbk:∀k,ig a=some k->ig q.a=some k\/w.heap.size<=k:=fun k e=>by
  rw[jg,jg] at hat;rcases hat with c|c
  ·exact .inl (by rw[<-c];exact e)
  ·rw[c] at e;have:=aQ e;exact .inr (by omega)
 have hR7:w7.heap[R]?=w.heap[R]?:=hg.block R h.b.1.1 (fun e=>(h.rq R e.symm).1 rfl);have hb7:OwnB w7 R (Ak X d.ro Q q):=h.b.block hg.size hR7;have hne:∀k,ig a=some k->k≠R:=fun k e=>by
  rcases hbk k e with e|e
  ·exact(h.rq k e).1
  ·have:=h.b.1.1;omega
 refine⟨a,c,rfl,h.own (P:=fun k=>k=R\/ig q.a=some k) ?_ (fun k e=>?_) ?_ ((h.y.keep hR7).set _ _) ?_ hbk ?_⟩
 ·exact((Gx.grown hg).mono (fun k e=>.inr e)).trans (Gx.set w7 R 2 _) (fun k _ e=>.inl e)
 ·rcases e with e|e
  ·exact .inl e
  ·exact .inr (.inr e)
 ·have:=hb7.set (o:=2) (by show 2<5;omega) (.slice a (q.row.length+1) c);show OwnB _ _ (Ak X d.ro Q {q with row:=q.row++[x],a:=a,c:=c});simp only[Ak,gG];exact this
 ·show World.ownsRow _ _ _ _ (.slice a (q.row++[x]).length c) (q.row++[x]).length (hL (q.row++[x]));rw[gG,QH];exact q23 (by simpa[hL] using ho) _ (fun k e=>hne k ((jg _ _ _).symm.trans e))
 ·refine h.m.block ?_;rw[aK _ _ _ _ (bK h.ne)];exact hg.block Q h.m.lt (fun e=>(h.rq Q e.symm).2 rfl)
theorem Rp.wait(h:Rt X R Q d q w){L:List (Int×Int)}(g:Gx (fun k=>k=Q) w w')(hm:lW w' Q L):Rp X R Q d q w d {q with wt:=L} w':=
 h.own g (fun _ e=>.inr (.inl e)) (g.ownB h.b h.ne) (h.y.keep (g.block _ h.b.1.1 h.ne)) (nY h.r (fun k e=>g.block k (h.r.lt k e).2 ((h.rq k ((jg _ _ _).symm.trans e)).2))) (fun _ e=>.inl e) hm
theorem Rp.sp{d0:MD}{u:World}(h0:Sp X d0 u d w)(h:Rp X R Q d q w d' q' w')(hR:u.heap.size<=R)(hQ:u.heap.size<=Q)(hr:∀k,ig q.a=some k->u.heap.size<=k):Sp X d0 u d' w':=by
 have hk:∀k,k<u.heap.size->rB X R Q d q k->stB X d0 k:=fun k hk e=>by
  rcases e with e|e|e|e
  ·exact h0.mv k hk e
  ·omega
  ·omega
  ·have:=hr k e;omega
 exact⟨h.t.s,h0.g.trans h.g hk,fun k hk' e=>hk k hk' (h.mv k (aH hk' h0.g.size) (.inl e))⟩
def Ry(X:RX)(R Q:Nat)(d:MD)(q:RQ)(w:World)(B:Nat)(A:Array Value):Prop:=OwnB w B A/\¬rB X R Q d q B
theorem Ry.step{B:Nat}{A:Array Value}(h:Ry X R Q d q w B A)(k:Rp X R Q d q w d' q' w'):Ry X R Q d' q' w' B A:=⟨k.g.ownB h.1 h.2,fun e=>h.2 (k.mv B h.1.1.1 e)⟩
theorem Ry.new(h:Rt X R Q d q w)(A:Array Value)(t:TypeId):Ry X R Q d q (w.alloc (.cells A t)) w.heap.size A:=⟨OwnB.new w A t,h.other (ah _)⟩
end
end
end Go.Proofs.YthnkncpegihbhaaGreatDoor
