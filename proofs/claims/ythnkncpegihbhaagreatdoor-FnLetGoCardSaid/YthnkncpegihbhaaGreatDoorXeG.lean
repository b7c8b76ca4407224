import Derived.Test.YthnkncpegihbhaaGreatDoorXeB
import Derived.Test.YthnkncpegihbhaaGreatDoorWxF
import Derived.Test.YthnkncpegihbhaaGreatDoorXaF
import Derived.Test.YthnkncpegihbhaaGreatDoorSpS
set_option maxRecDepth 100000
set_option maxHeartbeats 16000000
namespace Go.Proofs.YthnkncpegihbhaaGreatDoor
section
open Go.RowKit
attribute [local go_sem] iD
attribute [local go_sem ↓] Go.wp_at_zero Go.wp_at_succ
attribute [local go_sem] xX
theorem z00(d:ND)(x:NA)(w:World)(hk:d.k=25):Calls Tryz.prog 231 #[jP d x] w fun e w'=>e=.returned (iJ 4 0 0 d.s 0)/\gZ w w':=by
 rw[(yT hk rfl rfl).1];go_in;go_wp2_with fail;refine(qu5 d.s _).mono ?_;rintro e w1 ⟨rfl,hb⟩;have hO:=UQ hb;have r0:=hO.1.cell 0 rfl;have r1:=hO.1.cell 1 rfl;have r2:=hO.1.cell 2 rfl;have r3:=hO.1.cell 3 rfl;have r4:=hO.1.cell 4 rfl;have rz:=hO.2;have HB:Hid (gZ w w1):=iq (kF _ _ _) hb;go_wp2_with fail;exact aG (v:=iJ 4 0 0 d.s 0) (by simp[results,Tryz.results231,go_sem,r0,r1,r2,r3,r4]) rfl ⟨rfl,pO HB.out (Nat.le_succ _) _ _ _ _ _⟩
theorem zb8(M bb:Nat)(d:FD)(x:FA)(i:Nat)(w:World)(h:BB M bb d x w)(hi:i<d.nn)(hk:(d.nd i).k=25):Calls Tryz.prog 181 #[ptr bb,.int .i64 (i:Int)] w fun e w'=>Mks (yR (pV (d.nd i).s)) w e w':=by
 have b1:=h.b.cell 1 rfl;have hbl:=h.b.1;obtain⟨b,off,e1,hb,c0,c1,c2,c3,c4,c5,c6,c7⟩:=h.node hi;rw[e1] at b1;have hl:=fun W=>z00 (d.nd i) (x.nas i) W hk;simp only[jP,hk] at hl;rw[hk] at c0;have hmf:=qV;go_in;go_wp2_with fail;refine(hl _).mono ?_;rintro e w1 ⟨rfl,eu⟩;have HW:Hid (gZ w w1):=iq (kF _ _ _) eu;go_wp2_with fail;go_ret;exact⟨_,_,_,rfl,⟨w1.heap.size,rfl,HW.size,Has.new _ _ _⟩,HW.alloc HW.size _⟩
theorem qn1(M bb:Nat)(d:FD)(x:FA)(R:Rel)(i:Nat)(w:World)(h:BB M bb d x w)(kr:iY R)(hi:i<d.nn)(hk:(d.nd i).k=35)(hT:∀u,gZ w u->Calls Tryz.prog 228 #[ptr bb,jP (d.nd i) (x.nas i)] u fun e u'=>Mks R u e u'):Calls Tryz.prog 181 #[ptr bb,.int .i64 (i:Int)] w fun e w'=>Mks R w e w':=by
 have HP:Hid ((∀u,gZ w u->Calls Tryz.prog 228 #[ptr bb,.agg (y8 35 (d.nd i) (x.nas i) (x.nas i).ka (d.nd i).kn)] u fun e u'=>Mks R u e u')/\iY R):=⟨fun u hu=>by
  have:=hT u hu;rw[(yT hk rfl rfl).1] at this;exact this,kr⟩
 have b1:=h.b.cell 1 rfl;have hbl:=h.b.1;obtain⟨b,off,e1,hb,c0,c1,c2,c3,c4,c5,c6,c7⟩:=h.node hi;rw[e1] at b1;rw[hk] at c0;have hmf:=qV;go_in;go_wp2_with fail;refine(HP.1 _ (kF _ _ _)).mono ?_;rintro e w1 ⟨f1,x1,y1,rfl,fG,eu⟩;have HW:Hid (R (.func f1 x1 y1) w.heap.size w1/\gZ w w1):=⟨HP.2.old fG (by simp;omega),iq (kF _ _ _) eu⟩;go_wp2_with fail;go_ret;exact⟨_,_,_,rfl,HW.1,HW.2⟩
end
section
open Go.RowKit
structure BC(M bb:Nat)(d:FD)(x:FA)(w:World):Prop where
 b:BB M bb d x w
 c:∀i,i<d.nn->(d.nd i).kn<=(x.nas i).kc
theorem BC.call{M bb:Nat}{d:FD}{x:FA}{w u:World}(h:BC M bb d x w)(k:gZ w u):BC M bb d x u:=⟨h.b.call k,h.c⟩
theorem BC.kids{M bb:Nat}{d:FD}{x:FA}{w:World}(h:BC M bb d x w){i:Nat}{T:sZ}(hi:i<d.nn)(hn:l9 (d.nd i) T)(h0:0<T.cs.length):∃kb ko,(x.nas i).ka=some ⟨kb,ko,none⟩/\kb<w.heap.size/\∀j z:Nat,T.cs[j]?=some z->w.cell? ⟨kb,ko+j,none⟩=some (.int .i64 (z:Int)):=by
 obtain⟨kb,ko,e,_,h1,_⟩:=jd (h.b.n.2 i hi).2 (k:=0) (by rw[hn.kn];exact h0);refine⟨kb,ko,e,h1,fun j z hj=>?_⟩;have hl:=(aP.1 hj).1;obtain⟨Ti,Tf,e',_,_,d1⟩:=jd (h.b.n.2 i hi).2 (k:=j) (by rw[hn.kn];exact hl);rw[e] at e'
 cases e';rw[hn.c j z hj] at d1;exact d1
theorem V8{w:World}{kb ko m:Nat}{q:Nat->Nat}(hkb:kb<w.heap.size)(hc:∀j,j<m->w.cell? ⟨kb,ko+j,none⟩=some (.int .i64 (q j:Int))):iF 1 0 w (some ⟨kb,ko,none⟩) m fun j=>#[.int .i64 (q j:Int)]:=fun _=>⟨kb,ko,rfl,aF _,hkb,fun i hi j hj=>by
 obtain rfl:j=0:=by omega
 rw[show ko+i*1+0=ko+i by omega];exact hc i hi⟩
abbrev vC:Nat:=181
abbrev GX:Nat:=171
abbrev FI:Nat:=85
section
variable {M bb:Nat}{d:FD}{x:FA}{w:World}
theorem NI(h:BC M bb d x w){i v:Nat}(hi:i<d.nn)(hn:l9 (d.nd i) (jO 26 0 [v] [])):iP vC bb w i (BF (v:Int)):=fun u hu=>by
 have:=zb7 M bb d x i u (h.b.call hu) hi hn.k (by rw[hn.rn];exact Nat.zero_lt_one);rw[hn.r 0 v rfl] at this;exact this
theorem y61(h:BC M bb d x w){i:Nat}{z:Int}(hi:i<d.nn)(hn:l9 (d.nd i) (jO 23 z [] [])):iP vC bb w i (yR (inD z)):=fun u hu=>by
 have:=qn2 M bb d x i u (h.b.call hu) hi (.inl hn.k);unfold BN at this;rw[aO hn.k,hn.n] at this;exact this
theorem Rj(h:BC M bb d x w){i:Nat}{z:Int}(hi:i<d.nn)(hn:l9 (d.nd i) (jO 28 z [] [])):iP vC bb w i (yR (oh z)):=fun u hu=>by
 have:=qn2 M bb d x i u (h.b.call hu) hi (.inr hn.k);unfold BN at this;rw[au (by rw[hn.k];show(28:Int)≠23;decide),hn.n] at this;exact this
theorem y58(h:BC M bb d x w){i:Nat}{s:ByteArray}(hi:i<d.nn)(hn:l9 (d.nd i) ⟨25,0,s,[],[]⟩):iP vC bb w i (yR (pV s)):=fun u hu=>by
 have:=zb8 M bb d x i u (h.b.call hu) hi hn.k;rw[hn.s] at this;exact this
theorem z80(h:BC M bb d x w){i:Nat}(hi:i<d.nn)(hn:l9 (d.nd i) (jO 35 0 [] [])):iP vC bb w i (E8 M):=fun u hu=>
 qn1 M bb d x _ i u (h.b.call hu) (Eh M) hi hn.k fun v hv=>zl4 M bb (d.nd i) (x.nas i) _ v hn.k hn.o hn.kn (h.b.call (iq hu hv)).b
theorem yi0(h:BC M bb d x w){i a b:Nat}{R S:Rel}(kr:iY R)(ks:iY S)(hi:i<d.nn)(hn:l9 (d.nd i) (jO 35 0 [] [a,b]))(hA:iP vC bb w a R)(hB:iP vC bb w b S):iP vC bb w i (MF M (z23 R S)):=fun u hu=>
 qn1 M bb d x _ i u (h.b.call hu) (NU M (BJ kr ks)) hi hn.k fun v hv=>by
  have hb:=iq hu hv;obtain⟨kb,ko,e,hkb,hc⟩:=(h.call hb).kids hi hn (by show 0<2;omega);have hcp:=h.c i hi;rw[hn.kn] at hcp;exact zl2 M bb R S (d.nd i) (x.nas i) _ kb ko a b v kr ks hn.k hn.o hn.kn e hcp hkb (h.b.call hb).b (hc 0 a rfl) (hc 1 b rfl) (hA.call hb) (hB.call hb)
theorem zx8(h:BC M bb d x w){R:Rel}{i:Nat}(kr:iY R)(hi:i<d.nn)(hk:(d.nd i).k=35)(hE:iP vC bb w i R):iP GX bb w i (Hq R):=fun u hu=>zj8 M bb d x R i u (h.b.call hu) kr hi hk (hE.call hu)
theorem zx7(h:BC M bb d x w){i v:Nat}(hi:i<d.nn)(hn:l9 (d.nd i) (jO 26 0 [v] [])):iP GX bb w i (Hq (BF (v:Int))):=fun u hu=>zj7 M bb d x _ i u (h.b.call hu) (yV _) hi hn.k ((NI h hi hn).call hu)
theorem yi1{R:Nat->Rel}{S:Rel}{kb ko m i:Nat}{q:Nat->Nat}(kr:∀j,j<m->iY (R j))(ks:iY S)(hm:m<=200)(hkb:kb<w.heap.size)(hc:∀j,j<m->w.cell? ⟨kb,ko+j,none⟩=some (.int .i64 (q j:Int)))(hci:w.cell? ⟨kb,ko+m,none⟩=some (.int .i64 (i:Int)))(hq:∀j,j<m->iP vC bb w (q j) (R j))(hA:iP GX bb w i S)(c:Nat)(gy:m<c)(u:World)(hu:gZ w u):Calls Tryz.prog 178 #[ptr bb,.slice (some ⟨kb,ko,none⟩) (m+1) c] u fun e u'=>Mks (G6 bb (E5 m R) S) u e u':=
 zn7 bb (E5 m R) S kb ko c m i u (qc1 m kr) ks (by omega) gy (fun v c' hv=>zm8 bb R (some ⟨kb,ko,none⟩) m c' q v kr hm (fun j hj=>(hq j hj).call (iq hu hv)) (V8 (by have:=hu.size;have:=hv.size;omega) (fun j hj=>((iq hu hv).cell (p:=⟨kb,ko+j,none⟩) hkb).trans (hc j hj)))) (hA.call hu) (by have:=hu.size;omega) ((hu.cell (p:=⟨kb,ko+m,none⟩) hkb).trans hci)
theorem y62(h:BC M bb d x w){R:Rel}{n i:Nat}(kr:iY R)(hn:n<d.nn)(hk:l9 (d.nd n) (jO 34 0 [] [i]))(hE:iP vC bb w i R):iP GX bb w n (Hl bb (G7 R z24)):=fun u hu=>
 qn6 M bb d x _ n u (h.b.call hu) (Gm kr UH) hn hk.k (fun v hv=>qs5 M bb d x R n i v (h.b.call (iq hu hv)) kr hn hk.kn (hk.c 0 i rfl) (by have:=h.c n hn;rw[hk.kn] at this;exact this) (hE.call (iq hu hv)))
theorem VU(h:BC M bb d x w){R:Rel}{Rs:Nat->Rel}{S:Rel}{n i m t:Nat}{q:Nat->Nat}{cs:List Nat}(kr:iY R)(krs:∀j,j<m->iY (Rs j))(ks:iY S)(hm:m<=100)(hn:n<d.nn)(hk:l9 (d.nd n) (jO 34 0 [] cs))(hl:cs.length=m+2)(hc0:cs[0]?=some i)(hcs:∀j,j<m->cs[j+1]?=some (q j))(hct:cs[m+1]?=some t)(hE:iP vC bb w i R)(hq:∀j,j<m->iP vC bb w (q j) (Rs j))(hA:iP GX bb w t S):iP GX bb w n (Hl bb (G7 R (G6 bb (E5 m Rs) S))):=fun u hu=>by
 have Dq:iY (G6 bb (E5 m Rs) S):=Lc (qc1 m krs) ks bb;have hcp:=h.c n hn;have fE:(d.nd n).kn=m+2:=hk.kn.trans hl;rw[fE] at hcp;refine qn6 M bb d x _ n u (h.b.call hu) (Gm kr Dq) hn hk.k (fun v hv=>?_);have hwv:=iq hu hv;refine qs4 M bb d x R (G6 bb (E5 m Rs) S) n i (m+1) v (h.b.call hwv) kr Dq hn fE (hk.c 0 i hc0) (by omega) (by omega) (by omega) (hE.call hwv) (fun y kb ko c ha hkb hc hy=>?_);obtain⟨Ti,Tf,e,hb',gI⟩:=(h.call hwv).kids hn hk (by show 0<cs.length;omega);rw[ha] at e
 cases e;refine yi1 (w:=v) krs ks (by omega) hkb (fun j hj=>?_) ?_ (fun j hj=>(hq j hj).call hwv) (hA.call hwv) c ?_ y hy
 ·have:=gI (j+1) (q j) (hcs j hj);rw[show ko+1 + j=ko+(j+1) by omega];exact this
 ·have:=gI (m+1) t hct;rw[show ko+1 + m=ko+(m+1) by omega];exact this
 ·omega
theorem j57(h:BC M bb d x w){R:Rel}{n:Nat}(kr:iY R)(hn:n<d.nn)(hk:(d.nd n).k=34)(hA:iP GX bb w n R):iP vC bb w n (F6 R):=fun u hu=>z08 M bb d x R n u (h.b.call hu) kr hn hk (hA.call hu)
abbrev vU(d:FD)(x:FA)(s:Nat):Array Value:=kQ (d.nd s) (x.nas s)
theorem y60(h:BC M bb d x w){R:Rel}{s v i:Nat}(kr:iY R)(hs:s<d.nn)(hn:l9 (d.nd s) (jO 2 0 [v] [i]))(hE:iP vC bb w i R):iP FI bb w s (pY bb (vU d x s) (Ho (vU d x s) (zJ R))):=fun u hu=>by
 have kl:=UG (IQ kr) (vU d x s);refine SC M bb d x _ s u (h.b.call hu) kl hs (by rw[hn.k];show(2:Int)≠1;decide) (fun u4 Jo=>?_);have eU:=iq hu Jo;refine qy7 bb _ (d.nd s) (x.nas s) u4 kl hn.k (fun u5 OC=>?_);have eX:=iq eU OC;obtain⟨kb,ko,e,hkb,gI⟩:=(h.call eX).kids hs hn (by show 0<1;omega);exact y07 bb _ (d.nd s) (x.nas s) kb ko i u5 kr hn.rn hn.kn e hkb (gI 0 i rfl) (hE.call eX)
theorem y59(h:BC M bb d x w){R S T:Rel}{s t j a b:Nat}(kr:iY R)(ks:iY S)(kt:iY T)(hs:s<d.nn)(hn:l9 (d.nd s) (jO 3 1 [] [t,j]))(ht:t<d.nn)(hT:l9 (d.nd t) (jO 33 0 [] [a,b]))(hA:iP vC bb w a R)(hB:iP vC bb w b S)(hE:iP vC bb w j T):iP FI bb w s (pY bb (vU d x s) (Hr bb (z23 R S) T)):=fun u hu=>by
 have kl:=UJ bb (BJ kr ks) kt;have hcs:=h.c s hs;rw[hn.kn] at hcs;refine SC M bb d x _ s u (h.b.call hu) kl hs (by rw[hn.k];show(3:Int)≠1;decide) (fun u4 Jo=>?_);have eU:=iq hu Jo;refine qy6 bb _ (d.nd s) (x.nas s) u4 kl hn.k (fun u5 OC=>?_);have eX:=iq eU OC;obtain⟨kb,ko,e,hkb,gI⟩:=(h.call eX).kids hs hn (by show 0<2;omega);refine zy4 M bb d x _ _ (d.nd s) (x.nas s) kb ko t j u5 (h.b.call eX) (BJ kr ks) kt hn.k hn.n hn.kn e hcs hkb (gI 0 t rfl) (gI 1 j rfl) ht (fun u6 hu6=>?_) (hE.call eX);have eY:=iq eX hu6;refine z77 bb _ (d.nd t) (x.nas t) u6 (BJ kr ks) hT.k (fun u7 hu7=>?_);have hb7:=iq eY hu7;obtain⟨Ti,Tf,e',hkb',hcell'⟩:=(h.call hb7).kids ht hT (by show 0<2;omega);rw[e',show(d.nd t).kn=2 from hT.kn];exact z29 bb R S Ti Tf _ a b u7 kr ks hkb' (hcell' 0 a rfl) (hcell' 1 b rfl) (hA.call hb7) (hB.call hb7)
theorem yr8(h:BC M bb d x w){S:Rel}{s n:Nat}(ks:iY S)(hs:s<d.nn)(hn:l9 (d.nd s) (jO 4 0 [] [n]))(hA:iP GX bb w n S):iP FI bb w s (pY bb (vU d x s) (F7 S)):=fun u hu=>by
 refine SC M bb d x _ s u (h.b.call hu) (yc2 ks) hs (by rw[hn.k];show(4:Int)≠1;decide) (fun u4 Jo=>?_);have eU:=iq hu Jo;obtain⟨kb,ko,e,hkb,gI⟩:=(h.call eU).kids hs hn (by show 0<1;omega);exact z19 bb S (d.nd s) (x.nas s) kb ko n u4 ks hn.k (by rw[hn.kn];show 0<1;omega) e hkb (gI 0 n rfl) (hA.call eU)
theorem zx6(h:BC M bb d x w){R:Rel}{t s:Nat}(kr:iY R)(ht:t<d.nn)(hs:s<d.nn)(hT:l9 (d.nd t) (jO 1 0 [] [s]))(hk:(d.nd s).k≠14)(hS:iP FI bb w s R):iP FI bb w t (xq 1 fun _=>R):=fun u hu=>by
 refine qh2 M bb d x _ t u (h.b.call hu) (IJ 1 fun _ _=>kr) ht hT.k (fun u2 hu2=>?_);have eG:=iq hu hu2;obtain⟨kb,ko,e,hkb,gI⟩:=(h.call eG).kids ht hT (by show 0<1;omega);exact qr0 M bb d x _ (d.nd t) (x.nas t) 1 (fun _=>s) u2 (h.b.call eG) (fun _ _=>kr) (by omega) (by omega) hT.kn (fun j hj=>⟨hs,hk,hS.call eG⟩) (by rw[e];exact V8 hkb (fun j hj=>by obtain rfl:j=0:=(by omega);exact gI 0 s rfl))
theorem yi2(h:BC M bb d x w){R S:Rel}{s a b v1 v2:Nat}(kr:iY R)(ks:iY S)(hs:s<d.nn)(hn:l9 (d.nd s) (jO 8 0 [v1,v2] [a,b]))(hA:iP vC bb w a R)(hB:iP FI bb w b S):iP FI bb w s (pY bb (vU d x s) (MC M (vU d x s) R S)):=fun u hu=>by
 have kl:=ZN M (vU d x s) kr ks;refine SC M bb d x _ s u (h.b.call hu) kl hs (by rw[hn.k];show(8:Int)≠1;decide) (fun u4 Jo=>?_);have eU:=iq hu Jo;refine qs6 bb _ (d.nd s) (x.nas s) u4 kl hn.k (fun u5 OC=>?_);have eX:=iq eU OC;obtain⟨kb,ko,e,hkb,gI⟩:=(h.call eX).kids hs hn (by show 0<2;omega);exact zp6 M bb _ _ (d.nd s) (x.nas s) _ kb ko a b u5 kr ks hn.k hn.kn e hkb (h.b.call eX).b (gI 0 a rfl) (gI 1 b rfl) (hA.call eX) (hB.call eX)
end
end
theorem J7{r:Nat}(h:r<5):r=0\/r=1\/r=2\/r=3\/r=4:=by omega
theorem lt7{r:Nat}(h:r<7):r=0\/r=1\/r=2\/r=3\/r=4\/r=5\/r=6:=by omega
theorem y9{r:Nat}(h:r<13):r=0\/r=1\/r=2\/r=3\/r=4\/r=5\/r=6\/r=7\/r=8\/r=9\/r=10\/r=11\/r=12:=by omega
theorem MK{n kept:Nat}{P:Nat->sZ->Prop}(hH:∀r,r<7->P r (Fv r))(hA:∀i r,i<kept->r<7->P (7+7*i+r) (Bj i r))(hB:∀j r,j<n-kept->r<5->P (7+7*kept+5*j+r) (Bh kept j r))(hC:∀t,t<13->P (iH n kept+t) (Bg n kept t)):∀a,a<iH n kept+13->P a (jJ n kept a):=fun a ha=>by
 rcases Ux ha with h|⟨i,r,h1,h2,rfl⟩|⟨j,r,h1,h2,rfl⟩|⟨t,h1,rfl⟩
 ·rw[D9 h];exact hH a h
 ·rw[BH h1 h2];exact hA i r h1 h2
 ·rw[z68 h1 h2];exact hB j r h1 h2
 ·rw[uP];exact hC t h1
section
variable {nd:Nat->ND}{m:Nat}{T:sZ}
theorem l9.kid(h:l9 (nd m) T){i z:Nat}(hz:T.cs[i]?=some z)(gK:z<m):jL nd m i=(nd z).k:=by
 have hi:=(aP.1 hz).1;unfold jL;rw[aO (by rw[h.kn];exact hi),h.c i z hz,aO (by omega)];simp
theorem Zv(h:l9 (nd m) T)(ha:Ahead m T.cs)(hl:T.cs.length<=200):(!decide ((200:Int)<(nd m).kn) && allB (fun i=>!(decide ((nd m).c i<0) || decide ((m:Int)<=(nd m).c i))) 0 (nd m).kn)=true:=by
 rw[h.kn,aY];refine⟨by simp;omega,iw.2 fun i _ hi=>?_⟩;have hz:T.cs[i]?=some T.cs[i]:=bg hi;have:=ha i _ hz;rw[h.c i _ hz];simp;omega
theorem Aw(h:l9 (nd m) T)(a b c d:Bool)(hn:b=true\/T.z=0)(hs:d=true\/T.s=⟨#[]⟩):kY (nd m) a b c d (T.rs.length:Int)=true:=by
 unfold kY Hy;rw[h.o,h.n,h.f,h.s,h.rn];have h1:fz 0=true:=by kernel_rfl
 have h2:se ⟨#[]⟩=true:=by kernel_rfl
 rw[h1];rcases hn with rfl|e1<;>rcases hs with rfl|e2<;>simp[*]
theorem I4(h:l9 (nd m) T)(ha:Ahead m T.cs)(hl:T.cs.length<=200)(hk:20<=T.k)(he:yB nd m=true):qm nd m=true:=by
 unfold qm;rw[Zv h ha hl,h.k,show oW T.k=false by unfold oW;simp;omega,h.le hk,he];simp
theorem MW(h:l9 (nd m) T)(ha:Ahead m T.cs)(hl:T.cs.length<=200)(hk:1<=T.k/\T.k<=14)(he:rG nd m=true):qm nd m=true:=by
 unfold qm;rw[Zv h ha hl,h.k,show oW T.k=true by unfold oW;simp;omega,he];obtain⟨h1,h2⟩:=h.ls (by omega);simp;omega
theorem Nz(h:l9 (nd m) T)(lo:Nat)(hs:∀i z:Nat,lo<=i->T.cs[i]?=some z->z<m/\mM (nd z).k=true):lD nd m lo (nd m).kn=true:=by
 unfold lD;rw[h.kn];refine iw.2 fun i h0 hi=>?_;have hz:T.cs[i]?=some T.cs[i]:=bg hi;show mM (jL nd m i)=true;rw[h.kid hz (hs i _ h0 hz).1];exact(hs i _ h0 hz).2
theorem Rh{m:Nat}:Ahead m []:=fun i z e=>by simp at e
theorem yq7{z:Int}(h:l9 (nd m) (jO 23 z [] [])):qm nd m=true:=by
 refine I4 h Rh (by simp) (by simp) ?_;unfold yB;rw[h.k,h.kn,show kY (nd m) false true false false 0=true from Aw h false true false false (.inl rfl) (.inr rfl)];rfl
theorem zs0{z:Int}(h:l9 (nd m) (jO 28 z [] []))(h0:0<=z)(h1:z<15):qm nd m=true:=by
 refine I4 h Rh (by simp) (by simp) ?_;unfold yB;rw[h.k,h.kn,h.n,show kY (nd m) false true false false 0=true from Aw h false true false false (.inl rfl) (.inr rfl)];simp;omega
theorem yq6{s:ByteArray}(h:l9 (nd m) ⟨25,0,s,[],[]⟩)(h0:s.size<=4000):qm nd m=true:=by
 refine I4 h Rh (by simp) (by show(20:Int)<=25;decide) ?_;unfold yB;rw[h.k,h.kn,h.s,show kY (nd m) false false false true 0=true from Aw h false false false true (.inr rfl) (.inl rfl)];simp;omega
theorem ML{v:Nat}(h:l9 (nd m) (jO 26 0 [v] [])):qm nd m=true:=by
 refine I4 h Rh (by simp) (by simp) ?_;unfold yB;rw[h.k,h.kn,show kY (nd m) false false false false 1=true from Aw h false false false false (.inr rfl) (.inr rfl)];rfl
theorem z64{cs:List Nat}(h:l9 (nd m) (jO 34 0 [] cs))(h0:0<cs.length)(hl:cs.length<=200)(hs:∀i z:Nat,cs[i]?=some z->z<m/\mM (nd z).k=true):qm nd m=true:=by
 refine I4 h (fun i z e=>(hs i z e).1) hl (by simp) ?_;have hx:=Nz h 0 (fun i z _ e=>hs i z e);unfold yB;rw[h.k,hx,show kY (nd m) false false false false 0=true from Aw h false false false false (.inr rfl) (.inr rfl),h.kn];simp;omega
theorem yq8{a b:Nat}(h:l9 (nd m) (jO 33 0 [] [a,b]))(hs:∀i z:Nat,[a,b][i]?=some z->z<m/\mM (nd z).k=true):qm nd m=true:=by
 refine I4 h (fun i z e=>(hs i z e).1) (by simp) (by simp) ?_;have hx:=Nz h 0 (fun i z _ e=>hs i z e);unfold yB;rw[h.k,hx,show kY (nd m) false false false false 0=true from Aw h false false false false (.inr rfl) (.inr rfl),h.kn];rfl
theorem QT{cs:List Nat}(h:l9 (nd m) (jO 35 0 [] cs))(h2:cs.length%2=0)(hl:cs.length<=200)(hs:∀i z:Nat,cs[i]?=some z->z<m/\mM (nd z).k=true):qm nd m=true:=by
 refine I4 h (fun i z e=>(hs i z e).1) hl (by simp) ?_;have hx:=Nz h 0 (fun i z _ e=>hs i z e);unfold yB;rw[h.k,hx,h.o,show kY (nd m) true false false false 0=true from Aw h true false false false (.inr rfl) (.inr rfl),h.kn];simp;omega
theorem ZE{cs:List Nat}(h:l9 (nd m) (jO 1 0 [] cs))(hl:cs.length<=200)(hs:∀i z:Nat,cs[i]?=some z->z<m/\oW (nd z).k=true):qm nd m=true:=by
 refine MW h (fun i z e=>(hs i z e).1) hl (by simp) ?_;unfold rG;rw[aO h.k,h.kn,show kY (nd m) false false false false 0=true from Aw h false false false false (.inr rfl) (.inr rfl),iw.2 fun i _ hi=>?_]
 ·rfl
 ·have hz:cs[i]?=some cs[i]:=bg hi;show oW (jL nd m i)=true;rw[h.kid hz (hs i _ hz).1];exact(hs i _ hz).2
theorem z93{P:Nat->Prop}{z:Nat}(h:P z):∀i y:Nat,[z][i]?=some y->P y:=fun i y e=>by
 rcases i with _|i
 ·simp at e;subst e;exact h
 ·simp at e
theorem IX{P:Nat->Prop}{y z:Nat}(h1:P y)(h2:P z):∀i x:Nat,[y,z][i]?=some x->P x:=fun i x e=>by
 rcases i with _|_|i
 ·simp at e;subst e;exact h1
 ·simp at e;subst e;exact h2
 ·simp at e
theorem yq5{v z:Nat}(h:l9 (nd m) (jO 2 0 [v] [z]))(hz:z<m)(hk:mM (nd z).k=true):qm nd m=true:=by
 have hs:=z93 (P:=fun y=>y<m/\mM (nd y).k=true) ⟨hz,hk⟩;refine MW h (fun i y e=>(hs i y e).1) (by simp) (by simp) ?_;have hx:=Nz h 0 (fun i z _ e=>hs i z e);unfold rG;rw[au (by rw[h.k];simp),aO h.k,hx,h.rn,show kY (nd m) false false false false (([v].length:Nat):Int)=true from Aw h false false false false (.inr rfl) (.inr rfl)];simp
theorem j31{z:Nat}(h:l9 (nd m) (jO 4 0 [] [z]))(hz:z<m)(hk:(nd z).k=34):qm nd m=true:=by
 refine MW h (z93 (P:=fun y=>y<m) hz) (by simp) (by simp) ?_;unfold rG;rw[h.k,h.kn,h.kid (i:=0) rfl hz,hk,show kY (nd m) false false false false 0=true from Aw h false false false false (.inr rfl) (.inr rfl)];rfl
theorem yq4{t z:Nat}(h:l9 (nd m) (jO 3 1 [] [t,z]))(ht:t<m)(hz:z<m)(kt:(nd t).k=33)(kz:mM (nd z).k=true):qm nd m=true:=by
 refine MW h (IX (P:=fun y=>y<m) ht hz) (by simp) (by simp) ?_;have hx:=Nz h 1 (fun i y h1 e=>by
  rcases i with _|_|i
  ·omega
  ·simp at e;subst e;exact⟨hz,kz⟩
  ·simp at e)
 have hn:(nd m).n=1:=h.n;have ha:allB (fun i=>KQ (jL nd m i)) 0 1=true:=iw.2 fun i _ hi=>by
  obtain rfl:i=0:=by omega
  show KQ (jL nd m 0)=true;rw[h.kid (i:=0) rfl ht,kt];rfl
 unfold rG;rw[hn,show(1:Int).toNat=1 from rfl,hx,ha,show kY (nd m) false true false false 0=true from Aw h false true false false (.inl rfl) (.inr rfl),h.k,h.kn];rfl
theorem yv1{v1 v2 y z:Nat}(h:l9 (nd m) (jO 8 0 [v1,v2] [y,z]))(hy:y<m)(hz:z<m)(ky:mM (nd y).k=true)(kz:(nd z).k=1):qm nd m=true:=by
 refine MW h (IX (P:=fun y=>y<m) hy hz) (by simp) (by simp) ?_;have hx:lD nd m 0 1=true:=iw.2 fun i _ hi=>by
  obtain rfl:i=0:=by omega
  show mM (jL nd m 0)=true;rw[h.kid (i:=0) rfl hy];exact ky
 have hb:tN nd m=true:=by
  unfold tN;rw[h.kn];have:=h.kid (i:=1) rfl hz;rw[kz] at this;simp[this]
 unfold rG;rw[hx,hb,h.rn,show kY (nd m) false false false false (([v1,v2].length:Nat):Int)=true from Aw h false false false false (.inr rfl) (.inr rfl),h.k,h.kn];rfl
end
theorem Uo{p:Nat->Int}{n:Nat}{g:Nat->Nat}(h:∀x,x<=n-2->0<=p x->g (p x).toNat+1<=g x):∀j x,nI p n j x<=g x
 |0,_=>by
  unfold nI;exact aS _
 |j+1,x=>by
  unfold nI;split
  ·rename_i hc;have h1:=Uo h j (p (n-2 - j)).toNat;have h2:=h (n-2 - j) (by omega) hc.2;rw[hc.1];omega
  ·exact Uo h j x
end Go.Proofs.YthnkncpegihbhaaGreatDoor
