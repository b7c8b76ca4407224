import Derived.Test.YthnkncpegihbhaaGreatDoorXbI
import Derived.Test.YthnkncpegihbhaaGreatDoorWqC
import Derived.Test.YthnkncpegihbhaaGreatDoorXeG
import Derived.Test.YthnkncpegihbhaaGreatDoorImK
import Derived.Test.YthnkncpegihbhaaGreatDoorDepB
import Derived.Test.YthnkncpegihbhaaGreatDoorSkO
import Derived.Test.YthnkncpegihbhaaGreatDoorWwB
import Derived.Conc.EventLaws
import Derived.Test.YthnkncpegihbhaaGreatDoorRowB
set_option maxRecDepth 100000
set_option maxHeartbeats 16000000
namespace Go.Proofs.YthnkncpegihbhaaGreatDoor
section
open Go.RowKit
theorem j52:(fun _:Nat=>False)=ug.tb:=by
 funext k;refine propext ⟨fun h=>h.elim,fun h=>?_⟩;rcases h with⟨j,hj,_⟩|e|e
 ·exact absurd hj (aT _)
 ·cases e
 ·cases e
theorem j53(N:Nat)(u:World):iU N ug u:=
 ⟨⟨rfl,.inl ⟨rfl,rfl⟩⟩,⟨rfl,.inl ⟨rfl,rfl⟩⟩,fun k e=>(by cases e),fun j hj=>absurd hj (aT _),fun j hj=>absurd hj (aT _),fun j hj=>absurd hj (aT _),fun i j hi=>absurd hi (aT _),fun i j hi=>absurd hi (aT _),fun i j hi=>absurd hi (aT _),fun i j hi=>absurd hi (aT _),fun j hj=>absurd hj (aT _),fun j hj=>absurd hj (aT _)⟩
theorem j54(N:Nat):(fun _:World=>True)=iU N ug:=by
 funext u;exact propext ⟨fun _=>j53 N u,fun _=>trivial⟩
def TM(X:RX)(w:World):Prop:=∃g c,X.tks=.slice (some ⟨g,0,none⟩) 1 c/\jC w g 72/\w.cell? ⟨g,0,none⟩=some (ptr X.T)
theorem TM.at{X:RX}{w u:World}{F V N nv fc:Nat}{fa:Option Addr}(h:TM X w)(hp:Pm X w)(g:Gx (fun k=>k=X.M\/k=X.T) w u)(s:St (xT X F V N 0 (.slice none 0 0) nv) (dT F nv fa fc) u):lX (xT X F V N 0 (.slice none 0 0) nv) (dT F nv fa fc) u:=by
 obtain⟨b,c,e,h1,h2⟩:=h;have hk:=g.block b h1.lt (fun e=>by
  rcases e with e|e
  ·exact h1.ne hp.ym (by decide) e
  ·exact h1.ne hp.yt (by decide) e)
 have h3:=h1.keep hk;have hx:=s.ty;refine⟨b,c,e,h3,(ak (a:=⟨b,0,none⟩) hk).trans h2,fun e=>?_⟩;rcases e with e|e|e|e|e|e|e|e|e
 ·exact h3.ne hx.m (by decide) e
 ·exact h3.ne hx.t (by decide) e
 ·exact h3.ne hx.f (by decide) e
 ·exact h3.ne hx.v (by decide) e
 ·exact h3.ne (lJ s.rr e) (by decide) rfl
 ·exact h3.ne (lJ s.hr e) (by decide) rfl
 ·exact h3.ne (lJ s.sr e) (by decide) rfl
 ·exact h3.ne (lJ s.fw e) (by decide) rfl
 ·exact(e:False)
theorem pX.xT{X:RX}{n kept:Nat}{Fs:Nat->Nat}{Cs:Nat->Array Value}(h:pX X n kept Fs Cs)(F V N nv:Nat):pX (xT X F V N 0 (.slice none 0 0) nv) n kept Fs Cs:=
 ⟨by obtain⟨a,b,c,d,h1,h2,h3⟩:=h.first;exact⟨a,b,c,d,h1,h2,⟨h3.c⟩⟩,h.J9,h.Ih,h.Ii,h.coll,h.each⟩
def AQ(n kept:Nat)(tx:VD->ByteArray)(recs:List lU)(jc:Nat):Prop:=jc=2*n+3/\recs.length<=2000/\tK recs=mQ tx [mG (3+2*kept)] :: (List.range kept).map fun i:Nat=>mQ tx [mG i]
theorem z85(X:RX)(nf ub uo uc nv vc bo bc k1 rc n kept:Nat)(va a:Option Addr)(tx:VD->ByteArray)(Fs:Nat->Nat)(Cs:Nat->Array Value)(w:World)(h:Pm X w)(hU:UF X 0 nf ub uo uc nv vc va)(qZ:nv<=1000)(BZ:X.wY=.slice (some ⟨bo,0,none⟩) nf bc)(hb:Oo X bo 0 (ER k1))(t:TM X w)(kk:Od X k1 #[.slice a (3+kept+n) rc])(gJ:iF 1 0 X.W a (3+kept+n) fun i=>#[iE (Fs i) (Cs i)])(hrm:∀b,a=some b->b.block≠X.M)(hC:pX X n kept Fs Cs)(hk:kept<=n)(hn:n<=30)(hce:3+2*n<=X.ce)(htk:1000<=X.tk)(hv:kept+3<=nv)(hT:∀i,i<100->zK X tx [mG i])(hj:∀i,i<100->(mQ tx [mG i]).size<=4000):Calls Tryz.prog 29 #[ptr X.M] w fun e w'=>e=.returned (.tuple #[])/\MO X w nv (AQ n kept tx) w':=by
 refine z86 X nf ub uo uc nv vc bo bc k1 va (AQ n kept tx) w h hU qZ BZ hb (fun F V N fa fc u s g=>?_);refine(zw8 (xT X F V N 0 (.slice none 0 0) nv) (dT F nv fa fc) u n kept k1 rc a tx Fs Cs s kk gJ hrm (hC.xT F V N nv) ⟨rfl,⟨rfl,rfl,rfl⟩,none,0,rfl⟩ hk hn hce htk hv hT hj ⟨⟨j52,j54 _,rfl,rfl⟩,rfl,rfl,rfl,rfl,rfl,rfl,rfl,rfl,rfl⟩ (t.at h g s)).mono ?_;rintro e w' ⟨way,d',rfl,hs,rfl,h1,_,_,h2,h3⟩;exact⟨_,d',rfl,hs,rfl,h1,h2,h3⟩
theorem AU.tkW{X:RX}{w:World}(h:AU X.tks X.T w):TM X w:=h
structure ja9(X:RX)(n kept:Nat)(k1 rc:Nat)(a:Option Addr)(Fs:Nat->Nat)(Cs:Nat->Array Value):Prop where
 k:Od X k1 #[.slice a (3+kept+n) rc]
 r:iF 1 0 X.W a (3+kept+n) fun i=>#[iE (Fs i) (Cs i)]
 m:∀b,a=some b->b.block≠X.M
 c:pX X n kept Fs Cs
theorem zn2{w v:World}{tk dp ce E oc:Nat}{fns:Value}{X:RX}{Rs:Nat->Rel}{oa:Option Addr}{Vs:Nat->Value}(hN:NM w tk dp ce fns 1 X E Rs oa oc Vs v)(ub uo uc nv vc bo k1 rc n kept:Nat)(va a:Option Addr)(tx:VD->ByteArray)(Fs:Nat->Nat)(Cs:Nat->Array Value)(hU:UF X 0 1 ub uo uc nv vc va)(qZ:nv<=1000)(hoa:oa=some ⟨bo,0,none⟩)(hb:Oo X bo 0 (ER k1))(hM:ja9 X n kept k1 rc a Fs Cs)(hk:kept<=n)(hn:n<=30)(hce:3+2*n<=ce)(htk:1000<=tk)(hv:kept+3<=nv)(hT:∀i,i<100->zK X tx [mG i])(hj:∀i,i<100->(mQ tx [mG i]).size<=4000):Calls Tryz.prog 29 #[ptr X.M] v fun e w'=>e=.returned (.tuple #[])/\MO X v nv (AQ n kept tx) w':=
 z85 X 1 ub uo uc nv vc bo oc k1 rc n kept va a tx Fs Cs v hN.pm hU qZ (by rw[hN.wY,hoa]) hb hN.tr.tkW hM.k hM.r hM.m hM.c hk hn (by rw[hN.ta.2.2];exact hce) (by rw[hN.ta.1];exact htk) hv hT hj
theorem iP.mono{F bb:Nat}{w:World}{i:Nat}{R S:Rel}(h:iP F bb w i R)(k:∀v n u,R v n u->S v n u):iP F bb w i S:=fun u hu=>(h u hu).mono fun _ _ ⟨f,x,y,e1,r,b⟩=>⟨f,x,y,e1,k _ _ _ r,b⟩
abbrev JY(M bb:Nat):Rel:=F6 (Hl bb (G7 (yR (oh 4)) (G6 bb (E5 1 fun _=>E8 M) (Hq (MF M (z23 (yR (pV tC)) (yR (pV sK))))))))
theorem yb9(M bb:Nat):iY (JY M bb):=yz7 (L9 (Gm (qW _) (Lc (qc1 1 fun _ _=>Eh M) (Gh (NU M (BJ (qW _) (qW _)))) bb)) bb)
abbrev EZ(bb:Nat)(S:Rel):Rel:=F7 (Hl bb (G7 (yR (oh 0)) (G6 bb (E5 0 fun _=>z24) S)))
theorem Ri(bb:Nat){S:Rel}(ks:iY S):iY (EZ bb S):=yc2 (L9 (Gm (qW _) (Lc (qc1 0 fun _ h=>absurd h (aT _)) ks bb)) bb)
abbrev KH(bb:Nat):Rel:=Hl bb (G7 (yR (oh 13)) z24)
theorem Un(bb:Nat):iY (KH bb):=L9 (Gm (qW _) UH) bb
section
variable (M bb n kept:Nat)(d:FD)(x:FA)
def Wk0:Rel:=pY bb (vU d x 6) (Ho (vU d x 6) (zJ (JY M bb)))
def Wk1(i:Nat):Rel:=pY bb (vU d x (7+7*i+1)) (Ho (vU d x (7+7*i+1)) (zJ (E8 M)))
def Wk2(i:Nat):Rel:=pY bb (vU d x (7+7*i+6)) (Hr bb (z23 (BF ((0:Nat):Int)) (BF ((i+1:Nat):Int))) (yR (mG i)))
def Yj(j:Nat):Rel:=pY bb (vU d x (7+7*kept+5*j+4)) (Hr bb (z23 (BF ((0:Nat):Int)) (E8 M)) (yR (mG (kept+j))))
def Wk4:Rel:=pY bb (vU d x (iH n kept+4)) (EZ bb (KH bb))
def Wk5:Rel:=pY bb (vU d x (iH n kept+11)) (MC M (vU d x (iH n kept+11)) (BF ((0:Nat):Int)) (xq 1 fun _=>pY bb (vU d x (iH n kept+9)) (EZ bb (Hq (BF ((kept+2:Nat):Int))))))
theorem yr5:iY (Wk0 M bb d x):=Ec (UG (IQ (yb9 M bb)) _) bb _
theorem yr4(i:Nat):iY (Wk1 M bb d x i):=Ec (UG (IQ (Eh M)) _) bb _
theorem yr3(i:Nat):iY (Wk2 bb d x i):=Ec (UJ bb (BJ (yV _) (yV _)) (qW _)) bb _
theorem yr2(j:Nat):iY (Yj M bb kept d x j):=Ec (UJ bb (BJ (yV _) (Eh M)) (qW _)) bb _
theorem yr1:iY (Wk4 bb n kept d x):=Ec (Ri bb (Un bb)) bb _
theorem yr0:iY (Wk5 M bb n kept d x):=Ec (ZN M _ (yV _) (IJ 1 fun _ _=>Ec (Ri bb (Gh (yV _))) bb _)) bb _
structure PK(k:Nat)(v:Value)(m:Nat)(u:World):Prop where
 a0:k=0->Wk0 M bb d x v m u
 a1:∀i,i<kept->k=1+2*i->Wk1 M bb d x i v m u
 a2:∀i,i<kept->k=2+2*i->Wk2 bb d x i v m u
 a3:∀i,kept<=i->i<n->k=1+kept+i->Yj M bb kept d x (i-kept) v m u
 a4:k=1+kept+n->Wk4 bb n kept d x v m u
 a5:k=2+kept+n->Wk5 M bb n kept d x v m u
theorem QO(k:Nat):iY (PK M bb n kept d x k):=
 ⟨fun h c=>⟨fun e=>(yr5 M bb d x).old (h.a0 e) c,fun i hi e=>(yr4 M bb d x i).old (h.a1 i hi e) c,fun i hi e=>(yr3 bb d x i).old (h.a2 i hi e) c,fun i h1 h2 e=>(yr2 M bb kept d x _).old (h.a3 i h1 h2 e) c,fun e=>(yr1 bb n kept d x).old (h.a4 e) c,fun e=>(yr0 M bb n kept d x).old (h.a5 e) c⟩,
  fun h f=>⟨fun e=>(yr5 M bb d x).fr (h.a0 e) f,fun i hi e=>(yr4 M bb d x i).fr (h.a1 i hi e) f,fun i hi e=>(yr3 bb d x i).fr (h.a2 i hi e) f,fun i h1 h2 e=>(yr2 M bb kept d x _).fr (h.a3 i h1 h2 e) f,fun e=>(yr1 bb n kept d x).fr (h.a4 e) f,fun e=>(yr0 M bb n kept d x).fr (h.a5 e) f⟩⟩
end
section
variable {M bb n kept:Nat}{d:FD}{x:FA}{w:World}
theorem y41(h:BC M bb d x w)(hW:WF d n kept)(hk:kept<=n){k:Nat}(hkk:k<3+kept+n):iP FI bb w (jq n kept k) (PK M bb n kept d x k):=by
 rcases Le hkk with rfl|⟨i,hi,rfl⟩|⟨i,hi,rfl⟩|⟨i,h1,h2,rfl⟩|rfl|rfl
 ·have hT:=yi0 h (qW _) (qW _) (hW.lH (a:=2) (by omega)) (hW.H (a:=2) (by omega)) (y58 h (hW.lH (a:=0) (by omega)) (hW.H (a:=0) (by omega))) (y58 h (hW.lH (a:=1) (by omega)) (hW.H (a:=1) (by omega)));have hA:=VU h (m:=1) (q:=fun _=>4) (qW _) (fun _ _=>Eh M) (Gh (NU M (BJ (qW _) (qW _)))) (by omega) (hW.lH (a:=5) (by omega)) (hW.H (a:=5) (by omega)) rfl rfl (fun j hj=>by obtain rfl:j=0:=(by omega);rfl) rfl (Rj h (hW.lH (a:=3) (by omega)) (hW.H (a:=3) (by omega))) (fun _ _=>z80 h (hW.lH (a:=4) (by omega)) (hW.H (a:=4) (by omega))) (zx8 h (NU M (BJ (qW _) (qW _))) (hW.lH (a:=2) (by omega)) (hW.H (a:=2) (by omega)).k hT);have hE:=j57 h (L9 (Gm (qW _) (Lc (qc1 1 fun _ _=>Eh M) (Gh (NU M (BJ (qW _) (qW _)))) bb)) bb) (hW.lH (a:=5) (by omega)) (hW.H (a:=5) (by omega)).k hA;exact(y60 h (yb9 M bb) (hW.lH (a:=6) (by omega)) (hW.H (a:=6) (by omega)) hE).mono fun v m u r=>⟨fun _=>r,fun i _ e=>by omega,fun i _ e=>by omega,fun i _ _ e=>by omega,fun e=>by omega,fun e=>by omega⟩
 ·rw[Dh hi];refine(y60 h (Eh M) (hW.lA hi (r:=1) (by omega)) (hW.A hi (r:=1) (by omega)) (z80 h (hW.lA hi (r:=0) (by omega)) (hW.A hi (r:=0) (by omega)))).mono fun v m u r=>⟨fun e=>by omega,fun i' _ e=>?_,fun i _ e=>by omega,fun i _ _ e=>by omega,fun e=>by omega,fun e=>by omega⟩;obtain rfl:i'=i:=by omega
  exact r
 ·rw[Dj hi];refine(y59 h (yV _) (yV _) (qW _) (hW.lA hi (r:=6) (by omega)) (hW.A hi (r:=6) (by omega)) (hW.lA hi (r:=4) (by omega)) (hW.A hi (r:=4) (by omega)) (NI h (hW.lA hi (r:=3) (by omega)) (hW.A hi (r:=3) (by omega))) (NI h (hW.lA hi (r:=2) (by omega)) (hW.A hi (r:=2) (by omega))) (y61 h (hW.lA hi (r:=5) (by omega)) (hW.A hi (r:=5) (by omega)))).mono fun v m u r=>⟨fun e=>by omega,fun i' _ e=>by omega,fun i' _ e=>?_,fun i _ _ e=>by omega,fun e=>by omega,fun e=>by omega⟩;obtain rfl:i'=i:=by omega
  exact r
 ·rw[Gj h1 h2];have hj:i-kept<n-kept:=by omega
  refine(y59 h (yV _) (Eh M) (qW _) (hW.lB hj (r:=4) (by omega)) (hW.B hj (r:=4) (by omega)) (hW.lB hj (r:=2) (by omega)) (hW.B hj (r:=2) (by omega)) (NI h (hW.lB hj (r:=1) (by omega)) (hW.B hj (r:=1) (by omega))) (z80 h (hW.lB hj (r:=0) (by omega)) (hW.B hj (r:=0) (by omega))) (y61 h (hW.lB hj (r:=3) (by omega)) (hW.B hj (r:=3) (by omega)))).mono fun v m u r=>⟨fun e=>by omega,fun i' _ e=>by omega,fun i' _ e=>by omega,fun i' _ _ e=>?_,fun e=>by omega,fun e=>by omega⟩;obtain rfl:i'=i:=by omega
  exact r
 ·rw[Gi hk];have hA:=VU h (m:=0) (q:=fun _=>0) (Rs:=fun _=>z24) (qW _) (fun _ c=>absurd c (aT _)) (Un bb) (by omega) (hW.lC (t:=3) (by omega)) (hW.C (t:=3) (by omega)) rfl rfl (fun _ c=>absurd c (aT _)) rfl (Rj h (hW.lC (t:=2) (by omega)) (hW.C (t:=2) (by omega))) (fun _ c=>absurd c (aT _)) (y62 h (qW _) (hW.lC (t:=1) (by omega)) (hW.C (t:=1) (by omega)) (Rj h (hW.lC (t:=0) (by omega)) (hW.C (t:=0) (by omega))));exact(yr8 h (L9 (Gm (qW _) (Lc (qc1 0 fun _ h=>absurd h (aT _)) (Un bb) bb)) bb) (hW.lC (t:=4) (by omega)) (hW.C (t:=4) (by omega)) hA).mono fun v m u r=>⟨fun e=>by omega,fun i' _ e=>by omega,fun i' _ e=>by omega,fun i' _ _ e=>by omega,fun _=>r,fun e=>by omega⟩
 ·rw[Ej hk];have hA:=VU h (m:=0) (q:=fun _=>0) (Rs:=fun _=>z24) (qW _) (fun _ c=>absurd c (aT _)) (Gh (yV _)) (by omega) (hW.lC (t:=8) (by omega)) (hW.C (t:=8) (by omega)) rfl rfl (fun _ c=>absurd c (aT _)) rfl (Rj h (hW.lC (t:=7) (by omega)) (hW.C (t:=7) (by omega))) (fun _ c=>absurd c (aT _)) (zx7 h (hW.lC (t:=6) (by omega)) (hW.C (t:=6) (by omega)));have hD:=yr8 h (L9 (Gm (qW _) (Lc (qc1 0 fun _ h=>absurd h (aT _)) (Gh (yV _)) bb)) bb) (hW.lC (t:=9) (by omega)) (hW.C (t:=9) (by omega)) hA;have hB:=zx6 h (Ec (Ri bb (Gh (yV _))) bb _) (hW.lC (t:=10) (by omega)) (hW.lC (t:=9) (by omega)) (hW.C (t:=10) (by omega)) (by rw[(hW.C (t:=9) (by omega)).k];show(4:Int)≠14;decide) hD;exact(yi2 h (yV _) (IJ 1 fun _ _=>Ec (Ri bb (Gh (yV _))) bb _) (hW.lC (t:=11) (by omega)) (hW.C (t:=11) (by omega)) (NI h (hW.lC (t:=5) (by omega)) (hW.C (t:=5) (by omega))) hB).mono fun v m u r=>⟨fun e=>by omega,fun i' _ e=>by omega,fun i' _ e=>by omega,fun i' _ _ e=>by omega,fun e=>by omega,fun _=>r⟩
theorem wnK(hW:WF d n kept)(hk:kept<=n){k:Nat}(hkk:k<3+kept+n):jq n kept k<d.nn/\(d.nd (jq n kept k)).k≠14:=by
 rcases Le hkk with rfl|⟨i,hi,rfl⟩|⟨i,hi,rfl⟩|⟨i,h1,h2,rfl⟩|rfl|rfl
 ·exact⟨hW.lH (a:=6) (by omega),by rw[z25,(hW.H (a:=6) (by omega)).k];show(2:Int)≠14;decide⟩
 ·rw[Dh hi];exact⟨hW.lA hi (by omega),by rw[(hW.A hi (r:=1) (by omega)).k];show(2:Int)≠14;decide⟩
 ·rw[Dj hi];exact⟨hW.lA hi (by omega),by rw[(hW.A hi (r:=6) (by omega)).k];show(3:Int)≠14;decide⟩
 ·rw[Gj h1 h2];exact⟨hW.lB (by omega) (by omega),by rw[(hW.B (j:=i-kept) (by omega) (r:=4) (by omega)).k];show(3:Int)≠14;decide⟩
 ·rw[Gi hk];exact⟨hW.lC (by omega),by rw[(hW.C (t:=4) (by omega)).k];show(4:Int)≠14;decide⟩
 ·rw[Ej hk];exact⟨hW.lC (by omega),by rw[(hW.C (t:=11) (by omega)).k];show(8:Int)≠14;decide⟩
theorem zd8(h:BC M bb d x w)(hW:WF d n kept)(hk:kept<=n)(hn:n<=30):Calls Tryz.prog 49 #[ptr bb] w fun e w'=>Mks (xq (3+kept+n) (PK M bb n kept d x)) w e w':=by
 have hC:=hW.C (t:=12) (by omega);have hL:=hW.lC (t:=12) (by omega);have hkp:=fun j=>QO M bb n kept d x j;refine zq4 M bb d x _ (iH n kept+12) w h.b hW.nn (by unfold iH;omega) (fun u hu=>?_);refine qh2 M bb d x _ _ u (h.b.call hu) (IJ _ fun j _=>hkp j) hL hC.k (fun u2 hu2=>?_);have eG:=iq hu hu2;have gG:((List.range (3+kept+n)).map (jq n kept)).length=3+kept+n:=by simp
 obtain⟨kb,ko,e,hkb,gI⟩:=(h.call eG).kids hL hC (by show 0<((List.range (3+kept+n)).map (jq n kept)).length;omega);exact qr0 M bb d x _ (d.nd (iH n kept+12)) (x.nas (iH n kept+12)) (3+kept+n) (jq n kept) u2 (h.b.call eG) (fun j _=>hkp j) (by omega) (by omega) (hC.kn.trans gG) (fun j hj=>⟨(wnK hW hk hj).1,(wnK hW hk hj).2,(y41 h hW hk hj).call eG⟩) (by rw[e];exact V8 hkb (fun j hj=>gI j _ (IY hj)))
end
section
variable {X:RX}{n0:Nat}
theorem jR{B:Nat}{A:Array Value}(hX:X.M<n0)(h:Nb n0 X.W B A):Od X B A:=⟨h.h,by have:=h.n;omega⟩
theorem Uu{v:Value}(hX:X.M<n0)(h:E8 X.M v n0 X.W):∃b1 b2 b3,v=iE 278 #[ptr b1,ptr b2,ptr b3]/\JL X b1 b2 b3:=by
 obtain⟨a,b,c,rfl,h1,h2,h3⟩:=h;exact⟨a,b,c,rfl,jR hX h1,jR hX h2,jR hX h3⟩
theorem j86{bb:Nat}{nd v:Value}(hX:X.M<n0)(hb:Nb n0 X.W bb #[ptr X.M,nd])(h:JY X.M bb v n0 X.W):∃FE kT,v=iE FE kT/\Ro X FE kT:=by
 obtain⟨e,xv,rfl,h1,a1,a2,pv,rfl,h2,h3,p1,p2,xa,xb,rfl,h4,h5,⟨A,rfl,h6⟩,l1,l2,b1,ov,rv,rfl,h7,h8,h9,⟨B,oa,oc,Vs,rfl,h10,gJ,hl,_⟩,a3,tv,rfl,h11,t1,t2,t3,g,gc,gx,rfl,h12,h13,Y5,⟨g1,g2,g3⟩,x1,x2,y1,y2,rfl,h15,h16,⟨X1,rfl,h17⟩,⟨X2,rfl,h18⟩⟩:=h;obtain⟨s1,s2,s3,e3,k1,k2,k3⟩:=Uu hX (hl 0 (by omega));obtain⟨ra,ro,rfl,q1,q2,q3⟩:=gJ (by omega);refine⟨_,_,rfl,e,a1,a2,bb,p1,p2,A,nd,l1,l2,b1,B,oc,ra,ro,a3,s1,s2,s3,t1,t2,t3,g,0,gc,x1,x2,X1,X2,rfl,rfl,jR hX h1,jR hX h2,jR hX h3,jR hX hb,jR hX h4,jR hX h6,jR hX h5,jR hX h7,jR hX h10,fun _=>⟨ra,ro,rfl,aF _,q2,fun i hi j hj=>?_⟩,by omega,jR hX h8,jR hX h11,k1,k2,k3,jR hX h12,jR hX h13,⟨⟨g2,g3⟩,by omega⟩,jR hX Y5,jR hX h15,jR hX h16,jR hX h17,jR hX h18⟩;obtain rfl:i=0:=by omega
 rw[q3 0 hi j hj];show #[Vs 0][j]?=_;rw[e3]
theorem I5{bb:Nat}{nd v:Value}{A:Array Value}{L:Int}{R:Rel}(hX:X.M<n0)(hb:Nb n0 X.W bb #[ptr X.M,nd])(hA:A[1]?=some (.int .i64 L))(h:pY bb A R v n0 X.W):∃Cs r,v=iE 145 Cs/\R r n0 X.W/\∀FA csA,r=iE FA csA->vY X 145 FA Cs csA:=by
 obtain⟨a,b,c,r,rfl,h1,h2,h3,hr⟩:=h;refine⟨_,r,rfl,hr,fun FA csA e=>?_⟩;subst e;exact⟨a,b,c,bb,nd,A,L,rfl,rfl,jR hX h1,jR hX hb,jR hX h2,hA,jR hX h3⟩
theorem ys9{v:Value}{A:Array Value}{R:Rel}{j rb ro rc:Nat}(hX:X.M<n0)(hA:A[6]?=some (.slice (some ⟨rb,ro,none⟩) 1 rc))(hr:Oo X rb ro (.int .i64 (j:Int)))(h:Ho A (zJ R) v n0 X.W):∃FA csA r,v=iE FA csA/\R r n0 X.W/\∀FE kT,r=iE FE kT->wZ X j FA FE csA kT:=by
 obtain⟨a,b,f,rfl,h1,h2,L,r,rfl,h3,hr'⟩:=h;refine⟨_,_,r,rfl,hr',fun FE kT e=>?_⟩;subst e;exact⟨a,b,rb,ro,rc,L,A,rfl,rfl,jR hX h1,hA,hr,jR hX h2,jR hX h3⟩
theorem ys0{bb i:Nat}{nd v:Value}{S:Rel}(hX:X.M<n0)(hb:Nb n0 X.W bb #[ptr X.M,nd])(h:Hr bb (z23 (BF ((0:Nat):Int)) S) (yR (mG i)) v n0 X.W):∃FA csA r,v=iE FA csA/\S r n0 X.W/\∀FK Aa,r=iE FK Aa->yF X 0 i FA FK csA Aa:=by
 obtain⟨s1,s2,s3,g,gc,f,p,lv,rfl,h1,h2,h3,⟨g1,g2,g3,g4⟩,⟨fa,pb,tv,rfl,rfl,h4,h5,a,b,xa,r,rfl,h6,h7,⟨V,rfl,h8⟩,hr⟩,L,lx,rfl,h9,Z,rfl,h10⟩:=h;refine⟨_,_,r,rfl,hr,fun FK Aa e=>?_⟩;subst e;exact⟨s1,s2,s3,g,0,gc,fa,pb,bb,L,Z,a,b,V,nd,rfl,rfl,jR hX h1,jR hX h2,⟨⟨g2,g3⟩,by omega⟩,⟨⟨g2,g4⟩,by omega⟩,jR hX h3,jR hX h9,jR hX h10,jR hX h4,jR hX h5,jR hX hb,jR hX h6,jR hX h8,jR hX h7⟩
theorem ys3{bb:Nat}{nd v:Value}{S:Rel}(hX:X.M<n0)(hb:Nb n0 X.W bb #[ptr X.M,nd])(h:EZ bb S v n0 X.W):∃FA csA FP sO r,v=iE FA csA/\KG X FA FP csA sO/\S r n0 X.W/\∀FE kT,r=iE FE kT->Cj X FP FE sO kT:=by
 obtain⟨z,av,rfl,h1,a1,a2,pv,rfl,h2,h3,p1,p2,xa,xb,rfl,h4,h5,⟨A,rfl,h6⟩,l1,l2,b1,ov,r,rfl,h7,h8,h9,⟨B,oa,oc,Vs,rfl,h10,_,_,hz⟩,hr⟩:=h;obtain⟨rfl,rfl⟩:=hz rfl;refine⟨_,_,_,_,r,rfl,⟨z,rfl,rfl,jR hX h1⟩,hr,fun FE kT e=>?_⟩;subst e;exact⟨a1,a2,bb,p1,p2,A,nd,l1,l2,b1,B,0,none,rfl,rfl,jR hX h2,jR hX h3,jR hX hb,jR hX h4,jR hX h6,jR hX h5,jR hX h7,jR hX h10,(fun b e=>by cases e),jR hX h8⟩
theorem ja1{bb:Nat}{nd v:Value}(hX:X.M<n0)(hb:Nb n0 X.W bb #[ptr X.M,nd])(h:KH bb v n0 X.W):∃FE kT,v=iE FE kT/\Rk X FE kT:=by
 obtain⟨a1,a2,pv,rfl,h1,h2,p1,p2,xa,xb,rfl,h3,h4,⟨A,rfl,h5⟩,hy⟩:=h;obtain rfl:xb=O8:=hy;exact⟨_,_,rfl,a1,a2,bb,p1,p2,A,nd,rfl,rfl,jR hX h1,jR hX h2,jR hX hb,jR hX h3,jR hX h5,jR hX h4⟩
theorem j06{v:Value}{A:Array Value}{S:Rel}{i1 i2 rb ro rc:Nat}(hX:X.M<n0)(hA:A[6]?=some (.slice (some ⟨rb,ro,none⟩) 2 rc))(fG:Oo X rb ro (.int .i64 (i1:Int)))(hr2:Oo X rb (ro+1) (.int .i64 (i2:Int)))(h:MC X.M A (BF ((0:Nat):Int)) S v n0 X.W):∃FA csA r,v=iE FA csA/\S r n0 X.W/\∀G gs,r=iE G gs->xB X i1 i2 FA G csA gs:=by
 obtain⟨x1,x2,x3,x4,xa,r,rfl,h1,h2,h3,h4,⟨Vs,rfl,h5⟩,hr⟩:=h;refine⟨_,_,r,rfl,hr,fun G gs e=>?_⟩;subst e;exact⟨x1,x2,x3,x4,rb,ro,rc,A,Vs,rfl,rfl,jR hX h1,jR hX h2,jR hX h5,jR hX h3,hA,fG,hr2,jR hX h4⟩
theorem ja4{v:Value}{R:Rel}(hX:X.M<n0)(h:xq 1 (fun _=>R) v n0 X.W):∃G gs r,v=iE G gs/\R r n0 X.W/\∀F cs,r=iE F cs->Ah X G F gs cs:=by
 obtain⟨k1,g,gc,Vs,rfl,h1,g1,g2,hc⟩:=h;refine⟨_,_,Vs 0,rfl,(hc 0 (by omega)).2,fun F cs e=>?_⟩;refine⟨k1,_,gc,rfl,rfl,jR hX h1,fun _=>⟨g,0,rfl,aF _,g2,fun i hi j hj=>?_⟩,fun b e=>by cases e;show g≠X.M;omega⟩;obtain rfl:i=0:=by omega
 obtain rfl:j=0:=by
  have:j<1:=hj;omega
 rw[show 0+0*1+0=0 by omega,(hc 0 (by omega)).1,e];rfl
structure PI(X:RX)(d:FD)(x:FA)(n kept:Nat):Prop where
 l0:∃rb ro,(x.nas 6).ra=some ⟨rb,ro,none⟩/\Oo X rb ro (.int .i64 ((0:Nat):Int))
 l1:∀i,i<kept->∃rb ro,(x.nas (7+7*i+1)).ra=some ⟨rb,ro,none⟩/\Oo X rb ro (.int .i64 ((i+1:Nat):Int))
 l5:∃rb ro,(x.nas (iH n kept+11)).ra=some ⟨rb,ro,none⟩/\Oo X rb ro (.int .i64 ((kept+1:Nat):Int))/\Oo X rb (ro+1) (.int .i64 ((kept+2:Nat):Int))
theorem Xb{q:ND}{y:NA}{k rb ro:Nat}(h1:q.rn=k)(h2:y.ra=some ⟨rb,ro,none⟩):(kQ q y)[6]?=some (.slice (some ⟨rb,ro,none⟩) k y.rc):=by
 subst h1;rw[<-h2];rfl
theorem J6(q:ND)(y:NA):(kQ q y)[1]?=some (.int .i64 q.l):=rfl
theorem yy8{bb n kept:Nat}{nd v:Value}{d:FD}{x:FA}(fE:kept<=n)(hX:X.M<n0)(hb:Nb n0 X.W bb #[ptr X.M,nd])(hW:WF d n kept)(hx:PI X d x n kept)(h:xq (3+kept+n) (PK X.M bb n kept d x) v n0 X.W):∃k1 rc a Fs Cs,v=ER k1/\ja9 X n kept k1 rc a Fs Cs:=by
 obtain⟨k1,g,gc,Vs,rfl,h1,g1,g2,hc⟩:=h;obtain⟨Cs,hCs⟩:∃Cs:Nat->Array Value,∀j,Cs j=match Vs j with | .func _ _ cs=>cs|_=>#[]:=⟨_,fun _=>rfl⟩
 have hcs:∀{j cs},Vs j=iE 145 cs->Cs j=cs:=fun{j cs} e=>by rw[hCs j,e]
 have hr:=fun(j:Nat) (hj:j<3+kept+n)=>(hc j hj).2;have hV:∀j,j<3+kept+n->Vs j=iE 145 (Cs j):=fun j hj=>by
  have hs:∃cs,Vs j=iE 145 cs:=by
   rcases Le hj with e|⟨i,hi,e⟩|⟨i,hi,e⟩|⟨i,q1,q2,e⟩|e|e
   ·obtain⟨a,b,c,r,e',_⟩:=(hr j hj).a0 e;exact⟨_,e'⟩
   ·obtain⟨a,b,c,r,e',_⟩:=(hr j hj).a1 i hi e;exact⟨_,e'⟩
   ·obtain⟨a,b,c,r,e',_⟩:=(hr j hj).a2 i hi e;exact⟨_,e'⟩
   ·obtain⟨a,b,c,r,e',_⟩:=(hr j hj).a3 i q1 q2 e;exact⟨_,e'⟩
   ·obtain⟨a,b,c,r,e',_⟩:=(hr j hj).a4 e;exact⟨_,e'⟩
   ·obtain⟨a,b,c,r,e',_⟩:=(hr j hj).a5 e;exact⟨_,e'⟩
  obtain⟨cs,e⟩:=hs;rw[hcs e,e]
 refine⟨k1,gc,some ⟨g,0,none⟩,fun _=>145,Cs,rfl,jR hX h1,fun _=>⟨g,0,rfl,aF _,g2,fun i hi j hj=>?_⟩,fun b e=>by cases e;show g≠X.M;omega,?_,fun i hi=>?_,fun i hi=>?_,fun i q1 q2=>?_,?_,?_⟩
 ·obtain rfl:j=0:=by
   have:j<1:=hj;omega
  rw[show 0+i*1+0=i by omega,(hc i hi).1,hV i hi];rfl
 ·obtain⟨rb,ro,e1,e2⟩:=hx.l0;obtain⟨cs,r,e3,hr3,k3⟩:=I5 hX hb (J6 _ _) ((hr 0 (by omega)).a0 rfl);obtain⟨FA,csA,r',rfl,hr4,k4⟩:=ys9 hX (Xb (hW.H (a:=6) (by omega)).rn e1) e2 hr3;obtain⟨FE,kT,rfl,k5⟩:=j86 hX hb hr4;rw[hcs e3];exact⟨FA,csA,FE,kT,k3 _ _ rfl,k4 _ _ rfl,k5⟩
 ·obtain⟨rb,ro,e1,e2⟩:=hx.l1 i hi;obtain⟨cs,r,e3,hr3,k3⟩:=I5 hX hb (J6 _ _) ((hr (1+2*i) (by omega)).a1 i hi rfl);obtain⟨FA,csA,r',rfl,hr4,k4⟩:=ys9 hX (Xb (hW.A hi (r:=1) (by omega)).rn e1) e2 hr3;obtain⟨b1,b2,b3,rfl,k5⟩:=Uu hX hr4;rw[hcs e3];exact⟨FA,csA,b1,b2,b3,k3 _ _ rfl,k4 _ _ rfl,k5⟩
 ·obtain⟨cs,r,e3,hr3,k3⟩:=I5 hX hb (J6 _ _) ((hr (2+2*i) (by omega)).a2 i hi rfl);obtain⟨FA,csA,r',rfl,⟨Wb,rfl,h5⟩,k4⟩:=ys0 hX hb hr3;rw[hcs e3];exact⟨FA,csA,Wb,k3 _ _ rfl,k4 _ _ rfl,jR hX h5⟩
 ·have hr0:=(hr (1+kept+i) (by omega)).a3 i q1 q2 rfl;unfold Yj at hr0;rw[show kept+(i-kept)=i by omega] at hr0;obtain⟨cs,r,e3,hr3,k3⟩:=I5 hX hb (J6 _ _) hr0;obtain⟨FA,csA,r',rfl,hr4,k4⟩:=ys0 hX hb hr3;obtain⟨b1,b2,b3,rfl,k5⟩:=Uu hX hr4;rw[hcs e3];exact⟨FA,csA,b1,b2,b3,k3 _ _ rfl,k4 _ _ rfl,k5⟩
 ·obtain⟨cs,r,e3,hr3,k3⟩:=I5 hX hb (J6 _ _) ((hr (1+kept+n) (by omega)).a4 rfl);obtain⟨FA,csA,FP,sO,r',rfl,k4,hr4,k5⟩:=ys3 hX hb hr3;obtain⟨FE,kT,rfl,k6⟩:=ja1 hX hb hr4;rw[hcs e3];exact⟨FA,csA,FP,sO,FE,kT,k3 _ _ rfl,k4,k5 _ _ rfl,k6⟩
 ·obtain⟨rb,ro,e1,e2,e2'⟩:=hx.l5;obtain⟨cs,r,e3,hr3,k3⟩:=I5 hX hb (J6 _ _) ((hr (2+kept+n) (by omega)).a5 rfl);obtain⟨FA,csA,r',rfl,hr4,k4⟩:=j06 hX (Xb (hW.C (t:=11) (by omega)).rn e1) e2 e2' hr3;obtain⟨G,gs,r'',rfl,Xx,k5⟩:=ja4 hX hr4;obtain⟨cs2,r3,rfl,Ls,k6⟩:=I5 hX hb (J6 _ _) Xx;obtain⟨FA2,Yb,FP,sO,r4,rfl,k7,⟨a3,vv,rfl,h8,Vb,rfl,h9⟩,k8⟩:=ys3 hX hb Ls;rw[hcs e3];exact⟨FA,csA,G,gs,_,cs2,k3 _ _ rfl,k4 _ _ rfl,k5 _ _ rfl,FA2,FP,Yb,sO,a3,Vb,k6 _ _ rfl,k7,k8 _ _ rfl,jR hX h8,jR hX h9⟩
end
abbrev zA(v:VD):ByteArray:=bA (kS v.n)
theorem j42{X:RX}(hT:PN X)(i:Nat)(hi:i<100):zK X zA [mG i]:=fun v hv w hw=>by
 rw[List.mem_singleton.1 hv];exact zx4 (i:Int) w (by unfold Ac;omega) (hT w hw)
theorem UK(v:VD):mQ zA [v]=zA v:=by
 apply ByteArray.ext;simp[mQ,Lib.join,bA]
theorem yc1(v:VD):(mQ zA [v]).size<=4000:=by
 rw[UK,Uk];unfold kS;split
 ·have:=QX 20 v.n.natAbs [];simp at this ⊢;omega
 ·have:=QX 20 v.n.natAbs [];simp at this;omega
theorem AQ.num{n kept:Nat}{recs:List lU}{jc:Nat}(h:AQ n kept zA recs jc):jc=2*n+3/\tK recs=bA (kS ((3+2*kept:Nat):Int)) :: (List.range kept).map fun i:Nat=>bA (kS (i:Int)):=by
 refine⟨h.1,?_⟩;rw[h.2.2,UK];congr 1;exact dU fun i _=>UK _
theorem y71:VI:=fun L u a cap fas w hs h5 _ hc hT=>qr2 L u a cap fas w hs h5 hc hT
theorem qx2(L:Nat)(u:UD)(a:Option Addr)(cap:Nat)(fas:Nat->FA)(w:World)(hs:u.sm)(hc:∀i,i<u.n->qj (u.fn i) (fas i))(hT:jh L w u.n u.fn a fas):Calls Tryz.prog 26 #[vN u a cap] w fun e w'=>iG (oq u) w e w':=zj1 j08 y71 L u a cap fas w hs hc hT
end
section
open Go.RowKit
attribute [local go_sem] iD
attribute [local go_sem ↓] Go.wp_at_zero Go.wp_at_succ
structure UN(u:World)(ub uo:Nat)(fn:Nat->FD)(fas:Nat->FA)(n kept:Nat):Prop where
 f:jh 0 u 1 fn (some ⟨ub,uo,none⟩) fas
 c:qj (fn 0) (fas 0)
 w:WF (fn 0) n kept
 k:kept<=n
 n1:n<=30
section
variable {w u:World}{ub uo n kept:Nat}{fn:Nat->FD}{fas:Nat->FA}
theorem UN.call(h:UN w ub uo fn fas n kept)(hb:gZ w u):UN u ub uo fn fas n kept:=⟨h.f.below hb,h.c,h.w,h.k,h.n1⟩
theorem UN.cells(h:UN w ub uo fn fas n kept):ub<w.heap.size/\w.cell? ⟨ub,uo+0*7+2,none⟩=some (.int .i64 0)/\w.cell? ⟨ub,uo+0*7+3,none⟩=some (.bool true)/\w.cell? ⟨ub,uo+0*7+4,none⟩=some (.slice (fas 0).va (kept+3) (fas 0).vc)/\w.cell? ⟨ub,uo+0*7+6,none⟩=some (.slice (fas 0).na (fn 0).nn (fas 0).nc):=by
 obtain⟨b',off,e,_,hl,c0,c1,c2,c3,c4,c5,c6⟩:=jZ h.f.1 (k:=0) (by omega)
 cases e;rw[h.w.p] at c2;rw[h.w.r] at c3;rw[h.w.vn] at c4;exact⟨hl,c2,c3,c4,c6⟩
def PS(fn:Nat->FD)(fas:Nat->FA)(n kept M j:Nat):Rel:=fun v m u=>j=0->∃bb,Nb m u bb #[ptr M,.slice (fas 0).na (fn 0).nn (fas 0).nc]/\xq (3+kept+n) (PK M bb n kept (fn 0) (fas 0)) v m u
theorem j62(fn:Nat->FD)(fas:Nat->FA)(n kept M j:Nat):iY (PS fn fas n kept M j):=
 ⟨fun h c e=>by
  obtain⟨bb,h1,r⟩:=h e;exact⟨bb,h1.old c,(IJ _ fun j _=>QO M bb n kept _ _ j).old r c⟩,fun h f e=>by
  obtain⟨bb,h1,r⟩:=h e;exact⟨bb,h1.fr f,(IJ _ fun j _=>QO M bb n kept _ _ j).fr r f⟩⟩
theorem ye8(h:UN w ub uo fn fas n kept)(tk dp ce:Int)(uc:Nat):∀j,j<1->V3 w tk dp ce (.slice (some ⟨ub,uo,none⟩) 1 uc) j (fun M=>PS fn fas n kept M j):=fun j hj M E oa q oc u hb hM hm=>by
 obtain rfl:j=0:=by omega
 have hu:=h.call hb;obtain⟨hl,_,_,_,c6⟩:=hu.cells;refine(qr5 M ub uo uc 1 0 (fn 0) (fas 0) u (hm.1.cell 0 rfl) hj c6 (hu.f.2 0 hj).2.2).mono ?_;rintro e u1 ⟨bb,rfl,hbb,hBB,eu⟩;refine⟨bb,rfl,eu,?_⟩;have fH:=eu.size;refine(zd8 ⟨hBB,h.c.2⟩ h.w h.k h.n1).mono ?_;rintro e u2 ⟨f,x,y,rfl,r,eG⟩;exact⟨f,x,y,rfl,fun _=>⟨bb,⟨hbb,hBB.b.call eG⟩,(IJ _ fun j _=>QO M bb n kept _ _ j).old r fH⟩,eG⟩
end
section
variable {v v':World}{ub uo uc n kept tk dp ce E oc:Nat}{fn:Nat->FD}{fas:Nat->FA}{X:RX}{oa:Option Addr}{Vs:Nat->Value}
theorem j61(h:NM v tk dp ce (.slice (some ⟨ub,uo,none⟩) 1 uc) 1 X E (PS fn fas n kept X.M) oa oc Vs v')(hU:UN v ub uo fn fas n kept)(hT:lN v)(htk:1000<=tk)(hce:3+2*n<=ce):Calls Tryz.prog 29 #[ptr X.M] v' fun e w'=>e=.returned (.tuple #[])/\MO X v' (kept+3) (AQ n kept zA) w':=by
 have hB:=h.b;have hmw:=hB.mw;have hvs:=hB.bl.size;obtain⟨hub,a2,a3,a4,a6⟩:=hU.cells;have cellW:∀{b o:Nat} {z:Value},b<v.heap.size->v.cell? ⟨b,o,none⟩=some z->Oo X b o z:=fun{b o z} hb hc=>⟨⟨aH hb hvs,(hB.bl.cell (p:=⟨b,o,none⟩) hb).trans hc⟩,by omega⟩;have hUF:UF X 0 1 ub uo uc (kept+3) (fas 0).vc (fas 0).va:=⟨h.fn1,by omega,by omega,by omega,(cellW hub a2).1.2,(cellW hub a3).1.2,(cellW hub a4).1.2⟩;obtain⟨bo,rfl,hbo⟩:∃bo,oa=some ⟨bo,0,none⟩/\Oo X bo 0 (Vs 0):=by
  rcases hB.r.2 with⟨_,c⟩|⟨g,c,cur,e,c1,c2,_⟩
  ·omega
  ·cases e;refine⟨g,rfl,⟨⟨(aA.1 c2).1,?_⟩,fun c=>hB.apart.1 (by rw[c];rfl)⟩⟩;have:=hB.r.cells (g:=g) rfl 0 (Vs 0) (by simp);simpa[Addr.add] using this
 obtain⟨m0,u1,r1,hm0,r3,_⟩:=hB.l 0 (by omega);obtain⟨bb,nb0,r0⟩:=(j62 fn fas n kept X.M 0).fr r1 r3 rfl;have hnd:=(hU.f.2 0 (by omega)).2.2;have refs:∀{a k:Nat} {T:sZ} {z:Nat},a<(fn 0).nn->l9 ((fn 0).nd a) T->T.rs[k]?=some z->∃rb ro,((fas 0).nas a).ra=some ⟨rb,ro,none⟩/\Oo X rb (ro+k) (.int .i64 (z:Int)):=fun{a k T z} ha hz hk=>by
  obtain⟨rb,ro,e1,_,hrb,d1⟩:=jd (hnd.2 a ha).1 (k:=k) (by rw[hz.rn];exact(aP.1 hk).1);rw[hz.r k z hk] at d1;exact⟨rb,ro,e1,cellW hrb d1⟩
 have hX1:PI X (fn 0) (fas 0) n kept:=by
  refine⟨refs (k:=0) (hU.w.lH (a:=6) (by omega)) (hU.w.H (a:=6) (by omega)) rfl,fun i hi=>refs (k:=0) (hU.w.lA hi (r:=1) (by omega)) (hU.w.A hi (r:=1) (by omega)) rfl,?_⟩;obtain⟨rb,ro,e1,q1⟩:=refs (k:=0) (z:=kept+1) (hU.w.lC (t:=11) (by omega)) (hU.w.C (t:=11) (by omega)) rfl;obtain⟨rb',ro',e2,q2⟩:=refs (k:=1) (z:=kept+2) (hU.w.lC (t:=11) (by omega)) (hU.w.C (t:=11) (by omega)) rfl;rw[e1] at e2
  cases e2;exact⟨rb,ro,e1,q1,q2⟩
 obtain⟨k1,rc,a,Fs,Cs,eV,hMd⟩:=yy8 hU.k hm0 nb0 hU.w hX1 r0;rw[eV] at hbo;have hTX:PN X:=fun u hu=>by
  have hg:Below v.heap.size X.W u:=hu.to (by exact hvs) (fun q e=>by rcases e with e|e<;>omega);exact lN.keep hT (hB.bl.trans hg) (ah _)
 exact zn2 h ub uo uc (kept+3) (fas 0).vc bo k1 rc n kept (fas 0).va a zA Fs Cs hUF (by have:=hU.n1;have:=hU.k;omega) rfl hbo hMd hU.k hU.n1 hce htk (ah _) (fun i hi=>j42 hTX i hi) (fun i _=>yc1 _)
end
structure jd9(M E:Nat)(c:Int)(er tr:ByteArray)(ti md:Int)(ra:Option Addr)(n rc:Nat)(q:Nat->lU)(va:Option Addr)(vn vc:Nat)(w:World):Prop where
 lt:M<w.heap.size
 c8:w.cell? ⟨M,8,none⟩=some (.int .i64 c)
 c9:w.cell? ⟨M,9,none⟩=some (.slice ra n rc)
 c10:w.cell? ⟨M,10,none⟩=some (.slice va vn vc)
 c11:w.cell? ⟨M,11,none⟩=some (.string er)
 c12:w.cell? ⟨M,12,none⟩=some (.string tr)
 c13:w.cell? ⟨M,13,none⟩=some (.int .i64 ti)
 c14:w.cell? ⟨M,14,none⟩=some (.int .i64 md)
 c24:w.cell? ⟨M,24,none⟩=some (.chan (some E))
 c25:w.cell? ⟨M,25,none⟩=some (.int .u64 0)
 r:lQ 0 w ra n q
 e:w.heap[E]?=some (.chan 0 #[] false 0 0 false)
abbrev FZ:lU:=⟨0,0,0,0,⟨#[]⟩⟩
def RpL(Q:List lU->Nat->Prop)(w:World)(e:Ending)(w':World):Prop:=∃(l:List lU) (ti:Int) (md:Nat) (ra:Option Addr) (rc:Nat),Q l md/\e=.returned (.agg #[.int .i64 0,.slice ra l.length rc,.slice none 0 0,.string ⟨#[]⟩,.string ⟨#[]⟩,.int .i64 ti,.int .i64 (md:Int)])/\lQ 0 w' ra l.length (fun i=>l.getD i FZ)/\gZ w w'
theorem lQ.gx{S:Nat->Prop}{w w':World}{n:Nat}{a:Option Addr}{q:Nat->lU}(h:lQ 0 w a n q)(g:Gx S w w')(hS:∀b,a=some b->0<n->¬S b.block):lQ 0 w' a n q:=fun h0=>by
 obtain⟨b,off,e,h1,h2,h3⟩:=h h0;exact⟨b,off,e,h1,aH h2 g.size,fun i hi j hj=>(ak (a:=⟨b,off+i*5+j,none⟩) (g.block b h2 (hS _ e h0))).trans (h3 i hi j hj)⟩
theorem lQ.other{w:World}{n E:Nat}{a:Option Addr}{q:Nat->lU}(h:lQ 0 w a n q)(he:w.heap[E]?=some (.chan 0 #[] false 0 0 false)):∀b,a=some b->0<n->b.block≠E:=fun b e h0 c=>by
 obtain⟨b',off,e',h1,h2,h3⟩:=h h0;rw[e] at e'
 cases e';have:=h3 0 h0 0 (by omega);subst c;simp[World.cell?,he] at this
theorem ys2:∀(l:List lU) (i j:Nat),i<l.length->j<5->(rL l)[i*5+j]?=(FY (l.getD i ⟨0,0,0,0,⟨#[]⟩⟩))[j]?
 |[],i,j,h,_=>absurd h (by simp)
 |x :: l,0,j,_,hj=>by
  show(r5 x++rL l)[0*5+j]?=_;rw[bZ (by simp[r5];omega)];rcases(show j=0\/j=1\/j=2\/j=3\/j=4 by omega) with rfl|rfl|rfl|rfl|rfl<;>rfl
 |x :: l,i+1,j,h,hj=>by
  have ih:=ys2 l i j (by simpa using h) hj;show(r5 x++rL l)[(i+1)*5+j]?=_;rw[dA (by simp[r5];omega),show(i+1)*5+j-(r5 x).length=i*5+j by simp[r5];omega,ih];rfl
theorem j65{N:Nat}{w:World}{d:MD}(h:TV N w d):lQ 0 w d.ra d.recs.length (fun i=>d.recs.getD i ⟨0,0,0,0,⟨#[]⟩⟩):=fun h0=>by
 rcases h.2 with⟨c,e⟩|⟨g,c,cur,e,h1,h2,_⟩
 ·rw[e] at h0;omega
 ·have e1:d.ra=some ⟨g,0,none⟩:=by injection e
  refine⟨g,0,e1,aF _,(aA.1 h2).1,fun i hi j hj=>?_⟩;have hx:=ys2 d.recs i j hi hj;have hs:j<(FY (d.recs.getD i ⟨0,0,0,0,⟨#[]⟩⟩)).size:=hj;rw[cO hs] at hx ⊢;have:=h.cells (g:=g) (by rw[e1];rfl) (i*5+j) _ hx;rw[show 0+i*5+j=i*5+j by omega];generalize i*5+j=k at *
  cases k<;>simpa[Addr.add] using this
theorem jc8{v v':World}{ub uo uc n kept ce E oc:Nat}{fn:Nat->FD}{fas:Nat->FA}{X:RX}{oa:Option Addr}{Vs:Nat->Value}(h:NM v 5000 10 ce (.slice (some ⟨ub,uo,none⟩) 1 uc) 1 X E (PS fn fas n kept X.M) oa oc Vs v')(hU:UN v ub uo fn fas n kept)(hT:lN v)(hce:3+2*n<=ce):Calls Tryz.prog 29 #[ptr X.M] v' fun e v''=>e=.returned (.tuple #[])/\gZ v v''/\∃(l:List lU) (ti:Int) (md:Nat) (ra:Option Addr) (rc:Nat),AQ n kept zA l md/\jd9 X.M E 0 ⟨#[]⟩ ⟨#[]⟩ ti (md:Int) ra l.length rc (fun i=>l.getD i FZ) none 0 0 v'':=by
 refine(j61 h hU hT (by omega) hce).mono ?_;rintro e w' ⟨rfl,F,V,N',d',hS,hq,hg⟩;have hB:=h.b;have hEl:E<X.W.heap.size:=(aA.1 hB.e).1;have hWs:=h.pm.k.size;have gK:=h.pm.lt;have hvW:=hB.bl.size;have hmw:=hB.mw;refine⟨rfl,?_,d'.recs,d'.ti,d'.jc,d'.ra,d'.rc,hq,?_⟩
 ·exact h.k.trans (hg.to (by have:=h.k.size;omega) (fun k e=>by rcases e with e|e<;>omega))
 ·have hm:=hS.m.1;have hrs:=j65 hS.rr;refine⟨hm.1,hm.cell 8 rfl,hm.cell 9 rfl,hm.cell 10 rfl,hm.cell 11 rfl,hm.cell 12 rfl,hm.cell 13 rfl,hm.cell 14 rfl,?_,hm.cell 25 rfl,hrs,?_⟩
  ·rw[<-h.en];exact hm.cell 24 rfl
  ·rw[hg.block E (by omega) (fun e=>by rcases e with e|e;exact hB.em e;omega)];exact h.e
theorem yo3(w:World)(E:Nat)(he:w.heap[E]?=some (.chan 0 #[] false 0 0 false)):∃w',(Builtin.close_ #[73] 0 #[.chan (some E)]).run Tryz.prog w=.ok (.tuple #[]) w'/\Gx (fun k=>k=E) w w':=by
 refine⟨_,run_close_open _ _ he,rfl,rfl,rfl,by simp,fun k _ hn=>?_⟩;show(w.heap.setIfInBounds E _)[k]?=w.heap[k]?;rw[aW (fun e=>hn e.symm)]
theorem G9{S:Nat->Prop}{w w':World}(g:Gx S w w'){k o:Nat}(hk:k<w.heap.size)(hS:¬S k){v:Value}(h:w.cell? ⟨k,o,none⟩=some v):w'.cell? ⟨k,o,none⟩=some v:=(ak (a:=⟨k,o,none⟩) (g.block k hk hS)).trans h
theorem j18{w:World}{k o E:Nat}{v:Value}(h:w.cell? ⟨k,o,none⟩=some v)(he:w.heap[E]?=some (.chan 0 #[] false 0 0 false)):k≠E:=fun c=>by
 subst c;simp[World.cell?,he] at h
abbrev G5:Array Value:=#[.int .i64 0,.slice none 0 0,.slice none 0 0,.string ⟨#[]⟩,.string ⟨#[]⟩,.int .i64 0,.int .i64 0]
theorem Zt{w:World}{B N:Nat}{ra:Option Addr}{q:Nat->lU}(q4:OwnB w B G5)(q5:lQ 0 w ra N q):∀b,ra=some b->0<N->b.block≠B:=fun b e h0 c=>by
 obtain⟨b',off,e',_,h2,h3⟩:=q5 h0;rw[e] at e'
 cases e';replace c:b'=B:=c;subst c;have h4:=h3 0 h0 4 (by omega);have h5:=h3 0 h0 0 (by omega);have h6:=q4.1.2 (off+0*5+4);have h7:=q4.1.2 (off+0*5+0);rw[h6] at h4;rw[h7] at h5;rcases(show off=0\/off=1\/off=2\/2<off by omega) with rfl|rfl|rfl|ho
 ·simp[FY] at h5 h4;have h8:=h3 0 h0 1 (by omega);rw[q4.1.2 (0+0*5+1)] at h8;simp[FY] at h8
 ·simp[FY] at h5
 ·simp[FY] at h5
 ·rw[dJ (by show 7<=off+0*5+4;omega)] at h4;simp[FY] at h4
theorem j66(w:World)(B:Nat)(a0 a1 a2 a3 a4 a5 a6:Value):Gx (fun k=>k=B) w (((((((w.setCell ⟨B,0,none⟩ a0).setCell ⟨B,1,none⟩ a1).setCell ⟨B,2,none⟩ a2).setCell ⟨B,3,none⟩ a3).setCell ⟨B,4,none⟩ a4).setCell ⟨B,5,none⟩ a5).setCell ⟨B,6,none⟩ a6):=by
 have hs:∀{u:World} (j:Nat) (v:Value),Gx (fun k=>k=B) w u->Gx (fun k=>k=B) w (u.setCell ⟨B,j,none⟩ v):=fun j v h=>h.trans (Gx.set _ B j v) (fun _ _ e=>e);exact hs 6 _ (hs 5 _ (hs 4 _ (hs 3 _ (hs 2 _ (hs 1 _ (Gx.set w B 0 _))))))
theorem j01{u:UD}(h:∀y,¬oq u y){x:FT}(hx:Least (oq u) x):x=oI:=by
 rcases hx with⟨e,_⟩|⟨_,hp,_⟩
 ·exact e
 ·exact absurd hp (h x)
abbrev Je(c:Nat):ID:=⟨0,fun _=>⟨#[]⟩,0,fun _=>⟨#[]⟩,5000,10,(c:Int)⟩
structure ku(u:UD)(ub uo:Nat)(fas:Nat->FA)(n kept ce:Nat)(w:World):Prop where
 sm:u.sm
 n1:u.n=1
 nb:∀y,¬oq u y
 un:UN w ub uo u.fn fas n kept
 t:lN w
 c1:3+2*n<=ce
 c2:ce<=20000
theorem ku.call{u:UD}{ub uo:Nat}{fas:Nat->FA}{n kept ce:Nat}{w w':World}(h:ku u ub uo fas n kept ce w)(hb:gZ w w'):ku u ub uo fas n kept ce w':=⟨h.sm,h.n1,h.nb,h.un.call hb,lN.keep h.t hb (ah _),h.c1,h.c2⟩
theorem ku.ft{u:UD}{ub uo:Nat}{fas:Nat->FA}{n kept ce:Nat}{w:World}(h:ku u ub uo fas n kept ce w):jh 0 w u.n u.fn (some ⟨ub,uo,none⟩) fas:=by rw[h.n1];exact h.un.f
theorem ku.cap{u:UD}{ub uo:Nat}{fas:Nat->FA}{n kept ce:Nat}{w:World}(h:ku u ub uo fas n kept ce w):∀i,i<u.n->qj (u.fn i) (fas i):=fun i hi=>by rw[h.n1] at hi;obtain rfl:i=0:=(by omega);exact h.un.c
theorem qr3(u:UD)(ub uo uc:Nat)(fas:Nat->FA)(n kept ce:Nat)(w:World)(h:ku u ub uo fas n kept ce w):Calls Tryz.prog 9 #[.agg #[.slice (some ⟨ub,uo,none⟩) 1 uc],.agg #[.slice none 0 0,.slice none 0 0,.int .i64 5000,.int .i64 10,.int .i64 (ce:Int)],DU] w fun e w'=>RpL (AQ n kept zA) w e w':=by
 have HH:Hid (ku u ub uo fas n kept ce w):=h;have HHn:Hid (5000<=5000/\10<=60/\ce<=20000):=⟨by omega,by omega,h.c2⟩;have HHm:Hid (Fq (Je ce)):=by
  have h2:=h.c2;show Fq (Je ce);unfold Fq;simp only;omega
 clear h;go_in;go_wp2_with fail;obtain⟨w0,hw0⟩:∃w0,((w.alloc (.cells #[.slice (some ⟨ub,uo,none⟩) 1 uc] 31)).alloc (.cells #[.slice none 0 0,.slice none 0 0,.int .i64 5000,.int .i64 10,.int .i64 (ce:Int)] 34)).alloc (.cells G5 27)=w0:=⟨_,rfl⟩;have H0:Hid (gZ w w0/\Has w0 w.heap.size #[.slice (some ⟨ub,uo,none⟩) 1 uc]/\Has w0 (w.heap.size+1) #[.slice none 0 0,.slice none 0 0,.int .i64 5000,.int .i64 10,.int .i64 (ce:Int)]/\OwnB w0 (w.heap.size+1 + 1) G5):=by
  rw[<-hw0];refine⟨xW _ _ _ _,((Has.new _ _ _).alloc _).alloc _,(BI _ _ _ _).alloc _,?_⟩;have h9:=zM (w.alloc (.cells #[.slice (some ⟨ub,uo,none⟩) 1 uc] 31)) (.cells #[.slice none 0 0,.slice none 0 0,.int .i64 5000,.int .i64 10,.int .i64 (ce:Int)] 34) G5 27;rw[aN] at h9;exact h9
 rw[hw0];clear hw0;have hC:=fun v (hv:gZ w v)=>qx2 0 u (some ⟨ub,uo,none⟩) uc fas v HH.sm HH.cap (HH.call hv).ft;simp only[vN,HH.n1] at hC;refine(hC w0 H0.1).mono ?_;clear hC;rintro e w1 ⟨y,rfl,hy,eu⟩;obtain rfl:=j01 HH.nb hy;have H1:Hid (gZ w0 w1):=eu;have u0:=(H0.2.1.call eu).cell 0 rfl;have i0:=(H0.2.2.1.call eu).cell 0 rfl;have i1:=(H0.2.2.1.call eu).cell 1 rfl;have i2:=(H0.2.2.1.call eu).cell 2 rfl;have i3:=(H0.2.2.1.call eu).cell 3 rfl;have i4:=(H0.2.2.1.call eu).cell 4 rfl;clear hy eu;go_wp2_with fail;have hI:=fun v (hv:gZ w v)=>qp1 0 (Je ce) ⟨none,0,none,0⟩ v ⟨aF _,fun i hi=>absurd hi (aT _),aF _,fun i hi=>absurd hi (aT _)⟩ ⟨fun h=>absurd h (aT _),fun h=>absurd h (aT _)⟩;refine(hI w1 (iq H0.1 H1)).mono ?_;clear hI;rintro e w2 ⟨⟨b,rfl,hb⟩,eG⟩;obtain rfl:b=true:=hb.2 ⟨⟨aF _,fun i hi=>absurd hi (aT _)⟩,⟨aF _,fun i hi=>absurd hi (aT _)⟩,HHm.out⟩;have H2:Hid (gZ w0 w2):=iq H1.out eG;clear hb eG u0 i0 i1 i2 i3 i4;have u0:=(H0.2.1.call H2.out).cell 0 rfl;have i0:=(H0.2.2.1.call H2.out).cell 0 rfl;have i1:=(H0.2.2.1.call H2.out).cell 1 rfl;have i2:=(H0.2.2.1.call H2.out).cell 2 rfl;have i3:=(H0.2.2.1.call H2.out).cell 3 rfl;have i4:=(H0.2.2.1.call H2.out).cell 4 rfl;go_wp2_with fail;have HP2:Hid (ku u ub uo fas n kept ce w2/\gZ w w2):=⟨HH.call (iq H0.1 H2.out),iq H0.1 H2.out⟩;refine dV (qr4 ub uo uc 1 5000 10 ce (PS u.fn fas n kept) w2 (by omega) HHn.out (ye8 HP2.1.un _ _ _ uc)) ?_;rintro e w3 ⟨X,E,oa,oc,Vs,rfl,hNM⟩;have HN:Hid _:=hNM;clear hNM u0 i0 i1 i2 i3 i4;go_wp2_with fail;refine(jc8 HN HP2.1.un HP2.1.t HP2.1.c1).mono ?_;rintro e w4 ⟨rfl,eU,l,ti,md,ra,rc,hq,hrep⟩;have HQ:Hid (AQ n kept zA l md):=hq;clear hq;obtain⟨w5,hcl,hg5⟩:=yo3 w4 E hrep.e;have EM:=j18 hrep.c8 hrep.e;have H5:Hid (gZ w2 w4/\Gx (fun k=>k=E) w4 w5/\w2.heap.size<=E/\OwnB w5 (w.heap.size+1 + 1) G5/\lQ 0 w5 ra l.length (fun i=>l.getD i FZ)):=by
  have hE:=HN.b.ew;have hO:=(H0.2.2.2.call H2.out);exact⟨eU,hg5,hE,hg5.ownB (hO.call eU) (fun e=>by have:=hO.1.1;omega),hrep.r.gx hg5 (fun b e h0 c=>hrep.r.other hrep.e b e h0 c)⟩
 have c24:=hrep.c24;have hl:=hrep.lt;have c8:=G9 hg5 hl EM hrep.c8;have c9:=G9 hg5 hl EM hrep.c9;have c10:=G9 hg5 hl EM hrep.c10;have c11:=G9 hg5 hl EM hrep.c11;have c12:=G9 hg5 hl EM hrep.c12;have c13:=G9 hg5 hl EM hrep.c13;have c14:=G9 hg5 hl EM hrep.c14;have c25:=G9 hg5 hl EM hrep.c25;have r0:=H5.2.2.2.1.1.cell 0 rfl;have r1:=H5.2.2.2.1.1.cell 1 rfl;have r2:=H5.2.2.2.1.1.cell 2 rfl;have r3:=H5.2.2.2.1.1.cell 3 rfl;have r4:=H5.2.2.2.1.1.cell 4 rfl;have r5:=H5.2.2.2.1.1.cell 5 rfl;have r6:=H5.2.2.2.1.1.cell 6 rfl;have rz:=H5.2.2.2.1.2;clear eU hg5 hrep EM;go_wp2_with fail;refine(zw9 X.M w5 c25).mono ?_;rintro e w6 ⟨rfl,rfl⟩;clear hcl c24;go_wp2_with fail;obtain⟨q1,q2,q3,q4,q5⟩:=H5.out;have q6:=H0.1.size;have q7:=H2.size;have q8:=q4.1.1;have eY:gZ w w6:=HP2.2.trans ((q1.trans (q2.to (N:=w2.heap.size) q1.size (fun k e=>by omega))).mono (by have:=HP2.2.size;omega));have gJ:∀b,ra=some b->0<l.length->b.block≠w.heap.size+1 + 1:=Zt q4 q5;refine aG (v:=.agg #[.int .i64 0,.slice ra l.length rc,.slice none 0 0,.string ⟨#[]⟩,.string ⟨#[]⟩,.int .i64 ti,.int .i64 (md:Int)]) (by simp[results,Tryz.results9,go_sem,r0,r1,r2,r3,r4,r5,r6]) rfl ⟨l,ti,md,ra,rc,HQ.out,rfl,?_,?_⟩
 ·exact q5.gx (j66 w6 _ _ _ _ _ _ _ _) gJ
 ·exact kD (kD (kD (kD (kD (kD (kD eY _ (by omega)) _ (by omega)) _ (by omega)) _ (by omega)) _ (by omega)) _ (by omega)) _ (by omega)
theorem y75(u:UD)(ub uo uc:Nat)(fas:Nat->FA)(n kept ce:Nat)(w:World)(h:ku u ub uo fas n kept ce w):Calls Tryz.prog 5 #[.agg #[.slice (some ⟨ub,uo,none⟩) 1 uc],.agg #[.slice none 0 0,.slice none 0 0,.int .i64 5000,.int .i64 10,.int .i64 (ce:Int)]] w fun e w'=>RpL (AQ n kept zA) w e w':=by
 have HH:Hid (ku u ub uo fas n kept ce w):=h;go_in;go_wp2_with fail;refine(qr3 u ub uo uc fas n kept ce _ (HH.call (xW _ _ _ _))).mono ?_;rintro e w1 ⟨l,ti,md,ra,rc,hq,rfl,hr,hb⟩;have HQ:Hid (AQ n kept zA l md):=hq;have hO:OwnB w1 (w.heap.size+1 + 1) G5:=by
  have h9:=zM (w.alloc (.cells #[.slice (some ⟨ub,uo,none⟩) 1 uc] 31)) (.cells #[.slice none 0 0,.slice none 0 0,.int .i64 5000,.int .i64 10,.int .i64 (ce:Int)] 34) G5 27;rw[aN] at h9;exact h9.call hb
 have H1:Hid (lQ 0 w1 ra l.length (fun i=>l.getD i FZ)/\gZ w w1/\OwnB w1 (w.heap.size+1 + 1) G5):=⟨hr,iq (xW _ _ _ _) hb,hO⟩;have r0:=hO.1.cell 0 rfl;have r1:=hO.1.cell 1 rfl;have r2:=hO.1.cell 2 rfl;have r3:=hO.1.cell 3 rfl;have r4:=hO.1.cell 4 rfl;have r5:=hO.1.cell 5 rfl;have r6:=hO.1.cell 6 rfl;have rz:=hO.2;go_wp2_with fail;obtain⟨q5,eY,q4⟩:=H1.out;have gJ:∀b,ra=some b->0<l.length->b.block≠w.heap.size+1 + 1:=Zt q4 q5;refine aG (v:=.agg #[.int .i64 0,.slice ra l.length rc,.slice none 0 0,.string ⟨#[]⟩,.string ⟨#[]⟩,.int .i64 ti,.int .i64 (md:Int)]) (by simp[results,Tryz.results5,go_sem,r0,r1,r2,r3,r4,r5,r6]) rfl ⟨l,ti,md,ra,rc,HQ.out,rfl,?_,?_⟩
 ·exact q5.gx (j66 w1 _ _ _ _ _ _ _ _) gJ
 ·exact kD (kD (kD (kD (kD (kD (kD eY _ (by omega)) _ (by omega)) _ (by omega)) _ (by omega)) _ (by omega)) _ (by omega)) _ (by omega)
theorem qv0(n:Int)(w:World)(h0:-1000<=n)(h1:n<=1000):Calls Tryz.prog 25 #[.agg #[.int .i64 2,.int .i64 n,.float .f64 0,.string ⟨#[]⟩,.int .i64 0]] w fun e w'=>e=.returned (.string (bA (kS n)))/\gZ w w':=by
 go_in;go_wp2_with fail;refine(zf0 2 n 0 ⟨#[]⟩ 0 _).mono ?_;rintro e w1 ⟨rfl,eu⟩;have hok:okB 2 n 0 ⟨#[]⟩ 0=true:=by
  simp[okB,lY,nH];constructor<;>kernel_rfl
 rw[hok];have HO:Hid (Has w1 w.heap.size #[.int .i64 2,.int .i64 n,.float .f64 0,.string ⟨#[]⟩,.int .i64 0]/\gZ w w1):=⟨(Has.new _ _ _).call eu,iq (q01 _ _) eu⟩;have o0:=HO.1.cell 0 rfl;have o1:=HO.1.cell 1 rfl;go_wp2_with fail;refine(zc3 n _ (by omega) (by omega)).mono ?_;rintro e w2 ⟨rfl,eG⟩;have HB:Hid (gZ w w2):=iq HO.2 eG;go_wp2_with fail;go_ret;exact⟨rfl,HB⟩
theorem qt7(n:Int)(w:World)(h0:-1000<=n)(h1:n<=1000):Calls Tryz.prog 8 #[.int .i64 n] w fun e w'=>e=.returned (.string (bA (kS n)))/\gZ w w':=by
 go_in;go_wp2_with fail;refine(qv0 n _ h0 h1).mono ?_;rintro e w1 ⟨rfl,hb⟩;have HB:Hid _:=hb;go_wp2_with fail;go_ret;exact⟨rfl,HB⟩
def oP(q:Nat->lU):Nat->List Value
 |0=>[]
 |k+1=>oP q k++(if(q k).k=6 then[.string (q k).s] else[])
theorem y87(q:Nat->lU):∀k,(oP q k).length<=k
 |0=>ah _
 |k+1=>by
  have:=y87 q k;unfold oP;split<;>simp<;>omega
abbrev VH(c:Int)(ra:Option Addr)(n rc:Nat)(va:Option Addr)(vn vc:Nat)(er tr:ByteArray)(ti md:Int):Value:=.agg #[.int .i64 c,.slice ra n rc,.slice va vn vc,.string er,.string tr,.int .i64 ti,.int .i64 md]
theorem z69(c:Int)(ra:Option Addr)(n rc:Nat)(va:Option Addr)(vn vc:Nat)(er tr:ByteArray)(ti md:Int)(q:Nat->lU)(w:World)(hn:n<=2000)(hr:lQ 0 w ra n q):Calls Tryz.prog 7 #[VH c ra n rc va vn vc er tr ti md] w fun e w'=>(∃a k,e=.returned (.slice a (oP q n).length k)/\w'.ownsRow w.heap.size 9 1 (.slice a (oP q n).length k) (oP q n).length (oP q n))/\gZ w w':=by
 have HR:Hid (lQ 0 w ra n q):=hr;go_in;go_wp2_with fail;obtain⟨w0,hw0⟩:∃w0,w.alloc (.cells #[.int .i64 c,.slice ra n rc,.slice va vn vc,.string er,.string tr,.int .i64 ti,.int .i64 md] 27)=w0:=⟨_,rfl⟩;have H0:Hid (gZ w w0):=by rw[<-hw0];exact q01 _ _
 rw[hw0]
 go_loopw [3,9] (fun v i wr=>∃k a oc,k<=n/\v=.slice a (oP q k).length oc/\i=.int .i64 (k:Int)/\Hid (wr.ownsRow w.heap.size 9 1 (.slice a (oP q k).length oc) (oP q k).length (oP q k)/\gZ w wr)) (fun _ i _=>n-(intOf i).toNat)
 case atStart=>exact⟨0,none,0,aF _,rfl,rfl,aX _ _ _ _,H0.out⟩
 case round=>
  obtain⟨k,a,oc,hk,rfl,rfl,HO⟩:=hrel;by_cases fE:k<n
  ·obtain⟨b,off,e1,_,hb,c0,c1,c2,c3,c4⟩:=ja3 (iF.below HR.out HO.2) fE;rw[e1];have hpl:=y87 q k;by_cases h6:(q k).k=6
   ·obtain⟨m,hm⟩:∃m,(oP q k).length=m:=⟨_,rfl⟩;have HM:Hid ((oP q k).length=m):=hm;rw[hm] at HO hpl;rw[hm];obtain⟨i0,gU,gQ,hy1,hy2⟩:=bT Zl;have OZ:World.ownsRow ((wr.alloc (.cells #[.int .i64 6,.int .i64 (q k).t,.int .i64 (q k).f,.int .i64 (q k).l,.string (q k).s] 58)).alloc (.cells #[.string (q k).s] 9)) w.heap.size 9 1 (.slice a m oc) m (oP q k):=q35 HO.1 (kF _ _ _);obtain⟨v',w7,gq,gB,gY,_,hat⟩:=run_append_own_at (P:=Tryz.prog) ((wr.alloc (.cells #[.int .i64 6,.int .i64 (q k).t,.int .i64 (q k).f,.int .i64 (q k).l,.string (q k).s] 58)).alloc (.cells #[.string (q k).s] 9)) w.heap.size 25 25 9 i0 _ 1 16 Tryz.underlying25 gU gQ hy1 hy2 rfl (by decide) (.slice a m oc) m (oP q k) OZ ⟨wr.heap.size+1,0,none⟩ 1 1 [.string (q k).s] rfl (fun j v e=>by
     have hn:=Az (wr.alloc (.cells #[.int .i64 6,.int .i64 (q k).t,.int .i64 (q k).f,.int .i64 (q k).l,.string (q k).s] 58)) #[.string (q k).s] 9 j v e;rw[aN] at hn;exact hn) (by simp[Value.oneCell']) (by unfold maxLen;omega) (by omega) (by have:=HO.2.size;simp;omega)
    obtain⟨nP,oc',rfl⟩:=zO gB;have hp1:oP q (k+1)=oP q k++[.string (q k).s]:=by show oP q k++(if(q k).k=6 then[.string (q k).s] else[])=_;rw[aO h6]
    have HN:Hid (w7.ownsRow w.heap.size 9 1 (.slice nP (oP q (k+1)).length oc') (oP q (k+1)).length (oP q (k+1))/\gZ w w7/\(oP q (k+1)).length=m+1):=by
     have hl:(oP q (k+1)).length=m+1:=by rw[hp1,aU,HM.out];rfl
     refine⟨?_,(((HO.2.alloc HO.2.size _).alloc (by have:=HO.2.size;simp;omega) _).grown gY (by have:=HO.2.size;simp;omega) (fun z e=>(jm HO.1 ((jg _ _ _).symm.trans e)).1)),hl⟩;rw[hl,hp1];exact gB
    go_wp2_with (at_builtin;refine um (by rfl) _ _ _ _ (by rfl) (.slice a m oc) (.slice (some ⟨wr.heap.size+1,0,none⟩) 1 1) _ _ (by rfl) (by rfl) gq ?_);go_roundw
    case rel=>exact⟨k+1,nP,oc',by omega,by rw[HN.2.2],by go_num,HN.1,HN.2.1⟩
    case measure=>simp[intOf];omega
   ·go_wp2_with fail;go_roundw
    case rel=>
     have hp1:oP q (k+1)=oP q k:=by show oP q k++(if(q k).k=6 then[.string (q k).s] else[])=_;rw[au h6];simp
     exact⟨k+1,a,oc,by omega,by rw[hp1],by go_num,by rw[hp1];exact⟨q35 HO.1 (q01 _ _),HO.2.alloc HO.2.size _⟩⟩
    case measure=>simp[intOf];omega
  ·obtain rfl:k=n:=by omega
   go_wp2_with fail;go_ret;exact⟨⟨a,oc,rfl,HO.1⟩,HO.2⟩
end
def wpH(R:Nat):Nat->Nat×Nat
 |0=>(2,0)
 |1=>(2,1)
 |2=>(5,2)
 |3=>(5,0)
 |4=>(5,1)
 |5=>(6,0)
 |_=>(R,0)
def Vj(R i:Nat):Nat->Nat×Nat
 |0=>(7+7*i+1,0)
 |1=>(R,1+2*i)
 |2=>(7+7*i+4,1)
 |3=>(7+7*i+4,0)
 |4=>(7+7*i+6,0)
 |5=>(7+7*i+6,1)
 |_=>(R,2+2*i)
def Vh(R kept j:Nat):Nat->Nat×Nat
 |0=>(7+7*kept+5*j+2,1)
 |1=>(7+7*kept+5*j+2,0)
 |2=>(7+7*kept+5*j+4,0)
 |3=>(7+7*kept+5*j+4,1)
 |_=>(R,1+2*kept+j)
def wpC(n kept:Nat):Nat->Nat×Nat
 |0=>(iH n kept+1,0)
 |1=>(iH n kept+3,1)
 |2=>(iH n kept+3,0)
 |3=>(iH n kept+4,0)
 |4=>(iH n kept+12,1+kept+n)
 |5=>(iH n kept+11,0)
 |6=>(iH n kept+8,1)
 |7=>(iH n kept+8,0)
 |8=>(iH n kept+9,0)
 |9=>(iH n kept+10,0)
 |10=>(iH n kept+11,1)
 |_=>(iH n kept+12,2+kept+n)
def qM(n kept z:Nat):Nat×Nat:=if z<7 then wpH (iH n kept+12) z else if z<7+7*kept then Vj (iH n kept+12) ((z-7) / 7) ((z-7)%7) else if z<iH n kept then Vh (iH n kept+12) kept ((z-(7+7*kept)) / 5) ((z-(7+7*kept))%5) else wpC n kept (z-iH n kept)
section
variable {n kept:Nat}
theorem IG{a:Nat}(h:a<7):qM n kept a=wpH (iH n kept+12) a:=aO h
theorem IE{i r:Nat}(h:i<kept)(hr:r<7):qM n kept (7+7*i+r)=Vj (iH n kept+12) i r:=by
 unfold qM;rw[au (by omega),aO (by omega),show(7+7*i+r-7) / 7=i by omega,show(7+7*i+r-7)%7=r by omega]
theorem MJ{j r:Nat}(h:j<n-kept)(hr:r<5):qM n kept (7+7*kept+5*j+r)=Vh (iH n kept+12) kept j r:=by
 unfold qM;rw[au (by omega),au (by omega),aO (by unfold iH;omega),show(7+7*kept+5*j+r-(7+7*kept)) / 5=j by omega,show(7+7*kept+5*j+r-(7+7*kept))%5=r by omega]
theorem Ar{t:Nat}:qM n kept (iH n kept+t)=wpC n kept t:=by
 unfold qM;rw[au (by unfold iH;omega),au (by unfold iH;omega),au (by omega),show iH n kept+t-iH n kept=t by omega]
theorem yv5{i:Nat}(h:i<kept):qM n kept (7+7*i)=Vj (iH n kept+12) i 0:=IE (r:=0) h (by omega)
theorem yv4{j:Nat}(h:j<n-kept):qM n kept (7+7*kept+5*j)=Vh (iH n kept+12) kept j 0:=MJ (r:=0) h (by omega)
theorem yv3:qM n kept (iH n kept)=wpC n kept 0:=Ar (t:=0)
theorem oH{b z y:Nat}{P:Prop}(e:([]:List Nat)[b]?=some z):P/\z<y:=by simp at e
theorem zU{F:Nat->Nat×Nat}{b z a x:Nat}(e:[x][b]?=some z)(h:F x=(a,0))(hl:x<a):F z=(a,b)/\z<a:=by
 rcases b with _|b
 ·simp at e;subst e;exact⟨h,hl⟩
 ·simp at e
theorem wR{F:Nat->Nat×Nat}{b z a x y:Nat}(e:[x,y][b]?=some z)(h:F x=(a,0))(h':F y=(a,1))(hx:x<a)(hy:y<a):F z=(a,b)/\z<a:=by
 rcases b with _|_|b
 ·simp at e;subst e;exact⟨h,hx⟩
 ·simp at e;subst e;exact⟨h',hy⟩
 ·simp at e
theorem y39{k:Nat}(hk:kept<=n)(h:k<3+kept+n):jq n kept k<iH n kept+12:=by
 rcases Le h with rfl|⟨i,hi,rfl⟩|⟨i,hi,rfl⟩|⟨i,h1,h2,rfl⟩|rfl|rfl
 ·rw[z25];unfold iH;omega
 ·rw[Dh hi];unfold iH;omega
 ·rw[Dj hi];unfold iH;omega
 ·rw[Gj h1 h2];unfold iH;omega
 ·rw[Gi hk];omega
 ·rw[Ej hk];omega
theorem y90(hk:kept<=n):∀a,a<iH n kept+13->∀b z,(jJ n kept a).cs[b]?=some z->qM n kept z=(a,b)/\z<a:=by
 refine MK (P:=fun a T=>∀b z,T.cs[b]?=some z->qM n kept z=(a,b)/\z<a) (fun r hr=>?_) (fun i r hi hr=>?_) (fun j r hj hr=>?_) (fun t ht=>?_)
 ·rcases lt7 hr with rfl|rfl|rfl|rfl|rfl|rfl|rfl
  ·exact fun b z e=>oH e
  ·exact fun b z e=>oH e
  ·exact fun b z e=>wR e (IG (a:=0) (by omega)) (IG (a:=1) (by omega)) (by omega) (by omega)
  ·exact fun b z e=>oH e
  ·exact fun b z e=>oH e
  ·intro b z e;replace e:[3,4,2][b]?=some z:=e;rcases b with _|_|_|b
   ·simp at e;subst e;exact⟨IG (a:=3) (by omega),by omega⟩
   ·simp at e;subst e;exact⟨IG (a:=4) (by omega),by omega⟩
   ·simp at e;subst e;exact⟨IG (a:=2) (by omega),by omega⟩
   ·simp at e
  ·exact fun b z e=>zU e (IG (a:=5) (by omega)) (by omega)
 ·rcases lt7 hr with rfl|rfl|rfl|rfl|rfl|rfl|rfl
  ·exact fun b z e=>oH e
  ·exact fun b z e=>zU e (yv5 hi) (by omega)
  ·exact fun b z e=>oH e
  ·exact fun b z e=>oH e
  ·exact fun b z e=>wR e (IE (r:=3) hi (by omega)) (IE (r:=2) hi (by omega)) (by omega) (by omega)
  ·exact fun b z e=>oH e
  ·exact fun b z e=>wR e (IE (r:=4) hi (by omega)) (IE (r:=5) hi (by omega)) (by omega) (by omega)
 ·rcases J7 hr with rfl|rfl|rfl|rfl|rfl
  ·exact fun b z e=>oH e
  ·exact fun b z e=>oH e
  ·exact fun b z e=>wR e (MJ (r:=1) hj (by omega)) (yv4 hj) (by omega) (by omega)
  ·exact fun b z e=>oH e
  ·exact fun b z e=>wR e (MJ (r:=2) hj (by omega)) (MJ (r:=3) hj (by omega)) (by omega) (by omega)
 ·rcases y9 ht with rfl|rfl|rfl|rfl|rfl|rfl|rfl|rfl|rfl|rfl|rfl|rfl|rfl
  ·exact fun b z e=>oH e
  ·exact fun b z e=>zU e yv3 (by omega)
  ·exact fun b z e=>oH e
  ·exact fun b z e=>wR e (Ar (t:=2)) (Ar (t:=1)) (by omega) (by omega)
  ·exact fun b z e=>zU e (Ar (t:=3)) (by omega)
  ·exact fun b z e=>oH e
  ·exact fun b z e=>oH e
  ·exact fun b z e=>oH e
  ·exact fun b z e=>wR e (Ar (t:=7)) (Ar (t:=6)) (by omega) (by omega)
  ·exact fun b z e=>zU e (Ar (t:=8)) (by omega)
  ·exact fun b z e=>zU e (Ar (t:=9)) (by omega)
  ·exact fun b z e=>wR e (Ar (t:=5)) (Ar (t:=10)) (by omega) (by omega)
  ·intro b z e;replace e:((List.range (3+kept+n)).map (jq n kept))[b]?=some z:=e;have hb:b<3+kept+n:=by
    have:=(aP.1 e).1;simpa using this
   rw[IY hb] at e
   cases e;refine⟨?_,y39 hk hb⟩;rcases Le hb with rfl|⟨i,hi,rfl⟩|⟨i,hi,rfl⟩|⟨i,h1,h2,rfl⟩|rfl|rfl
   ·rw[z25];exact IG (a:=6) (by omega)
   ·rw[Dh hi];exact IE (r:=1) hi (by omega)
   ·rw[Dj hi];exact IE (r:=6) hi (by omega)
   ·rw[Gj h1 h2,MJ (r:=4) (by omega) (by omega)];show(iH n kept+12,1+2*kept+(i-kept))=_;rw[show 1+2*kept+(i-kept)=1+kept+i by omega]
   ·rw[Gi hk];exact Ar (t:=4)
   ·rw[Ej hk];exact Ar (t:=11)
def lq(n kept x:Nat):Nat:=if x=iH n kept+12 then 0 else if x<7 then 7-x else if x<7+7*kept then 7-(x-7)%7 else if x<iH n kept then 5-(x-(7+7*kept))%5 else iH n kept+12-x
theorem Vf{a:Nat}(h:a<7):lq n kept a=7-a:=by
 unfold lq;rw[au (by unfold iH;omega),aO h]
theorem QN{i r:Nat}(h:i<kept)(hr:r<7):lq n kept (7+7*i+r)=7-r:=by
 unfold lq;rw[au (by unfold iH;omega),au (by omega),aO (by omega)];omega
theorem Ve{j r:Nat}(h:j<n-kept)(hr:r<5):lq n kept (7+7*kept+5*j+r)=5-r:=by
 unfold lq;rw[au (by unfold iH;omega),au (by omega),au (by omega),aO (by unfold iH;omega)];omega
theorem MI{t:Nat}(h:t<13):lq n kept (iH n kept+t)=12-t:=by
 unfold lq;by_cases c:t=12
 ·rw[aO (by omega)];omega
 ·rw[au (by omega),au (by unfold iH;omega),au (by unfold iH;omega),au (by omega)];omega
theorem yt5(hk:kept<=n):∀x:Nat,x<iH n kept+12->∃a b:Nat,a<iH n kept+13/\(jJ n kept a).cs[b]?=some x/\lq n kept a+1<=lq n kept x:=fun x hx=>by
 have hR:∀{k:Nat},k<3+kept+n->1<=lq n kept (jq n kept k)->∃a b:Nat,a<iH n kept+13/\(jJ n kept a).cs[b]?=some (jq n kept k)/\lq n kept a+1<=lq n kept (jq n kept k):=fun{k} h1 h2=>by
  refine⟨iH n kept+12,k,by omega,?_,by rw[MI (t:=12) (by omega)];omega⟩;rw[uP];exact IY h1
 rcases Ux (show x<iH n kept+13 by omega) with h|⟨i,r,h1,h2,rfl⟩|⟨j,r,h1,h2,rfl⟩|⟨t,h1,rfl⟩
 ·have hH:∀{a b y:Nat},a<7->y<a->(Fv a).cs[b]?=some y->∃a b:Nat,a<iH n kept+13/\(jJ n kept a).cs[b]?=some y/\lq n kept a+1<=lq n kept y:=fun{a b y} q1 q2 q3=>⟨a,b,by unfold iH;omega,by rw[D9 q1];exact q3,by rw[Vf q1,Vf (by omega)];omega⟩;rcases lt7 h with rfl|rfl|rfl|rfl|rfl|rfl|rfl
  ·exact hH (a:=2) (b:=0) (by omega) (by omega) rfl
  ·exact hH (a:=2) (b:=1) (by omega) (by omega) rfl
  ·exact hH (a:=5) (b:=2) (by omega) (by omega) rfl
  ·exact hH (a:=5) (b:=0) (by omega) (by omega) rfl
  ·exact hH (a:=5) (b:=1) (by omega) (by omega) rfl
  ·exact hH (a:=6) (b:=0) (by omega) (by omega) rfl
  ·have:=hR (k:=0) (by omega) (by rw[z25,Vf (by omega)];omega);rw[z25] at this;exact this
 ·have hA:∀{q b:Nat},q<7->r<q->(Bj i q).cs[b]?=some (7+7*i+r)->∃a b:Nat,a<iH n kept+13/\(jJ n kept a).cs[b]?=some (7+7*i+r)/\lq n kept a+1<=lq n kept (7+7*i+r):=fun{q b} q1 q2 q3=>⟨7+7*i+q,b,by unfold iH;omega,by rw[BH h1 q1];exact q3,by rw[QN h1 q1,QN h1 h2];omega⟩;rcases lt7 h2 with rfl|rfl|rfl|rfl|rfl|rfl|rfl
  ·exact hA (q:=1) (b:=0) (by omega) (by omega) rfl
  ·have:=hR (k:=1+2*i) (by omega) (by rw[Dh h1,QN h1 (by omega)];omega);rw[Dh h1] at this;exact this
  ·exact hA (q:=4) (b:=1) (by omega) (by omega) rfl
  ·exact hA (q:=4) (b:=0) (by omega) (by omega) rfl
  ·exact hA (q:=6) (b:=0) (by omega) (by omega) rfl
  ·exact hA (q:=6) (b:=1) (by omega) (by omega) rfl
  ·have:=hR (k:=2+2*i) (by omega) (by rw[Dj h1,QN h1 (by omega)];omega);rw[Dj h1] at this;exact this
 ·have hB:∀{q b:Nat},q<5->r<q->(Bh kept j q).cs[b]?=some (7+7*kept+5*j+r)->∃a b:Nat,a<iH n kept+13/\(jJ n kept a).cs[b]?=some (7+7*kept+5*j+r)/\lq n kept a+1<=lq n kept (7+7*kept+5*j+r):=fun{q b} q1 q2 q3=>⟨7+7*kept+5*j+q,b,by unfold iH;omega,by rw[z68 h1 q1];exact q3,by rw[Ve h1 q1,Ve h1 h2];omega⟩;rcases J7 h2 with rfl|rfl|rfl|rfl|rfl
  ·exact hB (q:=2) (b:=1) (by omega) (by omega) rfl
  ·exact hB (q:=2) (b:=0) (by omega) (by omega) rfl
  ·exact hB (q:=4) (b:=0) (by omega) (by omega) rfl
  ·exact hB (q:=4) (b:=1) (by omega) (by omega) rfl
  ·have e:jq n kept (1+kept+(kept+j))=7+7*kept+5*j+4:=by
    rw[Gj (by omega) (by omega)];omega
   have:=hR (k:=1+kept+(kept+j)) (by omega) (by rw[e,Ve h1 (by omega)];omega);rw[e] at this;exact this
 ·have hC:∀{q b:Nat},q<13->t<q->(Bg n kept q).cs[b]?=some (iH n kept+t)->∃a b:Nat,a<iH n kept+13/\(jJ n kept a).cs[b]?=some (iH n kept+t)/\lq n kept a+1<=lq n kept (iH n kept+t):=fun{q b} q1 q2 q3=>⟨iH n kept+q,b,by omega,by rw[uP];exact q3,by rw[MI q1,MI h1];omega⟩;rcases y9 h1 with rfl|rfl|rfl|rfl|rfl|rfl|rfl|rfl|rfl|rfl|rfl|rfl|rfl
  ·exact hC (q:=1) (b:=0) (by omega) (by omega) rfl
  ·exact hC (q:=3) (b:=1) (by omega) (by omega) rfl
  ·exact hC (q:=3) (b:=0) (by omega) (by omega) rfl
  ·exact hC (q:=4) (b:=0) (by omega) (by omega) rfl
  ·have:=hR (k:=1+kept+n) (by omega) (by rw[Gi hk,MI (by omega)];omega);rw[Gi hk] at this;exact this
  ·exact hC (q:=11) (b:=0) (by omega) (by omega) rfl
  ·exact hC (q:=8) (b:=1) (by omega) (by omega) rfl
  ·exact hC (q:=8) (b:=0) (by omega) (by omega) rfl
  ·exact hC (q:=9) (b:=0) (by omega) (by omega) rfl
  ·exact hC (q:=10) (b:=0) (by omega) (by omega) rfl
  ·exact hC (q:=11) (b:=1) (by omega) (by omega) rfl
  ·have:=hR (k:=2+kept+n) (by omega) (by rw[Ej hk,MI (by omega)];omega);rw[Ej hk] at this;exact this
  ·omega
end
section
variable {d:FD}{n kept:Nat}
theorem WF.yY(h:WF d n kept){a b x:Nat}(ha:a<iH n kept+13)(hb:(jJ n kept a).cs[b]?=some x):rZ d.nd d.nn a b x:=by
 have hz:=h.nd a (by rw[h.nn];exact ha);exact⟨by rw[h.nn];exact ha,by rw[hz.kn];exact(aP.1 hb).1,hz.c b x hb⟩
theorem WF.Gw(h:WF d n kept){a b:Nat}(ha:a<iH n kept+13)(hb:b<(d.nd a).kn):∃z,(jJ n kept a).cs[b]?=some z/\(d.nd a).c b=(z:Int):=by
 have hz:=h.nd a (by rw[h.nn];exact ha);rw[hz.kn] at hb;exact⟨_,bg hb,hz.c b _ (bg hb)⟩
theorem WF.Jb(h:WF d n kept)(hk:kept<=n):uh d.nd d.nn:=fun i hi j hj=>by
 rw[h.nn] at hi;obtain⟨z,h1,h2⟩:=h.Gw hi hj;have:=(y90 hk i hi j z h1).2;rw[h2];omega
theorem WF.Gq(h:WF d n kept)(hk:kept<=n){x a b:Nat}(hx:x<iH n kept+12)(ha:a<iH n kept+13)(hb:(jJ n kept a).cs[b]?=some x):jM d.nd d.nn x=(a:Int):=by
 have hz:=h.nd a (by rw[h.nn];exact ha);have hp:=y90 hk a ha b x hb;have h1:xR d.nd (iH n kept+13) x=(a:Int):=z38 (N:=iH n kept+13) (b0:=b) (by rw[hz.kn];exact(aP.1 hb).1) (by rw[hz.c b x hb];simp) (fun a' b' ha' hb' e=>by
  obtain⟨z,q1,q2⟩:=h.Gw ha' hb';rw[q2] at e;have e':z=x:=by simpa using e
  rw[e'] at q1;have:=(y90 hk a' ha' b' x q1).1;rw[hp.1] at this
  cases this;exact⟨rfl,rfl⟩) (iH n kept+13) ha (ah _)
 rw[y91 (h.Jb hk),h.nn,au (by omega),h1]
theorem WF.par(h:WF d n kept)(hk:kept<=n){x:Nat}(hx:x<iH n kept+12):0<=jM d.nd d.nn x:=by
 obtain⟨a,b,h1,h2,_⟩:=yt5 hk x hx;rw[h.Gq hk hx h1 h2];exact aS _
theorem WF.dep(h:WF d n kept)(hk:kept<=n)(j x:Nat):nI (jM d.nd d.nn) d.nn j x<=lq n kept x:=
 Uo (fun y hy h0=>by
  rw[h.nn] at hy;obtain⟨a,b,h1,h2,h3⟩:=yt5 hk y (by omega);rw[h.Gq hk (by omega) h1 h2];simpa using h3) j x
theorem zx0(x:Nat):lq n kept x<=12:=by
 unfold lq;split
 ·omega
 ·split
  ·omega
  ·split
   ·omega
   ·split<;>omega
end
end Go.Proofs.YthnkncpegihbhaaGreatDoor
