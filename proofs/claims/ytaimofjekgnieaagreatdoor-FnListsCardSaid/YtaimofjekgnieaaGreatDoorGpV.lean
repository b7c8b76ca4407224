import Derived.Test.YtaimofjekgnieaaGreatDoorGpM
import Derived.Test.YtaimofjekgnieaaGreatDoorGqC
import Derived.Test.YtaimofjekgnieaaGreatDoorQbI
import Derived.Test.YtaimofjekgnieaaGreatDoorUnD
import Derived.Test.YtaimofjekgnieaaGreatDoorGqB
import Derived.Test.YtaimofjekgnieaaGreatDoorWtB
import Derived.Conc.EventLaws
set_option maxRecDepth 100000
set_option maxHeartbeats 16000000
namespace Go.Proofs.YtaimofjekgnieaaGreatDoor
open Go.RowKit
structure SI where
 D:DI
 P:QI
 A3:Array Value
 rb:Nat
 ro:Nat
 rc:Nat
structure SI.ok (S:SI) (M:MI) (X:RX):Prop where
 x2:Od X M.x2 #[ptr X.M]
 x3:Od X M.x3 S.A3
 A3:S.A3[6]?=some (.slice (some ⟨S.rb,S.ro,none⟩) 2 S.rc)
 r0:Oo X S.rb S.ro (.int .i64 (S.P.i1:Int))
 r1:Oo X S.rb (S.ro+1) (.int .i64 (S.P.i2:Int))
 x4:Od X M.x4 #[bkV S.D.k1]
 D:S.D.ok X M.bb
 P:S.P.ok X M.bb
 q1:S.D.r1=S.P.r1
 q2:S.D.r2=S.P.r2
 i1:S.P.i1<X.nv
 i2:S.P.i2<X.nv
 ne:S.P.i1≠S.P.i2
theorem zt1 (f:Nat->FrD) (h0:(f 0).text.size<=1100) (h1:(f 1).text.size<=1100):(trS f 2).size<=2300:=by
 have e:(trS f 2).size=(Lib.join (((qb8 2 2).map (fun i=>(f i).text)).map (·.data.toList)) [32]).length:=by simp[trS,ByteArray.size]
 rw[e]
 show (Lib.join [(f 1).text.data.toList,(f 0).text.data.toList] [32]).length<=_
 rw[Lib.join_length]
 show 1*1+((f 1).text.data.toList.length+((f 0).text.data.toList.length+0))<=_
 have a0:(f 0).text.data.toList.length=(f 0).text.size:=Array.length_toList
 have a1:(f 1).text.data.toList.length=(f 1).text.size:=Array.length_toList
 rw[a0,a1]
 omega
abbrev frZ:Nat->FrD:=fun _=>⟨0,0,0,⟨#[]⟩⟩
theorem FI.tr_size (I:FI) (X:RX) (hfl:X.fl=1) (fn0:Nat) (nm0:ByteArray) (ln:Int) (h0:nm0.size<=1000) (h1:I.nm.size<=1000):(I.tr X frZ fn0 nm0 ln 0).size<=2300:=by
 unfold FI.tr
 rw[hfl]
 refine zt1 _ ?_ ?_
 ·have e:(if 0+1<1+1 then frsT X frZ fn0 nm0 ln 0 else ⟨0,I.fn,I.G.L,I.nm⟩:FrD)=⟨X.F,fn0,ln,nm0⟩:=by
   rw[if_pos (by omega)]
   unfold frsT
   rw[if_neg (by omega)]
  show (FrD.text (if 0+1<1+1 then frsT X frZ fn0 nm0 ln 0 else ⟨0,I.fn,I.G.L,I.nm⟩)).size<=1100
  rw[e]
  exact FrD.text_size _ h0
 ·have e:(if 1+1<1+1 then frsT X frZ fn0 nm0 ln 1 else ⟨0,I.fn,I.G.L,I.nm⟩:FrD)=⟨0,I.fn,I.G.L,I.nm⟩:=if_neg (by omega)
  show (FrD.text (if 1+1<1+1 then frsT X frZ fn0 nm0 ln 1 else ⟨0,I.fn,I.G.L,I.nm⟩)).size<=1100
  rw[e]
  exact FrD.text_size _ h1
theorem zs9 (qs:List (Nat×Nat)) (i j:Nat) (h:qs.map Prod.fst=[i,j]):∃ Q P,qs=[(i,Q),(j,P)]:=by
 match qs,h with
 |[a,b],h=>
  obtain ⟨a1,a2⟩:=a
  obtain ⟨b1,b2⟩:=b
  simp at h
  obtain ⟨rfl,rfl⟩:=h
  exact ⟨a2,b2,rfl⟩
def qg9 (M:MI) (S:SI) (I:FI) (fn:Int) (j:Nat) (tr:ByteArray):List RcD:=[⟨1,0,fn,M.L1,⟨#[]⟩⟩,⟨1,0,fn,M.L2,⟨#[]⟩⟩,⟨1,0,fn,M.D.L,⟨#[]⟩⟩]++(I.many j++I.bad)++[⟨5,0,fn,M.L2,sEc 52⟩,⟨1,0,fn,S.D.L,⟨#[]⟩⟩,⟨6,0,fn,S.D.L,q43 txC [tbD,stD tr]⟩]
theorem z63 (S:SI) (M:MI) (X:RX) (d:MD) (tr:ByteArray) (g:Nat) (u:World) (hS:S.ok M X) (kb:Od X M.bb #[ptr X.M,M.nd]) (h:St X d u) (hg:Bl X d u g [tbD,stD tr]) (htr:tr.size<=3000) (hr:d.recs.length<3900) (hh:d.held.length<=500) (ht:d.ti+2<=X.tk) (hsc:d.sc.length<=900) :
  Calls Tryz.prog 204 #[ptr X.F,.slice (some ⟨S.rb,S.ro,none⟩) 2 S.rc,.slice (some ⟨g,0,none⟩) 2 2,bkV S.D.k1] u fun e w'=>q11 X d u (EndR (d.recs++[⟨1,0,X.fn,S.D.L,⟨#[]⟩⟩,⟨6,0,X.fn,S.D.L,q43 txC [tbD,stD tr]⟩]) d.sc.length) e w':=by
 refine z99 X d S.rb S.ro S.rc g 2 2 S.D.k1 [S.P.i1,S.P.i2] [tbD,stD tr] _ u h (fun d' w' k j i hj=>?_) (fun j i hj=>?_) hg rfl rfl (by omega) hsc (fun qs d1 w1 k1 e1 hq hb=>?_)
 ·match j,hj with
  |0,hj=>
   obtain rfl:S.P.i1=i:=by simpa using hj
   exact hS.r0.at k.s
  |1,hj=>
   obtain rfl:S.P.i2=i:=by simpa using hj
   exact hS.r1.at k.s
  |j+2,hj=>simp at hj
 ·match j,hj with
  |0,hj=>
   obtain rfl:S.P.i1=i:=by simpa using hj
   exact hS.i1
  |1,hj=>
   obtain rfl:S.P.i2=i:=by simpa using hj
   exact hS.i2
  |j+2,hj=>simp at hj
 ·obtain ⟨Q1,Q2,rfl⟩:=zs9 qs _ _ hq
  have hb1:=hb 0 _ _ rfl rfl
  have hb2:=hb 1 _ _ rfl rfl
  have hvs:d1.vs=(d.vs.set S.P.i1 (ptr Q1)).set S.P.i2 (ptr Q2):=congrArg DP.vs e1
  have hnv:=h.nv
  have hi1:=hS.i1
  have hi2:=hS.i2
  have hv1:d1.vs[S.P.i1]?=some (ptr Q1):=by
   rw[hvs,List.getElem?_set_ne (Ne.symm hS.ne),List.getElem?_set_self (by omega)]
  have hv2:d1.vs[S.P.i2]?=some (ptr Q2):=by
   rw[hvs,List.getElem?_set_self (by rw[List.length_set];omega)]
  have hr1:d1.recs=d.recs:=congrArg DP.recs e1
  have hh1:d1.held=d.held:=congrArg DP.held e1
  have ht1:d1.ti=d.ti:=congrArg DP.ti e1
  refine (qs3 S.D X d1 M.bb M.nd [] (((d1.p.begun X.fn S.D.L).plus [] 1).rcd ⟨6,0,X.fn,S.D.L,q43 txC [tbD,stD tr]⟩) w1 hS.D kb k1.s rfl (by rw[hr1];omega) (by omega) (fun d3 w3 k3 e3=>?_)).mono ?_
  ·have hv3:d3.vs=d1.vs:=congrArg DP.vs e3
   have hr3:d3.recs=d1.recs++[⟨1,0,X.fn,S.D.L,⟨#[]⟩⟩]:=congrArg DP.recs e3
   have hh3:d3.held=d1.held:=congrArg DP.held e3
   have ht3:d3.ti=d1.ti+1:=congrArg DP.ti e3
   have hl3:d3.line=S.D.L:=congrArg DP.line e3
   have hz:=zv8 S.P X d3 M.bb M.nd Q1 Q2 tr w3 hS.P kb k3.s (by rw[hv3];exact hv1) (hb1.step k3) (by rw[hv3];exact hv2) (hb2.step k3) htr (by rw[hr3,hr1];simp;omega) (by rw[hh3,hh1];exact hh) (by omega)
   rw[hl3,e3] at hz
   rw[hS.q1,hS.q2]
   exact hz
  ·rintro e w' ⟨way,d',rfl,hs',rfl,e'⟩
   refine ⟨_,d',rfl,hs',rfl,?_,?_⟩
   ·have h1:d'.recs=(d1.recs++[⟨1,0,X.fn,S.D.L,⟨#[]⟩⟩]++[])++[⟨6,0,X.fn,S.D.L,q43 txC [tbD,stD tr]⟩]:=congrArg DP.recs e'
    rw[h1,hr1]
    simp
   ·have h1:d'.sc=d1.sc:=congrArg DP.sc e'
    rw[h1]
    exact Nat.le_refl _
def yo3 (recs:List RcD) (M:MI) (S:SI) (I:FI) (fn:Int) (n:Nat) (tr:ByteArray) (m:Nat) (way:Value) (d':MD) (w':World):Prop:=∃ j,j<n/\EndR (recs++qg9 M S I fn j tr) m way d' w'
theorem z08 (M:MI) (S:SI) (I:FI) (X:RX) (n k fn0:Nat) (nm0:ByteArray) (hM:M.ok I X n) (hS:S.ok M X) (hI:I.ok X k) (hB:I.bok X) (hk:1<=k) (hk2:k<=250) (hn:n<=50) (hdep:X.fl<X.dp) (hfl:X.fl=1) (hTop:TopF X I.ub I.uo I.nf fn0 nm0) (hL:I64r M.D.L) (hm:250<n*k):∀ (d:MD) (u:World),St X d u->d.recs.length<1000->d.held.length<=100->d.ti+n*2+10<X.tk->d.cls=.slice none 0 0->d.sin+1<=X.ce->d.mad<=100000->d.sc.length<=800->d.tab=.slice none 0 0->d.liv=.slice none 0 0->
  Calls Tryz.prog 163 #[ptr X.F,ptr M.k1] u fun e w'=>q11 X d u (yo3 (d.recs) M S I X.fn n (I.tr X frZ fn0 nm0 M.D.L 0) d.sc.length) e w':=by
 intro d u h hl hh ht hc hs hma hsc htb hlv
 have hvl:M.i<(d.p.begun X.fn M.L1).vs.length:=by show M.i<d.vs.length;rw[h.nv];exact hM.i
 refine (ql8 X d M.k1 M.ka M.kc M.s1 M.s2 M.s3 M.t1 M.t2 M.t3 (LnTo X d.line (LetR I X M.i (d.p.begun X.fn M.L1))) (yo3 d.recs M S I X.fn n (I.tr X frZ fn0 nm0 M.D.L 0) d.sc.length) u h hM.k1 hM.ka hM.kb ?_ (fun way d' w' hz=>?_) (ql2 M I X d n u hM h (by omega) (by omega) hc hs hma (by omega)) (fun d1 w1 k1 hr1=>?_)).mono ?_
 ·intro way d' w' hz
  obtain ⟨hw,Q,C,B,c,_,e'⟩:=LetR.ln hz hvl
  refine ⟨hw,?_⟩
  have:d'.sc=d.sc++[(M.i:Int)]:=congrArg DP.sc e'
  rw[this]
  simp
 ·obtain ⟨j,_,h1,_,h3⟩:=hz
  exact ⟨h1,h3⟩
 ·obtain ⟨_,Q,C,B,c,hH,e1⟩:=LetR.ln hr1 hvl
  have hr1':d1.recs=d.recs++[⟨1,0,X.fn,M.L1,⟨#[]⟩⟩]:=congrArg DP.recs e1
  have hh1:d1.held=d.held:=congrArg DP.held e1
  have ht1:d1.ti=d.ti+1:=congrArg DP.ti e1
  have hs1:d1.sc=d.sc++[(M.i:Int)]:=congrArg DP.sc e1
  have htb1:d1.tab=d.tab:=congrArg DP.tab e1
  have hlv1:d1.liv=d.liv:=congrArg DP.liv e1
  have hr1l:d1.recs.length=d.recs.length+1:=by rw[hr1'];simp
  have hs1l:d1.sc.length=d.sc.length+1:=by rw[hs1];simp
  obtain ⟨hs',j,hj,hsl,hpan⟩:=zo7 M.P I X M.bb M.nd M.i n k Q C B c fn0 nm0 frZ M.D.L hM.P hI hB hk hk2 hM.bb hdep hTop hL hm
  have htr:=I.tr_size X hfl fn0 nm0 M.D.L hTop.sz hB.sz
  refine (qo4 X d1 M.t1 M.t2 M.t3 M.bb M.x1 M.x2 M.x3 M.x4 M.nd M.A2 M.L2 (EndR (d.recs++qg9 M S I X.fn j (I.tr X frZ fn0 nm0 M.D.L 0)) d1.sc.length) w1 k1.s hM.t1 hM.bb hM.t2 hM.A2 hM.t3 (by omega) (by omega) (fun d3 w3 k3 e3=>?_)).mono ?_
  ·have hr3:d3.recs=d1.recs++[⟨1,0,X.fn,M.L2,⟨#[]⟩⟩]:=congrArg DP.recs e3
   have hh3:d3.held=d1.held:=congrArg DP.held e3
   have ht3:d3.ti=d1.ti+1:=congrArg DP.ti e3
   have hl3:d3.line=M.L2:=congrArg DP.line e3
   have hs3:d3.sc=d1.sc:=congrArg DP.sc e3
   have htb3:d3.tab=d1.tab:=congrArg DP.tab e3
   have hlv3:d3.liv=d1.liv:=congrArg DP.liv e3
   have hr3l:d3.recs.length=d.recs.length+2:=by rw[hr3];simp;omega
   have hml:=I.many_len j
   rw[<-hs3]
   refine qt6 X d3 M.x1 M.x2 M.x3 M.x4 M.D.k1 S.D.k1 S.rb S.ro S.rc S.A3 4 I.G.L M.L2 52 (I.tr X frZ fn0 nm0 M.D.L 0) (((d3.p.begun X.fn M.D.L).plus (I.many j++I.bad) (j*2+2)).hold hs') _ w3 k3.s dec4 hI.e hB.t hM.x1 hS.x2 hS.x3 hS.A3 hS.x4 rfl (by show d3.held.length<=(d3.held++hs').length;simp) hl3 ?_ (fun w4 k4=>?_) (fun d6 w6 g t v k6 e6 hb6=>?_)
   ·show ((d3.recs++[(⟨1,0,X.fn,M.D.L,⟨#[]⟩⟩:RcD)])++(I.many j++I.bad)).length<5000
    simp[hml]
    omega
   ·refine y21 X d3 M.D.k1 M.D.ka 0 M.D.kc M.D.s1 M.D.s2 M.D.s3 _ w4 k4.s hM.D.k1 hM.D.ka ?_
    refine y44 X d3 M.D.s1 M.D.s2 M.D.s3 M.bb M.D.z1 M.nd M.D.A M.D.L _ w4 k4.s hM.D.s1 hM.bb hM.D.s2 hM.D.A hM.D.s3 (by omega) (by omega) (fun d5 w5 k5 e5=>?_)
    refine yn0 X d5 M.D.z1 M.D.r1 M.D.r2 _ w5 k5.s hM.D.z1 ?_
    have hr5:d5.recs=d3.recs++[⟨1,0,X.fn,M.D.L,⟨#[]⟩⟩]:=congrArg DP.recs e5
    have hh5:d5.held=d3.held:=congrArg DP.held e5
    have ht5:d5.ti=d3.ti+1:=congrArg DP.ti e5
    have hl5:d5.line=M.D.L:=congrArg DP.line e5
    have htb5:d5.tab=d3.tab:=congrArg DP.tab e5
    have hlv5:d5.liv=d3.liv:=congrArg DP.liv e5
    have hH5:=((hH.step k3 (congrArg DP.vs e3) (congrArg DP.cls e3)).step k4 rfl rfl).step k5 (congrArg DP.vs e5) (congrArg DP.cls e5)
    have hp:=hpan d5 w5 k5.s hH5 ⟨fun i hi=>by rw[hfl] at hi;omega,hl5,by rw[htb5,htb3,htb1];exact htb,by rw[hlv5,hlv3,hlv1];exact hlv⟩ (by rw[hr5];simp;omega) (by rw[hh5,hh3,hh1];omega) (by omega)
    rw[e5] at hp
    rw[hM.r1,hM.r2]
    exact hp.mono fun e w' he=>he.mono fun E d' w'' ht'=>ht'.mono k5.g.size
   ·have hr6:d6.recs=((d3.recs++[(⟨1,0,X.fn,M.D.L,⟨#[]⟩⟩:RcD)])++(I.many j++I.bad))++[⟨5,0,X.fn,M.L2,sEc 52⟩]:=congrArg DP.recs e6
    have hh6:d6.held=(d3.held++hs').take d3.held.length:=congrArg DP.held e6
    have ht6:d6.ti=d3.ti+1 + (j*2+2):=congrArg DP.ti e6
    have hs6:d6.sc=d3.sc:=congrArg DP.sc e6
    have hz:=z63 S M X d6 (I.tr X frZ fn0 nm0 M.D.L 0) g w6 hS hM.bb k6.s hb6 (by omega) (by rw[hr6];simp[hml];omega) (by rw[hh6,List.length_take];rw[hh3,hh1];omega) (by omega) (by rw[hs6,hs3];omega)
    have er:d6.recs++[⟨1,0,X.fn,S.D.L,⟨#[]⟩⟩,⟨6,0,X.fn,S.D.L,q43 txC [tbD,stD (I.tr X frZ fn0 nm0 M.D.L 0)]⟩]=d.recs++qg9 M S I X.fn j (I.tr X frZ fn0 nm0 M.D.L 0):=by
     rw[hr6,hr3,hr1']
     simp[qg9]
    rw[er] at hz
    exact hz
  ·rintro e w' ⟨way,d',rfl,hs2,d4,w4,⟨rfl,e4,hl4⟩,k4,e'⟩
   refine ⟨_,d',rfl,hs2,j,hj,rfl,?_,?_⟩
   ·have h1:d'.recs=d4.recs:=congrArg DP.recs e'
    rw[h1,e4]
   ·have h1:d'.sc=d4.sc:=congrArg DP.sc e'
    rw[h1]
    omega
 ·rintro e w' ⟨way,d',rfl,hs2,rfl,d1,w1,⟨j,hj,_,hr,hsl⟩,k1,e'⟩
  refine ⟨_,d',rfl,hs2,j,hj,rfl,?_,?_⟩
  ·have h1:d'.recs=d1.recs:=congrArg DP.recs e'
   rw[h1,hr]
  ·have h1:d'.sc=d1.sc.take d.sc.length:=congrArg DP.sc e'
   rw[h1,List.length_take]
   omega
section
variable {X:RX} {n0:Nat}
theorem q23 {B:Nat} {A:Array Value} (hX:X.M<n0) (h:Nb n0 X.W B A):Od X B A:=⟨h.h,by have:=h.n;omega⟩
theorem yk7 {a:Option Addr} {k:Nat} {q:Nat->Array Value} (hX:X.M<n0) (h:RowN 1 n0 X.W a k q) (hz:k=0->a=none):∀ b,a=some b->b.block≠X.M:=fun b e=>by
 rcases Nat.eq_zero_or_pos k with c|c
 ·rw[hz c] at e;cases e
 ·obtain ⟨b',off,e',h1,_⟩:=h c
  rw[e] at e'
  cases e'
  show b'≠X.M
  omega
theorem ye9 {oa:Option Addr} {k:Nat} {Vs:Nat->Value} (hX:X.M<n0) (hrow:RowN 1 n0 X.W oa k fun j=>#[Vs j]) (hl:∀ j,j<k->qt1 (inD 1) (Vs j) n0 X.W) (hz:k=0->oa=none):∃ Bs:Nat->Nat,qy4 X oa k Bs (fun _=>inD 1):=by
 have h1:∀ j,∃ B,j<k->Vs j=litV B/\Nb n0 X.W B (vA (inD 1)):=fun j=>by
  by_cases c:j<k
  ·obtain ⟨B,e,h⟩:=hl j c
   exact ⟨B,fun _=>⟨e,h⟩⟩
  ·exact ⟨0,fun h=>absurd h c⟩
 obtain ⟨Bs,hBs⟩:=Classical.axiomOfChoice h1
 refine ⟨Bs,?_,yk7 hX hrow hz,fun i hi=>q23 hX (hBs i hi).2⟩
 intro h0
 obtain ⟨b,off,e,q1,q2,q3⟩:=hrow h0
 exact ⟨b,off,e,Nat.zero_le _,q2,fun i hi j hj=>by rw[q3 i hi j hj];show #[Vs i][j]?=_;rw[(hBs i hi).1]⟩
theorem yb7 {oa:Option Addr} {Vs:Nat->Value} {i1:Nat} (hX:X.M<n0) (hrow:RowN 1 n0 X.W oa 1 fun j=>#[Vs j]) (hl:qt0 (i1:Int) (Vs 0) n0 X.W):∃ Bs:Nat->Nat,zn3 X oa 1 Bs (fun _=>i1):=by
 obtain ⟨B,e,h⟩:=hl
 refine ⟨fun _=>B,?_,yk7 hX hrow (fun c=>by omega),fun i _=>q23 hX h⟩
 intro h0
 obtain ⟨b,off,e',q1,q2,q3⟩:=hrow h0
 refine ⟨b,off,e',Nat.zero_le _,q2,fun i hi j hj=>?_⟩
 obtain rfl:i=0:=by omega
 rw[q3 0 hi j hj]
 show #[Vs 0][j]?=_
 rw[e]
theorem yq3 {bb k:Nat} {nd v:Value} {A:Array Value} {L:Int} (hX:X.M<n0) (hk:1<=k) (hA:A[1]?=some (.int .i64 L)) (hb:Nb n0 X.W bb #[ptr X.M,nd]) (h:GRl bb k A v n0 X.W):∃ G:GI,v=bkV G.k1/\G.ok X k/\G.L=L/\Od X G.b1 #[ptr G.bb]:=by
 obtain ⟨k1,g,gc,Vs,rfl,h1,hg1,hg2,hc⟩:=h
 obtain ⟨hcell,s1,s2,s3,xv,eV,h2,h3,h4,x1,lv,rfl,h5,l1,l2,b1,ov,rv,rfl,h6,h7,h8,⟨o,oa,oc,Vs',rfl,h9,hrow,hl,hz⟩,hr⟩:=hc 0 (by omega)
 obtain rfl:rv=yl4:=hr
 rw[eV] at hcell
 obtain ⟨Bs,hBs⟩:=ye9 hX hrow hl (fun c=>by omega)
 exact ⟨⟨k1,g,gc,s1,s2,s3,bb,nd,A,L,x1,l1,l2,b1,o,oa,oc,Bs⟩,rfl,⟨q23 hX h1,⟨⟨hg2,hcell⟩,by show g≠X.M;omega⟩,q23 hX h2,q23 hX hb,q23 hX h3,hA,q23 hX h4,q23 hX h5,q23 hX h6,q23 hX h7,q23 hX h9,hBs⟩,rfl,q23 hX h8⟩
theorem zx4 {bb i:Nat} {nd:Value} (hX:X.M<n0):∀ (n:Nat) (v:Value),NeR bb (i:Int) n v n0 X.W->∃ a1 a2,v=allV a1 a2/\Nest X bb nd i (n+1) a1 a2
 |0,v,h=>by
  obtain ⟨a1,a2,pv,rfl,h1,h2,p1,p2,x,y,rfl,h3,h4,⟨pc,rfl,h5⟩,hy⟩:=h
  obtain rfl:y=qNil:=hy
  exact ⟨a1,a2,rfl,.one (q23 hX h1) (q23 hX h2) (q23 hX h3) (q23 hX h5) (q23 hX h4)⟩
 |n+1,v,h=>by
  obtain ⟨a1,a2,pv,rfl,h1,h2,p1,p2,x,y,rfl,h3,h4,⟨pc,rfl,h5⟩,l1,l2,b1,ov,rv,rfl,h6,h7,h8,⟨o,oa,oc,Vs',rfl,h9,hrow,hl,hz⟩,hr⟩:=h
  obtain ⟨r1,r2,rfl,hN⟩:=zx4 (nd:=nd) hX n rv hr
  obtain ⟨rfl,rfl⟩:=hz rfl
  exact ⟨a1,a2,rfl,.more (Bs:=fun _=>0) hN (q23 hX h1) (q23 hX h2) (q23 hX h3) (q23 hX h5) (q23 hX h4) (q23 hX h6) (q23 hX h9) ⟨fun h0=>by omega,fun b e=>(by cases e),fun i hi=>by omega⟩ (q23 hX h7)⟩
structure MNx (X:RX) (A1 A2 A3 A4:Array Value) (L1 L2 L3 L4:Int) (rb ro rc tb th tc:Nat):Prop where
 l1:A1[1]?=some (.int .i64 L1)
 l2:A2[1]?=some (.int .i64 L2)
 l3:A3[1]?=some (.int .i64 L3)
 l4:A4[1]?=some (.int .i64 L4)
 r1:A1[6]?=some (.slice (some ⟨rb,ro,none⟩) 1 rc)
 rv:Oo X rb ro (.int .i64 0)
 t1:A4[6]?=some (.slice (some ⟨tb,th,none⟩) 2 tc)
 t2:Oo X tb th (.int .i64 1)
 t3:Oo X tb (th+1) (.int .i64 2)
theorem ym0 {bb n:Nat} {nd v:Value} {ua:Option Addr} {uc rb ro rc tb th tc:Nat} {A1 A2 A3 A4:Array Value} {L1 L2 L3 L4:Int} (I:FI) (hI:I.fn=1) (hX:X.M<n0) (hnv:2<X.nv) (hN:MNx X A1 A2 A3 A4 L1 L2 L3 L4 rb ro rc tb th tc) (hb:Nb n0 X.W bb #[ptr X.M,nd]) (h:IsBk 2 (MsR X.M bb n (.slice ua 0 uc) A1 A2 A3 A4) v n0 X.W):∃ (Mi:MI) (S:SI),v=bkV Mi.k1/\Mi.ok I X (n+1)/\S.ok Mi X/\Mi.L1=L1/\Mi.L2=L4/\Mi.D.L=L2/\S.D.L=L3:=by
 obtain ⟨k1,g,gc,Vs,rfl,h1,hg1,hg2,hc⟩:=h
 obtain ⟨hc0,hs0⟩:=hc 0 (by omega)
 obtain ⟨hc1,hs1⟩:=hc 1 (by omega)
 unfold MsR at hs0 hs1
 rw[if_pos rfl] at hs0
 rw[if_neg (by omega)] at hs1
 obtain ⟨s1,s2,s3,xv,e0,h2,h3,h4,y1,y2,fv,rfl,h5,h6,p,cv,rfl,h7,b1,b2,b3,rfl,h8,h9,h10⟩:=hs0
 obtain ⟨t1,t2,t3,xv,e1,h11,h12,h13,x1,x2,x3,x4,fv,sv,rfl,h14,h15,h16,h17,hF,hS⟩:=hs1
 obtain ⟨k2,g2,gc2,Vs2,rfl,f1,f2,f3,hf⟩:=hF
 obtain ⟨fc,u1,u2,u3,xv,ef,f4,f5,f6,z1,av,rfl,f7,r1,r2,pv,rfl,f8,f9,p1,p2,qx,qy,rfl,f10,f11,⟨pc,rfl,f12⟩,l1,l2,c1,ov,rv,rfl,f13,f14,f15,⟨o,oa,oc,Vs',rfl,f16,frow,fl,fz⟩,hr⟩:=hf 0 (by omega)
 obtain ⟨rfl,rfl⟩:=fz rfl
 obtain ⟨a1,a2,rfl,hNest⟩:=zx4 (i:=0) (nd:=nd) hX n rv hr
 obtain ⟨k3,g3,gc3,Vs3,rfl,m1,m2,m3,hm⟩:=hS
 obtain ⟨mc,v1,v2,v3,xv,em,m4,m5,m6,zz,av,rfl,m7,w1,w2,pv,rfl,m8,m9,i1,i2,qx,qy,rfl,m10,m11,⟨pc2,rfl,m12⟩,j1,j2,c2,ov,rv,rfl,m13,m14,m15,⟨o2,oa2,oc2,Vs4,rfl,m16,mrow,ml,mz⟩,⟨rr,vv,rfl,m17,⟨BB2,rfl,m18⟩⟩⟩:=hm 0 (by omega)
 obtain ⟨Bs2,hBs2⟩:=yb7 (i1:=1) hX mrow (ml 0 (by omega))
 rw[e0] at hc0
 rw[e1] at hc1
 rw[ef] at fc
 rw[em] at mc
 have hg:g≠X.M:=by omega
 refine ⟨⟨bb,nd,k1,g,gc,s1,s2,s3,A1,L1,y1,y2,A1,rb,ro,rc,0,p,b1,b2,b3,ua,uc,t1,t2,t3,A4,L4,x1,x2,x3,x4,⟨k2,g2,gc2,u1,u2,u3,A2,L2,z1,r1,r2⟩,⟨r1,r2,p1,p2,pc,l1,l2,c1,o,none,0,fun _=>0,a1,a2⟩⟩,⟨⟨k3,g3,gc3,v1,v2,v3,A3,L3,zz,w1,w2⟩,⟨w1,w2,i1,i2,pc2,j1,j2,c2,o2,oa2,oc2,Bs2,rr,BB2,1,2⟩,A4,tb,th,tc⟩,rfl,?_,?_,rfl,rfl,rfl,rfl⟩
 ·exact ⟨q23 hX hb,q23 hX h1,⟨⟨hg2,hc0⟩,hg⟩,⟨⟨hg2,hc1⟩,hg⟩,q23 hX h2,q23 hX h3,hN.l1,q23 hX h4,q23 hX h5,hN.r1,hN.rv,by show 0<X.nv;omega,q23 hX h6,q23 hX h7,q23 hX h8,q23 hX h9,by rw[hI];exact q23 hX h10,q23 hX h11,q23 hX h12,hN.l4,q23 hX h13,q23 hX h14,⟨q23 hX f1,⟨⟨f3,fc⟩,by show g2≠X.M;omega⟩,q23 hX f4,q23 hX f5,hN.l2,q23 hX f6,q23 hX f7⟩,⟨q23 hX f8,q23 hX f9,q23 hX f10,q23 hX f12,q23 hX f11,q23 hX f13,q23 hX f16,⟨fun h0=>by omega,fun b e=>(by cases e),fun i hi=>by omega⟩,q23 hX f14,hNest⟩,rfl,rfl⟩
 ·exact ⟨q23 hX h15,q23 hX h16,hN.t1,hN.t2,hN.t3,q23 hX h17,⟨q23 hX m1,⟨⟨m3,mc⟩,by show g3≠X.M;omega⟩,q23 hX m4,q23 hX m5,hN.l3,q23 hX m6,q23 hX m7⟩,⟨q23 hX m8,q23 hX m9,q23 hX m10,q23 hX m12,q23 hX m11,q23 hX m13,q23 hX m16,hBs2,q23 hX m14,q23 hX m17,q23 hX m18⟩,rfl,rfl,by show 1<X.nv;omega,hnv,by show (1:Nat)≠2;omega⟩
end
structure UN (u:World) (ub uo:Nat) (fn:Nat->FD) (fas:Nat->FA) (k n:Nat):Prop where
 f:FnsAt 0 u 2 fn (some ⟨ub,uo,none⟩) fas
 c:∀ j,j<2->CapF (fn j) (fas j)
 g:GN (fn 1) k
 m:MN (fn 0) (n+1)
 k1:1<=k
 k2:k<=200
 n2:n<=20
 p:∀ j,j<2->(fn j).params=0/\(fn j).rest=true/\(fn j).name.size<=1000
 v0:(fn 0).vn=3
 v1:(fn 1).vn=0
 u1:(fn 1).un=0
 lg:I64r ((fn 1).nd (k+1)).l
 lm:I64r ((fn 0).nd (2*(n+1)+4)).l
section
variable {w u:World} {ub uo k n:Nat} {fn:Nat->FD} {fas:Nat->FA}
theorem UN.call (h:UN w ub uo fn fas k n) (hb:Below w.heap.size w u):UN u ub uo fn fas k n:=⟨h.f.below hb,h.c,h.g,h.m,h.k1,h.k2,h.n2,h.p,h.v0,h.v1,h.u1,h.lg,h.lm⟩
theorem UN.cells (h:UN w ub uo fn fas k n) {j:Nat} (hj:j<2):ub<w.heap.size/\w.cell? ⟨ub,uo+j*7,none⟩=some (.string (fn j).name)/\w.cell? ⟨ub,uo+j*7+1,none⟩=some (.int .i64 (fn j).line)/\w.cell? ⟨ub,uo+j*7+2,none⟩=some (.int .i64 0)/\w.cell? ⟨ub,uo+j*7+3,none⟩=some (.bool true)/\w.cell? ⟨ub,uo+j*7+4,none⟩=some (.slice (fas j).va (fn j).vn (fas j).vc)/\w.cell? ⟨ub,uo+j*7+5,none⟩=some (.slice (fas j).ua (fn j).un (fas j).uc)/\w.cell? ⟨ub,uo+j*7+6,none⟩=some (.slice (fas j).na (fn j).nn (fas j).nc):=by
 obtain ⟨b',off,e,_,hl,c0,c1,c2,c3,c4,c5,c6⟩:=cells7 h.f.1 (k:=j) hj
 cases e
 rw[(h.p j hj).1] at c2
 rw[(h.p j hj).2.1] at c3
 exact ⟨hl,c0,c1,c2,c3,c4,c5,c6⟩
theorem UN.bc (h:UN w ub uo fn fas k n) {j:Nat} (hj:j<2) {M bb:Nat} (hb:BB M bb (fn j) (fas j) u):BC M bb (fn j) (fas j) u:=⟨hb,(h.c j hj).2⟩
def G1R (d:FD) (x:FA) (k M:Nat):Rel:=fun v m u=>∃ bb,Nb m u bb #[ptr M,.slice x.na d.nn x.nc]/\GRl bb k (q24 (d.nd (k+1)) (x.nas (k+1))) v m u
def M1R (d:FD) (x:FA) (n M:Nat) (ups:Value):Rel:=fun v m u=>∃ bb,Nb m u bb #[ptr M,.slice x.na d.nn x.nc]/\IsBk 2 (MsR M bb n ups (q24 (d.nd 1) (x.nas 1)) (q24 (d.nd (2*(n+1)+4)) (x.nas (2*(n+1)+4))) (q24 (d.nd (2*(n+1)+10)) (x.nas (2*(n+1)+10))) (q24 (d.nd (2*(n+1)+12)) (x.nas (2*(n+1)+12)))) v m u
def RsU (fn:Nat->FD) (fas:Nat->FA) (k n M j:Nat):Rel:=if j=0 then M1R (fn 0) (fas 0) n M (.slice (fas 1).ua 0 (fas 1).uc) else G1R (fn 1) (fas 1) k M
theorem yk6 (fn:Nat->FD) (fas:Nat->FA) (k n M j:Nat):KpC (RsU fn fas k n M j):=by
 unfold RsU
 split
 ·exact ⟨fun ⟨bb,h,r⟩ c=>⟨bb,h.old c,(qd8 2 fun j _=>zk7 M bb n _ _ _ _ _ j).old r c⟩,fun ⟨bb,h,r⟩ f=>⟨bb,h.fr f,(qd8 2 fun j _=>zk7 M bb n _ _ _ _ _ j).fr r f⟩⟩
 ·exact ⟨fun ⟨bb,h,r⟩ c=>⟨bb,h.old c,(y67 bb k _).old r c⟩,fun ⟨bb,h,r⟩ f=>⟨bb,h.fr f,(y67 bb k _).fr r f⟩⟩
theorem y20 (h:UN w ub uo fn fas k n) (tk dp ce:Int) (uc:Nat):∀ j,j<2->y30 w tk dp ce (.slice (some ⟨ub,uo,none⟩) 2 uc) j (fun M=>RsU fn fas k n M j):=fun j hj M E oa q oc u hb hM hm=>by
 have hu:=h.call hb
 obtain ⟨hl,_,_,_,_,_,_,c6⟩:=hu.cells hj
 refine (qm2 M ub uo uc 2 j (fn j) (fas j) u (hm.1.cell 0 rfl) hj c6 (hu.f.2 j hj).2.2).mono ?_
 rintro e u1 ⟨bb,rfl,hbb,hBB,hb1⟩
 refine ⟨bb,rfl,hb1,?_⟩
 have hs1:=hb1.size
 have hM1:OwnB u1 M _:=hm.call hb1
 rcases (show j=0\/j=1 by omega) with rfl|rfl
 ·have hcl:SubC 224 bb u1 1 (IsCl M (.slice (fas 1).ua 0 (fas 1).uc) 1):=fun v hv=>by
   have hv':=(hu.call hb1).call hv
   obtain ⟨hl,_,_,_,_,_,c5,_⟩:=hv'.cells (j:=1) (by omega)
   rw[h.u1] at c5
   exact qu8 M bb 1 2 ub uo uc 0 (fas 1).uc (fas 1).ua _ v (hBB.call hv).b ((hM1.call hv).1.cell 0 rfl) c5 (hM1.call hv).1.1 hl (by omega)
  refine (z83 (h.bc (by omega) hBB) h.m (by have:=h.n2;omega) hcl).mono ?_
  rintro e u2 ⟨f,x,y,rfl,r,hb2⟩
  exact ⟨f,x,y,rfl,⟨bb,⟨hbb,hBB.b.call hb2⟩,(qd8 2 fun j _=>zk7 M bb n _ _ _ _ _ j).old r hs1⟩,hb2⟩
 ·refine (za2 (h.bc (by omega) hBB) h.g h.k2).mono ?_
  rintro e u2 ⟨f,x,y,rfl,r,hb2⟩
  exact ⟨f,x,y,rfl,⟨bb,⟨hbb,hBB.b.call hb2⟩,(y67 bb k _).old r hs1⟩,hb2⟩
end
def QOk (m:Nat) (l:List RcD):Prop:=l.length<=200/\∃ a L,l=a++[(⟨6,0,0,L,q43 txN (q42 m)⟩:RcD)]/\∀ x,x∈a->x.k≠6
def QBad (l:List RcD):Prop:=l.length<=200/\∃ a L s,l=a++[(⟨6,0,0,L,q43 txC [tbD,stD s]⟩:RcD)]/\s.size<=3000/\(∀ x,x∈a->x.k≠6)/\∃ y,y∈a/\y.k=4/\y.s=sEc 52
def QU (k n:Nat) (l:List RcD):Prop:=if n*k<=250 then QOk (n*k) l else QBad l
theorem zx6 (I:FI):∀ n x,x∈I.many n->x.k≠6
 |0,x,h=>by cases h
 |n+1,x,h=>by
  rcases List.mem_append.1 h with h|h
  ·exact zx6 I n x h
  ·simp at h
   rcases h with rfl|rfl|rfl<;>simp
theorem yl3 (I:FI) (n m:Nat) (a b c L:Int) (hn:n<=30):QOk m ([]++([⟨1,0,0,a,⟨#[]⟩⟩,⟨1,0,0,b,⟨#[]⟩⟩,⟨1,0,0,c,⟨#[]⟩⟩]++I.many n++[⟨6,0,0,L,q43 txN (q42 m)⟩])):=by
 have hm:=I.many_len n
 refine ⟨by simp[hm];omega,_,L,by rw[List.nil_append],fun x hx=>?_⟩
 rcases List.mem_append.1 hx with h|h
 ·simp at h
  rcases h with rfl|rfl|rfl<;>simp
 ·exact zx6 I n x h
theorem ye2 (M:MI) (S:SI) (I:FI) (j:Nat) (tr:ByteArray) (hj:j<=30) (ht:tr.size<=3000):QBad ([]++qg9 M S I 0 j tr):=by
 have hm:=I.many_len j
 refine ⟨by simp[qg9,hm];omega,[⟨1,0,0,M.L1,⟨#[]⟩⟩,⟨1,0,0,M.L2,⟨#[]⟩⟩,⟨1,0,0,M.D.L,⟨#[]⟩⟩]++(I.many j++I.bad)++[⟨5,0,0,M.L2,sEc 52⟩,⟨1,0,0,S.D.L,⟨#[]⟩⟩],S.D.L,tr,by simp[qg9],ht,fun x hx=>?_,⟨4,0,(I.fn:Int),I.G.L,sEc 52⟩,by simp,rfl,rfl⟩
 rcases List.mem_append.1 hx with h|h
 ·rcases List.mem_append.1 h with h|h
  ·simp at h
   rcases h with rfl|rfl|rfl<;>simp
  ·rcases List.mem_append.1 h with h|h
   ·exact zx6 I j x h
   ·simp at h
    rcases h with rfl|rfl|rfl|rfl<;>simp
 ·simp at h
  rcases h with rfl|rfl<;>simp
section
variable {v v':World} {ub uo uc k n tk dp ce E oc:Nat} {fn:Nat->FD} {fas:Nat->FA} {X:RX} {oa:Option Addr} {Vs:Nat->Value}
theorem y85 (h:NM v tk dp ce (.slice (some ⟨ub,uo,none⟩) 2 uc) 2 X E (RsU fn fas k n X.M) oa oc Vs v') {b o:Nat} {z:Value} (hb:b<v.heap.size) (hc:v.cell? ⟨b,o,none⟩=some z):Oo X b o z:=⟨⟨Nat.lt_of_lt_of_le hb h.b.bl.size,(h.b.bl.cell (p:=⟨b,o,none⟩) hb).trans hc⟩,by have:=h.b.mw;omega⟩
theorem yk5 (h:NM v tk dp ce (.slice (some ⟨ub,uo,none⟩) 2 uc) 2 X E (RsU fn fas k n X.M) oa oc Vs v') (hU:UN v ub uo fn fas k n) (hT:TabP v) (hE:EtP v) (htk:200<=tk) (hdp:2<=dp) (hce:1<=ce) :
  Calls Tryz.prog 27 #[ptr X.M] v' fun e w'=>e=.returned (.tuple #[])/\yi0 X v' 3 (QU k (n+1)) w':=by
 have hB:=h.b
 have hmw:=hB.mw
 have hvs:=hB.bl.size
 obtain ⟨hub,a0,a1,a2,a3,a4,a5,a6⟩:=hU.cells (j:=0) (by omega)
 obtain ⟨_,g0,g1,g2,g3,g4,g5,g6⟩:=hU.cells (j:=1) (by omega)
 rw[hU.v0] at a4
 rw[hU.v1] at g4
 have hW:UN X.W ub uo fn fas k n:=hU.call hB.bl
 have cW:∀ {b o:Nat} {z:Value},b<v.heap.size->v.cell? ⟨b,o,none⟩=some z->X.W.cell? ⟨b,o,none⟩=some z:=fun hb hc=>(y85 h hb hc).1.2
 have hUF:UF X 0 2 ub uo uc 3 (fas 0).vc (fas 0).va:=⟨h.fn1,by omega,by omega,by omega,cW hub a2,cW hub a3,cW hub a4⟩
 obtain ⟨bo,rfl,hbo⟩:∃ bo,oa=some ⟨bo,0,none⟩/\∀ j,j<2->Oo X bo j (Vs j):=by
  rcases hB.r.2 with ⟨_,c⟩|⟨g,c,cur,e,c1,c2,_⟩
  ·omega
  ·cases e
   refine ⟨g,rfl,fun j hj=>⟨⟨(Array.getElem?_eq_some_iff.1 c2).1,?_⟩,fun c=>hB.apart.1 (by rw[c];rfl)⟩⟩
   have:=hB.r.cells (g:=g) rfl j (Vs j) (by simp[hj])
   cases j<;>simpa[Addr.add] using this
 have hRs:∀ j,j<2->∃ m,X.M<m/\RsU fn fas k n X.M j (Vs j) m X.W:=fun j hj=>by
  obtain ⟨m,u1,r1,r2,r3,_⟩:=hB.l j hj
  exact ⟨m,r2,(yk6 fn fas k n X.M j).fr r1 r3⟩
 obtain ⟨m0,hm0,r0⟩:=hRs 0 (by omega)
 obtain ⟨m1,hm1,r1⟩:=hRs 1 (by omega)
 unfold RsU at r0 r1
 rw[if_pos rfl] at r0
 rw[if_neg (by omega)] at r1
 obtain ⟨bb0,nb0,r0⟩:=r0
 obtain ⟨bb1,nb1,r1⟩:=r1
 obtain ⟨G,eG,hG,hGL,hGb⟩:=yq3 hm1 hU.k1 (L:=((fn 1).nd (k+1)).l) rfl nb1 r1
 have hl0:∀ i,i<2*(n+1)+14->i<(fn 0).nn:=fun i hi=>by rw[hU.m.nn];exact hi
 obtain ⟨rb,ro,e1,_,hrb,d1⟩:=cells1 ((hU.f.2 0 (by omega)).2.2.2 1 (hl0 1 (by omega))).1 (k:=0) (by rw[hU.m.lt.rn];simp)
 obtain ⟨tb,th,e2,_,htb,d2⟩:=cells1 ((hU.f.2 0 (by omega)).2.2.2 (2*(n+1)+12) (hl0 _ (by omega))).1 (k:=0) (by rw[hU.m.t0.rn];simp)
 obtain ⟨_,_,e3,_,_,d3⟩:=cells1 ((hU.f.2 0 (by omega)).2.2.2 (2*(n+1)+12) (hl0 _ (by omega))).1 (k:=1) (by rw[hU.m.t0.rn];simp)
 rw[e2] at e3
 cases e3
 rw[hU.m.lt.r 0 0 rfl] at d1
 rw[hU.m.t0.r 0 1 rfl] at d2
 rw[hU.m.t0.r 1 2 rfl] at d3
 have hbod:X.bod=.slice (some ⟨bo,0,none⟩) 2 oc:=h.bod
 have hb0:=hbo 0 (by omega)
 have hb1:=hbo 1 (by omega)
 rw[eG] at hb1
 have hTX:TabX X:=fun u hu=>by
  have hg:Below v.heap.size X.W u:=hu.to (by exact hvs) (fun q e=>by rcases e with e|e<;>omega)
  exact TabP.keep hT (hB.bl.trans hg) (Nat.le_refl _)
 have hEX:EtX X:=⟨EtP.keep hE hB.bl (Nat.le_refl _),by have:=hE.lt;omega⟩
 have hN:MNx X (q24 ((fn 0).nd 1) ((fas 0).nas 1)) (q24 ((fn 0).nd (2*(n+1)+4)) ((fas 0).nas (2*(n+1)+4))) (q24 ((fn 0).nd (2*(n+1)+10)) ((fas 0).nas (2*(n+1)+10))) (q24 ((fn 0).nd (2*(n+1)+12)) ((fas 0).nas (2*(n+1)+12))) ((fn 0).nd 1).l ((fn 0).nd (2*(n+1)+4)).l ((fn 0).nd (2*(n+1)+10)).l ((fn 0).nd (2*(n+1)+12)).l rb ro ((fas 0).nas 1).rc tb th ((fas 0).nas (2*(n+1)+12)).rc:=by
  refine ⟨rfl,rfl,rfl,rfl,?_,y85 h hrb d1,?_,y85 h htb d2,y85 h htb d3⟩
  ·show some (Value.slice ((fas 0).nas 1).ra ((fn 0).nd 1).rn ((fas 0).nas 1).rc)=_
   rw[e1,hU.m.lt.rn]
   rfl
  ·show some (Value.slice ((fas 0).nas (2*(n+1)+12)).ra ((fn 0).nd (2*(n+1)+12)).rn ((fas 0).nas (2*(n+1)+12)).rc)=_
   rw[e2,hU.m.t0.rn]
   rfl
 let I:FI:=⟨1,2,ub,uo,uc,0,(fas 1).vc,(fas 1).va,(fn 1).name,(fn 1).line,(fas 1).ua,(fn 1).un,(fas 1).uc,(fas 1).na,(fn 1).nn,(fas 1).nc,bo,oc,G⟩
 have hIok:∀ X':RX,X'.M=X.M->X'.W=X.W->X'.fns=X.fns->X'.bod=X.bod->I.ok X' k/\I.bok X':=fun X' eM eW eF eB=>by
  obtain ⟨M,T,F,V,N,W,fns,bod,tks,en,c1,c2,c3,tk',dp',ce',fn',cal,ups,rest,fl,nv⟩:=X'
  simp only at eM eW eF eB
  subst eM eW eF eB
  refine ⟨⟨hEX,⟨⟨h.fn1,by show 1<2;omega,hUF.lt,hUF.ne,cW hub g2,cW hub g3,cW hub g4⟩,cW hub g0,cW hub g1,cW hub g5,cW hub g6⟩,Nat.zero_le _,hbod,hb1,⟨hG.k1,hG.ka,hG.s1,hG.bb,hG.s2,hG.A2,hG.s3,hG.x1,hG.l1,hG.l2,hG.o,⟨hG.ls.row,hG.ls.rm,hG.ls.lit⟩⟩⟩,⟨hGb,(hU.p 1 (by omega)).2.2,?_,hTX⟩⟩
  show I64r G.L
  rw[hGL]
  exact hU.lg
 have hX3:∃ k1,Oo X bo 0 (bkV k1)/\∀ F V N fa fc u,St (xT X F V N 0 (.slice none 0 0) 3) (dT F 3 fa fc) u->Calls Tryz.prog 163 #[ptr F,ptr k1] u fun e w'=>q11 (xT X F V N 0 (.slice none 0 0) 3) (dT F 3 fa fc) u (EndP (QU k (n+1))) e w':=by
  obtain ⟨Mj,_,eMj,_⟩:=ym0 (X:=xT X 0 0 0 0 (.slice none 0 0) 3) I rfl hm0 (by show 2<3;omega) (⟨hN.l1,hN.l2,hN.l3,hN.l4,hN.r1,hN.rv,hN.t1,hN.t2,hN.t3⟩) nb0 r0
  refine ⟨Mj.k1,by rw[<-eMj];exact hb0,fun F V N fa fc u hs=>?_⟩
  obtain ⟨Mi,S,eM,hMi',hS',eL1,eL2,eD,eS⟩:=ym0 (X:=xT X F V N 0 (.slice none 0 0) 3) I rfl hm0 (by show 2<3;omega) (⟨hN.l1,hN.l2,hN.l3,hN.l4,hN.r1,hN.rv,hN.t1,hN.t2,hN.t3⟩) nb0 r0
  have ek:Mj.k1=Mi.k1:=by
   have:=eMj.symm.trans eM
   simpa using this
  rw[ek]
  obtain ⟨hI,hB'⟩:=hIok (xT X F V N 0 (.slice none 0 0) 3) rfl rfl rfl rfl
  have hta:=h.ta
  have hn2:=hU.n2
  by_cases hc:(n+1)*k<=250
  ·refine (z82 Mi I (xT X F V N 0 (.slice none 0 0) 3) (dT F 3 fa fc) (n+1) k u hMi' hI hTX hs hU.k1 (by show 1<X.dp;omega) hc (by simp;omega) (by simp;omega) (by show 0+(n+1)*2+5<X.tk;omega) rfl (by show 0+1<=X.ce;omega) (by simp) (by simp)).mono ?_
   rintro e w' ⟨way,d',rfl,hsp,h1,h2,_⟩
   refine ⟨way,d',rfl,hsp,h1,?_⟩
   unfold QU
   rw[if_pos hc,h2]
   exact yl3 I (n+1) ((n+1)*k) _ _ _ _ (by omega)
  ·refine (z08 Mi S I (xT X F V N 0 (.slice none 0 0) 3) (n+1) k 0 (fn 0).name hMi' hS' hI hB' hU.k1 (by have:=hU.k2;omega) (by omega) (by show 1<X.dp;omega) rfl ⟨rfl,by show 0<2;omega,cW hub a0,(hU.p 0 (by omega)).2.2⟩ (by rw[eD];exact hU.lm) (by omega) (dT F 3 fa fc) u hs (by simp) (by simp) (by show 0+(n+1)*2+10<X.tk;omega) rfl (by show 0+1<=X.ce;omega) (by simp) (by simp) rfl rfl).mono ?_
   rintro e w' ⟨way,d',rfl,hsp,j,hj,h1,h2,_⟩
   refine ⟨way,d',rfl,hsp,h1,?_⟩
   unfold QU
   rw[if_neg hc,h2]
   exact ye2 Mi S I j _ (by omega) (by have:=I.tr_size (xT X F V N 0 (.slice none 0 0) 3) rfl 0 (fn 0).name Mi.D.L (hU.p 0 (by omega)).2.2 (hU.p 1 (by omega)).2.2;omega)
 obtain ⟨k1,hk1,hrun⟩:=hX3
 exact qz9 X 2 ub uo uc 3 (fas 0).vc bo oc k1 (fas 0).va (QU k (n+1)) v' h.pm hUF (by omega) hbod hk1 hrun
end
end Go.Proofs.YtaimofjekgnieaaGreatDoor
namespace Go.Proofs.YtaimofjekgnieaaGreatDoor
open Go.RowKit
attribute [local go_sem] q00
attribute [local go_sem ↓] Go.wp_at_zero Go.wp_at_succ
structure yt5 (M E:Nat) (c:Int) (er tr:ByteArray) (ti md:Int) (ra:Option Addr) (n rc:Nat) (q:Nat->RcD) (va:Option Addr) (vn vc:Nat) (w:World):Prop where
 lt:M<w.heap.size
 c8:w.cell? ⟨M,8,none⟩=some (.int .i64 c)
 c9:w.cell? ⟨M,9,none⟩=some (.slice ra n rc)
 c10:w.cell? ⟨M,10,none⟩=some (.slice va vn vc)
 c11:w.cell? ⟨M,11,none⟩=some (.string er)
 c12:w.cell? ⟨M,12,none⟩=some (.string tr)
 c13:w.cell? ⟨M,13,none⟩=some (.int .i64 ti)
 c14:w.cell? ⟨M,14,none⟩=some (.int .i64 md)
 c24:w.cell? ⟨M,24,none⟩=some (.chan (some E))
 c25:w.cell? ⟨M,25,none⟩=some (.int .u64 0)
 r:RcsAt 0 w ra n q
 e:w.heap[E]?=some (.chan 0 #[] false 0 0 false)
abbrev rc0:RcD:=⟨0,0,0,0,⟨#[]⟩⟩
def RpL (Q:List RcD->Prop) (w:World) (e:Ending) (w':World):Prop:=∃ l ti md ra rc,Q l/\e=.returned (.agg #[.int .i64 0,.slice ra l.length rc,.slice none 0 0,.string ⟨#[]⟩,.string ⟨#[]⟩,.int .i64 ti,.int .i64 md])/\RcsAt 0 w' ra l.length (fun i=>l.getD i rc0)/\Below w.heap.size w w'
theorem RcsAt.gx {S:Nat->Prop} {w w':World} {n:Nat} {a:Option Addr} {q:Nat->RcD} (h:RcsAt 0 w a n q) (g:Gx S w w') (hS:∀ b,a=some b->0<n->¬S b.block):RcsAt 0 w' a n q:=fun h0=>by
 obtain ⟨b,off,e,h1,h2,h3⟩:=h h0
 exact ⟨b,off,e,h1,Nat.lt_of_lt_of_le h2 g.size,fun i hi j hj=>(World.cell?_of_block (a:=⟨b,off+i*5+j,none⟩) (g.block b h2 (hS _ e h0))).trans (h3 i hi j hj)⟩
theorem RcsAt.other {w:World} {n E:Nat} {a:Option Addr} {q:Nat->RcD} (h:RcsAt 0 w a n q) (he:w.heap[E]?=some (.chan 0 #[] false 0 0 false)):∀ b,a=some b->0<n->b.block≠E:=fun b e h0 c=>by
 obtain ⟨b',off,e',h1,h2,h3⟩:=h h0
 rw[e] at e'
 cases e'
 have:=h3 0 h0 0 (by omega)
 subst c
 simp[World.cell?,he] at this
theorem ya2:∀ (l:List RcD) (i j:Nat),i<l.length->j<5->(rL l)[i*5+j]?=(rcC (l.getD i ⟨0,0,0,0,⟨#[]⟩⟩))[j]?
 |[],i,j,h,_=>absurd h (by simp)
 |x :: l,0,j,_,hj=>by
  show (r5 x++rL l)[0*5+j]?=_
  rw[List.getElem?_append_left (by simp[r5];omega)]
  rcases (show j=0\/j=1\/j=2\/j=3\/j=4 by omega) with rfl|rfl|rfl|rfl|rfl<;>rfl
 |x :: l,i+1,j,h,hj=>by
  have ih:=ya2 l i j (by simpa using h) hj
  show (r5 x++rL l)[(i+1)*5+j]?=_
  rw[List.getElem?_append_right (by simp[r5];omega),show (i+1)*5+j-(r5 x).length=i*5+j by simp[r5];omega,ih]
  rfl
theorem yk8 {N:Nat} {w:World} {d:MD} (h:OwR N w d):RcsAt 0 w d.ra d.recs.length (fun i=>d.recs.getD i ⟨0,0,0,0,⟨#[]⟩⟩):=fun h0=>by
 rcases h.2 with ⟨c,e⟩|⟨g,c,cur,e,h1,h2,_⟩
 ·rw[e] at h0
  omega
 ·have e1:d.ra=some ⟨g,0,none⟩:=by injection e
  refine ⟨g,0,e1,Nat.zero_le _,(Array.getElem?_eq_some_iff.1 h2).1,fun i hi j hj=>?_⟩
  have hx:=ya2 d.recs i j hi hj
  have hs:j<(rcC (d.recs.getD i ⟨0,0,0,0,⟨#[]⟩⟩)).size:=hj
  rw[Array.getElem?_eq_getElem hs] at hx ⊢
  have:=h.cells (g:=g) (by rw[e1];rfl) (i*5+j) _ hx
  rw[show 0+i*5+j=i*5+j by omega]
  generalize i*5+j=k at *
  cases k<;>simpa[Addr.add] using this
theorem yp3 {v v':World} {ub uo uc k n E oc:Nat} {fn:Nat->FD} {fas:Nat->FA} {X:RX} {oa:Option Addr} {Vs:Nat->Value} (h:NM v 500 10 20 (.slice (some ⟨ub,uo,none⟩) 2 uc) 2 X E (RsU fn fas k n X.M) oa oc Vs v') (hU:UN v ub uo fn fas k n) (hT:TabP v) (hE:EtP v) :
  Calls Tryz.prog 27 #[ptr X.M] v' fun e v''=>e=.returned (.tuple #[])/\Below v.heap.size v v''/\∃ l ti md ra rc,QU k (n+1) l/\yt5 X.M E 0 ⟨#[]⟩ ⟨#[]⟩ ti md ra l.length rc (fun i=>l.getD i rc0) none 0 0 v'':=by
 refine (yk5 h hU hT hE (by omega) (by omega) (by omega)).mono ?_
 rintro e w' ⟨rfl,F,V,N',d',hS,hq,hg⟩
 have hB:=h.b
 have hEl:E<X.W.heap.size:=(Array.getElem?_eq_some_iff.1 hB.e).1
 have hWs:=h.pm.k.size
 have hlt:=h.pm.lt
 have hvW:=hB.bl.size
 have hmw:=hB.mw
 refine ⟨rfl,?_,d'.recs,d'.ti,d'.mad,d'.ra,d'.rc,hq,?_⟩
 ·exact h.k.trans (hg.to (by have:=h.k.size;omega) (fun k e=>by rcases e with e|e<;>omega))
 ·have hm:=hS.m.1
  have hrs:=yk8 hS.rr
  refine ⟨hm.1,hm.cell 8 rfl,hm.cell 9 rfl,hm.cell 10 rfl,hm.cell 11 rfl,hm.cell 12 rfl,hm.cell 13 rfl,hm.cell 14 rfl,?_,hm.cell 25 rfl,hrs,?_⟩
  ·rw[<-h.en]
   exact hm.cell 24 rfl
  ·rw[hg.block E (by omega) (fun e=>by rcases e with e|e;exact hB.em e;omega)]
   exact h.e
theorem y84 (w:World) (E:Nat) (he:w.heap[E]?=some (.chan 0 #[] false 0 0 false)):∃ w',(Builtin.close_ #[69] 0 #[.chan (some E)]).run Tryz.prog w=.ok (.tuple #[]) w'/\Gx (fun k=>k=E) w w':=by
 refine ⟨_,run_close_open _ _ he,rfl,rfl,rfl,by simp,fun k _ hn=>?_⟩
 show (w.heap.setIfInBounds E _)[k]?=w.heap[k]?
 rw[Array.getElem?_setIfInBounds_ne (fun e=>hn e.symm)]
theorem qe2 {S:Nat->Prop} {w w':World} (g:Gx S w w') {k o:Nat} (hk:k<w.heap.size) (hS:¬S k) {v:Value} (h:w.cell? ⟨k,o,none⟩=some v):w'.cell? ⟨k,o,none⟩=some v:=(World.cell?_of_block (a:=⟨k,o,none⟩) (g.block k hk hS)).trans h
theorem yg8 {w:World} {k o E:Nat} {v:Value} (h:w.cell? ⟨k,o,none⟩=some v) (he:w.heap[E]?=some (.chan 0 #[] false 0 0 false)):k≠E:=fun c=>by
 subst c
 simp[World.cell?,he] at h
abbrev rbZ:Array Value:=#[.int .i64 0,.slice none 0 0,.slice none 0 0,.string ⟨#[]⟩,.string ⟨#[]⟩,.int .i64 0,.int .i64 0]
theorem zk3 {w:World} {B N:Nat} {ra:Option Addr} {q:Nat->RcD} (q4:OwnB w B rbZ) (q5:RcsAt 0 w ra N q):∀ b,ra=some b->0<N->b.block≠B:=fun b e h0 c=>by
 obtain ⟨b',off,e',_,h2,h3⟩:=q5 h0
 rw[e] at e'
 cases e'
 replace c:b'=B:=c
 subst c
 have h4:=h3 0 h0 4 (by omega)
 have h5:=h3 0 h0 0 (by omega)
 have h6:=q4.1.2 (off+0*5+4)
 have h7:=q4.1.2 (off+0*5+0)
 rw[h6] at h4
 rw[h7] at h5
 rcases (show off=0\/off=1\/off=2\/2<off by omega) with rfl|rfl|rfl|ho
 ·simp[rcC] at h5 h4
  have h8:=h3 0 h0 1 (by omega)
  rw[q4.1.2 (0+0*5+1)] at h8
  simp[rcC] at h8
 ·simp[rcC] at h5
 ·simp[rcC] at h5
 ·rw[Array.getElem?_eq_none (by show 7<=off+0*5+4;omega)] at h4
  simp[rcC] at h4
theorem yk9 (w:World) (B:Nat) (a0 a1 a2 a3 a4 a5 a6:Value):Gx (fun k=>k=B) w (((((((w.setCell ⟨B,0,none⟩ a0).setCell ⟨B,1,none⟩ a1).setCell ⟨B,2,none⟩ a2).setCell ⟨B,3,none⟩ a3).setCell ⟨B,4,none⟩ a4).setCell ⟨B,5,none⟩ a5).setCell ⟨B,6,none⟩ a6):=by
 have hs:∀ {u:World} (j:Nat) (v:Value),Gx (fun k=>k=B) w u->Gx (fun k=>k=B) w (u.setCell ⟨B,j,none⟩ v):=fun j v h=>h.trans (Gx.set _ B j v) (fun _ _ e=>e)
 exact hs 6 _ (hs 5 _ (hs 4 _ (hs 3 _ (hs 2 _ (hs 1 _ (Gx.set w B 0 _))))))
theorem yf6 {u:UD} (h:∀ y,¬BadU u y) {x:FT} (hx:Least (BadU u) x):x=ft0:=by
 rcases hx with ⟨e,_⟩|⟨_,hp,_⟩
 ·exact e
 ·exact absurd hp (h x)
abbrev inD0:ID:=⟨0,fun _=>⟨#[]⟩,0,fun _=>⟨#[]⟩,500,10,20⟩
structure RunPre (u:UD) (ub uo:Nat) (fas:Nat->FA) (k n:Nat) (w:World):Prop where
 sm:u.sm
 n1:u.n=2
 nb:∀ y,¬BadU u y
 un:UN w ub uo u.fn fas k n
 t:TabP w
 e:EtP w
theorem RunPre.call {u:UD} {ub uo:Nat} {fas:Nat->FA} {k n:Nat} {w w':World} (h:RunPre u ub uo fas k n w) (hb:Below w.heap.size w w'):RunPre u ub uo fas k n w':=⟨h.sm,h.n1,h.nb,h.un.call hb,TabP.keep h.t hb (Nat.le_refl _),EtP.keep h.e hb (Nat.le_refl _)⟩
theorem RunPre.ft {u:UD} {ub uo:Nat} {fas:Nat->FA} {k n:Nat} {w:World} (h:RunPre u ub uo fas k n w):FnsAt 0 w u.n u.fn (some ⟨ub,uo,none⟩) fas:=by rw[h.n1];exact h.un.f
theorem RunPre.cap {u:UD} {ub uo:Nat} {fas:Nat->FA} {k n:Nat} {w:World} (h:RunPre u ub uo fas k n w):∀ i,i<u.n->CapF (u.fn i) (fas i):=by rw[h.n1];exact h.un.c
theorem qm0 (u:UD) (ub uo uc:Nat) (fas:Nat->FA) (k n:Nat) (w:World) (h:RunPre u ub uo fas k n w) :
  Calls Tryz.prog 9 #[.agg #[.slice (some ⟨ub,uo,none⟩) 2 uc],.agg #[.slice none 0 0,.slice none 0 0,.int .i64 500,.int .i64 10,.int .i64 20],wchV] w fun e w'=>RpL (QU k (n+1)) w e w':=by
 have HH:Hid (RunPre u ub uo fas k n w):=h
 clear h
 go_enter Tryz.func9,Tryz.ntmps9
 go_wp2_with fail
 obtain ⟨w0,hw0⟩:∃ w0,((w.alloc (.cells #[.slice (some ⟨ub,uo,none⟩) 2 uc] 31)).alloc (.cells #[.slice none 0 0,.slice none 0 0,.int .i64 500,.int .i64 10,.int .i64 20] 34)).alloc (.cells rbZ 27)=w0:=⟨_,rfl⟩
 have H0:Hid (Below w.heap.size w w0/\Has w0 w.heap.size #[.slice (some ⟨ub,uo,none⟩) 2 uc]/\Has w0 (w.heap.size+1) #[.slice none 0 0,.slice none 0 0,.int .i64 500,.int .i64 10,.int .i64 20]/\OwnB w0 (w.heap.size+1 + 1) rbZ):=by
  rw[<-hw0]
  refine ⟨q39 _ _ _ _,((Has.new _ _ _).alloc _).alloc _,(q87 _ _ _ _).alloc _,?_⟩
  have h9:=q41 (w.alloc (.cells #[.slice (some ⟨ub,uo,none⟩) 2 uc] 31)) (.cells #[.slice none 0 0,.slice none 0 0,.int .i64 500,.int .i64 10,.int .i64 20] 34) rbZ 27
  rw[World.size_alloc] at h9
  exact h9
 rw[hw0]
 clear hw0
 have hC:=fun v (hv:Below w.heap.size w v)=>qr2 0 u (some ⟨ub,uo,none⟩) uc fas v HH.out.sm HH.out.cap (HH.out.call hv).ft
 simp only[unV,HH.out.n1] at hC
 refine (hC w0 H0.out.1).mono ?_
 clear hC
 rintro e w1 ⟨y,rfl,hy,hb1⟩
 obtain rfl:=yf6 HH.out.nb hy
 have H1:Hid (Below w0.heap.size w0 w1):=hb1
 have u0:=(H0.out.2.1.call hb1).cell 0 rfl
 have i0:=(H0.out.2.2.1.call hb1).cell 0 rfl
 have i1:=(H0.out.2.2.1.call hb1).cell 1 rfl
 have i2:=(H0.out.2.2.1.call hb1).cell 2 rfl
 have i3:=(H0.out.2.2.1.call hb1).cell 3 rfl
 have i4:=(H0.out.2.2.1.call hb1).cell 4 rfl
 clear hy hb1
 go_wp2_with fail
 have hI:=fun v (hv:Below w.heap.size w v)=>qk1 0 inD0 ⟨none,0,none,0⟩ v ⟨by decide,fun i hi=>absurd hi (Nat.not_lt_zero _),by decide,fun i hi=>absurd hi (Nat.not_lt_zero _)⟩ ⟨fun h=>absurd h (Nat.not_lt_zero _),fun h=>absurd h (Nat.not_lt_zero _)⟩
 refine (hI w1 (q02 H0.out.1 H1.out)).mono ?_
 clear hI
 rintro e w2 ⟨⟨b,rfl,hb⟩,hb2⟩
 obtain rfl:b=true:=hb.2 ⟨⟨by decide,fun i hi=>absurd hi (Nat.not_lt_zero _)⟩,⟨by decide,fun i hi=>absurd hi (Nat.not_lt_zero _)⟩,by unfold zp2;decide⟩
 have H2:Hid (Below w0.heap.size w0 w2):=q02 H1.out hb2
 clear hb hb2 u0 i0 i1 i2 i3 i4
 have u0:=(H0.out.2.1.call H2.out).cell 0 rfl
 have i0:=(H0.out.2.2.1.call H2.out).cell 0 rfl
 have i1:=(H0.out.2.2.1.call H2.out).cell 1 rfl
 have i2:=(H0.out.2.2.1.call H2.out).cell 2 rfl
 have i3:=(H0.out.2.2.1.call H2.out).cell 3 rfl
 have i4:=(H0.out.2.2.1.call H2.out).cell 4 rfl
 go_wp2_with fail
 have HP2:Hid (RunPre u ub uo fas k n w2/\Below w.heap.size w w2):=⟨HH.out.call (q02 H0.out.1 H2.out),q02 H0.out.1 H2.out⟩
 refine Calls.mono (qm1 ub uo uc 2 500 10 20 (RsU u.fn fas k n) w2 (by omega) (by omega) (y20 HP2.out.1.un _ _ _ uc)) ?_
 rintro e w3 ⟨X,E,oa,oc,Vs,rfl,hNM⟩
 have HN:Hid _:=hNM
 clear hNM u0 i0 i1 i2 i3 i4
 go_wp2_with fail
 refine (yp3 HN.out HP2.out.1.un HP2.out.1.t HP2.out.1.e).mono ?_
 rintro e w4 ⟨rfl,hb4,l,ti,md,ra,rc,hq,hrep⟩
 have HQ:Hid (QU k (n+1) l):=hq
 clear hq
 obtain ⟨w5,hcl,hg5⟩:=y84 w4 E hrep.e
 have hME:=yg8 hrep.c8 hrep.e
 have H5:Hid (Below w2.heap.size w2 w4/\Gx (fun k=>k=E) w4 w5/\w2.heap.size<=E/\OwnB w5 (w.heap.size+1 + 1) rbZ/\RcsAt 0 w5 ra l.length (fun i=>l.getD i rc0)):=by
  have hE:=HN.out.b.ew
  have hO:=(H0.out.2.2.2.call H2.out)
  exact ⟨hb4,hg5,hE,hg5.ownB (hO.call hb4) (fun e=>by have:=hO.1.1;omega),hrep.r.gx hg5 (fun b e h0 c=>hrep.r.other hrep.e b e h0 c)⟩
 have c24:=hrep.c24
 have hl:=hrep.lt
 have c8:=qe2 hg5 hl hME hrep.c8
 have c9:=qe2 hg5 hl hME hrep.c9
 have c10:=qe2 hg5 hl hME hrep.c10
 have c11:=qe2 hg5 hl hME hrep.c11
 have c12:=qe2 hg5 hl hME hrep.c12
 have c13:=qe2 hg5 hl hME hrep.c13
 have c14:=qe2 hg5 hl hME hrep.c14
 have c25:=qe2 hg5 hl hME hrep.c25
 have r0:=H5.out.2.2.2.1.1.cell 0 rfl
 have r1:=H5.out.2.2.2.1.1.cell 1 rfl
 have r2:=H5.out.2.2.2.1.1.cell 2 rfl
 have r3:=H5.out.2.2.2.1.1.cell 3 rfl
 have r4:=H5.out.2.2.2.1.1.cell 4 rfl
 have r5:=H5.out.2.2.2.1.1.cell 5 rfl
 have r6:=H5.out.2.2.2.1.1.cell 6 rfl
 have rz:=H5.out.2.2.2.1.2
 clear hb4 hg5 hrep hME
 go_wp2_with fail
 refine (zn5 X.M w5 c25).mono ?_
 rintro e w6 ⟨rfl,rfl⟩
 clear hcl c24
 go_wp2_with fail
 obtain ⟨q1,q2,q3,q4,q5⟩:=H5.out
 have q6:=H0.out.1.size
 have q7:=H2.out.size
 have q8:=q4.1.1
 have hb6:Below w.heap.size w w6:=HP2.out.2.trans ((q1.trans (q2.to (N:=w2.heap.size) q1.size (fun k e=>by omega))).mono (by have:=HP2.out.2.size;omega))
 have hrow:∀ b,ra=some b->0<l.length->b.block≠w.heap.size+1 + 1:=zk3 q4 q5
 refine bodyPost_ret (v:=.agg #[.int .i64 0,.slice ra l.length rc,.slice none 0 0,.string ⟨#[]⟩,.string ⟨#[]⟩,.int .i64 ti,.int .i64 md]) (by simp[results,Tryz.results9,go_sem,r0,r1,r2,r3,r4,r5,r6]) rfl ⟨l,ti,md,ra,rc,HQ.out,rfl,?_,?_⟩
 ·exact q5.gx (yk9 w6 _ _ _ _ _ _ _ _) hrow
 ·exact q29 (q29 (q29 (q29 (q29 (q29 (q29 hb6 _ (by omega)) _ (by omega)) _ (by omega)) _ (by omega)) _ (by omega)) _ (by omega)) _ (by omega)
theorem zu8 (u:UD) (ub uo uc:Nat) (fas:Nat->FA) (k n:Nat) (w:World) (h:RunPre u ub uo fas k n w) :
  Calls Tryz.prog 5 #[.agg #[.slice (some ⟨ub,uo,none⟩) 2 uc],.agg #[.slice none 0 0,.slice none 0 0,.int .i64 500,.int .i64 10,.int .i64 20]] w fun e w'=>RpL (QU k (n+1)) w e w':=by
 have HH:Hid (RunPre u ub uo fas k n w):=h
 clear h
 go_enter Tryz.func5,Tryz.ntmps5
 go_wp2_with fail
 refine (qm0 u ub uo uc fas k n _ (HH.out.call (q39 _ _ _ _))).mono ?_
 rintro e w1 ⟨l,ti,md,ra,rc,hq,rfl,hr,hb⟩
 have HQ:Hid (QU k (n+1) l):=hq
 clear hq
 have hO:OwnB w1 (w.heap.size+1 + 1) rbZ:=by
  have h9:=q41 (w.alloc (.cells #[.slice (some ⟨ub,uo,none⟩) 2 uc] 31)) (.cells #[.slice none 0 0,.slice none 0 0,.int .i64 500,.int .i64 10,.int .i64 20] 34) rbZ 27
  rw[World.size_alloc] at h9
  exact h9.call hb
 have H1:Hid (RcsAt 0 w1 ra l.length (fun i=>l.getD i rc0)/\Below w.heap.size w w1/\OwnB w1 (w.heap.size+1 + 1) rbZ):=⟨hr,q02 (q39 _ _ _ _) hb,hO⟩
 have r0:=hO.1.cell 0 rfl
 have r1:=hO.1.cell 1 rfl
 have r2:=hO.1.cell 2 rfl
 have r3:=hO.1.cell 3 rfl
 have r4:=hO.1.cell 4 rfl
 have r5:=hO.1.cell 5 rfl
 have r6:=hO.1.cell 6 rfl
 have rz:=hO.2
 clear hr hb hO
 go_wp2_with fail
 obtain ⟨q5,hb6,q4⟩:=H1.out
 have hrow:∀ b,ra=some b->0<l.length->b.block≠w.heap.size+1 + 1:=zk3 q4 q5
 refine bodyPost_ret (v:=.agg #[.int .i64 0,.slice ra l.length rc,.slice none 0 0,.string ⟨#[]⟩,.string ⟨#[]⟩,.int .i64 ti,.int .i64 md]) (by simp[results,Tryz.results5,go_sem,r0,r1,r2,r3,r4,r5,r6]) rfl ⟨l,ti,md,ra,rc,HQ.out,rfl,?_,?_⟩
 ·exact q5.gx (yk9 w1 _ _ _ _ _ _ _ _) hrow
 ·exact q29 (q29 (q29 (q29 (q29 (q29 (q29 hb6 _ (by omega)) _ (by omega)) _ (by omega)) _ (by omega)) _ (by omega)) _ (by omega)) _ (by omega)
end Go.Proofs.YtaimofjekgnieaaGreatDoor
