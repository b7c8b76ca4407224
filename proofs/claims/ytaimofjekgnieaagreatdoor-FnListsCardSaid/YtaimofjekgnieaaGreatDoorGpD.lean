import Derived.Test.YtaimofjekgnieaaGreatDoorGpA
import Derived.Test.YtaimofjekgnieaaGreatDoorJnA
import Derived.Deep.Cut
set_option maxRecDepth 100000
set_option maxHeartbeats 16000000
namespace Go.Proofs.YtaimofjekgnieaaGreatDoor
open Go.RowKit
attribute [local go_sem] q00
attribute [local go_sem ↓] Go.wp_at_zero Go.wp_at_succ
theorem ListTo.step {X:RX} {d d1:MD} {u w1:World} {l:List VD} {q:DP} {e:Ending} {w':World} (h:ListTo X d1 w1 l q e w') (k:Sp X d u d1 w1):ListTo X d u l q e w':=by
 obtain ⟨a,c,d',h1,h2,h3,h4,h5,h6⟩:=h
 exact ⟨a,c,d',h1,h2,h3,k.trans h4,h5,h6⟩
theorem ListTo.none {X:RX} {d:MD} {u:World} {q:DP} {w':World} (h:To X d u q w'):ListTo X d u [] q (.returned (.slice none 0 0)) w':=by
 obtain ⟨d',h1,h2⟩:=h
 exact ⟨_,_,d',rfl,fun _=>⟨rfl,rfl⟩,fun e=>absurd rfl e,h1,h2,fun _ _ e=>absurd rfl e⟩
theorem OwV.bl' {X:RX} {d:MD} {w:World} {N g c:Nat} {l:List VD} (h:OwV N w g c l) (hn:¬stB X d g):Bl X d w g l/\l.length<=c:=⟨h.bl hn,h.cap⟩
theorem qg1 (X:RX) (d:MD) (aa:Option Addr) (n ac:Nat) (l:List VD) (q:DP) (u:World) (h:St X d u) (ht:d.ti<X.tk)
  (hop:∀ d1 w1,Sp X d u d1 w1->d1.p=d.p.tick->Calls Tryz.prog 242 #[ptr X.M,fnD.v,.slice aa n ac] w1 fun e w'=>ListTo X d1 w1 l q e w') :
  Calls Tryz.prog 193 #[ptr X.M,fnD.v,.slice aa n ac] u fun e w'=>ListTo X d u l q e w':=by
 have HS:Hid (St X d u):=h
 have HOp:Hid (∀ d1 w1,Sp X d u d1 w1->d1.p=d.p.tick->Calls Tryz.prog 242 #[ptr X.M,fnD.v,.slice aa n ac] w1 fun e w'=>ListTo X d1 w1 l q e w'):=hop
 clear h hop
 go_enter Tryz.func193,Tryz.ntmps193
 go_wp2_with fail
 obtain ⟨w1,hw1⟩:∃ w1,u.alloc (.cells (vA fnD) 113)=w1:=⟨_,rfl⟩
 obtain ⟨C,hC0⟩:∃ C,u.heap.size=C:=⟨_,rfl⟩
 have H1:Hid (Sp X d u d w1):=by rw[<-hw1];exact (Sp.refl HS.out).alloc _
 have HC:Hid (Bx X d w1 C (vA fnD)):=by rw[<-hw1,<-hC0];exact Bx.new HS.out _ _
 rw[show u.alloc (.cells #[.int .i64 6,.int .i64 0,.float .f64 0,.string ⟨#[]⟩,.int .i64 0] 113)=w1 from hw1,hC0]
 clear hw1 hC0
 go_loopw [2,7] (fun a i wr=>a=.slice aa n ac/\i=.int .i64 0/\wr=w1) (fun _ _ _=>0)
 case atStart=>exact ⟨rfl,rfl,rfl⟩
 case round=>
  obtain ⟨rfl,rfl,rfl⟩:=hrel
  go_wp2_with fail
  refine (q62 X d _ H1.out.s ht).mono ?_
  rintro e w2 ⟨rfl,d2,hs2,e2⟩
  have H2:Hid (Sp X d u d2 w2/\d2.p=d.p.tick):=⟨H1.out.trans hs2,e2⟩
  have HC2:Hid (Bx X d2 w2 C (vA fnD)):=HC.out.step hs2
  clear hs2 e2 H1 HC
  have c0:=HC2.out.cell 0 rfl
  have c1:=HC2.out.cell 1 rfl
  have c2:=HC2.out.cell 2 rfl
  have c3:=HC2.out.cell 3 rfl
  have c4:=HC2.out.cell 4 rfl
  go_wp2_with fail
  refine (HOp.out d2 w2 H2.out.1 H2.out.2).mono ?_
  rintro e w3 h3
  have HF:Hid (ListTo X d u l q e w3):=h3.step H2.out.1
  obtain ⟨a3,c3',d3,rfl,_⟩:=h3
  clear c0 c1 c2 c3 c4
  obtain ⟨nn,hnn⟩:∃ nn,l.length=nn:=⟨_,rfl⟩
  rw[hnn] at HF
  rw[hnn]
  clear hnn
  go_wp2_with fail
  go_ret
  exact HF.out
theorem qs0 (X:RX) (d:MD) (g c n:Nat) (l:List VD) (tx:VD->ByteArray) (u:World) (h:St X d u) (hT:zr7 X tx l) (hg:Bl X d u g l) (hn:l.length=n) (h1:1<=n) (h2:n<=1000) (hj:(q43 tx l).size<=4000) (hl:d.recs.length<5000) :
  Calls Tryz.prog 243 #[ptr X.M,.int .i64 0,.slice (some ⟨g,0,none⟩) n c] u fun e w'=>e=.returned (.slice none 0 0)/\To X d u (d.p.rcd ⟨6,0,X.fn,d.line,q43 tx l⟩) w':=by
 have HP:Hid (Calls Tryz.prog 292 #[ptr X.M,.slice (some ⟨g,0,none⟩) n c] u fun e w'=>e=.returned (.tuple #[])/\To X d u (d.p.rcd ⟨6,0,X.fn,d.line,q43 tx l⟩) w'):=zf4 X d g c n l tx u h hT hg hn h1 h2 hj hl
 clear h hT hg hn h1 h2 hj hl
 go_enter Tryz.func243,Tryz.ntmps243
 go_wp2_with fail
 refine HP.out.mono ?_
 rintro e w1 ⟨rfl,ht⟩
 have HF:Hid _:=ht
 clear ht
 go_wp2_with fail
 go_ret
 exact ⟨rfl,HF.out⟩
theorem qg0 (X:RX) (d:MD) (g c n:Nat) (l:List VD) (tx:VD->ByteArray) (u:World) (h:St X d u) (ht:d.ti<X.tk) (hT:zr7 X tx l) (hg:Bl X d u g l) (hn:l.length=n) (h1:1<=n) (h2:n<=1000) (hj:(q43 tx l).size<=4000) (hl:d.recs.length<5000) :
  Calls Tryz.prog 193 #[ptr X.M,prD.v,.slice (some ⟨g,0,none⟩) n c] u fun e w'=>ListTo X d u [] (d.p.tick.rcd ⟨6,0,X.fn,d.line,q43 tx l⟩) e w':=by
 have HS:Hid (St X d u):=h
 have HPr:Hid (∀ d1 w1,Sp X d u d1 w1->d1.p=d.p.tick->Calls Tryz.prog 243 #[ptr X.M,.int .i64 0,.slice (some ⟨g,0,none⟩) n c] w1 fun e w'=>e=.returned (.slice none 0 0)/\To X d u (d.p.tick.rcd ⟨6,0,X.fn,d.line,q43 tx l⟩) w'):=fun d1 w1 k e1=>by
  have hr:d1.recs.length<5000:=by have:d1.recs=d.recs:=congrArg DP.recs e1;rw[this];exact hl
  have hli:d1.line=d.line:=congrArg DP.line e1
  refine (qs0 X d1 g c n l tx w1 k.s hT (hg.step k) hn h1 h2 hj hr).mono ?_
  rintro e w' ⟨rfl,ht⟩
  rw[hli,e1] at ht
  exact ⟨rfl,To.step k ht⟩
 clear h hT hg hn h1 h2 hj hl
 go_enter Tryz.func193,Tryz.ntmps193
 go_wp2_with fail
 obtain ⟨w1,hw1⟩:∃ w1,u.alloc (.cells (vA prD) 113)=w1:=⟨_,rfl⟩
 obtain ⟨C,hC0⟩:∃ C,u.heap.size=C:=⟨_,rfl⟩
 have H1:Hid (Sp X d u d w1):=by rw[<-hw1];exact (Sp.refl HS.out).alloc _
 have HC:Hid (Bx X d w1 C (vA prD)):=by rw[<-hw1,<-hC0];exact Bx.new HS.out _ _
 rw[show u.alloc (.cells #[.int .i64 8,.int .i64 0,.float .f64 0,.string ⟨#[]⟩,.int .i64 0] 113)=w1 from hw1,hC0]
 clear hw1 hC0
 go_loopw [2,7] (fun a i wr=>a=.slice (some ⟨g,0,none⟩) n c/\i=.int .i64 0/\wr=w1) (fun _ _ _=>0)
 case atStart=>exact ⟨rfl,rfl,rfl⟩
 case round=>
  obtain ⟨rfl,rfl,rfl⟩:=hrel
  go_wp2_with fail
  refine (q62 X d _ H1.out.s ht).mono ?_
  rintro e w2 ⟨rfl,d2,hs2,e2⟩
  have H2:Hid (Sp X d u d2 w2/\d2.p=d.p.tick):=⟨H1.out.trans hs2,e2⟩
  have HC2:Hid (Bx X d2 w2 C (vA prD)):=HC.out.step hs2
  clear hs2 e2 H1 HC
  have c0:=HC2.out.cell 0 rfl
  have c1:=HC2.out.cell 1 rfl
  go_wp2_with fail
  refine (HPr.out d2 w2 H2.out.1 H2.out.2).mono ?_
  rintro e w3 ⟨rfl,ht3⟩
  have HF:Hid (ListTo X d u [] (d.p.tick.rcd ⟨6,0,X.fn,d.line,q43 tx l⟩) (.returned (.slice none 0 0)) w3):=ListTo.none ht3
  clear ht3
  go_wp2_with fail
  go_ret
  exact HF.out
theorem qk9 (X:RX) (d:MD) (a1 a2 p1 p2 bb:Nat) (nd:Value) (cv:VD) (la:List VD) (l:List VD) (q1 q:DP) (u:World) (h:St X d u) (k1:Od X a1 #[qh6 p1 p2]) (k2:Od X a2 #[ptr bb]) (kb:Od X bb #[ptr X.M,nd])
  (hp:Calls Tryz.prog 241 #[ptr X.F,ptr p1,ptr p2] u fun e w'=>qe4 X d u cv la q1 e w')
  (hinv:∀ g c d1 w1,Sp X d u d1 w1->d1.p=q1->Bl X d1 w1 g la->la.length<=c->Calls Tryz.prog 193 #[ptr X.M,cv.v,.slice (some ⟨g,0,none⟩) la.length c] w1 fun e w'=>ListTo X d1 w1 l q e w') :
  Calls Tryz.prog 192 #[ptr X.F,ptr a1,ptr a2] u fun e w'=>ListTo X d u l q e w':=by
 have HP:Hid (Calls Tryz.prog 241 #[ptr X.F,ptr p1,ptr p2] u fun e w'=>qe4 X d u cv la q1 e w'):=hp
 have HI:Hid (∀ g c d1 w1,Sp X d u d1 w1->d1.p=q1->Bl X d1 w1 g la->la.length<=c->Calls Tryz.prog 193 #[ptr X.M,cv.v,.slice (some ⟨g,0,none⟩) la.length c] w1 fun e w'=>ListTo X d1 w1 l q e w'):=hinv
 have HK2:Hid (Od X a2 #[ptr bb]):=k2
 have HKB:Hid (Od X bb #[ptr X.M,nd]):=kb
 have b1:=(k1.at h).cell 0 rfl
 have z1:=(k1.at h).1
 clear h k1 k2 kb hp hinv
 go_enter Tryz.func192,Tryz.ntmps192
 go_wp2_with fail
 refine HP.out.mono ?_
 rintro e w1 ⟨g,c,d1,rfl,ho,hs1,e1,hg1⟩
 have H1:Hid (Sp X d u d1 w1/\d1.p=q1):=⟨hs1,e1⟩
 have HG:Hid (Bl X d1 w1 g la/\la.length<=c):=ho.bl' hg1
 obtain ⟨na,hna⟩:∃ na,la.length=na:=⟨_,rfl⟩
 have HNA:Hid (la.length=na):=hna
 rw[hna]
 clear ho hs1 e1 hg1 hna
 clear b1 z1 HP
 go_wp2_with fail
 obtain ⟨w2,hw2⟩:∃ w2,w1.alloc (.cells (vA cv) 113)=w2:=⟨_,rfl⟩
 obtain ⟨C,hC0⟩:∃ C,w1.heap.size=C:=⟨_,rfl⟩
 have K2:Hid (Sp X d1 w1 d1 w2.drew):=by rw[<-hw2];exact ((Sp.refl H1.out.1.s).alloc _).drew
 have HC:Hid (Bx X d1 w2.drew C (vA cv)):=by rw[<-hw2,<-hC0];exact (Bx.new H1.out.1.s _ _).step (Sp.refl (H1.out.1.s.alloc _)).drew
 rw[show w1.alloc (.cells #[.int .i64 cv.k,.int .i64 cv.n,.float .f64 cv.f,.string cv.s,.int .i64 cv.r] 113)=w2 from hw2,hC0]
 clear hw2 hC0
 have HK:Hid (∀ d' w',Sp X d1 w2.drew d' w'->w'.cell? ⟨a2,0,none⟩=some (ptr bb)/\w'.cell? ⟨bb,0,none⟩=some (ptr X.M)/\w'.cell? ⟨C,0,none⟩=some (.int .i64 cv.k)/\w'.cell? ⟨C,1,none⟩=some (.int .i64 cv.n)/\w'.cell? ⟨C,2,none⟩=some (.float .f64 cv.f)/\w'.cell? ⟨C,3,none⟩=some (.string cv.s)/\w'.cell? ⟨C,4,none⟩=some (.int .i64 cv.r)):=fun d' w' k=>⟨(HK2.out.at k.s).cell 0 rfl,(HKB.out.at k.s).cell 0 rfl,(HC.out.step k).cell 0 rfl,(HC.out.step k).cell 1 rfl,(HC.out.step k).cell 2 rfl,(HC.out.step k).cell 3 rfl,(HC.out.step k).cell 4 rfl⟩
 have S0:=HK.out d1 _ (Sp.refl K2.out.s)
 obtain ⟨nn,hnn⟩:∃ nn,l.length=nn:=⟨_,rfl⟩
 have HNN:Hid (l.length=nn):=hnn
 clear hnn
 go_region_held3 (fun w'=>w'.cell? ⟨a2,0,none⟩=some (ptr bb)/\w'.cell? ⟨bb,0,none⟩=some (ptr X.M)/\w'.cell? ⟨C,0,none⟩=some (.int .i64 cv.k)/\w'.cell? ⟨C,1,none⟩=some (.int .i64 cv.n)/\w'.cell? ⟨C,2,none⟩=some (.float .f64 cv.f)/\w'.cell? ⟨C,3,none⟩=some (.string cv.s)/\w'.cell? ⟨C,4,none⟩=some (.int .i64 cv.r)) (first|with_reducible exact S0|with_reducible exact S1) (first|(go_at_call 193;have hz:=HI.out g c d1 _ (H1.out.1.trans K2.out) H1.out.2 (HG.out.1.step K2.out) HG.out.2;rw[HNA.out] at hz;refine hz.mono ?_;clear hz;rintro e w3 ⟨a3,c3,d3,rfl,h2,h3,h4,h5,h6⟩;have HF:Hid (ListTo X d u l q (.returned (.slice a3 nn c3)) w3):=(by rw[<-HNN.out];exact ListTo.step ⟨a3,c3,d3,rfl,h2,h3,h4,h5,h6⟩ (H1.out.1.trans K2.out));have S1:=HK.out d3 w3 h4;rw[HNN.out];clear h2 h3 h4 h5 h6))
 all_goals
  go_wp2_with fail
  go_ret
  exact HF.out
theorem zr5 (X:RX) (d:MD) (a1 a2 p1 p2 bb:Nat) (nd:Value) (cv:VD) (l:List VD) (q:DP) (u:World) (h:St X d u) (k1:Od X a1 #[qh6 p1 p2]) (k2:Od X a2 #[ptr bb]) (kb:Od X bb #[ptr X.M,nd])
  (hp:Calls Tryz.prog 241 #[ptr X.F,ptr p1,ptr p2] u fun e w'=>Parts0To X d u cv e w')
  (hinv:∀ d1 w1,Sp X d u d1 w1->d1.p=d.p->Calls Tryz.prog 193 #[ptr X.M,cv.v,.slice none 0 0] w1 fun e w'=>ListTo X d1 w1 l q e w') :
  Calls Tryz.prog 192 #[ptr X.F,ptr a1,ptr a2] u fun e w'=>ListTo X d u l q e w':=by
 have HP:Hid (Calls Tryz.prog 241 #[ptr X.F,ptr p1,ptr p2] u fun e w'=>Parts0To X d u cv e w'):=hp
 have HI:Hid (∀ d1 w1,Sp X d u d1 w1->d1.p=d.p->Calls Tryz.prog 193 #[ptr X.M,cv.v,.slice none 0 0] w1 fun e w'=>ListTo X d1 w1 l q e w'):=hinv
 have HK2:Hid (Od X a2 #[ptr bb]):=k2
 have HKB:Hid (Od X bb #[ptr X.M,nd]):=kb
 have b1:=(k1.at h).cell 0 rfl
 have z1:=(k1.at h).1
 clear h k1 k2 kb hp hinv
 go_enter Tryz.func192,Tryz.ntmps192
 go_wp2_with fail
 refine HP.out.mono ?_
 rintro e w1 ⟨rfl,d1,hs1,e1⟩
 have H1:Hid (Sp X d u d1 w1/\d1.p=d.p):=⟨hs1,e1⟩
 clear hs1 e1
 clear b1 z1 HP
 go_wp2_with fail
 obtain ⟨w2,hw2⟩:∃ w2,w1.alloc (.cells (vA cv) 113)=w2:=⟨_,rfl⟩
 obtain ⟨C,hC0⟩:∃ C,w1.heap.size=C:=⟨_,rfl⟩
 have K2:Hid (Sp X d1 w1 d1 w2.drew):=by rw[<-hw2];exact ((Sp.refl H1.out.1.s).alloc _).drew
 have HC:Hid (Bx X d1 w2.drew C (vA cv)):=by rw[<-hw2,<-hC0];exact (Bx.new H1.out.1.s _ _).step (Sp.refl (H1.out.1.s.alloc _)).drew
 rw[show w1.alloc (.cells #[.int .i64 cv.k,.int .i64 cv.n,.float .f64 cv.f,.string cv.s,.int .i64 cv.r] 113)=w2 from hw2,hC0]
 clear hw2 hC0
 have HK:Hid (∀ d' w',Sp X d1 w2.drew d' w'->w'.cell? ⟨a2,0,none⟩=some (ptr bb)/\w'.cell? ⟨bb,0,none⟩=some (ptr X.M)/\w'.cell? ⟨C,0,none⟩=some (.int .i64 cv.k)/\w'.cell? ⟨C,1,none⟩=some (.int .i64 cv.n)/\w'.cell? ⟨C,2,none⟩=some (.float .f64 cv.f)/\w'.cell? ⟨C,3,none⟩=some (.string cv.s)/\w'.cell? ⟨C,4,none⟩=some (.int .i64 cv.r)):=fun d' w' k=>⟨(HK2.out.at k.s).cell 0 rfl,(HKB.out.at k.s).cell 0 rfl,(HC.out.step k).cell 0 rfl,(HC.out.step k).cell 1 rfl,(HC.out.step k).cell 2 rfl,(HC.out.step k).cell 3 rfl,(HC.out.step k).cell 4 rfl⟩
 have S0:=HK.out d1 _ (Sp.refl K2.out.s)
 obtain ⟨nn,hnn⟩:∃ nn,l.length=nn:=⟨_,rfl⟩
 have HNN:Hid (l.length=nn):=hnn
 clear hnn
 go_region_held3 (fun w'=>w'.cell? ⟨a2,0,none⟩=some (ptr bb)/\w'.cell? ⟨bb,0,none⟩=some (ptr X.M)/\w'.cell? ⟨C,0,none⟩=some (.int .i64 cv.k)/\w'.cell? ⟨C,1,none⟩=some (.int .i64 cv.n)/\w'.cell? ⟨C,2,none⟩=some (.float .f64 cv.f)/\w'.cell? ⟨C,3,none⟩=some (.string cv.s)/\w'.cell? ⟨C,4,none⟩=some (.int .i64 cv.r)) (first|with_reducible exact S0|with_reducible exact S1) (first|(go_at_call 193;refine (HI.out d1 _ (H1.out.1.trans K2.out) H1.out.2).mono ?_;rintro e w3 ⟨a3,c3,d3,rfl,h2,h3,h4,h5,h6⟩;have HF:Hid (ListTo X d u l q (.returned (.slice a3 nn c3)) w3):=(by rw[<-HNN.out];exact ListTo.step ⟨a3,c3,d3,rfl,h2,h3,h4,h5,h6⟩ (H1.out.1.trans K2.out));have S1:=HK.out d3 w3 h4;rw[HNN.out];clear h2 h3 h4 h5 h6))
 all_goals
  go_wp2_with fail
  go_ret
  exact HF.out
end Go.Proofs.YtaimofjekgnieaaGreatDoor
namespace Go.Proofs.YtaimofjekgnieaaGreatDoor
open Go.RowKit
structure GI where
 k1:Nat
 ka:Nat
 kc:Nat
 s1:Nat
 s2:Nat
 s3:Nat
 bb:Nat
 nd:Value
 A2:Array Value
 L:Int
 x1:Nat
 l1:Nat
 l2:Nat
 b1:Nat
 o:Nat
 la:Option Addr
 lc:Nat
 Bs:Nat->Nat
abbrev all2V:Value:=.func (.func 194) #[] #[]
structure GI.ok (G:GI) (X:RX) (k:Nat):Prop where
 k1:Od X G.k1 #[.slice (some ⟨G.ka,0,none⟩) 1 G.kc]
 ka:Oc X G.ka (stV G.s1 G.s2 G.s3)
 s1:Od X G.s1 #[ptr G.bb]
 bb:Od X G.bb #[ptr X.M,G.nd]
 s2:Od X G.s2 G.A2
 A2:G.A2[1]?=some (.int .i64 G.L)
 s3:Od X G.s3 #[retV G.x1]
 x1:Od X G.x1 #[qg5 G.l1 G.l2 G.b1]
 l1:Od X G.l1 #[qt7 G.o]
 l2:Od X G.l2 #[all2V]
 o:Od X G.o #[.slice G.la k G.lc]
 ls:qy4 X G.la k G.Bs (fun _=>inD 1)
abbrev q42 (k:Nat):List VD:=List.replicate k (inD 1)
theorem zs4 (k:Nat):vl (fun _=>inD 1) k=q42 k:=by
 show (List.range k).map (fun _=>inD 1)=_
 rw[List.map_const',List.length_range]
theorem qd1 {X:RX} {d:MD} {u:World} {n:Nat} {vs:Nat->VD} {e:Ending} {w':World} (h:∃ g c,e=.returned (.slice (some ⟨g,0,none⟩) n c)/\w'.ownsRow u.heap.size 113 5 (.slice (some ⟨g,0,none⟩) n c) n (hL (vl vs n))/\ToG X d u d.p w' g):qa5 X d u (vl vs n) d.p e w':=by
 obtain ⟨g,c,h1,h2,d',h3,h4,h5⟩:=h
 refine ⟨g,c,d',by rw[ql1];exact h1,?_,h3,h4,h5⟩
 show w'.ownsRow _ _ _ (.slice (some ⟨g,0,none⟩) (vl vs n).length c) (vl vs n).length _
 rw[ql1]
 exact h2
theorem zh6 (G:GI) (X:RX) (d:MD) (k ac:Nat) (aa:Option Addr) (lr:List VD) (u:World) (hG:G.ok X k) (h:St X d u) (hr:X.rest=.slice aa lr.length ac) (hnil:lr=[]->aa=none/\ac=0) (hl:Lst u aa lr) (hnb:∀ ad,aa=some ad->lr≠[]->¬stB X d ad.block) (hk:1<=k) (hm:k+lr.length<=250) (hh:d.held.length<=700) (hrec:d.recs.length<4000) (ht:d.ti<X.tk) :
  Calls Tryz.prog 163 #[ptr X.F,ptr G.k1] u fun e w'=>q11 X d u (RetTo X u.heap.size (q42 k++lr) (d.p.plus [⟨1,0,X.fn,G.L,⟨#[]⟩⟩] 1)) e w':=by
 refine zc3 X d G.k1 G.ka G.kc G.s1 G.s2 G.s3 u.heap.size (q42 k++lr) _ u h hG.k1 hG.ka rfl ?_
 refine (ze9 X d G.s1 G.s2 G.s3 G.bb G.x1 G.nd G.A2 G.L (RetTo X u.heap.size (q42 k++lr) (d.p.begun X.fn G.L)) u h hG.s1 hG.bb hG.s2 hG.A2 hG.s3 hrec ht (fun d3 w3 k3 e3=>?_)).mono ?_
 ·have hh3:d3.held=d.held:=congrArg DP.held e3
  have hl3:=hl.step hnb k3
  refine (zv2 X d3 G.x1 G.l1 G.l2 G.b1 (q42 k++lr) (d.p.begun X.fn G.L) w3 k3.s hG.x1 ?_).mono ?_
  ·rw[<-e3]
   refine z86 X d3 G.l1 G.l2 G.b1 G.o (q42 k) lr d3.p w3 k3.s hG.l1 hG.l2 rfl ?_ (fun d4 w4 k4 e4=>?_) (by rw[hh3];simp;omega) (by simpa using hm)
   ·rw[<-zs4]
    refine (q81 X d3 G.o G.la k G.lc G.Bs (fun _=>inD 1) w3 k3.s hG.o.1 hG.o.2 hG.ls (by omega) (by omega) (by rw[hh3];omega)).mono ?_
    intro e w' he
    exact qd1 he
   ·have hl4:=hl3.1.step hl3.2 k4
    have:=qv8 X d4 aa ac lr w4 k4.s hr hnil hl4.1 hl4.2
    rw[e4] at this
    exact this
  ·rintro e w' ⟨way,d',rfl,hs,hr'⟩
   exact ⟨way,d',rfl,hs,hr'.mono k3.g.size⟩
 ·rintro e w' ⟨way,d',rfl,hs,hr'⟩
  exact ⟨way,d',rfl,hs,RetTo.ln hr'⟩
theorem DP.hold_plus (p:DP) (l:List VD) (rs:List RcD) (t:Nat):(p.hold l).plus rs t=(p.plus rs t).hold l:=rfl
theorem DP.tick_plus' (p:DP) (rs:List RcD) (t:Nat):p.tick.plus rs t=p.plus rs (1+t):=by
 simp only[DP.plus,DP.tick]
 rw[Nat.add_assoc]
structure FI where
 fn:Nat
 nf:Nat
 ub:Nat
 uo:Nat
 uc:Nat
 nv:Nat
 vc:Nat
 va:Option Addr
 nm:ByteArray
 fL:Int
 p1:Option Addr
 p2:Nat
 p3:Nat
 q1:Option Addr
 q2:Nat
 q3:Nat
 bo:Nat
 bc:Nat
 G:GI
structure FI.ok (I:FI) (X:RX) (k:Nat):Prop where
 e:EtX X
 u:UG X I.fn I.nf I.ub I.uo I.uc I.nv I.vc I.va I.nm I.fL (.slice I.p1 I.p2 I.p3) (.slice I.q1 I.q2 I.q3)
 nv:I.nv<=1000
 bod:X.bod=.slice (some ⟨I.bo,0,none⟩) I.nf I.bc
 b:Oo X I.bo I.fn (bkV I.G.k1)
 g:I.G.ok X k
abbrev FI.rs (I:FI):List RcD:=[⟨2,0,(I.fn:Int),I.fL,I.nm⟩,⟨1,0,(I.fn:Int),I.G.L,⟨#[]⟩⟩,⟨3,0,(I.fn:Int),0,⟨#[]⟩⟩]
theorem qr3 (I:FI) (X:RX) (d:MD) (k C B cc ac:Nat) (aa:Option Addr) (lr:List VD) (u:World) (hI:I.ok X k) (h:St X d u) (hfn:FnHas X d u (I.fn:Int) C B) (hcls:d.cls=.slice (some ⟨B,0,none⟩) 1 cc) (hdep:X.fl<X.dp) (hrec:d.recs.length<3000) (hac:lr.length<=ac) (hform:aa=none\/∃ g,aa=some (⟨g,0,none⟩:Addr)) (hnil:lr=[]->aa=none/\ac=0) (hl:Lst u aa lr) (hnb:∀ ad,aa=some ad->lr≠[]->¬stB X d ad.block) (hk:1<=k) (hm:k+lr.length<=250) (hh:d.held.length<=700) (ht:d.ti<X.tk) :
  Calls Tryz.prog 242 #[ptr X.M,fnD.v,.slice aa lr.length ac] u fun e w'=>ListTo X d u (q42 k++lr) (d.p.plus I.rs 1) e w':=by
 refine zp0 X d I.fn I.nf I.ub I.uo I.uc I.nv I.vc I.bo I.bc I.G.k1 C B cc ac 1 I.va aa I.nm I.fL I.p1 I.q1 I.p2 I.p3 I.q2 I.q3 lr (q42 k++lr) [⟨1,0,(I.fn:Int),I.G.L,⟨#[]⟩⟩] u h hI.e hI.u hfn hcls hdep (by simp;omega) hI.nv hI.bod hI.b hac hform hl hnb (fun e=>?_) (fun F V fa fc d1 w1 hs e1 hl1 hnb1=>?_)
 ·have:=congrArg List.length e
  simp at this
  omega
 ·have h1:d1.held=d.held:=congrArg DP.held e1
  have h2:d1.recs=d.recs++[⟨2,0,(I.fn:Int),I.fL,I.nm⟩]:=congrArg DP.recs e1
  have h3:d1.ti=d.ti:=congrArg DP.ti e1
  have hg:=hI.g
  exact zh6 I.G _ d1 k ac aa lr w1 ⟨hg.k1,hg.ka,hg.s1,hg.bb,hg.s2,hg.A2,hg.s3,hg.x1,hg.l1,hg.l2,hg.o,hg.ls.1,hg.ls.2,hg.ls.3⟩ hs rfl hnil hl1 hnb1 hk hm (by rw[h1];exact hh) (by rw[h2];simp;omega) (by rw[h3];exact ht)
inductive Nest (X:RX) (bb:Nat) (nd:Value) (i:Nat):Nat->Nat->Nat->Prop
 |one {a1 a2 p1 p2 pc:Nat} (h1:Od X a1 #[qh6 p1 p2]) (h2:Od X a2 #[ptr bb]) (h3:Od X p1 #[varV pc]) (h4:Od X pc #[.int .i64 (i:Int)]) (h5:Od X p2 #[list1V]):Nest X bb nd i 1 a1 a2
 |more {n r1 r2 a1 a2 p1 p2 pc l1 l2 b1 o:Nat} {la:Option Addr} {lc:Nat} {Bs:Nat->Nat} (h:Nest X bb nd i n r1 r2) (h1:Od X a1 #[qh6 p1 p2]) (h2:Od X a2 #[ptr bb]) (h3:Od X p1 #[varV pc]) (h4:Od X pc #[.int .i64 (i:Int)]) (h5:Od X p2 #[qg5 l1 l2 b1]) (h6:Od X l1 #[qt7 o]) (h7:Od X o #[.slice la 0 lc]) (h8:qy4 X la 0 Bs (fun _=>inD 1)) (h9:Od X l2 #[allV r1 r2]):Nest X bb nd i (n+1) a1 a2
def FI.many (I:FI):Nat->List RcD
 |0=>[]
 |n+1=>I.many n++I.rs
theorem FI.many_len (I:FI) (n:Nat):(I.many n).length=n*3:=by
 induction n with
 |zero=>rfl
 |succ n ih=>simp[FI.many,ih];omega
theorem Nest.pos {X:RX} {bb:Nat} {nd:Value} {i n a1 a2:Nat} (h:Nest X bb nd i n a1 a2):1<=n:=by
 cases h<;>omega
structure Has1 (I:FI) (X:RX) (d:MD) (u:World) (i Q C B cc:Nat):Prop where
 v:d.vs[i]?=some (ptr Q)
 q:Bx X d u Q (vA fnD)
 f:FnHas X d u (I.fn:Int) C B
 c:d.cls=.slice (some ⟨B,0,none⟩) 1 cc
theorem Has1.step {I:FI} {X:RX} {d d':MD} {u u':World} {i Q C B cc:Nat} (h:Has1 I X d u i Q C B cc) (k:Sp X d u d' u') (hv:d'.vs=d.vs) (hc:d'.cls=d.cls):Has1 I X d' u' i Q C B cc:=⟨by rw[hv];exact h.v,h.q.step k,h.f.step k,by rw[hc];exact h.c⟩
theorem qw7 (I:FI) (X:RX) (bb:Nat) (nd:Value) (i k Q C B cc:Nat) (hI:I.ok X k) (hk:1<=k) (kb:Od X bb #[ptr X.M,nd]) (hdep:X.fl<X.dp) {n a1 a2:Nat} (hN:Nest X bb nd i n a1 a2):∀ (d:MD) (u:World),St X d u->Has1 I X d u i Q C B cc->n*k<=250->d.recs.length+n*3<3000->d.held.length+n<=600->d.ti+n*2<=X.tk->
  Calls Tryz.prog 192 #[ptr X.F,ptr a1,ptr a2] u fun e w'=>ListTo X d u (q42 (n*k)) (d.p.plus (I.many n) (n*2)) e w':=by
 induction hN with
 |@one a1 a2 p1 p2 pc h1 h2 h3 h4 h5=>
  intro d u h hH hm hr hh ht
  refine zr5 X d a1 a2 p1 p2 bb nd fnD _ _ u h h1 h2 kb (z02 X d p1 p2 pc i Q fnD u h h3 h4 hH.v hH.q h5 (by omega)) (fun d1 w1 k1 e1=>?_)
  have hv1:d1.vs=d.vs:=congrArg DP.vs e1
  have hc1:d1.cls=d.cls:=congrArg DP.cls e1
  have hh1:d1.held=d.held:=congrArg DP.held e1
  have hr1:d1.recs=d.recs:=congrArg DP.recs e1
  have ht1:d1.ti=d.ti:=congrArg DP.ti e1
  refine qg1 X d1 none 0 0 _ _ w1 k1.s (by omega) (fun d2 w2 k2 e2=>?_)
  have hH2:=(hH.step k1 hv1 hc1).step k2 (congrArg DP.vs e2) (congrArg DP.cls e2)
  have hh2:d2.held=d1.held:=congrArg DP.held e2
  have hr2:d2.recs=d1.recs:=congrArg DP.recs e2
  have ht2:d2.ti=d1.ti+1:=congrArg DP.ti e2
  have:=qr3 I X d2 k C B cc 0 none [] w2 hI k2.s hH2.f hH2.c hdep (by rw[hr2,hr1];omega) (Nat.le_refl _) (.inl rfl) (fun _=>⟨rfl,rfl⟩) (fun e=>absurd rfl e) (fun _ e=>nomatch e) hk (by simp;omega) (by rw[hh2,hh1];omega) (by omega)
  rw[e2,e1,DP.tick_plus',List.append_nil] at this
  rw[show 1*k=k by omega,show I.many 1=I.rs by simp[FI.many]]
  exact this
 |@more n r1 r2 a1 a2 p1 p2 pc l1 l2 b1 o la lc Bs hN h1 h2 h3 h4 h5 h6 h7 h8 h9 ih=>
  intro d u h hH hm hr hh ht
  have hnk:(n+1)*k=k+n*k:=by rw[Nat.add_mul,Nat.one_mul,Nat.add_comm]
  refine qk9 X d a1 a2 p1 p2 bb nd fnD (q42 (n*k)) _ (d.p.plus (I.many n) (n*2)) _ u h h1 h2 kb (qh5 X d p1 p2 pc i Q l1 l2 b1 fnD (q42 (n*k)) (d.p.plus (I.many n) (n*2)) u h h3 h4 hH.v hH.q h5 rfl (fun d2 w2 k2 e2=>?_) (by omega)) (fun g c d1 w1 k1 e1 hb hc=>?_)
  ·have hv2:d2.vs=d.vs:=congrArg DP.vs e2
   have hc2:d2.cls=d.cls:=congrArg DP.cls e2
   have hh2:d2.held=d.held++[fnD]:=congrArg DP.held e2
   have hr2:d2.recs=d.recs:=congrArg DP.recs e2
   have ht2:d2.ti=d.ti:=congrArg DP.ti e2
   have hl2:d2.held.length=d.held.length+1:=by rw[hh2];simp
   have hz:=qd5 X d2 l1 l2 b1 o r1 r2 [] (q42 (n*k)) (d2.p.plus (I.many n) (n*2)) w2 k2.s h6 h9 rfl ?_ (fun d3 w3 k3 e3=>?_) (by simp;omega) (by simp;omega)
   ·rw[e2] at hz
    exact hz
   ·have:=q81 X d2 o la 0 lc Bs (fun _=>inD 1) w2 k2.s h7.1 h7.2 h8 (by omega) (by omega) (by omega)
    exact this.mono (fun e w' he=>qd1 he)
   ·rw[DP.hold_nil] at e3
    have:=ih d3 w3 k3.s ((hH.step k2 hv2 hc2).step k3 (congrArg DP.vs e3) (congrArg DP.cls e3)) (by omega) (by have e:d3.recs=d2.recs:=congrArg DP.recs e3;rw[e,hr2];omega) (by have e:d3.held=d2.held:=congrArg DP.held e3;rw[e];omega) (by have e:d3.ti=d2.ti:=congrArg DP.ti e3;omega)
    rw[e3] at this
    rw[DP.hold_nil]
    exact this
  ·have hv1:d1.vs=d.vs:=congrArg DP.vs e1
   have hc1:d1.cls=d.cls:=congrArg DP.cls e1
   have hh1:d1.held=d.held:=congrArg DP.held e1
   have hr1:d1.recs=d.recs++I.many n:=congrArg DP.recs e1
   have ht1:d1.ti=d.ti+n*2:=congrArg DP.ti e1
   have hml:=I.many_len n
   refine qg1 X d1 (some ⟨g,0,none⟩) (q42 (n*k)).length c _ _ w1 k1.s (by omega) (fun d2 w2 k2 e2=>?_)
   have hH2:=(hH.step k1 hv1 hc1).step k2 (congrArg DP.vs e2) (congrArg DP.cls e2)
   have hh2:d2.held=d1.held:=congrArg DP.held e2
   have hr2:d2.recs=d1.recs:=congrArg DP.recs e2
   have ht2:d2.ti=d1.ti+1:=congrArg DP.ti e2
   have hb2:=hb.step k2
   have hpos:q42 (n*k)≠[]:=fun e=>by
    have:=congrArg List.length e
    have hn:=hN.pos
    have:n*k=0:=by simpa using this
    have h0:0<n*k:=Nat.mul_pos hn hk
    omega
   have:=qr3 I X d2 k C B cc c (some ⟨g,0,none⟩) (q42 (n*k)) w2 hI k2.s hH2.f hH2.c hdep (by rw[hr2,hr1,List.length_append,hml];omega) hc (.inr ⟨g,rfl⟩) (fun e=>absurd e hpos) hb2.lst (fun ad e _=>by cases e;exact hb2.2) hk (by simp;omega) (by rw[hh2,hh1];omega) (by omega)
   rw[e2,e1,DP.tick_plus',DP.plus_plus,List.replicate_append_replicate] at this
   rw[hnk,show (n+1)*2=n*2+(1+1) by omega]
   exact this
end Go.Proofs.YtaimofjekgnieaaGreatDoor
namespace Go.Proofs.YtaimofjekgnieaaGreatDoor
open Go.RowKit
attribute [local go_sem] q00
attribute [local go_sem ↓] Go.wp_at_zero Go.wp_at_succ
def NilTo (q:DP) (way:Value) (d':MD) (_:World):Prop:=way=.nilIface/\d'.p=q
theorem y80 (X:RX) (d:MD) (x1 r1 r2:Nat) (l:List VD) (q:DP) (u:World) (h:St X d u) (k1:Od X x1 #[allV r1 r2])
  (hall:Calls Tryz.prog 192 #[ptr X.F,ptr r1,ptr r2] u fun e w'=>ListTo X d u l q e w') :
  Calls Tryz.prog 167 #[ptr X.F,ptr x1] u fun e w'=>q11 X d u (NilTo q) e w':=by
 have HAll:Hid (Calls Tryz.prog 192 #[ptr X.F,ptr r1,ptr r2] u fun e w'=>ListTo X d u l q e w'):=hall
 have b1:=(k1.at h).cell 0 rfl
 have z1:=(k1.at h).1
 clear h k1 hall
 go_enter Tryz.func167,Tryz.ntmps167
 go_wp2_with fail
 refine HAll.out.mono ?_
 rintro e w1 ⟨a,c,d1,rfl,h2,h3,h4,h5,h6⟩
 have HF:Hid (q11 X d u (NilTo q) (.returned .nilIface) w1):=⟨_,d1,rfl,h4,rfl,h5⟩
 clear h2 h3 h4 h5 h6 b1 z1
 go_wp2_with fail
 go_ret
 exact HF.out
theorem qh0 (x:Value) (u:World):Calls Tryz.prog 55 #[.nilIface,x] u fun e w'=>e=.returned (.bool false)/\w'=u:=by
 go_enter Tryz.func55,Tryz.ntmps55
 go_wp2_with fail
 go_ret
 exact ⟨rfl,rfl⟩
theorem qz5 (w:World):(Instr.typeAssert .nilIface 128 118 true).run Tryz.prog w=.ok (.tuple #[.pointer none,.bool false]) w:=by kernel_rfl
theorem ze7 (w:World):(Instr.typeAssert .nilIface 128 241 true).run Tryz.prog w=.ok (.tuple #[.pointer none,.bool false]) w:=by kernel_rfl
theorem qg2 (u:World):Calls Tryz.prog 91 #[.nilIface] u fun e w'=>e=.returned .nilIface/\w'=u:=by
 have h1:=qz5
 have h2:=ze7
 go_enter Tryz.func91,Tryz.ntmps91
 go_wp2_with fail
 go_ret
 exact ⟨rfl,rfl⟩
theorem ze0 (X:RX) (d:MD) (x1 b5 k1:Nat) (R:Value->MD->World->Prop) (u:World) (h:St X d u) (h1:Od X x1 #[bkV k1]) (h5:Bx X d u b5 #[ptr X.F]) (hW:qs8 R)
  (hrun:Calls Tryz.prog 163 #[ptr X.F,ptr k1] u fun e w'=>q11 X d u R e w') :
  Calls Tryz.prog 212 #[ptr x1,ptr b5] u fun e w'=>q11 X d u R e w':=by
 have HRun:Hid (Calls Tryz.prog 163 #[ptr X.F,ptr k1] u fun e w'=>q11 X d u R e w'):=hrun
 have HW:Hid (qs8 R):=hW
 have c1:=(h1.at h).cell 0 rfl
 have z1:=(h1.at h).1
 have c5:=h5.cell 0 rfl
 clear h h1 h5 hrun hW
 go_enter Tryz.func212,Tryz.ntmps212
 go_wp2_with fail
 refine HRun.out.mono ?_
 rintro e w1 ⟨way,d1,rfl,hs1,hr1⟩
 have HF:Hid (q11 X d u R (.returned way) w1):=⟨way,d1,rfl,hs1,hr1⟩
 have hwy:=HW.out way d1 w1 hr1
 clear hs1 hr1 c1 z1 c5
 rcases hwy with rfl|⟨K,rfl⟩
 all_goals
  go_wp2_with fail
  go_ret
  exact HF.out
theorem NilTo.wayOk (q:DP):qs8 (NilTo q):=fun _ _ _ h=>.inl h.1
theorem NilTo.farOk (N:Nat) (q:DP):z47 N (NilTo q):=fun _ _ _ _ _ h _ _=>h
theorem z52 (X:RX) (d:MD) (x1 x2 x3 x4 k1:Nat) (q:DP) (u:World) (h:St X d u) (h1:Od X x1 #[bkV k1]) (hsc:q.sc=d.sc)
  (hrun:∀ w2,Sp X d u d w2->Calls Tryz.prog 163 #[ptr X.F,ptr k1] w2 fun e w'=>q11 X d w2 (NilTo q) e w') :
  Calls Tryz.prog 211 #[ptr X.F,ptr x1,ptr x2,ptr x3,ptr x4] u fun e w'=>q11 X d u (NilTo (q.ln d.line)) e w':=by
 have HS:Hid (St X d u):=h
 have HAtt:Hid (Calls Tryz.prog 53 #[ptr X.F,qt5 x1 u.heap.size] (u.alloc (.cells #[ptr X.F] 125)) fun e w'=>q11 X d (u.alloc (.cells #[ptr X.F] 125)) (LnTo X d.line (NilTo q)) e w'):=by
  have k0:Sp X d u d (u.alloc (.cells #[ptr X.F] 125)):=(Sp.refl h).alloc _
  refine za6 X d x1 u.heap.size (NilTo q) _ k0.s (z57 X d x1 u.heap.size (NilTo q) _ k0.s (NilTo.wayOk q) (NilTo.farOk _ q) (fun w2 k hsz=>?_))
  exact ze0 X d x1 u.heap.size k1 (NilTo q) w2 k.s h1 ((Bx.new h _ _).step k) (NilTo.wayOk q) (hrun w2 (k0.trans k))
 have HQ:Hid (q.sc=d.sc):=hsc
 have f10:u.cell? ⟨X.F,10,none⟩=some (.slice d.sa d.sc.length d.sp):=h.f.1.cell 10 rfl
 have lF:=h.f.1.1
 have hmf:=qf9
 clear h h1 hrun hsc
 go_enter Tryz.func211,Tryz.ntmps211
 go_wp2_with fail
 refine HAtt.out.mono ?_
 rintro e w2 ⟨way,d2,rfl,hs2,d4,w4,⟨rfl,e4⟩,k4,e2⟩
 obtain ⟨b5,hb5⟩:∃ b5,u.heap.size=b5:=⟨_,rfl⟩
 have H2:Hid (Sp X d u d2 w2/\d2.p=q.ln d.line/\Bx X d2 w2 b5 #[ptr X.F]):=by
  rw[<-hb5]
  exact ⟨Sp.first HS.out hs2,by rw[e2,e4],(Bx.new HS.out _ _).step hs2⟩
 rw[hb5]
 clear hs2 e4 k4 e2 hb5 HAtt f10 lF hmf
 go_upto_region 3 with fail
 go_cut [] from 10 (fun w=>∃ d3,Hid (Sp X d u d3 w/\d3.p=q.ln d.line))
 case first=>
  have hsc:d2.sc.length=d.sc.length:=by
   have h1:d2.sc=q.sc:=congrArg DP.sc H2.out.2.1
   rw[h1,HQ.out]
  have f10:w2.cell? ⟨X.F,10,none⟩=some (.slice d2.sa d.sc.length d2.sp):=by
   rw[<-hsc]
   exact H2.out.1.s.f.1.cell 10 rfl
  have fz:=H2.out.1.s.f.2
  have lF:=H2.out.1.s.f.1.1
  have hcap:=H2.out.1.s.scCap
  have hif:=qf7 d2.sa (d2.sp=0) (hcap.2.elim (fun h=>.inl h.1) .inr)
  have hcp:d.sc.length<=d2.sp:=by have:=hcap.1;omega
  have hSp:=Sp.cutS H2.out.1.s (m:=d.sc.length) (by omega)
  have HR:Hid (Sp X d u {d2 with sc:=d2.sc.take d.sc.length} (w2.setCell ⟨X.F,10,none⟩ (.slice d2.sa d.sc.length d2.sp)).drew/\({d2 with sc:=d2.sc.take d.sc.length}:MD).p=q.ln d.line):=⟨(H2.out.1.trans hSp).drew,by
   have:d2.sc.take d.sc.length=d2.sc:=by rw[<-hsc];exact List.take_length
   rw[this]
   exact H2.out.2.1⟩
  have S0:w2.cell? ⟨b5,0,none⟩=some (ptr X.F):=H2.out.2.2.cell 0 rfl
  have S1:((w2.setCell ⟨X.F,10,none⟩ (.slice d2.sa d.sc.length d2.sp)).drew).cell? ⟨b5,0,none⟩=some (ptr X.F):=(H2.out.2.2.step hSp.drew).cell 0 rfl
  clear hSp hsc hcap
  generalize d.sc.length=m at *
  refine wp_region_held_drew (S:=fun w'=>w'.cell? ⟨b5,0,none⟩=some (ptr X.F)) (by kernel_rfl) S0 (fun hHold=>?_)
  refine wpAnyH_take (i:=0) (oi:=⟨some 18,_,_,_,_,_⟩) (v:=?v1) rfl (by kernel_rfl) (by kernel_rfl) (by kernel_rfl) (fun _ _ _ h=>h) (Or.inl ⟨by rfl,?hy1⟩) (by assumption) ?rest1
  case hy1=>(intro wz hSw;(try dsimp only at hSw);go_simp<;>with_reducible rfl)
  try simp only[Act.put,zz1,zz2,zz3]
  refine wpAnyH_take (i:=1) (oi:=⟨some 19,_,_,_,_,_⟩) (v:=?v2) rfl (by kernel_rfl) (by kernel_rfl) (by kernel_rfl) (fun _ _ _ h=>h) (Or.inl ⟨by rfl,?hy2⟩) (by assumption) ?rest2
  case hy2=>(intro wz hSw;(try dsimp only at hSw);go_simp<;>with_reducible rfl)
  try simp only[Act.put,zz1,zz2,zz3]
  refine wpAnyH_take (i:=2) (oi:=⟨some 20,_,_,_,_,_⟩) (v:=?v3) rfl (by kernel_rfl) (by kernel_rfl) (by kernel_rfl) (fun _ _ _ h=>h) (Or.inl ⟨by rfl,?hy3⟩) (by assumption) ?rest3
  case hy3=>(intro wz hSw;(try dsimp only at hSw);go_simp<;>with_reducible rfl)
  try simp only[Act.put,zz1,zz2,zz3]
  refine wpAnyH_take (i:=3) (oi:=⟨some 21,_,_,_,_,_⟩) (v:=?v4) rfl (by kernel_rfl) (by kernel_rfl) (by kernel_rfl) (fun _ _ _ h=>h) (Or.inl ⟨by rfl,?hy4⟩) (by assumption) ?rest4
  case hy4=>(intro wz hSw;(try dsimp only at hSw);go_simp<;>with_reducible rfl)
  try simp only[Act.put,zz1,zz2,zz3]
  refine wpAnyH_take (i:=5) (oi:=⟨some 23,_,_,_,_,_⟩) (v:=?v5) rfl (by kernel_rfl) (by kernel_rfl) (by kernel_rfl) (fun _ _ _ h=>h) (Or.inl ⟨by rfl,?hy5⟩) (by assumption) ?rest5
  case hy5=>(intro wz hSw;(try dsimp only at hSw);go_simp<;>with_reducible rfl)
  try simp only[Act.put,zz1,zz2,zz3]
  refine wpAnyH_ready (rs:=[4]) (by kernel_rfl) (by simp) ?_
  refine AllReadyH.cons (o:=⟨some 22,_,_,_,_,_⟩) rfl (fun K hK=>?_) AllReadyH.nil
  go_simp
  refine hK.out _ _ S0 (fun hHeld=>?_)
  clear hK K hHold
  have hHold:=hHeld
  clear hHeld
  try simp only[Act.put,zz1,zz2,zz3]
  refine wpAnyH_take (i:=6) (oi:=⟨some 24,_,_,_,_,_⟩) (v:=?v6) rfl (by kernel_rfl) (by kernel_rfl) (by kernel_rfl) (fun _ _ _ h=>h) (Or.inl ⟨by rfl,?hy6⟩) (by assumption) ?rest6
  case hy6=>(intro wz hSw;(try dsimp only at hSw);go_simp<;>with_reducible rfl)
  try simp only[Act.put,zz1,zz2,zz3]
  refine wpAnyH_take (i:=7) (oi:=⟨some 25,_,_,_,_,_⟩) (v:=?v7) rfl (by kernel_rfl) (by kernel_rfl) (by kernel_rfl) (fun _ _ _ h=>h) (Or.inl ⟨by rfl,?hy7⟩) (by assumption) ?rest7
  case hy7=>(intro wz hSw;(try dsimp only at hSw);go_simp<;>with_reducible rfl)
  try simp only[Act.put,zz1,zz2,zz3]
  refine wpAnyH_take (i:=8) (oi:=⟨some 26,_,_,_,_,_⟩) (v:=?v8) rfl (by kernel_rfl) (by kernel_rfl) (by kernel_rfl) (fun _ _ _ h=>h) (Or.inl ⟨by rfl,?hy8⟩) (by assumption) ?rest8
  case hy8=>(intro wz hSw;(try dsimp only at hSw);go_simp<;>with_reducible rfl)
  try simp only[Act.put,zz1,zz2,zz3]
  refine wpAnyH_ready (rs:=[9]) (by kernel_rfl) (by simp) ?_
  refine AllReadyH.cons (o:=⟨none,_,_,_,_,_⟩) rfl (fun K hK=>?_) AllReadyH.nil
  go_simp
  refine hK.out _ _ S1 (fun hHeld=>?_)
  clear hK K hHold
  have hHold:=hHeld
  clear hHeld
  try simp only[Act.put,zz1,zz2,zz3]
  refine wpAnyH_done (by kernel_rfl) ?_ _
  go_wp2_with fail
  go_meet
  case rel=>exact ⟨_,HR⟩
 obtain ⟨d3,H3⟩:=hcut
 rename World=>w3
 clear H2
 go_wp2_with fail
 refine (qh0 _ _).mono ?_
 rintro e w4 ⟨rfl,rfl⟩
 go_wp2_with fail
 refine (qg2 _).mono ?_
 rintro e w4 ⟨rfl,rfl⟩
 have HF:Hid (q11 X d u (NilTo (q.ln d.line)) (.returned .nilIface) (w3.alloc (.cells #[.pointer none] 118))):=⟨_,d3,rfl,H3.out.1.alloc _,rfl,H3.out.2⟩
 go_wp2_with fail
 go_ret
 exact HF.out
end Go.Proofs.YtaimofjekgnieaaGreatDoor
namespace Go.Proofs.YtaimofjekgnieaaGreatDoor
open Go.RowKit
abbrev txN (v:VD):ByteArray:=bA (decB v.n)
theorem yc0 {X:RX} (hT:TabX X) (m:Nat):zr7 X txN (q42 m):=fun v hv w hw=>by
 obtain rfl:v=inD 1:=(List.mem_replicate.1 hv).2
 exact qv5 1 w ⟨by decide,by decide⟩ (hT w hw)
theorem z15 (m:Nat):(q43 txN (q42 m)).size<=2*m:=by
 have h1:(q43 txN (q42 m)).size=(Lib.join (((q42 m).map txN).map (·.data.toList)) [32]).length:=by simp[q43,ByteArray.size]
 rw[h1]
 cases m with
 |zero=>simp[Lib.join]
 |succ m=>
  have e:((q42 (m+1)).map txN).map (·.data.toList)=[49] :: List.replicate m [49]:=by
   rw[List.map_replicate,List.map_replicate,List.replicate_succ]
   rfl
  rw[e,Lib.join_length]
  have h2:∀ j:Nat,Lib.lens (List.replicate j [49])=j:=fun j=>by simp[Lib.lens]
  have h3:=h2 (m+1)
  rw[List.replicate_succ] at h3
  rw[h3]
  simp
  omega
structure PI where
 r1:Nat
 r2:Nat
 p1:Nat
 p2:Nat
 pc:Nat
 l1:Nat
 l2:Nat
 b1:Nat
 o:Nat
 la:Option Addr
 lc:Nat
 Bs:Nat->Nat
 n1:Nat
 n2:Nat
structure PI.ok (P:PI) (X:RX) (bb:Nat) (nd:Value) (i n:Nat):Prop where
 r1:Od X P.r1 #[qh6 P.p1 P.p2]
 r2:Od X P.r2 #[ptr bb]
 p1:Od X P.p1 #[litV P.pc]
 pc:Od X P.pc (vA prD)
 p2:Od X P.p2 #[qg5 P.l1 P.l2 P.b1]
 l1:Od X P.l1 #[qt7 P.o]
 o:Od X P.o #[.slice P.la 0 P.lc]
 ls:qy4 X P.la 0 P.Bs (fun _=>inD 1)
 l2:Od X P.l2 #[allV P.n1 P.n2]
 ne:Nest X bb nd i n P.n1 P.n2
theorem z66 (P:PI) (I:FI) (X:RX) (d:MD) (bb:Nat) (nd:Value) (i n k Q C B cc:Nat) (u:World) (hP:P.ok X bb nd i n) (hI:I.ok X k) (hT:TabX X) (hk:1<=k) (kb:Od X bb #[ptr X.M,nd]) (hdep:X.fl<X.dp) (h:St X d u) (hH:Has1 I X d u i Q C B cc) (hm:n*k<=250) (hr:d.recs.length+n*3<3000) (hh:d.held.length+n<=500) (ht:d.ti+n*2<X.tk) :
  Calls Tryz.prog 192 #[ptr X.F,ptr P.r1,ptr P.r2] u fun e w'=>ListTo X d u [] ((d.p.plus (I.many n) (n*2+1)).rcd ⟨6,0,X.fn,d.line,q43 txN (q42 (n*k))⟩) e w':=by
 have hpos:1<=n*k:=Nat.mul_pos hP.ne.pos hk
 refine qk9 X d P.r1 P.r2 P.p1 P.p2 bb nd prD (q42 (n*k)) [] (d.p.plus (I.many n) (n*2)) _ u h hP.r1 hP.r2 kb (qh7 X d P.p1 P.p2 P.pc P.l1 P.l2 P.b1 prD (q42 (n*k)) (d.p.plus (I.many n) (n*2)) u h hP.p1 hP.pc hP.p2 rfl (fun d2 w2 k2 e2=>?_) (by omega)) (fun g c d1 w1 k1 e1 hb hc=>?_)
 ·have hv2:d2.vs=d.vs:=congrArg DP.vs e2
  have hc2:d2.cls=d.cls:=congrArg DP.cls e2
  have hh2:d2.held=d.held++[prD]:=congrArg DP.held e2
  have hr2:d2.recs=d.recs:=congrArg DP.recs e2
  have ht2:d2.ti=d.ti:=congrArg DP.ti e2
  have hl2:d2.held.length=d.held.length+1:=by rw[hh2];simp
  have hz:=qd5 X d2 P.l1 P.l2 P.b1 P.o P.n1 P.n2 [] (q42 (n*k)) (d2.p.plus (I.many n) (n*2)) w2 k2.s hP.l1 hP.l2 rfl ?_ (fun d3 w3 k3 e3=>?_) (by simp;omega) (by simp;omega)
  ·rw[e2] at hz
   exact hz
  ·have:=q81 X d2 P.o P.la 0 P.lc P.Bs (fun _=>inD 1) w2 k2.s hP.o.1 hP.o.2 hP.ls (by omega) (by omega) (by omega)
   exact this.mono (fun e w' he=>qd1 he)
  ·rw[DP.hold_nil] at e3
   have:=qw7 I X bb nd i k Q C B cc hI hk kb hdep hP.ne d3 w3 k3.s ((hH.step k2 hv2 hc2).step k3 (congrArg DP.vs e3) (congrArg DP.cls e3)) hm (by have e:d3.recs=d2.recs:=congrArg DP.recs e3;rw[e,hr2];omega) (by have e:d3.held=d2.held:=congrArg DP.held e3;rw[e];omega) (by have e:d3.ti=d2.ti:=congrArg DP.ti e3;omega)
   rw[e3] at this
   rw[DP.hold_nil]
   exact this
 ·have hr1:d1.recs=d.recs++I.many n:=congrArg DP.recs e1
  have ht1:d1.ti=d.ti+n*2:=congrArg DP.ti e1
  have hl1:d1.line=d.line:=congrArg DP.line e1
  have hml:=I.many_len n
  have:=qg0 X d1 g c (q42 (n*k)).length (q42 (n*k)) txN w1 k1.s (by omega) (yc0 hT _) hb rfl (by simp;omega) (by simp;omega) (by have:=z15 (n*k);omega) (by rw[hr1,List.length_append,hml];omega)
  rw[e1,hl1,DP.tick_plus,DP.plus_plus,List.append_nil] at this
  exact this
structure DI where
 k1:Nat
 ka:Nat
 kc:Nat
 s1:Nat
 s2:Nat
 s3:Nat
 A:Array Value
 L:Int
 z1:Nat
 r1:Nat
 r2:Nat
structure DI.ok (D:DI) (X:RX) (bb:Nat):Prop where
 k1:Od X D.k1 #[.slice (some ⟨D.ka,0,none⟩) 1 D.kc]
 ka:Oc X D.ka (stV D.s1 D.s2 D.s3)
 s1:Od X D.s1 #[ptr bb]
 s2:Od X D.s2 D.A
 A:D.A[1]?=some (.int .i64 D.L)
 s3:Od X D.s3 #[doV D.z1]
 z1:Od X D.z1 #[allV D.r1 D.r2]
theorem qs3 (D:DI) (X:RX) (d:MD) (bb:Nat) (nd:Value) (l:List VD) (q:DP) (u:World) (hD:D.ok X bb) (kb:Od X bb #[ptr X.M,nd]) (h:St X d u) (hq:q.sc=d.sc) (hl:d.recs.length<4000) (ht:d.ti<X.tk)
  (hall:∀ d3 w3,Sp X d u d3 w3->d3.p=d.p.begun X.fn D.L->Calls Tryz.prog 192 #[ptr X.F,ptr D.r1,ptr D.r2] w3 fun e w'=>ListTo X d3 w3 l q e w') :
  Calls Tryz.prog 163 #[ptr X.F,ptr D.k1] u fun e w'=>q11 X d u (NilTo (q.ln d.line)) e w':=by
 refine (zc4 X d D.k1 D.ka D.kc D.s1 D.s2 D.s3 (LnTo X d.line (NilTo q)) u h hD.k1 hD.ka ?_ (zo2 X d D.s1 D.s2 D.s3 bb D.z1 nd D.A D.L (NilTo q) u h hD.s1 kb hD.s2 hD.A hD.s3 hl ht (fun d3 w3 k3 e3=>y80 X d3 D.z1 D.r1 D.r2 l q w3 k3.s hD.z1 (hall d3 w3 k3 e3)))).mono ?_
 ·rintro way d' w' ⟨d4,w4,⟨rfl,e4⟩,k4,e'⟩
  refine ⟨rfl,?_⟩
  have h1:d'.sc=d4.sc:=congrArg DP.sc e'
  have h2:d4.sc=q.sc:=congrArg DP.sc e4
  rw[h1,h2,hq]
  exact Nat.le_refl _
 ·rintro e w' ⟨way,d',rfl,hs,rfl,d1,w1,⟨d4,w4,⟨_,e4⟩,k4,e1⟩,k1,e'⟩
  refine ⟨_,d',rfl,hs,rfl,?_⟩
  rw[e',e1,e4]
  show DP.cutS (q.ln d.line) d.sc.length=_
  have:(q.ln d.line).sc.take d.sc.length=(q.ln d.line).sc:=by
   show q.sc.take d.sc.length=q.sc
   rw[hq]
   exact List.take_length
  simp only[DP.cutS,this]
structure MI where
 bb:Nat
 nd:Value
 k1:Nat
 ka:Nat
 kc:Nat
 s1:Nat
 s2:Nat
 s3:Nat
 A1:Array Value
 L1:Int
 y1:Nat
 y2:Nat
 Ay:Array Value
 rb:Nat
 ro:Nat
 rc:Nat
 i:Nat
 p:Nat
 b1:Nat
 b2:Nat
 b3:Nat
 ua:Option Addr
 uc:Nat
 t1:Nat
 t2:Nat
 t3:Nat
 A2:Array Value
 L2:Int
 x1:Nat
 x2:Nat
 x3:Nat
 x4:Nat
 D:DI
 P:PI
structure MI.ok (M:MI) (I:FI) (X:RX) (n:Nat):Prop where
 bb:Od X M.bb #[ptr X.M,M.nd]
 k1:Od X M.k1 #[.slice (some ⟨M.ka,0,none⟩) 2 M.kc]
 ka:Oo X M.ka 0 (stV M.s1 M.s2 M.s3)
 kb:Oo X M.ka 1 (stV M.t1 M.t2 M.t3)
 s1:Od X M.s1 #[ptr M.bb]
 s2:Od X M.s2 M.A1
 A1:M.A1[1]?=some (.int .i64 M.L1)
 s3:Od X M.s3 #[letV M.y1 M.y2]
 y1:Od X M.y1 M.Ay
 Ay:M.Ay[6]?=some (.slice (some ⟨M.rb,M.ro,none⟩) 1 M.rc)
 rb:Oo X M.rb M.ro (.int .i64 (M.i:Int))
 i:M.i<X.nv
 y2:Od X M.y2 #[forV M.p]
 p:Od X M.p #[clV M.b1 M.b2 M.b3]
 b1:Od X M.b1 #[ptr X.M]
 b2:Od X M.b2 #[.slice M.ua 0 M.uc]
 b3:Od X M.b3 #[.int .i64 (I.fn:Int)]
 t1:Od X M.t1 #[ptr M.bb]
 t2:Od X M.t2 M.A2
 A2:M.A2[1]?=some (.int .i64 M.L2)
 t3:Od X M.t3 #[tryV M.x1 M.x2 M.x3 M.x4]
 x1:Od X M.x1 #[bkV M.D.k1]
 D:M.D.ok X M.bb
 P:M.P.ok X M.bb M.nd M.i n
 r1:M.D.r1=M.P.r1
 r2:M.D.r2=M.P.r2
def EndR (recs:List RcD) (m:Nat) (way:Value) (d':MD) (_:World):Prop:=way=.nilIface/\d'.recs=recs/\m<=d'.sc.length
def LetR (I:FI) (X:RX) (i:Nat) (p:DP) (way:Value) (d':MD) (w':World):Prop:=way=.nilIface/\∃ Q C B c,d'.p=(((p.paid 1).clos (.slice (some ⟨B,0,none⟩) 1 c)).var i (ptr Q)).scope (i:Int)/\Bx X d' w' Q (vA fnD)/\FnHas X d' w' (I.fn:Int) C B
theorem ql2 (M:MI) (I:FI) (X:RX) (d:MD) (n:Nat) (u:World) (hM:M.ok I X n) (h:St X d u) (hl:d.recs.length<4000) (ht:d.ti<X.tk) (hc:d.cls=.slice none 0 0) (hs:d.sin+1<=X.ce) (hm:d.mad<=100000) (hsc:d.sc.length<=900) :
  Calls Tryz.prog 140 #[ptr X.F,ptr M.s1,ptr M.s2,ptr M.s3] u fun e w'=>q11 X d u (LnTo X d.line (LetR I X M.i (d.p.begun X.fn M.L1))) e w':=by
 refine zf0 X d M.s1 M.s2 M.s3 M.bb M.y1 M.y2 M.nd M.A1 M.L1 _ u h hM.s1 hM.bb hM.s2 hM.A1 hM.s3 hl ht (fun d3 w3 k3 e3=>?_)
 have hc3:d3.cls=d.cls:=congrArg DP.cls e3
 have hs3:d3.sin=d.sin:=congrArg DP.sin e3
 have hm3:d3.mad=d.mad:=congrArg DP.mad e3
 have hsc3:d3.sc=d.sc:=congrArg DP.sc e3
 refine (zy0 X d3 M.y1 M.y2 M.p M.b1 M.b2 M.b3 M.rb M.ro M.rc M.i M.Ay M.ua M.uc (I.fn:Int) w3 k3.s hM.y1 hM.Ay hM.rb hM.i hM.y2 hM.p hM.b1 hM.b2 hM.b3 (by rw[hc3];exact hc) (by omega) (by omega) (by rw[hsc3];exact hsc)).mono ?_
 rintro e w' ⟨way,d',rfl,hs',hway,Q,C,B,c,e',hb,hf⟩
 exact ⟨way,d',rfl,hs',hway,Q,C,B,c,by rw[e',e3],hb,hf⟩
theorem LetR.ln {I:FI} {X:RX} {i:Nat} {p:DP} {z:Int} {way:Value} {d':MD} {w':World} (h:LnTo X z (LetR I X i p) way d' w') (hi:i<p.vs.length):way=.nilIface/\∃ Q C B c,Has1 I X d' w' i Q C B c/\d'.p=((((p.paid 1).clos (.slice (some ⟨B,0,none⟩) 1 c)).var i (ptr Q)).scope (i:Int)).ln z:=by
 obtain ⟨d4,w4,⟨hw,Q,C,B,c,e4,hb,hf⟩,k,e'⟩:=h
 rw[e4] at e'
 refine ⟨hw,Q,C,B,c,⟨?_,hb.step k,hf.step k,congrArg DP.cls e'⟩,e'⟩
 have:d'.vs=p.vs.set i (ptr Q):=congrArg DP.vs e'
 rw[this,List.getElem?_set_self hi]
theorem z82 (M:MI) (I:FI) (X:RX) (d:MD) (n k:Nat) (u:World) (hM:M.ok I X n) (hI:I.ok X k) (hT:TabX X) (h:St X d u) (hk:1<=k) (hdep:X.fl<X.dp) (hm:n*k<=250) (hl:d.recs.length+n*3<2000) (hh:d.held.length+n<=400) (ht:d.ti+n*2+5<X.tk) (hc:d.cls=.slice none 0 0) (hs:d.sin+1<=X.ce) (hma:d.mad<=100000) (hsc:d.sc.length<=900) :
  Calls Tryz.prog 163 #[ptr X.F,ptr M.k1] u fun e w'=>q11 X d u (EndR (d.recs++([⟨1,0,X.fn,M.L1,⟨#[]⟩⟩,⟨1,0,X.fn,M.L2,⟨#[]⟩⟩,⟨1,0,X.fn,M.D.L,⟨#[]⟩⟩]++I.many n++[⟨6,0,X.fn,M.D.L,q43 txN (q42 (n*k))⟩])) d.sc.length) e w':=by
 have hvl:M.i<(d.p.begun X.fn M.L1).vs.length:=by show M.i<d.vs.length;rw[h.nv];exact hM.i
 refine (ql8 X d M.k1 M.ka M.kc M.s1 M.s2 M.s3 M.t1 M.t2 M.t3 (LnTo X d.line (LetR I X M.i (d.p.begun X.fn M.L1))) (EndR (d.recs++([⟨1,0,X.fn,M.L1,⟨#[]⟩⟩,⟨1,0,X.fn,M.L2,⟨#[]⟩⟩,⟨1,0,X.fn,M.D.L,⟨#[]⟩⟩]++I.many n++[⟨6,0,X.fn,M.D.L,q43 txN (q42 (n*k))⟩])) d.sc.length) u h hM.k1 hM.ka hM.kb ?_ (fun way d' w' hz=>⟨hz.1,hz.2.2⟩) (ql2 M I X d n u hM h (by omega) (by omega) hc hs hma hsc) (fun d1 w1 k1 hr1=>?_)).mono ?_
 ·intro way d' w' hz
  obtain ⟨hw,Q,C,B,c,_,e'⟩:=LetR.ln hz hvl
  refine ⟨hw,?_⟩
  have:d'.sc=d.sc++[(M.i:Int)]:=congrArg DP.sc e'
  rw[this]
  simp
 ·obtain ⟨_,Q,C,B,c,hH,e1⟩:=LetR.ln hr1 hvl
  have hr1':d1.recs=d.recs++[⟨1,0,X.fn,M.L1,⟨#[]⟩⟩]:=congrArg DP.recs e1
  have hh1:d1.held=d.held:=congrArg DP.held e1
  have ht1:d1.ti=d.ti+1:=congrArg DP.ti e1
  have hs1:d1.sc=d.sc++[(M.i:Int)]:=congrArg DP.sc e1
  refine (qo4 X d1 M.t1 M.t2 M.t3 M.bb M.x1 M.x2 M.x3 M.x4 M.nd M.A2 M.L2 (NilTo ((((((d1.p.begun X.fn M.L2).begun X.fn M.D.L).plus (I.many n) (n*2+1)).rcd ⟨6,0,X.fn,M.D.L,q43 txN (q42 (n*k))⟩).ln M.L2).ln M.L2)) w1 k1.s hM.t1 hM.bb hM.t2 hM.A2 hM.t3 (by rw[hr1'];simp;omega) (by omega) (fun d3 w3 k3 e3=>?_)).mono ?_
  ·have hr3:d3.recs=d1.recs++[⟨1,0,X.fn,M.L2,⟨#[]⟩⟩]:=congrArg DP.recs e3
   have hh3:d3.held=d1.held:=congrArg DP.held e3
   have ht3:d3.ti=d1.ti+1:=congrArg DP.ti e3
   have hl3:d3.line=M.L2:=congrArg DP.line e3
   have hs3:d3.sc=d1.sc:=congrArg DP.sc e3
   have hz:=z52 X d3 M.x1 M.x2 M.x3 M.x4 M.D.k1 (((((d1.p.begun X.fn M.L2).begun X.fn M.D.L).plus (I.many n) (n*2+1)).rcd ⟨6,0,X.fn,M.D.L,q43 txN (q42 (n*k))⟩).ln M.L2) w3 k3.s hM.x1 (by rw[hs3];rfl) (fun w4 k4=>?_)
   ·rw[hl3] at hz
    exact hz
   ·have hw:=qs3 M.D X d3 M.bb M.nd [] ((((d1.p.begun X.fn M.L2).begun X.fn M.D.L).plus (I.many n) (n*2+1)).rcd ⟨6,0,X.fn,M.D.L,q43 txN (q42 (n*k))⟩) w4 hM.D hM.bb k4.s (by rw[hs3];rfl) (by rw[hr3,hr1'];simp;omega) (by omega) (fun d5 w5 k5 e5=>?_)
    ·rw[hl3] at hw
     exact hw
    ·have hr5:d5.recs=d3.recs++[⟨1,0,X.fn,M.D.L,⟨#[]⟩⟩]:=congrArg DP.recs e5
     have hh5:d5.held=d3.held:=congrArg DP.held e5
     have ht5:d5.ti=d3.ti+1:=congrArg DP.ti e5
     have hl5:d5.line=M.D.L:=congrArg DP.line e5
     have hH5:=((hH.step k3 (congrArg DP.vs e3) (congrArg DP.cls e3)).step k4 rfl rfl).step k5 (congrArg DP.vs e5) (congrArg DP.cls e5)
     have hp:=z66 M.P I X d5 M.bb M.nd M.i n k Q C B c w5 hM.P hI hT hk hM.bb hdep k5.s hH5 hm (by rw[hr5,hr3,hr1'];simp;omega) (by rw[hh5,hh3,hh1];omega) (by omega)
     rw[hl5,e5,e3] at hp
     rw[hM.r1,hM.r2]
     exact hp
  ·rintro e w' ⟨way,d',rfl,hs',d4,w4,⟨rfl,e4⟩,k4,e'⟩
   refine ⟨_,d',rfl,hs',rfl,?_,?_⟩
   ·have h1:d'.recs=d4.recs:=congrArg DP.recs e'
    have h2:d4.recs=((d1.recs++[⟨1,0,X.fn,M.L2,⟨#[]⟩⟩])++[⟨1,0,X.fn,M.D.L,⟨#[]⟩⟩]++I.many n)++[⟨6,0,X.fn,M.D.L,q43 txN (q42 (n*k))⟩]:=congrArg DP.recs e4
    rw[h1,h2,hr1']
    simp
   ·have h1:d'.sc=d4.sc:=congrArg DP.sc e'
    have h2:d4.sc=d1.sc:=congrArg DP.sc e4
    rw[h1,h2,hs1]
    simp
 ·rintro e w' ⟨way,d',rfl,hs',rfl,d1,w1,⟨_,hr,hsl⟩,k1,e'⟩
  refine ⟨_,d',rfl,hs',rfl,?_,?_⟩
  ·have h1:d'.recs=d1.recs:=congrArg DP.recs e'
   rw[h1,hr]
  ·have h1:d'.sc=d1.sc.take d.sc.length:=congrArg DP.sc e'
   rw[h1,List.length_take]
   omega
end Go.Proofs.YtaimofjekgnieaaGreatDoor
namespace Go.Proofs.YtaimofjekgnieaaGreatDoor
open Go.RowKit
attribute [local go_sem] q00
attribute [local go_sem ↓] Go.wp_at_zero Go.wp_at_succ
abbrev thC (E:Nat):List PanicEntry:=[{v:=.iface 118 (ptr E),recovered:=false}]
def PanE (X:RX) (d:MD) (u:World) (R:Nat->MD->World->Prop) (e:Ending) (w':World):Prop:=∃ E d',e=.panicked (thC E)/\Sp X d u d' w'/\R E d' w'
theorem qw9 (X:RX) (d:MD) (l1 l2 b1 o r1 r2:Nat) (vs:List VD) (R:Nat->MD->World->Prop) (u:World) (h:St X d u) (k1:Od X l1 #[qt7 o]) (k2:Od X l2 #[allV r1 r2])
  (hO:Calls Tryz.prog 246 #[ptr X.F,ptr o] u fun e w'=>qa5 X d u vs d.p e w')
  (hR:∀ d2 w2,Sp X d u d2 w2->d2.p=d.p.hold vs->Calls Tryz.prog 192 #[ptr X.F,ptr r1,ptr r2] w2 fun e w'=>PanE X d2 w2 R e w') (hlen:d.held.length+vs.length<=1000) :
  Calls Tryz.prog 209 #[ptr X.F,ptr l1,ptr l2,ptr b1] u fun e w'=>PanE X d u R e w':=by
 have HS:Hid (St X d u):=h
 have HK2:Hid (Od X l2 #[allV r1 r2]):=k2
 have HO:Hid (Calls Tryz.prog 246 #[ptr X.F,ptr o] u fun e w'=>qa5 X d u vs d.p e w'):=hO
 have HR:Hid (∀ d2 w2,Sp X d u d2 w2->d2.p=d.p.hold vs->Calls Tryz.prog 192 #[ptr X.F,ptr r1,ptr r2] w2 fun e w'=>PanE X d2 w2 R e w'):=hR
 have b1':=(k1.at h).cell 0 rfl
 clear h k1 k2 hO hR
 go_enter Tryz.func209,Tryz.ntmps209
 go_wp2_with fail
 refine HO.out.mono ?_
 rintro e w1 ⟨g1,c1,d1,rfl,ho1,hs1,e1,hg1⟩
 have HV:Hid (OwV u.heap.size w1 g1 c1 vs/\¬stB X d1 g1):=⟨ho1,hg1⟩
 have H1:Hid (Sp X d u d1 w1/\d1.p=d.p):=⟨hs1,e1⟩
 clear ho1 hg1 hs1 e1 b1'
 have f0:=H1.out.1.s.f.1.cell 0 rfl
 have hl1:d1.held.length=d.held.length:=by have:=congrArg DP.held H1.out.2;exact congrArg List.length this
 go_wp2_with fail
 refine (q96 X d1 ⟨g1,0,none⟩ vs c1 _ H1.out.1.s (by omega) HV.out.1.at).mono ?_
 rintro e w2 ⟨rfl,d2,hs2,e2⟩
 have HV2:Hid (OwV u.heap.size w2 g1 c1 vs/\¬stB X d2 g1):=q48 HV.out.1 HV.out.2 hs2
 have H2:Hid (Sp X d u d2 w2/\d2.p=d.p.hold vs):=⟨H1.out.1.trans hs2,by rw[e2,H1.out.2]⟩
 clear hs2 e2 HV H1 f0 hl1
 have b2:=(HK2.out.at H2.out.1.s).cell 0 rfl
 go_wp2_with fail
 refine (HR.out d2 _ H2.out.1 H2.out.2).mono ?_
 rintro e w3 ⟨E3,d3,rfl,hs3,hr3⟩
 have HF:Hid (PanE X d u R (.panicked (thC E3)) w3):=⟨E3,d3,rfl,H2.out.1.trans hs3,hr3⟩
 clear hs3 hr3 HV2 H2 b2
 go_wp2_with fail
 simp[bodyPost]
 exact HF.out
theorem zg8 (X:RX) (d:MD) (l1 l2 b1 o:Nat) (vs more:List VD) (q:DP) (bb:Nat) (nd:Value) (R:Nat->MD->World->Prop) (u:World) (h:St X d u) (k1:Od X l1 #[qt7 o]) (k2:Od X l2 #[.func (.func 194) #[] #[]]) (hq:q.held=d.held)
  (hO:Calls Tryz.prog 246 #[ptr X.F,ptr o] u fun e w'=>qa5 X d u vs d.p e w')
  (hR:∀ d2 w2,Sp X d u d2 w2->d2.p=d.p.hold vs->Calls Tryz.prog 194 #[ptr X.F] w2 fun e w'=>ListTo X d2 w2 more (q.hold vs) e w') (hlen:d.held.length+vs.length<=1000) (hm:250<vs.length+more.length) (hm2:vs.length+more.length<=10000) (k3:Od X b1 #[ptr bb]) (kb:Od X bb #[ptr X.M,nd])
  (hF:∀ d3 w3,Sp X d u d3 w3->d3.p=q->Calls Tryz.prog 210 #[ptr X.M,.int .i64 4] w3 fun e w'=>∃ E d',e=.returned (ptr E)/\Sp X d3 w3 d' w'/\R E d' w') :
  Calls Tryz.prog 209 #[ptr X.F,ptr l1,ptr l2,ptr b1] u fun e w'=>PanE X d u R e w':=by
 have HS:Hid (St X d u):=h
 have HFa:Hid (∀ d3 w3,Sp X d u d3 w3->d3.p=q->Calls Tryz.prog 210 #[ptr X.M,.int .i64 4] w3 fun e w'=>∃ E d',e=.returned (ptr E)/\Sp X d3 w3 d' w'/\R E d' w'):=hF
 have HK3:Hid (Od X b1 #[ptr bb]/\Od X bb #[ptr X.M,nd]):=⟨k3,kb⟩
 have HK2:Hid (Od X l2 #[.func (.func 194) #[] #[]]):=k2
 have HO:Hid (Calls Tryz.prog 246 #[ptr X.F,ptr o] u fun e w'=>qa5 X d u vs d.p e w'):=hO
 have HR:Hid (∀ d2 w2,Sp X d u d2 w2->d2.p=d.p.hold vs->Calls Tryz.prog 194 #[ptr X.F] w2 fun e w'=>ListTo X d2 w2 more (q.hold vs) e w'):=hR
 have HQ:Hid (q.held=d.held):=hq
 have b1':=(k1.at h).cell 0 rfl
 clear h k1 k2 hO hR hq hF k3 kb
 go_enter Tryz.func209,Tryz.ntmps209
 go_wp2_with fail
 refine HO.out.mono ?_
 rintro e w1 ⟨g1,c1,d1,rfl,ho1,hs1,e1,hg1⟩
 have HV:Hid (OwV u.heap.size w1 g1 c1 vs/\¬stB X d1 g1):=⟨ho1,hg1⟩
 have H1:Hid (Sp X d u d1 w1/\d1.p=d.p):=⟨hs1,e1⟩
 clear ho1 hg1 hs1 e1 b1'
 have f0:=H1.out.1.s.f.1.cell 0 rfl
 have hl1:d1.held.length=d.held.length:=by have:=congrArg DP.held H1.out.2;exact congrArg List.length this
 go_wp2_with fail
 refine (q96 X d1 ⟨g1,0,none⟩ vs c1 _ H1.out.1.s (by omega) HV.out.1.at).mono ?_
 rintro e w2 ⟨rfl,d2,hs2,e2⟩
 have HV2:Hid (OwV u.heap.size w2 g1 c1 vs/\¬stB X d2 g1):=q48 HV.out.1 HV.out.2 hs2
 have H2:Hid (Sp X d u d2 w2/\d2.p=d.p.hold vs):=⟨H1.out.1.trans hs2,by rw[e2,H1.out.2]⟩
 clear hs2 e2 HV H1 f0 hl1
 have b2:=(HK2.out.at H2.out.1.s).cell 0 rfl
 go_wp2_with fail
 refine (HR.out d2 _ H2.out.1 H2.out.2).mono ?_
 rintro e w3 ⟨a3,c3,d3,rfl,hn3,hL3,hs3,e3,hb3⟩
 have HV3:Hid (OwV u.heap.size w3 g1 c1 vs/\¬stB X d3 g1):=q48 HV2.out.1 HV2.out.2 hs3
 have HL3:Hid (Lst w3 a3 more/\(more=[]->a3=none/\c3=0)/\∀ ad,a3=some ad->more≠[]->¬stB X d3 ad.block):=⟨hL3,hn3,hb3⟩
 have H3:Hid (Sp X d u d3 w3/\d3.p=q.hold vs):=⟨H2.out.1.trans hs3,e3⟩
 clear hn3 hL3 hs3 e3 hb3 HV2 H2 b2
 have f0:=H3.out.1.s.f.1.cell 0 rfl
 have hl3:d3.held.length=d.held.length+vs.length:=by
  have h1:d3.held=q.held++vs:=congrArg DP.held H3.out.2
  rw[h1,HQ.out,List.length_append]
 go_wp2_with fail
 refine (q47 X d3 vs.length _ H3.out.1.s (by omega) (by omega)).mono ?_
 rintro e w4 ⟨rfl,d4,hs4,e4⟩
 have HV4:Hid (OwV u.heap.size w4 g1 c1 vs/\¬stB X d4 g1):=q48 HV3.out.1 HV3.out.2 hs4
 have HL4:Hid (Lst w4 a3 more/\∀ ad,a3=some ad->more≠[]->¬stB X d4 ad.block):=HL3.out.1.step HL3.out.2.2 hs4
 have H4:Hid (Sp X d u d4 w4/\d4.p=q):=⟨H3.out.1.trans hs4,by
  rw[e4,H3.out.2]
  exact DP.hold_cut' q vs (by rw[<-show d3.held=q.held++vs from congrArg DP.held H3.out.2])⟩
 clear hs4 e4 HV3 H3 f0 hl3
 have b30:=(HK3.out.1.at H4.out.1.s).cell 0 rfl
 have b31:=(HK3.out.2.at H4.out.1.s).cell 0 rfl
 have b3l:=(HK3.out.1.at H4.out.1.s).1
 have b3m:=(HK3.out.2.at H4.out.1.s).1
 clear HV4 HL4 HL3
 obtain ⟨n,hn⟩:∃ n,vs.length=n:=⟨_,rfl⟩
 obtain ⟨m,hm'⟩:∃ m,more.length=m:=⟨_,rfl⟩
 rw[hn,hm'] at hm hm2
 rw[hn,hm']
 have hmI:(250:Int)<(n:Int)+(m:Int):=by omega
 clear hn hm' hlen
 go_wp2_with fail
 refine (HFa.out d4 _ H4.out.1 H4.out.2).mono ?_
 rintro e w5 ⟨E5,d5,rfl,hs5,hr5⟩
 have HF:Hid (PanE X d u R (.panicked (thC E5)) w5):=⟨E5,d5,rfl,H4.out.1.trans hs5,hr5⟩
 clear hs5 hr5 H4 b30 b31 b3l b3m
 go_wp2_with fail
 simp[bodyPost]
 exact HF.out
theorem zf5 (X:RX) (d:MD) (p1 p2 pc i Q l1 l2 b1:Nat) (cv:VD) (R:Nat->MD->World->Prop) (u:World) (h:St X d u) (k1:Od X p1 #[varV pc]) (kc:Od X pc #[.int .i64 (i:Int)]) (hv:d.vs[i]?=some (ptr Q)) (hQ:Bx X d u Q (vA cv)) (k2:Od X p2 #[qg5 l1 l2 b1])
  (hL:∀ d2 w2,Sp X d u d2 w2->d2.p=d.p.hold [cv]->Calls Tryz.prog 209 #[ptr X.F,ptr l1,ptr l2,ptr b1] w2 fun e w'=>PanE X d2 w2 R e w') (hlen:d.held.length<=900) :
  Calls Tryz.prog 241 #[ptr X.F,ptr p1,ptr p2] u fun e w'=>PanE X d u R e w':=by
 have HS:Hid (St X d u):=h
 have HK2:Hid (Od X p2 #[qg5 l1 l2 b1]):=k2
 have HKC:Hid (Od X pc #[.int .i64 (i:Int)]):=kc
 have HV:Hid (d.vs[i]?=some (ptr Q)):=hv
 have HQ:Hid (Bx X d u Q (vA cv)):=hQ
 have HL:Hid (∀ d2 w2,Sp X d u d2 w2->d2.p=d.p.hold [cv]->Calls Tryz.prog 209 #[ptr X.F,ptr l1,ptr l2,ptr b1] w2 fun e w'=>PanE X d2 w2 R e w'):=hL
 have hb:=(k1.at h)
 have b1':=hb.cell 0 rfl
 have hbl:=hb.1
 clear h k1 k2 kc hb hv hQ hL
 go_enter Tryz.func241,Tryz.ntmps241
 go_wp2_with fail
 have HSa:Hid (St X d (u.alloc (.cells z5 113))):=HS.out.alloc _
 refine (qd0 X d pc Q i cv _ HSa.out (HKC.out.at HSa.out) HV.out (HQ.out.1.alloc _)).mono ?_
 rintro e w1 ⟨rfl,hb1⟩
 have H1:Hid (Sp X d u d w1):=((Sp.refl HS.out).alloc _).call hb1
 have HR1:Hid (BxO X d w1 u.heap.size z5):=(BxO.new HS.out z5 _).step (Sp.below (HS.out.alloc _) hb1)
 clear hb1 b1' hbl HSa
 go_wp2_with fail
 obtain ⟨w2,hw2⟩:∃ w2,w1.alloc (.cells (vA cv) 113)=w2:=⟨_,rfl⟩
 obtain ⟨C,hC0⟩:∃ C,w1.heap.size=C:=⟨_,rfl⟩
 have H2:Hid (Sp X d u d w2):=by rw[<-hw2];exact H1.out.alloc _
 have HC:Hid (Bx X d w2 C (vA cv)):=by rw[<-hw2,<-hC0];exact Bx.new H1.out.s _ _
 have HR2:Hid (BxO X d w2 u.heap.size z5):=by rw[<-hw2];exact HR1.out.alloc _
 rw[hw2,hC0]
 clear hw2 hC0 H1 HR1
 have f0:=H2.out.s.f.1.cell 0 rfl
 have hF:=H2.out.s.f.1.1
 have hC:=HC.out.1.1
 have c0:=HC.out.cell 0 rfl
 have c1:=HC.out.cell 1 rfl
 have c2:=HC.out.cell 2 rfl
 have c3:=HC.out.cell 3 rfl
 have c4:=HC.out.cell 4 rfl
 have HG:Hid (Has (w2.alloc (.cells (vA cv) 113)).drew w2.heap.size (vA cv)):=Has.drew (Has.new _ _ _)
 have HS2:Hid (St X d (w2.alloc (.cells (vA cv) 113)).drew):=(H2.out.s.alloc _).drew
 go_region_with (go_at_call 189;refine (qc4 X d _ cv _ HS2.out (by omega) HG.out).mono ?_;rintro e w3 ⟨rfl,ht3⟩)
 all_goals
  obtain ⟨d3,hs3,e3⟩:=ht3
  have hsp:Sp X d w2 d3 w3:=((Sp.refl H2.out.s).alloc _).drew.trans hs3
  have H3:Hid (Sp X d u d3 w3/\d3.p=d.p.hold [cv]):=⟨H2.out.trans hsp,e3⟩
  have HC3:Hid (Bx X d3 w3 C (vA cv)):=HC.out.step hsp
  have HR3:Hid (BxO X d3 w3 u.heap.size z5):=HR2.out.step hsp
  clear hs3 e3 hsp H2 HC HR2 HG HS2 f0 hF hC c0 c1 c2 c3 c4
  have b2:=(HK2.out.at H3.out.1.s).cell 0 rfl
  have hh3:d3.held=d.held++[cv]:=congrArg DP.held H3.out.2
  have hl3:d3.held.length=d.held.length+1:=by rw[hh3];simp
  go_wp2_with fail
  refine (HL.out d3 _ H3.out.1 H3.out.2).mono ?_
  rintro e w4 ⟨E4,d4,rfl,hs4,hr4⟩
  have HF:Hid (PanE X d u R (.panicked (thC E4)) w4):=⟨E4,d4,rfl,H3.out.1.trans hs4,hr4⟩
  clear hs4 hr4 H3 HC3 HR3 b2 hh3 hl3
  go_wp2_with fail
  simp[bodyPost]
  exact HF.out
theorem zf6 (X:RX) (d:MD) (p1 p2 pc l1 l2 b1:Nat) (cv:VD) (R:Nat->MD->World->Prop) (u:World) (h:St X d u) (k1:Od X p1 #[litV pc]) (kc:Od X pc (vA cv)) (k2:Od X p2 #[qg5 l1 l2 b1])
  (hL:∀ d2 w2,Sp X d u d2 w2->d2.p=d.p.hold [cv]->Calls Tryz.prog 209 #[ptr X.F,ptr l1,ptr l2,ptr b1] w2 fun e w'=>PanE X d2 w2 R e w') (hlen:d.held.length<=900) :
  Calls Tryz.prog 241 #[ptr X.F,ptr p1,ptr p2] u fun e w'=>PanE X d u R e w':=by
 have HS:Hid (St X d u):=h
 have HK2:Hid (Od X p2 #[qg5 l1 l2 b1]):=k2
 have HKC:Hid (Od X pc (vA cv)):=kc
 have HL:Hid (∀ d2 w2,Sp X d u d2 w2->d2.p=d.p.hold [cv]->Calls Tryz.prog 209 #[ptr X.F,ptr l1,ptr l2,ptr b1] w2 fun e w'=>PanE X d2 w2 R e w'):=hL
 have hb:=(k1.at h)
 have b1':=hb.cell 0 rfl
 have hbl:=hb.1
 clear h k1 k2 kc hb hL
 go_enter Tryz.func241,Tryz.ntmps241
 go_wp2_with fail
 have HC:Hid (Has (u.alloc (.cells z5 113)) pc (vA cv)):=HKC.out.at (HS.out.alloc _)
 refine (qq1 _ pc cv _ HC.out).mono ?_
 rintro e w1 ⟨rfl,hb1⟩
 have H1:Hid (Sp X d u d w1):=((Sp.refl HS.out).alloc _).call hb1
 have HR1:Hid (BxO X d w1 u.heap.size z5):=(BxO.new HS.out z5 _).step (Sp.below (HS.out.alloc _) hb1)
 clear hb1 b1' hbl HC
 go_wp2_with fail
 obtain ⟨w2,hw2⟩:∃ w2,w1.alloc (.cells (vA cv) 113)=w2:=⟨_,rfl⟩
 obtain ⟨C,hC0⟩:∃ C,w1.heap.size=C:=⟨_,rfl⟩
 have H2:Hid (Sp X d u d w2):=by rw[<-hw2];exact H1.out.alloc _
 have HC:Hid (Bx X d w2 C (vA cv)):=by rw[<-hw2,<-hC0];exact Bx.new H1.out.s _ _
 have HR2:Hid (BxO X d w2 u.heap.size z5):=by rw[<-hw2];exact HR1.out.alloc _
 rw[hw2,hC0]
 clear hw2 hC0 H1 HR1
 have f0:=H2.out.s.f.1.cell 0 rfl
 have hF:=H2.out.s.f.1.1
 have hC:=HC.out.1.1
 have c0:=HC.out.cell 0 rfl
 have c1:=HC.out.cell 1 rfl
 have c2:=HC.out.cell 2 rfl
 have c3:=HC.out.cell 3 rfl
 have c4:=HC.out.cell 4 rfl
 have HG:Hid (Has (w2.alloc (.cells (vA cv) 113)).drew w2.heap.size (vA cv)):=Has.drew (Has.new _ _ _)
 have HS2:Hid (St X d (w2.alloc (.cells (vA cv) 113)).drew):=(H2.out.s.alloc _).drew
 go_region_with (go_at_call 189;refine (qc4 X d _ cv _ HS2.out (by omega) HG.out).mono ?_;rintro e w3 ⟨rfl,ht3⟩)
 all_goals
  obtain ⟨d3,hs3,e3⟩:=ht3
  have hsp:Sp X d w2 d3 w3:=((Sp.refl H2.out.s).alloc _).drew.trans hs3
  have H3:Hid (Sp X d u d3 w3/\d3.p=d.p.hold [cv]):=⟨H2.out.trans hsp,e3⟩
  have HC3:Hid (Bx X d3 w3 C (vA cv)):=HC.out.step hsp
  have HR3:Hid (BxO X d3 w3 u.heap.size z5):=HR2.out.step hsp
  clear hs3 e3 hsp H2 HC HR2 HG HS2 f0 hF hC c0 c1 c2 c3 c4
  have b2:=(HK2.out.at H3.out.1.s).cell 0 rfl
  have hh3:d3.held=d.held++[cv]:=congrArg DP.held H3.out.2
  have hl3:d3.held.length=d.held.length+1:=by rw[hh3];simp
  go_wp2_with fail
  refine (HL.out d3 _ H3.out.1 H3.out.2).mono ?_
  rintro e w4 ⟨E4,d4,rfl,hs4,hr4⟩
  have HF:Hid (PanE X d u R (.panicked (thC E4)) w4):=⟨E4,d4,rfl,H3.out.1.trans hs4,hr4⟩
  clear hs4 hr4 H3 HC3 HR3 b2 hh3 hl3
  go_wp2_with fail
  simp[bodyPost]
  exact HF.out
theorem zn2 (X:RX) (d:MD) (a1 a2 p1 p2:Nat) (R:Nat->MD->World->Prop) (u:World) (h:St X d u) (k1:Od X a1 #[qh6 p1 p2])
  (hp:Calls Tryz.prog 241 #[ptr X.F,ptr p1,ptr p2] u fun e w'=>PanE X d u R e w') :
  Calls Tryz.prog 192 #[ptr X.F,ptr a1,ptr a2] u fun e w'=>PanE X d u R e w':=by
 have HP:Hid (Calls Tryz.prog 241 #[ptr X.F,ptr p1,ptr p2] u fun e w'=>PanE X d u R e w'):=hp
 have b1:=(k1.at h).cell 0 rfl
 have z1:=(k1.at h).1
 clear h k1 hp
 go_enter Tryz.func192,Tryz.ntmps192
 go_wp2_with fail
 refine HP.out.mono ?_
 rintro e w1 ⟨E1,d1,rfl,hs1,hr1⟩
 have HF:Hid (PanE X d u R (.panicked (thC E1)) w1):=⟨E1,d1,rfl,hs1,hr1⟩
 clear hs1 hr1 b1 z1
 go_wp2_with fail
 simp[bodyPost]
 exact HF.out
theorem yn0 (X:RX) (d:MD) (x1 r1 r2:Nat) (R:Nat->MD->World->Prop) (u:World) (h:St X d u) (k1:Od X x1 #[allV r1 r2])
  (hi:Calls Tryz.prog 192 #[ptr X.F,ptr r1,ptr r2] u fun e w'=>PanE X d u R e w') :
  Calls Tryz.prog 167 #[ptr X.F,ptr x1] u fun e w'=>PanE X d u R e w':=by
 have HI:Hid (Calls Tryz.prog 192 #[ptr X.F,ptr r1,ptr r2] u fun e w'=>PanE X d u R e w'):=hi
 have b1':=(k1.at h).cell 0 rfl
 have z1:=(k1.at h).1
 clear h k1 hi
 go_enter Tryz.func167,Tryz.ntmps167
 go_wp2_with fail
 refine HI.out.mono ?_
 rintro e w1 ⟨E1,d1,rfl,hs1,hr1⟩
 have HF:Hid (PanE X d u R (.panicked (thC E1)) w1):=⟨E1,d1,rfl,hs1,hr1⟩
 clear hs1 hr1 b1' z1
 go_wp2_with fail
 simp[bodyPost]
 exact HF.out
theorem yd9 (X:RX) (d:MD) (x1 l1 l2 b1:Nat) (R:Nat->MD->World->Prop) (u:World) (h:St X d u) (k1:Od X x1 #[qg5 l1 l2 b1])
  (hi:Calls Tryz.prog 209 #[ptr X.F,ptr l1,ptr l2,ptr b1] u fun e w'=>PanE X d u R e w') :
  Calls Tryz.prog 174 #[ptr X.F,ptr x1] u fun e w'=>PanE X d u R e w':=by
 have HI:Hid (Calls Tryz.prog 209 #[ptr X.F,ptr l1,ptr l2,ptr b1] u fun e w'=>PanE X d u R e w'):=hi
 have b1':=(k1.at h).cell 0 rfl
 have z1:=(k1.at h).1
 clear h k1 hi
 go_enter Tryz.func174,Tryz.ntmps174
 go_wp2_with fail
 refine HI.out.mono ?_
 rintro e w1 ⟨E1,d1,rfl,hs1,hr1⟩
 have HF:Hid (PanE X d u R (.panicked (thC E1)) w1):=⟨E1,d1,rfl,hs1,hr1⟩
 clear hs1 hr1 b1' z1
 go_wp2_with fail
 simp[bodyPost]
 exact HF.out
theorem z98 (X:RX) (d:MD) (aa:Option Addr) (n ac:Nat) (R:Nat->MD->World->Prop) (u:World) (h:St X d u) (ht:d.ti<X.tk)
  (hop:∀ d1 w1,Sp X d u d1 w1->d1.p=d.p.tick->Calls Tryz.prog 242 #[ptr X.M,fnD.v,.slice aa n ac] w1 fun e w'=>PanE X d1 w1 R e w') :
  Calls Tryz.prog 193 #[ptr X.M,fnD.v,.slice aa n ac] u fun e w'=>PanE X d u R e w':=by
 have HS:Hid (St X d u):=h
 have HOp:Hid (∀ d1 w1,Sp X d u d1 w1->d1.p=d.p.tick->Calls Tryz.prog 242 #[ptr X.M,fnD.v,.slice aa n ac] w1 fun e w'=>PanE X d1 w1 R e w'):=hop
 clear h hop
 go_enter Tryz.func193,Tryz.ntmps193
 go_wp2_with fail
 obtain ⟨w1,hw1⟩:∃ w1,u.alloc (.cells (vA fnD) 113)=w1:=⟨_,rfl⟩
 obtain ⟨C,hC0⟩:∃ C,u.heap.size=C:=⟨_,rfl⟩
 have H1:Hid (Sp X d u d w1):=by rw[<-hw1];exact (Sp.refl HS.out).alloc _
 have HC:Hid (Bx X d w1 C (vA fnD)):=by rw[<-hw1,<-hC0];exact Bx.new HS.out _ _
 rw[show u.alloc (.cells #[.int .i64 6,.int .i64 0,.float .f64 0,.string ⟨#[]⟩,.int .i64 0] 113)=w1 from hw1,hC0]
 clear hw1 hC0
 go_loopw [2,7] (fun a i wr=>a=.slice aa n ac/\i=.int .i64 0/\wr=w1) (fun _ _ _=>0)
 case atStart=>exact ⟨rfl,rfl,rfl⟩
 case round=>
  obtain ⟨rfl,rfl,rfl⟩:=hrel
  go_wp2_with fail
  refine (q62 X d _ H1.out.s ht).mono ?_
  rintro e w2 ⟨rfl,d2,hs2,e2⟩
  have H2:Hid (Sp X d u d2 w2/\d2.p=d.p.tick):=⟨H1.out.trans hs2,e2⟩
  have HC2:Hid (Bx X d2 w2 C (vA fnD)):=HC.out.step hs2
  clear hs2 e2 H1 HC
  have c0:=HC2.out.cell 0 rfl
  have c1:=HC2.out.cell 1 rfl
  have c2:=HC2.out.cell 2 rfl
  have c3:=HC2.out.cell 3 rfl
  have c4:=HC2.out.cell 4 rfl
  go_wp2_with fail
  refine (HOp.out d2 w2 H2.out.1 H2.out.2).mono ?_
  rintro e w3 ⟨E3,d3,rfl,hs3,hr3⟩
  have HF:Hid (PanE X d u R (.panicked (thC E3)) w3):=⟨E3,d3,rfl,H2.out.1.trans hs3,hr3⟩
  clear hs3 hr3 c0 c1 c2 c3 c4
  go_wp2_with fail
  simp[bodyPost]
  exact HF.out
theorem y25 (X:RX) (d:MD) (a1 a2 p1 p2 bb:Nat) (nd:Value) (cv:VD) (la:List VD) (q1:DP) (R:Nat->MD->World->Prop) (u:World) (h:St X d u) (k1:Od X a1 #[qh6 p1 p2]) (k2:Od X a2 #[ptr bb]) (kb:Od X bb #[ptr X.M,nd])
  (hp:Calls Tryz.prog 241 #[ptr X.F,ptr p1,ptr p2] u fun e w'=>qe4 X d u cv la q1 e w')
  (hinv:∀ g c d1 w1,Sp X d u d1 w1->d1.p=q1->Bl X d1 w1 g la->la.length<=c->Calls Tryz.prog 193 #[ptr X.M,cv.v,.slice (some ⟨g,0,none⟩) la.length c] w1 fun e w'=>PanE X d1 w1 R e w') :
  Calls Tryz.prog 192 #[ptr X.F,ptr a1,ptr a2] u fun e w'=>PanE X d u R e w':=by
 have HP:Hid (Calls Tryz.prog 241 #[ptr X.F,ptr p1,ptr p2] u fun e w'=>qe4 X d u cv la q1 e w'):=hp
 have HI:Hid (∀ g c d1 w1,Sp X d u d1 w1->d1.p=q1->Bl X d1 w1 g la->la.length<=c->Calls Tryz.prog 193 #[ptr X.M,cv.v,.slice (some ⟨g,0,none⟩) la.length c] w1 fun e w'=>PanE X d1 w1 R e w'):=hinv
 have HK2:Hid (Od X a2 #[ptr bb]):=k2
 have HKB:Hid (Od X bb #[ptr X.M,nd]):=kb
 have b1:=(k1.at h).cell 0 rfl
 have z1:=(k1.at h).1
 clear h k1 k2 kb hp hinv
 go_enter Tryz.func192,Tryz.ntmps192
 go_wp2_with fail
 refine HP.out.mono ?_
 rintro e w1 ⟨g,c,d1,rfl,ho,hs1,e1,hg1⟩
 have H1:Hid (Sp X d u d1 w1/\d1.p=q1):=⟨hs1,e1⟩
 have HG:Hid (Bl X d1 w1 g la/\la.length<=c):=ho.bl' hg1
 obtain ⟨na,hna⟩:∃ na,la.length=na:=⟨_,rfl⟩
 have HNA:Hid (la.length=na):=hna
 rw[hna]
 clear ho hs1 e1 hg1 hna
 clear b1 z1 HP
 go_wp2_with fail
 obtain ⟨w2,hw2⟩:∃ w2,w1.alloc (.cells (vA cv) 113)=w2:=⟨_,rfl⟩
 obtain ⟨C,hC0⟩:∃ C,w1.heap.size=C:=⟨_,rfl⟩
 have K2:Hid (Sp X d1 w1 d1 w2.drew):=by rw[<-hw2];exact ((Sp.refl H1.out.1.s).alloc _).drew
 have HC:Hid (Bx X d1 w2.drew C (vA cv)):=by rw[<-hw2,<-hC0];exact (Bx.new H1.out.1.s _ _).step (Sp.refl (H1.out.1.s.alloc _)).drew
 rw[show w1.alloc (.cells #[.int .i64 cv.k,.int .i64 cv.n,.float .f64 cv.f,.string cv.s,.int .i64 cv.r] 113)=w2 from hw2,hC0]
 clear hw2 hC0
 have HK:Hid (∀ d' w',Sp X d1 w2.drew d' w'->w'.cell? ⟨a2,0,none⟩=some (ptr bb)/\w'.cell? ⟨bb,0,none⟩=some (ptr X.M)/\w'.cell? ⟨C,0,none⟩=some (.int .i64 cv.k)/\w'.cell? ⟨C,1,none⟩=some (.int .i64 cv.n)/\w'.cell? ⟨C,2,none⟩=some (.float .f64 cv.f)/\w'.cell? ⟨C,3,none⟩=some (.string cv.s)/\w'.cell? ⟨C,4,none⟩=some (.int .i64 cv.r)):=fun d' w' k=>⟨(HK2.out.at k.s).cell 0 rfl,(HKB.out.at k.s).cell 0 rfl,(HC.out.step k).cell 0 rfl,(HC.out.step k).cell 1 rfl,(HC.out.step k).cell 2 rfl,(HC.out.step k).cell 3 rfl,(HC.out.step k).cell 4 rfl⟩
 have S0:=HK.out d1 _ (Sp.refl K2.out.s)
 refine wp_mono (Q:=fun e a w'=>a.defers=[]/\∃ E3,e=.panic (thC E3)/\PanE X d u R (.panicked (thC E3)) w') ?reg ?go
 case go=>
  rintro e a w' ⟨hd,E3,rfl,h3⟩
  simp only[Exit.then]
  exact ⟨hd,h3⟩
 refine wp_region_held_drew (S:=(fun w'=>w'.cell? ⟨a2,0,none⟩=some (ptr bb)/\w'.cell? ⟨bb,0,none⟩=some (ptr X.M)/\w'.cell? ⟨C,0,none⟩=some (.int .i64 cv.k)/\w'.cell? ⟨C,1,none⟩=some (.int .i64 cv.n)/\w'.cell? ⟨C,2,none⟩=some (.float .f64 cv.f)/\w'.cell? ⟨C,3,none⟩=some (.string cv.s)/\w'.cell? ⟨C,4,none⟩=some (.int .i64 cv.r))) (by kernel_rfl) S0 (fun hHold=>?_)
 refine wpAnyH_take (i:=0) (oi:=⟨some 13,_,_,_,_,_⟩) (v:=?v1) rfl (by kernel_rfl) (by kernel_rfl) (by kernel_rfl) (fun _ _ _ h=>h) (Or.inl ⟨by rfl,?hy1⟩) (by assumption) ?rest1
 case hy1=>(intro wz hSw;(try dsimp only at hSw);go_simp<;>with_reducible rfl)
 try simp only[Act.put,zz1,zz2,zz3]
 refine wpAnyH_take (i:=1) (oi:=⟨some 14,_,_,_,_,_⟩) (v:=?v2) rfl (by kernel_rfl) (by kernel_rfl) (by kernel_rfl) (fun _ _ _ h=>h) (Or.inl ⟨by rfl,?hy2⟩) (by assumption) ?rest2
 case hy2=>(intro wz hSw;(try dsimp only at hSw);go_simp<;>with_reducible rfl)
 try simp only[Act.put,zz1,zz2,zz3]
 refine wpAnyH_take (i:=2) (oi:=⟨some 15,_,_,_,_,_⟩) (v:=?v3) rfl (by kernel_rfl) (by kernel_rfl) (by kernel_rfl) (fun _ _ _ h=>h) (Or.inl ⟨by rfl,?hy3⟩) (by assumption) ?rest3
 case hy3=>(intro wz hSw;(try dsimp only at hSw);go_simp<;>with_reducible rfl)
 try simp only[Act.put,zz1,zz2,zz3]
 refine wpAnyH_take (i:=3) (oi:=⟨some 16,_,_,_,_,_⟩) (v:=?v4) rfl (by kernel_rfl) (by kernel_rfl) (by kernel_rfl) (fun _ _ _ h=>h) (Or.inl ⟨by rfl,?hy4⟩) (by assumption) ?rest4
 case hy4=>(intro wz hSw;(try dsimp only at hSw);go_simp<;>with_reducible rfl)
 try simp only[Act.put,zz1,zz2,zz3]
 refine wpAnyH_take (i:=4) (oi:=⟨some 17,_,_,_,_,_⟩) (v:=?v5) rfl (by kernel_rfl) (by kernel_rfl) (by kernel_rfl) (fun _ _ _ h=>h) (Or.inl ⟨by rfl,?hy5⟩) (by assumption) ?rest5
 case hy5=>(intro wz hSw;(try dsimp only at hSw);go_simp<;>with_reducible rfl)
 try simp only[Act.put,zz1,zz2,zz3]
 refine wpAnyH_take (i:=5) (oi:=⟨some 18,_,_,_,_,_⟩) (v:=?v6) rfl (by kernel_rfl) (by kernel_rfl) (by kernel_rfl) (fun _ _ _ h=>h) (Or.inl ⟨by rfl,?hy6⟩) (by assumption) ?rest6
 case hy6=>(intro wz hSw;(try dsimp only at hSw);go_simp<;>with_reducible rfl)
 try simp only[Act.put,zz1,zz2,zz3]
 refine wpAnyH_ready (rs:=[6]) (by kernel_rfl) (by simp) ?_
 refine AllReadyH.cons (o:=⟨some 19,_,_,_,_,_⟩) rfl (fun K hK=>?_) AllReadyH.nil
 go_simp
 have hz:=HI.out g c d1 _ (H1.out.1.trans K2.out) H1.out.2 (HG.out.1.step K2.out) HG.out.2
 rw[HNA.out] at hz
 refine hz.mono ?_
 rintro e w3 ⟨E3,d3,rfl,hs3,hr3⟩
 exact ⟨E3,rfl,E3,d3,rfl,(H1.out.1.trans K2.out).trans hs3,hr3⟩
theorem y44 (X:RX) (d:MD) (s1 s2 s3 bb x1:Nat) (nd:Value) (A2:Array Value) (L:Int) (R:Nat->MD->World->Prop) (u:World) (h:St X d u) (k1:Od X s1 #[ptr bb]) (kb:Od X bb #[ptr X.M,nd]) (k2:Od X s2 A2) (hA:A2[1]?=some (.int .i64 L)) (k3:Od X s3 #[doV x1]) (hl:d.recs.length<4000) (ht:d.ti<X.tk)
  (hact:∀ d3 w3,Sp X d u d3 w3->d3.p=d.p.begun X.fn L->Calls Tryz.prog 167 #[ptr X.F,ptr x1] w3 fun e w'=>PanE X d3 w3 R e w') :
  Calls Tryz.prog 140 #[ptr X.F,ptr s1,ptr s2,ptr s3] u fun e w'=>PanE X d u R e w':=by
 have HS:Hid (St X d u):=h
 have HK1:Hid (Od X s1 #[ptr bb]):=k1
 have HKB:Hid (Od X bb #[ptr X.M,nd]):=kb
 have HK2:Hid (Od X s2 A2):=k2
 have HA:Hid (A2[1]?=some (.int .i64 L)):=hA
 have HK3:Hid (Od X s3 #[doV x1]):=k3
 have HAct:Hid (∀ d3 w3,Sp X d u d3 w3->d3.p=d.p.begun X.fn L->Calls Tryz.prog 167 #[ptr X.F,ptr x1] w3 fun e w'=>PanE X d3 w3 R e w'):=hact
 have HL:Hid (d.recs.length<4000):=hl
 have HTi:Hid (d.ti<X.tk):=ht
 have b1:=(k1.at h).cell 0 rfl
 have b2:=(kb.at h).cell 0 rfl
 have l1:=(k1.at h).1
 have l2:=(kb.at h).1
 clear h k1 kb k2 hA k3 hl ht hact
 go_enter Tryz.func140,Tryz.ntmps140
 go_wp2_with fail
 refine (q62 X d _ HS.out HTi.out).mono ?_
 rintro e w1 ⟨rfl,d1,hs1,e1⟩
 have H1:Hid (Sp X d u d1 w1/\d1.p=d.p.tick):=⟨hs1,e1⟩
 have hli:d1.line=d.line:=congrArg DP.line e1
 clear hs1 e1 b1 b2 l1 l2
 have f12:w1.cell? ⟨X.F,12,none⟩=some (.int .i64 d.line):=by rw[<-hli];exact H1.out.1.s.f.1.cell 12 rfl
 have fz:=H1.out.1.s.f.2
 have n1:=(HK2.out.at H1.out.1.s).cell 1 HA.out
 have hne:X.F≠s2:=fun e=>by have h1:=HK2.out.1.1;have h2:=HS.out.x.f;omega
 have lF:=H1.out.1.s.f.1.1
 have lS:=(HK2.out.at H1.out.1.s).1
 go_upto_region 4 with fail
 obtain ⟨d2,w2,hw2,hs2,e2⟩:∃ d2 w2,w1.setCell ⟨X.F,12,none⟩ (.int .i64 L)=w2/\Sp X d1 w1 d2 w2/\d2.p=d1.p.ln L:=⟨_,_,rfl,Sp.line H1.out.1.s L,rfl⟩
 have H2:Hid (Sp X d u d2 w2/\d2.p=d.p.tick.ln L):=⟨H1.out.1.trans hs2,by rw[e2,H1.out.2]⟩
 rw[hw2]
 clear hw2 hs2 e2 H1 f12 fz n1 hli lF lS
 have b1:=(HK1.out.at H2.out.1.s).cell 0 rfl
 have bb':=(HKB.out.at H2.out.1.s).cell 0 rfl
 have f1:=H2.out.1.s.f.1.cell 1 rfl
 have n1:=(HK2.out.at H2.out.1.s).cell 1 HA.out
 have HS2:Hid (St X d2 w2.drew):=H2.out.1.s.drew
 have HL2:Hid (d2.recs.length<5000):=by
  have e:d2.recs=d.recs:=congrArg DP.recs H2.out.2
  have hz:=HL.out
  show d2.recs.length<5000
  rw[e];omega
 go_region_with (go_at_call 142;refine (q31 X d2 1 X.fn L ⟨#[]⟩ _ HS2.out HL2.out).mono ?_;rintro e w3 ⟨rfl,ht3⟩)
 all_goals
  obtain ⟨d3,hs3,e3⟩:=ht3
  have H3:Hid (Sp X d u d3 w3/\d3.p=d.p.begun X.fn L):=⟨H2.out.1.drew.trans hs3,by rw[e3,H2.out.2];rfl⟩
  clear hs3 e3 H2 HS2 b1 bb' f1 n1 HL2
  have s3':=(HK3.out.at H3.out.1.s).cell 0 rfl
  have l3:=(HK3.out.at H3.out.1.s).1
  go_wp2_with fail
  refine (HAct.out d3 w3 H3.out.1 H3.out.2).mono ?_
  rintro e w4 ⟨E4,d4,rfl,hs4,hr4⟩
  have HF:Hid (PanE X d u R (.panicked (thC E4)) w4):=⟨E4,d4,rfl,H3.out.1.trans hs4,hr4⟩
  clear hs4 hr4 H3 s3' l3
  go_wp2_with fail
  simp[bodyPost]
  exact HF.out
theorem zu1 (X:RX) (d:MD) (s1 s2 s3 bb x1:Nat) (nd:Value) (A2:Array Value) (L:Int) (R:Nat->MD->World->Prop) (u:World) (h:St X d u) (k1:Od X s1 #[ptr bb]) (kb:Od X bb #[ptr X.M,nd]) (k2:Od X s2 A2) (hA:A2[1]?=some (.int .i64 L)) (k3:Od X s3 #[retV x1]) (hl:d.recs.length<4000) (ht:d.ti<X.tk)
  (hact:∀ d3 w3,Sp X d u d3 w3->d3.p=d.p.begun X.fn L->Calls Tryz.prog 174 #[ptr X.F,ptr x1] w3 fun e w'=>PanE X d3 w3 R e w') :
  Calls Tryz.prog 140 #[ptr X.F,ptr s1,ptr s2,ptr s3] u fun e w'=>PanE X d u R e w':=by
 have HS:Hid (St X d u):=h
 have HK1:Hid (Od X s1 #[ptr bb]):=k1
 have HKB:Hid (Od X bb #[ptr X.M,nd]):=kb
 have HK2:Hid (Od X s2 A2):=k2
 have HA:Hid (A2[1]?=some (.int .i64 L)):=hA
 have HK3:Hid (Od X s3 #[retV x1]):=k3
 have HAct:Hid (∀ d3 w3,Sp X d u d3 w3->d3.p=d.p.begun X.fn L->Calls Tryz.prog 174 #[ptr X.F,ptr x1] w3 fun e w'=>PanE X d3 w3 R e w'):=hact
 have HL:Hid (d.recs.length<4000):=hl
 have HTi:Hid (d.ti<X.tk):=ht
 have b1:=(k1.at h).cell 0 rfl
 have b2:=(kb.at h).cell 0 rfl
 have l1:=(k1.at h).1
 have l2:=(kb.at h).1
 clear h k1 kb k2 hA k3 hl ht hact
 go_enter Tryz.func140,Tryz.ntmps140
 go_wp2_with fail
 refine (q62 X d _ HS.out HTi.out).mono ?_
 rintro e w1 ⟨rfl,d1,hs1,e1⟩
 have H1:Hid (Sp X d u d1 w1/\d1.p=d.p.tick):=⟨hs1,e1⟩
 have hli:d1.line=d.line:=congrArg DP.line e1
 clear hs1 e1 b1 b2 l1 l2
 have f12:w1.cell? ⟨X.F,12,none⟩=some (.int .i64 d.line):=by rw[<-hli];exact H1.out.1.s.f.1.cell 12 rfl
 have fz:=H1.out.1.s.f.2
 have n1:=(HK2.out.at H1.out.1.s).cell 1 HA.out
 have hne:X.F≠s2:=fun e=>by have h1:=HK2.out.1.1;have h2:=HS.out.x.f;omega
 have lF:=H1.out.1.s.f.1.1
 have lS:=(HK2.out.at H1.out.1.s).1
 go_upto_region 4 with fail
 obtain ⟨d2,w2,hw2,hs2,e2⟩:∃ d2 w2,w1.setCell ⟨X.F,12,none⟩ (.int .i64 L)=w2/\Sp X d1 w1 d2 w2/\d2.p=d1.p.ln L:=⟨_,_,rfl,Sp.line H1.out.1.s L,rfl⟩
 have H2:Hid (Sp X d u d2 w2/\d2.p=d.p.tick.ln L):=⟨H1.out.1.trans hs2,by rw[e2,H1.out.2]⟩
 rw[hw2]
 clear hw2 hs2 e2 H1 f12 fz n1 hli lF lS
 have b1:=(HK1.out.at H2.out.1.s).cell 0 rfl
 have bb':=(HKB.out.at H2.out.1.s).cell 0 rfl
 have f1:=H2.out.1.s.f.1.cell 1 rfl
 have n1:=(HK2.out.at H2.out.1.s).cell 1 HA.out
 have HS2:Hid (St X d2 w2.drew):=H2.out.1.s.drew
 have HL2:Hid (d2.recs.length<5000):=by
  have e:d2.recs=d.recs:=congrArg DP.recs H2.out.2
  have hz:=HL.out
  show d2.recs.length<5000
  rw[e];omega
 go_region_with (go_at_call 142;refine (q31 X d2 1 X.fn L ⟨#[]⟩ _ HS2.out HL2.out).mono ?_;rintro e w3 ⟨rfl,ht3⟩)
 all_goals
  obtain ⟨d3,hs3,e3⟩:=ht3
  have H3:Hid (Sp X d u d3 w3/\d3.p=d.p.begun X.fn L):=⟨H2.out.1.drew.trans hs3,by rw[e3,H2.out.2];rfl⟩
  clear hs3 e3 H2 HS2 b1 bb' f1 n1 HL2
  have s3':=(HK3.out.at H3.out.1.s).cell 0 rfl
  have l3:=(HK3.out.at H3.out.1.s).1
  go_wp2_with fail
  refine (HAct.out d3 w3 H3.out.1 H3.out.2).mono ?_
  rintro e w4 ⟨E4,d4,rfl,hs4,hr4⟩
  have HF:Hid (PanE X d u R (.panicked (thC E4)) w4):=⟨E4,d4,rfl,H3.out.1.trans hs4,hr4⟩
  clear hs4 hr4 H3 s3' l3
  go_wp2_with fail
  simp[bodyPost]
  exact HF.out
theorem y21 (X:RX) (d:MD) (k1 ka kn kc s1 s2 s3:Nat) (R:Nat->MD->World->Prop) (u:World) (h:St X d u) (hk1:Od X k1 #[.slice (some ⟨ka,0,none⟩) (kn+1) kc]) (hka:Oc X ka (stV s1 s2 s3))
  (hst:Calls Tryz.prog 140 #[ptr X.F,ptr s1,ptr s2,ptr s3] u fun e w'=>PanE X d u R e w') :
  Calls Tryz.prog 163 #[ptr X.F,ptr k1] u fun e w'=>PanE X d u R e w':=by
 have HSt:Hid (Calls Tryz.prog 140 #[ptr X.F,ptr s1,ptr s2,ptr s3] u fun e w'=>PanE X d u R e w'):=hst
 have q1:=(hk1.at h).cell 0 rfl
 have l1:=(hk1.at h).1
 have f10:=h.f.1.cell 10 rfl
 have ka0:=hka.at h
 have hkn:(0:Int)<((kn:Int)+1):=by omega
 clear h hk1 hka hst
 go_enter Tryz.func163,Tryz.ntmps163
 go_wp2_with fail
 refine wp_loop_rounds 1 ?_
 rw[rounds_succ];go_wp2_with fail
 refine HSt.out.mono ?_
 rintro e w1 ⟨E1,d1,rfl,hs1,hr1⟩
 have HF:Hid (PanE X d u R (.panicked (thC E1)) w1):=⟨E1,d1,rfl,hs1,hr1⟩
 clear hs1 hr1 q1 l1 f10 ka0
 go_wp2_with fail
 simp[bodyPost]
 exact HF.out
theorem zw5 (X:RX) (d:MD) (x1 x2 x3 C fn nf bo bc k1:Nat) (R:Nat->MD->World->Prop) (u:World) (h:St X d u) (b1:Bx X d u x1 #[ptr X.M]) (b2:Bx X d u x2 #[ptr C]) (b3:Bx X d u x3 #[ptr X.F]) (hC:Bx X d u C (cA (fn:Int))) (hbod:X.bod=.slice (some ⟨bo,0,none⟩) nf bc) (hfn:fn<nf) (hb:Oo X bo fn (bkV k1))
  (hrun:∀ w2,Sp X d u d w2->w2.heap.size=u.heap.size->Calls Tryz.prog 163 #[ptr X.F,ptr k1] w2 fun e w'=>PanE X d w2 R e w') :
  Calls Tryz.prog 289 #[ptr x1,ptr x2,ptr x3] u fun e w'=>PanE X d u R e w':=by
 have HS:Hid (St X d u):=h
 have HRun:Hid (∀ w2,Sp X d u d w2->w2.heap.size=u.heap.size->Calls Tryz.prog 163 #[ptr X.F,ptr k1] w2 fun e w'=>PanE X d w2 R e w'):=hrun
 have HK:Hid (∀ d' w',Sp X d u d' w'->(w'.cell? ⟨x1,0,none⟩=some (ptr X.M)/\w'.cell? ⟨x2,0,none⟩=some (ptr C)/\w'.cell? ⟨x3,0,none⟩=some (ptr X.F)/\w'.cell? ⟨C,0,none⟩=some (.int .i64 (fn:Int))/\w'.cell? ⟨X.M,7,none⟩=some (.slice (some ⟨bo,0,none⟩) nf bc)/\w'.cell? ⟨bo,fn,none⟩=some (bkV k1))):=fun d' w' k=>⟨(b1.step k).cell 0 rfl,(b2.step k).cell 0 rfl,(b3.step k).cell 0 rfl,(hC.step k).cell 0 rfl,by rw[<-hbod];exact k.s.m.1.cell 7 rfl,hb.at k.s⟩
 have S0:=HK.out d _ (Sp.refl HS.out).drew
 have hi0:(0:Int)<=(fn:Int):=Int.natCast_nonneg _
 have hi1:(fn:Int)<(nf:Int):=by omega
 clear h b1 b2 b3 hC hbod hfn hb hrun
 go_enter Tryz.func289,Tryz.ntmps289
 go_wp2_with fail
 refine wp_mono (Q:=fun e a w'=>a.defers=[]/\∃ E3,e=.panic (thC E3)/\PanE X d u R (.panicked (thC E3)) w') ?reg ?go
 case go=>
  rintro e a w' ⟨hd,E3,rfl,h3⟩
  simp only[Exit.then]
  exact ⟨hd,h3⟩
 refine wp_region_held_drew (S:=(fun w'=>w'.cell? ⟨x1,0,none⟩=some (ptr X.M)/\w'.cell? ⟨x2,0,none⟩=some (ptr C)/\w'.cell? ⟨x3,0,none⟩=some (ptr X.F)/\w'.cell? ⟨C,0,none⟩=some (.int .i64 (fn:Int))/\w'.cell? ⟨X.M,7,none⟩=some (.slice (some ⟨bo,0,none⟩) nf bc)/\w'.cell? ⟨bo,fn,none⟩=some (bkV k1))) (by kernel_rfl) S0 (fun hHold=>?_)
 refine wpAnyH_take (i:=0) (oi:=⟨some 4,_,_,_,_,_⟩) (v:=?v13) rfl (by kernel_rfl) (by kernel_rfl) (by kernel_rfl) (fun _ _ _ h=>h) (Or.inl ⟨by rfl,?hy13⟩) (by assumption) ?rest13
 case hy13=>(intro wz hSw;(try dsimp only at hSw);go_simp<;>with_reducible rfl)
 try simp only[Act.put,zz1,zz2,zz3]
 refine wpAnyH_take (i:=1) (oi:=⟨some 5,_,_,_,_,_⟩) (v:=?v14) rfl (by kernel_rfl) (by kernel_rfl) (by kernel_rfl) (fun _ _ _ h=>h) (Or.inl ⟨by rfl,?hy14⟩) (by assumption) ?rest14
 case hy14=>(intro wz hSw;(try dsimp only at hSw);go_simp<;>with_reducible rfl)
 try simp only[Act.put,zz1,zz2,zz3]
 refine wpAnyH_take (i:=2) (oi:=⟨some 6,_,_,_,_,_⟩) (v:=?v15) rfl (by kernel_rfl) (by kernel_rfl) (by kernel_rfl) (fun _ _ _ h=>h) (Or.inl ⟨by rfl,?hy15⟩) (by assumption) ?rest15
 case hy15=>(intro wz hSw;(try dsimp only at hSw);go_simp<;>with_reducible rfl)
 try simp only[Act.put,zz1,zz2,zz3]
 refine wpAnyH_take (i:=3) (oi:=⟨some 7,_,_,_,_,_⟩) (v:=?v16) rfl (by kernel_rfl) (by kernel_rfl) (by kernel_rfl) (fun _ _ _ h=>h) (Or.inl ⟨by rfl,?hy16⟩) (by assumption) ?rest16
 case hy16=>(intro wz hSw;(try dsimp only at hSw);go_simp<;>with_reducible rfl)
 try simp only[Act.put,zz1,zz2,zz3]
 refine wpAnyH_take (i:=4) (oi:=⟨some 8,_,_,_,_,_⟩) (v:=?v17) rfl (by kernel_rfl) (by kernel_rfl) (by kernel_rfl) (fun _ _ _ h=>h) (Or.inl ⟨by rfl,?hy17⟩) (by assumption) ?rest17
 case hy17=>(intro wz hSw;(try dsimp only at hSw);go_simp<;>with_reducible rfl)
 try simp only[Act.put,zz1,zz2,zz3]
 refine wpAnyH_take (i:=5) (oi:=⟨some 9,_,_,_,_,_⟩) (v:=?v18) rfl (by kernel_rfl) (by kernel_rfl) (by kernel_rfl) (fun _ _ _ h=>h) (Or.inl ⟨by rfl,?hy18⟩) (by assumption) ?rest18
 case hy18=>(intro wz hSw;(try dsimp only at hSw);go_simp<;>with_reducible rfl)
 try simp only[Act.put,zz1,zz2,zz3]
 refine wpAnyH_take (i:=6) (oi:=⟨some 10,_,_,_,_,_⟩) (v:=?v19) rfl (by kernel_rfl) (by kernel_rfl) (by kernel_rfl) (fun _ _ _ h=>h) (Or.inl ⟨by rfl,?hy19⟩) (by assumption) ?rest19
 case hy19=>(intro wz hSw;(try dsimp only at hSw);go_simp<;>with_reducible rfl)
 try simp only[Act.put,zz1,zz2,zz3]
 refine wpAnyH_take (i:=7) (oi:=⟨some 11,_,_,_,_,_⟩) (v:=?v20) rfl (by kernel_rfl) (by kernel_rfl) (by kernel_rfl) (fun _ _ _ h=>h) (Or.inl ⟨by rfl,?hy20⟩) (by assumption) ?rest20
 case hy20=>(intro wz hSw;(try dsimp only at hSw);go_simp<;>with_reducible rfl)
 try simp only[Act.put,zz1,zz2,zz3]
 refine wpAnyH_take (i:=8) (oi:=⟨some 12,_,_,_,_,_⟩) (v:=?v21) rfl (by kernel_rfl) (by kernel_rfl) (by kernel_rfl) (fun _ _ _ h=>h) (Or.inl ⟨by rfl,?hy21⟩) (by assumption) ?rest21
 case hy21=>(intro wz hSw;(try dsimp only at hSw);go_simp<;>with_reducible rfl)
 try simp only[Act.put,zz1,zz2,zz3]
 refine wpAnyH_take (i:=9) (oi:=⟨some 13,_,_,_,_,_⟩) (v:=?v22) rfl (by kernel_rfl) (by kernel_rfl) (by kernel_rfl) (fun _ _ _ h=>h) (Or.inl ⟨by rfl,?hy22⟩) (by assumption) ?rest22
 case hy22=>(intro wz hSw;(try dsimp only at hSw);go_simp<;>with_reducible rfl)
 try simp only[Act.put,zz1,zz2,zz3]
 refine wpAnyH_take (i:=10) (oi:=⟨some 14,_,_,_,_,_⟩) (v:=?v23) rfl (by kernel_rfl) (by kernel_rfl) (by kernel_rfl) (fun _ _ _ h=>h) (Or.inl ⟨by rfl,?hy23⟩) (by assumption) ?rest23
 case hy23=>(intro wz hSw;(try dsimp only at hSw);go_simp<;>with_reducible rfl)
 try simp only[Act.put,zz1,zz2,zz3]
 refine wpAnyH_ready (rs:=[11]) (by kernel_rfl) (by simp) ?_
 refine AllReadyH.cons (o:=⟨some 15,_,_,_,_,_⟩) rfl (fun K hK=>?_) AllReadyH.nil
 go_simp
 refine (HRun.out _ (Sp.refl HS.out).drew rfl).mono ?_
 rintro e w1 ⟨E1,d1,rfl,hs1,hr1⟩
 exact ⟨E1,rfl,E1,d1,rfl,(Sp.refl HS.out).drew.trans hs1,hr1⟩
theorem zt0 (X:RX) (d:MD) (x1 b5 k1:Nat) (R:Nat->MD->World->Prop) (u:World) (h:St X d u) (h1:Od X x1 #[bkV k1]) (h5:Bx X d u b5 #[ptr X.F])
  (hrun:Calls Tryz.prog 163 #[ptr X.F,ptr k1] u fun e w'=>PanE X d u R e w') :
  Calls Tryz.prog 212 #[ptr x1,ptr b5] u fun e w'=>PanE X d u R e w':=by
 have HRun:Hid (Calls Tryz.prog 163 #[ptr X.F,ptr k1] u fun e w'=>PanE X d u R e w'):=hrun
 have c1:=(h1.at h).cell 0 rfl
 have z1:=(h1.at h).1
 have c5:=h5.cell 0 rfl
 clear h h1 h5 hrun
 go_enter Tryz.func212,Tryz.ntmps212
 go_wp2_with fail
 refine HRun.out.mono ?_
 rintro e w1 ⟨E1,d1,rfl,hs1,hr1⟩
 have HF:Hid (PanE X d u R (.panicked (thC E1)) w1):=⟨E1,d1,rfl,hs1,hr1⟩
 clear hs1 hr1 c1 z1 c5
 go_wp2_with fail
 simp[bodyPost]
 exact HF.out
end Go.Proofs.YtaimofjekgnieaaGreatDoor
