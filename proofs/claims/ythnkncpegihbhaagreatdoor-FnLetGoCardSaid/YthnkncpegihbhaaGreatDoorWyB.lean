import Derived.Test.YthnkncpegihbhaaGreatDoorWxF
set_option maxRecDepth 100000
set_option maxHeartbeats 16000000
namespace Go.Proofs.YthnkncpegihbhaaGreatDoor
section
open Go.RowKit
attribute [local go_sem] iD
attribute [local go_sem ↓] Go.wp_at_zero Go.wp_at_succ
structure mX(v:VD):Prop where
 a:(v.k==5)=false
 b:(v.k==6)=false
 c:(v.k==7)=false
theorem qx1(v:VD)(w:World)(h:mX v):Calls Tryz.prog 391 #[iJ v.k v.n v.f v.s v.r] w fun e w'=>e=.returned (.bool false)/\gZ w w':=by
 have ha:=h.a;have hb:=h.b;have hc:=h.c;go_in;go_wp2_with fail;go_ret;exact⟨rfl,q01 _ _⟩
theorem WO(r:Int)(w:World):Calls Tryz.prog 391 #[iJ 5 0 0 ⟨#[]⟩ r] w fun e w'=>e=.returned (.bool true)/\gZ w w':=by
 go_in;go_wp2_with fail;go_ret;exact⟨rfl,q01 _ _⟩
theorem z03(r:Int)(w:World):Calls Tryz.prog 391 #[iJ 7 0 0 ⟨#[]⟩ r] w fun e w'=>e=.returned (.bool true)/\gZ w w':=by
 go_in;go_wp2_with fail;go_ret;exact⟨rfl,q01 _ _⟩
theorem Ws(X:RX)(d:MD)(S:TS)(j:Nat)(u:World)(h:St X d u)(o:jl X d S)(hj:j<S.nt)(hv:S.tv j=ptr (S.K j)):Calls Tryz.prog 363 #[ptr X.M,iJ 5 0 0 ⟨#[]⟩ (j:Int)] u fun e w'=>e=.returned (.pointer (some ⟨S.K j,6,none⟩))/\gZ u w':=by
 have m16:u.cell? ⟨X.M,16,none⟩=some (.slice S.ta S.nt S.tc):=by rw[<-o.t];exact h.m.1.cell 16 rfl
 obtain⟨g,hg,hl,hc⟩:=(o.is h).at hj;rw[hg] at m16;rw[hv] at hc;have lM:=h.m.1.1;have i0:(0:Int)<=(j:Int):=aS _;have i1:(j:Int)<(S.nt:Int):=by omega
 go_in;go_wp2_with fail
 go_region_with fail
 all_goals go_wp2_with fail
 all_goals go_ret
 all_goals exact⟨rfl,(q01 _ _).drew⟩
def lX(X:RX)(d:MD)(u:World):Prop:=∃g c,X.tks=.slice (some ⟨g,0,none⟩) 1 c/\jC u g 72/\u.cell? ⟨g,0,none⟩=some (ptr X.T)/\¬stB X d g
theorem lX.step{X:RX}{d d':MD}{u u':World}(h:lX X d u)(k:Sp X d u d' u'):lX X d' u':=by
 obtain⟨g,c,e,h1,h2,h3⟩:=h;have hk:=k.g.block g h1.lt h3;exact⟨g,c,e,h1.keep hk,(ak (a:=⟨g,0,none⟩) hk).trans h2,fun e=>h3 (k.mv g h1.lt e)⟩
theorem lX.rp{X:RX}{R Q:Nat}{d d':MD}{q q':RQ}{u u':World}(h:lX X d u)(t:Rt X R Q d q u)(k:Rp X R Q d q u d' q' u'):lX X d' u':=by
 obtain⟨g,c,e,h1,h2,h3⟩:=h;have hn:¬rB X R Q d q g:=fun c=>by
  rcases c with c|c|c|c
  ·exact h3 c
  ·exact h1.ne t.y (by decide) c
  ·exact t.m.ne h1 c
  ·exact(lJ t.r c).ne h1 (by decide) rfl
 have hk:=k.g.block g h1.lt hn;exact⟨g,c,e,h1.keep hk,(ak (a:=⟨g,0,none⟩) hk).trans h2,fun e=>hn (k.mv g h1.lt (.inl e))⟩
theorem zm1(X:RX)(d:MD)(u:World)(h:St X d u)(o:lX X d u):Calls Tryz.prog 363 #[ptr X.M,iJ 7 0 0 ⟨#[]⟩ 0] u fun e w'=>e=.returned (.pointer (some ⟨X.T,16,none⟩))/\gZ u w':=by
 obtain⟨g,c,e,hl,hc,_⟩:=o;replace hl:=hl.lt;have m18:u.cell? ⟨X.M,18,none⟩=some (.slice (some ⟨g,0,none⟩) 1 c):=by rw[<-e];exact h.m.1.cell 18 rfl
 have lM:=h.m.1.1;go_in;go_wp2_with fail
 go_region_with fail
 all_goals go_wp2_with fail
 all_goals go_ret
 all_goals exact⟨rfl,(q01 _ _).drew⟩
abbrev C5(w:World)(B:Nat)(v:VD):Prop:=w.cell? ⟨B,0,none⟩=some (.int .i64 v.k)/\w.cell? ⟨B,1,none⟩=some (.int .i64 v.n)/\w.cell? ⟨B,2,none⟩=some (.float .f64 v.f)/\w.cell? ⟨B,3,none⟩=some (.string v.s)/\w.cell? ⟨B,4,none⟩=some (.int .i64 v.r)
theorem OwnB.c5{w:World}{B:Nat}{v:VD}(h:OwnB w B (vA v)):C5 w B v:=⟨h.1.cell 0 rfl,h.1.cell 1 rfl,h.1.cell 2 rfl,h.1.cell 3 rfl,h.1.cell 4 rfl⟩
theorem qx4(R:Nat)(v:VD)(w:World)(h:mX v):Calls Tryz.prog 362 #[ptr R,iJ v.k v.n v.f v.s v.r] w fun e w'=>e=.returned (.bool true)/\gZ w w':=by
 have HI:Hid (∀w,Calls Tryz.prog 391 #[iJ v.k v.n v.f v.s v.r] w fun e w'=>e=.returned (.bool false)/\gZ w w'):=fun w=>qx1 v w h;go_in
 go_upto_region 1 with fail
 obtain⟨w0,hw0⟩:∃w0,w.alloc (.cells #[.int .i64 v.k,.int .i64 v.n,.float .f64 v.f,.string v.s,.int .i64 v.r] 61)=w0:=⟨_,rfl⟩;obtain⟨b3,eH⟩:∃b3,w.heap.size=b3:=⟨_,rfl⟩;have HO:Hid (OwnB w0 b3 (vA v)):=by rw[<-hw0,<-eH];exact OwnB.new w _ _
 have HB:Hid (gZ w w0):=by rw[<-hw0];exact q01 _ _
 rw[hw0];have HC:Hid (∀w',gZ w0 w'->C5 w' b3 v):=fun w' hb=>(HO.iy hb).c5;rw[eH];have S0:=HC.out w0.drew ((ay _ _).drew);refine wp_region_held_drew (S:=fun w'=>C5 w' b3 v) (by kernel_rfl) S0 (fun iI=>?_)
 (refine wpAnyH_take (i:=0) (oi:=⟨some 5,_,_,_,_,_⟩) (v:=?v1) rfl (by kernel_rfl) (by kernel_rfl) (by kernel_rfl) (fun _ _ _ h=>h) (Or.inl ⟨by rfl,?hy1⟩) (by assumption) ?yQ;case hy1=>(intro wz hSw;(try dsimp only at hSw);go_simp<;>with_reducible rfl);try simp only[Act.put,iT,iR,iQ])
 refine wpAnyH_ready (rs:=[1]) (by kernel_rfl) (by simp) ?_;refine AllReadyH.cons (o:=⟨some 6,_,_,_,_,_⟩) rfl (fun K hK=>?_) AllReadyH.nil;go_simp;refine(HI w0.drew).mono ?_;rintro e w2 ⟨rfl,eG⟩;have fD:Hid (gZ w0 w2):=iq ((ay _ _).drew) eG;have S2:=HC.out w2 fD.out;go_simp;refine hK.out _ _ S2 (fun hHeld=>?_);have iI:=hHeld;try simp only[Act.put,iT,iR,iQ]
 (refine wpAnyH_take (i:=2) (oi:=⟨some 7,_,_,_,_,_⟩) (v:=?v2) rfl (by kernel_rfl) (by kernel_rfl) (by kernel_rfl) (fun _ _ _ h=>h) (Or.inl ⟨by rfl,?hy2⟩) (by assumption) ?yP;case hy2=>(intro wz hSw;(try dsimp only at hSw);go_simp<;>with_reducible rfl);try simp only[Act.put,iT,iR,iQ])
 (refine wpAnyH_take (i:=3) (oi:=⟨some 8,_,_,_,_,_⟩) (v:=?v3) rfl (by kernel_rfl) (by kernel_rfl) (by kernel_rfl) (fun _ _ _ h=>h) (Or.inl ⟨by rfl,?hy3⟩) (by assumption) ?BD;case hy3=>(intro wz hSw;(try dsimp only at hSw);go_simp<;>with_reducible rfl);try simp only[Act.put,iT,iR,iQ])
 (refine wpAnyH_take (i:=4) (oi:=⟨some 9,_,_,_,_,_⟩) (v:=undef) rfl (by kernel_rfl) (by kernel_rfl) (by kernel_rfl) (fun _ _ _ h=>h) (Or.inr ⟨by rfl,rfl⟩) (by assumption) ?_;try simp only[Act.put,iT,iR,iQ])
 (refine wpAnyH_take (i:=5) (oi:=⟨some 10,_,_,_,_,_⟩) (v:=undef) rfl (by kernel_rfl) (by kernel_rfl) (by kernel_rfl) (fun _ _ _ h=>h) (Or.inr ⟨by rfl,rfl⟩) (by assumption) ?_;try simp only[Act.put,iT,iR,iQ])
 (refine wpAnyH_take (i:=6) (oi:=⟨some 11,_,_,_,_,_⟩) (v:=undef) rfl (by kernel_rfl) (by kernel_rfl) (by kernel_rfl) (fun _ _ _ h=>h) (Or.inr ⟨by rfl,rfl⟩) (by assumption) ?_;try simp only[Act.put,iT,iR,iQ])
 (refine wpAnyH_take (i:=7) (oi:=⟨some 12,_,_,_,_,_⟩) (v:=undef) rfl (by kernel_rfl) (by kernel_rfl) (by kernel_rfl) (fun _ _ _ h=>h) (Or.inr ⟨by rfl,rfl⟩) (by assumption) ?_;try simp only[Act.put,iT,iR,iQ])
 (refine wpAnyH_take (i:=8) (oi:=⟨some 13,_,_,_,_,_⟩) (v:=undef) rfl (by kernel_rfl) (by kernel_rfl) (by kernel_rfl) (fun _ _ _ h=>h) (Or.inr ⟨by rfl,rfl⟩) (by assumption) ?_;try simp only[Act.put,iT,iR,iQ])
 (refine wpAnyH_take (i:=9) (oi:=⟨some 14,_,_,_,_,_⟩) (v:=undef) rfl (by kernel_rfl) (by kernel_rfl) (by kernel_rfl) (fun _ _ _ h=>h) (Or.inr ⟨by rfl,rfl⟩) (by assumption) ?_;try simp only[Act.put,iT,iR,iQ])
 (refine wpAnyH_take (i:=10) (oi:=⟨some 15,_,_,_,_,_⟩) (v:=undef) rfl (by kernel_rfl) (by kernel_rfl) (by kernel_rfl) (fun _ _ _ h=>h) (Or.inr ⟨by rfl,rfl⟩) (by assumption) ?_;try simp only[Act.put,iT,iR,iQ])
 (refine wpAnyH_take (i:=11) (oi:=⟨some 16,_,_,_,_,_⟩) (v:=undef) rfl (by kernel_rfl) (by kernel_rfl) (by kernel_rfl) (fun _ _ _ h=>h) (Or.inr ⟨by rfl,rfl⟩) (by assumption) ?_;try simp only[Act.put,iT,iR,iQ])
 (refine wpAnyH_take (i:=12) (oi:=⟨some 17,_,_,_,_,_⟩) (v:=undef) rfl (by kernel_rfl) (by kernel_rfl) (by kernel_rfl) (fun _ _ _ h=>h) (Or.inr ⟨by rfl,rfl⟩) (by assumption) ?_;try simp only[Act.put,iT,iR,iQ])
 (refine wpAnyH_take (i:=13) (oi:=⟨some 18,_,_,_,_,_⟩) (v:=undef) rfl (by kernel_rfl) (by kernel_rfl) (by kernel_rfl) (fun _ _ _ h=>h) (Or.inr ⟨by rfl,rfl⟩) (by assumption) ?_;try simp only[Act.put,iT,iR,iQ])
 (refine wpAnyH_take (i:=14) (oi:=⟨some 19,_,_,_,_,_⟩) (v:=undef) rfl (by kernel_rfl) (by kernel_rfl) (by kernel_rfl) (fun _ _ _ h=>h) (Or.inr ⟨by rfl,rfl⟩) (by assumption) ?_;try simp only[Act.put,iT,iR,iQ])
 (refine wpAnyH_take (i:=15) (oi:=⟨some 20,_,_,_,_,_⟩) (v:=undef) rfl (by kernel_rfl) (by kernel_rfl) (by kernel_rfl) (fun _ _ _ h=>h) (Or.inr ⟨by rfl,rfl⟩) (by assumption) ?_;try simp only[Act.put,iT,iR,iQ])
 (refine wpAnyH_take (i:=16) (oi:=⟨some 21,_,_,_,_,_⟩) (v:=undef) rfl (by kernel_rfl) (by kernel_rfl) (by kernel_rfl) (fun _ _ _ h=>h) (Or.inr ⟨by rfl,rfl⟩) (by assumption) ?_;try simp only[Act.put,iT,iR,iQ])
 (refine wpAnyH_take (i:=17) (oi:=⟨some 22,_,_,_,_,_⟩) (v:=?v17) rfl (by kernel_rfl) (by kernel_rfl) (by kernel_rfl) (fun _ _ _ h=>h) (Or.inl ⟨by rfl,?Xn⟩) (by assumption) ?VE;case Xn=>(intro wz hSw;(try dsimp only at hSw);go_simp<;>with_reducible rfl);try simp only[Act.put,iT,iR,iQ])
 (refine wpAnyH_take (i:=18) (oi:=⟨some 4,_,_,_,_,_⟩) (v:=?v18) rfl (by kernel_rfl) (by kernel_rfl) (by kernel_rfl) (fun _ _ _ h=>h) (Or.inl ⟨by rfl,?Jf⟩) (by assumption) ?Il;case Jf=>(intro wz hSw;(try dsimp only at hSw);go_simp<;>with_reducible rfl);try simp only[Act.put,iT,iR,iQ])
 refine wpAnyH_done (by kernel_rfl) ?_ _;go_wp2_with fail;go_ret;exact⟨rfl,iq HB fD⟩
theorem Wn(R A o:Nat)(k r z ro:Int)(w:World)(M:Nat)(hR0:w.cell? ⟨R,0,none⟩=some (ptr M))(hR1:w.cell? ⟨R,1,none⟩=some (.int .i64 ro))(hRl:R<w.heap.size)(hA:w.cell? ⟨A,o,none⟩=some (.int .i64 z))(hAl:A<w.heap.size)(hI:∀w,Calls Tryz.prog 391 #[iJ k 0 0 ⟨#[]⟩ r] w fun e w'=>e=.returned (.bool true)/\gZ w w')(hS:∀w',gZ w w'->Calls Tryz.prog 363 #[ptr M,iJ k 0 0 ⟨#[]⟩ r] w' fun e w''=>e=.returned (.pointer (some ⟨A,o,none⟩))/\gZ w' w''):Calls Tryz.prog 362 #[ptr R,iJ k 0 0 ⟨#[]⟩ r] w fun e w'=>e=.returned (.bool (z==ro))/\gZ w w':=by
 have HI:Hid (∀w,Calls Tryz.prog 391 #[iJ k 0 0 ⟨#[]⟩ r] w fun e w'=>e=.returned (.bool true)/\gZ w w'):=hI;have HS:Hid (∀w',gZ w w'->Calls Tryz.prog 363 #[ptr M,iJ k 0 0 ⟨#[]⟩ r] w' fun e w''=>e=.returned (.pointer (some ⟨A,o,none⟩))/\gZ w' w''):=hS;go_in
 go_upto_region 1 with fail
 obtain⟨w0,hw0⟩:∃w0,w.alloc (.cells #[.int .i64 k,.int .i64 0,.float .f64 0,.string ⟨#[]⟩,.int .i64 r] 61)=w0:=⟨_,rfl⟩;obtain⟨b3,eH⟩:∃b3,w.heap.size=b3:=⟨_,rfl⟩;have HO:Hid (OwnB w0 b3 (vA ⟨k,0,0,⟨#[]⟩,r⟩)):=by rw[<-hw0,<-eH];exact OwnB.new w _ _
 have HB:Hid (gZ w w0):=by rw[<-hw0];exact q01 _ _
 have HC:Hid (∀w',gZ w0 w'->C5 w' b3 ⟨k,0,0,⟨#[]⟩,r⟩/\w'.cell? ⟨R,0,none⟩=some (ptr M)/\w'.cell? ⟨R,1,none⟩=some (.int .i64 ro)/\w'.cell? ⟨A,o,none⟩=some (.int .i64 z)):=fun w' hb=>⟨(HO.iy hb).c5,((iq HB.out hb).cell (p:=⟨R,0,none⟩) hRl).trans hR0,((iq HB.out hb).cell (p:=⟨R,1,none⟩) hRl).trans hR1,((iq HB.out hb).cell (p:=⟨A,o,none⟩) hAl).trans hA⟩;rw[hw0];rw[eH];have S0:=HC.out w0.drew ((ay _ _).drew)
 go_region_held3 (fun w'=>C5 w' b3 ⟨k,0,0,⟨#[]⟩,r⟩/\w'.cell? ⟨R,0,none⟩=some (ptr M)/\w'.cell? ⟨R,1,none⟩=some (.int .i64 ro)/\w'.cell? ⟨A,o,none⟩=some (.int .i64 z)) (first|(with_reducible exact S0)|(with_reducible exact S3)|(with_reducible exact S2)) (first
  |(go_at_call 391;refine(HI w0.drew).mono ?_;rintro e w2 ⟨rfl,eG⟩;have fD:Hid (gZ w0 w2):=iq ((ay _ _).drew) eG;have S2:=HC.out w2 fD.out)
  |(go_at_call 363;refine(HS w2 (iq HB fD)).mono ?_;rintro e w3 ⟨rfl,eH⟩;have HB3:Hid (gZ w0 w3):=iq fD.out eH;have S3:=HC.out w3 HB3.out))
 all_goals go_wp2_with fail
 all_goals go_ret
 all_goals exact⟨rfl,iq HB.out HB3.out⟩
def tV(w:World)(a:Option Addr)(n:Nat)(l:List VD):Prop:=l.length=n/\(0<n->∃g off,a=some ⟨g,off,none⟩/\g<w.heap.size/\∀j v,(hL l)[j]?=some v->w.cell? ⟨g,off+j,none⟩=some v)
theorem tV.call{w w':World}{a:Option Addr}{n:Nat}{l:List VD}(h:tV w a n l)(hb:gZ w w'):tV w' a n l:=⟨h.1,fun h0=>by
 obtain⟨g,off,e,h1,h2⟩:=h.2 h0;exact⟨g,off,e,aH h1 hb.size,fun j v hv=>(ak (a:=⟨g,off+j,none⟩) (hb.block g h1)).trans (h2 j v hv)⟩⟩
theorem Zw(w:World)(a:Option Addr):tV w a 0 []:=⟨rfl,fun h=>absurd h (dF _)⟩
theorem Sj{w:World}{g:Nat}{v:VD}(h:Has w g (vA v)):tV w (some ⟨g,0,none⟩) 1 [v]:=⟨rfl,fun _=>⟨g,0,rfl,h.1,fun j x hx=>by
 rw[Nat.zero_add,h.2 j];have:(hL [v])=(vA v).toList:=by simp[hL,v5]
 rw[this] at hx;simpa using hx⟩⟩
theorem tV.at{w:World}{a:Option Addr}{n:Nat}{l:List VD}(h:tV w a n l){k:Nat}{v:VD}(hk:l[k]?=some v):∃g off,a=some ⟨g,off,none⟩/\g<w.heap.size/\∀i x,(v5 v)[i]?=some x->w.cell? ⟨g,off+k*5+i,none⟩=some x:=by
 have hn:0<n:=by
  have:=(aP.1 hk).1;have:=h.1;omega
 obtain⟨g,off,e,h1,h2⟩:=h.2 hn;exact⟨g,off,e,h1,fun i x hx=>by rw[Nat.add_assoc];exact h2 _ _ (j89 l k v hk i x hx)⟩
theorem IZ(R:Nat)(a:Option Addr)(n c:Nat)(l:List VD)(w:World)(hl:tV w a n l)(hN:∀v,v∈l->mX v)(hn:n<=100000):Calls Tryz.prog 335 #[ptr R,.slice a n c] w fun e w'=>e=.returned (.tuple #[])/\gZ w w':=by
 have HL:Hid (tV w a n l):=hl;have HN:Hid (∀v,v∈l->mX v):=hN;go_in;go_wp2_with fail
 go_loopw [8] (fun i wr=>∃(k:Nat),k<=n/\i=.int .i64 k/\Hid (gZ w wr)) (fun i _=>n-(intOf i).toNat)
 case atStart=>exact⟨0,aF _,rfl,ay _ _⟩
 case round=>
  obtain⟨k,hk,rfl,HP⟩:=hrel;by_cases fE:k<n
  ·obtain⟨v,hv⟩:∃v,Hid (l[k]?=some v):=⟨l[k]'(by have:=HL.1;omega),aP.2 ⟨by have:=HL.1;omega,rfl⟩⟩;obtain⟨g,off,rfl,hg,hat⟩:=(HL.call HP.out).at hv.out;have c0:wr.cell? ⟨g,off+k*5,none⟩=some (.int .i64 v.k):=hat 0 _ rfl;have c1:=hat 1 _ rfl;have c2:=hat 2 _ rfl;have c3:=hat 3 _ rfl;have c4:=hat 4 _ rfl;have gK:(k:Int)<(n:Int):=by omega
   have h0:(0:Int)<=(k:Int):=aS _;have HH:Hid (∀w,Calls Tryz.prog 362 #[ptr R,iJ v.k v.n v.f v.s v.r] w fun e w'=>e=.returned (.bool true)/\gZ w w'):=fun w=>qx4 R v w (HN.out v (List.mem_of_getElem? hv.out));go_wp2_with fail;refine(HH _).mono ?_;rintro e w2 ⟨rfl,eG⟩;have HP2:Hid (gZ w w2):=iq HP.out (iq (q01 _ _) eG);go_wp2_with fail;go_roundw
   case rel=>exact⟨k+1,by omega,by go_num,HP2⟩
   case measure=>simp[intOf];omega
  ·obtain rfl:k=n:=by omega
   have e0:((k:Int)<(k:Int))=False:=by simp
   go_wp2_with fail;go_end0;exact⟨rfl,HP⟩
abbrev jT(k r:Int):VD:=⟨k,0,0,⟨#[]⟩,r⟩
theorem qn3(X:RX)(R Q:Nat)(d d':MD)(q:RQ)(g A o:Nat)(AA:Array Value)(k r z:Int)(w:World)(h:Rt X R Q d q w)(hg:Ry X R Q d q w g (vA (jT k r)))(hA:OwnB w A AA)(hz:AA[o]?=some (.int .i64 z))(hsA:stB X d A)(hne:(z==(d.ro:Int))=false)(hro:d'.ro=d.ro)(hI:∀w,Calls Tryz.prog 391 #[iJ k 0 0 ⟨#[]⟩ r] w fun e w'=>e=.returned (.bool true)/\gZ w w')(hS:∀w',gZ w w'->Calls Tryz.prog 363 #[ptr X.M,iJ k 0 0 ⟨#[]⟩ r] w' fun e w''=>e=.returned (.pointer (some ⟨A,o,none⟩))/\gZ w' w'')(hst:∀w',gZ w w'->Rp X R Q d q w' d' q (w'.setCell ⟨A,o,none⟩ (.int .i64 (d.ro:Int))))(gJ:q.row.length<=10000):Calls Tryz.prog 335 #[ptr R,.slice (some ⟨g,0,none⟩) 1 1] w fun e w'=>e=.returned (.tuple #[])/\∃a c,Rp X R Q d q w d' {q with row:=q.row++[jT k r],a:=a,c:=c} w':=by
 have HT:Hid (Rt X R Q d q w):=h;have c0:w.cell? ⟨g,0,none⟩=some (.int .i64 k):=hg.1.1.cell 0 rfl;have c1:w.cell? ⟨g,1,none⟩=some (.int .i64 0):=hg.1.1.cell 1 rfl;have c2:w.cell? ⟨g,2,none⟩=some (.float .f64 0):=hg.1.1.cell 2 rfl;have c3:w.cell? ⟨g,3,none⟩=some (.string ⟨#[]⟩):=hg.1.1.cell 3 rfl;have c4:w.cell? ⟨g,4,none⟩=some (.int .i64 r):=hg.1.1.cell 4 rfl;have lg:=hg.1.1.1;have HA:Hid (OwnB w A AA/\AA[o]?=some (.int .i64 z)/\stB X d A/\A≠R):=⟨hA,hz,hsA,fun e=>h.bn (e ▸ hsA)⟩;have HI:Hid (∀w,Calls Tryz.prog 391 #[iJ k 0 0 ⟨#[]⟩ r] w fun e w'=>e=.returned (.bool true)/\gZ w w'):=hI;have HS:Hid (∀w',gZ w w'->Calls Tryz.prog 363 #[ptr X.M,iJ k 0 0 ⟨#[]⟩ r] w' fun e w''=>e=.returned (.pointer (some ⟨A,o,none⟩))/\gZ w' w''):=hS;have F8:Hid (∀w',gZ w w'->Rp X R Q d q w' d' q (w'.setCell ⟨A,o,none⟩ (.int .i64 (d.ro:Int)))):=hst;have HH:Hid (∀w',gZ w w'->Calls Tryz.prog 362 #[ptr R,iJ k 0 0 ⟨#[]⟩ r] w' fun e w''=>e=.returned (.bool false)/\gZ w' w''):=fun w' hb=>by
  have h2:=(Rp.below h hb).t;have h3:=hA.iy hb;have:=Wn R A o k r z d.ro w' X.M (h2.b.1.cell 0 rfl) (h2.b.1.cell 1 rfl) h2.b.1.1 ((h3.1.2 o).trans hz) h3.1.1 hI (fun w'' hb'=>hS w'' (iq hb hb'));rw[hne] at this;exact this
 have HR:Hid (d'.ro=d.ro):=hro;go_in;go_wp2_with fail;refine bW 2 ?_;rw[bC];go_wp2_with fail;obtain⟨w1,fQ⟩:∃w1,w.alloc (.cells #[.int .i64 k,.int .i64 0,.float .f64 0,.string ⟨#[]⟩,.int .i64 r] 61)=w1:=⟨_,rfl⟩;obtain⟨b5,eX⟩:∃b5,w.heap.size=b5:=⟨_,rfl⟩;have H1:Hid (gZ w w1/\OwnB w1 b5 (vA (jT k r))/\w.heap.size<=b5):=by
  rw[<-fQ,<-eX];exact⟨q01 _ _,OwnB.new _ _ _,ah _⟩
 rw[fQ,eX];refine(HH w1 H1.1).mono ?_;rintro e w2 ⟨rfl,eG⟩;have H2:Hid (gZ w w2/\OwnB w2 b5 (vA (jT k r))/\w.heap.size<=b5):=⟨iq H1.1 eG,H1.2.1.iy eG,H1.2.2⟩
 go_upto_region 4 with fail
 have HC:Hid (∀w',gZ w2 w'->(C5 w' b5 (jT k r)/\w'.cell? ⟨R,0,none⟩=some (ptr X.M)/\w'.cell? ⟨R,1,none⟩=some (.int .i64 (d.ro:Int)))/\C5 (w'.setCell ⟨A,o,none⟩ (.int .i64 (d.ro:Int))) b5 (jT k r)/\(w'.setCell ⟨A,o,none⟩ (.int .i64 (d.ro:Int))).cell? ⟨R,0,none⟩=some (ptr X.M)/\(w'.setCell ⟨A,o,none⟩ (.int .i64 (d.ro:Int))).cell? ⟨R,1,none⟩=some (.int .i64 (d.ro:Int))):=fun w' hb=>by
  have hB:=H2.2.1.iy hb;have hR:=(Rp.below HT.out (iq H2.1 hb)).t.b;have hB':=kR (B:=A) (o:=o) (v:=.int .i64 (d.ro:Int)) hB (fun e=>by have:=HA.1.1.1;have:=H2.2.2;omega);have hR':=kR (B:=A) (o:=o) (v:=.int .i64 (d.ro:Int)) hR (bK HA.2.2.2);exact⟨⟨hB.c5,hR.1.cell 0 rfl,hR.1.cell 1 rfl⟩,hB'.c5,hR'.1.cell 0 rfl,hR'.1.cell 1 rfl⟩
 have HZ:Hid (∀w',gZ w2 w'->A<w'.heap.size/\w'.cell? ⟨A,o,none⟩=some (.int .i64 z)/\w'.frozen? ⟨A,o,none⟩=false):=fun w' hb=>by
  have:=HA.1.iy (iq H2.1 hb);exact⟨this.1.1,(this.1.2 o).trans HA.2.1,this.2 o⟩
 have S0:=(HC.out w2.drew ((ay _ _).drew)).1
 go_region_held3 (fun w'=>C5 w' b5 (jT k r)/\w'.cell? ⟨R,0,none⟩=some (ptr X.M)/\w'.cell? ⟨R,1,none⟩=some (.int .i64 (d.ro:Int))) (first|(with_reducible exact S0)|(with_reducible exact S4)|(with_reducible exact S3)) (first
  |(go_at_call 363;refine(HS w2.drew H2.1.drew).mono ?_;rintro e w3 ⟨rfl,eH⟩;have HB3:Hid (gZ w2 w3):=iq ((ay _ _).drew) eH;have S3:=(HC.out w3 HB3.out).1;have S4:=(HC.out w3 HB3.out).2;obtain⟨hz1,hz2,hz3⟩:=HZ.out w3 HB3.out))
 go_upto_region 5 with fail
 obtain⟨w4,hw4⟩:∃w4,w3.setCell ⟨A,o,none⟩ (.int .i64 (d.ro:Int))=w4:=⟨_,rfl⟩;have H4:Hid (Rp X R Q d q w d' q w4/\OwnB w4 b5 (vA (jT k r))):=by
  rw[<-hw4];exact⟨(Rp.below HT.out (iq H2.1 HB3.out)).trans (F8.out w3 (iq H2.1 HB3.out)),kR (H2.2.1.iy HB3.out) (fun e=>by have:=HA.1.1.1;have:=H2.2.2;omega)⟩
 rw[hw4];have T4:=(Rp.below H4.1.t ((q01 w4 (.cells #[.int .i64 k,.int .i64 0,.float .f64 0,.string ⟨#[]⟩,.int .i64 r] 61)).drew)).t;obtain⟨i0,gU,gQ,hy1,hy2⟩:=bT NR;obtain⟨v',w7,gq,gB,gY,_,hat⟩:=run_append_own_at (P:=Tryz.prog) (w4.alloc (.cells #[.int .i64 k,.int .i64 0,.float .f64 0,.string ⟨#[]⟩,.int .i64 r] 61)).drew X.N 119 119 61 i0 _ 5 48 Tryz.underlying119 gU gQ hy1 hy2 rfl (by decide) (.slice q.a q.row.length q.c) q.row.length (hL q.row) T4.r ⟨w4.heap.size,0,none⟩ 1 1 (v5 (jT k r)) rfl (Az w4 #[.int .i64 k,.int .i64 0,.float .f64 0,.string ⟨#[]⟩,.int .i64 r] _) (Vd _) (by unfold maxLen;omega) (by omega) T4.s.n;have hb7:OwnB w7 R (Ak X d'.ro Q q):=T4.b.block gY.size (gY.block R T4.b.1.1 (fun e=>(T4.rq R (by rw[<-jg];exact e.symm)).1 rfl));obtain⟨a2,c2,rfl,fJ⟩:=Rp.push (x:=jT k r) T4 gB gY hat;have HF:Hid (∃a c,Rp X R Q d q w d' {q with row:=q.row++[jT k r],a:=a,c:=c} (w7.setCell ⟨R,2,none⟩ (.slice a2 (q.row.length+1) c2))):=⟨a2,c2,(H4.1.call ((q01 _ _).drew)).trans fJ⟩;have r2:w4.cell? ⟨R,2,none⟩=some (.slice q.a q.row.length q.c):=H4.1.t.b.1.cell 2 rfl;have lR:=H4.1.t.b.1.1;obtain⟨b0,b1,b2,b3,b4⟩:=H4.2.c5;have d2:=hb7.1.cell 2 rfl;have d2l:=hb7.1.1;have d2f:=hb7.2
 go_region_law ((refine xU (by rfl) _ _ _ _ (by rfl) (.slice q.a q.row.length q.c) (.slice (some ⟨w4.heap.size,0,none⟩) 1 1) _ _ (by rfl) (by rfl) gq ?_))
 all_goals go_wp2_with fail
 all_goals(rw[bC])
 all_goals go_wp2_with fail
 all_goals go_end0
 all_goals exact⟨rfl,HF.out⟩
end
section
open Go.RowKit Go.ChangeMaps Go.MapKept
theorem V7:Tryz.prog.underlying 253=some (.struct (Tryz.prog.fieldsOf 253)):=by kernel_rfl
theorem j84:Tryz.prog.stoodInHeld 253=false:=by kernel_rfl
theorem jd6(x y:Int×Int)(w:World):(Op.equal 253 (qX x) (qX y)).run Tryz.prog w=.ok (decide (x=y)) w:=by
 obtain⟨x1,x2⟩:=x;obtain⟨y1,y2⟩:=y;show(Op.equalIn 10000 _ _ _).run _ _=_;rw[run_equalIn_agg w 9999 _ _ _ V7 j84];simp only[Program.fieldsOf,Tryz.underlying253];have p0:∀(a b:Value) (w:World),(part 3 #[a,b] 0).run Tryz.prog w=.ok a w:=fun _ _ _=>by kernel_rfl
 have p1:∀(a b:Value) (w:World),(part 3 #[a,b] 1).run Tryz.prog w=.ok b w:=fun _ _ _=>by kernel_rfl
 have q0:=fun(a b:Int) (w:World)=>run_equalIn_int (P:=Tryz.prog) w 9998 3 .i64 .i64 a b Tryz.underlying3;by_cases h0:x1=y1
 ·by_cases h1:x2=y2
  ·simp[Op.eqFields,p0,p1,q0,h0,h1]
  ·simp[Op.eqFields,p0,p1,q0,h0,h1]
 ·simp[Op.eqFields,p0,q0,h0]
theorem V5(e:Bool)(m:Int×Int)(w:World):(Instr.checkKey e 10000 253 (qX m)).run Tryz.prog w=.ok () w:=by
 kernel_rfl
abbrev Bf:TypeId:=379
theorem Vg:Tryz.prog.underlying Bf=some (.map 253 119):=by kernel_rfl
theorem yv2(w:World):(zeroValue 119).run Tryz.prog w=.ok (.slice none 0 0) w:=by kernel_rfl
theorem yu0(m:Int×Int)(w:World):∀(es:List MapEntry) (L:List (Int×Int)) (i:Nat),es.map (·.key)=L.map qX->m ∉ L->(Instr.findAsking 253 (qX m) es i).run Tryz.prog w=.ok none w
 |[],[],i,_,_=>by simp[Instr.findAsking]
 |[],_ :: _,_,h,_=>by simp at h
 |_ :: _,[],_,h,_=>by simp at h
 |e :: es,m' :: L,i,h,hn=>by
  simp only[List.map_cons,List.cons.injEq] at h;obtain⟨h1,h3⟩:=h;have ih:=yu0 m w es L (i+1) h3 (fun c=>hn (List.mem_cons_of_mem _ c));have c:¬m=m':=fun c=>hn (by rw[c];exact List.mem_cons_self);have:=jd6 m m' w;rw[<-h1] at this;simp[Instr.findAsking,this,c,Result.andThen,ih]
theorem VK(m:Int×Int)(w:World)(es:List MapEntry)(L:List (Int×Int))(h:es.map (·.key)=L.map qX)(hn:m ∉ L):(Instr.findKey 253 (qX m) es).run Tryz.prog w=.ok none w:=by
 have hf:=yu0 m w es L 0 h hn
 cases es with
 |nil=>simp[Instr.findKey,dn V7,Instr.findNow,Result.andThen]
 |cons e es=>
  have:Instr.findNow (.struct (Tryz.prog.fieldsOf 253)) (qX m) (e :: es) 0=none:=by simp[Instr.findNow,Instr.sameNow]
  simp only[Instr.findKey,Sem.run_bind,dn V7,Result.andThen,this];exact hf
section
variable {w:World}{Q:Nat}{L:List (Int×Int)}{m:Int×Int}
theorem lW.no(h:lW w Q L)(hn:m ∉ L):(Instr.lookup Bf (.map (some Q)) (qX m) false).run Tryz.prog w=.ok (.slice none 0 0) w:=by
 obtain⟨es,c,hb,he,_⟩:=h;have hf:=VK m w es.toList L he hn;simp only[Instr.lookup,dn Vg,dI hb,V5,hf,yv2,Result.andThen,Sem.run_bind,Sem.run_pure];simp
theorem VN{w w':World}{b:Nat}(h:w.mapTurned w' b):Gx (fun k=>k=b) w w':=(Gx.grown h.grown).mono (fun _ e=>(aQ e).symm)
theorem lW.del(h:lW w Q L)(hn:m ∉ L):∃w',(∀ty K',(Builtin.delete_ #[Bf,K'] ty #[.map (some Q),qX m]).run Tryz.prog w=.ok (.tuple #[]) w')/\lW w' Q L/\Gx (fun k=>k=Q) w w':=by
 obtain⟨es,c,hb,he,h3⟩:=h;have hf:=VK m w es.toList L he hn;refine⟨setBlock w Q (.map es c),fun ty K'=>?_,⟨es,c,heap_setBlock_same hb _,he,h3⟩,VN ⟨es,c,_,_,hb,rfl⟩⟩;simp[Builtin.delete_,dn Vg,dI hb,V5,hf,MapKept.run_setObj_map _ hb,Result.andThen,setBlock]
theorem zi0{es:List MapEntry}{x:MapEntry}{c:Nat}(h:∀e∈es,e.born<c)(hx:x.born=c):(es++[x]).findIdx? (fun e=>(e.born:Int)==(c:Int))=some es.length:=by
 induction es with
 |nil=>simp[hx]
 |cons e es ih=>
  have h1:((e.born:Int)==(c:Int))=false:=by
   have:=h e List.mem_cons_self;simp;omega
  have:=ih (fun e he=>h e (List.mem_cons_of_mem _ he));simp only[List.cons_append,List.findIdx?_cons,h1,this];simp
theorem lW.more(h:lW w Q L)(hn:m ∉ L):∃(st:Nat) (w1:World),(Instr.mapEntry Bf (.map (some Q)) (qX m)).run Tryz.prog w=.ok (.tuple #[.slice none 0 0,.int .i64 (st:Int)]) w1/\lW w1 Q (L++[m])/\Gx (fun k=>k=Q) w w1/\ ∀w2 v,w2.heap[Q]?=w1.heap[Q]?->∃w3,(Instr.entryStore Bf (.map (some Q)) (.int .i64 (st:Int)) v).run Tryz.prog w2=.ok () w3/\lW w3 Q (L++[m])/\Gx (fun k=>k=Q) w2 w3:=by
 obtain⟨es,c,hb,he,h3⟩:=h;have hf:=VK m w es.toList L he hn;have eu:=heap_setBlock_same hb (.map (es.push {key:=qX m,val:=.slice none 0 0,born:=c}) (c+1));have hw:(es.push {key:=qX m,val:=.slice none 0 0,born:=c}).toList.map (·.key)=(L++[m]).map qX:=by simp[he]
 have gK:∀e∈(es.push {key:=qX m,val:=.slice none 0 0,born:=c}).toList,e.born<c+1:=fun e hx=>by
  simp only[Array.toList_push,dD,List.mem_singleton] at hx;rcases hx with hx|rfl
  ·have:=h3 e hx;omega
  ·exact Nat.lt_succ_self _
 refine⟨c,setBlock w Q (.map (es.push {key:=qX m,val:=.slice none 0 0,born:=c}) (c+1)),?_,⟨_,_,eu,hw,gK⟩,VN ⟨es,c,_,_,hb,rfl⟩,fun w2 v e2=>?_⟩
 ·simp[Instr.mapEntry,dn Vg,dI hb,V5,hf,goInt,MapKept.run_setObj_map _ hb,Result.andThen,setBlock]
 ·have eG:=e2.trans eu;have hidx:(es.push {key:=qX m,val:=.slice none 0 0,born:=c}).findIdx? (fun e=>(e.born:Int)==(c:Int))=some es.size:=by
   have:=zi0 (x:={key:=qX m,val:=.slice none 0 0,born:=c}) h3 rfl;have h0:∀(xs:Array MapEntry) (p:MapEntry->Bool),xs.findIdx? p=xs.toList.findIdx? p:=fun xs p=>by cases xs;simp
   rw[h0,Array.toList_push];simpa using this
  refine⟨setBlock w2 Q (.map ((es.push {key:=qX m,val:=.slice none 0 0,born:=c}).modify es.size fun e=>{e with val:=v}) (c+1)),?_,⟨_,_,heap_setBlock_same eG _,?_,?_⟩,VN ⟨_,_,_,_,eG,rfl⟩⟩
  ·simp[Instr.entryStore,dI eG,asInt,asIntOf,hidx,MapKept.run_setObj_map _ eG,Result.andThen,setBlock]
  ·rw[Array.toList_modify,SA (fun e:MapEntry=>e.key) (fun e=>{e with val:=v}) id (fun _=>rfl),hw];exact List.modify_id _ _
  ·intro e hx;rw[Array.toList_modify] at hx;obtain⟨i,hi⟩:=List.mem_iff_getElem?.1 hx;rw[List.getElem?_modify] at hi
   cases hg:(es.push {key:=qX m,val:=.slice none 0 0,born:=c}).toList[i]? with
   |none=>rw[hg] at hi;simp at hi
   |some y=>
    rw[hg] at hi;have:=gK y (List.mem_of_getElem? hg);simp at hi;by_cases c':es.size=i
    ·simp[c'] at hi;rw[<-hi];exact this
    ·simp[c'] at hi;rw[<-hi];exact this
end
end
section
open Go.RowKit
attribute [local go_sem] iD
attribute [local go_sem ↓] Go.wp_at_zero Go.wp_at_succ
abbrev sK:ByteArray:=⟨#[107]⟩
abbrev sV:ByteArray:=⟨#[118]⟩
abbrev tC:ByteArray:=⟨#[119,101,97,107]⟩
theorem Wp(s:ByteArray)(c:Int)(w:World):(callFunc 443 #[.string s,.int .u8 c]).run Tryz.prog w=.ok (.value (.int .i64 (Lib.indexByte s.data.toList c.toNat.toUInt8))) w:=by
 rw[dS Tryz.func443 (by kernel_rfl) (by kernel_rfl) (by kernel_rfl) (show Extern.find Tryz.f443=some Extern.BytealgIndexByte.indexByte by kernel_rfl),Lib.run_indexByteString];rfl
theorem zm2(s:ByteArray)(c x:Int)(w:World)(hx:∀w,(callFunc 443 #[.string s,.int .u8 c]).run Tryz.prog w=.ok (.value (.int .i64 x)) w):Calls Tryz.prog 439 #[.string s,.int .u8 c] w fun e w'=>e=.returned (.int .i64 x)/\gZ w w':=by
 go_in;go_wp2_with fail;go_ret;exact⟨rfl,ay _ _⟩
theorem WC(s:ByteArray)(c:UInt8)(x:Int)(w:World)(hs:([c]==s.toList)=false)(hx:∀w,(callFunc 443 #[.string s,.int .u8 (c.toNat:Int)]).run Tryz.prog w=.ok (.value (.int .i64 x)) w):Calls Tryz.prog 435 #[.string s,.string ⟨#[c]⟩] w fun e w'=>e=.returned (.int .i64 x)/\gZ w w':=by
 have H:Hid (∀w,Calls Tryz.prog 439 #[.string s,.int .u8 (c.toNat:Int)] w fun e w'=>e=.returned (.int .i64 x)/\gZ w w'):=fun w=>zm2 s _ x w hx;go_in;go_wp2_with fail;refine(H _).mono ?_;rintro e w1 ⟨rfl,eu⟩;go_wp2_with fail;go_ret;exact⟨rfl,eu⟩
theorem z83(s:ByteArray)(c:UInt8)(w:World)(hs:([c]==s.toList)=true):Calls Tryz.prog 435 #[.string s,.string ⟨#[c]⟩] w fun e w'=>e=.returned (.int .i64 0)/\gZ w w':=by
 go_in;go_wp2_with fail;go_ret;exact⟨rfl,ay _ _⟩
theorem SL(s:ByteArray)(c:UInt8)(x:Int)(w:World)(h:∀w,Calls Tryz.prog 435 #[.string s,.string ⟨#[c]⟩] w fun e w'=>e=.returned (.int .i64 x)/\gZ w w'):Calls Tryz.prog 414 #[.string s,.string ⟨#[c]⟩] w fun e w'=>e=.returned (.bool (decide (0<=x)))/\gZ w w':=by
 have H:Hid (∀w,Calls Tryz.prog 435 #[.string s,.string ⟨#[c]⟩] w fun e w'=>e=.returned (.int .i64 x)/\gZ w w'):=h;have H2:Hid (∀w,Calls Tryz.prog 430 #[.string s,.string ⟨#[c]⟩] w fun e w'=>e=.returned (.int .i64 x)/\gZ w w'):=fun w=>by
  go_in;go_wp2_with fail;refine(H _).mono ?_;rintro e w1 ⟨rfl,eu⟩;go_wp2_with fail;go_ret;exact⟨rfl,eu⟩
 go_in;go_wp2_with fail;refine(H2 _).mono ?_;rintro e w1 ⟨rfl,eu⟩;go_wp2_with fail;go_ret;exact⟨rfl,eu⟩
theorem ja0(w:World):Calls Tryz.prog 414 #[.string ⟨#[]⟩,.string sK] w fun e w'=>e=.returned (.bool false)/\gZ w w':=SL ⟨#[]⟩ 107 (-1) w (fun w=>WC _ _ (-1) w (by simp[go_sem]) (fun w=>Wp ⟨#[]⟩ 107 w))
theorem j99(w:World):Calls Tryz.prog 414 #[.string ⟨#[]⟩,.string sV] w fun e w'=>e=.returned (.bool false)/\gZ w w':=SL ⟨#[]⟩ 118 (-1) w (fun w=>WC _ _ (-1) w (by simp[go_sem]) (fun w=>Wp ⟨#[]⟩ 118 w))
theorem j97(w:World):Calls Tryz.prog 414 #[.string sK,.string sV] w fun e w'=>e=.returned (.bool false)/\gZ w w':=SL sK 118 (-1) w (fun w=>WC _ _ (-1) w (by simp[go_sem]) (fun w=>Wp sK 118 w))
theorem j98(w:World):Calls Tryz.prog 414 #[.string sK,.string sK] w fun e w'=>e=.returned (.bool true)/\gZ w w':=SL sK 107 0 w (fun w=>z83 _ _ w (by simp[go_sem]))
def EW(x:VD)(wk:Bool):Prop:=(x.s=⟨#[]⟩/\wk=false)\/(x.s=sK/\wk=true)
theorem zd9(K:Nat)(x:VD)(wk:Bool)(w:World)(hx:EW x wk)(h:∀w',gZ w w'->Calls Tryz.prog 266 #[ptr K,.string tC] w' fun e w''=>e=.returned (iJ x.k x.n x.f x.s x.r)/\gZ w' w''):Calls Tryz.prog 385 #[ptr K] w fun e w'=>e=.returned (.tuple #[.bool wk,.bool false])/\gZ w w':=by
 have H:Hid (∀w',gZ w w'->Calls Tryz.prog 266 #[ptr K,.string tC] w' fun e w''=>e=.returned (iJ x.k x.n x.f x.s x.r)/\gZ w' w''):=h;have HK:Hid (∀w,Calls Tryz.prog 414 #[.string x.s,.string sK] w fun e w'=>e=.returned (.bool wk)/\gZ w w'):=fun w=>by
  rcases hx with⟨e1,e2⟩|⟨e1,e2⟩
  ·rw[e1,e2];exact ja0 w
  ·rw[e1,e2];exact j98 w
 have HV:Hid (∀w,Calls Tryz.prog 414 #[.string x.s,.string sV] w fun e w'=>e=.returned (.bool false)/\gZ w w'):=fun w=>by
  rcases hx with⟨e1,e2⟩|⟨e1,e2⟩
  ·rw[e1];exact j99 w
  ·rw[e1];exact j97 w
 go_in;go_wp2_with fail;refine(H w (ay _ _)).mono ?_;rintro e w1 ⟨rfl,eu⟩;have fB:Hid (gZ w w1):=eu
 go_upto_region 2 with fail
 obtain⟨w2,fU⟩:∃w2,w1.alloc (.cells #[.int .i64 x.k,.int .i64 x.n,.float .f64 x.f,.string x.s,.int .i64 x.r] 61)=w2:=⟨_,rfl⟩;obtain⟨b4,eU⟩:∃b4,w1.heap.size=b4:=⟨_,rfl⟩;have H2:Hid (gZ w w2/\OwnB w2 b4 (vA x)):=by
  rw[<-fU,<-eU];exact⟨iq fB (q01 _ _),OwnB.new _ _ _⟩
 rw[fU,eU];have HC:Hid (∀w',gZ w2 w'->w'.cell? ⟨b4,3,none⟩=some (.string x.s)):=fun w' hb=>(H2.2.iy hb).1.cell 3 rfl;have S0:=HC.out w2.drew ((ay _ _).drew)
 go_region_held3 (fun w'=>w'.cell? ⟨b4,3,none⟩=some (.string x.s)) (first|(with_reducible exact S0)|(with_reducible exact S4)|(with_reducible exact S3)) (first
  |(have hz:=HB3.out;go_at_call 414;first
   |(refine(HV.out w3).mono ?_;rintro e w4 ⟨rfl,eU⟩;have HB4:Hid (gZ w2 w4):=iq HB3.out eU;have S4:=HC.out w4 HB4.out)
   |(refine(HK.out w3).mono ?_;rintro e w4 ⟨rfl,eU⟩;have HB4:Hid (gZ w2 w4):=iq HB3.out eU;have S4:=HC.out w4 HB4.out))
  |(go_at_call 414;first
   |(refine(HV.out w2.drew).mono ?_;rintro e w3 ⟨rfl,eH⟩;have HB3:Hid (gZ w2 w3):=iq ((ay _ _).drew) eH;have S3:=HC.out w3 HB3.out)
   |(refine(HK.out w2.drew).mono ?_;rintro e w3 ⟨rfl,eH⟩;have HB3:Hid (gZ w2 w3):=iq ((ay _ _).drew) eH;have S3:=HC.out w3 HB3.out)))
 all_goals go_wp2_with fail
 all_goals exact aG (v:=.tuple #[.bool wk,.bool false]) (by simp[results,Tryz.results385,go_sem]) rfl ⟨rfl,iq H2.1 HB4.out⟩
theorem NY(X:RX)(d:MD)(S:TS)(j:Nat)(k:Option Nat)(wk:Bool)(u:World)(h:St X d u)(o:jl X d S)(hj:j<S.nt)(hk:vH S j k)(hx:EW (hdl S k tC) wk):Calls Tryz.prog 385 #[ptr (S.K j)] u fun e w'=>e=.returned (.tuple #[.bool wk,.bool false])/\gZ u w':=
 zd9 (S.K j) _ wk u hx (fun w' hb=>SI X d S j k tC w' (h.call hb) o hj hk)
end
end Go.Proofs.YthnkncpegihbhaaGreatDoor
