import Derived.Test.YtaimofjekgnieaaGreatDoorGnE
import Derived.Deep.Cut
set_option maxRecDepth 100000
set_option maxHeartbeats 16000000
namespace Go.Proofs.YtaimofjekgnieaaGreatDoor
open Go.RowKit
attribute [local go_sem] q00
attribute [local go_sem ↓] Go.wp_at_zero Go.wp_at_succ
theorem zy9:(Tryz.prog.info? 368).map (fun i=>(i.zero,i.size,i.bytes))=some (some (.pointer none),1,8):=by kernel_rfl
theorem yt4 {w0:World} (p:Value) {t e:TypeId} (hp:p.oneCell'=true) (ht:Tryz.prog.underlying t=some (.slice e)) (hi:(Tryz.prog.info? e).map (fun i=>(i.zero,i.size,i.bytes))=some (some (.pointer none),1,8)) :
  ∃ g cap w',(Builtin.append_ #[t,t] t #[.slice none 0 0,.slice (some ⟨w0.heap.size,0,none⟩) 1 1]).run Tryz.prog (w0.alloc (.cells #[p] e))=.ok (.slice (some ⟨g,0,none⟩) 1 cap) w'/\w0.heap.size<g/\g<w'.heap.size/\w'.cell? ⟨g,0,none⟩=some p/\Below w0.heap.size w0 w':=by
 obtain ⟨i0,hi0,hy0,hy1,hy2⟩:=info_parts hi
 obtain ⟨v',w7,happ,hown,hgrow,_,hat⟩:=run_append_own_at (P:=Tryz.prog) (w0.alloc (.cells #[p] e)) 0 t t e i0 _ 1 8 ht hi0 hy0 hy1 hy2 rfl (by decide) (.slice none 0 0) 0 [] (World.ownsRow_nil _ _ _ _) ⟨w0.heap.size,0,none⟩ 1 1 [p] rfl (cell_one_new _ _ _) (by simpa using hp) (by unfold maxLen;omega) (by omega) (Nat.zero_le _)
 rcases hown.2 with ⟨_,d⟩|⟨g,cap,cur,e1,hb,hg,h2,h3,h4,h5⟩
 ·omega
 ·subst e1
  refine ⟨g,cap,w7,happ,?_,(Array.getElem?_eq_some_iff.1 hg).1,?_,(q01 w0 _).grown hgrow (by simp) (fun k e=>by cases e)⟩
  ·rcases hat with e|e
   ·cases e
   ·have:=Option.some.inj e;simp at this;omega
  ·have hc:=hown.cells (g:=g) rfl 0 p rfl
   simpa[Addr.add] using hc
theorem zg6 (k r:Int) (w:World):Calls Tryz.prog 305 #[.agg #[.int .i64 k,.int .i64 r]] w fun e w'=>e=.returned (vOf k 0 0 ⟨#[]⟩ r)/\Below w.heap.size w w':=by
 go_enter Tryz.func305,Tryz.ntmps305
 go_wp2_with fail
 refine bodyPost_ret (v:=vOf k 0 0 ⟨#[]⟩ r) (by simp[results,Tryz.results305,go_sem]) rfl ⟨rfl,?_⟩
 with_reducible exact q04 _ _ _
abbrev cA (fn:Int):Array Value:=#[.int .i64 fn,.slice none 0 0,.int .i64 0]
abbrev fnD:VD:=⟨6,0,0,⟨#[]⟩,0⟩
structure NF (X:RX) (d:MD) (u:World) (fn:Int) (C B c:Nat) (w':World):Prop where
 s:Sp X d u {d with cls:=.slice (some ⟨B,0,none⟩) 1 c} w'
 k:Has w' C (cA fn)
 kn:u.heap.size<=C
 b:w'.cell? ⟨B,0,none⟩=some (ptr C)
 bn:u.heap.size<=B
 bl:B<w'.heap.size
theorem zg5 (X:RX) (d:MD) (fn:Int) (u:World) (h:St X d u) (hc:d.cls=.slice none 0 0) :
  Calls Tryz.prog 277 #[ptr X.M,.int .i64 fn,.slice none 0 0] u fun e w'=>∃ C B c,e=.returned fnD.v/\NF X d u fn C B c w':=by
 have HS:Hid (St X d u):=h
 have m17:u.cell? ⟨X.M,17,none⟩=some (.slice none 0 0):=by rw[<-hc];exact h.m.1.cell 17 rfl
 have hMl:=h.m.1.1
 clear h
 go_enter Tryz.func277,Tryz.ntmps277
 go_upto_region 1 with fail
 obtain ⟨ta,hta⟩:∃ ta:Option Addr,Hid (ta=none):=⟨_,rfl⟩
 obtain ⟨tn,htn⟩:∃ tn:Nat,Hid (tn=0):=⟨_,rfl⟩
 obtain ⟨tc,htc⟩:∃ tc:Nat,Hid (tc=0):=⟨_,rfl⟩
 have htv:Hid (Value.slice none 0 0=.slice ta tn tc):=by rw[hta.out,htn.out,htc.out];exact rfl
 obtain ⟨w1,hw1⟩:∃ w1,u.alloc (.cells z5 113)=w1:=⟨_,rfl⟩
 have H0:Hid (u.heap.size<w1.heap.size/\OwnB w1 u.heap.size z5/\Below u.heap.size u w1):=by
  rw[<-hw1]
  exact ⟨by simp,OwnB.new u _ _,q01 _ _⟩
 rw[hw1]
 obtain ⟨w2,hw2⟩:∃ w2,w1.alloc (.cells (cA fn) 370)=w2:=⟨_,rfl⟩
 obtain ⟨t1,c1,w3,happ,hg1,hg2,hg3,hb3⟩:=yt4 (w0:=w2) (ptr w1.heap.size) rfl Tryz.underlying66 zy9
 have H2:Hid (Has w2 w1.heap.size (cA fn)/\Below u.heap.size u w2/\w1.heap.size<w2.heap.size):=by
  rw[<-hw2]
  exact ⟨Has.new _ _ _,q49 H0.out.2.2 _,by simp⟩
 have hS2:St X d w2:=HS.out.call H2.out.2.1
 have hS3:St X d w3:=hS2.call hb3
 have m17a:w1.cell? ⟨X.M,17,none⟩=some (.slice none 0 0):=by rw[<-hc];exact (HS.out.call H0.out.2.2).m.1.cell 17 rfl
 have m17b:w3.cell? ⟨X.M,17,none⟩=some (.slice none 0 0):=by rw[<-hc];exact hS3.m.1.cell 17 rfl
 have mz:=hS3.m.2
 have hM1:=(HS.out.call H0.out.2.2).m.1.1
 have hM2:=hS2.m.1.1
 have hM3:=hS3.m.1.1
 have H3:Hid (St X d w3/\Below w2.heap.size w2 w3/\w2.heap.size<t1/\t1<w3.heap.size/\w3.cell? ⟨t1,0,none⟩=some (ptr w1.heap.size)):=⟨hS3,hb3,hg1,hg2,hg3⟩
 rw[htv.out] at happ m17a m17b
 rw[<-hw2,show (w1.alloc (.cells (cA fn) 370)).heap.size=w1.heap.size+1 by simp] at happ
 have HW2:Hid (w1.alloc (.cells (cA fn) 370)=w2):=hw2
 clear hw2
 clear hM2 hM3
 clear hS2 hS3 hb3 hg1 hg2 hg3 m17 hw1
 go_upto_region 2 with (at_builtin;refine q25 (by rfl) _ _ _ _ (by rfl) (.slice ta tn tc) (.slice (some ⟨w1.heap.size+1,0,none⟩) 1 1) _ _ (by rfl) (by rfl) happ ?_)
 obtain ⟨w4,hw4⟩:∃ w4,w3.setCell ⟨X.M,17,none⟩ (.slice (some ⟨t1,0,none⟩) 1 c1)=w4:=⟨_,rfl⟩
 have HSu:Hid (Sp X d u {d with cls:=.slice (some ⟨t1,0,none⟩) 1 c1} w4):=by
  rw[<-hw4]
  exact ((Sp.below HS.out H2.out.2.1).trans (Sp.below (HS.out.call H2.out.2.1) H3.out.2.1)).trans (Sp.clos H3.out.1 _)
 have HG:Hid (Gx (fun k=>k=X.M) w3 w4):=by rw[<-hw4];exact Gx.set _ _ _ _
 rw[hw4]
 clear hw4 happ m17a m17b mz hM1
 have m17:w4.cell? ⟨X.M,17,none⟩=some (.slice (some ⟨t1,0,none⟩) 1 c1):=HSu.out.s.m.1.cell 17 rfl
 have hM4:=HSu.out.s.m.1.1
 go_wp2_with fail
 refine (zg6 6 0 w4).mono ?_
 rintro e w5 ⟨rfl,hb5⟩
 have hlt:=H0.out.1
 have hlt2:=H2.out.2.2
 have h23:=H3.out.2.1.size
 have hMu:X.M<u.heap.size:=HS.out.m.1.1
 have hO4:OwnB w4 u.heap.size z5:=HG.out.ownB ((H0.out.2.1.block (by omega) (by rw[<-HW2.out];exact Below.heap_alloc _ _ _ (by omega))).block h23 (H3.out.2.1.block _ (by omega))) (by omega)
 have hO:OwnB w5 u.heap.size z5:=hO4.block hb5.size (hb5.block _ hO4.1.1)
 have r0:=hO.1.cell 0 rfl
 have r1:=hO.1.cell 1 rfl
 have r2:=hO.1.cell 2 rfl
 have r3:=hO.1.cell 3 rfl
 have r4:=hO.1.cell 4 rfl
 have rz:=hO.2
 have HC:Hid (Has w4 w1.heap.size (cA fn)):=HG.out.has (H2.out.1.call H3.out.2.1) (by omega)
 have HB5:Hid (Below w4.heap.size w4 w5):=hb5
 have HFin:Hid (∀ w6,Gx (fun k=>k=u.heap.size) w5 w6->NF X d u fn w1.heap.size t1 c1 w6):=fun w6 hg6=>by
  have hg1:=H3.out.2.2.1
  have hg2:=H3.out.2.2.2.1
  have h34:=HG.out.size
  have h45:=HB5.out.size
  refine ⟨Sp.beside HS.out (HSu.out.call HB5.out) hg6 (Nat.le_refl _) (HS.out.other (Nat.le_refl _)),hg6.has (HC.out.call HB5.out) (by omega),by omega,?_,by omega,?_⟩
  ·refine (World.cell?_of_block (a:=⟨t1,0,none⟩) (hg6.block t1 (by omega) (by omega))).trans ?_
   refine (World.cell?_of_block (a:=⟨t1,0,none⟩) (HB5.out.block t1 (by omega))).trans ?_
   refine (World.cell?_of_block (a:=⟨t1,0,none⟩) (HG.out.block t1 (by omega) (by omega))).trans H3.out.2.2.2.2
  ·have:=hg6.size;omega
 clear hO hO4 hb5 m17 hM4 hlt hlt2 h23 hMu
 go_wp2_with fail
 exact bodyPost_ret (v:=fnD.v) (by simp[results,Tryz.results277,go_sem,r0,r1,r2,r3,r4]) rfl ⟨_,_,_,rfl,HFin.out _ (gx5 _ _ _ _ _ _ _)⟩
theorem zo8 (X:RX) (d:MD) (u:World) (h:St X d u) (hc:d.sin+1<=X.ce) (hm:d.mad<=100000) :
  Calls Tryz.prog 274 #[ptr X.M,.int .i64 1] u fun e w'=>e=.returned (.tuple #[])/\To X d u (d.p.paid 1) w':=zv9 X d 1 u h hc hm
def FnTo (X:RX) (d:MD) (u:World) (fn:Int) (e:Ending) (w':World):Prop:=∃ C B c d',e=.returned fnD.v/\Sp X d u d' w'/\d'.p=(d.p.paid 1).clos (.slice (some ⟨B,0,none⟩) 1 c)/\Bx X d' w' C (cA fn)/\(w'.cell? ⟨B,0,none⟩=some (ptr C)/\B<w'.heap.size/\¬stB X d' B)/\u.heap.size<=C/\u.heap.size<=B
theorem z34 (X:RX) (d:MD) (b1 b2 b3:Nat) (ua:Option Addr) (uc:Nat) (fn:Int) (u:World) (h:St X d u) (k1:Od X b1 #[ptr X.M]) (k2:Od X b2 #[.slice ua 0 uc]) (k3:Od X b3 #[.int .i64 fn]) (hc:d.cls=.slice none 0 0) (hs:d.sin+1<=X.ce) (hm:d.mad<=100000) :
  Calls Tryz.prog 276 #[ptr X.F,ptr b1,ptr b2,ptr b3] u fun e w'=>FnTo X d u fn e w':=by
 have HS:Hid (St X d u):=h
 have HC:Hid (d.cls=.slice none 0 0):=hc
 have HSi:Hid (d.sin+1<=X.ce):=hs
 have HMa:Hid (d.mad<=100000):=hm
 have HK1:Hid (Od X b1 #[ptr X.M]):=k1
 have HK2:Hid (Od X b2 #[.slice ua 0 uc]):=k2
 have HK3:Hid (Od X b3 #[.int .i64 fn]):=k3
 have q1:=(k1.at h).cell 0 rfl
 have q2:=(k2.at h).cell 0 rfl
 have l1:=(k1.at h).1
 have l2:=(k2.at h).1
 clear h hc hs hm k1 k2 k3
 go_enter Tryz.func276,Tryz.ntmps276
 go_wp2_with fail
 refine (zo8 X d _ (HS.out.alloc _) HSi.out HMa.out).mono ?_
 rintro e w1 ⟨rfl,h1⟩
 have HT:Hid (∃ d1,Sp X d u d1 w1/\d1.p=d.p.paid 1/\BxO X d1 w1 u.heap.size z5):=by
  obtain ⟨d1,hs1,e1⟩:=h1
  exact ⟨d1,Sp.first HS.out hs1,e1,(BxO.new HS.out _ _).step hs1⟩
 obtain ⟨d1,H1⟩:∃ d1,Hid (Sp X d u d1 w1/\d1.p=d.p.paid 1/\BxO X d1 w1 u.heap.size z5):=HT.out
 clear h1 HT q1 q2 l1 l2
 have q1:=(HK1.out.at H1.out.1.s).cell 0 rfl
 have q2:=(HK2.out.at H1.out.1.s).cell 0 rfl
 have q3:=(HK3.out.at H1.out.1.s).cell 0 rfl
 have l1:=(HK1.out.at H1.out.1.s).1
 have l2:=(HK2.out.at H1.out.1.s).1
 have l3:=(HK3.out.at H1.out.1.s).1
 go_wp2_with fail
 refine wp_loop_rounds 1 ?_
 rw[rounds_succ];go_wp2_with fail
 have HC1:Hid (d1.cls=.slice none 0 0):=(congrArg DP.cls H1.out.2.1).trans HC.out
 refine (zg5 X d1 fn w1 H1.out.1.s HC1.out).mono ?_
 rintro e w2 ⟨C,B,c,rfl,h2⟩
 have HN:Hid (NF X d1 w1 fn C B c w2):=h2
 have HR:Hid (BxO X {d1 with cls:=.slice (some ⟨B,0,none⟩) 1 c} w2 u.heap.size z5):=H1.out.2.2.step h2.s
 have r0:=HR.out.1.1.cell 0 rfl
 have r1:=HR.out.1.1.cell 1 rfl
 have r2:=HR.out.1.1.cell 2 rfl
 have r3:=HR.out.1.1.cell 3 rfl
 have r4:=HR.out.1.1.cell 4 rfl
 have rz:=HR.out.1.2
 have HFin:Hid (∀ w6,Gx (fun k=>k=u.heap.size) w2 w6->FnTo X d u fn (.returned fnD.v) w6):=fun w6 hg6=>by
  have hN:=HN.out
  have hz:u.heap.size<w1.heap.size:=H1.out.2.2.1.1.1
  have hc1:=hN.kn
  have hb1:=hN.bn
  have hoC:¬stB X {d1 with cls:=.slice (some ⟨B,0,none⟩) 1 c} C:=H1.out.1.s.other hN.kn
  have hoB:¬stB X {d1 with cls:=.slice (some ⟨B,0,none⟩) 1 c} B:=H1.out.1.s.other hN.bn
  refine ⟨C,B,c,_,rfl,Sp.beside HS.out (H1.out.1.trans hN.s) hg6 (Nat.le_refl _) HR.out.2,?_,⟨hg6.has hN.k (by omega),hoC⟩,⟨?_,?_,hoB⟩,by omega,by omega⟩
  ·exact congrArg (fun q:DP=>q.clos (.slice (some ⟨B,0,none⟩) 1 c)) H1.out.2.1
  ·exact (World.cell?_of_block (a:=⟨B,0,none⟩) (hg6.block B hN.bl (by omega))).trans hN.b
  ·exact Nat.lt_of_lt_of_le hN.bl hg6.size
 clear h2
 go_wp2_with fail
 exact bodyPost_ret (v:=fnD.v) (by simp[results,Tryz.results276,go_sem,r0,r1,r2,r3,r4]) rfl (HFin.out _ (gx5 _ _ _ _ _ _ _))
theorem y89 (g c n j:Nat) (v:VD) (u:World) (hj:j<n) (hg:g<u.heap.size) (h:∀ i x,(v5 v)[i]?=some x->u.cell? ⟨g,j*5+i,none⟩=some x) :
  Calls Tryz.prog 83 #[.slice (some ⟨g,0,none⟩) n c,.int .i64 (j:Int)] u fun e w'=>e=.returned v.v/\Below u.heap.size u w':=by
 have c0:u.cell? ⟨g,j*5,none⟩=some (.int .i64 v.k):=h 0 _ rfl
 have c1:=h 1 _ rfl
 have c2:=h 2 _ rfl
 have c3:=h 3 _ rfl
 have c4:=h 4 _ rfl
 have hlt:((j:Int)<(n:Int)):=by omega
 have h0:(0:Int)<=(j:Int):=Int.natCast_nonneg _
 clear h
 go_enter Tryz.func83,Tryz.ntmps83
 go_wp2_with fail
 exact bodyPost_ret (v:=v.v) (by simp[results,Tryz.results83,go_sem]) rfl ⟨rfl,q01 _ _⟩
def Bl (X:RX) (d:MD) (u:World) (g:Nat) (l:List VD):Prop:=(g<u.heap.size/\∀ j v,(hL l)[j]?=some v->u.cell? ⟨g,j,none⟩=some v)/\¬stB X d g
theorem Bl.step {X:RX} {d d':MD} {u u':World} {g:Nat} {l:List VD} (h:Bl X d u g l) (k:Sp X d u d' u'):Bl X d' u' g l:=⟨⟨Nat.lt_of_lt_of_le h.1.1 k.g.size,fun j v hv=>(World.cell?_of_block (a:=⟨g,j,none⟩) (k.g.block _ h.1.1 h.2)).trans (h.1.2 j v hv)⟩,fun e=>h.2 (k.mv g h.1.1 e)⟩
theorem yq1 (l:List VD) (j:Nat) (v:VD) (h:l[j]?=some v) (i:Nat) (x:Value) (hx:(v5 v)[i]?=some x):(hL l)[j*5+i]?=some x:=by
 induction l generalizing j with
 |nil=>simp at h
 |cons y l ih=>
  have hi:i<5:=by
   have:=(List.getElem?_eq_some_iff.1 hx).1
   simpa[v5] using this
  cases j with
  |zero=>
   have hy:y=v:=by simpa using h
   subst hy
   show (v5 y++hL l)[0*5+i]?=some x
   rw[show 0*5+i=i by omega,List.getElem?_append_left (by simpa[v5] using hi)]
   exact hx
  |succ j=>
   have h':l[j]?=some v:=by simpa using h
   show (v5 y++hL l)[(j+1)*5+i]?=some x
   rw[List.getElem?_append_right (by simp[v5];omega),show (j+1)*5+i-(v5 y).length=j*5+i by simp[v5];omega]
   exact ih j h'
theorem Bl.at {X:RX} {d:MD} {u:World} {g:Nat} {l:List VD} (h:Bl X d u g l) {j:Nat} {v:VD} (hv:l[j]?=some v):∀ i x,(v5 v)[i]?=some x->u.cell? ⟨g,j*5+i,none⟩=some x:=fun i x hx=>h.1.2 _ _ (yq1 l j v hv i x hx)
def DP.decl (p:DP) (l:List (Nat×Nat)):DP:=l.foldl (fun p x=>(p.var x.1 (ptr x.2)).scope (x.1:Int)) p
theorem DP.decl_snoc (p:DP) (l:List (Nat×Nat)) (i q:Nat):p.decl (l++[(i,q)])=((p.decl l).var i (ptr q)).scope (i:Int):=by simp[DP.decl]
theorem DP.decl_sc (p:DP) (l:List (Nat×Nat)):(p.decl l).sc.length=p.sc.length+l.length:=by
 induction l generalizing p with
 |nil=>rfl
 |cons x l ih=>
  show (DP.decl _ l).sc.length=_
  rw[ih]
  simp[DP.var,DP.scope]
  omega
def zd5 (X:RX) (d:MD) (u:World) (iv:List Nat) (l:List VD) (j:Nat) (w':World):Prop:=∃ (qs:List (Nat×Nat)) (d':MD),qs.map Prod.fst=iv.take j/\Sp X d u d' w'/\d'.p=d.p.decl qs/\∀ (i:Nat) (x:Nat×Nat) (v:VD),qs[i]?=some x->l[i]?=some v->Bx X d' w' x.2 (vA v)
theorem qi9 (X:RX) (d:MD) (rb ro rc g c n:Nat) (iv:List Nat) (l:List VD) (u:World) (h:St X d u) (hr:∀ d' w',Sp X d u d' w'->∀ (j i:Nat),iv[j]?=some i->w'.cell? ⟨rb,ro+j,none⟩=some (.int .i64 (i:Int))) (hiv:∀ (j i:Nat),iv[j]?=some i->i<X.nv) (hg:Bl X d u g l) (hn:iv.length=n) (hl:l.length=n) (hn2:n<=100) (hsc:d.sc.length<=900) :
  Calls Tryz.prog 82 #[ptr X.F,.slice (some ⟨rb,ro,none⟩) n rc,.slice (some ⟨g,0,none⟩) n c] u fun e w'=>e=.returned (.tuple #[])/\zd5 X d u iv l n w':=by
 have HS:Hid (St X d u):=h
 have HG:Hid (Bl X d u g l):=hg
 have HR:Hid (∀ d' w',Sp X d u d' w'->∀ (j i:Nat),iv[j]?=some i->w'.cell? ⟨rb,ro+j,none⟩=some (.int .i64 (i:Int))):=hr
 have HI:Hid (∀ (j i:Nat),iv[j]?=some i->i<X.nv):=hiv
 have HN:Hid (iv.length=n/\l.length=n):=⟨hn,hl⟩
 have HC:Hid (d.sc.length<=900):=hsc
 clear h hg hr hiv hn hl hsc
 go_enter Tryz.func82,Tryz.ntmps82
 go_wp2_with fail
 go_loopw [10] (fun i wr=>∃ j:Nat,i=.int .i64 (j:Int)/\j<=n/\Hid (zd5 X d u iv l j wr)) (fun i _=>n-(intOf i).toNat)
 case atStart=>exact ⟨0,rfl,Nat.zero_le _,[],d,rfl,Sp.refl HS.out,rfl,fun i x v e=>by simp at e⟩
 case round=>
  obtain ⟨j,rfl,hj,HD⟩:=hrel
  by_cases hjn:j=n
  ·subst hjn
   have e0:((j:Int)<(j:Int))=False:=by simp
   go_wp2_with fail
   go_end0
   exact ⟨rfl,HD.out⟩
  ·obtain ⟨qs,d1,H1⟩:∃ (qs:List (Nat×Nat)) (d1:MD),Hid (qs.map Prod.fst=iv.take j/\Sp X d u d1 wr/\d1.p=d.p.decl qs/\∀ (i:Nat) (x:Nat×Nat) (v:VD),qs[i]?=some x->l[i]?=some v->Bx X d1 wr x.2 (vA v)):=HD.out
   obtain ⟨iz,hiz⟩:∃ iz,Hid (iv[j]?=some iz):=⟨iv[j]'(by have:=HN.out;omega),List.getElem?_eq_some_iff.2 ⟨by have:=HN.out;omega,rfl⟩⟩
   obtain ⟨v,hv⟩:∃ v,Hid (l[j]?=some v):=⟨l[j]'(by have:=HN.out;omega),List.getElem?_eq_some_iff.2 ⟨by have:=HN.out;omega,rfl⟩⟩
   have hlt:(j:Int)<(n:Int):=by omega
   have h0:(0:Int)<=(j:Int):=Int.natCast_nonneg _
   have hi0:(0:Int)<=(iz:Int):=Int.natCast_nonneg _
   have hiv:=HI.out j iz hiz.out
   have hi1:(iz:Int)<(X.nv:Int):=by omega
   have hS1:=H1.out.2.1.s
   have hr0:=HR.out d1 wr H1.out.2.1 j iz hiz.out
   have f8:=hS1.f.1.cell 8 rfl
   have hF:=hS1.f.1.1
   have hV:=hS1.v.1.1
   have vz:=hS1.v.2
   have HL:Hid (iz<d1.vs.length):=by have:=hS1.nv;show iz<d1.vs.length;omega
   obtain ⟨ov,hov⟩:∃ ov,Hid (d1.vs[iz]?=some ov):=⟨d1.vs[iz]'HL.out,List.getElem?_eq_some_iff.2 ⟨HL.out,rfl⟩⟩
   have v0:wr.cell? ⟨X.V,iz,none⟩=some ov:=(hS1.v.1.2 iz).trans (by simpa using hov.out)
   have HT:Hid (j<n/\n<=100):=⟨by omega,hn2⟩
   clear hS1 hjn hj
   go_upto_region 3 with fail
   go_region_with (go_at_call 83;refine (y89 g c n j v _ HT.out.1 (HG.out.step (H1.out.2.1.drew)).1.1 ((HG.out.step (H1.out.2.1.drew)).at hv.out)).mono ?_;rintro e w1 ⟨rfl,hb1⟩;have H3:Hid (Sp X d1 wr d1 w1):=((Sp.refl H1.out.2.1.s).drew).call hb1;have f8':=H3.out.s.f.1.cell 8 rfl;have hF':=H3.out.s.f.1.1;have hV':=H3.out.s.v.1.1;have v0':w1.cell? ⟨X.V,iz,none⟩=some ov:=(H3.out.s.v.1.2 iz).trans (by simpa using hov.out);have vz':=H3.out.s.v.2;clear hb1)
   all_goals
    obtain ⟨Q,hQ⟩:∃ Q,w1.heap.size=Q:=⟨_,rfl⟩
    obtain ⟨w2,hw2⟩:∃ w2,(w1.setCell ⟨X.V,iz,none⟩ (ptr Q)).alloc (.cells #[.int .i64 v.k,.int .i64 v.n,.float .f64 v.f,.string v.s,.int .i64 v.r] 219)=w2:=⟨_,rfl⟩
    have hs2:=Sp.var H3.out.s HL.out (ptr Q)
    have hs3:=hs2.alloc (.cells #[.int .i64 v.k,.int .i64 v.n,.float .f64 v.f,.string v.s,.int .i64 v.r] 219)
    have hbx:=Bx.new hs2.s (vA v) 219
    rw[show (w1.setCell ⟨X.V,iz,none⟩ (ptr Q)).heap.size=Q by rw[<-hQ];simp] at hbx
    obtain ⟨d2,hd2⟩:∃ d2,d2={d1 with vs:=d1.vs.set iz (ptr Q)}:=⟨_,rfl⟩
    have H2:Hid (Sp X d1 wr d2 w2/\d2.p=d1.p.var iz (ptr Q)):=by
     rw[hd2,<-hw2]
     exact ⟨H3.out.trans hs3,rfl⟩
    have HB2:Hid (Bx X d2 w2 Q (vA v)):=by rw[hd2,<-hw2];exact hbx
    have hql:qs.length=j:=by
     have:=congrArg List.length H1.out.1
     have hz:=HN.out
     have ht:=HT.out
     simp at this
     omega
    have hsc2:d2.sc.length<=1000:=by
     have e1:d2.sc=d1.sc:=by rw[hd2]
     have e2:d1.sc.length=d.sc.length+qs.length:=by
      have:=congrArg (fun q:DP=>q.sc.length) H1.out.2.2.1
      simp only[DP.decl_sc] at this
      exact this
     have ht:=HT.out
     have hc:=HC.out
     rw[e1,e2]
     omega
    have HQL:Hid (qs.length=j):=hql
    rw[hQ,hw2]
    clear hs2 hs3 hbx hw2 hQ hd2 H3 f8 hF hV v0 vz f8' hF' hV' v0' vz' hql
    have f10:=H2.out.1.s.f.1.cell 10 rfl
    obtain ⟨i0,hii0,hy0,hy1,hy2⟩:=info_parts zl7
    obtain ⟨v',w7,happ,hown,hgrow,_,hat⟩:=run_append_own_at (P:=Tryz.prog) (w2.alloc (.cells #[.int .i64 (iz:Int)] 3)) X.N 44 44 3 i0 _ 1 8 Tryz.underlying44 hii0 hy0 hy1 hy2 rfl (by decide) (.slice d2.sa d2.sc.length d2.sp) d2.sc.length (iL d2.sc) (H2.out.1.s.alloc _).sr ⟨w2.heap.size,0,none⟩ 1 1 [.int .i64 (iz:Int)] rfl (cell_one_new _ _ _) (by simp[Value.oneCell']) (by unfold maxLen;omega) (by omega) (H2.out.1.s.alloc _).n
    have hm:=(H2.out.1.s.alloc (.cells #[.int .i64 (iz:Int)] 3)).mids (by rw[q08] at hgrow;exact hgrow) (.inr (.inr (.inl rfl))) (fun q e=>q34 (H2.out.1.s.alloc (.cells #[.int .i64 (iz:Int)] 3)).sr e)
    obtain ⟨a3,c3,rfl,hs3⟩:=Sp.scope (z:=(iz:Int)) (H2.out.1.s.alloc (.cells #[.int .i64 (iz:Int)] 3)) hown hgrow hat
    have hs4:=(Sp.below H2.out.1.s (q01 w2 (.cells #[.int .i64 (iz:Int)] 3))).trans hs3
    have HF:Hid (zd5 X d u iv l (j+1) (w7.setCell ⟨X.F,10,none⟩ (.slice a3 (d2.sc.length+1) c3))):=by
     refine ⟨qs++[(iz,Q)],_,?_,H1.out.2.1.trans (H2.out.1.trans hs4),?_,fun i x y hx hy=>?_⟩
     ·rw[List.map_append,H1.out.1,List.take_add_one,hiz.out]
      rfl
     ·show DP.scope d2.p (iz:Int)=_
      rw[H2.out.2,H1.out.2.2.1,DP.decl_snoc]
     ·by_cases hij:i<qs.length
      ·rw[List.getElem?_append_left hij] at hx
       exact (H1.out.2.2.2 i x y hx hy).step (H2.out.1.trans hs4)
      ·have hi2:i=j:=by
        have:=(List.getElem?_eq_some_iff.1 hx).1
        have hq:=HQL.out
        simp at this
        omega
       have hxx:x=(iz,Q):=by
        rw[List.getElem?_append_right (by omega),show i-qs.length=0 by have hq:=HQL.out;omega] at hx
        simpa using hx.symm
       have hyy:y=v:=by
        have:=hv.out
        rw[hi2,this] at hy
        exact (Option.some.inj hy).symm
       subst hxx hyy
       exact HB2.out.step hs4
    have d10:=hm.2.2.1.1.cell 10 rfl
    have dz:=hm.2.2.1.2
    clear hown hgrow hat hs3 hs4 hm H2 HB2 hii0 hy0 hy1 hy2
    go_wp2_with (at_builtin;refine q25 (by rfl) _ _ _ _ (by rfl) (.slice d2.sa d2.sc.length d2.sp) (.slice (some ⟨w2.heap.size,0,none⟩) 1 1) _ _ (by rfl) (by rfl) happ ?_)
    go_roundw
    case rel=>exact ⟨j+1,by simp,HT.out.1,HF⟩
    case measure=>have:=HT.out;simp[intOf];omega
abbrev letV (a b:Nat):Value:=.func (.func 186) #[] #[ptr a,ptr b]
abbrev retV (a:Nat):Value:=.func (.func 174) #[] #[ptr a]
abbrev tryV (a b c e:Nat):Value:=.func (.func 211) #[] #[ptr a,ptr b,ptr c,ptr e]
def DP.begun (p:DP) (f L:Int):DP:=(p.tick.ln L).rcd ⟨1,0,f,L,⟨#[]⟩⟩
def q11 (X:RX) (d:MD) (u:World) (R:Value->MD->World->Prop) (e:Ending) (w':World):Prop:=∃ way d',e=.returned way/\Sp X d u d' w'/\R way d' w'
def LnTo (X:RX) (l:Int) (R:Value->MD->World->Prop) (way:Value) (d':MD) (w':World):Prop:=∃ d4 w4,R way d4 w4/\Sp X d4 w4 d' w'/\d'.p=d4.p.ln l
theorem zf0 (X:RX) (d:MD) (s1 s2 s3 bb x1 x2:Nat) (nd:Value) (A2:Array Value) (L:Int) (R:Value->MD->World->Prop) (u:World) (h:St X d u) (k1:Od X s1 #[ptr bb]) (kb:Od X bb #[ptr X.M,nd]) (k2:Od X s2 A2) (hA:A2[1]?=some (.int .i64 L)) (k3:Od X s3 #[letV x1 x2]) (hl:d.recs.length<4000) (ht:d.ti<X.tk)
  (hact:∀ d3 w3,Sp X d u d3 w3->d3.p=d.p.begun X.fn L->Calls Tryz.prog 186 #[ptr X.F,ptr x1,ptr x2] w3 fun e w'=>q11 X d3 w3 R e w') :
  Calls Tryz.prog 140 #[ptr X.F,ptr s1,ptr s2,ptr s3] u fun e w'=>q11 X d u (LnTo X d.line R) e w':=by
 have HS:Hid (St X d u):=h
 have HK1:Hid (Od X s1 #[ptr bb]):=k1
 have HKB:Hid (Od X bb #[ptr X.M,nd]):=kb
 have HK2:Hid (Od X s2 A2):=k2
 have HA:Hid (A2[1]?=some (.int .i64 L)):=hA
 have HK3:Hid (Od X s3 #[letV x1 x2]):=k3
 have HAct:Hid (∀ d3 w3,Sp X d u d3 w3->d3.p=d.p.begun X.fn L->Calls Tryz.prog 186 #[ptr X.F,ptr x1,ptr x2] w3 fun e w'=>q11 X d3 w3 R e w'):=hact
 have HL:Hid (d.recs.length<4000):=hl
 have HTi:Hid (d.ti<X.tk):=ht
 have b1:=(k1.at h).cell 0 rfl
 have b2:=(kb.at h).cell 0 rfl
 have l1:=(k1.at h).1
 have l2:=(kb.at h).1
 clear h k1 kb k2 hA k3 hl ht hact
 go_enter Tryz.func140,Tryz.ntmps140
 go_wp2_with fail
 refine (q62 X d _ HS.out HTi.out).mono ?_
 rintro e w1 ⟨rfl,d1,hs1,e1⟩
 have H1:Hid (Sp X d u d1 w1/\d1.p=d.p.tick):=⟨hs1,e1⟩
 have hli:d1.line=d.line:=congrArg DP.line e1
 clear hs1 e1 b1 b2 l1 l2
 have f12:w1.cell? ⟨X.F,12,none⟩=some (.int .i64 d.line):=by rw[<-hli];exact H1.out.1.s.f.1.cell 12 rfl
 have fz:=H1.out.1.s.f.2
 have n1:=(HK2.out.at H1.out.1.s).cell 1 HA.out
 have hne:X.F≠s2:=fun e=>by have h1:=HK2.out.1.1;have h2:=HS.out.x.f;omega
 have lF:=H1.out.1.s.f.1.1
 have lS:=(HK2.out.at H1.out.1.s).1
 go_upto_region 4 with fail
 obtain ⟨d2,w2,hw2,hs2,e2⟩:∃ d2 w2,w1.setCell ⟨X.F,12,none⟩ (.int .i64 L)=w2/\Sp X d1 w1 d2 w2/\d2.p=d1.p.ln L:=⟨_,_,rfl,Sp.line H1.out.1.s L,rfl⟩
 have H2:Hid (Sp X d u d2 w2/\d2.p=d.p.tick.ln L):=⟨H1.out.1.trans hs2,by rw[e2,H1.out.2]⟩
 rw[hw2]
 clear hw2 hs2 e2 H1 f12 fz n1 hli lF lS
 have b1:=(HK1.out.at H2.out.1.s).cell 0 rfl
 have bb':=(HKB.out.at H2.out.1.s).cell 0 rfl
 have f1:=H2.out.1.s.f.1.cell 1 rfl
 have n1:=(HK2.out.at H2.out.1.s).cell 1 HA.out
 have HS2:Hid (St X d2 w2.drew):=H2.out.1.s.drew
 have HL2:Hid (d2.recs.length<5000):=by
  have e:d2.recs=d.recs:=congrArg DP.recs H2.out.2
  have hz:=HL.out
  show d2.recs.length<5000
  rw[e];omega
 go_region_with (go_at_call 142;refine (q31 X d2 1 X.fn L ⟨#[]⟩ _ HS2.out HL2.out).mono ?_;rintro e w3 ⟨rfl,ht3⟩)
 all_goals
  obtain ⟨d3,hs3,e3⟩:=ht3
  have H3:Hid (Sp X d u d3 w3/\d3.p=d.p.begun X.fn L):=⟨H2.out.1.drew.trans hs3,by rw[e3,H2.out.2];rfl⟩
  clear hs3 e3 H2 HS2 b1 bb' f1 n1 HL2
  have s3':=(HK3.out.at H3.out.1.s).cell 0 rfl
  have l3:=(HK3.out.at H3.out.1.s).1
  go_wp2_with fail
  refine (HAct.out d3 w3 H3.out.1 H3.out.2).mono ?_
  rintro e w4 ⟨way,d4,rfl,hs4,hr4⟩
  have H4:Hid (Sp X d u d4 w4/\R way d4 w4):=⟨H3.out.1.trans hs4,hr4⟩
  clear hs4 hr4 H3 s3' l3
  have f12:=H4.out.1.s.f.1.cell 12 rfl
  have fz:=H4.out.1.s.f.2
  have lF:=H4.out.1.s.f.1.1
  have HF:Hid (q11 X d u (LnTo X d.line R) (.returned way) (w4.setCell ⟨X.F,12,none⟩ (.int .i64 d.line))):=⟨way,_,rfl,H4.out.1.trans (Sp.line H4.out.1.s d.line),d4,w4,H4.out.2,Sp.line H4.out.1.s d.line,rfl⟩
  go_wp2_with fail
  go_ret
  exact HF.out
theorem zo2 (X:RX) (d:MD) (s1 s2 s3 bb x1:Nat) (nd:Value) (A2:Array Value) (L:Int) (R:Value->MD->World->Prop) (u:World) (h:St X d u) (k1:Od X s1 #[ptr bb]) (kb:Od X bb #[ptr X.M,nd]) (k2:Od X s2 A2) (hA:A2[1]?=some (.int .i64 L)) (k3:Od X s3 #[doV x1]) (hl:d.recs.length<4000) (ht:d.ti<X.tk)
  (hact:∀ d3 w3,Sp X d u d3 w3->d3.p=d.p.begun X.fn L->Calls Tryz.prog 167 #[ptr X.F,ptr x1] w3 fun e w'=>q11 X d3 w3 R e w') :
  Calls Tryz.prog 140 #[ptr X.F,ptr s1,ptr s2,ptr s3] u fun e w'=>q11 X d u (LnTo X d.line R) e w':=by
 have HS:Hid (St X d u):=h
 have HK1:Hid (Od X s1 #[ptr bb]):=k1
 have HKB:Hid (Od X bb #[ptr X.M,nd]):=kb
 have HK2:Hid (Od X s2 A2):=k2
 have HA:Hid (A2[1]?=some (.int .i64 L)):=hA
 have HK3:Hid (Od X s3 #[doV x1]):=k3
 have HAct:Hid (∀ d3 w3,Sp X d u d3 w3->d3.p=d.p.begun X.fn L->Calls Tryz.prog 167 #[ptr X.F,ptr x1] w3 fun e w'=>q11 X d3 w3 R e w'):=hact
 have HL:Hid (d.recs.length<4000):=hl
 have HTi:Hid (d.ti<X.tk):=ht
 have b1:=(k1.at h).cell 0 rfl
 have b2:=(kb.at h).cell 0 rfl
 have l1:=(k1.at h).1
 have l2:=(kb.at h).1
 clear h k1 kb k2 hA k3 hl ht hact
 go_enter Tryz.func140,Tryz.ntmps140
 go_wp2_with fail
 refine (q62 X d _ HS.out HTi.out).mono ?_
 rintro e w1 ⟨rfl,d1,hs1,e1⟩
 have H1:Hid (Sp X d u d1 w1/\d1.p=d.p.tick):=⟨hs1,e1⟩
 have hli:d1.line=d.line:=congrArg DP.line e1
 clear hs1 e1 b1 b2 l1 l2
 have f12:w1.cell? ⟨X.F,12,none⟩=some (.int .i64 d.line):=by rw[<-hli];exact H1.out.1.s.f.1.cell 12 rfl
 have fz:=H1.out.1.s.f.2
 have n1:=(HK2.out.at H1.out.1.s).cell 1 HA.out
 have hne:X.F≠s2:=fun e=>by have h1:=HK2.out.1.1;have h2:=HS.out.x.f;omega
 have lF:=H1.out.1.s.f.1.1
 have lS:=(HK2.out.at H1.out.1.s).1
 go_upto_region 4 with fail
 obtain ⟨d2,w2,hw2,hs2,e2⟩:∃ d2 w2,w1.setCell ⟨X.F,12,none⟩ (.int .i64 L)=w2/\Sp X d1 w1 d2 w2/\d2.p=d1.p.ln L:=⟨_,_,rfl,Sp.line H1.out.1.s L,rfl⟩
 have H2:Hid (Sp X d u d2 w2/\d2.p=d.p.tick.ln L):=⟨H1.out.1.trans hs2,by rw[e2,H1.out.2]⟩
 rw[hw2]
 clear hw2 hs2 e2 H1 f12 fz n1 hli lF lS
 have b1:=(HK1.out.at H2.out.1.s).cell 0 rfl
 have bb':=(HKB.out.at H2.out.1.s).cell 0 rfl
 have f1:=H2.out.1.s.f.1.cell 1 rfl
 have n1:=(HK2.out.at H2.out.1.s).cell 1 HA.out
 have HS2:Hid (St X d2 w2.drew):=H2.out.1.s.drew
 have HL2:Hid (d2.recs.length<5000):=by
  have e:d2.recs=d.recs:=congrArg DP.recs H2.out.2
  have hz:=HL.out
  show d2.recs.length<5000
  rw[e];omega
 go_region_with (go_at_call 142;refine (q31 X d2 1 X.fn L ⟨#[]⟩ _ HS2.out HL2.out).mono ?_;rintro e w3 ⟨rfl,ht3⟩)
 all_goals
  obtain ⟨d3,hs3,e3⟩:=ht3
  have H3:Hid (Sp X d u d3 w3/\d3.p=d.p.begun X.fn L):=⟨H2.out.1.drew.trans hs3,by rw[e3,H2.out.2];rfl⟩
  clear hs3 e3 H2 HS2 b1 bb' f1 n1 HL2
  have s3':=(HK3.out.at H3.out.1.s).cell 0 rfl
  have l3:=(HK3.out.at H3.out.1.s).1
  go_wp2_with fail
  refine (HAct.out d3 w3 H3.out.1 H3.out.2).mono ?_
  rintro e w4 ⟨way,d4,rfl,hs4,hr4⟩
  have H4:Hid (Sp X d u d4 w4/\R way d4 w4):=⟨H3.out.1.trans hs4,hr4⟩
  clear hs4 hr4 H3 s3' l3
  have f12:=H4.out.1.s.f.1.cell 12 rfl
  have fz:=H4.out.1.s.f.2
  have lF:=H4.out.1.s.f.1.1
  have HF:Hid (q11 X d u (LnTo X d.line R) (.returned way) (w4.setCell ⟨X.F,12,none⟩ (.int .i64 d.line))):=⟨way,_,rfl,H4.out.1.trans (Sp.line H4.out.1.s d.line),d4,w4,H4.out.2,Sp.line H4.out.1.s d.line,rfl⟩
  go_wp2_with fail
  go_ret
  exact HF.out
theorem ze9 (X:RX) (d:MD) (s1 s2 s3 bb x1:Nat) (nd:Value) (A2:Array Value) (L:Int) (R:Value->MD->World->Prop) (u:World) (h:St X d u) (k1:Od X s1 #[ptr bb]) (kb:Od X bb #[ptr X.M,nd]) (k2:Od X s2 A2) (hA:A2[1]?=some (.int .i64 L)) (k3:Od X s3 #[retV x1]) (hl:d.recs.length<4000) (ht:d.ti<X.tk)
  (hact:∀ d3 w3,Sp X d u d3 w3->d3.p=d.p.begun X.fn L->Calls Tryz.prog 174 #[ptr X.F,ptr x1] w3 fun e w'=>q11 X d3 w3 R e w') :
  Calls Tryz.prog 140 #[ptr X.F,ptr s1,ptr s2,ptr s3] u fun e w'=>q11 X d u (LnTo X d.line R) e w':=by
 have HS:Hid (St X d u):=h
 have HK1:Hid (Od X s1 #[ptr bb]):=k1
 have HKB:Hid (Od X bb #[ptr X.M,nd]):=kb
 have HK2:Hid (Od X s2 A2):=k2
 have HA:Hid (A2[1]?=some (.int .i64 L)):=hA
 have HK3:Hid (Od X s3 #[retV x1]):=k3
 have HAct:Hid (∀ d3 w3,Sp X d u d3 w3->d3.p=d.p.begun X.fn L->Calls Tryz.prog 174 #[ptr X.F,ptr x1] w3 fun e w'=>q11 X d3 w3 R e w'):=hact
 have HL:Hid (d.recs.length<4000):=hl
 have HTi:Hid (d.ti<X.tk):=ht
 have b1:=(k1.at h).cell 0 rfl
 have b2:=(kb.at h).cell 0 rfl
 have l1:=(k1.at h).1
 have l2:=(kb.at h).1
 clear h k1 kb k2 hA k3 hl ht hact
 go_enter Tryz.func140,Tryz.ntmps140
 go_wp2_with fail
 refine (q62 X d _ HS.out HTi.out).mono ?_
 rintro e w1 ⟨rfl,d1,hs1,e1⟩
 have H1:Hid (Sp X d u d1 w1/\d1.p=d.p.tick):=⟨hs1,e1⟩
 have hli:d1.line=d.line:=congrArg DP.line e1
 clear hs1 e1 b1 b2 l1 l2
 have f12:w1.cell? ⟨X.F,12,none⟩=some (.int .i64 d.line):=by rw[<-hli];exact H1.out.1.s.f.1.cell 12 rfl
 have fz:=H1.out.1.s.f.2
 have n1:=(HK2.out.at H1.out.1.s).cell 1 HA.out
 have hne:X.F≠s2:=fun e=>by have h1:=HK2.out.1.1;have h2:=HS.out.x.f;omega
 have lF:=H1.out.1.s.f.1.1
 have lS:=(HK2.out.at H1.out.1.s).1
 go_upto_region 4 with fail
 obtain ⟨d2,w2,hw2,hs2,e2⟩:∃ d2 w2,w1.setCell ⟨X.F,12,none⟩ (.int .i64 L)=w2/\Sp X d1 w1 d2 w2/\d2.p=d1.p.ln L:=⟨_,_,rfl,Sp.line H1.out.1.s L,rfl⟩
 have H2:Hid (Sp X d u d2 w2/\d2.p=d.p.tick.ln L):=⟨H1.out.1.trans hs2,by rw[e2,H1.out.2]⟩
 rw[hw2]
 clear hw2 hs2 e2 H1 f12 fz n1 hli lF lS
 have b1:=(HK1.out.at H2.out.1.s).cell 0 rfl
 have bb':=(HKB.out.at H2.out.1.s).cell 0 rfl
 have f1:=H2.out.1.s.f.1.cell 1 rfl
 have n1:=(HK2.out.at H2.out.1.s).cell 1 HA.out
 have HS2:Hid (St X d2 w2.drew):=H2.out.1.s.drew
 have HL2:Hid (d2.recs.length<5000):=by
  have e:d2.recs=d.recs:=congrArg DP.recs H2.out.2
  have hz:=HL.out
  show d2.recs.length<5000
  rw[e];omega
 go_region_with (go_at_call 142;refine (q31 X d2 1 X.fn L ⟨#[]⟩ _ HS2.out HL2.out).mono ?_;rintro e w3 ⟨rfl,ht3⟩)
 all_goals
  obtain ⟨d3,hs3,e3⟩:=ht3
  have H3:Hid (Sp X d u d3 w3/\d3.p=d.p.begun X.fn L):=⟨H2.out.1.drew.trans hs3,by rw[e3,H2.out.2];rfl⟩
  clear hs3 e3 H2 HS2 b1 bb' f1 n1 HL2
  have s3':=(HK3.out.at H3.out.1.s).cell 0 rfl
  have l3:=(HK3.out.at H3.out.1.s).1
  go_wp2_with fail
  refine (HAct.out d3 w3 H3.out.1 H3.out.2).mono ?_
  rintro e w4 ⟨way,d4,rfl,hs4,hr4⟩
  have H4:Hid (Sp X d u d4 w4/\R way d4 w4):=⟨H3.out.1.trans hs4,hr4⟩
  clear hs4 hr4 H3 s3' l3
  have f12:=H4.out.1.s.f.1.cell 12 rfl
  have fz:=H4.out.1.s.f.2
  have lF:=H4.out.1.s.f.1.1
  have HF:Hid (q11 X d u (LnTo X d.line R) (.returned way) (w4.setCell ⟨X.F,12,none⟩ (.int .i64 d.line))):=⟨way,_,rfl,H4.out.1.trans (Sp.line H4.out.1.s d.line),d4,w4,H4.out.2,Sp.line H4.out.1.s d.line,rfl⟩
  go_wp2_with fail
  go_ret
  exact HF.out
theorem qo4 (X:RX) (d:MD) (s1 s2 s3 bb x1 x2 x3 x4:Nat) (nd:Value) (A2:Array Value) (L:Int) (R:Value->MD->World->Prop) (u:World) (h:St X d u) (k1:Od X s1 #[ptr bb]) (kb:Od X bb #[ptr X.M,nd]) (k2:Od X s2 A2) (hA:A2[1]?=some (.int .i64 L)) (k3:Od X s3 #[tryV x1 x2 x3 x4]) (hl:d.recs.length<4000) (ht:d.ti<X.tk)
  (hact:∀ d3 w3,Sp X d u d3 w3->d3.p=d.p.begun X.fn L->Calls Tryz.prog 211 #[ptr X.F,ptr x1,ptr x2,ptr x3,ptr x4] w3 fun e w'=>q11 X d3 w3 R e w') :
  Calls Tryz.prog 140 #[ptr X.F,ptr s1,ptr s2,ptr s3] u fun e w'=>q11 X d u (LnTo X d.line R) e w':=by
 have HS:Hid (St X d u):=h
 have HK1:Hid (Od X s1 #[ptr bb]):=k1
 have HKB:Hid (Od X bb #[ptr X.M,nd]):=kb
 have HK2:Hid (Od X s2 A2):=k2
 have HA:Hid (A2[1]?=some (.int .i64 L)):=hA
 have HK3:Hid (Od X s3 #[tryV x1 x2 x3 x4]):=k3
 have HAct:Hid (∀ d3 w3,Sp X d u d3 w3->d3.p=d.p.begun X.fn L->Calls Tryz.prog 211 #[ptr X.F,ptr x1,ptr x2,ptr x3,ptr x4] w3 fun e w'=>q11 X d3 w3 R e w'):=hact
 have HL:Hid (d.recs.length<4000):=hl
 have HTi:Hid (d.ti<X.tk):=ht
 have b1:=(k1.at h).cell 0 rfl
 have b2:=(kb.at h).cell 0 rfl
 have l1:=(k1.at h).1
 have l2:=(kb.at h).1
 clear h k1 kb k2 hA k3 hl ht hact
 go_enter Tryz.func140,Tryz.ntmps140
 go_wp2_with fail
 refine (q62 X d _ HS.out HTi.out).mono ?_
 rintro e w1 ⟨rfl,d1,hs1,e1⟩
 have H1:Hid (Sp X d u d1 w1/\d1.p=d.p.tick):=⟨hs1,e1⟩
 have hli:d1.line=d.line:=congrArg DP.line e1
 clear hs1 e1 b1 b2 l1 l2
 have f12:w1.cell? ⟨X.F,12,none⟩=some (.int .i64 d.line):=by rw[<-hli];exact H1.out.1.s.f.1.cell 12 rfl
 have fz:=H1.out.1.s.f.2
 have n1:=(HK2.out.at H1.out.1.s).cell 1 HA.out
 have hne:X.F≠s2:=fun e=>by have h1:=HK2.out.1.1;have h2:=HS.out.x.f;omega
 have lF:=H1.out.1.s.f.1.1
 have lS:=(HK2.out.at H1.out.1.s).1
 go_upto_region 4 with fail
 obtain ⟨d2,w2,hw2,hs2,e2⟩:∃ d2 w2,w1.setCell ⟨X.F,12,none⟩ (.int .i64 L)=w2/\Sp X d1 w1 d2 w2/\d2.p=d1.p.ln L:=⟨_,_,rfl,Sp.line H1.out.1.s L,rfl⟩
 have H2:Hid (Sp X d u d2 w2/\d2.p=d.p.tick.ln L):=⟨H1.out.1.trans hs2,by rw[e2,H1.out.2]⟩
 rw[hw2]
 clear hw2 hs2 e2 H1 f12 fz n1 hli lF lS
 have b1:=(HK1.out.at H2.out.1.s).cell 0 rfl
 have bb':=(HKB.out.at H2.out.1.s).cell 0 rfl
 have f1:=H2.out.1.s.f.1.cell 1 rfl
 have n1:=(HK2.out.at H2.out.1.s).cell 1 HA.out
 have HS2:Hid (St X d2 w2.drew):=H2.out.1.s.drew
 have HL2:Hid (d2.recs.length<5000):=by
  have e:d2.recs=d.recs:=congrArg DP.recs H2.out.2
  have hz:=HL.out
  show d2.recs.length<5000
  rw[e];omega
 go_region_with (go_at_call 142;refine (q31 X d2 1 X.fn L ⟨#[]⟩ _ HS2.out HL2.out).mono ?_;rintro e w3 ⟨rfl,ht3⟩)
 all_goals
  obtain ⟨d3,hs3,e3⟩:=ht3
  have H3:Hid (Sp X d u d3 w3/\d3.p=d.p.begun X.fn L):=⟨H2.out.1.drew.trans hs3,by rw[e3,H2.out.2];rfl⟩
  clear hs3 e3 H2 HS2 b1 bb' f1 n1 HL2
  have s3':=(HK3.out.at H3.out.1.s).cell 0 rfl
  have l3:=(HK3.out.at H3.out.1.s).1
  go_wp2_with fail
  refine (HAct.out d3 w3 H3.out.1 H3.out.2).mono ?_
  rintro e w4 ⟨way,d4,rfl,hs4,hr4⟩
  have H4:Hid (Sp X d u d4 w4/\R way d4 w4):=⟨H3.out.1.trans hs4,hr4⟩
  clear hs4 hr4 H3 s3' l3
  have f12:=H4.out.1.s.f.1.cell 12 rfl
  have fz:=H4.out.1.s.f.2
  have lF:=H4.out.1.s.f.1.1
  have HF:Hid (q11 X d u (LnTo X d.line R) (.returned way) (w4.setCell ⟨X.F,12,none⟩ (.int .i64 d.line))):=⟨way,_,rfl,H4.out.1.trans (Sp.line H4.out.1.s d.line),d4,w4,H4.out.2,Sp.line H4.out.1.s d.line,rfl⟩
  go_wp2_with fail
  go_ret
  exact HF.out
def Oo (X:RX) (B o:Nat) (v:Value):Prop:=(B<X.W.heap.size/\X.W.cell? ⟨B,o,none⟩=some v)/\B≠X.M
theorem Oo.at {X:RX} {d:MD} {u:World} {B o:Nat} {v:Value} (h:Oo X B o v) (s:St X d u):u.cell? ⟨B,o,none⟩=some v:=(World.cell?_of_block (a:=⟨B,o,none⟩) (s.k.block B h.1.1 (fun e=>by
 rcases e with e|e
 ·exact h.2 e
 ·have:=h.1.1;omega))).trans h.1.2
abbrev clV (a b c:Nat):Value:=.func (.func 276) #[] #[ptr a,ptr b,ptr c]
abbrev forV (a:Nat):Value:=.func (.func 234) #[] #[ptr a]
def FnHas (X:RX) (d:MD) (w:World) (fn:Int) (C B:Nat):Prop:=Bx X d w C (cA fn)/\(w.cell? ⟨B,0,none⟩=some (ptr C)/\B<w.heap.size/\¬stB X d B)
theorem FnHas.step {X:RX} {d d':MD} {u u':World} {fn:Int} {C B:Nat} (h:FnHas X d u fn C B) (k:Sp X d u d' u'):FnHas X d' u' fn C B:=
 ⟨h.1.step k,(World.cell?_of_block (a:=⟨B,0,none⟩) (k.g.block B h.2.2.1 h.2.2.2)).trans h.2.1,Nat.lt_of_lt_of_le h.2.2.1 k.g.size,fun e=>h.2.2.2 (k.mv B h.2.2.1 e)⟩
def yi3 (X:RX) (d:MD) (u:World) (fn:Int) (e:Ending) (w':World):Prop:=∃ g C B c d',e=.returned (.slice (some ⟨g,0,none⟩) 1 1)/\Sp X d u d' w'/\d'.p=(d.p.paid 1).clos (.slice (some ⟨B,0,none⟩) 1 c)/\Bl X d' w' g [fnD]/\FnHas X d' w' fn C B
theorem Bl.new {X:RX} {d:MD} {u:World} (h:St X d u) (v:VD) (t:TypeId):Bl X d (u.alloc (.cells (vA v) t)) u.heap.size [v]:=by
 refine ⟨⟨by simp,fun j x hx=>?_⟩,h.other (Nat.le_refl _)⟩
 refine ((Has.new u (vA v) t).2 j).trans ?_
 have:hL [v]=v5 v:=by simp[hL]
 rw[this] at hx
 rw[<-Array.getElem?_toList]
 exact hx
theorem z11 (X:RX) (d:MD) (p b1 b2 b3:Nat) (ua:Option Addr) (uc:Nat) (fn:Int) (u:World) (h:St X d u) (k0:Od X p #[clV b1 b2 b3]) (k1:Od X b1 #[ptr X.M]) (k2:Od X b2 #[.slice ua 0 uc]) (k3:Od X b3 #[.int .i64 fn]) (hc:d.cls=.slice none 0 0) (hs:d.sin+1<=X.ce) (hm:d.mad<=100000) :
  Calls Tryz.prog 234 #[ptr X.F,ptr p] u fun e w'=>yi3 X d u fn e w':=by
 have HC:=z34 X d b1 b2 b3 ua uc fn u h k1 k2 k3 hc hs hm
 have q0:=(k0.at h).cell 0 rfl
 have l0:=(k0.at h).1
 clear h k0 k1 k2 k3 hc hs hm
 go_enter Tryz.func234,Tryz.ntmps234
 go_wp2_with fail
 refine HC.mono ?_
 rintro e w1 ⟨C,B,c,d1,rfl,hs1,e1,hC,hB,_,_⟩
 have HF:Hid (yi3 X d u fn (.returned (.slice (some ⟨w1.heap.size,0,none⟩) 1 1)) (w1.alloc (.cells (vA fnD) 113))):=⟨_,C,B,c,d1,rfl,hs1.alloc _,e1,Bl.new hs1.s fnD _,(show FnHas X d1 w1 fn C B from ⟨hC,hB⟩).step ((Sp.refl hs1.s).alloc _)⟩
 clear hs1 e1 hC hB HC
 go_wp2_with fail
 go_ret
 exact HF.out
theorem y54 (qs:List (Nat×Nat)) (i:Nat) (h:qs.map Prod.fst=[i].take 1):∃ Q,qs=[(i,Q)]:=by
 cases qs with
 |nil=>simp at h
 |cons x qs=>
  cases qs with
  |nil=>
   have e:x.1=i:=by simpa using h
   exact ⟨x.2,by rw[<-e]⟩
  |cons y qs=>simp at h
def yo2 (X:RX) (d:MD) (fn:Int) (i:Nat) (way:Value) (d':MD) (w':World):Prop:=way=.nilIface/\∃ Q C B c,d'.p=(((d.p.paid 1).clos (.slice (some ⟨B,0,none⟩) 1 c)).var i (ptr Q)).scope (i:Int)/\Bx X d' w' Q (vA fnD)/\FnHas X d' w' fn C B
theorem zy0 (X:RX) (d:MD) (x1 x2 p b1 b2 b3 rb ro rc i:Nat) (A2:Array Value) (ua:Option Addr) (uc:Nat) (fn:Int) (u:World) (h:St X d u) (n1:Od X x1 A2) (hA:A2[6]?=some (.slice (some ⟨rb,ro,none⟩) 1 rc)) (hr:Oo X rb ro (.int .i64 (i:Int))) (hi:i<X.nv) (n2:Od X x2 #[forV p]) (k0:Od X p #[clV b1 b2 b3]) (k1:Od X b1 #[ptr X.M]) (k2:Od X b2 #[.slice ua 0 uc]) (k3:Od X b3 #[.int .i64 fn]) (hc:d.cls=.slice none 0 0) (hs:d.sin+1<=X.ce) (hm:d.mad<=100000) (hsc:d.sc.length<=900) :
  Calls Tryz.prog 186 #[ptr X.F,ptr x1,ptr x2] u fun e w'=>q11 X d u (yo2 X d fn i) e w':=by
 have HS:Hid (St X d u):=h
 have HL:Hid (∀ w,Below u.heap.size u w->Calls Tryz.prog 234 #[ptr X.F,ptr p] w fun e w'=>yi3 X d w fn e w'):=fun w hb=>z11 X d p b1 b2 b3 ua uc fn w (h.call hb) k0 k1 k2 k3 hc hs hm
 have HD:Hid (∀ (d1:MD) (w1:World) (g:Nat),St X d1 w1->d1.sc=d.sc->Bl X d1 w1 g [fnD]->Calls Tryz.prog 82 #[ptr X.F,.slice (some ⟨rb,ro,none⟩) 1 rc,.slice (some ⟨g,0,none⟩) 1 1] w1 fun e w'=>e=.returned (.tuple #[])/\zd5 X d1 w1 [i] [fnD] 1 w'):=fun d1 w1 g h1 e1 hb=>qi9 X d1 rb ro rc g 1 1 [i] [fnD] w1 h1 (fun d' w' k j z hz=>by
  cases j with
  |zero=>
   have:i=z:=by simpa using hz
   subst this
   exact hr.at k.s
  |succ j=>simp at hz) (fun j z hz=>by
  cases j with
  |zero=>
   have:i=z:=by simpa using hz
   subst this
   exact hi
  |succ j=>simp at hz) hb rfl rfl (by omega) (by rw[e1];exact hsc)
 have HN1:Hid (Od X x1 A2):=n1
 have HA:Hid (A2[6]?=some (.slice (some ⟨rb,ro,none⟩) 1 rc)):=hA
 have a6:=(n1.at h).cell 6 hA
 have a2:=(n2.at h).cell 0 rfl
 have l1:=(n1.at h).1
 have l2:=(n2.at h).1
 clear h n1 hA hr hi n2 k0 k1 k2 k3 hc hs hm hsc
 go_enter Tryz.func186,Tryz.ntmps186
 go_wp2_with fail
 go_region_with (first
  |(go_at_call 234;refine (HL.out _ (Below.refl _ _).drew).mono ?_;rintro e w1 ⟨g,C,B,c,d1,rfl,hs1,e1,hb1,hf1⟩;have H1:Hid (Sp X d u d1 w1/\d1.p=(d.p.paid 1).clos (.slice (some ⟨B,0,none⟩) 1 c)/\Bl X d1 w1 g [fnD]/\FnHas X d1 w1 fn C B):=⟨((Sp.refl HS.out).drew).trans hs1,e1,hb1,hf1⟩;have a6':=(HN1.out.at H1.out.1.s).cell 6 HA.out;have l1':=(HN1.out.at H1.out.1.s).1;clear hs1 e1 hb1 hf1)
  |(go_at_call 82;refine (HD.out d1 w1 g H1.out.1.s (congrArg DP.sc H1.out.2.1) H1.out.2.2.1).mono ?_;rintro e w2 ⟨rfl,qs,d2,hq,hs2,e2,hb2⟩))
 all_goals
  obtain ⟨Q,rfl⟩:=y54 qs i hq
  have HF:Hid (q11 X d u (yo2 X d fn i) (.returned .nilIface) w2):=⟨_,d2,rfl,H1.out.1.trans hs2,rfl,Q,C,B,c,by rw[e2,H1.out.2.1];rfl,hb2 0 (i,Q) fnD rfl rfl,H1.out.2.2.2.step hs2⟩
  clear hq hs2 e2 hb2
  go_wp2_with fail
  go_ret
  exact HF.out
theorem OwV.bl {X:RX} {d:MD} {w:World} {N g c:Nat} {l:List VD} (h:OwV N w g c l) (hn:¬stB X d g):Bl X d w g l:=
 ⟨⟨(q09 h (k:=g) rfl).2,fun j v hv=>by
  have:=h.cells (g:=g) rfl j v hv
  cases j<;>simpa[Addr.add] using this⟩,hn⟩
theorem OwV.cap {w:World} {N g c:Nat} {l:List VD} (h:OwV N w g c l):l.length<=c:=by
 rcases h.2 with ⟨e,h0⟩|⟨g',cap,cur,e,_,hg,h5,_⟩
 ·have:(Value.slice (some (⟨g,0,none⟩:Addr)) l.length c)=.slice none 0 0:=e
  simp at this
 ·have:c=cap:=by simpa using (show g=g'/\c=cap by simpa using e).2
  omega
def RetTo (X:RX) (N:Nat) (l:List VD) (q:DP) (way:Value) (d':MD) (w':World):Prop:=∃ K g c,way=.iface 184 (ptr K)/\Bx X d' w' K #[.slice (some ⟨g,0,none⟩) l.length c]/\Bl X d' w' g l/\l.length<=c/\(N<=K/\N<=g)/\d'.p=q
theorem zv2 (X:RX) (d:MD) (x1 l1 l2 b1:Nat) (l:List VD) (q:DP) (u:World) (h:St X d u) (k1:Od X x1 #[qg5 l1 l2 b1])
  (hL:Calls Tryz.prog 209 #[ptr X.F,ptr l1,ptr l2,ptr b1] u fun e w'=>qa5 X d u l q e w') :
  Calls Tryz.prog 174 #[ptr X.F,ptr x1] u fun e w'=>q11 X d u (RetTo X u.heap.size l q) e w':=by
 have q1:=(k1.at h).cell 0 rfl
 have z1:=(k1.at h).1
 clear h k1
 go_enter Tryz.func174,Tryz.ntmps174
 go_wp2_with fail
 refine hL.mono ?_
 rintro e w1 ⟨g,c,d1,rfl,ho,hs1,e1,hn⟩
 obtain ⟨n,hn'⟩:∃ n,l.length=n:=⟨_,rfl⟩
 have HF:Hid (q11 X d u (RetTo X u.heap.size l q) (.returned (.iface 184 (ptr w1.heap.size))) (w1.alloc (.cells #[.slice (some ⟨g,0,none⟩) n c] 188))):=by
  rw[<-hn']
  exact ⟨_,d1,rfl,hs1.alloc _,w1.heap.size,g,c,rfl,Bx.new hs1.s _ _,(ho.bl hn).step ((Sp.refl hs1.s).alloc _),ho.cap,⟨hs1.g.size,(q09 ho (k:=g) rfl).1⟩,e1⟩
 rw[hn']
 clear ho hs1 e1 hn hn' hL
 go_wp2_with fail
 go_ret
 exact HF.out
theorem RetTo.step {X:RX} {N:Nat} {l:List VD} {q q':DP} {way:Value} {d d':MD} {w w':World} (h:RetTo X N l q way d w) (k:Sp X d w d' w') (e:d'.p=q'):RetTo X N l q' way d' w':=by
 obtain ⟨K,g,c,h1,h2,h3,h4,h5,_⟩:=h
 exact ⟨K,g,c,h1,h2.step k,h3.step k,h4,h5,e⟩
theorem RetTo.ln {X:RX} {N:Nat} {l:List VD} {q:DP} {way:Value} {d':MD} {w':World} {z:Int} (h:LnTo X z (RetTo X N l q) way d' w'):RetTo X N l (q.ln z) way d' w':=by
 obtain ⟨d4,w4,h1,h2,h3⟩:=h
 exact h1.step h2 (by rw[h3,h1.choose_spec.choose_spec.choose_spec.2.2.2.2.2])
theorem RetTo.mono {X:RX} {N N':Nat} {l:List VD} {q:DP} {way:Value} {d:MD} {w:World} (h:RetTo X N l q way d w) (hN:N'<=N):RetTo X N' l q way d w:=by
 obtain ⟨K,g,c,h1,h2,h3,h4,h5,h6⟩:=h
 exact ⟨K,g,c,h1,h2,h3,h4,⟨Nat.le_trans hN h5.1,Nat.le_trans hN h5.2⟩,h6⟩
theorem RetTo.far {X:RX} {N B:Nat} {l:List VD} {q:DP} {way:Value} {d:MD} {w w':World} (h:RetTo X N l q way d w) (g:Gx (fun k=>k=B) w w') (hB:B<N):RetTo X N l q way d w':=by
 obtain ⟨K,g',c,h1,h2,h3,h4,h5,h6⟩:=h
 refine ⟨K,g',c,h1,⟨g.has h2.1 (by omega),h2.2⟩,⟨⟨Nat.lt_of_lt_of_le h3.1.1 g.size,fun j v hv=>(World.cell?_of_block (a:=⟨g',j,none⟩) (g.block g' h3.1.1 (by omega))).trans (h3.1.2 j v hv)⟩,h3.2⟩,h4,h5,h6⟩
theorem St.scCap {X:RX} {d:MD} {u:World} (h:St X d u):d.sc.length<=d.sp/\((d.sa=none/\d.sp=0/\d.sc.length=0)\/∃ g,d.sa=some ⟨g,0,none⟩):=by
 rcases h.sr.2 with ⟨e,h0⟩|⟨g,cap,cur,e,_,hg,h5,_⟩
 ·obtain ⟨e1,e2,e3⟩:d.sa=none/\d.sc.length=0/\d.sp=0:=by simpa using e
  exact ⟨by omega,.inl ⟨e1,e3,e2⟩⟩
 ·obtain ⟨e1,e3⟩:d.sa=some ⟨g,0,none⟩/\d.sp=cap:=by simpa using e
  exact ⟨by omega,.inr ⟨g,e1⟩⟩
theorem qf7 (a:Option Addr) (c:Prop) [Decidable c] (h:a=none\/∃ g,a=some (⟨g,0,none⟩:Addr)):(if c then a else a.map (fun x=>x.add 0))=a:=by
 rcases h with rfl|⟨g,rfl⟩<;>simp[Addr.add]
theorem zc3 (X:RX) (d:MD) (k1 ka kc s1 s2 s3 N:Nat) (l:List VD) (q:DP) (u:World) (h:St X d u) (hk1:Od X k1 #[.slice (some ⟨ka,0,none⟩) 1 kc]) (hka:Oc X ka (stV s1 s2 s3)) (hq:q.sc=d.sc)
  (hst:Calls Tryz.prog 140 #[ptr X.F,ptr s1,ptr s2,ptr s3] u fun e w'=>q11 X d u (RetTo X N l q) e w') :
  Calls Tryz.prog 163 #[ptr X.F,ptr k1] u fun e w'=>q11 X d u (RetTo X N l q) e w':=by
 have HS:Hid (St X d u):=h
 have HQ:Hid (q.sc=d.sc):=hq
 have HSt:Hid (Calls Tryz.prog 140 #[ptr X.F,ptr s1,ptr s2,ptr s3] u fun e w'=>q11 X d u (RetTo X N l q) e w'):=hst
 have q1:=(hk1.at h).cell 0 rfl
 have l1:=(hk1.at h).1
 have f10:=h.f.1.cell 10 rfl
 have ka0:=hka.at h
 clear h hk1 hka hst hq
 go_enter Tryz.func163,Tryz.ntmps163
 go_wp2_with fail
 refine wp_loop_rounds 1 ?_
 rw[rounds_succ];go_wp2_with fail
 refine HSt.out.mono ?_
 rintro e w1 ⟨way,d1,rfl,hs1,hr1⟩
 obtain ⟨K,g,c,rfl,hB,hL,hc,hN,e1⟩:=hr1
 have H1:Hid (Sp X d u d1 w1/\RetTo X N l q (.iface 184 (ptr K)) d1 w1):=⟨hs1,K,g,c,rfl,hB,hL,hc,hN,e1⟩
 have hsc1:d1.sc.length=d.sc.length:=by
  have e2:d1.sc=q.sc:=congrArg DP.sc e1
  rw[e2,HQ.out]
 have hcap:=hs1.s.scCap
 have hif:=qf7 d1.sa (d1.sp=0) (hcap.2.elim (fun h=>.inl h.1) .inr)
 have hcp:=hcap.1
 rw[hsc1] at hcp
 have g10:w1.cell? ⟨X.F,10,none⟩=some (.slice d1.sa d.sc.length d1.sp):=by rw[<-hsc1];exact hs1.s.f.1.cell 10 rfl
 have gz:=hs1.s.f.2
 have lF:=hs1.s.f.1.1
 have HF:Hid (q11 X d u (RetTo X N l q) (.returned (.iface 184 (ptr K))) (w1.setCell ⟨X.F,10,none⟩ (.slice d1.sa d.sc.length d1.sp))):=by
  have h2:=Sp.cutS hs1.s (m:=d.sc.length) (by omega)
  have e3:({d1 with sc:=d1.sc.take d.sc.length}:MD).p=q:=by
   have:d1.sc.take d.sc.length=d1.sc:=by rw[<-hsc1];exact List.take_length
   rw[this]
   exact e1
  exact ⟨_,_,rfl,hs1.trans h2,H1.out.2.step h2 e3⟩
 clear hs1 hB hL hc hN e1 hcap hsc1 q1 l1 f10 ka0
 go_wp2_with fail
 go_ret
 exact HF.out
def y97 (X:RX) (m:Nat) (R:Value->MD->World->Prop) (way:Value) (d':MD) (w':World):Prop:=way=.nilIface/\∃ d1 w1,R .nilIface d1 w1/\Sp X d1 w1 d' w'/\d'.p=d1.p.cutS m
def NilR (m:Nat) (R:Value->MD->World->Prop):Prop:=∀ way d' w',R way d' w'->way=.nilIface/\m<=d'.sc.length
theorem zc4 (X:RX) (d:MD) (k1 ka kc s1 s2 s3:Nat) (R:Value->MD->World->Prop) (u:World) (h:St X d u) (hk1:Od X k1 #[.slice (some ⟨ka,0,none⟩) 1 kc]) (hka:Oc X ka (stV s1 s2 s3)) (hR:NilR d.sc.length R)
  (hst:Calls Tryz.prog 140 #[ptr X.F,ptr s1,ptr s2,ptr s3] u fun e w'=>q11 X d u R e w') :
  Calls Tryz.prog 163 #[ptr X.F,ptr k1] u fun e w'=>q11 X d u (y97 X d.sc.length R) e w':=by
 have HR:Hid (NilR d.sc.length R):=hR
 have HSt:Hid (Calls Tryz.prog 140 #[ptr X.F,ptr s1,ptr s2,ptr s3] u fun e w'=>q11 X d u R e w'):=hst
 have q1:=(hk1.at h).cell 0 rfl
 have l1:=(hk1.at h).1
 have f10:=h.f.1.cell 10 rfl
 have ka0:=hka.at h
 clear h hk1 hka hst hR
 go_enter Tryz.func163,Tryz.ntmps163
 go_wp2_with fail
 refine wp_loop_rounds 2 ?_
 rw[rounds_succ];go_wp2_with fail
 refine HSt.out.mono ?_
 rintro e w1 ⟨way,d1,rfl,hs1,hr1⟩
 obtain ⟨rfl,hm⟩:=HR.out way d1 w1 hr1
 have hcap:=hs1.s.scCap
 have hif:=qf7 d1.sa (d1.sp=0) (hcap.2.elim (fun h=>.inl h.1) .inr)
 have hcp:d.sc.length<=d1.sp:=by omega
 obtain ⟨z,hz⟩:∃ z,d1.sc.length=z:=⟨_,rfl⟩
 have g10:w1.cell? ⟨X.F,10,none⟩=some (.slice d1.sa z d1.sp):=by rw[<-hz];exact hs1.s.f.1.cell 10 rfl
 have gz:=hs1.s.f.2
 have lF:=hs1.s.f.1.1
 have HF:Hid (q11 X d u (y97 X d.sc.length R) (.returned .nilIface) (w1.setCell ⟨X.F,10,none⟩ (.slice d1.sa d.sc.length d1.sp))):=by
  have h2:=Sp.cutS hs1.s (m:=d.sc.length) hm
  exact ⟨_,_,rfl,hs1.trans h2,rfl,d1,w1,hr1,h2,rfl⟩
 clear hs1 hr1 hcap q1 l1 f10 ka0 hz hm
 go_wp2_with fail
 rw[rounds_succ];go_wp2_with fail
 go_ret
 exact HF.out
theorem ql8 (X:RX) (d:MD) (k1 ka kc s1 s2 s3 t1 t2 t3:Nat) (R S:Value->MD->World->Prop) (u:World) (h:St X d u) (hk1:Od X k1 #[.slice (some ⟨ka,0,none⟩) 2 kc]) (hka:Oo X ka 0 (stV s1 s2 s3)) (hkb:Oo X ka 1 (stV t1 t2 t3)) (hR:NilR d.sc.length R) (hS:NilR d.sc.length S)
  (hst:Calls Tryz.prog 140 #[ptr X.F,ptr s1,ptr s2,ptr s3] u fun e w'=>q11 X d u R e w')
  (hsu:∀ d1 w1,Sp X d u d1 w1->R .nilIface d1 w1->Calls Tryz.prog 140 #[ptr X.F,ptr t1,ptr t2,ptr t3] w1 fun e w'=>q11 X d1 w1 S e w') :
  Calls Tryz.prog 163 #[ptr X.F,ptr k1] u fun e w'=>q11 X d u (y97 X d.sc.length S) e w':=by
 have HR:Hid (NilR d.sc.length R):=hR
 have HS2:Hid (NilR d.sc.length S):=hS
 have HK:Hid (Oo X ka 1 (stV t1 t2 t3)):=hkb
 have HSt:Hid (Calls Tryz.prog 140 #[ptr X.F,ptr s1,ptr s2,ptr s3] u fun e w'=>q11 X d u R e w'):=hst
 have HSu:Hid (∀ d1 w1,Sp X d u d1 w1->R .nilIface d1 w1->Calls Tryz.prog 140 #[ptr X.F,ptr t1,ptr t2,ptr t3] w1 fun e w'=>q11 X d1 w1 S e w'):=hsu
 have q1:=(hk1.at h).cell 0 rfl
 have l1:=(hk1.at h).1
 have f10:=h.f.1.cell 10 rfl
 have ka0:=hka.at h
 clear h hk1 hka hkb hst hsu hR hS
 go_enter Tryz.func163,Tryz.ntmps163
 go_wp2_with fail
 refine wp_loop_rounds 3 ?_
 rw[rounds_succ];go_wp2_with fail
 refine HSt.out.mono ?_
 rintro e w1 ⟨way,d1,rfl,hs1,hr1⟩
 obtain ⟨rfl,_⟩:=HR.out way d1 w1 hr1
 have H1:Hid (Sp X d u d1 w1/\R .nilIface d1 w1):=⟨hs1,hr1⟩
 have kb0:=HK.out.at hs1.s
 clear hs1 hr1 q1 l1 f10 ka0
 go_wp2_with fail
 rw[rounds_succ];go_wp2_with fail
 refine (HSu.out d1 w1 H1.out.1 H1.out.2).mono ?_
 rintro e w2 ⟨way,d2,rfl,hs2,hr2⟩
 obtain ⟨rfl,hm⟩:=HS2.out way d2 w2 hr2
 have hcap:=hs2.s.scCap
 have hif:=qf7 d2.sa (d2.sp=0) (hcap.2.elim (fun h=>.inl h.1) .inr)
 have hcp:d.sc.length<=d2.sp:=by omega
 obtain ⟨z,hz⟩:∃ z,d2.sc.length=z:=⟨_,rfl⟩
 have g10:w2.cell? ⟨X.F,10,none⟩=some (.slice d2.sa z d2.sp):=by rw[<-hz];exact hs2.s.f.1.cell 10 rfl
 have gz:=hs2.s.f.2
 have lF:=hs2.s.f.1.1
 have HF:Hid (q11 X d u (y97 X d.sc.length S) (.returned .nilIface) (w2.setCell ⟨X.F,10,none⟩ (.slice d2.sa d.sc.length d2.sp))):=by
  have h2:=Sp.cutS hs2.s (m:=d.sc.length) hm
  exact ⟨_,_,rfl,(H1.out.1.trans hs2).trans h2,rfl,d2,w2,hr2,h2,rfl⟩
 clear hs2 hr2 hcap hz hm kb0
 go_wp2_with fail
 rw[rounds_succ];go_wp2_with fail
 go_ret
 exact HF.out
end Go.Proofs.YtaimofjekgnieaaGreatDoor
