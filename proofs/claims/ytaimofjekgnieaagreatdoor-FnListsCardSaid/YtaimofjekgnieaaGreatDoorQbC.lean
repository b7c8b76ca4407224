import Derived.Test.YtaimofjekgnieaaGreatDoorQbA
import Derived.Test.YtaimofjekgnieaaGreatDoorUnD
set_option maxRecDepth 100000
set_option maxHeartbeats 16000000
namespace Go.Proofs.YtaimofjekgnieaaGreatDoor
open Go.RowKit
attribute [local go_sem] q00
attribute [local go_sem ↓] Go.wp_at_zero Go.wp_at_succ
attribute [local go_sem] q45
theorem z10 (bb:Nat) (a:Option Addr) (c:Nat) (w:World):Calls Tryz.prog 173 #[ptr bb,.slice a 0 c] w fun e w'=>Mks IsNil w e w':=by
 go_enter Tryz.func173,Tryz.ntmps173
 go_wp2_with fail
 go_ret
 exact ⟨_,_,_,rfl,rfl,q01 _ _⟩
theorem zg7 (bb:Nat) (R S:Rel) (kb ko kc m i:Nat) (w:World) (kr:KpC R) (ks:KpC S) (hm:m<=300) (hcap:m<kc)
  (hO:∀ u c,Below w.heap.size w u->Calls Tryz.prog 201 #[ptr bb,.slice (some ⟨kb,ko,none⟩) m c] u fun e u'=>Mks R u e u')
  (hA:SubC 166 bb w i S) (hkb:kb<w.heap.size) (hc:w.cell? ⟨kb,ko+m,none⟩=some (.int .i64 (i:Int))) :
  Calls Tryz.prog 173 #[ptr bb,.slice (some ⟨kb,ko,none⟩) (m+1) kc] w fun e w'=>Mks (qb9 bb R S) w e w':=by
 have HO:Hid (∀ u c,Below w.heap.size w u->Calls Tryz.prog 201 #[ptr bb,.slice (some ⟨kb,ko,none⟩) m c] u fun e u'=>Mks R u e u'):=hO
 have HA:Hid (SubC 166 bb w i S):=hA
 have HKp:Hid (KpC R/\KpC S):=⟨kr,ks⟩
 have hmf:=q56
 have hi0:(0:Int)<=(m:Int):=Int.natCast_nonneg _
 have hi1:(m:Int)<=(kc:Int):=by omega
 have hi2:(m:Int)<(m:Int)+1:=by omega
 have hm1:((m:Int)<0)=False:=by simp
 have hm2:((m:Int)<=(kc:Int))=True:=by simpa using hi1
 have hi3:(m:Int)<((m+1:Nat):Int):=by omega
 clear hO hA kr ks
 go_enter Tryz.func173,Tryz.ntmps173
 go_upto_region 4 with fail
 obtain ⟨w0,hw0⟩:∃ w0,w.alloc (.cells #[ptr bb] 108)=w0:=⟨_,rfl⟩
 have HW0:Hid (Below w.heap.size w w0/\Has w0 w.heap.size #[ptr bb]/\w0.heap.size=w.heap.size+1):=by rw[<-hw0];exact ⟨q01 _ _,Has.new _ _ _,by simp⟩
 have e0:=HW0.out.2.1.cell 0 rfl
 have e1:w0.cell? ⟨kb,ko+m,none⟩=some (.int .i64 (i:Int)):=(HW0.out.1.cell (p:=⟨kb,ko+m,none⟩) hkb).trans hc
 rw[hw0]
 have hkb0:kb<w0.heap.size:=by have:=HW0.out.2.2;omega
 have HC:Hid (∀ u,Below w0.heap.size w0 u->u.cell? ⟨w.heap.size,0,none⟩=some (ptr bb)/\u.cell? ⟨kb,ko+m,none⟩=some (.int .i64 (i:Int))):=fun u hu=>⟨(hu.cell (p:=⟨w.heap.size,0,none⟩) HW0.out.2.1.1).trans e0,(hu.cell (p:=⟨kb,ko+m,none⟩) hkb0).trans e1⟩
 clear hw0 hc e0 e1
 go_region_held3 (fun u=>u.cell? ⟨w.heap.size,0,none⟩=some (ptr bb)/\u.cell? ⟨kb,ko+m,none⟩=some (.int .i64 (i:Int))) (first|(refine HC.out _ ?_;(repeat (first|with_reducible exact HB2.out|with_reducible exact HB1.out|with_reducible exact q20 _|with_reducible refine q15 ?_ _|with_reducible refine q22 ?_|with_reducible refine q29 ?_ _ (by have h1:=HB1.out.size;have h2:=HB2.out.size;omega)));done))
  (first
  |(go_at_call 201;refine (HO.out _ _ (q02 HW0.out.1 ?_)).mono ?_;((repeat (first|with_reducible exact HB2.out|with_reducible exact HB1.out|with_reducible exact q20 _|with_reducible refine q15 ?_ _|with_reducible refine q22 ?_|with_reducible refine q29 ?_ _ (by have h1:=HB1.out.size;have h2:=HB2.out.size;omega))));rintro e w1 ⟨f1,x1,y1,rfl,hr1,hb1⟩;obtain ⟨n1,hn1,HR1⟩:∃ n1,Hid (n1=_)/\Hid (R (.func f1 x1 y1) n1 w1):=⟨_,rfl,hr1⟩;have HB1:Hid (Below w0.heap.size w0 w1):=(by refine q02 ?_ hb1;(repeat (first|with_reducible exact HB2.out|with_reducible exact HB1.out|with_reducible exact q20 _|with_reducible refine q15 ?_ _|with_reducible refine q22 ?_|with_reducible refine q29 ?_ _ (by have h1:=HB1.out.size;have h2:=HB2.out.size;omega))));have HS1:Hid (_<=w1.heap.size):=hb1.size;(first|(have hx:=box00 hb1;have m1:=hx.b.1.1)|(have hx:=box0 hb1;have m1:=hx.a.1.1;have m2:=Nat.ne_of_lt m1;have m3:=Nat.ne_of_gt m1)|(have hx:=True.intro));clear hb1 hr1)
  |(go_at_call 166;refine (HA.out _ (q02 HW0.out.1 ?_)).mono ?_;((repeat (first|with_reducible exact HB2.out|with_reducible exact HB1.out|with_reducible exact q20 _|with_reducible refine q15 ?_ _|with_reducible refine q22 ?_|with_reducible refine q29 ?_ _ (by have h1:=HB1.out.size;have h2:=HB2.out.size;omega))));rintro e w2 ⟨f2,x2,y2,rfl,hr2,hb2⟩;obtain ⟨n2,hn2,HR2⟩:∃ n2,Hid (n2=_)/\Hid (S (.func f2 x2 y2) n2 w2):=⟨_,rfl,hr2⟩;have HB2:Hid (Below w0.heap.size w0 w2):=(by refine q02 ?_ hb2;(repeat (first|with_reducible exact HB2.out|with_reducible exact HB1.out|with_reducible exact q20 _|with_reducible refine q15 ?_ _|with_reducible refine q22 ?_|with_reducible refine q29 ?_ _ (by have h1:=HB1.out.size;have h2:=HB2.out.size;omega))));have HBB:Hid (Below _ _ w2):=hb2;have HS2:Hid (_<=w2.heap.size):=hb2.size;(first|(have hy:=Bp.call hx hb2)|(have hy:=Bo.next hx hb2)|(have hy:=Bo.call hx hb2)|(have hy:=box2 hb2)|(have hy:=box1 hb2)|(have hy:=True.intro));(first|(have c1:=hy.a.1.cell 0 rfl;have z1:=hy.a.2;have l1:=hy.a.1.1;have c2:=hy.b.1.cell 0 rfl;have z2:=hy.b.2;have l2:=hy.b.1.1;have n1':=Nat.ne_of_lt l1;have n2':=Nat.ne_of_gt l1;have n3':=Nat.ne_of_lt l2;have n4':=Nat.ne_of_gt l2)|(have c1:=hy.a.1.cell 0 rfl;have z1:=hy.a.2;have l1:=hy.a.1.1;have n1':=Nat.ne_of_lt l1;have n2':=Nat.ne_of_gt l1)|skip);clear hb2 hr2))
 all_goals
  go_wp2_with fail
  go_ret
  have e1:=hn1.out
  have e2:=hn2.out
  have s1:=HS1.out
  have s2:=HS2.out
  try simp at e1
  try simp at e2
  try simp at s1
  try simp at s2
  have q1:=HB1.out.size
  have q2:=HB2.out.size
  have q3:=HW0.out.2.2
  have hB2:=HB2.out
  have hk9:=HW0.out.2.1
  have hk8:=hk9.call hB2
  have r1:=HR1.out
  have r2:=HR2.out
  have hbb:=HBB.out
  obtain ⟨kr,ks⟩:=HKp.out
  refine ⟨_,_,_,rfl,⟨_,_,_,_,_,rfl,⟨?_,?_⟩,⟨?_,?_⟩,⟨?_,?_⟩,kr.old (kr.fr r1 ?_) (by omega),ks.old (ks.fr r2 ?_) (by omega)⟩,q02 HW0.out.1 ?_⟩
  all_goals (try omega)
  all_goals (repeat (first|with_reducible exact hB2|with_reducible exact Fr.refl _ _ _|with_reducible exact Has.new _ _ _|with_reducible exact q87 _ _ _ _|with_reducible exact qn3 _ _ _ _ _|with_reducible exact hk9|with_reducible exact hk8|with_reducible refine Has.alloc ?_ _|with_reducible refine q15 ?_ _|(with_reducible refine q29 ?_ _ (by omega))|with_reducible exact hy.a|with_reducible exact hy.b|with_reducible exact OwnB.new _ _ _|with_reducible exact q41 _ _ _ _|with_reducible refine OwnB.alloc ?_ _|with_reducible refine qi5 (x:=.nilFunc) ?_|(with_reducible refine qi6 ?_ (by omega))|(with_reducible refine q30 ?_ (by omega))|(with_reducible refine Fr.set ?_ (by omega))|with_reducible refine Fr.alloc ?_ (Nat.le_refl _) _|with_reducible refine Fr.drew ?_|with_reducible refine Fr.call ?_ (Nat.le_refl _) hbb))
theorem qj1 (M bb:Nat) (d:FD) (x:FA) (R:Rel) (n:Nat) (w:World) (h:BB M bb d x w) (kr:KpC R) (hn:n<d.nn) (hk:(d.nd n).k=34) (hP:SubC 191 bb w n R) :
  Calls Tryz.prog 166 #[ptr bb,.int .i64 (n:Int)] w fun e w'=>Mks (qv3 bb R) w e w':=by
 have HP:Hid (SubC 191 bb w n R/\KpC R):=⟨hP,kr⟩
 have b1:=h.b.cell 1 rfl
 have hbl:=h.b.1
 obtain ⟨b,off,e1,hb,c0,c1,c2,c3,c4,c5,c6,c7⟩:=h.node hn
 rw[e1] at b1
 rw[hk] at c0
 clear h hP kr c1 c2 c3 c4 c5 c6 c7
 have hmf:=q56
 go_enter Tryz.func166,Tryz.ntmps166
 go_wp2_with fail
 refine (HP.out.1 _ (q01 _ _)).mono ?_
 rintro e w1 ⟨f1,x1,y1,rfl,hr1,hb1⟩
 have HW:Hid (R (.func f1 x1 y1) (w.heap.size+1) w1/\Below w.heap.size w w1/\Has w1 w.heap.size #[ptr bb]):=⟨by simpa using hr1,q02 (q01 _ _) hb1,(Has.new _ _ _).call hb1⟩
 clear b1 hbl c0 hr1 hb1
 go_wp2_with fail
 go_ret
 have hs:=HW.out.2.1.size
 exact ⟨_,_,_,rfl,⟨w1.heap.size,w.heap.size,_,rfl,⟨hs,Has.new _ _ _⟩,⟨Nat.le_refl _,HW.out.2.2.alloc _⟩,HP.out.2.old (HP.out.2.call HW.out.1 (q01 _ _)) (by omega)⟩,HW.out.2.1.alloc hs _⟩
theorem z43 (M bb:Nat) (d:FD) (x:FA) (n:Nat) (w:World) (h:BB M bb d x w) (hn:n<d.nn) (hk:(d.nd n).k=37) :
  Calls Tryz.prog 166 #[ptr bb,.int .i64 (n:Int)] w fun e w'=>Mks zd4 w e w':=by
 have b1:=h.b.cell 1 rfl
 have hbl:=h.b.1
 obtain ⟨b,off,e1,hb,c0,c1,c2,c3,c4,c5,c6,c7⟩:=h.node hn
 rw[e1] at b1
 rw[hk] at c0
 clear h c1 c2 c3 c4 c5 c6 c7
 go_enter Tryz.func166,Tryz.ntmps166
 go_wp2_with fail
 go_ret
 exact ⟨_,_,_,rfl,rfl,q01 _ _⟩
theorem zc9 (M bb:Nat) (d:FD) (x:FA) (R:Rel) (n:Nat) (w:World) (h:BB M bb d x w) (kr:KpC R) (hn:n<d.nn) (hk:(d.nd n).k=26) (hP:SubC 176 bb w n R) :
  Calls Tryz.prog 166 #[ptr bb,.int .i64 (n:Int)] w fun e w'=>Mks (y28 R) w e w':=by
 have HP:Hid (SubC 176 bb w n R/\KpC R):=⟨hP,kr⟩
 have b1:=h.b.cell 1 rfl
 have hbl:=h.b.1
 obtain ⟨b,off,e1,hb,c0,c1,c2,c3,c4,c5,c6,c7⟩:=h.node hn
 rw[e1] at b1
 rw[hk] at c0
 clear h hP kr c1 c2 c3 c4 c5 c6 c7
 have hmf:=q56
 go_enter Tryz.func166,Tryz.ntmps166
 go_wp2_with fail
 refine (HP.out.1 _ (q01 _ _)).mono ?_
 rintro e w1 ⟨f1,x1,y1,rfl,hr1,hb1⟩
 have HW:Hid (R (.func f1 x1 y1) (w.heap.size+1) w1/\Below w.heap.size w w1):=⟨by simpa using hr1,q02 (q01 _ _) hb1⟩
 clear b1 hbl c0 hr1 hb1
 go_wp2_with fail
 go_ret
 have hs:=HW.out.2.size
 exact ⟨_,_,_,rfl,⟨w1.heap.size,_,rfl,⟨hs,Has.new _ _ _⟩,HP.out.2.old (HP.out.2.call HW.out.1 (q01 _ _)) (by omega)⟩,HW.out.2.alloc hs _⟩
theorem qu8 (M bb fn nf ub uo uc un c5:Nat) (ua:Option Addr) (nd:Value) (w:World) (hb:Has w bb #[ptr M,nd]) (m0:w.cell? ⟨M,0,none⟩=some (.slice (some ⟨ub,uo,none⟩) nf uc)) (u5:w.cell? ⟨ub,uo+fn*7+5,none⟩=some (.slice ua un c5)) (hM:M<w.heap.size) (hub:ub<w.heap.size) (hfn:fn<nf) :
  Calls Tryz.prog 224 #[ptr bb,.int .i64 (fn:Int)] w fun e w'=>Mks (IsCl M (.slice ua un c5) (fn:Int)) w e w':=by
 have b0:=hb.cell 0 rfl
 have hbl:=hb.1
 have hmf:=q56
 have hi0:(0:Int)<=(fn:Int):=Int.natCast_nonneg _
 have hi1:(fn:Int)<(nf:Int):=by omega
 clear hb
 go_enter Tryz.func224,Tryz.ntmps224
 go_upto_region 2 with fail
 obtain ⟨w0,hw0⟩:∃ w0,(w.alloc (.cells #[.int .i64 (fn:Int)] 3)).alloc (.cells #[ptr M] 39)=w0:=⟨_,rfl⟩
 have HW0:Hid (Below w.heap.size w w0/\Has w0 w.heap.size #[.int .i64 (fn:Int)]/\Has w0 (w.heap.size+1) #[ptr M]/\w0.heap.size=w.heap.size+2):=by rw[<-hw0];exact ⟨q04 _ _ _,(Has.new _ _ _).alloc _,q87 _ _ _ _,by simp⟩
 rw[hw0]
 have e0:=HW0.out.2.1.cell 0 rfl
 have e1:=HW0.out.2.2.1.cell 0 rfl
 have m0':=(HW0.out.1.cell (p:=⟨M,0,none⟩) hM).trans m0
 have u5':=(HW0.out.1.cell (p:=⟨ub,uo+fn*7+5,none⟩) hub).trans u5
 have hs0:=HW0.out.2.2.2
 have HC:Hid (∀ u,Below w0.heap.size w0 u->u.cell? ⟨w.heap.size,0,none⟩=some (.int .i64 (fn:Int))/\u.cell? ⟨w.heap.size+1,0,none⟩=some (ptr M)/\u.cell? ⟨M,0,none⟩=some (.slice (some ⟨ub,uo,none⟩) nf uc)/\u.cell? ⟨ub,uo+fn*7+5,none⟩=some (.slice ua un c5)):=fun u hu=>⟨(HW0.out.2.1.call hu).cell 0 rfl,(HW0.out.2.2.1.call hu).cell 0 rfl,(hu.cell (p:=⟨M,0,none⟩) (by show M<w0.heap.size;omega)).trans m0',(hu.cell (p:=⟨ub,uo+fn*7+5,none⟩) (by show ub<w0.heap.size;omega)).trans u5'⟩
 clear hw0 b0 m0 u5 e0 e1 m0' u5' hs0
 go_region_held3 (fun u=>u.cell? ⟨w.heap.size,0,none⟩=some (.int .i64 (fn:Int))/\u.cell? ⟨w.heap.size+1,0,none⟩=some (ptr M)/\u.cell? ⟨M,0,none⟩=some (.slice (some ⟨ub,uo,none⟩) nf uc)/\u.cell? ⟨ub,uo+fn*7+5,none⟩=some (.slice ua un c5)) (first|(refine HC.out _ ?_;(repeat (first|with_reducible exact q20 _|with_reducible refine q15 ?_ _|with_reducible refine q22 ?_));done)) (fail)
 all_goals
  go_wp2_with fail
  go_ret
  have h1:=HW0.out
  refine ⟨_,_,_,rfl,⟨w.heap.size+1,w0.heap.size,w.heap.size,rfl,⟨by omega,?_⟩,⟨by omega,?_⟩,⟨by omega,?_⟩⟩,?_⟩
  ·(first|exact (h1.2.2.1.alloc _)|exact (h1.2.2.1.drew.alloc _))
  ·exact Has.new _ _ _
  ·(first|exact (h1.2.1.alloc _)|exact (h1.2.1.drew.alloc _))
  ·(first|exact q15 h1.1 _|exact q15 h1.1.drew _)
theorem zb1 (M bb:Nat) (d:FD) (x:FA) (R:Rel) (n fn:Nat) (w:World) (h:BB M bb d x w) (kr:KpC R) (hn:n<d.nn) (hk:(d.nd n).k=36) (hr:0<(d.nd n).rn) (hr0:(d.nd n).r 0=(fn:Int)) (hC:SubC 224 bb w fn R) :
  Calls Tryz.prog 176 #[ptr bb,.int .i64 (n:Int)] w fun e w'=>Mks R w e w':=by
 have HP:Hid (SubC 224 bb w fn R/\KpC R):=⟨hC,kr⟩
 have b1:=h.b.cell 1 rfl
 have hbl:=h.b.1
 obtain ⟨b,off,e1,hb,c0,c1,c2,c3,c4,c5,c6,c7⟩:=h.node hn
 obtain ⟨rb,ro,e2,_,hrb,d0⟩:=cells1 (h.n.2 n hn).1 hr
 simp only[Nat.add_zero] at d0
 rw[hr0] at d0
 rw[e1] at b1
 rw[e2] at c6
 rw[hk] at c0
 clear h hC kr
 go_enter Tryz.func176,Tryz.ntmps176
 go_upto_region 24 with fail
 obtain ⟨w0,hw0⟩:∃ w0,(w.alloc (.cells #[ptr bb] 108)).alloc (.cells #[.int .i64 36,.int .i64 (d.nd n).l,.int .i64 (d.nd n).o,.int .i64 (d.nd n).n,.float .f64 (d.nd n).f,.string (d.nd n).s,.slice (some ⟨rb,ro,none⟩) (d.nd n).rn (x.nas n).rc,.slice (x.nas n).ka (d.nd n).kn (x.nas n).kc] 51)=w0:=⟨_,rfl⟩
 have HW0:Hid (Below w.heap.size w w0/\Has w0 w.heap.size #[ptr bb]/\w0.cell? ⟨w.heap.size+1,6,none⟩=some (.slice (some ⟨rb,ro,none⟩) (d.nd n).rn (x.nas n).rc)/\w0.heap.size=w.heap.size+2):=by rw[<-hw0];exact ⟨q04 _ _ _,(Has.new _ _ _).alloc _,(q87 _ _ _ _).cell 6 rfl,by simp⟩
 have d0':=(HW0.out.1.cell (p:=⟨rb,ro,none⟩) hrb).trans d0
 have HC:Hid (∀ u,Below w0.heap.size w0 u->u.cell? ⟨w.heap.size,0,none⟩=some (ptr bb)/\u.cell? ⟨w.heap.size+1,6,none⟩=some (.slice (some ⟨rb,ro,none⟩) (d.nd n).rn (x.nas n).rc)/\u.cell? ⟨rb,ro,none⟩=some (.int .i64 (fn:Int))):=fun u hu=>⟨(HW0.out.2.1.call hu).cell 0 rfl,(hu.cell (p:=⟨w.heap.size+1,6,none⟩) (by show w.heap.size+1<w0.heap.size;have:=HW0.out.2.2.2;omega)).trans HW0.out.2.2.1,(hu.cell (p:=⟨rb,ro,none⟩) (by show rb<w0.heap.size;have:=HW0.out.2.2.2;omega)).trans d0'⟩
 rw[hw0]
 clear hw0 b1 c0 c1 c2 c3 c4 c5 c6 c7 d0 d0'
 go_region_held3 (fun u=>u.cell? ⟨w.heap.size,0,none⟩=some (ptr bb)/\u.cell? ⟨w.heap.size+1,6,none⟩=some (.slice (some ⟨rb,ro,none⟩) (d.nd n).rn (x.nas n).rc)/\u.cell? ⟨rb,ro,none⟩=some (.int .i64 (fn:Int))) (first|(refine HC.out _ ?_;(repeat (first|with_reducible exact HB1.out|with_reducible exact q20 _|with_reducible refine q15 ?_ _|with_reducible refine q22 ?_));done)) (first|(go_at_call 224;refine (HP.out.1 _ HW0.out.1.drew).mono ?_;rintro e w1 ⟨f1,x1,y1,rfl,hr1,hb1⟩;have HW:Hid (R (.func f1 x1 y1) w.heap.size w1/\Below w.heap.size w w1):=⟨HP.out.2.old hr1 (by have h9:=HW0.out.1.size;exact h9),q02 HW0.out.1.drew hb1⟩;have HB1:Hid (Below w0.heap.size w0 w1):=q02 (q20 w0).drew hb1;clear hr1 hb1))
 all_goals
  go_wp2_with fail
  go_ret
  exact ⟨_,_,_,rfl,HW.out.1,HW.out.2⟩
theorem qu1 (bb:Nat) (R:Rel) (kb ko kc i:Nat) (w:World) (kr:KpC R) (hc:w.cell? ⟨kb,ko,none⟩=some (.int .i64 (i:Int))) (hE:SubC 176 bb w i R) :
  Calls Tryz.prog 185 #[ptr bb,.int .i64 1,.slice (some ⟨kb,ko,none⟩) 1 kc] w fun e w'=>Mks (zj4 R) w e w':=by
 have HP:Hid (SubC 176 bb w i R/\KpC R):=⟨hE,kr⟩
 have hmf:=q56
 clear hE kr
 go_enter Tryz.func185,Tryz.ntmps185
 go_wp2_with fail
 refine (HP.out.1 _ (q20 _)).mono ?_
 rintro e w1 ⟨f1,x1,y1,rfl,hr1,hb1⟩
 have HW:Hid (R (.func f1 x1 y1) w.heap.size w1/\Below w.heap.size w w1):=⟨hr1,hb1⟩
 clear hr1 hb1 hc
 go_wp2_with fail
 go_ret
 have hs:=HW.out.2.size
 exact ⟨_,_,_,rfl,⟨w1.heap.size,_,rfl,⟨hs,Has.new _ _ _⟩,HP.out.2.call HW.out.1 (q01 _ _)⟩,HW.out.2.alloc hs _⟩
theorem zp9 (bb:Nat) (R:Rel) (q:ND) (y:NA) (kb ko i:Nat) (w:World) (kr:KpC R) (hrn:q.rn=1) (hkn:q.kn=1) (hka:y.ka=some ⟨kb,ko,none⟩) (hkb:kb<w.heap.size) (hc:w.cell? ⟨kb,ko,none⟩=some (.int .i64 (i:Int))) (hE:SubC 176 bb w i R) :
  Calls Tryz.prog 164 #[ptr bb,q40 q y] w fun e w'=>Mks (y29 (q24 q y) (zj4 R)) w e w':=by
 have HP:Hid (SubC 176 bb w i R/\KpC R/\w.cell? ⟨kb,ko,none⟩=some (.int .i64 (i:Int))):=⟨hE,kr,hc⟩
 have hmf:=q56
 show Calls Tryz.prog 164 #[ptr bb,.agg #[.int .i64 q.k,.int .i64 q.l,.int .i64 q.o,.int .i64 q.n,.float .f64 q.f,.string q.s,.slice y.ra q.rn y.rc,.slice y.ka q.kn y.kc]] w fun e w'=>Mks (y29 (q24 q y) (zj4 R)) w e w'
 have HA:Hid (q24 q y = #[.int .i64 q.k,.int .i64 q.l,.int .i64 q.o,.int .i64 q.n,.float .f64 q.f,.string q.s,.slice y.ra 1 y.rc,.slice (some ⟨kb,ko,none⟩) 1 y.kc]):=by unfold q24;rw[hrn,hkn,hka];exact rfl
 rw[hrn,hkn,hka]
 clear hE kr hc hrn hkn hka
 go_enter Tryz.func164,Tryz.ntmps164
 go_wp2_with fail
 refine (qu1 bb R kb ko _ i _ HP.out.2.1 ((Below.cell (q01 w _) (p:=⟨kb,ko,none⟩) hkb).trans HP.out.2.2) (HP.out.1.call (q01 _ _))).mono ?_
 rintro e w1 ⟨f1,x1,y1,rfl,hr1,hb1⟩
 have HW:Hid (zj4 R (.func f1 x1 y1) (w.heap.size+1) w1/\Below w.heap.size w w1/\Has w1 w.heap.size (q24 q y)):=⟨by simpa using hr1,q02 (q01 _ _) hb1,by rw[HA.out];exact (Has.new _ _ _).call hb1⟩
 clear hr1 hb1
 go_wp2_with fail
 go_ret
 have hs:=HW.out.2.1.size
 have kf:=z19 HP.out.2.1
 exact ⟨_,_,_,rfl,⟨w.heap.size,w1.heap.size,_,rfl,⟨Nat.le_refl _,HW.out.2.2.alloc _⟩,⟨hs,Has.new _ _ _⟩,kf.old (kf.call HW.out.1 (q01 _ _)) (by omega)⟩,HW.out.2.1.alloc hs _⟩
abbrev ndA (k:Int) (q:ND) (y:NA) (ka:Option Addr) (kn:Nat):Array Value:=#[.int .i64 k,.int .i64 q.l,.int .i64 q.o,.int .i64 q.n,.float .f64 q.f,.string q.s,.slice y.ra q.rn y.rc,.slice ka kn y.kc]
theorem ql4 {q:ND} {y:NA} {k:Int} {ka:Option Addr} {kn:Nat} (h1:q.k=k) (h2:y.ka=ka) (h3:q.kn=kn):q40 q y=.agg (ndA k q y ka kn)/\q24 q y=ndA k q y ka kn:=by
 subst h1 h2 h3
 exact ⟨rfl,rfl⟩
theorem qv0 (bb:Nat) (S:Rel) (q:ND) (y:NA) (kb ko n:Nat) (w:World) (ks:KpC S) (hk:q.k=4) (hkn:0<q.kn) (hka:y.ka=some ⟨kb,ko,none⟩) (hkb:kb<w.heap.size) (hc:w.cell? ⟨kb,ko,none⟩=some (.int .i64 (n:Int))) (hA:SubC 166 bb w n S) :
  Calls Tryz.prog 139 #[ptr bb,q40 q y] w fun e w'=>Mks (IsDo S) w e w':=by
 have HP:Hid (SubC 166 bb w n S/\KpC S):=⟨hA,ks⟩
 have hmf:=q56
 rw[(ql4 hk hka rfl).1]
 have hkn':(0:Int)<(q.kn:Int):=by omega
 clear hA ks hk hka
 go_enter Tryz.func139,Tryz.ntmps139
 go_upto_region 7 with fail
 obtain ⟨w0,hw0⟩:∃ w0,(w.alloc (.cells #[ptr bb] 108)).alloc (.cells (ndA 4 q y (some ⟨kb,ko,none⟩) q.kn) 51)=w0:=⟨_,rfl⟩
 have HW0:Hid (Below w.heap.size w w0/\Has w0 w.heap.size #[ptr bb]/\w0.cell? ⟨w.heap.size+1,7,none⟩=some (.slice (some ⟨kb,ko,none⟩) q.kn y.kc)/\w0.heap.size=w.heap.size+2):=by rw[<-hw0];exact ⟨q04 _ _ _,(Has.new _ _ _).alloc _,(q87 _ _ _ _).cell 7 rfl,by simp⟩
 rw[hw0]
 have HC:Hid (∀ u,Below w0.heap.size w0 u->u.cell? ⟨w.heap.size,0,none⟩=some (ptr bb)/\u.cell? ⟨w.heap.size+1,7,none⟩=some (.slice (some ⟨kb,ko,none⟩) q.kn y.kc)/\u.cell? ⟨kb,ko,none⟩=some (.int .i64 (n:Int))):=fun u hu=>⟨(HW0.out.2.1.call hu).cell 0 rfl,(hu.cell (p:=⟨w.heap.size+1,7,none⟩) (by show w.heap.size+1<w0.heap.size;have:=HW0.out.2.2.2;omega)).trans HW0.out.2.2.1,(hu.cell (p:=⟨kb,ko,none⟩) (by show kb<w0.heap.size;have:=HW0.out.2.2.2;omega)).trans ((HW0.out.1.cell (p:=⟨kb,ko,none⟩) hkb).trans hc)⟩
 clear hw0 hc
 go_region_held3 (fun u=>u.cell? ⟨w.heap.size,0,none⟩=some (ptr bb)/\u.cell? ⟨w.heap.size+1,7,none⟩=some (.slice (some ⟨kb,ko,none⟩) q.kn y.kc)/\u.cell? ⟨kb,ko,none⟩=some (.int .i64 (n:Int))) (first|(refine HC.out _ ?_;(repeat (first|with_reducible exact HB1.out|with_reducible exact q20 _|with_reducible refine q15 ?_ _|with_reducible refine q22 ?_|with_reducible refine q29 ?_ _ (by have h1:=HB1.out.size;omega)));done))
  (first
  |(go_at_call 166;refine (HP.out.1 _ (q02 HW0.out.1 ?_)).mono ?_;((repeat (first|with_reducible exact q20 _|with_reducible refine q15 ?_ _|with_reducible refine q22 ?_)));rintro e w1 ⟨f1,x1,y1,rfl,hr1,hb1⟩;obtain ⟨n1,hn1,HR1⟩:∃ n1,Hid (n1=_)/\Hid (S (.func f1 x1 y1) n1 w1):=⟨_,rfl,hr1⟩;have HB1:Hid (Below w0.heap.size w0 w1):=(by refine q02 ?_ hb1;(repeat (first|with_reducible exact q20 _|with_reducible refine q15 ?_ _|with_reducible refine q22 ?_)));(first|(have hy:=box0 hb1;have c1:=hy.a.1.cell 0 rfl;have z1:=hy.a.2;have l1:=hy.a.1.1;have HN:Hid (OwnB w1 w0.heap.size #[.nilFunc]):=hy.a)|skip);clear hb1 hr1))
 all_goals
  go_wp2_with fail
  go_ret
  have e1:=hn1.out
  try simp at e1
  have q1:=HB1.out.size
  have q3:=HW0.out.2.2.2
  have ks:=HP.out.2
  have r1:=HR1.out
  first
  |exact ⟨_,_,_,rfl,⟨w1.heap.size,_,rfl,⟨by omega,Has.new _ _ _⟩,ks.old (ks.call r1 (q01 _ _)) (by omega)⟩,q02 HW0.out.1 (q15 HB1.out _)⟩
  |exact ⟨_,_,_,rfl,⟨w0.heap.size,_,rfl,⟨by omega,qi5 HN.out⟩,ks.old (ks.fr r1 ((Fr.refl _ _ _).set (by omega))) (by omega)⟩,q02 HW0.out.1 (q29 HB1.out _ (Nat.le_refl _))⟩
theorem qs6 (bb:Nat) (S:Rel) (q:ND) (y:NA) (w:World) (ks:KpC S) (hk:q.k=11) (hL:∀ u,Below w.heap.size w u->Calls Tryz.prog 173 #[ptr bb,.slice y.ka q.kn y.kc] u fun e u'=>Mks S u e u') :
  Calls Tryz.prog 139 #[ptr bb,q40 q y] w fun e w'=>Mks (yi2 S) w e w':=by
 have HP:Hid ((∀ u,Below w.heap.size w u->Calls Tryz.prog 173 #[ptr bb,.slice y.ka q.kn y.kc] u fun e u'=>Mks S u e u')/\KpC S):=⟨hL,ks⟩
 have hmf:=q56
 rw[(ql4 hk rfl rfl).1]
 clear hL ks hk
 go_enter Tryz.func139,Tryz.ntmps139
 go_wp2_with fail
 refine (HP.out.1 _ (q04 _ _ _)).mono ?_
 rintro e w1 ⟨f1,x1,y1,rfl,hr1,hb1⟩
 have HW:Hid (S (.func f1 x1 y1) w.heap.size w1/\Below w.heap.size w w1):=⟨HP.out.2.old hr1 (by simp;omega),q02 (q04 _ _ _) hb1⟩
 clear hr1 hb1
 go_wp2_with fail
 go_ret
 have hs:=HW.out.2.size
 exact ⟨_,_,_,rfl,⟨w1.heap.size,_,rfl,⟨hs,Has.new _ _ _⟩,HP.out.2.call HW.out.1 (q01 _ _)⟩,HW.out.2.alloc hs _⟩
theorem qs7 (bb:Nat) (S:Rel) (q:ND) (y:NA) (w:World) (ks:KpC S) (hk:q.k=2) (hL:∀ u,Below w.heap.size w u->Calls Tryz.prog 164 #[ptr bb,q40 q y] u fun e u'=>Mks S u e u') :
  Calls Tryz.prog 139 #[ptr bb,q40 q y] w fun e w'=>Mks S w e w':=by
 rw[(ql4 hk rfl rfl).1] at hL ⊢
 have HP:Hid ((∀ u,Below w.heap.size w u->Calls Tryz.prog 164 #[ptr bb,.agg (ndA 2 q y y.ka q.kn)] u fun e u'=>Mks S u e u')/\KpC S):=⟨hL,ks⟩
 clear hL ks hk
 go_enter Tryz.func139,Tryz.ntmps139
 go_wp2_with fail
 refine (HP.out.1 _ (q04 _ _ _)).mono ?_
 rintro e w1 ⟨f1,x1,y1,rfl,hr1,hb1⟩
 have HW:Hid (S (.func f1 x1 y1) w.heap.size w1/\Below w.heap.size w w1):=⟨HP.out.2.old hr1 (by simp;omega),q02 (q04 _ _ _) hb1⟩
 clear hr1 hb1
 go_wp2_with fail
 go_ret
 exact ⟨_,_,_,rfl,HW.out.1,HW.out.2⟩
theorem qs5 (bb:Nat) (S:Rel) (q:ND) (y:NA) (w:World) (ks:KpC S) (hk:q.k=12) (hL:∀ u,Below w.heap.size w u->Calls Tryz.prog 175 #[ptr bb,q40 q y] u fun e u'=>Mks S u e u') :
  Calls Tryz.prog 139 #[ptr bb,q40 q y] w fun e w'=>Mks S w e w':=by
 rw[(ql4 hk rfl rfl).1] at hL ⊢
 have HP:Hid ((∀ u,Below w.heap.size w u->Calls Tryz.prog 175 #[ptr bb,.agg (ndA 12 q y y.ka q.kn)] u fun e u'=>Mks S u e u')/\KpC S):=⟨hL,ks⟩
 clear hL ks hk
 go_enter Tryz.func139,Tryz.ntmps139
 go_wp2_with fail
 refine (HP.out.1 _ (q04 _ _ _)).mono ?_
 rintro e w1 ⟨f1,x1,y1,rfl,hr1,hb1⟩
 have HW:Hid (S (.func f1 x1 y1) w.heap.size w1/\Below w.heap.size w w1):=⟨HP.out.2.old hr1 (by simp;omega),q02 (q04 _ _ _) hb1⟩
 clear hr1 hb1
 go_wp2_with fail
 go_ret
 exact ⟨_,_,_,rfl,HW.out.1,HW.out.2⟩
theorem qe9 (M bb:Nat) (d:FD) (x:FA) (R:Rel) (s:Nat) (w:World) (h:BB M bb d x w) (kr:KpC R) (hs:s<d.nn) (hk:(d.nd s).k≠1) (hA:∀ u,Below w.heap.size w u->Calls Tryz.prog 139 #[ptr bb,q40 (d.nd s) (x.nas s)] u fun e u'=>Mks R u e u') :
  Calls Tryz.prog 80 #[ptr bb,.int .i64 (s:Int)] w fun e w'=>Mks (IsSt bb (q24 (d.nd s) (x.nas s)) R) w e w':=by
 have b1:=h.b.cell 1 rfl
 have hbl:=h.b.1
 obtain ⟨b,off,e1,hb,c0,c1,c2,c3,c4,c5,c6,c7⟩:=h.node hs
 rw[e1] at b1
 simp only[q40] at hA
 have HA:Hid _:=hA
 have HKp:Hid (KpC R):=kr
 have hk1:((d.nd s).k==1)=false:=by simpa using hk
 clear h hA kr
 have hmf:=q56
 go_enter Tryz.func80,Tryz.ntmps80
 go_wp2_with fail
 refine (HA.out _ (q04 _ _ _)).mono ?_
 rintro e w1 ⟨f1,x1,y1,rfl,hr1,hb1⟩
 have HW:Hid (R (.func f1 x1 y1) w.heap.size w1/\Below w.heap.size w w1/\Has w1 w.heap.size #[ptr bb]/\Has w1 (w.heap.size+1) (q24 (d.nd s) (x.nas s))):=⟨HKp.out.old hr1 (by simp;omega),q02 (q04 _ _ _) hb1,((Has.new _ _ _).alloc _).call hb1,(q87 _ _ _ _).call hb1⟩
 clear hr1 hb1 b1 hbl c0 c1 c2 c3 c4 c5 c6 c7 HA
 go_wp2_with fail
 go_ret
 obtain ⟨q1,q2,q3,q4⟩:=HW.out
 have hs:=q2.size
 exact ⟨_,_,_,rfl,⟨w.heap.size,w.heap.size+1,w1.heap.size,_,rfl,⟨Nat.le_refl _,q3.alloc _⟩,⟨by omega,q4.alloc _⟩,⟨hs,Has.new _ _ _⟩,HKp.out.call q1 (q01 _ _)⟩,q2.alloc hs _⟩
theorem q98 (M bb:Nat) (d:FD) (x:FA) (R:Rel) (s:Nat) (w:World) (h:BB M bb d x w) (kr:KpC R) (hs:s<d.nn) (hk:(d.nd s).k=1) (hA:∀ u,Below w.heap.size w u->Calls Tryz.prog 138 #[ptr bb,q40 (d.nd s) (x.nas s)] u fun e u'=>Mks R u e u') :
  Calls Tryz.prog 80 #[ptr bb,.int .i64 (s:Int)] w fun e w'=>Mks R w e w':=by
 have b1:=h.b.cell 1 rfl
 have hbl:=h.b.1
 obtain ⟨b,off,e1,hb,c0,c1,c2,c3,c4,c5,c6,c7⟩:=h.node hs
 rw[e1] at b1
 rw[(ql4 hk rfl rfl).1] at hA
 have HA:Hid _:=hA
 have HKp:Hid (KpC R):=kr
 rw[hk] at c0
 clear h hA kr hk
 go_enter Tryz.func80,Tryz.ntmps80
 go_wp2_with fail
 refine (HA.out _ (q04 _ _ _)).mono ?_
 rintro e w1 ⟨f1,x1,y1,rfl,hr1,hb1⟩
 have HW:Hid (R (.func f1 x1 y1) w.heap.size w1/\Below w.heap.size w w1):=⟨HKp.out.old hr1 (by simp;omega),q02 (q04 _ _ _) hb1⟩
 clear hr1 hb1 b1 hbl c0 c1 c2 c3 c4 c5 c6 c7 HA
 go_wp2_with fail
 go_ret
 exact ⟨_,_,_,rfl,HW.out.1,HW.out.2⟩
theorem qe3 (M bb:Nat) (d:FD) (x:FA) (Rs:Nat->Rel) (q:ND) (y:NA) (n:Nat) (ks:Nat->Nat) (w:World) (h:BB M bb d x w) (kp:∀ j,j<n->KpC (Rs j)) (hn0:1<=n) (hn:n<=200) (hkn:q.kn=n) (hk:∀ j,j<n->ks j<d.nn/\(d.nd (ks j)).k≠14/\SubC 80 bb w (ks j) (Rs j)) (hR:RowN 1 0 w y.ka n fun j=>#[.int .i64 (ks j:Int)]) :
  Calls Tryz.prog 138 #[ptr bb,q40 q y] w fun e w'=>Mks (IsBk n Rs) w e w':=by
 have HKp:Hid (∀ j,j<n->KpC (Rs j)):=kp
 have HB0:Hid (BB M bb d x w/\1<=n):=⟨h,hn0⟩
 have HK:Hid (∀ j,j<n->ks j<d.nn/\(d.nd (ks j)).k≠14/\SubC 80 bb w (ks j) (Rs j)):=hk
 have HR:Hid (RowN 1 0 w y.ka n fun j=>#[.int .i64 (ks j:Int)]):=hR
 have hmf:=q56
 rw[(ql4 rfl rfl hkn).1]
 clear hk hR kp h hkn hn0
 go_enter Tryz.func138,Tryz.ntmps138
 go_wp2_with fail
 obtain ⟨w0,hw0⟩:∃ w0,w.alloc (.cells (ndA q.k q y y.ka n) 51)=w0:=⟨_,rfl⟩
 have HW0:Hid (Below w.heap.size w w0/\w0.heap.size=w.heap.size+1):=by rw[<-hw0];exact ⟨q01 _ _,by simp⟩
 rw[hw0]
 have e7:Hid (w.heap.size+1=w0.heap.size):=HW0.out.2.symm
 rw[e7.out]
 clear hw0
 obtain ⟨B,hB⟩:∃ B,w0.heap.size=B:=⟨_,rfl⟩
 have H0:Hid (OnS 107 w0 B Rs 0 none 0 (fun _=>.bool false) (w0.alloc (.cells #[.slice none 0 0] 64))):=by
  rw[<-hB]
  exact ⟨OwnB.new _ _ _,World.ownsRow_nil _ _ _ _,fun j hj=>by omega,fun _=>⟨rfl,rfl⟩,q01 _ _⟩
 have HBe:Hid (w0.heap.size=B):=hB
 rw[hB]
 clear hB
 go_loopw [6,12] (fun v i wr=>v=.bool false/\∃ (k:Nat) (oa:Option Addr) (oc:Nat) (Vs:Nat->Value),k<=n/\i=.int .i64 k/\Hid (OnS 107 w0 B Rs k oa oc Vs wr)) (fun _ i _=>n-(intOf i).toNat)
 case atStart=>exact ⟨rfl,0,none,0,fun _=>.bool false,Nat.zero_le _,rfl,H0⟩
 case round=>
  clear H0
  obtain ⟨rfl,k,oa,oc,Vs,hk,rfl,HO⟩:=hrel
  by_cases hkn:k<n
  ·have hbw:Below w.heap.size w wr:=q02 HW0.out.1 HO.out.k
   obtain ⟨rb,ro,e2,_,hrb,d0⟩:=cells1 (RowN.below HR.out hbw) hkn
   rw[e2]
   have b0:=HO.out.b.1.cell 0 rfl
   have bz:=HO.out.b.2
   have hBl:=HO.out.b.1.1
   go_upto_region 6 with fail
   have HSk:Hid (Calls Tryz.prog 80 #[ptr bb,.int .i64 (ks k:Int)] wr.drew fun e u'=>Mks (Rs k) wr.drew e u'):=(HK.out k hkn).2.2 _ hbw.drew
   have HBr:Hid (BB M bb d x wr.drew):=HB0.out.1.call hbw.drew
   obtain ⟨i0,hi0,hy0,hy1,hy2⟩:=info_parts qx6
   have heg:=enters_of Tryz.func80 (by kernel_rfl) rfl
   go_region_law (first
    |(refine qj6 (by rfl) 80 _ _ _ _ (by rfl) (ptr bb) (.int .i64 (ks k:Int)) (by rfl) (by rfl) heg _ HSk.out ?_;rintro e w1 ⟨ff,fx,fy,rfl,hn1,hb1⟩;refine ⟨_,rfl,?_⟩;have HO1:Hid (OnS 107 w0 B Rs k oa oc Vs (w1.alloc (.cells #[.func ff fx fy] 107))):=((HO.out.call (Below.refl _ _).drew).call hb1).call (q01 _ _);obtain ⟨v',w7,happ,hown,hgrow,_,hat⟩:=run_append_own_at (P:=Tryz.prog) (w1.alloc (.cells #[.func ff fx fy] 107)) (w0.heap.size+1) 64 64 107 i0 _ 1 8 Tryz.underlying64 hi0 hy0 hy1 hy2 rfl (by decide) (.slice oa k oc) k ((List.range k).map Vs) HO1.out.r ⟨w1.heap.size,0,none⟩ 1 1 [.func ff fx fy] rfl (cell_one_new _ _ _) (by simp[Value.oneCell']) (by unfold maxLen;omega) (by omega) (by have:=HO1.out.b.1.1;have:=HBe.out;omega);obtain ⟨oa',oc',rfl,hp⟩:=HO1.out.push HBe.out hn1 (by have h9:=HBe.out;have h8:B<wr.drew.heap.size:=hBl;omega) ((Fr.refl _ _ _).alloc (Nat.le_refl _) _) (by simp) (fun q e=>.inl (q09 HO.out.r e).2) (by have h8:B<wr.drew.heap.size:=hBl;exact h8) hown hgrow hat;have HN:Hid (OnS 107 w0 B Rs (k+1) oa' oc' (fun j=>if j=k then .func ff fx fy else Vs j) (w7.setCell ⟨B,0,none⟩ (.slice oa' (k+1) oc'))):=hp;have b01:=((HO.out.call (Below.refl _ _).drew).call hb1).b.1.cell 0 rfl;have hl01:=((HO.out.call (Below.refl _ _).drew).call hb1).b.1.1;have b0':=HO1.out.b.1.cell 0 rfl;have hm7:=HO1.out.mid HBe.out hgrow;have b7:=hm7.1.cell 0 rfl;have z7:=hm7.2;clear hown hgrow hat hp hn1 hb1 hm7)
    |(refine q84 (by rfl) _ _ _ _ (by rfl) (.slice oa k oc) (.slice (some ⟨w1.heap.size,0,none⟩) 1 1) _ _ (by rfl) (by rfl) happ ?_))
   all_goals
    clear HO HO1 HSk
    obtain ⟨w8,hw8⟩:∃ w8,w7.setCell ⟨B,0,none⟩ (.slice oa' (k+1) oc')=w8:=⟨_,rfl⟩
    rw[hw8] at HN
    rw[hw8]
    have HBW:Hid (BB M bb d x w8):=HB0.out.1.call (q02 HW0.out.1 HN.out.k)
    clear hw8 happ b01 hl01 b0' b7 z7 b0 bz hBl d0 hi0 hy0 hy1 hy2 heg HBr hbw
    have b1:=HBW.out.b.cell 1 rfl
    have hbl:=HBW.out.b.1
    have hsk:=(HK.out k hkn).2.1
    have hsl:=(HK.out k hkn).1
    obtain ⟨b,off,e1,hb,c0,c1,c2,c3,c4,c5,c6,c7⟩:=HBW.out.node hsl
    rw[e1] at b1
    clear c1 c2 c3 c4 c5 c6 c7
    go_wp2_with fail
    go_roundw
    case rel=>exact ⟨by simp[hsk],k+1,oa',oc',_,by omega,by go_num,HN⟩
    case measure=>simp[intOf];omega
  ·obtain rfl:k=n:=by omega
   go_wp2_with fail
   go_ret
   have h9:=HBe.out
   have h8:=HW0.out.2
   have h7:=HB0.out.2
   rcases HO.out.r.2 with ⟨_,h1⟩|⟨g,c,cur,e,h1,h2,_⟩
   ·omega
   ·cases e
    refine ⟨_,_,_,rfl,⟨B,g,oc,Vs,rfl,⟨by omega,HO.out.b.1⟩,by omega,(Array.getElem?_eq_some_iff.1 h2).1,fun j hj=>⟨?_,?_⟩⟩,q02 HW0.out.1 HO.out.k⟩
    ·have:=HO.out.r.cells (g:=g) rfl j (Vs j) (by simp[hj])
     cases j<;>simpa[Addr.add] using this
    ·obtain ⟨n,u1,h1,h2,h3,h4,h5,h6⟩:=HO.out.l j hj
     exact (HKp.out j hj).old ((HKp.out j hj).fr h1 h3) (by omega)
theorem qs2 (M bb:Nat) (d:FD) (x:FA) (R:Rel) (n:Nat) (w:World) (h:BB M bb d x w) (hn:d.nn=n+1) (hn2:n<=3000) (hS:SubC 80 bb w n R) :
  Calls Tryz.prog 47 #[ptr bb] w fun e w'=>Mks R w e w':=by
 have b1:=h.b.cell 1 rfl
 have hbl:=h.b.1
 rw[hn] at b1
 have HS:Hid (SubC 80 bb w n R):=hS
 clear h hS hn
 go_enter Tryz.func47,Tryz.ntmps47
 go_wp2_with fail
 refine (HS.out _ (q20 _)).mono ?_
 rintro e w1 ⟨f1,x1,y1,rfl,hr1,hb1⟩
 have HW:Hid (R (.func f1 x1 y1) w.heap.size w1/\Below w.heap.size w w1):=⟨hr1,hb1⟩
 clear hr1 hb1 b1 hbl
 go_wp2_with fail
 go_ret
 exact ⟨_,_,_,rfl,HW.out.1,HW.out.2⟩
theorem qm2 (M ub uo uc nf fn:Nat) (d:FD) (x:FA) (w:World) (m0:w.cell? ⟨M,0,none⟩=some (.slice (some ⟨ub,uo,none⟩) nf uc)) (hfn:fn<nf) (u6:w.cell? ⟨ub,uo+fn*7+6,none⟩=some (.slice x.na d.nn x.nc)) (hN:NodesAt 0 w d.nn d.nd x.na x.nas) :
  Calls Tryz.prog 46 #[ptr M,.int .i64 (fn:Int)] w fun e w'=>∃ bb,e=.returned (ptr bb)/\w.heap.size<=bb/\BB M bb d x w'/\Below w.heap.size w w':=by
 have HN:Hid (NodesAt 0 w d.nn d.nd x.na x.nas):=hN
 have hi0:(0:Int)<=(fn:Int):=Int.natCast_nonneg _
 have hi1:(fn:Int)<(nf:Int):=by omega
 clear hN
 go_enter Tryz.func46,Tryz.ntmps46
 go_wp2_with fail
 go_ret
 exact ⟨w.heap.size,rfl,Nat.le_refl _,⟨Has.new _ _ _,HN.out.alloc _⟩,q01 _ _⟩
theorem qm8 (M bb:Nat) (d:FD) (x:FA) (R:Rel) (n i:Nat) (w:World) (h:BB M bb d x w) (kr:KpC R) (hn:n<d.nn) (h2:(d.nd n).kn=1) (h0:(d.nd n).c 0=(i:Int)) (hcap:1<=(x.nas n).kc) (hE:SubC 176 bb w i R) :
  Calls Tryz.prog 191 #[ptr bb,.int .i64 (n:Int)] w fun e w'=>Mks (qa4 R IsNil) w e w':=by
 have HE:Hid (SubC 176 bb w i R):=hE
 have HKp:Hid (KpC R/\KpC IsNil):=⟨kr,z18⟩
 have hmf:=q56
 have b1:=h.b.cell 1 rfl
 have hbl:=h.b.1
 obtain ⟨b,off,e1,hb,c0,c1,c2,c3,c4,c5,c6,c7⟩:=h.node hn
 rw[e1] at b1
 rw[h2] at c7
 obtain ⟨kb,ko,e2,_,hkb,d0⟩:=cells1 (h.n.2 n hn).2 (k:=0) (by omega)
 rw[h0] at d0
 rw[e2] at c7
 simp only[Nat.add_zero] at d0
 generalize hkc:(x.nas n).kc=kc at *
 clear h c0 c1 c2 c3 c4 c5 c6 e1 e2 h2 h0 hkc hE kr
 have HC:Hid (∀ u,Below w.heap.size w u->u.cell? ⟨kb,ko,none⟩=some (.int .i64 (i:Int))):=fun u hu=>(hu.cell (p:=⟨kb,ko,none⟩) hkb).trans d0
 rcases (show kc=1\/¬(kc-1=0) by omega) with rfl|hi4
 all_goals
  go_enter Tryz.func191,Tryz.ntmps191
  go_upto_region 2 with fail
  clear b1 c7 d0 hbl hb
  go_region_held3 (fun u=>u.cell? ⟨kb,ko,none⟩=some (.int .i64 (i:Int))) (first|(refine HC.out _ ?_;(repeat (first|with_reducible exact HB2.out|with_reducible exact HB1.out|with_reducible exact q20 _|with_reducible refine q15 ?_ _|with_reducible refine q22 ?_|with_reducible refine q29 ?_ _ (by have h1:=HB1.out.size;have h2:=HB2.out.size;omega)));done))
   (first
   |(go_at_call 176;refine (HE.out _ ?_).mono ?_;((repeat (first|with_reducible exact HB2.out|with_reducible exact HB1.out|with_reducible exact q20 _|with_reducible refine q15 ?_ _|with_reducible refine q22 ?_|with_reducible refine q29 ?_ _ (by have h1:=HB1.out.size;have h2:=HB2.out.size;omega))));rintro e w1 ⟨f1,x1,y1,rfl,hr1,hb1⟩;obtain ⟨n1,hn1,HR1⟩:∃ n1,Hid (n1=_)/\Hid (R (.func f1 x1 y1) n1 w1):=⟨_,rfl,hr1⟩;have HB1:Hid (Below w.heap.size w w1):=(by refine q02 ?_ hb1;(repeat (first|with_reducible exact HB2.out|with_reducible exact HB1.out|with_reducible exact q20 _|with_reducible refine q15 ?_ _|with_reducible refine q22 ?_|with_reducible refine q29 ?_ _ (by have h1:=HB1.out.size;have h2:=HB2.out.size;omega))));have HS1:Hid (_<=w1.heap.size):=hb1.size;(first|(have hx:=box00 hb1;have m1:=hx.b.1.1)|(have hx:=box0 hb1;have m1:=hx.a.1.1;have m2:=Nat.ne_of_lt m1;have m3:=Nat.ne_of_gt m1)|(have hx:=True.intro));clear hb1 hr1)
   |(go_at_call 173;refine (z10 bb _ _ _).mono ?_;(try (repeat (first|with_reducible exact HB2.out|with_reducible exact HB1.out|with_reducible exact q20 _|with_reducible refine q15 ?_ _|with_reducible refine q22 ?_|with_reducible refine q29 ?_ _ (by have h1:=HB1.out.size;have h2:=HB2.out.size;omega))));rintro e w2 ⟨f2,x2,y2,rfl,hr2,hb2⟩;obtain ⟨n2,hn2,HR2⟩:∃ n2,Hid (n2=_)/\Hid (IsNil (.func f2 x2 y2) n2 w2):=⟨_,rfl,hr2⟩;have HB2:Hid (Below w.heap.size w w2):=(by refine q02 ?_ hb2;(repeat (first|with_reducible exact HB2.out|with_reducible exact HB1.out|with_reducible exact q20 _|with_reducible refine q15 ?_ _|with_reducible refine q22 ?_|with_reducible refine q29 ?_ _ (by have h1:=HB1.out.size;have h2:=HB2.out.size;omega))));have HBB:Hid (Below _ _ w2):=hb2;have HS2:Hid (_<=w2.heap.size):=hb2.size;(first|(have hy:=Bp.call hx hb2)|(have hy:=Bo.next hx hb2)|(have hy:=Bo.call hx hb2)|(have hy:=box2 hb2)|(have hy:=box1 hb2)|(have hy:=True.intro));(first|(have c1:=hy.a.1.cell 0 rfl;have z1:=hy.a.2;have l1:=hy.a.1.1;have c2:=hy.b.1.cell 0 rfl;have z2:=hy.b.2;have l2:=hy.b.1.1;have n1':=Nat.ne_of_lt l1;have n2':=Nat.ne_of_gt l1;have n3':=Nat.ne_of_lt l2;have n4':=Nat.ne_of_gt l2)|(have c1:=hy.a.1.cell 0 rfl;have z1:=hy.a.2;have l1:=hy.a.1.1;have n1':=Nat.ne_of_lt l1;have n2':=Nat.ne_of_gt l1)|skip);clear hb2 hr2))
  all_goals
   go_wp2_with fail
   go_ret
   have e1:=hn1.out
   have e2:=hn2.out
   have s1:=HS1.out
   have s2:=HS2.out
   try simp at e1
   try simp at e2
   try simp at s1
   try simp at s2
   have q1:=HB1.out.size
   have q2:=HB2.out.size
   have hk9:=True.intro
   have hk8:=True.intro
   have r1:=HR1.out
   have r2:=HR2.out
   have hbb:=HBB.out
   have hB2:=HB2.out
   obtain ⟨kr,ks⟩:=HKp.out
   refine ⟨_,_,_,rfl,⟨_,_,_,_,rfl,⟨?_,?_⟩,⟨?_,?_⟩,kr.old (kr.fr r1 ?_) (by omega),ks.old (ks.fr r2 ?_) (by omega)⟩,?_⟩
   all_goals (try omega)
   all_goals (repeat (first|with_reducible exact hB2|with_reducible exact Fr.refl _ _ _|with_reducible exact Has.new _ _ _|with_reducible exact q87 _ _ _ _|with_reducible exact qn3 _ _ _ _ _|with_reducible exact hk9|with_reducible exact hk8|with_reducible refine Has.alloc ?_ _|with_reducible refine q15 ?_ _|(with_reducible refine q29 ?_ _ (by omega))|with_reducible exact hy.a|with_reducible exact hy.b|with_reducible exact OwnB.new _ _ _|with_reducible exact q41 _ _ _ _|with_reducible refine OwnB.alloc ?_ _|with_reducible refine qi5 (x:=.nilFunc) ?_|(with_reducible refine qi6 ?_ (by omega))|(with_reducible refine q30 ?_ (by omega))|(with_reducible refine Fr.set ?_ (by omega))|with_reducible refine Fr.alloc ?_ (Nat.le_refl _) _|with_reducible refine Fr.drew ?_|with_reducible refine Fr.call ?_ (Nat.le_refl _) hbb))
theorem qm7 (M bb:Nat) (d:FD) (x:FA) (R S:Rel) (n i m:Nat) (w:World) (h:BB M bb d x w) (kr:KpC R) (ks:KpC S) (hn:n<d.nn) (h2:(d.nd n).kn=m+1) (h0:(d.nd n).c 0=(i:Int)) (h1:1<=m) (hm:m<=200) (hcap:m<(x.nas n).kc) (hE:SubC 176 bb w i R) (hL:∀ u kb ko c,(x.nas n).ka=some ⟨kb,ko,none⟩->kb<w.heap.size->m<=c->Below w.heap.size w u->Calls Tryz.prog 173 #[ptr bb,.slice (some ⟨kb,ko+1,none⟩) m c] u fun e u'=>Mks S u e u') :
  Calls Tryz.prog 191 #[ptr bb,.int .i64 (n:Int)] w fun e w'=>Mks (qa4 R S) w e w':=by
 have HE:Hid (SubC 176 bb w i R):=hE
 have HKp:Hid (KpC R/\KpC S):=⟨kr,ks⟩
 have hmf:=q56
 have b1:=h.b.cell 1 rfl
 have hbl:=h.b.1
 obtain ⟨b,off,e1,hb,c0,c1,c2,c3,c4,c5,c6,c7⟩:=h.node hn
 rw[e1] at b1
 rw[h2] at c7
 obtain ⟨kb,ko,e2,_,hkb,d0⟩:=cells1 (h.n.2 n hn).2 (k:=0) (by omega)
 rw[h0] at d0
 rw[e2] at c7
 simp only[Nat.add_zero] at d0
 have HL:Hid (∀ u c,m<=c->Below w.heap.size w u->Calls Tryz.prog 173 #[ptr bb,.slice (some ⟨kb,ko+1,none⟩) m c] u fun e u'=>Mks S u e u'):=fun u c hc hu=>hL u kb ko c e2 hkb hc hu
 generalize hkc:(x.nas n).kc=kc at *
 clear h c0 c1 c2 c3 c4 c5 c6 e1 e2 h2 h0 hkc hE kr hL
 have HC:Hid (∀ u,Below w.heap.size w u->u.cell? ⟨kb,ko,none⟩=some (.int .i64 (i:Int))):=fun u hu=>(hu.cell (p:=⟨kb,ko,none⟩) hkb).trans d0
 have hi1:(1:Int)<=(kc:Int):=by omega
 have hi2:(1:Int)<=(m:Int)+1:=by omega
 have hi3:(m:Int)+1<=(kc:Int):=by omega
 have hi4:¬(kc-1=0):=by omega
 go_enter Tryz.func191,Tryz.ntmps191
 go_upto_region 2 with fail
 clear b1 c7 d0 hbl hb
 go_region_held3 (fun u=>u.cell? ⟨kb,ko,none⟩=some (.int .i64 (i:Int))) (first|(refine HC.out _ ?_;(repeat (first|with_reducible exact HB2.out|with_reducible exact HB1.out|with_reducible exact q20 _|with_reducible refine q15 ?_ _|with_reducible refine q22 ?_|with_reducible refine q29 ?_ _ (by have h1:=HB1.out.size;have h2:=HB2.out.size;omega)));done))
  (first
  |(go_at_call 176;refine (HE.out _ ?_).mono ?_;((repeat (first|with_reducible exact HB2.out|with_reducible exact HB1.out|with_reducible exact q20 _|with_reducible refine q15 ?_ _|with_reducible refine q22 ?_|with_reducible refine q29 ?_ _ (by have h1:=HB1.out.size;have h2:=HB2.out.size;omega))));rintro e w1 ⟨f1,x1,y1,rfl,hr1,hb1⟩;obtain ⟨n1,hn1,HR1⟩:∃ n1,Hid (n1=_)/\Hid (R (.func f1 x1 y1) n1 w1):=⟨_,rfl,hr1⟩;have HB1:Hid (Below w.heap.size w w1):=(by refine q02 ?_ hb1;(repeat (first|with_reducible exact HB2.out|with_reducible exact HB1.out|with_reducible exact q20 _|with_reducible refine q15 ?_ _|with_reducible refine q22 ?_|with_reducible refine q29 ?_ _ (by have h1:=HB1.out.size;have h2:=HB2.out.size;omega))));have HS1:Hid (_<=w1.heap.size):=hb1.size;(first|(have hx:=box00 hb1;have m1:=hx.b.1.1)|(have hx:=box0 hb1;have m1:=hx.a.1.1;have m2:=Nat.ne_of_lt m1;have m3:=Nat.ne_of_gt m1)|(have hx:=True.intro));clear hb1 hr1)
  |(go_at_call 173;refine (HL.out _ _ (by omega) ?_).mono ?_;((repeat (first|with_reducible exact HB2.out|with_reducible exact HB1.out|with_reducible exact q20 _|with_reducible refine q15 ?_ _|with_reducible refine q22 ?_|with_reducible refine q29 ?_ _ (by have h1:=HB1.out.size;have h2:=HB2.out.size;omega))));rintro e w2 ⟨f2,x2,y2,rfl,hr2,hb2⟩;obtain ⟨n2,hn2,HR2⟩:∃ n2,Hid (n2=_)/\Hid (S (.func f2 x2 y2) n2 w2):=⟨_,rfl,hr2⟩;have HB2:Hid (Below w.heap.size w w2):=(by refine q02 ?_ hb2;(repeat (first|with_reducible exact HB2.out|with_reducible exact HB1.out|with_reducible exact q20 _|with_reducible refine q15 ?_ _|with_reducible refine q22 ?_|with_reducible refine q29 ?_ _ (by have h1:=HB1.out.size;have h2:=HB2.out.size;omega))));have HBB:Hid (Below _ _ w2):=hb2;have HS2:Hid (_<=w2.heap.size):=hb2.size;(first|(have hy:=Bp.call hx hb2)|(have hy:=Bo.next hx hb2)|(have hy:=Bo.call hx hb2)|(have hy:=box2 hb2)|(have hy:=box1 hb2)|(have hy:=True.intro));(first|(have c1:=hy.a.1.cell 0 rfl;have z1:=hy.a.2;have l1:=hy.a.1.1;have c2:=hy.b.1.cell 0 rfl;have z2:=hy.b.2;have l2:=hy.b.1.1;have n1':=Nat.ne_of_lt l1;have n2':=Nat.ne_of_gt l1;have n3':=Nat.ne_of_lt l2;have n4':=Nat.ne_of_gt l2)|(have c1:=hy.a.1.cell 0 rfl;have z1:=hy.a.2;have l1:=hy.a.1.1;have n1':=Nat.ne_of_lt l1;have n2':=Nat.ne_of_gt l1)|skip);clear hb2 hr2))
 all_goals
  go_wp2_with fail
  go_ret
  have e1:=hn1.out
  have e2:=hn2.out
  have s1:=HS1.out
  have s2:=HS2.out
  try simp at e1
  try simp at e2
  try simp at s1
  try simp at s2
  have q1:=HB1.out.size
  have q2:=HB2.out.size
  have hk9:=True.intro
  have hk8:=True.intro
  have r1:=HR1.out
  have r2:=HR2.out
  have hbb:=HBB.out
  have hB2:=HB2.out
  obtain ⟨kr,ks⟩:=HKp.out
  refine ⟨_,_,_,rfl,⟨_,_,_,_,rfl,⟨?_,?_⟩,⟨?_,?_⟩,kr.old (kr.fr r1 ?_) (by omega),ks.old (ks.fr r2 ?_) (by omega)⟩,?_⟩
  all_goals (try omega)
  all_goals (repeat (first|with_reducible exact hB2|with_reducible exact Fr.refl _ _ _|with_reducible exact Has.new _ _ _|with_reducible exact q87 _ _ _ _|with_reducible exact qn3 _ _ _ _ _|with_reducible exact hk9|with_reducible exact hk8|with_reducible refine Has.alloc ?_ _|with_reducible refine q15 ?_ _|(with_reducible refine q29 ?_ _ (by omega))|with_reducible exact hy.a|with_reducible exact hy.b|with_reducible exact OwnB.new _ _ _|with_reducible exact q41 _ _ _ _|with_reducible refine OwnB.alloc ?_ _|with_reducible refine qi5 (x:=.nilFunc) ?_|(with_reducible refine qi6 ?_ (by omega))|(with_reducible refine q30 ?_ (by omega))|(with_reducible refine Fr.set ?_ (by omega))|with_reducible refine Fr.alloc ?_ (Nat.le_refl _) _|with_reducible refine Fr.drew ?_|with_reducible refine Fr.call ?_ (Nat.le_refl _) hbb))
theorem zo0 (M bb:Nat) (R S:Rel) (q:ND) (y:NA) (nd:Value) (kb ko i j:Nat) (w:World) (kr:KpC R) (ks:KpC S) (hk:q.k=12) (hkn:q.kn=2) (hka:y.ka=some ⟨kb,ko,none⟩) (hkb:kb<w.heap.size) (hb:Has w bb #[ptr M,nd]) (hc0:w.cell? ⟨kb,ko,none⟩=some (.int .i64 (i:Int))) (hc1:w.cell? ⟨kb,ko+1,none⟩=some (.int .i64 (j:Int))) (hA:SubC 80 bb w i R) (hB:SubC 80 bb w j S) :
  Calls Tryz.prog 175 #[ptr bb,q40 q y] w fun e w'=>Mks (yi1 M (q24 q y) R S) w e w':=by
 have HA:Hid (∀ u,Below w.heap.size w u->Calls Tryz.prog 80 #[ptr bb,.int .i64 (i:Int)] u fun e u'=>Mks R u e u'):=hA
 have HA2:Hid (∀ u,Below w.heap.size w u->Calls Tryz.prog 80 #[ptr bb,.int .i64 (j:Int)] u fun e u'=>Mks S u e u'):=hB
 have HKp:Hid (KpC R/\KpC S):=⟨kr,ks⟩
 have hmf:=q56
 have b0:=hb.cell 0 rfl
 have hbl:=hb.1
 rw[(ql4 hk hka hkn).1,(ql4 hk hka hkn).2]
 clear hA hB kr ks hb hk hkn hka
 go_enter Tryz.func175,Tryz.ntmps175
 go_upto_region 2 with fail
 obtain ⟨w0,hw0⟩:∃ w0,(w.alloc (.cells (ndA 12 q y (some ⟨kb,ko,none⟩) 2) 51)).alloc (.cells #[ptr M] 39)=w0:=⟨_,rfl⟩
 have HW0:Hid (Below w.heap.size w w0/\Has w0 w.heap.size (ndA 12 q y (some ⟨kb,ko,none⟩) 2)/\Has w0 (w.heap.size+1) #[ptr M]/\w0.heap.size=w.heap.size+2):=by rw[<-hw0];exact ⟨q04 _ _ _,(Has.new _ _ _).alloc _,q87 _ _ _ _,by simp⟩
 rw[hw0]
 have HC:Hid (∀ u,Below w0.heap.size w0 u->u.cell? ⟨w.heap.size,7,none⟩=some (.slice (some ⟨kb,ko,none⟩) 2 y.kc)/\u.cell? ⟨kb,ko,none⟩=some (.int .i64 (i:Int))/\u.cell? ⟨kb,ko+1,none⟩=some (.int .i64 (j:Int))):=fun u hu=>⟨(HW0.out.2.1.call hu).cell 7 rfl,(hu.cell (p:=⟨kb,ko,none⟩) (by show kb<w0.heap.size;have:=HW0.out.2.2.2;omega)).trans ((HW0.out.1.cell (p:=⟨kb,ko,none⟩) hkb).trans hc0),(hu.cell (p:=⟨kb,ko+1,none⟩) (by show kb<w0.heap.size;have:=HW0.out.2.2.2;omega)).trans ((HW0.out.1.cell (p:=⟨kb,ko+1,none⟩) hkb).trans hc1)⟩
 clear hw0 hc0 hc1 b0 hbl
 go_region_held3 (fun u=>u.cell? ⟨w.heap.size,7,none⟩=some (.slice (some ⟨kb,ko,none⟩) 2 y.kc)/\u.cell? ⟨kb,ko,none⟩=some (.int .i64 (i:Int))/\u.cell? ⟨kb,ko+1,none⟩=some (.int .i64 (j:Int))) (first|(refine HC.out _ ?_;(repeat (first|with_reducible exact HB2.out|with_reducible exact HB1.out|with_reducible exact q20 _|with_reducible refine q15 ?_ _|with_reducible refine q22 ?_|with_reducible refine q29 ?_ _ (by have h1:=HB1.out.size;have h2:=HB2.out.size;omega)));done))
  (first
  |(go_at_call 80;have hz9:=HB1.out;clear hz9;refine (HA2.out _ (q02 HW0.out.1 ?_)).mono ?_;((repeat (first|with_reducible exact HB2.out|with_reducible exact HB1.out|with_reducible exact q20 _|with_reducible refine q15 ?_ _|with_reducible refine q22 ?_|with_reducible refine q29 ?_ _ (by have h1:=HB1.out.size;have h2:=HB2.out.size;omega))));rintro e w2 ⟨f2,x2,y2,rfl,hr2,hb2⟩;obtain ⟨n2,hn2,HR2⟩:∃ n2,Hid (n2=_)/\Hid (S (.func f2 x2 y2) n2 w2):=⟨_,rfl,hr2⟩;have HB2:Hid (Below w0.heap.size w0 w2):=(by refine q02 ?_ hb2;(repeat (first|with_reducible exact HB2.out|with_reducible exact HB1.out|with_reducible exact q20 _|with_reducible refine q15 ?_ _|with_reducible refine q22 ?_|with_reducible refine q29 ?_ _ (by have h1:=HB1.out.size;have h2:=HB2.out.size;omega))));have HBB:Hid (Below _ _ w2):=hb2;have HS2:Hid (_<=w2.heap.size):=hb2.size;(first|(have hy:=Bp.call hx hb2)|(have hy:=Bo.next hx hb2)|(have hy:=Bo.call hx hb2)|(have hy:=box2 hb2)|(have hy:=box1 hb2)|(have hy:=True.intro));(first|(have c1:=hy.a.1.cell 0 rfl;have z1:=hy.a.2;have l1:=hy.a.1.1;have c2:=hy.b.1.cell 0 rfl;have z2:=hy.b.2;have l2:=hy.b.1.1;have n1':=Nat.ne_of_lt l1;have n2':=Nat.ne_of_gt l1;have n3':=Nat.ne_of_lt l2;have n4':=Nat.ne_of_gt l2)|(have c1:=hy.a.1.cell 0 rfl;have z1:=hy.a.2;have l1:=hy.a.1.1;have n1':=Nat.ne_of_lt l1;have n2':=Nat.ne_of_gt l1)|skip);clear hb2 hr2)
  |(go_at_call 80;refine (HA.out _ (q02 HW0.out.1 ?_)).mono ?_;((repeat (first|with_reducible exact HB2.out|with_reducible exact HB1.out|with_reducible exact q20 _|with_reducible refine q15 ?_ _|with_reducible refine q22 ?_|with_reducible refine q29 ?_ _ (by have h1:=HB1.out.size;have h2:=HB2.out.size;omega))));rintro e w1 ⟨f1,x1,y1,rfl,hr1,hb1⟩;obtain ⟨n1,hn1,HR1⟩:∃ n1,Hid (n1=_)/\Hid (R (.func f1 x1 y1) n1 w1):=⟨_,rfl,hr1⟩;have HB1:Hid (Below w0.heap.size w0 w1):=(by refine q02 ?_ hb1;(repeat (first|with_reducible exact HB2.out|with_reducible exact HB1.out|with_reducible exact q20 _|with_reducible refine q15 ?_ _|with_reducible refine q22 ?_|with_reducible refine q29 ?_ _ (by have h1:=HB1.out.size;have h2:=HB2.out.size;omega))));have HS1:Hid (_<=w1.heap.size):=hb1.size;(first|(have hx:=box00 hb1;have m1:=hx.b.1.1)|(have hx:=box0 hb1;have m1:=hx.a.1.1;have m2:=Nat.ne_of_lt m1;have m3:=Nat.ne_of_gt m1)|(have hx:=True.intro));clear hb1 hr1))
 all_goals
  go_wp2_with fail
  go_ret
  have e1:=hn1.out
  have e2:=hn2.out
  have s1:=HS1.out
  have s2:=HS2.out
  try simp at e1
  try simp at e2
  try simp at s1
  try simp at s2
  have q1:=HB1.out.size
  have q2:=HB2.out.size
  have q3:=HW0.out.2.2.2
  have hB2:=HB2.out
  have hk9:=HW0.out.2.1.call hB2
  have hk8:=HW0.out.2.2.1.call hB2
  have hk7:=True.intro
  have r1:=HR1.out
  have r2:=HR2.out
  have hbb:=HBB.out
  obtain ⟨kr,ks⟩:=HKp.out
  refine ⟨_,_,_,rfl,⟨_,_,_,_,_,_,rfl,⟨?_,?_⟩,⟨?_,?_⟩,⟨?_,?_⟩,⟨?_,?_⟩,kr.old (kr.fr r1 ?_) (by omega),ks.old (ks.fr r2 ?_) (by omega)⟩,q02 HW0.out.1 ?_⟩
  all_goals (try omega)
  all_goals (repeat (first|with_reducible exact hB2|with_reducible exact Fr.refl _ _ _|with_reducible exact Has.new _ _ _|with_reducible exact q87 _ _ _ _|with_reducible exact qn3 _ _ _ _ _|with_reducible exact hk9|with_reducible exact hk8|with_reducible exact hk7|with_reducible refine Has.alloc ?_ _|with_reducible refine q15 ?_ _|(with_reducible refine q29 ?_ _ (by omega))|with_reducible exact hy.a|with_reducible exact hy.b|with_reducible exact OwnB.new _ _ _|with_reducible exact q41 _ _ _ _|with_reducible refine OwnB.alloc ?_ _|with_reducible refine qi5 (x:=.nilFunc) ?_|(with_reducible refine qi6 ?_ (by omega))|(with_reducible refine q30 ?_ (by omega))|(with_reducible refine Fr.set ?_ (by omega))|with_reducible refine Fr.alloc ?_ (Nat.le_refl _) _|with_reducible refine Fr.drew ?_|with_reducible refine Fr.call ?_ (Nat.le_refl _) hbb))
end Go.Proofs.YtaimofjekgnieaaGreatDoor
namespace Go.Proofs.YtaimofjekgnieaaGreatDoor
structure NdF (q:ND) (k n:Int) (rs cs:List Nat):Prop where
 k:q.k=k
 o:q.o=0
 n:q.n=n
 f:q.f=0
 s:q.s=⟨#[]⟩
 rn:q.rn=rs.length
 r:∀ j z:Nat,rs[j]?=some z->q.r j=(z:Int)
 kn:q.kn=cs.length
 c:∀ j z:Nat,cs[j]?=some z->q.c j=(z:Int)
structure NdE (q:ND) (k n:Int) (rs cs:List Nat):Prop where
 f:NdF q k n rs cs
 l:q.l=0
structure NdS (q:ND) (k:Int) (rs cs:List Nat):Prop where
 f:NdF q k 0 rs cs
 l1:1<=q.l
 l2:q.l<=100000
section
variable {nd:Nat->ND} {m:Nat} {k n:Int} {rs cs:List Nat}
theorem NdF.kid (h:NdF (nd m) k n rs cs) {i z:Nat} (hz:cs[i]?=some z) (hlt:z<m):kidK nd m i=(nd z).k:=by
 have hi:=(List.getElem?_eq_some_iff.1 hz).1
 unfold kidK
 rw[if_pos (by rw[h.kn];exact hi),h.c i z hz,if_pos (by omega)]
 simp
def Ahead (m:Nat) (cs:List Nat):Prop:=∀ i z:Nat,cs[i]?=some z->z<m
theorem zu2 (h:NdF (nd m) k n rs cs) (ha:Ahead m cs) (hl:cs.length<=200):(!decide ((200:Int)<(nd m).kn) && allB (fun i=>!(decide ((nd m).c i<0) || decide ((m:Int)<=(nd m).c i))) 0 (nd m).kn)=true:=by
 rw[h.kn,Bool.and_eq_true]
 refine ⟨by simp;omega,allB_true.2 fun i _ hi=>?_⟩
 have hz:cs[i]?=some cs[i]:=List.getElem?_eq_getElem hi
 have:=ha i _ hz
 rw[h.c i _ hz]
 simp
 omega
theorem qa1 (h:NdF (nd m) k n rs cs) (a b c d:Bool) (hn:b=true\/n=0):q38 (nd m) a b c d (rs.length:Int)=true:=by
 unfold q38 zi5
 rw[h.o,h.n,h.f,h.s,h.rn]
 have h1:fz 0=true:=by kernel_rfl
 have h2:se ⟨#[]⟩=true:=by kernel_rfl
 rw[h1,h2]
 rcases hn with rfl|rfl<;>simp
theorem sh_e (h:NdE (nd m) k n rs cs) (ha:Ahead m cs) (hl:cs.length<=200) (hk:20<=k) (he:epB nd m=true):shB nd m=true:=by
 unfold shB
 rw[zu2 h.f ha hl,h.f.k,show stK k=false by unfold stK;simp;omega,h.l,he]
 simp
theorem sh_s (h:NdS (nd m) k rs cs) (ha:Ahead m cs) (hl:cs.length<=200) (hk:1<=k/\k<=14) (he:stBs nd m=true):shB nd m=true:=by
 unfold shB
 rw[zu2 h.f ha hl,h.f.k,show stK k=true by unfold stK;simp;omega,he]
 have h1:=h.l1
 have h2:=h.l2
 simp
 omega
theorem y07 (h:NdF (nd m) k n rs cs) (hs:∀ i z:Nat,cs[i]?=some z->z<m/\exK (nd z).k=true):exsB nd m 0 (nd m).kn=true:=by
 unfold exsB
 rw[h.kn]
 refine allB_true.2 fun i _ hi=>?_
 have hz:cs[i]?=some cs[i]:=List.getElem?_eq_getElem hi
 show exK (kidK nd m i)=true
 rw[h.kid hz (hs i _ hz).1]
 exact (hs i _ hz).2
theorem ym9 (h:NdE (nd m) 23 n [] []):shB nd m=true:=by
 refine sh_e h (fun i z e=>by simp at e) (by simp) (by omega) ?_
 unfold epB
 rw[h.f.k,h.f.kn,show q38 (nd m) false true false false 0=true from qa1 h.f false true false false (.inl rfl)]
 rfl
theorem ya9 (h:NdE (nd m) 28 0 [] []):shB nd m=true:=by
 refine sh_e h (fun i z e=>by simp at e) (by simp) (by omega) ?_
 unfold epB
 rw[h.f.k,h.f.kn,h.f.n,show q38 (nd m) false true false false 0=true from qa1 h.f false true false false (.inl rfl)]
 rfl
theorem y09 {v:Nat} (h:NdE (nd m) 26 0 [v] []):shB nd m=true:=by
 refine sh_e h (fun i z e=>by simp at e) (by simp) (by omega) ?_
 unfold epB
 rw[h.f.k,h.f.kn,show q38 (nd m) false false false false 1=true from qa1 h.f false false false false (.inr rfl)]
 rfl
theorem yq7 {v:Nat} (h:NdE (nd m) 36 0 [v] []):shB nd m=true:=by
 refine sh_e h (fun i z e=>by simp at e) (by simp) (by omega) ?_
 unfold epB
 rw[h.f.k,h.f.kn,show q38 (nd m) false false false false 1=true from qa1 h.f false false false false (.inr rfl)]
 rfl
theorem yg1 (h:NdE (nd m) 37 0 [] []):shB nd m=true:=by
 refine sh_e h (fun i z e=>by simp at e) (by simp) (by omega) ?_
 unfold epB
 rw[h.f.k,h.f.kn,show q38 (nd m) false false false false 0=true from qa1 h.f false false false false (.inr rfl)]
 rfl
theorem z32 (h:NdE (nd m) 34 0 [] cs) (h0:0<cs.length) (hl:cs.length<=200) (hs:∀ i z:Nat,cs[i]?=some z->z<m/\exK (nd z).k=true):shB nd m=true:=by
 refine sh_e h (fun i z e=>(hs i z e).1) hl (by omega) ?_
 have hx:=y07 h.f hs
 unfold epB
 rw[h.f.k,hx,show q38 (nd m) false false false false 0=true from qa1 h.f false false false false (.inr rfl),h.f.kn]
 simp
 omega
theorem qn0 (h:NdS (nd m) 1 [] cs) (hl:cs.length<=200) (hs:∀ i z:Nat,cs[i]?=some z->z<m/\stK (nd z).k=true):shB nd m=true:=by
 refine sh_s h (fun i z e=>(hs i z e).1) hl (by omega) ?_
 unfold stBs
 rw[if_pos h.f.k,h.f.kn,show q38 (nd m) false false false false 0=true from qa1 h.f false false false false (.inr rfl),allB_true.2 fun i _ hi=>?_]
 ·rfl
 ·have hz:cs[i]?=some cs[i]:=List.getElem?_eq_getElem hi
  show stK (kidK nd m i)=true
  rw[h.f.kid hz (hs i _ hz).1]
  exact (hs i _ hz).2
theorem yj9 {v z:Nat} (h:NdS (nd m) 2 [v] [z]) (hz:z<m) (hk:exK (nd z).k=true):shB nd m=true:=by
 have hs:∀ i y:Nat,[z][i]?=some y->y<m/\exK (nd y).k=true:=fun i y e=>by
  rcases i with _|i
  ·simp at e;subst e;exact ⟨hz,hk⟩
  ·simp at e
 refine sh_s h (fun i y e=>(hs i y e).1) (by simp) (by omega) ?_
 have hx:=y07 h.f hs
 unfold stBs
 rw[if_neg (by rw[h.f.k];decide),if_pos h.f.k,hx,h.f.rn,show q38 (nd m) false false false false (([v].length:Nat):Int)=true from qa1 h.f false false false false (.inr rfl)]
 simp
theorem yk0 {z:Nat} (h:NdS (nd m) 4 [] [z]) (hz:z<m) (hk:(nd z).k=34):shB nd m=true:=by
 refine sh_s h (fun i y e=>?_) (by simp) (by omega) ?_
 ·rcases i with _|i
  ·simp at e;omega
  ·simp at e
 ·unfold stBs
  rw[h.f.k,h.f.kn,h.f.kid (i:=0) rfl hz,hk,show q38 (nd m) false false false false 0=true from qa1 h.f false false false false (.inr rfl)]
  rfl
theorem yj8 (h:NdS (nd m) 11 [] cs) (hl:cs.length<=200) (hs:∀ i z:Nat,cs[i]?=some z->z<m/\exK (nd z).k=true):shB nd m=true:=by
 refine sh_s h (fun i z e=>(hs i z e).1) hl (by omega) ?_
 have hx:=y07 h.f hs
 unfold stBs
 rw[h.f.k,hx,show q38 (nd m) false false false false 0=true from qa1 h.f false false false false (.inr rfl)]
 rfl
theorem yj7 {a b x y:Nat} (h:NdS (nd m) 12 [a,b] [x,y]) (hx:x<m) (hy:y<m) (kx:(nd x).k=1) (ky:(nd y).k=1):shB nd m=true:=by
 refine sh_s h (fun i z e=>?_) (by simp) (by omega) ?_
 ·rcases i with _|_|i
  ·simp at e;omega
  ·simp at e;omega
  ·simp at e
 ·unfold stBs blkB
  rw[h.f.k,h.f.kn,h.f.kid (i:=0) rfl hx,kx,show q38 (nd m) false false false false 2=true from qa1 h.f false false false false (.inr rfl)]
  have:=h.f.kid (i:=1) rfl hy
  rw[ky] at this
  simp[this]
end
theorem qi2 {nd:Nat->ND} {i x:Nat} {p:Nat->Int}:∀ j,(∀ b,b<j->((nd i).c b).toNat≠x)->qg6 nd i p j x=p x
 |0,_=>rfl
 |j+1,h=>by
  unfold qg6 ze8
  rw[if_neg (fun e=>h j (by omega) e.symm)]
  exact qi2 j fun b hb=>h b (by omega)
theorem z95 {nd:Nat->ND} {i x b0:Nat} {p:Nat->Int} (hp:p x = -2) (h0:((nd i).c b0).toNat=x):∀ j,b0<j->(∀ b,b<j->b≠b0->((nd i).c b).toNat≠x)->qg6 nd i p j x=(i:Int)
 |0,h,_=>by omega
 |j+1,h,hu=>by
  unfold qg6 ze8
  by_cases e:j=b0
  ·subst e
   rw[if_pos h0.symm,h0,qi2 j (fun b hb=>hu b (by omega) (by omega)),if_pos hp]
  ·rw[if_neg (fun c=>hu j (by omega) e c.symm)]
   exact z95 hp h0 j (by omega) fun b hb hne=>hu b (by omega) hne
theorem qw4 {nd:Nat->ND} {x:Nat}:∀ i,(∀ a,a<i->∀ b,b<(nd a).kn->((nd a).c b).toNat≠x)->q91 nd i x = -2
 |0,_=>rfl
 |i+1,h=>by
  unfold q91
  rw[qi2 _ (h i (by omega))]
  exact qw4 i fun a ha=>h a (by omega)
theorem qf1 {nd:Nat->ND} {N x a0 b0:Nat} (hb:b0<(nd a0).kn) (h0:((nd a0).c b0).toNat=x) (hu:∀ a b,a<N->b<(nd a).kn->((nd a).c b).toNat=x->a=a0/\b=b0):∀ i,a0<i->i<=N->q91 nd i x=(a0:Int)
 |0,h,_=>by omega
 |i+1,h,hi=>by
  unfold q91
  by_cases e:i=a0
  ·subst e
   exact z95 (qw4 i fun a ha b hb' c=>by have:=(hu a b (by omega) hb' c).1;omega) h0 _ hb fun b hb' hne c=>hne (hu _ b (by omega) hb' c).2
  ·rw[qi2 _ fun b hb' c=>e (hu i b (by omega) hb' c).1]
   exact qf1 hb h0 hu i (by omega) (by omega)
end Go.Proofs.YtaimofjekgnieaaGreatDoor
