import Derived.Test.YtaimofjekgnieaaGreatDoorFloor
import Derived.Test.YtaimofjekgnieaaGreatDoorSpQ
set_option maxRecDepth 100000
set_option maxHeartbeats 16000000
namespace Go.Proofs.YtaimofjekgnieaaGreatDoor
open Go.RowKit
attribute [local go_sem] q00
attribute [local go_sem ↓] Go.wp_at_zero Go.wp_at_succ
theorem y73 (F m:Nat) (nd:Nat->ND) (nas:Nat->NA) (w:World) (hA:AH w F m nd nas) (hN:NodeAt 0 w (nd m) (nas m)) (hs:(nd m).sm) (_hcap:(nd m).kn<=(nas m).kc) :
  Calls Tryz.prog 95 #[.pointer (some ⟨F,0,none⟩),q40 (nd m) (nas m)] w fun e w'=>e=.returned (.bool (uoB (nd m) false false false false false true && (allS sSt nd m 0 (nd m).kn)))/\Below w.heap.size w w':=by
 have HA:Hid (AH w F m nd nas):=hA
 have HN:Hid (NodeAt 0 w (nd m) (nas m)):=hN
 have hkn:=hs.kn
 have hrn:=hs.rn
 have hsz:=hs.s
 clear hA hN hs
 go_enter Tryz.func95,Tryz.ntmps95
 go_wp2_with (first|(go_at_call 150;refine (q61 (nd m) (nas m) _).mono ?_;rintro e w2 ⟨rfl,hb2⟩;have HB2:Hid (Below w.heap.size w w2):=q02 (q01 _ _) hb2;have n2:w2.cell? ⟨w.heap.size,2,none⟩=some (.int .i64 (nd m).o):=(Has.made hb2).cell 2 rfl;have n3:w2.cell? ⟨w.heap.size,3,none⟩=some (.int .i64 (nd m).n):=(Has.made hb2).cell 3 rfl;have n4:w2.cell? ⟨w.heap.size,4,none⟩=some (.float .f64 (nd m).f):=(Has.made hb2).cell 4 rfl;have n5:w2.cell? ⟨w.heap.size,5,none⟩=some (.string (nd m).s):=(Has.made hb2).cell 5 rfl;have n6:w2.cell? ⟨w.heap.size,6,none⟩=some (.slice (nas m).ra (nd m).rn (nas m).rc):=(Has.made hb2).cell 6 rfl;have n7:w2.cell? ⟨w.heap.size,7,none⟩=some (.slice (nas m).ka (nd m).kn (nas m).kc):=(Has.made hb2).cell 7 rfl;have hz2:w.heap.size<w2.heap.size:=(Has.made hb2).lt;clear hb2)|(go_at_call 151;refine (q75 F m nd nas _ _ _ (nd m).c 32766 _ (by decide) (by omega) (HA.out.below HB2.out) (RowN.below HN.out.2 HB2.out)).mono ?_;rintro e w1 ⟨rfl,rfl⟩))
 all_goals go_ret
 all_goals refine ⟨q06 ?_,by first|exact HB2.out|exact q03 HB2.out _|exact q03 (q03 HB2.out _) _⟩
 all_goals first|rfl|(simp[allS, *];done)|(simp[allS, *];omega)|(simp[allS, *];intros;omega)
theorem ym6 (F m:Nat) (nd:Nat->ND) (nas:Nat->NA) (w:World) (hA:AH w F m nd nas) (hN:NodeAt 0 w (nd m) (nas m)) (hs:(nd m).sm) (_hcap:(nd m).kn<=(nas m).kc) :
  Calls Tryz.prog 96 #[.pointer (some ⟨F,0,none⟩),q40 (nd m) (nas m)] w fun e w'=>e=.returned (.bool (uoB (nd m) false false false false true true && (decide (0<(nd m).rn) && allS sEx nd m 0 (nd m).kn)))/\Below w.heap.size w w':=by
 have HA:Hid (AH w F m nd nas):=hA
 have HN:Hid (NodeAt 0 w (nd m) (nas m)):=hN
 have hkn:=hs.kn
 have hrn:=hs.rn
 have hsz:=hs.s
 clear hA hN hs
 go_enter Tryz.func96,Tryz.ntmps96
 go_wp2_with (first|(go_at_call 150;refine (qe7 (nd m) (nas m) _).mono ?_;rintro e w2 ⟨rfl,hb2⟩;have HB2:Hid (Below w.heap.size w w2):=q02 (q01 _ _) hb2;have n2:w2.cell? ⟨w.heap.size,2,none⟩=some (.int .i64 (nd m).o):=(Has.made hb2).cell 2 rfl;have n3:w2.cell? ⟨w.heap.size,3,none⟩=some (.int .i64 (nd m).n):=(Has.made hb2).cell 3 rfl;have n4:w2.cell? ⟨w.heap.size,4,none⟩=some (.float .f64 (nd m).f):=(Has.made hb2).cell 4 rfl;have n5:w2.cell? ⟨w.heap.size,5,none⟩=some (.string (nd m).s):=(Has.made hb2).cell 5 rfl;have n6:w2.cell? ⟨w.heap.size,6,none⟩=some (.slice (nas m).ra (nd m).rn (nas m).rc):=(Has.made hb2).cell 6 rfl;have n7:w2.cell? ⟨w.heap.size,7,none⟩=some (.slice (nas m).ka (nd m).kn (nas m).kc):=(Has.made hb2).cell 7 rfl;have hz2:w.heap.size<w2.heap.size:=(Has.made hb2).lt;clear hb2)|(go_at_call 151;refine (q75 F m nd nas _ _ _ (nd m).c 549754765312 _ (by decide) (by omega) (HA.out.below HB2.out) (RowN.below HN.out.2 HB2.out)).mono ?_;rintro e w1 ⟨rfl,rfl⟩))
 all_goals go_ret
 all_goals refine ⟨q06 ?_,by first|exact HB2.out|exact q03 HB2.out _|exact q03 (q03 HB2.out _) _⟩
 all_goals first|rfl|(simp[allS, *];done)|(simp[allS, *];omega)|(simp[allS, *];intros;omega)
theorem qk4 (F m:Nat) (nd:Nat->ND) (nas:Nat->NA) (w:World) (hA:AH w F m nd nas) (hN:NodeAt 0 w (nd m) (nas m)) (hs:(nd m).sm) (_hcap:(nd m).kn<=(nas m).kc) :
  Calls Tryz.prog 103 #[.pointer (some ⟨F,0,none⟩),q40 (nd m) (nas m)] w fun e w'=>e=.returned (.bool (uoB (nd m) false false false false false false))/\Below w.heap.size w w':=by
 have HA:Hid (AH w F m nd nas):=hA
 have HN:Hid (NodeAt 0 w (nd m) (nas m)):=hN
 have hkn:=hs.kn
 have hrn:=hs.rn
 have hsz:=hs.s
 clear hA hN hs
 go_enter Tryz.func103,Tryz.ntmps103
 go_wp2_with (go_at_call 150;refine (zs8 (nd m) (nas m) _).mono ?_;rintro e w2 ⟨rfl,hb2⟩;have HB2:Hid (Below w.heap.size w w2):=q02 (q01 _ _) hb2;have n2:w2.cell? ⟨w.heap.size,2,none⟩=some (.int .i64 (nd m).o):=(Has.made hb2).cell 2 rfl;have n3:w2.cell? ⟨w.heap.size,3,none⟩=some (.int .i64 (nd m).n):=(Has.made hb2).cell 3 rfl;have n4:w2.cell? ⟨w.heap.size,4,none⟩=some (.float .f64 (nd m).f):=(Has.made hb2).cell 4 rfl;have n5:w2.cell? ⟨w.heap.size,5,none⟩=some (.string (nd m).s):=(Has.made hb2).cell 5 rfl;have n6:w2.cell? ⟨w.heap.size,6,none⟩=some (.slice (nas m).ra (nd m).rn (nas m).rc):=(Has.made hb2).cell 6 rfl;have n7:w2.cell? ⟨w.heap.size,7,none⟩=some (.slice (nas m).ka (nd m).kn (nas m).kc):=(Has.made hb2).cell 7 rfl;have hz2:w.heap.size<w2.heap.size:=(Has.made hb2).lt;clear hb2)
 all_goals go_ret
 all_goals refine ⟨q06 ?_,by first|exact HB2.out|exact q03 HB2.out _|exact q03 (q03 HB2.out _) _⟩
 all_goals first|rfl|(simp[*];done)|(simp[*];omega)|(simp[*];intros;omega)
theorem zq2 (F m:Nat) (nd:Nat->ND) (nas:Nat->NA) (w:World) (hA:AH w F m nd nas) (hN:NodeAt 0 w (nd m) (nas m)) (hs:(nd m).sm) (_hcap:(nd m).kn<=(nas m).kc) :
  Calls Tryz.prog 104 #[.pointer (some ⟨F,0,none⟩),q40 (nd m) (nas m)] w fun e w'=>e=.returned (.bool (uoB (nd m) false false false false false true && (allS sEx nd m 0 (nd m).kn)))/\Below w.heap.size w w':=by
 have HA:Hid (AH w F m nd nas):=hA
 have HN:Hid (NodeAt 0 w (nd m) (nas m)):=hN
 have hkn:=hs.kn
 have hrn:=hs.rn
 have hsz:=hs.s
 clear hA hN hs
 go_enter Tryz.func104,Tryz.ntmps104
 go_wp2_with (first|(go_at_call 150;refine (q61 (nd m) (nas m) _).mono ?_;rintro e w2 ⟨rfl,hb2⟩;have HB2:Hid (Below w.heap.size w w2):=q02 (q01 _ _) hb2;have n2:w2.cell? ⟨w.heap.size,2,none⟩=some (.int .i64 (nd m).o):=(Has.made hb2).cell 2 rfl;have n3:w2.cell? ⟨w.heap.size,3,none⟩=some (.int .i64 (nd m).n):=(Has.made hb2).cell 3 rfl;have n4:w2.cell? ⟨w.heap.size,4,none⟩=some (.float .f64 (nd m).f):=(Has.made hb2).cell 4 rfl;have n5:w2.cell? ⟨w.heap.size,5,none⟩=some (.string (nd m).s):=(Has.made hb2).cell 5 rfl;have n6:w2.cell? ⟨w.heap.size,6,none⟩=some (.slice (nas m).ra (nd m).rn (nas m).rc):=(Has.made hb2).cell 6 rfl;have n7:w2.cell? ⟨w.heap.size,7,none⟩=some (.slice (nas m).ka (nd m).kn (nas m).kc):=(Has.made hb2).cell 7 rfl;have hz2:w.heap.size<w2.heap.size:=(Has.made hb2).lt;clear hb2)|(go_at_call 151;refine (q75 F m nd nas _ _ _ (nd m).c 549754765312 _ (by decide) (by omega) (HA.out.below HB2.out) (RowN.below HN.out.2 HB2.out)).mono ?_;rintro e w1 ⟨rfl,rfl⟩))
 all_goals go_ret
 all_goals refine ⟨q06 ?_,by first|exact HB2.out|exact q03 HB2.out _|exact q03 (q03 HB2.out _) _⟩
 all_goals first|rfl|(simp[allS, *];done)|(simp[allS, *];omega)|(simp[allS, *];intros;omega)
theorem zq4 (F m:Nat) (nd:Nat->ND) (nas:Nat->NA) (w:World) (hA:AH w F m nd nas) (hN:NodeAt 0 w (nd m) (nas m)) (hs:(nd m).sm) (_hcap:(nd m).kn<=(nas m).kc) :
  Calls Tryz.prog 107 #[.pointer (some ⟨F,0,none⟩),q40 (nd m) (nas m)] w fun e w'=>e=.returned (.bool (uoB (nd m) false true false false false false))/\Below w.heap.size w w':=by
 have HA:Hid (AH w F m nd nas):=hA
 have HN:Hid (NodeAt 0 w (nd m) (nas m)):=hN
 have hkn:=hs.kn
 have hrn:=hs.rn
 have hsz:=hs.s
 clear hA hN hs
 go_enter Tryz.func107,Tryz.ntmps107
 go_wp2_with (go_at_call 150;refine (z49 (nd m) (nas m) _).mono ?_;rintro e w2 ⟨rfl,hb2⟩;have HB2:Hid (Below w.heap.size w w2):=q02 (q01 _ _) hb2;have n2:w2.cell? ⟨w.heap.size,2,none⟩=some (.int .i64 (nd m).o):=(Has.made hb2).cell 2 rfl;have n3:w2.cell? ⟨w.heap.size,3,none⟩=some (.int .i64 (nd m).n):=(Has.made hb2).cell 3 rfl;have n4:w2.cell? ⟨w.heap.size,4,none⟩=some (.float .f64 (nd m).f):=(Has.made hb2).cell 4 rfl;have n5:w2.cell? ⟨w.heap.size,5,none⟩=some (.string (nd m).s):=(Has.made hb2).cell 5 rfl;have n6:w2.cell? ⟨w.heap.size,6,none⟩=some (.slice (nas m).ra (nd m).rn (nas m).rc):=(Has.made hb2).cell 6 rfl;have n7:w2.cell? ⟨w.heap.size,7,none⟩=some (.slice (nas m).ka (nd m).kn (nas m).kc):=(Has.made hb2).cell 7 rfl;have hz2:w.heap.size<w2.heap.size:=(Has.made hb2).lt;clear hb2)
 all_goals go_ret
 all_goals refine ⟨q06 ?_,by first|exact HB2.out|exact q03 HB2.out _|exact q03 (q03 HB2.out _) _⟩
 all_goals first|rfl|(simp[*];done)|(simp[*];omega)|(simp[*];intros;omega)
theorem yf7 (F m:Nat) (nd:Nat->ND) (nas:Nat->NA) (w:World) (hA:AH w F m nd nas) (hN:NodeAt 0 w (nd m) (nas m)) (hs:(nd m).sm) (_hcap:(nd m).kn<=(nas m).kc) :
  Calls Tryz.prog 109 #[.pointer (some ⟨F,0,none⟩),q40 (nd m) (nas m)] w fun e w'=>e=.returned (.bool (uoB (nd m) false false false true false false && (decide (((nd m).s.size:Int)<=4000))))/\Below w.heap.size w w':=by
 have HA:Hid (AH w F m nd nas):=hA
 have HN:Hid (NodeAt 0 w (nd m) (nas m)):=hN
 have hkn:=hs.kn
 have hrn:=hs.rn
 have hsz:=hs.s
 clear hA hN hs
 go_enter Tryz.func109,Tryz.ntmps109
 go_wp2_with (go_at_call 150;refine (zs6 (nd m) (nas m) _).mono ?_;rintro e w2 ⟨rfl,hb2⟩;have HB2:Hid (Below w.heap.size w w2):=q02 (q01 _ _) hb2;have n2:w2.cell? ⟨w.heap.size,2,none⟩=some (.int .i64 (nd m).o):=(Has.made hb2).cell 2 rfl;have n3:w2.cell? ⟨w.heap.size,3,none⟩=some (.int .i64 (nd m).n):=(Has.made hb2).cell 3 rfl;have n4:w2.cell? ⟨w.heap.size,4,none⟩=some (.float .f64 (nd m).f):=(Has.made hb2).cell 4 rfl;have n5:w2.cell? ⟨w.heap.size,5,none⟩=some (.string (nd m).s):=(Has.made hb2).cell 5 rfl;have n6:w2.cell? ⟨w.heap.size,6,none⟩=some (.slice (nas m).ra (nd m).rn (nas m).rc):=(Has.made hb2).cell 6 rfl;have n7:w2.cell? ⟨w.heap.size,7,none⟩=some (.slice (nas m).ka (nd m).kn (nas m).kc):=(Has.made hb2).cell 7 rfl;have hz2:w.heap.size<w2.heap.size:=(Has.made hb2).lt;clear hb2)
 all_goals go_ret
 all_goals refine ⟨q06 ?_,by first|exact HB2.out|exact q03 HB2.out _|exact q03 (q03 HB2.out _) _⟩
 all_goals first|rfl|(simp[*];done)|(simp[*];omega)|(simp[*];intros;omega)
theorem qr5 (F m:Nat) (nd:Nat->ND) (nas:Nat->NA) (w:World) (hA:AH w F m nd nas) (hN:NodeAt 0 w (nd m) (nas m)) (hs:(nd m).sm) (_hcap:(nd m).kn<=(nas m).kc) :
  Calls Tryz.prog 110 #[.pointer (some ⟨F,0,none⟩),q40 (nd m) (nas m)] w fun e w'=>e=.returned (.bool (uoB (nd m) false false false false true false && (((nd m).rn:Int)==1)))/\Below w.heap.size w w':=by
 have HA:Hid (AH w F m nd nas):=hA
 have HN:Hid (NodeAt 0 w (nd m) (nas m)):=hN
 have hkn:=hs.kn
 have hrn:=hs.rn
 have hsz:=hs.s
 clear hA hN hs
 go_enter Tryz.func110,Tryz.ntmps110
 go_wp2_with (go_at_call 150;refine (zn9 (nd m) (nas m) _).mono ?_;rintro e w2 ⟨rfl,hb2⟩;have HB2:Hid (Below w.heap.size w w2):=q02 (q01 _ _) hb2;have n2:w2.cell? ⟨w.heap.size,2,none⟩=some (.int .i64 (nd m).o):=(Has.made hb2).cell 2 rfl;have n3:w2.cell? ⟨w.heap.size,3,none⟩=some (.int .i64 (nd m).n):=(Has.made hb2).cell 3 rfl;have n4:w2.cell? ⟨w.heap.size,4,none⟩=some (.float .f64 (nd m).f):=(Has.made hb2).cell 4 rfl;have n5:w2.cell? ⟨w.heap.size,5,none⟩=some (.string (nd m).s):=(Has.made hb2).cell 5 rfl;have n6:w2.cell? ⟨w.heap.size,6,none⟩=some (.slice (nas m).ra (nd m).rn (nas m).rc):=(Has.made hb2).cell 6 rfl;have n7:w2.cell? ⟨w.heap.size,7,none⟩=some (.slice (nas m).ka (nd m).kn (nas m).kc):=(Has.made hb2).cell 7 rfl;have hz2:w.heap.size<w2.heap.size:=(Has.made hb2).lt;clear hb2)
 all_goals go_ret
 all_goals refine ⟨q06 ?_,by first|exact HB2.out|exact q03 HB2.out _|exact q03 (q03 HB2.out _) _⟩
 all_goals first|rfl|(simp[*];done)|(simp[*];omega)|(simp[*];intros;omega)
theorem zq5 (F m:Nat) (nd:Nat->ND) (nas:Nat->NA) (w:World) (hA:AH w F m nd nas) (hN:NodeAt 0 w (nd m) (nas m)) (hs:(nd m).sm) (_hcap:(nd m).kn<=(nas m).kc) :
  Calls Tryz.prog 111 #[.pointer (some ⟨F,0,none⟩),q40 (nd m) (nas m)] w fun e w'=>e=.returned (.bool (uoB (nd m) false true false false false false && (decide (0<=(nd m).n) && decide ((nd m).n<15))))/\Below w.heap.size w w':=by
 have HA:Hid (AH w F m nd nas):=hA
 have HN:Hid (NodeAt 0 w (nd m) (nas m)):=hN
 have hkn:=hs.kn
 have hrn:=hs.rn
 have hsz:=hs.s
 clear hA hN hs
 go_enter Tryz.func111,Tryz.ntmps111
 go_wp2_with (go_at_call 150;refine (z49 (nd m) (nas m) _).mono ?_;rintro e w2 ⟨rfl,hb2⟩;have HB2:Hid (Below w.heap.size w w2):=q02 (q01 _ _) hb2;have n2:w2.cell? ⟨w.heap.size,2,none⟩=some (.int .i64 (nd m).o):=(Has.made hb2).cell 2 rfl;have n3:w2.cell? ⟨w.heap.size,3,none⟩=some (.int .i64 (nd m).n):=(Has.made hb2).cell 3 rfl;have n4:w2.cell? ⟨w.heap.size,4,none⟩=some (.float .f64 (nd m).f):=(Has.made hb2).cell 4 rfl;have n5:w2.cell? ⟨w.heap.size,5,none⟩=some (.string (nd m).s):=(Has.made hb2).cell 5 rfl;have n6:w2.cell? ⟨w.heap.size,6,none⟩=some (.slice (nas m).ra (nd m).rn (nas m).rc):=(Has.made hb2).cell 6 rfl;have n7:w2.cell? ⟨w.heap.size,7,none⟩=some (.slice (nas m).ka (nd m).kn (nas m).kc):=(Has.made hb2).cell 7 rfl;have hz2:w.heap.size<w2.heap.size:=(Has.made hb2).lt;clear hb2)
 all_goals go_ret
 all_goals refine ⟨q06 ?_,by first|exact HB2.out|exact q03 HB2.out _|exact q03 (q03 HB2.out _) _⟩
 all_goals first|rfl|(simp[*];done)|(simp[*];omega)|(simp[*];intros;omega)
theorem yf9 (F m:Nat) (nd:Nat->ND) (nas:Nat->NA) (w:World) (hA:AH w F m nd nas) (hN:NodeAt 0 w (nd m) (nas m)) (hs:(nd m).sm) (_hcap:(nd m).kn<=(nas m).kc) :
  Calls Tryz.prog 115 #[.pointer (some ⟨F,0,none⟩),q40 (nd m) (nas m)] w fun e w'=>e=.returned (.bool (uoB (nd m) false false false false false true && (decide (0<(nd m).kn) && allS sEx nd m 0 (nd m).kn)))/\Below w.heap.size w w':=by
 have HA:Hid (AH w F m nd nas):=hA
 have HN:Hid (NodeAt 0 w (nd m) (nas m)):=hN
 have hkn:=hs.kn
 have hrn:=hs.rn
 have hsz:=hs.s
 clear hA hN hs
 go_enter Tryz.func115,Tryz.ntmps115
 go_wp2_with (first|(go_at_call 150;refine (q61 (nd m) (nas m) _).mono ?_;rintro e w2 ⟨rfl,hb2⟩;have HB2:Hid (Below w.heap.size w w2):=q02 (q01 _ _) hb2;have n2:w2.cell? ⟨w.heap.size,2,none⟩=some (.int .i64 (nd m).o):=(Has.made hb2).cell 2 rfl;have n3:w2.cell? ⟨w.heap.size,3,none⟩=some (.int .i64 (nd m).n):=(Has.made hb2).cell 3 rfl;have n4:w2.cell? ⟨w.heap.size,4,none⟩=some (.float .f64 (nd m).f):=(Has.made hb2).cell 4 rfl;have n5:w2.cell? ⟨w.heap.size,5,none⟩=some (.string (nd m).s):=(Has.made hb2).cell 5 rfl;have n6:w2.cell? ⟨w.heap.size,6,none⟩=some (.slice (nas m).ra (nd m).rn (nas m).rc):=(Has.made hb2).cell 6 rfl;have n7:w2.cell? ⟨w.heap.size,7,none⟩=some (.slice (nas m).ka (nd m).kn (nas m).kc):=(Has.made hb2).cell 7 rfl;have hz2:w.heap.size<w2.heap.size:=(Has.made hb2).lt;clear hb2)|(go_at_call 151;refine (q75 F m nd nas _ _ _ (nd m).c 549754765312 _ (by decide) (by omega) (HA.out.below HB2.out) (RowN.below HN.out.2 HB2.out)).mono ?_;rintro e w1 ⟨rfl,rfl⟩))
 all_goals go_ret
 all_goals refine ⟨q06 ?_,by first|exact HB2.out|exact q03 HB2.out _|exact q03 (q03 HB2.out _) _⟩
 all_goals first|rfl|(simp[allS, *];done)|(simp[allS, *];omega)|(simp[allS, *];intros;omega)
theorem zh8 (F m:Nat) (nd:Nat->ND) (nas:Nat->NA) (w:World) (hA:AH w F m nd nas) (hN:NodeAt 0 w (nd m) (nas m)) (hs:(nd m).sm) (_hcap:(nd m).kn<=(nas m).kc) :
  Calls Tryz.prog 108 #[.pointer (some ⟨F,0,none⟩),q40 (nd m) (nas m)] w fun e w'=>e=.returned (.bool (uoB (nd m) false false true false false false && (nnB (nd m).f)))/\Below w.heap.size w w':=by
 have HA:Hid (AH w F m nd nas):=hA
 have HN:Hid (NodeAt 0 w (nd m) (nas m)):=hN
 have hkn:=hs.kn
 have hrn:=hs.rn
 have hsz:=hs.s
 clear hA hN hs
 go_enter Tryz.func108,Tryz.ntmps108
 go_wp2_with (first|(go_at_call 150;refine (zs7 (nd m) (nas m) _).mono ?_;rintro e w2 ⟨rfl,hb2⟩;have HB2:Hid (Below w.heap.size w w2):=q02 (q01 _ _) hb2;have n2:w2.cell? ⟨w.heap.size,2,none⟩=some (.int .i64 (nd m).o):=(Has.made hb2).cell 2 rfl;have n3:w2.cell? ⟨w.heap.size,3,none⟩=some (.int .i64 (nd m).n):=(Has.made hb2).cell 3 rfl;have n4:w2.cell? ⟨w.heap.size,4,none⟩=some (.float .f64 (nd m).f):=(Has.made hb2).cell 4 rfl;have n5:w2.cell? ⟨w.heap.size,5,none⟩=some (.string (nd m).s):=(Has.made hb2).cell 5 rfl;have n6:w2.cell? ⟨w.heap.size,6,none⟩=some (.slice (nas m).ra (nd m).rn (nas m).rc):=(Has.made hb2).cell 6 rfl;have n7:w2.cell? ⟨w.heap.size,7,none⟩=some (.slice (nas m).ka (nd m).kn (nas m).kc):=(Has.made hb2).cell 7 rfl;have hz2:w.heap.size<w2.heap.size:=(Has.made hb2).lt;clear hb2)|(go_at_call 153;refine (zh3 _ _).mono ?_;rintro e w1 ⟨rfl,rfl⟩))
 all_goals go_ret
 all_goals refine ⟨q06 ?_,by first|exact HB2.out|exact q03 HB2.out _|exact q03 (q03 HB2.out _) _⟩
 all_goals first|rfl|(simp[nnB,bne, *];done)|(simp[nnB,bne, *];omega)|(simp[nnB,bne, *];intros;omega)
theorem zr3 {p:Nat->Bool} {a n:Nat} (h:a<=n):allB (fun i=>p (a+i)) 0 (n-a)=allB p a n:=by
 rw[Bool.eq_iff_iff,allB_true,allB_true]
 exact ⟨fun k i h1 h2=>by have:=k (i-a) (Nat.zero_le _) (by omega);rwa [show a+(i-a)=i by omega] at this,fun k i h1 h2=>k (a+i) (by omega) (by omega)⟩
theorem qy3 (F m:Nat) (nd:Nat->ND) (nas:Nat->NA) (a:Option Addr) (n cap:Nat) (s:Nat) (w:World) (hs:s<18446744073709551616) (hn:n<=1048576) (hA:AH w F m nd nas) (hT:q51 0 w a n (nd m).c) :
  Calls Tryz.prog 151 #[.pointer (some ⟨F,0,none⟩),.slice a n cap,.int .u64 (s:Int)] w fun e w'=>e=.returned (.bool (allS s nd m 0 n))/\w'=w:=q75 F m nd nas a n cap (nd m).c s w hs hn hA hT
theorem ym5 (F m:Nat) (nd:Nat->ND) (nas:Nat->NA) (w:World) (hA:AH w F m nd nas) (hN:NodeAt 0 w (nd m) (nas m)) (hs:(nd m).sm) (hcap:(nd m).kn<=(nas m).kc) :
  Calls Tryz.prog 97 #[.pointer (some ⟨F,0,none⟩),q40 (nd m) (nas m)] w fun e w'=>e=.returned (.bool (uoB (nd m) false true false false false true && decide (0<(nd m).n) && decide ((nd m).n<(nd m).kn) && allS sTg nd m 0 (nd m).n.toNat && allS sEx nd m (nd m).n.toNat (nd m).kn))/\Below w.heap.size w w':=by
 have HA:Hid (AH w F m nd nas):=hA
 have HN:Hid (NodeAt 0 w (nd m) (nas m)):=hN
 have hkn:=hs.kn
 clear hA hN hs
 have U:Hid (∀ (w2:World),Below (w.alloc (.cells (q24 (nd m) (nas m)) 51)).heap.size (w.alloc (.cells (q24 (nd m) (nas m)) 51)) w2->Below w.heap.size w w2/\Has w2 w.heap.size (q24 (nd m) (nas m))):=fun w2 h=>⟨q02 (q01 _ _) h,Has.made h⟩
 cases huo:uoB (nd m) false true false false false true
 ·go_enter Tryz.func97,Tryz.ntmps97
  go_wp2_with (go_at_call 150;refine (qe8 (nd m) (nas m) _).mono ?_;rw[huo];rintro e w2 ⟨rfl,hb2⟩)
  go_ret
  exact ⟨q06 (by simp),(U.out _ hb2).1⟩
 by_cases c1:0<(nd m).n
 ·by_cases c2:(nd m).n<(nd m).kn
  ·obtain ⟨j,hj⟩:∃ j:Nat,(nd m).n=j:=⟨(nd m).n.toNat,by omega⟩
   obtain ⟨b,o,e0,_,_,_⟩:=cells1 HN.out.2 (show 0<(nd m).kn by omega)
   have HI1:Hid (q51 0 w (some ⟨b,o,none⟩) j (nd m).c):=by
    have h:=qn2 HN.out.2 e0 0 j (by omega)
    simp only[Nat.add_zero,Nat.zero_add] at h
    exact h
   have HI2:Hid (q51 0 w (some ⟨b,o+j,none⟩) ((nd m).kn-j) (fun k=>(nd m).c (j+k))):=qn2 HN.out.2 e0 j ((nd m).kn-j) (by omega)
   have hj0:0<j:=by omega
   have hjk:j<(nd m).kn:=by omega
   have HJ:Hid ((nd m).n=j):=hj
   have HE:Hid ((nas m).ka=some ⟨b,o,none⟩):=e0
   have e1:decide (0<(nd m).n)=true:=by simpa using c1
   have e2:decide ((nd m).n<(nd m).kn)=true:=by simpa using c2
   have e3:(nd m).n.toNat=j:=by omega
   rw[e1,e2,e3]
   have hsh:allB (fun i=>kidS sEx nd m ((nd m).c (j+i))) 0 ((nd m).kn-j)=allS sEx nd m j (nd m).kn:=zr3 (p:=fun i=>kidS sEx nd m ((nd m).c i)) (by omega)
   have HG:Hid (allB (fun i=>kidS sEx nd m ((nd m).c (j+i))) 0 ((nd m).kn-j)=allS sEx nd m j (nd m).kn):=hsh
   clear c1 c2 hj e0 e1 e2 e3 hsh
   go_enter Tryz.func97,Tryz.ntmps97
   go_wp2_with (go_at_call 150;refine (qe8 (nd m) (nas m) _).mono ?_;rw[huo];rintro e w2 ⟨rfl,hb2⟩;have HB2:Hid (Below w.heap.size w w2):=(U.out _ hb2).1;have n3:w2.cell? ⟨w.heap.size,3,none⟩=some (.int .i64 (j:Int)):=(by rw[<-HJ.out];exact (U.out _ hb2).2.cell 3 rfl);have n7:w2.cell? ⟨w.heap.size,7,none⟩=some (.slice (some ⟨b,o,none⟩) (nd m).kn (nas m).kc):=(by rw[<-HE.out];exact (U.out _ hb2).2.cell 7 rfl);clear hb2)
   refine (qy3 F m nd nas _ _ _ 8791261184 _ (by decide) (by omega) (HA.out.below HB2.out) (RowN.below HI1.out HB2.out)).mono ?_
   cases h1:allS sTg nd m 0 j
   ·have H1:Hid (allS sTg nd m 0 j=false):=h1
    rintro e w1 ⟨rfl,rfl⟩
    go_wp2_with fail
    go_ret
    exact ⟨q06 (by simp[H1.out]),HB2.out⟩
   ·have H1:Hid (allS sTg nd m 0 j=true):=h1
    rintro e w1 ⟨rfl,rfl⟩
    go_wp2_with fail
    refine (q75 F m nd nas _ _ _ (fun k=>(nd m).c (j+k)) 549754765312 _ (by decide) (by omega) (HA.out.below HB2.out) (RowN.below HI2.out HB2.out)).mono ?_
    rw[HG.out]
    rintro e w1 ⟨rfl,rfl⟩
    go_wp2_with fail
    go_ret
    exact ⟨q06 (by simp[H1.out]),HB2.out⟩
  ·have e2:decide ((nd m).n<(nd m).kn)=false:=by simpa using c2
   rw[e2]
   go_enter Tryz.func97,Tryz.ntmps97
   go_wp2_with (go_at_call 150;refine (qe8 (nd m) (nas m) _).mono ?_;rw[huo];rintro e w2 ⟨rfl,hb2⟩;have HB2:Hid (Below w.heap.size w w2):=(U.out _ hb2).1;have n3:w2.cell? ⟨w.heap.size,3,none⟩=some (.int .i64 (nd m).n):=(U.out _ hb2).2.cell 3 rfl;have n7:w2.cell? ⟨w.heap.size,7,none⟩=some (.slice (nas m).ka (nd m).kn (nas m).kc):=(U.out _ hb2).2.cell 7 rfl;clear hb2)
   go_ret
   exact ⟨q06 (by simp),HB2.out⟩
 ·have e2:decide (0<(nd m).n)=false:=by simpa using c1
  rw[e2]
  go_enter Tryz.func97,Tryz.ntmps97
  go_wp2_with (go_at_call 150;refine (qe8 (nd m) (nas m) _).mono ?_;rw[huo];rintro e w2 ⟨rfl,hb2⟩;have HB2:Hid (Below w.heap.size w w2):=(U.out _ hb2).1;have n3:w2.cell? ⟨w.heap.size,3,none⟩=some (.int .i64 (nd m).n):=(U.out _ hb2).2.cell 3 rfl;clear hb2)
  go_ret
  exact ⟨q06 (by simp),HB2.out⟩
theorem qm6 (F m:Nat) (nd:Nat->ND) (nas:Nat->NA) (a:Option Addr) (n cap:Nat) (c:Nat->Int) (w:World) (hA:AH w F m nd nas) (hT:q51 0 w a n c) (hn:n<=1048576) (hcap:n<=cap) (h2:n%2=0) :
  Calls Tryz.prog 154 #[.pointer (some ⟨F,0,none⟩),.slice a n cap] w fun e w'=>e=.returned (.bool (decide (0<n) && (kidS sIn nd m (c (n-2)) && kidS sLi nd m (c (n-1)))))/\Below w.heap.size w w':=by
 have HA:Hid (AH w F m nd nas):=hA
 have HT:Hid (q51 0 w a n c):=hT
 clear hA hT
 by_cases h0:0<n
 ·obtain ⟨b,o,e0,_,_,_⟩:=cells1 HT.out h0
  obtain ⟨j,hj⟩:∃ j,n=j+2:=⟨n-2,by omega⟩
  subst hj
  have HI2:Hid (q51 0 w (some ⟨b,o+j,none⟩) 2 (fun k=>c (j+k))):=qn2 HT.out e0 j 2 (by omega)
  subst e0
  clear h2 h0
  go_enter Tryz.func154,Tryz.ntmps154
  go_wp2_with fail
  refine (q95 F m nd nas _ _ _ (fun k=>c (j+k)) _ 8388608 154618822656 _ (by decide) (by decide) (by omega) (by omega) (HA.out.below (q01 _ _)) (RowN.below HI2.out (q01 _ _)) (by simp) (by simp)).mono ?_
  rintro e w1 ⟨rfl,rfl⟩
  go_wp2_with fail
  go_ret
  exact ⟨q06 (by simp),q01 _ _⟩
 ·have q:n=0:=by omega
  subst q
  go_enter Tryz.func154,Tryz.ntmps154
  go_wp2_with fail
  go_ret
  exact ⟨q06 (by simp),Below.refl _ _⟩
theorem y71 (F m:Nat) (nd:Nat->ND) (nas:Nat->NA) (w:World) (hA:AH w F m nd nas) (hN:NodeAt 0 w (nd m) (nas m)) (hs:(nd m).sm) (hcap:(nd m).kn<=(nas m).kc) :
  Calls Tryz.prog 116 #[.pointer (some ⟨F,0,none⟩),q40 (nd m) (nas m)] w fun e w'=>e=.returned (.bool (uoB (nd m) true false false false false true && ((nd m).kn:Int)%2==0 && allS sEx nd m 0 (nd m).kn && ((nd m).o==0 || (nd m).o==1 && (decide (0<(nd m).kn) && (kidS sIn nd m ((nd m).c ((nd m).kn-2)) && kidS sLi nd m ((nd m).c ((nd m).kn-1)))))))/\Below w.heap.size w w':=by
 have HA:Hid (AH w F m nd nas):=hA
 have HN:Hid (NodeAt 0 w (nd m) (nas m)):=hN
 have hkn:=hs.kn
 clear hA hN hs
 have U:Hid (∀ (w2:World),Below (w.alloc (.cells (q24 (nd m) (nas m)) 51)).heap.size (w.alloc (.cells (q24 (nd m) (nas m)) 51)) w2->Below w.heap.size w w2/\Has w2 w.heap.size (q24 (nd m) (nas m))):=fun w2 h=>⟨q02 (q01 _ _) h,Has.made h⟩
 cases huo:uoB (nd m) true false false false false true
 ·go_enter Tryz.func116,Tryz.ntmps116
  go_wp2_with (go_at_call 150;refine (qb2 (nd m) (nas m) _).mono ?_;rw[huo];rintro e w2 ⟨rfl,hb2⟩)
  go_ret
  exact ⟨q06 (by simp),(U.out _ hb2).1⟩
 by_cases hm2:(nd m).kn%2=0
 ·have HM:Hid ((nd m).kn%2=0):=hm2
  have q2:(((nd m).kn:Int)%2==0)=true:=by simp;omega
  have q3:((((nd m).kn:Int).tmod 2) != 0)=false:=by rw[Int.tmod_eq_emod_of_nonneg (by omega)];simp;omega
  have q4:((((nd m).kn:Int)%2) != 0)=false:=by simp;omega
  rw[q2]
  clear q2 hm2
  go_enter Tryz.func116,Tryz.ntmps116
  go_wp2_with (go_at_call 150;refine (qb2 (nd m) (nas m) _).mono ?_;rw[huo];rintro e w2 ⟨rfl,hb2⟩;have HB2:Hid (Below w.heap.size w w2):=(U.out _ hb2).1;have n2:w2.cell? ⟨w.heap.size,2,none⟩=some (.int .i64 (nd m).o):=(U.out _ hb2).2.cell 2 rfl;have n7:w2.cell? ⟨w.heap.size,7,none⟩=some (.slice (nas m).ka (nd m).kn (nas m).kc):=(U.out _ hb2).2.cell 7 rfl;clear hb2)
  refine (qy3 F m nd nas _ _ _ 549754765312 _ (by decide) (by omega) (HA.out.below HB2.out) (RowN.below HN.out.2 HB2.out)).mono ?_
  cases h1:allS 549754765312 nd m 0 (nd m).kn
  ·have H1:Hid (allS sEx nd m 0 (nd m).kn=false):=h1
   rintro e w1 ⟨rfl,rfl⟩
   go_wp2_with fail
   go_ret
   exact ⟨q06 (by simp[H1.out]),HB2.out⟩
  ·have H1:Hid (allS sEx nd m 0 (nd m).kn=true):=h1
   by_cases o0:(nd m).o=0
   ·have p0:((nd m).o==0)=true:=by simpa using o0
    have P0:Hid (((nd m).o==0)=true):=p0
    clear o0
    rintro e w1 ⟨rfl,rfl⟩
    go_wp2_with fail
    go_ret
    exact ⟨q06 (by rw[H1.out,P0.out];rfl),HB2.out⟩
   ·have p0:((nd m).o==0)=false:=by simpa using o0
    have P0:Hid (((nd m).o==0)=false):=p0
    by_cases o1:(nd m).o=1
    ·have p1:((nd m).o==1)=true:=by simpa using o1
     have P1:Hid (((nd m).o==1)=true):=p1
     clear o0 o1
     rintro e w1 ⟨rfl,rfl⟩
     go_wp2_with fail
     refine (qm6 F m nd nas _ _ _ (nd m).c _ (HA.out.below HB2.out) (RowN.below HN.out.2 HB2.out) hkn hcap HM.out).mono ?_
     obtain ⟨eb,heb⟩:∃ eb,(decide (0<(nd m).kn) && (kidS sIn nd m ((nd m).c ((nd m).kn-2)) && kidS sLi nd m ((nd m).c ((nd m).kn-1))))=eb:=⟨_,rfl⟩
     have HEB:Hid ((decide (0<(nd m).kn) && (kidS sIn nd m ((nd m).c ((nd m).kn-2)) && kidS sLi nd m ((nd m).c ((nd m).kn-1))))=eb):=heb
     rw[heb]
     clear heb
     rintro e w3 ⟨rfl,hb3⟩
     go_wp2_with fail
     go_ret
     exact ⟨q06 (by rw[H1.out,P0.out,P1.out,HEB.out];rfl),q02 HB2.out hb3⟩
    ·have p1:((nd m).o==1)=false:=by simpa using o1
     have P1:Hid (((nd m).o==1)=false):=p1
     clear o0 o1
     rintro e w1 ⟨rfl,rfl⟩
     go_wp2_with fail
     go_ret
     exact ⟨q06 (by rw[H1.out,P0.out,P1.out];rfl),HB2.out⟩
 ·have q2:(((nd m).kn:Int)%2==0)=false:=by simp;omega
  have q3:((((nd m).kn:Int).tmod 2) != 0)=true:=by rw[Int.tmod_eq_emod_of_nonneg (by omega)];simp;omega
  have q4:((((nd m).kn:Int)%2) != 0)=true:=by simp;omega
  rw[q2]
  clear q2
  go_enter Tryz.func116,Tryz.ntmps116
  go_wp2_with (go_at_call 150;refine (qb2 (nd m) (nas m) _).mono ?_;rw[huo];rintro e w2 ⟨rfl,hb2⟩;have HB2:Hid (Below w.heap.size w w2):=(U.out _ hb2).1;have n2:w2.cell? ⟨w.heap.size,2,none⟩=some (.int .i64 (nd m).o):=(U.out _ hb2).2.cell 2 rfl;have n7:w2.cell? ⟨w.heap.size,7,none⟩=some (.slice (nas m).ka (nd m).kn (nas m).kc):=(U.out _ hb2).2.cell 7 rfl;clear hb2)
  go_ret
  exact ⟨q06 (by simp),HB2.out⟩
end Go.Proofs.YtaimofjekgnieaaGreatDoor
