import Derived.Test.YthnkncpegihbhaaGreatDoorSpS
set_option maxRecDepth 100000
set_option maxHeartbeats 16000000
namespace Go.Proofs.YthnkncpegihbhaaGreatDoor
section
open Go.RowKit
attribute [local go_sem] iD
attribute [local go_sem ↓] Go.wp_at_zero Go.wp_at_succ
theorem SB(F m:Nat)(nd:Nat->ND)(nas:Nat->NA)(a:Option Addr)(n cap:Nat)(c:Nat->Int)(R:Nat)(s0:Nat)(w:World)(b0:s0<18446744073709551616)(hn:n<=1048576)(gy:n<=cap)(hA:AH w F m nd nas)(hT:qO 0 w a n c)(h0:w.cell? ⟨R,0,none⟩=some (.int .u64 (s0:Int))):Calls Tryz.prog 157 #[.pointer (some ⟨F,0,none⟩),.slice a n cap,.slice (some ⟨R,0,none⟩) 1 1] w fun e w'=>e=.returned (.bool ((n:Int)==1 && iK s0 nd m (c 0)))/\w'=w:=by
 refine(Sv F m nd nas a n cap c R 1 (fun i=>s0) w (fun i hi=>?_) hn (by omega) gy hA hT (fun i hi=>?_)).mono ?_
 ·rcases(show i=0 by omega) with rfl
  ·exact b0
 ·rcases(show i=0 by omega) with rfl
  ·exact h0
 ·rintro e w' ⟨rfl,rfl⟩;refine⟨jH ?_,rfl⟩;rw[cZ];simp only[aY,iw];constructor
  ·rintro⟨h,k⟩;exact⟨h,k 0 (by omega) (by omega)⟩
  ·rintro⟨h,k0⟩;refine⟨h,fun i _ hi=>?_⟩;rcases(show i=0 by omega) with rfl
   ·exact k0
theorem Lh(F m:Nat)(nd:Nat->ND)(nas:Nat->NA)(a:Option Addr)(n cap:Nat)(c:Nat->Int)(R:Nat)(s0 s1:Nat)(w:World)(b0:s0<18446744073709551616)(b1:s1<18446744073709551616)(hn:n<=1048576)(gy:n<=cap)(hA:AH w F m nd nas)(hT:qO 0 w a n c)(h0:w.cell? ⟨R,0,none⟩=some (.int .u64 (s0:Int)))(h1:w.cell? ⟨R,1,none⟩=some (.int .u64 (s1:Int))):Calls Tryz.prog 157 #[.pointer (some ⟨F,0,none⟩),.slice a n cap,.slice (some ⟨R,0,none⟩) 2 2] w fun e w'=>e=.returned (.bool ((n:Int)==2 && iK s0 nd m (c 0) && iK s1 nd m (c 1)))/\w'=w:=by
 refine(Sv F m nd nas a n cap c R 2 (fun i=>if i=0 then s0 else s1) w (fun i hi=>?_) hn (by omega) gy hA hT (fun i hi=>?_)).mono ?_
 ·rcases(show i=0\/i=1 by omega) with rfl|rfl
  ·exact b0
  ·exact b1
 ·rcases(show i=0\/i=1 by omega) with rfl|rfl
  ·exact h0
  ·exact h1
 ·rintro e w' ⟨rfl,rfl⟩;refine⟨jH ?_,rfl⟩;rw[cZ];simp only[aY,iw];constructor
  ·rintro⟨h,k⟩;exact⟨⟨h,k 0 (by omega) (by omega)⟩,k 1 (by omega) (by omega)⟩
  ·rintro⟨⟨h,k0⟩,k1⟩;refine⟨h,fun i _ hi=>?_⟩;rcases(show i=0\/i=1 by omega) with rfl|rfl
   ·exact k0
   ·exact k1
theorem zy6(F m:Nat)(nd:Nat->ND)(nas:Nat->NA)(a:Option Addr)(n cap:Nat)(c:Nat->Int)(R:Nat)(s0 s1 s2 s3:Nat)(w:World)(b0:s0<18446744073709551616)(b1:s1<18446744073709551616)(b2:s2<18446744073709551616)(b3:s3<18446744073709551616)(hn:n<=1048576)(gy:n<=cap)(hA:AH w F m nd nas)(hT:qO 0 w a n c)(h0:w.cell? ⟨R,0,none⟩=some (.int .u64 (s0:Int)))(h1:w.cell? ⟨R,1,none⟩=some (.int .u64 (s1:Int)))(h2:w.cell? ⟨R,2,none⟩=some (.int .u64 (s2:Int)))(h3:w.cell? ⟨R,3,none⟩=some (.int .u64 (s3:Int))):Calls Tryz.prog 157 #[.pointer (some ⟨F,0,none⟩),.slice a n cap,.slice (some ⟨R,0,none⟩) 4 4] w fun e w'=>e=.returned (.bool ((n:Int)==4 && iK s0 nd m (c 0) && iK s1 nd m (c 1) && iK s2 nd m (c 2) && iK s3 nd m (c 3)))/\w'=w:=by
 refine(Sv F m nd nas a n cap c R 4 (fun i=>if i=0 then s0 else if i=1 then s1 else if i=2 then s2 else s3) w (fun i hi=>?_) hn (by omega) gy hA hT (fun i hi=>?_)).mono ?_
 ·rcases(show i=0\/i=1\/i=2\/i=3 by omega) with rfl|rfl|rfl|rfl
  ·exact b0
  ·exact b1
  ·exact b2
  ·exact b3
 ·rcases(show i=0\/i=1\/i=2\/i=3 by omega) with rfl|rfl|rfl|rfl
  ·exact h0
  ·exact h1
  ·exact h2
  ·exact h3
 ·rintro e w' ⟨rfl,rfl⟩;refine⟨jH ?_,rfl⟩;rw[cZ];simp only[aY,iw];constructor
  ·rintro⟨h,k⟩;exact⟨⟨⟨⟨h,k 0 (by omega) (by omega)⟩,k 1 (by omega) (by omega)⟩,k 2 (by omega) (by omega)⟩,k 3 (by omega) (by omega)⟩
  ·rintro⟨⟨⟨⟨h,k0⟩,k1⟩,k2⟩,k3⟩;refine⟨h,fun i _ hi=>?_⟩;rcases(show i=0\/i=1\/i=2\/i=3 by omega) with rfl|rfl|rfl|rfl
   ·exact k0
   ·exact k1
   ·exact k2
   ·exact k3
def GV(i:Nat):Nat:=if i=0 then 549754765312 else if i=1 then 2 else 34
theorem ja2(i:Nat):GV i<18446744073709551616:=by unfold GV;split<;>(try split)<;>decide
theorem ch2{nd:Nat->ND}{m:Nat}{c:Nat->Int}:allB (fun i=>iK (GV i) nd m (c i)) 0 2=(iK lu nd m (c 0) && iK vS nd m (c 1)):=by
 rw[cZ,iw,aY];exact⟨fun h=>⟨h 0 (by omega) (by omega),h 1 (by omega) (by omega)⟩,fun h i _ hi=>by
  rcases(show i=0\/i=1 by omega) with rfl|rfl
  ·exact h.1
  ·exact h.2⟩
theorem ch3{nd:Nat->ND}{m:Nat}{c:Nat->Int}:allB (fun i=>iK (GV i) nd m (c i)) 0 3=(iK lu nd m (c 0) && iK vS nd m (c 1) && iK Nr nd m (c 2)):=by
 rw[cZ,iw,aY,aY];exact⟨fun h=>⟨⟨h 0 (by omega) (by omega),h 1 (by omega) (by omega)⟩,h 2 (by omega) (by omega)⟩,fun h i _ hi=>by
  rcases(show i=0\/i=1\/i=2 by omega) with rfl|rfl|rfl
  ·exact h.1.1
  ·exact h.1.2
  ·exact h.2⟩
def chR(nd:Nat->ND)(m:Nat)(c:Nat->Int)(n j:Nat):Bool:=(n:Int)==j && allB (fun i=>iK (GV i) nd m (c i)) 0 j
theorem zm3(F m:Nat)(nd:Nat->ND)(nas:Nat->NA)(a:Option Addr)(n cap:Nat)(c:Nat->Int)(R j:Nat)(w:World)(hn:n<=1048576)(hj:j<=4)(gy:n<=cap)(hA:AH w F m nd nas)(hT:qO 0 w a n c)(hR:∀i,i<j->w.cell? ⟨R,i,none⟩=some (.int .u64 (GV i:Int))):Calls Tryz.prog 157 #[.pointer (some ⟨F,0,none⟩),.slice a n cap,.slice (some ⟨R,0,none⟩) j j] w fun e w'=>e=.returned (.bool (chR nd m c n j))/\w'=w:=Sv F m nd nas a n cap c R j GV w (fun i _=>ja2 i) hn hj gy hA hT hR
theorem yd2(F m:Nat)(nd:Nat->ND)(nas:Nat->NA)(w:World)(hA:AH w F m nd nas)(hN:iC 0 w (nd m) (nas m))(hs:(nd m).sm)(gy:(nd m).kn<=(nas m).kc):Calls Tryz.prog 104 #[.pointer (some ⟨F,0,none⟩),jP (nd m) (nas m)] w fun e w'=>e=.returned (.bool (jQ (nd m) false false false false false true && (((((nd m).kn:Int)==2 && iK lu nd m ((nd m).c 0) && iK vS nd m ((nd m).c 1)) || (((nd m).kn:Int)==3 && iK lu nd m ((nd m).c 0) && iK vS nd m ((nd m).c 1) && iK Nr nd m ((nd m).c 2))))))/\gZ w w':=by
 have HA:Hid (AH w F m nd nas):=hA;have HN:Hid (iC 0 w (nd m) (nas m)):=hN;have fE:=hs.kn;go_in;go_wp2_with (first|(go_at_call 155;refine(Eo (nd m) (nas m) _).mono ?_;rintro e w2 ⟨rfl,eG⟩;have fD:Hid (gZ w w2):=iq (q01 _ _) eG;have n2:w2.cell? ⟨w.heap.size,2,none⟩=some (.int .i64 (nd m).o):=(Has.made eG).cell 2 rfl;have n3:w2.cell? ⟨w.heap.size,3,none⟩=some (.int .i64 (nd m).n):=(Has.made eG).cell 3 rfl;have n4:w2.cell? ⟨w.heap.size,4,none⟩=some (.float .f64 (nd m).f):=(Has.made eG).cell 4 rfl;have n5:w2.cell? ⟨w.heap.size,5,none⟩=some (.string (nd m).s):=(Has.made eG).cell 5 rfl;have n6:w2.cell? ⟨w.heap.size,6,none⟩=some (.slice (nas m).ra (nd m).rn (nas m).rc):=(Has.made eG).cell 6 rfl;have n7:w2.cell? ⟨w.heap.size,7,none⟩=some (.slice (nas m).ka (nd m).kn (nas m).kc):=(Has.made eG).cell 7 rfl;have hz2:w.heap.size<w2.heap.size:=(Has.made eG).lt)|(go_at_call 157;refine(zm3 F m nd nas _ _ _ (nd m).c _ _ _ (by omega) (by omega) gy (by first|exact HA.below (jo fD.out _)|exact HA.below (jo (jo fD.out _) _)) (by first|exact iF.below HN.2 (jo fD.out _)|exact iF.below HN.2 (jo (jo fD.out _) _)) (fun i hi=>by rcases i with _|_|_|i<;>first|(simp[GV];done)|omega)).mono ?_;rintro e w1 ⟨rfl,rfl⟩));all_goals go_ret
 all_goals refine⟨jH ?_,by first|exact fD.out|exact jo fD.out _|exact jo (jo fD.out _) _⟩
 all_goals first|(simp_all [chR,ch2,ch3,aj];done)|trace_state
theorem ym6(F m:Nat)(nd:Nat->ND)(nas:Nat->NA)(w:World)(hA:AH w F m nd nas)(hN:iC 0 w (nd m) (nas m))(hs:(nd m).sm)(gy:(nd m).kn<=(nas m).kc):Calls Tryz.prog 118 #[.pointer (some ⟨F,0,none⟩),jP (nd m) (nas m)] w fun e w'=>e=.returned (.bool (jQ (nd m) true false false false false true && (iV (nd m).o 19 22 && (((nd m).kn:Int)==1 && iK lu nd m ((nd m).c 0)))))/\gZ w w':=by
 have HA:Hid (AH w F m nd nas):=hA;have HN:Hid (iC 0 w (nd m) (nas m)):=hN;have fE:=hs.kn;have hrn:=hs.rn;have hsz:=hs.s;go_in;go_wp2_with (first|(go_at_call 155;refine(O4 (nd m) (nas m) _).mono ?_;rintro e w2 ⟨rfl,eG⟩;have fD:Hid (gZ w w2):=iq (q01 _ _) eG;have n2:w2.cell? ⟨w.heap.size,2,none⟩=some (.int .i64 (nd m).o):=(Has.made eG).cell 2 rfl;have n3:w2.cell? ⟨w.heap.size,3,none⟩=some (.int .i64 (nd m).n):=(Has.made eG).cell 3 rfl;have n4:w2.cell? ⟨w.heap.size,4,none⟩=some (.float .f64 (nd m).f):=(Has.made eG).cell 4 rfl;have n5:w2.cell? ⟨w.heap.size,5,none⟩=some (.string (nd m).s):=(Has.made eG).cell 5 rfl;have n6:w2.cell? ⟨w.heap.size,6,none⟩=some (.slice (nas m).ra (nd m).rn (nas m).rc):=(Has.made eG).cell 6 rfl;have n7:w2.cell? ⟨w.heap.size,7,none⟩=some (.slice (nas m).ka (nd m).kn (nas m).kc):=(Has.made eG).cell 7 rfl;have hz2:w.heap.size<w2.heap.size:=(Has.made eG).lt)|(go_at_call 47;refine(zQ _ _ _ _).mono ?_;rintro e w1 ⟨rfl,rfl⟩)|(go_at_call 157;refine(SB F m nd nas _ _ _ (nd m).c _ 549754765312 _ (by decide) (by omega) gy (HA.below (jo fD.out _)) (iF.below HN.2 (jo fD.out _)) (by simp)).mono ?_;rintro e w1 ⟨rfl,rfl⟩));all_goals go_ret
 all_goals refine⟨jH ?_,by first|exact fD.out|exact jo fD.out _|exact jo (jo fD.out _) _⟩
 all_goals first|rfl|(simp[*];done)|(simp[*];omega)|(simp[*];intros;omega)
theorem yd3(F m:Nat)(nd:Nat->ND)(nas:Nat->NA)(w:World)(hA:AH w F m nd nas)(hN:iC 0 w (nd m) (nas m))(hs:(nd m).sm)(gy:(nd m).kn<=(nas m).kc):Calls Tryz.prog 119 #[.pointer (some ⟨F,0,none⟩),jP (nd m) (nas m)] w fun e w'=>e=.returned (.bool (jQ (nd m) true false false false false true && (iV (nd m).o 1 18 && (((nd m).kn:Int)==2 && iK lu nd m ((nd m).c 0) && iK lu nd m ((nd m).c 1)))))/\gZ w w':=by
 have HA:Hid (AH w F m nd nas):=hA;have HN:Hid (iC 0 w (nd m) (nas m)):=hN;have fE:=hs.kn;have hrn:=hs.rn;have hsz:=hs.s;go_in;go_wp2_with (first|(go_at_call 155;refine(O4 (nd m) (nas m) _).mono ?_;rintro e w2 ⟨rfl,eG⟩;have fD:Hid (gZ w w2):=iq (q01 _ _) eG;have n2:w2.cell? ⟨w.heap.size,2,none⟩=some (.int .i64 (nd m).o):=(Has.made eG).cell 2 rfl;have n3:w2.cell? ⟨w.heap.size,3,none⟩=some (.int .i64 (nd m).n):=(Has.made eG).cell 3 rfl;have n4:w2.cell? ⟨w.heap.size,4,none⟩=some (.float .f64 (nd m).f):=(Has.made eG).cell 4 rfl;have n5:w2.cell? ⟨w.heap.size,5,none⟩=some (.string (nd m).s):=(Has.made eG).cell 5 rfl;have n6:w2.cell? ⟨w.heap.size,6,none⟩=some (.slice (nas m).ra (nd m).rn (nas m).rc):=(Has.made eG).cell 6 rfl;have n7:w2.cell? ⟨w.heap.size,7,none⟩=some (.slice (nas m).ka (nd m).kn (nas m).kc):=(Has.made eG).cell 7 rfl;have hz2:w.heap.size<w2.heap.size:=(Has.made eG).lt)|(go_at_call 47;refine(zQ _ _ _ _).mono ?_;rintro e w1 ⟨rfl,rfl⟩)|(go_at_call 157;refine(Lh F m nd nas _ _ _ (nd m).c _ 549754765312 549754765312 _ (by decide) (by decide) (by omega) gy (HA.below (jo fD.out _)) (iF.below HN.2 (jo fD.out _)) (by simp) (by simp)).mono ?_;rintro e w1 ⟨rfl,rfl⟩));all_goals go_ret
 all_goals refine⟨jH ?_,by first|exact fD.out|exact jo fD.out _|exact jo (jo fD.out _) _⟩
 all_goals first|rfl|(simp[*];done)|(simp[*];omega)|(simp[*];intros;omega)
theorem ym9(F m:Nat)(nd:Nat->ND)(nas:Nat->NA)(w:World)(hA:AH w F m nd nas)(hN:iC 0 w (nd m) (nas m))(hs:(nd m).sm)(gy:(nd m).kn<=(nas m).kc):Calls Tryz.prog 106 #[.pointer (some ⟨F,0,none⟩),jP (nd m) (nas m)] w fun e w'=>e=.returned (.bool (jQ (nd m) false false false false true true && (((nd m).rn:Int)==1 && (((nd m).kn:Int)==4 && iK lu nd m ((nd m).c 0) && iK lu nd m ((nd m).c 1) && iK lu nd m ((nd m).c 2) && iK vS nd m ((nd m).c 3)))))/\gZ w w':=by
 have HA:Hid (AH w F m nd nas):=hA;have HN:Hid (iC 0 w (nd m) (nas m)):=hN;have fE:=hs.kn;have hrn:=hs.rn;have hsz:=hs.s;go_in;go_wp2_with (first|(go_at_call 155;refine(SG (nd m) (nas m) _).mono ?_;rintro e w2 ⟨rfl,eG⟩;have fD:Hid (gZ w w2):=iq (q01 _ _) eG;have n2:w2.cell? ⟨w.heap.size,2,none⟩=some (.int .i64 (nd m).o):=(Has.made eG).cell 2 rfl;have n3:w2.cell? ⟨w.heap.size,3,none⟩=some (.int .i64 (nd m).n):=(Has.made eG).cell 3 rfl;have n4:w2.cell? ⟨w.heap.size,4,none⟩=some (.float .f64 (nd m).f):=(Has.made eG).cell 4 rfl;have n5:w2.cell? ⟨w.heap.size,5,none⟩=some (.string (nd m).s):=(Has.made eG).cell 5 rfl;have n6:w2.cell? ⟨w.heap.size,6,none⟩=some (.slice (nas m).ra (nd m).rn (nas m).rc):=(Has.made eG).cell 6 rfl;have n7:w2.cell? ⟨w.heap.size,7,none⟩=some (.slice (nas m).ka (nd m).kn (nas m).kc):=(Has.made eG).cell 7 rfl;have hz2:w.heap.size<w2.heap.size:=(Has.made eG).lt)|(go_at_call 157;refine(zy6 F m nd nas _ _ _ (nd m).c _ 549754765312 549754765312 549754765312 2 _ (by decide) (by decide) (by decide) (by decide) (by omega) gy (HA.below (jo fD.out _)) (iF.below HN.2 (jo fD.out _)) (by simp) (by simp) (by simp) (by simp)).mono ?_;rintro e w1 ⟨rfl,rfl⟩));all_goals go_ret
 all_goals refine⟨jH ?_,by first|exact fD.out|exact jo fD.out _|exact jo (jo fD.out _) _⟩
 all_goals first|rfl|(simp[*];done)|(simp[*];omega)|(simp[*];intros;omega)
theorem j03(F m:Nat)(nd:Nat->ND)(nas:Nat->NA)(w:World)(hA:AH w F m nd nas)(hN:iC 0 w (nd m) (nas m))(hs:(nd m).sm)(gy:(nd m).kn<=(nas m).kc):Calls Tryz.prog 107 #[.pointer (some ⟨F,0,none⟩),jP (nd m) (nas m)] w fun e w'=>e=.returned (.bool (jQ (nd m) false false false false true true && (iV (nd m).rn 1 4 && (((nd m).kn:Int)==2 && iK lu nd m ((nd m).c 0) && iK vS nd m ((nd m).c 1)))))/\gZ w w':=by
 have HA:Hid (AH w F m nd nas):=hA;have HN:Hid (iC 0 w (nd m) (nas m)):=hN;have fE:=hs.kn;have hrn:=hs.rn;have hsz:=hs.s;go_in;go_wp2_with (first|(go_at_call 155;refine(SG (nd m) (nas m) _).mono ?_;rintro e w2 ⟨rfl,eG⟩;have fD:Hid (gZ w w2):=iq (q01 _ _) eG;have n2:w2.cell? ⟨w.heap.size,2,none⟩=some (.int .i64 (nd m).o):=(Has.made eG).cell 2 rfl;have n3:w2.cell? ⟨w.heap.size,3,none⟩=some (.int .i64 (nd m).n):=(Has.made eG).cell 3 rfl;have n4:w2.cell? ⟨w.heap.size,4,none⟩=some (.float .f64 (nd m).f):=(Has.made eG).cell 4 rfl;have n5:w2.cell? ⟨w.heap.size,5,none⟩=some (.string (nd m).s):=(Has.made eG).cell 5 rfl;have n6:w2.cell? ⟨w.heap.size,6,none⟩=some (.slice (nas m).ra (nd m).rn (nas m).rc):=(Has.made eG).cell 6 rfl;have n7:w2.cell? ⟨w.heap.size,7,none⟩=some (.slice (nas m).ka (nd m).kn (nas m).kc):=(Has.made eG).cell 7 rfl;have hz2:w.heap.size<w2.heap.size:=(Has.made eG).lt)|(go_at_call 47;refine(zQ _ _ _ _).mono ?_;rintro e w1 ⟨rfl,rfl⟩)|(go_at_call 157;refine(Lh F m nd nas _ _ _ (nd m).c _ 549754765312 2 _ (by decide) (by decide) (by omega) gy (HA.below (jo fD.out _)) (iF.below HN.2 (jo fD.out _)) (by simp) (by simp)).mono ?_;rintro e w1 ⟨rfl,rfl⟩));all_goals go_ret
 all_goals refine⟨jH ?_,by first|exact fD.out|exact jo fD.out _|exact jo (jo fD.out _) _⟩
 all_goals first|rfl|(simp[*];done)|(simp[*];omega)|(simp[*];intros;omega)
theorem z54(F m:Nat)(nd:Nat->ND)(nas:Nat->NA)(w:World)(hA:AH w F m nd nas)(hN:iC 0 w (nd m) (nas m))(hs:(nd m).sm)(gy:(nd m).kn<=(nas m).kc):Calls Tryz.prog 103 #[.pointer (some ⟨F,0,none⟩),jP (nd m) (nas m)] w fun e w'=>e=.returned (.bool (jQ (nd m) false false false false false true && ((((nd m).kn:Int)==1 && iK RS nd m ((nd m).c 0)))))/\gZ w w':=by
 have HA:Hid (AH w F m nd nas):=hA;have HN:Hid (iC 0 w (nd m) (nas m)):=hN;have fE:=hs.kn;have hrn:=hs.rn;have hsz:=hs.s;go_in;go_wp2_with (first|(go_at_call 155;refine(Eo (nd m) (nas m) _).mono ?_;rintro e w2 ⟨rfl,eG⟩;have fD:Hid (gZ w w2):=iq (q01 _ _) eG;have n2:w2.cell? ⟨w.heap.size,2,none⟩=some (.int .i64 (nd m).o):=(Has.made eG).cell 2 rfl;have n3:w2.cell? ⟨w.heap.size,3,none⟩=some (.int .i64 (nd m).n):=(Has.made eG).cell 3 rfl;have n4:w2.cell? ⟨w.heap.size,4,none⟩=some (.float .f64 (nd m).f):=(Has.made eG).cell 4 rfl;have n5:w2.cell? ⟨w.heap.size,5,none⟩=some (.string (nd m).s):=(Has.made eG).cell 5 rfl;have n6:w2.cell? ⟨w.heap.size,6,none⟩=some (.slice (nas m).ra (nd m).rn (nas m).rc):=(Has.made eG).cell 6 rfl;have n7:w2.cell? ⟨w.heap.size,7,none⟩=some (.slice (nas m).ka (nd m).kn (nas m).kc):=(Has.made eG).cell 7 rfl;have hz2:w.heap.size<w2.heap.size:=(Has.made eG).lt)|(go_at_call 157;refine(SB F m nd nas _ _ _ (nd m).c _ 17179869184 _ (by decide) (by omega) gy (HA.below (jo fD.out _)) (iF.below HN.2 (jo fD.out _)) (by simp)).mono ?_;rintro e w1 ⟨rfl,rfl⟩));all_goals go_ret
 all_goals refine⟨jH ?_,by first|exact fD.out|exact jo fD.out _|exact jo (jo fD.out _) _⟩
 all_goals first|rfl|(simp[*];done)|(simp[*];omega)|(simp[*];intros;omega)
theorem ym5(F m:Nat)(nd:Nat->ND)(nas:Nat->NA)(w:World)(hA:AH w F m nd nas)(hN:iC 0 w (nd m) (nas m))(hs:(nd m).sm)(gy:(nd m).kn<=(nas m).kc):Calls Tryz.prog 105 #[.pointer (some ⟨F,0,none⟩),jP (nd m) (nas m)] w fun e w'=>e=.returned (.bool (jQ (nd m) false false false false false true && ((((nd m).kn:Int)==2 && iK lu nd m ((nd m).c 0) && iK vS nd m ((nd m).c 1)))))/\gZ w w':=by
 have HA:Hid (AH w F m nd nas):=hA;have HN:Hid (iC 0 w (nd m) (nas m)):=hN;have fE:=hs.kn;have hrn:=hs.rn;have hsz:=hs.s;go_in;go_wp2_with (first|(go_at_call 155;refine(Eo (nd m) (nas m) _).mono ?_;rintro e w2 ⟨rfl,eG⟩;have fD:Hid (gZ w w2):=iq (q01 _ _) eG;have n2:w2.cell? ⟨w.heap.size,2,none⟩=some (.int .i64 (nd m).o):=(Has.made eG).cell 2 rfl;have n3:w2.cell? ⟨w.heap.size,3,none⟩=some (.int .i64 (nd m).n):=(Has.made eG).cell 3 rfl;have n4:w2.cell? ⟨w.heap.size,4,none⟩=some (.float .f64 (nd m).f):=(Has.made eG).cell 4 rfl;have n5:w2.cell? ⟨w.heap.size,5,none⟩=some (.string (nd m).s):=(Has.made eG).cell 5 rfl;have n6:w2.cell? ⟨w.heap.size,6,none⟩=some (.slice (nas m).ra (nd m).rn (nas m).rc):=(Has.made eG).cell 6 rfl;have n7:w2.cell? ⟨w.heap.size,7,none⟩=some (.slice (nas m).ka (nd m).kn (nas m).kc):=(Has.made eG).cell 7 rfl;have hz2:w.heap.size<w2.heap.size:=(Has.made eG).lt)|(go_at_call 157;refine(Lh F m nd nas _ _ _ (nd m).c _ 549754765312 2 _ (by decide) (by decide) (by omega) gy (HA.below (jo fD.out _)) (iF.below HN.2 (jo fD.out _)) (by simp) (by simp)).mono ?_;rintro e w1 ⟨rfl,rfl⟩));all_goals go_ret
 all_goals refine⟨jH ?_,by first|exact fD.out|exact jo fD.out _|exact jo (jo fD.out _) _⟩
 all_goals first|rfl|(simp[*];done)|(simp[*];omega)|(simp[*];intros;omega)
theorem qs0(F m:Nat)(nd:Nat->ND)(nas:Nat->NA)(w:World)(hA:AH w F m nd nas)(hN:iC 0 w (nd m) (nas m))(hs:(nd m).sm)(gy:(nd m).kn<=(nas m).kc):Calls Tryz.prog 111 #[.pointer (some ⟨F,0,none⟩),jP (nd m) (nas m)] w fun e w'=>e=.returned (.bool (jQ (nd m) false false false false false true && ((((nd m).kn:Int)==1 && iK lu nd m ((nd m).c 0)))))/\gZ w w':=by
 have HA:Hid (AH w F m nd nas):=hA;have HN:Hid (iC 0 w (nd m) (nas m)):=hN;have fE:=hs.kn;have hrn:=hs.rn;have hsz:=hs.s;go_in;go_wp2_with (first|(go_at_call 155;refine(Eo (nd m) (nas m) _).mono ?_;rintro e w2 ⟨rfl,eG⟩;have fD:Hid (gZ w w2):=iq (q01 _ _) eG;have n2:w2.cell? ⟨w.heap.size,2,none⟩=some (.int .i64 (nd m).o):=(Has.made eG).cell 2 rfl;have n3:w2.cell? ⟨w.heap.size,3,none⟩=some (.int .i64 (nd m).n):=(Has.made eG).cell 3 rfl;have n4:w2.cell? ⟨w.heap.size,4,none⟩=some (.float .f64 (nd m).f):=(Has.made eG).cell 4 rfl;have n5:w2.cell? ⟨w.heap.size,5,none⟩=some (.string (nd m).s):=(Has.made eG).cell 5 rfl;have n6:w2.cell? ⟨w.heap.size,6,none⟩=some (.slice (nas m).ra (nd m).rn (nas m).rc):=(Has.made eG).cell 6 rfl;have n7:w2.cell? ⟨w.heap.size,7,none⟩=some (.slice (nas m).ka (nd m).kn (nas m).kc):=(Has.made eG).cell 7 rfl;have hz2:w.heap.size<w2.heap.size:=(Has.made eG).lt)|(go_at_call 157;refine(SB F m nd nas _ _ _ (nd m).c _ 549754765312 _ (by decide) (by omega) gy (HA.below (jo fD.out _)) (iF.below HN.2 (jo fD.out _)) (by simp)).mono ?_;rintro e w1 ⟨rfl,rfl⟩));all_goals go_ret
 all_goals refine⟨jH ?_,by first|exact fD.out|exact jo fD.out _|exact jo (jo fD.out _) _⟩
 all_goals first|rfl|(simp[*];done)|(simp[*];omega)|(simp[*];intros;omega)
theorem WX(F m:Nat)(nd:Nat->ND)(nas:Nat->NA)(w:World)(hA:AH w F m nd nas)(hN:iC 0 w (nd m) (nas m))(hs:(nd m).sm)(gy:(nd m).kn<=(nas m).kc):Calls Tryz.prog 117 #[.pointer (some ⟨F,0,none⟩),jP (nd m) (nas m)] w fun e w'=>e=.returned (.bool (jQ (nd m) false false false false false true && ((((nd m).kn:Int)==2 && iK lu nd m ((nd m).c 0) && iK lu nd m ((nd m).c 1)))))/\gZ w w':=by
 have HA:Hid (AH w F m nd nas):=hA;have HN:Hid (iC 0 w (nd m) (nas m)):=hN;have fE:=hs.kn;have hrn:=hs.rn;have hsz:=hs.s;go_in;go_wp2_with (first|(go_at_call 155;refine(Eo (nd m) (nas m) _).mono ?_;rintro e w2 ⟨rfl,eG⟩;have fD:Hid (gZ w w2):=iq (q01 _ _) eG;have n2:w2.cell? ⟨w.heap.size,2,none⟩=some (.int .i64 (nd m).o):=(Has.made eG).cell 2 rfl;have n3:w2.cell? ⟨w.heap.size,3,none⟩=some (.int .i64 (nd m).n):=(Has.made eG).cell 3 rfl;have n4:w2.cell? ⟨w.heap.size,4,none⟩=some (.float .f64 (nd m).f):=(Has.made eG).cell 4 rfl;have n5:w2.cell? ⟨w.heap.size,5,none⟩=some (.string (nd m).s):=(Has.made eG).cell 5 rfl;have n6:w2.cell? ⟨w.heap.size,6,none⟩=some (.slice (nas m).ra (nd m).rn (nas m).rc):=(Has.made eG).cell 6 rfl;have n7:w2.cell? ⟨w.heap.size,7,none⟩=some (.slice (nas m).ka (nd m).kn (nas m).kc):=(Has.made eG).cell 7 rfl;have hz2:w.heap.size<w2.heap.size:=(Has.made eG).lt)|(go_at_call 157;refine(Lh F m nd nas _ _ _ (nd m).c _ 549754765312 549754765312 _ (by decide) (by decide) (by omega) gy (HA.below (jo fD.out _)) (iF.below HN.2 (jo fD.out _)) (by simp) (by simp)).mono ?_;rintro e w1 ⟨rfl,rfl⟩));all_goals go_ret
 all_goals refine⟨jH ?_,by first|exact fD.out|exact jo fD.out _|exact jo (jo fD.out _) _⟩
 all_goals first|rfl|(simp[*];done)|(simp[*];omega)|(simp[*];intros;omega)
theorem y18(F m:Nat)(nd:Nat->ND)(nas:Nat->NA)(w:World)(hA:AH w F m nd nas)(hN:iC 0 w (nd m) (nas m))(hs:(nd m).sm)(gy:(nd m).kn<=(nas m).kc):Calls Tryz.prog 122 #[.pointer (some ⟨F,0,none⟩),jP (nd m) (nas m)] w fun e w'=>e=.returned (.bool (jQ (nd m) false false false false false true && ((((nd m).kn:Int)==1 && iK DZ nd m ((nd m).c 0)))))/\gZ w w':=by
 have HA:Hid (AH w F m nd nas):=hA;have HN:Hid (iC 0 w (nd m) (nas m)):=hN;have fE:=hs.kn;have hrn:=hs.rn;have hsz:=hs.s;go_in;go_wp2_with (first|(go_at_call 155;refine(Eo (nd m) (nas m) _).mono ?_;rintro e w2 ⟨rfl,eG⟩;have fD:Hid (gZ w w2):=iq (q01 _ _) eG;have n2:w2.cell? ⟨w.heap.size,2,none⟩=some (.int .i64 (nd m).o):=(Has.made eG).cell 2 rfl;have n3:w2.cell? ⟨w.heap.size,3,none⟩=some (.int .i64 (nd m).n):=(Has.made eG).cell 3 rfl;have n4:w2.cell? ⟨w.heap.size,4,none⟩=some (.float .f64 (nd m).f):=(Has.made eG).cell 4 rfl;have n5:w2.cell? ⟨w.heap.size,5,none⟩=some (.string (nd m).s):=(Has.made eG).cell 5 rfl;have n6:w2.cell? ⟨w.heap.size,6,none⟩=some (.slice (nas m).ra (nd m).rn (nas m).rc):=(Has.made eG).cell 6 rfl;have n7:w2.cell? ⟨w.heap.size,7,none⟩=some (.slice (nas m).ka (nd m).kn (nas m).kc):=(Has.made eG).cell 7 rfl;have hz2:w.heap.size<w2.heap.size:=(Has.made eG).lt)|(go_at_call 157;refine(SB F m nd nas _ _ _ (nd m).c _ 154618822656 _ (by decide) (by omega) gy (HA.below (jo fD.out _)) (iF.below HN.2 (jo fD.out _)) (by simp)).mono ?_;rintro e w1 ⟨rfl,rfl⟩));all_goals go_ret
 all_goals refine⟨jH ?_,by first|exact fD.out|exact jo fD.out _|exact jo (jo fD.out _) _⟩
 all_goals first|rfl|(simp[*];done)|(simp[*];omega)|(simp[*];intros;omega)
theorem j90(F m:Nat)(nd:Nat->ND)(nas:Nat->NA)(w:World)(hA:AH w F m nd nas)(hN:iC 0 w (nd m) (nas m))(hs:(nd m).sm)(gy:(nd m).kn<=(nas m).kc):Calls Tryz.prog 110 #[.pointer (some ⟨F,0,none⟩),jP (nd m) (nas m)] w fun e w'=>e=.returned (.bool (jQ (nd m) false false false false true true && (((nd m).rn:Int)==2 && (((nd m).kn:Int)==2 && iK vS nd m ((nd m).c 0) && iK vS nd m ((nd m).c 1)))))/\gZ w w':=by
 have HA:Hid (AH w F m nd nas):=hA;have HN:Hid (iC 0 w (nd m) (nas m)):=hN;have fE:=hs.kn;have hrn:=hs.rn;have hsz:=hs.s;go_in;go_wp2_with (first|(go_at_call 155;refine(SG (nd m) (nas m) _).mono ?_;rintro e w2 ⟨rfl,eG⟩;have fD:Hid (gZ w w2):=iq (q01 _ _) eG;have n2:w2.cell? ⟨w.heap.size,2,none⟩=some (.int .i64 (nd m).o):=(Has.made eG).cell 2 rfl;have n3:w2.cell? ⟨w.heap.size,3,none⟩=some (.int .i64 (nd m).n):=(Has.made eG).cell 3 rfl;have n4:w2.cell? ⟨w.heap.size,4,none⟩=some (.float .f64 (nd m).f):=(Has.made eG).cell 4 rfl;have n5:w2.cell? ⟨w.heap.size,5,none⟩=some (.string (nd m).s):=(Has.made eG).cell 5 rfl;have n6:w2.cell? ⟨w.heap.size,6,none⟩=some (.slice (nas m).ra (nd m).rn (nas m).rc):=(Has.made eG).cell 6 rfl;have n7:w2.cell? ⟨w.heap.size,7,none⟩=some (.slice (nas m).ka (nd m).kn (nas m).kc):=(Has.made eG).cell 7 rfl;have hz2:w.heap.size<w2.heap.size:=(Has.made eG).lt)|(go_at_call 157;refine(Lh F m nd nas _ _ _ (nd m).c _ 2 2 _ (by decide) (by decide) (by omega) gy (HA.below (jo fD.out _)) (iF.below HN.2 (jo fD.out _)) (by simp) (by simp)).mono ?_;rintro e w1 ⟨rfl,rfl⟩));all_goals go_ret
 all_goals refine⟨jH ?_,by first|exact fD.out|exact jo fD.out _|exact jo (jo fD.out _) _⟩
 all_goals first|rfl|(simp[*];done)|(simp[*];omega)|(simp[*];intros;omega)
end
section
open Go.RowKit
theorem ya9{u:UD}{g:Int}:¬tJ u 0 0 g:=by rintro⟨f',x',h,_⟩;omega
theorem NV{u:UD}{f x:Nat}(hf:f<u.n)(hx:x<(u.fn f).nn){g:Int}:tJ u f (x+1) g↔tJ u f x g\/(((u.fn f).nd x).k=36/\((u.fn f).nd x).r 0=g):=by
 constructor
 ·rintro⟨f',x',h,hm⟩;by_cases e:f'=f/\x'=x
  ·obtain⟨rfl,rfl⟩:=e;exact .inr hm.2.2
  ·exact .inl ⟨f',x',by omega,hm⟩
 ·rintro(⟨f',x',h,hm⟩|h)
  ·exact⟨f',x',by omega,hm⟩
  ·exact⟨f,x,by omega,hf,hx,h⟩
theorem zT{u:UD}{f:Nat}{g:Int}:tJ u (f+1) 0 g↔tJ u f (u.fn f).nn g:=by
 constructor
 ·rintro⟨f',x',h,hm⟩;refine⟨f',x',?_,hm⟩;by_cases e:f'=f
  ·subst e;exact .inr ⟨rfl,hm.2.1⟩
  ·exact .inl (by omega)
 ·rintro⟨f',x',h,hm⟩;exact⟨f',x',by omega,hm⟩
theorem rO{u:UD}{g:Int}:tJ u u.n 0 g↔∃f x,KW u f x g:=by
 constructor
 ·rintro⟨f',x',_,hm⟩;exact⟨f',x',hm⟩
 ·rintro⟨f',x',hm⟩;exact⟨f',x',.inl hm.1,hm⟩
def je(w:World)(M:Nat)(u:UD)(f x:Nat):Prop:=w.rowIs M 4 u.n (fun i=>.bool (dB (tJ u f x i)))
theorem je.below{w w':World}{M:Nat}{u:UD}{f x:Nat}(h:je w M u f x)(hb:gZ w w'):je w' M u f x:=World.rowIs.of_block h (hb.block _ h.lt)
theorem je.congr{w:World}{M:Nat}{u:UD}{f x f' x':Nat}(h:je w M u f x)(e:∀v:Nat,tJ u f x v↔tJ u f' x' v):je w M u f' x':=World.rowIs.congr h fun i _=>by
 by_cases c:tJ u f x i
 ·rw[pU c,pU ((e i).1 c)]
 ·rw[q30 c,q30 fun c'=>c ((e i).2 c')]
theorem je.set{w:World}{M:Nat}{u:UD}{f x g:Nat}(hf:f<u.n)(hx:x<(u.fn f).nn)(h:je w M u f x)(hk:((u.fn f).nd x).k=36)(hg:((u.fn f).nd x).r 0=g):je (w.setCell ⟨M,g,none⟩ (.bool true)) M u f (x+1):=(World.rowIs.set h g (.bool true)).congr fun i _=>by
 by_cases e:i=g
 ·rw[aO e,pU ((NV hf hx).2 (.inr ⟨hk,by rw[hg,e]⟩))]
 ·rw[au e];by_cases c:tJ u f x i
  ·rw[pU c,pU ((NV hf hx).2 (.inl c))]
  ·rw[q30 c,q30 fun c'=>((NV hf hx).1 c').elim c fun h=>e (by omega)]
theorem je.skip{w:World}{M:Nat}{u:UD}{f x:Nat}(hf:f<u.n)(hx:x<(u.fn f).nn)(h:je w M u f x)(hk:((u.fn f).nd x).k≠36):je w M u f (x+1):=h.congr fun v=>by
 rw[NV hf hx];exact⟨.inl,fun h=>h.elim id fun h=>absurd h.1 hk⟩
theorem Zk:(Tryz.prog.info? 4).map (fun i=>(i.zero,i.size,i.bytes))=some (some (.bool false),1,1):=by kernel_rfl
theorem zy5{d:FD}{p:Nat}(hp:d.params=p)(v:Nat):v<p↔pR d 0 0 v:=by
 unfold pR;constructor
 ·intro h;exact .inl (by omega)
 ·rintro(h|⟨m,hm,_⟩|⟨b,hb,_⟩)
  ·omega
  ·omega
  ·omega
end
section
open Go.RowKit
attribute [local go_sem] iD
attribute [local go_sem ↓] Go.wp_at_zero Go.wp_at_succ
theorem qu4(L:Nat)(u:UD)(a:Option Addr)(cap:Nat)(fas:Nat->FA)(w:World)(hs:u.sm)(h3:U3 u)(hT:jh L w u.n u.fn a fas):Calls Tryz.prog 42 #[vN u a cap] w fun e w'=>iG (vK u) w e w':=by
 have HT:Hid (jh L w u.n u.fn a fas):=hT;have HS:Hid u.sm:=hs;have H3:Hid (U3 u):=h3;have hun:=h3.size.2.1;obtain⟨b,off,e0,_,hb,_⟩:=jZ hT.1 (show 0<u.n from h3.size.1);subst e0;clear hT hs h3;go_in;go_wp2_with fail
 go_loopw [12] (fun i wr=>∃(k:Nat),k<=u.n/\i=.int .i64 k/\Hid (∀f',f'<k->∀n',n'<(u.fn f').nn->¬Df u f' n')/\Hid (Below (jG w u (some ⟨b,off,none⟩) cap).heap.size (jG w u (some ⟨b,off,none⟩) cap) wr)) (fun i _=>u.n-(intOf i).toNat)
 case atStart=>exact⟨0,aF _,rfl,fun f' hf'=>by omega,ay _ _⟩
 case round=>
  obtain⟨k,hk,rfl,HF,HB⟩:=hrel;by_cases fE:k<u.n
  ·have pI:Hid (jh L wr u.n u.fn (some ⟨b,off,none⟩) fas):=HT.below (nO HB.out);obtain⟨b',off',e0,_,hbz,d0,d1,d2,d3,d4,d5,d6⟩:=jZ pI.1 fE;obtain⟨rfl,rfl⟩:b=b'/\off=off':=by simpa using e0
   clear e0;have hnn:=H3.nn fE;have qy:Hid (∀i,i<(u.fn k).nn->((u.fn k).nd i).kn<=200):=fun i hi=>(H3.facts fE hi).kn
   rename World=>wa
   go_wp2_with (go_at_call 78;refine(qv3 L (u.fn k) (fas k) _ hnn.1 (H3.kids fE) qy ((pI.2 k fE).alloc _)).mono ?_;rintro e w8 ⟨⟨B,rfl,hBz,hR⟩,hb8⟩;have DC:Hid (kP w8 B (u.fn k).nn (sF (u.fn k).nd (u.fn k).nn)):=hR;have U0:Hid (Has w8 wa.heap.size (qG (u.fn k) (fas k))):=Has.made hb8;have y6:w8.cell? ⟨wa.heap.size,6,none⟩=some (.slice (fas k).na (u.fn k).nn (fas k).nc):=U0.cell 6 rfl;clear hR);clear y6 d0 d1 d2 d3 d4 d5 d6;have xJ:Hid (Below (jG w u (some ⟨b,off,none⟩) cap).heap.size (jG w u (some ⟨b,off,none⟩) cap) w8):=iq HB.out (iq (q01 _ _) hb8);clear HB hb8 pI U0 hBz
   go_loopw [26] (fun i wr=>∃(m:Nat),m<=(u.fn k).nn/\i=.int .i64 m/\Hid (∀n',n'<m->¬Df u k n')/\Hid (gZ w8 wr)) (fun i _=>(u.fn k).nn-(intOf i).toNat)
   case atStart=>exact⟨0,aF _,rfl,fun f' hf'=>by omega,ay _ _⟩
   case round=>
    obtain⟨m,hm,rfl,HN,HW⟩:=hrel;have HB:Hid (Below (jG w u (some ⟨b,off,none⟩) cap).heap.size (jG w u (some ⟨b,off,none⟩) cap) wr):=iq xJ.out HW.out;by_cases hmn:m<(u.fn k).nn
    ·have pI:Hid (jh L wr u.n u.fn (some ⟨b,off,none⟩) fas):=HT.below (nO HB.out);have HRr:Hid (kP wr B (u.fn k).nn (sF (u.fn k).nd (u.fn k).nn)):=World.rowIs.of_block DC.out (HW.block _ (World.rowIs.lt DC.out));have r0:=World.rowIs.cell HRr.out (i:=m) hmn;have hBw:=World.rowIs.lt HRr.out;have hrz:w.heap.size+1<wr.heap.size:=(q22 HB.out).lt;obtain⟨b2,o2,e2,_,eG,g0,g1,g2,g3,g4,g5,g6,g7⟩:=jU (pI.2 k fE).2.2.1 hmn;rw[e2];clear e2;have LX:Hid (gZ w8 (wr.alloc (.cells (kQ ((u.fn k).nd m) (fas k |>.nas m)) 48))):=jo HW.out _;have s0:=(q22 HB.out).cell (i:=0) (by omega);have s1:=(q22 HB.out).cell (i:=1) (by omega);have s2:=(q22 HB.out).cell (i:=2) (by omega);have sz:=(q22 HB.out).frozen;by_cases hl:m=(u.fn k).nn-1
     ·have qa:¬(m:Int)<((u.fn k).nn:Int)-1:=by omega
      have qb:((m:Int)==((u.fn k).nn:Int)-1)=true:=by simp;omega
      by_cases hk1:((u.fn k).nd m).k=1
      ·have HG:Hid (¬Df u k m):=by
        show ¬Df u k m;rintro(⟨h,_⟩|⟨_,h⟩)
        ·omega
        ·exact h hk1
       have q1:(((u.fn k).nd m).k != 1)=false:=by rw[hk1];rfl
       clear hk1 hl;go_wp2_with fail;go_roundw
       case rel=>exact⟨m+1,by omega,by go_num,fun j hj=>by
        by_cases e:j=m
        ·subst e;exact HG
        ·exact HN.out j (by omega),LX⟩
       case measure=>simp[intOf];omega
      ·have HL:Hid (Least (vK u) ⟨4,k,m⟩):=Z9 fE hmn HF.out HN.out (.inr ⟨hl,hk1⟩);have q1:(((u.fn k).nd m).k != 1)=true:=by simpa using hk1
       clear hk1 hl;go_wp2_with fail;refine aG (v:=nC ⟨4,k,m⟩) (by simp[results,Tryz.results42,go_sem,s0,s1,s2,hrz]) rfl ?_;exact iG.of HL (jo (qF (nO HB) _ _ _) _)
     ·have qa:(m:Int)<((u.fn k).nn:Int)-1:=by omega
      have qb:((m:Int)==((u.fn k).nn:Int)-1)=false:=by simp;omega
      have hco:=ye4 (H3.kids fE) (x:=m) (by omega);by_cases hp:sF (u.fn k).nd (u.fn k).nn m=1
      ·have HG:Hid (¬Df u k m):=by
        show ¬Df u k m;rintro(⟨_,h⟩|⟨h,_⟩)
        ·have:=hco.1 hp;omega
        ·exact hl h
       have q1:(sF (u.fn k).nd (u.fn k).nn m != 1)=false:=by rw[hp];rfl
       clear hp hl hco;go_wp2_with fail;go_roundw
       case rel=>exact⟨m+1,by omega,by go_num,fun j hj=>by
        by_cases e:j=m
        ·subst e;exact HG
        ·exact HN.out j (by omega),LX⟩
       case measure=>simp[intOf];omega
      ·have HL:Hid (Least (vK u) ⟨4,k,m⟩):=Z9 fE hmn HF.out HN.out (.inl ⟨by omega,by
        have:¬0<=jM (u.fn k).nd (u.fn k).nn m:=fun h=>hp (hco.2 h);omega⟩)
       have q1:(sF (u.fn k).nd (u.fn k).nn m != 1)=true:=by simpa using hp
       clear hp hl hco;go_wp2_with fail;refine aG (v:=nC ⟨4,k,m⟩) (by simp[results,Tryz.results42,go_sem,s0,s1,s2,hrz]) rfl ?_;exact iG.of HL (jo (qF (nO HB) _ _ _) _)
    ·obtain rfl:m=(u.fn k).nn:=by omega
     go_wp2_with fail;go_roundw
     case rel=>exact⟨k+1,by omega,by go_num,fun j hj=>by
      by_cases e:j=k
      ·subst e;exact HN
      ·exact HF.out j (by omega),HB⟩
     case measure=>simp[intOf];omega
  ·obtain rfl:k=u.n:=by omega
   have HL:Hid (Least (vK u) ⟨0,0,0⟩):=j24 HF.out;have s0:=(q22 HB.out).cell (i:=0) (by omega);have s1:=(q22 HB.out).cell (i:=1) (by omega);have s2:=(q22 HB.out).cell (i:=2) (by omega);have sz:=(q22 HB.out).frozen;go_wp2_with fail;refine aG (v:=nC ⟨0,0,0⟩) (by simp[results,Tryz.results42,go_sem,s0,s1,s2]) rfl ?_;exact iG.of HL (qF (nO HB) _ _ _)
def G8(u:UD)(f n:Nat):Prop:=100<nI (jM (u.fn f).nd (u.fn f).nn) (u.fn f).nn ((u.fn f).nn-1) n
theorem yo5{u:UD}{f n:Nat}(hf:f<u.n)(hn:n<(u.fn f).nn)(h3:∀f',f'<f->∀n',n'<(u.fn f').nn->¬G8 u f' n')(h4:∀n',n'<n->¬G8 u f n')(h5:G8 u f n):Least (xC u) ⟨5,f,n⟩:=At2.least (by decide) h3 h4 hf hn h5
theorem j23{u:UD}(h2:∀f',f'<u.n->∀n',n'<(u.fn f').nn->¬G8 u f' n'):Least (xC u) oI:=Least.zero (At2.none h2)
def Ny:Prop:=∀(L:Nat) (d:FD) (x:FA) (w:World),d.nn<=3000->uh d.nd d.nn->(∀i,i<d.nn->(d.nd i).kn<=200)->oM L w d x->
 Calls Tryz.prog 79 #[LJ d x] w fun e w'=>(∃B,e=.returned (.slice (some ⟨B,0,none⟩) d.nn d.nn)/\w.heap.size<=B/\kP w' B d.nn (qa2 d.nd d.nn d.nn))/\gZ w w'
theorem zg0(hD:Ny)(L:Nat)(u:UD)(a:Option Addr)(cap:Nat)(fas:Nat->FA)(w:World)(h5:U5 u)(hT:jh L w u.n u.fn a fas):Calls Tryz.prog 43 #[vN u a cap] w fun e w'=>iG (xC u) w e w':=by
 have HD:Hid Ny:=hD;have HT:Hid (jh L w u.n u.fn a fas):=hT;have H5:Hid (U5 u):=h5;have hun:=h5.size.2.1;obtain⟨b,off,e0,_,hb,_⟩:=jZ hT.1 (show 0<u.n from h5.size.1);subst e0;go_in;go_wp2_with fail
 go_loopw [10] (fun i wr=>∃(k:Nat),k<=u.n/\i=.int .i64 k/\Hid (∀f',f'<k->∀n',n'<(u.fn f').nn->¬G8 u f' n')/\Hid (Below (jG w u (some ⟨b,off,none⟩) cap).heap.size (jG w u (some ⟨b,off,none⟩) cap) wr)) (fun i _=>u.n-(intOf i).toNat)
 case atStart=>exact⟨0,aF _,rfl,fun f' hf'=>by omega,ay _ _⟩
 case round=>
  obtain⟨k,hk,rfl,HF,HB⟩:=hrel;by_cases fE:k<u.n
  ·have pI:Hid (jh L wr u.n u.fn (some ⟨b,off,none⟩) fas):=HT.below (nO HB.out);obtain⟨b',off',e0,_,hbz,d0,d1,d2,d3,d4,d5,d6⟩:=jZ pI.1 fE;obtain⟨rfl,rfl⟩:b=b'/\off=off':=by simpa using e0
   have hnn:=H5.toU3.nn fE;have qy:Hid (∀i,i<(u.fn k).nn->((u.fn k).nd i).kn<=200):=fun i hi=>(H5.toU3.facts fE hi).kn
   rename World=>wa
   go_wp2_with (go_at_call 79;refine(HD L (u.fn k) (fas k) _ hnn.1 (H5.toU3.kids fE) qy ((pI.2 k fE).alloc _)).mono ?_;rintro e w8 ⟨⟨B,rfl,hBz,hR⟩,hb8⟩;have DC:Hid (kP w8 B (u.fn k).nn (qa2 (u.fn k).nd (u.fn k).nn (u.fn k).nn)):=hR);have xJ:Hid (Below (jG w u (some ⟨b,off,none⟩) cap).heap.size (jG w u (some ⟨b,off,none⟩) cap) w8):=iq HB.out (iq (q01 _ _) hb8)
   go_loopw [18] (fun i wr=>∃(m:Nat),m<=(u.fn k).nn/\i=.int .i64 m/\Hid (∀n',n'<m->¬G8 u k n')/\wr=w8) (fun i _=>(u.fn k).nn-(intOf i).toNat)
   case atStart=>exact⟨0,aF _,rfl,fun f' hf'=>by omega,rfl⟩
   case round=>
    obtain⟨m,hm,rfl,HN,rfl⟩:=hrel;by_cases hmn:m<(u.fn k).nn
    ·have r0:=World.rowIs.cell DC.out (i:=m) hmn;have hBw:=World.rowIs.lt DC.out;have hds:=yn8 (H5.tree k fE) hmn;have s0:=(q22 xJ.out).cell (i:=0) (by omega);have s1:=(q22 xJ.out).cell (i:=1) (by omega);have s2:=(q22 xJ.out).cell (i:=2) (by omega);have sz:=(q22 xJ.out).frozen;by_cases hp:100<qa2 (u.fn k).nd (u.fn k).nn (u.fn k).nn m
     ·have HL:Hid (Least (xC u) ⟨5,k,m⟩):=yo5 fE hmn HF.out HN.out (by unfold G8;rw[<-hds];exact hp);go_wp2_with fail;refine aG (v:=nC ⟨5,k,m⟩) (by simp[results,Tryz.results43,go_sem,s0,s1,s2]) rfl ?_;exact iG.of HL (qF (nO xJ) _ _ _)
     ·have HG:Hid (¬G8 u k m):=by
       show ¬(100 < _);rw[<-hds];exact hp
      go_wp2_with fail;go_roundw
      case rel=>exact⟨m+1,by omega,by go_num,fun j hj=>by
       by_cases e:j=m
       ·subst e;exact HG
       ·exact HN.out j (by omega),by first|rfl|trivial⟩
      case measure=>simp[intOf];omega
    ·obtain rfl:m=(u.fn k).nn:=by omega
     go_wp2_with fail;go_roundw
     case rel=>exact⟨k+1,by omega,by go_num,fun j hj=>by
      by_cases e:j=k
      ·subst e;exact HN
      ·exact HF.out j (by omega),xJ⟩
     case measure=>simp[intOf];omega
  ·obtain rfl:k=u.n:=by omega
   have HL:Hid (Least (xC u) ⟨0,0,0⟩):=j23 HF.out;have s0:=(q22 HB.out).cell (i:=0) (by omega);have s1:=(q22 HB.out).cell (i:=1) (by omega);have s2:=(q22 HB.out).cell (i:=2) (by omega);have sz:=(q22 HB.out).frozen;go_wp2_with fail;refine aG (v:=nC ⟨0,0,0⟩) (by simp[results,Tryz.results43,go_sem,s0,s1,s2]) rfl ?_;exact iG.of HL (qF (nO HB) _ _ _)
theorem qq7(B o n cap:Nat)(p:Nat->Bool)(w:World)(hn:n<=1048576)(hT:∀i,i<n->w.cell? ⟨B,o+i,none⟩=some (.bool (p i))):Calls Tryz.prog 142 #[.slice (some ⟨B,o,none⟩) n cap,.bool false] w fun e w'=>(∃r:Int,e=.returned (.int .i64 r)/\((r = -1/\∀i,i<n->p i=true)\/∃i:Nat,r=i/\i<n/\p i=false/\∀j,j<i->p j=true))/\w'=w:=by
 have HT:Hid (∀i,i<n->w.cell? ⟨B,o+i,none⟩=some (.bool (p i))):=hT;go_in;go_wp2_with fail
 go_loopw [8] (fun i wr=>∃(k:Nat),k<=n/\i=.int .i64 k/\Hid (∀j,j<k->p j=true)/\wr=w) (fun i _=>n-(intOf i).toNat)
 case atStart=>exact⟨0,aF _,rfl,fun j hj=>by omega,rfl⟩
 case round=>
  obtain⟨k,hk,rfl,HK,rfl⟩:=hrel;by_cases fE:k<n
  ·have d0:=HT.out k fE
   cases hp:p k
   ·rw[hp] at d0;go_wp2_with fail;go_ret;exact⟨⟨_,rfl,.inr ⟨k,rfl,fE,hp,HK⟩⟩,rfl⟩
   ·rw[hp] at d0;have HP:Hid (p k=true):=hp;go_wp2_with fail;go_roundw
    case rel=>exact⟨k+1,by omega,by go_num,fun j hj=>by
     by_cases e:j=k
     ·subst e;exact HP
     ·exact HK.out j (by omega),by first|rfl|trivial⟩
    case measure=>simp[intOf];omega
  ·go_wp2_with fail;go_ret;exact⟨⟨_,rfl,.inl ⟨rfl,fun i hi=>HK.out i (by omega)⟩⟩,rfl⟩
theorem zm9{u:UD}{f n:Nat}(hf:f<u.n)(hn:n<(u.fn f).nn)(h3:∀f',f'<f->∀n',n'<(u.fn f').nn->¬yU u f' n')(h4:∀n',n'<n->¬yU u f n')(h5:yU u f n):Least (z21 u) ⟨8,f,n⟩:=
 Least.ahead (At2.least (N:=fun f=>(u.fn f).nn) (bad:=yU u) (by decide) h3 h4 hf hn h5) (by show(8:Nat)≠0;decide) fun y hy=>by
  show 8<y.c;rw[hy.1];decide
theorem zz7{u:UD}{f:Nat}(hf:f<u.n)(h1:1<=f)(h8:∀f',f'<u.n->∀n',n'<(u.fn f').nn->¬yU u f' n')(h3:∀f',1<=f'->f'<f->∃g x,KW u g x f')(h5:¬∃g x,KW u g x f):Least (z21 u) ⟨9,f,0⟩:=
 Least.behind (fun y hy=>h8 _ hy.2.1 _ hy.2.2.1 hy.2.2.2) (.inr ⟨by show(0:Nat)<9;decide,⟨rfl,rfl,h1,hf,h5⟩,fun y hy=>.inr ⟨hy.1.symm,by
  show f<y.f\/f=y.f/\0<=y.n;by_cases e:y.f<f
  ·exact absurd (h3 _ hy.2.2.1 e) hy.2.2.2.2
  ·omega⟩⟩)
theorem z35{u:UD}(h8:∀f',f'<u.n->∀n',n'<(u.fn f').nn->¬yU u f' n')(h9:∀f',1<=f'->f'<u.n->∃g x,KW u g x f'):Least (z21 u) oI:=
 Least.zero fun y hy=>by
  rcases hy with hy|hy
  ·exact h8 _ hy.2.1 _ hy.2.2.1 hy.2.2.2
  ·exact hy.2.2.2.2 (h9 _ hy.2.2.1 hy.2.2.2.1)
theorem yy9{w:World}{M:Nat}{u:UD}{f x:Nat}(hf:f<u.n)(hx:x<(u.fn f).nn)(h:je w M u f x)(hk:¬lI (((u.fn f).nd x).r 0) u.n):je w M u f (x+1):=(World.rowIs.congr h fun i hi=>by
 have e:tJ u f (x+1) i↔tJ u f x i:=by
  rw[NV hf hx];exact⟨fun h=>h.elim id fun h=>absurd (⟨by omega,by omega⟩:lI (((u.fn f).nd x).r 0) u.n) hk,.inl⟩
 by_cases c:tJ u f x i
 ·rw[pU c,pU (e.2 c)]
 ·rw[q30 c,q30 fun c'=>c (e.1 c')])
theorem qr6(L:Nat)(u:UD)(a:Option Addr)(cap:Nat)(fas:Nat->FA)(w:World)(hs:u.sm)(h3:U3 u)(hT:jh L w u.n u.fn a fas):Calls Tryz.prog 83 #[vN u a cap] w fun e w'=>iG (z21 u) w e w':=by
 have HT:Hid (jh L w u.n u.fn a fas):=hT;have HS:Hid u.sm:=hs;have H3:Hid (U3 u):=h3;have hun:=h3.size.2.1;have a06:=h3.size.1;obtain⟨b,off,e0,_,hb,_⟩:=jZ hT.1 (show 0<u.n from h3.size.1);subst e0;clear hT hs h3;have hmk:=fun v=>run_make_row' (P:=Tryz.prog) 218 4 (.bool false) 1 Tryz.underlying218 Zk rfl .i64 .i64 u.n (by omega) (by omega) v;go_in;go_wp2_with fail;clear hmk;obtain⟨w3,fV⟩:∃w3,w3=(jG w u (some ⟨b,off,none⟩) cap).alloc (.cells (madeCells #[.bool false] u.n) 4):=⟨_,rfl⟩;have HBm:Hid (Below (jG w u (some ⟨b,off,none⟩) cap).heap.size (jG w u (some ⟨b,off,none⟩) cap) w3):=by show Below _ _ _;rw[fV];exact q01 _ _
 have HR3:Hid (je w3 (w.heap.size+1 + 1) u 0 0):=by
  show World.rowIs _ _ _ _ _;rw[fV];exact(NG _ _ _ (by simp)).congr fun i _=>by rw[q30 ya9]
 simp only[jG] at fV;rw[<-fV];clear fV;have hfm:(jG w u (some ⟨b,off,none⟩) cap).heap.size<=w.heap.size+1 + 1:=by simp
 have hm3:w.heap.size+1 + 1<w3.heap.size:=World.rowIs.lt HR3.out
 go_loopw [16] (fun i wr=>∃(k:Nat),k<=u.n/\i=.int .i64 k/\Hid (∀f',f'<k->∀n',n'<(u.fn f').nn->¬yU u f' n')/\Hid (Below (w.heap.size+1 + 1) w3 wr)/\Hid (je wr (w.heap.size+1 + 1) u k 0)) (fun i _=>u.n-(intOf i).toNat)
 case atStart=>exact⟨0,aF _,rfl,fun f' hf'=>by omega,ay _ _,HR3⟩
 case round=>
  clear HR3;obtain⟨k,hk,rfl,H8,HW,HM⟩:=hrel;have HB:Hid (Below (jG w u (some ⟨b,off,none⟩) cap).heap.size (jG w u (some ⟨b,off,none⟩) cap) wr):=HBm.trans (HW.mono hfm);by_cases fE:k<u.n
  ·have pI:Hid (jh L wr u.n u.fn (some ⟨b,off,none⟩) fas):=HT.below (nO HB.out);obtain⟨b',off',e0,_,hbz,d0,d1,d2,d3,d4,d5,d6⟩:=jZ pI.1 fE;obtain⟨rfl,rfl⟩:b=b'/\off=off':=by simpa using e0
   clear e0;have hnn:=H3.nn fE;have hMw:w.heap.size+1 + 1<wr.heap.size:=aH hm3 HW.size
   rename World=>wa
   go_wp2_with fail;clear d0 d1 d2 d3 d4 d5 d6;have HW1:Hid (Below (w.heap.size+1 + 1) w3 (wa.alloc (.cells (qG (u.fn k) (fas k)) 95))):=HW.alloc (by omega) _;have AZ:Hid (je (wa.alloc (.cells (qG (u.fn k) (fas k)) 95)) (w.heap.size+1 + 1) u k 0):=HM.below (q01 _ _);clear HB pI HW HM
   go_loopw [24] (fun i wr=>∃(m:Nat),m<=(u.fn k).nn/\i=.int .i64 m/\Hid (∀n',n'<m->¬yU u k n')/\Hid (Below (w.heap.size+1 + 1) w3 wr)/\Hid (je wr (w.heap.size+1 + 1) u k m)) (fun i _=>(u.fn k).nn-(intOf i).toNat)
   case atStart=>exact⟨0,aF _,rfl,fun f' hf'=>by omega,HW1,AZ⟩
   case round=>
    clear HW1 AZ;obtain⟨m,hm,rfl,HN,HW,HM⟩:=hrel;have HB:Hid (Below (jG w u (some ⟨b,off,none⟩) cap).heap.size (jG w u (some ⟨b,off,none⟩) cap) wr):=HBm.trans (HW.mono hfm);by_cases hmn:m<(u.fn k).nn
    ·have pI:Hid (jh L wr u.n u.fn (some ⟨b,off,none⟩) fas):=HT.below (nO HB.out);have a0d:w.heap.size+1 + 1<wr.heap.size:=World.rowIs.lt HM.out;obtain⟨b2,o2,e2,_,eG,g0,g1,g2,g3,g4,g5,g6,g7⟩:=jU (pI.2 k fE).2.2.1 hmn;rw[e2];clear e2;have LX:Hid (Below (w.heap.size+1 + 1) w3 (wr.alloc (.cells (kQ ((u.fn k).nd m) ((fas k).nas m)) 48))):=HW.alloc (by omega) _;have s0:=(q22 HB.out).cell (i:=0) (by omega);have s1:=(q22 HB.out).cell (i:=1) (by omega);have s2:=(q22 HB.out).cell (i:=2) (by omega);have sz:=(q22 HB.out).frozen;have hrz:w.heap.size+1<wr.heap.size:=(q22 HB.out).lt;by_cases GN:((u.fn k).nd m).k=36
     ·have q36:(((u.fn k).nd m).k != 36)=false:=by rw[GN];rfl
      have hrn:=(H3.facts fE hmn).one (.inr (.inr (.inl GN)));obtain⟨b3,o3,e3,_,eH,r0⟩:=jd ((pI.2 k fE).2.2.2 m hmn).1 (show 0<((u.fn k).nd m).rn by omega);rw[e3,hrn] at g6;rw[Nat.add_zero] at r0;have gI:kQ ((u.fn k).nd m) ((fas k).nas m)=MQ ((u.fn k).nd m) (some ⟨b3,o3,none⟩) 1 ((fas k).nas m):=by
       show #[_,_,_,_,_,_,_,_] = #[_,_,_,_,_,_,_,_];rw[e3,hrn]
      have HCL:Hid (kQ ((u.fn k).nd m) ((fas k).nas m)=MQ ((u.fn k).nd m) (some ⟨b3,o3,none⟩) 1 ((fas k).nas m)):=gI;clear gI hrn e3;have H36:Hid (((u.fn k).nd m).k=36):=GN;clear GN;by_cases hin:lI (((u.fn k).nd m).r 0) u.n
      ·obtain⟨g,hg⟩:∃g:Nat,((u.fn k).nd m).r 0=g:=⟨(((u.fn k).nd m).r 0).toNat,by have:=hin.1;omega⟩;have hgn:g<u.n:=by have:=hin.2;omega
       have HI:Hid (lI (((u.fn k).nd m).r 0) u.n):=hin;have HG:Hid (((u.fn k).nd m).r 0=g):=hg;rw[hg] at r0;have hw:ou (g:Int) (u.n:Int)=true:=by unfold ou;simp;omega
       clear hin hg;have m0:=World.rowIs.cell HM.out (i:=g) hgn;have mz:=World.rowIs.frozen HM.out;by_cases c2:tJ u k m g
       ·have HL:Hid (Least (z21 u) ⟨8,k,m⟩):=zm9 fE hmn H8.out HN.out ⟨H36.out,HI.out,by rw[HG.out];exact c2⟩;rw[pU c2] at m0;clear c2;go_wp2_with (go_at_call 141;refine(rJ _ _ _).mono ?_;rw[hw];rintro e w1 ⟨rfl,rfl⟩);refine aG (v:=nC ⟨8,k,m⟩) (by simp[results,Tryz.results83,go_sem,s0,s1,s2,hrz]) rfl ?_;exact iG.of HL (jo (qF (nO HB) _ _ _) _)
       ·have HT2:Hid (¬yU u k m):=fun h=>c2 (by have:=h.2.2;rw[HG.out] at this;exact this);rw[q30 c2] at m0;clear c2;have Qk:Hid (je ((wr.setCell ⟨w.heap.size+1 + 1,g,none⟩ (.bool true)).alloc (.cells (MQ ((u.fn k).nd m) (some ⟨b3,o3,none⟩) 1 ((fas k).nas m)) 48)) (w.heap.size+1 + 1) u k (m+1)):=(je.set fE hmn HM.out H36.out HG.out).below (q01 _ _);have HWs:Hid (Below (w.heap.size+1 + 1) w3 ((wr.setCell ⟨w.heap.size+1 + 1,g,none⟩ (.bool true)).alloc (.cells (MQ ((u.fn k).nd m) (some ⟨b3,o3,none⟩) 1 ((fas k).nas m)) 48))):=(og HW.out (ah _) _).alloc (by simp;omega) _;go_wp2_with (go_at_call 141;refine(rJ _ _ _).mono ?_;rw[hw];rintro e w1 ⟨rfl,rfl⟩);go_roundw
        case rel=>exact⟨m+1,by omega,by go_num,fun j hj=>by
         by_cases e:j=m
         ·subst e;exact HT2
         ·exact HN.out j (by omega),HWs,Qk⟩
        case measure=>simp[intOf];omega
      ·have hw:ou (((u.fn k).nd m).r 0) (u.n:Int)=false:=by unfold ou;unfold lI at hin;simp;omega
       have HT2:Hid (¬yU u k m):=fun h=>hin h.2.1;have Qk:Hid (je (wr.alloc (.cells (MQ ((u.fn k).nd m) (some ⟨b3,o3,none⟩) 1 ((fas k).nas m)) 48)) (w.heap.size+1 + 1) u k (m+1)):=(yy9 fE hmn HM.out hin).below (q01 _ _);rw[HCL.out] at LX;clear hin;go_wp2_with (go_at_call 141;refine(rJ _ _ _).mono ?_;rw[hw];rintro e w1 ⟨rfl,rfl⟩);go_roundw
       case rel=>exact⟨m+1,by omega,by go_num,fun j hj=>by
        by_cases e:j=m
        ·subst e;exact HT2
        ·exact HN.out j (by omega),LX,Qk⟩
       case measure=>simp[intOf];omega
     ·have q36:(((u.fn k).nd m).k != 36)=true:=by simpa using GN
      have HT2:Hid (¬yU u k m):=fun h=>GN h.1;have Qk:Hid (je (wr.alloc (.cells (kQ ((u.fn k).nd m) ((fas k).nas m)) 48)) (w.heap.size+1 + 1) u k (m+1)):=(HM.skip fE hmn GN).below (q01 _ _);clear GN;go_wp2_with fail;go_roundw
      case rel=>exact⟨m+1,by omega,by go_num,fun j hj=>by
       by_cases e:j=m
       ·subst e;exact HT2
       ·exact HN.out j (by omega),LX,Qk⟩
      case measure=>simp[intOf];omega
    ·obtain rfl:m=(u.fn k).nn:=by omega
     have wo:Hid (je wr (w.heap.size+1 + 1) u (k+1) 0):=HM.congr fun v=>zT.symm;go_wp2_with fail;go_roundw
     case rel=>exact⟨k+1,by omega,by go_num,fun j hj=>by
      by_cases e:j=k
      ·subst e;exact HN
      ·exact H8.out j (by omega),HW,wo⟩
     case measure=>simp[intOf];omega
  ·obtain rfl:k=u.n:=by omega
   have s0:=(q22 HB.out).cell (i:=0) (by omega);have s1:=(q22 HB.out).cell (i:=1) (by omega);have s2:=(q22 HB.out).cell (i:=2) (by omega);have sz:=(q22 HB.out).frozen;have hrz:w.heap.size+1<wr.heap.size:=(q22 HB.out).lt;have HC:Hid (∀i,i<u.n-1->wr.cell? ⟨w.heap.size+1 + 1,1+i,none⟩=some (.bool (dB (tJ u u.n 0 ((1+i:Nat):Int))))):=fun i hi=>World.rowIs.cell HM.out (i:=1+i) (by omega);have hsub:u.n-1<=1048576:=by omega
   have YX:Hid (∀f',f'<u.n->∀n',n'<(u.fn f').nn->¬yU u f' n'):=H8.out;by_cases h1n:u.n=1
   ·have HL:Hid (Least (z21 u) oI):=z35 YX.out fun f' a b=>by omega
    go_wp2_with fail;all_goals first
     |(refine(qq7 (w.heap.size+1 + 1) 0 0 0 (fun _=>true) wr (by omega) (fun i hi=>by omega)).mono ?_)
     |omega
    rintro e w1 ⟨⟨r,rfl,hr⟩,rfl⟩;rcases hr with⟨rfl,_⟩|⟨i,rfl,hin,_⟩
    ·go_wp2_with fail;refine aG (v:=nC oI) (by simp[results,Tryz.results83,go_sem,s0,s1,s2]) rfl ?_;exact iG.of HL (qF (nO HB) _ _ _)
    ·omega
   ·go_wp2_with fail;all_goals first
     |(refine(qq7 (w.heap.size+1 + 1) 1 (u.n-1) (u.n-1) (fun i=>dB (tJ u u.n 0 ((1+i:Nat):Int))) wr hsub HC.out).mono ?_)
     |omega
    rintro e w1 ⟨⟨r,rfl,hr⟩,rfl⟩;rcases hr with⟨rfl,ha⟩|⟨i,rfl,hin,hpi,hbe⟩
    ·have HL:Hid (Least (z21 u) oI):=z35 YX.out fun f' a b=>by
      have:dB (tJ u u.n 0 ((1+(f'-1):Nat):Int))=true:=ha (f'-1) (by omega);rw[show 1+(f'-1)=f' by omega] at this;exact rO.1 (C9.1 this)
     clear ha;go_wp2_with fail;refine aG (v:=nC oI) (by simp[results,Tryz.results83,go_sem,s0,s1,s2]) rfl ?_;exact iG.of HL (qF (nO HB) _ _ _)
    ·have HL:Hid (Least (z21 u) ⟨9,1+i,0⟩):=zz7 (by omega) (by omega) YX.out (fun f' a b=>by
      have:dB (tJ u u.n 0 ((1+(f'-1):Nat):Int))=true:=hbe (f'-1) (by omega);rw[show 1+(f'-1)=f' by omega] at this;exact rO.1 (C9.1 this)) (fun h=>by
      have hpj:dB (tJ u u.n 0 ((1+i:Nat):Int))=false:=hpi;rw[pU (rO.2 h)] at hpj
      cases hpj)
     clear hbe hpi;go_wp2_with fail;refine aG (v:=nC ⟨9,1+i,0⟩) (by simp[results,Tryz.results83,go_sem,s0,s1,s2];omega) rfl ?_;exact iG.of HL (qF (nO HB) _ _ _)
end
end Go.Proofs.YthnkncpegihbhaaGreatDoor
