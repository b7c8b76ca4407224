import Derived.Test.YtihnikeikhjndaaGreatDoorPlain
set_option maxRecDepth 100000
set_option maxHeartbeats 16000000
namespace Go.Proofs.YtihnikeikhjndaaGreatDoor
section
open Go.RowKit
attribute [local go_sem] aN
theorem y16(k n:Int)(f:Nat)(s:ByteArray)(r:Int)(w:World):Calls Tryz.prog 73 #[dI k n f s r,.bool false,.bool false,.bool false,.bool false] w fun e w'=>e=.returned (.bool (n==0 && fz f && se s && r==0))/\ah w w':=by
 go_in;go_wp2;all_goals(go_ret;exact⟨dh (by simp_all [fz,se]),q01 _ _⟩)
theorem OU(k n:Int)(f:Nat)(s:ByteArray)(r:Int)(w:World):Calls Tryz.prog 73 #[dI k n f s r,.bool true,.bool false,.bool false,.bool false] w fun e w'=>e=.returned (.bool (fz f && se s && r==0))/\ah w w':=by
 go_in;go_wp2;all_goals(go_ret;exact⟨dh (by simp_all [fz,se]),q01 _ _⟩)
theorem y15(k n:Int)(f:Nat)(s:ByteArray)(r:Int)(w:World):Calls Tryz.prog 73 #[dI k n f s r,.bool false,.bool true,.bool false,.bool false] w fun e w'=>e=.returned (.bool (n==0 && se s && r==0))/\ah w w':=by
 go_in;go_wp2;all_goals(go_ret;exact⟨dh (by simp_all [se]),q01 _ _⟩)
theorem y14(k n:Int)(f:Nat)(s:ByteArray)(r:Int)(w:World):Calls Tryz.prog 73 #[dI k n f s r,.bool false,.bool false,.bool true,.bool false] w fun e w'=>e=.returned (.bool (n==0 && fz f && r==0))/\ah w w':=by
 go_in;go_wp2;all_goals(go_ret;exact⟨dh (by simp_all [fz]),q01 _ _⟩)
theorem OV(k n:Int)(f:Nat)(s:ByteArray)(r:Int)(w:World):Calls Tryz.prog 73 #[dI k n f s r,.bool false,.bool false,.bool false,.bool true] w fun e w'=>e=.returned (.bool (n==0 && fz f && se s))/\ah w w':=by
 go_in;go_wp2;all_goals(go_ret;exact⟨dh (by simp_all [fz,se]),q01 _ _⟩)
theorem z50(k n:Int)(f:Nat)(s:ByteArray)(r:Int)(w:World):Calls Tryz.prog 34 #[dI k n f s r] w fun e w'=>e=.returned (.bool (okB k n f s r))/\ah w w':=by
 by_cases c0:k=0
 ·subst c0;go_in;go_wp2_with (go_at_call 73;refine(y16 _ _ _ _ _ _).mono ?_;rintro e w1 ⟨rfl,hb⟩;obtain⟨hc,hf⟩:=bY hb);all_goals(go_ret;exact⟨dh (by simp_all [okB,fU,iG]),aH (q01 _ _) hb⟩)
 by_cases c1:k=1
 ·subst c1;go_in;go_wp2_with (go_at_call 73;refine(OU _ _ _ _ _ _).mono ?_;rintro e w1 ⟨rfl,hb⟩;obtain⟨hc,hf⟩:=bY hb);all_goals(go_ret;exact⟨dh (by simp_all [okB,fU,iG]),aH (q01 _ _) hb⟩)
 by_cases c2:k=2
 ·subst c2;go_in;go_wp2_with (go_at_call 73;refine(OU _ _ _ _ _ _).mono ?_;rintro e w1 ⟨rfl,hb⟩;obtain⟨hc,hf⟩:=bY hb);all_goals(go_ret;exact⟨dh (by simp_all [okB,fU,iG]),aH (q01 _ _) hb⟩)
 by_cases c3:k=3
 ·subst c3;go_in;go_wp2_with (go_at_call 73;refine(y15 _ _ _ _ _ _).mono ?_;rintro e w1 ⟨rfl,hb⟩;obtain⟨hc,hf⟩:=bY hb);all_goals(go_ret;exact⟨dh (by simp_all [okB,fU,iG]),aH (q01 _ _) hb⟩)
 by_cases c4:k=4
 ·subst c4;go_in;go_wp2_with (go_at_call 73;refine(y14 _ _ _ _ _ _).mono ?_;rintro e w1 ⟨rfl,hb⟩;obtain⟨hc,hf⟩:=bY hb);all_goals(go_ret;exact⟨dh (by simp_all [okB,fU,iG]),aH (q01 _ _) hb⟩)
 by_cases c5:k=5
 ·subst c5;go_in;go_wp2_with (go_at_call 73;refine(OV _ _ _ _ _ _).mono ?_;rintro e w1 ⟨rfl,hb⟩;obtain⟨hc,hf⟩:=bY hb);all_goals(go_ret;exact⟨dh (by simp_all [okB,fU,iG]),aH (q01 _ _) hb⟩)
 by_cases c6:k=6
 ·subst c6;go_in;go_wp2_with (go_at_call 73;refine(OV _ _ _ _ _ _).mono ?_;rintro e w1 ⟨rfl,hb⟩;obtain⟨hc,hf⟩:=bY hb);all_goals(go_ret;exact⟨dh (by simp_all [okB,fU,iG]),aH (q01 _ _) hb⟩)
 by_cases c7:k=7
 ·subst c7;go_in;go_wp2_with (go_at_call 73;refine(OV _ _ _ _ _ _).mono ?_;rintro e w1 ⟨rfl,hb⟩;obtain⟨hc,hf⟩:=bY hb);all_goals(go_ret;exact⟨dh (by simp_all [okB,fU,iG]),aH (q01 _ _) hb⟩)
 by_cases c8:k=8
 ·subst c8;go_in;go_wp2_with (go_at_call 73;refine(OU _ _ _ _ _ _).mono ?_;rintro e w1 ⟨rfl,hb⟩;obtain⟨hc,hf⟩:=bY hb);all_goals(go_ret;exact⟨dh (by simp_all [okB,fU,iG]<;>omega),aH (q01 _ _) hb⟩)
 have e1:okB k n f s r=false:=by
  have a:iG k n s r=false:=by
   unfold iG;rw[if_neg (by omega),if_neg (by omega),if_neg (by omega),if_neg (by omega),if_neg (by omega),if_neg (by omega),if_neg (by omega)]
  simp[okB,a]
 rw[e1];clear e1;have a0:(k==0)=false:=by simpa using c0
 have a1:(k==1)=false:=by simpa using c1
 have a2:(k==2)=false:=by simpa using c2
 have a3:(k==3)=false:=by simpa using c3
 have a4:(k==4)=false:=by simpa using c4
 have a5:(k==5)=false:=by simpa using c5
 have a6:(k==6)=false:=by simpa using c6
 have a7:(k==7)=false:=by simpa using c7
 have a8:(k==8)=false:=by simpa using c8
 clear c0 c1 c2 c3 c4 c5 c6 c7 c8;go_in;go_wp2;go_ret;exact⟨rfl,q01 _ _⟩
end
end Go.Proofs.YtihnikeikhjndaaGreatDoor
