import Derived.Test.YtihnikeikhjndaaGreatDoorPlain
set_option maxRecDepth 100000
set_option maxHeartbeats 16000000
namespace Go.Proofs.YtihnikeikhjndaaGreatDoor
section
open Go.RowKit
attribute [local go_sem] aN
theorem oh(k n:Int)(f:Nat)(s:ByteArray)(r:Int)(w:World):Calls Tryz.prog 156 #[dI k n f s r] w fun e w'=>e=.returned (.bool (fU k n f s r))/\ah w w':=by
 by_cases c1:k=1
 ·subst c1;go_in;go_wp2;all_goals(go_ret;exact⟨dh (by simp_all [fU,fz,se]),(Below.refl _ _).alloc (Nat.le_refl _) _⟩)
 by_cases c2:k=2
 ·subst c2;go_in;go_wp2;all_goals(go_ret;exact⟨dh (by simp_all [fU,fz,se]),(Below.refl _ _).alloc (Nat.le_refl _) _⟩)
 by_cases c8:k=8
 ·subst c8;go_in;go_wp2;all_goals(go_ret;exact⟨dh (by simp_all [fU,fz,se]),(Below.refl _ _).alloc (Nat.le_refl _) _⟩)
 by_cases c3:k=3
 ·subst c3;have z0:=zH;go_in;go_wp2;all_goals(go_ret;exact⟨dh (by simp_all [fU,se]),(Below.refl _ _).alloc (Nat.le_refl _) _⟩)
 by_cases c4:k=4
 ·subst c4;go_in;go_wp2;all_goals(go_ret;exact⟨dh (by simp_all [fU,fz]),(Below.refl _ _).alloc (Nat.le_refl _) _⟩)
 by_cases c5:k=5
 ·subst c5;go_in;go_wp2;all_goals(go_ret;exact⟨dh (by simp_all [fU,fz,se]),(Below.refl _ _).alloc (Nat.le_refl _) _⟩)
 by_cases c6:k=6
 ·subst c6;go_in;go_wp2;all_goals(go_ret;exact⟨dh (by simp_all [fU,fz,se]),(Below.refl _ _).alloc (Nat.le_refl _) _⟩)
 by_cases c7:k=7
 ·subst c7;go_in;go_wp2;all_goals(go_ret;exact⟨dh (by simp_all [fU,fz,se]),(Below.refl _ _).alloc (Nat.le_refl _) _⟩)
 go_in;go_wp2;all_goals(go_ret;exact⟨dh (by simp_all [fU,fz,se]),(Below.refl _ _).alloc (Nat.le_refl _) _⟩)
def sH(k n:Int)(f:Nat)(s:ByteArray)(r:Int):Value:=
 if k=0 then .iface 247 (.agg #[])
 else if k=1 then .iface 248 (.bool (n==1))
 else if k=2 then .iface 249 (.int .i64 n)
 else if k=3 then .iface 250 (.float .f64 f)
 else if k=4 then .iface 169 (.string s)
 else if k=8 then .iface 253 (.int .i64 n)
 else .iface 252 (.agg #[.int .i64 k,.int .i64 r])
def fV(k n:Int)(f:Nat)(s:ByteArray)(r:Int):Value:=if okB k n f s r then sH k n f s r else .nilIface
theorem y24(k n:Int)(f:Nat)(s:ByteArray)(r:Int)(w:World)(h:fU k n f s r=false):Calls Tryz.prog 98 #[dI k n f s r] w fun e w'=>e=.returned (fV k n f s r)/\ah w w':=by
 have e1:fV k n f s r=.nilIface:=by simp[fV,okB,h]
 rw[e1];clear e1;go_in;go_wp2_with (go_at_call 156;refine(oh _ _ _ _ _ _).mono ?_;rintro e w1 ⟨rfl,hb⟩;obtain⟨hc,hf⟩:=bY hb);go_ret;exact⟨rfl,aH (q01 _ _) hb⟩
theorem yi6(n:Int)(f:Nat)(s:ByteArray)(r:Int)(w:World)(h:fU 0 n f s r=true):Calls Tryz.prog 98 #[dI 0 n f s r] w fun e w'=>e=.returned (.iface 247 (.agg #[]))/\ah w w':=by
 go_in;go_wp2_with (go_at_call 156;refine(oh _ _ _ _ _ _).mono ?_;rintro e w1 ⟨rfl,hb⟩;obtain⟨hc,hf⟩:=bY hb);go_ret;exact⟨rfl,aH (q01 _ _) hb⟩
theorem y26(n:Int)(f:Nat)(s:ByteArray)(r:Int)(w:World)(h:fU 1 n f s r=true)(hn:n=0):Calls Tryz.prog 98 #[dI 1 n f s r] w fun e w'=>e=.returned (.iface 248 (.bool false))/\ah w w':=by
 subst hn;go_in;go_wp2_with (go_at_call 156;refine(oh _ _ _ _ _ _).mono ?_;rintro e w1 ⟨rfl,hb⟩;obtain⟨hc,hf⟩:=bY hb);go_ret;exact⟨rfl,aH (q01 _ _) hb⟩
theorem y25(n:Int)(f:Nat)(s:ByteArray)(r:Int)(w:World)(h:fU 1 n f s r=true)(hn:n=1):Calls Tryz.prog 98 #[dI 1 n f s r] w fun e w'=>e=.returned (.iface 248 (.bool true))/\ah w w':=by
 subst hn;go_in;go_wp2_with (go_at_call 156;refine(oh _ _ _ _ _ _).mono ?_;rintro e w1 ⟨rfl,hb⟩;obtain⟨hc,hf⟩:=bY hb);go_ret;exact⟨rfl,aH (q01 _ _) hb⟩
theorem zq9(n:Int)(f:Nat)(s:ByteArray)(r:Int)(w:World)(h:fU 1 n f s r=true)(h0:n≠0)(h1:n≠1):Calls Tryz.prog 98 #[dI 1 n f s r] w fun e w'=>e=.returned .nilIface/\ah w w':=by
 have a0:(n==0)=false:=by simpa using h0
 have a1:(n==1)=false:=by simpa using h1
 go_in;go_wp2_with (go_at_call 156;refine(oh _ _ _ _ _ _).mono ?_;rintro e w1 ⟨rfl,hb⟩;obtain⟨hc,hf⟩:=bY hb);go_ret;exact⟨rfl,aH (q01 _ _) hb⟩
theorem yi7(n:Int)(f:Nat)(s:ByteArray)(r:Int)(w:World)(h:fU 2 n f s r=true):Calls Tryz.prog 98 #[dI 2 n f s r] w fun e w'=>e=.returned (.iface 249 (.int .i64 n))/\ah w w':=by
 go_in;go_wp2_with (go_at_call 156;refine(oh _ _ _ _ _ _).mono ?_;rintro e w1 ⟨rfl,hb⟩;obtain⟨hc,hf⟩:=bY hb);go_ret;exact⟨rfl,aH (q01 _ _) hb⟩
theorem yi8(n:Int)(f:Nat)(s:ByteArray)(r:Int)(w:World)(h:fU 3 n f s r=true):Calls Tryz.prog 98 #[dI 3 n f s r] w fun e w'=>e=.returned (.iface 250 (.float .f64 f))/\ah w w':=by
 go_in;go_wp2_with (go_at_call 156;refine(oh _ _ _ _ _ _).mono ?_;rintro e w1 ⟨rfl,hb⟩;obtain⟨hc,hf⟩:=bY hb);go_ret;exact⟨rfl,aH (q01 _ _) hb⟩
theorem yi5(n:Int)(f:Nat)(s:ByteArray)(r:Int)(w:World)(h:fU 4 n f s r=true)(hs:s.size<=4000):Calls Tryz.prog 98 #[dI 4 n f s r] w fun e w'=>e=.returned (.iface 169 (.string s))/\ah w w':=by
 go_in;go_wp2_with (go_at_call 156;refine(oh _ _ _ _ _ _).mono ?_;rintro e w1 ⟨rfl,hb⟩;obtain⟨hc,hf⟩:=bY hb);go_ret;exact⟨rfl,aH (q01 _ _) hb⟩
theorem y23(n:Int)(f:Nat)(s:ByteArray)(r:Int)(w:World)(h:fU 4 n f s r=true)(hs:4000<s.size):Calls Tryz.prog 98 #[dI 4 n f s r] w fun e w'=>e=.returned .nilIface/\ah w w':=by
 go_in;go_wp2_with (go_at_call 156;refine(oh _ _ _ _ _ _).mono ?_;rintro e w1 ⟨rfl,hb⟩;obtain⟨hc,hf⟩:=bY hb);go_ret;exact⟨rfl,aH (q01 _ _) hb⟩
theorem yb7(n:Int)(f:Nat)(s:ByteArray)(r:Int)(w:World)(h:fU 5 n f s r=true)(hr:0<=r):Calls Tryz.prog 98 #[dI 5 n f s r] w fun e w'=>e=.returned (.iface 252 (.agg #[.int .i64 5,.int .i64 r]))/\ah w w':=by
 go_in;go_wp2_with (go_at_call 156;refine(oh _ _ _ _ _ _).mono ?_;rintro e w1 ⟨rfl,hb⟩;obtain⟨hc,hf⟩:=bY hb);go_ret;exact⟨rfl,aH (q01 _ _) hb⟩
theorem zq8(n:Int)(f:Nat)(s:ByteArray)(r:Int)(w:World)(h:fU 5 n f s r=true)(hr:r<0):Calls Tryz.prog 98 #[dI 5 n f s r] w fun e w'=>e=.returned .nilIface/\ah w w':=by
 go_in;go_wp2_with (go_at_call 156;refine(oh _ _ _ _ _ _).mono ?_;rintro e w1 ⟨rfl,hb⟩;obtain⟨hc,hf⟩:=bY hb);go_ret;exact⟨rfl,aH (q01 _ _) hb⟩
theorem yb6(n:Int)(f:Nat)(s:ByteArray)(r:Int)(w:World)(h:fU 6 n f s r=true)(hr:0<=r):Calls Tryz.prog 98 #[dI 6 n f s r] w fun e w'=>e=.returned (.iface 252 (.agg #[.int .i64 6,.int .i64 r]))/\ah w w':=by
 go_in;go_wp2_with (go_at_call 156;refine(oh _ _ _ _ _ _).mono ?_;rintro e w1 ⟨rfl,hb⟩;obtain⟨hc,hf⟩:=bY hb);go_ret;exact⟨rfl,aH (q01 _ _) hb⟩
theorem zq7(n:Int)(f:Nat)(s:ByteArray)(r:Int)(w:World)(h:fU 6 n f s r=true)(hr:r<0):Calls Tryz.prog 98 #[dI 6 n f s r] w fun e w'=>e=.returned .nilIface/\ah w w':=by
 go_in;go_wp2_with (go_at_call 156;refine(oh _ _ _ _ _ _).mono ?_;rintro e w1 ⟨rfl,hb⟩;obtain⟨hc,hf⟩:=bY hb);go_ret;exact⟨rfl,aH (q01 _ _) hb⟩
theorem yb5(n:Int)(f:Nat)(s:ByteArray)(r:Int)(w:World)(h:fU 7 n f s r=true)(hr:0<=r):Calls Tryz.prog 98 #[dI 7 n f s r] w fun e w'=>e=.returned (.iface 252 (.agg #[.int .i64 7,.int .i64 r]))/\ah w w':=by
 go_in;go_wp2_with (go_at_call 156;refine(oh _ _ _ _ _ _).mono ?_;rintro e w1 ⟨rfl,hb⟩;obtain⟨hc,hf⟩:=bY hb);go_ret;exact⟨rfl,aH (q01 _ _) hb⟩
theorem zq6(n:Int)(f:Nat)(s:ByteArray)(r:Int)(w:World)(h:fU 7 n f s r=true)(hr:r<0):Calls Tryz.prog 98 #[dI 7 n f s r] w fun e w'=>e=.returned .nilIface/\ah w w':=by
 go_in;go_wp2_with (go_at_call 156;refine(oh _ _ _ _ _ _).mono ?_;rintro e w1 ⟨rfl,hb⟩;obtain⟨hc,hf⟩:=bY hb);go_ret;exact⟨rfl,aH (q01 _ _) hb⟩
theorem yi9(n:Int)(f:Nat)(s:ByteArray)(r:Int)(w:World)(h:fU 8 n f s r=true)(h0:0<=n)(h1:n<15):Calls Tryz.prog 98 #[dI 8 n f s r] w fun e w'=>e=.returned (.iface 253 (.int .i64 n))/\ah w w':=by
 go_in;go_wp2_with (go_at_call 156;refine(oh _ _ _ _ _ _).mono ?_;rintro e w1 ⟨rfl,hb⟩;obtain⟨hc,hf⟩:=bY hb);go_ret;exact⟨rfl,aH (q01 _ _) hb⟩
theorem y27(n:Int)(f:Nat)(s:ByteArray)(r:Int)(w:World)(h:fU 8 n f s r=true)(h0:n<0):Calls Tryz.prog 98 #[dI 8 n f s r] w fun e w'=>e=.returned .nilIface/\ah w w':=by
 go_in;go_wp2_with (go_at_call 156;refine(oh _ _ _ _ _ _).mono ?_;rintro e w1 ⟨rfl,hb⟩;obtain⟨hc,hf⟩:=bY hb);go_ret;exact⟨rfl,aH (q01 _ _) hb⟩
theorem y28(n:Int)(f:Nat)(s:ByteArray)(r:Int)(w:World)(h:fU 8 n f s r=true)(h0:0<=n)(h1:15<=n):Calls Tryz.prog 98 #[dI 8 n f s r] w fun e w'=>e=.returned .nilIface/\ah w w':=by
 go_in;go_wp2_with (go_at_call 156;refine(oh _ _ _ _ _ _).mono ?_;rintro e w1 ⟨rfl,hb⟩;obtain⟨hc,hf⟩:=bY hb);go_ret;exact⟨rfl,aH (q01 _ _) hb⟩
theorem yb8(k n:Int)(f:Nat)(s:ByteArray)(r:Int)(w:World)(h:fU k n f s r=true)(hk:k<0\/8<k):Calls Tryz.prog 98 #[dI k n f s r] w fun e w'=>e=.returned .nilIface/\ah w w':=by
 have a0:(k==0)=false:=by simp;omega
 have a1:(k==1)=false:=by simp;omega
 have a2:(k==2)=false:=by simp;omega
 have a3:(k==3)=false:=by simp;omega
 have a4:(k==4)=false:=by simp;omega
 have a5:(k==5)=false:=by simp;omega
 have a6:(k==6)=false:=by simp;omega
 have a7:(k==7)=false:=by simp;omega
 have a8:(k==8)=false:=by simp;omega
 clear hk;go_in;go_wp2_with (go_at_call 156;refine(oh _ _ _ _ _ _).mono ?_;rintro e w1 ⟨rfl,hb⟩;obtain⟨hc,hf⟩:=bY hb);go_ret;exact⟨rfl,aH (q01 _ _) hb⟩
theorem OQ(k n:Int)(f:Nat)(s:ByteArray)(r:Int)(w:World):Calls Tryz.prog 98 #[dI k n f s r] w fun e w'=>e=.returned (fV k n f s r)/\ah w w':=by
 cases h:fU k n f s r
 ·exact y24 k n f s r w h
 by_cases hk:k<0\/8<k
 ·have e:fV k n f s r=.nilIface:=by
   have a:iG k n s r=false:=by
    unfold iG;rw[if_neg (by omega),if_neg (by omega),if_neg (by omega),if_neg (by omega),if_neg (by omega),if_neg (by omega),if_neg (by omega)]
   simp[fV,okB,a]
  rw[e];exact yb8 k n f s r w h hk
 have hk':k=0\/k=1\/k=2\/k=3\/k=4\/k=5\/k=6\/k=7\/k=8:=by omega
 rcases hk' with rfl|rfl|rfl|rfl|rfl|rfl|rfl|rfl|rfl
 ·rw[show fV 0 n f s r=.iface 247 (.agg #[]) by simp[fV,sH,okB,iG,h]];exact yi6 n f s r w h
 ·by_cases h0:n=0
  ·rw[show fV 1 n f s r=.iface 248 (.bool false) by subst h0;simp[fV,sH,okB,iG,h]];exact y26 n f s r w h h0
  by_cases h1:n=1
  ·rw[show fV 1 n f s r=.iface 248 (.bool true) by subst h1;simp[fV,sH,okB,iG,h]];exact y25 n f s r w h h1
  rw[show fV 1 n f s r=.nilIface by simp[fV,okB,iG,h0,h1]];exact zq9 n f s r w h h0 h1
 ·rw[show fV 2 n f s r=.iface 249 (.int .i64 n) by simp[fV,sH,okB,iG,h]];exact yi7 n f s r w h
 ·rw[show fV 3 n f s r=.iface 250 (.float .f64 f) by simp[fV,sH,okB,iG,h]];exact yi8 n f s r w h
 ·by_cases h0:(s.size:Int)<=4000
  ·rw[show fV 4 n f s r=.iface 169 (.string s) by simp[fV,sH,okB,iG,h,h0]];exact yi5 n f s r w h (by omega)
  rw[show fV 4 n f s r=.nilIface by simp[fV,okB,iG,h0]];exact y23 n f s r w h (by omega)
 ·by_cases h0:0<=r
  ·rw[show fV 5 n f s r=.iface 252 (.agg #[.int .i64 5,.int .i64 r]) by simp[fV,sH,okB,iG,h,h0]];exact yb7 n f s r w h h0
  rw[show fV 5 n f s r=.nilIface by simp[fV,okB,iG,h0]];exact zq8 n f s r w h (by omega)
 ·by_cases h0:0<=r
  ·rw[show fV 6 n f s r=.iface 252 (.agg #[.int .i64 6,.int .i64 r]) by simp[fV,sH,okB,iG,h,h0]];exact yb6 n f s r w h h0
  rw[show fV 6 n f s r=.nilIface by simp[fV,okB,iG,h0]];exact zq7 n f s r w h (by omega)
 ·by_cases h0:0<=r
  ·rw[show fV 7 n f s r=.iface 252 (.agg #[.int .i64 7,.int .i64 r]) by simp[fV,sH,okB,iG,h,h0]];exact yb5 n f s r w h h0
  rw[show fV 7 n f s r=.nilIface by simp[fV,okB,iG,h0]];exact zq6 n f s r w h (by omega)
 ·by_cases h0:0<=n
  ·by_cases h1:n<15
   ·rw[show fV 8 n f s r=.iface 253 (.int .i64 n) by simp[fV,sH,okB,iG,h,h0,h1]];exact yi9 n f s r w h h0 h1
   rw[show fV 8 n f s r=.nilIface by simp[fV,okB,iG,h1]];exact y28 n f s r w h h0 (by omega)
  rw[show fV 8 n f s r=.nilIface by simp[fV,okB,iG,h0]];exact y27 n f s r w h (by omega)
end
end Go.Proofs.YtihnikeikhjndaaGreatDoor
