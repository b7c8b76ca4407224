import Derived.Test.YtaimofjekgnieaaGreatDoorPlain
set_option maxRecDepth 100000
set_option maxHeartbeats 16000000
namespace Go.Proofs.YtaimofjekgnieaaGreatDoor
open Go.RowKit
attribute [local go_sem] q00
theorem qn9 (n:Int) (w:World) :
  Calls Tryz.prog 278 #[.int .i64 n] w fun e w'=>e=.returned (vOf 2 n 0 ⟨#[]⟩ 0)/\Below w.heap.size w w':=by
 go_enter Tryz.func278,Tryz.ntmps278;go_wp2
 exact bodyPost_ret (v:=vOf 2 n 0 ⟨#[]⟩ 0) (by simp[results,Tryz.results278,go_sem]) rfl ⟨rfl,q01 _ _⟩
theorem zn6 (s:ByteArray) (w:World) :
  Calls Tryz.prog 81 #[.string s] w fun e w'=>e=.returned (vOf 4 0 0 s 0)/\Below w.heap.size w w':=by
 go_enter Tryz.func81,Tryz.ntmps81;go_wp2
 exact bodyPost_ret (v:=vOf 4 0 0 s 0) (by simp[results,Tryz.results81,go_sem]) rfl ⟨rfl,q01 _ _⟩
theorem q35 (k n:Int) (f:Nat) (s:ByteArray) (r:Int) (w:World) :
  Calls Tryz.prog 149 #[vOf k n f s r] w fun e w'=>e=.returned (.bool (ueB k n f s r))/\Below w.heap.size w w':=by
 by_cases c1:k=1
 ·subst c1;go_enter Tryz.func149,Tryz.ntmps149;go_wp2
  all_goals (go_ret;exact ⟨q06 (by simp_all [ueB,fz,se]),(Below.refl _ _).alloc (Nat.le_refl _) _⟩)
 by_cases c2:k=2
 ·subst c2;go_enter Tryz.func149,Tryz.ntmps149;go_wp2
  all_goals (go_ret;exact ⟨q06 (by simp_all [ueB,fz,se]),(Below.refl _ _).alloc (Nat.le_refl _) _⟩)
 by_cases c8:k=8
 ·subst c8;go_enter Tryz.func149,Tryz.ntmps149;go_wp2
  all_goals (go_ret;exact ⟨q06 (by simp_all [ueB,fz,se]),(Below.refl _ _).alloc (Nat.le_refl _) _⟩)
 by_cases c3:k=3
 ·subst c3;have z0:=order00
  go_enter Tryz.func149,Tryz.ntmps149;go_wp2
  all_goals (go_ret;exact ⟨q06 (by simp_all [ueB,se]),(Below.refl _ _).alloc (Nat.le_refl _) _⟩)
 by_cases c4:k=4
 ·subst c4;go_enter Tryz.func149,Tryz.ntmps149;go_wp2
  all_goals (go_ret;exact ⟨q06 (by simp_all [ueB,fz]),(Below.refl _ _).alloc (Nat.le_refl _) _⟩)
 by_cases c5:k=5
 ·subst c5;go_enter Tryz.func149,Tryz.ntmps149;go_wp2
  all_goals (go_ret;exact ⟨q06 (by simp_all [ueB,fz,se]),(Below.refl _ _).alloc (Nat.le_refl _) _⟩)
 by_cases c6:k=6
 ·subst c6;go_enter Tryz.func149,Tryz.ntmps149;go_wp2
  all_goals (go_ret;exact ⟨q06 (by simp_all [ueB,fz,se]),(Below.refl _ _).alloc (Nat.le_refl _) _⟩)
 by_cases c7:k=7
 ·subst c7;go_enter Tryz.func149,Tryz.ntmps149;go_wp2
  all_goals (go_ret;exact ⟨q06 (by simp_all [ueB,fz,se]),(Below.refl _ _).alloc (Nat.le_refl _) _⟩)
 go_enter Tryz.func149,Tryz.ntmps149;go_wp2
 all_goals (go_ret;exact ⟨q06 (by simp_all [ueB,fz,se]),(Below.refl _ _).alloc (Nat.le_refl _) _⟩)
def thV (k n:Int) (f:Nat) (s:ByteArray) (r:Int):Value:=
 if k=0 then .iface 243 (.agg #[])
 else if k=1 then .iface 244 (.bool (n==1))
 else if k=2 then .iface 245 (.int .i64 n)
 else if k=3 then .iface 246 (.float .f64 f)
 else if k=4 then .iface 163 (.string s)
 else if k=8 then .iface 249 (.int .i64 n)
 else .iface 248 (.agg #[.int .i64 k,.int .i64 r])
def thW (k n:Int) (f:Nat) (s:ByteArray) (r:Int):Value:=if okB k n f s r then thV k n f s r else .nilIface
theorem y38 (k n:Int) (f:Nat) (s:ByteArray) (r:Int) (w:World) (h:ueB k n f s r=false) :
  Calls Tryz.prog 92 #[vOf k n f s r] w fun e w'=>e=.returned (thW k n f s r)/\Below w.heap.size w w':=by
 have e1:thW k n f s r=.nilIface:=by simp[thW,okB,h]
 rw[e1];clear e1
 go_enter Tryz.func92,Tryz.ntmps92
 go_wp2_with (go_at_call 149;refine (q35 _ _ _ _ _ _).mono ?_;rintro e w1 ⟨rfl,hb⟩;obtain ⟨hc,hf⟩:=bcell hb)
 go_ret
 exact ⟨rfl,q02 (q01 _ _) hb⟩
theorem yj1 (n:Int) (f:Nat) (s:ByteArray) (r:Int) (w:World) (h:ueB 0 n f s r=true) :
  Calls Tryz.prog 92 #[vOf 0 n f s r] w fun e w'=>e=.returned (.iface 243 (.agg #[]))/\Below w.heap.size w w':=by
 go_enter Tryz.func92,Tryz.ntmps92
 go_wp2_with (go_at_call 149;refine (q35 _ _ _ _ _ _).mono ?_;rintro e w1 ⟨rfl,hb⟩;obtain ⟨hc,hf⟩:=bcell hb)
 go_ret
 exact ⟨rfl,q02 (q01 _ _) hb⟩
theorem y40 (n:Int) (f:Nat) (s:ByteArray) (r:Int) (w:World) (h:ueB 1 n f s r=true) (hn:n=0) :
  Calls Tryz.prog 92 #[vOf 1 n f s r] w fun e w'=>e=.returned (.iface 244 (.bool false))/\Below w.heap.size w w':=by
 subst hn
 go_enter Tryz.func92,Tryz.ntmps92
 go_wp2_with (go_at_call 149;refine (q35 _ _ _ _ _ _).mono ?_;rintro e w1 ⟨rfl,hb⟩;obtain ⟨hc,hf⟩:=bcell hb)
 go_ret
 exact ⟨rfl,q02 (q01 _ _) hb⟩
theorem y39 (n:Int) (f:Nat) (s:ByteArray) (r:Int) (w:World) (h:ueB 1 n f s r=true) (hn:n=1) :
  Calls Tryz.prog 92 #[vOf 1 n f s r] w fun e w'=>e=.returned (.iface 244 (.bool true))/\Below w.heap.size w w':=by
 subst hn
 go_enter Tryz.func92,Tryz.ntmps92
 go_wp2_with (go_at_call 149;refine (q35 _ _ _ _ _ _).mono ?_;rintro e w1 ⟨rfl,hb⟩;obtain ⟨hc,hf⟩:=bcell hb)
 go_ret
 exact ⟨rfl,q02 (q01 _ _) hb⟩
theorem zt7 (n:Int) (f:Nat) (s:ByteArray) (r:Int) (w:World) (h:ueB 1 n f s r=true) (h0:n≠0) (h1:n≠1) :
  Calls Tryz.prog 92 #[vOf 1 n f s r] w fun e w'=>e=.returned .nilIface/\Below w.heap.size w w':=by
 have a0:(n==0)=false:=by simpa using h0
 have a1:(n==1)=false:=by simpa using h1
 go_enter Tryz.func92,Tryz.ntmps92
 go_wp2_with (go_at_call 149;refine (q35 _ _ _ _ _ _).mono ?_;rintro e w1 ⟨rfl,hb⟩;obtain ⟨hc,hf⟩:=bcell hb)
 go_ret
 exact ⟨rfl,q02 (q01 _ _) hb⟩
theorem yj2 (n:Int) (f:Nat) (s:ByteArray) (r:Int) (w:World) (h:ueB 2 n f s r=true) :
  Calls Tryz.prog 92 #[vOf 2 n f s r] w fun e w'=>e=.returned (.iface 245 (.int .i64 n))/\Below w.heap.size w w':=by
 go_enter Tryz.func92,Tryz.ntmps92
 go_wp2_with (go_at_call 149;refine (q35 _ _ _ _ _ _).mono ?_;rintro e w1 ⟨rfl,hb⟩;obtain ⟨hc,hf⟩:=bcell hb)
 go_ret
 exact ⟨rfl,q02 (q01 _ _) hb⟩
theorem yj3 (n:Int) (f:Nat) (s:ByteArray) (r:Int) (w:World) (h:ueB 3 n f s r=true) :
  Calls Tryz.prog 92 #[vOf 3 n f s r] w fun e w'=>e=.returned (.iface 246 (.float .f64 f))/\Below w.heap.size w w':=by
 go_enter Tryz.func92,Tryz.ntmps92
 go_wp2_with (go_at_call 149;refine (q35 _ _ _ _ _ _).mono ?_;rintro e w1 ⟨rfl,hb⟩;obtain ⟨hc,hf⟩:=bcell hb)
 go_ret
 exact ⟨rfl,q02 (q01 _ _) hb⟩
theorem yj0 (n:Int) (f:Nat) (s:ByteArray) (r:Int) (w:World) (h:ueB 4 n f s r=true) (hs:s.size<=4000) :
  Calls Tryz.prog 92 #[vOf 4 n f s r] w fun e w'=>e=.returned (.iface 163 (.string s))/\Below w.heap.size w w':=by
 go_enter Tryz.func92,Tryz.ntmps92
 go_wp2_with (go_at_call 149;refine (q35 _ _ _ _ _ _).mono ?_;rintro e w1 ⟨rfl,hb⟩;obtain ⟨hc,hf⟩:=bcell hb)
 go_ret
 exact ⟨rfl,q02 (q01 _ _) hb⟩
theorem y37 (n:Int) (f:Nat) (s:ByteArray) (r:Int) (w:World) (h:ueB 4 n f s r=true) (hs:4000<s.size) :
  Calls Tryz.prog 92 #[vOf 4 n f s r] w fun e w'=>e=.returned .nilIface/\Below w.heap.size w w':=by
 go_enter Tryz.func92,Tryz.ntmps92
 go_wp2_with (go_at_call 149;refine (q35 _ _ _ _ _ _).mono ?_;rintro e w1 ⟨rfl,hb⟩;obtain ⟨hc,hf⟩:=bcell hb)
 go_ret
 exact ⟨rfl,q02 (q01 _ _) hb⟩
theorem yc3 (n:Int) (f:Nat) (s:ByteArray) (r:Int) (w:World) (h:ueB 5 n f s r=true) (hr:0<=r) :
  Calls Tryz.prog 92 #[vOf 5 n f s r] w fun e w'=>e=.returned (.iface 248 (.agg #[.int .i64 5,.int .i64 r]))/\Below w.heap.size w w':=by
 go_enter Tryz.func92,Tryz.ntmps92
 go_wp2_with (go_at_call 149;refine (q35 _ _ _ _ _ _).mono ?_;rintro e w1 ⟨rfl,hb⟩;obtain ⟨hc,hf⟩:=bcell hb)
 go_ret
 exact ⟨rfl,q02 (q01 _ _) hb⟩
theorem zt6 (n:Int) (f:Nat) (s:ByteArray) (r:Int) (w:World) (h:ueB 5 n f s r=true) (hr:r<0) :
  Calls Tryz.prog 92 #[vOf 5 n f s r] w fun e w'=>e=.returned .nilIface/\Below w.heap.size w w':=by
 go_enter Tryz.func92,Tryz.ntmps92
 go_wp2_with (go_at_call 149;refine (q35 _ _ _ _ _ _).mono ?_;rintro e w1 ⟨rfl,hb⟩;obtain ⟨hc,hf⟩:=bcell hb)
 go_ret
 exact ⟨rfl,q02 (q01 _ _) hb⟩
theorem yc2 (n:Int) (f:Nat) (s:ByteArray) (r:Int) (w:World) (h:ueB 6 n f s r=true) (hr:0<=r) :
  Calls Tryz.prog 92 #[vOf 6 n f s r] w fun e w'=>e=.returned (.iface 248 (.agg #[.int .i64 6,.int .i64 r]))/\Below w.heap.size w w':=by
 go_enter Tryz.func92,Tryz.ntmps92
 go_wp2_with (go_at_call 149;refine (q35 _ _ _ _ _ _).mono ?_;rintro e w1 ⟨rfl,hb⟩;obtain ⟨hc,hf⟩:=bcell hb)
 go_ret
 exact ⟨rfl,q02 (q01 _ _) hb⟩
theorem zt5 (n:Int) (f:Nat) (s:ByteArray) (r:Int) (w:World) (h:ueB 6 n f s r=true) (hr:r<0) :
  Calls Tryz.prog 92 #[vOf 6 n f s r] w fun e w'=>e=.returned .nilIface/\Below w.heap.size w w':=by
 go_enter Tryz.func92,Tryz.ntmps92
 go_wp2_with (go_at_call 149;refine (q35 _ _ _ _ _ _).mono ?_;rintro e w1 ⟨rfl,hb⟩;obtain ⟨hc,hf⟩:=bcell hb)
 go_ret
 exact ⟨rfl,q02 (q01 _ _) hb⟩
theorem yc1 (n:Int) (f:Nat) (s:ByteArray) (r:Int) (w:World) (h:ueB 7 n f s r=true) (hr:0<=r) :
  Calls Tryz.prog 92 #[vOf 7 n f s r] w fun e w'=>e=.returned (.iface 248 (.agg #[.int .i64 7,.int .i64 r]))/\Below w.heap.size w w':=by
 go_enter Tryz.func92,Tryz.ntmps92
 go_wp2_with (go_at_call 149;refine (q35 _ _ _ _ _ _).mono ?_;rintro e w1 ⟨rfl,hb⟩;obtain ⟨hc,hf⟩:=bcell hb)
 go_ret
 exact ⟨rfl,q02 (q01 _ _) hb⟩
theorem zt4 (n:Int) (f:Nat) (s:ByteArray) (r:Int) (w:World) (h:ueB 7 n f s r=true) (hr:r<0) :
  Calls Tryz.prog 92 #[vOf 7 n f s r] w fun e w'=>e=.returned .nilIface/\Below w.heap.size w w':=by
 go_enter Tryz.func92,Tryz.ntmps92
 go_wp2_with (go_at_call 149;refine (q35 _ _ _ _ _ _).mono ?_;rintro e w1 ⟨rfl,hb⟩;obtain ⟨hc,hf⟩:=bcell hb)
 go_ret
 exact ⟨rfl,q02 (q01 _ _) hb⟩
theorem yj4 (n:Int) (f:Nat) (s:ByteArray) (r:Int) (w:World) (h:ueB 8 n f s r=true) (h0:0<=n) (h1:n<15) :
  Calls Tryz.prog 92 #[vOf 8 n f s r] w fun e w'=>e=.returned (.iface 249 (.int .i64 n))/\Below w.heap.size w w':=by
 go_enter Tryz.func92,Tryz.ntmps92
 go_wp2_with (go_at_call 149;refine (q35 _ _ _ _ _ _).mono ?_;rintro e w1 ⟨rfl,hb⟩;obtain ⟨hc,hf⟩:=bcell hb)
 go_ret
 exact ⟨rfl,q02 (q01 _ _) hb⟩
theorem y41 (n:Int) (f:Nat) (s:ByteArray) (r:Int) (w:World) (h:ueB 8 n f s r=true) (h0:n<0) :
  Calls Tryz.prog 92 #[vOf 8 n f s r] w fun e w'=>e=.returned .nilIface/\Below w.heap.size w w':=by
 go_enter Tryz.func92,Tryz.ntmps92
 go_wp2_with (go_at_call 149;refine (q35 _ _ _ _ _ _).mono ?_;rintro e w1 ⟨rfl,hb⟩;obtain ⟨hc,hf⟩:=bcell hb)
 go_ret
 exact ⟨rfl,q02 (q01 _ _) hb⟩
theorem y42 (n:Int) (f:Nat) (s:ByteArray) (r:Int) (w:World) (h:ueB 8 n f s r=true) (h0:0<=n) (h1:15<=n) :
  Calls Tryz.prog 92 #[vOf 8 n f s r] w fun e w'=>e=.returned .nilIface/\Below w.heap.size w w':=by
 go_enter Tryz.func92,Tryz.ntmps92
 go_wp2_with (go_at_call 149;refine (q35 _ _ _ _ _ _).mono ?_;rintro e w1 ⟨rfl,hb⟩;obtain ⟨hc,hf⟩:=bcell hb)
 go_ret
 exact ⟨rfl,q02 (q01 _ _) hb⟩
theorem yc4 (k n:Int) (f:Nat) (s:ByteArray) (r:Int) (w:World) (h:ueB k n f s r=true) (hk:k<0\/8<k) :
  Calls Tryz.prog 92 #[vOf k n f s r] w fun e w'=>e=.returned .nilIface/\Below w.heap.size w w':=by
 have a0:(k==0)=false:=by simp;omega
 have a1:(k==1)=false:=by simp;omega
 have a2:(k==2)=false:=by simp;omega
 have a3:(k==3)=false:=by simp;omega
 have a4:(k==4)=false:=by simp;omega
 have a5:(k==5)=false:=by simp;omega
 have a6:(k==6)=false:=by simp;omega
 have a7:(k==7)=false:=by simp;omega
 have a8:(k==8)=false:=by simp;omega
 clear hk
 go_enter Tryz.func92,Tryz.ntmps92
 go_wp2_with (go_at_call 149;refine (q35 _ _ _ _ _ _).mono ?_;rintro e w1 ⟨rfl,hb⟩;obtain ⟨hc,hf⟩:=bcell hb)
 go_ret
 exact ⟨rfl,q02 (q01 _ _) hb⟩
theorem qz0 (k n:Int) (f:Nat) (s:ByteArray) (r:Int) (w:World) :
  Calls Tryz.prog 92 #[vOf k n f s r] w fun e w'=>e=.returned (thW k n f s r)/\Below w.heap.size w w':=by
 cases h:ueB k n f s r
 ·exact y38 k n f s r w h
 by_cases hk:k<0\/8<k
 ·have e:thW k n f s r=.nilIface:=by
   have a:usB k n s r=false:=by
    unfold usB
    rw[if_neg (by omega),if_neg (by omega),if_neg (by omega),if_neg (by omega),if_neg (by omega),if_neg (by omega),if_neg (by omega)]
   simp[thW,okB,a]
  rw[e];exact yc4 k n f s r w h hk
 have hk':k=0\/k=1\/k=2\/k=3\/k=4\/k=5\/k=6\/k=7\/k=8:=by omega
 rcases hk' with rfl|rfl|rfl|rfl|rfl|rfl|rfl|rfl|rfl
 ·rw[show thW 0 n f s r=.iface 243 (.agg #[]) by simp[thW,thV,okB,usB,h]];exact yj1 n f s r w h
 ·by_cases h0:n=0
  ·rw[show thW 1 n f s r=.iface 244 (.bool false) by subst h0;simp[thW,thV,okB,usB,h]];exact y40 n f s r w h h0
  by_cases h1:n=1
  ·rw[show thW 1 n f s r=.iface 244 (.bool true) by subst h1;simp[thW,thV,okB,usB,h]];exact y39 n f s r w h h1
  rw[show thW 1 n f s r=.nilIface by simp[thW,okB,usB,h0,h1]];exact zt7 n f s r w h h0 h1
 ·rw[show thW 2 n f s r=.iface 245 (.int .i64 n) by simp[thW,thV,okB,usB,h]];exact yj2 n f s r w h
 ·rw[show thW 3 n f s r=.iface 246 (.float .f64 f) by simp[thW,thV,okB,usB,h]];exact yj3 n f s r w h
 ·by_cases h0:(s.size:Int)<=4000
  ·rw[show thW 4 n f s r=.iface 163 (.string s) by simp[thW,thV,okB,usB,h,h0]];exact yj0 n f s r w h (by omega)
  rw[show thW 4 n f s r=.nilIface by simp[thW,okB,usB,h0]];exact y37 n f s r w h (by omega)
 ·by_cases h0:0<=r
  ·rw[show thW 5 n f s r=.iface 248 (.agg #[.int .i64 5,.int .i64 r]) by simp[thW,thV,okB,usB,h,h0]];exact yc3 n f s r w h h0
  rw[show thW 5 n f s r=.nilIface by simp[thW,okB,usB,h0]];exact zt6 n f s r w h (by omega)
 ·by_cases h0:0<=r
  ·rw[show thW 6 n f s r=.iface 248 (.agg #[.int .i64 6,.int .i64 r]) by simp[thW,thV,okB,usB,h,h0]];exact yc2 n f s r w h h0
  rw[show thW 6 n f s r=.nilIface by simp[thW,okB,usB,h0]];exact zt5 n f s r w h (by omega)
 ·by_cases h0:0<=r
  ·rw[show thW 7 n f s r=.iface 248 (.agg #[.int .i64 7,.int .i64 r]) by simp[thW,thV,okB,usB,h,h0]];exact yc1 n f s r w h h0
  rw[show thW 7 n f s r=.nilIface by simp[thW,okB,usB,h0]];exact zt4 n f s r w h (by omega)
 ·by_cases h0:0<=n
  ·by_cases h1:n<15
   ·rw[show thW 8 n f s r=.iface 249 (.int .i64 n) by simp[thW,thV,okB,usB,h,h0,h1]];exact yj4 n f s r w h h0 h1
   rw[show thW 8 n f s r=.nilIface by simp[thW,okB,usB,h1]];exact y42 n f s r w h h0 (by omega)
  rw[show thW 8 n f s r=.nilIface by simp[thW,okB,usB,h0]];exact y41 n f s r w h (by omega)
end Go.Proofs.YtaimofjekgnieaaGreatDoor
