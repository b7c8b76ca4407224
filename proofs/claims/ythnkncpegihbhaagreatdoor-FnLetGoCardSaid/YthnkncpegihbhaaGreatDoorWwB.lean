import Derived.Test.YthnkncpegihbhaaGreatDoorXcA
set_option maxRecDepth 100000
set_option maxHeartbeats 16000000
namespace Go.Proofs.YthnkncpegihbhaaGreatDoor
section
open Go.RowKit
attribute [local go_sem] iD
attribute [local go_sem ↓] Go.wp_at_zero Go.wp_at_succ
theorem y23(w:World):(callFunc 61 #[]).run Tryz.prog w=.ok (.value (.tuple #[])) w:=by
 rw[dS Tryz.func61 (by kernel_rfl) (by kernel_rfl) (by kernel_rfl) (show Extern.find Tryz.f61=some (fun _=>do mark .disable;pure (.tuple #[])) by kernel_rfl)];rfl
theorem yd6(w:World):(callFunc 63 #[]).run Tryz.prog w=.ok (.value (.tuple #[])) w:=by
 rw[dS Tryz.func63 (by kernel_rfl) (by kernel_rfl) (by kernel_rfl) (show Extern.find Tryz.f63=some (fun _=>do mark .enable;pure (.tuple #[])) by kernel_rfl)];rfl
theorem y24(a:Addr)(w:World):(callFunc 64 #[.pointer (some a)]).run Tryz.prog w=.ok (.value (.tuple #[])) w:=by
 rw[dS Tryz.func64 (by kernel_rfl) (by kernel_rfl) (by kernel_rfl) (show Extern.find Tryz.f64=some (Extern.Race.marked .acquire) by kernel_rfl)];rfl
theorem j05(a:Addr)(n:Int)(w:World)(h:w.cell? a=some (.int .u64 n)):(callFunc 98 #[.pointer (some a)]).run Tryz.prog w=.ok (.value (.int .u64 n)) w:=by
 rw[dS Tryz.func98 (by kernel_rfl) (by kernel_rfl) (by kernel_rfl) (show Extern.find Tryz.f98=some (Extern.Atomic.loadT (.int .u64)) by kernel_rfl)];change ((Sem.run Tryz.prog (asAddr (.pointer (some a)) >>= fun x=>Extern.Atomic.read (.int .u64) x) w)).andThen _=_;simp[Extern.Atomic.read,asAddr,h,go_sem]
theorem y09(M:Nat)(w:World)(h:w.cell? ⟨M,25,none⟩=some (.int .u64 0)):Calls Tryz.prog 62 #[.pointer (some ⟨M,25,none⟩)] w fun e w'=>e=.returned (.int .u64 0)/\w'=w:=by
 have x4:=j05 ⟨M,25,none⟩ 0 w h;go_in;go_wp2_with fail;go_ret;exact⟨rfl,rfl⟩
theorem zw9(M:Nat)(w:World)(h:w.cell? ⟨M,25,none⟩=some (.int .u64 0)):Calls Tryz.prog 30 #[.pointer (some ⟨M,25,none⟩)] w fun e w'=>e=.returned (.tuple #[])/\w'=w:=by
 have x1:=y23;have x2:=yd6;have x3:=y24;have xb:bits BinOp.and IntKind.u64 0 2147483647=0:=by decide
 have xb2:bits BinOp.and IntKind.u64 0 2147483648=0:=by decide
 have xc:=run_convert_to_unsafe (P:=Tryz.prog) (src:=140) (dst:=144) (t:=83) Tryz.underlying140 Tryz.underlying144 (by kernel_rfl) h;go_in;go_wp2_with fail
 go_loopw [2] (fun _ wr=>wr=w) (fun _ _=>0)
 case atStart=>exact rfl
 case round=>
  subst hrel;go_wp2_with fail;refine(y09 M _ h).mono ?_;rintro e w1 ⟨rfl,rfl⟩;go_wp2_with fail;exact aG (v:=.tuple #[]) (by simp[results,Tryz.results30,go_sem]) rfl ⟨rfl,rfl⟩
end
end Go.Proofs.YthnkncpegihbhaaGreatDoor
