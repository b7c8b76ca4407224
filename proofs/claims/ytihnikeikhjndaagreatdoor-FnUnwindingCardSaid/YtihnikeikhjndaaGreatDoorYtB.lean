import Derived.Test.YtihnikeikhjndaaGreatDoorYpH
set_option maxRecDepth 100000
set_option maxHeartbeats 16000000
namespace Go.Proofs.YtihnikeikhjndaaGreatDoor
section
open Go.RowKit
attribute [local go_sem] aN
attribute [local go_sem ↓] Go.wp_at_zero Go.wp_at_succ
theorem zn9(w:World):(callFunc 59 #[]).run Tryz.prog w=.ok (.value (.tuple #[])) w:=by
 rw[run_callFunc_extern Tryz.func59 (by kernel_rfl) (by kernel_rfl) (by kernel_rfl) (show Extern.find Tryz.f59=some (fun _=>do mark .disable;pure (.tuple #[])) by kernel_rfl)];rfl
theorem Zg(w:World):(callFunc 61 #[]).run Tryz.prog w=.ok (.value (.tuple #[])) w:=by
 rw[run_callFunc_extern Tryz.func61 (by kernel_rfl) (by kernel_rfl) (by kernel_rfl) (show Extern.find Tryz.f61=some (fun _=>do mark .enable;pure (.tuple #[])) by kernel_rfl)];rfl
theorem zo0(a:Addr)(w:World):(callFunc 62 #[.pointer (some a)]).run Tryz.prog w=.ok (.value (.tuple #[])) w:=by
 rw[run_callFunc_extern Tryz.func62 (by kernel_rfl) (by kernel_rfl) (by kernel_rfl) (show Extern.find Tryz.f62=some (Extern.Race.marked .acquire) by kernel_rfl)];rfl
theorem yf4(a:Addr)(n:Int)(w:World)(h:w.cell? a=some (.int .u64 n)):(callFunc 99 #[.pointer (some a)]).run Tryz.prog w=.ok (.value (.int .u64 n)) w:=by
 rw[run_callFunc_extern Tryz.func99 (by kernel_rfl) (by kernel_rfl) (by kernel_rfl) (show Extern.find Tryz.f99=some (Extern.Atomic.loadT (.int .u64)) by kernel_rfl)];change ((Sem.run Tryz.prog (asAddr (.pointer (some a)) >>= fun x=>Extern.Atomic.read (.int .u64) x) w)).andThen _=_;simp[Extern.Atomic.read,asAddr,h,go_sem]
theorem zn1(M:Nat)(w:World)(h:w.cell? ⟨M,25,none⟩=some (.int .u64 0)):Calls Tryz.prog 60 #[.pointer (some ⟨M,25,none⟩)] w fun e w'=>e=.returned (.int .u64 0)/\w'=w:=by
 have x4:=yf4 ⟨M,25,none⟩ 0 w h;go_in;go_wp2_with fail;go_ret;exact⟨rfl,rfl⟩
theorem zk4(M:Nat)(w:World)(h:w.cell? ⟨M,25,none⟩=some (.int .u64 0)):Calls Tryz.prog 21 #[.pointer (some ⟨M,25,none⟩)] w fun e w'=>e=.returned (.tuple #[])/\w'=w:=by
 have x1:=zn9;have x2:=Zg;have x3:=zo0;have xb:bits BinOp.and IntKind.u64 0 2147483647=0:=by decide
 have xb2:bits BinOp.and IntKind.u64 0 2147483648=0:=by decide
 have xc:=run_convert_to_unsafe (P:=Tryz.prog) (src:=136) (dst:=140) (t:=75) Tryz.underlying136 Tryz.underlying140 (by kernel_rfl) h;go_in;go_wp2_with fail
 go_loopw [2] (fun _ wr=>wr=w) (fun _ _=>0)
 case atStart=>exact rfl
 case round=>
  subst hrel;go_wp2_with fail;refine(zn1 M _ h).mono ?_;rintro e w1 ⟨rfl,rfl⟩;go_wp2_with fail;exact bodyPost_ret (v:=.tuple #[]) (by simp[results,Tryz.results21,go_sem]) rfl ⟨rfl,rfl⟩
end
end Go.Proofs.YtihnikeikhjndaaGreatDoor
