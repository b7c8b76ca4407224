import Derived.Test.YtihnikeikhjndaaGreatDoorPlain
import Derived.OpenShut
import Derived.ProofKit
import Derived.Test.YtihnikeikhjndaaGreatDoorRows
import Derived.Test.YtihnikeikhjndaaGreatDoorGives
set_option maxRecDepth 100000
set_option maxHeartbeats 16000000
namespace Go.Proofs.YtihnikeikhjndaaGreatDoor
section
open Go.ChangeShapes Go.WideShapes Go.ChangeAt Go.RowKit
theorem Tryz.own:ownKnob Tryz.prog.godebug=none:=by kernel_rfl
theorem Tryz.laidOut:laidOutB Tryz.prog=true:=by kernel_rfl
def KJ(w:World)(a:Option Addr)(len cap:Nat)(zs:List Int):Prop:=
 (a=none/\len=0/\cap=0/\zs=[])\/
 ∃x,a=some x/\len<=cap/\cap<=maxLen/\zs.length=cap/\(∀i,i<zs.length->w.cell? (x.add i)=some (.int .u8 (zs.getD i 0)))/\∀n∈zs,(Lit.int .u8 n).wf=true
theorem zo2:Tryz.prog.cellsOf 5=1:=by kernel_rfl
theorem zl9{H:Type}{enc:TypeId×Value->H}{w:World}{base:Nat}{held:Bool}{a:Option Addr}{len cap:Nat}{d:DataW H}{p:List MemPlace}(h:DataW.Trod enc Tryz.prog w base (fun _=>true) held 22 (.slice a len cap) d p):∃zs,KJ w a len cap zs:=by
 obtain⟨fuel,hf⟩:=h;rcases open_ints Tryz.underlying22 Tryz.underlying5 zo2 hf with⟨hcs,_⟩|⟨x,l,c,zs,hcs,_,hl,hm,hz,_,hcell,hwz⟩
 ·simp[Value.cells] at hcs;obtain⟨rfl,rfl,rfl⟩:=hcs;exact⟨[],.inl ⟨rfl,rfl,rfl,rfl⟩⟩
 ·simp[Value.cells] at hcs;obtain⟨rfl,rfl,rfl⟩:=hcs;exact⟨zs,.inr ⟨_,rfl,hl,hm,by simpa using hz,hcell,hwz⟩⟩
end
section
open Go.RowKit
attribute [local go_sem] aN
theorem y19{x:Int}(h:(Lit.int .u8 x).wf=true):0<=x/\x<=255:=by
 simp[Lit.wf,IntKind.min,IntKind.max,IntKind.signed,IntKind.bits] at h;omega
theorem y78(b off k:Nat):(⟨b,off,none⟩:Addr).add k=⟨b,off+k,none⟩:=by
 cases k<;>simp[Addr.add]
theorem WT(a:Option Addr)(len cap:Nat)(zs:List Int)(i:Int)(w:World)(h:KJ w a len cap zs)(hl:len<=1048576)(hi:0<=i)(hi':i<=1000):Calls Tryz.prog 4 #[.slice a len cap,.int .i64 i] w fun e w'=>(∃v:Int,0<=v/\v<=255/\e=.returned (.int .i64 v))/\w'=w:=by
 by_cases h0:len=0
 ·subst h0;clear h hl;go_in;go_wp2;go_ret;exact⟨⟨0,by omega,by omega,rfl⟩,rfl⟩
 ·rcases h with⟨_,rfl,_⟩|⟨x,rfl,hlc,_,hz,hcell,hwf⟩
  ·exact absurd rfl h0
  have hb:(i%len).toNat<zs.length:=by
   have:=Int.emod_lt_of_pos i (show(0:Int)<len by omega);have:=Int.emod_nonneg i (show(len:Int)≠0 by omega);omega
  have hc:=hcell _ hb;have hw:0<=zs.getD (i%len).toNat 0/\zs.getD (i%len).toNat 0<=255:=by
   refine y19 (hwf _ ?_);rw[List.getD_eq_getElem?_getD,List.getElem?_eq_getElem hb];exact List.getElem_mem hb
  obtain⟨b,off,spot⟩:=x;have hspot:spot=none:=by simpa[Addr.add] using World.cell?_spot (hcell 0 (by omega))
  subst hspot;rw[y78] at hc;have hm0:=Int.emod_nonneg i (show(len:Int)≠0 by omega);have hm1:=Int.emod_lt_of_pos i (show(0:Int)<len by omega);generalize zs.getD (i%len).toNat 0=v at *;have hc':w.cell? ⟨b,off+(i%len).toNat,none⟩=some (.int .u8 v):=hc;clear hcell hwf hc hz hb;have hne:((len:Int)==0)=false:=by simp;omega
  go_in;go_wp2;go_ret;exact⟨⟨v,hw.1,hw.2,rfl⟩,rfl⟩
end
end Go.Proofs.YtihnikeikhjndaaGreatDoor
