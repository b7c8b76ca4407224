import Derived.Below
import Derived.Test.YtaimofjekgnieaaGreatDoorChecked
import Derived.WalkKit
import Derived.WalkLawsBesides
set_option maxRecDepth 100000
set_option maxHeartbeats 16000000
namespace Go.Proofs.YtaimofjekgnieaaGreatDoor
open Go.RowKit
theorem zz1 {α:Type _} {l:List α} {i:Nat} {a:α}:l.toArray.setIfInBounds i a=(l.set i a).toArray:=List.setIfInBounds_toArray ..
theorem zz2 {α:Type _} {a b:α} {l:List α}:(a::l).set 0 b=b::l:=rfl
theorem zz3 {α:Type _} {a b:α} {l:List α} {n:Nat}:(a::l).set (n+1) b=a::l.set n b:=rfl
theorem q00 (P:Program) (w:World) (a:Addr) (m:Mode) (k:FloatKind) (b:Nat):(store a (.float k b) m).run P w=stored P w a (.float k b) m:=run_store P w a _ m rfl
theorem order00:FloatKind.f64.format.order 0 0=some Ordering.eq:=by decide
def fz (f:Nat):Bool:=FloatKind.f64.format.order f 0==some Ordering.eq
def se (s:ByteArray):Bool:=s.toList.isEmpty
def ueB (k n:Int) (f:Nat) (s:ByteArray) (r:Int):Bool:=
 if k=1\/k=2\/k=8 then fz f && se s && r==0
 else if k=3 then n==0 && se s && r==0
 else if k=4 then n==0 && fz f && r==0
 else if k=5\/k=6\/k=7 then n==0 && fz f && se s
 else n==0 && fz f && se s && r==0
def usB (k n:Int) (s:ByteArray) (r:Int):Bool:=
 if k=0 then true
 else if k=1 then n==0 || n==1
 else if k=2 then true
 else if k=3 then true
 else if k=4 then decide ((s.size:Int)<=4000)
 else if k=5\/k=6\/k=7 then decide (0<=r)
 else if k=8 then decide (0<=n) && decide (n<15)
 else false
def okB (k n:Int) (f:Nat) (s:ByteArray) (r:Int):Bool:=ueB k n f s r && usB k n s r
abbrev vOf (k n:Int) (f:Nat) (s:ByteArray) (r:Int):Value:=.agg #[.int .i64 k,.int .i64 n,.float .f64 f,.string s,.int .i64 r]
theorem q06 {a b:Bool} (h:a=b):Ending.returned (.bool a)=.returned (.bool b):=by rw[h]
theorem ye0 {k:IntKind} {a b:Int} (h:a=b):Ending.returned (.int k a)=.returned (.int k b):=by rw[h]
theorem bcell {W w1:World} (hb:Below W.heap.size W w1):(∀ b o,b<W.heap.size->w1.cell? ⟨b,o,none⟩=W.cell? ⟨b,o,none⟩)/\(∀ b o,b<W.heap.size->w1.frozen? ⟨b,o,none⟩=W.frozen? ⟨b,o,none⟩):=
 ⟨fun b o h=>hb.cell (p:=⟨b,o,none⟩) h,fun b o h=>hb.frozen (p:=⟨b,o,none⟩) h⟩
theorem q02 {w w1 w2:World} (h1:Below w.heap.size w w1) (h2:Below w1.heap.size w1 w2):Below w.heap.size w w2:=h1.trans (h2.mono h1.size)
theorem q01 (w:World) (o:Obj):Below w.heap.size w (w.alloc o):=(Below.refl _ _).alloc (Nat.le_refl _) _
theorem z00 {a b:Value} (h:a=b):Ending.returned a=.returned b:=by rw[h]
theorem set5 {B blk:Nat} {a w:World} (h:Below B a w) (hp:B<=blk) (v0 v1 v2 v3 v4:Value) :
  Below B a (((((w.setCell ⟨blk,0,none⟩ v0).setCell ⟨blk,1,none⟩ v1).setCell ⟨blk,2,none⟩ v2).setCell ⟨blk,3,none⟩ v3).setCell ⟨blk,4,none⟩ v4):=
 ((((h.setCell (p:=⟨blk,0,none⟩) hp v0).setCell (p:=⟨blk,1,none⟩) hp v1).setCell (p:=⟨blk,2,none⟩) hp v2).setCell (p:=⟨blk,3,none⟩) hp v3).setCell (p:=⟨blk,4,none⟩) hp v4
theorem q04 (w:World) (o o':Obj):Below w.heap.size w ((w.alloc o).alloc o'):=(q01 w o).alloc (by simp) _
theorem q39 (w:World) (o o' o'':Obj):Below w.heap.size w (((w.alloc o).alloc o').alloc o''):=(q04 w o o').alloc (by simp;omega) _
theorem q49 {w u:World} (h:Below w.heap.size w u) (o:Obj):Below w.heap.size w (u.alloc o):=h.alloc h.size _
end Go.Proofs.YtaimofjekgnieaaGreatDoor
