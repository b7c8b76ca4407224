import Derived.Test.YtaimofjekgnieaaGreatDoorUnA
import Derived.Test.YtaimofjekgnieaaGreatDoorHas
set_option maxRecDepth 100000
set_option maxHeartbeats 16000000
namespace Go.Proofs.YtaimofjekgnieaaGreatDoor
open Go.RowKit
attribute [local go_sem] q00
theorem Has.cell {w:World} {B:Nat} {A:Array Value} (h:Has w B A) (j:Nat) {v:Value} (e:A[j]?=some v):w.cell? ⟨B,j,none⟩=some v:=(h.at j).trans e
structure RcD where
 k:Int
 t:Int
 f:Int
 l:Int
 s:ByteArray
instance:Inhabited RcD:=⟨⟨0,0,0,0,⟨#[]⟩⟩⟩
abbrev rcC (d:RcD):Array Value:=#[.int .i64 d.k,.int .i64 d.t,.int .i64 d.f,.int .i64 d.l,.string d.s]
def RcsAt (L:Nat) (w:World) (a:Option Addr) (n:Nat) (q:Nat->RcD):Prop:=RowN 5 L w a n fun i=>rcC (q i)
theorem yb1 {L:Nat} {w:World} {n:Nat} {q:Nat->RcD} {a:Option Addr} (h:RcsAt L w a n q) {k:Nat} (hk:k<n) :
  ∃ b off,a=some ⟨b,off,none⟩/\L<=b/\b<w.heap.size/\w.cell? ⟨b,off+k*5,none⟩=some (.int .i64 (q k).k)/\w.cell? ⟨b,off+k*5+1,none⟩=some (.int .i64 (q k).t)/\w.cell? ⟨b,off+k*5+2,none⟩=some (.int .i64 (q k).f)/\w.cell? ⟨b,off+k*5+3,none⟩=some (.int .i64 (q k).l)/\w.cell? ⟨b,off+k*5+4,none⟩=some (.string (q k).s):=by
 obtain ⟨b,off,e,h0,h1,h2⟩:=h (by omega)
 have hc:=h2 k hk
 exact ⟨b,off,e,h0,h1,hc 0 (by omega),hc 1 (by omega),hc 2 (by omega),hc 3 (by omega),hc 4 (by omega)⟩
end Go.Proofs.YtaimofjekgnieaaGreatDoor
