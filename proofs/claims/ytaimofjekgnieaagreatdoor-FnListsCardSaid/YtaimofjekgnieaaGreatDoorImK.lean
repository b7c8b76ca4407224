import Derived.Test.YtaimofjekgnieaaGreatDoorSpQ
import Derived.Test.YtaimofjekgnieaaGreatDoorImE
import Derived.Deep.MidRow
import Derived.Laws.NewBlocks
import Derived.Test.YtaimofjekgnieaaGreatDoorUnD
set_option maxRecDepth 100000
set_option maxHeartbeats 16000000
namespace Go.Proofs.YtaimofjekgnieaaGreatDoor
open Go.RowKit
attribute [local go_sem] q00
attribute [local go_sem ↓] Go.wp_at_zero Go.wp_at_succ
def setL:Array Value->Nat->List Value->Array Value
 |c,_,[]=>c
 |c,o,v :: r=>setL (c.setIfInBounds o v) (o+1) r
theorem ql3 (w:World) (t:TypeId):∀ (vs:List Value) (o:Nat) (c:Array Value),(w.alloc (.cells c t)).setCells w.heap.size o vs=w.alloc (.cells (setL c o vs) t)
 |[],_,_=>rfl
 |v :: r,o,c=>by
  show ((w.alloc (.cells c t)).setCell ⟨w.heap.size,o,none⟩ v).setCells w.heap.size (o+1) r=_
  rw[World.setCell_alloc_at _ _ _ _ _ rfl]
  exact ql3 w t r (o+1) _
theorem zt3 (w:World) (t:TypeId) (c:Array Value) (o n:Nat) (h:o+n<=c.size):(w.alloc (.cells c t)).there w.heap.size o n:=fun j hj=>by
 have hc:(w.alloc (.cells c t)).cell? ⟨w.heap.size,o+j,none⟩=c[o+j]?:=World.cell?_alloc_new w c t (o+j)
 rw[hc,Array.getElem?_eq_getElem (by omega)]
 exact ⟨rfl,by simp[go_sem]⟩
abbrev mv (F f:Nat):Value:=.func (Fn.func f) #[.pointer (some ⟨F,0,none⟩)] #[]
abbrev frmC (F:Nat) (s:Value):Array Value:=#[s,.nilFunc,mv F 95,mv F 96,mv F 97,mv F 98,mv F 99,mv F 100,mv F 101,mv F 102,mv F 103,mv F 103,mv F 104,mv F 105,mv F 106,mv F 98,.nilFunc,.nilFunc,.nilFunc,.nilFunc,.nilFunc,mv F 103,mv F 103,mv F 103,mv F 107,mv F 108,mv F 109,mv F 110,mv F 110,mv F 111,mv F 112,mv F 112,mv F 113,mv F 114,mv F 112,mv F 115,mv F 116,mv F 110,mv F 103,mv F 117]
def stN:Nat->Nat
 |1=>95
 |2=>96
 |3=>97
 |4=>98
 |5=>99
 |6=>100
 |7=>101
 |8=>102
 |9=>103
 |10=>103
 |11=>104
 |12=>105
 |13=>106
 |14=>98
 |20=>103
 |21=>103
 |22=>103
 |23=>107
 |24=>108
 |25=>109
 |26=>110
 |27=>110
 |28=>111
 |29=>112
 |30=>112
 |31=>113
 |32=>114
 |33=>112
 |34=>115
 |35=>116
 |36=>110
 |37=>103
 |38=>117
 |_=>0
abbrev zrC:Array Value:=#[.slice none 0 0,.nilFunc,.nilFunc,.nilFunc,.nilFunc,.nilFunc,.nilFunc,.nilFunc,.nilFunc,.nilFunc,.nilFunc,.nilFunc,.nilFunc,.nilFunc,.nilFunc,.nilFunc,.nilFunc,.nilFunc,.nilFunc,.nilFunc,.nilFunc,.nilFunc,.nilFunc,.nilFunc,.nilFunc,.nilFunc,.nilFunc,.nilFunc,.nilFunc,.nilFunc,.nilFunc,.nilFunc,.nilFunc,.nilFunc,.nilFunc,.nilFunc,.nilFunc,.nilFunc,.nilFunc,.nilFunc]
abbrev mvC (F:Nat):Array Value:=#[.nilFunc,mv F 95,mv F 96,mv F 97,mv F 98,mv F 99,mv F 100,mv F 101,mv F 102,mv F 103,mv F 103,mv F 104,mv F 105,mv F 106,mv F 98,.nilFunc,.nilFunc,.nilFunc,.nilFunc,.nilFunc,mv F 103,mv F 103,mv F 103,mv F 107,mv F 108,mv F 109,mv F 110,mv F 110,mv F 111,mv F 112,mv F 112,mv F 113,mv F 114,mv F 112,mv F 115,mv F 116,mv F 110,mv F 103,mv F 117]
theorem ye5:(Tryz.prog.info? 198).map (·.size)=some 39:=by kernel_rfl
theorem yl8 (F:Nat):(mvC F).all (·.oneCell')=true:=by simp[Value.oneCell']
theorem yl7 (F:Nat):setL zrC 1 (mvC F).toList=frmC F (.slice none 0 0):=by kernel_rfl
theorem qt9 (w:World):Calls Tryz.prog 71 #[] w fun e w'=>e=.returned (.pointer (some ⟨w.heap.size,0,none⟩))/\w'=w.alloc (.cells (frmC w.heap.size (.slice none 0 0)) 200):=by
 have hmf:∀ (fn:Fn) (first cap:Array Value) (w:World),(Instr.makeFunc fn first cap).run Tryz.prog w=.ok (.func fn first cap) w:=fun _ _ _ _=>rfl
 have hth:Hid ((w.alloc (.cells zrC 200)).there w.heap.size 1 39):=zt3 w 200 zrC 1 39 (by simp)
 have hset:Hid ((w.alloc (.cells zrC 200)).setCells w.heap.size 1 (mvC w.heap.size).toList=w.alloc (.cells (frmC w.heap.size (.slice none 0 0)) 200)):=by
  show _=_
  rw[ql3,yl7]
 go_enter Tryz.func71,Tryz.ntmps71
 go_wp2_with (show wpList _ _ _ _ _ _;refine wpList_store_mid rfl 198 _ _ rfl w.heap.size 1 (mvC w.heap.size) rfl rfl hth.out ye5 (yl8 _) ?_;refine Eq.mpr (congrArg _ hset.out) ?_)
 go_ret
 exact ⟨rfl,rfl⟩
def FRow (w:World) (F:Nat) (s:Value):Prop:=w.rowIs F 200 40 (fun i=>((frmC F s)[i]?).getD undef)
theorem FRow.new (w:World):FRow (w.alloc (.cells (frmC w.heap.size (.slice none 0 0)) 200)) w.heap.size (.slice none 0 0):=
 World.rowIs_alloc w (frmC w.heap.size (.slice none 0 0)) 200 _ fun i hi=>by
  rw[Array.getElem?_eq_getElem hi];rfl
theorem FRow.set {w:World} {F:Nat} {s:Value} (h:FRow w F s) (t:Value):FRow (w.setCell ⟨F,0,none⟩ t) F t:=(World.rowIs.set h 0 t).congr fun i _=>by
 by_cases e:i=0
 ·subst e;rfl
 ·rw[if_neg e]
  obtain ⟨j,rfl⟩:∃ j,i=j+1:=⟨i-1,by omega⟩
  rfl
theorem FRow.alloc {w:World} {F:Nat} {s:Value} (h:FRow w F s) (o:Obj):FRow (w.alloc o) F s:=World.rowIs.alloc h o
theorem FRow.below {w w':World} {F:Nat} {s:Value} (h:FRow w F s) (hb:Below w.heap.size w w'):FRow w' F s:=World.rowIs.of_block h (hb.block _ h.lt)
end Go.Proofs.YtaimofjekgnieaaGreatDoor
namespace Go.Proofs.YtaimofjekgnieaaGreatDoor
open Go.RowKit
def FoSays (F m:Nat) (nd:Nat->ND) (nas:Nat->NA) (w:World) (f:Nat) (b:Bool):Prop:=Calls Tryz.prog f #[.pointer (some ⟨F,0,none⟩),q40 (nd m) (nas m)] w fun e w'=>e=.returned (.bool b)/\Below w.heap.size w w'
theorem FoSays.as {F m:Nat} {nd:Nat->ND} {nas:Nat->NA} {w:World} {f:Nat} {b c:Bool} (h:FoSays F m nd nas w f b) (e:b=c):FoSays F m nd nas w f c:=e ▸ h
theorem zh7 (F m:Nat) (nd:Nat->ND) (nas:Nat->NA) (w:World) (hA:AH w F m nd nas) (hN:NodeAt 0 w (nd m) (nas m)) (hs:(nd m).sm) (hcap:(nd m).kn<=(nas m).kc) (k:Nat) (hk:(nd m).k=k) (hv:(1<=k/\k<=14)\/(20<=k/\k<=38)) :
  FoSays F m nd nas w (stN k) (fkB nd m):=by
 rcases (show k=1\/k=2\/k=3\/k=4\/k=5\/k=6\/k=7\/k=8\/k=9\/k=10\/k=11\/k=12\/k=13\/k=14\/k=20\/k=21\/k=22\/k=23\/k=24\/k=25\/k=26\/k=27\/k=28\/k=29\/k=30\/k=31\/k=32\/k=33\/k=34\/k=35\/k=36\/k=37\/k=38 by omega) with rfl|rfl|rfl|rfl|rfl|rfl|rfl|rfl|rfl|rfl|rfl|rfl|rfl|rfl|rfl|rfl|rfl|rfl|rfl|rfl|rfl|rfl|rfl|rfl|rfl|rfl|rfl|rfl|rfl|rfl|rfl|rfl|rfl
 ·exact FoSays.as (y73 F m nd nas w hA hN hs hcap) (by unfold fkB;rw[hk];first|(simp;done)|(simp[atS];done)|(simp[Bool.and_assoc];done)|(simp[atS,Bool.and_assoc];done)|(simp[btB];done)|(simp[btB,Bool.and_assoc];done)|(simp[atS,btB];done)|(simp[atS,btB,Bool.and_assoc];done))
 ·exact FoSays.as (ym6 F m nd nas w hA hN hs hcap) (by unfold fkB;rw[hk];simp[Bool.and_assoc])
 ·exact FoSays.as (ym5 F m nd nas w hA hN hs hcap) (by unfold fkB;rw[hk];first|(simp;done)|(simp[atS];done)|(simp[Bool.and_assoc];done)|(simp[atS,Bool.and_assoc];done)|(simp[btB];done)|(simp[btB,Bool.and_assoc];done)|(simp[atS,btB];done)|(simp[atS,btB,Bool.and_assoc];done))
 ·exact FoSays.as (qx9 F m nd nas w hA hN hs hcap) (by unfold fkB;rw[hk];first|(simp;done)|(simp[atS];done)|(simp[Bool.and_assoc];done)|(simp[atS,Bool.and_assoc];done)|(simp[btB];done)|(simp[btB,Bool.and_assoc];done)|(simp[atS,btB];done)|(simp[atS,btB,Bool.and_assoc];done))
 ·exact FoSays.as (y00 F m nd nas w hA hN hs hcap) (by unfold fkB;rw[hk];first|(simp;done)|(simp[atS];done)|(simp[Bool.and_assoc];done)|(simp[atS,Bool.and_assoc];done)|(simp[btB];done)|(simp[btB,Bool.and_assoc];done)|(simp[atS,btB];done)|(simp[atS,btB,Bool.and_assoc];done))
 ·exact FoSays.as (y69 F m nd nas w hA hN hs hcap) (by unfold fkB;rw[hk];first|(simp;done)|(simp[atS];done)|(simp[Bool.and_assoc];done)|(simp[atS,Bool.and_assoc];done)|(simp[btB];done)|(simp[btB,Bool.and_assoc];done)|(simp[atS,btB];done)|(simp[atS,btB,Bool.and_assoc];done))
 ·exact FoSays.as (y72 F m nd nas w hA hN hs hcap) (by unfold fkB;rw[hk];first|(simp;done)|(simp[atS];done)|(simp[Bool.and_assoc];done)|(simp[atS,Bool.and_assoc];done)|(simp[btB];done)|(simp[btB,Bool.and_assoc];done)|(simp[atS,btB];done)|(simp[atS,btB,Bool.and_assoc];done))
 ·exact FoSays.as (yf8 F m nd nas w hA hN hs hcap) (by unfold fkB;rw[hk];first|(simp;done)|(simp[atS];done)|(simp[Bool.and_assoc];done)|(simp[atS,Bool.and_assoc];done)|(simp[btB];done)|(simp[btB,Bool.and_assoc];done)|(simp[atS,btB];done)|(simp[atS,btB,Bool.and_assoc];done))
 ·exact FoSays.as (qk4 F m nd nas w hA hN hs hcap) (by unfold fkB;rw[hk];first|(simp;done)|(simp[atS];done)|(simp[Bool.and_assoc];done)|(simp[atS,Bool.and_assoc];done)|(simp[btB];done)|(simp[btB,Bool.and_assoc];done)|(simp[atS,btB];done)|(simp[atS,btB,Bool.and_assoc];done))
 ·exact FoSays.as (qk4 F m nd nas w hA hN hs hcap) (by unfold fkB;rw[hk];first|(simp;done)|(simp[atS];done)|(simp[Bool.and_assoc];done)|(simp[atS,Bool.and_assoc];done)|(simp[btB];done)|(simp[btB,Bool.and_assoc];done)|(simp[atS,btB];done)|(simp[atS,btB,Bool.and_assoc];done))
 ·exact FoSays.as (zq2 F m nd nas w hA hN hs hcap) (by unfold fkB;rw[hk];first|(simp;done)|(simp[atS];done)|(simp[Bool.and_assoc];done)|(simp[atS,Bool.and_assoc];done)|(simp[btB];done)|(simp[btB,Bool.and_assoc];done)|(simp[atS,btB];done)|(simp[atS,btB,Bool.and_assoc];done))
 ·exact FoSays.as (ym4 F m nd nas w hA hN hs hcap) (by unfold fkB;rw[hk];first|(simp;done)|(simp[atS];done)|(simp[Bool.and_assoc];done)|(simp[atS,Bool.and_assoc];done)|(simp[btB];done)|(simp[btB,Bool.and_assoc];done)|(simp[atS,btB];done)|(simp[atS,btB,Bool.and_assoc];done))
 ·exact FoSays.as (qm4 F m nd nas w hA hN hs hcap) (by unfold fkB;rw[hk];first|(simp;done)|(simp[atS];done)|(simp[Bool.and_assoc];done)|(simp[atS,Bool.and_assoc];done)|(simp[btB];done)|(simp[btB,Bool.and_assoc];done)|(simp[atS,btB];done)|(simp[atS,btB,Bool.and_assoc];done))
 ·exact FoSays.as (qx9 F m nd nas w hA hN hs hcap) (by unfold fkB;rw[hk];first|(simp;done)|(simp[atS];done)|(simp[Bool.and_assoc];done)|(simp[atS,Bool.and_assoc];done)|(simp[btB];done)|(simp[btB,Bool.and_assoc];done)|(simp[atS,btB];done)|(simp[atS,btB,Bool.and_assoc];done))
 ·exact FoSays.as (qk4 F m nd nas w hA hN hs hcap) (by unfold fkB;rw[hk];first|(simp;done)|(simp[atS];done)|(simp[Bool.and_assoc];done)|(simp[atS,Bool.and_assoc];done)|(simp[btB];done)|(simp[btB,Bool.and_assoc];done)|(simp[atS,btB];done)|(simp[atS,btB,Bool.and_assoc];done))
 ·exact FoSays.as (qk4 F m nd nas w hA hN hs hcap) (by unfold fkB;rw[hk];first|(simp;done)|(simp[atS];done)|(simp[Bool.and_assoc];done)|(simp[atS,Bool.and_assoc];done)|(simp[btB];done)|(simp[btB,Bool.and_assoc];done)|(simp[atS,btB];done)|(simp[atS,btB,Bool.and_assoc];done))
 ·exact FoSays.as (qk4 F m nd nas w hA hN hs hcap) (by unfold fkB;rw[hk];first|(simp;done)|(simp[atS];done)|(simp[Bool.and_assoc];done)|(simp[atS,Bool.and_assoc];done)|(simp[btB];done)|(simp[btB,Bool.and_assoc];done)|(simp[atS,btB];done)|(simp[atS,btB,Bool.and_assoc];done))
 ·exact FoSays.as (zq4 F m nd nas w hA hN hs hcap) (by unfold fkB;rw[hk];first|(simp;done)|(simp[atS];done)|(simp[Bool.and_assoc];done)|(simp[atS,Bool.and_assoc];done)|(simp[btB];done)|(simp[btB,Bool.and_assoc];done)|(simp[atS,btB];done)|(simp[atS,btB,Bool.and_assoc];done))
 ·exact FoSays.as (zh8 F m nd nas w hA hN hs hcap) (by unfold fkB;rw[hk];first|(simp;done)|(simp[atS];done)|(simp[Bool.and_assoc];done)|(simp[atS,Bool.and_assoc];done)|(simp[btB];done)|(simp[btB,Bool.and_assoc];done)|(simp[atS,btB];done)|(simp[atS,btB,Bool.and_assoc];done))
 ·exact FoSays.as (yf7 F m nd nas w hA hN hs hcap) (by unfold fkB;rw[hk];first|(simp;done)|(simp[atS];done)|(simp[Bool.and_assoc];done)|(simp[atS,Bool.and_assoc];done)|(simp[btB];done)|(simp[btB,Bool.and_assoc];done)|(simp[atS,btB];done)|(simp[atS,btB,Bool.and_assoc];done))
 ·exact FoSays.as (qr5 F m nd nas w hA hN hs hcap) (by unfold fkB;rw[hk];first|(simp;done)|(simp[atS];done)|(simp[Bool.and_assoc];done)|(simp[atS,Bool.and_assoc];done)|(simp[btB];done)|(simp[btB,Bool.and_assoc];done)|(simp[atS,btB];done)|(simp[atS,btB,Bool.and_assoc];done))
 ·exact FoSays.as (qr5 F m nd nas w hA hN hs hcap) (by unfold fkB;rw[hk];first|(simp;done)|(simp[atS];done)|(simp[Bool.and_assoc];done)|(simp[atS,Bool.and_assoc];done)|(simp[btB];done)|(simp[btB,Bool.and_assoc];done)|(simp[atS,btB];done)|(simp[atS,btB,Bool.and_assoc];done))
 ·exact FoSays.as (zq5 F m nd nas w hA hN hs hcap) (by unfold fkB;rw[hk];simp[Bool.and_assoc])
 ·exact FoSays.as (q83 F m nd nas w hA hN hs hcap) (by unfold fkB;rw[hk];first|(simp;done)|(simp[atS];done)|(simp[Bool.and_assoc];done)|(simp[atS,Bool.and_assoc];done)|(simp[btB];done)|(simp[btB,Bool.and_assoc];done)|(simp[atS,btB];done)|(simp[atS,btB,Bool.and_assoc];done))
 ·exact FoSays.as (q83 F m nd nas w hA hN hs hcap) (by unfold fkB;rw[hk];first|(simp;done)|(simp[atS];done)|(simp[Bool.and_assoc];done)|(simp[atS,Bool.and_assoc];done)|(simp[btB];done)|(simp[btB,Bool.and_assoc];done)|(simp[atS,btB];done)|(simp[atS,btB,Bool.and_assoc];done))
 ·exact FoSays.as (y70 F m nd nas w hA hN hs hcap) (by unfold fkB;rw[hk];first|(simp;done)|(simp[atS];done)|(simp[Bool.and_assoc];done)|(simp[atS,Bool.and_assoc];done)|(simp[btB];done)|(simp[btB,Bool.and_assoc];done)|(simp[atS,btB];done)|(simp[atS,btB,Bool.and_assoc];done))
 ·exact FoSays.as (y01 F m nd nas w hA hN hs hcap) (by unfold fkB;rw[hk];first|(simp;done)|(simp[atS];done)|(simp[Bool.and_assoc];done)|(simp[atS,Bool.and_assoc];done)|(simp[btB];done)|(simp[btB,Bool.and_assoc];done)|(simp[atS,btB];done)|(simp[atS,btB,Bool.and_assoc];done))
 ·exact FoSays.as (q83 F m nd nas w hA hN hs hcap) (by unfold fkB;rw[hk];first|(simp;done)|(simp[atS];done)|(simp[Bool.and_assoc];done)|(simp[atS,Bool.and_assoc];done)|(simp[btB];done)|(simp[btB,Bool.and_assoc];done)|(simp[atS,btB];done)|(simp[atS,btB,Bool.and_assoc];done))
 ·exact FoSays.as (yf9 F m nd nas w hA hN hs hcap) (by unfold fkB;rw[hk];simp[Bool.and_assoc])
 ·exact FoSays.as (y71 F m nd nas w hA hN hs hcap) (by unfold fkB;rw[hk];first|(simp;done)|(simp[atS];done)|(simp[Bool.and_assoc];done)|(simp[atS,Bool.and_assoc];done)|(simp[btB];done)|(simp[btB,Bool.and_assoc];done)|(simp[atS,btB];done)|(simp[atS,btB,Bool.and_assoc];done))
 ·exact FoSays.as (qr5 F m nd nas w hA hN hs hcap) (by unfold fkB;rw[hk];first|(simp;done)|(simp[atS];done)|(simp[Bool.and_assoc];done)|(simp[atS,Bool.and_assoc];done)|(simp[btB];done)|(simp[btB,Bool.and_assoc];done)|(simp[atS,btB];done)|(simp[atS,btB,Bool.and_assoc];done))
 ·exact FoSays.as (qk4 F m nd nas w hA hN hs hcap) (by unfold fkB;rw[hk];first|(simp;done)|(simp[atS];done)|(simp[Bool.and_assoc];done)|(simp[atS,Bool.and_assoc];done)|(simp[btB];done)|(simp[btB,Bool.and_assoc];done)|(simp[atS,btB];done)|(simp[atS,btB,Bool.and_assoc];done))
 ·exact FoSays.as (zq3 F m nd nas w hA hN hs hcap) (by unfold fkB;rw[hk];first|(simp;done)|(simp[atS];done)|(simp[Bool.and_assoc];done)|(simp[atS,Bool.and_assoc];done)|(simp[btB];done)|(simp[btB,Bool.and_assoc];done)|(simp[atS,btB];done)|(simp[atS,btB,Bool.and_assoc];done))
end Go.Proofs.YtaimofjekgnieaaGreatDoor
namespace Go.Proofs.YtaimofjekgnieaaGreatDoor
open Go.RowKit
attribute [local go_sem] q00
attribute [local go_sem ↓] Go.wp_at_zero Go.wp_at_succ
theorem y77 (k:Nat) (hv:(1<=k/\k<=14)\/(20<=k/\k<=38)) (args:Array Value) (w:World):(callFunc (stN k) args).run Tryz.prog w=.ok (.enter (stN k) args) w:=by
 rcases (show k=1\/k=2\/k=3\/k=4\/k=5\/k=6\/k=7\/k=8\/k=9\/k=10\/k=11\/k=12\/k=13\/k=14\/k=20\/k=21\/k=22\/k=23\/k=24\/k=25\/k=26\/k=27\/k=28\/k=29\/k=30\/k=31\/k=32\/k=33\/k=34\/k=35\/k=36\/k=37\/k=38 by omega) with rfl|rfl|rfl|rfl|rfl|rfl|rfl|rfl|rfl|rfl|rfl|rfl|rfl|rfl|rfl|rfl|rfl|rfl|rfl|rfl|rfl|rfl|rfl|rfl|rfl|rfl|rfl|rfl|rfl|rfl|rfl|rfl|rfl<;>kernel_rfl
structure KB (F:Nat) (w w':World):Prop where
 low:Below F w w'
 has:∀ X A,X≠F->Has w X A->Has w' X A
theorem KB.of {F:Nat} {w w':World} (h:Below w.heap.size w w') (hF:F<=w.heap.size):KB F w w':=⟨h.mono hF,fun _ _ _ k=>k.call h⟩
theorem KB.trans {F:Nat} {w w1 w2:World} (h:KB F w w1) (k:KB F w1 w2):KB F w w2:=⟨h.low.trans k.low,fun X A hX hh=>k.has X A hX (h.has X A hX hh)⟩
theorem KB.set (F:Nat) (w:World) (o:Nat) (v:Value):KB F w (w.setCell ⟨F,o,none⟩ v):=⟨frS (Below.refl _ _) (Nat.le_refl _) _,fun _ _ hX hh=>hh.far (fun e=>hX e.symm) _⟩
def z45 (nd:Nat->ND) (m F:Nat) (w:World) (e:Ending) (w':World):Prop:=e=.returned (.bool (fitB nd m))/\(∃ s,FRow w' F s)/\KB F w w'
theorem FRow.fn {w:World} {F:Nat} {s:Value} (h:FRow w F s) (k:Nat) (hv:(1<=k/\k<=14)\/(20<=k/\k<=38)):w.cell? ⟨F,1+k,none⟩=some (mv F (stN k)):=by
 have:=World.rowIs.cell h (i:=1+k) (by omega)
 rw[this]
 rcases (show k=1\/k=2\/k=3\/k=4\/k=5\/k=6\/k=7\/k=8\/k=9\/k=10\/k=11\/k=12\/k=13\/k=14\/k=20\/k=21\/k=22\/k=23\/k=24\/k=25\/k=26\/k=27\/k=28\/k=29\/k=30\/k=31\/k=32\/k=33\/k=34\/k=35\/k=36\/k=37\/k=38 by omega) with rfl|rfl|rfl|rfl|rfl|rfl|rfl|rfl|rfl|rfl|rfl|rfl|rfl|rfl|rfl|rfl|rfl|rfl|rfl|rfl|rfl|rfl|rfl|rfl|rfl|rfl|rfl|rfl|rfl|rfl|rfl|rfl|rfl<;>rfl
theorem RowN.take {K L:Nat} {w:World} {a:Option Addr} {n k:Nat} {q:Nat->Array Value} (h:RowN K L w a n q) (hk:k<=n):RowN K L w a k q:=fun hn=>by
 obtain ⟨b,off,e,h0,h1,h2⟩:=h (by omega)
 exact ⟨b,off,e,h0,h1,fun i hi=>h2 i (by omega)⟩
abbrev FSr (B F kN:Nat) (d:ND) (x:NA) (w':World):Prop:=w'.cell? ⟨B,0,none⟩=some (.int .i64 (kN:Int))/\w'.cell? ⟨B,1,none⟩=some (.int .i64 d.l)/\w'.cell? ⟨B,2,none⟩=some (.int .i64 d.o)/\w'.cell? ⟨B,3,none⟩=some (.int .i64 d.n)/\w'.cell? ⟨B,4,none⟩=some (.float .f64 d.f)/\w'.cell? ⟨B,5,none⟩=some (.string d.s)/\w'.cell? ⟨B,6,none⟩=some (.slice x.ra d.rn x.rc)/\w'.cell? ⟨B,7,none⟩=some (.slice x.ka d.kn x.kc)/\w'.cell? ⟨F,1+kN,none⟩=some (mv F (stN kN))
theorem zq6 (F n:Nat) (nd:Nat->ND) (a:Option Addr) (cap:Nat) (nas:Nat->NA) (m:Nat) (s:Value) (w0 w:World) (hm:m<n) (_hn:n<=1048576) (hcap:n<=cap) (hs:(nd m).sm) (hkc:(nd m).kn<=(nas m).kc) (hT:NodesAt 0 w0 n nd a nas) (h0:w0.heap.size<=F) (hw:Below w0.heap.size w0 w) (hF:FRow w F s) :
  Calls Tryz.prog 72 #[.pointer (some ⟨F,0,none⟩),.slice a n cap,.int .i64 m] w fun e w'=>z45 nd m F w e w':=by
 have HT:Hid (NodesAt 0 w0 n nd a nas):=hT
 have HW:Hid (Below w0.heap.size w0 w):=hw
 have HF:Hid (FRow w F s):=hF
 have HS:Hid ((nd m).sm):=hs
 have hFw:F<w.heap.size:=World.rowIs.lt hF
 have hkn:=hs.kn
 clear hT hw hF hs
 have HTw:Hid (NodesAt 0 w n nd a nas):=HT.out.below HW.out
 obtain ⟨b,off,e0,_,hb,d0,d1,d2,d3,d4,d5,d6,d7⟩:=cells8 HTw.out.1 hm
 have HE0:Hid (a=some ⟨b,off,none⟩):=e0
 subst e0
 by_cases hk:((1:Int)<=(nd m).k/\(nd m).k<=14)\/((20:Int)<=(nd m).k/\(nd m).k<=38)
 ·obtain ⟨kN,hkN⟩:∃ kN:Nat,(nd m).k=kN:=⟨(nd m).k.toNat,by omega⟩
  have hkv:(1<=kN/\kN<=14)\/(20<=kN/\kN<=38):=by omega
  have HK:Hid ((nd m).k=kN):=hkN
  rw[hkN] at d0
  clear hk
  have f0:=World.rowIs.cell HF.out (i:=0) (by omega)
  have fz:=World.rowIs.frozen HF.out
  have hcd:q24 (nd m) (nas m) = #[.int .i64 (kN:Int),.int .i64 (nd m).l,.int .i64 (nd m).o,.int .i64 (nd m).n,.float .f64 (nd m).f,.string (nd m).s,.slice (nas m).ra (nd m).rn (nas m).rc,.slice (nas m).ka (nd m).kn (nas m).kc]:=by rw[<-hkN]
  have HCD:Hid (q24 (nd m) (nas m) = #[.int .i64 (kN:Int),.int .i64 (nd m).l,.int .i64 (nd m).o,.int .i64 (nd m).n,.float .f64 (nd m).f,.string (nd m).s,.slice (nas m).ra (nd m).rn (nas m).rc,.slice (nas m).ka (nd m).kn (nas m).kc]):=hcd
  clear hkN hcd
  have hset:setB 32766 (kN:Int)=true\/(setB 32766 (kN:Int)=false/\setB 549754765312 (kN:Int)=true):=by
   rw[zu3,zf1]
   unfold stK exK
   simp
   omega
  go_enter Tryz.func72,Tryz.ntmps72
  go_wp2_with fail
  rcases hset with hs1|⟨hs1,hs2⟩
  all_goals
   refine (q70 32766 (by decide) _ _).mono ?_
   rw[hs1]
   rintro e w1 ⟨rfl,rfl⟩
   go_wp2_with fail
   try
    refine (q70 549754765312 (by decide) _ _).mono ?_
    rw[hs2]
    rintro e w1 ⟨rfl,rfl⟩
    go_wp2_with fail
   obtain ⟨w5,hw5⟩:∃ w5,w5=(w.setCell ⟨F,0,none⟩ (.slice (some ⟨b,off,none⟩) m cap)).alloc (.cells #[.int .i64 (kN:Int),.int .i64 (nd m).l,.int .i64 (nd m).o,.int .i64 (nd m).n,.float .f64 (nd m).f,.string (nd m).s,.slice (nas m).ra (nd m).rn (nas m).rc,.slice (nas m).ka (nd m).kn (nas m).kc] 51):=⟨_,rfl⟩
   have HKB:Hid (KB F w w5):=by
    show KB F w w5
    rw[hw5]
    exact (KB.set F w 0 _).trans (KB.of (q01 _ _) (by simp;omega))
   have HF5:Hid (FRow w5 F (.slice (some ⟨b,off,none⟩) m cap)):=by show FRow _ _ _;rw[hw5];exact (HF.out.set _).alloc _
   have HB5:Hid (Has w5 w.heap.size #[.int .i64 (kN:Int),.int .i64 (nd m).l,.int .i64 (nd m).o,.int .i64 (nd m).n,.float .f64 (nd m).f,.string (nd m).s,.slice (nas m).ra (nd m).rn (nas m).rc,.slice (nas m).ka (nd m).kn (nas m).kc]):=by
    have h:=Has.new (w.setCell ⟨F,0,none⟩ (.slice (some ⟨b,off,none⟩) m cap)) #[.int .i64 (kN:Int),.int .i64 (nd m).l,.int .i64 (nd m).o,.int .i64 (nd m).n,.float .f64 (nd m).f,.string (nd m).s,.slice (nas m).ra (nd m).rn (nas m).rc,.slice (nas m).ka (nd m).kn (nas m).kc] 51
    rw[<-hw5] at h
    show Has _ _ _
    simpa using h
   have HW5:Hid (Below w0.heap.size w0 w5):=HW.out.trans (HKB.out.low.mono h0)
   have HN5:Hid (NodesAt 0 w5 n nd (some ⟨b,off,none⟩) nas):=HT.out.below HW5.out
   have HA5:Hid (AH w5 F m nd nas):=⟨⟨some ⟨b,off,none⟩,cap,World.rowIs.cell HF5.out (i:=0) (by omega),HN5.out.1.take (by omega)⟩⟩
   have HUS:Hid (∀ W,Below w5.heap.size w5 W->FSr w.heap.size F kN (nd m) (nas m) W):=fun W hW=>⟨(HB5.out.call hW).cell 0 rfl,(HB5.out.call hW).cell 1 rfl,(HB5.out.call hW).cell 2 rfl,(HB5.out.call hW).cell 3 rfl,(HB5.out.call hW).cell 4 rfl,(HB5.out.call hW).cell 5 rfl,(HB5.out.call hW).cell 6 rfl,(HB5.out.call hW).cell 7 rfl,(HF5.out.below hW).fn kN hkv⟩
   have LF:Hid (∀ W,Calls Tryz.prog 119 #[.agg #[.int .i64 (kN:Int),.int .i64 (nd m).l,.int .i64 (nd m).o,.int .i64 (nd m).n,.float .f64 (nd m).f,.string (nd m).s,.slice (nas m).ra (nd m).rn (nas m).rc,.slice (nas m).ka (nd m).kn (nas m).kc]] W fun e w'=>e=.returned (.bool (if stK (nd m).k then decide (1<=(nd m).l) && decide ((nd m).l<=100000) else (nd m).l==0))/\Below W.heap.size W w'):=fun W=>by
    have h:=qu2 (nd m) (nas m) W
    rw[<-HCD.out]
    exact h
   have FC:Hid (∀ W,Below w5.heap.size w5 W->Calls Tryz.prog (stN kN) #[.pointer (some ⟨F,0,none⟩),.agg #[.int .i64 (kN:Int),.int .i64 (nd m).l,.int .i64 (nd m).o,.int .i64 (nd m).n,.float .f64 (nd m).f,.string (nd m).s,.slice (nas m).ra (nd m).rn (nas m).rc,.slice (nas m).ka (nd m).kn (nas m).kc]] W fun e w'=>e=.returned (.bool (fkB nd m))/\Below W.heap.size W w'):=fun W hW=>by
    have h:=zh7 F m nd nas W (HA5.out.below hW) ((HN5.out.2 m hm).below hW) HS.out hkc kN HK.out hkv
    unfold FoSays at h
    rw[<-HCD.out]
    exact h
   have HV:Hid (fitB nd m=((if stK (nd m).k then decide (1<=(nd m).l) && decide ((nd m).l<=100000) else (nd m).l==0) && decide (((nd m).kn:Int)<=200) && fkB nd m)):=by
    show fitB nd m=_
    unfold fitB
    have h1:(stK (nd m).k || exK (nd m).k)=true:=by rw[HK.out];unfold stK exK;simp;omega
    rw[h1,Bool.true_and]
   rw[<-hw5]
   clear hw5 f0 fz d0 d1 d2 d3 d4 d5 d6 d7
   cases hlb:(if stK (nd m).k then decide (1<=(nd m).l) && decide ((nd m).l<=100000) else (nd m).l==0)
   ·have HQ:Hid (fitB nd m=false):=by show fitB nd m=false;rw[HV.out,hlb];rfl
    refine wp_region_held_drew (S:=(fun w'=>w'.cell? ⟨w.heap.size,0,none⟩=some (.int .i64 (kN:Int))/\w'.cell? ⟨w.heap.size,1,none⟩=some (.int .i64 (nd m).l)/\w'.cell? ⟨w.heap.size,2,none⟩=some (.int .i64 (nd m).o)/\w'.cell? ⟨w.heap.size,3,none⟩=some (.int .i64 (nd m).n)/\w'.cell? ⟨w.heap.size,4,none⟩=some (.float .f64 (nd m).f)/\w'.cell? ⟨w.heap.size,5,none⟩=some (.string (nd m).s)/\w'.cell? ⟨w.heap.size,6,none⟩=some (.slice (nas m).ra (nd m).rn (nas m).rc)/\w'.cell? ⟨w.heap.size,7,none⟩=some (.slice (nas m).ka (nd m).kn (nas m).kc)/\w'.cell? ⟨F,1+kN,none⟩=some (mv F (stN kN)))) (by kernel_rfl) (HUS.out _ (Below.refl _ _).drew) (fun hHold=>?_)
    refine wpAnyH_take (i:=0) (oi:=⟨some 28,_,_,_,_,_⟩) (v:=?_) rfl (by kernel_rfl) (by kernel_rfl) (by kernel_rfl) (fun _ _ _ h=>h) (Or.inl ⟨by rfl,?_⟩) (by assumption) ?_
    case refine_2=>(intro wz hSw;(try dsimp only at hSw);go_simp<;>with_reducible rfl)
    try simp only[Act.put,zz1,zz2,zz3]
    refine wpAnyH_ready (rs:=[1]) (by kernel_rfl) (by simp) ?_
    refine AllReadyH.cons (o:=⟨some 29,_,_,_,_,_⟩) rfl (fun K hK=>?_) AllReadyH.nil
    go_simp
    refine (LF.out _).mono ?_
    rw[hlb]
    rintro e w8 ⟨rfl,hb8⟩
    replace hb8:Below w5.heap.size w5 w8:=q02 (Below.refl _ _).drew hb8
    dsimp only
    refine hK.out _ _ (HUS.out _ hb8) (fun hHeld=>?_)
    clear hK K hHold
    have hHold:=hHeld
    clear hHeld
    refine wpAnyH_take (i:=2) (oi:=⟨some 30,_,_,_,_,_⟩) (v:=?_) rfl (by kernel_rfl) (by kernel_rfl) (by kernel_rfl) (fun _ _ _ h=>h) (Or.inl ⟨by rfl,?_⟩) (by assumption) ?_
    case refine_2=>(intro wz hSw;(try dsimp only at hSw);go_simp<;>with_reducible rfl)
    try simp only[Act.put,zz1,zz2,zz3]
    refine wpAnyH_take (i:=3) (oi:=⟨some 31,_,_,_,_,_⟩) (v:=undef) rfl (by kernel_rfl) (by kernel_rfl) (by kernel_rfl) (fun _ _ _ h=>h) (Or.inr ⟨by rfl,rfl⟩) (by assumption) ?_
    try simp only[Act.put,zz1,zz2,zz3]
    refine wpAnyH_take (i:=4) (oi:=⟨some 32,_,_,_,_,_⟩) (v:=undef) rfl (by kernel_rfl) (by kernel_rfl) (by kernel_rfl) (fun _ _ _ h=>h) (Or.inr ⟨by rfl,rfl⟩) (by assumption) ?_
    try simp only[Act.put,zz1,zz2,zz3]
    refine wpAnyH_take (i:=5) (oi:=⟨some 33,_,_,_,_,_⟩) (v:=undef) rfl (by kernel_rfl) (by kernel_rfl) (by kernel_rfl) (fun _ _ _ h=>h) (Or.inr ⟨by rfl,rfl⟩) (by assumption) ?_
    try simp only[Act.put,zz1,zz2,zz3]
    refine wpAnyH_take (i:=6) (oi:=⟨some 34,_,_,_,_,_⟩) (v:=undef) rfl (by kernel_rfl) (by kernel_rfl) (by kernel_rfl) (fun _ _ _ h=>h) (Or.inr ⟨by rfl,rfl⟩) (by assumption) ?_
    try simp only[Act.put,zz1,zz2,zz3]
    refine wpAnyH_take (i:=7) (oi:=⟨some 35,_,_,_,_,_⟩) (v:=?_) rfl (by kernel_rfl) (by kernel_rfl) (by kernel_rfl) (fun _ _ _ h=>h) (Or.inl ⟨by rfl,?_⟩) (by assumption) ?_
    case refine_2=>(intro wz hSw;(try dsimp only at hSw);go_simp<;>with_reducible rfl)
    try simp only[Act.put,zz1,zz2,zz3]
    refine wpAnyH_take (i:=8) (oi:=⟨some 36,_,_,_,_,_⟩) (v:=?_) rfl (by kernel_rfl) (by kernel_rfl) (by kernel_rfl) (fun _ _ _ h=>h) (Or.inl ⟨by rfl,?_⟩) (by assumption) ?_
    case refine_2=>(intro wz hSw;(try dsimp only at hSw);go_simp<;>with_reducible rfl)
    try simp only[Act.put,zz1,zz2,zz3]
    refine wpAnyH_take (i:=9) (oi:=⟨some 37,_,_,_,_,_⟩) (v:=undef) rfl (by kernel_rfl) (by kernel_rfl) (by kernel_rfl) (fun _ _ _ h=>h) (Or.inr ⟨by rfl,rfl⟩) (by assumption) ?_
    try simp only[Act.put,zz1,zz2,zz3]
    refine wpAnyH_take (i:=10) (oi:=⟨some 38,_,_,_,_,_⟩) (v:=undef) rfl (by kernel_rfl) (by kernel_rfl) (by kernel_rfl) (fun _ _ _ h=>h) (Or.inr ⟨by rfl,rfl⟩) (by assumption) ?_
    try simp only[Act.put,zz1,zz2,zz3]
    refine wpAnyH_take (i:=11) (oi:=⟨some 39,_,_,_,_,_⟩) (v:=undef) rfl (by kernel_rfl) (by kernel_rfl) (by kernel_rfl) (fun _ _ _ h=>h) (Or.inr ⟨by rfl,rfl⟩) (by assumption) ?_
    try simp only[Act.put,zz1,zz2,zz3]
    refine wpAnyH_take (i:=12) (oi:=⟨some 40,_,_,_,_,_⟩) (v:=undef) rfl (by kernel_rfl) (by kernel_rfl) (by kernel_rfl) (fun _ _ _ h=>h) (Or.inr ⟨by rfl,rfl⟩) (by assumption) ?_
    try simp only[Act.put,zz1,zz2,zz3]
    refine wpAnyH_take (i:=13) (oi:=⟨some 41,_,_,_,_,_⟩) (v:=undef) rfl (by kernel_rfl) (by kernel_rfl) (by kernel_rfl) (fun _ _ _ h=>h) (Or.inr ⟨by rfl,rfl⟩) (by assumption) ?_
    try simp only[Act.put,zz1,zz2,zz3]
    refine wpAnyH_take (i:=14) (oi:=⟨some 42,_,_,_,_,_⟩) (v:=undef) rfl (by kernel_rfl) (by kernel_rfl) (by kernel_rfl) (fun _ _ _ h=>h) (Or.inr ⟨by rfl,rfl⟩) (by assumption) ?_
    try simp only[Act.put,zz1,zz2,zz3]
    refine wpAnyH_take (i:=15) (oi:=⟨some 43,_,_,_,_,_⟩) (v:=undef) rfl (by kernel_rfl) (by kernel_rfl) (by kernel_rfl) (fun _ _ _ h=>h) (Or.inr ⟨by rfl,rfl⟩) (by assumption) ?_
    try simp only[Act.put,zz1,zz2,zz3]
    refine wpAnyH_take (i:=16) (oi:=⟨some 44,_,_,_,_,_⟩) (v:=undef) rfl (by kernel_rfl) (by kernel_rfl) (by kernel_rfl) (fun _ _ _ h=>h) (Or.inr ⟨by rfl,rfl⟩) (by assumption) ?_
    try simp only[Act.put,zz1,zz2,zz3]
    refine wpAnyH_take (i:=17) (oi:=⟨some 45,_,_,_,_,_⟩) (v:=undef) rfl (by kernel_rfl) (by kernel_rfl) (by kernel_rfl) (fun _ _ _ h=>h) (Or.inr ⟨by rfl,rfl⟩) (by assumption) ?_
    try simp only[Act.put,zz1,zz2,zz3]
    refine wpAnyH_take (i:=18) (oi:=⟨some 46,_,_,_,_,_⟩) (v:=?_) rfl (by kernel_rfl) (by kernel_rfl) (by kernel_rfl) (fun _ _ _ h=>h) (Or.inl ⟨by rfl,?_⟩) (by assumption) ?_
    case refine_2=>(intro wz hSw;(try dsimp only at hSw);go_simp<;>with_reducible rfl)
    try simp only[Act.put,zz1,zz2,zz3]
    refine wpAnyH_take (i:=19) (oi:=⟨some 6,_,_,_,_,_⟩) (v:=?_) rfl (by kernel_rfl) (by kernel_rfl) (by kernel_rfl) (fun _ _ _ h=>h) (Or.inl ⟨by rfl,?_⟩) (by assumption) ?_
    case refine_2=>(intro wz hSw;(try dsimp only at hSw);go_simp<;>with_reducible rfl)
    try simp only[Act.put,zz1,zz2,zz3]
    refine wpAnyH_done (by kernel_rfl) ?_ _
    go_wp2_with fail
    go_ret
    exact ⟨q06 HQ.out.symm,⟨_,HF5.out.below hb8⟩,HKB.out.trans (KB.of hb8 (Nat.le_of_lt (World.rowIs.lt HF5.out)))⟩
   ·by_cases hk2:((nd m).kn:Int)<=200
    ·have HQ:Hid (fitB nd m=fkB nd m):=by show fitB nd m=fkB nd m;rw[HV.out,hlb,decide_eq_true hk2];rfl
     have i1:(kN:Int)<39:=by omega
     have qk:decide (((nd m).kn:Int)<=200)=true:=decide_eq_true hk2
     refine wp_region_held_drew (S:=(fun w'=>w'.cell? ⟨w.heap.size,0,none⟩=some (.int .i64 (kN:Int))/\w'.cell? ⟨w.heap.size,1,none⟩=some (.int .i64 (nd m).l)/\w'.cell? ⟨w.heap.size,2,none⟩=some (.int .i64 (nd m).o)/\w'.cell? ⟨w.heap.size,3,none⟩=some (.int .i64 (nd m).n)/\w'.cell? ⟨w.heap.size,4,none⟩=some (.float .f64 (nd m).f)/\w'.cell? ⟨w.heap.size,5,none⟩=some (.string (nd m).s)/\w'.cell? ⟨w.heap.size,6,none⟩=some (.slice (nas m).ra (nd m).rn (nas m).rc)/\w'.cell? ⟨w.heap.size,7,none⟩=some (.slice (nas m).ka (nd m).kn (nas m).kc)/\w'.cell? ⟨F,1+kN,none⟩=some (mv F (stN kN)))) (by kernel_rfl) (HUS.out _ (Below.refl _ _).drew) (fun hHold=>?_)
     refine wpAnyH_take (i:=0) (oi:=⟨some 28,_,_,_,_,_⟩) (v:=?_) rfl (by kernel_rfl) (by kernel_rfl) (by kernel_rfl) (fun _ _ _ h=>h) (Or.inl ⟨by rfl,?_⟩) (by assumption) ?_
     case refine_2=>(intro wz hSw;(try dsimp only at hSw);go_simp<;>with_reducible rfl)
     try simp only[Act.put,zz1,zz2,zz3]
     refine wpAnyH_ready (rs:=[1]) (by kernel_rfl) (by simp) ?_
     refine AllReadyH.cons (o:=⟨some 29,_,_,_,_,_⟩) rfl (fun K hK=>?_) AllReadyH.nil
     go_simp
     refine (LF.out _).mono ?_
     rw[hlb]
     rintro e w8 ⟨rfl,hb8⟩
     replace hb8:Below w5.heap.size w5 w8:=q02 (Below.refl _ _).drew hb8
     dsimp only
     refine hK.out _ _ (HUS.out _ hb8) (fun hHeld=>?_)
     clear hK K hHold
     have hHold:=hHeld
     clear hHeld
     refine wpAnyH_take (i:=2) (oi:=⟨some 30,_,_,_,_,_⟩) (v:=?_) rfl (by kernel_rfl) (by kernel_rfl) (by kernel_rfl) (fun _ _ _ h=>h) (Or.inl ⟨by rfl,?_⟩) (by assumption) ?_
     case refine_2=>(intro wz hSw;(try dsimp only at hSw);go_simp<;>with_reducible rfl)
     try simp only[Act.put,zz1,zz2,zz3]
     refine wpAnyH_take (i:=3) (oi:=⟨some 31,_,_,_,_,_⟩) (v:=?_) rfl (by kernel_rfl) (by kernel_rfl) (by kernel_rfl) (fun _ _ _ h=>h) (Or.inl ⟨by rfl,?_⟩) (by assumption) ?_
     case refine_2=>(intro wz hSw;(try dsimp only at hSw);go_simp<;>with_reducible rfl)
     try simp only[Act.put,zz1,zz2,zz3]
     refine wpAnyH_take (i:=4) (oi:=⟨some 32,_,_,_,_,_⟩) (v:=?_) rfl (by kernel_rfl) (by kernel_rfl) (by kernel_rfl) (fun _ _ _ h=>h) (Or.inl ⟨by rfl,?_⟩) (by assumption) ?_
     case refine_2=>(intro wz hSw;(try dsimp only at hSw);go_simp<;>with_reducible rfl)
     try simp only[Act.put,zz1,zz2,zz3]
     refine wpAnyH_take (i:=5) (oi:=⟨some 33,_,_,_,_,_⟩) (v:=?_) rfl (by kernel_rfl) (by kernel_rfl) (by kernel_rfl) (fun _ _ _ h=>h) (Or.inl ⟨by rfl,?_⟩) (by assumption) ?_
     case refine_2=>(intro wz hSw;(try dsimp only at hSw);go_simp<;>with_reducible rfl)
     try simp only[Act.put,zz1,zz2,zz3]
     refine wpAnyH_take (i:=6) (oi:=⟨some 34,_,_,_,_,_⟩) (v:=?_) rfl (by kernel_rfl) (by kernel_rfl) (by kernel_rfl) (fun _ _ _ h=>h) (Or.inl ⟨by rfl,?_⟩) (by assumption) ?_
     case refine_2=>(intro wz hSw;(try dsimp only at hSw);go_simp<;>with_reducible rfl)
     try simp only[Act.put,zz1,zz2,zz3]
     refine wpAnyH_take (i:=7) (oi:=⟨some 35,_,_,_,_,_⟩) (v:=?_) rfl (by kernel_rfl) (by kernel_rfl) (by kernel_rfl) (fun _ _ _ h=>h) (Or.inl ⟨by rfl,?_⟩) (by assumption) ?_
     case refine_2=>(intro wz hSw;(try dsimp only at hSw);go_simp<;>with_reducible rfl)
     try simp only[Act.put,zz1,zz2,zz3]
     refine wpAnyH_take (i:=8) (oi:=⟨some 36,_,_,_,_,_⟩) (v:=?_) rfl (by kernel_rfl) (by kernel_rfl) (by kernel_rfl) (fun _ _ _ h=>h) (Or.inl ⟨by rfl,?_⟩) (by assumption) ?_
     case refine_2=>(intro wz hSw;(try dsimp only at hSw);go_simp<;>with_reducible rfl)
     try simp only[Act.put,zz1,zz2,zz3]
     refine wpAnyH_take (i:=9) (oi:=⟨some 37,_,_,_,_,_⟩) (v:=?_) rfl (by kernel_rfl) (by kernel_rfl) (by kernel_rfl) (fun _ _ _ h=>h) (Or.inl ⟨by rfl,?_⟩) (by assumption) ?_
     case refine_2=>(intro wz hSw;(try dsimp only at hSw);go_simp<;>with_reducible rfl)
     try simp only[Act.put,zz1,zz2,zz3]
     refine wpAnyH_take (i:=10) (oi:=⟨some 38,_,_,_,_,_⟩) (v:=?_) rfl (by kernel_rfl) (by kernel_rfl) (by kernel_rfl) (fun _ _ _ h=>h) (Or.inl ⟨by rfl,?_⟩) (by assumption) ?_
     case refine_2=>(intro wz hSw;(try dsimp only at hSw);go_simp<;>with_reducible rfl)
     try simp only[Act.put,zz1,zz2,zz3]
     refine wpAnyH_take (i:=11) (oi:=⟨some 39,_,_,_,_,_⟩) (v:=?_) rfl (by kernel_rfl) (by kernel_rfl) (by kernel_rfl) (fun _ _ _ h=>h) (Or.inl ⟨by rfl,?_⟩) (by assumption) ?_
     case refine_2=>(intro wz hSw;(try dsimp only at hSw);go_simp<;>with_reducible rfl)
     try simp only[Act.put,zz1,zz2,zz3]
     refine wpAnyH_take (i:=12) (oi:=⟨some 40,_,_,_,_,_⟩) (v:=?_) rfl (by kernel_rfl) (by kernel_rfl) (by kernel_rfl) (fun _ _ _ h=>h) (Or.inl ⟨by rfl,?_⟩) (by assumption) ?_
     case refine_2=>(intro wz hSw;(try dsimp only at hSw);go_simp<;>with_reducible rfl)
     try simp only[Act.put,zz1,zz2,zz3]
     refine wpAnyH_take (i:=13) (oi:=⟨some 41,_,_,_,_,_⟩) (v:=?_) rfl (by kernel_rfl) (by kernel_rfl) (by kernel_rfl) (fun _ _ _ h=>h) (Or.inl ⟨by rfl,?_⟩) (by assumption) ?_
     case refine_2=>(intro wz hSw;(try dsimp only at hSw);go_simp<;>with_reducible rfl)
     try simp only[Act.put,zz1,zz2,zz3]
     refine wpAnyH_take (i:=14) (oi:=⟨some 42,_,_,_,_,_⟩) (v:=?_) rfl (by kernel_rfl) (by kernel_rfl) (by kernel_rfl) (fun _ _ _ h=>h) (Or.inl ⟨by rfl,?_⟩) (by assumption) ?_
     case refine_2=>(intro wz hSw;(try dsimp only at hSw);go_simp<;>with_reducible rfl)
     try simp only[Act.put,zz1,zz2,zz3]
     refine wpAnyH_take (i:=15) (oi:=⟨some 43,_,_,_,_,_⟩) (v:=?_) rfl (by kernel_rfl) (by kernel_rfl) (by kernel_rfl) (fun _ _ _ h=>h) (Or.inl ⟨by rfl,?_⟩) (by assumption) ?_
     case refine_2=>(intro wz hSw;(try dsimp only at hSw);go_simp<;>with_reducible rfl)
     try simp only[Act.put,zz1,zz2,zz3]
     refine wpAnyH_take (i:=16) (oi:=⟨some 44,_,_,_,_,_⟩) (v:=?_) rfl (by kernel_rfl) (by kernel_rfl) (by kernel_rfl) (fun _ _ _ h=>h) (Or.inl ⟨by rfl,?_⟩) (by assumption) ?_
     case refine_2=>(intro wz hSw;(try dsimp only at hSw);go_simp<;>with_reducible rfl)
     try simp only[Act.put,zz1,zz2,zz3]
     refine wpAnyH_ready (rs:=[17]) (by kernel_rfl) (by simp) ?_
     refine AllReadyH.cons (o:=⟨some 45,_,_,_,_,_⟩) rfl (fun K hK=>?_) AllReadyH.nil
     go_simp
     rw[y77 kN hkv]
     dsimp only[Oper.upon]
     refine (FC.out _ hb8).mono ?_
     rintro e w9 ⟨rfl,hb9⟩
     replace hb9:Below w5.heap.size w5 w9:=q02 hb8 hb9
     dsimp only
     refine hK.out _ _ (HUS.out _ hb9) (fun hHeld=>?_)
     clear hK K hHold
     have hHold:=hHeld
     clear hHeld
     refine wpAnyH_take (i:=18) (oi:=⟨some 46,_,_,_,_,_⟩) (v:=?_) rfl (by kernel_rfl) (by kernel_rfl) (by kernel_rfl) (fun _ _ _ h=>h) (Or.inl ⟨by rfl,?_⟩) (by assumption) ?_
     case refine_2=>(intro wz hSw;(try dsimp only at hSw);go_simp<;>with_reducible rfl)
     try simp only[Act.put,zz1,zz2,zz3]
     refine wpAnyH_take (i:=19) (oi:=⟨some 6,_,_,_,_,_⟩) (v:=?_) rfl (by kernel_rfl) (by kernel_rfl) (by kernel_rfl) (fun _ _ _ h=>h) (Or.inl ⟨by rfl,?_⟩) (by assumption) ?_
     case refine_2=>(intro wz hSw;(try dsimp only at hSw);go_simp<;>with_reducible rfl)
     try simp only[Act.put,zz1,zz2,zz3]
     refine wpAnyH_done (by kernel_rfl) ?_ _
     go_wp2_with fail
     go_ret
     exact ⟨q06 HQ.out.symm,⟨_,HF5.out.below hb9⟩,HKB.out.trans (KB.of hb9 (Nat.le_of_lt (World.rowIs.lt HF5.out)))⟩
    ·have HQ:Hid (fitB nd m=false):=by show fitB nd m=false;rw[HV.out,hlb,decide_eq_false hk2];rfl
     have qk:decide (((nd m).kn:Int)<=200)=false:=decide_eq_false hk2
     have qk2:decide ((nd m).kn<=200)=false:=decide_eq_false (by omega)
     have i1:(kN:Int)<39:=by omega
     have i2:(0:Int)<=(kN:Int):=by omega
     refine wp_region_held_drew (S:=(fun w'=>w'.cell? ⟨w.heap.size,0,none⟩=some (.int .i64 (kN:Int))/\w'.cell? ⟨w.heap.size,1,none⟩=some (.int .i64 (nd m).l)/\w'.cell? ⟨w.heap.size,2,none⟩=some (.int .i64 (nd m).o)/\w'.cell? ⟨w.heap.size,3,none⟩=some (.int .i64 (nd m).n)/\w'.cell? ⟨w.heap.size,4,none⟩=some (.float .f64 (nd m).f)/\w'.cell? ⟨w.heap.size,5,none⟩=some (.string (nd m).s)/\w'.cell? ⟨w.heap.size,6,none⟩=some (.slice (nas m).ra (nd m).rn (nas m).rc)/\w'.cell? ⟨w.heap.size,7,none⟩=some (.slice (nas m).ka (nd m).kn (nas m).kc)/\w'.cell? ⟨F,1+kN,none⟩=some (mv F (stN kN)))) (by kernel_rfl) (HUS.out _ (Below.refl _ _).drew) (fun hHold=>?_)
     refine wpAnyH_take (i:=0) (oi:=⟨some 28,_,_,_,_,_⟩) (v:=?_) rfl (by kernel_rfl) (by kernel_rfl) (by kernel_rfl) (fun _ _ _ h=>h) (Or.inl ⟨by rfl,?_⟩) (by assumption) ?_
     case refine_2=>(intro wz hSw;(try dsimp only at hSw);go_simp<;>with_reducible rfl)
     try simp only[Act.put,zz1,zz2,zz3]
     refine wpAnyH_ready (rs:=[1]) (by kernel_rfl) (by simp) ?_
     refine AllReadyH.cons (o:=⟨some 29,_,_,_,_,_⟩) rfl (fun K hK=>?_) AllReadyH.nil
     go_simp
     refine (LF.out _).mono ?_
     rw[hlb]
     rintro e w8 ⟨rfl,hb8⟩
     replace hb8:Below w5.heap.size w5 w8:=q02 (Below.refl _ _).drew hb8
     dsimp only
     refine hK.out _ _ (HUS.out _ hb8) (fun hHeld=>?_)
     clear hK K hHold
     have hHold:=hHeld
     clear hHeld
     refine wpAnyH_take (i:=2) (oi:=⟨some 30,_,_,_,_,_⟩) (v:=?_) rfl (by kernel_rfl) (by kernel_rfl) (by kernel_rfl) (fun _ _ _ h=>h) (Or.inl ⟨by rfl,?_⟩) (by assumption) ?_
     case refine_2=>(intro wz hSw;(try dsimp only at hSw);go_simp<;>with_reducible rfl)
     try simp only[Act.put,zz1,zz2,zz3]
     refine wpAnyH_take (i:=3) (oi:=⟨some 31,_,_,_,_,_⟩) (v:=?_) rfl (by kernel_rfl) (by kernel_rfl) (by kernel_rfl) (fun _ _ _ h=>h) (Or.inl ⟨by rfl,?_⟩) (by assumption) ?_
     case refine_2=>(intro wz hSw;(try dsimp only at hSw);go_simp<;>with_reducible rfl)
     try simp only[Act.put,zz1,zz2,zz3]
     refine wpAnyH_take (i:=4) (oi:=⟨some 32,_,_,_,_,_⟩) (v:=?_) rfl (by kernel_rfl) (by kernel_rfl) (by kernel_rfl) (fun _ _ _ h=>h) (Or.inl ⟨by rfl,?_⟩) (by assumption) ?_
     case refine_2=>(intro wz hSw;(try dsimp only at hSw);go_simp<;>with_reducible rfl)
     try simp only[Act.put,zz1,zz2,zz3]
     refine wpAnyH_take (i:=5) (oi:=⟨some 33,_,_,_,_,_⟩) (v:=?_) rfl (by kernel_rfl) (by kernel_rfl) (by kernel_rfl) (fun _ _ _ h=>h) (Or.inl ⟨by rfl,?_⟩) (by assumption) ?_
     case refine_2=>(intro wz hSw;(try dsimp only at hSw);go_simp<;>with_reducible rfl)
     try simp only[Act.put,zz1,zz2,zz3]
     refine wpAnyH_take (i:=6) (oi:=⟨some 34,_,_,_,_,_⟩) (v:=?_) rfl (by kernel_rfl) (by kernel_rfl) (by kernel_rfl) (fun _ _ _ h=>h) (Or.inl ⟨by rfl,?_⟩) (by assumption) ?_
     case refine_2=>(intro wz hSw;(try dsimp only at hSw);go_simp<;>with_reducible rfl)
     try simp only[Act.put,zz1,zz2,zz3]
     refine wpAnyH_take (i:=7) (oi:=⟨some 35,_,_,_,_,_⟩) (v:=?_) rfl (by kernel_rfl) (by kernel_rfl) (by kernel_rfl) (fun _ _ _ h=>h) (Or.inl ⟨by rfl,?_⟩) (by assumption) ?_
     case refine_2=>(intro wz hSw;(try dsimp only at hSw);go_simp<;>with_reducible rfl)
     try simp only[Act.put,zz1,zz2,zz3]
     refine wpAnyH_take (i:=8) (oi:=⟨some 36,_,_,_,_,_⟩) (v:=?_) rfl (by kernel_rfl) (by kernel_rfl) (by kernel_rfl) (fun _ _ _ h=>h) (Or.inl ⟨by rfl,?_⟩) (by assumption) ?_
     case refine_2=>(intro wz hSw;(try dsimp only at hSw);go_simp<;>with_reducible rfl)
     try simp only[Act.put,zz1,zz2,zz3]
     refine wpAnyH_take (i:=9) (oi:=⟨some 37,_,_,_,_,_⟩) (v:=undef) rfl (by kernel_rfl) (by kernel_rfl) (by kernel_rfl) (fun _ _ _ h=>h) (Or.inr ⟨by rfl,rfl⟩) (by assumption) ?_
     try simp only[Act.put,zz1,zz2,zz3]
     refine wpAnyH_take (i:=10) (oi:=⟨some 38,_,_,_,_,_⟩) (v:=undef) rfl (by kernel_rfl) (by kernel_rfl) (by kernel_rfl) (fun _ _ _ h=>h) (Or.inr ⟨by rfl,rfl⟩) (by assumption) ?_
     try simp only[Act.put,zz1,zz2,zz3]
     refine wpAnyH_take (i:=11) (oi:=⟨some 39,_,_,_,_,_⟩) (v:=undef) rfl (by kernel_rfl) (by kernel_rfl) (by kernel_rfl) (fun _ _ _ h=>h) (Or.inr ⟨by rfl,rfl⟩) (by assumption) ?_
     try simp only[Act.put,zz1,zz2,zz3]
     refine wpAnyH_take (i:=12) (oi:=⟨some 40,_,_,_,_,_⟩) (v:=undef) rfl (by kernel_rfl) (by kernel_rfl) (by kernel_rfl) (fun _ _ _ h=>h) (Or.inr ⟨by rfl,rfl⟩) (by assumption) ?_
     try simp only[Act.put,zz1,zz2,zz3]
     refine wpAnyH_take (i:=13) (oi:=⟨some 41,_,_,_,_,_⟩) (v:=undef) rfl (by kernel_rfl) (by kernel_rfl) (by kernel_rfl) (fun _ _ _ h=>h) (Or.inr ⟨by rfl,rfl⟩) (by assumption) ?_
     try simp only[Act.put,zz1,zz2,zz3]
     refine wpAnyH_take (i:=14) (oi:=⟨some 42,_,_,_,_,_⟩) (v:=undef) rfl (by kernel_rfl) (by kernel_rfl) (by kernel_rfl) (fun _ _ _ h=>h) (Or.inr ⟨by rfl,rfl⟩) (by assumption) ?_
     try simp only[Act.put,zz1,zz2,zz3]
     refine wpAnyH_take (i:=15) (oi:=⟨some 43,_,_,_,_,_⟩) (v:=undef) rfl (by kernel_rfl) (by kernel_rfl) (by kernel_rfl) (fun _ _ _ h=>h) (Or.inr ⟨by rfl,rfl⟩) (by assumption) ?_
     try simp only[Act.put,zz1,zz2,zz3]
     refine wpAnyH_take (i:=16) (oi:=⟨some 44,_,_,_,_,_⟩) (v:=undef) rfl (by kernel_rfl) (by kernel_rfl) (by kernel_rfl) (fun _ _ _ h=>h) (Or.inr ⟨by rfl,rfl⟩) (by assumption) ?_
     try simp only[Act.put,zz1,zz2,zz3]
     refine wpAnyH_take (i:=17) (oi:=⟨some 45,_,_,_,_,_⟩) (v:=undef) rfl (by kernel_rfl) (by kernel_rfl) (by kernel_rfl) (fun _ _ _ h=>h) (Or.inr ⟨by rfl,rfl⟩) (by assumption) ?_
     try simp only[Act.put,zz1,zz2,zz3]
     refine wpAnyH_take (i:=18) (oi:=⟨some 46,_,_,_,_,_⟩) (v:=?_) rfl (by kernel_rfl) (by kernel_rfl) (by kernel_rfl) (fun _ _ _ h=>h) (Or.inl ⟨by rfl,?_⟩) (by assumption) ?_
     case refine_2=>(intro wz hSw;(try dsimp only at hSw);go_simp<;>with_reducible rfl)
     try simp only[Act.put,zz1,zz2,zz3]
     refine wpAnyH_take (i:=19) (oi:=⟨some 6,_,_,_,_,_⟩) (v:=?_) rfl (by kernel_rfl) (by kernel_rfl) (by kernel_rfl) (fun _ _ _ h=>h) (Or.inl ⟨by rfl,?_⟩) (by assumption) ?_
     case refine_2=>(intro wz hSw;(try dsimp only at hSw);go_simp<;>with_reducible rfl)
     try simp only[Act.put,zz1,zz2,zz3]
     refine wpAnyH_done (by kernel_rfl) ?_ _
     go_wp2_with fail
     go_ret
     exact ⟨q06 HQ.out.symm,⟨_,HF5.out.below hb8⟩,HKB.out.trans (KB.of hb8 (Nat.le_of_lt (World.rowIs.lt HF5.out)))⟩
 ·have hf:fitB nd m=false:=by
   have h1:stK (nd m).k=false:=by unfold stK;simp;omega
   have h2:exK (nd m).k=false:=by unfold exK;simp;omega
   unfold fitB
   rw[h1,h2]
   rfl
  have hs1:setB 32766 (nd m).k=false:=by rw[zu3];unfold stK;simp;omega
  have hs2:setB 549754765312 (nd m).k=false:=by rw[zf1];unfold exK;simp;omega
  have HV:Hid (fitB nd m=false):=hf
  clear hf hk
  go_enter Tryz.func72,Tryz.ntmps72
  go_wp2_with fail
  refine (q70 32766 (by decide) _ _).mono ?_
  rw[hs1]
  rintro e w1 ⟨rfl,rfl⟩
  go_wp2_with fail
  refine (q70 549754765312 (by decide) _ _).mono ?_
  rw[hs2]
  rintro e w1 ⟨rfl,rfl⟩
  go_wp2_with fail
  go_ret
  exact ⟨q06 HV.out.symm,⟨s,HF.out.alloc _⟩,KB.of (q01 _ _) (by omega)⟩
def qh1 (u:UD) (f n:Nat):Prop:=shB (u.fn f).nd n=false
theorem y87 {u:UD} {f n:Nat} (hf:f<u.n) (hn:n<(u.fn f).nn) (h3:∀ f',f'<f->∀ n',n'<(u.fn f').nn->¬qh1 u f' n') (h4:∀ n',n'<n->¬qh1 u f n') (h5:qh1 u f n):Least (Bad3 u) ⟨3,f,n⟩:=At2.least (by decide) h3 h4 hf hn h5
theorem yh3 {u:UD} (h2:∀ f',f'<u.n->∀ n',n'<(u.fn f').nn->¬qh1 u f' n'):Least (Bad3 u) ft0:=Least.zero (At2.none h2)
theorem qr4 (L:Nat) (u:UD) (a:Option Addr) (cap:Nat) (fas:Nat->FA) (w:World) (hs:u.sm) (hz:qj4 u) (hc:∀ i,i<u.n->CapF (u.fn i) (fas i)) (hT:FnsAt L w u.n u.fn a fas) :
  Calls Tryz.prog 39 #[unV u a cap] w fun e w'=>FtPost (Bad3 u) w e w':=by
 have HT:Hid (FnsAt L w u.n u.fn a fas):=hT
 have HS:Hid u.sm:=hs
 have HZ:Hid (qj4 u):=hz
 have HC:Hid (∀ i,i<u.n->CapF (u.fn i) (fas i)):=hc
 have hun:=hz.2.1
 obtain ⟨b,off,e0,_,hb,_⟩:=cells7 hT.1 (show 0<u.n from hz.1)
 subst e0
 clear hT hs hz hc
 have ez:Hid ((fxW w u (some ⟨b,off,none⟩) cap).heap.size=w.heap.size+1 + 1):=by show _=_;simp
 go_enter Tryz.func39,Tryz.ntmps39
 go_wp2_with (go_at_call 71;refine (qt9 _).mono ?_;rintro e w1 ⟨rfl,hw1⟩;have HB1:Hid (Below (fxW w u (some ⟨b,off,none⟩) cap).heap.size (fxW w u (some ⟨b,off,none⟩) cap) w1):=(by show Below _ _ _;rw[hw1];exact q01 _ _);have HF1:Hid (∃ s,FRow w1 (w.heap.size+1 + 1) s):=(by have h:=FRow.new (fxW w u (some ⟨b,off,none⟩) cap);rw[<-hw1,ez.out] at h;exact ⟨_,h⟩);have u0:=(fx_u HB1.out).cell 0 rfl;clear hw1)
 clear u0
 go_loopw [11] (fun i wr=>∃ (k:Nat),k<=u.n/\i=.int .i64 k/\Hid (∀ f',f'<k->∀ n',n'<(u.fn f').nn->¬qh1 u f' n')/\Hid (Below (fxW w u (some ⟨b,off,none⟩) cap).heap.size (fxW w u (some ⟨b,off,none⟩) cap) wr)/\Hid (∃ s,FRow wr (w.heap.size+1 + 1) s)) (fun i _=>u.n-(intOf i).toNat)
 case atStart=>exact ⟨0,Nat.zero_le _,rfl,fun f' hf'=>by omega,HB1,HF1⟩
 case round=>
  clear HB1 HF1
  obtain ⟨k,hk,rfl,HF,HB,HV⟩:=hrel
  by_cases hkn:k<u.n
  ·have HTr:Hid (FnsAt L wr u.n u.fn (some ⟨b,off,none⟩) fas):=HT.out.below (q17 HB.out)
   obtain ⟨b',off',e0,_,hbz,d0,d1,d2,d3,d4,d5,d6⟩:=cells7 HTr.out.1 hkn
   obtain ⟨rfl,rfl⟩:b=b'/\off=off':=by simpa using e0
   clear e0
   have hnn:(u.fn k).nn<=3000:=Nat.le_trans (zt2 u.fn u.n k hkn) HZ.out.2.2
   rename World=>wa
   have hFw:w.heap.size+1 + 1<wa.heap.size:=by obtain ⟨s,h⟩:=HV.out;exact World.rowIs.lt h
   have HX0:Hid (Has (wa.alloc (.cells (fnC (u.fn k) (fas k)) 91)) wa.heap.size (fnC (u.fn k) (fas k))):=Has.new _ _ _
   have HB0:Hid (Below (fxW w u (some ⟨b,off,none⟩) cap).heap.size (fxW w u (some ⟨b,off,none⟩) cap) (wa.alloc (.cells (fnC (u.fn k) (fas k)) 91))):=q03 HB.out _
   have HV0:Hid (∃ s,FRow (wa.alloc (.cells (fnC (u.fn k) (fas k)) 91)) (w.heap.size+1 + 1) s):=by obtain ⟨s,h⟩:=HV.out;exact ⟨s,h.alloc _⟩
   go_wp2_with fail
   clear d0 d1 d2 d3 d4 d5 d6
   go_loopw [19] (fun i wr=>∃ (m:Nat),m<=(u.fn k).nn/\i=.int .i64 m/\Hid (∀ n',n'<m->¬qh1 u k n')/\Hid (Below (fxW w u (some ⟨b,off,none⟩) cap).heap.size (fxW w u (some ⟨b,off,none⟩) cap) wr)/\Hid (∃ s,FRow wr (w.heap.size+1 + 1) s)/\Hid (Has wr wa.heap.size (fnC (u.fn k) (fas k)))) (fun i _=>(u.fn k).nn-(intOf i).toNat)
   case atStart=>exact ⟨0,Nat.zero_le _,rfl,fun f' hf'=>by omega,HB0,HV0,HX0⟩
   case round=>
    clear HB HV HTr HX0 HB0 HV0
    obtain ⟨m,hm,rfl,HN,HB,HV,HX⟩:=hrel
    by_cases hmn:m<(u.fn k).nn
    ·have y6:wr.cell? ⟨wa.heap.size,6,none⟩=some (.slice (fas k).na (u.fn k).nn (fas k).nc):=HX.out.cell 6 rfl
     obtain ⟨s,hs⟩:=HV.out
     have HC1:=(HC.out k hkn)
     have HN0:Hid (NodesAt 0 (fxW w u (some ⟨b,off,none⟩) cap) (u.fn k).nn (u.fn k).nd (fas k).na (fas k).nas):=((HT.out.below (q17 (Below.refl _ _))).2 k hkn).2.2.less (Nat.zero_le _)
     have HFC:Hid (Calls Tryz.prog 72 #[.pointer (some ⟨w.heap.size+1 + 1,0,none⟩),.slice (fas k).na (u.fn k).nn (fas k).nc,.int .i64 m] wr fun e w'=>z45 (u.fn k).nd m (w.heap.size+1 + 1) wr e w'):=zq6 (w.heap.size+1 + 1) (u.fn k).nn (u.fn k).nd (fas k).na (fas k).nc (fas k).nas m s (fxW w u (some ⟨b,off,none⟩) cap) wr hmn (by omega) HC1.1 ((HS.out.fn k hkn).nd m hmn) (HC1.2 m hmn) HN0.out (Nat.le_of_eq ez.out) HB.out hs
     clear hs HC1 HN0
     cases hfb:fitB (u.fn k).nd m
     ·have HL:Hid (Least (Bad3 u) ⟨3,k,m⟩):=y87 hkn hmn HF.out HN.out (by show shB _ _=false;rw[<-ya8];exact hfb)
      go_wp2_with (go_at_call 72;refine HFC.out.mono ?_;unfold z45;rw[hfb];rintro e w8 ⟨rfl,hF8,hk8⟩;have HB8:Hid (Below (fxW w u (some ⟨b,off,none⟩) cap).heap.size (fxW w u (some ⟨b,off,none⟩) cap) w8):=HB.out.trans (hk8.low.mono (Nat.le_of_eq ez.out));have s0:=(q07 HB8.out).cell (i:=0) (by omega);have s1:=(q07 HB8.out).cell (i:=1) (by omega);have s2:=(q07 HB8.out).cell (i:=2) (by omega);have sz:=(q07 HB8.out).frozen)
      refine bodyPost_ret (v:=ftV ⟨3,k,m⟩) (by simp[results,Tryz.results39,go_sem,s0,s1,s2]) rfl ?_
      exact FtPost.of HL.out (q46 (q17 HB8.out) _ _ _)
     ·have HG:Hid (¬qh1 u k m):=by
       show ¬(shB _ _=false)
       rw[<-ya8,hfb]
       simp
      go_wp2_with (go_at_call 72;refine HFC.out.mono ?_;unfold z45;rw[hfb];rintro e w8 ⟨rfl,hF8,hk8⟩;have HV8:Hid (∃ s,FRow w8 (w.heap.size+1 + 1) s):=hF8;have HK8:Hid (KB (w.heap.size+1 + 1) wr w8):=hk8;clear hF8 hk8)
      have HB8:Hid (Below (fxW w u (some ⟨b,off,none⟩) cap).heap.size (fxW w u (some ⟨b,off,none⟩) cap) w8):=HB.out.trans (HK8.out.low.mono (Nat.le_of_eq ez.out))
      have HX8:Hid (Has w8 wa.heap.size (fnC (u.fn k) (fas k))):=HK8.out.has _ _ (by omega) HX.out
      go_roundw
      case rel=>exact ⟨m+1,by omega,by go_num,fun j hj=>by
       by_cases e:j=m
       ·subst e;exact HG.out
       ·exact HN.out j (by omega),HB8,HV8,HX8⟩
      case measure=>simp[intOf];omega
    ·obtain rfl:m=(u.fn k).nn:=by omega
     go_wp2_with fail
     go_roundw
     case rel=>exact ⟨k+1,by omega,by go_num,fun j hj=>by
      by_cases e:j=k
      ·subst e;exact HN.out
      ·exact HF.out j (by omega),HB,HV⟩
     case measure=>simp[intOf];omega
  ·obtain rfl:k=u.n:=by omega
   have HL:Hid (Least (Bad3 u) ⟨0,0,0⟩):=yh3 HF.out
   have s0:=(q07 HB.out).cell (i:=0) (by omega)
   have s1:=(q07 HB.out).cell (i:=1) (by omega)
   have s2:=(q07 HB.out).cell (i:=2) (by omega)
   have sz:=(q07 HB.out).frozen
   go_wp2_with fail
   refine bodyPost_ret (v:=ftV ⟨0,0,0⟩) (by simp[results,Tryz.results39,go_sem,s0,s1,s2]) rfl ?_
   exact FtPost.of HL.out (q46 (q17 HB.out) _ _ _)
theorem Least.in {P:FT->Prop} {x:FT} (h:Least P x) (h0:x.c≠0):P x:=by
 rcases h with ⟨rfl,_⟩|⟨_,h,_⟩
 ·exact absurd rfl h0
 ·exact h
def BadI (u:UD):Nat->FT->Prop
 |0=>Bad1 u
 |1=>Bad2 u
 |2=>Bad3 u
 |3=>Bad4 u
 |4=>Bad5 u
 |_=>BadS u
theorem yb2 {u:UD} {y:FT} (h:BadU u y):∃ j,j<6/\BadI u j y:=by
 rcases h with h|h|h|h|h|h
 ·exact ⟨0,by omega,h⟩
 ·exact ⟨1,by omega,h⟩
 ·exact ⟨2,by omega,h⟩
 ·exact ⟨3,by omega,h⟩
 ·exact ⟨4,by omega,h⟩
 ·exact ⟨5,by omega,h⟩
theorem yn6 {u:UD} {y:FT} {j:Nat} (hj:j<6) (h:BadI u j y):BadU u y:=by
 rcases (show j=0\/j=1\/j=2\/j=3\/j=4\/j=5 by omega) with rfl|rfl|rfl|rfl|rfl|rfl
 ·exact .inl h
 ·exact .inr (.inl h)
 ·exact .inr (.inr (.inl h))
 ·exact .inr (.inr (.inr (.inl h)))
 ·exact .inr (.inr (.inr (.inr (.inl h))))
 ·exact .inr (.inr (.inr (.inr (.inr h))))
theorem zc5 {u:UD} {y:FT} {j:Nat} (hj:j<6) (h:BadI u j y):j+1<=y.c/\(j<5->y.c=j+1):=by
 rcases (show j=0\/j=1\/j=2\/j=3\/j=4\/j=5 by omega) with rfl|rfl|rfl|rfl|rfl|rfl
 ·have:=h.1;omega
 ·have:=h.1;omega
 ·have:=h.1;omega
 ·have:=h.1;omega
 ·have:=h.1;omega
 ·have:=y23 h;omega
theorem qk8 {u:UD} {k:Nat} {x:FT} (hk:k<6) (hn:∀ j,j<k->∀ y,¬BadI u j y) (h:Least (BadI u k) x) (h0:x.c≠0):Least (BadU u) x:=by
 have hx:=h.in h0
 refine .inr ⟨by omega,yn6 hk hx,fun y hy=>?_⟩
 obtain ⟨j,hj,hy⟩:=yb2 hy
 by_cases e:j<k
 ·exact absurd hy (hn j e y)
 ·by_cases e2:j=k
  ·subst e2
   rcases h with ⟨rfl,_⟩|⟨_,_,h⟩
   ·exact absurd rfl h0
   ·exact h y hy
  ·have h1:=zc5 hk hx
   have h2:=zc5 hj hy
   exact .inl (by have:=h1.2 (by omega);omega)
theorem yh0 {u:UD} (hn:∀ j,j<6->∀ y,¬BadI u j y):Least (BadU u) ft0:=Least.zero fun y hy=>by
 obtain ⟨j,hj,hy⟩:=yb2 hy
 exact hn j hj y hy
theorem yo6 {u:UD} (h1:∀ y,¬Bad1 u y):qj4 u:=Classical.byContradiction fun h=>At2.no h1 0 (by omega) 0 (by omega) h
def qs9:Prop:=∀ (L:Nat) (u:UD) (a:Option Addr) (cap:Nat) (fas:Nat->FA) (w:World),u.sm->U5 u->(∀ y,¬Bad5 u y)->(∀ i,i<u.n->CapF (u.fn i) (fas i))->FnsAt L w u.n u.fn a fas->
 Calls Tryz.prog 42 #[unV u a cap] w fun e w'=>FtPost (BadS u) w e w'
theorem zc0 (hD:qt3) (hX:qs9) (L:Nat) (u:UD) (a:Option Addr) (cap:Nat) (fas:Nat->FA) (w:World) (hs:u.sm) (hc:∀ i,i<u.n->CapF (u.fn i) (fas i)) (hT:FnsAt L w u.n u.fn a fas) :
  Calls Tryz.prog 24 #[unV u a cap] w fun e w'=>FtPost (BadU u) w e w':=by
 have HD:Hid qt3:=hD
 have HX:Hid qs9:=hX
 have HT:Hid (FnsAt L w u.n u.fn a fas):=hT
 have HS:Hid u.sm:=hs
 have HC:Hid (∀ i,i<u.n->CapF (u.fn i) (fas i)):=hc
 clear hT hs hD hX hc
 go_enter Tryz.func24,Tryz.ntmps24
 go_wp2_with fail
 obtain ⟨w3,hw3⟩:∃ w3,w3=(fxW w u a cap).alloc (.cells #[.func (.func 37) #[] #[],.func (.func 38) #[] #[],.func (.func 39) #[] #[],.func (.func 40) #[] #[],.func (.func 41) #[] #[],.func (.func 42) #[] #[]] 61):=⟨_,rfl⟩
 have HB3:Hid (Below (fxW w u a cap).heap.size (fxW w u a cap) w3):=by show Below _ _ _;rw[hw3];exact q01 _ _
 have HR3:Hid (Has w3 (w.heap.size+1 + 1) #[.func (.func 37) #[] #[],.func (.func 38) #[] #[],.func (.func 39) #[] #[],.func (.func 40) #[] #[],.func (.func 41) #[] #[],.func (.func 42) #[] #[]]):=by
  have h:=Has.new (fxW w u a cap) #[.func (.func 37) #[] #[],.func (.func 38) #[] #[],.func (.func 39) #[] #[],.func (.func 40) #[] #[],.func (.func 41) #[] #[],.func (.func 42) #[] #[]] 61
  rw[<-hw3] at h
  show Has _ _ _
  simpa using h
 simp only[fxW] at hw3
 rw[<-hw3]
 clear hw3
 go_loopw [8] (fun i wr=>∃ (k:Nat),k<=6/\i=.int .i64 k/\Hid (∀ j,j<k->∀ y,¬BadI u j y)/\Hid (Below (fxW w u a cap).heap.size (fxW w u a cap) wr)/\Hid (Has wr (w.heap.size+1 + 1) #[.func (.func 37) #[] #[],.func (.func 38) #[] #[],.func (.func 39) #[] #[],.func (.func 40) #[] #[],.func (.func 41) #[] #[],.func (.func 42) #[] #[]])) (fun i _=>6-(intOf i).toNat)
 case atStart=>exact ⟨0,by omega,rfl,fun j hj=>by omega,HB3,HR3⟩
 case round=>
  clear HB3 HR3
  obtain ⟨k,hk,rfl,HN,HB,HR⟩:=hrel
  have hW:=q17 HB.out
  have f0:wr.cell? ⟨w.heap.size,0,none⟩=some (.slice a u.n cap):=(fx_u HB.out).cell 0 rfl
  rcases (show k=0\/k=1\/k=2\/k=3\/k=4\/k=5\/k=6 by omega) with rfl|rfl|rfl|rfl|rfl|rfl|rfl
  ·have g0:wr.cell? ⟨w.heap.size+1 + 1,0,none⟩=some (.func (.func 37) #[] #[]):=HR.out.cell 0 rfl
   have LK:Hid (Calls Tryz.prog 37 #[unV u a cap] wr fun e w'=>FtPost (BadI u 0) wr e w'):=qo5 L u a cap fas wr HS.out (HT.out.below hW)
   go_upto_region 5 with (go_at_call 37;refine LK.out.mono ?_;rintro e w1 ⟨⟨c1,f1,n1⟩,rfl,hL1,hb1⟩;have HL1:Hid (Least (BadI u 0) ⟨c1,f1,n1⟩):=hL1;clear hL1)
   clear g0 f0 hW LK
   obtain ⟨wA,hwA⟩:∃ wA,wA=w1.alloc (.cells #[.int .i64 (c1:Int),.int .i64 (f1:Int),.int .i64 (n1:Int)] 60):=⟨_,rfl⟩
   have HB1:Hid (Below (fxW w u a cap).heap.size (fxW w u a cap) wA):=by show Below _ _ _;rw[hwA];exact q03 (q02 HB.out hb1) _
   have HA:Hid (Has wA w1.heap.size #[.int .i64 (c1:Int),.int .i64 (f1:Int),.int .i64 (n1:Int)]):=by show Has _ _ _;rw[hwA];exact Has.new _ _ _
   have HR1:Hid (Has wA (w.heap.size+1 + 1) #[.func (.func 37) #[] #[],.func (.func 38) #[] #[],.func (.func 39) #[] #[],.func (.func 40) #[] #[],.func (.func 41) #[] #[],.func (.func 42) #[] #[]]):=by show Has _ _ _;rw[hwA];exact (HR.out.call hb1).alloc _
   rw[<-hwA]
   clear hwA hb1
   have a0:wA.cell? ⟨w1.heap.size,0,none⟩=some (.int .i64 (c1:Int)):=HA.out.cell 0 rfl
   have a1:wA.cell? ⟨w1.heap.size,1,none⟩=some (.int .i64 (f1:Int)):=HA.out.cell 1 rfl
   have a2:wA.cell? ⟨w1.heap.size,2,none⟩=some (.int .i64 (n1:Int)):=HA.out.cell 2 rfl
   by_cases c0:c1=0
   ·have hz:=HL1.out.nil c0
    have HN1:Hid (∀ j,j<0+1->∀ y,¬BadI u j y):=fun j hj=>by
     by_cases e:j=0
     ·subst e
      have h:=HL1.out
      rw[hz] at h
      exact h.none
     ·exact HN.out j (by omega)
    obtain ⟨rfl,rfl,rfl⟩:c1=0/\f1=0/\n1=0:=by simpa[ft0] using hz
    clear hz HL1 c0
    go_wp2_with fail
    go_roundw
    case rel=>exact ⟨0+1,by omega,by go_num,HN1,HB1,HR1⟩
    case measure=>simp[intOf]
   ·have s0:=(q07 HB1.out).cell (i:=0) (by omega)
    have s1:=(q07 HB1.out).cell (i:=1) (by omega)
    have s2:=(q07 HB1.out).cell (i:=2) (by omega)
    have sz:=(q07 HB1.out).frozen
    have HQ:Hid (Least (BadU u) ⟨c1,f1,n1⟩):=qk8 (by omega) HN.out HL1.out c0
    have q1:((c1:Int)==0)=false:=by simp;omega
    have q2:((c1:Int) != 0)=true:=by simp;omega
    go_wp2_with fail
    refine bodyPost_ret (v:=ftV ⟨c1,f1,n1⟩) (by simp[results,Tryz.results24,go_sem,s0,s1,s2]) rfl ?_
    exact FtPost.of HQ.out (q46 (q17 HB1.out) _ _ _)
  ·have g0:wr.cell? ⟨w.heap.size+1 + 1,1,none⟩=some (.func (.func 38) #[] #[]):=HR.out.cell 1 rfl
   have LK:Hid (Calls Tryz.prog 38 #[unV u a cap] wr fun e w'=>FtPost (BadI u 1) wr e w'):=z28 L u a cap fas wr HS.out (HT.out.below hW)
   go_upto_region 5 with (go_at_call 38;refine LK.out.mono ?_;rintro e w1 ⟨⟨c1,f1,n1⟩,rfl,hL1,hb1⟩;have HL1:Hid (Least (BadI u 1) ⟨c1,f1,n1⟩):=hL1;clear hL1)
   clear g0 f0 hW LK
   obtain ⟨wA,hwA⟩:∃ wA,wA=w1.alloc (.cells #[.int .i64 (c1:Int),.int .i64 (f1:Int),.int .i64 (n1:Int)] 60):=⟨_,rfl⟩
   have HB1:Hid (Below (fxW w u a cap).heap.size (fxW w u a cap) wA):=by show Below _ _ _;rw[hwA];exact q03 (q02 HB.out hb1) _
   have HA:Hid (Has wA w1.heap.size #[.int .i64 (c1:Int),.int .i64 (f1:Int),.int .i64 (n1:Int)]):=by show Has _ _ _;rw[hwA];exact Has.new _ _ _
   have HR1:Hid (Has wA (w.heap.size+1 + 1) #[.func (.func 37) #[] #[],.func (.func 38) #[] #[],.func (.func 39) #[] #[],.func (.func 40) #[] #[],.func (.func 41) #[] #[],.func (.func 42) #[] #[]]):=by show Has _ _ _;rw[hwA];exact (HR.out.call hb1).alloc _
   rw[<-hwA]
   clear hwA hb1
   have a0:wA.cell? ⟨w1.heap.size,0,none⟩=some (.int .i64 (c1:Int)):=HA.out.cell 0 rfl
   have a1:wA.cell? ⟨w1.heap.size,1,none⟩=some (.int .i64 (f1:Int)):=HA.out.cell 1 rfl
   have a2:wA.cell? ⟨w1.heap.size,2,none⟩=some (.int .i64 (n1:Int)):=HA.out.cell 2 rfl
   by_cases c0:c1=0
   ·have hz:=HL1.out.nil c0
    have HN1:Hid (∀ j,j<1+1->∀ y,¬BadI u j y):=fun j hj=>by
     by_cases e:j=1
     ·subst e
      have h:=HL1.out
      rw[hz] at h
      exact h.none
     ·exact HN.out j (by omega)
    obtain ⟨rfl,rfl,rfl⟩:c1=0/\f1=0/\n1=0:=by simpa[ft0] using hz
    clear hz HL1 c0
    go_wp2_with fail
    go_roundw
    case rel=>exact ⟨1+1,by omega,by go_num,HN1,HB1,HR1⟩
    case measure=>simp[intOf]
   ·have s0:=(q07 HB1.out).cell (i:=0) (by omega)
    have s1:=(q07 HB1.out).cell (i:=1) (by omega)
    have s2:=(q07 HB1.out).cell (i:=2) (by omega)
    have sz:=(q07 HB1.out).frozen
    have HQ:Hid (Least (BadU u) ⟨c1,f1,n1⟩):=qk8 (by omega) HN.out HL1.out c0
    have q1:((c1:Int)==0)=false:=by simp;omega
    have q2:((c1:Int) != 0)=true:=by simp;omega
    go_wp2_with fail
    refine bodyPost_ret (v:=ftV ⟨c1,f1,n1⟩) (by simp[results,Tryz.results24,go_sem,s0,s1,s2]) rfl ?_
    exact FtPost.of HQ.out (q46 (q17 HB1.out) _ _ _)
  ·have g0:wr.cell? ⟨w.heap.size+1 + 1,2,none⟩=some (.func (.func 39) #[] #[]):=HR.out.cell 2 rfl
   have LK:Hid (Calls Tryz.prog 39 #[unV u a cap] wr fun e w'=>FtPost (BadI u 2) wr e w'):=qr4 L u a cap fas wr HS.out (yo6 (HN.out 0 (by omega))) HC.out (HT.out.below hW)
   go_upto_region 5 with (go_at_call 39;refine LK.out.mono ?_;rintro e w1 ⟨⟨c1,f1,n1⟩,rfl,hL1,hb1⟩;have HL1:Hid (Least (BadI u 2) ⟨c1,f1,n1⟩):=hL1;clear hL1)
   clear g0 f0 hW LK
   obtain ⟨wA,hwA⟩:∃ wA,wA=w1.alloc (.cells #[.int .i64 (c1:Int),.int .i64 (f1:Int),.int .i64 (n1:Int)] 60):=⟨_,rfl⟩
   have HB1:Hid (Below (fxW w u a cap).heap.size (fxW w u a cap) wA):=by show Below _ _ _;rw[hwA];exact q03 (q02 HB.out hb1) _
   have HA:Hid (Has wA w1.heap.size #[.int .i64 (c1:Int),.int .i64 (f1:Int),.int .i64 (n1:Int)]):=by show Has _ _ _;rw[hwA];exact Has.new _ _ _
   have HR1:Hid (Has wA (w.heap.size+1 + 1) #[.func (.func 37) #[] #[],.func (.func 38) #[] #[],.func (.func 39) #[] #[],.func (.func 40) #[] #[],.func (.func 41) #[] #[],.func (.func 42) #[] #[]]):=by show Has _ _ _;rw[hwA];exact (HR.out.call hb1).alloc _
   rw[<-hwA]
   clear hwA hb1
   have a0:wA.cell? ⟨w1.heap.size,0,none⟩=some (.int .i64 (c1:Int)):=HA.out.cell 0 rfl
   have a1:wA.cell? ⟨w1.heap.size,1,none⟩=some (.int .i64 (f1:Int)):=HA.out.cell 1 rfl
   have a2:wA.cell? ⟨w1.heap.size,2,none⟩=some (.int .i64 (n1:Int)):=HA.out.cell 2 rfl
   by_cases c0:c1=0
   ·have hz:=HL1.out.nil c0
    have HN1:Hid (∀ j,j<2+1->∀ y,¬BadI u j y):=fun j hj=>by
     by_cases e:j=2
     ·subst e
      have h:=HL1.out
      rw[hz] at h
      exact h.none
     ·exact HN.out j (by omega)
    obtain ⟨rfl,rfl,rfl⟩:c1=0/\f1=0/\n1=0:=by simpa[ft0] using hz
    clear hz HL1 c0
    go_wp2_with fail
    go_roundw
    case rel=>exact ⟨2+1,by omega,by go_num,HN1,HB1,HR1⟩
    case measure=>simp[intOf]
   ·have s0:=(q07 HB1.out).cell (i:=0) (by omega)
    have s1:=(q07 HB1.out).cell (i:=1) (by omega)
    have s2:=(q07 HB1.out).cell (i:=2) (by omega)
    have sz:=(q07 HB1.out).frozen
    have HQ:Hid (Least (BadU u) ⟨c1,f1,n1⟩):=qk8 (by omega) HN.out HL1.out c0
    have q1:((c1:Int)==0)=false:=by simp;omega
    have q2:((c1:Int) != 0)=true:=by simp;omega
    go_wp2_with fail
    refine bodyPost_ret (v:=ftV ⟨c1,f1,n1⟩) (by simp[results,Tryz.results24,go_sem,s0,s1,s2]) rfl ?_
    exact FtPost.of HQ.out (q46 (q17 HB1.out) _ _ _)
  ·have g0:wr.cell? ⟨w.heap.size+1 + 1,3,none⟩=some (.func (.func 40) #[] #[]):=HR.out.cell 3 rfl
   have LK:Hid (Calls Tryz.prog 40 #[unV u a cap] wr fun e w'=>FtPost (BadI u 3) wr e w'):=qo1 L u a cap fas wr HS.out (yb9 (HN.out 0 (by omega)) (HN.out 1 (by omega)) (HN.out 2 (by omega))) (HT.out.below hW)
   go_upto_region 5 with (go_at_call 40;refine LK.out.mono ?_;rintro e w1 ⟨⟨c1,f1,n1⟩,rfl,hL1,hb1⟩;have HL1:Hid (Least (BadI u 3) ⟨c1,f1,n1⟩):=hL1;clear hL1)
   clear g0 f0 hW LK
   obtain ⟨wA,hwA⟩:∃ wA,wA=w1.alloc (.cells #[.int .i64 (c1:Int),.int .i64 (f1:Int),.int .i64 (n1:Int)] 60):=⟨_,rfl⟩
   have HB1:Hid (Below (fxW w u a cap).heap.size (fxW w u a cap) wA):=by show Below _ _ _;rw[hwA];exact q03 (q02 HB.out hb1) _
   have HA:Hid (Has wA w1.heap.size #[.int .i64 (c1:Int),.int .i64 (f1:Int),.int .i64 (n1:Int)]):=by show Has _ _ _;rw[hwA];exact Has.new _ _ _
   have HR1:Hid (Has wA (w.heap.size+1 + 1) #[.func (.func 37) #[] #[],.func (.func 38) #[] #[],.func (.func 39) #[] #[],.func (.func 40) #[] #[],.func (.func 41) #[] #[],.func (.func 42) #[] #[]]):=by show Has _ _ _;rw[hwA];exact (HR.out.call hb1).alloc _
   rw[<-hwA]
   clear hwA hb1
   have a0:wA.cell? ⟨w1.heap.size,0,none⟩=some (.int .i64 (c1:Int)):=HA.out.cell 0 rfl
   have a1:wA.cell? ⟨w1.heap.size,1,none⟩=some (.int .i64 (f1:Int)):=HA.out.cell 1 rfl
   have a2:wA.cell? ⟨w1.heap.size,2,none⟩=some (.int .i64 (n1:Int)):=HA.out.cell 2 rfl
   by_cases c0:c1=0
   ·have hz:=HL1.out.nil c0
    have HN1:Hid (∀ j,j<3+1->∀ y,¬BadI u j y):=fun j hj=>by
     by_cases e:j=3
     ·subst e
      have h:=HL1.out
      rw[hz] at h
      exact h.none
     ·exact HN.out j (by omega)
    obtain ⟨rfl,rfl,rfl⟩:c1=0/\f1=0/\n1=0:=by simpa[ft0] using hz
    clear hz HL1 c0
    go_wp2_with fail
    go_roundw
    case rel=>exact ⟨3+1,by omega,by go_num,HN1,HB1,HR1⟩
    case measure=>simp[intOf]
   ·have s0:=(q07 HB1.out).cell (i:=0) (by omega)
    have s1:=(q07 HB1.out).cell (i:=1) (by omega)
    have s2:=(q07 HB1.out).cell (i:=2) (by omega)
    have sz:=(q07 HB1.out).frozen
    have HQ:Hid (Least (BadU u) ⟨c1,f1,n1⟩):=qk8 (by omega) HN.out HL1.out c0
    have q1:((c1:Int)==0)=false:=by simp;omega
    have q2:((c1:Int) != 0)=true:=by simp;omega
    go_wp2_with fail
    refine bodyPost_ret (v:=ftV ⟨c1,f1,n1⟩) (by simp[results,Tryz.results24,go_sem,s0,s1,s2]) rfl ?_
    exact FtPost.of HQ.out (q46 (q17 HB1.out) _ _ _)
  ·have g0:wr.cell? ⟨w.heap.size+1 + 1,4,none⟩=some (.func (.func 41) #[] #[]):=HR.out.cell 4 rfl
   have LK:Hid (Calls Tryz.prog 41 #[unV u a cap] wr fun e w'=>FtPost (BadI u 4) wr e w'):=z77 HD.out L u a cap fas wr (yi9 (yb9 (HN.out 0 (by omega)) (HN.out 1 (by omega)) (HN.out 2 (by omega))) (HN.out 3 (by omega))) (HT.out.below hW)
   go_upto_region 5 with (go_at_call 41;refine LK.out.mono ?_;rintro e w1 ⟨⟨c1,f1,n1⟩,rfl,hL1,hb1⟩;have HL1:Hid (Least (BadI u 4) ⟨c1,f1,n1⟩):=hL1;clear hL1)
   clear g0 f0 hW LK
   obtain ⟨wA,hwA⟩:∃ wA,wA=w1.alloc (.cells #[.int .i64 (c1:Int),.int .i64 (f1:Int),.int .i64 (n1:Int)] 60):=⟨_,rfl⟩
   have HB1:Hid (Below (fxW w u a cap).heap.size (fxW w u a cap) wA):=by show Below _ _ _;rw[hwA];exact q03 (q02 HB.out hb1) _
   have HA:Hid (Has wA w1.heap.size #[.int .i64 (c1:Int),.int .i64 (f1:Int),.int .i64 (n1:Int)]):=by show Has _ _ _;rw[hwA];exact Has.new _ _ _
   have HR1:Hid (Has wA (w.heap.size+1 + 1) #[.func (.func 37) #[] #[],.func (.func 38) #[] #[],.func (.func 39) #[] #[],.func (.func 40) #[] #[],.func (.func 41) #[] #[],.func (.func 42) #[] #[]]):=by show Has _ _ _;rw[hwA];exact (HR.out.call hb1).alloc _
   rw[<-hwA]
   clear hwA hb1
   have a0:wA.cell? ⟨w1.heap.size,0,none⟩=some (.int .i64 (c1:Int)):=HA.out.cell 0 rfl
   have a1:wA.cell? ⟨w1.heap.size,1,none⟩=some (.int .i64 (f1:Int)):=HA.out.cell 1 rfl
   have a2:wA.cell? ⟨w1.heap.size,2,none⟩=some (.int .i64 (n1:Int)):=HA.out.cell 2 rfl
   by_cases c0:c1=0
   ·have hz:=HL1.out.nil c0
    have HN1:Hid (∀ j,j<4+1->∀ y,¬BadI u j y):=fun j hj=>by
     by_cases e:j=4
     ·subst e
      have h:=HL1.out
      rw[hz] at h
      exact h.none
     ·exact HN.out j (by omega)
    obtain ⟨rfl,rfl,rfl⟩:c1=0/\f1=0/\n1=0:=by simpa[ft0] using hz
    clear hz HL1 c0
    go_wp2_with fail
    go_roundw
    case rel=>exact ⟨4+1,by omega,by go_num,HN1,HB1,HR1⟩
    case measure=>simp[intOf]
   ·have s0:=(q07 HB1.out).cell (i:=0) (by omega)
    have s1:=(q07 HB1.out).cell (i:=1) (by omega)
    have s2:=(q07 HB1.out).cell (i:=2) (by omega)
    have sz:=(q07 HB1.out).frozen
    have HQ:Hid (Least (BadU u) ⟨c1,f1,n1⟩):=qk8 (by omega) HN.out HL1.out c0
    have q1:((c1:Int)==0)=false:=by simp;omega
    have q2:((c1:Int) != 0)=true:=by simp;omega
    go_wp2_with fail
    refine bodyPost_ret (v:=ftV ⟨c1,f1,n1⟩) (by simp[results,Tryz.results24,go_sem,s0,s1,s2]) rfl ?_
    exact FtPost.of HQ.out (q46 (q17 HB1.out) _ _ _)
  ·have g0:wr.cell? ⟨w.heap.size+1 + 1,5,none⟩=some (.func (.func 42) #[] #[]):=HR.out.cell 5 rfl
   have LK:Hid (Calls Tryz.prog 42 #[unV u a cap] wr fun e w'=>FtPost (BadI u 5) wr e w'):=HX.out L u a cap fas wr HS.out (yi9 (yb9 (HN.out 0 (by omega)) (HN.out 1 (by omega)) (HN.out 2 (by omega))) (HN.out 3 (by omega))) (HN.out 4 (by omega)) HC.out (HT.out.below hW)
   go_upto_region 5 with (go_at_call 42;refine LK.out.mono ?_;rintro e w1 ⟨⟨c1,f1,n1⟩,rfl,hL1,hb1⟩;have HL1:Hid (Least (BadI u 5) ⟨c1,f1,n1⟩):=hL1;clear hL1)
   clear g0 f0 hW LK
   obtain ⟨wA,hwA⟩:∃ wA,wA=w1.alloc (.cells #[.int .i64 (c1:Int),.int .i64 (f1:Int),.int .i64 (n1:Int)] 60):=⟨_,rfl⟩
   have HB1:Hid (Below (fxW w u a cap).heap.size (fxW w u a cap) wA):=by show Below _ _ _;rw[hwA];exact q03 (q02 HB.out hb1) _
   have HA:Hid (Has wA w1.heap.size #[.int .i64 (c1:Int),.int .i64 (f1:Int),.int .i64 (n1:Int)]):=by show Has _ _ _;rw[hwA];exact Has.new _ _ _
   have HR1:Hid (Has wA (w.heap.size+1 + 1) #[.func (.func 37) #[] #[],.func (.func 38) #[] #[],.func (.func 39) #[] #[],.func (.func 40) #[] #[],.func (.func 41) #[] #[],.func (.func 42) #[] #[]]):=by show Has _ _ _;rw[hwA];exact (HR.out.call hb1).alloc _
   rw[<-hwA]
   clear hwA hb1
   have a0:wA.cell? ⟨w1.heap.size,0,none⟩=some (.int .i64 (c1:Int)):=HA.out.cell 0 rfl
   have a1:wA.cell? ⟨w1.heap.size,1,none⟩=some (.int .i64 (f1:Int)):=HA.out.cell 1 rfl
   have a2:wA.cell? ⟨w1.heap.size,2,none⟩=some (.int .i64 (n1:Int)):=HA.out.cell 2 rfl
   by_cases c0:c1=0
   ·have hz:=HL1.out.nil c0
    have HN1:Hid (∀ j,j<5+1->∀ y,¬BadI u j y):=fun j hj=>by
     by_cases e:j=5
     ·subst e
      have h:=HL1.out
      rw[hz] at h
      exact h.none
     ·exact HN.out j (by omega)
    obtain ⟨rfl,rfl,rfl⟩:c1=0/\f1=0/\n1=0:=by simpa[ft0] using hz
    clear hz HL1 c0
    go_wp2_with fail
    go_roundw
    case rel=>exact ⟨5+1,by omega,by go_num,HN1,HB1,HR1⟩
    case measure=>simp[intOf]
   ·have s0:=(q07 HB1.out).cell (i:=0) (by omega)
    have s1:=(q07 HB1.out).cell (i:=1) (by omega)
    have s2:=(q07 HB1.out).cell (i:=2) (by omega)
    have sz:=(q07 HB1.out).frozen
    have HQ:Hid (Least (BadU u) ⟨c1,f1,n1⟩):=qk8 (by omega) HN.out HL1.out c0
    have q1:((c1:Int)==0)=false:=by simp;omega
    have q2:((c1:Int) != 0)=true:=by simp;omega
    go_wp2_with fail
    refine bodyPost_ret (v:=ftV ⟨c1,f1,n1⟩) (by simp[results,Tryz.results24,go_sem,s0,s1,s2]) rfl ?_
    exact FtPost.of HQ.out (q46 (q17 HB1.out) _ _ _)
  ·have HL:Hid (Least (BadU u) ⟨0,0,0⟩):=yh0 HN.out
   have s0:=(q07 HB.out).cell (i:=0) (by omega)
   have s1:=(q07 HB.out).cell (i:=1) (by omega)
   have s2:=(q07 HB.out).cell (i:=2) (by omega)
   have sz:=(q07 HB.out).frozen
   go_wp2_with fail
   refine bodyPost_ret (v:=ftV ⟨0,0,0⟩) (by simp[results,Tryz.results24,go_sem,s0,s1,s2]) rfl ?_
   exact FtPost.of HL.out (q46 (q17 HB.out) _ _ _)
end Go.Proofs.YtaimofjekgnieaaGreatDoor
