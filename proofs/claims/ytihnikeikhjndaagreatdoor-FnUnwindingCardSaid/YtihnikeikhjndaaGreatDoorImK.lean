import Derived.Test.YtihnikeikhjndaaGreatDoorSpS
import Derived.Test.YtihnikeikhjndaaGreatDoorImE
set_option maxRecDepth 100000
set_option maxHeartbeats 16000000
namespace Go.Proofs.YtihnikeikhjndaaGreatDoor
section
open Go.RowKit
attribute [local go_sem] aN
attribute [local go_sem ↓] Go.wp_at_zero Go.wp_at_succ
def D5:Array Value->Nat->List Value->Array Value
 |c,_,[]=>c
 |c,o,v :: r=>D5 (c.setIfInBounds o v) (o+1) r
theorem X6(w:World)(t:TypeId):∀(vs:List Value) (o:Nat) (c:Array Value),(w.alloc (.cells c t)).setCells w.heap.size o vs=w.alloc (.cells (D5 c o vs) t)
 |[],_,_=>rfl
 |v :: r,o,c=>by
  show((w.alloc (.cells c t)).setCell ⟨w.heap.size,o,none⟩ v).setCells w.heap.size (o+1) r=_;rw[World.setCell_alloc_at _ _ _ _ _ rfl];exact X6 w t r (o+1) _
theorem zq5(w:World)(t:TypeId)(c:Array Value)(o n:Nat)(h:o+n<=c.size):(w.alloc (.cells c t)).there w.heap.size o n:=fun j hj=>by
 have hc:(w.alloc (.cells c t)).cell? ⟨w.heap.size,o+j,none⟩=c[o+j]?:=World.cell?_alloc_new w c t (o+j);rw[hc,Array.getElem?_eq_getElem (by omega)];exact⟨rfl,by simp[go_sem]⟩
abbrev mv(F f:Nat):Value:=.func (Fn.func f) #[.pointer (some ⟨F,0,none⟩)] #[]
abbrev uy(F:Nat)(s:Value):Array Value:=#[s,.nilFunc,mv F 102,mv F 103,mv F 104,mv F 105,mv F 106,mv F 107,mv F 108,mv F 109,mv F 110,mv F 110,mv F 111,mv F 112,mv F 113,mv F 105,.nilFunc,.nilFunc,.nilFunc,.nilFunc,.nilFunc,mv F 110,mv F 110,mv F 110,mv F 114,mv F 115,mv F 116,mv F 117,mv F 117,mv F 118,mv F 119,mv F 119,mv F 120,mv F 121,mv F 119,mv F 122,mv F 123,mv F 117,mv F 110,mv F 124]
def zi:Nat->Nat
 |1=>102
 |2=>103
 |3=>104
 |4=>105
 |5=>106
 |6=>107
 |7=>108
 |8=>109
 |9=>110
 |10=>110
 |11=>111
 |12=>112
 |13=>113
 |14=>105
 |20=>110
 |21=>110
 |22=>110
 |23=>114
 |24=>115
 |25=>116
 |26=>117
 |27=>117
 |28=>118
 |29=>119
 |30=>119
 |31=>120
 |32=>121
 |33=>119
 |34=>122
 |35=>123
 |36=>117
 |37=>110
 |38=>124
 |_=>0
abbrev Ko:Array Value:=#[.slice none 0 0,.nilFunc,.nilFunc,.nilFunc,.nilFunc,.nilFunc,.nilFunc,.nilFunc,.nilFunc,.nilFunc,.nilFunc,.nilFunc,.nilFunc,.nilFunc,.nilFunc,.nilFunc,.nilFunc,.nilFunc,.nilFunc,.nilFunc,.nilFunc,.nilFunc,.nilFunc,.nilFunc,.nilFunc,.nilFunc,.nilFunc,.nilFunc,.nilFunc,.nilFunc,.nilFunc,.nilFunc,.nilFunc,.nilFunc,.nilFunc,.nilFunc,.nilFunc,.nilFunc,.nilFunc,.nilFunc]
abbrev LP(F:Nat):Array Value:=#[.nilFunc,mv F 102,mv F 103,mv F 104,mv F 105,mv F 106,mv F 107,mv F 108,mv F 109,mv F 110,mv F 110,mv F 111,mv F 112,mv F 113,mv F 105,.nilFunc,.nilFunc,.nilFunc,.nilFunc,.nilFunc,mv F 110,mv F 110,mv F 110,mv F 114,mv F 115,mv F 116,mv F 117,mv F 117,mv F 118,mv F 119,mv F 119,mv F 120,mv F 121,mv F 119,mv F 122,mv F 123,mv F 117,mv F 110,mv F 124]
theorem yd9:(Tryz.prog.info? 204).map (·.size)=some 39:=by kernel_rfl
theorem yk6(F:Nat):(LP F).all (·.oneCell')=true:=by simp[Value.oneCell']
theorem yk5(F:Nat):D5 Ko 1 (LP F).toList=uy F (.slice none 0 0):=by kernel_rfl
theorem qv0(w:World):Calls Tryz.prog 77 #[] w fun e w'=>e=.returned (.pointer (some ⟨w.heap.size,0,none⟩))/\w'=w.alloc (.cells (uy w.heap.size (.slice none 0 0)) 206):=by
 have hmf:∀(fn:Fn) (first cap:Array Value) (w:World),(Instr.makeFunc fn first cap).run Tryz.prog w=.ok (.func fn first cap) w:=fun _ _ _ _=>rfl;have hth:Hid ((w.alloc (.cells Ko 206)).there w.heap.size 1 39):=zq5 w 206 Ko 1 39 (by simp);have hset:Hid ((w.alloc (.cells Ko 206)).setCells w.heap.size 1 (LP w.heap.size).toList=w.alloc (.cells (uy w.heap.size (.slice none 0 0)) 206)):=by
  show _=_;rw[X6,yk5]
 go_in;go_wp2_with (show wpList _ _ _ _ _ _;refine wpList_store_mid rfl 204 _ _ rfl w.heap.size 1 (LP w.heap.size) rfl rfl hth.out yd9 (yk6 _) ?_;refine Eq.mpr (congrArg _ hset.out) ?_);go_ret;exact⟨rfl,rfl⟩
def fK(w:World)(F:Nat)(s:Value):Prop:=w.rowIs F 206 40 (fun i=>((uy F s)[i]?).getD undef)
theorem fK.new(w:World):fK (w.alloc (.cells (uy w.heap.size (.slice none 0 0)) 206)) w.heap.size (.slice none 0 0):=
 World.rowIs_alloc w (uy w.heap.size (.slice none 0 0)) 206 _ fun i hi=>by
  rw[Array.getElem?_eq_getElem hi];rfl
theorem fK.set{w:World}{F:Nat}{s:Value}(h:fK w F s)(t:Value):fK (w.setCell ⟨F,0,none⟩ t) F t:=(World.rowIs.set h 0 t).congr fun i _=>by
 by_cases e:i=0
 ·subst e;rfl
 ·rw[if_neg e];obtain⟨j,rfl⟩:∃j,i=j+1:=⟨i-1,by omega⟩;rfl
theorem fK.alloc{w:World}{F:Nat}{s:Value}(h:fK w F s)(o:Obj):fK (w.alloc o) F s:=World.rowIs.alloc h o
theorem fK.below{w w':World}{F:Nat}{s:Value}(h:fK w F s)(hb:ah w w'):fK w' F s:=World.rowIs.of_block h (hb.block _ h.lt)
end
section
open Go.RowKit
def aV(F m:Nat)(nd:Nat->ND)(nas:Nat->NA)(w:World)(f:Nat)(b:Bool):Prop:=Calls Tryz.prog f #[.pointer (some ⟨F,0,none⟩),eG (nd m) (nas m)] w fun e w'=>e=.returned (.bool b)/\ah w w'
theorem aV.as{F m:Nat}{nd:Nat->ND}{nas:Nat->NA}{w:World}{f:Nat}{b c:Bool}(h:aV F m nd nas w f b)(e:b=c):aV F m nd nas w f c:=e ▸ h
theorem ze0(F m:Nat)(nd:Nat->ND)(nas:Nat->NA)(w:World)(hA:AH w F m nd nas)(hN:ay 0 w (nd m) (nas m))(hs:(nd m).sm)(hcap:(nd m).kn<=(nas m).kc)(k:Nat)(hk:(nd m).k=k)(hv:(1<=k/\k<=14)\/(20<=k/\k<=38)):aV F m nd nas w (zi k) (gK nd m):=by
 rcases(show k=1\/k=2\/k=3\/k=4\/k=5\/k=6\/k=7\/k=8\/k=9\/k=10\/k=11\/k=12\/k=13\/k=14\/k=20\/k=21\/k=22\/k=23\/k=24\/k=25\/k=26\/k=27\/k=28\/k=29\/k=30\/k=31\/k=32\/k=33\/k=34\/k=35\/k=36\/k=37\/k=38 by omega) with rfl|rfl|rfl|rfl|rfl|rfl|rfl|rfl|rfl|rfl|rfl|rfl|rfl|rfl|rfl|rfl|rfl|rfl|rfl|rfl|rfl|rfl|rfl|rfl|rfl|rfl|rfl|rfl|rfl|rfl|rfl|rfl|rfl
 ·exact aV.as (y58 F m nd nas w hA hN hs hcap) (by unfold gK;rw[hk];first|(simp;done)|(simp[aU];done)|(simp[Bool.and_assoc];done)|(simp[aU,Bool.and_assoc];done)|(simp[aW];done)|(simp[aW,Bool.and_assoc];done)|(simp[aU,aW];done)|(simp[aU,aW,Bool.and_assoc];done))
 ·exact aV.as (yl9 F m nd nas w hA hN hs hcap) (by unfold gK;rw[hk];simp[Bool.and_assoc])
 ·exact aV.as (yl8 F m nd nas w hA hN hs hcap) (by unfold gK;rw[hk];first|(simp;done)|(simp[aU];done)|(simp[Bool.and_assoc];done)|(simp[aU,Bool.and_assoc];done)|(simp[aW];done)|(simp[aW,Bool.and_assoc];done)|(simp[aU,aW];done)|(simp[aU,aW,Bool.and_assoc];done))
 ·exact aV.as (VO F m nd nas w hA hN hs hcap) (by unfold gK;rw[hk];first|(simp;done)|(simp[aU];done)|(simp[Bool.and_assoc];done)|(simp[aU,Bool.and_assoc];done)|(simp[aW];done)|(simp[aW,Bool.and_assoc];done)|(simp[aU,aW];done)|(simp[aU,aW,Bool.and_assoc];done))
 ·exact aV.as (Zk F m nd nas w hA hN hs hcap) (by unfold gK;rw[hk];first|(simp;done)|(simp[aU];done)|(simp[Bool.and_assoc];done)|(simp[aU,Bool.and_assoc];done)|(simp[aW];done)|(simp[aW,Bool.and_assoc];done)|(simp[aU,aW];done)|(simp[aU,aW,Bool.and_assoc];done))
 ·exact aV.as (y54 F m nd nas w hA hN hs hcap) (by unfold gK;rw[hk];first|(simp;done)|(simp[aU];done)|(simp[Bool.and_assoc];done)|(simp[aU,Bool.and_assoc];done)|(simp[aW];done)|(simp[aW,Bool.and_assoc];done)|(simp[aU,aW];done)|(simp[aU,aW,Bool.and_assoc];done))
 ·exact aV.as (y57 F m nd nas w hA hN hs hcap) (by unfold gK;rw[hk];first|(simp;done)|(simp[aU];done)|(simp[Bool.and_assoc];done)|(simp[aU,Bool.and_assoc];done)|(simp[aW];done)|(simp[aW,Bool.and_assoc];done)|(simp[aU,aW];done)|(simp[aU,aW,Bool.and_assoc];done))
 ·exact aV.as (yf2 F m nd nas w hA hN hs hcap) (by unfold gK;rw[hk];first|(simp;done)|(simp[aU];done)|(simp[Bool.and_assoc];done)|(simp[aU,Bool.and_assoc];done)|(simp[aW];done)|(simp[aW,Bool.and_assoc];done)|(simp[aU,aW];done)|(simp[aU,aW,Bool.and_assoc];done))
 ·exact aV.as (EP F m nd nas w hA hN hs hcap) (by unfold gK;rw[hk];first|(simp;done)|(simp[aU];done)|(simp[Bool.and_assoc];done)|(simp[aU,Bool.and_assoc];done)|(simp[aW];done)|(simp[aW,Bool.and_assoc];done)|(simp[aU,aW];done)|(simp[aU,aW,Bool.and_assoc];done))
 ·exact aV.as (EP F m nd nas w hA hN hs hcap) (by unfold gK;rw[hk];first|(simp;done)|(simp[aU];done)|(simp[Bool.and_assoc];done)|(simp[aU,Bool.and_assoc];done)|(simp[aW];done)|(simp[aW,Bool.and_assoc];done)|(simp[aU,aW];done)|(simp[aU,aW,Bool.and_assoc];done))
 ·exact aV.as (zn4 F m nd nas w hA hN hs hcap) (by unfold gK;rw[hk];first|(simp;done)|(simp[aU];done)|(simp[Bool.and_assoc];done)|(simp[aU,Bool.and_assoc];done)|(simp[aW];done)|(simp[aW,Bool.and_assoc];done)|(simp[aU,aW];done)|(simp[aU,aW,Bool.and_assoc];done))
 ·exact aV.as (yl7 F m nd nas w hA hN hs hcap) (by unfold gK;rw[hk];first|(simp;done)|(simp[aU];done)|(simp[Bool.and_assoc];done)|(simp[aU,Bool.and_assoc];done)|(simp[aW];done)|(simp[aW,Bool.and_assoc];done)|(simp[aU,aW];done)|(simp[aU,aW,Bool.and_assoc];done))
 ·exact aV.as (qn3 F m nd nas w hA hN hs hcap) (by unfold gK;rw[hk];first|(simp;done)|(simp[aU];done)|(simp[Bool.and_assoc];done)|(simp[aU,Bool.and_assoc];done)|(simp[aW];done)|(simp[aW,Bool.and_assoc];done)|(simp[aU,aW];done)|(simp[aU,aW,Bool.and_assoc];done))
 ·exact aV.as (VO F m nd nas w hA hN hs hcap) (by unfold gK;rw[hk];first|(simp;done)|(simp[aU];done)|(simp[Bool.and_assoc];done)|(simp[aU,Bool.and_assoc];done)|(simp[aW];done)|(simp[aW,Bool.and_assoc];done)|(simp[aU,aW];done)|(simp[aU,aW,Bool.and_assoc];done))
 ·exact aV.as (EP F m nd nas w hA hN hs hcap) (by unfold gK;rw[hk];first|(simp;done)|(simp[aU];done)|(simp[Bool.and_assoc];done)|(simp[aU,Bool.and_assoc];done)|(simp[aW];done)|(simp[aW,Bool.and_assoc];done)|(simp[aU,aW];done)|(simp[aU,aW,Bool.and_assoc];done))
 ·exact aV.as (EP F m nd nas w hA hN hs hcap) (by unfold gK;rw[hk];first|(simp;done)|(simp[aU];done)|(simp[Bool.and_assoc];done)|(simp[aU,Bool.and_assoc];done)|(simp[aW];done)|(simp[aW,Bool.and_assoc];done)|(simp[aU,aW];done)|(simp[aU,aW,Bool.and_assoc];done))
 ·exact aV.as (EP F m nd nas w hA hN hs hcap) (by unfold gK;rw[hk];first|(simp;done)|(simp[aU];done)|(simp[Bool.and_assoc];done)|(simp[aU,Bool.and_assoc];done)|(simp[aW];done)|(simp[aW,Bool.and_assoc];done)|(simp[aU,aW];done)|(simp[aU,aW,Bool.and_assoc];done))
 ·exact aV.as (zn6 F m nd nas w hA hN hs hcap) (by unfold gK;rw[hk];first|(simp;done)|(simp[aU];done)|(simp[Bool.and_assoc];done)|(simp[aU,Bool.and_assoc];done)|(simp[aW];done)|(simp[aW,Bool.and_assoc];done)|(simp[aU,aW];done)|(simp[aU,aW,Bool.and_assoc];done))
 ·exact aV.as (ze1 F m nd nas w hA hN hs hcap) (by unfold gK;rw[hk];first|(simp;done)|(simp[aU];done)|(simp[Bool.and_assoc];done)|(simp[aU,Bool.and_assoc];done)|(simp[aW];done)|(simp[aW,Bool.and_assoc];done)|(simp[aU,aW];done)|(simp[aU,aW,Bool.and_assoc];done))
 ·exact aV.as (yf1 F m nd nas w hA hN hs hcap) (by unfold gK;rw[hk];first|(simp;done)|(simp[aU];done)|(simp[Bool.and_assoc];done)|(simp[aU,Bool.and_assoc];done)|(simp[aW];done)|(simp[aW,Bool.and_assoc];done)|(simp[aU,aW];done)|(simp[aU,aW,Bool.and_assoc];done))
 ·exact aV.as (OY F m nd nas w hA hN hs hcap) (by unfold gK;rw[hk];first|(simp;done)|(simp[aU];done)|(simp[Bool.and_assoc];done)|(simp[aU,Bool.and_assoc];done)|(simp[aW];done)|(simp[aW,Bool.and_assoc];done)|(simp[aU,aW];done)|(simp[aU,aW,Bool.and_assoc];done))
 ·exact aV.as (OY F m nd nas w hA hN hs hcap) (by unfold gK;rw[hk];first|(simp;done)|(simp[aU];done)|(simp[Bool.and_assoc];done)|(simp[aU,Bool.and_assoc];done)|(simp[aW];done)|(simp[aW,Bool.and_assoc];done)|(simp[aU,aW];done)|(simp[aU,aW,Bool.and_assoc];done))
 ·exact aV.as (zn7 F m nd nas w hA hN hs hcap) (by unfold gK;rw[hk];simp[Bool.and_assoc])
 ·exact aV.as (PX F m nd nas w hA hN hs hcap) (by unfold gK;rw[hk];first|(simp;done)|(simp[aU];done)|(simp[Bool.and_assoc];done)|(simp[aU,Bool.and_assoc];done)|(simp[aW];done)|(simp[aW,Bool.and_assoc];done)|(simp[aU,aW];done)|(simp[aU,aW,Bool.and_assoc];done))
 ·exact aV.as (PX F m nd nas w hA hN hs hcap) (by unfold gK;rw[hk];first|(simp;done)|(simp[aU];done)|(simp[Bool.and_assoc];done)|(simp[aU,Bool.and_assoc];done)|(simp[aW];done)|(simp[aW,Bool.and_assoc];done)|(simp[aU,aW];done)|(simp[aU,aW,Bool.and_assoc];done))
 ·exact aV.as (y55 F m nd nas w hA hN hs hcap) (by unfold gK;rw[hk];first|(simp;done)|(simp[aU];done)|(simp[Bool.and_assoc];done)|(simp[aU,Bool.and_assoc];done)|(simp[aW];done)|(simp[aW,Bool.and_assoc];done)|(simp[aU,aW];done)|(simp[aU,aW,Bool.and_assoc];done))
 ·exact aV.as (Zj F m nd nas w hA hN hs hcap) (by unfold gK;rw[hk];first|(simp;done)|(simp[aU];done)|(simp[Bool.and_assoc];done)|(simp[aU,Bool.and_assoc];done)|(simp[aW];done)|(simp[aW,Bool.and_assoc];done)|(simp[aU,aW];done)|(simp[aU,aW,Bool.and_assoc];done))
 ·exact aV.as (PX F m nd nas w hA hN hs hcap) (by unfold gK;rw[hk];first|(simp;done)|(simp[aU];done)|(simp[Bool.and_assoc];done)|(simp[aU,Bool.and_assoc];done)|(simp[aW];done)|(simp[aW,Bool.and_assoc];done)|(simp[aU,aW];done)|(simp[aU,aW,Bool.and_assoc];done))
 ·exact aV.as (yf3 F m nd nas w hA hN hs hcap) (by unfold gK;rw[hk];simp[Bool.and_assoc])
 ·exact aV.as (y56 F m nd nas w hA hN hs hcap) (by unfold gK;rw[hk];first|(simp;done)|(simp[aU];done)|(simp[Bool.and_assoc];done)|(simp[aU,Bool.and_assoc];done)|(simp[aW];done)|(simp[aW,Bool.and_assoc];done)|(simp[aU,aW];done)|(simp[aU,aW,Bool.and_assoc];done))
 ·exact aV.as (OY F m nd nas w hA hN hs hcap) (by unfold gK;rw[hk];first|(simp;done)|(simp[aU];done)|(simp[Bool.and_assoc];done)|(simp[aU,Bool.and_assoc];done)|(simp[aW];done)|(simp[aW,Bool.and_assoc];done)|(simp[aU,aW];done)|(simp[aU,aW,Bool.and_assoc];done))
 ·exact aV.as (EP F m nd nas w hA hN hs hcap) (by unfold gK;rw[hk];first|(simp;done)|(simp[aU];done)|(simp[Bool.and_assoc];done)|(simp[aU,Bool.and_assoc];done)|(simp[aW];done)|(simp[aW,Bool.and_assoc];done)|(simp[aU,aW];done)|(simp[aU,aW,Bool.and_assoc];done))
 ·exact aV.as (zn5 F m nd nas w hA hN hs hcap) (by unfold gK;rw[hk];first|(simp;done)|(simp[aU];done)|(simp[Bool.and_assoc];done)|(simp[aU,Bool.and_assoc];done)|(simp[aW];done)|(simp[aW,Bool.and_assoc];done)|(simp[aU,aW];done)|(simp[aU,aW,Bool.and_assoc];done))
end
section
open Go.RowKit
attribute [local go_sem] aN
attribute [local go_sem ↓] Go.wp_at_zero Go.wp_at_succ
theorem y63(k:Nat)(hv:(1<=k/\k<=14)\/(20<=k/\k<=38))(args:Array Value)(w:World):(callFunc (zi k) args).run Tryz.prog w=.ok (.enter (zi k) args) w:=by
 rcases(show k=1\/k=2\/k=3\/k=4\/k=5\/k=6\/k=7\/k=8\/k=9\/k=10\/k=11\/k=12\/k=13\/k=14\/k=20\/k=21\/k=22\/k=23\/k=24\/k=25\/k=26\/k=27\/k=28\/k=29\/k=30\/k=31\/k=32\/k=33\/k=34\/k=35\/k=36\/k=37\/k=38 by omega) with rfl|rfl|rfl|rfl|rfl|rfl|rfl|rfl|rfl|rfl|rfl|rfl|rfl|rfl|rfl|rfl|rfl|rfl|rfl|rfl|rfl|rfl|rfl|rfl|rfl|rfl|rfl|rfl|rfl|rfl|rfl|rfl|rfl<;>kernel_rfl
structure KB(F:Nat)(w w':World):Prop where
 low:Below F w w'
 has:∀X A,X≠F->Has w X A->Has w' X A
theorem KB.of{F:Nat}{w w':World}(h:ah w w')(hF:F<=w.heap.size):KB F w w':=⟨h.mono hF,fun _ _ _ k=>k.call h⟩
theorem KB.trans{F:Nat}{w w1 w2:World}(h:KB F w w1)(k:KB F w1 w2):KB F w w2:=⟨h.low.trans k.low,fun X A hX hh=>k.has X A hX (h.has X A hX hh)⟩
theorem KB.set(F:Nat)(w:World)(o:Nat)(v:Value):KB F w (w.setCell ⟨F,o,none⟩ v):=⟨iT (Below.refl _ _) (Nat.le_refl _) _,fun _ _ hX hh=>hh.far (fun e=>hX e.symm) _⟩
def z40(nd:Nat->ND)(m F:Nat)(w:World)(e:Ending)(w':World):Prop:=e=.returned (.bool (jm nd m))/\(∃s,fK w' F s)/\KB F w w'
theorem fK.fn{w:World}{F:Nat}{s:Value}(h:fK w F s)(k:Nat)(hv:(1<=k/\k<=14)\/(20<=k/\k<=38)):w.cell? ⟨F,1+k,none⟩=some (mv F (zi k)):=by
 have:=World.rowIs.cell h (i:=1+k) (by omega);rw[this];rcases(show k=1\/k=2\/k=3\/k=4\/k=5\/k=6\/k=7\/k=8\/k=9\/k=10\/k=11\/k=12\/k=13\/k=14\/k=20\/k=21\/k=22\/k=23\/k=24\/k=25\/k=26\/k=27\/k=28\/k=29\/k=30\/k=31\/k=32\/k=33\/k=34\/k=35\/k=36\/k=37\/k=38 by omega) with rfl|rfl|rfl|rfl|rfl|rfl|rfl|rfl|rfl|rfl|rfl|rfl|rfl|rfl|rfl|rfl|rfl|rfl|rfl|rfl|rfl|rfl|rfl|rfl|rfl|rfl|rfl|rfl|rfl|rfl|rfl|rfl|rfl<;>rfl
theorem aP.take{K L:Nat}{w:World}{a:Option Addr}{n k:Nat}{q:Nat->Array Value}(h:aP K L w a n q)(hk:k<=n):aP K L w a k q:=fun hn=>by
 obtain⟨b,off,e,h0,h1,h2⟩:=h (by omega);exact⟨b,off,e,h0,h1,fun i hi=>h2 i (by omega)⟩
abbrev FSr(B F kN:Nat)(d:ND)(x:NA)(w':World):Prop:=w'.cell? ⟨B,0,none⟩=some (.int .i64 (kN:Int))/\w'.cell? ⟨B,1,none⟩=some (.int .i64 d.l)/\w'.cell? ⟨B,2,none⟩=some (.int .i64 d.o)/\w'.cell? ⟨B,3,none⟩=some (.int .i64 d.n)/\w'.cell? ⟨B,4,none⟩=some (.float .f64 d.f)/\w'.cell? ⟨B,5,none⟩=some (.string d.s)/\w'.cell? ⟨B,6,none⟩=some (.slice x.ra d.rn x.rc)/\w'.cell? ⟨B,7,none⟩=some (.slice x.ka d.kn x.kc)/\w'.cell? ⟨F,1+kN,none⟩=some (mv F (zi kN))
theorem zn8(F n:Nat)(nd:Nat->ND)(a:Option Addr)(cap:Nat)(nas:Nat->NA)(m:Nat)(s:Value)(w0 w:World)(hm:m<n)(_hn:n<=1048576)(hcap:n<=cap)(hs:(nd m).sm)(hkc:(nd m).kn<=(nas m).kc)(hT:bV 0 w0 n nd a nas)(h0:w0.heap.size<=F)(hw:ah w0 w)(hF:fK w F s):Calls Tryz.prog 78 #[.pointer (some ⟨F,0,none⟩),.slice a n cap,.int .i64 m] w fun e w'=>z40 nd m F w e w':=by
 have HT:Hid (bV 0 w0 n nd a nas):=hT;have HW:Hid (ah w0 w):=hw;have HF:Hid (fK w F s):=hF;have HS:Hid ((nd m).sm):=hs;have hFw:F<w.heap.size:=World.rowIs.lt hF;have hkn:=hs.kn;clear hT hw hF hs;have HTw:Hid (bV 0 w n nd a nas):=HT.below HW.out;obtain⟨b,off,e0,_,hb,d0,d1,d2,d3,d4,d5,d6,d7⟩:=dK HTw.1 hm;have Nz:Hid (a=some ⟨b,off,none⟩):=e0;subst e0;by_cases hk:((1:Int)<=(nd m).k/\(nd m).k<=14)\/((20:Int)<=(nd m).k/\(nd m).k<=38)
 ·obtain⟨kN,hkN⟩:∃kN:Nat,(nd m).k=kN:=⟨(nd m).k.toNat,by omega⟩;have hkv:(1<=kN/\kN<=14)\/(20<=kN/\kN<=38):=by omega
  have HK:Hid ((nd m).k=kN):=hkN;rw[hkN] at d0;clear hk;have f0:=World.rowIs.cell HF.out (i:=0) (by omega);have fz:=World.rowIs.frozen HF.out;have hcd:dJ (nd m) (nas m) = #[.int .i64 (kN:Int),.int .i64 (nd m).l,.int .i64 (nd m).o,.int .i64 (nd m).n,.float .f64 (nd m).f,.string (nd m).s,.slice (nas m).ra (nd m).rn (nas m).rc,.slice (nas m).ka (nd m).kn (nas m).kc]:=by rw[<-hkN]
  have YO:Hid (dJ (nd m) (nas m) = #[.int .i64 (kN:Int),.int .i64 (nd m).l,.int .i64 (nd m).o,.int .i64 (nd m).n,.float .f64 (nd m).f,.string (nd m).s,.slice (nas m).ra (nd m).rn (nas m).rc,.slice (nas m).ka (nd m).kn (nas m).kc]):=hcd;clear hkN hcd;have hset:setB 32766 (kN:Int)=true\/(setB 32766 (kN:Int)=false/\setB 549754765312 (kN:Int)=true):=by
   rw[FV,CJ];unfold iJ iU;simp;omega
  go_in;go_wp2_with fail;rcases hset with hs1|⟨hs1,hs2⟩;all_goals
   refine(yE 32766 (by decide) _ _).mono ?_;rw[hs1];rintro e w1 ⟨rfl,rfl⟩;go_wp2_with fail;try
    refine(yE 549754765312 (by decide) _ _).mono ?_;rw[hs2];rintro e w1 ⟨rfl,rfl⟩;go_wp2_with fail
   obtain⟨w5,hw5⟩:∃w5,w5=(w.setCell ⟨F,0,none⟩ (.slice (some ⟨b,off,none⟩) m cap)).alloc (.cells #[.int .i64 (kN:Int),.int .i64 (nd m).l,.int .i64 (nd m).o,.int .i64 (nd m).n,.float .f64 (nd m).f,.string (nd m).s,.slice (nas m).ra (nd m).rn (nas m).rc,.slice (nas m).ka (nd m).kn (nas m).kc] 98):=⟨_,rfl⟩;have HKB:Hid (KB F w w5):=by
    show KB F w w5;rw[hw5];exact(KB.set F w 0 _).trans (KB.of (q01 _ _) (by simp;omega))
   have yU:Hid (fK w5 F (.slice (some ⟨b,off,none⟩) m cap)):=by show fK _ _ _;rw[hw5];exact(HF.set _).alloc _
   have yV:Hid (Has w5 w.heap.size #[.int .i64 (kN:Int),.int .i64 (nd m).l,.int .i64 (nd m).o,.int .i64 (nd m).n,.float .f64 (nd m).f,.string (nd m).s,.slice (nas m).ra (nd m).rn (nas m).rc,.slice (nas m).ka (nd m).kn (nas m).kc]):=by
    have h:=Has.new (w.setCell ⟨F,0,none⟩ (.slice (some ⟨b,off,none⟩) m cap)) #[.int .i64 (kN:Int),.int .i64 (nd m).l,.int .i64 (nd m).o,.int .i64 (nd m).n,.float .f64 (nd m).f,.string (nd m).s,.slice (nas m).ra (nd m).rn (nas m).rc,.slice (nas m).ka (nd m).kn (nas m).kc] 98;rw[<-hw5] at h;show Has _ _ _;simpa using h
   have HW5:Hid (ah w0 w5):=HW.trans (HKB.low.mono h0);have Fv:Hid (bV 0 w5 n nd (some ⟨b,off,none⟩) nas):=HT.below HW5.out;have HA5:Hid (AH w5 F m nd nas):=⟨⟨some ⟨b,off,none⟩,cap,World.rowIs.cell yU.out (i:=0) (by omega),Fv.1.take (by omega)⟩⟩;have Ep:Hid (∀W,ah w5 W->FSr w.heap.size F kN (nd m) (nas m) W):=fun W hW=>⟨(yV.call hW).cell 0 rfl,(yV.call hW).cell 1 rfl,(yV.call hW).cell 2 rfl,(yV.call hW).cell 3 rfl,(yV.call hW).cell 4 rfl,(yV.call hW).cell 5 rfl,(yV.call hW).cell 6 rfl,(yV.call hW).cell 7 rfl,(yU.below hW).fn kN hkv⟩;have LF:Hid (∀W,Calls Tryz.prog 126 #[.agg #[.int .i64 (kN:Int),.int .i64 (nd m).l,.int .i64 (nd m).o,.int .i64 (nd m).n,.float .f64 (nd m).f,.string (nd m).s,.slice (nas m).ra (nd m).rn (nas m).rc,.slice (nas m).ka (nd m).kn (nas m).kc]] W fun e w'=>e=.returned (.bool (if iJ (nd m).k then decide (1<=(nd m).l) && decide ((nd m).l<=100000) else(nd m).l==0))/\ah W w'):=fun W=>by
    have h:=qv3 (nd m) (nas m) W;rw[<-YO.out];exact h
   have FC:Hid (∀W,ah w5 W->Calls Tryz.prog (zi kN) #[.pointer (some ⟨F,0,none⟩),.agg #[.int .i64 (kN:Int),.int .i64 (nd m).l,.int .i64 (nd m).o,.int .i64 (nd m).n,.float .f64 (nd m).f,.string (nd m).s,.slice (nas m).ra (nd m).rn (nas m).rc,.slice (nas m).ka (nd m).kn (nas m).kc]] W fun e w'=>e=.returned (.bool (gK nd m))/\ah W w'):=fun W hW=>by
    have h:=ze0 F m nd nas W (HA5.below hW) ((Fv.2 m hm).below hW) HS.out hkc kN HK.out hkv;unfold aV at h;rw[<-YO.out];exact h
   have HV:Hid (jm nd m=((if iJ (nd m).k then decide (1<=(nd m).l) && decide ((nd m).l<=100000) else(nd m).l==0) && decide (((nd m).kn:Int)<=200) && gK nd m)):=by
    show jm nd m=_;unfold jm;have h1:(iJ (nd m).k || iU (nd m).k)=true:=by rw[HK.out];unfold iJ iU;simp;omega
    rw[h1,Bool.true_and]
   rw[<-hw5];clear hw5 f0 fz d0 d1 d2 d3 d4 d5 d6 d7
   cases hlb:(if iJ (nd m).k then decide (1<=(nd m).l) && decide ((nd m).l<=100000) else(nd m).l==0)
   ·have HQ:Hid (jm nd m=false):=by show jm nd m=false;rw[HV.out,hlb];rfl
    refine wp_region_held_drew (S:=(fun w'=>w'.cell? ⟨w.heap.size,0,none⟩=some (.int .i64 (kN:Int))/\w'.cell? ⟨w.heap.size,1,none⟩=some (.int .i64 (nd m).l)/\w'.cell? ⟨w.heap.size,2,none⟩=some (.int .i64 (nd m).o)/\w'.cell? ⟨w.heap.size,3,none⟩=some (.int .i64 (nd m).n)/\w'.cell? ⟨w.heap.size,4,none⟩=some (.float .f64 (nd m).f)/\w'.cell? ⟨w.heap.size,5,none⟩=some (.string (nd m).s)/\w'.cell? ⟨w.heap.size,6,none⟩=some (.slice (nas m).ra (nd m).rn (nas m).rc)/\w'.cell? ⟨w.heap.size,7,none⟩=some (.slice (nas m).ka (nd m).kn (nas m).kc)/\w'.cell? ⟨F,1+kN,none⟩=some (mv F (zi kN)))) (by kernel_rfl) (Ep.out _ (Below.refl _ _).drew) (fun ak=>?_);refine wpAnyH_take (i:=0) (oi:=⟨some 28,_,_,_,_,_⟩) (v:=?_) rfl (by kernel_rfl) (by kernel_rfl) (by kernel_rfl) (fun _ _ _ h=>h) (Or.inl ⟨by rfl,?_⟩) (by assumption) ?_
    case refine_2=>(intro wz hSw;(try dsimp only at hSw);go_simp<;>with_reducible rfl)
    try simp only[Act.put,aG,aF,aA]
    refine wpAnyH_ready (rs:=[1]) (by kernel_rfl) (by simp) ?_;refine AllReadyH.cons (o:=⟨some 29,_,_,_,_,_⟩) rfl (fun K hK=>?_) AllReadyH.nil;go_simp;refine(LF _).mono ?_;rw[hlb];rintro e w8 ⟨rfl,hb8⟩;replace hb8:ah w5 w8:=aH (Below.refl _ _).drew hb8;dsimp only;refine hK.out _ _ (Ep _ hb8) (fun hHeld=>?_);clear hK K ak;have ak:=hHeld;clear hHeld;refine wpAnyH_take (i:=2) (oi:=⟨some 30,_,_,_,_,_⟩) (v:=?_) rfl (by kernel_rfl) (by kernel_rfl) (by kernel_rfl) (fun _ _ _ h=>h) (Or.inl ⟨by rfl,?_⟩) (by assumption) ?_
    case refine_2=>(intro wz hSw;(try dsimp only at hSw);go_simp<;>with_reducible rfl)
    try simp only[Act.put,aG,aF,aA]
    refine wpAnyH_take (i:=3) (oi:=⟨some 31,_,_,_,_,_⟩) (v:=undef) rfl (by kernel_rfl) (by kernel_rfl) (by kernel_rfl) (fun _ _ _ h=>h) (Or.inr ⟨by rfl,rfl⟩) (by assumption) ?_;try simp only[Act.put,aG,aF,aA]
    refine wpAnyH_take (i:=4) (oi:=⟨some 32,_,_,_,_,_⟩) (v:=undef) rfl (by kernel_rfl) (by kernel_rfl) (by kernel_rfl) (fun _ _ _ h=>h) (Or.inr ⟨by rfl,rfl⟩) (by assumption) ?_;try simp only[Act.put,aG,aF,aA]
    refine wpAnyH_take (i:=5) (oi:=⟨some 33,_,_,_,_,_⟩) (v:=undef) rfl (by kernel_rfl) (by kernel_rfl) (by kernel_rfl) (fun _ _ _ h=>h) (Or.inr ⟨by rfl,rfl⟩) (by assumption) ?_;try simp only[Act.put,aG,aF,aA]
    refine wpAnyH_take (i:=6) (oi:=⟨some 34,_,_,_,_,_⟩) (v:=undef) rfl (by kernel_rfl) (by kernel_rfl) (by kernel_rfl) (fun _ _ _ h=>h) (Or.inr ⟨by rfl,rfl⟩) (by assumption) ?_;try simp only[Act.put,aG,aF,aA]
    refine wpAnyH_take (i:=7) (oi:=⟨some 35,_,_,_,_,_⟩) (v:=?_) rfl (by kernel_rfl) (by kernel_rfl) (by kernel_rfl) (fun _ _ _ h=>h) (Or.inl ⟨by rfl,?_⟩) (by assumption) ?_
    case refine_2=>(intro wz hSw;(try dsimp only at hSw);go_simp<;>with_reducible rfl)
    try simp only[Act.put,aG,aF,aA]
    refine wpAnyH_take (i:=8) (oi:=⟨some 36,_,_,_,_,_⟩) (v:=?_) rfl (by kernel_rfl) (by kernel_rfl) (by kernel_rfl) (fun _ _ _ h=>h) (Or.inl ⟨by rfl,?_⟩) (by assumption) ?_
    case refine_2=>(intro wz hSw;(try dsimp only at hSw);go_simp<;>with_reducible rfl)
    try simp only[Act.put,aG,aF,aA]
    refine wpAnyH_take (i:=9) (oi:=⟨some 37,_,_,_,_,_⟩) (v:=undef) rfl (by kernel_rfl) (by kernel_rfl) (by kernel_rfl) (fun _ _ _ h=>h) (Or.inr ⟨by rfl,rfl⟩) (by assumption) ?_;try simp only[Act.put,aG,aF,aA]
    refine wpAnyH_take (i:=10) (oi:=⟨some 38,_,_,_,_,_⟩) (v:=undef) rfl (by kernel_rfl) (by kernel_rfl) (by kernel_rfl) (fun _ _ _ h=>h) (Or.inr ⟨by rfl,rfl⟩) (by assumption) ?_;try simp only[Act.put,aG,aF,aA]
    refine wpAnyH_take (i:=11) (oi:=⟨some 39,_,_,_,_,_⟩) (v:=undef) rfl (by kernel_rfl) (by kernel_rfl) (by kernel_rfl) (fun _ _ _ h=>h) (Or.inr ⟨by rfl,rfl⟩) (by assumption) ?_;try simp only[Act.put,aG,aF,aA]
    refine wpAnyH_take (i:=12) (oi:=⟨some 40,_,_,_,_,_⟩) (v:=undef) rfl (by kernel_rfl) (by kernel_rfl) (by kernel_rfl) (fun _ _ _ h=>h) (Or.inr ⟨by rfl,rfl⟩) (by assumption) ?_;try simp only[Act.put,aG,aF,aA]
    refine wpAnyH_take (i:=13) (oi:=⟨some 41,_,_,_,_,_⟩) (v:=undef) rfl (by kernel_rfl) (by kernel_rfl) (by kernel_rfl) (fun _ _ _ h=>h) (Or.inr ⟨by rfl,rfl⟩) (by assumption) ?_;try simp only[Act.put,aG,aF,aA]
    refine wpAnyH_take (i:=14) (oi:=⟨some 42,_,_,_,_,_⟩) (v:=undef) rfl (by kernel_rfl) (by kernel_rfl) (by kernel_rfl) (fun _ _ _ h=>h) (Or.inr ⟨by rfl,rfl⟩) (by assumption) ?_;try simp only[Act.put,aG,aF,aA]
    refine wpAnyH_take (i:=15) (oi:=⟨some 43,_,_,_,_,_⟩) (v:=undef) rfl (by kernel_rfl) (by kernel_rfl) (by kernel_rfl) (fun _ _ _ h=>h) (Or.inr ⟨by rfl,rfl⟩) (by assumption) ?_;try simp only[Act.put,aG,aF,aA]
    refine wpAnyH_take (i:=16) (oi:=⟨some 44,_,_,_,_,_⟩) (v:=undef) rfl (by kernel_rfl) (by kernel_rfl) (by kernel_rfl) (fun _ _ _ h=>h) (Or.inr ⟨by rfl,rfl⟩) (by assumption) ?_;try simp only[Act.put,aG,aF,aA]
    refine wpAnyH_take (i:=17) (oi:=⟨some 45,_,_,_,_,_⟩) (v:=undef) rfl (by kernel_rfl) (by kernel_rfl) (by kernel_rfl) (fun _ _ _ h=>h) (Or.inr ⟨by rfl,rfl⟩) (by assumption) ?_;try simp only[Act.put,aG,aF,aA]
    refine wpAnyH_take (i:=18) (oi:=⟨some 46,_,_,_,_,_⟩) (v:=?_) rfl (by kernel_rfl) (by kernel_rfl) (by kernel_rfl) (fun _ _ _ h=>h) (Or.inl ⟨by rfl,?_⟩) (by assumption) ?_
    case refine_2=>(intro wz hSw;(try dsimp only at hSw);go_simp<;>with_reducible rfl)
    try simp only[Act.put,aG,aF,aA]
    refine wpAnyH_take (i:=19) (oi:=⟨some 6,_,_,_,_,_⟩) (v:=?_) rfl (by kernel_rfl) (by kernel_rfl) (by kernel_rfl) (fun _ _ _ h=>h) (Or.inl ⟨by rfl,?_⟩) (by assumption) ?_
    case refine_2=>(intro wz hSw;(try dsimp only at hSw);go_simp<;>with_reducible rfl)
    try simp only[Act.put,aG,aF,aA]
    refine wpAnyH_done (by kernel_rfl) ?_ _;go_wp2_with fail;go_ret;exact⟨dh HQ.symm,⟨_,yU.below hb8⟩,HKB.trans (KB.of hb8 (Nat.le_of_lt (World.rowIs.lt yU)))⟩
   ·by_cases hk2:((nd m).kn:Int)<=200
    ·have HQ:Hid (jm nd m=gK nd m):=by show jm nd m=gK nd m;rw[HV.out,hlb,decide_eq_true hk2];rfl
     have i1:(kN:Int)<39:=by omega
     have qk:decide (((nd m).kn:Int)<=200)=true:=decide_eq_true hk2;refine wp_region_held_drew (S:=(fun w'=>w'.cell? ⟨w.heap.size,0,none⟩=some (.int .i64 (kN:Int))/\w'.cell? ⟨w.heap.size,1,none⟩=some (.int .i64 (nd m).l)/\w'.cell? ⟨w.heap.size,2,none⟩=some (.int .i64 (nd m).o)/\w'.cell? ⟨w.heap.size,3,none⟩=some (.int .i64 (nd m).n)/\w'.cell? ⟨w.heap.size,4,none⟩=some (.float .f64 (nd m).f)/\w'.cell? ⟨w.heap.size,5,none⟩=some (.string (nd m).s)/\w'.cell? ⟨w.heap.size,6,none⟩=some (.slice (nas m).ra (nd m).rn (nas m).rc)/\w'.cell? ⟨w.heap.size,7,none⟩=some (.slice (nas m).ka (nd m).kn (nas m).kc)/\w'.cell? ⟨F,1+kN,none⟩=some (mv F (zi kN)))) (by kernel_rfl) (Ep.out _ (Below.refl _ _).drew) (fun ak=>?_);refine wpAnyH_take (i:=0) (oi:=⟨some 28,_,_,_,_,_⟩) (v:=?_) rfl (by kernel_rfl) (by kernel_rfl) (by kernel_rfl) (fun _ _ _ h=>h) (Or.inl ⟨by rfl,?_⟩) (by assumption) ?_
     case refine_2=>(intro wz hSw;(try dsimp only at hSw);go_simp<;>with_reducible rfl)
     try simp only[Act.put,aG,aF,aA]
     refine wpAnyH_ready (rs:=[1]) (by kernel_rfl) (by simp) ?_;refine AllReadyH.cons (o:=⟨some 29,_,_,_,_,_⟩) rfl (fun K hK=>?_) AllReadyH.nil;go_simp;refine(LF _).mono ?_;rw[hlb];rintro e w8 ⟨rfl,hb8⟩;replace hb8:ah w5 w8:=aH (Below.refl _ _).drew hb8;dsimp only;refine hK.out _ _ (Ep _ hb8) (fun hHeld=>?_);clear hK K ak;have ak:=hHeld;clear hHeld;refine wpAnyH_take (i:=2) (oi:=⟨some 30,_,_,_,_,_⟩) (v:=?_) rfl (by kernel_rfl) (by kernel_rfl) (by kernel_rfl) (fun _ _ _ h=>h) (Or.inl ⟨by rfl,?_⟩) (by assumption) ?_
     case refine_2=>(intro wz hSw;(try dsimp only at hSw);go_simp<;>with_reducible rfl)
     try simp only[Act.put,aG,aF,aA]
     refine wpAnyH_take (i:=3) (oi:=⟨some 31,_,_,_,_,_⟩) (v:=?_) rfl (by kernel_rfl) (by kernel_rfl) (by kernel_rfl) (fun _ _ _ h=>h) (Or.inl ⟨by rfl,?_⟩) (by assumption) ?_
     case refine_2=>(intro wz hSw;(try dsimp only at hSw);go_simp<;>with_reducible rfl)
     try simp only[Act.put,aG,aF,aA]
     refine wpAnyH_take (i:=4) (oi:=⟨some 32,_,_,_,_,_⟩) (v:=?_) rfl (by kernel_rfl) (by kernel_rfl) (by kernel_rfl) (fun _ _ _ h=>h) (Or.inl ⟨by rfl,?_⟩) (by assumption) ?_
     case refine_2=>(intro wz hSw;(try dsimp only at hSw);go_simp<;>with_reducible rfl)
     try simp only[Act.put,aG,aF,aA]
     refine wpAnyH_take (i:=5) (oi:=⟨some 33,_,_,_,_,_⟩) (v:=?_) rfl (by kernel_rfl) (by kernel_rfl) (by kernel_rfl) (fun _ _ _ h=>h) (Or.inl ⟨by rfl,?_⟩) (by assumption) ?_
     case refine_2=>(intro wz hSw;(try dsimp only at hSw);go_simp<;>with_reducible rfl)
     try simp only[Act.put,aG,aF,aA]
     refine wpAnyH_take (i:=6) (oi:=⟨some 34,_,_,_,_,_⟩) (v:=?_) rfl (by kernel_rfl) (by kernel_rfl) (by kernel_rfl) (fun _ _ _ h=>h) (Or.inl ⟨by rfl,?_⟩) (by assumption) ?_
     case refine_2=>(intro wz hSw;(try dsimp only at hSw);go_simp<;>with_reducible rfl)
     try simp only[Act.put,aG,aF,aA]
     refine wpAnyH_take (i:=7) (oi:=⟨some 35,_,_,_,_,_⟩) (v:=?_) rfl (by kernel_rfl) (by kernel_rfl) (by kernel_rfl) (fun _ _ _ h=>h) (Or.inl ⟨by rfl,?_⟩) (by assumption) ?_
     case refine_2=>(intro wz hSw;(try dsimp only at hSw);go_simp<;>with_reducible rfl)
     try simp only[Act.put,aG,aF,aA]
     refine wpAnyH_take (i:=8) (oi:=⟨some 36,_,_,_,_,_⟩) (v:=?_) rfl (by kernel_rfl) (by kernel_rfl) (by kernel_rfl) (fun _ _ _ h=>h) (Or.inl ⟨by rfl,?_⟩) (by assumption) ?_
     case refine_2=>(intro wz hSw;(try dsimp only at hSw);go_simp<;>with_reducible rfl)
     try simp only[Act.put,aG,aF,aA]
     refine wpAnyH_take (i:=9) (oi:=⟨some 37,_,_,_,_,_⟩) (v:=?_) rfl (by kernel_rfl) (by kernel_rfl) (by kernel_rfl) (fun _ _ _ h=>h) (Or.inl ⟨by rfl,?_⟩) (by assumption) ?_
     case refine_2=>(intro wz hSw;(try dsimp only at hSw);go_simp<;>with_reducible rfl)
     try simp only[Act.put,aG,aF,aA]
     refine wpAnyH_take (i:=10) (oi:=⟨some 38,_,_,_,_,_⟩) (v:=?_) rfl (by kernel_rfl) (by kernel_rfl) (by kernel_rfl) (fun _ _ _ h=>h) (Or.inl ⟨by rfl,?_⟩) (by assumption) ?_
     case refine_2=>(intro wz hSw;(try dsimp only at hSw);go_simp<;>with_reducible rfl)
     try simp only[Act.put,aG,aF,aA]
     refine wpAnyH_take (i:=11) (oi:=⟨some 39,_,_,_,_,_⟩) (v:=?_) rfl (by kernel_rfl) (by kernel_rfl) (by kernel_rfl) (fun _ _ _ h=>h) (Or.inl ⟨by rfl,?_⟩) (by assumption) ?_
     case refine_2=>(intro wz hSw;(try dsimp only at hSw);go_simp<;>with_reducible rfl)
     try simp only[Act.put,aG,aF,aA]
     refine wpAnyH_take (i:=12) (oi:=⟨some 40,_,_,_,_,_⟩) (v:=?_) rfl (by kernel_rfl) (by kernel_rfl) (by kernel_rfl) (fun _ _ _ h=>h) (Or.inl ⟨by rfl,?_⟩) (by assumption) ?_
     case refine_2=>(intro wz hSw;(try dsimp only at hSw);go_simp<;>with_reducible rfl)
     try simp only[Act.put,aG,aF,aA]
     refine wpAnyH_take (i:=13) (oi:=⟨some 41,_,_,_,_,_⟩) (v:=?_) rfl (by kernel_rfl) (by kernel_rfl) (by kernel_rfl) (fun _ _ _ h=>h) (Or.inl ⟨by rfl,?_⟩) (by assumption) ?_
     case refine_2=>(intro wz hSw;(try dsimp only at hSw);go_simp<;>with_reducible rfl)
     try simp only[Act.put,aG,aF,aA]
     refine wpAnyH_take (i:=14) (oi:=⟨some 42,_,_,_,_,_⟩) (v:=?_) rfl (by kernel_rfl) (by kernel_rfl) (by kernel_rfl) (fun _ _ _ h=>h) (Or.inl ⟨by rfl,?_⟩) (by assumption) ?_
     case refine_2=>(intro wz hSw;(try dsimp only at hSw);go_simp<;>with_reducible rfl)
     try simp only[Act.put,aG,aF,aA]
     refine wpAnyH_take (i:=15) (oi:=⟨some 43,_,_,_,_,_⟩) (v:=?_) rfl (by kernel_rfl) (by kernel_rfl) (by kernel_rfl) (fun _ _ _ h=>h) (Or.inl ⟨by rfl,?_⟩) (by assumption) ?_
     case refine_2=>(intro wz hSw;(try dsimp only at hSw);go_simp<;>with_reducible rfl)
     try simp only[Act.put,aG,aF,aA]
     refine wpAnyH_take (i:=16) (oi:=⟨some 44,_,_,_,_,_⟩) (v:=?_) rfl (by kernel_rfl) (by kernel_rfl) (by kernel_rfl) (fun _ _ _ h=>h) (Or.inl ⟨by rfl,?_⟩) (by assumption) ?_
     case refine_2=>(intro wz hSw;(try dsimp only at hSw);go_simp<;>with_reducible rfl)
     try simp only[Act.put,aG,aF,aA]
     refine wpAnyH_ready (rs:=[17]) (by kernel_rfl) (by simp) ?_;refine AllReadyH.cons (o:=⟨some 45,_,_,_,_,_⟩) rfl (fun K hK=>?_) AllReadyH.nil;go_simp;rw[y63 kN hkv];dsimp only[Oper.upon];refine(FC _ hb8).mono ?_;rintro e w9 ⟨rfl,kR⟩;replace kR:ah w5 w9:=aH hb8 kR;dsimp only;refine hK.out _ _ (Ep _ kR) (fun hHeld=>?_);clear hK K ak;have ak:=hHeld;clear hHeld;refine wpAnyH_take (i:=18) (oi:=⟨some 46,_,_,_,_,_⟩) (v:=?_) rfl (by kernel_rfl) (by kernel_rfl) (by kernel_rfl) (fun _ _ _ h=>h) (Or.inl ⟨by rfl,?_⟩) (by assumption) ?_
     case refine_2=>(intro wz hSw;(try dsimp only at hSw);go_simp<;>with_reducible rfl)
     try simp only[Act.put,aG,aF,aA]
     refine wpAnyH_take (i:=19) (oi:=⟨some 6,_,_,_,_,_⟩) (v:=?_) rfl (by kernel_rfl) (by kernel_rfl) (by kernel_rfl) (fun _ _ _ h=>h) (Or.inl ⟨by rfl,?_⟩) (by assumption) ?_
     case refine_2=>(intro wz hSw;(try dsimp only at hSw);go_simp<;>with_reducible rfl)
     try simp only[Act.put,aG,aF,aA]
     refine wpAnyH_done (by kernel_rfl) ?_ _;go_wp2_with fail;go_ret;exact⟨dh HQ.symm,⟨_,yU.below kR⟩,HKB.trans (KB.of kR (Nat.le_of_lt (World.rowIs.lt yU)))⟩
    ·have HQ:Hid (jm nd m=false):=by show jm nd m=false;rw[HV.out,hlb,decide_eq_false hk2];rfl
     have qk:decide (((nd m).kn:Int)<=200)=false:=decide_eq_false hk2;have qk2:decide ((nd m).kn<=200)=false:=decide_eq_false (by omega);have i1:(kN:Int)<39:=by omega
     have i2:(0:Int)<=(kN:Int):=by omega
     refine wp_region_held_drew (S:=(fun w'=>w'.cell? ⟨w.heap.size,0,none⟩=some (.int .i64 (kN:Int))/\w'.cell? ⟨w.heap.size,1,none⟩=some (.int .i64 (nd m).l)/\w'.cell? ⟨w.heap.size,2,none⟩=some (.int .i64 (nd m).o)/\w'.cell? ⟨w.heap.size,3,none⟩=some (.int .i64 (nd m).n)/\w'.cell? ⟨w.heap.size,4,none⟩=some (.float .f64 (nd m).f)/\w'.cell? ⟨w.heap.size,5,none⟩=some (.string (nd m).s)/\w'.cell? ⟨w.heap.size,6,none⟩=some (.slice (nas m).ra (nd m).rn (nas m).rc)/\w'.cell? ⟨w.heap.size,7,none⟩=some (.slice (nas m).ka (nd m).kn (nas m).kc)/\w'.cell? ⟨F,1+kN,none⟩=some (mv F (zi kN)))) (by kernel_rfl) (Ep.out _ (Below.refl _ _).drew) (fun ak=>?_);refine wpAnyH_take (i:=0) (oi:=⟨some 28,_,_,_,_,_⟩) (v:=?_) rfl (by kernel_rfl) (by kernel_rfl) (by kernel_rfl) (fun _ _ _ h=>h) (Or.inl ⟨by rfl,?_⟩) (by assumption) ?_
     case refine_2=>(intro wz hSw;(try dsimp only at hSw);go_simp<;>with_reducible rfl)
     try simp only[Act.put,aG,aF,aA]
     refine wpAnyH_ready (rs:=[1]) (by kernel_rfl) (by simp) ?_;refine AllReadyH.cons (o:=⟨some 29,_,_,_,_,_⟩) rfl (fun K hK=>?_) AllReadyH.nil;go_simp;refine(LF _).mono ?_;rw[hlb];rintro e w8 ⟨rfl,hb8⟩;replace hb8:ah w5 w8:=aH (Below.refl _ _).drew hb8;dsimp only;refine hK.out _ _ (Ep _ hb8) (fun hHeld=>?_);clear hK K ak;have ak:=hHeld;clear hHeld;refine wpAnyH_take (i:=2) (oi:=⟨some 30,_,_,_,_,_⟩) (v:=?_) rfl (by kernel_rfl) (by kernel_rfl) (by kernel_rfl) (fun _ _ _ h=>h) (Or.inl ⟨by rfl,?_⟩) (by assumption) ?_
     case refine_2=>(intro wz hSw;(try dsimp only at hSw);go_simp<;>with_reducible rfl)
     try simp only[Act.put,aG,aF,aA]
     refine wpAnyH_take (i:=3) (oi:=⟨some 31,_,_,_,_,_⟩) (v:=?_) rfl (by kernel_rfl) (by kernel_rfl) (by kernel_rfl) (fun _ _ _ h=>h) (Or.inl ⟨by rfl,?_⟩) (by assumption) ?_
     case refine_2=>(intro wz hSw;(try dsimp only at hSw);go_simp<;>with_reducible rfl)
     try simp only[Act.put,aG,aF,aA]
     refine wpAnyH_take (i:=4) (oi:=⟨some 32,_,_,_,_,_⟩) (v:=?_) rfl (by kernel_rfl) (by kernel_rfl) (by kernel_rfl) (fun _ _ _ h=>h) (Or.inl ⟨by rfl,?_⟩) (by assumption) ?_
     case refine_2=>(intro wz hSw;(try dsimp only at hSw);go_simp<;>with_reducible rfl)
     try simp only[Act.put,aG,aF,aA]
     refine wpAnyH_take (i:=5) (oi:=⟨some 33,_,_,_,_,_⟩) (v:=?_) rfl (by kernel_rfl) (by kernel_rfl) (by kernel_rfl) (fun _ _ _ h=>h) (Or.inl ⟨by rfl,?_⟩) (by assumption) ?_
     case refine_2=>(intro wz hSw;(try dsimp only at hSw);go_simp<;>with_reducible rfl)
     try simp only[Act.put,aG,aF,aA]
     refine wpAnyH_take (i:=6) (oi:=⟨some 34,_,_,_,_,_⟩) (v:=?_) rfl (by kernel_rfl) (by kernel_rfl) (by kernel_rfl) (fun _ _ _ h=>h) (Or.inl ⟨by rfl,?_⟩) (by assumption) ?_
     case refine_2=>(intro wz hSw;(try dsimp only at hSw);go_simp<;>with_reducible rfl)
     try simp only[Act.put,aG,aF,aA]
     refine wpAnyH_take (i:=7) (oi:=⟨some 35,_,_,_,_,_⟩) (v:=?_) rfl (by kernel_rfl) (by kernel_rfl) (by kernel_rfl) (fun _ _ _ h=>h) (Or.inl ⟨by rfl,?_⟩) (by assumption) ?_
     case refine_2=>(intro wz hSw;(try dsimp only at hSw);go_simp<;>with_reducible rfl)
     try simp only[Act.put,aG,aF,aA]
     refine wpAnyH_take (i:=8) (oi:=⟨some 36,_,_,_,_,_⟩) (v:=?_) rfl (by kernel_rfl) (by kernel_rfl) (by kernel_rfl) (fun _ _ _ h=>h) (Or.inl ⟨by rfl,?_⟩) (by assumption) ?_
     case refine_2=>(intro wz hSw;(try dsimp only at hSw);go_simp<;>with_reducible rfl)
     try simp only[Act.put,aG,aF,aA]
     refine wpAnyH_take (i:=9) (oi:=⟨some 37,_,_,_,_,_⟩) (v:=undef) rfl (by kernel_rfl) (by kernel_rfl) (by kernel_rfl) (fun _ _ _ h=>h) (Or.inr ⟨by rfl,rfl⟩) (by assumption) ?_;try simp only[Act.put,aG,aF,aA]
     refine wpAnyH_take (i:=10) (oi:=⟨some 38,_,_,_,_,_⟩) (v:=undef) rfl (by kernel_rfl) (by kernel_rfl) (by kernel_rfl) (fun _ _ _ h=>h) (Or.inr ⟨by rfl,rfl⟩) (by assumption) ?_;try simp only[Act.put,aG,aF,aA]
     refine wpAnyH_take (i:=11) (oi:=⟨some 39,_,_,_,_,_⟩) (v:=undef) rfl (by kernel_rfl) (by kernel_rfl) (by kernel_rfl) (fun _ _ _ h=>h) (Or.inr ⟨by rfl,rfl⟩) (by assumption) ?_;try simp only[Act.put,aG,aF,aA]
     refine wpAnyH_take (i:=12) (oi:=⟨some 40,_,_,_,_,_⟩) (v:=undef) rfl (by kernel_rfl) (by kernel_rfl) (by kernel_rfl) (fun _ _ _ h=>h) (Or.inr ⟨by rfl,rfl⟩) (by assumption) ?_;try simp only[Act.put,aG,aF,aA]
     refine wpAnyH_take (i:=13) (oi:=⟨some 41,_,_,_,_,_⟩) (v:=undef) rfl (by kernel_rfl) (by kernel_rfl) (by kernel_rfl) (fun _ _ _ h=>h) (Or.inr ⟨by rfl,rfl⟩) (by assumption) ?_;try simp only[Act.put,aG,aF,aA]
     refine wpAnyH_take (i:=14) (oi:=⟨some 42,_,_,_,_,_⟩) (v:=undef) rfl (by kernel_rfl) (by kernel_rfl) (by kernel_rfl) (fun _ _ _ h=>h) (Or.inr ⟨by rfl,rfl⟩) (by assumption) ?_;try simp only[Act.put,aG,aF,aA]
     refine wpAnyH_take (i:=15) (oi:=⟨some 43,_,_,_,_,_⟩) (v:=undef) rfl (by kernel_rfl) (by kernel_rfl) (by kernel_rfl) (fun _ _ _ h=>h) (Or.inr ⟨by rfl,rfl⟩) (by assumption) ?_;try simp only[Act.put,aG,aF,aA]
     refine wpAnyH_take (i:=16) (oi:=⟨some 44,_,_,_,_,_⟩) (v:=undef) rfl (by kernel_rfl) (by kernel_rfl) (by kernel_rfl) (fun _ _ _ h=>h) (Or.inr ⟨by rfl,rfl⟩) (by assumption) ?_;try simp only[Act.put,aG,aF,aA]
     refine wpAnyH_take (i:=17) (oi:=⟨some 45,_,_,_,_,_⟩) (v:=undef) rfl (by kernel_rfl) (by kernel_rfl) (by kernel_rfl) (fun _ _ _ h=>h) (Or.inr ⟨by rfl,rfl⟩) (by assumption) ?_;try simp only[Act.put,aG,aF,aA]
     refine wpAnyH_take (i:=18) (oi:=⟨some 46,_,_,_,_,_⟩) (v:=?_) rfl (by kernel_rfl) (by kernel_rfl) (by kernel_rfl) (fun _ _ _ h=>h) (Or.inl ⟨by rfl,?_⟩) (by assumption) ?_
     case refine_2=>(intro wz hSw;(try dsimp only at hSw);go_simp<;>with_reducible rfl)
     try simp only[Act.put,aG,aF,aA]
     refine wpAnyH_take (i:=19) (oi:=⟨some 6,_,_,_,_,_⟩) (v:=?_) rfl (by kernel_rfl) (by kernel_rfl) (by kernel_rfl) (fun _ _ _ h=>h) (Or.inl ⟨by rfl,?_⟩) (by assumption) ?_
     case refine_2=>(intro wz hSw;(try dsimp only at hSw);go_simp<;>with_reducible rfl)
     try simp only[Act.put,aG,aF,aA]
     refine wpAnyH_done (by kernel_rfl) ?_ _;go_wp2_with fail;go_ret;exact⟨dh HQ.symm,⟨_,yU.below hb8⟩,HKB.trans (KB.of hb8 (Nat.le_of_lt (World.rowIs.lt yU)))⟩
 ·have hf:jm nd m=false:=by
   have h1:iJ (nd m).k=false:=by unfold iJ;simp;omega
   have h2:iU (nd m).k=false:=by unfold iU;simp;omega
   unfold jm;rw[h1,h2];rfl
  have hs1:setB 32766 (nd m).k=false:=by rw[FV];unfold iJ;simp;omega
  have hs2:setB 549754765312 (nd m).k=false:=by rw[CJ];unfold iU;simp;omega
  have HV:Hid (jm nd m=false):=hf;clear hf hk;go_in;go_wp2_with fail;refine(yE 32766 (by decide) _ _).mono ?_;rw[hs1];rintro e w1 ⟨rfl,rfl⟩;go_wp2_with fail;refine(yE 549754765312 (by decide) _ _).mono ?_;rw[hs2];rintro e w1 ⟨rfl,rfl⟩;go_wp2_with fail;go_ret;exact⟨dh HV.symm,⟨s,HF.alloc _⟩,KB.of (q01 _ _) (by omega)⟩
def Dh(u:UD)(f n:Nat):Prop:=jC (u.fn f).nd n=false
theorem y73{u:UD}{f n:Nat}(hf:f<u.n)(hn:n<(u.fn f).nn)(h3:∀f',f'<f->∀n',n'<(u.fn f').nn->¬Dh u f' n')(h4:∀n',n'<n->¬Dh u f n')(h5:Dh u f n):Least (qO u) ⟨3,f,n⟩:=At2.least (by decide) h3 h4 hf hn h5
theorem yh1{u:UD}(h2:∀f',f'<u.n->∀n',n'<(u.fn f').nn->¬Dh u f' n'):Least (qO u) jl:=Least.zero (At2.none h2)
theorem qt1(L:Nat)(u:UD)(a:Option Addr)(cap:Nat)(fas:Nat->FA)(w:World)(hs:u.sm)(hz:zq u)(hc:∀i,i<u.n->jc (u.fn i) (fas i))(hT:aZ L w u.n u.fn a fas):Calls Tryz.prog 39 #[pq u a cap] w fun e w'=>aQ (qO u) w e w':=by
 have HT:Hid (aZ L w u.n u.fn a fas):=hT;have HS:Hid u.sm:=hs;have HZ:Hid (zq u):=hz;have HC:Hid (∀i,i<u.n->jc (u.fn i) (fas i)):=hc;have hun:=hz.2.1;obtain⟨b,off,e0,_,hb,_⟩:=dQ hT.1 (show 0<u.n from hz.1);subst e0;clear hT hs hz hc;have ez:Hid ((cZ w u (some ⟨b,off,none⟩) cap).heap.size=w.heap.size+1 + 1):=by show _=_;simp
 go_in;go_wp2_with (go_at_call 77;refine(qv0 _).mono ?_;rintro e w1 ⟨rfl,hw1⟩;have HB1:Hid (Below (cZ w u (some ⟨b,off,none⟩) cap).heap.size (cZ w u (some ⟨b,off,none⟩) cap) w1):=(by show Below _ _ _;rw[hw1];exact q01 _ _);have YM:Hid (∃s,fK w1 (w.heap.size+1 + 1) s):=(by have h:=fK.new (cZ w u (some ⟨b,off,none⟩) cap);rw[<-hw1,ez.out] at h;exact⟨_,h⟩);have u0:=(DY HB1.out).cell 0 rfl;clear hw1);clear u0
 go_loopw [11] (fun i wr=>∃(k:Nat),k<=u.n/\i=.int .i64 k/\Hid (∀f',f'<k->∀n',n'<(u.fn f').nn->¬Dh u f' n')/\Hid (Below (cZ w u (some ⟨b,off,none⟩) cap).heap.size (cZ w u (some ⟨b,off,none⟩) cap) wr)/\Hid (∃s,fK wr (w.heap.size+1 + 1) s)) (fun i _=>u.n-(intOf i).toNat)
 case atStart=>exact⟨0,Nat.zero_le _,rfl,fun f' hf'=>by omega,HB1,YM⟩
 case round=>
  clear HB1 YM;obtain⟨k,hk,rfl,HF,HB,HV⟩:=hrel;by_cases hkn:k<u.n
  ·have iF:Hid (aZ L wr u.n u.fn (some ⟨b,off,none⟩) fas):=HT.below (iH HB.out);obtain⟨b',off',e0,_,hbz,d0,d1,d2,d3,d4,d5,d6⟩:=dQ iF.1 hkn;obtain⟨rfl,rfl⟩:b=b'/\off=off':=by simpa using e0
   clear e0;have hnn:(u.fn k).nn<=3000:=Nat.le_trans (NV u.fn u.n k hkn) HZ.2.2
   rename World=>wa
   have hFw:w.heap.size+1 + 1<wa.heap.size:=by obtain⟨s,h⟩:=HV.out;exact World.rowIs.lt h
   have HX0:Hid (Has (wa.alloc (.cells (jO (u.fn k) (fas k)) 87)) wa.heap.size (jO (u.fn k) (fas k))):=Has.new _ _ _;have HB0:Hid (Below (cZ w u (some ⟨b,off,none⟩) cap).heap.size (cZ w u (some ⟨b,off,none⟩) cap) (wa.alloc (.cells (jO (u.fn k) (fas k)) 87))):=bH HB.out _;have Nk:Hid (∃s,fK (wa.alloc (.cells (jO (u.fn k) (fas k)) 87)) (w.heap.size+1 + 1) s):=by obtain⟨s,h⟩:=HV.out;exact⟨s,h.alloc _⟩
   go_wp2_with fail;clear d0 d1 d2 d3 d4 d5 d6
   go_loopw [19] (fun i wr=>∃(m:Nat),m<=(u.fn k).nn/\i=.int .i64 m/\Hid (∀n',n'<m->¬Dh u k n')/\Hid (Below (cZ w u (some ⟨b,off,none⟩) cap).heap.size (cZ w u (some ⟨b,off,none⟩) cap) wr)/\Hid (∃s,fK wr (w.heap.size+1 + 1) s)/\Hid (Has wr wa.heap.size (jO (u.fn k) (fas k)))) (fun i _=>(u.fn k).nn-(intOf i).toNat)
   case atStart=>exact⟨0,Nat.zero_le _,rfl,fun f' hf'=>by omega,HB0,Nk,HX0⟩
   case round=>
    clear HB HV iF HX0 HB0 Nk;obtain⟨m,hm,rfl,HN,HB,HV,HX⟩:=hrel;by_cases hmn:m<(u.fn k).nn
    ·have y6:wr.cell? ⟨wa.heap.size,6,none⟩=some (.slice (fas k).na (u.fn k).nn (fas k).nc):=HX.cell 6 rfl;obtain⟨s,hs⟩:=HV.out;have JO:=(HC.out k hkn);have Jz:Hid (bV 0 (cZ w u (some ⟨b,off,none⟩) cap) (u.fn k).nn (u.fn k).nd (fas k).na (fas k).nas):=((HT.below (iH (Below.refl _ _))).2 k hkn).2.2.less (Nat.zero_le _);have YL:Hid (Calls Tryz.prog 78 #[.pointer (some ⟨w.heap.size+1 + 1,0,none⟩),.slice (fas k).na (u.fn k).nn (fas k).nc,.int .i64 m] wr fun e w'=>z40 (u.fn k).nd m (w.heap.size+1 + 1) wr e w'):=zn8 (w.heap.size+1 + 1) (u.fn k).nn (u.fn k).nd (fas k).na (fas k).nc (fas k).nas m s (cZ w u (some ⟨b,off,none⟩) cap) wr hmn (by omega) JO.1 ((HS.fn k hkn).nd m hmn) (JO.2 m hmn) Jz.out (Nat.le_of_eq ez.out) HB.out hs;clear hs JO Jz
     cases hfb:jm (u.fn k).nd m
     ·have HL:Hid (Least (qO u) ⟨3,k,m⟩):=y73 hkn hmn HF.out HN.out (by show jC _ _=false;rw[<-Vq];exact hfb);go_wp2_with (go_at_call 78;refine YL.mono ?_;unfold z40;rw[hfb];rintro e w8 ⟨rfl,QT,hk8⟩;have qV:Hid (Below (cZ w u (some ⟨b,off,none⟩) cap).heap.size (cZ w u (some ⟨b,off,none⟩) cap) w8):=HB.trans (hk8.low.mono (Nat.le_of_eq ez.out));have s0:=(bT qV.out).cell (i:=0) (by omega);have s1:=(bT qV.out).cell (i:=1) (by omega);have s2:=(bT qV.out).cell (i:=2) (by omega);have sz:=(bT qV.out).frozen);refine bodyPost_ret (v:=iE ⟨3,k,m⟩) (by simp[results,Tryz.results39,go_sem,s0,s1,s2]) rfl ?_;exact aQ.of HL (jR (iH qV) _ _ _)
     ·have HG:Hid (¬Dh u k m):=by
       show ¬(jC _ _=false);rw[<-Vq,hfb];simp
      go_wp2_with (go_at_call 78;refine YL.mono ?_;unfold z40;rw[hfb];rintro e w8 ⟨rfl,QT,hk8⟩;have HV8:Hid (∃s,fK w8 (w.heap.size+1 + 1) s):=QT;have YH:Hid (KB (w.heap.size+1 + 1) wr w8):=hk8;clear QT hk8);have qV:Hid (Below (cZ w u (some ⟨b,off,none⟩) cap).heap.size (cZ w u (some ⟨b,off,none⟩) cap) w8):=HB.trans (YH.low.mono (Nat.le_of_eq ez.out));have Nj:Hid (Has w8 wa.heap.size (jO (u.fn k) (fas k))):=YH.has _ _ (by omega) HX.out;go_roundw
      case rel=>exact⟨m+1,by omega,by go_num,fun j hj=>by
       by_cases e:j=m
       ·subst e;exact HG
       ·exact HN.out j (by omega),qV,HV8,Nj⟩
      case measure=>simp[intOf];omega
    ·obtain rfl:m=(u.fn k).nn:=by omega
     go_wp2_with fail;go_roundw
     case rel=>exact⟨k+1,by omega,by go_num,fun j hj=>by
      by_cases e:j=k
      ·subst e;exact HN
      ·exact HF.out j (by omega),HB,HV⟩
     case measure=>simp[intOf];omega
  ·obtain rfl:k=u.n:=by omega
   have HL:Hid (Least (qO u) ⟨0,0,0⟩):=yh1 HF.out;have s0:=(bT HB.out).cell (i:=0) (by omega);have s1:=(bT HB.out).cell (i:=1) (by omega);have s2:=(bT HB.out).cell (i:=2) (by omega);have sz:=(bT HB.out).frozen;go_wp2_with fail;refine bodyPost_ret (v:=iE ⟨0,0,0⟩) (by simp[results,Tryz.results39,go_sem,s0,s1,s2]) rfl ?_;exact aQ.of HL (jR (iH HB) _ _ _)
theorem Least.in{P:FT->Prop}{x:FT}(h:Least P x)(h0:x.c≠0):P x:=by
 rcases h with⟨rfl,_⟩|⟨_,h,_⟩
 ·exact absurd rfl h0
 ·exact h
def fC(u:UD):Nat->FT->Prop
 |0=>oW u
 |1=>kW u
 |2=>qO u
 |3=>oV u
 |4=>qN u
 |_=>uN u
theorem Vk{u:UD}{y:FT}(h:jd u y):∃j,j<6/\fC u j y:=by
 rcases h with h|h|h|h|h|h
 ·exact⟨0,by omega,h⟩
 ·exact⟨1,by omega,h⟩
 ·exact⟨2,by omega,h⟩
 ·exact⟨3,by omega,h⟩
 ·exact⟨4,by omega,h⟩
 ·exact⟨5,by omega,h⟩
theorem yn3{u:UD}{y:FT}{j:Nat}(hj:j<6)(h:fC u j y):jd u y:=by
 rcases(show j=0\/j=1\/j=2\/j=3\/j=4\/j=5 by omega) with rfl|rfl|rfl|rfl|rfl|rfl
 ·exact .inl h
 ·exact .inr (.inl h)
 ·exact .inr (.inr (.inl h))
 ·exact .inr (.inr (.inr (.inl h)))
 ·exact .inr (.inr (.inr (.inr (.inl h))))
 ·exact .inr (.inr (.inr (.inr (.inr h))))
theorem UJ{u:UD}{y:FT}{j:Nat}(hj:j<6)(h:fC u j y):j+1<=y.c/\(j<5->y.c=j+1):=by
 rcases(show j=0\/j=1\/j=2\/j=3\/j=4\/j=5 by omega) with rfl|rfl|rfl|rfl|rfl|rfl
 ·have:=h.1;omega
 ·have:=h.1;omega
 ·have:=h.1;omega
 ·have:=h.1;omega
 ·have:=h.1;omega
 ·have:=Z9 h;omega
theorem EN{u:UD}{k:Nat}{x:FT}(hk:k<6)(hn:∀j,j<k->∀y,¬fC u j y)(h:Least (fC u k) x)(h0:x.c≠0):Least (jd u) x:=by
 have hx:=h.in h0;refine .inr ⟨by omega,yn3 hk hx,fun y hy=>?_⟩;obtain⟨j,hj,hy⟩:=Vk hy;by_cases e:j<k
 ·exact absurd hy (hn j e y)
 ·by_cases e2:j=k
  ·subst e2;rcases h with⟨rfl,_⟩|⟨_,_,h⟩
   ·exact absurd rfl h0
   ·exact h y hy
  ·have h1:=UJ hk hx;have h2:=UJ hj hy;exact .inl (by have:=h1.2 (by omega);omega)
theorem yg8{u:UD}(hn:∀j,j<6->∀y,¬fC u j y):Least (jd u) jl:=Least.zero fun y hy=>by
 obtain⟨j,hj,hy⟩:=Vk hy;exact hn j hj y hy
theorem yo3{u:UD}(h1:∀y,¬oW u y):zq u:=Classical.byContradiction fun h=>At2.no h1 0 (by omega) 0 (by omega) h
def OW:Prop:=∀(L:Nat) (u:UD) (a:Option Addr) (cap:Nat) (fas:Nat->FA) (w:World),u.sm->U5 u->(∀y,¬qN u y)->(∀i,i<u.n->jc (u.fn i) (fas i))->aZ L w u.n u.fn a fas->
 Calls Tryz.prog 42 #[pq u a cap] w fun e w'=>aQ (uN u) w e w'
theorem z97(hD:Gs)(hX:OW)(L:Nat)(u:UD)(a:Option Addr)(cap:Nat)(fas:Nat->FA)(w:World)(hs:u.sm)(hc:∀i,i<u.n->jc (u.fn i) (fas i))(hT:aZ L w u.n u.fn a fas):Calls Tryz.prog 17 #[pq u a cap] w fun e w'=>aQ (jd u) w e w':=by
 have HD:Hid Gs:=hD;have HX:Hid OW:=hX;have HT:Hid (aZ L w u.n u.fn a fas):=hT;have HS:Hid u.sm:=hs;have HC:Hid (∀i,i<u.n->jc (u.fn i) (fas i)):=hc;clear hT hs hD hX hc;go_in;go_wp2_with fail;obtain⟨w3,hw3⟩:∃w3,w3=(cZ w u a cap).alloc (.cells #[.func (.func 37) #[] #[],.func (.func 38) #[] #[],.func (.func 39) #[] #[],.func (.func 40) #[] #[],.func (.func 41) #[] #[],.func (.func 42) #[] #[]] 57):=⟨_,rfl⟩;have HB3:Hid (Below (cZ w u a cap).heap.size (cZ w u a cap) w3):=by show Below _ _ _;rw[hw3];exact q01 _ _
 have HR3:Hid (Has w3 (w.heap.size+1 + 1) #[.func (.func 37) #[] #[],.func (.func 38) #[] #[],.func (.func 39) #[] #[],.func (.func 40) #[] #[],.func (.func 41) #[] #[],.func (.func 42) #[] #[]]):=by
  have h:=Has.new (cZ w u a cap) #[.func (.func 37) #[] #[],.func (.func 38) #[] #[],.func (.func 39) #[] #[],.func (.func 40) #[] #[],.func (.func 41) #[] #[],.func (.func 42) #[] #[]] 57;rw[<-hw3] at h;show Has _ _ _;simpa using h
 simp only[cZ] at hw3;rw[<-hw3];clear hw3
 go_loopw [8] (fun i wr=>∃(k:Nat),k<=6/\i=.int .i64 k/\Hid (∀j,j<k->∀y,¬fC u j y)/\Hid (Below (cZ w u a cap).heap.size (cZ w u a cap) wr)/\Hid (Has wr (w.heap.size+1 + 1) #[.func (.func 37) #[] #[],.func (.func 38) #[] #[],.func (.func 39) #[] #[],.func (.func 40) #[] #[],.func (.func 41) #[] #[],.func (.func 42) #[] #[]])) (fun i _=>6-(intOf i).toNat)
 case atStart=>exact⟨0,by omega,rfl,fun j hj=>by omega,HB3,HR3⟩
 case round=>
  clear HB3 HR3;obtain⟨k,hk,rfl,HN,HB,HR⟩:=hrel;have hW:=iH HB.out;have f0:wr.cell? ⟨w.heap.size,0,none⟩=some (.slice a u.n cap):=(DY HB.out).cell 0 rfl;rcases(show k=0\/k=1\/k=2\/k=3\/k=4\/k=5\/k=6 by omega) with rfl|rfl|rfl|rfl|rfl|rfl|rfl
  ·have g0:wr.cell? ⟨w.heap.size+1 + 1,0,none⟩=some (.func (.func 37) #[] #[]):=HR.cell 0 rfl;have LK:Hid (Calls Tryz.prog 37 #[pq u a cap] wr fun e w'=>aQ (fC u 0) wr e w'):=qq2 L u a cap fas wr HS.out (HT.below hW)
   go_upto_region 5 with(go_at_call 37;refine LK.mono ?_;rintro e w1 ⟨⟨c1,f1,n1⟩,rfl,hL1,hb1⟩;have jq:Hid (Least (fC u 0) ⟨c1,f1,n1⟩):=hL1;clear hL1)
   clear g0 f0 hW LK;obtain⟨wA,hwA⟩:∃wA,wA=w1.alloc (.cells #[.int .i64 (c1:Int),.int .i64 (f1:Int),.int .i64 (n1:Int)] 56):=⟨_,rfl⟩;have HB1:Hid (Below (cZ w u a cap).heap.size (cZ w u a cap) wA):=by show Below _ _ _;rw[hwA];exact bH (aH HB hb1) _
   have HA:Hid (Has wA w1.heap.size #[.int .i64 (c1:Int),.int .i64 (f1:Int),.int .i64 (n1:Int)]):=by show Has _ _ _;rw[hwA];exact Has.new _ _ _
   have HR1:Hid (Has wA (w.heap.size+1 + 1) #[.func (.func 37) #[] #[],.func (.func 38) #[] #[],.func (.func 39) #[] #[],.func (.func 40) #[] #[],.func (.func 41) #[] #[],.func (.func 42) #[] #[]]):=by show Has _ _ _;rw[hwA];exact(HR.call hb1).alloc _
   rw[<-hwA];clear hwA hb1;have a0:wA.cell? ⟨w1.heap.size,0,none⟩=some (.int .i64 (c1:Int)):=HA.cell 0 rfl;have a1:wA.cell? ⟨w1.heap.size,1,none⟩=some (.int .i64 (f1:Int)):=HA.cell 1 rfl;have a2:wA.cell? ⟨w1.heap.size,2,none⟩=some (.int .i64 (n1:Int)):=HA.cell 2 rfl;by_cases c0:c1=0
   ·have hz:=jq.nil c0;have jo:Hid (∀j,j<0+1->∀y,¬fC u j y):=fun j hj=>by
     by_cases e:j=0
     ·subst e;have h:=jq.out;rw[hz] at h;exact h.none
     ·exact HN.out j (by omega)
    obtain⟨rfl,rfl,rfl⟩:c1=0/\f1=0/\n1=0:=by simpa[jl] using hz
    clear hz jq c0;go_wp2_with fail;go_roundw
    case rel=>exact⟨0+1,by omega,by go_num,jo,HB1,HR1⟩
    case measure=>simp[intOf]
   ·have s0:=(bT HB1.out).cell (i:=0) (by omega);have s1:=(bT HB1.out).cell (i:=1) (by omega);have s2:=(bT HB1.out).cell (i:=2) (by omega);have sz:=(bT HB1.out).frozen;have HQ:Hid (Least (jd u) ⟨c1,f1,n1⟩):=EN (by omega) HN.out jq.out c0;have q1:((c1:Int)==0)=false:=by simp;omega
    have q2:((c1:Int) != 0)=true:=by simp;omega
    go_wp2_with fail;refine bodyPost_ret (v:=iE ⟨c1,f1,n1⟩) (by simp[results,Tryz.results17,go_sem,s0,s1,s2]) rfl ?_;exact aQ.of HQ (jR (iH HB1) _ _ _)
  ·have g0:wr.cell? ⟨w.heap.size+1 + 1,1,none⟩=some (.func (.func 38) #[] #[]):=HR.cell 1 rfl;have LK:Hid (Calls Tryz.prog 38 #[pq u a cap] wr fun e w'=>aQ (fC u 1) wr e w'):=z19 L u a cap fas wr HS.out (HT.below hW)
   go_upto_region 5 with(go_at_call 38;refine LK.mono ?_;rintro e w1 ⟨⟨c1,f1,n1⟩,rfl,hL1,hb1⟩;have jq:Hid (Least (fC u 1) ⟨c1,f1,n1⟩):=hL1;clear hL1)
   clear g0 f0 hW LK;obtain⟨wA,hwA⟩:∃wA,wA=w1.alloc (.cells #[.int .i64 (c1:Int),.int .i64 (f1:Int),.int .i64 (n1:Int)] 56):=⟨_,rfl⟩;have HB1:Hid (Below (cZ w u a cap).heap.size (cZ w u a cap) wA):=by show Below _ _ _;rw[hwA];exact bH (aH HB hb1) _
   have HA:Hid (Has wA w1.heap.size #[.int .i64 (c1:Int),.int .i64 (f1:Int),.int .i64 (n1:Int)]):=by show Has _ _ _;rw[hwA];exact Has.new _ _ _
   have HR1:Hid (Has wA (w.heap.size+1 + 1) #[.func (.func 37) #[] #[],.func (.func 38) #[] #[],.func (.func 39) #[] #[],.func (.func 40) #[] #[],.func (.func 41) #[] #[],.func (.func 42) #[] #[]]):=by show Has _ _ _;rw[hwA];exact(HR.call hb1).alloc _
   rw[<-hwA];clear hwA hb1;have a0:wA.cell? ⟨w1.heap.size,0,none⟩=some (.int .i64 (c1:Int)):=HA.cell 0 rfl;have a1:wA.cell? ⟨w1.heap.size,1,none⟩=some (.int .i64 (f1:Int)):=HA.cell 1 rfl;have a2:wA.cell? ⟨w1.heap.size,2,none⟩=some (.int .i64 (n1:Int)):=HA.cell 2 rfl;by_cases c0:c1=0
   ·have hz:=jq.nil c0;have jo:Hid (∀j,j<1+1->∀y,¬fC u j y):=fun j hj=>by
     by_cases e:j=1
     ·subst e;have h:=jq.out;rw[hz] at h;exact h.none
     ·exact HN.out j (by omega)
    obtain⟨rfl,rfl,rfl⟩:c1=0/\f1=0/\n1=0:=by simpa[jl] using hz
    clear hz jq c0;go_wp2_with fail;go_roundw
    case rel=>exact⟨1+1,by omega,by go_num,jo,HB1,HR1⟩
    case measure=>simp[intOf]
   ·have s0:=(bT HB1.out).cell (i:=0) (by omega);have s1:=(bT HB1.out).cell (i:=1) (by omega);have s2:=(bT HB1.out).cell (i:=2) (by omega);have sz:=(bT HB1.out).frozen;have HQ:Hid (Least (jd u) ⟨c1,f1,n1⟩):=EN (by omega) HN.out jq.out c0;have q1:((c1:Int)==0)=false:=by simp;omega
    have q2:((c1:Int) != 0)=true:=by simp;omega
    go_wp2_with fail;refine bodyPost_ret (v:=iE ⟨c1,f1,n1⟩) (by simp[results,Tryz.results17,go_sem,s0,s1,s2]) rfl ?_;exact aQ.of HQ (jR (iH HB1) _ _ _)
  ·have g0:wr.cell? ⟨w.heap.size+1 + 1,2,none⟩=some (.func (.func 39) #[] #[]):=HR.cell 2 rfl;have LK:Hid (Calls Tryz.prog 39 #[pq u a cap] wr fun e w'=>aQ (fC u 2) wr e w'):=qt1 L u a cap fas wr HS.out (yo3 (HN.out 0 (by omega))) HC.out (HT.below hW)
   go_upto_region 5 with(go_at_call 39;refine LK.mono ?_;rintro e w1 ⟨⟨c1,f1,n1⟩,rfl,hL1,hb1⟩;have jq:Hid (Least (fC u 2) ⟨c1,f1,n1⟩):=hL1;clear hL1)
   clear g0 f0 hW LK;obtain⟨wA,hwA⟩:∃wA,wA=w1.alloc (.cells #[.int .i64 (c1:Int),.int .i64 (f1:Int),.int .i64 (n1:Int)] 56):=⟨_,rfl⟩;have HB1:Hid (Below (cZ w u a cap).heap.size (cZ w u a cap) wA):=by show Below _ _ _;rw[hwA];exact bH (aH HB hb1) _
   have HA:Hid (Has wA w1.heap.size #[.int .i64 (c1:Int),.int .i64 (f1:Int),.int .i64 (n1:Int)]):=by show Has _ _ _;rw[hwA];exact Has.new _ _ _
   have HR1:Hid (Has wA (w.heap.size+1 + 1) #[.func (.func 37) #[] #[],.func (.func 38) #[] #[],.func (.func 39) #[] #[],.func (.func 40) #[] #[],.func (.func 41) #[] #[],.func (.func 42) #[] #[]]):=by show Has _ _ _;rw[hwA];exact(HR.call hb1).alloc _
   rw[<-hwA];clear hwA hb1;have a0:wA.cell? ⟨w1.heap.size,0,none⟩=some (.int .i64 (c1:Int)):=HA.cell 0 rfl;have a1:wA.cell? ⟨w1.heap.size,1,none⟩=some (.int .i64 (f1:Int)):=HA.cell 1 rfl;have a2:wA.cell? ⟨w1.heap.size,2,none⟩=some (.int .i64 (n1:Int)):=HA.cell 2 rfl;by_cases c0:c1=0
   ·have hz:=jq.nil c0;have jo:Hid (∀j,j<2+1->∀y,¬fC u j y):=fun j hj=>by
     by_cases e:j=2
     ·subst e;have h:=jq.out;rw[hz] at h;exact h.none
     ·exact HN.out j (by omega)
    obtain⟨rfl,rfl,rfl⟩:c1=0/\f1=0/\n1=0:=by simpa[jl] using hz
    clear hz jq c0;go_wp2_with fail;go_roundw
    case rel=>exact⟨2+1,by omega,by go_num,jo,HB1,HR1⟩
    case measure=>simp[intOf]
   ·have s0:=(bT HB1.out).cell (i:=0) (by omega);have s1:=(bT HB1.out).cell (i:=1) (by omega);have s2:=(bT HB1.out).cell (i:=2) (by omega);have sz:=(bT HB1.out).frozen;have HQ:Hid (Least (jd u) ⟨c1,f1,n1⟩):=EN (by omega) HN.out jq.out c0;have q1:((c1:Int)==0)=false:=by simp;omega
    have q2:((c1:Int) != 0)=true:=by simp;omega
    go_wp2_with fail;refine bodyPost_ret (v:=iE ⟨c1,f1,n1⟩) (by simp[results,Tryz.results17,go_sem,s0,s1,s2]) rfl ?_;exact aQ.of HQ (jR (iH HB1) _ _ _)
  ·have g0:wr.cell? ⟨w.heap.size+1 + 1,3,none⟩=some (.func (.func 40) #[] #[]):=HR.cell 3 rfl;have LK:Hid (Calls Tryz.prog 40 #[pq u a cap] wr fun e w'=>aQ (fC u 3) wr e w'):=qp5 L u a cap fas wr HS.out (Ol (HN.out 0 (by omega)) (HN.out 1 (by omega)) (HN.out 2 (by omega))) (HT.below hW)
   go_upto_region 5 with(go_at_call 40;refine LK.mono ?_;rintro e w1 ⟨⟨c1,f1,n1⟩,rfl,hL1,hb1⟩;have jq:Hid (Least (fC u 3) ⟨c1,f1,n1⟩):=hL1;clear hL1)
   clear g0 f0 hW LK;obtain⟨wA,hwA⟩:∃wA,wA=w1.alloc (.cells #[.int .i64 (c1:Int),.int .i64 (f1:Int),.int .i64 (n1:Int)] 56):=⟨_,rfl⟩;have HB1:Hid (Below (cZ w u a cap).heap.size (cZ w u a cap) wA):=by show Below _ _ _;rw[hwA];exact bH (aH HB hb1) _
   have HA:Hid (Has wA w1.heap.size #[.int .i64 (c1:Int),.int .i64 (f1:Int),.int .i64 (n1:Int)]):=by show Has _ _ _;rw[hwA];exact Has.new _ _ _
   have HR1:Hid (Has wA (w.heap.size+1 + 1) #[.func (.func 37) #[] #[],.func (.func 38) #[] #[],.func (.func 39) #[] #[],.func (.func 40) #[] #[],.func (.func 41) #[] #[],.func (.func 42) #[] #[]]):=by show Has _ _ _;rw[hwA];exact(HR.call hb1).alloc _
   rw[<-hwA];clear hwA hb1;have a0:wA.cell? ⟨w1.heap.size,0,none⟩=some (.int .i64 (c1:Int)):=HA.cell 0 rfl;have a1:wA.cell? ⟨w1.heap.size,1,none⟩=some (.int .i64 (f1:Int)):=HA.cell 1 rfl;have a2:wA.cell? ⟨w1.heap.size,2,none⟩=some (.int .i64 (n1:Int)):=HA.cell 2 rfl;by_cases c0:c1=0
   ·have hz:=jq.nil c0;have jo:Hid (∀j,j<3+1->∀y,¬fC u j y):=fun j hj=>by
     by_cases e:j=3
     ·subst e;have h:=jq.out;rw[hz] at h;exact h.none
     ·exact HN.out j (by omega)
    obtain⟨rfl,rfl,rfl⟩:c1=0/\f1=0/\n1=0:=by simpa[jl] using hz
    clear hz jq c0;go_wp2_with fail;go_roundw
    case rel=>exact⟨3+1,by omega,by go_num,jo,HB1,HR1⟩
    case measure=>simp[intOf]
   ·have s0:=(bT HB1.out).cell (i:=0) (by omega);have s1:=(bT HB1.out).cell (i:=1) (by omega);have s2:=(bT HB1.out).cell (i:=2) (by omega);have sz:=(bT HB1.out).frozen;have HQ:Hid (Least (jd u) ⟨c1,f1,n1⟩):=EN (by omega) HN.out jq.out c0;have q1:((c1:Int)==0)=false:=by simp;omega
    have q2:((c1:Int) != 0)=true:=by simp;omega
    go_wp2_with fail;refine bodyPost_ret (v:=iE ⟨c1,f1,n1⟩) (by simp[results,Tryz.results17,go_sem,s0,s1,s2]) rfl ?_;exact aQ.of HQ (jR (iH HB1) _ _ _)
  ·have g0:wr.cell? ⟨w.heap.size+1 + 1,4,none⟩=some (.func (.func 41) #[] #[]):=HR.cell 4 rfl;have LK:Hid (Calls Tryz.prog 41 #[pq u a cap] wr fun e w'=>aQ (fC u 4) wr e w'):=z64 HD.out L u a cap fas wr (Vd (Ol (HN.out 0 (by omega)) (HN.out 1 (by omega)) (HN.out 2 (by omega))) (HN.out 3 (by omega))) (HT.below hW)
   go_upto_region 5 with(go_at_call 41;refine LK.mono ?_;rintro e w1 ⟨⟨c1,f1,n1⟩,rfl,hL1,hb1⟩;have jq:Hid (Least (fC u 4) ⟨c1,f1,n1⟩):=hL1;clear hL1)
   clear g0 f0 hW LK;obtain⟨wA,hwA⟩:∃wA,wA=w1.alloc (.cells #[.int .i64 (c1:Int),.int .i64 (f1:Int),.int .i64 (n1:Int)] 56):=⟨_,rfl⟩;have HB1:Hid (Below (cZ w u a cap).heap.size (cZ w u a cap) wA):=by show Below _ _ _;rw[hwA];exact bH (aH HB hb1) _
   have HA:Hid (Has wA w1.heap.size #[.int .i64 (c1:Int),.int .i64 (f1:Int),.int .i64 (n1:Int)]):=by show Has _ _ _;rw[hwA];exact Has.new _ _ _
   have HR1:Hid (Has wA (w.heap.size+1 + 1) #[.func (.func 37) #[] #[],.func (.func 38) #[] #[],.func (.func 39) #[] #[],.func (.func 40) #[] #[],.func (.func 41) #[] #[],.func (.func 42) #[] #[]]):=by show Has _ _ _;rw[hwA];exact(HR.call hb1).alloc _
   rw[<-hwA];clear hwA hb1;have a0:wA.cell? ⟨w1.heap.size,0,none⟩=some (.int .i64 (c1:Int)):=HA.cell 0 rfl;have a1:wA.cell? ⟨w1.heap.size,1,none⟩=some (.int .i64 (f1:Int)):=HA.cell 1 rfl;have a2:wA.cell? ⟨w1.heap.size,2,none⟩=some (.int .i64 (n1:Int)):=HA.cell 2 rfl;by_cases c0:c1=0
   ·have hz:=jq.nil c0;have jo:Hid (∀j,j<4+1->∀y,¬fC u j y):=fun j hj=>by
     by_cases e:j=4
     ·subst e;have h:=jq.out;rw[hz] at h;exact h.none
     ·exact HN.out j (by omega)
    obtain⟨rfl,rfl,rfl⟩:c1=0/\f1=0/\n1=0:=by simpa[jl] using hz
    clear hz jq c0;go_wp2_with fail;go_roundw
    case rel=>exact⟨4+1,by omega,by go_num,jo,HB1,HR1⟩
    case measure=>simp[intOf]
   ·have s0:=(bT HB1.out).cell (i:=0) (by omega);have s1:=(bT HB1.out).cell (i:=1) (by omega);have s2:=(bT HB1.out).cell (i:=2) (by omega);have sz:=(bT HB1.out).frozen;have HQ:Hid (Least (jd u) ⟨c1,f1,n1⟩):=EN (by omega) HN.out jq.out c0;have q1:((c1:Int)==0)=false:=by simp;omega
    have q2:((c1:Int) != 0)=true:=by simp;omega
    go_wp2_with fail;refine bodyPost_ret (v:=iE ⟨c1,f1,n1⟩) (by simp[results,Tryz.results17,go_sem,s0,s1,s2]) rfl ?_;exact aQ.of HQ (jR (iH HB1) _ _ _)
  ·have g0:wr.cell? ⟨w.heap.size+1 + 1,5,none⟩=some (.func (.func 42) #[] #[]):=HR.cell 5 rfl;have LK:Hid (Calls Tryz.prog 42 #[pq u a cap] wr fun e w'=>aQ (fC u 5) wr e w'):=HX.out L u a cap fas wr HS.out (Vd (Ol (HN.out 0 (by omega)) (HN.out 1 (by omega)) (HN.out 2 (by omega))) (HN.out 3 (by omega))) (HN.out 4 (by omega)) HC.out (HT.below hW)
   go_upto_region 5 with(go_at_call 42;refine LK.mono ?_;rintro e w1 ⟨⟨c1,f1,n1⟩,rfl,hL1,hb1⟩;have jq:Hid (Least (fC u 5) ⟨c1,f1,n1⟩):=hL1;clear hL1)
   clear g0 f0 hW LK;obtain⟨wA,hwA⟩:∃wA,wA=w1.alloc (.cells #[.int .i64 (c1:Int),.int .i64 (f1:Int),.int .i64 (n1:Int)] 56):=⟨_,rfl⟩;have HB1:Hid (Below (cZ w u a cap).heap.size (cZ w u a cap) wA):=by show Below _ _ _;rw[hwA];exact bH (aH HB hb1) _
   have HA:Hid (Has wA w1.heap.size #[.int .i64 (c1:Int),.int .i64 (f1:Int),.int .i64 (n1:Int)]):=by show Has _ _ _;rw[hwA];exact Has.new _ _ _
   have HR1:Hid (Has wA (w.heap.size+1 + 1) #[.func (.func 37) #[] #[],.func (.func 38) #[] #[],.func (.func 39) #[] #[],.func (.func 40) #[] #[],.func (.func 41) #[] #[],.func (.func 42) #[] #[]]):=by show Has _ _ _;rw[hwA];exact(HR.call hb1).alloc _
   rw[<-hwA];clear hwA hb1;have a0:wA.cell? ⟨w1.heap.size,0,none⟩=some (.int .i64 (c1:Int)):=HA.cell 0 rfl;have a1:wA.cell? ⟨w1.heap.size,1,none⟩=some (.int .i64 (f1:Int)):=HA.cell 1 rfl;have a2:wA.cell? ⟨w1.heap.size,2,none⟩=some (.int .i64 (n1:Int)):=HA.cell 2 rfl;by_cases c0:c1=0
   ·have hz:=jq.nil c0;have jo:Hid (∀j,j<5+1->∀y,¬fC u j y):=fun j hj=>by
     by_cases e:j=5
     ·subst e;have h:=jq.out;rw[hz] at h;exact h.none
     ·exact HN.out j (by omega)
    obtain⟨rfl,rfl,rfl⟩:c1=0/\f1=0/\n1=0:=by simpa[jl] using hz
    clear hz jq c0;go_wp2_with fail;go_roundw
    case rel=>exact⟨5+1,by omega,by go_num,jo,HB1,HR1⟩
    case measure=>simp[intOf]
   ·have s0:=(bT HB1.out).cell (i:=0) (by omega);have s1:=(bT HB1.out).cell (i:=1) (by omega);have s2:=(bT HB1.out).cell (i:=2) (by omega);have sz:=(bT HB1.out).frozen;have HQ:Hid (Least (jd u) ⟨c1,f1,n1⟩):=EN (by omega) HN.out jq.out c0;have q1:((c1:Int)==0)=false:=by simp;omega
    have q2:((c1:Int) != 0)=true:=by simp;omega
    go_wp2_with fail;refine bodyPost_ret (v:=iE ⟨c1,f1,n1⟩) (by simp[results,Tryz.results17,go_sem,s0,s1,s2]) rfl ?_;exact aQ.of HQ (jR (iH HB1) _ _ _)
  ·have HL:Hid (Least (jd u) ⟨0,0,0⟩):=yg8 HN.out;have s0:=(bT HB.out).cell (i:=0) (by omega);have s1:=(bT HB.out).cell (i:=1) (by omega);have s2:=(bT HB.out).cell (i:=2) (by omega);have sz:=(bT HB.out).frozen;go_wp2_with fail;refine bodyPost_ret (v:=iE ⟨0,0,0⟩) (by simp[results,Tryz.results17,go_sem,s0,s1,s2]) rfl ?_;exact aQ.of HL (jR (iH HB) _ _ _)
end
end Go.Proofs.YtihnikeikhjndaaGreatDoor
