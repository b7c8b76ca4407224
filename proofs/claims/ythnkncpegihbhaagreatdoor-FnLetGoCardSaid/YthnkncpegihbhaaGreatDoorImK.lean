import Derived.Test.YthnkncpegihbhaaGreatDoorImD
import Derived.Test.YthnkncpegihbhaaGreatDoorImE
set_option maxRecDepth 100000
set_option maxHeartbeats 16000000
namespace Go.Proofs.YthnkncpegihbhaaGreatDoor
section
open Go.RowKit
attribute [local go_sem] iD
attribute [local go_sem ↓] Go.wp_at_zero Go.wp_at_succ
def Ij:Array Value->Nat->List Value->Array Value
 |c,_,[]=>c
 |c,o,v :: r=>Ij (c.setIfInBounds o v) (o+1) r
theorem qq0(w:World)(t:TypeId):∀(vs:List Value) (o:Nat) (c:Array Value),(w.alloc (.cells c t)).setCells w.heap.size o vs=w.alloc (.cells (Ij c o vs) t)
 |[],_,_=>rfl
 |v :: r,o,c=>by
  show((w.alloc (.cells c t)).setCell ⟨w.heap.size,o,none⟩ v).setCells w.heap.size (o+1) r=_;rw[World.setCell_alloc_at _ _ _ _ _ rfl];exact qq0 w t r (o+1) _
theorem y53(w:World)(t:TypeId)(c:Array Value)(o n:Nat)(h:o+n<=c.size):(w.alloc (.cells c t)).there w.heap.size o n:=fun j hj=>by
 have hc:(w.alloc (.cells c t)).cell? ⟨w.heap.size,o+j,none⟩=c[o+j]?:=dh w c t (o+j);rw[hc,cO (by omega)];exact⟨rfl,by simp[go_sem]⟩
abbrev mv(F f:Nat):Value:=.func (Fn.func f) #[.pointer (some ⟨F,0,none⟩)] #[]
abbrev A8(F:Nat)(s:Value):Array Value:=#[s,.nilFunc,mv F 100,mv F 101,mv F 102,mv F 103,mv F 104,mv F 105,mv F 106,mv F 107,mv F 108,mv F 108,mv F 109,mv F 110,mv F 111,mv F 103,.nilFunc,.nilFunc,.nilFunc,.nilFunc,.nilFunc,mv F 108,mv F 108,mv F 108,mv F 112,mv F 113,mv F 114,mv F 115,mv F 115,mv F 116,mv F 117,mv F 117,mv F 118,mv F 119,mv F 117,mv F 120,mv F 121,mv F 115,mv F 108,mv F 122]
def DW:Nat->Nat
 |1=>100
 |2=>101
 |3=>102
 |4=>103
 |5=>104
 |6=>105
 |7=>106
 |8=>107
 |9=>108
 |10=>108
 |11=>109
 |12=>110
 |13=>111
 |14=>103
 |20=>108
 |21=>108
 |22=>108
 |23=>112
 |24=>113
 |25=>114
 |26=>115
 |27=>115
 |28=>116
 |29=>117
 |30=>117
 |31=>118
 |32=>119
 |33=>117
 |34=>120
 |35=>121
 |36=>115
 |37=>108
 |38=>122
 |_=>0
abbrev QS:Array Value:=#[.slice none 0 0,.nilFunc,.nilFunc,.nilFunc,.nilFunc,.nilFunc,.nilFunc,.nilFunc,.nilFunc,.nilFunc,.nilFunc,.nilFunc,.nilFunc,.nilFunc,.nilFunc,.nilFunc,.nilFunc,.nilFunc,.nilFunc,.nilFunc,.nilFunc,.nilFunc,.nilFunc,.nilFunc,.nilFunc,.nilFunc,.nilFunc,.nilFunc,.nilFunc,.nilFunc,.nilFunc,.nilFunc,.nilFunc,.nilFunc,.nilFunc,.nilFunc,.nilFunc,.nilFunc,.nilFunc,.nilFunc]
abbrev SV(F:Nat):Array Value:=#[.nilFunc,mv F 100,mv F 101,mv F 102,mv F 103,mv F 104,mv F 105,mv F 106,mv F 107,mv F 108,mv F 108,mv F 109,mv F 110,mv F 111,mv F 103,.nilFunc,.nilFunc,.nilFunc,.nilFunc,.nilFunc,mv F 108,mv F 108,mv F 108,mv F 112,mv F 113,mv F 114,mv F 115,mv F 115,mv F 116,mv F 117,mv F 117,mv F 118,mv F 119,mv F 117,mv F 120,mv F 121,mv F 115,mv F 108,mv F 122]
theorem yy6:(Tryz.prog.info? 204).map (·.size)=some 39:=by kernel_rfl
theorem j83(F:Nat):(SV F).all (·.oneCell')=true:=by simp[Value.oneCell']
theorem j82(F:Nat):Ij QS 1 (SV F).toList=A8 F (.slice none 0 0):=by kernel_rfl
theorem qz7(w:World):Calls Tryz.prog 76 #[] w fun e w'=>e=.returned (.pointer (some ⟨w.heap.size,0,none⟩))/\w'=w.alloc (.cells (A8 w.heap.size (.slice none 0 0)) 206):=by
 have hmf:∀(fn:Fn) (first cap:Array Value) (w:World),(Instr.makeFunc fn first cap).run Tryz.prog w=.ok (.func fn first cap) w:=fun _ _ _ _=>rfl;have hth:Hid ((w.alloc (.cells QS 206)).there w.heap.size 1 39):=y53 w 206 QS 1 39 (by simp);have hset:Hid ((w.alloc (.cells QS 206)).setCells w.heap.size 1 (SV w.heap.size).toList=w.alloc (.cells (A8 w.heap.size (.slice none 0 0)) 206)):=by
  show _=_;rw[qq0,j82]
 go_in;go_wp2_with (show wpList _ _ _ _ _ _;refine wpList_store_mid rfl 204 _ _ rfl w.heap.size 1 (SV w.heap.size) rfl rfl hth.out yy6 (j83 _) ?_;refine Eq.mpr (aJ _ hset.out) ?_);go_ret;exact⟨rfl,rfl⟩
def lG(w:World)(F:Nat)(s:Value):Prop:=w.rowIs F 206 40 (fun i=>((A8 F s)[i]?).getD undef)
theorem lG.new(w:World):lG (w.alloc (.cells (A8 w.heap.size (.slice none 0 0)) 206)) w.heap.size (.slice none 0 0):=
 World.rowIs_alloc w (A8 w.heap.size (.slice none 0 0)) 206 _ fun i hi=>by
  rw[cO hi];rfl
theorem lG.set{w:World}{F:Nat}{s:Value}(h:lG w F s)(t:Value):lG (w.setCell ⟨F,0,none⟩ t) F t:=(World.rowIs.set h 0 t).congr fun i _=>by
 by_cases e:i=0
 ·subst e;rfl
 ·rw[au e];obtain⟨j,rfl⟩:∃j,i=j+1:=⟨i-1,by omega⟩;rfl
theorem lG.alloc{w:World}{F:Nat}{s:Value}(h:lG w F s)(o:Obj):lG (w.alloc o) F s:=World.rowIs.alloc h o
theorem lG.below{w w':World}{F:Nat}{s:Value}(h:lG w F s)(hb:gZ w w'):lG w' F s:=World.rowIs.of_block h (hb.block _ h.lt)
end
section
open Go.RowKit
def iO(F m:Nat)(nd:Nat->ND)(nas:Nat->NA)(w:World)(f:Nat)(b:Bool):Prop:=Calls Tryz.prog f #[.pointer (some ⟨F,0,none⟩),jP (nd m) (nas m)] w fun e w'=>e=.returned (.bool b)/\gZ w w'
theorem iO.as{F m:Nat}{nd:Nat->ND}{nas:Nat->NA}{w:World}{f:Nat}{b c:Bool}(h:iO F m nd nas w f b)(e:b=c):iO F m nd nas w f c:=e ▸ h
theorem zo8(F m:Nat)(nd:Nat->ND)(nas:Nat->NA)(w:World)(hA:AH w F m nd nas)(hN:iC 0 w (nd m) (nas m))(hs:(nd m).sm)(gy:(nd m).kn<=(nas m).kc)(k:Nat)(hk:(nd m).k=k)(hv:(1<=k/\k<=14)\/(20<=k/\k<=38)):iO F m nd nas w (DW k) (mJ nd m):=by
 rcases(show k=1\/k=2\/k=3\/k=4\/k=5\/k=6\/k=7\/k=8\/k=9\/k=10\/k=11\/k=12\/k=13\/k=14\/k=20\/k=21\/k=22\/k=23\/k=24\/k=25\/k=26\/k=27\/k=28\/k=29\/k=30\/k=31\/k=32\/k=33\/k=34\/k=35\/k=36\/k=37\/k=38 by omega) with rfl|rfl|rfl|rfl|rfl|rfl|rfl|rfl|rfl|rfl|rfl|rfl|rfl|rfl|rfl|rfl|rfl|rfl|rfl|rfl|rfl|rfl|rfl|rfl|rfl|rfl|rfl|rfl|rfl|rfl|rfl|rfl|rfl
 ·exact iO.as (yn0 F m nd nas w hA hN hs gy) (by unfold mJ;rw[hk];first|(simp;done)|(simp[iM];done)|(simp[aj];done)|(simp[iM,aj];done)|(simp[iV];done)|(simp[iV,aj];done)|(simp[iM,iV];done)|(simp[iM,iV,aj];done))
 ·exact iO.as (j92 F m nd nas w hA hN hs gy) (by unfold mJ;rw[hk];simp[aj])
 ·exact iO.as (j91 F m nd nas w hA hN hs gy) (by unfold mJ;rw[hk];first|(simp;done)|(simp[iM];done)|(simp[aj];done)|(simp[iM,aj];done)|(simp[iV];done)|(simp[iV,aj];done)|(simp[iM,iV];done)|(simp[iM,iV,aj];done))
 ·exact iO.as (z54 F m nd nas w hA hN hs gy) (by unfold mJ;rw[hk];first|(simp;done)|(simp[iM];done)|(simp[aj];done)|(simp[iM,aj];done)|(simp[iV];done)|(simp[iV,aj];done)|(simp[iM,iV];done)|(simp[iM,iV,aj];done))
 ·exact iO.as (yd2 F m nd nas w hA hN hs gy) (by unfold mJ;rw[hk];first|(simp;done)|(simp[iM];done)|(simp[aj];done)|(simp[iM,aj];done)|(simp[iV];done)|(simp[iV,aj];done)|(simp[iM,iV];done)|(simp[iM,iV,aj];done))
 ·exact iO.as (ym5 F m nd nas w hA hN hs gy) (by unfold mJ;rw[hk];first|(simp;done)|(simp[iM];done)|(simp[aj];done)|(simp[iM,aj];done)|(simp[iV];done)|(simp[iV,aj];done)|(simp[iM,iV];done)|(simp[iM,iV,aj];done))
 ·exact iO.as (ym9 F m nd nas w hA hN hs gy) (by unfold mJ;rw[hk];first|(simp;done)|(simp[iM];done)|(simp[aj];done)|(simp[iM,aj];done)|(simp[iV];done)|(simp[iV,aj];done)|(simp[iM,iV];done)|(simp[iM,iV,aj];done))
 ·exact iO.as (j03 F m nd nas w hA hN hs gy) (by unfold mJ;rw[hk];first|(simp;done)|(simp[iM];done)|(simp[aj];done)|(simp[iM,aj];done)|(simp[iV];done)|(simp[iV,aj];done)|(simp[iM,iV];done)|(simp[iM,iV,aj];done))
 ·exact iO.as (KZ F m nd nas w hA hN hs gy) (by unfold mJ;rw[hk];first|(simp;done)|(simp[iM];done)|(simp[aj];done)|(simp[iM,aj];done)|(simp[iV];done)|(simp[iV,aj];done)|(simp[iM,iV];done)|(simp[iM,iV,aj];done))
 ·exact iO.as (KZ F m nd nas w hA hN hs gy) (by unfold mJ;rw[hk];first|(simp;done)|(simp[iM];done)|(simp[aj];done)|(simp[iM,aj];done)|(simp[iV];done)|(simp[iV,aj];done)|(simp[iM,iV];done)|(simp[iM,iV,aj];done))
 ·exact iO.as (y17 F m nd nas w hA hN hs gy) (by unfold mJ;rw[hk];first|(simp;done)|(simp[iM];done)|(simp[aj];done)|(simp[iM,aj];done)|(simp[iV];done)|(simp[iV,aj];done)|(simp[iM,iV];done)|(simp[iM,iV,aj];done))
 ·exact iO.as (j90 F m nd nas w hA hN hs gy) (by unfold mJ;rw[hk];first|(simp;done)|(simp[iM];done)|(simp[aj];done)|(simp[iM,aj];done)|(simp[iV];done)|(simp[iV,aj];done)|(simp[iM,iV];done)|(simp[iM,iV,aj];done))
 ·exact iO.as (qs0 F m nd nas w hA hN hs gy) (by unfold mJ;rw[hk];first|(simp;done)|(simp[iM];done)|(simp[aj];done)|(simp[iM,aj];done)|(simp[iV];done)|(simp[iV,aj];done)|(simp[iM,iV];done)|(simp[iM,iV,aj];done))
 ·exact iO.as (z54 F m nd nas w hA hN hs gy) (by unfold mJ;rw[hk];first|(simp;done)|(simp[iM];done)|(simp[aj];done)|(simp[iM,aj];done)|(simp[iV];done)|(simp[iV,aj];done)|(simp[iM,iV];done)|(simp[iM,iV,aj];done))
 ·exact iO.as (KZ F m nd nas w hA hN hs gy) (by unfold mJ;rw[hk];first|(simp;done)|(simp[iM];done)|(simp[aj];done)|(simp[iM,aj];done)|(simp[iV];done)|(simp[iV,aj];done)|(simp[iM,iV];done)|(simp[iM,iV,aj];done))
 ·exact iO.as (KZ F m nd nas w hA hN hs gy) (by unfold mJ;rw[hk];first|(simp;done)|(simp[iM];done)|(simp[aj];done)|(simp[iM,aj];done)|(simp[iV];done)|(simp[iV,aj];done)|(simp[iM,iV];done)|(simp[iM,iV,aj];done))
 ·exact iO.as (KZ F m nd nas w hA hN hs gy) (by unfold mJ;rw[hk];first|(simp;done)|(simp[iM];done)|(simp[aj];done)|(simp[iM,aj];done)|(simp[iV];done)|(simp[iV,aj];done)|(simp[iM,iV];done)|(simp[iM,iV,aj];done))
 ·exact iO.as (y19 F m nd nas w hA hN hs gy) (by unfold mJ;rw[hk];first|(simp;done)|(simp[iM];done)|(simp[aj];done)|(simp[iM,aj];done)|(simp[iV];done)|(simp[iV,aj];done)|(simp[iM,iV];done)|(simp[iM,iV,aj];done))
 ·exact iO.as (zo9 F m nd nas w hA hN hs gy) (by unfold mJ;rw[hk];first|(simp;done)|(simp[iM];done)|(simp[aj];done)|(simp[iM,aj];done)|(simp[iV];done)|(simp[iV,aj];done)|(simp[iM,iV];done)|(simp[iM,iV,aj];done))
 ·exact iO.as (j02 F m nd nas w hA hN hs gy) (by unfold mJ;rw[hk];first|(simp;done)|(simp[iM];done)|(simp[aj];done)|(simp[iM,aj];done)|(simp[iV];done)|(simp[iV,aj];done)|(simp[iM,iV];done)|(simp[iM,iV,aj];done))
 ·exact iO.as (VL F m nd nas w hA hN hs gy) (by unfold mJ;rw[hk];first|(simp;done)|(simp[iM];done)|(simp[aj];done)|(simp[iM,aj];done)|(simp[iV];done)|(simp[iV,aj];done)|(simp[iM,iV];done)|(simp[iM,iV,aj];done))
 ·exact iO.as (VL F m nd nas w hA hN hs gy) (by unfold mJ;rw[hk];first|(simp;done)|(simp[iM];done)|(simp[aj];done)|(simp[iM,aj];done)|(simp[iV];done)|(simp[iV,aj];done)|(simp[iM,iV];done)|(simp[iM,iV,aj];done))
 ·exact iO.as (y20 F m nd nas w hA hN hs gy) (by unfold mJ;rw[hk];simp[aj])
 ·exact iO.as (WX F m nd nas w hA hN hs gy) (by unfold mJ;rw[hk];first|(simp;done)|(simp[iM];done)|(simp[aj];done)|(simp[iM,aj];done)|(simp[iV];done)|(simp[iV,aj];done)|(simp[iM,iV];done)|(simp[iM,iV,aj];done))
 ·exact iO.as (WX F m nd nas w hA hN hs gy) (by unfold mJ;rw[hk];first|(simp;done)|(simp[iM];done)|(simp[aj];done)|(simp[iM,aj];done)|(simp[iV];done)|(simp[iV,aj];done)|(simp[iM,iV];done)|(simp[iM,iV,aj];done))
 ·exact iO.as (ym6 F m nd nas w hA hN hs gy) (by unfold mJ;rw[hk];first|(simp;done)|(simp[iM];done)|(simp[aj];done)|(simp[iM,aj];done)|(simp[iV];done)|(simp[iV,aj];done)|(simp[iM,iV];done)|(simp[iM,iV,aj];done))
 ·exact iO.as (yd3 F m nd nas w hA hN hs gy) (by unfold mJ;rw[hk];first|(simp;done)|(simp[iM];done)|(simp[aj];done)|(simp[iM,aj];done)|(simp[iV];done)|(simp[iV,aj];done)|(simp[iM,iV];done)|(simp[iM,iV,aj];done))
 ·exact iO.as (WX F m nd nas w hA hN hs gy) (by unfold mJ;rw[hk];first|(simp;done)|(simp[iM];done)|(simp[aj];done)|(simp[iM,aj];done)|(simp[iV];done)|(simp[iV,aj];done)|(simp[iM,iV];done)|(simp[iM,iV,aj];done))
 ·exact iO.as (j04 F m nd nas w hA hN hs gy) (by unfold mJ;rw[hk];simp[aj])
 ·exact iO.as (ym8 F m nd nas w hA hN hs gy) (by unfold mJ;rw[hk];first|(simp;done)|(simp[iM];done)|(simp[aj];done)|(simp[iM,aj];done)|(simp[iV];done)|(simp[iV,aj];done)|(simp[iM,iV];done)|(simp[iM,iV,aj];done))
 ·exact iO.as (VL F m nd nas w hA hN hs gy) (by unfold mJ;rw[hk];first|(simp;done)|(simp[iM];done)|(simp[aj];done)|(simp[iM,aj];done)|(simp[iV];done)|(simp[iV,aj];done)|(simp[iM,iV];done)|(simp[iM,iV,aj];done))
 ·exact iO.as (KZ F m nd nas w hA hN hs gy) (by unfold mJ;rw[hk];first|(simp;done)|(simp[iM];done)|(simp[aj];done)|(simp[iM,aj];done)|(simp[iV];done)|(simp[iV,aj];done)|(simp[iM,iV];done)|(simp[iM,iV,aj];done))
 ·exact iO.as (y18 F m nd nas w hA hN hs gy) (by unfold mJ;rw[hk];first|(simp;done)|(simp[iM];done)|(simp[aj];done)|(simp[iM,aj];done)|(simp[iV];done)|(simp[iV,aj];done)|(simp[iM,iV];done)|(simp[iM,iV,aj];done))
end
section
open Go.RowKit
attribute [local go_sem] iD
attribute [local go_sem ↓] Go.wp_at_zero Go.wp_at_succ
theorem yn5(k:Nat)(hv:(1<=k/\k<=14)\/(20<=k/\k<=38))(args:Array Value)(w:World):(callFunc (DW k) args).run Tryz.prog w=.ok (.enter (DW k) args) w:=by
 rcases(show k=1\/k=2\/k=3\/k=4\/k=5\/k=6\/k=7\/k=8\/k=9\/k=10\/k=11\/k=12\/k=13\/k=14\/k=20\/k=21\/k=22\/k=23\/k=24\/k=25\/k=26\/k=27\/k=28\/k=29\/k=30\/k=31\/k=32\/k=33\/k=34\/k=35\/k=36\/k=37\/k=38 by omega) with rfl|rfl|rfl|rfl|rfl|rfl|rfl|rfl|rfl|rfl|rfl|rfl|rfl|rfl|rfl|rfl|rfl|rfl|rfl|rfl|rfl|rfl|rfl|rfl|rfl|rfl|rfl|rfl|rfl|rfl|rfl|rfl|rfl<;>kernel_rfl
structure KB(F:Nat)(w w':World):Prop where
 low:Below F w w'
 has:∀X A,X≠F->Has w X A->Has w' X A
theorem KB.of{F:Nat}{w w':World}(h:gZ w w')(hF:F<=w.heap.size):KB F w w':=⟨h.mono hF,fun _ _ _ k=>k.call h⟩
theorem KB.trans{F:Nat}{w w1 w2:World}(h:KB F w w1)(k:KB F w1 w2):KB F w w2:=⟨h.low.trans k.low,fun X A hX hh=>k.has X A hX (h.has X A hX hh)⟩
theorem KB.set(F:Nat)(w:World)(o:Nat)(v:Value):KB F w (w.setCell ⟨F,o,none⟩ v):=⟨og (ay _ _) (ah _) _,fun _ _ hX hh=>hh.far (fun e=>hX e.symm) _⟩
def QV(nd:Nat->ND)(m F:Nat)(w:World)(e:Ending)(w':World):Prop:=e=.returned (.bool (oJ nd m))/\(∃s,lG w' F s)/\KB F w w'
theorem lG.fn{w:World}{F:Nat}{s:Value}(h:lG w F s)(k:Nat)(hv:(1<=k/\k<=14)\/(20<=k/\k<=38)):w.cell? ⟨F,1+k,none⟩=some (mv F (DW k)):=by
 have:=World.rowIs.cell h (i:=1+k) (by omega);rw[this];rcases(show k=1\/k=2\/k=3\/k=4\/k=5\/k=6\/k=7\/k=8\/k=9\/k=10\/k=11\/k=12\/k=13\/k=14\/k=20\/k=21\/k=22\/k=23\/k=24\/k=25\/k=26\/k=27\/k=28\/k=29\/k=30\/k=31\/k=32\/k=33\/k=34\/k=35\/k=36\/k=37\/k=38 by omega) with rfl|rfl|rfl|rfl|rfl|rfl|rfl|rfl|rfl|rfl|rfl|rfl|rfl|rfl|rfl|rfl|rfl|rfl|rfl|rfl|rfl|rfl|rfl|rfl|rfl|rfl|rfl|rfl|rfl|rfl|rfl|rfl|rfl<;>rfl
theorem iF.take{K L:Nat}{w:World}{a:Option Addr}{n k:Nat}{q:Nat->Array Value}(h:iF K L w a n q)(hk:k<=n):iF K L w a k q:=fun hn=>by
 obtain⟨b,off,e,h0,h1,h2⟩:=h (by omega);exact⟨b,off,e,h0,h1,fun i hi=>h2 i (by omega)⟩
abbrev FSr(B F kN:Nat)(d:ND)(x:NA)(w':World):Prop:=w'.cell? ⟨B,0,none⟩=some (.int .i64 (kN:Int))/\w'.cell? ⟨B,1,none⟩=some (.int .i64 d.l)/\w'.cell? ⟨B,2,none⟩=some (.int .i64 d.o)/\w'.cell? ⟨B,3,none⟩=some (.int .i64 d.n)/\w'.cell? ⟨B,4,none⟩=some (.float .f64 d.f)/\w'.cell? ⟨B,5,none⟩=some (.string d.s)/\w'.cell? ⟨B,6,none⟩=some (.slice x.ra d.rn x.rc)/\w'.cell? ⟨B,7,none⟩=some (.slice x.ka d.kn x.kc)/\w'.cell? ⟨F,1+kN,none⟩=some (mv F (DW kN))
theorem y21(F n:Nat)(nd:Nat->ND)(a:Option Addr)(cap:Nat)(nas:Nat->NA)(m:Nat)(s:Value)(w0 w:World)(hm:m<n)(_hn:n<=1048576)(gy:n<=cap)(hs:(nd m).sm)(hkc:(nd m).kn<=(nas m).kc)(hT:jy 0 w0 n nd a nas)(h0:w0.heap.size<=F)(hw:gZ w0 w)(hF:lG w F s):Calls Tryz.prog 77 #[.pointer (some ⟨F,0,none⟩),.slice a n cap,.int .i64 m] w fun e w'=>QV nd m F w e w':=by
 have HT:Hid (jy 0 w0 n nd a nas):=hT;have HW:Hid (gZ w0 w):=hw;have HF:Hid (lG w F s):=hF;have HS:Hid ((nd m).sm):=hs;have hFw:F<w.heap.size:=World.rowIs.lt hF;have fE:=hs.kn;clear hT hw hF hs;have HTw:Hid (jy 0 w n nd a nas):=HT.below HW.out;obtain⟨b,off,e0,_,hb,d0,d1,d2,d3,d4,d5,d6,d7⟩:=jU HTw.1 hm;have YS:Hid (a=some ⟨b,off,none⟩):=e0;subst e0;by_cases hk:((1:Int)<=(nd m).k/\(nd m).k<=14)\/((20:Int)<=(nd m).k/\(nd m).k<=38)
 ·obtain⟨kN,hkN⟩:∃kN:Nat,(nd m).k=kN:=⟨(nd m).k.toNat,by omega⟩;have hkv:(1<=kN/\kN<=14)\/(20<=kN/\kN<=38):=by omega
  have HK:Hid ((nd m).k=kN):=hkN;rw[hkN] at d0;clear hk;have f0:=World.rowIs.cell HF.out (i:=0) (by omega);have fz:=World.rowIs.frozen HF.out;have hcd:kQ (nd m) (nas m) = #[.int .i64 (kN:Int),.int .i64 (nd m).l,.int .i64 (nd m).o,.int .i64 (nd m).n,.float .f64 (nd m).f,.string (nd m).s,.slice (nas m).ra (nd m).rn (nas m).rc,.slice (nas m).ka (nd m).kn (nas m).kc]:=by rw[<-hkN]
  have HCD:Hid (kQ (nd m) (nas m) = #[.int .i64 (kN:Int),.int .i64 (nd m).l,.int .i64 (nd m).o,.int .i64 (nd m).n,.float .f64 (nd m).f,.string (nd m).s,.slice (nas m).ra (nd m).rn (nas m).rc,.slice (nas m).ka (nd m).kn (nas m).kc]):=hcd;clear hkN hcd;have hset:setB 32766 (kN:Int)=true\/(setB 32766 (kN:Int)=false/\setB 549754765312 (kN:Int)=true):=by
   rw[MV,Hz];unfold oW mM;simp;omega
  go_in;go_wp2_with fail;rcases hset with fH|⟨fH,fJ⟩;all_goals
   refine(Di 32766 (by decide) _ _).mono ?_;rw[fH];rintro e w1 ⟨rfl,rfl⟩;go_wp2_with fail;try
    refine(Di 549754765312 (by decide) _ _).mono ?_;rw[fJ];rintro e w1 ⟨rfl,rfl⟩;go_wp2_with fail
   obtain⟨w5,hw5⟩:∃w5,w5=(w.setCell ⟨F,0,none⟩ (.slice (some ⟨b,off,none⟩) m cap)).alloc (.cells #[.int .i64 (kN:Int),.int .i64 (nd m).l,.int .i64 (nd m).o,.int .i64 (nd m).n,.float .f64 (nd m).f,.string (nd m).s,.slice (nas m).ra (nd m).rn (nas m).rc,.slice (nas m).ka (nd m).kn (nas m).kc] 48):=⟨_,rfl⟩;have HKB:Hid (KB F w w5):=by
    show KB F w w5;rw[hw5];exact(KB.set F w 0 _).trans (KB.of (q01 _ _) (by simp;omega))
   have DJ:Hid (lG w5 F (.slice (some ⟨b,off,none⟩) m cap)):=by show lG _ _ _;rw[hw5];exact(HF.set _).alloc _
   have DL:Hid (Has w5 w.heap.size #[.int .i64 (kN:Int),.int .i64 (nd m).l,.int .i64 (nd m).o,.int .i64 (nd m).n,.float .f64 (nd m).f,.string (nd m).s,.slice (nas m).ra (nd m).rn (nas m).rc,.slice (nas m).ka (nd m).kn (nas m).kc]):=by
    have h:=Has.new (w.setCell ⟨F,0,none⟩ (.slice (some ⟨b,off,none⟩) m cap)) #[.int .i64 (kN:Int),.int .i64 (nd m).l,.int .i64 (nd m).o,.int .i64 (nd m).n,.float .f64 (nd m).f,.string (nd m).s,.slice (nas m).ra (nd m).rn (nas m).rc,.slice (nas m).ka (nd m).kn (nas m).kc] 48;rw[<-hw5] at h;show Has _ _ _;simpa using h
   have HW5:Hid (gZ w0 w5):=HW.trans (HKB.low.mono h0);have HN5:Hid (jy 0 w5 n nd (some ⟨b,off,none⟩) nas):=HT.below HW5.out;have HA5:Hid (AH w5 F m nd nas):=⟨⟨some ⟨b,off,none⟩,cap,World.rowIs.cell DJ.out (i:=0) (by omega),HN5.1.take (by omega)⟩⟩;have Ko:Hid (∀W,gZ w5 W->FSr w.heap.size F kN (nd m) (nas m) W):=fun W hW=>⟨(DL.call hW).cell 0 rfl,(DL.call hW).cell 1 rfl,(DL.call hW).cell 2 rfl,(DL.call hW).cell 3 rfl,(DL.call hW).cell 4 rfl,(DL.call hW).cell 5 rfl,(DL.call hW).cell 6 rfl,(DL.call hW).cell 7 rfl,(DJ.below hW).fn kN hkv⟩;have LF:Hid (∀W,Calls Tryz.prog 124 #[.agg #[.int .i64 (kN:Int),.int .i64 (nd m).l,.int .i64 (nd m).o,.int .i64 (nd m).n,.float .f64 (nd m).f,.string (nd m).s,.slice (nas m).ra (nd m).rn (nas m).rc,.slice (nas m).ka (nd m).kn (nas m).kc]] W fun e w'=>e=.returned (.bool (if oW (nd m).k then decide (1<=(nd m).l) && decide ((nd m).l<=100000) else(nd m).l==0))/\gZ W w'):=fun W=>by
    have h:=z01 (nd m) (nas m) W;rw[<-HCD.out];exact h
   have FC:Hid (∀W,gZ w5 W->Calls Tryz.prog (DW kN) #[.pointer (some ⟨F,0,none⟩),.agg #[.int .i64 (kN:Int),.int .i64 (nd m).l,.int .i64 (nd m).o,.int .i64 (nd m).n,.float .f64 (nd m).f,.string (nd m).s,.slice (nas m).ra (nd m).rn (nas m).rc,.slice (nas m).ka (nd m).kn (nas m).kc]] W fun e w'=>e=.returned (.bool (mJ nd m))/\gZ W w'):=fun W hW=>by
    have h:=zo8 F m nd nas W (HA5.below hW) ((HN5.2 m hm).below hW) HS.out hkc kN HK.out hkv;unfold iO at h;rw[<-HCD.out];exact h
   have HV:Hid (oJ nd m=((if oW (nd m).k then decide (1<=(nd m).l) && decide ((nd m).l<=100000) else(nd m).l==0) && decide (((nd m).kn:Int)<=200) && mJ nd m)):=by
    show oJ nd m=_;unfold oJ;have h1:(oW (nd m).k || mM (nd m).k)=true:=by rw[HK.out];unfold oW mM;simp;omega
    rw[h1,Bool.true_and]
   rw[<-hw5];clear hw5 f0 fz d0 d1 d2 d3 d4 d5 d6 d7
   cases hlb:(if oW (nd m).k then decide (1<=(nd m).l) && decide ((nd m).l<=100000) else(nd m).l==0)
   ·have HQ:Hid (oJ nd m=false):=by show oJ nd m=false;rw[HV.out,hlb];rfl
    refine wp_region_held_drew (S:=(fun w'=>w'.cell? ⟨w.heap.size,0,none⟩=some (.int .i64 (kN:Int))/\w'.cell? ⟨w.heap.size,1,none⟩=some (.int .i64 (nd m).l)/\w'.cell? ⟨w.heap.size,2,none⟩=some (.int .i64 (nd m).o)/\w'.cell? ⟨w.heap.size,3,none⟩=some (.int .i64 (nd m).n)/\w'.cell? ⟨w.heap.size,4,none⟩=some (.float .f64 (nd m).f)/\w'.cell? ⟨w.heap.size,5,none⟩=some (.string (nd m).s)/\w'.cell? ⟨w.heap.size,6,none⟩=some (.slice (nas m).ra (nd m).rn (nas m).rc)/\w'.cell? ⟨w.heap.size,7,none⟩=some (.slice (nas m).ka (nd m).kn (nas m).kc)/\w'.cell? ⟨F,1+kN,none⟩=some (mv F (DW kN)))) (by kernel_rfl) (Ko.out _ (ay _ _).drew) (fun iI=>?_);refine wpAnyH_take (i:=0) (oi:=⟨some 28,_,_,_,_,_⟩) (v:=?_) rfl (by kernel_rfl) (by kernel_rfl) (by kernel_rfl) (fun _ _ _ h=>h) (Or.inl ⟨by rfl,?_⟩) (by assumption) ?_
    case refine_2=>(intro wz hSw;(try dsimp only at hSw);go_simp<;>with_reducible rfl)
    try simp only[Act.put,iT,iR,iQ]
    refine wpAnyH_ready (rs:=[1]) (by kernel_rfl) (by simp) ?_;refine AllReadyH.cons (o:=⟨some 29,_,_,_,_,_⟩) rfl (fun K hK=>?_) AllReadyH.nil;go_simp;refine(LF _).mono ?_;rw[hlb];rintro e w8 ⟨rfl,hb8⟩;replace hb8:gZ w5 w8:=iq (ay _ _).drew hb8;dsimp only;refine hK.out _ _ (Ko _ hb8) (fun hHeld=>?_);clear hK K iI;have iI:=hHeld;clear hHeld;refine wpAnyH_take (i:=2) (oi:=⟨some 30,_,_,_,_,_⟩) (v:=?_) rfl (by kernel_rfl) (by kernel_rfl) (by kernel_rfl) (fun _ _ _ h=>h) (Or.inl ⟨by rfl,?_⟩) (by assumption) ?_
    case refine_2=>(intro wz hSw;(try dsimp only at hSw);go_simp<;>with_reducible rfl)
    try simp only[Act.put,iT,iR,iQ]
    refine wpAnyH_take (i:=3) (oi:=⟨some 31,_,_,_,_,_⟩) (v:=undef) rfl (by kernel_rfl) (by kernel_rfl) (by kernel_rfl) (fun _ _ _ h=>h) (Or.inr ⟨by rfl,rfl⟩) (by assumption) ?_;try simp only[Act.put,iT,iR,iQ]
    refine wpAnyH_take (i:=4) (oi:=⟨some 32,_,_,_,_,_⟩) (v:=undef) rfl (by kernel_rfl) (by kernel_rfl) (by kernel_rfl) (fun _ _ _ h=>h) (Or.inr ⟨by rfl,rfl⟩) (by assumption) ?_;try simp only[Act.put,iT,iR,iQ]
    refine wpAnyH_take (i:=5) (oi:=⟨some 33,_,_,_,_,_⟩) (v:=undef) rfl (by kernel_rfl) (by kernel_rfl) (by kernel_rfl) (fun _ _ _ h=>h) (Or.inr ⟨by rfl,rfl⟩) (by assumption) ?_;try simp only[Act.put,iT,iR,iQ]
    refine wpAnyH_take (i:=6) (oi:=⟨some 34,_,_,_,_,_⟩) (v:=undef) rfl (by kernel_rfl) (by kernel_rfl) (by kernel_rfl) (fun _ _ _ h=>h) (Or.inr ⟨by rfl,rfl⟩) (by assumption) ?_;try simp only[Act.put,iT,iR,iQ]
    refine wpAnyH_take (i:=7) (oi:=⟨some 35,_,_,_,_,_⟩) (v:=?_) rfl (by kernel_rfl) (by kernel_rfl) (by kernel_rfl) (fun _ _ _ h=>h) (Or.inl ⟨by rfl,?_⟩) (by assumption) ?_
    case refine_2=>(intro wz hSw;(try dsimp only at hSw);go_simp<;>with_reducible rfl)
    try simp only[Act.put,iT,iR,iQ]
    refine wpAnyH_take (i:=8) (oi:=⟨some 36,_,_,_,_,_⟩) (v:=?_) rfl (by kernel_rfl) (by kernel_rfl) (by kernel_rfl) (fun _ _ _ h=>h) (Or.inl ⟨by rfl,?_⟩) (by assumption) ?_
    case refine_2=>(intro wz hSw;(try dsimp only at hSw);go_simp<;>with_reducible rfl)
    try simp only[Act.put,iT,iR,iQ]
    refine wpAnyH_take (i:=9) (oi:=⟨some 37,_,_,_,_,_⟩) (v:=undef) rfl (by kernel_rfl) (by kernel_rfl) (by kernel_rfl) (fun _ _ _ h=>h) (Or.inr ⟨by rfl,rfl⟩) (by assumption) ?_;try simp only[Act.put,iT,iR,iQ]
    refine wpAnyH_take (i:=10) (oi:=⟨some 38,_,_,_,_,_⟩) (v:=undef) rfl (by kernel_rfl) (by kernel_rfl) (by kernel_rfl) (fun _ _ _ h=>h) (Or.inr ⟨by rfl,rfl⟩) (by assumption) ?_;try simp only[Act.put,iT,iR,iQ]
    refine wpAnyH_take (i:=11) (oi:=⟨some 39,_,_,_,_,_⟩) (v:=undef) rfl (by kernel_rfl) (by kernel_rfl) (by kernel_rfl) (fun _ _ _ h=>h) (Or.inr ⟨by rfl,rfl⟩) (by assumption) ?_;try simp only[Act.put,iT,iR,iQ]
    refine wpAnyH_take (i:=12) (oi:=⟨some 40,_,_,_,_,_⟩) (v:=undef) rfl (by kernel_rfl) (by kernel_rfl) (by kernel_rfl) (fun _ _ _ h=>h) (Or.inr ⟨by rfl,rfl⟩) (by assumption) ?_;try simp only[Act.put,iT,iR,iQ]
    refine wpAnyH_take (i:=13) (oi:=⟨some 41,_,_,_,_,_⟩) (v:=undef) rfl (by kernel_rfl) (by kernel_rfl) (by kernel_rfl) (fun _ _ _ h=>h) (Or.inr ⟨by rfl,rfl⟩) (by assumption) ?_;try simp only[Act.put,iT,iR,iQ]
    refine wpAnyH_take (i:=14) (oi:=⟨some 42,_,_,_,_,_⟩) (v:=undef) rfl (by kernel_rfl) (by kernel_rfl) (by kernel_rfl) (fun _ _ _ h=>h) (Or.inr ⟨by rfl,rfl⟩) (by assumption) ?_;try simp only[Act.put,iT,iR,iQ]
    refine wpAnyH_take (i:=15) (oi:=⟨some 43,_,_,_,_,_⟩) (v:=undef) rfl (by kernel_rfl) (by kernel_rfl) (by kernel_rfl) (fun _ _ _ h=>h) (Or.inr ⟨by rfl,rfl⟩) (by assumption) ?_;try simp only[Act.put,iT,iR,iQ]
    refine wpAnyH_take (i:=16) (oi:=⟨some 44,_,_,_,_,_⟩) (v:=undef) rfl (by kernel_rfl) (by kernel_rfl) (by kernel_rfl) (fun _ _ _ h=>h) (Or.inr ⟨by rfl,rfl⟩) (by assumption) ?_;try simp only[Act.put,iT,iR,iQ]
    refine wpAnyH_take (i:=17) (oi:=⟨some 45,_,_,_,_,_⟩) (v:=undef) rfl (by kernel_rfl) (by kernel_rfl) (by kernel_rfl) (fun _ _ _ h=>h) (Or.inr ⟨by rfl,rfl⟩) (by assumption) ?_;try simp only[Act.put,iT,iR,iQ]
    refine wpAnyH_take (i:=18) (oi:=⟨some 46,_,_,_,_,_⟩) (v:=?_) rfl (by kernel_rfl) (by kernel_rfl) (by kernel_rfl) (fun _ _ _ h=>h) (Or.inl ⟨by rfl,?_⟩) (by assumption) ?_
    case refine_2=>(intro wz hSw;(try dsimp only at hSw);go_simp<;>with_reducible rfl)
    try simp only[Act.put,iT,iR,iQ]
    refine wpAnyH_take (i:=19) (oi:=⟨some 6,_,_,_,_,_⟩) (v:=?_) rfl (by kernel_rfl) (by kernel_rfl) (by kernel_rfl) (fun _ _ _ h=>h) (Or.inl ⟨by rfl,?_⟩) (by assumption) ?_
    case refine_2=>(intro wz hSw;(try dsimp only at hSw);go_simp<;>with_reducible rfl)
    try simp only[Act.put,iT,iR,iQ]
    refine wpAnyH_done (by kernel_rfl) ?_ _;go_wp2_with fail;go_ret;exact⟨jH HQ.symm,⟨_,DJ.below hb8⟩,HKB.trans (KB.of hb8 (Nat.le_of_lt (World.rowIs.lt DJ)))⟩
   ·by_cases hk2:((nd m).kn:Int)<=200
    ·have HQ:Hid (oJ nd m=mJ nd m):=by show oJ nd m=mJ nd m;rw[HV.out,hlb,bJ hk2];rfl
     have i1:(kN:Int)<39:=by omega
     have qk:decide (((nd m).kn:Int)<=200)=true:=bJ hk2;refine wp_region_held_drew (S:=(fun w'=>w'.cell? ⟨w.heap.size,0,none⟩=some (.int .i64 (kN:Int))/\w'.cell? ⟨w.heap.size,1,none⟩=some (.int .i64 (nd m).l)/\w'.cell? ⟨w.heap.size,2,none⟩=some (.int .i64 (nd m).o)/\w'.cell? ⟨w.heap.size,3,none⟩=some (.int .i64 (nd m).n)/\w'.cell? ⟨w.heap.size,4,none⟩=some (.float .f64 (nd m).f)/\w'.cell? ⟨w.heap.size,5,none⟩=some (.string (nd m).s)/\w'.cell? ⟨w.heap.size,6,none⟩=some (.slice (nas m).ra (nd m).rn (nas m).rc)/\w'.cell? ⟨w.heap.size,7,none⟩=some (.slice (nas m).ka (nd m).kn (nas m).kc)/\w'.cell? ⟨F,1+kN,none⟩=some (mv F (DW kN)))) (by kernel_rfl) (Ko.out _ (ay _ _).drew) (fun iI=>?_);refine wpAnyH_take (i:=0) (oi:=⟨some 28,_,_,_,_,_⟩) (v:=?_) rfl (by kernel_rfl) (by kernel_rfl) (by kernel_rfl) (fun _ _ _ h=>h) (Or.inl ⟨by rfl,?_⟩) (by assumption) ?_
     case refine_2=>(intro wz hSw;(try dsimp only at hSw);go_simp<;>with_reducible rfl)
     try simp only[Act.put,iT,iR,iQ]
     refine wpAnyH_ready (rs:=[1]) (by kernel_rfl) (by simp) ?_;refine AllReadyH.cons (o:=⟨some 29,_,_,_,_,_⟩) rfl (fun K hK=>?_) AllReadyH.nil;go_simp;refine(LF _).mono ?_;rw[hlb];rintro e w8 ⟨rfl,hb8⟩;replace hb8:gZ w5 w8:=iq (ay _ _).drew hb8;dsimp only;refine hK.out _ _ (Ko _ hb8) (fun hHeld=>?_);clear hK K iI;have iI:=hHeld;clear hHeld;refine wpAnyH_take (i:=2) (oi:=⟨some 30,_,_,_,_,_⟩) (v:=?_) rfl (by kernel_rfl) (by kernel_rfl) (by kernel_rfl) (fun _ _ _ h=>h) (Or.inl ⟨by rfl,?_⟩) (by assumption) ?_
     case refine_2=>(intro wz hSw;(try dsimp only at hSw);go_simp<;>with_reducible rfl)
     try simp only[Act.put,iT,iR,iQ]
     refine wpAnyH_take (i:=3) (oi:=⟨some 31,_,_,_,_,_⟩) (v:=?_) rfl (by kernel_rfl) (by kernel_rfl) (by kernel_rfl) (fun _ _ _ h=>h) (Or.inl ⟨by rfl,?_⟩) (by assumption) ?_
     case refine_2=>(intro wz hSw;(try dsimp only at hSw);go_simp<;>with_reducible rfl)
     try simp only[Act.put,iT,iR,iQ]
     refine wpAnyH_take (i:=4) (oi:=⟨some 32,_,_,_,_,_⟩) (v:=?_) rfl (by kernel_rfl) (by kernel_rfl) (by kernel_rfl) (fun _ _ _ h=>h) (Or.inl ⟨by rfl,?_⟩) (by assumption) ?_
     case refine_2=>(intro wz hSw;(try dsimp only at hSw);go_simp<;>with_reducible rfl)
     try simp only[Act.put,iT,iR,iQ]
     refine wpAnyH_take (i:=5) (oi:=⟨some 33,_,_,_,_,_⟩) (v:=?_) rfl (by kernel_rfl) (by kernel_rfl) (by kernel_rfl) (fun _ _ _ h=>h) (Or.inl ⟨by rfl,?_⟩) (by assumption) ?_
     case refine_2=>(intro wz hSw;(try dsimp only at hSw);go_simp<;>with_reducible rfl)
     try simp only[Act.put,iT,iR,iQ]
     refine wpAnyH_take (i:=6) (oi:=⟨some 34,_,_,_,_,_⟩) (v:=?_) rfl (by kernel_rfl) (by kernel_rfl) (by kernel_rfl) (fun _ _ _ h=>h) (Or.inl ⟨by rfl,?_⟩) (by assumption) ?_
     case refine_2=>(intro wz hSw;(try dsimp only at hSw);go_simp<;>with_reducible rfl)
     try simp only[Act.put,iT,iR,iQ]
     refine wpAnyH_take (i:=7) (oi:=⟨some 35,_,_,_,_,_⟩) (v:=?_) rfl (by kernel_rfl) (by kernel_rfl) (by kernel_rfl) (fun _ _ _ h=>h) (Or.inl ⟨by rfl,?_⟩) (by assumption) ?_
     case refine_2=>(intro wz hSw;(try dsimp only at hSw);go_simp<;>with_reducible rfl)
     try simp only[Act.put,iT,iR,iQ]
     refine wpAnyH_take (i:=8) (oi:=⟨some 36,_,_,_,_,_⟩) (v:=?_) rfl (by kernel_rfl) (by kernel_rfl) (by kernel_rfl) (fun _ _ _ h=>h) (Or.inl ⟨by rfl,?_⟩) (by assumption) ?_
     case refine_2=>(intro wz hSw;(try dsimp only at hSw);go_simp<;>with_reducible rfl)
     try simp only[Act.put,iT,iR,iQ]
     refine wpAnyH_take (i:=9) (oi:=⟨some 37,_,_,_,_,_⟩) (v:=?_) rfl (by kernel_rfl) (by kernel_rfl) (by kernel_rfl) (fun _ _ _ h=>h) (Or.inl ⟨by rfl,?_⟩) (by assumption) ?_
     case refine_2=>(intro wz hSw;(try dsimp only at hSw);go_simp<;>with_reducible rfl)
     try simp only[Act.put,iT,iR,iQ]
     refine wpAnyH_take (i:=10) (oi:=⟨some 38,_,_,_,_,_⟩) (v:=?_) rfl (by kernel_rfl) (by kernel_rfl) (by kernel_rfl) (fun _ _ _ h=>h) (Or.inl ⟨by rfl,?_⟩) (by assumption) ?_
     case refine_2=>(intro wz hSw;(try dsimp only at hSw);go_simp<;>with_reducible rfl)
     try simp only[Act.put,iT,iR,iQ]
     refine wpAnyH_take (i:=11) (oi:=⟨some 39,_,_,_,_,_⟩) (v:=?_) rfl (by kernel_rfl) (by kernel_rfl) (by kernel_rfl) (fun _ _ _ h=>h) (Or.inl ⟨by rfl,?_⟩) (by assumption) ?_
     case refine_2=>(intro wz hSw;(try dsimp only at hSw);go_simp<;>with_reducible rfl)
     try simp only[Act.put,iT,iR,iQ]
     refine wpAnyH_take (i:=12) (oi:=⟨some 40,_,_,_,_,_⟩) (v:=?_) rfl (by kernel_rfl) (by kernel_rfl) (by kernel_rfl) (fun _ _ _ h=>h) (Or.inl ⟨by rfl,?_⟩) (by assumption) ?_
     case refine_2=>(intro wz hSw;(try dsimp only at hSw);go_simp<;>with_reducible rfl)
     try simp only[Act.put,iT,iR,iQ]
     refine wpAnyH_take (i:=13) (oi:=⟨some 41,_,_,_,_,_⟩) (v:=?_) rfl (by kernel_rfl) (by kernel_rfl) (by kernel_rfl) (fun _ _ _ h=>h) (Or.inl ⟨by rfl,?_⟩) (by assumption) ?_
     case refine_2=>(intro wz hSw;(try dsimp only at hSw);go_simp<;>with_reducible rfl)
     try simp only[Act.put,iT,iR,iQ]
     refine wpAnyH_take (i:=14) (oi:=⟨some 42,_,_,_,_,_⟩) (v:=?_) rfl (by kernel_rfl) (by kernel_rfl) (by kernel_rfl) (fun _ _ _ h=>h) (Or.inl ⟨by rfl,?_⟩) (by assumption) ?_
     case refine_2=>(intro wz hSw;(try dsimp only at hSw);go_simp<;>with_reducible rfl)
     try simp only[Act.put,iT,iR,iQ]
     refine wpAnyH_take (i:=15) (oi:=⟨some 43,_,_,_,_,_⟩) (v:=?_) rfl (by kernel_rfl) (by kernel_rfl) (by kernel_rfl) (fun _ _ _ h=>h) (Or.inl ⟨by rfl,?_⟩) (by assumption) ?_
     case refine_2=>(intro wz hSw;(try dsimp only at hSw);go_simp<;>with_reducible rfl)
     try simp only[Act.put,iT,iR,iQ]
     refine wpAnyH_take (i:=16) (oi:=⟨some 44,_,_,_,_,_⟩) (v:=?_) rfl (by kernel_rfl) (by kernel_rfl) (by kernel_rfl) (fun _ _ _ h=>h) (Or.inl ⟨by rfl,?_⟩) (by assumption) ?_
     case refine_2=>(intro wz hSw;(try dsimp only at hSw);go_simp<;>with_reducible rfl)
     try simp only[Act.put,iT,iR,iQ]
     refine wpAnyH_ready (rs:=[17]) (by kernel_rfl) (by simp) ?_;refine AllReadyH.cons (o:=⟨some 45,_,_,_,_,_⟩) rfl (fun K hK=>?_) AllReadyH.nil;go_simp;rw[yn5 kN hkv];dsimp only[Oper.upon];refine(FC _ hb8).mono ?_;rintro e w9 ⟨rfl,Ju⟩;replace Ju:gZ w5 w9:=iq hb8 Ju;dsimp only;refine hK.out _ _ (Ko _ Ju) (fun hHeld=>?_);clear hK K iI;have iI:=hHeld;clear hHeld;refine wpAnyH_take (i:=18) (oi:=⟨some 46,_,_,_,_,_⟩) (v:=?_) rfl (by kernel_rfl) (by kernel_rfl) (by kernel_rfl) (fun _ _ _ h=>h) (Or.inl ⟨by rfl,?_⟩) (by assumption) ?_
     case refine_2=>(intro wz hSw;(try dsimp only at hSw);go_simp<;>with_reducible rfl)
     try simp only[Act.put,iT,iR,iQ]
     refine wpAnyH_take (i:=19) (oi:=⟨some 6,_,_,_,_,_⟩) (v:=?_) rfl (by kernel_rfl) (by kernel_rfl) (by kernel_rfl) (fun _ _ _ h=>h) (Or.inl ⟨by rfl,?_⟩) (by assumption) ?_
     case refine_2=>(intro wz hSw;(try dsimp only at hSw);go_simp<;>with_reducible rfl)
     try simp only[Act.put,iT,iR,iQ]
     refine wpAnyH_done (by kernel_rfl) ?_ _;go_wp2_with fail;go_ret;exact⟨jH HQ.symm,⟨_,DJ.below Ju⟩,HKB.trans (KB.of Ju (Nat.le_of_lt (World.rowIs.lt DJ)))⟩
    ·have HQ:Hid (oJ nd m=false):=by show oJ nd m=false;rw[HV.out,hlb,bP hk2];rfl
     have qk:decide (((nd m).kn:Int)<=200)=false:=bP hk2;have qk2:decide ((nd m).kn<=200)=false:=bP (by omega);have i1:(kN:Int)<39:=by omega
     have i2:(0:Int)<=(kN:Int):=by omega
     refine wp_region_held_drew (S:=(fun w'=>w'.cell? ⟨w.heap.size,0,none⟩=some (.int .i64 (kN:Int))/\w'.cell? ⟨w.heap.size,1,none⟩=some (.int .i64 (nd m).l)/\w'.cell? ⟨w.heap.size,2,none⟩=some (.int .i64 (nd m).o)/\w'.cell? ⟨w.heap.size,3,none⟩=some (.int .i64 (nd m).n)/\w'.cell? ⟨w.heap.size,4,none⟩=some (.float .f64 (nd m).f)/\w'.cell? ⟨w.heap.size,5,none⟩=some (.string (nd m).s)/\w'.cell? ⟨w.heap.size,6,none⟩=some (.slice (nas m).ra (nd m).rn (nas m).rc)/\w'.cell? ⟨w.heap.size,7,none⟩=some (.slice (nas m).ka (nd m).kn (nas m).kc)/\w'.cell? ⟨F,1+kN,none⟩=some (mv F (DW kN)))) (by kernel_rfl) (Ko.out _ (ay _ _).drew) (fun iI=>?_);refine wpAnyH_take (i:=0) (oi:=⟨some 28,_,_,_,_,_⟩) (v:=?_) rfl (by kernel_rfl) (by kernel_rfl) (by kernel_rfl) (fun _ _ _ h=>h) (Or.inl ⟨by rfl,?_⟩) (by assumption) ?_
     case refine_2=>(intro wz hSw;(try dsimp only at hSw);go_simp<;>with_reducible rfl)
     try simp only[Act.put,iT,iR,iQ]
     refine wpAnyH_ready (rs:=[1]) (by kernel_rfl) (by simp) ?_;refine AllReadyH.cons (o:=⟨some 29,_,_,_,_,_⟩) rfl (fun K hK=>?_) AllReadyH.nil;go_simp;refine(LF _).mono ?_;rw[hlb];rintro e w8 ⟨rfl,hb8⟩;replace hb8:gZ w5 w8:=iq (ay _ _).drew hb8;dsimp only;refine hK.out _ _ (Ko _ hb8) (fun hHeld=>?_);clear hK K iI;have iI:=hHeld;clear hHeld;refine wpAnyH_take (i:=2) (oi:=⟨some 30,_,_,_,_,_⟩) (v:=?_) rfl (by kernel_rfl) (by kernel_rfl) (by kernel_rfl) (fun _ _ _ h=>h) (Or.inl ⟨by rfl,?_⟩) (by assumption) ?_
     case refine_2=>(intro wz hSw;(try dsimp only at hSw);go_simp<;>with_reducible rfl)
     try simp only[Act.put,iT,iR,iQ]
     refine wpAnyH_take (i:=3) (oi:=⟨some 31,_,_,_,_,_⟩) (v:=?_) rfl (by kernel_rfl) (by kernel_rfl) (by kernel_rfl) (fun _ _ _ h=>h) (Or.inl ⟨by rfl,?_⟩) (by assumption) ?_
     case refine_2=>(intro wz hSw;(try dsimp only at hSw);go_simp<;>with_reducible rfl)
     try simp only[Act.put,iT,iR,iQ]
     refine wpAnyH_take (i:=4) (oi:=⟨some 32,_,_,_,_,_⟩) (v:=?_) rfl (by kernel_rfl) (by kernel_rfl) (by kernel_rfl) (fun _ _ _ h=>h) (Or.inl ⟨by rfl,?_⟩) (by assumption) ?_
     case refine_2=>(intro wz hSw;(try dsimp only at hSw);go_simp<;>with_reducible rfl)
     try simp only[Act.put,iT,iR,iQ]
     refine wpAnyH_take (i:=5) (oi:=⟨some 33,_,_,_,_,_⟩) (v:=?_) rfl (by kernel_rfl) (by kernel_rfl) (by kernel_rfl) (fun _ _ _ h=>h) (Or.inl ⟨by rfl,?_⟩) (by assumption) ?_
     case refine_2=>(intro wz hSw;(try dsimp only at hSw);go_simp<;>with_reducible rfl)
     try simp only[Act.put,iT,iR,iQ]
     refine wpAnyH_take (i:=6) (oi:=⟨some 34,_,_,_,_,_⟩) (v:=?_) rfl (by kernel_rfl) (by kernel_rfl) (by kernel_rfl) (fun _ _ _ h=>h) (Or.inl ⟨by rfl,?_⟩) (by assumption) ?_
     case refine_2=>(intro wz hSw;(try dsimp only at hSw);go_simp<;>with_reducible rfl)
     try simp only[Act.put,iT,iR,iQ]
     refine wpAnyH_take (i:=7) (oi:=⟨some 35,_,_,_,_,_⟩) (v:=?_) rfl (by kernel_rfl) (by kernel_rfl) (by kernel_rfl) (fun _ _ _ h=>h) (Or.inl ⟨by rfl,?_⟩) (by assumption) ?_
     case refine_2=>(intro wz hSw;(try dsimp only at hSw);go_simp<;>with_reducible rfl)
     try simp only[Act.put,iT,iR,iQ]
     refine wpAnyH_take (i:=8) (oi:=⟨some 36,_,_,_,_,_⟩) (v:=?_) rfl (by kernel_rfl) (by kernel_rfl) (by kernel_rfl) (fun _ _ _ h=>h) (Or.inl ⟨by rfl,?_⟩) (by assumption) ?_
     case refine_2=>(intro wz hSw;(try dsimp only at hSw);go_simp<;>with_reducible rfl)
     try simp only[Act.put,iT,iR,iQ]
     refine wpAnyH_take (i:=9) (oi:=⟨some 37,_,_,_,_,_⟩) (v:=undef) rfl (by kernel_rfl) (by kernel_rfl) (by kernel_rfl) (fun _ _ _ h=>h) (Or.inr ⟨by rfl,rfl⟩) (by assumption) ?_;try simp only[Act.put,iT,iR,iQ]
     refine wpAnyH_take (i:=10) (oi:=⟨some 38,_,_,_,_,_⟩) (v:=undef) rfl (by kernel_rfl) (by kernel_rfl) (by kernel_rfl) (fun _ _ _ h=>h) (Or.inr ⟨by rfl,rfl⟩) (by assumption) ?_;try simp only[Act.put,iT,iR,iQ]
     refine wpAnyH_take (i:=11) (oi:=⟨some 39,_,_,_,_,_⟩) (v:=undef) rfl (by kernel_rfl) (by kernel_rfl) (by kernel_rfl) (fun _ _ _ h=>h) (Or.inr ⟨by rfl,rfl⟩) (by assumption) ?_;try simp only[Act.put,iT,iR,iQ]
     refine wpAnyH_take (i:=12) (oi:=⟨some 40,_,_,_,_,_⟩) (v:=undef) rfl (by kernel_rfl) (by kernel_rfl) (by kernel_rfl) (fun _ _ _ h=>h) (Or.inr ⟨by rfl,rfl⟩) (by assumption) ?_;try simp only[Act.put,iT,iR,iQ]
     refine wpAnyH_take (i:=13) (oi:=⟨some 41,_,_,_,_,_⟩) (v:=undef) rfl (by kernel_rfl) (by kernel_rfl) (by kernel_rfl) (fun _ _ _ h=>h) (Or.inr ⟨by rfl,rfl⟩) (by assumption) ?_;try simp only[Act.put,iT,iR,iQ]
     refine wpAnyH_take (i:=14) (oi:=⟨some 42,_,_,_,_,_⟩) (v:=undef) rfl (by kernel_rfl) (by kernel_rfl) (by kernel_rfl) (fun _ _ _ h=>h) (Or.inr ⟨by rfl,rfl⟩) (by assumption) ?_;try simp only[Act.put,iT,iR,iQ]
     refine wpAnyH_take (i:=15) (oi:=⟨some 43,_,_,_,_,_⟩) (v:=undef) rfl (by kernel_rfl) (by kernel_rfl) (by kernel_rfl) (fun _ _ _ h=>h) (Or.inr ⟨by rfl,rfl⟩) (by assumption) ?_;try simp only[Act.put,iT,iR,iQ]
     refine wpAnyH_take (i:=16) (oi:=⟨some 44,_,_,_,_,_⟩) (v:=undef) rfl (by kernel_rfl) (by kernel_rfl) (by kernel_rfl) (fun _ _ _ h=>h) (Or.inr ⟨by rfl,rfl⟩) (by assumption) ?_;try simp only[Act.put,iT,iR,iQ]
     refine wpAnyH_take (i:=17) (oi:=⟨some 45,_,_,_,_,_⟩) (v:=undef) rfl (by kernel_rfl) (by kernel_rfl) (by kernel_rfl) (fun _ _ _ h=>h) (Or.inr ⟨by rfl,rfl⟩) (by assumption) ?_;try simp only[Act.put,iT,iR,iQ]
     refine wpAnyH_take (i:=18) (oi:=⟨some 46,_,_,_,_,_⟩) (v:=?_) rfl (by kernel_rfl) (by kernel_rfl) (by kernel_rfl) (fun _ _ _ h=>h) (Or.inl ⟨by rfl,?_⟩) (by assumption) ?_
     case refine_2=>(intro wz hSw;(try dsimp only at hSw);go_simp<;>with_reducible rfl)
     try simp only[Act.put,iT,iR,iQ]
     refine wpAnyH_take (i:=19) (oi:=⟨some 6,_,_,_,_,_⟩) (v:=?_) rfl (by kernel_rfl) (by kernel_rfl) (by kernel_rfl) (fun _ _ _ h=>h) (Or.inl ⟨by rfl,?_⟩) (by assumption) ?_
     case refine_2=>(intro wz hSw;(try dsimp only at hSw);go_simp<;>with_reducible rfl)
     try simp only[Act.put,iT,iR,iQ]
     refine wpAnyH_done (by kernel_rfl) ?_ _;go_wp2_with fail;go_ret;exact⟨jH HQ.symm,⟨_,DJ.below hb8⟩,HKB.trans (KB.of hb8 (Nat.le_of_lt (World.rowIs.lt DJ)))⟩
 ·have hf:oJ nd m=false:=by
   have h1:oW (nd m).k=false:=by unfold oW;simp;omega
   have h2:mM (nd m).k=false:=by unfold mM;simp;omega
   unfold oJ;rw[h1,h2];rfl
  have fH:setB 32766 (nd m).k=false:=by rw[MV];unfold oW;simp;omega
  have fJ:setB 549754765312 (nd m).k=false:=by rw[Hz];unfold mM;simp;omega
  have HV:Hid (oJ nd m=false):=hf;clear hf hk;go_in;go_wp2_with fail;refine(Di 32766 (by decide) _ _).mono ?_;rw[fH];rintro e w1 ⟨rfl,rfl⟩;go_wp2_with fail;refine(Di 549754765312 (by decide) _ _).mono ?_;rw[fJ];rintro e w1 ⟨rfl,rfl⟩;go_wp2_with fail;go_ret;exact⟨jH HV.symm,⟨s,HF.alloc _⟩,KB.of (q01 _ _) (by omega)⟩
def II(u:UD)(f n:Nat):Prop:=qm (u.fn f).nd n=false
theorem yo6{u:UD}{f n:Nat}(hf:f<u.n)(hn:n<(u.fn f).nn)(h3:∀f',f'<f->∀n',n'<(u.fn f').nn->¬II u f' n')(h4:∀n',n'<n->¬II u f n')(h5:II u f n):Least (xE u) ⟨3,f,n⟩:=At2.least (by decide) h3 h4 hf hn h5
theorem j25{u:UD}(h2:∀f',f'<u.n->∀n',n'<(u.fn f').nn->¬II u f' n'):Least (xE u) oI:=Least.zero (At2.none h2)
theorem qx9(L:Nat)(u:UD)(a:Option Addr)(cap:Nat)(fas:Nat->FA)(w:World)(hs:u.sm)(hz:Ea u)(hc:∀i,i<u.n->qj (u.fn i) (fas i))(hT:jh L w u.n u.fn a fas):Calls Tryz.prog 41 #[vN u a cap] w fun e w'=>iG (xE u) w e w':=by
 have HT:Hid (jh L w u.n u.fn a fas):=hT;have HS:Hid u.sm:=hs;have HZ:Hid (Ea u):=hz;have HC:Hid (∀i,i<u.n->qj (u.fn i) (fas i)):=hc;have hun:=hz.2.1;obtain⟨b,off,e0,_,hb,_⟩:=jZ hT.1 (show 0<u.n from hz.1);subst e0;clear hT hs hz hc;have ez:Hid ((jG w u (some ⟨b,off,none⟩) cap).heap.size=w.heap.size+1 + 1):=by show _=_;simp
 go_in;go_wp2_with (go_at_call 76;refine(qz7 _).mono ?_;rintro e w1 ⟨rfl,fQ⟩;have fB:Hid (Below (jG w u (some ⟨b,off,none⟩) cap).heap.size (jG w u (some ⟨b,off,none⟩) cap) w1):=(by show Below _ _ _;rw[fQ];exact q01 _ _);have HF1:Hid (∃s,lG w1 (w.heap.size+1 + 1) s):=(by have h:=lG.new (jG w u (some ⟨b,off,none⟩) cap);rw[<-fQ,ez.out] at h;exact⟨_,h⟩);have u0:=(JB fB.out).cell 0 rfl;clear fQ);clear u0
 go_loopw [11] (fun i wr=>∃(k:Nat),k<=u.n/\i=.int .i64 k/\Hid (∀f',f'<k->∀n',n'<(u.fn f').nn->¬II u f' n')/\Hid (Below (jG w u (some ⟨b,off,none⟩) cap).heap.size (jG w u (some ⟨b,off,none⟩) cap) wr)/\Hid (∃s,lG wr (w.heap.size+1 + 1) s)) (fun i _=>u.n-(intOf i).toNat)
 case atStart=>exact⟨0,aF _,rfl,fun f' hf'=>by omega,fB,HF1⟩
 case round=>
  clear fB HF1;obtain⟨k,hk,rfl,HF,HB,HV⟩:=hrel;by_cases fE:k<u.n
  ·have pI:Hid (jh L wr u.n u.fn (some ⟨b,off,none⟩) fas):=HT.below (nO HB.out);obtain⟨b',off',e0,_,hbz,d0,d1,d2,d3,d4,d5,d6⟩:=jZ pI.1 fE;obtain⟨rfl,rfl⟩:b=b'/\off=off':=by simpa using e0
   clear e0;have hnn:(u.fn k).nn<=3000:=aV (Va u.fn u.n k fE) HZ.2.2
   rename World=>wa
   have hFw:w.heap.size+1 + 1<wa.heap.size:=by obtain⟨s,h⟩:=HV.out;exact World.rowIs.lt h
   have HX0:Hid (Has (wa.alloc (.cells (qG (u.fn k) (fas k)) 95)) wa.heap.size (qG (u.fn k) (fas k))):=Has.new _ _ _;have HB0:Hid (Below (jG w u (some ⟨b,off,none⟩) cap).heap.size (jG w u (some ⟨b,off,none⟩) cap) (wa.alloc (.cells (qG (u.fn k) (fas k)) 95))):=jo HB.out _;have U1:Hid (∃s,lG (wa.alloc (.cells (qG (u.fn k) (fas k)) 95)) (w.heap.size+1 + 1) s):=by obtain⟨s,h⟩:=HV.out;exact⟨s,h.alloc _⟩
   go_wp2_with fail;clear d0 d1 d2 d3 d4 d5 d6
   go_loopw [19] (fun i wr=>∃(m:Nat),m<=(u.fn k).nn/\i=.int .i64 m/\Hid (∀n',n'<m->¬II u k n')/\Hid (Below (jG w u (some ⟨b,off,none⟩) cap).heap.size (jG w u (some ⟨b,off,none⟩) cap) wr)/\Hid (∃s,lG wr (w.heap.size+1 + 1) s)/\Hid (Has wr wa.heap.size (qG (u.fn k) (fas k)))) (fun i _=>(u.fn k).nn-(intOf i).toNat)
   case atStart=>exact⟨0,aF _,rfl,fun f' hf'=>by omega,HB0,U1,HX0⟩
   case round=>
    clear HB HV pI HX0 HB0 U1;obtain⟨m,hm,rfl,HN,HB,HV,HX⟩:=hrel;by_cases hmn:m<(u.fn k).nn
    ·have y6:wr.cell? ⟨wa.heap.size,6,none⟩=some (.slice (fas k).na (u.fn k).nn (fas k).nc):=HX.cell 6 rfl;obtain⟨s,hs⟩:=HV.out;have Qx:=(HC.out k fE);have Qj:Hid (jy 0 (jG w u (some ⟨b,off,none⟩) cap) (u.fn k).nn (u.fn k).nd (fas k).na (fas k).nas):=((HT.below (nO (ay _ _))).2 k fE).2.2.less (aF _);have HFC:Hid (Calls Tryz.prog 77 #[.pointer (some ⟨w.heap.size+1 + 1,0,none⟩),.slice (fas k).na (u.fn k).nn (fas k).nc,.int .i64 m] wr fun e w'=>QV (u.fn k).nd m (w.heap.size+1 + 1) wr e w'):=y21 (w.heap.size+1 + 1) (u.fn k).nn (u.fn k).nd (fas k).na (fas k).nc (fas k).nas m s (jG w u (some ⟨b,off,none⟩) cap) wr hmn (by omega) Qx.1 ((HS.fn k fE).nd m hmn) (Qx.2 m hmn) Qj.out (Nat.le_of_eq ez.out) HB.out hs;clear hs Qx Qj
     cases hfb:oJ (u.fn k).nd m
     ·have HL:Hid (Least (xE u) ⟨3,k,m⟩):=yo6 fE hmn HF.out HN.out (by show qm _ _=false;rw[<-yt9];exact hfb);go_wp2_with (go_at_call 77;refine HFC.mono ?_;unfold QV;rw[hfb];rintro e w8 ⟨rfl,Y2,hk8⟩;have xJ:Hid (Below (jG w u (some ⟨b,off,none⟩) cap).heap.size (jG w u (some ⟨b,off,none⟩) cap) w8):=HB.trans (hk8.low.mono (Nat.le_of_eq ez.out));have s0:=(q22 xJ.out).cell (i:=0) (by omega);have s1:=(q22 xJ.out).cell (i:=1) (by omega);have s2:=(q22 xJ.out).cell (i:=2) (by omega);have sz:=(q22 xJ.out).frozen);refine aG (v:=nC ⟨3,k,m⟩) (by simp[results,Tryz.results41,go_sem,s0,s1,s2]) rfl ?_;exact iG.of HL (qF (nO xJ) _ _ _)
     ·have HG:Hid (¬II u k m):=by
       show ¬(qm _ _=false);rw[<-yt9,hfb];simp
      go_wp2_with (go_at_call 77;refine HFC.mono ?_;unfold QV;rw[hfb];rintro e w8 ⟨rfl,Y2,hk8⟩;have HV8:Hid (∃s,lG w8 (w.heap.size+1 + 1) s):=Y2;have HK8:Hid (KB (w.heap.size+1 + 1) wr w8):=hk8;clear Y2 hk8);have xJ:Hid (Below (jG w u (some ⟨b,off,none⟩) cap).heap.size (jG w u (some ⟨b,off,none⟩) cap) w8):=HB.trans (HK8.low.mono (Nat.le_of_eq ez.out));have U0:Hid (Has w8 wa.heap.size (qG (u.fn k) (fas k))):=HK8.has _ _ (by omega) HX.out;go_roundw
      case rel=>exact⟨m+1,by omega,by go_num,fun j hj=>by
       by_cases e:j=m
       ·subst e;exact HG
       ·exact HN.out j (by omega),xJ,HV8,U0⟩
      case measure=>simp[intOf];omega
    ·obtain rfl:m=(u.fn k).nn:=by omega
     go_wp2_with fail;go_roundw
     case rel=>exact⟨k+1,by omega,by go_num,fun j hj=>by
      by_cases e:j=k
      ·subst e;exact HN
      ·exact HF.out j (by omega),HB,HV⟩
     case measure=>simp[intOf];omega
  ·obtain rfl:k=u.n:=by omega
   have HL:Hid (Least (xE u) ⟨0,0,0⟩):=j25 HF.out;have s0:=(q22 HB.out).cell (i:=0) (by omega);have s1:=(q22 HB.out).cell (i:=1) (by omega);have s2:=(q22 HB.out).cell (i:=2) (by omega);have sz:=(q22 HB.out).frozen;go_wp2_with fail;refine aG (v:=nC ⟨0,0,0⟩) (by simp[results,Tryz.results41,go_sem,s0,s1,s2]) rfl ?_;exact iG.of HL (qF (nO HB) _ _ _)
theorem Least.in{P:FT->Prop}{x:FT}(h:Least P x)(h0:x.c≠0):P x:=by
 rcases h with⟨rfl,_⟩|⟨_,h,_⟩
 ·exact absurd rfl h0
 ·exact h
def kX(u:UD):Nat->FT->Prop
 |0=>vM u
 |1=>rV u
 |2=>xE u
 |3=>vK u
 |4=>xC u
 |_=>Ai u
theorem yu4{u:UD}{y:FT}(h:oq u y):∃j,j<6/\kX u j y:=by
 rcases h with h|h|h|h|h|h
 ·exact⟨0,by omega,h⟩
 ·exact⟨1,by omega,h⟩
 ·exact⟨2,by omega,h⟩
 ·exact⟨3,by omega,h⟩
 ·exact⟨4,by omega,h⟩
 ·exact⟨5,by omega,h⟩
theorem ja6{u:UD}{y:FT}{j:Nat}(hj:j<6)(h:kX u j y):oq u y:=by
 rcases(show j=0\/j=1\/j=2\/j=3\/j=4\/j=5 by omega) with rfl|rfl|rfl|rfl|rfl|rfl
 ·exact .inl h
 ·exact .inr (.inl h)
 ·exact .inr (.inr (.inl h))
 ·exact .inr (.inr (.inr (.inl h)))
 ·exact .inr (.inr (.inr (.inr (.inl h))))
 ·exact .inr (.inr (.inr (.inr (.inr h))))
theorem ZF{u:UD}{y:FT}{j:Nat}(hj:j<6)(h:kX u j y):j+1<=y.c/\(j<5->y.c=j+1):=by
 rcases(show j=0\/j=1\/j=2\/j=3\/j=4\/j=5 by omega) with rfl|rfl|rfl|rfl|rfl|rfl
 ·have:=h.1;omega
 ·have:=h.1;omega
 ·have:=h.1;omega
 ·have:=h.1;omega
 ·have:=h.1;omega
 ·have:=yf1 h;omega
theorem KX{u:UD}{k:Nat}{x:FT}(hk:k<6)(hn:∀j,j<k->∀y,¬kX u j y)(h:Least (kX u k) x)(h0:x.c≠0):Least (oq u) x:=by
 have hx:=h.in h0;refine .inr ⟨by omega,ja6 hk hx,fun y hy=>?_⟩;obtain⟨j,hj,hy⟩:=yu4 hy;by_cases e:j<k
 ·exact absurd hy (hn j e y)
 ·by_cases e2:j=k
  ·subst e2;rcases h with⟨rfl,_⟩|⟨_,_,h⟩
   ·exact absurd rfl h0
   ·exact h y hy
  ·have h1:=ZF hk hx;have h2:=ZF hj hy;exact .inl (by have:=h1.2 (by omega);omega)
theorem j22{u:UD}(hn:∀j,j<6->∀y,¬kX u j y):Least (oq u) oI:=Least.zero fun y hy=>by
 obtain⟨j,hj,hy⟩:=yu4 hy;exact hn j hj y hy
theorem jc0{u:UD}(h1:∀y,¬vM u y):Ea u:=bG fun h=>At2.no h1 0 (by omega) 0 (by omega) h
def VI:Prop:=∀(L:Nat) (u:UD) (a:Option Addr) (cap:Nat) (fas:Nat->FA) (w:World),u.sm->U5 u->(∀y,¬xC u y)->(∀i,i<u.n->qj (u.fn i) (fas i))->jh L w u.n u.fn a fas->
 Calls Tryz.prog 44 #[vN u a cap] w fun e w'=>iG (Ai u) w e w'
theorem zj1(hD:Ny)(hX:VI)(L:Nat)(u:UD)(a:Option Addr)(cap:Nat)(fas:Nat->FA)(w:World)(hs:u.sm)(hc:∀i,i<u.n->qj (u.fn i) (fas i))(hT:jh L w u.n u.fn a fas):Calls Tryz.prog 26 #[vN u a cap] w fun e w'=>iG (oq u) w e w':=by
 have HD:Hid Ny:=hD;have HX:Hid VI:=hX;have HT:Hid (jh L w u.n u.fn a fas):=hT;have HS:Hid u.sm:=hs;have HC:Hid (∀i,i<u.n->qj (u.fn i) (fas i)):=hc;clear hT hs hD hX hc;go_in;go_wp2_with fail;obtain⟨w3,fV⟩:∃w3,w3=(jG w u a cap).alloc (.cells #[.func (.func 39) #[] #[],.func (.func 40) #[] #[],.func (.func 41) #[] #[],.func (.func 42) #[] #[],.func (.func 43) #[] #[],.func (.func 44) #[] #[]] 65):=⟨_,rfl⟩;have HB3:Hid (Below (jG w u a cap).heap.size (jG w u a cap) w3):=by show Below _ _ _;rw[fV];exact q01 _ _
 have HR3:Hid (Has w3 (w.heap.size+1 + 1) #[.func (.func 39) #[] #[],.func (.func 40) #[] #[],.func (.func 41) #[] #[],.func (.func 42) #[] #[],.func (.func 43) #[] #[],.func (.func 44) #[] #[]]):=by
  have h:=Has.new (jG w u a cap) #[.func (.func 39) #[] #[],.func (.func 40) #[] #[],.func (.func 41) #[] #[],.func (.func 42) #[] #[],.func (.func 43) #[] #[],.func (.func 44) #[] #[]] 65;rw[<-fV] at h;show Has _ _ _;simpa using h
 simp only[jG] at fV;rw[<-fV];clear fV
 go_loopw [8] (fun i wr=>∃(k:Nat),k<=6/\i=.int .i64 k/\Hid (∀j,j<k->∀y,¬kX u j y)/\Hid (Below (jG w u a cap).heap.size (jG w u a cap) wr)/\Hid (Has wr (w.heap.size+1 + 1) #[.func (.func 39) #[] #[],.func (.func 40) #[] #[],.func (.func 41) #[] #[],.func (.func 42) #[] #[],.func (.func 43) #[] #[],.func (.func 44) #[] #[]])) (fun i _=>6-(intOf i).toNat)
 case atStart=>exact⟨0,by omega,rfl,fun j hj=>by omega,HB3,HR3⟩
 case round=>
  clear HB3 HR3;obtain⟨k,hk,rfl,HN,HB,HR⟩:=hrel;have hW:=nO HB.out;have f0:wr.cell? ⟨w.heap.size,0,none⟩=some (.slice a u.n cap):=(JB HB.out).cell 0 rfl;rcases(show k=0\/k=1\/k=2\/k=3\/k=4\/k=5\/k=6 by omega) with rfl|rfl|rfl|rfl|rfl|rfl|rfl
  ·have g0:wr.cell? ⟨w.heap.size+1 + 1,0,none⟩=some (.func (.func 39) #[] #[]):=HR.cell 0 rfl;have LK:Hid (Calls Tryz.prog 39 #[vN u a cap] wr fun e w'=>iG (kX u 0) wr e w'):=qv1 L u a cap fas wr HS.out (HT.below hW)
   go_upto_region 5 with(go_at_call 39;refine LK.mono ?_;rintro e w1 ⟨⟨c1,f1,n1⟩,rfl,hL1,eu⟩;have oK:Hid (Least (kX u 0) ⟨c1,f1,n1⟩):=hL1;clear hL1)
   clear g0 f0 hW LK;obtain⟨wA,hwA⟩:∃wA,wA=w1.alloc (.cells #[.int .i64 (c1:Int),.int .i64 (f1:Int),.int .i64 (n1:Int)] 64):=⟨_,rfl⟩;have fB:Hid (Below (jG w u a cap).heap.size (jG w u a cap) wA):=by show Below _ _ _;rw[hwA];exact jo (iq HB eu) _
   have HA:Hid (Has wA w1.heap.size #[.int .i64 (c1:Int),.int .i64 (f1:Int),.int .i64 (n1:Int)]):=by show Has _ _ _;rw[hwA];exact Has.new _ _ _
   have gW:Hid (Has wA (w.heap.size+1 + 1) #[.func (.func 39) #[] #[],.func (.func 40) #[] #[],.func (.func 41) #[] #[],.func (.func 42) #[] #[],.func (.func 43) #[] #[],.func (.func 44) #[] #[]]):=by show Has _ _ _;rw[hwA];exact(HR.call eu).alloc _
   rw[<-hwA];clear hwA eu;have a0:wA.cell? ⟨w1.heap.size,0,none⟩=some (.int .i64 (c1:Int)):=HA.cell 0 rfl;have a1:wA.cell? ⟨w1.heap.size,1,none⟩=some (.int .i64 (f1:Int)):=HA.cell 1 rfl;have a2:wA.cell? ⟨w1.heap.size,2,none⟩=some (.int .i64 (n1:Int)):=HA.cell 2 rfl;by_cases c0:c1=0
   ·have hz:=oK.nil c0;have oV:Hid (∀j,j<0+1->∀y,¬kX u j y):=fun j hj=>by
     by_cases e:j=0
     ·subst e;have h:=oK.out;rw[hz] at h;exact h.none
     ·exact HN.out j (by omega)
    obtain⟨rfl,rfl,rfl⟩:c1=0/\f1=0/\n1=0:=by simpa[oI] using hz
    clear hz oK c0;go_wp2_with fail;go_roundw
    case rel=>exact⟨0+1,by omega,by go_num,oV,fB,gW⟩
    case measure=>simp[intOf]
   ·have s0:=(q22 fB.out).cell (i:=0) (by omega);have s1:=(q22 fB.out).cell (i:=1) (by omega);have s2:=(q22 fB.out).cell (i:=2) (by omega);have sz:=(q22 fB.out).frozen;have HQ:Hid (Least (oq u) ⟨c1,f1,n1⟩):=KX (by omega) HN.out oK.out c0;have q1:((c1:Int)==0)=false:=by simp;omega
    have q2:((c1:Int) != 0)=true:=by simp;omega
    go_wp2_with fail;refine aG (v:=nC ⟨c1,f1,n1⟩) (by simp[results,Tryz.results26,go_sem,s0,s1,s2]) rfl ?_;exact iG.of HQ (qF (nO fB) _ _ _)
  ·have g0:wr.cell? ⟨w.heap.size+1 + 1,1,none⟩=some (.func (.func 40) #[] #[]):=HR.cell 1 rfl;have LK:Hid (Calls Tryz.prog 40 #[vN u a cap] wr fun e w'=>iG (kX u 1) wr e w'):=zb5 L u a cap fas wr HS.out (HT.below hW)
   go_upto_region 5 with(go_at_call 40;refine LK.mono ?_;rintro e w1 ⟨⟨c1,f1,n1⟩,rfl,hL1,eu⟩;have oK:Hid (Least (kX u 1) ⟨c1,f1,n1⟩):=hL1;clear hL1)
   clear g0 f0 hW LK;obtain⟨wA,hwA⟩:∃wA,wA=w1.alloc (.cells #[.int .i64 (c1:Int),.int .i64 (f1:Int),.int .i64 (n1:Int)] 64):=⟨_,rfl⟩;have fB:Hid (Below (jG w u a cap).heap.size (jG w u a cap) wA):=by show Below _ _ _;rw[hwA];exact jo (iq HB eu) _
   have HA:Hid (Has wA w1.heap.size #[.int .i64 (c1:Int),.int .i64 (f1:Int),.int .i64 (n1:Int)]):=by show Has _ _ _;rw[hwA];exact Has.new _ _ _
   have gW:Hid (Has wA (w.heap.size+1 + 1) #[.func (.func 39) #[] #[],.func (.func 40) #[] #[],.func (.func 41) #[] #[],.func (.func 42) #[] #[],.func (.func 43) #[] #[],.func (.func 44) #[] #[]]):=by show Has _ _ _;rw[hwA];exact(HR.call eu).alloc _
   rw[<-hwA];clear hwA eu;have a0:wA.cell? ⟨w1.heap.size,0,none⟩=some (.int .i64 (c1:Int)):=HA.cell 0 rfl;have a1:wA.cell? ⟨w1.heap.size,1,none⟩=some (.int .i64 (f1:Int)):=HA.cell 1 rfl;have a2:wA.cell? ⟨w1.heap.size,2,none⟩=some (.int .i64 (n1:Int)):=HA.cell 2 rfl;by_cases c0:c1=0
   ·have hz:=oK.nil c0;have oV:Hid (∀j,j<1+1->∀y,¬kX u j y):=fun j hj=>by
     by_cases e:j=1
     ·subst e;have h:=oK.out;rw[hz] at h;exact h.none
     ·exact HN.out j (by omega)
    obtain⟨rfl,rfl,rfl⟩:c1=0/\f1=0/\n1=0:=by simpa[oI] using hz
    clear hz oK c0;go_wp2_with fail;go_roundw
    case rel=>exact⟨1+1,by omega,by go_num,oV,fB,gW⟩
    case measure=>simp[intOf]
   ·have s0:=(q22 fB.out).cell (i:=0) (by omega);have s1:=(q22 fB.out).cell (i:=1) (by omega);have s2:=(q22 fB.out).cell (i:=2) (by omega);have sz:=(q22 fB.out).frozen;have HQ:Hid (Least (oq u) ⟨c1,f1,n1⟩):=KX (by omega) HN.out oK.out c0;have q1:((c1:Int)==0)=false:=by simp;omega
    have q2:((c1:Int) != 0)=true:=by simp;omega
    go_wp2_with fail;refine aG (v:=nC ⟨c1,f1,n1⟩) (by simp[results,Tryz.results26,go_sem,s0,s1,s2]) rfl ?_;exact iG.of HQ (qF (nO fB) _ _ _)
  ·have g0:wr.cell? ⟨w.heap.size+1 + 1,2,none⟩=some (.func (.func 41) #[] #[]):=HR.cell 2 rfl;have LK:Hid (Calls Tryz.prog 41 #[vN u a cap] wr fun e w'=>iG (kX u 2) wr e w'):=qx9 L u a cap fas wr HS.out (jc0 (HN.out 0 (by omega))) HC.out (HT.below hW)
   go_upto_region 5 with(go_at_call 41;refine LK.mono ?_;rintro e w1 ⟨⟨c1,f1,n1⟩,rfl,hL1,eu⟩;have oK:Hid (Least (kX u 2) ⟨c1,f1,n1⟩):=hL1;clear hL1)
   clear g0 f0 hW LK;obtain⟨wA,hwA⟩:∃wA,wA=w1.alloc (.cells #[.int .i64 (c1:Int),.int .i64 (f1:Int),.int .i64 (n1:Int)] 64):=⟨_,rfl⟩;have fB:Hid (Below (jG w u a cap).heap.size (jG w u a cap) wA):=by show Below _ _ _;rw[hwA];exact jo (iq HB eu) _
   have HA:Hid (Has wA w1.heap.size #[.int .i64 (c1:Int),.int .i64 (f1:Int),.int .i64 (n1:Int)]):=by show Has _ _ _;rw[hwA];exact Has.new _ _ _
   have gW:Hid (Has wA (w.heap.size+1 + 1) #[.func (.func 39) #[] #[],.func (.func 40) #[] #[],.func (.func 41) #[] #[],.func (.func 42) #[] #[],.func (.func 43) #[] #[],.func (.func 44) #[] #[]]):=by show Has _ _ _;rw[hwA];exact(HR.call eu).alloc _
   rw[<-hwA];clear hwA eu;have a0:wA.cell? ⟨w1.heap.size,0,none⟩=some (.int .i64 (c1:Int)):=HA.cell 0 rfl;have a1:wA.cell? ⟨w1.heap.size,1,none⟩=some (.int .i64 (f1:Int)):=HA.cell 1 rfl;have a2:wA.cell? ⟨w1.heap.size,2,none⟩=some (.int .i64 (n1:Int)):=HA.cell 2 rfl;by_cases c0:c1=0
   ·have hz:=oK.nil c0;have oV:Hid (∀j,j<2+1->∀y,¬kX u j y):=fun j hj=>by
     by_cases e:j=2
     ·subst e;have h:=oK.out;rw[hz] at h;exact h.none
     ·exact HN.out j (by omega)
    obtain⟨rfl,rfl,rfl⟩:c1=0/\f1=0/\n1=0:=by simpa[oI] using hz
    clear hz oK c0;go_wp2_with fail;go_roundw
    case rel=>exact⟨2+1,by omega,by go_num,oV,fB,gW⟩
    case measure=>simp[intOf]
   ·have s0:=(q22 fB.out).cell (i:=0) (by omega);have s1:=(q22 fB.out).cell (i:=1) (by omega);have s2:=(q22 fB.out).cell (i:=2) (by omega);have sz:=(q22 fB.out).frozen;have HQ:Hid (Least (oq u) ⟨c1,f1,n1⟩):=KX (by omega) HN.out oK.out c0;have q1:((c1:Int)==0)=false:=by simp;omega
    have q2:((c1:Int) != 0)=true:=by simp;omega
    go_wp2_with fail;refine aG (v:=nC ⟨c1,f1,n1⟩) (by simp[results,Tryz.results26,go_sem,s0,s1,s2]) rfl ?_;exact iG.of HQ (qF (nO fB) _ _ _)
  ·have g0:wr.cell? ⟨w.heap.size+1 + 1,3,none⟩=some (.func (.func 42) #[] #[]):=HR.cell 3 rfl;have LK:Hid (Calls Tryz.prog 42 #[vN u a cap] wr fun e w'=>iG (kX u 3) wr e w'):=qu4 L u a cap fas wr HS.out (UZ (HN.out 0 (by omega)) (HN.out 1 (by omega)) (HN.out 2 (by omega))) (HT.below hW)
   go_upto_region 5 with(go_at_call 42;refine LK.mono ?_;rintro e w1 ⟨⟨c1,f1,n1⟩,rfl,hL1,eu⟩;have oK:Hid (Least (kX u 3) ⟨c1,f1,n1⟩):=hL1;clear hL1)
   clear g0 f0 hW LK;obtain⟨wA,hwA⟩:∃wA,wA=w1.alloc (.cells #[.int .i64 (c1:Int),.int .i64 (f1:Int),.int .i64 (n1:Int)] 64):=⟨_,rfl⟩;have fB:Hid (Below (jG w u a cap).heap.size (jG w u a cap) wA):=by show Below _ _ _;rw[hwA];exact jo (iq HB eu) _
   have HA:Hid (Has wA w1.heap.size #[.int .i64 (c1:Int),.int .i64 (f1:Int),.int .i64 (n1:Int)]):=by show Has _ _ _;rw[hwA];exact Has.new _ _ _
   have gW:Hid (Has wA (w.heap.size+1 + 1) #[.func (.func 39) #[] #[],.func (.func 40) #[] #[],.func (.func 41) #[] #[],.func (.func 42) #[] #[],.func (.func 43) #[] #[],.func (.func 44) #[] #[]]):=by show Has _ _ _;rw[hwA];exact(HR.call eu).alloc _
   rw[<-hwA];clear hwA eu;have a0:wA.cell? ⟨w1.heap.size,0,none⟩=some (.int .i64 (c1:Int)):=HA.cell 0 rfl;have a1:wA.cell? ⟨w1.heap.size,1,none⟩=some (.int .i64 (f1:Int)):=HA.cell 1 rfl;have a2:wA.cell? ⟨w1.heap.size,2,none⟩=some (.int .i64 (n1:Int)):=HA.cell 2 rfl;by_cases c0:c1=0
   ·have hz:=oK.nil c0;have oV:Hid (∀j,j<3+1->∀y,¬kX u j y):=fun j hj=>by
     by_cases e:j=3
     ·subst e;have h:=oK.out;rw[hz] at h;exact h.none
     ·exact HN.out j (by omega)
    obtain⟨rfl,rfl,rfl⟩:c1=0/\f1=0/\n1=0:=by simpa[oI] using hz
    clear hz oK c0;go_wp2_with fail;go_roundw
    case rel=>exact⟨3+1,by omega,by go_num,oV,fB,gW⟩
    case measure=>simp[intOf]
   ·have s0:=(q22 fB.out).cell (i:=0) (by omega);have s1:=(q22 fB.out).cell (i:=1) (by omega);have s2:=(q22 fB.out).cell (i:=2) (by omega);have sz:=(q22 fB.out).frozen;have HQ:Hid (Least (oq u) ⟨c1,f1,n1⟩):=KX (by omega) HN.out oK.out c0;have q1:((c1:Int)==0)=false:=by simp;omega
    have q2:((c1:Int) != 0)=true:=by simp;omega
    go_wp2_with fail;refine aG (v:=nC ⟨c1,f1,n1⟩) (by simp[results,Tryz.results26,go_sem,s0,s1,s2]) rfl ?_;exact iG.of HQ (qF (nO fB) _ _ _)
  ·have g0:wr.cell? ⟨w.heap.size+1 + 1,4,none⟩=some (.func (.func 43) #[] #[]):=HR.cell 4 rfl;have LK:Hid (Calls Tryz.prog 43 #[vN u a cap] wr fun e w'=>iG (kX u 4) wr e w'):=zg0 HD.out L u a cap fas wr (j41 (UZ (HN.out 0 (by omega)) (HN.out 1 (by omega)) (HN.out 2 (by omega))) (HN.out 3 (by omega))) (HT.below hW)
   go_upto_region 5 with(go_at_call 43;refine LK.mono ?_;rintro e w1 ⟨⟨c1,f1,n1⟩,rfl,hL1,eu⟩;have oK:Hid (Least (kX u 4) ⟨c1,f1,n1⟩):=hL1;clear hL1)
   clear g0 f0 hW LK;obtain⟨wA,hwA⟩:∃wA,wA=w1.alloc (.cells #[.int .i64 (c1:Int),.int .i64 (f1:Int),.int .i64 (n1:Int)] 64):=⟨_,rfl⟩;have fB:Hid (Below (jG w u a cap).heap.size (jG w u a cap) wA):=by show Below _ _ _;rw[hwA];exact jo (iq HB eu) _
   have HA:Hid (Has wA w1.heap.size #[.int .i64 (c1:Int),.int .i64 (f1:Int),.int .i64 (n1:Int)]):=by show Has _ _ _;rw[hwA];exact Has.new _ _ _
   have gW:Hid (Has wA (w.heap.size+1 + 1) #[.func (.func 39) #[] #[],.func (.func 40) #[] #[],.func (.func 41) #[] #[],.func (.func 42) #[] #[],.func (.func 43) #[] #[],.func (.func 44) #[] #[]]):=by show Has _ _ _;rw[hwA];exact(HR.call eu).alloc _
   rw[<-hwA];clear hwA eu;have a0:wA.cell? ⟨w1.heap.size,0,none⟩=some (.int .i64 (c1:Int)):=HA.cell 0 rfl;have a1:wA.cell? ⟨w1.heap.size,1,none⟩=some (.int .i64 (f1:Int)):=HA.cell 1 rfl;have a2:wA.cell? ⟨w1.heap.size,2,none⟩=some (.int .i64 (n1:Int)):=HA.cell 2 rfl;by_cases c0:c1=0
   ·have hz:=oK.nil c0;have oV:Hid (∀j,j<4+1->∀y,¬kX u j y):=fun j hj=>by
     by_cases e:j=4
     ·subst e;have h:=oK.out;rw[hz] at h;exact h.none
     ·exact HN.out j (by omega)
    obtain⟨rfl,rfl,rfl⟩:c1=0/\f1=0/\n1=0:=by simpa[oI] using hz
    clear hz oK c0;go_wp2_with fail;go_roundw
    case rel=>exact⟨4+1,by omega,by go_num,oV,fB,gW⟩
    case measure=>simp[intOf]
   ·have s0:=(q22 fB.out).cell (i:=0) (by omega);have s1:=(q22 fB.out).cell (i:=1) (by omega);have s2:=(q22 fB.out).cell (i:=2) (by omega);have sz:=(q22 fB.out).frozen;have HQ:Hid (Least (oq u) ⟨c1,f1,n1⟩):=KX (by omega) HN.out oK.out c0;have q1:((c1:Int)==0)=false:=by simp;omega
    have q2:((c1:Int) != 0)=true:=by simp;omega
    go_wp2_with fail;refine aG (v:=nC ⟨c1,f1,n1⟩) (by simp[results,Tryz.results26,go_sem,s0,s1,s2]) rfl ?_;exact iG.of HQ (qF (nO fB) _ _ _)
  ·have g0:wr.cell? ⟨w.heap.size+1 + 1,5,none⟩=some (.func (.func 44) #[] #[]):=HR.cell 5 rfl;have LK:Hid (Calls Tryz.prog 44 #[vN u a cap] wr fun e w'=>iG (kX u 5) wr e w'):=HX.out L u a cap fas wr HS.out (j41 (UZ (HN.out 0 (by omega)) (HN.out 1 (by omega)) (HN.out 2 (by omega))) (HN.out 3 (by omega))) (HN.out 4 (by omega)) HC.out (HT.below hW)
   go_upto_region 5 with(go_at_call 44;refine LK.mono ?_;rintro e w1 ⟨⟨c1,f1,n1⟩,rfl,hL1,eu⟩;have oK:Hid (Least (kX u 5) ⟨c1,f1,n1⟩):=hL1;clear hL1)
   clear g0 f0 hW LK;obtain⟨wA,hwA⟩:∃wA,wA=w1.alloc (.cells #[.int .i64 (c1:Int),.int .i64 (f1:Int),.int .i64 (n1:Int)] 64):=⟨_,rfl⟩;have fB:Hid (Below (jG w u a cap).heap.size (jG w u a cap) wA):=by show Below _ _ _;rw[hwA];exact jo (iq HB eu) _
   have HA:Hid (Has wA w1.heap.size #[.int .i64 (c1:Int),.int .i64 (f1:Int),.int .i64 (n1:Int)]):=by show Has _ _ _;rw[hwA];exact Has.new _ _ _
   have gW:Hid (Has wA (w.heap.size+1 + 1) #[.func (.func 39) #[] #[],.func (.func 40) #[] #[],.func (.func 41) #[] #[],.func (.func 42) #[] #[],.func (.func 43) #[] #[],.func (.func 44) #[] #[]]):=by show Has _ _ _;rw[hwA];exact(HR.call eu).alloc _
   rw[<-hwA];clear hwA eu;have a0:wA.cell? ⟨w1.heap.size,0,none⟩=some (.int .i64 (c1:Int)):=HA.cell 0 rfl;have a1:wA.cell? ⟨w1.heap.size,1,none⟩=some (.int .i64 (f1:Int)):=HA.cell 1 rfl;have a2:wA.cell? ⟨w1.heap.size,2,none⟩=some (.int .i64 (n1:Int)):=HA.cell 2 rfl;by_cases c0:c1=0
   ·have hz:=oK.nil c0;have oV:Hid (∀j,j<5+1->∀y,¬kX u j y):=fun j hj=>by
     by_cases e:j=5
     ·subst e;have h:=oK.out;rw[hz] at h;exact h.none
     ·exact HN.out j (by omega)
    obtain⟨rfl,rfl,rfl⟩:c1=0/\f1=0/\n1=0:=by simpa[oI] using hz
    clear hz oK c0;go_wp2_with fail;go_roundw
    case rel=>exact⟨5+1,by omega,by go_num,oV,fB,gW⟩
    case measure=>simp[intOf]
   ·have s0:=(q22 fB.out).cell (i:=0) (by omega);have s1:=(q22 fB.out).cell (i:=1) (by omega);have s2:=(q22 fB.out).cell (i:=2) (by omega);have sz:=(q22 fB.out).frozen;have HQ:Hid (Least (oq u) ⟨c1,f1,n1⟩):=KX (by omega) HN.out oK.out c0;have q1:((c1:Int)==0)=false:=by simp;omega
    have q2:((c1:Int) != 0)=true:=by simp;omega
    go_wp2_with fail;refine aG (v:=nC ⟨c1,f1,n1⟩) (by simp[results,Tryz.results26,go_sem,s0,s1,s2]) rfl ?_;exact iG.of HQ (qF (nO fB) _ _ _)
  ·have HL:Hid (Least (oq u) ⟨0,0,0⟩):=j22 HN.out;have s0:=(q22 HB.out).cell (i:=0) (by omega);have s1:=(q22 HB.out).cell (i:=1) (by omega);have s2:=(q22 HB.out).cell (i:=2) (by omega);have sz:=(q22 HB.out).frozen;go_wp2_with fail;refine aG (v:=nC ⟨0,0,0⟩) (by simp[results,Tryz.results26,go_sem,s0,s1,s2]) rfl ?_;exact iG.of HL (qF (nO HB) _ _ _)
end
end Go.Proofs.YthnkncpegihbhaaGreatDoor
