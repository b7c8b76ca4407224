import Derived.Test.YtihnikeikhjndaaGreatDoorOwA
import Derived.Lib.SmallJoins
import Derived.Shelf.Strconv.Itoa3
import Derived.Test.YtihnikeikhjndaaGreatDoorThing
import Derived.Shelf.Strconv.Itoa4
set_option maxRecDepth 100000
set_option maxHeartbeats 16000000
namespace Go.Proofs.YtihnikeikhjndaaGreatDoor
section
open Go.RowKit Go.Shelf
def Zr:Go.Shelf.Ren:=⟨fun|171=>290|243=>330|246=>354|283=>381|284=>382|285=>383|286=>384|129=>412|317=>411|318=>413|319=>414|320=>415|337=>430|338=>431|n=>n,fun|3=>3|9=>9|2=>2|4=>4|171=>440|0=>0|53=>70|37=>22|5=>5|173=>443|212=>460|51=>73|20=>20|213=>461|46=>138|232=>475|233=>476|n=>n,fun|17=>6|18=>7|19=>8|n=>n⟩
theorem yp8:Go.Proofs.LaysM.n171 Tryz.prog Zr:={
 mixed:=by kernel_rfl
 f129:=Tryz.func412.trans (congrArg some (by kernel_rfl))
 f171:=Tryz.func290.trans (congrArg some (by kernel_rfl))
 f243:=Tryz.func330.trans (congrArg some (by kernel_rfl))
 f246:=Tryz.func354.trans (congrArg some (by kernel_rfl))
 f283:=Tryz.func381.trans (congrArg some (by kernel_rfl))
 f284:=Tryz.func382.trans (congrArg some (by kernel_rfl))
 f285:=Tryz.func383.trans (congrArg some (by kernel_rfl))
 f286:=Tryz.func384.trans (congrArg some (by kernel_rfl))
 f317:=Tryz.func411.trans (congrArg some (by kernel_rfl))
 f318:=Tryz.func413.trans (congrArg some (by kernel_rfl))
 f319:=Tryz.func414.trans (congrArg some (by kernel_rfl))
 f320:=Tryz.func415.trans (congrArg some (by kernel_rfl))
 f337:=Tryz.func430.trans (congrArg some (by kernel_rfl))
 f338:=Tryz.func431.trans (congrArg some (by kernel_rfl))
 t0:=Tryz.underlying0
 a0:=Tryz.isAgg0
 z0:=Tryz.sizeOf0
 v0:=Tryz.zeroValue0
 t2:=Tryz.underlying2
 a2:=Tryz.isAgg2
 z2:=Tryz.sizeOf2
 v2:=Tryz.zeroValue2
 t3:=Tryz.underlying3
 a3:=Tryz.isAgg3
 z3:=Tryz.sizeOf3
 v3:=Tryz.zeroValue3
 t4:=Tryz.underlying4
 a4:=Tryz.isAgg4
 z4:=Tryz.sizeOf4
 v4:=Tryz.zeroValue4
 t5:=Tryz.underlying5
 a5:=Tryz.isAgg5
 z5:=Tryz.sizeOf5
 v5:=Tryz.zeroValue5
 t9:=Tryz.underlying9
 a9:=Tryz.isAgg9
 z9:=Tryz.sizeOf9
 v9:=Tryz.zeroValue9
 t20:=Tryz.underlying20
 a20:=Tryz.isAgg20
 z20:=Tryz.sizeOf20
 v20:=Tryz.zeroValue20
 t37:=Tryz.underlying22
 a37:=Tryz.isAgg22
 z37:=Tryz.sizeOf22
 v37:=Tryz.zeroValue22
 t46:=Tryz.underlying138
 a46:=Tryz.isAgg138
 z46:=Tryz.sizeOf138
 v46:=Tryz.zeroValue138
 t51:=Tryz.underlying73
 a51:=Tryz.isAgg73
 z51:=Tryz.sizeOf73
 v51:=Tryz.zeroValue73
 t53:=Tryz.underlying70
 a53:=Tryz.isAgg70
 z53:=Tryz.sizeOf70
 v53:=Tryz.zeroValue70
 t171:=Tryz.underlying440
 a171:=Tryz.isAgg440
 z171:=Tryz.sizeOf440
 v171:=Tryz.zeroValue440
 t173:=Tryz.underlying443
 a173:=Tryz.isAgg443
 z173:=Tryz.sizeOf443
 v173:=Tryz.zeroValue443
 t212:=Tryz.underlying460
 a212:=Tryz.isAgg460
 z212:=Tryz.sizeOf460
 v212:=Tryz.zeroValue460
 t213:=Tryz.underlying461
 a213:=Tryz.isAgg461
 z213:=Tryz.sizeOf461
 t232:=Tryz.underlying475
 a232:=Tryz.isAgg475
 z232:=Tryz.sizeOf475
 v232:=Tryz.zeroValue475
 t233:=Tryz.underlying476
 a233:=Tryz.isAgg476
 z233:=Tryz.sizeOf476
 v233:=Tryz.zeroValue476
 g17:=by kernel_rfl
 g18:=by kernel_rfl
 g19:=by kernel_rfl
 i0:=by kernel_rfl
 i2:=by kernel_rfl
 i3:=by kernel_rfl
 i4:=by kernel_rfl
 i5:=by kernel_rfl
 i9:=by kernel_rfl
 i20:=by kernel_rfl
 i37:=by kernel_rfl
 i46:=by kernel_rfl
 i51:=by kernel_rfl
 i53:=by kernel_rfl
 i171:=by kernel_rfl
 i173:=by kernel_rfl
 i212:=by kernel_rfl
 i232:=by kernel_rfl
 i233:=by kernel_rfl
 m17:=by kernel_rfl
 m18:=by kernel_rfl
 m19:=by kernel_rfl}
abbrev eU(w:World):Prop:=Lib.TabIs Tryz.prog w "internal/strconv.uint64pow10" .u64 Lib.pow10Tab
theorem J4:Tryz.prog.globalNamed "internal/strconv.uint64pow10" = some 6:=by kernel_rfl
theorem eU.keep{w w':World}{B:Nat}(h:eU w)(hb:Below B w w')(hB:w.heap.size<=B):eU w':=Joins.tab_stays J4 h hb hB
theorem Lm(n:Int)(w:World)(hn:dU n)(hT:eU w):Calls Tryz.prog 290 #[.int .i64 n] w fun e w'=>e=.returned (.string (bA (bI n)))/\ah w w':=by
 refine Calls.mono (Any.strconv_Itoa yp8 n hn.1 hn.2 w hT) fun e w' ⟨he,k,os,hw⟩=>⟨by rw[he,UL n hn];rfl,?_⟩;rw[hw];refine⟨rfl,rfl,rfl,by simp[Sort.grow],fun i hi=>?_⟩;simp[Sort.grow,World.drewN,Array.getElem?_append_left hi]
def y62:Go.Shelf.Ren:=⟨fun|173=>490|246=>354|283=>381|284=>382|285=>383|286=>384|129=>412|317=>411|318=>413|319=>414|320=>415|337=>430|338=>431|n=>n,fun|3=>3|9=>9|2=>2|4=>4|171=>440|0=>0|53=>70|37=>22|5=>5|173=>443|212=>460|51=>73|20=>20|213=>461|46=>138|232=>475|233=>476|n=>n,fun|17=>6|18=>7|19=>8|n=>n⟩
theorem Rj:Go.Proofs.LaysM.n173 Tryz.prog y62:={
 mixed:=by kernel_rfl
 f129:=Tryz.func412.trans (congrArg some (by kernel_rfl))
 f173:=Tryz.func490.trans (congrArg some (by kernel_rfl))
 f246:=Tryz.func354.trans (congrArg some (by kernel_rfl))
 f283:=Tryz.func381.trans (congrArg some (by kernel_rfl))
 f284:=Tryz.func382.trans (congrArg some (by kernel_rfl))
 f285:=Tryz.func383.trans (congrArg some (by kernel_rfl))
 f286:=Tryz.func384.trans (congrArg some (by kernel_rfl))
 f317:=Tryz.func411.trans (congrArg some (by kernel_rfl))
 f318:=Tryz.func413.trans (congrArg some (by kernel_rfl))
 f319:=Tryz.func414.trans (congrArg some (by kernel_rfl))
 f320:=Tryz.func415.trans (congrArg some (by kernel_rfl))
 f337:=Tryz.func430.trans (congrArg some (by kernel_rfl))
 f338:=Tryz.func431.trans (congrArg some (by kernel_rfl))
 t0:=Tryz.underlying0
 a0:=Tryz.isAgg0
 z0:=Tryz.sizeOf0
 v0:=Tryz.zeroValue0
 t2:=Tryz.underlying2
 a2:=Tryz.isAgg2
 z2:=Tryz.sizeOf2
 v2:=Tryz.zeroValue2
 t3:=Tryz.underlying3
 a3:=Tryz.isAgg3
 z3:=Tryz.sizeOf3
 v3:=Tryz.zeroValue3
 t4:=Tryz.underlying4
 a4:=Tryz.isAgg4
 z4:=Tryz.sizeOf4
 v4:=Tryz.zeroValue4
 t5:=Tryz.underlying5
 a5:=Tryz.isAgg5
 z5:=Tryz.sizeOf5
 v5:=Tryz.zeroValue5
 t9:=Tryz.underlying9
 a9:=Tryz.isAgg9
 z9:=Tryz.sizeOf9
 v9:=Tryz.zeroValue9
 t20:=Tryz.underlying20
 a20:=Tryz.isAgg20
 z20:=Tryz.sizeOf20
 v20:=Tryz.zeroValue20
 t37:=Tryz.underlying22
 a37:=Tryz.isAgg22
 z37:=Tryz.sizeOf22
 v37:=Tryz.zeroValue22
 t46:=Tryz.underlying138
 a46:=Tryz.isAgg138
 z46:=Tryz.sizeOf138
 v46:=Tryz.zeroValue138
 t51:=Tryz.underlying73
 a51:=Tryz.isAgg73
 z51:=Tryz.sizeOf73
 v51:=Tryz.zeroValue73
 t53:=Tryz.underlying70
 a53:=Tryz.isAgg70
 z53:=Tryz.sizeOf70
 v53:=Tryz.zeroValue70
 t171:=Tryz.underlying440
 a171:=Tryz.isAgg440
 z171:=Tryz.sizeOf440
 v171:=Tryz.zeroValue440
 t173:=Tryz.underlying443
 a173:=Tryz.isAgg443
 z173:=Tryz.sizeOf443
 v173:=Tryz.zeroValue443
 t212:=Tryz.underlying460
 a212:=Tryz.isAgg460
 z212:=Tryz.sizeOf460
 v212:=Tryz.zeroValue460
 t213:=Tryz.underlying461
 a213:=Tryz.isAgg461
 z213:=Tryz.sizeOf461
 t232:=Tryz.underlying475
 a232:=Tryz.isAgg475
 z232:=Tryz.sizeOf475
 v232:=Tryz.zeroValue475
 t233:=Tryz.underlying476
 a233:=Tryz.isAgg476
 z233:=Tryz.sizeOf476
 v233:=Tryz.zeroValue476
 g17:=by kernel_rfl
 g18:=by kernel_rfl
 g19:=by kernel_rfl
 i0:=by kernel_rfl
 i2:=by kernel_rfl
 i3:=by kernel_rfl
 i4:=by kernel_rfl
 i5:=by kernel_rfl
 i9:=by kernel_rfl
 i20:=by kernel_rfl
 i37:=by kernel_rfl
 i46:=by kernel_rfl
 i51:=by kernel_rfl
 i53:=by kernel_rfl
 i171:=by kernel_rfl
 i173:=by kernel_rfl
 i212:=by kernel_rfl
 i232:=by kernel_rfl
 i233:=by kernel_rfl
 m17:=by kernel_rfl
 m18:=by kernel_rfl
 m19:=by kernel_rfl}
theorem Zi(n:Int)(w:World)(hn:dU n)(hT:eU w):Calls Tryz.prog 490 #[.int .i64 n,.int .i64 10] w fun e w'=>e=.returned (.string (bA (bI n)))/\ah w w':=by
 refine Calls.mono (Any.strconv_FormatInt_10 Rj n hn.1 hn.2 w hT) fun e w' ⟨he,k,os,hw⟩=>⟨by rw[he,UL n hn];rfl,?_⟩;rw[hw];refine⟨rfl,rfl,rfl,by simp[Sort.grow],fun i hi=>?_⟩;simp[Sort.grow,World.drewN,Array.getElem?_append_left hi]
theorem za8(n:Int)(w:World)(hn:dU n)(hT:eU w):Calls Tryz.prog 489 #[.int .i64 n] w fun e w'=>e=.returned (.string (bA (bI n)))/\ah w w':=by
 have HT:Hid (eU w):=hT;clear hT;go_in;go_wp2_with fail;refine(Zi n _ hn HT).mono ?_;rintro e w1 ⟨rfl,hb⟩;go_wp2_with fail;go_ret;exact⟨rfl,hb⟩
theorem yc1(n:Int):fV 2 n 0 ⟨#[]⟩ 0=.iface 249 (.int .i64 n):=by
 have h1:fz 0=true:=by decide
 have h2:se ⟨#[]⟩=true:=by first|rfl|kernel_rfl|simp[se]
 simp[fV,okB,sH,fU,iG,h1,h2]
theorem Wv(n:Int)(w:World)(hn:dU n)(hT:eU w):Calls Tryz.prog 58 #[dI 2 n 0 ⟨#[]⟩ 0] w fun e w'=>e=.returned (.string (bA (bI n)))/\ah w w':=by
 have HT:Hid (eU w):=hT;clear hT;go_in;go_wp2_with fail;refine(OQ 2 n 0 ⟨#[]⟩ 0 _).mono ?_;rw[yc1];rintro e w1 ⟨rfl,hb⟩;have HB:Hid (ah w w1):=aH (q01 _ _) hb;have hb2:Below (w.alloc (.cells #[.int .i64 2,.int .i64 n,.float .f64 0,.string ⟨#[]⟩,.int .i64 0] 53)).heap.size _ w1:=hb;have HT1:Hid (eU w1):=eU.keep HT.out HB.out (Nat.le_refl _);clear hb hb2;have hm:(method 610 249 (.int .i64 n) "loop.example/meaning/impl.text").run Tryz.prog w1=.ok (489,.int .i64 n) w1:=by kernel_rfl
 go_wp2_with fail;refine(za8 n _ hn HT1).mono ?_;rintro e w2 ⟨rfl,hb2⟩;go_wp2_with fail;go_ret;exact⟨rfl,aH HB hb2⟩
end
end Go.Proofs.YtihnikeikhjndaaGreatDoor
