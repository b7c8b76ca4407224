import Derived.Test.YtaimofjekgnieaaGreatDoorDcA
import Derived.Lib.SmallJoins
import Derived.Shelf.Strconv.Itoa3
import Derived.Test.YtaimofjekgnieaaGreatDoorGives
import Derived.Shelf.Strconv.Itoa4
set_option maxRecDepth 100000
set_option maxHeartbeats 16000000
namespace Go.Proofs.YtaimofjekgnieaaGreatDoor
open Go.RowKit Go.Shelf
def zy4:Go.Shelf.Ren:=⟨fun|171=>283|243=>323|246=>347|283=>374|284=>375|285=>376|286=>377|129=>405|317=>404|318=>406|319=>407|320=>408|337=>423|338=>424|n=>n,fun|3=>3|9=>9|2=>2|4=>4|171=>438|0=>0|53=>74|37=>22|5=>5|173=>441|212=>458|51=>77|20=>20|213=>459|46=>139|232=>473|233=>474|n=>n,fun|17=>6|18=>7|19=>8|n=>n⟩
theorem yq0:Go.Proofs.LaysM.n171 Tryz.prog zy4:={
 mixed:=by kernel_rfl
 f129:=Tryz.func405.trans (congrArg some (by kernel_rfl))
 f171:=Tryz.func283.trans (congrArg some (by kernel_rfl))
 f243:=Tryz.func323.trans (congrArg some (by kernel_rfl))
 f246:=Tryz.func347.trans (congrArg some (by kernel_rfl))
 f283:=Tryz.func374.trans (congrArg some (by kernel_rfl))
 f284:=Tryz.func375.trans (congrArg some (by kernel_rfl))
 f285:=Tryz.func376.trans (congrArg some (by kernel_rfl))
 f286:=Tryz.func377.trans (congrArg some (by kernel_rfl))
 f317:=Tryz.func404.trans (congrArg some (by kernel_rfl))
 f318:=Tryz.func406.trans (congrArg some (by kernel_rfl))
 f319:=Tryz.func407.trans (congrArg some (by kernel_rfl))
 f320:=Tryz.func408.trans (congrArg some (by kernel_rfl))
 f337:=Tryz.func423.trans (congrArg some (by kernel_rfl))
 f338:=Tryz.func424.trans (congrArg some (by kernel_rfl))
 t0:=Tryz.underlying0
 a0:=Tryz.isAgg0
 z0:=Tryz.sizeOf0
 v0:=Tryz.zeroValue0
 t2:=Tryz.underlying2
 a2:=Tryz.isAgg2
 z2:=Tryz.sizeOf2
 v2:=Tryz.zeroValue2
 t3:=Tryz.underlying3
 a3:=Tryz.isAgg3
 z3:=Tryz.sizeOf3
 v3:=Tryz.zeroValue3
 t4:=Tryz.underlying4
 a4:=Tryz.isAgg4
 z4:=Tryz.sizeOf4
 v4:=Tryz.zeroValue4
 t5:=Tryz.underlying5
 a5:=Tryz.isAgg5
 z5:=Tryz.sizeOf5
 v5:=Tryz.zeroValue5
 t9:=Tryz.underlying9
 a9:=Tryz.isAgg9
 z9:=Tryz.sizeOf9
 v9:=Tryz.zeroValue9
 t20:=Tryz.underlying20
 a20:=Tryz.isAgg20
 z20:=Tryz.sizeOf20
 v20:=Tryz.zeroValue20
 t37:=Tryz.underlying22
 a37:=Tryz.isAgg22
 z37:=Tryz.sizeOf22
 v37:=Tryz.zeroValue22
 t46:=Tryz.underlying139
 a46:=Tryz.isAgg139
 z46:=Tryz.sizeOf139
 v46:=Tryz.zeroValue139
 t51:=Tryz.underlying77
 a51:=Tryz.isAgg77
 z51:=Tryz.sizeOf77
 v51:=Tryz.zeroValue77
 t53:=Tryz.underlying74
 a53:=Tryz.isAgg74
 z53:=Tryz.sizeOf74
 v53:=Tryz.zeroValue74
 t171:=Tryz.underlying438
 a171:=Tryz.isAgg438
 z171:=Tryz.sizeOf438
 v171:=Tryz.zeroValue438
 t173:=Tryz.underlying441
 a173:=Tryz.isAgg441
 z173:=Tryz.sizeOf441
 v173:=Tryz.zeroValue441
 t212:=Tryz.underlying458
 a212:=Tryz.isAgg458
 z212:=Tryz.sizeOf458
 v212:=Tryz.zeroValue458
 t213:=Tryz.underlying459
 a213:=Tryz.isAgg459
 z213:=Tryz.sizeOf459
 t232:=Tryz.underlying473
 a232:=Tryz.isAgg473
 z232:=Tryz.sizeOf473
 v232:=Tryz.zeroValue473
 t233:=Tryz.underlying474
 a233:=Tryz.isAgg474
 z233:=Tryz.sizeOf474
 v233:=Tryz.zeroValue474
 g17:=by kernel_rfl
 g18:=by kernel_rfl
 g19:=by kernel_rfl
 i0:=by kernel_rfl
 i2:=by kernel_rfl
 i3:=by kernel_rfl
 i4:=by kernel_rfl
 i5:=by kernel_rfl
 i9:=by kernel_rfl
 i20:=by kernel_rfl
 i37:=by kernel_rfl
 i46:=by kernel_rfl
 i51:=by kernel_rfl
 i53:=by kernel_rfl
 i171:=by kernel_rfl
 i173:=by kernel_rfl
 i212:=by kernel_rfl
 i232:=by kernel_rfl
 i233:=by kernel_rfl
 m17:=by kernel_rfl
 m18:=by kernel_rfl
 m19:=by kernel_rfl}
abbrev TabP (w:World):Prop:=Lib.TabIs Tryz.prog w "internal/strconv.uint64pow10" .u64 Lib.pow10Tab
theorem gPow:Tryz.prog.globalNamed "internal/strconv.uint64pow10" = some 6:=by kernel_rfl
theorem TabP.keep {w w':World} {B:Nat} (h:TabP w) (hb:Below B w w') (hB:w.heap.size<=B):TabP w':=Joins.tab_stays gPow h hb hB
theorem qf3 (n:Int) (w:World) (hn:I64r n) (hT:TabP w) :
  Calls Tryz.prog 283 #[.int .i64 n] w fun e w'=>e=.returned (.string (bA (decB n)))/\Below w.heap.size w w':=by
 refine Calls.mono (Any.strconv_Itoa yq0 n hn.1 hn.2 w hT) fun e w' ⟨he,k,os,hw⟩=>⟨by rw[he,zb7 n hn];rfl,?_⟩
 rw[hw]
 refine ⟨rfl,rfl,rfl,by simp[Sort.grow],fun i hi=>?_⟩
 simp[Sort.grow,World.drewN,Array.getElem?_append_left hi]
def y76:Go.Shelf.Ren:=⟨fun|173=>483|246=>347|283=>374|284=>375|285=>376|286=>377|129=>405|317=>404|318=>406|319=>407|320=>408|337=>423|338=>424|n=>n,fun|3=>3|9=>9|2=>2|4=>4|171=>438|0=>0|53=>74|37=>22|5=>5|173=>441|212=>458|51=>77|20=>20|213=>459|46=>139|232=>473|233=>474|n=>n,fun|17=>6|18=>7|19=>8|n=>n⟩
theorem fmtL:Go.Proofs.LaysM.n173 Tryz.prog y76:={
 mixed:=by kernel_rfl
 f129:=Tryz.func405.trans (congrArg some (by kernel_rfl))
 f173:=Tryz.func483.trans (congrArg some (by kernel_rfl))
 f246:=Tryz.func347.trans (congrArg some (by kernel_rfl))
 f283:=Tryz.func374.trans (congrArg some (by kernel_rfl))
 f284:=Tryz.func375.trans (congrArg some (by kernel_rfl))
 f285:=Tryz.func376.trans (congrArg some (by kernel_rfl))
 f286:=Tryz.func377.trans (congrArg some (by kernel_rfl))
 f317:=Tryz.func404.trans (congrArg some (by kernel_rfl))
 f318:=Tryz.func406.trans (congrArg some (by kernel_rfl))
 f319:=Tryz.func407.trans (congrArg some (by kernel_rfl))
 f320:=Tryz.func408.trans (congrArg some (by kernel_rfl))
 f337:=Tryz.func423.trans (congrArg some (by kernel_rfl))
 f338:=Tryz.func424.trans (congrArg some (by kernel_rfl))
 t0:=Tryz.underlying0
 a0:=Tryz.isAgg0
 z0:=Tryz.sizeOf0
 v0:=Tryz.zeroValue0
 t2:=Tryz.underlying2
 a2:=Tryz.isAgg2
 z2:=Tryz.sizeOf2
 v2:=Tryz.zeroValue2
 t3:=Tryz.underlying3
 a3:=Tryz.isAgg3
 z3:=Tryz.sizeOf3
 v3:=Tryz.zeroValue3
 t4:=Tryz.underlying4
 a4:=Tryz.isAgg4
 z4:=Tryz.sizeOf4
 v4:=Tryz.zeroValue4
 t5:=Tryz.underlying5
 a5:=Tryz.isAgg5
 z5:=Tryz.sizeOf5
 v5:=Tryz.zeroValue5
 t9:=Tryz.underlying9
 a9:=Tryz.isAgg9
 z9:=Tryz.sizeOf9
 v9:=Tryz.zeroValue9
 t20:=Tryz.underlying20
 a20:=Tryz.isAgg20
 z20:=Tryz.sizeOf20
 v20:=Tryz.zeroValue20
 t37:=Tryz.underlying22
 a37:=Tryz.isAgg22
 z37:=Tryz.sizeOf22
 v37:=Tryz.zeroValue22
 t46:=Tryz.underlying139
 a46:=Tryz.isAgg139
 z46:=Tryz.sizeOf139
 v46:=Tryz.zeroValue139
 t51:=Tryz.underlying77
 a51:=Tryz.isAgg77
 z51:=Tryz.sizeOf77
 v51:=Tryz.zeroValue77
 t53:=Tryz.underlying74
 a53:=Tryz.isAgg74
 z53:=Tryz.sizeOf74
 v53:=Tryz.zeroValue74
 t171:=Tryz.underlying438
 a171:=Tryz.isAgg438
 z171:=Tryz.sizeOf438
 v171:=Tryz.zeroValue438
 t173:=Tryz.underlying441
 a173:=Tryz.isAgg441
 z173:=Tryz.sizeOf441
 v173:=Tryz.zeroValue441
 t212:=Tryz.underlying458
 a212:=Tryz.isAgg458
 z212:=Tryz.sizeOf458
 v212:=Tryz.zeroValue458
 t213:=Tryz.underlying459
 a213:=Tryz.isAgg459
 z213:=Tryz.sizeOf459
 t232:=Tryz.underlying473
 a232:=Tryz.isAgg473
 z232:=Tryz.sizeOf473
 v232:=Tryz.zeroValue473
 t233:=Tryz.underlying474
 a233:=Tryz.isAgg474
 z233:=Tryz.sizeOf474
 v233:=Tryz.zeroValue474
 g17:=by kernel_rfl
 g18:=by kernel_rfl
 g19:=by kernel_rfl
 i0:=by kernel_rfl
 i2:=by kernel_rfl
 i3:=by kernel_rfl
 i4:=by kernel_rfl
 i5:=by kernel_rfl
 i9:=by kernel_rfl
 i20:=by kernel_rfl
 i37:=by kernel_rfl
 i46:=by kernel_rfl
 i51:=by kernel_rfl
 i53:=by kernel_rfl
 i171:=by kernel_rfl
 i173:=by kernel_rfl
 i212:=by kernel_rfl
 i232:=by kernel_rfl
 i233:=by kernel_rfl
 m17:=by kernel_rfl
 m18:=by kernel_rfl
 m19:=by kernel_rfl}
theorem y03 (n:Int) (w:World) (hn:I64r n) (hT:TabP w) :
  Calls Tryz.prog 483 #[.int .i64 n,.int .i64 10] w fun e w'=>e=.returned (.string (bA (decB n)))/\Below w.heap.size w w':=by
 refine Calls.mono (Any.strconv_FormatInt_10 fmtL n hn.1 hn.2 w hT) fun e w' ⟨he,k,os,hw⟩=>⟨by rw[he,zb7 n hn];rfl,?_⟩
 rw[hw]
 refine ⟨rfl,rfl,rfl,by simp[Sort.grow],fun i hi=>?_⟩
 simp[Sort.grow,World.drewN,Array.getElem?_append_left hi]
theorem zd6 (n:Int) (w:World) (hn:I64r n) (hT:TabP w) :
  Calls Tryz.prog 482 #[.int .i64 n] w fun e w'=>e=.returned (.string (bA (decB n)))/\Below w.heap.size w w':=by
 have HT:Hid (TabP w):=hT
 clear hT
 go_enter Tryz.func482,Tryz.ntmps482
 go_wp2_with fail
 refine (y03 n _ hn HT.out).mono ?_
 rintro e w1 ⟨rfl,hb⟩
 go_wp2_with fail
 go_ret
 exact ⟨rfl,hb⟩
theorem yc7 (n:Int):thW 2 n 0 ⟨#[]⟩ 0=.iface 245 (.int .i64 n):=by
 have h1:fz 0=true:=by decide
 have h2:se ⟨#[]⟩=true:=by first|rfl|kernel_rfl|simp[se]
 simp[thW,okB,thV,ueB,usB,h1,h2]
theorem qv5 (n:Int) (w:World) (hn:I64r n) (hT:TabP w) :
  Calls Tryz.prog 58 #[vOf 2 n 0 ⟨#[]⟩ 0] w fun e w'=>e=.returned (.string (bA (decB n)))/\Below w.heap.size w w':=by
 have HT:Hid (TabP w):=hT
 clear hT
 go_enter Tryz.func58,Tryz.ntmps58
 go_wp2_with fail
 refine (qz0 2 n 0 ⟨#[]⟩ 0 _).mono ?_
 rw[yc7]
 rintro e w1 ⟨rfl,hb⟩
 have HB:Hid (Below w.heap.size w w1):=q02 (q01 _ _) hb
 have hb2:Below (w.alloc (.cells #[.int .i64 2,.int .i64 n,.float .f64 0,.string ⟨#[]⟩,.int .i64 0] 113)).heap.size _ w1:=hb
 have HT1:Hid (TabP w1):=TabP.keep HT.out HB.out (Nat.le_refl _)
 clear hb hb2
 have hm:(method 609 245 (.int .i64 n) "loop.example/meaning/impl.text").run Tryz.prog w1=.ok (482,.int .i64 n) w1:=by kernel_rfl
 go_wp2_with fail
 refine (zd6 n _ hn HT1.out).mono ?_
 rintro e w2 ⟨rfl,hb2⟩
 go_wp2_with fail
 go_ret
 exact ⟨rfl,q02 HB.out hb2⟩
end Go.Proofs.YtaimofjekgnieaaGreatDoor
