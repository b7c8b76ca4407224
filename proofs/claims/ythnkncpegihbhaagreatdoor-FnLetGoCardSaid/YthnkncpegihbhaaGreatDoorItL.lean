import Derived.Test.YthnkncpegihbhaaGreatDoorOwA
import Derived.Lib.SmallJoins
import Derived.Shelf.Strconv.Itoa3
import Derived.Shelf.Strconv.Itoa4
set_option maxRecDepth 100000
set_option maxHeartbeats 16000000
namespace Go.Proofs.YthnkncpegihbhaaGreatDoor
section
open Go.RowKit Go.Shelf
abbrev lN(w:World):Prop:=Lib.TabIs Tryz.prog w "internal/strconv.uint64pow10" .u64 Lib.pow10Tab
theorem Pn:Tryz.prog.globalNamed "internal/strconv.uint64pow10" = some 6:=by kernel_rfl
theorem lN.keep{w w':World}{B:Nat}(h:lN w)(hb:Below B w w')(hB:w.heap.size<=B):lN w':=Joins.tab_stays Pn h hb hB
def yn2:Go.Shelf.Ren:=⟨fun|173=>488|246=>352|283=>379|284=>380|285=>381|286=>382|129=>410|317=>409|318=>411|319=>412|320=>413|337=>428|338=>429|n=>n,fun|3=>3|9=>9|2=>2|4=>4|171=>440|0=>0|53=>78|37=>22|5=>5|173=>443|212=>460|51=>81|20=>20|213=>461|46=>142|232=>475|233=>476|n=>n,fun|17=>6|18=>7|19=>8|n=>n⟩
theorem Y8:Go.Proofs.LaysM.n173 Tryz.prog yn2:={
 mixed:=by kernel_rfl
 f129:=Tryz.func410.trans (aJ some (by kernel_rfl))
 f173:=Tryz.func488.trans (aJ some (by kernel_rfl))
 f246:=Tryz.func352.trans (aJ some (by kernel_rfl))
 f283:=Tryz.func379.trans (aJ some (by kernel_rfl))
 f284:=Tryz.func380.trans (aJ some (by kernel_rfl))
 f285:=Tryz.func381.trans (aJ some (by kernel_rfl))
 f286:=Tryz.func382.trans (aJ some (by kernel_rfl))
 f317:=Tryz.func409.trans (aJ some (by kernel_rfl))
 f318:=Tryz.func411.trans (aJ some (by kernel_rfl))
 f319:=Tryz.func412.trans (aJ some (by kernel_rfl))
 f320:=Tryz.func413.trans (aJ some (by kernel_rfl))
 f337:=Tryz.func428.trans (aJ some (by kernel_rfl))
 f338:=Tryz.func429.trans (aJ some (by kernel_rfl))
 t0:=Tryz.underlying0
 a0:=Tryz.isAgg0
 z0:=Tryz.sizeOf0
 v0:=Tryz.zeroValue0
 t2:=Tryz.underlying2
 a2:=Tryz.isAgg2
 z2:=Tryz.sizeOf2
 v2:=Tryz.zeroValue2
 t3:=Tryz.underlying3
 a3:=Tryz.isAgg3
 z3:=Tryz.sizeOf3
 v3:=Tryz.zeroValue3
 t4:=Tryz.underlying4
 a4:=Tryz.isAgg4
 z4:=Tryz.sizeOf4
 v4:=Tryz.zeroValue4
 t5:=Tryz.underlying5
 a5:=Tryz.isAgg5
 z5:=Tryz.sizeOf5
 v5:=Tryz.zeroValue5
 t9:=Tryz.underlying9
 a9:=Tryz.isAgg9
 z9:=Tryz.sizeOf9
 v9:=Tryz.zeroValue9
 t20:=Tryz.underlying20
 a20:=Tryz.isAgg20
 z20:=Tryz.sizeOf20
 v20:=Tryz.zeroValue20
 t37:=Tryz.underlying22
 a37:=Tryz.isAgg22
 z37:=Tryz.sizeOf22
 v37:=Tryz.zeroValue22
 t46:=Tryz.underlying142
 a46:=Tryz.isAgg142
 z46:=Tryz.sizeOf142
 v46:=Tryz.zeroValue142
 t51:=Tryz.underlying81
 a51:=Tryz.isAgg81
 z51:=Tryz.sizeOf81
 v51:=Tryz.zeroValue81
 t53:=Tryz.underlying78
 a53:=Tryz.isAgg78
 z53:=Tryz.sizeOf78
 v53:=Tryz.zeroValue78
 t171:=Tryz.underlying440
 a171:=Tryz.isAgg440
 z171:=Tryz.sizeOf440
 v171:=Tryz.zeroValue440
 t173:=Tryz.underlying443
 a173:=Tryz.isAgg443
 z173:=Tryz.sizeOf443
 v173:=Tryz.zeroValue443
 t212:=Tryz.underlying460
 a212:=Tryz.isAgg460
 z212:=Tryz.sizeOf460
 v212:=Tryz.zeroValue460
 t213:=Tryz.underlying461
 a213:=Tryz.isAgg461
 z213:=Tryz.sizeOf461
 t232:=Tryz.underlying475
 a232:=Tryz.isAgg475
 z232:=Tryz.sizeOf475
 v232:=Tryz.zeroValue475
 t233:=Tryz.underlying476
 a233:=Tryz.isAgg476
 z233:=Tryz.sizeOf476
 v233:=Tryz.zeroValue476
 g17:=by kernel_rfl
 g18:=by kernel_rfl
 g19:=by kernel_rfl
 i0:=by kernel_rfl
 i2:=by kernel_rfl
 i3:=by kernel_rfl
 i4:=by kernel_rfl
 i5:=by kernel_rfl
 i9:=by kernel_rfl
 i20:=by kernel_rfl
 i37:=by kernel_rfl
 i46:=by kernel_rfl
 i51:=by kernel_rfl
 i53:=by kernel_rfl
 i171:=by kernel_rfl
 i173:=by kernel_rfl
 i212:=by kernel_rfl
 i232:=by kernel_rfl
 i233:=by kernel_rfl
 m17:=by kernel_rfl
 m18:=by kernel_rfl
 m19:=by kernel_rfl}
theorem yd4(n:Int)(w:World)(hn:Ac n)(hT:lN w):Calls Tryz.prog 488 #[.int .i64 n,.int .i64 10] w fun e w'=>e=.returned (.string (bA (kS n)))/\gZ w w':=by
 refine dV (Any.strconv_FormatInt_10 Y8 n hn.1 hn.2 w hT) fun e w' ⟨he,k,os,hw⟩=>⟨by rw[he,ye2 n hn];rfl,?_⟩;rw[hw];refine⟨rfl,rfl,rfl,by simp[Sort.grow],fun i hi=>?_⟩;simp[Sort.grow,World.drewN,Array.getElem?_append_left hi]
theorem zk3(n:Int)(w:World)(hn:Ac n)(hT:lN w):Calls Tryz.prog 487 #[.int .i64 n] w fun e w'=>e=.returned (.string (bA (kS n)))/\gZ w w':=by
 have HT:Hid (lN w):=hT;go_in;go_wp2_with fail;refine(yd4 n _ hn HT).mono ?_;rintro e w1 ⟨rfl,hb⟩;go_wp2_with fail;go_ret;exact⟨rfl,hb⟩
theorem yw6(n:Int):kE 2 n 0 ⟨#[]⟩ 0=.iface 250 (.int .i64 n):=by
 have h1:fz 0=true:=by decide
 have h2:se ⟨#[]⟩=true:=by first|rfl|kernel_rfl|simp[se]
 simp[kE,okB,uf,lY,nH,h1,h2]
theorem zx4(n:Int)(w:World)(hn:Ac n)(hT:lN w):Calls Tryz.prog 60 #[iJ 2 n 0 ⟨#[]⟩ 0] w fun e w'=>e=.returned (.string (bA (kS n)))/\gZ w w':=by
 have HT:Hid (lN w):=hT;go_in;go_wp2_with fail;refine(Zz 2 n 0 ⟨#[]⟩ 0 _).mono ?_;rw[yw6];rintro e w1 ⟨rfl,hb⟩;have HB:Hid (gZ w w1):=iq (q01 _ _) hb;have eG:Below (w.alloc (.cells #[.int .i64 2,.int .i64 n,.float .f64 0,.string ⟨#[]⟩,.int .i64 0] 61)).heap.size _ w1:=hb;have HT1:Hid (lN w1):=lN.keep HT.out HB.out (ah _);have hm:(method 610 250 (.int .i64 n) "loop.example/meaning/impl.text").run Tryz.prog w1=.ok (487,.int .i64 n) w1:=by kernel_rfl
 go_wp2_with fail;refine(zk3 n _ hn HT1).mono ?_;rintro e w2 ⟨rfl,eG⟩;go_wp2_with fail;go_ret;exact⟨rfl,iq HB eG⟩
end
end Go.Proofs.YthnkncpegihbhaaGreatDoor
