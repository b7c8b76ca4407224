import Derived.RowKit
import Derived.Shelf.Strings.OnBuilder
import Derived.Test.YthnkncpegihbhaaGreatDoorProg
import Derived.Test.YthnkncpegihbhaaGreatDoorXfA
import Derived.Test.YthnkncpegihbhaaGreatDoorItL
set_option maxRecDepth 100000
set_option maxHeartbeats 16000000
namespace Go.Proofs.YthnkncpegihbhaaGreatDoor
section
open Go.RowKit Go.Shelf
def qw6:Go.Shelf.Ren:=⟨fun|156=>289|165=>329|166=>330|169=>331|240=>353|241=>354|276=>383|277=>384|n=>n,fun|31=>25|9=>9|3=>3|4=>4|0=>0|20=>20|72=>399|76=>400|70=>397|37=>22|75=>132|127=>420|164=>144|5=>5|80=>198|n=>n,fun|n=>n⟩
theorem lays156:Go.Proofs.Lays.n156 Tryz.prog qw6:={
 mixed:=by kernel_rfl
 f156:=Tryz.func289.trans (congrArg some (by kernel_rfl))
 f165:=Tryz.func329.trans (congrArg some (by kernel_rfl))
 f166:=Tryz.func330.trans (congrArg some (by kernel_rfl))
 f169:=Tryz.func331.trans (congrArg some (by kernel_rfl))
 f240:=Tryz.func353.trans (congrArg some (by kernel_rfl))
 f241:=Tryz.func354.trans (congrArg some (by kernel_rfl))
 f276:=Tryz.func383.trans (congrArg some (by kernel_rfl))
 f277:=Tryz.func384.trans (congrArg some (by kernel_rfl))
 t0:=Tryz.underlying0
 a0:=Tryz.isAgg0
 z0:=Tryz.sizeOf0
 v0:=Tryz.zeroValue0
 t3:=Tryz.underlying3
 a3:=Tryz.isAgg3
 z3:=Tryz.sizeOf3
 v3:=Tryz.zeroValue3
 t4:=Tryz.underlying4
 a4:=Tryz.isAgg4
 z4:=Tryz.sizeOf4
 v4:=Tryz.zeroValue4
 t9:=Tryz.underlying9
 a9:=Tryz.isAgg9
 z9:=Tryz.sizeOf9
 v9:=Tryz.zeroValue9
 t20:=Tryz.underlying20
 a20:=Tryz.isAgg20
 z20:=Tryz.sizeOf20
 v20:=Tryz.zeroValue20
 t31:=Tryz.underlying25
 a31:=Tryz.isAgg25
 z31:=Tryz.sizeOf25
 v31:=Tryz.zeroValue25
 t37:=Tryz.underlying22
 a37:=Tryz.isAgg22
 z37:=Tryz.sizeOf22
 v37:=Tryz.zeroValue22
 t70:=Tryz.underlying397
 a70:=Tryz.isAgg397
 z70:=Tryz.sizeOf397
 v70:=Tryz.zeroValue397
 t72:=Tryz.underlying399
 a72:=Tryz.isAgg399
 z72:=Tryz.sizeOf399
 v72:=Tryz.zeroValue399
 t75:=Tryz.underlying132
 a75:=Tryz.isAgg132
 z75:=Tryz.sizeOf132
 v75:=Tryz.zeroValue132
 t76:=Tryz.underlying400
 a76:=Tryz.isAgg400
 z76:=Tryz.sizeOf400
 v76:=Tryz.zeroValue400
 t127:=Tryz.underlying420
 a127:=Tryz.isAgg420
 z127:=Tryz.sizeOf420
 v127:=Tryz.zeroValue420
 t164:=Tryz.underlying144
 a164:=Tryz.isAgg144
 z164:=Tryz.sizeOf144
 v164:=Tryz.zeroValue144}
theorem jd4:Builder.Extra Tryz.prog qw6:={
 sizeBuilder:=by kernel_rfl
 liesBuilder:=by kernel_rfl
 t5:=Tryz.underlying5
 a5:=Tryz.isAgg5
 z5:=Tryz.sizeOf5
 v5:=Tryz.zeroValue5
 infoByte:=by kernel_rfl
 cellsByte:=by kernel_rfl
 sizeByte:=by kernel_rfl
 neB5:=by decide}
theorem zo3(bk o c:Nat)(xs:List ByteArray)(sep:ByteArray)(w:World)(hcells:∀(j:Nat) x,xs[j]?=some x->w.cell? ⟨bk,o+j,none⟩=some (.string x))(hbk:bk<w.heap.size)(hN:xs.length<=140737488355328)(gy:xs.length<=c)(gG:(Lib.join (xs.map (·.data.toList)) sep.data.toList).length<=140737488355328):Calls Tryz.prog 289 #[.slice (some ⟨bk,o,none⟩) xs.length c,.string sep] w fun e w'=>e=.returned (.string ⟨(Lib.join (xs.map (·.data.toList)) sep.data.toList).toArray⟩)/\Below w.heap.size w w':=
 Any.strings_Join lays156 jd4 bk o c xs sep w hcells hbk hN gy gG
end
section
open Go.RowKit
attribute [local go_sem] iD
attribute [local go_sem ↓] Go.wp_at_zero Go.wp_at_succ
def PN(X:RX):Prop:=∀u,Gx (fun k=>k=X.M\/X.W.heap.size<=k) X.W u->lN u
theorem St.Y6{X:RX}{d:MD}{u:World}(h:St X d u):∃g,d.fa=some ⟨g,0,none⟩/\g<u.heap.size/\X.fl<=d.fc/\u.cell? ⟨g,X.fl-1,none⟩=some (ptr X.F):=by
 have hc:=h.fw;rcases h.fw.2 with⟨e,h0⟩|⟨g,cap,cur,e,_,hg,h5,_⟩
 ·have:=h.x.f0;omega
 ·obtain⟨e1,e3⟩:d.fa=some ⟨g,0,none⟩/\d.fc=cap:=by simpa using e
  refine⟨g,e1,(aA.1 hg).1,by omega,?_⟩;have hcs:=hc.cells (g:=g) (by rw[e1];rfl) (X.fl-1) _ h.r0;generalize X.fl-1=j at hcs
  cases j<;>simpa[Addr.add] using hcs
theorem y15(X:RX)(d:MD)(u:World)(h:St X d u):Calls Tryz.prog 233 #[ptr X.T] u fun e w'=>e=.returned (.tuple #[.int .i64 X.fn,.int .i64 d.line])/\gZ u w':=by
 have t7:u.cell? ⟨X.T,7,none⟩=some (.slice d.fa X.fl d.fc):=h.t.1.cell 7 rfl;have f1:u.cell? ⟨X.F,1,none⟩=some (.int .i64 X.fn):=h.f.1.cell 1 rfl;have f12:u.cell? ⟨X.F,12,none⟩=some (.int .i64 d.line):=h.f.1.cell 12 rfl;obtain⟨g,e1,_,gy,r0⟩:=h.Y6;have h0:=h.x.f0;have h2:=h.x.f2;obtain⟨q,hq⟩:∃q,X.fl=q+1:=⟨X.fl-1,by omega⟩;rw[hq] at t7 r0;rw[e1] at t7;have r1:u.cell? ⟨g,q,none⟩=some (ptr X.F):=r0;have hw:IntKind.i64.wrap (q:Int)=(q:Int):=RH (by omega);have hq0:(0:Int)<=(q:Int):=aS _;have hne:(((q:Int)+1)==0)=false:=by simp;omega
 go_in;go_wp2_with fail
 go_region_with fail
 all_goals go_wp2_with fail
 all_goals go_region_with fail
 all_goals go_wp2_with fail
 all_goals first
  |(go_ret;exact⟨rfl,(ay _ _).drew.drew⟩)
  |exact aG (v:=.tuple #[.int .i64 X.fn,.int .i64 d.line]) (by simp[results,Tryz.results233,go_sem]) rfl ⟨rfl,(ay _ _).drew.drew⟩
theorem Zl:(Tryz.prog.info? 9).map (fun i=>(i.zero,i.size,i.bytes))=some (some (.string ⟨#[]⟩),1,16):=by kernel_rfl
def Ic(tx:VD->ByteArray)(l:List VD):List Value:=l.map fun v=>.string (tx v)
def mQ(tx:VD->ByteArray)(l:List VD):ByteArray:=⟨(Lib.join ((l.map tx).map (·.data.toList)) [32]).toArray⟩
def zK(X:RX)(tx:VD->ByteArray)(l:List VD):Prop:=∀v∈l,∀w,Gx (fun k=>k=X.M\/X.W.heap.size<=k) X.W w->Calls Tryz.prog 60 #[v.v] w fun e w'=>e=.returned (.string (tx v))/\gZ w w'
theorem zm5(X:RX)(d:MD)(g c n:Nat)(l:List VD)(tx:VD->ByteArray)(u:World)(h:St X d u)(hT:zK X tx l)(hg:Bl X d u g l)(hn:l.length=n)(h1:1<=n)(h2:n<=1000)(hj:(mQ tx l).size<=4000)(hl:d.recs.length<5000):Calls Tryz.prog 297 #[ptr X.M,.slice (some ⟨g,0,none⟩) n c] u fun e w'=>e=.returned (.tuple #[])/\To X d u (d.p.D8 ⟨6,0,X.fn,d.line,mQ tx l⟩) w':=by
 have HS:Hid (St X d u):=h;have HT:Hid (zK X tx l):=hT;have HG:Hid (Bl X d u g l):=hg;have HN:Hid (l.length=n/\1<=n/\n<=1000/\(mQ tx l).size<=4000):=⟨hn,h1,h2,hj⟩;obtain⟨RN,htx⟩:∃s,mQ tx l=s:=⟨_,rfl⟩;have HX:Hid (mQ tx l=RN):=htx;rw[htx];go_in;go_wp2_with fail
 go_loopw [4,12] (fun t i wr=>∃(j c5:Nat) (a5:Option Addr),i=.int .i64 (j:Int)/\t=.slice a5 j c5/\j<=n/\Hid (wr.ownsRow u.heap.size 9 1 (.slice a5 j c5) j (Ic tx (l.take j))/\gZ u wr)) (fun _ i _=>n-(intOf i).toNat)
 case atStart=>exact⟨0,0,none,rfl,rfl,aF _,aX _ _ _ _,ay _ _⟩
 case round=>
  obtain⟨j,c5,a5,rfl,rfl,hj,HR⟩:=hrel;by_cases hjn:j=n
  ·as_aux_lemma=>
    subst hjn;have e0:((j:Int)<(j:Int))=False:=by simp
    have H1:Hid (Sp X d u d wr):=Sp.below HS.out HR.2;obtain⟨g5,rfl,hc5,gy,gK⟩:∃g5,a5=some ⟨g5,0,none⟩/\(∀(i:Nat) x,(l.map tx)[i]?=some x->wr.cell? ⟨g5,0+i,none⟩=some (.string x))/\j<=c5/\g5<wr.heap.size:=by
     have gB:=HR.1;rcases HR.1.2 with⟨e,h0⟩|⟨g5,cap,cur,e,_,hg5,h5,_⟩
     ·have:=HN.2.1;omega
     ·obtain⟨e1,e3⟩:a5=some ⟨g5,0,none⟩/\c5=cap:=by simpa using e
      subst e1 e3;refine⟨g5,rfl,fun i x hx=>?_,h5,(aA.1 hg5).1⟩;have hl:l.take j=l:=List.take_of_length_le (by have:=HN.1;omega);rw[hl] at gB;have:=gB.cells (g:=g5) rfl i (.string x) (by
       obtain⟨v,hv,rfl⟩:∃v,l[i]?=some v/\tx v=x:=by simpa using hx
       simp[Ic,hv])
      cases i<;>simpa[Addr.add] using this
    have HJ:Hid ((∀(i:Nat) x,(l.map tx)[i]?=some x->wr.cell? ⟨g5,0+i,none⟩=some (.string x))/\j<=c5/\g5<wr.heap.size):=⟨hc5,gy,gK⟩;have hln:(l.map tx).length=j:=by rw[dK];exact HN.1
    have hJ:=zo3 g5 0 c5 (l.map tx) ⟨#[32]⟩ wr HJ.1 HJ.2.2 (by rw[hln];have:=HN.out;omega) (by rw[hln];exact HJ.2.1) (by
     have h4:=HN.2.2.2;have:(mQ tx l).size=(Lib.join ((l.map tx).map (·.data.toList)) [32]).length:=by simp[mQ,ByteArray.size]
     show(Lib.join ((l.map tx).map (·.data.toList)) [32]).length<=_;omega)
    rw[hln] at hJ;have HJc:Hid (Calls Tryz.prog 289 #[.slice (some ⟨g5,0,none⟩) j c5,.string ⟨#[32]⟩] wr fun e w'=>e=.returned (.string RN)/\gZ wr w'):=by rw[<-HX.out];exact hJ
    have hsz:¬(4000:Int)<(RN.size:Int):=by have:=HN.2.2.2;rw[HX.out] at this;omega
    go_wp2_with fail;refine HJc.mono ?_;rintro e w2 ⟨rfl,eG⟩;have H2:Hid (Sp X d u d w2):=H1.call eG;have m23:=H2.s.m.1.cell 23 rfl;go_wp2_with fail;refine(y15 X d _ H2.s).mono ?_;rintro e w3 ⟨rfl,eH⟩;have H3:Hid (Sp X d u d w3):=H2.call eH;go_wp2_with fail;refine(qq1 X d 6 X.fn d.line RN _ H3.s hl).mono ?_;rintro e w4 ⟨rfl,Xt⟩;have HF:Hid _:=To.step H3.out Xt;go_wp2_with fail;go_end0;exact⟨rfl,HF⟩
  ·as_aux_lemma=>
    obtain⟨v,hv⟩:∃v,Hid (l[j]?=some v):=⟨l[j]'(by have:=HN.out;omega),aP.2 ⟨by have:=HN.out;omega,rfl⟩⟩;have gK:(j:Int)<(n:Int):=by omega
    have h0:(0:Int)<=(j:Int):=aS _;have hgw:=HG.step (Sp.below HS.out HR.2);have hat:=hgw.at hv.out;have c0:wr.cell? ⟨g,j*5,none⟩=some (.int .i64 v.k):=hat 0 _ rfl;have c1:=hat 1 _ rfl;have c2:=hat 2 _ rfl;have c3:=hat 3 _ rfl;have c4:=hat 4 _ rfl;have lg:=hgw.1.1;have HTx:Hid (Calls Tryz.prog 60 #[v.v] (wr.alloc (.cells (vA v) 61)) fun e w'=>e=.returned (.string (tx v))/\Below (wr.alloc (.cells (vA v) 61)).heap.size (wr.alloc (.cells (vA v) 61)) w'):=HT.out v (List.mem_of_getElem? hv.out) _ ((Sp.below HS.out HR.2).s.alloc _).k;have HJ2:Hid (j<n/\j<=n):=⟨by omega,hj⟩;go_wp2_with fail;refine HTx.mono ?_;rintro e w1 ⟨rfl,eu⟩;have fB:Hid (gZ wr w1):=iq (q01 _ _) eu;obtain⟨i0,gU,gQ,hy1,hy2⟩:=bT Zl;obtain⟨v',w7,gq,gB,gY,hnil,_⟩:=run_append_own_at (P:=Tryz.prog) (w1.alloc (.cells #[.string (tx v)] 9)) u.heap.size 25 25 9 i0 _ 1 16 Tryz.underlying25 gU gQ hy1 hy2 rfl (by decide) (.slice a5 j c5) j (Ic tx (l.take j)) (q35 (q35 HR.1 fB.out) (q01 _ _)) ⟨w1.heap.size,0,none⟩ 1 1 [.string (tx v)] rfl (cell_one_new _ _ _) (by simp[Value.oneCell']) (by unfold maxLen;have:=HN.out;have:=HJ2.out;omega) (by have:=HN.out;have:=HJ2.out;omega) (by have:=HR.2.size;have:=fB.size;simp;omega);have xw:Hid (gZ u w7):=((HR.2.trans (fB.mono HR.2.size)).alloc (aV HR.2.size fB.size) _).grown gY (by have:=HR.2.size;have:=fB.size;simp;omega) (fun k e=>(HR.1.lt k e).1);obtain⟨a7,c7,rfl⟩:=zO gB;have HO:Hid (w7.ownsRow u.heap.size 9 1 (.slice a7 (j+1) c7) (j+1) (Ic tx (l.take (j+1)))):=by
     have e:Ic tx (l.take (j+1))=Ic tx (l.take j)++[.string (tx v)]:=by
      rw[List.take_add_one,hv.out];simp[Ic]
     rw[e];exact gB
    go_wp2_with (at_builtin;refine um (by rfl) _ _ _ _ (by rfl) (.slice a5 j c5) (.slice (some ⟨w1.heap.size,0,none⟩) 1 1) _ _ (by rfl) (by rfl) gq ?_);go_roundw
    case rel=>exact⟨j+1,c7,a7,by simp,rfl,HJ2.1,HO.out,xw.out⟩
    case measure=>have:=HJ2.out;simp[intOf];omega
end
end Go.Proofs.YthnkncpegihbhaaGreatDoor
