import Derived.RowKit
import Derived.Shelf.Strings.OnBuilder
import Derived.Test.YtaimofjekgnieaaGreatDoorProg
import Derived.Test.YtaimofjekgnieaaGreatDoorGnK
import Derived.Test.YtaimofjekgnieaaGreatDoorItL
set_option maxRecDepth 100000
set_option maxHeartbeats 16000000
namespace Go.Proofs.YtaimofjekgnieaaGreatDoor
open Go.RowKit Go.Shelf
def qq4:Go.Shelf.Ren:=⟨fun|156=>284|165=>324|166=>325|169=>326|240=>348|241=>349|276=>378|277=>379|n=>n,fun|31=>25|9=>9|3=>3|4=>4|0=>0|20=>20|72=>396|76=>397|70=>394|37=>22|75=>128|127=>417|164=>141|5=>5|80=>192|n=>n,fun|n=>n⟩
theorem lays156:Go.Proofs.Lays.n156 Tryz.prog qq4:={
 mixed:=by kernel_rfl
 f156:=Tryz.func284.trans (congrArg some (by kernel_rfl))
 f165:=Tryz.func324.trans (congrArg some (by kernel_rfl))
 f166:=Tryz.func325.trans (congrArg some (by kernel_rfl))
 f169:=Tryz.func326.trans (congrArg some (by kernel_rfl))
 f240:=Tryz.func348.trans (congrArg some (by kernel_rfl))
 f241:=Tryz.func349.trans (congrArg some (by kernel_rfl))
 f276:=Tryz.func378.trans (congrArg some (by kernel_rfl))
 f277:=Tryz.func379.trans (congrArg some (by kernel_rfl))
 t0:=Tryz.underlying0
 a0:=Tryz.isAgg0
 z0:=Tryz.sizeOf0
 v0:=Tryz.zeroValue0
 t3:=Tryz.underlying3
 a3:=Tryz.isAgg3
 z3:=Tryz.sizeOf3
 v3:=Tryz.zeroValue3
 t4:=Tryz.underlying4
 a4:=Tryz.isAgg4
 z4:=Tryz.sizeOf4
 v4:=Tryz.zeroValue4
 t9:=Tryz.underlying9
 a9:=Tryz.isAgg9
 z9:=Tryz.sizeOf9
 v9:=Tryz.zeroValue9
 t20:=Tryz.underlying20
 a20:=Tryz.isAgg20
 z20:=Tryz.sizeOf20
 v20:=Tryz.zeroValue20
 t31:=Tryz.underlying25
 a31:=Tryz.isAgg25
 z31:=Tryz.sizeOf25
 v31:=Tryz.zeroValue25
 t37:=Tryz.underlying22
 a37:=Tryz.isAgg22
 z37:=Tryz.sizeOf22
 v37:=Tryz.zeroValue22
 t70:=Tryz.underlying394
 a70:=Tryz.isAgg394
 z70:=Tryz.sizeOf394
 v70:=Tryz.zeroValue394
 t72:=Tryz.underlying396
 a72:=Tryz.isAgg396
 z72:=Tryz.sizeOf396
 v72:=Tryz.zeroValue396
 t75:=Tryz.underlying128
 a75:=Tryz.isAgg128
 z75:=Tryz.sizeOf128
 v75:=Tryz.zeroValue128
 t76:=Tryz.underlying397
 a76:=Tryz.isAgg397
 z76:=Tryz.sizeOf397
 v76:=Tryz.zeroValue397
 t127:=Tryz.underlying417
 a127:=Tryz.isAgg417
 z127:=Tryz.sizeOf417
 v127:=Tryz.zeroValue417
 t164:=Tryz.underlying141
 a164:=Tryz.isAgg141
 z164:=Tryz.sizeOf141
 v164:=Tryz.zeroValue141}
theorem yp9:Builder.Extra Tryz.prog qq4:={
 sizeBuilder:=by kernel_rfl
 liesBuilder:=by kernel_rfl
 t5:=Tryz.underlying5
 a5:=Tryz.isAgg5
 z5:=Tryz.sizeOf5
 v5:=Tryz.zeroValue5
 infoByte:=by kernel_rfl
 cellsByte:=by kernel_rfl
 sizeByte:=by kernel_rfl
 neB5:=by decide}
theorem qq9 (bk o c:Nat) (xs:List ByteArray) (sep:ByteArray) (w:World) (hcells:∀ (j:Nat) x,xs[j]?=some x->w.cell? ⟨bk,o+j,none⟩=some (.string x)) (hbk:bk<w.heap.size) (hN:xs.length<=140737488355328) (hcap:xs.length<=c)
  (hlen:(Lib.join (xs.map (·.data.toList)) sep.data.toList).length<=140737488355328) :
  Calls Tryz.prog 284 #[.slice (some ⟨bk,o,none⟩) xs.length c,.string sep] w fun e w'=>e=.returned (.string ⟨(Lib.join (xs.map (·.data.toList)) sep.data.toList).toArray⟩)/\Below w.heap.size w w':=
 Any.strings_Join lays156 yp9 bk o c xs sep w hcells hbk hN hcap hlen
end Go.Proofs.YtaimofjekgnieaaGreatDoor
namespace Go.Proofs.YtaimofjekgnieaaGreatDoor
open Go.RowKit
attribute [local go_sem] q00
attribute [local go_sem ↓] Go.wp_at_zero Go.wp_at_succ
def TabX (X:RX):Prop:=∀ u,Gx (fun k=>k=X.M\/X.W.heap.size<=k) X.W u->TabP u
theorem St.frAt {X:RX} {d:MD} {u:World} (h:St X d u):∃ g,d.fa=some ⟨g,0,none⟩/\g<u.heap.size/\X.fl<=d.fc/\u.cell? ⟨g,X.fl-1,none⟩=some (ptr X.F):=by
 have hc:=h.fw
 rcases h.fw.2 with ⟨e,h0⟩|⟨g,cap,cur,e,_,hg,h5,_⟩
 ·have:=h.x.f0;omega
 ·obtain ⟨e1,e3⟩:d.fa=some ⟨g,0,none⟩/\d.fc=cap:=by simpa using e
  refine ⟨g,e1,(Array.getElem?_eq_some_iff.1 hg).1,by omega,?_⟩
  have hcs:=hc.cells (g:=g) (by rw[e1];rfl) (X.fl-1) _ h.r0
  generalize X.fl-1=j at hcs
  cases j<;>simpa[Addr.add] using hcs
theorem qk3 (X:RX) (d:MD) (u:World) (h:St X d u) :
  Calls Tryz.prog 228 #[ptr X.T] u fun e w'=>e=.returned (.tuple #[.int .i64 X.fn,.int .i64 d.line])/\Below u.heap.size u w':=by
 have t7:u.cell? ⟨X.T,7,none⟩=some (.slice d.fa X.fl d.fc):=h.t.1.cell 7 rfl
 have f1:u.cell? ⟨X.F,1,none⟩=some (.int .i64 X.fn):=h.f.1.cell 1 rfl
 have f12:u.cell? ⟨X.F,12,none⟩=some (.int .i64 d.line):=h.f.1.cell 12 rfl
 obtain ⟨g,e1,_,hcap,r0⟩:=h.frAt
 have h0:=h.x.f0
 have h2:=h.x.f2
 obtain ⟨q,hq⟩:∃ q,X.fl=q+1:=⟨X.fl-1,by omega⟩
 rw[hq] at t7 r0
 rw[e1] at t7
 have r1:u.cell? ⟨g,q,none⟩=some (ptr X.F):=r0
 have hw:IntKind.i64.wrap (q:Int)=(q:Int):=zs1 (by omega)
 have hq0:(0:Int)<=(q:Int):=Int.natCast_nonneg _
 have hne:(((q:Int)+1)==0)=false:=by simp;omega
 clear h e1 hcap r0 h0 h2 hq
 go_enter Tryz.func228,Tryz.ntmps228
 go_wp2_with fail
 go_region_with fail
 all_goals go_wp2_with fail
 all_goals go_region_with fail
 all_goals go_wp2_with fail
 all_goals first
  |(go_ret;exact ⟨rfl,(Below.refl _ _).drew.drew⟩)
  |exact bodyPost_ret (v:=.tuple #[.int .i64 X.fn,.int .i64 d.line]) (by simp[results,Tryz.results228,go_sem]) rfl ⟨rfl,(Below.refl _ _).drew.drew⟩
theorem z24:(Tryz.prog.info? 9).map (fun i=>(i.zero,i.size,i.bytes))=some (some (.string ⟨#[]⟩),1,16):=by kernel_rfl
def txL (tx:VD->ByteArray) (l:List VD):List Value:=l.map fun v=>.string (tx v)
def q43 (tx:VD->ByteArray) (l:List VD):ByteArray:=⟨(Lib.join ((l.map tx).map (·.data.toList)) [32]).toArray⟩
def zr7 (X:RX) (tx:VD->ByteArray) (l:List VD):Prop:=∀ v∈l,∀ w,Gx (fun k=>k=X.M\/X.W.heap.size<=k) X.W w->Calls Tryz.prog 58 #[v.v] w fun e w'=>e=.returned (.string (tx v))/\Below w.heap.size w w'
theorem zf4 (X:RX) (d:MD) (g c n:Nat) (l:List VD) (tx:VD->ByteArray) (u:World) (h:St X d u) (hT:zr7 X tx l) (hg:Bl X d u g l) (hn:l.length=n) (h1:1<=n) (h2:n<=1000) (hj:(q43 tx l).size<=4000) (hl:d.recs.length<5000) :
  Calls Tryz.prog 292 #[ptr X.M,.slice (some ⟨g,0,none⟩) n c] u fun e w'=>e=.returned (.tuple #[])/\To X d u (d.p.rcd ⟨6,0,X.fn,d.line,q43 tx l⟩) w':=by
 have HS:Hid (St X d u):=h
 have HT:Hid (zr7 X tx l):=hT
 have HG:Hid (Bl X d u g l):=hg
 have HN:Hid (l.length=n/\1<=n/\n<=1000/\(q43 tx l).size<=4000):=⟨hn,h1,h2,hj⟩
 obtain ⟨tx5,htx⟩:∃ s,q43 tx l=s:=⟨_,rfl⟩
 have HX:Hid (q43 tx l=tx5):=htx
 rw[htx]
 clear h hT hg hn h1 hj htx
 go_enter Tryz.func292,Tryz.ntmps292
 go_wp2_with fail
 go_loopw [4,12] (fun t i wr=>∃ (j c5:Nat) (a5:Option Addr),i=.int .i64 (j:Int)/\t=.slice a5 j c5/\j<=n/\Hid (wr.ownsRow u.heap.size 9 1 (.slice a5 j c5) j (txL tx (l.take j))/\Below u.heap.size u wr)) (fun _ i _=>n-(intOf i).toNat)
 case atStart=>exact ⟨0,0,none,rfl,rfl,Nat.zero_le _,World.ownsRow_nil _ _ _ _,Below.refl _ _⟩
 case round=>
  obtain ⟨j,c5,a5,rfl,rfl,hj,HR⟩:=hrel
  by_cases hjn:j=n
  ·as_aux_lemma=>
    subst hjn
    have e0:((j:Int)<(j:Int))=False:=by simp
    have H1:Hid (Sp X d u d wr):=Sp.below HS.out HR.out.2
    obtain ⟨g5,rfl,hc5,hcap,hlt⟩:∃ g5,a5=some ⟨g5,0,none⟩/\(∀ (i:Nat) x,(l.map tx)[i]?=some x->wr.cell? ⟨g5,0+i,none⟩=some (.string x))/\j<=c5/\g5<wr.heap.size:=by
     have hown:=HR.out.1
     rcases HR.out.1.2 with ⟨e,h0⟩|⟨g5,cap,cur,e,_,hg5,h5,_⟩
     ·have:=HN.out.2.1;omega
     ·obtain ⟨e1,e3⟩:a5=some ⟨g5,0,none⟩/\c5=cap:=by simpa using e
      subst e1 e3
      refine ⟨g5,rfl,fun i x hx=>?_,h5,(Array.getElem?_eq_some_iff.1 hg5).1⟩
      have hl:l.take j=l:=List.take_of_length_le (by have:=HN.out.1;omega)
      rw[hl] at hown
      have:=hown.cells (g:=g5) rfl i (.string x) (by
       obtain ⟨v,hv,rfl⟩:∃ v,l[i]?=some v/\tx v=x:=by simpa using hx
       simp[txL,hv])
      cases i<;>simpa[Addr.add] using this
    have HJ:Hid ((∀ (i:Nat) x,(l.map tx)[i]?=some x->wr.cell? ⟨g5,0+i,none⟩=some (.string x))/\j<=c5/\g5<wr.heap.size):=⟨hc5,hcap,hlt⟩
    have hln:(l.map tx).length=j:=by rw[List.length_map];exact HN.out.1
    have hJ:=qq9 g5 0 c5 (l.map tx) ⟨#[32]⟩ wr HJ.out.1 HJ.out.2.2 (by rw[hln];have:=HN.out;omega) (by rw[hln];exact HJ.out.2.1) (by
     have h4:=HN.out.2.2.2
     have:(q43 tx l).size=(Lib.join ((l.map tx).map (·.data.toList)) [32]).length:=by simp[q43,ByteArray.size]
     show (Lib.join ((l.map tx).map (·.data.toList)) [32]).length<=_
     omega)
    rw[hln] at hJ
    have HJc:Hid (Calls Tryz.prog 284 #[.slice (some ⟨g5,0,none⟩) j c5,.string ⟨#[32]⟩] wr fun e w'=>e=.returned (.string tx5)/\Below wr.heap.size wr w'):=by rw[<-HX.out];exact hJ
    have hsz:¬(4000:Int)<(tx5.size:Int):=by have:=HN.out.2.2.2;rw[HX.out] at this;omega
    clear hc5 hcap hlt HR hj hJ hln HJ
    go_wp2_with fail
    refine HJc.out.mono ?_
    rintro e w2 ⟨rfl,hb2⟩
    have H2:Hid (Sp X d u d w2):=H1.out.call hb2
    have m23:=H2.out.s.m.1.cell 23 rfl
    clear hb2
    go_wp2_with fail
    refine (qk3 X d _ H2.out.s).mono ?_
    rintro e w3 ⟨rfl,hb3⟩
    have H3:Hid (Sp X d u d w3):=H2.out.call hb3
    clear hb3 m23
    go_wp2_with fail
    refine (q31 X d 6 X.fn d.line tx5 _ H3.out.s hl).mono ?_
    rintro e w4 ⟨rfl,ht4⟩
    have HF:Hid _:=To.step H3.out ht4
    clear ht4
    go_wp2_with fail
    go_end0
    exact ⟨rfl,HF.out⟩
  ·as_aux_lemma=>
    obtain ⟨v,hv⟩:∃ v,Hid (l[j]?=some v):=⟨l[j]'(by have:=HN.out;omega),List.getElem?_eq_some_iff.2 ⟨by have:=HN.out;omega,rfl⟩⟩
    have hlt:(j:Int)<(n:Int):=by omega
    have h0:(0:Int)<=(j:Int):=Int.natCast_nonneg _
    have hgw:=HG.out.step (Sp.below HS.out HR.out.2)
    have hat:=hgw.at hv.out
    have c0:wr.cell? ⟨g,j*5,none⟩=some (.int .i64 v.k):=hat 0 _ rfl
    have c1:=hat 1 _ rfl
    have c2:=hat 2 _ rfl
    have c3:=hat 3 _ rfl
    have c4:=hat 4 _ rfl
    have lg:=hgw.1.1
    have HTx:Hid (Calls Tryz.prog 58 #[v.v] (wr.alloc (.cells (vA v) 113)) fun e w'=>e=.returned (.string (tx v))/\Below (wr.alloc (.cells (vA v) 113)).heap.size (wr.alloc (.cells (vA v) 113)) w'):=HT.out v (List.mem_of_getElem? hv.out) _ ((Sp.below HS.out HR.out.2).s.alloc _).k
    have HJ2:Hid (j<n/\j<=n):=⟨by omega,hj⟩
    clear hgw hat hj hjn
    go_wp2_with fail
    refine HTx.out.mono ?_
    rintro e w1 ⟨rfl,hb1⟩
    have HB1:Hid (Below wr.heap.size wr w1):=q02 (q01 _ _) hb1
    clear hb1 HTx c0 c1 c2 c3 c4 lg
    obtain ⟨i0,hi0,hy0,hy1,hy2⟩:=info_parts z24
    obtain ⟨v',w7,happ,hown,hgrow,hnil,_⟩:=run_append_own_at (P:=Tryz.prog) (w1.alloc (.cells #[.string (tx v)] 9)) u.heap.size 25 25 9 i0 _ 1 16 Tryz.underlying25 hi0 hy0 hy1 hy2 rfl (by decide) (.slice a5 j c5) j (txL tx (l.take j)) (q18 (q18 HR.out.1 HB1.out) (q01 _ _)) ⟨w1.heap.size,0,none⟩ 1 1 [.string (tx v)] rfl (cell_one_new _ _ _) (by simp[Value.oneCell']) (by unfold maxLen;have:=HN.out;have:=HJ2.out;omega) (by have:=HN.out;have:=HJ2.out;omega) (by have:=HR.out.2.size;have:=HB1.out.size;simp;omega)
    have HB7:Hid (Below u.heap.size u w7):=((HR.out.2.trans (HB1.out.mono HR.out.2.size)).alloc (Nat.le_trans HR.out.2.size HB1.out.size) _).grown hgrow (by have:=HR.out.2.size;have:=HB1.out.size;simp;omega) (fun k e=>(HR.out.1.lt k e).1)
    obtain ⟨a7,c7,rfl⟩:=q33 hown
    have HO:Hid (w7.ownsRow u.heap.size 9 1 (.slice a7 (j+1) c7) (j+1) (txL tx (l.take (j+1)))):=by
     have e:txL tx (l.take (j+1))=txL tx (l.take j)++[.string (tx v)]:=by
      rw[List.take_add_one,hv.out]
      simp[txL]
     rw[e]
     exact hown
    clear hown hgrow hnil HB1 HR
    go_wp2_with (at_builtin;refine q25 (by rfl) _ _ _ _ (by rfl) (.slice a5 j c5) (.slice (some ⟨w1.heap.size,0,none⟩) 1 1) _ _ (by rfl) (by rfl) happ ?_)
    go_roundw
    case rel=>exact ⟨j+1,c7,a7,by simp,rfl,HJ2.out.1,HO.out,HB7.out⟩
    case measure=>have:=HJ2.out;simp[intOf];omega
end Go.Proofs.YtaimofjekgnieaaGreatDoor
