import Derived.RowKit
import Derived.Shelf.Strings.OnBuilder
import Derived.Test.YtihnikeikhjndaaGreatDoorProg
import Derived.Test.YtihnikeikhjndaaGreatDoorYnK
import Derived.Test.YtihnikeikhjndaaGreatDoorItL
set_option maxRecDepth 100000
set_option maxHeartbeats 16000000
namespace Go.Proofs.YtihnikeikhjndaaGreatDoor
section
open Go.RowKit Go.Shelf
def WG:Go.Shelf.Ren:=⟨fun|156=>291|165=>331|166=>332|169=>333|240=>355|241=>356|276=>385|277=>386|n=>n,fun|31=>25|9=>9|3=>3|4=>4|0=>0|20=>20|72=>399|76=>400|70=>397|37=>22|75=>128|127=>420|164=>140|5=>5|80=>198|n=>n,fun|n=>n⟩
theorem lays156:Go.Proofs.Lays.n156 Tryz.prog WG:={
 mixed:=by kernel_rfl
 f156:=Tryz.func291.trans (congrArg some (by kernel_rfl))
 f165:=Tryz.func331.trans (congrArg some (by kernel_rfl))
 f166:=Tryz.func332.trans (congrArg some (by kernel_rfl))
 f169:=Tryz.func333.trans (congrArg some (by kernel_rfl))
 f240:=Tryz.func355.trans (congrArg some (by kernel_rfl))
 f241:=Tryz.func356.trans (congrArg some (by kernel_rfl))
 f276:=Tryz.func385.trans (congrArg some (by kernel_rfl))
 f277:=Tryz.func386.trans (congrArg some (by kernel_rfl))
 t0:=Tryz.underlying0
 a0:=Tryz.isAgg0
 z0:=Tryz.sizeOf0
 v0:=Tryz.zeroValue0
 t3:=Tryz.underlying3
 a3:=Tryz.isAgg3
 z3:=Tryz.sizeOf3
 v3:=Tryz.zeroValue3
 t4:=Tryz.underlying4
 a4:=Tryz.isAgg4
 z4:=Tryz.sizeOf4
 v4:=Tryz.zeroValue4
 t9:=Tryz.underlying9
 a9:=Tryz.isAgg9
 z9:=Tryz.sizeOf9
 v9:=Tryz.zeroValue9
 t20:=Tryz.underlying20
 a20:=Tryz.isAgg20
 z20:=Tryz.sizeOf20
 v20:=Tryz.zeroValue20
 t31:=Tryz.underlying25
 a31:=Tryz.isAgg25
 z31:=Tryz.sizeOf25
 v31:=Tryz.zeroValue25
 t37:=Tryz.underlying22
 a37:=Tryz.isAgg22
 z37:=Tryz.sizeOf22
 v37:=Tryz.zeroValue22
 t70:=Tryz.underlying397
 a70:=Tryz.isAgg397
 z70:=Tryz.sizeOf397
 v70:=Tryz.zeroValue397
 t72:=Tryz.underlying399
 a72:=Tryz.isAgg399
 z72:=Tryz.sizeOf399
 v72:=Tryz.zeroValue399
 t75:=Tryz.underlying128
 a75:=Tryz.isAgg128
 z75:=Tryz.sizeOf128
 v75:=Tryz.zeroValue128
 t76:=Tryz.underlying400
 a76:=Tryz.isAgg400
 z76:=Tryz.sizeOf400
 v76:=Tryz.zeroValue400
 t127:=Tryz.underlying420
 a127:=Tryz.isAgg420
 z127:=Tryz.sizeOf420
 v127:=Tryz.zeroValue420
 t164:=Tryz.underlying140
 a164:=Tryz.isAgg140
 z164:=Tryz.sizeOf140
 v164:=Tryz.zeroValue140}
theorem yp6:Builder.Extra Tryz.prog WG:={
 sizeBuilder:=by kernel_rfl
 liesBuilder:=by kernel_rfl
 t5:=Tryz.underlying5
 a5:=Tryz.isAgg5
 z5:=Tryz.sizeOf5
 v5:=Tryz.zeroValue5
 infoByte:=by kernel_rfl
 cellsByte:=by kernel_rfl
 sizeByte:=by kernel_rfl
 neB5:=by decide}
theorem WE(bk o c:Nat)(xs:List ByteArray)(sep:ByteArray)(w:World)(hcells:∀(j:Nat) x,xs[j]?=some x->w.cell? ⟨bk,o+j,none⟩=some (.string x))(hbk:bk<w.heap.size)(hN:xs.length<=140737488355328)(hcap:xs.length<=c)(hlen:(Lib.join (xs.map (·.data.toList)) sep.data.toList).length<=140737488355328):Calls Tryz.prog 291 #[.slice (some ⟨bk,o,none⟩) xs.length c,.string sep] w fun e w'=>e=.returned (.string ⟨(Lib.join (xs.map (·.data.toList)) sep.data.toList).toArray⟩)/\Below w.heap.size w w':=
 Any.strings_Join lays156 yp6 bk o c xs sep w hcells hbk hN hcap hlen
end
section
open Go.RowKit
attribute [local go_sem] aN
attribute [local go_sem ↓] Go.wp_at_zero Go.wp_at_succ
def jV(X:RX):Prop:=∀u,Gx (fun k=>k=X.M\/X.W.heap.size<=k) X.W u->eU u
theorem St.J5{X:RX}{d:MD}{u:World}(h:St X d u):∃g,d.fa=some ⟨g,0,none⟩/\g<u.heap.size/\X.fl<=d.fc/\u.cell? ⟨g,X.fl-1,none⟩=some (ptr X.F):=by
 have hc:=h.fw;rcases h.fw.2 with⟨e,h0⟩|⟨g,cap,cur,e,_,hg,h5,_⟩
 ·have:=h.x.f0;omega
 ·obtain⟨e1,e3⟩:d.fa=some ⟨g,0,none⟩/\d.fc=cap:=by simpa using e
  refine⟨g,e1,(Array.getElem?_eq_some_iff.1 hg).1,by omega,?_⟩;have hcs:=hc.cells (g:=g) (by rw[e1];rfl) (X.fl-1) _ h.r0;generalize X.fl-1=j at hcs
  cases j<;>simpa[Addr.add] using hcs
theorem Ll(X:RX)(d:MD)(u:World)(h:St X d u):Calls Tryz.prog 235 #[ptr X.T] u fun e w'=>e=.returned (.tuple #[.int .i64 X.fn,.int .i64 d.line])/\ah u w':=by
 have t7:u.cell? ⟨X.T,7,none⟩=some (.slice d.fa X.fl d.fc):=h.t.1.cell 7 rfl;have f1:u.cell? ⟨X.F,1,none⟩=some (.int .i64 X.fn):=h.f.1.cell 1 rfl;have f12:u.cell? ⟨X.F,12,none⟩=some (.int .i64 d.line):=h.f.1.cell 12 rfl;obtain⟨g,e1,_,hcap,r0⟩:=h.J5;have h0:=h.x.f0;have h2:=h.x.f2;obtain⟨q,hq⟩:∃q,X.fl=q+1:=⟨X.fl-1,by omega⟩;rw[hq] at t7 r0;rw[e1] at t7;have r1:u.cell? ⟨g,q,none⟩=some (ptr X.F):=r0;have hw:IntKind.i64.wrap (q:Int)=(q:Int):=EJ (by omega);have hq0:(0:Int)<=(q:Int):=Int.natCast_nonneg _;have hne:(((q:Int)+1)==0)=false:=by simp;omega
 clear h e1 hcap r0 h0 h2 hq;go_in;go_wp2_with fail
 go_region_with fail
 all_goals go_wp2_with fail
 all_goals go_region_with fail
 all_goals go_wp2_with fail
 all_goals first
  |(go_ret;exact⟨rfl,(Below.refl _ _).drew.drew⟩)
  |exact bodyPost_ret (v:=.tuple #[.int .i64 X.fn,.int .i64 d.line]) (by simp[results,Tryz.results235,go_sem]) rfl ⟨rfl,(Below.refl _ _).drew.drew⟩
theorem O5:(Tryz.prog.info? 9).map (fun i=>(i.zero,i.size,i.bytes))=some (some (.string ⟨#[]⟩),1,16):=by kernel_rfl
def CV(tx:VD->ByteArray)(l:List VD):List Value:=l.map fun v=>.string (tx v)
def dM(tx:VD->ByteArray)(l:List VD):ByteArray:=⟨(Lib.join ((l.map tx).map (·.data.toList)) [32]).toArray⟩
def sK(X:RX)(tx:VD->ByteArray)(l:List VD):Prop:=∀v∈l,∀w,Gx (fun k=>k=X.M\/X.W.heap.size<=k) X.W w->Calls Tryz.prog 58 #[v.v] w fun e w'=>e=.returned (.string (tx v))/\ah w w'
theorem zc0(X:RX)(d:MD)(g c n:Nat)(l:List VD)(tx:VD->ByteArray)(u:World)(h:St X d u)(hT:sK X tx l)(hg:Bl X d u g l)(hn:l.length=n)(h1:1<=n)(h2:n<=1000)(hj:(dM tx l).size<=4000)(hl:d.recs.length<5000):Calls Tryz.prog 299 #[ptr X.M,.slice (some ⟨g,0,none⟩) n c] u fun e w'=>e=.returned (.tuple #[])/\To X d u (d.p.gU ⟨6,0,X.fn,d.line,dM tx l⟩) w':=by
 have HS:Hid (St X d u):=h;have HT:Hid (sK X tx l):=hT;have HG:Hid (Bl X d u g l):=hg;have HN:Hid (l.length=n/\1<=n/\n<=1000/\(dM tx l).size<=4000):=⟨hn,h1,h2,hj⟩;obtain⟨KQ,htx⟩:∃s,dM tx l=s:=⟨_,rfl⟩;have HX:Hid (dM tx l=KQ):=htx;rw[htx];clear h hT hg hn h1 hj htx;go_in;go_wp2_with fail
 go_loopw [4,12] (fun t i wr=>∃(j c5:Nat) (a5:Option Addr),i=.int .i64 (j:Int)/\t=.slice a5 j c5/\j<=n/\Hid (wr.ownsRow u.heap.size 9 1 (.slice a5 j c5) j (CV tx (l.take j))/\ah u wr)) (fun _ i _=>n-(intOf i).toNat)
 case atStart=>exact⟨0,0,none,rfl,rfl,Nat.zero_le _,World.ownsRow_nil _ _ _ _,Below.refl _ _⟩
 case round=>
  obtain⟨j,c5,a5,rfl,rfl,hj,HR⟩:=hrel;by_cases hjn:j=n
  ·as_aux_lemma=>
    subst hjn;have e0:((j:Int)<(j:Int))=False:=by simp
    have H1:Hid (Sp X d u d wr):=Sp.below HS.out HR.2;obtain⟨g5,rfl,hc5,hcap,hlt⟩:∃g5,a5=some ⟨g5,0,none⟩/\(∀(i:Nat) x,(l.map tx)[i]?=some x->wr.cell? ⟨g5,0+i,none⟩=some (.string x))/\j<=c5/\g5<wr.heap.size:=by
     have hown:=HR.1;rcases HR.1.2 with⟨e,h0⟩|⟨g5,cap,cur,e,_,hg5,h5,_⟩
     ·have:=HN.2.1;omega
     ·obtain⟨e1,e3⟩:a5=some ⟨g5,0,none⟩/\c5=cap:=by simpa using e
      subst e1 e3;refine⟨g5,rfl,fun i x hx=>?_,h5,(Array.getElem?_eq_some_iff.1 hg5).1⟩;have hl:l.take j=l:=List.take_of_length_le (by have:=HN.1;omega);rw[hl] at hown;have:=hown.cells (g:=g5) rfl i (.string x) (by
       obtain⟨v,hv,rfl⟩:∃v,l[i]?=some v/\tx v=x:=by simpa using hx
       simp[CV,hv])
      cases i<;>simpa[Addr.add] using this
    have HJ:Hid ((∀(i:Nat) x,(l.map tx)[i]?=some x->wr.cell? ⟨g5,0+i,none⟩=some (.string x))/\j<=c5/\g5<wr.heap.size):=⟨hc5,hcap,hlt⟩;have hln:(l.map tx).length=j:=by rw[List.length_map];exact HN.1
    have hJ:=WE g5 0 c5 (l.map tx) ⟨#[32]⟩ wr HJ.1 HJ.2.2 (by rw[hln];have:=HN.out;omega) (by rw[hln];exact HJ.2.1) (by
     have h4:=HN.2.2.2;have:(dM tx l).size=(Lib.join ((l.map tx).map (·.data.toList)) [32]).length:=by simp[dM,ByteArray.size]
     show(Lib.join ((l.map tx).map (·.data.toList)) [32]).length<=_;omega)
    rw[hln] at hJ;have HJc:Hid (Calls Tryz.prog 291 #[.slice (some ⟨g5,0,none⟩) j c5,.string ⟨#[32]⟩] wr fun e w'=>e=.returned (.string KQ)/\ah wr w'):=by rw[<-HX.out];exact hJ
    have hsz:¬(4000:Int)<(KQ.size:Int):=by have:=HN.2.2.2;rw[HX.out] at this;omega
    clear hc5 hcap hlt HR hj hJ hln HJ;go_wp2_with fail;refine HJc.mono ?_;rintro e w2 ⟨rfl,hb2⟩;have H2:Hid (Sp X d u d w2):=H1.call hb2;have m23:=H2.s.m.1.cell 23 rfl;clear hb2;go_wp2_with fail;refine(Ll X d _ H2.s).mono ?_;rintro e w3 ⟨rfl,hb3⟩;have H3:Hid (Sp X d u d w3):=H2.call hb3;clear hb3 m23;go_wp2_with fail;refine(Du X d 6 X.fn d.line KQ _ H3.s hl).mono ?_;rintro e w4 ⟨rfl,Xt⟩;have HF:Hid _:=To.step H3.out Xt;clear Xt;go_wp2_with fail;go_end0;exact⟨rfl,HF⟩
  ·as_aux_lemma=>
    obtain⟨v,hv⟩:∃v,Hid (l[j]?=some v):=⟨l[j]'(by have:=HN.out;omega),List.getElem?_eq_some_iff.2 ⟨by have:=HN.out;omega,rfl⟩⟩;have hlt:(j:Int)<(n:Int):=by omega
    have h0:(0:Int)<=(j:Int):=Int.natCast_nonneg _;have hgw:=HG.step (Sp.below HS.out HR.2);have hat:=hgw.at hv.out;have c0:wr.cell? ⟨g,j*5,none⟩=some (.int .i64 v.k):=hat 0 _ rfl;have c1:=hat 1 _ rfl;have c2:=hat 2 _ rfl;have c3:=hat 3 _ rfl;have c4:=hat 4 _ rfl;have lg:=hgw.1.1;have Yr:Hid (Calls Tryz.prog 58 #[v.v] (wr.alloc (.cells (vA v) 53)) fun e w'=>e=.returned (.string (tx v))/\Below (wr.alloc (.cells (vA v) 53)).heap.size (wr.alloc (.cells (vA v) 53)) w'):=HT.out v (List.mem_of_getElem? hv.out) _ ((Sp.below HS.out HR.2).s.alloc _).k;have HJ2:Hid (j<n/\j<=n):=⟨by omega,hj⟩;clear hgw hat hj hjn;go_wp2_with fail;refine Yr.mono ?_;rintro e w1 ⟨rfl,hb1⟩;have HB1:Hid (ah wr w1):=aH (q01 _ _) hb1;clear hb1 Yr c0 c1 c2 c3 c4 lg;obtain⟨i0,hi0,hy0,hy1,hy2⟩:=info_parts O5;obtain⟨v',w7,happ,hown,hgrow,hnil,_⟩:=run_append_own_at (P:=Tryz.prog) (w1.alloc (.cells #[.string (tx v)] 9)) u.heap.size 25 25 9 i0 _ 1 16 Tryz.underlying25 hi0 hy0 hy1 hy2 rfl (by decide) (.slice a5 j c5) j (CV tx (l.take j)) (mZ (mZ HR.1 HB1.out) (q01 _ _)) ⟨w1.heap.size,0,none⟩ 1 1 [.string (tx v)] rfl (cell_one_new _ _ _) (by simp[Value.oneCell']) (by unfold maxLen;have:=HN.out;have:=HJ2.out;omega) (by have:=HN.out;have:=HJ2.out;omega) (by have:=HR.2.size;have:=HB1.size;simp;omega);have tJ:Hid (ah u w7):=((HR.2.trans (HB1.mono HR.2.size)).alloc (Nat.le_trans HR.2.size HB1.size) _).grown hgrow (by have:=HR.2.size;have:=HB1.size;simp;omega) (fun k e=>(HR.1.lt k e).1);obtain⟨a7,c7,rfl⟩:=sU hown;have HO:Hid (w7.ownsRow u.heap.size 9 1 (.slice a7 (j+1) c7) (j+1) (CV tx (l.take (j+1)))):=by
     have e:CV tx (l.take (j+1))=CV tx (l.take j)++[.string (tx v)]:=by
      rw[List.take_add_one,hv.out];simp[CV]
     rw[e];exact hown
    clear hown hgrow hnil HB1 HR;go_wp2_with (at_builtin;refine q32 (by rfl) _ _ _ _ (by rfl) (.slice a5 j c5) (.slice (some ⟨w1.heap.size,0,none⟩) 1 1) _ _ (by rfl) (by rfl) happ ?_);go_roundw
    case rel=>exact⟨j+1,c7,a7,by simp,rfl,HJ2.1,HO.out,tJ.out⟩
    case measure=>have:=HJ2.out;simp[intOf];omega
theorem bP.step{X:RX}{d d1:MD}{u w1:World}{l:List VD}{q:DP}{e:Ending}{w':World}(h:bP X d1 w1 l q e w')(k:Sp X d u d1 w1):bP X d u l q e w':=by
 obtain⟨a,c,d',h1,h2,h3,h4,h5,h6⟩:=h;exact⟨a,c,d',h1,h2,h3,k.trans h4,h5,h6⟩
theorem bP.none{X:RX}{d:MD}{u:World}{q:DP}{w':World}(h:To X d u q w'):bP X d u [] q (.returned (.slice none 0 0)) w':=by
 obtain⟨d',h1,h2⟩:=h;exact⟨_,_,d',rfl,fun _=>⟨rfl,rfl⟩,fun e=>absurd rfl e,h1,h2,fun _ _ e=>absurd rfl e⟩
theorem kG.Ru{X:RX}{d:MD}{w:World}{N g c:Nat}{l:List VD}(h:kG N w g c l)(hn:¬stB X d g):Bl X d w g l/\l.length<=c:=⟨h.bl hn,h.cap⟩
theorem qt7(X:RX)(d:MD)(g c n:Nat)(l:List VD)(tx:VD->ByteArray)(u:World)(h:St X d u)(hT:sK X tx l)(hg:Bl X d u g l)(hn:l.length=n)(h1:1<=n)(h2:n<=1000)(hj:(dM tx l).size<=4000)(hl:d.recs.length<5000):Calls Tryz.prog 250 #[ptr X.M,.int .i64 0,.slice (some ⟨g,0,none⟩) n c] u fun e w'=>e=.returned (.slice none 0 0)/\To X d u (d.p.gU ⟨6,0,X.fn,d.line,dM tx l⟩) w':=by
 have HP:Hid (Calls Tryz.prog 299 #[ptr X.M,.slice (some ⟨g,0,none⟩) n c] u fun e w'=>e=.returned (.tuple #[])/\To X d u (d.p.gU ⟨6,0,X.fn,d.line,dM tx l⟩) w'):=zc0 X d g c n l tx u h hT hg hn h1 h2 hj hl;clear h hT hg hn h1 h2 hj hl;go_in;go_wp2_with fail;refine HP.mono ?_;rintro e w1 ⟨rfl,ht⟩;have HF:Hid _:=ht;clear ht;go_wp2_with fail;go_ret;exact⟨rfl,HF⟩
theorem Xe(X:RX)(d:MD)(g c n:Nat)(l:List VD)(tx:VD->ByteArray)(u:World)(h:St X d u)(ht:d.ti<X.tk)(hT:sK X tx l)(hg:Bl X d u g l)(hn:l.length=n)(h1:1<=n)(h2:n<=1000)(hj:(dM tx l).size<=4000)(hl:d.recs.length<5000):Calls Tryz.prog 200 #[ptr X.M,kE.v,.slice (some ⟨g,0,none⟩) n c] u fun e w'=>bP X d u [] (d.p.tick.gU ⟨6,0,X.fn,d.line,dM tx l⟩) e w':=by
 have HS:Hid (St X d u):=h;have HPr:Hid (∀d1 w1,Sp X d u d1 w1->d1.p=d.p.tick->Calls Tryz.prog 250 #[ptr X.M,.int .i64 0,.slice (some ⟨g,0,none⟩) n c] w1 fun e w'=>e=.returned (.slice none 0 0)/\To X d u (d.p.tick.gU ⟨6,0,X.fn,d.line,dM tx l⟩) w'):=fun d1 w1 k e1=>by
  have hr:d1.recs.length<5000:=by have:d1.recs=d.recs:=congrArg DP.recs e1;rw[this];exact hl
  have DL:d1.line=d.line:=congrArg DP.line e1;refine(qt7 X d1 g c n l tx w1 k.s hT (hg.step k) hn h1 h2 hj hr).mono ?_;rintro e w' ⟨rfl,ht⟩;rw[DL,e1] at ht;exact⟨rfl,To.step k ht⟩
 clear h hT hg hn h1 h2 hj hl;go_in;go_wp2_with fail;obtain⟨w1,hw1⟩:∃w1,u.alloc (.cells (vA kE) 53)=w1:=⟨_,rfl⟩;obtain⟨C,hC0⟩:∃C,u.heap.size=C:=⟨_,rfl⟩;have H1:Hid (Sp X d u d w1):=by rw[<-hw1];exact(Sp.refl HS).alloc _
 have HC:Hid (Bx X d w1 C (vA kE)):=by rw[<-hw1,<-hC0];exact Bx.new HS _ _
 rw[show u.alloc (.cells #[.int .i64 8,.int .i64 0,.float .f64 0,.string ⟨#[]⟩,.int .i64 0] 53)=w1 from hw1,hC0];clear hw1 hC0
 go_loopw [2,7] (fun a i wr=>a=.slice (some ⟨g,0,none⟩) n c/\i=.int .i64 0/\wr=w1) (fun _ _ _=>0)
 case atStart=>exact⟨rfl,rfl,rfl⟩
 case round=>
  obtain⟨rfl,rfl,rfl⟩:=hrel;go_wp2_with fail;refine(Pz X d _ H1.s ht).mono ?_;rintro e w2 ⟨rfl,d2,hs2,e2⟩;have H2:Hid (Sp X d u d2 w2/\d2.p=d.p.tick):=⟨H1.trans hs2,e2⟩;have HC2:Hid (Bx X d2 w2 C (vA kE)):=HC.step hs2;clear hs2 e2 H1 HC;have c0:=HC2.cell 0 rfl;have c1:=HC2.cell 1 rfl;go_wp2_with fail;refine(HPr d2 w2 H2.1 H2.2).mono ?_;rintro e w3 ⟨rfl,ht3⟩;have HF:Hid (bP X d u [] (d.p.tick.gU ⟨6,0,X.fn,d.line,dM tx l⟩) (.returned (.slice none 0 0)) w3):=bP.none ht3;clear ht3;go_wp2_with fail;go_ret;exact HF
theorem zo6(X:RX)(d:MD)(a1 a2 p1 p2 bb:Nat)(nd:Value)(cv:VD)(la:List VD)(l:List VD)(q1 q:DP)(u:World)(h:St X d u)(k1:Od X a1 #[AX p1 p2])(k2:Od X a2 #[ptr bb])(kb:Od X bb #[ptr X.M,nd])(hp:Calls Tryz.prog 248 #[ptr X.F,ptr p1,ptr p2] u fun e w'=>Di X d u cv la q1 e w')(hinv:∀g c d1 w1,Sp X d u d1 w1->d1.p=q1->Bl X d1 w1 g la->la.length<=c->Calls Tryz.prog 200 #[ptr X.M,cv.v,.slice (some ⟨g,0,none⟩) la.length c] w1 fun e w'=>bP X d1 w1 l q e w'):Calls Tryz.prog 199 #[ptr X.F,ptr a1,ptr a2] u fun e w'=>bP X d u l q e w':=by
 have HP:Hid (Calls Tryz.prog 248 #[ptr X.F,ptr p1,ptr p2] u fun e w'=>Di X d u cv la q1 e w'):=hp;have HI:Hid (∀g c d1 w1,Sp X d u d1 w1->d1.p=q1->Bl X d1 w1 g la->la.length<=c->Calls Tryz.prog 200 #[ptr X.M,cv.v,.slice (some ⟨g,0,none⟩) la.length c] w1 fun e w'=>bP X d1 w1 l q e w'):=hinv;have iY:Hid (Od X a2 #[ptr bb]):=k2;have HKB:Hid (Od X bb #[ptr X.M,nd]):=kb;have b1:=(k1.at h).cell 0 rfl;have z1:=(k1.at h).1;clear h k1 k2 kb hp hinv;go_in;go_wp2_with fail;refine HP.mono ?_;rintro e w1 ⟨g,c,d1,rfl,ho,hs1,e1,hg1⟩;have H1:Hid (Sp X d u d1 w1/\d1.p=q1):=⟨hs1,e1⟩;have HG:Hid (Bl X d1 w1 g la/\la.length<=c):=ho.Ru hg1;obtain⟨na,hna⟩:∃na,la.length=na:=⟨_,rfl⟩;have HNA:Hid (la.length=na):=hna;rw[hna];clear ho hs1 e1 hg1 hna;clear b1 z1 HP;go_wp2_with fail;obtain⟨w2,hw2⟩:∃w2,w1.alloc (.cells (vA cv) 53)=w2:=⟨_,rfl⟩;obtain⟨C,hC0⟩:∃C,w1.heap.size=C:=⟨_,rfl⟩;have K2:Hid (Sp X d1 w1 d1 w2.drew):=by rw[<-hw2];exact((Sp.refl H1.1.s).alloc _).drew
 have HC:Hid (Bx X d1 w2.drew C (vA cv)):=by rw[<-hw2,<-hC0];exact(Bx.new H1.1.s _ _).step (Sp.refl (H1.1.s.alloc _)).drew
 rw[show w1.alloc (.cells #[.int .i64 cv.k,.int .i64 cv.n,.float .f64 cv.f,.string cv.s,.int .i64 cv.r] 53)=w2 from hw2,hC0];clear hw2 hC0;have HK:Hid (∀d' w',Sp X d1 w2.drew d' w'->w'.cell? ⟨a2,0,none⟩=some (ptr bb)/\w'.cell? ⟨bb,0,none⟩=some (ptr X.M)/\w'.cell? ⟨C,0,none⟩=some (.int .i64 cv.k)/\w'.cell? ⟨C,1,none⟩=some (.int .i64 cv.n)/\w'.cell? ⟨C,2,none⟩=some (.float .f64 cv.f)/\w'.cell? ⟨C,3,none⟩=some (.string cv.s)/\w'.cell? ⟨C,4,none⟩=some (.int .i64 cv.r)):=fun d' w' k=>⟨(iY.at k.s).cell 0 rfl,(HKB.at k.s).cell 0 rfl,(HC.step k).cell 0 rfl,(HC.step k).cell 1 rfl,(HC.step k).cell 2 rfl,(HC.step k).cell 3 rfl,(HC.step k).cell 4 rfl⟩;have S0:=HK.out d1 _ (Sp.refl K2.s);obtain⟨nn,hnn⟩:∃nn,l.length=nn:=⟨_,rfl⟩;have YC:Hid (l.length=nn):=hnn;clear hnn
 go_region_held3 (fun w'=>w'.cell? ⟨a2,0,none⟩=some (ptr bb)/\w'.cell? ⟨bb,0,none⟩=some (ptr X.M)/\w'.cell? ⟨C,0,none⟩=some (.int .i64 cv.k)/\w'.cell? ⟨C,1,none⟩=some (.int .i64 cv.n)/\w'.cell? ⟨C,2,none⟩=some (.float .f64 cv.f)/\w'.cell? ⟨C,3,none⟩=some (.string cv.s)/\w'.cell? ⟨C,4,none⟩=some (.int .i64 cv.r)) (with_reducible first|exact S0|exact S1) (first|(go_at_call 200;have hz:=HI.out g c d1 _ (H1.out.1.trans K2.out) H1.out.2 (HG.out.1.step K2.out) HG.out.2;rw[HNA.out] at hz;refine hz.mono ?_;clear hz;rintro e w3 ⟨a3,c3,d3,rfl,h2,h3,h4,h5,h6⟩;have HF:Hid (bP X d u l q (.returned (.slice a3 nn c3)) w3):=(by rw[<-YC.out];exact bP.step ⟨a3,c3,d3,rfl,h2,h3,h4,h5,h6⟩ (H1.out.1.trans K2.out));have S1:=HK.out d3 w3 h4;rw[YC.out];clear h2 h3 h4 h5 h6))
 all_goals
  go_wp2_with fail;go_ret;exact HF
end
end Go.Proofs.YtihnikeikhjndaaGreatDoor
