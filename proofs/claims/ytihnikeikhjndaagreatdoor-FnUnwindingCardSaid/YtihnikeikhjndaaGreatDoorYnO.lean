import Derived.Test.YtihnikeikhjndaaGreatDoorYnE
import Derived.Deep.Cut
set_option maxRecDepth 100000
set_option maxHeartbeats 16000000
namespace Go.Proofs.YtihnikeikhjndaaGreatDoor
section
open Go.RowKit
attribute [local go_sem] aN
attribute [local go_sem ↓] Go.wp_at_zero Go.wp_at_succ
structure UF(X:RX)(fn nf ub uo uc nv vc:Nat)(va:Option Addr):Prop where
 f:X.fns=.slice (some ⟨ub,uo,none⟩) nf uc
 i:fn<nf
 lt:ub<X.W.heap.size
 ne:ub≠X.M
 p:X.W.cell? ⟨ub,uo+fn*7+2,none⟩=some (.int .i64 0)
 r:X.W.cell? ⟨ub,uo+fn*7+3,none⟩=some (.bool true)
 v:X.W.cell? ⟨ub,uo+fn*7+4,none⟩=some (.slice va nv vc)
theorem UF.at{X:RX}{fn nf ub uo uc nv vc:Nat}{va:Option Addr}(h:UF X fn nf ub uo uc nv vc va){d:MD}{w:World}(s:St X d w)(o:Nat):w.cell? ⟨ub,o,none⟩=X.W.cell? ⟨ub,o,none⟩:=World.cell?_of_block (a:=⟨ub,o,none⟩) (s.k.block ub h.lt (fun e=>by
 rcases e with e|e
 ·exact h.ne e
 ·have:=h.lt;omega))
structure Jp(X:RX)(fn nf ub uo uc nv vc:Nat)(va:Option Addr):Prop where
 f:X.fns=.slice (some ⟨ub,uo,none⟩) nf uc
 i:fn<nf
 lt:ub<X.W.heap.size
 ne:ub≠X.M
 p:X.W.cell? ⟨ub,uo+fn*7+2,none⟩=some (.int .i64 0)
 r:X.W.cell? ⟨ub,uo+fn*7+3,none⟩=some (.bool false)
 v:X.W.cell? ⟨ub,uo+fn*7+4,none⟩=some (.slice va nv vc)
theorem Jp.at{X:RX}{fn nf ub uo uc nv vc:Nat}{va:Option Addr}(h:Jp X fn nf ub uo uc nv vc va){d:MD}{w:World}(s:St X d w)(o:Nat):w.cell? ⟨ub,o,none⟩=X.W.cell? ⟨ub,o,none⟩:=World.cell?_of_block (a:=⟨ub,o,none⟩) (s.k.block ub h.lt (fun e=>by
 rcases e with e|e
 ·exact h.ne e
 ·have h1:=h.lt;have h2:X.W.heap.size<=ub:=e;omega))
theorem Ui:(Tryz.prog.info? 222).map (fun i=>(i.zero,i.size,i.bytes))=some (some (.pointer none),1,8):=by kernel_rfl
theorem VR:(Tryz.prog.info? 125).map (fun i=>(i.zero,i.size,i.bytes))=some (some (.pointer none),1,8):=by kernel_rfl
theorem yo4(a:Option Addr)(c:Prop)[Decidable c](h:a=none\/∃g,a=some (⟨g,0,none⟩:Addr)):(if c then a else a.map (fun x=>x.add 0))=a:=by
 rcases h with rfl|⟨g,rfl⟩<;>simp[Addr.add]
abbrev lu(nv:Nat):Array Value:=madeCells #[.pointer none] nv
abbrev xO(X:RX)(F V:Nat)(fn:Int)(rest:Value)(nv:Nat):RX:={X with F:=F,V:=V,fn:=fn,cal:=⟨0,0,0,⟨#[]⟩,0⟩,ups:=.slice none 0 0,rest:=rest,fl:=X.fl+1,nv:=nv}
abbrev dO(d:MD)(F nv:Nat)(fa:Option Addr)(fc:Nat):MD:={d with sc:=[],sa:=none,sp:=0,line:=0,vs:=(lu nv).toList,fr:=d.fr++[ptr F],fa:=fa,fc:=fc,df:=.slice none 0 0}
abbrev fZ(X:RX)(V nv:Nat)(fn:Int)(rest:Value):Array Value:=#[.pointer (some ⟨X.T,0,none⟩),.int .i64 fn,.int .i64 0,.int .i64 0,.float .f64 0,.string ⟨#[]⟩,.int .i64 0,.slice none 0 0,.slice (some ⟨V,0,none⟩) nv nv,rest,.slice none 0 0,.slice none 0 0,.int .i64 0]
structure Opened(X:RX)(d:MD)(u:World)(fn:Int)(rest:Value)(nv F V:Nat)(fa:Option Addr)(fc:Nat)(w':World):Prop where
 s:St (xO X F V fn rest nv) (dO d F nv fa fc) w'
 g:Gx (fun k=>k=X.T\/aj d.fa=some k) u w'
 F:u.heap.size<=F
 V:u.heap.size<=V
 fa:∀k,k<u.heap.size->aj fa=some k->aj d.fa=some k
theorem Xf(X:RX)(d:MD)(fn nf ub uo uc nv vc:Nat)(va:Option Addr)(u:World)(h:St X d u)(hU:Jp X fn nf ub uo uc nv vc va)(nH:nv<=1000)(hfl:X.fl<900):Calls Tryz.prog 52 #[ptr X.M,.int .i64 (fn:Int),.slice none 0 0] u fun e w'=>∃F V fa fc,e=.returned (ptr F)/\Opened X d u (fn:Int) (.slice none 0 0) nv F V fa fc w':=by
 have HS:Hid (St X d u):=h;have HU:Hid (Jp X fn nf ub uo uc nv vc va):=hU;have m23:u.cell? ⟨X.M,23,none⟩=some (ptr X.T):=h.m.1.cell 23 rfl;have m0:u.cell? ⟨X.M,0,none⟩=some (.slice (some ⟨ub,uo,none⟩) nf uc):=by rw[<-hU.f];exact h.m.1.cell 0 rfl
 have u2:=(hU.at h (uo+fn*7+2)).trans hU.p;have u4:=(hU.at h (uo+fn*7+4)).trans hU.v;have hi0:(0:Int)<=(fn:Int):=Int.natCast_nonneg _;have hi1:(fn:Int)<(nf:Int):=by have:=hU.i;omega
 have kU:=h.m.1.1;have QJ:ub<u.heap.size:=Nat.lt_of_lt_of_le hU.lt h.k.size;have hmk:∀v:World,(Instr.makeSlice 171 (.int .i64 (nv:Int)) (.int .i64 (nv:Int))).run Tryz.prog v=.ok (.slice (some ⟨v.heap.size,0,none⟩) nv nv) (v.alloc (.cells (lu nv) 222)):=fun v=>
  run_make_row' (P:=Tryz.prog) 171 222 (.pointer none) 8 Tryz.underlying171 Ui rfl .i64 .i64 nv (by omega) (by omega) v
 have HC:Hid (nv<=1000/\X.fl<900):=⟨nH,hfl⟩;clear h hU nH hfl;go_in
 go_upto_region 4 with fail
 obtain⟨w1,hw1⟩:∃w1,(u.alloc (.cells (lu nv) 222)).alloc (.cells (fZ X u.heap.size nv (fn:Int) (.slice none 0 0)) 174)=w1:=⟨_,rfl⟩;have H1:Hid (ah u w1):=by rw[<-hw1];exact(q01 u _).alloc (by simp) _
 have HV:Hid (OwnB w1 u.heap.size (lu nv)/\w1.heap.size=u.heap.size+2/\dA w1 u.heap.size 222):=by
  rw[<-hw1];exact⟨(OwnB.new u _ _).block (by simp) (Below.block (q01 _ _) _ (by simp)),by simp,(dA.new u _ _).keep (Below.block (q01 _ _) _ (by simp))⟩
 have HF:Hid (OwnB w1 (u.heap.size+1) (fZ X u.heap.size nv (fn:Int) (.slice none 0 0))/\dA w1 (u.heap.size+1) 174):=by
  rw[<-hw1];have:=OwnB.new (u.alloc (.cells (lu nv) 222)) (fZ X u.heap.size nv (fn:Int) (.slice none 0 0)) 174;have h2:=dA.new (u.alloc (.cells (lu nv) 222)) (fZ X u.heap.size nv (fn:Int) (.slice none 0 0)) 174;rw[show(u.alloc (.cells (lu nv) 222)).heap.size=u.heap.size+1 by simp] at this h2;exact⟨this,h2⟩
 rw[hw1];have hS1:=HS.call H1.out;have m0':w1.cell? ⟨X.M,0,none⟩=some (.slice (some ⟨ub,uo,none⟩) nf uc):=by rw[<-HU.f];exact hS1.m.1.cell 0 rfl
 have Oy:=(HU.at hS1 (uo+fn*7+3)).trans HU.r;have fz:=HF.1.2;have f9:=HF.1.1.cell 9 rfl;have lM:=hS1.m.1.1;have lF:=HF.1.1.1;clear hw1 m0 m23 u2 u4 hmk hS1 kU QJ;go_wp2_with fail;refine wp_loop_rounds 1 ?_;rw[rounds_succ];go_upto_region 11 with fail;obtain⟨w2,hw2⟩:∃w2,w1=w2:=⟨_,rfl⟩;have hb2:∀k,k≠u.heap.size+1->w2.heap[k]?=w1.heap[k]?:=fun k _=>by rw[<-hw2]
 have hs2:w2.heap.size=u.heap.size+2:=by rw[<-hw2];simpa using HV.2.1
 have HF2:Hid (OwnB w2 (u.heap.size+1) (fZ X u.heap.size nv (fn:Int) (.slice none 0 0))/\dA w2 (u.heap.size+1) 174):=by
  rw[<-hw2];exact HF
 have uH:Hid (OwnB w2 u.heap.size (lu nv)/\dA w2 u.heap.size 222):=⟨HV.1.block (by have:=HV.2.1;omega) (hb2 _ (by omega)),HV.2.2.keep (hb2 _ (by omega))⟩;have HB2:Hid (ah u w2):=by rw[<-hw2];exact H1
 rw[hw2];obtain⟨F,hF⟩:∃F,u.heap.size+1=F:=⟨_,rfl⟩;have hS2:St X d w2:=HS.call HB2.out;obtain⟨i0,hy,hy0,hy1,hy2⟩:=info_parts VR;obtain⟨v',w7,happ,hown,hgrow,_,hat⟩:=run_append_own_at (P:=Tryz.prog) (w2.alloc (.cells #[ptr (u.heap.size+1)] 125)) X.N 114 114 125 i0 _ 1 8 Tryz.underlying114 hy hy0 hy1 hy2 rfl (by decide) (.slice d.fa X.fl d.fc) X.fl d.fr (hS2.alloc _).fw ⟨w2.heap.size,0,none⟩ 1 1 [ptr (u.heap.size+1)] rfl (cell_one_new _ _ _) (by simp[Value.oneCell']) (by unfold maxLen;have:=HC.out;omega) (by have:=HC.out;omega) (hS2.alloc _).n;obtain⟨fa,fc,rfl⟩:=sU hown;have oI:=hS2.alloc (.cells #[ptr (u.heap.size+1)] 125);have hg':(w2.alloc (.cells #[ptr (u.heap.size+1)] 125)).grownBy w7 (aj d.fa):=by rw[dD] at hgrow;exact hgrow
 have hm:=oI.qo hg' (.inr (.inr (.inr rfl))) (fun q e=>jJ oI.fw e);have t7:=hS2.t.1.cell 7 rfl;have VG:=hm.2.1.1.cell 7 rfl;have tz':=hm.2.1.2;have hfo:∀k,aj d.fa=some k->k<u.heap.size:=fun k e=>(q16 HS.fw e).2;have vg:∀k,u.heap.size<=k->k<w2.heap.size->w7.heap[k]?=w2.heap[k]?:=fun k h1 h2=>(hg'.block k (by simp;omega) (fun c=>by have:=hfo k c.symm;omega)).trans (Below.block (q01 _ _) _ h2);have hs7:=hg'.size;simp at hs7;have yK:u.heap.size+2<w7.heap.size:=by omega
 have Qy:X.T<u.heap.size:=HS.t.1.1;have HFin:Hid (Opened X d u (fn:Int) (.slice none 0 0) nv (u.heap.size+1) u.heap.size fa fc (w7.setCell ⟨X.T,7,none⟩ (.slice fa (X.fl+1) fc))):=by
  have hx:=HS.x;have hWs:=HS.k.size;have hTy:=hm.2.2.2.2;have QZ:=Gx.set w7 X.T 7 (.slice fa (X.fl+1) fc);have xu:∀{t':TypeId} {N K m q c:Nat} {xs:List Value} {a:Option Addr},t'≠120->w7.ownsRow N t' K (.slice a m c) q xs->(w7.setCell ⟨X.T,7,none⟩ (.slice fa (X.fl+1) fc)).ownsRow N t' K (.slice a m c) q xs:=fun ht hh=>jh hh _ fun k e=>(jJ hh ((dD _ _ _).symm.trans e)).ne hTy.t ht;have gu:Gx (fun k=>k=X.T\/aj d.fa=some k) u (w7.setCell ⟨X.T,7,none⟩ (.slice fa (X.fl+1) fc)):=((Gx.below _ (lW HB2.out _)).trans (Gx.grown hg') (fun k _ e=>.inr e)).trans QZ (fun k _ e=>.inl e);refine⟨⟨⟨hx.m,hx.t,by show X.W.heap.size<=u.heap.size+1;omega,hWs,hx.nW,by show 0<X.fl+1;omega,by show X.fl+1<=1000;have:=HC.out;omega,hx.kt,hx.kd,hx.kc⟩,?_,?_,?_,?_,?_,?_,?_,World.ownsRow_nil _ _ _ _,?_,?_,?_,?_,?_,?_,?_⟩,gu,by omega,Nat.le_refl _,fun k hk e=>?_⟩
  ·exact fH hm.1 (Ne.symm hTy.tm)
  ·exact hm.2.1.set (o:=7) (by show 7<17;omega) _
  ·exact fH (HF2.1.block (by omega) (vg _ (by omega) (by omega))) (by show u.heap.size+1≠X.T;omega)
  ·show OwnB _ u.heap.size (lu nv).toList.toArray;rw[Array.toArray_toList];exact fH (uH.1.block (by omega) (vg _ (by omega) (by omega))) (by omega)
  ·exact xu (by decide) hown
  ·exact xu (by decide) (wG hg' oI.rr (fun k e c=>sQ oI.rr oI.fw Gg e c))
  ·exact xu (by decide) (wG hg' oI.hr (fun k e c=>sQ oI.hr oI.fw G8 e c))
  ·exact HS.k.trans gu (fun k _ e=>by
    rcases e with e|e
    ·exact .inr (e ▸ hx.t)
    ·exact .inr (Nat.le_trans hx.nW (q16 HS.fw e).1))
  ·have:=HS.n;simp;omega
  ·show(lu nv).toList.length=nv;simp[lu,madeCells]
  ·exact⟨hTy.m.set _ _,hTy.t.set _ _,(HF2.2.keep (vg _ (by omega) (by omega))).set _ _,(uH.2.keep (vg _ (by omega) (by omega))).set _ _⟩
  ·have hlen:d.fr.length=X.fl:=by have:=HS.fw.1;omega
   show(d.fr++[ptr (u.heap.size+1)])[X.fl+1-1]?=_;rw[List.getElem?_append_right (by omega),show X.fl+1-1 - d.fr.length=0 by omega];rfl
  ·refine HS.tt.keep gu.size (fun k e=>gu.block k (HS.tt.a k e).2 (fun c=>?_));rcases c with c|c
   ·exact HS.ts k e (.inr (.inl c))
   ·exact HS.ts k e (.inr (.inr (.inr (.inr (.inr (.inr (.inr c)))))))
  ·intro k e c;have hlt:=(HS.tt.a k e).2;rcases c with c|c|c|c|c|c|c|c
   ·exact HS.ts k e (.inl c)
   ·exact HS.ts k e (.inr (.inl c))
   ·replace c:k=u.heap.size+1:=c;omega
   ·replace c:k=u.heap.size:=c;omega
   ·exact HS.ts k e (.inr (.inr (.inr (.inr (.inl c)))))
   ·exact HS.ts k e (.inr (.inr (.inr (.inr (.inr (.inl c))))))
   ·cases c
   ·have:=Dj hat (u:=w2.alloc (.cells #[ptr (u.heap.size+1)] 125)) (k:=k) (by simp;omega) c;exact HS.ts k e (.inr (.inr (.inr (.inr (.inr (.inr (.inr this)))))))
  ·have:=Dj hat (u:=w2.alloc (.cells #[ptr (u.heap.size+1)] 125)) (k:=k) (by simp;omega) e;exact this
 have hT2:X.T<w2.heap.size:=by omega
 have hT7:X.T<w7.heap.size:=by omega
 clear hS2 oI hm hgrow hat hown hg' vg hs7 yK hfo hs2 hb2 hw2 Qy hF hy hy0 hy1 hy2 m0' Oy fz f9 lM lF;go_wp2_with (at_builtin;refine q32 (by rfl) _ _ _ _ (by rfl) (.slice d.fa X.fl d.fc) (.slice (some ⟨w2.heap.size,0,none⟩) 1 1) _ _ (by rfl) (by rfl) happ ?_);exact bodyPost_ret (v:=ptr (u.heap.size+1)) (by simp[results,Tryz.results52,go_sem]) rfl ⟨_,_,_,_,rfl,HFin.out⟩
structure A8(X:RX)(d:MD)(w:World):Prop where
 x:X.ok
 f:OwnB w X.F (fA X d)
 v:OwnB w X.V d.vs.toArray
 sr:N9 X.N w d
 tf:dA w X.F 174
 tv:dA w X.V 222
 nv:d.vs.length=X.nv
 r0:d.fr[X.fl-1]?=some (.pointer (some ⟨X.F,0,none⟩))
 fl:d.fr.length=X.fl
def jW(X:RX)(d:MD)(X':RX)(d':MD)(w:World):Prop:=A8 X d w/\∀k,(k=X.F\/k=X.V\/aj d.sa=some k)->¬stB X' d' k
theorem A8.gx{X:RX}{d:MD}{w w':World}(h:A8 X d w){S:Nat->Prop}(g:Gx S w w')(hn:∀k,(k=X.F\/k=X.V\/aj d.sa=some k)->¬S k):A8 X d w':=
 ⟨h.x,g.ownB h.f (hn _ (.inl rfl)),g.ownB h.v (hn _ (.inr (.inl rfl))),jS h.sr fun k e=>g.block k (h.sr.lt k e).2 (hn k (.inr (.inr ((dD _ _ _).symm.trans e)))),h.tf.keep (g.block _ h.tf.lt (hn _ (.inl rfl))),h.tv.keep (g.block _ h.tv.lt (hn _ (.inr (.inl rfl)))),h.nv,h.r0,h.fl⟩
theorem A8.lt{X:RX}{d:MD}{w:World}(h:A8 X d w){k:Nat}(e:k=X.F\/k=X.V\/aj d.sa=some k):k<w.heap.size:=by
 rcases e with rfl|rfl|e
 ·exact h.tf.lt
 ·exact h.tv.lt
 ·exact(q16 h.sr e).2
theorem jW.step{X X':RX}{d d' d'':MD}{w w':World}(h:jW X d X' d' w)(k:Sp X' d' w d'' w'):jW X d X' d'' w':=
 ⟨h.1.gx k.g h.2,fun i e c=>h.2 i e (k.mv i (h.1.lt e) c)⟩
theorem St.par{X:RX}{d:MD}{u:World}(h:St X d u):A8 X d u:=⟨h.x,h.f,h.v,h.sr,h.ty.f,h.ty.v,h.nv,h.r0,by have:=h.fw.1;omega⟩
theorem A8.ty{X:RX}{d:MD}{w:World}(h:A8 X d w){k:Nat}(e:k=X.F\/k=X.V\/aj d.sa=some k):∃t,dA w k t/\(t=174\/t=222\/t=3):=by
 rcases e with rfl|rfl|e
 ·exact⟨_,h.tf,.inl rfl⟩
 ·exact⟨_,h.tv,.inr (.inl rfl)⟩
 ·exact⟨_,jJ h.sr e,.inr (.inr rfl)⟩
theorem Opened.par{X:RX}{d:MD}{u w':World}{fn:Int}{rest:Value}{nv F V fc:Nat}{fa:Option Addr}(h:St X d u)(o:Opened X d u fn rest nv F V fa fc w'):jW X d (xO X F V fn rest nv) (dO d F nv fa fc) w':=by
 have hp:=h.par;have hne:∀{k q:Nat} {s:TypeId},(k=X.F\/k=X.V\/aj d.sa=some k)->dA u q s->s≠174->s≠222->s≠3->k≠q:=fun e hq n1 n2 n3=>by
  obtain⟨t,ht,hc⟩:=hp.ty e;rcases hc with rfl|rfl|rfl
  ·exact ht.ne hq (Ne.symm n1)
  ·exact ht.ne hq (Ne.symm n2)
  ·exact ht.ne hq (Ne.symm n3)
 have hF:=o.F;have hV:=o.V;refine⟨hp.gx o.g (fun k e c=>?_),fun k e c=>?_⟩
 ·rcases c with c|c
  ·exact hne e h.ty.t (by decide) (by decide) (by decide) c
  ·exact hne e (jJ h.fw c) (by decide) (by decide) (by decide) rfl
 ·have hk:=hp.lt e;rcases c with c|c|c|c|c|c|c|c|c
  ·exact hne e h.ty.m (by decide) (by decide) (by decide) c
  ·exact hne e h.ty.t (by decide) (by decide) (by decide) c
  ·have:k=F:=c;omega
  ·have:k=V:=c;omega
  ·exact hne e (jJ h.rr c) (by decide) (by decide) (by decide) rfl
  ·exact hne e (jJ h.hr c) (by decide) (by decide) (by decide) rfl
  ·cases c
  ·exact hne e (jJ h.fw (o.fa k hk c)) (by decide) (by decide) (by decide) rfl
  ·refine h.ts k c ?_;rcases e with e|e|e
   ·exact .inr (.inr (.inl e))
   ·exact .inr (.inr (.inr (.inl e)))
   ·exact .inr (.inr (.inr (.inr (.inr (.inr (.inl e))))))
abbrev lY(d d':MD):MD:={d' with sc:=d.sc,sa:=d.sa,sp:=d.sp,line:=d.line,vs:=d.vs,fr:=d.fr,df:=d.df}
structure dR(X X':RX):Prop where
 M:X'.M=X.M
 T:X'.T=X.T
 N:X'.N=X.N
 W:X'.W=X.W
 fns:X'.fns=X.fns
 jB:X'.jB=X.jB
 tks:X'.tks=X.tks
 en:X'.en=X.en
 c1:X'.c1=X.c1
 c2:X'.c2=X.c2
 c3:X'.c3=X.c3
 tk:X'.tk=X.tk
 dp:X'.dp=X.dp
 ce:X'.ce=X.ce
 fl:X'.fl=X.fl+1
theorem dR.mA{X X':RX}(h:dR X X')(d d':MD):mA X' d'=mA X (Go.Proofs.YtihnikeikhjndaaGreatDoor.lY d d'):=by
 simp[Go.Proofs.YtihnikeikhjndaaGreatDoor.mA,h.T,h.fns,h.jB,h.tks,h.en,h.tk,h.dp,h.ce]
theorem zf1(X X':RX)(d d':MD)(w:World)(h:St X' d' w)(hs:dR X X')(hp:jW X d X' d' w)(hfr:d'.fr=d.fr++[ptr X'.F]):Calls Tryz.prog 298 #[ptr X.M,ptr X'.F] w fun e w'=>e=.returned (.tuple #[])/\St X (lY d d') w'/\Gx (fun k=>k=X.T) w w':=by
 have f0:w.cell? ⟨X'.F,0,none⟩=some (ptr X.T):=by rw[<-hs.T];exact h.f.1.cell 0 rfl
 have t7:w.cell? ⟨X.T,7,none⟩=some (.slice d'.fa (X.fl+1) d'.fc):=by rw[<-hs.T,<-hs.fl];exact h.t.1.cell 7 rfl
 have tz:=h.t.2;rw[hs.T] at tz;have lF:=h.f.1.1;have lT:=h.t.1.1;rw[hs.T] at lT;have hfl:=hp.1.x.f2;have Y0:X'.F≠X.T:=by rw[<-hs.T];exact Ne.symm h.ty.tf
 have hcap:X.fl+1<=d'.fc/\∃g,d'.fa=some ⟨g,0,none⟩:=by
  have hw:=h.fw;rcases hw.2 with⟨e,h0⟩|⟨g,cap,cur,e,_,hg,h5,_⟩
  ·have:=hs.fl;omega
  ·obtain⟨e1,e3⟩:d'.fa=some ⟨g,0,none⟩/\d'.fc=cap:=by simpa using e
   exact⟨by have:=hs.fl;omega,g,e1⟩
 obtain⟨hc1,g,hg⟩:=hcap;have HFin:Hid (St X (lY d d') ((w.setCell ⟨X.T,7,none⟩ (.slice d'.fa X.fl d'.fc)).drew)/\Gx (fun k=>k=X.T) w ((w.setCell ⟨X.T,7,none⟩ (.slice d'.fa X.fl d'.fc)).drew)):=by
  have gs:Gx (fun k=>k=X.T) w (w.setCell ⟨X.T,7,none⟩ (.slice d'.fa X.fl d'.fc)):=Gx.set _ _ _ _;have hP:=hp.1;have BK:dA w X.T 120:=by rw[<-hs.T];exact h.ty.t
  have hTM:X.M≠X.T:=by rw[<-hs.T,<-hs.M];exact Ne.symm h.ty.tm
  have hro:∀{t':TypeId} {N K m q c:Nat} {xs:List Value} {a:Option Addr},t'≠120->w.ownsRow N t' K (.slice a m c) q xs->(w.setCell ⟨X.T,7,none⟩ (.slice d'.fa X.fl d'.fc)).ownsRow N t' K (.slice a m c) q xs:=fun ht hh=>jh hh _ fun k e=>(jJ hh ((dD _ _ _).symm.trans e)).ne BK ht;have hP2:=hP.gx gs (fun k e c=>by
   obtain⟨t,ht,hc⟩:=hP.ty e;rcases hc with rfl|rfl|rfl
   ·exact ht.ne BK (by decide) c
   ·exact ht.ne BK (by decide) c
   ·exact ht.ne BK (by decide) c)
  have hm:OwnB w X.M (mA X (lY d d')):=by rw[<-hs.mA d d',<-hs.M];exact h.m
  have ht:OwnB w X.T (tA X' d'):=by rw[<-hs.T];exact h.t
  have ht2:=ht.set (o:=7) (by show 7<17;omega) (.slice d'.fa X.fl d'.fc);have hfw:w.ownsRow X.N 125 1 (.slice d'.fa X.fl d'.fc) X.fl d.fr:=by
   have h1:w.ownsRow X'.N 125 1 (.slice d'.fa X'.fl d'.fc) X'.fl d'.fr:=h.fw;rw[hs.N,hs.fl] at h1;have h2:=O4 h1 (m:=X.fl) (by omega);rw[hfr,List.take_append_of_le_length (by have:=hP.fl;omega),List.take_of_length_le (by have:=hP.fl;omega)] at h2;exact h2
  have hrr:Jr X.N w d':=by rw[<-hs.N];exact h.rr
  have hhr:Na X.N w d':=by rw[<-hs.N];exact h.hr
  have hk:Gx (fun k=>k=X.M\/X.W.heap.size<=k) X.W w:=by rw[<-hs.M,<-hs.W];exact h.k
  have htm:dA w X.M 77:=by rw[<-hs.M];exact h.ty.m
  have htt:yO X.N (lY d d').tb (lY d d').TP (w.setCell ⟨X.T,7,none⟩ (.slice d'.fa X.fl d'.fc)):=by
   have h1:=h.tt;rw[hs.N] at h1;exact h1.keep (by simp) (fun k e=>Below.heap_setCell _ _ _ _ (fun c=>h.ts k e (.inr (.inl (by rw[hs.T];exact c)))))
  have hts:∀k,(lY d d').tb k->¬kZ X (lY d d') k:=fun k e c=>by
   rcases c with c|c|c|c|c|c|c|c
   ·exact h.ts k e (.inl (by rw[hs.M];exact c))
   ·exact h.ts k e (.inr (.inl (by rw[hs.T];exact c)))
   ·exact hp.2 k (.inl c) (stB.tb e)
   ·exact hp.2 k (.inr (.inl c)) (stB.tb e)
   ·exact h.ts k e (.inr (.inr (.inr (.inr (.inl c)))))
   ·exact h.ts k e (.inr (.inr (.inr (.inr (.inr (.inl c))))))
   ·exact hp.2 k (.inr (.inr c)) (stB.tb e)
   ·exact h.ts k e (.inr (.inr (.inr (.inr (.inr (.inr (.inr c)))))))
  refine⟨St.drew ⟨hP.x,fH hm hTM,?_,hP2.f,hP2.v,hro (by decide) hfw,hro (by decide) hrr,hro (by decide) hhr,hP2.sr,hk.trans gs (fun k _ e=>.inr (e ▸ hP.x.t)),?_,hP2.nv,⟨htm.set _ _,BK.set _ _,hP2.tf,hP2.tv⟩,hP2.r0,htt,hts⟩,?_⟩
  ·have e:tA X (lY d d')=(tA X' d').setIfInBounds 7 (.slice d'.fa X.fl d'.fc):=by
    simp[tA,hs.c1,hs.c2,hs.c3]
   rw[e];exact ht2
  ·have:=h.n;rw[hs.N] at this;simpa using this
  ·exact gs.trans (Gx.below (fun k=>k=X.T) (Below.refl _ _).drew) (fun _ _ e=>e)
 rw[hg] at t7 HFin;clear h hs hp hfr hg;obtain⟨dd,hdd⟩:∃dd,lY d d'=dd:=⟨_,rfl⟩;rw[hdd] at HFin;rw[hdd];clear hdd;generalize d'.fc=cap at *;obtain⟨q,hq⟩:∃q,X.fl=q:=⟨_,rfl⟩;rw[hq] at t7 HFin hc1 hfl;clear hq;have hc0:¬cap=0:=by omega
 have hw:IntKind.i64.wrap (q:Int)=(q:Int):=EJ (by omega);have hle:q<=cap:=by omega
 clear hc1 hfl;have Rk:((w.setCell ⟨X.T,7,none⟩ (.slice (some ⟨g,0,none⟩) q cap)).drew).cell? ⟨X'.F,0,none⟩=some (ptr X.T):=(World.cell?_of_block (a:=⟨X'.F,0,none⟩) (Below.heap_setCell w ⟨X.T,7,none⟩ _ X'.F Y0)).trans f0;clear Y0;obtain⟨F',hF'⟩:∃F',X'.F=F':=⟨_,rfl⟩;rw[hF'] at f0 Rk lF;rw[hF'];clear hF';go_in;go_wp2_with fail;refine wp_region_held_drew (S:=fun w'=>w'.cell? ⟨F',0,none⟩=some (ptr X.T)) (by kernel_rfl) f0 (fun ak=>?_);refine wpAnyH_take (i:=0) (oi:=⟨some 4,_,_,_,_,_⟩) (v:=?v1) rfl (by kernel_rfl) (by kernel_rfl) (by kernel_rfl) (fun _ _ _ h=>h) (Or.inl ⟨by rfl,?hy1⟩) (by assumption) ?mV
 case hy1=>(intro wz hSw;(try dsimp only at hSw);go_simp<;>with_reducible rfl)
 try simp only[Act.put,aG,aF,aA]
 refine wpAnyH_take (i:=1) (oi:=⟨some 5,_,_,_,_,_⟩) (v:=?v2) rfl (by kernel_rfl) (by kernel_rfl) (by kernel_rfl) (fun _ _ _ h=>h) (Or.inl ⟨by rfl,?hy2⟩) (by assumption) ?mQ
 case hy2=>(intro wz hSw;(try dsimp only at hSw);go_simp<;>with_reducible rfl)
 try simp only[Act.put,aG,aF,aA]
 refine wpAnyH_take (i:=2) (oi:=⟨some 6,_,_,_,_,_⟩) (v:=?v3) rfl (by kernel_rfl) (by kernel_rfl) (by kernel_rfl) (fun _ _ _ h=>h) (Or.inl ⟨by rfl,?hy3⟩) (by assumption) ?mP
 case hy3=>(intro wz hSw;(try dsimp only at hSw);go_simp<;>with_reducible rfl)
 try simp only[Act.put,aG,aF,aA]
 refine wpAnyH_take (i:=3) (oi:=⟨some 7,_,_,_,_,_⟩) (v:=?v4) rfl (by kernel_rfl) (by kernel_rfl) (by kernel_rfl) (fun _ _ _ h=>h) (Or.inl ⟨by rfl,?hy4⟩) (by assumption) ?mO
 case hy4=>(intro wz hSw;(try dsimp only at hSw);go_simp<;>with_reducible rfl)
 try simp only[Act.put,aG,aF,aA]
 refine wpAnyH_take (i:=4) (oi:=⟨some 8,_,_,_,_,_⟩) (v:=?v5) rfl (by kernel_rfl) (by kernel_rfl) (by kernel_rfl) (fun _ _ _ h=>h) (Or.inl ⟨by rfl,?uw⟩) (by assumption) ?mM
 case uw=>(intro wz hSw;(try dsimp only at hSw);go_simp<;>with_reducible rfl)
 try simp only[Act.put,aG,aF,aA]
 refine wpAnyH_take (i:=5) (oi:=⟨some 9,_,_,_,_,_⟩) (v:=?v6) rfl (by kernel_rfl) (by kernel_rfl) (by kernel_rfl) (fun _ _ _ h=>h) (Or.inl ⟨by rfl,?wL⟩) (by assumption) ?pY
 case wL=>(intro wz hSw;(try dsimp only at hSw);go_simp<;>with_reducible rfl)
 try simp only[Act.put,aG,aF,aA]
 refine wpAnyH_take (i:=6) (oi:=⟨some 10,_,_,_,_,_⟩) (v:=?v7) rfl (by kernel_rfl) (by kernel_rfl) (by kernel_rfl) (fun _ _ _ h=>h) (Or.inl ⟨by rfl,?qw⟩) (by assumption) ?mJ
 case qw=>(intro wz hSw;(try dsimp only at hSw);go_simp<;>with_reducible rfl)
 try simp only[Act.put,aG,aF,aA]
 refine wpAnyH_take (i:=7) (oi:=⟨some 11,_,_,_,_,_⟩) (v:=?v8) rfl (by kernel_rfl) (by kernel_rfl) (by kernel_rfl) (fun _ _ _ h=>h) (Or.inl ⟨by rfl,?rJ⟩) (by assumption) ?kM
 case rJ=>(intro wz hSw;(try dsimp only at hSw);go_simp<;>with_reducible rfl)
 try simp only[Act.put,aG,aF,aA]
 refine wpAnyH_take (i:=8) (oi:=⟨some 12,_,_,_,_,_⟩) (v:=?v9) rfl (by kernel_rfl) (by kernel_rfl) (by kernel_rfl) (fun _ _ _ h=>h) (Or.inl ⟨by rfl,?wK⟩) (by assumption) ?pX
 case wK=>(intro wz hSw;(try dsimp only at hSw);go_simp<;>with_reducible rfl)
 try simp only[Act.put,aG,aF,aA]
 refine wpAnyH_take (i:=9) (oi:=⟨some 13,_,_,_,_,_⟩) (v:=?v10) rfl (by kernel_rfl) (by kernel_rfl) (by kernel_rfl) (fun _ _ _ h=>h) (Or.inl ⟨by rfl,?oG⟩) (by assumption) ?o9
 case oG=>(intro wz hSw;(try dsimp only at hSw);go_simp<;>with_reducible rfl)
 try simp only[Act.put,aG,aF,aA]
 refine wpAnyH_take (i:=11) (oi:=⟨some 15,_,_,_,_,_⟩) (v:=?v11) rfl (by kernel_rfl) (by kernel_rfl) (by kernel_rfl) (fun _ _ _ h=>h) (Or.inl ⟨by rfl,?oD⟩) (by assumption) ?o8
 case oD=>(intro wz hSw;(try dsimp only at hSw);go_simp<;>with_reducible rfl)
 try simp only[Act.put,aG,aF,aA]
 refine wpAnyH_take (i:=12) (oi:=⟨some 16,_,_,_,_,_⟩) (v:=?v12) rfl (by kernel_rfl) (by kernel_rfl) (by kernel_rfl) (fun _ _ _ h=>h) (Or.inl ⟨by rfl,?oC⟩) (by assumption) ?o7
 case oC=>(intro wz hSw;(try dsimp only at hSw);go_simp<;>with_reducible rfl)
 try simp only[Act.put,aG,aF,aA]
 refine wpAnyH_take (i:=13) (oi:=⟨some 17,_,_,_,_,_⟩) (v:=?v13) rfl (by kernel_rfl) (by kernel_rfl) (by kernel_rfl) (fun _ _ _ h=>h) (Or.inl ⟨by rfl,?oz⟩) (by assumption) ?nZ
 case oz=>(intro wz hSw;(try dsimp only at hSw);go_simp<;>with_reducible rfl)
 try simp only[Act.put,aG,aF,aA]
 refine wpAnyH_take (i:=14) (oi:=⟨some 18,_,_,_,_,_⟩) (v:=?v14) rfl (by kernel_rfl) (by kernel_rfl) (by kernel_rfl) (fun _ _ _ h=>h) (Or.inl ⟨by rfl,?ou⟩) (by assumption) ?nY
 case ou=>(intro wz hSw;(try dsimp only at hSw);go_simp<;>with_reducible rfl)
 try simp only[Act.put,aG,aF,aA]
 refine wpAnyH_take (i:=15) (oi:=⟨some 19,_,_,_,_,_⟩) (v:=?v15) rfl (by kernel_rfl) (by kernel_rfl) (by kernel_rfl) (fun _ _ _ h=>h) (Or.inl ⟨by rfl,?rP⟩) (by assumption) ?rD
 case rP=>(intro wz hSw;(try dsimp only at hSw);go_simp<;>with_reducible rfl)
 try simp only[Act.put,aG,aF,aA]
 refine wpAnyH_take (i:=16) (oi:=⟨some 20,_,_,_,_,_⟩) (v:=?v16) rfl (by kernel_rfl) (by kernel_rfl) (by kernel_rfl) (fun _ _ _ h=>h) (Or.inl ⟨by rfl,?rO⟩) (by assumption) ?rC
 case rO=>(intro wz hSw;(try dsimp only at hSw);go_simp<;>with_reducible rfl)
 try simp only[Act.put,aG,aF,aA]
 refine wpAnyH_ready (rs:=[10,17]) (by kernel_rfl) (by simp) ?_;refine AllReadyH.cons (o:=⟨some 14,_,_,_,_,_⟩) rfl (fun K hK=>?_) (AllReadyH.cons (o:=⟨some 21,_,_,_,_,_⟩) rfl (fun K hK=>?_) AllReadyH.nil)
 ·go_simp;refine hK.out _ _ f0 (fun hHeld=>?_);clear hK K ak;have ak:=hHeld;clear hHeld;try simp only[Act.put,aG,aF,aA]
  refine wpAnyH_ready (rs:=[17]) (by kernel_rfl) (by simp) ?_;refine AllReadyH.cons (o:=⟨some 21,_,_,_,_,_⟩) rfl (fun K hK=>?_) AllReadyH.nil;go_simp;refine hK.out _ _ f0 (fun hHeld=>?_);clear hK K ak;have ak:=hHeld;clear hHeld;try simp only[Act.put,aG,aF,aA]
  refine wpAnyH_take (i:=18) (oi:=⟨some 22,_,_,_,_,_⟩) (v:=?v17) rfl (by kernel_rfl) (by kernel_rfl) (by kernel_rfl) (fun _ _ _ h=>h) (Or.inl ⟨by rfl,?wS⟩) (by assumption) ?vV
  case wS=>(intro wz hSw;(try dsimp only at hSw);go_simp<;>with_reducible rfl)
  try simp only[Act.put,aG,aF,aA]
  refine wpAnyH_take (i:=19) (oi:=⟨some 23,_,_,_,_,_⟩) (v:=?v18) rfl (by kernel_rfl) (by kernel_rfl) (by kernel_rfl) (fun _ _ _ h=>h) (Or.inl ⟨by rfl,?rM⟩) (by assumption) ?ru
  case rM=>(intro wz hSw;(try dsimp only at hSw);go_simp<;>with_reducible rfl)
  try simp only[Act.put,aG,aF,aA]
  refine wpAnyH_take (i:=20) (oi:=⟨some 24,_,_,_,_,_⟩) (v:=?v19) rfl (by kernel_rfl) (by kernel_rfl) (by kernel_rfl) (fun _ _ _ h=>h) (Or.inl ⟨by rfl,?wR⟩) (by assumption) ?vU
  case wR=>(intro wz hSw;(try dsimp only at hSw);go_simp<;>with_reducible rfl)
  try simp only[Act.put,aG,aF,aA]
  refine wpAnyH_take (i:=21) (oi:=⟨some 25,_,_,_,_,_⟩) (v:=?v20) rfl (by kernel_rfl) (by kernel_rfl) (by kernel_rfl) (fun _ _ _ h=>h) (Or.inl ⟨by rfl,?wQ⟩) (by assumption) ?vS
  case wQ=>(intro wz hSw;(try dsimp only at hSw);go_simp<;>with_reducible rfl)
  try simp only[Act.put,aG,aF,aA]
  refine wpAnyH_take (i:=22) (oi:=⟨some 26,_,_,_,_,_⟩) (v:=?v21) rfl (by kernel_rfl) (by kernel_rfl) (by kernel_rfl) (fun _ _ _ h=>h) (Or.inl ⟨by rfl,?wP⟩) (by assumption) ?vP
  case wP=>(intro wz hSw;(try dsimp only at hSw);go_simp<;>with_reducible rfl)
  try simp only[Act.put,aG,aF,aA]
  refine wpAnyH_ready (rs:=[23]) (by kernel_rfl) (by simp) ?_;refine AllReadyH.cons (o:=⟨none,_,_,_,_,_⟩) rfl (fun K hK=>?_) AllReadyH.nil;go_simp;refine hK.out _ _ Rk (fun hHeld=>?_);clear hK K ak;have ak:=hHeld;clear hHeld;try simp only[Act.put,aG,aF,aA]
  refine wpAnyH_done (by kernel_rfl) ?_ _;go_end0;exact⟨rfl,HFin⟩
 ·go_simp;refine hK.out _ _ f0 (fun hHeld=>?_);clear hK K ak;have ak:=hHeld;clear hHeld;try simp only[Act.put,aG,aF,aA]
  refine wpAnyH_take (i:=18) (oi:=⟨some 22,_,_,_,_,_⟩) (v:=?v22) rfl (by kernel_rfl) (by kernel_rfl) (by kernel_rfl) (fun _ _ _ h=>h) (Or.inl ⟨by rfl,?wO⟩) (by assumption) ?vO
  case wO=>(intro wz hSw;(try dsimp only at hSw);go_simp<;>with_reducible rfl)
  try simp only[Act.put,aG,aF,aA]
  refine wpAnyH_take (i:=19) (oi:=⟨some 23,_,_,_,_,_⟩) (v:=?v23) rfl (by kernel_rfl) (by kernel_rfl) (by kernel_rfl) (fun _ _ _ h=>h) (Or.inl ⟨by rfl,?wM⟩) (by assumption) ?vN
  case wM=>(intro wz hSw;(try dsimp only at hSw);go_simp<;>with_reducible rfl)
  try simp only[Act.put,aG,aF,aA]
  refine wpAnyH_ready (rs:=[10]) (by kernel_rfl) (by simp) ?_;refine AllReadyH.cons (o:=⟨some 14,_,_,_,_,_⟩) rfl (fun K hK=>?_) AllReadyH.nil;go_simp;refine hK.out _ _ f0 (fun hHeld=>?_);clear hK K ak;have ak:=hHeld;clear hHeld;try simp only[Act.put,aG,aF,aA]
  refine wpAnyH_take (i:=20) (oi:=⟨some 24,_,_,_,_,_⟩) (v:=?v24) rfl (by kernel_rfl) (by kernel_rfl) (by kernel_rfl) (fun _ _ _ h=>h) (Or.inl ⟨by rfl,?hy24⟩) (by assumption) ?OM
  case hy24=>(intro wz hSw;(try dsimp only at hSw);go_simp<;>with_reducible rfl)
  try simp only[Act.put,aG,aF,aA]
  refine wpAnyH_take (i:=21) (oi:=⟨some 25,_,_,_,_,_⟩) (v:=?v25) rfl (by kernel_rfl) (by kernel_rfl) (by kernel_rfl) (fun _ _ _ h=>h) (Or.inl ⟨by rfl,?hy25⟩) (by assumption) ?OL
  case hy25=>(intro wz hSw;(try dsimp only at hSw);go_simp<;>with_reducible rfl)
  try simp only[Act.put,aG,aF,aA]
  refine wpAnyH_take (i:=22) (oi:=⟨some 26,_,_,_,_,_⟩) (v:=?v26) rfl (by kernel_rfl) (by kernel_rfl) (by kernel_rfl) (fun _ _ _ h=>h) (Or.inl ⟨by rfl,?Qp⟩) (by assumption) ?OJ
  case Qp=>(intro wz hSw;(try dsimp only at hSw);go_simp<;>with_reducible rfl)
  try simp only[Act.put,aG,aF,aA]
  refine wpAnyH_ready (rs:=[23]) (by kernel_rfl) (by simp) ?_;refine AllReadyH.cons (o:=⟨none,_,_,_,_,_⟩) rfl (fun K hK=>?_) AllReadyH.nil;go_simp;refine hK.out _ _ Rk (fun hHeld=>?_);clear hK K ak;have ak:=hHeld;clear hHeld;try simp only[Act.put,aG,aF,aA]
  refine wpAnyH_done (by kernel_rfl) ?_ _;go_end0;exact⟨rfl,HFin⟩
end
end Go.Proofs.YtihnikeikhjndaaGreatDoor
