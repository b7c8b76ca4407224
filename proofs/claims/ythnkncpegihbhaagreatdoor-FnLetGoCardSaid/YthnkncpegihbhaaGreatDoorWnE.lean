import Derived.Test.YthnkncpegihbhaaGreatDoorWnC
set_option maxRecDepth 100000
set_option maxHeartbeats 16000000
namespace Go.Proofs.YthnkncpegihbhaaGreatDoor
section
open Go.RowKit
attribute [local go_sem] iD
attribute [local go_sem ↓] Go.wp_at_zero Go.wp_at_succ
abbrev vA(x:VD):Array Value:=#[.int .i64 x.k,.int .i64 x.n,.float .f64 x.f,.string x.s,.int .i64 x.r]
abbrev Xf(B:Nat):Value:=.func (.func 232) #[] #[.pointer (some ⟨B,0,none⟩)]
abbrev Vt(B:Nat):Value:=.func (.func 218) #[] #[.pointer (some ⟨B,0,none⟩)]
abbrev Xa(B:Nat):Value:=.func (.func 200) #[] #[.pointer (some ⟨B,0,none⟩)]
theorem yb2(f:Value)(B:Nat)(v:VD)(u:World)(h:Has u B (vA v)):Calls Tryz.prog 232 #[f,.pointer (some ⟨B,0,none⟩)] u fun e w'=>e=.returned v.v/\gZ u w':=by
 have hB:=h.1;have c0:=h.cell 0 rfl;have c1:=h.cell 1 rfl;have c2:=h.cell 2 rfl;have c3:=h.cell 3 rfl;have c4:=h.cell 4 rfl;go_in;go_wp2_with fail;exact aG (v:=v.v) (by simp[results,Tryz.results232,go_sem]) rfl ⟨rfl,q01 _ _⟩
theorem y47(X:RX)(d:MD)(B Q i:Nat)(v:VD)(u:World)(h:St X d u)(hB:Has u B #[.int .i64 (i:Int)])(hv:d.vs[i]?=some (.pointer (some ⟨Q,0,none⟩)))(hQ:Has u Q (vA v)):Calls Tryz.prog 218 #[.pointer (some ⟨X.F,0,none⟩),.pointer (some ⟨B,0,none⟩)] u fun e w'=>e=.returned v.v/\gZ u w':=by
 have b0:=hB.cell 0 rfl;have f8:=h.f.1.cell 8 rfl;have v0:u.cell? ⟨X.V,i,none⟩=some (.pointer (some ⟨Q,0,none⟩)):=(h.v.1.2 i).trans (by simpa using hv);have hi:i<X.nv:=by rw[<-h.nv];exact(aP.1 hv).1
 have gU:(0:Int)<=(i:Int):=aS _;have hi1:(i:Int)<(X.nv:Int):=by omega
 have c0:=hQ.cell 0 rfl;have c1:=hQ.cell 1 rfl;have c2:=hQ.cell 2 rfl;have c3:=hQ.cell 3 rfl;have c4:=hQ.cell 4 rfl;have h1:=hB.1;have h2:=h.f.1.1;have h3:=h.v.1.1;have h4:=hQ.1;go_in;go_wp2_with fail
 go_region_with fail
 all_goals go_wp2_with fail
 all_goals exact aG (v:=v.v) (by simp[results,Tryz.results218,go_sem]) rfl ⟨rfl,(q01 _ _).drew⟩
theorem zy2(a:Option Addr)(n c:Nat)(w:World):(binOp .eql 119 (.slice a n c) (.slice none 0 0)).run Tryz.prog w=.ok (.bool a.isNone) w:=by
 have h:∀d:Nat,(Op.equalIn (d+1) 119 (.slice a n c) (.slice none 0 0)).run Tryz.prog w=.ok a.isNone w:=fun d=>by
  cases a<;>simp[Op.equalIn,dn Tryz.underlying119]
 have e:(binOp .eql 119 (.slice a n c) (.slice none 0 0)).run Tryz.prog w=((Op.equalIn 10000 119 (.slice a n c) (.slice none 0 0)).run Tryz.prog w).andThen fun b w'=>.ok (.bool b) w':=by
  simp only[binOp];simp[Op.equal,Op.maxDepth]
 rw[e,h 9999];rfl
theorem zz0(w:World)(t:TypeId):(w.alloc (.cells #[] t)).ownsRow w.heap.size t 5 (.slice (some ⟨w.heap.size,0,none⟩) 0 0) 0 []:=
 ⟨rfl,.inr ⟨w.heap.size,0,#[],rfl,ah _,by rw[heap_alloc_new],ah _,aF _,rfl,rfl⟩⟩
abbrev Dy(N:Nat)(u:World)(g cap:Nat)(l:List VD):Prop:=u.ownsRow N 61 5 (.slice (some ⟨g,0,none⟩) l.length cap) l.length (hL l)
theorem zi8(x:Addr)(l:List VD)(cap:Nat)(w:World)(hn:l.length<=100000)(hl:∀j v,(hL l)[j]?=some v->w.cell? (x.add j)=some v)(hx:x.block<w.heap.size):Calls Tryz.prog 252 #[.slice (some x) l.length cap] w fun e w'=>(∃g cap',e=.returned (.slice (some ⟨g,0,none⟩) l.length cap')/\Dy w.heap.size w' g cap' l)/\gZ w w':=by
 have hs:=zy2 (some x) l.length cap;have HL:Hid (∀j v,(hL l)[j]?=some v->(w.alloc (.cells #[] 61)).cell? (x.add j)=some v):=fun j v e=>(dR w _ (x.add j) (by cases j<;>simpa[Addr.add] using hx)).trans (hl j v e);go_in;obtain⟨i0,hi,hz0,hz1,hz2⟩:=bT NR;go_wp2_with (at_builtin;refine wpList_append_own _ rfl _ _ 119 rfl w.heap.size 61 i0 _ 5 48 Tryz.underlying119 hi hz0 hz1 hz2 rfl (by decide) (.slice (some ⟨w.heap.size,0,none⟩) 0 0) 0 [] rfl (zz0 w _) x l.length cap (hL l) rfl (z52 l) HL.out (V6 l) (by unfold maxLen;omega) (by omega) (by simp) ?_;intro v' w1 gB gY hnil);have hg:(w.alloc (.cells #[] 61)).grownBy w1 (some w.heap.size):=gY;have ho:w1.ownsRow w.heap.size 61 5 v' l.length (hL l):=by simpa using gB
 have hne:v'≠.slice none 0 0:=fun e=>by simpa using hnil.1 e
 obtain⟨g,cap',rfl⟩:∃g cap',v'=.slice (some ⟨g,0,none⟩) l.length cap':=by
  rcases ho.2 with⟨e,_⟩|⟨g,cap',cur,e,_⟩
  ·exact absurd e hne
  ·exact⟨g,cap',e⟩
 go_ret;exact⟨⟨g,cap',rfl,ho⟩,(q01 w _).grown hg (by simp) (fun k e=>by cases e;exact ah _)⟩
theorem y95{w:World}{N N' K:Nat}{t:TypeId}{v:Value}{n:Nat}{xs:List Value}(h:w.ownsRow N t K v n xs)(hb:N'<=N):w.ownsRow N' t K v n xs:=by
 refine⟨h.1,?_⟩;rcases h.2 with h2|⟨g,cap,cur,e,h3,r⟩
 ·exact .inl h2
 ·exact .inr ⟨g,cap,cur,e,by omega,r⟩
def ToG(X:RX)(d:MD)(u:World)(q:DP)(w':World)(g:Nat):Prop:=∃d',Sp X d u d' w'/\d'.p=q/\¬stB X d' g
theorem Sp.beside{X:RX}{d d':MD}{u u' u'':World}(h0:St X d u)(h:Sp X d u d' u'){g:Nat}(hg:Gx (fun k=>k=g) u' u'')(hu:u.heap.size<=g)(hn:¬stB X d' g):Sp X d u d' u'':=by
 have hx:=h.s.x;have ho:∀{B:Nat} {A:Array Value},OwnB u' B A->B≠g->OwnB u'' B A:=fun hh hb=>hg.ownB hh hb;have hr:∀{N K n c m:Nat} {t:TypeId} {xs:List Value} {a:Option Addr},u'.ownsRow N t K (.slice a m c) n xs->ig a≠some g->u''.ownsRow N t K (.slice a m c) n xs:=fun hh hb=>nY hh fun q e=>hg.block q (hh.lt q e).2 (fun c=>hb (by rw[<-c,<-jg];exact e));refine⟨⟨hx,ho h.s.m (fun e=>hn (.inl e.symm)),ho h.s.t (fun e=>hn (.inr (.inl e.symm))),ho h.s.f (fun e=>hn (.inr (.inr (.inl e.symm)))),ho h.s.v (fun e=>hn (.inr (.inr (.inr (.inl e.symm))))),hr h.s.fw (fun e=>hn (.inr (.inr (.inr (.inr (.inr (.inr (.inr (.inl e))))))))),hr h.s.rr (fun e=>hn (.inr (.inr (.inr (.inr (.inl e)))))),hr h.s.hr (fun e=>hn (.inr (.inr (.inr (.inr (.inr (.inl e))))))),hr h.s.sr (fun e=>hn (.inr (.inr (.inr (.inr (.inr (.inr (.inl e)))))))),?_,aV h.s.n hg.size,h.s.nv,h.s.ty.keep (fun k e=>hg.block k ?_ ?_),h.s.r0,h.s.tt.keep hg.size (fun k e=>hg.block k (h.s.tt.a k e).2 (fun c=>hn (.inr (.inr (.inr (.inr (.inr (.inr (.inr (.inr (by rw[<-c];exact e))))))))))),h.s.ts⟩,?_,h.mv⟩
 ·exact h.s.k.trans hg (fun k _ e=>.inr (by have:=h0.k.size;omega))
 ·rcases e with rfl|rfl|rfl|rfl
  ·exact h.s.m.1.1
  ·exact h.s.t.1.1
  ·exact h.s.f.1.1
  ·exact h.s.v.1.1
 ·intro c;rcases e with rfl|rfl|rfl|rfl
  ·exact hn (.inl c.symm)
  ·exact hn (.inr (.inl c.symm))
  ·exact hn (.inr (.inr (.inl c.symm)))
  ·exact hn (.inr (.inr (.inr (.inl c.symm))))
 ·exact h.g.trans hg (fun k hk e=>by omega)
theorem UR{X:RX}{d d':MD}{u u':World}{N K n g c m:Nat}{t:TypeId}{xs:List Value}(ho:u.ownsRow N t K (.slice (some ⟨g,0,none⟩) m c) n xs)(hn:¬stB X d g)(k:Sp X d u d' u'):u'.ownsRow N t K (.slice (some ⟨g,0,none⟩) m c) n xs/\¬stB X d' g:=by
 have gK:=(jm ho (k:=g) rfl).2;exact⟨nY ho fun q e=>by cases e;exact k.g.block g gK hn,fun e=>hn (k.mv g gK e)⟩
def vl(vs:Nat->VD)(n:Nat):List VD:=(List.range n).map vs
theorem z26(vs:Nat->VD)(n:Nat):(vl vs n).length=n:=by simp[vl]
theorem yv7(vs:Nat->VD)(n:Nat):vl vs (n+1)=vl vs n++[vs n]:=by simp[vl,bU]
theorem DP.o7(p:DP):p.hold []=p:=by simp[DP.hold]
theorem DP.zW(p:DP)(a b:List VD):(p.hold a).hold b=p.hold (a++b):=by simp[DP.hold]
theorem DP.o8(p:DP)(l:List VD){m:Nat}(e:p.held.length=m):(p.hold l).kH m=p:=by
 subst e;simp[DP.hold,DP.kH]
theorem qn4(x:Addr)(l:List VD)(n cap:Nat)(w:World)(e:l.length=n)(hn:n<=100000)(hl:∀j v,(hL l)[j]?=some v->w.cell? (x.add j)=some v)(hx:x.block<w.heap.size):Calls Tryz.prog 252 #[.slice (some x) n cap] w fun e w'=>(∃g cap',e=.returned (.slice (some ⟨g,0,none⟩) n cap')/\w'.ownsRow w.heap.size 61 5 (.slice (some ⟨g,0,none⟩) n cap') n (hL l))/\gZ w w':=by
 subst e;exact zi8 x l cap w hn hl hx
theorem L8(X:RX)(d:MD)(g:Nat)(v:VD)(u:World)(h:St X d u)(hn:d.held.length<=90000)(hg:Has u g (vA v)):Calls Tryz.prog 194 #[.pointer (some ⟨X.T,0,none⟩),.slice (some ⟨g,0,none⟩) 1 1] u fun e w'=>e=.returned (.tuple #[])/\To X d u (d.p.hold [v]) w':=
 Sz X d ⟨g,0,none⟩ [v] 1 u h (by simp;omega) (fun j x e=>by
  have e2:(vA v)[j]?=some x:=by
   rw[<-dO];simpa[hL,v5] using e
  have:=(hg.2 j).trans e2
  cases j<;>simpa[Addr.add] using this)
theorem St.BU{X:RX}{d:MD}{u:World}(h:St X d u)(hp:0<d.held.length):∃g,d.ha=some ⟨g,0,none⟩/\g<u.heap.size/\d.held.length<=d.hc/\∀j v,(hL d.held)[j]?=some v->u.cell? ⟨g,j,none⟩=some v:=by
 have hc:=h.hr;rcases h.hr.2 with⟨e,h0⟩|⟨g,cap,cur,e,_,hg,h5,_⟩
 ·omega
 ·obtain⟨e1,e3⟩:d.ha=some ⟨g,0,none⟩/\d.hc=cap:=by simpa using e
  refine⟨g,e1,(aA.1 hg).1,by omega,fun j v hv=>?_⟩;have hcs:=hc.cells (g:=g) (by rw[e1];rfl) j v hv
  cases j<;>simpa[Addr.add] using hcs
def Od(X:RX)(B:Nat)(A:Array Value):Prop:=Has X.W B A/\B≠X.M
theorem Od.at{X:RX}{d:MD}{u:World}{B:Nat}{A:Array Value}(h:Od X B A)(s:St X d u):Has u B A:=s.old h.1 h.2
abbrev ptr(B:Nat):Value:=.pointer (some ⟨B,0,none⟩)
abbrev jd0(B:Nat):Value:=.func (.func 251) #[] #[ptr B]
abbrev jd2(a b c:Nat):Value:=.func (.func 214) #[] #[ptr a,ptr b,ptr c]
abbrev j75(a b:Nat):Value:=.func (.func 246) #[] #[ptr a,ptr b]
abbrev Yh(a b:Nat):Value:=.func (.func 197) #[] #[ptr a,ptr b]
abbrev doV(a:Nat):Value:=.func (.func 172) #[] #[ptr a]
abbrev stV(a b c:Nat):Value:=.func (.func 145) #[] #[ptr a,ptr b,ptr c]
abbrev ER(a:Nat):Value:=.func (.func 168) #[] #[ptr a]
def JW(w:World)(a:Option Addr)(l:List VD):Prop:=l≠[]->∃ad,a=some ad/\ad.block<w.heap.size/\∀j v,(hL l)[j]?=some v->w.cell? (ad.add j)=some v
theorem yf4(a:Addr)(j:Nat):(a.add j).block=a.block:=by cases j<;>rfl
theorem JW.step{X:RX}{d d':MD}{u u':World}{a:Option Addr}{l:List VD}(h:JW u a l)(hn:∀ad,a=some ad->l≠[]->¬stB X d ad.block)(k:Sp X d u d' u'):JW u' a l/\∀ad,a=some ad->l≠[]->¬stB X d' ad.block:=by
 refine⟨fun hl=>?_,fun ad e hl c=>?_⟩
 ·obtain⟨ad,e,h1,h2⟩:=h hl;exact⟨ad,e,aH h1 k.g.size,fun j v hv=>(ak (a:=ad.add j) (by rw[yf4];exact k.g.block _ h1 (hn ad e hl))).trans (h2 j v hv)⟩
 ·obtain⟨ad',e',h1,_⟩:=h hl;rw[e] at e'
  cases e';exact hn ad e hl (k.mv _ h1 c)
theorem yp2(N:Nat)(w:World)(g c c2:Nat)(a2:Option Addr)(l l2:List VD)(hN:N<=w.heap.size)(ho:Dy N w g c l)(h2:JW w a2 l2)(hb:l.length+l2.length<=100000)(hnil:l2=[]->a2=none/\c2=0):∃g3 c3 w',(Builtin.append_ #[119,119] 119 #[.slice (some ⟨g,0,none⟩) l.length c,.slice a2 l2.length c2]).run Tryz.prog w=.ok (.slice (some ⟨g3,0,none⟩) (l++l2).length c3) w'/\Dy N w' g3 c3 (l++l2)/\w.grownBy w' (some g)/\(g3=g\/g3=w.heap.size):=by
 obtain⟨i0,gU,gQ,hy1,hy2⟩:=bT NR;by_cases hl:l2=[]
 ·obtain⟨rfl,rfl⟩:=hnil hl;subst hl;have hr:=run_append_owned_none (P:=Tryz.prog) (w:=w) N 119 119 61 i0 5 Tryz.underlying119 gU (.slice (some ⟨g,0,none⟩) l.length c) l.length (hL l) ho;exact⟨g,c,w,by simpa using hr,by simpa using ho,⟨rfl,rfl,rfl,ah _,fun _ _ _=>rfl⟩,.inl rfl⟩
 ·obtain⟨ad,rfl,gK,hc⟩:=h2 hl;have hpos:0<l2.length:=List.length_pos_iff.2 hl;obtain⟨v',w',hr,gB,gY,hnl,hat⟩:=run_append_own_at (P:=Tryz.prog) w N 119 119 61 i0 _ 5 48 Tryz.underlying119 gU gQ hy1 hy2 rfl (by decide) (.slice (some ⟨g,0,none⟩) l.length c) l.length (hL l) ho ad l2.length c2 (hL l2) (z52 l2) hc (V6 l2) (by unfold maxLen;omega) (by omega) hN;have hne:v'≠.slice none 0 0:=fun e=>by
   have:=(hnl.1 e);simp at this
  rcases gB.2 with⟨e,_⟩|⟨g3,c3,cur,e,_⟩
  ·exact absurd e hne
  ·subst e;refine⟨g3,c3,w',by rw[aU];exact hr,?_,gY,by simpa[Value.ownBlock] using hat⟩;show w'.ownsRow N _ 5 (.slice (some ⟨g3,0,none⟩) (l++l2).length c3) (l++l2).length (hL (l++l2));rw[QH,aU];exact gB
theorem Dy.at{N:Nat}{w:World}{g c:Nat}{l:List VD}(h:Dy N w g c l):∀j v,(hL l)[j]?=some v->w.cell? ((⟨g,0,none⟩:Addr).add j)=some v:=fun j v e=>by
 have:=h.cells (g:=g) rfl j v e
 cases j<;>simpa[Addr.add] using this
theorem DP.zX(p:DP)(l:List VD){m:Nat}(e:(p.held++l).length-l.length=m):(p.hold l).kH m=p:=by
 have:p.held.length=m:=by rw[aU] at e;omega
 exact DP.o8 p l this
end
section
open Go.RowKit
abbrev inD(n:Int):VD:=⟨2,n,0,⟨#[]⟩,0⟩
attribute [local go_sem] iD
attribute [local go_sem ↓] Go.wp_at_zero Go.wp_at_succ
def jk(X:RX)(d:MD)(u:World)(B:Nat)(A:Array Value):Prop:=OwnB u B A/\¬stB X d B
section
variable {X:RX}{d d':MD}{u u':World}{B:Nat}{A:Array Value}
theorem jk.step(h:jk X d u B A)(k:Sp X d u d' u'):jk X d' u' B A:=⟨k.g.ownB h.1 h.2,fun e=>h.2 (k.mv B h.1.1.1 e)⟩
theorem jk.new(h:St X d u)(A:Array Value)(t:TypeId):jk X d (u.alloc (.cells A t)) u.heap.size A:=⟨OwnB.new u A t,h.other (ah _)⟩
theorem jk.alloc(h:jk X d u B A)(o:Obj):jk X d (u.alloc o) B A:=⟨h.1.block (by simp) (dH u o B h.1.1.1),h.2⟩
theorem jk.bx(h:jk X d u B A):Bx X d u B A:=⟨h.1.1,h.2⟩
theorem LH(w:World)(B:Nat)(a b c e f:Value):Gx (fun k=>k=B) w (((((w.setCell ⟨B,0,none⟩ a).setCell ⟨B,1,none⟩ b).setCell ⟨B,2,none⟩ c).setCell ⟨B,3,none⟩ e).setCell ⟨B,4,none⟩ f):=
 ((((Gx.set _ _ _ _).trans (Gx.set _ _ _ _) (fun _ _ h=>h)).trans (Gx.set _ _ _ _) (fun _ _ h=>h)).trans (Gx.set _ _ _ _) (fun _ _ h=>h)).trans (Gx.set _ _ _ _) (fun _ _ h=>h)
end
abbrev z5:Array Value:=#[.int .i64 0,.int .i64 0,.float .f64 0,.string ⟨#[]⟩,.int .i64 0]
theorem zn8(f:Value)(u:World):Calls Tryz.prog 213 #[f] u fun e w'=>e=.returned (.slice none 0 0)/\w'=u:=by
 go_in;go_wp2_with fail;go_ret;exact⟨rfl,rfl⟩
end
section
open Go.RowKit
attribute [local go_sem] iD
attribute [local go_sem ↓] Go.wp_at_zero Go.wp_at_succ
theorem y89(X:RX)(d:MD)(n:Nat)(u:World)(h:St X d u)(hc:d.lv+d.sin+n<=X.ce)(hm:d.jc<=100000):Calls Tryz.prog 279 #[ptr X.M,.int .i64 (n:Int)] u fun e w'=>e=.returned (.tuple #[])/\To X d u (d.p.paid n) w':=by
 have HS:Hid (St X d u):=h;have hce:=h.x.kc;have c5:u.cell? ⟨X.M,5,none⟩=some (.int .i64 (X.ce:Int)):=h.m.1.cell 5 rfl;have c14:u.cell? ⟨X.M,14,none⟩=some (.int .i64 (d.jc:Int)):=h.m.1.cell 14 rfl;have c20:u.cell? ⟨X.M,20,none⟩=some (.int .i64 (d.lv:Int)):=h.m.1.cell 20 rfl;have c21:u.cell? ⟨X.M,21,none⟩=some (.int .i64 (d.sin:Int)):=h.m.1.cell 21 rfl;have z:=h.m.2;have gK:decide ((X.ce:Int)<IntKind.i64.wrap (IntKind.i64.wrap ((d.lv:Int)+(d.sin:Int))+(n:Int)))=false:=by
  have e1:IntKind.i64.wrap ((d.lv:Int)+(d.sin:Int))=(d.lv:Int)+(d.sin:Int):=by
   have:=RH (q:=d.lv+d.sin) (by omega);simpa using this
  have e2:IntKind.i64.wrap ((d.lv:Int)+(d.sin:Int)+(n:Int))=(d.lv:Int)+(d.sin:Int)+(n:Int):=by
   have:=RH (q:=d.lv+d.sin+n) (by omega);simpa using this
  rw[e1,e2];simp;omega
 have HF:Hid (To X d u (d.p.paid n) ((u.setCell ⟨X.M,21,none⟩ (.int .i64 ((d.sin:Int)+(n:Int)))).setCell ⟨X.M,14,none⟩ (.int .i64 ((d.jc:Int)+(n:Int)))).drew):=by
  have h1:=Sp.since h (d.sin+n);have h2:=Sp.made h1.s (d.jc+n);have h3:=(h1.trans h2).drew;rw[show(((d.sin+n:Nat)):Int)=(d.sin:Int)+(n:Int) by omega,show(((d.jc+n:Nat)):Int)=(d.jc:Int)+(n:Int) by omega] at h3;exact⟨_,h3,rfl⟩
 go_in;go_wp2_with fail
 go_region_held3 (fun w'=>w'.cell? ⟨X.M,5,none⟩=some (.int .i64 (X.ce:Int))/\w'.cell? ⟨X.M,20,none⟩=some (.int .i64 (d.lv:Int))/\w'.cell? ⟨X.M,21,none⟩=some (.int .i64 (d.sin:Int))) (exact⟨c5,c20,c21⟩) (fail)
 go_wp2_with fail;go_end0;exact⟨rfl,HF⟩
end
end Go.Proofs.YthnkncpegihbhaaGreatDoor
