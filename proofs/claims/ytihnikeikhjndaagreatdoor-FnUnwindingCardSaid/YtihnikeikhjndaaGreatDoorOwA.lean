import Derived.Test.YtihnikeikhjndaaGreatDoorUnA
import Derived.Deep.AppendLies
import Derived.Test.YtihnikeikhjndaaGreatDoorDcA
import Derived.Lib.ItoaNum
set_option maxRecDepth 100000
set_option maxHeartbeats 16000000
namespace Go.Proofs.YtihnikeikhjndaaGreatDoor
section
open Go.RowKit
theorem sU{u:World}{N K:Nat}{t:TypeId}{v:Value}{n:Nat}{xs:List Value}(h:u.ownsRow N t K v n xs):∃a cap,v=.slice a n cap:=by
 rcases h.2 with⟨rfl,rfl⟩|⟨g,cap,cur,rfl,_⟩
 ·exact⟨_,_,rfl⟩
 ·exact⟨_,_,rfl⟩
theorem jS{u w:World}{N K:Nat}{t:TypeId}{v:Value}{n:Nat}{xs:List Value}(h:u.ownsRow N t K v n xs)(hk:∀k,v.ownBlock=some k->w.heap[k]?=u.heap[k]?):w.ownsRow N t K v n xs:=by
 refine⟨h.1,?_⟩;rcases h.2 with h2|⟨g,cap',cur,e2,h3,hh,r⟩
 ·exact .inl h2
 ·exact .inr ⟨g,cap',cur,e2,h3,(hk g (by rw[e2];rfl)).trans hh,r⟩
theorem mZ{u w:World}{N K:Nat}{t:TypeId}{v:Value}{n:Nat}{xs:List Value}(h:u.ownsRow N t K v n xs)(hb:ah u w):w.ownsRow N t K v n xs:=
 jS h fun k e=>hb.block k (h.lt k e).2
theorem jh{u:World}{N K:Nat}{t:TypeId}{v:Value}{n:Nat}{xs:List Value}(h:u.ownsRow N t K v n xs){R j:Nat}(x:Value)(hR:∀k,v.ownBlock=some k->k≠R):(u.setCell ⟨R,j,none⟩ x).ownsRow N t K v n xs:=
 jS h fun k e=>Below.heap_setCell _ _ _ _ (by have:=hR k e;exact this)
theorem yD(w:World)(cs:Array Value)(t:TypeId):∀(j:Nat) (u:Value),cs.toList[j]?=some u->(w.alloc (.cells cs t)).cell? ((⟨w.heap.size,0,none⟩:Addr).add j)=some u:=
 World.news_of_block (cs:=cs) (t:=t) (fr:=(0,0)) (MapKept.heap_alloc w _).1
theorem TD:∀(k j:Nat) (l:List UInt8),j<10 ^ (k+1)->jU (k+1) j l=Lib.decDigits j++l
 |0,j,l,h=>by
  have h1:j<10:=by simpa using h
  rw[z25 (by omega),Lib.decDigits_one h1];have:(48+(j:Int)%10).toNat=48+j:=by omega
  simp[oJ,this]
 |k+1,j,l,h=>by
  by_cases c:j / 10=0
  ·have h1:j<10:=by omega
   rw[z25 c,Lib.decDigits_one h1];have:(48+(j:Int)%10).toNat=48+j:=by omega
   simp[oJ,this]
  ·have h1:¬j<10:=by omega
   rw[Ua c,TD k (j / 10) _ (by rw[Nat.pow_succ] at h;omega)]
   conv=>rhs;rw[Lib.decDigits,dif_neg h1]
   have:(48+(j:Int)%10).toNat=48+j%10:=by omega
   simp[oJ,this]
theorem UL(n:Int)(h:dU n):bI n=Lib.itoa n:=by
 unfold dU at h;have hb:n.natAbs<10 ^ (19+1):=by
  have:n.natAbs<=9223372036854775808:=by omega
  exact Nat.lt_of_le_of_lt this (by decide)
 unfold bI Lib.itoa;rw[TD 19 n.natAbs [] hb,List.append_nil];by_cases c:n<0
 ·rw[if_pos c,if_pos c]
 ·rw[if_neg c,if_neg c];have:n.natAbs=n.toNat:=by omega
  rw[this]
theorem KY(n:Int):(bI n).length<=21:=by
 have h:=NZ 20 n.natAbs [];unfold bI;split
 ·simp at h ⊢;omega
 ·simp at h ⊢;omega
structure Gx(S:Nat->Prop)(w w':World):Prop where
 os:w'.os=w.os
 tape:w'.tape=w.tape
 output:w'.output=w.output
 size:w.heap.size<=w'.heap.size
 block:∀k,k<w.heap.size->¬S k->w'.heap[k]?=w.heap[k]?
theorem Gx.refl(S:Nat->Prop)(w:World):Gx S w w:=⟨rfl,rfl,rfl,Nat.le_refl _,fun _ _ _=>rfl⟩
theorem Gx.trans{S S':Nat->Prop}{a b c:World}(h:Gx S a b)(k:Gx S' b c)(hs:∀i,i<a.heap.size->S' i->S i):Gx S a c:=
 ⟨k.os.trans h.os,k.tape.trans h.tape,k.output.trans h.output,Nat.le_trans h.size k.size,fun i hi hn=>(k.block i (Nat.lt_of_lt_of_le hi h.size) (fun e=>hn (hs i hi e))).trans (h.block i hi hn)⟩
theorem Gx.below{w w':World}(S:Nat->Prop)(h:ah w w'):Gx S w w':=⟨h.os,h.tape,h.output,h.size,fun k hk _=>h.block k hk⟩
theorem Gx.grown{w w':World}{r:Option Nat}(h:w.grownBy w' r):Gx (fun k=>r=some k) w w':=⟨h.os,h.tape,h.output,h.size,fun k hk hn=>h.block k hk fun e=>hn e.symm⟩
theorem Gx.mono{S S':Nat->Prop}{w w':World}(h:Gx S w w')(hs:∀k,S k->S' k):Gx S' w w':=⟨h.os,h.tape,h.output,h.size,fun k hk hn=>h.block k hk fun e=>hn (hs k e)⟩
theorem Gx.to{S:Nat->Prop}{w w':World}{N:Nat}(h:Gx S w w')(hN:N<=w.heap.size)(hs:∀k,S k->N<=k):Below N w w':=⟨h.os,h.tape,h.output,h.size,fun k hk=>h.block k (by omega) fun e=>by have:=hs k e;omega⟩
theorem Gx.set(w:World)(g j:Nat)(v:Value):Gx (fun k=>k=g) w (w.setCell ⟨g,j,none⟩ v):=⟨rfl,rfl,rfl,by simp,fun x _ hn=>Below.heap_setCell _ _ _ _ hn⟩
theorem Gx.has{S:Nat->Prop}{w w':World}(h:Gx S w w'){B:Nat}{A:Array Value}(hh:Has w B A)(hn:¬S B):Has w' B A:=⟨Nat.lt_of_lt_of_le hh.1 h.size,fun o=>(World.cell?_of_block (a:=⟨B,o,none⟩) (h.block B hh.1 hn)).trans (hh.2 o)⟩
theorem Gx.row{S:Nat->Prop}{w w':World}(h:Gx S w w'){K L n:Nat}{a:Option Addr}{q:Nat->Array Value}(hr:aP K L w a n q)(hn:∀b,a=some b->¬S b.block):aP K L w' a n q:=fun h0=>by
 obtain⟨b,off,e,h1,h2,h3⟩:=hr h0;exact⟨b,off,e,h1,Nat.lt_of_lt_of_le h2 h.size,fun i hi j hj=>(World.cell?_of_block (a:=⟨b,off+i*K+j,none⟩) (h.block b h2 (hn _ e))).trans (h3 i hi j hj)⟩
def v5(x:VD):List Value:=[.int .i64 x.k,.int .i64 x.n,.float .f64 x.f,.string x.s,.int .i64 x.r]
def r5(x:eP):List Value:=[.int .i64 x.k,.int .i64 x.t,.int .i64 x.f,.int .i64 x.l,.string x.s]
def hL(l:List VD):List Value:=l.flatMap v5
def rL(l:List eP):List Value:=l.flatMap r5
def iL(l:List Int):List Value:=l.map fun v=>.int .i64 v
theorem zx(l:List VD):(hL l).length=l.length*5:=by
 induction l with
 |nil=>rfl
 |cons x l ih=>simp[hL,v5] at ih ⊢;omega
theorem Kw(a b:List VD):hL (a++b)=hL a++hL b:=by simp[hL]
theorem yk1(a b:List eP):rL (a++b)=rL a++rL b:=by simp[rL]
theorem yl6(a b:List Int):iL (a++b)=iL a++iL b:=by simp[iL]
theorem ye9(l:List VD)(n:Nat):hL (l.take n)=(hL l).take (n*5):=by
 induction l generalizing n with
 |nil=>simp[hL]
 |cons x l ih=>
  cases n with
  |zero=>simp[hL]
  |succ n=>
   have:=ih n;simp only[List.take_succ_cons];show v5 x++hL (l.take n)=(v5 x++hL l).take ((n+1)*5);rw[this,show(n+1)*5=(v5 x).length+n*5 by simp[v5];omega,List.take_length_add_append]
structure MD where
 recs:List eP
 ra:Option Addr
 rc:Nat
 ti:Nat
 tab:Value
 gq:Value
 held:List VD
 ha:Option Addr
 hc:Nat
 sc:List Int
 sa:Option Addr
 sp:Nat
 line:Int
 vs:List Value
 fM:Nat
 sin:Nat
 cls:Value
 fr:List Value
 fa:Option Addr
 fc:Nat
 df:Value
 tb:Nat->Prop
 TP:World->Prop
structure RX where
 M:Nat
 T:Nat
 F:Nat
 V:Nat
 N:Nat
 W:World
 fns:Value
 jB:Value
 tks:Value
 en:Value
 c1:Value
 c2:Value
 c3:Value
 tk:Nat
 dp:Nat
 ce:Nat
 fn:Int
 cal:VD
 ups:Value
 rest:Value
 fl:Nat
 nv:Nat
abbrev yX:Value:=.func (.func 10) #[] #[]
abbrev mA(X:RX)(d:MD):Array Value:=#[X.fns,.slice none 0 0,.slice none 0 0,.int .i64 (X.tk:Int),.int .i64 (X.dp:Int),.int .i64 (X.ce:Int),yX,X.jB,.int .i64 0,.slice d.ra d.recs.length d.rc,.slice none 0 0,.string ⟨#[]⟩,.string ⟨#[]⟩,.int .i64 (d.ti:Int),.int .i64 (d.fM:Int),.int .i64 0,d.tab,d.cls,X.tks,d.gq,.int .i64 0,.int .i64 (d.sin:Int),.int .i64 0,.pointer (some ⟨X.T,0,none⟩),X.en,.int .u64 0,.int .u32 0]
abbrev tA(X:RX)(d:MD):Array Value:=#[.int .i64 0,.int .i64 2,.int .i64 0,.int .i64 0,.float .f64 0,.string ⟨#[]⟩,.int .i64 0,.slice d.fa X.fl d.fc,.slice d.ha d.held.length d.hc,.pointer none,X.c1,X.c2,X.c3,.bool false,.pointer none,.int .i64 0,.int .i64 0]
abbrev fA(X:RX)(d:MD):Array Value:=#[.pointer (some ⟨X.T,0,none⟩),.int .i64 X.fn,.int .i64 X.cal.k,.int .i64 X.cal.n,.float .f64 X.cal.f,.string X.cal.s,.int .i64 X.cal.r,X.ups,.slice (some ⟨X.V,0,none⟩) X.nv X.nv,X.rest,.slice d.sa d.sc.length d.sp,d.df,.int .i64 d.line]
def stB(X:RX)(d:MD)(k:Nat):Prop:=k=X.M\/k=X.T\/k=X.F\/k=X.V\/aj d.ra=some k\/aj d.ha=some k\/aj d.sa=some k\/aj d.fa=some k\/d.tb k
def kZ(X:RX)(d:MD)(k:Nat):Prop:=k=X.M\/k=X.T\/k=X.F\/k=X.V\/aj d.ra=some k\/aj d.ha=some k\/aj d.sa=some k\/aj d.fa=some k
theorem kZ.b{X:RX}{d:MD}{k:Nat}(h:kZ X d k):stB X d k:=by unfold kZ at h;unfold stB;simp only[<-or_assoc] at h ⊢;exact .inl h
theorem stB.tb{X:RX}{d:MD}{k:Nat}(h:d.tb k):stB X d k:=.inr (.inr (.inr (.inr (.inr (.inr (.inr (.inr h)))))))
theorem stB.or{X:RX}{d:MD}{k:Nat}(h:stB X d k):kZ X d k\/d.tb k:=by unfold stB at h;unfold kZ;simp only[<-or_assoc] at h ⊢;exact h
abbrev Jr(N:Nat)(u:World)(d:MD):Prop:=u.ownsRow N 49 5 (.slice d.ra d.recs.length d.rc) d.recs.length (rL d.recs)
abbrev Na(N:Nat)(u:World)(d:MD):Prop:=u.ownsRow N 53 5 (.slice d.ha d.held.length d.hc) d.held.length (hL d.held)
abbrev N9(N:Nat)(u:World)(d:MD):Prop:=u.ownsRow N 3 1 (.slice d.sa d.sc.length d.sp) d.sc.length (iL d.sc)
abbrev RV(X:RX)(u:World)(d:MD):Prop:=u.ownsRow X.N 125 1 (.slice d.fa X.fl d.fc) X.fl d.fr
structure RX.ok(X:RX):Prop where
 m:X.M<X.W.heap.size
 t:X.W.heap.size<=X.T
 f:X.W.heap.size<=X.F
 v:X.W.heap.size<=X.V
 nW:X.W.heap.size<=X.N
 f0:0<X.fl
 f2:X.fl<=1000
 kt:X.tk<=5000
 kd:X.dp<=60
 kc:X.ce<=20000
def dA(w:World)(B:Nat)(t:TypeId):Prop:=∃A fr,w.heap[B]?=some (.cells A t fr)
theorem dA.ne{w:World}{B C:Nat}{t s:TypeId}(h:dA w B t)(k:dA w C s)(hts:t≠s):B≠C:=fun e=>by
 subst e;obtain⟨A,fr,h1⟩:=h;obtain⟨A',fr',h2⟩:=k;rw[h1] at h2
 cases h2;exact hts rfl
theorem dA.keep{w w':World}{B:Nat}{t:TypeId}(h:dA w B t)(hk:w'.heap[B]?=w.heap[B]?):dA w' B t:=by
 obtain⟨A,fr,h1⟩:=h;exact⟨A,fr,hk.trans h1⟩
theorem dA.lt{w:World}{B:Nat}{t:TypeId}(h:dA w B t):B<w.heap.size:=by
 obtain⟨A,fr,h1⟩:=h;exact(Array.getElem?_eq_some_iff.1 h1).1
theorem dA.set{w:World}{B:Nat}{t:TypeId}(h:dA w B t)(p:Addr)(v:Value):dA (w.setCell p v) B t:=by
 by_cases e:B=p.block
 ·obtain⟨A,fr,h1⟩:=h;rw[e] at h1 ⊢;refine⟨(if p.spot.isSome=true then A else A.setIfInBounds p.off v),fr,?_⟩;simp[World.setCell,Array.getElem?_modify,h1]
 ·exact h.keep (Below.heap_setCell w p v B e)
theorem dA.new(w:World)(A:Array Value)(t:TypeId):dA (w.alloc (.cells A t)) w.heap.size t:=⟨A,_,heap_alloc_new w _⟩
structure lH(X:RX)(u:World):Prop where
 m:dA u X.M 77
 t:dA u X.T 120
 f:dA u X.F 174
 v:dA u X.V 222
theorem lH.keep{X:RX}{u u':World}(h:lH X u)(hk:∀k,(k=X.M\/k=X.T\/k=X.F\/k=X.V)->u'.heap[k]?=u.heap[k]?):lH X u':=
 ⟨h.m.keep (hk _ (.inl rfl)),h.t.keep (hk _ (.inr (.inl rfl))),h.f.keep (hk _ (.inr (.inr (.inl rfl)))),h.v.keep (hk _ (.inr (.inr (.inr rfl))))⟩
theorem lH.set{X:RX}{u:World}(h:lH X u)(p:Addr)(v:Value):lH X (u.setCell p v):=⟨h.m.set p v,h.t.set p v,h.f.set p v,h.v.set p v⟩
theorem lH.tm{X:RX}{u:World}(h:lH X u):X.T≠X.M:=h.t.ne h.m (by decide)
theorem lH.fm{X:RX}{u:World}(h:lH X u):X.F≠X.M:=h.f.ne h.m (by decide)
theorem lH.vm{X:RX}{u:World}(h:lH X u):X.V≠X.M:=h.v.ne h.m (by decide)
theorem lH.tf{X:RX}{u:World}(h:lH X u):X.T≠X.F:=h.t.ne h.f (by decide)
theorem lH.tv{X:RX}{u:World}(h:lH X u):X.T≠X.V:=h.t.ne h.v (by decide)
theorem lH.fv{X:RX}{u:World}(h:lH X u):X.F≠X.V:=h.f.ne h.v (by decide)
theorem lH.row{X:RX}{u:World}(h:lH X u){B:Nat}(hB:B=X.M\/B=X.T\/B=X.F\/B=X.V):∃t,dA u B t/\t≠49/\t≠53/\t≠3/\t≠125:=by
 rcases hB with rfl|rfl|rfl|rfl
 ·exact⟨_,h.m,by decide,by decide,by decide,by decide⟩
 ·exact⟨_,h.t,by decide,by decide,by decide,by decide⟩
 ·exact⟨_,h.f,by decide,by decide,by decide,by decide⟩
 ·exact⟨_,h.v,by decide,by decide,by decide,by decide⟩
theorem jJ{N:Nat}{u:World}{t:TypeId}{K n m cap:Nat}{a:Option Addr}{xs:List Value}(h:u.ownsRow N t K (.slice a m cap) n xs){k:Nat}(e:aj a=some k):dA u k t:=by
 rcases h.2 with⟨c,_⟩|⟨g,_,cur,c,_,hg,_⟩
 ·cases c;cases e
 ·cases c;cases e;exact⟨_,_,hg⟩
structure yO(N:Nat)(tb:Nat->Prop)(TP:World->Prop)(u:World):Prop where
 p:TP u
 s:∀w w':World,TP w->w.heap.size<=w'.heap.size->(∀k,tb k->w'.heap[k]?=w.heap[k]?)->TP w'
 a:∀k,tb k->N<=k/\k<u.heap.size
theorem yO.keep{N:Nat}{tb:Nat->Prop}{TP:World->Prop}{u u':World}(h:yO N tb TP u)(hs:u.heap.size<=u'.heap.size)(hk:∀k,tb k->u'.heap[k]?=u.heap[k]?):yO N tb TP u':=⟨h.s u u' h.p hs hk,h.s,fun k e=>⟨(h.a k e).1,Nat.lt_of_lt_of_le (h.a k e).2 hs⟩⟩
structure St(X:RX)(d:MD)(u:World):Prop where
 x:X.ok
 m:OwnB u X.M (mA X d)
 t:OwnB u X.T (tA X d)
 f:OwnB u X.F (fA X d)
 v:OwnB u X.V d.vs.toArray
 fw:RV X u d
 rr:Jr X.N u d
 hr:Na X.N u d
 sr:N9 X.N u d
 k:Gx (fun k=>k=X.M\/X.W.heap.size<=k) X.W u
 n:X.N<=u.heap.size
 nv:d.vs.length=X.nv
 ty:lH X u
 r0:d.fr[X.fl-1]?=some (.pointer (some ⟨X.F,0,none⟩))
 tt:yO X.N d.tb d.TP u
 ts:∀k,d.tb k->¬kZ X d k
theorem q16{N:Nat}{u:World}{t:TypeId}{K n m cap:Nat}{a:Option Addr}{xs:List Value}(h:u.ownsRow N t K (.slice a m cap) n xs){k:Nat}(e:aj a=some k):N<=k/\k<u.heap.size:=h.lt k ((dD a m cap).trans e)
theorem sQ{N:Nat}{u:World}{t t':TypeId}{K K' n n' m m' cap cap':Nat}{a a':Option Addr}{xs xs':List Value}(h:u.ownsRow N t K (.slice a m cap) n xs)(h':u.ownsRow N t' K' (.slice a' m' cap') n' xs')(ht:t≠t'){k:Nat}(e:aj a=some k):aj a'≠some k:=fun e'=>by
 rcases h.2 with⟨c,_⟩|⟨g,_,cur,c,_,hg,_⟩
 ·cases c;cases e
 ·rcases h'.2 with⟨c',_⟩|⟨g',_,cur',c',_,hg',_⟩
  ·cases c';cases e'
  ·cases c;cases c'
   cases e;cases e';rw[hg] at hg'
   cases hg';exact ht rfl
section
variable {X:RX}{d d' d'':MD}{u u' u'':World}
theorem St.lt(h:St X d u){k:Nat}(e:stB X d k):k<u.heap.size:=by
 rcases e with rfl|rfl|rfl|rfl|e|e|e|e|e
 ·exact h.m.1.1
 ·exact h.t.1.1
 ·exact h.f.1.1
 ·exact h.v.1.1
 ·exact(q16 h.rr e).2
 ·exact(q16 h.hr e).2
 ·exact(q16 h.sr e).2
 ·exact(q16 h.fw e).2
 ·exact(h.tt.a _ e).2
theorem St.other(h:St X d u){B:Nat}(hB:u.heap.size<=B):¬stB X d B:=fun e=>by have:=h.lt e;omega
structure Sp(X:RX)(d:MD)(u:World)(d':MD)(u':World):Prop where
 s:St X d' u'
 g:Gx (stB X d) u u'
 mv:∀k,k<u.heap.size->stB X d' k->stB X d k
theorem Sp.refl(h:St X d u):Sp X d u d u:=⟨h,Gx.refl _ _,fun _ _ e=>e⟩
theorem Sp.trans(h:Sp X d u d' u')(k:Sp X d' u' d'' u''):Sp X d u d'' u'':=
 ⟨k.s,h.g.trans k.g (fun i hi e=>h.mv i hi e),fun i hi e=>h.mv i hi (k.mv i (Nat.lt_of_lt_of_le hi h.g.size) e)⟩
theorem Gx.ownB{S:Nat->Prop}{w w':World}(h:Gx S w w'){B:Nat}{A:Array Value}(hh:OwnB w B A)(hn:¬S B):OwnB w' B A:=hh.block h.size (h.block B hh.1.1 hn)
theorem Sp.below(h:St X d u)(hb:ah u u'):Sp X d u d u':=by
 have hk:∀k,k<u.heap.size->u'.heap[k]?=u.heap[k]?:=fun k hk=>hb.block k hk;have ho:∀{B:Nat} {A:Array Value},OwnB u B A->OwnB u' B A:=fun hh=>hh.block hb.size (hk _ hh.1.1);exact⟨⟨h.x,ho h.m,ho h.t,ho h.f,ho h.v,mZ h.fw hb,mZ h.rr hb,mZ h.hr hb,mZ h.sr hb,h.k.trans (Gx.below _ hb) (fun _ _ e=>e),Nat.le_trans h.n hb.size,h.nv,h.ty.keep (fun k e=>hk k (by
  rcases e with rfl|rfl|rfl|rfl
  ·exact h.m.1.1
  ·exact h.t.1.1
  ·exact h.f.1.1
  ·exact h.v.1.1)),h.r0,h.tt.keep hb.size (fun k e=>hk k (h.tt.a k e).2),h.ts⟩,Gx.below _ hb,fun _ _ e=>e⟩
theorem St.call(h:St X d u)(hb:ah u u'):St X d u':=(Sp.below h hb).s
theorem St.alloc(h:St X d u)(o:Obj):St X d (u.alloc o):=h.call (q01 u o)
theorem St.drew(h:St X d u):St X d u.drew:=h.call (Below.refl _ _).drew
theorem Sp.alloc(h:Sp X d u d' u')(o:Obj):Sp X d u d' (u'.alloc o):=h.trans (Sp.below h.s (q01 _ _))
theorem Sp.drew(h:Sp X d u d' u'):Sp X d u d' u'.drew:=h.trans (Sp.below h.s (Below.refl _ _).drew)
theorem Sp.call(h:Sp X d u d' u')(hb:ah u' u''):Sp X d u d' u'':=h.trans (Sp.below h.s hb)
theorem Sp.first{o:Obj}(h0:St X d u)(h:Sp X d (u.alloc o) d' u'):Sp X d u d' u':=(Sp.below h0 (q01 u o)).trans h
def Bx(X:RX)(d:MD)(u:World)(B:Nat)(A:Array Value):Prop:=Has u B A/\¬stB X d B
theorem Bx.step{B:Nat}{A:Array Value}(h:Bx X d u B A)(k:Sp X d u d' u'):Bx X d' u' B A:=⟨k.g.has h.1 h.2,fun e=>h.2 (k.mv B h.1.1 e)⟩
theorem Bx.new(h:St X d u)(A:Array Value)(t:TypeId):Bx X d (u.alloc (.cells A t)) u.heap.size A:=⟨Has.new u A t,h.other (Nat.le_refl _)⟩
theorem Bx.alloc{B:Nat}{A:Array Value}(h:Bx X d u B A)(o:Obj):Bx X d (u.alloc o) B A:=⟨h.1.alloc o,h.2⟩
theorem Bx.cell{B:Nat}{A:Array Value}(h:Bx X d u B A)(o:Nat){v:Value}(e:A[o]?=some v):u.cell? ⟨B,o,none⟩=some v:=(h.1.2 o).trans e
theorem St.old(h:St X d u){B:Nat}{A:Array Value}(hB:Has X.W B A)(hn:B≠X.M):Has u B A:=h.k.has hB (fun e=>by
 rcases e with e|e
 ·exact hn e
 ·have:=hB.1;omega)
theorem St.oldRow(h:St X d u){K L n:Nat}{a:Option Addr}{q:Nat->Array Value}(hr:aP K L X.W a n q)(hn:∀b,a=some b->b.block≠X.M):aP K L u a n q:=fun h0=>by
 obtain⟨b,off,e,h1,h2,h3⟩:=hr h0;exact⟨b,off,e,h1,Nat.lt_of_lt_of_le h2 h.k.size,fun i hi j hj=>(World.cell?_of_block (a:=⟨b,off+i*K+j,none⟩) (h.k.block b h2 (fun c=>by
  rcases c with c|c
  ·exact hn _ e c
  ·omega))).trans (h3 i hi j hj)⟩
theorem St.put(h:St X d u){B o:Nat}(v:Value)(hB:B=X.M\/B=X.T\/B=X.F\/B=X.V)(m:OwnB (u.setCell ⟨B,o,none⟩ v) X.M (mA X d'))(t:OwnB (u.setCell ⟨B,o,none⟩ v) X.T (tA X d'))(f:OwnB (u.setCell ⟨B,o,none⟩ v) X.F (fA X d'))(w:OwnB (u.setCell ⟨B,o,none⟩ v) X.V d'.vs.toArray)(rr:Jr X.N u d')(hr:Na X.N u d')(sr:N9 X.N u d')(fw:RV X u d')(r0:d'.fr[X.fl-1]?=some (.pointer (some ⟨X.F,0,none⟩)))(hd:∀k,k<u.heap.size->kZ X d' k->kZ X d k)(nH:d'.vs.length=d.vs.length)(hTB:d'.tb=d.tb/\d'.TP=d.TP:=by exact⟨rfl,rfl⟩):Sp X d u d' (u.setCell ⟨B,o,none⟩ v):=by
 have hx:=h.x;have hsR:kZ X d B:=by
  rcases hB with e|e|e|e
  ·exact .inl e
  ·exact .inr (.inl e)
  ·exact .inr (.inr (.inl e))
  ·exact .inr (.inr (.inr (.inl e)))
 have htt:yO X.N d'.tb d'.TP (u.setCell ⟨B,o,none⟩ v):=by
  rw[hTB.1,hTB.2];exact h.tt.keep (by simp) (fun k e=>Below.heap_setCell _ _ _ _ (fun c=>h.ts k e (by rw[c];exact hsR)))
 have hts:∀k,d'.tb k->¬kZ X d' k:=fun k e c=>by
  rw[hTB.1] at e;exact h.ts k e (hd k (h.tt.a k e).2 c)
 have hdB:∀k,k<u.heap.size->stB X d' k->stB X d k:=fun k hk e=>by
  rcases e.or with e|e
  ·exact(hd k hk e).b
  ·rw[hTB.1] at e;exact stB.tb e
 obtain⟨tB,hT,n1,n2,n3,n4⟩:=h.ty.row (B:=B) hB;have g:Gx (stB X d) u (u.setCell ⟨B,o,none⟩ v):=(Gx.set u B o v).mono (fun k e=>by
  subst e;rcases hB with e|e|e|e
  ·exact .inl e
  ·exact .inr (.inl e)
  ·exact .inr (.inr (.inl e))
  ·exact .inr (.inr (.inr (.inl e))))
 refine⟨⟨hx,m,t,f,w,jh fw _ fun k e=>(jJ fw ((dD _ _ _).symm.trans e)).ne hT (Ne.symm n4),jh rr _ fun k e=>(jJ rr ((dD _ _ _).symm.trans e)).ne hT (Ne.symm n1),jh hr _ fun k e=>(jJ hr ((dD _ _ _).symm.trans e)).ne hT (Ne.symm n2),jh sr _ fun k e=>(jJ sr ((dD _ _ _).symm.trans e)).ne hT (Ne.symm n3),?_,by simpa using h.n,nH.trans h.nv,h.ty.set _ _,r0,htt,hts⟩,g,hdB⟩;exact h.k.trans (Gx.set u B o v) (fun k _ e=>by
  subst e;rcases hB with e|e|e|e
  ·exact .inl e
  ·exact .inr (e ▸ hx.t)
  ·exact .inr (e ▸ hx.f)
  ·exact .inr (e ▸ hx.v))
end
end
end Go.Proofs.YtihnikeikhjndaaGreatDoor
