import Derived.Test.YthnkncpegihbhaaGreatDoorUnA
import Derived.Deep.AppendLies
import Derived.Test.YthnkncpegihbhaaGreatDoorDcA
import Derived.Lib.ItoaNum
set_option maxRecDepth 100000
set_option maxHeartbeats 16000000
namespace Go.Proofs.YthnkncpegihbhaaGreatDoor
section
open Go.RowKit
theorem zO{u:World}{N K:Nat}{t:TypeId}{v:Value}{n:Nat}{xs:List Value}(h:u.ownsRow N t K v n xs):∃a cap,v=.slice a n cap:=by
 rcases h.2 with⟨rfl,rfl⟩|⟨g,cap,cur,rfl,_⟩
 ·exact⟨_,_,rfl⟩
 ·exact⟨_,_,rfl⟩
theorem nY{u w:World}{N K:Nat}{t:TypeId}{v:Value}{n:Nat}{xs:List Value}(h:u.ownsRow N t K v n xs)(hk:∀k,v.ownBlock=some k->w.heap[k]?=u.heap[k]?):w.ownsRow N t K v n xs:=by
 refine⟨h.1,?_⟩;rcases h.2 with h2|⟨g,cap',cur,e2,h3,hh,r⟩
 ·exact .inl h2
 ·exact .inr ⟨g,cap',cur,e2,h3,(hk g (by rw[e2];rfl)).trans hh,r⟩
theorem q35{u w:World}{N K:Nat}{t:TypeId}{v:Value}{n:Nat}{xs:List Value}(h:u.ownsRow N t K v n xs)(hb:gZ u w):w.ownsRow N t K v n xs:=
 nY h fun k e=>hb.block k (h.lt k e).2
theorem q23{u:World}{N K:Nat}{t:TypeId}{v:Value}{n:Nat}{xs:List Value}(h:u.ownsRow N t K v n xs){R j:Nat}(x:Value)(hR:∀k,v.ownBlock=some k->k≠R):(u.setCell ⟨R,j,none⟩ x).ownsRow N t K v n xs:=
 nY h fun k e=>aK _ _ _ _ (by have:=hR k e;exact this)
theorem Az(w:World)(cs:Array Value)(t:TypeId):∀(j:Nat) (u:Value),cs.toList[j]?=some u->(w.alloc (.cells cs t)).cell? ((⟨w.heap.size,0,none⟩:Addr).add j)=some u:=
 World.news_of_block (cs:=cs) (t:=t) (fr:=(0,0)) (MapKept.heap_alloc w _).1
theorem yd8:∀(k j:Nat) (l:List UInt8),j<10 ^ (k+1)->rQ (k+1) j l=Lib.decDigits j++l
 |0,j,l,h=>by
  have h1:j<10:=by simpa using h
  rw[UC (by omega),Lib.decDigits_one h1];have:(48+(j:Int)%10).toNat=48+j:=by omega
  simp[zf,this]
 |k+1,j,l,h=>by
  by_cases c:j / 10=0
  ·have h1:j<10:=by omega
   rw[UC c,Lib.decDigits_one h1];have:(48+(j:Int)%10).toNat=48+j:=by omega
   simp[zf,this]
  ·have h1:¬j<10:=by omega
   rw[Ze c,yd8 k (j / 10) _ (by rw[Nat.pow_succ] at h;omega)]
   conv=>rhs;rw[Lib.decDigits,dif_neg h1]
   have:(48+(j:Int)%10).toNat=48+j%10:=by omega
   simp[zf,this]
theorem ye2(n:Int)(h:Ac n):kS n=Lib.itoa n:=by
 unfold Ac at h;have hb:n.natAbs<10 ^ (19+1):=by
  have:n.natAbs<=9223372036854775808:=by omega
  exact Nat.lt_of_le_of_lt this (by decide)
 unfold kS Lib.itoa;rw[yd8 19 n.natAbs [] hb,bM];by_cases c:n<0
 ·rw[aO c,aO c]
 ·rw[au c,au c];have:n.natAbs=n.toNat:=by omega
  rw[this]
structure Gx(S:Nat->Prop)(w w':World):Prop where
 os:w'.os=w.os
 tape:w'.tape=w.tape
 output:w'.output=w.output
 size:w.heap.size<=w'.heap.size
 block:∀k,k<w.heap.size->¬S k->w'.heap[k]?=w.heap[k]?
theorem Gx.refl(S:Nat->Prop)(w:World):Gx S w w:=⟨rfl,rfl,rfl,ah _,fun _ _ _=>rfl⟩
theorem Gx.trans{S S':Nat->Prop}{a b c:World}(h:Gx S a b)(k:Gx S' b c)(hs:∀i,i<a.heap.size->S' i->S i):Gx S a c:=
 ⟨k.os.trans h.os,k.tape.trans h.tape,k.output.trans h.output,aV h.size k.size,fun i hi hn=>(k.block i (aH hi h.size) (fun e=>hn (hs i hi e))).trans (h.block i hi hn)⟩
theorem Gx.below{w w':World}(S:Nat->Prop)(h:gZ w w'):Gx S w w':=⟨h.os,h.tape,h.output,h.size,fun k hk _=>h.block k hk⟩
theorem Gx.grown{w w':World}{r:Option Nat}(h:w.grownBy w' r):Gx (fun k=>r=some k) w w':=⟨h.os,h.tape,h.output,h.size,fun k hk hn=>h.block k hk fun e=>hn e.symm⟩
theorem Gx.mono{S S':Nat->Prop}{w w':World}(h:Gx S w w')(hs:∀k,S k->S' k):Gx S' w w':=⟨h.os,h.tape,h.output,h.size,fun k hk hn=>h.block k hk fun e=>hn (hs k e)⟩
theorem Gx.to{S:Nat->Prop}{w w':World}{N:Nat}(h:Gx S w w')(hN:N<=w.heap.size)(hs:∀k,S k->N<=k):Below N w w':=⟨h.os,h.tape,h.output,h.size,fun k hk=>h.block k (by omega) fun e=>by have:=hs k e;omega⟩
theorem Gx.set(w:World)(g j:Nat)(v:Value):Gx (fun k=>k=g) w (w.setCell ⟨g,j,none⟩ v):=⟨rfl,rfl,rfl,by simp,fun x _ hn=>aK _ _ _ _ hn⟩
theorem Gx.has{S:Nat->Prop}{w w':World}(h:Gx S w w'){B:Nat}{A:Array Value}(hh:Has w B A)(hn:¬S B):Has w' B A:=⟨aH hh.1 h.size,fun o=>(ak (a:=⟨B,o,none⟩) (h.block B hh.1 hn)).trans (hh.2 o)⟩
theorem Gx.row{S:Nat->Prop}{w w':World}(h:Gx S w w'){K L n:Nat}{a:Option Addr}{q:Nat->Array Value}(hr:iF K L w a n q)(hn:∀b,a=some b->¬S b.block):iF K L w' a n q:=fun h0=>by
 obtain⟨b,off,e,h1,h2,h3⟩:=hr h0;exact⟨b,off,e,h1,aH h2 h.size,fun i hi j hj=>(ak (a:=⟨b,off+i*K+j,none⟩) (h.block b h2 (hn _ e))).trans (h3 i hi j hj)⟩
def v5(x:VD):List Value:=[.int .i64 x.k,.int .i64 x.n,.float .f64 x.f,.string x.s,.int .i64 x.r]
def r5(x:lU):List Value:=[.int .i64 x.k,.int .i64 x.t,.int .i64 x.f,.int .i64 x.l,.string x.s]
def hL(l:List VD):List Value:=l.flatMap v5
def rL(l:List lU):List Value:=l.flatMap r5
def iL(l:List Int):List Value:=l.map fun v=>.int .i64 v
theorem z52(l:List VD):(hL l).length=l.length*5:=by
 induction l with
 |nil=>rfl
 |cons x l ih=>simp[hL,v5] at ih ⊢;omega
theorem QH(a b:List VD):hL (a++b)=hL a++hL b:=by simp[hL]
theorem j68(a b:List lU):rL (a++b)=rL a++rL b:=by simp[rL]
theorem j88(a b:List Int):iL (a++b)=iL a++iL b:=by simp[iL]
theorem yd0(l:List VD)(n:Nat):hL (l.take n)=(hL l).take (n*5):=by
 induction l generalizing n with
 |nil=>simp[hL]
 |cons x l ih=>
  cases n with
  |zero=>simp[hL]
  |succ n=>
   have:=ih n;simp only[List.take_succ_cons];show v5 x++hL (l.take n)=(v5 x++hL l).take ((n+1)*5);rw[this,show(n+1)*5=(v5 x).length+n*5 by simp[v5];omega,List.take_length_add_append]
structure MD where
 recs:List lU
 ra:Option Addr
 rc:Nat
 ti:Nat
 tab:Value
 jA:Value
 held:List VD
 ha:Option Addr
 hc:Nat
 sc:List Int
 sa:Option Addr
 sp:Nat
 line:Int
 vs:List Value
 jc:Nat
 sin:Nat
 cls:Value
 fr:List Value
 fa:Option Addr
 fc:Nat
 lv:Nat
 ro:Nat
 se:Nat
 tb:Nat->Prop
 TP:World->Prop
structure RX where
 M:Nat
 T:Nat
 F:Nat
 V:Nat
 N:Nat
 W:World
 fns:Value
 wY:Value
 tks:Value
 en:Value
 c1:Value
 c2:Value
 c3:Value
 tk:Nat
 dp:Nat
 ce:Nat
 fn:Int
 cal:VD
 ups:Value
 rest:Value
 fl:Nat
 nv:Nat
abbrev DU:Value:=.func (.func 10) #[] #[]
abbrev mA(X:RX)(d:MD):Array Value:=#[X.fns,.slice none 0 0,.slice none 0 0,.int .i64 (X.tk:Int),.int .i64 (X.dp:Int),.int .i64 (X.ce:Int),DU,X.wY,.int .i64 0,.slice d.ra d.recs.length d.rc,.slice none 0 0,.string ⟨#[]⟩,.string ⟨#[]⟩,.int .i64 (d.ti:Int),.int .i64 (d.jc:Int),.int .i64 0,d.tab,d.cls,X.tks,d.jA,.int .i64 (d.lv:Int),.int .i64 (d.sin:Int),.int .i64 (d.ro:Int),.pointer (some ⟨X.T,0,none⟩),X.en,.int .u64 0,.int .u32 0]
abbrev tA(X:RX)(d:MD):Array Value:=#[.int .i64 0,.int .i64 2,.int .i64 0,.int .i64 0,.float .f64 0,.string ⟨#[]⟩,.int .i64 0,.slice d.fa X.fl d.fc,.slice d.ha d.held.length d.hc,.pointer none,X.c1,X.c2,X.c3,.bool false,.pointer none,.int .i64 0,.int .i64 (d.se:Int)]
abbrev fA(X:RX)(d:MD):Array Value:=#[.pointer (some ⟨X.T,0,none⟩),.int .i64 X.fn,.int .i64 X.cal.k,.int .i64 X.cal.n,.float .f64 X.cal.f,.string X.cal.s,.int .i64 X.cal.r,X.ups,.slice (some ⟨X.V,0,none⟩) X.nv X.nv,X.rest,.slice d.sa d.sc.length d.sp,.slice none 0 0,.int .i64 d.line]
def stB(X:RX)(d:MD)(k:Nat):Prop:=k=X.M\/k=X.T\/k=X.F\/k=X.V\/ig d.ra=some k\/ig d.ha=some k\/ig d.sa=some k\/ig d.fa=some k\/d.tb k
def vP(X:RX)(d:MD)(k:Nat):Prop:=k=X.M\/k=X.T\/k=X.F\/k=X.V\/ig d.ra=some k\/ig d.ha=some k\/ig d.sa=some k\/ig d.fa=some k
theorem vP.b{X:RX}{d:MD}{k:Nat}(h:vP X d k):stB X d k:=by
 rcases h with e|e|e|e|e|e|e|e
 ·exact .inl e
 ·exact .inr (.inl e)
 ·exact .inr (.inr (.inl e))
 ·exact .inr (.inr (.inr (.inl e)))
 ·exact .inr (.inr (.inr (.inr (.inl e))))
 ·exact .inr (.inr (.inr (.inr (.inr (.inl e)))))
 ·exact .inr (.inr (.inr (.inr (.inr (.inr (.inl e))))))
 ·exact .inr (.inr (.inr (.inr (.inr (.inr (.inr (.inl e)))))))
theorem stB.tb{X:RX}{d:MD}{k:Nat}(h:d.tb k):stB X d k:=.inr (.inr (.inr (.inr (.inr (.inr (.inr (.inr h)))))))
theorem stB.or{X:RX}{d:MD}{k:Nat}(h:stB X d k):vP X d k\/d.tb k:=by
 rcases h with e|e|e|e|e|e|e|e|e
 ·exact .inl (.inl e)
 ·exact .inl (.inr (.inl e))
 ·exact .inl (.inr (.inr (.inl e)))
 ·exact .inl (.inr (.inr (.inr (.inl e))))
 ·exact .inl (.inr (.inr (.inr (.inr (.inl e)))))
 ·exact .inl (.inr (.inr (.inr (.inr (.inr (.inl e))))))
 ·exact .inl (.inr (.inr (.inr (.inr (.inr (.inr (.inl e)))))))
 ·exact .inl (.inr (.inr (.inr (.inr (.inr (.inr (.inr e)))))))
 ·exact .inr e
abbrev TV(N:Nat)(u:World)(d:MD):Prop:=u.ownsRow N 58 5 (.slice d.ra d.recs.length d.rc) d.recs.length (rL d.recs)
abbrev Yr(N:Nat)(u:World)(d:MD):Prop:=u.ownsRow N 61 5 (.slice d.ha d.held.length d.hc) d.held.length (hL d.held)
abbrev Yq(N:Nat)(u:World)(d:MD):Prop:=u.ownsRow N 3 1 (.slice d.sa d.sc.length d.sp) d.sc.length (iL d.sc)
abbrev Yt(X:RX)(u:World)(d:MD):Prop:=u.ownsRow X.N 129 1 (.slice d.fa X.fl d.fc) X.fl d.fr
structure RX.ok(X:RX):Prop where
 m:X.M<X.W.heap.size
 t:X.W.heap.size<=X.T
 f:X.W.heap.size<=X.F
 v:X.W.heap.size<=X.V
 nW:X.W.heap.size<=X.N
 f0:0<X.fl
 f2:X.fl<=1000
 kt:X.tk<=5000
 kd:X.dp<=60
 kc:X.ce<=20000
def jC(w:World)(B:Nat)(t:TypeId):Prop:=∃A fr,w.heap[B]?=some (.cells A t fr)
theorem jC.ne{w:World}{B C:Nat}{t s:TypeId}(h:jC w B t)(k:jC w C s)(hts:t≠s):B≠C:=fun e=>by
 subst e;obtain⟨A,fr,h1⟩:=h;obtain⟨A',fr',h2⟩:=k;rw[h1] at h2
 cases h2;exact hts rfl
theorem jC.keep{w w':World}{B:Nat}{t:TypeId}(h:jC w B t)(hk:w'.heap[B]?=w.heap[B]?):jC w' B t:=by
 obtain⟨A,fr,h1⟩:=h;exact⟨A,fr,hk.trans h1⟩
theorem jC.lt{w:World}{B:Nat}{t:TypeId}(h:jC w B t):B<w.heap.size:=by
 obtain⟨A,fr,h1⟩:=h;exact(aA.1 h1).1
theorem jC.set{w:World}{B:Nat}{t:TypeId}(h:jC w B t)(p:Addr)(v:Value):jC (w.setCell p v) B t:=by
 by_cases e:B=p.block
 ·obtain⟨A,fr,h1⟩:=h;rw[e] at h1 ⊢;refine⟨(if p.spot.isSome=true then A else A.setIfInBounds p.off v),fr,?_⟩;simp[World.setCell,Array.getElem?_modify,h1]
 ·exact h.keep (aK w p v B e)
theorem jC.new(w:World)(A:Array Value)(t:TypeId):jC (w.alloc (.cells A t)) w.heap.size t:=⟨A,_,heap_alloc_new w _⟩
structure sQ(X:RX)(u:World):Prop where
 m:jC u X.M 85
 t:jC u X.T 124
 f:jC u X.F 174
 v:jC u X.V 223
theorem sQ.keep{X:RX}{u u':World}(h:sQ X u)(hk:∀k,(k=X.M\/k=X.T\/k=X.F\/k=X.V)->u'.heap[k]?=u.heap[k]?):sQ X u':=
 ⟨h.m.keep (hk _ (.inl rfl)),h.t.keep (hk _ (.inr (.inl rfl))),h.f.keep (hk _ (.inr (.inr (.inl rfl)))),h.v.keep (hk _ (.inr (.inr (.inr rfl))))⟩
theorem sQ.set{X:RX}{u:World}(h:sQ X u)(p:Addr)(v:Value):sQ X (u.setCell p v):=⟨h.m.set p v,h.t.set p v,h.f.set p v,h.v.set p v⟩
theorem sQ.tm{X:RX}{u:World}(h:sQ X u):X.T≠X.M:=h.t.ne h.m (by decide)
theorem sQ.fm{X:RX}{u:World}(h:sQ X u):X.F≠X.M:=h.f.ne h.m (by decide)
theorem sQ.vm{X:RX}{u:World}(h:sQ X u):X.V≠X.M:=h.v.ne h.m (by decide)
theorem sQ.tf{X:RX}{u:World}(h:sQ X u):X.T≠X.F:=h.t.ne h.f (by decide)
theorem sQ.tv{X:RX}{u:World}(h:sQ X u):X.T≠X.V:=h.t.ne h.v (by decide)
theorem sQ.fv{X:RX}{u:World}(h:sQ X u):X.F≠X.V:=h.f.ne h.v (by decide)
theorem sQ.row{X:RX}{u:World}(h:sQ X u){B:Nat}(hB:B=X.M\/B=X.T\/B=X.F\/B=X.V):∃t,jC u B t/\t≠58/\t≠61/\t≠3/\t≠129:=by
 rcases hB with rfl|rfl|rfl|rfl
 ·exact⟨_,h.m,by decide,by decide,by decide,by decide⟩
 ·exact⟨_,h.t,by decide,by decide,by decide,by decide⟩
 ·exact⟨_,h.f,by decide,by decide,by decide,by decide⟩
 ·exact⟨_,h.v,by decide,by decide,by decide,by decide⟩
theorem lJ{N:Nat}{u:World}{t:TypeId}{K n m cap:Nat}{a:Option Addr}{xs:List Value}(h:u.ownsRow N t K (.slice a m cap) n xs){k:Nat}(e:ig a=some k):jC u k t:=by
 rcases h.2 with⟨c,_⟩|⟨g,_,cur,c,_,hg,_⟩
 ·cases c;cases e
 ·cases c;cases e;exact⟨_,_,hg⟩
structure EY(N:Nat)(tb:Nat->Prop)(TP:World->Prop)(u:World):Prop where
 p:TP u
 s:∀w w':World,TP w->w.heap.size<=w'.heap.size->(∀k,tb k->w'.heap[k]?=w.heap[k]?)->TP w'
 a:∀k,tb k->N<=k/\k<u.heap.size
theorem EY.keep{N:Nat}{tb:Nat->Prop}{TP:World->Prop}{u u':World}(h:EY N tb TP u)(hs:u.heap.size<=u'.heap.size)(hk:∀k,tb k->u'.heap[k]?=u.heap[k]?):EY N tb TP u':=⟨h.s u u' h.p hs hk,h.s,fun k e=>⟨(h.a k e).1,aH (h.a k e).2 hs⟩⟩
structure St(X:RX)(d:MD)(u:World):Prop where
 x:X.ok
 m:OwnB u X.M (mA X d)
 t:OwnB u X.T (tA X d)
 f:OwnB u X.F (fA X d)
 v:OwnB u X.V d.vs.toArray
 fw:Yt X u d
 rr:TV X.N u d
 hr:Yr X.N u d
 sr:Yq X.N u d
 k:Gx (fun k=>k=X.M\/X.W.heap.size<=k) X.W u
 n:X.N<=u.heap.size
 nv:d.vs.length=X.nv
 ty:sQ X u
 r0:d.fr[X.fl-1]?=some (.pointer (some ⟨X.F,0,none⟩))
 tt:EY X.N d.tb d.TP u
 ts:∀k,d.tb k->¬vP X d k
theorem jm{N:Nat}{u:World}{t:TypeId}{K n m cap:Nat}{a:Option Addr}{xs:List Value}(h:u.ownsRow N t K (.slice a m cap) n xs){k:Nat}(e:ig a=some k):N<=k/\k<u.heap.size:=h.lt k ((jg a m cap).trans e)
theorem qP{N:Nat}{u:World}{t t':TypeId}{K K' n n' m m' cap cap':Nat}{a a':Option Addr}{xs xs':List Value}(h:u.ownsRow N t K (.slice a m cap) n xs)(h':u.ownsRow N t' K' (.slice a' m' cap') n' xs')(ht:t≠t'){k:Nat}(e:ig a=some k):ig a'≠some k:=fun e'=>by
 rcases h.2 with⟨c,_⟩|⟨g,_,cur,c,_,hg,_⟩
 ·cases c;cases e
 ·rcases h'.2 with⟨c',_⟩|⟨g',_,cur',c',_,hg',_⟩
  ·cases c';cases e'
  ·cases c;cases c'
   cases e;cases e';rw[hg] at hg'
   cases hg';exact ht rfl
section
variable {X:RX}{d d' d'':MD}{u u' u'':World}
theorem St.lt(h:St X d u){k:Nat}(e:stB X d k):k<u.heap.size:=by
 rcases e with rfl|rfl|rfl|rfl|e|e|e|e|e
 ·exact h.m.1.1
 ·exact h.t.1.1
 ·exact h.f.1.1
 ·exact h.v.1.1
 ·exact(jm h.rr e).2
 ·exact(jm h.hr e).2
 ·exact(jm h.sr e).2
 ·exact(jm h.fw e).2
 ·exact(h.tt.a _ e).2
theorem St.other(h:St X d u){B:Nat}(hB:u.heap.size<=B):¬stB X d B:=fun e=>by have:=h.lt e;omega
structure Sp(X:RX)(d:MD)(u:World)(d':MD)(u':World):Prop where
 s:St X d' u'
 g:Gx (stB X d) u u'
 mv:∀k,k<u.heap.size->stB X d' k->stB X d k
theorem Sp.refl(h:St X d u):Sp X d u d u:=⟨h,Gx.refl _ _,fun _ _ e=>e⟩
theorem Sp.trans(h:Sp X d u d' u')(k:Sp X d' u' d'' u''):Sp X d u d'' u'':=
 ⟨k.s,h.g.trans k.g (fun i hi e=>h.mv i hi e),fun i hi e=>h.mv i hi (k.mv i (aH hi h.g.size) e)⟩
theorem Gx.ownB{S:Nat->Prop}{w w':World}(h:Gx S w w'){B:Nat}{A:Array Value}(hh:OwnB w B A)(hn:¬S B):OwnB w' B A:=hh.block h.size (h.block B hh.1.1 hn)
theorem Sp.below(h:St X d u)(hb:gZ u u'):Sp X d u d u':=by
 have hk:∀k,k<u.heap.size->u'.heap[k]?=u.heap[k]?:=fun k hk=>hb.block k hk;have ho:∀{B:Nat} {A:Array Value},OwnB u B A->OwnB u' B A:=fun hh=>hh.block hb.size (hk _ hh.1.1);exact⟨⟨h.x,ho h.m,ho h.t,ho h.f,ho h.v,q35 h.fw hb,q35 h.rr hb,q35 h.hr hb,q35 h.sr hb,h.k.trans (Gx.below _ hb) (fun _ _ e=>e),aV h.n hb.size,h.nv,h.ty.keep (fun k e=>hk k (by
  rcases e with rfl|rfl|rfl|rfl
  ·exact h.m.1.1
  ·exact h.t.1.1
  ·exact h.f.1.1
  ·exact h.v.1.1)),h.r0,h.tt.keep hb.size (fun k e=>hk k (h.tt.a k e).2),h.ts⟩,Gx.below _ hb,fun _ _ e=>e⟩
theorem St.call(h:St X d u)(hb:gZ u u'):St X d u':=(Sp.below h hb).s
theorem St.alloc(h:St X d u)(o:Obj):St X d (u.alloc o):=h.call (q01 u o)
theorem St.drew(h:St X d u):St X d u.drew:=h.call (ay _ _).drew
theorem Sp.alloc(h:Sp X d u d' u')(o:Obj):Sp X d u d' (u'.alloc o):=h.trans (Sp.below h.s (q01 _ _))
theorem Sp.drew(h:Sp X d u d' u'):Sp X d u d' u'.drew:=h.trans (Sp.below h.s (ay _ _).drew)
theorem Sp.call(h:Sp X d u d' u')(hb:gZ u' u''):Sp X d u d' u'':=h.trans (Sp.below h.s hb)
theorem Sp.first{o:Obj}(h0:St X d u)(h:Sp X d (u.alloc o) d' u'):Sp X d u d' u':=(Sp.below h0 (q01 u o)).trans h
def Bx(X:RX)(d:MD)(u:World)(B:Nat)(A:Array Value):Prop:=Has u B A/\¬stB X d B
theorem Bx.step{B:Nat}{A:Array Value}(h:Bx X d u B A)(k:Sp X d u d' u'):Bx X d' u' B A:=⟨k.g.has h.1 h.2,fun e=>h.2 (k.mv B h.1.1 e)⟩
theorem Bx.new(h:St X d u)(A:Array Value)(t:TypeId):Bx X d (u.alloc (.cells A t)) u.heap.size A:=⟨Has.new u A t,h.other (ah _)⟩
theorem Bx.alloc{B:Nat}{A:Array Value}(h:Bx X d u B A)(o:Obj):Bx X d (u.alloc o) B A:=⟨h.1.alloc o,h.2⟩
theorem Bx.cell{B:Nat}{A:Array Value}(h:Bx X d u B A)(o:Nat){v:Value}(e:A[o]?=some v):u.cell? ⟨B,o,none⟩=some v:=(h.1.2 o).trans e
theorem St.old(h:St X d u){B:Nat}{A:Array Value}(hB:Has X.W B A)(hn:B≠X.M):Has u B A:=h.k.has hB (fun e=>by
 rcases e with e|e
 ·exact hn e
 ·have:=hB.1;omega)
theorem St.oldRow(h:St X d u){K L n:Nat}{a:Option Addr}{q:Nat->Array Value}(hr:iF K L X.W a n q)(hn:∀b,a=some b->b.block≠X.M):iF K L u a n q:=fun h0=>by
 obtain⟨b,off,e,h1,h2,h3⟩:=hr h0;exact⟨b,off,e,h1,aH h2 h.k.size,fun i hi j hj=>(ak (a:=⟨b,off+i*K+j,none⟩) (h.k.block b h2 (fun c=>by
  rcases c with c|c
  ·exact hn _ e c
  ·omega))).trans (h3 i hi j hj)⟩
theorem St.put(h:St X d u){B o:Nat}(v:Value)(hB:B=X.M\/B=X.T\/B=X.F\/B=X.V)(m:OwnB (u.setCell ⟨B,o,none⟩ v) X.M (mA X d'))(t:OwnB (u.setCell ⟨B,o,none⟩ v) X.T (tA X d'))(f:OwnB (u.setCell ⟨B,o,none⟩ v) X.F (fA X d'))(w:OwnB (u.setCell ⟨B,o,none⟩ v) X.V d'.vs.toArray)(rr:TV X.N u d')(hr:Yr X.N u d')(sr:Yq X.N u d')(fw:Yt X u d')(r0:d'.fr[X.fl-1]?=some (.pointer (some ⟨X.F,0,none⟩)))(hd:∀k,k<u.heap.size->vP X d' k->vP X d k)(qZ:d'.vs.length=d.vs.length)(hTB:d'.tb=d.tb/\d'.TP=d.TP:=by exact⟨rfl,rfl⟩):Sp X d u d' (u.setCell ⟨B,o,none⟩ v):=by
 have hx:=h.x;have hsR:vP X d B:=by
  rcases hB with e|e|e|e
  ·exact .inl e
  ·exact .inr (.inl e)
  ·exact .inr (.inr (.inl e))
  ·exact .inr (.inr (.inr (.inl e)))
 have htt:EY X.N d'.tb d'.TP (u.setCell ⟨B,o,none⟩ v):=by
  rw[hTB.1,hTB.2];exact h.tt.keep (by simp) (fun k e=>aK _ _ _ _ (fun c=>h.ts k e (by rw[c];exact hsR)))
 have hts:∀k,d'.tb k->¬vP X d' k:=fun k e c=>by
  rw[hTB.1] at e;exact h.ts k e (hd k (h.tt.a k e).2 c)
 have hdB:∀k,k<u.heap.size->stB X d' k->stB X d k:=fun k hk e=>by
  rcases e.or with e|e
  ·exact(hd k hk e).b
  ·rw[hTB.1] at e;exact stB.tb e
 obtain⟨tB,hT,n1,n2,n3,n4⟩:=h.ty.row (B:=B) hB;have g:Gx (stB X d) u (u.setCell ⟨B,o,none⟩ v):=(Gx.set u B o v).mono (fun k e=>by
  subst e;rcases hB with e|e|e|e
  ·exact .inl e
  ·exact .inr (.inl e)
  ·exact .inr (.inr (.inl e))
  ·exact .inr (.inr (.inr (.inl e))))
 refine⟨⟨hx,m,t,f,w,q23 fw _ fun k e=>(lJ fw ((jg _ _ _).symm.trans e)).ne hT (bK n4),q23 rr _ fun k e=>(lJ rr ((jg _ _ _).symm.trans e)).ne hT (bK n1),q23 hr _ fun k e=>(lJ hr ((jg _ _ _).symm.trans e)).ne hT (bK n2),q23 sr _ fun k e=>(lJ sr ((jg _ _ _).symm.trans e)).ne hT (bK n3),?_,by simpa using h.n,qZ.trans h.nv,h.ty.set _ _,r0,htt,hts⟩,g,hdB⟩;exact h.k.trans (Gx.set u B o v) (fun k _ e=>by
  subst e;rcases hB with e|e|e|e
  ·exact .inl e
  ·exact .inr (e ▸ hx.t)
  ·exact .inr (e ▸ hx.f)
  ·exact .inr (e ▸ hx.v))
end
section
variable {X:RX}{d d':MD}{u u' w7:World}
theorem kR{w:World}{B C o:Nat}{A:Array Value}{v:Value}(h:OwnB w C A)(hB:C≠B):OwnB (w.setCell ⟨B,o,none⟩ v) C A:=h.block (by simp) (aK _ _ _ _ hB)
theorem Sp.tick(h:St X d u):Sp X d u {d with ti:=d.ti+1} (u.setCell ⟨X.M,13,none⟩ (.int .i64 ((d.ti:Int)+1))):=by
 have hx:=h.ty;refine h.put _ (.inl rfl) ?_ (kR h.t hx.tm) (kR h.f hx.fm) (kR h.v hx.vm) h.rr h.hr h.sr h.fw h.r0 (fun _ _ e=>e) rfl;have:=h.m.set (o:=13) (by show 13<27;omega) (.int .i64 ((d.ti:Int)+1));exact this
theorem Sp.line(h:St X d u)(z:Int):Sp X d u {d with line:=z} (u.setCell ⟨X.F,12,none⟩ (.int .i64 z)):=by
 have hx:=h.ty;refine h.put _ (.inr (.inr (.inl rfl))) (kR h.m (bK hx.fm)) (kR h.t hx.tf) ?_ (kR h.v (bK hx.fv)) h.rr h.hr h.sr h.fw h.r0 (fun _ _ e=>e) rfl;exact h.f.set (o:=12) (by show 12<13;omega) (.int .i64 z)
theorem Sp.var(h:St X d u){i:Nat}(hi:i<d.vs.length)(z:Value):Sp X d u {d with vs:=d.vs.set i z} (u.setCell ⟨X.V,i,none⟩ z):=by
 have hx:=h.ty;refine h.put _ (.inr (.inr (.inr rfl))) (kR h.m (bK hx.vm)) (kR h.t hx.tv) (kR h.f hx.fv) ?_ h.rr h.hr h.sr h.fw h.r0 (fun _ _ e=>e) (by simp);have:=h.v.set (o:=i) (by simpa using hi) z;simpa using this
theorem Sp.made(h:St X d u)(n:Nat):Sp X d u {d with jc:=n} (u.setCell ⟨X.M,14,none⟩ (.int .i64 (n:Int))):=by
 have hx:=h.ty;refine h.put _ (.inl rfl) ?_ (kR h.t hx.tm) (kR h.f hx.fm) (kR h.v hx.vm) h.rr h.hr h.sr h.fw h.r0 (fun _ _ e=>e) rfl;exact h.m.set (o:=14) (by show 14<27;omega) (.int .i64 (n:Int))
theorem Sp.since(h:St X d u)(n:Nat):Sp X d u {d with sin:=n} (u.setCell ⟨X.M,21,none⟩ (.int .i64 (n:Int))):=by
 have hx:=h.ty;refine h.put _ (.inl rfl) ?_ (kR h.t hx.tm) (kR h.f hx.fm) (kR h.v hx.vm) h.rr h.hr h.sr h.fw h.r0 (fun _ _ e=>e) rfl;exact h.m.set (o:=21) (by show 21<27;omega) (.int .i64 (n:Int))
theorem Ut{N:Nat}{w:World}{t:TypeId}{K n m cap:Nat}{a:Option Addr}{xs:List Value}(h:w.ownsRow N t K (.slice a n cap) n xs)(hm:m<=n):w.ownsRow N t K (.slice a m cap) m (xs.take (m*K)):=by
 have h0:=h.1;refine⟨by rw[dG,h0,dL (dQ K hm)],?_⟩;rcases h.2 with⟨h2,h3⟩|⟨g,cap',cur,e2,h3,h4,h5,h6,h7,h8⟩
 ·obtain⟨rfl,_,rfl⟩:a=none/\n=0/\cap=0:=by simpa using h2
  exact .inl ⟨by rw[show m=0 by omega],by omega⟩
 ·cases e2;refine .inr ⟨g,cap,cur,rfl,h3,h4,by omega,h6,h7,?_⟩;rw[<-h8,List.take_take];congr 1;exact(dL (dQ K hm)).symm
theorem Sp.kH(h:St X d u){m:Nat}(hm:m<=d.held.length):Sp X d u {d with held:=d.held.take m} (u.setCell ⟨X.T,8,none⟩ (.slice d.ha m d.hc)):=by
 have hx:=h.ty;have gG:(d.held.take m).length=m:=by rw[dG];omega
 refine h.put _ (.inr (.inl rfl)) (kR h.m (bK hx.tm)) ?_ (kR h.f (bK hx.tf)) (kR h.v (bK hx.tv)) h.rr ?_ h.sr h.fw h.r0 (fun _ _ e=>e) rfl
 ·have:=h.t.set (o:=8) (by show 8<17;omega) (.slice d.ha m d.hc);show OwnB _ _ (tA X {d with held:=d.held.take m});simp only[tA,gG];exact this
 ·have:=Ut h.hr hm;show World.ownsRow _ _ _ _ (.slice d.ha (d.held.take m).length d.hc) (d.held.take m).length (hL (d.held.take m));rw[gG,yd0];exact this
theorem Sp.wU(h:St X d u){m:Nat}(hm:m<=d.sc.length):Sp X d u {d with sc:=d.sc.take m} (u.setCell ⟨X.F,10,none⟩ (.slice d.sa m d.sp)):=by
 have hx:=h.ty;have gG:(d.sc.take m).length=m:=by rw[dG];omega
 refine h.put _ (.inr (.inr (.inl rfl))) (kR h.m (bK hx.fm)) (kR h.t hx.tf) ?_ (kR h.v (bK hx.fv)) h.rr h.hr ?_ h.fw h.r0 (fun _ _ e=>e) rfl
 ·have:=h.f.set (o:=10) (by show 10<13;omega) (.slice d.sa m d.sp);show OwnB _ _ (fA X {d with sc:=d.sc.take m});simp only[fA,gG];exact this
 ·have:=Ut h.sr hm;show World.ownsRow _ _ _ _ (.slice d.sa (d.sc.take m).length d.sp) (d.sc.take m).length (iL (d.sc.take m));rw[gG];rw[show iL (d.sc.take m)=(iL d.sc).take (m*1) by simp[iL,List.map_take]];exact this
theorem St.mid(h:St X d u){a:Option Addr}(hg:u.grownBy w7 (ig a)){s:TypeId}(hs:s=58\/s=61\/s=3\/s=129)(hT:∀k,ig a=some k->jC u k s){B:Nat}{A:Array Value}(hB:OwnB u B A)(h5:B=X.M\/B=X.T\/B=X.F\/B=X.V):OwnB w7 B A:=by
 obtain⟨tB,hTB,n1,n2,n3,n4⟩:=h.ty.row h5;exact hB.block hg.size (hg.block _ hB.1.1 (fun e=>hTB.ne (hT B e.symm) (by rcases hs with rfl|rfl|rfl|rfl<;>assumption) rfl))
theorem Ei{N K n m cap:Nat}{t:TypeId}{a b:Option Addr}{xs:List Value}(hg:u.grownBy w7 (ig a))(h:u.ownsRow N t K (.slice b m cap) n xs)(hne:∀k,ig b=some k->ig a≠some k):w7.ownsRow N t K (.slice b m cap) n xs:=
 nY h fun k e=>hg.block k (h.lt k e).2 (fun c=>hne k ((jg _ _ _).symm.trans e) c.symm)
theorem St.wQ(h:St X d u){a:Option Addr}(hg:u.grownBy w7 (ig a)){s:TypeId}(hs:s=58\/s=61\/s=3\/s=129)(hT:∀k,ig a=some k->jC u k s):OwnB w7 X.M (mA X d)/\OwnB w7 X.T (tA X d)/\OwnB w7 X.F (fA X d)/\OwnB w7 X.V d.vs.toArray/\sQ X w7:=by
 refine⟨h.mid hg hs hT h.m (.inl rfl),h.mid hg hs hT h.t (.inr (.inl rfl)),h.mid hg hs hT h.f (.inr (.inr (.inl rfl))),h.mid hg hs hT h.v (.inr (.inr (.inr rfl))),h.ty.keep (fun k e=>?_)⟩;obtain⟨tB,hTB,n1,n2,n3,n4⟩:=h.ty.row e;exact hg.block _ hTB.lt (fun c=>hTB.ne (hT k c.symm) (by rcases hs with rfl|rfl|rfl|rfl<;>assumption) rfl)
theorem St.grow(h:St X d u){a:Option Addr}(hg:u.grownBy w7 (ig a)){s:TypeId}(hs:s=58\/s=61\/s=3\/s=129)(hT:∀k,ig a=some k->jC u k s)(hN:∀k,ig a=some k->X.N<=k)(ha:∀k,ig a=some k->vP X d k){B o:Nat}{v:Value}(hB:B=X.M\/B=X.T\/B=X.F\/B=X.V)(m:OwnB (w7.setCell ⟨B,o,none⟩ v) X.M (mA X d'))(t:OwnB (w7.setCell ⟨B,o,none⟩ v) X.T (tA X d'))(f:OwnB (w7.setCell ⟨B,o,none⟩ v) X.F (fA X d'))(w:OwnB (w7.setCell ⟨B,o,none⟩ v) X.V d'.vs.toArray)(rr:TV X.N w7 d')(hr:Yr X.N w7 d')(sr:Yq X.N w7 d')(fw:Yt X w7 d')(r0:d'.fr[X.fl-1]?=some (.pointer (some ⟨X.F,0,none⟩)))(hd:∀k,k<u.heap.size->vP X d' k->vP X d k)(qZ:d'.vs.length=d.vs.length)(TF:d'.tb=d.tb/\d'.TP=d.TP:=by exact⟨rfl,rfl⟩):Sp X d u d' (w7.setCell ⟨B,o,none⟩ v):=by
 have hx:=h.x;have hm:=h.wQ hg hs hT;have hty:=hm.2.2.2.2;have hsR:vP X d B:=by
  rcases hB with e|e|e|e
  ·exact .inl e
  ·exact .inr (.inl e)
  ·exact .inr (.inr (.inl e))
  ·exact .inr (.inr (.inr (.inl e)))
 have htt:EY X.N d'.tb d'.TP (w7.setCell ⟨B,o,none⟩ v):=by
  rw[TF.1,TF.2];have h7:EY X.N d.tb d.TP w7:=h.tt.keep hg.size (fun k e=>hg.block k (h.tt.a k e).2 (fun c=>h.ts k e (ha k c.symm)));exact h7.keep (by simp) (fun k e=>aK _ _ _ _ (fun c=>h.ts k e (by rw[c];exact hsR)))
 have hts:∀k,d'.tb k->¬vP X d' k:=fun k e c=>by
  rw[TF.1] at e;exact h.ts k e (hd k (h.tt.a k e).2 c)
 have hdB:∀k,k<u.heap.size->stB X d' k->stB X d k:=fun k hk e=>by
  rcases e.or with e|e
  ·exact(hd k hk e).b
  ·rw[TF.1] at e;exact stB.tb e
 obtain⟨tB,hTB,n1,n2,n3,n4⟩:=hty.row (B:=B) hB;have hsB:stB X d B:=by
  rcases hB with e|e|e|e
  ·exact .inl e
  ·exact .inr (.inl e)
  ·exact .inr (.inr (.inl e))
  ·exact .inr (.inr (.inr (.inl e)))
 have g0:Gx (stB X d) u w7:=(Gx.grown hg).mono (fun k e=>(ha k e).b);have hWs:X.W.heap.size<=X.N:=hx.nW;refine⟨⟨hx,m,t,f,w,q23 fw _ fun k e=>(lJ fw ((jg _ _ _).symm.trans e)).ne hTB (bK n4),q23 rr _ fun k e=>(lJ rr ((jg _ _ _).symm.trans e)).ne hTB (bK n1),q23 hr _ fun k e=>(lJ hr ((jg _ _ _).symm.trans e)).ne hTB (bK n2),q23 sr _ fun k e=>(lJ sr ((jg _ _ _).symm.trans e)).ne hTB (bK n3),?_,by have:=h.n;have:=hg.size;simp;omega,qZ.trans h.nv,hty.set _ _,r0,htt,hts⟩,g0.trans (Gx.set _ _ _ _) (fun k _ e=>by subst e;exact hsB),hdB⟩;refine(h.k.trans (Gx.grown hg) (fun k _ e=>.inr (by have:=hN k e;omega))).trans (Gx.set w7 B o v) (fun k _ e=>?_);subst e;rcases hB with e|e|e|e
 ·exact .inl e
 ·exact .inr (e ▸ hx.t)
 ·exact .inr (e ▸ hx.f)
 ·exact .inr (e ▸ hx.v)
theorem Nc:(58:TypeId)≠61:=by decide
theorem Nh:(58:TypeId)≠3:=by decide
theorem Na:(61:TypeId)≠3:=by decide
theorem Vx:(58:TypeId)≠129:=by decide
theorem Vw:(61:TypeId)≠129:=by decide
theorem Vy:(3:TypeId)≠129:=by decide
theorem Ul{a a':Option Addr}{n cap m cap':Nat}(hat:(Value.slice a' m cap').ownBlock=(Value.slice a n cap).ownBlock\/(Value.slice a' m cap').ownBlock=some u.heap.size){k:Nat}(hk:k<u.heap.size)(e:ig a'=some k):ig a=some k:=by
 rw[jg,jg] at hat;rcases hat with c|c
 ·rw[<-c];exact e
 ·rw[c] at e;have:=aQ e;omega
theorem Sp.recs(h:St X d u){x:lU}{v':Value}(ho:w7.ownsRow X.N 58 5 v' (d.recs.length+1) (rL d.recs++r5 x))(hg:u.grownBy w7 (Value.slice d.ra d.recs.length d.rc).ownBlock)(hat:v'.ownBlock=(Value.slice d.ra d.recs.length d.rc).ownBlock\/v'.ownBlock=some u.heap.size):∃a c,v'=.slice a (d.recs.length+1) c/\Sp X d u {d with recs:=d.recs++[x],ra:=a,rc:=c} (w7.setCell ⟨X.M,9,none⟩ v'):=by
 obtain⟨a,c,rfl⟩:=zO ho;rw[jg] at hg;have hx:=h.ty;have hN:∀k,ig d.ra=some k->X.N<=k:=fun k e=>(jm h.rr e).1;have GK:∀k,ig d.ra=some k->jC u k 58:=fun k e=>lJ h.rr e;have hm:=h.wQ hg (.inl rfl) GK;have gG:(d.recs++[x]).length=d.recs.length+1:=by simp
 refine⟨a,c,rfl,h.grow hg (.inl rfl) GK hN (fun k e=>.inr (.inr (.inr (.inr (.inl e))))) (.inl rfl) ?_ (kR hm.2.1 hx.tm) (kR hm.2.2.1 hx.fm) (kR hm.2.2.2.1 hx.vm) ?_ (Ei hg h.hr (fun k e c=>qP h.rr h.hr Nc c e)) (Ei hg h.sr (fun k e c=>qP h.rr h.sr Nh c e)) (Ei hg h.fw (fun k e c=>qP h.rr h.fw Vx c e)) h.r0 ?_ rfl⟩
 ·have:=hm.1.set (o:=9) (by show 9<27;omega) (.slice a (d.recs.length+1) c);show OwnB _ _ (mA X {d with recs:=d.recs++[x],ra:=a,rc:=c});simp only[mA,gG];exact this
 ·show World.ownsRow _ _ _ _ (.slice a (d.recs++[x]).length c) (d.recs++[x]).length (rL (d.recs++[x]));rw[gG,j68];simpa[rL] using ho
 ·intro k hk e;rcases e with e|e|e|e|e|e|e|e
  ·exact .inl e
  ·exact .inr (.inl e)
  ·exact .inr (.inr (.inl e))
  ·exact .inr (.inr (.inr (.inl e)))
  ·exact .inr (.inr (.inr (.inr (.inl (Ul hat hk e)))))
  ·exact .inr (.inr (.inr (.inr (.inr (.inl e)))))
  ·exact .inr (.inr (.inr (.inr (.inr (.inr (.inl e))))))
  ·exact .inr (.inr (.inr (.inr (.inr (.inr (.inr e))))))
theorem Sp.hold(h:St X d u){l:List VD}{v':Value}(ho:w7.ownsRow X.N 61 5 v' (d.held.length+l.length) (hL d.held++hL l))(hg:u.grownBy w7 (Value.slice d.ha d.held.length d.hc).ownBlock)(hat:v'.ownBlock=(Value.slice d.ha d.held.length d.hc).ownBlock\/v'.ownBlock=some u.heap.size):∃a c,v'=.slice a (d.held.length+l.length) c/\Sp X d u {d with held:=d.held++l,ha:=a,hc:=c} (w7.setCell ⟨X.T,8,none⟩ v'):=by
 obtain⟨a,c,rfl⟩:=zO ho;rw[jg] at hg;have hx:=h.ty;have hN:∀k,ig d.ha=some k->X.N<=k:=fun k e=>(jm h.hr e).1;have GK:∀k,ig d.ha=some k->jC u k 61:=fun k e=>lJ h.hr e;have hm:=h.wQ hg (.inr (.inl rfl)) GK;have gG:(d.held++l).length=d.held.length+l.length:=by simp
 refine⟨a,c,rfl,h.grow hg (.inr (.inl rfl)) GK hN (fun k e=>.inr (.inr (.inr (.inr (.inr (.inl e)))))) (.inr (.inl rfl)) (kR hm.1 (bK hx.tm)) ?_ (kR hm.2.2.1 (bK hx.tf)) (kR hm.2.2.2.1 (bK hx.tv)) (Ei hg h.rr (fun k e c=>qP h.rr h.hr Nc e c)) ?_ (Ei hg h.sr (fun k e c=>qP h.hr h.sr Na c e)) (Ei hg h.fw (fun k e c=>qP h.hr h.fw Vw c e)) h.r0 ?_ rfl⟩
 ·have:=hm.2.1.set (o:=8) (by show 8<17;omega) (.slice a (d.held.length+l.length) c);show OwnB _ _ (tA X {d with held:=d.held++l,ha:=a,hc:=c});simp only[tA,gG];exact this
 ·show World.ownsRow _ _ _ _ (.slice a (d.held++l).length c) (d.held++l).length (hL (d.held++l));rw[gG,QH];exact ho
 ·intro k hk e;rcases e with e|e|e|e|e|e|e|e
  ·exact .inl e
  ·exact .inr (.inl e)
  ·exact .inr (.inr (.inl e))
  ·exact .inr (.inr (.inr (.inl e)))
  ·exact .inr (.inr (.inr (.inr (.inl e))))
  ·exact .inr (.inr (.inr (.inr (.inr (.inl (Ul hat hk e))))))
  ·exact .inr (.inr (.inr (.inr (.inr (.inr (.inl e))))))
  ·exact .inr (.inr (.inr (.inr (.inr (.inr (.inr e))))))
theorem Sp.scope(h:St X d u){z:Int}{v':Value}(ho:w7.ownsRow X.N 3 1 v' (d.sc.length+1) (iL d.sc++[.int .i64 z]))(hg:u.grownBy w7 (Value.slice d.sa d.sc.length d.sp).ownBlock)(hat:v'.ownBlock=(Value.slice d.sa d.sc.length d.sp).ownBlock\/v'.ownBlock=some u.heap.size):∃a c,v'=.slice a (d.sc.length+1) c/\Sp X d u {d with sc:=d.sc++[z],sa:=a,sp:=c} (w7.setCell ⟨X.F,10,none⟩ v'):=by
 obtain⟨a,c,rfl⟩:=zO ho;rw[jg] at hg;have hx:=h.ty;have hN:∀k,ig d.sa=some k->X.N<=k:=fun k e=>(jm h.sr e).1;have GK:∀k,ig d.sa=some k->jC u k 3:=fun k e=>lJ h.sr e;have hm:=h.wQ hg (.inr (.inr (.inl rfl))) GK;have gG:(d.sc++[z]).length=d.sc.length+1:=by simp
 refine⟨a,c,rfl,h.grow hg (.inr (.inr (.inl rfl))) GK hN (fun k e=>.inr (.inr (.inr (.inr (.inr (.inr (.inl e))))))) (.inr (.inr (.inl rfl))) (kR hm.1 (bK hx.fm)) (kR hm.2.1 hx.tf) ?_ (kR hm.2.2.2.1 (bK hx.fv)) (Ei hg h.rr (fun k e c=>qP h.rr h.sr Nh e c)) (Ei hg h.hr (fun k e c=>qP h.hr h.sr Na e c)) ?_ (Ei hg h.fw (fun k e c=>qP h.sr h.fw Vy c e)) h.r0 ?_ rfl⟩
 ·have:=hm.2.2.1.set (o:=10) (by show 10<13;omega) (.slice a (d.sc.length+1) c);show OwnB _ _ (fA X {d with sc:=d.sc++[z],sa:=a,sp:=c});simp only[fA,gG];exact this
 ·show World.ownsRow _ _ _ _ (.slice a (d.sc++[z]).length c) (d.sc++[z]).length (iL (d.sc++[z]));rw[gG,j88];exact ho
 ·intro k hk e;rcases e with e|e|e|e|e|e|e|e
  ·exact .inl e
  ·exact .inr (.inl e)
  ·exact .inr (.inr (.inl e))
  ·exact .inr (.inr (.inr (.inl e)))
  ·exact .inr (.inr (.inr (.inr (.inl e))))
  ·exact .inr (.inr (.inr (.inr (.inr (.inl e)))))
  ·exact .inr (.inr (.inr (.inr (.inr (.inr (.inl (Ul hat hk e)))))))
  ·exact .inr (.inr (.inr (.inr (.inr (.inr (.inr e))))))
end
structure DP where
 recs:List lU
 ti:Nat
 held:List VD
 sc:List Int
 line:Int
 vs:List Value
 tab:Value
 jA:Value
 jc:Nat
 sin:Nat
 cls:Value
 fr:List Value
 lv:Nat
 ro:Nat
 se:Nat
 tb:Nat->Prop
 TP:World->Prop
def MD.p(d:MD):DP:=⟨d.recs,d.ti,d.held,d.sc,d.line,d.vs,d.tab,d.jA,d.jc,d.sin,d.cls,d.fr,d.lv,d.ro,d.se,d.tb,d.TP⟩
def DP.tick(p:DP):DP:={p with ti:=p.ti+1}
def DP.D8(p:DP)(x:lU):DP:={p with recs:=p.recs++[x]}
def DP.hold(p:DP)(l:List VD):DP:={p with held:=p.held++l}
def DP.kH(p:DP)(m:Nat):DP:={p with held:=p.held.take m}
def DP.scope(p:DP)(z:Int):DP:={p with sc:=p.sc++[z]}
def DP.wU(p:DP)(m:Nat):DP:={p with sc:=p.sc.take m}
def DP.ln(p:DP)(z:Int):DP:={p with line:=z}
def DP.var(p:DP)(i:Nat)(v:Value):DP:={p with vs:=p.vs.set i v}
def DP.paid(p:DP)(n:Nat):DP:={p with jc:=p.jc+n,sin:=p.sin+n}
def To(X:RX)(d:MD)(u:World)(q:DP)(w':World):Prop:=∃d',Sp X d u d' w'/\d'.p=q
theorem To.mk{X:RX}{d d':MD}{u w':World}{q:DP}(h:Sp X d u d' w')(e:d'.p=q):To X d u q w':=⟨d',h,e⟩
theorem To.step{X:RX}{d d':MD}{u u' w':World}{q:DP}(h:Sp X d u d' u')(k:To X d' u' q w'):To X d u q w':=by
 obtain⟨d2,h2,e⟩:=k;exact⟨d2,h.trans h2,e⟩
end
end Go.Proofs.YthnkncpegihbhaaGreatDoor
