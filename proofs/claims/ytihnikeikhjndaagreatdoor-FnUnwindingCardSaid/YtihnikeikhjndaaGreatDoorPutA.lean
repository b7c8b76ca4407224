import Derived.Test.YtihnikeikhjndaaGreatDoorTabF
import Derived.Deep.AppendLies
import Derived.Deep.RegionLaw
set_option maxRecDepth 100000
set_option maxHeartbeats 16000000
namespace Go.Proofs.YtihnikeikhjndaaGreatDoor
section
open Go.RowKit
attribute [local go_sem] aN
attribute [local go_sem ↓] Go.wp_at_zero Go.wp_at_succ
structure XO(N:Nat)(w:World)(X:Nat)(a:Option Addr)(n cap B:Nat)(t:Int)(q:Nat->PD)(L:List (Mk×Nat)):Prop where
 lo:N<=X
 lt:X<w.heap.size
 c0:w.cell? ⟨X,0,none⟩=some (.slice a n cap)
 c1:w.cell? ⟨X,1,none⟩=some (.map (some B))
 c2:w.cell? ⟨X,2,none⟩=some (.int .i64 t)
 fr:∀o,w.frozen? ⟨X,o,none⟩=false
 own:w.ownsRow N 277 11 (.slice a n cap) n (cellsOf q n)
 map:dF w B L
 bl:N<=B
 ne:∀b off sp,a=some ⟨b,off,sp⟩->b≠X
theorem ZI{N:Nat}{u w:World}{v:Value}{n:Nat}{xs:List Value}{T:TypeId}(h:u.ownsRow N T 11 v n xs)(hb:ah u w):w.ownsRow N T 11 v n xs:=by
 obtain⟨h1,h2⟩:=h;refine⟨h1,?_⟩;rcases h2 with h2|⟨g,cap,cur,e,h3,hh,r⟩
 ·exact .inl h2
 ·exact .inr ⟨g,cap,cur,e,h3,(hb.block g (Array.getElem?_eq_some_iff.1 hh).1).trans hh,r⟩
theorem XO.call{N:Nat}{u w:World}{X:Nat}{a:Option Addr}{n cap B:Nat}{t:Int}{q:Nat->PD}{L:List (Mk×Nat)}(h:XO N u X a n cap B t q L)(hb:ah u w):XO N w X a n cap B t q L:=
 ⟨h.lo,Nat.lt_of_lt_of_le h.lt hb.size,(hb.cell (p:=⟨X,0,none⟩) h.lt).trans h.c0,(hb.cell (p:=⟨X,1,none⟩) h.lt).trans h.c1,(hb.cell (p:=⟨X,2,none⟩) h.lt).trans h.c2,fun o=>(hb.frozen (p:=⟨X,o,none⟩) h.lt).trans (h.fr o),ZI h.own hb,h.map.below hb,h.bl,h.ne⟩
theorem XO.drew{N:Nat}{w:World}{X:Nat}{a:Option Addr}{n cap B:Nat}{t:Int}{q:Nat->PD}{L:List (Mk×Nat)}(h:XO N w X a n cap B t q L):XO N w.drew X a n cap B t q L:=⟨h.lo,h.lt,h.c0,h.c1,h.c2,h.fr,h.own,h.map,h.bl,h.ne⟩
theorem XO.alloc{N:Nat}{w:World}{X:Nat}{a:Option Addr}{n cap B:Nat}{t:Int}{q:Nat->PD}{L:List (Mk×Nat)}(h:XO N w X a n cap B t q L)(o:Obj):XO N (w.alloc o) X a n cap B t q L:=h.call (q01 w o)
theorem TS{N:Nat}{w:World}{X:Nat}{a:Option Addr}{n cap:Nat}{xs:List Value}{T:TypeId}(h:w.ownsRow N T 11 (.slice a n cap) n xs)(hne:∀b off sp,a=some ⟨b,off,sp⟩->b≠X)(o:Nat)(v:Value):(w.setCell ⟨X,o,none⟩ v).ownsRow N T 11 (.slice a n cap) n xs:=by
 obtain⟨h1,h2⟩:=h;refine⟨h1,?_⟩;rcases h2 with h2|⟨g,cap',cur,e,h3,hh,r⟩
 ·exact .inl h2
 ·cases e;exact .inr ⟨g,cap,cur,rfl,h3,(Below.heap_setCell w ⟨X,o,none⟩ v g (hne g 0 none rfl)).trans hh,r⟩
theorem O7{w:World}{B X o:Nat}{v:Value}{L:List (Mk×Nat)}(h:dF w B L)(hc:w.cell? ⟨X,o,none⟩=some v):B≠X:=fun e=>by
 subst e;obtain⟨es,c,hb,_⟩:=h;simp[World.cell?,hb] at hc
theorem z65{w:World}{B:Nat}{L:List (Mk×Nat)}(h:dF w B L){a:Addr}(hne:B≠a.block)(v:Value):dF (w.setCell a v) B L:=by
 obtain⟨es,c,hb,e⟩:=h;exact⟨es,c,(Below.heap_setCell w a v B hne).trans hb,e⟩
theorem XO.OE{N:Nat}{w:World}{X:Nat}{a:Option Addr}{n cap B:Nat}{t:Int}{q:Nat->PD}{L:List (Mk×Nat)}(h:XO N w X a n cap B t q L)(s:Int):XO N (w.setCell ⟨X,2,none⟩ (.int .i64 s)) X a n cap B s q L:=
 ⟨h.lo,by have:=h.lt;simpa using this,by simp[go_sem,h.c0],by simp[go_sem,h.c1],by simp[go_sem,h.c2],fun o=>by simp[go_sem,h.fr o],TS h.own h.ne 2 _,z65 h.map (a:=⟨X,2,none⟩) (O7 h.map h.c0) _,h.bl,h.ne⟩
theorem Hy{w w':World}{b:Nat}(h:w.mapTurned w' b)(p:Addr):w'.cell? p=w.cell? p:=by
 obtain⟨es,c,es',c',hb,rfl⟩:=h;unfold World.cell?;by_cases e:p.block=b
 ·rw[e,Go.ChangeMaps.heap_setBlock_same hb,hb]
 ·rw[Go.ChangeMaps.heap_setBlock_other hb _ e]
theorem XO.turned{N:Nat}{w w':World}{X:Nat}{a:Option Addr}{n cap B:Nat}{t:Int}{q:Nat->PD}{L L':List (Mk×Nat)}(h:XO N w X a n cap B t q L)(hM:dF w' B L')(ht:w.mapTurned w' B):XO N w' X a n cap B t q L':=by
 refine⟨h.lo,Nat.lt_of_lt_of_le h.lt ht.grown.size,(Hy ht _).trans h.c0,(Hy ht _).trans h.c1,(Hy ht _).trans h.c2,fun o=>(ht.frozen _).trans (h.fr o),?_,hM,h.bl,h.ne⟩;obtain⟨h1,h2⟩:=h.own;refine⟨h1,?_⟩;rcases h2 with h2|⟨g,cap',cur,e,h3,hh,r⟩
 ·exact .inl h2
 ·refine .inr ⟨g,cap',cur,e,h3,(ht.grown.block g (Array.getElem?_eq_some_iff.1 hh).1 ?_).trans hh,r⟩;intro e2
  cases e2;obtain⟨es,c,hb,_⟩:=h.map;rw[hb] at hh;cases hh
abbrev oZ(x:VD):Array Value:=#[.int .i64 x.k,.int .i64 x.n,.float .f64 x.f,.string x.s,.int .i64 x.r]
theorem Vt{N:Nat}{w:World}{T:TypeId}{a:Option Addr}{n cap:Nat}{xs:List Value}(h:w.ownsRow N T 11 (.slice a n cap) n xs){x:Addr}(e:a=some x):x.block<w.heap.size:=by
 obtain⟨_,h2⟩:=h;rcases h2 with⟨h2,_⟩|⟨g,cap',cur,e2,_,hh,_⟩
 ·cases h2;cases e
 ·cases e2;cases e;exact(Array.getElem?_eq_some_iff.1 hh).1
def vI(w0 u:World)(X B:Nat)(r:Option Nat):Prop:=∀k,k<w0.heap.size->k≠X->k≠B->some k≠r->u.heap[k]?=w0.heap[k]?
theorem vI.call{w0 u w:World}{X B:Nat}{r:Option Nat}(h:vI w0 u X B r)(hs:w0.heap.size<=u.heap.size)(hb:ah u w):vI w0 w X B r:=fun k hk h1 h2 h3=>(hb.block k (Nat.lt_of_lt_of_le hk hs)).trans (h k hk h1 h2 h3)
theorem vI.grown{w0 u w:World}{X B:Nat}{r row:Option Nat}(h:vI w0 u X B r)(hs:w0.heap.size<=u.heap.size)(hg:u.grownBy w row)(hr:∀k,k<w0.heap.size->k≠X->k≠B->some k≠r->some k≠row):vI w0 w X B r:=fun k hk h1 h2 h3=>(hg.block k (Nat.lt_of_lt_of_le hk hs) (hr k hk h1 h2 h3)).trans (h k hk h1 h2 h3)
def FZ(w:World)(a a':Option Addr):Prop:=∀b,a'=some b->a=some b\/w.heap.size<=b.block
structure CO(N:Nat)(w0:World)(X:Nat)(a:Option Addr)(n cap B:Nat)(t:Int)(q:Nat->PD)(L:List (Mk×Nat))(KB VB:Nat)(y v:VD)(u:World):Prop where
 x:XO N u X a n cap B t q L
 k:Has u KB (oZ y)
 v:Has u VB (oZ v)
 b:Below N w0 u
 s:N<=w0.heap.size
 nk:∀b off sp,a=some ⟨b,off,sp⟩->b≠KB/\b≠VB
 tl:∀o,3<=o->u.cell? ⟨X,o,none⟩=w0.cell? ⟨X,o,none⟩
 ex:vI w0 u X B (Value.slice a n cap).ownBlock
theorem CO.call{N:Nat}{w0 u:World}{X:Nat}{a:Option Addr}{n cap B:Nat}{t:Int}{q:Nat->PD}{L:List (Mk×Nat)}{KB VB:Nat}{y v:VD}{w:World}(h:CO N w0 X a n cap B t q L KB VB y v u)(hb:ah u w):CO N w0 X a n cap B t q L KB VB y v w:=⟨h.x.call hb,h.k.call hb,h.v.call hb,h.b.trans (hb.mono (Nat.le_trans h.s h.b.size)),h.s,h.nk,fun o ho=>(hb.cell (p:=⟨X,o,none⟩) h.x.lt).trans (h.tl o ho),h.ex.call h.b.size hb⟩
theorem CO.drew{N:Nat}{w0 u:World}{X:Nat}{a:Option Addr}{n cap B:Nat}{t:Int}{q:Nat->PD}{L:List (Mk×Nat)}{KB VB:Nat}{y v:VD}(h:CO N w0 X a n cap B t q L KB VB y v u):CO N w0 X a n cap B t q L KB VB y v u.drew:=⟨h.x.drew,h.k.drew,h.v.drew,h.b.drew,h.s,h.nk,h.tl,h.ex⟩
theorem CO.alloc{N:Nat}{w0 u:World}{X:Nat}{a:Option Addr}{n cap B:Nat}{t:Int}{q:Nat->PD}{L:List (Mk×Nat)}{KB VB:Nat}{y v:VD}(h:CO N w0 X a n cap B t q L KB VB y v u)(o:Obj):CO N w0 X a n cap B t q L KB VB y v (u.alloc o):=h.call (q01 u o)
theorem VP{w w':World}{b B:Nat}{A:Array Value}(h:Has w b A)(ht:w.mapTurned w' B):Has w' b A:=⟨Nat.lt_of_lt_of_le h.lt ht.grown.size,fun o=>(Hy ht _).trans (h.at o)⟩
theorem CO.turned{N:Nat}{w0 u:World}{X:Nat}{a:Option Addr}{n cap B:Nat}{t:Int}{q:Nat->PD}{L:List (Mk×Nat)}{KB VB:Nat}{y v:VD}{w:World}{L':List (Mk×Nat)}(h:CO N w0 X a n cap B t q L KB VB y v u)(hM:dF w B L')(ht:u.mapTurned w B):CO N w0 X a n cap B t q L' KB VB y v w:=
 ⟨h.x.turned hM ht,VP h.k ht,VP h.v ht,h.b.grown ht.grown (Nat.le_trans h.s h.b.size) (fun k e=>by cases e;exact h.x.bl),h.s,h.nk,fun o ho=>(Hy ht _).trans (h.tl o ho),h.ex.grown h.b.size ht.grown (fun k _ _ h2 _ e=>h2 (Option.some.inj e))⟩
theorem CO.s2{N:Nat}{w0:World}{X:Nat}{a:Option Addr}{n cap B:Nat}{t:Int}{q:Nat->PD}{L:List (Mk×Nat)}{KB VB:Nat}{y v:VD}{w':World}(h:CO N w0 X a n cap B t q L KB VB y v w'):w'.cell? ⟨X,0,none⟩=some (.slice a n cap)/\w'.cell? ⟨X,1,none⟩=some (.map (some B))/\w'.cell? ⟨KB,0,none⟩=some (.int .i64 y.k)/\w'.cell? ⟨KB,1,none⟩=some (.int .i64 y.n)/\w'.cell? ⟨KB,2,none⟩=some (.float .f64 y.f)/\w'.cell? ⟨KB,3,none⟩=some (.string y.s)/\w'.cell? ⟨KB,4,none⟩=some (.int .i64 y.r):=⟨h.x.c0,h.x.c1,h.k.at 0,h.k.at 1,h.k.at 2,h.k.at 3,h.k.at 4⟩
structure GS(X KB VB:Nat)(y v:VD)(t:Int)(w':World):Prop where
 c:w'.cell? ⟨X,2,none⟩=some (.int .i64 t)/\w'.cell? ⟨KB,0,none⟩=some (.int .i64 y.k)/\w'.cell? ⟨KB,1,none⟩=some (.int .i64 y.n)/\w'.cell? ⟨KB,2,none⟩=some (.float .f64 y.f)/\w'.cell? ⟨KB,3,none⟩=some (.string y.s)/\w'.cell? ⟨KB,4,none⟩=some (.int .i64 y.r)/\w'.cell? ⟨VB,0,none⟩=some (.int .i64 v.k)/\w'.cell? ⟨VB,1,none⟩=some (.int .i64 v.n)/\w'.cell? ⟨VB,2,none⟩=some (.float .f64 v.f)/\w'.cell? ⟨VB,3,none⟩=some (.string v.s)/\w'.cell? ⟨VB,4,none⟩=some (.int .i64 v.r)
 c0:∃u,w'.cell? ⟨X,0,none⟩=some u
 f:∀o,w'.frozen? ⟨X,o,none⟩=false
theorem CO.grown{N:Nat}{w0 u:World}{X:Nat}{a:Option Addr}{n cap B:Nat}{t:Int}{q:Nat->PD}{L:List (Mk×Nat)}{KB VB:Nat}{y v:VD}(h:CO N w0 X a n cap B t q L KB VB y v u)(o:Obj){w7:World}(hg:(u.alloc o).drew.grownBy w7 (Value.slice a n cap).ownBlock):GS X KB VB y v t w7:=by
 have hh:=(h.alloc o).drew;have hr:∀Y,(∀b off sp,a=some ⟨b,off,sp⟩->b≠Y)->some Y≠(Value.slice a n cap).ownBlock:=fun Y hY e=>by
  cases a with
  |none=>cases e
  |some x=>obtain⟨b,off,sp⟩:=x;simp[Value.ownBlock] at e;exact hY b off sp rfl e.symm
 have rx:=hr X h.x.ne;have rk:=hr KB fun b off sp e=>(h.nk b off sp e).1;have rv:=hr VB fun b off sp e=>(h.nk b off sp e).2;have X':∀o',w7.cell? ⟨X,o',none⟩=(u.alloc o).drew.cell? ⟨X,o',none⟩:=fun o'=>hg.cell_far ⟨X,o',none⟩ hh.x.lt rx;have K':∀o',w7.cell? ⟨KB,o',none⟩=(u.alloc o).drew.cell? ⟨KB,o',none⟩:=fun o'=>hg.cell_far ⟨KB,o',none⟩ hh.k.lt rk;have V':∀o',w7.cell? ⟨VB,o',none⟩=(u.alloc o).drew.cell? ⟨VB,o',none⟩:=fun o'=>hg.cell_far ⟨VB,o',none⟩ hh.v.lt rv;exact⟨⟨(X' 2).trans hh.x.c2,(K' 0).trans (hh.k.at 0),(K' 1).trans (hh.k.at 1),(K' 2).trans (hh.k.at 2),(K' 3).trans (hh.k.at 3),(K' 4).trans (hh.k.at 4),(V' 0).trans (hh.v.at 0),(V' 1).trans (hh.v.at 1),(V' 2).trans (hh.v.at 2),(V' 3).trans (hh.v.at 3),(V' 4).trans (hh.v.at 4)⟩,⟨_,(X' 0).trans hh.x.c0⟩,fun o'=>(hg.frozen_far ⟨X,o',none⟩ hh.x.lt rx).trans (hh.x.fr o')⟩
theorem z98(q:Nat->PD)(n:Nat):cellsOf q (n+1)=cellsOf q n++(qR (q n)).toList:=by
 unfold cellsOf;rw[Deep.range_split (show n*11<=(n+1)*11 by omega),List.map_append,List.map_map,show(n+1)*11-n*11=11 by omega];congr 1;show[fl q (n*11+0),fl q (n*11+1),fl q (n*11+2),fl q (n*11+3),fl q (n*11+4),fl q (n*11+5),fl q (n*11+6),fl q (n*11+7),fl q (n*11+8),fl q (n*11+9),fl q (n*11+10)]=_;rw[uS q n 0 (by omega),uS q n 1 (by omega),uS q n 2 (by omega),uS q n 3 (by omega),uS q n 4 (by omega),uS q n 5 (by omega),uS q n 6 (by omega),uS q n 7 (by omega),uS q n 8 (by omega),uS q n 9 (by omega),uS q n 10 (by omega)];rfl
theorem z30{q q':Nat->PD}{n:Nat}(h:∀j,j<n->q j=q' j):cellsOf q n=cellsOf q' n:=by
 unfold cellsOf;refine List.map_congr_left fun i hi=>?_;have:i<n*11:=by simpa using hi
 unfold fl;rw[h (i / 11) (by omega)]
theorem CO.appended{N:Nat}{w0 u w7:World}{X:Nat}{a:Option Addr}{n cap B:Nat}{t:Int}{q:Nat->PD}{L:List (Mk×Nat)}{KB VB:Nat}{y v:VD}{p:PD}{T:TypeId}{gg cap':Nat}(h:CO N w0 X a n cap B t q L KB VB y v u)(hown:w7.ownsRow N 277 11 (.slice (some ⟨gg,0,none⟩) (n+1) cap') (n+1) (cellsOf q n++(qR p).toList))(hg:(u.alloc (.cells (qR p) T)).drew.grownBy w7 (Value.slice a n cap).ownBlock)(hat:(Value.slice a n cap).ownBlock=some gg\/gg=u.heap.size+1):XO N (w7.setCell ⟨X,0,none⟩ (.slice (some ⟨gg,0,none⟩) (n+1) cap')) X (some ⟨gg,0,none⟩) (n+1) cap' B t (fun j=>if j=n then p else q j) L/\Below N w0 (w7.setCell ⟨X,0,none⟩ (.slice (some ⟨gg,0,none⟩) (n+1) cap'))/\(∀o,3<=o->(w7.setCell ⟨X,0,none⟩ (.slice (some ⟨gg,0,none⟩) (n+1) cap')).cell? ⟨X,o,none⟩=w0.cell? ⟨X,o,none⟩)/\vI w0 (w7.setCell ⟨X,0,none⟩ (.slice (some ⟨gg,0,none⟩) (n+1) cap')) X B (Value.slice a n cap).ownBlock/\((Value.slice a n cap).ownBlock=some gg\/w0.heap.size<=gg):=by
 have hh:=(h.alloc (.cells (qR p) T)).drew;have hr:∀Y,(∀b off sp,a=some ⟨b,off,sp⟩->b≠Y)->some Y≠(Value.slice a n cap).ownBlock:=fun Y hY e=>by
  cases a with
  |none=>cases e
  |some x=>obtain⟨b,off,sp⟩:=x;simp[Value.ownBlock] at e;exact hY b off sp rfl e.symm
 have rx:=hr X h.x.ne;have gx:gg≠X:=by
  rcases hat with e|e
  ·intro c;subst c;exact rx e.symm
  ·have:=h.x.lt;omega
 have X':∀o',w7.cell? ⟨X,o',none⟩=(u.alloc (.cells (qR p) T)).drew.cell? ⟨X,o',none⟩:=fun o'=>hg.cell_far ⟨X,o',none⟩ hh.x.lt rx;have k0:=(X' 0).trans hh.x.c0;have k1:=(X' 1).trans hh.x.c1;have k2:=(X' 2).trans hh.x.c2;have kf:∀o',w7.frozen? ⟨X,o',none⟩=false:=fun o'=>(hg.frozen_far ⟨X,o',none⟩ hh.x.lt rx).trans (hh.x.fr o');have nb:N<=(u.alloc (.cells (qR p) T)).drew.heap.size:=Nat.le_trans h.s hh.b.size;have Gn:∀k,(Value.slice a n cap).ownBlock=some k->N<=k:=fun k e=>by
  obtain⟨_,h2⟩:=h.x.own;rcases h2 with⟨h2,_⟩|⟨g,c',cur,e2,h3,_⟩
  ·cases h2;cases e
  ·cases e2;cases e;exact h3
 have rb:some B≠(Value.slice a n cap).ownBlock:=fun e=>by
  obtain⟨_,h2⟩:=h.x.own;rcases h2 with⟨h2,_⟩|⟨g,c',cur,e2,h3,hb,_⟩
  ·cases h2;cases e
  ·cases e2;have:B=g:=by simpa[Value.ownBlock] using e
   subst this;obtain⟨es,c,hm,_⟩:=h.x.map;rw[hm] at hb;cases hb
 have IW:dF w7 B L:=by
  have hl:=hh.x.map.lt;obtain⟨es,c,hm,e⟩:=hh.x.map;exact⟨es,c,(hg.block B hl rb).trans hm,e⟩
 have ho:w7.ownsRow N 277 11 (.slice (some ⟨gg,0,none⟩) (n+1) cap') (n+1) (cellsOf (fun j=>if j=n then p else q j) (n+1)):=by
  rw[z98,if_pos rfl,<-z30 (q:=q) (fun j hj=>by rw[if_neg (by omega)])];exact hown
 refine⟨⟨h.x.lo,by have:=hh.x.lt;have:=hg.size;simp;omega,by simp[go_sem,k0],by simp[go_sem,k1],by simp[go_sem,k2],fun o=>by simp[go_sem,kf o],TS ho (fun b off sp e=>by cases e;exact gx) 0 _,z65 IW (a:=⟨X,0,none⟩) (O7 IW k0) _,h.x.bl,fun b off sp e=>by cases e;exact gx⟩,?_⟩;refine⟨(hh.b.grown hg nb Gn).setCell (p:=⟨X,0,none⟩) h.x.lo _,fun o ho=>?_,fun k hk h1 h2 h3=>?_,?_⟩
 ·have hx:=(X' o).trans (hh.tl o ho);rw[<-hx];have h0:o≠0:=by omega
  exact World.cell?_setCell_other _ _ _ _ (fun e=>h0 (congrArg Addr.off e).symm)
 ·rw[Below.heap_setCell _ _ _ _ h1];exact hh.ex.grown hh.b.size hg (fun k _ _ _ h=>h) k hk h1 h2 h3
 ·rcases hat with e|e
  ·exact .inl e
  ·exact .inr (by have:=h.b.size;omega)
theorem ze9(N X:Nat)(a:Option Addr)(n cap B:Nat)(t:Int)(q:Nat->PD)(L:List (Mk×Nat))(y v:VD)(w:World)(hN:N<=w.heap.size)(hn:n<500)(t0:0<=t)(t1:t<1000000000000)(hX:XO N w X a n cap B t q L):Calls Tryz.prog 311 #[.pointer (some ⟨X,0,none⟩),y.v,v.v] w fun e w'=>e=.returned (.tuple #[])/\(∃a' cap',XO N w' X a' (n+1) cap' B (t+1) (fun j=>if j=n then⟨y,v,t+1⟩ else q j) (upd L (mk y) n)/\FZ w a a')/\Below N w w'/\(∀o,3<=o->w'.cell? ⟨X,o,none⟩=w.cell? ⟨X,o,none⟩)/\vI w w' X B (Value.slice a n cap).ownBlock:=by
 have hC:CO N w X a n cap B (t+1) q L w.heap.size (w.heap.size+1) y v (((w.setCell ⟨X,2,none⟩ (.int .i64 (t+1))).alloc (.cells (oZ y) 53)).alloc (.cells (oZ v) 53)):=by
  have e0:(w.setCell ⟨X,2,none⟩ (.int .i64 (t+1))).heap.size=w.heap.size:=by simp
  have h1:=Has.new (w.setCell ⟨X,2,none⟩ (.int .i64 (t+1))) (oZ y) 53;have h2:=Has.new ((w.setCell ⟨X,2,none⟩ (.int .i64 (t+1))).alloc (.cells (oZ y) 53)) (oZ v) 53;rw[e0] at h1;rw[World.size_alloc,e0] at h2;exact⟨((hX.OE (t+1)).alloc _).alloc _,h1.alloc _,h2,(((Below.refl N w).setCell (p:=⟨X,2,none⟩) hX.lo _).alloc (by rw[e0];exact hN) _).alloc (by rw[World.size_alloc,e0];omega) _,hN,fun b off sp e=>by have:=Vt hX.own e;simp at this;omega,fun o ho=>by
   have hlt:=hX.lt;have h2:o≠2:=by omega
   rw[World.cell?_alloc_past _ _ _ (by simp;omega),World.cell?_alloc_past _ _ _ (by simpa using hlt)];exact World.cell?_setCell_other _ _ _ _ (fun e=>h2 (congrArg Addr.off e).symm),fun k hk h1 _ _=>by
   rw[Below.heap_alloc _ _ _ (by simp;omega),Below.heap_alloc _ _ _ (by simpa using hk)];exact Below.heap_setCell _ _ _ _ h1⟩
 have c0:=hX.c0;have c1:=hX.c1;have c2:=hX.c2;have fr:=hX.fr;have lt:=hX.lt;have HRo:Hid (∀gg,((Value.slice a n cap).ownBlock=some gg\/w.heap.size<=gg)->FZ w a (some ⟨gg,0,none⟩)):=fun gg h b e=>by
  cases e;rcases h with h|h
  ·refine .inl ?_;obtain⟨_,h2⟩:=hX.own;rcases h2 with⟨h2,_⟩|⟨g,c',cur,e2,_⟩
   ·cases h2;cases h
   ·cases e2;cases h;rfl
  ·exact .inr h
 have HN:Hid (N<=w.heap.size):=hN;have HM:Hid (∀w,Calls Tryz.prog 188 #[y.v] w fun e w'=>e=.returned (mkV (mk y))/\ah w w'):=fun w=>PO y w;generalize mk y=m at HM ⊢;clear hX hN;go_in;go_wp2_with fail;obtain⟨W1,hW1⟩:∃W1,((w.setCell ⟨X,2,none⟩ (.int .i64 (t+1))).alloc (.cells (oZ y) 53)).alloc (.cells (oZ v) 53)=W1:=⟨_,rfl⟩;rw[hW1] at hC ⊢;clear hW1 c0 c1 c2 fr lt;have HC:Hid (CO N w X a n cap B (t+1) q L w.heap.size (w.heap.size+1) y v W1):=hC;clear hC;obtain⟨KB,MO⟩:∃KB,w.heap.size=KB:=⟨_,rfl⟩;obtain⟨VB,F8⟩:∃VB,KB+1=VB:=⟨_,rfl⟩;rw[MO] at HC ⊢;rw[F8] at HC ⊢;clear F8
 go_region_held3 (fun w'=>w'.cell? ⟨X,0,none⟩=some (.slice a n cap)/\w'.cell? ⟨X,1,none⟩=some (.map (some B))/\w'.cell? ⟨KB,0,none⟩=some (.int .i64 y.k)/\w'.cell? ⟨KB,1,none⟩=some (.int .i64 y.n)/\w'.cell? ⟨KB,2,none⟩=some (.float .f64 y.f)/\w'.cell? ⟨KB,3,none⟩=some (.string y.s)/\w'.cell? ⟨KB,4,none⟩=some (.int .i64 y.r)) (first|(with_reducible exact gY.out.s2)|(with_reducible exact HC.out.s2)|(with_reducible exact HC.out.drew.s2)) ((go_at_call 188;refine(HM.out _).mono ?_;rintro e w4 ⟨rfl,hb4⟩;have gY:Hid (CO N w X a n cap B (t+1) q L KB VB y v w4):=(by first|exact HC.out.call hb4|exact HC.out.drew.call hb4);clear HC hb4;obtain⟨w5,hrun,XV,hturn⟩:=zk7 Tryz.underlying241 Oi gY.out.x.map m n;have HC:Hid (CO N w X a n cap B (t+1) q (upd L m n) KB VB y v w5):=gY.out.turned XV hturn;clear XV hturn))
 clear gY;go_wp2_with fail;have c0:=HC.x.c0;have lx:=HC.x.lt;obtain⟨i0,hi,hz0,hz1,hz2⟩:=info_parts y51;have HG:Hid (∀w7,(w5.alloc (.cells (qR ⟨y,v,t+1⟩) 277)).drew.grownBy w7 (Value.slice a n cap).ownBlock->GS X KB VB y v (t+1) w7):=fun w7 hg=>HC.grown _ hg;have c2:=HC.x.c2;have kk:=HC.k.at;have vv:=HC.v.at;have lk:=HC.k.lt;have lv:=HC.v.lt;have fr:=HC.x.fr
 go_region_law ((refine step_append_lies _ (by rfl) _ _ _ (by rfl) N 277 i0 _ 11 104 Tryz.underlying240 hi hz0 hz1 hz2 rfl (by omega) (.slice a n cap) n (cellsOf q n) (by rfl) ((HC.x.own.alloc _).drew) ⟨w5.heap.size,0,none⟩ 1 1 (qR ⟨y,v,t+1⟩).toList (by rfl) (by rfl) (World.news_of_block (cs:=qR ⟨y,v,t+1⟩) (t:=277) (fr:=(0,0)) (heap_alloc_new w5 _)) (by simp[Value.oneCell']) (by omega) (by unfold maxLen;omega) (by omega) (by simp;have:=HC.b.size;have:=HC.s;omega) (w5.heap.size+1) (by simp) ?_;intro gg cap' w7 hown1 hgrow hat hlt;have YJ:Hid (GS X KB VB y v (t+1) w7):=HG.out w7 hgrow;have fX:=YJ.f;obtain⟨uX,cX⟩:=YJ.c0))
 all_goals have HE:=HC.appended hown1 hgrow hat
 all_goals go_end0
 all_goals exact⟨rfl,⟨_,_,HE.1,HRo.out _ HE.2.2.2.2⟩,HE.2.1,HE.2.2.1,HE.2.2.2.1⟩
end
end Go.Proofs.YtihnikeikhjndaaGreatDoor
