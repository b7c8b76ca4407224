import Derived.Test.YtihnikeikhjndaaGreatDoorPlain
import Derived.Test.YtihnikeikhjndaaGreatDoorUnD
import Derived.Test.YtihnikeikhjndaaGreatDoorSpS
import Derived.Maps.AppendAt
set_option maxRecDepth 100000
set_option maxHeartbeats 16000000
namespace Go.Proofs.YtihnikeikhjndaaGreatDoor
section
open Go.RowKit
structure Kp(S T:Nat)(r:Option Nat)(w w':World):Prop where
 os:w'.os=w.os
 tape:w'.tape=w.tape
 output:w'.output=w.output
 size:w.heap.size<=w'.heap.size
 block:∀k,k<w.heap.size->k≠S->k≠T->r≠some k->w'.heap[k]?=w.heap[k]?
def Jt(r:Option Nat)(w:World)(r':Option Nat):Prop:=r'=r\/∃k,r'=some k/\w.heap.size<=k
structure Mv(S T:Nat)(a:Option Addr)(w:World)(a':Option Addr)(w':World):Prop where
 kp:Kp S T (aj a) w w'
 nw:Jt (aj a) w (aj a')
theorem Kp.refl(S T:Nat)(r:Option Nat)(w:World):Kp S T r w w:=⟨rfl,rfl,rfl,Nat.le_refl _,fun _ _ _ _ _=>rfl⟩
theorem Mv.refl(S T:Nat)(a:Option Addr)(w:World):Mv S T a w a w:=⟨Kp.refl S T _ w,.inl rfl⟩
theorem Mv.trans{S T:Nat}{a a' a'':Option Addr}{w w' w'':World}(h:Mv S T a w a' w')(k:Mv S T a' w' a'' w''):Mv S T a w a'' w'':=by
 refine⟨⟨k.kp.os.trans h.kp.os,k.kp.tape.trans h.kp.tape,k.kp.output.trans h.kp.output,Nat.le_trans h.kp.size k.kp.size,fun i hi h1 h2 h3=>?_⟩,?_⟩
 ·refine(k.kp.block i (Nat.lt_of_lt_of_le hi h.kp.size) h1 h2 ?_).trans (h.kp.block i hi h1 h2 h3);rcases h.nw with e|⟨q,e,hq⟩
  ·rw[e];exact h3
  ·rw[e];intro c;cases c;omega
 ·rcases k.nw with e|⟨q,e,hq⟩
  ·unfold Jt;rw[e];exact h.nw
  ·exact .inr ⟨q,e,Nat.le_trans h.kp.size hq⟩
theorem Mv.alloc{S T:Nat}{a a':Option Addr}{w w':World}(h:Mv S T a w a' w')(o:Obj):Mv S T a w a' (w'.alloc o):=h.trans ⟨⟨rfl,rfl,rfl,by simp,fun i hi _ _ _=>Below.heap_alloc w' o i hi⟩,.inl rfl⟩
theorem Mv.first{S T:Nat}{a a':Option Addr}{w w':World}{o:Obj}(h:Mv S T a (w.alloc o) a' w'):Mv S T a w a' w':=((Mv.refl S T a w).alloc o).trans h
theorem Mv.drew{S T:Nat}{a a':Option Addr}{w w':World}(h:Mv S T a w a' w'):Mv S T a w a' w'.drew:=⟨⟨h.kp.os,h.kp.tape,h.kp.output,h.kp.size,h.kp.block⟩,h.nw⟩
theorem Mv.call{S T:Nat}{a a':Option Addr}{w w' w'':World}(h:Mv S T a w a' w')(hb:ah w' w''):Mv S T a w a' w'':=h.trans ⟨⟨hb.os,hb.tape,hb.output,hb.size,fun i hi _ _ _=>hb.block i hi⟩,.inl rfl⟩
theorem Mv.set{S T:Nat}{a a':Option Addr}{w w':World}(h:Mv S T a w a' w'){p:Addr}(hp:p.block=S\/p.block=T\/aj a'=some p.block)(v:Value):Mv S T a w a' (w'.setCell p v):=h.trans ⟨⟨rfl,rfl,rfl,by simp,fun i _ h1 h2 h3=>Below.heap_setCell w' p v i (fun e=>by
 subst e;rcases hp with e|e|e
 ·exact h1 e
 ·exact h2 e
 ·exact h3 e)⟩,.inl rfl⟩
theorem Mv.has{S T:Nat}{a a':Option Addr}{w w':World}(h:Mv S T a w a' w'){B:Nat}{A:Array Value}(hb:Has w B A)(h1:B≠S)(h2:B≠T)(h3:aj a≠some B):Has w' B A:=
 ⟨Nat.lt_of_lt_of_le hb.1 h.kp.size,fun o=>(World.cell?_of_block (a:=⟨B,o,none⟩) (h.kp.block B hb.1 h1 h2 h3)).trans (hb.2 o)⟩
def svK(st:List Int):List Value:=st.map fun v=>.int .i64 v
theorem yj0(st:List Int):(svK st).length=st.length:=by simp[svK]
theorem yj1(st:List Int)(v:Int):svK (st++[v])=svK st++[.int .i64 v]:=by simp[svK]
theorem yc3(st:List Int)(n:Nat):svK (st.take n)=(svK st).take n:=by simp[svK,List.map_take]
def cnt(st:List Int)(v:Nat):Int:=(st.filter (fun y=>decide (y=(v:Int)))).length
theorem NY(st:List Int)(v:Nat):0<=cnt st v/\cnt st v<=st.length:=by
 unfold cnt;have:=List.length_filter_le (fun y=>decide (y=(v:Int))) st;omega
theorem yg3(st:List Int)(y v:Nat):cnt (st++[(y:Int)]) v=if v=y then cnt st y+1 else cnt st v:=by
 unfold cnt;rw[List.filter_append,List.length_append];by_cases e:v=y
 ·subst e;simp
 ·rw[if_neg e];have:¬((y:Int)=(v:Int)):=by omega
  simp[this]
theorem tq{st:List Int}{v:Nat}:0<cnt st v↔(v:Int)∈st:=by
 unfold cnt;constructor
 ·intro h;have h:0<(st.filter (fun y=>decide (y=(v:Int)))).length:=by omega
  obtain⟨y,hy⟩:=List.exists_mem_of_length_pos h;rw[List.mem_filter] at hy;have:=of_decide_eq_true hy.2;exact this ▸ hy.1
 ·intro h;have:(v:Int)∈st.filter (fun y=>decide (y=(v:Int))):=List.mem_filter.2 ⟨h,decide_eq_true rfl⟩;have:=List.length_pos_of_mem this;omega
abbrev cO(S f:Nat):Value:=.func (Fn.func f) #[.pointer (some ⟨S,0,none⟩)] #[]
def zl:Nat->Nat
 |1=>131
 |2=>132
 |6=>133
 |7=>133
 |8=>133
 |9=>135
 |10=>135
 |12=>134
 |26=>136
 |27=>137
 |36=>138
 |37=>139
 |_=>130
abbrev vM(S T:Nat)(u:UD)(f:Nat)(ua:Option Addr)(uc:Nat)(fa:FA)(stk:Value)(ins:Nat)(x:FT):Array Value:=#[.slice ua u.n uc,.int .i64 (f:Int),.string (u.fn f).name,.int .i64 (u.fn f).line,.int .i64 (u.fn f).params,.bool (u.fn f).rest,.slice fa.va (u.fn f).vn fa.vc,.slice fa.ua (u.fn f).un fa.uc,.slice fa.na (u.fn f).nn fa.nc,cO S 130,cO S 131,cO S 132,cO S 130,cO S 130,cO S 130,cO S 133,cO S 133,cO S 133,cO S 135,cO S 135,cO S 130,cO S 134,cO S 130,cO S 130,cO S 130,cO S 130,cO S 130,cO S 130,cO S 130,cO S 130,cO S 130,cO S 130,cO S 130,cO S 130,cO S 130,cO S 136,cO S 137,cO S 130,cO S 130,cO S 130,cO S 130,cO S 130,cO S 130,cO S 130,cO S 130,cO S 138,cO S 139,cO S 130,stk,.slice (some ⟨T,0,none⟩) (u.fn f).vn (u.fn f).vn,.int .i64 (ins:Int),.int .i64 (x.c:Int),.int .i64 (x.f:Int),.int .i64 (x.n:Int)]
theorem yd1(S T:Nat)(u:UD)(f:Nat)(ua:Option Addr)(uc:Nat)(fa:FA)(stk:Value)(ins:Nat)(x:FT)(k:Nat)(hk:k<39):(vM S T u f ua uc fa stk ins x)[9+k]?=some (cO S (zl k)):=by
 rcases(show k=0\/k=1\/k=2\/k=3\/k=4\/k=5\/k=6\/k=7\/k=8\/k=9\/k=10\/k=11\/k=12\/k=13\/k=14\/k=15\/k=16\/k=17\/k=18\/k=19\/k=20\/k=21\/k=22\/k=23\/k=24\/k=25\/k=26\/k=27\/k=28\/k=29\/k=30\/k=31\/k=32\/k=33\/k=34\/k=35\/k=36\/k=37\/k=38 by omega) with rfl|rfl|rfl|rfl|rfl|rfl|rfl|rfl|rfl|rfl|rfl|rfl|rfl|rfl|rfl|rfl|rfl|rfl|rfl|rfl|rfl|rfl|rfl|rfl|rfl|rfl|rfl|rfl|rfl|rfl|rfl|rfl|rfl|rfl|rfl|rfl|rfl|rfl|rfl<;>rfl
theorem y90(S T:Nat)(u:UD)(f:Nat)(ua:Option Addr)(uc:Nat)(fa:FA)(stk Gj:Value)(ins:Nat)(x:FT):(vM S T u f ua uc fa stk ins x).setIfInBounds 48 Gj=vM S T u f ua uc fa Gj ins x:=rfl
theorem yj4(S T:Nat)(u:UD)(f:Nat)(ua:Option Addr)(uc:Nat)(fa:FA)(stk:Value)(ins ins':Nat)(x:FT):(vM S T u f ua uc fa stk ins x).setIfInBounds 50 (.int .i64 (ins':Int))=vM S T u f ua uc fa stk ins' x:=rfl
theorem y31(S T:Nat)(u:UD)(f:Nat)(ua:Option Addr)(uc:Nat)(fa:FA)(stk:Value)(ins:Nat)(x y:FT):(((vM S T u f ua uc fa stk ins x).setIfInBounds 51 (.int .i64 (y.c:Int))).setIfInBounds 52 (.int .i64 (y.f:Int))).setIfInBounds 53 (.int .i64 (y.n:Int))=vM S T u f ua uc fa stk ins y:=rfl
structure CX where
 S:Nat
 T:Nat
 L:Nat
 w0:World
 u:UD
 f:Nat
 ua:Option Addr
 uc:Nat
 fas:Nat->FA
abbrev CX.d(C:CX):FD:=C.u.fn C.f
abbrev CX.fa(C:CX):FA:=C.fas C.f
structure CX.ok(C:CX):Prop where
 u5:U5 C.u
 sm:C.u.sm
 f:C.f<C.u.n
 at_:aZ C.L C.w0 C.u.n C.u.fn C.ua C.fas
 cap:jc C.d C.fa
structure SS(C:CX)(st:List Int)(ins:Nat)(x:FT)(a:Option Addr)(cap:Nat)(w:World):Prop where
 box:OwnB w C.S (vM C.S C.T C.u C.f C.ua C.uc C.fa (.slice a st.length cap) ins x)
 tm:eX w C.T C.d.vn (cnt st)
 sk:w.ownsRow C.w0.heap.size 3 1 (.slice a st.length cap) st.length (svK st)
 rg:∀v,v∈st->fO v C.d.vn
 sT:C.S≠C.T
 sa:aj a≠some C.S
 ta:aj a≠some C.T
 nS:C.w0.heap.size<=C.S
 nT:C.w0.heap.size<=C.T
 b:ah C.w0 w
theorem SS.ge{C:CX}{st:List Int}{ins:Nat}{x:FT}{a:Option Addr}{cap:Nat}{w:World}(h:SS C st ins x a cap w){k:Nat}(e:aj a=some k):C.w0.heap.size<=k/\k<w.heap.size:=h.sk.lt k ((dD a st.length cap).trans e)
theorem SS.call{C:CX}{st:List Int}{ins:Nat}{x:FT}{a:Option Addr}{cap:Nat}{w w':World}(h:SS C st ins x a cap w)(hb:ah w w'):SS C st ins x a cap w' where
 box:=h.box.block hb.size (hb.block _ h.box.1.1)
 tm:=World.rowIs.of_block h.tm (hb.block _ (World.rowIs.lt h.tm))
 sk:=by
  refine⟨h.sk.1,?_⟩;rcases h.sk.2 with h2|⟨g,cap',cur,e2,h3,hh,r⟩
  ·exact .inl h2
  ·exact .inr ⟨g,cap',cur,e2,h3,(hb.block g (Array.getElem?_eq_some_iff.1 hh).1).trans hh,r⟩
 rg:=h.rg
 sT:=h.sT
 sa:=h.sa
 ta:=h.ta
 nS:=h.nS
 nT:=h.nT
 b:=h.b.trans (hb.mono h.b.size)
theorem SS.alloc{C:CX}{st:List Int}{ins:Nat}{x:FT}{a:Option Addr}{cap:Nat}{w:World}(h:SS C st ins x a cap w)(o:Obj):SS C st ins x a cap (w.alloc o):=h.call (q01 w o)
theorem SS.drew{C:CX}{st:List Int}{ins:Nat}{x:FT}{a:Option Addr}{cap:Nat}{w:World}(h:SS C st ins x a cap w):SS C st ins x a cap w.drew:=h.call (Below.refl _ _).drew
theorem SS.fns{C:CX}{st:List Int}{ins:Nat}{x:FT}{a:Option Addr}{cap:Nat}{w:World}(h:SS C st ins x a cap w)(hC:C.ok):aZ C.L w C.u.n C.u.fn C.ua C.fas:=hC.at_.below h.b
theorem SS.other{C:CX}{st:List Int}{ins:Nat}{x:FT}{a:Option Addr}{cap:Nat}{w:World}(h:SS C st ins x a cap w){B:Nat}(hB:w.heap.size<=B):B≠C.S/\B≠C.T/\aj a≠some B:=by
 have h1:=h.box.1.1;have h2:=World.rowIs.lt h.tm;refine⟨by omega,by omega,fun e=>?_⟩;have:=(h.ge e).2;omega
theorem SS.ins{C:CX}{st:List Int}{ins:Nat}{x:FT}{a:Option Addr}{cap:Nat}{w:World}(h:SS C st ins x a cap w)(ins':Nat):SS C st ins' x a cap (w.setCell ⟨C.S,50,none⟩ (.int .i64 (ins':Int))):=by
 have hk:∀k,k≠C.S->(w.setCell ⟨C.S,50,none⟩ (.int .i64 (ins':Int))).heap[k]?=w.heap[k]?:=fun k hk=>Below.heap_setCell w ⟨C.S,50,none⟩ _ k hk;refine⟨?_,World.rowIs.of_block h.tm (hk _ (Ne.symm h.sT)),?_,h.rg,h.sT,h.sa,h.ta,h.nS,h.nT,iT h.b h.nS _⟩
 ·have:=h.box.set (o:=50) (by show 50<54;omega) (.int .i64 (ins':Int))
  rwa [yj4] at this
 ·refine⟨h.sk.1,?_⟩;rcases h.sk.2 with h2|⟨g,cap',cur,e2,h3,hh,r⟩
  ·exact .inl h2
  ·exact .inr ⟨g,cap',cur,e2,h3,(hk g (fun e=>h.sa (by cases e2;rw[<-e];rfl))).trans hh,r⟩
theorem SS.first{C:CX}{st:List Int}{ins:Nat}{x:FT}{a:Option Addr}{cap:Nat}{w:World}(h:SS C st ins x a cap w)(y:FT):SS C st ins y a cap (((w.setCell ⟨C.S,51,none⟩ (.int .i64 (y.c:Int))).setCell ⟨C.S,52,none⟩ (.int .i64 (y.f:Int))).setCell ⟨C.S,53,none⟩ (.int .i64 (y.n:Int))):=by
 have hk:∀k,k≠C.S->(((w.setCell ⟨C.S,51,none⟩ (.int .i64 (y.c:Int))).setCell ⟨C.S,52,none⟩ (.int .i64 (y.f:Int))).setCell ⟨C.S,53,none⟩ (.int .i64 (y.n:Int))).heap[k]?=w.heap[k]?:=fun k hk=>((Below.heap_setCell _ ⟨C.S,53,none⟩ _ k hk).trans (Below.heap_setCell _ ⟨C.S,52,none⟩ _ k hk)).trans (Below.heap_setCell _ ⟨C.S,51,none⟩ _ k hk);refine⟨?_,World.rowIs.of_block h.tm (hk _ (Ne.symm h.sT)),?_,h.rg,h.sT,h.sa,h.ta,h.nS,h.nT,iT (iT (iT h.b h.nS _) h.nS _) h.nS _⟩
 ·have:=((h.box.set (o:=51) (by show 51<54;omega) (.int .i64 (y.c:Int))).set (o:=52) (by show 52<54;omega) (.int .i64 (y.f:Int))).set (o:=53) (by show 53<54;omega) (.int .i64 (y.n:Int))
  rwa [y31] at this
 ·refine⟨h.sk.1,?_⟩;rcases h.sk.2 with h2|⟨g,cap',cur,e2,h3,hh,r⟩
  ·exact .inl h2
  ·exact .inr ⟨g,cap',cur,e2,h3,(hk g (fun e=>h.sa (by cases e2;rw[<-e];rfl))).trans hh,r⟩
def gB(C:CX)(st:List Int)(ins:Nat)(Q:FT->Prop)(a:Option Addr)(w w':World):Prop:=∃x' a' cap',SS C st ins x' a' cap' w'/\Least Q x'/\Mv C.S C.T a w a' w'
structure dL(C:CX)(n:Nat)(st:List Int)(ins:Nat)(x:FT)(a:Option Addr)(cap:Nat)(P:FT->Prop)(w:World):Prop where
 ss:SS C st ins x a cap w
 lt:n<C.d.nn
 stack:bD C.d n st
 loop:0<ins↔rW C.d.nd C.d.nn n
 room:st.length+209715200*n<=700000000000
 deep:ins+n<=3000
 least:Least P x
def leaves(C:CX)(n:Nat):List Int:=if(C.d.nd n).k=2 then qY (C.d.nd n) C.d.vn else[]
def uT(C:CX)(g n:Nat):Prop:=∀(st:List Int) (ins:Nat) (x:FT) (a:Option Addr) (cap:Nat) (P:FT->Prop) (w:World),dL C n st ins x a cap P w->
 Calls Tryz.prog g #[.pointer (some ⟨C.S,0,none⟩),.int .i64 (n:Int)] w fun e w'=>e=.returned (.tuple #[])/\gB C (st++leaves C n) ins (fun y=>P y\/iO C.u C.f n y) a w w'
def qh(C:CX)(n:Nat):Prop:=uT C 141 n
def jF(r:Nat->Int)(vn j:Nat):List Int:=((List.range j).map r).filter (fun v=>decide (0<=v) && decide (v<vn))
theorem OT(r:Nat->Int)(vn:Nat):jF r vn 0=[]:=rfl
theorem U2{r:Nat->Int}{vn j:Nat}(h:fO (r j) vn):jF r vn (j+1)=jF r vn j++[r j]:=by
 unfold jF;rw[List.range_succ,List.map_append,List.filter_append];congr 1;simp[h.1,h.2]
theorem yh9{r:Nat->Int}{vn j:Nat}(h:¬fO (r j) vn):jF r vn (j+1)=jF r vn j:=by
 unfold jF;rw[List.range_succ,List.map_append,List.filter_append];have:(decide (0<=r j) && decide (r j<vn))=false:=by
  rw[Bool.and_eq_false_iff];by_cases c:0<=r j
  ·exact .inr (decide_eq_false fun c2=>h ⟨c,c2⟩)
  ·exact .inl (decide_eq_false c)
 simp[this]
theorem GK(r:Nat->Int)(vn j:Nat):(jF r vn j).length<=j:=by
 unfold jF;exact Nat.le_trans (List.length_filter_le _ _) (by simp)
theorem KW(d:ND)(vn:Nat):jF d.r vn d.rn=qY d vn:=rfl
theorem z59{u:World}{N:Nat}{v:Value}{n:Nat}{xs:List Value}(h:u.ownsRow N 3 1 v n xs):∃a cap,v=.slice a n cap:=by
 rcases h.2 with⟨rfl,rfl⟩|⟨g,cap,cur,rfl,_⟩
 ·exact⟨_,_,rfl⟩
 ·exact⟨_,_,rfl⟩
theorem Xa{u w:World}{N:Nat}{a:Option Addr}{m cap n:Nat}{xs:List Value}(h:u.ownsRow N 3 1 (.slice a m cap) n xs)(hk:∀k,aj a=some k->w.heap[k]?=u.heap[k]?):w.ownsRow N 3 1 (.slice a m cap) n xs:=by
 refine⟨h.1,?_⟩;rcases h.2 with h2|⟨g,cap',cur,e2,h3,hh,r⟩
 ·exact .inl h2
 ·exact .inr ⟨g,cap',cur,e2,h3,(hk g (by cases e2;rfl)).trans hh,r⟩
theorem SS.mid{C:CX}{st:List Int}{ins:Nat}{x:FT}{a:Option Addr}{cap:Nat}{w w1:World}(h:SS C st ins x a cap w)(hg:w.grownBy w1 (aj a)):OwnB w1 C.S (vM C.S C.T C.u C.f C.ua C.uc C.fa (.slice a st.length cap) ins x)/\eX w1 C.T C.d.vn (cnt st):=
 ⟨h.box.block hg.size (hg.block _ h.box.1.1 (fun e=>h.sa e.symm)),World.rowIs.of_block h.tm (hg.block _ (World.rowIs.lt h.tm) (fun e=>h.ta e.symm))⟩
theorem SS.push{C:CX}{st:List Int}{ins:Nat}{x:FT}{a:Option Addr}{cap:Nat}{w w1:World}(h:SS C st ins x a cap w){y:Nat}(hy:y<C.d.vn){v':Value}(ho:w1.ownsRow C.w0.heap.size 3 1 v' (st.length+1) (svK st++[.int .i64 (y:Int)]))(hg:w.grownBy w1 (aj a))(hat:v'.ownBlock=aj a\/v'.ownBlock=some w.heap.size):∃a' cap',v'=.slice a' (st.length+1) cap'/\SS C (st++[(y:Int)]) ins x a' cap' ((w1.setCell ⟨C.S,48,none⟩ v').setCell ⟨C.T,y,none⟩ (.int .i64 (cnt st y+1)))/\Mv C.S C.T a w a' ((w1.setCell ⟨C.S,48,none⟩ v').setCell ⟨C.T,y,none⟩ (.int .i64 (cnt st y+1))):=by
 obtain⟨a',cap',rfl⟩:=z59 ho;obtain⟨hb,ht⟩:=h.mid hg;rw[dD] at hat;have hlen:(st++[(y:Int)]).length=st.length+1:=by simp
 have hS:aj a'≠some C.S:=fun e=>by
  rcases hat with c|c
  ·exact h.sa (c.symm.trans e)
  ·have:=h.box.1.1;rw[c] at e;have e:=Option.some.inj e;omega
 have hT:aj a'≠some C.T:=fun e=>by
  rcases hat with c|c
  ·exact h.ta (c.symm.trans e)
  ·have:=World.rowIs.lt h.tm;rw[c] at e;have e:=Option.some.inj e;omega
 have hk:∀k,k≠C.S->k≠C.T->((w1.setCell ⟨C.S,48,none⟩ (.slice a' (st.length+1) cap')).setCell ⟨C.T,y,none⟩ (.int .i64 (cnt st y+1))).heap[k]?=w1.heap[k]?:=fun k h1 h2=>(Below.heap_setCell _ ⟨C.T,y,none⟩ _ k h2).trans (Below.heap_setCell _ ⟨C.S,48,none⟩ _ k h1);have MC:((w1.setCell ⟨C.S,48,none⟩ (.slice a' (st.length+1) cap')).setCell ⟨C.T,y,none⟩ (.int .i64 (cnt st y+1))).heap[C.S]?=(w1.setCell ⟨C.S,48,none⟩ (.slice a' (st.length+1) cap')).heap[C.S]?:=Below.heap_setCell _ ⟨C.T,y,none⟩ _ C.S h.sT;have hkT:(w1.setCell ⟨C.S,48,none⟩ (.slice a' (st.length+1) cap')).heap[C.T]?=w1.heap[C.T]?:=Below.heap_setCell _ ⟨C.S,48,none⟩ _ C.T (Ne.symm h.sT);refine⟨a',cap',rfl,?_,?_⟩
 ·refine⟨?_,?_,?_,fun v hv=>?_,h.sT,hS,hT,h.nS,h.nT,?_⟩
  ·rw[hlen];have h1:=hb.set (o:=48) (by show 48<54;omega) (.slice a' (st.length+1) cap');rw[y90] at h1;exact h1.block (by simp) MC
  ·exact(World.rowIs.set (World.rowIs.of_block ht hkT) y _).congr fun i _=>by
    rw[yg3];split<;>rfl
  ·rw[hlen,yj1];exact Xa ho fun k e=>hk k (fun c=>hS (c ▸ e)) (fun c=>hT (c ▸ e))
  ·rcases List.mem_append.1 hv with hv|hv
   ·exact h.rg v hv
   ·have:v=(y:Int):=by simpa using hv
    subst this;exact⟨by omega,by omega⟩
  ·exact iT (iT ((h.b.grown hg h.b.size (fun k e=>(h.ge e).1))) h.nS _) h.nT _
 ·have h0:Mv C.S C.T a w a' w1:=⟨⟨hg.os,hg.tape,hg.output,hg.size,fun k hk _ _ h3=>hg.block k hk (fun e=>h3 e.symm)⟩,by
   rcases hat with c|c
   ·exact .inl c
   ·exact .inr ⟨_,c,Nat.le_refl _⟩⟩
  exact(h0.set (p:=⟨C.S,48,none⟩) (.inl rfl) _).set (p:=⟨C.T,y,none⟩) (.inr (.inl rfl)) _
def rest(st:List Int)(h i:Nat):List Int:=st.take h++st.drop (h+i)
theorem ZQ(st:List Int)(h:Nat):rest st h 0=st:=List.take_append_drop h st
theorem y35(st:List Int){h i:Nat}(e:st.length<=h+i):rest st h i=st.take h:=by
 unfold rest;rw[List.drop_eq_nil_of_le e,List.append_nil]
theorem yg2(s t:List Int)(v:Nat):cnt (s++t) v=cnt s v+cnt t v:=by
 unfold cnt;rw[List.filter_append,List.length_append];omega
theorem y69(y:Nat)(t:List Int)(v:Nat):cnt ((y:Int) :: t) v=(if v=y then 1 else 0)+cnt t v:=by
 unfold cnt;by_cases e:v=y
 ·subst e;simp;omega
 ·have:¬((y:Int)=(v:Int)):=by omega
  simp[this,e]
theorem ZP{st:List Int}{h i y:Nat}(e:st[h+i]?=some (y:Int))(v:Nat):cnt (rest st h (i+1)) v=if v=y then cnt (rest st h i) y-1 else cnt (rest st h i) v:=by
 have hd:st.drop (h+i)=(y:Int) :: st.drop (h+(i+1)):=by
  obtain⟨hlt,he⟩:=List.getElem?_eq_some_iff.1 e;rw[List.drop_eq_getElem_cons hlt,he];rfl
 unfold rest;rw[hd];simp only[yg2,y69];by_cases c:v=y
 ·subst c;simp;omega
 ·simp[c]
theorem SS.times{C:CX}{st:List Int}{ins:Nat}{x:FT}{a:Option Addr}{cap:Nat}{w:World}(h:SS C st ins x a cap w){hh:Nat}(hle:hh<=st.length){w1:World}(hk:∀k,k≠C.T->w1.heap[k]?=w.heap[k]?)(hs:w1.heap.size=w.heap.size)(ho:w1.os=w.os/\w1.tape=w.tape/\w1.output=w.output)(ht:eX w1 C.T C.d.vn (cnt (st.take hh))):SS C (st.take hh) ins x a cap (w1.setCell ⟨C.S,48,none⟩ (.slice a hh cap))/\Mv C.S C.T a w a (w1.setCell ⟨C.S,48,none⟩ (.slice a hh cap)):=by
 have hlen:(st.take hh).length=hh:=by rw[List.length_take];omega
 have MC:∀k,k≠C.S->(w1.setCell ⟨C.S,48,none⟩ (.slice a hh cap)).heap[k]?=w1.heap[k]?:=fun k h1=>Below.heap_setCell _ ⟨C.S,48,none⟩ _ k h1;have hb1:OwnB w1 C.S (vM C.S C.T C.u C.f C.ua C.uc C.fa (.slice a st.length cap) ins x):=h.box.block (by omega) (hk _ h.sT);refine⟨⟨?_,World.rowIs.of_block ht (MC _ (Ne.symm h.sT)),?_,fun v hv=>h.rg v (List.mem_of_mem_take hv),h.sT,h.sa,h.ta,h.nS,h.nT,?_⟩,?_⟩
 ·rw[hlen];have h1:=hb1.set (o:=48) (by show 48<54;omega) (.slice a hh cap);rw[y90] at h1;exact h1
 ·rw[hlen];refine⟨by rw[yj0,hlen];omega,?_⟩;rcases h.sk.2 with⟨h2,h3⟩|⟨g,cap',cur,e2,h3,h4,h5,h6,h7,h8⟩
  ·obtain⟨rfl,_,rfl⟩:a=none/\st.length=0/\cap=0:=by simpa using h2
   exact .inl ⟨by rw[show hh=0 by omega],by omega⟩
  ·cases e2;refine .inr ⟨g,cap,cur,rfl,h3,((MC g (fun e=>h.sa (by rw[<-e];rfl))).trans (hk g (fun e=>h.ta (by rw[<-e];rfl)))).trans h4,by omega,h6,h7,?_⟩;rw[yc3,<-h8,List.take_take];congr 1;omega
 ·refine iT ⟨ho.1.trans h.b.os,ho.2.1.trans h.b.tape,ho.2.2.trans h.b.output,by rw[hs];exact h.b.size,fun k hk'=>(hk k (by have:=h.nT;omega)).trans (h.b.block k hk')⟩ h.nS _
 ·have h0:Mv C.S C.T a w a w1:=⟨⟨ho.1,ho.2.1,ho.2.2,by omega,fun k _ _ h2 _=>hk k h2⟩,.inl rfl⟩;exact h0.set (p:=⟨C.S,48,none⟩) (.inl rfl) _
end
section
open Go.RowKit
attribute [local go_sem] aN
attribute [local go_sem ↓] Go.wp_at_zero Go.wp_at_succ
theorem SS.tu{C:CX}{st:List Int}{ins:Nat}{x:FT}{a:Option Addr}{cap:Nat}{w:World}(h:SS C st ins x a cap w):w.cell? ⟨C.S,48,none⟩=some (.slice a st.length cap):=h.box.1.cell 48 rfl
theorem SS.c49{C:CX}{st:List Int}{ins:Nat}{x:FT}{a:Option Addr}{cap:Nat}{w:World}(h:SS C st ins x a cap w):w.cell? ⟨C.S,49,none⟩=some (.slice (some ⟨C.T,0,none⟩) C.d.vn C.d.vn):=h.box.1.cell 49 rfl
theorem SS.Ed{C:CX}{st:List Int}{ins:Nat}{x:FT}{a:Option Addr}{cap:Nat}{w:World}(h:SS C st ins x a cap w):w.cell? ⟨C.S,50,none⟩=some (.int .i64 (ins:Int)):=h.box.1.cell 50 rfl
theorem SS.c51{C:CX}{st:List Int}{ins:Nat}{x:FT}{a:Option Addr}{cap:Nat}{w:World}(h:SS C st ins x a cap w):w.cell? ⟨C.S,51,none⟩=some (.int .i64 (x.c:Int)):=h.box.1.cell 51 rfl
theorem SS.Ec{C:CX}{st:List Int}{ins:Nat}{x:FT}{a:Option Addr}{cap:Nat}{w:World}(h:SS C st ins x a cap w):w.cell? ⟨C.S,52,none⟩=some (.int .i64 (x.f:Int)):=h.box.1.cell 52 rfl
theorem SS.c53{C:CX}{st:List Int}{ins:Nat}{x:FT}{a:Option Addr}{cap:Nat}{w:World}(h:SS C st ins x a cap w):w.cell? ⟨C.S,53,none⟩=some (.int .i64 (x.n:Int)):=h.box.1.cell 53 rfl
theorem SS.c1{C:CX}{st:List Int}{ins:Nat}{x:FT}{a:Option Addr}{cap:Nat}{w:World}(h:SS C st ins x a cap w):w.cell? ⟨C.S,1,none⟩=some (.int .i64 (C.f:Int)):=h.box.1.cell 1 rfl
theorem SS.c0{C:CX}{st:List Int}{ins:Nat}{x:FT}{a:Option Addr}{cap:Nat}{w:World}(h:SS C st ins x a cap w):w.cell? ⟨C.S,0,none⟩=some (.slice C.ua C.u.n C.uc):=h.box.1.cell 0 rfl
theorem SS.c5{C:CX}{st:List Int}{ins:Nat}{x:FT}{a:Option Addr}{cap:Nat}{w:World}(h:SS C st ins x a cap w):w.cell? ⟨C.S,5,none⟩=some (.bool C.d.rest):=h.box.1.cell 5 rfl
theorem SS.c7{C:CX}{st:List Int}{ins:Nat}{x:FT}{a:Option Addr}{cap:Nat}{w:World}(h:SS C st ins x a cap w):w.cell? ⟨C.S,7,none⟩=some (.slice C.fa.ua C.d.un C.fa.uc):=h.box.1.cell 7 rfl
theorem SS.c8{C:CX}{st:List Int}{ins:Nat}{x:FT}{a:Option Addr}{cap:Nat}{w:World}(h:SS C st ins x a cap w):w.cell? ⟨C.S,8,none⟩=some (.slice C.fa.na C.d.nn C.fa.nc):=h.box.1.cell 8 rfl
theorem SS.fz{C:CX}{st:List Int}{ins:Nat}{x:FT}{a:Option Addr}{cap:Nat}{w:World}(h:SS C st ins x a cap w):∀o,w.frozen? ⟨C.S,o,none⟩=false:=h.box.2
theorem SS.lt{C:CX}{st:List Int}{ins:Nat}{x:FT}{a:Option Addr}{cap:Nat}{w:World}(h:SS C st ins x a cap w):C.S<w.heap.size:=h.box.1.1
theorem SS.t{C:CX}{st:List Int}{ins:Nat}{x:FT}{a:Option Addr}{cap:Nat}{w:World}(h:SS C st ins x a cap w){v:Nat}(hv:v<C.d.vn):w.cell? ⟨C.T,v,none⟩=some (.int .i64 (cnt st v)):=World.rowIs.cell h.tm (i:=v) hv
theorem CX.ok.node{C:CX}(h:C.ok){n:Nat}(hn:n<C.d.nn):RS C.d.nd n:=h.u5.toU3.facts h.f hn
theorem CX.ok.nn{C:CX}(h:C.ok):C.d.nn<=3000/\0<C.d.nn:=h.u5.toU3.nn h.f
theorem CX.ok.tree{C:CX}(h:C.ok):bU C.d.nd C.d.nn:=h.u5.tree C.f h.f
theorem EZ(C:CX)(st:List Int)(ins:Nat)(x:FT)(a:Option Addr)(cap:Nat)(v:Int)(w:World)(hS:SS C st ins x a cap w):Calls Tryz.prog 167 #[.pointer (some ⟨C.S,0,none⟩),.int .i64 v] w fun e w'=>e=.returned (.bool (dB (v∈st)))/\w'=w:=by
 have HS:Hid (SS C st ins x a cap w):=hS;have c49:=hS.c49;clear hS;by_cases hi:fO v C.d.vn
 ·have hw:je v (C.d.vn:Int)=true:=by unfold je;have:=hi.1;have:=hi.2;simp;omega
  obtain⟨y,rfl⟩:∃y:Nat,v=y:=⟨v.toNat,by have:=hi.1;omega⟩;have hy:y<C.d.vn:=by have:=hi.2;omega
  have t0:=HS.t hy;have hv:dB ((y:Int)∈st)=decide (0<cnt st y):=by
   by_cases c:0<cnt st y
   ·rw[decide_eq_true c,jI (tq.1 c)]
   ·rw[decide_eq_false c,iP (fun k=>c (tq.2 k))]
  rw[hv];clear hv hi;have hr:=NY st y;go_in;go_wp2_with (go_at_call 143;refine(q11 _ _ _).mono ?_;rw[hw];rintro e w1 ⟨rfl,rfl⟩);go_ret;exact⟨rfl,rfl⟩
 ·have hw:je v (C.d.vn:Int)=false:=by
   unfold je fO at *;simp;omega
  have hv:dB (v∈st)=false:=iP fun k=>hi (HS.rg v k);rw[hv];go_in;go_wp2_with (go_at_call 143;refine(q11 _ _ _).mono ?_;rw[hw];rintro e w1 ⟨rfl,rfl⟩);go_ret;exact⟨rfl,rfl⟩
def GL(C:CX)(st:List Int)(ins:Nat)(x:FT)(a:Option Addr)(cap:Nat)(w w':World):Prop:=SS C st ins x a cap w'/\Mv C.S C.T a w a w'
theorem zD(C:CX)(st:List Int)(ins:Nat)(x:FT)(a:Option Addr)(cap:Nat)(c n:Nat)(w:World)(hS:SS C st ins x a cap w):Calls Tryz.prog 166 #[.pointer (some ⟨C.S,0,none⟩),.int .i64 (c:Int),.int .i64 (n:Int)] w fun e w'=>e=.returned (.tuple #[])/\GL C st ins (qg x ⟨c,C.f,n⟩) a cap w w':=by
 have HS:Hid (SS C st ins x a cap w):=hS;have c51:=hS.c51;have Ec:=hS.Ec;have c53:=hS.c53;have c1:=hS.c1;have z:=hS.fz;clear hS;go_in
 go_region_with (go_at_call 81;refine(PS x ⟨c,C.f,n⟩ _).mono ?_;rintro e w1 ⟨rfl,hb1⟩;have fP:Hid (SS C st ins x a cap w1):=(by first|exact HS.call hb1|exact HS.drew.call hb1);have uK:Hid (Mv C.S C.T a w a w1):=(by first|exact(Mv.refl _ _ _ _).call hb1|exact(Mv.refl _ _ _ _).drew.call hb1);clear hb1 c51 Ec c53 c1 z;have c51:=fP.c51;have Ec:=fP.Ec;have c53:=fP.c53;have z:=fP.fz)
 all_goals go_end0
 all_goals exact⟨rfl,fP.first _,((uK.set (p:=⟨C.S,51,none⟩) (.inl rfl) _).set (p:=⟨C.S,52,none⟩) (.inl rfl) _).set (p:=⟨C.S,53,none⟩) (.inl rfl) _⟩
end
end Go.Proofs.YtihnikeikhjndaaGreatDoor
