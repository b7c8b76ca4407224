import Derived.Test.YtihnikeikhjndaaGreatDoorPlain
import Derived.Deep.OwnRows
import Derived.Deep.RegionHeld
set_option maxRecDepth 100000
set_option maxHeartbeats 16000000
namespace Go.Proofs.YtihnikeikhjndaaGreatDoor
section
open Go.RowKit
attribute [local go_sem] aN
structure ND where
 k:Int
 l:Int
 o:Int
 n:Int
 f:Nat
 s:ByteArray
 rn:Nat
 r:Nat->Int
 kn:Nat
 c:Nat->Int
structure Eh where
 loc:Bool
 ix:Int
structure FD where
 name:ByteArray
 line:Int
 params:Int
 rest:Bool
 vn:Nat
 v:Nat->ByteArray
 un:Nat
 u:Nat->Eh
 nn:Nat
 nd:Nat->ND
structure UD where
 n:Nat
 fn:Nat->FD
instance :Inhabited ND:=⟨⟨0,0,0,0,0,⟨#[]⟩,0,fun _=>0,0,fun _=>0⟩⟩
instance :Inhabited Eh:=⟨⟨false,0⟩⟩
instance :Inhabited FD:=⟨⟨⟨#[]⟩,0,0,false,0,fun _=>⟨#[]⟩,0,fun _=>default,0,fun _=>default⟩⟩
def dU(v:Int):Prop:=-9223372036854775808<=v/\v<=9223372036854775807
structure ND.sm(d:ND):Prop where
 s:d.s.size<=1048576
 rn:d.rn<=1048576
 kn:d.kn<=1048576
structure FD.sm(d:FD):Prop where
 name:d.name.size<=1048576
 vn:d.vn<=1048576
 v:∀i,i<d.vn->(d.v i).size<=1048576
 un:d.un<=1048576
 nn:d.nn<=1048576
 nd:∀i,i<d.nn->(d.nd i).sm
structure UD.sm(d:UD):Prop where
 n:d.n<=1048576
 fn:∀i,i<d.n->(d.fn i).sm
structure NA where
 ra:Option Addr
 rc:Nat
 ka:Option Addr
 kc:Nat
structure FA where
 va:Option Addr
 vc:Nat
 ua:Option Addr
 uc:Nat
 na:Option Addr
 nc:Nat
 nas:Nat->NA
instance :Inhabited NA:=⟨⟨none,0,none,0⟩⟩
instance :Inhabited FA:=⟨⟨none,0,none,0,none,0,fun _=>default⟩⟩
abbrev dJ(d:ND)(x:NA):Array Value:=#[.int .i64 d.k,.int .i64 d.l,.int .i64 d.o,.int .i64 d.n,.float .f64 d.f,.string d.s,.slice x.ra d.rn x.rc,.slice x.ka d.kn x.kc]
abbrev KP(d:Eh):Array Value:=#[.bool d.loc,.int .i64 d.ix]
abbrev jO(d:FD)(x:FA):Array Value:=#[.string d.name,.int .i64 d.line,.int .i64 d.params,.bool d.rest,.slice x.va d.vn x.vc,.slice x.ua d.un x.uc,.slice x.na d.nn x.nc]
abbrev eG(d:ND)(x:NA):Value:=.agg #[.int .i64 d.k,.int .i64 d.l,.int .i64 d.o,.int .i64 d.n,.float .f64 d.f,.string d.s,.slice x.ra d.rn x.rc,.slice x.ka d.kn x.kc]
abbrev Fb(d:FD)(x:FA):Value:=.agg #[.string d.name,.int .i64 d.line,.int .i64 d.params,.bool d.rest,.slice x.va d.vn x.vc,.slice x.ua d.un x.uc,.slice x.na d.nn x.nc]
abbrev pq(d:UD)(a:Option Addr)(c:Nat):Value:=.agg #[.slice a d.n c]
def aP(K L:Nat)(w:World)(a:Option Addr)(n:Nat)(q:Nat->Array Value):Prop:=
 0<n->∃b off,a=some ⟨b,off,none⟩/\L<=b/\b<w.heap.size/\∀i,i<n->∀j,j<K->w.cell? ⟨b,off+i*K+j,none⟩=(q i)[j]?
theorem aP.less{K L L':Nat}{w:World}{a:Option Addr}{n:Nat}{q:Nat->Array Value}(h:aP K L w a n q)(hl:L'<=L):aP K L' w a n q:=fun hn=>by
 obtain⟨b,off,e,h0,h1,h2⟩:=h hn;exact⟨b,off,e,Nat.le_trans hl h0,h1,h2⟩
theorem aP.below{K L:Nat}{w w':World}{a:Option Addr}{n:Nat}{q:Nat->Array Value}(h:aP K L w a n q)(hb:ah w w'):aP K L w' a n q:=fun hn=>by
 obtain⟨b,off,e,h0,h1,h2⟩:=h hn;exact⟨b,off,e,h0,Nat.lt_of_lt_of_le h1 hb.size,fun i hi j hj=>(hb.cell (p:=⟨b,off+i*K+j,none⟩) h1).trans (h2 i hi j hj)⟩
theorem aP.alloc{K L:Nat}{w:World}{a:Option Addr}{n:Nat}{q:Nat->Array Value}(h:aP K L w a n q)(o:Obj):aP K L (w.alloc o) a n q:=h.below (q01 w o)
def jQ(L:Nat)(w:World)(a:Option Addr)(n:Nat)(r:Nat->Int):Prop:=aP 1 L w a n fun i=>#[.int .i64 (r i)]
def ay(L:Nat)(w:World)(d:ND)(x:NA):Prop:=jQ L w x.ra d.rn d.r/\jQ L w x.ka d.kn d.c
def bV(L:Nat)(w:World)(n:Nat)(nd:Nat->ND)(a:Option Addr)(nas:Nat->NA):Prop:=aP 8 L w a n (fun i=>dJ (nd i) (nas i))/\∀i,i<n->ay L w (nd i) (nas i)
def ig(L:Nat)(w:World)(d:FD)(x:FA):Prop:=aP 1 L w x.va d.vn (fun i=>#[.string (d.v i)])/\aP 2 L w x.ua d.un (fun i=>KP (d.u i))/\bV L w d.nn d.nd x.na x.nas
def aZ(L:Nat)(w:World)(n:Nat)(fn:Nat->FD)(a:Option Addr)(fas:Nat->FA):Prop:=aP 7 L w a n (fun i=>jO (fn i) (fas i))/\∀i,i<n->ig L w (fn i) (fas i)
theorem ay.less{L L':Nat}{w:World}{d:ND}{x:NA}(h:ay L w d x)(hl:L'<=L):ay L' w d x:=⟨aP.less h.1 hl,aP.less h.2 hl⟩
theorem ay.below{L:Nat}{w w':World}{d:ND}{x:NA}(h:ay L w d x)(hb:ah w w'):ay L w' d x:=⟨aP.below h.1 hb,aP.below h.2 hb⟩
theorem bV.less{L L':Nat}{w:World}{n:Nat}{nd:Nat->ND}{a:Option Addr}{nas:Nat->NA}(h:bV L w n nd a nas)(hl:L'<=L):bV L' w n nd a nas:=⟨h.1.less hl,fun i hi=>(h.2 i hi).less hl⟩
theorem bV.below{L:Nat}{w w':World}{n:Nat}{nd:Nat->ND}{a:Option Addr}{nas:Nat->NA}(h:bV L w n nd a nas)(hb:ah w w'):bV L w' n nd a nas:=⟨h.1.below hb,fun i hi=>(h.2 i hi).below hb⟩
theorem ig.below{L:Nat}{w w':World}{d:FD}{x:FA}(h:ig L w d x)(hb:ah w w'):ig L w' d x:=⟨h.1.below hb,h.2.1.below hb,h.2.2.below hb⟩
theorem aZ.below{L:Nat}{w w':World}{n:Nat}{fn:Nat->FD}{a:Option Addr}{fas:Nat->FA}(h:aZ L w n fn a fas)(hb:ah w w'):aZ L w' n fn a fas:=⟨h.1.below hb,fun i hi=>(h.2 i hi).below hb⟩
theorem ig.alloc{L:Nat}{w:World}{d:FD}{x:FA}(h:ig L w d x)(o:Obj):ig L (w.alloc o) d x:=h.below (q01 w o)
theorem bV.alloc{L:Nat}{w:World}{n:Nat}{nd:Nat->ND}{a:Option Addr}{nas:Nat->NA}(h:bV L w n nd a nas)(o:Obj):bV L (w.alloc o) n nd a nas:=h.below (q01 w o)
theorem dK{L:Nat}{w:World}{n:Nat}{nd:Nat->ND}{a:Option Addr}{nas:Nat->NA}(h:aP 8 L w a n (fun i=>dJ (nd i) (nas i))){k:Nat}(hk:k<n):∃b off,a=some ⟨b,off,none⟩/\L<=b/\b<w.heap.size/\w.cell? ⟨b,off+k*8,none⟩=some (.int .i64 (nd k).k)/\w.cell? ⟨b,off+k*8+1,none⟩=some (.int .i64 (nd k).l)/\w.cell? ⟨b,off+k*8+2,none⟩=some (.int .i64 (nd k).o)/\w.cell? ⟨b,off+k*8+3,none⟩=some (.int .i64 (nd k).n)/\w.cell? ⟨b,off+k*8+4,none⟩=some (.float .f64 (nd k).f)/\w.cell? ⟨b,off+k*8+5,none⟩=some (.string (nd k).s)/\w.cell? ⟨b,off+k*8+6,none⟩=some (.slice (nas k).ra (nd k).rn (nas k).rc)/\w.cell? ⟨b,off+k*8+7,none⟩=some (.slice (nas k).ka (nd k).kn (nas k).kc):=by
 obtain⟨b,off,e,h0,h1,h2⟩:=h (by omega);have hc:=h2 k hk;exact⟨b,off,e,h0,h1,hc 0 (by omega),hc 1 (by omega),hc 2 (by omega),hc 3 (by omega),hc 4 (by omega),hc 5 (by omega),hc 6 (by omega),hc 7 (by omega)⟩
theorem dQ{L:Nat}{w:World}{n:Nat}{fn:Nat->FD}{a:Option Addr}{fas:Nat->FA}(h:aP 7 L w a n (fun i=>jO (fn i) (fas i))){k:Nat}(hk:k<n):∃b off,a=some ⟨b,off,none⟩/\L<=b/\b<w.heap.size/\w.cell? ⟨b,off+k*7,none⟩=some (.string (fn k).name)/\w.cell? ⟨b,off+k*7+1,none⟩=some (.int .i64 (fn k).line)/\w.cell? ⟨b,off+k*7+2,none⟩=some (.int .i64 (fn k).params)/\w.cell? ⟨b,off+k*7+3,none⟩=some (.bool (fn k).rest)/\w.cell? ⟨b,off+k*7+4,none⟩=some (.slice (fas k).va (fn k).vn (fas k).vc)/\w.cell? ⟨b,off+k*7+5,none⟩=some (.slice (fas k).ua (fn k).un (fas k).uc)/\w.cell? ⟨b,off+k*7+6,none⟩=some (.slice (fas k).na (fn k).nn (fas k).nc):=by
 obtain⟨b,off,e,h0,h1,h2⟩:=h (by omega);have hc:=h2 k hk;exact⟨b,off,e,h0,h1,hc 0 (by omega),hc 1 (by omega),hc 2 (by omega),hc 3 (by omega),hc 4 (by omega),hc 5 (by omega),hc 6 (by omega)⟩
theorem cells2{L:Nat}{w:World}{n:Nat}{u:Nat->Eh}{a:Option Addr}(h:aP 2 L w a n (fun i=>KP (u i))){k:Nat}(hk:k<n):∃b off,a=some ⟨b,off,none⟩/\L<=b/\b<w.heap.size/\w.cell? ⟨b,off+k*2,none⟩=some (.bool (u k).loc)/\w.cell? ⟨b,off+k*2+1,none⟩=some (.int .i64 (u k).ix):=by
 obtain⟨b,off,e,h0,h1,h2⟩:=h (by omega);have hc:=h2 k hk;exact⟨b,off,e,h0,h1,hc 0 (by omega),hc 1 (by omega)⟩
theorem aX{L:Nat}{w:World}{n:Nat}{q:Nat->Value}{a:Option Addr}(h:aP 1 L w a n (fun i=>#[q i])){k:Nat}(hk:k<n):∃b off,a=some ⟨b,off,none⟩/\L<=b/\b<w.heap.size/\w.cell? ⟨b,off+k,none⟩=some (q k):=by
 obtain⟨b,off,e,h0,h1,h2⟩:=h (by omega);have hc:=h2 k hk 0 (by omega);rw[Nat.mul_one,Nat.add_zero] at hc;exact⟨b,off,e,h0,h1,hc⟩
theorem Has.cell{w:World}{B:Nat}{A:Array Value}(h:Has w B A)(j:Nat){v:Value}(e:A[j]?=some v):w.cell? ⟨B,j,none⟩=some v:=(h.at j).trans e
structure eP where
 k:Int
 t:Int
 f:Int
 l:Int
 s:ByteArray
instance :Inhabited eP:=⟨⟨0,0,0,0,⟨#[]⟩⟩⟩
abbrev AQ(d:eP):Array Value:=#[.int .i64 d.k,.int .i64 d.t,.int .i64 d.f,.int .i64 d.l,.string d.s]
def fD(L:Nat)(w:World)(a:Option Addr)(n:Nat)(q:Nat->eP):Prop:=aP 5 L w a n fun i=>AQ (q i)
theorem yn0{L:Nat}{w:World}{n:Nat}{q:Nat->eP}{a:Option Addr}(h:fD L w a n q){k:Nat}(hk:k<n):∃b off,a=some ⟨b,off,none⟩/\L<=b/\b<w.heap.size/\w.cell? ⟨b,off+k*5,none⟩=some (.int .i64 (q k).k)/\w.cell? ⟨b,off+k*5+1,none⟩=some (.int .i64 (q k).t)/\w.cell? ⟨b,off+k*5+2,none⟩=some (.int .i64 (q k).f)/\w.cell? ⟨b,off+k*5+3,none⟩=some (.int .i64 (q k).l)/\w.cell? ⟨b,off+k*5+4,none⟩=some (.string (q k).s):=by
 obtain⟨b,off,e,h0,h1,h2⟩:=h (by omega);have hc:=h2 k hk;exact⟨b,off,e,h0,h1,hc 0 (by omega),hc 1 (by omega),hc 2 (by omega),hc 3 (by omega),hc 4 (by omega)⟩
end
end Go.Proofs.YtihnikeikhjndaaGreatDoor
