import Derived.Test.YthnkncpegihbhaaGreatDoorPlain
import Derived.Deep.OwnRows
import Derived.Deep.RegionHeld
set_option maxRecDepth 100000
set_option maxHeartbeats 16000000
namespace Go.Proofs.YthnkncpegihbhaaGreatDoor
section
open Go.RowKit
attribute [local go_sem] iD
structure ND where
 k:Int
 l:Int
 o:Int
 n:Int
 f:Nat
 s:ByteArray
 rn:Nat
 r:Nat->Int
 kn:Nat
 c:Nat->Int
structure JH where
 loc:Bool
 ix:Int
structure FD where
 name:ByteArray
 line:Int
 params:Int
 rest:Bool
 vn:Nat
 v:Nat->ByteArray
 un:Nat
 u:Nat->JH
 nn:Nat
 nd:Nat->ND
structure UD where
 n:Nat
 fn:Nat->FD
instance :Inhabited ND:=⟨⟨0,0,0,0,0,⟨#[]⟩,0,fun _=>0,0,fun _=>0⟩⟩
instance :Inhabited JH:=⟨⟨false,0⟩⟩
instance :Inhabited FD:=⟨⟨⟨#[]⟩,0,0,false,0,fun _=>⟨#[]⟩,0,fun _=>default,0,fun _=>default⟩⟩
def Ac(v:Int):Prop:=-9223372036854775808<=v/\v<=9223372036854775807
structure ND.sm(d:ND):Prop where
 s:d.s.size<=1048576
 rn:d.rn<=1048576
 kn:d.kn<=1048576
structure FD.sm(d:FD):Prop where
 name:d.name.size<=1048576
 vn:d.vn<=1048576
 v:∀i,i<d.vn->(d.v i).size<=1048576
 un:d.un<=1048576
 nn:d.nn<=1048576
 nd:∀i,i<d.nn->(d.nd i).sm
structure UD.sm(d:UD):Prop where
 n:d.n<=1048576
 fn:∀i,i<d.n->(d.fn i).sm
structure NA where
 ra:Option Addr
 rc:Nat
 ka:Option Addr
 kc:Nat
structure FA where
 va:Option Addr
 vc:Nat
 ua:Option Addr
 uc:Nat
 na:Option Addr
 nc:Nat
 nas:Nat->NA
instance :Inhabited NA:=⟨⟨none,0,none,0⟩⟩
instance :Inhabited FA:=⟨⟨none,0,none,0,none,0,fun _=>default⟩⟩
abbrev kQ(d:ND)(x:NA):Array Value:=#[.int .i64 d.k,.int .i64 d.l,.int .i64 d.o,.int .i64 d.n,.float .f64 d.f,.string d.s,.slice x.ra d.rn x.rc,.slice x.ka d.kn x.kc]
abbrev RJ(d:JH):Array Value:=#[.bool d.loc,.int .i64 d.ix]
abbrev qG(d:FD)(x:FA):Array Value:=#[.string d.name,.int .i64 d.line,.int .i64 d.params,.bool d.rest,.slice x.va d.vn x.vc,.slice x.ua d.un x.uc,.slice x.na d.nn x.nc]
abbrev jP(d:ND)(x:NA):Value:=.agg #[.int .i64 d.k,.int .i64 d.l,.int .i64 d.o,.int .i64 d.n,.float .f64 d.f,.string d.s,.slice x.ra d.rn x.rc,.slice x.ka d.kn x.kc]
abbrev LJ(d:FD)(x:FA):Value:=.agg #[.string d.name,.int .i64 d.line,.int .i64 d.params,.bool d.rest,.slice x.va d.vn x.vc,.slice x.ua d.un x.uc,.slice x.na d.nn x.nc]
abbrev vN(d:UD)(a:Option Addr)(c:Nat):Value:=.agg #[.slice a d.n c]
def iF(K L:Nat)(w:World)(a:Option Addr)(n:Nat)(q:Nat->Array Value):Prop:=
 0<n->∃b off,a=some ⟨b,off,none⟩/\L<=b/\b<w.heap.size/\∀i,i<n->∀j,j<K->w.cell? ⟨b,off+i*K+j,none⟩=(q i)[j]?
theorem iF.less{K L L':Nat}{w:World}{a:Option Addr}{n:Nat}{q:Nat->Array Value}(h:iF K L w a n q)(hl:L'<=L):iF K L' w a n q:=fun hn=>by
 obtain⟨b,off,e,h0,h1,h2⟩:=h hn;exact⟨b,off,e,aV hl h0,h1,h2⟩
theorem iF.below{K L:Nat}{w w':World}{a:Option Addr}{n:Nat}{q:Nat->Array Value}(h:iF K L w a n q)(hb:gZ w w'):iF K L w' a n q:=fun hn=>by
 obtain⟨b,off,e,h0,h1,h2⟩:=h hn;exact⟨b,off,e,h0,aH h1 hb.size,fun i hi j hj=>(hb.cell (p:=⟨b,off+i*K+j,none⟩) h1).trans (h2 i hi j hj)⟩
theorem iF.alloc{K L:Nat}{w:World}{a:Option Addr}{n:Nat}{q:Nat->Array Value}(h:iF K L w a n q)(o:Obj):iF K L (w.alloc o) a n q:=h.below (q01 w o)
def qO(L:Nat)(w:World)(a:Option Addr)(n:Nat)(r:Nat->Int):Prop:=iF 1 L w a n fun i=>#[.int .i64 (r i)]
def iC(L:Nat)(w:World)(d:ND)(x:NA):Prop:=qO L w x.ra d.rn d.r/\qO L w x.ka d.kn d.c
def jy(L:Nat)(w:World)(n:Nat)(nd:Nat->ND)(a:Option Addr)(nas:Nat->NA):Prop:=iF 8 L w a n (fun i=>kQ (nd i) (nas i))/\∀i,i<n->iC L w (nd i) (nas i)
def oM(L:Nat)(w:World)(d:FD)(x:FA):Prop:=iF 1 L w x.va d.vn (fun i=>#[.string (d.v i)])/\iF 2 L w x.ua d.un (fun i=>RJ (d.u i))/\jy L w d.nn d.nd x.na x.nas
def jh(L:Nat)(w:World)(n:Nat)(fn:Nat->FD)(a:Option Addr)(fas:Nat->FA):Prop:=iF 7 L w a n (fun i=>qG (fn i) (fas i))/\∀i,i<n->oM L w (fn i) (fas i)
theorem iC.less{L L':Nat}{w:World}{d:ND}{x:NA}(h:iC L w d x)(hl:L'<=L):iC L' w d x:=⟨iF.less h.1 hl,iF.less h.2 hl⟩
theorem iC.below{L:Nat}{w w':World}{d:ND}{x:NA}(h:iC L w d x)(hb:gZ w w'):iC L w' d x:=⟨iF.below h.1 hb,iF.below h.2 hb⟩
theorem jy.less{L L':Nat}{w:World}{n:Nat}{nd:Nat->ND}{a:Option Addr}{nas:Nat->NA}(h:jy L w n nd a nas)(hl:L'<=L):jy L' w n nd a nas:=⟨h.1.less hl,fun i hi=>(h.2 i hi).less hl⟩
theorem jy.below{L:Nat}{w w':World}{n:Nat}{nd:Nat->ND}{a:Option Addr}{nas:Nat->NA}(h:jy L w n nd a nas)(hb:gZ w w'):jy L w' n nd a nas:=⟨h.1.below hb,fun i hi=>(h.2 i hi).below hb⟩
theorem oM.below{L:Nat}{w w':World}{d:FD}{x:FA}(h:oM L w d x)(hb:gZ w w'):oM L w' d x:=⟨h.1.below hb,h.2.1.below hb,h.2.2.below hb⟩
theorem jh.below{L:Nat}{w w':World}{n:Nat}{fn:Nat->FD}{a:Option Addr}{fas:Nat->FA}(h:jh L w n fn a fas)(hb:gZ w w'):jh L w' n fn a fas:=⟨h.1.below hb,fun i hi=>(h.2 i hi).below hb⟩
theorem oM.alloc{L:Nat}{w:World}{d:FD}{x:FA}(h:oM L w d x)(o:Obj):oM L (w.alloc o) d x:=h.below (q01 w o)
theorem jy.alloc{L:Nat}{w:World}{n:Nat}{nd:Nat->ND}{a:Option Addr}{nas:Nat->NA}(h:jy L w n nd a nas)(o:Obj):jy L (w.alloc o) n nd a nas:=h.below (q01 w o)
theorem jU{L:Nat}{w:World}{n:Nat}{nd:Nat->ND}{a:Option Addr}{nas:Nat->NA}(h:iF 8 L w a n (fun i=>kQ (nd i) (nas i))){k:Nat}(hk:k<n):∃b off,a=some ⟨b,off,none⟩/\L<=b/\b<w.heap.size/\w.cell? ⟨b,off+k*8,none⟩=some (.int .i64 (nd k).k)/\w.cell? ⟨b,off+k*8+1,none⟩=some (.int .i64 (nd k).l)/\w.cell? ⟨b,off+k*8+2,none⟩=some (.int .i64 (nd k).o)/\w.cell? ⟨b,off+k*8+3,none⟩=some (.int .i64 (nd k).n)/\w.cell? ⟨b,off+k*8+4,none⟩=some (.float .f64 (nd k).f)/\w.cell? ⟨b,off+k*8+5,none⟩=some (.string (nd k).s)/\w.cell? ⟨b,off+k*8+6,none⟩=some (.slice (nas k).ra (nd k).rn (nas k).rc)/\w.cell? ⟨b,off+k*8+7,none⟩=some (.slice (nas k).ka (nd k).kn (nas k).kc):=by
 obtain⟨b,off,e,h0,h1,h2⟩:=h (by omega);have hc:=h2 k hk;exact⟨b,off,e,h0,h1,hc 0 (by omega),hc 1 (by omega),hc 2 (by omega),hc 3 (by omega),hc 4 (by omega),hc 5 (by omega),hc 6 (by omega),hc 7 (by omega)⟩
theorem jZ{L:Nat}{w:World}{n:Nat}{fn:Nat->FD}{a:Option Addr}{fas:Nat->FA}(h:iF 7 L w a n (fun i=>qG (fn i) (fas i))){k:Nat}(hk:k<n):∃b off,a=some ⟨b,off,none⟩/\L<=b/\b<w.heap.size/\w.cell? ⟨b,off+k*7,none⟩=some (.string (fn k).name)/\w.cell? ⟨b,off+k*7+1,none⟩=some (.int .i64 (fn k).line)/\w.cell? ⟨b,off+k*7+2,none⟩=some (.int .i64 (fn k).params)/\w.cell? ⟨b,off+k*7+3,none⟩=some (.bool (fn k).rest)/\w.cell? ⟨b,off+k*7+4,none⟩=some (.slice (fas k).va (fn k).vn (fas k).vc)/\w.cell? ⟨b,off+k*7+5,none⟩=some (.slice (fas k).ua (fn k).un (fas k).uc)/\w.cell? ⟨b,off+k*7+6,none⟩=some (.slice (fas k).na (fn k).nn (fas k).nc):=by
 obtain⟨b,off,e,h0,h1,h2⟩:=h (by omega);have hc:=h2 k hk;exact⟨b,off,e,h0,h1,hc 0 (by omega),hc 1 (by omega),hc 2 (by omega),hc 3 (by omega),hc 4 (by omega),hc 5 (by omega),hc 6 (by omega)⟩
theorem cells2{L:Nat}{w:World}{n:Nat}{u:Nat->JH}{a:Option Addr}(h:iF 2 L w a n (fun i=>RJ (u i))){k:Nat}(hk:k<n):∃b off,a=some ⟨b,off,none⟩/\L<=b/\b<w.heap.size/\w.cell? ⟨b,off+k*2,none⟩=some (.bool (u k).loc)/\w.cell? ⟨b,off+k*2+1,none⟩=some (.int .i64 (u k).ix):=by
 obtain⟨b,off,e,h0,h1,h2⟩:=h (by omega);have hc:=h2 k hk;exact⟨b,off,e,h0,h1,hc 0 (by omega),hc 1 (by omega)⟩
theorem jd{L:Nat}{w:World}{n:Nat}{q:Nat->Value}{a:Option Addr}(h:iF 1 L w a n (fun i=>#[q i])){k:Nat}(hk:k<n):∃b off,a=some ⟨b,off,none⟩/\L<=b/\b<w.heap.size/\w.cell? ⟨b,off+k,none⟩=some (q k):=by
 obtain⟨b,off,e,h0,h1,h2⟩:=h (by omega);have hc:=h2 k hk 0 (by omega);rw[Nat.mul_one,Nat.add_zero] at hc;exact⟨b,off,e,h0,h1,hc⟩
theorem Has.cell{w:World}{B:Nat}{A:Array Value}(h:Has w B A)(j:Nat){v:Value}(e:A[j]?=some v):w.cell? ⟨B,j,none⟩=some v:=(h.at j).trans e
structure lU where
 k:Int
 t:Int
 f:Int
 l:Int
 s:ByteArray
instance :Inhabited lU:=⟨⟨0,0,0,0,⟨#[]⟩⟩⟩
abbrev FY(d:lU):Array Value:=#[.int .i64 d.k,.int .i64 d.t,.int .i64 d.f,.int .i64 d.l,.string d.s]
def lQ(L:Nat)(w:World)(a:Option Addr)(n:Nat)(q:Nat->lU):Prop:=iF 5 L w a n fun i=>FY (q i)
theorem ja3{L:Nat}{w:World}{n:Nat}{q:Nat->lU}{a:Option Addr}(h:lQ L w a n q){k:Nat}(hk:k<n):∃b off,a=some ⟨b,off,none⟩/\L<=b/\b<w.heap.size/\w.cell? ⟨b,off+k*5,none⟩=some (.int .i64 (q k).k)/\w.cell? ⟨b,off+k*5+1,none⟩=some (.int .i64 (q k).t)/\w.cell? ⟨b,off+k*5+2,none⟩=some (.int .i64 (q k).f)/\w.cell? ⟨b,off+k*5+3,none⟩=some (.int .i64 (q k).l)/\w.cell? ⟨b,off+k*5+4,none⟩=some (.string (q k).s):=by
 obtain⟨b,off,e,h0,h1,h2⟩:=h (by omega);have hc:=h2 k hk;exact⟨b,off,e,h0,h1,hc 0 (by omega),hc 1 (by omega),hc 2 (by omega),hc 3 (by omega),hc 4 (by omega)⟩
end
def I7(p:Nat->Int)(i k:Nat):Nat->Int:=fun x=>if x=k then(if p k = -2 then(i:Int) else -3) else p x
def xP(nd:Nat->ND)(i:Nat)(p:Nat->Int):Nat->Nat->Int
 |0=>p
 |j+1=>I7 (xP nd i p j) i ((nd i).c j).toNat
def xR(nd:Nat->ND):Nat->Nat->Int
 |0=>fun _=>-2
 |i+1=>xP nd i (xR nd i) (nd i).kn
def jM(nd:Nat->ND)(n:Nat):Nat->Int:=fun x=>if x=n-1/\xR nd n (n-1) = -2 then -1 else xR nd n x
def nI(p:Nat->Int)(n:Nat):Nat->Nat->Int
 |0=>fun _=>0
 |j+1=>fun x=>if x=n-2 - j/\0<=p (n-2 - j) then nI p n j (p (n-2 - j)).toNat+1 else nI p n j x
def uh(nd:Nat->ND)(n:Nat):Prop:=∀i,i<n->∀j,j<(nd i).kn->0<=(nd i).c j/\(nd i).c j<i
def JU(n:Nat)(p:Nat->Int):Prop:=∀x,(p x = -2\/p x = -3\/(x<p x/\p x<n))
theorem ZR{nd:Nat->ND}{n i:Nat}(hi:i<n)(hk:uh nd n){p:Nat->Int}(hp:JU n p):∀j,j<=(nd i).kn->JU n (xP nd i p j)
 |0,_=>hp
 |j+1,hj=>fun x=>by
  have ih:=ZR hi hk hp j (by omega);have h:=hk i hi j (by omega);unfold xP I7;by_cases e:x=((nd i).c j).toNat
  ·rw[aO e];split
   ·right;right;omega
   ·right;left;rfl
  ·rw[au e];exact ih x
theorem z36{nd:Nat->ND}{n:Nat}(hk:uh nd n):∀i,i<=n->JU n (xR nd i)
 |0,_=>fun _=>.inl rfl
 |i+1,hi=>ZR (by omega) hk (z36 hk i (by omega)) _ (ah _)
theorem yj9{nd:Nat->ND}{n:Nat}(hk:uh nd n)(x:Nat):jM nd n x = -1\/jM nd n x = -2\/jM nd n x = -3\/(x<jM nd n x/\jM nd n x<n):=by
 unfold jM;split
 ·exact .inl rfl
 ·exact .inr (z36 hk n (ah _) x)
theorem z45{nd:Nat->ND}{n i:Nat}(hi:i<n)(hk:uh nd n){p:Nat->Int}(hp:p (n-1) = -2):∀j,j<=(nd i).kn->xP nd i p j (n-1) = -2
 |0,_=>hp
 |j+1,hj=>by
  have ih:=z45 hi hk hp j (by omega);have h:=hk i hi j (by omega);unfold xP I7;rw[au (by omega)];exact ih
theorem qv8{nd:Nat->ND}{n:Nat}(hk:uh nd n):∀i,i<=n->xR nd i (n-1) = -2
 |0,_=>rfl
 |i+1,hi=>z45 (by omega) hk (qv8 hk i (by omega)) _ (ah _)
theorem y91{nd:Nat->ND}{n:Nat}(hk:uh nd n)(x:Nat):jM nd n x=if x=n-1 then -1 else xR nd n x:=by
 unfold jM;rw[qv8 hk n (ah _)];simp
section
open Go.RowKit
theorem og{B blk o:Nat}{a w:World}(h:Below B a w)(hp:B<=blk)(v:Value):Below B a (w.setCell ⟨blk,o,none⟩ v):=h.setCell (p:=⟨blk,o,none⟩) hp v
end
end Go.Proofs.YthnkncpegihbhaaGreatDoor
