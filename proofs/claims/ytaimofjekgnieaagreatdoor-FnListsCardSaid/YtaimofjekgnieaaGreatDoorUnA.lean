import Derived.Test.YtaimofjekgnieaaGreatDoorPlain
import Derived.Deep.OwnRows
import Derived.Deep.RegionHeld
set_option maxRecDepth 100000
set_option maxHeartbeats 16000000
namespace Go.Proofs.YtaimofjekgnieaaGreatDoor
open Go.RowKit
attribute [local go_sem] q00
structure ND where
 k:Int
 l:Int
 o:Int
 n:Int
 f:Nat
 s:ByteArray
 rn:Nat
 r:Nat->Int
 kn:Nat
 c:Nat->Int
structure UPD where
 loc:Bool
 ix:Int
structure FD where
 name:ByteArray
 line:Int
 params:Int
 rest:Bool
 vn:Nat
 v:Nat->ByteArray
 un:Nat
 u:Nat->UPD
 nn:Nat
 nd:Nat->ND
structure UD where
 n:Nat
 fn:Nat->FD
instance:Inhabited ND:=⟨⟨0,0,0,0,0,⟨#[]⟩,0,fun _=>0,0,fun _=>0⟩⟩
instance:Inhabited UPD:=⟨⟨false,0⟩⟩
instance:Inhabited FD:=⟨⟨⟨#[]⟩,0,0,false,0,fun _=>⟨#[]⟩,0,fun _=>default,0,fun _=>default⟩⟩
def I64r (v:Int):Prop:=-9223372036854775808<=v/\v<=9223372036854775807
structure ND.sm (d:ND):Prop where
 s:d.s.size<=1048576
 rn:d.rn<=1048576
 kn:d.kn<=1048576
structure FD.sm (d:FD):Prop where
 name:d.name.size<=1048576
 vn:d.vn<=1048576
 v:∀ i,i<d.vn->(d.v i).size<=1048576
 un:d.un<=1048576
 nn:d.nn<=1048576
 nd:∀ i,i<d.nn->(d.nd i).sm
structure UD.sm (d:UD):Prop where
 n:d.n<=1048576
 fn:∀ i,i<d.n->(d.fn i).sm
structure NA where
 ra:Option Addr
 rc:Nat
 ka:Option Addr
 kc:Nat
structure FA where
 va:Option Addr
 vc:Nat
 ua:Option Addr
 uc:Nat
 na:Option Addr
 nc:Nat
 nas:Nat->NA
instance:Inhabited NA:=⟨⟨none,0,none,0⟩⟩
instance:Inhabited FA:=⟨⟨none,0,none,0,none,0,fun _=>default⟩⟩
abbrev q24 (d:ND) (x:NA):Array Value:=#[.int .i64 d.k,.int .i64 d.l,.int .i64 d.o,.int .i64 d.n,.float .f64 d.f,.string d.s,.slice x.ra d.rn x.rc,.slice x.ka d.kn x.kc]
abbrev upC (d:UPD):Array Value:=#[.bool d.loc,.int .i64 d.ix]
abbrev fnC (d:FD) (x:FA):Array Value:=#[.string d.name,.int .i64 d.line,.int .i64 d.params,.bool d.rest,.slice x.va d.vn x.vc,.slice x.ua d.un x.uc,.slice x.na d.nn x.nc]
abbrev q40 (d:ND) (x:NA):Value:=.agg #[.int .i64 d.k,.int .i64 d.l,.int .i64 d.o,.int .i64 d.n,.float .f64 d.f,.string d.s,.slice x.ra d.rn x.rc,.slice x.ka d.kn x.kc]
abbrev fnV (d:FD) (x:FA):Value:=.agg #[.string d.name,.int .i64 d.line,.int .i64 d.params,.bool d.rest,.slice x.va d.vn x.vc,.slice x.ua d.un x.uc,.slice x.na d.nn x.nc]
abbrev unV (d:UD) (a:Option Addr) (c:Nat):Value:=.agg #[.slice a d.n c]
def RowN (K L:Nat) (w:World) (a:Option Addr) (n:Nat) (q:Nat->Array Value):Prop:=
 0<n->∃ b off,a=some ⟨b,off,none⟩/\L<=b/\b<w.heap.size/\∀ i,i<n->∀ j,j<K->w.cell? ⟨b,off+i*K+j,none⟩=(q i)[j]?
theorem RowN.less {K L L':Nat} {w:World} {a:Option Addr} {n:Nat} {q:Nat->Array Value} (h:RowN K L w a n q) (hl:L'<=L):RowN K L' w a n q:=fun hn=>by
 obtain ⟨b,off,e,h0,h1,h2⟩:=h hn
 exact ⟨b,off,e,Nat.le_trans hl h0,h1,h2⟩
theorem RowN.below {K L:Nat} {w w':World} {a:Option Addr} {n:Nat} {q:Nat->Array Value} (h:RowN K L w a n q) (hb:Below w.heap.size w w'):RowN K L w' a n q:=fun hn=>by
 obtain ⟨b,off,e,h0,h1,h2⟩:=h hn
 exact ⟨b,off,e,h0,Nat.lt_of_lt_of_le h1 hb.size,fun i hi j hj=>(hb.cell (p:=⟨b,off+i*K+j,none⟩) h1).trans (h2 i hi j hj)⟩
theorem RowN.alloc {K L:Nat} {w:World} {a:Option Addr} {n:Nat} {q:Nat->Array Value} (h:RowN K L w a n q) (o:Obj):RowN K L (w.alloc o) a n q:=h.below (q01 w o)
def q51 (L:Nat) (w:World) (a:Option Addr) (n:Nat) (r:Nat->Int):Prop:=RowN 1 L w a n fun i=>#[.int .i64 (r i)]
def NodeAt (L:Nat) (w:World) (d:ND) (x:NA):Prop:=q51 L w x.ra d.rn d.r/\q51 L w x.ka d.kn d.c
def NodesAt (L:Nat) (w:World) (n:Nat) (nd:Nat->ND) (a:Option Addr) (nas:Nat->NA):Prop:=RowN 8 L w a n (fun i=>q24 (nd i) (nas i))/\∀ i,i<n->NodeAt L w (nd i) (nas i)
def FnAt (L:Nat) (w:World) (d:FD) (x:FA):Prop:=RowN 1 L w x.va d.vn (fun i=>#[.string (d.v i)])/\RowN 2 L w x.ua d.un (fun i=>upC (d.u i))/\NodesAt L w d.nn d.nd x.na x.nas
def FnsAt (L:Nat) (w:World) (n:Nat) (fn:Nat->FD) (a:Option Addr) (fas:Nat->FA):Prop:=RowN 7 L w a n (fun i=>fnC (fn i) (fas i))/\∀ i,i<n->FnAt L w (fn i) (fas i)
theorem NodeAt.less {L L':Nat} {w:World} {d:ND} {x:NA} (h:NodeAt L w d x) (hl:L'<=L):NodeAt L' w d x:=⟨RowN.less h.1 hl,RowN.less h.2 hl⟩
theorem NodeAt.below {L:Nat} {w w':World} {d:ND} {x:NA} (h:NodeAt L w d x) (hb:Below w.heap.size w w'):NodeAt L w' d x:=⟨RowN.below h.1 hb,RowN.below h.2 hb⟩
theorem NodesAt.less {L L':Nat} {w:World} {n:Nat} {nd:Nat->ND} {a:Option Addr} {nas:Nat->NA} (h:NodesAt L w n nd a nas) (hl:L'<=L):NodesAt L' w n nd a nas:=⟨h.1.less hl,fun i hi=>(h.2 i hi).less hl⟩
theorem NodesAt.below {L:Nat} {w w':World} {n:Nat} {nd:Nat->ND} {a:Option Addr} {nas:Nat->NA} (h:NodesAt L w n nd a nas) (hb:Below w.heap.size w w'):NodesAt L w' n nd a nas:=⟨h.1.below hb,fun i hi=>(h.2 i hi).below hb⟩
theorem FnAt.less {L L':Nat} {w:World} {d:FD} {x:FA} (h:FnAt L w d x) (hl:L'<=L):FnAt L' w d x:=⟨h.1.less hl,h.2.1.less hl,h.2.2.less hl⟩
theorem FnAt.below {L:Nat} {w w':World} {d:FD} {x:FA} (h:FnAt L w d x) (hb:Below w.heap.size w w'):FnAt L w' d x:=⟨h.1.below hb,h.2.1.below hb,h.2.2.below hb⟩
theorem FnsAt.below {L:Nat} {w w':World} {n:Nat} {fn:Nat->FD} {a:Option Addr} {fas:Nat->FA} (h:FnsAt L w n fn a fas) (hb:Below w.heap.size w w'):FnsAt L w' n fn a fas:=⟨h.1.below hb,fun i hi=>(h.2 i hi).below hb⟩
theorem FnAt.alloc {L:Nat} {w:World} {d:FD} {x:FA} (h:FnAt L w d x) (o:Obj):FnAt L (w.alloc o) d x:=h.below (q01 w o)
theorem NodesAt.alloc {L:Nat} {w:World} {n:Nat} {nd:Nat->ND} {a:Option Addr} {nas:Nat->NA} (h:NodesAt L w n nd a nas) (o:Obj):NodesAt L (w.alloc o) n nd a nas:=h.below (q01 w o)
theorem cells8 {L:Nat} {w:World} {n:Nat} {nd:Nat->ND} {a:Option Addr} {nas:Nat->NA} (h:RowN 8 L w a n (fun i=>q24 (nd i) (nas i))) {k:Nat} (hk:k<n) :
  ∃ b off,a=some ⟨b,off,none⟩/\L<=b/\b<w.heap.size/\w.cell? ⟨b,off+k*8,none⟩=some (.int .i64 (nd k).k)/\w.cell? ⟨b,off+k*8+1,none⟩=some (.int .i64 (nd k).l)/\w.cell? ⟨b,off+k*8+2,none⟩=some (.int .i64 (nd k).o)/\w.cell? ⟨b,off+k*8+3,none⟩=some (.int .i64 (nd k).n)/\w.cell? ⟨b,off+k*8+4,none⟩=some (.float .f64 (nd k).f)/\w.cell? ⟨b,off+k*8+5,none⟩=some (.string (nd k).s)/\w.cell? ⟨b,off+k*8+6,none⟩=some (.slice (nas k).ra (nd k).rn (nas k).rc)/\w.cell? ⟨b,off+k*8+7,none⟩=some (.slice (nas k).ka (nd k).kn (nas k).kc):=by
 obtain ⟨b,off,e,h0,h1,h2⟩:=h (by omega)
 have hc:=h2 k hk
 exact ⟨b,off,e,h0,h1,hc 0 (by omega),hc 1 (by omega),hc 2 (by omega),hc 3 (by omega),hc 4 (by omega),hc 5 (by omega),hc 6 (by omega),hc 7 (by omega)⟩
theorem cells7 {L:Nat} {w:World} {n:Nat} {fn:Nat->FD} {a:Option Addr} {fas:Nat->FA} (h:RowN 7 L w a n (fun i=>fnC (fn i) (fas i))) {k:Nat} (hk:k<n) :
  ∃ b off,a=some ⟨b,off,none⟩/\L<=b/\b<w.heap.size/\w.cell? ⟨b,off+k*7,none⟩=some (.string (fn k).name)/\w.cell? ⟨b,off+k*7+1,none⟩=some (.int .i64 (fn k).line)/\w.cell? ⟨b,off+k*7+2,none⟩=some (.int .i64 (fn k).params)/\w.cell? ⟨b,off+k*7+3,none⟩=some (.bool (fn k).rest)/\w.cell? ⟨b,off+k*7+4,none⟩=some (.slice (fas k).va (fn k).vn (fas k).vc)/\w.cell? ⟨b,off+k*7+5,none⟩=some (.slice (fas k).ua (fn k).un (fas k).uc)/\w.cell? ⟨b,off+k*7+6,none⟩=some (.slice (fas k).na (fn k).nn (fas k).nc):=by
 obtain ⟨b,off,e,h0,h1,h2⟩:=h (by omega)
 have hc:=h2 k hk
 exact ⟨b,off,e,h0,h1,hc 0 (by omega),hc 1 (by omega),hc 2 (by omega),hc 3 (by omega),hc 4 (by omega),hc 5 (by omega),hc 6 (by omega)⟩
theorem cells2 {L:Nat} {w:World} {n:Nat} {u:Nat->UPD} {a:Option Addr} (h:RowN 2 L w a n (fun i=>upC (u i))) {k:Nat} (hk:k<n) :
  ∃ b off,a=some ⟨b,off,none⟩/\L<=b/\b<w.heap.size/\w.cell? ⟨b,off+k*2,none⟩=some (.bool (u k).loc)/\w.cell? ⟨b,off+k*2+1,none⟩=some (.int .i64 (u k).ix):=by
 obtain ⟨b,off,e,h0,h1,h2⟩:=h (by omega)
 have hc:=h2 k hk
 exact ⟨b,off,e,h0,h1,hc 0 (by omega),hc 1 (by omega)⟩
theorem cells1 {L:Nat} {w:World} {n:Nat} {q:Nat->Value} {a:Option Addr} (h:RowN 1 L w a n (fun i=>#[q i])) {k:Nat} (hk:k<n) :
  ∃ b off,a=some ⟨b,off,none⟩/\L<=b/\b<w.heap.size/\w.cell? ⟨b,off+k,none⟩=some (q k):=by
 obtain ⟨b,off,e,h0,h1,h2⟩:=h (by omega)
 have hc:=h2 k hk 0 (by omega)
 rw[Nat.mul_one,Nat.add_zero] at hc
 exact ⟨b,off,e,h0,h1,hc⟩
end Go.Proofs.YtaimofjekgnieaaGreatDoor
