import Derived.Test.YtihnikeikhjndaaGreatDoorPlain
import Derived.Test.YtihnikeikhjndaaGreatDoorGives
import Derived.Test.YtihnikeikhjndaaGreatDoorThing
import Derived.Test.YtihnikeikhjndaaGreatDoorFl
import Derived.Test.YtihnikeikhjndaaGreatDoorSpecOk
import Derived.Deep.RegionWith
import Derived.Test.YtihnikeikhjndaaGreatDoorMapS
import Derived.BigQuiet
import Derived.Lib.Bytealg
import Derived.Deep.OwnRows
import Derived.Deep.DrawnRows
import Derived.Deep.RegionHeld3
set_option maxRecDepth 100000
set_option maxHeartbeats 16000000
namespace Go.Proofs.YtihnikeikhjndaaGreatDoor
section
open Go.RowKit
attribute [local go_sem] aN
def whB(f:Nat):Bool:=(FloatKind.f64.format.order f wJ==some .gt || FloatKind.f64.format.order f wJ==some .eq) && FloatKind.f64.format.order f two63==some .lt && FloatKind.f64.format.order f (Fl.DZ f)==some .eq
end
section
open Go.RowKit
structure PD where
 key:VD
 val:VD
 turn:Int
abbrev VD.ok(x:VD):Bool:=okB x.k x.n x.f x.s x.r
def kc(x:VD):Int:=if x.ok=false then 1 else if x.k=0 then 5 else if x.k=3 then(if FloatKind.f64.format.order x.f x.f≠some .eq then 5 else 0) else 0
def kv(x:VD):VD:=if x.ok=false then vz else if x.k=0 then vz else if x.k=3 then(if FloatKind.f64.format.order x.f x.f≠some .eq then vz else if whB x.f then⟨2,(floatToIntVal .f64 x.f .i64).getD 0,0,⟨#[]⟩,0⟩ else⟨3,0,x.f,⟨#[]⟩,0⟩) else x
def Ql(x:VD):Bool:=kc x==0 && (kv x).k==x.k
theorem yg7{s t:ByteArray}:(s==t)=decide (s=t):=by
 show(s.data==t.data)=decide (s=t);obtain⟨a⟩:=s;obtain⟨b⟩:=t;by_cases h:a=b
 ·subst h;simp
 ·simp[h]
def mk(x:VD):Mk:=(x.k,x.n,if x.k=3 then x.f else 0,x.s,x.r)
def places(q:Nat->PD):Nat->List (Mk×Nat)
 |0=>[]
 |i+1=>upd (places q i) (mk (q i).key) i
theorem Pj:∀(L:List (Mk×Nat)) (m:Mk) (i:Nat),m ∉ L.map (·.1)->upd L m i=L++[(m,i)]
 |[],_,_,_=>rfl
 |(m',j) :: L,m,i,h=>by
  simp only[List.map_cons,List.mem_cons,not_or] at h;rw[upd,if_neg h.1,Pj L m i h.2];rfl
theorem UA:∀(L:List (Mk×Nat)) (m:Mk) (i:Nat),m∈L.map (·.1)->(upd L m i).map (·.1)=L.map (·.1)
 |[],_,_,h=>by simp at h
 |(m',j) :: L,m,i,h=>by
  by_cases c:m=m'
  ·rw[upd,if_pos c,c];rfl
  ·simp only[List.map_cons,List.mem_cons] at h;rw[upd,if_neg c,List.map_cons,UA L m i (h.resolve_left c)];rfl
theorem Ws(q:Nat->PD):∀(n:Nat) (m:Mk),m∈(places q n).map (·.1)↔∃j,j<n/\m=mk (q j).key
 |0,m=>by simp[places]
 |n+1,m=>by
  have ih:=Ws q n;unfold places;by_cases c:mk (q n).key∈(places q n).map (·.1)
  ·rw[UA _ _ _ c,ih];constructor
   ·rintro⟨j,hj,e⟩;exact⟨j,by omega,e⟩
   ·rintro⟨j,hj,e⟩;by_cases hn:j=n
    ·subst hn;rw[e];exact(ih _).1 c
    ·exact⟨j,by omega,e⟩
  ·rw[Pj _ _ _ c];simp only[List.map_append,List.mem_append,ih,List.map_cons,List.map_nil,List.mem_singleton];constructor
   ·rintro(⟨j,hj,e⟩|e)
    ·exact⟨j,by omega,e⟩
    ·exact⟨n,by omega,e⟩
   ·rintro⟨j,hj,e⟩;by_cases hn:j=n
    ·subst hn;exact .inr e
    ·exact .inl ⟨j,by omega,e⟩
theorem Wq(q:Nat->PD):∀n,(∀i j,j<i->i<n->mk (q j).key≠mk (q i).key)->places q n=(List.range n).map fun i=>(mk (q i).key,i)
 |0,_=>rfl
 |n+1,h=>by
  have ih:=Wq q n fun i j h1 h2=>h i j h1 (by omega);unfold places;rw[Pj _ _ _ (fun c=>by obtain⟨j,h1,h2⟩:=(Ws q n _).1 c;exact h n j h1 (by omega) h2.symm),ih,List.range_succ,List.map_append];rfl
end
section
open Go.RowKit
attribute [local go_sem] aN
abbrev LM(p:PD):Value:=.agg #[.int .i64 p.key.k,.int .i64 p.key.n,.float .f64 p.key.f,.string p.key.s,.int .i64 p.key.r,.int .i64 p.val.k,.int .i64 p.val.n,.float .f64 p.val.f,.string p.val.s,.int .i64 p.val.r,.int .i64 p.turn]
abbrev qR(p:PD):Array Value:=#[.int .i64 p.key.k,.int .i64 p.key.n,.float .f64 p.key.f,.string p.key.s,.int .i64 p.key.r,.int .i64 p.val.k,.int .i64 p.val.n,.float .f64 p.val.f,.string p.val.s,.int .i64 p.val.r,.int .i64 p.turn]
theorem st1{B blk o:Nat}{a w:World}(h:Below B a w)(hp:B<=blk)(v:Value):Below B a (w.setCell ⟨blk,o,none⟩ v):=h.setCell (p:=⟨blk,o,none⟩) hp v
def Tab(w:World)(a:Option Addr)(n:Nat)(q:Nat->PD):Prop:=
 0<n->∃b off,a=some ⟨b,off,none⟩/\b<w.heap.size/\∀i,i<n->∀j,j<11->w.cell? ⟨b,off+i*11+j,none⟩=(qR (q i))[j]?
theorem Tab.below{w w':World}{a:Option Addr}{n:Nat}{q:Nat->PD}(h:Tab w a n q)(hb:ah w w'):Tab w' a n q:=fun hn=>by
 obtain⟨b,off,e,h1,h2⟩:=h hn;exact⟨b,off,e,Nat.lt_of_lt_of_le h1 hb.size,fun i hi j hj=>(hb.cell (p:=⟨b,off+i*11+j,none⟩) h1).trans (h2 i hi j hj)⟩
def fl(q:Nat->PD)(m:Nat):Value:=((qR (q (m / 11)))[m%11]?).getD undef
theorem uS(q:Nat->PD)(k j:Nat)(hj:j<11):fl q (k*11+j)=((qR (q k))[j]?).getD undef:=by
 unfold fl;rw[show(k*11+j) / 11=k by omega,show(k*11+j)%11=j by omega]
theorem ZJ(p:PD)(j:Nat)(hj:j<11):(qR p)[j]?=some (((qR p)[j]?).getD undef):=by
 have:j<(qR p).size:=hj;rw[Array.getElem?_eq_getElem this];rfl
theorem y51:(Tryz.prog.info? 277).map (fun i=>(i.zero,i.size,i.bytes))=some (some (.agg #[.int .i64 0,.int .i64 0,.float .f64 0,.string ⟨#[]⟩,.int .i64 0,.int .i64 0,.int .i64 0,.float .f64 0,.string ⟨#[]⟩,.int .i64 0,.int .i64 0]),11,104):=by kernel_rfl
theorem ze3(f:Nat)(w:World):(callFunc 238 #[.float .f64 f]).run Tryz.prog w=.ok (.value (.int .u64 (f:Int))) w:=by
 rw[run_callFunc_extern Tryz.func238 (by kernel_rfl) (by kernel_rfl) (by kernel_rfl) (show Extern.find Tryz.f238=some Extern.MathFloatBits.float64bits by kernel_rfl)];rfl
theorem PO(x:VD)(w:World):Calls Tryz.prog 188 #[x.v] w fun e w'=>e=.returned (mkV (mk x))/\ah w w':=by
 have hx:=ze3 x.f;by_cases h:x.k=3
 ·have h':(x.k==3)=true:=by simpa using h
  have e:mk x=(x.k,x.n,x.f,x.s,x.r):=by simp[mk,h]
  rw[e];clear h e;go_in;go_wp2_with fail;exact bodyPost_ret (v:=mkV (x.k,x.n,x.f,x.s,x.r)) (by simp[results,Tryz.results188,go_sem]) rfl ⟨rfl,yG _ _ _ _⟩
 ·have h':(x.k==3)=false:=by simpa using h
  have e:mk x=(x.k,x.n,0,x.s,x.r):=by simp[mk,h]
  rw[e];clear h e;go_in;go_wp2_with fail;exact bodyPost_ret (v:=mkV (x.k,x.n,0,x.s,x.r)) (by simp[results,Tryz.results188,go_sem]) rfl ⟨rfl,yG _ _ _ _⟩
end
end Go.Proofs.YtihnikeikhjndaaGreatDoor
