import Derived.Test.YtaimofjekgnieaaGreatDoorPlain
import Derived.Test.YtaimofjekgnieaaGreatDoorGives
import Derived.Test.YtaimofjekgnieaaGreatDoorFloor
import Derived.Deep.RegionWith
import Derived.Laws.FloatArith
import Derived.Laws.FloatBits
import Ieee.Arith
import Derived.Maps.OwnSet
import Derived.WalkKit
import Derived.Test.YtaimofjekgnieaaGreatDoorHas
import Derived.BigQuiet
import Derived.Deep.QuietTactic
import Derived.Laws.StructEq
import Derived.Lib.Bytealg
import Derived.Deep.OwnRows
import Derived.ChangeOld
import Derived.OpenShut
import Derived.ProofKit
import Derived.ShutString
import Derived.Test.YtaimofjekgnieaaGreatDoorRows
import Derived.Deep.DrawnRows
import Derived.Deep.RegionHeld3
set_option maxRecDepth 100000
set_option maxHeartbeats 16000000
namespace Go.Proofs.YtaimofjekgnieaaGreatDoor
open Go.RowKit
attribute [local go_sem] q00
def whB (f:Nat):Bool:=(FloatKind.f64.format.order f ntwo63==some .gt || FloatKind.f64.format.order f ntwo63==some .eq) && FloatKind.f64.format.order f two63==some .lt && FloatKind.f64.format.order f (Fl.floorW f)==some .eq
end Go.Proofs.YtaimofjekgnieaaGreatDoor
namespace Go.Proofs.YtaimofjekgnieaaGreatDoor
open Go.RowKit Go.ChangeMaps Go.MapKept
abbrev Mk:=Int×Int×Nat×ByteArray×Int
abbrev mkV (m:Mk):Value:=.agg #[.int .i64 m.1,.int .i64 m.2.1,.int .u64 (m.2.2.1:Int),.string m.2.2.2.1,.int .i64 m.2.2.2.2]
def upd:List (Mk×Nat)->Mk->Nat->List (Mk×Nat)
 |[],m,i=>[(m,i)]
 |(m',j) :: L,m,i=>if m=m' then (m,i) :: L else (m',j) :: upd L m i
def idx:List (Mk×Nat)->Mk->Option (Nat×Nat)
 |[],_=>none
 |(m',j) :: L,m=>if m=m' then some (0,j) else (idx L m).map fun p=>(p.1+1,p.2)
def MapIs (w:World) (b:Nat) (L:List (Mk×Nat)):Prop:=
 ∃ es c,w.heap[b]?=some (.map es c)/\es.toList.map (fun e=>(e.key,e.val))=L.map (fun p=>(mkV p.1,Value.int .i64 (p.2:Int)))
structure KeyT (P:Program) (K:TypeId):Prop where
 und:∃ fs,P.underlying K=some (.struct fs)
 eq:∀ a b w,(Op.equal K (mkV a) (mkV b)).run P w=.ok (decide (a=b)) w
 chk:∀ e a w,(Instr.checkKey e 10000 K (mkV a)).run P w=.ok () w
theorem zm3 {P:Program} {K:TypeId} (hK:KeyT P K) (m:Mk) (w:World):∀ (es:List MapEntry) (L:List (Mk×Nat)) (i:Nat),es.map (fun e=>(e.key,e.val))=L.map (fun p=>(mkV p.1,Value.int .i64 (p.2:Int)))->
  (Instr.findAsking K (mkV m) es i).run P w=.ok ((idx L m).map fun p=>(p.1+i,Value.int .i64 (p.2:Int))) w
 |[],[],i,_=>by simp[Instr.findAsking,idx]
 |[],_ :: _,_,h=>by simp at h
 |_ :: _,[],_,h=>by simp at h
 |e :: es,(m',j) :: L,i,h=>by
  simp only[List.map_cons,List.cons.injEq,Prod.mk.injEq] at h
  obtain ⟨⟨h1,h2⟩,h3⟩:=h
  have ih:=zm3 hK m w es L (i+1) h3
  by_cases c:m=m'
  ·simp[Instr.findAsking,h1,h2,hK.eq,c,idx,Result.andThen]
  ·have:(idx ((m',j) :: L) m).map (fun p=>(p.1+i,Value.int .i64 (p.2:Int)))=(idx L m).map (fun p=>(p.1+(i+1),Value.int .i64 (p.2:Int))):=by
    rw[idx,if_neg c,Option.map_map]
    congr 1
    funext p
    simp;omega
   rw[this,<-ih]
   simp[Instr.findAsking,h1,hK.eq,c,Result.andThen]
theorem qr6 {P:Program} {K:TypeId} (hK:KeyT P K) (m:Mk) (w:World) (es:List MapEntry) (L:List (Mk×Nat)) (h:es.map (fun e=>(e.key,e.val))=L.map (fun p=>(mkV p.1,Value.int .i64 (p.2:Int)))) :
  (Instr.findKey K (mkV m) es).run P w=.ok ((idx L m).map fun p=>(p.1,Value.int .i64 (p.2:Int))) w:=by
 obtain ⟨fs,hu⟩:=hK.und
 have hf:=zm3 hK m w es L 0 h
 simp only[Nat.add_zero] at hf
 cases es with
 |nil=>
  cases L with
  |nil=>simp[Instr.findKey,run_underlying hu,Instr.findNow,idx,Result.andThen]
  |cons _ _=>simp at h
 |cons e es=>
  have:Instr.findNow (.struct fs) (mkV m) (e :: es) 0=none:=by simp[Instr.findNow,Instr.sameNow]
  simp only[Instr.findKey,Sem.run_bind,run_underlying hu,Result.andThen,this]
  exact hf
theorem zu7 (m:Mk):Instr.sameBits 10000 (mkV m) (mkV m)=true:=by
 show (_ && _)=true
 simp[Instr.sameBits]
 exact (by show (m.2.2.2.1.data==m.2.2.2.1.data)=true;simp)
theorem ya6:∀ (L:List (Mk×Nat)) (m:Mk) (p v:Nat),idx L m=some (p,v)->L[p]?=some (m,v)
 |[],_,_,_,h=>by simp[idx] at h
 |(m',j) :: L,m,p,v,h=>by
  rw[idx] at h
  by_cases c:m=m'
  ·rw[if_pos c] at h;simp at h;obtain ⟨rfl,rfl⟩:=h;simp[c]
  ·rw[if_neg c] at h
   cases hi:idx L m with
   |none=>rw[hi] at h;simp at h
   |some q=>
    rw[hi] at h;simp at h
    obtain ⟨rfl,rfl⟩:=h
    simpa using ya6 L m q.1 q.2 (by rw[hi])
theorem zj6:∀ (L:List (Mk×Nat)) (m:Mk) (i:Nat),idx L m=none->upd L m i=L++[(m,i)]
 |[],_,_,_=>rfl
 |(m',j) :: L,m,i,h=>by
  rw[idx] at h
  by_cases c:m=m'
  ·rw[if_pos c] at h;simp at h
  ·rw[if_neg c] at h
   rw[upd,if_neg c,zj6 L m i (by simpa using h)];rfl
theorem zj5:∀ (L:List (Mk×Nat)) (m:Mk) (i p v:Nat),idx L m=some (p,v)->upd L m i=L.modify p fun _=>(m,i)
 |[],_,_,_,_,h=>by simp[idx] at h
 |(m',j) :: L,m,i,p,v,h=>by
  rw[idx] at h
  by_cases c:m=m'
  ·rw[if_pos c] at h;simp at h;obtain ⟨rfl,rfl⟩:=h;rw[upd,if_pos c];rfl
  ·rw[if_neg c] at h
   cases hi:idx L m with
   |none=>rw[hi] at h;simp at h
   |some q=>
    rw[hi] at h;simp at h
    obtain ⟨rfl,rfl⟩:=h
    rw[upd,if_neg c,zj5 L m i q.1 q.2 (by rw[hi])];rfl
theorem qj9 {α β:Type} (f:α->β) (g:α->α) (g':β->β) (h:∀ x,f (g x)=g' (f x)):∀ (l:List α) (i:Nat),(l.modify i g).map f=(l.map f).modify i g'
 |[],i=>by simp
 |x :: l,0=>by simp[h]
 |x :: l,i+1=>by simp[qj9 f g g' h l i]
theorem zn8 {P:Program} {T K E:TypeId} (ht:P.underlying T=some (.map K E)) (hK:KeyT P K) {w:World} {b:Nat} {L:List (Mk×Nat)} (h:MapIs w b L) (m:Mk) (i:Nat) :
  ∃ w',(Instr.mapUpdate T (.map (some b)) (mkV m) (.int .i64 (i:Int))).run P w=.ok () w'/\MapIs w' b (upd L m i)/\w.mapTurned w' b:=by
 obtain ⟨es,c,hb,he⟩:=h
 have hf:=qr6 hK m w es.toList L he
 cases hi:idx L m with
 |none=>
  rw[hi] at hf
  refine ⟨setBlock w b (.map (es.push {key:=mkV m,val:=.int .i64 (i:Int),born:=c}) (c+1)),?_,?_,⟨es,c,_,_,hb,rfl⟩⟩
  ·simp[Instr.mapUpdate,run_underlying ht,MapKept.run_getObj_map hb,hK.chk,hf,MapKept.run_setObj_map _ hb,Result.andThen,setBlock]
  ·refine ⟨_,_,heap_setBlock_same hb _,?_⟩
   rw[zj6 L m i hi]
   simp[he]
 |some q=>
  obtain ⟨p,v⟩:=q
  rw[hi] at hf
  have hl:=ya6 L m p v hi
  have hk:(es[p]?).map (·.key)=some (mkV m):=by
   have:(es.toList.map (fun e=>(e.key,e.val)))[p]?=some (mkV m,Value.int .i64 (v:Int)):=by rw[he];simp[hl]
   simp only[List.getElem?_map,Array.getElem?_toList,Option.map_eq_some_iff] at this
   obtain ⟨e,h1,h2⟩:=this
   rw[h1]
   simp only[Prod.mk.injEq] at h2
   simp[h2.1]
  refine ⟨setBlock w b (.map (es.modify p fun e=>{e with key:=mkV m,val:=.int .i64 (i:Int)}) c),?_,?_,⟨es,c,_,_,hb,rfl⟩⟩
  ·simp[Instr.mapUpdate,run_underlying ht,MapKept.run_getObj_map hb,hK.chk,hf,hk,Instr.keyThatStays,zu7,MapKept.run_setObj_map _ hb,Result.andThen,setBlock]
  ·refine ⟨_,_,heap_setBlock_same hb _,?_⟩
   rw[zj5 L m i p v hi,Array.toList_modify,qj9 (fun e:MapEntry=>(e.key,e.val)) _ (fun _=>(mkV m,Value.int .i64 (i:Int))) (fun _=>rfl),he,qj9 (fun p:Mk×Nat=>(mkV p.1,Value.int .i64 (p.2:Int))) _ (fun _=>(mkV m,Value.int .i64 (i:Int))) (fun _=>rfl)]
theorem qw8 {P:Program} {T K E:TypeId} (ht:P.underlying T=some (.map K E)) (hK:KeyT P K) {w:World} {b:Nat} {L:List (Mk×Nat)} (h:MapIs w b L) (m:Mk) (hz:(zeroValue E).run P w=.ok (.int .i64 0) w) :
  (Instr.lookup T (.map (some b)) (mkV m) true).run P w=.ok (.tuple #[.int .i64 (((idx L m).map (·.2)).getD 0:Nat),.bool (idx L m).isSome]) w:=by
 obtain ⟨es,c,hb,he⟩:=h
 have hf:=qr6 hK m w es.toList L he
 cases hi:idx L m with
 |none=>
  rw[hi] at hf
  simp[Instr.lookup,run_underlying ht,MapKept.run_getObj_map hb,hK.chk,hf,hz,Result.andThen]
 |some q=>
  rw[hi] at hf
  simp[Instr.lookup,run_underlying ht,MapKept.run_getObj_map hb,hK.chk,hf,Result.andThen]
theorem MapIs.lt {w:World} {b:Nat} {L:List (Mk×Nat)} (h:MapIs w b L):b<w.heap.size:=by
 obtain ⟨es,c,hb,_⟩:=h
 exact (Array.getElem?_eq_some_iff.1 hb).1
theorem MapIs.below {w w':World} {b:Nat} {L:List (Mk×Nat)} (h:MapIs w b L) (hb:Below w.heap.size w w'):MapIs w' b L:=by
 have hl:=h.lt
 obtain ⟨es,c,he,e⟩:=h
 exact ⟨es,c,(hb.block b hl).trans he,e⟩
theorem MapIs.alloc {w:World} {b:Nat} {L:List (Mk×Nat)} (h:MapIs w b L) (o:Obj):MapIs (w.alloc o) b L:=h.below ((Below.refl _ _).alloc (Nat.le_refl _) _)
end Go.Proofs.YtaimofjekgnieaaGreatDoor
namespace Go.Proofs.YtaimofjekgnieaaGreatDoor
open Go.RowKit
structure PD where
 key:VD
 val:VD
 turn:Int
abbrev VD.ok (x:VD):Bool:=okB x.k x.n x.f x.s x.r
def kc (x:VD):Int:=if x.ok=false then 1 else if x.k=0 then 5 else if x.k=3 then (if FloatKind.f64.format.order x.f x.f≠some .eq then 5 else 0) else 0
def kv (x:VD):VD:=if x.ok=false then vz else if x.k=0 then vz else if x.k=3 then (if FloatKind.f64.format.order x.f x.f≠some .eq then vz else if whB x.f then ⟨2,(floatToIntVal .f64 x.f .i64).getD 0,0,⟨#[]⟩,0⟩ else ⟨3,0,x.f,⟨#[]⟩,0⟩) else x
def kOk (x:VD):Bool:=kc x==0 && (kv x).k==x.k
theorem yg9 {s t:ByteArray}:(s==t)=decide (s=t):=by
 show (s.data==t.data)=decide (s=t)
 obtain ⟨a⟩:=s
 obtain ⟨b⟩:=t
 by_cases h:a=b
 ·subst h;simp
 ·simp[h]
def mk (x:VD):Mk:=(x.k,x.n,if x.k=3 then x.f else 0,x.s,x.r)
def places (q:Nat->PD):Nat->List (Mk×Nat)
 |0=>[]
 |i+1=>upd (places q i) (mk (q i).key) i
theorem qo0:∀ (L:List (Mk×Nat)) (m:Mk) (i:Nat),m ∉ L.map (·.1)->upd L m i=L++[(m,i)]
 |[],_,_,_=>rfl
 |(m',j) :: L,m,i,h=>by
  simp only[List.map_cons,List.mem_cons,not_or] at h
  rw[upd,if_neg h.1,qo0 L m i h.2];rfl
theorem zj7:∀ (L:List (Mk×Nat)) (m:Mk) (i:Nat),m∈L.map (·.1)->(upd L m i).map (·.1)=L.map (·.1)
 |[],_,_,h=>by simp at h
 |(m',j) :: L,m,i,h=>by
  by_cases c:m=m'
  ·rw[upd,if_pos c,c];rfl
  ·simp only[List.map_cons,List.mem_cons] at h
   rw[upd,if_neg c,List.map_cons,zj7 L m i (h.resolve_left c)];rfl
theorem qv9 (q:Nat->PD):∀ (n:Nat) (m:Mk),m∈(places q n).map (·.1)↔∃ j,j<n/\m=mk (q j).key
 |0,m=>by simp[places]
 |n+1,m=>by
  have ih:=qv9 q n
  unfold places
  by_cases c:mk (q n).key∈(places q n).map (·.1)
  ·rw[zj7 _ _ _ c,ih]
   constructor
   ·rintro ⟨j,hj,e⟩;exact ⟨j,by omega,e⟩
   ·rintro ⟨j,hj,e⟩
    by_cases hn:j=n
    ·subst hn;rw[e];exact (ih _).1 c
    ·exact ⟨j,by omega,e⟩
  ·rw[qo0 _ _ _ c]
   simp only[List.map_append,List.mem_append,ih,List.map_cons,List.map_nil,List.mem_singleton]
   constructor
   ·rintro (⟨j,hj,e⟩|e)
    ·exact ⟨j,by omega,e⟩
    ·exact ⟨n,by omega,e⟩
   ·rintro ⟨j,hj,e⟩
    by_cases hn:j=n
    ·subst hn;exact .inr e
    ·exact .inl ⟨j,by omega,e⟩
theorem qw0 (q:Nat->PD):∀ n,(∀ i j,j<i->i<n->mk (q j).key≠mk (q i).key)->places q n=(List.range n).map fun i=>(mk (q i).key,i)
 |0,_=>rfl
 |n+1,h=>by
  have ih:=qw0 q n fun i j h1 h2=>h i j h1 (by omega)
  unfold places
  rw[qo0 _ _ _ (fun c=>by obtain ⟨j,h1,h2⟩:=(qv9 q n _).1 c;exact h n j h1 (by omega) h2.symm),ih,List.range_succ,List.map_append];rfl
end Go.Proofs.YtaimofjekgnieaaGreatDoor
namespace Go.Proofs.YtaimofjekgnieaaGreatDoor
open Go.RowKit
attribute [local go_sem] q00
abbrev pOf (p:PD):Value:=.agg #[.int .i64 p.key.k,.int .i64 p.key.n,.float .f64 p.key.f,.string p.key.s,.int .i64 p.key.r,.int .i64 p.val.k,.int .i64 p.val.n,.float .f64 p.val.f,.string p.val.s,.int .i64 p.val.r,.int .i64 p.turn]
abbrev q89 (p:PD):Array Value:=#[.int .i64 p.key.k,.int .i64 p.key.n,.float .f64 p.key.f,.string p.key.s,.int .i64 p.key.r,.int .i64 p.val.k,.int .i64 p.val.n,.float .f64 p.val.f,.string p.val.s,.int .i64 p.val.r,.int .i64 p.turn]
theorem st1 {B blk o:Nat} {a w:World} (h:Below B a w) (hp:B<=blk) (v:Value):Below B a (w.setCell ⟨blk,o,none⟩ v):=h.setCell (p:=⟨blk,o,none⟩) hp v
def Tab (w:World) (a:Option Addr) (n:Nat) (q:Nat->PD):Prop:=
 0<n->∃ b off,a=some ⟨b,off,none⟩/\b<w.heap.size/\∀ i,i<n->∀ j,j<11->w.cell? ⟨b,off+i*11+j,none⟩=(q89 (q i))[j]?
theorem Tab.below {w w':World} {a:Option Addr} {n:Nat} {q:Nat->PD} (h:Tab w a n q) (hb:Below w.heap.size w w'):Tab w' a n q:=fun hn=>by
 obtain ⟨b,off,e,h1,h2⟩:=h hn
 exact ⟨b,off,e,Nat.lt_of_lt_of_le h1 hb.size,fun i hi j hj=>(hb.cell (p:=⟨b,off+i*11+j,none⟩) h1).trans (h2 i hi j hj)⟩
def fl (q:Nat->PD) (m:Nat):Value:=((q89 (q (m / 11)))[m%11]?).getD undef
theorem qm5 (q:Nat->PD) (k j:Nat) (hj:j<11):fl q (k*11+j)=((q89 (q k))[j]?).getD undef:=by
 unfold fl
 rw[show (k*11+j) / 11=k by omega,show (k*11+j)%11=j by omega]
theorem zw0 (p:PD) (j:Nat) (hj:j<11):(q89 p)[j]?=some (((q89 p)[j]?).getD undef):=by
 have:j<(q89 p).size:=hj
 rw[Array.getElem?_eq_getElem this];rfl
theorem y64:(Tryz.prog.info? 274).map (fun i=>(i.zero,i.size,i.bytes))=some (some (.agg #[.int .i64 0,.int .i64 0,.float .f64 0,.string ⟨#[]⟩,.int .i64 0,.int .i64 0,.int .i64 0,.float .f64 0,.string ⟨#[]⟩,.int .i64 0,.int .i64 0]),11,104):=by kernel_rfl
end Go.Proofs.YtaimofjekgnieaaGreatDoor
namespace Go.Proofs.YtaimofjekgnieaaGreatDoor
open Go.ChangeShapes Go.WideShapes Go.ChangeAt Go.RowKit
open Go.ChangeMaps (open_string shut_string)
theorem Tryz.own:ownKnob Tryz.prog.godebug=none:=by kernel_rfl
theorem Tryz.laidOut:laidOutB Tryz.prog=true:=by kernel_rfl
section
variable {H:Type} {enc:TypeId×Value->H} {P:Program} {w:World} {base:Nat} {spare:Nat->Bool} {held:Bool}
end
end Go.Proofs.YtaimofjekgnieaaGreatDoor
namespace Go.Proofs.YtaimofjekgnieaaGreatDoor
open Go.RowKit
attribute [local go_sem] q00
theorem zi0 (f:Nat) (w:World):(callFunc 231 #[.float .f64 f]).run Tryz.prog w=.ok (.value (.int .u64 (f:Int))) w:=by
 rw[run_callFunc_extern Tryz.func231 (by kernel_rfl) (by kernel_rfl) (by kernel_rfl) (show Extern.find Tryz.f231=some Extern.MathFloatBits.float64bits by kernel_rfl)]
 rfl
theorem qd3 (x:VD) (w:World):Calls Tryz.prog 181 #[x.v] w fun e w'=>e=.returned (mkV (mk x))/\Below w.heap.size w w':=by
 have hx:=zi0 x.f
 by_cases h:x.k=3
 ·have h':(x.k==3)=true:=by simpa using h
  have e:mk x=(x.k,x.n,x.f,x.s,x.r):=by simp[mk,h]
  rw[e]
  clear h e
  go_enter Tryz.func181,Tryz.ntmps181
  go_wp2_with fail
  exact bodyPost_ret (v:=mkV (x.k,x.n,x.f,x.s,x.r)) (by simp[results,Tryz.results181,go_sem]) rfl ⟨rfl,q39 _ _ _ _⟩
 ·have h':(x.k==3)=false:=by simpa using h
  have e:mk x=(x.k,x.n,0,x.s,x.r):=by simp[mk,h]
  rw[e]
  clear h e
  go_enter Tryz.func181,Tryz.ntmps181
  go_wp2_with fail
  exact bodyPost_ret (v:=mkV (x.k,x.n,0,x.s,x.r)) (by simp[results,Tryz.results181,go_sem]) rfl ⟨rfl,q39 _ _ _ _⟩
end Go.Proofs.YtaimofjekgnieaaGreatDoor
