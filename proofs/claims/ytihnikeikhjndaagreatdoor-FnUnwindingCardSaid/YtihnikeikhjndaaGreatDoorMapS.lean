import Derived.Maps.OwnSet
import Derived.WalkKit
import Derived.Test.YtihnikeikhjndaaGreatDoorPlain
import Derived.OpenShut
import Derived.ProofKit
import Derived.ShutString
import Derived.Test.YtihnikeikhjndaaGreatDoorRows
set_option maxRecDepth 100000
set_option maxHeartbeats 16000000
namespace Go.Proofs.YtihnikeikhjndaaGreatDoor
section
open Go.RowKit Go.ChangeMaps Go.MapKept
abbrev Mk:=Int×Int×Nat×ByteArray×Int
abbrev mkV(m:Mk):Value:=.agg #[.int .i64 m.1,.int .i64 m.2.1,.int .u64 (m.2.2.1:Int),.string m.2.2.2.1,.int .i64 m.2.2.2.2]
def upd:List (Mk×Nat)->Mk->Nat->List (Mk×Nat)
 |[],m,i=>[(m,i)]
 |(m',j) :: L,m,i=>if m=m' then(m,i) :: L else(m',j) :: upd L m i
def idx:List (Mk×Nat)->Mk->Option (Nat×Nat)
 |[],_=>none
 |(m',j) :: L,m=>if m=m' then some (0,j) else(idx L m).map fun p=>(p.1+1,p.2)
def dF(w:World)(b:Nat)(L:List (Mk×Nat)):Prop:=
 ∃es c,w.heap[b]?=some (.map es c)/\es.toList.map (fun e=>(e.key,e.val))=L.map (fun p=>(mkV p.1,Value.int .i64 (p.2:Int)))
structure xP(P:Program)(K:TypeId):Prop where
 und:∃fs,P.underlying K=some (.struct fs)
 eq:∀a b w,(Op.equal K (mkV a) (mkV b)).run P w=.ok (decide (a=b)) w
 chk:∀e a w,(Instr.checkKey e 10000 K (mkV a)).run P w=.ok () w
theorem Ue{P:Program}{K:TypeId}(hK:xP P K)(m:Mk)(w:World):∀(es:List MapEntry) (L:List (Mk×Nat)) (i:Nat),es.map (fun e=>(e.key,e.val))=L.map (fun p=>(mkV p.1,Value.int .i64 (p.2:Int)))->(Instr.findAsking K (mkV m) es i).run P w=.ok ((idx L m).map fun p=>(p.1+i,Value.int .i64 (p.2:Int))) w
 |[],[],i,_=>by simp[Instr.findAsking,idx]
 |[],_ :: _,_,h=>by simp at h
 |_ :: _,[],_,h=>by simp at h
 |e :: es,(m',j) :: L,i,h=>by
  simp only[List.map_cons,List.cons.injEq,Prod.mk.injEq] at h;obtain⟨⟨h1,h2⟩,h3⟩:=h;have ih:=Ue hK m w es L (i+1) h3;by_cases c:m=m'
  ·simp[Instr.findAsking,h1,h2,hK.eq,c,idx,Result.andThen]
  ·have:(idx ((m',j) :: L) m).map (fun p=>(p.1+i,Value.int .i64 (p.2:Int)))=(idx L m).map (fun p=>(p.1+(i+1),Value.int .i64 (p.2:Int))):=by
    rw[idx,if_neg c,Option.map_map];congr 1;funext p;simp;omega
   rw[this,<-ih];simp[Instr.findAsking,h1,hK.eq,c,Result.andThen]
theorem WC{P:Program}{K:TypeId}(hK:xP P K)(m:Mk)(w:World)(es:List MapEntry)(L:List (Mk×Nat))(h:es.map (fun e=>(e.key,e.val))=L.map (fun p=>(mkV p.1,Value.int .i64 (p.2:Int)))):(Instr.findKey K (mkV m) es).run P w=.ok ((idx L m).map fun p=>(p.1,Value.int .i64 (p.2:Int))) w:=by
 obtain⟨fs,hu⟩:=hK.und;have hf:=Ue hK m w es L 0 h;simp only[Nat.add_zero] at hf
 cases es with
 |nil=>
  cases L with
  |nil=>simp[Instr.findKey,run_underlying hu,Instr.findNow,idx,Result.andThen]
  |cons _ _=>simp at h
 |cons e es=>
  have:Instr.findNow (.struct fs) (mkV m) (e :: es) 0=none:=by simp[Instr.findNow,Instr.sameNow]
  simp only[Instr.findKey,Sem.run_bind,run_underlying hu,Result.andThen,this];exact hf
theorem zs1(m:Mk):Instr.sameBits 10000 (mkV m) (mkV m)=true:=by
 show(_ && _)=true;simp[Instr.sameBits];exact(by show(m.2.2.2.1.data==m.2.2.2.1.data)=true;simp)
theorem Vr:∀(L:List (Mk×Nat)) (m:Mk) (p v:Nat),idx L m=some (p,v)->L[p]?=some (m,v)
 |[],_,_,_,h=>by simp[idx] at h
 |(m',j) :: L,m,p,v,h=>by
  rw[idx] at h;by_cases c:m=m'
  ·rw[if_pos c] at h;simp at h;obtain⟨rfl,rfl⟩:=h;simp[c]
  ·rw[if_neg c] at h
   cases hi:idx L m with
   |none=>rw[hi] at h;simp at h
   |some q=>
    rw[hi] at h;simp at h;obtain⟨rfl,rfl⟩:=h;simpa using Vr L m q.1 q.2 (by rw[hi])
theorem UC:∀(L:List (Mk×Nat)) (m:Mk) (i:Nat),idx L m=none->upd L m i=L++[(m,i)]
 |[],_,_,_=>rfl
 |(m',j) :: L,m,i,h=>by
  rw[idx] at h;by_cases c:m=m'
  ·rw[if_pos c] at h;simp at h
  ·rw[if_neg c] at h;rw[upd,if_neg c,UC L m i (by simpa using h)];rfl
theorem UE:∀(L:List (Mk×Nat)) (m:Mk) (i p v:Nat),idx L m=some (p,v)->upd L m i=L.modify p fun _=>(m,i)
 |[],_,_,_,_,h=>by simp[idx] at h
 |(m',j) :: L,m,i,p,v,h=>by
  rw[idx] at h;by_cases c:m=m'
  ·rw[if_pos c] at h;simp at h;obtain⟨rfl,rfl⟩:=h;rw[upd,if_pos c];rfl
  ·rw[if_neg c] at h
   cases hi:idx L m with
   |none=>rw[hi] at h;simp at h
   |some q=>
    rw[hi] at h;simp at h;obtain⟨rfl,rfl⟩:=h;rw[upd,if_neg c,UE L m i q.1 q.2 (by rw[hi])];rfl
theorem Px{α β:Type}(f:α->β)(g:α->α)(g':β->β)(h:∀x,f (g x)=g' (f x)):∀(l:List α) (i:Nat),(l.modify i g).map f=(l.map f).modify i g'
 |[],i=>by simp
 |x :: l,0=>by simp[h]
 |x :: l,i+1=>by simp[Px f g g' h l i]
theorem zk7{P:Program}{T K E:TypeId}(ht:P.underlying T=some (.map K E))(hK:xP P K){w:World}{b:Nat}{L:List (Mk×Nat)}(h:dF w b L)(m:Mk)(i:Nat):∃w',(Instr.mapUpdate T (.map (some b)) (mkV m) (.int .i64 (i:Int))).run P w=.ok () w'/\dF w' b (upd L m i)/\w.mapTurned w' b:=by
 obtain⟨es,c,hb,he⟩:=h;have hf:=WC hK m w es.toList L he
 cases hi:idx L m with
 |none=>
  rw[hi] at hf;refine⟨setBlock w b (.map (es.push {key:=mkV m,val:=.int .i64 (i:Int),born:=c}) (c+1)),?_,?_,⟨es,c,_,_,hb,rfl⟩⟩
  ·simp[Instr.mapUpdate,run_underlying ht,MapKept.run_getObj_map hb,hK.chk,hf,MapKept.run_setObj_map _ hb,Result.andThen,setBlock]
  ·refine⟨_,_,heap_setBlock_same hb _,?_⟩;rw[UC L m i hi];simp[he]
 |some q=>
  obtain⟨p,v⟩:=q;rw[hi] at hf;have hl:=Vr L m p v hi;have hk:(es[p]?).map (·.key)=some (mkV m):=by
   have:(es.toList.map (fun e=>(e.key,e.val)))[p]?=some (mkV m,Value.int .i64 (v:Int)):=by rw[he];simp[hl]
   simp only[List.getElem?_map,Array.getElem?_toList,Option.map_eq_some_iff] at this;obtain⟨e,h1,h2⟩:=this;rw[h1];simp only[Prod.mk.injEq] at h2;simp[h2.1]
  refine⟨setBlock w b (.map (es.modify p fun e=>{e with key:=mkV m,val:=.int .i64 (i:Int)}) c),?_,?_,⟨es,c,_,_,hb,rfl⟩⟩
  ·simp[Instr.mapUpdate,run_underlying ht,MapKept.run_getObj_map hb,hK.chk,hf,hk,Instr.keyThatStays,zs1,MapKept.run_setObj_map _ hb,Result.andThen,setBlock]
  ·refine⟨_,_,heap_setBlock_same hb _,?_⟩;rw[UE L m i p v hi,Array.toList_modify,Px (fun e:MapEntry=>(e.key,e.val)) _ (fun _=>(mkV m,Value.int .i64 (i:Int))) (fun _=>rfl),he,Px (fun p:Mk×Nat=>(mkV p.1,Value.int .i64 (p.2:Int))) _ (fun _=>(mkV m,Value.int .i64 (i:Int))) (fun _=>rfl)]
theorem VY{P:Program}{T K E:TypeId}(ht:P.underlying T=some (.map K E))(hK:xP P K){w:World}{b:Nat}{L:List (Mk×Nat)}(h:dF w b L)(m:Mk)(hz:(zeroValue E).run P w=.ok (.int .i64 0) w):(Instr.lookup T (.map (some b)) (mkV m) true).run P w=.ok (.tuple #[.int .i64 (((idx L m).map (·.2)).getD 0:Nat),.bool (idx L m).isSome]) w:=by
 obtain⟨es,c,hb,he⟩:=h;have hf:=WC hK m w es.toList L he
 cases hi:idx L m with
 |none=>
  rw[hi] at hf;simp[Instr.lookup,run_underlying ht,MapKept.run_getObj_map hb,hK.chk,hf,hz,Result.andThen]
 |some q=>
  rw[hi] at hf;simp[Instr.lookup,run_underlying ht,MapKept.run_getObj_map hb,hK.chk,hf,Result.andThen]
theorem dF.lt{w:World}{b:Nat}{L:List (Mk×Nat)}(h:dF w b L):b<w.heap.size:=by
 obtain⟨es,c,hb,_⟩:=h;exact(Array.getElem?_eq_some_iff.1 hb).1
theorem dF.below{w w':World}{b:Nat}{L:List (Mk×Nat)}(h:dF w b L)(hb:Below w.heap.size w w'):dF w' b L:=by
 have hl:=h.lt;obtain⟨es,c,he,e⟩:=h;exact⟨es,c,(hb.block b hl).trans he,e⟩
theorem dF.alloc{w:World}{b:Nat}{L:List (Mk×Nat)}(h:dF w b L)(o:Obj):dF (w.alloc o) b L:=h.below ((Below.refl _ _).alloc (Nat.le_refl _) _)
end
section
open Go.ChangeShapes Go.WideShapes Go.ChangeAt Go.RowKit
open Go.ChangeMaps (open_string shut_string)
theorem Tryz.own:ownKnob Tryz.prog.godebug=none:=by kernel_rfl
theorem Tryz.laidOut:laidOutB Tryz.prog=true:=by kernel_rfl
section
variable {H:Type}{enc:TypeId×Value->H}{P:Program}{w:World}{base:Nat}{spare:Nat->Bool}{held:Bool}
end
end
end Go.Proofs.YtihnikeikhjndaaGreatDoor
