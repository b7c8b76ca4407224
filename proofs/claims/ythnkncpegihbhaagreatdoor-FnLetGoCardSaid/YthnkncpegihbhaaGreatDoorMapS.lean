import Derived.Maps.OwnSet
import Derived.WalkKit
import Derived.Test.YthnkncpegihbhaaGreatDoorPlain
import Derived.Test.YthnkncpegihbhaaGreatDoorFl
import Derived.Test.YthnkncpegihbhaaGreatDoorKey
import Derived.BigQuiet
import Derived.Lib.Bytealg
import Derived.Deep.OwnRows
import Derived.OpenShut
import Derived.ProofKit
import Derived.ShutString
import Derived.Test.YthnkncpegihbhaaGreatDoorRows
import Derived.Deep.DrawnRows
import Derived.Deep.RegionHeld3
set_option maxRecDepth 100000
set_option maxHeartbeats 16000000
namespace Go.Proofs.YthnkncpegihbhaaGreatDoor
section
open Go.RowKit Go.ChangeMaps Go.MapKept
abbrev Mk:=Int×Int×Nat×ByteArray×Int
abbrev mkV(m:Mk):Value:=.agg #[.int .i64 m.1,.int .i64 m.2.1,.int .u64 (m.2.2.1:Int),.string m.2.2.2.1,.int .i64 m.2.2.2.2]
def upd:List (Mk×Nat)->Mk->Nat->List (Mk×Nat)
 |[],m,i=>[(m,i)]
 |(m',j) :: L,m,i=>if m=m' then(m,i) :: L else(m',j) :: upd L m i
def idx:List (Mk×Nat)->Mk->Option (Nat×Nat)
 |[],_=>none
 |(m',j) :: L,m=>if m=m' then some (0,j) else(idx L m).map fun p=>(p.1+1,p.2)
def iZ(w:World)(b:Nat)(L:List (Mk×Nat)):Prop:=
 ∃es c,w.heap[b]?=some (.map es c)/\es.toList.map (fun e=>(e.key,e.val))=L.map (fun p=>(mkV p.1,Value.int .i64 (p.2:Int)))
structure CB(P:Program)(K:TypeId):Prop where
 und:∃fs,P.underlying K=some (.struct fs)
 eq:∀a b w,(Op.equal K (mkV a) (mkV b)).run P w=.ok (decide (a=b)) w
 chk:∀e a w,(Instr.checkKey e 10000 K (mkV a)).run P w=.ok () w
theorem Zh{P:Program}{K:TypeId}(hK:CB P K)(m:Mk)(w:World):∀(es:List MapEntry) (L:List (Mk×Nat)) (i:Nat),es.map (fun e=>(e.key,e.val))=L.map (fun p=>(mkV p.1,Value.int .i64 (p.2:Int)))->(Instr.findAsking K (mkV m) es i).run P w=.ok ((idx L m).map fun p=>(p.1+i,Value.int .i64 (p.2:Int))) w
 |[],[],i,_=>by simp[Instr.findAsking,idx]
 |[],_ :: _,_,h=>by simp at h
 |_ :: _,[],_,h=>by simp at h
 |e :: es,(m',j) :: L,i,h=>by
  simp only[List.map_cons,List.cons.injEq,Prod.mk.injEq] at h;obtain⟨⟨h1,h2⟩,h3⟩:=h;have ih:=Zh hK m w es L (i+1) h3;by_cases c:m=m'
  ·simp[Instr.findAsking,h1,h2,hK.eq,c,idx,Result.andThen]
  ·have:(idx ((m',j) :: L) m).map (fun p=>(p.1+i,Value.int .i64 (p.2:Int)))=(idx L m).map (fun p=>(p.1+(i+1),Value.int .i64 (p.2:Int))):=by
    rw[idx,if_neg c,Option.map_map];congr 1;funext p;simp;omega
   rw[this,<-ih];simp[Instr.findAsking,h1,hK.eq,c,Result.andThen]
theorem qy2{P:Program}{K:TypeId}(hK:CB P K)(m:Mk)(w:World)(es:List MapEntry)(L:List (Mk×Nat))(h:es.map (fun e=>(e.key,e.val))=L.map (fun p=>(mkV p.1,Value.int .i64 (p.2:Int)))):(Instr.findKey K (mkV m) es).run P w=.ok ((idx L m).map fun p=>(p.1,Value.int .i64 (p.2:Int))) w:=by
 obtain⟨fs,hu⟩:=hK.und;have hf:=Zh hK m w es L 0 h;simp only[Nat.add_zero] at hf
 cases es with
 |nil=>
  cases L with
  |nil=>simp[Instr.findKey,run_underlying hu,Instr.findNow,idx,Result.andThen]
  |cons _ _=>simp at h
 |cons e es=>
  have:Instr.findNow (.struct fs) (mkV m) (e :: es) 0=none:=by simp[Instr.findNow,Instr.sameNow]
  simp only[Instr.findKey,Sem.run_bind,run_underlying hu,Result.andThen,this];exact hf
theorem y72(m:Mk):Instr.sameBits 10000 (mkV m) (mkV m)=true:=by
 show(_ && _)=true;simp[Instr.sameBits];exact(by show(m.2.2.2.1.data==m.2.2.2.1.data)=true;simp)
theorem yt4:∀(L:List (Mk×Nat)) (m:Mk) (p v:Nat),idx L m=some (p,v)->L[p]?=some (m,v)
 |[],_,_,_,h=>by simp[idx] at h
 |(m',j) :: L,m,p,v,h=>by
  rw[idx] at h;by_cases c:m=m'
  ·rw[if_pos c] at h;simp at h;obtain⟨rfl,rfl⟩:=h;simp[c]
  ·rw[if_neg c] at h
   cases hi:idx L m with
   |none=>rw[hi] at h;simp at h
   |some q=>
    rw[hi] at h;simp at h;obtain⟨rfl,rfl⟩:=h;simpa using yt4 L m q.1 q.2 (by rw[hi])
theorem ZB:∀(L:List (Mk×Nat)) (m:Mk) (i:Nat),idx L m=none->upd L m i=L++[(m,i)]
 |[],_,_,_=>rfl
 |(m',j) :: L,m,i,h=>by
  rw[idx] at h;by_cases c:m=m'
  ·rw[if_pos c] at h;simp at h
  ·rw[if_neg c] at h;rw[upd,if_neg c,ZB L m i (by simpa using h)];rfl
theorem ZC:∀(L:List (Mk×Nat)) (m:Mk) (i p v:Nat),idx L m=some (p,v)->upd L m i=L.modify p fun _=>(m,i)
 |[],_,_,_,_,h=>by simp[idx] at h
 |(m',j) :: L,m,i,p,v,h=>by
  rw[idx] at h;by_cases c:m=m'
  ·rw[if_pos c] at h;simp at h;obtain⟨rfl,rfl⟩:=h;rw[upd,if_pos c];rfl
  ·rw[if_neg c] at h
   cases hi:idx L m with
   |none=>rw[hi] at h;simp at h
   |some q=>
    rw[hi] at h;simp at h;obtain⟨rfl,rfl⟩:=h;rw[upd,if_neg c,ZC L m i q.1 q.2 (by rw[hi])];rfl
theorem SA{α β:Type}(f:α->β)(g:α->α)(g':β->β)(h:∀x,f (g x)=g' (f x)):∀(l:List α) (i:Nat),(l.modify i g).map f=(l.map f).modify i g'
 |[],i=>by simp
 |x :: l,0=>by simp[h]
 |x :: l,i+1=>by simp[SA f g g' h l i]
theorem z28{P:Program}{T K E:TypeId}(ht:P.underlying T=some (.map K E))(hK:CB P K){w:World}{b:Nat}{L:List (Mk×Nat)}(h:iZ w b L)(m:Mk)(i:Nat):∃w',(Instr.mapUpdate T (.map (some b)) (mkV m) (.int .i64 (i:Int))).run P w=.ok () w'/\iZ w' b (upd L m i)/\w.mapTurned w' b:=by
 obtain⟨es,c,hb,he⟩:=h;have hf:=qy2 hK m w es.toList L he
 cases hi:idx L m with
 |none=>
  rw[hi] at hf;refine⟨setBlock w b (.map (es.push {key:=mkV m,val:=.int .i64 (i:Int),born:=c}) (c+1)),?_,?_,⟨es,c,_,_,hb,rfl⟩⟩
  ·simp[Instr.mapUpdate,run_underlying ht,MapKept.run_getObj_map hb,hK.chk,hf,MapKept.run_setObj_map _ hb,Result.andThen,setBlock]
  ·refine⟨_,_,heap_setBlock_same hb _,?_⟩;rw[ZB L m i hi];simp[he]
 |some q=>
  obtain⟨p,v⟩:=q;rw[hi] at hf;have hl:=yt4 L m p v hi;have hk:(es[p]?).map (·.key)=some (mkV m):=by
   have:(es.toList.map (fun e=>(e.key,e.val)))[p]?=some (mkV m,Value.int .i64 (v:Int)):=by rw[he];simp[hl]
   simp only[List.getElem?_map,Array.getElem?_toList,Option.map_eq_some_iff] at this;obtain⟨e,h1,h2⟩:=this;rw[h1];simp only[Prod.mk.injEq] at h2;simp[h2.1]
  refine⟨setBlock w b (.map (es.modify p fun e=>{e with key:=mkV m,val:=.int .i64 (i:Int)}) c),?_,?_,⟨es,c,_,_,hb,rfl⟩⟩
  ·simp[Instr.mapUpdate,run_underlying ht,MapKept.run_getObj_map hb,hK.chk,hf,hk,Instr.keyThatStays,y72,MapKept.run_setObj_map _ hb,Result.andThen,setBlock]
  ·refine⟨_,_,heap_setBlock_same hb _,?_⟩;rw[ZC L m i p v hi,Array.toList_modify,SA (fun e:MapEntry=>(e.key,e.val)) _ (fun _=>(mkV m,Value.int .i64 (i:Int))) (fun _=>rfl),he,SA (fun p:Mk×Nat=>(mkV p.1,Value.int .i64 (p.2:Int))) _ (fun _=>(mkV m,Value.int .i64 (i:Int))) (fun _=>rfl)]
theorem z43{P:Program}{T K E:TypeId}(ht:P.underlying T=some (.map K E))(hK:CB P K){w:World}{b:Nat}{L:List (Mk×Nat)}(h:iZ w b L)(m:Mk)(hz:(zeroValue E).run P w=.ok (.int .i64 0) w):(Instr.lookup T (.map (some b)) (mkV m) true).run P w=.ok (.tuple #[.int .i64 (((idx L m).map (·.2)).getD 0:Nat),.bool (idx L m).isSome]) w:=by
 obtain⟨es,c,hb,he⟩:=h;have hf:=qy2 hK m w es.toList L he
 cases hi:idx L m with
 |none=>
  rw[hi] at hf;simp[Instr.lookup,run_underlying ht,MapKept.run_getObj_map hb,hK.chk,hf,hz,Result.andThen]
 |some q=>
  rw[hi] at hf;simp[Instr.lookup,run_underlying ht,MapKept.run_getObj_map hb,hK.chk,hf,Result.andThen]
theorem iZ.new(w:World):iZ (w.alloc (.map #[] 0)) w.heap.size []:=⟨#[],0,(MapKept.heap_alloc w _).1,rfl⟩
theorem iZ.lt{w:World}{b:Nat}{L:List (Mk×Nat)}(h:iZ w b L):b<w.heap.size:=by
 obtain⟨es,c,hb,_⟩:=h;exact(Array.getElem?_eq_some_iff.1 hb).1
theorem iZ.below{w w':World}{b:Nat}{L:List (Mk×Nat)}(h:iZ w b L)(hb:Below w.heap.size w w'):iZ w' b L:=by
 have hl:=h.lt;obtain⟨es,c,he,e⟩:=h;exact⟨es,c,(hb.block b hl).trans he,e⟩
theorem iZ.alloc{w:World}{b:Nat}{L:List (Mk×Nat)}(h:iZ w b L)(o:Obj):iZ (w.alloc o) b L:=h.below ((Below.refl _ _).alloc (Nat.le_refl _) _)
end
section
open Go.RowKit
structure PD where
 key:VD
 val:VD
 turn:Int
abbrev VD.ok(x:VD):Bool:=okB x.k x.n x.f x.s x.r
def kc(x:VD):Int:=if x.ok=false then 1 else if x.k=0 then 5 else if x.k=3 then(if FloatKind.f64.format.order x.f x.f≠some .eq then 5 else 0) else 0
def kv(x:VD):VD:=if x.ok=false then vz else if x.k=0 then vz else if x.k=3 then(if FloatKind.f64.format.order x.f x.f≠some .eq then vz else if KO x.f then⟨2,(floatToIntVal .f64 x.f .i64).getD 0,0,⟨#[]⟩,0⟩ else⟨3,0,x.f,⟨#[]⟩,0⟩) else x
abbrev kgV(c:Int)(x:VD):Value:=gV c x.k x.n x.f x.s x.r
theorem yt0(x:VD):sG x.k x.n x.f x.s x.r=kgV (kc x) (kv x):=by
 unfold sG kc kv yA;by_cases h1:x.ok=false
 ·have:okB x.k x.n x.f x.s x.r=false:=h1;rw[aO h1,aO this,aO h1];rfl
 ·have:¬okB x.k x.n x.f x.s x.r=false:=h1;rw[au h1,au this,au h1];by_cases h2:x.k=0
  ·simp only[aO h2];rfl
  ·simp only[au h2];by_cases h3:x.k=3
   ·simp only[aO h3];by_cases h4:FloatKind.f64.format.order x.f x.f≠some .eq
    ·simp only[aO h4];rfl
    ·simp only[au h4]
     cases KO x.f<;>rfl
   ·simp only[au h3]
def Tj(x:VD):Bool:=kc x==0 && (kv x).k==x.k
theorem j21{s t:ByteArray}:(s==t)=decide (s=t):=by
 show(s.data==t.data)=decide (s=t);obtain⟨a⟩:=s;obtain⟨b⟩:=t;by_cases h:a=b
 ·subst h;simp
 ·simp[h]
def mk(x:VD):Mk:=(x.k,x.n,if x.k=3 then x.f else 0,x.s,x.r)
def places(q:Nat->PD):Nat->List (Mk×Nat)
 |0=>[]
 |i+1=>upd (places q i) (mk (q i).key) i
theorem VW:∀(L:List (Mk×Nat)) (m:Mk) (i:Nat),m ∉ L.map (·.1)->upd L m i=L++[(m,i)]
 |[],_,_,_=>rfl
 |(m',j) :: L,m,i,h=>by
  simp only[List.map_cons,List.mem_cons,not_or] at h;rw[upd,au h.1,VW L m i h.2];rfl
theorem ZA:∀(L:List (Mk×Nat)) (m:Mk) (i:Nat),m∈L.map (·.1)->(upd L m i).map (·.1)=L.map (·.1)
 |[],_,_,h=>by simp at h
 |(m',j) :: L,m,i,h=>by
  by_cases c:m=m'
  ·rw[upd,aO c,c];rfl
  ·simp only[List.map_cons,List.mem_cons] at h;rw[upd,au c,List.map_cons,ZA L m i (h.resolve_left c)];rfl
theorem z33(q:Nat->PD):∀(n:Nat) (m:Mk),m∈(places q n).map (·.1)↔∃j,j<n/\m=mk (q j).key
 |0,m=>by simp[places]
 |n+1,m=>by
  have ih:=z33 q n;unfold places;by_cases c:mk (q n).key∈(places q n).map (·.1)
  ·rw[ZA _ _ _ c,ih];constructor
   ·rintro⟨j,hj,e⟩;exact⟨j,by omega,e⟩
   ·rintro⟨j,hj,e⟩;by_cases hn:j=n
    ·subst hn;rw[e];exact(ih _).1 c
    ·exact⟨j,by omega,e⟩
  ·rw[VW _ _ _ c];simp only[bH,dD,ih,List.map_cons,List.map_nil,List.mem_singleton];constructor
   ·rintro(⟨j,hj,e⟩|e)
    ·exact⟨j,by omega,e⟩
    ·exact⟨n,by omega,e⟩
   ·rintro⟨j,hj,e⟩;by_cases hn:j=n
    ·subst hn;exact .inr e
    ·exact .inl ⟨j,by omega,e⟩
theorem z34(q:Nat->PD):∀n,(∀i j,j<i->i<n->mk (q j).key≠mk (q i).key)->places q n=(List.range n).map fun i=>(mk (q i).key,i)
 |0,_=>rfl
 |n+1,h=>by
  have ih:=z34 q n fun i j h1 h2=>h i j h1 (by omega);unfold places;rw[VW _ _ _ (fun c=>by obtain⟨j,h1,h2⟩:=(z33 q n _).1 c;exact h n j h1 (by omega) h2.symm),ih,bU,bH];rfl
end
section
open Go.RowKit
attribute [local go_sem] iD
abbrev uS(p:PD):Value:=.agg #[.int .i64 p.key.k,.int .i64 p.key.n,.float .f64 p.key.f,.string p.key.s,.int .i64 p.key.r,.int .i64 p.val.k,.int .i64 p.val.n,.float .f64 p.val.f,.string p.val.s,.int .i64 p.val.r,.int .i64 p.turn]
abbrev uj(p:PD):Array Value:=#[.int .i64 p.key.k,.int .i64 p.key.n,.float .f64 p.key.f,.string p.key.s,.int .i64 p.key.r,.int .i64 p.val.k,.int .i64 p.val.n,.float .f64 p.val.f,.string p.val.s,.int .i64 p.val.r,.int .i64 p.turn]
theorem st1{B blk o:Nat}{a w:World}(h:Below B a w)(hp:B<=blk)(v:Value):Below B a (w.setCell ⟨blk,o,none⟩ v):=h.setCell (p:=⟨blk,o,none⟩) hp v
def Tab(w:World)(a:Option Addr)(n:Nat)(q:Nat->PD):Prop:=
 0<n->∃b off,a=some ⟨b,off,none⟩/\b<w.heap.size/\∀i,i<n->∀j,j<11->w.cell? ⟨b,off+i*11+j,none⟩=(uj (q i))[j]?
theorem Tab.below{w w':World}{a:Option Addr}{n:Nat}{q:Nat->PD}(h:Tab w a n q)(hb:gZ w w'):Tab w' a n q:=fun hn=>by
 obtain⟨b,off,e,h1,h2⟩:=h hn;exact⟨b,off,e,aH h1 hb.size,fun i hi j hj=>(hb.cell (p:=⟨b,off+i*11+j,none⟩) h1).trans (h2 i hi j hj)⟩
def fl(q:Nat->PD)(m:Nat):Value:=((uj (q (m / 11)))[m%11]?).getD undef
theorem Aq(q:Nat->PD)(k j:Nat)(hj:j<11):fl q (k*11+j)=((uj (q k))[j]?).getD undef:=by
 unfold fl;rw[show(k*11+j) / 11=k by omega,show(k*11+j)%11=j by omega]
theorem y92(p:PD)(j:Nat)(hj:j<11):(uj p)[j]?=some (((uj p)[j]?).getD undef):=by
 have:j<(uj p).size:=hj;rw[cO this];rfl
theorem ym2:(Tryz.prog.info? 278).map (fun i=>(i.zero,i.size,i.bytes))=some (some (.agg #[.int .i64 0,.int .i64 0,.float .f64 0,.string ⟨#[]⟩,.int .i64 0,.int .i64 0,.int .i64 0,.float .f64 0,.string ⟨#[]⟩,.int .i64 0,.int .i64 0]),11,104):=by kernel_rfl
end
section
open Go.ChangeShapes Go.WideShapes Go.ChangeAt Go.RowKit
open Go.ChangeMaps (open_string shut_string)
theorem Tryz.own:ownKnob Tryz.prog.godebug=none:=by kernel_rfl
theorem Tryz.laidOut:laidOutB Tryz.prog=true:=by kernel_rfl
section
variable {H:Type}{enc:TypeId×Value->H}{P:Program}{w:World}{base:Nat}{spare:Nat->Bool}{held:Bool}
end
end
section
open Go.RowKit
attribute [local go_sem] iD
theorem zp2(f:Nat)(w:World):(callFunc 236 #[.float .f64 f]).run Tryz.prog w=.ok (.value (.int .u64 (f:Int))) w:=by
 rw[dS Tryz.func236 (by kernel_rfl) (by kernel_rfl) (by kernel_rfl) (show Extern.find Tryz.f236=some Extern.MathFloatBits.float64bits by kernel_rfl)];rfl
theorem SH(x:VD)(w:World):Calls Tryz.prog 186 #[x.v] w fun e w'=>e=.returned (mkV (mk x))/\gZ w w':=by
 have hx:=zp2 x.f;by_cases h:x.k=3
 ·have h':(x.k==3)=true:=by simpa using h
  have e:mk x=(x.k,x.n,x.f,x.s,x.r):=by simp[mk,h]
  rw[e];clear h e;go_in;go_wp2_with fail;exact aG (v:=mkV (x.k,x.n,x.f,x.s,x.r)) (by simp[results,Tryz.results186,go_sem]) rfl ⟨rfl,xW _ _ _ _⟩
 ·have h':(x.k==3)=false:=by simpa using h
  have e:mk x=(x.k,x.n,0,x.s,x.r):=by simp[mk,h]
  rw[e];clear h e;go_in;go_wp2_with fail;exact aG (v:=mkV (x.k,x.n,0,x.s,x.r)) (by simp[results,Tryz.results186,go_sem]) rfl ⟨rfl,xW _ _ _ _⟩
theorem qz6(p:PD)(w:World):Calls Tryz.prog 344 #[uS p] w fun e w'=>e=.returned (mkV (mk p.key))/\gZ w w':=by
 have hM:Hid (∀w,Calls Tryz.prog 186 #[p.key.v] w fun e w'=>e=.returned (mkV (mk p.key))/\gZ w w'):=fun w=>SH p.key w;generalize mk p.key=m at hM ⊢;obtain⟨m1,m2,m3,m4,m5⟩:=m;go_in;go_wp2_with fail;refine(hM.out _).mono ?_;rintro e w2 ⟨rfl,eG⟩;have hB:=iq (kF _ _ _) eG;obtain⟨hc2,hf2⟩:=iW eG;have hz2:=eG.size
 (try simp at hz2)
 have hb2':w.heap.size+1<w2.heap.size:=by omega
 go_wp2_with fail;have p1:w.heap.size<=w.heap.size+1:=aZ _ _;exact aG (v:=mkV (m1,m2,m3,m4,m5)) (by simp[results,Tryz.results344,go_sem,hc2]) rfl ⟨rfl,st1 (st1 (st1 (st1 (st1 hB p1 _) p1 _) p1 _) p1 _) p1 _⟩
def Et(p:PD):Bool:=Tj p.key && p.val.ok && !(p.val.k==0)
theorem zu2:Tryz.prog.underlying 282=some (.struct (Tryz.prog.fieldsOf 282)):=by kernel_rfl
theorem yk8:Tryz.prog.stoodInHeld 282=false:=by kernel_rfl
theorem jd7(x y:Mk)(w:World):(Op.equal 282 (mkV x) (mkV y)).run Tryz.prog w=.ok (decide (x=y)) w:=by
 obtain⟨x1,x2,x3,x4,x5⟩:=x;obtain⟨y1,y2,y3,y4,y5⟩:=y;show(Op.equalIn 10000 _ _ _).run _ _=_;rw[run_equalIn_agg w 9999 _ _ _ zu2 yk8];simp only[Program.fieldsOf,Tryz.underlying282];have p0:∀(a b c d e:Value) (w:World),(part 3 #[a,b,c,d,e] 0).run Tryz.prog w=.ok a w:=fun _ _ _ _ _ _=>by kernel_rfl
 have p1:∀(a b c d e:Value) (w:World),(part 2 #[a,b,c,d,e] 1).run Tryz.prog w=.ok b w:=fun _ _ _ _ _ _=>by kernel_rfl
 have p2:∀(a b c d e:Value) (w:World),(part 78 #[a,b,c,d,e] 2).run Tryz.prog w=.ok c w:=fun _ _ _ _ _ _=>by kernel_rfl
 have p3:∀(a b c d e:Value) (w:World),(part 9 #[a,b,c,d,e] 3).run Tryz.prog w=.ok d w:=fun _ _ _ _ _ _=>by kernel_rfl
 have p4:∀(a b c d e:Value) (w:World),(part 3 #[a,b,c,d,e] 4).run Tryz.prog w=.ok e w:=fun _ _ _ _ _ _=>by kernel_rfl
 have q0:=fun(a b:Int) (w:World)=>run_equalIn_int (P:=Tryz.prog) w 9998 3 .i64 .i64 a b Tryz.underlying3;have q1:=fun(a b:Int) (w:World)=>run_equalIn_int (P:=Tryz.prog) w 9998 2 .i64 .i64 a b Tryz.underlying2;have q2:=fun(a b:Int) (w:World)=>run_equalIn_int (P:=Tryz.prog) w 9998 78 .u64 .u64 a b Tryz.underlying78;have q3:=fun(a b:ByteArray) (w:World)=>run_equalIn_string (P:=Tryz.prog) w 9998 9 a b Tryz.underlying9;by_cases h0:x1=y1
 ·by_cases h1:x2=y2
  ·by_cases h2:x3=y3
   ·by_cases h3:x4=y4
    ·by_cases h4:x5=y5
     ·simp[Op.eqFields,p0,p1,p2,p3,p4,q0,q1,q2,q3,h0,h1,h2,h3,h4]
     ·simp[Op.eqFields,p0,p1,p2,p3,p4,q0,q1,q2,q3,h0,h1,h2,h3,h4]
    ·have h3':(x4.toList==y4.toList)=false:=by
      rw[<-beq_toListBytes,j21];simpa using h3
     simp[Op.eqFields,p0,p1,p2,p3,q0,q1,q2,q3,h0,h1,h2,h3,h3']
   ·have h2':((x3:Int)==(y3:Int))=false:=by simp;omega
    simp[Op.eqFields,p0,p1,p2,q0,q1,q2,h0,h1,h2,h2']
  ·simp[Op.eqFields,p0,p1,q0,q1,h0,h1]
 ·simp[Op.eqFields,p0,q0,h0]
theorem jd8(e:Bool)(m:Mk)(w:World):(Instr.checkKey e 10000 282 (mkV m)).run Tryz.prog w=.ok () w:=by
 kernel_rfl
theorem Rx:CB Tryz.prog 282:=⟨⟨_,zu2⟩,jd7,jd8⟩
theorem zn4(i:Int)(w:World):(Instr.makeMap 242 (some (.int .i64 i))).run Tryz.prog w=.ok (.map (some w.heap.size)) (w.alloc (.map #[] 0)):=by
 simp[Instr.makeMap,dn Tryz.underlying242,asInt,asIntOf,newObj,Sem.run,Result.andThen]
theorem qz5(a:Option Addr)(n cap:Nat)(q:Nat->PD)(w:World)(hn:n<=1048576)(hT:Tab w a n q):Calls Tryz.prog 417 #[.slice a n cap,.func (.func 344) #[] #[]] w fun e w'=>e=.returned (.map (some w.heap.size))/\iZ w' w.heap.size (places q n)/\gZ w w':=by
 have HT:Hid (Tab w a n q):=hT;have hmk:=zn4 n w;have hM0:=iZ.new w;have hB0:=q01 w (.map #[] 0);go_in;go_wp2_with fail
 go_loopw [13] (fun i wr=>∃(k:Nat),k<=n/\i=.int .i64 k/\iZ wr w.heap.size (places q k)/\gZ w wr) (fun i _=>n-(intOf i).toNat)
 case atStart=>exact⟨0,aF _,rfl,hM0,hB0⟩
 case round=>
  obtain⟨k,hk,rfl,hM,hB⟩:=hrel;by_cases fE:k<n
  ·obtain⟨b,off,rfl,hb,hc⟩:=HT.out (by omega);have hc':∀j,j<11->wr.cell? ⟨b,off+k*11+j,none⟩=(uj (q k))[j]?:=fun j hj=>(hB.cell (p:=⟨b,off+k*11+j,none⟩) hb).trans (hc k fE j hj);have d0:=hc' 0 (by omega);have d1:=hc' 1 (by omega);have d2:=hc' 2 (by omega);have d3:=hc' 3 (by omega);have d4:=hc' 4 (by omega);have d5:=hc' 5 (by omega);have d6:=hc' 6 (by omega);have d7:=hc' 7 (by omega);have d8:=hc' 8 (by omega);have d9:=hc' 9 (by omega);have d10:=hc' 10 (by omega);simp only[List.getElem?_toArray,List.getElem?_cons_zero,List.getElem?_cons_succ,Nat.add_zero] at d0 d1 d2 d3 d4 d5 d6 d7 d8 d9 d10;have HM:Hid (iZ wr w.heap.size (places q k)):=hM;go_wp2_with fail;refine(qz6 (q k) _).mono ?_;rintro e w2 ⟨rfl,eG⟩;have hM2:=(HM.alloc _).below eG;replace hB:=iq (vT hB _) eG;obtain⟨w3,hrun,zZ,hturn⟩:=z28 Tryz.underlying242 Rx hM2 (mk (q k).key) k;replace hB:=hB.grown hturn.grown hB.size (fun k e=>by cases e;exact ah _);have HM3:Hid (iZ w3 w.heap.size (places q (k+1))):=zZ;go_wp2_with fail;go_roundw
   case rel=>exact⟨k+1,by omega,by go_num,HM3.out,hB⟩
   case measure=>simp[intOf];omega
  ·have:k=n:=by omega
   subst this;go_wp2_with fail;go_ret;exact⟨rfl,hM,hB⟩
end
end Go.Proofs.YthnkncpegihbhaaGreatDoor
