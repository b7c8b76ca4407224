import Derived.Test.YtihnikeikhjndaaGreatDoorKey
import Derived.Deep.Slices
set_option maxRecDepth 100000
set_option maxHeartbeats 16000000
namespace Go.Proofs.YtihnikeikhjndaaGreatDoor
section
open Go.RowKit
attribute [local go_sem] aN
def Dv(p:PD):Bool:=Ql p.key && p.val.ok && !(p.val.k==0)
theorem Un:Tryz.prog.underlying 281=some (.struct (Tryz.prog.fieldsOf 281)):=by kernel_rfl
theorem y45:Tryz.prog.stoodInHeld 281=false:=by kernel_rfl
theorem yq1(x y:Mk)(w:World):(Op.equal 281 (mkV x) (mkV y)).run Tryz.prog w=.ok (decide (x=y)) w:=by
 obtain⟨x1,x2,x3,x4,x5⟩:=x;obtain⟨y1,y2,y3,y4,y5⟩:=y;show(Op.equalIn 10000 _ _ _).run _ _=_;rw[run_equalIn_agg w 9999 _ _ _ Un y45];simp only[Program.fieldsOf,Tryz.underlying281];have p0:∀(a b c d e:Value) (w:World),(part 3 #[a,b,c,d,e] 0).run Tryz.prog w=.ok a w:=fun _ _ _ _ _ _=>by kernel_rfl
 have p1:∀(a b c d e:Value) (w:World),(part 2 #[a,b,c,d,e] 1).run Tryz.prog w=.ok b w:=fun _ _ _ _ _ _=>by kernel_rfl
 have p2:∀(a b c d e:Value) (w:World),(part 70 #[a,b,c,d,e] 2).run Tryz.prog w=.ok c w:=fun _ _ _ _ _ _=>by kernel_rfl
 have p3:∀(a b c d e:Value) (w:World),(part 9 #[a,b,c,d,e] 3).run Tryz.prog w=.ok d w:=fun _ _ _ _ _ _=>by kernel_rfl
 have p4:∀(a b c d e:Value) (w:World),(part 3 #[a,b,c,d,e] 4).run Tryz.prog w=.ok e w:=fun _ _ _ _ _ _=>by kernel_rfl
 have q0:=fun(a b:Int) (w:World)=>run_equalIn_int (P:=Tryz.prog) w 9998 3 .i64 .i64 a b Tryz.underlying3;have q1:=fun(a b:Int) (w:World)=>run_equalIn_int (P:=Tryz.prog) w 9998 2 .i64 .i64 a b Tryz.underlying2;have q2:=fun(a b:Int) (w:World)=>run_equalIn_int (P:=Tryz.prog) w 9998 70 .u64 .u64 a b Tryz.underlying70;have q3:=fun(a b:ByteArray) (w:World)=>run_equalIn_string (P:=Tryz.prog) w 9998 9 a b Tryz.underlying9;by_cases h0:x1=y1
 ·by_cases h1:x2=y2
  ·by_cases h2:x3=y3
   ·by_cases h3:x4=y4
    ·by_cases h4:x5=y5
     ·simp[Op.eqFields,p0,p1,p2,p3,p4,q0,q1,q2,q3,h0,h1,h2,h3,h4]
     ·simp[Op.eqFields,p0,p1,p2,p3,p4,q0,q1,q2,q3,h0,h1,h2,h3,h4]
    ·have h3':(x4.toList==y4.toList)=false:=by
      rw[<-beq_toListBytes,yg7];simpa using h3
     simp[Op.eqFields,p0,p1,p2,p3,q0,q1,q2,q3,h0,h1,h2,h3,h3']
   ·have h2':((x3:Int)==(y3:Int))=false:=by simp;omega
    simp[Op.eqFields,p0,p1,p2,q0,q1,q2,h0,h1,h2,h2']
  ·simp[Op.eqFields,p0,p1,q0,q1,h0,h1]
 ·simp[Op.eqFields,p0,q0,h0]
theorem yq3(e:Bool)(m:Mk)(w:World):(Instr.checkKey e 10000 281 (mkV m)).run Tryz.prog w=.ok () w:=by
 kernel_rfl
theorem Oi:xP Tryz.prog 281:=⟨⟨_,Un⟩,yq1,yq3⟩
def cellsOf(q:Nat->PD)(n:Nat):List Value:=(List.range (n*11)).map (fl q)
end
section
open Go.RowKit
attribute [local go_sem] aN
attribute [local go_sem ↓] Go.wp_at_zero Go.wp_at_succ
def Oh(q:Nat->PD):Nat->Int
 |0=>0
 |i+1=>(q i).turn
def NU(q:Nat->PD)(t:Int)(i:Nat):Bool:=Dv (q i) && decide (Oh q i<(q i).turn) && decide ((q i).turn<=t)
structure KL(n:Nat)(t:Int)(q:Nat->PD):Prop where
 nn:n<=500
 t0:0<=t
 t1:t<=1000000000000
 row:∀i,i<n->NU q t i=true
 key:∀i j,j<i->i<n->mk (q j).key≠mk (q i).key
end
section
open Go.RowKit
def nK(q:Nat->PD)(m:Mk):Nat->Option Nat
 |0=>none
 |n+1=>match nK q m n with
  |some i=>some i
  |none=>if mk (q n).key=m then some n else none
theorem y60(q:Nat->PD)(m:Mk)(n:Nat):nK q m (n+1)=match nK q m n with
  |some i=>some i
  |none=>if mk (q n).key=m then some n else none:=rfl
theorem y61{q:Nat->PD}{m:Mk}:∀{n:Nat},(∀i,i<n->mk (q i).key≠m)->nK q m n=none
 |0,_=>rfl
 |n+1,h=>by
  unfold nK;rw[y61 fun i hi=>h i (by omega)];simp[h n (by omega)]
theorem y98{q:Nat->PD}{m:Mk}:∀{n i:Nat},nK q m n=some i->i<n/\mk (q i).key=m
 |0,_,h=>by simp[nK] at h
 |n+1,i,h=>by
  unfold nK at h
  cases c:nK q m n with
  |some j=>
   rw[c] at h;simp at h;subst h;have:=y98 c;exact⟨by omega,this.2⟩
  |none=>
   rw[c] at h;simp at h;obtain⟨h1,rfl⟩:=h;exact⟨by omega,h1⟩
theorem TJ:∀(L L':List (Mk×Nat)) (m:Mk),idx (L++L') m=match idx L m with
  |some p=>some p
  |none=>(idx L' m).map fun p=>(p.1+L.length,p.2)
 |[],L',m=>by simp[idx]
 |(m',j) :: L,L',m=>by
  by_cases c:m=m'
  ·simp[idx,c]
  ·simp only[List.cons_append,idx,if_neg c,TJ L L' m]
   cases idx L m with
   |some p=>rfl
   |none=>simp;cases idx L' m<;>simp;omega
theorem VQ(q:Nat->PD)(m:Mk):∀n,idx ((List.range n).map fun i=>(mk (q i).key,i)) m=(nK q m n).map fun i=>(i,i)
 |0=>rfl
 |n+1=>by
  rw[List.range_succ,List.map_append,TJ,VQ q m n,y60]
  cases nK q m n with
  |some i=>rfl
  |none=>
   by_cases c:m=mk (q n).key
   ·simp[idx,c]
   ·simp[idx,c,Ne.symm c]
theorem yl5{n:Nat}{t:Int}{q:Nat->PD}(h:KL n t q)(m:Mk):idx (places q n) m=(nK q m n).map fun i=>(i,i):=by
 rw[Wq q n h.key,VQ]
end
section
open Go.RowKit
attribute [local go_sem] aN
attribute [local go_sem ↓] Go.wp_at_zero Go.wp_at_succ
def pz:PD:=⟨vz,vz,0⟩
def gt(q:Nat->PD)(m:Mk)(n:Nat):PD:=match nK q m n with
 |some i=>q i
 |none=>pz
theorem yd7{w:World}{b n cap:Nat}{t:TypeId}{a:Option Addr}{q:Nat->PD}(h:w.ownsRow b t 11 (.slice a n cap) n (cellsOf q n)):Tab w a n q:=fun hn=>by
 obtain⟨_,h2⟩:=h;rcases h2 with⟨_,h0⟩|⟨g,cap',cur,e,_,hh,_,_,hs,ht⟩
 ·omega
 ·cases e;refine⟨g,0,rfl,(Array.getElem?_eq_some_iff.1 hh).1,fun i hi j hj=>?_⟩;have hlt:i*11+j<n*11:=by omega
  have h1:cur.toList[i*11+j]?=some (fl q (i*11+j)):=by
   have h3:(cur.toList.take (n*11))[i*11+j]?=cur.toList[i*11+j]?:=by rw[List.getElem?_take,if_pos hlt]
   rw[<-h3,ht];simp[cellsOf,hlt]
  rw[Nat.zero_add,uS q i j hj] at *;have h4:w.cell? ⟨g,i*11+j,none⟩=cur[i*11+j]?:=by simp[World.cell?,hh]
  rw[h4,ZJ _ _ hj,<-h1];simp
theorem z68(a:Option Addr)(n cap B:Nat)(t:Int)(q:Nat->PD)(m:Mk)(w:World)(hok:KL n t q)(hT:Tab w a n q)(hM:dF w B (places q n)):Calls Tryz.prog 187 #[.slice a n cap,.map (some B),mkV m] w fun e w'=>e=.returned (.tuple #[LM (gt q m n),.bool (nK q m n).isSome])/\ah w w':=by
 have HT:Hid (Tab w a n q):=hT;have hn:=hok.nn;obtain⟨m1,m2,m3,m4,m5⟩:=m;have hlk:=fun o1 o2=>VY Tryz.underlying241 Oi ((hM.alloc o1).alloc o2) (m1,m2,m3,m4,m5) (Tryz.zeroValue3 _);rw[yl5 hok] at hlk;clear hT hM hok;have p1:w.heap.size<=w.heap.size+1:=Nat.le_add_right _ _;unfold gt
 cases hf:nK q (m1,m2,m3,m4,m5) n with
 |none=>
  rw[hf] at hlk;simp only[Option.map_none,Option.getD_none,Option.isSome_none] at hlk;go_in;go_wp2_with fail;exact bodyPost_ret (v:=.tuple #[LM pz,.bool false]) (by simp[results,Tryz.results187,go_sem,pz,vz]) rfl ⟨rfl,iy _ _ _⟩
 |some i=>
  rw[hf] at hlk;simp only[Option.map_some,Option.getD_some,Option.isSome_some] at hlk;have hi:=(y98 hf).1;obtain⟨b,off,rfl,hb,hc⟩:=HT.out (by omega);have hc':∀o1 o2:Obj,∀j,j<11->((w.alloc o1).alloc o2).cell? ⟨b,off+i*11+j,none⟩=(qR (q i))[j]?:=fun o1 o2 j hj=>by
   rw[World.cell?_alloc_lt _ _ _ (by simp;omega),World.cell?_alloc_lt _ _ _ hb];exact hc i hi j hj
  have d0:=fun o1 o2=>hc' o1 o2 0 (by omega);have d1:=fun o1 o2=>hc' o1 o2 1 (by omega);have d2:=fun o1 o2=>hc' o1 o2 2 (by omega);have d3:=fun o1 o2=>hc' o1 o2 3 (by omega);have d4:=fun o1 o2=>hc' o1 o2 4 (by omega);have d5:=fun o1 o2=>hc' o1 o2 5 (by omega);have d6:=fun o1 o2=>hc' o1 o2 6 (by omega);have d7:=fun o1 o2=>hc' o1 o2 7 (by omega);have d8:=fun o1 o2=>hc' o1 o2 8 (by omega);have d9:=fun o1 o2=>hc' o1 o2 9 (by omega);have d10:=fun o1 o2=>hc' o1 o2 10 (by omega);simp only[List.getElem?_toArray,List.getElem?_cons_zero,List.getElem?_cons_succ,Nat.add_zero] at d0 d1 d2 d3 d4 d5 d6 d7 d8 d9 d10;clear hc hc';go_in;go_wp2_with fail;exact bodyPost_ret (v:=.tuple #[LM (q i),.bool true]) (by simp[results,Tryz.results187,go_sem]) rfl ⟨rfl,iy _ _ _⟩
structure oM(w:World)(b:Nat)(a:Option Addr)(n cap B:Nat)(t:Int)(q:Nat->PD):Prop where
 lt:b<w.heap.size
 c0:w.cell? ⟨b,0,none⟩=some (.slice a n cap)
 c1:w.cell? ⟨b,1,none⟩=some (.map (some B))
 c2:w.cell? ⟨b,2,none⟩=some (.int .i64 t)
 tab:Tab w a n q
 map:dF w B (places q n)
theorem oM.call{u w:World}{b:Nat}{a:Option Addr}{n cap B:Nat}{t:Int}{q:Nat->PD}(h:oM u b a n cap B t q)(hb:ah u w):oM w b a n cap B t q:=
 ⟨Nat.lt_of_lt_of_le h.lt hb.size,(hb.cell (p:=⟨b,0,none⟩) h.lt).trans h.c0,(hb.cell (p:=⟨b,1,none⟩) h.lt).trans h.c1,(hb.cell (p:=⟨b,2,none⟩) h.lt).trans h.c2,h.tab.below hb,h.map.below hb⟩
theorem oM.alloc{w:World}{b:Nat}{a:Option Addr}{n cap B:Nat}{t:Int}{q:Nat->PD}(h:oM w b a n cap B t q)(o:Obj):oM (w.alloc o) b a n cap B t q:=h.call (q01 w o)
structure mD(w:World)(X:Nat)(a:Option Addr)(n cap B:Nat)(t:Int)(q:Nat->PD)(y:VD)(w':World):Prop where
 x:oM w' X a n cap B t q
 lt:w.heap.size<w'.heap.size
 k:∀j,w'.cell? ⟨w.heap.size,j,none⟩=(#[.int .i64 y.k,.int .i64 y.n,.float .f64 y.f,.string y.s,.int .i64 y.r]:Array Value)[j]?
 r:w.heap.size+1<w'.heap.size
 rc:∀j,j<5->∃v,w'.cell? ⟨w.heap.size+1,j,none⟩=some v
 rf:∀j,w'.frozen? ⟨w.heap.size+1,j,none⟩=false
 b:ah w w'
theorem mD.call{w:World}{X:Nat}{a:Option Addr}{n cap B:Nat}{t:Int}{q:Nat->PD}{y:VD}{u v:World}(h:mD w X a n cap B t q y u)(hb:ah u v):mD w X a n cap B t q y v:=
 ⟨h.x.call hb,Nat.lt_of_lt_of_le h.lt hb.size,fun j=>(hb.cell (p:=⟨w.heap.size,j,none⟩) h.lt).trans (h.k j),Nat.lt_of_lt_of_le h.r hb.size,fun j hj=>by
  obtain⟨v,hv⟩:=h.rc j hj;exact⟨v,(hb.cell (p:=⟨w.heap.size+1,j,none⟩) h.r).trans hv⟩,fun j=>(hb.frozen (p:=⟨w.heap.size+1,j,none⟩) h.r).trans (h.rf j),aH h.b hb⟩
theorem mD.cells{w:World}{X:Nat}{a:Option Addr}{n cap B:Nat}{t:Int}{q:Nat->PD}{y:VD}{w':World}(h:mD w X a n cap B t q y w'):w'.cell? ⟨X,0,none⟩=some (.slice a n cap)/\w'.cell? ⟨X,1,none⟩=some (.map (some B))/\w'.cell? ⟨w.heap.size,0,none⟩=some (.int .i64 y.k)/\w'.cell? ⟨w.heap.size,1,none⟩=some (.int .i64 y.n)/\w'.cell? ⟨w.heap.size,2,none⟩=some (.float .f64 y.f)/\w'.cell? ⟨w.heap.size,3,none⟩=some (.string y.s)/\w'.cell? ⟨w.heap.size,4,none⟩=some (.int .i64 y.r):=
 ⟨h.x.c0,h.x.c1,h.k 0,h.k 1,h.k 2,h.k 3,h.k 4⟩
theorem mD.new{w:World}{X:Nat}{a:Option Addr}{n cap B:Nat}{t:Int}{q:Nat->PD}(y:VD)(h:oM w X a n cap B t q):mD w X a n cap B t q y ((w.alloc (.cells #[.int .i64 y.k,.int .i64 y.n,.float .f64 y.f,.string y.s,.int .i64 y.r] 53)).alloc (.cells #[.int .i64 0,.int .i64 0,.float .f64 0,.string ⟨#[]⟩,.int .i64 0] 53)):=
 ⟨(h.alloc _).alloc _,by simp;omega,fun j=>by rw[World.cell?_alloc_lt _ _ _ (by simp)];exact World.cell?_alloc_new _ _ _ j,by simp,fun j hj=>by
  have:=World.cell?_alloc_new (w.alloc (.cells #[.int .i64 y.k,.int .i64 y.n,.float .f64 y.f,.string y.s,.int .i64 y.r] 53)) #[.int .i64 0,.int .i64 0,.float .f64 0,.string ⟨#[]⟩,.int .i64 0] 53 j;simp only[World.size_alloc] at this;rw[this];rcases(show j=0\/j=1\/j=2\/j=3\/j=4 by omega) with rfl|rfl|rfl|rfl|rfl<;>exact⟨_,rfl⟩,fun j=>by simp,iy _ _ _⟩
abbrev gw(w:World)(y:VD):World:=((w.alloc (.cells #[.int .i64 y.k,.int .i64 y.n,.float .f64 y.f,.string y.s,.int .i64 y.r] 53)).alloc (.cells #[.int .i64 0,.int .i64 0,.float .f64 0,.string ⟨#[]⟩,.int .i64 0] 53))
theorem zk{B blk:Nat}{a w:World}(h:Below B a w)(hp:B<=blk)(v0 v1 v2 v3 v4 v5 v6 v7 v8 v9 v10:Value):Below B a (((((((((((w.setCell ⟨blk,0,none⟩ v0).setCell ⟨blk,1,none⟩ v1).setCell ⟨blk,2,none⟩ v2).setCell ⟨blk,3,none⟩ v3).setCell ⟨blk,4,none⟩ v4).setCell ⟨blk,5,none⟩ v5).setCell ⟨blk,6,none⟩ v6).setCell ⟨blk,7,none⟩ v7).setCell ⟨blk,8,none⟩ v8).setCell ⟨blk,9,none⟩ v9).setCell ⟨blk,10,none⟩ v10):=
 st1 (st1 (st1 (st1 (st1 (st1 (st1 (st1 (st1 (st1 (st1 h hp v0) hp v1) hp v2) hp v3) hp v4) hp v5) hp v6) hp v7) hp v8) hp v9) hp v10
theorem Zl(X:Nat)(a:Option Addr)(n cap B:Nat)(t:Int)(q:Nat->PD)(y:VD)(w:World)(hok:KL n t q)(hX:oM w X a n cap B t q):Calls Tryz.prog 155 #[.pointer (some ⟨X,0,none⟩),y.v] w fun e w'=>e=.returned (gt q (mk y) n).val.v/\ah w w':=by
 have hS:mD w X a n cap B t q y ((w.alloc (.cells #[.int .i64 y.k,.int .i64 y.n,.float .f64 y.f,.string y.s,.int .i64 y.r] 53)).alloc (.cells #[.int .i64 0,.int .i64 0,.float .f64 0,.string ⟨#[]⟩,.int .i64 0] 53)):=mD.new y hX;have hL:Hid (∀w a B,Tab w a n q->dF w B (places q n)->Calls Tryz.prog 187 #[.slice a n cap,.map (some B),mkV (mk y)] w fun e w'=>e=.returned (.tuple #[LM (gt q (mk y) n),.bool (nK q (mk y) n).isSome])/\ah w w'):=fun w a B h1 h2=>z68 a n cap B t q (mk y) w hok h1 h2;generalize gt q (mk y) n=p at hL ⊢;generalize (nK q (mk y) n).isSome=ob at hL;have hM:Hid (∀w,Calls Tryz.prog 188 #[y.v] w fun e w'=>e=.returned (mkV (mk y))/\ah w w'):=fun w=>PO y w;generalize mk y=m at hL hM;clear hok hX;have HS:Hid (mD w X a n cap B t q y (gw w y)):=hS;have Hb:Hid (Below (gw w y).heap.size (gw w y) (gw w y)):=Below.refl _ _;clear hS;go_in;go_wp2_with fail
 go_region_held3 (fun w'=>w'.cell? ⟨X,0,none⟩=some (.slice a n cap)/\w'.cell? ⟨X,1,none⟩=some (.map (some B))/\w'.cell? ⟨w.heap.size,0,none⟩=some (.int .i64 y.k)/\w'.cell? ⟨w.heap.size,1,none⟩=some (.int .i64 y.n)/\w'.cell? ⟨w.heap.size,2,none⟩=some (.float .f64 y.f)/\w'.cell? ⟨w.heap.size,3,none⟩=some (.string y.s)/\w'.cell? ⟨w.heap.size,4,none⟩=some (.int .i64 y.r)) (first|(with_reducible exact(HS.out.call Hb.out).cells)|(with_reducible exact(HS.out.call Hb.out.drew).cells)|(with_reducible exact(HS.out.call (lW Hb.out _)).cells)|(with_reducible exact(HS.out.call (lW Hb.out _).drew).cells)|(with_reducible exact(HS.out.call (lW Hb.out.drew _)).cells)|(with_reducible exact(HS.out.call (zk Hb.out (by first|exact Nat.le_refl _|(simp;omega)|simp) _ _ _ _ _ _ _ _ _ _ _)).cells)|(with_reducible exact(HS.out.call (zk Hb.out (by first|exact Nat.le_refl _|(simp;omega)|simp) _ _ _ _ _ _ _ _ _ _ _).drew).cells)) (first|(go_at_call 188;refine(hM.out _).mono ?_;rintro e w2 ⟨rfl,hb2⟩;obtain⟨hc2,hf2⟩:=bY hb2;have hz2:=hb2.size;(try simp at hz2);(try have hy2:=Nat.lt_of_succ_le hz2);replace Hb:Hid (Below (gw w y).heap.size (gw w y) w2):=(by first|exact aH Hb.out hb2|exact aH Hb.out.drew hb2|exact aH (lW Hb.out _) hb2|exact aH (lW Hb.out _).drew hb2|exact aH (lW Hb.out.drew _) hb2);clear hb2)|(go_at_call 187;refine(hL.out _ a B (by first|exact(HS.out.call Hb.out).x.tab|exact(HS.out.call Hb.out.drew).x.tab|exact(HS.out.call (lW Hb.out _)).x.tab|exact(HS.out.call (lW Hb.out _).drew).x.tab|exact(HS.out.call (lW Hb.out.drew _)).x.tab) (by first|exact(HS.out.call Hb.out).x.map|exact(HS.out.call Hb.out.drew).x.map|exact(HS.out.call (lW Hb.out _)).x.map|exact(HS.out.call (lW Hb.out _).drew).x.map|exact(HS.out.call (lW Hb.out.drew _)).x.map)).mono ?_;rintro e w3 ⟨rfl,hb3⟩;obtain⟨hc3,hf3⟩:=bY hb3;have hz3:=hb3.size;(try simp at hz3);(try have hy3:=Nat.lt_of_succ_le hz3);replace Hb:Hid (Below (gw w y).heap.size (gw w y) w3):=(by first|exact aH Hb.out hb3|exact aH Hb.out.drew hb3|exact aH (lW Hb.out _) hb3|exact aH (lW Hb.out _).drew hb3|exact aH (lW Hb.out.drew _) hb3);clear hb3))
 all_goals have G:=HS.call Hb.out
 all_goals obtain⟨v0,r0⟩:=G.rc 0 (by omega)
 all_goals obtain⟨v1,r1⟩:=G.rc 1 (by omega)
 all_goals obtain⟨v2,r2⟩:=G.rc 2 (by omega)
 all_goals obtain⟨v3,r3⟩:=G.rc 3 (by omega)
 all_goals obtain⟨v4,r4⟩:=G.rc 4 (by omega)
 all_goals have rf:=G.rf
 all_goals have rr:=G.r
 all_goals have GB:Hid (ah w w3):=G.b
 all_goals clear G HS Hb
 all_goals try have n1:w.heap.size+1≠w2.heap.size:=by omega
 all_goals try have n2:w2.heap.size≠w.heap.size+1:=by omega
 all_goals try have n3:w.heap.size+1≠w3.heap.size:=by omega
 all_goals try have n4:w3.heap.size≠w.heap.size+1:=by omega
 all_goals have p1:w.heap.size<=w.heap.size+1:=Nat.le_add_right _ _
 all_goals go_wp2_with fail
 ·exact bodyPost_ret (v:=p.val.v) (by simp[results,Tryz.results155,go_sem,r0,r1,r2,r3,r4,rr]) rfl ⟨rfl,lW (lU GB.out p1 _ _ _ _ _) _⟩
 ·exact bodyPost_ret (v:=p.val.v) (by simp[results,Tryz.results155,go_sem,r0,r1,r2,r3,r4]) rfl ⟨rfl,lU (zk GB.out (by omega) _ _ _ _ _ _ _ _ _ _ _) p1 _ _ _ _ _⟩
 ·exact bodyPost_ret (v:=p.val.v) (by simp[results,Tryz.results155,go_sem,r0,r1,r2,r3,r4]) rfl ⟨rfl,lU (zk GB.out (by omega) _ _ _ _ _ _ _ _ _ _ _) p1 _ _ _ _ _⟩
end
end Go.Proofs.YtihnikeikhjndaaGreatDoor
