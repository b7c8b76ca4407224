import Derived.Test.YthnkncpegihbhaaGreatDoorMapS
import Derived.Deep.Slices
set_option maxRecDepth 100000
set_option maxHeartbeats 16000000
namespace Go.Proofs.YthnkncpegihbhaaGreatDoor
section
open Go.RowKit
attribute [local go_sem] iD
def cellsOf(q:Nat->PD)(n:Nat):List Value:=(List.range (n*11)).map (fl q)
end
section
open Go.RowKit
attribute [local go_sem] iD
attribute [local go_sem ↓] Go.wp_at_zero Go.wp_at_succ
def MP(q:Nat->PD):Nat->Int
 |0=>0
 |i+1=>(q i).turn
def V9(q:Nat->PD)(t:Int)(i:Nat):Bool:=Et (q i) && decide (MP q i<(q i).turn) && decide ((q i).turn<=t)
structure xM(n:Nat)(t:Int)(q:Nat->PD):Prop where
 nn:n<=500
 t0:0<=t
 t1:t<=1000000000000
 row:∀i,i<n->V9 q t i=true
 key:∀i j,j<i->i<n->mk (q j).key≠mk (q i).key
end
section
open Go.RowKit
def rP(q:Nat->PD)(m:Mk):Nat->Option Nat
 |0=>none
 |n+1=>match rP q m n with
  |some i=>some i
  |none=>if mk (q n).key=m then some n else none
theorem yn1(q:Nat->PD)(m:Mk)(n:Nat):rP q m (n+1)=match rP q m n with
  |some i=>some i
  |none=>if mk (q n).key=m then some n else none:=rfl
theorem RV{q:Nat->PD}{m:Mk}:∀{n:Nat},(∀i,i<n->mk (q i).key≠m)->rP q m n=none
 |0,_=>rfl
 |n+1,h=>by
  unfold rP;rw[RV fun i hi=>h i (by omega)];simp[h n (by omega)]
theorem Zi{q:Nat->PD}{m:Mk}{i:Nat}(he:mk (q i).key=m)(hl:∀j,j<i->mk (q j).key≠m):∀{n:Nat},i<n->rP q m n=some i
 |0,h=>by omega
 |n+1,h=>by
  unfold rP;by_cases c:i=n
  ·subst c;rw[RV hl];simp[he]
  ·rw[Zi he hl (show i<n by omega)]
theorem yt8{q:Nat->PD}{m:Mk}:∀{n i:Nat},rP q m n=some i->i<n/\mk (q i).key=m
 |0,_,h=>by simp[rP] at h
 |n+1,i,h=>by
  unfold rP at h
  cases c:rP q m n with
  |some j=>
   rw[c] at h;simp at h;subst h;have:=yt8 c;exact⟨by omega,this.2⟩
  |none=>
   rw[c] at h;simp at h;obtain⟨h1,rfl⟩:=h;exact⟨by omega,h1⟩
theorem yc6:∀(L L':List (Mk×Nat)) (m:Mk),idx (L++L') m=match idx L m with
  |some p=>some p
  |none=>(idx L' m).map fun p=>(p.1+L.length,p.2)
 |[],L',m=>by simp[idx]
 |(m',j) :: L,L',m=>by
  by_cases c:m=m'
  ·simp[idx,c]
  ·simp only[List.cons_append,idx,au c,yc6 L L' m]
   cases idx L m with
   |some p=>rfl
   |none=>simp;cases idx L' m<;>simp;omega
theorem z49(q:Nat->PD)(m:Mk):∀n,idx ((List.range n).map fun i=>(mk (q i).key,i)) m=(rP q m n).map fun i=>(i,i)
 |0=>rfl
 |n+1=>by
  rw[bU,bH,yc6,z49 q m n,yn1]
  cases rP q m n with
  |some i=>rfl
  |none=>
   by_cases c:m=mk (q n).key
   ·simp[idx,c]
   ·simp[idx,c,bK c]
theorem yt3{n:Nat}{t:Int}{q:Nat->PD}(h:xM n t q)(m:Mk):idx (places q n) m=(rP q m n).map fun i=>(i,i):=by
 rw[z34 q n h.key,z49]
end
section
open Go.RowKit
attribute [local go_sem] iD
attribute [local go_sem ↓] Go.wp_at_zero Go.wp_at_succ
def pz:PD:=⟨vz,vz,0⟩
def gt(q:Nat->PD)(m:Mk)(n:Nat):PD:=match rP q m n with
 |some i=>q i
 |none=>pz
theorem NC{w:World}{b n cap:Nat}{t:TypeId}{a:Option Addr}{q:Nat->PD}(h:w.ownsRow b t 11 (.slice a n cap) n (cellsOf q n)):Tab w a n q:=fun hn=>by
 obtain⟨_,h2⟩:=h;rcases h2 with⟨_,h0⟩|⟨g,cap',cur,e,_,hh,_,_,hs,ht⟩
 ·omega
 ·cases e;refine⟨g,0,rfl,(aA.1 hh).1,fun i hi j hj=>?_⟩;have gK:i*11+j<n*11:=by omega
  have h1:cur.toList[i*11+j]?=some (fl q (i*11+j)):=by
   have h3:(cur.toList.take (n*11))[i*11+j]?=cur.toList[i*11+j]?:=by rw[List.getElem?_take,aO gK]
   rw[<-h3,ht];simp[cellsOf,gK]
  rw[Nat.zero_add,Aq q i j hj] at *;have h4:w.cell? ⟨g,i*11+j,none⟩=cur[i*11+j]?:=by simp[World.cell?,hh]
  rw[h4,y92 _ _ hj,<-h1];simp
theorem zg2(a:Option Addr)(n cap B:Nat)(t:Int)(q:Nat->PD)(m:Mk)(w:World)(hok:xM n t q)(hT:Tab w a n q)(hM:iZ w B (places q n)):Calls Tryz.prog 185 #[.slice a n cap,.map (some B),mkV m] w fun e w'=>e=.returned (.tuple #[uS (gt q m n),.bool (rP q m n).isSome])/\gZ w w':=by
 have HT:Hid (Tab w a n q):=hT;have hn:=hok.nn;obtain⟨m1,m2,m3,m4,m5⟩:=m;have hlk:=fun o1 o2=>z43 Tryz.underlying242 Rx ((hM.alloc o1).alloc o2) (m1,m2,m3,m4,m5) (Tryz.zeroValue3 _);rw[yt3 hok] at hlk;have p1:w.heap.size<=w.heap.size+1:=aZ _ _;unfold gt
 cases hf:rP q (m1,m2,m3,m4,m5) n with
 |none=>
  rw[hf] at hlk;simp only[Option.map_none,Option.getD_none,Option.isSome_none] at hlk;go_in;go_wp2_with fail;exact aG (v:=.tuple #[uS pz,.bool false]) (by simp[results,Tryz.results185,go_sem,pz,vz]) rfl ⟨rfl,kF _ _ _⟩
 |some i=>
  rw[hf] at hlk;simp only[Option.map_some,Option.getD_some,Option.isSome_some] at hlk;have hi:=(yt8 hf).1;obtain⟨b,off,rfl,hb,hc⟩:=HT.out (by omega);have hc':∀o1 o2:Obj,∀j,j<11->((w.alloc o1).alloc o2).cell? ⟨b,off+i*11+j,none⟩=(uj (q i))[j]?:=fun o1 o2 j hj=>by
   rw[dR _ _ _ (by simp;omega),dR _ _ _ hb];exact hc i hi j hj
  have d0:=fun o1 o2=>hc' o1 o2 0 (by omega);have d1:=fun o1 o2=>hc' o1 o2 1 (by omega);have d2:=fun o1 o2=>hc' o1 o2 2 (by omega);have d3:=fun o1 o2=>hc' o1 o2 3 (by omega);have d4:=fun o1 o2=>hc' o1 o2 4 (by omega);have d5:=fun o1 o2=>hc' o1 o2 5 (by omega);have d6:=fun o1 o2=>hc' o1 o2 6 (by omega);have d7:=fun o1 o2=>hc' o1 o2 7 (by omega);have d8:=fun o1 o2=>hc' o1 o2 8 (by omega);have d9:=fun o1 o2=>hc' o1 o2 9 (by omega);have d10:=fun o1 o2=>hc' o1 o2 10 (by omega);simp only[List.getElem?_toArray,List.getElem?_cons_zero,List.getElem?_cons_succ,Nat.add_zero] at d0 d1 d2 d3 d4 d5 d6 d7 d8 d9 d10;go_in;go_wp2_with fail;exact aG (v:=.tuple #[uS (q i),.bool true]) (by simp[results,Tryz.results185,go_sem]) rfl ⟨rfl,kF _ _ _⟩
structure qQ(w:World)(b:Nat)(a:Option Addr)(n cap B:Nat)(t:Int)(q:Nat->PD):Prop where
 lt:b<w.heap.size
 c0:w.cell? ⟨b,0,none⟩=some (.slice a n cap)
 c1:w.cell? ⟨b,1,none⟩=some (.map (some B))
 c2:w.cell? ⟨b,2,none⟩=some (.int .i64 t)
 tab:Tab w a n q
 map:iZ w B (places q n)
theorem qQ.call{u w:World}{b:Nat}{a:Option Addr}{n cap B:Nat}{t:Int}{q:Nat->PD}(h:qQ u b a n cap B t q)(hb:gZ u w):qQ w b a n cap B t q:=
 ⟨aH h.lt hb.size,(hb.cell (p:=⟨b,0,none⟩) h.lt).trans h.c0,(hb.cell (p:=⟨b,1,none⟩) h.lt).trans h.c1,(hb.cell (p:=⟨b,2,none⟩) h.lt).trans h.c2,h.tab.below hb,h.map.below hb⟩
theorem qQ.alloc{w:World}{b:Nat}{a:Option Addr}{n cap B:Nat}{t:Int}{q:Nat->PD}(h:qQ w b a n cap B t q)(o:Obj):qQ (w.alloc o) b a n cap B t q:=h.call (q01 w o)
structure tZ(w:World)(X:Nat)(a:Option Addr)(n cap B:Nat)(t:Int)(q:Nat->PD)(y:VD)(w':World):Prop where
 x:qQ w' X a n cap B t q
 lt:w.heap.size<w'.heap.size
 k:∀j,w'.cell? ⟨w.heap.size,j,none⟩=(#[.int .i64 y.k,.int .i64 y.n,.float .f64 y.f,.string y.s,.int .i64 y.r]:Array Value)[j]?
 r:w.heap.size+1<w'.heap.size
 rc:∀j,j<5->∃v,w'.cell? ⟨w.heap.size+1,j,none⟩=some v
 rf:∀j,w'.frozen? ⟨w.heap.size+1,j,none⟩=false
 b:gZ w w'
theorem tZ.call{w:World}{X:Nat}{a:Option Addr}{n cap B:Nat}{t:Int}{q:Nat->PD}{y:VD}{u v:World}(h:tZ w X a n cap B t q y u)(hb:gZ u v):tZ w X a n cap B t q y v:=
 ⟨h.x.call hb,aH h.lt hb.size,fun j=>(hb.cell (p:=⟨w.heap.size,j,none⟩) h.lt).trans (h.k j),aH h.r hb.size,fun j hj=>by
  obtain⟨v,hv⟩:=h.rc j hj;exact⟨v,(hb.cell (p:=⟨w.heap.size+1,j,none⟩) h.r).trans hv⟩,fun j=>(hb.frozen (p:=⟨w.heap.size+1,j,none⟩) h.r).trans (h.rf j),iq h.b hb⟩
theorem tZ.cells{w:World}{X:Nat}{a:Option Addr}{n cap B:Nat}{t:Int}{q:Nat->PD}{y:VD}{w':World}(h:tZ w X a n cap B t q y w'):w'.cell? ⟨X,0,none⟩=some (.slice a n cap)/\w'.cell? ⟨X,1,none⟩=some (.map (some B))/\w'.cell? ⟨w.heap.size,0,none⟩=some (.int .i64 y.k)/\w'.cell? ⟨w.heap.size,1,none⟩=some (.int .i64 y.n)/\w'.cell? ⟨w.heap.size,2,none⟩=some (.float .f64 y.f)/\w'.cell? ⟨w.heap.size,3,none⟩=some (.string y.s)/\w'.cell? ⟨w.heap.size,4,none⟩=some (.int .i64 y.r):=
 ⟨h.x.c0,h.x.c1,h.k 0,h.k 1,h.k 2,h.k 3,h.k 4⟩
theorem tZ.new{w:World}{X:Nat}{a:Option Addr}{n cap B:Nat}{t:Int}{q:Nat->PD}(y:VD)(h:qQ w X a n cap B t q):tZ w X a n cap B t q y ((w.alloc (.cells #[.int .i64 y.k,.int .i64 y.n,.float .f64 y.f,.string y.s,.int .i64 y.r] 61)).alloc (.cells #[.int .i64 0,.int .i64 0,.float .f64 0,.string ⟨#[]⟩,.int .i64 0] 61)):=
 ⟨(h.alloc _).alloc _,by simp;omega,fun j=>by rw[dR _ _ _ (by simp)];exact dh _ _ _ j,by simp,fun j hj=>by
  have:=dh (w.alloc (.cells #[.int .i64 y.k,.int .i64 y.n,.float .f64 y.f,.string y.s,.int .i64 y.r] 61)) #[.int .i64 0,.int .i64 0,.float .f64 0,.string ⟨#[]⟩,.int .i64 0] 61 j;simp only[aN] at this;rw[this];rcases(show j=0\/j=1\/j=2\/j=3\/j=4 by omega) with rfl|rfl|rfl|rfl|rfl<;>exact⟨_,rfl⟩,fun j=>by simp,kF _ _ _⟩
abbrev gw(w:World)(y:VD):World:=((w.alloc (.cells #[.int .i64 y.k,.int .i64 y.n,.float .f64 y.f,.string y.s,.int .i64 y.r] 61)).alloc (.cells #[.int .i64 0,.int .i64 0,.float .f64 0,.string ⟨#[]⟩,.int .i64 0] 61))
theorem DX{B blk:Nat}{a w:World}(h:Below B a w)(hp:B<=blk)(v0 v1 v2 v3 v4 v5 v6 v7 v8 v9 v10:Value):Below B a (((((((((((w.setCell ⟨blk,0,none⟩ v0).setCell ⟨blk,1,none⟩ v1).setCell ⟨blk,2,none⟩ v2).setCell ⟨blk,3,none⟩ v3).setCell ⟨blk,4,none⟩ v4).setCell ⟨blk,5,none⟩ v5).setCell ⟨blk,6,none⟩ v6).setCell ⟨blk,7,none⟩ v7).setCell ⟨blk,8,none⟩ v8).setCell ⟨blk,9,none⟩ v9).setCell ⟨blk,10,none⟩ v10):=
 st1 (st1 (st1 (st1 (st1 (st1 (st1 (st1 (st1 (st1 (st1 h hp v0) hp v1) hp v2) hp v3) hp v4) hp v5) hp v6) hp v7) hp v8) hp v9) hp v10
theorem ZM(X:Nat)(a:Option Addr)(n cap B:Nat)(t:Int)(q:Nat->PD)(y:VD)(w:World)(hok:xM n t q)(hX:qQ w X a n cap B t q):Calls Tryz.prog 153 #[.pointer (some ⟨X,0,none⟩),y.v] w fun e w'=>e=.returned (gt q (mk y) n).val.v/\gZ w w':=by
 have hS:tZ w X a n cap B t q y ((w.alloc (.cells #[.int .i64 y.k,.int .i64 y.n,.float .f64 y.f,.string y.s,.int .i64 y.r] 61)).alloc (.cells #[.int .i64 0,.int .i64 0,.float .f64 0,.string ⟨#[]⟩,.int .i64 0] 61)):=tZ.new y hX;have hL:Hid (∀w a B,Tab w a n q->iZ w B (places q n)->Calls Tryz.prog 185 #[.slice a n cap,.map (some B),mkV (mk y)] w fun e w'=>e=.returned (.tuple #[uS (gt q (mk y) n),.bool (rP q (mk y) n).isSome])/\gZ w w'):=fun w a B h1 h2=>zg2 a n cap B t q (mk y) w hok h1 h2;generalize gt q (mk y) n=p at hL ⊢;generalize (rP q (mk y) n).isSome=ob at hL;have hM:Hid (∀w,Calls Tryz.prog 186 #[y.v] w fun e w'=>e=.returned (mkV (mk y))/\gZ w w'):=fun w=>SH y w;generalize mk y=m at hL hM;have HS:Hid (tZ w X a n cap B t q y (gw w y)):=hS;have Hb:Hid (Below (gw w y).heap.size (gw w y) (gw w y)):=ay _ _;go_in;go_wp2_with fail
 go_region_held3 (fun w'=>w'.cell? ⟨X,0,none⟩=some (.slice a n cap)/\w'.cell? ⟨X,1,none⟩=some (.map (some B))/\w'.cell? ⟨w.heap.size,0,none⟩=some (.int .i64 y.k)/\w'.cell? ⟨w.heap.size,1,none⟩=some (.int .i64 y.n)/\w'.cell? ⟨w.heap.size,2,none⟩=some (.float .f64 y.f)/\w'.cell? ⟨w.heap.size,3,none⟩=some (.string y.s)/\w'.cell? ⟨w.heap.size,4,none⟩=some (.int .i64 y.r)) (first|(with_reducible exact(HS.out.call Hb.out).cells)|(with_reducible exact(HS.out.call Hb.out.drew).cells)|(with_reducible exact(HS.out.call (vT Hb.out _)).cells)|(with_reducible exact(HS.out.call (vT Hb.out _).drew).cells)|(with_reducible exact(HS.out.call (vT Hb.out.drew _)).cells)|(with_reducible exact(HS.out.call (DX Hb.out (by first|exact ah _|(simp;omega)|simp) _ _ _ _ _ _ _ _ _ _ _)).cells)|(with_reducible exact(HS.out.call (DX Hb.out (by first|exact ah _|(simp;omega)|simp) _ _ _ _ _ _ _ _ _ _ _).drew).cells)) (first|(go_at_call 186;refine(hM.out _).mono ?_;rintro e w2 ⟨rfl,eG⟩;obtain⟨hc2,hf2⟩:=iW eG;have hz2:=eG.size;(try simp at hz2);(try have hy2:=Nat.lt_of_succ_le hz2);replace Hb:Hid (Below (gw w y).heap.size (gw w y) w2):=(by first|exact iq Hb.out eG|exact iq Hb.out.drew eG|exact iq (vT Hb.out _) eG|exact iq (vT Hb.out _).drew eG|exact iq (vT Hb.out.drew _) eG))|(go_at_call 185;refine(hL.out _ a B (by first|exact(HS.out.call Hb.out).x.tab|exact(HS.out.call Hb.out.drew).x.tab|exact(HS.out.call (vT Hb.out _)).x.tab|exact(HS.out.call (vT Hb.out _).drew).x.tab|exact(HS.out.call (vT Hb.out.drew _)).x.tab) (by first|exact(HS.out.call Hb.out).x.map|exact(HS.out.call Hb.out.drew).x.map|exact(HS.out.call (vT Hb.out _)).x.map|exact(HS.out.call (vT Hb.out _).drew).x.map|exact(HS.out.call (vT Hb.out.drew _)).x.map)).mono ?_;rintro e w3 ⟨rfl,eH⟩;obtain⟨hc3,hf3⟩:=iW eH;have hz3:=eH.size;(try simp at hz3);(try have hy3:=Nat.lt_of_succ_le hz3);replace Hb:Hid (Below (gw w y).heap.size (gw w y) w3):=(by first|exact iq Hb.out eH|exact iq Hb.out.drew eH|exact iq (vT Hb.out _) eH|exact iq (vT Hb.out _).drew eH|exact iq (vT Hb.out.drew _) eH)))
 all_goals have G:=HS.call Hb.out
 all_goals obtain⟨v0,r0⟩:=G.rc 0 (by omega)
 all_goals obtain⟨v1,r1⟩:=G.rc 1 (by omega)
 all_goals obtain⟨v2,r2⟩:=G.rc 2 (by omega)
 all_goals obtain⟨v3,r3⟩:=G.rc 3 (by omega)
 all_goals obtain⟨v4,r4⟩:=G.rc 4 (by omega)
 all_goals have rf:=G.rf
 all_goals have rr:=G.r
 all_goals have GB:Hid (gZ w w3):=G.b
 all_goals clear G HS Hb
 all_goals try have n1:w.heap.size+1≠w2.heap.size:=by omega
 all_goals try have n2:w2.heap.size≠w.heap.size+1:=by omega
 all_goals try have n3:w.heap.size+1≠w3.heap.size:=by omega
 all_goals try have n4:w3.heap.size≠w.heap.size+1:=by omega
 all_goals have p1:w.heap.size<=w.heap.size+1:=aZ _ _
 all_goals go_wp2_with fail
 ·exact aG (v:=p.val.v) (by simp[results,Tryz.results153,go_sem,r0,r1,r2,r3,r4,rr]) rfl ⟨rfl,vT (pO GB.out p1 _ _ _ _ _) _⟩
 ·exact aG (v:=p.val.v) (by simp[results,Tryz.results153,go_sem,r0,r1,r2,r3,r4]) rfl ⟨rfl,pO (DX GB.out (by omega) _ _ _ _ _ _ _ _ _ _ _) p1 _ _ _ _ _⟩
 ·exact aG (v:=p.val.v) (by simp[results,Tryz.results153,go_sem,r0,r1,r2,r3,r4]) rfl ⟨rfl,pO (DX GB.out (by omega) _ _ _ _ _ _ _ _ _ _ _) p1 _ _ _ _ _⟩
end
end Go.Proofs.YthnkncpegihbhaaGreatDoor
