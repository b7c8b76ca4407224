import Derived.Test.YthnkncpegihbhaaGreatDoorWnE
import Derived.Deep.Cut
import Derived.Deep.DeepCutAuto
import Derived.Shelf.Abstract
set_option maxRecDepth 100000
set_option maxHeartbeats 16000000
namespace Go.Proofs.YthnkncpegihbhaaGreatDoor
section
open Go.RowKit
attribute [local go_sem] iD
attribute [local go_sem ↓] Go.wp_at_zero Go.wp_at_succ
theorem zo4:(Tryz.prog.info? 272).map (fun i=>(i.zero,i.size,i.bytes))=some (some .nilFunc,1,8):=by kernel_rfl
theorem z48:(Tryz.prog.info? 113).map (fun i=>(i.zero,i.size,i.bytes))=some (some .nilFunc,1,8):=by kernel_rfl
theorem xX(P:Program)(w:World)(a:Addr)(m:Mode)(f:Fn)(x y:Array Value):(store a (.func f x y) m).run P w=stored P w a (.func f x y) m:=run_store P w a _ m rfl
theorem qV(fn:Fn)(first cap:Array Value)(w:World):(Instr.makeFunc fn first cap).run Tryz.prog w=.ok (.func fn first cap) w:=rfl
theorem q32(w:World):gZ w w:=ay _ _
theorem ny{w u:World}(h:gZ w u):gZ w u.drew:=h.drew
theorem q24{w u:World}(h:gZ w u)(o:Obj):gZ w (u.alloc o):=h.alloc h.size o
theorem kD{w u:World}(h:gZ w u){B o:Nat}(v:Value)(hB:w.heap.size<=B):gZ w (u.setCell ⟨B,o,none⟩ v):=h.setCell hB v
theorem OwnB.call{u w:World}{B:Nat}{A:Array Value}(h:OwnB u B A)(hb:gZ u w):OwnB w B A:=h.block hb.size (hb.block _ h.1.1)
theorem OwnB.alloc{u:World}{B:Nat}{A:Array Value}(h:OwnB u B A)(o:Obj):OwnB (u.alloc o) B A:=h.call (q01 _ _)
theorem OwnB.drew{u:World}{B:Nat}{A:Array Value}(h:OwnB u B A):OwnB u.drew B A:=h.call (ay _ _).drew
theorem IK{u:World}{B:Nat}{x v:Value}(h:OwnB u B #[x]):Has (u.setCell ⟨B,0,none⟩ v) B #[v]:=(h.set (o:=0) (by show 0<1;omega) v).1
theorem qc2{u:World}{B C:Nat}{A:Array Value}{o:Nat}{v:Value}(h:Has u C A)(hne:C≠B):Has (u.setCell ⟨B,o,none⟩ v) C A:=⟨by simpa using h.1,fun i=>(ak (a:=⟨C,i,none⟩) (aK _ ⟨B,o,none⟩ v C hne)).trans (h.2 i)⟩
theorem wO{u:World}{B C:Nat}{A:Array Value}{o:Nat}{v:Value}(h:OwnB u C A)(hne:C≠B):OwnB (u.setCell ⟨B,o,none⟩ v) C A:=h.block (by simp) (aK _ ⟨B,o,none⟩ v C hne)
structure Bp(w:World)(B C:Nat)(x y:Value):Prop where
 a:OwnB w B #[x]
 b:OwnB w C #[y]
structure Bo(w:World)(B:Nat)(x:Value):Prop where
 a:OwnB w B #[x]
theorem zM(v:World)(o:Obj)(A:Array Value)(t:TypeId):OwnB ((v.alloc o).alloc (.cells A t)) (v.heap.size+1) A:=by
 have h:=OwnB.new (v.alloc o) A t;rw[aN] at h;exact h
theorem BI(v:World)(o:Obj)(A:Array Value)(t:TypeId):Has ((v.alloc o).alloc (.cells A t)) (v.heap.size+1) A:=(zM v o A t).1
theorem NQ(v:World)(p:Addr)(x:Value)(A:Array Value)(t:TypeId):Has ((v.setCell p x).alloc (.cells A t)) v.heap.size A:=by
 have h:=Has.new (v.setCell p x) A t;rw[World.size_setCell] at h;exact h
theorem box0{v w1:World}{x:Value}{t:TypeId}(hb:Below (v.drew.alloc (.cells #[x] t)).heap.size (v.drew.alloc (.cells #[x] t)) w1):Bo w1 v.heap.size x:=⟨(OwnB.new v.drew #[x] t).call hb⟩
theorem box1{v w1:World}{x:Value}{t:TypeId}(hb:Below (v.alloc (.cells #[x] t)).heap.size (v.alloc (.cells #[x] t)) w1):Bo w1 v.heap.size x:=⟨(OwnB.new v #[x] t).call hb⟩
theorem wX{v w1:World}{x y:Value}{t s:TypeId}(hb:Below ((v.drew.alloc (.cells #[x] t)).alloc (.cells #[y] s)).heap.size ((v.drew.alloc (.cells #[x] t)).alloc (.cells #[y] s)) w1):Bp w1 v.heap.size (v.heap.size+1) x y:=⟨((OwnB.new v.drew #[x] t).alloc _).call hb,(zM v.drew _ #[y] s).call hb⟩
theorem Ce{v w1:World}{x y:Value}{t s:TypeId}(hb:Below ((v.alloc (.cells #[x] t)).alloc (.cells #[y] s)).heap.size ((v.alloc (.cells #[x] t)).alloc (.cells #[y] s)) w1):Bp w1 v.heap.size (v.heap.size+1) x y:=⟨((OwnB.new v #[x] t).alloc _).call hb,(zM v _ #[y] s).call hb⟩
theorem Bp.call{u w:World}{B C:Nat}{x y:Value}(h:Bp u B C x y)(hb:gZ u w):Bp w B C x y:=⟨h.a.call hb,h.b.call hb⟩
theorem Bo.call{u w:World}{B:Nat}{x:Value}(h:Bo u B x)(hb:gZ u w):Bo w B x:=⟨h.a.call hb⟩
theorem Bo.next{u w:World}{B:Nat}{x y:Value}{t:TypeId}(h:Bo u B x)(hb:Below (u.alloc (.cells #[y] t)).heap.size (u.alloc (.cells #[y] t)) w):Bp w B u.heap.size x y:=⟨(h.a.alloc _).call hb,(box1 hb).a⟩
theorem Wh{P:Program}{ops:Array Oper}{o:Oper}{a:Act}{w:World}{K:Act->World->Prop}{Q:Exit->Act->World->Prop}{E:Prop}(hgd:o.guard=none)(f:Nat)(x y:Operand)(t u:TypeId)(ho:o.op=.call {callee:=.value (.func f),args:=#[x,y],argTypes:=#[t,u]})(vx vy:Value)(hx:a.eval x=vx)(hy:a.eval y=vy)(eg:∀args w,(callFunc f args).run P w=.ok (.enter f args) w)(R:Ending->World->Prop)(hc:Calls P f #[vx,vy] w R)(h:∀e w',R e w'->∃v,e=.returned v/\K (a.put o.dst v) w'):if Region.wanted o (yielded ops a.tmps)=true then Oper.wp P o a w K Q else E:=by
 have hw:Region.wanted o (yielded ops a.tmps)=true:=by simp[Region.wanted,hgd]
 rw[aO hw];have e1:(execOp a.eval o).run P w=.ok (.enter f #[vx,vy]) w:=by
  unfold execOp;simp[ho,resolve,invoke,eg,go_sem];exact⟨by simpa[Act.eval] using hx,by simpa[Act.eval] using hy⟩
 unfold Oper.wp;rw[e1,Oper.upon_enter];refine hc.mono ?_;intro e w' hr;obtain⟨v,rfl,hk⟩:=h e w' hr;exact hk
theorem UQ{w w1:World}{A B:Array Value}{s t:TypeId}(hb:Below ((w.alloc (.cells A s)).alloc (.cells B t)).heap.size ((w.alloc (.cells A s)).alloc (.cells B t)) w1):OwnB w1 (w.heap.size+1) B:=by
 have h:=OwnB.new (w.alloc (.cells A s)) B t;rw[aN] at h;exact h.block hb.size (hb.block _ (by simp))
structure BB(M bb:Nat)(d:FD)(x:FA)(w:World):Prop where
 b:Has w bb #[ptr M,.slice x.na d.nn x.nc]
 n:jy 0 w d.nn d.nd x.na x.nas
theorem BB.call{M bb:Nat}{d:FD}{x:FA}{w w':World}(h:BB M bb d x w)(hb:gZ w w'):BB M bb d x w':=⟨h.b.call hb,⟨iF.below h.n.1 hb,fun i hi=>(h.n.2 i hi).below hb⟩⟩
theorem BB.node{M bb:Nat}{d:FD}{x:FA}{w:World}(h:BB M bb d x w){i:Nat}(hi:i<d.nn):∃b off,x.na=some ⟨b,off,none⟩/\b<w.heap.size/\w.cell? ⟨b,off+i*8,none⟩=some (.int .i64 (d.nd i).k)/\w.cell? ⟨b,off+i*8+1,none⟩=some (.int .i64 (d.nd i).l)/\w.cell? ⟨b,off+i*8+2,none⟩=some (.int .i64 (d.nd i).o)/\w.cell? ⟨b,off+i*8+3,none⟩=some (.int .i64 (d.nd i).n)/\w.cell? ⟨b,off+i*8+4,none⟩=some (.float .f64 (d.nd i).f)/\w.cell? ⟨b,off+i*8+5,none⟩=some (.string (d.nd i).s)/\w.cell? ⟨b,off+i*8+6,none⟩=some (.slice (x.nas i).ra (d.nd i).rn (x.nas i).rc)/\w.cell? ⟨b,off+i*8+7,none⟩=some (.slice (x.nas i).ka (d.nd i).kn (x.nas i).kc):=by
 obtain⟨b,off,e,_,h1,h2⟩:=h.n.1 (by omega);have hc:=h2 i hi;exact⟨b,off,e,h1,hc 0 (by omega),hc 1 (by omega),hc 2 (by omega),hc 3 (by omega),hc 4 (by omega),hc 5 (by omega),hc 6 (by omega),hc 7 (by omega)⟩
structure Fr(a b:Nat)(u u':World):Prop where
 s:u.heap.size<=u'.heap.size
 k:∀k,a<=k->k<b->u'.heap[k]?=u.heap[k]?
theorem Fr.refl(a b:Nat)(u:World):Fr a b u u:=⟨ah _,fun _ _ _=>rfl⟩
theorem Fr.call{a b:Nat}{u v v':World}(h:Fr a b u v)(hb:b<=u.heap.size)(k:gZ v v'):Fr a b u v':=⟨aV h.s k.size,fun i h1 h2=>(k.block i (by have:=h.s;omega)).trans (h.k i h1 h2)⟩
theorem Fr.alloc{a b:Nat}{u v:World}(h:Fr a b u v)(hb:b<=u.heap.size)(o:Obj):Fr a b u (v.alloc o):=h.call hb (q01 _ _)
theorem Fr.drew{a b:Nat}{u v:World}(h:Fr a b u v):Fr a b u v.drew:=⟨h.s,h.k⟩
theorem Fr.set{a b:Nat}{u v:World}(h:Fr a b u v){C o:Nat}{x:Value}(hC:C<a\/b<=C):Fr a b u (v.setCell ⟨C,o,none⟩ x):=⟨by simpa using h.s,fun i h1 h2=>(aK _ ⟨C,o,none⟩ x i (by show i≠C;omega)).trans (h.k i h1 h2)⟩
abbrev Rel:=Value->Nat->World->Prop
structure iY(R:Rel):Prop where
 old:∀{v:Value} {n m:Nat} {u:World},R v n u->m<=n->R v m u
 fr:∀{v:Value} {n:Nat} {u u':World},R v n u->Fr n u.heap.size u u'->R v n u'
theorem iY.call{R:Rel}(h:iY R){v:Value}{n:Nat}{u u':World}(r:R v n u)(k:gZ u u'):R v n u':=h.fr r ((Fr.refl _ _ _).call (ah _) k)
structure Nb(n:Nat)(u:World)(B:Nat)(A:Array Value):Prop where
 n:n<=B
 h:Has u B A
theorem Nb.old{n m:Nat}{u:World}{B:Nat}{A:Array Value}(h:Nb n u B A)(k:m<=n):Nb m u B A:=⟨aV k h.n,h.h⟩
theorem Nb.fr{n:Nat}{u u':World}{B:Nat}{A:Array Value}(h:Nb n u B A)(f:Fr n u.heap.size u u'):Nb n u' B A:=⟨h.n,aH h.h.1 f.s,fun o=>(ak (a:=⟨B,o,none⟩) (f.k B h.n h.h.1)).trans (h.h.2 o)⟩
def Mks(R:Rel)(w:World)(e:Ending)(w':World):Prop:=∃f x y,e=.returned (.func f x y)/\R (.func f x y) w.heap.size w'/\gZ w w'
def iP(F bb:Nat)(w:World)(i:Nat)(R:Rel):Prop:=∀u,gZ w u->Calls Tryz.prog F #[ptr bb,.int .i64 (i:Int)] u fun e u'=>Mks R u e u'
theorem iP.call{F bb:Nat}{w w':World}{i:Nat}{R:Rel}(h:iP F bb w i R)(k:gZ w w'):iP F bb w' i R:=fun u hu=>h u (iq k hu)
abbrev X3(a:Nat):Value:=.func (.func 179) #[] #[ptr a]
abbrev X4(a b:Nat):Value:=.func (.func 191) #[] #[ptr a,ptr b]
abbrev X5(a:Nat):Value:=.func (.func 239) #[] #[ptr a]
abbrev O8:Value:=.func (.func 213) #[] #[]
def yR(x:VD):Rel:=fun v n u=>∃B,v=Xf B/\Nb n u B (vA x)
def BF(i:Int):Rel:=fun v n u=>∃B,v=Vt B/\Nb n u B #[.int .i64 i]
def z24:Rel:=fun v _ _=>v=O8
def Hq(R:Rel):Rel:=fun v n u=>∃a x,v=Xa a/\Nb n u a #[x]/\R x n u
def zJ(R:Rel):Rel:=fun v n u=>∃a x,v=X5 a/\Nb n u a #[x]/\R x n u
def F7(R:Rel):Rel:=fun v n u=>∃a x,v=doV a/\Nb n u a #[x]/\R x n u
def je1(R:Rel):Rel:=fun v n u=>∃a x,v=X3 a/\Nb n u a #[x]/\R x n u
def Hl(bb:Nat)(R:Rel):Rel:=fun v n u=>∃a b x,v=Yh a b/\Nb n u a #[x]/\Nb n u b #[ptr bb]/\R x n u
def G7(R S:Rel):Rel:=fun v n u=>∃a b x y,v=j75 a b/\Nb n u a #[x]/\Nb n u b #[y]/\R x n u/\S y n u
def G6(bb:Nat)(R S:Rel):Rel:=fun v n u=>∃a b c x y,v=jd2 a b c/\Nb n u a #[x]/\Nb n u b #[y]/\Nb n u c #[ptr bb]/\R x n u/\S y n u
def E5(m:Nat)(Rs:Nat->Rel):Rel:=fun v n u=>∃(a:Nat) (oa:Option Addr) (oc:Nat) (Vs:Nat->Value),v=jd0 a/\Nb n u a #[.slice oa m oc]/\iF 1 n u oa m (fun j=>#[Vs j])/\(∀j,j<m->Rs j (Vs j) n u)/\(m=0->oa=none/\oc=0)
def pY(bb:Nat)(A:Array Value)(R:Rel):Rel:=fun v n u=>∃a b c x,v=stV a b c/\Nb n u a #[ptr bb]/\Nb n u b A/\Nb n u c #[x]/\R x n u
def Ho(A:Array Value)(R:Rel):Rel:=fun v n u=>∃a b x,v=X4 a b/\Nb n u a A/\Nb n u b #[x]/\R x n u
def xq(m:Nat)(Rs:Nat->Rel):Rel:=fun v n u=>∃(a g gc:Nat) (Vs:Nat->Value),v=ER a/\Nb n u a #[.slice (some ⟨g,0,none⟩) m gc]/\n<=g/\g<u.heap.size/\(∀j,j<m->u.cell? ⟨g,j,none⟩=some (Vs j)/\Rs j (Vs j) n u)
theorem iF.fr{K n m:Nat}{u u':World}{a:Option Addr}{q:Nat->Array Value}(h:iF K n u a m q)(f:Fr n u.heap.size u u'):iF K n u' a m q:=fun h0=>by
 obtain⟨b,off,e,h1,h2,h3⟩:=h h0;exact⟨b,off,e,h1,aH h2 f.s,fun i hi j hj=>(ak (a:=⟨b,off+i*K+j,none⟩) (f.k b h1 h2)).trans (h3 i hi j hj)⟩
theorem qW(x:VD):iY (yR x):=⟨fun⟨B,e,h⟩ k=>⟨B,e,h.old k⟩,fun⟨B,e,h⟩ f=>⟨B,e,h.fr f⟩⟩
theorem yV(i:Int):iY (BF i):=⟨fun⟨B,e,h⟩ k=>⟨B,e,h.old k⟩,fun⟨B,e,h⟩ f=>⟨B,e,h.fr f⟩⟩
theorem UH:iY z24:=⟨fun h _=>h,fun h _=>h⟩
section
variable {R S:Rel}(kr:iY R)(ks:iY S)
include kr
theorem Gh:iY (Hq R):=⟨fun⟨a,x,e,h,r⟩ k=>⟨a,x,e,h.old k,kr.old r k⟩,fun⟨a,x,e,h,r⟩ f=>⟨a,x,e,h.fr f,kr.fr r f⟩⟩
theorem IQ:iY (zJ R):=⟨fun⟨a,x,e,h,r⟩ k=>⟨a,x,e,h.old k,kr.old r k⟩,fun⟨a,x,e,h,r⟩ f=>⟨a,x,e,h.fr f,kr.fr r f⟩⟩
theorem yc2:iY (F7 R):=⟨fun⟨a,x,e,h,r⟩ k=>⟨a,x,e,h.old k,kr.old r k⟩,fun⟨a,x,e,h,r⟩ f=>⟨a,x,e,h.fr f,kr.fr r f⟩⟩
theorem L9(bb:Nat):iY (Hl bb R):=⟨fun⟨a,b,x,e,h,h2,r⟩ k=>⟨a,b,x,e,h.old k,h2.old k,kr.old r k⟩,fun⟨a,b,x,e,h,h2,r⟩ f=>⟨a,b,x,e,h.fr f,h2.fr f,kr.fr r f⟩⟩
theorem Ec(bb:Nat)(A:Array Value):iY (pY bb A R):=⟨fun⟨a,b,c,x,e,h,h2,h3,r⟩ k=>⟨a,b,c,x,e,h.old k,h2.old k,h3.old k,kr.old r k⟩,fun⟨a,b,c,x,e,h,h2,h3,r⟩ f=>⟨a,b,c,x,e,h.fr f,h2.fr f,h3.fr f,kr.fr r f⟩⟩
theorem UG(A:Array Value):iY (Ho A R):=⟨fun⟨a,b,x,e,h,h2,r⟩ k=>⟨a,b,x,e,h.old k,h2.old k,kr.old r k⟩,fun⟨a,b,x,e,h,h2,r⟩ f=>⟨a,b,x,e,h.fr f,h2.fr f,kr.fr r f⟩⟩
include ks
theorem Gm:iY (G7 R S):=⟨fun⟨a,b,x,y,e,h,h2,r,s⟩ k=>⟨a,b,x,y,e,h.old k,h2.old k,kr.old r k,ks.old s k⟩,fun⟨a,b,x,y,e,h,h2,r,s⟩ f=>⟨a,b,x,y,e,h.fr f,h2.fr f,kr.fr r f,ks.fr s f⟩⟩
theorem Lc(bb:Nat):iY (G6 bb R S):=⟨fun⟨a,b,c,x,y,e,h,h2,h3,r,s⟩ k=>⟨a,b,c,x,y,e,h.old k,h2.old k,h3.old k,kr.old r k,ks.old s k⟩,fun⟨a,b,c,x,y,e,h,h2,h3,r,s⟩ f=>⟨a,b,c,x,y,e,h.fr f,h2.fr f,h3.fr f,kr.fr r f,ks.fr s f⟩⟩
end
theorem qc1(m:Nat){Rs:Nat->Rel}(kr:∀j,j<m->iY (Rs j)):iY (E5 m Rs):=⟨fun⟨a,oa,oc,Vs,e,h,h2,h3,h4⟩ k=>⟨a,oa,oc,Vs,e,h.old k,h2.less k,fun j hj=>(kr j hj).old (h3 j hj) k,h4⟩,fun⟨a,oa,oc,Vs,e,h,h2,h3,h4⟩ f=>⟨a,oa,oc,Vs,e,h.fr f,h2.fr f,fun j hj=>(kr j hj).fr (h3 j hj) f,h4⟩⟩
theorem IJ(m:Nat){Rs:Nat->Rel}(kr:∀j,j<m->iY (Rs j)):iY (xq m Rs):=⟨fun⟨a,g,gc,Vs,e,h,h1,h2,h3⟩ k=>⟨a,g,gc,Vs,e,h.old k,aV k h1,h2,fun j hj=>⟨(h3 j hj).1,(kr j hj).old (h3 j hj).2 k⟩⟩,fun⟨a,g,gc,Vs,e,h,h1,h2,h3⟩ f=>⟨a,g,gc,Vs,e,h.fr f,h1,aH h2 f.s,fun j hj=>⟨(ak (a:=⟨g,j,none⟩) (f.k g h1 h2)).trans (h3 j hj).1,(kr j hj).fr (h3 j hj).2 f⟩⟩⟩
def BN(d:ND):VD:=if d.k=23 then inD d.n else⟨8,d.n,0,⟨#[]⟩,0⟩
theorem y29(n:Int)(w:World):Calls Tryz.prog 285 #[.int .i64 n] w fun e w'=>e=.returned (VD.v ⟨8,n,0,⟨#[]⟩,0⟩)/\gZ w w':=by
 go_in;go_wp2_with fail;exact aG (v:=iJ 8 n 0 ⟨#[]⟩ 0) (by simp[results,Tryz.results285,go_sem]) rfl ⟨rfl,q01 _ _⟩
theorem za1(d:ND)(x:NA)(w:World)(hk:d.k=23\/d.k=28):Calls Tryz.prog 231 #[jP d x] w fun e w'=>e=.returned (BN d).v/\gZ w w':=by
 obtain⟨k,hd⟩:∃k,d.k=k:=⟨_,rfl⟩;unfold BN;rw[hd] at hk ⊢;rcases hk with rfl|rfl
 ·rw[aO rfl];go_in;go_wp2_with fail;refine(Wu d.n _).mono ?_;rintro e w1 ⟨rfl,hb⟩;have hO:=UQ hb;have r0:=hO.1.cell 0 rfl;have r1:=hO.1.cell 1 rfl;have r2:=hO.1.cell 2 rfl;have r3:=hO.1.cell 3 rfl;have r4:=hO.1.cell 4 rfl;have rz:=hO.2;have HB:Hid (gZ w w1):=iq (kF _ _ _) hb;go_wp2_with fail;exact aG (v:=iJ 2 d.n 0 ⟨#[]⟩ 0) (by simp[results,Tryz.results231,go_sem,r0,r1,r2,r3,r4]) rfl ⟨rfl,pO HB.out (Nat.le_succ _) _ _ _ _ _⟩
 ·rw[au (by omega)];go_in;go_wp2_with fail;refine(y29 d.n _).mono ?_;rintro e w1 ⟨rfl,hb⟩;have hO:=UQ hb;have r0:=hO.1.cell 0 rfl;have r1:=hO.1.cell 1 rfl;have r2:=hO.1.cell 2 rfl;have r3:=hO.1.cell 3 rfl;have r4:=hO.1.cell 4 rfl;have rz:=hO.2;have HB:Hid (gZ w w1):=iq (kF _ _ _) hb;go_wp2_with fail;exact aG (v:=iJ 8 d.n 0 ⟨#[]⟩ 0) (by simp[results,Tryz.results231,go_sem,r0,r1,r2,r3,r4]) rfl ⟨rfl,pO HB.out (Nat.le_succ _) _ _ _ _ _⟩
theorem qn2(M bb:Nat)(d:FD)(x:FA)(i:Nat)(w:World)(h:BB M bb d x w)(hi:i<d.nn)(hk:(d.nd i).k=23\/(d.nd i).k=28):Calls Tryz.prog 181 #[ptr bb,.int .i64 (i:Int)] w fun e w'=>Mks (yR (BN (d.nd i))) w e w':=by
 have HB:Hid (BB M bb d x w):=h;have b1:=h.b.cell 1 rfl;have hbl:=h.b.1;obtain⟨b,off,e1,hb,c0,c1,c2,c3,c4,c5,c6,c7⟩:=h.node hi;rw[e1] at b1;have HK:Hid ((d.nd i).k=23\/(d.nd i).k=28):=hk;obtain⟨k,hd⟩:∃k,(d.nd i).k=k:=⟨_,rfl⟩;rw[hd] at c0 hk;have hmf:=qV;rcases hk with rfl|rfl;all_goals
  have hl:=fun W=>za1 (d.nd i) (x.nas i) W HK.out;simp only[jP,hd] at hl;go_in;go_wp2_with fail;refine(hl _).mono ?_;rintro e w1 ⟨rfl,eu⟩;have HW:Hid (gZ w w1):=iq (kF _ _ _) eu;go_wp2_with fail;go_ret;exact⟨_,_,_,rfl,⟨w1.heap.size,rfl,HW.size,Has.new _ _ _⟩,HW.alloc HW.size _⟩
theorem zb7(M bb:Nat)(d:FD)(x:FA)(i:Nat)(w:World)(h:BB M bb d x w)(hi:i<d.nn)(hk:(d.nd i).k=26)(hr:0<(d.nd i).rn):Calls Tryz.prog 181 #[ptr bb,.int .i64 (i:Int)] w fun e w'=>Mks (BF ((d.nd i).r 0)) w e w':=by
 have b1:=h.b.cell 1 rfl;have hbl:=h.b.1;obtain⟨b,off,e1,hb,c0,c1,c2,c3,c4,c5,c6,c7⟩:=h.node hi;obtain⟨rb,ro,e2,_,hrb,d0⟩:=jd (h.n.2 i hi).1 hr;simp only[Nat.add_zero] at d0;rw[e1] at b1;rw[e2] at c6;rw[hk] at c0;have hmf:=qV;go_in;go_wp2_with fail;go_ret;refine⟨_,_,_,rfl,⟨w.heap.size+1 + 1,rfl,by omega,?_⟩,xW _ _ _ _⟩;have h3:=Has.new ((w.alloc (.cells #[ptr bb] 114)).alloc (.cells #[.int .i64 26,.int .i64 (d.nd i).l,.int .i64 (d.nd i).o,.int .i64 (d.nd i).n,.float .f64 (d.nd i).f,.string (d.nd i).s,.slice (some ⟨rb,ro,none⟩) (d.nd i).rn (x.nas i).rc,.slice (x.nas i).ka (d.nd i).kn (x.nas i).kc] 48)) #[.int .i64 ((d.nd i).r 0)] 3;rw[aN,aN] at h3;exact h3
end
section
open Go.RowKit
attribute [local go_sem] iD
attribute [local go_sem ↓] Go.wp_at_zero Go.wp_at_succ
attribute [local go_sem] xX
structure xI(t:TypeId)(w:World)(B:Nat)(Rs:Nat->Rel)(k:Nat)(oa:Option Addr)(oc:Nat)(Vs:Nat->Value)(u:World):Prop where
 b:OwnB u B #[.slice oa k oc]
 r:u.ownsRow (w.heap.size+1) t 1 (.slice oa k oc) k ((List.range k).map Vs)
 l:∀j,j<k->∃(n:Nat) (u1:World),Rs j (Vs j) n u1/\w.heap.size<n/\Fr n u1.heap.size u1 u/\u1.heap.size<=u.heap.size/\(∀q,ig oa=some q->q<n\/u1.heap.size<=q)/\B<n
 z:k=0->oa=none/\oc=0
 k:gZ w u
theorem xI.call{t:TypeId}{w:World}{B:Nat}{Rs:Nat->Rel}{k:Nat}{oa:Option Addr}{oc:Nat}{Vs:Nat->Value}{u u':World}(h:xI t w B Rs k oa oc Vs u)(hb:gZ u u'):xI t w B Rs k oa oc Vs u':=
 ⟨h.b.block hb.size (hb.block _ h.b.1.1),q35 h.r hb,fun j hj=>by
  obtain⟨n,u1,h1,h2,h3,h4,h5,h6⟩:=h.l j hj;exact⟨n,u1,h1,h2,h3.call (ah _) hb,aV h4 hb.size,h5,h6⟩,h.z,iq h.k hb⟩
theorem xI.mid{t:TypeId}{w:World}{B:Nat}{Rs:Nat->Rel}{k:Nat}{oa:Option Addr}{oc:Nat}{Vs:Nat->Value}{u w7:World}(h:xI t w B Rs k oa oc Vs u)(hB:w.heap.size=B)(hg:u.grownBy w7 (Value.slice oa k oc).ownBlock):OwnB w7 B #[.slice oa k oc]:=by
 rw[jg] at hg;exact h.b.block hg.size (hg.block _ h.b.1.1 (fun e=>by have:=(jm h.r e.symm).1;omega))
theorem xI.push{t:TypeId}{w:World}{B:Nat}{Rs:Nat->Rel}{k:Nat}{oa:Option Addr}{oc:Nat}{Vs:Nat->Value}{u w7:World}(h:xI t w B Rs k oa oc Vs u)(hB:w.heap.size=B){V v':Value}{n:Nat}{u1:World}(gX:Rs k V n u1)(hn2:w.heap.size<n)(hn3:Fr n u1.heap.size u1 u)(hn4:u1.heap.size<=u.heap.size)(OJ:∀q,ig oa=some q->q<n\/u1.heap.size<=q)(Tv:B<n)(ho:w7.ownsRow (w.heap.size+1) t 1 v' (k+1) (((List.range k).map Vs)++[V]))(hg:u.grownBy w7 (Value.slice oa k oc).ownBlock)(hat:v'.ownBlock=(Value.slice oa k oc).ownBlock\/v'.ownBlock=some u.heap.size):∃nP oc',v'=.slice nP (k+1) oc'/\xI t w B Rs (k+1) nP oc' (fun j=>if j=k then V else Vs j) (w7.setCell ⟨B,0,none⟩ v'):=by
 obtain⟨nP,oc',rfl⟩:=zO ho;rw[jg] at hg;rw[jg,jg] at hat;have hne:∀q,ig nP=some q->q≠B:=fun q e=>by have:=(jm ho e).1;omega
 have Xz:ig oa≠some B:=fun e=>by have:=(jm h.r e).1;omega
 have hmv:∀{n:Nat} {u1:World},Fr n u1.heap.size u1 u->u1.heap.size<=u.heap.size->(∀q,ig oa=some q->q<n\/u1.heap.size<=q)->B<n->Fr n u1.heap.size u1 (w7.setCell ⟨B,0,none⟩ (.slice nP (k+1) oc'))/\u1.heap.size<=(w7.setCell ⟨B,0,none⟩ (.slice nP (k+1) oc')).heap.size/\(∀q,ig nP=some q->q<n\/u1.heap.size<=q):=fun hf hs h2 h3=>by
  refine⟨⟨by have:=hg.size;simp;omega,fun q q1 q2=>?_⟩,by have:=hg.size;simp;omega,fun q e=>?_⟩
  ·refine(aK _ ⟨B,0,none⟩ _ q (by show q≠B;omega)).trans ((hg.block q (by omega) (fun e=>?_)).trans (hf.k q q1 q2));rcases h2 q e.symm with c|c<;>omega
  ·rcases hat with c|c
   ·exact h2 q (c.symm.trans e)
   ·rw[c] at e;have:=aQ e;omega
 refine⟨nP,oc',rfl,?_,?_,fun j hj=>?_,fun e=>absurd e (by omega),?_⟩
 ·have h1:OwnB w7 B #[.slice oa k oc]:=h.b.block hg.size (hg.block _ h.b.1.1 (fun e=>Xz e.symm));exact h1.set (o:=0) (by show 0<1;omega) _
 ·refine q23 ?_ _ (fun q e=>hne q ((jg _ _ _).symm.trans e));have e:((List.range (k+1)).map fun j=>if j=k then V else Vs j)=((List.range k).map Vs)++[V]:=by
   rw[bU,bH];congr 1
   ·refine dU fun j hj=>?_;have:j<k:=by simpa using hj
    rw[au (by omega)]
   ·simp
  rw[e];exact ho
 ·by_cases c:j=k
  ·subst c;rw[aO rfl];obtain⟨m1,m2,m3⟩:=hmv hn3 hn4 OJ Tv;exact⟨n,u1,gX,hn2,m1,m2,m3,Tv⟩
  ·rw[au c];obtain⟨n,u1,h1,h2,h3,h4,h5,h6⟩:=h.l j (by omega);obtain⟨m1,m2,m3⟩:=hmv h3 h4 h5 h6;exact⟨n,u1,h1,h2,m1,m2,m3,h6⟩
 ·exact(h.k.grown hg h.k.size (fun q e=>by have:=(jm h.r e).1;omega)).setCell (by show w.heap.size<=B;omega) _
theorem zm8(bb:Nat)(Rs:Nat->Rel)(a:Option Addr)(n cap:Nat)(ks:Nat->Nat)(w:World)(kp:∀j,j<n->iY (Rs j))(hn:n<=200)(hk:∀j,j<n->iP 181 bb w (ks j) (Rs j))(hR:iF 1 0 w a n fun j=>#[.int .i64 (ks j:Int)]):Calls Tryz.prog 206 #[ptr bb,.slice a n cap] w fun e w'=>Mks (E5 n Rs) w e w':=by
 have uJ:Hid (∀j,j<n->iY (Rs j)):=kp;have HK:Hid (∀j,j<n->iP 181 bb w (ks j) (Rs j)):=hk;have HR:Hid (iF 1 0 w a n fun j=>#[.int .i64 (ks j:Int)]):=hR;have hmf:=qV;go_in;go_wp2_with fail;obtain⟨B,hB⟩:∃B,w.heap.size=B:=⟨_,rfl⟩;have H0:Hid (xI 272 w B Rs 0 none 0 (fun _=>.bool false) (w.alloc (.cells #[.slice none 0 0] 334))):=by
  rw[<-hB];exact⟨OwnB.new _ _ _,aX _ _ _ _,fun j hj=>by omega,fun _=>⟨rfl,rfl⟩,q01 _ _⟩
 have CV:Hid (w.heap.size=B):=hB;rw[hB]
 go_loopw [10] (fun i wr=>∃(k:Nat) (oa:Option Addr) (oc:Nat) (Vs:Nat->Value),k<=n/\i=.int .i64 k/\Hid (xI 272 w B Rs k oa oc Vs wr)) (fun i _=>n-(intOf i).toNat)
 case atStart=>exact⟨0,none,0,fun _=>.bool false,aF _,rfl,H0⟩
 case round=>
  obtain⟨k,oa,oc,Vs,hk,rfl,HO⟩:=hrel;by_cases fE:k<n
  ·obtain⟨rb,ro,e2,_,hrb,d0⟩:=jd (iF.below HR.out HO.k) fE;rw[e2];have b0:=HO.b.1.cell 0 rfl;have bz:=HO.b.2;have hBl:=HO.b.1.1
   go_upto_region 5 with fail
   have AX:Hid (Calls Tryz.prog 181 #[ptr bb,.int .i64 (ks k:Int)] wr.drew fun e u'=>Mks (Rs k) wr.drew e u'):=HK.out k fE _ HO.k.drew;obtain⟨i0,gU,gQ,hy1,hy2⟩:=bT zo4;have XR:=enters_of Tryz.func181 (by kernel_rfl) rfl
   go_region_law (first
    |(refine Wh (by rfl) 181 _ _ _ _ (by rfl) (ptr bb) (.int .i64 (ks k:Int)) (by rfl) (by rfl) XR _ AX.out ?_;rintro e w1 ⟨ff,fx,fy,rfl,gX,eu⟩;refine⟨_,rfl,?_⟩;have pJ:Hid (xI 272 w B Rs k oa oc Vs (w1.alloc (.cells #[.func ff fx fy] 272))):=((HO.call (ay _ _).drew).call eu).call (q01 _ _);obtain⟨v',w7,gq,gB,gY,_,hat⟩:=run_append_own_at (P:=Tryz.prog) (w1.alloc (.cells #[.func ff fx fy] 272)) (w.heap.size+1) 334 334 272 i0 _ 1 8 Tryz.underlying334 gU gQ hy1 hy2 rfl (by decide) (.slice oa k oc) k ((List.range k).map Vs) pJ.r ⟨w1.heap.size,0,none⟩ 1 1 [.func ff fx fy] rfl (cell_one_new _ _ _) (by simp[Value.oneCell']) (by unfold maxLen;omega) (by omega) (by have:=pJ.b.1.1;have:=CV.out;omega);obtain⟨nP,oc',rfl,hp⟩:=pJ.push CV.out gX (by have h9:=CV.out;have h8:B<wr.drew.heap.size:=hBl;omega) ((Fr.refl _ _ _).alloc (ah _) _) (by simp) (fun q e=>.inl (jm HO.r e).2) (by have h8:B<wr.drew.heap.size:=hBl;exact h8) gB gY hat;have HN:Hid (xI 272 w B Rs (k+1) nP oc' (fun j=>if j=k then .func ff fx fy else Vs j) (w7.setCell ⟨B,0,none⟩ (.slice nP (k+1) oc'))):=hp;have b01:=((HO.call (ay _ _).drew).call eu).b.1.cell 0 rfl;have OL:=((HO.call (ay _ _).drew).call eu).b.1.1;have b0':=pJ.b.1.cell 0 rfl;have sH:=pJ.mid CV.out gY;have b7:=sH.1.cell 0 rfl;have z7:=sH.2)
    |(refine xU (by rfl) _ _ _ _ (by rfl) (.slice oa k oc) (.slice (some ⟨w1.heap.size,0,none⟩) 1 1) _ _ (by rfl) (by rfl) gq ?_))
   all_goals
    go_wp2_with fail;go_roundw
    case rel=>exact⟨k+1,nP,oc',_,by omega,by go_num,HN⟩
    case measure=>simp[intOf];omega
  ·obtain rfl:k=n:=by omega
   go_wp2_with fail;go_ret;refine⟨_,_,_,rfl,⟨B,oa,oc,Vs,rfl,⟨Nat.le_of_eq CV,HO.b.1⟩,fun h0=>?_,fun j hj=>?_,HO.z⟩,HO.k⟩
   ·rcases HO.r.2 with⟨_,h1⟩|⟨g,c,cur,e,h1,h2,_⟩
    ·omega
    ·cases e;refine⟨g,0,rfl,by omega,(aA.1 h2).1,fun i hi j hj=>?_⟩;obtain rfl:j=0:=by omega
     have:=HO.r.cells (g:=g) rfl i (Vs i) (by simp[hi]);rw[show 0+i*1+0=i by omega]
     cases i<;>simpa[Addr.add] using this
   ·obtain⟨n,u1,h1,h2,h3,h4,h5,h6⟩:=HO.l j hj;exact(uJ.out j hj).old ((uJ.out j hj).fr h1 h3) (by omega)
theorem za2(bb:Nat)(a:Option Addr)(c:Nat)(w:World):Calls Tryz.prog 178 #[ptr bb,.slice a 0 c] w fun e w'=>Mks z24 w e w':=by
 go_in;go_wp2_with fail;go_ret;exact⟨_,_,_,rfl,rfl,q01 _ _⟩
theorem zn7(bb:Nat)(R S:Rel)(kb ko kc m i:Nat)(w:World)(kr:iY R)(ks:iY S)(hm:m<=300)(gy:m<kc)(hO:∀u c,gZ w u->Calls Tryz.prog 206 #[ptr bb,.slice (some ⟨kb,ko,none⟩) m c] u fun e u'=>Mks R u e u')(hA:iP 171 bb w i S)(hkb:kb<w.heap.size)(hc:w.cell? ⟨kb,ko+m,none⟩=some (.int .i64 (i:Int))):Calls Tryz.prog 178 #[ptr bb,.slice (some ⟨kb,ko,none⟩) (m+1) kc] w fun e w'=>Mks (G6 bb R S) w e w':=by
 have HO:Hid (∀u c,gZ w u->Calls Tryz.prog 206 #[ptr bb,.slice (some ⟨kb,ko,none⟩) m c] u fun e u'=>Mks R u e u'):=hO;have HA:Hid (iP 171 bb w i S):=hA;have uJ:Hid (iY R/\iY S):=⟨kr,ks⟩;have hmf:=qV;have gU:(0:Int)<=(m:Int):=aS _;have hi1:(m:Int)<=(kc:Int):=by omega
 have hi2:(m:Int)<(m:Int)+1:=by omega
 have hm1:((m:Int)<0)=False:=by simp
 have hm2:((m:Int)<=(kc:Int))=True:=by simpa using hi1
 have hi3:(m:Int)<((m+1:Nat):Int):=by omega
 go_in
 go_upto_region 4 with fail
 obtain⟨w0,hw0⟩:∃w0,w.alloc (.cells #[ptr bb] 114)=w0:=⟨_,rfl⟩;have HW0:Hid (gZ w w0/\Has w0 w.heap.size #[ptr bb]/\w0.heap.size=w.heap.size+1):=by rw[<-hw0];exact⟨q01 _ _,Has.new _ _ _,by simp⟩
 have e0:=HW0.2.1.cell 0 rfl;have e1:w0.cell? ⟨kb,ko+m,none⟩=some (.int .i64 (i:Int)):=(HW0.1.cell (p:=⟨kb,ko+m,none⟩) hkb).trans hc;rw[hw0];have XF:kb<w0.heap.size:=by have:=HW0.2.2;omega
 have HC:Hid (∀u,gZ w0 u->u.cell? ⟨w.heap.size,0,none⟩=some (ptr bb)/\u.cell? ⟨kb,ko+m,none⟩=some (.int .i64 (i:Int))):=fun u hu=>⟨(hu.cell (p:=⟨w.heap.size,0,none⟩) HW0.2.1.1).trans e0,(hu.cell (p:=⟨kb,ko+m,none⟩) XF).trans e1⟩
 go_region_held3 (fun u=>u.cell? ⟨w.heap.size,0,none⟩=some (ptr bb)/\u.cell? ⟨kb,ko+m,none⟩=some (.int .i64 (i:Int))) (first|(refine HC.out _ ?_;(repeat(with_reducible first|exact fD.out|exact fB.out|exact q32 _|refine q24 ?_ _|refine ny ?_|refine kD ?_ _ (by have h1:=fB.out.size;have h2:=fD.out.size;omega)));done))
  (first
  |(go_at_call 206;refine(HO.out _ _ (iq HW0.out.1 ?_)).mono ?_;((repeat(with_reducible first|exact fD.out|exact fB.out|exact q32 _|refine q24 ?_ _|refine ny ?_|refine kD ?_ _ (by have h1:=fB.out.size;have h2:=fD.out.size;omega))));rintro e w1 ⟨f1,x1,y1,rfl,fG,eu⟩;obtain⟨n1,gX,gW⟩:∃n1,Hid (n1=_)/\Hid (R (.func f1 x1 y1) n1 w1):=⟨_,rfl,fG⟩;have fB:Hid (gZ w0 w1):=(by refine iq ?_ eu;(repeat(with_reducible first|exact fD.out|exact fB.out|exact q32 _|refine q24 ?_ _|refine ny ?_|refine kD ?_ _ (by have h1:=fB.out.size;have h2:=fD.out.size;omega))));have qc:Hid (_<=w1.heap.size):=eu.size;(first|(have hx:=wX eu;have m1:=hx.b.1.1)|(have hx:=box0 eu;have m1:=hx.a.1.1;have m2:=bI m1;have m3:=bQ m1)|(have hx:=True.intro)))
  |(go_at_call 171;refine(HA.out _ (iq HW0.out.1 ?_)).mono ?_;((repeat(with_reducible first|exact fD.out|exact fB.out|exact q32 _|refine q24 ?_ _|refine ny ?_|refine kD ?_ _ (by have h1:=fB.out.size;have h2:=fD.out.size;omega))));rintro e w2 ⟨f2,x2,y2,rfl,hr2,eG⟩;obtain⟨n2,hn2,HR2⟩:∃n2,Hid (n2=_)/\Hid (S (.func f2 x2 y2) n2 w2):=⟨_,rfl,hr2⟩;have fD:Hid (gZ w0 w2):=(by refine iq ?_ eG;(repeat(with_reducible first|exact fD.out|exact fB.out|exact q32 _|refine q24 ?_ _|refine ny ?_|refine kD ?_ _ (by have h1:=fB.out.size;have h2:=fD.out.size;omega))));have Fe:Hid (Below _ _ w2):=eG;have HS2:Hid (_<=w2.heap.size):=eG.size;(first|(have hy:=Bp.call hx eG)|(have hy:=Bo.next hx eG)|(have hy:=Bo.call hx eG)|(have hy:=Ce eG)|(have hy:=box1 eG)|(have hy:=True.intro));(first|(have c1:=hy.a.1.cell 0 rfl;have z1:=hy.a.2;have l1:=hy.a.1.1;have c2:=hy.b.1.cell 0 rfl;have z2:=hy.b.2;have l2:=hy.b.1.1;have n1':=bI l1;have Ey:=bQ l1;have SQ:=bI l2;have n4':=bQ l2)|(have c1:=hy.a.1.cell 0 rfl;have z1:=hy.a.2;have l1:=hy.a.1.1;have n1':=bI l1;have Ey:=bQ l1)|skip)))
 all_goals
  go_wp2_with fail;go_ret;have e1:=gX.out;have e2:=hn2.out;have s1:=qc.out;have s2:=HS2.out;try simp at e1
  try simp at e2
  try simp at s1
  try simp at s2
  have q1:=fB.size;have q2:=fD.size;have q3:=HW0.2.2;have hB2:=fD.out;have hk9:=HW0.2.1;have hk8:=hk9.call hB2;have r1:=gW.out;have r2:=HR2.out;have hbb:=Fe.out;obtain⟨kr,ks⟩:=uJ.out;refine⟨_,_,_,rfl,⟨_,_,_,_,_,rfl,⟨?_,?_⟩,⟨?_,?_⟩,⟨?_,?_⟩,kr.old (kr.fr r1 ?_) (by omega),ks.old (ks.fr r2 ?_) (by omega)⟩,iq HW0.1 ?_⟩;all_goals(try omega)
  all_goals(repeat(with_reducible first|exact hB2|exact Fr.refl _ _ _|exact Has.new _ _ _|exact BI _ _ _ _|exact NQ _ _ _ _ _|exact hk9|exact hk8|refine Has.alloc ?_ _|refine q24 ?_ _|refine kD ?_ _ (by omega)|exact hy.a|exact hy.b|exact OwnB.new _ _ _|exact zM _ _ _ _|refine OwnB.alloc ?_ _|refine IK (x:=.nilFunc) ?_|refine qc2 ?_ (by omega)|refine wO ?_ (by omega)|refine Fr.set ?_ (by omega)|refine Fr.alloc ?_ (ah _) _|refine Fr.drew ?_|refine Fr.call ?_ (ah _) hbb))
theorem qn6(M bb:Nat)(d:FD)(x:FA)(R:Rel)(n:Nat)(w:World)(h:BB M bb d x w)(kr:iY R)(hn:n<d.nn)(hk:(d.nd n).k=34)(hP:iP 196 bb w n R):Calls Tryz.prog 171 #[ptr bb,.int .i64 (n:Int)] w fun e w'=>Mks (Hl bb R) w e w':=by
 have HP:Hid (iP 196 bb w n R/\iY R):=⟨hP,kr⟩;have b1:=h.b.cell 1 rfl;have hbl:=h.b.1;obtain⟨b,off,e1,hb,c0,c1,c2,c3,c4,c5,c6,c7⟩:=h.node hn;rw[e1] at b1;rw[hk] at c0;have hmf:=qV;go_in;go_wp2_with fail;refine(HP.1 _ (q01 _ _)).mono ?_;rintro e w1 ⟨f1,x1,y1,rfl,fG,eu⟩;have HW:Hid (R (.func f1 x1 y1) (w.heap.size+1) w1/\gZ w w1/\Has w1 w.heap.size #[ptr bb]):=⟨by simpa using fG,iq (q01 _ _) eu,(Has.new _ _ _).call eu⟩;go_wp2_with fail;go_ret;have hs:=HW.2.1.size;exact⟨_,_,_,rfl,⟨w1.heap.size,w.heap.size,_,rfl,⟨hs,Has.new _ _ _⟩,⟨ah _,HW.2.2.alloc _⟩,HP.2.old (HP.2.call HW.1 (q01 _ _)) (by omega)⟩,HW.2.1.alloc hs _⟩
theorem zj7(M bb:Nat)(d:FD)(x:FA)(R:Rel)(n:Nat)(w:World)(h:BB M bb d x w)(kr:iY R)(hn:n<d.nn)(hk:(d.nd n).k=26)(hP:iP 181 bb w n R):Calls Tryz.prog 171 #[ptr bb,.int .i64 (n:Int)] w fun e w'=>Mks (Hq R) w e w':=by
 have HP:Hid (iP 181 bb w n R/\iY R):=⟨hP,kr⟩;have b1:=h.b.cell 1 rfl;have hbl:=h.b.1;obtain⟨b,off,e1,hb,c0,c1,c2,c3,c4,c5,c6,c7⟩:=h.node hn;rw[e1] at b1;rw[hk] at c0;have hmf:=qV;go_in;go_wp2_with fail;refine(HP.1 _ (q01 _ _)).mono ?_;rintro e w1 ⟨f1,x1,y1,rfl,fG,eu⟩;have HW:Hid (R (.func f1 x1 y1) (w.heap.size+1) w1/\gZ w w1):=⟨by simpa using fG,iq (q01 _ _) eu⟩;go_wp2_with fail;go_ret;have hs:=HW.2.size;exact⟨_,_,_,rfl,⟨w1.heap.size,_,rfl,⟨hs,Has.new _ _ _⟩,HP.2.old (HP.2.call HW.1 (q01 _ _)) (by omega)⟩,HW.2.alloc hs _⟩
theorem qk5(bb:Nat)(R:Rel)(kb ko kc i:Nat)(w:World)(kr:iY R)(hc:w.cell? ⟨kb,ko,none⟩=some (.int .i64 (i:Int)))(hE:iP 181 bb w i R):Calls Tryz.prog 190 #[ptr bb,.int .i64 1,.slice (some ⟨kb,ko,none⟩) 1 kc] w fun e w'=>Mks (zJ R) w e w':=by
 have HP:Hid (iP 181 bb w i R/\iY R):=⟨hE,kr⟩;have hmf:=qV;go_in;go_wp2_with fail;refine(HP.1 _ (q32 _)).mono ?_;rintro e w1 ⟨f1,x1,y1,rfl,fG,eu⟩;have HW:Hid (R (.func f1 x1 y1) w.heap.size w1/\gZ w w1):=⟨fG,eu⟩;go_wp2_with fail;go_ret;have hs:=HW.2.size;exact⟨_,_,_,rfl,⟨w1.heap.size,_,rfl,⟨hs,Has.new _ _ _⟩,HP.2.call HW.1 (q01 _ _)⟩,HW.2.alloc hs _⟩
theorem y07(bb:Nat)(R:Rel)(q:ND)(y:NA)(kb ko i:Nat)(w:World)(kr:iY R)(hrn:q.rn=1)(fE:q.kn=1)(hka:y.ka=some ⟨kb,ko,none⟩)(hkb:kb<w.heap.size)(hc:w.cell? ⟨kb,ko,none⟩=some (.int .i64 (i:Int)))(hE:iP 181 bb w i R):Calls Tryz.prog 169 #[ptr bb,jP q y] w fun e w'=>Mks (Ho (kQ q y) (zJ R)) w e w':=by
 have HP:Hid (iP 181 bb w i R/\iY R/\w.cell? ⟨kb,ko,none⟩=some (.int .i64 (i:Int))):=⟨hE,kr,hc⟩;have hmf:=qV;show Calls Tryz.prog 169 #[ptr bb,.agg #[.int .i64 q.k,.int .i64 q.l,.int .i64 q.o,.int .i64 q.n,.float .f64 q.f,.string q.s,.slice y.ra q.rn y.rc,.slice y.ka q.kn y.kc]] w fun e w'=>Mks (Ho (kQ q y) (zJ R)) w e w';have HA:Hid (kQ q y = #[.int .i64 q.k,.int .i64 q.l,.int .i64 q.o,.int .i64 q.n,.float .f64 q.f,.string q.s,.slice y.ra 1 y.rc,.slice (some ⟨kb,ko,none⟩) 1 y.kc]):=by unfold kQ;rw[hrn,fE,hka];exact rfl
 rw[hrn,fE,hka];go_in;go_wp2_with fail;refine(qk5 bb R kb ko _ i _ HP.2.1 ((Below.cell (q01 w _) (p:=⟨kb,ko,none⟩) hkb).trans HP.2.2) (HP.1.call (q01 _ _))).mono ?_;rintro e w1 ⟨f1,x1,y1,rfl,fG,eu⟩;have HW:Hid (zJ R (.func f1 x1 y1) (w.heap.size+1) w1/\gZ w w1/\Has w1 w.heap.size (kQ q y)):=⟨by simpa using fG,iq (q01 _ _) eu,by rw[HA.out];exact(Has.new _ _ _).call eu⟩;go_wp2_with fail;go_ret;have hs:=HW.2.1.size;have kf:=IQ HP.2.1;exact⟨_,_,_,rfl,⟨w.heap.size,w1.heap.size,_,rfl,⟨ah _,HW.2.2.alloc _⟩,⟨hs,Has.new _ _ _⟩,kf.old (kf.call HW.1 (q01 _ _)) (by omega)⟩,HW.2.1.alloc hs _⟩
abbrev y8(k:Int)(q:ND)(y:NA)(ka:Option Addr)(kn:Nat):Array Value:=#[.int .i64 k,.int .i64 q.l,.int .i64 q.o,.int .i64 q.n,.float .f64 q.f,.string q.s,.slice y.ra q.rn y.rc,.slice ka kn y.kc]
theorem yT{q:ND}{y:NA}{k:Int}{ka:Option Addr}{kn:Nat}(h1:q.k=k)(h2:y.ka=ka)(h3:q.kn=kn):jP q y=.agg (y8 k q y ka kn)/\kQ q y=y8 k q y ka kn:=by
 subst h1 h2 h3;exact⟨rfl,rfl⟩
theorem z19(bb:Nat)(S:Rel)(q:ND)(y:NA)(kb ko n:Nat)(w:World)(ks:iY S)(hk:q.k=4)(fE:0<q.kn)(hka:y.ka=some ⟨kb,ko,none⟩)(hkb:kb<w.heap.size)(hc:w.cell? ⟨kb,ko,none⟩=some (.int .i64 (n:Int)))(hA:iP 171 bb w n S):Calls Tryz.prog 144 #[ptr bb,jP q y] w fun e w'=>Mks (F7 S) w e w':=by
 have HP:Hid (iP 171 bb w n S/\iY S):=⟨hA,ks⟩;have hmf:=qV;rw[(yT hk hka rfl).1];have hkn':(0:Int)<(q.kn:Int):=by omega
 go_in
 go_upto_region 7 with fail
 obtain⟨w0,hw0⟩:∃w0,(w.alloc (.cells #[ptr bb] 114)).alloc (.cells (y8 4 q y (some ⟨kb,ko,none⟩) q.kn) 48)=w0:=⟨_,rfl⟩;have HW0:Hid (gZ w w0/\Has w0 w.heap.size #[ptr bb]/\w0.cell? ⟨w.heap.size+1,7,none⟩=some (.slice (some ⟨kb,ko,none⟩) q.kn y.kc)/\w0.heap.size=w.heap.size+2):=by rw[<-hw0];exact⟨kF _ _ _,(Has.new _ _ _).alloc _,(BI _ _ _ _).cell 7 rfl,by simp⟩
 rw[hw0];have HC:Hid (∀u,gZ w0 u->u.cell? ⟨w.heap.size,0,none⟩=some (ptr bb)/\u.cell? ⟨w.heap.size+1,7,none⟩=some (.slice (some ⟨kb,ko,none⟩) q.kn y.kc)/\u.cell? ⟨kb,ko,none⟩=some (.int .i64 (n:Int))):=fun u hu=>⟨(HW0.2.1.call hu).cell 0 rfl,(hu.cell (p:=⟨w.heap.size+1,7,none⟩) (by show w.heap.size+1<w0.heap.size;have:=HW0.2.2.2;omega)).trans HW0.2.2.1,(hu.cell (p:=⟨kb,ko,none⟩) (by show kb<w0.heap.size;have:=HW0.2.2.2;omega)).trans ((HW0.1.cell (p:=⟨kb,ko,none⟩) hkb).trans hc)⟩
 go_region_held3 (fun u=>u.cell? ⟨w.heap.size,0,none⟩=some (ptr bb)/\u.cell? ⟨w.heap.size+1,7,none⟩=some (.slice (some ⟨kb,ko,none⟩) q.kn y.kc)/\u.cell? ⟨kb,ko,none⟩=some (.int .i64 (n:Int))) (first|(refine HC.out _ ?_;(repeat(with_reducible first|exact fB.out|exact q32 _|refine q24 ?_ _|refine ny ?_|refine kD ?_ _ (by have h1:=fB.out.size;omega)));done))
  (first
  |(go_at_call 171;refine(HP.out.1 _ (iq HW0.out.1 ?_)).mono ?_;((repeat(with_reducible first|exact q32 _|refine q24 ?_ _|refine ny ?_)));rintro e w1 ⟨f1,x1,y1,rfl,fG,eu⟩;obtain⟨n1,gX,gW⟩:∃n1,Hid (n1=_)/\Hid (S (.func f1 x1 y1) n1 w1):=⟨_,rfl,fG⟩;have fB:Hid (gZ w0 w1):=(by refine iq ?_ eu;(repeat(with_reducible first|exact q32 _|refine q24 ?_ _|refine ny ?_)));(first|(have hy:=box0 eu;have c1:=hy.a.1.cell 0 rfl;have z1:=hy.a.2;have l1:=hy.a.1.1;have HN:Hid (OwnB w1 w0.heap.size #[.nilFunc]):=hy.a)|skip)))
 all_goals
  go_wp2_with fail;go_ret;have e1:=gX.out;try simp at e1
  have q1:=fB.size;have q3:=HW0.2.2.2;have ks:=HP.2;have r1:=gW.out
  first
  |exact⟨_,_,_,rfl,⟨w1.heap.size,_,rfl,⟨by omega,Has.new _ _ _⟩,ks.old (ks.call r1 (q01 _ _)) (by omega)⟩,iq HW0.1 (q24 fB.out _)⟩
  |exact⟨_,_,_,rfl,⟨w0.heap.size,_,rfl,⟨by omega,IK HN.out⟩,ks.old (ks.fr r1 ((Fr.refl _ _ _).set (by omega))) (by omega)⟩,iq HW0.1 (kD fB.out _ (ah _))⟩
theorem yf5(bb:Nat)(S:Rel)(q:ND)(y:NA)(w:World)(ks:iY S)(hk:q.k=11)(hL:∀u,gZ w u->Calls Tryz.prog 178 #[ptr bb,.slice y.ka q.kn y.kc] u fun e u'=>Mks S u e u'):Calls Tryz.prog 144 #[ptr bb,jP q y] w fun e w'=>Mks (je1 S) w e w':=by
 have HP:Hid ((∀u,gZ w u->Calls Tryz.prog 178 #[ptr bb,.slice y.ka q.kn y.kc] u fun e u'=>Mks S u e u')/\iY S):=⟨hL,ks⟩;have hmf:=qV;rw[(yT hk rfl rfl).1];go_in;go_wp2_with fail;refine(HP.1 _ (kF _ _ _)).mono ?_;rintro e w1 ⟨f1,x1,y1,rfl,fG,eu⟩;have HW:Hid (S (.func f1 x1 y1) w.heap.size w1/\gZ w w1):=⟨HP.2.old fG (by simp;omega),iq (kF _ _ _) eu⟩;go_wp2_with fail;go_ret;have hs:=HW.2.size;exact⟨_,_,_,rfl,⟨w1.heap.size,_,rfl,⟨hs,Has.new _ _ _⟩,HP.2.call HW.1 (q01 _ _)⟩,HW.2.alloc hs _⟩
theorem qy7(bb:Nat)(S:Rel)(q:ND)(y:NA)(w:World)(ks:iY S)(hk:q.k=2)(hL:∀u,gZ w u->Calls Tryz.prog 169 #[ptr bb,jP q y] u fun e u'=>Mks S u e u'):Calls Tryz.prog 144 #[ptr bb,jP q y] w fun e w'=>Mks S w e w':=by
 rw[(yT hk rfl rfl).1] at hL ⊢;have HP:Hid ((∀u,gZ w u->Calls Tryz.prog 169 #[ptr bb,.agg (y8 2 q y y.ka q.kn)] u fun e u'=>Mks S u e u')/\iY S):=⟨hL,ks⟩;go_in;go_wp2_with fail;refine(HP.1 _ (kF _ _ _)).mono ?_;rintro e w1 ⟨f1,x1,y1,rfl,fG,eu⟩;have HW:Hid (S (.func f1 x1 y1) w.heap.size w1/\gZ w w1):=⟨HP.2.old fG (by simp;omega),iq (kF _ _ _) eu⟩;go_wp2_with fail;go_ret;exact⟨_,_,_,rfl,HW.1,HW.2⟩
theorem SC(M bb:Nat)(d:FD)(x:FA)(R:Rel)(s:Nat)(w:World)(h:BB M bb d x w)(kr:iY R)(hs:s<d.nn)(hk:(d.nd s).k≠1)(hA:∀u,gZ w u->Calls Tryz.prog 144 #[ptr bb,jP (d.nd s) (x.nas s)] u fun e u'=>Mks R u e u'):Calls Tryz.prog 85 #[ptr bb,.int .i64 (s:Int)] w fun e w'=>Mks (pY bb (kQ (d.nd s) (x.nas s)) R) w e w':=by
 have b1:=h.b.cell 1 rfl;have hbl:=h.b.1;obtain⟨b,off,e1,hb,c0,c1,c2,c3,c4,c5,c6,c7⟩:=h.node hs;rw[e1] at b1;simp only[jP] at hA;have HA:Hid _:=hA;have uJ:Hid (iY R):=kr;have hk1:((d.nd s).k==1)=false:=by simpa using hk
 have hmf:=qV;go_in;go_wp2_with fail;refine(HA _ (kF _ _ _)).mono ?_;rintro e w1 ⟨f1,x1,y1,rfl,fG,eu⟩;have HW:Hid (R (.func f1 x1 y1) w.heap.size w1/\gZ w w1/\Has w1 w.heap.size #[ptr bb]/\Has w1 (w.heap.size+1) (kQ (d.nd s) (x.nas s))):=⟨uJ.old fG (by simp;omega),iq (kF _ _ _) eu,((Has.new _ _ _).alloc _).call eu,(BI _ _ _ _).call eu⟩;go_wp2_with fail;go_ret;obtain⟨q1,q2,q3,q4⟩:=HW.out;have hs:=q2.size;exact⟨_,_,_,rfl,⟨w.heap.size,w.heap.size+1,w1.heap.size,_,rfl,⟨ah _,q3.alloc _⟩,⟨by omega,q4.alloc _⟩,⟨hs,Has.new _ _ _⟩,uJ.call q1 (q01 _ _)⟩,q2.alloc hs _⟩
theorem qh2(M bb:Nat)(d:FD)(x:FA)(R:Rel)(s:Nat)(w:World)(h:BB M bb d x w)(kr:iY R)(hs:s<d.nn)(hk:(d.nd s).k=1)(hA:∀u,gZ w u->Calls Tryz.prog 143 #[ptr bb,jP (d.nd s) (x.nas s)] u fun e u'=>Mks R u e u'):Calls Tryz.prog 85 #[ptr bb,.int .i64 (s:Int)] w fun e w'=>Mks R w e w':=by
 have b1:=h.b.cell 1 rfl;have hbl:=h.b.1;obtain⟨b,off,e1,hb,c0,c1,c2,c3,c4,c5,c6,c7⟩:=h.node hs;rw[e1] at b1;rw[(yT hk rfl rfl).1] at hA;have HA:Hid _:=hA;have uJ:Hid (iY R):=kr;rw[hk] at c0;go_in;go_wp2_with fail;refine(HA _ (kF _ _ _)).mono ?_;rintro e w1 ⟨f1,x1,y1,rfl,fG,eu⟩;have HW:Hid (R (.func f1 x1 y1) w.heap.size w1/\gZ w w1):=⟨uJ.old fG (by simp;omega),iq (kF _ _ _) eu⟩;go_wp2_with fail;go_ret;exact⟨_,_,_,rfl,HW.1,HW.2⟩
theorem qr0(M bb:Nat)(d:FD)(x:FA)(Rs:Nat->Rel)(q:ND)(y:NA)(n:Nat)(ks:Nat->Nat)(w:World)(h:BB M bb d x w)(kp:∀j,j<n->iY (Rs j))(hn0:1<=n)(hn:n<=200)(fE:q.kn=n)(hk:∀j,j<n->ks j<d.nn/\(d.nd (ks j)).k≠14/\iP 85 bb w (ks j) (Rs j))(hR:iF 1 0 w y.ka n fun j=>#[.int .i64 (ks j:Int)]):Calls Tryz.prog 143 #[ptr bb,jP q y] w fun e w'=>Mks (xq n Rs) w e w':=by
 have uJ:Hid (∀j,j<n->iY (Rs j)):=kp;have HB0:Hid (BB M bb d x w/\1<=n):=⟨h,hn0⟩;have HK:Hid (∀j,j<n->ks j<d.nn/\(d.nd (ks j)).k≠14/\iP 85 bb w (ks j) (Rs j)):=hk;have HR:Hid (iF 1 0 w y.ka n fun j=>#[.int .i64 (ks j:Int)]):=hR;have hmf:=qV;rw[(yT rfl rfl fE).1];go_in;go_wp2_with fail;obtain⟨w0,hw0⟩:∃w0,w.alloc (.cells (y8 q.k q y y.ka n) 48)=w0:=⟨_,rfl⟩;have HW0:Hid (gZ w w0/\w0.heap.size=w.heap.size+1):=by rw[<-hw0];exact⟨q01 _ _,by simp⟩
 rw[hw0];have e7:Hid (w.heap.size+1=w0.heap.size):=HW0.2.symm;rw[e7.out];obtain⟨B,hB⟩:∃B,w0.heap.size=B:=⟨_,rfl⟩;have H0:Hid (xI 113 w0 B Rs 0 none 0 (fun _=>.bool false) (w0.alloc (.cells #[.slice none 0 0] 68))):=by
  rw[<-hB];exact⟨OwnB.new _ _ _,aX _ _ _ _,fun j hj=>by omega,fun _=>⟨rfl,rfl⟩,q01 _ _⟩
 have CV:Hid (w0.heap.size=B):=hB;rw[hB]
 go_loopw [6,12] (fun v i wr=>v=.bool false/\∃(k:Nat) (oa:Option Addr) (oc:Nat) (Vs:Nat->Value),k<=n/\i=.int .i64 k/\Hid (xI 113 w0 B Rs k oa oc Vs wr)) (fun _ i _=>n-(intOf i).toNat)
 case atStart=>exact⟨rfl,0,none,0,fun _=>.bool false,aF _,rfl,H0⟩
 case round=>
  obtain⟨rfl,k,oa,oc,Vs,hk,rfl,HO⟩:=hrel;by_cases fE:k<n
  ·have hbw:gZ w wr:=iq HW0.1 HO.k;obtain⟨rb,ro,e2,_,hrb,d0⟩:=jd (iF.below HR.out hbw) fE;rw[e2];have b0:=HO.b.1.cell 0 rfl;have bz:=HO.b.2;have hBl:=HO.b.1.1
   go_upto_region 6 with fail
   have AX:Hid (Calls Tryz.prog 85 #[ptr bb,.int .i64 (ks k:Int)] wr.drew fun e u'=>Mks (Rs k) wr.drew e u'):=(HK.out k fE).2.2 _ hbw.drew;have HBr:Hid (BB M bb d x wr.drew):=HB0.1.call hbw.drew;obtain⟨i0,gU,gQ,hy1,hy2⟩:=bT z48;have XR:=enters_of Tryz.func85 (by kernel_rfl) rfl
   go_region_law (first
    |(refine Wh (by rfl) 85 _ _ _ _ (by rfl) (ptr bb) (.int .i64 (ks k:Int)) (by rfl) (by rfl) XR _ AX.out ?_;rintro e w1 ⟨ff,fx,fy,rfl,gX,eu⟩;refine⟨_,rfl,?_⟩;have pJ:Hid (xI 113 w0 B Rs k oa oc Vs (w1.alloc (.cells #[.func ff fx fy] 113))):=((HO.call (ay _ _).drew).call eu).call (q01 _ _);obtain⟨v',w7,gq,gB,gY,_,hat⟩:=run_append_own_at (P:=Tryz.prog) (w1.alloc (.cells #[.func ff fx fy] 113)) (w0.heap.size+1) 68 68 113 i0 _ 1 8 Tryz.underlying68 gU gQ hy1 hy2 rfl (by decide) (.slice oa k oc) k ((List.range k).map Vs) pJ.r ⟨w1.heap.size,0,none⟩ 1 1 [.func ff fx fy] rfl (cell_one_new _ _ _) (by simp[Value.oneCell']) (by unfold maxLen;omega) (by omega) (by have:=pJ.b.1.1;have:=CV.out;omega);obtain⟨nP,oc',rfl,hp⟩:=pJ.push CV.out gX (by have h9:=CV.out;have h8:B<wr.drew.heap.size:=hBl;omega) ((Fr.refl _ _ _).alloc (ah _) _) (by simp) (fun q e=>.inl (jm HO.r e).2) (by have h8:B<wr.drew.heap.size:=hBl;exact h8) gB gY hat;have HN:Hid (xI 113 w0 B Rs (k+1) nP oc' (fun j=>if j=k then .func ff fx fy else Vs j) (w7.setCell ⟨B,0,none⟩ (.slice nP (k+1) oc'))):=hp;have b01:=((HO.call (ay _ _).drew).call eu).b.1.cell 0 rfl;have OL:=((HO.call (ay _ _).drew).call eu).b.1.1;have b0':=pJ.b.1.cell 0 rfl;have sH:=pJ.mid CV.out gY;have b7:=sH.1.cell 0 rfl;have z7:=sH.2)
    |(refine xU (by rfl) _ _ _ _ (by rfl) (.slice oa k oc) (.slice (some ⟨w1.heap.size,0,none⟩) 1 1) _ _ (by rfl) (by rfl) gq ?_))
   all_goals
    obtain⟨w8,hw8⟩:∃w8,w7.setCell ⟨B,0,none⟩ (.slice nP (k+1) oc')=w8:=⟨_,rfl⟩;rw[hw8] at HN;rw[hw8];have YV:Hid (BB M bb d x w8):=HB0.1.call (iq HW0.1 HN.k);have b1:=YV.b.cell 1 rfl;have hbl:=YV.b.1;have hsk:=(HK.out k fE).2.1;have hsl:=(HK.out k fE).1;obtain⟨b,off,e1,hb,c0,c1,c2,c3,c4,c5,c6,c7⟩:=YV.node hsl;rw[e1] at b1;go_wp2_with fail;go_roundw
    case rel=>exact⟨by simp[hsk],k+1,nP,oc',_,by omega,by go_num,HN⟩
    case measure=>simp[intOf];omega
  ·obtain rfl:k=n:=by omega
   go_wp2_with fail;go_ret;have h9:=CV.out;have h8:=HW0.2;have h7:=HB0.2;rcases HO.r.2 with⟨_,h1⟩|⟨g,c,cur,e,h1,h2,_⟩
   ·omega
   ·cases e;refine⟨_,_,_,rfl,⟨B,g,oc,Vs,rfl,⟨by omega,HO.b.1⟩,by omega,(aA.1 h2).1,fun j hj=>⟨?_,?_⟩⟩,iq HW0.1 HO.k⟩
    ·have:=HO.r.cells (g:=g) rfl j (Vs j) (by simp[hj])
     cases j<;>simpa[Addr.add] using this
    ·obtain⟨n,u1,h1,h2,h3,h4,h5,h6⟩:=HO.l j hj;exact(uJ.out j hj).old ((uJ.out j hj).fr h1 h3) (by omega)
theorem zq4(M bb:Nat)(d:FD)(x:FA)(R:Rel)(n:Nat)(w:World)(h:BB M bb d x w)(hn:d.nn=n+1)(hn2:n<=3000)(hS:iP 85 bb w n R):Calls Tryz.prog 49 #[ptr bb] w fun e w'=>Mks R w e w':=by
 have b1:=h.b.cell 1 rfl;have hbl:=h.b.1;rw[hn] at b1;have HS:Hid (iP 85 bb w n R):=hS;go_in;go_wp2_with fail;refine(HS _ (q32 _)).mono ?_;rintro e w1 ⟨f1,x1,y1,rfl,fG,eu⟩;have HW:Hid (R (.func f1 x1 y1) w.heap.size w1/\gZ w w1):=⟨fG,eu⟩;go_wp2_with fail;go_ret;exact⟨_,_,_,rfl,HW.1,HW.2⟩
theorem qr5(M ub uo uc nf fn:Nat)(d:FD)(x:FA)(w:World)(m0:w.cell? ⟨M,0,none⟩=some (.slice (some ⟨ub,uo,none⟩) nf uc))(hfn:fn<nf)(u6:w.cell? ⟨ub,uo+fn*7+6,none⟩=some (.slice x.na d.nn x.nc))(hN:jy 0 w d.nn d.nd x.na x.nas):Calls Tryz.prog 48 #[ptr M,.int .i64 (fn:Int)] w fun e w'=>∃bb,e=.returned (ptr bb)/\w.heap.size<=bb/\BB M bb d x w'/\gZ w w':=by
 have HN:Hid (jy 0 w d.nn d.nd x.na x.nas):=hN;have gU:(0:Int)<=(fn:Int):=aS _;have hi1:(fn:Int)<(nf:Int):=by omega
 go_in;go_wp2_with fail;go_ret;exact⟨w.heap.size,rfl,ah _,⟨Has.new _ _ _,HN.alloc _⟩,q01 _ _⟩
abbrev qEc(a:Nat):Value:=.func (.func 230) #[] #[ptr a]
def F6(R:Rel):Rel:=fun v n u=>∃a x,v=qEc a/\Nb n u a #[x]/\R x n u
theorem yz7{R:Rel}(kr:iY R):iY (F6 R):=⟨fun⟨a,x,e,h,r⟩ k=>⟨a,x,e,h.old k,kr.old r k⟩,fun⟨a,x,e,h,r⟩ f=>⟨a,x,e,h.fr f,kr.fr r f⟩⟩
theorem z08(M bb:Nat)(d:FD)(x:FA)(R:Rel)(n:Nat)(w:World)(h:BB M bb d x w)(kr:iY R)(hn:n<d.nn)(hk:(d.nd n).k=34)(hA:iP 171 bb w n R):Calls Tryz.prog 181 #[ptr bb,.int .i64 (n:Int)] w fun e w'=>Mks (F6 R) w e w':=by
 have HP:Hid (iP 171 bb w n R/\iY R):=⟨hA,kr⟩;have b1:=h.b.cell 1 rfl;have hbl:=h.b.1;obtain⟨b,off,e1,hb,c0,c1,c2,c3,c4,c5,c6,c7⟩:=h.node hn;rw[e1] at b1;rw[hk] at c0;have hmf:=qV;go_in;go_wp2_with fail;refine(HP.1 _ (kF _ _ _)).mono ?_;rintro e w1 ⟨f1,x1,y1,rfl,fG,eu⟩;have HW:Hid (R (.func f1 x1 y1) (w.heap.size+2) w1/\gZ w w1):=⟨by simpa using fG,iq (kF _ _ _) eu⟩;go_wp2_with fail;go_ret;have hs:=HW.2.size;exact⟨_,_,_,rfl,⟨w1.heap.size,_,rfl,⟨hs,Has.new _ _ _⟩,HP.2.old (HP.2.call HW.1 (q01 _ _)) (by omega)⟩,HW.2.alloc hs _⟩
theorem zj8(M bb:Nat)(d:FD)(x:FA)(R:Rel)(n:Nat)(w:World)(h:BB M bb d x w)(kr:iY R)(hn:n<d.nn)(hk:(d.nd n).k=35)(hP:iP 181 bb w n R):Calls Tryz.prog 171 #[ptr bb,.int .i64 (n:Int)] w fun e w'=>Mks (Hq R) w e w':=by
 have HP:Hid (iP 181 bb w n R/\iY R):=⟨hP,kr⟩;have b1:=h.b.cell 1 rfl;have hbl:=h.b.1;obtain⟨b,off,e1,hb,c0,c1,c2,c3,c4,c5,c6,c7⟩:=h.node hn;rw[e1] at b1;rw[hk] at c0;have hmf:=qV;go_in;go_wp2_with fail;refine(HP.1 _ (q01 _ _)).mono ?_;rintro e w1 ⟨f1,x1,y1,rfl,fG,eu⟩;have HW:Hid (R (.func f1 x1 y1) (w.heap.size+1) w1/\gZ w w1):=⟨by simpa using fG,iq (q01 _ _) eu⟩;go_wp2_with fail;go_ret;have hs:=HW.2.size;exact⟨_,_,_,rfl,⟨w1.heap.size,_,rfl,⟨hs,Has.new _ _ _⟩,HP.2.old (HP.2.call HW.1 (q01 _ _)) (by omega)⟩,HW.2.alloc hs _⟩
theorem qy6(bb:Nat)(S:Rel)(q:ND)(y:NA)(w:World)(ks:iY S)(hk:q.k=3)(hL:∀u,gZ w u->Calls Tryz.prog 170 #[ptr bb,jP q y] u fun e u'=>Mks S u e u'):Calls Tryz.prog 144 #[ptr bb,jP q y] w fun e w'=>Mks S w e w':=by
 rw[(yT hk rfl rfl).1] at hL ⊢;have HP:Hid ((∀u,gZ w u->Calls Tryz.prog 170 #[ptr bb,.agg (y8 3 q y y.ka q.kn)] u fun e u'=>Mks S u e u')/\iY S):=⟨hL,ks⟩;go_in;go_wp2_with fail;refine(HP.1 _ (kF _ _ _)).mono ?_;rintro e w1 ⟨f1,x1,y1,rfl,fG,eu⟩;have HW:Hid (S (.func f1 x1 y1) w.heap.size w1/\gZ w w1):=⟨HP.2.old fG (by simp;omega),iq (kF _ _ _) eu⟩;go_wp2_with fail;go_ret;exact⟨_,_,_,rfl,HW.1,HW.2⟩
theorem qs6(bb:Nat)(S:Rel)(q:ND)(y:NA)(w:World)(ks:iY S)(hk:q.k=8)(hL:∀u,gZ w u->Calls Tryz.prog 176 #[ptr bb,jP q y] u fun e u'=>Mks S u e u'):Calls Tryz.prog 144 #[ptr bb,jP q y] w fun e w'=>Mks S w e w':=by
 rw[(yT hk rfl rfl).1] at hL ⊢;have HP:Hid ((∀u,gZ w u->Calls Tryz.prog 176 #[ptr bb,.agg (y8 8 q y y.ka q.kn)] u fun e u'=>Mks S u e u')/\iY S):=⟨hL,ks⟩;go_in;go_wp2_with fail;refine(HP.1 _ (kF _ _ _)).mono ?_;rintro e w1 ⟨f1,x1,y1,rfl,fG,eu⟩;have HW:Hid (S (.func f1 x1 y1) w.heap.size w1/\gZ w w1):=⟨HP.2.old fG (by simp;omega),iq (kF _ _ _) eu⟩;go_wp2_with fail;go_ret;exact⟨_,_,_,rfl,HW.1,HW.2⟩
abbrev X0(a b:Nat):Value:=.func (.func 269) #[] #[ptr a,ptr b]
def z23(R S:Rel):Rel:=fun v n u=>∃a b x y,v=X0 a b/\Nb n u a #[x]/\Nb n u b #[y]/\R x n u/\S y n u
theorem BJ{R S:Rel}(kr:iY R)(ks:iY S):iY (z23 R S):=⟨fun⟨a,b,x,y,e,h,h2,r,s⟩ k=>⟨a,b,x,y,e,h.old k,h2.old k,kr.old r k,ks.old s k⟩,fun⟨a,b,x,y,e,h,h2,r,s⟩ f=>⟨a,b,x,y,e,h.fr f,h2.fr f,kr.fr r f,ks.fr s f⟩⟩
theorem z29(bb:Nat)(R S:Rel)(kb ko kc i j:Nat)(w:World)(kr:iY R)(ks:iY S)(hkb:kb<w.heap.size)(hc0:w.cell? ⟨kb,ko,none⟩=some (.int .i64 (i:Int)))(hc1:w.cell? ⟨kb,ko+1,none⟩=some (.int .i64 (j:Int)))(hA:iP 181 bb w i R)(hB:iP 181 bb w j S):Calls Tryz.prog 223 #[ptr bb,.slice (some ⟨kb,ko,none⟩) 2 kc] w fun e w'=>Mks (z23 R S) w e w':=by
 have HA:Hid (∀u,gZ w u->Calls Tryz.prog 181 #[ptr bb,.int .i64 (i:Int)] u fun e u'=>Mks R u e u'):=hA;have HA2:Hid (∀u,gZ w u->Calls Tryz.prog 181 #[ptr bb,.int .i64 (j:Int)] u fun e u'=>Mks S u e u'):=hB;have uJ:Hid (iY R/\iY S):=⟨kr,ks⟩;have hmf:=qV;have HC:Hid (∀u,gZ w u->u.cell? ⟨kb,ko,none⟩=some (.int .i64 (i:Int))/\u.cell? ⟨kb,ko+1,none⟩=some (.int .i64 (j:Int))):=fun u hu=>⟨(hu.cell (p:=⟨kb,ko,none⟩) hkb).trans hc0,(hu.cell (p:=⟨kb,ko+1,none⟩) hkb).trans hc1⟩;go_in
 go_upto_region 1 with fail
 go_region_held3 (fun u=>u.cell? ⟨kb,ko,none⟩=some (.int .i64 (i:Int))/\u.cell? ⟨kb,ko+1,none⟩=some (.int .i64 (j:Int))) (first|(refine HC.out _ ?_;(repeat(with_reducible first|exact fD.out|exact fB.out|exact q32 _|refine q24 ?_ _|refine ny ?_|refine kD ?_ _ (by have h1:=fB.out.size;have h2:=fD.out.size;omega)));done))
  (first
  |(go_at_call 181;have hz9:=fB.out;refine(HA2.out _ ?_).mono ?_;((repeat(with_reducible first|exact fD.out|exact fB.out|exact q32 _|refine q24 ?_ _|refine ny ?_|refine kD ?_ _ (by have h1:=fB.out.size;have h2:=fD.out.size;omega))));rintro e w2 ⟨f2,x2,y2,rfl,hr2,eG⟩;obtain⟨n2,hn2,HR2⟩:∃n2,Hid (n2=_)/\Hid (S (.func f2 x2 y2) n2 w2):=⟨_,rfl,hr2⟩;have fD:Hid (gZ w w2):=(by refine iq ?_ eG;(repeat(with_reducible first|exact fD.out|exact fB.out|exact q32 _|refine q24 ?_ _|refine ny ?_|refine kD ?_ _ (by have h1:=fB.out.size;have h2:=fD.out.size;omega))));have Fe:Hid (Below _ _ w2):=eG;have HS2:Hid (_<=w2.heap.size):=eG.size;(first|(have hy:=Bp.call hx eG)|(have hy:=Bo.next hx eG)|(have hy:=Bo.call hx eG)|(have hy:=Ce eG)|(have hy:=box1 eG)|(have hy:=True.intro));(first|(have c1:=hy.a.1.cell 0 rfl;have z1:=hy.a.2;have l1:=hy.a.1.1;have c2:=hy.b.1.cell 0 rfl;have z2:=hy.b.2;have l2:=hy.b.1.1;have n1':=bI l1;have Ey:=bQ l1;have SQ:=bI l2;have n4':=bQ l2)|(have c1:=hy.a.1.cell 0 rfl;have z1:=hy.a.2;have l1:=hy.a.1.1;have n1':=bI l1;have Ey:=bQ l1)|skip))
  |(go_at_call 181;refine(HA.out _ ?_).mono ?_;((repeat(with_reducible first|exact fD.out|exact fB.out|exact q32 _|refine q24 ?_ _|refine ny ?_|refine kD ?_ _ (by have h1:=fB.out.size;have h2:=fD.out.size;omega))));rintro e w1 ⟨f1,x1,y1,rfl,fG,eu⟩;obtain⟨n1,gX,gW⟩:∃n1,Hid (n1=_)/\Hid (R (.func f1 x1 y1) n1 w1):=⟨_,rfl,fG⟩;have fB:Hid (gZ w w1):=(by refine iq ?_ eu;(repeat(with_reducible first|exact fD.out|exact fB.out|exact q32 _|refine q24 ?_ _|refine ny ?_|refine kD ?_ _ (by have h1:=fB.out.size;have h2:=fD.out.size;omega))));have qc:Hid (_<=w1.heap.size):=eu.size;(first|(have hx:=wX eu;have m1:=hx.b.1.1)|(have hx:=box0 eu;have m1:=hx.a.1.1;have m2:=bI m1;have m3:=bQ m1)|(have hx:=True.intro))))
 all_goals
  go_wp2_with fail;go_ret;have e1:=gX.out;have e2:=hn2.out;have s1:=qc.out;have s2:=HS2.out;try simp at e1
  try simp at e2
  try simp at s1
  try simp at s2
  have q1:=fB.size;have q2:=fD.size;have hk9:=True.intro;have hk8:=True.intro;have r1:=gW.out;have r2:=HR2.out;have hbb:=Fe.out;have hB2:=fD.out;obtain⟨kr,ks⟩:=uJ.out;refine⟨_,_,_,rfl,⟨_,_,_,_,rfl,⟨?_,?_⟩,⟨?_,?_⟩,kr.old (kr.fr r1 ?_) (by omega),ks.old (ks.fr r2 ?_) (by omega)⟩,?_⟩;all_goals(try omega)
  all_goals(repeat(with_reducible first|exact hB2|exact Fr.refl _ _ _|exact Has.new _ _ _|exact BI _ _ _ _|exact NQ _ _ _ _ _|exact hk9|exact hk8|refine Has.alloc ?_ _|refine q24 ?_ _|refine kD ?_ _ (by omega)|exact hy.a|exact hy.b|exact OwnB.new _ _ _|exact zM _ _ _ _|refine OwnB.alloc ?_ _|refine IK (x:=.nilFunc) ?_|refine qc2 ?_ (by omega)|refine wO ?_ (by omega)|refine Fr.set ?_ (by omega)|refine Fr.alloc ?_ (ah _) _|refine Fr.drew ?_|refine Fr.call ?_ (ah _) hbb))
theorem qs5(M bb:Nat)(d:FD)(x:FA)(R:Rel)(n i:Nat)(w:World)(h:BB M bb d x w)(kr:iY R)(hn:n<d.nn)(h2:(d.nd n).kn=1)(h0:(d.nd n).c 0=(i:Int))(gy:1<=(x.nas n).kc)(hE:iP 181 bb w i R):Calls Tryz.prog 196 #[ptr bb,.int .i64 (n:Int)] w fun e w'=>Mks (G7 R z24) w e w':=by
 have HE:Hid (iP 181 bb w i R):=hE;have uJ:Hid (iY R/\iY z24):=⟨kr,UH⟩;have hmf:=qV;have b1:=h.b.cell 1 rfl;have hbl:=h.b.1;obtain⟨b,off,e1,hb,c0,c1,c2,c3,c4,c5,c6,c7⟩:=h.node hn;rw[e1] at b1;rw[h2] at c7;obtain⟨kb,ko,e2,_,hkb,d0⟩:=jd (h.n.2 n hn).2 (k:=0) (by omega);rw[h0] at d0;rw[e2] at c7;simp only[Nat.add_zero] at d0;generalize hkc:(x.nas n).kc=kc at *;clear h c0 c1 c2 c3 c4 c5 c6 e1 e2 h2 h0 hkc hE kr;have HC:Hid (∀u,gZ w u->u.cell? ⟨kb,ko,none⟩=some (.int .i64 (i:Int))):=fun u hu=>(hu.cell (p:=⟨kb,ko,none⟩) hkb).trans d0;rcases(show kc=1\/¬(kc-1=0) by omega) with rfl|hi4;all_goals
  go_in
  go_upto_region 2 with fail
  clear b1 c7 d0 hbl hb
  go_region_held3 (fun u=>u.cell? ⟨kb,ko,none⟩=some (.int .i64 (i:Int))) (first|(refine HC.out _ ?_;(repeat(with_reducible first|exact fD.out|exact fB.out|exact q32 _|refine q24 ?_ _|refine ny ?_|refine kD ?_ _ (by have h1:=fB.out.size;have h2:=fD.out.size;omega)));done))
   (first
   |(go_at_call 181;refine(HE.out _ ?_).mono ?_;((repeat(with_reducible first|exact fD.out|exact fB.out|exact q32 _|refine q24 ?_ _|refine ny ?_|refine kD ?_ _ (by have h1:=fB.out.size;have h2:=fD.out.size;omega))));rintro e w1 ⟨f1,x1,y1,rfl,fG,eu⟩;obtain⟨n1,gX,gW⟩:∃n1,Hid (n1=_)/\Hid (R (.func f1 x1 y1) n1 w1):=⟨_,rfl,fG⟩;have fB:Hid (gZ w w1):=(by refine iq ?_ eu;(repeat(with_reducible first|exact fD.out|exact fB.out|exact q32 _|refine q24 ?_ _|refine ny ?_|refine kD ?_ _ (by have h1:=fB.out.size;have h2:=fD.out.size;omega))));have qc:Hid (_<=w1.heap.size):=eu.size;(first|(have hx:=wX eu;have m1:=hx.b.1.1)|(have hx:=box0 eu;have m1:=hx.a.1.1;have m2:=bI m1;have m3:=bQ m1)|(have hx:=True.intro));clear eu fG)
   |(go_at_call 178;refine(za2 bb _ _ _).mono ?_;(try(repeat(with_reducible first|exact fD.out|exact fB.out|exact q32 _|refine q24 ?_ _|refine ny ?_|refine kD ?_ _ (by have h1:=fB.out.size;have h2:=fD.out.size;omega))));rintro e w2 ⟨f2,x2,y2,rfl,hr2,eG⟩;obtain⟨n2,hn2,HR2⟩:∃n2,Hid (n2=_)/\Hid (z24 (.func f2 x2 y2) n2 w2):=⟨_,rfl,hr2⟩;have fD:Hid (gZ w w2):=(by refine iq ?_ eG;(repeat(with_reducible first|exact fD.out|exact fB.out|exact q32 _|refine q24 ?_ _|refine ny ?_|refine kD ?_ _ (by have h1:=fB.out.size;have h2:=fD.out.size;omega))));have Fe:Hid (Below _ _ w2):=eG;have HS2:Hid (_<=w2.heap.size):=eG.size;(first|(have hy:=Bp.call hx eG)|(have hy:=Bo.next hx eG)|(have hy:=Bo.call hx eG)|(have hy:=Ce eG)|(have hy:=box1 eG)|(have hy:=True.intro));(first|(have c1:=hy.a.1.cell 0 rfl;have z1:=hy.a.2;have l1:=hy.a.1.1;have c2:=hy.b.1.cell 0 rfl;have z2:=hy.b.2;have l2:=hy.b.1.1;have n1':=bI l1;have Ey:=bQ l1;have SQ:=bI l2;have n4':=bQ l2)|(have c1:=hy.a.1.cell 0 rfl;have z1:=hy.a.2;have l1:=hy.a.1.1;have n1':=bI l1;have Ey:=bQ l1)|skip);clear eG hr2))
  all_goals
   go_wp2_with fail;go_ret;have e1:=gX.out;have e2:=hn2.out;have s1:=qc.out;have s2:=HS2.out;try simp at e1
   try simp at e2
   try simp at s1
   try simp at s2
   have q1:=fB.size;have q2:=fD.size;have hk9:=True.intro;have hk8:=True.intro;have r1:=gW.out;have r2:=HR2.out;have hbb:=Fe.out;have hB2:=fD.out;obtain⟨kr,ks⟩:=uJ.out;refine⟨_,_,_,rfl,⟨_,_,_,_,rfl,⟨?_,?_⟩,⟨?_,?_⟩,kr.old (kr.fr r1 ?_) (by omega),ks.old (ks.fr r2 ?_) (by omega)⟩,?_⟩;all_goals(try omega)
   all_goals(repeat(with_reducible first|exact hB2|exact Fr.refl _ _ _|exact Has.new _ _ _|exact BI _ _ _ _|exact NQ _ _ _ _ _|exact hk9|exact hk8|refine Has.alloc ?_ _|refine q24 ?_ _|refine kD ?_ _ (by omega)|exact hy.a|exact hy.b|exact OwnB.new _ _ _|exact zM _ _ _ _|refine OwnB.alloc ?_ _|refine IK (x:=.nilFunc) ?_|refine qc2 ?_ (by omega)|refine wO ?_ (by omega)|refine Fr.set ?_ (by omega)|refine Fr.alloc ?_ (ah _) _|refine Fr.drew ?_|refine Fr.call ?_ (ah _) hbb))
theorem qs4(M bb:Nat)(d:FD)(x:FA)(R S:Rel)(n i m:Nat)(w:World)(h:BB M bb d x w)(kr:iY R)(ks:iY S)(hn:n<d.nn)(h2:(d.nd n).kn=m+1)(h0:(d.nd n).c 0=(i:Int))(h1:1<=m)(hm:m<=200)(gy:m<(x.nas n).kc)(hE:iP 181 bb w i R)(hL:∀u kb ko c,(x.nas n).ka=some ⟨kb,ko,none⟩->kb<w.heap.size->m<=c->gZ w u->Calls Tryz.prog 178 #[ptr bb,.slice (some ⟨kb,ko+1,none⟩) m c] u fun e u'=>Mks S u e u'):Calls Tryz.prog 196 #[ptr bb,.int .i64 (n:Int)] w fun e w'=>Mks (G7 R S) w e w':=by
 have HE:Hid (iP 181 bb w i R):=hE;have uJ:Hid (iY R/\iY S):=⟨kr,ks⟩;have hmf:=qV;have b1:=h.b.cell 1 rfl;have hbl:=h.b.1;obtain⟨b,off,e1,hb,c0,c1,c2,c3,c4,c5,c6,c7⟩:=h.node hn;rw[e1] at b1;rw[h2] at c7;obtain⟨kb,ko,e2,_,hkb,d0⟩:=jd (h.n.2 n hn).2 (k:=0) (by omega);rw[h0] at d0;rw[e2] at c7;simp only[Nat.add_zero] at d0;have HL:Hid (∀u c,m<=c->gZ w u->Calls Tryz.prog 178 #[ptr bb,.slice (some ⟨kb,ko+1,none⟩) m c] u fun e u'=>Mks S u e u'):=fun u c hc hu=>hL u kb ko c e2 hkb hc hu;generalize hkc:(x.nas n).kc=kc at *;clear h c0 c1 c2 c3 c4 c5 c6 e1 e2 h2 h0 hkc hE kr hL;have HC:Hid (∀u,gZ w u->u.cell? ⟨kb,ko,none⟩=some (.int .i64 (i:Int))):=fun u hu=>(hu.cell (p:=⟨kb,ko,none⟩) hkb).trans d0;have hi1:(1:Int)<=(kc:Int):=by omega
 have hi2:(1:Int)<=(m:Int)+1:=by omega
 have hi3:(m:Int)+1<=(kc:Int):=by omega
 have hi4:¬(kc-1=0):=by omega
 go_in
 go_upto_region 2 with fail
 clear b1 c7 d0 hbl hb
 go_region_held3 (fun u=>u.cell? ⟨kb,ko,none⟩=some (.int .i64 (i:Int))) (first|(refine HC.out _ ?_;(repeat(with_reducible first|exact fD.out|exact fB.out|exact q32 _|refine q24 ?_ _|refine ny ?_|refine kD ?_ _ (by have h1:=fB.out.size;have h2:=fD.out.size;omega)));done))
  (first
  |(go_at_call 181;refine(HE.out _ ?_).mono ?_;((repeat(with_reducible first|exact fD.out|exact fB.out|exact q32 _|refine q24 ?_ _|refine ny ?_|refine kD ?_ _ (by have h1:=fB.out.size;have h2:=fD.out.size;omega))));rintro e w1 ⟨f1,x1,y1,rfl,fG,eu⟩;obtain⟨n1,gX,gW⟩:∃n1,Hid (n1=_)/\Hid (R (.func f1 x1 y1) n1 w1):=⟨_,rfl,fG⟩;have fB:Hid (gZ w w1):=(by refine iq ?_ eu;(repeat(with_reducible first|exact fD.out|exact fB.out|exact q32 _|refine q24 ?_ _|refine ny ?_|refine kD ?_ _ (by have h1:=fB.out.size;have h2:=fD.out.size;omega))));have qc:Hid (_<=w1.heap.size):=eu.size;(first|(have hx:=wX eu;have m1:=hx.b.1.1)|(have hx:=box0 eu;have m1:=hx.a.1.1;have m2:=bI m1;have m3:=bQ m1)|(have hx:=True.intro));clear eu fG)
  |(go_at_call 178;refine(HL.out _ _ (by omega) ?_).mono ?_;((repeat(with_reducible first|exact fD.out|exact fB.out|exact q32 _|refine q24 ?_ _|refine ny ?_|refine kD ?_ _ (by have h1:=fB.out.size;have h2:=fD.out.size;omega))));rintro e w2 ⟨f2,x2,y2,rfl,hr2,eG⟩;obtain⟨n2,hn2,HR2⟩:∃n2,Hid (n2=_)/\Hid (S (.func f2 x2 y2) n2 w2):=⟨_,rfl,hr2⟩;have fD:Hid (gZ w w2):=(by refine iq ?_ eG;(repeat(with_reducible first|exact fD.out|exact fB.out|exact q32 _|refine q24 ?_ _|refine ny ?_|refine kD ?_ _ (by have h1:=fB.out.size;have h2:=fD.out.size;omega))));have Fe:Hid (Below _ _ w2):=eG;have HS2:Hid (_<=w2.heap.size):=eG.size;(first|(have hy:=Bp.call hx eG)|(have hy:=Bo.next hx eG)|(have hy:=Bo.call hx eG)|(have hy:=Ce eG)|(have hy:=box1 eG)|(have hy:=True.intro));(first|(have c1:=hy.a.1.cell 0 rfl;have z1:=hy.a.2;have l1:=hy.a.1.1;have c2:=hy.b.1.cell 0 rfl;have z2:=hy.b.2;have l2:=hy.b.1.1;have n1':=bI l1;have Ey:=bQ l1;have SQ:=bI l2;have n4':=bQ l2)|(have c1:=hy.a.1.cell 0 rfl;have z1:=hy.a.2;have l1:=hy.a.1.1;have n1':=bI l1;have Ey:=bQ l1)|skip);clear eG hr2))
 all_goals
  go_wp2_with fail;go_ret;have e1:=gX.out;have e2:=hn2.out;have s1:=qc.out;have s2:=HS2.out;try simp at e1
  try simp at e2
  try simp at s1
  try simp at s2
  have q1:=fB.size;have q2:=fD.size;have hk9:=True.intro;have hk8:=True.intro;have r1:=gW.out;have r2:=HR2.out;have hbb:=Fe.out;have hB2:=fD.out;obtain⟨kr,ks⟩:=uJ.out;refine⟨_,_,_,rfl,⟨_,_,_,_,rfl,⟨?_,?_⟩,⟨?_,?_⟩,kr.old (kr.fr r1 ?_) (by omega),ks.old (ks.fr r2 ?_) (by omega)⟩,?_⟩;all_goals(try omega)
  all_goals(repeat(with_reducible first|exact hB2|exact Fr.refl _ _ _|exact Has.new _ _ _|exact BI _ _ _ _|exact NQ _ _ _ _ _|exact hk9|exact hk8|refine Has.alloc ?_ _|refine q24 ?_ _|refine kD ?_ _ (by omega)|exact hy.a|exact hy.b|exact OwnB.new _ _ _|exact zM _ _ _ _|refine OwnB.alloc ?_ _|refine IK (x:=.nilFunc) ?_|refine qc2 ?_ (by omega)|refine wO ?_ (by omega)|refine Fr.set ?_ (by omega)|refine Fr.alloc ?_ (ah _) _|refine Fr.drew ?_|refine Fr.call ?_ (ah _) hbb))
end
end Go.Proofs.YthnkncpegihbhaaGreatDoor
