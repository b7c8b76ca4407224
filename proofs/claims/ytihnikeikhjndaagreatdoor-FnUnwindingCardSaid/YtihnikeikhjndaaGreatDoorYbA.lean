import Derived.Test.YtihnikeikhjndaaGreatDoorYnE
import Derived.Test.YtihnikeikhjndaaGreatDoorGives
import Derived.Deep.Cut
import Derived.Deep.DeepCutAuto
import Derived.Shelf.Abstract
set_option maxRecDepth 100000
set_option maxHeartbeats 16000000
namespace Go.Proofs.YtihnikeikhjndaaGreatDoor
section
open Go.RowKit
attribute [local go_sem] aN
attribute [local go_sem ↓] Go.wp_at_zero Go.wp_at_succ
theorem zd8:(Tryz.prog.info? 271).map (fun i=>(i.zero,i.size,i.bytes))=some (some .nilFunc,1,8):=by kernel_rfl
theorem Pq:(Tryz.prog.info? 109).map (fun i=>(i.zero,i.size,i.bytes))=some (some .nilFunc,1,8):=by kernel_rfl
theorem yH(P:Program)(w:World)(a:Addr)(m:Mode)(f:Fn)(x y:Array Value):(store a (.func f x y) m).run P w=stored P w a (.func f x y) m:=run_store P w a _ m rfl
theorem mX(fn:Fn)(first cap:Array Value)(w:World):(Instr.makeFunc fn first cap).run Tryz.prog w=.ok (.func fn first cap) w:=rfl
theorem iw(w:World):ah w w:=Below.refl _ _
theorem iq{w u:World}(h:ah w u):ah w u.drew:=h.drew
theorem gI{w u:World}(h:ah w u)(o:Obj):ah w (u.alloc o):=h.alloc h.size o
theorem q23{w u:World}(h:ah w u){B o:Nat}(v:Value)(hB:w.heap.size<=B):ah w (u.setCell ⟨B,o,none⟩ v):=h.setCell hB v
theorem OwnB.call{u w:World}{B:Nat}{A:Array Value}(h:OwnB u B A)(hb:ah u w):OwnB w B A:=h.block hb.size (hb.block _ h.1.1)
theorem OwnB.alloc{u:World}{B:Nat}{A:Array Value}(h:OwnB u B A)(o:Obj):OwnB (u.alloc o) B A:=h.call (q01 _ _)
theorem OwnB.drew{u:World}{B:Nat}{A:Array Value}(h:OwnB u B A):OwnB u.drew B A:=h.call (Below.refl _ _).drew
theorem ER{u:World}{B:Nat}{x v:Value}(h:OwnB u B #[x]):Has (u.setCell ⟨B,0,none⟩ v) B #[v]:=(h.set (o:=0) (by show 0<1;omega) v).1
theorem Hg{u:World}{B C:Nat}{A:Array Value}{o:Nat}{v:Value}(h:Has u C A)(hne:C≠B):Has (u.setCell ⟨B,o,none⟩ v) C A:=⟨by simpa using h.1,fun i=>(World.cell?_of_block (a:=⟨C,i,none⟩) (Below.heap_setCell _ ⟨B,o,none⟩ v C hne)).trans (h.2 i)⟩
theorem uV{u:World}{B C:Nat}{A:Array Value}{o:Nat}{v:Value}(h:OwnB u C A)(hne:C≠B):OwnB (u.setCell ⟨B,o,none⟩ v) C A:=h.block (by simp) (Below.heap_setCell _ ⟨B,o,none⟩ v C hne)
structure Bp(w:World)(B C:Nat)(x y:Value):Prop where
 a:OwnB w B #[x]
 b:OwnB w C #[y]
structure Bo(w:World)(B:Nat)(x:Value):Prop where
 a:OwnB w B #[x]
theorem q35(v:World)(o:Obj)(A:Array Value)(t:TypeId):OwnB ((v.alloc o).alloc (.cells A t)) (v.heap.size+1) A:=by
 have h:=OwnB.new (v.alloc o) A t;rw[World.size_alloc] at h;exact h
theorem uU(v:World)(o:Obj)(A:Array Value)(t:TypeId):Has ((v.alloc o).alloc (.cells A t)) (v.heap.size+1) A:=(q35 v o A t).1
theorem KZ(v:World)(p:Addr)(x:Value)(A:Array Value)(t:TypeId):Has ((v.setCell p x).alloc (.cells A t)) v.heap.size A:=by
 have h:=Has.new (v.setCell p x) A t;rw[World.size_setCell] at h;exact h
theorem box0{v w1:World}{x:Value}{t:TypeId}(hb:Below (v.drew.alloc (.cells #[x] t)).heap.size (v.drew.alloc (.cells #[x] t)) w1):Bo w1 v.heap.size x:=⟨(OwnB.new v.drew #[x] t).call hb⟩
theorem box1{v w1:World}{x:Value}{t:TypeId}(hb:Below (v.alloc (.cells #[x] t)).heap.size (v.alloc (.cells #[x] t)) w1):Bo w1 v.heap.size x:=⟨(OwnB.new v #[x] t).call hb⟩
theorem tC{v w1:World}{x y:Value}{t s:TypeId}(hb:Below ((v.drew.alloc (.cells #[x] t)).alloc (.cells #[y] s)).heap.size ((v.drew.alloc (.cells #[x] t)).alloc (.cells #[y] s)) w1):Bp w1 v.heap.size (v.heap.size+1) x y:=⟨((OwnB.new v.drew #[x] t).alloc _).call hb,(q35 v.drew _ #[y] s).call hb⟩
theorem zX{v w1:World}{x y:Value}{t s:TypeId}(hb:Below ((v.alloc (.cells #[x] t)).alloc (.cells #[y] s)).heap.size ((v.alloc (.cells #[x] t)).alloc (.cells #[y] s)) w1):Bp w1 v.heap.size (v.heap.size+1) x y:=⟨((OwnB.new v #[x] t).alloc _).call hb,(q35 v _ #[y] s).call hb⟩
theorem Bp.call{u w:World}{B C:Nat}{x y:Value}(h:Bp u B C x y)(hb:ah u w):Bp w B C x y:=⟨h.a.call hb,h.b.call hb⟩
theorem Bo.call{u w:World}{B:Nat}{x:Value}(h:Bo u B x)(hb:ah u w):Bo w B x:=⟨h.a.call hb⟩
theorem Bo.next{u w:World}{B:Nat}{x y:Value}{t:TypeId}(h:Bo u B x)(hb:Below (u.alloc (.cells #[y] t)).heap.size (u.alloc (.cells #[y] t)) w):Bp w B u.heap.size x y:=⟨(h.a.alloc _).call hb,(box1 hb).a⟩
theorem LC{P:Program}{ops:Array Oper}{o:Oper}{a:Act}{w:World}{K:Act->World->Prop}{Q:Exit->Act->World->Prop}{E:Prop}(hgd:o.guard=none)(f:Nat)(x y:Operand)(t u:TypeId)(ho:o.op=.call {callee:=.value (.func f),args:=#[x,y],argTypes:=#[t,u]})(vx vy:Value)(hx:a.eval x=vx)(hy:a.eval y=vy)(eg:∀args w,(callFunc f args).run P w=.ok (.enter f args) w)(R:Ending->World->Prop)(hc:Calls P f #[vx,vy] w R)(h:∀e w',R e w'->∃v,e=.returned v/\K (a.put o.dst v) w'):if Region.wanted o (yielded ops a.tmps)=true then Oper.wp P o a w K Q else E:=by
 have hw:Region.wanted o (yielded ops a.tmps)=true:=by simp[Region.wanted,hgd]
 rw[if_pos hw];have e1:(execOp a.eval o).run P w=.ok (.enter f #[vx,vy]) w:=by
  unfold execOp;simp[ho,resolve,invoke,eg,go_sem];exact⟨by simpa[Act.eval] using hx,by simpa[Act.eval] using hy⟩
 unfold Oper.wp;rw[e1,Oper.upon_enter];refine hc.mono ?_;intro e w' hr;obtain⟨v,rfl,hk⟩:=h e w' hr;exact hk
theorem O9{w w1:World}{A B:Array Value}{s t:TypeId}(hb:Below ((w.alloc (.cells A s)).alloc (.cells B t)).heap.size ((w.alloc (.cells A s)).alloc (.cells B t)) w1):OwnB w1 (w.heap.size+1) B:=by
 have h:=OwnB.new (w.alloc (.cells A s)) B t;rw[World.size_alloc] at h;exact h.block hb.size (hb.block _ (by simp))
structure BB(M bb:Nat)(d:FD)(x:FA)(w:World):Prop where
 b:Has w bb #[ptr M,.slice x.na d.nn x.nc]
 n:bV 0 w d.nn d.nd x.na x.nas
theorem BB.call{M bb:Nat}{d:FD}{x:FA}{w w':World}(h:BB M bb d x w)(hb:ah w w'):BB M bb d x w':=⟨h.b.call hb,⟨aP.below h.n.1 hb,fun i hi=>(h.n.2 i hi).below hb⟩⟩
theorem BB.node{M bb:Nat}{d:FD}{x:FA}{w:World}(h:BB M bb d x w){i:Nat}(hi:i<d.nn):∃b off,x.na=some ⟨b,off,none⟩/\b<w.heap.size/\w.cell? ⟨b,off+i*8,none⟩=some (.int .i64 (d.nd i).k)/\w.cell? ⟨b,off+i*8+1,none⟩=some (.int .i64 (d.nd i).l)/\w.cell? ⟨b,off+i*8+2,none⟩=some (.int .i64 (d.nd i).o)/\w.cell? ⟨b,off+i*8+3,none⟩=some (.int .i64 (d.nd i).n)/\w.cell? ⟨b,off+i*8+4,none⟩=some (.float .f64 (d.nd i).f)/\w.cell? ⟨b,off+i*8+5,none⟩=some (.string (d.nd i).s)/\w.cell? ⟨b,off+i*8+6,none⟩=some (.slice (x.nas i).ra (d.nd i).rn (x.nas i).rc)/\w.cell? ⟨b,off+i*8+7,none⟩=some (.slice (x.nas i).ka (d.nd i).kn (x.nas i).kc):=by
 obtain⟨b,off,e,_,h1,h2⟩:=h.n.1 (by omega);have hc:=h2 i hi;exact⟨b,off,e,h1,hc 0 (by omega),hc 1 (by omega),hc 2 (by omega),hc 3 (by omega),hc 4 (by omega),hc 5 (by omega),hc 6 (by omega),hc 7 (by omega)⟩
structure Fr(a b:Nat)(u u':World):Prop where
 s:u.heap.size<=u'.heap.size
 k:∀k,a<=k->k<b->u'.heap[k]?=u.heap[k]?
theorem Fr.refl(a b:Nat)(u:World):Fr a b u u:=⟨Nat.le_refl _,fun _ _ _=>rfl⟩
theorem Fr.call{a b:Nat}{u v v':World}(h:Fr a b u v)(hb:b<=u.heap.size)(k:ah v v'):Fr a b u v':=⟨Nat.le_trans h.s k.size,fun i h1 h2=>(k.block i (by have:=h.s;omega)).trans (h.k i h1 h2)⟩
theorem Fr.alloc{a b:Nat}{u v:World}(h:Fr a b u v)(hb:b<=u.heap.size)(o:Obj):Fr a b u (v.alloc o):=h.call hb (q01 _ _)
theorem Fr.drew{a b:Nat}{u v:World}(h:Fr a b u v):Fr a b u v.drew:=⟨h.s,h.k⟩
theorem Fr.set{a b:Nat}{u v:World}(h:Fr a b u v){C o:Nat}{x:Value}(hC:C<a\/b<=C):Fr a b u (v.setCell ⟨C,o,none⟩ x):=⟨by simpa using h.s,fun i h1 h2=>(Below.heap_setCell _ ⟨C,o,none⟩ x i (by show i≠C;omega)).trans (h.k i h1 h2)⟩
abbrev Rel:=Value->Nat->World->Prop
structure bZ(R:Rel):Prop where
 old:∀{v:Value} {n m:Nat} {u:World},R v n u->m<=n->R v m u
 fr:∀{v:Value} {n:Nat} {u u':World},R v n u->Fr n u.heap.size u u'->R v n u'
theorem bZ.call{R:Rel}(h:bZ R){v:Value}{n:Nat}{u u':World}(r:R v n u)(k:ah u u'):R v n u':=h.fr r ((Fr.refl _ _ _).call (Nat.le_refl _) k)
structure Nb(n:Nat)(u:World)(B:Nat)(A:Array Value):Prop where
 n:n<=B
 h:Has u B A
theorem Nb.old{n m:Nat}{u:World}{B:Nat}{A:Array Value}(h:Nb n u B A)(k:m<=n):Nb m u B A:=⟨Nat.le_trans k h.n,h.h⟩
theorem Nb.fr{n:Nat}{u u':World}{B:Nat}{A:Array Value}(h:Nb n u B A)(f:Fr n u.heap.size u u'):Nb n u' B A:=⟨h.n,Nat.lt_of_lt_of_le h.h.1 f.s,fun o=>(World.cell?_of_block (a:=⟨B,o,none⟩) (f.k B h.n h.h.1)).trans (h.h.2 o)⟩
def Mks(R:Rel)(w:World)(e:Ending)(w':World):Prop:=∃f x y,e=.returned (.func f x y)/\R (.func f x y) w.heap.size w'/\ah w w'
def bg(F bb:Nat)(w:World)(i:Nat)(R:Rel):Prop:=∀u,ah w u->Calls Tryz.prog F #[ptr bb,.int .i64 (i:Int)] u fun e u'=>Mks R u e u'
theorem bg.call{F bb:Nat}{w w':World}{i:Nat}{R:Rel}(h:bg F bb w i R)(k:ah w w'):bg F bb w' i R:=fun u hu=>h u (aH k hu)
abbrev PV(a b c e:Nat):Value:=.func (.func 218) #[] #[ptr a,ptr b,ptr c,ptr e]
abbrev qCl(a b c:Nat):Value:=.func (.func 283) #[] #[ptr a,ptr b,ptr c]
abbrev Hu:Value:=.func (.func 215) #[] #[]
def qb2(x:VD):Rel:=fun v n u=>∃B,v=jP B/\Nb n u B (vA x)
def z38(i:Int):Rel:=fun v n u=>∃B,v=yY B/\Nb n u B #[.int .i64 i]
def qJ(M:Nat)(ups:Value)(fn:Int):Rel:=fun v n u=>∃a b c,v=qCl a b c/\Nb n u a #[ptr M]/\Nb n u b #[ups]/\Nb n u c #[.int .i64 fn]
def IsNil:Rel:=fun v _ _=>v=Hu
def z39(R:Rel):Rel:=fun v n u=>∃a x,v=wI a/\Nb n u a #[x]/\R x n u
def xR(R:Rel):Rel:=fun v n u=>∃a x,v=MZ a/\Nb n u a #[x]/\R x n u
def Cm(bb:Nat)(R:Rel):Rel:=fun v n u=>∃a b x,v=qF a b/\Nb n u a #[x]/\Nb n u b #[ptr bb]/\R x n u
def vZ(R S:Rel):Rel:=fun v n u=>∃a b x y,v=AX a b/\Nb n u a #[x]/\Nb n u b #[y]/\R x n u/\S y n u
def uf(bb:Nat)(R S:Rel):Rel:=fun v n u=>∃a b c x y,v=FP a b c/\Nb n u a #[x]/\Nb n u b #[y]/\Nb n u c #[ptr bb]/\R x n u/\S y n u
def qa0(m:Nat)(Rs:Nat->Rel):Rel:=fun v n u=>∃(a:Nat) (oa:Option Addr) (oc:Nat) (Vs:Nat->Value),v=FU a/\Nb n u a #[.slice oa m oc]/\aP 1 n u oa m (fun j=>#[Vs j])/\(∀j,j<m->Rs j (Vs j) n u)/\(m=0->oa=none/\oc=0)
def oO(bb:Nat)(A:Array Value)(R:Rel):Rel:=fun v n u=>∃a b c x,v=zh a b c/\Nb n u a #[ptr bb]/\Nb n u b A/\Nb n u c #[x]/\R x n u
def Ob(M:Nat)(A:Array Value)(R S:Rel):Rel:=fun v n u=>∃a b c e x y,v=PV a b c e/\Nb n u a #[x]/\Nb n u b #[ptr M]/\Nb n u c A/\Nb n u e #[y]/\R x n u/\S y n u
def uG(m:Nat)(Rs:Nat->Rel):Rel:=fun v n u=>∃(a g gc:Nat) (Vs:Nat->Value),v=nN a/\Nb n u a #[.slice (some ⟨g,0,none⟩) m gc]/\n<=g/\g<u.heap.size/\(∀j,j<m->u.cell? ⟨g,j,none⟩=some (Vs j)/\Rs j (Vs j) n u)
theorem aP.fr{K n m:Nat}{u u':World}{a:Option Addr}{q:Nat->Array Value}(h:aP K n u a m q)(f:Fr n u.heap.size u u'):aP K n u' a m q:=fun h0=>by
 obtain⟨b,off,e,h1,h2,h3⟩:=h h0;exact⟨b,off,e,h1,Nat.lt_of_lt_of_le h2 f.s,fun i hi j hj=>(World.cell?_of_block (a:=⟨b,off+i*K+j,none⟩) (f.k b h1 h2)).trans (h3 i hi j hj)⟩
theorem ug(x:VD):bZ (qb2 x):=⟨fun⟨B,e,h⟩ k=>⟨B,e,h.old k⟩,fun⟨B,e,h⟩ f=>⟨B,e,h.fr f⟩⟩
theorem Dl(i:Int):bZ (z38 i):=⟨fun⟨B,e,h⟩ k=>⟨B,e,h.old k⟩,fun⟨B,e,h⟩ f=>⟨B,e,h.fr f⟩⟩
theorem Dk(M:Nat)(ups:Value)(fn:Int):bZ (qJ M ups fn):=⟨fun⟨a,b,c,e,h1,h2,h3⟩ k=>⟨a,b,c,e,h1.old k,h2.old k,h3.old k⟩,fun⟨a,b,c,e,h1,h2,h3⟩ f=>⟨a,b,c,e,h1.fr f,h2.fr f,h3.fr f⟩⟩
theorem GX:bZ IsNil:=⟨fun h _=>h,fun h _=>h⟩
section
variable {R S:Rel}(kr:bZ R)(ks:bZ S)
include kr
theorem ES:bZ (z39 R):=⟨fun⟨a,x,e,h,r⟩ k=>⟨a,x,e,h.old k,kr.old r k⟩,fun⟨a,x,e,h,r⟩ f=>⟨a,x,e,h.fr f,kr.fr r f⟩⟩
theorem Gv:bZ (xR R):=⟨fun⟨a,x,e,h,r⟩ k=>⟨a,x,e,h.old k,kr.old r k⟩,fun⟨a,x,e,h,r⟩ f=>⟨a,x,e,h.fr f,kr.fr r f⟩⟩
theorem GV(bb:Nat):bZ (Cm bb R):=⟨fun⟨a,b,x,e,h,h2,r⟩ k=>⟨a,b,x,e,h.old k,h2.old k,kr.old r k⟩,fun⟨a,b,x,e,h,h2,r⟩ f=>⟨a,b,x,e,h.fr f,h2.fr f,kr.fr r f⟩⟩
theorem Bf(bb:Nat)(A:Array Value):bZ (oO bb A R):=⟨fun⟨a,b,c,x,e,h,h2,h3,r⟩ k=>⟨a,b,c,x,e,h.old k,h2.old k,h3.old k,kr.old r k⟩,fun⟨a,b,c,x,e,h,h2,h3,r⟩ f=>⟨a,b,c,x,e,h.fr f,h2.fr f,h3.fr f,kr.fr r f⟩⟩
include ks
theorem zB:bZ (vZ R S):=⟨fun⟨a,b,x,y,e,h,h2,r,s⟩ k=>⟨a,b,x,y,e,h.old k,h2.old k,kr.old r k,ks.old s k⟩,fun⟨a,b,x,y,e,h,h2,r,s⟩ f=>⟨a,b,x,y,e,h.fr f,h2.fr f,kr.fr r f,ks.fr s f⟩⟩
theorem qb1(bb:Nat):bZ (uf bb R S):=⟨fun⟨a,b,c,x,y,e,h,h2,h3,r,s⟩ k=>⟨a,b,c,x,y,e,h.old k,h2.old k,h3.old k,kr.old r k,ks.old s k⟩,fun⟨a,b,c,x,y,e,h,h2,h3,r,s⟩ f=>⟨a,b,c,x,y,e,h.fr f,h2.fr f,h3.fr f,kr.fr r f,ks.fr s f⟩⟩
theorem Ul(M:Nat)(A:Array Value):bZ (Ob M A R S):=⟨fun⟨a,b,c,d,x,y,e,h,h2,h3,h4,r,s⟩ k=>⟨a,b,c,d,x,y,e,h.old k,h2.old k,h3.old k,h4.old k,kr.old r k,ks.old s k⟩,fun⟨a,b,c,d,x,y,e,h,h2,h3,h4,r,s⟩ f=>⟨a,b,c,d,x,y,e,h.fr f,h2.fr f,h3.fr f,h4.fr f,kr.fr r f,ks.fr s f⟩⟩
end
theorem Dq(m:Nat){Rs:Nat->Rel}(kr:∀j,j<m->bZ (Rs j)):bZ (qa0 m Rs):=⟨fun⟨a,oa,oc,Vs,e,h,h2,h3,h4⟩ k=>⟨a,oa,oc,Vs,e,h.old k,h2.less k,fun j hj=>(kr j hj).old (h3 j hj) k,h4⟩,fun⟨a,oa,oc,Vs,e,h,h2,h3,h4⟩ f=>⟨a,oa,oc,Vs,e,h.fr f,h2.fr f,fun j hj=>(kr j hj).fr (h3 j hj) f,h4⟩⟩
theorem z13(m:Nat){Rs:Nat->Rel}(kr:∀j,j<m->bZ (Rs j)):bZ (uG m Rs):=⟨fun⟨a,g,gc,Vs,e,h,h1,h2,h3⟩ k=>⟨a,g,gc,Vs,e,h.old k,Nat.le_trans k h1,h2,fun j hj=>⟨(h3 j hj).1,(kr j hj).old (h3 j hj).2 k⟩⟩,fun⟨a,g,gc,Vs,e,h,h1,h2,h3⟩ f=>⟨a,g,gc,Vs,e,h.fr f,h1,Nat.lt_of_lt_of_le h2 f.s,fun j hj=>⟨(World.cell?_of_block (a:=⟨g,j,none⟩) (f.k g h1 h2)).trans (h3 j hj).1,(kr j hj).fr (h3 j hj).2 f⟩⟩⟩
def um(d:ND):VD:=if d.k=23 then jk d.n else⟨8,d.n,0,⟨#[]⟩,0⟩
theorem zo4(n:Int)(w:World):Calls Tryz.prog 287 #[.int .i64 n] w fun e w'=>e=.returned (VD.v ⟨8,n,0,⟨#[]⟩,0⟩)/\ah w w':=by
 go_in;go_wp2_with fail;exact bodyPost_ret (v:=dI 8 n 0 ⟨#[]⟩ 0) (by simp[results,Tryz.results287,go_sem]) rfl ⟨rfl,q01 _ _⟩
theorem z09(d:ND)(x:NA)(w:World)(hk:d.k=23\/d.k=28):Calls Tryz.prog 233 #[eG d x] w fun e w'=>e=.returned (um d).v/\ah w w':=by
 obtain⟨k,hd⟩:∃k,d.k=k:=⟨_,rfl⟩;unfold um;rw[hd] at hk ⊢;rcases hk with rfl|rfl
 ·rw[if_pos rfl];go_in;go_wp2_with fail;refine(WS d.n _).mono ?_;rintro e w1 ⟨rfl,hb⟩;have hO:=O9 hb;have r0:=hO.1.cell 0 rfl;have r1:=hO.1.cell 1 rfl;have r2:=hO.1.cell 2 rfl;have r3:=hO.1.cell 3 rfl;have r4:=hO.1.cell 4 rfl;have rz:=hO.2;have HB:Hid (ah w w1):=aH (iy _ _ _) hb;clear hb hO;go_wp2_with fail;exact bodyPost_ret (v:=dI 2 d.n 0 ⟨#[]⟩ 0) (by simp[results,Tryz.results233,go_sem,r0,r1,r2,r3,r4]) rfl ⟨rfl,lU HB.out (Nat.le_succ _) _ _ _ _ _⟩
 ·rw[if_neg (by omega)];go_in;go_wp2_with fail;refine(zo4 d.n _).mono ?_;rintro e w1 ⟨rfl,hb⟩;have hO:=O9 hb;have r0:=hO.1.cell 0 rfl;have r1:=hO.1.cell 1 rfl;have r2:=hO.1.cell 2 rfl;have r3:=hO.1.cell 3 rfl;have r4:=hO.1.cell 4 rfl;have rz:=hO.2;have HB:Hid (ah w w1):=aH (iy _ _ _) hb;clear hb hO;go_wp2_with fail;exact bodyPost_ret (v:=dI 8 d.n 0 ⟨#[]⟩ 0) (by simp[results,Tryz.results233,go_sem,r0,r1,r2,r3,r4]) rfl ⟨rfl,lU HB.out (Nat.le_succ _) _ _ _ _ _⟩
theorem X8(M bb:Nat)(d:FD)(x:FA)(i:Nat)(w:World)(h:BB M bb d x w)(hi:i<d.nn)(hk:(d.nd i).k=23\/(d.nd i).k=28):Calls Tryz.prog 183 #[ptr bb,.int .i64 (i:Int)] w fun e w'=>Mks (qb2 (um (d.nd i))) w e w':=by
 have HB:Hid (BB M bb d x w):=h;have b1:=h.b.cell 1 rfl;have hbl:=h.b.1;obtain⟨b,off,e1,hb,c0,c1,c2,c3,c4,c5,c6,c7⟩:=h.node hi;rw[e1] at b1;have HK:Hid ((d.nd i).k=23\/(d.nd i).k=28):=hk;clear h;obtain⟨k,hd⟩:∃k,(d.nd i).k=k:=⟨_,rfl⟩;rw[hd] at c0 hk;have hmf:=mX;rcases hk with rfl|rfl;all_goals
  have hl:=fun W=>z09 (d.nd i) (x.nas i) W HK.out;simp only[eG,hd] at hl;go_in;go_wp2_with fail;refine(hl _).mono ?_;rintro e w1 ⟨rfl,hb1⟩;have HW:Hid (ah w w1):=aH (iy _ _ _) hb1;clear hb1 hl c0 c1 c2 c3 c4 c5 c6 c7 b1 hbl;go_wp2_with fail;go_ret;exact⟨_,_,_,rfl,⟨w1.heap.size,rfl,HW.size,Has.new _ _ _⟩,HW.alloc HW.size _⟩
theorem z23(M bb:Nat)(d:FD)(x:FA)(i:Nat)(w:World)(h:BB M bb d x w)(hi:i<d.nn)(hk:(d.nd i).k=26)(hr:0<(d.nd i).rn):Calls Tryz.prog 183 #[ptr bb,.int .i64 (i:Int)] w fun e w'=>Mks (z38 ((d.nd i).r 0)) w e w':=by
 have b1:=h.b.cell 1 rfl;have hbl:=h.b.1;obtain⟨b,off,e1,hb,c0,c1,c2,c3,c4,c5,c6,c7⟩:=h.node hi;obtain⟨rb,ro,e2,_,hrb,d0⟩:=aX (h.n.2 i hi).1 hr;simp only[Nat.add_zero] at d0;rw[e1] at b1;rw[e2] at c6;rw[hk] at c0;clear h;have hmf:=mX;go_in;go_wp2_with fail;go_ret;refine⟨_,_,_,rfl,⟨w.heap.size+1 + 1,rfl,by omega,?_⟩,yG _ _ _ _⟩;have h3:=Has.new ((w.alloc (.cells #[ptr bb] 110)).alloc (.cells #[.int .i64 26,.int .i64 (d.nd i).l,.int .i64 (d.nd i).o,.int .i64 (d.nd i).n,.float .f64 (d.nd i).f,.string (d.nd i).s,.slice (some ⟨rb,ro,none⟩) (d.nd i).rn (x.nas i).rc,.slice (x.nas i).ka (d.nd i).kn (x.nas i).kc] 98)) #[.int .i64 ((d.nd i).r 0)] 3;rw[World.size_alloc,World.size_alloc] at h3;exact h3
end
section
open Go.RowKit
attribute [local go_sem] aN
attribute [local go_sem ↓] Go.wp_at_zero Go.wp_at_succ
attribute [local go_sem] yH
structure nP(t:TypeId)(w:World)(B:Nat)(Rs:Nat->Rel)(k:Nat)(oa:Option Addr)(oc:Nat)(Vs:Nat->Value)(u:World):Prop where
 b:OwnB u B #[.slice oa k oc]
 r:u.ownsRow (w.heap.size+1) t 1 (.slice oa k oc) k ((List.range k).map Vs)
 l:∀j,j<k->∃(n:Nat) (u1:World),Rs j (Vs j) n u1/\w.heap.size<n/\Fr n u1.heap.size u1 u/\u1.heap.size<=u.heap.size/\(∀q,aj oa=some q->q<n\/u1.heap.size<=q)/\B<n
 z:k=0->oa=none/\oc=0
 k:ah w u
theorem nP.call{t:TypeId}{w:World}{B:Nat}{Rs:Nat->Rel}{k:Nat}{oa:Option Addr}{oc:Nat}{Vs:Nat->Value}{u u':World}(h:nP t w B Rs k oa oc Vs u)(hb:ah u u'):nP t w B Rs k oa oc Vs u':=
 ⟨h.b.block hb.size (hb.block _ h.b.1.1),mZ h.r hb,fun j hj=>by
  obtain⟨n,u1,h1,h2,h3,h4,h5,h6⟩:=h.l j hj;exact⟨n,u1,h1,h2,h3.call (Nat.le_refl _) hb,Nat.le_trans h4 hb.size,h5,h6⟩,h.z,aH h.k hb⟩
theorem nP.mid{t:TypeId}{w:World}{B:Nat}{Rs:Nat->Rel}{k:Nat}{oa:Option Addr}{oc:Nat}{Vs:Nat->Value}{u w7:World}(h:nP t w B Rs k oa oc Vs u)(hB:w.heap.size=B)(hg:u.grownBy w7 (Value.slice oa k oc).ownBlock):OwnB w7 B #[.slice oa k oc]:=by
 rw[dD] at hg;exact h.b.block hg.size (hg.block _ h.b.1.1 (fun e=>by have:=(q16 h.r e.symm).1;omega))
theorem nP.push{t:TypeId}{w:World}{B:Nat}{Rs:Nat->Rel}{k:Nat}{oa:Option Addr}{oc:Nat}{Vs:Nat->Value}{u w7:World}(h:nP t w B Rs k oa oc Vs u)(hB:w.heap.size=B){V v':Value}{n:Nat}{u1:World}(hn1:Rs k V n u1)(hn2:w.heap.size<n)(hn3:Fr n u1.heap.size u1 u)(hn4:u1.heap.size<=u.heap.size)(Ip:∀q,aj oa=some q->q<n\/u1.heap.size<=q)(MB:B<n)(ho:w7.ownsRow (w.heap.size+1) t 1 v' (k+1) (((List.range k).map Vs)++[V]))(hg:u.grownBy w7 (Value.slice oa k oc).ownBlock)(hat:v'.ownBlock=(Value.slice oa k oc).ownBlock\/v'.ownBlock=some u.heap.size):∃gV oc',v'=.slice gV (k+1) oc'/\nP t w B Rs (k+1) gV oc' (fun j=>if j=k then V else Vs j) (w7.setCell ⟨B,0,none⟩ v'):=by
 obtain⟨gV,oc',rfl⟩:=sU ho;rw[dD] at hg;rw[dD,dD] at hat;have hne:∀q,aj gV=some q->q≠B:=fun q e=>by have:=(q16 ho e).1;omega
 have Qv:aj oa≠some B:=fun e=>by have:=(q16 h.r e).1;omega
 have hmv:∀{n:Nat} {u1:World},Fr n u1.heap.size u1 u->u1.heap.size<=u.heap.size->(∀q,aj oa=some q->q<n\/u1.heap.size<=q)->B<n->Fr n u1.heap.size u1 (w7.setCell ⟨B,0,none⟩ (.slice gV (k+1) oc'))/\u1.heap.size<=(w7.setCell ⟨B,0,none⟩ (.slice gV (k+1) oc')).heap.size/\(∀q,aj gV=some q->q<n\/u1.heap.size<=q):=fun hf hs h2 h3=>by
  refine⟨⟨by have:=hg.size;simp;omega,fun q q1 q2=>?_⟩,by have:=hg.size;simp;omega,fun q e=>?_⟩
  ·refine(Below.heap_setCell _ ⟨B,0,none⟩ _ q (by show q≠B;omega)).trans ((hg.block q (by omega) (fun e=>?_)).trans (hf.k q q1 q2));rcases h2 q e.symm with c|c<;>omega
  ·rcases hat with c|c
   ·exact h2 q (c.symm.trans e)
   ·rw[c] at e;have:=Option.some.inj e;omega
 refine⟨gV,oc',rfl,?_,?_,fun j hj=>?_,fun e=>absurd e (by omega),?_⟩
 ·have h1:OwnB w7 B #[.slice oa k oc]:=h.b.block hg.size (hg.block _ h.b.1.1 (fun e=>Qv e.symm));exact h1.set (o:=0) (by show 0<1;omega) _
 ·refine jh ?_ _ (fun q e=>hne q ((dD _ _ _).symm.trans e));have e:((List.range (k+1)).map fun j=>if j=k then V else Vs j)=((List.range k).map Vs)++[V]:=by
   rw[List.range_succ,List.map_append];congr 1
   ·refine List.map_congr_left fun j hj=>?_;have:j<k:=by simpa using hj
    rw[if_neg (by omega)]
   ·simp
  rw[e];exact ho
 ·by_cases c:j=k
  ·subst c;rw[if_pos rfl];obtain⟨m1,m2,m3⟩:=hmv hn3 hn4 Ip MB;exact⟨n,u1,hn1,hn2,m1,m2,m3,MB⟩
  ·rw[if_neg c];obtain⟨n,u1,h1,h2,h3,h4,h5,h6⟩:=h.l j (by omega);obtain⟨m1,m2,m3⟩:=hmv h3 h4 h5 h6;exact⟨n,u1,h1,h2,m1,m2,m3,h6⟩
 ·exact(h.k.grown hg h.k.size (fun q e=>by have:=(q16 h.r e).1;omega)).setCell (by show w.heap.size<=B;omega) _
theorem zc4(bb:Nat)(Rs:Nat->Rel)(a:Option Addr)(n cap:Nat)(ks:Nat->Nat)(w:World)(kp:∀j,j<n->bZ (Rs j))(hn:n<=200)(hk:∀j,j<n->bg 183 bb w (ks j) (Rs j))(hR:aP 1 0 w a n fun j=>#[.int .i64 (ks j:Int)]):Calls Tryz.prog 208 #[ptr bb,.slice a n cap] w fun e w'=>Mks (qa0 n Rs) w e w':=by
 have lI:Hid (∀j,j<n->bZ (Rs j)):=kp;have HK:Hid (∀j,j<n->bg 183 bb w (ks j) (Rs j)):=hk;have HR:Hid (aP 1 0 w a n fun j=>#[.int .i64 (ks j:Int)]):=hR;have hmf:=mX;clear hk hR kp;go_in;go_wp2_with fail;obtain⟨B,hB⟩:∃B,w.heap.size=B:=⟨_,rfl⟩;have H0:Hid (nP 271 w B Rs 0 none 0 (fun _=>.bool false) (w.alloc (.cells #[.slice none 0 0] 334))):=by
  rw[<-hB];exact⟨OwnB.new _ _ _,World.ownsRow_nil _ _ _ _,fun j hj=>by omega,fun _=>⟨rfl,rfl⟩,q01 _ _⟩
 have qM:Hid (w.heap.size=B):=hB;rw[hB];clear hB
 go_loopw [10] (fun i wr=>∃(k:Nat) (oa:Option Addr) (oc:Nat) (Vs:Nat->Value),k<=n/\i=.int .i64 k/\Hid (nP 271 w B Rs k oa oc Vs wr)) (fun i _=>n-(intOf i).toNat)
 case atStart=>exact⟨0,none,0,fun _=>.bool false,Nat.zero_le _,rfl,H0⟩
 case round=>
  clear H0;obtain⟨k,oa,oc,Vs,hk,rfl,HO⟩:=hrel;by_cases hkn:k<n
  ·obtain⟨rb,ro,e2,_,hrb,d0⟩:=aX (aP.below HR.out HO.k) hkn;rw[e2];have b0:=HO.b.1.cell 0 rfl;have bz:=HO.b.2;have hBl:=HO.b.1.1
   go_upto_region 5 with fail
   have pO:Hid (Calls Tryz.prog 183 #[ptr bb,.int .i64 (ks k:Int)] wr.drew fun e u'=>Mks (Rs k) wr.drew e u'):=HK.out k hkn _ HO.k.drew;obtain⟨i0,hi0,hy0,hy1,hy2⟩:=info_parts zd8;have vk:=enters_of Tryz.func183 (by kernel_rfl) rfl
   go_region_law (first
    |(refine LC (by rfl) 183 _ _ _ _ (by rfl) (ptr bb) (.int .i64 (ks k:Int)) (by rfl) (by rfl) vk _ pO.out ?_;rintro e w1 ⟨ff,fx,fy,rfl,hn1,hb1⟩;refine⟨_,rfl,?_⟩;have iI:Hid (nP 271 w B Rs k oa oc Vs (w1.alloc (.cells #[.func ff fx fy] 271))):=((HO.call (Below.refl _ _).drew).call hb1).call (q01 _ _);obtain⟨v',w7,happ,hown,hgrow,_,hat⟩:=run_append_own_at (P:=Tryz.prog) (w1.alloc (.cells #[.func ff fx fy] 271)) (w.heap.size+1) 334 334 271 i0 _ 1 8 Tryz.underlying334 hi0 hy0 hy1 hy2 rfl (by decide) (.slice oa k oc) k ((List.range k).map Vs) iI.r ⟨w1.heap.size,0,none⟩ 1 1 [.func ff fx fy] rfl (cell_one_new _ _ _) (by simp[Value.oneCell']) (by unfold maxLen;omega) (by omega) (by have:=iI.b.1.1;have:=qM.out;omega);obtain⟨gV,oc',rfl,hp⟩:=iI.push qM.out hn1 (by have h9:=qM.out;have h8:B<wr.drew.heap.size:=hBl;omega) ((Fr.refl _ _ _).alloc (Nat.le_refl _) _) (by simp) (fun q e=>.inl (q16 HO.r e).2) (by have h8:B<wr.drew.heap.size:=hBl;exact h8) hown hgrow hat;have HN:Hid (nP 271 w B Rs (k+1) gV oc' (fun j=>if j=k then .func ff fx fy else Vs j) (w7.setCell ⟨B,0,none⟩ (.slice gV (k+1) oc'))):=hp;have b01:=((HO.call (Below.refl _ _).drew).call hb1).b.1.cell 0 rfl;have wY:=((HO.call (Below.refl _ _).drew).call hb1).b.1.1;have b0':=iI.b.1.cell 0 rfl;have iR:=iI.mid qM.out hgrow;have b7:=iR.1.cell 0 rfl;have z7:=iR.2;clear hown hgrow hat hp hn1 hb1 iR)
    |(refine wF (by rfl) _ _ _ _ (by rfl) (.slice oa k oc) (.slice (some ⟨w1.heap.size,0,none⟩) 1 1) _ _ (by rfl) (by rfl) happ ?_))
   all_goals
    clear HO iI pO;go_wp2_with fail;go_roundw
    case rel=>exact⟨k+1,gV,oc',_,by omega,by go_num,HN⟩
    case measure=>simp[intOf];omega
  ·obtain rfl:k=n:=by omega
   go_wp2_with fail;go_ret;refine⟨_,_,_,rfl,⟨B,oa,oc,Vs,rfl,⟨Nat.le_of_eq qM,HO.b.1⟩,fun h0=>?_,fun j hj=>?_,HO.z⟩,HO.k⟩
   ·rcases HO.r.2 with⟨_,h1⟩|⟨g,c,cur,e,h1,h2,_⟩
    ·omega
    ·cases e;refine⟨g,0,rfl,by omega,(Array.getElem?_eq_some_iff.1 h2).1,fun i hi j hj=>?_⟩;obtain rfl:j=0:=by omega
     have:=HO.r.cells (g:=g) rfl i (Vs i) (by simp[hi]);rw[show 0+i*1+0=i by omega]
     cases i<;>simpa[Addr.add] using this
   ·obtain⟨n,u1,h1,h2,h3,h4,h5,h6⟩:=HO.l j hj;exact(lI.out j hj).old ((lI.out j hj).fr h1 h3) (by omega)
theorem z10(bb:Nat)(a:Option Addr)(c:Nat)(w:World):Calls Tryz.prog 180 #[ptr bb,.slice a 0 c] w fun e w'=>Mks IsNil w e w':=by
 go_in;go_wp2_with fail;go_ret;exact⟨_,_,_,rfl,rfl,q01 _ _⟩
theorem zd0(bb:Nat)(R S:Rel)(kb ko kc m i:Nat)(w:World)(kr:bZ R)(ks:bZ S)(hm:m<=300)(hcap:m<kc)(hO:∀u c,ah w u->Calls Tryz.prog 208 #[ptr bb,.slice (some ⟨kb,ko,none⟩) m c] u fun e u'=>Mks R u e u')(hA:bg 173 bb w i S)(hkb:kb<w.heap.size)(hc:w.cell? ⟨kb,ko+m,none⟩=some (.int .i64 (i:Int))):Calls Tryz.prog 180 #[ptr bb,.slice (some ⟨kb,ko,none⟩) (m+1) kc] w fun e w'=>Mks (uf bb R S) w e w':=by
 have HO:Hid (∀u c,ah w u->Calls Tryz.prog 208 #[ptr bb,.slice (some ⟨kb,ko,none⟩) m c] u fun e u'=>Mks R u e u'):=hO;have HA:Hid (bg 173 bb w i S):=hA;have lI:Hid (bZ R/\bZ S):=⟨kr,ks⟩;have hmf:=mX;have hi0:(0:Int)<=(m:Int):=Int.natCast_nonneg _;have hi1:(m:Int)<=(kc:Int):=by omega
 have hi2:(m:Int)<(m:Int)+1:=by omega
 have hm1:((m:Int)<0)=False:=by simp
 have hm2:((m:Int)<=(kc:Int))=True:=by simpa using hi1
 have hi3:(m:Int)<((m+1:Nat):Int):=by omega
 clear hO hA kr ks;go_in
 go_upto_region 4 with fail
 obtain⟨w0,hw0⟩:∃w0,w.alloc (.cells #[ptr bb] 110)=w0:=⟨_,rfl⟩;have HW0:Hid (ah w w0/\Has w0 w.heap.size #[ptr bb]/\w0.heap.size=w.heap.size+1):=by rw[<-hw0];exact⟨q01 _ _,Has.new _ _ _,by simp⟩
 have e0:=HW0.2.1.cell 0 rfl;have e1:w0.cell? ⟨kb,ko+m,none⟩=some (.int .i64 (i:Int)):=(HW0.1.cell (p:=⟨kb,ko+m,none⟩) hkb).trans hc;rw[hw0];have Qz:kb<w0.heap.size:=by have:=HW0.2.2;omega
 have HC:Hid (∀u,ah w0 u->u.cell? ⟨w.heap.size,0,none⟩=some (ptr bb)/\u.cell? ⟨kb,ko+m,none⟩=some (.int .i64 (i:Int))):=fun u hu=>⟨(hu.cell (p:=⟨w.heap.size,0,none⟩) HW0.2.1.1).trans e0,(hu.cell (p:=⟨kb,ko+m,none⟩) Qz).trans e1⟩;clear hw0 hc e0 e1
 go_region_held3 (fun u=>u.cell? ⟨w.heap.size,0,none⟩=some (ptr bb)/\u.cell? ⟨kb,ko+m,none⟩=some (.int .i64 (i:Int))) (first|(refine HC.out _ ?_;(repeat(with_reducible first|exact HB2.out|exact HB1.out|exact iw _|refine gI ?_ _|refine iq ?_|refine q23 ?_ _ (by have h1:=HB1.out.size;have h2:=HB2.out.size;omega)));done))
  (first
  |(go_at_call 208;refine(HO.out _ _ (aH HW0.out.1 ?_)).mono ?_;((repeat(with_reducible first|exact HB2.out|exact HB1.out|exact iw _|refine gI ?_ _|refine iq ?_|refine q23 ?_ _ (by have h1:=HB1.out.size;have h2:=HB2.out.size;omega))));rintro e w1 ⟨f1,x1,y1,rfl,hr1,hb1⟩;obtain⟨n1,hn1,HR1⟩:∃n1,Hid (n1=_)/\Hid (R (.func f1 x1 y1) n1 w1):=⟨_,rfl,hr1⟩;have HB1:Hid (ah w0 w1):=(by refine aH ?_ hb1;(repeat(with_reducible first|exact HB2.out|exact HB1.out|exact iw _|refine gI ?_ _|refine iq ?_|refine q23 ?_ _ (by have h1:=HB1.out.size;have h2:=HB2.out.size;omega))));have fP:Hid (_<=w1.heap.size):=hb1.size;(first|(have hx:=tC hb1;have m1:=hx.b.1.1)|(have hx:=box0 hb1;have m1:=hx.a.1.1;have m2:=Nat.ne_of_lt m1;have m3:=Nat.ne_of_gt m1)|(have hx:=True.intro));clear hb1 hr1)
  |(go_at_call 173;refine(HA.out _ (aH HW0.out.1 ?_)).mono ?_;((repeat(with_reducible first|exact HB2.out|exact HB1.out|exact iw _|refine gI ?_ _|refine iq ?_|refine q23 ?_ _ (by have h1:=HB1.out.size;have h2:=HB2.out.size;omega))));rintro e w2 ⟨f2,x2,y2,rfl,hr2,hb2⟩;obtain⟨n2,hn2,HR2⟩:∃n2,Hid (n2=_)/\Hid (S (.func f2 x2 y2) n2 w2):=⟨_,rfl,hr2⟩;have HB2:Hid (ah w0 w2):=(by refine aH ?_ hb2;(repeat(with_reducible first|exact HB2.out|exact HB1.out|exact iw _|refine gI ?_ _|refine iq ?_|refine q23 ?_ _ (by have h1:=HB1.out.size;have h2:=HB2.out.size;omega))));have Ey:Hid (Below _ _ w2):=hb2;have HS2:Hid (_<=w2.heap.size):=hb2.size;(first|(have hy:=Bp.call hx hb2)|(have hy:=Bo.next hx hb2)|(have hy:=Bo.call hx hb2)|(have hy:=zX hb2)|(have hy:=box1 hb2)|(have hy:=True.intro));(first|(have c1:=hy.a.1.cell 0 rfl;have z1:=hy.a.2;have l1:=hy.a.1.1;have c2:=hy.b.1.cell 0 rfl;have z2:=hy.b.2;have l2:=hy.b.1.1;have n1':=Nat.ne_of_lt l1;have Dx:=Nat.ne_of_gt l1;have Qb:=Nat.ne_of_lt l2;have n4':=Nat.ne_of_gt l2)|(have c1:=hy.a.1.cell 0 rfl;have z1:=hy.a.2;have l1:=hy.a.1.1;have n1':=Nat.ne_of_lt l1;have Dx:=Nat.ne_of_gt l1)|skip);clear hb2 hr2))
 all_goals
  go_wp2_with fail;go_ret;have e1:=hn1.out;have e2:=hn2.out;have s1:=fP.out;have s2:=HS2.out;try simp at e1
  try simp at e2
  try simp at s1
  try simp at s2
  have q1:=HB1.size;have q2:=HB2.size;have q3:=HW0.2.2;have hB2:=HB2.out;have hk9:=HW0.2.1;have hk8:=hk9.call hB2;have r1:=HR1.out;have r2:=HR2.out;have hbb:=Ey.out;obtain⟨kr,ks⟩:=lI.out;refine⟨_,_,_,rfl,⟨_,_,_,_,_,rfl,⟨?_,?_⟩,⟨?_,?_⟩,⟨?_,?_⟩,kr.old (kr.fr r1 ?_) (by omega),ks.old (ks.fr r2 ?_) (by omega)⟩,aH HW0.1 ?_⟩;all_goals(try omega)
  all_goals(repeat(with_reducible first|exact hB2|exact Fr.refl _ _ _|exact Has.new _ _ _|exact uU _ _ _ _|exact KZ _ _ _ _ _|exact hk9|exact hk8|refine Has.alloc ?_ _|refine gI ?_ _|refine q23 ?_ _ (by omega)|exact hy.a|exact hy.b|exact OwnB.new _ _ _|exact q35 _ _ _ _|refine OwnB.alloc ?_ _|refine ER (x:=.nilFunc) ?_|refine Hg ?_ (by omega)|refine uV ?_ (by omega)|refine Fr.set ?_ (by omega)|refine Fr.alloc ?_ (Nat.le_refl _) _|refine Fr.drew ?_|refine Fr.call ?_ (Nat.le_refl _) hbb))
theorem X7(M bb:Nat)(d:FD)(x:FA)(R:Rel)(n:Nat)(w:World)(h:BB M bb d x w)(kr:bZ R)(hn:n<d.nn)(hk:(d.nd n).k=34)(hP:bg 198 bb w n R):Calls Tryz.prog 173 #[ptr bb,.int .i64 (n:Int)] w fun e w'=>Mks (Cm bb R) w e w':=by
 have HP:Hid (bg 198 bb w n R/\bZ R):=⟨hP,kr⟩;have b1:=h.b.cell 1 rfl;have hbl:=h.b.1;obtain⟨b,off,e1,hb,c0,c1,c2,c3,c4,c5,c6,c7⟩:=h.node hn;rw[e1] at b1;rw[hk] at c0;clear h hP kr c1 c2 c3 c4 c5 c6 c7;have hmf:=mX;go_in;go_wp2_with fail;refine(HP.1 _ (q01 _ _)).mono ?_;rintro e w1 ⟨f1,x1,y1,rfl,hr1,hb1⟩;have HW:Hid (R (.func f1 x1 y1) (w.heap.size+1) w1/\ah w w1/\Has w1 w.heap.size #[ptr bb]):=⟨by simpa using hr1,aH (q01 _ _) hb1,(Has.new _ _ _).call hb1⟩;clear b1 hbl c0 hr1 hb1;go_wp2_with fail;go_ret;have hs:=HW.2.1.size;exact⟨_,_,_,rfl,⟨w1.heap.size,w.heap.size,_,rfl,⟨hs,Has.new _ _ _⟩,⟨Nat.le_refl _,HW.2.2.alloc _⟩,HP.2.old (HP.2.call HW.1 (q01 _ _)) (by omega)⟩,HW.2.1.alloc hs _⟩
theorem za4(M bb:Nat)(d:FD)(x:FA)(R:Rel)(n:Nat)(w:World)(h:BB M bb d x w)(kr:bZ R)(hn:n<d.nn)(hk:(d.nd n).k=26)(hP:bg 183 bb w n R):Calls Tryz.prog 173 #[ptr bb,.int .i64 (n:Int)] w fun e w'=>Mks (z39 R) w e w':=by
 have HP:Hid (bg 183 bb w n R/\bZ R):=⟨hP,kr⟩;have b1:=h.b.cell 1 rfl;have hbl:=h.b.1;obtain⟨b,off,e1,hb,c0,c1,c2,c3,c4,c5,c6,c7⟩:=h.node hn;rw[e1] at b1;rw[hk] at c0;clear h hP kr c1 c2 c3 c4 c5 c6 c7;have hmf:=mX;go_in;go_wp2_with fail;refine(HP.1 _ (q01 _ _)).mono ?_;rintro e w1 ⟨f1,x1,y1,rfl,hr1,hb1⟩;have HW:Hid (R (.func f1 x1 y1) (w.heap.size+1) w1/\ah w w1):=⟨by simpa using hr1,aH (q01 _ _) hb1⟩;clear b1 hbl c0 hr1 hb1;go_wp2_with fail;go_ret;have hs:=HW.2.size;exact⟨_,_,_,rfl,⟨w1.heap.size,_,rfl,⟨hs,Has.new _ _ _⟩,HP.2.old (HP.2.call HW.1 (q01 _ _)) (by omega)⟩,HW.2.alloc hs _⟩
theorem qv8(M bb fn nf ub uo uc un c5:Nat)(ua:Option Addr)(nd:Value)(w:World)(hb:Has w bb #[ptr M,nd])(m0:w.cell? ⟨M,0,none⟩=some (.slice (some ⟨ub,uo,none⟩) nf uc))(u5:w.cell? ⟨ub,uo+fn*7+5,none⟩=some (.slice ua un c5))(hM:M<w.heap.size)(hub:ub<w.heap.size)(hfn:fn<nf):Calls Tryz.prog 231 #[ptr bb,.int .i64 (fn:Int)] w fun e w'=>Mks (qJ M (.slice ua un c5) (fn:Int)) w e w':=by
 have b0:=hb.cell 0 rfl;have hbl:=hb.1;have hmf:=mX;have hi0:(0:Int)<=(fn:Int):=Int.natCast_nonneg _;have hi1:(fn:Int)<(nf:Int):=by omega
 clear hb;go_in
 go_upto_region 2 with fail
 obtain⟨w0,hw0⟩:∃w0,(w.alloc (.cells #[.int .i64 (fn:Int)] 3)).alloc (.cells #[ptr M] 39)=w0:=⟨_,rfl⟩;have HW0:Hid (ah w w0/\Has w0 w.heap.size #[.int .i64 (fn:Int)]/\Has w0 (w.heap.size+1) #[ptr M]/\w0.heap.size=w.heap.size+2):=by rw[<-hw0];exact⟨iy _ _ _,(Has.new _ _ _).alloc _,uU _ _ _ _,by simp⟩
 rw[hw0];have e0:=HW0.2.1.cell 0 rfl;have e1:=HW0.2.2.1.cell 0 rfl;have m0':=(HW0.1.cell (p:=⟨M,0,none⟩) hM).trans m0;have Vz:=(HW0.1.cell (p:=⟨ub,uo+fn*7+5,none⟩) hub).trans u5;have hs0:=HW0.2.2.2;have HC:Hid (∀u,ah w0 u->u.cell? ⟨w.heap.size,0,none⟩=some (.int .i64 (fn:Int))/\u.cell? ⟨w.heap.size+1,0,none⟩=some (ptr M)/\u.cell? ⟨M,0,none⟩=some (.slice (some ⟨ub,uo,none⟩) nf uc)/\u.cell? ⟨ub,uo+fn*7+5,none⟩=some (.slice ua un c5)):=fun u hu=>⟨(HW0.2.1.call hu).cell 0 rfl,(HW0.2.2.1.call hu).cell 0 rfl,(hu.cell (p:=⟨M,0,none⟩) (by show M<w0.heap.size;omega)).trans m0',(hu.cell (p:=⟨ub,uo+fn*7+5,none⟩) (by show ub<w0.heap.size;omega)).trans Vz⟩;clear hw0 b0 m0 u5 e0 e1 m0' Vz hs0
 go_region_held3 (fun u=>u.cell? ⟨w.heap.size,0,none⟩=some (.int .i64 (fn:Int))/\u.cell? ⟨w.heap.size+1,0,none⟩=some (ptr M)/\u.cell? ⟨M,0,none⟩=some (.slice (some ⟨ub,uo,none⟩) nf uc)/\u.cell? ⟨ub,uo+fn*7+5,none⟩=some (.slice ua un c5)) (first|(refine HC.out _ ?_;(repeat(with_reducible first|exact iw _|refine gI ?_ _|refine iq ?_));done)) (fail)
 all_goals
  go_wp2_with fail;go_ret;have h1:=HW0.out;refine⟨_,_,_,rfl,⟨w.heap.size+1,w0.heap.size,w.heap.size,rfl,⟨by omega,?_⟩,⟨by omega,?_⟩,⟨by omega,?_⟩⟩,?_⟩
  ·(first|exact(h1.2.2.1.alloc _)|exact(h1.2.2.1.drew.alloc _))
  ·exact Has.new _ _ _
  ·(first|exact(h1.2.1.alloc _)|exact(h1.2.1.drew.alloc _))
  ·(first|exact gI h1.1 _|exact gI h1.1.drew _)
theorem WX(M bb:Nat)(d:FD)(x:FA)(R:Rel)(n fn:Nat)(w:World)(h:BB M bb d x w)(kr:bZ R)(hn:n<d.nn)(hk:(d.nd n).k=36)(hr:0<(d.nd n).rn)(hr0:(d.nd n).r 0=(fn:Int))(hC:bg 231 bb w fn R):Calls Tryz.prog 183 #[ptr bb,.int .i64 (n:Int)] w fun e w'=>Mks R w e w':=by
 have HP:Hid (bg 231 bb w fn R/\bZ R):=⟨hC,kr⟩;have b1:=h.b.cell 1 rfl;have hbl:=h.b.1;obtain⟨b,off,e1,hb,c0,c1,c2,c3,c4,c5,c6,c7⟩:=h.node hn;obtain⟨rb,ro,e2,_,hrb,d0⟩:=aX (h.n.2 n hn).1 hr;simp only[Nat.add_zero] at d0;rw[hr0] at d0;rw[e1] at b1;rw[e2] at c6;rw[hk] at c0;clear h hC kr;go_in
 go_upto_region 24 with fail
 obtain⟨w0,hw0⟩:∃w0,(w.alloc (.cells #[ptr bb] 110)).alloc (.cells #[.int .i64 36,.int .i64 (d.nd n).l,.int .i64 (d.nd n).o,.int .i64 (d.nd n).n,.float .f64 (d.nd n).f,.string (d.nd n).s,.slice (some ⟨rb,ro,none⟩) (d.nd n).rn (x.nas n).rc,.slice (x.nas n).ka (d.nd n).kn (x.nas n).kc] 98)=w0:=⟨_,rfl⟩;have HW0:Hid (ah w w0/\Has w0 w.heap.size #[ptr bb]/\w0.cell? ⟨w.heap.size+1,6,none⟩=some (.slice (some ⟨rb,ro,none⟩) (d.nd n).rn (x.nas n).rc)/\w0.heap.size=w.heap.size+2):=by rw[<-hw0];exact⟨iy _ _ _,(Has.new _ _ _).alloc _,(uU _ _ _ _).cell 6 rfl,by simp⟩
 have d0':=(HW0.1.cell (p:=⟨rb,ro,none⟩) hrb).trans d0;have HC:Hid (∀u,ah w0 u->u.cell? ⟨w.heap.size,0,none⟩=some (ptr bb)/\u.cell? ⟨w.heap.size+1,6,none⟩=some (.slice (some ⟨rb,ro,none⟩) (d.nd n).rn (x.nas n).rc)/\u.cell? ⟨rb,ro,none⟩=some (.int .i64 (fn:Int))):=fun u hu=>⟨(HW0.2.1.call hu).cell 0 rfl,(hu.cell (p:=⟨w.heap.size+1,6,none⟩) (by show w.heap.size+1<w0.heap.size;have:=HW0.2.2.2;omega)).trans HW0.2.2.1,(hu.cell (p:=⟨rb,ro,none⟩) (by show rb<w0.heap.size;have:=HW0.2.2.2;omega)).trans d0'⟩;rw[hw0];clear hw0 b1 c0 c1 c2 c3 c4 c5 c6 c7 d0 d0'
 go_region_held3 (fun u=>u.cell? ⟨w.heap.size,0,none⟩=some (ptr bb)/\u.cell? ⟨w.heap.size+1,6,none⟩=some (.slice (some ⟨rb,ro,none⟩) (d.nd n).rn (x.nas n).rc)/\u.cell? ⟨rb,ro,none⟩=some (.int .i64 (fn:Int))) (first|(refine HC.out _ ?_;(repeat(with_reducible first|exact HB1.out|exact iw _|refine gI ?_ _|refine iq ?_));done)) (first|(go_at_call 231;refine(HP.out.1 _ HW0.out.1.drew).mono ?_;rintro e w1 ⟨f1,x1,y1,rfl,hr1,hb1⟩;have HW:Hid (R (.func f1 x1 y1) w.heap.size w1/\ah w w1):=⟨HP.out.2.old hr1 (by have h9:=HW0.out.1.size;exact h9),aH HW0.out.1.drew hb1⟩;have HB1:Hid (ah w0 w1):=aH (iw w0).drew hb1;clear hr1 hb1))
 all_goals
  go_wp2_with fail;go_ret;exact⟨_,_,_,rfl,HW.1,HW.2⟩
abbrev uY(k:Int)(q:ND)(y:NA)(ka:Option Addr)(kn:Nat):Array Value:=#[.int .i64 k,.int .i64 q.l,.int .i64 q.o,.int .i64 q.n,.float .f64 q.f,.string q.s,.slice y.ra q.rn y.rc,.slice ka kn y.kc]
theorem vY{q:ND}{y:NA}{k:Int}{ka:Option Addr}{kn:Nat}(h1:q.k=k)(h2:y.ka=ka)(h3:q.kn=kn):eG q y=.agg (uY k q y ka kn)/\dJ q y=uY k q y ka kn:=by
 subst h1 h2 h3;exact⟨rfl,rfl⟩
theorem Xd(bb:Nat)(S:Rel)(q:ND)(y:NA)(kb ko n:Nat)(w:World)(ks:bZ S)(hk:q.k=4)(hkn:0<q.kn)(hka:y.ka=some ⟨kb,ko,none⟩)(hkb:kb<w.heap.size)(hc:w.cell? ⟨kb,ko,none⟩=some (.int .i64 (n:Int)))(hA:bg 173 bb w n S):Calls Tryz.prog 146 #[ptr bb,eG q y] w fun e w'=>Mks (xR S) w e w':=by
 have HP:Hid (bg 173 bb w n S/\bZ S):=⟨hA,ks⟩;have hmf:=mX;rw[(vY hk hka rfl).1];have hkn':(0:Int)<(q.kn:Int):=by omega
 clear hA ks hk hka;go_in
 go_upto_region 7 with fail
 obtain⟨w0,hw0⟩:∃w0,(w.alloc (.cells #[ptr bb] 110)).alloc (.cells (uY 4 q y (some ⟨kb,ko,none⟩) q.kn) 98)=w0:=⟨_,rfl⟩;have HW0:Hid (ah w w0/\Has w0 w.heap.size #[ptr bb]/\w0.cell? ⟨w.heap.size+1,7,none⟩=some (.slice (some ⟨kb,ko,none⟩) q.kn y.kc)/\w0.heap.size=w.heap.size+2):=by rw[<-hw0];exact⟨iy _ _ _,(Has.new _ _ _).alloc _,(uU _ _ _ _).cell 7 rfl,by simp⟩
 rw[hw0];have HC:Hid (∀u,ah w0 u->u.cell? ⟨w.heap.size,0,none⟩=some (ptr bb)/\u.cell? ⟨w.heap.size+1,7,none⟩=some (.slice (some ⟨kb,ko,none⟩) q.kn y.kc)/\u.cell? ⟨kb,ko,none⟩=some (.int .i64 (n:Int))):=fun u hu=>⟨(HW0.2.1.call hu).cell 0 rfl,(hu.cell (p:=⟨w.heap.size+1,7,none⟩) (by show w.heap.size+1<w0.heap.size;have:=HW0.2.2.2;omega)).trans HW0.2.2.1,(hu.cell (p:=⟨kb,ko,none⟩) (by show kb<w0.heap.size;have:=HW0.2.2.2;omega)).trans ((HW0.1.cell (p:=⟨kb,ko,none⟩) hkb).trans hc)⟩;clear hw0 hc
 go_region_held3 (fun u=>u.cell? ⟨w.heap.size,0,none⟩=some (ptr bb)/\u.cell? ⟨w.heap.size+1,7,none⟩=some (.slice (some ⟨kb,ko,none⟩) q.kn y.kc)/\u.cell? ⟨kb,ko,none⟩=some (.int .i64 (n:Int))) (first|(refine HC.out _ ?_;(repeat(with_reducible first|exact HB1.out|exact iw _|refine gI ?_ _|refine iq ?_|refine q23 ?_ _ (by have h1:=HB1.out.size;omega)));done))
  (first
  |(go_at_call 173;refine(HP.out.1 _ (aH HW0.out.1 ?_)).mono ?_;((repeat(with_reducible first|exact iw _|refine gI ?_ _|refine iq ?_)));rintro e w1 ⟨f1,x1,y1,rfl,hr1,hb1⟩;obtain⟨n1,hn1,HR1⟩:∃n1,Hid (n1=_)/\Hid (S (.func f1 x1 y1) n1 w1):=⟨_,rfl,hr1⟩;have HB1:Hid (ah w0 w1):=(by refine aH ?_ hb1;(repeat(with_reducible first|exact iw _|refine gI ?_ _|refine iq ?_)));(first|(have hy:=box0 hb1;have c1:=hy.a.1.cell 0 rfl;have z1:=hy.a.2;have l1:=hy.a.1.1;have HN:Hid (OwnB w1 w0.heap.size #[.nilFunc]):=hy.a)|skip);clear hb1 hr1))
 all_goals
  go_wp2_with fail;go_ret;have e1:=hn1.out;try simp at e1
  have q1:=HB1.size;have q3:=HW0.2.2.2;have ks:=HP.2;have r1:=HR1.out
  first
  |exact⟨_,_,_,rfl,⟨w1.heap.size,_,rfl,⟨by omega,Has.new _ _ _⟩,ks.old (ks.call r1 (q01 _ _)) (by omega)⟩,aH HW0.1 (gI HB1.out _)⟩
  |exact⟨_,_,_,rfl,⟨w0.heap.size,_,rfl,⟨by omega,ER HN.out⟩,ks.old (ks.fr r1 ((Fr.refl _ _ _).set (by omega))) (by omega)⟩,aH HW0.1 (q23 HB1.out _ (Nat.le_refl _))⟩
theorem qu1(bb:Nat)(S:Rel)(q:ND)(y:NA)(w:World)(ks:bZ S)(hk:q.k=12)(hL:∀u,ah w u->Calls Tryz.prog 182 #[ptr bb,eG q y] u fun e u'=>Mks S u e u'):Calls Tryz.prog 146 #[ptr bb,eG q y] w fun e w'=>Mks S w e w':=by
 rw[(vY hk rfl rfl).1] at hL ⊢;have HP:Hid ((∀u,ah w u->Calls Tryz.prog 182 #[ptr bb,.agg (uY 12 q y y.ka q.kn)] u fun e u'=>Mks S u e u')/\bZ S):=⟨hL,ks⟩;clear hL ks hk;go_in;go_wp2_with fail;refine(HP.1 _ (iy _ _ _)).mono ?_;rintro e w1 ⟨f1,x1,y1,rfl,hr1,hb1⟩;have HW:Hid (S (.func f1 x1 y1) w.heap.size w1/\ah w w1):=⟨HP.2.old hr1 (by simp;omega),aH (iy _ _ _) hb1⟩;clear hr1 hb1;go_wp2_with fail;go_ret;exact⟨_,_,_,rfl,HW.1,HW.2⟩
theorem LD(M bb:Nat)(d:FD)(x:FA)(R:Rel)(s:Nat)(w:World)(h:BB M bb d x w)(kr:bZ R)(hs:s<d.nn)(hk:(d.nd s).k≠1)(hA:∀u,ah w u->Calls Tryz.prog 146 #[ptr bb,eG (d.nd s) (x.nas s)] u fun e u'=>Mks R u e u'):Calls Tryz.prog 86 #[ptr bb,.int .i64 (s:Int)] w fun e w'=>Mks (oO bb (dJ (d.nd s) (x.nas s)) R) w e w':=by
 have b1:=h.b.cell 1 rfl;have hbl:=h.b.1;obtain⟨b,off,e1,hb,c0,c1,c2,c3,c4,c5,c6,c7⟩:=h.node hs;rw[e1] at b1;simp only[eG] at hA;have HA:Hid _:=hA;have lI:Hid (bZ R):=kr;have hk1:((d.nd s).k==1)=false:=by simpa using hk
 clear h hA kr;have hmf:=mX;go_in;go_wp2_with fail;refine(HA _ (iy _ _ _)).mono ?_;rintro e w1 ⟨f1,x1,y1,rfl,hr1,hb1⟩;have HW:Hid (R (.func f1 x1 y1) w.heap.size w1/\ah w w1/\Has w1 w.heap.size #[ptr bb]/\Has w1 (w.heap.size+1) (dJ (d.nd s) (x.nas s))):=⟨lI.old hr1 (by simp;omega),aH (iy _ _ _) hb1,((Has.new _ _ _).alloc _).call hb1,(uU _ _ _ _).call hb1⟩;clear hr1 hb1 b1 hbl c0 c1 c2 c3 c4 c5 c6 c7 HA;go_wp2_with fail;go_ret;obtain⟨q1,q2,q3,q4⟩:=HW.out;have hs:=q2.size;exact⟨_,_,_,rfl,⟨w.heap.size,w.heap.size+1,w1.heap.size,_,rfl,⟨Nat.le_refl _,q3.alloc _⟩,⟨by omega,q4.alloc _⟩,⟨hs,Has.new _ _ _⟩,lI.call q1 (q01 _ _)⟩,q2.alloc hs _⟩
theorem PW(M bb:Nat)(d:FD)(x:FA)(R:Rel)(s:Nat)(w:World)(h:BB M bb d x w)(kr:bZ R)(hs:s<d.nn)(hk:(d.nd s).k=1)(hA:∀u,ah w u->Calls Tryz.prog 145 #[ptr bb,eG (d.nd s) (x.nas s)] u fun e u'=>Mks R u e u'):Calls Tryz.prog 86 #[ptr bb,.int .i64 (s:Int)] w fun e w'=>Mks R w e w':=by
 have b1:=h.b.cell 1 rfl;have hbl:=h.b.1;obtain⟨b,off,e1,hb,c0,c1,c2,c3,c4,c5,c6,c7⟩:=h.node hs;rw[e1] at b1;rw[(vY hk rfl rfl).1] at hA;have HA:Hid _:=hA;have lI:Hid (bZ R):=kr;rw[hk] at c0;clear h hA kr hk;go_in;go_wp2_with fail;refine(HA _ (iy _ _ _)).mono ?_;rintro e w1 ⟨f1,x1,y1,rfl,hr1,hb1⟩;have HW:Hid (R (.func f1 x1 y1) w.heap.size w1/\ah w w1):=⟨lI.old hr1 (by simp;omega),aH (iy _ _ _) hb1⟩;clear hr1 hb1 b1 hbl c0 c1 c2 c3 c4 c5 c6 c7 HA;go_wp2_with fail;go_ret;exact⟨_,_,_,rfl,HW.1,HW.2⟩
theorem WW(M bb:Nat)(d:FD)(x:FA)(Rs:Nat->Rel)(q:ND)(y:NA)(n:Nat)(ks:Nat->Nat)(w:World)(h:BB M bb d x w)(kp:∀j,j<n->bZ (Rs j))(hn0:1<=n)(hn:n<=200)(hkn:q.kn=n)(hk:∀j,j<n->ks j<d.nn/\(d.nd (ks j)).k≠14/\bg 86 bb w (ks j) (Rs j))(hR:aP 1 0 w y.ka n fun j=>#[.int .i64 (ks j:Int)]):Calls Tryz.prog 145 #[ptr bb,eG q y] w fun e w'=>Mks (uG n Rs) w e w':=by
 have lI:Hid (∀j,j<n->bZ (Rs j)):=kp;have HB0:Hid (BB M bb d x w/\1<=n):=⟨h,hn0⟩;have HK:Hid (∀j,j<n->ks j<d.nn/\(d.nd (ks j)).k≠14/\bg 86 bb w (ks j) (Rs j)):=hk;have HR:Hid (aP 1 0 w y.ka n fun j=>#[.int .i64 (ks j:Int)]):=hR;have hmf:=mX;rw[(vY rfl rfl hkn).1];clear hk hR kp h hkn hn0;go_in;go_wp2_with fail;obtain⟨w0,hw0⟩:∃w0,w.alloc (.cells (uY q.k q y y.ka n) 98)=w0:=⟨_,rfl⟩;have HW0:Hid (ah w w0/\w0.heap.size=w.heap.size+1):=by rw[<-hw0];exact⟨q01 _ _,by simp⟩
 rw[hw0];have e7:Hid (w.heap.size+1=w0.heap.size):=HW0.2.symm;rw[e7.out];clear hw0;obtain⟨B,hB⟩:∃B,w0.heap.size=B:=⟨_,rfl⟩;have H0:Hid (nP 109 w0 B Rs 0 none 0 (fun _=>.bool false) (w0.alloc (.cells #[.slice none 0 0] 60))):=by
  rw[<-hB];exact⟨OwnB.new _ _ _,World.ownsRow_nil _ _ _ _,fun j hj=>by omega,fun _=>⟨rfl,rfl⟩,q01 _ _⟩
 have qM:Hid (w0.heap.size=B):=hB;rw[hB];clear hB
 go_loopw [6,12] (fun v i wr=>v=.bool false/\∃(k:Nat) (oa:Option Addr) (oc:Nat) (Vs:Nat->Value),k<=n/\i=.int .i64 k/\Hid (nP 109 w0 B Rs k oa oc Vs wr)) (fun _ i _=>n-(intOf i).toNat)
 case atStart=>exact⟨rfl,0,none,0,fun _=>.bool false,Nat.zero_le _,rfl,H0⟩
 case round=>
  clear H0;obtain⟨rfl,k,oa,oc,Vs,hk,rfl,HO⟩:=hrel;by_cases hkn:k<n
  ·have hbw:ah w wr:=aH HW0.1 HO.k;obtain⟨rb,ro,e2,_,hrb,d0⟩:=aX (aP.below HR.out hbw) hkn;rw[e2];have b0:=HO.b.1.cell 0 rfl;have bz:=HO.b.2;have hBl:=HO.b.1.1
   go_upto_region 6 with fail
   have pO:Hid (Calls Tryz.prog 86 #[ptr bb,.int .i64 (ks k:Int)] wr.drew fun e u'=>Mks (Rs k) wr.drew e u'):=(HK.out k hkn).2.2 _ hbw.drew;have SN:Hid (BB M bb d x wr.drew):=HB0.1.call hbw.drew;obtain⟨i0,hi0,hy0,hy1,hy2⟩:=info_parts Pq;have vk:=enters_of Tryz.func86 (by kernel_rfl) rfl
   go_region_law (first
    |(refine LC (by rfl) 86 _ _ _ _ (by rfl) (ptr bb) (.int .i64 (ks k:Int)) (by rfl) (by rfl) vk _ pO.out ?_;rintro e w1 ⟨ff,fx,fy,rfl,hn1,hb1⟩;refine⟨_,rfl,?_⟩;have iI:Hid (nP 109 w0 B Rs k oa oc Vs (w1.alloc (.cells #[.func ff fx fy] 109))):=((HO.call (Below.refl _ _).drew).call hb1).call (q01 _ _);obtain⟨v',w7,happ,hown,hgrow,_,hat⟩:=run_append_own_at (P:=Tryz.prog) (w1.alloc (.cells #[.func ff fx fy] 109)) (w0.heap.size+1) 60 60 109 i0 _ 1 8 Tryz.underlying60 hi0 hy0 hy1 hy2 rfl (by decide) (.slice oa k oc) k ((List.range k).map Vs) iI.r ⟨w1.heap.size,0,none⟩ 1 1 [.func ff fx fy] rfl (cell_one_new _ _ _) (by simp[Value.oneCell']) (by unfold maxLen;omega) (by omega) (by have:=iI.b.1.1;have:=qM.out;omega);obtain⟨gV,oc',rfl,hp⟩:=iI.push qM.out hn1 (by have h9:=qM.out;have h8:B<wr.drew.heap.size:=hBl;omega) ((Fr.refl _ _ _).alloc (Nat.le_refl _) _) (by simp) (fun q e=>.inl (q16 HO.r e).2) (by have h8:B<wr.drew.heap.size:=hBl;exact h8) hown hgrow hat;have HN:Hid (nP 109 w0 B Rs (k+1) gV oc' (fun j=>if j=k then .func ff fx fy else Vs j) (w7.setCell ⟨B,0,none⟩ (.slice gV (k+1) oc'))):=hp;have b01:=((HO.call (Below.refl _ _).drew).call hb1).b.1.cell 0 rfl;have wY:=((HO.call (Below.refl _ _).drew).call hb1).b.1.1;have b0':=iI.b.1.cell 0 rfl;have iR:=iI.mid qM.out hgrow;have b7:=iR.1.cell 0 rfl;have z7:=iR.2;clear hown hgrow hat hp hn1 hb1 iR)
    |(refine wF (by rfl) _ _ _ _ (by rfl) (.slice oa k oc) (.slice (some ⟨w1.heap.size,0,none⟩) 1 1) _ _ (by rfl) (by rfl) happ ?_))
   all_goals
    clear HO iI pO;obtain⟨w8,hw8⟩:∃w8,w7.setCell ⟨B,0,none⟩ (.slice gV (k+1) oc')=w8:=⟨_,rfl⟩;rw[hw8] at HN;rw[hw8];have Ew:Hid (BB M bb d x w8):=HB0.1.call (aH HW0.1 HN.k);clear hw8 happ b01 wY b0' b7 z7 b0 bz hBl d0 hi0 hy0 hy1 hy2 vk SN hbw;have b1:=Ew.b.cell 1 rfl;have hbl:=Ew.b.1;have hsk:=(HK.out k hkn).2.1;have hsl:=(HK.out k hkn).1;obtain⟨b,off,e1,hb,c0,c1,c2,c3,c4,c5,c6,c7⟩:=Ew.node hsl;rw[e1] at b1;clear c1 c2 c3 c4 c5 c6 c7;go_wp2_with fail;go_roundw
    case rel=>exact⟨by simp[hsk],k+1,gV,oc',_,by omega,by go_num,HN⟩
    case measure=>simp[intOf];omega
  ·obtain rfl:k=n:=by omega
   go_wp2_with fail;go_ret;have h9:=qM.out;have h8:=HW0.2;have h7:=HB0.2;rcases HO.r.2 with⟨_,h1⟩|⟨g,c,cur,e,h1,h2,_⟩
   ·omega
   ·cases e;refine⟨_,_,_,rfl,⟨B,g,oc,Vs,rfl,⟨by omega,HO.b.1⟩,by omega,(Array.getElem?_eq_some_iff.1 h2).1,fun j hj=>⟨?_,?_⟩⟩,aH HW0.1 HO.k⟩
    ·have:=HO.r.cells (g:=g) rfl j (Vs j) (by simp[hj])
     cases j<;>simpa[Addr.add] using this
    ·obtain⟨n,u1,h1,h2,h3,h4,h5,h6⟩:=HO.l j hj;exact(lI.out j hj).old ((lI.out j hj).fr h1 h3) (by omega)
theorem WA(M bb:Nat)(d:FD)(x:FA)(R:Rel)(n:Nat)(w:World)(h:BB M bb d x w)(hn:d.nn=n+1)(hn2:n<=3000)(hS:bg 86 bb w n R):Calls Tryz.prog 47 #[ptr bb] w fun e w'=>Mks R w e w':=by
 have b1:=h.b.cell 1 rfl;have hbl:=h.b.1;rw[hn] at b1;have HS:Hid (bg 86 bb w n R):=hS;clear h hS hn;go_in;go_wp2_with fail;refine(HS _ (iw _)).mono ?_;rintro e w1 ⟨f1,x1,y1,rfl,hr1,hb1⟩;have HW:Hid (R (.func f1 x1 y1) w.heap.size w1/\ah w w1):=⟨hr1,hb1⟩;clear hr1 hb1 b1 hbl;go_wp2_with fail;go_ret;exact⟨_,_,_,rfl,HW.1,HW.2⟩
theorem qn0(M ub uo uc nf fn:Nat)(d:FD)(x:FA)(w:World)(m0:w.cell? ⟨M,0,none⟩=some (.slice (some ⟨ub,uo,none⟩) nf uc))(hfn:fn<nf)(u6:w.cell? ⟨ub,uo+fn*7+6,none⟩=some (.slice x.na d.nn x.nc))(hN:bV 0 w d.nn d.nd x.na x.nas):Calls Tryz.prog 46 #[ptr M,.int .i64 (fn:Int)] w fun e w'=>∃bb,e=.returned (ptr bb)/\w.heap.size<=bb/\BB M bb d x w'/\ah w w':=by
 have HN:Hid (bV 0 w d.nn d.nd x.na x.nas):=hN;have hi0:(0:Int)<=(fn:Int):=Int.natCast_nonneg _;have hi1:(fn:Int)<(nf:Int):=by omega
 clear hN;go_in;go_wp2_with fail;go_ret;exact⟨w.heap.size,rfl,Nat.le_refl _,⟨Has.new _ _ _,HN.alloc _⟩,q01 _ _⟩
theorem qn9(M bb:Nat)(d:FD)(x:FA)(R:Rel)(n i:Nat)(w:World)(h:BB M bb d x w)(kr:bZ R)(hn:n<d.nn)(h2:(d.nd n).kn=1)(h0:(d.nd n).c 0=(i:Int))(hcap:1<=(x.nas n).kc)(hE:bg 183 bb w i R):Calls Tryz.prog 198 #[ptr bb,.int .i64 (n:Int)] w fun e w'=>Mks (vZ R IsNil) w e w':=by
 have HE:Hid (bg 183 bb w i R):=hE;have lI:Hid (bZ R/\bZ IsNil):=⟨kr,GX⟩;have hmf:=mX;have b1:=h.b.cell 1 rfl;have hbl:=h.b.1;obtain⟨b,off,e1,hb,c0,c1,c2,c3,c4,c5,c6,c7⟩:=h.node hn;rw[e1] at b1;rw[h2] at c7;obtain⟨kb,ko,e2,_,hkb,d0⟩:=aX (h.n.2 n hn).2 (k:=0) (by omega);rw[h0] at d0;rw[e2] at c7;simp only[Nat.add_zero] at d0;generalize hkc:(x.nas n).kc=kc at *;clear h c0 c1 c2 c3 c4 c5 c6 e1 e2 h2 h0 hkc hE kr;have HC:Hid (∀u,ah w u->u.cell? ⟨kb,ko,none⟩=some (.int .i64 (i:Int))):=fun u hu=>(hu.cell (p:=⟨kb,ko,none⟩) hkb).trans d0;rcases(show kc=1\/¬(kc-1=0) by omega) with rfl|hi4;all_goals
  go_in
  go_upto_region 2 with fail
  clear b1 c7 d0 hbl hb
  go_region_held3 (fun u=>u.cell? ⟨kb,ko,none⟩=some (.int .i64 (i:Int))) (first|(refine HC.out _ ?_;(repeat(with_reducible first|exact HB2.out|exact HB1.out|exact iw _|refine gI ?_ _|refine iq ?_|refine q23 ?_ _ (by have h1:=HB1.out.size;have h2:=HB2.out.size;omega)));done))
   (first
   |(go_at_call 183;refine(HE.out _ ?_).mono ?_;((repeat(with_reducible first|exact HB2.out|exact HB1.out|exact iw _|refine gI ?_ _|refine iq ?_|refine q23 ?_ _ (by have h1:=HB1.out.size;have h2:=HB2.out.size;omega))));rintro e w1 ⟨f1,x1,y1,rfl,hr1,hb1⟩;obtain⟨n1,hn1,HR1⟩:∃n1,Hid (n1=_)/\Hid (R (.func f1 x1 y1) n1 w1):=⟨_,rfl,hr1⟩;have HB1:Hid (ah w w1):=(by refine aH ?_ hb1;(repeat(with_reducible first|exact HB2.out|exact HB1.out|exact iw _|refine gI ?_ _|refine iq ?_|refine q23 ?_ _ (by have h1:=HB1.out.size;have h2:=HB2.out.size;omega))));have fP:Hid (_<=w1.heap.size):=hb1.size;(first|(have hx:=tC hb1;have m1:=hx.b.1.1)|(have hx:=box0 hb1;have m1:=hx.a.1.1;have m2:=Nat.ne_of_lt m1;have m3:=Nat.ne_of_gt m1)|(have hx:=True.intro));clear hb1 hr1)
   |(go_at_call 180;refine(z10 bb _ _ _).mono ?_;(try(repeat(with_reducible first|exact HB2.out|exact HB1.out|exact iw _|refine gI ?_ _|refine iq ?_|refine q23 ?_ _ (by have h1:=HB1.out.size;have h2:=HB2.out.size;omega))));rintro e w2 ⟨f2,x2,y2,rfl,hr2,hb2⟩;obtain⟨n2,hn2,HR2⟩:∃n2,Hid (n2=_)/\Hid (IsNil (.func f2 x2 y2) n2 w2):=⟨_,rfl,hr2⟩;have HB2:Hid (ah w w2):=(by refine aH ?_ hb2;(repeat(with_reducible first|exact HB2.out|exact HB1.out|exact iw _|refine gI ?_ _|refine iq ?_|refine q23 ?_ _ (by have h1:=HB1.out.size;have h2:=HB2.out.size;omega))));have Ey:Hid (Below _ _ w2):=hb2;have HS2:Hid (_<=w2.heap.size):=hb2.size;(first|(have hy:=Bp.call hx hb2)|(have hy:=Bo.next hx hb2)|(have hy:=Bo.call hx hb2)|(have hy:=zX hb2)|(have hy:=box1 hb2)|(have hy:=True.intro));(first|(have c1:=hy.a.1.cell 0 rfl;have z1:=hy.a.2;have l1:=hy.a.1.1;have c2:=hy.b.1.cell 0 rfl;have z2:=hy.b.2;have l2:=hy.b.1.1;have n1':=Nat.ne_of_lt l1;have Dx:=Nat.ne_of_gt l1;have Qb:=Nat.ne_of_lt l2;have n4':=Nat.ne_of_gt l2)|(have c1:=hy.a.1.cell 0 rfl;have z1:=hy.a.2;have l1:=hy.a.1.1;have n1':=Nat.ne_of_lt l1;have Dx:=Nat.ne_of_gt l1)|skip);clear hb2 hr2))
  all_goals
   go_wp2_with fail;go_ret;have e1:=hn1.out;have e2:=hn2.out;have s1:=fP.out;have s2:=HS2.out;try simp at e1
   try simp at e2
   try simp at s1
   try simp at s2
   have q1:=HB1.size;have q2:=HB2.size;have hk9:=True.intro;have hk8:=True.intro;have r1:=HR1.out;have r2:=HR2.out;have hbb:=Ey.out;have hB2:=HB2.out;obtain⟨kr,ks⟩:=lI.out;refine⟨_,_,_,rfl,⟨_,_,_,_,rfl,⟨?_,?_⟩,⟨?_,?_⟩,kr.old (kr.fr r1 ?_) (by omega),ks.old (ks.fr r2 ?_) (by omega)⟩,?_⟩;all_goals(try omega)
   all_goals(repeat(with_reducible first|exact hB2|exact Fr.refl _ _ _|exact Has.new _ _ _|exact uU _ _ _ _|exact KZ _ _ _ _ _|exact hk9|exact hk8|refine Has.alloc ?_ _|refine gI ?_ _|refine q23 ?_ _ (by omega)|exact hy.a|exact hy.b|exact OwnB.new _ _ _|exact q35 _ _ _ _|refine OwnB.alloc ?_ _|refine ER (x:=.nilFunc) ?_|refine Hg ?_ (by omega)|refine uV ?_ (by omega)|refine Fr.set ?_ (by omega)|refine Fr.alloc ?_ (Nat.le_refl _) _|refine Fr.drew ?_|refine Fr.call ?_ (Nat.le_refl _) hbb))
theorem qc4(M bb:Nat)(d:FD)(x:FA)(R S:Rel)(n i m:Nat)(w:World)(h:BB M bb d x w)(kr:bZ R)(ks:bZ S)(hn:n<d.nn)(h2:(d.nd n).kn=m+1)(h0:(d.nd n).c 0=(i:Int))(h1:1<=m)(hm:m<=200)(hcap:m<(x.nas n).kc)(hE:bg 183 bb w i R)(hL:∀u kb ko c,(x.nas n).ka=some ⟨kb,ko,none⟩->kb<w.heap.size->m<=c->ah w u->Calls Tryz.prog 180 #[ptr bb,.slice (some ⟨kb,ko+1,none⟩) m c] u fun e u'=>Mks S u e u'):Calls Tryz.prog 198 #[ptr bb,.int .i64 (n:Int)] w fun e w'=>Mks (vZ R S) w e w':=by
 have HE:Hid (bg 183 bb w i R):=hE;have lI:Hid (bZ R/\bZ S):=⟨kr,ks⟩;have hmf:=mX;have b1:=h.b.cell 1 rfl;have hbl:=h.b.1;obtain⟨b,off,e1,hb,c0,c1,c2,c3,c4,c5,c6,c7⟩:=h.node hn;rw[e1] at b1;rw[h2] at c7;obtain⟨kb,ko,e2,_,hkb,d0⟩:=aX (h.n.2 n hn).2 (k:=0) (by omega);rw[h0] at d0;rw[e2] at c7;simp only[Nat.add_zero] at d0;have HL:Hid (∀u c,m<=c->ah w u->Calls Tryz.prog 180 #[ptr bb,.slice (some ⟨kb,ko+1,none⟩) m c] u fun e u'=>Mks S u e u'):=fun u c hc hu=>hL u kb ko c e2 hkb hc hu;generalize hkc:(x.nas n).kc=kc at *;clear h c0 c1 c2 c3 c4 c5 c6 e1 e2 h2 h0 hkc hE kr hL;have HC:Hid (∀u,ah w u->u.cell? ⟨kb,ko,none⟩=some (.int .i64 (i:Int))):=fun u hu=>(hu.cell (p:=⟨kb,ko,none⟩) hkb).trans d0;have hi1:(1:Int)<=(kc:Int):=by omega
 have hi2:(1:Int)<=(m:Int)+1:=by omega
 have hi3:(m:Int)+1<=(kc:Int):=by omega
 have hi4:¬(kc-1=0):=by omega
 go_in
 go_upto_region 2 with fail
 clear b1 c7 d0 hbl hb
 go_region_held3 (fun u=>u.cell? ⟨kb,ko,none⟩=some (.int .i64 (i:Int))) (first|(refine HC.out _ ?_;(repeat(with_reducible first|exact HB2.out|exact HB1.out|exact iw _|refine gI ?_ _|refine iq ?_|refine q23 ?_ _ (by have h1:=HB1.out.size;have h2:=HB2.out.size;omega)));done))
  (first
  |(go_at_call 183;refine(HE.out _ ?_).mono ?_;((repeat(with_reducible first|exact HB2.out|exact HB1.out|exact iw _|refine gI ?_ _|refine iq ?_|refine q23 ?_ _ (by have h1:=HB1.out.size;have h2:=HB2.out.size;omega))));rintro e w1 ⟨f1,x1,y1,rfl,hr1,hb1⟩;obtain⟨n1,hn1,HR1⟩:∃n1,Hid (n1=_)/\Hid (R (.func f1 x1 y1) n1 w1):=⟨_,rfl,hr1⟩;have HB1:Hid (ah w w1):=(by refine aH ?_ hb1;(repeat(with_reducible first|exact HB2.out|exact HB1.out|exact iw _|refine gI ?_ _|refine iq ?_|refine q23 ?_ _ (by have h1:=HB1.out.size;have h2:=HB2.out.size;omega))));have fP:Hid (_<=w1.heap.size):=hb1.size;(first|(have hx:=tC hb1;have m1:=hx.b.1.1)|(have hx:=box0 hb1;have m1:=hx.a.1.1;have m2:=Nat.ne_of_lt m1;have m3:=Nat.ne_of_gt m1)|(have hx:=True.intro));clear hb1 hr1)
  |(go_at_call 180;refine(HL.out _ _ (by omega) ?_).mono ?_;((repeat(with_reducible first|exact HB2.out|exact HB1.out|exact iw _|refine gI ?_ _|refine iq ?_|refine q23 ?_ _ (by have h1:=HB1.out.size;have h2:=HB2.out.size;omega))));rintro e w2 ⟨f2,x2,y2,rfl,hr2,hb2⟩;obtain⟨n2,hn2,HR2⟩:∃n2,Hid (n2=_)/\Hid (S (.func f2 x2 y2) n2 w2):=⟨_,rfl,hr2⟩;have HB2:Hid (ah w w2):=(by refine aH ?_ hb2;(repeat(with_reducible first|exact HB2.out|exact HB1.out|exact iw _|refine gI ?_ _|refine iq ?_|refine q23 ?_ _ (by have h1:=HB1.out.size;have h2:=HB2.out.size;omega))));have Ey:Hid (Below _ _ w2):=hb2;have HS2:Hid (_<=w2.heap.size):=hb2.size;(first|(have hy:=Bp.call hx hb2)|(have hy:=Bo.next hx hb2)|(have hy:=Bo.call hx hb2)|(have hy:=zX hb2)|(have hy:=box1 hb2)|(have hy:=True.intro));(first|(have c1:=hy.a.1.cell 0 rfl;have z1:=hy.a.2;have l1:=hy.a.1.1;have c2:=hy.b.1.cell 0 rfl;have z2:=hy.b.2;have l2:=hy.b.1.1;have n1':=Nat.ne_of_lt l1;have Dx:=Nat.ne_of_gt l1;have Qb:=Nat.ne_of_lt l2;have n4':=Nat.ne_of_gt l2)|(have c1:=hy.a.1.cell 0 rfl;have z1:=hy.a.2;have l1:=hy.a.1.1;have n1':=Nat.ne_of_lt l1;have Dx:=Nat.ne_of_gt l1)|skip);clear hb2 hr2))
 all_goals
  go_wp2_with fail;go_ret;have e1:=hn1.out;have e2:=hn2.out;have s1:=fP.out;have s2:=HS2.out;try simp at e1
  try simp at e2
  try simp at s1
  try simp at s2
  have q1:=HB1.size;have q2:=HB2.size;have hk9:=True.intro;have hk8:=True.intro;have r1:=HR1.out;have r2:=HR2.out;have hbb:=Ey.out;have hB2:=HB2.out;obtain⟨kr,ks⟩:=lI.out;refine⟨_,_,_,rfl,⟨_,_,_,_,rfl,⟨?_,?_⟩,⟨?_,?_⟩,kr.old (kr.fr r1 ?_) (by omega),ks.old (ks.fr r2 ?_) (by omega)⟩,?_⟩;all_goals(try omega)
  all_goals(repeat(with_reducible first|exact hB2|exact Fr.refl _ _ _|exact Has.new _ _ _|exact uU _ _ _ _|exact KZ _ _ _ _ _|exact hk9|exact hk8|refine Has.alloc ?_ _|refine gI ?_ _|refine q23 ?_ _ (by omega)|exact hy.a|exact hy.b|exact OwnB.new _ _ _|exact q35 _ _ _ _|refine OwnB.alloc ?_ _|refine ER (x:=.nilFunc) ?_|refine Hg ?_ (by omega)|refine uV ?_ (by omega)|refine Fr.set ?_ (by omega)|refine Fr.alloc ?_ (Nat.le_refl _) _|refine Fr.drew ?_|refine Fr.call ?_ (Nat.le_refl _) hbb))
theorem zk9(M bb:Nat)(R S:Rel)(q:ND)(y:NA)(nd:Value)(kb ko i j:Nat)(w:World)(kr:bZ R)(ks:bZ S)(hk:q.k=12)(hkn:q.kn=2)(hka:y.ka=some ⟨kb,ko,none⟩)(hkb:kb<w.heap.size)(hb:Has w bb #[ptr M,nd])(hc0:w.cell? ⟨kb,ko,none⟩=some (.int .i64 (i:Int)))(hc1:w.cell? ⟨kb,ko+1,none⟩=some (.int .i64 (j:Int)))(hA:bg 86 bb w i R)(hB:bg 86 bb w j S):Calls Tryz.prog 182 #[ptr bb,eG q y] w fun e w'=>Mks (Ob M (dJ q y) R S) w e w':=by
 have HA:Hid (∀u,ah w u->Calls Tryz.prog 86 #[ptr bb,.int .i64 (i:Int)] u fun e u'=>Mks R u e u'):=hA;have HA2:Hid (∀u,ah w u->Calls Tryz.prog 86 #[ptr bb,.int .i64 (j:Int)] u fun e u'=>Mks S u e u'):=hB;have lI:Hid (bZ R/\bZ S):=⟨kr,ks⟩;have hmf:=mX;have b0:=hb.cell 0 rfl;have hbl:=hb.1;rw[(vY hk hka hkn).1,(vY hk hka hkn).2];clear hA hB kr ks hb hk hkn hka;go_in
 go_upto_region 2 with fail
 obtain⟨w0,hw0⟩:∃w0,(w.alloc (.cells (uY 12 q y (some ⟨kb,ko,none⟩) 2) 98)).alloc (.cells #[ptr M] 39)=w0:=⟨_,rfl⟩;have HW0:Hid (ah w w0/\Has w0 w.heap.size (uY 12 q y (some ⟨kb,ko,none⟩) 2)/\Has w0 (w.heap.size+1) #[ptr M]/\w0.heap.size=w.heap.size+2):=by rw[<-hw0];exact⟨iy _ _ _,(Has.new _ _ _).alloc _,uU _ _ _ _,by simp⟩
 rw[hw0];have HC:Hid (∀u,ah w0 u->u.cell? ⟨w.heap.size,7,none⟩=some (.slice (some ⟨kb,ko,none⟩) 2 y.kc)/\u.cell? ⟨kb,ko,none⟩=some (.int .i64 (i:Int))/\u.cell? ⟨kb,ko+1,none⟩=some (.int .i64 (j:Int))):=fun u hu=>⟨(HW0.2.1.call hu).cell 7 rfl,(hu.cell (p:=⟨kb,ko,none⟩) (by show kb<w0.heap.size;have:=HW0.2.2.2;omega)).trans ((HW0.1.cell (p:=⟨kb,ko,none⟩) hkb).trans hc0),(hu.cell (p:=⟨kb,ko+1,none⟩) (by show kb<w0.heap.size;have:=HW0.2.2.2;omega)).trans ((HW0.1.cell (p:=⟨kb,ko+1,none⟩) hkb).trans hc1)⟩;clear hw0 hc0 hc1 b0 hbl
 go_region_held3 (fun u=>u.cell? ⟨w.heap.size,7,none⟩=some (.slice (some ⟨kb,ko,none⟩) 2 y.kc)/\u.cell? ⟨kb,ko,none⟩=some (.int .i64 (i:Int))/\u.cell? ⟨kb,ko+1,none⟩=some (.int .i64 (j:Int))) (first|(refine HC.out _ ?_;(repeat(with_reducible first|exact HB2.out|exact HB1.out|exact iw _|refine gI ?_ _|refine iq ?_|refine q23 ?_ _ (by have h1:=HB1.out.size;have h2:=HB2.out.size;omega)));done))
  (first
  |(go_at_call 86;have Qo:=HB1.out;clear Qo;refine(HA2.out _ (aH HW0.out.1 ?_)).mono ?_;((repeat(with_reducible first|exact HB2.out|exact HB1.out|exact iw _|refine gI ?_ _|refine iq ?_|refine q23 ?_ _ (by have h1:=HB1.out.size;have h2:=HB2.out.size;omega))));rintro e w2 ⟨f2,x2,y2,rfl,hr2,hb2⟩;obtain⟨n2,hn2,HR2⟩:∃n2,Hid (n2=_)/\Hid (S (.func f2 x2 y2) n2 w2):=⟨_,rfl,hr2⟩;have HB2:Hid (ah w0 w2):=(by refine aH ?_ hb2;(repeat(with_reducible first|exact HB2.out|exact HB1.out|exact iw _|refine gI ?_ _|refine iq ?_|refine q23 ?_ _ (by have h1:=HB1.out.size;have h2:=HB2.out.size;omega))));have Ey:Hid (Below _ _ w2):=hb2;have HS2:Hid (_<=w2.heap.size):=hb2.size;(first|(have hy:=Bp.call hx hb2)|(have hy:=Bo.next hx hb2)|(have hy:=Bo.call hx hb2)|(have hy:=zX hb2)|(have hy:=box1 hb2)|(have hy:=True.intro));(first|(have c1:=hy.a.1.cell 0 rfl;have z1:=hy.a.2;have l1:=hy.a.1.1;have c2:=hy.b.1.cell 0 rfl;have z2:=hy.b.2;have l2:=hy.b.1.1;have n1':=Nat.ne_of_lt l1;have Dx:=Nat.ne_of_gt l1;have Qb:=Nat.ne_of_lt l2;have n4':=Nat.ne_of_gt l2)|(have c1:=hy.a.1.cell 0 rfl;have z1:=hy.a.2;have l1:=hy.a.1.1;have n1':=Nat.ne_of_lt l1;have Dx:=Nat.ne_of_gt l1)|skip);clear hb2 hr2)
  |(go_at_call 86;refine(HA.out _ (aH HW0.out.1 ?_)).mono ?_;((repeat(with_reducible first|exact HB2.out|exact HB1.out|exact iw _|refine gI ?_ _|refine iq ?_|refine q23 ?_ _ (by have h1:=HB1.out.size;have h2:=HB2.out.size;omega))));rintro e w1 ⟨f1,x1,y1,rfl,hr1,hb1⟩;obtain⟨n1,hn1,HR1⟩:∃n1,Hid (n1=_)/\Hid (R (.func f1 x1 y1) n1 w1):=⟨_,rfl,hr1⟩;have HB1:Hid (ah w0 w1):=(by refine aH ?_ hb1;(repeat(with_reducible first|exact HB2.out|exact HB1.out|exact iw _|refine gI ?_ _|refine iq ?_|refine q23 ?_ _ (by have h1:=HB1.out.size;have h2:=HB2.out.size;omega))));have fP:Hid (_<=w1.heap.size):=hb1.size;(first|(have hx:=tC hb1;have m1:=hx.b.1.1)|(have hx:=box0 hb1;have m1:=hx.a.1.1;have m2:=Nat.ne_of_lt m1;have m3:=Nat.ne_of_gt m1)|(have hx:=True.intro));clear hb1 hr1))
 all_goals
  go_wp2_with fail;go_ret;have e1:=hn1.out;have e2:=hn2.out;have s1:=fP.out;have s2:=HS2.out;try simp at e1
  try simp at e2
  try simp at s1
  try simp at s2
  have q1:=HB1.size;have q2:=HB2.size;have q3:=HW0.2.2.2;have hB2:=HB2.out;have hk9:=HW0.2.1.call hB2;have hk8:=HW0.2.2.1.call hB2;have vg:=True.intro;have r1:=HR1.out;have r2:=HR2.out;have hbb:=Ey.out;obtain⟨kr,ks⟩:=lI.out;refine⟨_,_,_,rfl,⟨_,_,_,_,_,_,rfl,⟨?_,?_⟩,⟨?_,?_⟩,⟨?_,?_⟩,⟨?_,?_⟩,kr.old (kr.fr r1 ?_) (by omega),ks.old (ks.fr r2 ?_) (by omega)⟩,aH HW0.1 ?_⟩;all_goals(try omega)
  all_goals(repeat(with_reducible first|exact hB2|exact Fr.refl _ _ _|exact Has.new _ _ _|exact uU _ _ _ _|exact KZ _ _ _ _ _|exact hk9|exact hk8|exact vg|refine Has.alloc ?_ _|refine gI ?_ _|refine q23 ?_ _ (by omega)|exact hy.a|exact hy.b|exact OwnB.new _ _ _|exact q35 _ _ _ _|refine OwnB.alloc ?_ _|refine ER (x:=.nilFunc) ?_|refine Hg ?_ (by omega)|refine uV ?_ (by omega)|refine Fr.set ?_ (by omega)|refine Fr.alloc ?_ (Nat.le_refl _) _|refine Fr.drew ?_|refine Fr.call ?_ (Nat.le_refl _) hbb))
end
section
open Go.RowKit
structure eu(q:ND)(k:Int)(rs cs:List Nat):Prop where
 k:q.k=k
 rn:q.rn=rs.length
 r:∀j z:Nat,rs[j]?=some z->q.r j=(z:Int)
 kn:q.kn=cs.length
 c:∀j z:Nat,cs[j]?=some z->q.c j=(z:Int)
structure BC(M bb:Nat)(d:FD)(x:FA)(w:World):Prop where
 b:BB M bb d x w
 c:∀i,i<d.nn->(d.nd i).kn<=(x.nas i).kc
theorem BC.call{M bb:Nat}{d:FD}{x:FA}{w u:World}(h:BC M bb d x w)(k:ah w u):BC M bb d x u:=⟨h.b.call k,h.c⟩
theorem BC.kids{M bb:Nat}{d:FD}{x:FA}{w:World}(h:BC M bb d x w){i:Nat}{k:Int}{rs cs:List Nat}(hi:i<d.nn)(hn:eu (d.nd i) k rs cs)(h0:0<cs.length):∃kb ko,(x.nas i).ka=some ⟨kb,ko,none⟩/\kb<w.heap.size/\∀j z:Nat,cs[j]?=some z->w.cell? ⟨kb,ko+j,none⟩=some (.int .i64 (z:Int)):=by
 obtain⟨kb,ko,e,_,h1,_⟩:=aX (h.b.n.2 i hi).2 (k:=0) (by rw[hn.kn];exact h0);refine⟨kb,ko,e,h1,fun j z hj=>?_⟩;have hl:=(List.getElem?_eq_some_iff.1 hj).1;obtain⟨Qk,Qj,e',_,_,d1⟩:=aX (h.b.n.2 i hi).2 (k:=j) (by rw[hn.kn];exact hl);rw[e] at e'
 cases e';rw[hn.c j z hj] at d1;exact d1
theorem KC{w:World}{kb ko m:Nat}{q:Nat->Nat}(hkb:kb<w.heap.size)(hc:∀j,j<m->w.cell? ⟨kb,ko+j,none⟩=some (.int .i64 (q j:Int))):aP 1 0 w (some ⟨kb,ko,none⟩) m fun j=>#[.int .i64 (q j:Int)]:=fun _=>⟨kb,ko,rfl,Nat.zero_le _,hkb,fun i hi j hj=>by
 obtain rfl:j=0:=by omega
 rw[show ko+i*1+0=ko+i by omega];exact hc i hi⟩
section
variable {M bb:Nat}{d:FD}{x:FA}{w:World}
theorem TV(h:BC M bb d x w){i v:Nat}(hi:i<d.nn)(hn:eu (d.nd i) 26 [v] []):bg 183 bb w i (z38 (v:Int)):=fun u hu=>by
 have:=z23 M bb d x i u (h.b.call hu) hi hn.k (by rw[hn.rn];exact Nat.zero_lt_one);rw[hn.r 0 v rfl] at this;exact this
theorem Vu(h:BC M bb d x w){i:Nat}(hi:i<d.nn)(hn:(d.nd i).k=28/\(d.nd i).n=0):bg 183 bb w i (qb2 kE):=fun u hu=>by
 have:=X8 M bb d x i u (h.b.call hu) hi (.inr hn.1);unfold um at this;rw[if_neg (by rw[hn.1];decide),hn.2] at this;exact this
theorem zl2(h:BC M bb d x w){i v:Nat}(hi:i<d.nn)(hn:eu (d.nd i) 26 [v] []):bg 173 bb w i (z39 (z38 (v:Int))):=fun u hu=>za4 M bb d x _ i u (h.b.call hu) (Dl _) hi hn.k ((TV h hi hn).call hu)
theorem Uy{R:Nat->Rel}{S:Rel}{kb ko m i:Nat}{q:Nat->Nat}(kr:∀j,j<m->bZ (R j))(ks:bZ S)(hm:m<=200)(hkb:kb<w.heap.size)(hc:∀j,j<m->w.cell? ⟨kb,ko+j,none⟩=some (.int .i64 (q j:Int)))(hci:w.cell? ⟨kb,ko+m,none⟩=some (.int .i64 (i:Int)))(hq:∀j,j<m->bg 183 bb w (q j) (R j))(hA:bg 173 bb w i S)(c:Nat)(hcap:m<c)(u:World)(hu:ah w u):Calls Tryz.prog 180 #[ptr bb,.slice (some ⟨kb,ko,none⟩) (m+1) c] u fun e u'=>Mks (uf bb (qa0 m R) S) u e u':=
 zd0 bb (qa0 m R) S kb ko c m i u (Dq m kr) ks (by omega) hcap (fun v c' hv=>zc4 bb R (some ⟨kb,ko,none⟩) m c' q v kr hm (fun j hj=>(hq j hj).call (aH hu hv)) (KC (by have:=hu.size;have:=hv.size;omega) (fun j hj=>((aH hu hv).cell (p:=⟨kb,ko+j,none⟩) hkb).trans (hc j hj)))) (hA.call hu) (by have:=hu.size;omega) ((hu.cell (p:=⟨kb,ko+m,none⟩) hkb).trans hci)
theorem z49(h:BC M bb d x w){R:Rel}{n i:Nat}(kr:bZ R)(hn:n<d.nn)(hk:eu (d.nd n) 34 [] [i])(hE:bg 183 bb w i R):bg 173 bb w n (Cm bb (vZ R IsNil)):=fun u hu=>
 X7 M bb d x _ n u (h.b.call hu) (zB kr GX) hn hk.k (fun v hv=>qn9 M bb d x R n i v (h.b.call (aH hu hv)) kr hn hk.kn (hk.c 0 i rfl) (by have:=h.c n hn;rw[hk.kn] at this;exact this) (hE.call (aH hu hv)))
theorem ZW(h:BC M bb d x w){R:Rel}{Rs:Nat->Rel}{S:Rel}{n i m t:Nat}{q:Nat->Nat}{cs:List Nat}(kr:bZ R)(Ib:∀j,j<m->bZ (Rs j))(ks:bZ S)(hm:m<=100)(hn:n<d.nn)(hk:eu (d.nd n) 34 [] cs)(hl:cs.length=m+2)(hc0:cs[0]?=some i)(hcs:∀j,j<m->cs[j+1]?=some (q j))(hct:cs[m+1]?=some t)(hE:bg 183 bb w i R)(hq:∀j,j<m->bg 183 bb w (q j) (Rs j))(hA:bg 173 bb w t S):bg 173 bb w n (Cm bb (vZ R (uf bb (qa0 m Rs) S))):=fun u hu=>by
 have LW:bZ (uf bb (qa0 m Rs) S):=qb1 (Dq m Ib) ks bb;have hcp:=h.c n hn;rw[hk.kn,hl] at hcp;refine X7 M bb d x _ n u (h.b.call hu) (zB kr LW) hn hk.k (fun v hv=>?_);have hwv:=aH hu hv;refine qc4 M bb d x R (uf bb (qa0 m Rs) S) n i (m+1) v (h.b.call hwv) kr LW hn (by rw[hk.kn,hl]) (hk.c 0 i hc0) (by omega) (by omega) (by omega) (hE.call hwv) (fun y kb ko c ha hkb hc hy=>?_);obtain⟨Qk,Qj,e,hb',hcell⟩:=(h.call hwv).kids hn hk (by omega);rw[ha] at e
 cases e;refine Uy (w:=v) Ib ks (by omega) hkb (fun j hj=>?_) ?_ (fun j hj=>(hq j hj).call hwv) (hA.call hwv) c ?_ y hy
 ·have:=hcell (j+1) (q j) (hcs j hj);rw[show ko+1 + j=ko+(j+1) by omega];exact this
 ·have:=hcell (m+1) t hct;rw[show ko+1 + m=ko+(m+1) by omega];exact this
 ·omega
theorem z48(h:BC M bb d x w){S:Rel}{t s n:Nat}(ks:bZ S)(ht:t<d.nn)(hs:s<d.nn)(hT:eu (d.nd t) 1 [] [s])(hS:eu (d.nd s) 4 [] [n])(hA:bg 173 bb w n S):bg 86 bb w t (uG 1 fun _=>oO bb (dJ (d.nd s) (x.nas s)) (xR S)):=fun u hu=>by
 refine PW M bb d x _ t u (h.b.call hu) (z13 1 fun _ _=>Bf (Gv ks) bb _) ht hT.k (fun u2 hu2=>?_);have hb2:=aH hu hu2;obtain⟨kb,ko,e,hkb,hcell⟩:=(h.call hb2).kids ht hT (by simp);refine WW M bb d x _ (d.nd t) (x.nas t) 1 (fun _=>s) u2 (h.b.call hb2) (fun _ _=>Bf (Gv ks) bb _) (by omega) (by omega) hT.kn (fun j hj=>⟨hs,by rw[hS.k];decide,fun u3 hu3=>?_⟩) (by rw[e];exact KC hkb (fun j hj=>by obtain rfl:j=0:=(by omega);exact hcell 0 s rfl));have hb3:=aH hb2 hu3;refine LD M bb d x _ s u3 (h.b.call hb3) (Gv ks) hs (by rw[hS.k];decide) (fun u4 DJ=>?_);have hb4:=aH hb3 DJ;obtain⟨kb,ko,e,hkb,hcell⟩:=(h.call hb4).kids hs hS (by simp);exact Xd bb S (d.nd s) (x.nas s) kb ko n u4 ks hS.k (by rw[hS.kn];simp) e hkb (hcell 0 n rfl) (hA.call hb4)
abbrev Yg(bb:Nat)(A:Array Value):Rel:=uG 1 fun _=>oO bb A (xR (Cm bb (vZ (qb2 kE) (uf bb (qa0 1 fun _=>z38 0) (z39 (z38 1))))))
theorem zs0(bb:Nat)(A:Array Value):bZ (Yg bb A):=z13 1 fun _ _=>Bf (Gv (GV (zB (ug _) (qb1 (Dq 1 fun _ _=>Dl 0) (ES (Dl 1)) bb)) bb)) bb A
end
end
end Go.Proofs.YtihnikeikhjndaaGreatDoor
