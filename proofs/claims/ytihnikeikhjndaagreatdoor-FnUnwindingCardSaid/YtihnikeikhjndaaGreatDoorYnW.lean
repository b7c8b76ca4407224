import Derived.Test.YtihnikeikhjndaaGreatDoorYnU
import Derived.Test.YtihnikeikhjndaaGreatDoorKnA
import Derived.RowKitTokens
import Derived.Stop.Asserts
set_option maxRecDepth 100000
set_option maxHeartbeats 16000000
namespace Go.Proofs.YtihnikeikhjndaaGreatDoor
section
open Go.RowKit Go.Extern.Stop Go.Stop Go.Extern
attribute [local go_sem ↓] Go.wp_at_zero Go.wp_at_succ
theorem Rx(t:Addr)(w:World):(ReflectliteValue.unpack (.iface 132 (.pointer (some t)))).run Tryz.prog w = .ok (.agg #[hT 132,.pointer (some ⟨w.heap.size,0,none⟩),.int .u64 150]) (w.alloc (.cells #[.pointer (some t)] 132)):=by kernel_rfl
theorem Rz(a:Addr)(w:World):(ReflectliteValue.methodAny (ReflectliteValue.valueError "reflectlite.Value.Type" 0) (fun t _ _ _=>ReflectliteType.toType t) #[.agg #[hT 132,.pointer (some a),.int .u64 150]]).run Tryz.prog w = .ok (.iface 227 (.agg #[hT 132])) w:=by kernel_rfl
theorem Jj(h:Value)(w:World):(Go.method 610 227 (.agg #[h]) "Kind").run Tryz.prog w=.ok (461,h) w:=by kernel_rfl
theorem RG(w:World):((ReflectliteType.abiMethod fun t=>(fun a:Nat=>Value.int IntKind.u8 (a:Int)) <$> Rtype.kind t) #[hT 132]).run Tryz.prog w=.ok (.int .u8 22) w:=by kernel_rfl
theorem RH(w:World):((ReflectliteType.abiMethod fun t=>(fun a:Nat=>Value.int IntKind.u8 (a:Int)) <$> Rtype.kind t) #[hT 118]).run Tryz.prog w=.ok (.int .u8 22) w:=by kernel_rfl
theorem Jh(a:Addr)(w:World):(ReflectliteValue.parts (.agg #[hT 132,.pointer (some a),.int .u64 150])).run Tryz.prog w=.ok (some (132,a,150)) w:=by kernel_rfl
theorem D7(z:Sem Value)(f:TypeId->Addr->Nat->Nat->Sem Value)(v:Value):∃g:Option (TypeId×Addr×Nat)->Sem Value,ReflectliteValue.method z f #[v]=(ReflectliteValue.parts v >>= g)/\∀t a fl,g (some (t,a,fl))=f t a fl (fl%32):=⟨_,rfl,fun _ _ _=>rfl⟩
theorem OI(v x:Value):∃g:Option (TypeId×Addr×Nat)->Option (TypeId×Addr×Nat)->Sem Value,ReflectliteValue.set #[v,x]=(ReflectliteValue.parts v >>= fun p=>ReflectliteValue.parts x >>= fun q=>g p q)/\∀(dst src:TypeId) (a b:Addr) (fl:Nat),∃H:Value->Bool->Sem Value,g (some (dst,a,406)) (some (src,b,fl))=(loadVar src b >>= fun val=>Rtype.directlyAssignable dst src >>= fun c=>H val c)/\∀val,H val true=(storeVar dst a val >>= fun _=>pure (.tuple #[])):=⟨_,rfl,fun _ _ _ _ _=>⟨_,rfl,fun _=>rfl⟩⟩
theorem yn4(a p:Addr)(W:World)(ha:W.cell? a=some (.pointer (some p))):(ReflectliteValue.method (ReflectliteValue.valueError "reflectlite.Value.IsNil" 0) ReflectliteValue.isNil #[.agg #[hT 132,.pointer (some a),.int .u64 150]]).run Tryz.prog W=.ok (.bool false) W:=by
 obtain⟨g,h1,h2⟩:=D7 (ReflectliteValue.valueError "reflectlite.Value.IsNil" 0) ReflectliteValue.isNil (.agg #[hT 132,.pointer (some a),.int .u64 150]);rw[h1];simp only[Sem.run_bind,Jh,Result.andThen,h2];simp[ReflectliteValue.isNil,loadVar,isAgg,underlying,Tryz.underlying132,ha,Result.andThen]
theorem Jl(h:Value)(w:World):(Go.method 610 227 (.agg #[h]) "Elem").run Tryz.prog w=.ok (475,.agg #[h]) w:=by kernel_rfl
theorem Jk(h:Value)(w:World):(Go.method 610 227 (.agg #[h]) "Implements").run Tryz.prog w=.ok (476,.agg #[h]) w:=by kernel_rfl
theorem Jm(h:Value)(w:World):(Go.method 610 227 (.agg #[h]) "AssignableTo").run Tryz.prog w=.ok (473,.agg #[h]) w:=by kernel_rfl
theorem RJ(w:World):(ReflectliteType.method ReflectliteType.elem #[.agg #[hT 132]]).run Tryz.prog w=.ok (.iface 227 (.agg #[hT 118])) w:=by kernel_rfl
theorem RI(w:World):(ReflectliteType.relation "Implements" ReflectliteType.implements_ #[.agg #[hT 118],.iface 227 (.agg #[hT 128])]).run Tryz.prog w=.ok (.bool true) w:=by kernel_rfl
theorem Ji(v:Value)(w:World):(ReflectliteType.typeOf #[.iface 118 v]).run Tryz.prog w=.ok (.iface 227 (.agg #[hT 118])) w:=by kernel_rfl
theorem RP(w:World):(ReflectliteType.relation "AssignableTo" ReflectliteType.assignableTo #[.agg #[hT 118],.iface 227 (.agg #[hT 118])]).run Tryz.prog w=.ok (.bool true) w:=by kernel_rfl
theorem Ry(e:Addr)(w:World):(ReflectliteValue.unpack (.iface 118 (.pointer (some e)))).run Tryz.prog w = .ok (.agg #[hT 118,.pointer (some ⟨w.heap.size,0,none⟩),.int .u64 150]) (w.alloc (.cells #[.pointer (some e)] 118)):=by kernel_rfl
theorem yr3(w:World):(Rtype.elem? 132).run Tryz.prog w=.ok (some 118) w:=by kernel_rfl
theorem RF(p:Addr)(w:World):(ReflectliteValue.mk 118 p ReflectliteValue.flagAddr).run Tryz.prog w=.ok (.agg #[hT 118,.pointer (some p),.int .u64 406]) w:=by kernel_rfl
theorem yr2(a p:Addr)(W:World)(ha:W.cell? a=some (.pointer (some p))):(ReflectliteValue.method (ReflectliteValue.valueError "reflectlite.Value.Elem" 0) ReflectliteValue.elem #[.agg #[hT 132,.pointer (some a),.int .u64 150]]).run Tryz.prog W = .ok (.agg #[hT 118,.pointer (some p),.int .u64 406]) W:=by
 obtain⟨g,h1,h2⟩:=D7 (ReflectliteValue.valueError "reflectlite.Value.Elem" 0) ReflectliteValue.elem (.agg #[hT 132,.pointer (some a),.int .u64 150]);rw[h1];simp only[Sem.run_bind,Jh,Result.andThen,h2];simp[ReflectliteValue.elem,loadVar,isAgg,underlying,Tryz.underlying132,ha,Result.andThen,yr3,RF]
theorem yq8(a:Addr)(w:World):(ReflectliteValue.parts (.agg #[hT 118,.pointer (some a),.int .u64 406])).run Tryz.prog w=.ok (some (118,a,406)) w:=by kernel_rfl
theorem RD(a:Addr)(w:World):(ReflectliteValue.parts (.agg #[hT 118,.pointer (some a),.int .u64 150])).run Tryz.prog w=.ok (some (118,a,150)) w:=by kernel_rfl
theorem RN(w:World):(Rtype.directlyAssignable 118 118).run Tryz.prog w=.ok true w:=by kernel_rfl
theorem asS1(ta b e:Addr)(old:Value)(W:World)(hb:W.cell? b=some (.pointer (some e)))(ht:W.cell? ta=some old)(hf:W.frozen? ta=false):(ReflectliteValue.set #[.agg #[hT 118,.pointer (some ta),.int .u64 406],.agg #[hT 118,.pointer (some b),.int .u64 150]]).run Tryz.prog W = .ok (.tuple #[]) (W.setCell ta (.pointer (some e))):=by
 obtain⟨g,h1,h2⟩:=OI (.agg #[hT 118,.pointer (some ta),.int .u64 406]) (.agg #[hT 118,.pointer (some b),.int .u64 150]);obtain⟨H,h3,h4⟩:=h2 118 118 ta b 150;rw[h1];simp only[Sem.run_bind,yq8,RD,Result.andThen,h3];simp[loadVar,isAgg,underlying,Tryz.underlying118,hb,Result.andThen,RN,h4,storeVar,Value.cells,storeCells,Addr.add];rw[run_store Tryz.prog W ta _ _ (by rfl)];simp[ht,hf]
theorem PE(e t:Addr)(old:Value)(w:World)(hg:kJ w)(ht0:w.cell? t=some old)(hf0:w.frozen? t=false):Calls Tryz.prog 55 #[.iface 118 (.pointer (some e)),.iface 132 (.pointer (some t))] w fun ev w'=>ev=.returned (.bool true)/\∃w4,ah w w4/\w'=w4.setCell t (.pointer (some e)):=by
 have x1:=@run_callFunc_extern Tryz.prog 91 _ (fun args=>ReflectliteValue.unpack (args.getD 0 (.tuple #[]))) Tryz.func91 (by kernel_rfl) (by kernel_rfl) (by kernel_rfl) (by kernel_rfl);have x2:=@run_callFunc_extern Tryz.prog 92 _ (ReflectliteValue.methodAny (ReflectliteValue.valueError "reflectlite.Value.Type" 0) (fun t _ _ _=>ReflectliteType.toType t)) Tryz.func92 (by kernel_rfl) (by kernel_rfl) (by kernel_rfl) (by kernel_rfl);have x3:=@run_callFunc_extern Tryz.prog 93 _ (ReflectliteValue.method (ReflectliteValue.valueError "reflectlite.Value.IsNil" 0) ReflectliteValue.isNil) Tryz.func93 (by kernel_rfl) (by kernel_rfl) (by kernel_rfl) (by kernel_rfl);have x4:=@run_callFunc_extern Tryz.prog 461 _ (ReflectliteType.abiMethod fun t=>do pure (.int .u8 (<-Rtype.kind t))) Tryz.func461 (by kernel_rfl) (by kernel_rfl) (by kernel_rfl) (by kernel_rfl);have x5:=@run_callFunc_extern Tryz.prog 475 _ (ReflectliteType.method ReflectliteType.elem) Tryz.func475 (by kernel_rfl) (by kernel_rfl) (by kernel_rfl) (by kernel_rfl);have x6:=@run_callFunc_extern Tryz.prog 476 _ (ReflectliteType.relation "Implements" ReflectliteType.implements_) Tryz.func476 (by kernel_rfl) (by kernel_rfl) (by kernel_rfl) (by kernel_rfl);have x7:=@run_callFunc_extern Tryz.prog 152 _ ReflectliteType.typeOf Tryz.func152 (by kernel_rfl) (by kernel_rfl) (by kernel_rfl) (by kernel_rfl);have x8:=@run_callFunc_extern Tryz.prog 473 _ (ReflectliteType.relation "AssignableTo" ReflectliteType.assignableTo) Tryz.func473 (by kernel_rfl) (by kernel_rfl) (by kernel_rfl) (by kernel_rfl);have x9:=@run_callFunc_extern Tryz.prog 153 _ (ReflectliteValue.method (ReflectliteValue.valueError "reflectlite.Value.Elem" 0) ReflectliteValue.elem) Tryz.func153 (by kernel_rfl) (by kernel_rfl) (by kernel_rfl) (by kernel_rfl);have x10:=@run_callFunc_extern Tryz.prog 154 _ ReflectliteValue.set Tryz.func154 (by kernel_rfl) (by kernel_rfl) (by kernel_rfl) (by kernel_rfl);have y1:=Ji;have y2:=Jm;have y3:=RP;have y4:=Ry;have y5:=Rx;have y6:=Rz;have y7:=Jj;have y8:=Jl;have y9:=Jk;have y10:=RG;have y11:=RH;have y12:=RJ;have y13:=RI;have htl:t.block<w.heap.size:=World.block_lt_of_cell? w t ht0;have hgl:0<w.heap.size:=World.block_lt_of_cell? w ⟨0,0,none⟩ hg;obtain⟨w1,hw1⟩:∃w1,w.alloc (.cells #[.pointer (some t)] 132)=w1:=⟨_,rfl⟩;obtain⟨w2,hw2⟩:∃w2,w1.alloc (.cells #[hT 132,.pointer (some ⟨w.heap.size,0,none⟩),.int .u64 150] 179)=w2:=⟨_,rfl⟩;have b1:ah w w1:=by rw[<-hw1];exact q01 _ _
 have b2:ah w w2:=by rw[<-hw2];exact b1.alloc b1.size _
 have n1:=yn4 ⟨w.heap.size,0,none⟩ t w2 (by rw[<-hw2,<-hw1];exact((Has.new w _ _).alloc _).cell 0 rfl);have g2:w2.cell? ⟨0,0,none⟩=some (.iface 227 (.agg #[hT 128])):=(b2.cell (p:=⟨0,0,none⟩) hgl).trans hg;obtain⟨w3,hw3⟩:∃w3,w2.alloc (.cells #[hT 132,.pointer (some ⟨w.heap.size,0,none⟩),.int .u64 150] 179)=w3:=⟨_,rfl⟩;obtain⟨w4,hw4⟩:∃w4,w3.alloc (.cells #[.pointer (some e)] 118)=w4:=⟨_,rfl⟩;have b3:ah w w3:=by rw[<-hw3];exact b2.alloc b2.size _
 have b4:ah w w4:=by rw[<-hw4];exact b3.alloc b3.size _
 have e2:Has w2 w1.heap.size #[hT 132,.pointer (some ⟨w.heap.size,0,none⟩),.int .u64 150]:=by rw[<-hw2];exact Has.new w1 _ _
 have e3:Has w3 w2.heap.size #[hT 132,.pointer (some ⟨w.heap.size,0,none⟩),.int .u64 150]:=by rw[<-hw3];exact Has.new w2 _ _
 have q0:w2.cell? ⟨w1.heap.size,0,none⟩=some (hT 132):=e2.cell 0 rfl;have q1:w2.cell? ⟨w1.heap.size,1,none⟩=some (.pointer (some ⟨w.heap.size,0,none⟩)):=e2.cell 1 rfl;have q2:w2.cell? ⟨w1.heap.size,2,none⟩=some (.int .u64 150):=e2.cell 2 rfl;have r0:w3.cell? ⟨w2.heap.size,0,none⟩=some (hT 132):=e3.cell 0 rfl;have r1:w3.cell? ⟨w2.heap.size,1,none⟩=some (.pointer (some ⟨w.heap.size,0,none⟩)):=e3.cell 1 rfl;have r2:w3.cell? ⟨w2.heap.size,2,none⟩=some (.int .u64 150):=e3.cell 2 rfl;have el:=yr2 ⟨w.heap.size,0,none⟩ t w3 (by rw[<-hw3,<-hw2,<-hw1];exact(((Has.new w _ _).alloc _).alloc _).cell 0 rfl);have st:=asS1 t ⟨w3.heap.size,0,none⟩ e old w4 (by rw[<-hw4];exact(Has.new w3 _ _).cell 0 rfl) ((b4.cell (p:=t) htl).trans ht0) ((b4.frozen (p:=t) htl).trans hf0);have HB4:Hid (ah w w4):=b4;clear b1 b2 b3 b4 e2 e3 ht0 hf0 htl hgl hg;go_in;go_wp2;refine wp_loop_rounds 1 ?_;rw[rounds_succ];go_wp2;go_ret;exact⟨rfl,w4,HB4,rfl⟩
end
section
open Go.RowKit
attribute [local go_sem] aN
attribute [local go_sem ↓] Go.wp_at_zero Go.wp_at_succ
structure Tr(X:RX)(d:MD)(u:World)(X':RX)(d':MD)(u':World):Prop where
 g:Gx (stB X d) u u'
 mv:∀k,k<u.heap.size->stB X' d' k->stB X d k
theorem Tr.trans{X X' Yf:RX}{d d' d'':MD}{u u' u'':World}(h:Tr X d u X' d' u')(k:Tr X' d' u' Yf d'' u''):Tr X d u Yf d'' u'':=
 ⟨h.g.trans k.g (fun i hi e=>h.mv i hi e),fun i hi e=>h.mv i hi (k.mv i (Nat.lt_of_lt_of_le hi h.g.size) e)⟩
theorem Sp.tr{X:RX}{d d':MD}{u u':World}(h:Sp X d u d' u'):Tr X d u X d' u':=⟨h.g,h.mv⟩
section
variable {X X':RX}{d d':MD}{u u':World}
theorem Bx.tr{B:Nat}{A:Array Value}(h:Bx X d u B A)(t:Tr X d u X' d' u'):Bx X' d' u' B A:=⟨t.g.has h.1 h.2,fun e=>h.2 (t.mv _ h.1.1 e)⟩
theorem fB.tr{B:Nat}{A:Array Value}(h:fB X d u B A)(t:Tr X d u X' d' u'):fB X' d' u' B A:=⟨t.g.ownB h.1 h.2,fun e=>h.2 (t.mv _ h.1.1.1 e)⟩
theorem Opened.tr{fn:Int}{rest:Value}{nv F V fc:Nat}{fa:Option Addr}(o:Opened X d u fn rest nv F V fa fc u'):Tr X d u (xO X F V fn rest nv) (dO d F nv fa fc) u':=by
 refine⟨o.g.mono (fun k e=>?_),fun k hk c=>?_⟩
 ·rcases e with e|e
  ·exact .inr (.inl e)
  ·exact .inr (.inr (.inr (.inr (.inr (.inr (.inr (.inl e)))))))
 ·have hF:=o.F;have hV:=o.V;rcases c with c|c|c|c|c|c|c|c|c
  ·exact .inl c
  ·exact .inr (.inl c)
  ·have:k=F:=c;omega
  ·have:k=V:=c;omega
  ·exact .inr (.inr (.inr (.inr (.inl c))))
  ·exact .inr (.inr (.inr (.inr (.inr (.inl c)))))
  ·cases c
  ·exact .inr (.inr (.inr (.inr (.inr (.inr (.inr (.inl (o.fa k hk c))))))))
  ·exact stB.tb c
theorem St.Gp(h:St X d u)(g:Gx (fun k=>k=X.F) u u')(c:VD)(v:Value)(hf:OwnB u' X.F (fA {X with cal:=c,ups:=v} d))(hT:dA u' X.F 174):St {X with cal:=c,ups:=v} d u':=by
 have hx:=h.ty;have hro:∀{t':TypeId} {N K m q c:Nat} {xs:List Value} {a:Option Addr},t'≠174->u.ownsRow N t' K (.slice a m c) q xs->u'.ownsRow N t' K (.slice a m c) q xs:=fun ht hh=>jS hh fun k e=>g.block k (hh.lt k e).2 ((jJ hh ((dD _ _ _).symm.trans e)).ne hx.f ht);exact⟨⟨h.x.m,h.x.t,h.x.f,h.x.v,h.x.nW,h.x.f0,h.x.f2,h.x.kt,h.x.kd,h.x.kc⟩,g.ownB h.m (Ne.symm hx.fm),g.ownB h.t hx.tf,hf,g.ownB h.v (Ne.symm hx.fv),hro (by decide) h.fw,hro (by decide) h.rr,hro (by decide) h.hr,hro (by decide) h.sr,h.k.trans g (fun k _ e=>.inr (e ▸ h.x.f)),Nat.le_trans h.n g.size,h.nv,⟨hx.m.keep (g.block _ hx.m.lt (Ne.symm hx.fm)),hx.t.keep (g.block _ hx.t.lt hx.tf),hT,hx.v.keep (g.block _ hx.v.lt (Ne.symm hx.fv))⟩,h.r0,h.tt.keep g.size (fun k e=>g.block k (h.tt.a k e).2 (fun c=>h.ts k e (.inr (.inr (.inl c))))),h.ts⟩
theorem Tr.Gp(g:Gx (fun k=>k=X.F) u u')(c:VD)(v:Value):Tr X d u {X with cal:=c,ups:=v} d u':=⟨g.mono (fun _ e=>.inr (.inr (.inl e))),fun _ _ e=>e⟩
theorem jW.gx{X2:RX}(h:jW X d X2 d' u){X3:RX}{d3:MD}(t:Tr X2 d' u X3 d3 u'):jW X d X3 d3 u':=⟨h.1.gx t.g h.2,fun i e c=>h.2 i e (t.mv i (h.1.lt e) c)⟩
end
structure UG(X:RX)(fn nf ub uo uc nv vc:Nat)(va:Option Addr)(nm:ByteArray)(fL:Int)(a5 a6:Value):Prop where
 u:Jp X fn nf ub uo uc nv vc va
 n0:X.W.cell? ⟨ub,uo+fn*7,none⟩=some (.string nm)
 n1:X.W.cell? ⟨ub,uo+fn*7+1,none⟩=some (.int .i64 fL)
 n5:X.W.cell? ⟨ub,uo+fn*7+5,none⟩=some a5
 n6:X.W.cell? ⟨ub,uo+fn*7+6,none⟩=some a6
def qW(X:RX):Prop:=kJ X.W/\0≠X.M
theorem qW.at{X:RX}{d:MD}{u:World}(h:qW X)(s:St X d u):kJ u:=(World.cell?_of_block (a:=⟨0,0,none⟩) (s.k.block 0 h.1.lt (fun e=>by
 rcases e with e|e
 ·exact h.2 e
 ·have h1:0<X.W.heap.size:=h.1.lt;have h2:X.W.heap.size<=0:=e;omega))).trans h.1
def DP.plus(p:DP)(rs:List eP)(t:Nat):DP:={p with recs:=p.recs++rs,ti:=p.ti+t}
theorem DP.ng(p:DP)(a b:List eP)(s t:Nat):(p.plus a s).plus b t=p.plus (a++b) (s+t):=by simp[DP.plus,Nat.add_assoc]
theorem DP.kP(p:DP)(x:eP):p.gU x=p.plus [x] 0:=by simp[DP.plus,DP.gU]
theorem DP.tV(p:DP):p.tick=p.plus [] 1:=by simp[DP.plus,DP.tick]
abbrev xC(X:RX)(F V j:Nat)(fn:Int)(rest:Value)(nv:Nat):RX:={xO X F V fn rest nv with cal:=jM j,ups:=.slice none 0 0}
structure Op(X:RX)(d:MD)(u:World)(X':RX)(d':MD)(w:World)(fn:Int)(C B b3 b4 b7 b8 F:Nat):Prop where
 t:Tr X d u X' d' w
 s:St X' d' w
 p:jW X d X' d' w
 f:Bx X' d' w C (cA fn)
 x3:Bx X' d' w b3 #[ptr X.M]
 x4:Bx X' d' w b4 (vA (jM B))
 x7:Bx X' d' w b7 #[ptr C]
 x8:Bx X' d' w b8 #[ptr F]
theorem Op.step{X:RX}{d:MD}{u:World}{X':RX}{d' d2:MD}{w w2:World}{fn:Int}{C B b3 b4 b7 b8 F:Nat}(h:Op X d u X' d' w fn C B b3 b4 b7 b8 F)(k:Sp X' d' w d2 w2):Op X d u X' d2 w2 fn C B b3 b4 b7 b8 F:=
 ⟨h.t.trans k.tr,k.s,h.p.step k,h.f.step k,h.x3.step k,h.x4.step k,h.x7.step k,h.x8.step k⟩
abbrev RY(X:RX)(d:MD)(u w:World)(fn:Int)(C B b3 b4 b7:Nat):Prop:=Sp X d u d w/\Bx X d w b3 #[ptr X.M]/\Bx X d w b4 (vA (jM B))/\u.heap.size<=b3/\u.heap.size<=b4/\Bx X d w C (cA fn)/\Bx X d w b7 #[ptr C]/\u.heap.size<=b7
theorem St.beside{X:RX}{d:MD}{u u':World}{g:Nat}(h:St X d u)(hg:Gx (fun k=>k=g) u u')(hW:X.W.heap.size<=g)(hn:¬stB X d g):St X d u':=by
 have nM:X.M≠g:=fun e=>hn (.inl e.symm);have nT:X.T≠g:=fun e=>hn (.inr (.inl e.symm));have nF:X.F≠g:=fun e=>hn (.inr (.inr (.inl e.symm)));have nV:X.V≠g:=fun e=>hn (.inr (.inr (.inr (.inl e.symm))));have hro:∀{t':TypeId} {N K m q c:Nat} {xs:List Value} {a:Option Addr},aj a≠some g->u.ownsRow N t' K (.slice a m c) q xs->u'.ownsRow N t' K (.slice a m c) q xs:=fun ha hh=>jS hh fun k e=>hg.block k (hh.lt k e).2 (fun c=>ha (c ▸ (dD _ _ _).symm.trans e));exact⟨h.x,hg.ownB h.m nM,hg.ownB h.t nT,hg.ownB h.f nF,hg.ownB h.v nV,hro (fun e=>hn (.inr (.inr (.inr (.inr (.inr (.inr (.inr (.inl e))))))))) h.fw,hro (fun e=>hn (.inr (.inr (.inr (.inr (.inl e)))))) h.rr,hro (fun e=>hn (.inr (.inr (.inr (.inr (.inr (.inl e))))))) h.hr,hro (fun e=>hn (.inr (.inr (.inr (.inr (.inr (.inr (.inl e)))))))) h.sr,h.k.trans hg (fun k _ e=>.inr (by rw[show k=g from e];exact hW)),Nat.le_trans h.n hg.size,h.nv,h.ty.keep (fun k e=>hg.block k (by
  rcases e with rfl|rfl|rfl|rfl
  ·exact h.m.1.1
  ·exact h.t.1.1
  ·exact h.f.1.1
  ·exact h.v.1.1) (by
  rcases e with rfl|rfl|rfl|rfl
  ·exact nM
  ·exact nT
  ·exact nF
  ·exact nV)),h.r0,h.tt.keep hg.size (fun k e=>hg.block k (h.tt.a k e).2 (fun c=>hn (stB.tb (by rw[<-c];exact e)))),h.ts⟩
theorem Hq{X:RX}{d:MD}{u w wA w':World}{fn:Int}{C B b3 b4 b7 nv F V fc:Nat}{rest:Value}{fa:Option Addr}(h:RY X d u w fn C B b3 b4 b7)(kA:Sp X d w d wA)(o:Opened X d wA fn rest nv F V fa fc w'):∀w2:World,(∀k,k<w.heap.size->w2.heap[k]?=w'.heap[k]?)->w2.cell? ⟨b3,0,none⟩=some (ptr X.M)/\w2.cell? ⟨b7,0,none⟩=some (ptr C)/\w2.cell? ⟨C,0,none⟩=some (.int .i64 fn):=fun _ k=>
 have t:=kA.tr.trans o.tr
 ⟨(World.cell?_of_block (a:=⟨b3,0,none⟩) (k b3 h.2.1.1.1)).trans ((h.2.1.tr t).cell 0 rfl),(World.cell?_of_block (a:=⟨b7,0,none⟩) (k b7 h.2.2.2.2.2.2.1.1.1)).trans ((h.2.2.2.2.2.2.1.tr t).cell 0 rfl),(World.cell?_of_block (a:=⟨C,0,none⟩) (k C h.2.2.2.2.2.1.1.1)).trans ((h.2.2.2.2.2.1.tr t).cell 0 rfl)⟩
theorem Op.mk0{X:RX}{d:MD}{u w wA w':World}{fn:Int}{C B b3 b4 b7 nv F V fc:Nat}{rest:Value}{fa:Option Addr}(h:RY X d u w fn C B b3 b4 b7)(kA:Sp X d w d wA)(o:Opened X d wA fn rest nv F V fa fc w'):Op X d u (xO X F V fn rest nv) (dO d F nv fa fc) (w'.alloc (.cells #[ptr F] 125)) fn C B b3 b4 b7 w'.heap.size F/\u.heap.size<=w'.heap.size:=
 have t:=kA.tr.trans o.tr;have k:Sp (xO X F V fn rest nv) (dO d F nv fa fc) w' (dO d F nv fa fc) (w'.alloc (.cells #[ptr F] 125)):=(Sp.refl o.s).alloc _
 ⟨⟨(h.1.tr.trans t).trans k.tr,k.s,(Opened.par kA.s o).step k,(h.2.2.2.2.2.1.tr t).step k,(h.2.1.tr t).step k,(h.2.2.1.tr t).step k,(h.2.2.2.2.2.2.1.tr t).step k,Bx.new o.s _ _⟩,(h.1.tr.trans t).g.size⟩
theorem Op.mk1{X:RX}{d:MD}{u w wA w':World}{fn:Int}{C B b3 b4 b7 nv F V fc:Nat}{rest:Value}{fa:Option Addr}(h:RY X d u w fn C B b3 b4 b7)(kA:Sp X d w d wA)(hb:fB X d wA w.heap.size #[.pointer none])(o:Opened X d wA fn rest nv F V fa fc w'):Op X d u (xO X F V fn rest nv) (dO d F nv fa fc) (w'.setCell ⟨w.heap.size,0,none⟩ (ptr F)) fn C B b3 b4 b7 w.heap.size F/\u.heap.size<=w.heap.size:=by
 have t:=kA.tr.trans o.tr;have hb':=hb.tr o.tr;have g:=Gx.set w' w.heap.size 0 (ptr F);have lt3:=h.2.1.1.1;have lt4:=h.2.2.1.1.1;have lt7:=h.2.2.2.2.2.2.1.1.1;have ltC:=h.2.2.2.2.2.1.1.1;have hs:=o.s.beside g (Nat.le_trans h.1.s.k.size (Nat.le_refl _)) hb'.2;have hk:∀{Q:Nat} {A:Array Value},Bx X d w Q A->Bx (xO X F V fn rest nv) (dO d F nv fa fc) (w'.setCell ⟨w.heap.size,0,none⟩ (ptr F)) Q A:=fun b=>⟨g.has (b.tr t).1 (by have:=b.1.1;omega),(b.tr t).2⟩;have hp:=Opened.par kA.s o;have hP:=h.1.s.par;have lw:∀{k:Nat},(k=X.F\/k=X.V\/aj d.sa=some k)->k<w.heap.size:=fun e=>hP.lt e;refine⟨⟨⟨(h.1.tr.trans t).g.trans g (fun k hk' e=>by have:=h.1.g.size;omega),(h.1.tr.trans t).mv⟩,hs,⟨hp.1.gx g (fun k e=>by have:=lw e;omega),hp.2⟩,hk h.2.2.2.2.2.1,hk h.2.1,hk h.2.2.1,hk h.2.2.2.2.2.2.1,?_⟩,h.1.g.size⟩
 ·exact⟨(hb'.1.set (o:=0) (by show 0<1;omega) (ptr F)).1,hb'.2⟩
theorem FK.set{F:Nat}{w w':World}(h:Gx (fun k=>k=F) w w')(o:Nat)(v:Value):Gx (fun k=>k=F) w (w'.setCell ⟨F,o,none⟩ v):=h.trans (Gx.set _ _ _ _) (fun _ _ e=>e)
theorem FK.drew{F:Nat}{w w':World}(h:Gx (fun k=>k=F) w w'):Gx (fun k=>k=F) w w'.drew:=h.trans (Gx.below _ (Below.refl _ _).drew) (fun _ _ (e:_=F)=>e)
theorem ZE{X:RX}{d:MD}{u:World}{X':RX}{d':MD}{w w':World}{fn:Int}{C B b3 b4 b7 b8:Nat}(h:Op X d u X' d' w fn C B b3 b4 b7 b8 X'.F)(g:Gx (fun k=>k=X'.F) w w'):w'.cell? ⟨b8,0,none⟩=some (ptr X'.F)/\w'.cell? ⟨b7,0,none⟩=some (ptr C)/\w'.cell? ⟨C,1,none⟩=some (.slice none 0 0)/\w'.cell? ⟨b4,0,none⟩=some (.int .i64 6)/\w'.cell? ⟨b4,1,none⟩=some (.int .i64 0)/\w'.cell? ⟨b4,2,none⟩=some (.float .f64 0)/\w'.cell? ⟨b4,3,none⟩=some (.string ⟨#[]⟩)/\w'.cell? ⟨b4,4,none⟩=some (.int .i64 (B:Int)):=
 have hk:∀{Q:Nat} {A:Array Value},Bx X' d' w Q A->Has w' Q A:=fun b=>g.has b.1 (fun e=>b.2 (.inr (.inr (.inl e))))
 ⟨(hk h.x8).cell 0 rfl,(hk h.x7).cell 0 rfl,(hk h.f).cell 1 rfl,(hk h.x4).cell 0 rfl,(hk h.x4).cell 1 rfl,(hk h.x4).cell 2 rfl,(hk h.x4).cell 3 rfl,(hk h.x4).cell 4 rfl⟩
theorem Op.Gp{X:RX}{d:MD}{u:World}{X':RX}{d':MD}{w w':World}{fn:Int}{C B b3 b4 b7 b8:Nat}(h:Op X d u X' d' w fn C B b3 b4 b7 b8 X'.F)(g:Gx (fun k=>k=X'.F) w w')(c:VD)(v:Value)(hf:OwnB w' X'.F (fA {X' with cal:=c,ups:=v} d'))(hT:dA w' X'.F 174):Op X d u {X' with cal:=c,ups:=v} d' w' fn C B b3 b4 b7 b8 X'.F:=
 have t:Tr X' d' w {X' with cal:=c,ups:=v} d' w':=Tr.Gp g c v
 ⟨h.t.trans t,h.s.Gp g c v hf hT,h.p.gx t,h.f.tr t,h.x3.tr t,h.x4.tr t,h.x7.tr t,h.x8.tr t⟩
structure GOT(F:Nat)(t:TypeId)(w:World)(A:Array Value)(w':World):Prop where
 g:Gx (fun k=>k=F) w w'
 o:OwnB w' F A
 t:dA w' F t
theorem GOT.set{F:Nat}{t:TypeId}{w w':World}{A:Array Value}(h:GOT F t w A w')(o:Nat)(v:Value)(ho:o<A.size):GOT F t w (A.setIfInBounds o v) (w'.setCell ⟨F,o,none⟩ v):=⟨FK.set h.g o v,h.o.set (o:=o) ho v,h.t.set _ _⟩
theorem GOT.drew{F:Nat}{t:TypeId}{w w':World}{A:Array Value}(h:GOT F t w A w'):GOT F t w A w'.drew:=⟨FK.drew h.g,h.o.block (Nat.le_refl _) rfl,h.t.keep rfl⟩
theorem Op.zV{F B:Nat}{t:TypeId}{w:World}{A A':Array Value}(h:OwnB w F A)(ht:dA w F t)(hs:A.size=13)(e:((((((A.setIfInBounds 2 (.int .i64 6)).setIfInBounds 3 (.int .i64 0)).setIfInBounds 4 (.float .f64 0)).setIfInBounds 5 (.string ⟨#[]⟩)).setIfInBounds 6 (.int .i64 (B:Int))).setIfInBounds 7 (.slice none 0 0))=A'):GOT F t w A' (((((((w.setCell ⟨F,2,none⟩ (.int .i64 6)).setCell ⟨F,3,none⟩ (.int .i64 0)).setCell ⟨F,4,none⟩ (.float .f64 0)).setCell ⟨F,5,none⟩ (.string ⟨#[]⟩)).setCell ⟨F,6,none⟩ (.int .i64 (B:Int))).setCell ⟨F,7,none⟩ (.slice none 0 0)).drew):=by
 rw[<-e];have h0:GOT F t w A w:=⟨Gx.refl _ _,h,ht⟩;have h1:=h0.set 2 (.int .i64 6) (by omega);have h2:=h1.set 3 (.int .i64 0) (by simp;omega);have h3:=h2.set 4 (.float .f64 0) (by simp;omega);have h4:=h3.set 5 (.string ⟨#[]⟩) (by simp;omega);have h5:=h4.set 6 (.int .i64 (B:Int)) (by simp;omega);exact(h5.set 7 (.slice none 0 0) (by simp;omega)).drew
theorem Zh(X:RX)(d:MD)(F V B:Nat)(fn:Int)(rest:Value)(nv fc:Nat)(fa:Option Addr):((((((fA (xO X F V fn rest nv) (dO d F nv fa fc)).setIfInBounds 2 (.int .i64 6)).setIfInBounds 3 (.int .i64 0)).setIfInBounds 4 (.float .f64 0)).setIfInBounds 5 (.string ⟨#[]⟩)).setIfInBounds 6 (.int .i64 (B:Int))).setIfInBounds 7 (.slice none 0 0)=fA (xC X F V B fn rest nv) (dO d F nv fa fc):=by
 simp[fA]
theorem Op.called{X:RX}{d:MD}{u w:World}{fn:Int}{C B b3 b4 b7 b8 nv F V fc:Nat}{rest:Value}{fa:Option Addr}(h:Op X d u (xO X F V fn rest nv) (dO d F nv fa fc) w fn C B b3 b4 b7 b8 F):Op X d u (xC X F V B fn rest nv) (dO d F nv fa fc) (((((((w.setCell ⟨F,2,none⟩ (.int .i64 6)).setCell ⟨F,3,none⟩ (.int .i64 0)).setCell ⟨F,4,none⟩ (.float .f64 0)).setCell ⟨F,5,none⟩ (.string ⟨#[]⟩)).setCell ⟨F,6,none⟩ (.int .i64 (B:Int))).setCell ⟨F,7,none⟩ (.slice none 0 0)).drew) fn C B b3 b4 b7 b8 F:=by
 have hg:=Op.zV h.s.f h.s.ty.f rfl (Zh X d F V B fn rest nv fc fa);generalize ((((((w.setCell ⟨F,2,none⟩ (.int .i64 6)).setCell ⟨F,3,none⟩ (.int .i64 0)).setCell ⟨F,4,none⟩ (.float .f64 0)).setCell ⟨F,5,none⟩ (.string ⟨#[]⟩)).setCell ⟨F,6,none⟩ (.int .i64 (B:Int))).setCell ⟨F,7,none⟩ (.slice none 0 0)).drew=W at hg ⊢;exact h.Gp hg.g (jM B) (.slice none 0 0) hg.o hg.t
abbrev fn7(nm:ByteArray)(fL:Int)(va:Option Addr)(nv vc:Nat)(a5 a6:Value):Array Value:=#[.string nm,.int .i64 fL,.int .i64 0,.bool false,.slice va nv vc,a5,a6]
theorem zu2{X:RX}{d:MD}{u:World}{X':RX}{d':MD}{w w':World}{C B b3 b4 b7 b8 F fn nf ub uo uc nv vc:Nat}{va:Option Addr}{nm:ByteArray}{fL:Int}{a5 a6:Value}(hU:UG X fn nf ub uo uc nv vc va nm fL a5 a6)(hM:X'.M=X.M)(hW:X'.W=X.W)(hf:X'.fns=X.fns)(h:Op X d u X' d' w (fn:Int) C B b3 b4 b7 b8 F)(k:Sp X' d' w d' w'):w'.cell? ⟨b3,0,none⟩=some (ptr X.M)/\w'.cell? ⟨X.M,0,none⟩=some (.slice (some ⟨ub,uo,none⟩) nf uc)/\w'.cell? ⟨b7,0,none⟩=some (ptr C)/\w'.cell? ⟨C,0,none⟩=some (.int .i64 (fn:Int))/\w'.cell? ⟨ub,uo+fn*7,none⟩=some (.string nm)/\w'.cell? ⟨ub,uo+fn*7+1,none⟩=some (.int .i64 fL)/\w'.cell? ⟨ub,uo+fn*7+2,none⟩=some (.int .i64 0)/\w'.cell? ⟨ub,uo+fn*7+3,none⟩=some (.bool false)/\w'.cell? ⟨ub,uo+fn*7+4,none⟩=some (.slice va nv vc)/\w'.cell? ⟨ub,uo+fn*7+5,none⟩=some a5/\w'.cell? ⟨ub,uo+fn*7+6,none⟩=some a6:=by
 have hu:∀o,w'.cell? ⟨ub,o,none⟩=X.W.cell? ⟨ub,o,none⟩:=fun o=>by
  rw[<-hW];exact World.cell?_of_block (a:=⟨ub,o,none⟩) (k.s.k.block ub (by rw[hW];exact hU.u.lt) (fun e=>by
   rcases e with e|e
   ·exact hU.u.ne (by rw[<-hM];exact e)
   ·have h1:=hU.u.lt;rw[hW] at e;have h2:X.W.heap.size<=ub:=e;omega))
 have m0:w'.cell? ⟨X.M,0,none⟩=some (.slice (some ⟨ub,uo,none⟩) nf uc):=by
  rw[<-hU.u.f,<-hf,<-hM];exact k.s.m.1.cell 0 rfl
 exact⟨(h.x3.step k).cell 0 rfl,m0,(h.x7.step k).cell 0 rfl,(h.f.step k).cell 0 rfl,(hu _).trans hU.n0,(hu _).trans hU.n1,(hu _).trans hU.u.p,(hu _).trans hU.u.r,(hu _).trans hU.u.v,(hu _).trans hU.n5,(hu _).trans hU.n6⟩
theorem dR.xC(X:RX)(F V B:Nat)(fn:Int)(rest:Value)(nv:Nat):dR X (xC X F V B fn rest nv):=⟨rfl,rfl,rfl,rfl,rfl,rfl,rfl,rfl,rfl,rfl,rfl,rfl,rfl,rfl,rfl⟩
end
end Go.Proofs.YtihnikeikhjndaaGreatDoor
