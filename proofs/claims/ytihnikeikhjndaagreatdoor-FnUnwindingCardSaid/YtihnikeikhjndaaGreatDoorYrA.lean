import Derived.Test.YtihnikeikhjndaaGreatDoorYzK
import Derived.Test.YtihnikeikhjndaaGreatDoorYpH
set_option maxRecDepth 100000
set_option maxHeartbeats 16000000
namespace Go.Proofs.YtihnikeikhjndaaGreatDoor
section
open Go.RowKit Go.Extern.Stop Go.Stop Go.Extern
attribute [local go_sem ↓] Go.wp_at_zero Go.wp_at_succ
theorem yq5(t:Addr)(w:World):(ReflectliteValue.unpack (.iface 192 (.pointer (some t)))).run Tryz.prog w = .ok (.agg #[hT 192,.pointer (some ⟨w.heap.size,0,none⟩),.int .u64 150]) (w.alloc (.cells #[.pointer (some t)] 192)):=by kernel_rfl
theorem yq6(a:Addr)(w:World):(ReflectliteValue.methodAny (ReflectliteValue.valueError "reflectlite.Value.Type" 0) (fun t _ _ _=>ReflectliteType.toType t) #[.agg #[hT 192,.pointer (some a),.int .u64 150]]).run Tryz.prog w = .ok (.iface 227 (.agg #[hT 192])) w:=by kernel_rfl
theorem yq9(w:World):((ReflectliteType.abiMethod fun t=>(fun a:Nat=>Value.int IntKind.u8 (a:Int)) <$> Rtype.kind t) #[hT 192]).run Tryz.prog w=.ok (.int .u8 22) w:=by kernel_rfl
theorem yr0(w:World):((ReflectliteType.abiMethod fun t=>(fun a:Nat=>Value.int IntKind.u8 (a:Int)) <$> Rtype.kind t) #[hT 190]).run Tryz.prog w=.ok (.int .u8 22) w:=by kernel_rfl
theorem yq7(a:Addr)(w:World):(ReflectliteValue.parts (.agg #[hT 192,.pointer (some a),.int .u64 150])).run Tryz.prog w=.ok (some (192,a,150)) w:=by kernel_rfl
theorem yh4(a p:Addr)(W:World)(ha:W.cell? a=some (.pointer (some p))):(ReflectliteValue.method (ReflectliteValue.valueError "reflectlite.Value.IsNil" 0) ReflectliteValue.isNil #[.agg #[hT 192,.pointer (some a),.int .u64 150]]).run Tryz.prog W=.ok (.bool false) W:=by
 obtain⟨g,h1,h2⟩:=D7 (ReflectliteValue.valueError "reflectlite.Value.IsNil" 0) ReflectliteValue.isNil (.agg #[hT 192,.pointer (some a),.int .u64 150]);rw[h1];simp only[Sem.run_bind,yq7,Result.andThen,h2];simp[ReflectliteValue.isNil,loadVar,isAgg,underlying,Tryz.underlying192,ha,Result.andThen]
theorem yr4(w:World):(ReflectliteType.method ReflectliteType.elem #[.agg #[hT 192]]).run Tryz.prog w=.ok (.iface 227 (.agg #[hT 190])) w:=by kernel_rfl
theorem yr1(w:World):(ReflectliteType.relation "Implements" ReflectliteType.implements_ #[.agg #[hT 190],.iface 227 (.agg #[hT 128])]).run Tryz.prog w=.ok (.bool true) w:=by kernel_rfl
theorem ZX(v:Value)(w:World):(Instr.typeAssert (.iface 118 v) 128 232 true).run Tryz.prog w=.ok (.tuple #[.nilIface,.bool false]) w:=run_typeAssert_lacksB Tryz.underlying232 (by kernel_rfl) (by kernel_rfl) v _ w
theorem ZY(v:Value)(w:World):(Instr.typeAssert (.iface 118 v) 128 235 true).run Tryz.prog w=.ok (.tuple #[.nilIface,.bool false]) w:=run_typeAssert_lacksB Tryz.underlying235 (by kernel_rfl) (by kernel_rfl) v _ w
theorem zl0(v:Value)(w:World):(Instr.typeAssert (.iface 118 v) 128 236 true).run Tryz.prog w=.ok (.tuple #[.nilIface,.bool false]) w:=run_typeAssert_lacksB Tryz.underlying236 (by kernel_rfl) (by kernel_rfl) v _ w
theorem yr5(w:World):(ReflectliteType.relation "AssignableTo" ReflectliteType.assignableTo #[.agg #[hT 118],.iface 227 (.agg #[hT 190])]).run Tryz.prog w=.ok (.bool false) w:=by kernel_rfl
theorem z35(K t:Addr)(old:Value)(w:World)(hg:kJ w)(ht0:w.cell? t=some old):Calls Tryz.prog 55 #[.iface 118 (.pointer (some K)),.iface 192 (.pointer (some t))] w fun ev w'=>ev=.returned (.bool false)/\ah w w':=by
 have x1:=@run_callFunc_extern Tryz.prog 91 _ (fun args=>ReflectliteValue.unpack (args.getD 0 (.tuple #[]))) Tryz.func91 (by kernel_rfl) (by kernel_rfl) (by kernel_rfl) (by kernel_rfl);have x2:=@run_callFunc_extern Tryz.prog 92 _ (ReflectliteValue.methodAny (ReflectliteValue.valueError "reflectlite.Value.Type" 0) (fun t _ _ _=>ReflectliteType.toType t)) Tryz.func92 (by kernel_rfl) (by kernel_rfl) (by kernel_rfl) (by kernel_rfl);have x3:=@run_callFunc_extern Tryz.prog 93 _ (ReflectliteValue.method (ReflectliteValue.valueError "reflectlite.Value.IsNil" 0) ReflectliteValue.isNil) Tryz.func93 (by kernel_rfl) (by kernel_rfl) (by kernel_rfl) (by kernel_rfl);have x4:=@run_callFunc_extern Tryz.prog 461 _ (ReflectliteType.abiMethod fun t=>do pure (.int .u8 (<-Rtype.kind t))) Tryz.func461 (by kernel_rfl) (by kernel_rfl) (by kernel_rfl) (by kernel_rfl);have x5:=@run_callFunc_extern Tryz.prog 475 _ (ReflectliteType.method ReflectliteType.elem) Tryz.func475 (by kernel_rfl) (by kernel_rfl) (by kernel_rfl) (by kernel_rfl);have x6:=@run_callFunc_extern Tryz.prog 476 _ (ReflectliteType.relation "Implements" ReflectliteType.implements_) Tryz.func476 (by kernel_rfl) (by kernel_rfl) (by kernel_rfl) (by kernel_rfl);have x7:=@run_callFunc_extern Tryz.prog 152 _ ReflectliteType.typeOf Tryz.func152 (by kernel_rfl) (by kernel_rfl) (by kernel_rfl) (by kernel_rfl);have x8:=@run_callFunc_extern Tryz.prog 473 _ (ReflectliteType.relation "AssignableTo" ReflectliteType.assignableTo) Tryz.func473 (by kernel_rfl) (by kernel_rfl) (by kernel_rfl) (by kernel_rfl);have y1:=Ji;have y2:=Jm;have y3:=yr5;have y5:=yq5;have y6:=yq6;have y7:=Jj;have y8:=Jl;have y9:=Jk;have y10:=yq9;have y11:=yr0;have y12:=yr4;have y13:=yr1;have z1:=ZX;have z2:=ZY;have z3:=zl0;have htl:t.block<w.heap.size:=World.block_lt_of_cell? w t ht0;have hgl:0<w.heap.size:=World.block_lt_of_cell? w ⟨0,0,none⟩ hg;obtain⟨w1,hw1⟩:∃w1,w.alloc (.cells #[.pointer (some t)] 192)=w1:=⟨_,rfl⟩;obtain⟨w2,hw2⟩:∃w2,w1.alloc (.cells #[hT 192,.pointer (some ⟨w.heap.size,0,none⟩),.int .u64 150] 179)=w2:=⟨_,rfl⟩;have b1:ah w w1:=by rw[<-hw1];exact q01 _ _
 have b2:ah w w2:=by rw[<-hw2];exact b1.alloc b1.size _
 have n1:=yh4 ⟨w.heap.size,0,none⟩ t w2 (by rw[<-hw2,<-hw1];exact((Has.new w _ _).alloc _).cell 0 rfl);have g2:w2.cell? ⟨0,0,none⟩=some (.iface 227 (.agg #[hT 128])):=(b2.cell (p:=⟨0,0,none⟩) hgl).trans hg;obtain⟨w3,hw3⟩:∃w3,w2.alloc (.cells #[hT 192,.pointer (some ⟨w.heap.size,0,none⟩),.int .u64 150] 179)=w3:=⟨_,rfl⟩;have b3:ah w w3:=by rw[<-hw3];exact b2.alloc b2.size _
 have e2:Has w2 w1.heap.size #[hT 192,.pointer (some ⟨w.heap.size,0,none⟩),.int .u64 150]:=by rw[<-hw2];exact Has.new w1 _ _
 have q0:w2.cell? ⟨w1.heap.size,0,none⟩=some (hT 192):=e2.cell 0 rfl;have q1:w2.cell? ⟨w1.heap.size,1,none⟩=some (.pointer (some ⟨w.heap.size,0,none⟩)):=e2.cell 1 rfl;have q2:w2.cell? ⟨w1.heap.size,2,none⟩=some (.int .u64 150):=e2.cell 2 rfl;have HB3:Hid (ah w w3):=b3;clear b1 b2 b3 e2 ht0 htl hgl hg;go_in;go_wp2;refine wp_loop_rounds 1 ?_;rw[rounds_succ];go_wp2;go_ret;exact⟨rfl,HB3⟩
theorem z33(E:Nat)(v:VD)(u:World)(hg:kJ u)(hE:E<u.heap.size)(hc:u.cell? ⟨E,0,none⟩=some (.int .i64 v.k)/\u.cell? ⟨E,1,none⟩=some (.int .i64 v.n)/\u.cell? ⟨E,2,none⟩=some (.float .f64 v.f)/\u.cell? ⟨E,3,none⟩=some (.string v.s)/\u.cell? ⟨E,4,none⟩=some (.int .i64 v.r)):Calls Tryz.prog 292 #[dW E] u fun e w'=>∃g,e=.returned (.slice (some ⟨g,0,none⟩) 1 1)/\ah u w'/\u.heap.size<=g/\Has w' g (vA v):=by
 have b0:ah u ((u.alloc (.cells #[.pointer none] 190)).alloc (.cells #[.pointer none] 118)):=(q01 u _).alloc (by simp) _;have HB0:Hid (ah u ((u.alloc (.cells #[.pointer none] 190)).alloc (.cells #[.pointer none] 118))):=b0;have HG:Hid (kJ ((u.alloc (.cells #[.pointer none] 190)).alloc (.cells #[.pointer none] 118))):=hg.keep b0 (Nat.le_refl _);have h1:Hid (OwnB ((u.alloc (.cells #[.pointer none] 190)).alloc (.cells #[.pointer none] 118)) u.heap.size #[.pointer none]):=(OwnB.new u _ _).call (q01 _ _);have h2:Hid (OwnB ((u.alloc (.cells #[.pointer none] 190)).alloc (.cells #[.pointer none] 118)) (u.heap.size+1) #[.pointer none]):=q35 u _ _ _;have HC:Hid (E<u.heap.size/\(u.cell? ⟨E,0,none⟩=some (.int .i64 v.k)/\u.cell? ⟨E,1,none⟩=some (.int .i64 v.n)/\u.cell? ⟨E,2,none⟩=some (.float .f64 v.f)/\u.cell? ⟨E,3,none⟩=some (.string v.s)/\u.cell? ⟨E,4,none⟩=some (.int .i64 v.r))):=⟨hE,hc⟩;clear hg b0 hE hc;go_in;go_wp2_with fail;refine(z35 ⟨E,0,none⟩ ⟨u.heap.size,0,none⟩ (.pointer none) _ HG (h1.1.cell 0 rfl)).mono ?_;rintro e w1 ⟨rfl,hb⟩;have SI:Hid (kJ w1):=HG.keep hb (Nat.le_refl _);have H2:Hid (OwnB w1 (u.heap.size+1) #[.pointer none]):=h2.call hb;have HB1:Hid (ah u w1):=HB0.trans (hb.mono HB0.size);clear hb;go_wp2_with fail;refine(PE ⟨E,0,none⟩ ⟨u.heap.size+1,0,none⟩ (.pointer none) _ SI (H2.1.cell 0 rfl) (H2.2 0)).mono ?_;rintro e w2 ⟨rfl,w4,hb,rfl⟩;have HB2:Hid (ah u (w4.setCell ⟨u.heap.size+1,0,none⟩ (.pointer (some ⟨E,0,none⟩)))):=(HB1.trans (hb.mono HB1.size)).setCell (by simp) _;obtain⟨w5,hw5⟩:∃w5,w4.setCell ⟨u.heap.size+1,0,none⟩ (.pointer (some ⟨E,0,none⟩))=w5:=⟨_,rfl⟩;have q1:w5.cell? ⟨u.heap.size+1,0,none⟩=some (.pointer (some ⟨E,0,none⟩)):=by
  rw[<-hw5];exact((H2.call hb).set (o:=0) (by show 0<1;omega) _).1.cell 0 rfl
 have hl5:u.heap.size+1<w5.heap.size:=by
  rw[<-hw5];have:=(H2.call hb).1.1;simpa using this
 rw[hw5] at HB2;rw[hw5];have e0:=(HB2.cell (p:=⟨E,0,none⟩) HC.1).trans HC.2.1;have e1:=(HB2.cell (p:=⟨E,1,none⟩) HC.1).trans HC.2.2.1;have e2:=(HB2.cell (p:=⟨E,2,none⟩) HC.1).trans HC.2.2.2.1;have e3:=(HB2.cell (p:=⟨E,3,none⟩) HC.1).trans HC.2.2.2.2.1;have e4:=(HB2.cell (p:=⟨E,4,none⟩) HC.1).trans HC.2.2.2.2.2;have HF:Hid (ah u (w5.alloc (.cells (vA v) 53))/\u.heap.size<=w5.heap.size/\Has (w5.alloc (.cells (vA v) 53)) w5.heap.size (vA v)):=⟨lW HB2.out _,HB2.size,Has.new _ _ _⟩;clear hb hw5;go_wp2_with fail;go_ret;exact⟨_,rfl,HF⟩
theorem z14(t:Value)(way:Value)(u:World):Calls Tryz.prog 239 #[t,way,.nilIface] u fun e w'=>e=.returned way/\ah u w':=by
 have b0:Hid (ah u ((u.alloc (.cells #[.pointer none] 118)).alloc (.cells #[.pointer none] 246))):=(q01 u _).alloc (by simp) _;go_in;go_wp2_with fail;go_ret;exact⟨rfl,b0.out⟩
end
section
open Go.RowKit
attribute [local go_sem] aN
attribute [local go_sem ↓] Go.wp_at_zero Go.wp_at_succ
abbrev rU(L:Int)(g c:Nat):Array Value:=#[.int .i64 L,.int .i64 8,.int .i64 0,.float .f64 0,.string ⟨#[]⟩,.int .i64 0,.slice (some ⟨g,0,none⟩) 1 c]
theorem ZN(X:RX)(d:MD)(b6 b5 b4 g c:Nat)(L:Int)(v:VD)(tx:VD->ByteArray)(u:World)(h:St X d u)(k6:Bx X d u b6 (rU L g c))(k5:Bx X d u b5 #[ptr X.F])(k4:Bx X d u b4 #[ptr X.M])(hg:Bl X d u g [v])(hT:sK X tx [v])(hj:(dM tx [v]).size<=4000)(ht:d.ti<X.tk)(hl:d.recs.length<5000):Calls Tryz.prog 293 #[ptr b6,ptr b5,ptr b4] u fun e w'=>gG X d u (iW (((d.p.ln L).tick).gU ⟨6,0,X.fn,L,dM tx [v]⟩)) e w':=by
 have HS:Hid (St X d u):=h;have HK:Hid (Bx X d u b6 (rU L g c)/\Bx X d u b5 #[ptr X.F]/\Bx X d u b4 #[ptr X.M]/\Bl X d u g [v]):=⟨k6,k5,k4,hg⟩;have HT:Hid (sK X tx [v]/\(dM tx [v]).size<=4000/\d.ti<X.tk/\d.recs.length<5000):=⟨hT,hj,ht,hl⟩;have c5:=k5.cell 0 rfl;have c6:=k6.cell 0 rfl;have f12:=h.f.1.cell 12 rfl;have fz:=h.f.2;have lF:=h.f.1.1;have l5:=k5.1.1;have l6:=k6.1.1;have n6:X.F≠b6:=fun e=>k6.2 (.inr (.inr (.inl e.symm)));clear h k6 k5 k4 hg hT hj ht hl;go_in
 go_upto_region 2 with fail
 obtain⟨d2,w2,hw2,hs2,e2⟩:∃d2 w2,u.setCell ⟨X.F,12,none⟩ (.int .i64 L)=w2/\Sp X d u d2 w2/\d2.p=d.p.ln L:=⟨_,_,rfl,Sp.line HS.out L,rfl⟩;have H2:Hid (Sp X d u d2 w2/\d2.p=d.p.ln L):=⟨hs2,e2⟩;rw[hw2];clear hw2 c5 c6 f12 fz lF l5 l6 n6;have k6:=HK.1.step hs2;have k4:=HK.2.2.1.step hs2;have c4:=k4.cell 0 rfl;have a1:=k6.cell 1 rfl;have a2:=k6.cell 2 rfl;have a3:=k6.cell 3 rfl;have a4:=k6.cell 4 rfl;have a5:=k6.cell 5 rfl;have a6:=k6.cell 6 rfl;have l4:=k4.1.1;have l6:=k6.1.1;have hp:=Xe X d2 g c 1 [v] tx w2 hs2.s (by have e:d2.ti=d.ti:=congrArg DP.ti e2;rw[e];exact HT.2.2.1) HT.1 (HK.2.2.2.step hs2) rfl (by omega) (by omega) HT.2.1 (by have e:d2.recs=d.recs:=congrArg DP.recs e2;rw[e];exact HT.2.2.2);have hln:d2.line=L:=congrArg DP.line e2;rw[hln,e2] at hp;have HP:Hid (Calls Tryz.prog 200 #[ptr X.M,kE.v,.slice (some ⟨g,0,none⟩) 1 c] w2 fun e w'=>bP X d2 w2 [] ((d.p.ln L).tick.gU ⟨6,0,X.fn,L,dM tx [v]⟩) e w'):=hp;clear hp hln hs2 e2 k6 k4;go_wp2_with fail;refine HP.mono ?_;rintro e w3 ⟨a,ac,d3,rfl,_,_,hs3,e3,_⟩;have HF:Hid (gG X d u (iW ((d.p.ln L).tick.gU ⟨6,0,X.fn,L,dM tx [v]⟩)) (.returned .nilIface) w3):=⟨_,d3,rfl,H2.1.trans hs3,rfl,e3⟩;clear hs3 e3;go_wp2_with fail;go_ret;exact HF
theorem DP.Gq(p:DP)(v:VD)(L:Int)(x:eP):(((((p.hold [v]).ln L).tick).gU x).ln p.line).dX p.held.length=p.plus [x] 1:=by simp[DP.hold,DP.ln,DP.tick,DP.gU,DP.dX,DP.plus]
theorem qj9(X:RX)(d:MD)(g c E N0:Nat)(L:Int)(v:VD)(tx:VD->ByteArray)(k:Ek)(tr:ByteArray)(q:DP)(u:World)(h:St X d u)(hE:qW X)(zM:dZ X N0 k tr q E d u)(hg:Bl X d u g [v])(hT:sK X tx [v])(hj:(dM tx [v]).size<=4000)(ht:d.ti<X.tk)(hl:d.recs.length<5000)(hh:d.held.length<=900):Calls Tryz.prog 240 #[ptr X.M,ptr X.F,.agg (rU L g c),dW E] u fun e w'=>e=.returned .nilIface/\To X d u (d.p.plus [⟨6,0,X.fn,L,dM tx [v]⟩] 1) w':=by
 have HS:Hid (St X d u):=h;have HB:Hid (qW X/\dZ X N0 k tr q E d u/\Bl X d u g [v]):=⟨hE,zM,hg⟩;have HT:Hid (sK X tx [v]/\(dM tx [v]).size<=4000/\d.ti<X.tk/\d.recs.length<5000/\d.held.length<=900):=⟨hT,hj,ht,hl,hh⟩;clear h hE zM hg hT hj ht hl hh;have hmf:=Dc;go_in;go_wp2_with fail;obtain⟨w1,hw1⟩:∃w1,((u.alloc (.cells #[ptr X.M] 39)).alloc (.cells #[ptr X.F] 125)).alloc (.cells (rU L g c) 323)=w1:=⟨_,rfl⟩;obtain⟨b4,hb4⟩:∃b4,u.heap.size=b4:=⟨_,rfl⟩;have H1:Hid (Sp X d u d w1/\Bx X d w1 b4 #[ptr X.M]/\Bx X d w1 (b4+1) #[ptr X.F]/\Bx X d w1 (b4+1 + 1) (rU L g c)):=by
  rw[<-hw1,<-hb4];have h2:=Bx.new (HS.alloc (.cells #[ptr X.M] 39)) #[ptr X.F] 125;have h3:=Bx.new ((HS.alloc (.cells #[ptr X.M] 39)).alloc (.cells #[ptr X.F] 125)) (rU L g c) 323;rw[World.size_alloc] at h2;rw[World.size_alloc,World.size_alloc] at h3;exact⟨(((Sp.refl HS).alloc _).alloc _).alloc _,((Bx.new HS _ _).alloc _).alloc _,h2.alloc _,h3⟩
 rw[hw1,hb4];clear hw1 hb4;have hT1:=HB.2.1.step H1.1 (fun t v e=>⟨v,e⟩);have hc:=Zf hT1;refine(z33 E k.v w1 (HB.1.at H1.1.s) hT1.e.1.1.1 ⟨hc.1,hc.2.1,hc.2.2.1,hc.2.2.2.1,hc.2.2.2.2.1⟩).mono ?_;rintro e w2 ⟨g2,rfl,hb2,hg2,hv2⟩;have H2:Hid (Sp X d u d w2/\Bx X d w2 b4 #[ptr X.M]/\Bx X d w2 (b4+1) #[ptr X.F]/\Bx X d w2 (b4+1 + 1) (rU L g c)/\Has w2 g2 (vA k.v)):=⟨H1.1.call hb2,H1.2.1.step (Sp.below H1.1.s hb2),H1.2.2.1.step (Sp.below H1.1.s hb2),H1.2.2.2.step (Sp.below H1.1.s hb2),hv2⟩;clear hT1 hc H1 hb2 hg2 hv2;have c5:=H2.2.2.1.cell 0 rfl;have f0:=H2.1.s.f.1.cell 0 rfl;have l5:=H2.2.2.1.1.1;have lF:=H2.1.s.f.1.1;go_wp2_with fail;refine(GU X d g2 k.v w2 H2.1.s (by have:=HT.2.2.2.2;omega) H2.2.2.2.2).mono ?_;rintro e w3 ⟨rfl,d3,hs3,e3⟩;have H3:Hid (Sp X d u d3 w3/\d3.p=d.p.hold [k.v]/\Bx X d3 w3 b4 #[ptr X.M]/\Bx X d3 w3 (b4+1) #[ptr X.F]/\Bx X d3 w3 (b4+1 + 1) (rU L g c)):=⟨H2.1.trans hs3,e3,H2.2.1.step hs3,H2.2.2.1.step hs3,H2.2.2.2.1.step hs3⟩;clear hs3 e3 H2 c5 f0 l5 lF;have ku:Hid (Calls Tryz.prog 53 #[ptr X.F,jA 293 #[ptr (b4+1 + 1),ptr (b4+1),ptr b4]] w3 fun e w'=>gG X d3 w3 (jX X d3.line (iW ((((d3.p.ln L).tick).gU ⟨6,0,X.fn,L,dM tx [v]⟩)))) e w'):=by
  refine PI X d3 _ _ w3 H3.1.s (WM X d3 293 _ _ w3 H3.1.s (fun _ _=>rfl) (fun _ _ _ c=>c.1) (iW.xw _ _) (fun w4 s4 _=>?_));exact ZN X d3 (b4+1 + 1) (b4+1) b4 g c L v tx w4 s4.s (H3.2.2.2.2.step s4) (H3.2.2.2.1.step s4) (H3.2.2.1.step s4) ((HB.2.2.step H3.1).step s4) HT.1 HT.2.1 (by have e:d3.ti=d.ti:=congrArg DP.ti H3.2.1;rw[e];exact HT.2.2.1) (by have e:d3.recs=d.recs:=congrArg DP.recs H3.2.1;rw[e];exact HT.2.2.2.1)
 have c5:=H3.2.2.2.1.cell 0 rfl;have l5:=H3.2.2.2.1.1.1;go_wp2_with fail;refine ku.mono ?_;rintro e w5 ⟨way,d5,rfl,hs5,d4,w4,⟨rfl,e4⟩,Qu,e5⟩;have e6:d5.p=((((d.p.hold [k.v]).ln L).tick).gU ⟨6,0,X.fn,L,dM tx [v]⟩).ln d.line:=by
  have hl3:d3.line=d.line:=congrArg DP.line H3.2.1;rw[e5,e4,H3.2.1,hl3]
 have hh5:d5.held=d.held++[k.v]:=congrArg DP.held e6;have hl5:d5.held.length=d.held.length+1:=by rw[hh5];simp
 have H5:Hid (Sp X d u d5 w5/\d5.p=((((d.p.hold [k.v]).ln L).tick).gU ⟨6,0,X.fn,L,dM tx [v]⟩).ln d.line/\Bx X d5 w5 (b4+1) #[ptr X.F]):=⟨H3.1.trans hs5,e6,H3.2.2.2.1.step hs5⟩;clear hs5 Qu e4 e5 e6 H3 ku c5 l5 hmf hh5;have c5:=H5.2.2.cell 0 rfl;have l5:=H5.2.2.1.1;have f0:=H5.1.s.f.1.cell 0 rfl;have lF:=H5.1.s.f.1.1;go_wp2_with fail;refine(Hz X d5 1 w5 H5.1.s (by omega) (by have:=HT.2.2.2.2;omega)).mono ?_;rintro e w6 ⟨rfl,d6,hs6,e6⟩;have HF:Hid (To X d u (d.p.plus [⟨6,0,X.fn,L,dM tx [v]⟩] 1) w6):=⟨d6,H5.1.trans hs6,by rw[e6,H5.2.1,show d5.held.length-1=d.held.length by omega];exact DP.Gq d.p k.v L _⟩;clear hs6 e6 c5 l5 f0 lF;go_wp2_with fail;go_ret;exact⟨rfl,HF⟩
def oU(X:RX)(d:MD)(u:World)(D:Nat)(L:Int)(g c:Nat):Prop:=(D<u.heap.size/\∀(o:Nat) v,(rU L g c)[o]?=some v->u.cell? ⟨D,o,none⟩=some v)/\¬stB X d D
theorem oU.step{X:RX}{d d':MD}{u u':World}{D g c:Nat}{L:Int}(h:oU X d u D L g c)(k:Sp X d u d' u'):oU X d' u' D L g c:=
 ⟨⟨Nat.lt_of_lt_of_le h.1.1 k.g.size,fun o v e=>(World.cell?_of_block (a:=⟨D,o,none⟩) (k.g.block D h.1.1 h.2)).trans (h.1.2 o v e)⟩,fun c=>h.2 (k.mv D h.1.1 c)⟩
theorem zd2(X:RX)(d:MD)(D dc g c E N0:Nat)(L:Int)(v:VD)(tx:VD->ByteArray)(k:Ek)(tr:ByteArray)(q:DP)(u:World)(h:St X d u)(hE:qW X)(zM:dZ X N0 k tr q E d u)(hdf:d.df=.slice (some ⟨D,0,none⟩) 1 dc)(hdc:1<=dc)(hD:oU X d u D L g c)(hg:Bl X d u g [v])(hT:sK X tx [v])(hj:(dM tx [v]).size<=4000)(ht:d.ti<X.tk)(hl:d.recs.length<5000)(hh:d.held.length<=900):Calls Tryz.prog 191 #[ptr X.M,ptr X.F,.int .i64 0,dW E] u fun e w'=>e=.returned (dW E)/\To X d u ((d.p.defs (.slice (some ⟨D,0,none⟩) 0 dc)).plus [⟨6,0,X.fn,L,dM tx [v]⟩] 1) w':=by
 have HS:Hid (St X d u):=h;have HB:Hid (qW X/\dZ X N0 k tr q E d u/\Bl X d u g [v]):=⟨hE,zM,hg⟩;have HT:Hid (sK X tx [v]/\(dM tx [v]).size<=4000/\d.ti<X.tk/\d.recs.length<5000/\d.held.length<=900):=⟨hT,hj,ht,hl,hh⟩;have f11:u.cell? ⟨X.F,11,none⟩=some (.slice (some ⟨D,0,none⟩) 1 dc):=by rw[<-hdf];exact h.f.1.cell 11 rfl
 have fz:=h.f.2;have lF:=h.f.1.1;have a0:=hD.1.2 0 _ rfl;have a1:=hD.1.2 1 _ rfl;have a2:=hD.1.2 2 _ rfl;have a3:=hD.1.2 3 _ rfl;have a4:=hD.1.2 4 _ rfl;have a5:=hD.1.2 5 _ rfl;have a6:=hD.1.2 6 _ rfl;have lD:=hD.1.1;have hif:(if dc=0 then some (⟨D,0,none⟩:Addr) else(some (⟨D,0,none⟩:Addr)).map (fun x=>x.add 0))=some ⟨D,0,none⟩:=AY _ _ (.inr ⟨D,rfl⟩);have a03:¬dc=0:=by omega
 clear h hE zM hdf hD hg hT hj ht hl hh;go_in;go_wp2_with fail;refine wp_loop_rounds 2 ?_;rw[rounds_succ];go_upto_region 5 with fail;obtain⟨w1,hw1⟩:∃w1,(u.setCell ⟨X.F,11,none⟩ (.slice (some ⟨D,0,none⟩) 0 dc)).alloc (.cells (rU L g c) 323)=w1:=⟨_,rfl⟩;obtain⟨C,hC0⟩:∃C,u.heap.size=C:=⟨_,rfl⟩;obtain⟨d1,hd1⟩:∃d1:MD,{d with df:=.slice (some ⟨D,0,none⟩) 0 dc}=d1:=⟨_,rfl⟩;have H1:Hid (Sp X d u d1 w1/\d1.p=d.p.defs (.slice (some ⟨D,0,none⟩) 0 dc)/\Bx X d1 w1 C (rU L g c)):=by
  have k2:=Sp.defs HS.out (.slice (some ⟨D,0,none⟩) 0 dc);have k3:=Bx.new k2.s (rU L g c) 323;rw[World.size_setCell] at k3;rw[<-hw1,<-hd1,<-hC0];exact⟨k2.alloc _,rfl,k3⟩
 rw[show(u.setCell ⟨X.F,11,none⟩ (.slice (some ⟨D,0,none⟩) 0 dc)).alloc (.cells #[.int .i64 L,.int .i64 8,.int .i64 0,.float .f64 0,.string ⟨#[]⟩,.int .i64 0,.slice (some ⟨g,0,none⟩) 1 c] 323)=w1 from hw1,hC0];clear hw1 hd1 hC0 f11 fz lF a0 a1 a2 a3 a4 a5 a6 lD hif;have HT1:Hid (dZ X N0 k tr (q.defs (.slice (some ⟨D,0,none⟩) 0 dc)) E d1 w1):=HB.2.1.step H1.1 (fun t v e=>⟨{v with df:=.slice (some ⟨D,0,none⟩) 0 dc},by rw[H1.2.1,e];rfl⟩);have jo:Hid (d1.ti<X.tk/\d1.recs.length<5000/\d1.held.length<=900):=by
  have e1:d1.ti=d.ti:=congrArg DP.ti H1.2.1;have e2:d1.recs=d.recs:=congrArg DP.recs H1.2.1;have e3:d1.held=d.held:=congrArg DP.held H1.2.1;refine⟨?_,?_,?_⟩
  ·rw[e1];exact HT.2.2.1
  ·rw[e2];exact HT.2.2.2.1
  ·rw[e3];exact HT.2.2.2.2
 have HK:Hid (∀d' w',Sp X d1 w1 d' w'->w'.cell? ⟨X.F,0,none⟩=some (ptr X.T)/\w'.cell? ⟨C,0,none⟩=some (.int .i64 L)/\w'.cell? ⟨C,1,none⟩=some (.int .i64 8)/\w'.cell? ⟨C,2,none⟩=some (.int .i64 0)/\w'.cell? ⟨C,3,none⟩=some (.float .f64 0)/\w'.cell? ⟨C,4,none⟩=some (.string ⟨#[]⟩)/\w'.cell? ⟨C,5,none⟩=some (.int .i64 0)/\w'.cell? ⟨C,6,none⟩=some (.slice (some ⟨g,0,none⟩) 1 c)):=fun d' w' s=>⟨s.s.f.1.cell 0 rfl,(H1.2.2.step s).cell 0 rfl,(H1.2.2.step s).cell 1 rfl,(H1.2.2.step s).cell 2 rfl,(H1.2.2.step s).cell 3 rfl,(H1.2.2.step s).cell 4 rfl,(H1.2.2.step s).cell 5 rfl,(H1.2.2.step s).cell 6 rfl⟩;have KA:Hid (Sp X d1 w1 d1 w1.drew):=(Sp.refl H1.1.s).drew;have S0:=HK.out d1 _ KA.out
 go_region_held3 (fun w'=>w'.cell? ⟨X.F,0,none⟩=some (ptr X.T)/\w'.cell? ⟨C,0,none⟩=some (.int .i64 L)/\w'.cell? ⟨C,1,none⟩=some (.int .i64 8)/\w'.cell? ⟨C,2,none⟩=some (.int .i64 0)/\w'.cell? ⟨C,3,none⟩=some (.float .f64 0)/\w'.cell? ⟨C,4,none⟩=some (.string ⟨#[]⟩)/\w'.cell? ⟨C,5,none⟩=some (.int .i64 0)/\w'.cell? ⟨C,6,none⟩=some (.slice (some ⟨g,0,none⟩) 1 c)) (with_reducible first|exact S0|exact S1|exact S2)
  (first
   |(go_at_call 240;refine(qj9 X d1 g c E N0 L v tx k tr _ _ KA.s HB.1 (HT1.step KA (fun t v e=>⟨v,e⟩)) ((HB.2.2.step H1.1).step KA) HT.1 HT.2.1 jo.1 jo.2.1 jo.2.2).mono ?_;rintro e w2 ⟨rfl,d2,hs2,e2⟩;have K2:Hid (Sp X d1 w1 d2 w2/\d2.p=d1.p.plus [⟨6,0,X.fn,L,dM tx [v]⟩] 1):=⟨KA.trans hs2,e2⟩;have S1:=HK.out d2 w2 K2.1;clear hs2 e2)
   |(go_at_call 239;refine(z14 _ (dW E) _).mono ?_;rintro e w3 ⟨rfl,hb3⟩;have K3:Hid (Sp X d1 w1 d2 w3):=K2.1.call hb3;have S2:=HK.out d2 w3 K3.out;clear hb3))
 all_goals
  have f11:w3.cell? ⟨X.F,11,none⟩=some (.slice (some ⟨D,0,none⟩) 0 dc):=by
   have e:d2.df=.slice (some ⟨D,0,none⟩) 0 dc:=by
    have h1:d2.df=d1.df:=congrArg DP.df K2.2;have h2:d1.df=.slice (some ⟨D,0,none⟩) 0 dc:=congrArg DP.df H1.2.1;rw[h1,h2]
   rw[<-e];exact K3.s.f.1.cell 11 rfl
  have lF:=K3.s.f.1.1;have HF:Hid (To X d u ((d.p.defs (.slice (some ⟨D,0,none⟩) 0 dc)).plus [⟨6,0,X.fn,L,dM tx [v]⟩] 1) w3):=⟨d2,H1.1.trans K3.out,by rw[K2.2,H1.2.1]⟩;clear S0 S1 S2 K2 K3 KA HK;go_wp2_with fail;rw[rounds_succ];go_wp2_with fail;go_ret;exact⟨rfl,HF⟩
theorem ye8:(Tryz.prog.info? 323).map (fun i=>(i.zero,i.size,i.bytes))=some (some (.agg #[.int .i64 0,.int .i64 0,.int .i64 0,.float .f64 0,.string ⟨#[]⟩,.int .i64 0,.slice none 0 0]),7,80):=by kernel_rfl
def Kr(X:RX)(N:Nat)(q:DP)(L:Int)(v:VD)(way:Value)(d':MD)(w':World):Prop:=way=.nilIface/\∃D dc g c,d'.p=q.defs (.slice (some ⟨D,0,none⟩) 1 dc)/\1<=dc/\oU X d' w' D L g c/\Bl X d' w' g [v]/\N<=D/\N<=g
theorem zn2(X:RX)(d:MD)(x1 x2 p1 p2:Nat)(A2:Array Value)(L:Int)(v:VD)(u:World)(h:St X d u)(k1:Od X x1 #[AX p1 p2])(k2:Od X x2 A2)(hA:A2[1]?=some (.int .i64 L))(hdf:d.df=.slice none 0 0)(hp:Calls Tryz.prog 248 #[ptr X.F,ptr p1,ptr p2] u fun e w'=>Di X d u kE [v] d.p e w'):Calls Tryz.prog 237 #[ptr X.F,ptr x1,ptr x2] u fun e w'=>gG X d u (Kr X u.heap.size d.p L v) e w':=by
 have HS:Hid (St X d u):=h;have HP:Hid (Calls Tryz.prog 248 #[ptr X.F,ptr p1,ptr p2] u fun e w'=>Di X d u kE [v] d.p e w'):=hp;have iY:Hid (Od X x2 A2/\A2[1]?=some (.int .i64 L)/\d.df=.slice none 0 0):=⟨k2,hA,hdf⟩;have b1:=(k1.at h).cell 0 rfl;have z1:=(k1.at h).1;clear h k1 k2 hA hdf hp;go_in;go_wp2_with fail;refine HP.mono ?_;rintro e w1 ⟨g,c,d1,rfl,ho1,hs1,e1,hn1⟩;have H1:Hid (Sp X d u d1 w1/\d1.p=d.p/\Bl X d1 w1 g [v]/\u.heap.size<=g):=⟨hs1,e1,kG.bl ho1 hn1,(q16 ho1 rfl).1⟩;clear hs1 e1 ho1 hn1 b1 z1 HP
 go_upto_region 2 with fail
 obtain⟨w2,hw2⟩:∃w2,w1.alloc (.cells (vA kE) 53)=w2:=⟨_,rfl⟩;obtain⟨C,hC0⟩:∃C,w1.heap.size=C:=⟨_,rfl⟩;have H2:Hid (Sp X d u d1 w2/\Bx X d1 w2 C (vA kE)/\Bl X d1 w2 g [v]):=by
  rw[<-hw2,<-hC0];exact⟨H1.1.alloc _,Bx.new H1.1.s _ _,H1.2.2.1.step (Sp.below H1.1.s (q01 _ _))⟩
 have e1:d1.df=.slice none 0 0:=(congrArg DP.df H1.2.1).trans iY.2.2;rw[show w1.alloc (.cells #[.int .i64 8,.int .i64 0,.float .f64 0,.string ⟨#[]⟩,.int .i64 0] 53)=w2 from hw2,hC0];clear hw2 hC0;obtain⟨i0,hy,hy0,hy1,hy2⟩:=info_parts ye8;obtain⟨v',w7,happ,hown,hgrow,_,hat⟩:=run_append_own_at (P:=Tryz.prog) (w2.alloc (.cells (rU L g c) 323)).drew X.N 172 172 323 i0 _ 7 80 Tryz.underlying172 hy hy0 hy1 hy2 rfl (by decide) (.slice none 0 0) 0 [] (World.ownsRow_nil _ _ _ _) ⟨w2.heap.size,0,none⟩ 1 1 (rU L g c).toList rfl (yD w2 (rU L g c) _) (by simp[Value.oneCell']) (by unfold maxLen;omega) (by omega) (by have:=H2.1.s.n;simp;omega);obtain⟨D,dc,rfl,hD,hdc,hDn⟩:∃D dc,v'=.slice (some ⟨D,0,none⟩) 1 dc/\w2.heap.size<=D/\1<=dc/\D<w7.heap.size:=by
  rcases hown.2 with⟨_,d⟩|⟨D,cap,cur,rfl,hb,hg,h2,h3,h4,h5⟩
  ·omega
  ·refine⟨D,cap,rfl,?_,by omega,(Array.getElem?_eq_some_iff.1 hg).1⟩;rcases hat with e|e
   ·cases e
   ·have:=Option.some.inj e;simp at this;omega
 have BL:ah w2 w7:=((q01 w2 _).drew).grown hgrow (by simp) (fun k e=>by cases e);have k7:=Sp.below H2.1.s BL;have k8:=Sp.defs k7.s (.slice (some ⟨D,0,none⟩) 1 dc);have HF:Hid (gG X d u (Kr X u.heap.size d.p L v) (.returned .nilIface) (w7.setCell ⟨X.F,11,none⟩ (.slice (some ⟨D,0,none⟩) 1 dc))):=by
  refine⟨_,_,rfl,(H2.1.trans k7).trans k8,rfl,D,dc,g,c,?_,hdc,?_,(H2.2.2.step k7).step k8,Nat.le_trans H2.1.g.size hD,H1.2.2.2⟩
  ·show d1.p.defs _=_;rw[H1.2.1]
  ·refine oU.step ⟨⟨hDn,fun o x e=>?_⟩,fun c=>?_⟩ k8
   ·have hc:=hown.cells (g:=D) rfl o x (by simpa using e)
    cases o<;>simpa[Addr.add] using hc
   ·exact H2.1.s.other hD c
 have f11:w2.cell? ⟨X.F,11,none⟩=some (.slice none 0 0):=by rw[<-e1];exact H2.1.s.f.1.cell 11 rfl
 have f7:w7.cell? ⟨X.F,11,none⟩=some (.slice none 0 0):=by rw[<-e1];exact k7.s.f.1.cell 11 rfl
 have fz:=k7.s.f.2;have n1:=(iY.1.at H2.1.s).cell 1 iY.2.1;have c0:=H2.2.1.cell 0 rfl;have c1:=H2.2.1.cell 1 rfl;have c2:=H2.2.1.cell 2 rfl;have c3:=H2.2.1.cell 3 rfl;have c4:=H2.2.1.cell 4 rfl;have lF:=H2.1.s.f.1.1;have lC:=H2.2.1.1.1;have lx:=(iY.1.at H2.1.s).1;clear hown hgrow hat hD hdc hDn BL k7 k8 hy hy0 hy1 hy2 e1
 go_region_law ((refine wF (by rfl) _ _ _ _ (by rfl) (.slice none 0 0) (.slice (some ⟨w2.heap.size,0,none⟩) 1 1) _ _ (by rfl) (by rfl) happ ?_))
 all_goals
  go_wp2_with fail;go_ret;exact HF
theorem Lu(w:World)(b o:Nat)(v:Value)(h:w.cell? ⟨b,o,none⟩=some v):w.setCell ⟨b,o,none⟩ v=w:=by
 obtain⟨c,t,fr,h1,h2⟩:∃c t fr,w.heap[b]?=some (.cells c t fr)/\c[o]?=some v:=by
  unfold World.cell? at h
  cases hh:w.heap[b]? with
  |none=>simp[hh] at h
  |some x=>
   cases x with
   |cells c t fr=>exact⟨c,t,fr,rfl,by simpa[hh] using h⟩
   |_=>simp[hh] at h
 have hc:c.setIfInBounds o v=c:=by
  refine Array.ext_getElem? fun i=>?_;rw[Array.getElem?_setIfInBounds];split
  ·next e=>
   subst e;rw[h2];split
   ·rfl
   ·next hn=>exact absurd (Array.getElem?_eq_some_iff.1 h2).1 hn
  ·rfl
 have hh:(w.setCell ⟨b,o,none⟩ v).heap=w.heap:=by
  refine Array.ext_getElem? fun i=>?_;by_cases e:i=b
  ·subst e;simp[World.setCell,Array.getElem?_modify,h1,hc]
  ·exact Below.heap_setCell _ _ _ _ e
 cases w;simp only[World.setCell] at hh ⊢;simp only[hh]
theorem ye4(X:RX)(d:MD)(k1 ka kc b3 b7 s1 s2 s3 t1 t2 t3:Nat)(R:Value->MD->World->Prop)(S:Nat->MD->World->Prop)(u:World)(h:St X d u)(hk1:Od X k1 #[.slice (some ⟨ka,0,none⟩) 2 kc])(hka:Oo X ka 0 (zh s1 s2 s3))(hkb:Oo X ka 1 (zh t1 t2 t3))(h3:Bx X d u b3 #[ptr X.F])(h7:fB X d u b7 #[.int .i64 0])(hsc:d.sc=[])(hR:∀way d' w',R way d' w'->way=.nilIface/\d'.sc=[])(hst:Calls Tryz.prog 147 #[ptr X.F,ptr s1,ptr s2,ptr s3] u fun e w'=>gG X d u R e w')(hsu:∀d1 w1,Sp X d u d1 w1->R .nilIface d1 w1->Calls Tryz.prog 147 #[ptr X.F,ptr t1,ptr t2,ptr t3] w1 fun e w'=>bG X d1 w1 S e w'):Calls Tryz.prog 190 #[ptr k1,ptr b3,ptr b7] u fun e w'=>bG X d u S e w':=by
 have Sj:Hid (Calls Tryz.prog 147 #[ptr X.F,ptr s1,ptr s2,ptr s3] u fun e w'=>gG X d u R e w'):=hst;have HSu:Hid (∀d1 w1,Sp X d u d1 w1->R .nilIface d1 w1->Calls Tryz.prog 147 #[ptr X.F,ptr t1,ptr t2,ptr t3] w1 fun e w'=>bG X d1 w1 S e w'):=hsu;have HK:Hid (Oo X ka 1 (zh t1 t2 t3)/\Bx X d u b3 #[ptr X.F]/\fB X d u b7 #[.int .i64 0]/\(∀way d' w',R way d' w'->way=.nilIface/\d'.sc=[])):=⟨hkb,h3,h7,hR⟩;have q1:=(hk1.at h).cell 0 rfl;have l1:=(hk1.at h).1;have f10:u.cell? ⟨X.F,10,none⟩=some (.slice d.sa 0 d.sp):=by
  have:=h.f.1.cell 10 rfl;rw[show(fA X d)[10]=.slice d.sa d.sc.length d.sp from rfl,hsc] at this;exact this
 have lF:=h.f.1.1;have LX:=hka.at h;have c3:=h3.cell 0 rfl;have l3:=h3.1.1;have c7:=h7.1.1.cell 0 rfl;have z7:=h7.1.2;have l7:=h7.1.1.1;have hid:=Lu u b7 0 (.int .i64 0) c7;clear h hk1 hka hst hkb h3 h7 hsc hR hsu;go_in;go_wp2_with fail;refine wp_loop_rounds 2 ?_;rw[rounds_succ];go_wp2_with fail;refine Sj.mono ?_;rintro e w1 ⟨way,d1,rfl,hs1,hr1⟩;obtain⟨rfl,hsc1⟩:=HK.2.2.2 way d1 w1 hr1;have H1:Hid (Sp X d u d1 w1/\R .nilIface d1 w1):=⟨hs1,hr1⟩;clear q1 l1 f10 lF LX c3 l3 c7 z7 l7 hid;have f10:w1.cell? ⟨X.F,10,none⟩=some (.slice d1.sa 0 d1.sp):=by
  have:=hs1.s.f.1.cell 10 rfl;rw[show(fA X d1)[10]=.slice d1.sa d1.sc.length d1.sp from rfl,hsc1] at this;exact this
 have lF:=hs1.s.f.1.1;have k3:=HK.2.1.step hs1;have k7:=HK.2.2.1.step hs1;have kb0:=HK.1.at hs1.s;have c3:=k3.cell 0 rfl;have l3:=k3.1.1;have c7:=k7.1.1.cell 0 rfl;have z7:=k7.1.2;have l7:=k7.1.1.1;have hid:=Lu w1 b7 0 (.int .i64 0) c7;clear hs1 hr1 k3 k7 hsc1;go_wp2_with fail;rw[rounds_succ];go_wp2_with fail;refine(HSu d1 w1 H1.1 H1.2).mono ?_;rintro e w2 ⟨E2,d2,rfl,hs2,hr2⟩;have HF:Hid (bG X d u S (.panicked (lQ E2)) w2):=⟨E2,d2,rfl,H1.1.trans hs2,hr2⟩;clear hs2 hr2 f10 lF kb0 c3 l3 c7 z7 l7 hid;go_wp2_with fail;simp[bodyPost];exact HF
def Kd(X:RX)(N:Nat)(L:Int)(v:VD)(d:MD)(w:World):Prop:=∃D dc g c,d.df=.slice (some ⟨D,0,none⟩) 1 dc/\1<=dc/\oU X d w D L g c/\Bl X d w g [v]/\N<=D/\N<=g
theorem Kd.Xl(X:RX)(N:Nat)(L:Int)(v:VD):yP X N (Kd X N L v):=by
 refine⟨fun d w d' w' h s e=>?_,fun d w w' B h g hB=>?_⟩
 ·obtain⟨D,dc,g,c,h1,h2,h3,h4,h5⟩:=h;exact⟨D,dc,g,c,e.trans h1,h2,h3.step s,h4.step s,h5⟩
 ·obtain⟨D,dc,gg,c,h1,h2,h3,h4,h5,h6⟩:=h;exact⟨D,dc,gg,c,h1,h2,⟨⟨Nat.lt_of_lt_of_le h3.1.1 g.size,fun o v e=>(World.cell?_of_block (a:=⟨D,o,none⟩) (g.block D h3.1.1 (by omega))).trans (h3.1.2 o v e)⟩,h3.2⟩,⟨⟨Nat.lt_of_lt_of_le h4.1.1 g.size,fun o v e=>(World.cell?_of_block (a:=⟨gg,o,none⟩) (g.block gg h4.1.1 (by omega))).trans (h4.1.2 o v e)⟩,h4.2⟩,h5,h6⟩
theorem DP.xG(p:DP){m:Nat}(h:p.held.length=m):p.dX m=p:=by subst h;simp[DP.dX]
theorem yl2(X:RX)(d:MD)(k1 k2 bb:Nat)(nd:Value)(k:Ek)(tr:ByteArray)(q:DP)(L:Int)(v:VD)(tx:VD->ByteArray)(u:World)(h:St X d u)(hE:qW X)(hk2:Od X k2 #[ptr bb])(kb:Od X bb #[ptr X.M,nd])(hsc:d.sc=[])(hdf:d.df=.slice none 0 0)(Xw:q.sc=[])(Xy:q.held=d.held)(hT:sK X tx [v])(hj:(dM tx [v]).size<=4000)(ht:q.ti<X.tk)(hl:q.recs.length<5000)(hh:d.held.length<=900)(hrun:∀b3 b7 w2,Sp X d u d w2->Bx X d w2 b3 #[ptr X.F]->fB X d w2 b7 #[.int .i64 0]->Calls Tryz.prog 190 #[ptr k1,ptr b3,ptr b7] w2 fun e w'=>bG X d w2 (iD X w2.heap.size k tr q (Kd X w2.heap.size L v)) e w'):Calls Tryz.prog 189 #[ptr X.F,ptr k1,ptr k2] u fun e w'=>bG X d u (dZ X u.heap.size k tr ((q.ln d.line).plus [⟨6,0,X.fn,L,dM tx [v]⟩] 1)) e w':=by
 have HS:Hid (St X d u):=h;have HE:Hid (qW X/\Od X k2 #[ptr bb]/\Od X bb #[ptr X.M,nd]):=⟨hE,hk2,kb⟩;have HQ:Hid (q.sc=[]/\q.held=d.held/\q.ti<X.tk/\q.recs.length<5000/\d.held.length<=900):=⟨Xw,Xy,ht,hl,hh⟩;have HD:Hid (d.sc=[]/\d.df=.slice none 0 0):=⟨hsc,hdf⟩;have HT:Hid (sK X tx [v]/\(dM tx [v]).size<=4000):=⟨hT,hj⟩;have jZ:Hid (∀b3 b7 w2,Sp X d u d w2->Bx X d w2 b3 #[ptr X.F]->fB X d w2 b7 #[.int .i64 0]->Calls Tryz.prog 190 #[ptr k1,ptr b3,ptr b7] w2 fun e w'=>bG X d w2 (iD X w2.heap.size k tr q (Kd X w2.heap.size L v)) e w'):=hrun;clear h hE hk2 kb Xw Xy hT hj ht hl hh hrun hsc hdf;have hmf:=Dc;go_in
 go_upto_region 1 with fail
 obtain⟨w1,hw1⟩:∃w1,u.alloc (.cells #[ptr X.F] 125)=w1:=⟨_,rfl⟩;obtain⟨b3,hb3⟩:∃b3,u.heap.size=b3:=⟨_,rfl⟩;have H1:Hid (Sp X d u d w1/\Bx X d w1 b3 #[ptr X.F]):=by
  rw[<-hw1,<-hb3];exact⟨(Sp.refl HS).alloc _,Bx.new HS _ _⟩
 rw[hw1,hb3];clear hw1 hb3
 go_cut [5,6] from 9 (fun s5 s6 w=>s5=.int .i64 0/\s6=.int .i64 0/\Hid (Sp X d w1 d w))
 case first=>
  have HK:Hid (∀w',Sp X d w1 d w'->w'.cell? ⟨b3,0,none⟩=some (ptr X.F)/\w'.cell? ⟨X.F,10,none⟩=some (.slice d.sa 0 d.sp)/\w'.cell? ⟨X.F,11,none⟩=some (.slice none 0 0)):=fun w' s=>⟨(H1.2.step s).cell 0 rfl,by
   have:=s.s.f.1.cell 10 rfl;rw[show(fA X d)[10]=.slice d.sa d.sc.length d.sp from rfl,HD.1] at this;exact this,by
   have:=s.s.f.1.cell 11 rfl;rw[show(fA X d)[11]=d.df from rfl,HD.2] at this;exact this⟩
  have S0:=HK.out _ (Sp.refl H1.1.s).drew
  go_region_held3 (fun w'=>w'.cell? ⟨b3,0,none⟩=some (ptr X.F)/\w'.cell? ⟨X.F,10,none⟩=some (.slice d.sa 0 d.sp)/\w'.cell? ⟨X.F,11,none⟩=some (.slice none 0 0)) (first|exact S0) (fail)
  all_goals
   go_wp2_with fail
   go_meet
   case rel=>exact⟨rfl,rfl,(Sp.refl H1.1.s).drew⟩
 obtain⟨rfl,rfl,fP⟩:=hcut
 rename World=>w2
 have H2:Hid (Sp X d u d w2/\Bx X d w2 b3 #[ptr X.F]):=⟨H1.1.trans fP.out,H1.2.step fP.out⟩;clear fP H1
 go_upto_region 3 with fail
 obtain⟨w3,hw3⟩:∃w3,w2.alloc (.cells #[.int .i64 0] 3)=w3:=⟨_,rfl⟩;obtain⟨b7,hb7⟩:∃b7,w2.heap.size=b7:=⟨_,rfl⟩;have H3:Hid (Sp X d u d w3/\Bx X d w3 b3 #[ptr X.F]/\fB X d w3 b7 #[.int .i64 0]):=by
  rw[<-hw3,<-hb7];exact⟨H2.1.alloc _,H2.2.alloc _,fB.new H2.1.s _ _⟩
 rw[hw3,hb7];clear hw3 hb7 H2;have ku:Hid (Calls Tryz.prog 53 #[ptr X.F,jA 190 #[ptr k1,ptr b3,ptr b7]] w3 fun e w'=>gG X d w3 (jw X (w3.heap.size+3) k tr (q.ln d.line) (Kd X (w3.heap.size+3) L v)) e w'):=by
  have hz:=PK X d 190 #[ptr k1,ptr b3,ptr b7] k tr q (Kd X (w3.heap.size+3) L v) w3 H3.1.s (fun _ _=>rfl) (Kd.Xl _ _ _ _) (by rw[HQ.2.1];exact Nat.le_refl _) (fun w4 s4 hs4=>?_)
  ·rw[DP.xG q (by rw[HQ.2.1])] at hz;exact hz
  ·have hr:=jZ.out b3 b7 w4 (H3.1.trans s4) (H3.2.1.step s4) (H3.2.2.step s4);rw[hs4] at hr;exact hr
 have c3:=H3.2.1.cell 0 rfl;have l3:=H3.2.1.1.1;go_wp2_with fail;refine ku.mono ?_;rintro e w5 ⟨way,d5,rfl,hs5,E,rfl,XM,D,dc,g,c,Iy,Iz,hD5,hg5,_,_⟩;have H5:Hid (Sp X d u d5 w5/\Bx X d5 w5 b3 #[ptr X.F]/\fB X d5 w5 b7 #[.int .i64 0]/\dZ X u.heap.size k tr (q.ln d.line) E d5 w5/\d5.df=.slice (some ⟨D,0,none⟩) 1 dc/\1<=dc/\oU X d5 w5 D L g c/\Bl X d5 w5 g [v]):=⟨H3.1.trans hs5,H3.2.1.step hs5,H3.2.2.step hs5,XM.mono (by have:=H3.1.g.size;omega),Iy,Iz,hD5,hg5⟩;clear hs5 XM Iy Iz hD5 hg5 H3 ku c3 l3 hmf
 go_upto_region 4 with fail
 go_cut [] from 9 (fun w=>Hid (Sp X d5 w5 d5 w))
 case first=>
  have wW:d5.sc=[]:=H5.2.2.2.1.sc.trans HQ.1;have HK:Hid (∀w',Sp X d5 w5 d5 w'->w'.cell? ⟨b3,0,none⟩=some (ptr X.F)/\w'.cell? ⟨X.F,10,none⟩=some (.slice d5.sa 0 d5.sp)/\w'.cell? ⟨b7,0,none⟩=some (.int .i64 0)):=fun w' s=>⟨(H5.2.1.step s).cell 0 rfl,by
   have:=s.s.f.1.cell 10 rfl;rw[show(fA X d5)[10]=.slice d5.sa d5.sc.length d5.sp from rfl,wW] at this;exact this,(H5.2.2.1.step s).1.1.cell 0 rfl⟩
  have KA:Hid (Sp X d5 w5 d5 w5.drew):=(Sp.refl H5.1.s).drew;have S0:=HK.out _ KA.out;have fz:=KA.s.f.2;have lF:=KA.s.f.1.1;have hif:=AY d5.sa (d5.sp=0) (H5.1.s.mG.2.elim (fun h=>.inl h.1) .inr);have hid:=Lu w5 X.F 10 (.slice d5.sa 0 d5.sp) (HK.out _ (Sp.refl H5.1.s)).2.1;clear wW
  go_region_held3 (fun w'=>w'.cell? ⟨b3,0,none⟩=some (ptr X.F)/\w'.cell? ⟨X.F,10,none⟩=some (.slice d5.sa 0 d5.sp)/\w'.cell? ⟨b7,0,none⟩=some (.int .i64 0)) (first|exact S0|(rw[hid];exact S0)) (fail)
  all_goals
   go_wp2_with fail
   go_meet
   case rel=>exact KA.out
 rename World=>w6
 have oP:Hid (Sp X d5 w5 d5 w6):=hcut;have H6:Hid (Sp X d u d5 w6/\Bx X d5 w6 b3 #[ptr X.F]/\fB X d5 w6 b7 #[.int .i64 0]/\dZ X u.heap.size k tr (q.ln d.line) E d5 w6/\d5.df=.slice (some ⟨D,0,none⟩) 1 dc/\1<=dc/\oU X d5 w6 D L g c/\Bl X d5 w6 g [v]):=⟨H5.1.trans oP.out,H5.2.1.step oP.out,H5.2.2.1.step oP.out,H5.2.2.2.1.step oP.out (fun t v e=>⟨v,e⟩),H5.2.2.2.2.1,H5.2.2.2.2.2.1,H5.2.2.2.2.2.2.1.step oP.out,H5.2.2.2.2.2.2.2.step oP.out⟩;clear oP hcut H5
 go_upto_region 5 with fail
 go_cut [8] from 9 (fun s8 w=>s8=dW E/\∃d7,Hid (Sp X d5 w6 d7 w/\d7.p=(d5.p.defs (.slice (some ⟨D,0,none⟩) 0 dc)).plus [⟨6,0,X.fn,L,dM tx [v]⟩] 1))
 case first=>
  have HK:Hid (∀d' w',Sp X d5 w6 d' w'->w'.cell? ⟨k2,0,none⟩=some (ptr bb)/\w'.cell? ⟨bb,0,none⟩=some (ptr X.M)/\w'.cell? ⟨b3,0,none⟩=some (ptr X.F)):=fun d' w' s=>⟨(HE.2.1.at s.s).cell 0 rfl,(HE.2.2.at s.s).cell 0 rfl,(H6.2.1.step s).cell 0 rfl⟩;have KA:Hid (Sp X d5 w6 d5 w6.drew):=(Sp.refl H6.1.s).drew;have S0:=HK.out d5 _ KA.out;have Fv:Hid (d5.ti<X.tk/\d5.recs.length<5000/\d5.held.length<=900):=by
   obtain⟨t0,v0,e0⟩:=H6.2.2.2.1.p;have h1:d5.ti=q.ti:=congrArg DP.ti e0;have h2:d5.recs=q.recs:=congrArg DP.recs e0;have h3:d5.held=q.held:=congrArg DP.held e0;refine⟨?_,?_,?_⟩
   ·rw[h1];exact HQ.2.2.1
   ·rw[h2];exact HQ.2.2.2.1
   ·rw[h3,HQ.2.1];exact HQ.2.2.2.2
  go_region_held3 (fun w'=>w'.cell? ⟨k2,0,none⟩=some (ptr bb)/\w'.cell? ⟨bb,0,none⟩=some (ptr X.M)/\w'.cell? ⟨b3,0,none⟩=some (ptr X.F)) (with_reducible first|exact S0|exact S1) (first|(go_at_call 191;refine(zd2 X d5 D dc g c E u.heap.size L v tx k tr _ _ KA.out.s HE.out.1 (H6.out.2.2.2.1.step KA.out (fun t v e=>⟨v,e⟩)) H6.out.2.2.2.2.1 H6.out.2.2.2.2.2.1 (H6.out.2.2.2.2.2.2.1.step KA.out) (H6.out.2.2.2.2.2.2.2.step KA.out) HT.out.1 HT.out.2 Fv.out.1 Fv.out.2.1 Fv.out.2.2).mono ?_;rintro e w7 ⟨rfl,d7,hs7,e7⟩;have HR:Hid (Sp X d5 w6 d7 w7/\d7.p=(d5.p.defs (.slice (some ⟨D,0,none⟩) 0 dc)).plus [⟨6,0,X.fn,L,dM tx [v]⟩] 1):=⟨KA.out.trans hs7,e7⟩;have S1:=HK.out d7 w7 HR.out.1;clear hs7 e7))
  all_goals
   go_wp2_with fail
   go_meet
   case rel=>exact⟨rfl,_,HR⟩
 obtain⟨rfl,d7,Am⟩:=hcut
 rename World=>w7
 have H7:Hid (Sp X d u d7 w7/\Bx X d7 w7 b3 #[ptr X.F]/\dZ X u.heap.size k tr ((q.ln d.line).plus [⟨6,0,X.fn,L,dM tx [v]⟩] 1) E d7 w7/\d7.sc=[]):=by
  have hT:=H6.2.2.2.1.step (q':=(q.ln d.line).plus [⟨6,0,X.fn,L,dM tx [v]⟩] 1) Am.1 (fun t v0 e=>⟨{v0 with df:=.slice (some ⟨D,0,none⟩) 0 dc},by rw[Am.2,e];rfl⟩);exact⟨H6.1.trans Am.1,H6.2.1.step Am.1,hT,hT.sc.trans HQ.1⟩
 clear Am H6
 go_upto_region 6 with fail
 go_cut [] from 9 (fun w=>Hid (Sp X d7 w7 d7 w))
 case first=>
  have Ij:d7.sc=[]:=H7.2.2.2;have HK:Hid (∀w',Sp X d7 w7 d7 w'->w'.cell? ⟨b3,0,none⟩=some (ptr X.F)/\w'.cell? ⟨X.F,10,none⟩=some (.slice d7.sa 0 d7.sp)):=fun w' s=>⟨(H7.2.1.step s).cell 0 rfl,by
   have:=s.s.f.1.cell 10 rfl;rw[show(fA X d7)[10]=.slice d7.sa d7.sc.length d7.sp from rfl,Ij] at this;exact this⟩
  have KA:Hid (Sp X d7 w7 d7 w7.drew):=(Sp.refl H7.1.s).drew;have S0:=HK.out _ KA.out;have fz:=KA.s.f.2;have lF:=KA.s.f.1.1;have hif:=AY d7.sa (d7.sp=0) (H7.1.s.mG.2.elim (fun h=>.inl h.1) .inr);have hid:=Lu w7 X.F 10 (.slice d7.sa 0 d7.sp) (HK.out _ (Sp.refl H7.1.s)).2;clear Ij
  go_region_held3 (fun w'=>w'.cell? ⟨b3,0,none⟩=some (ptr X.F)/\w'.cell? ⟨X.F,10,none⟩=some (.slice d7.sa 0 d7.sp)) (first|exact S0|(rw[hid];exact S0)) (fail)
  all_goals
   go_wp2_with fail
   go_meet
   case rel=>exact KA.out
 rename World=>w8
 have Ce:Hid (Sp X d7 w7 d7 w8):=hcut;have HF:Hid (bG X d u (dZ X u.heap.size k tr ((q.ln d.line).plus [⟨6,0,X.fn,L,dM tx [v]⟩] 1)) (.panicked (lQ E)) w8):=⟨E,d7,rfl,H7.1.trans Ce.out,H7.2.2.1.step Ce.out (fun t v e=>⟨v,e⟩)⟩;clear Ce hcut H7;go_wp2_with fail;refine(WV E _).mono ?_;rintro e w9 ⟨rfl,rfl⟩;go_wp2_with fail;simp[bodyPost];exact HF
end
end Go.Proofs.YtihnikeikhjndaaGreatDoor
