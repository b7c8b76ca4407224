import Derived.Test.YtaimofjekgnieaaGreatDoorGnE
import Derived.Test.YtaimofjekgnieaaGreatDoorEtA
import Derived.LaidEql
import Derived.RowKitTokens
import Derived.Stop.Asserts
set_option maxRecDepth 100000
set_option maxHeartbeats 16000000
namespace Go.Proofs.YtaimofjekgnieaaGreatDoor
open Go.RowKit Go.Extern.Stop Go.Stop Go.Extern
attribute [local go_sem ↓] Go.wp_at_zero Go.wp_at_succ
theorem asV2 (t:Addr) (w:World):(ReflectliteValue.unpack (.iface 132 (.pointer (some t)))).run Tryz.prog w
  = .ok (.agg #[hT 132,.pointer (some ⟨w.heap.size,0,none⟩),.int .u64 150]) (w.alloc (.cells #[.pointer (some t)] 132)):=by kernel_rfl
theorem asT2 (a:Addr) (w:World):(ReflectliteValue.methodAny (ReflectliteValue.valueError "reflectlite.Value.Type" 0) (fun t _ _ _=>ReflectliteType.toType t) #[.agg #[hT 132,.pointer (some a),.int .u64 150]]).run Tryz.prog w
  = .ok (.iface 222 (.agg #[hT 132])) w:=by kernel_rfl
theorem asMK (h:Value) (w:World):(Go.method 609 222 (.agg #[h]) "Kind").run Tryz.prog w=.ok (454,h) w:=by kernel_rfl
theorem asK2 (w:World):((ReflectliteType.abiMethod fun t=>(fun a:Nat=>Value.int IntKind.u8 (a:Int)) <$> Rtype.kind t) #[hT 132]).run Tryz.prog w=.ok (.int .u8 22) w:=by kernel_rfl
theorem asK1 (w:World):((ReflectliteType.abiMethod fun t=>(fun a:Nat=>Value.int IntKind.u8 (a:Int)) <$> Rtype.kind t) #[hT 118]).run Tryz.prog w=.ok (.int .u8 22) w:=by kernel_rfl
theorem asP2 (a:Addr) (w:World):(ReflectliteValue.parts (.agg #[hT 132,.pointer (some a),.int .u64 150])).run Tryz.prog w=.ok (some (132,a,150)) w:=by kernel_rfl
theorem rlmE (z:Sem Value) (f:TypeId->Addr->Nat->Nat->Sem Value) (v:Value):∃ g:Option (TypeId×Addr×Nat)->Sem Value,ReflectliteValue.method z f #[v]=(ReflectliteValue.parts v >>= g)/\∀ t a fl,g (some (t,a,fl))=f t a fl (fl%32):=⟨_,rfl,fun _ _ _=>rfl⟩
theorem rlsE (v x:Value):∃ g:Option (TypeId×Addr×Nat)->Option (TypeId×Addr×Nat)->Sem Value,ReflectliteValue.set #[v,x]=(ReflectliteValue.parts v >>= fun p=>ReflectliteValue.parts x >>= fun q=>g p q)/\∀ (dst src:TypeId) (a b:Addr) (fl:Nat),∃ H:Value->Bool->Sem Value,g (some (dst,a,406)) (some (src,b,fl))=(loadVar src b >>= fun val=>Rtype.directlyAssignable dst src >>= fun c=>H val c)/\∀ val,H val true=(storeVar dst a val >>= fun _=>pure (.tuple #[])):=⟨_,rfl,fun _ _ _ _ _=>⟨_,rfl,fun _=>rfl⟩⟩
theorem yb4 (a p:Addr) (W:World) (ha:W.cell? a=some (.pointer (some p))) :
  (ReflectliteValue.method (ReflectliteValue.valueError "reflectlite.Value.IsNil" 0) ReflectliteValue.isNil #[.agg #[hT 132,.pointer (some a),.int .u64 150]]).run Tryz.prog W=.ok (.bool false) W:=by
 obtain ⟨g,h1,h2⟩:=rlmE (ReflectliteValue.valueError "reflectlite.Value.IsNil" 0) ReflectliteValue.isNil (.agg #[hT 132,.pointer (some a),.int .u64 150])
 rw[h1]
 simp only[Sem.run_bind,asP2,Result.andThen,h2]
 simp[ReflectliteValue.isNil,loadVar,isAgg,underlying,Tryz.underlying132,ha,Result.andThen]
theorem asME (h:Value) (w:World):(Go.method 609 222 (.agg #[h]) "Elem").run Tryz.prog w=.ok (468,.agg #[h]) w:=by kernel_rfl
theorem asMI (h:Value) (w:World):(Go.method 609 222 (.agg #[h]) "Implements").run Tryz.prog w=.ok (469,.agg #[h]) w:=by kernel_rfl
theorem asMA (h:Value) (w:World):(Go.method 609 222 (.agg #[h]) "AssignableTo").run Tryz.prog w=.ok (466,.agg #[h]) w:=by kernel_rfl
theorem asE2 (w:World):(ReflectliteType.method ReflectliteType.elem #[.agg #[hT 132]]).run Tryz.prog w=.ok (.iface 222 (.agg #[hT 118])) w:=by kernel_rfl
theorem asI1 (w:World):(ReflectliteType.relation "Implements" ReflectliteType.implements_ #[.agg #[hT 118],.iface 222 (.agg #[hT 128])]).run Tryz.prog w=.ok (.bool true) w:=by kernel_rfl
theorem asO1 (v:Value) (w:World):(ReflectliteType.typeOf #[.iface 118 v]).run Tryz.prog w=.ok (.iface 222 (.agg #[hT 118])) w:=by kernel_rfl
theorem asA1 (w:World):(ReflectliteType.relation "AssignableTo" ReflectliteType.assignableTo #[.agg #[hT 118],.iface 222 (.agg #[hT 118])]).run Tryz.prog w=.ok (.bool true) w:=by kernel_rfl
theorem asV1 (e:Addr) (w:World):(ReflectliteValue.unpack (.iface 118 (.pointer (some e)))).run Tryz.prog w
  = .ok (.agg #[hT 118,.pointer (some ⟨w.heap.size,0,none⟩),.int .u64 150]) (w.alloc (.cells #[.pointer (some e)] 118)):=by kernel_rfl
theorem ys7 (w:World):(Rtype.elem? 132).run Tryz.prog w=.ok (some 118) w:=by kernel_rfl
theorem asM1 (p:Addr) (w:World):(ReflectliteValue.mk 118 p ReflectliteValue.flagAddr).run Tryz.prog w=.ok (.agg #[hT 118,.pointer (some p),.int .u64 406]) w:=by kernel_rfl
theorem ys6 (a p:Addr) (W:World) (ha:W.cell? a=some (.pointer (some p))) :
  (ReflectliteValue.method (ReflectliteValue.valueError "reflectlite.Value.Elem" 0) ReflectliteValue.elem #[.agg #[hT 132,.pointer (some a),.int .u64 150]]).run Tryz.prog W
   = .ok (.agg #[hT 118,.pointer (some p),.int .u64 406]) W:=by
 obtain ⟨g,h1,h2⟩:=rlmE (ReflectliteValue.valueError "reflectlite.Value.Elem" 0) ReflectliteValue.elem (.agg #[hT 132,.pointer (some a),.int .u64 150])
 rw[h1]
 simp only[Sem.run_bind,asP2,Result.andThen,h2]
 simp[ReflectliteValue.elem,loadVar,isAgg,underlying,Tryz.underlying132,ha,Result.andThen,ys7,asM1]
theorem yr7 (a:Addr) (w:World):(ReflectliteValue.parts (.agg #[hT 118,.pointer (some a),.int .u64 406])).run Tryz.prog w=.ok (some (118,a,406)) w:=by kernel_rfl
theorem asP1 (a:Addr) (w:World):(ReflectliteValue.parts (.agg #[hT 118,.pointer (some a),.int .u64 150])).run Tryz.prog w=.ok (some (118,a,150)) w:=by kernel_rfl
theorem asD1 (w:World):(Rtype.directlyAssignable 118 118).run Tryz.prog w=.ok true w:=by kernel_rfl
theorem asS1 (ta b e:Addr) (old:Value) (W:World) (hb:W.cell? b=some (.pointer (some e))) (ht:W.cell? ta=some old) (hf:W.frozen? ta=false) :
  (ReflectliteValue.set #[.agg #[hT 118,.pointer (some ta),.int .u64 406],.agg #[hT 118,.pointer (some b),.int .u64 150]]).run Tryz.prog W
   = .ok (.tuple #[]) (W.setCell ta (.pointer (some e))):=by
 obtain ⟨g,h1,h2⟩:=rlsE (.agg #[hT 118,.pointer (some ta),.int .u64 406]) (.agg #[hT 118,.pointer (some b),.int .u64 150])
 obtain ⟨H,h3,h4⟩:=h2 118 118 ta b 150
 rw[h1]
 simp only[Sem.run_bind,yr7,asP1,Result.andThen,h3]
 simp[loadVar,isAgg,underlying,Tryz.underlying118,hb,Result.andThen,asD1,h4,storeVar,Value.cells,storeCells,Addr.add]
 rw[run_store Tryz.prog W ta _ _ (by rfl)]
 simp[ht,hf]
theorem qs4 (e t:Addr) (old:Value) (w:World) (hg:EtP w) (ht0:w.cell? t=some old) (hf0:w.frozen? t=false) :
  Calls Tryz.prog 55 #[.iface 118 (.pointer (some e)),.iface 132 (.pointer (some t))] w fun ev w'=>ev=.returned (.bool true)/\∃ w4,Below w.heap.size w w4/\w'=w4.setCell t (.pointer (some e)):=by
 have x1:=@run_callFunc_extern Tryz.prog 85 _ (fun args=>ReflectliteValue.unpack (args.getD 0 (.tuple #[]))) Tryz.func85 (by kernel_rfl) (by kernel_rfl) (by kernel_rfl) (by kernel_rfl)
 have x2:=@run_callFunc_extern Tryz.prog 86 _ (ReflectliteValue.methodAny (ReflectliteValue.valueError "reflectlite.Value.Type" 0) (fun t _ _ _=>ReflectliteType.toType t)) Tryz.func86 (by kernel_rfl) (by kernel_rfl) (by kernel_rfl) (by kernel_rfl)
 have x3:=@run_callFunc_extern Tryz.prog 87 _ (ReflectliteValue.method (ReflectliteValue.valueError "reflectlite.Value.IsNil" 0) ReflectliteValue.isNil) Tryz.func87 (by kernel_rfl) (by kernel_rfl) (by kernel_rfl) (by kernel_rfl)
 have x4:=@run_callFunc_extern Tryz.prog 454 _ (ReflectliteType.abiMethod fun t=>do pure (.int .u8 (<-Rtype.kind t))) Tryz.func454 (by kernel_rfl) (by kernel_rfl) (by kernel_rfl) (by kernel_rfl)
 have x5:=@run_callFunc_extern Tryz.prog 468 _ (ReflectliteType.method ReflectliteType.elem) Tryz.func468 (by kernel_rfl) (by kernel_rfl) (by kernel_rfl) (by kernel_rfl)
 have x6:=@run_callFunc_extern Tryz.prog 469 _ (ReflectliteType.relation "Implements" ReflectliteType.implements_) Tryz.func469 (by kernel_rfl) (by kernel_rfl) (by kernel_rfl) (by kernel_rfl)
 have x7:=@run_callFunc_extern Tryz.prog 145 _ ReflectliteType.typeOf Tryz.func145 (by kernel_rfl) (by kernel_rfl) (by kernel_rfl) (by kernel_rfl)
 have x8:=@run_callFunc_extern Tryz.prog 466 _ (ReflectliteType.relation "AssignableTo" ReflectliteType.assignableTo) Tryz.func466 (by kernel_rfl) (by kernel_rfl) (by kernel_rfl) (by kernel_rfl)
 have x9:=@run_callFunc_extern Tryz.prog 146 _ (ReflectliteValue.method (ReflectliteValue.valueError "reflectlite.Value.Elem" 0) ReflectliteValue.elem) Tryz.func146 (by kernel_rfl) (by kernel_rfl) (by kernel_rfl) (by kernel_rfl)
 have x10:=@run_callFunc_extern Tryz.prog 147 _ ReflectliteValue.set Tryz.func147 (by kernel_rfl) (by kernel_rfl) (by kernel_rfl) (by kernel_rfl)
 have y1:=asO1
 have y2:=asMA
 have y3:=asA1
 have y4:=asV1
 have y5:=asV2
 have y6:=asT2
 have y7:=asMK
 have y8:=asME
 have y9:=asMI
 have y10:=asK2
 have y11:=asK1
 have y12:=asE2
 have y13:=asI1
 have htl:t.block<w.heap.size:=World.block_lt_of_cell? w t ht0
 have hgl:0<w.heap.size:=World.block_lt_of_cell? w ⟨0,0,none⟩ hg
 obtain ⟨w1,hw1⟩:∃ w1,w.alloc (.cells #[.pointer (some t)] 132)=w1:=⟨_,rfl⟩
 obtain ⟨w2,hw2⟩:∃ w2,w1.alloc (.cells #[hT 132,.pointer (some ⟨w.heap.size,0,none⟩),.int .u64 150] 173)=w2:=⟨_,rfl⟩
 have b1:Below w.heap.size w w1:=by rw[<-hw1];exact q01 _ _
 have b2:Below w.heap.size w w2:=by rw[<-hw2];exact b1.alloc b1.size _
 have n1:=yb4 ⟨w.heap.size,0,none⟩ t w2 (by rw[<-hw2,<-hw1];exact ((Has.new w _ _).alloc _).cell 0 rfl)
 have g2:w2.cell? ⟨0,0,none⟩=some (.iface 222 (.agg #[hT 128])):=(b2.cell (p:=⟨0,0,none⟩) hgl).trans hg
 obtain ⟨w3,hw3⟩:∃ w3,w2.alloc (.cells #[hT 132,.pointer (some ⟨w.heap.size,0,none⟩),.int .u64 150] 173)=w3:=⟨_,rfl⟩
 obtain ⟨w4,hw4⟩:∃ w4,w3.alloc (.cells #[.pointer (some e)] 118)=w4:=⟨_,rfl⟩
 have b3:Below w.heap.size w w3:=by rw[<-hw3];exact b2.alloc b2.size _
 have b4:Below w.heap.size w w4:=by rw[<-hw4];exact b3.alloc b3.size _
 have e2:Has w2 w1.heap.size #[hT 132,.pointer (some ⟨w.heap.size,0,none⟩),.int .u64 150]:=by rw[<-hw2];exact Has.new w1 _ _
 have e3:Has w3 w2.heap.size #[hT 132,.pointer (some ⟨w.heap.size,0,none⟩),.int .u64 150]:=by rw[<-hw3];exact Has.new w2 _ _
 have q0:w2.cell? ⟨w1.heap.size,0,none⟩=some (hT 132):=e2.cell 0 rfl
 have q1:w2.cell? ⟨w1.heap.size,1,none⟩=some (.pointer (some ⟨w.heap.size,0,none⟩)):=e2.cell 1 rfl
 have q2:w2.cell? ⟨w1.heap.size,2,none⟩=some (.int .u64 150):=e2.cell 2 rfl
 have r0:w3.cell? ⟨w2.heap.size,0,none⟩=some (hT 132):=e3.cell 0 rfl
 have r1:w3.cell? ⟨w2.heap.size,1,none⟩=some (.pointer (some ⟨w.heap.size,0,none⟩)):=e3.cell 1 rfl
 have r2:w3.cell? ⟨w2.heap.size,2,none⟩=some (.int .u64 150):=e3.cell 2 rfl
 have el:=ys6 ⟨w.heap.size,0,none⟩ t w3 (by rw[<-hw3,<-hw2,<-hw1];exact (((Has.new w _ _).alloc _).alloc _).cell 0 rfl)
 have st:=asS1 t ⟨w3.heap.size,0,none⟩ e old w4 (by rw[<-hw4];exact (Has.new w3 _ _).cell 0 rfl) ((b4.cell (p:=t) htl).trans ht0) ((b4.frozen (p:=t) htl).trans hf0)
 have HB4:Hid (Below w.heap.size w w4):=b4
 clear b1 b2 b3 b4 e2 e3 ht0 hf0 htl hgl hg
 go_enter Tryz.func55,Tryz.ntmps55
 go_wp2
 refine wp_loop_rounds 1 ?_
 rw[rounds_succ]
 go_wp2
 go_ret
 exact ⟨rfl,w4,HB4.out,rfl⟩
theorem yr0 (t:Addr) (w:World):(ReflectliteValue.unpack (.iface 186 (.pointer (some t)))).run Tryz.prog w
  = .ok (.agg #[hT 186,.pointer (some ⟨w.heap.size,0,none⟩),.int .u64 150]) (w.alloc (.cells #[.pointer (some t)] 186)):=by kernel_rfl
theorem yr3 (a:Addr) (w:World):(ReflectliteValue.methodAny (ReflectliteValue.valueError "reflectlite.Value.Type" 0) (fun t _ _ _=>ReflectliteType.toType t) #[.agg #[hT 186,.pointer (some a),.int .u64 150]]).run Tryz.prog w
  = .ok (.iface 222 (.agg #[hT 186])) w:=by kernel_rfl
theorem ys0 (w:World):((ReflectliteType.abiMethod fun t=>(fun a:Nat=>Value.int IntKind.u8 (a:Int)) <$> Rtype.kind t) #[hT 186]).run Tryz.prog w=.ok (.int .u8 22) w:=by kernel_rfl
theorem ys2 (w:World):((ReflectliteType.abiMethod fun t=>(fun a:Nat=>Value.int IntKind.u8 (a:Int)) <$> Rtype.kind t) #[hT 184]).run Tryz.prog w=.ok (.int .u8 22) w:=by kernel_rfl
theorem yn8 (a:Addr) (w:World):(ReflectliteValue.parts (.agg #[hT 186,.pointer (some a),.int .u64 150])).run Tryz.prog w=.ok (some (186,a,150)) w:=by kernel_rfl
theorem yh7 (a p:Addr) (W:World) (ha:W.cell? a=some (.pointer (some p))) :
  (ReflectliteValue.method (ReflectliteValue.valueError "reflectlite.Value.IsNil" 0) ReflectliteValue.isNil #[.agg #[hT 186,.pointer (some a),.int .u64 150]]).run Tryz.prog W=.ok (.bool false) W:=by
 obtain ⟨g,h1,h2⟩:=rlmE (ReflectliteValue.valueError "reflectlite.Value.IsNil" 0) ReflectliteValue.isNil (.agg #[hT 186,.pointer (some a),.int .u64 150])
 rw[h1]
 simp only[Sem.run_bind,yn8,Result.andThen,h2]
 simp[ReflectliteValue.isNil,loadVar,isAgg,underlying,Tryz.underlying186,ha,Result.andThen]
theorem ys8 (w:World):(ReflectliteType.method ReflectliteType.elem #[.agg #[hT 186]]).run Tryz.prog w=.ok (.iface 222 (.agg #[hT 184])) w:=by kernel_rfl
theorem ys4 (w:World):(ReflectliteType.relation "Implements" ReflectliteType.implements_ #[.agg #[hT 184],.iface 222 (.agg #[hT 128])]).run Tryz.prog w=.ok (.bool true) w:=by kernel_rfl
theorem yh6 (v:Value) (w:World):(ReflectliteType.typeOf #[.iface 184 v]).run Tryz.prog w=.ok (.iface 222 (.agg #[hT 184])) w:=by kernel_rfl
theorem yt1 (w:World):(ReflectliteType.relation "AssignableTo" ReflectliteType.assignableTo #[.agg #[hT 184],.iface 222 (.agg #[hT 184])]).run Tryz.prog w=.ok (.bool true) w:=by kernel_rfl
theorem yr2 (e:Addr) (w:World):(ReflectliteValue.unpack (.iface 184 (.pointer (some e)))).run Tryz.prog w
  = .ok (.agg #[hT 184,.pointer (some ⟨w.heap.size,0,none⟩),.int .u64 150]) (w.alloc (.cells #[.pointer (some e)] 184)):=by kernel_rfl
theorem yo1 (w:World):(Rtype.elem? 186).run Tryz.prog w=.ok (some 184) w:=by kernel_rfl
theorem yr9 (p:Addr) (w:World):(ReflectliteValue.mk 184 p ReflectliteValue.flagAddr).run Tryz.prog w=.ok (.agg #[hT 184,.pointer (some p),.int .u64 406]) w:=by kernel_rfl
theorem yo0 (a p:Addr) (W:World) (ha:W.cell? a=some (.pointer (some p))) :
  (ReflectliteValue.method (ReflectliteValue.valueError "reflectlite.Value.Elem" 0) ReflectliteValue.elem #[.agg #[hT 186,.pointer (some a),.int .u64 150]]).run Tryz.prog W
   = .ok (.agg #[hT 184,.pointer (some p),.int .u64 406]) W:=by
 obtain ⟨g,h1,h2⟩:=rlmE (ReflectliteValue.valueError "reflectlite.Value.Elem" 0) ReflectliteValue.elem (.agg #[hT 186,.pointer (some a),.int .u64 150])
 rw[h1]
 simp only[Sem.run_bind,yn8,Result.andThen,h2]
 simp[ReflectliteValue.elem,loadVar,isAgg,underlying,Tryz.underlying186,ha,Result.andThen,yo1,yr9]
theorem yn9 (a:Addr) (w:World):(ReflectliteValue.parts (.agg #[hT 184,.pointer (some a),.int .u64 406])).run Tryz.prog w=.ok (some (184,a,406)) w:=by kernel_rfl
theorem yr8 (a:Addr) (w:World):(ReflectliteValue.parts (.agg #[hT 184,.pointer (some a),.int .u64 150])).run Tryz.prog w=.ok (some (184,a,150)) w:=by kernel_rfl
theorem yt0 (w:World):(Rtype.directlyAssignable 184 184).run Tryz.prog w=.ok true w:=by kernel_rfl
theorem yr5 (ta b e:Addr) (old:Value) (W:World) (hb:W.cell? b=some (.pointer (some e))) (ht:W.cell? ta=some old) (hf:W.frozen? ta=false) :
  (ReflectliteValue.set #[.agg #[hT 184,.pointer (some ta),.int .u64 406],.agg #[hT 184,.pointer (some b),.int .u64 150]]).run Tryz.prog W
   = .ok (.tuple #[]) (W.setCell ta (.pointer (some e))):=by
 obtain ⟨g,h1,h2⟩:=rlsE (.agg #[hT 184,.pointer (some ta),.int .u64 406]) (.agg #[hT 184,.pointer (some b),.int .u64 150])
 obtain ⟨H,h3,h4⟩:=h2 184 184 ta b 150
 rw[h1]
 simp only[Sem.run_bind,yn9,yr8,Result.andThen,h3]
 simp[loadVar,isAgg,underlying,Tryz.underlying184,hb,Result.andThen,yt0,h4,storeVar,Value.cells,storeCells,Addr.add]
 rw[run_store Tryz.prog W ta _ _ (by rfl)]
 simp[ht,hf]
theorem zc8 (e t:Addr) (old:Value) (w:World) (hg:EtP w) (ht0:w.cell? t=some old) (hf0:w.frozen? t=false) :
  Calls Tryz.prog 55 #[.iface 184 (.pointer (some e)),.iface 186 (.pointer (some t))] w fun ev w'=>ev=.returned (.bool true)/\∃ w4,Below w.heap.size w w4/\w'=w4.setCell t (.pointer (some e)):=by
 have x1:=@run_callFunc_extern Tryz.prog 85 _ (fun args=>ReflectliteValue.unpack (args.getD 0 (.tuple #[]))) Tryz.func85 (by kernel_rfl) (by kernel_rfl) (by kernel_rfl) (by kernel_rfl)
 have x2:=@run_callFunc_extern Tryz.prog 86 _ (ReflectliteValue.methodAny (ReflectliteValue.valueError "reflectlite.Value.Type" 0) (fun t _ _ _=>ReflectliteType.toType t)) Tryz.func86 (by kernel_rfl) (by kernel_rfl) (by kernel_rfl) (by kernel_rfl)
 have x3:=@run_callFunc_extern Tryz.prog 87 _ (ReflectliteValue.method (ReflectliteValue.valueError "reflectlite.Value.IsNil" 0) ReflectliteValue.isNil) Tryz.func87 (by kernel_rfl) (by kernel_rfl) (by kernel_rfl) (by kernel_rfl)
 have x4:=@run_callFunc_extern Tryz.prog 454 _ (ReflectliteType.abiMethod fun t=>do pure (.int .u8 (<-Rtype.kind t))) Tryz.func454 (by kernel_rfl) (by kernel_rfl) (by kernel_rfl) (by kernel_rfl)
 have x5:=@run_callFunc_extern Tryz.prog 468 _ (ReflectliteType.method ReflectliteType.elem) Tryz.func468 (by kernel_rfl) (by kernel_rfl) (by kernel_rfl) (by kernel_rfl)
 have x6:=@run_callFunc_extern Tryz.prog 469 _ (ReflectliteType.relation "Implements" ReflectliteType.implements_) Tryz.func469 (by kernel_rfl) (by kernel_rfl) (by kernel_rfl) (by kernel_rfl)
 have x7:=@run_callFunc_extern Tryz.prog 145 _ ReflectliteType.typeOf Tryz.func145 (by kernel_rfl) (by kernel_rfl) (by kernel_rfl) (by kernel_rfl)
 have x8:=@run_callFunc_extern Tryz.prog 466 _ (ReflectliteType.relation "AssignableTo" ReflectliteType.assignableTo) Tryz.func466 (by kernel_rfl) (by kernel_rfl) (by kernel_rfl) (by kernel_rfl)
 have x9:=@run_callFunc_extern Tryz.prog 146 _ (ReflectliteValue.method (ReflectliteValue.valueError "reflectlite.Value.Elem" 0) ReflectliteValue.elem) Tryz.func146 (by kernel_rfl) (by kernel_rfl) (by kernel_rfl) (by kernel_rfl)
 have x10:=@run_callFunc_extern Tryz.prog 147 _ ReflectliteValue.set Tryz.func147 (by kernel_rfl) (by kernel_rfl) (by kernel_rfl) (by kernel_rfl)
 have y1:=yh6
 have y2:=asMA
 have y3:=yt1
 have y4:=yr2
 have y5:=yr0
 have y6:=yr3
 have y7:=asMK
 have y8:=asME
 have y9:=asMI
 have y10:=ys0
 have y11:=ys2
 have y12:=ys8
 have y13:=ys4
 have htl:t.block<w.heap.size:=World.block_lt_of_cell? w t ht0
 have hgl:0<w.heap.size:=World.block_lt_of_cell? w ⟨0,0,none⟩ hg
 obtain ⟨w1,hw1⟩:∃ w1,w.alloc (.cells #[.pointer (some t)] 186)=w1:=⟨_,rfl⟩
 obtain ⟨w2,hw2⟩:∃ w2,w1.alloc (.cells #[hT 186,.pointer (some ⟨w.heap.size,0,none⟩),.int .u64 150] 173)=w2:=⟨_,rfl⟩
 have b1:Below w.heap.size w w1:=by rw[<-hw1];exact q01 _ _
 have b2:Below w.heap.size w w2:=by rw[<-hw2];exact b1.alloc b1.size _
 have n1:=yh7 ⟨w.heap.size,0,none⟩ t w2 (by rw[<-hw2,<-hw1];exact ((Has.new w _ _).alloc _).cell 0 rfl)
 have g2:w2.cell? ⟨0,0,none⟩=some (.iface 222 (.agg #[hT 128])):=(b2.cell (p:=⟨0,0,none⟩) hgl).trans hg
 obtain ⟨w3,hw3⟩:∃ w3,w2.alloc (.cells #[hT 186,.pointer (some ⟨w.heap.size,0,none⟩),.int .u64 150] 173)=w3:=⟨_,rfl⟩
 obtain ⟨w4,hw4⟩:∃ w4,w3.alloc (.cells #[.pointer (some e)] 184)=w4:=⟨_,rfl⟩
 have b3:Below w.heap.size w w3:=by rw[<-hw3];exact b2.alloc b2.size _
 have b4:Below w.heap.size w w4:=by rw[<-hw4];exact b3.alloc b3.size _
 have e2:Has w2 w1.heap.size #[hT 186,.pointer (some ⟨w.heap.size,0,none⟩),.int .u64 150]:=by rw[<-hw2];exact Has.new w1 _ _
 have e3:Has w3 w2.heap.size #[hT 186,.pointer (some ⟨w.heap.size,0,none⟩),.int .u64 150]:=by rw[<-hw3];exact Has.new w2 _ _
 have q0:w2.cell? ⟨w1.heap.size,0,none⟩=some (hT 186):=e2.cell 0 rfl
 have q1:w2.cell? ⟨w1.heap.size,1,none⟩=some (.pointer (some ⟨w.heap.size,0,none⟩)):=e2.cell 1 rfl
 have q2:w2.cell? ⟨w1.heap.size,2,none⟩=some (.int .u64 150):=e2.cell 2 rfl
 have r0:w3.cell? ⟨w2.heap.size,0,none⟩=some (hT 186):=e3.cell 0 rfl
 have r1:w3.cell? ⟨w2.heap.size,1,none⟩=some (.pointer (some ⟨w.heap.size,0,none⟩)):=e3.cell 1 rfl
 have r2:w3.cell? ⟨w2.heap.size,2,none⟩=some (.int .u64 150):=e3.cell 2 rfl
 have el:=yo0 ⟨w.heap.size,0,none⟩ t w3 (by rw[<-hw3,<-hw2,<-hw1];exact (((Has.new w _ _).alloc _).alloc _).cell 0 rfl)
 have st:=yr5 t ⟨w3.heap.size,0,none⟩ e old w4 (by rw[<-hw4];exact (Has.new w3 _ _).cell 0 rfl) ((b4.cell (p:=t) htl).trans ht0) ((b4.frozen (p:=t) htl).trans hf0)
 have HB4:Hid (Below w.heap.size w w4):=b4
 clear b1 b2 b3 b4 e2 e3 ht0 hf0 htl hgl hg
 go_enter Tryz.func55,Tryz.ntmps55
 go_wp2
 refine wp_loop_rounds 1 ?_
 rw[rounds_succ]
 go_wp2
 go_ret
 exact ⟨rfl,w4,HB4.out,rfl⟩
end Go.Proofs.YtaimofjekgnieaaGreatDoor
namespace Go.Proofs.YtaimofjekgnieaaGreatDoor
open Go.RowKit
attribute [local go_sem] q00
attribute [local go_sem ↓] Go.wp_at_zero Go.wp_at_succ
theorem qz4 (v:Value) (w:World):(Instr.typeAssert (.iface 184 v) 128 118 true).run Tryz.prog w=.ok (.tuple #[.pointer none,.bool false]) w:=by kernel_rfl
theorem ze6 (v:Value) (w:World):(Instr.typeAssert (.iface 184 v) 128 241 true).run Tryz.prog w=.ok (.tuple #[.pointer none,.bool false]) w:=by kernel_rfl
theorem zd1 (K:Nat) (u:World):Calls Tryz.prog 91 #[.iface 184 (ptr K)] u fun e w'=>e=.returned (.iface 184 (ptr K))/\w'=u:=by
 have h1:=qz4
 have h2:=ze6
 go_enter Tryz.func91,Tryz.ntmps91
 go_wp2_with fail
 go_ret
 exact ⟨rfl,rfl⟩
theorem qo8 (K n c:Nat) (a:Option Addr) (u:World) (hg:EtP u) (hK:Has u K #[.slice a n c]):Calls Tryz.prog 57 #[.iface 184 (ptr K)] u fun e w'=>e=.returned (.slice a n c)/\Below u.heap.size u w':=by
 have HG:Hid (EtP (u.alloc (.cells #[.pointer none] 184))):=hg.keep (q01 _ _) (Nat.le_refl _)
 have HO:Hid (OwnB (u.alloc (.cells #[.pointer none] 184)) u.heap.size #[.pointer none]):=OwnB.new u _ _
 have HK:Hid (Has u K #[.slice a n c]):=hK
 clear hg hK
 go_enter Tryz.func57,Tryz.ntmps57
 go_wp2_with fail
 refine (zd1 K _).mono ?_
 rintro e w1 ⟨rfl,rfl⟩
 go_wp2_with fail
 refine (zc8 ⟨K,0,none⟩ ⟨u.heap.size,0,none⟩ (.pointer none) _ HG.out (HO.out.1.cell 0 rfl) (HO.out.2 0)).mono ?_
 rintro e w1 ⟨rfl,w4,hb,rfl⟩
 have HB:Hid (Below u.heap.size u (w4.setCell ⟨u.heap.size,0,none⟩ (.pointer (some ⟨K,0,none⟩)))):=(q02 (q01 _ _) hb).setCell (Nat.le_refl _) _
 have hK4:=HK.out.call HB.out
 have k0:=hK4.cell 0 rfl
 have lK:=hK4.1
 have hO4:OwnB w4 u.heap.size #[.pointer none]:=HO.out.block hb.size (hb.block _ HO.out.1.1)
 have r0:(w4.setCell ⟨u.heap.size,0,none⟩ (.pointer (some ⟨K,0,none⟩))).cell? ⟨u.heap.size,0,none⟩=some (ptr K):=(hO4.set (o:=0) (by show 0<1;omega) (ptr K)).1.cell 0 rfl
 obtain ⟨w5,hw5⟩:∃ w5,w4.setCell ⟨u.heap.size,0,none⟩ (.pointer (some ⟨K,0,none⟩))=w5:=⟨_,rfl⟩
 rw[hw5] at HB k0 r0 lK
 rw[hw5]
 clear hw5 hb hK4 hO4
 go_wp2_with fail
 go_ret
 exact ⟨rfl,HB.out⟩
end Go.Proofs.YtaimofjekgnieaaGreatDoor
namespace Go.Proofs.YtaimofjekgnieaaGreatDoor
open Go.RowKit Go.Extern.Stop Go.Stop Go.Extern
attribute [local go_sem ↓] Go.wp_at_zero Go.wp_at_succ
theorem z55 (v:Value) (w:World):(Instr.typeAssert (.iface 184 v) 128 227 true).run Tryz.prog w=.ok (.tuple #[.nilIface,.bool false]) w:=run_typeAssert_lacksB Tryz.underlying227 (by kernel_rfl) (by kernel_rfl) v _ w
theorem z54 (v:Value) (w:World):(Instr.typeAssert (.iface 184 v) 128 230 true).run Tryz.prog w=.ok (.tuple #[.nilIface,.bool false]) w:=run_typeAssert_lacksB Tryz.underlying230 (by kernel_rfl) (by kernel_rfl) v _ w
theorem qv6 (v:Value) (w:World):(Instr.typeAssert (.iface 184 v) 128 231 true).run Tryz.prog w=.ok (.tuple #[.nilIface,.bool false]) w:=run_typeAssert_lacksB Tryz.underlying231 (by kernel_rfl) (by kernel_rfl) v _ w
theorem yr1 (t:Addr) (w:World):(ReflectliteValue.unpack (.iface 366 (.pointer (some t)))).run Tryz.prog w
  = .ok (.agg #[hT 366,.pointer (some ⟨w.heap.size,0,none⟩),.int .u64 150]) (w.alloc (.cells #[.pointer (some t)] 366)):=by kernel_rfl
theorem yr4 (a:Addr) (w:World):(ReflectliteValue.methodAny (ReflectliteValue.valueError "reflectlite.Value.Type" 0) (fun t _ _ _=>ReflectliteType.toType t) #[.agg #[hT 366,.pointer (some a),.int .u64 150]]).run Tryz.prog w
  = .ok (.iface 222 (.agg #[hT 366])) w:=by kernel_rfl
theorem ys1 (w:World):((ReflectliteType.abiMethod fun t=>(fun a:Nat=>Value.int IntKind.u8 (a:Int)) <$> Rtype.kind t) #[hT 366]).run Tryz.prog w=.ok (.int .u8 22) w:=by kernel_rfl
theorem ys3 (w:World):((ReflectliteType.abiMethod fun t=>(fun a:Nat=>Value.int IntKind.u8 (a:Int)) <$> Rtype.kind t) #[hT 241]).run Tryz.prog w=.ok (.int .u8 22) w:=by kernel_rfl
theorem yr6 (a:Addr) (w:World):(ReflectliteValue.parts (.agg #[hT 366,.pointer (some a),.int .u64 150])).run Tryz.prog w=.ok (some (366,a,150)) w:=by kernel_rfl
theorem yh8 (a p:Addr) (W:World) (ha:W.cell? a=some (.pointer (some p))) :
  (ReflectliteValue.method (ReflectliteValue.valueError "reflectlite.Value.IsNil" 0) ReflectliteValue.isNil #[.agg #[hT 366,.pointer (some a),.int .u64 150]]).run Tryz.prog W=.ok (.bool false) W:=by
 obtain ⟨g,h1,h2⟩:=rlmE (ReflectliteValue.valueError "reflectlite.Value.IsNil" 0) ReflectliteValue.isNil (.agg #[hT 366,.pointer (some a),.int .u64 150])
 rw[h1]
 simp only[Sem.run_bind,yr6,Result.andThen,h2]
 simp[ReflectliteValue.isNil,loadVar,isAgg,underlying,Tryz.underlying366,ha,Result.andThen]
theorem ys9 (w:World):(ReflectliteType.method ReflectliteType.elem #[.agg #[hT 366]]).run Tryz.prog w=.ok (.iface 222 (.agg #[hT 241])) w:=by kernel_rfl
theorem ys5 (w:World):(ReflectliteType.relation "Implements" ReflectliteType.implements_ #[.agg #[hT 241],.iface 222 (.agg #[hT 128])]).run Tryz.prog w=.ok (.bool true) w:=by kernel_rfl
theorem yt2 (w:World):(ReflectliteType.relation "AssignableTo" ReflectliteType.assignableTo #[.agg #[hT 184],.iface 222 (.agg #[hT 118])]).run Tryz.prog w=.ok (.bool false) w:=by kernel_rfl
theorem z40 (K t:Addr) (old:Value) (w:World) (hg:EtP w) (ht0:w.cell? t=some old) :
  Calls Tryz.prog 55 #[.iface 184 (.pointer (some K)),.iface 132 (.pointer (some t))] w fun ev w'=>ev=.returned (.bool false)/\Below w.heap.size w w':=by
 have x1:=@run_callFunc_extern Tryz.prog 85 _ (fun args=>ReflectliteValue.unpack (args.getD 0 (.tuple #[]))) Tryz.func85 (by kernel_rfl) (by kernel_rfl) (by kernel_rfl) (by kernel_rfl)
 have x2:=@run_callFunc_extern Tryz.prog 86 _ (ReflectliteValue.methodAny (ReflectliteValue.valueError "reflectlite.Value.Type" 0) (fun t _ _ _=>ReflectliteType.toType t)) Tryz.func86 (by kernel_rfl) (by kernel_rfl) (by kernel_rfl) (by kernel_rfl)
 have x3:=@run_callFunc_extern Tryz.prog 87 _ (ReflectliteValue.method (ReflectliteValue.valueError "reflectlite.Value.IsNil" 0) ReflectliteValue.isNil) Tryz.func87 (by kernel_rfl) (by kernel_rfl) (by kernel_rfl) (by kernel_rfl)
 have x4:=@run_callFunc_extern Tryz.prog 454 _ (ReflectliteType.abiMethod fun t=>do pure (.int .u8 (<-Rtype.kind t))) Tryz.func454 (by kernel_rfl) (by kernel_rfl) (by kernel_rfl) (by kernel_rfl)
 have x5:=@run_callFunc_extern Tryz.prog 468 _ (ReflectliteType.method ReflectliteType.elem) Tryz.func468 (by kernel_rfl) (by kernel_rfl) (by kernel_rfl) (by kernel_rfl)
 have x6:=@run_callFunc_extern Tryz.prog 469 _ (ReflectliteType.relation "Implements" ReflectliteType.implements_) Tryz.func469 (by kernel_rfl) (by kernel_rfl) (by kernel_rfl) (by kernel_rfl)
 have x7:=@run_callFunc_extern Tryz.prog 145 _ ReflectliteType.typeOf Tryz.func145 (by kernel_rfl) (by kernel_rfl) (by kernel_rfl) (by kernel_rfl)
 have x8:=@run_callFunc_extern Tryz.prog 466 _ (ReflectliteType.relation "AssignableTo" ReflectliteType.assignableTo) Tryz.func466 (by kernel_rfl) (by kernel_rfl) (by kernel_rfl) (by kernel_rfl)
 have y1:=yh6
 have y2:=asMA
 have y3:=yt2
 have y5:=asV2
 have y6:=asT2
 have y7:=asMK
 have y8:=asME
 have y9:=asMI
 have y10:=asK2
 have y11:=asK1
 have y12:=asE2
 have y13:=asI1
 have z1:=z55
 have z2:=z54
 have z3:=qv6
 have htl:t.block<w.heap.size:=World.block_lt_of_cell? w t ht0
 have hgl:0<w.heap.size:=World.block_lt_of_cell? w ⟨0,0,none⟩ hg
 obtain ⟨w1,hw1⟩:∃ w1,w.alloc (.cells #[.pointer (some t)] 132)=w1:=⟨_,rfl⟩
 obtain ⟨w2,hw2⟩:∃ w2,w1.alloc (.cells #[hT 132,.pointer (some ⟨w.heap.size,0,none⟩),.int .u64 150] 173)=w2:=⟨_,rfl⟩
 have b1:Below w.heap.size w w1:=by rw[<-hw1];exact q01 _ _
 have b2:Below w.heap.size w w2:=by rw[<-hw2];exact b1.alloc b1.size _
 have n1:=yb4 ⟨w.heap.size,0,none⟩ t w2 (by rw[<-hw2,<-hw1];exact ((Has.new w _ _).alloc _).cell 0 rfl)
 have g2:w2.cell? ⟨0,0,none⟩=some (.iface 222 (.agg #[hT 128])):=(b2.cell (p:=⟨0,0,none⟩) hgl).trans hg
 obtain ⟨w3,hw3⟩:∃ w3,w2.alloc (.cells #[hT 132,.pointer (some ⟨w.heap.size,0,none⟩),.int .u64 150] 173)=w3:=⟨_,rfl⟩
 have b3:Below w.heap.size w w3:=by rw[<-hw3];exact b2.alloc b2.size _
 have e2:Has w2 w1.heap.size #[hT 132,.pointer (some ⟨w.heap.size,0,none⟩),.int .u64 150]:=by rw[<-hw2];exact Has.new w1 _ _
 have q0:w2.cell? ⟨w1.heap.size,0,none⟩=some (hT 132):=e2.cell 0 rfl
 have q1:w2.cell? ⟨w1.heap.size,1,none⟩=some (.pointer (some ⟨w.heap.size,0,none⟩)):=e2.cell 1 rfl
 have q2:w2.cell? ⟨w1.heap.size,2,none⟩=some (.int .u64 150):=e2.cell 2 rfl
 have HB3:Hid (Below w.heap.size w w3):=b3
 clear b1 b2 b3 e2 ht0 htl hgl hg
 go_enter Tryz.func55,Tryz.ntmps55
 go_wp2
 refine wp_loop_rounds 1 ?_
 rw[rounds_succ]
 go_wp2
 go_ret
 exact ⟨rfl,HB3.out⟩
theorem yt3 (w:World):(ReflectliteType.relation "AssignableTo" ReflectliteType.assignableTo #[.agg #[hT 184],.iface 222 (.agg #[hT 241])]).run Tryz.prog w=.ok (.bool false) w:=by kernel_rfl
theorem z41 (K t:Addr) (old:Value) (w:World) (hg:EtP w) (ht0:w.cell? t=some old) :
  Calls Tryz.prog 55 #[.iface 184 (.pointer (some K)),.iface 366 (.pointer (some t))] w fun ev w'=>ev=.returned (.bool false)/\Below w.heap.size w w':=by
 have x1:=@run_callFunc_extern Tryz.prog 85 _ (fun args=>ReflectliteValue.unpack (args.getD 0 (.tuple #[]))) Tryz.func85 (by kernel_rfl) (by kernel_rfl) (by kernel_rfl) (by kernel_rfl)
 have x2:=@run_callFunc_extern Tryz.prog 86 _ (ReflectliteValue.methodAny (ReflectliteValue.valueError "reflectlite.Value.Type" 0) (fun t _ _ _=>ReflectliteType.toType t)) Tryz.func86 (by kernel_rfl) (by kernel_rfl) (by kernel_rfl) (by kernel_rfl)
 have x3:=@run_callFunc_extern Tryz.prog 87 _ (ReflectliteValue.method (ReflectliteValue.valueError "reflectlite.Value.IsNil" 0) ReflectliteValue.isNil) Tryz.func87 (by kernel_rfl) (by kernel_rfl) (by kernel_rfl) (by kernel_rfl)
 have x4:=@run_callFunc_extern Tryz.prog 454 _ (ReflectliteType.abiMethod fun t=>do pure (.int .u8 (<-Rtype.kind t))) Tryz.func454 (by kernel_rfl) (by kernel_rfl) (by kernel_rfl) (by kernel_rfl)
 have x5:=@run_callFunc_extern Tryz.prog 468 _ (ReflectliteType.method ReflectliteType.elem) Tryz.func468 (by kernel_rfl) (by kernel_rfl) (by kernel_rfl) (by kernel_rfl)
 have x6:=@run_callFunc_extern Tryz.prog 469 _ (ReflectliteType.relation "Implements" ReflectliteType.implements_) Tryz.func469 (by kernel_rfl) (by kernel_rfl) (by kernel_rfl) (by kernel_rfl)
 have x7:=@run_callFunc_extern Tryz.prog 145 _ ReflectliteType.typeOf Tryz.func145 (by kernel_rfl) (by kernel_rfl) (by kernel_rfl) (by kernel_rfl)
 have x8:=@run_callFunc_extern Tryz.prog 466 _ (ReflectliteType.relation "AssignableTo" ReflectliteType.assignableTo) Tryz.func466 (by kernel_rfl) (by kernel_rfl) (by kernel_rfl) (by kernel_rfl)
 have y1:=yh6
 have y2:=asMA
 have y3:=yt3
 have y5:=yr1
 have y6:=yr4
 have y7:=asMK
 have y8:=asME
 have y9:=asMI
 have y10:=ys1
 have y11:=ys3
 have y12:=ys9
 have y13:=ys5
 have z1:=z55
 have z2:=z54
 have z3:=qv6
 have htl:t.block<w.heap.size:=World.block_lt_of_cell? w t ht0
 have hgl:0<w.heap.size:=World.block_lt_of_cell? w ⟨0,0,none⟩ hg
 obtain ⟨w1,hw1⟩:∃ w1,w.alloc (.cells #[.pointer (some t)] 366)=w1:=⟨_,rfl⟩
 obtain ⟨w2,hw2⟩:∃ w2,w1.alloc (.cells #[hT 366,.pointer (some ⟨w.heap.size,0,none⟩),.int .u64 150] 173)=w2:=⟨_,rfl⟩
 have b1:Below w.heap.size w w1:=by rw[<-hw1];exact q01 _ _
 have b2:Below w.heap.size w w2:=by rw[<-hw2];exact b1.alloc b1.size _
 have n1:=yh8 ⟨w.heap.size,0,none⟩ t w2 (by rw[<-hw2,<-hw1];exact ((Has.new w _ _).alloc _).cell 0 rfl)
 have g2:w2.cell? ⟨0,0,none⟩=some (.iface 222 (.agg #[hT 128])):=(b2.cell (p:=⟨0,0,none⟩) hgl).trans hg
 obtain ⟨w3,hw3⟩:∃ w3,w2.alloc (.cells #[hT 366,.pointer (some ⟨w.heap.size,0,none⟩),.int .u64 150] 173)=w3:=⟨_,rfl⟩
 have b3:Below w.heap.size w w3:=by rw[<-hw3];exact b2.alloc b2.size _
 have e2:Has w2 w1.heap.size #[hT 366,.pointer (some ⟨w.heap.size,0,none⟩),.int .u64 150]:=by rw[<-hw2];exact Has.new w1 _ _
 have q0:w2.cell? ⟨w1.heap.size,0,none⟩=some (hT 366):=e2.cell 0 rfl
 have q1:w2.cell? ⟨w1.heap.size,1,none⟩=some (.pointer (some ⟨w.heap.size,0,none⟩)):=e2.cell 1 rfl
 have q2:w2.cell? ⟨w1.heap.size,2,none⟩=some (.int .u64 150):=e2.cell 2 rfl
 have HB3:Hid (Below w.heap.size w w3):=b3
 clear b1 b2 b3 e2 ht0 htl hgl hg
 go_enter Tryz.func55,Tryz.ntmps55
 go_wp2
 refine wp_loop_rounds 1 ?_
 rw[rounds_succ]
 go_wp2
 go_ret
 exact ⟨rfl,HB3.out⟩
end Go.Proofs.YtaimofjekgnieaaGreatDoor
