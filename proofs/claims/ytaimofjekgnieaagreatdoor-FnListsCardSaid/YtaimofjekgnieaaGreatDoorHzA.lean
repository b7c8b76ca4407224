import Derived.Test.YtaimofjekgnieaaGreatDoorGives
import Derived.Test.YtaimofjekgnieaaGreatDoorJnA
import Derived.Test.YtaimofjekgnieaaGreatDoorPutE
import Derived.Deep.Cut
import Derived.Test.YtaimofjekgnieaaGreatDoorTabF
set_option maxRecDepth 100000
set_option maxHeartbeats 16000000
namespace Go.Proofs.YtaimofjekgnieaaGreatDoor
open Go.RowKit
attribute [local go_sem] q00
attribute [local go_sem ↓] Go.wp_at_zero Go.wp_at_succ
theorem OwnB.call {u w:World} {B:Nat} {A:Array Value} (h:OwnB u B A) (hb:Below u.heap.size u w):OwnB w B A:=h.block hb.size (hb.block _ h.1.1)
theorem OwnB.drew {u:World} {B:Nat} {A:Array Value} (h:OwnB u B A):OwnB u.drew B A:=h.call (Below.refl _ _).drew
theorem q41 (v:World) (o:Obj) (A:Array Value) (t:TypeId):OwnB ((v.alloc o).alloc (.cells A t)) (v.heap.size+1) A:=by
 have h:=OwnB.new (v.alloc o) A t
 rw[World.size_alloc] at h
 exact h
theorem y66 (v:World) (o:Obj):(v.alloc o).heap[v.heap.size]?=some o:=by
 show (v.heap.push o)[v.heap.size]?=some o
 exact Array.getElem?_push_size
theorem qc0 (s:ByteArray) (w:World):Calls Tryz.prog 51 #[.string s] w fun e w'=>e=.returned (vOf 4 0 0 s 0)/\Below w.heap.size w w':=by
 go_enter Tryz.func51,Tryz.ntmps51
 go_wp2_with fail
 refine (zn6 s _).mono ?_
 rintro e w1 ⟨rfl,hb⟩
 have hO:=(OwnB.new w #[.int .i64 0,.int .i64 0,.float .f64 0,.string ⟨#[]⟩,.int .i64 0] 113).call hb
 have r0:=hO.1.cell 0 rfl
 have r1:=hO.1.cell 1 rfl
 have r2:=hO.1.cell 2 rfl
 have r3:=hO.1.cell 3 rfl
 have r4:=hO.1.cell 4 rfl
 have rz:=hO.2
 have HB:Hid (Below w.heap.size w w1):=q02 (q01 _ _) hb
 clear hb hO
 go_wp2_with fail
 exact bodyPost_ret (v:=vOf 4 0 0 s 0) (by simp[results,Tryz.results51,go_sem,r0,r1,r2,r3,r4]) rfl ⟨rfl,set5 HB.out (Nat.le_refl _) _ _ _ _ _⟩
theorem qi0 (n:Int) (w:World):Calls Tryz.prog 258 #[.int .i64 n] w fun e w'=>e=.returned (vOf 2 n 0 ⟨#[]⟩ 0)/\Below w.heap.size w w':=by
 go_enter Tryz.func258,Tryz.ntmps258
 go_wp2_with fail
 refine (qn9 n _).mono ?_
 rintro e w1 ⟨rfl,hb⟩
 have hO:=(OwnB.new w #[.int .i64 0,.int .i64 0,.float .f64 0,.string ⟨#[]⟩,.int .i64 0] 113).call hb
 have r0:=hO.1.cell 0 rfl
 have r1:=hO.1.cell 1 rfl
 have r2:=hO.1.cell 2 rfl
 have r3:=hO.1.cell 3 rfl
 have r4:=hO.1.cell 4 rfl
 have rz:=hO.2
 have HB:Hid (Below w.heap.size w w1):=q02 (q01 _ _) hb
 clear hb hO
 go_wp2_with fail
 exact bodyPost_ret (v:=vOf 2 n 0 ⟨#[]⟩ 0) (by simp[results,Tryz.results258,go_sem,r0,r1,r2,r3,r4]) rfl ⟨rfl,set5 HB.out (Nat.le_refl _) _ _ _ _ _⟩
theorem z81 (w:World):(Instr.makeMap 236 none).run Tryz.prog w=.ok (.map (some w.heap.size)) (w.alloc (.map #[] 0)):=by
 simp[Instr.makeMap,newObj,Sem.run,Result.andThen]
theorem qx4:(Tryz.prog.info? 182).map (fun i=>(i.zero,i.size,i.bytes))=some (some (.pointer none),1,8):=by kernel_rfl
theorem Sp.tab {X:RX} {d:MD} {u:World} (h:St X d u) (v:Value):Sp X d u {d with tab:=v} (u.setCell ⟨X.M,16,none⟩ v):=by
 have hx:=h.ty
 exact h.put v (.inl rfl) (h.m.set (o:=16) (by show 16<27;omega) v) (q05 h.t hx.tm) (q05 h.f hx.fm) (q05 h.v hx.vm) h.rr h.hr h.sr h.fw h.r0 (fun _ _ e=>e) rfl
theorem Sp.liv {X:RX} {d:MD} {u:World} (h:St X d u) (v:Value):Sp X d u {d with liv:=v} (u.setCell ⟨X.M,19,none⟩ v):=by
 have hx:=h.ty
 exact h.put v (.inl rfl) (h.m.set (o:=19) (by show 19<27;omega) v) (q05 h.t hx.tm) (q05 h.f hx.fm) (q05 h.v hx.vm) h.rr h.hr h.sr h.fw h.r0 (fun _ _ e=>e) rfl
abbrev tbZ (B:Nat):Array Value:=#[.slice none 0 0,.map (some B),.int .i64 0,.int .i64 0,.pointer none,.bool false,.int .i64 0]
theorem app1 {w0:World} (p:Value) {t e:TypeId} (hp:p.oneCell'=true) (ht:Tryz.prog.underlying t=some (.slice e)) (hi:(Tryz.prog.info? e).map (fun i=>(i.zero,i.size,i.bytes))=some (some (.pointer none),1,8)) :
  ∃ g cap w',(Builtin.append_ #[t,t] t #[.slice none 0 0,.slice (some ⟨w0.heap.size,0,none⟩) 1 1]).run Tryz.prog (w0.alloc (.cells #[p] e))=.ok (.slice (some ⟨g,0,none⟩) 1 cap) w'/\w0.heap.size<g/\g<w'.heap.size/\w'.cell? ⟨g,0,none⟩=some p/\Below w0.heap.size w0 w':=by
 obtain ⟨i0,hi0,hy0,hy1,hy2⟩:=info_parts hi
 obtain ⟨v',w7,happ,hown,hgrow,_,hat⟩:=run_append_own_at (P:=Tryz.prog) (w0.alloc (.cells #[p] e)) 0 t t e i0 _ 1 8 ht hi0 hy0 hy1 hy2 rfl (by decide) (.slice none 0 0) 0 [] (World.ownsRow_nil _ _ _ _) ⟨w0.heap.size,0,none⟩ 1 1 [p] rfl (cell_one_new _ _ _) (by simpa using hp) (by unfold maxLen;omega) (by omega) (Nat.zero_le _)
 rcases hown.2 with ⟨_,d⟩|⟨g,cap,cur,e1,hb,hg,h2,h3,h4,h5⟩
 ·omega
 ·subst e1
  refine ⟨g,cap,w7,happ,?_,(Array.getElem?_eq_some_iff.1 hg).1,?_,(q01 w0 _).grown hgrow (by simp) (fun k e=>by cases e)⟩
  ·rcases hat with e|e
   ·cases e
   ·have:=Option.some.inj e;simp at this;omega
  ·have hc:=hown.cells (g:=g) rfl 0 p rfl
   simpa[Addr.add] using hc
structure NT (X:RX) (d:MD) (u:World) (K B t1 c1 t2 c2:Nat) (w':World):Prop where
 s:Sp X d u {d with tab:=.slice (some ⟨t1,0,none⟩) 1 c1,liv:=.slice (some ⟨t2,0,none⟩) 1 c2} w'
 k:OwnB w' K (tbZ B)
 kn:u.heap.size<=K
 b:w'.heap[B]?=some (.map #[] 0)
 bn:u.heap.size<=B
 t:w'.cell? ⟨t1,0,none⟩=some (ptr K)
 tn:u.heap.size<=t1
 tl:t1<w'.heap.size
theorem qt8 (X:RX) (d:MD) (u:World) (h:St X d u) (ht:d.tab=.slice none 0 0) (hl:d.liv=.slice none 0 0) :
  Calls Tryz.prog 256 #[ptr X.M] u fun e w'=>∃ K B t1 c1 t2 c2,e=.returned (ptr K)/\NT X d u K B t1 c1 t2 c2 w':=by
 have HS:Hid (St X d u):=h
 have m16:u.cell? ⟨X.M,16,none⟩=some (.slice none 0 0):=by rw[<-ht];exact h.m.1.cell 16 rfl
 have hMl:=h.m.1.1
 have hmk:=z81
 clear h
 go_enter Tryz.func256,Tryz.ntmps256
 go_upto_region 2 with fail
 obtain ⟨w1,hw1⟩:∃ w1,(u.alloc (.map #[] 0)).alloc (.cells (tbZ u.heap.size) 240)=w1:=⟨_,rfl⟩
 have H1:Hid (St X d w1/\Below u.heap.size u w1/\OwnB w1 (u.heap.size+1) (tbZ u.heap.size)/\w1.heap[u.heap.size]?=some (.map #[] 0)):=by
  rw[<-hw1]
  refine ⟨(HS.out.alloc _).alloc _,q04 _ _ _,q41 _ _ _ _,?_⟩
  rw[Below.heap_alloc _ _ _ (by simp)]
  exact y66 u _
 rw[hw1]
 clear hw1 m16
 obtain ⟨K,hK⟩:∃ K,u.heap.size+1=K:=⟨_,rfl⟩
 rw[hK] at H1
 rw[hK]
 have HK:Hid (u.heap.size+1=K):=hK
 clear hK
 obtain ⟨ta,hta⟩:∃ ta:Option Addr,Hid (ta=none):=⟨_,rfl⟩
 obtain ⟨tn,htn⟩:∃ tn:Nat,Hid (tn=0):=⟨_,rfl⟩
 obtain ⟨tc,htc⟩:∃ tc:Nat,Hid (tc=0):=⟨_,rfl⟩
 have htv:Hid (Value.slice none 0 0=.slice ta tn tc):=by rw[hta.out,htn.out,htc.out];exact rfl
 obtain ⟨t1,c1,w2,happ,hg1,hg2,hg3,hb2⟩:=app1 (w0:=w1) (ptr K) rfl Tryz.underlying65 qx4
 have hS2:St X d w2:=H1.out.1.call hb2
 have m16:w1.cell? ⟨X.M,16,none⟩=some (.slice none 0 0):=by rw[<-ht];exact H1.out.1.m.1.cell 16 rfl
 have m16':w2.cell? ⟨X.M,16,none⟩=some (.slice none 0 0):=by rw[<-ht];exact hS2.m.1.cell 16 rfl
 have mz':=hS2.m.2
 have hM1:=H1.out.1.m.1.1
 have hM2:=hS2.m.1.1
 have H2:Hid (St X d w2/\Below w1.heap.size w1 w2/\w1.heap.size<t1/\t1<w2.heap.size/\w2.cell? ⟨t1,0,none⟩=some (ptr K)):=⟨hS2,hb2,hg1,hg2,hg3⟩
 rw[htv.out] at happ m16 m16'
 clear hS2 hb2 hg1 hg2 hg3 hMl hmk
 go_upto_region 3 with (at_builtin;refine q25 (by rfl) _ _ _ _ (by rfl) (.slice ta tn tc) (.slice (some ⟨w1.heap.size,0,none⟩) 1 1) _ _ (by rfl) (by rfl) happ ?_)
 obtain ⟨w3,hw3⟩:∃ w3,w2.setCell ⟨X.M,16,none⟩ (.slice (some ⟨t1,0,none⟩) 1 c1)=w3:=⟨_,rfl⟩
 obtain ⟨d3,hd3⟩:∃ d3:MD,d3={d with tab:=.slice (some ⟨t1,0,none⟩) 1 c1}:=⟨_,rfl⟩
 have H3:Hid (Sp X d u d3 w3/\Gx (fun k=>k=X.M) w2 w3):=by
  rw[<-hw3,hd3]
  exact ⟨((Sp.below HS.out H1.out.2.1).trans (Sp.below H1.out.1 H2.out.2.1)).trans (Sp.tab H2.out.1 _),Gx.set _ _ _ _⟩
 rw[hw3]
 clear hw3 happ m16 m16' mz' hM1 hM2
 have hl3:d3.liv=.slice none 0 0:=by rw[hd3];exact hl
 obtain ⟨t2,c2,w4,happ,hg1,hg2,hg3,hb4⟩:=app1 (w0:=w3) (ptr K) rfl Tryz.underlying65 qx4
 have hS4:St X d3 w4:=H3.out.1.s.call hb4
 have m19:w3.cell? ⟨X.M,19,none⟩=some (.slice none 0 0):=by rw[<-hl3];exact H3.out.1.s.m.1.cell 19 rfl
 have m19':w4.cell? ⟨X.M,19,none⟩=some (.slice none 0 0):=by rw[<-hl3];exact hS4.m.1.cell 19 rfl
 have mz':=hS4.m.2
 have hM1:=H3.out.1.s.m.1.1
 have hM2:=hS4.m.1.1
 have H4:Hid (Sp X d u d3 w4/\Below w3.heap.size w3 w4):=⟨H3.out.1.call hb4,hb4⟩
 rw[htv.out] at happ m19 m19'
 clear hS4 hb4 hg1 hg2 hg3
 go_wp2_with (at_builtin;refine q25 (by rfl) _ _ _ _ (by rfl) (.slice ta tn tc) (.slice (some ⟨w3.heap.size,0,none⟩) 1 1) _ _ (by rfl) (by rfl) happ ?_)
 have hS:=HS.out
 have hMl:=hS.m.1.1
 have hk:=HK.out
 obtain ⟨a1,a2,a3,a4⟩:=H1.out
 obtain ⟨b1,b2,b3,b4,b5⟩:=H2.out
 obtain ⟨q1,q2⟩:=H3.out
 obtain ⟨e1,e2⟩:=H4.out
 have s1:=a2.size
 have s2:=b2.size
 have s3:=q2.size
 have s4:=e2.size
 have hKl:=a3.1.1
 have g:Gx (fun k=>k=X.M) w1 (w4.setCell ⟨X.M,19,none⟩ (.slice (some ⟨t2,0,none⟩) 1 c2)):=(((Gx.below (fun k=>k=X.M) b2).trans q2 (fun _ _ e=>e)).trans (Gx.below (fun k=>k=X.M) e2) (fun _ _ e=>e)).trans (Gx.set w4 X.M 19 _) (fun _ _ e=>e)
 have g2:Gx (fun k=>k=X.M) w2 (w4.setCell ⟨X.M,19,none⟩ (.slice (some ⟨t2,0,none⟩) 1 c2)):=(q2.trans (Gx.below (fun k=>k=X.M) e2) (fun _ _ e=>e)).trans (Gx.set w4 X.M 19 _) (fun _ _ e=>e)
 have hB:u.heap.size<w1.heap.size:=(Array.getElem?_eq_some_iff.1 a4).1
 refine bodyPost_ret (v:=ptr K) (by simp[results,Tryz.results256,go_sem]) rfl ⟨K,u.heap.size,t1,c1,t2,c2,rfl,⟨?_,g.ownB a3 (by show K≠X.M;omega),by omega,?_,Nat.le_refl _,?_,by omega,by have:=g2.size;omega⟩⟩
 ·have h5:=e1.trans (Sp.liv e1.s (.slice (some ⟨t2,0,none⟩) 1 c2))
  rw[hd3] at h5
  exact h5
 ·rw[g.block u.heap.size hB (by show u.heap.size≠X.M;omega)]
  exact a4
 ·exact (World.cell?_of_block (a:=⟨t1,0,none⟩) (g2.block t1 b4 (by show t1≠X.M;omega))).trans b5
abbrev kC:VD:=⟨4,0,0,⟨#[99,111,100,101]⟩,0⟩
abbrev kL:VD:=⟨4,0,0,⟨#[108,105,110,101]⟩,0⟩
abbrev nI (n:Int):VD:=⟨2,n,0,⟨#[]⟩,0⟩
def q0:Nat->PD:=fun _=>pz
def q1 (c:Int):Nat->PD:=addP q0 0 ⟨kC,nI c,0+1⟩
def q2 (c l:Int):Nat->PD:=addP (q1 c) 1 ⟨kL,nI l,0+1 + 1⟩
theorem yl9:mk kC≠mk kL:=by
 intro e
 have:=congrArg (fun m:Mk=>m.2.2.2.1.data) e
 simp[mk] at this
theorem NT.xo {X:RX} {d:MD} {u:World} {K B t1 c1 t2 c2:Nat} {w':World} (h:NT X d u K B t1 c1 t2 c2 w'):XO u.heap.size w' K none 0 0 B 0 q0 []:=
 ⟨h.kn,h.k.1.1,h.k.1.cell 0 rfl,h.k.1.cell 1 rfl,h.k.1.cell 2 rfl,h.k.2,World.ownsRow_nil _ _ _ _,⟨#[],0,h.b,rfl⟩,h.bn,fun _ _ _ e=>by cases e⟩
theorem zx9 {B:Nat} {L:List (Mk×Nat)} {y:VD} (hi:idx L (mk y)=none) (u:World) (h:MapIs u B L):(Instr.lookup 236 (.map (some B)) (mkV (mk y)) true).run Tryz.prog u=.ok (.tuple #[.int .i64 0,.bool false]) u:=by
 have:=qw8 Tryz.underlying236 ye7 h (mk y) (Tryz.zeroValue3 _)
 rw[hi] at this
 exact this
theorem putz1 {N K B:Nat} {w:World} (c:Int) (hN:N<=w.heap.size) (h:XO N w K none 0 0 B 0 q0 []) :
  Calls Tryz.prog 257 #[.pointer (some ⟨K,0,none⟩),kC.v,(nI c).v] w fun e w'=>e=.returned (.tuple #[])/\(∃ a' cap',XO N w' K a' 1 cap' B (0+1) (q1 c) (places (q1 c) 1)/\y26 w none a')/\Below N w w'/\(∀ o,3<=o->w'.cell? ⟨K,o,none⟩=w.cell? ⟨K,o,none⟩)/\FrX w w' K B none:=by
 refine (zk4 N K none 0 0 B 0 q0 [] kC (nI c) w hN (by omega) (by omega) (zx9 rfl) h).mono ?_
 rintro e w' ⟨rfl,h1,hb,ho⟩
 rw[if_neg (by show ¬((2:Int)=0\/¬(0<500/\(0:Int)<1000000000000));omega)] at h1
 exact ⟨rfl,h1,hb,ho⟩
theorem putz2 {N K B:Nat} {w:World} {a:Option Addr} {cap:Nat} (c l:Int) (hN:N<=w.heap.size) (h:XO N w K a 1 cap B (0+1) (q1 c) (places (q1 c) 1)) :
  Calls Tryz.prog 257 #[.pointer (some ⟨K,0,none⟩),kL.v,(nI l).v] w fun e w'=>e=.returned (.tuple #[])/\(∃ a' cap',XO N w' K a' 2 cap' B (0+1 + 1) (q2 c l) (places (q2 c l) 2)/\y26 w a a')/\Below N w w'/\(∀ o,3<=o->w'.cell? ⟨K,o,none⟩=w.cell? ⟨K,o,none⟩)/\FrX w w' K B (Value.slice a 1 cap).ownBlock:=by
 have hi:idx (places (q1 c) 1) (mk kL)=none:=by
  show (if mk kL=mk kC then _ else _)=none
  rw[if_neg fun e=>yl9 e.symm]
  rfl
 refine (zk4 N K a 1 cap B (0+1) (q1 c) _ kL (nI l) w hN (by omega) (by omega) (zx9 hi) h).mono ?_
 rintro e w' ⟨rfl,h1,hb,ho⟩
 rw[if_neg (by show ¬((2:Int)=0\/¬(1<500/\(0+1:Int)<1000000000000));omega)] at h1
 exact ⟨rfl,h1,hb,ho⟩
theorem yc9 (c l:Int):y93 2 (0+1 + 1) (q2 c l):=by
 have e1:fz 0=true:=rfl
 have e2:se ⟨#[]⟩=true:=by first|kernel_rfl|simp[se]|decide
 have e3:(⟨#[99,111,100,101]⟩:ByteArray).size=4:=rfl
 have e4:(⟨#[108,105,110,101]⟩:ByteArray).size=4:=rfl
 refine ⟨by omega,by omega,by omega,fun i hi=>?_,fun i j hj hi=>?_⟩
 ·rcases (show i=0\/i=1 by omega) with rfl|rfl
  ·simp[zv1,q2,q1,addP,pOkB,kOk,kc,kv,VD.ok,okB,ueB,usB,e1,e2,e3,yf0]
  ·simp[zv1,q2,q1,addP,pOkB,kOk,kc,kv,VD.ok,okB,ueB,usB,e1,e2,e4,yf0]
 ·obtain ⟨rfl,rfl⟩:i=1/\j=0:=by omega
  exact yl9
theorem gt_z (c l:Int):(gt (q2 c l) (mk kC) 2).val=nI c:=by
 have h1:fnd (q2 c l) (mk kC) 2=some 0:=by
  have h2:fnd (q2 c l) (mk kC) 1=some 0:=by
   show (if mk kC=mk kC then some 0 else none)=some 0
   rw[if_pos rfl]
  rw[fnd,h2]
 rw[gt,h1]
 rfl
theorem getC {N K B:Nat} {w:World} {a:Option Addr} {cap:Nat} (c l:Int) (h:XO N w K a 2 cap B (0+1 + 1) (q2 c l) (places (q2 c l) 2)) :
  Calls Tryz.prog 148 #[.pointer (some ⟨K,0,none⟩),kC.v] w fun e w'=>e=.returned (nI c).v/\Below w.heap.size w w':=by
 refine (zz7 K a 2 cap B (0+1 + 1) (q2 c l) kC w (yc9 c l) ⟨h.lt,h.c0,h.c1,h.c2,ye4 h.own,h.map⟩).mono ?_
 rintro e w' ⟨rfl,hb⟩
 exact ⟨by rw[gt_z],hb⟩
theorem zn7 (k r:Int) (w:World):Calls Tryz.prog 305 #[.agg #[.int .i64 k,.int .i64 r]] w fun e w'=>e=.returned (vOf k 0 0 ⟨#[]⟩ r)/\Below w.heap.size w w':=by
 go_enter Tryz.func305,Tryz.ntmps305
 go_wp2_with fail
 refine bodyPost_ret (v:=vOf k 0 0 ⟨#[]⟩ r) (by simp[results,Tryz.results305,go_sem]) rfl ⟨rfl,?_⟩
 with_reducible exact q04 _ _ _
theorem z50 (K:Nat) (r:Int) (w:World) (hK:K<w.heap.size) (h:w.cell? ⟨K,3,none⟩=some (.int .i64 r)):Calls Tryz.prog 259 #[ptr K] w fun e w'=>e=.returned (vOf 5 0 0 ⟨#[]⟩ r)/\Below w.heap.size w w':=by
 go_enter Tryz.func259,Tryz.ntmps259
 go_wp2_with fail
 refine (zn7 5 r _).mono ?_
 rintro e w1 ⟨rfl,hb⟩
 have hO:=(OwnB.new w #[.int .i64 0,.int .i64 0,.float .f64 0,.string ⟨#[]⟩,.int .i64 0] 113).call hb
 have r0:=hO.1.cell 0 rfl
 have r1:=hO.1.cell 1 rfl
 have r2:=hO.1.cell 2 rfl
 have r3:=hO.1.cell 3 rfl
 have r4:=hO.1.cell 4 rfl
 have rz:=hO.2
 have HB:Hid (Below w.heap.size w w1):=q02 (q01 _ _) hb
 clear hb hO h hK
 go_wp2_with fail
 exact bodyPost_ret (v:=vOf 5 0 0 ⟨#[]⟩ r) (by simp[results,Tryz.results259,go_sem,r0,r1,r2,r3,r4]) rfl ⟨rfl,set5 HB.out (Nat.le_refl _) _ _ _ _ _⟩
abbrev sEc (g:UInt8):ByteArray:=⟨#[101,114,114,111,114,32,g]⟩
structure EX (w:World) (K:Nat) (c l:Int):Prop where
 x:∃ N a cap B,XO N w K a 2 cap B (0+1 + 1) (q2 c l) (places (q2 c l) 2)
theorem EX.get {w:World} {K:Nat} {c l:Int} (h:EX w K c l):Calls Tryz.prog 148 #[.pointer (some ⟨K,0,none⟩),kC.v] w fun e w'=>e=.returned (nI c).v/\Below w.heap.size w w':=by
 obtain ⟨N,a,cap,B,h⟩:=h.x
 exact getC c l h
theorem zb3 (K:Nat) (c l:Int) (w:World) (h:∀ w',Below w.heap.size w w'->EX w' K c l):Calls Tryz.prog 90 #[ptr K,.string ⟨#[99,111,100,101]⟩] w fun e w'=>e=.returned (nI c).v/\Below w.heap.size w w':=by
 have HE:Hid (∀ w',Below w.heap.size w w'->EX w' K c l):=h
 clear h
 go_enter Tryz.func90,Tryz.ntmps90
 go_upto_region 1 with fail
 obtain ⟨w0,hw0⟩:∃ w0,w.alloc (.cells #[.int .i64 0,.int .i64 0,.float .f64 0,.string ⟨#[]⟩,.int .i64 0] 113)=w0:=⟨_,rfl⟩
 have HO:Hid (OwnB w0 w.heap.size #[.int .i64 0,.int .i64 0,.float .f64 0,.string ⟨#[]⟩,.int .i64 0]):=by rw[<-hw0];exact OwnB.new w _ _
 have HB:Hid (Below w.heap.size w w0):=by rw[<-hw0];exact q01 _ _
 rw[hw0]
 clear hw0
 go_region_with (first|(go_at_call 51;refine (qc0 _ _).mono ?_;rintro e w1 ⟨rfl,hb1⟩;replace HO:Hid (OwnB w1 w.heap.size #[.int .i64 0,.int .i64 0,.float .f64 0,.string ⟨#[]⟩,.int .i64 0]):=(by first|exact HO.out.call hb1|exact HO.out.drew.call hb1);replace HB:Hid (Below w.heap.size w w1):=(by first|exact q02 HB.out hb1|exact q02 HB.out.drew hb1);clear hb1)|(go_at_call 148;refine (HE.out _ HB.out).get.mono ?_;rintro e w2 ⟨rfl,hb2⟩;replace HO:Hid (OwnB w2 w.heap.size #[.int .i64 0,.int .i64 0,.float .f64 0,.string ⟨#[]⟩,.int .i64 0]):=(by first|exact HO.out.call hb2|exact HO.out.drew.call hb2);replace HB:Hid (Below w.heap.size w w2):=(by first|exact q02 HB.out hb2|exact q02 HB.out.drew hb2);clear hb2;have r0:=HO.out.1.cell 0 rfl;have r1:=HO.out.1.cell 1 rfl;have r2:=HO.out.1.cell 2 rfl;have r3:=HO.out.1.cell 3 rfl;have r4:=HO.out.1.cell 4 rfl;have rz:=HO.out.2))
 all_goals go_wp2_with fail
 all_goals exact bodyPost_ret (v:=(nI c).v) (by simp[results,Tryz.results90,go_sem,r0,r1,r2,r3,r4]) rfl ⟨rfl,set5 HB.out (Nat.le_refl _) _ _ _ _ _⟩
theorem qz1 (X:RX) (d:MD) (u:World) (h:St X d u) (t1 c1 K:Nat) (ht:d.tab=.slice (some ⟨t1,0,none⟩) 1 c1) (hl:t1<u.heap.size) (hc:u.cell? ⟨t1,0,none⟩=some (ptr K)) :
  Calls Tryz.prog 89 #[ptr X.M,vOf 5 0 0 ⟨#[]⟩ 0] u fun e w'=>e=.returned (ptr K)/\Below u.heap.size u w':=by
 have m16:u.cell? ⟨X.M,16,none⟩=some (.slice (some ⟨t1,0,none⟩) 1 c1):=by rw[<-ht];exact h.m.1.cell 16 rfl
 have hMl:=h.m.1.1
 clear h ht
 go_enter Tryz.func89,Tryz.ntmps89
 go_wp2_with fail
 go_region_with fail
 all_goals go_wp2_with fail
 all_goals go_ret
 all_goals exact ⟨rfl,(q01 _ _).drew⟩
theorem qv4 (X:RX) (cd:Int) (dg:UInt8) (hcd:bA (decB cd)=⟨#[dg]⟩/\I64r cd) (d:MD) (u:World) (h:St X d u) (t1 c1 K:Nat) (l:Int) (ht:d.tab=.slice (some ⟨t1,0,none⟩) 1 c1) (hl:t1<u.heap.size) (hc:u.cell? ⟨t1,0,none⟩=some (ptr K)) (hE:∀ w',Below u.heap.size u w'->EX w' K cd l) (hT:TabX X) :
  Calls Tryz.prog 56 #[ptr X.M,vOf 5 0 0 ⟨#[]⟩ 0] u fun e w'=>e=.returned (.string (sEc dg))/\Below u.heap.size u w':=by
 have HT:Hid (∀ w1,Below u.heap.size u w1->Calls Tryz.prog 89 #[ptr X.M,vOf 5 0 0 ⟨#[]⟩ 0] w1 fun e w'=>e=.returned (ptr K)/\Below w1.heap.size w1 w'):=fun w1 hb=>qz1 X d w1 (h.call hb) t1 c1 K ht (Nat.lt_of_lt_of_le hl hb.size) ((hb.cell (p:=⟨t1,0,none⟩) hl).trans hc)
 have HG:Hid (∀ w1,Below u.heap.size u w1->Calls Tryz.prog 90 #[ptr K,.string ⟨#[99,111,100,101]⟩] w1 fun e w'=>e=.returned (nI cd).v/\Below w1.heap.size w1 w'):=fun w1 hb=>zb3 K cd l w1 fun w2 hb2=>hE w2 (q02 hb hb2)
 have HX:Hid (∀ w1:World,Below u.heap.size u w1->Calls Tryz.prog 58 #[vOf 2 cd 0 ⟨#[]⟩ 0] w1 fun e w'=>e=.returned (.string ⟨#[dg]⟩)/\Below w1.heap.size w1 w'):=fun w1 hb=>(qv5 cd w1 hcd.2 (hT _ (h.call hb).k)).mono fun e w' h=>⟨by rw[h.1,hcd.1],h.2⟩
 clear h hE ht hl hc hT hcd
 go_enter Tryz.func56,Tryz.ntmps56
 go_wp2_with fail
 refine (HT.out _ (q01 _ _)).mono ?_
 rintro e w1 ⟨rfl,hb1⟩
 have HB:Hid (Below u.heap.size u w1):=q02 (q01 _ _) hb1
 clear hb1
 go_wp2_with fail
 refine (HG.out _ HB.out).mono ?_
 rintro e w2 ⟨rfl,hb2⟩
 replace HB:Hid (Below u.heap.size u w2):=q02 HB.out hb2
 clear hb2
 go_wp2_with fail
 refine (HX.out _ (q02 HB.out (q01 _ _))).mono ?_
 rintro e w3 ⟨rfl,hb3⟩
 have HB3:Hid (Below u.heap.size u w3):=q02 (q02 HB.out (q01 _ _)) hb3
 clear hb3
 go_wp2_with fail
 go_ret
 exact ⟨rfl,HB3.out⟩
theorem own5 {w:World} {B:Nat} {a b c d e:Value} (h:OwnB w B #[a,b,c,d,e]):w.cell? ⟨B,0,none⟩=some a/\w.cell? ⟨B,1,none⟩=some b/\w.cell? ⟨B,2,none⟩=some c/\w.cell? ⟨B,3,none⟩=some d/\w.cell? ⟨B,4,none⟩=some e:=
 ⟨h.1.cell 0 rfl,h.1.cell 1 rfl,h.1.cell 2 rfl,h.1.cell 3 rfl,h.1.cell 4 rfl⟩
abbrev vT:Array Value:=#[.int .i64 5,.int .i64 0,.float .f64 0,.string ⟨#[]⟩,.int .i64 0]
abbrev thE (tr:ByteArray):Array Value:=#[.int .i64 5,.int .i64 0,.float .f64 0,.string ⟨#[]⟩,.int .i64 0,.string tr]
theorem ze2 (X:RX) (cd:Int) (dg:UInt8) (hcd:bA (decB cd)=⟨#[dg]⟩/\I64r cd) (tr:ByteArray) (d:MD) (u:World) (h:St X d u) (t1 c1 K:Nat) (l:Int) (hn:d.recs.length<5000) (ht:d.tab=.slice (some ⟨t1,0,none⟩) 1 c1) (hl:t1<u.heap.size) (hc:u.cell? ⟨t1,0,none⟩=some (ptr K)) (hE:∀ w',Below u.heap.size u w'->EX w' K cd l) (hT:TabX X) (hTr:∀ w1,Below u.heap.size u w1->Calls Tryz.prog 229 #[ptr X.M] w1 fun e w'=>e=.returned (.string tr)/\Below w1.heap.size w1 w') :
  Calls Tryz.prog 178 #[ptr X.M,vOf 5 0 0 ⟨#[]⟩ 0] u fun e w'=>∃ E d',e=.returned (ptr E)/\u.heap.size<=E/\BxO X d' w' E (thE tr)/\Sp X d u d' w'/\d'.p=d.p.rcd ⟨4,0,X.fn,d.line,sEc dg⟩:=by
 have HS:Hid (St X d u):=h
 have HTr:Hid (∀ w1,Below u.heap.size u w1->Calls Tryz.prog 229 #[ptr X.M] w1 fun e w'=>e=.returned (.string tr)/\Below w1.heap.size w1 w'):=hTr
 have HD:Hid (∀ w1,Below u.heap.size u w1->Calls Tryz.prog 56 #[ptr X.M,vOf 5 0 0 ⟨#[]⟩ 0] w1 fun e w'=>e=.returned (.string (sEc dg))/\Below w1.heap.size w1 w'):=fun w1 hb=>qv4 X cd dg hcd d w1 (h.call hb) t1 c1 K l ht (Nat.lt_of_lt_of_le hl hb.size) ((hb.cell (p:=⟨t1,0,none⟩) hl).trans hc) (fun w2 hb2=>hE w2 (q02 hb hb2)) hT
 have HR:Hid (∀ w1,Below u.heap.size u w1->Calls Tryz.prog 142 #[ptr X.M,.int .i64 4,.int .i64 X.fn,.int .i64 d.line,.string (sEc dg)] w1 fun e w'=>e=.returned (.tuple #[])/\To X d w1 (d.p.rcd ⟨4,0,X.fn,d.line,sEc dg⟩) w'):=fun w1 hb=>q31 X d 4 X.fn d.line (sEc dg) w1 (h.call hb) hn
 have HH:Hid (∀ w1,Below u.heap.size u w1->Calls Tryz.prog 228 #[ptr X.T] w1 fun e w'=>e=.returned (.tuple #[.int .i64 X.fn,.int .i64 d.line])/\Below w1.heap.size w1 w'):=fun w1 hb=>qk3 X d w1 (h.call hb)
 have m23:u.cell? ⟨X.M,23,none⟩=some (ptr X.T):=h.m.1.cell 23 rfl
 have hMl:=h.m.1.1
 clear h hn ht hl hc hE hT hTr hcd
 generalize d.line=ln at *
 go_enter Tryz.func178,Tryz.ntmps178
 go_wp2_with fail
 refine (HH.out _ (q01 _ _)).mono ?_
 rintro e w1 ⟨rfl,hb1⟩
 have HO:Hid (OwnB w1 u.heap.size vT):=(OwnB.new u _ _).call hb1
 have HB:Hid (Below u.heap.size u w1):=q02 (q01 _ _) hb1
 clear hb1 m23 hMl
 go_upto_region 2 with fail
 go_region_held3 (fun w'=>w'.cell? ⟨u.heap.size,0,none⟩=some (.int .i64 5)/\w'.cell? ⟨u.heap.size,1,none⟩=some (.int .i64 0)/\w'.cell? ⟨u.heap.size,2,none⟩=some (.float .f64 0)/\w'.cell? ⟨u.heap.size,3,none⟩=some (.string ⟨#[]⟩)/\w'.cell? ⟨u.heap.size,4,none⟩=some (.int .i64 0)) (first|(with_reducible exact own5 HO.out)|(with_reducible exact own5 HO.out.drew)|(with_reducible exact own5 (HO.out.call (q01 _ _)))) ((go_at_call 229;refine (HTr.out _ (by first|exact HB.out|exact HB.out.drew)).mono ?_;rintro e w2 ⟨rfl,hb2⟩;replace HO:Hid (OwnB w2 u.heap.size vT):=(by first|exact HO.out.call hb2|exact HO.out.drew.call hb2);replace HB:Hid (Below u.heap.size u w2):=(by first|exact q02 HB.out hb2|exact q02 HB.out.drew hb2);clear hb2))
 go_upto_region 3 with fail
 obtain ⟨w3,hw3⟩:∃ w3,w2.alloc (.cells (thE tr) 135)=w3:=⟨_,rfl⟩
 have HE3:Hid (OwnB w3 w2.heap.size (thE tr)):=by rw[<-hw3];exact OwnB.new w2 _ _
 have HO3:Hid (OwnB w3 u.heap.size vT):=by rw[<-hw3];exact HO.out.call (q01 _ _)
 have HB3:Hid (Below u.heap.size u w3):=by rw[<-hw3];exact q02 HB.out (q01 _ _)
 have HL:Hid (u.heap.size<=w2.heap.size):=HB.out.size
 rw[hw3] at *
 clear hw3 HO HB
 generalize w2.heap.size=E at *
 obtain ⟨b0,b1,b2,b3,b4⟩:=own5 HO3.out
 go_wp2_with fail
 refine (HD.out _ HB3.out).mono ?_
 rintro e w4 ⟨rfl,hb4⟩
 have HE4:Hid (OwnB w4 E (thE tr)):=HE3.out.call hb4
 have HB4:Hid (Below u.heap.size u w4):=q02 HB3.out hb4
 clear hb4 b0 b1 b2 b3 b4
 go_wp2_with fail
 refine (HR.out _ HB4.out).mono ?_
 rintro e w5 ⟨rfl,d5,hs5,e5⟩
 have hn4:¬stB X d E:=fun c=>by
  have h1:=HS.out.lt c
  have h2:=HL.out
  omega
 have HE5:Hid (BxO X d5 w5 E (thE tr)):=⟨hs5.g.ownB HE4.out hn4,fun c=>hn4 (hs5.mv E HE4.out.1.1 c)⟩
 have HT5:Hid (Sp X d u d5 w5/\d5.p=d.p.rcd ⟨4,0,X.fn,ln,sEc dg⟩):=⟨(Sp.below HS.out HB4.out).trans hs5,e5⟩
 clear hs5 e5 hn4
 go_wp2_with fail
 go_ret
 exact ⟨E,d5,rfl,HL.out,HE5.out,HT5.out.1,HT5.out.2⟩
end Go.Proofs.YtaimofjekgnieaaGreatDoor
namespace Go.Proofs.YtaimofjekgnieaaGreatDoor
open Go.RowKit
theorem Sp.past {X:RX} {d d':MD} {u w w':World} (h0:St X d u) (h:Sp X d u d' w) (hs:∀ k,stB X d' k->k<u.heap.size) (hb:Below u.heap.size w w'):Sp X d u d' w':=by
 have hx:=h.s.x
 have hk:∀ k,k<u.heap.size->w'.heap[k]?=w.heap[k]?:=hb.block
 have ho:∀ {B:Nat} {A:Array Value},OwnB w B A->B<u.heap.size->OwnB w' B A:=fun hh hB=>hh.block hb.size (hk _ hB)
 have hrw:∀ {N K n c m:Nat} {t:TypeId} {xs:List Value} {a:Option Addr},w.ownsRow N t K (.slice a m c) n xs->(∀ g,bkOf a=some g->g<u.heap.size)->w'.ownsRow N t K (.slice a m c) n xs:=fun hh hg=>q14 hh fun q e=>hk q (hg q ((q08 _ _ _).symm.trans e))
 have hWs:X.W.heap.size<=u.heap.size:=h0.k.size
 refine ⟨⟨hx,ho h.s.m (hs _ (.inl rfl)),ho h.s.t (hs _ (.inr (.inl rfl))),ho h.s.f (hs _ (.inr (.inr (.inl rfl)))),ho h.s.v (hs _ (.inr (.inr (.inr (.inl rfl))))),hrw h.s.fw fun g e=>hs g (.inr (.inr (.inr (.inr (.inr (.inr (.inr e))))))),hrw h.s.rr fun g e=>hs g (.inr (.inr (.inr (.inr (.inl e))))),hrw h.s.hr fun g e=>hs g (.inr (.inr (.inr (.inr (.inr (.inl e)))))),hrw h.s.sr fun g e=>hs g (.inr (.inr (.inr (.inr (.inr (.inr (.inl e))))))),?_,Nat.le_trans h.s.n hb.size,h.s.nv,h.s.ty.keep (fun k e=>hk k (hs k (by
  rcases e with e|e|e|e
  ·exact .inl e
  ·exact .inr (.inl e)
  ·exact .inr (.inr (.inl e))
  ·exact .inr (.inr (.inr (.inl e)))))),h.s.r0⟩,?_,h.mv⟩
 ·exact ⟨hb.os.trans h.s.k.os,hb.tape.trans h.s.k.tape,hb.output.trans h.s.k.output,Nat.le_trans h.s.k.size hb.size,fun k hk' hn=>(hk k (by omega)).trans (h.s.k.block k hk' hn)⟩
 ·exact ⟨hb.os.trans h.g.os,hb.tape.trans h.g.tape,hb.output.trans h.g.output,Nat.le_trans h.g.size hb.size,fun k hk' hn=>(hk k hk').trans (h.g.block k hk' hn)⟩
theorem NT.past {X:RX} {d:MD} {u:World} {K B t1 c1 t2 c2:Nat} {w w':World} (h0:St X d u) (h:NT X d u K B t1 c1 t2 c2 w) (hb:Below u.heap.size w w'):Sp X d u {d with tab:=.slice (some ⟨t1,0,none⟩) 1 c1,liv:=.slice (some ⟨t2,0,none⟩) 1 c2} w':=
 Sp.past h0 h.s (fun _ e=>h0.lt e) hb
end Go.Proofs.YtaimofjekgnieaaGreatDoor
