import Derived.Test.YtihnikeikhjndaaGreatDoorGives
import Derived.Test.YtihnikeikhjndaaGreatDoorJnA
import Derived.Test.YtihnikeikhjndaaGreatDoorPutE
set_option maxRecDepth 100000
set_option maxHeartbeats 16000000
namespace Go.Proofs.YtihnikeikhjndaaGreatDoor
section
open Go.RowKit
attribute [local go_sem] aN
attribute [local go_sem ↓] Go.wp_at_zero Go.wp_at_succ
theorem OwnB.call{u w:World}{B:Nat}{A:Array Value}(h:OwnB u B A)(hb:ah u w):OwnB w B A:=h.block hb.size (hb.block _ h.1.1)
theorem OwnB.drew{u:World}{B:Nat}{A:Array Value}(h:OwnB u B A):OwnB u.drew B A:=h.call (Below.refl _ _).drew
theorem q35(v:World)(o:Obj)(A:Array Value)(t:TypeId):OwnB ((v.alloc o).alloc (.cells A t)) (v.heap.size+1) A:=by
 have h:=OwnB.new (v.alloc o) A t;rw[World.size_alloc] at h;exact h
theorem y52(v:World)(o:Obj):(v.alloc o).heap[v.heap.size]?=some o:=by
 show(v.heap.push o)[v.heap.size]?=some o;exact Array.getElem?_push_size
theorem Hw(s:ByteArray)(w:World):Calls Tryz.prog 51 #[.string s] w fun e w'=>e=.returned (dI 4 0 0 s 0)/\ah w w':=by
 go_in;go_wp2_with fail;refine(zk5 s _).mono ?_;rintro e w1 ⟨rfl,hb⟩;have hO:=(OwnB.new w #[.int .i64 0,.int .i64 0,.float .f64 0,.string ⟨#[]⟩,.int .i64 0] 53).call hb;have r0:=hO.1.cell 0 rfl;have r1:=hO.1.cell 1 rfl;have r2:=hO.1.cell 2 rfl;have r3:=hO.1.cell 3 rfl;have r4:=hO.1.cell 4 rfl;have rz:=hO.2;have HB:Hid (ah w w1):=aH (q01 _ _) hb;clear hb hO;go_wp2_with fail;exact bodyPost_ret (v:=dI 4 0 0 s 0) (by simp[results,Tryz.results51,go_sem,r0,r1,r2,r3,r4]) rfl ⟨rfl,lU HB.out (Nat.le_refl _) _ _ _ _ _⟩
theorem X9(n:Int)(w:World):Calls Tryz.prog 265 #[.int .i64 n] w fun e w'=>e=.returned (dI 2 n 0 ⟨#[]⟩ 0)/\ah w w':=by
 go_in;go_wp2_with fail;refine(WS n _).mono ?_;rintro e w1 ⟨rfl,hb⟩;have hO:=(OwnB.new w #[.int .i64 0,.int .i64 0,.float .f64 0,.string ⟨#[]⟩,.int .i64 0] 53).call hb;have r0:=hO.1.cell 0 rfl;have r1:=hO.1.cell 1 rfl;have r2:=hO.1.cell 2 rfl;have r3:=hO.1.cell 3 rfl;have r4:=hO.1.cell 4 rfl;have rz:=hO.2;have HB:Hid (ah w w1):=aH (q01 _ _) hb;clear hb hO;go_wp2_with fail;exact bodyPost_ret (v:=dI 2 n 0 ⟨#[]⟩ 0) (by simp[results,Tryz.results265,go_sem,r0,r1,r2,r3,r4]) rfl ⟨rfl,lU HB.out (Nat.le_refl _) _ _ _ _ _⟩
theorem z66(w:World):(Instr.makeMap 241 none).run Tryz.prog w=.ok (.map (some w.heap.size)) (w.alloc (.map #[] 0)):=by
 simp[Instr.makeMap,newObj,Sem.run,Result.andThen]
theorem VT:(Tryz.prog.info? 188).map (fun i=>(i.zero,i.size,i.bytes))=some (some (.pointer none),1,8):=by kernel_rfl
theorem Sp.tab{X:RX}{d:MD}{u:World}(h:St X d u)(v:Value):Sp X d u {d with tab:=v} (u.setCell ⟨X.M,16,none⟩ v):=by
 have hx:=h.ty;exact h.put v (.inl rfl) (h.m.set (o:=16) (by show 16<27;omega) v) (fH h.t hx.tm) (fH h.f hx.fm) (fH h.v hx.vm) h.rr h.hr h.sr h.fw h.r0 (fun _ _ e=>e) rfl
theorem Sp.gq{X:RX}{d:MD}{u:World}(h:St X d u)(v:Value):Sp X d u {d with gq:=v} (u.setCell ⟨X.M,19,none⟩ v):=by
 have hx:=h.ty;exact h.put v (.inl rfl) (h.m.set (o:=19) (by show 19<27;omega) v) (fH h.t hx.tm) (fH h.f hx.fm) (fH h.v hx.vm) h.rr h.hr h.sr h.fw h.r0 (fun _ _ e=>e) rfl
abbrev OD(B:Nat):Array Value:=#[.slice none 0 0,.map (some B),.int .i64 0,.int .i64 0,.pointer none,.bool false,.int .i64 0]
theorem app1{w0:World}(p:Value){t e:TypeId}(hp:p.oneCell'=true)(ht:Tryz.prog.underlying t=some (.slice e))(hi:(Tryz.prog.info? e).map (fun i=>(i.zero,i.size,i.bytes))=some (some (.pointer none),1,8)):∃g cap w',(Builtin.append_ #[t,t] t #[.slice none 0 0,.slice (some ⟨w0.heap.size,0,none⟩) 1 1]).run Tryz.prog (w0.alloc (.cells #[p] e))=.ok (.slice (some ⟨g,0,none⟩) 1 cap) w'/\w0.heap.size<g/\g<w'.heap.size/\w'.cell? ⟨g,0,none⟩=some p/\ah w0 w':=by
 obtain⟨i0,hi0,hy0,hy1,hy2⟩:=info_parts hi;obtain⟨v',w7,happ,hown,hgrow,_,hat⟩:=run_append_own_at (P:=Tryz.prog) (w0.alloc (.cells #[p] e)) 0 t t e i0 _ 1 8 ht hi0 hy0 hy1 hy2 rfl (by decide) (.slice none 0 0) 0 [] (World.ownsRow_nil _ _ _ _) ⟨w0.heap.size,0,none⟩ 1 1 [p] rfl (cell_one_new _ _ _) (by simpa using hp) (by unfold maxLen;omega) (by omega) (Nat.zero_le _);rcases hown.2 with⟨_,d⟩|⟨g,cap,cur,e1,hb,hg,h2,h3,h4,h5⟩
 ·omega
 ·subst e1;refine⟨g,cap,w7,happ,?_,(Array.getElem?_eq_some_iff.1 hg).1,?_,(q01 w0 _).grown hgrow (by simp) (fun k e=>by cases e)⟩
  ·rcases hat with e|e
   ·cases e
   ·have:=Option.some.inj e;simp at this;omega
  ·have hc:=hown.cells (g:=g) rfl 0 p rfl;simpa[Addr.add] using hc
structure NT(X:RX)(d:MD)(u:World)(K B t1 c1 t2 c2:Nat)(w':World):Prop where
 s:Sp X d u {d with tab:=.slice (some ⟨t1,0,none⟩) 1 c1,gq:=.slice (some ⟨t2,0,none⟩) 1 c2} w'
 k:OwnB w' K (OD B)
 kn:u.heap.size<=K
 b:w'.heap[B]?=some (.map #[] 0)
 bn:u.heap.size<=B
 t:w'.cell? ⟨t1,0,none⟩=some (ptr K)
 tn:u.heap.size<=t1
 tl:t1<w'.heap.size
theorem qu9(X:RX)(d:MD)(u:World)(h:St X d u)(ht:d.tab=.slice none 0 0)(hl:d.gq=.slice none 0 0):Calls Tryz.prog 263 #[ptr X.M] u fun e w'=>∃K B t1 c1 t2 c2,e=.returned (ptr K)/\NT X d u K B t1 c1 t2 c2 w':=by
 have HS:Hid (St X d u):=h;have m16:u.cell? ⟨X.M,16,none⟩=some (.slice none 0 0):=by rw[<-ht];exact h.m.1.cell 16 rfl
 have kU:=h.m.1.1;have hmk:=z66;clear h;go_in
 go_upto_region 2 with fail
 obtain⟨w1,hw1⟩:∃w1,(u.alloc (.map #[] 0)).alloc (.cells (OD u.heap.size) 245)=w1:=⟨_,rfl⟩;have H1:Hid (St X d w1/\ah u w1/\OwnB w1 (u.heap.size+1) (OD u.heap.size)/\w1.heap[u.heap.size]?=some (.map #[] 0)):=by
  rw[<-hw1];refine⟨(HS.alloc _).alloc _,iy _ _ _,q35 _ _ _ _,?_⟩;rw[Below.heap_alloc _ _ _ (by simp)];exact y52 u _
 rw[hw1];clear hw1 m16;obtain⟨K,hK⟩:∃K,u.heap.size+1=K:=⟨_,rfl⟩;rw[hK] at H1;rw[hK];have HK:Hid (u.heap.size+1=K):=hK;clear hK;obtain⟨ta,hta⟩:∃ta:Option Addr,Hid (ta=none):=⟨_,rfl⟩;obtain⟨tn,htn⟩:∃tn:Nat,Hid (tn=0):=⟨_,rfl⟩;obtain⟨tc,htc⟩:∃tc:Nat,Hid (tc=0):=⟨_,rfl⟩;have wV:Hid (Value.slice none 0 0=.slice ta tn tc):=by rw[hta.out,htn.out,htc.out];exact rfl
 obtain⟨t1,c1,w2,happ,hg1,hg2,hg3,hb2⟩:=app1 (w0:=w1) (ptr K) rfl Tryz.underlying61 VT;have hS2:St X d w2:=H1.1.call hb2;have m16:w1.cell? ⟨X.M,16,none⟩=some (.slice none 0 0):=by rw[<-ht];exact H1.1.m.1.cell 16 rfl
 have I9:w2.cell? ⟨X.M,16,none⟩=some (.slice none 0 0):=by rw[<-ht];exact hS2.m.1.cell 16 rfl
 have Qc:=hS2.m.2;have hM1:=H1.1.m.1.1;have hM2:=hS2.m.1.1;have H2:Hid (St X d w2/\ah w1 w2/\w1.heap.size<t1/\t1<w2.heap.size/\w2.cell? ⟨t1,0,none⟩=some (ptr K)):=⟨hS2,hb2,hg1,hg2,hg3⟩;rw[wV.out] at happ m16 I9;clear hS2 hb2 hg1 hg2 hg3 kU hmk
 go_upto_region 3 with(at_builtin;refine q32 (by rfl) _ _ _ _ (by rfl) (.slice ta tn tc) (.slice (some ⟨w1.heap.size,0,none⟩) 1 1) _ _ (by rfl) (by rfl) happ ?_)
 obtain⟨w3,hw3⟩:∃w3,w2.setCell ⟨X.M,16,none⟩ (.slice (some ⟨t1,0,none⟩) 1 c1)=w3:=⟨_,rfl⟩;obtain⟨d3,hd3⟩:∃d3:MD,d3={d with tab:=.slice (some ⟨t1,0,none⟩) 1 c1}:=⟨_,rfl⟩;have H3:Hid (Sp X d u d3 w3/\Gx (fun k=>k=X.M) w2 w3):=by
  rw[<-hw3,hd3];exact⟨((Sp.below HS H1.2.1).trans (Sp.below H1.1 H2.2.1)).trans (Sp.tab H2.1 _),Gx.set _ _ _ _⟩
 rw[hw3];clear hw3 happ m16 I9 Qc hM1 hM2;have hl3:d3.gq=.slice none 0 0:=by rw[hd3];exact hl
 obtain⟨t2,c2,w4,happ,hg1,hg2,hg3,hb4⟩:=app1 (w0:=w3) (ptr K) rfl Tryz.underlying61 VT;have hS4:St X d3 w4:=H3.1.s.call hb4;have m19:w3.cell? ⟨X.M,19,none⟩=some (.slice none 0 0):=by rw[<-hl3];exact H3.1.s.m.1.cell 19 rfl
 have Qd:w4.cell? ⟨X.M,19,none⟩=some (.slice none 0 0):=by rw[<-hl3];exact hS4.m.1.cell 19 rfl
 have Qc:=hS4.m.2;have hM1:=H3.1.s.m.1.1;have hM2:=hS4.m.1.1;have H4:Hid (Sp X d u d3 w4/\ah w3 w4):=⟨H3.1.call hb4,hb4⟩;rw[wV.out] at happ m19 Qd;clear hS4 hb4 hg1 hg2 hg3;go_wp2_with (at_builtin;refine q32 (by rfl) _ _ _ _ (by rfl) (.slice ta tn tc) (.slice (some ⟨w3.heap.size,0,none⟩) 1 1) _ _ (by rfl) (by rfl) happ ?_);have hS:=HS.out;have kU:=hS.m.1.1;have hk:=HK.out;obtain⟨a1,a2,a3,a4⟩:=H1.out;obtain⟨b1,b2,b3,b4,b5⟩:=H2.out;obtain⟨q1,q2⟩:=H3.out;obtain⟨e1,e2⟩:=H4.out;have s1:=a2.size;have s2:=b2.size;have s3:=q2.size;have s4:=e2.size;have hKl:=a3.1.1;have g:Gx (fun k=>k=X.M) w1 (w4.setCell ⟨X.M,19,none⟩ (.slice (some ⟨t2,0,none⟩) 1 c2)):=(((Gx.below (fun k=>k=X.M) b2).trans q2 (fun _ _ e=>e)).trans (Gx.below (fun k=>k=X.M) e2) (fun _ _ e=>e)).trans (Gx.set w4 X.M 19 _) (fun _ _ e=>e);have g2:Gx (fun k=>k=X.M) w2 (w4.setCell ⟨X.M,19,none⟩ (.slice (some ⟨t2,0,none⟩) 1 c2)):=(q2.trans (Gx.below (fun k=>k=X.M) e2) (fun _ _ e=>e)).trans (Gx.set w4 X.M 19 _) (fun _ _ e=>e);have hB:u.heap.size<w1.heap.size:=(Array.getElem?_eq_some_iff.1 a4).1;refine bodyPost_ret (v:=ptr K) (by simp[results,Tryz.results263,go_sem]) rfl ⟨K,u.heap.size,t1,c1,t2,c2,rfl,⟨?_,g.ownB a3 (by show K≠X.M;omega),by omega,?_,Nat.le_refl _,?_,by omega,by have:=g2.size;omega⟩⟩
 ·have h5:=e1.trans (Sp.gq e1.s (.slice (some ⟨t2,0,none⟩) 1 c2));rw[hd3] at h5;exact h5
 ·rw[g.block u.heap.size hB (by show u.heap.size≠X.M;omega)];exact a4
 ·exact(World.cell?_of_block (a:=⟨t1,0,none⟩) (g2.block t1 b4 (by show t1≠X.M;omega))).trans b5
abbrev kC:VD:=⟨4,0,0,⟨#[99,111,100,101]⟩,0⟩
abbrev kL:VD:=⟨4,0,0,⟨#[108,105,110,101]⟩,0⟩
abbrev nI(n:Int):VD:=⟨2,n,0,⟨#[]⟩,0⟩
def q0:Nat->PD:=fun _=>pz
def q1(c:Int):Nat->PD:=xH q0 0 ⟨kC,nI c,0+1⟩
def q2(c l:Int):Nat->PD:=xH (q1 c) 1 ⟨kL,nI l,0+1 + 1⟩
theorem V9:mk kC≠mk kL:=by
 intro e;have:=congrArg (fun m:Mk=>m.2.2.2.1.data) e;simp[mk] at this
theorem NT.xo{X:RX}{d:MD}{u:World}{K B t1 c1 t2 c2:Nat}{w':World}(h:NT X d u K B t1 c1 t2 c2 w'):XO u.heap.size w' K none 0 0 B 0 q0 []:=
 ⟨h.kn,h.k.1.1,h.k.1.cell 0 rfl,h.k.1.cell 1 rfl,h.k.1.cell 2 rfl,h.k.2,World.ownsRow_nil _ _ _ _,⟨#[],0,h.b,rfl⟩,h.bn,fun _ _ _ e=>by cases e⟩
theorem TN{B:Nat}{L:List (Mk×Nat)}{y:VD}(hi:idx L (mk y)=none)(u:World)(h:dF u B L):(Instr.lookup 241 (.map (some B)) (mkV (mk y)) true).run Tryz.prog u=.ok (.tuple #[.int .i64 0,.bool false]) u:=by
 have:=VY Tryz.underlying241 Oi h (mk y) (Tryz.zeroValue3 _);rw[hi] at this;exact this
theorem I7{N K B:Nat}{w:World}(c:Int)(hN:N<=w.heap.size)(h:XO N w K none 0 0 B 0 q0 []):Calls Tryz.prog 264 #[.pointer (some ⟨K,0,none⟩),kC.v,(nI c).v] w fun e w'=>e=.returned (.tuple #[])/\(∃a' cap',XO N w' K a' 1 cap' B (0+1) (q1 c) (places (q1 c) 1)/\FZ w none a')/\Below N w w'/\(∀o,3<=o->w'.cell? ⟨K,o,none⟩=w.cell? ⟨K,o,none⟩)/\vI w w' K B none:=by
 refine(Us N K none 0 0 B 0 q0 [] kC (nI c) w hN (by omega) (by omega) (TN rfl) h).mono ?_;rintro e w' ⟨rfl,h1,hb,ho⟩;rw[if_neg (by show ¬((2:Int)=0\/¬(0<500/\(0:Int)<1000000000000));omega)] at h1;exact⟨rfl,h1,hb,ho⟩
theorem I5{N K B:Nat}{w:World}{a:Option Addr}{cap:Nat}(c l:Int)(hN:N<=w.heap.size)(h:XO N w K a 1 cap B (0+1) (q1 c) (places (q1 c) 1)):Calls Tryz.prog 264 #[.pointer (some ⟨K,0,none⟩),kL.v,(nI l).v] w fun e w'=>e=.returned (.tuple #[])/\(∃a' cap',XO N w' K a' 2 cap' B (0+1 + 1) (q2 c l) (places (q2 c l) 2)/\FZ w a a')/\Below N w w'/\(∀o,3<=o->w'.cell? ⟨K,o,none⟩=w.cell? ⟨K,o,none⟩)/\vI w w' K B (Value.slice a 1 cap).ownBlock:=by
 have hi:idx (places (q1 c) 1) (mk kL)=none:=by
  show(if mk kL=mk kC then _ else _)=none;rw[if_neg fun e=>V9 e.symm];rfl
 refine(Us N K a 1 cap B (0+1) (q1 c) _ kL (nI l) w hN (by omega) (by omega) (TN hi) h).mono ?_;rintro e w' ⟨rfl,h1,hb,ho⟩;rw[if_neg (by show ¬((2:Int)=0\/¬(1<500/\(0+1:Int)<1000000000000));omega)] at h1;exact⟨rfl,h1,hb,ho⟩
theorem yc2(c l:Int):KL 2 (0+1 + 1) (q2 c l):=by
 have e1:fz 0=true:=rfl;have e2:se ⟨#[]⟩=true:=by first|kernel_rfl|simp[se]|decide
 have e3:(⟨#[99,111,100,101]⟩:ByteArray).size=4:=rfl;have e4:(⟨#[108,105,110,101]⟩:ByteArray).size=4:=rfl;refine⟨by omega,by omega,by omega,fun i hi=>?_,fun i j hj hi=>?_⟩
 ·rcases(show i=0\/i=1 by omega) with rfl|rfl
  ·simp[NU,q2,q1,xH,Dv,Ql,kc,kv,VD.ok,okB,fU,iG,e1,e2,e3,Oh]
  ·simp[NU,q2,q1,xH,Dv,Ql,kc,kv,VD.ok,okB,fU,iG,e1,e2,e4,Oh]
 ·obtain⟨rfl,rfl⟩:i=1/\j=0:=by omega
  exact V9
theorem QY(c l:Int):(gt (q2 c l) (mk kC) 2).val=nI c:=by
 have h1:nK (q2 c l) (mk kC) 2=some 0:=by
  have h2:nK (q2 c l) (mk kC) 1=some 0:=by
   show(if mk kC=mk kC then some 0 else none)=some 0;rw[if_pos rfl]
  rw[nK,h2]
 rw[gt,h1];rfl
theorem Rf{N K B:Nat}{w:World}{a:Option Addr}{cap:Nat}(c l:Int)(h:XO N w K a 2 cap B (0+1 + 1) (q2 c l) (places (q2 c l) 2)):Calls Tryz.prog 155 #[.pointer (some ⟨K,0,none⟩),kC.v] w fun e w'=>e=.returned (nI c).v/\ah w w':=by
 refine(Zl K a 2 cap B (0+1 + 1) (q2 c l) kC w (yc2 c l) ⟨h.lt,h.c0,h.c1,h.c2,yd7 h.own,h.map⟩).mono ?_;rintro e w' ⟨rfl,hb⟩;exact⟨by rw[QY],hb⟩
theorem zk6(k r:Int)(w:World):Calls Tryz.prog 312 #[.agg #[.int .i64 k,.int .i64 r]] w fun e w'=>e=.returned (dI k 0 0 ⟨#[]⟩ r)/\ah w w':=by
 go_in;go_wp2_with fail;refine bodyPost_ret (v:=dI k 0 0 ⟨#[]⟩ r) (by simp[results,Tryz.results312,go_sem]) rfl ⟨rfl,?_⟩
 with_reducible exact iy _ _ _
theorem z45(K:Nat)(r:Int)(w:World)(hK:K<w.heap.size)(h:w.cell? ⟨K,3,none⟩=some (.int .i64 r)):Calls Tryz.prog 266 #[ptr K] w fun e w'=>e=.returned (dI 5 0 0 ⟨#[]⟩ r)/\ah w w':=by
 go_in;go_wp2_with fail;refine(zk6 5 r _).mono ?_;rintro e w1 ⟨rfl,hb⟩;have hO:=(OwnB.new w #[.int .i64 0,.int .i64 0,.float .f64 0,.string ⟨#[]⟩,.int .i64 0] 53).call hb;have r0:=hO.1.cell 0 rfl;have r1:=hO.1.cell 1 rfl;have r2:=hO.1.cell 2 rfl;have r3:=hO.1.cell 3 rfl;have r4:=hO.1.cell 4 rfl;have rz:=hO.2;have HB:Hid (ah w w1):=aH (q01 _ _) hb;clear hb hO h hK;go_wp2_with fail;exact bodyPost_ret (v:=dI 5 0 0 ⟨#[]⟩ r) (by simp[results,Tryz.results266,go_sem,r0,r1,r2,r3,r4]) rfl ⟨rfl,lU HB.out (Nat.le_refl _) _ _ _ _ _⟩
abbrev qP(g:UInt8):ByteArray:=⟨#[101,114,114,111,114,32,g]⟩
structure EX(w:World)(K:Nat)(c l:Int):Prop where
 x:∃N a cap B,XO N w K a 2 cap B (0+1 + 1) (q2 c l) (places (q2 c l) 2)
theorem EX.get{w:World}{K:Nat}{c l:Int}(h:EX w K c l):Calls Tryz.prog 155 #[.pointer (some ⟨K,0,none⟩),kC.v] w fun e w'=>e=.returned (nI c).v/\ah w w':=by
 obtain⟨N,a,cap,B,h⟩:=h.x;exact Rf c l h
theorem z91(K:Nat)(c l:Int)(w:World)(h:∀w',ah w w'->EX w' K c l):Calls Tryz.prog 96 #[ptr K,.string ⟨#[99,111,100,101]⟩] w fun e w'=>e=.returned (nI c).v/\ah w w':=by
 have HE:Hid (∀w',ah w w'->EX w' K c l):=h;clear h;go_in
 go_upto_region 1 with fail
 obtain⟨w0,hw0⟩:∃w0,w.alloc (.cells #[.int .i64 0,.int .i64 0,.float .f64 0,.string ⟨#[]⟩,.int .i64 0] 53)=w0:=⟨_,rfl⟩;have HO:Hid (OwnB w0 w.heap.size #[.int .i64 0,.int .i64 0,.float .f64 0,.string ⟨#[]⟩,.int .i64 0]):=by rw[<-hw0];exact OwnB.new w _ _
 have HB:Hid (ah w w0):=by rw[<-hw0];exact q01 _ _
 rw[hw0];clear hw0
 go_region_with (first|(go_at_call 51;refine(Hw _ _).mono ?_;rintro e w1 ⟨rfl,hb1⟩;replace HO:Hid (OwnB w1 w.heap.size #[.int .i64 0,.int .i64 0,.float .f64 0,.string ⟨#[]⟩,.int .i64 0]):=(by first|exact HO.call hb1|exact HO.drew.call hb1);replace HB:Hid (ah w w1):=(by first|exact aH HB.out hb1|exact aH HB.drew hb1);clear hb1)|(go_at_call 155;refine(HE _ HB).get.mono ?_;rintro e w2 ⟨rfl,hb2⟩;replace HO:Hid (OwnB w2 w.heap.size #[.int .i64 0,.int .i64 0,.float .f64 0,.string ⟨#[]⟩,.int .i64 0]):=(by first|exact HO.call hb2|exact HO.drew.call hb2);replace HB:Hid (ah w w2):=(by first|exact aH HB.out hb2|exact aH HB.drew hb2);clear hb2;have r0:=HO.1.cell 0 rfl;have r1:=HO.1.cell 1 rfl;have r2:=HO.1.cell 2 rfl;have r3:=HO.1.cell 3 rfl;have r4:=HO.1.cell 4 rfl;have rz:=HO.2))
 all_goals go_wp2_with fail
 all_goals exact bodyPost_ret (v:=(nI c).v) (by simp[results,Tryz.results96,go_sem,r0,r1,r2,r3,r4]) rfl ⟨rfl,lU HB.out (Nat.le_refl _) _ _ _ _ _⟩
theorem qz6(X:RX)(d:MD)(u:World)(h:St X d u)(t1 c1 K:Nat)(ht:d.tab=.slice (some ⟨t1,0,none⟩) 1 c1)(hl:t1<u.heap.size)(hc:u.cell? ⟨t1,0,none⟩=some (ptr K)):Calls Tryz.prog 95 #[ptr X.M,dI 5 0 0 ⟨#[]⟩ 0] u fun e w'=>e=.returned (ptr K)/\ah u w':=by
 have m16:u.cell? ⟨X.M,16,none⟩=some (.slice (some ⟨t1,0,none⟩) 1 c1):=by rw[<-ht];exact h.m.1.cell 16 rfl
 have kU:=h.m.1.1;clear h ht;go_in;go_wp2_with fail
 go_region_with fail
 all_goals go_wp2_with fail
 all_goals go_ret
 all_goals exact⟨rfl,(q01 _ _).drew⟩
theorem Wx(X:RX)(cd:Int)(dg:UInt8)(hcd:bA (bI cd)=⟨#[dg]⟩/\dU cd)(d:MD)(u:World)(h:St X d u)(t1 c1 K:Nat)(l:Int)(ht:d.tab=.slice (some ⟨t1,0,none⟩) 1 c1)(hl:t1<u.heap.size)(hc:u.cell? ⟨t1,0,none⟩=some (ptr K))(hE:∀w',ah u w'->EX w' K cd l)(hT:jV X):Calls Tryz.prog 56 #[ptr X.M,dI 5 0 0 ⟨#[]⟩ 0] u fun e w'=>e=.returned (.string (qP dg))/\ah u w':=by
 have HT:Hid (∀w1,ah u w1->Calls Tryz.prog 95 #[ptr X.M,dI 5 0 0 ⟨#[]⟩ 0] w1 fun e w'=>e=.returned (ptr K)/\ah w1 w'):=fun w1 hb=>qz6 X d w1 (h.call hb) t1 c1 K ht (Nat.lt_of_lt_of_le hl hb.size) ((hb.cell (p:=⟨t1,0,none⟩) hl).trans hc);have HG:Hid (∀w1,ah u w1->Calls Tryz.prog 96 #[ptr K,.string ⟨#[99,111,100,101]⟩] w1 fun e w'=>e=.returned (nI cd).v/\ah w1 w'):=fun w1 hb=>z91 K cd l w1 fun w2 hb2=>hE w2 (aH hb hb2);have HX:Hid (∀w1:World,ah u w1->Calls Tryz.prog 58 #[dI 2 cd 0 ⟨#[]⟩ 0] w1 fun e w'=>e=.returned (.string ⟨#[dg]⟩)/\ah w1 w'):=fun w1 hb=>(Wv cd w1 hcd.2 (hT _ (h.call hb).k)).mono fun e w' h=>⟨by rw[h.1,hcd.1],h.2⟩;clear h hE ht hl hc hT hcd;go_in;go_wp2_with fail;refine(HT _ (q01 _ _)).mono ?_;rintro e w1 ⟨rfl,hb1⟩;have HB:Hid (ah u w1):=aH (q01 _ _) hb1;clear hb1;go_wp2_with fail;refine(HG _ HB).mono ?_;rintro e w2 ⟨rfl,hb2⟩;replace HB:Hid (ah u w2):=aH HB.out hb2;clear hb2;go_wp2_with fail;refine(HX _ (aH HB (q01 _ _))).mono ?_;rintro e w3 ⟨rfl,hb3⟩;have HB3:Hid (ah u w3):=aH (aH HB.out (q01 _ _)) hb3;clear hb3;go_wp2_with fail;go_ret;exact⟨rfl,HB3⟩
theorem oq{w:World}{B:Nat}{a b c d e:Value}(h:OwnB w B #[a,b,c,d,e]):w.cell? ⟨B,0,none⟩=some a/\w.cell? ⟨B,1,none⟩=some b/\w.cell? ⟨B,2,none⟩=some c/\w.cell? ⟨B,3,none⟩=some d/\w.cell? ⟨B,4,none⟩=some e:=
 ⟨h.1.cell 0 rfl,h.1.cell 1 rfl,h.1.cell 2 rfl,h.1.cell 3 rfl,h.1.cell 4 rfl⟩
abbrev vT:Array Value:=#[.int .i64 5,.int .i64 0,.float .f64 0,.string ⟨#[]⟩,.int .i64 0]
abbrev CW(tr:ByteArray):Array Value:=#[.int .i64 5,.int .i64 0,.float .f64 0,.string ⟨#[]⟩,.int .i64 0,.string tr]
theorem zb2(X:RX)(cd:Int)(dg:UInt8)(hcd:bA (bI cd)=⟨#[dg]⟩/\dU cd)(tr:ByteArray)(d:MD)(u:World)(h:St X d u)(t1 c1 K:Nat)(l:Int)(hn:d.recs.length<5000)(ht:d.tab=.slice (some ⟨t1,0,none⟩) 1 c1)(hl:t1<u.heap.size)(hc:u.cell? ⟨t1,0,none⟩=some (ptr K))(hE:∀w',ah u w'->EX w' K cd l)(hT:jV X)(hTr:∀w1,ah u w1->Calls Tryz.prog 236 #[ptr X.M] w1 fun e w'=>e=.returned (.string tr)/\ah w1 w'):Calls Tryz.prog 185 #[ptr X.M,dI 5 0 0 ⟨#[]⟩ 0] u fun e w'=>∃E d',e=.returned (ptr E)/\u.heap.size<=E/\fB X d' w' E (CW tr)/\Sp X d u d' w'/\d'.p=d.p.gU ⟨4,0,X.fn,d.line,qP dg⟩:=by
 have HS:Hid (St X d u):=h;have iF:Hid (∀w1,ah u w1->Calls Tryz.prog 236 #[ptr X.M] w1 fun e w'=>e=.returned (.string tr)/\ah w1 w'):=hTr;have HD:Hid (∀w1,ah u w1->Calls Tryz.prog 56 #[ptr X.M,dI 5 0 0 ⟨#[]⟩ 0] w1 fun e w'=>e=.returned (.string (qP dg))/\ah w1 w'):=fun w1 hb=>Wx X cd dg hcd d w1 (h.call hb) t1 c1 K l ht (Nat.lt_of_lt_of_le hl hb.size) ((hb.cell (p:=⟨t1,0,none⟩) hl).trans hc) (fun w2 hb2=>hE w2 (aH hb hb2)) hT;have HR:Hid (∀w1,ah u w1->Calls Tryz.prog 149 #[ptr X.M,.int .i64 4,.int .i64 X.fn,.int .i64 d.line,.string (qP dg)] w1 fun e w'=>e=.returned (.tuple #[])/\To X d w1 (d.p.gU ⟨4,0,X.fn,d.line,qP dg⟩) w'):=fun w1 hb=>Du X d 4 X.fn d.line (qP dg) w1 (h.call hb) hn;have HH:Hid (∀w1,ah u w1->Calls Tryz.prog 235 #[ptr X.T] w1 fun e w'=>e=.returned (.tuple #[.int .i64 X.fn,.int .i64 d.line])/\ah w1 w'):=fun w1 hb=>Ll X d w1 (h.call hb);have m23:u.cell? ⟨X.M,23,none⟩=some (ptr X.T):=h.m.1.cell 23 rfl;have kU:=h.m.1.1;clear h hn ht hl hc hE hT hTr hcd;generalize d.line=ln at *;go_in;go_wp2_with fail;refine(HH _ (q01 _ _)).mono ?_;rintro e w1 ⟨rfl,hb1⟩;have HO:Hid (OwnB w1 u.heap.size vT):=(OwnB.new u _ _).call hb1;have HB:Hid (ah u w1):=aH (q01 _ _) hb1;clear hb1 m23 kU
 go_upto_region 2 with fail
 go_region_held3 (fun w'=>w'.cell? ⟨u.heap.size,0,none⟩=some (.int .i64 5)/\w'.cell? ⟨u.heap.size,1,none⟩=some (.int .i64 0)/\w'.cell? ⟨u.heap.size,2,none⟩=some (.float .f64 0)/\w'.cell? ⟨u.heap.size,3,none⟩=some (.string ⟨#[]⟩)/\w'.cell? ⟨u.heap.size,4,none⟩=some (.int .i64 0)) (first|(with_reducible exact oq HO.out)|(with_reducible exact oq HO.out.drew)|(with_reducible exact oq (HO.out.call (q01 _ _)))) ((go_at_call 236;refine(iF.out _ (by first|exact HB.out|exact HB.out.drew)).mono ?_;rintro e w2 ⟨rfl,hb2⟩;replace HO:Hid (OwnB w2 u.heap.size vT):=(by first|exact HO.out.call hb2|exact HO.out.drew.call hb2);replace HB:Hid (ah u w2):=(by first|exact aH HB.out hb2|exact aH HB.out.drew hb2);clear hb2))
 go_upto_region 3 with fail
 obtain⟨w3,hw3⟩:∃w3,w2.alloc (.cells (CW tr) 134)=w3:=⟨_,rfl⟩;have SK:Hid (OwnB w3 w2.heap.size (CW tr)):=by rw[<-hw3];exact OwnB.new w2 _ _
 have Fq:Hid (OwnB w3 u.heap.size vT):=by rw[<-hw3];exact HO.call (q01 _ _)
 have HB3:Hid (ah u w3):=by rw[<-hw3];exact aH HB (q01 _ _)
 have HL:Hid (u.heap.size<=w2.heap.size):=HB.size;rw[hw3] at *;clear hw3 HO HB;generalize w2.heap.size=E at *;obtain⟨b0,b1,b2,b3,b4⟩:=oq Fq.out;go_wp2_with fail;refine(HD _ HB3).mono ?_;rintro e w4 ⟨rfl,hb4⟩;have JL:Hid (OwnB w4 E (CW tr)):=SK.call hb4;have HB4:Hid (ah u w4):=aH HB3.out hb4;clear hb4 b0 b1 b2 b3 b4;go_wp2_with fail;refine(HR _ HB4).mono ?_;rintro e w5 ⟨rfl,d5,hs5,e5⟩;have hn4:¬stB X d E:=fun c=>by
  have h1:=HS.lt c;have h2:=HL.out;omega
 have FH:Hid (fB X d5 w5 E (CW tr)):=⟨hs5.g.ownB JL.out hn4,fun c=>hn4 (hs5.mv E JL.1.1 c)⟩;have Jw:Hid (Sp X d u d5 w5/\d5.p=d.p.gU ⟨4,0,X.fn,ln,qP dg⟩):=⟨(Sp.below HS.out HB4.out).trans hs5,e5⟩;clear hs5 e5 hn4;go_wp2_with fail;go_ret;exact⟨E,d5,rfl,HL,FH,Jw.1,Jw.2⟩
end
section
open Go.RowKit
theorem Sp.past{X:RX}{d d':MD}{u w w':World}(h0:St X d u)(h:Sp X d u d' w)(hs:∀k,stB X d' k->k<u.heap.size)(hb:Below u.heap.size w w'):Sp X d u d' w':=by
 have hx:=h.s.x;have hk:∀k,k<u.heap.size->w'.heap[k]?=w.heap[k]?:=hb.block;have ho:∀{B:Nat} {A:Array Value},OwnB w B A->B<u.heap.size->OwnB w' B A:=fun hh hB=>hh.block hb.size (hk _ hB);have hrw:∀{N K n c m:Nat} {t:TypeId} {xs:List Value} {a:Option Addr},w.ownsRow N t K (.slice a m c) n xs->(∀g,aj a=some g->g<u.heap.size)->w'.ownsRow N t K (.slice a m c) n xs:=fun hh hg=>jS hh fun q e=>hk q (hg q ((dD _ _ _).symm.trans e));have hWs:X.W.heap.size<=u.heap.size:=h0.k.size;refine⟨⟨hx,ho h.s.m (hs _ (.inl rfl)),ho h.s.t (hs _ (.inr (.inl rfl))),ho h.s.f (hs _ (.inr (.inr (.inl rfl)))),ho h.s.v (hs _ (.inr (.inr (.inr (.inl rfl))))),hrw h.s.fw fun g e=>hs g (.inr (.inr (.inr (.inr (.inr (.inr (.inr (.inl e)))))))),hrw h.s.rr fun g e=>hs g (.inr (.inr (.inr (.inr (.inl e))))),hrw h.s.hr fun g e=>hs g (.inr (.inr (.inr (.inr (.inr (.inl e)))))),hrw h.s.sr fun g e=>hs g (.inr (.inr (.inr (.inr (.inr (.inr (.inl e))))))),?_,Nat.le_trans h.s.n hb.size,h.s.nv,h.s.ty.keep (fun k e=>hk k (hs k (by
  rcases e with e|e|e|e
  ·exact .inl e
  ·exact .inr (.inl e)
  ·exact .inr (.inr (.inl e))
  ·exact .inr (.inr (.inr (.inl e)))))),h.s.r0,h.s.tt.keep hb.size (fun k e=>hk k (hs k (stB.tb e))),h.s.ts⟩,?_,h.mv⟩
 ·exact⟨hb.os.trans h.s.k.os,hb.tape.trans h.s.k.tape,hb.output.trans h.s.k.output,Nat.le_trans h.s.k.size hb.size,fun k hk' hn=>(hk k (by omega)).trans (h.s.k.block k hk' hn)⟩
 ·exact⟨hb.os.trans h.g.os,hb.tape.trans h.g.tape,hb.output.trans h.g.output,Nat.le_trans h.g.size hb.size,fun k hk' hn=>(hk k hk').trans (h.g.block k hk' hn)⟩
theorem NT.past{X:RX}{d:MD}{u:World}{K B t1 c1 t2 c2:Nat}{w w':World}(h0:St X d u)(h:NT X d u K B t1 c1 t2 c2 w)(hb:Below u.heap.size w w'):Sp X d u {d with tab:=.slice (some ⟨t1,0,none⟩) 1 c1,gq:=.slice (some ⟨t2,0,none⟩) 1 c2} w':=
 Sp.past h0 h.s (fun _ e=>h0.lt e) hb
end
end Go.Proofs.YtihnikeikhjndaaGreatDoor
