import Derived.Test.YtaimofjekgnieaaGreatDoorGnK
import Derived.Recover
set_option maxRecDepth 100000
set_option maxHeartbeats 16000000
namespace Go.Proofs.YtaimofjekgnieaaGreatDoor
open Go.RowKit
attribute [local go_sem] q00
attribute [local go_sem ↓] Go.wp_at_zero Go.wp_at_succ
theorem z39 (p q r:Value) (w:World) :
  CallsD Tryz.prog 143 #[p,q,r] .returning w fun e u' w'=>e=.returned (.tuple #[])/\u'=.returning/\w'=w:=by
 refine callsD_of_wpS Tryz.func143 rfl fun c₀ cs hu=>?_
 apply wpS_seq
 apply wpS_region
 simp[wpOpsS,go_sem,recoverD,hu,Tryz.ntmps143,Exit.thenS]
 apply wpS_seq
 apply wpS_region
 simp[wpOpsS,go_sem,Exit.thenS,Act.eval,Array.replicate]
 refine wpS_cond (t:=false) (by simp[Act.eval]) ?_
 simp only[Bool.false_eq_true,if_false]
 refine wpS_of_wp (wp_skip ?_)
 cases c₀
 simp_all [bodyPostS,results,Tryz.results143]
theorem qf9 (fn:Fn) (first cap:Array Value) (w:World):(Instr.makeFunc fn first cap).run Tryz.prog w=.ok (.func fn first cap) w:=rfl
def qs8 (R:Value->MD->World->Prop):Prop:=∀ way d' w',R way d' w'->way=.nilIface\/∃ K,way=.iface 184 (ptr K)
def z47 (N:Nat) (R:Value->MD->World->Prop):Prop:=∀ way d' w w' B,R way d' w->Gx (fun k=>k=B) w w'->B<N->R way d' w'
abbrev opnV (x1 x2 x3:Nat):Value:=.func (.func 289) #[] #[ptr x1,ptr x2,ptr x3]
theorem z60 (X:RX) (d:MD) (x1 x2 x3:Nat) (R:Value->MD->World->Prop) (u:World) (h:St X d u) (hW:qs8 R) (hF:z47 (u.heap.size+3) R)
  (hrun:∀ w2,Sp X d u d w2->w2.heap.size=u.heap.size+3->Calls Tryz.prog 289 #[ptr x1,ptr x2,ptr x3] w2 fun e w'=>q11 X d w2 R e w') :
  Calls Tryz.prog 84 #[ptr X.T,opnV x1 x2 x3] u fun e w'=>q11 X d u R e w':=by
 have HS:Hid (St X d u):=h
 have HW:Hid (qs8 R):=hW
 have HF':Hid (z47 (u.heap.size+3) R):=hF
 have HRun:Hid (∀ w2,Sp X d u d w2->w2.heap.size=u.heap.size+3->Calls Tryz.prog 289 #[ptr x1,ptr x2,ptr x3] w2 fun e w'=>q11 X d w2 R e w'):=hrun
 have t8:=h.t.1.cell 8 rfl
 have hTl:=h.t.1.1
 clear h hW hF hrun
 have hmf:=qf9
 go_enter_defers Tryz.func84,Tryz.ntmps84
 go_wp2_with fail
 have HS3:Hid (Sp X d u d (((u.alloc (.cells #[ptr X.T] 68)).alloc (.cells #[.nilIface] 128)).alloc (.cells #[.int .i64 (d.held.length:Int)] 3))):=(((Sp.refl HS.out).alloc _).alloc _).alloc _
 refine (HRun.out _ HS3.out (by simp)).mono ?_
 rintro e w1 ⟨way,d1,rfl,hs1,hr1⟩
 have H1:Hid (Sp X d u d1 w1/\R way d1 w1):=⟨HS3.out.trans hs1,hr1⟩
 have HR:Hid (BxO X d1 w1 (u.heap.size+1) #[.nilIface]):=by
  have h2:=(BxO.new (HS.out.alloc (.cells #[ptr X.T] 68)) #[.nilIface] 128).alloc (.cells #[.int .i64 (d.held.length:Int)] 3)
  rw[World.size_alloc] at h2
  exact h2.step hs1
 clear hs1 hr1 t8 hTl HS3
 have r0:=HR.out.1.1.cell 0 rfl
 have rz:=HR.out.1.2
 have hwl:=HR.out.1.1.1
 have HF:Hid (q11 X d u R (.returned way) (w1.setCell ⟨u.heap.size+1,0,none⟩ way)):=⟨way,d1,rfl,Sp.beside HS.out H1.out.1 (Gx.set _ _ _ _) (by omega) HR.out.2,HF'.out way d1 w1 _ (u.heap.size+1) H1.out.2 (Gx.set _ _ _ _) (by omega)⟩
 have hwy:=HW.out way d1 w1 H1.out.2
 clear HR H1 HRun HF' HS
 generalize hE:u.heap.size=E at *
 clear hE
 rcases hwy with rfl|⟨K,rfl⟩
 all_goals
  go_wp2_with fail
  refine leaves_cons (f:=143) (args:=#[ptr (E+1),ptr E,ptr (E+1 + 1)]) (by simp) (by simp[go_sem]) ?_
  refine (z39 _ _ _ _).mono ?_
  rintro e u' w'' ⟨rfl,rfl,rfl⟩
  simp[Leaves,settle,results,Tryz.results84,go_sem,r0]
  exact HF.out
theorem za9 (X:RX) (d:MD) (x1 x2 x3:Nat) (R:Value->MD->World->Prop) (u:World) (h:St X d u)
  (hat:Calls Tryz.prog 84 #[ptr X.T,opnV x1 x2 x3] u fun e w'=>q11 X d u R e w') :
  Calls Tryz.prog 53 #[ptr X.F,opnV x1 x2 x3] u fun e w'=>q11 X d u (LnTo X d.line R) e w':=by
 have HAt:Hid (Calls Tryz.prog 84 #[ptr X.T,opnV x1 x2 x3] u fun e w'=>q11 X d u R e w'):=hat
 have f12:=h.f.1.cell 12 rfl
 have f0:=h.f.1.cell 0 rfl
 have lF:=h.f.1.1
 clear h hat
 go_enter Tryz.func53,Tryz.ntmps53
 go_wp2_with fail
 refine HAt.out.mono ?_
 rintro e w1 ⟨way,d1,rfl,hs1,hr1⟩
 have H1:Hid (Sp X d u d1 w1/\R way d1 w1):=⟨hs1,hr1⟩
 clear hs1 hr1 f12 f0 lF
 have f12:=H1.out.1.s.f.1.cell 12 rfl
 have fz:=H1.out.1.s.f.2
 have lF:=H1.out.1.s.f.1.1
 have HF:Hid (q11 X d u (LnTo X d.line R) (.returned way) (w1.setCell ⟨X.F,12,none⟩ (.int .i64 d.line))):=⟨way,_,rfl,H1.out.1.trans (Sp.line H1.out.1.s d.line),d1,w1,H1.out.2,Sp.line H1.out.1.s d.line,rfl⟩
 go_wp2_with fail
 go_ret
 exact HF.out
abbrev qt5 (x1 x2:Nat):Value:=.func (.func 212) #[] #[ptr x1,ptr x2]
theorem z57 (X:RX) (d:MD) (x1 x2:Nat) (R:Value->MD->World->Prop) (u:World) (h:St X d u) (hW:qs8 R) (hF:z47 (u.heap.size+3) R)
  (hrun:∀ w2,Sp X d u d w2->w2.heap.size=u.heap.size+3->Calls Tryz.prog 212 #[ptr x1,ptr x2] w2 fun e w'=>q11 X d w2 R e w') :
  Calls Tryz.prog 84 #[ptr X.T,qt5 x1 x2] u fun e w'=>q11 X d u R e w':=by
 have HS:Hid (St X d u):=h
 have HW:Hid (qs8 R):=hW
 have HF':Hid (z47 (u.heap.size+3) R):=hF
 have HRun:Hid (∀ w2,Sp X d u d w2->w2.heap.size=u.heap.size+3->Calls Tryz.prog 212 #[ptr x1,ptr x2] w2 fun e w'=>q11 X d w2 R e w'):=hrun
 have t8:=h.t.1.cell 8 rfl
 have hTl:=h.t.1.1
 clear h hW hF hrun
 have hmf:=qf9
 go_enter_defers Tryz.func84,Tryz.ntmps84
 go_wp2_with fail
 have HS3:Hid (Sp X d u d (((u.alloc (.cells #[ptr X.T] 68)).alloc (.cells #[.nilIface] 128)).alloc (.cells #[.int .i64 (d.held.length:Int)] 3))):=(((Sp.refl HS.out).alloc _).alloc _).alloc _
 refine (HRun.out _ HS3.out (by simp)).mono ?_
 rintro e w1 ⟨way,d1,rfl,hs1,hr1⟩
 have H1:Hid (Sp X d u d1 w1/\R way d1 w1):=⟨HS3.out.trans hs1,hr1⟩
 have HR:Hid (BxO X d1 w1 (u.heap.size+1) #[.nilIface]):=by
  have h2:=(BxO.new (HS.out.alloc (.cells #[ptr X.T] 68)) #[.nilIface] 128).alloc (.cells #[.int .i64 (d.held.length:Int)] 3)
  rw[World.size_alloc] at h2
  exact h2.step hs1
 clear hs1 hr1 t8 hTl HS3
 have r0:=HR.out.1.1.cell 0 rfl
 have rz:=HR.out.1.2
 have hwl:=HR.out.1.1.1
 have HF:Hid (q11 X d u R (.returned way) (w1.setCell ⟨u.heap.size+1,0,none⟩ way)):=⟨way,d1,rfl,Sp.beside HS.out H1.out.1 (Gx.set _ _ _ _) (by omega) HR.out.2,HF'.out way d1 w1 _ (u.heap.size+1) H1.out.2 (Gx.set _ _ _ _) (by omega)⟩
 have hwy:=HW.out way d1 w1 H1.out.2
 clear HR H1 HRun HF' HS
 generalize hE:u.heap.size=E at *
 clear hE
 rcases hwy with rfl|⟨K,rfl⟩
 all_goals
  go_wp2_with fail
  refine leaves_cons (f:=143) (args:=#[ptr (E+1),ptr E,ptr (E+1 + 1)]) (by simp) (by simp[go_sem]) ?_
  refine (z39 _ _ _ _).mono ?_
  rintro e u' w'' ⟨rfl,rfl,rfl⟩
  simp[Leaves,settle,results,Tryz.results84,go_sem,r0]
  exact HF.out
theorem za6 (X:RX) (d:MD) (x1 x2:Nat) (R:Value->MD->World->Prop) (u:World) (h:St X d u)
  (hat:Calls Tryz.prog 84 #[ptr X.T,qt5 x1 x2] u fun e w'=>q11 X d u R e w') :
  Calls Tryz.prog 53 #[ptr X.F,qt5 x1 x2] u fun e w'=>q11 X d u (LnTo X d.line R) e w':=by
 have HAt:Hid (Calls Tryz.prog 84 #[ptr X.T,qt5 x1 x2] u fun e w'=>q11 X d u R e w'):=hat
 have f12:=h.f.1.cell 12 rfl
 have f0:=h.f.1.cell 0 rfl
 have lF:=h.f.1.1
 clear h hat
 go_enter Tryz.func53,Tryz.ntmps53
 go_wp2_with fail
 refine HAt.out.mono ?_
 rintro e w1 ⟨way,d1,rfl,hs1,hr1⟩
 have H1:Hid (Sp X d u d1 w1/\R way d1 w1):=⟨hs1,hr1⟩
 clear hs1 hr1 f12 f0 lF
 have f12:=H1.out.1.s.f.1.cell 12 rfl
 have fz:=H1.out.1.s.f.2
 have lF:=H1.out.1.s.f.1.1
 have HF:Hid (q11 X d u (LnTo X d.line R) (.returned way) (w1.setCell ⟨X.F,12,none⟩ (.int .i64 d.line))):=⟨way,_,rfl,H1.out.1.trans (Sp.line H1.out.1.s d.line),d1,w1,H1.out.2,Sp.line H1.out.1.s d.line,rfl⟩
 go_wp2_with fail
 go_ret
 exact HF.out
abbrev rt2V (x1 x2:Nat):Value:=.func (.func 54) #[] #[ptr x1,ptr x2]
theorem z58 (X:RX) (d:MD) (x1 x2:Nat) (R:Value->MD->World->Prop) (u:World) (h:St X d u) (hW:qs8 R) (hF:z47 (u.heap.size+3) R)
  (hrun:∀ w2,Sp X d u d w2->w2.heap.size=u.heap.size+3->Calls Tryz.prog 54 #[ptr x1,ptr x2] w2 fun e w'=>q11 X d w2 R e w') :
  Calls Tryz.prog 84 #[ptr X.T,rt2V x1 x2] u fun e w'=>q11 X d u R e w':=by
 have HS:Hid (St X d u):=h
 have HW:Hid (qs8 R):=hW
 have HF':Hid (z47 (u.heap.size+3) R):=hF
 have HRun:Hid (∀ w2,Sp X d u d w2->w2.heap.size=u.heap.size+3->Calls Tryz.prog 54 #[ptr x1,ptr x2] w2 fun e w'=>q11 X d w2 R e w'):=hrun
 have t8:=h.t.1.cell 8 rfl
 have hTl:=h.t.1.1
 clear h hW hF hrun
 have hmf:=qf9
 go_enter_defers Tryz.func84,Tryz.ntmps84
 go_wp2_with fail
 have HS3:Hid (Sp X d u d (((u.alloc (.cells #[ptr X.T] 68)).alloc (.cells #[.nilIface] 128)).alloc (.cells #[.int .i64 (d.held.length:Int)] 3))):=(((Sp.refl HS.out).alloc _).alloc _).alloc _
 refine (HRun.out _ HS3.out (by simp)).mono ?_
 rintro e w1 ⟨way,d1,rfl,hs1,hr1⟩
 have H1:Hid (Sp X d u d1 w1/\R way d1 w1):=⟨HS3.out.trans hs1,hr1⟩
 have HR:Hid (BxO X d1 w1 (u.heap.size+1) #[.nilIface]):=by
  have h2:=(BxO.new (HS.out.alloc (.cells #[ptr X.T] 68)) #[.nilIface] 128).alloc (.cells #[.int .i64 (d.held.length:Int)] 3)
  rw[World.size_alloc] at h2
  exact h2.step hs1
 clear hs1 hr1 t8 hTl HS3
 have r0:=HR.out.1.1.cell 0 rfl
 have rz:=HR.out.1.2
 have hwl:=HR.out.1.1.1
 have HF:Hid (q11 X d u R (.returned way) (w1.setCell ⟨u.heap.size+1,0,none⟩ way)):=⟨way,d1,rfl,Sp.beside HS.out H1.out.1 (Gx.set _ _ _ _) (by omega) HR.out.2,HF'.out way d1 w1 _ (u.heap.size+1) H1.out.2 (Gx.set _ _ _ _) (by omega)⟩
 have hwy:=HW.out way d1 w1 H1.out.2
 clear HR H1 HRun HF' HS
 generalize hE:u.heap.size=E at *
 clear hE
 rcases hwy with rfl|⟨K,rfl⟩
 all_goals
  go_wp2_with fail
  refine leaves_cons (f:=143) (args:=#[ptr (E+1),ptr E,ptr (E+1 + 1)]) (by simp) (by simp[go_sem]) ?_
  refine (z39 _ _ _ _).mono ?_
  rintro e u' w'' ⟨rfl,rfl,rfl⟩
  simp[Leaves,settle,results,Tryz.results84,go_sem,r0]
  exact HF.out
theorem za7 (X:RX) (d:MD) (x1 x2:Nat) (R:Value->MD->World->Prop) (u:World) (h:St X d u)
  (hat:Calls Tryz.prog 84 #[ptr X.T,rt2V x1 x2] u fun e w'=>q11 X d u R e w') :
  Calls Tryz.prog 53 #[ptr X.F,rt2V x1 x2] u fun e w'=>q11 X d u (LnTo X d.line R) e w':=by
 have HAt:Hid (Calls Tryz.prog 84 #[ptr X.T,rt2V x1 x2] u fun e w'=>q11 X d u R e w'):=hat
 have f12:=h.f.1.cell 12 rfl
 have f0:=h.f.1.cell 0 rfl
 have lF:=h.f.1.1
 clear h hat
 go_enter Tryz.func53,Tryz.ntmps53
 go_wp2_with fail
 refine HAt.out.mono ?_
 rintro e w1 ⟨way,d1,rfl,hs1,hr1⟩
 have H1:Hid (Sp X d u d1 w1/\R way d1 w1):=⟨hs1,hr1⟩
 clear hs1 hr1 f12 f0 lF
 have f12:=H1.out.1.s.f.1.cell 12 rfl
 have fz:=H1.out.1.s.f.2
 have lF:=H1.out.1.s.f.1.1
 have HF:Hid (q11 X d u (LnTo X d.line R) (.returned way) (w1.setCell ⟨X.F,12,none⟩ (.int .i64 d.line))):=⟨way,_,rfl,H1.out.1.trans (Sp.line H1.out.1.s d.line),d1,w1,H1.out.2,Sp.line H1.out.1.s d.line,rfl⟩
 go_wp2_with fail
 go_ret
 exact HF.out
theorem zf9 (X:RX) (d:MD) (x1 x2 x3 C fn nf bo bc k1:Nat) (R:Value->MD->World->Prop) (u:World) (h:St X d u) (b1:Bx X d u x1 #[ptr X.M]) (b2:Bx X d u x2 #[ptr C]) (b3:Bx X d u x3 #[ptr X.F]) (hC:Bx X d u C (cA (fn:Int))) (hbod:X.bod=.slice (some ⟨bo,0,none⟩) nf bc) (hfn:fn<nf) (hb:Oo X bo fn (bkV k1))
  (hrun:∀ w2,Sp X d u d w2->w2.heap.size=u.heap.size->Calls Tryz.prog 163 #[ptr X.F,ptr k1] w2 fun e w'=>q11 X d w2 R e w') :
  Calls Tryz.prog 289 #[ptr x1,ptr x2,ptr x3] u fun e w'=>q11 X d u R e w':=by
 have HS:Hid (St X d u):=h
 have HRun:Hid (∀ w2,Sp X d u d w2->w2.heap.size=u.heap.size->Calls Tryz.prog 163 #[ptr X.F,ptr k1] w2 fun e w'=>q11 X d w2 R e w'):=hrun
 have HK:Hid (∀ d' w',Sp X d u d' w'->(w'.cell? ⟨x1,0,none⟩=some (ptr X.M)/\w'.cell? ⟨x2,0,none⟩=some (ptr C)/\w'.cell? ⟨x3,0,none⟩=some (ptr X.F)/\w'.cell? ⟨C,0,none⟩=some (.int .i64 (fn:Int))/\w'.cell? ⟨X.M,7,none⟩=some (.slice (some ⟨bo,0,none⟩) nf bc)/\w'.cell? ⟨bo,fn,none⟩=some (bkV k1))):=fun d' w' k=>⟨(b1.step k).cell 0 rfl,(b2.step k).cell 0 rfl,(b3.step k).cell 0 rfl,(hC.step k).cell 0 rfl,by rw[<-hbod];exact k.s.m.1.cell 7 rfl,hb.at k.s⟩
 have S0:=HK.out d _ (Sp.refl HS.out).drew
 have hi0:(0:Int)<=(fn:Int):=Int.natCast_nonneg _
 have hi1:(fn:Int)<(nf:Int):=by omega
 clear h b1 b2 b3 hC hbod hfn hb hrun
 go_enter Tryz.func289,Tryz.ntmps289
 go_wp2_with fail
 go_region_held3 (fun w'=>w'.cell? ⟨x1,0,none⟩=some (ptr X.M)/\w'.cell? ⟨x2,0,none⟩=some (ptr C)/\w'.cell? ⟨x3,0,none⟩=some (ptr X.F)/\w'.cell? ⟨C,0,none⟩=some (.int .i64 (fn:Int))/\w'.cell? ⟨X.M,7,none⟩=some (.slice (some ⟨bo,0,none⟩) nf bc)/\w'.cell? ⟨bo,fn,none⟩=some (bkV k1)) (first|exact S0|exact S1) (first|(go_at_call 163;refine (HRun.out _ (Sp.refl HS.out).drew rfl).mono ?_;rintro e w1 ⟨way,d1,rfl,hs1,hr1⟩;have H1:Hid (q11 X d u R (.returned way) w1):=⟨way,d1,rfl,(Sp.refl HS.out).drew.trans hs1,hr1⟩;have S1:=HK.out d1 w1 ((Sp.refl HS.out).drew.trans hs1);clear hs1 hr1))
 all_goals
  go_wp2_with fail
  go_ret
  exact H1.out
end Go.Proofs.YtaimofjekgnieaaGreatDoor
