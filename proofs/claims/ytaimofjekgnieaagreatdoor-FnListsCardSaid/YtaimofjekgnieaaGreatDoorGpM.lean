import Derived.Test.YtaimofjekgnieaaGreatDoorGpD
import Derived.Test.YtaimofjekgnieaaGreatDoorHzJ
import Derived.Recover
import Derived.Deep.Cut
set_option maxRecDepth 100000
set_option maxHeartbeats 16000000
namespace Go.Proofs.YtaimofjekgnieaaGreatDoor
open Go.RowKit
attribute [local go_sem] q00
attribute [local go_sem ↓] Go.wp_at_zero Go.wp_at_succ
abbrev thrV (E:Nat):Value:=.iface 118 (ptr E)
theorem qz6 (E:Nat) (w:World):(Instr.typeAssert (thrV E) 20 118 true).run Tryz.prog w=.ok (.tuple #[ptr E,.bool true]) w:=by kernel_rfl
theorem z48 (E:Nat) (u:World):Calls Tryz.prog 144 #[thrV E] u fun e w'=>e=.returned (thrV E)/\w'=u:=by
 have h1:=qz6 E
 go_enter Tryz.func144,Tryz.ntmps144
 go_wp2_with fail
 go_ret
 exact ⟨rfl,rfl⟩
abbrev thD (E:Nat):List PanicEntry:=[{v:=.iface 118 (ptr E),recovered:=true}]
theorem zc7 (E wb tb hb T m n:Nat) (ha:Option Addr) (hc:Nat) (w:World) (hif:(if hc=0 then ha else ha.map (fun x=>x.add 0))=ha) (hmn:m<=n) (hnc:n<=hc) (c1:w.cell? ⟨wb,0,none⟩=some .nilIface) (z1:∀ o,w.frozen? ⟨wb,o,none⟩=false) (c2:w.cell? ⟨tb,0,none⟩=some (ptr T)) (c3:w.cell? ⟨hb,0,none⟩=some (.int .i64 (m:Int))) (c4:w.cell? ⟨T,8,none⟩=some (.slice ha n hc)) (z4:∀ o,w.frozen? ⟨T,o,none⟩=false) (n1:wb≠tb) (n2:wb≠hb) (n3:wb≠T) :
  CallsD Tryz.prog 143 #[ptr wb,ptr tb,ptr hb] (.panicking (thC E)) w fun e u' w'=>e=.returned (.tuple #[])/\u'=.panicking (thD E)/\w'=((w.setCell ⟨wb,0,none⟩ (thrV E)).setCell ⟨T,8,none⟩ (.slice ha m hc)).drew:=by
 have hif1:=hif
 have hm0:¬(m:Int)<0:=by omega
 have hmc:m<=hc:=by omega
 refine callsD_of_wpS Tryz.func143 rfl fun c₀ cs hu=>?_
 apply wpS_seq
 apply wpS_region
 simp[wpOpsS,go_sem,recoverD,hu,Tryz.ntmps143,Exit.thenS]
 apply wpS_seq
 apply wpS_region
 simp[wpOpsS,go_sem,Exit.thenS,Act.eval,Array.replicate]
 refine wpS_cond (t:=true) (by simp[Act.eval]) ?_
 simp only[if_true]
 refine wpS_of_wp ?_
 refine wp_mono (Q:=fun e a w'=>e=.normal/\a.defers=[]/\w'=((w.setCell ⟨wb,0,none⟩ (thrV E)).setCell ⟨T,8,none⟩ (.slice ha m hc)).drew) ?wk ?go
 case go=>
  rintro e a w' ⟨rfl,hd,rfl⟩
  cases c₀
  simp_all [bodyPostS,results,Tryz.results143]
 clear hmn hnc
 go_wp2_with fail
 refine (z48 E _).mono ?_
 rintro e w1 ⟨rfl,rfl⟩
 go_wp2_with fail
 go_region_with fail
 all_goals exact ⟨rfl,rfl,rfl⟩
theorem St.hdCap {X:RX} {d:MD} {u:World} (h:St X d u):d.held.length<=d.hc/\(d.ha=none\/∃ g,d.ha=some ⟨g,0,none⟩):=by
 rcases h.hr.2 with ⟨e,h0⟩|⟨g,cap,cur,e,_,_,h5,_⟩
 ·obtain ⟨e1,e2,e3⟩:d.ha=none/\d.held.length=0/\d.hc=0:=by simpa using e
  exact ⟨by omega,.inl e1⟩
 ·obtain ⟨e1,e3⟩:d.ha=some ⟨g,0,none⟩/\d.hc=cap:=by simpa using e
  exact ⟨by omega,.inr ⟨g,e1⟩⟩
theorem Thr.mono {X:RX} {N0 N1:Nat} {cd l:Int} {tr:ByteArray} {q:DP} {E:Nat} {d:MD} {w:World} (h:Thr X N0 cd l tr q E d w) (hN:N1<=N0):Thr X N1 cd l tr q E d w:=by
 obtain ⟨N,K,t1,c1,v,h0,h1,h2⟩:=h
 exact ⟨N,K,t1,c1,v,Nat.le_trans hN h0,h1,h2⟩
theorem Thr.step {X:RX} {N0:Nat} {cd l:Int} {tr:ByteArray} {q q':DP} {E:Nat} {d d':MD} {w w':World} (h:Thr X N0 cd l tr q E d w) (k:Sp X d w d' w') (e:∀ t v,d.p=q.tbl t v->d'.p=q'.tbl t v):Thr X N0 cd l tr q' E d' w':=by
 obtain ⟨N,K,t1,c1,v,h0,h1,h2⟩:=h
 exact ⟨N,K,t1,c1,v,h0,e _ _ h1,h2.step k⟩
def qj3 (X:RX) (N0:Nat) (cd l:Int) (tr:ByteArray) (q:DP) (way:Value) (d':MD) (w':World):Prop:=∃ E,way=thrV E/\Thr X N0 cd l tr q E d' w'
theorem Thr.caught {X:RX} {d d1:MD} {u u3 w1:World} {N0 E wb m:Nat} {cd l:Int} {tr:ByteArray} {q:DP} (h0:St X d u) (h3:Sp X d u d u3) (k:Sp X d u3 d1 w1) (hT:Thr X N0 cd l tr q E d1 w1) (hm:m<=q.held.length) (hwb:u.heap.size<=wb) (hwl:wb<u3.heap.size) (hwN:wb<N0) (hns:¬stB X d wb) :
  Sp X d u {d1 with held:=d1.held.take m} ((w1.setCell ⟨wb,0,none⟩ (thrV E)).setCell ⟨X.T,8,none⟩ (.slice d1.ha m d1.hc)).drew/\Thr X N0 cd l tr (q.cutH m) E {d1 with held:=d1.held.take m} ((w1.setCell ⟨wb,0,none⟩ (thrV E)).setCell ⟨X.T,8,none⟩ (.slice d1.ha m d1.hc)).drew:=by
 obtain ⟨N,K,t1,c1,v,hN,e,hE⟩:=hT
 have hh:d1.held=q.held:=congrArg DP.held e
 have hn1:¬stB X d1 wb:=fun c=>hns (k.mv wb hwl c)
 have hs2:Sp X d u d1 (w1.setCell ⟨wb,0,none⟩ (thrV E)):=Sp.beside h0 (h3.trans k) (Gx.set _ _ _ _) hwb hn1
 have hs3:=(Sp.cutH hs2.s (m:=m) (by rw[hh];exact hm)).drew
 refine ⟨hs2.trans hs3,N,K,t1,c1,v,hN,?_,(hE.far (Gx.set w1 wb 0 (thrV E)) (by omega)).step hs3⟩
 show d1.p.cutH m=_
 rw[e]
 rfl
theorem z59 (X:RX) (d:MD) (x1 x2 x3:Nat) (cd l:Int) (tr:ByteArray) (q:DP) (u:World) (h:St X d u) (hq:d.held.length<=q.held.length)
  (hrun:∀ w2,Sp X d u d w2->w2.heap.size=u.heap.size+3->Calls Tryz.prog 289 #[ptr x1,ptr x2,ptr x3] w2 fun e w'=>PanE X d w2 (Thr X (u.heap.size+3) cd l tr q) e w') :
  Calls Tryz.prog 84 #[ptr X.T,opnV x1 x2 x3] u fun e w'=>q11 X d u (qj3 X (u.heap.size+3) cd l tr (q.cutH d.held.length)) e w':=by
 have HS:Hid (St X d u):=h
 have HQ:Hid (d.held.length<=q.held.length):=hq
 have HRun:Hid (∀ w2,Sp X d u d w2->w2.heap.size=u.heap.size+3->Calls Tryz.prog 289 #[ptr x1,ptr x2,ptr x3] w2 fun e w'=>PanE X d w2 (Thr X (u.heap.size+3) cd l tr q) e w'):=hrun
 have t8:u.cell? ⟨X.T,8,none⟩=some (.slice d.ha d.held.length d.hc):=h.t.1.cell 8 rfl
 have hTl:=h.t.1.1
 obtain ⟨m,hm⟩:∃ m,d.held.length=m:=⟨_,rfl⟩
 have HMm:Hid (d.held.length=m):=hm
 rw[hm] at t8
 rw[hm]
 clear h hq hrun hm
 have hmf:=qf9
 go_enter_defers Tryz.func84,Tryz.ntmps84
 go_wp2_with fail
 have HS3:Hid (Sp X d u d (((u.alloc (.cells #[ptr X.T] 68)).alloc (.cells #[.nilIface] 128)).alloc (.cells #[.int .i64 (m:Int)] 3))):=(((Sp.refl HS.out).alloc _).alloc _).alloc _
 refine (HRun.out _ HS3.out (by simp)).mono ?_
 rintro e w1 ⟨E,d1,rfl,hs1,hr1⟩
 obtain ⟨E0,hE0⟩:∃ E0,u.heap.size=E0:=⟨_,rfl⟩
 obtain ⟨u3,hu3⟩:∃ u3,((u.alloc (.cells #[ptr X.T] 68)).alloc (.cells #[.nilIface] 128)).alloc (.cells #[.int .i64 (m:Int)] 3)=u3:=⟨_,rfl⟩
 rw[hu3] at hs1
 have HB:Hid (Sp X d u d u3/\u3.heap.size=E0+3/\Bx X d u3 E0 #[ptr X.T]/\BxO X d u3 (E0+1) #[.nilIface]/\Bx X d u3 (E0+1 + 1) #[.int .i64 (m:Int)]):=by
  have k1:=Bx.new HS.out #[ptr X.T] 68
  have k2:=BxO.new (HS.out.alloc (.cells #[ptr X.T] 68)) #[.nilIface] 128
  have k3:=Bx.new ((HS.out.alloc (.cells #[ptr X.T] 68)).alloc (.cells #[.nilIface] 128)) #[.int .i64 (m:Int)] 3
  rw[World.size_alloc] at k2
  rw[World.size_alloc,World.size_alloc] at k3
  rw[<-hu3,<-hE0]
  exact ⟨(((Sp.refl HS.out).alloc _).alloc _).alloc _,by simp,(k1.alloc _).alloc _,k2.alloc _,k3⟩
 have hEl:X.T<E0:=by rw[<-hE0];exact HS.out.t.1.1
 have HE0:Hid (u.heap.size=E0):=hE0
 rw[hE0]
 rw[hE0] at hr1
 have hc:=Thr.caught (wb:=E0+1) (m:=m) HS.out HB.out.1 hs1 hr1 (by have:=HQ.out;rw[HMm.out] at this;exact this) (by have:=HE0.out;omega) (by have:=HB.out.2.1;omega) (by omega) HB.out.2.2.2.1.2
 have HP2:Hid (q11 X d u (qj3 X (u.heap.size+3) cd l tr (q.cutH m)) (.returned (thrV E)) ((w1.setCell ⟨E0+1,0,none⟩ (thrV E)).setCell ⟨X.T,8,none⟩ (.slice d1.ha m d1.hc)).drew):=⟨_,_,rfl,hc.1,E,rfl,by rw[HE0.out];exact hc.2⟩
 have hh1:m<=d1.held.length:=by
  obtain ⟨N,K,t1,c1,v,hN,e,hE⟩:=hr1
  have hh:d1.held=q.held:=congrArg DP.held e
  rw[hh,<-HMm.out]
  exact HQ.out
 have kw:=HB.out.2.2.2.1.step hs1
 have kt:=(HB.out.2.2.1.step hs1).cell 0 rfl
 have kh:=(HB.out.2.2.2.2.step hs1).cell 0 rfl
 have kT:w1.cell? ⟨X.T,8,none⟩=some (.slice d1.ha d1.held.length d1.hc):=hs1.s.t.1.cell 8 rfl
 have kz:=hs1.s.t.2
 have hcp:=hs1.s.hdCap
 have HC:=zc7 E (E0+1) E0 (E0+1 + 1) X.T m d1.held.length d1.ha d1.hc w1 (qf7 d1.ha (d1.hc=0) hcp.2) hh1 hcp.1 (kw.1.1.cell 0 rfl) kw.1.2 kt kh kT kz (by omega) (by omega) (by omega)
 have HCC:Hid (CallsD Tryz.prog 143 #[ptr (E0+1),ptr E0,ptr (E0+1 + 1)] (.panicking (thC E)) w1 fun e u' w'=>e=.returned (.tuple #[])/\u'=.panicking (thD E)/\w'=((w1.setCell ⟨E0+1,0,none⟩ (thrV E)).setCell ⟨X.T,8,none⟩ (.slice d1.ha m d1.hc)).drew):=HC
 have hcw:=kw.1.1.cell 0 rfl
 clear HC hc hs1 hr1 hh1 kw kt kh kT kz hcp HB hu3 hE0 t8 hTl HS3
 go_wp2_with fail
 refine leaves_cons (f:=143) (args:=#[ptr (E0+1),ptr E0,ptr (E0+1 + 1)]) (by simp) (by simp[go_sem]) ?_
 refine HCC.out.mono ?_
 rintro e u' w'' ⟨rfl,rfl,rfl⟩
 have r0:((w1.setCell ⟨E0+1,0,none⟩ (thrV E)).setCell ⟨X.T,8,none⟩ (.slice d1.ha m d1.hc)).drew.cell? ⟨E0+1,0,none⟩=some (thrV E):=by
  have hne:X.T≠E0+1:=by omega
  show ((w1.setCell ⟨E0+1,0,none⟩ (thrV E)).setCell ⟨X.T,8,none⟩ (.slice d1.ha m d1.hc)).cell? ⟨E0+1,0,none⟩=_
  rw[World.cell?_setCell_other _ _ _ _ (fun e=>hne (congrArg Addr.block e))]
  simp[go_sem,hcw]
 refine ⟨_,?_,HP2.out⟩
 simp[results,Tryz.results84,go_sem,r0]
theorem z56 (X:RX) (d:MD) (x1 x2:Nat) (cd l:Int) (tr:ByteArray) (q:DP) (u:World) (h:St X d u) (hq:d.held.length<=q.held.length)
  (hrun:∀ w2,Sp X d u d w2->w2.heap.size=u.heap.size+3->Calls Tryz.prog 212 #[ptr x1,ptr x2] w2 fun e w'=>PanE X d w2 (Thr X (u.heap.size+3) cd l tr q) e w') :
  Calls Tryz.prog 84 #[ptr X.T,qt5 x1 x2] u fun e w'=>q11 X d u (qj3 X (u.heap.size+3) cd l tr (q.cutH d.held.length)) e w':=by
 have HS:Hid (St X d u):=h
 have HQ:Hid (d.held.length<=q.held.length):=hq
 have HRun:Hid (∀ w2,Sp X d u d w2->w2.heap.size=u.heap.size+3->Calls Tryz.prog 212 #[ptr x1,ptr x2] w2 fun e w'=>PanE X d w2 (Thr X (u.heap.size+3) cd l tr q) e w'):=hrun
 have t8:u.cell? ⟨X.T,8,none⟩=some (.slice d.ha d.held.length d.hc):=h.t.1.cell 8 rfl
 have hTl:=h.t.1.1
 obtain ⟨m,hm⟩:∃ m,d.held.length=m:=⟨_,rfl⟩
 have HMm:Hid (d.held.length=m):=hm
 rw[hm] at t8
 rw[hm]
 clear h hq hrun hm
 have hmf:=qf9
 go_enter_defers Tryz.func84,Tryz.ntmps84
 go_wp2_with fail
 have HS3:Hid (Sp X d u d (((u.alloc (.cells #[ptr X.T] 68)).alloc (.cells #[.nilIface] 128)).alloc (.cells #[.int .i64 (m:Int)] 3))):=(((Sp.refl HS.out).alloc _).alloc _).alloc _
 refine (HRun.out _ HS3.out (by simp)).mono ?_
 rintro e w1 ⟨E,d1,rfl,hs1,hr1⟩
 obtain ⟨E0,hE0⟩:∃ E0,u.heap.size=E0:=⟨_,rfl⟩
 obtain ⟨u3,hu3⟩:∃ u3,((u.alloc (.cells #[ptr X.T] 68)).alloc (.cells #[.nilIface] 128)).alloc (.cells #[.int .i64 (m:Int)] 3)=u3:=⟨_,rfl⟩
 rw[hu3] at hs1
 have HB:Hid (Sp X d u d u3/\u3.heap.size=E0+3/\Bx X d u3 E0 #[ptr X.T]/\BxO X d u3 (E0+1) #[.nilIface]/\Bx X d u3 (E0+1 + 1) #[.int .i64 (m:Int)]):=by
  have k1:=Bx.new HS.out #[ptr X.T] 68
  have k2:=BxO.new (HS.out.alloc (.cells #[ptr X.T] 68)) #[.nilIface] 128
  have k3:=Bx.new ((HS.out.alloc (.cells #[ptr X.T] 68)).alloc (.cells #[.nilIface] 128)) #[.int .i64 (m:Int)] 3
  rw[World.size_alloc] at k2
  rw[World.size_alloc,World.size_alloc] at k3
  rw[<-hu3,<-hE0]
  exact ⟨(((Sp.refl HS.out).alloc _).alloc _).alloc _,by simp,(k1.alloc _).alloc _,k2.alloc _,k3⟩
 have hEl:X.T<E0:=by rw[<-hE0];exact HS.out.t.1.1
 have HE0:Hid (u.heap.size=E0):=hE0
 rw[hE0]
 rw[hE0] at hr1
 have hc:=Thr.caught (wb:=E0+1) (m:=m) HS.out HB.out.1 hs1 hr1 (by have:=HQ.out;rw[HMm.out] at this;exact this) (by have:=HE0.out;omega) (by have:=HB.out.2.1;omega) (by omega) HB.out.2.2.2.1.2
 have HP2:Hid (q11 X d u (qj3 X (u.heap.size+3) cd l tr (q.cutH m)) (.returned (thrV E)) ((w1.setCell ⟨E0+1,0,none⟩ (thrV E)).setCell ⟨X.T,8,none⟩ (.slice d1.ha m d1.hc)).drew):=⟨_,_,rfl,hc.1,E,rfl,by rw[HE0.out];exact hc.2⟩
 have hh1:m<=d1.held.length:=by
  obtain ⟨N,K,t1,c1,v,hN,e,hE⟩:=hr1
  have hh:d1.held=q.held:=congrArg DP.held e
  rw[hh,<-HMm.out]
  exact HQ.out
 have kw:=HB.out.2.2.2.1.step hs1
 have kt:=(HB.out.2.2.1.step hs1).cell 0 rfl
 have kh:=(HB.out.2.2.2.2.step hs1).cell 0 rfl
 have kT:w1.cell? ⟨X.T,8,none⟩=some (.slice d1.ha d1.held.length d1.hc):=hs1.s.t.1.cell 8 rfl
 have kz:=hs1.s.t.2
 have hcp:=hs1.s.hdCap
 have HC:=zc7 E (E0+1) E0 (E0+1 + 1) X.T m d1.held.length d1.ha d1.hc w1 (qf7 d1.ha (d1.hc=0) hcp.2) hh1 hcp.1 (kw.1.1.cell 0 rfl) kw.1.2 kt kh kT kz (by omega) (by omega) (by omega)
 have HCC:Hid (CallsD Tryz.prog 143 #[ptr (E0+1),ptr E0,ptr (E0+1 + 1)] (.panicking (thC E)) w1 fun e u' w'=>e=.returned (.tuple #[])/\u'=.panicking (thD E)/\w'=((w1.setCell ⟨E0+1,0,none⟩ (thrV E)).setCell ⟨X.T,8,none⟩ (.slice d1.ha m d1.hc)).drew):=HC
 have hcw:=kw.1.1.cell 0 rfl
 clear HC hc hs1 hr1 hh1 kw kt kh kT kz hcp HB hu3 hE0 t8 hTl HS3
 go_wp2_with fail
 refine leaves_cons (f:=143) (args:=#[ptr (E0+1),ptr E0,ptr (E0+1 + 1)]) (by simp) (by simp[go_sem]) ?_
 refine HCC.out.mono ?_
 rintro e u' w'' ⟨rfl,rfl,rfl⟩
 have r0:((w1.setCell ⟨E0+1,0,none⟩ (thrV E)).setCell ⟨X.T,8,none⟩ (.slice d1.ha m d1.hc)).drew.cell? ⟨E0+1,0,none⟩=some (thrV E):=by
  have hne:X.T≠E0+1:=by omega
  show ((w1.setCell ⟨E0+1,0,none⟩ (thrV E)).setCell ⟨X.T,8,none⟩ (.slice d1.ha m d1.hc)).cell? ⟨E0+1,0,none⟩=_
  rw[World.cell?_setCell_other _ _ _ _ (fun e=>hne (congrArg Addr.block e))]
  simp[go_sem,hcw]
 refine ⟨_,?_,HP2.out⟩
 simp[results,Tryz.results84,go_sem,r0]
theorem za8 (X:RX) (d:MD) (x1 x2 x3 N0:Nat) (cd l:Int) (tr:ByteArray) (q:DP) (u:World) (h:St X d u)
  (hat:Calls Tryz.prog 84 #[ptr X.T,opnV x1 x2 x3] u fun e w'=>q11 X d u (qj3 X N0 cd l tr q) e w') :
  Calls Tryz.prog 53 #[ptr X.F,opnV x1 x2 x3] u fun e w'=>q11 X d u (qj3 X N0 cd l tr (q.ln d.line)) e w':=by
 have HAt:Hid (Calls Tryz.prog 84 #[ptr X.T,opnV x1 x2 x3] u fun e w'=>q11 X d u (qj3 X N0 cd l tr q) e w'):=hat
 have f12:=h.f.1.cell 12 rfl
 have f0:=h.f.1.cell 0 rfl
 have lF:=h.f.1.1
 clear h hat
 go_enter Tryz.func53,Tryz.ntmps53
 go_wp2_with fail
 refine HAt.out.mono ?_
 rintro e w1 ⟨way,d1,rfl,hs1,E,rfl,hr1⟩
 have H1:Hid (Sp X d u d1 w1/\Thr X N0 cd l tr q E d1 w1):=⟨hs1,hr1⟩
 clear hs1 hr1 f12 f0 lF
 have f12:=H1.out.1.s.f.1.cell 12 rfl
 have fz:=H1.out.1.s.f.2
 have lF:=H1.out.1.s.f.1.1
 have HF:Hid (q11 X d u (qj3 X N0 cd l tr (q.ln d.line)) (.returned (thrV E)) (w1.setCell ⟨X.F,12,none⟩ (.int .i64 d.line))):=⟨_,_,rfl,H1.out.1.trans (Sp.line H1.out.1.s d.line),E,rfl,H1.out.2.step (Sp.line H1.out.1.s d.line) (fun t v e=>by show d1.p.ln d.line=_;rw[e];rfl)⟩
 go_wp2_with fail
 go_ret
 exact HF.out
theorem za5 (X:RX) (d:MD) (x1 x2 N0:Nat) (cd l:Int) (tr:ByteArray) (q:DP) (u:World) (h:St X d u)
  (hat:Calls Tryz.prog 84 #[ptr X.T,qt5 x1 x2] u fun e w'=>q11 X d u (qj3 X N0 cd l tr q) e w') :
  Calls Tryz.prog 53 #[ptr X.F,qt5 x1 x2] u fun e w'=>q11 X d u (qj3 X N0 cd l tr (q.ln d.line)) e w':=by
 have HAt:Hid (Calls Tryz.prog 84 #[ptr X.T,qt5 x1 x2] u fun e w'=>q11 X d u (qj3 X N0 cd l tr q) e w'):=hat
 have f12:=h.f.1.cell 12 rfl
 have f0:=h.f.1.cell 0 rfl
 have lF:=h.f.1.1
 clear h hat
 go_enter Tryz.func53,Tryz.ntmps53
 go_wp2_with fail
 refine HAt.out.mono ?_
 rintro e w1 ⟨way,d1,rfl,hs1,E,rfl,hr1⟩
 have H1:Hid (Sp X d u d1 w1/\Thr X N0 cd l tr q E d1 w1):=⟨hs1,hr1⟩
 clear hs1 hr1 f12 f0 lF
 have f12:=H1.out.1.s.f.1.cell 12 rfl
 have fz:=H1.out.1.s.f.2
 have lF:=H1.out.1.s.f.1.1
 have HF:Hid (q11 X d u (qj3 X N0 cd l tr (q.ln d.line)) (.returned (thrV E)) (w1.setCell ⟨X.F,12,none⟩ (.int .i64 d.line))):=⟨_,_,rfl,H1.out.1.trans (Sp.line H1.out.1.s d.line),E,rfl,H1.out.2.step (Sp.line H1.out.1.s d.line) (fun t v e=>by show d1.p.ln d.line=_;rw[e];rfl)⟩
 go_wp2_with fail
 go_ret
 exact HF.out
abbrev sErr:ByteArray:=⟨#[101,114,114,111,114]⟩
theorem zi7 (E:Nat) (u:World) (hg:EtP u):Calls Tryz.prog 290 #[thrV E] u fun e w'=>e=.returned (.string sErr)/\Below u.heap.size u w':=by
 have b0:Below u.heap.size u ((u.alloc (.cells #[.pointer none] 118)).alloc (.cells #[.pointer none] 241)):=(q01 u _).alloc (by simp) _
 have HB0:Hid (Below u.heap.size u ((u.alloc (.cells #[.pointer none] 118)).alloc (.cells #[.pointer none] 241))):=b0
 have HG:Hid (EtP ((u.alloc (.cells #[.pointer none] 118)).alloc (.cells #[.pointer none] 241))):=hg.keep b0 (Nat.le_refl _)
 have h1:Hid (OwnB ((u.alloc (.cells #[.pointer none] 118)).alloc (.cells #[.pointer none] 241)) u.heap.size #[.pointer none]):=(OwnB.new u _ _).call (q01 _ _)
 clear hg b0
 go_enter Tryz.func290,Tryz.ntmps290
 go_wp2_with fail
 refine (qs4 ⟨E,0,none⟩ ⟨u.heap.size,0,none⟩ (.pointer none) _ HG.out (h1.out.1.cell 0 rfl) (h1.out.2 0)).mono ?_
 rintro e w1 ⟨rfl,w4,hb,rfl⟩
 have HB1:Hid (Below u.heap.size u (w4.setCell ⟨u.heap.size,0,none⟩ (.pointer (some ⟨E,0,none⟩)))):=(HB0.out.trans (hb.mono HB0.out.size)).setCell (Nat.le_refl _) _
 obtain ⟨w5,hw5⟩:∃ w5,w4.setCell ⟨u.heap.size,0,none⟩ (.pointer (some ⟨E,0,none⟩))=w5:=⟨_,rfl⟩
 rw[hw5] at HB1
 rw[hw5]
 clear hb hw5
 go_wp2_with fail
 go_ret
 exact ⟨rfl,HB1.out⟩
theorem ze5 (E:Nat) (w:World):(Instr.typeAssert (thrV E) 128 241 true).run Tryz.prog w=.ok (.tuple #[.pointer none,.bool false]) w:=by kernel_rfl
theorem qz3 (E:Nat) (w:World):(Instr.typeAssert (thrV E) 128 118 true).run Tryz.prog w=.ok (.tuple #[ptr E,.bool true]) w:=by kernel_rfl
theorem zd0 (E:Nat) (u:World):Calls Tryz.prog 91 #[thrV E] u fun e w'=>e=.panicked (thC E)/\w'=u:=by
 have h1:=qz3 E
 have h2:=ze5 E
 go_enter Tryz.func91,Tryz.ntmps91
 go_wp2_with fail
 simp[bodyPost]
theorem qo7 (E:Nat) (u:World):Calls Tryz.prog 57 #[thrV E] u fun e w'=>e=.panicked (thC E)/\Below u.heap.size u w':=by
 go_enter Tryz.func57,Tryz.ntmps57
 go_wp2_with fail
 refine (zd0 E _).mono ?_
 rintro e w1 ⟨rfl,rfl⟩
 go_wp2_with fail
 simp[bodyPost]
 exact q01 _ _
theorem DP.caught_eq (p:DP) (rs:List RcD) (t:Nat) (L:Int):((((p.plus rs t).ln L).cutH p.held.length).ln p.line)=p.plus rs t:=by
 simp[DP.plus,DP.ln,DP.cutH]
theorem Thr.back {X X':RX} {d d':MD} {u w w':World} {N0 E:Nat} {cd l:Int} {tr:ByteArray} {q q':DP} (t:Tr X d u X' d' w) (hs:SameRun X X') (h:St X (dBk d d') w') (gx:Gx (fun k=>k=X.T) w w') (hT:Thr X' N0 cd l tr q E d' w) (hN:u.heap.size<=N0) (h0:St X d u) (hq:∀ t v,d'.p=q.tbl t v->(dBk d d').p=q'.tbl t v):Sp X d u (dBk d d') w'/\Thr X u.heap.size cd l tr q' E (dBk d d') w':=by
 obtain ⟨N,K,t1,c1,v,hNN,e,hE⟩:=hT
 have hTT:X'.T=X.T:=hs.T
 have hM:X'.M=X.M:=hs.M
 refine ⟨⟨h,t.g.trans gx (fun k _ e=>.inr (.inl e)),fun k hk e=>?_⟩,N,K,t1,c1,v,Nat.le_trans hN hNN,hq _ _ e,hE.keep gx.size fun k h1 h2 hn=>⟨gx.block k h2 (fun e=>hn (.inr (.inl (by rw[hTT];exact e)))),fun e=>?_⟩⟩
 ·rcases e with e|e|e|e|e|e|e|e
  ·exact .inl e
  ·exact .inr (.inl e)
  ·exact .inr (.inr (.inl e))
  ·exact .inr (.inr (.inr (.inl e)))
  ·exact t.mv k hk (.inr (.inr (.inr (.inr (.inl e)))))
  ·exact t.mv k hk (.inr (.inr (.inr (.inr (.inr (.inl e))))))
  ·exact .inr (.inr (.inr (.inr (.inr (.inr (.inl e))))))
  ·exact t.mv k hk (.inr (.inr (.inr (.inr (.inr (.inr (.inr e)))))))
 ·have hlt:∀ {k:Nat},stB X d k->k<u.heap.size:=fun e=>h0.lt e
  rcases e with e|e|e|e|e|e|e|e
  ·exact hn (.inl (by rw[hM];exact e))
  ·exact hn (.inr (.inl (by rw[hTT];exact e)))
  ·have:=hlt (k:=k) (.inr (.inr (.inl e)))
   omega
  ·have:=hlt (k:=k) (.inr (.inr (.inr (.inl e))))
   omega
  ·exact hn (.inr (.inr (.inr (.inr (.inl e)))))
  ·exact hn (.inr (.inr (.inr (.inr (.inr (.inl e))))))
  ·have:=hlt (k:=k) (.inr (.inr (.inr (.inr (.inr (.inr (.inl e)))))))
   omega
  ·exact hn (.inr (.inr (.inr (.inr (.inr (.inr (.inr e)))))))
theorem yg4 {d d5:MD} {F nv fc:Nat} {fa:Option Addr} {rs:List RcD} {n:Nat} (t v:Value) (e:d5.p=((dO d F nv fa fc).p.plus rs n).tbl t v):(dBk d d5).p=(d.p.plus rs n).tbl t v:=by
 have h1:d5.recs=d.recs++rs:=congrArg DP.recs e
 have h2:d5.ti=d.ti+n:=congrArg DP.ti e
 have h3:d5.held=d.held:=congrArg DP.held e
 have h4:d5.tab=t:=congrArg DP.tab e
 have h5:d5.liv=v:=congrArg DP.liv e
 have h6:d5.mad=d.mad:=congrArg DP.mad e
 have h7:d5.sin=d.sin:=congrArg DP.sin e
 have h8:d5.cls=d.cls:=congrArg DP.cls e
 simp[MD.p,DP.plus,DP.tbl,h1,h2,h3,h4,h5,h6,h7,h8]
theorem y53 (X:RX) (d:MD) (fn nf ub uo uc nv vc bo bc k1 C B cc ac tt:Nat) (va aa:Option Addr) (nm:ByteArray) (fL:Int) (p1 q1:Option Addr) (p2 p3 q2 q3:Nat) (lr:List VD) (rs:List RcD) (cd lE L':Int) (tr:ByteArray) (u:World) (h:St X d u) (hE:EtX X) (hU:UG X fn nf ub uo uc nv vc va nm fL (.slice p1 p2 p3) (.slice q1 q2 q3)) (hfn:FnHas X d u (fn:Int) C B) (hcls:d.cls=.slice (some ⟨B,0,none⟩) 1 cc) (hdep:X.fl<X.dp) (hrec:d.recs.length+rs.length<4000) (hnv:nv<=1000)
  (hbod:X.bod=.slice (some ⟨bo,0,none⟩) nf bc) (hb:Oo X bo fn (bkV k1)) (hac:lr.length<=ac) (hform:aa=none\/∃ g,aa=some (⟨g,0,none⟩:Addr)) (hl:Lst u aa lr) (hnb:∀ ad,aa=some ad->lr≠[]->¬stB X d ad.block)
  (hbody:∀ F V fa fc d1 w1,St (xC X F V (fn:Int) (.slice aa lr.length ac) nv) d1 w1->d1.p=(dO d F nv fa fc).p.plus [⟨2,0,(fn:Int),fL,nm⟩] 0->Lst w1 aa lr->(∀ ad,aa=some ad->lr≠[]->¬stB (xC X F V (fn:Int) (.slice aa lr.length ac) nv) d1 ad.block)->Tr X d u (xC X F V (fn:Int) (.slice aa lr.length ac) nv) d1 w1->ParF X d (xC X F V (fn:Int) (.slice aa lr.length ac) nv) d1 w1->
   Calls Tryz.prog 163 #[ptr F,ptr k1] w1 fun e w'=>PanE (xC X F V (fn:Int) (.slice aa lr.length ac) nv) d1 w1 (Thr (xC X F V (fn:Int) (.slice aa lr.length ac) nv) w1.heap.size cd lE tr ((d1.p.plus rs tt).ln L')) e w') :
  Calls Tryz.prog 242 #[ptr X.M,fnD.v,.slice aa lr.length ac] u fun e w'=>PanE X d u (Thr X u.heap.size cd lE tr (d.p.plus ([⟨2,0,(fn:Int),fL,nm⟩]++rs++[⟨3,0,(fn:Int),0,sErr⟩]) tt)) e w':=by
 have HS:Hid (St X d u):=h
 have HE:Hid (EtX X):=hE
 have HU:Hid (UG X fn nf ub uo uc nv vc va nm fL (.slice p1 p2 p3) (.slice q1 q2 q3)):=hU
 have HFn:Hid (FnHas X d u (fn:Int) C B):=hfn
 have HC:Hid (d.cls=.slice (some ⟨B,0,none⟩) 1 cc):=hcls
 have HN:Hid (X.fl<X.dp/\d.recs.length+rs.length<4000/\nv<=1000/\lr.length<=ac):=⟨hdep,hrec,hnv,hac⟩
 have HBo:Hid (X.bod=.slice (some ⟨bo,0,none⟩) nf bc/\Oo X bo fn (bkV k1)):=⟨hbod,hb⟩
 have HA:Hid ((aa=none\/∃ g,aa=some (⟨g,0,none⟩:Addr))/\Lst u aa lr/\(∀ ad,aa=some ad->lr≠[]->¬stB X d ad.block)):=⟨hform,hl,hnb⟩
 have HBody:Hid (∀ F V fa fc d1 w1,St (xC X F V (fn:Int) (.slice aa lr.length ac) nv) d1 w1->d1.p=(dO d F nv fa fc).p.plus [⟨2,0,(fn:Int),fL,nm⟩] 0->Lst w1 aa lr->(∀ ad,aa=some ad->lr≠[]->¬stB (xC X F V (fn:Int) (.slice aa lr.length ac) nv) d1 ad.block)->Tr X d u (xC X F V (fn:Int) (.slice aa lr.length ac) nv) d1 w1->ParF X d (xC X F V (fn:Int) (.slice aa lr.length ac) nv) d1 w1->
   Calls Tryz.prog 163 #[ptr F,ptr k1] w1 fun e w'=>PanE (xC X F V (fn:Int) (.slice aa lr.length ac) nv) d1 w1 (Thr (xC X F V (fn:Int) (.slice aa lr.length ac) nv) w1.heap.size cd lE tr ((d1.p.plus rs tt).ln L')) e w'):=hbody
 clear h hE hU hfn hcls hdep hrec hnv hbod hb hac hform hl hnb hbody
 go_enter Tryz.func242,Tryz.ntmps242
 go_upto_region 1 with fail
 obtain ⟨w1,hw1⟩:∃ w1,(u.alloc (.cells #[ptr X.M] 39)).alloc (.cells (vA fnD) 113)=w1:=⟨_,rfl⟩
 obtain ⟨b3,hb3⟩:∃ b3,u.heap.size=b3:=⟨_,rfl⟩
 obtain ⟨b4,hb4⟩:∃ b4,b3+1=b4:=⟨_,rfl⟩
 have H1:Hid (Sp X d u d w1/\Bx X d w1 b3 #[ptr X.M]/\Bx X d w1 b4 (vA fnD)/\u.heap.size<=b3/\u.heap.size<=b4):=by
  rw[<-hw1,<-hb4,<-hb3]
  have h2:=Bx.new (HS.out.alloc (.cells #[ptr X.M] 39)) (vA fnD) 113
  rw[World.size_alloc] at h2
  exact ⟨((Sp.refl HS.out).alloc _).alloc _,(Bx.new HS.out _ _).alloc _,h2,Nat.le_refl _,by omega⟩
 rw[hw1,hb3,hb4]
 clear hw1 hb4 hb3
 have hge:((X.dp:Int)<=(X.fl:Int))=False:=by have:=HN.out.1;simp;omega
 have HK1:Hid (∀ w',Sp X d w1 d w'->w'.cell? ⟨b3,0,none⟩=some (ptr X.M)/\w'.cell? ⟨X.M,4,none⟩=some (.int .i64 (X.dp:Int))):=fun w' k=>⟨(H1.out.2.1.step k).cell 0 rfl,k.s.m.1.cell 4 rfl⟩
 go_cut [18] from 11 (fun s18 w=>s18=.bool false/\Hid (Sp X d w1 d w))
 case first=>
  have S0:=HK1.out _ (Sp.refl H1.out.1.s).drew
  have HD:Hid (St X d w1.drew):=H1.out.1.s.drew
  go_region_held3 (fun w'=>w'.cell? ⟨b3,0,none⟩=some (ptr X.M)/\w'.cell? ⟨X.M,4,none⟩=some (.int .i64 (X.dp:Int))) (first|exact S0) (first|(go_at_call 288;refine (qr8 X d _ HD.out).mono ?_;rintro e w2 ⟨rfl,rfl⟩))
  all_goals
   go_wp2_with fail
   go_meet
   case rel=>exact ⟨by simp,(Sp.refl H1.out.1.s).drew⟩
 obtain ⟨rfl,HS1⟩:=hcut
 rename World=>w2
 have H2:Hid (Sp X d u d w2/\Bx X d w2 b3 #[ptr X.M]/\Bx X d w2 b4 (vA fnD)/\u.heap.size<=b3/\u.heap.size<=b4/\FnHas X d w2 (fn:Int) C B):=⟨H1.out.1.trans HS1.out,H1.out.2.1.step HS1.out,H1.out.2.2.1.step HS1.out,H1.out.2.2.2.1,H1.out.2.2.2.2,HFn.out.step (H1.out.1.trans HS1.out)⟩
 clear HS1 H1 HK1 hge
 go_upto_region 3 with fail
 go_cut [7] from 11 (fun s7 w=>∃ b7,s7=ptr b7/\Hid (Sp X d w2 d w/\Bx X d w b7 #[ptr C]/\u.heap.size<=b7))
 case first=>
  have HK:Hid (∀ w',Sp X d w2 d w'->w'.cell? ⟨b3,0,none⟩=some (ptr X.M)/\w'.cell? ⟨X.M,17,none⟩=some (.slice (some ⟨B,0,none⟩) 1 cc)/\w'.cell? ⟨b4,4,none⟩=some (.int .i64 0)/\w'.cell? ⟨B,0,none⟩=some (ptr C)):=fun w' k=>⟨(H2.out.2.1.step k).cell 0 rfl,by rw[<-HC.out];exact k.s.m.1.cell 17 rfl,(H2.out.2.2.1.step k).cell 4 rfl,(H2.out.2.2.2.2.2.step k).2.1⟩
  have S0:=HK.out _ (Sp.refl H2.out.1.s).drew
  have S1:=HK.out _ ((Sp.refl H2.out.1.s).alloc (.cells #[.pointer none] 368)).drew
  have S2:=HK.out _ ((Sp.refl H2.out.1.s).alloc (.cells #[ptr C] 368)).drew
  go_region_held3 (fun w'=>w'.cell? ⟨b3,0,none⟩=some (ptr X.M)/\w'.cell? ⟨X.M,17,none⟩=some (.slice (some ⟨B,0,none⟩) 1 cc)/\w'.cell? ⟨b4,4,none⟩=some (.int .i64 0)/\w'.cell? ⟨B,0,none⟩=some (ptr C)) (first|exact S0|exact S1|exact S2) (fail)
  all_goals
   go_wp2_with fail
   go_meet
   case rel=>exact ⟨w2.heap.size,rfl,((Sp.refl H2.out.1.s).alloc _).drew,(Bx.new H2.out.1.s _ _).step (Sp.refl (H2.out.1.s.alloc _)).drew,H2.out.1.g.size⟩
 obtain ⟨b7,rfl,H3a⟩:=hcut
 rename World=>w3
 have H3:Hid (Sp X d u d w3/\Bx X d w3 b3 #[ptr X.M]/\Bx X d w3 b4 (vA fnD)/\u.heap.size<=b3/\u.heap.size<=b4/\FnHas X d w3 (fn:Int) C B/\Bx X d w3 b7 #[ptr C]/\u.heap.size<=b7):=⟨H2.out.1.trans H3a.out.1,H2.out.2.1.step H3a.out.1,H2.out.2.2.1.step H3a.out.1,H2.out.2.2.2.1,H2.out.2.2.2.2.1,H2.out.2.2.2.2.2.step H3a.out.1,H3a.out.2.1,H3a.out.2.2⟩
 clear H2 H3a
 go_upto_region 4 with fail
 go_cut [8] from 11 (fun s8 w=>∃ b8 F V fa fc,s8=ptr b8/\Hid (Op X d u (xO X F V (fn:Int) (.slice aa lr.length ac) nv) (dO d F nv fa fc) w (fn:Int) C B b3 b4 b7 b8 F/\u.heap.size<=b8))
 case first=>
  have HK:Hid (∀ w',Sp X d w3 d w'->w'.cell? ⟨b3,0,none⟩=some (ptr X.M)/\w'.cell? ⟨b7,0,none⟩=some (ptr C)/\w'.cell? ⟨C,0,none⟩=some (.int .i64 (fn:Int))):=fun w' k=>⟨(H3.out.2.1.step k).cell 0 rfl,(H3.out.2.2.2.2.2.2.1.step k).cell 0 rfl,(H3.out.2.2.2.2.2.1.step k).1.cell 0 rfl⟩
  have S0:=HK.out _ (Sp.refl H3.out.1.s).drew
  have S1:=HK.out _ ((Sp.refl H3.out.1.s).alloc (.cells #[.pointer none] 125)).drew
  have KA:Hid (Sp X d w3 d w3.drew):=(Sp.refl H3.out.1.s).drew
  have KB:Hid (Sp X d w3 d (w3.alloc (.cells #[.pointer none] 125)).drew):=((Sp.refl H3.out.1.s).alloc _).drew
  have HBx:Hid (BxO X d (w3.alloc (.cells #[.pointer none] 125)).drew w3.heap.size #[.pointer none]):=(BxO.new H3.out.1.s _ _).step (Sp.refl (H3.out.1.s.alloc _)).drew
  go_region_held3 (fun w'=>w'.cell? ⟨b3,0,none⟩=some (ptr X.M)/\w'.cell? ⟨b7,0,none⟩=some (ptr C)/\w'.cell? ⟨C,0,none⟩=some (.int .i64 (fn:Int))) (first|exact S0|exact S1|exact S2|exact S3|exact S4)
   (first
    |(go_at_call 52;refine (q86 X d fn nf ub uo uc nv vc lr.length ac va aa _ KA.out.s HU.out.u HN.out.2.2.1 (by have h5:=H3.out.1.s.x.kd;have h6:=HN.out.1;omega) HN.out.2.2.2 HA.out.1).mono ?_;rintro e w4 ⟨F,V,fa,fc,rfl,ho⟩;have HR:Hid (Op X d u (xO X F V (fn:Int) (.slice aa lr.length ac) nv) (dO d F nv fa fc) (w4.alloc (.cells #[ptr F] 125)) (fn:Int) C B b3 b4 b7 w4.heap.size F/\u.heap.size<=w4.heap.size):=Op.mk0 H3.out KA.out ho;have S2:=q52 H3.out KA.out ho _ (fun _ _=>rfl);have S3:=q52 H3.out KA.out ho (w4.alloc (.cells #[.pointer none] 125)) (fun k hk=>Below.heap_alloc _ _ k (Nat.lt_of_lt_of_le hk (KA.out.tr.trans ho.tr).g.size));have S4:=q52 H3.out KA.out ho (w4.alloc (.cells #[ptr F] 125)) (fun k hk=>Below.heap_alloc _ _ k (Nat.lt_of_lt_of_le hk (KA.out.tr.trans ho.tr).g.size));clear ho)
    |(go_at_call 52;refine (q86 X d fn nf ub uo uc nv vc lr.length ac va aa _ KB.out.s HU.out.u HN.out.2.2.1 (by have h5:=H3.out.1.s.x.kd;have h6:=HN.out.1;omega) HN.out.2.2.2 HA.out.1).mono ?_;rintro e w4 ⟨F,V,fa,fc,rfl,ho⟩;have HR:Hid (Op X d u (xO X F V (fn:Int) (.slice aa lr.length ac) nv) (dO d F nv fa fc) (w4.setCell ⟨w3.heap.size,0,none⟩ (ptr F)) (fn:Int) C B b3 b4 b7 w3.heap.size F/\u.heap.size<=w3.heap.size):=Op.mk1 H3.out KB.out HBx.out ho;have S2:=q52 H3.out KB.out ho _ (fun _ _=>rfl);have S3:=q52 H3.out KB.out ho (w4.setCell ⟨w3.heap.size,0,none⟩ (ptr F)) (fun k hk=>Below.heap_setCell _ _ _ _ (show k≠w3.heap.size by omega));have hbz:=(HBx.out.tr ho.tr).1;have q0:=hbz.1.cell 0 rfl;have qz:=hbz.2;have ql:=hbz.1.1;clear ho hbz))
  all_goals
   go_wp2_with fail
   go_meet
   case rel=>exact ⟨_,F,V,fa,fc,rfl,HR⟩
 obtain ⟨b8,F,V,fa,fc,rfl,H4⟩:=hcut
 rename World=>w4
 clear H3
 go_upto_region 5 with fail
 go_cut [] from 11 (fun w=>Hid (Op X d u (xC X F V (fn:Int) (.slice aa lr.length ac) nv) (dO d F nv fa fc) w (fn:Int) C B b3 b4 b7 b8 F))
 case first=>
  have HK:Hid (∀ w',Gx (fun k=>k=F) w4 w'->w'.cell? ⟨b8,0,none⟩=some (ptr F)/\w'.cell? ⟨b7,0,none⟩=some (ptr C)/\w'.cell? ⟨C,1,none⟩=some (.slice none 0 0)/\w'.cell? ⟨b4,0,none⟩=some (.int .i64 6)/\w'.cell? ⟨b4,1,none⟩=some (.int .i64 0)/\w'.cell? ⟨b4,2,none⟩=some (.float .f64 0)/\w'.cell? ⟨b4,3,none⟩=some (.string ⟨#[]⟩)/\w'.cell? ⟨b4,4,none⟩=some (.int .i64 0)):=fun w' k=>z68 H4.out.1 k
  have f2:=H4.out.1.s.f.1.cell 2 rfl
  have f3:=H4.out.1.s.f.1.cell 3 rfl
  have f4:=H4.out.1.s.f.1.cell 4 rfl
  have f5:=H4.out.1.s.f.1.cell 5 rfl
  have f6:=H4.out.1.s.f.1.cell 6 rfl
  have f7:=H4.out.1.s.f.1.cell 7 rfl
  have fz:=H4.out.1.s.f.2
  have lF:=H4.out.1.s.f.1.1
  have S0:=HK.out w4.drew (GxS.drew (Gx.refl _ _))
  go_region_held3 (fun w'=>w'.cell? ⟨b8,0,none⟩=some (ptr F)/\w'.cell? ⟨b7,0,none⟩=some (ptr C)/\w'.cell? ⟨C,1,none⟩=some (.slice none 0 0)/\w'.cell? ⟨b4,0,none⟩=some (.int .i64 6)/\w'.cell? ⟨b4,1,none⟩=some (.int .i64 0)/\w'.cell? ⟨b4,2,none⟩=some (.float .f64 0)/\w'.cell? ⟨b4,3,none⟩=some (.string ⟨#[]⟩)/\w'.cell? ⟨b4,4,none⟩=some (.int .i64 0)) (first|with_reducible exact S0|(refine HK.out _ ?_;(repeat (first|with_reducible exact Gx.refl _ _|with_reducible refine GxS.set ?_ _ _|with_reducible refine GxS.drew ?_)))) (fail)
  all_goals
   go_wp2_with fail
   go_meet
   case rel=>exact Op.called H4.out.1
 have H5:=hcut
 rename World=>w5
 have HL8:Hid (u.heap.size<=b8):=H4.out.2
 clear H4 hcut
 obtain ⟨X',hX'⟩:∃ X',xC X F V (fn:Int) (.slice aa lr.length ac) nv=X':=⟨_,rfl⟩
 obtain ⟨d0,hd0⟩:∃ d0,dO d F nv fa fc=d0:=⟨_,rfl⟩
 have HXe:Hid (xC X F V (fn:Int) (.slice aa lr.length ac) nv=X'):=hX'
 have HDe:Hid (dO d F nv fa fc=d0):=hd0
 have HXM:Hid (X'.M=X.M/\X'.W=X.W/\X'.F=F/\X'.fns=X.fns/\X'.bod=X.bod):=by rw[<-hX'];exact ⟨rfl,rfl,rfl,rfl,rfl⟩
 have H6:Hid (Op X d u X' d0 w5 (fn:Int) C B b3 b4 b7 b8 F):=by rw[<-hX',<-hd0];exact H5.out
 clear H5 hX' hd0
 go_upto_region 6 with fail
 have hi0:(0:Int)<=(fn:Int):=Int.natCast_nonneg _
 have hi1:(fn:Int)<(nf:Int):=by have:=HU.out.u.i;omega
 go_cut [9] from 11 (fun s9 w=>∃ b9,s9=ptr b9/\Hid (Sp X' d0 w5 d0 w/\Bx X' d0 w b9 (fn7 nm fL va nv vc (.slice p1 p2 p3) (.slice q1 q2 q3))))
 case first=>
  have HK:Hid (∀ w',Sp X' d0 w5 d0 w'->w'.cell? ⟨b3,0,none⟩=some (ptr X.M)/\w'.cell? ⟨X.M,0,none⟩=some (.slice (some ⟨ub,uo,none⟩) nf uc)/\w'.cell? ⟨b7,0,none⟩=some (ptr C)/\w'.cell? ⟨C,0,none⟩=some (.int .i64 (fn:Int))/\w'.cell? ⟨ub,uo+fn*7,none⟩=some (.string nm)/\w'.cell? ⟨ub,uo+fn*7+1,none⟩=some (.int .i64 fL)/\w'.cell? ⟨ub,uo+fn*7+2,none⟩=some (.int .i64 0)/\w'.cell? ⟨ub,uo+fn*7+3,none⟩=some (.bool true)/\w'.cell? ⟨ub,uo+fn*7+4,none⟩=some (.slice va nv vc)/\w'.cell? ⟨ub,uo+fn*7+5,none⟩=some (.slice p1 p2 p3)/\w'.cell? ⟨ub,uo+fn*7+6,none⟩=some (.slice q1 q2 q3)):=fun w' k=>z69 HU.out HXM.out.1 HXM.out.2.1 HXM.out.2.2.2.1 H6.out k
  have HSp:Hid (Sp X' d0 w5 d0 w5):=Sp.refl H6.out.s
  go_region_held3 (fun w'=>w'.cell? ⟨b3,0,none⟩=some (ptr X.M)/\w'.cell? ⟨X.M,0,none⟩=some (.slice (some ⟨ub,uo,none⟩) nf uc)/\w'.cell? ⟨b7,0,none⟩=some (ptr C)/\w'.cell? ⟨C,0,none⟩=some (.int .i64 (fn:Int))/\w'.cell? ⟨ub,uo+fn*7,none⟩=some (.string nm)/\w'.cell? ⟨ub,uo+fn*7+1,none⟩=some (.int .i64 fL)/\w'.cell? ⟨ub,uo+fn*7+2,none⟩=some (.int .i64 0)/\w'.cell? ⟨ub,uo+fn*7+3,none⟩=some (.bool true)/\w'.cell? ⟨ub,uo+fn*7+4,none⟩=some (.slice va nv vc)/\w'.cell? ⟨ub,uo+fn*7+5,none⟩=some (.slice p1 p2 p3)/\w'.cell? ⟨ub,uo+fn*7+6,none⟩=some (.slice q1 q2 q3)) (first|(refine HK.out _ ?_;(repeat (first|with_reducible exact HSp.out|with_reducible refine Sp.alloc ?_ _|with_reducible refine Sp.drew ?_)))) (fail)
  all_goals
   go_wp2_with fail
   go_meet
   case rel=>exact ⟨_,rfl,(HSp.out.alloc _).drew,(Bx.new H6.out.s _ _).step (Sp.refl (H6.out.s.alloc _)).drew⟩
 obtain ⟨b9,rfl,H7a⟩:=hcut
 rename World=>w6
 have H7:Hid (Op X d u X' d0 w6 (fn:Int) C B b3 b4 b7 b8 F/\Bx X' d0 w6 b9 (fn7 nm fL va nv vc (.slice p1 p2 p3) (.slice q1 q2 q3))):=⟨H6.out.step H7a.out.1,H7a.out.2⟩
 clear H6 H7a hi0 hi1
 go_upto_region 7 with fail
 go_cut [] from 11 (fun w=>∃ d1,Hid (Op X d u X' d1 w (fn:Int) C B b3 b4 b7 b8 F/\Bx X' d1 w b9 (fn7 nm fL va nv vc (.slice p1 p2 p3) (.slice q1 q2 q3))/\d1.p=d0.p.plus [⟨2,0,(fn:Int),fL,nm⟩] 0))
 case first=>
  have HK:Hid (∀ d' w',Sp X' d0 w6 d' w'->w'.cell? ⟨b3,0,none⟩=some (ptr X.M)/\w'.cell? ⟨b7,0,none⟩=some (ptr C)/\w'.cell? ⟨C,0,none⟩=some (.int .i64 (fn:Int))/\w'.cell? ⟨b9,0,none⟩=some (.string nm)/\w'.cell? ⟨b9,1,none⟩=some (.int .i64 fL)):=fun d' w' k=>⟨(H7.out.1.x3.step k).cell 0 rfl,(H7.out.1.x7.step k).cell 0 rfl,(H7.out.1.f.step k).1.cell 0 rfl,(H7.out.2.step k).cell 0 rfl,(H7.out.2.step k).cell 1 rfl⟩
  have S0:=HK.out d0 _ (Sp.refl H7.out.1.s).drew
  have HSd:Hid (St X' d0 w6.drew):=H7.out.1.s.drew
  have hrec:d0.recs.length<5000:=by rw[<-HDe.out];show d.recs.length<5000;have:=HN.out.2.1;omega
  have hXM:=HXM.out.1
  go_region_held3 (fun w'=>w'.cell? ⟨b3,0,none⟩=some (ptr X.M)/\w'.cell? ⟨b7,0,none⟩=some (ptr C)/\w'.cell? ⟨C,0,none⟩=some (.int .i64 (fn:Int))/\w'.cell? ⟨b9,0,none⟩=some (.string nm)/\w'.cell? ⟨b9,1,none⟩=some (.int .i64 fL)) (first|with_reducible exact S0|with_reducible exact S1) (first|(go_at_call 142;have hRc:=q31 X' d0 2 (fn:Int) fL nm _ HSd.out hrec;rw[hXM] at hRc;refine hRc.mono ?_;clear hRc;rintro e w7 ⟨rfl,d1,hs7,e7⟩;have S1:=HK.out d1 w7 ((Sp.refl H7.out.1.s).drew.trans hs7);have HR:Hid (Op X d u X' d1 w7 (fn:Int) C B b3 b4 b7 b8 F/\Bx X' d1 w7 b9 (fn7 nm fL va nv vc (.slice p1 p2 p3) (.slice q1 q2 q3))/\d1.p=d0.p.plus [⟨2,0,(fn:Int),fL,nm⟩] 0):=⟨H7.out.1.step ((Sp.refl H7.out.1.s).drew.trans hs7),H7.out.2.step ((Sp.refl H7.out.1.s).drew.trans hs7),by rw[e7,DP.rcd_plus]⟩;clear hs7 e7))
  all_goals
   go_wp2_with fail
   go_meet
   case rel=>exact ⟨_,HR⟩
 obtain ⟨d1,H8⟩:=hcut
 rename World=>w8
 clear H7
 have HAtt:Hid (Calls Tryz.prog 53 #[ptr F,opnV b3 b7 b8] w8 fun e w'=>q11 X' d1 w8 (qj3 X' (w8.heap.size+3) cd lE tr (d1.p.plus rs tt)) e w'):=by
  have hX:=HXe.out
  have hD:=HDe.out
  subst hX hD
  have hz:=za8 _ d1 b3 b7 b8 (w8.heap.size+3) cd lE tr _ w8 H8.out.1.s (z59 _ d1 b3 b7 b8 cd lE tr ((d1.p.plus rs tt).ln L') w8 H8.out.1.s (Nat.le_refl _) (fun w2 k hsz=>?_))
  ·have he:=DP.caught_eq d1.p rs tt L'
   rw[show (((d1.p.plus rs tt).ln L').cutH d1.held.length).ln d1.line=d1.p.plus rs tt from he] at hz
   exact hz
  refine zw5 _ d1 b3 b7 b8 C fn nf bo bc k1 _ w2 k.s (H8.out.1.x3.step k) (H8.out.1.x7.step k) (H8.out.1.x8.step k) (H8.out.1.f.step k).1 HBo.out.1 HU.out.u.i HBo.out.2 (fun w3 k3 hsz3=>?_)
  have hA:=HA.out.2.1.tr HA.out.2.2 (H8.out.1.t.trans (k.trans k3).tr)
  refine (HBody.out F V fa fc d1 w3 k3.s H8.out.2.2 hA.1 hA.2 (H8.out.1.t.trans (k.trans k3).tr) (H8.out.1.p.step (k.trans k3))).mono ?_
  rintro e w' ⟨E,d',rfl,hs,hr⟩
  exact ⟨E,d',rfl,hs,hr.mono (by omega)⟩
 have b80:=H8.out.1.x8.cell 0 rfl
 have hmf:=qf9
 go_wp2_with fail
 refine HAtt.out.mono ?_
 rintro e w9 ⟨way,d3,rfl,hs3,E,rfl,hr3⟩
 have HN0:Hid (u.heap.size<=w8.heap.size+3):=Nat.le_trans H8.out.1.t.g.size (by omega)
 have H9:Hid (Op X d u X' d3 w9 (fn:Int) C B b3 b4 b7 b8 F/\Bx X' d3 w9 b9 (fn7 nm fL va nv vc (.slice p1 p2 p3) (.slice q1 q2 q3))/\Thr X' (w8.heap.size+3) cd lE tr (d0.p.plus ([⟨2,0,(fn:Int),fL,nm⟩]++rs) tt) E d3 w9):=⟨H8.out.1.step hs3,H8.out.2.1.step hs3,by
  have e1:d1.p.plus rs tt=d0.p.plus ([⟨2,0,(fn:Int),fL,nm⟩]++rs) tt:=by rw[H8.out.2.2,DP.plus_plus,Nat.zero_add]
  rw[e1] at hr3
  exact hr3⟩
 obtain ⟨N0,hN0⟩:∃ N0,w8.heap.size+3=N0:=⟨_,rfl⟩
 rw[hN0] at H9 HN0
 clear hs3 hr3 HAtt H8 b80 hmf hN0
 go_upto_region 9 with fail
 go_cut [] from 11 (fun w=>∃ d4,Hid (Sp X' d3 w9 d4 w/\d4.p=d3.p))
 case first=>
  have hsc:d3.sc=[]:=by
   have h1:d3.sc=d0.sc:=by
    obtain ⟨N,K,t1,c1,v,_,e,_⟩:=H9.out.2.2
    exact congrArg DP.sc e
   rw[h1,<-HDe.out]
  have hXF:=HXM.out.2.2.1
  have f10:w9.cell? ⟨F,10,none⟩=some (.slice d3.sa 0 d3.sp):=by
   have h1:w9.cell? ⟨X'.F,10,none⟩=some (.slice d3.sa d3.sc.length d3.sp):=H9.out.1.s.f.1.cell 10 rfl
   rw[hXF,hsc] at h1
   exact h1
  have fz:∀ o,w9.frozen? ⟨F,o,none⟩=false:=by
   have h1:=H9.out.1.s.f.2
   rw[hXF] at h1
   exact h1
  have lF:F<w9.heap.size:=by rw[<-hXF];exact H9.out.1.s.f.1.1
  have hif:=qf7 d3.sa (d3.sp=0) (H9.out.1.s.scCap.2.elim (fun h=>.inl h.1) .inr)
  have hSp:Sp X' d3 w9 {d3 with sc:=d3.sc.take 0} (w9.setCell ⟨F,10,none⟩ (.slice d3.sa 0 d3.sp)):=by
   rw[<-hXF]
   exact Sp.cutS H9.out.1.s (m:=0) (Nat.zero_le _)
  have HR:Hid (Sp X' d3 w9 {d3 with sc:=d3.sc.take 0} (w9.setCell ⟨F,10,none⟩ (.slice d3.sa 0 d3.sp)).drew/\({d3 with sc:=d3.sc.take 0}:MD).p=d3.p):=⟨hSp.drew,by rw[hsc];simp[MD.p,hsc]⟩
  have S0:w9.cell? ⟨b8,0,none⟩=some (ptr F)/\w9.cell? ⟨b9,2,none⟩=some (.int .i64 0):=⟨H9.out.1.x8.cell 0 rfl,H9.out.2.1.cell 2 rfl⟩
  have S1:((w9.setCell ⟨F,10,none⟩ (.slice d3.sa 0 d3.sp)).drew).cell? ⟨b8,0,none⟩=some (ptr F)/\((w9.setCell ⟨F,10,none⟩ (.slice d3.sa 0 d3.sp)).drew).cell? ⟨b9,2,none⟩=some (.int .i64 0):=⟨(H9.out.1.x8.step hSp.drew).cell 0 rfl,(H9.out.2.1.step hSp.drew).cell 2 rfl⟩
  clear hSp hsc hXF
  refine wp_region_held_drew (S:=fun w'=>w'.cell? ⟨b8,0,none⟩=some (ptr F)/\w'.cell? ⟨b9,2,none⟩=some (.int .i64 0)) (by kernel_rfl) S0 (fun hHold=>?_)
  refine wpAnyH_take (i:=0) (oi:=⟨some 72,_,_,_,_,_⟩) (v:=?v1) rfl (by kernel_rfl) (by kernel_rfl) (by kernel_rfl) (fun _ _ _ h=>h) (Or.inl ⟨by rfl,?hy1⟩) (by assumption) ?rest1
  case hy1=>(intro wz hSw;(try dsimp only at hSw);go_simp<;>with_reducible rfl)
  try simp only[Act.put,zz1,zz2,zz3]
  refine wpAnyH_take (i:=1) (oi:=⟨some 73,_,_,_,_,_⟩) (v:=?v2) rfl (by kernel_rfl) (by kernel_rfl) (by kernel_rfl) (fun _ _ _ h=>h) (Or.inl ⟨by rfl,?hy2⟩) (by assumption) ?rest2
  case hy2=>(intro wz hSw;(try dsimp only at hSw);go_simp<;>with_reducible rfl)
  try simp only[Act.put,zz1,zz2,zz3]
  refine wpAnyH_take (i:=2) (oi:=⟨some 74,_,_,_,_,_⟩) (v:=?v3) rfl (by kernel_rfl) (by kernel_rfl) (by kernel_rfl) (fun _ _ _ h=>h) (Or.inl ⟨by rfl,?hy3⟩) (by assumption) ?rest3
  case hy3=>(intro wz hSw;(try dsimp only at hSw);go_simp<;>with_reducible rfl)
  try simp only[Act.put,zz1,zz2,zz3]
  refine wpAnyH_take (i:=3) (oi:=⟨some 75,_,_,_,_,_⟩) (v:=?v4) rfl (by kernel_rfl) (by kernel_rfl) (by kernel_rfl) (fun _ _ _ h=>h) (Or.inl ⟨by rfl,?hy4⟩) (by assumption) ?rest4
  case hy4=>(intro wz hSw;(try dsimp only at hSw);go_simp<;>with_reducible rfl)
  try simp only[Act.put,zz1,zz2,zz3]
  refine wpAnyH_take (i:=5) (oi:=⟨some 77,_,_,_,_,_⟩) (v:=?v5) rfl (by kernel_rfl) (by kernel_rfl) (by kernel_rfl) (fun _ _ _ h=>h) (Or.inl ⟨by rfl,?hy5⟩) (by assumption) ?rest5
  case hy5=>(intro wz hSw;(try dsimp only at hSw);go_simp<;>with_reducible rfl)
  try simp only[Act.put,zz1,zz2,zz3]
  refine wpAnyH_take (i:=6) (oi:=⟨some 78,_,_,_,_,_⟩) (v:=?v6) rfl (by kernel_rfl) (by kernel_rfl) (by kernel_rfl) (fun _ _ _ h=>h) (Or.inl ⟨by rfl,?hy6⟩) (by assumption) ?rest6
  case hy6=>(intro wz hSw;(try dsimp only at hSw);go_simp<;>with_reducible rfl)
  try simp only[Act.put,zz1,zz2,zz3]
  refine wpAnyH_ready (rs:=[4]) (by kernel_rfl) (by simp) ?_
  refine AllReadyH.cons (o:=⟨some 76,_,_,_,_,_⟩) rfl (fun K hK=>?_) AllReadyH.nil
  go_simp
  refine hK.out _ _ S0 (fun hHeld=>?_)
  clear hK K hHold
  have hHold:=hHeld
  clear hHeld
  try simp only[Act.put,zz1,zz2,zz3]
  refine wpAnyH_take (i:=7) (oi:=⟨some 79,_,_,_,_,_⟩) (v:=?v7) rfl (by kernel_rfl) (by kernel_rfl) (by kernel_rfl) (fun _ _ _ h=>h) (Or.inl ⟨by rfl,?hy7⟩) (by assumption) ?rest7
  case hy7=>(intro wz hSw;(try dsimp only at hSw);go_simp<;>with_reducible rfl)
  try simp only[Act.put,zz1,zz2,zz3]
  refine wpAnyH_take (i:=8) (oi:=⟨some 80,_,_,_,_,_⟩) (v:=?v8) rfl (by kernel_rfl) (by kernel_rfl) (by kernel_rfl) (fun _ _ _ h=>h) (Or.inl ⟨by rfl,?hy8⟩) (by assumption) ?rest8
  case hy8=>(intro wz hSw;(try dsimp only at hSw);go_simp<;>with_reducible rfl)
  try simp only[Act.put,zz1,zz2,zz3]
  refine wpAnyH_take (i:=9) (oi:=⟨some 81,_,_,_,_,_⟩) (v:=?v9) rfl (by kernel_rfl) (by kernel_rfl) (by kernel_rfl) (fun _ _ _ h=>h) (Or.inl ⟨by rfl,?hy9⟩) (by assumption) ?rest9
  case hy9=>(intro wz hSw;(try dsimp only at hSw);go_simp<;>with_reducible rfl)
  try simp only[Act.put,zz1,zz2,zz3]
  refine wpAnyH_ready (rs:=[10]) (by kernel_rfl) (by simp) ?_
  refine AllReadyH.cons (o:=⟨none,_,_,_,_,_⟩) rfl (fun K hK=>?_) AllReadyH.nil
  go_simp
  refine hK.out _ _ S1 (fun hHeld=>?_)
  clear hK K hHold
  have hHold:=hHeld
  clear hHeld
  try simp only[Act.put,zz1,zz2,zz3]
  refine wpAnyH_done (by kernel_rfl) ?_ _
  go_wp2_with fail
  go_meet
  case rel=>exact ⟨_,HR⟩
 obtain ⟨d4,H10a⟩:=hcut
 rename World=>w10
 have H10:Hid (Op X d u X' d4 w10 (fn:Int) C B b3 b4 b7 b8 F/\Thr X' N0 cd lE tr (d0.p.plus ([⟨2,0,(fn:Int),fL,nm⟩]++rs) tt) E d4 w10):=⟨H9.out.1.step H10a.out.1,H9.out.2.2.step H10a.out.1 (fun t v e=>by rw[H10a.out.2];exact e)⟩
 clear H9 H10a
 go_upto_region 10 with fail
 have HE':Hid (EtX X'):=by
  have h1:=HE.out
  unfold EtX at h1 ⊢
  rw[HXM.out.1,HXM.out.2.1]
  exact h1
 go_cut [] from 11 (fun w=>∃ d5,Hid (Op X d u X' d5 w (fn:Int) C B b3 b4 b7 b8 F/\Thr X' N0 cd lE tr (d0.p.plus ([⟨2,0,(fn:Int),fL,nm⟩]++rs++[⟨3,0,(fn:Int),0,sErr⟩]) tt) E d5 w))
 case first=>
  have HK:Hid (∀ d' w',Sp X' d4 w10 d' w'->w'.cell? ⟨b3,0,none⟩=some (ptr X.M)/\w'.cell? ⟨b7,0,none⟩=some (ptr C)/\w'.cell? ⟨C,0,none⟩=some (.int .i64 (fn:Int))):=fun d' w' k=>⟨(H10.out.1.x3.step k).cell 0 rfl,(H10.out.1.x7.step k).cell 0 rfl,(H10.out.1.f.step k).1.cell 0 rfl⟩
  have S0:=HK.out d4 _ (Sp.refl H10.out.1.s).drew
  have KA:Hid (Sp X' d4 w10 d4 w10.drew):=(Sp.refl H10.out.1.s).drew
  have hrec:d4.recs.length<5000:=by
   have h1:d4.recs=d0.recs++([⟨2,0,(fn:Int),fL,nm⟩]++rs):=by
    obtain ⟨N,K,t1,c1,v,_,e,_⟩:=H10.out.2
    exact congrArg DP.recs e
   have h2:d0.recs=d.recs:=by rw[<-HDe.out]
   have h3:=HN.out.2.1
   rw[h1,h2]
   simp
   omega
  have hXM:=HXM.out.1
  go_region_held3 (fun w'=>w'.cell? ⟨b3,0,none⟩=some (ptr X.M)/\w'.cell? ⟨b7,0,none⟩=some (ptr C)/\w'.cell? ⟨C,0,none⟩=some (.int .i64 (fn:Int))) (first|with_reducible exact S0|with_reducible exact S1|with_reducible exact S2)
   (first
    |(go_at_call 290;refine (zi7 E _ (HE'.out.at KA.out.s)).mono ?_;rintro e w11 ⟨rfl,hb11⟩;have KB:Hid (Sp X' d4 w10 d4 w11):=KA.out.call hb11;have S1:=HK.out d4 w11 KB.out;clear hb11)
    |(go_at_call 142;have hRc:=q31 X' d4 3 (fn:Int) 0 sErr _ KB.out.s hrec;rw[hXM] at hRc;refine hRc.mono ?_;clear hRc;rintro e w12 ⟨rfl,d5,hs12,e12⟩;have S2:=HK.out d5 w12 (KB.out.trans hs12);have HR:Hid (Op X d u X' d5 w12 (fn:Int) C B b3 b4 b7 b8 F/\Thr X' N0 cd lE tr (d0.p.plus ([⟨2,0,(fn:Int),fL,nm⟩]++rs++[⟨3,0,(fn:Int),0,sErr⟩]) tt) E d5 w12):=⟨H10.out.1.step (KB.out.trans hs12),H10.out.2.step (KB.out.trans hs12) (fun t v e=>by rw[e12,e,DP.rcd_plus];show ((d0.p.plus ([⟨2,0,(fn:Int),fL,nm⟩]++rs) tt).plus [⟨3,0,(fn:Int),0,sErr⟩] 0).tbl t v=_;rw[DP.plus_plus,Nat.add_zero])⟩;clear hs12 e12))
  all_goals
   go_wp2_with fail
   go_meet
   case rel=>exact ⟨_,HR⟩
 obtain ⟨d5,H11⟩:=hcut
 rename World=>w13
 clear H10
 have hSR:SameRun X X':=by rw[<-HXe.out];exact SameRun.xC _ _ _ _ _ _
 have HSR:Hid (SameRun X X'):=hSR
 have hfr:d5.fr=d.fr++[ptr X'.F]:=by
  have h1:d5.fr=d0.fr:=by
   obtain ⟨N,K,t1,c1,v,_,e,_⟩:=H11.out.2
   exact congrArg DP.fr e
  rw[h1,HXM.out.2.2.1,<-HDe.out]
 have hcl:=qr9 X X' d d5 w13 H11.out.1.s hSR H11.out.1.p hfr
 rw[HXM.out.2.2.1] at hcl
 have HCl:Hid (Calls Tryz.prog 291 #[ptr X.M,ptr F] w13 fun e w'=>e=.returned (.tuple #[])/\St X (dBk d d5) w'/\Gx (fun k=>k=X.T) w13 w'):=hcl
 have b30:=H11.out.1.x3.cell 0 rfl
 have b80:=H11.out.1.x8.cell 0 rfl
 clear hcl hfr hSR
 go_wp2_with fail
 refine HCl.out.mono ?_
 rintro e w14 ⟨rfl,hS14,hg14⟩
 have hrl:=Thr.back (q':=d.p.plus ([⟨2,0,(fn:Int),fL,nm⟩]++rs++[⟨3,0,(fn:Int),0,sErr⟩]) tt) H11.out.1.t HSR.out hS14 hg14 H11.out.2 HN0.out HS.out (fun t v e=>yg4 t v (by rw[HDe.out];exact e))
 have H14:Hid (Sp X d u (dBk d d5) w14/\Thr X u.heap.size cd lE tr (d.p.plus ([⟨2,0,(fn:Int),fL,nm⟩]++rs++[⟨3,0,(fn:Int),0,sErr⟩]) tt) E (dBk d d5) w14):=hrl
 clear hS14 hg14 hrl b30 b80 HCl
 go_wp2_with fail
 refine (qo7 E _).mono ?_
 rintro e w15 ⟨rfl,hb15⟩
 have HF:Hid (PanE X d u (Thr X u.heap.size cd lE tr (d.p.plus ([⟨2,0,(fn:Int),fL,nm⟩]++rs++[⟨3,0,(fn:Int),0,sErr⟩]) tt)) (.panicked (thC E)) w15):=⟨E,dBk d d5,rfl,H14.out.1.call hb15,H14.out.2.step (Sp.below H14.out.1.s hb15) (fun t v e=>e)⟩
 clear hb15
 go_wp2_with fail
 simp[bodyPost]
 exact HF.out
end Go.Proofs.YtaimofjekgnieaaGreatDoor
namespace Go.Proofs.YtaimofjekgnieaaGreatDoor
open Go.RowKit
def Frs (X:RX) (ub uo nf:Nat) (fxs:Nat->FrD) (d:MD) (w:World):Prop:=∀ i,i+1<X.fl->FrOk X ub uo nf (fxs i) w/\d.fr[i]?=some (ptr (fxs i).F)/\¬stB X d (fxs i).F
structure TopF (X:RX) (ub uo nf fn:Nat) (nm:ByteArray):Prop where
 e:X.fn=(fn:Int)
 lt:fn<nf
 n:X.W.cell? ⟨ub,uo+fn*7,none⟩=some (.string nm)
 sz:nm.size<=1000
def frsT (X:RX) (fxs:Nat->FrD) (fn:Nat) (nm:ByteArray) (ln:Int) (i:Nat):FrD:=if i+1<X.fl then fxs i else ⟨X.F,fn,ln,nm⟩
theorem FrOk.keep {X X':RX} {ub uo nf:Nat} {f:FrD} {u w:World} (h:FrOk X ub uo nf f u) (hs:u.heap.size<=w.heap.size) (hk:w.heap[f.F]?=u.heap[f.F]?) (hW:X'.W=X.W):FrOk X' ub uo nf f w:=
 ⟨Nat.lt_of_lt_of_le h.lt hs,(World.cell?_of_block (a:=⟨f.F,1,none⟩) hk).trans h.c1,(World.cell?_of_block (a:=⟨f.F,12,none⟩) hk).trans h.c12,h.ln,h.fn,by rw[hW];exact h.nm,h.sz⟩
theorem Frs.step {X:RX} {ub uo nf:Nat} {fxs:Nat->FrD} {d d':MD} {u w:World} (h:Frs X ub uo nf fxs d u) (k:Sp X d u d' w) (hf:d'.fr=d.fr):Frs X ub uo nf fxs d' w:=fun i hi=>by
 obtain ⟨h1,h2,h3⟩:=h i hi
 exact ⟨h1.keep k.g.size (k.g.block _ h1.lt h3) rfl,by rw[hf];exact h2,fun c=>h3 (k.mv _ h1.lt c)⟩
theorem TopF.ok {X:RX} {ub uo nf fn:Nat} {nm:ByteArray} {d:MD} {w:World} (h:TopF X ub uo nf fn nm) (s:St X d w) (hl:I64r d.line):FrOk X ub uo nf ⟨X.F,fn,d.line,nm⟩ w:=
 ⟨s.f.1.1,by
  show w.cell? ⟨X.F,1,none⟩=some (.int .i64 (fn:Int))
  rw[<-h.e]
  exact s.f.1.cell 1 rfl,s.f.1.cell 12 rfl,hl,h.lt,h.n,h.sz⟩
theorem Frs.all {X:RX} {ub uo nf fn:Nat} {nm:ByteArray} {fxs:Nat->FrD} {d:MD} {w:World} (h:Frs X ub uo nf fxs d w) (t:TopF X ub uo nf fn nm) (s:St X d w) (hl:I64r d.line):(∀ i,i<X.fl->FrOk X ub uo nf (frsT X fxs fn nm d.line i) w/\d.fr[i]?=some (ptr (frsT X fxs fn nm d.line i).F))/\∀ i,i<X.fl->(frsT X fxs fn nm d.line i).F=X.F\/¬stB X d (frsT X fxs fn nm d.line i).F:=by
 have hc:∀ i,i<X.fl->¬(i+1<X.fl)->i=X.fl-1:=fun i h1 h2=>by omega
 refine ⟨fun i hi=>?_,fun i hi=>?_⟩
 ·unfold frsT
  by_cases hh:i+1<X.fl
  ·rw[if_pos hh]
   exact ⟨(h i hh).1,(h i hh).2.1⟩
  ·rw[if_neg hh]
   refine ⟨t.ok s hl,?_⟩
   rw[hc i hi hh]
   exact s.r0
 ·unfold frsT
  by_cases hh:i+1<X.fl
  ·rw[if_pos hh]
   exact .inr (h i hh).2.2
  ·rw[if_neg hh]
   exact .inl rfl
theorem Frs.open {X X':RX} {ub uo nf fn:Nat} {nm:ByteArray} {fxs:Nat->FrD} {d d1:MD} {u w:World} (h:Frs X ub uo nf fxs d u) (t:TopF X ub uo nf fn nm) (s:St X d u) (hl:I64r d.line) (k:Tr X d u X' d1 w) (p:ParF X d X' d1 w) (hs:SameRun X X') (hf:d1.fr=d.fr++[ptr X'.F]):Frs X' ub uo nf (frsT X fxs fn nm d.line) d1 w:=fun i hi=>by
 have hfl:d.fr.length=X.fl:=by have:=s.fw.1;omega
 have hi':i<X.fl:=by have:=hs.fl;omega
 obtain ⟨ho,hr⟩:=(h.all t s hl).1 i hi'
 have hfr:d1.fr[i]?=some (ptr (frsT X fxs fn nm d.line i).F):=by
  rw[hf,List.getElem?_append_left (by omega)]
  exact hr
 rcases (h.all t s hl).2 i hi' with e|e
 ·refine ⟨⟨?_,?_,?_,ho.ln,ho.fn,by rw[hs.W];exact ho.nm,ho.sz⟩,hfr,?_⟩
  ·rw[e];exact p.1.tf.lt
  ·have h1:w.cell? ⟨X.F,1,none⟩=some (.int .i64 X.fn):=p.1.f.1.cell 1 rfl
   have h2:u.cell? ⟨X.F,1,none⟩=some (.int .i64 X.fn):=s.f.1.cell 1 rfl
   have h3:=ho.c1
   rw[e] at h3 ⊢
   rw[h1,<-h2]
   exact h3
  ·have h1:w.cell? ⟨X.F,12,none⟩=some (.int .i64 d.line):=p.1.f.1.cell 12 rfl
   have h2:u.cell? ⟨X.F,12,none⟩=some (.int .i64 d.line):=s.f.1.cell 12 rfl
   have h3:=ho.c12
   rw[e] at h3 ⊢
   rw[h1,<-h2]
   exact h3
  ·rw[e];exact p.2 _ (.inl rfl)
 ·exact ⟨ho.keep k.g.size (k.g.block _ ho.lt e) hs.W,hfr,fun c=>e (k.mv _ ho.lt c)⟩
theorem DP.begun_rcd (p:DP) (f L:Int) (x:RcD):(p.begun f L).rcd x=(p.plus [⟨1,0,f,L,⟨#[]⟩⟩,x] 1).ln L:=by
 simp[DP.begun,DP.rcd,DP.plus,DP.ln,DP.tick]
theorem dec4:bA (decB 4)=⟨#[52]⟩/\I64r 4:=⟨by kernel_rfl,by decide,by decide⟩
theorem zz9 (G:GI) (X:RX) (d:MD) (k ac ub uo nf uc fn:Nat) (nm:ByteArray) (fxs:Nat->FrD) (aa:Option Addr) (lr:List VD) (u:World) (hG:G.ok X k) (h:St X d u) (hr:X.rest=.slice aa lr.length ac) (hnil:lr=[]->aa=none/\ac=0) (hl:Lst u aa lr) (hnb:∀ ad,aa=some ad->lr≠[]->¬stB X d ad.block) (hk:1<=k) (hk2:k<=250) (hm:250<k+lr.length) (hm2:lr.length<=250) (hh:d.held.length<=700) (hrec:d.recs.length<4000) (ht:d.ti<X.tk)
  (kb1:Od X G.b1 #[ptr G.bb]) (hf:X.fns=.slice (some ⟨ub,uo,none⟩) nf uc) (hub:ub<X.W.heap.size/\ub≠X.M) (hF:Frs X ub uo nf fxs d u) (hTop:TopF X ub uo nf fn nm) (hL:I64r G.L) (hT:TabX X) (htb:d.tab=.slice none 0 0) (hlv:d.liv=.slice none 0 0) :
  Calls Tryz.prog 163 #[ptr X.F,ptr G.k1] u fun e w'=>PanE X d u (Thr X u.heap.size 4 G.L (trS (frsT X fxs fn nm G.L) X.fl) ((d.p.plus [⟨1,0,X.fn,G.L,⟨#[]⟩⟩,⟨4,0,X.fn,G.L,sEc 52⟩] 1).ln G.L)) e w':=by
 refine y21 X d G.k1 G.ka 0 G.kc G.s1 G.s2 G.s3 _ u h hG.k1 hG.ka ?_
 refine zu1 X d G.s1 G.s2 G.s3 G.bb G.x1 G.nd G.A2 G.L _ u h hG.s1 hG.bb hG.s2 hG.A2 hG.s3 hrec ht (fun d3 w3 k3 e3=>?_)
 have hh3:d3.held=d.held:=congrArg DP.held e3
 have hl3:=hl.step hnb k3
 refine yd9 X d3 G.x1 G.l1 G.l2 G.b1 _ w3 k3.s hG.x1 ?_
 refine zg8 X d3 G.l1 G.l2 G.b1 G.o (q42 k) lr d3.p G.bb G.nd _ w3 k3.s hG.l1 hG.l2 rfl ?_ (fun d4 w4 k4 e4=>?_) (by rw[hh3];simp;omega) (by simpa using hm) (by simp;omega) kb1 hG.bb (fun d4 w4 k4 e4=>?_)
 ·rw[<-zs4]
  refine (q81 X d3 G.o G.la k G.lc G.Bs (fun _=>inD 1) w3 k3.s hG.o.1 hG.o.2 hG.ls (by omega) (by omega) (by rw[hh3];omega)).mono ?_
  intro e w' he
  exact qd1 he
 ·have hl4:=hl3.1.step hl3.2 k4
  have:=qv8 X d4 aa ac lr w4 k4.s hr hnil hl4.1 hl4.2
  rw[e4] at this
  exact this
 ·have e5:d4.p=d.p.begun X.fn G.L:=by rw[e4,e3]
  have hln:d4.line=G.L:=congrArg DP.line e5
  have hfr:d4.fr=d.fr:=congrArg DP.fr e5
  have hr4:d4.recs=d.recs++[⟨1,0,X.fn,G.L,⟨#[]⟩⟩]:=congrArg DP.recs e5
  have htb4:d4.tab=d.tab:=congrArg DP.tab e5
  have hlv4:d4.liv=d.liv:=congrArg DP.liv e5
  have hF4:=hF.step (k3.trans k4) hfr
  have hall:=hF4.all hTop k4.s (by rw[hln];exact hL)
  refine (z29 X 4 52 dec4 d4 ub uo nf uc (frsT X fxs fn nm d4.line) w4 k4.s hf hub hall.1 hT (by rw[hr4];simp;omega) (htb4.trans htb) (hlv4.trans hlv) hall.2).mono ?_
  rintro e w' ⟨E,d',rfl,hs,hth⟩
  refine ⟨E,d',rfl,hs,?_⟩
  have hth2:=hth.mono (Nat.le_trans k3.g.size k4.g.size)
  rw[hln,e5,DP.begun_rcd] at hth2
  exact hth2
abbrev FI.bad (I:FI):List RcD:=[⟨2,0,(I.fn:Int),I.fL,I.nm⟩,⟨1,0,(I.fn:Int),I.G.L,⟨#[]⟩⟩,⟨4,0,(I.fn:Int),I.G.L,sEc 52⟩,⟨3,0,(I.fn:Int),0,sErr⟩]
structure FI.bok (I:FI) (X:RX):Prop where
 b1:Od X I.G.b1 #[ptr I.G.bb]
 sz:I.nm.size<=1000
 L:I64r I.G.L
 t:TabX X
def FI.tr (I:FI) (X:RX) (fxs:Nat->FrD) (fn0:Nat) (nm0:ByteArray) (ln:Int) (F:Nat):ByteArray:=trS (fun i=>if i+1<X.fl+1 then frsT X fxs fn0 nm0 ln i else ⟨F,I.fn,I.G.L,I.nm⟩) (X.fl+1)
theorem y36 (f g:Nat->FrD) (n:Nat) (h:∀ i,(f i).text=(g i).text):trS f n=trS g n:=by
 unfold trS
 rw[show (fun i=>(f i).text)=fun i=>(g i).text from funext h]
theorem FI.tr_F (I:FI) (X:RX) (fxs:Nat->FrD) (fn0:Nat) (nm0:ByteArray) (ln:Int) (F F':Nat):I.tr X fxs fn0 nm0 ln F=I.tr X fxs fn0 nm0 ln F':=y36 _ _ _ fun i=>by
 by_cases h:i+1<X.fl+1
 ·simp only[if_pos h]
 ·simp only[if_neg h]
  rfl
theorem zz8 (I:FI) (X:RX) (d:MD) (k C B cc ac fn0:Nat) (nm0:ByteArray) (fxs:Nat->FrD) (aa:Option Addr) (lr:List VD) (u:World) (hI:I.ok X k) (hB:I.bok X) (h:St X d u) (hfn:FnHas X d u (I.fn:Int) C B) (hcls:d.cls=.slice (some ⟨B,0,none⟩) 1 cc) (hdep:X.fl<X.dp) (hrec:d.recs.length<3000) (hac:lr.length<=ac) (hform:aa=none\/∃ g,aa=some (⟨g,0,none⟩:Addr)) (hnil:lr=[]->aa=none/\ac=0) (hl:Lst u aa lr) (hnb:∀ ad,aa=some ad->lr≠[]->¬stB X d ad.block) (hk:1<=k) (hk2:k<=250) (hm:250<k+lr.length) (hm2:lr.length<=250) (hh:d.held.length<=700) (ht:d.ti<X.tk)
  (hF:Frs X I.ub I.uo I.nf fxs d u) (hTop:TopF X I.ub I.uo I.nf fn0 nm0) (hln:I64r d.line) (htb:d.tab=.slice none 0 0) (hlv:d.liv=.slice none 0 0) :
  Calls Tryz.prog 242 #[ptr X.M,fnD.v,.slice aa lr.length ac] u fun e w'=>PanE X d u (Thr X u.heap.size 4 I.G.L (I.tr X fxs fn0 nm0 d.line 0) (d.p.plus I.bad 1)) e w':=by
 refine y53 X d I.fn I.nf I.ub I.uo I.uc I.nv I.vc I.bo I.bc I.G.k1 C B cc ac 1 I.va aa I.nm I.fL I.p1 I.q1 I.p2 I.p3 I.q2 I.q3 lr [⟨1,0,(I.fn:Int),I.G.L,⟨#[]⟩⟩,⟨4,0,(I.fn:Int),I.G.L,sEc 52⟩] 4 I.G.L I.G.L (I.tr X fxs fn0 nm0 d.line 0) u h hI.e hI.u hfn hcls hdep (by simp;omega) hI.nv hI.bod hI.b hac hform hl hnb (fun F V fa fc d1 w1 hs e1 hl1 hnb1 t1 p1=>?_)
 have h1:d1.held=d.held:=congrArg DP.held e1
 have h2:d1.recs=d.recs++[⟨2,0,(I.fn:Int),I.fL,I.nm⟩]:=congrArg DP.recs e1
 have h3:d1.ti=d.ti:=congrArg DP.ti e1
 have h4:d1.fr=d.fr++[ptr F]:=congrArg DP.fr e1
 have h5:d1.tab=d.tab:=congrArg DP.tab e1
 have h6:d1.liv=d.liv:=congrArg DP.liv e1
 have hg:=hI.g
 have hF1:=hF.open hTop h hln t1 p1 (SameRun.xC X F V _ _ _) h4
 have hz:=zz9 I.G (xC X F V (I.fn:Int) (.slice aa lr.length ac) I.nv) d1 k ac I.ub I.uo I.nf I.uc I.fn I.nm (frsT X fxs fn0 nm0 d.line) aa lr w1 ⟨hg.k1,hg.ka,hg.s1,hg.bb,hg.s2,hg.A2,hg.s3,hg.x1,hg.l1,hg.l2,hg.o,hg.ls.1,hg.ls.2,hg.ls.3⟩ hs rfl hnil hl1 hnb1 hk hk2 hm hm2 (by rw[h1];exact hh) (by rw[h2];simp;omega) (by rw[h3];exact ht) hB.b1 hI.u.u.f ⟨hI.u.u.lt,hI.u.u.ne⟩ hF1 ⟨rfl,hI.u.u.i,hI.u.n0,hB.sz⟩ hB.L hB.t (h5.trans htb) (h6.trans hlv)
 rw[I.tr_F X fxs fn0 nm0 d.line 0 F]
 exact hz
theorem PanE.mono {X:RX} {d:MD} {u:World} {R R':Nat->MD->World->Prop} {e:Ending} {w':World} (h:PanE X d u R e w') (hr:∀ E d' w',R E d' w'->R' E d' w'):PanE X d u R' e w':=by
 obtain ⟨E,d',h1,h2,h3⟩:=h
 exact ⟨E,d',h1,h2,hr E d' w' h3⟩
structure May (I:FI) (X:RX) (fxs:Nat->FrD) (d:MD) (u:World) (ln:Int):Prop where
 f:Frs X I.ub I.uo I.nf fxs d u
 l:d.line=ln
 t:d.tab=.slice none 0 0
 v:d.liv=.slice none 0 0
theorem May.step {I:FI} {X:RX} {fxs:Nat->FrD} {d d':MD} {u u':World} {ln:Int} (h:May I X fxs d u ln) (k:Sp X d u d' u') (hf:d'.fr=d.fr) (hl:d'.line=d.line) (ht:d'.tab=d.tab) (hv:d'.liv=d.liv):May I X fxs d' u' ln:=⟨h.f.step k hf,hl.trans h.l,ht.trans h.t,hv.trans h.v⟩
theorem y57 (I:FI) (X:RX) (bb:Nat) (nd:Value) (i k Q C B cc fn0:Nat) (nm0:ByteArray) (fxs:Nat->FrD) (ln:Int) (hI:I.ok X k) (hB:I.bok X) (hk:1<=k) (hk2:k<=250) (kb:Od X bb #[ptr X.M,nd]) (hdep:X.fl<X.dp) (hTop:TopF X I.ub I.uo I.nf fn0 nm0) (hln:I64r ln) {n a1 a2:Nat} (hN:Nest X bb nd i n a1 a2):250<n*k->∃ (hs:List VD) (j:Nat),j<n/\hs.length<=n/\∀ (d:MD) (u:World),St X d u->Has1 I X d u i Q C B cc->May I X fxs d u ln->d.recs.length+n*3<3000->d.held.length+n<=600->d.ti+n*2<=X.tk->
  Calls Tryz.prog 192 #[ptr X.F,ptr a1,ptr a2] u fun e w'=>PanE X d u (Thr X u.heap.size 4 I.G.L (I.tr X fxs fn0 nm0 ln 0) ((d.p.plus (I.many j++I.bad) (j*2+2)).hold hs)) e w':=by
 induction hN with
 |one h1 h2 h3 h4 h5=>
  intro hm
  omega
 |@more n r1 r2 a1 a2 p1 p2 pc l1 l2 b1 o la lc Bs hN h1 h2 h3 h4 h5 h6 h7 h8 h9 ih=>
  intro hm
  have hnk:(n+1)*k=k+n*k:=by rw[Nat.add_mul,Nat.one_mul,Nat.add_comm]
  by_cases hin:n*k<=250
  ·refine ⟨[],n,by omega,by simp,fun d u h hH hM hr hh ht=>?_⟩
   refine y25 X d a1 a2 p1 p2 bb nd fnD (q42 (n*k)) (d.p.plus (I.many n) (n*2)) _ u h h1 h2 kb (qh5 X d p1 p2 pc i Q l1 l2 b1 fnD (q42 (n*k)) (d.p.plus (I.many n) (n*2)) u h h3 h4 hH.v hH.q h5 rfl (fun d2 w2 k2 e2=>?_) (by omega)) (fun g c d1 w1 k1 e1 hb hc=>?_)
   ·have hv2:d2.vs=d.vs:=congrArg DP.vs e2
    have hc2:d2.cls=d.cls:=congrArg DP.cls e2
    have hh2:d2.held=d.held++[fnD]:=congrArg DP.held e2
    have hr2:d2.recs=d.recs:=congrArg DP.recs e2
    have ht2:d2.ti=d.ti:=congrArg DP.ti e2
    have hl2:d2.held.length=d.held.length+1:=by rw[hh2];simp
    have hz:=qd5 X d2 l1 l2 b1 o r1 r2 [] (q42 (n*k)) (d2.p.plus (I.many n) (n*2)) w2 k2.s h6 h9 rfl ?_ (fun d3 w3 k3 e3=>?_) (by simp;omega) (by simp;omega)
    ·rw[e2] at hz
     exact hz
    ·have:=q81 X d2 o la 0 lc Bs (fun _=>inD 1) w2 k2.s h7.1 h7.2 h8 (by omega) (by omega) (by omega)
     exact this.mono (fun e w' he=>qd1 he)
    ·rw[DP.hold_nil] at e3
     have:=qw7 I X bb nd i k Q C B cc hI hk kb hdep hN d3 w3 k3.s ((hH.step k2 hv2 hc2).step k3 (congrArg DP.vs e3) (congrArg DP.cls e3)) hin (by have e:d3.recs=d2.recs:=congrArg DP.recs e3;rw[e,hr2];omega) (by have e:d3.held=d2.held:=congrArg DP.held e3;rw[e];omega) (by have e:d3.ti=d2.ti:=congrArg DP.ti e3;omega)
     rw[e3] at this
     rw[DP.hold_nil]
     exact this
   ·have hv1:d1.vs=d.vs:=congrArg DP.vs e1
    have hc1:d1.cls=d.cls:=congrArg DP.cls e1
    have hh1:d1.held=d.held:=congrArg DP.held e1
    have hr1:d1.recs=d.recs++I.many n:=congrArg DP.recs e1
    have ht1:d1.ti=d.ti+n*2:=congrArg DP.ti e1
    have hml:=I.many_len n
    refine z98 X d1 (some ⟨g,0,none⟩) (q42 (n*k)).length c _ w1 k1.s (by omega) (fun d2 w2 k2 e2=>?_)
    have hH2:=(hH.step k1 hv1 hc1).step k2 (congrArg DP.vs e2) (congrArg DP.cls e2)
    have hM2:=(hM.step k1 (congrArg DP.fr e1) (congrArg DP.line e1) (congrArg DP.tab e1) (congrArg DP.liv e1)).step k2 (congrArg DP.fr e2) (congrArg DP.line e2) (congrArg DP.tab e2) (congrArg DP.liv e2)
    have hh2:d2.held=d1.held:=congrArg DP.held e2
    have hr2:d2.recs=d1.recs:=congrArg DP.recs e2
    have ht2:d2.ti=d1.ti+1:=congrArg DP.ti e2
    have hb2:=hb.step k2
    have hpos:q42 (n*k)≠[]:=fun e=>by
     have:=congrArg List.length e
     have hn:=hN.pos
     have:n*k=0:=by simpa using this
     have h0:0<n*k:=Nat.mul_pos hn hk
     omega
    have hz:=zz8 I X d2 k C B cc c fn0 nm0 fxs (some ⟨g,0,none⟩) (q42 (n*k)) w2 hI hB k2.s hH2.f hH2.c hdep (by rw[hr2,hr1,List.length_append,hml];omega) hc (.inr ⟨g,rfl⟩) (fun e=>absurd e hpos) hb2.lst (fun ad e _=>by cases e;exact hb2.2) hk hk2 (by simp;omega) (by simp;omega) (by rw[hh2,hh1];omega) (by omega) hM2.f hTop (by rw[hM2.l];exact hln) hM2.t hM2.v
    rw[hM2.l,e2,e1,DP.tick_plus',DP.plus_plus] at hz
    exact hz.mono fun e w' he=>he.mono fun E d' w'' ht'=>by
     rw[DP.hold_nil]
     exact ht'.mono (Nat.le_trans k1.g.size k2.g.size)
  ·obtain ⟨hs,j,hj,hsl,ih2⟩:=ih (by omega)
   refine ⟨fnD :: hs,j,by omega,by simp;omega,fun d u h hH hM hr hh ht=>?_⟩
   refine zn2 X d a1 a2 p1 p2 _ u h h1 (zf5 X d p1 p2 pc i Q l1 l2 b1 fnD _ u h h3 h4 hH.v hH.q h5 (fun d2 w2 k2 e2=>?_) (by omega))
   have hv2:d2.vs=d.vs:=congrArg DP.vs e2
   have hc2:d2.cls=d.cls:=congrArg DP.cls e2
   have hh2:d2.held=d.held++[fnD]:=congrArg DP.held e2
   have hr2:d2.recs=d.recs:=congrArg DP.recs e2
   have ht2:d2.ti=d.ti:=congrArg DP.ti e2
   have hl2:d2.held.length=d.held.length+1:=by rw[hh2];simp
   refine qw9 X d2 l1 l2 b1 o r1 r2 [] _ w2 k2.s h6 h9 ?_ (fun d3 w3 k3 e3=>?_) (by simp;omega)
   ·have:=q81 X d2 o la 0 lc Bs (fun _=>inD 1) w2 k2.s h7.1 h7.2 h8 (by omega) (by omega) (by omega)
    exact this.mono (fun e w' he=>qd1 he)
   ·rw[DP.hold_nil] at e3
    have hM3:=(hM.step k2 (congrArg DP.fr e2) (congrArg DP.line e2) (congrArg DP.tab e2) (congrArg DP.liv e2)).step k3 (congrArg DP.fr e3) (congrArg DP.line e3) (congrArg DP.tab e3) (congrArg DP.liv e3)
    have:=ih2 d3 w3 k3.s ((hH.step k2 hv2 hc2).step k3 (congrArg DP.vs e3) (congrArg DP.cls e3)) hM3 (by have e:d3.recs=d2.recs:=congrArg DP.recs e3;rw[e,hr2];omega) (by have e:d3.held=d2.held:=congrArg DP.held e3;rw[e];omega) (by have e:d3.ti=d2.ti:=congrArg DP.ti e3;omega)
    rw[e3,e2] at this
    refine this.mono fun e w' he=>he.mono fun E d' w'' ht'=>?_
    have e6:((d.p.hold [fnD]).plus (I.many j++I.bad) (j*2+2)).hold hs=(d.p.plus (I.many j++I.bad) (j*2+2)).hold (fnD :: hs):=by
     rw[DP.hold_plus,DP.hold_hold]
     rfl
    rw[e6] at ht'
    exact ht'.mono (Nat.le_trans k2.g.size k3.g.size)
theorem zo7 (P:PI) (I:FI) (X:RX) (bb:Nat) (nd:Value) (i n k Q C B cc fn0:Nat) (nm0:ByteArray) (fxs:Nat->FrD) (ln:Int) (hP:P.ok X bb nd i n) (hI:I.ok X k) (hB:I.bok X) (hk:1<=k) (hk2:k<=250) (kb:Od X bb #[ptr X.M,nd]) (hdep:X.fl<X.dp) (hTop:TopF X I.ub I.uo I.nf fn0 nm0) (hln:I64r ln) (hm:250<n*k):∃ (hs:List VD) (j:Nat),j<n/\hs.length<=n+1/\∀ (d:MD) (u:World),St X d u->Has1 I X d u i Q C B cc->May I X fxs d u ln->d.recs.length+n*3<3000->d.held.length+n<=500->d.ti+n*2<=X.tk->
  Calls Tryz.prog 192 #[ptr X.F,ptr P.r1,ptr P.r2] u fun e w'=>PanE X d u (Thr X u.heap.size 4 I.G.L (I.tr X fxs fn0 nm0 ln 0) ((d.p.plus (I.many j++I.bad) (j*2+2)).hold hs)) e w':=by
 obtain ⟨hs,j,hj,hsl,ih2⟩:=y57 I X bb nd i k Q C B cc fn0 nm0 fxs ln hI hB hk hk2 kb hdep hTop hln hP.ne hm
 refine ⟨prD :: hs,j,hj,by simp;omega,fun d u h hH hM hr hh ht=>?_⟩
 refine zn2 X d P.r1 P.r2 P.p1 P.p2 _ u h hP.r1 (zf6 X d P.p1 P.p2 P.pc P.l1 P.l2 P.b1 prD _ u h hP.p1 hP.pc hP.p2 (fun d2 w2 k2 e2=>?_) (by omega))
 have hv2:d2.vs=d.vs:=congrArg DP.vs e2
 have hc2:d2.cls=d.cls:=congrArg DP.cls e2
 have hh2:d2.held=d.held++[prD]:=congrArg DP.held e2
 have hr2:d2.recs=d.recs:=congrArg DP.recs e2
 have ht2:d2.ti=d.ti:=congrArg DP.ti e2
 have hl2:d2.held.length=d.held.length+1:=by rw[hh2];simp
 refine qw9 X d2 P.l1 P.l2 P.b1 P.o P.n1 P.n2 [] _ w2 k2.s hP.l1 hP.l2 ?_ (fun d3 w3 k3 e3=>?_) (by simp;omega)
 ·have:=q81 X d2 P.o P.la 0 P.lc P.Bs (fun _=>inD 1) w2 k2.s hP.o.1 hP.o.2 hP.ls (by omega) (by omega) (by omega)
  exact this.mono (fun e w' he=>qd1 he)
 ·rw[DP.hold_nil] at e3
  have hM3:=(hM.step k2 (congrArg DP.fr e2) (congrArg DP.line e2) (congrArg DP.tab e2) (congrArg DP.liv e2)).step k3 (congrArg DP.fr e3) (congrArg DP.line e3) (congrArg DP.tab e3) (congrArg DP.liv e3)
  have:=ih2 d3 w3 k3.s ((hH.step k2 hv2 hc2).step k3 (congrArg DP.vs e3) (congrArg DP.cls e3)) hM3 (by have e:d3.recs=d2.recs:=congrArg DP.recs e3;rw[e,hr2];omega) (by have e:d3.held=d2.held:=congrArg DP.held e3;rw[e];omega) (by have e:d3.ti=d2.ti:=congrArg DP.ti e3;omega)
  rw[e3,e2] at this
  refine this.mono fun e w' he=>he.mono fun E d' w'' ht'=>?_
  have e6:((d.p.hold [prD]).plus (I.many j++I.bad) (j*2+2)).hold hs=(d.p.plus (I.many j++I.bad) (j*2+2)).hold (prD :: hs):=by
   rw[DP.hold_plus,DP.hold_hold]
   rfl
  rw[e6] at ht'
  exact ht'.mono (Nat.le_trans k2.g.size k3.g.size)
end Go.Proofs.YtaimofjekgnieaaGreatDoor
namespace Go.Proofs.YtaimofjekgnieaaGreatDoor
open Go.RowKit
attribute [local go_sem] q00
attribute [local go_sem ↓] Go.wp_at_zero Go.wp_at_succ
structure zn3 (X:RX) (a:Option Addr) (n:Nat) (Bs iv:Nat->Nat):Prop where
 row:RowN 1 0 X.W a n fun i=>#[varV (Bs i)]
 rm:∀ b,a=some b->b.block≠X.M
 lit:∀ i,i<n->Has X.W (Bs i) #[.int .i64 (iv i:Int)]/\Bs i≠X.M
theorem zg0 (X:RX) (d:MD) (B:Nat) (a:Option Addr) (n cap:Nat) (Bs iv Qs:Nat->Nat) (vs:Nat->VD) (u:World) (h:St X d u) (hB:Has X.W B #[.slice a n cap]) (hBM:B≠X.M) (hL0:zn3 X a n Bs iv) (hV0:∀ i,i<n->d.vs[iv i]?=some (ptr (Qs i))/\Bx X d u (Qs i) (vA (vs i))) (hn:n<=1000) (hp:0<d.held.length+n) (hlen:d.held.length<=1000) :
  Calls Tryz.prog 246 #[.pointer (some ⟨X.F,0,none⟩),.pointer (some ⟨B,0,none⟩)] u fun e w'=>(∃ g c,e=.returned (.slice (some ⟨g,0,none⟩) n c)/\w'.ownsRow u.heap.size 113 5 (.slice (some ⟨g,0,none⟩) n c) n (hL (vl vs n))/\ToG X d u d.p w' g):=by
 have HS:Hid (St X d u):=h
 have HL:Hid (zn3 X a n Bs iv):=hL0
 have HV:Hid (∀ i,i<n->d.vs[iv i]?=some (ptr (Qs i))/\Bx X d u (Qs i) (vA (vs i))):=hV0
 have b0:=(h.old hB hBM).cell 0 rfl
 have f0:=h.f.1.cell 0 rfl
 have c8:u.cell? ⟨X.T,8,none⟩=some (.slice d.ha d.held.length d.hc):=h.t.1.cell 8 rfl
 obtain ⟨H,hH⟩:∃ H,d.held.length=H:=⟨_,rfl⟩
 rw[hH] at c8 hp hlen
 have HH:Hid (d.held.length=H):=hH
 clear h hL0 hB hH hV0
 go_enter Tryz.func246,Tryz.ntmps246
 go_wp2_with fail
 clear c8 f0 b0
 go_loopw [20] (fun i wr=>∃ (k:Nat) (d1:MD),k<=n/\i=.int .i64 k/\Hid (Sp X d u d1 wr/\d1.p=d.p.hold (vl vs k))) (fun i _=>n-(intOf i).toNat)
 case atStart=>exact ⟨0,d,Nat.zero_le _,rfl,Sp.refl HS.out,(DP.hold_nil _).symm⟩
 case round=>
  obtain ⟨k,d1,hk,rfl,HP⟩:=hrel
  have hl1:d1.held.length=H+k:=by
   have:=congrArg DP.held HP.out.2
   have h2:d1.held=d.held++vl vs k:=this
   rw[h2,List.length_append,ql1,HH.out]
  by_cases hkn:k<n
  ·obtain ⟨b,off,rfl,_,hb,d0⟩:=cells1 (HP.out.1.s.oldRow HL.out.row HL.out.rm) hkn
   have HB:Hid (Has wr (Bs k) #[.int .i64 (iv k:Int)]/\d1.vs[iv k]?=some (ptr (Qs k))/\Has wr (Qs k) (vA (vs k))):=⟨HP.out.1.s.old (HL.out.lit k hkn).1 (HL.out.lit k hkn).2,by
    have e:d1.vs=d.vs:=congrArg DP.vs HP.out.2
    rw[e]
    exact (HV.out k hkn).1,((HV.out k hkn).2.step HP.out.1).1⟩
   go_wp2_with (first
    |(go_at_call 213;refine (qd0 X d1 (Bs k) (Qs k) (iv k) (vs k) _ HP.out.1.s HB.out.1 HB.out.2.1 HB.out.2.2).mono ?_;rintro e w1 ⟨rfl,hb1⟩;have HP1:Hid (Sp X d u d1 (w1.alloc (.cells (vA (vs k)) 113))/\d1.p=d.p.hold (vl vs k)):=⟨(HP.out.1.call hb1).alloc _,HP.out.2⟩;have HG:Hid (Has (w1.alloc (.cells (vA (vs k)) 113)) w1.heap.size (vA (vs k))):=Has.new _ _ _;clear HP HB hb1 d0)
    |(go_at_call 189;refine (qc4 X d1 _ (vs k) _ HP1.out.1.s (by omega) HG.out).mono ?_;rintro e w2 ⟨rfl,ht2⟩))
   obtain ⟨d2,hs2,e2⟩:=ht2
   have HP2:Hid (Sp X d u d2 w2/\d2.p=d.p.hold (vl vs (k+1))):=⟨HP1.out.1.trans hs2,by rw[e2,HP1.out.2,DP.hold_hold,zs3]⟩
   clear hs2 e2 HP1 HG
   go_roundw
   case rel=>exact ⟨k+1,d2,by omega,by go_num,HP2⟩
   case measure=>simp[intOf];omega
  ·obtain rfl:k=n:=by omega
   have hpos:0<d1.held.length:=by omega
   obtain ⟨g,hg1,hg2,hg3,hg4⟩:=HP.out.1.s.heldAt hpos
   have HG4:Hid (∀ j v,(hL d1.held)[j]?=some v->wr.cell? ⟨g,j,none⟩=some v):=hg4
   have c8:wr.cell? ⟨X.T,8,none⟩=some (.slice (some ⟨g,0,none⟩) (H+k) d1.hc):=by
    have:=HP.out.1.s.t.1.cell 8 rfl
    rw[<-hl1,<-hg1]
    exact this
   have hT:=HP.out.1.s.t.1.1
   have z:=HP.out.1.s.t.2
   have hh2:d1.held=d.held++vl vs k:=congrArg DP.held HP.out.2
   have HX:Hid (∀ (x:Addr),x=(if d1.hc=H then ⟨g,0,none⟩ else ⟨g,H*5,none⟩)->∀ j v,(hL (vl vs k))[j]?=some v->wr.cell? (x.add j)=some v):=by
    intro x hx j v hv
    have hj:j<k*5:=by
     have:=(List.getElem?_eq_some_iff.1 hv).1
     rwa [qi7,ql1] at this
    have hc:¬d1.hc=H:=by omega
    rw[if_neg hc] at hx
    subst hx
    have h5:=HG4.out (H*5+j) v (by
     rw[hh2,zm0,List.getElem?_append_right (by rw[qi7,HH.out];omega),qi7,HH.out,show H*5+j-H*5=j by omega]
     exact hv)
    cases j<;>simpa[Addr.add] using h5
   have HF:Hid (∀ w' g2,Below wr.heap.size wr w'->wr.heap.size<=g2->ToG X d u d.p (w'.setCell ⟨X.T,8,none⟩ (.slice (some ⟨g,0,none⟩) H d1.hc)) g2):=fun w' g2 hb hg2=>by
    have h1:=HP.out.1.call hb
    have h2:=Sp.cutH h1.s (m:=H) (by omega)
    rw[<-hg1]
    refine ⟨_,h1.trans h2,?_,fun e=>HP.out.1.s.other hg2 e⟩
    show DP.cutH d1.p H=d.p
    rw[HP.out.2]
    exact DP.hold_cut d.p _ HH.out
   have HO:Hid (∀ (w':World) (g2 c2:Nat) (v:Value),Below wr.heap.size wr w'->w'.ownsRow wr.heap.size 113 5 (.slice (some ⟨g2,0,none⟩) k c2) k (hL (vl vs k))->(w'.setCell ⟨X.T,8,none⟩ v).ownsRow u.heap.size 113 5 (.slice (some ⟨g2,0,none⟩) k c2) k (hL (vl vs k))):=fun w' g2 c2 v hb ho=>qh9 (q16 ho v (fun q e=>by have:=(ho.lt q e).1;omega)) HP.out.1.g.size
   by_cases hc:d1.hc=H
   ·obtain rfl:k=0:=by omega
    rw[hc] at c8 HF
    have hX:=HX.out ⟨g,0,none⟩ (by rw[if_pos hc])
    have HX2:Hid (∀ j v,(hL (vl vs 0))[j]?=some v->wr.cell? ((⟨g,0,none⟩:Addr).add j)=some v):=hX
    have hH0:¬H=0:=by omega
    clear hX HX HG4 hh2
    go_wp2_with (go_at_call 247;refine (q94 ⟨g,0,none⟩ (vl vs 0) 0 _ _ rfl (by omega) HX2.out hg2).mono ?_;rintro e w3 ⟨⟨g3,c3,rfl,ho3⟩,hb3⟩;have d8:=(World.cell?_of_block (a:=⟨X.T,8,none⟩) (hb3.block X.T hT)).trans c8;have dz:∀ o,w3.frozen? ⟨X.T,o,none⟩=false:=fun o=>(World.frozen?_of_block (a:=⟨X.T,o,none⟩) (hb3.block X.T hT)).trans (z o);clear c8 z)
    go_ret
    exact ⟨g3,c3,rfl,HO.out _ _ _ _ hb3 ho3,HF.out _ _ hb3 (q09 ho3 (k:=g3) rfl).1⟩
   ·have hX:=HX.out ⟨g,H*5,none⟩ (by rw[if_neg hc])
    have HX2:Hid (∀ j v,(hL (vl vs k))[j]?=some v->wr.cell? ((⟨g,H*5,none⟩:Addr).add j)=some v):=hX
    have hH0:¬d1.hc=0:=by omega
    clear hX HX HG4 hh2
    go_wp2_with (go_at_call 247;refine (q94 ⟨g,H*5,none⟩ (vl vs k) k _ _ (ql1 vs k) (by omega) HX2.out hg2).mono ?_;rintro e w3 ⟨⟨g3,c3,rfl,ho3⟩,hb3⟩;have d8:=(World.cell?_of_block (a:=⟨X.T,8,none⟩) (hb3.block X.T hT)).trans c8;have dz:∀ o,w3.frozen? ⟨X.T,o,none⟩=false:=fun o=>(World.frozen?_of_block (a:=⟨X.T,o,none⟩) (hb3.block X.T hT)).trans (z o);clear c8 z)
    go_ret
    exact ⟨g3,c3,rfl,HO.out _ _ _ _ hb3 ho3,HF.out _ _ hb3 (q09 ho3 (k:=g3) rfl).1⟩
theorem yc6 (s:ByteArray) (hs:s.size<=4000):thW 4 0 0 s 0=.iface 163 (.string s):=by
 have h1:fz 0=true:=by decide
 simp[thW,okB,thV,ueB,usB,h1]
 omega
theorem yc5:thW 5 0 0 ⟨#[]⟩ 0=.iface 248 (.agg #[.int .i64 5,.int .i64 0]):=by
 have h1:fz 0=true:=by decide
 have h2:se ⟨#[]⟩=true:=by first|rfl|kernel_rfl|simp[se]
 simp[thW,okB,thV,ueB,usB,h1,h2]
theorem qt4 (s:ByteArray) (w:World):Calls Tryz.prog 460 #[.string s] w fun e w'=>e=.returned (.string s)/\w'=w:=by
 go_enter Tryz.func460,Tryz.ntmps460
 go_wp2_with fail
 go_ret
 exact ⟨rfl,rfl⟩
abbrev sTab:ByteArray:=⟨#[116,97,98,108,101]⟩
theorem qu0 (r:Int) (w:World):Calls Tryz.prog 491 #[.agg #[.int .i64 5,.int .i64 r]] w fun e w'=>e=.returned (.string sTab)/\Below w.heap.size w w':=by
 go_enter Tryz.func491,Tryz.ntmps491
 go_wp2_with fail
 go_ret
 exact ⟨rfl,q01 _ _⟩
theorem ze4 (s:ByteArray) (w:World) (hs:s.size<=4000):Calls Tryz.prog 58 #[vOf 4 0 0 s 0] w fun e w'=>e=.returned (.string s)/\Below w.heap.size w w':=by
 go_enter Tryz.func58,Tryz.ntmps58
 go_wp2_with fail
 refine (qz0 4 0 0 s 0 _).mono ?_
 rw[yc6 s hs]
 rintro e w1 ⟨rfl,hb⟩
 have HB:Hid (Below w.heap.size w w1):=q02 (q01 _ _) hb
 clear hb
 have hm:(method 609 163 (.string s) "loop.example/meaning/impl.text").run Tryz.prog w1=.ok (460,.string s) w1:=by kernel_rfl
 go_wp2_with fail
 refine (qt4 s _).mono ?_
 rintro e w2 ⟨rfl,rfl⟩
 go_wp2_with fail
 go_ret
 exact ⟨rfl,HB.out⟩
theorem ze3 (w:World):Calls Tryz.prog 58 #[vOf 5 0 0 ⟨#[]⟩ 0] w fun e w'=>e=.returned (.string sTab)/\Below w.heap.size w w':=by
 go_enter Tryz.func58,Tryz.ntmps58
 go_wp2_with fail
 refine (qz0 5 0 0 ⟨#[]⟩ 0 _).mono ?_
 rw[yc5]
 rintro e w1 ⟨rfl,hb⟩
 have HB:Hid (Below w.heap.size w w1):=q02 (q01 _ _) hb
 clear hb
 have hm:(method 609 248 (.agg #[.int .i64 5,.int .i64 0]) "loop.example/meaning/impl.text").run Tryz.prog w1=.ok (491,.agg #[.int .i64 5,.int .i64 0]) w1:=by kernel_rfl
 go_wp2_with fail
 refine (qu0 0 _).mono ?_
 rintro e w2 ⟨rfl,hb2⟩
 have HB2:Hid (Below w.heap.size w w2):=q02 HB.out hb2
 clear hb2
 go_wp2_with fail
 go_ret
 exact ⟨rfl,HB2.out⟩
structure QI where
 r1:Nat
 r2:Nat
 p1:Nat
 p2:Nat
 pc:Nat
 l1:Nat
 l2:Nat
 b1:Nat
 o:Nat
 la:Option Addr
 lc:Nat
 Bs:Nat->Nat
 r:Nat
 B:Nat
 i1:Nat
 i2:Nat
structure QI.ok (P:QI) (X:RX) (bb:Nat):Prop where
 r1:Od X P.r1 #[qh6 P.p1 P.p2]
 r2:Od X P.r2 #[ptr bb]
 p1:Od X P.p1 #[litV P.pc]
 pc:Od X P.pc (vA prD)
 p2:Od X P.p2 #[qg5 P.l1 P.l2 P.b1]
 l1:Od X P.l1 #[qt7 P.o]
 o:Od X P.o #[.slice P.la 1 P.lc]
 ls:zn3 X P.la 1 P.Bs (fun _=>P.i1)
 l2:Od X P.l2 #[oneV P.r]
 r:Od X P.r #[varV P.B]
 B:Od X P.B #[.int .i64 (P.i2:Int)]
theorem yi5 (v:VD):vl (fun _=>v) 1=[v]:=by simp[vl]
def txC (v:VD):ByteArray:=if v.k=5 then sTab else v.s
abbrev tbD:VD:=⟨5,0,0,⟨#[]⟩,0⟩
abbrev stD (s:ByteArray):VD:=⟨4,0,0,s,0⟩
theorem txtC (X:RX) (s:ByteArray) (hs:s.size<=4000):zr7 X txC [tbD,stD s]:=fun v hv w _=>by
 rcases List.mem_cons.1 hv with rfl|hv
 ·exact ze3 w
 ·rcases List.mem_cons.1 hv with rfl|hv
  ·exact ze4 s w hs
  ·cases hv
theorem qx3 (s:ByteArray):(q43 txC [tbD,stD s]).size=6+s.size:=by
 have e:(q43 txC [tbD,stD s]).size=(Lib.join (([tbD,stD s].map txC).map (·.data.toList)) [32]).length:=by simp[q43,ByteArray.size]
 rw[e]
 show (Lib.join [sTab.data.toList,s.data.toList] [32]).length=_
 rw[Lib.join_length]
 show 1*1+(5+(s.data.toList.length+0))=_
 have h1:s.data.toList.length=s.size:=Array.length_toList
 rw[h1]
 omega
theorem zv8 (P:QI) (X:RX) (d:MD) (bb:Nat) (nd:Value) (Q1 Q2:Nat) (s:ByteArray) (u:World) (hP:P.ok X bb) (kb:Od X bb #[ptr X.M,nd]) (h:St X d u) (hv1:d.vs[P.i1]?=some (ptr Q1)) (hQ1:Bx X d u Q1 (vA tbD)) (hv2:d.vs[P.i2]?=some (ptr Q2)) (hQ2:Bx X d u Q2 (vA (stD s))) (hs:s.size<=3000) (hr:d.recs.length<4000) (hh:d.held.length<=500) (ht:d.ti<X.tk) :
  Calls Tryz.prog 192 #[ptr X.F,ptr P.r1,ptr P.r2] u fun e w'=>ListTo X d u [] ((d.p.plus [] 1).rcd ⟨6,0,X.fn,d.line,q43 txC [tbD,stD s]⟩) e w':=by
 refine qk9 X d P.r1 P.r2 P.p1 P.p2 bb nd prD [tbD,stD s] [] d.p _ u h hP.r1 hP.r2 kb (qh7 X d P.p1 P.p2 P.pc P.l1 P.l2 P.b1 prD [tbD,stD s] d.p u h hP.p1 hP.pc hP.p2 rfl (fun d2 w2 k2 e2=>?_) (by omega)) (fun g c d1 w1 k1 e1 hb hc=>?_)
 ·have hv:d2.vs=d.vs:=congrArg DP.vs e2
  have hh2:d2.held=d.held++[prD]:=congrArg DP.held e2
  have hl2:d2.held.length=d.held.length+1:=by rw[hh2];simp
  have hz:=z85 X d2 P.l1 P.l2 P.b1 P.o P.r [tbD] [stD s] d2.p w2 k2.s hP.l1 hP.l2 rfl ?_ (fun d3 w3 k3 e3=>?_) (by simp;omega) (by simp)
  ·rw[e2] at hz
   exact hz
  ·have:=zg0 X d2 P.o P.la 1 P.lc P.Bs (fun _=>P.i1) (fun _=>Q1) (fun _=>tbD) w2 k2.s hP.o.1 hP.o.2 hP.ls (fun _ _=>⟨by rw[hv];exact hv1,hQ1.step k2⟩) (by omega) (by omega) (by omega)
   rw[<-yi5 tbD]
   exact this.mono (fun e w' he=>qd1 he)
  ·have hv3:d3.vs=d2.vs:=congrArg DP.vs e3
   refine (zw7 X d3 P.r P.B Q2 P.i2 (stD s) w3 k3.s (hP.r.at k3.s) (hP.B.at k3.s) (by rw[hv3,hv];exact hv2) ((hQ2.step k2).step k3).1).mono ?_
   rintro e w' ⟨⟨g,rfl,hg,hG⟩,hb⟩
   refine ⟨some ⟨g,0,none⟩,1,d3,rfl,(fun e=>nomatch e),?_,(Sp.refl k3.s).call hb,e3,fun ad e _=>by cases e;exact k3.s.other hg⟩
   exact fun _=>⟨_,rfl,hG.1,fun j v hv=>by
    have h1:w'.cell? ⟨g,j,none⟩=some v:=(hG.2 j).trans (by simpa[hL,v5] using hv)
    cases j<;>simpa[Addr.add] using h1⟩
 ·have hr1:d1.recs=d.recs:=congrArg DP.recs e1
  have ht1:d1.ti=d.ti:=congrArg DP.ti e1
  have hl1:d1.line=d.line:=congrArg DP.line e1
  have hz:=qg0 X d1 g c 2 [tbD,stD s] txC w1 k1.s (by omega) (txtC X s (by omega)) hb rfl (by omega) (by omega) (by rw[qx3];omega) (by rw[hr1];omega)
  rw[e1,hl1,DP.tick_plus] at hz
  exact hz
theorem z99 (X:RX) (d:MD) (rb ro rc g c n kb:Nat) (iv:List Nat) (l:List VD) (recs:List RcD) (u:World) (h:St X d u) (hr:∀ d' w',Sp X d u d' w'->∀ (j i:Nat),iv[j]?=some i->w'.cell? ⟨rb,ro+j,none⟩=some (.int .i64 (i:Int))) (hiv:∀ (j i:Nat),iv[j]?=some i->i<X.nv) (hg:Bl X d u g l) (hn:iv.length=n) (hl:l.length=n) (hn2:n<=100) (hsc:d.sc.length<=900)
  (hbody:∀ qs d1 w1,Sp X d u d1 w1->d1.p=d.p.decl qs->qs.map Prod.fst=iv->(∀ (i:Nat) (x:Nat×Nat) (v:VD),qs[i]?=some x->l[i]?=some v->Bx X d1 w1 x.2 (vA v))->Calls Tryz.prog 163 #[ptr X.F,ptr kb] w1 fun e w'=>q11 X d1 w1 (EndR recs d1.sc.length) e w') :
  Calls Tryz.prog 204 #[ptr X.F,.slice (some ⟨rb,ro,none⟩) n rc,.slice (some ⟨g,0,none⟩) n c,bkV kb] u fun e w'=>q11 X d u (EndR recs d.sc.length) e w':=by
 have HS:Hid (St X d u):=h
 have HD:Hid (Calls Tryz.prog 82 #[ptr X.F,.slice (some ⟨rb,ro,none⟩) n rc,.slice (some ⟨g,0,none⟩) n c] u fun e w'=>e=.returned (.tuple #[])/\zd5 X d u iv l n w'):=qi9 X d rb ro rc g c n iv l u h hr hiv hg hn hl hn2 hsc
 have HBody:Hid (∀ qs d1 w1,Sp X d u d1 w1->d1.p=d.p.decl qs->qs.map Prod.fst=iv->(∀ (i:Nat) (x:Nat×Nat) (v:VD),qs[i]?=some x->l[i]?=some v->Bx X d1 w1 x.2 (vA v))->Calls Tryz.prog 163 #[ptr X.F,ptr kb] w1 fun e w'=>q11 X d1 w1 (EndR recs d1.sc.length) e w'):=hbody
 have HN:Hid (iv.length=n):=hn
 have f10:u.cell? ⟨X.F,10,none⟩=some (.slice d.sa d.sc.length d.sp):=h.f.1.cell 10 rfl
 have lF:=h.f.1.1
 obtain ⟨m,hm⟩:∃ m,d.sc.length=m:=⟨_,rfl⟩
 have HM:Hid (d.sc.length=m):=hm
 rw[hm] at f10
 rw[hm]
 clear h hr hiv hg hn hl hn2 hsc hbody hm
 go_enter Tryz.func204,Tryz.ntmps204
 go_wp2_with fail
 refine HD.out.mono ?_
 rintro e w1 ⟨rfl,qs,d1,hq1,hs1,e1,hb1⟩
 have H1:Hid (Sp X d u d1 w1/\d1.p=d.p.decl qs/\qs.map Prod.fst=iv/\(∀ (i:Nat) (x:Nat×Nat) (v:VD),qs[i]?=some x->l[i]?=some v->Bx X d1 w1 x.2 (vA v))):=⟨hs1,e1,by rw[hq1];exact List.take_of_length_le (by have:=HN.out;omega),hb1⟩
 clear hq1 hs1 e1 hb1 f10 lF
 go_wp2_with fail
 refine (HBody.out qs d1 w1 H1.out.1 H1.out.2.1 H1.out.2.2.1 H1.out.2.2.2).mono ?_
 rintro e w2 ⟨way,d2,rfl,hs2,rfl,hr2,hsl2⟩
 have hsc1:m<=d1.sc.length:=by
  have h1:d1.sc.length=d.sc.length+qs.length:=by
   have h2:=DP.decl_sc d.p qs
   have h3:d1.sc=(d.p.decl qs).sc:=congrArg DP.sc H1.out.2.1
   rw[h3]
   exact h2
  have:=HM.out
  omega
 have hm2:m<=d2.sc.length:=by omega
 have hcap:=hs2.s.scCap
 have hif:=qf7 d2.sa (d2.sp=0) (hcap.2.elim (fun h=>.inl h.1) .inr)
 have hcp:m<=d2.sp:=by have:=hcap.1;omega
 obtain ⟨z,hz⟩:∃ z,d2.sc.length=z:=⟨_,rfl⟩
 have g10:w2.cell? ⟨X.F,10,none⟩=some (.slice d2.sa z d2.sp):=by rw[<-hz];exact hs2.s.f.1.cell 10 rfl
 have gz:=hs2.s.f.2
 have lF:=hs2.s.f.1.1
 have HF:Hid (q11 X d u (EndR recs m) (.returned .nilIface) (w2.setCell ⟨X.F,10,none⟩ (.slice d2.sa m d2.sp))):=by
  have h2:=Sp.cutS hs2.s (m:=m) hm2
  refine ⟨_,_,rfl,(H1.out.1.trans hs2).trans h2,rfl,hr2,?_⟩
  show m<=(d2.sc.take m).length
  rw[List.length_take]
  omega
 clear hs2 hr2 hsl2 hsc1 hm2 hcap hz H1
 go_wp2_with fail
 go_ret
 exact HF.out
theorem ErX.cells {X:RX} {d:MD} {w:World} {N E K t1:Nat} {cd l:Int} {tr:ByteArray} (h:ErX X d w N E K t1 cd l tr):w.cell? ⟨E,0,none⟩=some (.int .i64 5)/\w.cell? ⟨E,1,none⟩=some (.int .i64 0)/\w.cell? ⟨E,2,none⟩=some (.float .f64 0)/\w.cell? ⟨E,3,none⟩=some (.string ⟨#[]⟩)/\w.cell? ⟨E,4,none⟩=some (.int .i64 0)/\w.cell? ⟨E,5,none⟩=some (.string tr):=
 ⟨h.e.1.1.cell 0 rfl,h.e.1.1.cell 1 rfl,h.e.1.1.cell 2 rfl,h.e.1.1.cell 3 rfl,h.e.1.1.cell 4 rfl,h.e.1.1.cell 5 rfl⟩
theorem Thr.told {X:RX} {N0:Nat} {cd l:Int} {dg:UInt8} {tr:ByteArray} {q:DP} {E:Nat} {d:MD} {w:World} (h:Thr X N0 cd l tr q E d w) (hcd:bA (decB cd)=⟨#[dg]⟩/\I64r cd) (hs:St X d w) (hT:TabX X):Calls Tryz.prog 56 #[ptr X.M,vOf 5 0 0 ⟨#[]⟩ 0] w fun e w'=>e=.returned (.string (sEc dg))/\Below w.heap.size w w':=by
 obtain ⟨N,K,t1,c1,v,h0,h1,h2⟩:=h
 exact qv4 X cd dg hcd d w hs t1 c1 K l (congrArg DP.tab h1) h2.tl h2.t (fun w' hb=>(h2.call hb).ex) hT
theorem Bl.new2 {X:RX} {d:MD} {u:World} (h:St X d u) (s:ByteArray) (t:TypeId):Bl X d (u.alloc (.cells #[.int .i64 5,.int .i64 0,.float .f64 0,.string ⟨#[]⟩,.int .i64 0,.int .i64 4,.int .i64 0,.float .f64 0,.string s,.int .i64 0] t)) u.heap.size [tbD,stD s]:=by
 refine ⟨⟨by simp,fun j v hv=>?_⟩,h.other (Nat.le_refl _)⟩
 have h1:=(Has.new u #[.int .i64 5,.int .i64 0,.float .f64 0,.string ⟨#[]⟩,.int .i64 0,.int .i64 4,.int .i64 0,.float .f64 0,.string s,.int .i64 0] t).2 j
 rw[h1]
 simpa[hL,v5] using hv
theorem qt6 (X:RX) (d:MD) (x1 x2 x3 x4 k1 k2 rb ro rc:Nat) (A3:Array Value) (cd l ln:Int) (dg:UInt8) (tr:ByteArray) (q:DP) (recs:List RcD) (u:World) (h:St X d u) (hcd:bA (decB cd)=⟨#[dg]⟩/\I64r cd) (hE:EtX X) (hT:TabX X) (h1:Od X x1 #[bkV k1]) (h2:Od X x2 #[ptr X.M]) (h3:Od X x3 A3) (hA3:A3[6]?=some (.slice (some ⟨rb,ro,none⟩) 2 rc)) (h4:Od X x4 #[bkV k2]) (hsc:q.sc=d.sc) (hh:d.held.length<=q.held.length) (hl:d.line=ln) (hrec:q.recs.length<5000)
  (hrun:∀ w2,Sp X d u d w2->Calls Tryz.prog 163 #[ptr X.F,ptr k1] w2 fun e w'=>PanE X d w2 (Thr X w2.heap.size cd l tr q) e w')
  (hins:∀ d6 w6 g t v,Sp X d u d6 w6->d6.p=(((q.cutH d.held.length).ln ln).rcd ⟨5,0,X.fn,ln,sEc dg⟩).tbl t v->Bl X d6 w6 g [tbD,stD tr]->Calls Tryz.prog 204 #[ptr X.F,.slice (some ⟨rb,ro,none⟩) 2 rc,.slice (some ⟨g,0,none⟩) 2 2,bkV k2] w6 fun e w'=>q11 X d6 w6 (EndR recs d6.sc.length) e w') :
  Calls Tryz.prog 211 #[ptr X.F,ptr x1,ptr x2,ptr x3,ptr x4] u fun e w'=>q11 X d u (EndR recs d.sc.length) e w':=by
 have HS:Hid (St X d u):=h
 have HEt:Hid (EtX X/\TabX X/\(bA (decB cd)=⟨#[dg]⟩/\I64r cd)):=⟨hE,hT,hcd⟩
 have HK:Hid (Od X x2 #[ptr X.M]/\Od X x3 A3/\Od X x4 #[bkV k2]/\A3[6]?=some (.slice (some ⟨rb,ro,none⟩) 2 rc)):=⟨h2,h3,h4,hA3⟩
 have HIns:Hid (∀ d6 w6 g t v,Sp X d u d6 w6->d6.p=(((q.cutH d.held.length).ln ln).rcd ⟨5,0,X.fn,ln,sEc dg⟩).tbl t v->Bl X d6 w6 g [tbD,stD tr]->Calls Tryz.prog 204 #[ptr X.F,.slice (some ⟨rb,ro,none⟩) 2 rc,.slice (some ⟨g,0,none⟩) 2 2,bkV k2] w6 fun e w'=>q11 X d6 w6 (EndR recs d6.sc.length) e w'):=hins
 have HAtt:Hid (Calls Tryz.prog 53 #[ptr X.F,qt5 x1 u.heap.size] (u.alloc (.cells #[ptr X.F] 125)) fun e w'=>q11 X d (u.alloc (.cells #[ptr X.F] 125)) (qj3 X ((u.alloc (.cells #[ptr X.F] 125)).heap.size+3) cd l tr ((q.cutH d.held.length).ln ln)) e w'):=by
  have k0:Sp X d u d (u.alloc (.cells #[ptr X.F] 125)):=(Sp.refl h).alloc _
  rw[<-hl]
  refine za5 X d x1 u.heap.size _ cd l tr (q.cutH d.held.length) _ k0.s (z56 X d x1 u.heap.size cd l tr q _ k0.s hh (fun w2 k hsz=>?_))
  refine zt0 X d x1 u.heap.size k1 _ w2 k.s h1 ((Bx.new h _ _).step k) ?_
  refine (hrun w2 (k0.trans k)).mono fun e w' he=>he.mono fun E d' w'' ht=>ht.mono (by omega)
 have HQ:Hid (q.sc=d.sc/\q.recs.length<5000):=⟨hsc,hrec⟩
 have f10:u.cell? ⟨X.F,10,none⟩=some (.slice d.sa d.sc.length d.sp):=h.f.1.cell 10 rfl
 have lF:=h.f.1.1
 have hmf:=qf9
 obtain ⟨q',hq'⟩:∃ q',(q.cutH d.held.length).ln ln=q':=⟨_,rfl⟩
 have HQ':Hid (q'.sc=d.sc/\q'.recs.length<5000/\q'.line=ln):=by rw[<-hq'];exact ⟨hsc,hrec,rfl⟩
 rw[hq'] at HAtt HIns
 clear h h1 h2 h3 h4 hA3 hE hT hcd hrun hins hsc hh hl hrec hq'
 go_enter Tryz.func211,Tryz.ntmps211
 go_wp2_with fail
 refine HAtt.out.mono ?_
 rintro e w2 ⟨way,d2,rfl,hs2,E,rfl,hr2⟩
 obtain ⟨b5,hb5⟩:∃ b5,u.heap.size=b5:=⟨_,rfl⟩
 obtain ⟨N0,hN0⟩:∃ N0,(u.alloc (.cells #[ptr X.F] 125)).heap.size+3=N0:=⟨_,rfl⟩
 rw[hN0] at hr2
 have H2:Hid (Sp X d u d2 w2/\Thr X N0 cd l tr q' E d2 w2/\Bx X d2 w2 b5 #[ptr X.F]):=by
  rw[<-hb5]
  exact ⟨Sp.first HS.out hs2,hr2,(Bx.new HS.out _ _).step hs2⟩
 rw[hb5]
 clear hs2 hr2 hb5 HAtt f10 lF hmf hN0
 go_upto_region 3 with fail
 go_cut [] from 10 (fun w=>∃ d3,Hid (Sp X d u d3 w/\Thr X N0 cd l tr q' E d3 w/\Bx X d3 w b5 #[ptr X.F]))
 case first=>
  have hsc:d2.sc.length=d.sc.length:=by
   obtain ⟨N,K,t1,c1,v,_,e,_⟩:=H2.out.2.1
   have h1:d2.sc=q'.sc:=congrArg DP.sc e
   rw[h1,HQ'.out.1]
  have f10:w2.cell? ⟨X.F,10,none⟩=some (.slice d2.sa d.sc.length d2.sp):=by
   rw[<-hsc]
   exact H2.out.1.s.f.1.cell 10 rfl
  have fz:=H2.out.1.s.f.2
  have lF:=H2.out.1.s.f.1.1
  have hcap:=H2.out.1.s.scCap
  have hif:=qf7 d2.sa (d2.sp=0) (hcap.2.elim (fun h=>.inl h.1) .inr)
  have hcp:d.sc.length<=d2.sp:=by have:=hcap.1;omega
  have hSp:=(Sp.cutS H2.out.1.s (m:=d.sc.length) (by omega)).drew
  have hpp:({d2 with sc:=d2.sc.take d.sc.length}:MD).p=d2.p:=by
   have:d2.sc.take d.sc.length=d2.sc:=by rw[<-hsc];exact List.take_length
   rw[this]
  have HR:Hid (Sp X d u {d2 with sc:=d2.sc.take d.sc.length} (w2.setCell ⟨X.F,10,none⟩ (.slice d2.sa d.sc.length d2.sp)).drew/\Thr X N0 cd l tr q' E {d2 with sc:=d2.sc.take d.sc.length} (w2.setCell ⟨X.F,10,none⟩ (.slice d2.sa d.sc.length d2.sp)).drew/\Bx X {d2 with sc:=d2.sc.take d.sc.length} (w2.setCell ⟨X.F,10,none⟩ (.slice d2.sa d.sc.length d2.sp)).drew b5 #[ptr X.F]):=⟨H2.out.1.trans hSp,H2.out.2.1.step hSp (fun t v e=>by rw[hpp];exact e),H2.out.2.2.step hSp⟩
  have S0:w2.cell? ⟨b5,0,none⟩=some (ptr X.F):=H2.out.2.2.cell 0 rfl
  have S1:((w2.setCell ⟨X.F,10,none⟩ (.slice d2.sa d.sc.length d2.sp)).drew).cell? ⟨b5,0,none⟩=some (ptr X.F):=(H2.out.2.2.step hSp).cell 0 rfl
  clear hSp hsc hcap hpp
  generalize d.sc.length=m at *
  refine wp_region_held_drew (S:=fun w'=>w'.cell? ⟨b5,0,none⟩=some (ptr X.F)) (by kernel_rfl) S0 (fun hHold=>?_)
  refine wpAnyH_take (i:=0) (oi:=⟨some 18,_,_,_,_,_⟩) (v:=?v1) rfl (by kernel_rfl) (by kernel_rfl) (by kernel_rfl) (fun _ _ _ h=>h) (Or.inl ⟨by rfl,?hy1⟩) (by assumption) ?rest1
  case hy1=>(intro wz hSw;(try dsimp only at hSw);go_simp<;>with_reducible rfl)
  try simp only[Act.put,zz1,zz2,zz3]
  refine wpAnyH_take (i:=1) (oi:=⟨some 19,_,_,_,_,_⟩) (v:=?v2) rfl (by kernel_rfl) (by kernel_rfl) (by kernel_rfl) (fun _ _ _ h=>h) (Or.inl ⟨by rfl,?hy2⟩) (by assumption) ?rest2
  case hy2=>(intro wz hSw;(try dsimp only at hSw);go_simp<;>with_reducible rfl)
  try simp only[Act.put,zz1,zz2,zz3]
  refine wpAnyH_take (i:=2) (oi:=⟨some 20,_,_,_,_,_⟩) (v:=?v3) rfl (by kernel_rfl) (by kernel_rfl) (by kernel_rfl) (fun _ _ _ h=>h) (Or.inl ⟨by rfl,?hy3⟩) (by assumption) ?rest3
  case hy3=>(intro wz hSw;(try dsimp only at hSw);go_simp<;>with_reducible rfl)
  try simp only[Act.put,zz1,zz2,zz3]
  refine wpAnyH_take (i:=3) (oi:=⟨some 21,_,_,_,_,_⟩) (v:=?v4) rfl (by kernel_rfl) (by kernel_rfl) (by kernel_rfl) (fun _ _ _ h=>h) (Or.inl ⟨by rfl,?hy4⟩) (by assumption) ?rest4
  case hy4=>(intro wz hSw;(try dsimp only at hSw);go_simp<;>with_reducible rfl)
  try simp only[Act.put,zz1,zz2,zz3]
  refine wpAnyH_take (i:=5) (oi:=⟨some 23,_,_,_,_,_⟩) (v:=?v5) rfl (by kernel_rfl) (by kernel_rfl) (by kernel_rfl) (fun _ _ _ h=>h) (Or.inl ⟨by rfl,?hy5⟩) (by assumption) ?rest5
  case hy5=>(intro wz hSw;(try dsimp only at hSw);go_simp<;>with_reducible rfl)
  try simp only[Act.put,zz1,zz2,zz3]
  refine wpAnyH_ready (rs:=[4]) (by kernel_rfl) (by simp) ?_
  refine AllReadyH.cons (o:=⟨some 22,_,_,_,_,_⟩) rfl (fun K hK=>?_) AllReadyH.nil
  go_simp
  refine hK.out _ _ S0 (fun hHeld=>?_)
  clear hK K hHold
  have hHold:=hHeld
  clear hHeld
  try simp only[Act.put,zz1,zz2,zz3]
  refine wpAnyH_take (i:=6) (oi:=⟨some 24,_,_,_,_,_⟩) (v:=?v6) rfl (by kernel_rfl) (by kernel_rfl) (by kernel_rfl) (fun _ _ _ h=>h) (Or.inl ⟨by rfl,?hy6⟩) (by assumption) ?rest6
  case hy6=>(intro wz hSw;(try dsimp only at hSw);go_simp<;>with_reducible rfl)
  try simp only[Act.put,zz1,zz2,zz3]
  refine wpAnyH_take (i:=7) (oi:=⟨some 25,_,_,_,_,_⟩) (v:=?v7) rfl (by kernel_rfl) (by kernel_rfl) (by kernel_rfl) (fun _ _ _ h=>h) (Or.inl ⟨by rfl,?hy7⟩) (by assumption) ?rest7
  case hy7=>(intro wz hSw;(try dsimp only at hSw);go_simp<;>with_reducible rfl)
  try simp only[Act.put,zz1,zz2,zz3]
  refine wpAnyH_take (i:=8) (oi:=⟨some 26,_,_,_,_,_⟩) (v:=?v8) rfl (by kernel_rfl) (by kernel_rfl) (by kernel_rfl) (fun _ _ _ h=>h) (Or.inl ⟨by rfl,?hy8⟩) (by assumption) ?rest8
  case hy8=>(intro wz hSw;(try dsimp only at hSw);go_simp<;>with_reducible rfl)
  try simp only[Act.put,zz1,zz2,zz3]
  refine wpAnyH_ready (rs:=[9]) (by kernel_rfl) (by simp) ?_
  refine AllReadyH.cons (o:=⟨none,_,_,_,_,_⟩) rfl (fun K hK=>?_) AllReadyH.nil
  go_simp
  refine hK.out _ _ S1 (fun hHeld=>?_)
  clear hK K hHold
  have hHold:=hHeld
  clear hHeld
  try simp only[Act.put,zz1,zz2,zz3]
  refine wpAnyH_done (by kernel_rfl) ?_ _
  go_wp2_with fail
  go_meet
  case rel=>exact ⟨_,HR⟩
 obtain ⟨d3,H3⟩:=hcut
 rename World=>w3
 clear H2
 go_wp2_with fail
 have K3:Hid (Sp X d3 w3 d3 (w3.alloc (.cells #[.pointer none] 118))):=(Sp.refl H3.out.1.s).alloc _
 have HB9:Hid (BxO X d3 (w3.alloc (.cells #[.pointer none] 118)) w3.heap.size #[.pointer none]):=BxO.new H3.out.1.s _ _
 refine (qs4 ⟨E,0,none⟩ ⟨w3.heap.size,0,none⟩ (.pointer none) _ (HEt.out.1.at K3.out.s) (HB9.out.1.1.cell 0 rfl) (HB9.out.1.2 0)).mono ?_
 rintro e w4 ⟨rfl,w4',hb4,rfl⟩
 obtain ⟨b9,hb9⟩:∃ b9,w3.heap.size=b9:=⟨_,rfl⟩
 have H4:Hid (Sp X d u d3 (w4'.setCell ⟨b9,0,none⟩ (ptr E))/\Thr X N0 cd l tr q' E d3 (w4'.setCell ⟨b9,0,none⟩ (ptr E))/\Bx X d3 (w4'.setCell ⟨b9,0,none⟩ (ptr E)) b5 #[ptr X.F]/\Bx X d3 (w4'.setCell ⟨b9,0,none⟩ (ptr E)) b9 #[ptr E]):=by
  have hbb:Below w3.heap.size w3 (w4'.setCell ⟨b9,0,none⟩ (ptr E)):=(q02 (q01 _ _) hb4).setCell (by show w3.heap.size<=b9;omega) _
  have k4:Sp X d3 w3 d3 (w4'.setCell ⟨b9,0,none⟩ (ptr E)):=Sp.below H3.out.1.s hbb
  have ho:OwnB w4' b9 #[.pointer none]:=by rw[<-hb9];exact HB9.out.1.block hb4.size (hb4.block _ HB9.out.1.1.1)
  exact ⟨H3.out.1.trans k4,H3.out.2.1.step k4 (fun t v e=>e),H3.out.2.2.step k4,(ho.set (o:=0) (by show 0<1;omega) (ptr E)).1,by rw[<-hb9];exact HB9.out.2⟩
 rw[hb9]
 obtain ⟨w5,hw5⟩:∃ w5,w4'.setCell ⟨b9,0,none⟩ (.pointer (some ⟨E,0,none⟩))=w5:=⟨_,rfl⟩
 rw[hw5] at H4
 rw[hw5]
 clear hb4 hw5 hb9 H3 K3 HB9
 go_upto_region 7 with fail
 have hln3:d3.line=ln:=by
  obtain ⟨N,K,t1,c1,v,_,e,_⟩:=H4.out.2.1
  have h1:d3.line=q'.line:=congrArg DP.line e
  rw[h1,HQ'.out.2.2]
 have hre3:d3.recs.length<5000:=by
  obtain ⟨N,K,t1,c1,v,_,e,_⟩:=H4.out.2.1
  have h1:d3.recs=q'.recs:=congrArg DP.recs e
  rw[h1]
  exact HQ'.out.2.1
 go_cut [] from 10 (fun w=>∃ d5,Hid (Sp X d u d5 w/\Thr X N0 cd l tr (q'.rcd ⟨5,0,X.fn,ln,sEc dg⟩) E d5 w/\Bx X d5 w b5 #[ptr X.F]/\Bx X d5 w b9 #[ptr E]))
 case first=>
  have HKS:Hid (∀ d' w',Sp X d3 w5 d' w'->d'.line=ln->w'.cell? ⟨x2,0,none⟩=some (ptr X.M)/\w'.cell? ⟨b5,0,none⟩=some (ptr X.F)/\w'.cell? ⟨X.F,1,none⟩=some (.int .i64 X.fn)/\w'.cell? ⟨X.F,12,none⟩=some (.int .i64 ln)/\w'.cell? ⟨b9,0,none⟩=some (ptr E)/\w'.cell? ⟨E,0,none⟩=some (.int .i64 5)/\w'.cell? ⟨E,1,none⟩=some (.int .i64 0)/\w'.cell? ⟨E,2,none⟩=some (.float .f64 0)/\w'.cell? ⟨E,3,none⟩=some (.string ⟨#[]⟩)/\w'.cell? ⟨E,4,none⟩=some (.int .i64 0)):=fun d' w' k el=>by
   obtain ⟨N,K,t1,c1,v,_,e,hx⟩:=H4.out.2.1
   obtain ⟨a0,a1,a2,a3,a4,_⟩:=(hx.step k).cells
   exact ⟨(HK.out.1.at k.s).cell 0 rfl,(H4.out.2.2.1.step k).cell 0 rfl,k.s.f.1.cell 1 rfl,by rw[<-el];exact k.s.f.1.cell 12 rfl,(H4.out.2.2.2.step k).cell 0 rfl,a0,a1,a2,a3,a4⟩
  have KA:Hid (Sp X d3 w5 d3 w5.drew):=(Sp.refl H4.out.1.s).drew
  have S0:=HKS.out d3 _ KA.out hln3
  have HTo:Hid (Calls Tryz.prog 56 #[ptr X.M,vOf 5 0 0 ⟨#[]⟩ 0] w5.drew fun e w'=>e=.returned (.string (sEc dg))/\Below w5.drew.heap.size w5.drew w'):=(H4.out.2.1.step (q':=q') KA.out (fun t v e=>e)).told HEt.out.2.2 KA.out.s HEt.out.2.1
  have HRc:Hid (∀ w7,Sp X d3 w5 d3 w7->Calls Tryz.prog 142 #[ptr X.M,.int .i64 5,.int .i64 X.fn,.int .i64 ln,.string (sEc dg)] w7 fun e w'=>e=.returned (.tuple #[])/\To X d3 w7 (d3.p.rcd ⟨5,0,X.fn,ln,sEc dg⟩) w'):=fun w7 k=>q31 X d3 5 X.fn ln (sEc dg) w7 k.s hre3
  go_region_held3 (fun w'=>w'.cell? ⟨x2,0,none⟩=some (ptr X.M)/\w'.cell? ⟨b5,0,none⟩=some (ptr X.F)/\w'.cell? ⟨X.F,1,none⟩=some (.int .i64 X.fn)/\w'.cell? ⟨X.F,12,none⟩=some (.int .i64 ln)/\w'.cell? ⟨b9,0,none⟩=some (ptr E)/\w'.cell? ⟨E,0,none⟩=some (.int .i64 5)/\w'.cell? ⟨E,1,none⟩=some (.int .i64 0)/\w'.cell? ⟨E,2,none⟩=some (.float .f64 0)/\w'.cell? ⟨E,3,none⟩=some (.string ⟨#[]⟩)/\w'.cell? ⟨E,4,none⟩=some (.int .i64 0)) (first|with_reducible exact S0|with_reducible exact S1|with_reducible exact S2)
   (first
    |(go_at_call 56;refine HTo.out.mono ?_;rintro e w7 ⟨rfl,hb7⟩;have KB:Hid (Sp X d3 w5 d3 w7):=KA.out.call hb7;have S1:=HKS.out d3 w7 KB.out hln3;clear hb7)
    |(go_at_call 142;refine (HRc.out _ KB.out).mono ?_;rintro e w8 ⟨rfl,d5,hs8,e8⟩;have hl8:d5.line=ln:=(congrArg DP.line e8:d5.line=d3.line).trans hln3;have S2:=HKS.out d5 w8 (KB.out.trans hs8) hl8;have HR:Hid (Sp X d u d5 w8/\Thr X N0 cd l tr (q'.rcd ⟨5,0,X.fn,ln,sEc dg⟩) E d5 w8/\Bx X d5 w8 b5 #[ptr X.F]/\Bx X d5 w8 b9 #[ptr E]):=⟨H4.out.1.trans (KB.out.trans hs8),H4.out.2.1.step (KB.out.trans hs8) (fun t v e=>by rw[e8,e];rfl),H4.out.2.2.1.step (KB.out.trans hs8),H4.out.2.2.2.step (KB.out.trans hs8)⟩;clear hs8 e8 hl8))
  all_goals
   go_wp2_with fail
   go_meet
   case rel=>exact ⟨_,HR⟩
 obtain ⟨d5,H5⟩:=hcut
 rename World=>w6
 clear H4 hln3 hre3
 go_upto_region 8 with fail
 obtain ⟨N5,K5,t5,c5,v5,hN5,e5,hx5⟩:=H5.out.2.1
 have HE5:Hid (d5.p=(q'.rcd ⟨5,0,X.fn,ln,sEc dg⟩).tbl (.slice (some ⟨t5,0,none⟩) 1 c5) v5):=e5
 have HX5:Hid (ErX X d5 w6 N5 E K5 t5 cd l tr):=hx5
 clear e5 hx5 hN5
 have HKS:Hid (∀ d' w',Sp X d5 w6 d' w'->w'.cell? ⟨b5,0,none⟩=some (ptr X.F)/\w'.cell? ⟨x3,6,none⟩=some (.slice (some ⟨rb,ro,none⟩) 2 rc)/\w'.cell? ⟨b9,0,none⟩=some (ptr E)/\w'.cell? ⟨E,0,none⟩=some (.int .i64 5)/\w'.cell? ⟨E,1,none⟩=some (.int .i64 0)/\w'.cell? ⟨E,2,none⟩=some (.float .f64 0)/\w'.cell? ⟨E,3,none⟩=some (.string ⟨#[]⟩)/\w'.cell? ⟨E,4,none⟩=some (.int .i64 0)/\w'.cell? ⟨E,5,none⟩=some (.string tr)/\w'.cell? ⟨x4,0,none⟩=some (bkV k2)):=fun d' w' k=>by
  obtain ⟨a0,a1,a2,a3,a4,a5⟩:=(HX5.out.step k).cells
  exact ⟨(H5.out.2.2.1.step k).cell 0 rfl,(HK.out.2.1.at k.s).cell 6 HK.out.2.2.2,(H5.out.2.2.2.step k).cell 0 rfl,a0,a1,a2,a3,a4,a5,(HK.out.2.2.1.at k.s).cell 0 rfl⟩
 have KA:Hid (Sp X d5 w6 d5 w6.drew):=(Sp.refl H5.out.1.s).drew
 have hsc5:d5.sc=d.sc:=by
  have h1:d5.sc=q'.sc:=congrArg DP.sc HE5.out
  rw[h1,HQ'.out.1]
 have HSc:Hid (d5.sc=d.sc):=hsc5
 clear hsc5
 have S0:=HKS.out d5 _ KA.out
 go_region_held3 (fun w'=>w'.cell? ⟨b5,0,none⟩=some (ptr X.F)/\w'.cell? ⟨x3,6,none⟩=some (.slice (some ⟨rb,ro,none⟩) 2 rc)/\w'.cell? ⟨b9,0,none⟩=some (ptr E)/\w'.cell? ⟨E,0,none⟩=some (.int .i64 5)/\w'.cell? ⟨E,1,none⟩=some (.int .i64 0)/\w'.cell? ⟨E,2,none⟩=some (.float .f64 0)/\w'.cell? ⟨E,3,none⟩=some (.string ⟨#[]⟩)/\w'.cell? ⟨E,4,none⟩=some (.int .i64 0)/\w'.cell? ⟨E,5,none⟩=some (.string tr)/\w'.cell? ⟨x4,0,none⟩=some (bkV k2)) (first|with_reducible exact S0|with_reducible exact S1|with_reducible exact S2|with_reducible exact S3)
  (first
   |(go_at_call 51;refine (qc0 tr _).mono ?_;rintro e w7 ⟨rfl,hb7⟩;have KB:Hid (Sp X d5 w6 d5 w7):=KA.out.call hb7;have S1:=HKS.out d5 w7 KB.out;have S2:=HKS.out d5 _ (KB.out.alloc (.cells #[.int .i64 5,.int .i64 0,.float .f64 0,.string ⟨#[]⟩,.int .i64 0,.int .i64 4,.int .i64 0,.float .f64 0,.string tr,.int .i64 0] 113));clear hb7)
   |(go_at_call 204;refine (HIns.out d5 _ w7.heap.size _ v5 ((H5.out.1.trans KB.out).alloc _) HE5.out (Bl.new2 KB.out.s tr _)).mono ?_;rintro e w9 ⟨way,d9,rfl,hs9,rfl,hr9,hl9⟩;have S3:=HKS.out d9 w9 ((KB.out.alloc _).trans hs9);have HF:Hid (q11 X d u (EndR recs d.sc.length) (.returned .nilIface) w9):=⟨_,d9,rfl,((H5.out.1.trans KB.out).alloc _).trans hs9,rfl,hr9,(by rw[<-HSc.out];exact hl9)⟩;clear hs9 hr9 hl9))
 all_goals
  go_wp2_with fail
  go_ret
  exact HF.out
end Go.Proofs.YtaimofjekgnieaaGreatDoor
