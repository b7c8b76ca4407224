import Derived.Test.YtaimofjekgnieaaGreatDoorSkE
import Derived.Deep.RegionHeld
import Derived.Test.YtaimofjekgnieaaGreatDoorSpQ
set_option maxRecDepth 100000
set_option maxHeartbeats 16000000
namespace Go.Proofs.YtaimofjekgnieaaGreatDoor
open Go.RowKit
attribute [local go_sem] q00
attribute [local go_sem ↓] Go.wp_at_zero Go.wp_at_succ
theorem qq7 {C:CX} (hC:C.ok) {st:List Int} {ins:Nat} {x:FT} {a:Option Addr} {cap:Nat} {w:World} (h:SS C st ins x a cap w) {n j c b o:Nat} (hn:n<C.d.nn) (hj:j<(C.d.nd n).kn) (e:(C.fa.nas n).ka=some ⟨b,o,none⟩) (hc:(C.d.nd n).c j=(c:Int)):w.cell? ⟨b,o+j,none⟩=some (.int .i64 (c:Int)):=by
 obtain ⟨b',o',e',_,_,g⟩:=cells1 (((h.fns hC).2 C.f hC.f).2.2.2 n hn).2 hj
 have e2:some (⟨b,o,none⟩:Addr)=some ⟨b',o',none⟩:=e.symm.trans e'
 cases e2
 rw[<-hc]
 exact g
theorem y55 {u:UD} {f n c0 c1:Nat} (hk:((u.fn f).nd n).kn=2) (h0:((u.fn f).nd n).c 0=(c0:Int)) (h1:((u.fn f).nd n).c 1=(c1:Int)) (hN:∀ y,¬q69 u f n y) (P:FT->Prop) (y:FT):((P y\/q60 u f c0 y)\/q60 u f c1 y)↔(P y\/q60 u f n y):=by
 rw[qb5 u f n y,hk,qb6 u f n 1 c1 h1 y,qb6 u f n 0 c0 h0 y]
 constructor
 ·rintro ((h|h)|h)
  ·exact .inl h
  ·exact .inr (.inl (.inl (.inr h)))
  ·exact .inr (.inl (.inr h))
 ·rintro (h|((h|h)|h)|h)
  ·exact .inl (.inl h)
  ·exact absurd h (qj8 _ _ _ _)
  ·exact .inl (.inr h)
  ·exact .inr h
  ·exact absurd h (hN y)
theorem y35 (C:CX) (hC:C.ok) (n:Nat) (ih:∀ m,m<n->q59 C m) (hk:(C.d.nd n).k=12):q72 C 127 n:=by
 intro st ins x a cap P w hP
 have hk':((C.u.fn C.f).nd n).k=12:=hk
 have HN:Hid (∀ y,¬q69 C.u C.f n y):=q53 (qp6 (by omega) (by omega) (by omega)) (qc3 (by omega) (by omega)) (qd2 (by omega) (by omega))
 have hn:=hP.lt
 have hnn:=hC.nn
 have hkn:(C.d.nd n).kn=2:=(hC.node hn).two (by omega)
 have hc0:=(hC.node hn).kids 0 (by omega)
 have hc1:=(hC.node hn).kids 1 (by omega)
 obtain ⟨k0,hk0⟩:∃ c:Nat,(C.d.nd n).c 0=c:=⟨((C.d.nd n).c 0).toNat,by omega⟩
 obtain ⟨k1,hk1⟩:∃ c:Nat,(C.d.nd n).c 1=c:=⟨((C.d.nd n).c 1).toNat,by omega⟩
 have hlt0:k0<n:=by omega
 have hlt1:k1<n:=by omega
 have h2:Hid ((C.d.nd n).k≠2):=by show _≠_;omega
 have h20:Hid ((C.d.nd k0).k≠2):=by
  have h:=(hC.node hn).lets (by omega) 0 (by omega)
  rw[hk0,Int.toNat_natCast] at h
  exact h
 have h21:Hid ((C.d.nd k1).k≠2):=by
  have h:=(hC.node hn).lets (by omega) 1 (by omega)
  rw[hk1,Int.toNat_natCast] at h
  exact h
 have IH0:Hid (q59 C k0):=ih k0 hlt0
 have IH1:Hid (q59 C k1):=ih k1 hlt1
 have HP:Hid (VPre C n st ins x a cap P w):=hP
 have HC:Hid C.ok:=hC
 have hrn:=hC.rn hn
 have hroom:=hP.room
 have HQ:Hid (∀ y,((P y\/q60 C.u C.f k0 y)\/q60 C.u C.f k1 y)↔(P y\/q60 C.u C.f n y)):=y55 hkn hk0 hk1 HN.out P
 have HV0:Hid (∀ (x':FT) (a':Option Addr) (cap':Nat) (P':FT->Prop) (w':World),SS C st ins x' a' cap' w'->Least P' x'->VPre C k0 st ins x' a' cap' P' w'):=fun x' a' cap' P' w' hs hl=>
  hP.kid hC (j:=0) (by omega) hk0 hs (StackOk.plain hC.tree ⟨hn,by omega,hk0⟩ (by omega) (fun _=>by omega) hP.stack) (hP.loopK hC (by omega) hk0 (fun h=>by omega)) (by omega) (by omega) hl
 have HV1:Hid (∀ (x':FT) (a':Option Addr) (cap':Nat) (P':FT->Prop) (w':World),SS C (st++vrN (C.d.nd n).r C.d.vn (C.d.nd n).rn) ins x' a' cap' w'->Least P' x'->VPre C k1 (st++vrN (C.d.nd n).r C.d.vn (C.d.nd n).rn) ins x' a' cap' P' w'):=fun x' a' cap' P' w' hs hl=>
  hP.kid hC (j:=1) (by omega) hk1 hs (by rw[qy8];exact StackOk.last hC.tree ⟨hn,by omega,hk1⟩ (by omega) (by omega) hP.stack) (hP.loopK hC (by omega) hk1 (fun h=>by omega)) (by rw[List.length_append];have:=qn8 (C.d.nd n).r C.d.vn (C.d.nd n).rn;omega) (by omega) hl
 have c8:=hP.ss.c8
 obtain ⟨b,off,e0,_,hb,d0,d1,d2,d3,d4,d5,d6,d7⟩:=cells8 ((hP.ss.fns hC).2 C.f hC.f).2.2.1 hn
 obtain ⟨b2,o2,e2,_,hb2,g0⟩:=cells1 (((hP.ss.fns hC).2 C.f hC.f).2.2.2 n hn).2 (k:=0) (show 0<(C.d.nd n).kn by omega)
 rw[e0] at c8
 rw[show C.fas C.f=C.fa from rfl] at e2 d6 d7
 rw[show (C.u.fn C.f).nd n=C.d.nd n from rfl] at d0 d1 d2 d3 d4 d5 d6 d7
 rw[e2] at d7
 rw[show ((C.u.fn C.f).nd n).c 0=(k0:Int) from hk0] at g0
 rw[hkn] at d7
 have HE2:Hid ((C.fa.nas n).ka=some ⟨b2,o2,none⟩):=e2
 have HKD:Hid (∀ (st:List Int) (ins:Nat) (x:FT) (a:Option Addr) (cap:Nat) (w:World),SS C st ins x a cap w->w.cell? ⟨b2,o2,none⟩=some (.int .i64 (k0:Int))/\w.cell? ⟨b2,o2+1,none⟩=some (.int .i64 (k1:Int))):=fun st ins x a cap w h=>⟨qq7 hC h hn (by omega) e2 hk0,qq7 hC h hn (by omega) e2 hk1⟩
 clear hP hC ih hk hk' hc0 hc1 e0 e2 hkn g0
 go_enter Tryz.func127,Tryz.ntmps127
 go_upto_region 1 with fail
 obtain ⟨w5,hw5⟩:∃ w5,w5=w.alloc (.cells #[.int .i64 (C.d.nd n).k,.int .i64 (C.d.nd n).l,.int .i64 (C.d.nd n).o,.int .i64 (C.d.nd n).n,.float .f64 (C.d.nd n).f,.string (C.d.nd n).s,.slice (C.fa.nas n).ra (C.d.nd n).rn (C.fa.nas n).rc,.slice (some ⟨b2,o2,none⟩) 2 (C.fa.nas n).kc] 51):=⟨_,rfl⟩
 have HS5:Hid (SS C st ins x a cap w5):=by show SS _ _ _ _ _ _ _;rw[hw5];exact HP.out.ss.alloc _
 have HM5:Hid (Mv C.S C.T a w a w5):=by show Mv _ _ _ _ _ _;rw[hw5];exact (Mv.refl _ _ _ _).alloc _
 have HX5:Hid (Has w5 w.heap.size #[.int .i64 (C.d.nd n).k,.int .i64 (C.d.nd n).l,.int .i64 (C.d.nd n).o,.int .i64 (C.d.nd n).n,.float .f64 (C.d.nd n).f,.string (C.d.nd n).s,.slice (C.fa.nas n).ra (C.d.nd n).rn (C.fa.nas n).rc,.slice (some ⟨b2,o2,none⟩) 2 (C.fa.nas n).kc]):=by show Has _ _ _;rw[hw5];exact Has.new _ _ _
 have HO:Hid (w.heap.size≠C.S/\w.heap.size≠C.T/\bkOf a≠some w.heap.size):=HP.out.ss.other (Nat.le_refl _)
 rw[<-hw5]
 clear hw5 c8 d0 d1 d2 d3 d4 d5 d6 d7
 have x7:=HX5.out.cell 7 rfl
 obtain ⟨g0,g1⟩:=HKD.out _ _ _ _ _ _ HS5.out
 go_upto_region 2 with (go_at_call 134;refine (IH0.out _ _ _ _ _ _ _ (HV0.out _ _ _ _ _ HS5.out HP.out.least)).mono ?_;rintro e w6 ⟨rfl,⟨x6,a6,cap6,hs6,hl6,hm6⟩⟩;rw[q64 h20.out] at hs6;have HS6:Hid (SS C st ins x6 a6 cap6 w6):=hs6;have HL6:Hid (Least (fun y=>P y\/q60 C.u C.f k0 y) x6):=hl6;have HM6:Hid (Mv C.S C.T a w5 a6 w6):=hm6;clear hs6 hl6 hm6)
 have HX6:=HM6.out.has HX5.out HO.out.1 HO.out.2.1 HO.out.2.2
 clear x7 g0 g1
 have x7:=HX6.cell 7 rfl
 have x6':=HX6.cell 6 rfl
 obtain ⟨g0,g1⟩:=HKD.out _ _ _ _ _ _ HS6.out
 clear HX6
 go_region_with (go_at_call 158;refine (qc9 C k1 IH1.out _ _ _ (C.d.nd n).r st ins x6 a6 cap6 (fun y=>P y\/q60 C.u C.f k0 y) _ h21.out hrn (by omega) (by first|exact HS6.out|exact HS6.out.drew) (FarI.node HC.out (by first|exact HS6.out|exact HS6.out.drew) hn) HL6.out (fun a' cap' w' hs=>HV1.out _ _ _ _ _ hs HL6.out)).mono ?_;rintro e w7 ⟨rfl,⟨x7',a7,cap7,hs7,hl7,hm7⟩⟩;have HS7:Hid (SS C st ins x7' a7 cap7 w7):=hs7;have HL7:Hid (Least (fun y=>(P y\/q60 C.u C.f k0 y)\/q60 C.u C.f k1 y) x7'):=hl7;have HM7:Hid (Mv C.S C.T a6 w6 a7 w7):=(by first|exact hm7|exact (Mv.refl _ _ _ _).drew.trans hm7);clear hs7 hl7 hm7)
 all_goals go_end0
 all_goals exact ⟨rfl,x7',a7,cap7,by rw[q64 h2.out];exact HS7.out,HL7.out.congr HQ.out,(HM5.out.trans HM6.out).trans HM7.out⟩
theorem zx0 {u:UD} {f n c m:Nat} (hk:((u.fn f).nd n).kn=m+1) (h0:((u.fn f).nd n).c m=(c:Int)) (hN:∀ y,¬q69 u f n y) (P:FT->Prop) (y:FT):((P y\/qc6 u f n m y)\/q60 u f c y)↔(P y\/q60 u f n y):=by
 rw[qb5 u f n y,hk,qb6 u f n m c h0 y]
 constructor
 ·rintro ((h|h)|h)
  ·exact .inl h
  ·exact .inr (.inl (.inl h))
  ·exact .inr (.inl (.inr h))
 ·rintro (h|(h|h)|h)
  ·exact .inl (.inl h)
  ·exact .inl (.inr h)
  ·exact .inr h
  ·exact absurd h (hN y)
theorem qq0 (C:CX) (hC:C.ok) (n:Nat) (ih:∀ m,m<n->q59 C m) (hk:(C.d.nd n).k=6\/(C.d.nd n).k=7\/(C.d.nd n).k=8):q72 C 126 n:=by
 intro st ins x a cap P w hP
 have hk':((C.u.fn C.f).nd n).k=6\/((C.u.fn C.f).nd n).k=7\/((C.u.fn C.f).nd n).k=8:=hk
 have HN:Hid (∀ y,¬q69 C.u C.f n y):=q53 (qp6 (by omega) (by omega) (by omega)) (qc3 (by omega) (by omega)) (qd2 (by omega) (by omega))
 have hn:=hP.lt
 have hnn:=hC.nn
 have hsh:=hC.node hn
 obtain ⟨m,hm⟩:∃ m:Nat,(C.d.nd n).kn=m+1:=⟨(C.d.nd n).kn-1,by have:=hsh.two;have:=hsh.four;omega⟩
 have hm2:m<=3:=by have:=hsh.two;have:=hsh.four;omega
 have hcm:=hsh.kids m (by omega)
 obtain ⟨kl,hkl⟩:∃ c:Nat,(C.d.nd n).c m=c:=⟨((C.d.nd n).c m).toNat,by omega⟩
 have hltl:kl<n:=by omega
 have h2:Hid ((C.d.nd n).k≠2):=by show _≠_;omega
 have h2l:Hid ((C.d.nd kl).k≠2):=by
  have h:=hsh.lets (by omega) m (by omega)
  rw[hkl,Int.toNat_natCast] at h
  exact h
 have IHl:Hid (q59 C kl):=ih kl hltl
 have IH:Hid (∀ m,m<n->q59 C m):=ih
 have HP:Hid (VPre C n st ins x a cap P w):=hP
 have HC:Hid C.ok:=hC
 have hrn:=hC.rn hn
 have hroom:=hP.room
 have hdeep:=hP.deep
 have HQ:Hid (∀ y,((P y\/qc6 C.u C.f n m y)\/q60 C.u C.f kl y)↔(P y\/q60 C.u C.f n y)):=zx0 hm hkl HN.out P
 have HVl:Hid (∀ (x':FT) (a':Option Addr) (cap':Nat) (P':FT->Prop) (w':World),SS C (st++vrN (C.d.nd n).r C.d.vn (C.d.nd n).rn) (ins+1) x' a' cap' w'->Least P' x'->VPre C kl (st++vrN (C.d.nd n).r C.d.vn (C.d.nd n).rn) (ins+1) x' a' cap' P' w'):=fun x' a' cap' P' w' hs hl=>
  hP.kid hC (j:=m) (by omega) hkl hs (by
   by_cases e:(C.d.nd n).k=6
   ·have hr0:(C.d.nd n).rn=0:=Classical.byContradiction fun h=>by have:=hsh.refs h;omega
    rw[hr0,qy7,List.append_nil]
    exact StackOk.plain hC.tree ⟨hn,by omega,hkl⟩ (by omega) (fun h=>by omega) hP.stack
   ·rw[qy8]
    exact StackOk.last hC.tree ⟨hn,by omega,hkl⟩ (by omega) (by omega) hP.stack) (by rw[InL.iff hC.tree ⟨hn,by omega,hkl⟩];exact ⟨fun _=>.inl ⟨hk,by omega⟩,fun _=>by omega⟩) (by rw[List.length_append];have:=qn8 (C.d.nd n).r C.d.vn (C.d.nd n).rn;omega) (by omega) hl
 have HVK:Hid (∀ (j c:Nat),j<m->(C.d.nd n).c j=(c:Int)->∀ (x':FT) (a':Option Addr) (cap':Nat) (P':FT->Prop) (w':World),SS C st ins x' a' cap' w'->Least P' x'->VPre C c st ins x' a' cap' P' w'):=fun j c hj hc x' a' cap' P' w' hs hl=>
  hP.kid hC (j:=j) (by omega) hc hs (StackOk.plain hC.tree ⟨hn,by omega,hc⟩ (by omega) (fun _=>by omega) hP.stack) (hP.loopK hC (by omega) hc (fun h=>by omega)) (by omega) (by omega) hl
 have HLT:Hid (∀ (j c:Nat),j<m->(C.d.nd n).c j=(c:Int)->(C.d.nd c).k≠2):=fun j c hj hc=>by
  have h:=hsh.lets (by omega) j (by omega)
  rw[hc,Int.toNat_natCast] at h
  exact h
 have HKN:Hid (∀ j,j<m->0<=(C.d.nd n).c j/\(C.d.nd n).c j<n):=fun j hj=>hsh.kids j (by omega)
 have c8:=hP.ss.c8
 obtain ⟨b,off,e0,_,hb,d0,d1,d2,d3,d4,d5,d6,d7⟩:=cells8 ((hP.ss.fns hC).2 C.f hC.f).2.2.1 hn
 obtain ⟨b2,o2,e2,_,hb2,g0⟩:=cells1 (((hP.ss.fns hC).2 C.f hC.f).2.2.2 n hn).2 (k:=0) (show 0<(C.d.nd n).kn by omega)
 rw[e0] at c8
 rw[show C.fas C.f=C.fa from rfl] at e2 d6 d7
 rw[show (C.u.fn C.f).nd n=C.d.nd n from rfl] at d0 d1 d2 d3 d4 d5 d6 d7
 rw[e2,hm] at d7
 have hcap:m+1<=(C.fa.nas n).kc:=by have:=hC.cap.2 n hn;omega
 have HKD:Hid (∀ (st:List Int) (ins:Nat) (x:FT) (a:Option Addr) (cap:Nat) (w:World),SS C st ins x a cap w->∀ (j c:Nat),j<m+1->(C.d.nd n).c j=(c:Int)->w.cell? ⟨b2,o2+j,none⟩=some (.int .i64 (c:Int))):=fun st ins x a cap w h j c hj hc=>qq7 hC h hn (by omega) e2 hc
 have HKL:Hid ((C.d.nd n).c m=(kl:Int)):=hkl
 clear hP hC ih hk hk' hcm e0 e2 hm g0 hsh hkl
 go_enter Tryz.func126,Tryz.ntmps126
 go_upto_region 1 with fail
 obtain ⟨w5,hw5⟩:∃ w5,w5=w.alloc (.cells #[.int .i64 (C.d.nd n).k,.int .i64 (C.d.nd n).l,.int .i64 (C.d.nd n).o,.int .i64 (C.d.nd n).n,.float .f64 (C.d.nd n).f,.string (C.d.nd n).s,.slice (C.fa.nas n).ra (C.d.nd n).rn (C.fa.nas n).rc,.slice (some ⟨b2,o2,none⟩) (m+1) (C.fa.nas n).kc] 51):=⟨_,rfl⟩
 have HS5:Hid (SS C st ins x a cap w5):=by show SS _ _ _ _ _ _ _;rw[hw5];exact HP.out.ss.alloc _
 have HM5:Hid (Mv C.S C.T a w a w5):=by show Mv _ _ _ _ _ _;rw[hw5];exact (Mv.refl _ _ _ _).alloc _
 have HX5:Hid (Has w5 w.heap.size #[.int .i64 (C.d.nd n).k,.int .i64 (C.d.nd n).l,.int .i64 (C.d.nd n).o,.int .i64 (C.d.nd n).n,.float .f64 (C.d.nd n).f,.string (C.d.nd n).s,.slice (C.fa.nas n).ra (C.d.nd n).rn (C.fa.nas n).rc,.slice (some ⟨b2,o2,none⟩) (m+1) (C.fa.nas n).kc]):=by show Has _ _ _;rw[hw5];exact Has.new _ _ _
 have HO:Hid (w.heap.size≠C.S/\w.heap.size≠C.T/\bkOf a≠some w.heap.size):=HP.out.ss.other (Nat.le_refl _)
 rw[<-hw5]
 clear hw5 c8 d0 d1 d2 d3 d4 d5 d6 d7
 have x7:=HX5.out.cell 7 rfl
 go_wp2_with fail
 clear x7
 go_loopw [25] (fun i wr=>∃ (k:Nat) (x':FT) (a':Option Addr) (cap':Nat),k<=m/\i=.int .i64 k/\Hid (SS C st ins x' a' cap' wr)/\Hid (Least (fun y=>P y\/qc6 C.u C.f n k y) x')/\Hid (Mv C.S C.T a w5 a' wr)) (fun i _=>m-(intOf i).toNat)
 case atStart=>exact ⟨0,x,a,cap,Nat.zero_le _,rfl,HS5,HP.out.least.congr fun y=>⟨.inl,fun h=>h.resolve_right (qj8 _ _ _ _)⟩,Mv.refl _ _ _ _⟩
 case round=>
  obtain ⟨k,x',a',cap',hk,rfl,HS,HL,HM⟩:=hrel
  by_cases hkm:k<m
  ·have hc:=HKN.out k hkm
   obtain ⟨c,hcc⟩:∃ c:Nat,(C.d.nd n).c k=c:=⟨((C.d.nd n).c k).toNat,by omega⟩
   have hcn:c<n:=by omega
   have g0:=HKD.out _ _ _ _ _ _ HS.out k c (by omega) hcc
   have HV:Hid (Calls Tryz.prog 134 #[.pointer (some ⟨C.S,0,none⟩),.int .i64 (c:Int)] wr fun e w'=>e=.returned (.tuple #[])/\VPost C (st++leaves C c) ins (fun y=>(P y\/qc6 C.u C.f n k y)\/q60 C.u C.f c y) a' wr w'):=IH.out c hcn _ _ _ _ _ _ _ (HVK.out k c hkm hcc _ _ _ _ _ HS.out HL.out)
   have HE:Hid (st++leaves C c=st):=q64 (HLT.out k c hkm hcc) st
   have HQk:Hid (∀ y,((P y\/qc6 C.u C.f n k y)\/q60 C.u C.f c y)↔(P y\/qc6 C.u C.f n (k+1) y)):=fun y=>by rw[qb6 C.u C.f n k c hcc y,or_assoc]
   clear hc hcc
   go_wp2_with (go_at_call 134;refine HV.out.mono ?_;rintro e w9 ⟨rfl,⟨x9,a9,cap9,hs9,hl9,hm9⟩⟩;rw[HE.out] at hs9;have HS9:Hid (SS C st ins x9 a9 cap9 w9):=hs9;have HL9:Hid (Least (fun y=>(P y\/qc6 C.u C.f n k y)\/q60 C.u C.f c y) x9):=hl9;have HM9:Hid (Mv C.S C.T a' wr a9 w9):=hm9;clear hs9 hl9 hm9)
   go_roundw
   case rel=>exact ⟨k+1,x9,a9,cap9,by omega,by go_num,HS9,HL9.out.congr HQk.out,HM.out.trans HM9.out⟩
   case measure=>simp[intOf];omega
  ·obtain rfl:k=m:=by omega
   have c50:=HS.out.c50
   have z:=HS.out.fz
   go_upto_region 8 with fail
   obtain ⟨w6,hw6⟩:∃ w6,w6=wr.setCell ⟨C.S,50,none⟩ (.int .i64 ((ins:Int)+1)):=⟨_,rfl⟩
   have HS6:Hid (SS C st (ins+1) x' a' cap' w6):=by
    show SS _ _ _ _ _ _ _
    rw[hw6]
    have h:=HS.out.ins (ins+1)
    rwa [show (((ins+1:Nat)):Int)=(ins:Int)+1 by omega] at h
   have HM6:Hid (Mv C.S C.T a w5 a' w6):=by show Mv _ _ _ _ _ _;rw[hw6];exact HM.out.set (p:=⟨C.S,50,none⟩) (.inl rfl) _
   rw[<-hw6]
   clear hw6 c50 z
   have HX6:=HM6.out.has HX5.out HO.out.1 HO.out.2.1 HO.out.2.2
   have y7:=HX6.cell 7 rfl
   have y6:=HX6.cell 6 rfl
   have gl:=HKD.out _ _ _ _ _ _ HS6.out k kl (by omega) HKL.out
   clear HX6
   go_region_with (go_at_call 158;refine (qc9 C kl IHl.out _ _ _ (C.d.nd n).r st (ins+1) x' a' cap' (fun y=>P y\/qc6 C.u C.f n k y) _ h2l.out hrn (by omega) (by first|exact HS6.out|exact HS6.out.drew) (FarI.node HC.out (by first|exact HS6.out|exact HS6.out.drew) hn) HL.out (fun a' cap' w' hs=>HVl.out _ _ _ _ _ hs HL.out)).mono ?_;rintro e w7 ⟨rfl,⟨x7',a7,cap7,hs7,hl7,hm7⟩⟩;have HS7:Hid (SS C st (ins+1) x7' a7 cap7 w7):=hs7;have HL7:Hid (Least (fun y=>(P y\/qc6 C.u C.f n k y)\/q60 C.u C.f kl y) x7'):=hl7;have HM7:Hid (Mv C.S C.T a' w6 a7 w7):=(by first|exact hm7|exact (Mv.refl _ _ _ _).drew.trans hm7);clear hs7 hl7 hm7)
   all_goals
    have c50:w7.cell? ⟨C.S,50,none⟩=some (.int .i64 ((ins:Int)+1)):=by
     have h:=HS7.out.c50
     rwa [show (((ins+1:Nat)):Int)=(ins:Int)+1 by omega] at h
    have z:=HS7.out.fz
    go_wp2_with fail
    go_end0
    exact ⟨rfl,x7',a7,cap7,by rw[q64 h2.out];exact HS7.out.ins ins,HL7.out.congr HQ.out,((HM5.out.trans HM6.out).trans HM7.out).set (p:=⟨C.S,50,none⟩) (.inl rfl) _⟩
theorem yd4 (k:Nat) (hk:k<39) (h:k≠1/\k≠2/\k≠6/\k≠7/\k≠8/\k≠9/\k≠10/\k≠12/\k≠26/\k≠27/\k≠36/\k≠37):sfN k=123:=by
 rcases (show k=0\/k=1\/k=2\/k=3\/k=4\/k=5\/k=6\/k=7\/k=8\/k=9\/k=10\/k=11\/k=12\/k=13\/k=14\/k=15\/k=16\/k=17\/k=18\/k=19\/k=20\/k=21\/k=22\/k=23\/k=24\/k=25\/k=26\/k=27\/k=28\/k=29\/k=30\/k=31\/k=32\/k=33\/k=34\/k=35\/k=36\/k=37\/k=38 by omega) with rfl|rfl|rfl|rfl|rfl|rfl|rfl|rfl|rfl|rfl|rfl|rfl|rfl|rfl|rfl|rfl|rfl|rfl|rfl|rfl|rfl|rfl|rfl|rfl|rfl|rfl|rfl|rfl|rfl|rfl|rfl|rfl|rfl|rfl|rfl|rfl|rfl|rfl|rfl<;>first|rfl|omega
theorem zs5 (C:CX) (hC:C.ok):∀ n,n<C.d.nn->q59 C n:=by
 intro n
 induction n using Nat.strongRecOn with
 |ind n ih=>
  intro hn
  have ih':∀ m,m<n->q59 C m:=fun m hm=>ih m hm (by omega)
  refine y33 C hC n ?_
  have hsh:=(hC.node hn).kind
  by_cases k1:(C.d.nd n).k=1
  ·rw[k1];exact zr2 C hC n ih' k1
  by_cases k2:(C.d.nd n).k=2
  ·rw[k2];exact y60 C hC n ih' k2
  by_cases k6:(C.d.nd n).k=6
  ·rw[k6];exact qq0 C hC n ih' (by omega)
  by_cases k7:(C.d.nd n).k=7
  ·rw[k7];exact qq0 C hC n ih' (by omega)
  by_cases k8:(C.d.nd n).k=8
  ·rw[k8];exact qq0 C hC n ih' (by omega)
  by_cases k12:(C.d.nd n).k=12
  ·rw[k12];exact y35 C hC n ih' k12
  by_cases k9:(C.d.nd n).k=9
  ·rw[k9];exact z96 C hC n (by omega)
  by_cases k10:(C.d.nd n).k=10
  ·rw[k10];exact z96 C hC n (by omega)
  by_cases k26:(C.d.nd n).k=26
  ·rw[k26];exact qy9 C hC n k26
  by_cases k27:(C.d.nd n).k=27
  ·rw[k27];exact yb8 C hC n k27
  by_cases k36:(C.d.nd n).k=36
  ·rw[k36];exact zp7 C hC n k36
  by_cases k37:(C.d.nd n).k=37
  ·rw[k37];exact zv5 C hC n k37
  rw[yd4 (C.d.nd n).k.toNat (by omega) (by omega)]
  exact zy2 C hC n hn ih' ⟨k1,k2,k6,k7,k8,k12,k9,k10,k26,k27,k36,k37⟩
abbrev scB (K:Nat->Value) (T:Nat) (u:UD) (f:Nat) (ua:Option Addr) (uc:Nat) (fa:FA):Array Value:=#[.slice ua u.n uc,.int .i64 (f:Int),.string (u.fn f).name,.int .i64 (u.fn f).line,.int .i64 (u.fn f).params,.bool (u.fn f).rest,.slice fa.va (u.fn f).vn fa.vc,.slice fa.ua (u.fn f).un fa.uc,.slice fa.na (u.fn f).nn fa.nc,K 0,K 1,K 2,K 3,K 4,K 5,K 6,K 7,K 8,K 9,K 10,K 11,K 12,K 13,K 14,K 15,K 16,K 17,K 18,K 19,K 20,K 21,K 22,K 23,K 24,K 25,K 26,K 27,K 28,K 29,K 30,K 31,K 32,K 33,K 34,K 35,K 36,K 37,K 38,.slice none 0 0,.slice (some ⟨T,0,none⟩) (u.fn f).vn (u.fn f).vn,.int .i64 0,.int .i64 0,.int .i64 0,.int .i64 0]
theorem yd6 (K:Nat->Value) (T:Nat) (u:UD) (f:Nat) (ua:Option Addr) (uc:Nat) (fa:FA) (k:Nat) (hk:k<39) (v:Value):(scB K T u f ua uc fa).setIfInBounds (9+k) v=scB (fun j=>if j=k then v else K j) T u f ua uc fa:=by
 rcases (show k=0\/k=1\/k=2\/k=3\/k=4\/k=5\/k=6\/k=7\/k=8\/k=9\/k=10\/k=11\/k=12\/k=13\/k=14\/k=15\/k=16\/k=17\/k=18\/k=19\/k=20\/k=21\/k=22\/k=23\/k=24\/k=25\/k=26\/k=27\/k=28\/k=29\/k=30\/k=31\/k=32\/k=33\/k=34\/k=35\/k=36\/k=37\/k=38 by omega) with rfl|rfl|rfl|rfl|rfl|rfl|rfl|rfl|rfl|rfl|rfl|rfl|rfl|rfl|rfl|rfl|rfl|rfl|rfl|rfl|rfl|rfl|rfl|rfl|rfl|rfl|rfl|rfl|rfl|rfl|rfl|rfl|rfl|rfl|rfl|rfl|rfl|rfl|rfl<;>rfl
theorem yk4 (K:Nat->Value) (T:Nat) (u:UD) (f:Nat) (ua:Option Addr) (uc:Nat) (fa:FA) (k:Nat) (hk:k<39):(scB K T u f ua uc fa)[9+k]?=some (K k):=by
 rcases (show k=0\/k=1\/k=2\/k=3\/k=4\/k=5\/k=6\/k=7\/k=8\/k=9\/k=10\/k=11\/k=12\/k=13\/k=14\/k=15\/k=16\/k=17\/k=18\/k=19\/k=20\/k=21\/k=22\/k=23\/k=24\/k=25\/k=26\/k=27\/k=28\/k=29\/k=30\/k=31\/k=32\/k=33\/k=34\/k=35\/k=36\/k=37\/k=38 by omega) with rfl|rfl|rfl|rfl|rfl|rfl|rfl|rfl|rfl|rfl|rfl|rfl|rfl|rfl|rfl|rfl|rfl|rfl|rfl|rfl|rfl|rfl|rfl|rfl|rfl|rfl|rfl|rfl|rfl|rfl|rfl|rfl|rfl|rfl|rfl|rfl|rfl|rfl|rfl<;>rfl
theorem z64 {K K':Nat->Value} (h:∀ j,j<39->K j=K' j) (T:Nat) (u:UD) (f:Nat) (ua:Option Addr) (uc:Nat) (fa:FA):scB K T u f ua uc fa=scB K' T u f ua uc fa:=by
 unfold scB
 rw[h 0 (by omega),h 1 (by omega),h 2 (by omega),h 3 (by omega),h 4 (by omega),h 5 (by omega),h 6 (by omega),h 7 (by omega),h 8 (by omega),h 9 (by omega),h 10 (by omega),h 11 (by omega),h 12 (by omega),h 13 (by omega),h 14 (by omega),h 15 (by omega),h 16 (by omega),h 17 (by omega),h 18 (by omega),h 19 (by omega),h 20 (by omega),h 21 (by omega),h 22 (by omega),h 23 (by omega),h 24 (by omega),h 25 (by omega),h 26 (by omega),h 27 (by omega),h 28 (by omega),h 29 (by omega),h 30 (by omega),h 31 (by omega),h 32 (by omega),h 33 (by omega),h 34 (by omega),h 35 (by omega),h 36 (by omega),h 37 (by omega),h 38 (by omega)]
def mvK (S k:Nat):Nat->Value:=fun j=>if j<k then mvS S 123 else .nilFunc
theorem y58 (S k:Nat) (j:Nat):(if j=k then mvS S 123 else mvK S k j)=mvK S (k+1) j:=by
 unfold mvK
 by_cases e:j=k
 ·rw[if_pos e,if_pos (by omega)]
 ·rw[if_neg e]
  by_cases c:j<k
  ·rw[if_pos c,if_pos (by omega)]
  ·rw[if_neg c,if_neg (by omega)]
end Go.Proofs.YtaimofjekgnieaaGreatDoor
namespace Go.Proofs.YtaimofjekgnieaaGreatDoor
open Go.RowKit
theorem qz8 (P:Program) (w:World) (a:Addr) (m:Mode) (fn:Fn) (first captured:Array Value):(store a (.func fn first captured) m).run P w=stored P w a (.func fn first captured) m:=run_store P w a _ m rfl
theorem own12 {w:World} {S:Nat} {A:Array Value} (h:OwnB w S A) (hA:A.size=54) (v0 v1 v2 v3 v4 v5 v6 v7 v8 v9 v10 v11:Value):OwnB ((((((((((((w.setCell ⟨S,10,none⟩ v0).setCell ⟨S,11,none⟩ v1).setCell ⟨S,15,none⟩ v2).setCell ⟨S,16,none⟩ v3).setCell ⟨S,17,none⟩ v4).setCell ⟨S,21,none⟩ v5).setCell ⟨S,18,none⟩ v6).setCell ⟨S,19,none⟩ v7).setCell ⟨S,35,none⟩ v8).setCell ⟨S,36,none⟩ v9).setCell ⟨S,45,none⟩ v10).setCell ⟨S,46,none⟩ v11) S ((((((((((((A.setIfInBounds 10 v0).setIfInBounds 11 v1).setIfInBounds 15 v2).setIfInBounds 16 v3).setIfInBounds 17 v4).setIfInBounds 21 v5).setIfInBounds 18 v6).setIfInBounds 19 v7).setIfInBounds 35 v8).setIfInBounds 36 v9).setIfInBounds 45 v10).setIfInBounds 46 v11):=((((((((((((h.set (o:=10) (by simp[hA]) v0).set (o:=11) (by simp[hA]) v1).set (o:=15) (by simp[hA]) v2).set (o:=16) (by simp[hA]) v3).set (o:=17) (by simp[hA]) v4).set (o:=21) (by simp[hA]) v5).set (o:=18) (by simp[hA]) v6).set (o:=19) (by simp[hA]) v7).set (o:=35) (by simp[hA]) v8).set (o:=36) (by simp[hA]) v9).set (o:=45) (by simp[hA]) v10).set (o:=46) (by simp[hA]) v11)
theorem y47 (S T:Nat) (u:UD) (f:Nat) (ua:Option Addr) (uc:Nat) (fa:FA):((((((((((((scB (mvK S 39) T u f ua uc fa).setIfInBounds 10 (mvS S 124)).setIfInBounds 11 (mvS S 125)).setIfInBounds 15 (mvS S 126)).setIfInBounds 16 (mvS S 126)).setIfInBounds 17 (mvS S 126)).setIfInBounds 21 (mvS S 127)).setIfInBounds 18 (mvS S 128)).setIfInBounds 19 (mvS S 128)).setIfInBounds 35 (mvS S 129)).setIfInBounds 36 (mvS S 130)).setIfInBounds 45 (mvS S 131)).setIfInBounds 46 (mvS S 132)=scA S T u f ua uc fa (.slice none 0 0) 0 ft0:=by
 rw[z64 (K:=mvK S 39) (K':=fun _=>mvS S 123) (fun j hj=>if_pos hj)]
 kernel_rfl
attribute [local go_sem] q00 qz8
attribute [local go_sem ↓] Go.wp_at_zero Go.wp_at_succ
theorem qp7 (L:Nat) (u:UD) (f:Nat) (a:Option Addr) (cap:Nat) (fas:Nat->FA) (w:World) (hf:f<u.n) (hvn:(u.fn f).vn<=200) (hT:FnsAt L w u.n u.fn a fas) :
  Calls Tryz.prog 76 #[unV u a cap,.int .i64 (f:Int)] w fun e w'=>∃ S T,e=.returned (.pointer (some ⟨S,0,none⟩))/\SS ⟨S,T,L,w,u,f,a,cap,fas⟩ [] 0 ft0 none 0 w':=by
 have HT:Hid (FnsAt L w u.n u.fn a fas):=hT
 have HF:Hid (f<u.n):=hf
 obtain ⟨b,off,e0,_,hb,d0,d1,d2,d3,d4,d5,d6⟩:=cells7 hT.1 hf
 subst e0
 clear hT
 have hmk:=fun v=>run_make_row' (P:=Tryz.prog) 44 3 (.int .i64 0) 8 Tryz.underlying44 z25 rfl .i64 .i64 (u.fn f).vn (by omega) (by omega) v
 go_enter Tryz.func76,Tryz.ntmps76
 go_upto_region 1 with fail
 have HS0:Hid (∀ w',Below (w.alloc (.cells #[.slice (some ⟨b,off,none⟩) u.n cap] 31)).heap.size (w.alloc (.cells #[.slice (some ⟨b,off,none⟩) u.n cap] 31)) w'->w'.cell? ⟨w.heap.size,0,none⟩=some (.slice (some ⟨b,off,none⟩) u.n cap)/\w'.cell? ⟨b,off+f*7,none⟩=some (.string (u.fn f).name)/\w'.cell? ⟨b,off+f*7+1,none⟩=some (.int .i64 (u.fn f).line)/\w'.cell? ⟨b,off+f*7+2,none⟩=some (.int .i64 (u.fn f).params)/\w'.cell? ⟨b,off+f*7+3,none⟩=some (.bool (u.fn f).rest)/\w'.cell? ⟨b,off+f*7+4,none⟩=some (.slice (fas f).va (u.fn f).vn (fas f).vc)/\w'.cell? ⟨b,off+f*7+5,none⟩=some (.slice (fas f).ua (u.fn f).un (fas f).uc)/\w'.cell? ⟨b,off+f*7+6,none⟩=some (.slice (fas f).na (u.fn f).nn (fas f).nc)):=fun w' hw=>by
  obtain ⟨b',off',e1,_,_,h⟩:=cells7 (HT.out.below (q02 (q01 _ _) hw)).1 HF.out
  cases e1
  exact ⟨(Has.made hw).cell 0 rfl,h⟩
 refine wp_region_held_drew (S:=fun w'=>w'.cell? ⟨w.heap.size,0,none⟩=some (.slice (some ⟨b,off,none⟩) u.n cap)/\w'.cell? ⟨b,off+f*7,none⟩=some (.string (u.fn f).name)/\w'.cell? ⟨b,off+f*7+1,none⟩=some (.int .i64 (u.fn f).line)/\w'.cell? ⟨b,off+f*7+2,none⟩=some (.int .i64 (u.fn f).params)/\w'.cell? ⟨b,off+f*7+3,none⟩=some (.bool (u.fn f).rest)/\w'.cell? ⟨b,off+f*7+4,none⟩=some (.slice (fas f).va (u.fn f).vn (fas f).vc)/\w'.cell? ⟨b,off+f*7+5,none⟩=some (.slice (fas f).ua (u.fn f).un (fas f).uc)/\w'.cell? ⟨b,off+f*7+6,none⟩=some (.slice (fas f).na (u.fn f).nn (fas f).nc)) (by kernel_rfl) (HS0.out _ (Below.refl _ _).drew) (fun hHold=>?_)
 refine wpAnyH_take (i:=0) (oi:=⟨some 7,_,_,_,_,_⟩) (v:=?v1) rfl (by kernel_rfl) (by kernel_rfl) (by kernel_rfl) (fun _ _ _ h=>h) (Or.inl ⟨by rfl,?hy1⟩) (by assumption) ?rest1
 case hy1=>(intro wz hSw;(try dsimp only at hSw);go_simp<;>with_reducible rfl)
 try simp only[Act.put,zz1,zz2,zz3]
 refine wpAnyH_take (i:=1) (oi:=⟨some 8,_,_,_,_,_⟩) (v:=?v2) rfl (by kernel_rfl) (by kernel_rfl) (by kernel_rfl) (fun _ _ _ h=>h) (Or.inl ⟨by rfl,?hy2⟩) (by assumption) ?rest2
 case hy2=>(intro wz hSw;(try dsimp only at hSw);go_simp<;>with_reducible rfl)
 try simp only[Act.put,zz1,zz2,zz3]
 refine wpAnyH_take (i:=2) (oi:=⟨some 9,_,_,_,_,_⟩) (v:=?v3) rfl (by kernel_rfl) (by kernel_rfl) (by kernel_rfl) (fun _ _ _ h=>h) (Or.inl ⟨by rfl,?hy3⟩) (by assumption) ?rest3
 case hy3=>(intro wz hSw;(try dsimp only at hSw);go_simp<;>with_reducible rfl)
 try simp only[Act.put,zz1,zz2,zz3]
 refine wpAnyH_take (i:=3) (oi:=⟨some 10,_,_,_,_,_⟩) (v:=?v4) rfl (by kernel_rfl) (by kernel_rfl) (by kernel_rfl) (fun _ _ _ h=>h) (Or.inl ⟨by rfl,?hy4⟩) (by assumption) ?rest4
 case hy4=>(intro wz hSw;(try dsimp only at hSw);go_simp<;>with_reducible rfl)
 try simp only[Act.put,zz1,zz2,zz3]
 refine wpAnyH_take (i:=4) (oi:=⟨some 11,_,_,_,_,_⟩) (v:=?v5) rfl (by kernel_rfl) (by kernel_rfl) (by kernel_rfl) (fun _ _ _ h=>h) (Or.inl ⟨by rfl,?hy5⟩) (by assumption) ?rest5
 case hy5=>(intro wz hSw;(try dsimp only at hSw);go_simp<;>with_reducible rfl)
 try simp only[Act.put,zz1,zz2,zz3]
 refine wpAnyH_take (i:=5) (oi:=⟨some 12,_,_,_,_,_⟩) (v:=?v6) rfl (by kernel_rfl) (by kernel_rfl) (by kernel_rfl) (fun _ _ _ h=>h) (Or.inl ⟨by rfl,?hy6⟩) (by assumption) ?rest6
 case hy6=>(intro wz hSw;(try dsimp only at hSw);go_simp<;>with_reducible rfl)
 try simp only[Act.put,zz1,zz2,zz3]
 refine wpAnyH_take (i:=6) (oi:=⟨some 13,_,_,_,_,_⟩) (v:=?v7) rfl (by kernel_rfl) (by kernel_rfl) (by kernel_rfl) (fun _ _ _ h=>h) (Or.inl ⟨by rfl,?hy7⟩) (by assumption) ?rest7
 case hy7=>(intro wz hSw;(try dsimp only at hSw);go_simp<;>with_reducible rfl)
 try simp only[Act.put,zz1,zz2,zz3]
 refine wpAnyH_take (i:=7) (oi:=⟨some 14,_,_,_,_,_⟩) (v:=?v8) rfl (by kernel_rfl) (by kernel_rfl) (by kernel_rfl) (fun _ _ _ h=>h) (Or.inl ⟨by rfl,?hy8⟩) (by assumption) ?rest8
 case hy8=>(intro wz hSw;(try dsimp only at hSw);go_simp<;>with_reducible rfl)
 try simp only[Act.put,zz1,zz2,zz3]
 refine wpAnyH_take (i:=8) (oi:=⟨some 15,_,_,_,_,_⟩) (v:=?v9) rfl (by kernel_rfl) (by kernel_rfl) (by kernel_rfl) (fun _ _ _ h=>h) (Or.inl ⟨by rfl,?hy9⟩) (by assumption) ?rest9
 case hy9=>(intro wz hSw;(try dsimp only at hSw);go_simp<;>with_reducible rfl)
 try simp only[Act.put,zz1,zz2,zz3]
 refine wpAnyH_take (i:=9) (oi:=⟨some 16,_,_,_,_,_⟩) (v:=?v10) rfl (by kernel_rfl) (by kernel_rfl) (by kernel_rfl) (fun _ _ _ h=>h) (Or.inl ⟨by rfl,?hy10⟩) (by assumption) ?rest10
 case hy10=>(intro wz hSw;(try dsimp only at hSw);go_simp<;>with_reducible rfl)
 try simp only[Act.put,zz1,zz2,zz3]
 refine wpAnyH_take (i:=10) (oi:=⟨some 17,_,_,_,_,_⟩) (v:=?v11) rfl (by kernel_rfl) (by kernel_rfl) (by kernel_rfl) (fun _ _ _ h=>h) (Or.inl ⟨by rfl,?hy11⟩) (by assumption) ?rest11
 case hy11=>(intro wz hSw;(try dsimp only at hSw);go_simp<;>with_reducible rfl)
 try simp only[Act.put,zz1,zz2,zz3]
 refine wpAnyH_take (i:=11) (oi:=⟨some 18,_,_,_,_,_⟩) (v:=?v12) rfl (by kernel_rfl) (by kernel_rfl) (by kernel_rfl) (fun _ _ _ h=>h) (Or.inl ⟨by rfl,?hy12⟩) (by assumption) ?rest12
 case hy12=>(intro wz hSw;(try dsimp only at hSw);go_simp<;>with_reducible rfl)
 try simp only[Act.put,zz1,zz2,zz3]
 refine wpAnyH_take (i:=12) (oi:=⟨some 19,_,_,_,_,_⟩) (v:=?v13) rfl (by kernel_rfl) (by kernel_rfl) (by kernel_rfl) (fun _ _ _ h=>h) (Or.inl ⟨by rfl,?hy13⟩) (by assumption) ?rest13
 case hy13=>(intro wz hSw;(try dsimp only at hSw);go_simp<;>with_reducible rfl)
 try simp only[Act.put,zz1,zz2,zz3]
 refine wpAnyH_take (i:=13) (oi:=⟨some 20,_,_,_,_,_⟩) (v:=?v14) rfl (by kernel_rfl) (by kernel_rfl) (by kernel_rfl) (fun _ _ _ h=>h) (Or.inl ⟨by rfl,?hy14⟩) (by assumption) ?rest14
 case hy14=>(intro wz hSw;(try dsimp only at hSw);go_simp<;>with_reducible rfl)
 try simp only[Act.put,zz1,zz2,zz3]
 refine wpAnyH_ready (rs:=[14]) (by kernel_rfl) (by simp) ?_
 refine AllReadyH.cons (o:=⟨some 21,_,_,_,_,_⟩) rfl (fun K hK=>?_) AllReadyH.nil
 go_simp
 refine hK.out _ _ (HS0.out _ ((q01 _ _).drew)) (fun hHeld=>?_)
 clear hK K hHold
 have hHold:=hHeld
 clear hHeld hmk
 refine wpAnyH_take (i:=15) (oi:=⟨some 22,_,_,_,_,_⟩) (v:=?v16) rfl (by kernel_rfl) (by kernel_rfl) (by kernel_rfl) (fun _ _ _ h=>h) (Or.inl ⟨by rfl,?hy16⟩) (by assumption) ?rest16
 case hy16=>(intro wz hSw;(try dsimp only at hSw);go_simp<;>with_reducible rfl)
 try simp only[Act.put,zz1,zz2,zz3]
 refine wpAnyH_ready (rs:=[16]) (by kernel_rfl) (by simp) ?_
 refine AllReadyH.cons (o:=⟨some 23,_,_,_,_,_⟩) rfl (fun K hK=>?_) AllReadyH.nil
 go_simp
 refine hK.out _ _ (HS0.out _ (((q01 _ _).alloc (by simp) _).drew)) (fun hHeld=>?_)
 clear hK K hHold
 have hHold:=hHeld
 clear hHeld
 refine wpAnyH_take (i:=17) (oi:=⟨some 5,_,_,_,_,_⟩) (v:=?v18) rfl (by kernel_rfl) (by kernel_rfl) (by kernel_rfl) (fun _ _ _ h=>h) (Or.inl ⟨by rfl,?hy18⟩) (by assumption) ?rest18
 case hy18=>(intro wz hSw;(try dsimp only at hSw);go_simp<;>with_reducible rfl)
 try simp only[Act.put,zz1,zz2,zz3]
 refine wpAnyH_done (by kernel_rfl) ?_ _
 obtain ⟨w1,hw1⟩:∃ w1,w1=(((w.alloc (.cells #[.slice (some ⟨b,off,none⟩) u.n cap] 31)).alloc (.cells (madeCells #[.int .i64 0] (u.fn f).vn) 3)).alloc (.cells (scB (fun _=>.nilFunc) (w.heap.size+1) u f (some ⟨b,off,none⟩) cap (fas f)) 210)).drew:=⟨_,rfl⟩
 have HO1:Hid (OwnB w1 (w.heap.size+1 + 1) (scB (mvK (w.heap.size+1 + 1) 0) (w.heap.size+1) u f (some ⟨b,off,none⟩) cap (fas f))):=by
  show OwnB _ _ _
  have h:=OwnB.new ((w.alloc (.cells #[.slice (some ⟨b,off,none⟩) u.n cap] 31)).alloc (.cells (madeCells #[.int .i64 0] (u.fn f).vn) 3)) (scB (fun _=>.nilFunc) (w.heap.size+1) u f (some ⟨b,off,none⟩) cap (fas f)) 210
  rw[show ((w.alloc (.cells #[.slice (some ⟨b,off,none⟩) u.n cap] 31)).alloc (.cells (madeCells #[.int .i64 0] (u.fn f).vn) 3)).heap.size=w.heap.size+1 + 1 by simp] at h
  rw[hw1]
  exact h
 have HR1:Hid (CRow w1 (w.heap.size+1) (u.fn f).vn (cnt [])):=by
  have h:=(qo6 (w.alloc (.cells #[.slice (some ⟨b,off,none⟩) u.n cap] 31)) (.int .i64 0) 3 (n:=(u.fn f).vn) (b:=w.heap.size+1) (by simp)).alloc (.cells (scB (fun _=>.nilFunc) (w.heap.size+1) u f (some ⟨b,off,none⟩) cap (fas f)) 210)
  rw[hw1]
  exact h
 have HB1:Hid (Below w.heap.size w w1):=by show Below _ _ _;rw[hw1];exact (q39 _ _ _ _).drew
 simp only[scB] at hw1
 rw[<-hw1]
 clear hw1 hHold d0 d1 d2 d3 d4 d5 d6 HS0
 have hmf:∀ (fn:Fn) (first cap:Array Value) (w:World),(Instr.makeFunc fn first cap).run Tryz.prog w=.ok (.func fn first cap) w:=fun _ _ _ _=>rfl
 go_wp2_with fail
 go_loopw [24] (fun i wr=>∃ (k:Nat),k<=39/\i=.int .i64 k/\Hid (OwnB wr (w.heap.size+1 + 1) (scB (mvK (w.heap.size+1 + 1) k) (w.heap.size+1) u f (some ⟨b,off,none⟩) cap (fas f)))/\Hid (TOnly (w.heap.size+1 + 1) w1 wr)) (fun i _=>39-(intOf i).toNat)
 case atStart=>exact ⟨0,Nat.zero_le _,rfl,HO1,TOnly.refl _ _⟩
 case round=>
  clear HO1
  obtain ⟨k,hk,rfl,HO,HTo⟩:=hrel
  by_cases hkn:k<39
  ·have g0:=HO.out.1.cell (9+k) (yk4 _ _ _ _ _ _ _ k hkn)
   have z:=HO.out.2
   have HO2:Hid (OwnB (wr.setCell ⟨w.heap.size+1 + 1,9+k,none⟩ (mvS (w.heap.size+1 + 1) 123)) (w.heap.size+1 + 1) (scB (mvK (w.heap.size+1 + 1) (k+1)) (w.heap.size+1) u f (some ⟨b,off,none⟩) cap (fas f))):=by
    have h:=HO.out.set (o:=9+k) (by show 9+k<54;omega) (mvS (w.heap.size+1 + 1) 123)
    rw[yd6 _ _ _ _ _ _ _ k hkn,z64 (fun j _=>y58 (w.heap.size+1 + 1) k j)] at h
    exact h
   go_wp2_with fail
   go_roundw
   case rel=>exact ⟨k+1,by omega,by go_num,HO2,HTo.out.set _ _⟩
   case measure=>simp[intOf];omega
  ·obtain rfl:k=39:=by omega
   have z:=HO.out.2
   have q1:=HO.out.1.cell 10 rfl
   have q2:=HO.out.1.cell 11 rfl
   have q6:=HO.out.1.cell 15 rfl
   have q7:=HO.out.1.cell 16 rfl
   have q8:=HO.out.1.cell 17 rfl
   have q12:=HO.out.1.cell 21 rfl
   have q9:=HO.out.1.cell 18 rfl
   have q10:=HO.out.1.cell 19 rfl
   have q26:=HO.out.1.cell 35 rfl
   have q27:=HO.out.1.cell 36 rfl
   have q36:=HO.out.1.cell 45 rfl
   have q37:=HO.out.1.cell 46 rfl
   go_wp2_with fail
   go_ret
   have HTo2:=((((((((((((HTo.out.set 10 (mvS (w.heap.size+1 + 1) 124)).set 11 (mvS (w.heap.size+1 + 1) 125)).set 15 (mvS (w.heap.size+1 + 1) 126)).set 16 (mvS (w.heap.size+1 + 1) 126)).set 17 (mvS (w.heap.size+1 + 1) 126)).set 21 (mvS (w.heap.size+1 + 1) 127)).set 18 (mvS (w.heap.size+1 + 1) 128)).set 19 (mvS (w.heap.size+1 + 1) 128)).set 35 (mvS (w.heap.size+1 + 1) 129)).set 36 (mvS (w.heap.size+1 + 1) 130)).set 45 (mvS (w.heap.size+1 + 1) 131)).set 46 (mvS (w.heap.size+1 + 1) 132))
   refine ⟨w.heap.size+1 + 1,w.heap.size+1,rfl,?_,World.rowIs.of_block HR1.out (HTo2.block (w.heap.size+1) (by omega)),World.ownsRow_nil _ _ _ _,(fun v hv=>absurd hv (by simp)),by show w.heap.size+1 + 1≠w.heap.size+1;omega,(fun e=>by cases e),(fun e=>by cases e),by show w.heap.size<=w.heap.size+1 + 1;omega,by show w.heap.size<=w.heap.size+1;omega,?_⟩
   ·have h:=own12 HO.out rfl (mvS (w.heap.size+1 + 1) 124) (mvS (w.heap.size+1 + 1) 125) (mvS (w.heap.size+1 + 1) 126) (mvS (w.heap.size+1 + 1) 126) (mvS (w.heap.size+1 + 1) 126) (mvS (w.heap.size+1 + 1) 127) (mvS (w.heap.size+1 + 1) 128) (mvS (w.heap.size+1 + 1) 128) (mvS (w.heap.size+1 + 1) 129) (mvS (w.heap.size+1 + 1) 130) (mvS (w.heap.size+1 + 1) 131) (mvS (w.heap.size+1 + 1) 132)
    rw[y47] at h
    exact h
   ·exact HB1.out.trans ⟨HTo2.same.1,HTo2.same.2.1,HTo2.same.2.2,by rw[HTo2.size];exact Nat.le_refl _,fun k hk=>HTo2.block k (by omega)⟩
end Go.Proofs.YtaimofjekgnieaaGreatDoor
namespace Go.Proofs.YtaimofjekgnieaaGreatDoor
open Go.RowKit
attribute [local go_sem] q00
attribute [local go_sem ↓] Go.wp_at_zero Go.wp_at_succ
def BadR (d:FD) (m b:Nat):Prop:=¬(InR ((d.nd m).r b) d.vn/\¬q78 d m b ((d.nd m).r b))
def qm9 (u:UD) (f m j:Nat) (y:FT):Prop:=(∃ x,x<m/\zj3 u f x y)\/(y=⟨6,f,m⟩/\qc8 ((u.fn f).nd m).k/\∃ b,b<j/\BadR (u.fn f) m b)
theorem zp5 (u:UD) (f:Nat) (y:FT):¬qm9 u f 0 0 y:=by
 rintro (⟨x,h,_⟩|⟨_,_,b,h,_⟩)<;>omega
theorem z71 {u:UD} {f m j:Nat} (hd:qc8 ((u.fn f).nd m).k) (hb:BadR (u.fn f) m j) (y:FT):qm9 u f m (j+1) y↔qm9 u f m j y\/y=⟨6,f,m⟩:=by
 constructor
 ·rintro (h|⟨h,_⟩)
  ·exact .inl (.inl h)
  ·exact .inr h
 ·rintro ((h|⟨h1,h2,b,h3,h4⟩)|h)
  ·exact .inl h
  ·exact .inr ⟨h1,h2,b,by omega,h4⟩
  ·exact .inr ⟨h,hd,j,by omega,hb⟩
theorem y56 {u:UD} {f m j:Nat} (hb:¬BadR (u.fn f) m j) (y:FT):qm9 u f m (j+1) y↔qm9 u f m j y:=by
 constructor
 ·rintro (h|⟨h1,h2,b,h3,h4⟩)
  ·exact .inl h
  ·by_cases e:b=j
   ·subst e;exact absurd h4 hb
   ·exact .inr ⟨h1,h2,b,by omega,h4⟩
 ·rintro (h|⟨h1,h2,b,h3,h4⟩)
  ·exact .inl h
  ·exact .inr ⟨h1,h2,b,by omega,h4⟩
theorem z73 {u:UD} {f m:Nat} (y:FT):zj3 u f m y↔(y=⟨6,f,m⟩/\qc8 ((u.fn f).nd m).k/\∃ b,b<((u.fn f).nd m).rn/\BadR (u.fn f) m b):=by
 constructor
 ·rintro ⟨h1,h2,h3,h4,b,h5,h6⟩
  exact ⟨FT.ext h1 h2 h3,h4,b,h5,h6⟩
 ·rintro ⟨rfl,h4,b,h5,h6⟩
  exact ⟨rfl,rfl,rfl,h4,b,h5,h6⟩
theorem zp6 {u:UD} {f m:Nat} (y:FT):qm9 u f m ((u.fn f).nd m).rn y↔qm9 u f (m+1) 0 y:=by
 constructor
 ·rintro (⟨x,h,h'⟩|h)
  ·exact .inl ⟨x,by omega,h'⟩
  ·exact .inl ⟨m,by omega,(z73 y).2 h⟩
 ·rintro (⟨x,h,h'⟩|⟨_,_,b,h,_⟩)
  ·by_cases e:x=m
   ·subst e;exact .inr ((z73 y).1 h')
   ·exact .inl ⟨x,by omega,h'⟩
  ·omega
theorem zg3 {u:UD} {f m:Nat} (hd:¬qc8 ((u.fn f).nd m).k) (y:FT):qm9 u f m 0 y↔qm9 u f (m+1) 0 y:=by
 constructor
 ·rintro (⟨x,h,h'⟩|⟨_,_,b,h,_⟩)
  ·exact .inl ⟨x,by omega,h'⟩
  ·omega
 ·rintro (⟨x,h,h'⟩|⟨_,_,b,h,_⟩)
  ·by_cases e:x=m
   ·subst e;exact absurd h'.2.2.2.1 hd
   ·exact .inl ⟨x,by omega,h'⟩
  ·omega
theorem zx1 {u:UD} {f n:Nat} (y:FT):qm9 u f n 0 y↔∃ x,x<n/\zj3 u f x y:=by
 constructor
 ·rintro (h|⟨_,_,b,h,_⟩)
  ·exact h
  ·omega
 ·exact .inl
noncomputable def dcK (k:Int):Bool:=dB (qc8 k)
theorem yp0 (k:Int):setB 4484 k=dcK k:=by
 have h:=qc2 4484 (by decide) (fun k=>k==2 || k==7 || k==8 || k==12) (by decide) (fun k h=>by simp at h;omega) k
 rw[h]
 unfold dcK
 by_cases c:qc8 k
 ·rw[q32 c]
  unfold qc8 at c
  simp
  omega
 ·rw[q19 c]
  unfold qc8 at c
  simp
  omega
theorem SS.far {C:CX} {st:List Int} {ins:Nat} {x:FT} {a:Option Addr} {cap:Nat} {w:World} (h:SS C st ins x a cap w) {B:Nat} (h0:C.w0.heap.size<=B) (h1:B≠C.S) (h2:B≠C.T) (h3:bkOf a≠some B) (o:Nat) (v:Value):SS C st ins x a cap (w.setCell ⟨B,o,none⟩ v):=by
 have hk:∀ k,k≠B->(w.setCell ⟨B,o,none⟩ v).heap[k]?=w.heap[k]?:=fun k hk=>Below.heap_setCell w ⟨B,o,none⟩ v k hk
 exact ⟨h.box.block (by simp) (hk _ (Ne.symm h1)),World.rowIs.of_block h.tm (hk _ (Ne.symm h2)),qh8 h.sk (fun k e=>hk k (fun c=>h3 (c ▸ e))),h.rg,h.sT,h.sa,h.ta,h.nS,h.nT,frS h.b h0 _⟩
theorem Mv.new {S T:Nat} {a a':Option Addr} {w w':World} (h:Mv S T a w a' w') {B:Nat} (hB:w.heap.size<=B) (o:Nat) (v:Value):Mv S T a w a' (w'.setCell ⟨B,o,none⟩ v):=
 ⟨⟨h.kp.os,h.kp.tape,h.kp.output,by have:=h.kp.size;simpa using this,fun k hk h1 h2 h3=>(Below.heap_setCell w' ⟨B,o,none⟩ v k (by show k≠B;omega)).trans (h.kp.block k hk h1 h2 h3)⟩,h.nw⟩
theorem SS.c6 {C:CX} {st:List Int} {ins:Nat} {x:FT} {a:Option Addr} {cap:Nat} {w:World} (h:SS C st ins x a cap w):w.cell? ⟨C.S,6,none⟩=some (.slice C.fa.va C.d.vn C.fa.vc):=h.box.1.cell 6 rfl
theorem SS.c4 {C:CX} {st:List Int} {ins:Nat} {x:FT} {a:Option Addr} {cap:Nat} {w:World} (h:SS C st ins x a cap w):w.cell? ⟨C.S,4,none⟩=some (.int .i64 C.d.params):=h.box.1.cell 4 rfl
structure DT (C:CX) (st:List Int) (ins:Nat) (D m j:Nat) (x:FT) (a:Option Addr) (cap:Nat) (w:World):Prop where
 ss:SS C st ins x a cap w
 row:SeenRow w D C.d m j
 far:D≠C.S/\D≠C.T/\bkOf a≠some D
 ge:C.w0.heap.size<=D
 lt:D<w.heap.size
theorem DT.alloc {C:CX} {st:List Int} {ins:Nat} {D m j:Nat} {x:FT} {a:Option Addr} {cap:Nat} {w:World} (h:DT C st ins D m j x a cap w) (o:Obj):DT C st ins D m j x a cap (w.alloc o):=⟨h.ss.alloc o,h.row.below (q01 _ _),h.far,h.ge,by have:=h.lt;simp;omega⟩
theorem DT.note {C:CX} {st:List Int} {ins:Nat} {D m j:Nat} {x:FT} {a:Option Addr} {cap:Nat} {w:World} (h:DT C st ins D m j x a cap w) {x':FT} {w':World} (hn:qj5 C st ins x' a cap w w'):DT C st ins D m j x' a cap w':=
 ⟨hn.1,World.rowIs.of_block h.row (hn.2.kp.block D h.lt h.far.1 h.far.2.1 h.far.2.2),h.far,h.ge,Nat.lt_of_lt_of_le h.lt hn.2.kp.size⟩
theorem DT.same {C:CX} {st:List Int} {ins:Nat} {D m j m' j':Nat} {x:FT} {a:Option Addr} {cap:Nat} {w:World} (h:DT C st ins D m j x a cap w) (e:∀ v:Nat,q78 C.d m j v↔q78 C.d m' j' v):DT C st ins D m' j' x a cap w:=⟨h.ss,h.row.congr e,h.far,h.ge,h.lt⟩
theorem DT.set {C:CX} {st:List Int} {ins:Nat} {D m j:Nat} {x:FT} {a:Option Addr} {cap:Nat} {w:World} (h:DT C st ins D m j x a cap w) {y:Nat} (hy:(C.d.nd m).r j=y):DT C st ins D m (j+1) x a cap (w.setCell ⟨D,y,none⟩ (.bool true)):=⟨h.ss.far h.ge h.far.1 h.far.2.1 h.far.2.2 _ _,h.row.set hy,h.far,h.ge,by have:=h.lt;simpa using this⟩
theorem DT.skip {C:CX} {st:List Int} {ins:Nat} {D m j:Nat} {x:FT} {a:Option Addr} {cap:Nat} {w:World} (h:DT C st ins D m j x a cap w) (e:∀ v:Nat,v<C.d.vn->(C.d.nd m).r j=v->q78 C.d m j v):DT C st ins D m (j+1) x a cap w:=⟨h.ss,World.rowIs.congr h.row fun i hi=>by
 have h1:q78 C.d m (j+1) i↔q78 C.d m j i:=by
  rw[seenV_succ]
  exact ⟨fun h=>h.elim id (e i hi),.inl⟩
 by_cases c:q78 C.d m j i
 ·rw[q32 c,q32 (h1.2 c)]
 ·rw[q19 c,q19 (fun c'=>c (h1.1 c'))],h.far,h.ge,h.lt⟩
theorem qg7 (C:CX) (hC:C.ok) (hvn:C.d.vn<=200) (hpp:0<=C.d.params/\C.d.params<=C.d.vn) (st:List Int) (ins:Nat) (x:FT) (a:Option Addr) (cap:Nat) (P:FT->Prop) (w:World) (hS:SS C st ins x a cap w) (hL:Least P x) :
  Calls Tryz.prog 135 #[.pointer (some ⟨C.S,0,none⟩)] w fun e w'=>e=.returned (.tuple #[])/\VPost C st ins (fun y=>P y\/∃ z,z<C.d.nn/\zj3 C.u C.f z y) a w w':=by
 have HS:Hid (SS C st ins x a cap w):=hS
 have HL:Hid (Least P x):=hL
 have HC:Hid C.ok:=hC
 have hnn:=hC.nn
 obtain ⟨p,hp⟩:∃ p:Nat,C.d.params=p:=⟨C.d.params.toNat,by omega⟩
 have hpn:p<=C.d.vn:=by omega
 have HPp:Hid (C.d.params=p):=hp
 have c6:=hS.c6
 have c4:=hS.c4
 have c8:=hS.c8
 have hlt:=hS.lt
 rw[hp] at c4
 obtain ⟨o1,o2,o3⟩:=hS.other (Nat.le_refl w.heap.size)
 have HO:Hid (w.heap.size≠C.S/\w.heap.size≠C.T/\bkOf a≠some w.heap.size):=⟨o1,o2,o3⟩
 have hge:C.w0.heap.size<=w.heap.size:=hS.b.size
 clear hS hL hC hp hpp o1 o2 o3
 have hmk:=fun v=>run_make_row' (P:=Tryz.prog) 212 4 (.bool false) 1 Tryz.underlying212 zl8 rfl .i64 .i64 C.d.vn (by omega) (by omega) v
 go_enter Tryz.func135,Tryz.ntmps135
 go_wp2_with fail
 clear hmk
 obtain ⟨w1,hw1⟩:∃ w1,w1=w.alloc (.cells (madeCells #[.bool false] C.d.vn) 4):=⟨_,rfl⟩
 have HS1:Hid (SS C st ins x a cap w1):=by show SS _ _ _ _ _ _ _;rw[hw1];exact HS.out.alloc _
 have HM1:Hid (Mv C.S C.T a w a w1):=by show Mv _ _ _ _ _ _;rw[hw1];exact (Mv.refl _ _ _ _).alloc _
 have HR1:Hid (w1.rowIs w.heap.size 4 C.d.vn (fun i=>.bool (decide (i<0)))):=by
  show World.rowIs _ _ _ _ _
  rw[hw1]
  exact qo6 w (.bool false) 4 rfl
 rw[<-hw1]
 clear hw1 c6 c4 c8 hlt
 go_loopw [20] (fun i wr=>∃ (k:Nat),k<=p/\i=.int .i64 k/\Hid (SS C st ins x a cap wr)/\Hid (wr.rowIs w.heap.size 4 C.d.vn (fun i=>.bool (decide (i<k))))/\Hid (Mv C.S C.T a w a wr)) (fun i _=>p-(intOf i).toNat)
 case atStart=>exact ⟨0,Nat.zero_le _,rfl,HS1,HR1,HM1⟩
 case round=>
  clear HS1 HR1 HM1
  obtain ⟨k,hk,rfl,HSk,HRk,HMk⟩:=hrel
  by_cases hkp:k<p
  ·have r0:=World.rowIs.cell HRk.out (i:=k) (by omega)
   have rz:=World.rowIs.frozen HRk.out
   have HR2:Hid ((wr.setCell ⟨w.heap.size,k,none⟩ (.bool true)).rowIs w.heap.size 4 C.d.vn (fun i=>.bool (decide (i<k+1)))):=(World.rowIs.set HRk.out k _).congr fun i _=>by
    by_cases e:i=k
    ·subst e
     rw[if_pos rfl,decide_eq_true (by omega)]
    ·rw[if_neg e]
     by_cases c:i<k
     ·rw[decide_eq_true c,decide_eq_true (by omega)]
     ·rw[decide_eq_false c,decide_eq_false (by omega)]
   have HS2:Hid (SS C st ins x a cap (wr.setCell ⟨w.heap.size,k,none⟩ (.bool true))):=HSk.out.far hge HO.out.1 HO.out.2.1 HO.out.2.2 _ _
   have HM2:Hid (Mv C.S C.T a w a (wr.setCell ⟨w.heap.size,k,none⟩ (.bool true))):=HMk.out.new (Nat.le_refl _) _ _
   go_wp2_with fail
   go_roundw
   case rel=>exact ⟨k+1,by omega,by go_num,HS2,HR2,HM2⟩
   case measure=>simp[intOf];omega
  ·obtain rfl:k=p:=by omega
   have HD1:Hid (DT C st ins w.heap.size 0 0 x a cap wr):=⟨HSk.out,World.rowIs.congr HRk.out fun i _=>by
    have h:=zo4 HPp.out i
    by_cases c:i<k
    ·rw[decide_eq_true c,q32 (h.1 c)]
    ·rw[decide_eq_false c,q19 (fun h'=>c (h.2 h'))],HO.out,hge,World.rowIs.lt HRk.out⟩
   have c8:=HSk.out.c8
   clear HSk HRk
   have HMw:=HMk
   go_wp2_with fail
   clear c8 HMk
   go_loopw [33] (fun i wr=>∃ (m:Nat) (x':FT),m<=C.d.nn/\i=.int .i64 m/\Hid (DT C st ins w.heap.size m 0 x' a cap wr)/\Hid (Least (fun y=>P y\/qm9 C.u C.f m 0 y) x')/\Hid (Mv C.S C.T a w a wr)) (fun i _=>C.d.nn-(intOf i).toNat)
   case atStart=>exact ⟨0,x,Nat.zero_le _,rfl,HD1,HL.out.congr fun y=>⟨.inl,fun h=>h.resolve_right (zp5 _ _ _)⟩,HMw⟩
   case round=>
    clear HD1 HMw
    obtain ⟨m,x',hm,rfl,HD,HLm,HM⟩:=hrel
    by_cases hmn:m<C.d.nn
    ·obtain ⟨b,off,e0,_,hb,d0,d1,d2,d3,d4,d5,d6,d7⟩:=cells8 ((HD.out.ss.fns HC.out).2 C.f HC.out.f).2.2.1 hmn
     rw[show C.fas C.f=C.fa from rfl] at e0
     rw[e0]
     have hset:setB 4484 ((C.u.fn C.f).nd m).k=dcK ((C.u.fn C.f).nd m).k:=yp0 _
     have hrn:=HC.out.rn hmn
     obtain ⟨b2,o2,e2⟩:∃ b2 o2,0<(C.d.nd m).rn->(C.fa.nas m).ra=some ⟨b2,o2,none⟩:=by
      by_cases c:0<(C.d.nd m).rn
      ·obtain ⟨b2,o2,e2,_⟩:=(((HD.out.ss.fns HC.out).2 C.f HC.out.f).2.2.2 m hmn).1 c
       exact ⟨b2,o2,fun _=>e2⟩
      ·exact ⟨0,0,fun h=>absurd h c⟩
     have HE2:Hid (0<(C.d.nd m).rn->(C.fa.nas m).ra=some ⟨b2,o2,none⟩):=e2
     have HD2:Hid (DT C st ins w.heap.size m 0 x' a cap (wr.alloc (.cells (q24 ((C.u.fn C.f).nd m) ((C.fas C.f).nas m)) 51))):=HD.out.alloc _
     have HM2:Hid (Mv C.S C.T a w a (wr.alloc (.cells (q24 ((C.u.fn C.f).nd m) ((C.fas C.f).nas m)) 51))):=HM.out.alloc _
     clear e2
     rename World=>wa
     by_cases hdk:qc8 ((C.u.fn C.f).nd m).k
     ·rw[show dcK ((C.u.fn C.f).nd m).k=true from q32 hdk] at hset
      have HDK:Hid (qc8 ((C.u.fn C.f).nd m).k):=hdk
      clear hdk e0
      go_wp2_with (go_at_call 118;refine (q70 4484 (by decide) _ _).mono ?_;rw[hset];rintro e w2 ⟨rfl,rfl⟩)
      clear d0 d1 d2 d3 d4 d5 d6 d7 hset HD HM
      go_loopw [45] (fun i wr=>∃ (j:Nat) (x'':FT),j<=(C.d.nd m).rn/\i=.int .i64 j/\Hid (DT C st ins w.heap.size m j x'' a cap wr)/\Hid (Least (fun y=>P y\/qm9 C.u C.f m j y) x'')/\Hid (Mv C.S C.T a w a wr)) (fun i _=>(C.d.nd m).rn-(intOf i).toNat)
      case atStart=>exact ⟨0,x',Nat.zero_le _,rfl,HD2,HLm,HM2⟩
      case round=>
       clear HD2 HM2 HLm
       obtain ⟨j,x'',hj,rfl,HDj,HLj,HMj⟩:=hrel
       by_cases hjn:j<(C.d.nd m).rn
       ·obtain ⟨b3,o3,e3,_,hb3,g0⟩:=cells1 (((HDj.out.ss.fns HC.out).2 C.f HC.out.f).2.2.2 m hmn).1 hjn
        rw[e3]
        have HR:Hid (((C.u.fn C.f).nd m).r j=(C.d.nd m).r j):=rfl
        clear e3
        by_cases hin:InR ((C.d.nd m).r j) C.d.vn
        ·have hw:wiB ((C.d.nd m).r j) (C.d.vn:Int)=true:=by unfold wiB;have:=hin.1;have:=hin.2;simp;omega
         obtain ⟨y,hy⟩:∃ y:Nat,(C.d.nd m).r j=y:=⟨((C.d.nd m).r j).toNat,by have:=hin.1;omega⟩
         have hyn:y<C.d.vn:=by have:=hin.2;omega
         have HY:Hid ((C.d.nd m).r j=(y:Int)):=hy
         have HI:Hid (InR ((C.d.nd m).r j) C.d.vn):=hin
         rw[show ((C.u.fn C.f).nd m).r j=(y:Int) from hy] at g0
         rw[hy] at hw
         clear hy hin
         have r0:=World.rowIs.cell HDj.out.row (i:=y) hyn
         have rz:=World.rowIs.frozen HDj.out.row
         by_cases hsn:q78 C.d m j y
         ·rw[q32 hsn] at r0
          have HB:Hid (BadR (C.u.fn C.f) m j):=fun h=>h.2 (by rw[show ((C.u.fn C.f).nd m).r j=(y:Int) from HY.out];exact hsn)
          have HV:Hid (∀ v:Nat,v<C.d.vn->(C.d.nd m).r j=v->q78 C.d m j v):=fun v _ hv=>by rw[<-hv,HY.out];exact hsn
          clear hsn
          go_wp2_with (first|(go_at_call 136;refine (q13 _ _ _).mono ?_;rw[hw];rintro e w2 ⟨rfl,rfl⟩)|(go_at_call 159;refine (q63 C st ins x'' a cap 6 m _ HDj.out.ss).mono ?_;rintro e w3 ⟨rfl,hn3⟩;have HN3:Hid (qj5 C st ins (qe0 x'' ⟨6,C.f,m⟩) a cap _ w3):=hn3;clear hn3))
          go_roundw
          case rel=>exact ⟨j+1,_,by omega,by go_num,(HDj.out.note HN3.out).skip HV.out,(HLj.out.note (b:=⟨6,C.f,m⟩) (by show (0:Nat)<6;omega)).congr fun y=>by rw[z71 HDK.out HB.out,or_assoc],HMj.out.trans HN3.out.2⟩
          case measure=>simp[intOf];omega
         ·rw[q19 hsn] at r0
          have HB:Hid (¬BadR (C.u.fn C.f) m j):=fun h=>h ⟨HI.out,by rw[show ((C.u.fn C.f).nd m).r j=(y:Int) from HY.out];exact hsn⟩
          clear hsn
          go_wp2_with (go_at_call 136;refine (q13 _ _ _).mono ?_;rw[hw];rintro e w2 ⟨rfl,rfl⟩)
          go_roundw
          case rel=>exact ⟨j+1,x'',by omega,by go_num,HDj.out.set HY.out,HLj.out.congr fun y=>by rw[y56 HB.out],HMj.out.new (Nat.le_refl _) _ _⟩
          case measure=>simp[intOf];omega
        ·have hw:wiB (((C.u.fn C.f).nd m).r j) (C.d.vn:Int)=false:=by
          have h:¬InR (((C.u.fn C.f).nd m).r j) C.d.vn:=hin
          unfold wiB InR at *
          simp
          omega
         have HB:Hid (BadR (C.u.fn C.f) m j):=fun h=>hin h.1
         have HV:Hid (∀ v:Nat,v<C.d.vn->(C.d.nd m).r j=v->q78 C.d m j v):=fun v hv he=>absurd (⟨by omega,by omega⟩:InR ((C.d.nd m).r j) C.d.vn) hin
         clear hin
         go_wp2_with (first|(go_at_call 136;refine (q13 _ _ _).mono ?_;rw[hw];rintro e w2 ⟨rfl,rfl⟩)|(go_at_call 159;refine (q63 C st ins x'' a cap 6 m _ HDj.out.ss).mono ?_;rintro e w3 ⟨rfl,hn3⟩;have HN3:Hid (qj5 C st ins (qe0 x'' ⟨6,C.f,m⟩) a cap _ w3):=hn3;clear hn3))
         go_roundw
         case rel=>exact ⟨j+1,_,by omega,by go_num,(HDj.out.note HN3.out).skip HV.out,(HLj.out.note (b:=⟨6,C.f,m⟩) (by show (0:Nat)<6;omega)).congr fun y=>by rw[z71 HDK.out HB.out,or_assoc],HMj.out.trans HN3.out.2⟩
         case measure=>simp[intOf];omega
       ·obtain rfl:j=(C.d.nd m).rn:=by omega
        go_wp2_with fail
        go_roundw
        case rel=>exact ⟨m+1,x'',by omega,by go_num,HDj.out.same (fun v=>by rw[qv7,zu4];exact ⟨fun h=>h.elim .inl fun h=>.inr ⟨HDK.out,h⟩,fun h=>h.elim .inl fun h=>.inr h.2⟩),HLj.out.congr fun y=>or_congr Iff.rfl (zp6 y),HMj⟩
        case measure=>simp[intOf];omega
     ·rw[show dcK ((C.u.fn C.f).nd m).k=false from q19 hdk] at hset
      have HDK:Hid (¬qc8 ((C.u.fn C.f).nd m).k):=hdk
      clear hdk e0
      go_wp2_with (go_at_call 118;refine (q70 4484 (by decide) _ _).mono ?_;rw[hset];rintro e w2 ⟨rfl,rfl⟩)
      go_roundw
      case rel=>exact ⟨m+1,x',by omega,by go_num,HD2.out.same (fun v=>by rw[qv7];exact ⟨.inl,fun h=>h.resolve_right fun h=>HDK.out h.1⟩),HLm.out.congr fun y=>or_congr Iff.rfl (zg3 HDK.out y),HM2⟩
      case measure=>simp[intOf];omega
    ·obtain rfl:m=C.d.nn:=by omega
     go_wp2_with fail
     go_end0
     exact ⟨rfl,x',a,cap,HD.out.ss,HLm.out.congr fun y=>by rw[zx1],HM.out⟩
theorem zh9 (k:Nat):qa6 (k+1)=qa6 k++[(k:Int)]:=by unfold qa6;rw[List.range_succ,List.map_append];rfl
theorem qy0 (k:Nat):(qa6 k).length=k:=by simp[qa6]
theorem yb6 {k vn:Nat} (h:k<vn):vrN (fun _=>(k:Int)) vn 1=[(k:Int)]:=by
 rw[zs2 (j:=0) ⟨by omega,by omega⟩,qy7]
 rfl
theorem FarI.one {C:CX} {st:List Int} {ins:Nat} {x:FT} {a:Option Addr} {cap:Nat} {w:World} (h:SS C st ins x a cap w) (k:Nat):FarI C a (w.alloc (.cells #[.int .i64 (k:Int)] 3)) (some ⟨w.heap.size,0,none⟩) 1 (fun _=>(k:Int)):=by
 refine ⟨fun _=>⟨w.heap.size,0,rfl,Nat.zero_le _,by simp,fun i hi j hj=>?_⟩,fun _ b off e=>?_⟩
 ·obtain rfl:i=0:=by omega
  obtain rfl:j=0:=by omega
  simp
 ·cases e
  exact h.other (Nat.le_refl _)
def qy5 (C:CX) (e:Ending) (w':World):Prop:=∃ x,e=.returned (ftV x)/\Least (qv2 C.u C.f) x/\Below C.w0.heap.size C.w0 w'
theorem za4 (C:CX) (hC:C.ok) (hvn:C.d.vn<=200) (hpp:0<=C.d.params/\C.d.params<=C.d.vn) (w:World) (hS:SS C [] 0 ft0 none 0 w) :
  Calls Tryz.prog 77 #[.pointer (some ⟨C.S,0,none⟩)] w fun e w'=>qy5 C e w':=by
 have HS:Hid (SS C [] 0 ft0 none 0 w):=hS
 have HC:Hid C.ok:=hC
 have hnn:=hC.nn
 obtain ⟨p,hp⟩:∃ p:Nat,C.d.params=p:=⟨C.d.params.toNat,by omega⟩
 have hpn:p<=C.d.vn:=by omega
 have HPp:Hid (C.d.params=p):=hp
 have HPQ:Hid (0<=C.d.params/\C.d.params<=C.d.vn):=hpp
 have c4:=hS.c4
 have hlt:=hS.lt
 rw[hp] at c4
 have HO:Hid (w.heap.size≠C.S/\w.heap.size≠C.T/\bkOf none≠some w.heap.size):=hS.other (Nat.le_refl w.heap.size)
 have HGE:Hid (C.w0.heap.size<=w.heap.size):=hS.b.size
 clear hS hC hp hpp
 go_enter Tryz.func77,Tryz.ntmps77
 go_wp2_with fail
 obtain ⟨w1,hw1⟩:∃ w1,w1=w.alloc (.cells #[.int .i64 0,.int .i64 0,.int .i64 0] 60):=⟨_,rfl⟩
 have HS1:Hid (SS C [] 0 ft0 none 0 w1):=by show SS _ _ _ _ _ _ _;rw[hw1];exact HS.out.alloc _
 have HR1:Hid (w1.rowIs w.heap.size 60 3 (fun _=>.int .i64 0)):=by
  show World.rowIs _ _ _ _ _
  rw[hw1]
  exact World.rowIs_alloc w #[.int .i64 0,.int .i64 0,.int .i64 0] 60 (fun _=>.int .i64 0) (fun i hi=>by
   have:i=0\/i=1\/i=2:=by simp at hi;omega
   rcases this with rfl|rfl|rfl<;>rfl)
 have hl1:w.heap.size<w1.heap.size:=World.rowIs.lt HR1.out
 rw[<-hw1]
 clear hw1 c4 hlt
 go_loopw [9] (fun i wr=>∃ (k:Nat) (a':Option Addr) (cap':Nat),k<=p/\i=.int .i64 k/\Hid (SS C (qa6 k) 0 ft0 a' cap' wr)/\Hid (Mv C.S C.T none w1 a' wr)) (fun i _=>p-(intOf i).toNat)
 case atStart=>exact ⟨0,none,0,Nat.zero_le _,rfl,HS1,Mv.refl _ _ _ _⟩
 case round=>
  obtain ⟨k,a',cap',hk,rfl,HSk,HMk⟩:=hrel
  by_cases hkp:k<p
  ·have HV:Hid (vrN (fun _=>(k:Int)) C.d.vn 1=[(k:Int)]):=yb6 (by omega)
   go_wp2_with (go_at_call 133;refine (qa9 C (qa6 k) 0 ft0 a' cap' _ 1 1 (fun _=>(k:Int)) _ (by omega) (by rw[qy0];omega) (HSk.out.alloc _) (FarI.one HSk.out k)).mono ?_;rintro e w9 ⟨rfl,⟨a9,cap9,hs9,hm9⟩⟩;rw[HV.out,<-zh9] at hs9;have HS9:Hid (SS C (qa6 (k+1)) 0 ft0 a9 cap9 w9):=hs9;have HM9:Hid (Mv C.S C.T a' _ a9 w9):=hm9;clear hs9 hm9)
   go_roundw
   case rel=>exact ⟨k+1,a9,cap9,by omega,by go_num,HS9,HMk.out.trans HM9.out.first⟩
   case measure=>simp[intOf];omega
  ·obtain rfl:k=p:=by omega
   have c8:=HSk.out.c8
   obtain ⟨q,hq⟩:∃ q:Nat,C.d.nn=q+1:=⟨C.d.nn-1,by omega⟩
   have hroot:C.d.nn-1=q:=by omega
   have HVP:Hid (VPre C q (qa6 k) 0 ft0 a' cap' (fun _=>False) wr):=⟨HSk.out,by omega,by rw[<-hroot];exact StackOk.root HC.out.tree HPp.out,⟨fun h=>absurd h (by omega),fun h=>absurd (by rw[hroot];exact h) (InL.root HC.out.tree)⟩,by rw[qy0];omega,by omega,Least.zero (fun _ h=>h)⟩
   have HLV:Hid (leaves C q=[]):=by
    show leaves C q=[]
    have h:=HC.out.tree.last
    unfold leaves
    rw[<-hroot,if_neg (by omega)]
   have HNT:Hid (∀ y,((False\/q60 C.u C.f q y)\/∃ z,z<C.d.nn/\zj3 C.u C.f z y)↔qv2 C.u C.f y):=fun y=>by
    rw[<-hroot,show C.d.nn=(C.u.fn C.f).nn from rfl,zp3 C.u C.f HC.out.tree]
    unfold qv2
    constructor
    ·rintro ((h|⟨z,h1,h2⟩)|⟨z,h1,h2⟩)
     ·exact h.elim
     ·exact ⟨z,h1,.inl h2⟩
     ·exact ⟨z,h1,.inr h2⟩
    ·rintro ⟨z,h1,h2|h2⟩
     ·exact .inl (.inr ⟨z,h1,h2⟩)
     ·exact .inr ⟨z,h1,h2⟩
   rw[hq] at c8
   have HVA:Hid (q59 C q):=zs5 C HC.out q (by omega)
   have hq3:q<3000:=by omega
   clear hq hroot
   go_wp2_with (first|(go_at_call 134;refine (HVA.out _ _ _ _ _ _ _ HVP.out).mono ?_;rintro e w7 ⟨rfl,⟨x7,a7,cap7,hs7,hl7,hm7⟩⟩;rw[HLV.out,List.append_nil] at hs7;have HS7:Hid (SS C (qa6 k) 0 x7 a7 cap7 w7):=hs7;have HL7:Hid (Least (fun y=>False\/q60 C.u C.f q y) x7):=hl7;have HM7:Hid (Mv C.S C.T a' wr a7 w7):=hm7;clear hs7 hl7 hm7)|(go_at_call 135;refine (qg7 C HC.out hvn HPQ.out (qa6 k) 0 x7 a7 cap7 _ _ HS7.out HL7.out).mono ?_;rintro e w8 ⟨rfl,⟨x8,a8,cap8,hs8,hl8,hm8⟩⟩;have HS8:Hid (SS C (qa6 k) 0 x8 a8 cap8 w8):=hs8;have HL8:Hid (Least (qv2 C.u C.f) x8):=Least.congr hl8 HNT.out;have HM8:Hid (Mv C.S C.T none w1 a8 w8):=(HMk.out.trans HM7.out).trans hm8;clear hs8 hl8 hm8;have c51:=HS8.out.c51;have c52:=HS8.out.c52;have c53:=HS8.out.c53;have HR8:Hid (w8.rowIs w.heap.size 60 3 (fun _=>.int .i64 0)):=World.rowIs.of_block HR1.out (HM8.out.kp.block w.heap.size hl1 HO.out.1 HO.out.2.1 HO.out.2.2);have s0:=World.rowIs.cell HR8.out (i:=0) (by omega);have s1:=World.rowIs.cell HR8.out (i:=1) (by omega);have s2:=World.rowIs.cell HR8.out (i:=2) (by omega);have sz:=World.rowIs.frozen HR8.out))
   refine bodyPost_ret (v:=ftV x8) (by simp[results,Tryz.results77,go_sem,s0,s1,s2]) rfl ?_
   exact ⟨x8,rfl,HL8.out,frS (frS (frS HS8.out.b HGE.out _) HGE.out _) HGE.out _⟩
abbrev sfW (w:World) (u:UD) (a:Option Addr) (cap:Nat):World:=((w.alloc (.cells #[.slice a u.n cap] 31)).alloc (.cells #[.int .i64 0,.int .i64 0,.int .i64 0] 60)).alloc (.cells #[.int .i64 0,.int .i64 0,.int .i64 0] 60)
abbrev ftC (x:FT):Array Value:=#[.int .i64 (x.c:Int),.int .i64 (x.f:Int),.int .i64 (x.n:Int)]
theorem zk1 {w wr:World} {u:UD} {a:Option Addr} {cap:Nat} (h:Below (w.heap.size+1 + 1) (sfW w u a cap) wr):Below w.heap.size w wr:=(q39 w _ _ _).trans (h.mono (by omega))
theorem sf_u {w wr:World} {u:UD} {a:Option Addr} {cap:Nat} (h:Below (w.heap.size+1 + 1) (sfW w u a cap) wr):wr.cell? ⟨w.heap.size,0,none⟩=some (.slice a u.n cap):=(h.cell (p:=⟨w.heap.size,0,none⟩) (by show w.heap.size < _;omega)).trans (((Has.new w #[.slice a u.n cap] 31).alloc _).alloc _ |>.cell 0 rfl)
theorem zk0 {w wr:World} {u:UD} {a:Option Addr} {cap:Nat} (h:Below (w.heap.size+1 + 1) (sfW w u a cap) wr):wr.rowIs (w.heap.size+1) 60 3 (fun _=>.int .i64 0):=by
 have h1:=(World.rowIs_alloc (w.alloc (.cells #[.slice a u.n cap] 31)) #[.int .i64 0,.int .i64 0,.int .i64 0] 60 (fun _=>.int .i64 0) (fun i hi=>by
  have:i=0\/i=1\/i=2:=by simp at hi;omega
  rcases this with rfl|rfl|rfl<;>rfl)).alloc (.cells #[.int .i64 0,.int .i64 0,.int .i64 0] 60)
 rw[show (w.alloc (.cells #[.slice a u.n cap] 31)).heap.size=w.heap.size+1 by simp] at h1
 exact h1.of_block (h.block _ (by omega))
theorem z62 {w wr:World} {u:UD} {a:Option Addr} {cap:Nat} (h:Below (w.heap.size+1 + 1) (sfW w u a cap) wr) (v0 v1 v2:Value):Below w.heap.size w (((wr.setCell ⟨w.heap.size+1,0,none⟩ v0).setCell ⟨w.heap.size+1,1,none⟩ v1).setCell ⟨w.heap.size+1,2,none⟩ v2):=frS (frS (frS (zk1 h) (Nat.le_add_right _ _) _) (Nat.le_add_right _ _) _) (Nat.le_add_right _ _) _
theorem OwnB.callS {w w':World} {B:Nat} {A:Array Value} (h:OwnB w B A) (hb:Below w.heap.size w w'):OwnB w' B A:=h.block hb.size (hb.block _ h.1.1)
theorem OwnB.ft {w:World} {B:Nat} {x:FT} (h:OwnB w B (ftC x)) (y:FT):OwnB (((w.setCell ⟨B,0,none⟩ (.int .i64 (y.c:Int))).setCell ⟨B,1,none⟩ (.int .i64 (y.f:Int))).setCell ⟨B,2,none⟩ (.int .i64 (y.n:Int))) B (ftC y):=
 ((h.set (o:=0) (by show 0<3;omega) _).set (o:=1) (by show 1<3;omega) _).set (o:=2) (by show 2<3;omega) _
theorem zw9 (u:UD) (k:Nat) (y:FT):((∃ g,g<k/\qv2 u g y)\/qv2 u k y)↔∃ g,g<k+1/\qv2 u g y:=by
 constructor
 ·rintro (⟨g,h1,h2⟩|h)
  ·exact ⟨g,by omega,h2⟩
  ·exact ⟨k,by omega,h⟩
 ·rintro ⟨g,h1,h2⟩
  by_cases e:g=k
  ·subst e;exact .inr h2
  ·exact .inl ⟨g,by omega,h2⟩
def zr9:Prop:=∀ (L:Nat) (u:UD) (a:Option Addr) (cap:Nat) (fas:Nat->FA) (w:World),u.sm->U5 u->(∀ i,i<u.n->CapF (u.fn i) (fas i))->FnsAt L w u.n u.fn a fas->
 Calls Tryz.prog 42 #[unV u a cap] w fun e w'=>FtPost (BadS u) w e w'
theorem ql9:zr9:=by
 intro L u a cap fas w hs h5 hcf hT
 have HT:Hid (FnsAt L w u.n u.fn a fas):=hT
 have HS:Hid u.sm:=hs
 have H5:Hid (U5 u):=h5
 have HCF:Hid (∀ i,i<u.n->CapF (u.fn i) (fas i)):=hcf
 have hun:=h5.size.2.1
 clear hT hs h5 hcf
 go_enter Tryz.func42,Tryz.ntmps42
 go_wp2_with fail
 obtain ⟨w3,hw3⟩:∃ w3,w3=sfW w u a cap:=⟨_,rfl⟩
 have HB3:Hid (Below (w.heap.size+1 + 1) (sfW w u a cap) w3):=by show Below _ _ _;rw[hw3];exact Below.refl _ _
 have HO3:Hid (OwnB w3 (w.heap.size+1 + 1) (ftC ft0)):=by
  show OwnB _ _ _
  rw[hw3]
  have h:=OwnB.new ((w.alloc (.cells #[.slice a u.n cap] 31)).alloc (.cells #[.int .i64 0,.int .i64 0,.int .i64 0] 60)) #[.int .i64 0,.int .i64 0,.int .i64 0] 60
  rw[show ((w.alloc (.cells #[.slice a u.n cap] 31)).alloc (.cells #[.int .i64 0,.int .i64 0,.int .i64 0] 60)).heap.size=w.heap.size+1 + 1 by simp] at h
  exact h
 simp only[sfW] at hw3
 rw[<-hw3]
 clear hw3
 go_loopw [9] (fun i wr=>∃ (k:Nat) (x:FT),k<=u.n/\i=.int .i64 k/\Hid (Least (fun y=>∃ g,g<k/\qv2 u g y) x)/\Hid (OwnB wr (w.heap.size+1 + 1) (ftC x))/\Hid (Below (w.heap.size+1 + 1) (sfW w u a cap) wr)) (fun i _=>u.n-(intOf i).toNat)
 case atStart=>exact ⟨0,ft0,Nat.zero_le _,rfl,Least.zero (fun y ⟨g,hg,_⟩=>by omega),HO3,HB3⟩
 case round=>
  clear HO3 HB3
  obtain ⟨k,x,hk,rfl,HL,HO,HB⟩:=hrel
  have u0:=sf_u HB.out
  have f0:=HO.out.1.cell 0 rfl
  have f1:=HO.out.1.cell 1 rfl
  have f2:=HO.out.1.cell 2 rfl
  have z:=HO.out.2
  have hlt:=HO.out.1.1
  have hl0:=HO.out.1.1
  have HTr:Hid (FnsAt L wr u.n u.fn a fas):=HT.out.below (zk1 HB.out)
  by_cases hkn:k<u.n
  ·have hh:=H5.out.toU3.head k hkn
   have HOKd:Hid (∀ (S T:Nat),CX.ok ⟨S,T,L,wr.drew,u,k,a,cap,fas⟩):=fun S T=>⟨H5.out,HS.out,hkn,HTr.out,HCF.out k hkn⟩
   go_upto_region 5 with fail
   go_region_with (first|(go_at_call 76;refine (qp7 L u k a cap fas _ hkn hh.1.2.1 (by first|exact HTr.out|exact HTr.out)).mono ?_;rintro e w5 ⟨S,T,rfl,hs5⟩;have HB5:Hid (Below (w.heap.size+1 + 1) (sfW w u a cap) w5):=HB.out.trans ((show Below wr.heap.size wr w5 from (Below.refl _ _).drew.trans hs5.b).mono (by omega));have HO5:Hid (OwnB w5 (w.heap.size+1 + 1) (ftC x)):=HO.out.callS (show Below wr.heap.size wr w5 from (Below.refl _ _).drew.trans hs5.b);have hf5:=fun h1 h2 h3=>za4 _ h1 h2 h3 _ hs5;have HF5:Hid (Calls Tryz.prog 77 #[.pointer (some ⟨S,0,none⟩)] w5 fun e w'=>qy5 ⟨S,T,L,wr.drew,u,k,a,cap,fas⟩ e w'):=hf5 (HOKd.out S T) hh.1.2.1 hh.1.2.2.2;clear hs5 hf5;clear f0 f1 f2 z u0 hlt;have f0:=HO5.out.1.cell 0 rfl;have f1:=HO5.out.1.cell 1 rfl;have f2:=HO5.out.1.cell 2 rfl;have z:=HO5.out.2;have hlt:=HO5.out.1.1;have u0:=sf_u HB5.out)|(go_at_call 77;refine HF5.out.mono ?_;rintro e w6 ⟨x6,rfl,hl6,hb6⟩;have HL6:Hid (Least (qv2 u k) x6):=hl6;have HB6:Hid (Below (w.heap.size+1 + 1) (sfW w u a cap) w6):=HB.out.trans ((show Below wr.heap.size wr w6 from (Below.refl _ _).drew.trans hb6).mono (by omega));have HO6:Hid (OwnB w6 (w.heap.size+1 + 1) (ftC x)):=HO.out.callS (show Below wr.heap.size wr w6 from (Below.refl _ _).drew.trans hb6);clear hl6 hb6;clear f0 f1 f2 z u0 hlt;have f0:=HO6.out.1.cell 0 rfl;have f1:=HO6.out.1.cell 1 rfl;have f2:=HO6.out.1.cell 2 rfl;have z:=HO6.out.2;have hlt:=HO6.out.1.1;have u0:=sf_u HB6.out)|(go_at_call 75;refine (qc5 x x6 _).mono ?_;rintro e w7 ⟨rfl,hb7⟩;have HB7:Hid (Below (w.heap.size+1 + 1) (sfW w u a cap) w7):=HB6.out.trans (hb7.mono (by omega));have HO7:Hid (OwnB w7 (w.heap.size+1 + 1) (ftC x)):=HO6.out.callS hb7;clear hb7;clear f0 f1 f2 z u0 hlt;have f0:=HO7.out.1.cell 0 rfl;have f1:=HO7.out.1.cell 1 rfl;have f2:=HO7.out.1.cell 2 rfl;have z:=HO7.out.2;have hlt:=HO7.out.1.1;have u0:=sf_u HB7.out))
   all_goals go_wp2_with fail
   all_goals go_roundw
   all_goals first
    |exact ⟨k+1,qe0 x x6,by omega,by go_num,(HL.out.first HL6.out).congr (zw9 u k),HO7.out.ft _,frS (frS (frS HB7.out (Nat.le_refl _) _) (Nat.le_refl _) _) (Nat.le_refl _) _⟩
    |(simp[intOf];omega)
  ·obtain rfl:k=u.n:=by omega
   go_upto_region 7 with fail
   go_region_with (first|(go_at_call 78;refine (qm3 L u a cap fas _ HS.out H5.out.toU3 (by first|exact HTr.out|exact HTr.out)).mono ?_;rintro e w6 ⟨x6,rfl,hl6,hb6⟩;have HL6:Hid (Least (qv1 u) x6):=hl6;have HB6:Hid (Below (w.heap.size+1 + 1) (sfW w u a cap) w6):=HB.out.trans ((show Below wr.heap.size wr w6 from (Below.refl _ _).drew.trans hb6).mono (by omega));have HO6:Hid (OwnB w6 (w.heap.size+1 + 1) (ftC x)):=HO.out.callS (show Below wr.heap.size wr w6 from (Below.refl _ _).drew.trans hb6);clear hl6 hb6;clear f0 f1 f2 z u0 hlt;have f0:=HO6.out.1.cell 0 rfl;have f1:=HO6.out.1.cell 1 rfl;have f2:=HO6.out.1.cell 2 rfl;have z:=HO6.out.2;have hlt:=HO6.out.1.1;have u0:=sf_u HB6.out)|(go_at_call 75;refine (qc5 x x6 _).mono ?_;rintro e w7 ⟨rfl,hb7⟩;have HB7:Hid (Below (w.heap.size+1 + 1) (sfW w u a cap) w7):=HB6.out.trans (hb7.mono (by omega));have HO7:Hid (OwnB w7 (w.heap.size+1 + 1) (ftC x)):=HO6.out.callS hb7;clear hb7;clear f0 f1 f2 z u0 hlt;have f0:=HO7.out.1.cell 0 rfl;have f1:=HO7.out.1.cell 1 rfl;have f2:=HO7.out.1.cell 2 rfl;have z:=HO7.out.2;have hlt:=HO7.out.1.1;have u0:=sf_u HB7.out;have s0:=World.rowIs.cell (zk0 HB7.out) (i:=0) (by omega);have s1:=World.rowIs.cell (zk0 HB7.out) (i:=1) (by omega);have s2:=World.rowIs.cell (zk0 HB7.out) (i:=2) (by omega);have sz:=World.rowIs.frozen (zk0 HB7.out)))
   all_goals go_wp2_with fail
   all_goals refine bodyPost_ret (v:=ftV (qe0 x x6)) (by simp[results,Tryz.results42,go_sem,s0,s1,s2]) rfl ?_
   all_goals exact FtPost.of ((HL.out.first HL6.out).congr fun y=>zw8 u y) (z62 HB7.out _ _ _)
end Go.Proofs.YtaimofjekgnieaaGreatDoor
