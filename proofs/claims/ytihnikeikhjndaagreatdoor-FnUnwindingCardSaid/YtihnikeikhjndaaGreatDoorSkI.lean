import Derived.Test.YtihnikeikhjndaaGreatDoorSkE
set_option maxRecDepth 100000
set_option maxHeartbeats 16000000
namespace Go.Proofs.YtihnikeikhjndaaGreatDoor
section
open Go.RowKit
attribute [local go_sem] aN
attribute [local go_sem ↓] Go.wp_at_zero Go.wp_at_succ
theorem CX.ok.rn{C:CX}(h:C.ok){n:Nat}(hn:n<C.d.nn):(C.d.nd n).rn<=1048576:=((h.sm.fn C.f h.f).nd n hn).rn
theorem y17(d:ND)(vn:Nat):(qY d vn).length<=d.rn:=by rw[<-KW];exact GK _ _ _
theorem z11(C:CX)(hC:C.ok)(n:Nat)(hn:n<C.d.nn):∀j,j<=(C.d.nd n).kn->(l9 C.d.nd C.d.vn n j).length<=1048576*j
 |0,_=>by simp[l9]
 |j+1,hj=>by
  have ih:=z11 C hC n hn j (by omega);have hc:=(hC.node hn).kids j (by omega);have h1:=y17 (C.d.nd ((C.d.nd n).c j).toNat) C.d.vn;have h2:=hC.rn (n:=((C.d.nd n).c j).toNat) (by omega);unfold l9;rw[List.length_append];split
  ·omega
  ·simp;omega
theorem zn0{C:CX}(n j c:Nat)(hc:(C.d.nd n).c j=(c:Int)):l9 C.d.nd C.d.vn n (j+1)=l9 C.d.nd C.d.vn n j++leaves C c:=by
 show l9 C.d.nd C.d.vn n j++_=_;rw[hc,Int.toNat_natCast];rfl
theorem L8{C:CX}(hC:C.ok){n:Nat}(hn:n<C.d.nn)(hk:(C.d.nd n).k≠1):∀j,j<=(C.d.nd n).kn->l9 C.d.nd C.d.vn n j=[]
 |0,_=>rfl
 |j+1,hj=>by
  have:=(hC.node hn).lets hk j (by omega);unfold l9;rw[L8 hC hn hk j (by omega),if_neg this];rfl
theorem dL.kid{C:CX}(hC:C.ok){n:Nat}{st:List Int}{ins:Nat}{x:FT}{a:Option Addr}{cap:Nat}{P:FT->Prop}{w:World}(h:dL C n st ins x a cap P w){j c:Nat}(hj:j<(C.d.nd n).kn)(hc:(C.d.nd n).c j=(c:Int)){st':List Int}{ins':Nat}{x':FT}{a':Option Addr}{cap':Nat}{P':FT->Prop}{w':World}(hs:SS C st' ins' x' a' cap' w')(hst:bD C.d c st')(hlp:0<ins'↔rW C.d.nd C.d.nn c)(hlen:st'.length<=st.length+209715200)(hins:ins'<=ins+1)(hl:Least P' x'):dL C c st' ins' x' a' cap' P' w':=by
 have h0:=h.lt;have h1:=(hC.node h0).kids j hj;have h2:=h.room;have h3:=h.deep;exact⟨hs,by omega,hst,hlp,by omega,by omega,hl⟩
theorem dL.CY{C:CX}(hC:C.ok){n:Nat}{st:List Int}{ins:Nat}{x:FT}{a:Option Addr}{cap:Nat}{P:FT->Prop}{w:World}(h:dL C n st ins x a cap P w)(hk:(C.d.nd n).k≠7/\(C.d.nd n).k≠8/\(C.d.nd n).k≠12){j c:Nat}(hj:j<(C.d.nd n).kn)(hc:(C.d.nd n).c j=(c:Int)):bD C.d c (st++l9 C.d.nd C.d.vn n j):=by
 by_cases e:(C.d.nd n).k=1
 ·exact bD.block hC.tree ⟨h.lt,hj,hc⟩ e h.stack
 ·rw[L8 hC h.lt e j (by omega),List.append_nil];exact bD.plain hC.tree ⟨h.lt,hj,hc⟩ e (fun h=>by omega) h.stack
theorem dL.sV{C:CX}(hC:C.ok){n:Nat}{st:List Int}{ins:Nat}{x:FT}{a:Option Addr}{cap:Nat}{P:FT->Prop}{w:World}(h:dL C n st ins x a cap P w){j c:Nat}(hj:j<(C.d.nd n).kn)(hc:(C.d.nd n).c j=(c:Int))(hk:¬(((C.d.nd n).k=6\/(C.d.nd n).k=7\/(C.d.nd n).k=8)/\j+1=(C.d.nd n).kn)):0<ins↔rW C.d.nd C.d.nn c:=by
 rw[rW.iff hC.tree ⟨h.lt,hj,hc⟩,h.loop];exact⟨.inr,fun h'=>h'.resolve_left hk⟩
def qI(C:CX)(n:Nat)(st:List Int)(ins:Nat)(P:FT->Prop)(a:Option Addr)(w w':World):Prop:=gB C (st++l9 C.d.nd C.d.vn n (C.d.nd n).kn) ins (fun y=>P y\/qc1 C.u C.f n (C.d.nd n).kn y) a w w'
theorem Pv(C:CX)(hC:C.ok)(n:Nat)(ih:∀m,m<n->qh C m)(hk:(C.d.nd n).k≠6/\(C.d.nd n).k≠7/\(C.d.nd n).k≠8/\(C.d.nd n).k≠12)(st:List Int)(ins:Nat)(x:FT)(a:Option Addr)(cap:Nat)(P:FT->Prop)(w:World)(hP:dL C n st ins x a cap P w):Calls Tryz.prog 130 #[.pointer (some ⟨C.S,0,none⟩),.int .i64 (n:Int)] w fun e w'=>e=.returned (.tuple #[])/\qI C n st ins P a w w':=by
 have HP:Hid (dL C n st ins x a cap P w):=hP;have HC:Hid C.ok:=hC;have IH:Hid (∀m,m<n->qh C m):=ih;have HK:Hid ((C.d.nd n).k≠6/\(C.d.nd n).k≠7/\(C.d.nd n).k≠8/\(C.d.nd n).k≠12):=hk;have c8:=hP.ss.c8;have hn:=hP.lt;have hnn:=hC.nn;have hkn:=(hC.node hn).kn;obtain⟨b,off,e0,_,hb,d0,d1,d2,d3,d4,d5,d6,d7⟩:=dK ((hP.ss.fns hC).2 C.f hC.f).2.2.1 hn;rw[e0] at c8;rw[show(C.u.fn C.f).nd n=C.d.nd n from rfl] at d7;clear d0 d1 d2 d3 d4 d5 d6 e0 hP hC ih hk;go_in;go_wp2_with fail;clear c8 d7
 go_loopw [16] (fun i wr=>∃(k:Nat) (x':FT) (a':Option Addr) (cap':Nat),k<=(C.d.nd n).kn/\i=.int .i64 k/\Hid (SS C (st++l9 C.d.nd C.d.vn n k) ins x' a' cap' wr)/\Hid (Least (fun y=>P y\/qc1 C.u C.f n k y) x')/\Hid (Mv C.S C.T a w a' wr)) (fun i _=>(C.d.nd n).kn-(intOf i).toNat)
 case atStart=>exact⟨0,x,a,cap,Nat.zero_le _,rfl,by show SS _ _ _ _ _ _ _;rw[show l9 C.d.nd C.d.vn n 0=[] from rfl,List.append_nil];exact HP.ss,HP.least.congr fun y=>⟨.inl,fun h=>h.resolve_right (Py _ _ _ _)⟩,Mv.refl _ _ _ _⟩
 case round=>
  obtain⟨k,x',a',cap',hk,rfl,HS,HL,HM⟩:=hrel;by_cases hkn2:k<(C.d.nd n).kn
  ·obtain⟨b2,o2,e2,_,hb2,g0⟩:=aX (((HS.fns HC.out).2 C.f HC.f).2.2.2 n hn).2 hkn2;rw[show C.fas C.f=C.fa from rfl] at e2;rw[e2];have hc:=(HC.node hn).kids k hkn2;obtain⟨c,hcc⟩:∃c:Nat,(C.d.nd n).c k=c:=⟨((C.d.nd n).c k).toNat,by omega⟩;rw[show((C.u.fn C.f).nd n).c k=(c:Int) from hcc] at g0;have hcn:c<n:=by omega
   have hlen:=z11 C HC.out n hn k hk;have HV:Hid (Calls Tryz.prog 141 #[.pointer (some ⟨C.S,0,none⟩),.int .i64 (c:Int)] wr fun e w'=>e=.returned (.tuple #[])/\gB C ((st++l9 C.d.nd C.d.vn n k)++leaves C c) ins (fun y=>(P y\/qc1 C.u C.f n k y)\/iO C.u C.f c y) a' wr w'):=
    IH.out c hcn _ _ _ _ _ _ _ (HP.kid HC.out hkn2 hcc HS.out (HP.CY HC.out HK.2 hkn2 hcc) (HP.sV HC.out hkn2 hcc (fun h=>by have:=HK.out;omega)) (by rw[List.length_append];omega) (by omega) HL.out)
   have HE:Hid (st++l9 C.d.nd C.d.vn n (k+1)=(st++l9 C.d.nd C.d.vn n k)++leaves C c):=by show _=_;rw[zn0 n k c hcc,List.append_assoc]
   have HQ:Hid (∀y,((P y\/qc1 C.u C.f n k y)\/iO C.u C.f c y)↔(P y\/qc1 C.u C.f n (k+1) y)):=fun y=>by rw[Ho C.u C.f n k c hcc y,or_assoc]
   clear hc hcc hlen e2;go_wp2_with (go_at_call 141;refine HV.mono ?_;rintro e w9 ⟨rfl,⟨x9,a9,rV,hs9,BF,BD⟩⟩;have yR:Hid _:=hs9;have SG:Hid _:=BF;have JB:Hid _:=BD;clear hs9 BF BD);go_roundw
   case rel=>exact⟨k+1,x9,a9,rV,by omega,by go_num,by rw[HE.out];exact yR,Least.congr SG HQ,HM.trans JB⟩
   case measure=>simp[intOf];omega
  ·obtain rfl:k=(C.d.nd n).kn:=by omega
   go_wp2_with fail;go_end0;exact⟨rfl,x',a',cap',HS,HL,HM⟩
theorem jr.node{C:CX}(hC:C.ok){st:List Int}{ins:Nat}{x:FT}{a:Option Addr}{cap:Nat}{w:World}(h:SS C st ins x a cap w){n:Nat}(hn:n<C.d.nn):jr C a w (C.fa.nas n).ra (C.d.nd n).rn (C.d.nd n).r:=by
 refine⟨aP.less (((h.fns hC).2 C.f hC.f).2.2.2 n hn).1 (Nat.zero_le _),fun h0 b off e=>?_⟩;obtain⟨b',off',e',_,hb,_⟩:=((hC.at_.2 C.f hC.f).2.2.2 n hn).1 h0;rw[show C.fas C.f=C.fa from rfl,e] at e'
 cases e';have h1:=h.nS;have h2:=h.nT;exact⟨by omega,by omega,fun c=>by have:=(h.ge c).1;omega⟩
theorem qI.step{C:CX}{n:Nat}{st:List Int}{ins:Nat}{P:FT->Prop}{a:Option Addr}{w w':World}(h:qI C n st ins P a w w')(hl:l9 C.d.nd C.d.vn n (C.d.nd n).kn=[])(h2:(C.d.nd n).k≠2)(hN:∀y,¬ji C.u C.f n y):gB C (st++leaves C n) ins (fun y=>P y\/iO C.u C.f n y) a w w':=by
 obtain⟨x',a',cap',h1,h3,h4⟩:=h;rw[hl,List.append_nil] at h1;rw[zC h2];exact⟨x',a',cap',h1,h3.congr fun y=>by rw[EU];exact⟨fun h=>h.elim .inl fun h=>.inr (.inl h),fun h=>h.elim .inl fun h=>.inr (h.resolve_right (hN y))⟩,h4⟩
theorem Zt(C:CX)(hC:C.ok)(n:Nat)(hn:n<C.d.nn)(ih:∀m,m<n->qh C m)(hk:(C.d.nd n).k≠1/\(C.d.nd n).k≠2/\(C.d.nd n).k≠6/\(C.d.nd n).k≠7/\(C.d.nd n).k≠8/\(C.d.nd n).k≠12/\(C.d.nd n).k≠9/\(C.d.nd n).k≠10/\(C.d.nd n).k≠26/\(C.d.nd n).k≠27/\(C.d.nd n).k≠36/\(C.d.nd n).k≠37):uT C 130 n:=by
 intro st ins x a cap P w hP;have hN:=yF (Df (u:=C.u) (f:=C.f) (n:=n) hk.2.2.2.2.2.2.2.2.1 hk.2.2.2.2.2.2.2.2.2.1 hk.2.2.2.2.2.2.2.2.2.2.1) (zy hk.2.2.2.2.2.2.1 hk.2.2.2.2.2.2.2.1) (qc6 hk.2.2.2.2.2.2.2.2.2.2.1 hk.2.2.2.2.2.2.2.2.2.2.2);refine(Pv C hC n ih ⟨hk.2.2.1,hk.2.2.2.1,hk.2.2.2.2.1,hk.2.2.2.2.2.1⟩ st ins x a cap P w hP).mono ?_;rintro e w' ⟨rfl,h⟩;exact⟨rfl,h.step (L8 hC hn hk.1 _ (Nat.le_refl _)) hk.2.1 hN⟩
theorem y46(C:CX)(hC:C.ok)(n:Nat)(ih:∀m,m<n->qh C m)(hk:(C.d.nd n).k=2):uT C 132 n:=by
 intro st ins x a cap P w hP;have hk':((C.u.fn C.f).nd n).k=2:=hk;have HN:Hid (∀y,¬ji C.u C.f n y):=yF (Df (by omega) (by omega) (by omega)) (zy (by omega) (by omega)) (qc6 (by omega) (by omega));have uM:Hid (Calls Tryz.prog 130 #[.pointer (some ⟨C.S,0,none⟩),.int .i64 (n:Int)] w fun e w'=>e=.returned (.tuple #[])/\qI C n st ins P a w w'):=Pv C hC n ih (by omega) st ins x a cap P w hP;have HE:Hid (l9 C.d.nd C.d.vn n (C.d.nd n).kn=[]):=L8 hC hP.lt (by omega) _ (Nat.le_refl _);have HP:Hid (dL C n st ins x a cap P w):=hP;have HC:Hid C.ok:=hC;have HL:Hid (leaves C n=jF (C.d.nd n).r C.d.vn (C.d.nd n).rn):=by show leaves C n=_;unfold leaves;rw[if_pos hk,KW]
 have hn:=hP.lt;have hnn:=hC.nn;have hrn:=hC.rn hn;have hroom:=hP.room;clear hP hC ih hk hk';go_in;go_wp2_with fail;refine uM.mono ?_;rintro e w1 ⟨rfl,⟨x1,a1,cap1,hs1,hl1,hm1⟩⟩;rw[HE.out,List.append_nil] at hs1;have fP:Hid (SS C st ins x1 a1 cap1 w1):=hs1;have jq:Hid (Least (fun y=>P y\/qc1 C.u C.f n (C.d.nd n).kn y) x1):=hl1;have uK:Hid (Mv C.S C.T a w a1 w1):=hm1;have c8:=hs1.c8;obtain⟨b,off,e0,_,hb,d0,d1,d2,d3,d4,d5,d6,d7⟩:=dK ((hs1.fns HC.out).2 C.f HC.f).2.2.1 hn;rw[e0] at c8;rw[show(C.u.fn C.f).nd n=C.d.nd n from rfl] at d6;have HI:Hid (jr C a1 w1 (C.fa.nas n).ra (C.d.nd n).rn (C.d.nd n).r):=jr.node HC.out hs1 hn;clear d0 d1 d2 d3 d4 d5 d7 e0 hs1 hl1 hm1;go_wp2_with (go_at_call 140;refine(PU C st ins x1 a1 cap1 _ _ _ _ _ hrn (by omega) fP.out HI.out).mono ?_;rintro e w2 ⟨rfl,⟨a2,cap2,hs2,hm2⟩⟩;have HS2:Hid _:=hs2;have nR:Hid _:=hm2;clear hs2 hm2);go_end0;refine⟨rfl,x1,a2,cap2,by rw[HL.out];exact HS2,jq.congr fun y=>?_,uK.trans nR⟩;rw[EU];exact⟨fun h=>h.elim .inl fun h=>.inr (.inl h),fun h=>h.elim .inl fun h=>.inr (h.resolve_right (HN y))⟩
theorem zo5(C:CX)(hC:C.ok)(n:Nat)(ih:∀m,m<n->qh C m)(hk:(C.d.nd n).k=1):uT C 131 n:=by
 intro st ins x a cap P w hP;have hk':((C.u.fn C.f).nd n).k=1:=hk;have HN:Hid (∀y,¬ji C.u C.f n y):=yF (Df (by omega) (by omega) (by omega)) (zy (by omega) (by omega)) (qc6 (by omega) (by omega));have h2:Hid ((C.d.nd n).k≠2):=by show _≠_;omega
 have uM:Hid (Calls Tryz.prog 130 #[.pointer (some ⟨C.S,0,none⟩),.int .i64 (n:Int)] w fun e w'=>e=.returned (.tuple #[])/\qI C n st ins P a w w'):=Pv C hC n ih (by omega) st ins x a cap P w hP;have HP:Hid (dL C n st ins x a cap P w):=hP;have tu:=hP.ss.tu;have hroom:=hP.room;have hlen:=z11 C hC n hP.lt _ (Nat.le_refl _);have hkn:=(hC.node hP.lt).kn;clear hP hC ih hk hk'
 go_enter_defers Tryz.func131,Tryz.ntmps131
 go_wp2_with (go_at_call 130;refine uM.mono ?_;rintro e w1 ⟨rfl,⟨x1,a1,cap1,hs1,hl1,hm1⟩⟩;have fP:Hid _:=hs1;have jq:Hid _:=hl1;have uK:Hid _:=hm1;clear hs1 hl1 hm1);refine leaves_cons (f:=164) (args:=#[.pointer (some ⟨C.S,0,none⟩),.int .i64 (st.length:Int)]) (by simp) (by simp[go_sem]) ?_;refine(Xj C _ ins x1 a1 cap1 st.length .returning _ (by rw[List.length_append];omega) (by simp) fP.out).mono ?_;rintro e u' w2 ⟨rfl,rfl,hs2,hm2⟩;refine⟨_,results_none rfl _ _ _,rfl,x1,a1,cap1,?_,Least.congr jq fun y=>?_,uK.trans hm2⟩
 ·rw[zC h2.out];rw[List.take_left] at hs2;exact hs2
 ·rw[EU];exact⟨fun h=>h.elim .inl fun h=>.inr (.inl h),fun h=>h.elim .inl fun h=>.inr (h.resolve_right (HN y))⟩
theorem qc5(C:CX)(m:Nat)(ih:qh C m)(va:Option Addr)(vn vc:Nat)(r:Nat->Int)(st:List Int)(ins:Nat)(x:FT)(a:Option Addr)(cap:Nat)(P:FT->Prop)(w:World)(hm2:(C.d.nd m).k≠2)(hvn:vn<=1048576)(hroom:st.length<=700000000000)(hS:SS C st ins x a cap w)(hI:jr C a w va vn r)(hL:Least P x)(hV:∀(a':Option Addr) (cap':Nat) (w':World),SS C (st++jF r C.d.vn vn) ins x a' cap' w'->dL C m (st++jF r C.d.vn vn) ins x a' cap' P w'):Calls Tryz.prog 165 #[.pointer (some ⟨C.S,0,none⟩),.slice va vn vc,.int .i64 (m:Int)] w fun e w'=>e=.returned (.tuple #[])/\gB C st ins (fun y=>P y\/iO C.u C.f m y) a w w':=by
 have HS:Hid (SS C st ins x a cap w):=hS;have HI:Hid (jr C a w va vn r):=hI;have HL:Hid (Least P x):=hL;have HV:Hid (∀(a':Option Addr) (cap':Nat) (w':World),SS C (st++jF r C.d.vn vn) ins x a' cap' w'->dL C m (st++jF r C.d.vn vn) ins x a' cap' P w'):=hV;have IH:Hid (qh C m):=ih;have h2:Hid ((C.d.nd m).k≠2):=hm2;have tu:=hS.tu;have hlen:=GK r C.d.vn vn;clear hS hI hL hV ih hm2
 go_enter_defers Tryz.func165,Tryz.ntmps165
 go_wp2_with (first|(go_at_call 140;refine(PU C st ins x a cap va vn vc r _ hvn hroom HS HI).mono ?_;rintro e w1 ⟨rfl,⟨a1,cap1,hs1,hm1⟩⟩;have fP:Hid _:=hs1;have uK:Hid _:=hm1;clear hs1 hm1)|(go_at_call 141;refine(IH _ _ _ _ _ _ _ (HV _ _ _ fP)).mono ?_;rintro e w2 ⟨rfl,⟨x2,a2,cap2,hs2,hl2,hm2⟩⟩;have HS2:Hid _:=hs2;have HL2:Hid _:=hl2;have nR:Hid _:=hm2;clear hs2 hl2 hm2));have hs3:=HS2.out;rw[zC h2.out] at hs3;refine leaves_cons (f:=164) (args:=#[.pointer (some ⟨C.S,0,none⟩),.int .i64 (st.length:Int)]) (by simp) (by simp[go_sem]) ?_;refine(Xj C _ ins x2 a2 cap2 st.length .returning _ (by rw[List.length_append];omega) (by simp) hs3).mono ?_;rintro e u' w3 ⟨rfl,rfl,hs4,hm4⟩;refine⟨_,results_none rfl _ _ _,rfl,x2,a2,cap2,?_,HL2,(uK.trans nR).trans hm4⟩;rw[List.take_left] at hs4;exact hs4
theorem P5{C:CX}(hC:C.ok){st:List Int}{ins:Nat}{x:FT}{a:Option Addr}{cap:Nat}{w:World}(h:SS C st ins x a cap w){n j c b o:Nat}(hn:n<C.d.nn)(hj:j<(C.d.nd n).kn)(e:(C.fa.nas n).ka=some ⟨b,o,none⟩)(hc:(C.d.nd n).c j=(c:Int)):w.cell? ⟨b,o+j,none⟩=some (.int .i64 (c:Int)):=by
 obtain⟨b',o',e',_,_,g⟩:=aX (((h.fns hC).2 C.f hC.f).2.2.2 n hn).2 hj;have e2:some (⟨b,o,none⟩:Addr)=some ⟨b',o',none⟩:=e.symm.trans e'
 cases e2;rw[<-hc];exact g
theorem y41{u:UD}{f n c0 c1:Nat}(hk:((u.fn f).nd n).kn=2)(h0:((u.fn f).nd n).c 0=(c0:Int))(h1:((u.fn f).nd n).c 1=(c1:Int))(hN:∀y,¬ji u f n y)(P:FT->Prop)(y:FT):((P y\/iO u f c0 y)\/iO u f c1 y)↔(P y\/iO u f n y):=by
 rw[EU u f n y,hk,Ho u f n 1 c1 h1 y,Ho u f n 0 c0 h0 y];constructor
 ·rintro((h|h)|h)
  ·exact .inl h
  ·exact .inr (.inl (.inl (.inr h)))
  ·exact .inr (.inl (.inr h))
 ·rintro(h|((h|h)|h)|h)
  ·exact .inl (.inl h)
  ·exact absurd h (Py _ _ _ _)
  ·exact .inl (.inr h)
  ·exact .inr h
  ·exact absurd h (hN y)
theorem y21(C:CX)(hC:C.ok)(n:Nat)(ih:∀m,m<n->qh C m)(hk:(C.d.nd n).k=12):uT C 134 n:=by
 intro st ins x a cap P w hP;have hk':((C.u.fn C.f).nd n).k=12:=hk;have HN:Hid (∀y,¬ji C.u C.f n y):=yF (Df (by omega) (by omega) (by omega)) (zy (by omega) (by omega)) (qc6 (by omega) (by omega));have hn:=hP.lt;have hnn:=hC.nn;have hkn:(C.d.nd n).kn=2:=(hC.node hn).two (by omega);have hc0:=(hC.node hn).kids 0 (by omega);have hc1:=(hC.node hn).kids 1 (by omega);obtain⟨k0,hk0⟩:∃c:Nat,(C.d.nd n).c 0=c:=⟨((C.d.nd n).c 0).toNat,by omega⟩;obtain⟨k1,hk1⟩:∃c:Nat,(C.d.nd n).c 1=c:=⟨((C.d.nd n).c 1).toNat,by omega⟩;have hlt0:k0<n:=by omega
 have hlt1:k1<n:=by omega
 have h2:Hid ((C.d.nd n).k≠2):=by show _≠_;omega
 have h20:Hid ((C.d.nd k0).k≠2):=by
  have h:=(hC.node hn).lets (by omega) 0 (by omega);rw[hk0,Int.toNat_natCast] at h;exact h
 have h21:Hid ((C.d.nd k1).k≠2):=by
  have h:=(hC.node hn).lets (by omega) 1 (by omega);rw[hk1,Int.toNat_natCast] at h;exact h
 have IH0:Hid (qh C k0):=ih k0 hlt0;have IH1:Hid (qh C k1):=ih k1 hlt1;have HP:Hid (dL C n st ins x a cap P w):=hP;have HC:Hid C.ok:=hC;have hrn:=hC.rn hn;have hroom:=hP.room;have HQ:Hid (∀y,((P y\/iO C.u C.f k0 y)\/iO C.u C.f k1 y)↔(P y\/iO C.u C.f n y)):=y41 hkn hk0 hk1 HN.out P;have Nk:Hid (∀(x':FT) (a':Option Addr) (cap':Nat) (P':FT->Prop) (w':World),SS C st ins x' a' cap' w'->Least P' x'->dL C k0 st ins x' a' cap' P' w'):=fun x' a' cap' P' w' hs hl=>
  hP.kid hC (j:=0) (by omega) hk0 hs (bD.plain hC.tree ⟨hn,by omega,hk0⟩ (by omega) (fun _=>by omega) hP.stack) (hP.sV hC (by omega) hk0 (fun h=>by omega)) (by omega) (by omega) hl
 have HV1:Hid (∀(x':FT) (a':Option Addr) (cap':Nat) (P':FT->Prop) (w':World),SS C (st++jF (C.d.nd n).r C.d.vn (C.d.nd n).rn) ins x' a' cap' w'->Least P' x'->dL C k1 (st++jF (C.d.nd n).r C.d.vn (C.d.nd n).rn) ins x' a' cap' P' w'):=fun x' a' cap' P' w' hs hl=>
  hP.kid hC (j:=1) (by omega) hk1 hs (by rw[KW];exact bD.last hC.tree ⟨hn,by omega,hk1⟩ (by omega) (by omega) hP.stack) (hP.sV hC (by omega) hk1 (fun h=>by omega)) (by rw[List.length_append];have:=GK (C.d.nd n).r C.d.vn (C.d.nd n).rn;omega) (by omega) hl
 have c8:=hP.ss.c8;obtain⟨b,off,e0,_,hb,d0,d1,d2,d3,d4,d5,d6,d7⟩:=dK ((hP.ss.fns hC).2 C.f hC.f).2.2.1 hn;obtain⟨b2,o2,e2,_,hb2,g0⟩:=aX (((hP.ss.fns hC).2 C.f hC.f).2.2.2 n hn).2 (k:=0) (show 0<(C.d.nd n).kn by omega);rw[e0] at c8;rw[show C.fas C.f=C.fa from rfl] at e2 d6 d7;rw[show(C.u.fn C.f).nd n=C.d.nd n from rfl] at d0 d1 d2 d3 d4 d5 d6 d7;rw[e2] at d7;rw[show((C.u.fn C.f).nd n).c 0=(k0:Int) from hk0] at g0;rw[hkn] at d7;have HE2:Hid ((C.fa.nas n).ka=some ⟨b2,o2,none⟩):=e2;have JG:Hid (∀(st:List Int) (ins:Nat) (x:FT) (a:Option Addr) (cap:Nat) (w:World),SS C st ins x a cap w->w.cell? ⟨b2,o2,none⟩=some (.int .i64 (k0:Int))/\w.cell? ⟨b2,o2+1,none⟩=some (.int .i64 (k1:Int))):=fun st ins x a cap w h=>⟨P5 hC h hn (by omega) e2 hk0,P5 hC h hn (by omega) e2 hk1⟩;clear hP hC ih hk hk' hc0 hc1 e0 e2 hkn g0;go_in
 go_upto_region 1 with fail
 obtain⟨w5,hw5⟩:∃w5,w5=w.alloc (.cells #[.int .i64 (C.d.nd n).k,.int .i64 (C.d.nd n).l,.int .i64 (C.d.nd n).o,.int .i64 (C.d.nd n).n,.float .f64 (C.d.nd n).f,.string (C.d.nd n).s,.slice (C.fa.nas n).ra (C.d.nd n).rn (C.fa.nas n).rc,.slice (some ⟨b2,o2,none⟩) 2 (C.fa.nas n).kc] 98):=⟨_,rfl⟩;have Nq:Hid (SS C st ins x a cap w5):=by show SS _ _ _ _ _ _ _;rw[hw5];exact HP.ss.alloc _
 have SB:Hid (Mv C.S C.T a w a w5):=by show Mv _ _ _ _ _ _;rw[hw5];exact(Mv.refl _ _ _ _).alloc _
 have Jv:Hid (Has w5 w.heap.size #[.int .i64 (C.d.nd n).k,.int .i64 (C.d.nd n).l,.int .i64 (C.d.nd n).o,.int .i64 (C.d.nd n).n,.float .f64 (C.d.nd n).f,.string (C.d.nd n).s,.slice (C.fa.nas n).ra (C.d.nd n).rn (C.fa.nas n).rc,.slice (some ⟨b2,o2,none⟩) 2 (C.fa.nas n).kc]):=by show Has _ _ _;rw[hw5];exact Has.new _ _ _
 have HO:Hid (w.heap.size≠C.S/\w.heap.size≠C.T/\aj a≠some w.heap.size):=HP.ss.other (Nat.le_refl _);rw[<-hw5];clear hw5 c8 d0 d1 d2 d3 d4 d5 d6 d7;have x7:=Jv.cell 7 rfl;obtain⟨g0,g1⟩:=JG.out _ _ _ _ _ _ Nq.out
 go_upto_region 2 with(go_at_call 141;refine(IH0 _ _ _ _ _ _ _ (Nk _ _ _ _ _ Nq HP.least)).mono ?_;rintro e w6 ⟨rfl,⟨x6,a6,cap6,hs6,BG,XF⟩⟩;rw[zC h20.out] at hs6;have oP:Hid (SS C st ins x6 a6 cap6 w6):=hs6;have FB:Hid (Least (fun y=>P y\/iO C.u C.f k0 y) x6):=BG;have JD:Hid (Mv C.S C.T a w5 a6 w6):=XF;clear hs6 BG XF)
 have Em:=JD.has Jv.out HO.1 HO.2.1 HO.2.2;clear x7 g0 g1;have x7:=Em.cell 7 rfl;have x6':=Em.cell 6 rfl;obtain⟨g0,g1⟩:=JG.out _ _ _ _ _ _ oP.out;clear Em
 go_region_with (go_at_call 165;refine(qc5 C k1 IH1.out _ _ _ (C.d.nd n).r st ins x6 a6 cap6 (fun y=>P y\/iO C.u C.f k0 y) _ h21.out hrn (by omega) (by first|exact oP.out|exact oP.drew) (jr.node HC.out (by first|exact oP.out|exact oP.drew) hn) FB.out (fun a' cap' w' hs=>HV1.out _ _ _ _ _ hs FB.out)).mono ?_;rintro e w7 ⟨rfl,⟨CQ,a7,qC,hs7,yK,iR⟩⟩;have Es:Hid (SS C st ins CQ a7 qC w7):=hs7;have JE:Hid (Least (fun y=>(P y\/iO C.u C.f k0 y)\/iO C.u C.f k1 y) CQ):=yK;have JC:Hid (Mv C.S C.T a6 w6 a7 w7):=(by first|exact iR|exact(Mv.refl _ _ _ _).drew.trans iR);clear hs7 yK iR)
 all_goals go_end0
 all_goals exact⟨rfl,CQ,a7,qC,by rw[zC h2.out];exact Es,JE.congr HQ,(SB.trans JD).trans JC⟩
theorem Zy{u:UD}{f n c m:Nat}(hk:((u.fn f).nd n).kn=m+1)(h0:((u.fn f).nd n).c m=(c:Int))(hN:∀y,¬ji u f n y)(P:FT->Prop)(y:FT):((P y\/qc1 u f n m y)\/iO u f c y)↔(P y\/iO u f n y):=by
 rw[EU u f n y,hk,Ho u f n m c h0 y];constructor
 ·rintro((h|h)|h)
  ·exact .inl h
  ·exact .inr (.inl (.inl h))
  ·exact .inr (.inl (.inr h))
 ·rintro(h|(h|h)|h)
  ·exact .inl (.inl h)
  ·exact .inl (.inr h)
  ·exact .inr h
  ·exact absurd h (hN y)
theorem P8(C:CX)(hC:C.ok)(n:Nat)(ih:∀m,m<n->qh C m)(hk:(C.d.nd n).k=6\/(C.d.nd n).k=7\/(C.d.nd n).k=8):uT C 133 n:=by
 intro st ins x a cap P w hP;have hk':((C.u.fn C.f).nd n).k=6\/((C.u.fn C.f).nd n).k=7\/((C.u.fn C.f).nd n).k=8:=hk;have HN:Hid (∀y,¬ji C.u C.f n y):=yF (Df (by omega) (by omega) (by omega)) (zy (by omega) (by omega)) (qc6 (by omega) (by omega));have hn:=hP.lt;have hnn:=hC.nn;have hsh:=hC.node hn;obtain⟨m,hm⟩:∃m:Nat,(C.d.nd n).kn=m+1:=⟨(C.d.nd n).kn-1,by have:=hsh.two;have:=hsh.four;omega⟩;have hm2:m<=3:=by have:=hsh.two;have:=hsh.four;omega
 have hcm:=hsh.kids m (by omega);obtain⟨kl,hkl⟩:∃c:Nat,(C.d.nd n).c m=c:=⟨((C.d.nd n).c m).toNat,by omega⟩;have Qw:kl<n:=by omega
 have h2:Hid ((C.d.nd n).k≠2):=by show _≠_;omega
 have h2l:Hid ((C.d.nd kl).k≠2):=by
  have h:=hsh.lets (by omega) m (by omega);rw[hkl,Int.toNat_natCast] at h;exact h
 have IHl:Hid (qh C kl):=ih kl Qw;have IH:Hid (∀m,m<n->qh C m):=ih;have HP:Hid (dL C n st ins x a cap P w):=hP;have HC:Hid C.ok:=hC;have hrn:=hC.rn hn;have hroom:=hP.room;have XH:=hP.deep;have HQ:Hid (∀y,((P y\/qc1 C.u C.f n m y)\/iO C.u C.f kl y)↔(P y\/iO C.u C.f n y)):=Zy hm hkl HN.out P;have HVl:Hid (∀(x':FT) (a':Option Addr) (cap':Nat) (P':FT->Prop) (w':World),SS C (st++jF (C.d.nd n).r C.d.vn (C.d.nd n).rn) (ins+1) x' a' cap' w'->Least P' x'->dL C kl (st++jF (C.d.nd n).r C.d.vn (C.d.nd n).rn) (ins+1) x' a' cap' P' w'):=fun x' a' cap' P' w' hs hl=>
  hP.kid hC (j:=m) (by omega) hkl hs (by
   by_cases e:(C.d.nd n).k=6
   ·have hr0:(C.d.nd n).rn=0:=Classical.byContradiction fun h=>by have:=hsh.refs h;omega
    rw[hr0,OT,List.append_nil];exact bD.plain hC.tree ⟨hn,by omega,hkl⟩ (by omega) (fun h=>by omega) hP.stack
   ·rw[KW];exact bD.last hC.tree ⟨hn,by omega,hkl⟩ (by omega) (by omega) hP.stack) (by rw[rW.iff hC.tree ⟨hn,by omega,hkl⟩];exact⟨fun _=>.inl ⟨hk,by omega⟩,fun _=>by omega⟩) (by rw[List.length_append];have:=GK (C.d.nd n).r C.d.vn (C.d.nd n).rn;omega) (by omega) hl
 have HVK:Hid (∀(j c:Nat),j<m->(C.d.nd n).c j=(c:Int)->∀(x':FT) (a':Option Addr) (cap':Nat) (P':FT->Prop) (w':World),SS C st ins x' a' cap' w'->Least P' x'->dL C c st ins x' a' cap' P' w'):=fun j c hj hc x' a' cap' P' w' hs hl=>
  hP.kid hC (j:=j) (by omega) hc hs (bD.plain hC.tree ⟨hn,by omega,hc⟩ (by omega) (fun _=>by omega) hP.stack) (hP.sV hC (by omega) hc (fun h=>by omega)) (by omega) (by omega) hl
 have Et:Hid (∀(j c:Nat),j<m->(C.d.nd n).c j=(c:Int)->(C.d.nd c).k≠2):=fun j c hj hc=>by
  have h:=hsh.lets (by omega) j (by omega);rw[hc,Int.toNat_natCast] at h;exact h
 have HKN:Hid (∀j,j<m->0<=(C.d.nd n).c j/\(C.d.nd n).c j<n):=fun j hj=>hsh.kids j (by omega);have c8:=hP.ss.c8;obtain⟨b,off,e0,_,hb,d0,d1,d2,d3,d4,d5,d6,d7⟩:=dK ((hP.ss.fns hC).2 C.f hC.f).2.2.1 hn;obtain⟨b2,o2,e2,_,hb2,g0⟩:=aX (((hP.ss.fns hC).2 C.f hC.f).2.2.2 n hn).2 (k:=0) (show 0<(C.d.nd n).kn by omega);rw[e0] at c8;rw[show C.fas C.f=C.fa from rfl] at e2 d6 d7;rw[show(C.u.fn C.f).nd n=C.d.nd n from rfl] at d0 d1 d2 d3 d4 d5 d6 d7;rw[e2,hm] at d7;have hcap:m+1<=(C.fa.nas n).kc:=by have:=hC.cap.2 n hn;omega
 have JG:Hid (∀(st:List Int) (ins:Nat) (x:FT) (a:Option Addr) (cap:Nat) (w:World),SS C st ins x a cap w->∀(j c:Nat),j<m+1->(C.d.nd n).c j=(c:Int)->w.cell? ⟨b2,o2+j,none⟩=some (.int .i64 (c:Int))):=fun st ins x a cap w h j c hj hc=>P5 hC h hn (by omega) e2 hc;have HKL:Hid ((C.d.nd n).c m=(kl:Int)):=hkl;clear hP hC ih hk hk' hcm e0 e2 hm g0 hsh hkl;go_in
 go_upto_region 1 with fail
 obtain⟨w5,hw5⟩:∃w5,w5=w.alloc (.cells #[.int .i64 (C.d.nd n).k,.int .i64 (C.d.nd n).l,.int .i64 (C.d.nd n).o,.int .i64 (C.d.nd n).n,.float .f64 (C.d.nd n).f,.string (C.d.nd n).s,.slice (C.fa.nas n).ra (C.d.nd n).rn (C.fa.nas n).rc,.slice (some ⟨b2,o2,none⟩) (m+1) (C.fa.nas n).kc] 98):=⟨_,rfl⟩;have Nq:Hid (SS C st ins x a cap w5):=by show SS _ _ _ _ _ _ _;rw[hw5];exact HP.ss.alloc _
 have SB:Hid (Mv C.S C.T a w a w5):=by show Mv _ _ _ _ _ _;rw[hw5];exact(Mv.refl _ _ _ _).alloc _
 have Jv:Hid (Has w5 w.heap.size #[.int .i64 (C.d.nd n).k,.int .i64 (C.d.nd n).l,.int .i64 (C.d.nd n).o,.int .i64 (C.d.nd n).n,.float .f64 (C.d.nd n).f,.string (C.d.nd n).s,.slice (C.fa.nas n).ra (C.d.nd n).rn (C.fa.nas n).rc,.slice (some ⟨b2,o2,none⟩) (m+1) (C.fa.nas n).kc]):=by show Has _ _ _;rw[hw5];exact Has.new _ _ _
 have HO:Hid (w.heap.size≠C.S/\w.heap.size≠C.T/\aj a≠some w.heap.size):=HP.ss.other (Nat.le_refl _);rw[<-hw5];clear hw5 c8 d0 d1 d2 d3 d4 d5 d6 d7;have x7:=Jv.cell 7 rfl;go_wp2_with fail;clear x7
 go_loopw [25] (fun i wr=>∃(k:Nat) (x':FT) (a':Option Addr) (cap':Nat),k<=m/\i=.int .i64 k/\Hid (SS C st ins x' a' cap' wr)/\Hid (Least (fun y=>P y\/qc1 C.u C.f n k y) x')/\Hid (Mv C.S C.T a w5 a' wr)) (fun i _=>m-(intOf i).toNat)
 case atStart=>exact⟨0,x,a,cap,Nat.zero_le _,rfl,Nq,HP.least.congr fun y=>⟨.inl,fun h=>h.resolve_right (Py _ _ _ _)⟩,Mv.refl _ _ _ _⟩
 case round=>
  obtain⟨k,x',a',cap',hk,rfl,HS,HL,HM⟩:=hrel;by_cases hkm:k<m
  ·have hc:=HKN.out k hkm;obtain⟨c,hcc⟩:∃c:Nat,(C.d.nd n).c k=c:=⟨((C.d.nd n).c k).toNat,by omega⟩;have hcn:c<n:=by omega
   have g0:=JG.out _ _ _ _ _ _ HS.out k c (by omega) hcc;have HV:Hid (Calls Tryz.prog 141 #[.pointer (some ⟨C.S,0,none⟩),.int .i64 (c:Int)] wr fun e w'=>e=.returned (.tuple #[])/\gB C (st++leaves C c) ins (fun y=>(P y\/qc1 C.u C.f n k y)\/iO C.u C.f c y) a' wr w'):=IH.out c hcn _ _ _ _ _ _ _ (HVK.out k c hkm hcc _ _ _ _ _ HS.out HL.out);have HE:Hid (st++leaves C c=st):=zC (Et.out k c hkm hcc) st;have HQk:Hid (∀y,((P y\/qc1 C.u C.f n k y)\/iO C.u C.f c y)↔(P y\/qc1 C.u C.f n (k+1) y)):=fun y=>by rw[Ho C.u C.f n k c hcc y,or_assoc]
   clear hc hcc;go_wp2_with (go_at_call 141;refine HV.mono ?_;rintro e w9 ⟨rfl,⟨x9,a9,rV,hs9,BF,BD⟩⟩;rw[HE.out] at hs9;have yR:Hid (SS C st ins x9 a9 rV w9):=hs9;have SG:Hid (Least (fun y=>(P y\/qc1 C.u C.f n k y)\/iO C.u C.f c y) x9):=BF;have JB:Hid (Mv C.S C.T a' wr a9 w9):=BD;clear hs9 BF BD);go_roundw
   case rel=>exact⟨k+1,x9,a9,rV,by omega,by go_num,yR,SG.congr HQk.out,HM.trans JB.out⟩
   case measure=>simp[intOf];omega
  ·obtain rfl:k=m:=by omega
   have Ed:=HS.Ed;have z:=HS.fz
   go_upto_region 8 with fail
   obtain⟨w6,hw6⟩:∃w6,w6=wr.setCell ⟨C.S,50,none⟩ (.int .i64 ((ins:Int)+1)):=⟨_,rfl⟩;have oP:Hid (SS C st (ins+1) x' a' cap' w6):=by
    show SS _ _ _ _ _ _ _;rw[hw6];have h:=HS.ins (ins+1)
    rwa [show(((ins+1:Nat)):Int)=(ins:Int)+1 by omega] at h
   have JD:Hid (Mv C.S C.T a w5 a' w6):=by show Mv _ _ _ _ _ _;rw[hw6];exact HM.set (p:=⟨C.S,50,none⟩) (.inl rfl) _
   rw[<-hw6];clear hw6 Ed z;have Em:=JD.has Jv.out HO.1 HO.2.1 HO.2.2;have y7:=Em.cell 7 rfl;have y6:=Em.cell 6 rfl;have gl:=JG.out _ _ _ _ _ _ oP.out k kl (by omega) HKL.out;clear Em
   go_region_with (go_at_call 165;refine(qc5 C kl IHl.out _ _ _ (C.d.nd n).r st (ins+1) x' a' cap' (fun y=>P y\/qc1 C.u C.f n k y) _ h2l.out hrn (by omega) (by first|exact oP.out|exact oP.drew) (jr.node HC.out (by first|exact oP.out|exact oP.drew) hn) HL.out (fun a' cap' w' hs=>HVl.out _ _ _ _ _ hs HL.out)).mono ?_;rintro e w7 ⟨rfl,⟨CQ,a7,qC,hs7,yK,iR⟩⟩;have Es:Hid (SS C st (ins+1) CQ a7 qC w7):=hs7;have JE:Hid (Least (fun y=>(P y\/qc1 C.u C.f n k y)\/iO C.u C.f kl y) CQ):=yK;have JC:Hid (Mv C.S C.T a' w6 a7 w7):=(by first|exact iR|exact(Mv.refl _ _ _ _).drew.trans iR);clear hs7 yK iR)
   all_goals
    have Ed:w7.cell? ⟨C.S,50,none⟩=some (.int .i64 ((ins:Int)+1)):=by
     have h:=Es.Ed
     rwa [show(((ins+1:Nat)):Int)=(ins:Int)+1 by omega] at h
    have z:=Es.fz;go_wp2_with fail;go_end0;exact⟨rfl,CQ,a7,qC,by rw[zC h2.out];exact Es.ins ins,JE.congr HQ,((SB.trans JD).trans JC).set (p:=⟨C.S,50,none⟩) (.inl rfl) _⟩
theorem yd0(k:Nat)(hk:k<39)(h:k≠1/\k≠2/\k≠6/\k≠7/\k≠8/\k≠9/\k≠10/\k≠12/\k≠26/\k≠27/\k≠36/\k≠37):zl k=130:=by
 rcases(show k=0\/k=1\/k=2\/k=3\/k=4\/k=5\/k=6\/k=7\/k=8\/k=9\/k=10\/k=11\/k=12\/k=13\/k=14\/k=15\/k=16\/k=17\/k=18\/k=19\/k=20\/k=21\/k=22\/k=23\/k=24\/k=25\/k=26\/k=27\/k=28\/k=29\/k=30\/k=31\/k=32\/k=33\/k=34\/k=35\/k=36\/k=37\/k=38 by omega) with rfl|rfl|rfl|rfl|rfl|rfl|rfl|rfl|rfl|rfl|rfl|rfl|rfl|rfl|rfl|rfl|rfl|rfl|rfl|rfl|rfl|rfl|rfl|rfl|rfl|rfl|rfl|rfl|rfl|rfl|rfl|rfl|rfl|rfl|rfl|rfl|rfl|rfl|rfl<;>first|rfl|omega
theorem zp6(C:CX)(hC:C.ok):∀n,n<C.d.nn->qh C n:=by
 intro n
 induction n using Nat.strongRecOn with
 |ind n ih=>
  intro hn;have ih':∀m,m<n->qh C m:=fun m hm=>ih m hm (by omega);refine y18 C hC n ?_;have hsh:=(hC.node hn).kind;by_cases k1:(C.d.nd n).k=1
  ·rw[k1];exact zo5 C hC n ih' k1
  by_cases k2:(C.d.nd n).k=2
  ·rw[k2];exact y46 C hC n ih' k2
  by_cases k6:(C.d.nd n).k=6
  ·rw[k6];exact P8 C hC n ih' (by omega)
  by_cases k7:(C.d.nd n).k=7
  ·rw[k7];exact P8 C hC n ih' (by omega)
  by_cases k8:(C.d.nd n).k=8
  ·rw[k8];exact P8 C hC n ih' (by omega)
  by_cases k12:(C.d.nd n).k=12
  ·rw[k12];exact y21 C hC n ih' k12
  by_cases k9:(C.d.nd n).k=9
  ·rw[k9];exact z82 C hC n (by omega)
  by_cases k10:(C.d.nd n).k=10
  ·rw[k10];exact z82 C hC n (by omega)
  by_cases k26:(C.d.nd n).k=26
  ·rw[k26];exact qz4 C hC n k26
  by_cases k27:(C.d.nd n).k=27
  ·rw[k27];exact yb2 C hC n k27
  by_cases Qm:(C.d.nd n).k=36
  ·rw[Qm];exact zm7 C hC n Qm
  by_cases k37:(C.d.nd n).k=37
  ·rw[k37];exact ZO C hC n k37
  rw[yd0 (C.d.nd n).k.toNat (by omega) (by omega)];exact Zt C hC n hn ih' ⟨k1,k2,k6,k7,k8,k12,k9,k10,k26,k27,Qm,k37⟩
abbrev sJ(K:Nat->Value)(T:Nat)(u:UD)(f:Nat)(ua:Option Addr)(uc:Nat)(fa:FA):Array Value:=#[.slice ua u.n uc,.int .i64 (f:Int),.string (u.fn f).name,.int .i64 (u.fn f).line,.int .i64 (u.fn f).params,.bool (u.fn f).rest,.slice fa.va (u.fn f).vn fa.vc,.slice fa.ua (u.fn f).un fa.uc,.slice fa.na (u.fn f).nn fa.nc,K 0,K 1,K 2,K 3,K 4,K 5,K 6,K 7,K 8,K 9,K 10,K 11,K 12,K 13,K 14,K 15,K 16,K 17,K 18,K 19,K 20,K 21,K 22,K 23,K 24,K 25,K 26,K 27,K 28,K 29,K 30,K 31,K 32,K 33,K 34,K 35,K 36,K 37,K 38,.slice none 0 0,.slice (some ⟨T,0,none⟩) (u.fn f).vn (u.fn f).vn,.int .i64 0,.int .i64 0,.int .i64 0,.int .i64 0]
theorem yd2(K:Nat->Value)(T:Nat)(u:UD)(f:Nat)(ua:Option Addr)(uc:Nat)(fa:FA)(k:Nat)(hk:k<39)(v:Value):(sJ K T u f ua uc fa).setIfInBounds (9+k) v=sJ (fun j=>if j=k then v else K j) T u f ua uc fa:=by
 rcases(show k=0\/k=1\/k=2\/k=3\/k=4\/k=5\/k=6\/k=7\/k=8\/k=9\/k=10\/k=11\/k=12\/k=13\/k=14\/k=15\/k=16\/k=17\/k=18\/k=19\/k=20\/k=21\/k=22\/k=23\/k=24\/k=25\/k=26\/k=27\/k=28\/k=29\/k=30\/k=31\/k=32\/k=33\/k=34\/k=35\/k=36\/k=37\/k=38 by omega) with rfl|rfl|rfl|rfl|rfl|rfl|rfl|rfl|rfl|rfl|rfl|rfl|rfl|rfl|rfl|rfl|rfl|rfl|rfl|rfl|rfl|rfl|rfl|rfl|rfl|rfl|rfl|rfl|rfl|rfl|rfl|rfl|rfl|rfl|rfl|rfl|rfl|rfl|rfl<;>rfl
theorem yj5(K:Nat->Value)(T:Nat)(u:UD)(f:Nat)(ua:Option Addr)(uc:Nat)(fa:FA)(k:Nat)(hk:k<39):(sJ K T u f ua uc fa)[9+k]?=some (K k):=by
 rcases(show k=0\/k=1\/k=2\/k=3\/k=4\/k=5\/k=6\/k=7\/k=8\/k=9\/k=10\/k=11\/k=12\/k=13\/k=14\/k=15\/k=16\/k=17\/k=18\/k=19\/k=20\/k=21\/k=22\/k=23\/k=24\/k=25\/k=26\/k=27\/k=28\/k=29\/k=30\/k=31\/k=32\/k=33\/k=34\/k=35\/k=36\/k=37\/k=38 by omega) with rfl|rfl|rfl|rfl|rfl|rfl|rfl|rfl|rfl|rfl|rfl|rfl|rfl|rfl|rfl|rfl|rfl|rfl|rfl|rfl|rfl|rfl|rfl|rfl|rfl|rfl|rfl|rfl|rfl|rfl|rfl|rfl|rfl|rfl|rfl|rfl|rfl|rfl|rfl<;>rfl
theorem z55{K K':Nat->Value}(h:∀j,j<39->K j=K' j)(T:Nat)(u:UD)(f:Nat)(ua:Option Addr)(uc:Nat)(fa:FA):sJ K T u f ua uc fa=sJ K' T u f ua uc fa:=by
 unfold sJ;rw[h 0 (by omega),h 1 (by omega),h 2 (by omega),h 3 (by omega),h 4 (by omega),h 5 (by omega),h 6 (by omega),h 7 (by omega),h 8 (by omega),h 9 (by omega),h 10 (by omega),h 11 (by omega),h 12 (by omega),h 13 (by omega),h 14 (by omega),h 15 (by omega),h 16 (by omega),h 17 (by omega),h 18 (by omega),h 19 (by omega),h 20 (by omega),h 21 (by omega),h 22 (by omega),h 23 (by omega),h 24 (by omega),h 25 (by omega),h 26 (by omega),h 27 (by omega),h 28 (by omega),h 29 (by omega),h 30 (by omega),h 31 (by omega),h 32 (by omega),h 33 (by omega),h 34 (by omega),h 35 (by omega),h 36 (by omega),h 37 (by omega),h 38 (by omega)]
def Bv(S k:Nat):Nat->Value:=fun j=>if j<k then cO S 130 else .nilFunc
theorem y44(S k:Nat)(j:Nat):(if j=k then cO S 130 else Bv S k j)=Bv S (k+1) j:=by
 unfold Bv;by_cases e:j=k
 ·rw[if_pos e,if_pos (by omega)]
 ·rw[if_neg e];by_cases c:j<k
  ·rw[if_pos c,if_pos (by omega)]
  ·rw[if_neg c,if_neg (by omega)]
end
section
open Go.RowKit
theorem z01(P:Program)(w:World)(a:Addr)(m:Mode)(fn:Fn)(first captured:Array Value):(store a (.func fn first captured) m).run P w=stored P w a (.func fn first captured) m:=run_store P w a _ m rfl
theorem Dw{w:World}{S:Nat}{A:Array Value}(h:OwnB w S A)(hA:A.size=54)(v0 v1 v2 v3 v4 v5 v6 v7 v8 v9 v10 v11:Value):OwnB ((((((((((((w.setCell ⟨S,10,none⟩ v0).setCell ⟨S,11,none⟩ v1).setCell ⟨S,15,none⟩ v2).setCell ⟨S,16,none⟩ v3).setCell ⟨S,17,none⟩ v4).setCell ⟨S,21,none⟩ v5).setCell ⟨S,18,none⟩ v6).setCell ⟨S,19,none⟩ v7).setCell ⟨S,35,none⟩ v8).setCell ⟨S,36,none⟩ v9).setCell ⟨S,45,none⟩ v10).setCell ⟨S,46,none⟩ v11) S ((((((((((((A.setIfInBounds 10 v0).setIfInBounds 11 v1).setIfInBounds 15 v2).setIfInBounds 16 v3).setIfInBounds 17 v4).setIfInBounds 21 v5).setIfInBounds 18 v6).setIfInBounds 19 v7).setIfInBounds 35 v8).setIfInBounds 36 v9).setIfInBounds 45 v10).setIfInBounds 46 v11):=((((((((((((h.set (o:=10) (by simp[hA]) v0).set (o:=11) (by simp[hA]) v1).set (o:=15) (by simp[hA]) v2).set (o:=16) (by simp[hA]) v3).set (o:=17) (by simp[hA]) v4).set (o:=21) (by simp[hA]) v5).set (o:=18) (by simp[hA]) v6).set (o:=19) (by simp[hA]) v7).set (o:=35) (by simp[hA]) v8).set (o:=36) (by simp[hA]) v9).set (o:=45) (by simp[hA]) v10).set (o:=46) (by simp[hA]) v11)
theorem y32(S T:Nat)(u:UD)(f:Nat)(ua:Option Addr)(uc:Nat)(fa:FA):((((((((((((sJ (Bv S 39) T u f ua uc fa).setIfInBounds 10 (cO S 131)).setIfInBounds 11 (cO S 132)).setIfInBounds 15 (cO S 133)).setIfInBounds 16 (cO S 133)).setIfInBounds 17 (cO S 133)).setIfInBounds 21 (cO S 134)).setIfInBounds 18 (cO S 135)).setIfInBounds 19 (cO S 135)).setIfInBounds 35 (cO S 136)).setIfInBounds 36 (cO S 137)).setIfInBounds 45 (cO S 138)).setIfInBounds 46 (cO S 139)=vM S T u f ua uc fa (.slice none 0 0) 0 jl:=by
 rw[z55 (K:=Bv S 39) (K':=fun _=>cO S 130) (fun j hj=>if_pos hj)]
 kernel_rfl
attribute [local go_sem] aN z01
attribute [local go_sem ↓] Go.wp_at_zero Go.wp_at_succ
theorem qr6(L:Nat)(u:UD)(f:Nat)(a:Option Addr)(cap:Nat)(fas:Nat->FA)(w:World)(hf:f<u.n)(hvn:(u.fn f).vn<=200)(hT:aZ L w u.n u.fn a fas):Calls Tryz.prog 82 #[pq u a cap,.int .i64 (f:Int)] w fun e w'=>∃S T,e=.returned (.pointer (some ⟨S,0,none⟩))/\SS ⟨S,T,L,w,u,f,a,cap,fas⟩ [] 0 jl none 0 w':=by
 have HT:Hid (aZ L w u.n u.fn a fas):=hT;have HF:Hid (f<u.n):=hf;obtain⟨b,off,e0,_,hb,d0,d1,d2,d3,d4,d5,d6⟩:=dQ hT.1 hf;subst e0;clear hT;have hmk:=fun v=>run_make_row' (P:=Tryz.prog) 45 3 (.int .i64 0) 8 Tryz.underlying45 z17 rfl .i64 .i64 (u.fn f).vn (by omega) (by omega) v;go_in
 go_upto_region 1 with fail
 have Ci:Hid (∀w',Below (w.alloc (.cells #[.slice (some ⟨b,off,none⟩) u.n cap] 31)).heap.size (w.alloc (.cells #[.slice (some ⟨b,off,none⟩) u.n cap] 31)) w'->w'.cell? ⟨w.heap.size,0,none⟩=some (.slice (some ⟨b,off,none⟩) u.n cap)/\w'.cell? ⟨b,off+f*7,none⟩=some (.string (u.fn f).name)/\w'.cell? ⟨b,off+f*7+1,none⟩=some (.int .i64 (u.fn f).line)/\w'.cell? ⟨b,off+f*7+2,none⟩=some (.int .i64 (u.fn f).params)/\w'.cell? ⟨b,off+f*7+3,none⟩=some (.bool (u.fn f).rest)/\w'.cell? ⟨b,off+f*7+4,none⟩=some (.slice (fas f).va (u.fn f).vn (fas f).vc)/\w'.cell? ⟨b,off+f*7+5,none⟩=some (.slice (fas f).ua (u.fn f).un (fas f).uc)/\w'.cell? ⟨b,off+f*7+6,none⟩=some (.slice (fas f).na (u.fn f).nn (fas f).nc)):=fun w' hw=>by
  obtain⟨b',off',e1,_,_,h⟩:=dQ (HT.below (aH (q01 _ _) hw)).1 HF.out
  cases e1;exact⟨(Has.made hw).cell 0 rfl,h⟩
 refine wp_region_held_drew (S:=fun w'=>w'.cell? ⟨w.heap.size,0,none⟩=some (.slice (some ⟨b,off,none⟩) u.n cap)/\w'.cell? ⟨b,off+f*7,none⟩=some (.string (u.fn f).name)/\w'.cell? ⟨b,off+f*7+1,none⟩=some (.int .i64 (u.fn f).line)/\w'.cell? ⟨b,off+f*7+2,none⟩=some (.int .i64 (u.fn f).params)/\w'.cell? ⟨b,off+f*7+3,none⟩=some (.bool (u.fn f).rest)/\w'.cell? ⟨b,off+f*7+4,none⟩=some (.slice (fas f).va (u.fn f).vn (fas f).vc)/\w'.cell? ⟨b,off+f*7+5,none⟩=some (.slice (fas f).ua (u.fn f).un (fas f).uc)/\w'.cell? ⟨b,off+f*7+6,none⟩=some (.slice (fas f).na (u.fn f).nn (fas f).nc)) (by kernel_rfl) (Ci.out _ (Below.refl _ _).drew) (fun ak=>?_);refine wpAnyH_take (i:=0) (oi:=⟨some 7,_,_,_,_,_⟩) (v:=?v1) rfl (by kernel_rfl) (by kernel_rfl) (by kernel_rfl) (fun _ _ _ h=>h) (Or.inl ⟨by rfl,?hy1⟩) (by assumption) ?mV
 case hy1=>(intro wz hSw;(try dsimp only at hSw);go_simp<;>with_reducible rfl)
 try simp only[Act.put,aG,aF,aA]
 refine wpAnyH_take (i:=1) (oi:=⟨some 8,_,_,_,_,_⟩) (v:=?v2) rfl (by kernel_rfl) (by kernel_rfl) (by kernel_rfl) (fun _ _ _ h=>h) (Or.inl ⟨by rfl,?hy2⟩) (by assumption) ?mQ
 case hy2=>(intro wz hSw;(try dsimp only at hSw);go_simp<;>with_reducible rfl)
 try simp only[Act.put,aG,aF,aA]
 refine wpAnyH_take (i:=2) (oi:=⟨some 9,_,_,_,_,_⟩) (v:=?v3) rfl (by kernel_rfl) (by kernel_rfl) (by kernel_rfl) (fun _ _ _ h=>h) (Or.inl ⟨by rfl,?hy3⟩) (by assumption) ?mP
 case hy3=>(intro wz hSw;(try dsimp only at hSw);go_simp<;>with_reducible rfl)
 try simp only[Act.put,aG,aF,aA]
 refine wpAnyH_take (i:=3) (oi:=⟨some 10,_,_,_,_,_⟩) (v:=?v4) rfl (by kernel_rfl) (by kernel_rfl) (by kernel_rfl) (fun _ _ _ h=>h) (Or.inl ⟨by rfl,?hy4⟩) (by assumption) ?mO
 case hy4=>(intro wz hSw;(try dsimp only at hSw);go_simp<;>with_reducible rfl)
 try simp only[Act.put,aG,aF,aA]
 refine wpAnyH_take (i:=4) (oi:=⟨some 11,_,_,_,_,_⟩) (v:=?v5) rfl (by kernel_rfl) (by kernel_rfl) (by kernel_rfl) (fun _ _ _ h=>h) (Or.inl ⟨by rfl,?uw⟩) (by assumption) ?mM
 case uw=>(intro wz hSw;(try dsimp only at hSw);go_simp<;>with_reducible rfl)
 try simp only[Act.put,aG,aF,aA]
 refine wpAnyH_take (i:=5) (oi:=⟨some 12,_,_,_,_,_⟩) (v:=?v6) rfl (by kernel_rfl) (by kernel_rfl) (by kernel_rfl) (fun _ _ _ h=>h) (Or.inl ⟨by rfl,?wL⟩) (by assumption) ?pY
 case wL=>(intro wz hSw;(try dsimp only at hSw);go_simp<;>with_reducible rfl)
 try simp only[Act.put,aG,aF,aA]
 refine wpAnyH_take (i:=6) (oi:=⟨some 13,_,_,_,_,_⟩) (v:=?v7) rfl (by kernel_rfl) (by kernel_rfl) (by kernel_rfl) (fun _ _ _ h=>h) (Or.inl ⟨by rfl,?qw⟩) (by assumption) ?mJ
 case qw=>(intro wz hSw;(try dsimp only at hSw);go_simp<;>with_reducible rfl)
 try simp only[Act.put,aG,aF,aA]
 refine wpAnyH_take (i:=7) (oi:=⟨some 14,_,_,_,_,_⟩) (v:=?v8) rfl (by kernel_rfl) (by kernel_rfl) (by kernel_rfl) (fun _ _ _ h=>h) (Or.inl ⟨by rfl,?rJ⟩) (by assumption) ?kM
 case rJ=>(intro wz hSw;(try dsimp only at hSw);go_simp<;>with_reducible rfl)
 try simp only[Act.put,aG,aF,aA]
 refine wpAnyH_take (i:=8) (oi:=⟨some 15,_,_,_,_,_⟩) (v:=?v9) rfl (by kernel_rfl) (by kernel_rfl) (by kernel_rfl) (fun _ _ _ h=>h) (Or.inl ⟨by rfl,?wK⟩) (by assumption) ?pX
 case wK=>(intro wz hSw;(try dsimp only at hSw);go_simp<;>with_reducible rfl)
 try simp only[Act.put,aG,aF,aA]
 refine wpAnyH_take (i:=9) (oi:=⟨some 16,_,_,_,_,_⟩) (v:=?v10) rfl (by kernel_rfl) (by kernel_rfl) (by kernel_rfl) (fun _ _ _ h=>h) (Or.inl ⟨by rfl,?oG⟩) (by assumption) ?o9
 case oG=>(intro wz hSw;(try dsimp only at hSw);go_simp<;>with_reducible rfl)
 try simp only[Act.put,aG,aF,aA]
 refine wpAnyH_take (i:=10) (oi:=⟨some 17,_,_,_,_,_⟩) (v:=?v11) rfl (by kernel_rfl) (by kernel_rfl) (by kernel_rfl) (fun _ _ _ h=>h) (Or.inl ⟨by rfl,?oD⟩) (by assumption) ?o8
 case oD=>(intro wz hSw;(try dsimp only at hSw);go_simp<;>with_reducible rfl)
 try simp only[Act.put,aG,aF,aA]
 refine wpAnyH_take (i:=11) (oi:=⟨some 18,_,_,_,_,_⟩) (v:=?v12) rfl (by kernel_rfl) (by kernel_rfl) (by kernel_rfl) (fun _ _ _ h=>h) (Or.inl ⟨by rfl,?oC⟩) (by assumption) ?o7
 case oC=>(intro wz hSw;(try dsimp only at hSw);go_simp<;>with_reducible rfl)
 try simp only[Act.put,aG,aF,aA]
 refine wpAnyH_take (i:=12) (oi:=⟨some 19,_,_,_,_,_⟩) (v:=?v13) rfl (by kernel_rfl) (by kernel_rfl) (by kernel_rfl) (fun _ _ _ h=>h) (Or.inl ⟨by rfl,?oz⟩) (by assumption) ?nZ
 case oz=>(intro wz hSw;(try dsimp only at hSw);go_simp<;>with_reducible rfl)
 try simp only[Act.put,aG,aF,aA]
 refine wpAnyH_take (i:=13) (oi:=⟨some 20,_,_,_,_,_⟩) (v:=?v14) rfl (by kernel_rfl) (by kernel_rfl) (by kernel_rfl) (fun _ _ _ h=>h) (Or.inl ⟨by rfl,?ou⟩) (by assumption) ?nY
 case ou=>(intro wz hSw;(try dsimp only at hSw);go_simp<;>with_reducible rfl)
 try simp only[Act.put,aG,aF,aA]
 refine wpAnyH_ready (rs:=[14]) (by kernel_rfl) (by simp) ?_;refine AllReadyH.cons (o:=⟨some 21,_,_,_,_,_⟩) rfl (fun K hK=>?_) AllReadyH.nil;go_simp;refine hK.out _ _ (Ci _ ((q01 _ _).drew)) (fun hHeld=>?_);clear hK K ak;have ak:=hHeld;clear hHeld hmk;refine wpAnyH_take (i:=15) (oi:=⟨some 22,_,_,_,_,_⟩) (v:=?v16) rfl (by kernel_rfl) (by kernel_rfl) (by kernel_rfl) (fun _ _ _ h=>h) (Or.inl ⟨by rfl,?rO⟩) (by assumption) ?rC
 case rO=>(intro wz hSw;(try dsimp only at hSw);go_simp<;>with_reducible rfl)
 try simp only[Act.put,aG,aF,aA]
 refine wpAnyH_ready (rs:=[16]) (by kernel_rfl) (by simp) ?_;refine AllReadyH.cons (o:=⟨some 23,_,_,_,_,_⟩) rfl (fun K hK=>?_) AllReadyH.nil;go_simp;refine hK.out _ _ (Ci.out _ (((q01 _ _).alloc (by simp) _).drew)) (fun hHeld=>?_);clear hK K ak;have ak:=hHeld;clear hHeld;refine wpAnyH_take (i:=17) (oi:=⟨some 5,_,_,_,_,_⟩) (v:=?v18) rfl (by kernel_rfl) (by kernel_rfl) (by kernel_rfl) (fun _ _ _ h=>h) (Or.inl ⟨by rfl,?rM⟩) (by assumption) ?ru
 case rM=>(intro wz hSw;(try dsimp only at hSw);go_simp<;>with_reducible rfl)
 try simp only[Act.put,aG,aF,aA]
 refine wpAnyH_done (by kernel_rfl) ?_ _;obtain⟨w1,hw1⟩:∃w1,w1=(((w.alloc (.cells #[.slice (some ⟨b,off,none⟩) u.n cap] 31)).alloc (.cells (madeCells #[.int .i64 0] (u.fn f).vn) 3)).alloc (.cells (sJ (fun _=>.nilFunc) (w.heap.size+1) u f (some ⟨b,off,none⟩) cap (fas f)) 215)).drew:=⟨_,rfl⟩;have iI:Hid (OwnB w1 (w.heap.size+1 + 1) (sJ (Bv (w.heap.size+1 + 1) 0) (w.heap.size+1) u f (some ⟨b,off,none⟩) cap (fas f))):=by
  show OwnB _ _ _;have h:=OwnB.new ((w.alloc (.cells #[.slice (some ⟨b,off,none⟩) u.n cap] 31)).alloc (.cells (madeCells #[.int .i64 0] (u.fn f).vn) 3)) (sJ (fun _=>.nilFunc) (w.heap.size+1) u f (some ⟨b,off,none⟩) cap (fas f)) 215;rw[show((w.alloc (.cells #[.slice (some ⟨b,off,none⟩) u.n cap] 31)).alloc (.cells (madeCells #[.int .i64 0] (u.fn f).vn) 3)).heap.size=w.heap.size+1 + 1 by simp] at h;rw[hw1];exact h
 have HR1:Hid (eX w1 (w.heap.size+1) (u.fn f).vn (cnt [])):=by
  have h:=(GH (w.alloc (.cells #[.slice (some ⟨b,off,none⟩) u.n cap] 31)) (.int .i64 0) 3 (n:=(u.fn f).vn) (b:=w.heap.size+1) (by simp)).alloc (.cells (sJ (fun _=>.nilFunc) (w.heap.size+1) u f (some ⟨b,off,none⟩) cap (fas f)) 215);rw[hw1];exact h
 have HB1:Hid (ah w w1):=by show Below _ _ _;rw[hw1];exact(yG _ _ _ _).drew
 simp only[sJ] at hw1;rw[<-hw1];clear hw1 ak d0 d1 d2 d3 d4 d5 d6 Ci;have hmf:∀(fn:Fn) (first cap:Array Value) (w:World),(Instr.makeFunc fn first cap).run Tryz.prog w=.ok (.func fn first cap) w:=fun _ _ _ _=>rfl;go_wp2_with fail
 go_loopw [24] (fun i wr=>∃(k:Nat),k<=39/\i=.int .i64 k/\Hid (OwnB wr (w.heap.size+1 + 1) (sJ (Bv (w.heap.size+1 + 1) k) (w.heap.size+1) u f (some ⟨b,off,none⟩) cap (fas f)))/\Hid (jy (w.heap.size+1 + 1) w1 wr)) (fun i _=>39-(intOf i).toNat)
 case atStart=>exact⟨0,Nat.zero_le _,rfl,iI,jy.refl _ _⟩
 case round=>
  clear iI;obtain⟨k,hk,rfl,HO,Nl⟩:=hrel;by_cases hkn:k<39
  ·have g0:=HO.1.cell (9+k) (yj5 _ _ _ _ _ _ _ k hkn);have z:=HO.2;have Cj:Hid (OwnB (wr.setCell ⟨w.heap.size+1 + 1,9+k,none⟩ (cO (w.heap.size+1 + 1) 130)) (w.heap.size+1 + 1) (sJ (Bv (w.heap.size+1 + 1) (k+1)) (w.heap.size+1) u f (some ⟨b,off,none⟩) cap (fas f))):=by
    have h:=HO.set (o:=9+k) (by show 9+k<54;omega) (cO (w.heap.size+1 + 1) 130);rw[yd2 _ _ _ _ _ _ _ k hkn,z55 (fun j _=>y44 (w.heap.size+1 + 1) k j)] at h;exact h
   go_wp2_with fail;go_roundw
   case rel=>exact⟨k+1,by omega,by go_num,Cj,Nl.set _ _⟩
   case measure=>simp[intOf];omega
  ·obtain rfl:k=39:=by omega
   have z:=HO.2;have q1:=HO.1.cell 10 rfl;have q2:=HO.1.cell 11 rfl;have q6:=HO.1.cell 15 rfl;have q7:=HO.1.cell 16 rfl;have q8:=HO.1.cell 17 rfl;have q12:=HO.1.cell 21 rfl;have q9:=HO.1.cell 18 rfl;have q10:=HO.1.cell 19 rfl;have q26:=HO.1.cell 35 rfl;have q27:=HO.1.cell 36 rfl;have Xk:=HO.1.cell 45 rfl;have q37:=HO.1.cell 46 rfl;go_wp2_with fail;go_ret;have uI:=((((((((((((Nl.set 10 (cO (w.heap.size+1 + 1) 131)).set 11 (cO (w.heap.size+1 + 1) 132)).set 15 (cO (w.heap.size+1 + 1) 133)).set 16 (cO (w.heap.size+1 + 1) 133)).set 17 (cO (w.heap.size+1 + 1) 133)).set 21 (cO (w.heap.size+1 + 1) 134)).set 18 (cO (w.heap.size+1 + 1) 135)).set 19 (cO (w.heap.size+1 + 1) 135)).set 35 (cO (w.heap.size+1 + 1) 136)).set 36 (cO (w.heap.size+1 + 1) 137)).set 45 (cO (w.heap.size+1 + 1) 138)).set 46 (cO (w.heap.size+1 + 1) 139));refine⟨w.heap.size+1 + 1,w.heap.size+1,rfl,?_,World.rowIs.of_block HR1.out (uI.block (w.heap.size+1) (by omega)),World.ownsRow_nil _ _ _ _,(fun v hv=>absurd hv (by simp)),by show w.heap.size+1 + 1≠w.heap.size+1;omega,(fun e=>by cases e),(fun e=>by cases e),by show w.heap.size<=w.heap.size+1 + 1;omega,by show w.heap.size<=w.heap.size+1;omega,?_⟩
   ·have h:=Dw HO.out rfl (cO (w.heap.size+1 + 1) 131) (cO (w.heap.size+1 + 1) 132) (cO (w.heap.size+1 + 1) 133) (cO (w.heap.size+1 + 1) 133) (cO (w.heap.size+1 + 1) 133) (cO (w.heap.size+1 + 1) 134) (cO (w.heap.size+1 + 1) 135) (cO (w.heap.size+1 + 1) 135) (cO (w.heap.size+1 + 1) 136) (cO (w.heap.size+1 + 1) 137) (cO (w.heap.size+1 + 1) 138) (cO (w.heap.size+1 + 1) 139);rw[y32] at h;exact h
   ·exact HB1.trans ⟨uI.same.1,uI.same.2.1,uI.same.2.2,by rw[uI.size];exact Nat.le_refl _,fun k hk=>uI.block k (by omega)⟩
end
section
open Go.RowKit
attribute [local go_sem] aN
attribute [local go_sem ↓] Go.wp_at_zero Go.wp_at_succ
def rZ(d:FD)(m b:Nat):Prop:=¬(fO ((d.nd m).r b) d.vn/\¬jH d m b ((d.nd m).r b))
def uP(u:UD)(f m j:Nat)(y:FT):Prop:=(∃x,x<m/\CB u f x y)\/(y=⟨6,f,m⟩/\mW ((u.fn f).nd m).k/\∃b,b<j/\rZ (u.fn f) m b)
theorem zm5(u:UD)(f:Nat)(y:FT):¬uP u f 0 0 y:=by
 rintro(⟨x,h,_⟩|⟨_,_,b,h,_⟩)<;>omega
theorem z61{u:UD}{f m j:Nat}(hd:mW ((u.fn f).nd m).k)(hb:rZ (u.fn f) m j)(y:FT):uP u f m (j+1) y↔uP u f m j y\/y=⟨6,f,m⟩:=by
 constructor
 ·rintro(h|⟨h,_⟩)
  ·exact .inl (.inl h)
  ·exact .inr h
 ·rintro((h|⟨h1,h2,b,h3,h4⟩)|h)
  ·exact .inl h
  ·exact .inr ⟨h1,h2,b,by omega,h4⟩
  ·exact .inr ⟨h,hd,j,by omega,hb⟩
theorem y42{u:UD}{f m j:Nat}(hb:¬rZ (u.fn f) m j)(y:FT):uP u f m (j+1) y↔uP u f m j y:=by
 constructor
 ·rintro(h|⟨h1,h2,b,h3,h4⟩)
  ·exact .inl h
  ·by_cases e:b=j
   ·subst e;exact absurd h4 hb
   ·exact .inr ⟨h1,h2,b,by omega,h4⟩
 ·rintro(h|⟨h1,h2,b,h3,h4⟩)
  ·exact .inl h
  ·exact .inr ⟨h1,h2,b,by omega,h4⟩
theorem z62{u:UD}{f m:Nat}(y:FT):CB u f m y↔(y=⟨6,f,m⟩/\mW ((u.fn f).nd m).k/\∃b,b<((u.fn f).nd m).rn/\rZ (u.fn f) m b):=by
 constructor
 ·rintro⟨h1,h2,h3,h4,b,h5,h6⟩;exact⟨FT.ext h1 h2 h3,h4,b,h5,h6⟩
 ·rintro⟨rfl,h4,b,h5,h6⟩;exact⟨rfl,rfl,rfl,h4,b,h5,h6⟩
theorem zm6{u:UD}{f m:Nat}(y:FT):uP u f m ((u.fn f).nd m).rn y↔uP u f (m+1) 0 y:=by
 constructor
 ·rintro(⟨x,h,h'⟩|h)
  ·exact .inl ⟨x,by omega,h'⟩
  ·exact .inl ⟨m,by omega,(z62 y).2 h⟩
 ·rintro(⟨x,h,h'⟩|⟨_,_,b,h,_⟩)
  ·by_cases e:x=m
   ·subst e;exact .inr ((z62 y).1 h')
   ·exact .inl ⟨x,by omega,h'⟩
  ·omega
theorem zc6{u:UD}{f m:Nat}(hd:¬mW ((u.fn f).nd m).k)(y:FT):uP u f m 0 y↔uP u f (m+1) 0 y:=by
 constructor
 ·rintro(⟨x,h,h'⟩|⟨_,_,b,h,_⟩)
  ·exact .inl ⟨x,by omega,h'⟩
  ·omega
 ·rintro(⟨x,h,h'⟩|⟨_,_,b,h,_⟩)
  ·by_cases e:x=m
   ·subst e;exact absurd h'.2.2.2.1 hd
   ·exact .inl ⟨x,by omega,h'⟩
  ·omega
theorem Zx{u:UD}{f n:Nat}(y:FT):uP u f n 0 y↔∃x,x<n/\CB u f x y:=by
 constructor
 ·rintro(h|⟨_,_,b,h,_⟩)
  ·exact h
  ·omega
 ·exact .inl
noncomputable def Jb(k:Int):Bool:=dB (mW k)
theorem yo8(k:Int):setB 4484 k=Jb k:=by
 have h:=zA 4484 (by decide) (fun k=>k==2 || k==7 || k==8 || k==12) (by decide) (fun k h=>by simp at h;omega) k;rw[h];unfold Jb;by_cases c:mW k
 ·rw[jI c];unfold mW at c;simp;omega
 ·rw[iP c];unfold mW at c;simp;omega
theorem SS.far{C:CX}{st:List Int}{ins:Nat}{x:FT}{a:Option Addr}{cap:Nat}{w:World}(h:SS C st ins x a cap w){B:Nat}(h0:C.w0.heap.size<=B)(h1:B≠C.S)(h2:B≠C.T)(h3:aj a≠some B)(o:Nat)(v:Value):SS C st ins x a cap (w.setCell ⟨B,o,none⟩ v):=by
 have hk:∀k,k≠B->(w.setCell ⟨B,o,none⟩ v).heap[k]?=w.heap[k]?:=fun k hk=>Below.heap_setCell w ⟨B,o,none⟩ v k hk;exact⟨h.box.block (by simp) (hk _ (Ne.symm h1)),World.rowIs.of_block h.tm (hk _ (Ne.symm h2)),Xa h.sk (fun k e=>hk k (fun c=>h3 (c ▸ e))),h.rg,h.sT,h.sa,h.ta,h.nS,h.nT,iT h.b h0 _⟩
theorem Mv.new{S T:Nat}{a a':Option Addr}{w w':World}(h:Mv S T a w a' w'){B:Nat}(hB:w.heap.size<=B)(o:Nat)(v:Value):Mv S T a w a' (w'.setCell ⟨B,o,none⟩ v):=
 ⟨⟨h.kp.os,h.kp.tape,h.kp.output,by have:=h.kp.size;simpa using this,fun k hk h1 h2 h3=>(Below.heap_setCell w' ⟨B,o,none⟩ v k (by show k≠B;omega)).trans (h.kp.block k hk h1 h2 h3)⟩,h.nw⟩
theorem SS.c6{C:CX}{st:List Int}{ins:Nat}{x:FT}{a:Option Addr}{cap:Nat}{w:World}(h:SS C st ins x a cap w):w.cell? ⟨C.S,6,none⟩=some (.slice C.fa.va C.d.vn C.fa.vc):=h.box.1.cell 6 rfl
theorem SS.c4{C:CX}{st:List Int}{ins:Nat}{x:FT}{a:Option Addr}{cap:Nat}{w:World}(h:SS C st ins x a cap w):w.cell? ⟨C.S,4,none⟩=some (.int .i64 C.d.params):=h.box.1.cell 4 rfl
structure DT(C:CX)(st:List Int)(ins:Nat)(D m j:Nat)(x:FT)(a:Option Addr)(cap:Nat)(w:World):Prop where
 ss:SS C st ins x a cap w
 row:eH w D C.d m j
 far:D≠C.S/\D≠C.T/\aj a≠some D
 ge:C.w0.heap.size<=D
 lt:D<w.heap.size
theorem DT.alloc{C:CX}{st:List Int}{ins:Nat}{D m j:Nat}{x:FT}{a:Option Addr}{cap:Nat}{w:World}(h:DT C st ins D m j x a cap w)(o:Obj):DT C st ins D m j x a cap (w.alloc o):=⟨h.ss.alloc o,h.row.below (q01 _ _),h.far,h.ge,by have:=h.lt;simp;omega⟩
theorem DT.note{C:CX}{st:List Int}{ins:Nat}{D m j:Nat}{x:FT}{a:Option Addr}{cap:Nat}{w:World}(h:DT C st ins D m j x a cap w){x':FT}{w':World}(hn:GL C st ins x' a cap w w'):DT C st ins D m j x' a cap w':=
 ⟨hn.1,World.rowIs.of_block h.row (hn.2.kp.block D h.lt h.far.1 h.far.2.1 h.far.2.2),h.far,h.ge,Nat.lt_of_lt_of_le h.lt hn.2.kp.size⟩
theorem DT.same{C:CX}{st:List Int}{ins:Nat}{D m j m' j':Nat}{x:FT}{a:Option Addr}{cap:Nat}{w:World}(h:DT C st ins D m j x a cap w)(e:∀v:Nat,jH C.d m j v↔jH C.d m' j' v):DT C st ins D m' j' x a cap w:=⟨h.ss,h.row.congr e,h.far,h.ge,h.lt⟩
theorem DT.set{C:CX}{st:List Int}{ins:Nat}{D m j:Nat}{x:FT}{a:Option Addr}{cap:Nat}{w:World}(h:DT C st ins D m j x a cap w){y:Nat}(hy:(C.d.nd m).r j=y):DT C st ins D m (j+1) x a cap (w.setCell ⟨D,y,none⟩ (.bool true)):=⟨h.ss.far h.ge h.far.1 h.far.2.1 h.far.2.2 _ _,h.row.set hy,h.far,h.ge,by have:=h.lt;simpa using this⟩
theorem DT.skip{C:CX}{st:List Int}{ins:Nat}{D m j:Nat}{x:FT}{a:Option Addr}{cap:Nat}{w:World}(h:DT C st ins D m j x a cap w)(e:∀v:Nat,v<C.d.vn->(C.d.nd m).r j=v->jH C.d m j v):DT C st ins D m (j+1) x a cap w:=⟨h.ss,World.rowIs.congr h.row fun i hi=>by
 have h1:jH C.d m (j+1) i↔jH C.d m j i:=by
  rw[iC];exact⟨fun h=>h.elim id (e i hi),.inl⟩
 by_cases c:jH C.d m j i
 ·rw[jI c,jI (h1.2 c)]
 ·rw[iP c,iP (fun c'=>c (h1.1 c'))],h.far,h.ge,h.lt⟩
theorem qg7(C:CX)(hC:C.ok)(hvn:C.d.vn<=200)(hpp:0<=C.d.params/\C.d.params<=C.d.vn)(st:List Int)(ins:Nat)(x:FT)(a:Option Addr)(cap:Nat)(P:FT->Prop)(w:World)(hS:SS C st ins x a cap w)(hL:Least P x):Calls Tryz.prog 142 #[.pointer (some ⟨C.S,0,none⟩)] w fun e w'=>e=.returned (.tuple #[])/\gB C st ins (fun y=>P y\/∃z,z<C.d.nn/\CB C.u C.f z y) a w w':=by
 have HS:Hid (SS C st ins x a cap w):=hS;have HL:Hid (Least P x):=hL;have HC:Hid C.ok:=hC;have hnn:=hC.nn;obtain⟨p,hp⟩:∃p:Nat,C.d.params=p:=⟨C.d.params.toNat,by omega⟩;have hpn:p<=C.d.vn:=by omega
 have Sr:Hid (C.d.params=p):=hp;have c6:=hS.c6;have c4:=hS.c4;have c8:=hS.c8;have hlt:=hS.lt;rw[hp] at c4;obtain⟨o1,o2,o3⟩:=hS.other (Nat.le_refl w.heap.size);have HO:Hid (w.heap.size≠C.S/\w.heap.size≠C.T/\aj a≠some w.heap.size):=⟨o1,o2,o3⟩;have hge:C.w0.heap.size<=w.heap.size:=hS.b.size;clear hS hL hC hp hpp o1 o2 o3;have hmk:=fun v=>run_make_row' (P:=Tryz.prog) 217 4 (.bool false) 1 Tryz.underlying217 Ug rfl .i64 .i64 C.d.vn (by omega) (by omega) v;go_in;go_wp2_with fail;clear hmk;obtain⟨w1,hw1⟩:∃w1,w1=w.alloc (.cells (madeCells #[.bool false] C.d.vn) 4):=⟨_,rfl⟩;have fP:Hid (SS C st ins x a cap w1):=by show SS _ _ _ _ _ _ _;rw[hw1];exact HS.alloc _
 have uK:Hid (Mv C.S C.T a w a w1):=by show Mv _ _ _ _ _ _;rw[hw1];exact(Mv.refl _ _ _ _).alloc _
 have HR1:Hid (w1.rowIs w.heap.size 4 C.d.vn (fun i=>.bool (decide (i<0)))):=by
  show World.rowIs _ _ _ _ _;rw[hw1];exact GH w (.bool false) 4 rfl
 rw[<-hw1];clear hw1 c6 c4 c8 hlt
 go_loopw [20] (fun i wr=>∃(k:Nat),k<=p/\i=.int .i64 k/\Hid (SS C st ins x a cap wr)/\Hid (wr.rowIs w.heap.size 4 C.d.vn (fun i=>.bool (decide (i<k))))/\Hid (Mv C.S C.T a w a wr)) (fun i _=>p-(intOf i).toNat)
 case atStart=>exact⟨0,Nat.zero_le _,rfl,fP,HR1,uK⟩
 case round=>
  clear fP HR1 uK;obtain⟨k,hk,rfl,pO,HRk,Fz⟩:=hrel;by_cases hkp:k<p
  ·have r0:=World.rowIs.cell HRk.out (i:=k) (by omega);have rz:=World.rowIs.frozen HRk.out;have HR2:Hid ((wr.setCell ⟨w.heap.size,k,none⟩ (.bool true)).rowIs w.heap.size 4 C.d.vn (fun i=>.bool (decide (i<k+1)))):=(World.rowIs.set HRk.out k _).congr fun i _=>by
    by_cases e:i=k
    ·subst e;rw[if_pos rfl,decide_eq_true (by omega)]
    ·rw[if_neg e];by_cases c:i<k
     ·rw[decide_eq_true c,decide_eq_true (by omega)]
     ·rw[decide_eq_false c,decide_eq_false (by omega)]
   have HS2:Hid (SS C st ins x a cap (wr.setCell ⟨w.heap.size,k,none⟩ (.bool true))):=pO.far hge HO.1 HO.2.1 HO.2.2 _ _;have nR:Hid (Mv C.S C.T a w a (wr.setCell ⟨w.heap.size,k,none⟩ (.bool true))):=Fz.new (Nat.le_refl _) _ _;go_wp2_with fail;go_roundw
   case rel=>exact⟨k+1,by omega,by go_num,HS2,HR2,nR⟩
   case measure=>simp[intOf];omega
  ·obtain rfl:k=p:=by omega
   have HD1:Hid (DT C st ins w.heap.size 0 0 x a cap wr):=⟨pO.out,World.rowIs.congr HRk.out fun i _=>by
    have h:=zl5 Sr.out i;by_cases c:i<k
    ·rw[decide_eq_true c,jI (h.1 c)]
    ·rw[decide_eq_false c,iP (fun h'=>c (h.2 h'))],HO.out,hge,World.rowIs.lt HRk.out⟩
   have c8:=pO.c8;clear pO HRk;have YD:=Fz;go_wp2_with fail;clear c8 Fz
   go_loopw [33] (fun i wr=>∃(m:Nat) (x':FT),m<=C.d.nn/\i=.int .i64 m/\Hid (DT C st ins w.heap.size m 0 x' a cap wr)/\Hid (Least (fun y=>P y\/uP C.u C.f m 0 y) x')/\Hid (Mv C.S C.T a w a wr)) (fun i _=>C.d.nn-(intOf i).toNat)
   case atStart=>exact⟨0,x,Nat.zero_le _,rfl,HD1,HL.congr fun y=>⟨.inl,fun h=>h.resolve_right (zm5 _ _ _)⟩,YD⟩
   case round=>
    clear HD1 YD;obtain⟨m,x',hm,rfl,HD,Nw,HM⟩:=hrel;by_cases hmn:m<C.d.nn
    ·obtain⟨b,off,e0,_,hb,d0,d1,d2,d3,d4,d5,d6,d7⟩:=dK ((HD.ss.fns HC.out).2 C.f HC.f).2.2.1 hmn;rw[show C.fas C.f=C.fa from rfl] at e0;rw[e0];have hset:setB 4484 ((C.u.fn C.f).nd m).k=Jb ((C.u.fn C.f).nd m).k:=yo8 _;have hrn:=HC.rn hmn;obtain⟨b2,o2,e2⟩:∃b2 o2,0<(C.d.nd m).rn->(C.fa.nas m).ra=some ⟨b2,o2,none⟩:=by
      by_cases c:0<(C.d.nd m).rn
      ·obtain⟨b2,o2,e2,_⟩:=(((HD.ss.fns HC.out).2 C.f HC.f).2.2.2 m hmn).1 c;exact⟨b2,o2,fun _=>e2⟩
      ·exact⟨0,0,fun h=>absurd h c⟩
     have HE2:Hid (0<(C.d.nd m).rn->(C.fa.nas m).ra=some ⟨b2,o2,none⟩):=e2;have HD2:Hid (DT C st ins w.heap.size m 0 x' a cap (wr.alloc (.cells (dJ ((C.u.fn C.f).nd m) ((C.fas C.f).nas m)) 98))):=HD.alloc _;have nR:Hid (Mv C.S C.T a w a (wr.alloc (.cells (dJ ((C.u.fn C.f).nd m) ((C.fas C.f).nas m)) 98))):=HM.alloc _;clear e2
     rename World=>wa
     by_cases hdk:mW ((C.u.fn C.f).nd m).k
     ·rw[show Jb ((C.u.fn C.f).nd m).k=true from jI hdk] at hset;have HDK:Hid (mW ((C.u.fn C.f).nd m).k):=hdk;clear hdk e0;go_wp2_with (go_at_call 125;refine(yE 4484 (by decide) _ _).mono ?_;rw[hset];rintro e w2 ⟨rfl,rfl⟩);clear d0 d1 d2 d3 d4 d5 d6 d7 hset HD HM
      go_loopw [45] (fun i wr=>∃(j:Nat) (x'':FT),j<=(C.d.nd m).rn/\i=.int .i64 j/\Hid (DT C st ins w.heap.size m j x'' a cap wr)/\Hid (Least (fun y=>P y\/uP C.u C.f m j y) x'')/\Hid (Mv C.S C.T a w a wr)) (fun i _=>(C.d.nd m).rn-(intOf i).toNat)
      case atStart=>exact⟨0,x',Nat.zero_le _,rfl,HD2,Nw,nR⟩
      case round=>
       clear HD2 nR Nw;obtain⟨j,x'',hj,rfl,Ai,HLj,Nv⟩:=hrel;by_cases hjn:j<(C.d.nd m).rn
       ·obtain⟨b3,o3,e3,_,hb3,g0⟩:=aX (((Ai.ss.fns HC.out).2 C.f HC.f).2.2.2 m hmn).1 hjn;rw[e3];have HR:Hid (((C.u.fn C.f).nd m).r j=(C.d.nd m).r j):=rfl;clear e3;by_cases hin:fO ((C.d.nd m).r j) C.d.vn
        ·have hw:je ((C.d.nd m).r j) (C.d.vn:Int)=true:=by unfold je;have:=hin.1;have:=hin.2;simp;omega
         obtain⟨y,hy⟩:∃y:Nat,(C.d.nd m).r j=y:=⟨((C.d.nd m).r j).toNat,by have:=hin.1;omega⟩;have hyn:y<C.d.vn:=by have:=hin.2;omega
         have HY:Hid ((C.d.nd m).r j=(y:Int)):=hy;have HI:Hid (fO ((C.d.nd m).r j) C.d.vn):=hin;rw[show((C.u.fn C.f).nd m).r j=(y:Int) from hy] at g0;rw[hy] at hw;clear hy hin;have r0:=World.rowIs.cell Ai.row (i:=y) hyn;have rz:=World.rowIs.frozen Ai.row;by_cases hsn:jH C.d m j y
         ·rw[jI hsn] at r0;have HB:Hid (rZ (C.u.fn C.f) m j):=fun h=>h.2 (by rw[show((C.u.fn C.f).nd m).r j=(y:Int) from HY.out];exact hsn);have HV:Hid (∀v:Nat,v<C.d.vn->(C.d.nd m).r j=v->jH C.d m j v):=fun v _ hv=>by rw[<-hv,HY.out];exact hsn
          clear hsn;go_wp2_with (first|(go_at_call 143;refine(q11 _ _ _).mono ?_;rw[hw];rintro e w2 ⟨rfl,rfl⟩)|(go_at_call 166;refine(zD C st ins x'' a cap 6 m _ Ai.ss).mono ?_;rintro e w3 ⟨rfl,hn3⟩;have Jy:Hid (GL C st ins (qg x'' ⟨6,C.f,m⟩) a cap _ w3):=hn3;clear hn3));go_roundw
          case rel=>exact⟨j+1,_,by omega,by go_num,(Ai.note Jy.out).skip HV.out,(HLj.note (b:=⟨6,C.f,m⟩) (by show(0:Nat)<6;omega)).congr fun y=>by rw[z61 HDK.out HB.out,or_assoc],Nv.trans Jy.2⟩
          case measure=>simp[intOf];omega
         ·rw[iP hsn] at r0;have HB:Hid (¬rZ (C.u.fn C.f) m j):=fun h=>h ⟨HI.out,by rw[show((C.u.fn C.f).nd m).r j=(y:Int) from HY.out];exact hsn⟩;clear hsn;go_wp2_with (go_at_call 143;refine(q11 _ _ _).mono ?_;rw[hw];rintro e w2 ⟨rfl,rfl⟩);go_roundw
          case rel=>exact⟨j+1,x'',by omega,by go_num,Ai.set HY.out,HLj.congr fun y=>by rw[y42 HB.out],Nv.new (Nat.le_refl _) _ _⟩
          case measure=>simp[intOf];omega
        ·have hw:je (((C.u.fn C.f).nd m).r j) (C.d.vn:Int)=false:=by
          have h:¬fO (((C.u.fn C.f).nd m).r j) C.d.vn:=hin;unfold je fO at *;simp;omega
         have HB:Hid (rZ (C.u.fn C.f) m j):=fun h=>hin h.1;have HV:Hid (∀v:Nat,v<C.d.vn->(C.d.nd m).r j=v->jH C.d m j v):=fun v hv he=>absurd (⟨by omega,by omega⟩:fO ((C.d.nd m).r j) C.d.vn) hin;clear hin;go_wp2_with (first|(go_at_call 143;refine(q11 _ _ _).mono ?_;rw[hw];rintro e w2 ⟨rfl,rfl⟩)|(go_at_call 166;refine(zD C st ins x'' a cap 6 m _ Ai.ss).mono ?_;rintro e w3 ⟨rfl,hn3⟩;have Jy:Hid (GL C st ins (qg x'' ⟨6,C.f,m⟩) a cap _ w3):=hn3;clear hn3));go_roundw
         case rel=>exact⟨j+1,_,by omega,by go_num,(Ai.note Jy.out).skip HV.out,(HLj.note (b:=⟨6,C.f,m⟩) (by show(0:Nat)<6;omega)).congr fun y=>by rw[z61 HDK.out HB.out,or_assoc],Nv.trans Jy.2⟩
         case measure=>simp[intOf];omega
       ·obtain rfl:j=(C.d.nd m).rn:=by omega
        go_wp2_with fail;go_roundw
        case rel=>exact⟨m+1,x'',by omega,by go_num,Ai.same (fun v=>by rw[Wu,ZV];exact⟨fun h=>h.elim .inl fun h=>.inr ⟨HDK,h⟩,fun h=>h.elim .inl fun h=>.inr h.2⟩),HLj.congr fun y=>or_congr Iff.rfl (zm6 y),Nv⟩
        case measure=>simp[intOf];omega
     ·rw[show Jb ((C.u.fn C.f).nd m).k=false from iP hdk] at hset;have HDK:Hid (¬mW ((C.u.fn C.f).nd m).k):=hdk;clear hdk e0;go_wp2_with (go_at_call 125;refine(yE 4484 (by decide) _ _).mono ?_;rw[hset];rintro e w2 ⟨rfl,rfl⟩);go_roundw
      case rel=>exact⟨m+1,x',by omega,by go_num,HD2.same (fun v=>by rw[Wu];exact⟨.inl,fun h=>h.resolve_right fun h=>HDK.out h.1⟩),Nw.congr fun y=>or_congr Iff.rfl (zc6 HDK y),nR⟩
      case measure=>simp[intOf];omega
    ·obtain rfl:m=C.d.nn:=by omega
     go_wp2_with fail;go_end0;exact⟨rfl,x',a,cap,HD.ss,Nw.congr fun y=>by rw[Zx],HM.out⟩
theorem ze2(k:Nat):sO (k+1)=sO k++[(k:Int)]:=by unfold sO;rw[List.range_succ,List.map_append];rfl
theorem VN(k:Nat):(sO k).length=k:=by simp[sO]
theorem ya9{k vn:Nat}(h:k<vn):jF (fun _=>(k:Int)) vn 1=[(k:Int)]:=by
 rw[U2 (j:=0) ⟨by omega,by omega⟩,OT];rfl
theorem jr.one{C:CX}{st:List Int}{ins:Nat}{x:FT}{a:Option Addr}{cap:Nat}{w:World}(h:SS C st ins x a cap w)(k:Nat):jr C a (w.alloc (.cells #[.int .i64 (k:Int)] 3)) (some ⟨w.heap.size,0,none⟩) 1 (fun _=>(k:Int)):=by
 refine⟨fun _=>⟨w.heap.size,0,rfl,Nat.zero_le _,by simp,fun i hi j hj=>?_⟩,fun _ b off e=>?_⟩
 ·obtain rfl:i=0:=by omega
  obtain rfl:j=0:=by omega
  simp
 ·cases e;exact h.other (Nat.le_refl _)
def VJ(C:CX)(e:Ending)(w':World):Prop:=∃x,e=.returned (iE x)/\Least (yx C.u C.f) x/\ah C.w0 w'
theorem z88(C:CX)(hC:C.ok)(hvn:C.d.vn<=200)(hpp:0<=C.d.params/\C.d.params<=C.d.vn)(w:World)(hS:SS C [] 0 jl none 0 w):Calls Tryz.prog 83 #[.pointer (some ⟨C.S,0,none⟩)] w fun e w'=>VJ C e w':=by
 have HS:Hid (SS C [] 0 jl none 0 w):=hS;have HC:Hid C.ok:=hC;have hnn:=hC.nn;obtain⟨p,hp⟩:∃p:Nat,C.d.params=p:=⟨C.d.params.toNat,by omega⟩;have hpn:p<=C.d.vn:=by omega
 have Sr:Hid (C.d.params=p):=hp;have HPQ:Hid (0<=C.d.params/\C.d.params<=C.d.vn):=hpp;have c4:=hS.c4;have hlt:=hS.lt;rw[hp] at c4;have HO:Hid (w.heap.size≠C.S/\w.heap.size≠C.T/\aj none≠some w.heap.size):=hS.other (Nat.le_refl w.heap.size);have SH:Hid (C.w0.heap.size<=w.heap.size):=hS.b.size;clear hS hC hp hpp;go_in;go_wp2_with fail;obtain⟨w1,hw1⟩:∃w1,w1=w.alloc (.cells #[.int .i64 0,.int .i64 0,.int .i64 0] 56):=⟨_,rfl⟩;have fP:Hid (SS C [] 0 jl none 0 w1):=by show SS _ _ _ _ _ _ _;rw[hw1];exact HS.alloc _
 have HR1:Hid (w1.rowIs w.heap.size 56 3 (fun _=>.int .i64 0)):=by
  show World.rowIs _ _ _ _ _;rw[hw1];exact World.rowIs_alloc w #[.int .i64 0,.int .i64 0,.int .i64 0] 56 (fun _=>.int .i64 0) (fun i hi=>by
   have:i=0\/i=1\/i=2:=by simp at hi;omega
   rcases this with rfl|rfl|rfl<;>rfl)
 have hl1:w.heap.size<w1.heap.size:=World.rowIs.lt HR1.out;rw[<-hw1];clear hw1 c4 hlt
 go_loopw [9] (fun i wr=>∃(k:Nat) (a':Option Addr) (cap':Nat),k<=p/\i=.int .i64 k/\Hid (SS C (sO k) 0 jl a' cap' wr)/\Hid (Mv C.S C.T none w1 a' wr)) (fun i _=>p-(intOf i).toNat)
 case atStart=>exact⟨0,none,0,Nat.zero_le _,rfl,fP,Mv.refl _ _ _ _⟩
 case round=>
  obtain⟨k,a',cap',hk,rfl,pO,Fz⟩:=hrel;by_cases hkp:k<p
  ·have HV:Hid (jF (fun _=>(k:Int)) C.d.vn 1=[(k:Int)]):=ya9 (by omega);go_wp2_with (go_at_call 140;refine(PU C (sO k) 0 jl a' cap' _ 1 1 (fun _=>(k:Int)) _ (by omega) (by rw[VN];omega) (pO.alloc _) (jr.one pO.out k)).mono ?_;rintro e w9 ⟨rfl,⟨a9,rV,hs9,BD⟩⟩;rw[HV.out,<-ze2] at hs9;have yR:Hid (SS C (sO (k+1)) 0 jl a9 rV w9):=hs9;have JB:Hid (Mv C.S C.T a' _ a9 w9):=BD;clear hs9 BD);go_roundw
   case rel=>exact⟨k+1,a9,rV,by omega,by go_num,yR,Fz.trans JB.first⟩
   case measure=>simp[intOf];omega
  ·obtain rfl:k=p:=by omega
   have c8:=pO.c8;obtain⟨q,hq⟩:∃q:Nat,C.d.nn=q+1:=⟨C.d.nn-1,by omega⟩;have hroot:C.d.nn-1=q:=by omega
   have HVP:Hid (dL C q (sO k) 0 jl a' cap' (fun _=>False) wr):=⟨pO.out,by omega,by rw[<-hroot];exact bD.root HC.tree Sr.out,⟨fun h=>absurd h (by omega),fun h=>absurd (by rw[hroot];exact h) (rW.root HC.tree)⟩,by rw[VN];omega,by omega,Least.zero (fun _ h=>h)⟩;have HLV:Hid (leaves C q=[]):=by
    show leaves C q=[];have h:=HC.tree.last;unfold leaves;rw[<-hroot,if_neg (by omega)]
   have Nu:Hid (∀y,((False\/iO C.u C.f q y)\/∃z,z<C.d.nn/\CB C.u C.f z y)↔yx C.u C.f y):=fun y=>by
    rw[<-hroot,show C.d.nn=(C.u.fn C.f).nn from rfl,zm3 C.u C.f HC.tree];unfold yx;constructor
    ·rintro((h|⟨z,h1,h2⟩)|⟨z,h1,h2⟩)
     ·exact h.elim
     ·exact⟨z,h1,.inl h2⟩
     ·exact⟨z,h1,.inr h2⟩
    ·rintro⟨z,h1,h2|h2⟩
     ·exact .inl (.inr ⟨z,h1,h2⟩)
     ·exact .inr ⟨z,h1,h2⟩
   rw[hq] at c8;have HVA:Hid (qh C q):=zp6 C HC.out q (by omega);have hq3:q<3000:=by omega
   clear hq hroot;go_wp2_with (first|(go_at_call 141;refine(HVA _ _ _ _ _ _ _ HVP).mono ?_;rintro e w7 ⟨rfl,⟨x7,a7,qC,hs7,yK,iR⟩⟩;rw[HLV.out,List.append_nil] at hs7;have Es:Hid (SS C (sO k) 0 x7 a7 qC w7):=hs7;have JE:Hid (Least (fun y=>False\/iO C.u C.f q y) x7):=yK;have JC:Hid (Mv C.S C.T a' wr a7 w7):=iR;clear hs7 yK iR)|(go_at_call 142;refine(qg7 C HC hvn HPQ (sO k) 0 x7 a7 qC _ _ Es JE).mono ?_;rintro e w8 ⟨rfl,⟨x8,a8,Rn,hs8,uZ,XE⟩⟩;have Ce:Hid (SS C (sO k) 0 x8 a8 Rn w8):=hs8;have YG:Hid (Least (yx C.u C.f) x8):=Least.congr uZ Nu.out;have HM8:Hid (Mv C.S C.T none w1 a8 w8):=(Fz.trans JC.out).trans XE;clear hs8 uZ XE;have c51:=Ce.c51;have Ec:=Ce.Ec;have c53:=Ce.c53;have yS:Hid (w8.rowIs w.heap.size 56 3 (fun _=>.int .i64 0)):=World.rowIs.of_block HR1.out (HM8.kp.block w.heap.size hl1 HO.1 HO.2.1 HO.2.2);have s0:=World.rowIs.cell yS.out (i:=0) (by omega);have s1:=World.rowIs.cell yS.out (i:=1) (by omega);have s2:=World.rowIs.cell yS.out (i:=2) (by omega);have sz:=World.rowIs.frozen yS.out));refine bodyPost_ret (v:=iE x8) (by simp[results,Tryz.results83,go_sem,s0,s1,s2]) rfl ?_;exact⟨x8,rfl,YG,iT (iT (iT Ce.b SH _) SH _) SH _⟩
abbrev tZ(w:World)(u:UD)(a:Option Addr)(cap:Nat):World:=((w.alloc (.cells #[.slice a u.n cap] 31)).alloc (.cells #[.int .i64 0,.int .i64 0,.int .i64 0] 56)).alloc (.cells #[.int .i64 0,.int .i64 0,.int .i64 0] 56)
abbrev zT(x:FT):Array Value:=#[.int .i64 (x.c:Int),.int .i64 (x.f:Int),.int .i64 (x.n:Int)]
theorem Uw{w wr:World}{u:UD}{a:Option Addr}{cap:Nat}(h:Below (w.heap.size+1 + 1) (tZ w u a cap) wr):ah w wr:=(yG w _ _ _).trans (h.mono (by omega))
theorem tX{w wr:World}{u:UD}{a:Option Addr}{cap:Nat}(h:Below (w.heap.size+1 + 1) (tZ w u a cap) wr):wr.cell? ⟨w.heap.size,0,none⟩=some (.slice a u.n cap):=(h.cell (p:=⟨w.heap.size,0,none⟩) (by show w.heap.size < _;omega)).trans (((Has.new w #[.slice a u.n cap] 31).alloc _).alloc _ |>.cell 0 rfl)
theorem KD{w wr:World}{u:UD}{a:Option Addr}{cap:Nat}(h:Below (w.heap.size+1 + 1) (tZ w u a cap) wr):wr.rowIs (w.heap.size+1) 56 3 (fun _=>.int .i64 0):=by
 have h1:=(World.rowIs_alloc (w.alloc (.cells #[.slice a u.n cap] 31)) #[.int .i64 0,.int .i64 0,.int .i64 0] 56 (fun _=>.int .i64 0) (fun i hi=>by
  have:i=0\/i=1\/i=2:=by simp at hi;omega
  rcases this with rfl|rfl|rfl<;>rfl)).alloc (.cells #[.int .i64 0,.int .i64 0,.int .i64 0] 56)
 rw[show(w.alloc (.cells #[.slice a u.n cap] 31)).heap.size=w.heap.size+1 by simp] at h1;exact h1.of_block (h.block _ (by omega))
theorem z52{w wr:World}{u:UD}{a:Option Addr}{cap:Nat}(h:Below (w.heap.size+1 + 1) (tZ w u a cap) wr)(v0 v1 v2:Value):ah w (((wr.setCell ⟨w.heap.size+1,0,none⟩ v0).setCell ⟨w.heap.size+1,1,none⟩ v1).setCell ⟨w.heap.size+1,2,none⟩ v2):=iT (iT (iT (Uw h) (Nat.le_add_right _ _) _) (Nat.le_add_right _ _) _) (Nat.le_add_right _ _) _
theorem OwnB.qE{w w':World}{B:Nat}{A:Array Value}(h:OwnB w B A)(hb:ah w w'):OwnB w' B A:=h.block hb.size (hb.block _ h.1.1)
theorem OwnB.ft{w:World}{B:Nat}{x:FT}(h:OwnB w B (zT x))(y:FT):OwnB (((w.setCell ⟨B,0,none⟩ (.int .i64 (y.c:Int))).setCell ⟨B,1,none⟩ (.int .i64 (y.f:Int))).setCell ⟨B,2,none⟩ (.int .i64 (y.n:Int))) B (zT y):=
 ((h.set (o:=0) (by show 0<3;omega) _).set (o:=1) (by show 1<3;omega) _).set (o:=2) (by show 2<3;omega) _
theorem Zz(u:UD)(k:Nat)(y:FT):((∃g,g<k/\yx u g y)\/yx u k y)↔∃g,g<k+1/\yx u g y:=by
 constructor
 ·rintro(⟨g,h1,h2⟩|h)
  ·exact⟨g,by omega,h2⟩
  ·exact⟨k,by omega,h⟩
 ·rintro⟨g,h1,h2⟩;by_cases e:g=k
  ·subst e;exact .inr h2
  ·exact .inl ⟨g,by omega,h2⟩
def zp3:Prop:=∀(L:Nat) (u:UD) (a:Option Addr) (cap:Nat) (fas:Nat->FA) (w:World),u.sm->U5 u->(∀i,i<u.n->jc (u.fn i) (fas i))->aZ L w u.n u.fn a fas->
 Calls Tryz.prog 42 #[pq u a cap] w fun e w'=>aQ (uN u) w e w'
theorem qm7:zp3:=by
 intro L u a cap fas w hs h5 hcf hT;have HT:Hid (aZ L w u.n u.fn a fas):=hT;have HS:Hid u.sm:=hs;have H5:Hid (U5 u):=h5;have HCF:Hid (∀i,i<u.n->jc (u.fn i) (fas i)):=hcf;have hun:=h5.size.2.1;clear hT hs h5 hcf;go_in;go_wp2_with fail;obtain⟨w3,hw3⟩:∃w3,w3=tZ w u a cap:=⟨_,rfl⟩;have HB3:Hid (Below (w.heap.size+1 + 1) (tZ w u a cap) w3):=by show Below _ _ _;rw[hw3];exact Below.refl _ _
 have Fq:Hid (OwnB w3 (w.heap.size+1 + 1) (zT jl)):=by
  show OwnB _ _ _;rw[hw3];have h:=OwnB.new ((w.alloc (.cells #[.slice a u.n cap] 31)).alloc (.cells #[.int .i64 0,.int .i64 0,.int .i64 0] 56)) #[.int .i64 0,.int .i64 0,.int .i64 0] 56;rw[show((w.alloc (.cells #[.slice a u.n cap] 31)).alloc (.cells #[.int .i64 0,.int .i64 0,.int .i64 0] 56)).heap.size=w.heap.size+1 + 1 by simp] at h;exact h
 simp only[tZ] at hw3;rw[<-hw3];clear hw3
 go_loopw [9] (fun i wr=>∃(k:Nat) (x:FT),k<=u.n/\i=.int .i64 k/\Hid (Least (fun y=>∃g,g<k/\yx u g y) x)/\Hid (OwnB wr (w.heap.size+1 + 1) (zT x))/\Hid (Below (w.heap.size+1 + 1) (tZ w u a cap) wr)) (fun i _=>u.n-(intOf i).toNat)
 case atStart=>exact⟨0,jl,Nat.zero_le _,rfl,Least.zero (fun y ⟨g,hg,_⟩=>by omega),Fq,HB3⟩
 case round=>
  clear Fq HB3;obtain⟨k,x,hk,rfl,HL,HO,HB⟩:=hrel;have u0:=tX HB.out;have f0:=HO.1.cell 0 rfl;have f1:=HO.1.cell 1 rfl;have f2:=HO.1.cell 2 rfl;have z:=HO.2;have hlt:=HO.1.1;have hl0:=HO.1.1;have iF:Hid (aZ L wr u.n u.fn a fas):=HT.below (Uw HB.out);by_cases hkn:k<u.n
  ·have hh:=H5.toU3.head k hkn;have Sv:Hid (∀(S T:Nat),CX.ok ⟨S,T,L,wr.drew,u,k,a,cap,fas⟩):=fun S T=>⟨H5.out,HS.out,hkn,iF.out,HCF.out k hkn⟩
   go_upto_region 5 with fail
   go_region_with (first|(go_at_call 82;refine(qr6 L u k a cap fas _ hkn hh.1.2.1 (by first|exact iF.out|exact iF.out)).mono ?_;rintro e w5 ⟨S,T,rfl,hs5⟩;have yV:Hid (Below (w.heap.size+1 + 1) (tZ w u a cap) w5):=HB.trans ((show ah wr w5 from(Below.refl _ _).drew.trans hs5.b).mono (by omega));have yT:Hid (OwnB w5 (w.heap.size+1 + 1) (zT x)):=HO.qE (show ah wr w5 from(Below.refl _ _).drew.trans hs5.b);have hf5:=fun h1 h2 h3=>z88 _ h1 h2 h3 _ hs5;have yU:Hid (Calls Tryz.prog 83 #[.pointer (some ⟨S,0,none⟩)] w5 fun e w'=>VJ ⟨S,T,L,wr.drew,u,k,a,cap,fas⟩ e w'):=hf5 (Sv.out S T) hh.1.2.1 hh.1.2.2.2;clear hs5 hf5;clear f0 f1 f2 z u0 hlt;have f0:=yT.1.cell 0 rfl;have f1:=yT.1.cell 1 rfl;have f2:=yT.1.cell 2 rfl;have z:=yT.2;have hlt:=yT.1.1;have u0:=tX yV.out)|(go_at_call 83;refine yU.mono ?_;rintro e w6 ⟨x6,rfl,BG,hb6⟩;have FB:Hid (Least (yx u k) x6):=BG;have JQ:Hid (Below (w.heap.size+1 + 1) (tZ w u a cap) w6):=HB.trans ((show ah wr w6 from(Below.refl _ _).drew.trans hb6).mono (by omega));have uJ:Hid (OwnB w6 (w.heap.size+1 + 1) (zT x)):=HO.qE (show ah wr w6 from(Below.refl _ _).drew.trans hb6);clear BG hb6;clear f0 f1 f2 z u0 hlt;have f0:=uJ.1.cell 0 rfl;have f1:=uJ.1.cell 1 rfl;have f2:=uJ.1.cell 2 rfl;have z:=uJ.2;have hlt:=uJ.1.1;have u0:=tX JQ.out)|(go_at_call 81;refine(PS x x6 _).mono ?_;rintro e w7 ⟨rfl,hb7⟩;have tJ:Hid (Below (w.heap.size+1 + 1) (tZ w u a cap) w7):=JQ.trans (hb7.mono (by omega));have vG:Hid (OwnB w7 (w.heap.size+1 + 1) (zT x)):=uJ.qE hb7;clear hb7;clear f0 f1 f2 z u0 hlt;have f0:=vG.1.cell 0 rfl;have f1:=vG.1.cell 1 rfl;have f2:=vG.1.cell 2 rfl;have z:=vG.2;have hlt:=vG.1.1;have u0:=tX tJ.out))
   all_goals go_wp2_with fail
   all_goals go_roundw
   all_goals first
    |exact⟨k+1,qg x x6,by omega,by go_num,(HL.first FB.out).congr (Zz u k),vG.ft _,iT (iT (iT tJ.out (Nat.le_refl _) _) (Nat.le_refl _) _) (Nat.le_refl _) _⟩
    |(simp[intOf];omega)
  ·obtain rfl:k=u.n:=by omega
   go_upto_region 7 with fail
   go_region_with (first|(go_at_call 84;refine(qn1 L u a cap fas _ HS.out H5.toU3 (by first|exact iF.out|exact iF.out)).mono ?_;rintro e w6 ⟨x6,rfl,BG,hb6⟩;have FB:Hid (Least (yA u) x6):=BG;have JQ:Hid (Below (w.heap.size+1 + 1) (tZ w u a cap) w6):=HB.trans ((show ah wr w6 from(Below.refl _ _).drew.trans hb6).mono (by omega));have uJ:Hid (OwnB w6 (w.heap.size+1 + 1) (zT x)):=HO.qE (show ah wr w6 from(Below.refl _ _).drew.trans hb6);clear BG hb6;clear f0 f1 f2 z u0 hlt;have f0:=uJ.1.cell 0 rfl;have f1:=uJ.1.cell 1 rfl;have f2:=uJ.1.cell 2 rfl;have z:=uJ.2;have hlt:=uJ.1.1;have u0:=tX JQ.out)|(go_at_call 81;refine(PS x x6 _).mono ?_;rintro e w7 ⟨rfl,hb7⟩;have tJ:Hid (Below (w.heap.size+1 + 1) (tZ w u a cap) w7):=JQ.trans (hb7.mono (by omega));have vG:Hid (OwnB w7 (w.heap.size+1 + 1) (zT x)):=uJ.qE hb7;clear hb7;clear f0 f1 f2 z u0 hlt;have f0:=vG.1.cell 0 rfl;have f1:=vG.1.cell 1 rfl;have f2:=vG.1.cell 2 rfl;have z:=vG.2;have hlt:=vG.1.1;have u0:=tX tJ.out;have s0:=World.rowIs.cell (KD tJ.out) (i:=0) (by omega);have s1:=World.rowIs.cell (KD tJ.out) (i:=1) (by omega);have s2:=World.rowIs.cell (KD tJ.out) (i:=2) (by omega);have sz:=World.rowIs.frozen (KD tJ.out)))
   all_goals go_wp2_with fail
   all_goals refine bodyPost_ret (v:=iE (qg x x6)) (by simp[results,Tryz.results42,go_sem,s0,s1,s2]) rfl ?_
   all_goals exact aQ.of ((HL.first FB.out).congr fun y=>ZA u y) (z52 tJ.out _ _ _)
end
end Go.Proofs.YtihnikeikhjndaaGreatDoor
