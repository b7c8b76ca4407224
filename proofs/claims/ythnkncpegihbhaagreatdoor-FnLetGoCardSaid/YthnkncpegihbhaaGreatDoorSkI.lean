import Derived.Test.YthnkncpegihbhaaGreatDoorSkE
set_option maxRecDepth 100000
set_option maxHeartbeats 16000000
namespace Go.Proofs.YthnkncpegihbhaaGreatDoor
section
open Go.RowKit
attribute [local go_sem] iD
attribute [local go_sem ↓] Go.wp_at_zero Go.wp_at_succ
theorem CX.ok.rn{C:CX}(h:C.ok){n:Nat}(hn:n<C.d.nn):(C.d.nd n).rn<=1048576:=((h.sm.fn C.f h.f).nd n hn).rn
theorem yg8(d:ND)(vn:Nat):(xK d vn).length<=d.rn:=by rw[<-z73];exact NJ _ _ _
theorem UL(C:CX)(hC:C.ok)(n:Nat)(hn:n<C.d.nn):∀j,j<=(C.d.nd n).kn->(sD C.d.nd C.d.vn n j).length<=1048576*j
 |0,_=>by simp[sD]
 |j+1,hj=>by
  have ih:=UL C hC n hn j (by omega);have hc:=(hC.node hn).kids j (by omega);have h1:=yg8 (C.d.nd ((C.d.nd n).c j).toNat) C.d.vn;have h2:=hC.rn (n:=((C.d.nd n).c j).toNat) (by omega);unfold sD;rw[aU];split
  ·omega
  ·simp;omega
theorem y08{C:CX}(n j c:Nat)(hc:(C.d.nd n).c j=(c:Int)):sD C.d.nd C.d.vn n (j+1)=sD C.d.nd C.d.vn n j++leaves C c:=by
 show sD C.d.nd C.d.vn n j++_=_;rw[hc,bV];rfl
theorem Si{C:CX}(hC:C.ok){n:Nat}(hn:n<C.d.nn)(hk:(C.d.nd n).k≠1):∀j,j<=(C.d.nd n).kn->sD C.d.nd C.d.vn n j=[]
 |0,_=>rfl
 |j+1,hj=>by
  have:=(hC.node hn).lets hk j (by omega);unfold sD;rw[Si hC hn hk j (by omega),au this];rfl
theorem jV.kid{C:CX}(hC:C.ok){n:Nat}{st:List Int}{ins:Nat}{x:FT}{a:Option Addr}{cap:Nat}{P:FT->Prop}{w:World}(h:jV C n st ins x a cap P w){j c:Nat}(hj:j<(C.d.nd n).kn)(hc:(C.d.nd n).c j=(c:Int)){st':List Int}{ins':Nat}{x':FT}{a':Option Addr}{cap':Nat}{P':FT->Prop}{w':World}(hs:SS C st' ins' x' a' cap' w')(hst:ji C.d c st')(hlp:0<ins'↔yI C.d.nd C.d.nn c)(gG:st'.length<=st.length+209715200)(hins:ins'<=ins+1)(hl:Least P' x'):jV C c st' ins' x' a' cap' P' w':=by
 have h0:=h.lt;have h1:=(hC.node h0).kids j hj;have h2:=h.room;have h3:=h.deep;exact⟨hs,by omega,hst,hlp,by omega,by omega,hl⟩
theorem jV.Ig{C:CX}(hC:C.ok){n:Nat}{st:List Int}{ins:Nat}{x:FT}{a:Option Addr}{cap:Nat}{P:FT->Prop}{w:World}(h:jV C n st ins x a cap P w)(hk:(C.d.nd n).k≠7/\(C.d.nd n).k≠8/\(C.d.nd n).k≠12){j c:Nat}(hj:j<(C.d.nd n).kn)(hc:(C.d.nd n).c j=(c:Int)):ji C.d c (st++sD C.d.nd C.d.vn n j):=by
 by_cases e:(C.d.nd n).k=1
 ·exact ji.block hC.tree ⟨h.lt,hj,hc⟩ e h.stack
 ·rw[Si hC h.lt e j (by omega),bM];exact ji.plain hC.tree ⟨h.lt,hj,hc⟩ e (fun h=>by omega) h.stack
theorem jV.yX{C:CX}(hC:C.ok){n:Nat}{st:List Int}{ins:Nat}{x:FT}{a:Option Addr}{cap:Nat}{P:FT->Prop}{w:World}(h:jV C n st ins x a cap P w){j c:Nat}(hj:j<(C.d.nd n).kn)(hc:(C.d.nd n).c j=(c:Int))(hk:¬(((C.d.nd n).k=6\/(C.d.nd n).k=7\/(C.d.nd n).k=8)/\j+1=(C.d.nd n).kn)):0<ins↔yI C.d.nd C.d.nn c:=by
 rw[yI.iff hC.tree ⟨h.lt,hj,hc⟩,h.loop];exact⟨.inr,fun h'=>h'.resolve_left hk⟩
def xk(C:CX)(n:Nat)(st:List Int)(ins:Nat)(P:FT->Prop)(a:Option Addr)(w w':World):Prop:=mg C (st++sD C.d.nd C.d.vn n (C.d.nd n).kn) ins (fun y=>P y\/uO C.u C.f n (C.d.nd n).kn y) a w w'
theorem VX(C:CX)(hC:C.ok)(n:Nat)(ih:∀m,m<n->wL C m)(hk:(C.d.nd n).k≠6/\(C.d.nd n).k≠7/\(C.d.nd n).k≠8/\(C.d.nd n).k≠12)(st:List Int)(ins:Nat)(x:FT)(a:Option Addr)(cap:Nat)(P:FT->Prop)(w:World)(hP:jV C n st ins x a cap P w):Calls Tryz.prog 128 #[.pointer (some ⟨C.S,0,none⟩),.int .i64 (n:Int)] w fun e w'=>e=.returned (.tuple #[])/\xk C n st ins P a w w':=by
 have HP:Hid (jV C n st ins x a cap P w):=hP;have HC:Hid C.ok:=hC;have IH:Hid (∀m,m<n->wL C m):=ih;have HK:Hid ((C.d.nd n).k≠6/\(C.d.nd n).k≠7/\(C.d.nd n).k≠8/\(C.d.nd n).k≠12):=hk;have c8:=hP.ss.c8;have hn:=hP.lt;have hnn:=hC.nn;have fE:=(hC.node hn).kn;obtain⟨b,off,e0,_,hb,d0,d1,d2,d3,d4,d5,d6,d7⟩:=jU ((hP.ss.fns hC).2 C.f hC.f).2.2.1 hn;rw[e0] at c8;rw[show(C.u.fn C.f).nd n=C.d.nd n from rfl] at d7;go_in;go_wp2_with fail
 go_loopw [16] (fun i wr=>∃(k:Nat) (x':FT) (a':Option Addr) (cap':Nat),k<=(C.d.nd n).kn/\i=.int .i64 k/\Hid (SS C (st++sD C.d.nd C.d.vn n k) ins x' a' cap' wr)/\Hid (Least (fun y=>P y\/uO C.u C.f n k y) x')/\Hid (Mv C.S C.T a w a' wr)) (fun i _=>(C.d.nd n).kn-(intOf i).toNat)
 case atStart=>exact⟨0,x,a,cap,aF _,rfl,by show SS _ _ _ _ _ _ _;rw[show sD C.d.nd C.d.vn n 0=[] from rfl,bM];exact HP.ss,HP.least.congr fun y=>⟨.inl,fun h=>h.resolve_right (VZ _ _ _ _)⟩,Mv.refl _ _ _ _⟩
 case round=>
  obtain⟨k,x',a',cap',hk,rfl,HS,HL,HM⟩:=hrel;by_cases hkn2:k<(C.d.nd n).kn
  ·obtain⟨b2,o2,e2,_,eG,g0⟩:=jd (((HS.fns HC.out).2 C.f HC.f).2.2.2 n hn).2 hkn2;rw[show C.fas C.f=C.fa from rfl] at e2;rw[e2];have hc:=(HC.node hn).kids k hkn2;obtain⟨c,hcc⟩:∃c:Nat,(C.d.nd n).c k=c:=⟨((C.d.nd n).c k).toNat,by omega⟩;rw[show((C.u.fn C.f).nd n).c k=(c:Int) from hcc] at g0;have hcn:c<n:=by omega
   have gG:=UL C HC.out n hn k hk;have HV:Hid (Calls Tryz.prog 139 #[.pointer (some ⟨C.S,0,none⟩),.int .i64 (c:Int)] wr fun e w'=>e=.returned (.tuple #[])/\mg C ((st++sD C.d.nd C.d.vn n k)++leaves C c) ins (fun y=>(P y\/uO C.u C.f n k y)\/nX C.u C.f c y) a' wr w'):=
    IH.out c hcn _ _ _ _ _ _ _ (HP.kid HC.out hkn2 hcc HS.out (HP.Ig HC.out HK.2 hkn2 hcc) (HP.yX HC.out hkn2 hcc (fun h=>by have:=HK.out;omega)) (by rw[aU];omega) (by omega) HL.out)
   have HE:Hid (st++sD C.d.nd C.d.vn n (k+1)=(st++sD C.d.nd C.d.vn n k)++leaves C c):=by show _=_;rw[y08 n k c hcc,List.append_assoc]
   have HQ:Hid (∀y,((P y\/uO C.u C.f n k y)\/nX C.u C.f c y)↔(P y\/uO C.u C.f n (k+1) y)):=fun y=>by rw[O1 C.u C.f n k c hcc y,or_assoc]
   go_wp2_with (go_at_call 139;refine HV.mono ?_;rintro e w9 ⟨rfl,⟨x9,a9,yC,hs9,TA,LC⟩⟩;have Q9:Hid _:=hs9;have YN:Hid _:=TA;have Qn:Hid _:=LC);go_roundw
   case rel=>exact⟨k+1,x9,a9,yC,by omega,by go_num,by rw[HE.out];exact Q9,Least.congr YN HQ,HM.trans Qn⟩
   case measure=>simp[intOf];omega
  ·obtain rfl:k=(C.d.nd n).kn:=by omega
   go_wp2_with fail;go_end0;exact⟨rfl,x',a',cap',HS,HL,HM⟩
theorem oN.node{C:CX}(hC:C.ok){st:List Int}{ins:Nat}{x:FT}{a:Option Addr}{cap:Nat}{w:World}(h:SS C st ins x a cap w){n:Nat}(hn:n<C.d.nn):oN C a w (C.fa.nas n).ra (C.d.nd n).rn (C.d.nd n).r:=by
 refine⟨iF.less (((h.fns hC).2 C.f hC.f).2.2.2 n hn).1 (aF _),fun h0 b off e=>?_⟩;obtain⟨b',off',e',_,hb,_⟩:=((hC.at_.2 C.f hC.f).2.2.2 n hn).1 h0;rw[show C.fas C.f=C.fa from rfl,e] at e'
 cases e';have h1:=h.nS;have h2:=h.nT;exact⟨by omega,by omega,fun c=>by have:=(h.ge c).1;omega⟩
theorem xk.step{C:CX}{n:Nat}{st:List Int}{ins:Nat}{P:FT->Prop}{a:Option Addr}{w w':World}(h:xk C n st ins P a w w')(hl:sD C.d.nd C.d.vn n (C.d.nd n).kn=[])(h2:(C.d.nd n).k≠2)(hN:∀y,¬oD C.u C.f n y):mg C (st++leaves C n) ins (fun y=>P y\/nX C.u C.f n y) a w w':=by
 obtain⟨x',a',cap',h1,h3,h4⟩:=h;rw[hl,bM] at h1;rw[Em h2];exact⟨x',a',cap',h1,h3.congr fun y=>by rw[Ld];exact⟨fun h=>h.elim .inl fun h=>.inr (.inl h),fun h=>h.elim .inl fun h=>.inr (h.resolve_right (hN y))⟩,h4⟩
theorem yc0(C:CX)(hC:C.ok)(n:Nat)(hn:n<C.d.nn)(ih:∀m,m<n->wL C m)(hk:(C.d.nd n).k≠1/\(C.d.nd n).k≠2/\(C.d.nd n).k≠6/\(C.d.nd n).k≠7/\(C.d.nd n).k≠8/\(C.d.nd n).k≠12/\(C.d.nd n).k≠9/\(C.d.nd n).k≠10/\(C.d.nd n).k≠26/\(C.d.nd n).k≠27/\(C.d.nd n).k≠36/\(C.d.nd n).k≠37):Au C 128 n:=by
 intro st ins x a cap P w hP;have hN:=Dk (IC (u:=C.u) (f:=C.f) (n:=n) hk.2.2.2.2.2.2.2.2.1 hk.2.2.2.2.2.2.2.2.2.1 hk.2.2.2.2.2.2.2.2.2.2.1) (Ed hk.2.2.2.2.2.2.1 hk.2.2.2.2.2.2.2.1) (Gf hk.2.2.2.2.2.2.2.2.2.2.1 hk.2.2.2.2.2.2.2.2.2.2.2);refine(VX C hC n ih ⟨hk.2.2.1,hk.2.2.2.1,hk.2.2.2.2.1,hk.2.2.2.2.2.1⟩ st ins x a cap P w hP).mono ?_;rintro e w' ⟨rfl,h⟩;exact⟨rfl,h.step (Si hC hn hk.1 _ (ah _)) hk.2.1 hN⟩
theorem yl0(C:CX)(hC:C.ok)(n:Nat)(ih:∀m,m<n->wL C m)(hk:(C.d.nd n).k=2):Au C 130 n:=by
 intro st ins x a cap P w hP;have hk':((C.u.fn C.f).nd n).k=2:=hk;have HN:Hid (∀y,¬oD C.u C.f n y):=Dk (IC (by omega) (by omega) (by omega)) (Ed (by omega) (by omega)) (Gf (by omega) (by omega));have YQ:Hid (Calls Tryz.prog 128 #[.pointer (some ⟨C.S,0,none⟩),.int .i64 (n:Int)] w fun e w'=>e=.returned (.tuple #[])/\xk C n st ins P a w w'):=VX C hC n ih (by omega) st ins x a cap P w hP;have HE:Hid (sD C.d.nd C.d.vn n (C.d.nd n).kn=[]):=Si hC hP.lt (by omega) _ (ah _);have HP:Hid (jV C n st ins x a cap P w):=hP;have HC:Hid C.ok:=hC;have HL:Hid (leaves C n=pK (C.d.nd n).r C.d.vn (C.d.nd n).rn):=by show leaves C n=_;unfold leaves;rw[aO hk,z73]
 have hn:=hP.lt;have hnn:=hC.nn;have hrn:=hC.rn hn;have hroom:=hP.room;go_in;go_wp2_with fail;refine YQ.mono ?_;rintro e w1 ⟨rfl,⟨x1,a1,cap1,fH,hl1,hm1⟩⟩;rw[HE.out,bM] at fH;have qc:Hid (SS C st ins x1 a1 cap1 w1):=fH;have oK:Hid (Least (fun y=>P y\/uO C.u C.f n (C.d.nd n).kn y) x1):=hl1;have AZ:Hid (Mv C.S C.T a w a1 w1):=hm1;have c8:=fH.c8;obtain⟨b,off,e0,_,hb,d0,d1,d2,d3,d4,d5,d6,d7⟩:=jU ((fH.fns HC.out).2 C.f HC.f).2.2.1 hn;rw[e0] at c8;rw[show(C.u.fn C.f).nd n=C.d.nd n from rfl] at d6;have HI:Hid (oN C a1 w1 (C.fa.nas n).ra (C.d.nd n).rn (C.d.nd n).r):=oN.node HC.out fH hn;go_wp2_with (go_at_call 138;refine(WM C st ins x1 a1 cap1 _ _ _ _ _ hrn (by omega) qc.out HI.out).mono ?_;rintro e w2 ⟨rfl,⟨a2,cap2,fJ,hm2⟩⟩;have HS2:Hid _:=fJ;have wo:Hid _:=hm2);go_end0;refine⟨rfl,x1,a2,cap2,by rw[HL.out];exact HS2,oK.congr fun y=>?_,AZ.trans wo⟩;rw[Ld];exact⟨fun h=>h.elim .inl fun h=>.inr (.inl h),fun h=>h.elim .inl fun h=>.inr (h.resolve_right (HN y))⟩
theorem y30(C:CX)(hC:C.ok)(n:Nat)(ih:∀m,m<n->wL C m)(hk:(C.d.nd n).k=1):Au C 129 n:=by
 intro st ins x a cap P w hP;have hk':((C.u.fn C.f).nd n).k=1:=hk;have HN:Hid (∀y,¬oD C.u C.f n y):=Dk (IC (by omega) (by omega) (by omega)) (Ed (by omega) (by omega)) (Gf (by omega) (by omega));have h2:Hid ((C.d.nd n).k≠2):=by show _≠_;omega
 have YQ:Hid (Calls Tryz.prog 128 #[.pointer (some ⟨C.S,0,none⟩),.int .i64 (n:Int)] w fun e w'=>e=.returned (.tuple #[])/\xk C n st ins P a w w'):=VX C hC n ih (by omega) st ins x a cap P w hP;have HP:Hid (jV C n st ins x a cap P w):=hP;have AO:=hP.ss.AO;have hroom:=hP.room;have gG:=UL C hC n hP.lt _ (ah _);have fE:=(hC.node hP.lt).kn
 go_enter_defers Tryz.func129,Tryz.ntmps129
 go_wp2_with (go_at_call 128;refine YQ.mono ?_;rintro e w1 ⟨rfl,⟨x1,a1,cap1,fH,hl1,hm1⟩⟩;have qc:Hid _:=fH;have oK:Hid _:=hl1;have AZ:Hid _:=hm1);refine leaves_cons (f:=162) (args:=#[.pointer (some ⟨C.S,0,none⟩),.int .i64 (st.length:Int)]) (by simp) (by simp[go_sem]) ?_;refine(qe7 C _ ins x1 a1 cap1 st.length .returning _ (by rw[aU];omega) (by simp) qc.out).mono ?_;rintro e u' w2 ⟨rfl,rfl,fJ,hm2⟩;refine⟨_,results_none rfl _ _ _,rfl,x1,a1,cap1,?_,Least.congr oK fun y=>?_,AZ.trans hm2⟩
 ·rw[Em h2.out];rw[List.take_left] at fJ;exact fJ
 ·rw[Ld];exact⟨fun h=>h.elim .inl fun h=>.inr (.inl h),fun h=>h.elim .inl fun h=>.inr (h.resolve_right (HN y))⟩
theorem qh1(C:CX)(m:Nat)(ih:wL C m)(va:Option Addr)(vn vc:Nat)(r:Nat->Int)(st:List Int)(ins:Nat)(x:FT)(a:Option Addr)(cap:Nat)(P:FT->Prop)(w:World)(hm2:(C.d.nd m).k≠2)(hvn:vn<=1048576)(hroom:st.length<=700000000000)(hS:SS C st ins x a cap w)(hI:oN C a w va vn r)(hL:Least P x)(hV:∀(a':Option Addr) (cap':Nat) (w':World),SS C (st++pK r C.d.vn vn) ins x a' cap' w'->jV C m (st++pK r C.d.vn vn) ins x a' cap' P w'):Calls Tryz.prog 163 #[.pointer (some ⟨C.S,0,none⟩),.slice va vn vc,.int .i64 (m:Int)] w fun e w'=>e=.returned (.tuple #[])/\mg C st ins (fun y=>P y\/nX C.u C.f m y) a w w':=by
 have HS:Hid (SS C st ins x a cap w):=hS;have HI:Hid (oN C a w va vn r):=hI;have HL:Hid (Least P x):=hL;have HV:Hid (∀(a':Option Addr) (cap':Nat) (w':World),SS C (st++pK r C.d.vn vn) ins x a' cap' w'->jV C m (st++pK r C.d.vn vn) ins x a' cap' P w'):=hV;have IH:Hid (wL C m):=ih;have h2:Hid ((C.d.nd m).k≠2):=hm2;have AO:=hS.AO;have gG:=NJ r C.d.vn vn
 go_enter_defers Tryz.func163,Tryz.ntmps163
 go_wp2_with (first|(go_at_call 138;refine(WM C st ins x a cap va vn vc r _ hvn hroom HS HI).mono ?_;rintro e w1 ⟨rfl,⟨a1,cap1,fH,hm1⟩⟩;have qc:Hid _:=fH;have AZ:Hid _:=hm1)|(go_at_call 139;refine(IH _ _ _ _ _ _ _ (HV _ _ _ qc)).mono ?_;rintro e w2 ⟨rfl,⟨x2,a2,cap2,fJ,hl2,hm2⟩⟩;have HS2:Hid _:=fJ;have HL2:Hid _:=hl2;have wo:Hid _:=hm2));have fM:=HS2.out;rw[Em h2.out] at fM;refine leaves_cons (f:=162) (args:=#[.pointer (some ⟨C.S,0,none⟩),.int .i64 (st.length:Int)]) (by simp) (by simp[go_sem]) ?_;refine(qe7 C _ ins x2 a2 cap2 st.length .returning _ (by rw[aU];omega) (by simp) fM).mono ?_;rintro e u' w3 ⟨rfl,rfl,fO,hm4⟩;refine⟨_,results_none rfl _ _ _,rfl,x2,a2,cap2,?_,HL2,(AZ.trans wo).trans hm4⟩;rw[List.take_left] at fO;exact fO
theorem VO{C:CX}(hC:C.ok){st:List Int}{ins:Nat}{x:FT}{a:Option Addr}{cap:Nat}{w:World}(h:SS C st ins x a cap w){n j c b o:Nat}(hn:n<C.d.nn)(hj:j<(C.d.nd n).kn)(e:(C.fa.nas n).ka=some ⟨b,o,none⟩)(hc:(C.d.nd n).c j=(c:Int)):w.cell? ⟨b,o+j,none⟩=some (.int .i64 (c:Int)):=by
 obtain⟨b',o',e',_,_,g⟩:=jd (((h.fns hC).2 C.f hC.f).2.2.2 n hn).2 hj;have e2:some (⟨b,o,none⟩:Addr)=some ⟨b',o',none⟩:=e.symm.trans e'
 cases e2;rw[<-hc];exact g
theorem yk4{u:UD}{f n c0 c1:Nat}(hk:((u.fn f).nd n).kn=2)(h0:((u.fn f).nd n).c 0=(c0:Int))(h1:((u.fn f).nd n).c 1=(c1:Int))(hN:∀y,¬oD u f n y)(P:FT->Prop)(y:FT):((P y\/nX u f c0 y)\/nX u f c1 y)↔(P y\/nX u f n y):=by
 rw[Ld u f n y,hk,O1 u f n 1 c1 h1 y,O1 u f n 0 c0 h0 y];constructor
 ·rintro((h|h)|h)
  ·exact .inl h
  ·exact .inr (.inl (.inl (.inr h)))
  ·exact .inr (.inl (.inr h))
 ·rintro(h|((h|h)|h)|h)
  ·exact .inl (.inl h)
  ·exact absurd h (VZ _ _ _ _)
  ·exact .inl (.inr h)
  ·exact .inr h
  ·exact absurd h (hN y)
theorem yh1(C:CX)(hC:C.ok)(n:Nat)(ih:∀m,m<n->wL C m)(hk:(C.d.nd n).k=12):Au C 132 n:=by
 intro st ins x a cap P w hP;have hk':((C.u.fn C.f).nd n).k=12:=hk;have HN:Hid (∀y,¬oD C.u C.f n y):=Dk (IC (by omega) (by omega) (by omega)) (Ed (by omega) (by omega)) (Gf (by omega) (by omega));have hn:=hP.lt;have hnn:=hC.nn;have fE:(C.d.nd n).kn=2:=(hC.node hn).two (by omega);have hc0:=(hC.node hn).kids 0 (by omega);have hc1:=(hC.node hn).kids 1 (by omega);obtain⟨k0,hk0⟩:∃c:Nat,(C.d.nd n).c 0=c:=⟨((C.d.nd n).c 0).toNat,by omega⟩;obtain⟨k1,hk1⟩:∃c:Nat,(C.d.nd n).c 1=c:=⟨((C.d.nd n).c 1).toNat,by omega⟩;have hlt0:k0<n:=by omega
 have hlt1:k1<n:=by omega
 have h2:Hid ((C.d.nd n).k≠2):=by show _≠_;omega
 have h20:Hid ((C.d.nd k0).k≠2):=by
  have h:=(hC.node hn).lets (by omega) 0 (by omega);rw[hk0,bV] at h;exact h
 have h21:Hid ((C.d.nd k1).k≠2):=by
  have h:=(hC.node hn).lets (by omega) 1 (by omega);rw[hk1,bV] at h;exact h
 have IH0:Hid (wL C k0):=ih k0 hlt0;have IH1:Hid (wL C k1):=ih k1 hlt1;have HP:Hid (jV C n st ins x a cap P w):=hP;have HC:Hid C.ok:=hC;have hrn:=hC.rn hn;have hroom:=hP.room;have HQ:Hid (∀y,((P y\/nX C.u C.f k0 y)\/nX C.u C.f k1 y)↔(P y\/nX C.u C.f n y)):=yk4 fE hk0 hk1 HN.out P;have U1:Hid (∀(x':FT) (a':Option Addr) (cap':Nat) (P':FT->Prop) (w':World),SS C st ins x' a' cap' w'->Least P' x'->jV C k0 st ins x' a' cap' P' w'):=fun x' a' cap' P' w' hs hl=>
  hP.kid hC (j:=0) (by omega) hk0 hs (ji.plain hC.tree ⟨hn,by omega,hk0⟩ (by omega) (fun _=>by omega) hP.stack) (hP.yX hC (by omega) hk0 (fun h=>by omega)) (by omega) (by omega) hl
 have HV1:Hid (∀(x':FT) (a':Option Addr) (cap':Nat) (P':FT->Prop) (w':World),SS C (st++pK (C.d.nd n).r C.d.vn (C.d.nd n).rn) ins x' a' cap' w'->Least P' x'->jV C k1 (st++pK (C.d.nd n).r C.d.vn (C.d.nd n).rn) ins x' a' cap' P' w'):=fun x' a' cap' P' w' hs hl=>
  hP.kid hC (j:=1) (by omega) hk1 hs (by rw[z73];exact ji.last hC.tree ⟨hn,by omega,hk1⟩ (by omega) (by omega) hP.stack) (hP.yX hC (by omega) hk1 (fun h=>by omega)) (by rw[aU];have:=NJ (C.d.nd n).r C.d.vn (C.d.nd n).rn;omega) (by omega) hl
 have c8:=hP.ss.c8;obtain⟨b,off,e0,_,hb,d0,d1,d2,d3,d4,d5,d6,d7⟩:=jU ((hP.ss.fns hC).2 C.f hC.f).2.2.1 hn;obtain⟨b2,o2,e2,_,eG,g0⟩:=jd (((hP.ss.fns hC).2 C.f hC.f).2.2.2 n hn).2 (k:=0) (show 0<(C.d.nd n).kn by omega);rw[e0] at c8;rw[show C.fas C.f=C.fa from rfl] at e2 d6 d7;rw[show(C.u.fn C.f).nd n=C.d.nd n from rfl] at d0 d1 d2 d3 d4 d5 d6 d7;rw[e2] at d7;rw[show((C.u.fn C.f).nd n).c 0=(k0:Int) from hk0] at g0;rw[fE] at d7;have HE2:Hid ((C.fa.nas n).ka=some ⟨b2,o2,none⟩):=e2;have Qs:Hid (∀(st:List Int) (ins:Nat) (x:FT) (a:Option Addr) (cap:Nat) (w:World),SS C st ins x a cap w->w.cell? ⟨b2,o2,none⟩=some (.int .i64 (k0:Int))/\w.cell? ⟨b2,o2+1,none⟩=some (.int .i64 (k1:Int))):=fun st ins x a cap w h=>⟨VO hC h hn (by omega) e2 hk0,VO hC h hn (by omega) e2 hk1⟩;clear hP hC ih hk hk' hc0 hc1 e0 e2 fE g0;go_in
 go_upto_region 1 with fail
 obtain⟨w5,hw5⟩:∃w5,w5=w.alloc (.cells #[.int .i64 (C.d.nd n).k,.int .i64 (C.d.nd n).l,.int .i64 (C.d.nd n).o,.int .i64 (C.d.nd n).n,.float .f64 (C.d.nd n).f,.string (C.d.nd n).s,.slice (C.fa.nas n).ra (C.d.nd n).rn (C.fa.nas n).rc,.slice (some ⟨b2,o2,none⟩) 2 (C.fa.nas n).kc] 48):=⟨_,rfl⟩;have U4:Hid (SS C st ins x a cap w5):=by show SS _ _ _ _ _ _ _;rw[hw5];exact HP.ss.alloc _
 have YJ:Hid (Mv C.S C.T a w a w5):=by show Mv _ _ _ _ _ _;rw[hw5];exact(Mv.refl _ _ _ _).alloc _
 have PZ:Hid (Has w5 w.heap.size #[.int .i64 (C.d.nd n).k,.int .i64 (C.d.nd n).l,.int .i64 (C.d.nd n).o,.int .i64 (C.d.nd n).n,.float .f64 (C.d.nd n).f,.string (C.d.nd n).s,.slice (C.fa.nas n).ra (C.d.nd n).rn (C.fa.nas n).rc,.slice (some ⟨b2,o2,none⟩) 2 (C.fa.nas n).kc]):=by show Has _ _ _;rw[hw5];exact Has.new _ _ _
 have HO:Hid (w.heap.size≠C.S/\w.heap.size≠C.T/\ig a≠some w.heap.size):=HP.ss.other (ah _);rw[<-hw5];clear hw5 c8 d0 d1 d2 d3 d4 d5 d6 d7;have x7:=PZ.cell 7 rfl;obtain⟨g0,g1⟩:=Qs.out _ _ _ _ _ _ U4.out
 go_upto_region 2 with(go_at_call 139;refine(IH0 _ _ _ _ _ _ _ (U1 _ _ _ _ _ U4 HP.least)).mono ?_;rintro e w6 ⟨rfl,⟨x6,a6,cap6,hs6,Du,hm6⟩⟩;rw[Em h20.out] at hs6;have CP:Hid (SS C st ins x6 a6 cap6 w6):=hs6;have Me:Hid (Least (fun y=>P y\/nX C.u C.f k0 y) x6):=Du;have Qp:Hid (Mv C.S C.T a w5 a6 w6):=hm6;clear hs6 Du hm6)
 have JZ:=Qp.has PZ.out HO.1 HO.2.1 HO.2.2;clear x7 g0 g1;have x7:=JZ.cell 7 rfl;have x6':=JZ.cell 6 rfl;obtain⟨g0,g1⟩:=Qs.out _ _ _ _ _ _ CP.out;clear JZ
 go_region_with (go_at_call 163;refine(qh1 C k1 IH1.out _ _ _ (C.d.nd n).r st ins x6 a6 cap6 (fun y=>P y\/nX C.u C.f k0 y) _ h21.out hrn (by omega) (by first|exact CP.out|exact CP.drew) (oN.node HC.out (by first|exact CP.out|exact CP.drew) hn) Me.out (fun a' cap' w' hs=>HV1.out _ _ _ _ _ hs Me.out)).mono ?_;rintro e w7 ⟨rfl,⟨I8,a7,wV,hs7,Js,sH⟩⟩;have Af:Hid (SS C st ins I8 a7 wV w7):=hs7;have Qr:Hid (Least (fun y=>(P y\/nX C.u C.f k0 y)\/nX C.u C.f k1 y) I8):=Js;have Qo:Hid (Mv C.S C.T a6 w6 a7 w7):=(by first|exact sH|exact(Mv.refl _ _ _ _).drew.trans sH);clear hs7 Js sH)
 all_goals go_end0
 all_goals exact⟨rfl,I8,a7,wV,by rw[Em h2.out];exact Af,Qr.congr HQ,(YJ.trans Qp).trans Qo⟩
theorem ya1{u:UD}{f n c m:Nat}(hk:((u.fn f).nd n).kn=m+1)(h0:((u.fn f).nd n).c m=(c:Int))(hN:∀y,¬oD u f n y)(P:FT->Prop)(y:FT):((P y\/uO u f n m y)\/nX u f c y)↔(P y\/nX u f n y):=by
 rw[Ld u f n y,hk,O1 u f n m c h0 y];constructor
 ·rintro((h|h)|h)
  ·exact .inl h
  ·exact .inr (.inl (.inl h))
  ·exact .inr (.inl (.inr h))
 ·rintro(h|(h|h)|h)
  ·exact .inl (.inl h)
  ·exact .inl (.inr h)
  ·exact .inr h
  ·exact absurd h (hN y)
theorem VR(C:CX)(hC:C.ok)(n:Nat)(ih:∀m,m<n->wL C m)(hk:(C.d.nd n).k=6\/(C.d.nd n).k=7\/(C.d.nd n).k=8):Au C 131 n:=by
 intro st ins x a cap P w hP;have hk':((C.u.fn C.f).nd n).k=6\/((C.u.fn C.f).nd n).k=7\/((C.u.fn C.f).nd n).k=8:=hk;have HN:Hid (∀y,¬oD C.u C.f n y):=Dk (IC (by omega) (by omega) (by omega)) (Ed (by omega) (by omega)) (Gf (by omega) (by omega));have hn:=hP.lt;have hnn:=hC.nn;have hsh:=hC.node hn;obtain⟨m,hm⟩:∃m:Nat,(C.d.nd n).kn=m+1:=⟨(C.d.nd n).kn-1,by have:=hsh.two;have:=hsh.four;omega⟩;have hm2:m<=3:=by have:=hsh.two;have:=hsh.four;omega
 have hcm:=hsh.kids m (by omega);obtain⟨kl,hkl⟩:∃c:Nat,(C.d.nd n).c m=c:=⟨((C.d.nd n).c m).toNat,by omega⟩;have XB:kl<n:=by omega
 have h2:Hid ((C.d.nd n).k≠2):=by show _≠_;omega
 have h2l:Hid ((C.d.nd kl).k≠2):=by
  have h:=hsh.lets (by omega) m (by omega);rw[hkl,bV] at h;exact h
 have IHl:Hid (wL C kl):=ih kl XB;have IH:Hid (∀m,m<n->wL C m):=ih;have HP:Hid (jV C n st ins x a cap P w):=hP;have HC:Hid C.ok:=hC;have hrn:=hC.rn hn;have hroom:=hP.room;have a02:=hP.deep;have HQ:Hid (∀y,((P y\/uO C.u C.f n m y)\/nX C.u C.f kl y)↔(P y\/nX C.u C.f n y)):=ya1 hm hkl HN.out P;have HVl:Hid (∀(x':FT) (a':Option Addr) (cap':Nat) (P':FT->Prop) (w':World),SS C (st++pK (C.d.nd n).r C.d.vn (C.d.nd n).rn) (ins+1) x' a' cap' w'->Least P' x'->jV C kl (st++pK (C.d.nd n).r C.d.vn (C.d.nd n).rn) (ins+1) x' a' cap' P' w'):=fun x' a' cap' P' w' hs hl=>
  hP.kid hC (j:=m) (by omega) hkl hs (by
   by_cases e:(C.d.nd n).k=6
   ·have hr0:(C.d.nd n).rn=0:=bG fun h=>by have:=hsh.refs h;omega
    rw[hr0,z71,bM];exact ji.plain hC.tree ⟨hn,by omega,hkl⟩ (by omega) (fun h=>by omega) hP.stack
   ·rw[z73];exact ji.last hC.tree ⟨hn,by omega,hkl⟩ (by omega) (by omega) hP.stack) (by rw[yI.iff hC.tree ⟨hn,by omega,hkl⟩];exact⟨fun _=>.inl ⟨hk,by omega⟩,fun _=>by omega⟩) (by rw[aU];have:=NJ (C.d.nd n).r C.d.vn (C.d.nd n).rn;omega) (by omega) hl
 have HVK:Hid (∀(j c:Nat),j<m->(C.d.nd n).c j=(c:Int)->∀(x':FT) (a':Option Addr) (cap':Nat) (P':FT->Prop) (w':World),SS C st ins x' a' cap' w'->Least P' x'->jV C c st ins x' a' cap' P' w'):=fun j c hj hc x' a' cap' P' w' hs hl=>
  hP.kid hC (j:=j) (by omega) hc hs (ji.plain hC.tree ⟨hn,by omega,hc⟩ (by omega) (fun _=>by omega) hP.stack) (hP.yX hC (by omega) hc (fun h=>by omega)) (by omega) (by omega) hl
 have HLT:Hid (∀(j c:Nat),j<m->(C.d.nd n).c j=(c:Int)->(C.d.nd c).k≠2):=fun j c hj hc=>by
  have h:=hsh.lets (by omega) j (by omega);rw[hc,bV] at h;exact h
 have HKN:Hid (∀j,j<m->0<=(C.d.nd n).c j/\(C.d.nd n).c j<n):=fun j hj=>hsh.kids j (by omega);have c8:=hP.ss.c8;obtain⟨b,off,e0,_,hb,d0,d1,d2,d3,d4,d5,d6,d7⟩:=jU ((hP.ss.fns hC).2 C.f hC.f).2.2.1 hn;obtain⟨b2,o2,e2,_,eG,g0⟩:=jd (((hP.ss.fns hC).2 C.f hC.f).2.2.2 n hn).2 (k:=0) (show 0<(C.d.nd n).kn by omega);rw[e0] at c8;rw[show C.fas C.f=C.fa from rfl] at e2 d6 d7;rw[show(C.u.fn C.f).nd n=C.d.nd n from rfl] at d0 d1 d2 d3 d4 d5 d6 d7;rw[e2,hm] at d7;have gy:m+1<=(C.fa.nas n).kc:=by have:=hC.cap.2 n hn;omega
 have Qs:Hid (∀(st:List Int) (ins:Nat) (x:FT) (a:Option Addr) (cap:Nat) (w:World),SS C st ins x a cap w->∀(j c:Nat),j<m+1->(C.d.nd n).c j=(c:Int)->w.cell? ⟨b2,o2+j,none⟩=some (.int .i64 (c:Int))):=fun st ins x a cap w h j c hj hc=>VO hC h hn (by omega) e2 hc;have HKL:Hid ((C.d.nd n).c m=(kl:Int)):=hkl;clear hP hC ih hk hk' hcm e0 e2 hm g0 hsh hkl;go_in
 go_upto_region 1 with fail
 obtain⟨w5,hw5⟩:∃w5,w5=w.alloc (.cells #[.int .i64 (C.d.nd n).k,.int .i64 (C.d.nd n).l,.int .i64 (C.d.nd n).o,.int .i64 (C.d.nd n).n,.float .f64 (C.d.nd n).f,.string (C.d.nd n).s,.slice (C.fa.nas n).ra (C.d.nd n).rn (C.fa.nas n).rc,.slice (some ⟨b2,o2,none⟩) (m+1) (C.fa.nas n).kc] 48):=⟨_,rfl⟩;have U4:Hid (SS C st ins x a cap w5):=by show SS _ _ _ _ _ _ _;rw[hw5];exact HP.ss.alloc _
 have YJ:Hid (Mv C.S C.T a w a w5):=by show Mv _ _ _ _ _ _;rw[hw5];exact(Mv.refl _ _ _ _).alloc _
 have PZ:Hid (Has w5 w.heap.size #[.int .i64 (C.d.nd n).k,.int .i64 (C.d.nd n).l,.int .i64 (C.d.nd n).o,.int .i64 (C.d.nd n).n,.float .f64 (C.d.nd n).f,.string (C.d.nd n).s,.slice (C.fa.nas n).ra (C.d.nd n).rn (C.fa.nas n).rc,.slice (some ⟨b2,o2,none⟩) (m+1) (C.fa.nas n).kc]):=by show Has _ _ _;rw[hw5];exact Has.new _ _ _
 have HO:Hid (w.heap.size≠C.S/\w.heap.size≠C.T/\ig a≠some w.heap.size):=HP.ss.other (ah _);rw[<-hw5];clear hw5 c8 d0 d1 d2 d3 d4 d5 d6 d7;have x7:=PZ.cell 7 rfl;go_wp2_with fail;clear x7
 go_loopw [25] (fun i wr=>∃(k:Nat) (x':FT) (a':Option Addr) (cap':Nat),k<=m/\i=.int .i64 k/\Hid (SS C st ins x' a' cap' wr)/\Hid (Least (fun y=>P y\/uO C.u C.f n k y) x')/\Hid (Mv C.S C.T a w5 a' wr)) (fun i _=>m-(intOf i).toNat)
 case atStart=>exact⟨0,x,a,cap,aF _,rfl,U4,HP.least.congr fun y=>⟨.inl,fun h=>h.resolve_right (VZ _ _ _ _)⟩,Mv.refl _ _ _ _⟩
 case round=>
  obtain⟨k,x',a',cap',hk,rfl,HS,HL,HM⟩:=hrel;by_cases hkm:k<m
  ·have hc:=HKN.out k hkm;obtain⟨c,hcc⟩:∃c:Nat,(C.d.nd n).c k=c:=⟨((C.d.nd n).c k).toNat,by omega⟩;have hcn:c<n:=by omega
   have g0:=Qs.out _ _ _ _ _ _ HS.out k c (by omega) hcc;have HV:Hid (Calls Tryz.prog 139 #[.pointer (some ⟨C.S,0,none⟩),.int .i64 (c:Int)] wr fun e w'=>e=.returned (.tuple #[])/\mg C (st++leaves C c) ins (fun y=>(P y\/uO C.u C.f n k y)\/nX C.u C.f c y) a' wr w'):=IH.out c hcn _ _ _ _ _ _ _ (HVK.out k c hkm hcc _ _ _ _ _ HS.out HL.out);have HE:Hid (st++leaves C c=st):=Em (HLT.out k c hkm hcc) st;have HQk:Hid (∀y,((P y\/uO C.u C.f n k y)\/nX C.u C.f c y)↔(P y\/uO C.u C.f n (k+1) y)):=fun y=>by rw[O1 C.u C.f n k c hcc y,or_assoc]
   clear hc hcc;go_wp2_with (go_at_call 139;refine HV.mono ?_;rintro e w9 ⟨rfl,⟨x9,a9,yC,hs9,TA,LC⟩⟩;rw[HE.out] at hs9;have Q9:Hid (SS C st ins x9 a9 yC w9):=hs9;have YN:Hid (Least (fun y=>(P y\/uO C.u C.f n k y)\/nX C.u C.f c y) x9):=TA;have Qn:Hid (Mv C.S C.T a' wr a9 w9):=LC;clear hs9 TA LC);go_roundw
   case rel=>exact⟨k+1,x9,a9,yC,by omega,by go_num,Q9,YN.congr HQk.out,HM.trans Qn.out⟩
   case measure=>simp[intOf];omega
  ·obtain rfl:k=m:=by omega
   have JD:=HS.JD;have z:=HS.fz
   go_upto_region 8 with fail
   obtain⟨w6,hw6⟩:∃w6,w6=wr.setCell ⟨C.S,50,none⟩ (.int .i64 ((ins:Int)+1)):=⟨_,rfl⟩;have CP:Hid (SS C st (ins+1) x' a' cap' w6):=by
    show SS _ _ _ _ _ _ _;rw[hw6];have h:=HS.ins (ins+1)
    rwa [show(((ins+1:Nat)):Int)=(ins:Int)+1 by omega] at h
   have Qp:Hid (Mv C.S C.T a w5 a' w6):=by show Mv _ _ _ _ _ _;rw[hw6];exact HM.set (p:=⟨C.S,50,none⟩) (.inl rfl) _
   rw[<-hw6];clear hw6 JD z;have JZ:=Qp.has PZ.out HO.1 HO.2.1 HO.2.2;have y7:=JZ.cell 7 rfl;have y6:=JZ.cell 6 rfl;have gl:=Qs.out _ _ _ _ _ _ CP.out k kl (by omega) HKL.out;clear JZ
   go_region_with (go_at_call 163;refine(qh1 C kl IHl.out _ _ _ (C.d.nd n).r st (ins+1) x' a' cap' (fun y=>P y\/uO C.u C.f n k y) _ h2l.out hrn (by omega) (by first|exact CP.out|exact CP.drew) (oN.node HC.out (by first|exact CP.out|exact CP.drew) hn) HL.out (fun a' cap' w' hs=>HVl.out _ _ _ _ _ hs HL.out)).mono ?_;rintro e w7 ⟨rfl,⟨I8,a7,wV,hs7,Js,sH⟩⟩;have Af:Hid (SS C st (ins+1) I8 a7 wV w7):=hs7;have Qr:Hid (Least (fun y=>(P y\/uO C.u C.f n k y)\/nX C.u C.f kl y) I8):=Js;have Qo:Hid (Mv C.S C.T a' w6 a7 w7):=(by first|exact sH|exact(Mv.refl _ _ _ _).drew.trans sH);clear hs7 Js sH)
   all_goals
    have JD:w7.cell? ⟨C.S,50,none⟩=some (.int .i64 ((ins:Int)+1)):=by
     have h:=Af.JD
     rwa [show(((ins+1:Nat)):Int)=(ins:Int)+1 by omega] at h
    have z:=Af.fz;go_wp2_with fail;go_end0;exact⟨rfl,I8,a7,wV,by rw[Em h2.out];exact Af.ins ins,Qr.congr HQ,((YJ.trans Qp).trans Qo).set (p:=⟨C.S,50,none⟩) (.inl rfl) _⟩
theorem yx4(k:Nat)(hk:k<39)(h:k≠1/\k≠2/\k≠6/\k≠7/\k≠8/\k≠9/\k≠10/\k≠12/\k≠26/\k≠27/\k≠36/\k≠37):DY k=128:=by
 rcases(show k=0\/k=1\/k=2\/k=3\/k=4\/k=5\/k=6\/k=7\/k=8\/k=9\/k=10\/k=11\/k=12\/k=13\/k=14\/k=15\/k=16\/k=17\/k=18\/k=19\/k=20\/k=21\/k=22\/k=23\/k=24\/k=25\/k=26\/k=27\/k=28\/k=29\/k=30\/k=31\/k=32\/k=33\/k=34\/k=35\/k=36\/k=37\/k=38 by omega) with rfl|rfl|rfl|rfl|rfl|rfl|rfl|rfl|rfl|rfl|rfl|rfl|rfl|rfl|rfl|rfl|rfl|rfl|rfl|rfl|rfl|rfl|rfl|rfl|rfl|rfl|rfl|rfl|rfl|rfl|rfl|rfl|rfl|rfl|rfl|rfl|rfl|rfl|rfl<;>first|rfl|omega
theorem y46(C:CX)(hC:C.ok):∀n,n<C.d.nn->wL C n:=by
 intro n
 induction n using Nat.strongRecOn with
 |ind n ih=>
  intro hn;have ih':∀m,m<n->wL C m:=fun m hm=>ih m hm (by omega);refine yg9 C hC n ?_;have hsh:=(hC.node hn).kind;by_cases k1:(C.d.nd n).k=1
  ·rw[k1];exact y30 C hC n ih' k1
  by_cases k2:(C.d.nd n).k=2
  ·rw[k2];exact yl0 C hC n ih' k2
  by_cases k6:(C.d.nd n).k=6
  ·rw[k6];exact VR C hC n ih' (by omega)
  by_cases k7:(C.d.nd n).k=7
  ·rw[k7];exact VR C hC n ih' (by omega)
  by_cases k8:(C.d.nd n).k=8
  ·rw[k8];exact VR C hC n ih' (by omega)
  by_cases k12:(C.d.nd n).k=12
  ·rw[k12];exact yh1 C hC n ih' k12
  by_cases k9:(C.d.nd n).k=9
  ·rw[k9];exact ZO C hC n (by omega)
  by_cases k10:(C.d.nd n).k=10
  ·rw[k10];exact ZO C hC n (by omega)
  by_cases k26:(C.d.nd n).k=26
  ·rw[k26];exact z74 C hC n k26
  by_cases k27:(C.d.nd n).k=27
  ·rw[k27];exact yv8 C hC n k27
  by_cases Xj:(C.d.nd n).k=36
  ·rw[Xj];exact y02 C hC n Xj
  by_cases k37:(C.d.nd n).k=37
  ·rw[k37];exact y84 C hC n k37
  rw[yx4 (C.d.nd n).k.toNat (by omega) (by omega)];exact yc0 C hC n hn ih' ⟨k1,k2,k6,k7,k8,k12,k9,k10,k26,k27,Xj,k37⟩
abbrev yO(K:Nat->Value)(T:Nat)(u:UD)(f:Nat)(ua:Option Addr)(uc:Nat)(fa:FA):Array Value:=#[.slice ua u.n uc,.int .i64 (f:Int),.string (u.fn f).name,.int .i64 (u.fn f).line,.int .i64 (u.fn f).params,.bool (u.fn f).rest,.slice fa.va (u.fn f).vn fa.vc,.slice fa.ua (u.fn f).un fa.uc,.slice fa.na (u.fn f).nn fa.nc,K 0,K 1,K 2,K 3,K 4,K 5,K 6,K 7,K 8,K 9,K 10,K 11,K 12,K 13,K 14,K 15,K 16,K 17,K 18,K 19,K 20,K 21,K 22,K 23,K 24,K 25,K 26,K 27,K 28,K 29,K 30,K 31,K 32,K 33,K 34,K 35,K 36,K 37,K 38,.slice none 0 0,.slice (some ⟨T,0,none⟩) (u.fn f).vn (u.fn f).vn,.int .i64 0,.int .i64 0,.int .i64 0,.int .i64 0]
theorem yx9(K:Nat->Value)(T:Nat)(u:UD)(f:Nat)(ua:Option Addr)(uc:Nat)(fa:FA)(k:Nat)(hk:k<39)(v:Value):(yO K T u f ua uc fa).setIfInBounds (9+k) v=yO (fun j=>if j=k then v else K j) T u f ua uc fa:=by
 rcases(show k=0\/k=1\/k=2\/k=3\/k=4\/k=5\/k=6\/k=7\/k=8\/k=9\/k=10\/k=11\/k=12\/k=13\/k=14\/k=15\/k=16\/k=17\/k=18\/k=19\/k=20\/k=21\/k=22\/k=23\/k=24\/k=25\/k=26\/k=27\/k=28\/k=29\/k=30\/k=31\/k=32\/k=33\/k=34\/k=35\/k=36\/k=37\/k=38 by omega) with rfl|rfl|rfl|rfl|rfl|rfl|rfl|rfl|rfl|rfl|rfl|rfl|rfl|rfl|rfl|rfl|rfl|rfl|rfl|rfl|rfl|rfl|rfl|rfl|rfl|rfl|rfl|rfl|rfl|rfl|rfl|rfl|rfl|rfl|rfl|rfl|rfl|rfl|rfl<;>rfl
theorem j60(K:Nat->Value)(T:Nat)(u:UD)(f:Nat)(ua:Option Addr)(uc:Nat)(fa:FA)(k:Nat)(hk:k<39):(yO K T u f ua uc fa)[9+k]?=some (K k):=by
 rcases(show k=0\/k=1\/k=2\/k=3\/k=4\/k=5\/k=6\/k=7\/k=8\/k=9\/k=10\/k=11\/k=12\/k=13\/k=14\/k=15\/k=16\/k=17\/k=18\/k=19\/k=20\/k=21\/k=22\/k=23\/k=24\/k=25\/k=26\/k=27\/k=28\/k=29\/k=30\/k=31\/k=32\/k=33\/k=34\/k=35\/k=36\/k=37\/k=38 by omega) with rfl|rfl|rfl|rfl|rfl|rfl|rfl|rfl|rfl|rfl|rfl|rfl|rfl|rfl|rfl|rfl|rfl|rfl|rfl|rfl|rfl|rfl|rfl|rfl|rfl|rfl|rfl|rfl|rfl|rfl|rfl|rfl|rfl|rfl|rfl|rfl|rfl|rfl|rfl<;>rfl
theorem ZW{K K':Nat->Value}(h:∀j,j<39->K j=K' j)(T:Nat)(u:UD)(f:Nat)(ua:Option Addr)(uc:Nat)(fa:FA):yO K T u f ua uc fa=yO K' T u f ua uc fa:=by
 unfold yO;rw[h 0 (by omega),h 1 (by omega),h 2 (by omega),h 3 (by omega),h 4 (by omega),h 5 (by omega),h 6 (by omega),h 7 (by omega),h 8 (by omega),h 9 (by omega),h 10 (by omega),h 11 (by omega),h 12 (by omega),h 13 (by omega),h 14 (by omega),h 15 (by omega),h 16 (by omega),h 17 (by omega),h 18 (by omega),h 19 (by omega),h 20 (by omega),h 21 (by omega),h 22 (by omega),h 23 (by omega),h 24 (by omega),h 25 (by omega),h 26 (by omega),h 27 (by omega),h 28 (by omega),h 29 (by omega),h 30 (by omega),h 31 (by omega),h 32 (by omega),h 33 (by omega),h 34 (by omega),h 35 (by omega),h 36 (by omega),h 37 (by omega),h 38 (by omega)]
def Gu(S k:Nat):Nat->Value:=fun j=>if j<k then jE S 128 else .nilFunc
theorem yk7(S k:Nat)(j:Nat):(if j=k then jE S 128 else Gu S k j)=Gu S (k+1) j:=by
 unfold Gu;by_cases e:j=k
 ·rw[aO e,aO (by omega)]
 ·rw[au e];by_cases c:j<k
  ·rw[aO c,aO (by omega)]
  ·rw[au c,au (by omega)]
end
section
open Go.RowKit
theorem z84(P:Program)(w:World)(a:Addr)(m:Mode)(fn:Fn)(first captured:Array Value):(store a (.func fn first captured) m).run P w=stored P w a (.func fn first captured) m:=run_store P w a _ m rfl
theorem J4{w:World}{S:Nat}{A:Array Value}(h:OwnB w S A)(hA:A.size=54)(v0 v1 v2 v3 v4 v5 v6 v7 v8 v9 v10 v11:Value):OwnB ((((((((((((w.setCell ⟨S,10,none⟩ v0).setCell ⟨S,11,none⟩ v1).setCell ⟨S,15,none⟩ v2).setCell ⟨S,16,none⟩ v3).setCell ⟨S,17,none⟩ v4).setCell ⟨S,21,none⟩ v5).setCell ⟨S,18,none⟩ v6).setCell ⟨S,19,none⟩ v7).setCell ⟨S,35,none⟩ v8).setCell ⟨S,36,none⟩ v9).setCell ⟨S,45,none⟩ v10).setCell ⟨S,46,none⟩ v11) S ((((((((((((A.setIfInBounds 10 v0).setIfInBounds 11 v1).setIfInBounds 15 v2).setIfInBounds 16 v3).setIfInBounds 17 v4).setIfInBounds 21 v5).setIfInBounds 18 v6).setIfInBounds 19 v7).setIfInBounds 35 v8).setIfInBounds 36 v9).setIfInBounds 45 v10).setIfInBounds 46 v11):=((((((((((((h.set (o:=10) (by simp[hA]) v0).set (o:=11) (by simp[hA]) v1).set (o:=15) (by simp[hA]) v2).set (o:=16) (by simp[hA]) v3).set (o:=17) (by simp[hA]) v4).set (o:=21) (by simp[hA]) v5).set (o:=18) (by simp[hA]) v6).set (o:=19) (by simp[hA]) v7).set (o:=35) (by simp[hA]) v8).set (o:=36) (by simp[hA]) v9).set (o:=45) (by simp[hA]) v10).set (o:=46) (by simp[hA]) v11)
theorem yi7(S T:Nat)(u:UD)(f:Nat)(ua:Option Addr)(uc:Nat)(fa:FA):((((((((((((yO (Gu S 39) T u f ua uc fa).setIfInBounds 10 (jE S 129)).setIfInBounds 11 (jE S 130)).setIfInBounds 15 (jE S 131)).setIfInBounds 16 (jE S 131)).setIfInBounds 17 (jE S 131)).setIfInBounds 21 (jE S 132)).setIfInBounds 18 (jE S 133)).setIfInBounds 19 (jE S 133)).setIfInBounds 35 (jE S 134)).setIfInBounds 36 (jE S 135)).setIfInBounds 45 (jE S 136)).setIfInBounds 46 (jE S 137)=Bz S T u f ua uc fa (.slice none 0 0) 0 oI:=by
 rw[ZW (K:=Gu S 39) (K':=fun _=>jE S 128) (fun j hj=>aO hj)]
 kernel_rfl
attribute [local go_sem] iD z84
attribute [local go_sem ↓] Go.wp_at_zero Go.wp_at_succ
theorem qw2(L:Nat)(u:UD)(f:Nat)(a:Option Addr)(cap:Nat)(fas:Nat->FA)(w:World)(hf:f<u.n)(hvn:(u.fn f).vn<=200)(hT:jh L w u.n u.fn a fas):Calls Tryz.prog 81 #[vN u a cap,.int .i64 (f:Int)] w fun e w'=>∃S T,e=.returned (.pointer (some ⟨S,0,none⟩))/\SS ⟨S,T,L,w,u,f,a,cap,fas⟩ [] 0 oI none 0 w':=by
 have HT:Hid (jh L w u.n u.fn a fas):=hT;have HF:Hid (f<u.n):=hf;obtain⟨b,off,e0,_,hb,d0,d1,d2,d3,d4,d5,d6⟩:=jZ hT.1 hf;subst e0;have hmk:=fun v=>run_make_row' (P:=Tryz.prog) 45 3 (.int .i64 0) 8 Tryz.underlying45 QZ rfl .i64 .i64 (u.fn f).vn (by omega) (by omega) v;go_in
 go_upto_region 1 with fail
 have Md:Hid (∀w',Below (w.alloc (.cells #[.slice (some ⟨b,off,none⟩) u.n cap] 31)).heap.size (w.alloc (.cells #[.slice (some ⟨b,off,none⟩) u.n cap] 31)) w'->w'.cell? ⟨w.heap.size,0,none⟩=some (.slice (some ⟨b,off,none⟩) u.n cap)/\w'.cell? ⟨b,off+f*7,none⟩=some (.string (u.fn f).name)/\w'.cell? ⟨b,off+f*7+1,none⟩=some (.int .i64 (u.fn f).line)/\w'.cell? ⟨b,off+f*7+2,none⟩=some (.int .i64 (u.fn f).params)/\w'.cell? ⟨b,off+f*7+3,none⟩=some (.bool (u.fn f).rest)/\w'.cell? ⟨b,off+f*7+4,none⟩=some (.slice (fas f).va (u.fn f).vn (fas f).vc)/\w'.cell? ⟨b,off+f*7+5,none⟩=some (.slice (fas f).ua (u.fn f).un (fas f).uc)/\w'.cell? ⟨b,off+f*7+6,none⟩=some (.slice (fas f).na (u.fn f).nn (fas f).nc)):=fun w' hw=>by
  obtain⟨b',off',e1,_,_,h⟩:=jZ (HT.below (iq (q01 _ _) hw)).1 HF.out
  cases e1;exact⟨(Has.made hw).cell 0 rfl,h⟩
 refine wp_region_held_drew (S:=fun w'=>w'.cell? ⟨w.heap.size,0,none⟩=some (.slice (some ⟨b,off,none⟩) u.n cap)/\w'.cell? ⟨b,off+f*7,none⟩=some (.string (u.fn f).name)/\w'.cell? ⟨b,off+f*7+1,none⟩=some (.int .i64 (u.fn f).line)/\w'.cell? ⟨b,off+f*7+2,none⟩=some (.int .i64 (u.fn f).params)/\w'.cell? ⟨b,off+f*7+3,none⟩=some (.bool (u.fn f).rest)/\w'.cell? ⟨b,off+f*7+4,none⟩=some (.slice (fas f).va (u.fn f).vn (fas f).vc)/\w'.cell? ⟨b,off+f*7+5,none⟩=some (.slice (fas f).ua (u.fn f).un (fas f).uc)/\w'.cell? ⟨b,off+f*7+6,none⟩=some (.slice (fas f).na (u.fn f).nn (fas f).nc)) (by kernel_rfl) (Md.out _ (ay _ _).drew) (fun iI=>?_);refine wpAnyH_take (i:=0) (oi:=⟨some 7,_,_,_,_,_⟩) (v:=?v1) rfl (by kernel_rfl) (by kernel_rfl) (by kernel_rfl) (fun _ _ _ h=>h) (Or.inl ⟨by rfl,?hy1⟩) (by assumption) ?yQ
 case hy1=>(intro wz hSw;(try dsimp only at hSw);go_simp<;>with_reducible rfl)
 try simp only[Act.put,iT,iR,iQ]
 refine wpAnyH_take (i:=1) (oi:=⟨some 8,_,_,_,_,_⟩) (v:=?v2) rfl (by kernel_rfl) (by kernel_rfl) (by kernel_rfl) (fun _ _ _ h=>h) (Or.inl ⟨by rfl,?hy2⟩) (by assumption) ?yP
 case hy2=>(intro wz hSw;(try dsimp only at hSw);go_simp<;>with_reducible rfl)
 try simp only[Act.put,iT,iR,iQ]
 refine wpAnyH_take (i:=2) (oi:=⟨some 9,_,_,_,_,_⟩) (v:=?v3) rfl (by kernel_rfl) (by kernel_rfl) (by kernel_rfl) (fun _ _ _ h=>h) (Or.inl ⟨by rfl,?hy3⟩) (by assumption) ?BD
 case hy3=>(intro wz hSw;(try dsimp only at hSw);go_simp<;>with_reducible rfl)
 try simp only[Act.put,iT,iR,iQ]
 refine wpAnyH_take (i:=3) (oi:=⟨some 10,_,_,_,_,_⟩) (v:=?v4) rfl (by kernel_rfl) (by kernel_rfl) (by kernel_rfl) (fun _ _ _ h=>h) (Or.inl ⟨by rfl,?hy4⟩) (by assumption) ?FX
 case hy4=>(intro wz hSw;(try dsimp only at hSw);go_simp<;>with_reducible rfl)
 try simp only[Act.put,iT,iR,iQ]
 refine wpAnyH_take (i:=4) (oi:=⟨some 11,_,_,_,_,_⟩) (v:=?v5) rfl (by kernel_rfl) (by kernel_rfl) (by kernel_rfl) (fun _ _ _ h=>h) (Or.inl ⟨by rfl,?Oz⟩) (by assumption) ?FW
 case Oz=>(intro wz hSw;(try dsimp only at hSw);go_simp<;>with_reducible rfl)
 try simp only[Act.put,iT,iR,iQ]
 refine wpAnyH_take (i:=5) (oi:=⟨some 12,_,_,_,_,_⟩) (v:=?v6) rfl (by kernel_rfl) (by kernel_rfl) (by kernel_rfl) (fun _ _ _ h=>h) (Or.inl ⟨by rfl,?Oy⟩) (by assumption) ?FV
 case Oy=>(intro wz hSw;(try dsimp only at hSw);go_simp<;>with_reducible rfl)
 try simp only[Act.put,iT,iR,iQ]
 refine wpAnyH_take (i:=6) (oi:=⟨some 13,_,_,_,_,_⟩) (v:=?v7) rfl (by kernel_rfl) (by kernel_rfl) (by kernel_rfl) (fun _ _ _ h=>h) (Or.inl ⟨by rfl,?Ox⟩) (by assumption) ?FU
 case Ox=>(intro wz hSw;(try dsimp only at hSw);go_simp<;>with_reducible rfl)
 try simp only[Act.put,iT,iR,iQ]
 refine wpAnyH_take (i:=7) (oi:=⟨some 14,_,_,_,_,_⟩) (v:=?v8) rfl (by kernel_rfl) (by kernel_rfl) (by kernel_rfl) (fun _ _ _ h=>h) (Or.inl ⟨by rfl,?Ov⟩) (by assumption) ?FQ
 case Ov=>(intro wz hSw;(try dsimp only at hSw);go_simp<;>with_reducible rfl)
 try simp only[Act.put,iT,iR,iQ]
 refine wpAnyH_take (i:=8) (oi:=⟨some 15,_,_,_,_,_⟩) (v:=?v9) rfl (by kernel_rfl) (by kernel_rfl) (by kernel_rfl) (fun _ _ _ h=>h) (Or.inl ⟨by rfl,?Xm⟩) (by assumption) ?Nu
 case Xm=>(intro wz hSw;(try dsimp only at hSw);go_simp<;>with_reducible rfl)
 try simp only[Act.put,iT,iR,iQ]
 refine wpAnyH_take (i:=9) (oi:=⟨some 16,_,_,_,_,_⟩) (v:=?v10) rfl (by kernel_rfl) (by kernel_rfl) (by kernel_rfl) (fun _ _ _ h=>h) (Or.inl ⟨by rfl,?Jk⟩) (by assumption) ?Iu
 case Jk=>(intro wz hSw;(try dsimp only at hSw);go_simp<;>with_reducible rfl)
 try simp only[Act.put,iT,iR,iQ]
 refine wpAnyH_take (i:=10) (oi:=⟨some 17,_,_,_,_,_⟩) (v:=?v11) rfl (by kernel_rfl) (by kernel_rfl) (by kernel_rfl) (fun _ _ _ h=>h) (Or.inl ⟨by rfl,?Jj⟩) (by assumption) ?Ir
 case Jj=>(intro wz hSw;(try dsimp only at hSw);go_simp<;>with_reducible rfl)
 try simp only[Act.put,iT,iR,iQ]
 refine wpAnyH_take (i:=11) (oi:=⟨some 18,_,_,_,_,_⟩) (v:=?v12) rfl (by kernel_rfl) (by kernel_rfl) (by kernel_rfl) (fun _ _ _ h=>h) (Or.inl ⟨by rfl,?Ji⟩) (by assumption) ?Iq
 case Ji=>(intro wz hSw;(try dsimp only at hSw);go_simp<;>with_reducible rfl)
 try simp only[Act.put,iT,iR,iQ]
 refine wpAnyH_take (i:=12) (oi:=⟨some 19,_,_,_,_,_⟩) (v:=?v13) rfl (by kernel_rfl) (by kernel_rfl) (by kernel_rfl) (fun _ _ _ h=>h) (Or.inl ⟨by rfl,?Jh⟩) (by assumption) ?Ip
 case Jh=>(intro wz hSw;(try dsimp only at hSw);go_simp<;>with_reducible rfl)
 try simp only[Act.put,iT,iR,iQ]
 refine wpAnyH_take (i:=13) (oi:=⟨some 20,_,_,_,_,_⟩) (v:=?v14) rfl (by kernel_rfl) (by kernel_rfl) (by kernel_rfl) (fun _ _ _ h=>h) (Or.inl ⟨by rfl,?Jg⟩) (by assumption) ?Io
 case Jg=>(intro wz hSw;(try dsimp only at hSw);go_simp<;>with_reducible rfl)
 try simp only[Act.put,iT,iR,iQ]
 refine wpAnyH_ready (rs:=[14]) (by kernel_rfl) (by simp) ?_;refine AllReadyH.cons (o:=⟨some 21,_,_,_,_,_⟩) rfl (fun K hK=>?_) AllReadyH.nil;go_simp;refine hK.out _ _ (Md _ ((q01 _ _).drew)) (fun hHeld=>?_);have iI:=hHeld;refine wpAnyH_take (i:=15) (oi:=⟨some 22,_,_,_,_,_⟩) (v:=?v16) rfl (by kernel_rfl) (by kernel_rfl) (by kernel_rfl) (fun _ _ _ h=>h) (Or.inl ⟨by rfl,?Xo⟩) (by assumption) ?VF
 case Xo=>(intro wz hSw;(try dsimp only at hSw);go_simp<;>with_reducible rfl)
 try simp only[Act.put,iT,iR,iQ]
 refine wpAnyH_ready (rs:=[16]) (by kernel_rfl) (by simp) ?_;refine AllReadyH.cons (o:=⟨some 23,_,_,_,_,_⟩) rfl (fun K hK=>?_) AllReadyH.nil;go_simp;refine hK.out _ _ (Md.out _ (((q01 _ _).alloc (by simp) _).drew)) (fun hHeld=>?_);have iI:=hHeld;refine wpAnyH_take (i:=17) (oi:=⟨some 5,_,_,_,_,_⟩) (v:=?v18) rfl (by kernel_rfl) (by kernel_rfl) (by kernel_rfl) (fun _ _ _ h=>h) (Or.inl ⟨by rfl,?Jf⟩) (by assumption) ?Il
 case Jf=>(intro wz hSw;(try dsimp only at hSw);go_simp<;>with_reducible rfl)
 try simp only[Act.put,iT,iR,iQ]
 refine wpAnyH_done (by kernel_rfl) ?_ _;obtain⟨w1,fQ⟩:∃w1,w1=(((w.alloc (.cells #[.slice (some ⟨b,off,none⟩) u.n cap] 31)).alloc (.cells (madeCells #[.int .i64 0] (u.fn f).vn) 3)).alloc (.cells (yO (fun _=>.nilFunc) (w.heap.size+1) u f (some ⟨b,off,none⟩) cap (fas f)) 216)).drew:=⟨_,rfl⟩;have pJ:Hid (OwnB w1 (w.heap.size+1 + 1) (yO (Gu (w.heap.size+1 + 1) 0) (w.heap.size+1) u f (some ⟨b,off,none⟩) cap (fas f))):=by
  show OwnB _ _ _;have h:=OwnB.new ((w.alloc (.cells #[.slice (some ⟨b,off,none⟩) u.n cap] 31)).alloc (.cells (madeCells #[.int .i64 0] (u.fn f).vn) 3)) (yO (fun _=>.nilFunc) (w.heap.size+1) u f (some ⟨b,off,none⟩) cap (fas f)) 216;rw[show((w.alloc (.cells #[.slice (some ⟨b,off,none⟩) u.n cap] 31)).alloc (.cells (madeCells #[.int .i64 0] (u.fn f).vn) 3)).heap.size=w.heap.size+1 + 1 by simp] at h;rw[fQ];exact h
 have gW:Hid (kP w1 (w.heap.size+1) (u.fn f).vn (cnt [])):=by
  have h:=(NG (w.alloc (.cells #[.slice (some ⟨b,off,none⟩) u.n cap] 31)) (.int .i64 0) 3 (n:=(u.fn f).vn) (b:=w.heap.size+1) (by simp)).alloc (.cells (yO (fun _=>.nilFunc) (w.heap.size+1) u f (some ⟨b,off,none⟩) cap (fas f)) 216);rw[fQ];exact h
 have fB:Hid (gZ w w1):=by show Below _ _ _;rw[fQ];exact(xW _ _ _ _).drew
 simp only[yO] at fQ;rw[<-fQ];have hmf:∀(fn:Fn) (first cap:Array Value) (w:World),(Instr.makeFunc fn first cap).run Tryz.prog w=.ok (.func fn first cap) w:=fun _ _ _ _=>rfl;go_wp2_with fail
 go_loopw [24] (fun i wr=>∃(k:Nat),k<=39/\i=.int .i64 k/\Hid (OwnB wr (w.heap.size+1 + 1) (yO (Gu (w.heap.size+1 + 1) k) (w.heap.size+1) u f (some ⟨b,off,none⟩) cap (fas f)))/\Hid (oU (w.heap.size+1 + 1) w1 wr)) (fun i _=>39-(intOf i).toNat)
 case atStart=>exact⟨0,aF _,rfl,pJ,oU.refl _ _⟩
 case round=>
  obtain⟨k,hk,rfl,HO,HTo⟩:=hrel;by_cases fE:k<39
  ·have g0:=HO.1.cell (9+k) (j60 _ _ _ _ _ _ _ k fE);have z:=HO.2;have zy:Hid (OwnB (wr.setCell ⟨w.heap.size+1 + 1,9+k,none⟩ (jE (w.heap.size+1 + 1) 128)) (w.heap.size+1 + 1) (yO (Gu (w.heap.size+1 + 1) (k+1)) (w.heap.size+1) u f (some ⟨b,off,none⟩) cap (fas f))):=by
    have h:=HO.set (o:=9+k) (by show 9+k<54;omega) (jE (w.heap.size+1 + 1) 128);rw[yx9 _ _ _ _ _ _ _ k fE,ZW (fun j _=>yk7 (w.heap.size+1 + 1) k j)] at h;exact h
   go_wp2_with fail;go_roundw
   case rel=>exact⟨k+1,by omega,by go_num,zy,HTo.set _ _⟩
   case measure=>simp[intOf];omega
  ·obtain rfl:k=39:=by omega
   have z:=HO.2;have q1:=HO.1.cell 10 rfl;have q2:=HO.1.cell 11 rfl;have q6:=HO.1.cell 15 rfl;have q7:=HO.1.cell 16 rfl;have q8:=HO.1.cell 17 rfl;have q12:=HO.1.cell 21 rfl;have q9:=HO.1.cell 18 rfl;have q10:=HO.1.cell 19 rfl;have q26:=HO.1.cell 35 rfl;have q27:=HO.1.cell 36 rfl;have q36:=HO.1.cell 45 rfl;have q37:=HO.1.cell 46 rfl;go_wp2_with fail;go_ret;have Ae:=((((((((((((HTo.set 10 (jE (w.heap.size+1 + 1) 129)).set 11 (jE (w.heap.size+1 + 1) 130)).set 15 (jE (w.heap.size+1 + 1) 131)).set 16 (jE (w.heap.size+1 + 1) 131)).set 17 (jE (w.heap.size+1 + 1) 131)).set 21 (jE (w.heap.size+1 + 1) 132)).set 18 (jE (w.heap.size+1 + 1) 133)).set 19 (jE (w.heap.size+1 + 1) 133)).set 35 (jE (w.heap.size+1 + 1) 134)).set 36 (jE (w.heap.size+1 + 1) 135)).set 45 (jE (w.heap.size+1 + 1) 136)).set 46 (jE (w.heap.size+1 + 1) 137));refine⟨w.heap.size+1 + 1,w.heap.size+1,rfl,?_,World.rowIs.of_block gW.out (Ae.block (w.heap.size+1) (by omega)),aX _ _ _ _,(fun v hv=>absurd hv (by simp)),by show w.heap.size+1 + 1≠w.heap.size+1;omega,(fun e=>by cases e),(fun e=>by cases e),by show w.heap.size<=w.heap.size+1 + 1;omega,by show w.heap.size<=w.heap.size+1;omega,?_⟩
   ·have h:=J4 HO.out rfl (jE (w.heap.size+1 + 1) 129) (jE (w.heap.size+1 + 1) 130) (jE (w.heap.size+1 + 1) 131) (jE (w.heap.size+1 + 1) 131) (jE (w.heap.size+1 + 1) 131) (jE (w.heap.size+1 + 1) 132) (jE (w.heap.size+1 + 1) 133) (jE (w.heap.size+1 + 1) 133) (jE (w.heap.size+1 + 1) 134) (jE (w.heap.size+1 + 1) 135) (jE (w.heap.size+1 + 1) 136) (jE (w.heap.size+1 + 1) 137);rw[yi7] at h;exact h
   ·exact fB.trans ⟨Ae.same.1,Ae.same.2.1,Ae.same.2.2,by rw[Ae.size];exact ah _,fun k hk=>Ae.block k (by omega)⟩
end
end Go.Proofs.YthnkncpegihbhaaGreatDoor
