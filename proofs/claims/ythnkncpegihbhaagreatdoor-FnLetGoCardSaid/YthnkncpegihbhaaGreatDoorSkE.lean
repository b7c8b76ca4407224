import Derived.Test.YthnkncpegihbhaaGreatDoorSkA
set_option maxRecDepth 100000
set_option maxHeartbeats 16000000
namespace Go.Proofs.YthnkncpegihbhaaGreatDoor
section
open Go.RowKit
attribute [local go_sem] iD
attribute [local go_sem ↓] Go.wp_at_zero Go.wp_at_succ
structure oN(C:CX)(a:Option Addr)(w:World)(va:Option Addr)(n:Nat)(r:Nat->Int):Prop where
 at_:qO 0 w va n r
 far:0<n->∀b off,va=some ⟨b,off,none⟩->b≠C.S/\b≠C.T/\ig a≠some b
theorem oN.mv{C:CX}{a a':Option Addr}{w w':World}{va:Option Addr}{n:Nat}{r:Nat->Int}(h:oN C a w va n r)(hm:Mv C.S C.T a w a' w'):oN C a' w' va n r:=by
 refine⟨fun hn=>?_,fun hn b off e=>?_⟩
 ·obtain⟨b,off,e,h0,h1,h2⟩:=h.at_ hn;obtain⟨f1,f2,f3⟩:=h.far hn b off e;exact⟨b,off,e,h0,aH h1 hm.kp.size,fun i hi j hj=>(ak (a:=⟨b,off+i*1+j,none⟩) (hm.kp.block b h1 f1 f2 f3)).trans (h2 i hi j hj)⟩
 ·obtain⟨f1,f2,f3⟩:=h.far hn b off e;refine⟨f1,f2,?_⟩;rcases hm.nw with c|⟨k,c,hk⟩
  ·rw[c];exact f3
  ·rw[c];intro ek
   cases ek;obtain⟨b',off',e',_,h1,_⟩:=h.at_ hn;rw[e] at e'
   cases e';omega
def yq0(C:CX)(st:List Int)(ins:Nat)(x:FT)(a:Option Addr)(w w':World):Prop:=∃a' cap',SS C st ins x a' cap' w'/\Mv C.S C.T a w a' w'
theorem WM(C:CX)(st:List Int)(ins:Nat)(x:FT)(a:Option Addr)(cap:Nat)(va:Option Addr)(n vc:Nat)(r:Nat->Int)(w:World)(hn:n<=1048576)(hroom:st.length<=700000000000)(hS:SS C st ins x a cap w)(hI:oN C a w va n r):Calls Tryz.prog 138 #[.pointer (some ⟨C.S,0,none⟩),.slice va n vc] w fun e w'=>e=.returned (.tuple #[])/\yq0 C (st++pK r C.d.vn n) ins x a w w':=by
 have HS:Hid (SS C st ins x a cap w):=hS;have HI:Hid (oN C a w va n r):=hI;clear hS hI;obtain⟨i0,gU,gQ,hy1,hy2⟩:=bT QZ;go_in;go_wp2_with fail
 go_loopw [8] (fun i wr=>∃(k:Nat) (a':Option Addr) (cap':Nat),k<=n/\i=.int .i64 k/\Hid (SS C (st++pK r C.d.vn k) ins x a' cap' wr)/\Hid (Mv C.S C.T a w a' wr)) (fun i _=>n-(intOf i).toNat)
 case atStart=>exact⟨0,a,cap,aF _,rfl,by rw[z71,bM];exact HS,Mv.refl _ _ _ _⟩
 case round=>
  obtain⟨k,a',cap',hk,rfl,qU,HM⟩:=hrel;by_cases fE:k<n
  ·obtain⟨b,off,rfl,_,hb,d0⟩:=jd (HI.mv HM.out).at_ fE;have c49:=qU.c49;by_cases hin:lI (r k) C.d.vn
   ·have hw:ou (r k) (C.d.vn:Int)=true:=by unfold ou;have:=hin.1;have:=hin.2;simp;omega
    have e1:=y45 hin;have hln:=NJ r C.d.vn k;obtain⟨y,hy⟩:∃y:Nat,r k=y:=⟨(r k).toNat,by have:=hin.1;omega⟩;have hyn:y<C.d.vn:=by have:=hin.2;omega
    rw[hy] at d0 hw e1;have E1:Hid (pK r C.d.vn (k+1)=pK r C.d.vn k++[(y:Int)]):=e1;clear hy hin e1;obtain⟨s1,fH⟩:∃s1,s1=st++pK r C.d.vn k:=⟨_,rfl⟩;have hl1:s1.length<=700000000000+1048576:=by rw[fH,aU];omega
    have E2:Hid (st++pK r C.d.vn (k+1)=s1++[(y:Int)]):=by show _=_;rw[E1.out,fH,List.append_assoc]
    rw[<-fH] at qU;clear fH E1 hln;have AO:=qU.AO;have z:=qU.fz;have hr:=Um s1 y;go_wp2_with (first|(go_at_call 141;refine(rJ _ _ _).mono ?_;rw[hw];rintro e w1 ⟨rfl,rfl⟩)|(at_builtin;refine wpList_append_own_at _ rfl _ _ 45 rfl C.w0.heap.size 3 i0 _ 1 8 Tryz.underlying45 gU gQ hy1 hy2 rfl (by decide) (.slice a' s1.length cap') s1.length (svK s1) rfl (qU.alloc _).sk ⟨w1.heap.size,0,none⟩ 1 1 [.int .i64 (y:Int)] rfl rfl (cell_one_new _ _ _) (by simp[Value.oneCell']) (by unfold maxLen;omega) (by omega) (by have:=qU.b.size;simp;omega) ?_;intro v' w7 gB gY _ hblk;rw[jg] at gY hblk;have hmid:=(qU.alloc (.cells #[.int .i64 (y:Int)] 3)).mid gY;obtain⟨a2,cap2,hv2,fJ,hm2⟩:=(qU.alloc (.cells #[.int .i64 (y:Int)] 3)).push hyn gB gY hblk;subst hv2;have HS2:Hid _:=fJ;have wo:Hid _:=hm2;clear fJ hm2 gB gY hblk AO c49 z;have AO:=hmid.1.1.cell 48 rfl;have c49:=hmid.1.1.cell 49 rfl;have z:=hmid.1.2;have t0:=World.rowIs.cell hmid.2 (i:=y) hyn;have tz:=World.rowIs.frozen hmid.2;have TG:=qU.sT;clear hmid));go_roundw
    case rel=>exact⟨k+1,a2,cap2,by omega,by go_num,by rw[E2.out];exact HS2,HM.trans wo.first⟩
    case measure=>simp[intOf];omega
   ·have hw:ou (r k) (C.d.vn:Int)=false:=by
     unfold ou lI at *;simp;omega
    have E1:Hid (pK r C.d.vn (k+1)=pK r C.d.vn k):=j38 hin;go_wp2_with (go_at_call 141;refine(rJ _ _ _).mono ?_;rw[hw];rintro e w1 ⟨rfl,rfl⟩);go_roundw
    case rel=>exact⟨k+1,a',cap',by omega,by go_num,by rw[E1.out];exact qU,HM⟩
    case measure=>simp[intOf];omega
  ·obtain rfl:k=n:=by omega
   go_wp2_with fail;go_end0;exact⟨rfl,a',cap',qU,HM⟩
structure oU(T:Nat)(w w':World):Prop where
 same:w'.os=w.os/\w'.tape=w.tape/\w'.output=w.output
 size:w'.heap.size=w.heap.size
 block:∀k,k≠T->w'.heap[k]?=w.heap[k]?
theorem oU.refl(T:Nat)(w:World):oU T w w:=⟨⟨rfl,rfl,rfl⟩,rfl,fun _ _=>rfl⟩
theorem oU.set{T:Nat}{w w':World}(h:oU T w w')(o:Nat)(v:Value):oU T w (w'.setCell ⟨T,o,none⟩ v):=⟨h.same,by have:=h.size;simpa using this,fun k hk=>(aK w' ⟨T,o,none⟩ v k hk).trans (h.block k hk)⟩
def yp9(C:CX)(st:List Int)(ins:Nat)(x:FT)(a:Option Addr)(cap:Nat)(w w':World):Prop:=SS C st ins x a cap w'/\Mv C.S C.T a w a w'
theorem yx2{C:CX}{st:List Int}{ins:Nat}{x:FT}{a:Option Addr}{cap:Nat}{w:World}(h:SS C st ins x a cap w){i:Nat}(hi:i<st.length):∃(b y:Nat),a=some ⟨b,0,none⟩/\b<w.heap.size/\st[i]?=some (y:Int)/\y<C.d.vn/\w.cell? ⟨b,i,none⟩=some (.int .i64 (y:Int))/\st.length<=cap:=by
 rcases h.sk.2 with⟨_,h2⟩|⟨g,cap',cur,e2,h3,hh,h4,_,h6,h7⟩
 ·omega
 ·cases e2;have hm:=h.rg st[i] (List.getElem_mem hi);obtain⟨y,hy⟩:∃y:Nat,st[i]=y:=⟨st[i].toNat,by have:=hm.1;omega⟩;have he:st[i]?=some (y:Int):=by rw[bg hi,hy]
  refine⟨g,y,rfl,(aA.1 hh).1,he,by have:=hm.2;omega,?_,h4⟩;have h8:(cur.toList.take (st.length*1))[i]?=some (.int .i64 (y:Int)):=by rw[h7];simp[svK,he]
  rw[List.getElem?_take_of_lt (by omega),dO] at h8;simp[World.cell?,hh,h8]
theorem qe7(C:CX)(st:List Int)(ins:Nat)(x:FT)(a:Option Addr)(cap:Nat)(h:Nat)(u:FrameMode)(w:World)(hroom:st.length<=800000000000)(hle:h<=st.length)(hS:SS C st ins x a cap w):CallsD Tryz.prog 162 #[.pointer (some ⟨C.S,0,none⟩),.int .i64 (h:Int)] u w fun e u' w'=>u'=u/\(e=.returned (.tuple #[])/\yp9 C (st.take h) ins x a cap w w'):=by
 have HS:Hid (SS C st ins x a cap w):=hS;have AO:=hS.AO;have c49:=hS.c49;have z:=hS.fz;by_cases hc:cap=h
 ·have gG:st.length=h:=by
   rcases HS.sk.2 with⟨h2,h3⟩|⟨g,cap',cur,e2,h3,hh,h4,_⟩
   ·obtain⟨_,_,h5⟩:a=none/\st.length=0/\cap=0:=by simpa using h2
    omega
   ·cases e2;omega
  have HE:Hid (kP w C.T C.d.vn (cnt (st.take h))):=by
   show kP _ _ _ _;rw[<-gG,List.take_length];exact HS.tm
  subst hc;rw[gG] at AO
  go_enter_d Tryz.func162,Tryz.ntmps162
  go_wp2_with fail;refine bW 1 ?_;rw[bC];go_wp2_with fail;go_end0;exact⟨rfl,HS.times (hh:=cap) (by omega) (fun _ _=>rfl) rfl ⟨rfl,rfl,rfl⟩ HE.out⟩
 ·obtain⟨b,rfl,gy⟩:∃b,a=some ⟨b,0,none⟩/\st.length<=cap:=by
   rcases HS.sk.2 with⟨h2,h3⟩|⟨g,cap',cur,e2,h3,hh,h4,_⟩
   ·obtain⟨_,_,h5⟩:a=none/\st.length=0/\cap=0:=by simpa using h2
    omega
   ·cases e2;exact⟨g,rfl,h4⟩
  have q1:(h:Int)<=(cap:Int):=by omega
  go_enter_d Tryz.func162,Tryz.ntmps162
  go_wp2_with fail;have Dv:b≠C.T:=fun e=>HS.ta (by rw[<-e];rfl);have TG:=HS.sT
  go_loopw [13] (fun i wr=>∃(k:Nat),k<=st.length-h/\i=.int .i64 k/\Hid (kP wr C.T C.d.vn (cnt (rest st h k)))/\Hid (oU C.T w wr)) (fun i _=>st.length-h - (intOf i).toNat)
  case atStart=>exact⟨0,aF _,rfl,by rw[y82];exact HS.tm,oU.refl _ _⟩
  case round=>
   obtain⟨k,hk,rfl,HR,HO⟩:=hrel;have d49:wr.cell? ⟨C.S,49,none⟩=some (.slice (some ⟨C.T,0,none⟩) C.d.vn C.d.vn):=(ak (a:=⟨C.S,49,none⟩) (HO.block _ TG)).trans c49;by_cases fE:k<st.length-h
   ·obtain⟨b',y,e0,_,hsy,hyn,g0,_⟩:=yx2 HS.out (i:=h+k) (by omega);obtain rfl:b=b':=by simpa using e0
    have g1:wr.cell? ⟨b,h+k,none⟩=some (.int .i64 (y:Int)):=(ak (a:=⟨b,h+k,none⟩) (HO.block _ Dv)).trans g0;have t0:=World.rowIs.cell HR.out (i:=y) hyn;have tz:=World.rowIs.frozen HR.out;have fG:=Um (rest st h k) y;have hrl:(rest st h k).length<=2*st.length:=by
     unfold rest;rw[aU,dG,List.length_drop];omega
    have gW:Hid (kP (wr.setCell ⟨C.T,y,none⟩ (.int .i64 (cnt (rest st h k) y-1))) C.T C.d.vn (cnt (rest st h (k+1)))):=(World.rowIs.set HR.out y _).congr fun i _=>by
     rw[y83 hsy];split<;>rfl
    have pJ:Hid (oU C.T w (wr.setCell ⟨C.T,y,none⟩ (.int .i64 (cnt (rest st h k) y-1)))):=HO.set _ _;go_wp2_with fail;go_roundw
    case rel=>exact⟨k+1,by omega,by go_num,gW,pJ⟩
    case measure=>simp[intOf];omega
   ·have d48:wr.cell? ⟨C.S,48,none⟩=some (.slice (some ⟨b,0,none⟩) st.length cap):=(ak (a:=⟨C.S,48,none⟩) (HO.block _ TG)).trans AO;have dz:∀o,wr.frozen? ⟨C.S,o,none⟩=false:=fun o=>(bD (a:=⟨C.S,o,none⟩) (HO.block _ TG)).trans (z o);have HE:Hid (kP wr C.T C.d.vn (cnt (st.take h))):=by
     have h1:=HR.out;rw[yj3 st (by omega)] at h1;exact h1
    go_wp2_with fail;go_end0;exact⟨rfl,HS.times hle HO.block HO.size HO.same HE⟩
def Six(u:UD)(f n:Nat):Prop:=((((u.fn f).nd n).k=26/\¬(lI (((u.fn f).nd n).r 0) (u.fn f).vn/\Scoped (u.fn f) n (((u.fn f).nd n).r 0)))
   \/(((u.fn f).nd n).k=27/\¬lI (((u.fn f).nd n).r 0) (u.fn f).un)
   \/(((u.fn f).nd n).k=36/\¬lI (((u.fn f).nd n).r 0) u.n))
theorem VT{u:UD}{f n:Nat}(h6:Six u f n)(h7:¬qc6 (u.fn f) n)(h8:¬qc5 u f n)(y:FT):oD u f n y↔y=⟨6,f,n⟩:=by
 constructor
 ·rintro⟨h1,h2,h3|h3|h3⟩
  ·exact FT.ext h3.1 h1 h2
  ·exact absurd h3.2 h7
  ·exact absurd h3.2 h8
 ·rintro rfl;exact⟨rfl,rfl,.inl ⟨rfl,h6⟩⟩
theorem zn1{u:UD}{f n:Nat}(h6:¬Six u f n)(h7:qc6 (u.fn f) n)(h8:¬qc5 u f n)(y:FT):oD u f n y↔y=⟨7,f,n⟩:=by
 constructor
 ·rintro⟨h1,h2,h3|h3|h3⟩
  ·exact absurd h3.2 h6
  ·exact FT.ext h3.1 h1 h2
  ·exact absurd h3.2 h8
 ·rintro rfl;exact⟨rfl,rfl,.inr (.inl ⟨rfl,h7⟩)⟩
theorem Wq{u:UD}{f n:Nat}(h6:¬Six u f n)(h7:¬qc6 (u.fn f) n)(h8:qc5 u f n)(y:FT):oD u f n y↔y=⟨8,f,n⟩:=by
 constructor
 ·rintro⟨h1,h2,h3|h3|h3⟩
  ·exact absurd h3.2 h6
  ·exact absurd h3.2 h7
  ·exact FT.ext h3.1 h1 h2
 ·rintro rfl;exact⟨rfl,rfl,.inr (.inr ⟨rfl,h8⟩)⟩
theorem Dk{u:UD}{f n:Nat}(h6:¬Six u f n)(h7:¬qc6 (u.fn f) n)(h8:¬qc5 u f n)(y:FT):¬oD u f n y:=by
 rintro⟨_,_,h3|h3|h3⟩
 ·exact h6 h3.2
 ·exact h7 h3.2
 ·exact h8 h3.2
theorem IC{u:UD}{f n:Nat}(h1:((u.fn f).nd n).k≠26)(h2:((u.fn f).nd n).k≠27)(h3:((u.fn f).nd n).k≠36):¬Six u f n:=by
 rintro(h|h|h)
 ·exact h1 h.1
 ·exact h2 h.1
 ·exact h3 h.1
theorem Ed{d:FD}{n:Nat}(h1:(d.nd n).k≠9)(h2:(d.nd n).k≠10):¬qc6 d n:=by
 rintro⟨h|h,_⟩
 ·exact h1 h
 ·exact h2 h
theorem Gf{u:UD}{f n:Nat}(h1:((u.fn f).nd n).k≠36)(h2:((u.fn f).nd n).k≠37):¬qc5 u f n:=by
 rintro(h|h)
 ·exact h2 h.1
 ·exact h1 h.1
theorem ZT{u:UD}{f n:Nat}(h:((u.fn f).nd n).kn=0)(y:FT):nX u f n y↔oD u f n y:=by
 rw[Ld];constructor
 ·rintro(⟨i,c,h1,_⟩|h1)
  ·omega
  ·exact h1
 ·exact .inr
theorem yb6{C:CX}{n c:Nat}{P:FT->Prop}{x:FT}(h:Least P x)(hc:0<c)(hk:(C.d.nd n).kn=0)(hN:∀y,oD C.u C.f n y↔y=⟨c,C.f,n⟩):Least (fun y=>P y\/nX C.u C.f n y) (wJ x ⟨c,C.f,n⟩):=
 (h.note (b:=⟨c,C.f,n⟩) hc).congr fun y=>by rw[ZT hk,hN]
theorem yl1{C:CX}{n:Nat}{P:FT->Prop}{x:FT}(h:Least P x)(hk:(C.d.nd n).kn=0)(hN:∀y,¬oD C.u C.f n y):Least (fun y=>P y\/nX C.u C.f n y) x:=
 h.congr fun y=>by rw[ZT hk];exact⟨.inl,fun h'=>h'.resolve_right (hN y)⟩
theorem Em{C:CX}{n:Nat}(h:(C.d.nd n).k≠2)(st:List Int):st++leaves C n=st:=by unfold leaves;rw[au h,bM]
theorem IW{C:CX}{n c:Nat}{st:List Int}{ins:Nat}{x:FT}{a:Option Addr}{cap:Nat}{P:FT->Prop}{w w':World}(h:NK C st ins (wJ x ⟨c,C.f,n⟩) a cap w w')(h2:(C.d.nd n).k≠2)(hL:Least P x)(hc:0<c)(hk:(C.d.nd n).kn=0)(hN:∀y,oD C.u C.f n y↔y=⟨c,C.f,n⟩):mg C (st++leaves C n) ins (fun y=>P y\/nX C.u C.f n y) a w w':=by
 rw[Em h2];exact⟨_,a,cap,h.1,yb6 hL hc hk hN,h.2⟩
theorem NH{C:CX}{n:Nat}{st:List Int}{ins:Nat}{x:FT}{a:Option Addr}{cap:Nat}{P:FT->Prop}{w w':World}(h:SS C st ins x a cap w')(hm:Mv C.S C.T a w a w')(h2:(C.d.nd n).k≠2)(hL:Least P x)(hk:(C.d.nd n).kn=0)(hN:∀y,¬oD C.u C.f n y):mg C (st++leaves C n) ins (fun y=>P y\/nX C.u C.f n y) a w w':=by
 rw[Em h2];exact⟨_,a,cap,h,yl1 hL hk hN,hm⟩
theorem ZO(C:CX)(hC:C.ok)(n:Nat)(hk:(C.d.nd n).k=9\/(C.d.nd n).k=10):Au C 133 n:=by
 intro st ins x a cap P w hP;have hk':((C.u.fn C.f).nd n).k=9\/((C.u.fn C.f).nd n).k=10:=hk;have hk0:=(hC.node hP.lt).leaf (by omega);have HP:Hid (jV C n st ins x a cap P w):=hP;have HC:Hid C.ok:=hC;have JD:=hP.ss.JD;have hlp:=hP.loop;have h6:Hid (¬Six C.u C.f n):=IC (by omega) (by omega) (by omega);have h8:Hid (¬qc5 C.u C.f n):=Gf (by omega) (by omega);have h2:Hid ((C.d.nd n).k≠2):=by show _≠_;omega
 have HK:Hid ((C.d.nd n).kn=0):=hk0;by_cases h0:ins=0
 ·subst h0;have hN:Hid (∀y,oD C.u C.f n y↔y=⟨7,C.f,n⟩):=zn1 h6.out ⟨hk,fun h=>by have:=hlp.2 h;omega⟩ h8.out;go_in;go_wp2_with (go_at_call 164;refine(En C st 0 x a cap 7 n _ HP.ss).mono ?_;rintro e w1 ⟨rfl,gX⟩;have oV:Hid _:=gX);go_end0;exact⟨rfl,IW oV.out h2.out HP.least (by decide) HK.out hN.out⟩
 ·have hN:Hid (∀y,¬oD C.u C.f n y):=Dk h6.out (fun h=>h.2 (hlp.1 (by omega))) h8.out;have q:((ins:Int)==0)=false:=by simp;omega
  go_in;go_wp2_with fail;go_end0;exact⟨rfl,NH HP.ss (Mv.refl _ _ _ _) h2.out HP.least HK hN.out⟩
theorem y84(C:CX)(hC:C.ok)(n:Nat)(hk:(C.d.nd n).k=37):Au C 137 n:=by
 intro st ins x a cap P w hP;have hk':((C.u.fn C.f).nd n).k=37:=hk;have hk0:=(hC.node hP.lt).leaf (by omega);have HP:Hid (jV C n st ins x a cap P w):=hP;have c5:=hP.ss.c5;have h6:Hid (¬Six C.u C.f n):=IC (by omega) (by omega) (by omega);have h7:Hid (¬qc6 (C.u.fn C.f) n):=Ed (by omega) (by omega);have h2:Hid ((C.d.nd n).k≠2):=by show _≠_;omega
 have HK:Hid ((C.d.nd n).kn=0):=hk0
 cases hr:C.d.rest
 ·have hN:Hid (∀y,oD C.u C.f n y↔y=⟨8,C.f,n⟩):=Wq h6.out h7.out (.inl ⟨hk,hr⟩);rw[hr] at c5;go_in;go_wp2_with (go_at_call 164;refine(En C st ins x a cap 8 n _ HP.ss).mono ?_;rintro e w1 ⟨rfl,gX⟩;have oV:Hid _:=gX);go_end0;exact⟨rfl,IW oV.out h2.out HP.least (by decide) HK.out hN.out⟩
 ·have hN:Hid (∀y,¬oD C.u C.f n y):=Dk h6.out h7.out (by
   rintro(h|h)
   ·rw[show(C.u.fn C.f).rest=true from hr] at h;exact Bool.noConfusion h.2
   ·omega)
  rw[hr] at c5;go_in;go_wp2_with fail;go_end0;exact⟨rfl,NH HP.ss (Mv.refl _ _ _ _) h2.out HP.least HK hN.out⟩
theorem z74(C:CX)(hC:C.ok)(n:Nat)(hk:(C.d.nd n).k=26):Au C 134 n:=by
 intro st ins x a cap P w hP;have hk':((C.u.fn C.f).nd n).k=26:=hk;have hk0:=(hC.node hP.lt).leaf (by omega);have fG:=(hC.node hP.lt).one (by omega);have HP:Hid (jV C n st ins x a cap P w):=hP;have c8:=hP.ss.c8;have hn:=hP.lt;have hnn:=hC.nn;obtain⟨b,off,e0,_,hb,d0,d1,d2,d3,d4,d5,d6,d7⟩:=jU ((hP.ss.fns hC).2 C.f hC.f).2.2.1 hn;obtain⟨b2,o2,e2,_,eG,r0⟩:=jd (((hP.ss.fns hC).2 C.f hC.f).2.2.2 n hn).1 (show 0<(C.d.nd n).rn by omega);rw[e0] at c8;rw[show(C.u.fn C.f).nd n=C.d.nd n from rfl,e2,fG] at d6;rw[Nat.add_zero] at r0;have h7:Hid (¬qc6 (C.u.fn C.f) n):=Ed (by omega) (by omega);have h8:Hid (¬qc5 C.u C.f n):=Gf (by omega) (by omega);have h2:Hid ((C.d.nd n).k≠2):=by show _≠_;omega
 have HK:Hid ((C.d.nd n).kn=0):=hk0;have hsx:Six C.u C.f n↔¬(C.d.nd n).r 0∈st:=by
  constructor
  ·rintro(h|h|h)
   ·intro hm;exact h.2 ⟨hP.ss.rg _ hm,(hP.stack _ (hP.ss.rg _ hm)).1 hm⟩
   ·omega
   ·omega
  ·intro hm;exact .inl ⟨hk,fun h=>hm ((hP.stack _ h.1).2 h.2)⟩
 by_cases hm:(C.d.nd n).r 0∈st
 ·have hN:Hid (∀y,¬oD C.u C.f n y):=Dk (fun h=>hsx.1 h hm) h7.out h8.out;have q:dB ((C.d.nd n).r 0∈st)=true:=pU hm;go_in;go_wp2_with (go_at_call 165;refine(Lm C st ins x a cap _ _ HP.ss).mono ?_;rw[q];rintro e w1 ⟨rfl,rfl⟩);go_end0;exact⟨rfl,NH HP.ss (Mv.refl _ _ _ _) h2.out HP.least HK hN.out⟩
 ·have hN:Hid (∀y,oD C.u C.f n y↔y=⟨6,C.f,n⟩):=VT (hsx.2 hm) h7.out h8.out;have q:dB ((C.d.nd n).r 0∈st)=false:=q30 hm;go_in;go_wp2_with (first|(go_at_call 165;refine(Lm C st ins x a cap _ _ HP.ss).mono ?_;rw[q];rintro e w1 ⟨rfl,rfl⟩)|(go_at_call 164;refine(En C st ins x a cap 6 n _ HP.ss).mono ?_;rintro e w2 ⟨rfl,gX⟩;have oV:Hid _:=gX));go_end0;exact⟨rfl,IW oV.out h2.out HP.least (by decide) HK.out hN.out⟩
theorem yv8(C:CX)(hC:C.ok)(n:Nat)(hk:(C.d.nd n).k=27):Au C 135 n:=by
 intro st ins x a cap P w hP;have hk':((C.u.fn C.f).nd n).k=27:=hk;have hk0:=(hC.node hP.lt).leaf (by omega);have fG:=(hC.node hP.lt).one (by omega);have HP:Hid (jV C n st ins x a cap P w):=hP;have c8:=hP.ss.c8;have c7:=hP.ss.c7;have hn:=hP.lt;have hnn:=hC.nn;obtain⟨b,off,e0,_,hb,d0,d1,d2,d3,d4,d5,d6,d7⟩:=jU ((hP.ss.fns hC).2 C.f hC.f).2.2.1 hn;obtain⟨b2,o2,e2,_,eG,r0⟩:=jd (((hP.ss.fns hC).2 C.f hC.f).2.2.2 n hn).1 (show 0<(C.d.nd n).rn by omega);rw[e0] at c8;rw[show(C.u.fn C.f).nd n=C.d.nd n from rfl,e2,fG] at d6;rw[Nat.add_zero] at r0;have h7:Hid (¬qc6 (C.u.fn C.f) n):=Ed (by omega) (by omega);have h8:Hid (¬qc5 C.u C.f n):=Gf (by omega) (by omega);have h2:Hid ((C.d.nd n).k≠2):=by show _≠_;omega
 have HK:Hid ((C.d.nd n).kn=0):=hk0;have hsx:Six C.u C.f n↔¬lI ((C.d.nd n).r 0) C.d.un:=by
  constructor
  ·rintro(h|h|h)
   ·omega
   ·exact h.2
   ·omega
  ·intro hm;exact .inr (.inl ⟨hk,hm⟩)
 by_cases hm:lI ((C.d.nd n).r 0) C.d.un
 ·have hN:Hid (∀y,¬oD C.u C.f n y):=Dk (fun h=>hsx.1 h hm) h7.out h8.out;have q:ou ((C.d.nd n).r 0) (C.d.un:Int)=true:=by unfold ou;have:=hm.1;have:=hm.2;simp;omega
  go_in;go_wp2_with fail
  go_quiet ((go_at_call 141;exact Calls.quiet_of_same (rJ _ _ _)))
  go_wp2_with fail;go_end0;exact⟨rfl,NH (HP.ss.call (dw (ay _ _) nq)) ((Mv.refl _ _ _ _).call (dw (ay _ _) nq)) h2.out HP.least HK hN.out⟩
 ·have hN:Hid (∀y,oD C.u C.f n y↔y=⟨6,C.f,n⟩):=VT (hsx.2 hm) h7.out h8.out;have q:ou ((C.d.nd n).r 0) (C.d.un:Int)=false:=by
   unfold ou lI at *;simp;omega
  go_in;go_wp2_with fail
  go_quiet ((go_at_call 141;exact Calls.quiet_of_same (rJ _ _ _)))
  have HSd:Hid (SS C st ins x a cap (w.drewN nq)):=HP.ss.call (dw (ay _ _) nq);have HMd:Hid (Mv C.S C.T a w a (w.drewN nq)):=(Mv.refl _ _ _ _).call (dw (ay _ _) nq);go_wp2_with (go_at_call 164;refine(En C st ins x a cap 6 n _ HSd).mono ?_;rintro e w2 ⟨rfl,gX⟩;have oV:Hid _:=gX);go_end0;exact⟨rfl,IW ⟨oV.1,HMd.trans oV.2⟩ h2.out HP.least (by decide) HK.out hN.out⟩
def KJ(C:CX)(st:List Int)(q:JH):Prop:=(q.loc=true->q.ix∈st)/\(q.loc=false->lI q.ix C.d.un)
def Iy(C:CX)(st:List Int)(un:Nat)(q:Nat->JH):Prop:=∀i,i<un->KJ C st (q i)
theorem zo5(C:CX)(st:List Int)(ins:Nat)(x:FT)(a:Option Addr)(cap:Nat)(va:Option Addr)(un vc:Nat)(q:Nat->JH)(L:Nat)(w:World)(hn:un<=1048576)(hS:SS C st ins x a cap w)(hT:iF 2 L w va un fun i=>RJ (q i)):Calls Tryz.prog 166 #[.pointer (some ⟨C.S,0,none⟩),.slice va un vc] w fun e w'=>e=.returned (.bool (dB (Iy C st un q)))/\gZ w w':=by
 have HS:Hid (SS C st ins x a cap w):=hS;have HT:Hid (iF 2 L w va un fun i=>RJ (q i)):=hT;clear hS hT;go_in;go_wp2_with fail
 go_loopw [9] (fun i wr=>∃(k:Nat),k<=un/\i=.int .i64 k/\Hid (∀j,j<k->KJ C st (q j))/\Hid (gZ w wr)) (fun i _=>un-(intOf i).toNat)
 case atStart=>exact⟨0,aF _,rfl,fun j hj=>by omega,ay _ _⟩
 case round=>
  obtain⟨k,hk,rfl,HK,HB⟩:=hrel;by_cases fE:k<un
  ·obtain⟨b,off,rfl,_,hb,d0,d1⟩:=cells2 (HT.below HB.out) fE;obtain⟨lc,ix,hq⟩:∃lc ix,q k=⟨lc,ix⟩:=⟨_,_,rfl⟩;have HQ:Hid (q k=⟨lc,ix⟩):=hq;rw[hq] at d0 d1;have qU:Hid (SS C st ins x a cap (wr.alloc (.cells #[.bool lc,.int .i64 ix] 286))):=(HS.call HB.out).alloc _;have fB:Hid (gZ w (wr.alloc (.cells #[.bool lc,.int .i64 ix] 286))):=jo HB.out _;have c7:=qU.c7;clear hq
   cases lc
   ·by_cases hin:lI ix C.d.un
    ·have HU:Hid (KJ C st (q k)):=by show KJ C st (q k);rw[HQ.out];exact⟨fun h=>Bool.noConfusion h,fun _=>hin⟩
     have hw:ou ix (C.d.un:Int)=true:=by unfold ou;have:=hin.1;have:=hin.2;simp;omega
     clear hin;go_wp2_with fail
     go_quiet ((first|(go_at_call 165;exact Calls.quiet_of_same (Lm C st ins x a cap _ _ (by first|exact qU.out|exact qU.drew|exact qU.call (dw (ay _ _) _))))|(go_at_call 141;exact Calls.quiet_of_same (rJ _ _ _))))
     go_wp2_with fail;go_roundw
     case rel=>exact⟨k+1,by omega,by go_num,fun j hj=>by
      by_cases e:j=k
      ·subst e;exact HU
      ·exact HK.out j (by omega),dw fB.out nq⟩
     case measure=>simp[intOf];omega
    ·have HU:Hid (dB (Iy C st un q)=false):=q30 fun h=>hin (by have:=h k fE;rw[HQ.out] at this;exact this.2 rfl);have hw:ou ix (C.d.un:Int)=false:=by
      unfold ou lI at *;simp;omega
     clear hin;go_wp2_with fail
     go_quiet ((first|(go_at_call 165;exact Calls.quiet_of_same (Lm C st ins x a cap _ _ (by first|exact qU.out|exact qU.drew|exact qU.call (dw (ay _ _) _))))|(go_at_call 141;exact Calls.quiet_of_same (rJ _ _ _))))
     go_wp2_with fail;go_ret;exact⟨jH HU.symm,dw fB nq⟩
   ·by_cases hin:ix∈st
    ·have HU:Hid (KJ C st (q k)):=by show KJ C st (q k);rw[HQ.out];exact⟨fun _=>hin,fun h=>Bool.noConfusion h⟩
     have hw:dB (ix∈st)=true:=pU hin;clear hin;go_wp2_with fail
     go_quiet ((first|(go_at_call 165;exact Calls.quiet_of_same (Lm C st ins x a cap _ _ (by first|exact qU.out|exact qU.drew|exact qU.call (dw (ay _ _) _))))|(go_at_call 141;exact Calls.quiet_of_same (rJ _ _ _))))
     go_wp2_with fail;go_roundw
     case rel=>exact⟨k+1,by omega,by go_num,fun j hj=>by
      by_cases e:j=k
      ·subst e;exact HU
      ·exact HK.out j (by omega),dw fB.out nq⟩
     case measure=>simp[intOf];omega
    ·have HU:Hid (dB (Iy C st un q)=false):=q30 fun h=>hin (by have:=h k fE;rw[HQ.out] at this;exact this.1 rfl);have hw:dB (ix∈st)=false:=q30 hin;clear hin;go_wp2_with fail
     go_quiet ((first|(go_at_call 165;exact Calls.quiet_of_same (Lm C st ins x a cap _ _ (by first|exact qU.out|exact qU.drew|exact qU.call (dw (ay _ _) _))))|(go_at_call 141;exact Calls.quiet_of_same (rJ _ _ _))))
     go_wp2_with fail;go_ret;exact⟨jH HU.symm,dw fB nq⟩
  ·obtain rfl:k=un:=by omega
   go_wp2_with fail;go_ret;exact⟨jH (pU HK).symm,HB⟩
theorem yc7{C:CX}{n:Nat}{st:List Int}{ins:Nat}{x:FT}{a:Option Addr}{cap:Nat}{P:FT->Prop}{w:World}(hP:jV C n st ins x a cap P w)(g:Nat):Iy C st (C.u.fn g).un (C.u.fn g).u↔Rq C.u C.f n g:=by
 constructor
 ·intro h i hi;exact⟨fun hl=>⟨hP.ss.rg _ ((h i hi).1 hl),(hP.stack _ (hP.ss.rg _ ((h i hi).1 hl))).1 ((h i hi).1 hl)⟩,(h i hi).2⟩
 ·intro h i hi;exact⟨fun hl=>(hP.stack _ ((h i hi).1 hl).1).2 ((h i hi).1 hl).2,(h i hi).2⟩
theorem y02(C:CX)(hC:C.ok)(n:Nat)(hk:(C.d.nd n).k=36):Au C 136 n:=by
 intro st ins x a cap P w hP;have hk':((C.u.fn C.f).nd n).k=36:=hk;have hk0:=(hC.node hP.lt).leaf (by omega);have fG:=(hC.node hP.lt).one (by omega);have HP:Hid (jV C n st ins x a cap P w):=hP;have c8:=hP.ss.c8;have c0:=hP.ss.c0;have c1:=hP.ss.c1;have hn:=hP.lt;have hnn:=hC.nn;have hun:=hC.u5.size.2.1;have hf:=hC.f;obtain⟨b,off,e0,_,hb,d0,d1,d2,d3,d4,d5,d6,d7⟩:=jU ((hP.ss.fns hC).2 C.f hC.f).2.2.1 hn;obtain⟨b2,o2,e2,_,eG,r0⟩:=jd (((hP.ss.fns hC).2 C.f hC.f).2.2.2 n hn).1 (show 0<(C.d.nd n).rn by omega);have HF:Hid (jh C.L w C.u.n C.u.fn C.ua C.fas):=hP.ss.fns hC;rw[e0] at c8;rw[show(C.u.fn C.f).nd n=C.d.nd n from rfl,e2,fG] at d6;rw[Nat.add_zero] at r0;have h7:Hid (¬qc6 (C.u.fn C.f) n):=Ed (by omega) (by omega);have h2:Hid ((C.d.nd n).k≠2):=by show _≠_;omega
 have HK:Hid ((C.d.nd n).kn=0):=hk0;have hsx:Six C.u C.f n↔¬lI ((C.d.nd n).r 0) C.u.n:=by
  constructor
  ·rintro(h|h|h)
   ·omega
   ·omega
   ·exact h.2
  ·intro hm;exact .inr (.inr ⟨hk,hm⟩)
 have hmk:qc5 C.u C.f n↔(lI ((C.d.nd n).r 0) C.u.n/\(((C.d.nd n).r 0)<=C.f\/¬Rq C.u C.f n ((C.d.nd n).r 0).toNat)):=by
  constructor
  ·rintro(h|h)
   ·omega
   ·exact h.2
  ·intro h;exact .inr ⟨hk,h⟩
 have hho:=yc7 hP;have hsm:=hC.sm;by_cases hm:lI ((C.d.nd n).r 0) C.u.n
 ·have q:ou ((C.d.nd n).r 0) (C.u.n:Int)=true:=by unfold ou;have:=hm.1;have:=hm.2;simp;omega
  obtain⟨g,hg⟩:∃g:Nat,(C.d.nd n).r 0=g:=⟨((C.d.nd n).r 0).toNat,by have:=hm.1;omega⟩;have hgn:g<C.u.n:=by have:=hm.2;omega
  have hg':((C.u.fn C.f).nd n).r 0=g:=hg;by_cases hle:g<=C.f
  ·have hN:Hid (∀y,oD C.u C.f n y↔y=⟨8,C.f,n⟩):=Wq (fun h=>hsx.1 h hm) h7.out (hmk.2 ⟨hm,.inl (by omega)⟩);rw[hg'] at r0;rw[hg] at q;go_in;go_wp2_with (first|(go_at_call 141;refine(rJ _ _ _).mono ?_;rw[q];rintro e w1 ⟨rfl,rfl⟩)|(go_at_call 164;refine(En C st ins x a cap 8 n _ HP.ss).mono ?_;rintro e w2 ⟨rfl,gX⟩;have oV:Hid _:=gX));go_end0;exact⟨rfl,IW oV.out h2.out HP.least (by decide) HK.out hN.out⟩
  ·obtain⟨b3,o3,e3,_,eH,f0,f1,f2,f3,f4,f5,f6⟩:=jZ HF.1 hgn;rw[e3] at c0;have hug:=(hsm.fn g hgn).un;have HH:Hid (Calls Tryz.prog 166 #[.pointer (some ⟨C.S,0,none⟩),.slice (C.fas g).ua (C.u.fn g).un (C.fas g).uc] w fun e w'=>e=.returned (.bool (dB (Iy C st (C.u.fn g).un (C.u.fn g).u)))/\gZ w w'):=zo5 C st ins x a cap _ _ _ _ C.L w hug HP.ss (HF.2 g hgn).2.1;by_cases hu:Rq C.u C.f n g
   ·have hN:Hid (∀y,¬oD C.u C.f n y):=Dk (fun h=>hsx.1 h hm) h7.out (fun h=>by
     rcases(hmk.1 h).2 with h1|h1
     ·omega
     ·exact h1 (by rw[hg];exact hu))
    have q2:dB (Iy C st (C.u.fn g).un (C.u.fn g).u)=true:=pU ((hho g).2 hu);rw[hg'] at r0;rw[hg] at q;go_in;go_wp2_with (first|(go_at_call 141;refine(rJ _ _ _).mono ?_;rw[q];rintro e w1 ⟨rfl,rfl⟩)|(go_at_call 166;refine HH.mono ?_;rw[q2];rintro e w2 ⟨rfl,eG⟩;have fD:Hid _:=eG));go_end0;exact⟨rfl,NH (HP.ss.call fD) ((Mv.refl _ _ _ _).call fD) h2.out HP.least HK hN.out⟩
   ·have hN:Hid (∀y,oD C.u C.f n y↔y=⟨8,C.f,n⟩):=Wq (fun h=>hsx.1 h hm) h7.out (hmk.2 ⟨hm,.inr (by rw[hg];exact hu)⟩);have q2:dB (Iy C st (C.u.fn g).un (C.u.fn g).u)=false:=q30 fun h=>hu ((hho g).1 h);rw[hg'] at r0;rw[hg] at q;go_in;go_wp2_with (first|(go_at_call 141;refine(rJ _ _ _).mono ?_;rw[q];rintro e w1 ⟨rfl,rfl⟩)|(go_at_call 166;refine HH.mono ?_;rw[q2];rintro e w2 ⟨rfl,eG⟩;have fD:Hid _:=eG)|(go_at_call 164;refine(En C st ins x a cap 8 n _ (HP.ss.call fD)).mono ?_;rintro e w3 ⟨rfl,gX⟩;have oV:Hid _:=gX));go_end0;exact⟨rfl,IW ⟨oV.1,((Mv.refl _ _ _ _).call fD.out).trans oV.2⟩ h2.out HP.least (by decide) HK.out hN.out⟩
 ·have hN:Hid (∀y,oD C.u C.f n y↔y=⟨6,C.f,n⟩):=VT (hsx.2 hm) h7.out (fun h=>hm (hmk.1 h).1);have q:ou ((C.d.nd n).r 0) (C.u.n:Int)=false:=by
   unfold ou lI at *;simp;omega
  go_in;go_wp2_with (first|(go_at_call 141;refine(rJ _ _ _).mono ?_;rw[q];rintro e w1 ⟨rfl,rfl⟩)|(go_at_call 164;refine(En C st ins x a cap 6 n _ HP.ss).mono ?_;rintro e w2 ⟨rfl,gX⟩;have oV:Hid _:=gX))
  first|go_end0|refine aG (results_none rfl _ _ _) rfl ?_
  exact⟨rfl,IW oV.out h2.out HP.least (by decide) HK.out hN.out⟩
theorem yn6(k:Nat)(hv:k<39)(args:Array Value)(w:World):(callFunc (DY k) args).run Tryz.prog w=.ok (.enter (DY k) args) w:=by
 rcases(show k=0\/k=1\/k=2\/k=3\/k=4\/k=5\/k=6\/k=7\/k=8\/k=9\/k=10\/k=11\/k=12\/k=13\/k=14\/k=15\/k=16\/k=17\/k=18\/k=19\/k=20\/k=21\/k=22\/k=23\/k=24\/k=25\/k=26\/k=27\/k=28\/k=29\/k=30\/k=31\/k=32\/k=33\/k=34\/k=35\/k=36\/k=37\/k=38 by omega) with rfl|rfl|rfl|rfl|rfl|rfl|rfl|rfl|rfl|rfl|rfl|rfl|rfl|rfl|rfl|rfl|rfl|rfl|rfl|rfl|rfl|rfl|rfl|rfl|rfl|rfl|rfl|rfl|rfl|rfl|rfl|rfl|rfl|rfl|rfl|rfl|rfl|rfl|rfl<;>kernel_rfl
theorem mg.drew{C:CX}{st:List Int}{ins:Nat}{Q:FT->Prop}{a:Option Addr}{w w':World}(h:mg C st ins Q a w.drew w'):mg C st ins Q a w w':=by
 obtain⟨x',a',cap',h1,h2,h3⟩:=h;exact⟨x',a',cap',h1,h2,(Mv.refl _ _ _ _).drew.trans h3⟩
theorem jV.drew{C:CX}{n:Nat}{st:List Int}{ins:Nat}{x:FT}{a:Option Addr}{cap:Nat}{P:FT->Prop}{w:World}(h:jV C n st ins x a cap P w):jV C n st ins x a cap P w.drew:=⟨h.ss.drew,h.lt,h.stack,h.loop,h.room,h.deep,h.least⟩
theorem Vp{C:CX}(hC:C.ok){st:List Int}{ins:Nat}{x:FT}{a:Option Addr}{cap:Nat}{w:World}(h:SS C st ins x a cap w){n:Nat}(hn:n<C.d.nn){b off kN:Nat}(e0:C.fa.na=some ⟨b,off,none⟩)(hk:(C.d.nd n).k=kN)(hk2:kN<39):w.cell? ⟨C.S,8,none⟩=some (.slice (some ⟨b,off,none⟩) C.d.nn C.fa.nc)/\w.cell? ⟨b,off+n*8,none⟩=some (.int .i64 (kN:Int))/\w.cell? ⟨C.S,9+kN,none⟩=some (jE C.S (DY kN)):=by
 obtain⟨b',off',e1,_,_,d0,_⟩:=jU ((h.fns hC).2 C.f hC.f).2.2.1 hn;have e2:some (⟨b,off,none⟩:Addr)=some ⟨b',off',none⟩:=e0.symm.trans e1
 cases e2;refine⟨by rw[<-e0];exact h.c8,?_,h.box.1.cell (9+kN) (yx8 _ _ _ _ _ _ _ _ _ _ kN hk2)⟩;rw[<-hk];exact d0
theorem yg9(C:CX)(hC:C.ok)(n:Nat)(hstep:Au C (DY (C.d.nd n).k.toNat) n):wL C n:=by
 intro st ins x a cap P w hP;have hn:=hP.lt;have hnn:=hC.nn;have hsh:=(hC.node hn).kind;obtain⟨kN,hkN⟩:∃kN:Nat,(C.d.nd n).k=kN:=⟨(C.d.nd n).k.toNat,by omega⟩;have hk2:kN<39:=by omega
 have i1:(kN:Int)<39:=by omega
 have i2:(0:Int)<=(kN:Int):=by omega
 obtain⟨b,off,e0,_⟩:=jU ((hP.ss.fns hC).2 C.f hC.f).2.2.1 hn;have HV:Hid (∀(st:List Int) (ins:Nat) (x:FT) (a:Option Addr) (cap:Nat) (w:World),SS C st ins x a cap w->w.cell? ⟨C.S,8,none⟩=some (.slice (some ⟨b,off,none⟩) C.d.nn C.fa.nc)/\w.cell? ⟨b,off+n*8,none⟩=some (.int .i64 (kN:Int))/\w.cell? ⟨C.S,9+kN,none⟩=some (jE C.S (DY kN))):=fun st ins x a cap w h=>Vp hC h hn e0 hkN hk2;have HC:Hid (Calls Tryz.prog (DY kN) #[.pointer (some ⟨C.S,0,none⟩),.int .i64 (n:Int)] w.drew fun e w'=>e=.returned (.tuple #[])/\mg C (st++leaves C n) ins (fun y=>P y\/nX C.u C.f n y) a w.drew w'):=by
  have h:=hstep st ins x a cap P w.drew hP.drew;rw[hkN] at h;exact h
 have HP:Hid (jV C n st ins x a cap P w):=hP;go_in;refine wp_region_held_drew (S:=(fun w'=>w'.cell? ⟨C.S,8,none⟩=some (.slice (some ⟨b,off,none⟩) C.d.nn C.fa.nc)/\w'.cell? ⟨b,off+n*8,none⟩=some (.int .i64 (kN:Int))/\w'.cell? ⟨C.S,9+kN,none⟩=some (jE C.S (DY kN)))) (by kernel_rfl) (HV.out _ _ _ _ _ _ HP.ss.drew) (fun iI=>?_);refine wpAnyH_take (i:=0) (oi:=⟨some 4,_,_,_,_,_⟩) (v:=?v1) rfl (by kernel_rfl) (by kernel_rfl) (by kernel_rfl) (fun _ _ _ h=>h) (Or.inl ⟨by rfl,?hy1⟩) (by assumption) ?yQ
 case hy1=>(intro wz hSw;(try dsimp only at hSw);go_simp<;>with_reducible rfl)
 try simp only[Act.put,iT,iR,iQ]
 refine wpAnyH_take (i:=1) (oi:=⟨some 5,_,_,_,_,_⟩) (v:=?v2) rfl (by kernel_rfl) (by kernel_rfl) (by kernel_rfl) (fun _ _ _ h=>h) (Or.inl ⟨by rfl,?hy2⟩) (by assumption) ?yP
 case hy2=>(intro wz hSw;(try dsimp only at hSw);go_simp<;>with_reducible rfl)
 try simp only[Act.put,iT,iR,iQ]
 refine wpAnyH_take (i:=2) (oi:=⟨some 6,_,_,_,_,_⟩) (v:=?v3) rfl (by kernel_rfl) (by kernel_rfl) (by kernel_rfl) (fun _ _ _ h=>h) (Or.inl ⟨by rfl,?hy3⟩) (by assumption) ?BD
 case hy3=>(intro wz hSw;(try dsimp only at hSw);go_simp<;>with_reducible rfl)
 try simp only[Act.put,iT,iR,iQ]
 refine wpAnyH_take (i:=3) (oi:=⟨some 7,_,_,_,_,_⟩) (v:=?v4) rfl (by kernel_rfl) (by kernel_rfl) (by kernel_rfl) (fun _ _ _ h=>h) (Or.inl ⟨by rfl,?hy4⟩) (by assumption) ?FX
 case hy4=>(intro wz hSw;(try dsimp only at hSw);go_simp<;>with_reducible rfl)
 try simp only[Act.put,iT,iR,iQ]
 refine wpAnyH_take (i:=4) (oi:=⟨some 8,_,_,_,_,_⟩) (v:=?v5) rfl (by kernel_rfl) (by kernel_rfl) (by kernel_rfl) (fun _ _ _ h=>h) (Or.inl ⟨by rfl,?Oz⟩) (by assumption) ?FW
 case Oz=>(intro wz hSw;(try dsimp only at hSw);go_simp<;>with_reducible rfl)
 try simp only[Act.put,iT,iR,iQ]
 refine wpAnyH_take (i:=5) (oi:=⟨some 9,_,_,_,_,_⟩) (v:=?v6) rfl (by kernel_rfl) (by kernel_rfl) (by kernel_rfl) (fun _ _ _ h=>h) (Or.inl ⟨by rfl,?Oy⟩) (by assumption) ?FV
 case Oy=>(intro wz hSw;(try dsimp only at hSw);go_simp<;>with_reducible rfl)
 try simp only[Act.put,iT,iR,iQ]
 refine wpAnyH_take (i:=6) (oi:=⟨some 10,_,_,_,_,_⟩) (v:=?v7) rfl (by kernel_rfl) (by kernel_rfl) (by kernel_rfl) (fun _ _ _ h=>h) (Or.inl ⟨by rfl,?Ox⟩) (by assumption) ?FU
 case Ox=>(intro wz hSw;(try dsimp only at hSw);go_simp<;>with_reducible rfl)
 try simp only[Act.put,iT,iR,iQ]
 refine wpAnyH_take (i:=7) (oi:=⟨some 11,_,_,_,_,_⟩) (v:=?v8) rfl (by kernel_rfl) (by kernel_rfl) (by kernel_rfl) (fun _ _ _ h=>h) (Or.inl ⟨by rfl,?Ov⟩) (by assumption) ?FQ
 case Ov=>(intro wz hSw;(try dsimp only at hSw);go_simp<;>with_reducible rfl)
 try simp only[Act.put,iT,iR,iQ]
 refine wpAnyH_take (i:=8) (oi:=⟨some 12,_,_,_,_,_⟩) (v:=?v9) rfl (by kernel_rfl) (by kernel_rfl) (by kernel_rfl) (fun _ _ _ h=>h) (Or.inl ⟨by rfl,?Xm⟩) (by assumption) ?Nu
 case Xm=>(intro wz hSw;(try dsimp only at hSw);go_simp<;>with_reducible rfl)
 try simp only[Act.put,iT,iR,iQ]
 refine wpAnyH_take (i:=9) (oi:=⟨some 13,_,_,_,_,_⟩) (v:=?v10) rfl (by kernel_rfl) (by kernel_rfl) (by kernel_rfl) (fun _ _ _ h=>h) (Or.inl ⟨by rfl,?Jk⟩) (by assumption) ?Iu
 case Jk=>(intro wz hSw;(try dsimp only at hSw);go_simp<;>with_reducible rfl)
 try simp only[Act.put,iT,iR,iQ]
 refine wpAnyH_take (i:=10) (oi:=⟨some 14,_,_,_,_,_⟩) (v:=?v11) rfl (by kernel_rfl) (by kernel_rfl) (by kernel_rfl) (fun _ _ _ h=>h) (Or.inl ⟨by rfl,?Jj⟩) (by assumption) ?Ir
 case Jj=>(intro wz hSw;(try dsimp only at hSw);go_simp<;>with_reducible rfl)
 try simp only[Act.put,iT,iR,iQ]
 refine wpAnyH_take (i:=11) (oi:=⟨some 15,_,_,_,_,_⟩) (v:=?v12) rfl (by kernel_rfl) (by kernel_rfl) (by kernel_rfl) (fun _ _ _ h=>h) (Or.inl ⟨by rfl,?Ji⟩) (by assumption) ?Iq
 case Ji=>(intro wz hSw;(try dsimp only at hSw);go_simp<;>with_reducible rfl)
 try simp only[Act.put,iT,iR,iQ]
 refine wpAnyH_take (i:=12) (oi:=⟨some 16,_,_,_,_,_⟩) (v:=?v13) rfl (by kernel_rfl) (by kernel_rfl) (by kernel_rfl) (fun _ _ _ h=>h) (Or.inl ⟨by rfl,?Jh⟩) (by assumption) ?Ip
 case Jh=>(intro wz hSw;(try dsimp only at hSw);go_simp<;>with_reducible rfl)
 try simp only[Act.put,iT,iR,iQ]
 refine wpAnyH_take (i:=13) (oi:=⟨some 17,_,_,_,_,_⟩) (v:=?v14) rfl (by kernel_rfl) (by kernel_rfl) (by kernel_rfl) (fun _ _ _ h=>h) (Or.inl ⟨by rfl,?Jg⟩) (by assumption) ?Io
 case Jg=>(intro wz hSw;(try dsimp only at hSw);go_simp<;>with_reducible rfl)
 try simp only[Act.put,iT,iR,iQ]
 refine wpAnyH_take (i:=14) (oi:=⟨some 18,_,_,_,_,_⟩) (v:=?v15) rfl (by kernel_rfl) (by kernel_rfl) (by kernel_rfl) (fun _ _ _ h=>h) (Or.inl ⟨by rfl,?Xp⟩) (by assumption) ?VG
 case Xp=>(intro wz hSw;(try dsimp only at hSw);go_simp<;>with_reducible rfl)
 try simp only[Act.put,iT,iR,iQ]
 refine wpAnyH_ready (rs:=[15]) (by kernel_rfl) (by simp) ?_;refine AllReadyH.cons (o:=⟨some 19,_,_,_,_,_⟩) rfl (fun K hK=>?_) AllReadyH.nil;go_simp;rw[yn6 kN hk2];dsimp only[Oper.upon];refine HC.mono ?_;rintro e w9 ⟨rfl,hp9⟩;have Kv:Hid _:=hp9;dsimp only;refine hK.out _ _ (by obtain⟨x',a',cap',h1,_⟩:=Kv.out;exact HV _ _ _ _ _ _ h1) (fun hHeld=>?_);refine wpAnyH_done (by kernel_rfl) ?_ _;go_end0;exact⟨rfl,mg.drew Kv⟩
end
end Go.Proofs.YthnkncpegihbhaaGreatDoor
