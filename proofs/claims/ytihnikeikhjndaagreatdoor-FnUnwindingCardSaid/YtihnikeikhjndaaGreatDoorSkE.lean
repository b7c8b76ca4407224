import Derived.Test.YtihnikeikhjndaaGreatDoorSkA
set_option maxRecDepth 100000
set_option maxHeartbeats 16000000
namespace Go.Proofs.YtihnikeikhjndaaGreatDoor
section
open Go.RowKit
attribute [local go_sem] aN
attribute [local go_sem ↓] Go.wp_at_zero Go.wp_at_succ
structure jr(C:CX)(a:Option Addr)(w:World)(va:Option Addr)(n:Nat)(r:Nat->Int):Prop where
 at_:jQ 0 w va n r
 far:0<n->∀b off,va=some ⟨b,off,none⟩->b≠C.S/\b≠C.T/\aj a≠some b
theorem jr.mv{C:CX}{a a':Option Addr}{w w':World}{va:Option Addr}{n:Nat}{r:Nat->Int}(h:jr C a w va n r)(hm:Mv C.S C.T a w a' w'):jr C a' w' va n r:=by
 refine⟨fun hn=>?_,fun hn b off e=>?_⟩
 ·obtain⟨b,off,e,h0,h1,h2⟩:=h.at_ hn;obtain⟨f1,f2,f3⟩:=h.far hn b off e;exact⟨b,off,e,h0,Nat.lt_of_lt_of_le h1 hm.kp.size,fun i hi j hj=>(World.cell?_of_block (a:=⟨b,off+i*1+j,none⟩) (hm.kp.block b h1 f1 f2 f3)).trans (h2 i hi j hj)⟩
 ·obtain⟨f1,f2,f3⟩:=h.far hn b off e;refine⟨f1,f2,?_⟩;rcases hm.nw with c|⟨k,c,hk⟩
  ·rw[c];exact f3
  ·rw[c];intro ek
   cases ek;obtain⟨b',off',e',_,h1,_⟩:=h.at_ hn;rw[e] at e'
   cases e';omega
def y86(C:CX)(st:List Int)(ins:Nat)(x:FT)(a:Option Addr)(w w':World):Prop:=∃a' cap',SS C st ins x a' cap' w'/\Mv C.S C.T a w a' w'
theorem PU(C:CX)(st:List Int)(ins:Nat)(x:FT)(a:Option Addr)(cap:Nat)(va:Option Addr)(n vc:Nat)(r:Nat->Int)(w:World)(hn:n<=1048576)(hroom:st.length<=700000000000)(hS:SS C st ins x a cap w)(hI:jr C a w va n r):Calls Tryz.prog 140 #[.pointer (some ⟨C.S,0,none⟩),.slice va n vc] w fun e w'=>e=.returned (.tuple #[])/\y86 C (st++jF r C.d.vn n) ins x a w w':=by
 have HS:Hid (SS C st ins x a cap w):=hS;have HI:Hid (jr C a w va n r):=hI;clear hS hI;obtain⟨i0,hi0,hy0,hy1,hy2⟩:=info_parts z17;go_in;go_wp2_with fail
 go_loopw [8] (fun i wr=>∃(k:Nat) (a':Option Addr) (cap':Nat),k<=n/\i=.int .i64 k/\Hid (SS C (st++jF r C.d.vn k) ins x a' cap' wr)/\Hid (Mv C.S C.T a w a' wr)) (fun i _=>n-(intOf i).toNat)
 case atStart=>exact⟨0,a,cap,Nat.zero_le _,rfl,by rw[OT,List.append_nil];exact HS,Mv.refl _ _ _ _⟩
 case round=>
  obtain⟨k,a',cap',hk,rfl,jY,HM⟩:=hrel;by_cases hkn:k<n
  ·obtain⟨b,off,rfl,_,hb,d0⟩:=aX (HI.mv HM.out).at_ hkn;have c49:=jY.c49;by_cases hin:fO (r k) C.d.vn
   ·have hw:je (r k) (C.d.vn:Int)=true:=by unfold je;have:=hin.1;have:=hin.2;simp;omega
    have e1:=U2 hin;have hln:=GK r C.d.vn k;obtain⟨y,hy⟩:∃y:Nat,r k=y:=⟨(r k).toNat,by have:=hin.1;omega⟩;have hyn:y<C.d.vn:=by have:=hin.2;omega
    rw[hy] at d0 hw e1;have E1:Hid (jF r C.d.vn (k+1)=jF r C.d.vn k++[(y:Int)]):=e1;clear hy hin e1;obtain⟨s1,hs1⟩:∃s1,s1=st++jF r C.d.vn k:=⟨_,rfl⟩;have hl1:s1.length<=700000000000+1048576:=by rw[hs1,List.length_append];omega
    have E2:Hid (st++jF r C.d.vn (k+1)=s1++[(y:Int)]):=by show _=_;rw[E1.out,hs1,List.append_assoc]
    rw[<-hs1] at jY;clear hs1 E1 hln;have tu:=jY.tu;have z:=jY.fz;have hr:=NY s1 y;go_wp2_with (first|(go_at_call 143;refine(q11 _ _ _).mono ?_;rw[hw];rintro e w1 ⟨rfl,rfl⟩)|(at_builtin;refine wpList_append_own_at _ rfl _ _ 45 rfl C.w0.heap.size 3 i0 _ 1 8 Tryz.underlying45 hi0 hy0 hy1 hy2 rfl (by decide) (.slice a' s1.length cap') s1.length (svK s1) rfl (jY.alloc _).sk ⟨w1.heap.size,0,none⟩ 1 1 [.int .i64 (y:Int)] rfl rfl (cell_one_new _ _ _) (by simp[Value.oneCell']) (by unfold maxLen;omega) (by omega) (by have:=jY.b.size;simp;omega) ?_;intro v' w7 hown hgrow _ hblk;rw[dD] at hgrow hblk;have hmid:=(jY.alloc (.cells #[.int .i64 (y:Int)] 3)).mid hgrow;obtain⟨a2,cap2,hv2,hs2,hm2⟩:=(jY.alloc (.cells #[.int .i64 (y:Int)] 3)).push hyn hown hgrow hblk;subst hv2;have HS2:Hid _:=hs2;have nR:Hid _:=hm2;clear hs2 hm2 hown hgrow hblk tu c49 z;have tu:=hmid.1.1.cell 48 rfl;have c49:=hmid.1.1.cell 49 rfl;have z:=hmid.1.2;have t0:=World.rowIs.cell hmid.2 (i:=y) hyn;have tz:=World.rowIs.frozen hmid.2;have MJ:=jY.sT;clear hmid));go_roundw
    case rel=>exact⟨k+1,a2,cap2,by omega,by go_num,by rw[E2.out];exact HS2,HM.trans nR.first⟩
    case measure=>simp[intOf];omega
   ·have hw:je (r k) (C.d.vn:Int)=false:=by
     unfold je fO at *;simp;omega
    have E1:Hid (jF r C.d.vn (k+1)=jF r C.d.vn k):=yh9 hin;go_wp2_with (go_at_call 143;refine(q11 _ _ _).mono ?_;rw[hw];rintro e w1 ⟨rfl,rfl⟩);go_roundw
    case rel=>exact⟨k+1,a',cap',by omega,by go_num,by rw[E1.out];exact jY,HM⟩
    case measure=>simp[intOf];omega
  ·obtain rfl:k=n:=by omega
   go_wp2_with fail;go_end0;exact⟨rfl,a',cap',jY,HM⟩
structure jy(T:Nat)(w w':World):Prop where
 same:w'.os=w.os/\w'.tape=w.tape/\w'.output=w.output
 size:w'.heap.size=w.heap.size
 block:∀k,k≠T->w'.heap[k]?=w.heap[k]?
theorem jy.refl(T:Nat)(w:World):jy T w w:=⟨⟨rfl,rfl,rfl⟩,rfl,fun _ _=>rfl⟩
theorem jy.set{T:Nat}{w w':World}(h:jy T w w')(o:Nat)(v:Value):jy T w (w'.setCell ⟨T,o,none⟩ v):=⟨h.same,by have:=h.size;simpa using this,fun k hk=>(Below.heap_setCell w' ⟨T,o,none⟩ v k hk).trans (h.block k hk)⟩
def y85(C:CX)(st:List Int)(ins:Nat)(x:FT)(a:Option Addr)(cap:Nat)(w w':World):Prop:=SS C st ins x a cap w'/\Mv C.S C.T a w a w'
theorem yc7{C:CX}{st:List Int}{ins:Nat}{x:FT}{a:Option Addr}{cap:Nat}{w:World}(h:SS C st ins x a cap w){i:Nat}(hi:i<st.length):∃(b y:Nat),a=some ⟨b,0,none⟩/\b<w.heap.size/\st[i]?=some (y:Int)/\y<C.d.vn/\w.cell? ⟨b,i,none⟩=some (.int .i64 (y:Int))/\st.length<=cap:=by
 rcases h.sk.2 with⟨_,h2⟩|⟨g,cap',cur,e2,h3,hh,h4,_,h6,h7⟩
 ·omega
 ·cases e2;have hm:=h.rg st[i] (List.getElem_mem hi);obtain⟨y,hy⟩:∃y:Nat,st[i]=y:=⟨st[i].toNat,by have:=hm.1;omega⟩;have he:st[i]?=some (y:Int):=by rw[List.getElem?_eq_getElem hi,hy]
  refine⟨g,y,rfl,(Array.getElem?_eq_some_iff.1 hh).1,he,by have:=hm.2;omega,?_,h4⟩;have h8:(cur.toList.take (st.length*1))[i]?=some (.int .i64 (y:Int)):=by rw[h7];simp[svK,he]
  rw[List.getElem?_take_of_lt (by omega),Array.getElem?_toList] at h8;simp[World.cell?,hh,h8]
theorem Xj(C:CX)(st:List Int)(ins:Nat)(x:FT)(a:Option Addr)(cap:Nat)(h:Nat)(u:FrameMode)(w:World)(hroom:st.length<=800000000000)(hle:h<=st.length)(hS:SS C st ins x a cap w):CallsD Tryz.prog 164 #[.pointer (some ⟨C.S,0,none⟩),.int .i64 (h:Int)] u w fun e u' w'=>u'=u/\(e=.returned (.tuple #[])/\y85 C (st.take h) ins x a cap w w'):=by
 have HS:Hid (SS C st ins x a cap w):=hS;have tu:=hS.tu;have c49:=hS.c49;have z:=hS.fz;clear hS;by_cases hc:cap=h
 ·have hlen:st.length=h:=by
   rcases HS.sk.2 with⟨h2,h3⟩|⟨g,cap',cur,e2,h3,hh,h4,_⟩
   ·obtain⟨_,_,h5⟩:a=none/\st.length=0/\cap=0:=by simpa using h2
    omega
   ·cases e2;omega
  have HE:Hid (eX w C.T C.d.vn (cnt (st.take h))):=by
   show eX _ _ _ _;rw[<-hlen,List.take_length];exact HS.tm
  subst hc;rw[hlen] at tu
  go_enter_d Tryz.func164,Tryz.ntmps164
  go_wp2_with fail;refine wp_loop_rounds 1 ?_;rw[rounds_succ];go_wp2_with fail;go_end0;exact⟨rfl,HS.times (hh:=cap) (by omega) (fun _ _=>rfl) rfl ⟨rfl,rfl,rfl⟩ HE.out⟩
 ·obtain⟨b,rfl,hcap⟩:∃b,a=some ⟨b,0,none⟩/\st.length<=cap:=by
   rcases HS.sk.2 with⟨h2,h3⟩|⟨g,cap',cur,e2,h3,hh,h4,_⟩
   ·obtain⟨_,_,h5⟩:a=none/\st.length=0/\cap=0:=by simpa using h2
    omega
   ·cases e2;exact⟨g,rfl,h4⟩
  have q1:(h:Int)<=(cap:Int):=by omega
  go_enter_d Tryz.func164,Tryz.ntmps164
  go_wp2_with fail;have DV:b≠C.T:=fun e=>HS.ta (by rw[<-e];rfl);have MJ:=HS.sT
  go_loopw [13] (fun i wr=>∃(k:Nat),k<=st.length-h/\i=.int .i64 k/\Hid (eX wr C.T C.d.vn (cnt (rest st h k)))/\Hid (jy C.T w wr)) (fun i _=>st.length-h - (intOf i).toNat)
  case atStart=>exact⟨0,Nat.zero_le _,rfl,by rw[ZQ];exact HS.tm,jy.refl _ _⟩
  case round=>
   obtain⟨k,hk,rfl,HR,HO⟩:=hrel;have d49:wr.cell? ⟨C.S,49,none⟩=some (.slice (some ⟨C.T,0,none⟩) C.d.vn C.d.vn):=(World.cell?_of_block (a:=⟨C.S,49,none⟩) (HO.block _ MJ)).trans c49;by_cases hkn:k<st.length-h
   ·obtain⟨b',y,e0,_,hsy,hyn,g0,_⟩:=yc7 HS.out (i:=h+k) (by omega);obtain rfl:b=b':=by simpa using e0
    have g1:wr.cell? ⟨b,h+k,none⟩=some (.int .i64 (y:Int)):=(World.cell?_of_block (a:=⟨b,h+k,none⟩) (HO.block _ DV)).trans g0;have t0:=World.rowIs.cell HR.out (i:=y) hyn;have tz:=World.rowIs.frozen HR.out;have hr1:=NY (rest st h k) y;have hrl:(rest st h k).length<=2*st.length:=by
     unfold rest;rw[List.length_append,List.length_take,List.length_drop];omega
    have HR1:Hid (eX (wr.setCell ⟨C.T,y,none⟩ (.int .i64 (cnt (rest st h k) y-1))) C.T C.d.vn (cnt (rest st h (k+1)))):=(World.rowIs.set HR.out y _).congr fun i _=>by
     rw[ZP hsy];split<;>rfl
    have iI:Hid (jy C.T w (wr.setCell ⟨C.T,y,none⟩ (.int .i64 (cnt (rest st h k) y-1)))):=HO.set _ _;clear g0 hsy e0 tu c49 z;go_wp2_with fail;go_roundw
    case rel=>exact⟨k+1,by omega,by go_num,HR1,iI⟩
    case measure=>simp[intOf];omega
   ·have d48:wr.cell? ⟨C.S,48,none⟩=some (.slice (some ⟨b,0,none⟩) st.length cap):=(World.cell?_of_block (a:=⟨C.S,48,none⟩) (HO.block _ MJ)).trans tu;have dz:∀o,wr.frozen? ⟨C.S,o,none⟩=false:=fun o=>(World.frozen?_of_block (a:=⟨C.S,o,none⟩) (HO.block _ MJ)).trans (z o);have HE:Hid (eX wr C.T C.d.vn (cnt (st.take h))):=by
     have h1:=HR.out;rw[y35 st (by omega)] at h1;exact h1
    clear tu c49 z;go_wp2_with fail;go_end0;exact⟨rfl,HS.times hle HO.block HO.size HO.same HE⟩
def Six(u:UD)(f n:Nat):Prop:=((((u.fn f).nd n).k=26/\¬(fO (((u.fn f).nd n).r 0) (u.fn f).vn/\Scoped (u.fn f) n (((u.fn f).nd n).r 0)))
   \/(((u.fn f).nd n).k=27/\¬fO (((u.fn f).nd n).r 0) (u.fn f).un)
   \/(((u.fn f).nd n).k=36/\¬fO (((u.fn f).nd n).r 0) u.n))
theorem P9{u:UD}{f n:Nat}(h6:Six u f n)(h7:¬wo (u.fn f) n)(h8:¬wu u f n)(y:FT):ji u f n y↔y=⟨6,f,n⟩:=by
 constructor
 ·rintro⟨h1,h2,h3|h3|h3⟩
  ·exact FT.ext h3.1 h1 h2
  ·exact absurd h3.2 h7
  ·exact absurd h3.2 h8
 ·rintro rfl;exact⟨rfl,rfl,.inl ⟨rfl,h6⟩⟩
theorem zc7{u:UD}{f n:Nat}(h6:¬Six u f n)(h7:wo (u.fn f) n)(h8:¬wu u f n)(y:FT):ji u f n y↔y=⟨7,f,n⟩:=by
 constructor
 ·rintro⟨h1,h2,h3|h3|h3⟩
  ·exact absurd h3.2 h6
  ·exact FT.ext h3.1 h1 h2
  ·exact absurd h3.2 h8
 ·rintro rfl;exact⟨rfl,rfl,.inr (.inl ⟨rfl,h7⟩)⟩
theorem PL{u:UD}{f n:Nat}(h6:¬Six u f n)(h7:¬wo (u.fn f) n)(h8:wu u f n)(y:FT):ji u f n y↔y=⟨8,f,n⟩:=by
 constructor
 ·rintro⟨h1,h2,h3|h3|h3⟩
  ·exact absurd h3.2 h6
  ·exact absurd h3.2 h7
  ·exact FT.ext h3.1 h1 h2
 ·rintro rfl;exact⟨rfl,rfl,.inr (.inr ⟨rfl,h8⟩)⟩
theorem yF{u:UD}{f n:Nat}(h6:¬Six u f n)(h7:¬wo (u.fn f) n)(h8:¬wu u f n)(y:FT):¬ji u f n y:=by
 rintro⟨_,_,h3|h3|h3⟩
 ·exact h6 h3.2
 ·exact h7 h3.2
 ·exact h8 h3.2
theorem Df{u:UD}{f n:Nat}(h1:((u.fn f).nd n).k≠26)(h2:((u.fn f).nd n).k≠27)(h3:((u.fn f).nd n).k≠36):¬Six u f n:=by
 rintro(h|h|h)
 ·exact h1 h.1
 ·exact h2 h.1
 ·exact h3 h.1
theorem zy{d:FD}{n:Nat}(h1:(d.nd n).k≠9)(h2:(d.nd n).k≠10):¬wo d n:=by
 rintro⟨h|h,_⟩
 ·exact h1 h
 ·exact h2 h
theorem qc6{u:UD}{f n:Nat}(h1:((u.fn f).nd n).k≠36)(h2:((u.fn f).nd n).k≠37):¬wu u f n:=by
 rintro(h|h)
 ·exact h2 h.1
 ·exact h1 h.1
theorem z69{u:UD}{f n:Nat}(h:((u.fn f).nd n).kn=0)(y:FT):iO u f n y↔ji u f n y:=by
 rw[EU];constructor
 ·rintro(⟨i,c,h1,_⟩|h1)
  ·omega
  ·exact h1
 ·exact .inr
theorem Zu{C:CX}{n c:Nat}{P:FT->Prop}{x:FT}(h:Least P x)(hc:0<c)(hk:(C.d.nd n).kn=0)(hN:∀y,ji C.u C.f n y↔y=⟨c,C.f,n⟩):Least (fun y=>P y\/iO C.u C.f n y) (qg x ⟨c,C.f,n⟩):=
 (h.note (b:=⟨c,C.f,n⟩) hc).congr fun y=>by rw[z69 hk,hN]
theorem y47{C:CX}{n:Nat}{P:FT->Prop}{x:FT}(h:Least P x)(hk:(C.d.nd n).kn=0)(hN:∀y,¬ji C.u C.f n y):Least (fun y=>P y\/iO C.u C.f n y) x:=
 h.congr fun y=>by rw[z69 hk];exact⟨.inl,fun h'=>h'.resolve_right (hN y)⟩
theorem zC{C:CX}{n:Nat}(h:(C.d.nd n).k≠2)(st:List Int):st++leaves C n=st:=by unfold leaves;rw[if_neg h,List.append_nil]
theorem Dp{C:CX}{n c:Nat}{st:List Int}{ins:Nat}{x:FT}{a:Option Addr}{cap:Nat}{P:FT->Prop}{w w':World}(h:GL C st ins (qg x ⟨c,C.f,n⟩) a cap w w')(h2:(C.d.nd n).k≠2)(hL:Least P x)(hc:0<c)(hk:(C.d.nd n).kn=0)(hN:∀y,ji C.u C.f n y↔y=⟨c,C.f,n⟩):gB C (st++leaves C n) ins (fun y=>P y\/iO C.u C.f n y) a w w':=by
 rw[zC h2];exact⟨_,a,cap,h.1,Zu hL hc hk hN,h.2⟩
theorem GI{C:CX}{n:Nat}{st:List Int}{ins:Nat}{x:FT}{a:Option Addr}{cap:Nat}{P:FT->Prop}{w w':World}(h:SS C st ins x a cap w')(hm:Mv C.S C.T a w a w')(h2:(C.d.nd n).k≠2)(hL:Least P x)(hk:(C.d.nd n).kn=0)(hN:∀y,¬ji C.u C.f n y):gB C (st++leaves C n) ins (fun y=>P y\/iO C.u C.f n y) a w w':=by
 rw[zC h2];exact⟨_,a,cap,h,y47 hL hk hN,hm⟩
theorem z82(C:CX)(hC:C.ok)(n:Nat)(hk:(C.d.nd n).k=9\/(C.d.nd n).k=10):uT C 135 n:=by
 intro st ins x a cap P w hP;have hk':((C.u.fn C.f).nd n).k=9\/((C.u.fn C.f).nd n).k=10:=hk;have hk0:=(hC.node hP.lt).leaf (by omega);have HP:Hid (dL C n st ins x a cap P w):=hP;have HC:Hid C.ok:=hC;have Ed:=hP.ss.Ed;have hlp:=hP.loop;clear hP hC;have h6:Hid (¬Six C.u C.f n):=Df (by omega) (by omega) (by omega);have h8:Hid (¬wu C.u C.f n):=qc6 (by omega) (by omega);have h2:Hid ((C.d.nd n).k≠2):=by show _≠_;omega
 have HK:Hid ((C.d.nd n).kn=0):=hk0;by_cases h0:ins=0
 ·subst h0;have hN:Hid (∀y,ji C.u C.f n y↔y=⟨7,C.f,n⟩):=zc7 h6.out ⟨hk,fun h=>by have:=hlp.2 h;omega⟩ h8.out;clear hlp hk hk' hk0;go_in;go_wp2_with (go_at_call 166;refine(zD C st 0 x a cap 7 n _ HP.ss).mono ?_;rintro e w1 ⟨rfl,hn1⟩;have jo:Hid _:=hn1;clear hn1);go_end0;exact⟨rfl,Dp jo.out h2.out HP.least (by decide) HK.out hN.out⟩
 ·have hN:Hid (∀y,¬ji C.u C.f n y):=yF h6.out (fun h=>h.2 (hlp.1 (by omega))) h8.out;have q:((ins:Int)==0)=false:=by simp;omega
  clear hlp hk hk' hk0;go_in;go_wp2_with fail;go_end0;exact⟨rfl,GI HP.ss (Mv.refl _ _ _ _) h2.out HP.least HK hN.out⟩
theorem ZO(C:CX)(hC:C.ok)(n:Nat)(hk:(C.d.nd n).k=37):uT C 139 n:=by
 intro st ins x a cap P w hP;have hk':((C.u.fn C.f).nd n).k=37:=hk;have hk0:=(hC.node hP.lt).leaf (by omega);have HP:Hid (dL C n st ins x a cap P w):=hP;have c5:=hP.ss.c5;clear hP hC;have h6:Hid (¬Six C.u C.f n):=Df (by omega) (by omega) (by omega);have h7:Hid (¬wo (C.u.fn C.f) n):=zy (by omega) (by omega);have h2:Hid ((C.d.nd n).k≠2):=by show _≠_;omega
 have HK:Hid ((C.d.nd n).kn=0):=hk0
 cases hr:C.d.rest
 ·have hN:Hid (∀y,ji C.u C.f n y↔y=⟨8,C.f,n⟩):=PL h6.out h7.out (.inl ⟨hk,hr⟩);rw[hr] at c5;clear hk hk' hk0 hr;go_in;go_wp2_with (go_at_call 166;refine(zD C st ins x a cap 8 n _ HP.ss).mono ?_;rintro e w1 ⟨rfl,hn1⟩;have jo:Hid _:=hn1;clear hn1);go_end0;exact⟨rfl,Dp jo.out h2.out HP.least (by decide) HK.out hN.out⟩
 ·have hN:Hid (∀y,¬ji C.u C.f n y):=yF h6.out h7.out (by
   rintro(h|h)
   ·rw[show(C.u.fn C.f).rest=true from hr] at h;exact Bool.noConfusion h.2
   ·omega)
  rw[hr] at c5;clear hk hk' hk0 hr;go_in;go_wp2_with fail;go_end0;exact⟨rfl,GI HP.ss (Mv.refl _ _ _ _) h2.out HP.least HK hN.out⟩
theorem qz4(C:CX)(hC:C.ok)(n:Nat)(hk:(C.d.nd n).k=26):uT C 136 n:=by
 intro st ins x a cap P w hP;have hk':((C.u.fn C.f).nd n).k=26:=hk;have hk0:=(hC.node hP.lt).leaf (by omega);have hr1:=(hC.node hP.lt).one (by omega);have HP:Hid (dL C n st ins x a cap P w):=hP;have c8:=hP.ss.c8;have hn:=hP.lt;have hnn:=hC.nn;obtain⟨b,off,e0,_,hb,d0,d1,d2,d3,d4,d5,d6,d7⟩:=dK ((hP.ss.fns hC).2 C.f hC.f).2.2.1 hn;obtain⟨b2,o2,e2,_,hb2,r0⟩:=aX (((hP.ss.fns hC).2 C.f hC.f).2.2.2 n hn).1 (show 0<(C.d.nd n).rn by omega);rw[e0] at c8;rw[show(C.u.fn C.f).nd n=C.d.nd n from rfl,e2,hr1] at d6;rw[Nat.add_zero] at r0;clear d0 d1 d2 d3 d4 d5 d7 e0 e2;have h7:Hid (¬wo (C.u.fn C.f) n):=zy (by omega) (by omega);have h8:Hid (¬wu C.u C.f n):=qc6 (by omega) (by omega);have h2:Hid ((C.d.nd n).k≠2):=by show _≠_;omega
 have HK:Hid ((C.d.nd n).kn=0):=hk0;have hsx:Six C.u C.f n↔¬(C.d.nd n).r 0∈st:=by
  constructor
  ·rintro(h|h|h)
   ·intro hm;exact h.2 ⟨hP.ss.rg _ hm,(hP.stack _ (hP.ss.rg _ hm)).1 hm⟩
   ·omega
   ·omega
  ·intro hm;exact .inl ⟨hk,fun h=>hm ((hP.stack _ h.1).2 h.2)⟩
 clear hP hC hk0 hr1;by_cases hm:(C.d.nd n).r 0∈st
 ·have hN:Hid (∀y,¬ji C.u C.f n y):=yF (fun h=>hsx.1 h hm) h7.out h8.out;have q:dB ((C.d.nd n).r 0∈st)=true:=jI hm;clear hsx hk hk' hm;go_in;go_wp2_with (go_at_call 167;refine(EZ C st ins x a cap _ _ HP.ss).mono ?_;rw[q];rintro e w1 ⟨rfl,rfl⟩);go_end0;exact⟨rfl,GI HP.ss (Mv.refl _ _ _ _) h2.out HP.least HK hN.out⟩
 ·have hN:Hid (∀y,ji C.u C.f n y↔y=⟨6,C.f,n⟩):=P9 (hsx.2 hm) h7.out h8.out;have q:dB ((C.d.nd n).r 0∈st)=false:=iP hm;clear hsx hk hk' hm;go_in;go_wp2_with (first|(go_at_call 167;refine(EZ C st ins x a cap _ _ HP.ss).mono ?_;rw[q];rintro e w1 ⟨rfl,rfl⟩)|(go_at_call 166;refine(zD C st ins x a cap 6 n _ HP.ss).mono ?_;rintro e w2 ⟨rfl,hn1⟩;have jo:Hid _:=hn1;clear hn1));go_end0;exact⟨rfl,Dp jo.out h2.out HP.least (by decide) HK.out hN.out⟩
theorem yb2(C:CX)(hC:C.ok)(n:Nat)(hk:(C.d.nd n).k=27):uT C 137 n:=by
 intro st ins x a cap P w hP;have hk':((C.u.fn C.f).nd n).k=27:=hk;have hk0:=(hC.node hP.lt).leaf (by omega);have hr1:=(hC.node hP.lt).one (by omega);have HP:Hid (dL C n st ins x a cap P w):=hP;have c8:=hP.ss.c8;have c7:=hP.ss.c7;have hn:=hP.lt;have hnn:=hC.nn;obtain⟨b,off,e0,_,hb,d0,d1,d2,d3,d4,d5,d6,d7⟩:=dK ((hP.ss.fns hC).2 C.f hC.f).2.2.1 hn;obtain⟨b2,o2,e2,_,hb2,r0⟩:=aX (((hP.ss.fns hC).2 C.f hC.f).2.2.2 n hn).1 (show 0<(C.d.nd n).rn by omega);rw[e0] at c8;rw[show(C.u.fn C.f).nd n=C.d.nd n from rfl,e2,hr1] at d6;rw[Nat.add_zero] at r0;clear d0 d1 d2 d3 d4 d5 d7 e0 e2;have h7:Hid (¬wo (C.u.fn C.f) n):=zy (by omega) (by omega);have h8:Hid (¬wu C.u C.f n):=qc6 (by omega) (by omega);have h2:Hid ((C.d.nd n).k≠2):=by show _≠_;omega
 have HK:Hid ((C.d.nd n).kn=0):=hk0;have hsx:Six C.u C.f n↔¬fO ((C.d.nd n).r 0) C.d.un:=by
  constructor
  ·rintro(h|h|h)
   ·omega
   ·exact h.2
   ·omega
  ·intro hm;exact .inr (.inl ⟨hk,hm⟩)
 clear hP hC hk0 hr1;by_cases hm:fO ((C.d.nd n).r 0) C.d.un
 ·have hN:Hid (∀y,¬ji C.u C.f n y):=yF (fun h=>hsx.1 h hm) h7.out h8.out;have q:je ((C.d.nd n).r 0) (C.d.un:Int)=true:=by unfold je;have:=hm.1;have:=hm.2;simp;omega
  clear hsx hk hk' hm;go_in;go_wp2_with fail
  go_quiet ((go_at_call 143;exact Calls.quiet_of_same (q11 _ _ _)))
  go_wp2_with fail;go_end0;exact⟨rfl,GI (HP.ss.call (below_drewN (Below.refl _ _) nq)) ((Mv.refl _ _ _ _).call (below_drewN (Below.refl _ _) nq)) h2.out HP.least HK hN.out⟩
 ·have hN:Hid (∀y,ji C.u C.f n y↔y=⟨6,C.f,n⟩):=P9 (hsx.2 hm) h7.out h8.out;have q:je ((C.d.nd n).r 0) (C.d.un:Int)=false:=by
   unfold je fO at *;simp;omega
  clear hsx hk hk' hm;go_in;go_wp2_with fail
  go_quiet ((go_at_call 143;exact Calls.quiet_of_same (q11 _ _ _)))
  have Sl:Hid (SS C st ins x a cap (w.drewN nq)):=HP.ss.call (below_drewN (Below.refl _ _) nq);have HMd:Hid (Mv C.S C.T a w a (w.drewN nq)):=(Mv.refl _ _ _ _).call (below_drewN (Below.refl _ _) nq);go_wp2_with (go_at_call 166;refine(zD C st ins x a cap 6 n _ Sl).mono ?_;rintro e w2 ⟨rfl,hn1⟩;have jo:Hid _:=hn1;clear hn1);go_end0;exact⟨rfl,Dp ⟨jo.1,HMd.trans jo.2⟩ h2.out HP.least (by decide) HK.out hN.out⟩
def EF(C:CX)(st:List Int)(q:Eh):Prop:=(q.loc=true->q.ix∈st)/\(q.loc=false->fO q.ix C.d.un)
def D8(C:CX)(st:List Int)(un:Nat)(q:Nat->Eh):Prop:=∀i,i<un->EF C st (q i)
theorem zd9(C:CX)(st:List Int)(ins:Nat)(x:FT)(a:Option Addr)(cap:Nat)(va:Option Addr)(un vc:Nat)(q:Nat->Eh)(L:Nat)(w:World)(hn:un<=1048576)(hS:SS C st ins x a cap w)(hT:aP 2 L w va un fun i=>KP (q i)):Calls Tryz.prog 168 #[.pointer (some ⟨C.S,0,none⟩),.slice va un vc] w fun e w'=>e=.returned (.bool (dB (D8 C st un q)))/\ah w w':=by
 have HS:Hid (SS C st ins x a cap w):=hS;have HT:Hid (aP 2 L w va un fun i=>KP (q i)):=hT;clear hS hT;go_in;go_wp2_with fail
 go_loopw [9] (fun i wr=>∃(k:Nat),k<=un/\i=.int .i64 k/\Hid (∀j,j<k->EF C st (q j))/\Hid (ah w wr)) (fun i _=>un-(intOf i).toNat)
 case atStart=>exact⟨0,Nat.zero_le _,rfl,fun j hj=>by omega,Below.refl _ _⟩
 case round=>
  obtain⟨k,hk,rfl,HK,HB⟩:=hrel;by_cases hkn:k<un
  ·obtain⟨b,off,rfl,_,hb,d0,d1⟩:=cells2 (HT.below HB.out) hkn;obtain⟨lc,ix,hq⟩:∃lc ix,q k=⟨lc,ix⟩:=⟨_,_,rfl⟩;have HQ:Hid (q k=⟨lc,ix⟩):=hq;rw[hq] at d0 d1;have jY:Hid (SS C st ins x a cap (wr.alloc (.cells #[.bool lc,.int .i64 ix] 285))):=(HS.call HB.out).alloc _;have HB1:Hid (ah w (wr.alloc (.cells #[.bool lc,.int .i64 ix] 285))):=bH HB.out _;have c7:=jY.c7;clear hq
   cases lc
   ·by_cases hin:fO ix C.d.un
    ·have HU:Hid (EF C st (q k)):=by show EF C st (q k);rw[HQ.out];exact⟨fun h=>Bool.noConfusion h,fun _=>hin⟩
     have hw:je ix (C.d.un:Int)=true:=by unfold je;have:=hin.1;have:=hin.2;simp;omega
     clear hin;go_wp2_with fail
     go_quiet ((first|(go_at_call 167;exact Calls.quiet_of_same (EZ C st ins x a cap _ _ (by first|exact jY.out|exact jY.drew|exact jY.call (below_drewN (Below.refl _ _) _))))|(go_at_call 143;exact Calls.quiet_of_same (q11 _ _ _))))
     go_wp2_with fail;go_roundw
     case rel=>exact⟨k+1,by omega,by go_num,fun j hj=>by
      by_cases e:j=k
      ·subst e;exact HU
      ·exact HK.out j (by omega),below_drewN HB1.out nq⟩
     case measure=>simp[intOf];omega
    ·have HU:Hid (dB (D8 C st un q)=false):=iP fun h=>hin (by have:=h k hkn;rw[HQ.out] at this;exact this.2 rfl);have hw:je ix (C.d.un:Int)=false:=by
      unfold je fO at *;simp;omega
     clear hin;go_wp2_with fail
     go_quiet ((first|(go_at_call 167;exact Calls.quiet_of_same (EZ C st ins x a cap _ _ (by first|exact jY.out|exact jY.drew|exact jY.call (below_drewN (Below.refl _ _) _))))|(go_at_call 143;exact Calls.quiet_of_same (q11 _ _ _))))
     go_wp2_with fail;go_ret;exact⟨dh HU.symm,below_drewN HB1 nq⟩
   ·by_cases hin:ix∈st
    ·have HU:Hid (EF C st (q k)):=by show EF C st (q k);rw[HQ.out];exact⟨fun _=>hin,fun h=>Bool.noConfusion h⟩
     have hw:dB (ix∈st)=true:=jI hin;clear hin;go_wp2_with fail
     go_quiet ((first|(go_at_call 167;exact Calls.quiet_of_same (EZ C st ins x a cap _ _ (by first|exact jY.out|exact jY.drew|exact jY.call (below_drewN (Below.refl _ _) _))))|(go_at_call 143;exact Calls.quiet_of_same (q11 _ _ _))))
     go_wp2_with fail;go_roundw
     case rel=>exact⟨k+1,by omega,by go_num,fun j hj=>by
      by_cases e:j=k
      ·subst e;exact HU
      ·exact HK.out j (by omega),below_drewN HB1.out nq⟩
     case measure=>simp[intOf];omega
    ·have HU:Hid (dB (D8 C st un q)=false):=iP fun h=>hin (by have:=h k hkn;rw[HQ.out] at this;exact this.1 rfl);have hw:dB (ix∈st)=false:=iP hin;clear hin;go_wp2_with fail
     go_quiet ((first|(go_at_call 167;exact Calls.quiet_of_same (EZ C st ins x a cap _ _ (by first|exact jY.out|exact jY.drew|exact jY.call (below_drewN (Below.refl _ _) _))))|(go_at_call 143;exact Calls.quiet_of_same (q11 _ _ _))))
     go_wp2_with fail;go_ret;exact⟨dh HU.symm,below_drewN HB1 nq⟩
  ·obtain rfl:k=un:=by omega
   go_wp2_with fail;go_ret;exact⟨dh (jI HK).symm,HB⟩
theorem Zn{C:CX}{n:Nat}{st:List Int}{ins:Nat}{x:FT}{a:Option Addr}{cap:Nat}{P:FT->Prop}{w:World}(hP:dL C n st ins x a cap P w)(g:Nat):D8 C st (C.u.fn g).un (C.u.fn g).u↔KO C.u C.f n g:=by
 constructor
 ·intro h i hi;exact⟨fun hl=>⟨hP.ss.rg _ ((h i hi).1 hl),(hP.stack _ (hP.ss.rg _ ((h i hi).1 hl))).1 ((h i hi).1 hl)⟩,(h i hi).2⟩
 ·intro h i hi;exact⟨fun hl=>(hP.stack _ ((h i hi).1 hl).1).2 ((h i hi).1 hl).2,(h i hi).2⟩
theorem zm7(C:CX)(hC:C.ok)(n:Nat)(hk:(C.d.nd n).k=36):uT C 138 n:=by
 intro st ins x a cap P w hP;have hk':((C.u.fn C.f).nd n).k=36:=hk;have hk0:=(hC.node hP.lt).leaf (by omega);have hr1:=(hC.node hP.lt).one (by omega);have HP:Hid (dL C n st ins x a cap P w):=hP;have c8:=hP.ss.c8;have c0:=hP.ss.c0;have c1:=hP.ss.c1;have hn:=hP.lt;have hnn:=hC.nn;have hun:=hC.u5.size.2.1;have hf:=hC.f;obtain⟨b,off,e0,_,hb,d0,d1,d2,d3,d4,d5,d6,d7⟩:=dK ((hP.ss.fns hC).2 C.f hC.f).2.2.1 hn;obtain⟨b2,o2,e2,_,hb2,r0⟩:=aX (((hP.ss.fns hC).2 C.f hC.f).2.2.2 n hn).1 (show 0<(C.d.nd n).rn by omega);have HF:Hid (aZ C.L w C.u.n C.u.fn C.ua C.fas):=hP.ss.fns hC;rw[e0] at c8;rw[show(C.u.fn C.f).nd n=C.d.nd n from rfl,e2,hr1] at d6;rw[Nat.add_zero] at r0;clear d0 d1 d2 d3 d4 d5 d7 e0 e2;have h7:Hid (¬wo (C.u.fn C.f) n):=zy (by omega) (by omega);have h2:Hid ((C.d.nd n).k≠2):=by show _≠_;omega
 have HK:Hid ((C.d.nd n).kn=0):=hk0;have hsx:Six C.u C.f n↔¬fO ((C.d.nd n).r 0) C.u.n:=by
  constructor
  ·rintro(h|h|h)
   ·omega
   ·omega
   ·exact h.2
  ·intro hm;exact .inr (.inr ⟨hk,hm⟩)
 have hmk:wu C.u C.f n↔(fO ((C.d.nd n).r 0) C.u.n/\(((C.d.nd n).r 0)<=C.f\/¬KO C.u C.f n ((C.d.nd n).r 0).toNat)):=by
  constructor
  ·rintro(h|h)
   ·omega
   ·exact h.2
  ·intro h;exact .inr ⟨hk,h⟩
 have hho:=Zn hP;have hsm:=hC.sm;clear hP hC hk0 hr1;by_cases hm:fO ((C.d.nd n).r 0) C.u.n
 ·have q:je ((C.d.nd n).r 0) (C.u.n:Int)=true:=by unfold je;have:=hm.1;have:=hm.2;simp;omega
  obtain⟨g,hg⟩:∃g:Nat,(C.d.nd n).r 0=g:=⟨((C.d.nd n).r 0).toNat,by have:=hm.1;omega⟩;have hgn:g<C.u.n:=by have:=hm.2;omega
  have hg':((C.u.fn C.f).nd n).r 0=g:=hg;by_cases hle:g<=C.f
  ·have hN:Hid (∀y,ji C.u C.f n y↔y=⟨8,C.f,n⟩):=PL (fun h=>hsx.1 h hm) h7.out (hmk.2 ⟨hm,.inl (by omega)⟩);rw[hg'] at r0;rw[hg] at q;clear hsx hk hk' hm hmk hho hg hg';go_in;go_wp2_with (first|(go_at_call 143;refine(q11 _ _ _).mono ?_;rw[q];rintro e w1 ⟨rfl,rfl⟩)|(go_at_call 166;refine(zD C st ins x a cap 8 n _ HP.ss).mono ?_;rintro e w2 ⟨rfl,hn1⟩;have jo:Hid _:=hn1;clear hn1));go_end0;exact⟨rfl,Dp jo.out h2.out HP.least (by decide) HK.out hN.out⟩
  ·obtain⟨b3,o3,e3,_,hb3,f0,f1,f2,f3,f4,f5,f6⟩:=dQ HF.1 hgn;rw[e3] at c0;have hug:=(hsm.fn g hgn).un;have HH:Hid (Calls Tryz.prog 168 #[.pointer (some ⟨C.S,0,none⟩),.slice (C.fas g).ua (C.u.fn g).un (C.fas g).uc] w fun e w'=>e=.returned (.bool (dB (D8 C st (C.u.fn g).un (C.u.fn g).u)))/\ah w w'):=zd9 C st ins x a cap _ _ _ _ C.L w hug HP.ss (HF.2 g hgn).2.1;by_cases hu:KO C.u C.f n g
   ·have hN:Hid (∀y,¬ji C.u C.f n y):=yF (fun h=>hsx.1 h hm) h7.out (fun h=>by
     rcases(hmk.1 h).2 with h1|h1
     ·omega
     ·exact h1 (by rw[hg];exact hu))
    have q2:dB (D8 C st (C.u.fn g).un (C.u.fn g).u)=true:=jI ((hho g).2 hu);rw[hg'] at r0;rw[hg] at q;clear hsx hk hk' hm hmk hho hg hg' f0 f1 f2 f3 f4 f6 e3 hu;go_in;go_wp2_with (first|(go_at_call 143;refine(q11 _ _ _).mono ?_;rw[q];rintro e w1 ⟨rfl,rfl⟩)|(go_at_call 168;refine HH.mono ?_;rw[q2];rintro e w2 ⟨rfl,hb2⟩;have HB2:Hid _:=hb2;clear hb2));go_end0;exact⟨rfl,GI (HP.ss.call HB2) ((Mv.refl _ _ _ _).call HB2) h2.out HP.least HK hN.out⟩
   ·have hN:Hid (∀y,ji C.u C.f n y↔y=⟨8,C.f,n⟩):=PL (fun h=>hsx.1 h hm) h7.out (hmk.2 ⟨hm,.inr (by rw[hg];exact hu)⟩);have q2:dB (D8 C st (C.u.fn g).un (C.u.fn g).u)=false:=iP fun h=>hu ((hho g).1 h);rw[hg'] at r0;rw[hg] at q;clear hsx hk hk' hm hmk hho hg hg' f0 f1 f2 f3 f4 f6 e3 hu;go_in;go_wp2_with (first|(go_at_call 143;refine(q11 _ _ _).mono ?_;rw[q];rintro e w1 ⟨rfl,rfl⟩)|(go_at_call 168;refine HH.mono ?_;rw[q2];rintro e w2 ⟨rfl,hb2⟩;have HB2:Hid _:=hb2;clear hb2)|(go_at_call 166;refine(zD C st ins x a cap 8 n _ (HP.ss.call HB2)).mono ?_;rintro e w3 ⟨rfl,hn1⟩;have jo:Hid _:=hn1;clear hn1));go_end0;exact⟨rfl,Dp ⟨jo.1,((Mv.refl _ _ _ _).call HB2.out).trans jo.2⟩ h2.out HP.least (by decide) HK.out hN.out⟩
 ·have hN:Hid (∀y,ji C.u C.f n y↔y=⟨6,C.f,n⟩):=P9 (hsx.2 hm) h7.out (fun h=>hm (hmk.1 h).1);have q:je ((C.d.nd n).r 0) (C.u.n:Int)=false:=by
   unfold je fO at *;simp;omega
  clear hsx hk hk' hm hmk hho;go_in;go_wp2_with (first|(go_at_call 143;refine(q11 _ _ _).mono ?_;rw[q];rintro e w1 ⟨rfl,rfl⟩)|(go_at_call 166;refine(zD C st ins x a cap 6 n _ HP.ss).mono ?_;rintro e w2 ⟨rfl,hn1⟩;have jo:Hid _:=hn1;clear hn1))
  first|go_end0|refine bodyPost_ret (results_none rfl _ _ _) rfl ?_
  exact⟨rfl,Dp jo.out h2.out HP.least (by decide) HK.out hN.out⟩
theorem y64(k:Nat)(hv:k<39)(args:Array Value)(w:World):(callFunc (zl k) args).run Tryz.prog w=.ok (.enter (zl k) args) w:=by
 rcases(show k=0\/k=1\/k=2\/k=3\/k=4\/k=5\/k=6\/k=7\/k=8\/k=9\/k=10\/k=11\/k=12\/k=13\/k=14\/k=15\/k=16\/k=17\/k=18\/k=19\/k=20\/k=21\/k=22\/k=23\/k=24\/k=25\/k=26\/k=27\/k=28\/k=29\/k=30\/k=31\/k=32\/k=33\/k=34\/k=35\/k=36\/k=37\/k=38 by omega) with rfl|rfl|rfl|rfl|rfl|rfl|rfl|rfl|rfl|rfl|rfl|rfl|rfl|rfl|rfl|rfl|rfl|rfl|rfl|rfl|rfl|rfl|rfl|rfl|rfl|rfl|rfl|rfl|rfl|rfl|rfl|rfl|rfl|rfl|rfl|rfl|rfl|rfl|rfl<;>kernel_rfl
theorem gB.drew{C:CX}{st:List Int}{ins:Nat}{Q:FT->Prop}{a:Option Addr}{w w':World}(h:gB C st ins Q a w.drew w'):gB C st ins Q a w w':=by
 obtain⟨x',a',cap',h1,h2,h3⟩:=h;exact⟨x',a',cap',h1,h2,(Mv.refl _ _ _ _).drew.trans h3⟩
theorem dL.drew{C:CX}{n:Nat}{st:List Int}{ins:Nat}{x:FT}{a:Option Addr}{cap:Nat}{P:FT->Prop}{w:World}(h:dL C n st ins x a cap P w):dL C n st ins x a cap P w.drew:=⟨h.ss.drew,h.lt,h.stack,h.loop,h.room,h.deep,h.least⟩
theorem Ox{C:CX}(hC:C.ok){st:List Int}{ins:Nat}{x:FT}{a:Option Addr}{cap:Nat}{w:World}(h:SS C st ins x a cap w){n:Nat}(hn:n<C.d.nn){b off kN:Nat}(e0:C.fa.na=some ⟨b,off,none⟩)(hk:(C.d.nd n).k=kN)(hk2:kN<39):w.cell? ⟨C.S,8,none⟩=some (.slice (some ⟨b,off,none⟩) C.d.nn C.fa.nc)/\w.cell? ⟨b,off+n*8,none⟩=some (.int .i64 (kN:Int))/\w.cell? ⟨C.S,9+kN,none⟩=some (cO C.S (zl kN)):=by
 obtain⟨b',off',e1,_,_,d0,_⟩:=dK ((h.fns hC).2 C.f hC.f).2.2.1 hn;have e2:some (⟨b,off,none⟩:Addr)=some ⟨b',off',none⟩:=e0.symm.trans e1
 cases e2;refine⟨by rw[<-e0];exact h.c8,?_,h.box.1.cell (9+kN) (yd1 _ _ _ _ _ _ _ _ _ _ kN hk2)⟩;rw[<-hk];exact d0
theorem y18(C:CX)(hC:C.ok)(n:Nat)(hstep:uT C (zl (C.d.nd n).k.toNat) n):qh C n:=by
 intro st ins x a cap P w hP;have hn:=hP.lt;have hnn:=hC.nn;have hsh:=(hC.node hn).kind;obtain⟨kN,hkN⟩:∃kN:Nat,(C.d.nd n).k=kN:=⟨(C.d.nd n).k.toNat,by omega⟩;have hk2:kN<39:=by omega
 have i1:(kN:Int)<39:=by omega
 have i2:(0:Int)<=(kN:Int):=by omega
 obtain⟨b,off,e0,_⟩:=dK ((hP.ss.fns hC).2 C.f hC.f).2.2.1 hn;have HV:Hid (∀(st:List Int) (ins:Nat) (x:FT) (a:Option Addr) (cap:Nat) (w:World),SS C st ins x a cap w->w.cell? ⟨C.S,8,none⟩=some (.slice (some ⟨b,off,none⟩) C.d.nn C.fa.nc)/\w.cell? ⟨b,off+n*8,none⟩=some (.int .i64 (kN:Int))/\w.cell? ⟨C.S,9+kN,none⟩=some (cO C.S (zl kN))):=fun st ins x a cap w h=>Ox hC h hn e0 hkN hk2;have HC:Hid (Calls Tryz.prog (zl kN) #[.pointer (some ⟨C.S,0,none⟩),.int .i64 (n:Int)] w.drew fun e w'=>e=.returned (.tuple #[])/\gB C (st++leaves C n) ins (fun y=>P y\/iO C.u C.f n y) a w.drew w'):=by
  have h:=hstep st ins x a cap P w.drew hP.drew;rw[hkN] at h;exact h
 have HP:Hid (dL C n st ins x a cap P w):=hP;clear hP hC hstep hkN hsh e0;go_in;refine wp_region_held_drew (S:=(fun w'=>w'.cell? ⟨C.S,8,none⟩=some (.slice (some ⟨b,off,none⟩) C.d.nn C.fa.nc)/\w'.cell? ⟨b,off+n*8,none⟩=some (.int .i64 (kN:Int))/\w'.cell? ⟨C.S,9+kN,none⟩=some (cO C.S (zl kN)))) (by kernel_rfl) (HV.out _ _ _ _ _ _ HP.ss.drew) (fun ak=>?_);refine wpAnyH_take (i:=0) (oi:=⟨some 4,_,_,_,_,_⟩) (v:=?v1) rfl (by kernel_rfl) (by kernel_rfl) (by kernel_rfl) (fun _ _ _ h=>h) (Or.inl ⟨by rfl,?hy1⟩) (by assumption) ?mV
 case hy1=>(intro wz hSw;(try dsimp only at hSw);go_simp<;>with_reducible rfl)
 try simp only[Act.put,aG,aF,aA]
 refine wpAnyH_take (i:=1) (oi:=⟨some 5,_,_,_,_,_⟩) (v:=?v2) rfl (by kernel_rfl) (by kernel_rfl) (by kernel_rfl) (fun _ _ _ h=>h) (Or.inl ⟨by rfl,?hy2⟩) (by assumption) ?mQ
 case hy2=>(intro wz hSw;(try dsimp only at hSw);go_simp<;>with_reducible rfl)
 try simp only[Act.put,aG,aF,aA]
 refine wpAnyH_take (i:=2) (oi:=⟨some 6,_,_,_,_,_⟩) (v:=?v3) rfl (by kernel_rfl) (by kernel_rfl) (by kernel_rfl) (fun _ _ _ h=>h) (Or.inl ⟨by rfl,?hy3⟩) (by assumption) ?mP
 case hy3=>(intro wz hSw;(try dsimp only at hSw);go_simp<;>with_reducible rfl)
 try simp only[Act.put,aG,aF,aA]
 refine wpAnyH_take (i:=3) (oi:=⟨some 7,_,_,_,_,_⟩) (v:=?v4) rfl (by kernel_rfl) (by kernel_rfl) (by kernel_rfl) (fun _ _ _ h=>h) (Or.inl ⟨by rfl,?hy4⟩) (by assumption) ?mO
 case hy4=>(intro wz hSw;(try dsimp only at hSw);go_simp<;>with_reducible rfl)
 try simp only[Act.put,aG,aF,aA]
 refine wpAnyH_take (i:=4) (oi:=⟨some 8,_,_,_,_,_⟩) (v:=?v5) rfl (by kernel_rfl) (by kernel_rfl) (by kernel_rfl) (fun _ _ _ h=>h) (Or.inl ⟨by rfl,?uw⟩) (by assumption) ?mM
 case uw=>(intro wz hSw;(try dsimp only at hSw);go_simp<;>with_reducible rfl)
 try simp only[Act.put,aG,aF,aA]
 refine wpAnyH_take (i:=5) (oi:=⟨some 9,_,_,_,_,_⟩) (v:=?v6) rfl (by kernel_rfl) (by kernel_rfl) (by kernel_rfl) (fun _ _ _ h=>h) (Or.inl ⟨by rfl,?wL⟩) (by assumption) ?pY
 case wL=>(intro wz hSw;(try dsimp only at hSw);go_simp<;>with_reducible rfl)
 try simp only[Act.put,aG,aF,aA]
 refine wpAnyH_take (i:=6) (oi:=⟨some 10,_,_,_,_,_⟩) (v:=?v7) rfl (by kernel_rfl) (by kernel_rfl) (by kernel_rfl) (fun _ _ _ h=>h) (Or.inl ⟨by rfl,?qw⟩) (by assumption) ?mJ
 case qw=>(intro wz hSw;(try dsimp only at hSw);go_simp<;>with_reducible rfl)
 try simp only[Act.put,aG,aF,aA]
 refine wpAnyH_take (i:=7) (oi:=⟨some 11,_,_,_,_,_⟩) (v:=?v8) rfl (by kernel_rfl) (by kernel_rfl) (by kernel_rfl) (fun _ _ _ h=>h) (Or.inl ⟨by rfl,?rJ⟩) (by assumption) ?kM
 case rJ=>(intro wz hSw;(try dsimp only at hSw);go_simp<;>with_reducible rfl)
 try simp only[Act.put,aG,aF,aA]
 refine wpAnyH_take (i:=8) (oi:=⟨some 12,_,_,_,_,_⟩) (v:=?v9) rfl (by kernel_rfl) (by kernel_rfl) (by kernel_rfl) (fun _ _ _ h=>h) (Or.inl ⟨by rfl,?wK⟩) (by assumption) ?pX
 case wK=>(intro wz hSw;(try dsimp only at hSw);go_simp<;>with_reducible rfl)
 try simp only[Act.put,aG,aF,aA]
 refine wpAnyH_take (i:=9) (oi:=⟨some 13,_,_,_,_,_⟩) (v:=?v10) rfl (by kernel_rfl) (by kernel_rfl) (by kernel_rfl) (fun _ _ _ h=>h) (Or.inl ⟨by rfl,?oG⟩) (by assumption) ?o9
 case oG=>(intro wz hSw;(try dsimp only at hSw);go_simp<;>with_reducible rfl)
 try simp only[Act.put,aG,aF,aA]
 refine wpAnyH_take (i:=10) (oi:=⟨some 14,_,_,_,_,_⟩) (v:=?v11) rfl (by kernel_rfl) (by kernel_rfl) (by kernel_rfl) (fun _ _ _ h=>h) (Or.inl ⟨by rfl,?oD⟩) (by assumption) ?o8
 case oD=>(intro wz hSw;(try dsimp only at hSw);go_simp<;>with_reducible rfl)
 try simp only[Act.put,aG,aF,aA]
 refine wpAnyH_take (i:=11) (oi:=⟨some 15,_,_,_,_,_⟩) (v:=?v12) rfl (by kernel_rfl) (by kernel_rfl) (by kernel_rfl) (fun _ _ _ h=>h) (Or.inl ⟨by rfl,?oC⟩) (by assumption) ?o7
 case oC=>(intro wz hSw;(try dsimp only at hSw);go_simp<;>with_reducible rfl)
 try simp only[Act.put,aG,aF,aA]
 refine wpAnyH_take (i:=12) (oi:=⟨some 16,_,_,_,_,_⟩) (v:=?v13) rfl (by kernel_rfl) (by kernel_rfl) (by kernel_rfl) (fun _ _ _ h=>h) (Or.inl ⟨by rfl,?oz⟩) (by assumption) ?nZ
 case oz=>(intro wz hSw;(try dsimp only at hSw);go_simp<;>with_reducible rfl)
 try simp only[Act.put,aG,aF,aA]
 refine wpAnyH_take (i:=13) (oi:=⟨some 17,_,_,_,_,_⟩) (v:=?v14) rfl (by kernel_rfl) (by kernel_rfl) (by kernel_rfl) (fun _ _ _ h=>h) (Or.inl ⟨by rfl,?ou⟩) (by assumption) ?nY
 case ou=>(intro wz hSw;(try dsimp only at hSw);go_simp<;>with_reducible rfl)
 try simp only[Act.put,aG,aF,aA]
 refine wpAnyH_take (i:=14) (oi:=⟨some 18,_,_,_,_,_⟩) (v:=?v15) rfl (by kernel_rfl) (by kernel_rfl) (by kernel_rfl) (fun _ _ _ h=>h) (Or.inl ⟨by rfl,?rP⟩) (by assumption) ?rD
 case rP=>(intro wz hSw;(try dsimp only at hSw);go_simp<;>with_reducible rfl)
 try simp only[Act.put,aG,aF,aA]
 refine wpAnyH_ready (rs:=[15]) (by kernel_rfl) (by simp) ?_;refine AllReadyH.cons (o:=⟨some 19,_,_,_,_,_⟩) rfl (fun K hK=>?_) AllReadyH.nil;go_simp;rw[y64 kN hk2];dsimp only[Oper.upon];refine HC.mono ?_;rintro e w9 ⟨rfl,hp9⟩;have Yx:Hid _:=hp9;dsimp only;refine hK.out _ _ (by obtain⟨x',a',cap',h1,_⟩:=Yx.out;exact HV _ _ _ _ _ _ h1) (fun hHeld=>?_);refine wpAnyH_done (by kernel_rfl) ?_ _;go_end0;exact⟨rfl,gB.drew Yx⟩
end
end Go.Proofs.YtihnikeikhjndaaGreatDoor
