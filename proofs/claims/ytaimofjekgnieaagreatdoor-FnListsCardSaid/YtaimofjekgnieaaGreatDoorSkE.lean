import Derived.Test.YtaimofjekgnieaaGreatDoorSkA
import Derived.Defers
import Derived.Deep.QuietTactic
set_option maxRecDepth 100000
set_option maxHeartbeats 16000000
namespace Go.Proofs.YtaimofjekgnieaaGreatDoor
open Go.RowKit
attribute [local go_sem] q00
attribute [local go_sem ↓] Go.wp_at_zero Go.wp_at_succ
structure FarI (C:CX) (a:Option Addr) (w:World) (va:Option Addr) (n:Nat) (r:Nat->Int):Prop where
 at_:q51 0 w va n r
 far:0<n->∀ b off,va=some ⟨b,off,none⟩->b≠C.S/\b≠C.T/\bkOf a≠some b
theorem FarI.mv {C:CX} {a a':Option Addr} {w w':World} {va:Option Addr} {n:Nat} {r:Nat->Int} (h:FarI C a w va n r) (hm:Mv C.S C.T a w a' w'):FarI C a' w' va n r:=by
 refine ⟨fun hn=>?_,fun hn b off e=>?_⟩
 ·obtain ⟨b,off,e,h0,h1,h2⟩:=h.at_ hn
  obtain ⟨f1,f2,f3⟩:=h.far hn b off e
  exact ⟨b,off,e,h0,Nat.lt_of_lt_of_le h1 hm.kp.size,fun i hi j hj=>(World.cell?_of_block (a:=⟨b,off+i*1+j,none⟩) (hm.kp.block b h1 f1 f2 f3)).trans (h2 i hi j hj)⟩
 ·obtain ⟨f1,f2,f3⟩:=h.far hn b off e
  refine ⟨f1,f2,?_⟩
  rcases hm.nw with c|⟨k,c,hk⟩
  ·rw[c];exact f3
  ·rw[c]
   intro ek
   cases ek
   obtain ⟨b',off',e',_,h1,_⟩:=h.at_ hn
   rw[e] at e'
   cases e'
   omega
def y96 (C:CX) (st:List Int) (ins:Nat) (x:FT) (a:Option Addr) (w w':World):Prop:=∃ a' cap',SS C st ins x a' cap' w'/\Mv C.S C.T a w a' w'
theorem qa9 (C:CX) (st:List Int) (ins:Nat) (x:FT) (a:Option Addr) (cap:Nat) (va:Option Addr) (n vc:Nat) (r:Nat->Int) (w:World) (hn:n<=1048576) (hroom:st.length<=700000000000) (hS:SS C st ins x a cap w) (hI:FarI C a w va n r) :
  Calls Tryz.prog 133 #[.pointer (some ⟨C.S,0,none⟩),.slice va n vc] w fun e w'=>e=.returned (.tuple #[])/\y96 C (st++vrN r C.d.vn n) ins x a w w':=by
 have HS:Hid (SS C st ins x a cap w):=hS
 have HI:Hid (FarI C a w va n r):=hI
 clear hS hI
 obtain ⟨i0,hi0,hy0,hy1,hy2⟩:=info_parts z25
 go_enter Tryz.func133,Tryz.ntmps133
 go_wp2_with fail
 go_loopw [8] (fun i wr=>∃ (k:Nat) (a':Option Addr) (cap':Nat),k<=n/\i=.int .i64 k/\Hid (SS C (st++vrN r C.d.vn k) ins x a' cap' wr)/\Hid (Mv C.S C.T a w a' wr)) (fun i _=>n-(intOf i).toNat)
 case atStart=>exact ⟨0,a,cap,Nat.zero_le _,rfl,by rw[qy7,List.append_nil];exact HS,Mv.refl _ _ _ _⟩
 case round=>
  obtain ⟨k,a',cap',hk,rfl,HSr,HM⟩:=hrel
  by_cases hkn:k<n
  ·obtain ⟨b,off,rfl,_,hb,d0⟩:=cells1 (HI.out.mv HM.out).at_ hkn
   have c49:=HSr.out.c49
   by_cases hin:InR (r k) C.d.vn
   ·have hw:wiB (r k) (C.d.vn:Int)=true:=by unfold wiB;have:=hin.1;have:=hin.2;simp;omega
    have e1:=zs2 hin
    have hln:=qn8 r C.d.vn k
    obtain ⟨y,hy⟩:∃ y:Nat,r k=y:=⟨(r k).toNat,by have:=hin.1;omega⟩
    have hyn:y<C.d.vn:=by have:=hin.2;omega
    rw[hy] at d0 hw e1
    have E1:Hid (vrN r C.d.vn (k+1)=vrN r C.d.vn k++[(y:Int)]):=e1
    clear hy hin e1
    obtain ⟨s1,hs1⟩:∃ s1,s1=st++vrN r C.d.vn k:=⟨_,rfl⟩
    have hl1:s1.length<=700000000000+1048576:=by rw[hs1,List.length_append];omega
    have E2:Hid (st++vrN r C.d.vn (k+1)=s1++[(y:Int)]):=by show _=_;rw[E1.out,hs1,List.append_assoc]
    rw[<-hs1] at HSr
    clear hs1 E1 hln
    have c48:=HSr.out.c48
    have z:=HSr.out.fz
    have hr:=zi4 s1 y
    go_wp2_with (first|(go_at_call 136;refine (q13 _ _ _).mono ?_;rw[hw];rintro e w1 ⟨rfl,rfl⟩)|(at_builtin;refine wpList_append_own_at _ rfl _ _ 44 rfl C.w0.heap.size 3 i0 _ 1 8 Tryz.underlying44 hi0 hy0 hy1 hy2 rfl (by decide) (.slice a' s1.length cap') s1.length (svK s1) rfl (HSr.out.alloc _).sk ⟨w1.heap.size,0,none⟩ 1 1 [.int .i64 (y:Int)] rfl rfl (cell_one_new _ _ _) (by simp[Value.oneCell']) (by unfold maxLen;omega) (by omega) (by have:=HSr.out.b.size;simp;omega) ?_;intro v' w7 hown hgrow _ hblk;rw[q08] at hgrow hblk;have hmid:=(HSr.out.alloc (.cells #[.int .i64 (y:Int)] 3)).mid hgrow;obtain ⟨a2,cap2,hv2,hs2,hm2⟩:=(HSr.out.alloc (.cells #[.int .i64 (y:Int)] 3)).push hyn hown hgrow hblk;subst hv2;have HS2:Hid _:=hs2;have HM2:Hid _:=hm2;clear hs2 hm2 hown hgrow hblk c48 c49 z;have c48:=hmid.1.1.cell 48 rfl;have c49:=hmid.1.1.cell 49 rfl;have z:=hmid.1.2;have t0:=World.rowIs.cell hmid.2 (i:=y) hyn;have tz:=World.rowIs.frozen hmid.2;have hTS:=HSr.out.sT;clear hmid))
    go_roundw
    case rel=>exact ⟨k+1,a2,cap2,by omega,by go_num,by rw[E2.out];exact HS2,HM.out.trans HM2.out.first⟩
    case measure=>simp[intOf];omega
   ·have hw:wiB (r k) (C.d.vn:Int)=false:=by
     unfold wiB InR at *
     simp
     omega
    have E1:Hid (vrN r C.d.vn (k+1)=vrN r C.d.vn k):=yi4 hin
    go_wp2_with (go_at_call 136;refine (q13 _ _ _).mono ?_;rw[hw];rintro e w1 ⟨rfl,rfl⟩)
    go_roundw
    case rel=>exact ⟨k+1,a',cap',by omega,by go_num,by rw[E1.out];exact HSr,HM⟩
    case measure=>simp[intOf];omega
  ·obtain rfl:k=n:=by omega
   go_wp2_with fail
   go_end0
   exact ⟨rfl,a',cap',HSr.out,HM.out⟩
structure TOnly (T:Nat) (w w':World):Prop where
 same:w'.os=w.os/\w'.tape=w.tape/\w'.output=w.output
 size:w'.heap.size=w.heap.size
 block:∀ k,k≠T->w'.heap[k]?=w.heap[k]?
theorem TOnly.refl (T:Nat) (w:World):TOnly T w w:=⟨⟨rfl,rfl,rfl⟩,rfl,fun _ _=>rfl⟩
theorem TOnly.set {T:Nat} {w w':World} (h:TOnly T w w') (o:Nat) (v:Value):TOnly T w (w'.setCell ⟨T,o,none⟩ v):=⟨h.same,by have:=h.size;simpa using this,fun k hk=>(Below.heap_setCell w' ⟨T,o,none⟩ v k hk).trans (h.block k hk)⟩
def y95 (C:CX) (st:List Int) (ins:Nat) (x:FT) (a:Option Addr) (cap:Nat) (w w':World):Prop:=SS C st ins x a cap w'/\Mv C.S C.T a w a w'
theorem yd2 {C:CX} {st:List Int} {ins:Nat} {x:FT} {a:Option Addr} {cap:Nat} {w:World} (h:SS C st ins x a cap w) {i:Nat} (hi:i<st.length):∃ (b y:Nat),a=some ⟨b,0,none⟩/\b<w.heap.size/\st[i]?=some (y:Int)/\y<C.d.vn/\w.cell? ⟨b,i,none⟩=some (.int .i64 (y:Int))/\st.length<=cap:=by
 rcases h.sk.2 with ⟨_,h2⟩|⟨g,cap',cur,e2,h3,hh,h4,_,h6,h7⟩
 ·omega
 ·cases e2
  have hm:=h.rg st[i] (List.getElem_mem hi)
  obtain ⟨y,hy⟩:∃ y:Nat,st[i]=y:=⟨st[i].toNat,by have:=hm.1;omega⟩
  have he:st[i]?=some (y:Int):=by rw[List.getElem?_eq_getElem hi,hy]
  refine ⟨g,y,rfl,(Array.getElem?_eq_some_iff.1 hh).1,he,by have:=hm.2;omega,?_,h4⟩
  have h8:(cur.toList.take (st.length*1))[i]?=some (.int .i64 (y:Int)):=by rw[h7];simp[svK,he]
  rw[List.getElem?_take_of_lt (by omega),Array.getElem?_toList] at h8
  simp[World.cell?,hh,h8]
theorem qb3 (C:CX) (st:List Int) (ins:Nat) (x:FT) (a:Option Addr) (cap:Nat) (h:Nat) (u:FrameMode) (w:World) (hroom:st.length<=800000000000) (hle:h<=st.length) (hS:SS C st ins x a cap w) :
  CallsD Tryz.prog 157 #[.pointer (some ⟨C.S,0,none⟩),.int .i64 (h:Int)] u w fun e u' w'=>u'=u/\(e=.returned (.tuple #[])/\y95 C (st.take h) ins x a cap w w'):=by
 have HS:Hid (SS C st ins x a cap w):=hS
 have c48:=hS.c48
 have c49:=hS.c49
 have z:=hS.fz
 clear hS
 by_cases hc:cap=h
 ·have hlen:st.length=h:=by
   rcases HS.out.sk.2 with ⟨h2,h3⟩|⟨g,cap',cur,e2,h3,hh,h4,_⟩
   ·obtain ⟨_,_,h5⟩:a=none/\st.length=0/\cap=0:=by simpa using h2
    omega
   ·cases e2
    omega
  have HE:Hid (CRow w C.T C.d.vn (cnt (st.take h))):=by
   show CRow _ _ _ _
   rw[<-hlen,List.take_length]
   exact HS.out.tm
  subst hc
  rw[hlen] at c48
  go_enter_d Tryz.func157,Tryz.ntmps157
  go_wp2_with fail
  refine wp_loop_rounds 1 ?_
  rw[rounds_succ]
  go_wp2_with fail
  go_end0
  exact ⟨rfl,HS.out.times (hh:=cap) (by omega) (fun _ _=>rfl) rfl ⟨rfl,rfl,rfl⟩ HE.out⟩
 ·obtain ⟨b,rfl,hcap⟩:∃ b,a=some ⟨b,0,none⟩/\st.length<=cap:=by
   rcases HS.out.sk.2 with ⟨h2,h3⟩|⟨g,cap',cur,e2,h3,hh,h4,_⟩
   ·obtain ⟨_,_,h5⟩:a=none/\st.length=0/\cap=0:=by simpa using h2
    omega
   ·cases e2
    exact ⟨g,rfl,h4⟩
  have q1:(h:Int)<=(cap:Int):=by omega
  go_enter_d Tryz.func157,Tryz.ntmps157
  go_wp2_with fail
  have hTb:b≠C.T:=fun e=>HS.out.ta (by rw[<-e];rfl)
  have hTS:=HS.out.sT
  go_loopw [13] (fun i wr=>∃ (k:Nat),k<=st.length-h/\i=.int .i64 k/\Hid (CRow wr C.T C.d.vn (cnt (rest st h k)))/\Hid (TOnly C.T w wr)) (fun i _=>st.length-h - (intOf i).toNat)
  case atStart=>exact ⟨0,Nat.zero_le _,rfl,by rw[zv3];exact HS.out.tm,TOnly.refl _ _⟩
  case round=>
   obtain ⟨k,hk,rfl,HR,HO⟩:=hrel
   have d49:wr.cell? ⟨C.S,49,none⟩=some (.slice (some ⟨C.T,0,none⟩) C.d.vn C.d.vn):=(World.cell?_of_block (a:=⟨C.S,49,none⟩) (HO.out.block _ hTS)).trans c49
   by_cases hkn:k<st.length-h
   ·obtain ⟨b',y,e0,_,hsy,hyn,g0,_⟩:=yd2 HS.out (i:=h+k) (by omega)
    obtain rfl:b=b':=by simpa using e0
    have g1:wr.cell? ⟨b,h+k,none⟩=some (.int .i64 (y:Int)):=(World.cell?_of_block (a:=⟨b,h+k,none⟩) (HO.out.block _ hTb)).trans g0
    have t0:=World.rowIs.cell HR.out (i:=y) hyn
    have tz:=World.rowIs.frozen HR.out
    have hr1:=zi4 (rest st h k) y
    have hrl:(rest st h k).length<=2*st.length:=by
     unfold rest
     rw[List.length_append,List.length_take,List.length_drop]
     omega
    have HR1:Hid (CRow (wr.setCell ⟨C.T,y,none⟩ (.int .i64 (cnt (rest st h k) y-1))) C.T C.d.vn (cnt (rest st h (k+1)))):=(World.rowIs.set HR.out y _).congr fun i _=>by
     rw[zv4 hsy]
     split<;>rfl
    have HO1:Hid (TOnly C.T w (wr.setCell ⟨C.T,y,none⟩ (.int .i64 (cnt (rest st h k) y-1)))):=HO.out.set _ _
    clear g0 hsy e0 c48 c49 z
    go_wp2_with fail
    go_roundw
    case rel=>exact ⟨k+1,by omega,by go_num,HR1,HO1⟩
    case measure=>simp[intOf];omega
   ·have d48:wr.cell? ⟨C.S,48,none⟩=some (.slice (some ⟨b,0,none⟩) st.length cap):=(World.cell?_of_block (a:=⟨C.S,48,none⟩) (HO.out.block _ hTS)).trans c48
    have dz:∀ o,wr.frozen? ⟨C.S,o,none⟩=false:=fun o=>(World.frozen?_of_block (a:=⟨C.S,o,none⟩) (HO.out.block _ hTS)).trans (z o)
    have HE:Hid (CRow wr C.T C.d.vn (cnt (st.take h))):=by
     have h1:=HR.out
     rw[y50 st (by omega)] at h1
     exact h1
    clear c48 c49 z
    go_wp2_with fail
    go_end0
    exact ⟨rfl,HS.out.times hle HO.out.block HO.out.size HO.out.same HE.out⟩
def Six (u:UD) (f n:Nat):Prop:=((((u.fn f).nd n).k=26/\¬(InR (((u.fn f).nd n).r 0) (u.fn f).vn/\Scoped (u.fn f) n (((u.fn f).nd n).r 0)))
   \/(((u.fn f).nd n).k=27/\¬InR (((u.fn f).nd n).r 0) (u.fn f).un)
   \/(((u.fn f).nd n).k=36/\¬InR (((u.fn f).nd n).r 0) u.n))
theorem qp1 {u:UD} {f n:Nat} (h6:Six u f n) (h7:¬qa3 (u.fn f) n) (h8:¬qa2 u f n) (y:FT):q69 u f n y↔y=⟨6,f,n⟩:=by
 constructor
 ·rintro ⟨h1,h2,h3|h3|h3⟩
  ·exact FT.ext h3.1 h1 h2
  ·exact absurd h3.2 h7
  ·exact absurd h3.2 h8
 ·rintro rfl
  exact ⟨rfl,rfl,.inl ⟨rfl,h6⟩⟩
theorem zg4 {u:UD} {f n:Nat} (h6:¬Six u f n) (h7:qa3 (u.fn f) n) (h8:¬qa2 u f n) (y:FT):q69 u f n y↔y=⟨7,f,n⟩:=by
 constructor
 ·rintro ⟨h1,h2,h3|h3|h3⟩
  ·exact absurd h3.2 h6
  ·exact FT.ext h3.1 h1 h2
  ·exact absurd h3.2 h8
 ·rintro rfl
  exact ⟨rfl,rfl,.inr (.inl ⟨rfl,h7⟩)⟩
theorem qg4 {u:UD} {f n:Nat} (h6:¬Six u f n) (h7:¬qa3 (u.fn f) n) (h8:qa2 u f n) (y:FT):q69 u f n y↔y=⟨8,f,n⟩:=by
 constructor
 ·rintro ⟨h1,h2,h3|h3|h3⟩
  ·exact absurd h3.2 h6
  ·exact absurd h3.2 h7
  ·exact FT.ext h3.1 h1 h2
 ·rintro rfl
  exact ⟨rfl,rfl,.inr (.inr ⟨rfl,h8⟩)⟩
theorem q53 {u:UD} {f n:Nat} (h6:¬Six u f n) (h7:¬qa3 (u.fn f) n) (h8:¬qa2 u f n) (y:FT):¬q69 u f n y:=by
 rintro ⟨_,_,h3|h3|h3⟩
 ·exact h6 h3.2
 ·exact h7 h3.2
 ·exact h8 h3.2
theorem qp6 {u:UD} {f n:Nat} (h1:((u.fn f).nd n).k≠26) (h2:((u.fn f).nd n).k≠27) (h3:((u.fn f).nd n).k≠36):¬Six u f n:=by
 rintro (h|h|h)
 ·exact h1 h.1
 ·exact h2 h.1
 ·exact h3 h.1
theorem qc3 {d:FD} {n:Nat} (h1:(d.nd n).k≠9) (h2:(d.nd n).k≠10):¬qa3 d n:=by
 rintro ⟨h|h,_⟩
 ·exact h1 h
 ·exact h2 h
theorem qd2 {u:UD} {f n:Nat} (h1:((u.fn f).nd n).k≠36) (h2:((u.fn f).nd n).k≠37):¬qa2 u f n:=by
 rintro (h|h)
 ·exact h2 h.1
 ·exact h1 h.1
theorem z87 {u:UD} {f n:Nat} (h:((u.fn f).nd n).kn=0) (y:FT):q60 u f n y↔q69 u f n y:=by
 rw[qb5]
 constructor
 ·rintro (⟨i,c,h1,_⟩|h1)
  ·omega
  ·exact h1
 ·exact .inr
theorem zy1 {C:CX} {n c:Nat} {P:FT->Prop} {x:FT} (h:Least P x) (hc:0<c) (hk:(C.d.nd n).kn=0) (hN:∀ y,q69 C.u C.f n y↔y=⟨c,C.f,n⟩):Least (fun y=>P y\/q60 C.u C.f n y) (qe0 x ⟨c,C.f,n⟩):=
 (h.note (b:=⟨c,C.f,n⟩) hc).congr fun y=>by rw[z87 hk,hN]
theorem y61 {C:CX} {n:Nat} {P:FT->Prop} {x:FT} (h:Least P x) (hk:(C.d.nd n).kn=0) (hN:∀ y,¬q69 C.u C.f n y):Least (fun y=>P y\/q60 C.u C.f n y) x:=
 h.congr fun y=>by rw[z87 hk];exact ⟨.inl,fun h'=>h'.resolve_right (hN y)⟩
theorem q64 {C:CX} {n:Nat} (h:(C.d.nd n).k≠2) (st:List Int):st++leaves C n=st:=by unfold leaves;rw[if_neg h,List.append_nil]
theorem qc1 {C:CX} {n c:Nat} {st:List Int} {ins:Nat} {x:FT} {a:Option Addr} {cap:Nat} {P:FT->Prop} {w w':World} (h:qj5 C st ins (qe0 x ⟨c,C.f,n⟩) a cap w w') (h2:(C.d.nd n).k≠2) (hL:Least P x) (hc:0<c) (hk:(C.d.nd n).kn=0) (hN:∀ y,q69 C.u C.f n y↔y=⟨c,C.f,n⟩):VPost C (st++leaves C n) ins (fun y=>P y\/q60 C.u C.f n y) a w w':=by
 rw[q64 h2]
 exact ⟨_,a,cap,h.1,zy1 hL hc hk hN,h.2⟩
theorem qo3 {C:CX} {n:Nat} {st:List Int} {ins:Nat} {x:FT} {a:Option Addr} {cap:Nat} {P:FT->Prop} {w w':World} (h:SS C st ins x a cap w') (hm:Mv C.S C.T a w a w') (h2:(C.d.nd n).k≠2) (hL:Least P x) (hk:(C.d.nd n).kn=0) (hN:∀ y,¬q69 C.u C.f n y):VPost C (st++leaves C n) ins (fun y=>P y\/q60 C.u C.f n y) a w w':=by
 rw[q64 h2]
 exact ⟨_,a,cap,h,y61 hL hk hN,hm⟩
theorem z96 (C:CX) (hC:C.ok) (n:Nat) (hk:(C.d.nd n).k=9\/(C.d.nd n).k=10):q72 C 128 n:=by
 intro st ins x a cap P w hP
 have hk':((C.u.fn C.f).nd n).k=9\/((C.u.fn C.f).nd n).k=10:=hk
 have hk0:=(hC.node hP.lt).leaf (by omega)
 have HP:Hid (VPre C n st ins x a cap P w):=hP
 have HC:Hid C.ok:=hC
 have c50:=hP.ss.c50
 have hlp:=hP.loop
 clear hP hC
 have h6:Hid (¬Six C.u C.f n):=qp6 (by omega) (by omega) (by omega)
 have h8:Hid (¬qa2 C.u C.f n):=qd2 (by omega) (by omega)
 have h2:Hid ((C.d.nd n).k≠2):=by show _≠_;omega
 have HK:Hid ((C.d.nd n).kn=0):=hk0
 by_cases h0:ins=0
 ·subst h0
  have hN:Hid (∀ y,q69 C.u C.f n y↔y=⟨7,C.f,n⟩):=zg4 h6.out ⟨hk,fun h=>by have:=hlp.2 h;omega⟩ h8.out
  clear hlp hk hk' hk0
  go_enter Tryz.func128,Tryz.ntmps128
  go_wp2_with (go_at_call 159;refine (q63 C st 0 x a cap 7 n _ HP.out.ss).mono ?_;rintro e w1 ⟨rfl,hn1⟩;have HN1:Hid _:=hn1;clear hn1)
  go_end0
  exact ⟨rfl,qc1 HN1.out h2.out HP.out.least (by decide) HK.out hN.out⟩
 ·have hN:Hid (∀ y,¬q69 C.u C.f n y):=q53 h6.out (fun h=>h.2 (hlp.1 (by omega))) h8.out
  have q:((ins:Int)==0)=false:=by simp;omega
  clear hlp hk hk' hk0
  go_enter Tryz.func128,Tryz.ntmps128
  go_wp2_with fail
  go_end0
  exact ⟨rfl,qo3 HP.out.ss (Mv.refl _ _ _ _) h2.out HP.out.least HK.out hN.out⟩
theorem zv5 (C:CX) (hC:C.ok) (n:Nat) (hk:(C.d.nd n).k=37):q72 C 132 n:=by
 intro st ins x a cap P w hP
 have hk':((C.u.fn C.f).nd n).k=37:=hk
 have hk0:=(hC.node hP.lt).leaf (by omega)
 have HP:Hid (VPre C n st ins x a cap P w):=hP
 have c5:=hP.ss.c5
 clear hP hC
 have h6:Hid (¬Six C.u C.f n):=qp6 (by omega) (by omega) (by omega)
 have h7:Hid (¬qa3 (C.u.fn C.f) n):=qc3 (by omega) (by omega)
 have h2:Hid ((C.d.nd n).k≠2):=by show _≠_;omega
 have HK:Hid ((C.d.nd n).kn=0):=hk0
 cases hr:C.d.rest
 ·have hN:Hid (∀ y,q69 C.u C.f n y↔y=⟨8,C.f,n⟩):=qg4 h6.out h7.out (.inl ⟨hk,hr⟩)
  rw[hr] at c5
  clear hk hk' hk0 hr
  go_enter Tryz.func132,Tryz.ntmps132
  go_wp2_with (go_at_call 159;refine (q63 C st ins x a cap 8 n _ HP.out.ss).mono ?_;rintro e w1 ⟨rfl,hn1⟩;have HN1:Hid _:=hn1;clear hn1)
  go_end0
  exact ⟨rfl,qc1 HN1.out h2.out HP.out.least (by decide) HK.out hN.out⟩
 ·have hN:Hid (∀ y,¬q69 C.u C.f n y):=q53 h6.out h7.out (by
   rintro (h|h)
   ·rw[show (C.u.fn C.f).rest=true from hr] at h;exact Bool.noConfusion h.2
   ·omega)
  rw[hr] at c5
  clear hk hk' hk0 hr
  go_enter Tryz.func132,Tryz.ntmps132
  go_wp2_with fail
  go_end0
  exact ⟨rfl,qo3 HP.out.ss (Mv.refl _ _ _ _) h2.out HP.out.least HK.out hN.out⟩
theorem qy9 (C:CX) (hC:C.ok) (n:Nat) (hk:(C.d.nd n).k=26):q72 C 129 n:=by
 intro st ins x a cap P w hP
 have hk':((C.u.fn C.f).nd n).k=26:=hk
 have hk0:=(hC.node hP.lt).leaf (by omega)
 have hr1:=(hC.node hP.lt).one (by omega)
 have HP:Hid (VPre C n st ins x a cap P w):=hP
 have c8:=hP.ss.c8
 have hn:=hP.lt
 have hnn:=hC.nn
 obtain ⟨b,off,e0,_,hb,d0,d1,d2,d3,d4,d5,d6,d7⟩:=cells8 ((hP.ss.fns hC).2 C.f hC.f).2.2.1 hn
 obtain ⟨b2,o2,e2,_,hb2,r0⟩:=cells1 (((hP.ss.fns hC).2 C.f hC.f).2.2.2 n hn).1 (show 0<(C.d.nd n).rn by omega)
 rw[e0] at c8
 rw[show (C.u.fn C.f).nd n=C.d.nd n from rfl,e2,hr1] at d6
 rw[Nat.add_zero] at r0
 clear d0 d1 d2 d3 d4 d5 d7 e0 e2
 have h7:Hid (¬qa3 (C.u.fn C.f) n):=qc3 (by omega) (by omega)
 have h8:Hid (¬qa2 C.u C.f n):=qd2 (by omega) (by omega)
 have h2:Hid ((C.d.nd n).k≠2):=by show _≠_;omega
 have HK:Hid ((C.d.nd n).kn=0):=hk0
 have hsx:Six C.u C.f n↔¬(C.d.nd n).r 0∈st:=by
  constructor
  ·rintro (h|h|h)
   ·intro hm
    exact h.2 ⟨hP.ss.rg _ hm,(hP.stack _ (hP.ss.rg _ hm)).1 hm⟩
   ·omega
   ·omega
  ·intro hm
   exact .inl ⟨hk,fun h=>hm ((hP.stack _ h.1).2 h.2)⟩
 clear hP hC hk0 hr1
 by_cases hm:(C.d.nd n).r 0∈st
 ·have hN:Hid (∀ y,¬q69 C.u C.f n y):=q53 (fun h=>hsx.1 h hm) h7.out h8.out
  have q:dB ((C.d.nd n).r 0∈st)=true:=q32 hm
  clear hsx hk hk' hm
  go_enter Tryz.func129,Tryz.ntmps129
  go_wp2_with (go_at_call 160;refine (q66 C st ins x a cap _ _ HP.out.ss).mono ?_;rw[q];rintro e w1 ⟨rfl,rfl⟩)
  go_end0
  exact ⟨rfl,qo3 HP.out.ss (Mv.refl _ _ _ _) h2.out HP.out.least HK.out hN.out⟩
 ·have hN:Hid (∀ y,q69 C.u C.f n y↔y=⟨6,C.f,n⟩):=qp1 (hsx.2 hm) h7.out h8.out
  have q:dB ((C.d.nd n).r 0∈st)=false:=q19 hm
  clear hsx hk hk' hm
  go_enter Tryz.func129,Tryz.ntmps129
  go_wp2_with (first|(go_at_call 160;refine (q66 C st ins x a cap _ _ HP.out.ss).mono ?_;rw[q];rintro e w1 ⟨rfl,rfl⟩)|(go_at_call 159;refine (q63 C st ins x a cap 6 n _ HP.out.ss).mono ?_;rintro e w2 ⟨rfl,hn1⟩;have HN1:Hid _:=hn1;clear hn1))
  go_end0
  exact ⟨rfl,qc1 HN1.out h2.out HP.out.least (by decide) HK.out hN.out⟩
theorem yb8 (C:CX) (hC:C.ok) (n:Nat) (hk:(C.d.nd n).k=27):q72 C 130 n:=by
 intro st ins x a cap P w hP
 have hk':((C.u.fn C.f).nd n).k=27:=hk
 have hk0:=(hC.node hP.lt).leaf (by omega)
 have hr1:=(hC.node hP.lt).one (by omega)
 have HP:Hid (VPre C n st ins x a cap P w):=hP
 have c8:=hP.ss.c8
 have c7:=hP.ss.c7
 have hn:=hP.lt
 have hnn:=hC.nn
 obtain ⟨b,off,e0,_,hb,d0,d1,d2,d3,d4,d5,d6,d7⟩:=cells8 ((hP.ss.fns hC).2 C.f hC.f).2.2.1 hn
 obtain ⟨b2,o2,e2,_,hb2,r0⟩:=cells1 (((hP.ss.fns hC).2 C.f hC.f).2.2.2 n hn).1 (show 0<(C.d.nd n).rn by omega)
 rw[e0] at c8
 rw[show (C.u.fn C.f).nd n=C.d.nd n from rfl,e2,hr1] at d6
 rw[Nat.add_zero] at r0
 clear d0 d1 d2 d3 d4 d5 d7 e0 e2
 have h7:Hid (¬qa3 (C.u.fn C.f) n):=qc3 (by omega) (by omega)
 have h8:Hid (¬qa2 C.u C.f n):=qd2 (by omega) (by omega)
 have h2:Hid ((C.d.nd n).k≠2):=by show _≠_;omega
 have HK:Hid ((C.d.nd n).kn=0):=hk0
 have hsx:Six C.u C.f n↔¬InR ((C.d.nd n).r 0) C.d.un:=by
  constructor
  ·rintro (h|h|h)
   ·omega
   ·exact h.2
   ·omega
  ·intro hm
   exact .inr (.inl ⟨hk,hm⟩)
 clear hP hC hk0 hr1
 by_cases hm:InR ((C.d.nd n).r 0) C.d.un
 ·have hN:Hid (∀ y,¬q69 C.u C.f n y):=q53 (fun h=>hsx.1 h hm) h7.out h8.out
  have q:wiB ((C.d.nd n).r 0) (C.d.un:Int)=true:=by unfold wiB;have:=hm.1;have:=hm.2;simp;omega
  clear hsx hk hk' hm
  go_enter Tryz.func130,Tryz.ntmps130
  go_wp2_with fail
  go_quiet ((go_at_call 136;exact Calls.quiet_of_same (q13 _ _ _)))
  go_wp2_with fail
  go_end0
  exact ⟨rfl,qo3 (HP.out.ss.call (below_drewN (Below.refl _ _) nq)) ((Mv.refl _ _ _ _).call (below_drewN (Below.refl _ _) nq)) h2.out HP.out.least HK.out hN.out⟩
 ·have hN:Hid (∀ y,q69 C.u C.f n y↔y=⟨6,C.f,n⟩):=qp1 (hsx.2 hm) h7.out h8.out
  have q:wiB ((C.d.nd n).r 0) (C.d.un:Int)=false:=by
   unfold wiB InR at *
   simp
   omega
  clear hsx hk hk' hm
  go_enter Tryz.func130,Tryz.ntmps130
  go_wp2_with fail
  go_quiet ((go_at_call 136;exact Calls.quiet_of_same (q13 _ _ _)))
  have HSd:Hid (SS C st ins x a cap (w.drewN nq)):=HP.out.ss.call (below_drewN (Below.refl _ _) nq)
  have HMd:Hid (Mv C.S C.T a w a (w.drewN nq)):=(Mv.refl _ _ _ _).call (below_drewN (Below.refl _ _) nq)
  go_wp2_with (go_at_call 159;refine (q63 C st ins x a cap 6 n _ HSd.out).mono ?_;rintro e w2 ⟨rfl,hn1⟩;have HN1:Hid _:=hn1;clear hn1)
  go_end0
  exact ⟨rfl,qc1 ⟨HN1.out.1,HMd.out.trans HN1.out.2⟩ h2.out HP.out.least (by decide) HK.out hN.out⟩
def zr6 (C:CX) (st:List Int) (q:UPD):Prop:=(q.loc=true->q.ix∈st)/\(q.loc=false->InR q.ix C.d.un)
def qt2 (C:CX) (st:List Int) (un:Nat) (q:Nat->UPD):Prop:=∀ i,i<un->zr6 C st (q i)
theorem zh5 (C:CX) (st:List Int) (ins:Nat) (x:FT) (a:Option Addr) (cap:Nat) (va:Option Addr) (un vc:Nat) (q:Nat->UPD) (L:Nat) (w:World) (hn:un<=1048576) (hS:SS C st ins x a cap w) (hT:RowN 2 L w va un fun i=>upC (q i)) :
  Calls Tryz.prog 161 #[.pointer (some ⟨C.S,0,none⟩),.slice va un vc] w fun e w'=>e=.returned (.bool (dB (qt2 C st un q)))/\Below w.heap.size w w':=by
 have HS:Hid (SS C st ins x a cap w):=hS
 have HT:Hid (RowN 2 L w va un fun i=>upC (q i)):=hT
 clear hS hT
 go_enter Tryz.func161,Tryz.ntmps161
 go_wp2_with fail
 go_loopw [9] (fun i wr=>∃ (k:Nat),k<=un/\i=.int .i64 k/\Hid (∀ j,j<k->zr6 C st (q j))/\Hid (Below w.heap.size w wr)) (fun i _=>un-(intOf i).toNat)
 case atStart=>exact ⟨0,Nat.zero_le _,rfl,fun j hj=>by omega,Below.refl _ _⟩
 case round=>
  obtain ⟨k,hk,rfl,HK,HB⟩:=hrel
  by_cases hkn:k<un
  ·obtain ⟨b,off,rfl,_,hb,d0,d1⟩:=cells2 (HT.out.below HB.out) hkn
   obtain ⟨lc,ix,hq⟩:∃ lc ix,q k=⟨lc,ix⟩:=⟨_,_,rfl⟩
   have HQ:Hid (q k=⟨lc,ix⟩):=hq
   rw[hq] at d0 d1
   have HSr:Hid (SS C st ins x a cap (wr.alloc (.cells #[.bool lc,.int .i64 ix] 282))):=(HS.out.call HB.out).alloc _
   have HB1:Hid (Below w.heap.size w (wr.alloc (.cells #[.bool lc,.int .i64 ix] 282))):=q03 HB.out _
   have c7:=HSr.out.c7
   clear hq
   cases lc
   ·by_cases hin:InR ix C.d.un
    ·have HU:Hid (zr6 C st (q k)):=by show zr6 C st (q k);rw[HQ.out];exact ⟨fun h=>Bool.noConfusion h,fun _=>hin⟩
     have hw:wiB ix (C.d.un:Int)=true:=by unfold wiB;have:=hin.1;have:=hin.2;simp;omega
     clear hin
     go_wp2_with fail
     go_quiet ((first|(go_at_call 160;exact Calls.quiet_of_same (q66 C st ins x a cap _ _ (by first|exact HSr.out|exact HSr.out.drew|exact HSr.out.call (below_drewN (Below.refl _ _) _))))|(go_at_call 136;exact Calls.quiet_of_same (q13 _ _ _))))
     go_wp2_with fail
     go_roundw
     case rel=>exact ⟨k+1,by omega,by go_num,fun j hj=>by
      by_cases e:j=k
      ·subst e;exact HU.out
      ·exact HK.out j (by omega),below_drewN HB1.out nq⟩
     case measure=>simp[intOf];omega
    ·have HU:Hid (dB (qt2 C st un q)=false):=q19 fun h=>hin (by have:=h k hkn;rw[HQ.out] at this;exact this.2 rfl)
     have hw:wiB ix (C.d.un:Int)=false:=by
      unfold wiB InR at *
      simp
      omega
     clear hin
     go_wp2_with fail
     go_quiet ((first|(go_at_call 160;exact Calls.quiet_of_same (q66 C st ins x a cap _ _ (by first|exact HSr.out|exact HSr.out.drew|exact HSr.out.call (below_drewN (Below.refl _ _) _))))|(go_at_call 136;exact Calls.quiet_of_same (q13 _ _ _))))
     go_wp2_with fail
     go_ret
     exact ⟨q06 HU.out.symm,below_drewN HB1.out nq⟩
   ·by_cases hin:ix∈st
    ·have HU:Hid (zr6 C st (q k)):=by show zr6 C st (q k);rw[HQ.out];exact ⟨fun _=>hin,fun h=>Bool.noConfusion h⟩
     have hw:dB (ix∈st)=true:=q32 hin
     clear hin
     go_wp2_with fail
     go_quiet ((first|(go_at_call 160;exact Calls.quiet_of_same (q66 C st ins x a cap _ _ (by first|exact HSr.out|exact HSr.out.drew|exact HSr.out.call (below_drewN (Below.refl _ _) _))))|(go_at_call 136;exact Calls.quiet_of_same (q13 _ _ _))))
     go_wp2_with fail
     go_roundw
     case rel=>exact ⟨k+1,by omega,by go_num,fun j hj=>by
      by_cases e:j=k
      ·subst e;exact HU.out
      ·exact HK.out j (by omega),below_drewN HB1.out nq⟩
     case measure=>simp[intOf];omega
    ·have HU:Hid (dB (qt2 C st un q)=false):=q19 fun h=>hin (by have:=h k hkn;rw[HQ.out] at this;exact this.1 rfl)
     have hw:dB (ix∈st)=false:=q19 hin
     clear hin
     go_wp2_with fail
     go_quiet ((first|(go_at_call 160;exact Calls.quiet_of_same (q66 C st ins x a cap _ _ (by first|exact HSr.out|exact HSr.out.drew|exact HSr.out.call (below_drewN (Below.refl _ _) _))))|(go_at_call 136;exact Calls.quiet_of_same (q13 _ _ _))))
     go_wp2_with fail
     go_ret
     exact ⟨q06 HU.out.symm,below_drewN HB1.out nq⟩
  ·obtain rfl:k=un:=by omega
   go_wp2_with fail
   go_ret
   exact ⟨q06 (q32 HK.out).symm,HB.out⟩
theorem zz4 {C:CX} {n:Nat} {st:List Int} {ins:Nat} {x:FT} {a:Option Addr} {cap:Nat} {P:FT->Prop} {w:World} (hP:VPre C n st ins x a cap P w) (g:Nat):qt2 C st (C.u.fn g).un (C.u.fn g).u↔y91 C.u C.f n g:=by
 constructor
 ·intro h i hi
  exact ⟨fun hl=>⟨hP.ss.rg _ ((h i hi).1 hl),(hP.stack _ (hP.ss.rg _ ((h i hi).1 hl))).1 ((h i hi).1 hl)⟩,(h i hi).2⟩
 ·intro h i hi
  exact ⟨fun hl=>(hP.stack _ ((h i hi).1 hl).1).2 ((h i hi).1 hl).2,(h i hi).2⟩
theorem zp7 (C:CX) (hC:C.ok) (n:Nat) (hk:(C.d.nd n).k=36):q72 C 131 n:=by
 intro st ins x a cap P w hP
 have hk':((C.u.fn C.f).nd n).k=36:=hk
 have hk0:=(hC.node hP.lt).leaf (by omega)
 have hr1:=(hC.node hP.lt).one (by omega)
 have HP:Hid (VPre C n st ins x a cap P w):=hP
 have c8:=hP.ss.c8
 have c0:=hP.ss.c0
 have c1:=hP.ss.c1
 have hn:=hP.lt
 have hnn:=hC.nn
 have hun:=hC.u5.size.2.1
 have hf:=hC.f
 obtain ⟨b,off,e0,_,hb,d0,d1,d2,d3,d4,d5,d6,d7⟩:=cells8 ((hP.ss.fns hC).2 C.f hC.f).2.2.1 hn
 obtain ⟨b2,o2,e2,_,hb2,r0⟩:=cells1 (((hP.ss.fns hC).2 C.f hC.f).2.2.2 n hn).1 (show 0<(C.d.nd n).rn by omega)
 have HF:Hid (FnsAt C.L w C.u.n C.u.fn C.ua C.fas):=hP.ss.fns hC
 rw[e0] at c8
 rw[show (C.u.fn C.f).nd n=C.d.nd n from rfl,e2,hr1] at d6
 rw[Nat.add_zero] at r0
 clear d0 d1 d2 d3 d4 d5 d7 e0 e2
 have h7:Hid (¬qa3 (C.u.fn C.f) n):=qc3 (by omega) (by omega)
 have h2:Hid ((C.d.nd n).k≠2):=by show _≠_;omega
 have HK:Hid ((C.d.nd n).kn=0):=hk0
 have hsx:Six C.u C.f n↔¬InR ((C.d.nd n).r 0) C.u.n:=by
  constructor
  ·rintro (h|h|h)
   ·omega
   ·omega
   ·exact h.2
  ·intro hm
   exact .inr (.inr ⟨hk,hm⟩)
 have hmk:qa2 C.u C.f n↔(InR ((C.d.nd n).r 0) C.u.n/\(((C.d.nd n).r 0)<=C.f\/¬y91 C.u C.f n ((C.d.nd n).r 0).toNat)):=by
  constructor
  ·rintro (h|h)
   ·omega
   ·exact h.2
  ·intro h
   exact .inr ⟨hk,h⟩
 have hho:=zz4 hP
 have hsm:=hC.sm
 clear hP hC hk0 hr1
 by_cases hm:InR ((C.d.nd n).r 0) C.u.n
 ·have q:wiB ((C.d.nd n).r 0) (C.u.n:Int)=true:=by unfold wiB;have:=hm.1;have:=hm.2;simp;omega
  obtain ⟨g,hg⟩:∃ g:Nat,(C.d.nd n).r 0=g:=⟨((C.d.nd n).r 0).toNat,by have:=hm.1;omega⟩
  have hgn:g<C.u.n:=by have:=hm.2;omega
  have hg':((C.u.fn C.f).nd n).r 0=g:=hg
  by_cases hle:g<=C.f
  ·have hN:Hid (∀ y,q69 C.u C.f n y↔y=⟨8,C.f,n⟩):=qg4 (fun h=>hsx.1 h hm) h7.out (hmk.2 ⟨hm,.inl (by omega)⟩)
   rw[hg'] at r0
   rw[hg] at q
   clear hsx hk hk' hm hmk hho hg hg'
   go_enter Tryz.func131,Tryz.ntmps131
   go_wp2_with (first|(go_at_call 136;refine (q13 _ _ _).mono ?_;rw[q];rintro e w1 ⟨rfl,rfl⟩)|(go_at_call 159;refine (q63 C st ins x a cap 8 n _ HP.out.ss).mono ?_;rintro e w2 ⟨rfl,hn1⟩;have HN1:Hid _:=hn1;clear hn1))
   go_end0
   exact ⟨rfl,qc1 HN1.out h2.out HP.out.least (by decide) HK.out hN.out⟩
  ·obtain ⟨b3,o3,e3,_,hb3,f0,f1,f2,f3,f4,f5,f6⟩:=cells7 HF.out.1 hgn
   rw[e3] at c0
   have hug:=(hsm.fn g hgn).un
   have HH:Hid (Calls Tryz.prog 161 #[.pointer (some ⟨C.S,0,none⟩),.slice (C.fas g).ua (C.u.fn g).un (C.fas g).uc] w fun e w'=>e=.returned (.bool (dB (qt2 C st (C.u.fn g).un (C.u.fn g).u)))/\Below w.heap.size w w'):=zh5 C st ins x a cap _ _ _ _ C.L w hug HP.out.ss (HF.out.2 g hgn).2.1
   by_cases hu:y91 C.u C.f n g
   ·have hN:Hid (∀ y,¬q69 C.u C.f n y):=q53 (fun h=>hsx.1 h hm) h7.out (fun h=>by
     rcases (hmk.1 h).2 with h1|h1
     ·omega
     ·exact h1 (by rw[hg];exact hu))
    have q2:dB (qt2 C st (C.u.fn g).un (C.u.fn g).u)=true:=q32 ((hho g).2 hu)
    rw[hg'] at r0
    rw[hg] at q
    clear hsx hk hk' hm hmk hho hg hg' f0 f1 f2 f3 f4 f6 e3 hu
    go_enter Tryz.func131,Tryz.ntmps131
    go_wp2_with (first|(go_at_call 136;refine (q13 _ _ _).mono ?_;rw[q];rintro e w1 ⟨rfl,rfl⟩)|(go_at_call 161;refine HH.out.mono ?_;rw[q2];rintro e w2 ⟨rfl,hb2⟩;have HB2:Hid _:=hb2;clear hb2))
    go_end0
    exact ⟨rfl,qo3 (HP.out.ss.call HB2.out) ((Mv.refl _ _ _ _).call HB2.out) h2.out HP.out.least HK.out hN.out⟩
   ·have hN:Hid (∀ y,q69 C.u C.f n y↔y=⟨8,C.f,n⟩):=qg4 (fun h=>hsx.1 h hm) h7.out (hmk.2 ⟨hm,.inr (by rw[hg];exact hu)⟩)
    have q2:dB (qt2 C st (C.u.fn g).un (C.u.fn g).u)=false:=q19 fun h=>hu ((hho g).1 h)
    rw[hg'] at r0
    rw[hg] at q
    clear hsx hk hk' hm hmk hho hg hg' f0 f1 f2 f3 f4 f6 e3 hu
    go_enter Tryz.func131,Tryz.ntmps131
    go_wp2_with (first|(go_at_call 136;refine (q13 _ _ _).mono ?_;rw[q];rintro e w1 ⟨rfl,rfl⟩)|(go_at_call 161;refine HH.out.mono ?_;rw[q2];rintro e w2 ⟨rfl,hb2⟩;have HB2:Hid _:=hb2;clear hb2)|(go_at_call 159;refine (q63 C st ins x a cap 8 n _ (HP.out.ss.call HB2.out)).mono ?_;rintro e w3 ⟨rfl,hn1⟩;have HN1:Hid _:=hn1;clear hn1))
    go_end0
    exact ⟨rfl,qc1 ⟨HN1.out.1,((Mv.refl _ _ _ _).call HB2.out).trans HN1.out.2⟩ h2.out HP.out.least (by decide) HK.out hN.out⟩
 ·have hN:Hid (∀ y,q69 C.u C.f n y↔y=⟨6,C.f,n⟩):=qp1 (hsx.2 hm) h7.out (fun h=>hm (hmk.1 h).1)
  have q:wiB ((C.d.nd n).r 0) (C.u.n:Int)=false:=by
   unfold wiB InR at *
   simp
   omega
  clear hsx hk hk' hm hmk hho
  go_enter Tryz.func131,Tryz.ntmps131
  go_wp2_with (first|(go_at_call 136;refine (q13 _ _ _).mono ?_;rw[q];rintro e w1 ⟨rfl,rfl⟩)|(go_at_call 159;refine (q63 C st ins x a cap 6 n _ HP.out.ss).mono ?_;rintro e w2 ⟨rfl,hn1⟩;have HN1:Hid _:=hn1;clear hn1))
  first|go_end0|refine bodyPost_ret (results_none rfl _ _ _) rfl ?_
  exact ⟨rfl,qc1 HN1.out h2.out HP.out.least (by decide) HK.out hN.out⟩
theorem y78 (k:Nat) (hv:k<39) (args:Array Value) (w:World):(callFunc (sfN k) args).run Tryz.prog w=.ok (.enter (sfN k) args) w:=by
 rcases (show k=0\/k=1\/k=2\/k=3\/k=4\/k=5\/k=6\/k=7\/k=8\/k=9\/k=10\/k=11\/k=12\/k=13\/k=14\/k=15\/k=16\/k=17\/k=18\/k=19\/k=20\/k=21\/k=22\/k=23\/k=24\/k=25\/k=26\/k=27\/k=28\/k=29\/k=30\/k=31\/k=32\/k=33\/k=34\/k=35\/k=36\/k=37\/k=38 by omega) with rfl|rfl|rfl|rfl|rfl|rfl|rfl|rfl|rfl|rfl|rfl|rfl|rfl|rfl|rfl|rfl|rfl|rfl|rfl|rfl|rfl|rfl|rfl|rfl|rfl|rfl|rfl|rfl|rfl|rfl|rfl|rfl|rfl|rfl|rfl|rfl|rfl|rfl|rfl<;>kernel_rfl
theorem VPost.drew {C:CX} {st:List Int} {ins:Nat} {Q:FT->Prop} {a:Option Addr} {w w':World} (h:VPost C st ins Q a w.drew w'):VPost C st ins Q a w w':=by
 obtain ⟨x',a',cap',h1,h2,h3⟩:=h
 exact ⟨x',a',cap',h1,h2,(Mv.refl _ _ _ _).drew.trans h3⟩
theorem VPre.drew {C:CX} {n:Nat} {st:List Int} {ins:Nat} {x:FT} {a:Option Addr} {cap:Nat} {P:FT->Prop} {w:World} (h:VPre C n st ins x a cap P w):VPre C n st ins x a cap P w.drew:=⟨h.ss.drew,h.lt,h.stack,h.loop,h.room,h.deep,h.least⟩
theorem visS {C:CX} (hC:C.ok) {st:List Int} {ins:Nat} {x:FT} {a:Option Addr} {cap:Nat} {w:World} (h:SS C st ins x a cap w) {n:Nat} (hn:n<C.d.nn) {b off kN:Nat} (e0:C.fa.na=some ⟨b,off,none⟩) (hk:(C.d.nd n).k=kN) (hk2:kN<39) :
  w.cell? ⟨C.S,8,none⟩=some (.slice (some ⟨b,off,none⟩) C.d.nn C.fa.nc)/\w.cell? ⟨b,off+n*8,none⟩=some (.int .i64 (kN:Int))/\w.cell? ⟨C.S,9+kN,none⟩=some (mvS C.S (sfN kN)):=by
 obtain ⟨b',off',e1,_,_,d0,_⟩:=cells8 ((h.fns hC).2 C.f hC.f).2.2.1 hn
 have e2:some (⟨b,off,none⟩:Addr)=some ⟨b',off',none⟩:=e0.symm.trans e1
 cases e2
 refine ⟨by rw[<-e0];exact h.c8,?_,h.box.1.cell (9+kN) (yd5 _ _ _ _ _ _ _ _ _ _ kN hk2)⟩
 rw[<-hk]
 exact d0
theorem y33 (C:CX) (hC:C.ok) (n:Nat) (hstep:q72 C (sfN (C.d.nd n).k.toNat) n):q59 C n:=by
 intro st ins x a cap P w hP
 have hn:=hP.lt
 have hnn:=hC.nn
 have hsh:=(hC.node hn).kind
 obtain ⟨kN,hkN⟩:∃ kN:Nat,(C.d.nd n).k=kN:=⟨(C.d.nd n).k.toNat,by omega⟩
 have hk2:kN<39:=by omega
 have i1:(kN:Int)<39:=by omega
 have i2:(0:Int)<=(kN:Int):=by omega
 obtain ⟨b,off,e0,_⟩:=cells8 ((hP.ss.fns hC).2 C.f hC.f).2.2.1 hn
 have HV:Hid (∀ (st:List Int) (ins:Nat) (x:FT) (a:Option Addr) (cap:Nat) (w:World),SS C st ins x a cap w->w.cell? ⟨C.S,8,none⟩=some (.slice (some ⟨b,off,none⟩) C.d.nn C.fa.nc)/\w.cell? ⟨b,off+n*8,none⟩=some (.int .i64 (kN:Int))/\w.cell? ⟨C.S,9+kN,none⟩=some (mvS C.S (sfN kN))):=fun st ins x a cap w h=>visS hC h hn e0 hkN hk2
 have HC:Hid (Calls Tryz.prog (sfN kN) #[.pointer (some ⟨C.S,0,none⟩),.int .i64 (n:Int)] w.drew fun e w'=>e=.returned (.tuple #[])/\VPost C (st++leaves C n) ins (fun y=>P y\/q60 C.u C.f n y) a w.drew w'):=by
  have h:=hstep st ins x a cap P w.drew hP.drew
  rw[hkN] at h
  exact h
 have HP:Hid (VPre C n st ins x a cap P w):=hP
 clear hP hC hstep hkN hsh e0
 go_enter Tryz.func134,Tryz.ntmps134
 refine wp_region_held_drew (S:=(fun w'=>w'.cell? ⟨C.S,8,none⟩=some (.slice (some ⟨b,off,none⟩) C.d.nn C.fa.nc)/\w'.cell? ⟨b,off+n*8,none⟩=some (.int .i64 (kN:Int))/\w'.cell? ⟨C.S,9+kN,none⟩=some (mvS C.S (sfN kN)))) (by kernel_rfl) (HV.out _ _ _ _ _ _ HP.out.ss.drew) (fun hHold=>?_)
 refine wpAnyH_take (i:=0) (oi:=⟨some 4,_,_,_,_,_⟩) (v:=?v1) rfl (by kernel_rfl) (by kernel_rfl) (by kernel_rfl) (fun _ _ _ h=>h) (Or.inl ⟨by rfl,?hy1⟩) (by assumption) ?rest1
 case hy1=>(intro wz hSw;(try dsimp only at hSw);go_simp<;>with_reducible rfl)
 try simp only[Act.put,zz1,zz2,zz3]
 refine wpAnyH_take (i:=1) (oi:=⟨some 5,_,_,_,_,_⟩) (v:=?v2) rfl (by kernel_rfl) (by kernel_rfl) (by kernel_rfl) (fun _ _ _ h=>h) (Or.inl ⟨by rfl,?hy2⟩) (by assumption) ?rest2
 case hy2=>(intro wz hSw;(try dsimp only at hSw);go_simp<;>with_reducible rfl)
 try simp only[Act.put,zz1,zz2,zz3]
 refine wpAnyH_take (i:=2) (oi:=⟨some 6,_,_,_,_,_⟩) (v:=?v3) rfl (by kernel_rfl) (by kernel_rfl) (by kernel_rfl) (fun _ _ _ h=>h) (Or.inl ⟨by rfl,?hy3⟩) (by assumption) ?rest3
 case hy3=>(intro wz hSw;(try dsimp only at hSw);go_simp<;>with_reducible rfl)
 try simp only[Act.put,zz1,zz2,zz3]
 refine wpAnyH_take (i:=3) (oi:=⟨some 7,_,_,_,_,_⟩) (v:=?v4) rfl (by kernel_rfl) (by kernel_rfl) (by kernel_rfl) (fun _ _ _ h=>h) (Or.inl ⟨by rfl,?hy4⟩) (by assumption) ?rest4
 case hy4=>(intro wz hSw;(try dsimp only at hSw);go_simp<;>with_reducible rfl)
 try simp only[Act.put,zz1,zz2,zz3]
 refine wpAnyH_take (i:=4) (oi:=⟨some 8,_,_,_,_,_⟩) (v:=?v5) rfl (by kernel_rfl) (by kernel_rfl) (by kernel_rfl) (fun _ _ _ h=>h) (Or.inl ⟨by rfl,?hy5⟩) (by assumption) ?rest5
 case hy5=>(intro wz hSw;(try dsimp only at hSw);go_simp<;>with_reducible rfl)
 try simp only[Act.put,zz1,zz2,zz3]
 refine wpAnyH_take (i:=5) (oi:=⟨some 9,_,_,_,_,_⟩) (v:=?v6) rfl (by kernel_rfl) (by kernel_rfl) (by kernel_rfl) (fun _ _ _ h=>h) (Or.inl ⟨by rfl,?hy6⟩) (by assumption) ?rest6
 case hy6=>(intro wz hSw;(try dsimp only at hSw);go_simp<;>with_reducible rfl)
 try simp only[Act.put,zz1,zz2,zz3]
 refine wpAnyH_take (i:=6) (oi:=⟨some 10,_,_,_,_,_⟩) (v:=?v7) rfl (by kernel_rfl) (by kernel_rfl) (by kernel_rfl) (fun _ _ _ h=>h) (Or.inl ⟨by rfl,?hy7⟩) (by assumption) ?rest7
 case hy7=>(intro wz hSw;(try dsimp only at hSw);go_simp<;>with_reducible rfl)
 try simp only[Act.put,zz1,zz2,zz3]
 refine wpAnyH_take (i:=7) (oi:=⟨some 11,_,_,_,_,_⟩) (v:=?v8) rfl (by kernel_rfl) (by kernel_rfl) (by kernel_rfl) (fun _ _ _ h=>h) (Or.inl ⟨by rfl,?hy8⟩) (by assumption) ?rest8
 case hy8=>(intro wz hSw;(try dsimp only at hSw);go_simp<;>with_reducible rfl)
 try simp only[Act.put,zz1,zz2,zz3]
 refine wpAnyH_take (i:=8) (oi:=⟨some 12,_,_,_,_,_⟩) (v:=?v9) rfl (by kernel_rfl) (by kernel_rfl) (by kernel_rfl) (fun _ _ _ h=>h) (Or.inl ⟨by rfl,?hy9⟩) (by assumption) ?rest9
 case hy9=>(intro wz hSw;(try dsimp only at hSw);go_simp<;>with_reducible rfl)
 try simp only[Act.put,zz1,zz2,zz3]
 refine wpAnyH_take (i:=9) (oi:=⟨some 13,_,_,_,_,_⟩) (v:=?v10) rfl (by kernel_rfl) (by kernel_rfl) (by kernel_rfl) (fun _ _ _ h=>h) (Or.inl ⟨by rfl,?hy10⟩) (by assumption) ?rest10
 case hy10=>(intro wz hSw;(try dsimp only at hSw);go_simp<;>with_reducible rfl)
 try simp only[Act.put,zz1,zz2,zz3]
 refine wpAnyH_take (i:=10) (oi:=⟨some 14,_,_,_,_,_⟩) (v:=?v11) rfl (by kernel_rfl) (by kernel_rfl) (by kernel_rfl) (fun _ _ _ h=>h) (Or.inl ⟨by rfl,?hy11⟩) (by assumption) ?rest11
 case hy11=>(intro wz hSw;(try dsimp only at hSw);go_simp<;>with_reducible rfl)
 try simp only[Act.put,zz1,zz2,zz3]
 refine wpAnyH_take (i:=11) (oi:=⟨some 15,_,_,_,_,_⟩) (v:=?v12) rfl (by kernel_rfl) (by kernel_rfl) (by kernel_rfl) (fun _ _ _ h=>h) (Or.inl ⟨by rfl,?hy12⟩) (by assumption) ?rest12
 case hy12=>(intro wz hSw;(try dsimp only at hSw);go_simp<;>with_reducible rfl)
 try simp only[Act.put,zz1,zz2,zz3]
 refine wpAnyH_take (i:=12) (oi:=⟨some 16,_,_,_,_,_⟩) (v:=?v13) rfl (by kernel_rfl) (by kernel_rfl) (by kernel_rfl) (fun _ _ _ h=>h) (Or.inl ⟨by rfl,?hy13⟩) (by assumption) ?rest13
 case hy13=>(intro wz hSw;(try dsimp only at hSw);go_simp<;>with_reducible rfl)
 try simp only[Act.put,zz1,zz2,zz3]
 refine wpAnyH_take (i:=13) (oi:=⟨some 17,_,_,_,_,_⟩) (v:=?v14) rfl (by kernel_rfl) (by kernel_rfl) (by kernel_rfl) (fun _ _ _ h=>h) (Or.inl ⟨by rfl,?hy14⟩) (by assumption) ?rest14
 case hy14=>(intro wz hSw;(try dsimp only at hSw);go_simp<;>with_reducible rfl)
 try simp only[Act.put,zz1,zz2,zz3]
 refine wpAnyH_take (i:=14) (oi:=⟨some 18,_,_,_,_,_⟩) (v:=?v15) rfl (by kernel_rfl) (by kernel_rfl) (by kernel_rfl) (fun _ _ _ h=>h) (Or.inl ⟨by rfl,?hy15⟩) (by assumption) ?rest15
 case hy15=>(intro wz hSw;(try dsimp only at hSw);go_simp<;>with_reducible rfl)
 try simp only[Act.put,zz1,zz2,zz3]
 refine wpAnyH_ready (rs:=[15]) (by kernel_rfl) (by simp) ?_
 refine AllReadyH.cons (o:=⟨some 19,_,_,_,_,_⟩) rfl (fun K hK=>?_) AllReadyH.nil
 go_simp
 rw[y78 kN hk2]
 dsimp only[Oper.upon]
 refine HC.out.mono ?_
 rintro e w9 ⟨rfl,hp9⟩
 have HP9:Hid _:=hp9
 dsimp only
 refine hK.out _ _ (by obtain ⟨x',a',cap',h1,_⟩:=HP9.out;exact HV.out _ _ _ _ _ _ h1) (fun hHeld=>?_)
 refine wpAnyH_done (by kernel_rfl) ?_ _
 go_end0
 exact ⟨rfl,VPost.drew HP9.out⟩
theorem CX.ok.rn {C:CX} (h:C.ok) {n:Nat} (hn:n<C.d.nn):(C.d.nd n).rn<=1048576:=((h.sm.fn C.f h.f).nd n hn).rn
theorem y32 (d:ND) (vn:Nat):(vref d vn).length<=d.rn:=by rw[<-qy8];exact qn8 _ _ _
theorem z12 (C:CX) (hC:C.ok) (n:Nat) (hn:n<C.d.nn):∀ j,j<=(C.d.nd n).kn->(q68 C.d.nd C.d.vn n j).length<=1048576*j
 |0,_=>by simp[q68]
 |j+1,hj=>by
  have ih:=z12 C hC n hn j (by omega)
  have hc:=(hC.node hn).kids j (by omega)
  have h1:=y32 (C.d.nd ((C.d.nd n).c j).toNat) C.d.vn
  have h2:=hC.rn (n:=((C.d.nd n).c j).toNat) (by omega)
  unfold q68
  rw[List.length_append]
  split
  ·omega
  ·simp;omega
theorem zq0 {C:CX} (n j c:Nat) (hc:(C.d.nd n).c j=(c:Int)):q68 C.d.nd C.d.vn n (j+1)=q68 C.d.nd C.d.vn n j++leaves C c:=by
 show q68 C.d.nd C.d.vn n j++_=_
 rw[hc,Int.toNat_natCast]
 rfl
theorem qn1 {C:CX} (hC:C.ok) {n:Nat} (hn:n<C.d.nn) (hk:(C.d.nd n).k≠1):∀ j,j<=(C.d.nd n).kn->q68 C.d.nd C.d.vn n j=[]
 |0,_=>rfl
 |j+1,hj=>by
  have:=(hC.node hn).lets hk j (by omega)
  unfold q68
  rw[qn1 hC hn hk j (by omega),if_neg this]
  rfl
theorem VPre.kid {C:CX} (hC:C.ok) {n:Nat} {st:List Int} {ins:Nat} {x:FT} {a:Option Addr} {cap:Nat} {P:FT->Prop} {w:World} (h:VPre C n st ins x a cap P w) {j c:Nat} (hj:j<(C.d.nd n).kn) (hc:(C.d.nd n).c j=(c:Int)) {st':List Int} {ins':Nat} {x':FT} {a':Option Addr} {cap':Nat} {P':FT->Prop} {w':World} (hs:SS C st' ins' x' a' cap' w') (hst:StackOk C.d c st') (hlp:0<ins'↔InL C.d.nd C.d.nn c) (hlen:st'.length<=st.length+209715200) (hins:ins'<=ins+1) (hl:Least P' x'):VPre C c st' ins' x' a' cap' P' w':=by
 have h0:=h.lt
 have h1:=(hC.node h0).kids j hj
 have h2:=h.room
 have h3:=h.deep
 exact ⟨hs,by omega,hst,hlp,by omega,by omega,hl⟩
theorem VPre.stackK {C:CX} (hC:C.ok) {n:Nat} {st:List Int} {ins:Nat} {x:FT} {a:Option Addr} {cap:Nat} {P:FT->Prop} {w:World} (h:VPre C n st ins x a cap P w) (hk:(C.d.nd n).k≠7/\(C.d.nd n).k≠8/\(C.d.nd n).k≠12) {j c:Nat} (hj:j<(C.d.nd n).kn) (hc:(C.d.nd n).c j=(c:Int)):StackOk C.d c (st++q68 C.d.nd C.d.vn n j):=by
 by_cases e:(C.d.nd n).k=1
 ·exact StackOk.block hC.tree ⟨h.lt,hj,hc⟩ e h.stack
 ·rw[qn1 hC h.lt e j (by omega),List.append_nil]
  exact StackOk.plain hC.tree ⟨h.lt,hj,hc⟩ e (fun h=>by omega) h.stack
theorem VPre.loopK {C:CX} (hC:C.ok) {n:Nat} {st:List Int} {ins:Nat} {x:FT} {a:Option Addr} {cap:Nat} {P:FT->Prop} {w:World} (h:VPre C n st ins x a cap P w) {j c:Nat} (hj:j<(C.d.nd n).kn) (hc:(C.d.nd n).c j=(c:Int)) (hk:¬(((C.d.nd n).k=6\/(C.d.nd n).k=7\/(C.d.nd n).k=8)/\j+1=(C.d.nd n).kn)):0<ins↔InL C.d.nd C.d.nn c:=by
 rw[InL.iff hC.tree ⟨h.lt,hj,hc⟩,h.loop]
 exact ⟨.inr,fun h'=>h'.resolve_left hk⟩
def KPost (C:CX) (n:Nat) (st:List Int) (ins:Nat) (P:FT->Prop) (a:Option Addr) (w w':World):Prop:=VPost C (st++q68 C.d.nd C.d.vn n (C.d.nd n).kn) ins (fun y=>P y\/qc6 C.u C.f n (C.d.nd n).kn y) a w w'
theorem qk0 (C:CX) (hC:C.ok) (n:Nat) (ih:∀ m,m<n->q59 C m) (hk:(C.d.nd n).k≠6/\(C.d.nd n).k≠7/\(C.d.nd n).k≠8/\(C.d.nd n).k≠12) (st:List Int) (ins:Nat) (x:FT) (a:Option Addr) (cap:Nat) (P:FT->Prop) (w:World) (hP:VPre C n st ins x a cap P w) :
  Calls Tryz.prog 123 #[.pointer (some ⟨C.S,0,none⟩),.int .i64 (n:Int)] w fun e w'=>e=.returned (.tuple #[])/\KPost C n st ins P a w w':=by
 have HP:Hid (VPre C n st ins x a cap P w):=hP
 have HC:Hid C.ok:=hC
 have IH:Hid (∀ m,m<n->q59 C m):=ih
 have HK:Hid ((C.d.nd n).k≠6/\(C.d.nd n).k≠7/\(C.d.nd n).k≠8/\(C.d.nd n).k≠12):=hk
 have c8:=hP.ss.c8
 have hn:=hP.lt
 have hnn:=hC.nn
 have hkn:=(hC.node hn).kn
 obtain ⟨b,off,e0,_,hb,d0,d1,d2,d3,d4,d5,d6,d7⟩:=cells8 ((hP.ss.fns hC).2 C.f hC.f).2.2.1 hn
 rw[e0] at c8
 rw[show (C.u.fn C.f).nd n=C.d.nd n from rfl] at d7
 clear d0 d1 d2 d3 d4 d5 d6 e0 hP hC ih hk
 go_enter Tryz.func123,Tryz.ntmps123
 go_wp2_with fail
 clear c8 d7
 go_loopw [16] (fun i wr=>∃ (k:Nat) (x':FT) (a':Option Addr) (cap':Nat),k<=(C.d.nd n).kn/\i=.int .i64 k/\Hid (SS C (st++q68 C.d.nd C.d.vn n k) ins x' a' cap' wr)/\Hid (Least (fun y=>P y\/qc6 C.u C.f n k y) x')/\Hid (Mv C.S C.T a w a' wr)) (fun i _=>(C.d.nd n).kn-(intOf i).toNat)
 case atStart=>exact ⟨0,x,a,cap,Nat.zero_le _,rfl,by show SS _ _ _ _ _ _ _;rw[show q68 C.d.nd C.d.vn n 0=[] from rfl,List.append_nil];exact HP.out.ss,HP.out.least.congr fun y=>⟨.inl,fun h=>h.resolve_right (qj8 _ _ _ _)⟩,Mv.refl _ _ _ _⟩
 case round=>
  obtain ⟨k,x',a',cap',hk,rfl,HS,HL,HM⟩:=hrel
  by_cases hkn2:k<(C.d.nd n).kn
  ·obtain ⟨b2,o2,e2,_,hb2,g0⟩:=cells1 (((HS.out.fns HC.out).2 C.f HC.out.f).2.2.2 n hn).2 hkn2
   rw[show C.fas C.f=C.fa from rfl] at e2
   rw[e2]
   have hc:=(HC.out.node hn).kids k hkn2
   obtain ⟨c,hcc⟩:∃ c:Nat,(C.d.nd n).c k=c:=⟨((C.d.nd n).c k).toNat,by omega⟩
   rw[show ((C.u.fn C.f).nd n).c k=(c:Int) from hcc] at g0
   have hcn:c<n:=by omega
   have hlen:=z12 C HC.out n hn k hk
   have HV:Hid (Calls Tryz.prog 134 #[.pointer (some ⟨C.S,0,none⟩),.int .i64 (c:Int)] wr fun e w'=>e=.returned (.tuple #[])/\VPost C ((st++q68 C.d.nd C.d.vn n k)++leaves C c) ins (fun y=>(P y\/qc6 C.u C.f n k y)\/q60 C.u C.f c y) a' wr w'):=
    IH.out c hcn _ _ _ _ _ _ _ (HP.out.kid HC.out hkn2 hcc HS.out (HP.out.stackK HC.out HK.out.2 hkn2 hcc) (HP.out.loopK HC.out hkn2 hcc (fun h=>by have:=HK.out;omega)) (by rw[List.length_append];omega) (by omega) HL.out)
   have HE:Hid (st++q68 C.d.nd C.d.vn n (k+1)=(st++q68 C.d.nd C.d.vn n k)++leaves C c):=by show _=_;rw[zq0 n k c hcc,List.append_assoc]
   have HQ:Hid (∀ y,((P y\/qc6 C.u C.f n k y)\/q60 C.u C.f c y)↔(P y\/qc6 C.u C.f n (k+1) y)):=fun y=>by rw[qb6 C.u C.f n k c hcc y,or_assoc]
   clear hc hcc hlen e2
   go_wp2_with (go_at_call 134;refine HV.out.mono ?_;rintro e w9 ⟨rfl,⟨x9,a9,cap9,hs9,hl9,hm9⟩⟩;have HS9:Hid _:=hs9;have HL9:Hid _:=hl9;have HM9:Hid _:=hm9;clear hs9 hl9 hm9)
   go_roundw
   case rel=>exact ⟨k+1,x9,a9,cap9,by omega,by go_num,by rw[HE.out];exact HS9,Least.congr HL9.out HQ.out,HM.out.trans HM9.out⟩
   case measure=>simp[intOf];omega
  ·obtain rfl:k=(C.d.nd n).kn:=by omega
   go_wp2_with fail
   go_end0
   exact ⟨rfl,x',a',cap',HS.out,HL.out,HM.out⟩
theorem FarI.node {C:CX} (hC:C.ok) {st:List Int} {ins:Nat} {x:FT} {a:Option Addr} {cap:Nat} {w:World} (h:SS C st ins x a cap w) {n:Nat} (hn:n<C.d.nn):FarI C a w (C.fa.nas n).ra (C.d.nd n).rn (C.d.nd n).r:=by
 refine ⟨RowN.less (((h.fns hC).2 C.f hC.f).2.2.2 n hn).1 (Nat.zero_le _),fun h0 b off e=>?_⟩
 obtain ⟨b',off',e',_,hb,_⟩:=((hC.at_.2 C.f hC.f).2.2.2 n hn).1 h0
 rw[show C.fas C.f=C.fa from rfl,e] at e'
 cases e'
 have h1:=h.nS
 have h2:=h.nT
 exact ⟨by omega,by omega,fun c=>by have:=(h.ge c).1;omega⟩
theorem KPost.step {C:CX} {n:Nat} {st:List Int} {ins:Nat} {P:FT->Prop} {a:Option Addr} {w w':World} (h:KPost C n st ins P a w w') (hl:q68 C.d.nd C.d.vn n (C.d.nd n).kn=[]) (h2:(C.d.nd n).k≠2) (hN:∀ y,¬q69 C.u C.f n y):VPost C (st++leaves C n) ins (fun y=>P y\/q60 C.u C.f n y) a w w':=by
 obtain ⟨x',a',cap',h1,h3,h4⟩:=h
 rw[hl,List.append_nil] at h1
 rw[q64 h2]
 exact ⟨x',a',cap',h1,h3.congr fun y=>by rw[qb5];exact ⟨fun h=>h.elim .inl fun h=>.inr (.inl h),fun h=>h.elim .inl fun h=>.inr (h.resolve_right (hN y))⟩,h4⟩
theorem zy2 (C:CX) (hC:C.ok) (n:Nat) (hn:n<C.d.nn) (ih:∀ m,m<n->q59 C m) (hk:(C.d.nd n).k≠1/\(C.d.nd n).k≠2/\(C.d.nd n).k≠6/\(C.d.nd n).k≠7/\(C.d.nd n).k≠8/\(C.d.nd n).k≠12/\(C.d.nd n).k≠9/\(C.d.nd n).k≠10/\(C.d.nd n).k≠26/\(C.d.nd n).k≠27/\(C.d.nd n).k≠36/\(C.d.nd n).k≠37):q72 C 123 n:=by
 intro st ins x a cap P w hP
 have hN:=q53 (qp6 (u:=C.u) (f:=C.f) (n:=n) hk.2.2.2.2.2.2.2.2.1 hk.2.2.2.2.2.2.2.2.2.1 hk.2.2.2.2.2.2.2.2.2.2.1) (qc3 hk.2.2.2.2.2.2.1 hk.2.2.2.2.2.2.2.1) (qd2 hk.2.2.2.2.2.2.2.2.2.2.1 hk.2.2.2.2.2.2.2.2.2.2.2)
 refine (qk0 C hC n ih ⟨hk.2.2.1,hk.2.2.2.1,hk.2.2.2.2.1,hk.2.2.2.2.2.1⟩ st ins x a cap P w hP).mono ?_
 rintro e w' ⟨rfl,h⟩
 exact ⟨rfl,h.step (qn1 hC hn hk.1 _ (Nat.le_refl _)) hk.2.1 hN⟩
theorem y60 (C:CX) (hC:C.ok) (n:Nat) (ih:∀ m,m<n->q59 C m) (hk:(C.d.nd n).k=2):q72 C 125 n:=by
 intro st ins x a cap P w hP
 have hk':((C.u.fn C.f).nd n).k=2:=hk
 have HN:Hid (∀ y,¬q69 C.u C.f n y):=q53 (qp6 (by omega) (by omega) (by omega)) (qc3 (by omega) (by omega)) (qd2 (by omega) (by omega))
 have HKC:Hid (Calls Tryz.prog 123 #[.pointer (some ⟨C.S,0,none⟩),.int .i64 (n:Int)] w fun e w'=>e=.returned (.tuple #[])/\KPost C n st ins P a w w'):=qk0 C hC n ih (by omega) st ins x a cap P w hP
 have HE:Hid (q68 C.d.nd C.d.vn n (C.d.nd n).kn=[]):=qn1 hC hP.lt (by omega) _ (Nat.le_refl _)
 have HP:Hid (VPre C n st ins x a cap P w):=hP
 have HC:Hid C.ok:=hC
 have HL:Hid (leaves C n=vrN (C.d.nd n).r C.d.vn (C.d.nd n).rn):=by show leaves C n=_;unfold leaves;rw[if_pos hk,qy8]
 have hn:=hP.lt
 have hnn:=hC.nn
 have hrn:=hC.rn hn
 have hroom:=hP.room
 clear hP hC ih hk hk'
 go_enter Tryz.func125,Tryz.ntmps125
 go_wp2_with fail
 refine HKC.out.mono ?_
 rintro e w1 ⟨rfl,⟨x1,a1,cap1,hs1,hl1,hm1⟩⟩
 rw[HE.out,List.append_nil] at hs1
 have HS1:Hid (SS C st ins x1 a1 cap1 w1):=hs1
 have HL1:Hid (Least (fun y=>P y\/qc6 C.u C.f n (C.d.nd n).kn y) x1):=hl1
 have HM1:Hid (Mv C.S C.T a w a1 w1):=hm1
 have c8:=hs1.c8
 obtain ⟨b,off,e0,_,hb,d0,d1,d2,d3,d4,d5,d6,d7⟩:=cells8 ((hs1.fns HC.out).2 C.f HC.out.f).2.2.1 hn
 rw[e0] at c8
 rw[show (C.u.fn C.f).nd n=C.d.nd n from rfl] at d6
 have HI:Hid (FarI C a1 w1 (C.fa.nas n).ra (C.d.nd n).rn (C.d.nd n).r):=FarI.node HC.out hs1 hn
 clear d0 d1 d2 d3 d4 d5 d7 e0 hs1 hl1 hm1
 go_wp2_with (go_at_call 133;refine (qa9 C st ins x1 a1 cap1 _ _ _ _ _ hrn (by omega) HS1.out HI.out).mono ?_;rintro e w2 ⟨rfl,⟨a2,cap2,hs2,hm2⟩⟩;have HS2:Hid _:=hs2;have HM2:Hid _:=hm2;clear hs2 hm2)
 go_end0
 refine ⟨rfl,x1,a2,cap2,by rw[HL.out];exact HS2.out,HL1.out.congr fun y=>?_,HM1.out.trans HM2.out⟩
 rw[qb5]
 exact ⟨fun h=>h.elim .inl fun h=>.inr (.inl h),fun h=>h.elim .inl fun h=>.inr (h.resolve_right (HN.out y))⟩
theorem zr2 (C:CX) (hC:C.ok) (n:Nat) (ih:∀ m,m<n->q59 C m) (hk:(C.d.nd n).k=1):q72 C 124 n:=by
 intro st ins x a cap P w hP
 have hk':((C.u.fn C.f).nd n).k=1:=hk
 have HN:Hid (∀ y,¬q69 C.u C.f n y):=q53 (qp6 (by omega) (by omega) (by omega)) (qc3 (by omega) (by omega)) (qd2 (by omega) (by omega))
 have h2:Hid ((C.d.nd n).k≠2):=by show _≠_;omega
 have HKC:Hid (Calls Tryz.prog 123 #[.pointer (some ⟨C.S,0,none⟩),.int .i64 (n:Int)] w fun e w'=>e=.returned (.tuple #[])/\KPost C n st ins P a w w'):=qk0 C hC n ih (by omega) st ins x a cap P w hP
 have HP:Hid (VPre C n st ins x a cap P w):=hP
 have c48:=hP.ss.c48
 have hroom:=hP.room
 have hlen:=z12 C hC n hP.lt _ (Nat.le_refl _)
 have hkn:=(hC.node hP.lt).kn
 clear hP hC ih hk hk'
 go_enter_defers Tryz.func124,Tryz.ntmps124
 go_wp2_with (go_at_call 123;refine HKC.out.mono ?_;rintro e w1 ⟨rfl,⟨x1,a1,cap1,hs1,hl1,hm1⟩⟩;have HS1:Hid _:=hs1;have HL1:Hid _:=hl1;have HM1:Hid _:=hm1;clear hs1 hl1 hm1)
 refine leaves_cons (f:=157) (args:=#[.pointer (some ⟨C.S,0,none⟩),.int .i64 (st.length:Int)]) (by simp) (by simp[go_sem]) ?_
 refine (qb3 C _ ins x1 a1 cap1 st.length .returning _ (by rw[List.length_append];omega) (by simp) HS1.out).mono ?_
 rintro e u' w2 ⟨rfl,rfl,hs2,hm2⟩
 refine ⟨_,results_none rfl _ _ _,rfl,x1,a1,cap1,?_,Least.congr HL1.out fun y=>?_,HM1.out.trans hm2⟩
 ·rw[q64 h2.out]
  rw[List.take_left] at hs2
  exact hs2
 ·rw[qb5]
  exact ⟨fun h=>h.elim .inl fun h=>.inr (.inl h),fun h=>h.elim .inl fun h=>.inr (h.resolve_right (HN.out y))⟩
theorem qc9 (C:CX) (m:Nat) (ih:q59 C m) (va:Option Addr) (vn vc:Nat) (r:Nat->Int) (st:List Int) (ins:Nat) (x:FT) (a:Option Addr) (cap:Nat) (P:FT->Prop) (w:World) (hm2:(C.d.nd m).k≠2) (hvn:vn<=1048576) (hroom:st.length<=700000000000) (hS:SS C st ins x a cap w) (hI:FarI C a w va vn r) (hL:Least P x)
  (hV:∀ (a':Option Addr) (cap':Nat) (w':World),SS C (st++vrN r C.d.vn vn) ins x a' cap' w'->VPre C m (st++vrN r C.d.vn vn) ins x a' cap' P w') :
  Calls Tryz.prog 158 #[.pointer (some ⟨C.S,0,none⟩),.slice va vn vc,.int .i64 (m:Int)] w fun e w'=>e=.returned (.tuple #[])/\VPost C st ins (fun y=>P y\/q60 C.u C.f m y) a w w':=by
 have HS:Hid (SS C st ins x a cap w):=hS
 have HI:Hid (FarI C a w va vn r):=hI
 have HL:Hid (Least P x):=hL
 have HV:Hid (∀ (a':Option Addr) (cap':Nat) (w':World),SS C (st++vrN r C.d.vn vn) ins x a' cap' w'->VPre C m (st++vrN r C.d.vn vn) ins x a' cap' P w'):=hV
 have IH:Hid (q59 C m):=ih
 have h2:Hid ((C.d.nd m).k≠2):=hm2
 have c48:=hS.c48
 have hlen:=qn8 r C.d.vn vn
 clear hS hI hL hV ih hm2
 go_enter_defers Tryz.func158,Tryz.ntmps158
 go_wp2_with (first|(go_at_call 133;refine (qa9 C st ins x a cap va vn vc r _ hvn hroom HS.out HI.out).mono ?_;rintro e w1 ⟨rfl,⟨a1,cap1,hs1,hm1⟩⟩;have HS1:Hid _:=hs1;have HM1:Hid _:=hm1;clear hs1 hm1)|(go_at_call 134;refine (IH.out _ _ _ _ _ _ _ (HV.out _ _ _ HS1.out)).mono ?_;rintro e w2 ⟨rfl,⟨x2,a2,cap2,hs2,hl2,hm2⟩⟩;have HS2:Hid _:=hs2;have HL2:Hid _:=hl2;have HM2:Hid _:=hm2;clear hs2 hl2 hm2))
 have hs3:=HS2.out
 rw[q64 h2.out] at hs3
 refine leaves_cons (f:=157) (args:=#[.pointer (some ⟨C.S,0,none⟩),.int .i64 (st.length:Int)]) (by simp) (by simp[go_sem]) ?_
 refine (qb3 C _ ins x2 a2 cap2 st.length .returning _ (by rw[List.length_append];omega) (by simp) hs3).mono ?_
 rintro e u' w3 ⟨rfl,rfl,hs4,hm4⟩
 refine ⟨_,results_none rfl _ _ _,rfl,x2,a2,cap2,?_,HL2.out,(HM1.out.trans HM2.out).trans hm4⟩
 rw[List.take_left] at hs4
 exact hs4
end Go.Proofs.YtaimofjekgnieaaGreatDoor
