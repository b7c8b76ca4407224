import Derived.Test.YthnkncpegihbhaaGreatDoorSkI
set_option maxRecDepth 100000
set_option maxHeartbeats 16000000
namespace Go.Proofs.YthnkncpegihbhaaGreatDoor
section
open Go.RowKit
attribute [local go_sem] iD
attribute [local go_sem ↓] Go.wp_at_zero Go.wp_at_succ
def yL(d:FD)(m b:Nat):Prop:=¬(lI ((d.nd m).r b) d.vn/\¬pR d m b ((d.nd m).r b))
def Ap(u:UD)(f m j:Nat)(y:FT):Prop:=(∃x,x<m/\Hu u f x y)\/(y=⟨6,f,m⟩/\rY ((u.fn f).nd m).k/\∃b,b<j/\yL (u.fn f) m b)
theorem zz8(u:UD)(f:Nat)(y:FT):¬Ap u f 0 0 y:=by
 rintro(⟨x,h,_⟩|⟨_,_,b,h,_⟩)<;>omega
theorem ZV{u:UD}{f m j:Nat}(hd:rY ((u.fn f).nd m).k)(hb:yL (u.fn f) m j)(y:FT):Ap u f m (j+1) y↔Ap u f m j y\/y=⟨6,f,m⟩:=by
 constructor
 ·rintro(h|⟨h,_⟩)
  ·exact .inl (.inl h)
  ·exact .inr h
 ·rintro((h|⟨h1,h2,b,h3,h4⟩)|h)
  ·exact .inl h
  ·exact .inr ⟨h1,h2,b,by omega,h4⟩
  ·exact .inr ⟨h,hd,j,by omega,hb⟩
theorem yk5{u:UD}{f m j:Nat}(hb:¬yL (u.fn f) m j)(y:FT):Ap u f m (j+1) y↔Ap u f m j y:=by
 constructor
 ·rintro(h|⟨h1,h2,b,h3,h4⟩)
  ·exact .inl h
  ·by_cases e:b=j
   ·subst e;exact absurd h4 hb
   ·exact .inr ⟨h1,h2,b,by omega,h4⟩
 ·rintro(h|⟨h1,h2,b,h3,h4⟩)
  ·exact .inl h
  ·exact .inr ⟨h1,h2,b,by omega,h4⟩
theorem ZU{u:UD}{f m:Nat}(y:FT):Hu u f m y↔(y=⟨6,f,m⟩/\rY ((u.fn f).nd m).k/\∃b,b<((u.fn f).nd m).rn/\yL (u.fn f) m b):=by
 constructor
 ·rintro⟨h1,h2,h3,h4,b,h5,h6⟩;exact⟨FT.ext h1 h2 h3,h4,b,h5,h6⟩
 ·rintro⟨rfl,h4,b,h5,h6⟩;exact⟨rfl,rfl,rfl,h4,b,h5,h6⟩
theorem zz9{u:UD}{f m:Nat}(y:FT):Ap u f m ((u.fn f).nd m).rn y↔Ap u f (m+1) 0 y:=by
 constructor
 ·rintro(⟨x,h,h'⟩|h)
  ·exact .inl ⟨x,by omega,h'⟩
  ·exact .inl ⟨m,by omega,(ZU y).2 h⟩
 ·rintro(⟨x,h,h'⟩|⟨_,_,b,h,_⟩)
  ·by_cases e:x=m
   ·subst e;exact .inr ((ZU y).1 h')
   ·exact .inl ⟨x,by omega,h'⟩
  ·omega
theorem zn0{u:UD}{f m:Nat}(hd:¬rY ((u.fn f).nd m).k)(y:FT):Ap u f m 0 y↔Ap u f (m+1) 0 y:=by
 constructor
 ·rintro(⟨x,h,h'⟩|⟨_,_,b,h,_⟩)
  ·exact .inl ⟨x,by omega,h'⟩
  ·omega
 ·rintro(⟨x,h,h'⟩|⟨_,_,b,h,_⟩)
  ·by_cases e:x=m
   ·subst e;exact absurd h'.2.2.2.1 hd
   ·exact .inl ⟨x,by omega,h'⟩
  ·omega
theorem ya2{u:UD}{f n:Nat}(y:FT):Ap u f n 0 y↔∃x,x<n/\Hu u f x y:=by
 constructor
 ·rintro(h|⟨_,_,b,h,_⟩)
  ·exact h
  ·omega
 ·exact .inl
noncomputable def Pq(k:Int):Bool:=dB (rY k)
theorem jc5(k:Int):setB 4484 k=Pq k:=by
 have h:=Ee 4484 (by decide) (fun k=>k==2 || k==7 || k==8 || k==12) (by decide) (fun k h=>by simp at h;omega) k;rw[h];unfold Pq;by_cases c:rY k
 ·rw[pU c];unfold rY at c;simp;omega
 ·rw[q30 c];unfold rY at c;simp;omega
theorem SS.far{C:CX}{st:List Int}{ins:Nat}{x:FT}{a:Option Addr}{cap:Nat}{w:World}(h:SS C st ins x a cap w){B:Nat}(h0:C.w0.heap.size<=B)(h1:B≠C.S)(h2:B≠C.T)(h3:ig a≠some B)(o:Nat)(v:Value):SS C st ins x a cap (w.setCell ⟨B,o,none⟩ v):=by
 have hk:∀k,k≠B->(w.setCell ⟨B,o,none⟩ v).heap[k]?=w.heap[k]?:=fun k hk=>aK w ⟨B,o,none⟩ v k hk;exact⟨h.box.block (by simp) (hk _ (bK h1)),World.rowIs.of_block h.tm (hk _ (bK h2)),qm4 h.sk (fun k e=>hk k (fun c=>h3 (c ▸ e))),h.rg,h.sT,h.sa,h.ta,h.nS,h.nT,og h.b h0 _⟩
theorem Mv.new{S T:Nat}{a a':Option Addr}{w w':World}(h:Mv S T a w a' w'){B:Nat}(hB:w.heap.size<=B)(o:Nat)(v:Value):Mv S T a w a' (w'.setCell ⟨B,o,none⟩ v):=
 ⟨⟨h.kp.os,h.kp.tape,h.kp.output,by have:=h.kp.size;simpa using this,fun k hk h1 h2 h3=>(aK w' ⟨B,o,none⟩ v k (by show k≠B;omega)).trans (h.kp.block k hk h1 h2 h3)⟩,h.nw⟩
theorem SS.c6{C:CX}{st:List Int}{ins:Nat}{x:FT}{a:Option Addr}{cap:Nat}{w:World}(h:SS C st ins x a cap w):w.cell? ⟨C.S,6,none⟩=some (.slice C.fa.va C.d.vn C.fa.vc):=h.box.1.cell 6 rfl
theorem SS.c4{C:CX}{st:List Int}{ins:Nat}{x:FT}{a:Option Addr}{cap:Nat}{w:World}(h:SS C st ins x a cap w):w.cell? ⟨C.S,4,none⟩=some (.int .i64 C.d.params):=h.box.1.cell 4 rfl
structure DT(C:CX)(st:List Int)(ins:Nat)(D m j:Nat)(x:FT)(a:Option Addr)(cap:Nat)(w:World):Prop where
 ss:SS C st ins x a cap w
 row:kM w D C.d m j
 far:D≠C.S/\D≠C.T/\ig a≠some D
 ge:C.w0.heap.size<=D
 lt:D<w.heap.size
theorem DT.alloc{C:CX}{st:List Int}{ins:Nat}{D m j:Nat}{x:FT}{a:Option Addr}{cap:Nat}{w:World}(h:DT C st ins D m j x a cap w)(o:Obj):DT C st ins D m j x a cap (w.alloc o):=⟨h.ss.alloc o,h.row.below (q01 _ _),h.far,h.ge,by have:=h.lt;simp;omega⟩
theorem DT.note{C:CX}{st:List Int}{ins:Nat}{D m j:Nat}{x:FT}{a:Option Addr}{cap:Nat}{w:World}(h:DT C st ins D m j x a cap w){x':FT}{w':World}(hn:NK C st ins x' a cap w w'):DT C st ins D m j x' a cap w':=
 ⟨hn.1,World.rowIs.of_block h.row (hn.2.kp.block D h.lt h.far.1 h.far.2.1 h.far.2.2),h.far,h.ge,aH h.lt hn.2.kp.size⟩
theorem DT.same{C:CX}{st:List Int}{ins:Nat}{D m j m' j':Nat}{x:FT}{a:Option Addr}{cap:Nat}{w:World}(h:DT C st ins D m j x a cap w)(e:∀v:Nat,pR C.d m j v↔pR C.d m' j' v):DT C st ins D m' j' x a cap w:=⟨h.ss,h.row.congr e,h.far,h.ge,h.lt⟩
theorem DT.set{C:CX}{st:List Int}{ins:Nat}{D m j:Nat}{x:FT}{a:Option Addr}{cap:Nat}{w:World}(h:DT C st ins D m j x a cap w){y:Nat}(hy:(C.d.nd m).r j=y):DT C st ins D m (j+1) x a cap (w.setCell ⟨D,y,none⟩ (.bool true)):=⟨h.ss.far h.ge h.far.1 h.far.2.1 h.far.2.2 _ _,h.row.set hy,h.far,h.ge,by have:=h.lt;simpa using this⟩
theorem DT.skip{C:CX}{st:List Int}{ins:Nat}{D m j:Nat}{x:FT}{a:Option Addr}{cap:Nat}{w:World}(h:DT C st ins D m j x a cap w)(e:∀v:Nat,v<C.d.vn->(C.d.nd m).r j=v->pR C.d m j v):DT C st ins D m (j+1) x a cap w:=⟨h.ss,World.rowIs.congr h.row fun i hi=>by
 have h1:pR C.d m (j+1) i↔pR C.d m j i:=by
  rw[mZ];exact⟨fun h=>h.elim id (e i hi),.inl⟩
 by_cases c:pR C.d m j i
 ·rw[pU c,pU (h1.2 c)]
 ·rw[q30 c,q30 (fun c'=>c (h1.1 c'))],h.far,h.ge,h.lt⟩
theorem ql5(C:CX)(hC:C.ok)(hvn:C.d.vn<=200)(hpp:0<=C.d.params/\C.d.params<=C.d.vn)(st:List Int)(ins:Nat)(x:FT)(a:Option Addr)(cap:Nat)(P:FT->Prop)(w:World)(hS:SS C st ins x a cap w)(hL:Least P x):Calls Tryz.prog 140 #[.pointer (some ⟨C.S,0,none⟩)] w fun e w'=>e=.returned (.tuple #[])/\mg C st ins (fun y=>P y\/∃z,z<C.d.nn/\Hu C.u C.f z y) a w w':=by
 have HS:Hid (SS C st ins x a cap w):=hS;have HL:Hid (Least P x):=hL;have HC:Hid C.ok:=hC;have hnn:=hC.nn;obtain⟨p,hp⟩:∃p:Nat,C.d.params=p:=⟨C.d.params.toNat,by omega⟩;have hpn:p<=C.d.vn:=by omega
 have YG:Hid (C.d.params=p):=hp;have c6:=hS.c6;have c4:=hS.c4;have c8:=hS.c8;have gK:=hS.lt;rw[hp] at c4;obtain⟨o1,o2,o3⟩:=hS.other (ah w.heap.size);have HO:Hid (w.heap.size≠C.S/\w.heap.size≠C.T/\ig a≠some w.heap.size):=⟨o1,o2,o3⟩;have hge:C.w0.heap.size<=w.heap.size:=hS.b.size;have hmk:=fun v=>run_make_row' (P:=Tryz.prog) 218 4 (.bool false) 1 Tryz.underlying218 Zk rfl .i64 .i64 C.d.vn (by omega) (by omega) v;go_in;go_wp2_with fail;obtain⟨w1,fQ⟩:∃w1,w1=w.alloc (.cells (madeCells #[.bool false] C.d.vn) 4):=⟨_,rfl⟩;have qc:Hid (SS C st ins x a cap w1):=by show SS _ _ _ _ _ _ _;rw[fQ];exact HS.alloc _
 have AZ:Hid (Mv C.S C.T a w a w1):=by show Mv _ _ _ _ _ _;rw[fQ];exact(Mv.refl _ _ _ _).alloc _
 have gW:Hid (w1.rowIs w.heap.size 4 C.d.vn (fun i=>.bool (decide (i<0)))):=by
  show World.rowIs _ _ _ _ _;rw[fQ];exact NG w (.bool false) 4 rfl
 rw[<-fQ]
 go_loopw [20] (fun i wr=>∃(k:Nat),k<=p/\i=.int .i64 k/\Hid (SS C st ins x a cap wr)/\Hid (wr.rowIs w.heap.size 4 C.d.vn (fun i=>.bool (decide (i<k))))/\Hid (Mv C.S C.T a w a wr)) (fun i _=>p-(intOf i).toNat)
 case atStart=>exact⟨0,aF _,rfl,qc,gW,AZ⟩
 case round=>
  obtain⟨k,hk,rfl,AX,HRk,Ql⟩:=hrel;by_cases hkp:k<p
  ·have r0:=World.rowIs.cell HRk.out (i:=k) (by omega);have rz:=World.rowIs.frozen HRk.out;have HR2:Hid ((wr.setCell ⟨w.heap.size,k,none⟩ (.bool true)).rowIs w.heap.size 4 C.d.vn (fun i=>.bool (decide (i<k+1)))):=(World.rowIs.set HRk.out k _).congr fun i _=>by
    by_cases e:i=k
    ·subst e;rw[aO rfl,bJ (by omega)]
    ·rw[au e];by_cases c:i<k
     ·rw[bJ c,bJ (by omega)]
     ·rw[bP c,bP (by omega)]
   have HS2:Hid (SS C st ins x a cap (wr.setCell ⟨w.heap.size,k,none⟩ (.bool true))):=AX.far hge HO.1 HO.2.1 HO.2.2 _ _;have wo:Hid (Mv C.S C.T a w a (wr.setCell ⟨w.heap.size,k,none⟩ (.bool true))):=Ql.new (ah _) _ _;go_wp2_with fail;go_roundw
   case rel=>exact⟨k+1,by omega,by go_num,HS2,HR2,wo⟩
   case measure=>simp[intOf];omega
  ·obtain rfl:k=p:=by omega
   have HD1:Hid (DT C st ins w.heap.size 0 0 x a cap wr):=⟨AX.out,World.rowIs.congr HRk.out fun i _=>by
    have h:=zy5 YG.out i;by_cases c:i<k
    ·rw[bJ c,pU (h.1 c)]
    ·rw[bP c,q30 (fun h'=>c (h.2 h'))],HO.out,hge,World.rowIs.lt HRk.out⟩
   have c8:=AX.c8;have HMw:=Ql;go_wp2_with fail
   go_loopw [33] (fun i wr=>∃(m:Nat) (x':FT),m<=C.d.nn/\i=.int .i64 m/\Hid (DT C st ins w.heap.size m 0 x' a cap wr)/\Hid (Least (fun y=>P y\/Ap C.u C.f m 0 y) x')/\Hid (Mv C.S C.T a w a wr)) (fun i _=>C.d.nn-(intOf i).toNat)
   case atStart=>exact⟨0,x,aF _,rfl,HD1,HL.congr fun y=>⟨.inl,fun h=>h.resolve_right (zz8 _ _ _)⟩,HMw⟩
   case round=>
    obtain⟨m,x',hm,rfl,HD,YK,HM⟩:=hrel;by_cases hmn:m<C.d.nn
    ·obtain⟨b,off,e0,_,hb,d0,d1,d2,d3,d4,d5,d6,d7⟩:=jU ((HD.ss.fns HC.out).2 C.f HC.f).2.2.1 hmn;rw[show C.fas C.f=C.fa from rfl] at e0;rw[e0];have hset:setB 4484 ((C.u.fn C.f).nd m).k=Pq ((C.u.fn C.f).nd m).k:=jc5 _;have hrn:=HC.rn hmn;obtain⟨b2,o2,e2⟩:∃b2 o2,0<(C.d.nd m).rn->(C.fa.nas m).ra=some ⟨b2,o2,none⟩:=by
      by_cases c:0<(C.d.nd m).rn
      ·obtain⟨b2,o2,e2,_⟩:=(((HD.ss.fns HC.out).2 C.f HC.f).2.2.2 m hmn).1 c;exact⟨b2,o2,fun _=>e2⟩
      ·exact⟨0,0,fun h=>absurd h c⟩
     have HE2:Hid (0<(C.d.nd m).rn->(C.fa.nas m).ra=some ⟨b2,o2,none⟩):=e2;have HD2:Hid (DT C st ins w.heap.size m 0 x' a cap (wr.alloc (.cells (kQ ((C.u.fn C.f).nd m) ((C.fas C.f).nas m)) 48))):=HD.alloc _;have wo:Hid (Mv C.S C.T a w a (wr.alloc (.cells (kQ ((C.u.fn C.f).nd m) ((C.fas C.f).nas m)) 48))):=HM.alloc _
     rename World=>wa
     by_cases hdk:rY ((C.u.fn C.f).nd m).k
     ·rw[show Pq ((C.u.fn C.f).nd m).k=true from pU hdk] at hset;have HDK:Hid (rY ((C.u.fn C.f).nd m).k):=hdk;go_wp2_with (go_at_call 123;refine(Di 4484 (by decide) _ _).mono ?_;rw[hset];rintro e w2 ⟨rfl,rfl⟩)
      go_loopw [45] (fun i wr=>∃(j:Nat) (x'':FT),j<=(C.d.nd m).rn/\i=.int .i64 j/\Hid (DT C st ins w.heap.size m j x'' a cap wr)/\Hid (Least (fun y=>P y\/Ap C.u C.f m j y) x'')/\Hid (Mv C.S C.T a w a wr)) (fun i _=>(C.d.nd m).rn-(intOf i).toNat)
      case atStart=>exact⟨0,x',aF _,rfl,HD2,YK,wo⟩
      case round=>
       obtain⟨j,x'',hj,rfl,Fb,HLj,Uc⟩:=hrel;by_cases hjn:j<(C.d.nd m).rn
       ·obtain⟨b3,o3,e3,_,eH,g0⟩:=jd (((Fb.ss.fns HC.out).2 C.f HC.f).2.2.2 m hmn).1 hjn;rw[e3];have HR:Hid (((C.u.fn C.f).nd m).r j=(C.d.nd m).r j):=rfl;by_cases hin:lI ((C.d.nd m).r j) C.d.vn
        ·have hw:ou ((C.d.nd m).r j) (C.d.vn:Int)=true:=by unfold ou;have:=hin.1;have:=hin.2;simp;omega
         obtain⟨y,hy⟩:∃y:Nat,(C.d.nd m).r j=y:=⟨((C.d.nd m).r j).toNat,by have:=hin.1;omega⟩;have hyn:y<C.d.vn:=by have:=hin.2;omega
         have HY:Hid ((C.d.nd m).r j=(y:Int)):=hy;have HI:Hid (lI ((C.d.nd m).r j) C.d.vn):=hin;rw[show((C.u.fn C.f).nd m).r j=(y:Int) from hy] at g0;rw[hy] at hw;have r0:=World.rowIs.cell Fb.row (i:=y) hyn;have rz:=World.rowIs.frozen Fb.row;by_cases hsn:pR C.d m j y
         ·rw[pU hsn] at r0;have HB:Hid (yL (C.u.fn C.f) m j):=fun h=>h.2 (by rw[show((C.u.fn C.f).nd m).r j=(y:Int) from HY.out];exact hsn);have HV:Hid (∀v:Nat,v<C.d.vn->(C.d.nd m).r j=v->pR C.d m j v):=fun v _ hv=>by rw[<-hv,HY.out];exact hsn
          go_wp2_with (first|(go_at_call 141;refine(rJ _ _ _).mono ?_;rw[hw];rintro e w2 ⟨rfl,rfl⟩)|(go_at_call 164;refine(En C st ins x'' a cap 6 m _ Fb.ss).mono ?_;rintro e w3 ⟨rfl,hn3⟩;have Qi:Hid (NK C st ins (wJ x'' ⟨6,C.f,m⟩) a cap _ w3):=hn3));go_roundw
          case rel=>exact⟨j+1,_,by omega,by go_num,(Fb.note Qi.out).skip HV.out,(HLj.note (b:=⟨6,C.f,m⟩) (by show(0:Nat)<6;omega)).congr fun y=>by rw[ZV HDK.out HB.out,or_assoc],Uc.trans Qi.2⟩
          case measure=>simp[intOf];omega
         ·rw[q30 hsn] at r0;have HB:Hid (¬yL (C.u.fn C.f) m j):=fun h=>h ⟨HI.out,by rw[show((C.u.fn C.f).nd m).r j=(y:Int) from HY.out];exact hsn⟩;go_wp2_with (go_at_call 141;refine(rJ _ _ _).mono ?_;rw[hw];rintro e w2 ⟨rfl,rfl⟩);go_roundw
          case rel=>exact⟨j+1,x'',by omega,by go_num,Fb.set HY.out,HLj.congr fun y=>by rw[yk5 HB.out],Uc.new (ah _) _ _⟩
          case measure=>simp[intOf];omega
        ·have hw:ou (((C.u.fn C.f).nd m).r j) (C.d.vn:Int)=false:=by
          have h:¬lI (((C.u.fn C.f).nd m).r j) C.d.vn:=hin;unfold ou lI at *;simp;omega
         have HB:Hid (yL (C.u.fn C.f) m j):=fun h=>hin h.1;have HV:Hid (∀v:Nat,v<C.d.vn->(C.d.nd m).r j=v->pR C.d m j v):=fun v hv he=>absurd (⟨by omega,by omega⟩:lI ((C.d.nd m).r j) C.d.vn) hin;go_wp2_with (first|(go_at_call 141;refine(rJ _ _ _).mono ?_;rw[hw];rintro e w2 ⟨rfl,rfl⟩)|(go_at_call 164;refine(En C st ins x'' a cap 6 m _ Fb.ss).mono ?_;rintro e w3 ⟨rfl,hn3⟩;have Qi:Hid (NK C st ins (wJ x'' ⟨6,C.f,m⟩) a cap _ w3):=hn3));go_roundw
         case rel=>exact⟨j+1,_,by omega,by go_num,(Fb.note Qi.out).skip HV.out,(HLj.note (b:=⟨6,C.f,m⟩) (by show(0:Nat)<6;omega)).congr fun y=>by rw[ZV HDK.out HB.out,or_assoc],Uc.trans Qi.2⟩
         case measure=>simp[intOf];omega
       ·obtain rfl:j=(C.d.nd m).rn:=by omega
        go_wp2_with fail;go_roundw
        case rel=>exact⟨m+1,x'',by omega,by go_num,Fb.same (fun v=>by rw[z32,y70];exact⟨fun h=>h.elim .inl fun h=>.inr ⟨HDK,h⟩,fun h=>h.elim .inl fun h=>.inr h.2⟩),HLj.congr fun y=>or_congr Iff.rfl (zz9 y),Uc⟩
        case measure=>simp[intOf];omega
     ·rw[show Pq ((C.u.fn C.f).nd m).k=false from q30 hdk] at hset;have HDK:Hid (¬rY ((C.u.fn C.f).nd m).k):=hdk;go_wp2_with (go_at_call 123;refine(Di 4484 (by decide) _ _).mono ?_;rw[hset];rintro e w2 ⟨rfl,rfl⟩);go_roundw
      case rel=>exact⟨m+1,x',by omega,by go_num,HD2.same (fun v=>by rw[z32];exact⟨.inl,fun h=>h.resolve_right fun h=>HDK.out h.1⟩),YK.congr fun y=>or_congr Iff.rfl (zn0 HDK y),wo⟩
      case measure=>simp[intOf];omega
    ·obtain rfl:m=C.d.nn:=by omega
     go_wp2_with fail;go_end0;exact⟨rfl,x',a,cap,HD.ss,YK.congr fun y=>by rw[ya2],HM.out⟩
theorem zp0(k:Nat):yS (k+1)=yS k++[(k:Int)]:=by unfold yS;rw[bU,bH];rfl
theorem z55(k:Nat):(yS k).length=k:=by simp[yS]
theorem yv6{k vn:Nat}(h:k<vn):pK (fun _=>(k:Int)) vn 1=[(k:Int)]:=by
 rw[y45 (j:=0) ⟨by omega,by omega⟩,z71];rfl
theorem oN.one{C:CX}{st:List Int}{ins:Nat}{x:FT}{a:Option Addr}{cap:Nat}{w:World}(h:SS C st ins x a cap w)(k:Nat):oN C a (w.alloc (.cells #[.int .i64 (k:Int)] 3)) (some ⟨w.heap.size,0,none⟩) 1 (fun _=>(k:Int)):=by
 refine⟨fun _=>⟨w.heap.size,0,rfl,aF _,by simp,fun i hi j hj=>?_⟩,fun _ b off e=>?_⟩
 ·obtain rfl:i=0:=by omega
  obtain rfl:j=0:=by omega
  simp
 ·cases e;exact h.other (ah _)
def z61(C:CX)(e:Ending)(w':World):Prop:=∃x,e=.returned (nC x)/\Least (z22 C.u C.f) x/\gZ C.w0 w'
theorem zi1(C:CX)(hC:C.ok)(hvn:C.d.vn<=200)(hpp:0<=C.d.params/\C.d.params<=C.d.vn)(w:World)(hS:SS C [] 0 oI none 0 w):Calls Tryz.prog 82 #[.pointer (some ⟨C.S,0,none⟩)] w fun e w'=>z61 C e w':=by
 have HS:Hid (SS C [] 0 oI none 0 w):=hS;have HC:Hid C.ok:=hC;have hnn:=hC.nn;obtain⟨p,hp⟩:∃p:Nat,C.d.params=p:=⟨C.d.params.toNat,by omega⟩;have hpn:p<=C.d.vn:=by omega
 have YG:Hid (C.d.params=p):=hp;have HPQ:Hid (0<=C.d.params/\C.d.params<=C.d.vn):=hpp;have c4:=hS.c4;have gK:=hS.lt;rw[hp] at c4;have HO:Hid (w.heap.size≠C.S/\w.heap.size≠C.T/\ig none≠some w.heap.size):=hS.other (ah w.heap.size);have YR:Hid (C.w0.heap.size<=w.heap.size):=hS.b.size;go_in;go_wp2_with fail;obtain⟨w1,fQ⟩:∃w1,w1=w.alloc (.cells #[.int .i64 0,.int .i64 0,.int .i64 0] 64):=⟨_,rfl⟩;have qc:Hid (SS C [] 0 oI none 0 w1):=by show SS _ _ _ _ _ _ _;rw[fQ];exact HS.alloc _
 have gW:Hid (w1.rowIs w.heap.size 64 3 (fun _=>.int .i64 0)):=by
  show World.rowIs _ _ _ _ _;rw[fQ];exact World.rowIs_alloc w #[.int .i64 0,.int .i64 0,.int .i64 0] 64 (fun _=>.int .i64 0) (fun i hi=>by
   have:i=0\/i=1\/i=2:=by simp at hi;omega
   rcases this with rfl|rfl|rfl<;>rfl)
 have hl1:w.heap.size<w1.heap.size:=World.rowIs.lt gW.out;rw[<-fQ]
 go_loopw [9] (fun i wr=>∃(k:Nat) (a':Option Addr) (cap':Nat),k<=p/\i=.int .i64 k/\Hid (SS C (yS k) 0 oI a' cap' wr)/\Hid (Mv C.S C.T none w1 a' wr)) (fun i _=>p-(intOf i).toNat)
 case atStart=>exact⟨0,none,0,aF _,rfl,qc,Mv.refl _ _ _ _⟩
 case round=>
  obtain⟨k,a',cap',hk,rfl,AX,Ql⟩:=hrel;by_cases hkp:k<p
  ·have HV:Hid (pK (fun _=>(k:Int)) C.d.vn 1=[(k:Int)]):=yv6 (by omega);go_wp2_with (go_at_call 138;refine(WM C (yS k) 0 oI a' cap' _ 1 1 (fun _=>(k:Int)) _ (by omega) (by rw[z55];omega) (AX.alloc _) (oN.one AX.out k)).mono ?_;rintro e w9 ⟨rfl,⟨a9,yC,hs9,LC⟩⟩;rw[HV.out,<-zp0] at hs9;have Q9:Hid (SS C (yS (k+1)) 0 oI a9 yC w9):=hs9;have Qn:Hid (Mv C.S C.T a' _ a9 w9):=LC);go_roundw
   case rel=>exact⟨k+1,a9,yC,by omega,by go_num,Q9,Ql.trans Qn.first⟩
   case measure=>simp[intOf];omega
  ·obtain rfl:k=p:=by omega
   have c8:=AX.c8;obtain⟨q,hq⟩:∃q:Nat,C.d.nn=q+1:=⟨C.d.nn-1,by omega⟩;have hroot:C.d.nn-1=q:=by omega
   have HVP:Hid (jV C q (yS k) 0 oI a' cap' (fun _=>False) wr):=⟨AX.out,by omega,by rw[<-hroot];exact ji.root HC.tree YG.out,⟨fun h=>absurd h (by omega),fun h=>absurd (by rw[hroot];exact h) (yI.root HC.tree)⟩,by rw[z55];omega,by omega,Least.zero (fun _ h=>h)⟩;have HLV:Hid (leaves C q=[]):=by
    show leaves C q=[];have h:=HC.tree.last;unfold leaves;rw[<-hroot,au (by omega)]
   have Ub:Hid (∀y,((False\/nX C.u C.f q y)\/∃z,z<C.d.nn/\Hu C.u C.f z y)↔z22 C.u C.f y):=fun y=>by
    rw[<-hroot,show C.d.nn=(C.u.fn C.f).nn from rfl,zz6 C.u C.f HC.tree];unfold z22;constructor
    ·rintro((h|⟨z,h1,h2⟩)|⟨z,h1,h2⟩)
     ·exact h.elim
     ·exact⟨z,h1,.inl h2⟩
     ·exact⟨z,h1,.inr h2⟩
    ·rintro⟨z,h1,h2|h2⟩
     ·exact .inl (.inr ⟨z,h1,h2⟩)
     ·exact .inr ⟨z,h1,h2⟩
   rw[hq] at c8;have HVA:Hid (wL C q):=y46 C HC.out q (by omega);have hq3:q<3000:=by omega
   go_wp2_with (first|(go_at_call 139;refine(HVA _ _ _ _ _ _ _ HVP).mono ?_;rintro e w7 ⟨rfl,⟨x7,a7,wV,hs7,Js,sH⟩⟩;rw[HLV.out,bM] at hs7;have Af:Hid (SS C (yS k) 0 x7 a7 wV w7):=hs7;have Qr:Hid (Least (fun y=>False\/nX C.u C.f q y) x7):=Js;have Qo:Hid (Mv C.S C.T a' wr a7 w7):=sH)|(go_at_call 140;refine(ql5 C HC hvn HPQ (yS k) 0 x7 a7 wV _ _ Af Qr).mono ?_;rintro e w8 ⟨rfl,⟨x8,a8,Yf,hs8,hl8,hm8⟩⟩;have U2:Hid (SS C (yS k) 0 x8 a8 Yf w8):=hs8;have HL8:Hid (Least (z22 C.u C.f) x8):=Least.congr hl8 Ub.out;have HM8:Hid (Mv C.S C.T none w1 a8 w8):=(Ql.trans Qo.out).trans hm8;have c51:=U2.c51;have LU:=U2.LU;have c53:=U2.c53;have DC:Hid (w8.rowIs w.heap.size 64 3 (fun _=>.int .i64 0)):=World.rowIs.of_block gW.out (HM8.kp.block w.heap.size hl1 HO.1 HO.2.1 HO.2.2);have s0:=World.rowIs.cell DC.out (i:=0) (by omega);have s1:=World.rowIs.cell DC.out (i:=1) (by omega);have s2:=World.rowIs.cell DC.out (i:=2) (by omega);have sz:=World.rowIs.frozen DC.out));refine aG (v:=nC x8) (by simp[results,Tryz.results82,go_sem,s0,s1,s2]) rfl ?_;exact⟨x8,rfl,HL8,og (og (og U2.b YR _) YR _) YR _⟩
abbrev zH(w:World)(u:UD)(a:Option Addr)(cap:Nat):World:=((w.alloc (.cells #[.slice a u.n cap] 31)).alloc (.cells #[.int .i64 0,.int .i64 0,.int .i64 0] 64)).alloc (.cells #[.int .i64 0,.int .i64 0,.int .i64 0] 64)
abbrev EN(x:FT):Array Value:=#[.int .i64 (x.c:Int),.int .i64 (x.f:Int),.int .i64 (x.n:Int)]
theorem Zu{w wr:World}{u:UD}{a:Option Addr}{cap:Nat}(h:Below (w.heap.size+1 + 1) (zH w u a cap) wr):gZ w wr:=(xW w _ _ _).trans (h.mono (by omega))
theorem zG{w wr:World}{u:UD}{a:Option Addr}{cap:Nat}(h:Below (w.heap.size+1 + 1) (zH w u a cap) wr):wr.cell? ⟨w.heap.size,0,none⟩=some (.slice a u.n cap):=(h.cell (p:=⟨w.heap.size,0,none⟩) (by show w.heap.size < _;omega)).trans (((Has.new w #[.slice a u.n cap] 31).alloc _).alloc _ |>.cell 0 rfl)
theorem QL{w wr:World}{u:UD}{a:Option Addr}{cap:Nat}(h:Below (w.heap.size+1 + 1) (zH w u a cap) wr):wr.rowIs (w.heap.size+1) 64 3 (fun _=>.int .i64 0):=by
 have h1:=(World.rowIs_alloc (w.alloc (.cells #[.slice a u.n cap] 31)) #[.int .i64 0,.int .i64 0,.int .i64 0] 64 (fun _=>.int .i64 0) (fun i hi=>by
  have:i=0\/i=1\/i=2:=by simp at hi;omega
  rcases this with rfl|rfl|rfl<;>rfl)).alloc (.cells #[.int .i64 0,.int .i64 0,.int .i64 0] 64)
 rw[show(w.alloc (.cells #[.slice a u.n cap] 31)).heap.size=w.heap.size+1 by simp] at h1;exact h1.of_block (h.block _ (by omega))
theorem zf2{w wr:World}{u:UD}{a:Option Addr}{cap:Nat}(h:Below (w.heap.size+1 + 1) (zH w u a cap) wr)(v0 v1 v2:Value):gZ w (((wr.setCell ⟨w.heap.size+1,0,none⟩ v0).setCell ⟨w.heap.size+1,1,none⟩ v1).setCell ⟨w.heap.size+1,2,none⟩ v2):=og (og (og (Zu h) (aZ _ _) _) (aZ _ _) _) (aZ _ _) _
theorem OwnB.wW{w w':World}{B:Nat}{A:Array Value}(h:OwnB w B A)(hb:gZ w w'):OwnB w' B A:=h.block hb.size (hb.block _ h.1.1)
theorem OwnB.ft{w:World}{B:Nat}{x:FT}(h:OwnB w B (EN x))(y:FT):OwnB (((w.setCell ⟨B,0,none⟩ (.int .i64 (y.c:Int))).setCell ⟨B,1,none⟩ (.int .i64 (y.f:Int))).setCell ⟨B,2,none⟩ (.int .i64 (y.n:Int))) B (EN y):=
 ((h.set (o:=0) (by show 0<3;omega) _).set (o:=1) (by show 1<3;omega) _).set (o:=2) (by show 2<3;omega) _
theorem ya0(u:UD)(k:Nat)(y:FT):((∃g,g<k/\z22 u g y)\/z22 u k y)↔∃g,g<k+1/\z22 u g y:=by
 constructor
 ·rintro(⟨g,h1,h2⟩|h)
  ·exact⟨g,by omega,h2⟩
  ·exact⟨k,by omega,h⟩
 ·rintro⟨g,h1,h2⟩;by_cases e:g=k
  ·subst e;exact .inr h2
  ·exact .inl ⟨g,by omega,h2⟩
def y35:Prop:=∀(L:Nat) (u:UD) (a:Option Addr) (cap:Nat) (fas:Nat->FA) (w:World),u.sm->U5 u->(∀i,i<u.n->qj (u.fn i) (fas i))->jh L w u.n u.fn a fas->
 Calls Tryz.prog 44 #[vN u a cap] w fun e w'=>iG (Ai u) w e w'
theorem qr2:y35:=by
 intro L u a cap fas w hs h5 hcf hT;have HT:Hid (jh L w u.n u.fn a fas):=hT;have HS:Hid u.sm:=hs;have H5:Hid (U5 u):=h5;have HCF:Hid (∀i,i<u.n->qj (u.fn i) (fas i)):=hcf;have hun:=h5.size.2.1;go_in;go_wp2_with fail;obtain⟨w3,fV⟩:∃w3,w3=zH w u a cap:=⟨_,rfl⟩;have HB3:Hid (Below (w.heap.size+1 + 1) (zH w u a cap) w3):=by show Below _ _ _;rw[fV];exact ay _ _
 have HO3:Hid (OwnB w3 (w.heap.size+1 + 1) (EN oI)):=by
  show OwnB _ _ _;rw[fV];have h:=OwnB.new ((w.alloc (.cells #[.slice a u.n cap] 31)).alloc (.cells #[.int .i64 0,.int .i64 0,.int .i64 0] 64)) #[.int .i64 0,.int .i64 0,.int .i64 0] 64;rw[show((w.alloc (.cells #[.slice a u.n cap] 31)).alloc (.cells #[.int .i64 0,.int .i64 0,.int .i64 0] 64)).heap.size=w.heap.size+1 + 1 by simp] at h;exact h
 simp only[zH] at fV;rw[<-fV]
 go_loopw [9] (fun i wr=>∃(k:Nat) (x:FT),k<=u.n/\i=.int .i64 k/\Hid (Least (fun y=>∃g,g<k/\z22 u g y) x)/\Hid (OwnB wr (w.heap.size+1 + 1) (EN x))/\Hid (Below (w.heap.size+1 + 1) (zH w u a cap) wr)) (fun i _=>u.n-(intOf i).toNat)
 case atStart=>exact⟨0,oI,aF _,rfl,Least.zero (fun y ⟨g,hg,_⟩=>by omega),HO3,HB3⟩
 case round=>
  obtain⟨k,x,hk,rfl,HL,HO,HB⟩:=hrel;have u0:=zG HB.out;have f0:=HO.1.cell 0 rfl;have f1:=HO.1.cell 1 rfl;have f2:=HO.1.cell 2 rfl;have z:=HO.2;have gK:=HO.1.1;have hl0:=HO.1.1;have pI:Hid (jh L wr u.n u.fn a fas):=HT.below (Zu HB.out);by_cases fE:k<u.n
  ·have hh:=H5.toU3.head k fE;have YH:Hid (∀(S T:Nat),CX.ok ⟨S,T,L,wr.drew,u,k,a,cap,fas⟩):=fun S T=>⟨H5.out,HS.out,fE,pI.out,HCF.out k fE⟩
   go_upto_region 5 with fail
   go_region_with (first|(go_at_call 81;refine(qw2 L u k a cap fas _ fE hh.1.2.1 (by first|exact pI.out|exact pI.out)).mono ?_;rintro e w5 ⟨S,T,rfl,fP⟩;have DL:Hid (Below (w.heap.size+1 + 1) (zH w u a cap) w5):=HB.trans ((show gZ wr w5 from(ay _ _).drew.trans fP.b).mono (by omega));have Ky:Hid (OwnB w5 (w.heap.size+1 + 1) (EN x)):=HO.wW (show gZ wr w5 from(ay _ _).drew.trans fP.b);have hf5:=fun h1 h2 h3=>zi1 _ h1 h2 h3 _ fP;have DJ:Hid (Calls Tryz.prog 82 #[.pointer (some ⟨S,0,none⟩)] w5 fun e w'=>z61 ⟨S,T,L,wr.drew,u,k,a,cap,fas⟩ e w'):=hf5 (YH.out S T) hh.1.2.1 hh.1.2.2.2;have f0:=Ky.1.cell 0 rfl;have f1:=Ky.1.cell 1 rfl;have f2:=Ky.1.cell 2 rfl;have z:=Ky.2;have gK:=Ky.1.1;have u0:=zG DL.out)|(go_at_call 82;refine DJ.mono ?_;rintro e w6 ⟨x6,rfl,Du,eY⟩;have Me:Hid (Least (z22 u k) x6):=Du;have yJ:Hid (Below (w.heap.size+1 + 1) (zH w u a cap) w6):=HB.trans ((show gZ wr w6 from(ay _ _).drew.trans eY).mono (by omega));have Ag:Hid (OwnB w6 (w.heap.size+1 + 1) (EN x)):=HO.wW (show gZ wr w6 from(ay _ _).drew.trans eY);have f0:=Ag.1.cell 0 rfl;have f1:=Ag.1.cell 1 rfl;have f2:=Ag.1.cell 2 rfl;have z:=Ag.2;have gK:=Ag.1.1;have u0:=zG yJ.out)|(go_at_call 80;refine(WE x x6 _).mono ?_;rintro e w7 ⟨rfl,hb7⟩;have xw:Hid (Below (w.heap.size+1 + 1) (zH w u a cap) w7):=yJ.trans (hb7.mono (by omega));have AY:Hid (OwnB w7 (w.heap.size+1 + 1) (EN x)):=Ag.wW hb7;have f0:=AY.1.cell 0 rfl;have f1:=AY.1.cell 1 rfl;have f2:=AY.1.cell 2 rfl;have z:=AY.2;have gK:=AY.1.1;have u0:=zG xw.out))
   all_goals go_wp2_with fail
   all_goals go_roundw
   all_goals first
    |exact⟨k+1,wJ x x6,by omega,by go_num,(HL.first Me.out).congr (ya0 u k),AY.ft _,og (og (og xw.out (ah _) _) (ah _) _) (ah _) _⟩
    |(simp[intOf];omega)
  ·obtain rfl:k=u.n:=by omega
   go_upto_region 7 with fail
   go_region_with (first|(go_at_call 83;refine(qr6 L u a cap fas _ HS.out H5.toU3 (by first|exact pI.out|exact pI.out)).mono ?_;rintro e w6 ⟨x6,rfl,Du,eY⟩;have Me:Hid (Least (z21 u) x6):=Du;have yJ:Hid (Below (w.heap.size+1 + 1) (zH w u a cap) w6):=HB.trans ((show gZ wr w6 from(ay _ _).drew.trans eY).mono (by omega));have Ag:Hid (OwnB w6 (w.heap.size+1 + 1) (EN x)):=HO.wW (show gZ wr w6 from(ay _ _).drew.trans eY);have f0:=Ag.1.cell 0 rfl;have f1:=Ag.1.cell 1 rfl;have f2:=Ag.1.cell 2 rfl;have z:=Ag.2;have gK:=Ag.1.1;have u0:=zG yJ.out)|(go_at_call 80;refine(WE x x6 _).mono ?_;rintro e w7 ⟨rfl,hb7⟩;have xw:Hid (Below (w.heap.size+1 + 1) (zH w u a cap) w7):=yJ.trans (hb7.mono (by omega));have AY:Hid (OwnB w7 (w.heap.size+1 + 1) (EN x)):=Ag.wW hb7;have f0:=AY.1.cell 0 rfl;have f1:=AY.1.cell 1 rfl;have f2:=AY.1.cell 2 rfl;have z:=AY.2;have gK:=AY.1.1;have u0:=zG xw.out;have s0:=World.rowIs.cell (QL xw.out) (i:=0) (by omega);have s1:=World.rowIs.cell (QL xw.out) (i:=1) (by omega);have s2:=World.rowIs.cell (QL xw.out) (i:=2) (by omega);have sz:=World.rowIs.frozen (QL xw.out)))
   all_goals go_wp2_with fail
   all_goals refine aG (v:=nC (wJ x x6)) (by simp[results,Tryz.results44,go_sem,s0,s1,s2]) rfl ?_
   all_goals exact iG.of ((HL.first Me.out).congr fun y=>y99 u y) (zf2 xw.out _ _ _)
end
end Go.Proofs.YthnkncpegihbhaaGreatDoor
