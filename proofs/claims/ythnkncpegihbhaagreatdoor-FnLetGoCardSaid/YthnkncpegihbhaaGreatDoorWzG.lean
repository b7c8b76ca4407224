import Derived.Test.YthnkncpegihbhaaGreatDoorWnC
import Derived.Test.YthnkncpegihbhaaGreatDoorWyM
import Derived.LoopIn
import Derived.LoopNIn
import Derived.OwnWalkIn
import Derived.RangeFuncBound
import Derived.RangeFuncCalls
import Derived.RangeFuncNested
import Derived.Shelf.Abstract
import Derived.TacticsInMore
import Derived.Test.YthnkncpegihbhaaGreatDoorXaB
import Derived.Test.YthnkncpegihbhaaGreatDoorXaF
import Derived.Test.YthnkncpegihbhaaGreatDoorXaMa
import Derived.Test.YthnkncpegihbhaaGreatDoorAfterI
set_option maxRecDepth 100000
set_option maxHeartbeats 16000000
namespace Go.Proofs.YthnkncpegihbhaaGreatDoor
section
open Go.RowKit
attribute [local go_sem] iD
attribute [local go_sem ↓] Go.wp_at_zero Go.wp_at_succ
theorem yp1(a:Option Addr)(n c:Nat)(h:n<=c)(ty:TypeId)(w:World):(Builtin.append_ #[119,119] ty #[.slice a n c,.slice none 0 0]).run Tryz.prog w=.ok (.slice a n c) w:=by
 have hl:∀w,(Builtin.lenOf (.slice none 0 0)).run Tryz.prog w=.ok 0 w:=fun w=>rfl
 cases a<;>simp[Builtin.append_,dn Tryz.underlying119,Result.andThen,hl,Builtin.firstCells,h,storeCells]
theorem zo6(X:RX)(d:MD)(u:World)(h:St X d u):Calls Tryz.prog 194 #[.pointer (some ⟨X.T,0,none⟩),.slice none 0 0] u fun e w'=>e=.returned (.tuple #[])/\Sp X d u d w':=by
 have c8:=h.t.1.cell 8 rfl;have z:=h.t.2;have gq:=yp1 d.ha d.held.length d.hc (z91 h.hr) 119 u;have HF:Hid (Sp X d u d (u.setCell ⟨X.T,8,none⟩ (.slice d.ha d.held.length d.hc))):=by
  have:=Sp.kH h (ah d.held.length);rw[List.take_length] at this;exact this
 go_in;go_wp2_with (at_builtin;refine um (by rfl) _ _ _ _ (by rfl) (.slice d.ha d.held.length d.hc) (.slice none 0 0) _ _ (by rfl) (by rfl) gq ?_);go_end0;exact⟨rfl,HF⟩
abbrev Yd(B1 B2:Nat):Value:=.func (.func 388) #[] #[.pointer (some ⟨B1,0,none⟩),.pointer (some ⟨B2,0,none⟩)]
theorem zq3(w:World):Calls Tryz.prog 358 #[.slice none 0 0,.int .i64 2] w fun e w'=>e=.returned (Yd w.heap.size (w.heap.size+1))/\OwnB w' w.heap.size #[.slice none 0 0]/\gZ w w':=by
 go_in;go_wp2_with fail;go_ret;exact⟨rfl,(OwnB.new _ _ _).iy (q01 _ _),(q01 _ _).alloc (by rw[aN];omega) _⟩
theorem yo4(l B1 B2:Nat)(J Jx:List (Fin 0)->World->Prop)(W:World)(c1:W.cell? ⟨B1,0,none⟩=some (.slice none 0 0))(h0:J [] W):CallsIn Fence.wide 2 Tryz.prog 388 #[.func (.yield l) #[] #[],.pointer (some ⟨B1,0,none⟩),.pointer (some ⟨B2,0,none⟩)] W fun e W'=>(∃v,e=.returned v)/\((∃ys,ys=[]/\J ys W')\/(∃pre,True/\Jx pre W')):=by
 have HJ:Hid (J [] W):=h0;refine dX Tryz.func388 rfl trivial ?_ rfl;simp only[Tryz.ntmps388,List.size_toArray,List.length_cons,List.length_nil,Nat.reduceAdd,Nat.reduceSub,Array.replicate_succ,Array.replicate_zero,List.push_toArray,List.append_toArray,List.nil_append,List.cons_append];gi_wp2
 gi_loopw [4] (fun i wr=>i=.int .i64 0/\Hid (wr=W)) (fun _ _=>0)
 case atStart=>exact⟨rfl,rfl⟩
 case round=>
  obtain⟨rfl,hw⟩:=hrel;obtain rfl:=hw.out;gi_wp2;go_end0;exact⟨⟨_,rfl⟩,.inl HJ⟩
section
variable {X:RX}{d d':MD}{u w w':World}
theorem Sp.ni{D:Nat}(h:Sp X d u d' w)(g:Gx (fun k=>k=D) w w')(hn:¬stB X d' D)(hD:u.heap.size<=D)(h0:St X d u):Sp X d u d' w':=
 ⟨h.s.besides g (fun k e=>by rw[e];exact hn) (fun k e=>by have:=h0.k.size;omega),h.g.trans g (fun k hk e=>by omega),h.mv⟩
theorem ye3(S:TS)(B':Nat->Nat)(j Bn:Nat):∃B'',({S with B:=B'}:TS).cut j (S.D j).n Bn={S with B:=B''}:=by
 refine⟨fun i=>if i=j then Bn else B' i,?_⟩;simp only[TS.cut,TS.mk.injEq,true_and,and_true];funext i;by_cases e:i=j
 ·subst e;simp
 ·simp[e]
def qL(S:TS)(kept k:Nat):TS:=if k=0 then S else S.cut 0 kept 0
theorem nJ.cut{S:TS}{n p kept:Nat}(h:nJ S n p)(hk:kept<=p)(B':Nat->Nat):nJ {S.cut 0 kept 0 with B:=B'} n kept:=by
 refine⟨h.nt,by simp[TS.cut],fun i hi=>?_,fun i hi=>?_,fun i hi=>?_,?_,?_,?_,fun j h1 h2=>?_,h.Jd,h.Jc⟩
 ·have:=h.k0 i (by omega);simpa[TS.cut] using this
 ·have:=h.v0 i (by omega);simpa[TS.cut] using this
 ·have:=h.t0 i (by omega);simpa[TS.cut] using this
 ·have:=h.p1;simpa[TS.cut] using this
 ·have:=h.k1;simpa[TS.cut] using this
 ·have:=h.v1;simpa[TS.cut] using this
 ·have:=h.pe j h1 h2;have hj:j≠0:=by omega
  simpa[TS.cut,hj] using this
theorem nJ.MZ{S:TS}{n p:Nat}(h:nJ S n p)(B':Nat->Nat):nJ {S with B:=B'} n p:=⟨h.nt,h.p0,h.k0,h.v0,h.t0,h.p1,h.k1,h.v1,h.pe,h.Jd,h.Jc⟩
end
theorem yz0(X:RX)(R Q:Nat)(S1:TS)(d':MD)(q:RQ)(w:World)(n p kept k:Nat)(B':Nat->Nat)(hz:Rz X R Q {qL S1 kept k with B:=B'} d' q w)(hW:nJ S1 n p)(hp:p<=n)(hk:kept<=p)(oQ:∀j,j<n+2->S1.tv j=ptr (S1.K j))(hse:∀i,S1.se (i+2)=d'.ro↔i<kept)(hkk:k<kept+2):Calls Tryz.prog 356 #[ptr R,ptr (S1.K k)] w fun e w'=>e=.returned (.tuple #[])/\∃d'' B'',Sp X d' w d'' w'/\Rz X R Q {qL S1 kept (k+1) with B:=B''} d'' q w'/\d''=d'.sn d'.se d''.tb d''.TP:=by
 have hfin:∀(d'':MD) (w':World) (Dx:TS),Sp X d' w d'' w'->jl X d'' Dx->d''=d'.sn d'.se d''.tb d''.TP->Rz X R Q Dx d'' q w':=fun d'' w' Dx h1 h2 h3=>by
  have hr:=Rp.run hz.t h1 (by rw[h3]);exact⟨hr.t,h2,hz.k.rp hz.t hr⟩
 by_cases k0:k=0
 ·subst k0;have hW':=hW.MZ B';obtain⟨x1,x2⟩:=hW'.wE;refine(qq3 X R Q {S1 with B:=B'} d' q w 0 p kept true hW.p0 hz (by show 0<S1.nt;rw[hW.nt];omega) hk ⟨(fun e=>nomatch e),fun _ i hi=>⟨i+2,hW.k0 i hi,by show i+2<S1.nt;rw[hW.nt];omega,oQ _ (by omega),?_⟩⟩ (fun d2 w2 fJ ho2=>NY X d2 {S1 with B:=B'} 0 (some 1) true w2 fJ ho2 (by show 0<S1.nt;rw[hW.nt];omega) x1 x2)).mono ?_
  ·show(((S1.se (i+2):Nat):Int)==(d'.ro:Int))=_;have:=hse i;by_cases c:i<kept
   ·rw[bJ c,this.2 c];simp
   ·rw[bP c];have:S1.se (i+2)≠d'.ro:=fun e=>c (this.1 e);simp;omega
  ·rintro e w' ⟨rfl,d'',Bn,h1,h2,h3⟩;exact⟨rfl,d'',(({S1 with B:=B'}:TS).cut 0 kept Bn).B,h1,hfin d'' w' _ h1 h2 h3,h3⟩
 ·have e0:qL S1 kept k=S1.cut 0 kept 0:=au k0;have e1:qL S1 kept (k+1)=S1.cut 0 kept 0:=au (by omega);rw[e0] at hz;rw[e1];have hW':=hW.cut hk B';obtain⟨x1,x2⟩:=hW'.Bq (j:=k) (by omega) (by omega);have hnt:k<({S1.cut 0 kept 0 with B:=B'}:TS).nt:=by rw[hW'.nt];omega
  refine(qq3 X R Q {S1.cut 0 kept 0 with B:=B'} d' q w k ((S1.cut 0 kept 0).D k).n ((S1.cut 0 kept 0).D k).n false rfl hz hnt (ah _) ⟨fun _=>rfl,fun e=>nomatch e⟩ (fun d2 w2 fJ ho2=>NY X d2 {S1.cut 0 kept 0 with B:=B'} k none false w2 fJ ho2 hnt x1 x2)).mono ?_;rintro e w' ⟨rfl,d'',Bn,h1,h2,h3⟩;obtain⟨B'',hB⟩:=ye3 (S1.cut 0 kept 0) B' k Bn;rw[hB] at h2;exact⟨rfl,d'',B'',h1,hfin d'' w' _ h1 h2 h3,h3⟩
def V4(X:RX)(d:MD)(S:TS)(kept:Nat)(u w':World):Prop:=∃d' B',Sp X d u d' w'/\jl X d' {((S.jD (jS kept) (d.ro+1)).ng 1 (d.ro+1)).cut 0 kept 0 with B:=B'}/\d'.p={d.p with ro:=d.ro+1,se:=d.ro+1,tb:=d'.tb,TP:=d'.TP}
theorem qz4(X:RX)(d:MD)(S:TS)(u:World)(n p kept:Nat)(h:St X d u)(o:jl X d S)(k:lX X d u)(hV:qB X d u (jS kept))(hW:nJ S n p)(hp:p<=n)(hk:kept<=p)(hn:n<=400)(oQ:∀j,j<n+2->S.tv j=ptr (S.K j))(pW:S.li=List.range (n+2))(hse:∀j,S.se j<=d.ro)(hds:d.se<=d.ro)(hro:d.ro<=1000)(hX:JG X d):Calls Tryz.prog 333 #[ptr X.M] u fun e w'=>e=.returned (.bool false)/\V4 X d S kept u w':=by
 have HS:Hid (St X d u/\jl X d S):=⟨h,o⟩;have HR:Hid (∀w,gZ u w->Calls Tryz.prog 303 #[ptr X.M] w fun e w'=>∃R Q,e=.returned (ptr R)/\Reached X d w ((S.jD (jS kept) (d.ro+1)).ng 1 (d.ro+1)) (kept+(1+p)+2) (nU (yc kept) rW p) (d.ro+1) R Q w'):=fun w hb=>qq2 X d S w n p kept (h.call hb) o (k.step (Sp.below h hb)) (hV.step (Sp.below h hb) rfl rfl) hW hp hk hn (fun j hj=>oQ j (by omega)) hse hds hro hX;have HW:Hid (nJ ((S.jD (jS kept) (d.ro+1)).ng 1 (d.ro+1)) n p):=hW.sees _;have Hse:Hid (∀j,S.se j<=d.ro):=hse;have Htv:Hid (∀j,j<n+2->S.tv j=ptr (S.K j)):=oQ;have Yx:Hid (S.li=List.range (n+2)):=pW;have Hh:Hid (JG X d):=hX;clear h o k hV hW hse hds oQ pW hX;refine dP.1 (callsIn_of_wp_marks (F:=Fence.wide) (n:=3) Tryz.func333 rfl trivial ?_ rfl);simp only[Tryz.ntmps333,List.size_toArray,List.length_cons,List.length_nil,Nat.reduceAdd,Nat.reduceSub,Array.replicate_succ,Array.replicate_zero,List.push_toArray,List.append_toArray,List.nil_append,List.cons_append];refine dZ.2 ?_;go_wp2_with fail;refine(HR _ (q01 _ _)).mono ?_;rintro e w1 ⟨R,Q,rfl,d1,a1,c1,hd1,fH,hz1,hR1,hQ1⟩;obtain⟨S1,hS1⟩:∃S1,(S.jD (jS kept) (d.ro+1)).ng 1 (d.ro+1)=S1:=⟨_,rfl⟩;obtain⟨q1,hq1⟩:∃q1:RQ,⟨[],a1,c1,kept+(1+p)+2,nU (yc kept) rW p⟩=q1:=⟨_,rfl⟩;rw[hS1,hq1] at hz1;rw[hS1] at HW;obtain⟨B1,hB1⟩:∃B1,u.heap.size=B1:=⟨_,rfl⟩;have H1:Hid (Sp X d u d1 w1/\Rz X R Q S1 d1 q1 w1/\Bx X d1 w1 B1 #[ptr X.M]):=by
  rw[<-hB1];exact⟨Sp.first HS.1 fH,hz1,(Bx.new HS.1 #[ptr X.M] _).step fH⟩
 have HE:Hid (((S.jD (jS kept) (d.ro+1)).ng 1 (d.ro+1)=S1)/\d1={d with ro:=d.ro+1,se:=d.ro+1,tb:=d1.tb,TP:=d1.TP}/\u.heap.size=B1):=⟨hS1,hd1,hB1⟩;have Hro:Hid (d1.ro=d.ro+1):=by show _=_;rw[hd1]
 rw[hB1];clear hS1 hq1 fH hz1 hR1 hQ1 hd1 hB1 HR;have HI:Hid (S1.li=List.range (n+2)/\S1.nt=n+2/\(∀j,j<n+2->S1.tv j=ptr (S1.K j))/\(∀j,S1.se j=d1.ro↔(j=1\/j∈jS kept))/\S1.li.length=n+2):=by
  rw[<-HE.1,Hro.out];refine⟨Yx,?_,Htv,fun j=>?_,?_⟩
  ·have:=HW.nt;rw[<-HE.1] at this;exact this
  ·show(if j=1 then d.ro+1 else if j∈jS kept then d.ro+1 else S.se j)=d.ro+1↔_;by_cases c:j=1
   ·simp[c]
   ·by_cases c':j∈jS kept
    ·simp[c,c']
    ·simp only[au c,au c'];have:=Hse.out j;constructor
     ·intro e;omega
     ·rintro(e|e)
      ·exact absurd e c
      ·exact absurd e c'
  ·show S.li.length=n+2;rw[Yx.out];simp
 clear Yx Htv Hse;have b0:=H1.2.2.cell 0 rfl;have m19:w1.cell? ⟨X.M,19,none⟩=some (.slice S1.la (n+2) S1.lc):=by
  have:w1.cell? ⟨X.M,19,none⟩=some d1.jA:=H1.2.1.t.s.m.1.cell 19 rfl;rw[H1.2.1.o.l,HI.2.2.2.2] at this;exact this
 have lM:=H1.2.1.t.s.m.1.1;have lB:=H1.2.2.1.1;go_wp2_with fail
 go_loopw [15] (fun i wr=>∃(k:Nat) (d':MD) (B':Nat->Nat),k<=n+2/\i=.int .i64 k/\Hid (Sp X d u d' wr/\Rz X R Q {qL S1 kept k with B:=B'} d' q1 wr/\Bx X d' wr B1 #[ptr X.M]/\d'=d1.sn d1.se d'.tb d'.TP)) (fun i _=>n+2-(intOf i).toNat)
 case atStart=>exact⟨0,d1,S1.B,aF _,rfl,H1.1,H1.2.1,H1.2.2,rfl⟩
 case round=>
  obtain⟨k,d2,B',hk2,rfl,HL⟩:=hrel;clear b0 m19 lM lB;have hK:(qL S1 kept k).K=S1.K/\(qL S1 kept k).li=S1.li/\(qL S1 kept k).la=S1.la/\(qL S1 kept k).se=S1.se/\(qL S1 kept k).nt=S1.nt:=by
   unfold qL;split<;>exact⟨rfl,rfl,rfl,rfl,rfl⟩
  have HK:Hid _:=hK;clear hK;by_cases fE:k<n+2
  ·have hz:=HL.2.1;have zV:d2.ro=d1.ro:=by rw[HL.2.2.2]
   obtain⟨g,hla,hgl,hgc⟩:=hz.is.jA (i:=k) (j:=k) (by show(qL S1 kept k).li[k]?=_;rw[HK.2.1,HI.1];simp[fE]);replace hla:S1.la=some ⟨g,0,none⟩:=by rw[<-HK.2.2.1];exact hla
   replace hgc:wr.cell? ⟨g,k,none⟩=some (ptr (S1.K k)):=by rw[<-HK.1];exact hgc
   rw[hla];have hO:=(hz.is.k k (by show k<(qL S1 kept k).nt;rw[HK.2.2.2.2,HI.2.1];exact fE)).1;have k6:wr.cell? ⟨S1.K k,6,none⟩=some (.int .i64 (S1.se k:Int)):=by
    have:wr.cell? ⟨(qL S1 kept k).K k,6,none⟩=some (.int .i64 ((qL S1 kept k).se k:Int)):=hO.1.cell 6 rfl;rw[HK.1,HK.2.2.2.1] at this;exact this
   have lK:S1.K k<wr.heap.size:=by have:=hO.1.1;rw[<-HK.1];exact this
   have r1:wr.cell? ⟨R,1,none⟩=some (.int .i64 (d1.ro:Int)):=by rw[<-zV];exact hz.t.b.1.cell 1 rfl
   have lR:=hz.t.b.1.1;have i0:(0:Int)<=(k:Int):=aS _;have i1:(k:Int)<(n:Int)+2:=by omega
   clear hO hla;by_cases hkk:k<kept+2
   ·have e6:S1.se k=d1.ro:=(HI.2.2.2.1 k).2 (by
     by_cases c:k=1
     ·exact .inl c
     ·exact .inr (kJ.2 (by omega)))
    rw[e6] at k6
    go_upto_region 5 with fail
    go_quiet ((fail))
    have HC:Hid (Calls Tryz.prog 356 #[ptr R,ptr (S1.K k)] (wr.drewN nq) fun e w'=>e=.returned (.tuple #[])/\∃d'' B'',Sp X d2 (wr.drewN nq) d'' w'/\Rz X R Q {qL S1 kept (k+1) with B:=B''} d'' q1 w'/\d''=d2.sn d2.se d''.tb d''.TP):=by
     refine yz0 X R Q S1 d2 q1 (wr.drewN nq) n p kept k B' (hz.below (dw (ay _ _) _)) HW hp hk HI.2.2.1 (fun i=>?_) hkk;rw[zV,HI.2.2.2.1];constructor
     ·rintro(c|c)
      ·omega
      ·rcases kJ.1 c with c|c<;>omega
     ·intro c;exact .inr (kJ.2 (.inr (by omega)))
    clear hz k6 r1;go_wp2_with fail;refine HC.mono ?_;rintro e w3 ⟨rfl,d3,B3,fM,hz3,hd3⟩;have fJ:=Sp.below HL.1.s (dw (ay wr.heap.size wr) nq);have H3:Hid (Sp X d u d3 w3/\Rz X R Q {qL S1 kept (k+1) with B:=B3} d3 q1 w3/\Bx X d3 w3 B1 #[ptr X.M]/\d3=d1.sn d1.se d3.tb d3.TP):=⟨(HL.1.trans fJ).trans fM,hz3,(HL.2.2.1.step fJ).step fM,by have:=HL.2.2.2;rw[this] at hd3;exact hd3⟩;clear fM hz3 hd3 fJ HC;go_wp2_with fail;go_roundw
    case rel=>exact⟨k+1,d3,B3,by omega,by go_num,H3⟩
    case measure=>simp[intOf];omega
   ·have e6:((S1.se k:Int)==(d1.ro:Int))=false:=by
     have:=(HI.2.2.2.1 k);have:S1.se k≠d1.ro:=fun e=>by
      rcases this.1 e with c|c
      ·omega
      ·rcases kJ.1 c with c|c<;>omega
     simp;omega
    go_upto_region 5 with fail
    go_quiet ((fail))
    have H3:Hid (Sp X d u d2 (wr.drewN nq)/\Rz X R Q {qL S1 kept (k+1) with B:=B'} d2 q1 (wr.drewN nq)/\Bx X d2 (wr.drewN nq) B1 #[ptr X.M]/\d2=d1.sn d1.se d2.tb d2.TP):=by
     have hb:=dw (ay wr.heap.size wr) nq;have e:qL S1 kept (k+1)=qL S1 kept k:=by unfold qL;rw[au (by omega),au (by omega)]
     rw[e];exact⟨HL.1.call hb,HL.2.1.below hb,HL.2.2.1.step (Sp.below HL.1.s hb),HL.2.2.2⟩
    clear hz k6 r1;go_wp2_with fail;go_roundw
    case rel=>exact⟨k+1,d2,B',by omega,by go_num,H3⟩
    case measure=>simp[intOf];omega
  ·obtain rfl:k=n+2:=by omega
   have e0:((((n+2:Nat):Int))<((n:Int)+2))=False:=by simp
   have e0':(((n:Int)+2)<((n:Int)+2))=False:=by simp
   have b0:=HL.2.2.1.cell 0 rfl;have lB:=HL.2.2.1.1.1;have YS:Hid (qL S1 kept (n+2)=S1.cut 0 kept 0):=au (by omega);go_wp2_with fail;refine(z02 X R Q _ d2 q1 wr HL.2.1 (fun j hj=>?_) ?_).mono ?_
   ·replace hj:j∈(qL S1 kept (n+2)).li:=hj;show j<(qL S1 kept (n+2)).nt;rw[HK.2.1,HI.1] at hj;rw[HK.2.2.2.2,HI.2.1];exact dY.1 hj
   ·show(qL S1 kept (n+2)).li.length<=_;rw[HK.2.1,HI.2.2.2.2];omega
   rintro e w3 ⟨rfl,eH⟩;have H3:Hid (Sp X d u d2 w3/\Bx X d2 w3 B1 #[ptr X.M]/\jl X d2 {S1.cut 0 kept 0 with B:=B'}/\d2=d1.sn d1.se d2.tb d2.TP):=⟨HL.1.call eH,HL.2.2.1.step (Sp.below HL.1.s eH),by have:=HL.2.1.o;rw[YS.out] at this;exact this,HL.2.2.2⟩;clear eH b0 lB HL HK YS e0 e0' H1;have b0:=H3.2.1.cell 0 rfl;have lB:=H3.2.1.1.1;have m23:w3.cell? ⟨X.M,23,none⟩=some (ptr X.T):=H3.1.s.m.1.cell 23 rfl;have lM:=H3.1.s.m.1.1;go_wp2_with fail;refine(zo6 X d2 w3 H3.1.s).mono ?_;rintro e w4 ⟨rfl,fO⟩;have H4:Hid (Sp X d u d2 w4/\Bx X d2 w4 B1 #[ptr X.M]):=⟨H3.1.trans fO,H3.2.1.step fO⟩;clear fO b0 lB m23 lM;go_wp2_with fail;refine(zq3 w4).mono ?_;rintro e w5 ⟨rfl,yu,eX⟩;obtain⟨C1,Y3⟩:∃C1,w4.heap.size=C1:=⟨_,rfl⟩;obtain⟨C2,hC2⟩:∃C2,w4.heap.size+1=C2:=⟨_,rfl⟩;rw[Y3] at yu;rw[hC2,Y3];have H5:Hid (Sp X d u d2 w5/\Bx X d2 w5 B1 #[ptr X.M]/\OwnB w5 C1 #[.slice none 0 0]):=⟨H4.1.call eX,H4.2.step (Sp.below H4.1.s eX),yu⟩;clear yu eX H4 Y3 hC2;go_wp2_with fail;refine(dZ (n:=3)).1 ?_;refine wpIn_rangeFunc_ownH (F:=Fence.wide) rfl (by omega) (gf:=388) (lb:=#[.pointer (some ⟨C1,0,none⟩),.pointer (some ⟨C2,0,none⟩)]) rfl trivial (enters_of Tryz.func388 (by kernel_rfl) rfl)
    (encs:=fun _:Fin 0=>#[undef]) (Kp:=fun _ _=>True) (S:=fun ys=>ys=[]) (Sp:=fun _=>True) (N:=0) (w0:=w5)
    (fun l J Jx W hW hA _ hY h0=>yo4 l C1 C2 J Jx W ((H5.2.2.iy hW).1.cell 0 rfl) h0)
    (fun _ _=>trivial) (fun _ _ _ _ _ _ _ _=>trivial) (ay _ _) (fun _=>rfl)
    (fun _ W=>gZ w5 W)
    (fun _ _ _=>False)
    (ownFrom_below (ah _) (ah _))
    (fun c s W W' row hs hg hr=>hs)
    (ay _ _)
    (fun x a' W=>False)
    (fun x a' _ W W' row hs hg hr=>hs)
    ?assign ?body ?done ?stop
   case assign=>exact fun l pre x=>x.elim0
   case body=>exact fun l pre x=>x.elim0
   case stop=>
    rintro D c pre W hD _ h hK;exact h.elim
   case done=>
    rintro D ys W hD hS hI hK;have H6:Hid (Sp X d u d2 W/\Bx X d2 W B1 #[ptr X.M]/\W.heap[D]?=some (.deferred (some []))/\¬stB X d2 D/\u.heap.size<=D):=⟨H5.1.call hI,H5.2.1.step (Sp.below H5.1.s hI),hK,H5.1.s.other hD,aV H5.1.g.size hD⟩;clear hI hK hD hS H5;have b0:=H6.2.1.cell 0 rfl;have lB:=H6.2.1.1.1;have m23:W.cell? ⟨X.M,23,none⟩=some (ptr X.T):=H6.1.s.m.1.cell 23 rfl;have lM:=H6.1.s.m.1.1;have Hhe:Hid (d2.held=d.held):=by
     show _=_;rw[H3.2.2.2];show d1.held=d.held;rw[HE.2.1]
    go_wp2_with fail;refine(Gp X d2 0 W H6.1.s (aF _) (by rw[Hhe.out];exact Hh.hn)).mono ?_;rintro e w6 ⟨rfl,d3,fM,e3⟩;have hp3:d3.p=d2.p:=by
     rw[e3];show{d2.p with held:=d2.held.take (d2.held.length-0)}=d2.p;rw[Nat.sub_zero,List.take_length];rfl
    have hDl:D<W.heap.size:=(aA.1 H6.2.2.1).1;have H7:Hid (w6.heap[D]?=some (.deferred (some []))/\V4 X d S kept u (w6.putObj D (.deferred none))):=by
     refine⟨(fM.g.block D hDl H6.2.2.2.1).trans H6.2.2.1,d3,B',?_,?_,?_⟩
     ·exact Sp.ni (D:=D) (H6.1.trans fM) ((Gx.grown (grownBy_putObj' w6 D _)).mono (fun k e=>(aQ e).symm)) (fun c=>H6.2.2.2.1 (fM.mv D hDl c)) H6.2.2.2.2 HS.1
     ·have ho:=H3.2.2.1;rw[HE.1];have e1:d3.tb=d2.tb:=aJ DP.tb hp3;have e2:d3.TP=d2.TP:=aJ DP.TP hp3;have e4:d3.tab=d2.tab:=aJ DP.tab hp3;have e5:d3.jA=d2.jA:=aJ DP.jA hp3;exact⟨e1.trans ho.b,e2.trans ho.p,e4.trans ho.t,e5.trans ho.l⟩
     ·have e1:d3.tb=d2.tb:=aJ DP.tb hp3;have e2:d3.TP=d2.TP:=aJ DP.TP hp3;rw[hp3,e1,e2];have h1:=H3.2.2.2;have h2:=HE.2.1;rw[h2] at h1;obtain⟨tb,TP,rfl⟩:∃tb TP,d2=MD.sn {d with ro:=d.ro+1,se:=d.ro+1,tb:=d1.tb,TP:=d1.TP} (d.ro+1) tb TP:=⟨_,_,h1⟩;rfl
    clear fM e3 hp3 hDl b0 lB m23 lM;go_wp2_with fail;refine⟨by simp,.inl ⟨_,_,rfl,run_takeDeferred H7.1,?_⟩⟩;refine⟨.bool false,?_,rfl,H7.2⟩;simp[results,Tryz.results333,go_sem]
section
variable {N:Nat}{S:TS}{u w w':World}
theorem yk2{t:TypeId}{g n c j:Nat}{xs:List Value}(h:w.ownsRow N t 1 (.slice (some ⟨g,0,none⟩) n c) n xs)(hj:j<n)(v:Value):(w.setCell ⟨g,j,none⟩ v).ownsRow N t 1 (.slice (some ⟨g,0,none⟩) n c) n (xs.set j v):=by
 obtain⟨h1,h2⟩:=h;rcases h2 with⟨h2,_⟩|⟨g',cap',cur,e,h3,hh,h4,h5,h6,h7⟩
 ·cases h2
 ·cases e;refine⟨by rw[List.length_set];exact h1,.inr ⟨g,c,cur.setIfInBounds j v,rfl,h3,Go.heap_setCell_same w g j cur t v hh,h4,h5,by simpa using h6,?_⟩⟩;rw[<-h7];apply List.ext_getElem?;intro i;by_cases e:i=j
  ·subst e;simp[List.getElem?_take,List.getElem?_set];split<;>split<;>simp_all<;>omega
  ·simp[List.getElem?_take,bK e]
def TS.gone(S:TS)(j:Nat):TS:={S with tv:=fun i=>if i=j then .pointer none else S.tv i}
theorem iU.gone{g j:Nat}(h:iU N S u)(hg:S.ta=some ⟨g,0,none⟩)(hj:j<S.nt):iU N (S.gone j) (u.setCell ⟨g,j,none⟩ (.pointer none)):=by
 have hr:=h.r;rw[hg] at hr;have hne:∀{k:Nat},ig S.ta≠some k->k≠g:=fun hk e=>hk (by rw[hg,e];rfl);have hoth:∀k,k≠g->(u.setCell ⟨g,j,none⟩ (.pointer none)).heap[k]?=u.heap[k]?:=fun k e=>aK _ _ _ _ e;have ngB:∀i,i<S.nt->S.B i≠g:=fun i hi e=>by
  obtain⟨es,c,hm,_⟩:=(h.m i hi).1;obtain⟨A,fr,hA⟩:=lJ h.r (k:=g) (by rw[hg];rfl);rw[e] at hm;rw[hm] at hA
  cases hA
 refine⟨?_,q23 h.l _ (fun k e c=>h.rl g (by rw[hg];rfl) (by rw[<-c];exact(jg _ _ _).symm.trans e)),h.rl,fun i hi=>⟨(h.k i hi).1.block (by simp) (hoth _ (hne (h.kr i hi).1)),(h.k i hi).2⟩,fun i hi=>⟨Gn (h.m i hi).1 (hoth _ (ngB i hi)),(h.m i hi).2⟩,fun i hi=>q23 (h.p i hi) _ (fun k e c=>qP (h.p i hi) h.r (by decide) ((jg _ _ _).symm.trans e) (by rw[hg,c];rfl)),h.ki,h.bi,h.pi,h.kp,h.kr,h.ok⟩;have:=yk2 hr hj (.pointer none);show World.ownsRow _ _ _ _ (.slice S.ta S.nt S.tc) S.nt ((List.range S.nt).map fun i=>if i=j then .pointer none else S.tv i);rw[hg];have e:((List.range S.nt).map fun i=>if i=j then Value.pointer none else S.tv i)=((List.range S.nt).map S.tv).set j (.pointer none):=by
  apply List.ext_getElem?;intro i;rw[List.getElem?_set];by_cases c:j=i
  ·subst c;simp[hj]
  ·rw[au c];by_cases hi:i<S.nt
   ·simp[hi,bK c]
   ·simp[hi]
 rw[e];exact this
theorem Sp.gone{X:RX}{d:MD}{g j:Nat}(h:St X d u)(o:jl X d S)(hg:S.ta=some ⟨g,0,none⟩)(hj:j<S.nt):∃d',Sp X d u d' (u.setCell ⟨g,j,none⟩ (.pointer none))/\jl X d' (S.gone j)/\d'=d.sn d.se d'.tb d'.TP:=by
 have hT:=(o.is h).gone hg hj;have hK:d.tb g:=by rw[o.b];exact .inr (.inl (by rw[hg];rfl))
 have nM:X.M≠g:=fun e=>h.ts _ hK (.inl e.symm);exact⟨d.tabs d.tab d.jA d.jc d.sin d.lv d.ro (S.gone j).tb (iU X.N (S.gone j)),Sp.tabs h ((Gx.set u g j _).mono (fun k e=>.inr (by rw[e];exact hK))) (kR h.m nM) (h.ty.m.set _ _) hT.KR (fun k _ e=>by rw[o.b];exact e),⟨rfl,rfl,o.t,o.l⟩,rfl⟩
def TS.lives(S:TS)(m:Nat):TS:={S with li:=S.li.take m}
theorem iU.lives{m:Nat}(h:iU N S u)(hm:m<=S.li.length)(hs:u.heap.size<=w'.heap.size)(hk:∀k,S.tb k->ig S.la≠some k->w'.heap[k]?=u.heap[k]?)(hl:w'.ownsRow N 188 1 (.slice S.la m S.lc) m ((S.li.map fun j=>ptr (S.K j)).take m)):iU N (S.lives m) w':=by
 have gG:(S.li.take m).length=m:=by rw[dG];omega
 refine⟨nY h.r (fun k e=>hk k (.inr (.inl ((jg _ _ _).symm.trans e))) (h.rl k ((jg _ _ _).symm.trans e))),?_,h.rl,fun i hi=>⟨(h.k i hi).1.block hs (hk _ (.inl ⟨i,hi,.inl rfl⟩) (h.kr i hi).2),(h.k i hi).2⟩,fun i hi=>⟨Gn (h.m i hi).1 (hk _ (.inl ⟨i,hi,.inr (.inl rfl)⟩) (fun c=>?_)),(h.m i hi).2⟩,fun i hi=>nY (h.p i hi) (fun k e=>hk k (.inl ⟨i,hi,.inr (.inr ((jg _ _ _).symm.trans e))⟩) (qP (h.p i hi) h.l (by decide) ((jg _ _ _).symm.trans e))),h.ki,h.bi,h.pi,h.kp,h.kr,h.ok⟩
 ·show World.ownsRow _ _ _ _ (.slice S.la (S.li.take m).length S.lc) (S.li.take m).length ((S.li.take m).map fun j=>ptr (S.K j));rw[gG,List.map_take];exact hl
 ·obtain⟨es,cc,hm',_⟩:=(h.m i hi).1;obtain⟨A,fr,hA⟩:=lJ h.l (k:=S.B i) c;rw[hm'] at hA
  cases hA
theorem Sp.lives{X:RX}{d:MD}{m:Nat}(h:St X d u)(o:jl X d S)(hm:m<=S.li.length)(g:Gx (fun k=>ig S.la=some k) u w)(hl:w.ownsRow X.N 188 1 (.slice S.la m S.lc) m ((S.li.map fun j=>ptr (S.K j)).take m)):∃d',Sp X d u d' (w.setCell ⟨X.M,19,none⟩ (.slice S.la m S.lc))/\jl X d' (S.lives m)/\d'=d.tabs d.tab (.slice S.la m S.lc) d.jc d.sin d.lv d.ro d'.tb d'.TP:=by
 have hK:∀k,ig S.la=some k->d.tb k:=fun k e=>by rw[o.b];exact .inr (.inr e)
 have nM:ig S.la≠some X.M:=fun e=>h.ts _ (hK _ e) (.inl rfl);have hT0:iU X.N (S.lives m) w:=(o.is h).lives hm g.size (fun k e n=>g.block k ((o.is h).lt e).2 n) hl;have ntb:¬(S.lives m).tb X.M:=fun e=>h.ts X.M (by rw[o.b];exact e) (.inl rfl);have hT:iU X.N (S.lives m) (w.setCell ⟨X.M,19,none⟩ (.slice S.la m S.lc)):=hT0.keep (by simp) (fun k e=>aK _ _ _ _ (fun c=>ntb (by have c':k=X.M:=c;rw[<-c'];exact e)));have gG:(S.li.take m).length=m:=by rw[dG];omega
 refine⟨d.tabs d.tab (.slice S.la m S.lc) d.jc d.sin d.lv d.ro (S.lives m).tb (iU X.N (S.lives m)),Sp.tabs h ((g.mono (fun k e=>.inr (hK k e))).trans (Gx.set w X.M 19 _) (fun _ _ e=>.inl e)) ?_ ((h.ty.m.keep (g.block _ h.m.1.1 nM)).set _ _) hT.KR (fun k _ e=>by rw[o.b];exact e),⟨rfl,rfl,o.t,?_⟩,rfl⟩
 ·exact(g.ownB h.m nM).set (o:=19) (by show 19<27;omega) (.slice S.la m S.lc)
 ·show Value.slice S.la m S.lc=.slice S.la (S.li.take m).length S.lc;rw[gG]
end
theorem z05(X:RX)(d:MD)(S:TS)(j B1:Nat)(w:World)(h:St X d w)(o:jl X d S)(hb:Bx X d w B1 #[ptr X.M])(hj:j<S.nt)(hse:S.se j=d.ro):Calls Tryz.prog 361 #[ptr (S.K j),.pointer (some ⟨B1,0,none⟩)] w fun e w'=>e=.returned (.bool false)/\gZ w w':=by
 have hO:=((o.is h).k j hj).1;have k6:w.cell? ⟨S.K j,6,none⟩=some (.int .i64 (d.ro:Int)):=by rw[<-hse];exact hO.1.cell 6 rfl
 have lK:=hO.1.1;have m22:w.cell? ⟨X.M,22,none⟩=some (.int .i64 (d.ro:Int)):=h.m.1.cell 22 rfl;have lM:=h.m.1.1;have b0:=hb.cell 0 rfl;have lB:=hb.1.1;go_in;go_wp2_with fail
 go_quiet ((fail))
 go_wp2_with fail;go_ret;exact⟨rfl,dw (ay _ _) _⟩
theorem qy0(X:RX)(d:MD)(S:TS)(j B1:Nat)(w:World)(h:St X d w)(o:jl X d S)(hb:Bx X d w B1 #[ptr X.M])(hj:j<S.nt)(hse:S.se j≠d.ro):Calls Tryz.prog 361 #[ptr (S.K j),.pointer (some ⟨B1,0,none⟩)] w fun e w'=>e=.returned (.bool true)/\∃d',Sp X d w d' w'/\jl X d' (S.gone j)/\d'=d.sn d.se d'.tb d'.TP:=by
 have HS:Hid (St X d w/\jl X d S/\Bx X d w B1 #[ptr X.M]):=⟨h,o,hb⟩;have hO:=((o.is h).k j hj).1;have k6:w.cell? ⟨S.K j,6,none⟩=some (.int .i64 (S.se j:Int)):=hO.1.cell 6 rfl;have lK:=hO.1.1;have m22:w.cell? ⟨X.M,22,none⟩=some (.int .i64 (d.ro:Int)):=h.m.1.cell 22 rfl;have lM:=h.m.1.1;have b0:=hb.cell 0 rfl;have lB:=hb.1.1;have hne:((S.se j:Int)==(d.ro:Int))=false:=by simp;omega
 go_in;go_wp2_with fail
 go_quiet ((fail))
 obtain⟨w1,fQ⟩:∃w1,w.drewN nq=w1:=⟨_,rfl⟩;have hbb:gZ w w1:=by rw[<-fQ];exact dw (ay _ _) _
 have H1:Hid (St X d w1/\Sp X d w d w1/\Bx X d w1 B1 #[ptr X.M]):=⟨HS.1.call hbb,Sp.below HS.1 hbb,HS.2.2.step (Sp.below HS.1 hbb)⟩;rw[fQ];have hT:=HS.2.1.is H1.1;have hO:=(hT.k j hj).1;have k3:w1.cell? ⟨S.K j,3,none⟩=some (.int .i64 (j:Int)):=hO.1.cell 3 rfl;have lK:=hO.1.1;obtain⟨g,hg,hl,hc⟩:=hT.at hj;have m16:w1.cell? ⟨X.M,16,none⟩=some (.slice (some ⟨g,0,none⟩) S.nt S.tc):=by rw[<-hg,<-HS.2.1.t];exact H1.1.m.1.cell 16 rfl
 have lM:=H1.1.m.1.1;have b0:=H1.2.2.cell 0 rfl;have lB:=H1.2.2.1.1;have i0:(0:Int)<=(j:Int):=aS _;have i1:(j:Int)<(S.nt:Int):=by omega
 have hfz:w1.frozen? ⟨g,j,none⟩=false:=by
  rcases hT.r.2 with⟨_,e⟩|⟨g',c',cur,e,_,hh,_⟩
  ·omega
  ·have:S.ta=some ⟨g',0,none⟩:=by injection e
   rw[hg] at this
   cases this;simp[World.frozen?,hh]
 have HF:Hid (∃d',Sp X d w d' (w1.setCell ⟨g,j,none⟩ (.pointer none))/\jl X d' (S.gone j)/\d'=d.sn d.se d'.tb d'.TP):=by
  obtain⟨d',h1,h2,h3⟩:=Sp.gone H1.1 HS.2.1 hg hj;exact⟨d',H1.2.1.trans h1,h2,h3⟩
 go_wp2_with fail
 go_region_with fail
 all_goals go_wp2_with fail
 all_goals go_ret
 all_goals
  obtain⟨d',h1,h2,h3⟩:=HF.out;exact⟨rfl,d',h1.drew,h2,h3⟩
def TS.o9(S:TS)(m k:Nat):TS:={S with tv:=fun j=>if m<=j/\j<k then .pointer none else S.tv j}
theorem UE(S:TS){m k:Nat}(h:k<=m):S.o9 m k=S:=by
 have:(fun j=>if m<=j/\j<k then Value.pointer none else S.tv j)=S.tv:=by
  funext j;rw[au (by omega)]
 simp only[TS.o9,this]
theorem y16(S:TS){m k:Nat}(h:m<=k):(S.o9 m k).gone k=S.o9 m (k+1):=by
 have:(fun i=>if i=k then Value.pointer none else if m<=i/\i<k then .pointer none else S.tv i)=fun j=>if m<=j/\j<k+1 then .pointer none else S.tv j:=by
  funext i;by_cases e:i=k
  ·rw[aO e,aO (by omega)]
  ·rw[au e];by_cases c:m<=i/\i<k
   ·rw[aO c,aO (by omega)]
   ·rw[au c,au (by omega)]
 show({S with tv:=_}:TS)={S with tv:=_};simp only[TS.o9,this]
def GJ(X:RX)(d:MD)(S:TS)(u:World)(B1 m k:Nat)(w:World):Prop:=∃d',Sp X d u d' w/\jl X d' (S.o9 m k)/\Bx X d' w B1 #[ptr X.M]/\d'=d.sn d.se d'.tb d'.TP
structure qh(S:TS)(ro n m:Nat):Prop where
 li:S.li=List.range n
 nt:S.nt=n
 se:∀j,j<n->(S.se j=ro↔j<m)
theorem GJ.step{X:RX}{d:MD}{S:TS}{u w:World}{B1 m k n:Nat}(h:GJ X d S u B1 m k w)(hO:qh S d.ro n m)(hk:k<n):Calls Tryz.prog 361 #[ptr (S.K k),.pointer (some ⟨B1,0,none⟩)] w fun e w'=>e=.returned (.bool (decide (m<=k)))/\GJ X d S u B1 m (k+1) w':=by
 obtain⟨d',h1,h2,h3,h4⟩:=h;have hro:d'.ro=d.ro:=by rw[h4]
 have hnt:k<(S.o9 m k).nt:=by show k<S.nt;rw[hO.nt];exact hk
 by_cases c:k<m
 ·rw[bP (by omega)];refine(z05 X d' (S.o9 m k) k B1 w h1.s h2 h3 hnt (by show S.se k=_;rw[hro];exact(hO.se k hk).2 c)).mono ?_;rintro e w' ⟨rfl,hb⟩;refine⟨rfl,d',h1.call hb,?_,h3.step (Sp.below h1.s hb),h4⟩;rw[UE S (by omega)];rw[UE S (by omega)] at h2;exact h2
 ·rw[bJ (by omega)];refine(qy0 X d' (S.o9 m k) k B1 w h1.s h2 h3 hnt (by show S.se k≠_;rw[hro];exact fun e=>c ((hO.se k hk).1 e))).mono ?_;rintro e w' ⟨rfl,d2,g1,g2,g3⟩;rw[y16 S (by omega)] at g2;exact⟨rfl,d2,h1.trans g1,g2,h3.step g1,by rw[h4] at g3;exact g3⟩
theorem GJ.at{X:RX}{d:MD}{S:TS}{u w:World}{B1 m k n g:Nat}(h:GJ X d S u B1 m k w)(hO:qh S d.ro n m)(hk:k<n)(hg:S.la=some ⟨g,0,none⟩):w.cell? ⟨g,k,none⟩=some (ptr (S.K k))/\g<w.heap.size:=by
 obtain⟨d',h1,h2,h3,h4⟩:=h;obtain⟨g',e1,e2,e3⟩:=(h2.is h1.s).jA (i:=k) (j:=k) (by show S.li[k]?=_;rw[hO.li];simp[hk]);replace e1:S.la=some ⟨g',0,none⟩:=e1;rw[hg] at e1
 cases e1;exact⟨e3,e2⟩
abbrev Ru(B:Nat):Value:=.func (.func 361) #[] #[.pointer (some ⟨B,0,none⟩)]
theorem zb1(X:RX)(d:MD)(S:TS)(u w:World)(B1 m n g:Nat)(h:GJ X d S u B1 m 0 w)(hO:qh S d.ro n m)(hm:m<=n)(hn:n<=500)(hg:S.la=some ⟨g,0,none⟩):Calls Tryz.prog 390 #[.slice (some ⟨g,0,none⟩) n S.lc,Ru B1] w fun e w'=>e=.returned (.int .i64 (if m<n then(m:Int) else -1))/\GJ X d S u B1 m (if m<n then m+1 else n) w':=by
 have H0:Hid (GJ X d S u B1 m 0 w):=h;have HO:Hid (qh S d.ro n m/\S.la=some ⟨g,0,none⟩):=⟨hO,hg⟩;go_in;go_wp2_with fail
 go_loopw [8] (fun i wr=>∃(k:Nat),k<=m/\i=.int .i64 k/\Hid (GJ X d S u B1 m k wr)) (fun i _=>n-(intOf i).toNat)
 case atStart=>exact⟨0,aF _,rfl,H0⟩
 case round=>
  obtain⟨k,hk,rfl,HJ⟩:=hrel;by_cases fE:k<n
  ·obtain⟨c0,hgl⟩:=HJ.at HO.1 fE HO.2;have HC:Hid (Calls Tryz.prog 361 #[ptr (S.K k),.pointer (some ⟨B1,0,none⟩)] wr fun e w'=>e=.returned (.bool (decide (m<=k)))/\GJ X d S u B1 m (k+1) w'):=HJ.step HO.1 fE;have i0:(0:Int)<=(k:Int):=aS _;have i1:(k:Int)<(n:Int):=by omega
   go_wp2_with fail;refine HC.mono ?_;rintro e w2 ⟨rfl,hj2⟩;have HJ2:Hid (GJ X d S u B1 m (k+1) w2):=hj2;by_cases hkm:m<=k
   ·obtain rfl:k=m:=by omega
    rw[bJ (ah k)];go_wp2_with fail;go_ret;refine⟨by first|rfl|rw[aO fE],?_⟩
    first|exact HJ2.out|(rw[aO fE];exact HJ2)
   ·rw[bP hkm];go_wp2_with fail;go_roundw
    case rel=>exact⟨k+1,by omega,by go_num,HJ2⟩
    case measure=>simp[intOf];omega
  ·obtain rfl:k=n:=by omega
   have e0:((k:Int)<(k:Int))=False:=by simp
   have hkm:¬m<k:=by omega
   go_wp2_with fail;go_ret;refine⟨by first|rfl|rw[au hkm],?_⟩
   first|exact HJ.out|(rw[au hkm];exact HJ)
def GD(X:RX)(d:MD)(S:TS)(u:World)(B1 m n:Nat)(w':World):Prop:=∃wz,GJ X d S u B1 m n wz/\Gx (fun k=>ig S.la=some k) wz w'/\w'.ownsRow X.N 188 1 (.slice S.la m S.lc) m ((S.li.map fun j=>ptr (S.K j)).take m)
theorem GJ.row{X:RX}{d:MD}{S:TS}{u w:World}{B1 m k n g:Nat}(h:GJ X d S u B1 m k w)(hO:qh S d.ro n m)(hg:S.la=some ⟨g,0,none⟩):w.ownsRow X.N 188 1 (.slice (some ⟨g,0,none⟩) n S.lc) n (S.li.map fun j=>ptr (S.K j)):=by
 obtain⟨d',h1,h2,h3,h4⟩:=h;have:=(h2.is h1.s).l;have hl:S.li.length=n:=by rw[hO.li];simp
 replace this:w.ownsRow X.N 188 1 (.slice S.la S.li.length S.lc) S.li.length (S.li.map fun j=>ptr (S.K j)):=this;rw[hl,hg] at this;exact this
theorem zc1(X:RX)(d:MD)(S:TS)(u w:World)(B1 m n g:Nat)(h:GJ X d S u B1 m 0 w)(hO:qh S d.ro n m)(hm:m<=n)(hn:n<=500)(hg:S.la=some ⟨g,0,none⟩):Calls Tryz.prog 360 #[.slice (some ⟨g,0,none⟩) n S.lc,Ru B1] w fun e w'=>e=.returned (.slice (some ⟨g,0,none⟩) m S.lc)/\GD X d S u B1 m n w':=by
 have HI:Hid (Calls Tryz.prog 390 #[.slice (some ⟨g,0,none⟩) n S.lc,Ru B1] w fun e w'=>e=.returned (.int .i64 (if m<n then(m:Int) else -1))/\GJ X d S u B1 m (if m<n then m+1 else n) w'):=zb1 X d S u w B1 m n g h hO hm hn hg;have HO:Hid (qh S d.ro n m/\S.la=some ⟨g,0,none⟩):=⟨hO,hg⟩;have gy:n<=S.lc:=z91 (h.row hO hg);have hmx:S.lc<=9223372036854775807:=by
  rcases(h.row hO hg).2 with⟨e,_⟩|⟨g',c',cur,e,_,_,_,h5,_⟩
  ·cases e
  ·cases e;unfold maxLen at h5;omega
 by_cases hmn:m<n
 ·rw[aO hmn,aO hmn] at HI;have Tz:((m:Int) == -1)=false:=by simp
  go_in;go_wp2_with fail;refine HI.mono ?_;rintro e w1 ⟨rfl,hj1⟩;have Ue:Hid (GJ X d S u B1 m (m+1) w1):=hj1;go_wp2_with fail
  go_loopw [5,6] (fun j i wr=>j=.int .i64 (m:Int)/\∃(k:Nat),m<k/\k<=n/\i=.int .i64 k/\Hid (GJ X d S u B1 m k wr)) (fun _ i _=>n-(intOf i).toNat)
  case atStart=>exact⟨rfl,m+1,by omega,by omega,by go_num,Ue⟩
  case round=>
   obtain⟨rfl,k,hk,hk2,rfl,HJ⟩:=hrel;by_cases fE:k<n
   ·obtain⟨c0,hgl⟩:=HJ.at HO.1 fE HO.2;have HC:Hid (Calls Tryz.prog 361 #[ptr (S.K k),.pointer (some ⟨B1,0,none⟩)] wr fun e w'=>e=.returned (.bool (decide (m<=k)))/\GJ X d S u B1 m (k+1) w'):=HJ.step HO.1 fE;rw[bJ (show m<=k by omega)] at HC;have i0:(0:Int)<=(k:Int):=aS _;have i1:(k:Int)<(n:Int):=by omega
    go_wp2_with fail;refine HC.mono ?_;rintro e w2 ⟨rfl,hj2⟩;have HJ2:Hid (GJ X d S u B1 m (k+1) w2):=hj2;go_wp2_with fail;go_roundw
    case rel=>exact⟨rfl,k+1,by omega,by omega,by go_num,HJ2⟩
    case measure=>simp[intOf];omega
   ·obtain rfl:k=n:=by omega
    have e0:((k:Int)<(k:Int))=False:=by simp
    obtain⟨w5,hcl,yu,hg5⟩:=ZH (T:=69) (zs:=#[.pointer none]) (HJ.row HO.1 HO.2) hmn Tryz.underlying69 (fun w=>Tryz.zeroValue188 w) rfl rfl (by simp[Value.oneCell']);have HF:Hid (GD X d S u B1 m k w5):=by
     rw[Nat.mul_one] at yu;refine⟨wr,HJ,(Gx.grown hg5).mono (fun j e=>?_),?_⟩
     ·rw[HO.2];exact e
     ·rw[HO.2];exact yu
    rw[Nat.mul_one] at hcl;have i0:(0:Int)<=(m:Int):=aS _;have i1:(m:Int)<=(k:Int):=by omega
    have i2:(m:Int)<=(S.lc:Int):=by omega
    have hcm:(S.lc=m)=False:=by simp;omega
    go_wp2_with fail;go_ret;exact⟨rfl,HF⟩
 ·obtain rfl:m=n:=by omega
  rw[au (dF m),au (dF m)] at HI;go_in;go_wp2_with fail;refine HI.mono ?_;rintro e w1 ⟨rfl,hj1⟩;have Ue:Hid (GJ X d S u B1 m m w1):=hj1;go_wp2_with fail;go_ret;refine⟨rfl,w1,Ue,Gx.refl _ _,?_⟩;have:=Ue.row HO.1 HO.2;have hl:(S.li.map fun j=>ptr (S.K j)).length=m:=by rw[dK,HO.1.li];simp
  rw[HO.2,List.take_of_length_le (by omega)];exact this
def yv0(X:RX)(d:MD)(S:TS)(m n:Nat)(u w':World):Prop:=∃d',Sp X d u d' w'/\jl X d' ((S.o9 m n).lives m)/\d'=d.tabs d.tab (.slice S.la m S.lc) d.jc d.sin d.lv d.ro d'.tb d'.TP
theorem zh7(X:RX)(d:MD)(S:TS)(u:World)(m n:Nat)(h:St X d u)(o:jl X d S)(hO:qh S d.ro n m)(hm:m<=n)(hn:n<=500)(h0:0<n):Calls Tryz.prog 334 #[ptr X.M] u fun e w'=>e=.returned (.tuple #[])/\yv0 X d S m n u w':=by
 have hl:S.li.length=n:=by rw[hO.li];simp
 obtain⟨g,hg,_,_⟩:=(o.is h).jA (i:=0) (j:=0) (by rw[hO.li];simp[h0]);have HS:Hid (St X d u/\jl X d S/\qh S d.ro n m/\S.la=some ⟨g,0,none⟩/\S.li.length=n):=⟨h,o,hO,hg,hl⟩;clear h o hO hg hl;go_in;go_wp2_with fail;obtain⟨w1,fQ⟩:∃w1,u.alloc (.cells #[ptr X.M] 39)=w1:=⟨_,rfl⟩;obtain⟨B1,hB1⟩:∃B1,u.heap.size=B1:=⟨_,rfl⟩;have H1:Hid (Sp X d u d w1/\Bx X d w1 B1 #[ptr X.M]):=by
  rw[<-fQ,<-hB1];exact⟨(Sp.refl HS.1).alloc _,Bx.new HS.1 _ _⟩
 rw[fQ,hB1];clear fQ hB1;have b0:=H1.2.cell 0 rfl;have lB:=H1.2.1.1;have m19:w1.cell? ⟨X.M,19,none⟩=some (.slice (some ⟨g,0,none⟩) n S.lc):=by
  have:w1.cell? ⟨X.M,19,none⟩=some d.jA:=H1.1.s.m.1.cell 19 rfl;rw[HS.2.1.l,HS.2.2.2.1,HS.2.2.2.2] at this;exact this
 have lM:=H1.1.s.m.1.1;have HC:Hid (Calls Tryz.prog 360 #[.slice (some ⟨g,0,none⟩) n S.lc,Ru B1] w1.drew fun e w'=>e=.returned (.slice (some ⟨g,0,none⟩) m S.lc)/\GD X d S u B1 m n w'):=by
  refine zc1 X d S u w1.drew B1 m n g ⟨d,H1.1.drew,?_,H1.2.step (Sp.below H1.1.s (ay _ _).drew),rfl⟩ HS.2.2.1 hm hn HS.2.2.2.1;rw[UE S (by omega)];exact HS.2.1
 go_region_with (first|(go_at_call 360;refine HC.mono ?_;rintro e w3 ⟨rfl,wz,⟨d3,h1,h2,h3,h4⟩,h5,h6⟩;obtain⟨d4,g1,g2,g3⟩:=Sp.lives (m:=m) h1.s h2 (by show m<=S.li.length;rw[HS.2.2.2.2];exact hm) h5 h6;have nM:ig S.la≠some X.M:=(fun e=>h1.s.ts _ (by rw[h2.b];exact .inr (.inr e)) (.inl rfl));have zZ:=h5.ownB h1.s.m nM;have Xc:=zZ.1.cell 19 rfl;have mf:=zZ.2;have lM3:=zZ.1.1;have hB3:=h5.has h3.1 (fun e=>h3.2 (stB.tb (by rw[h2.b];exact .inr (.inr e))));have b3:=hB3.cell 0 rfl;have lB3:=hB3.1;have HF:Hid (yv0 X d S m n u (w3.setCell ⟨X.M,19,none⟩ (.slice S.la m S.lc))):=⟨d4,h1.trans g1,g2,by rw[h4] at g3;exact g3⟩;rw[HS.2.2.2.1] at HF;clear h1 h2 h3 h4 h5 h6 g1 g2 g3 zZ hB3 nM))
 all_goals go_end0
 all_goals exact⟨rfl,HF.out⟩
theorem Sp.lvs{X:RX}{d:MD}{u:World}(h:St X d u)(n:Nat):Sp X d u {d with lv:=n} (u.setCell ⟨X.M,20,none⟩ (.int .i64 (n:Int))):=by
 have hx:=h.ty;refine h.put _ (.inl rfl) ?_ (kR h.t hx.tm) (kR h.f hx.fm) (kR h.v hx.vm) h.rr h.hr h.sr h.fw h.r0 (fun _ _ e=>e) rfl;exact h.m.set (o:=20) (by show 20<27;omega) (.int .i64 (n:Int))
def MB(X:RX)(d:MD)(n kept:Nat)(u w':World):Prop:=∃d' S',Sp X d u d' w'/\jl X d' S'/\nJ S' n kept/\(∀j,j<kept+2->S'.tv j=ptr (S'.K j))/\d'.p={d.p with lv:=3+2*kept,ro:=d.ro+2,se:=d.ro+2,sin:=0,jA:=d'.jA,tb:=d'.tb,TP:=d'.TP}
theorem qh.of{S:TS}{d:MD}{n p kept:Nat}(hW:nJ S n p)(pW:S.li=List.range (n+2))(hse:∀j,S.se j<=d.ro)(B':Nat->Nat):qh {((S.jD (jS kept) (d.ro+1)).ng 1 (d.ro+1)).cut 0 kept 0 with B:=B'} (d.ro+1) (n+2) (kept+2):=by
 refine⟨pW,hW.nt,fun j hj=>?_⟩;show(if j=1 then d.ro+1 else if j∈jS kept then d.ro+1 else S.se j)=d.ro+1↔_;by_cases c:j=1
 ·rw[aO c];simp[c]
 ·rw[au c];by_cases c':j∈jS kept
  ·rw[aO c'];have:=kJ.1 c';constructor
   ·intro _;omega
   ·intro _;rfl
  ·rw[au c'];have:=hse j;constructor
   ·intro e;omega
   ·intro e;exact absurd (kJ.2 (by omega)) c'
theorem zc6(X:RX)(d:MD)(S:TS)(u:World)(n kept:Nat)(h:St X d u)(o:jl X d S)(k:lX X d u)(hV:qB X d u (jS kept))(hW:nJ S n n)(hk:kept<=n)(hn:n<=400)(oQ:∀j,j<n+2->S.tv j=ptr (S.K j))(pW:S.li=List.range (n+2))(hse:∀j,S.se j<=d.ro)(hds:d.se<=d.ro)(hro:d.ro<=100)(hX:JG X d):Calls Tryz.prog 302 #[ptr X.M] u fun e w'=>e=.returned (.int .i64 ((3+2*kept:Nat):Int))/\MB X d n kept u w':=by
 have HC:Hid (Calls Tryz.prog 333 #[ptr X.M] u fun e w'=>e=.returned (.bool false)/\V4 X d S kept u w'):=qz4 X d S u n n kept h o k hV hW (ah _) hk hn oQ pW hse hds (by omega) hX;have HS:Hid (St X d u/\lX X d u/\qB X d u (jS kept)/\JG X d):=⟨h,k,hV,hX⟩;have HT:Hid (nJ S n n/\(∀j,j<n+2->S.tv j=ptr (S.K j))/\S.li=List.range (n+2)/\∀j,S.se j<=d.ro):=⟨hW,oQ,pW,hse⟩;clear h o k hV hW oQ pW hse hX;go_in;go_wp2_with fail;refine bW 1 ?_;rw[bC];go_wp2_with fail;refine HC.mono ?_;rintro e w1 ⟨rfl,d1,B',fH,ho1,hp1⟩;have H1:Hid (Sp X d u d1 w1/\jl X d1 {((S.jD (jS kept) (d.ro+1)).ng 1 (d.ro+1)).cut 0 kept 0 with B:=B'}/\d1.p={d.p with ro:=d.ro+1,se:=d.ro+1,tb:=d1.tb,TP:=d1.TP}):=⟨fH,ho1,hp1⟩;have PY:Hid (d1.ro=d.ro+1):=aJ DP.ro hp1;have HG:Hid (qh {((S.jD (jS kept) (d.ro+1)).ng 1 (d.ro+1)).cut 0 kept 0 with B:=B'} d1.ro (n+2) (kept+2)):=by
  show qh _ _ _ _;rw[PY.out];exact qh.of HT.1 HT.2.2.1 HT.2.2.2 B'
 clear fH ho1 hp1 HC;go_wp2_with fail;refine(zh7 X d1 _ w1 (kept+2) (n+2) H1.1.s H1.2.1 HG.out (by omega) (by omega) (by omega)).mono ?_;rintro e w2 ⟨rfl,d2,fJ,ho2,hd2⟩;obtain⟨S2,hS2⟩:∃S2,(TS.o9 {((S.jD (jS kept) (d.ro+1)).ng 1 (d.ro+1)).cut 0 kept 0 with B:=B'} (kept+2) (n+2)).lives (kept+2)=S2:=⟨_,rfl⟩;have hW2:nJ S2 n kept:=by
  rw[<-hS2];have:=(HT.1.sees ((S.jD (jS kept) (d.ro+1)).ng 1 (d.ro+1)).se).cut hk B';exact⟨this.nt,this.p0,this.k0,this.v0,this.t0,this.p1,this.k1,this.v1,this.pe,this.Jd,this.Jc⟩
 have hd1:=H1.2.2;have hp2:d2.p={d.p with ro:=d.ro+1,se:=d.ro+1,jA:=d2.jA,tb:=d2.tb,TP:=d2.TP}:=by
  have h2:d2.p={d1.p with jA:=d2.jA,tb:=d2.tb,TP:=d2.TP}:=by
   obtain⟨tb,TP,lv,rfl⟩:∃tb TP lv,d2=d1.tabs d1.tab lv d1.jc d1.sin d1.lv d1.ro tb TP:=⟨_,_,_,hd2⟩;rfl
  rw[h2,hd1]
 have zV:d2.ro=d.ro+1:=aJ DP.ro hp2;have Xu:d2.se=d.ro+1:=aJ DP.se hp2;have hsp2:Sp X d u d2 w2:=H1.1.trans fJ;have Jp:∀j,j<kept+2->S2.tv j=ptr (S2.K j):=fun j hj=>by
  rw[<-hS2];show(if kept+2<=j/\j<n+2 then Value.pointer none else S.tv j)=_;rw[au (by omega)];exact HT.2.1 j (by omega)
 have hsl:∀j,S2.se j<=d2.ro:=fun j=>by
  rw[<-hS2,zV];show(if j=1 then d.ro+1 else if j∈jS kept then d.ro+1 else S.se j)<=d.ro+1;have:=HT.2.2.2 j;split
  ·omega
  ·split<;>omega
 have hX2:JG X d2:=by
  have e:d2.held=d.held:=aJ DP.held hp2;obtain⟨x1,x2,x3,x4,x5⟩:=HS.2.2.2;exact⟨x1,by rw[e];exact x2,by rw[e];exact x3,x4,x5⟩
 rw[hS2] at ho2;have HR:Hid (Calls Tryz.prog 303 #[ptr X.M] w2 fun e w'=>∃R Q,e=.returned (ptr R)/\Reached X d2 w2 ((S2.jD (jS kept) (d2.ro+1)).ng 1 (d2.ro+1)) (kept+(1+kept)+2) (nU (yc kept) rW kept) (d2.ro+1) R Q w'):=qq2 X d2 S2 w2 n kept kept hsp2.s ho2 (HS.2.1.step hsp2) (HS.2.2.1.step hsp2 (aJ DP.sc hp2) (aJ DP.vs hp2)) hW2 hk (ah _) hn Jp hsl (by omega) (by omega) hX2;have H2:Hid (Sp X d u d2 w2/\nJ S2 n kept/\(∀j,j<kept+2->S2.tv j=ptr (S2.K j))/\d2.p={d.p with ro:=d.ro+1,se:=d.ro+1,jA:=d2.jA,tb:=d2.tb,TP:=d2.TP}):=⟨hsp2,hW2,Jp,hp2⟩;have Yv:Hid (d2.ro=d.ro+1):=zV;clear fJ ho2 hd2 hS2 hW2 hd1 hp2 zV Xu hsp2 Jp hsl hX2 H1 PY HG;go_wp2_with fail;refine HR.mono ?_;rintro e w3 ⟨R,Q,rfl,d3,a3,c3,hd3,fM,hz3,hR3,hQ3⟩;have r4:w3.cell? ⟨R,4,none⟩=some (.int .i64 ((kept+(1+kept)+2:Nat):Int)):=hz3.t.b.1.cell 4 rfl;have lR:=hz3.t.b.1.1;have m20:=hz3.t.s.m.1.cell 20 rfl;have m21:=hz3.t.s.m.1.cell 21 rfl;have mf:=hz3.t.s.m.2;have lM:=hz3.t.s.m.1.1;obtain⟨cn,hcn⟩:∃cn,kept+(1+kept)+2=cn:=⟨_,rfl⟩;rw[hcn] at r4;have HF:Hid (MB X d n kept u ((w3.setCell ⟨X.M,20,none⟩ (.int .i64 (cn:Int))).setCell ⟨X.M,21,none⟩ (.int .i64 0))/\cn=3+2*kept):=by
  have g1:=Sp.lvs hz3.t.s cn;have g2:=Sp.since g1.s 0;refine⟨⟨_,_,((H2.1.trans fM).trans g1).trans g2,⟨hz3.o.b,hz3.o.p,hz3.o.t,hz3.o.l⟩,H2.2.1.sees _,H2.2.2.1,?_⟩,by omega⟩;have e:cn=3+2*kept:=by omega
  have hp3:d3.p={d2.p with ro:=d2.ro+1,se:=d2.ro+1,tb:=d3.tb,TP:=d3.TP}:=by
   obtain⟨tb,TP,rfl⟩:∃tb TP,d3={d2 with ro:=d2.ro+1,se:=d2.ro+1,tb:=tb,TP:=TP}:=⟨_,_,hd3⟩;rfl
  show{d3.p with lv:=cn,sin:=0}=_;rw[hp3,H2.2.2.2,e,Yv.out];have e2:d3.jA=d2.jA:=aJ DP.jA hp3;show _={d.p with lv:=3+2*kept,ro:=d.ro+2,se:=d.ro+2,sin:=0,jA:=d3.jA,tb:=d3.tb,TP:=d3.TP};rw[e2]
 clear hd3 fM hz3 hR3 hQ3 hcn HR;go_wp2_with fail;go_ret;exact⟨y81 (by have:=HF.2;omega),HF.1⟩
def qw(X:RX)(p:DP)(S:TS):Prop:=p.tb=S.tb/\p.TP=iU X.N S/\p.tab=.slice S.ta S.nt S.tc/\p.jA=.slice S.la S.li.length S.lc
theorem jl.tp{X:RX}{d:MD}{S:TS}(o:jl X d S):qw X d.p S:=⟨o.b,o.p,o.t,o.l⟩
theorem qw.to{X:RX}{d:MD}{S:TS}(o:qw X d.p S):jl X d S:=⟨o.1,o.2.1,o.2.2.1,o.2.2.2⟩
theorem z15(X:RX)(d:MD)(S:TS)(i j g c:Nat)(u:World)(h:St X d u)(o:jl X d S)(hg:Bl X d u g [jr i,jr j])(hi:i<S.nt)(hj:j<S.nt)(vi:S.tv i=ptr (S.K i))(vj:S.tv j=ptr (S.K j))(hl:(ET S j MS).k≠6):Calls Tryz.prog 248 #[ptr X.M,.int .i64 4,.slice (some ⟨g,0,none⟩) 2 c] u fun e w'=>qx X d u [jr i] (fun q=>qw X q (S.kind i (ptr (S.K j)))/\q={d.p with tb:=q.tb,TP:=q.TP}) e w':=by
 have HS:Hid (St X d u):=h;have HG:Hid (Bl X d u g [jr i,jr j]):=hg;have HK:Hid (∀w,gZ u w->Calls Tryz.prog 299 #[ptr X.M,iJ 5 0 0 ⟨#[]⟩ (i:Int),iJ 5 0 0 ⟨#[]⟩ (j:Int)] w fun e w'=>e=.returned (iJ 5 0 0 ⟨#[]⟩ (i:Int))/\yu8 X d S i j w w'):=fun w hb=>z82 X d S i j w (h.call hb) o hi hj vi vj hl;go_in;go_wp2_with fail;refine(L6 g c 2 0 (jr i) u (by omega) HG.1.1 (HG.at rfl)).mono ?_;rintro e w1 ⟨rfl,eu⟩;have fB:Hid (gZ u w1):=eu;go_wp2_with fail;have hg1:=HG.step (Sp.below HS.out fB.out);refine(L6 g c 2 1 (jr j) w1 (by omega) hg1.1.1 (hg1.at rfl)).mono ?_;rintro e w2 ⟨rfl,eG⟩;have fD:Hid (gZ u w2):=iq fB.out eG;go_wp2_with fail;refine(HK w2 fD).mono ?_;rintro e w3 ⟨rfl,d3,fM,ho3,hp3⟩;have HF:Hid (qx X d u [jr i] (fun q=>qw X q (S.kind i (ptr (S.K j)))/\q={d.p with tb:=q.tb,TP:=q.TP}) (.returned (.slice (some ⟨w3.heap.size,0,none⟩) 1 1)) (w3.alloc (.cells (vA (jr i)) 61))):=⟨_,_,d3,rfl,.inr ⟨by simp,_,rfl,((Sp.below HS.out fD.out).trans fM).g.size,QF fM.s (jr i)⟩,((Sp.below HS.out fD.out).trans fM).alloc _,ho3.tp,hp3⟩;go_wp2_with fail;go_ret;exact HF
theorem z94(n:Int)(w:World):Calls Tryz.prog 263 #[.int .i64 n] w fun e w'=>e=.returned (iJ 2 n 0 ⟨#[]⟩ 0)/\gZ w w':=by
 go_in;go_wp2_with fail;refine(Wu n _).mono ?_;rintro e w1 ⟨rfl,hb⟩;have hO:=(OwnB.new w #[.int .i64 0,.int .i64 0,.float .f64 0,.string ⟨#[]⟩,.int .i64 0] 61).iy hb;have r0:=hO.1.cell 0 rfl;have r1:=hO.1.cell 1 rfl;have r2:=hO.1.cell 2 rfl;have r3:=hO.1.cell 3 rfl;have r4:=hO.1.cell 4 rfl;have rz:=hO.2;have HB:Hid (gZ w w1):=iq (q01 _ _) hb;go_wp2_with fail;exact aG (v:=iJ 2 n 0 ⟨#[]⟩ 0) (by simp[results,Tryz.results263,go_sem,r0,r1,r2,r3,r4]) rfl ⟨rfl,pO HB.out (ah _) _ _ _ _ _⟩
def MN(X:RX)(p:DP)(n kept:Nat)(q:DP):Prop:=∃S',qw X q S'/\nJ S' n kept/\(∀j,j<kept+2->S'.tv j=ptr (S'.K j))/\q={p with lv:=3+2*kept,ro:=p.ro+2,se:=p.ro+2,sin:=0,jA:=q.jA,tb:=q.tb,TP:=q.TP}
theorem z16(X:RX)(d:MD)(u:World)(n kept c:Nat)(a:Option Addr)(h:St X d u)(hC:∀w,gZ u w->Calls Tryz.prog 302 #[ptr X.M] w fun e w'=>e=.returned (.int .i64 ((3+2*kept:Nat):Int))/\MB X d n kept w w'):Calls Tryz.prog 248 #[ptr X.M,.int .i64 13,.slice a 0 c] u fun e w'=>qx X d u [⟨2,((3+2*kept:Nat):Int),0,⟨#[]⟩,0⟩] (MN X d.p n kept) e w':=by
 have HS:Hid (St X d u):=h;have HC:Hid (∀w,gZ u w->Calls Tryz.prog 302 #[ptr X.M] w fun e w'=>e=.returned (.int .i64 ((3+2*kept:Nat):Int))/\MB X d n kept w w'):=hC;obtain⟨m,hm⟩:∃m,3+2*kept=m:=⟨_,rfl⟩;rw[hm] at HC ⊢;go_in;go_wp2_with fail;refine(HC u (ay _ _)).mono ?_;rintro e w1 ⟨rfl,d1,S',fH,ho1,fQ,ht1,hp1⟩;have H1:Hid (Sp X d u d1 w1/\MN X d.p n kept d1.p):=⟨fH,S',ho1.tp,fQ,ht1,hp1⟩;go_wp2_with fail;refine(z94 (m:Int) w1).mono ?_;rintro e w2 ⟨rfl,eG⟩;have H2:Hid (Sp X d u d1 w2):=H1.1.call eG;have HF:Hid (qx X d u [⟨2,(m:Int),0,⟨#[]⟩,0⟩] (MN X d.p n kept) (.returned (.slice (some ⟨w2.heap.size,0,none⟩) 1 1)) (w2.alloc (.cells (vA ⟨2,(m:Int),0,⟨#[]⟩,0⟩) 61))):=⟨_,_,d1,rfl,.inr ⟨by simp,_,rfl,H2.g.size,QF H2.s _⟩,H2.alloc _,H1.2⟩;go_wp2_with fail;go_ret;exact HF
end
section
open Go.RowKit
structure AP(S:TS)(m i:Nat):Prop where
 w:nJ S m i
 t:(S.D 0).t=(i:Int)
 tv:∀j,j<m+2->S.tv j=ptr (S.K j)
 li:S.li=List.range (m+2)
 se:∀j,S.se j=0
abbrev ug:TS:=⟨0,fun _=>0,fun _=>0,fun _=>⟨0,0,fun _=>pz⟩,fun _=>none,fun _=>0,fun _=>.pointer none,fun _=>0,fun _=>.pointer none,[],none,0,none,0⟩
section
variable {S:TS}{m i K B K1 B1 tc lc Nj Oq c:Nat}{ta la Nk Ot a:Option Addr}
theorem AP.first:AP ((((ug.add K B ta tc la lc).add K1 B1 Nk Nj Ot Oq).put 1 (uV (((ug.add K B ta tc la lc).add K1 B1 Nk Nj Ot Oq).D 1) (pV tC) (pV sK)) a c).kind 0 (ptr K1)) 0 0:=by
 refine⟨⟨rfl,rfl,fun i hi=>absurd hi (aT _),fun i hi=>absurd hi (aT _),fun i hi=>absurd hi (aT _),rfl,rfl,rfl,fun j h1 h2=>by omega,rfl,fun j h1 h2=>?_⟩,rfl,fun j hj=>?_,rfl,fun j=>?_⟩
 ·obtain rfl:j=1:=by omega
  rfl
 ·match j,hj with
  |0,_=>rfl
  |1,_=>rfl
  |j+2,h=>omega
 ·simp[TS.kind,TS.put,TS.add]
theorem AP.add(h:AP S m i):AP (S.add K B ta tc la lc) (m+1) i:=by
 have hn:=h.w.nt;have ne:∀j,j<m+2->j≠S.nt:=fun j hj=>by omega
 have e0:(0:Nat)≠S.nt:=ne 0 (by omega);have e1:(1:Nat)≠S.nt:=ne 1 (by omega);refine⟨⟨by show S.nt+1=_;omega,?_,?_,?_,?_,?_,?_,?_,fun j h1 h2=>?_,?_,fun j h1 h2=>?_⟩,?_,fun j hj=>?_,?_,fun j=>?_⟩
 ·simpa[TS.add,e0] using h.w.p0
 ·simpa[TS.add,e0] using h.w.k0
 ·simpa[TS.add,e0] using h.w.v0
 ·simpa[TS.add,e0] using h.w.t0
 ·simpa[TS.add,e1] using h.w.p1
 ·simpa[TS.add,e1] using h.w.k1
 ·simpa[TS.add,e1] using h.w.v1
 ·by_cases c:j=S.nt
  ·simp[TS.add,c]
  ·have:=h.w.pe j h1 (by omega);simpa[TS.add,c] using this
 ·have:=h.w.Jd;simpa[TS.add,e0,e1] using this
 ·by_cases c:j=S.nt
  ·simp[TS.add,c]
  ·have:=h.w.Jc j h1 (by omega);simpa[TS.add,c] using this
 ·simpa[TS.add,e0] using h.t
 ·by_cases c:j=S.nt
  ·simp[TS.add,c]
  ·have:=h.tv j (by omega);simpa[TS.add,c] using this
 ·show S.li++[S.nt]=_;rw[h.li,hn];exact(bU (n:=m+2)).symm
 ·by_cases c:j=S.nt
  ·simp[TS.add,c]
  ·simpa[TS.add,c] using h.se j
theorem AP.put(h:AP S (i+1) i):AP (S.put 0 (uV (S.D 0) (jT 5 ((i+2:Nat):Int)) ⟨2,(i:Int),0,⟨#[]⟩,0⟩) a c) (i+1) (i+1):=by
 have hp:=h.w.p0;refine⟨⟨h.w.nt,by simp[TS.put,hp],fun j hj=>?_,fun j hj=>?_,fun j hj=>?_,by simpa[TS.put] using h.w.p1,by simpa[TS.put] using h.w.k1,by simpa[TS.put] using h.w.v1,fun j h1 h2=>?_,h.w.Jd,h.w.Jc⟩,by simp[TS.put,h.t],h.tv,h.li,h.se⟩
 ·by_cases c:j=i
  ·subst c;simp[TS.put,hp,jY]
  ·have:=h.w.k0 j (by omega);simpa[TS.put,hp,jY,c] using this
 ·by_cases c:j=i
  ·subst c;simp[TS.put,hp,jY]
  ·have:=h.w.v0 j (by omega);simpa[TS.put,hp,jY,c] using this
 ·by_cases c:j=i
  ·subst c;simp[TS.put,hp,jY,h.t]
  ·have:=h.w.t0 j (by omega);simpa[TS.put,hp,jY,c] using this
 ·have hj:j≠0:=by omega
  simpa[TS.put,hj] using h.w.pe j h1 h2
end
end
section
open Go.RowKit
attribute [local go_sem] iD
attribute [local go_sem ↓] Go.wp_at_zero Go.wp_at_succ
theorem Wj(x:Value)(u:World):Calls Tryz.prog 57 #[.nilIface,x] u fun e w'=>e=.returned (.bool false)/\w'=u:=by
 go_in;go_wp2_with fail;go_ret;exact⟨rfl,rfl⟩
theorem qu3(u:World):Calls Tryz.prog 205 #[.nilIface] u fun e w'=>e=.returned (.tuple #[.bool false,.nilIface])/\gZ u w':=by
 go_in;go_wp2_with fail;refine(Wj _ _).mono ?_;rintro e w1 ⟨rfl,rfl⟩;go_wp2_with fail;exact aG (v:=.tuple #[.bool false,.nilIface]) (by simp[results,Tryz.results205,go_sem]) rfl ⟨rfl,q01 _ _⟩
abbrev MR:ByteArray:=⟨#[101,97,99,104]⟩
theorem qz8(X:RX)(d:MD)(S:TS)(j:Nat)(kk:Option Nat)(s:ByteArray)(u:World)(h:St X d u)(o:jl X d S)(hj:j<S.nt)(vj:S.tv j=ptr (S.K j))(hk:vH S j kk):Calls Tryz.prog 249 #[ptr X.M,iJ 5 0 0 ⟨#[]⟩ (j:Int),.string s] u fun e w'=>e=.returned (iJ (hdl S kk s).k (hdl S kk s).n (hdl S kk s).f (hdl S kk s).s (hdl S kk s).r)/\gZ u w':=by
 have HT:Hid (∀w,gZ u w->Calls Tryz.prog 94 #[ptr X.M,iJ 5 0 0 ⟨#[]⟩ (j:Int)] w fun e w'=>e=.returned (ptr (S.K j))/\gZ w w'):=fun w hw=>O9 X d S j w (h.call hw) o hj vj;have HH:Hid (∀w,gZ u w->Calls Tryz.prog 266 #[ptr (S.K j),.string s] w fun e w'=>e=.returned (iJ (hdl S kk s).k (hdl S kk s).n (hdl S kk s).f (hdl S kk s).s (hdl S kk s).r)/\gZ w w'):=fun w hw=>SI X d S j kk s w (h.call hw) o hj hk;generalize hdl S kk s=x at HH ⊢;go_in;go_wp2_with fail;obtain⟨w1,fQ⟩:∃w1,(u.alloc (.cells #[.int .i64 5,.int .i64 0,.float .f64 0,.string ⟨#[]⟩,.int .i64 (j:Int)] 61)).alloc (.cells z5 61)=w1:=⟨_,rfl⟩;obtain⟨B6,LG⟩:∃B6,u.heap.size+1=B6:=⟨_,rfl⟩;have H1:Hid (gZ u w1/\OwnB w1 B6 z5/\u.heap.size<=B6):=by
  rw[<-fQ,<-LG];exact⟨(q01 _ _).alloc (by rw[aN];omega) _,zN _ _ _ _,by omega⟩
 rw[fQ,LG];refine(HT w1 H1.1).mono ?_;rintro e w2 ⟨rfl,eG⟩;have H2:Hid (gZ u w2/\OwnB w2 B6 z5):=⟨iq H1.1 eG,H1.2.1.iy eG⟩;go_wp2_with fail;refine(HH w2 H2.1).mono ?_;rintro e w3 ⟨rfl,eH⟩;have hO:=H2.2.iy eH;have r0:=hO.1.cell 0 rfl;have r1:=hO.1.cell 1 rfl;have r2:=hO.1.cell 2 rfl;have r3:=hO.1.cell 3 rfl;have r4:=hO.1.cell 4 rfl;have rz:=hO.2;have rl:=hO.1.1;have HB:Hid (gZ u w3):=iq H2.1 eH;have hle:=H1.2.2;go_wp2_with fail;exact aG (v:=iJ x.k x.n x.f x.s x.r) (by simp[results,Tryz.results249,go_sem,r0,r1,r2,r3,r4]) rfl ⟨rfl,pO HB.out hle _ _ _ _ _⟩
theorem zf1(X:RX)(j:Nat)(x:VD)(u:World)(hx:x.k=0)(hh:∀w,gZ u w->Calls Tryz.prog 249 #[ptr X.M,iJ 5 0 0 ⟨#[]⟩ (j:Int),.string MR] w fun e w'=>e=.returned (iJ x.k x.n x.f x.s x.r)/\gZ w w'):Calls Tryz.prog 211 #[ptr X.M,iJ 5 0 0 ⟨#[]⟩ (j:Int)] u fun e w'=>e=.returned (iJ 5 0 0 ⟨#[]⟩ (j:Int))/\gZ u w':=by
 have HH:Hid (∀w,gZ u w->Calls Tryz.prog 249 #[ptr X.M,iJ 5 0 0 ⟨#[]⟩ (j:Int),.string MR] w fun e w'=>e=.returned (iJ x.k x.n x.f x.s x.r)/\gZ w w'):=hh;have hxb:(x.k==0)=true:=by simpa using hx
 clear hh hx;go_in;go_wp2_with fail;obtain⟨w1,fQ⟩:∃w1,(u.alloc (.cells #[.int .i64 5,.int .i64 0,.float .f64 0,.string ⟨#[]⟩,.int .i64 (j:Int)] 61)).alloc (.cells z5 61)=w1:=⟨_,rfl⟩;obtain⟨B3,hB3⟩:∃B3,u.heap.size=B3:=⟨_,rfl⟩;obtain⟨B4,hB4⟩:∃B4,u.heap.size+1=B4:=⟨_,rfl⟩;have H1:Hid (gZ u w1/\OwnB w1 B3 (vA (jr j))/\OwnB w1 B4 z5/\u.heap.size<=B4/\B3≠B4):=by
  rw[<-fQ,<-hB3,<-hB4];exact⟨(q01 _ _).alloc (by rw[aN];omega) _,(OwnB.new _ _ _).iy (q01 _ _),zN _ _ _ _,by omega,by omega⟩
 rw[fQ,hB4,hB3];clear fQ hB3 hB4;refine(HH w1 H1.1).mono ?_;rintro e w2 ⟨rfl,eG⟩;have H2:Hid (gZ u w2/\OwnB w2 B3 (vA (jr j))/\OwnB w2 B4 z5):=⟨iq H1.1 eG,H1.2.1.iy eG,H1.2.2.1.iy eG⟩;clear eG HH
 go_upto_region 2 with fail
 obtain⟨w3,fV⟩:∃w3,w2.alloc (.cells #[.int .i64 x.k,.int .i64 x.n,.float .f64 x.f,.string x.s,.int .i64 x.r] 61)=w3:=⟨_,rfl⟩;obtain⟨B5,uy⟩:∃B5,w2.heap.size=B5:=⟨_,rfl⟩;have H3:Hid (gZ u w3/\OwnB w3 B3 (vA (jr j))/\OwnB w3 B4 z5/\OwnB w3 B5 (vA x)):=by
  rw[<-fV,<-uy];exact⟨iq H2.1 (q01 _ _),H2.2.1.iy (q01 _ _),H2.2.2.iy (q01 _ _),OwnB.new _ _ _⟩
 rw[fV,uy];clear fV uy H2;obtain⟨v0,v1,v2,v3,v4⟩:=H3.2.1.c5;have lv:=H3.2.1.1.1;have x0:=H3.2.2.2.1.cell 0 rfl;have lx:=H3.2.2.2.1.1;have hO:=H3.2.2.1;have r0:=hO.1.cell 0 rfl;have r1:=hO.1.cell 1 rfl;have r2:=hO.1.cell 2 rfl;have r3:=hO.1.cell 3 rfl;have r4:=hO.1.cell 4 rfl;have rz:=hO.2;have rl:=hO.1.1;have HB:Hid (gZ u w3):=H3.1;clear hO H3;have hle:=H1.2.2.2.1;go_wp2_with fail;exact aG (v:=iJ 5 0 0 ⟨#[]⟩ (j:Int)) (by simp[results,Tryz.results211,go_sem,r0,r1,r2,r3,r4]) rfl ⟨rfl,pO HB.out hle _ _ _ _ _⟩
abbrev RF(b c:Nat):Value:=.func (.func 258) #[] #[.pointer (some ⟨b,0,none⟩),.pointer (some ⟨c,0,none⟩)]
theorem zl1(X:RX)(j K:Nat)(u:World)(hT:∀w,gZ u w->Calls Tryz.prog 94 #[ptr X.M,iJ 5 0 0 ⟨#[]⟩ (j:Int)] w fun e w'=>e=.returned (ptr K)/\gZ w w'):Calls Tryz.prog 212 #[ptr X.M,iJ 5 0 0 ⟨#[]⟩ (j:Int)] u fun e w'=>∃b c,e=.returned (RF b c)/\OwnB w' b #[ptr X.M]/\OwnB w' c #[ptr K]/\u.heap.size<=b/\u.heap.size<=c/\gZ u w':=by
 have HT:Hid (∀w,gZ u w->Calls Tryz.prog 94 #[ptr X.M,iJ 5 0 0 ⟨#[]⟩ (j:Int)] w fun e w'=>e=.returned (ptr K)/\gZ w w'):=hT;go_in;go_wp2_with fail;obtain⟨w1,fQ⟩:∃w1,(u.alloc (.cells #[ptr X.M] 39)).alloc (.cells #[.int .i64 5,.int .i64 0,.float .f64 0,.string ⟨#[]⟩,.int .i64 (j:Int)] 61)=w1:=⟨_,rfl⟩;obtain⟨B2,hB2⟩:∃B2,u.heap.size=B2:=⟨_,rfl⟩;have H1:Hid (gZ u w1/\OwnB w1 B2 #[ptr X.M]/\u.heap.size<=B2):=by
  rw[<-fQ,<-hB2];exact⟨(q01 _ _).alloc (by rw[aN];omega) _,(OwnB.new _ _ _).iy (q01 _ _),ah _⟩
 rw[show(u.alloc (.cells #[ptr X.M] 39)).alloc (.cells #[.int .i64 5,.int .i64 0,.float .f64 0,.string ⟨#[]⟩,.int .i64 (j:Int)] 61)=w1 from fQ,hB2];refine(HT w1 H1.1).mono ?_;rintro e w2 ⟨rfl,eG⟩;have HF:Hid (∃b c,RF B2 w2.heap.size=RF b c/\OwnB (w2.alloc (.cells #[ptr K] 188)) b #[ptr X.M]/\OwnB (w2.alloc (.cells #[ptr K] 188)) c #[ptr K]/\u.heap.size<=b/\u.heap.size<=c/\gZ u (w2.alloc (.cells #[ptr K] 188))):=⟨B2,w2.heap.size,rfl,(H1.2.1.iy eG).iy (q01 _ _),OwnB.new _ _ _,H1.2.2,(iq H1.1 eG).size,iq (iq H1.1 eG) (q01 _ _)⟩;go_wp2_with fail;go_ret;obtain⟨b,c,h1,h2⟩:=HF.out;exact⟨b,c,by rw[<-h1];rfl,h2⟩
def Qz(X:RX)(m:Nat)(R:Value->MD->World->Prop)(way:Value)(d':MD)(w':World):Prop:=∃d1 w1,R way d1 w1/\Sp X d1 w1 d' w'/\d'.p=d1.p.wU m
theorem zh3(X:RX)(d:MD)(u:World)(rb ro rc g c n F:Nat)(iv:List Nat)(l:List VD)(cs:Array Value)(R:Value->MD->World->Prop)(h:St X d u)(hr:∀d' w',Sp X d u d' w'->∀(j i:Nat),iv[j]?=some i->w'.cell? ⟨rb,ro+j,none⟩=some (.int .i64 (i:Int)))(hiv:∀(j i:Nat),iv[j]?=some i->i<X.nv)(hg:Bl X d u g l)(hn:iv.length=n)(hl:l.length=n)(hn2:n<=100)(hsc:d.sc.length<=900)(hE:tq F)(hb:∀w,z62 X d u iv l n w->Calls Tryz.prog F (#[ptr X.F]++cs) w fun e w'=>∃way d',e=.returned way/\Sp X d u d' w'/\R way d' w'/\d.sc.length<=d'.sc.length):Calls Tryz.prog 209 #[ptr X.F,.slice (some ⟨rb,ro,none⟩) n rc,.slice (some ⟨g,0,none⟩) n c,iE F cs] u fun e w'=>kK X d u (Qz X d.sc.length R) e w':=by
 have HD:Hid (Calls Tryz.prog 87 #[ptr X.F,.slice (some ⟨rb,ro,none⟩) n rc,.slice (some ⟨g,0,none⟩) n c] u fun e w'=>e=.returned (.tuple #[])/\z62 X d u iv l n w'):=zc2 X d rb ro rc g c n iv l u h hr hiv hg hn hl hn2 hsc;have HB:Hid (∀w,z62 X d u iv l n w->Calls Tryz.prog F (#[ptr X.F]++cs) w fun e w'=>∃way d',e=.returned way/\Sp X d u d' w'/\R way d' w'/\d.sc.length<=d'.sc.length):=hb;have sJ:∀args w,(callFunc F args).run Tryz.prog w=.ok (.enter F args) w:=hE;have f10:u.cell? ⟨X.F,10,none⟩=some (.slice d.sa d.sc.length d.sp):=h.f.1.cell 10 rfl;have lF:=h.f.1.1;have HM:Hid (d.sc.length<=900):=hsc;obtain⟨m,hm⟩:∃m,d.sc.length=m:=⟨_,rfl⟩;rw[hm] at f10 HM HB ⊢;go_in;go_wp2_with fail;refine HD.mono ?_;rintro e w1 ⟨rfl,hd1⟩;have HC:Hid (Calls Tryz.prog F (#[ptr X.F]++cs) w1 fun e w'=>∃way d',e=.returned way/\Sp X d u d' w'/\R way d' w'/\m<=d'.sc.length):=HB.out w1 hd1;go_wp2_with fail;refine HC.mono ?_;rintro e w2 ⟨way,d1,rfl,fH,fG,hm1⟩;have gy:=fH.s.FM;have hif:=yr9 d1.sa (d1.sp=0) (gy.2.elim (fun h=>.inl h.1) .inr);have hcp:m<=d1.sp:=by omega
 have hc0:m<=900:=HM.out;obtain⟨z,hz⟩:∃z,d1.sc.length=z:=⟨_,rfl⟩;have g10:w2.cell? ⟨X.F,10,none⟩=some (.slice d1.sa z d1.sp):=by rw[<-hz];exact fH.s.f.1.cell 10 rfl
 have gz:=fH.s.f.2;have lF:=fH.s.f.1.1;have HF:Hid (kK X d u (Qz X m R) (.returned way) (w2.setCell ⟨X.F,10,none⟩ (.slice d1.sa m d1.sp))):=by
  have h2:=Sp.wU fH.s (m:=m) hm1;exact⟨_,_,rfl,fH.trans h2,d1,w2,fG,h2,rfl⟩
 go_wp2_with fail;go_ret;exact HF
end
section
open Go.RowKit
theorem jC.cells{w:World}{B:Nat}{t:TypeId}(h:jC w B t){o:Obj}(e:w.heap[B]?=some o):o.isCells=true:=by
 obtain⟨A,fr,h⟩:=h;rw[h] at e;cases e;rfl
theorem Has.isc{w:World}{B:Nat}{A:Array Value}(h:Has w B A)(hA:0<A.size){o:Obj}(e:w.heap[B]?=some o):o.isCells=true:=by
 obtain⟨ob,ho,hc⟩:=cells_of_cell (h.cell 0 (cO hA));rw[e] at ho;cases ho;exact hc
theorem St.zS{X:RX}{d:MD}{S:TS}{u:World}(h:St X d u)(o:jl X d S){r:Nat}{ob:Obj}(hr:u.heap[r]?=some ob)(hc:ob.isCells=false)(hB:∀j,j<S.nt->r≠S.B j):¬stB X d r:=fun e=>by
 have hi:=o.is h;have no:ob.isCells=true->False:=fun c=>by rw[hc] at c;cases c
 have hx:=h.ty;rcases e with e|e|e|e|e|e|e|e|e
 ·subst e;exact no (hx.m.cells hr)
 ·subst e;exact no (hx.t.cells hr)
 ·subst e;exact no (hx.f.cells hr)
 ·subst e;exact no (hx.v.cells hr)
 ·exact no ((lJ h.rr e).cells hr)
 ·exact no ((lJ h.hr e).cells hr)
 ·exact no ((lJ h.sr e).cells hr)
 ·exact no ((lJ h.fw e).cells hr)
 ·rw[o.b] at e;rcases e with⟨j,hj,e|e|e⟩|e|e
  ·subst e;exact no ((hi.k j hj).1.1.isc (by simp) hr)
  ·exact hB j hj e
  ·exact no ((lJ (hi.p j hj) e).cells hr)
  ·exact no ((lJ hi.r e).cells hr)
  ·exact no ((lJ hi.l e).cells hr)
theorem Sp.ck{X:RX}{d d':MD}{u w:World}(h:Sp X d u d' w):jW (stB X d) u w:=fun b _ h1 _ h3=>(h.g.block b (aA.1 h1).1 h3).trans h1
theorem BK.far{X:RX}{d:MD}{S:TS}{u:World}(h0:St X d u)(o:jl X d S){l D:Nat}{r:Loop}(hb:BK l D r u):¬stB X d l/\¬stB X d D:=
 ⟨h0.zS o hb.1 rfl fun j hj e=>(by obtain⟨_,_,hm,_⟩:=((o.is h0).m j hj).1;rw[<-e,hb.1] at hm;nomatch hm),h0.zS o hb.2 rfl fun j hj e=>(by obtain⟨_,_,hm,_⟩:=((o.is h0).m j hj).1;rw[<-e,hb.2] at hm;nomatch hm)⟩
theorem Sp.bk{X:RX}{d d':MD}{S:TS}{u w:World}(h:Sp X d u d' w)(h0:St X d u)(o:jl X d S){l D:Nat}{r:Loop}(hb:BK l D r u):BK l D r w:=
 ⟨(h.g.block l (aA.1 hb.1).1 (hb.far h0 o).1).trans hb.1,(h.g.block D (aA.1 hb.2).1 (hb.far h0 o).2).trans hb.2⟩
theorem Sp.kf{X:RX}{d d':MD}{S:TS}{u w:World}(h:Sp X d u d' w)(h0:St X d u)(o:jl X d S){B:Nat}(hB:∀j,j<S.nt->S.B j<B):KeepsFrom B u w:=
 ⟨h.g.size,fun k _ h1 h2 h3=>(h.g.block k (aA.1 h2).1 (h0.zS o h2 h3 fun j hj=>by have:=hB j hj;omega)).trans h2⟩
theorem St.Oj{X:RX}{d:MD}{S:TS}{u:World}(h:St X d u)(o:jl X d S){B:Nat}{b:Bool}(hT:jC u B 386)(hc:u.cell? ⟨B,0,none⟩=some (.bool b)):¬stB X d B:=fun e=>by
 have hi:=o.is h;have hx:=h.ty;rcases e with e|e|e|e|e|e|e|e|e
 ·exact hT.ne hx.m (by decide) e
 ·exact hT.ne hx.t (by decide) e
 ·exact hT.ne hx.f (by decide) e
 ·exact hT.ne hx.v (by decide) e
 ·exact hT.ne (lJ h.rr e) (by decide) rfl
 ·exact hT.ne (lJ h.hr e) (by decide) rfl
 ·exact hT.ne (lJ h.sr e) (by decide) rfl
 ·exact hT.ne (lJ h.fw e) (by decide) rfl
 ·rw[o.b] at e;rcases e with⟨j,hj,e|e|e⟩|e|e
  ·subst e;have:=(hi.k j hj).1.1.cell 0 rfl;rw[hc] at this;cases this
  ·subst e;obtain⟨_,_,hm,_⟩:=(hi.m j hj).1;obtain⟨_,_,ht⟩:=hT;rw[ht] at hm;cases hm
  ·exact hT.ne (lJ (hi.p j hj) e) (by decide) rfl
  ·exact hT.ne (lJ hi.r e) (by decide) rfl
  ·exact hT.ne (lJ hi.l e) (by decide) rfl
def EI(X:RX)(d0:MD)(w0:World)(S:TS)(J:Nat->DP->Prop)(k:Nat)(W:World):Prop:=∃d,Sp X d0 w0 d W/\jl X d S/\J k d.p
theorem EI.own{X:RX}{d0:MD}{w0:World}{S:TS}{J:Nat->DP->Prop}(h0:St X d0 w0)(hB:∀j,j<S.nt->S.B j<w0.heap.size):OwnFrom w0.heap.size (EI X d0 w0 S J):=fun k W W' row hs hg hr=>by
 obtain⟨d,h1,h2,h3⟩:=hs;refine⟨d,?_,h2,h3⟩
 cases row with
 |none=>exact h1.call ⟨hg.os,hg.tape,hg.output,hg.size,fun k hk=>hg.block k hk (by simp)⟩
 |some r=>
  obtain⟨fG,ob,hr2,hr3⟩:=hr r rfl;exact Sp.ni (D:=r) h1 ((Gx.grown hg).mono (fun k e=>(aQ e).symm)) (h1.s.zS h2 hr2 hr3 fun j hj e=>by have:=hB j hj;omega) fG h0
def EP(X:RX)(d0:MD)(w0:World)(S:TS)(J:Nat->DP->Prop)(q:Nat->PD)(k:Nat)(x:MD×Nat)(W:World):Prop:=Sp X d0 w0 x.1 W/\jl X x.1 S/\(∃p,J k p/\x.1.p=p.tick)/\Bl X x.1 W x.2 [(q k).key,(q k).val]
abbrev fK(q:Nat->PD)(N k:Nat):Array Value:=fC (decide (k<N)) (if k<N then q k else pz)
theorem yn4{q:Nat->PD}{N k:Nat}{f:Bool}{p:PD}(h:QU q (k:Int) N f p)(ht:∀i,i<N->(q i).turn=(i:Int)+1)(hk:k<=N):fC f p=fK q N k:=by
 rcases h with⟨rfl,j,hj,rfl,h1,h2⟩|⟨rfl,rfl,h1⟩
 ·have hj1:=ht j hj;have hkj:k<=j:=by omega
  have:j=k:=by
   by_cases c:k<j
   ·have:=h2 k c;have:=ht k (by omega);omega
   ·omega
  subst this;simp[fK,hj]
 ·have:¬k<N:=fun c=>by
   have h2:=h1 k c;have:=ht k c;omega
  simp[fK,this]
end
end Go.Proofs.YthnkncpegihbhaaGreatDoor
