import Derived.Test.YtihnikeikhjndaaGreatDoorYqC
import Derived.Test.YtihnikeikhjndaaGreatDoorYbJ
import Derived.Test.YtihnikeikhjndaaGreatDoorYrK
import Derived.Test.YtihnikeikhjndaaGreatDoorUnD
import Derived.Test.YtihnikeikhjndaaGreatDoorYtB
import Derived.Test.YtihnikeikhjndaaGreatDoorChA
import Derived.Conc.EventLaws
import Derived.Test.YtihnikeikhjndaaGreatDoorRowB
set_option maxRecDepth 100000
set_option maxHeartbeats 16000000
namespace Go.Proofs.YtihnikeikhjndaaGreatDoor
section
open Go.RowKit
section
variable {X:RX}{n0:Nat}
theorem q30{B:Nat}{A:Array Value}(hX:X.M<n0)(h:Nb n0 X.W B A):Od X B A:=⟨h.h,by have:=h.n;omega⟩
theorem yp2{a:Option Addr}{k:Nat}{q:Nat->Array Value}(hX:X.M<n0)(h:aP 1 n0 X.W a k q)(hz:k=0->a=none):∀b,a=some b->b.block≠X.M:=fun b e=>by
 rcases Nat.eq_zero_or_pos k with c|c
 ·rw[hz c] at e;cases e
 ·obtain⟨b',off,e',h1,_⟩:=h c;rw[e] at e'
  cases e';show b'≠X.M;omega
theorem yb0{oa:Option Addr}{Vs:Nat->Value}{i1:Nat}(hX:X.M<n0)(hrow:aP 1 n0 X.W oa 1 fun j=>#[Vs j])(hl:z38 (i1:Int) (Vs 0) n0 X.W):∃Bs:Nat->Nat,Kt X oa 1 Bs (fun _=>i1):=by
 obtain⟨B,e,h⟩:=hl;refine⟨fun _=>B,?_,yp2 hX hrow (fun c=>by omega),fun i _=>q30 hX h⟩;intro h0;obtain⟨b,off,e',q1,q2,q3⟩:=hrow h0;refine⟨b,off,e',Nat.zero_le _,q2,fun i hi j hj=>?_⟩;obtain rfl:i=0:=by omega
 rw[q3 0 hi j hj];show #[Vs 0][j]?=_;rw[e]
theorem yq2{bb:Nat}{m:Int}{p:Value}(hX:X.M<n0)(h:vZ (qb2 kE) (uf bb (qa0 0 fun _=>qb2 (jk m)) (z39 (qb2 (jk m)))) p n0 X.W):∃P:EI,p=AX P.p1 P.p2/\P.ok X (jk m):=by
 obtain⟨p1,p2,a,b,rfl,h1,h2,⟨pc,rfl,h3⟩,l1,l2,b1,ov,rv,rfl,h4,h5,h6,⟨o,oa,oc,Vs',rfl,h7,hrow,hl,hz⟩,r,x,rfl,h8,B,rfl,h9⟩:=h;obtain⟨rfl,rfl⟩:=hz rfl;exact⟨⟨p1,p2,pc,l1,l2,b1,o,none,0,fun _=>0,r,B⟩,rfl,q30 hX h1,q30 hX h3,q30 hX h2,q30 hX h4,q30 hX h7,⟨fun h0=>by omega,fun b e=>(by cases e),fun i hi=>by omega⟩,q30 hX h5,q30 hX h8,q30 hX h9⟩
theorem V7{bb:Nat}{nd v:Value}{m:Int}{A1 A2:Array Value}{L1 L2:Int}{R:Rel}(hX:X.M<n0)(h1:A1[1]?=some (.int .i64 L1))(h2:A2[1]?=some (.int .i64 L2))(hb:Nb n0 X.W bb #[ptr X.M,nd])(h:JX bb m A1 A2 R v n0 X.W):∃(k1 k2 ka kc s1 s2 s3 y1 y2 t1 t2 t3:Nat) (P:EI) (xv:Value),v=uq k1 k2/\Od X t3 #[xv]/\R xv n0 X.W/\∀(z1 z2:Nat) (C:CI) (pc:Nat),LI.ok ⟨bb,nd,k1,k2,ka,kc,s1,s2,s3,A1,L1,y1,y2,A1,P,t1,t2,t3,A2,L2,z1,z2,C,pc⟩ X (jk m):=by
 obtain⟨k1,k2,g,gc,Vs,rfl,q1,q2,hg1,hg2,hc⟩:=h;obtain⟨hc0,hs0⟩:=hc 0 (by omega);obtain⟨hc1,hs1⟩:=hc 1 (by omega);rw[if_pos rfl] at hs0;rw[if_neg (by omega)] at hs1;obtain⟨s1,s2,s3,x,e0,q3,q4,q5,y1,y2,p,rfl,q6,q7,hp⟩:=hs0;obtain⟨t1,t2,t3,xv,e1,q8,q9,q10,hr⟩:=hs1;obtain⟨P,rfl,hP⟩:=yq2 hX hp;rw[e0] at hc0;rw[e1] at hc1;have hg:g≠X.M:=by omega
 exact⟨k1,k2,g,gc,s1,s2,s3,y1,y2,t1,t2,t3,P,xv,rfl,q30 hX q10,hr,fun z1 z2 C pc=>⟨q30 hX hb,q30 hX q1,q30 hX q2,⟨⟨hg2,hc0⟩,hg⟩,⟨⟨hg2,hc1⟩,hg⟩,q30 hX q3,q30 hX q4,h1,q30 hX q5,q30 hX q6,q30 hX q7,h1,hP,q30 hX q8,q30 hX q9,h2⟩⟩
theorem UY{bb:Nat}{f:Int}{xv:Value}{ua:Option Addr}{uc:Nat}(hX:X.M<n0)(h:FM X.M bb (.slice ua 0 uc) f xv n0 X.W):∃(z1:Nat) (C:CI),xv=MZ z1/\Od X z1 #[qF C.r1 C.r2]/\C.ok X bb f:=by
 obtain⟨z1,av,rfl,h1,r1,r2,pv,rfl,h2,h3,c1,c2,a,b,rfl,h4,h5,⟨b1,b2,b3,rfl,h6,h7,h8⟩,hn⟩:=h;obtain rfl:b=Hu:=hn;exact⟨z1,⟨r1,r2,c1,c2,b1,b2,b3,ua,uc⟩,rfl,q30 hX h1,q30 hX h2,q30 hX h3,q30 hX h4,q30 hX h5,q30 hX h6,q30 hX h7,q30 hX h8⟩
theorem yl0{bb:Nat}{nd v:Value}{m f:Int}{A1 A2:Array Value}{L1 L2:Int}{ua:Option Addr}{uc:Nat}(hX:X.M<n0)(h1:A1[1]?=some (.int .i64 L1))(h2:A2[1]?=some (.int .i64 L2))(hb:Nb n0 X.W bb #[ptr X.M,nd])(h:JX bb m A1 A2 (FM X.M bb (.slice ua 0 uc) f) v n0 X.W):∃I:LI,v=uq I.k1 I.k2/\I.ok X (jk m)/\I.go X f/\I.L1=L1/\I.L2=L2:=by
 obtain⟨k1,k2,ka,kc,s1,s2,s3,y1,y2,t1,t2,t3,P,xv,rfl,ht,hr,hI⟩:=V7 hX h1 h2 hb h;obtain⟨z1,C,rfl,hz,hC⟩:=UY hX hr;exact⟨⟨bb,nd,k1,k2,ka,kc,s1,s2,s3,A1,L1,y1,y2,A1,P,t1,t2,t3,A2,L2,z1,0,C,0⟩,rfl,hI z1 0 C 0,⟨ht,hz,hC⟩,rfl,rfl⟩
theorem yk9{bb:Nat}{nd v:Value}{m:Int}{A1 A2:Array Value}{L1 L2:Int}(hX:X.M<n0)(h1:A1[1]?=some (.int .i64 L1))(h2:A2[1]?=some (.int .i64 L2))(hb:Nb n0 X.W bb #[ptr X.M,nd])(h:JX bb m A1 A2 (FY bb (qb2 (fE dP))) v n0 X.W):∃I:LI,v=uq I.k1 I.k2/\I.ok X (jk m)/\I.th X/\I.L1=L1/\I.L2=L2:=by
 obtain⟨k1,k2,ka,kc,s1,s2,s3,y1,y2,t1,t2,t3,P,xv,rfl,ht,⟨z1,z2,x,rfl,q1,q2,pc,rfl,q3⟩,hI⟩:=V7 hX h1 h2 hb h;exact⟨⟨bb,nd,k1,k2,ka,kc,s1,s2,s3,A1,L1,y1,y2,A1,P,t1,t2,t3,A2,L2,z1,z2,⟨0,0,0,0,0,0,0,none,0⟩,pc⟩,rfl,hI z1 z2 _ pc,⟨ht,q30 hX q1,q30 hX q2,q30 hX q3⟩,rfl,rfl⟩
structure Yk(X:RX)(A1 A2 A3:Array Value)(L1 L2 L3:Int)(tb th tc:Nat):Prop where
 l1:A1[1]?=some (.int .i64 L1)
 l2:A2[1]?=some (.int .i64 L2)
 l3:A3[1]?=some (.int .i64 L3)
 t1:A3[6]?=some (.slice (some ⟨tb,th,none⟩) 2 tc)
 t2:Oo X tb th (.int .i64 0)
 t3:Oo X tb (th+1) (.int .i64 1)
theorem V8{bb:Nat}{nd v:Value}{ua:Option Addr}{uc tb th tc:Nat}{A1 A2 A3:Array Value}{L1 L2 L3:Int}(hX:X.M<n0)(nH:1<X.nv)(hN:Yk X A1 A2 A3 L1 L2 L3 tb th tc)(hb:Nb n0 X.W bb #[ptr X.M,nd])(h:Nh X.M bb (.slice ua 0 uc) A1 A2 A3 v n0 X.W):∃Mi:MI,v=nN Mi.k1/\Mi.ok X/\Mi.D.L=L1:=by
 obtain⟨k1,g,gc,Vs,rfl,h1,hg1,hg2,hc⟩:=h;obtain⟨hc0,s1,s2,s3,xv,e0,h2,h3,h4,x1,x2,x3,x4,fv,sv,rfl,h14,h15,h16,h17,hF,hS⟩:=hc 0 (by omega);obtain⟨k2,g2,gc2,Vs2,rfl,f1,f2,f3,hf⟩:=hF;obtain⟨fc,u1,u2,u3,xv,ef,f4,f5,f6,hcg⟩:=hf 0 (by omega);obtain⟨z1,C,rfl,hz,hC⟩:=UY hX hcg;obtain⟨k3,g3,gc3,Vs3,rfl,m1,m2,m3,hm⟩:=hS;obtain⟨mc,v1,v2,v3,xv,em,m4,m5,m6,zz,av,rfl,m7,w1,w2,pv,rfl,m8,m9,i1,i2,qx,qy,rfl,m10,m11,⟨pc2,rfl,m12⟩,j1,j2,c2,ov,rv,rfl,m13,m14,m15,⟨o2,oa2,oc2,Vs4,rfl,m16,mrow,ml,mz⟩,⟨rr,vv,rfl,m17,⟨BB2,rfl,m18⟩⟩⟩:=hm 0 (by omega);obtain⟨Bs2,QW⟩:=yb0 (i1:=0) hX mrow (ml 0 (by omega));rw[e0] at hc0;rw[ef] at fc;rw[em] at mc;refine⟨⟨bb,nd,k1,g,gc,s1,s2,s3,A3,L3,x1,x2,x3,x4,A3,tb,th,tc,⟨k2,g2,gc2,u1,u2,u3,A1,L1,z1,C.r1,C.r2⟩,C,⟨k3,g3,gc3,v1,v2,v3,A2,L2,zz,w1,w2⟩,⟨w1,w2,i1,i2,pc2,j1,j2,c2,o2,oa2,oc2,Bs2,rr,BB2,0,1⟩⟩,rfl,?_,rfl⟩;exact⟨q30 hX hb,q30 hX h1,⟨⟨hg2,hc0⟩,by show g≠X.M;omega⟩,q30 hX h2,q30 hX h3,hN.l3,q30 hX h4,q30 hX h14,q30 hX h15,q30 hX h16,hN.t1,hN.t2,hN.t3,q30 hX h17,⟨q30 hX f1,⟨⟨f3,fc⟩,by show g2≠X.M;omega⟩,q30 hX f4,q30 hX f5,hN.l1,q30 hX f6,hz⟩,rfl,rfl,hC,⟨q30 hX m1,⟨⟨m3,mc⟩,by show g3≠X.M;omega⟩,q30 hX m4,q30 hX m5,hN.l2,q30 hX m6,q30 hX m7⟩,⟨q30 hX m8,q30 hX m9,q30 hX m10,q30 hX m12,q30 hX m11,q30 hX m13,q30 hX m16,QW,q30 hX m14,q30 hX m17,q30 hX m18⟩,rfl,rfl,by show 0<X.nv;omega,nH,by show(0:Nat)≠1;omega⟩
end
structure UN(u:World)(ub uo:Nat)(fn:Nat->FD)(fas:Nat->FA)(n:Nat):Prop where
 f:aZ 0 u (n+1) fn (some ⟨ub,uo,none⟩) fas
 c:∀j,j<n+1->jc (fn j) (fas j)
 n1:1<=n
 n2:n<=40
 m:MN (fn 0)
 g:∀j,1<=j->j<n->FN (fn j) (j-1:Nat) 6/\Ti (fn j) (j+1)
 t:FN (fn n) (n-1:Nat) 5/\Tf (fn n)
 p:∀j,j<n+1->(fn j).params=0/\(fn j).rest=decide (j=0)/\(fn j).name=if j=0 then iK else sG
 v0:(fn 0).vn=2
 v1:∀j,1<=j->j<n+1->(fn j).vn=0/\(fn j).un=0
 l:∀j i,dU ((fn j).nd i).l
section
variable {w u:World}{ub uo n:Nat}{fn:Nat->FD}{fas:Nat->FA}
theorem UN.call(h:UN w ub uo fn fas n)(hb:ah w u):UN u ub uo fn fas n:=⟨h.f.below hb,h.c,h.n1,h.n2,h.m,h.g,h.t,h.p,h.v0,h.v1,h.l⟩
theorem UN.cells(h:UN w ub uo fn fas n){j:Nat}(hj:j<n+1):ub<w.heap.size/\w.cell? ⟨ub,uo+j*7,none⟩=some (.string (if j=0 then iK else sG))/\w.cell? ⟨ub,uo+j*7+1,none⟩=some (.int .i64 (fn j).line)/\w.cell? ⟨ub,uo+j*7+2,none⟩=some (.int .i64 0)/\w.cell? ⟨ub,uo+j*7+3,none⟩=some (.bool (decide (j=0)))/\w.cell? ⟨ub,uo+j*7+4,none⟩=some (.slice (fas j).va (fn j).vn (fas j).vc)/\w.cell? ⟨ub,uo+j*7+5,none⟩=some (.slice (fas j).ua (fn j).un (fas j).uc)/\w.cell? ⟨ub,uo+j*7+6,none⟩=some (.slice (fas j).na (fn j).nn (fas j).nc):=by
 obtain⟨b',off,e,_,hl,c0,c1,c2,c3,c4,c5,c6⟩:=dQ h.f.1 (k:=j) hj
 cases e;rw[(h.p j hj).1] at c2;rw[(h.p j hj).2.1] at c3;rw[(h.p j hj).2.2] at c0;exact⟨hl,c0,c1,c2,c3,c4,c5,c6⟩
theorem UN.bc(h:UN w ub uo fn fas n){j:Nat}(hj:j<n+1){M bb:Nat}(hb:BB M bb (fn j) (fas j) u):BC M bb (fn j) (fas j) u:=⟨hb,(h.c j hj).2⟩
abbrev yZ(fas:Nat->FA)(j:Nat):Value:=.slice (fas j).ua 0 (fas j).uc
def EC(d:FD)(x:FA)(m:Int)(s:Nat)(R:Nat->Rel)(M:Nat):Rel:=fun v k u=>∃bb,Nb k u bb #[ptr M,.slice x.na d.nn x.nc]/\JX bb m (dJ (d.nd 3) (x.nas 3)) (dJ (d.nd s) (x.nas s)) (R bb) v k u
def MnB(d:FD)(x:FA)(M:Nat)(ups:Value):Rel:=fun v k u=>∃bb,Nb k u bb #[ptr M,.slice x.na d.nn x.nc]/\Nh M bb ups (dJ (d.nd 2) (x.nas 2)) (dJ (d.nd 8) (x.nas 8)) (dJ (d.nd 10) (x.nas 10)) v k u
def vF(fn:Nat->FD)(fas:Nat->FA)(n M j:Nat):Rel:=if j=0 then MnB (fn 0) (fas 0) M (yZ fas 1) else if j=n then EC (fn j) (fas j) (j-1:Nat) 5 (fun bb=>FY bb (qb2 (fE dP))) M else EC (fn j) (fas j) (j-1:Nat) 6 (fun bb=>FM M bb (yZ fas (j+1)) ((j+1:Nat):Int)) M
theorem y99(d:FD)(x:FA)(m:Int)(s:Nat){R:Nat->Rel}(kr:∀bb,bZ (R bb))(M:Nat):bZ (EC d x m s R M):=
 ⟨fun⟨bb,h,r⟩ c=>⟨bb,h.old c,(Gw bb 2 fun j _=>z87 bb m _ _ (kr bb) j).old r c⟩,fun⟨bb,h,r⟩ f=>⟨bb,h.fr f,(Gw bb 2 fun j _=>z87 bb m _ _ (kr bb) j).fr r f⟩⟩
theorem yj7(fn:Nat->FD)(fas:Nat->FA)(n M j:Nat):bZ (vF fn fas n M j):=by
 unfold vF;split
 ·exact⟨fun⟨bb,h,r⟩ c=>⟨bb,h.old c,(Kz M bb _ _ _ _).old r c⟩,fun⟨bb,h,r⟩ f=>⟨bb,h.fr f,(Kz M bb _ _ _ _).fr r f⟩⟩
 ·split
  ·exact y99 _ _ _ _ (fun bb=>Uk (ug _) bb) M
  ·exact y99 _ _ _ _ (fun bb=>NH M bb _ _) M
theorem Zb(h:UN w ub uo fn fas n)(tk dp ce:Int)(uc:Nat):∀j,j<n+1->Om w tk dp ce (.slice (some ⟨ub,uo,none⟩) (n+1) uc) j (fun M=>vF fn fas n M j):=fun j hj M E oa q oc u hb hM hm=>by
 have hu:=h.call hb;obtain⟨hl,_,_,_,_,_,_,c6⟩:=hu.cells hj;refine(qn0 M ub uo uc (n+1) j (fn j) (fas j) u (hm.1.cell 0 rfl) hj c6 (hu.f.2 j hj).2.2).mono ?_;rintro e u1 ⟨bb,rfl,hbb,zS,hb1⟩;refine⟨bb,rfl,hb1,?_⟩;have hs1:=hb1.size;have hM1:OwnB u1 M _:=hm.call hb1;have hcl:∀i,1<=i->i<n+1->bg 231 bb u1 i (qJ M (yZ fas i) (i:Int)):=fun i h1 hi v hv=>by
  have hv':=(hu.call hb1).call hv;obtain⟨hl,_,_,_,_,_,c5,_⟩:=hv'.cells (j:=i) hi;rw[(h.v1 i h1 hi).2] at c5;exact qv8 M bb i (n+1) ub uo uc 0 (fas i).uc (fas i).ua _ v (zS.call hv).b ((hM1.call hv).1.cell 0 rfl) c5 (hM1.call hv).1.1 hl hi
 show Calls _ _ _ _ fun e u2=>∃f x y,e=.returned (.func f x y)/\vF fn fas n M j (.func f x y) u.heap.size u2/\ah u1 u2;unfold vF;by_cases h0:j=0
 ·subst h0;rw[if_pos rfl];refine(z67 (h.bc hj zS) h.m (hcl 1 (by omega) (by have:=h.n1;omega))).mono ?_;rintro e u2 ⟨f,x,y,rfl,r,hb2⟩;exact⟨f,x,y,rfl,⟨bb,⟨hbb,zS.b.call hb2⟩,(Kz M bb _ _ _ _).old r hs1⟩,hb2⟩
 ·rw[if_neg h0];by_cases h1:j=n
  ·subst h1;rw[if_pos rfl];have kr:=Uk (ug (fE dP)) bb;refine(WY (h.bc hj zS) h.t.1 kr (by rw[h.t.2.q5.k];decide) (fun v hv=>zo9 (h.bc hj zS) h.t.1 h.t.2 v hv)).mono ?_;rintro e u2 ⟨f,x,y,rfl,r,hb2⟩;exact⟨f,x,y,rfl,⟨bb,⟨hbb,zS.b.call hb2⟩,(Gw bb 2 fun j _=>z87 bb _ _ _ kr j).old r hs1⟩,hb2⟩
  ·rw[if_neg h1];have hg:=h.g j (by omega) (by omega);have kr:=NH M bb (yZ fas (j+1)) ((j+1:Nat):Int);refine(WY (h.bc hj zS) hg.1 kr (by rw[hg.2.q6.k];decide) (fun v hv=>zp0 (h.bc hj zS) hg.1 hg.2 (hcl (j+1) (by omega) (by omega)) v hv)).mono ?_;rintro e u2 ⟨f,x,y,rfl,r,hb2⟩;exact⟨f,x,y,rfl,⟨bb,⟨hbb,zS.b.call hb2⟩,(Gw bb 2 fun j _=>z87 bb _ _ _ kr j).old r hs1⟩,hb2⟩
end
def QU(n dp:Nat)(l:List eP):Prop:=∃(V:UV) (M:MI),V.n=n/\V.dp=dp/\l=V.mR M
section
variable {v v':World}{ub uo uc n dp E oc:Nat}{fn:Nat->FD}{fas:Nat->FA}{X:RX}{oa:Option Addr}{Vs:Nat->Value}
theorem Og(h:NM v 5000 dp 1000 (.slice (some ⟨ub,uo,none⟩) (n+1) uc) (n+1) X E (vF fn fas n X.M) oa oc Vs v'){b o:Nat}{z:Value}(hb:b<v.heap.size)(hc:v.cell? ⟨b,o,none⟩=some z):Oo X b o z:=⟨⟨Nat.lt_of_lt_of_le hb h.b.bl.size,(h.b.bl.cell (p:=⟨b,o,none⟩) hb).trans hc⟩,by have:=h.b.mw;omega⟩
theorem yj6(h:NM v 5000 dp 1000 (.slice (some ⟨ub,uo,none⟩) (n+1) uc) (n+1) X E (vF fn fas n X.M) oa oc Vs v')(hU:UN v ub uo fn fas n)(hT:eU v)(hE:kJ v)(hdp:1<=dp):Calls Tryz.prog 20 #[ptr X.M] v' fun e w'=>e=.returned (.tuple #[])/\Oe X v' 2 (QU n dp) w':=by
 have hB:=h.b;have hmw:=hB.mw;have hvs:=hB.bl.size;have hn1:=hU.n1;obtain⟨hub,a0,a1,a2,a3,a4,a5,a6⟩:=hU.cells (j:=0) (by omega);rw[hU.v0] at a4;have cW:∀{b o:Nat} {z:Value},b<v.heap.size->v.cell? ⟨b,o,none⟩=some z->X.W.cell? ⟨b,o,none⟩=some z:=fun hb hc=>(Og h hb hc).1.2;have hUF:UF X 0 (n+1) ub uo uc 2 (fas 0).vc (fas 0).va:=⟨h.Ri,by omega,by omega,by omega,cW hub a2,cW hub a3,cW hub a4⟩;obtain⟨bo,rfl,MG⟩:∃bo,oa=some ⟨bo,0,none⟩/\∀j,j<n+1->Oo X bo j (Vs j):=by
  rcases hB.r.2 with⟨_,c⟩|⟨g,c,cur,e,c1,c2,_⟩
  ·omega
  ·cases e;refine⟨g,rfl,fun j hj=>⟨⟨(Array.getElem?_eq_some_iff.1 c2).1,?_⟩,fun c=>hB.apart.1 (by rw[c];rfl)⟩⟩;have:=hB.r.cells (g:=g) rfl j (Vs j) (by simp[hj])
   cases j<;>simpa[Addr.add] using this
 have hRs:∀j,j<n+1->∃m,X.M<m/\vF fn fas n X.M j (Vs j) m X.W:=fun j hj=>by
  obtain⟨m,u1,r1,r2,r3,_⟩:=hB.l j hj;exact⟨m,r2,(yj7 fn fas n X.M j).fr r1 r3⟩
 obtain⟨m0,hm0,r0⟩:=hRs 0 (by omega);unfold vF at r0;rw[if_pos rfl] at r0;obtain⟨bb0,nb0,r0⟩:=r0;have DX:∀f,∃I:LI,dU I.L2/\(1<=f->f<n+1->Vs f=uq I.k1 I.k2/\I.ok X (jk (f-1:Nat))/\(f<n->I.go X ((f+1:Nat):Int))/\(f=n->I.th X)):=fun f=>by
  by_cases hc:1<=f/\f<n+1
  ·obtain⟨m1,hm1,r1⟩:=hRs f hc.2;unfold vF at r1;rw[if_neg (by omega)] at r1;by_cases h1:f=n
   ·rw[if_pos h1] at r1;obtain⟨bb1,Qa,r1⟩:=r1;obtain⟨I,e,hI,hth,_,e2⟩:=yk9 hm1 (L1:=((fn f).nd 3).l) (L2:=((fn f).nd 5).l) rfl rfl Qa r1;exact⟨I,by rw[e2];exact hU.l f 5,fun _ _=>⟨e,hI,fun c=>by omega,fun _=>hth⟩⟩
   ·rw[if_neg h1] at r1;obtain⟨bb1,Qa,r1⟩:=r1;obtain⟨I,e,hI,hgo,_,e2⟩:=yl0 hm1 (L1:=((fn f).nd 3).l) (L2:=((fn f).nd 6).l) rfl rfl Qa r1;exact⟨I,by rw[e2];exact hU.l f 6,fun _ _=>⟨e,hI,fun _=>hgo,fun c=>absurd c h1⟩⟩
  ·exact⟨⟨0,.nilIface,0,0,0,0,0,0,0,#[],0,0,0,#[],⟨0,0,0,0,0,0,0,none,0,fun _=>0,0,0⟩,0,0,0,#[],0,0,0,⟨0,0,0,0,0,0,0,none,0⟩,0⟩,⟨by show(-9223372036854775808:Int)<=0;omega,by show(0:Int)<=9223372036854775807;omega⟩,fun h1 h2=>absurd ⟨h1,h2⟩ hc⟩
 obtain⟨Ls,DX⟩:=Classical.axiomOfChoice DX;have hl0:∀i,i<12->i<(fn 0).nn:=fun i hi=>by rw[hU.m.nn];exact hi
 obtain⟨tb,th,e2,_,htb,d2⟩:=aX ((hU.f.2 0 (by omega)).2.2.2 10 (hl0 _ (by omega))).1 (k:=0) (by rw[hU.m.qa.rn];simp);obtain⟨_,_,e3,_,_,d3⟩:=aX ((hU.f.2 0 (by omega)).2.2.2 10 (hl0 _ (by omega))).1 (k:=1) (by rw[hU.m.qa.rn];simp);rw[e2] at e3
 cases e3;rw[hU.m.qa.r 0 0 rfl] at d2;rw[hU.m.qa.r 1 1 rfl] at d3;have jK:X.jB=.slice (some ⟨bo,0,none⟩) (n+1) oc:=h.jB;have hb0:=MG 0 (by omega);have hTX:jV X:=fun u hu=>by
  have hg:Below v.heap.size X.W u:=hu.to (by exact hvs) (fun q e=>by rcases e with e|e<;>omega);exact eU.keep hT (hB.bl.trans hg) (Nat.le_refl _)
 have hEX:qW X:=⟨kJ.keep hE hB.bl (Nat.le_refl _),by have:=hE.lt;omega⟩;have hN:Yk X (dJ ((fn 0).nd 2) ((fas 0).nas 2)) (dJ ((fn 0).nd 8) ((fas 0).nas 8)) (dJ ((fn 0).nd 10) ((fas 0).nas 10)) ((fn 0).nd 2).l ((fn 0).nd 8).l ((fn 0).nd 10).l tb th ((fas 0).nas 10).rc:=by
  refine⟨rfl,rfl,rfl,?_,Og h htb d2,Og h htb d3⟩;show some (Value.slice ((fas 0).nas 10).ra ((fn 0).nd 10).rn ((fas 0).nas 10).rc)=_;rw[e2,hU.m.qa.rn];rfl
 let U:UV:=⟨n,ub,uo,uc,bo,oc,dp,((fn 0).nd 2).l,Ls,fun j=>(fn j).line,fun j=>(fas j).va,fun j=>(fas j).vc,fun j=>(fas j).ua,fun j=>(fn j).un,fun j=>(fas j).uc,fun j=>(fas j).na,fun j=>(fn j).nn,fun j=>(fas j).nc⟩
 have hta:=h.ta;have jE:U.ok X:=by
  refine⟨hEX,hTX,hU.n2,hta.2.1,hdp,hta.1,hta.2.2,h.Ri,by show ub < _;omega,by show ub≠_;omega,fun f h1 h2=>?_,jK,fun f h1 h2=>?_,fun f h1 h2=>((DX f).2 h1 (Nat.lt_succ_of_le h2)).2.1,fun f h1 h2=>((DX f).2 h1 (Nat.lt_succ_of_lt h2)).2.2.1 h2,fun h1=>((DX n).2 h1 (Nat.lt_succ_self n)).2.2.2 rfl,fun i=>?_⟩
  ·replace h2:f<n+1:=Nat.lt_succ_of_le h2;obtain⟨_,g0,g1,g2,g3,g4,g5,g6⟩:=hU.cells h2;rw[(hU.v1 f h1 h2).1] at g4;rw[if_neg (by omega)] at g0;rw[show decide (f=0)=false from decide_eq_false (by omega)] at g3;exact⟨⟨h.Ri,h2,by show ub < _;omega,by show ub≠_;omega,cW hub g2,cW hub g3,cW hub g4⟩,cW hub g0,cW hub g1,cW hub g5,cW hub g6⟩
  ·have:=MG f (Nat.lt_succ_of_le h2);rw[((DX f).2 h1 (Nat.lt_succ_of_le h2)).1] at this;exact this
  ·unfold UV.ln;split
   ·exact hU.l 0 2
   ·exact(DX i).1
 have hX3:∃k1,Oo X bo 0 (nN k1)/\∀F V N fa fc u,St (xT X F V N 0 (.slice none 0 0) 2) (dT F 2 fa fc) u->Calls Tryz.prog 170 #[ptr F,ptr k1] u fun e w'=>gG (xT X F V N 0 (.slice none 0 0) 2) (dT F 2 fa fc) u (iZ (QU n dp)) e w':=by
  obtain⟨Mj,Y6,_⟩:=V8 (X:=xT X 0 0 0 0 (.slice none 0 0) 2) hm0 (by show 1<2;omega) (⟨hN.l1,hN.l2,hN.l3,hN.t1,hN.t2,hN.t3⟩) nb0 r0;refine⟨Mj.k1,by rw[<-Y6];exact hb0,fun F V N fa fc u hs=>?_⟩;obtain⟨Mi,eM,hMi,eD⟩:=V8 (X:=xT X F V N 0 (.slice none 0 0) 2) hm0 (by show 1<2;omega) (⟨hN.l1,hN.l2,hN.l3,hN.t1,hN.t2,hN.t3⟩) nb0 r0;have ek:Mj.k1=Mi.k1:=by
   have:=Y6.symm.trans eM;simpa using this
  rw[ek];have hU2:U.ok (xT X F V N 0 (.slice none 0 0) 2):=⟨jE.e,jE.t,jE.n,jE.dp,jE.d1,jE.tk,jE.ce,jE.f,jE.lt,jE.ne,fun f h1 h2=>⟨⟨(jE.u f h1 h2).u.f,(jE.u f h1 h2).u.i,(jE.u f h1 h2).u.lt,(jE.u f h1 h2).u.ne,(jE.u f h1 h2).u.p,(jE.u f h1 h2).u.r,(jE.u f h1 h2).u.v⟩,(jE.u f h1 h2).n0,(jE.u f h1 h2).n1,(jE.u f h1 h2).n5,(jE.u f h1 h2).n6⟩,jE.jB,jE.b,fun f h1 h2=>by
    have hh:=jE.l f h1 h2;exact⟨hh.bb,hh.k1,hh.k2,hh.ka,hh.kb,hh.s1,hh.s2,hh.A1,hh.s3,hh.y1,hh.y2,hh.Ay,⟨hh.P.p1,hh.P.pc,hh.P.p2,hh.P.l1,hh.P.o,⟨hh.P.ls.1,hh.P.ls.2,hh.P.ls.3⟩,hh.P.l2,hh.P.r,hh.P.B⟩,hh.t1,hh.t2,hh.A2⟩,fun f h1 h2=>by
    have hh:=jE.g f h1 h2;exact⟨hh.t3,hh.z1,⟨hh.c.r1,hh.c.r2,hh.c.c1,hh.c.c2,hh.c.b1,hh.c.b2,hh.c.b3⟩⟩,fun h1=>⟨(jE.h h1).t3,(jE.h h1).z1,(jE.h h1).z2,(jE.h h1).pc⟩,jE.ln⟩
  refine(zm8 U Mi (xT X F V N 0 (.slice none 0 0) 2) (dT F 2 fa fc) u hU2 hMi eD hs rfl rfl (by show X.W.cell? ⟨ub,uo,none⟩=_;rw[show uo=uo+0*7 by omega];exact cW hub a0) hn1 ⟨rfl,rfl,rfl,rfl,rfl,rfl,rfl,rfl,rfl⟩).mono ?_;rintro e w' ⟨way,d',rfl,hsp,h1,h2,_⟩;exact⟨way,d',rfl,hsp,h1,U,Mi,rfl,rfl,h2⟩
 obtain⟨k1,hk1,hrun⟩:=hX3;exact z02 X (n+1) ub uo uc 2 (fas 0).vc bo oc k1 (fas 0).va (QU n dp) v' h.pm hUF (by omega) jK hk1 hrun
end
end
section
open Go.RowKit
attribute [local go_sem] aN
attribute [local go_sem ↓] Go.wp_at_zero Go.wp_at_succ
structure yr6(M E:Nat)(c:Int)(er tr:ByteArray)(ti md:Int)(ra:Option Addr)(n rc:Nat)(q:Nat->eP)(va:Option Addr)(vn vc:Nat)(w:World):Prop where
 lt:M<w.heap.size
 c8:w.cell? ⟨M,8,none⟩=some (.int .i64 c)
 c9:w.cell? ⟨M,9,none⟩=some (.slice ra n rc)
 c10:w.cell? ⟨M,10,none⟩=some (.slice va vn vc)
 c11:w.cell? ⟨M,11,none⟩=some (.string er)
 c12:w.cell? ⟨M,12,none⟩=some (.string tr)
 c13:w.cell? ⟨M,13,none⟩=some (.int .i64 ti)
 c14:w.cell? ⟨M,14,none⟩=some (.int .i64 md)
 c24:w.cell? ⟨M,24,none⟩=some (.chan (some E))
 c25:w.cell? ⟨M,25,none⟩=some (.int .u64 0)
 r:fD 0 w ra n q
 e:w.heap[E]?=some (.chan 0 #[] false 0 0 false)
abbrev zo:eP:=⟨0,0,0,0,⟨#[]⟩⟩
def Yh(Q:List eP->Prop)(w:World)(e:Ending)(w':World):Prop:=∃l ti md ra rc,Q l/\e=.returned (.agg #[.int .i64 0,.slice ra l.length rc,.slice none 0 0,.string ⟨#[]⟩,.string ⟨#[]⟩,.int .i64 ti,.int .i64 md])/\fD 0 w' ra l.length (fun i=>l.getD i zo)/\ah w w'
theorem fD.gx{S:Nat->Prop}{w w':World}{n:Nat}{a:Option Addr}{q:Nat->eP}(h:fD 0 w a n q)(g:Gx S w w')(hS:∀b,a=some b->0<n->¬S b.block):fD 0 w' a n q:=fun h0=>by
 obtain⟨b,off,e,h1,h2,h3⟩:=h h0;exact⟨b,off,e,h1,Nat.lt_of_lt_of_le h2 g.size,fun i hi j hj=>(World.cell?_of_block (a:=⟨b,off+i*5+j,none⟩) (g.block b h2 (hS _ e h0))).trans (h3 i hi j hj)⟩
theorem fD.other{w:World}{n E:Nat}{a:Option Addr}{q:Nat->eP}(h:fD 0 w a n q)(he:w.heap[E]?=some (.chan 0 #[] false 0 0 false)):∀b,a=some b->0<n->b.block≠E:=fun b e h0 c=>by
 obtain⟨b',off,e',h1,h2,h3⟩:=h h0;rw[e] at e'
 cases e';have:=h3 0 h0 0 (by omega);subst c;simp[World.cell?,he] at this
theorem y91:∀(l:List eP) (i j:Nat),i<l.length->j<5->(rL l)[i*5+j]?=(AQ (l.getD i ⟨0,0,0,0,⟨#[]⟩⟩))[j]?
 |[],i,j,h,_=>absurd h (by simp)
 |x :: l,0,j,_,hj=>by
  show(r5 x++rL l)[0*5+j]?=_;rw[List.getElem?_append_left (by simp[r5];omega)];rcases(show j=0\/j=1\/j=2\/j=3\/j=4 by omega) with rfl|rfl|rfl|rfl|rfl<;>rfl
 |x :: l,i+1,j,h,hj=>by
  have ih:=y91 l i j (by simpa using h) hj;show(r5 x++rL l)[(i+1)*5+j]?=_;rw[List.getElem?_append_right (by simp[r5];omega),show(i+1)*5+j-(r5 x).length=i*5+j by simp[r5];omega,ih];rfl
theorem yj8{N:Nat}{w:World}{d:MD}(h:Jr N w d):fD 0 w d.ra d.recs.length (fun i=>d.recs.getD i ⟨0,0,0,0,⟨#[]⟩⟩):=fun h0=>by
 rcases h.2 with⟨c,e⟩|⟨g,c,cur,e,h1,h2,_⟩
 ·rw[e] at h0;omega
 ·have e1:d.ra=some ⟨g,0,none⟩:=by injection e
  refine⟨g,0,e1,Nat.zero_le _,(Array.getElem?_eq_some_iff.1 h2).1,fun i hi j hj=>?_⟩;have hx:=y91 d.recs i j hi hj;have hs:j<(AQ (d.recs.getD i ⟨0,0,0,0,⟨#[]⟩⟩)).size:=hj;rw[Array.getElem?_eq_getElem hs] at hx ⊢;have:=h.cells (g:=g) (by rw[e1];rfl) (i*5+j) _ hx;rw[show 0+i*5+j=i*5+j by omega];generalize i*5+j=k at *
  cases k<;>simpa[Addr.add] using this
theorem yp1{v v':World}{ub uo uc n dp E oc:Nat}{fn:Nat->FD}{fas:Nat->FA}{X:RX}{oa:Option Addr}{Vs:Nat->Value}(h:NM v 5000 dp 1000 (.slice (some ⟨ub,uo,none⟩) (n+1) uc) (n+1) X E (vF fn fas n X.M) oa oc Vs v')(hU:UN v ub uo fn fas n)(hT:eU v)(hE:kJ v)(hdp:1<=dp):Calls Tryz.prog 20 #[ptr X.M] v' fun e v''=>e=.returned (.tuple #[])/\ah v v''/\∃l ti md ra rc,QU n dp l/\yr6 X.M E 0 ⟨#[]⟩ ⟨#[]⟩ ti md ra l.length rc (fun i=>l.getD i zo) none 0 0 v'':=by
 refine(yj6 h hU hT hE hdp).mono ?_;rintro e w' ⟨rfl,F,V,N',d',hS,hq,hg⟩;have hB:=h.b;have hEl:E<X.W.heap.size:=(Array.getElem?_eq_some_iff.1 hB.e).1;have hWs:=h.pm.k.size;have hlt:=h.pm.lt;have hvW:=hB.bl.size;have hmw:=hB.mw;refine⟨rfl,?_,d'.recs,d'.ti,d'.fM,d'.ra,d'.rc,hq,?_⟩
 ·exact h.k.trans (hg.to (by have:=h.k.size;omega) (fun k e=>by rcases e with e|e<;>omega))
 ·have hm:=hS.m.1;have hrs:=yj8 hS.rr;refine⟨hm.1,hm.cell 8 rfl,hm.cell 9 rfl,hm.cell 10 rfl,hm.cell 11 rfl,hm.cell 12 rfl,hm.cell 13 rfl,hm.cell 14 rfl,?_,hm.cell 25 rfl,hrs,?_⟩
  ·rw[<-h.en];exact hm.cell 24 rfl
  ·rw[hg.block E (by omega) (fun e=>by rcases e with e|e;exact hB.em e;omega)];exact h.e
theorem y70(w:World)(E:Nat)(he:w.heap[E]?=some (.chan 0 #[] false 0 0 false)):∃w',(Builtin.close_ #[65] 0 #[.chan (some E)]).run Tryz.prog w=.ok (.tuple #[]) w'/\Gx (fun k=>k=E) w w':=by
 refine⟨_,run_close_open _ _ he,rfl,rfl,rfl,by simp,fun k _ hn=>?_⟩;show(w.heap.setIfInBounds E _)[k]?=w.heap[k]?;rw[Array.getElem?_setIfInBounds_ne (fun e=>hn e.symm)]
theorem Bd{S:Nat->Prop}{w w':World}(g:Gx S w w'){k o:Nat}(hk:k<w.heap.size)(hS:¬S k){v:Value}(h:w.cell? ⟨k,o,none⟩=some v):w'.cell? ⟨k,o,none⟩=some v:=(World.cell?_of_block (a:=⟨k,o,none⟩) (g.block k hk hS)).trans h
theorem yg4{w:World}{k o E:Nat}{v:Value}(h:w.cell? ⟨k,o,none⟩=some v)(he:w.heap[E]?=some (.chan 0 #[] false 0 0 false)):k≠E:=fun c=>by
 subst c;simp[World.cell?,he] at h
abbrev AU:Array Value:=#[.int .i64 0,.slice none 0 0,.slice none 0 0,.string ⟨#[]⟩,.string ⟨#[]⟩,.int .i64 0,.int .i64 0]
theorem Ut{w:World}{B N:Nat}{ra:Option Addr}{q:Nat->eP}(q4:OwnB w B AU)(q5:fD 0 w ra N q):∀b,ra=some b->0<N->b.block≠B:=fun b e h0 c=>by
 obtain⟨b',off,e',_,h2,h3⟩:=q5 h0;rw[e] at e'
 cases e';replace c:b'=B:=c;subst c;have h4:=h3 0 h0 4 (by omega);have h5:=h3 0 h0 0 (by omega);have h6:=q4.1.2 (off+0*5+4);have h7:=q4.1.2 (off+0*5+0);rw[h6] at h4;rw[h7] at h5;rcases(show off=0\/off=1\/off=2\/2<off by omega) with rfl|rfl|rfl|ho
 ·simp[AQ] at h5 h4;have h8:=h3 0 h0 1 (by omega);rw[q4.1.2 (0+0*5+1)] at h8;simp[AQ] at h8
 ·simp[AQ] at h5
 ·simp[AQ] at h5
 ·rw[Array.getElem?_eq_none (by show 7<=off+0*5+4;omega)] at h4;simp[AQ] at h4
theorem Va(w:World)(B:Nat)(a0 a1 a2 a3 a4 a5 a6:Value):Gx (fun k=>k=B) w (((((((w.setCell ⟨B,0,none⟩ a0).setCell ⟨B,1,none⟩ a1).setCell ⟨B,2,none⟩ a2).setCell ⟨B,3,none⟩ a3).setCell ⟨B,4,none⟩ a4).setCell ⟨B,5,none⟩ a5).setCell ⟨B,6,none⟩ a6):=by
 have hs:∀{u:World} (j:Nat) (v:Value),Gx (fun k=>k=B) w u->Gx (fun k=>k=B) w (u.setCell ⟨B,j,none⟩ v):=fun j v h=>h.trans (Gx.set _ B j v) (fun _ _ e=>e);exact hs 6 _ (hs 5 _ (hs 4 _ (hs 3 _ (hs 2 _ (hs 1 _ (Gx.set w B 0 _))))))
theorem yf0{u:UD}(h:∀y,¬jd u y){x:FT}(hx:Least (jd u) x):x=jl:=by
 rcases hx with⟨e,_⟩|⟨_,hp,_⟩
 ·exact e
 ·exact absurd hp (h x)
abbrev Qn(dp:Nat):ID:=⟨0,fun _=>⟨#[]⟩,0,fun _=>⟨#[]⟩,5000,(dp:Int),1000⟩
structure dS(u:UD)(ub uo:Nat)(fas:Nat->FA)(n dp:Nat)(w:World):Prop where
 sm:u.sm
 n1:u.n=n+1
 d1:1<=dp
 d2:dp<=60
 nb:∀y,¬jd u y
 un:UN w ub uo u.fn fas n
 t:eU w
 e:kJ w
theorem dS.call{u:UD}{ub uo:Nat}{fas:Nat->FA}{n dp:Nat}{w w':World}(h:dS u ub uo fas n dp w)(hb:ah w w'):dS u ub uo fas n dp w':=⟨h.sm,h.n1,h.d1,h.d2,h.nb,h.un.call hb,eU.keep h.t hb (Nat.le_refl _),kJ.keep h.e hb (Nat.le_refl _)⟩
theorem dS.ft{u:UD}{ub uo:Nat}{fas:Nat->FA}{n dp:Nat}{w:World}(h:dS u ub uo fas n dp w):aZ 0 w u.n u.fn (some ⟨ub,uo,none⟩) fas:=by rw[h.n1];exact h.un.f
theorem dS.cap{u:UD}{ub uo:Nat}{fas:Nat->FA}{n dp:Nat}{w:World}(h:dS u ub uo fas n dp w):∀i,i<u.n->jc (u.fn i) (fas i):=by rw[h.n1];exact h.un.c
theorem qm8(u:UD)(ub uo uc:Nat)(fas:Nat->FA)(n dp:Nat)(w:World)(h:dS u ub uo fas n dp w):Calls Tryz.prog 9 #[.agg #[.slice (some ⟨ub,uo,none⟩) (n+1) uc],.agg #[.slice none 0 0,.slice none 0 0,.int .i64 5000,.int .i64 (dp:Int),.int .i64 1000],yX] w fun e w'=>Yh (QU n dp) w e w':=by
 have HH:Hid (dS u ub uo fas n dp w):=h;clear h;go_in;go_wp2_with fail;obtain⟨w0,hw0⟩:∃w0,((w.alloc (.cells #[.slice (some ⟨ub,uo,none⟩) (n+1) uc] 31)).alloc (.cells #[.slice none 0 0,.slice none 0 0,.int .i64 5000,.int .i64 (dp:Int),.int .i64 1000] 34)).alloc (.cells AU 27)=w0:=⟨_,rfl⟩;have H0:Hid (ah w w0/\Has w0 w.heap.size #[.slice (some ⟨ub,uo,none⟩) (n+1) uc]/\Has w0 (w.heap.size+1) #[.slice none 0 0,.slice none 0 0,.int .i64 5000,.int .i64 (dp:Int),.int .i64 1000]/\OwnB w0 (w.heap.size+1 + 1) AU):=by
  rw[<-hw0];refine⟨yG _ _ _ _,((Has.new _ _ _).alloc _).alloc _,(uU _ _ _ _).alloc _,?_⟩;have h9:=q35 (w.alloc (.cells #[.slice (some ⟨ub,uo,none⟩) (n+1) uc] 31)) (.cells #[.slice none 0 0,.slice none 0 0,.int .i64 5000,.int .i64 (dp:Int),.int .i64 1000] 34) AU 27;rw[World.size_alloc] at h9;exact h9
 rw[hw0];clear hw0;have hC:=fun v (hv:ah w v)=>qt0 0 u (some ⟨ub,uo,none⟩) uc fas v HH.sm HH.cap (HH.call hv).ft;simp only[pq,HH.n1] at hC;refine(hC w0 H0.1).mono ?_;clear hC;rintro e w1 ⟨y,rfl,hy,hb1⟩;obtain rfl:=yf0 HH.nb hy;have H1:Hid (ah w0 w1):=hb1;have u0:=(H0.2.1.call hb1).cell 0 rfl;have i0:=(H0.2.2.1.call hb1).cell 0 rfl;have i1:=(H0.2.2.1.call hb1).cell 1 rfl;have i2:=(H0.2.2.1.call hb1).cell 2 rfl;have i3:=(H0.2.2.1.call hb1).cell 3 rfl;have i4:=(H0.2.2.1.call hb1).cell 4 rfl;clear hy hb1;go_wp2_with fail;have hI:=fun v (hv:ah w v)=>qk6 0 (Qn dp) ⟨none,0,none,0⟩ v ⟨(by decide:0<=1048576),fun i hi=>absurd hi (Nat.not_lt_zero _),(by decide:0<=1048576),fun i hi=>absurd hi (Nat.not_lt_zero _)⟩ ⟨fun h=>absurd h (Nat.not_lt_zero _),fun h=>absurd h (Nat.not_lt_zero _)⟩;refine(hI w1 (aH H0.1 H1)).mono ?_;clear hI;rintro e w2 ⟨⟨b,rfl,hb⟩,hb2⟩;obtain rfl:b=true:=hb.2 ⟨⟨(by decide:0<=200),fun i hi=>absurd hi (Nat.not_lt_zero _)⟩,⟨(by decide:0<=200),fun i hi=>absurd hi (Nat.not_lt_zero _)⟩,by have h1:=HH.d1;have h2:=HH.d2;unfold EH;simp;omega⟩;have H2:Hid (ah w0 w2):=aH H1.out hb2;clear hb hb2 u0 i0 i1 i2 i3 i4;have u0:=(H0.2.1.call H2.out).cell 0 rfl;have i0:=(H0.2.2.1.call H2.out).cell 0 rfl;have i1:=(H0.2.2.1.call H2.out).cell 1 rfl;have i2:=(H0.2.2.1.call H2.out).cell 2 rfl;have i3:=(H0.2.2.1.call H2.out).cell 3 rfl;have i4:=(H0.2.2.1.call H2.out).cell 4 rfl;go_wp2_with fail;have HP2:Hid (dS u ub uo fas n dp w2/\ah w w2):=⟨HH.call (aH H0.1 H2.out),aH H0.1 H2.out⟩;refine Calls.mono (qm9 ub uo uc (n+1) 5000 dp 1000 (vF u.fn fas n) w2 (by have:=HH.un.n2;omega) (by have:=HH.d2;omega) (Zb HP2.1.un _ _ _ uc)) ?_;rintro e w3 ⟨X,E,oa,oc,Vs,rfl,hNM⟩;have HN:Hid _:=hNM;clear hNM u0 i0 i1 i2 i3 i4;go_wp2_with fail;refine(yp1 HN HP2.1.un HP2.1.t HP2.1.e HH.d1).mono ?_;rintro e w4 ⟨rfl,hb4,l,ti,md,ra,rc,hq,hrep⟩;have HQ:Hid (QU n dp l):=hq;clear hq;obtain⟨w5,hcl,hg5⟩:=y70 w4 E hrep.e;have zQ:=yg4 hrep.c8 hrep.e;have H5:Hid (ah w2 w4/\Gx (fun k=>k=E) w4 w5/\w2.heap.size<=E/\OwnB w5 (w.heap.size+1 + 1) AU/\fD 0 w5 ra l.length (fun i=>l.getD i zo)):=by
  have hE:=HN.b.ew;have hO:=(H0.2.2.2.call H2.out);exact⟨hb4,hg5,hE,hg5.ownB (hO.call hb4) (fun e=>by have:=hO.1.1;omega),hrep.r.gx hg5 (fun b e h0 c=>hrep.r.other hrep.e b e h0 c)⟩
 have c24:=hrep.c24;have hl:=hrep.lt;have c8:=Bd hg5 hl zQ hrep.c8;have c9:=Bd hg5 hl zQ hrep.c9;have c10:=Bd hg5 hl zQ hrep.c10;have c11:=Bd hg5 hl zQ hrep.c11;have c12:=Bd hg5 hl zQ hrep.c12;have c13:=Bd hg5 hl zQ hrep.c13;have c14:=Bd hg5 hl zQ hrep.c14;have c25:=Bd hg5 hl zQ hrep.c25;have r0:=H5.2.2.2.1.1.cell 0 rfl;have r1:=H5.2.2.2.1.1.cell 1 rfl;have r2:=H5.2.2.2.1.1.cell 2 rfl;have r3:=H5.2.2.2.1.1.cell 3 rfl;have r4:=H5.2.2.2.1.1.cell 4 rfl;have r5:=H5.2.2.2.1.1.cell 5 rfl;have r6:=H5.2.2.2.1.1.cell 6 rfl;have rz:=H5.2.2.2.1.2;clear hb4 hg5 hrep zQ;go_wp2_with fail;refine(zk4 X.M w5 c25).mono ?_;rintro e w6 ⟨rfl,rfl⟩;clear hcl c24;go_wp2_with fail;obtain⟨q1,q2,q3,q4,q5⟩:=H5.out;have q6:=H0.1.size;have q7:=H2.size;have q8:=q4.1.1;have hb6:ah w w6:=HP2.2.trans ((q1.trans (q2.to (N:=w2.heap.size) q1.size (fun k e=>by omega))).mono (by have:=HP2.2.size;omega));have hrow:∀b,ra=some b->0<l.length->b.block≠w.heap.size+1 + 1:=Ut q4 q5;refine bodyPost_ret (v:=.agg #[.int .i64 0,.slice ra l.length rc,.slice none 0 0,.string ⟨#[]⟩,.string ⟨#[]⟩,.int .i64 ti,.int .i64 md]) (by simp[results,Tryz.results9,go_sem,r0,r1,r2,r3,r4,r5,r6]) rfl ⟨l,ti,md,ra,rc,HQ.out,rfl,?_,?_⟩
 ·exact q5.gx (Va w6 _ _ _ _ _ _ _ _) hrow
 ·exact q23 (q23 (q23 (q23 (q23 (q23 (q23 hb6 _ (by omega)) _ (by omega)) _ (by omega)) _ (by omega)) _ (by omega)) _ (by omega)) _ (by omega)
theorem zs2(u:UD)(ub uo uc:Nat)(fas:Nat->FA)(n dp:Nat)(w:World)(h:dS u ub uo fas n dp w):Calls Tryz.prog 5 #[.agg #[.slice (some ⟨ub,uo,none⟩) (n+1) uc],.agg #[.slice none 0 0,.slice none 0 0,.int .i64 5000,.int .i64 (dp:Int),.int .i64 1000]] w fun e w'=>Yh (QU n dp) w e w':=by
 have HH:Hid (dS u ub uo fas n dp w):=h;clear h;go_in;go_wp2_with fail;refine(qm8 u ub uo uc fas n dp _ (HH.call (yG _ _ _ _))).mono ?_;rintro e w1 ⟨l,ti,md,ra,rc,hq,rfl,hr,hb⟩;have HQ:Hid (QU n dp l):=hq;clear hq;have hO:OwnB w1 (w.heap.size+1 + 1) AU:=by
  have h9:=q35 (w.alloc (.cells #[.slice (some ⟨ub,uo,none⟩) (n+1) uc] 31)) (.cells #[.slice none 0 0,.slice none 0 0,.int .i64 5000,.int .i64 (dp:Int),.int .i64 1000] 34) AU 27;rw[World.size_alloc] at h9;exact h9.call hb
 have H1:Hid (fD 0 w1 ra l.length (fun i=>l.getD i zo)/\ah w w1/\OwnB w1 (w.heap.size+1 + 1) AU):=⟨hr,aH (yG _ _ _ _) hb,hO⟩;have r0:=hO.1.cell 0 rfl;have r1:=hO.1.cell 1 rfl;have r2:=hO.1.cell 2 rfl;have r3:=hO.1.cell 3 rfl;have r4:=hO.1.cell 4 rfl;have r5:=hO.1.cell 5 rfl;have r6:=hO.1.cell 6 rfl;have rz:=hO.2;clear hr hb hO;go_wp2_with fail;obtain⟨q5,hb6,q4⟩:=H1.out;have hrow:∀b,ra=some b->0<l.length->b.block≠w.heap.size+1 + 1:=Ut q4 q5;refine bodyPost_ret (v:=.agg #[.int .i64 0,.slice ra l.length rc,.slice none 0 0,.string ⟨#[]⟩,.string ⟨#[]⟩,.int .i64 ti,.int .i64 md]) (by simp[results,Tryz.results5,go_sem,r0,r1,r2,r3,r4,r5,r6]) rfl ⟨l,ti,md,ra,rc,HQ.out,rfl,?_,?_⟩
 ·exact q5.gx (Va w1 _ _ _ _ _ _ _ _) hrow
 ·exact q23 (q23 (q23 (q23 (q23 (q23 (q23 hb6 _ (by omega)) _ (by omega)) _ (by omega)) _ (by omega)) _ (by omega)) _ (by omega)) _ (by omega)
theorem qq1(n:Int)(w:World)(h0:-1000<=n)(h1:n<=1000):Calls Tryz.prog 16 #[.agg #[.int .i64 2,.int .i64 n,.float .f64 0,.string ⟨#[]⟩,.int .i64 0]] w fun e w'=>e=.returned (.string (bA (bI n)))/\ah w w':=by
 go_in;go_wp2_with fail;refine(z50 2 n 0 ⟨#[]⟩ 0 _).mono ?_;rintro e w1 ⟨rfl,hb1⟩;have hok:okB 2 n 0 ⟨#[]⟩ 0=true:=by
  simp[okB,fU,iG];constructor<;>kernel_rfl
 rw[hok];have HO:Hid (Has w1 w.heap.size #[.int .i64 2,.int .i64 n,.float .f64 0,.string ⟨#[]⟩,.int .i64 0]/\ah w w1):=⟨(Has.new _ _ _).call hb1,aH (q01 _ _) hb1⟩;have o0:=HO.1.cell 0 rfl;have o1:=HO.1.cell 1 rfl;clear hb1 hok;go_wp2_with fail;refine(z28 n _ (by omega) (by omega)).mono ?_;rintro e w2 ⟨rfl,hb2⟩;have HB:Hid (ah w w2):=aH HO.2 hb2;clear hb2 o0 o1;go_wp2_with fail;go_ret;exact⟨rfl,HB⟩
theorem zb0(n:Int)(w:World)(h0:-1000<=n)(h1:n<=1000):Calls Tryz.prog 8 #[.int .i64 n] w fun e w'=>e=.returned (.string (bA (bI n)))/\ah w w':=by
 go_in;go_wp2_with fail;refine(qq1 n _ h0 h1).mono ?_;rintro e w1 ⟨rfl,hb⟩;have HB:Hid _:=hb;clear hb;go_wp2_with fail;go_ret;exact⟨rfl,HB⟩
def jv(q:Nat->eP):Nat->List Value
 |0=>[]
 |k+1=>jv q k++(if(q k).k=6 then[.string (q k).s] else[])
theorem TT(q:Nat->eP):∀k,(jv q k).length<=k
 |0=>Nat.le_refl _
 |k+1=>by
  have:=TT q k;unfold jv;split<;>simp<;>omega
abbrev OO(c:Int)(ra:Option Addr)(n rc:Nat)(va:Option Addr)(vn vc:Nat)(er tr:ByteArray)(ti md:Int):Value:=.agg #[.int .i64 c,.slice ra n rc,.slice va vn vc,.string er,.string tr,.int .i64 ti,.int .i64 md]
theorem qz1(c:Int)(ra:Option Addr)(n rc:Nat)(va:Option Addr)(vn vc:Nat)(er tr:ByteArray)(ti md:Int)(q:Nat->eP)(w:World)(hn:n<=2000)(hr:fD 0 w ra n q):Calls Tryz.prog 7 #[OO c ra n rc va vn vc er tr ti md] w fun e w'=>(∃a k,e=.returned (.slice a (jv q n).length k)/\w'.ownsRow w.heap.size 9 1 (.slice a (jv q n).length k) (jv q n).length (jv q n))/\ah w w':=by
 have HR:Hid (fD 0 w ra n q):=hr;clear hr;go_in;go_wp2_with fail;obtain⟨w0,hw0⟩:∃w0,w.alloc (.cells #[.int .i64 c,.slice ra n rc,.slice va vn vc,.string er,.string tr,.int .i64 ti,.int .i64 md] 27)=w0:=⟨_,rfl⟩;have H0:Hid (ah w w0):=by rw[<-hw0];exact q01 _ _
 rw[hw0];clear hw0
 go_loopw [3,9] (fun v i wr=>∃k a oc,k<=n/\v=.slice a (jv q k).length oc/\i=.int .i64 (k:Int)/\Hid (wr.ownsRow w.heap.size 9 1 (.slice a (jv q k).length oc) (jv q k).length (jv q k)/\ah w wr)) (fun _ i _=>n-(intOf i).toNat)
 case atStart=>exact⟨0,none,0,Nat.zero_le _,rfl,rfl,World.ownsRow_nil _ _ _ _,H0.out⟩
 case round=>
  obtain⟨k,a,oc,hk,rfl,rfl,HO⟩:=hrel;by_cases hkn:k<n
  ·obtain⟨b,off,e1,_,hb,c0,c1,c2,c3,c4⟩:=yn0 (aP.below HR.out HO.2) hkn;rw[e1];have hpl:=TT q k;by_cases h6:(q k).k=6
   ·obtain⟨m,hm⟩:∃m,(jv q k).length=m:=⟨_,rfl⟩;have HM:Hid ((jv q k).length=m):=hm;rw[hm] at HO hpl;rw[hm];clear hm;obtain⟨i0,hi0,hy0,hy1,hy2⟩:=info_parts O5;have Fa:World.ownsRow ((wr.alloc (.cells #[.int .i64 6,.int .i64 (q k).t,.int .i64 (q k).f,.int .i64 (q k).l,.string (q k).s] 49)).alloc (.cells #[.string (q k).s] 9)) w.heap.size 9 1 (.slice a m oc) m (jv q k):=mZ HO.1 (iy _ _ _);obtain⟨v',w7,happ,hown,hgrow,_,hat⟩:=run_append_own_at (P:=Tryz.prog) ((wr.alloc (.cells #[.int .i64 6,.int .i64 (q k).t,.int .i64 (q k).f,.int .i64 (q k).l,.string (q k).s] 49)).alloc (.cells #[.string (q k).s] 9)) w.heap.size 25 25 9 i0 _ 1 16 Tryz.underlying25 hi0 hy0 hy1 hy2 rfl (by decide) (.slice a m oc) m (jv q k) Fa ⟨wr.heap.size+1,0,none⟩ 1 1 [.string (q k).s] rfl (fun j v e=>by
     have hn:=yD (wr.alloc (.cells #[.int .i64 6,.int .i64 (q k).t,.int .i64 (q k).f,.int .i64 (q k).l,.string (q k).s] 49)) #[.string (q k).s] 9 j v e;rw[World.size_alloc] at hn;exact hn) (by simp[Value.oneCell']) (by unfold maxLen;omega) (by omega) (by have:=HO.2.size;simp;omega)
    obtain⟨gV,oc',rfl⟩:=sU hown;have hp1:jv q (k+1)=jv q k++[.string (q k).s]:=by show jv q k++(if(q k).k=6 then[.string (q k).s] else[])=_;rw[if_pos h6]
    have HN:Hid (w7.ownsRow w.heap.size 9 1 (.slice gV (jv q (k+1)).length oc') (jv q (k+1)).length (jv q (k+1))/\ah w w7/\(jv q (k+1)).length=m+1):=by
     have hl:(jv q (k+1)).length=m+1:=by rw[hp1,List.length_append,HM.out];rfl
     refine⟨?_,(((HO.2.alloc HO.2.size _).alloc (by have:=HO.2.size;simp;omega) _).grown hgrow (by have:=HO.2.size;simp;omega) (fun z e=>(q16 HO.1 ((dD _ _ _).symm.trans e)).1)),hl⟩;rw[hl,hp1];exact hown
    clear hown hgrow hat Fa hi0 hy0 hy1 hy2 hp1;go_wp2_with (at_builtin;refine q32 (by rfl) _ _ _ _ (by rfl) (.slice a m oc) (.slice (some ⟨wr.heap.size+1,0,none⟩) 1 1) _ _ (by rfl) (by rfl) happ ?_);go_roundw
    case rel=>exact⟨k+1,gV,oc',by omega,by rw[HN.2.2],by go_num,HN.1,HN.2.1⟩
    case measure=>simp[intOf];omega
   ·go_wp2_with fail;go_roundw
    case rel=>
     have hp1:jv q (k+1)=jv q k:=by show jv q k++(if(q k).k=6 then[.string (q k).s] else[])=_;rw[if_neg h6];simp
     exact⟨k+1,a,oc,by omega,by rw[hp1],by go_num,by rw[hp1];exact⟨mZ HO.1 (q01 _ _),HO.2.alloc HO.2.size _⟩⟩
    case measure=>simp[intOf];omega
  ·obtain rfl:k=n:=by omega
   go_wp2_with fail;go_ret;exact⟨⟨a,oc,rfl,HO.1⟩,HO.2⟩
end
end Go.Proofs.YtihnikeikhjndaaGreatDoor
