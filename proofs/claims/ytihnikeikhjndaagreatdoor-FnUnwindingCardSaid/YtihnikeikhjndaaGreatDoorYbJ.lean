import Derived.Test.YtihnikeikhjndaaGreatDoorYbA
import Derived.Test.YtihnikeikhjndaaGreatDoorYrG
set_option maxRecDepth 100000
set_option maxHeartbeats 16000000
namespace Go.Proofs.YtihnikeikhjndaaGreatDoor
section
open Go.RowKit
attribute [local go_sem] aN yH
attribute [local go_sem ↓] Go.wp_at_zero Go.wp_at_succ
def FY(bb:Nat)(R:Rel):Rel:=fun v n u=>∃a b x,v=Gh a b/\Nb n u a #[ptr bb]/\Nb n u b #[x]/\R x n u
def Oq(A:Array Value)(R:Rel):Rel:=fun v n u=>∃a b x,v=V6 a b/\Nb n u a #[x]/\Nb n u b A/\R x n u
def Ac(bb m:Nat)(Rs:Nat->Rel):Rel:=fun v n u=>∃(a b g gc:Nat) (Vs:Nat->Value),v=uq a b/\Nb n u a #[.slice (some ⟨g,0,none⟩) m gc]/\Nb n u b #[ptr bb]/\n<=g/\g<u.heap.size/\(∀j,j<m->u.cell? ⟨g,j,none⟩=some (Vs j)/\Rs j (Vs j) n u)
theorem Uk{R:Rel}(kr:bZ R)(bb:Nat):bZ (FY bb R):=
 ⟨fun⟨a,b,x,e,h1,h2,h3⟩ k=>⟨a,b,x,e,h1.old k,h2.old k,kr.old h3 k⟩,fun⟨a,b,x,e,h1,h2,h3⟩ f=>⟨a,b,x,e,h1.fr f,h2.fr f,kr.fr h3 f⟩⟩
theorem OZ{R:Rel}(kr:bZ R)(A:Array Value):bZ (Oq A R):=
 ⟨fun⟨a,b,x,e,h1,h2,h3⟩ k=>⟨a,b,x,e,h1.old k,h2.old k,kr.old h3 k⟩,fun⟨a,b,x,e,h1,h2,h3⟩ f=>⟨a,b,x,e,h1.fr f,h2.fr f,kr.fr h3 f⟩⟩
theorem Gw(bb m:Nat){Rs:Nat->Rel}(kr:∀j,j<m->bZ (Rs j)):bZ (Ac bb m Rs):=
 ⟨fun⟨a,b,g,gc,Vs,e,h1,h2,h3,h4,h5⟩ k=>⟨a,b,g,gc,Vs,e,h1.old k,h2.old k,by omega,h4,fun j hj=>⟨(h5 j hj).1,(kr j hj).old (h5 j hj).2 k⟩⟩,
  fun⟨a,b,g,gc,Vs,e,h1,h2,h3,h4,h5⟩ f=>⟨a,b,g,gc,Vs,e,h1.fr f,h2.fr f,h3,Nat.lt_of_lt_of_le h4 f.s,fun j hj=>⟨(World.cell?_of_block (a:=⟨g,j,none⟩) (f.k g h3 h4)).trans (h5 j hj).1,(kr j hj).fr (h5 j hj).2 f⟩⟩⟩
theorem qv2(d:ND)(x:NA)(w:World)(hk:d.k=25):Calls Tryz.prog 233 #[eG d x] w fun e w'=>e=.returned (dI 4 0 0 d.s 0)/\ah w w':=by
 go_in;go_wp2_with fail;refine(Hw d.s _).mono ?_;rintro e w1 ⟨rfl,hb⟩;have hO:=O9 hb;have r0:=hO.1.cell 0 rfl;have r1:=hO.1.cell 1 rfl;have r2:=hO.1.cell 2 rfl;have r3:=hO.1.cell 3 rfl;have r4:=hO.1.cell 4 rfl;have rz:=hO.2;have HB:Hid (ah w w1):=aH (iy _ _ _) hb;clear hb hO;go_wp2_with fail;exact bodyPost_ret (v:=dI 4 0 0 d.s 0) (by simp[results,Tryz.results233,go_sem,r0,r1,r2,r3,r4]) rfl ⟨rfl,lU HB.out (Nat.le_succ _) _ _ _ _ _⟩
theorem z24(M bb:Nat)(d:FD)(x:FA)(i:Nat)(w:World)(h:BB M bb d x w)(hi:i<d.nn)(hk:(d.nd i).k=25):Calls Tryz.prog 183 #[ptr bb,.int .i64 (i:Int)] w fun e w'=>Mks (qb2 (fE (d.nd i).s)) w e w':=by
 have HB:Hid (BB M bb d x w):=h;have b1:=h.b.cell 1 rfl;have hbl:=h.b.1;obtain⟨b,off,e1,hb,c0,c1,c2,c3,c4,c5,c6,c7⟩:=h.node hi;rw[e1] at b1;have HK:Hid ((d.nd i).k=25):=hk;clear h;obtain⟨k,hd⟩:∃k,(d.nd i).k=k:=⟨_,rfl⟩;rw[hd] at c0 hk;have hmf:=mX;subst hk;all_goals
  have hl:=fun W=>qv2 (d.nd i) (x.nas i) W HK.out;simp only[eG,hd] at hl;go_in;go_wp2_with fail;refine(hl _).mono ?_;rintro e w1 ⟨rfl,hb1⟩;have HW:Hid (ah w w1):=aH (iy _ _ _) hb1;clear hb1 hl c0 c1 c2 c3 c4 c5 c6 c7 b1 hbl;go_wp2_with fail;go_ret;exact⟨_,_,_,rfl,⟨w1.heap.size,rfl,HW.size,Has.new _ _ _⟩,HW.alloc HW.size _⟩
theorem za5(M bb:Nat)(d:FD)(x:FA)(R:Rel)(n:Nat)(w:World)(h:BB M bb d x w)(kr:bZ R)(hn:n<d.nn)(hk:(d.nd n).k=23)(hP:bg 183 bb w n R):Calls Tryz.prog 173 #[ptr bb,.int .i64 (n:Int)] w fun e w'=>Mks (z39 R) w e w':=by
 have HP:Hid (bg 183 bb w n R/\bZ R):=⟨hP,kr⟩;have b1:=h.b.cell 1 rfl;have hbl:=h.b.1;obtain⟨b,off,e1,hb,c0,c1,c2,c3,c4,c5,c6,c7⟩:=h.node hn;rw[e1] at b1;rw[hk] at c0;clear h hP kr c1 c2 c3 c4 c5 c6 c7;have hmf:=mX;go_in;go_wp2_with fail;refine(HP.1 _ (q01 _ _)).mono ?_;rintro e w1 ⟨f1,x1,y1,rfl,hr1,hb1⟩;have HW:Hid (R (.func f1 x1 y1) (w.heap.size+1) w1/\ah w w1):=⟨by simpa using hr1,aH (q01 _ _) hb1⟩;clear b1 hbl c0 hr1 hb1;go_wp2_with fail;go_ret;have hs:=HW.2.size;exact⟨_,_,_,rfl,⟨w1.heap.size,_,rfl,⟨hs,Has.new _ _ _⟩,HP.2.old (HP.2.call HW.1 (q01 _ _)) (by omega)⟩,HW.2.alloc hs _⟩
theorem ql3(bb:Nat)(S:Rel)(q:ND)(y:NA)(kb ko n:Nat)(w:World)(ks:bZ S)(hk:q.k=13)(hkn:0<q.kn)(hka:y.ka=some ⟨kb,ko,none⟩)(hkb:kb<w.heap.size)(hc:w.cell? ⟨kb,ko,none⟩=some (.int .i64 (n:Int)))(hA:bg 183 bb w n S):Calls Tryz.prog 146 #[ptr bb,eG q y] w fun e w'=>Mks (FY bb S) w e w':=by
 have HP:Hid (bg 183 bb w n S/\bZ S):=⟨hA,ks⟩;have hmf:=mX;rw[(vY hk hka rfl).1];have hkn':(0:Int)<(q.kn:Int):=by omega
 clear hA ks hk hka;go_in
 go_upto_region 26 with fail
 obtain⟨w0,hw0⟩:∃w0,(w.alloc (.cells #[ptr bb] 110)).alloc (.cells (uY 13 q y (some ⟨kb,ko,none⟩) q.kn) 98)=w0:=⟨_,rfl⟩;have HW0:Hid (ah w w0/\Has w0 w.heap.size #[ptr bb]/\w0.cell? ⟨w.heap.size+1,7,none⟩=some (.slice (some ⟨kb,ko,none⟩) q.kn y.kc)/\w0.heap.size=w.heap.size+2):=by rw[<-hw0];exact⟨iy _ _ _,(Has.new _ _ _).alloc _,(uU _ _ _ _).cell 7 rfl,by simp⟩
 rw[hw0];have HC:Hid (∀u,ah w0 u->u.cell? ⟨w.heap.size,0,none⟩=some (ptr bb)/\u.cell? ⟨w.heap.size+1,7,none⟩=some (.slice (some ⟨kb,ko,none⟩) q.kn y.kc)/\u.cell? ⟨kb,ko,none⟩=some (.int .i64 (n:Int))):=fun u hu=>⟨(HW0.2.1.call hu).cell 0 rfl,(hu.cell (p:=⟨w.heap.size+1,7,none⟩) (by show w.heap.size+1<w0.heap.size;have:=HW0.2.2.2;omega)).trans HW0.2.2.1,(hu.cell (p:=⟨kb,ko,none⟩) (by show kb<w0.heap.size;have:=HW0.2.2.2;omega)).trans ((HW0.1.cell (p:=⟨kb,ko,none⟩) hkb).trans hc)⟩;clear hw0 hc
 go_region_held3 (fun u=>u.cell? ⟨w.heap.size,0,none⟩=some (ptr bb)/\u.cell? ⟨w.heap.size+1,7,none⟩=some (.slice (some ⟨kb,ko,none⟩) q.kn y.kc)/\u.cell? ⟨kb,ko,none⟩=some (.int .i64 (n:Int))) (first|(refine HC.out _ ?_;(repeat(with_reducible first|exact HB1.out|exact iw _|refine gI ?_ _|refine iq ?_|refine q23 ?_ _ (by have h1:=HB1.out.size;omega)));done))
  (first
  |(go_at_call 183;refine(HP.out.1 _ (aH HW0.out.1 ?_)).mono ?_;((repeat(with_reducible first|exact iw _|refine gI ?_ _|refine iq ?_)));rintro e w1 ⟨f1,x1,y1,rfl,hr1,hb1⟩;obtain⟨n1,hn1,HR1⟩:∃n1,Hid (n1=_)/\Hid (S (.func f1 x1 y1) n1 w1):=⟨_,rfl,hr1⟩;have HB1:Hid (ah w0 w1):=(by refine aH ?_ hb1;(repeat(with_reducible first|exact iw _|refine gI ?_ _|refine iq ?_)));(first|(have hy:=box0 hb1;have c1:=hy.a.1.cell 0 rfl;have z1:=hy.a.2;have l1:=hy.a.1.1;have HN:Hid (OwnB w1 w0.heap.size #[.nilFunc]):=hy.a)|skip);clear hb1 hr1))
 all_goals
  go_wp2_with fail;go_ret;have e1:=hn1.out;try simp at e1
  have q1:=HB1.size;have q3:=HW0.2.2.2;have ks:=HP.2;have r1:=HR1.out
  first
  |exact⟨_,_,_,rfl,⟨w.heap.size,w1.heap.size,_,rfl,⟨Nat.le_refl _,(HW0.2.1.call HB1.out).alloc _⟩,⟨by omega,Has.new _ _ _⟩,ks.old (ks.call r1 (q01 _ _)) (by omega)⟩,aH HW0.1 (gI HB1.out _)⟩
  |exact⟨_,_,_,rfl,⟨w.heap.size,w0.heap.size,_,rfl,⟨Nat.le_refl _,Hg (HW0.2.1.call HB1.out) (by omega)⟩,⟨by omega,ER HN.out⟩,ks.old (ks.fr r1 ((Fr.refl _ _ _).set (by omega))) (by omega)⟩,aH HW0.1 (q23 HB1.out _ (Nat.le_refl _))⟩
theorem qo0(bb:Nat)(S:Rel)(q:ND)(y:NA)(w:World)(ks:bZ S)(hk:q.k=14)(hL:∀u,ah w u->Calls Tryz.prog 186 #[ptr bb,eG q y] u fun e u'=>Mks S u e u'):Calls Tryz.prog 146 #[ptr bb,eG q y] w fun e w'=>Mks S w e w':=by
 rw[(vY hk rfl rfl).1] at hL ⊢;have HP:Hid ((∀u,ah w u->Calls Tryz.prog 186 #[ptr bb,.agg (uY 14 q y y.ka q.kn)] u fun e u'=>Mks S u e u')/\bZ S):=⟨hL,ks⟩;clear hL ks hk;go_in;go_wp2_with fail;refine(HP.1 _ (iy _ _ _)).mono ?_;rintro e w1 ⟨f1,x1,y1,rfl,hr1,hb1⟩;have HW:Hid (S (.func f1 x1 y1) w.heap.size w1/\ah w w1):=⟨HP.2.old hr1 (by simp;omega),aH (iy _ _ _) hb1⟩;clear hr1 hb1;go_wp2_with fail;go_ret;exact⟨_,_,_,rfl,HW.1,HW.2⟩
theorem zd6(bb:Nat)(R:Rel)(q:ND)(y:NA)(kb ko n:Nat)(w:World)(kr:bZ R)(hk:q.k=14)(hkn:0<q.kn)(hka:y.ka=some ⟨kb,ko,none⟩)(hkb:kb<w.heap.size)(hc:w.cell? ⟨kb,ko,none⟩=some (.int .i64 (n:Int)))(hP:bg 198 bb w n R):Calls Tryz.prog 186 #[ptr bb,eG q y] w fun e w'=>Mks (Oq (dJ q y) R) w e w':=by
 have HP:Hid (bg 198 bb w n R/\bZ R):=⟨hP,kr⟩;have hmf:=mX;rw[(vY hk hka rfl).1,(vY hk hka rfl).2];have hkn':(0:Int)<(q.kn:Int):=by omega
 clear hP kr hk hka;go_in
 go_upto_region 1 with fail
 obtain⟨w0,hw0⟩:∃w0,w.alloc (.cells (uY 14 q y (some ⟨kb,ko,none⟩) q.kn) 98)=w0:=⟨_,rfl⟩;have HW0:Hid (ah w w0/\Has w0 w.heap.size (uY 14 q y (some ⟨kb,ko,none⟩) q.kn)/\w0.heap.size=w.heap.size+1):=by rw[<-hw0];exact⟨q01 _ _,Has.new _ _ _,by simp⟩
 rw[hw0];have c7:=HW0.2.1.cell 7 rfl;have cc:=(HW0.1.cell (p:=⟨kb,ko,none⟩) hkb).trans hc;have l0:w.heap.size<w0.heap.size:=HW0.2.1.1;have l1:kb<w0.heap.size:=by omega
 clear hw0 hc;go_wp2_with fail;refine(HP.1 _ HW0.1).mono ?_;rintro e w1 ⟨f1,x1,y1,rfl,hr1,hb1⟩;have HW:Hid (R (.func f1 x1 y1) w0.heap.size w1/\ah w0 w1):=⟨hr1,hb1⟩;clear hr1 hb1 c7 cc l1;go_wp2_with fail;go_ret;have hs:=HW.2.size;exact⟨_,_,_,rfl,⟨w1.heap.size,w.heap.size,_,rfl,⟨by omega,Has.new _ _ _⟩,⟨Nat.le_refl _,(HW0.2.1.call HW.2).alloc _⟩,HP.2.old (HP.2.call HW.1 (q01 _ _)) (by omega)⟩,aH HW0.1 (gI HW.2 _)⟩
theorem qv6(bb:Nat)(oa:Option Addr)(k oc:Nat)(w:World):Calls Tryz.prog 169 #[ptr bb,.slice oa k oc] w fun e w'=>e=.returned (uq (w.heap.size+1) w.heap.size)/\w'=(w.alloc (.cells #[ptr bb] 110)).alloc (.cells #[.slice oa k oc] 60):=by
 have hmf:=mX;go_in;go_wp2_with fail;go_ret;exact⟨rfl,rfl⟩
section
variable {M bb:Nat}{d:FD}{x:FA}{w:World}
theorem yc5(h:BC M bb d x w){i:Nat}{m:Int}(hi:i<d.nn)(hn:(d.nd i).k=23/\(d.nd i).n=m):bg 183 bb w i (qb2 (jk m)):=fun u hu=>by
 have hz:=X8 M bb d x i u (h.call hu).b hi (.inl hn.1);have e:um (d.nd i)=jk m:=by unfold um;rw[if_pos hn.1,hn.2]
 rw[e] at hz;exact hz
theorem zl3(h:BC M bb d x w){i:Nat}{m:Int}(hi:i<d.nn)(hn:(d.nd i).k=23/\(d.nd i).n=m):bg 173 bb w i (z39 (qb2 (jk m))):=fun u hu=>za5 M bb d x _ i u (h.call hu).b (ug _) hi hn.1 ((yc5 h hi hn).call hu)
theorem yc4(h:BC M bb d x w){i:Nat}{s:ByteArray}(hi:i<d.nn)(hn:(d.nd i).k=25/\(d.nd i).s=s):bg 183 bb w i (qb2 (fE s)):=fun u hu=>by
 have hz:=z24 M bb d x i u (h.call hu).b hi hn.1;rw[hn.2] at hz;exact hz
end
end
section
open Go.RowKit
attribute [local go_sem] aN
attribute [local go_sem ↓] Go.wp_at_zero Go.wp_at_succ
attribute [local go_sem] yH
theorem za0(M bb:Nat)(d:FD)(x:FA)(Rs:Nat->Rel)(q:ND)(y:NA)(n:Nat)(ks:Nat->Nat)(w:World)(h:BB M bb d x w)(kp:∀j,j<n->bZ (Rs j))(hn0:1<=n)(hn:n<=200)(hkn:q.kn=n)(hk:∀j,j<n->ks j<d.nn/\(j=0->(d.nd (ks j)).k=14)/\bg 86 bb w (ks j) (Rs j))(hR:aP 1 0 w y.ka n fun j=>#[.int .i64 (ks j:Int)]):Calls Tryz.prog 145 #[ptr bb,eG q y] w fun e w'=>Mks (Ac bb n Rs) w e w':=by
 have lI:Hid (∀j,j<n->bZ (Rs j)):=kp;have HB0:Hid (BB M bb d x w/\1<=n):=⟨h,hn0⟩;have HK:Hid (∀j,j<n->ks j<d.nn/\(j=0->(d.nd (ks j)).k=14)/\bg 86 bb w (ks j) (Rs j)):=hk;have HR:Hid (aP 1 0 w y.ka n fun j=>#[.int .i64 (ks j:Int)]):=hR;have hmf:=mX;rw[(vY rfl rfl hkn).1];clear hk hR kp h hkn hn0;go_in;go_wp2_with fail;obtain⟨w0,hw0⟩:∃w0,w.alloc (.cells (uY q.k q y y.ka n) 98)=w0:=⟨_,rfl⟩;have HW0:Hid (ah w w0/\w0.heap.size=w.heap.size+1):=by rw[<-hw0];exact⟨q01 _ _,by simp⟩
 rw[hw0];have e7:Hid (w.heap.size+1=w0.heap.size):=HW0.2.symm;rw[e7.out];clear hw0;obtain⟨B,hB⟩:∃B,w0.heap.size=B:=⟨_,rfl⟩;have H0:Hid (nP 109 w0 B Rs 0 none 0 (fun _=>.bool false) (w0.alloc (.cells #[.slice none 0 0] 60))):=by
  rw[<-hB];exact⟨OwnB.new _ _ _,World.ownsRow_nil _ _ _ _,fun j hj=>by omega,fun _=>⟨rfl,rfl⟩,q01 _ _⟩
 have qM:Hid (w0.heap.size=B):=hB;rw[hB];clear hB
 go_loopw [6,12] (fun v i wr=>∃(k:Nat) (oa:Option Addr) (oc:Nat) (Vs:Nat->Value),((k=0/\v=.bool false)\/(1<=k/\v=.bool true))/\k<=n/\i=.int .i64 k/\Hid (nP 109 w0 B Rs k oa oc Vs wr)) (fun _ i _=>n-(intOf i).toNat)
 case atStart=>exact⟨0,none,0,fun _=>.bool false,.inl ⟨rfl,rfl⟩,Nat.zero_le _,rfl,H0⟩
 case round=>
  clear H0;obtain⟨k,oa,oc,Vs,hv0,hk,rfl,HO⟩:=hrel;by_cases hkn:k<n
  ·have hbw:ah w wr:=aH HW0.1 HO.k;obtain⟨rb,ro,e2,_,hrb,d0⟩:=aX (aP.below HR.out hbw) hkn;rw[e2];have b0:=HO.b.1.cell 0 rfl;have bz:=HO.b.2;have hBl:=HO.b.1.1
   go_upto_region 6 with fail
   have pO:Hid (Calls Tryz.prog 86 #[ptr bb,.int .i64 (ks k:Int)] wr.drew fun e u'=>Mks (Rs k) wr.drew e u'):=(HK.out k hkn).2.2 _ hbw.drew;have SN:Hid (BB M bb d x wr.drew):=HB0.1.call hbw.drew;obtain⟨i0,hi0,hy0,hy1,hy2⟩:=info_parts Pq;have vk:=enters_of Tryz.func86 (by kernel_rfl) rfl
   go_region_law (first
    |(refine LC (by rfl) 86 _ _ _ _ (by rfl) (ptr bb) (.int .i64 (ks k:Int)) (by rfl) (by rfl) vk _ pO.out ?_;rintro e w1 ⟨ff,fx,fy,rfl,hn1,hb1⟩;refine⟨_,rfl,?_⟩;have iI:Hid (nP 109 w0 B Rs k oa oc Vs (w1.alloc (.cells #[.func ff fx fy] 109))):=((HO.call (Below.refl _ _).drew).call hb1).call (q01 _ _);obtain⟨v',w7,happ,hown,hgrow,_,hat⟩:=run_append_own_at (P:=Tryz.prog) (w1.alloc (.cells #[.func ff fx fy] 109)) (w0.heap.size+1) 60 60 109 i0 _ 1 8 Tryz.underlying60 hi0 hy0 hy1 hy2 rfl (by decide) (.slice oa k oc) k ((List.range k).map Vs) iI.r ⟨w1.heap.size,0,none⟩ 1 1 [.func ff fx fy] rfl (cell_one_new _ _ _) (by simp[Value.oneCell']) (by unfold maxLen;omega) (by omega) (by have:=iI.b.1.1;have:=qM.out;omega);obtain⟨gV,oc',rfl,hp⟩:=iI.push qM.out hn1 (by have h9:=qM.out;have h8:B<wr.drew.heap.size:=hBl;omega) ((Fr.refl _ _ _).alloc (Nat.le_refl _) _) (by simp) (fun q e=>.inl (q16 HO.r e).2) (by have h8:B<wr.drew.heap.size:=hBl;exact h8) hown hgrow hat;have HN:Hid (nP 109 w0 B Rs (k+1) gV oc' (fun j=>if j=k then .func ff fx fy else Vs j) (w7.setCell ⟨B,0,none⟩ (.slice gV (k+1) oc'))):=hp;have b01:=((HO.call (Below.refl _ _).drew).call hb1).b.1.cell 0 rfl;have wY:=((HO.call (Below.refl _ _).drew).call hb1).b.1.1;have b0':=iI.b.1.cell 0 rfl;have iR:=iI.mid qM.out hgrow;have b7:=iR.1.cell 0 rfl;have z7:=iR.2;clear hown hgrow hat hp hn1 hb1 iR)
    |(refine wF (by rfl) _ _ _ _ (by rfl) (.slice oa k oc) (.slice (some ⟨w1.heap.size,0,none⟩) 1 1) _ _ (by rfl) (by rfl) happ ?_))
   all_goals
    clear HO iI pO;obtain⟨w8,hw8⟩:∃w8,w7.setCell ⟨B,0,none⟩ (.slice gV (k+1) oc')=w8:=⟨_,rfl⟩;rw[hw8] at HN;rw[hw8];have Ew:Hid (BB M bb d x w8):=HB0.1.call (aH HW0.1 HN.k);clear hw8 happ b01 wY b0' b7 z7 b0 bz hBl d0 hi0 hy0 hy1 hy2 vk SN hbw;have b1:=Ew.b.cell 1 rfl;have hbl:=Ew.b.1;have hsk:=(HK.out k hkn).2.1;have hsl:=(HK.out k hkn).1;obtain⟨b,off,e1,hb,c0,c1,c2,c3,c4,c5,c6,c7⟩:=Ew.node hsl;rw[e1] at b1;clear c1 c2 c3 c4 c5 c6 c7;rcases hv0 with⟨hk0,rfl⟩|⟨hk1,rfl⟩
    ·subst hk0;rw[hsk rfl] at c0;clear hsk;go_wp2_with fail;go_roundw
     case rel=>exact⟨0+1,gV,oc',_,.inr ⟨by omega,rfl⟩,by omega,by go_num,HN⟩
     case measure=>simp[intOf];omega
    ·clear c0 hsk;go_wp2_with fail;go_roundw
     case rel=>exact⟨k+1,gV,oc',_,.inr ⟨by omega,rfl⟩,by omega,by go_num,HN⟩
     case measure=>simp[intOf];omega
  ·obtain rfl:k=n:=by omega
   rcases hv0 with⟨h1,_⟩|⟨_,rfl⟩
   ·have:=HB0.2;omega
   have b0:=HO.b.1.cell 0 rfl;have hBl:=HO.b.1.1;go_wp2_with fail;refine(qv6 bb oa k oc wr).mono ?_;rintro e w9 ⟨rfl,rfl⟩;have h9:=qM.out;have h8:=HW0.2;have h7:=HB0.2;have HF:Hid (Mks (Ac bb k Rs) w (.returned (uq (wr.heap.size+1) wr.heap.size)) ((wr.alloc (.cells #[ptr bb] 110)).alloc (.cells #[.slice oa k oc] 60))):=by
    have kR:ah wr ((wr.alloc (.cells #[ptr bb] 110)).alloc (.cells #[.slice oa k oc] 60)):=iy _ _ _;rcases HO.r.2 with⟨_,h1⟩|⟨g,c,cur,e,h1,h2,_⟩
    ·omega
    ·cases e;have hgl:=(Array.getElem?_eq_some_iff.1 h2).1;refine⟨_,_,_,rfl,⟨wr.heap.size+1,wr.heap.size,g,oc,Vs,rfl,⟨by omega,uU _ _ _ _⟩,⟨by omega,(Has.new _ _ _).alloc _⟩,by omega,Nat.lt_of_lt_of_le hgl kR.size,fun j hj=>⟨?_,?_⟩⟩,aH (aH HW0.1 HO.k) kR⟩
     ·have:=HO.r.cells (g:=g) rfl j (Vs j) (by simp[hj]);refine(World.cell?_of_block (a:=⟨g,j,none⟩) (kR.block g hgl)).trans ?_
      cases j<;>simpa[Addr.add] using this
     ·obtain⟨n,u1,h1,h2,h3,h4,h5,h6⟩:=HO.l j hj;exact(lI.out j hj).call ((lI.out j hj).old ((lI.out j hj).fr h1 h3) (by omega)) kR
   clear b0 hBl;go_wp2_with fail;go_ret;exact HF
end
section
open Go.RowKit
section
variable {M bb:Nat}{d:FD}{x:FA}{w:World}
theorem zl1(h:BC M bb d x w){R:Rel}{Rs:Nat->Rel}{S:Rel}{n i m t:Nat}{q:Nat->Nat}{cs:List Nat}(kr:bZ R)(Ib:∀j,j<m->bZ (Rs j))(ks:bZ S)(hm:m<=100)(hn:n<d.nn)(hk:eu (d.nd n) 34 [] cs)(hl:cs.length=m+2)(hc0:cs[0]?=some i)(hcs:∀j,j<m->cs[j+1]?=some (q j))(hct:cs[m+1]?=some t)(hE:bg 183 bb w i R)(hq:∀j,j<m->bg 183 bb w (q j) (Rs j))(hA:bg 173 bb w t S):bg 198 bb w n (vZ R (uf bb (qa0 m Rs) S)):=fun v hwv=>by
 have LW:bZ (uf bb (qa0 m Rs) S):=qb1 (Dq m Ib) ks bb;have hcp:=h.c n hn;rw[hk.kn,hl] at hcp;refine qc4 M bb d x R (uf bb (qa0 m Rs) S) n i (m+1) v (h.b.call hwv) kr LW hn (by rw[hk.kn,hl]) (hk.c 0 i hc0) (by omega) (by omega) (by omega) (hE.call hwv) (fun y kb ko c ha hkb hc hy=>?_);obtain⟨Qk,Qj,e,hb',hcell⟩:=(h.call hwv).kids hn hk (by omega);rw[ha] at e
 cases e;refine Uy (w:=v) Ib ks (by omega) hkb (fun j hj=>?_) ?_ (fun j hj=>(hq j hj).call hwv) (hA.call hwv) c ?_ y hy
 ·have:=hcell (j+1) (q j) (hcs j hj);rw[show ko+1 + j=ko+(j+1) by omega];exact this
 ·have:=hcell (m+1) t hct;rw[show ko+1 + m=ko+(m+1) by omega];exact this
 ·omega
structure FN(d:FD)(m:Int)(s:Nat):Prop where
 nn:d.nn=s+2
 s4:4<s
 s9:s<100
 p0:(d.nd 0).k=28/\(d.nd 0).n=0
 p1:(d.nd 1).k=23/\(d.nd 1).n=m
 p2:eu (d.nd 2) 34 [] [0,1]
 p3:eu (d.nd 3) 14 [] [2]
 bk:eu (d.nd (s+1)) 1 [] [3,s]
structure Ti(d:FD)(f:Nat):Prop where
 q4:eu (d.nd 4) 36 [f] []
 q5:eu (d.nd 5) 34 [] [4]
 q6:eu (d.nd 6) 4 [] [5]
structure Tf(d:FD):Prop where
 q4:(d.nd 4).k=25/\(d.nd 4).s=dP
 q5:eu (d.nd 5) 13 [] [4]
abbrev Tj(bb:Nat)(m:Int)(A:Array Value):Rel:=oO bb A (Oq A (vZ (qb2 kE) (uf bb (qa0 0 fun _=>qb2 (jk m)) (z39 (qb2 (jk m))))))
abbrev FM(M bb:Nat)(ups:Value)(f:Int):Rel:=xR (Cm bb (vZ (qJ M ups f) IsNil))
abbrev JX(bb:Nat)(m:Int)(A1 A2:Array Value)(R:Rel):Rel:=Ac bb 2 fun j=>if j=0 then Tj bb m A1 else oO bb A2 R
theorem ym4(bb:Nat)(m:Int)(A:Array Value):bZ (Tj bb m A):=Bf (OZ (zB (ug _) (qb1 (Dq 0 fun _ h=>absurd h (Nat.not_lt_zero _)) (ES (ug _)) bb)) A) bb A
theorem NH(M bb:Nat)(ups:Value)(f:Int):bZ (FM M bb ups f):=Gv (GV (zB (Dk M ups f) GX) bb)
theorem z87(bb:Nat)(m:Int)(A1 A2:Array Value){R:Rel}(kr:bZ R):∀j,bZ (if j=0 then Tj bb m A1 else oO bb A2 R):=fun j=>by
 split
 ·exact ym4 bb m A1
 ·exact Bf kr bb A2
theorem WY(h:BC M bb d x w){m:Int}{s:Nat}{R:Rel}(hF:FN d m s)(kr:bZ R)(hs1:(d.nd s).k≠1)(hA:∀u,ah w u->Calls Tryz.prog 146 #[ptr bb,eG (d.nd s) (x.nas s)] u fun e u'=>Mks R u e u'):Calls Tryz.prog 47 #[ptr bb] w fun e w'=>Mks (JX bb m (dJ (d.nd 3) (x.nas 3)) (dJ (d.nd s) (x.nas s)) R) w e w':=by
 have hl:∀i,i<s+2->i<d.nn:=fun i hi=>by rw[hF.nn];omega
 have h4:=hF.s4;have h9:=hF.s9;have Xm:=z87 bb m (dJ (d.nd 3) (x.nas 3)) (dJ (d.nd s) (x.nas s)) kr;refine WA M bb d x _ (s+1) w h.b hF.nn (by omega) (fun u hu=>?_);refine PW M bb d x _ (s+1) u (h.b.call hu) (Gw bb 2 fun j _=>Xm j) (hl _ (by omega)) hF.bk.k (fun u2 hu2=>?_);have hb2:=aH hu hu2;obtain⟨kb,ko,e,hkb,hcell⟩:=(h.call hb2).kids (hl _ (by omega)) hF.bk (by simp);refine za0 M bb d x _ (d.nd (s+1)) (x.nas (s+1)) 2 (fun j=>if j=0 then 3 else s) u2 (h.b.call hb2) (fun j _=>Xm j) (by omega) (by omega) hF.bk.kn (fun j hj=>?_) (by rw[e];exact KC hkb (fun j hj=>by
  rcases(show j=0\/j=1 by omega) with rfl|rfl
  ·exact hcell 0 3 rfl
  ·exact hcell 1 s rfl))
 rcases(show j=0\/j=1 by omega) with rfl|rfl
 ·refine⟨hl 3 (by omega),fun _=>hF.p3.k,fun u3 hu3=>?_⟩;have hb3:=aH hb2 hu3;have kp:=zB (ug kE) (qb1 (Dq 0 (Rs:=fun _=>qb2 (jk m)) fun _ h=>absurd h (Nat.not_lt_zero _)) (ES (ug (jk m))) bb);refine LD M bb d x _ 3 u3 (h.b.call hb3) (OZ kp _) (hl _ (by omega)) (by rw[hF.p3.k];decide) (fun u4 DJ=>?_);have hb4:=aH hb3 DJ;refine qo0 bb _ (d.nd 3) (x.nas 3) u4 (OZ kp _) hF.p3.k (fun u5 Qr=>?_);have hb5:=aH hb4 Qr;obtain⟨kb,ko,e,hkb,hcell⟩:=(h.call hb5).kids (hl 3 (by omega)) hF.p3 (by simp);have hP:=zl1 h (m:=0) (q:=fun _=>0) (Rs:=fun _=>qb2 (jk m)) (ug kE) (fun _ c=>absurd c (Nat.not_lt_zero _)) (ES (ug (jk m))) (by omega) (hl 2 (by omega)) hF.p2 rfl rfl (fun _ c=>absurd c (Nat.not_lt_zero _)) rfl (Vu h (hl 0 (by omega)) hF.p0) (fun _ c=>absurd c (Nat.not_lt_zero _)) (zl3 h (hl 1 (by omega)) hF.p1);exact zd6 bb _ (d.nd 3) (x.nas 3) kb ko 2 u5 kp hF.p3.k (by rw[hF.p3.kn];simp) e hkb (hcell 0 2 rfl) (hP.call hb5)
 ·refine⟨hl s (by omega),fun c=>by omega,fun u3 hu3=>?_⟩;have hb3:=aH hb2 hu3;exact LD M bb d x _ s u3 (h.b.call hb3) kr (hl _ (by omega)) hs1 (fun u4 DJ=>hA u4 (aH hb3 DJ))
theorem zp0(h:BC M bb d x w){m:Int}{f:Nat}{ups:Value}(hF:FN d m 6)(hG:Ti d f)(hcl:bg 231 bb w f (qJ M ups (f:Int)))(u:World)(hu:ah w u):Calls Tryz.prog 146 #[ptr bb,eG (d.nd 6) (x.nas 6)] u fun e u'=>Mks (FM M bb ups (f:Int)) u e u':=by
 have hl:∀i,i<8->i<d.nn:=fun i hi=>by rw[hF.nn];omega
 obtain⟨kb,ko,e,hkb,hcell⟩:=(h.call hu).kids (hl 6 (by omega)) hG.q6 (by simp);have hE:bg 183 bb w 4 (qJ M ups (f:Int)):=fun v hv=>WX M bb d x _ 4 f v (h.b.call hv) (Dk M ups _) (hl _ (by omega)) hG.q4.k (by rw[hG.q4.rn];simp) (hG.q4.r 0 f rfl) (hcl.call hv);exact Xd bb _ (d.nd 6) (x.nas 6) kb ko 5 u (GV (zB (Dk M ups _) GX) bb) hG.q6.k (by rw[hG.q6.kn];simp) e hkb (hcell 0 5 rfl) ((z49 h (Dk M ups _) (hl 5 (by omega)) hG.q5 hE).call hu)
theorem zo9(h:BC M bb d x w){m:Int}(hF:FN d m 5)(hG:Tf d)(u:World)(hu:ah w u):Calls Tryz.prog 146 #[ptr bb,eG (d.nd 5) (x.nas 5)] u fun e u'=>Mks (FY bb (qb2 (fE dP))) u e u':=by
 have hl:∀i,i<7->i<d.nn:=fun i hi=>by rw[hF.nn];omega
 obtain⟨kb,ko,e,hkb,hcell⟩:=(h.call hu).kids (hl 5 (by omega)) hG.q5 (by simp);exact ql3 bb _ (d.nd 5) (x.nas 5) kb ko 4 u (ug _) hG.q5.k (by rw[hG.q5.kn];simp) e hkb (hcell 0 4 rfl) ((yc4 h (hl 4 (by omega)) hG.q4).call hu)
structure MN(d:FD):Prop where
 nn:d.nn=12
 q0:eu (d.nd 0) 36 [1] []
 q1:eu (d.nd 1) 34 [] [0]
 q2:eu (d.nd 2) 4 [] [1]
 q3:eu (d.nd 3) 1 [] [2]
 q4:eu (d.nd 4) 26 [0] []
 q5:eu (d.nd 5) 26 [1] []
 q6:(d.nd 6).k=28/\(d.nd 6).n=0
 q7:eu (d.nd 7) 34 [] [6,4,5]
 q8:eu (d.nd 8) 4 [] [7]
 q9:eu (d.nd 9) 1 [] [8]
 qa:eu (d.nd 10) 12 [0,1] [3,9]
 qb:eu (d.nd 11) 1 [] [10]
abbrev YZ(M bb:Nat)(ups:Value)(A:Array Value):Rel:=uG 1 fun _=>oO bb A (FM M bb ups 1)
theorem NK(M bb:Nat)(ups:Value)(A:Array Value):bZ (YZ M bb ups A):=z13 1 fun _ _=>Bf (NH M bb ups 1) bb A
abbrev Nh(M bb:Nat)(ups:Value)(A1 A2 A3:Array Value):Rel:=uG 1 fun _=>oO bb A3 (Ob M A3 (YZ M bb ups A1) (Yg bb A2))
theorem Kz(M bb:Nat)(ups:Value)(A1 A2 A3:Array Value):bZ (Nh M bb ups A1 A2 A3):=z13 1 fun _ _=>Bf (Ul (NK M bb ups A1) (zs0 bb A2) M A3) bb A3
theorem z67(h:BC M bb d x w){ups:Value}(hM:MN d)(hcl:bg 231 bb w 1 (qJ M ups 1)):Calls Tryz.prog 47 #[ptr bb] w fun e w'=>Mks (Nh M bb ups (dJ (d.nd 2) (x.nas 2)) (dJ (d.nd 8) (x.nas 8)) (dJ (d.nd 10) (x.nas 10))) w e w':=by
 have hl:∀i,i<12->i<d.nn:=fun i hi=>by rw[hM.nn];omega
 have hE:bg 183 bb w 0 (qJ M ups 1):=fun v hv=>WX M bb d x _ 0 1 v (h.b.call hv) (Dk M ups 1) (hl _ (by omega)) hM.q0.k (by rw[hM.q0.rn];simp) (hM.q0.r 0 1 rfl) (hcl.call hv);have hA:=z49 h (Dk M ups 1) (hl 1 (by omega)) hM.q1 hE;have hB:bg 173 bb w 7 (Cm bb (vZ (qb2 kE) (uf bb (qa0 1 fun _=>z38 0) (z39 (z38 1))))):=ZW h (m:=1) (q:=fun _=>4) (ug _) (fun _ _=>Dl 0) (ES (Dl 1)) (by omega) (hl _ (by omega)) hM.q7 rfl rfl (fun j hj=>by obtain rfl:j=0:=(by omega);rfl) rfl (Vu h (hl _ (by omega)) hM.q6) (fun j hj=>TV h (hl _ (by omega)) hM.q4) (zl2 h (hl _ (by omega)) hM.q5);have hF:=z48 h (GV (zB (Dk M ups 1) GX) bb) (hl _ (by omega)) (hl _ (by omega)) hM.q3 hM.q2 hA;have hS:=z48 h (GV (zB (ug _) (qb1 (Dq 1 fun _ _=>Dl 0) (ES (Dl 1)) bb)) bb) (hl _ (by omega)) (hl _ (by omega)) hM.q9 hM.q8 hB;have kl:=Ul (NK M bb ups (dJ (d.nd 2) (x.nas 2))) (zs0 bb (dJ (d.nd 8) (x.nas 8))) M (dJ (d.nd 10) (x.nas 10));refine WA M bb d x _ 11 w h.b hM.nn (by omega) (fun u hu=>?_);refine PW M bb d x _ 11 u (h.b.call hu) (Kz M bb ups _ _ _) (hl _ (by omega)) hM.qb.k (fun u2 hu2=>?_);have hb2:=aH hu hu2;obtain⟨kb,ko,e,hkb,hcell⟩:=(h.call hb2).kids (hl _ (by omega)) hM.qb (by simp);refine WW M bb d x _ (d.nd 11) (x.nas 11) 1 (fun _=>10) u2 (h.b.call hb2) (fun _ _=>Bf kl bb _) (by omega) (by omega) hM.qb.kn (fun j hj=>⟨hl 10 (by omega),by rw[hM.qa.k];decide,fun u3 hu3=>?_⟩) (by rw[e];exact KC hkb (fun j hj=>by obtain rfl:j=0:=(by omega);exact hcell 0 10 rfl));have hb3:=aH hb2 hu3;refine LD M bb d x _ 10 u3 (h.b.call hb3) kl (hl _ (by omega)) (by rw[hM.qa.k];decide) (fun u4 DJ=>?_);have hb4:=aH hb3 DJ;refine qu1 bb _ (d.nd 10) (x.nas 10) u4 kl hM.qa.k (fun u5 Qr=>?_);have hb5:=aH hb4 Qr;obtain⟨kb,ko,e,hkb,hcell⟩:=(h.call hb5).kids (hl 10 (by omega)) hM.qa (by simp);exact zk9 M bb _ _ (d.nd 10) (x.nas 10) _ kb ko 3 9 u5 (NK M bb ups _) (zs0 bb _) hM.qa.k hM.qa.kn e hkb (h.b.call hb5).b (hcell 0 _ rfl) (hcell 1 _ rfl) (hF.call hb5) (hS.call hb5)
end
end
end Go.Proofs.YtihnikeikhjndaaGreatDoor
