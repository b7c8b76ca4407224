import Derived.Test.YthnkncpegihbhaaGreatDoorUnA
import Derived.Test.YthnkncpegihbhaaGreatDoorWnE
import Derived.Deep.Cut
set_option maxRecDepth 100000
set_option maxHeartbeats 16000000
namespace Go.Proofs.YthnkncpegihbhaaGreatDoor
structure sZ where
 k:Int
 z:Int
 s:ByteArray
 rs:List Nat
 cs:List Nat
abbrev jO(k z:Int)(rs cs:List Nat):sZ:=⟨k,z,⟨#[]⟩,rs,cs⟩
structure l9(q:ND)(T:sZ):Prop where
 k:q.k=T.k
 o:q.o=0
 n:q.n=T.z
 f:q.f=0
 s:q.s=T.s
 rn:q.rn=T.rs.length
 r:∀j z:Nat,T.rs[j]?=some z->q.r j=(z:Int)
 kn:q.kn=T.cs.length
 c:∀j z:Nat,T.cs[j]?=some z->q.c j=(z:Int)
 ls:T.k<20->1<=q.l/\q.l<=100000
 le:20<=T.k->q.l=0
def iH(n kept:Nat):Nat:=7+7*kept+5*(n-kept)
def jq(n kept k:Nat):Nat:=if k=0 then 6 else if k<1+2*kept then(if k%2=1 then 8+7*(k / 2) else 13+7*(k / 2-1)) else if k<1+kept+n then 7+7*kept+5*(k-1 - 2*kept)+4 else if k=1+kept+n then iH n kept+4 else iH n kept+11
def Fv:Nat->sZ
 |0=>⟨25,0,⟨#[119,101,97,107]⟩,[],[]⟩
 |1=>⟨25,0,⟨#[107]⟩,[],[]⟩
 |2=>jO 35 0 [] [0,1]
 |3=>jO 28 4 [] []
 |4=>jO 35 0 [] []
 |5=>jO 34 0 [] [3,4,2]
 |_=>jO 2 0 [0] [5]
def Bj(i:Nat):Nat->sZ
 |0=>jO 35 0 [] []
 |1=>jO 2 0 [i+1] [7+7*i]
 |2=>jO 26 0 [i+1] []
 |3=>jO 26 0 [0] []
 |4=>jO 33 0 [] [7+7*i+3,7+7*i+2]
 |5=>jO 23 (i:Int) [] []
 |_=>jO 3 1 [] [7+7*i+4,7+7*i+5]
def Bh(kept j:Nat):Nat->sZ
 |0=>jO 35 0 [] []
 |1=>jO 26 0 [0] []
 |2=>jO 33 0 [] [7+7*kept+5*j+1,7+7*kept+5*j]
 |3=>jO 23 ((kept+j:Nat):Int) [] []
 |_=>jO 3 1 [] [7+7*kept+5*j+2,7+7*kept+5*j+3]
def Bg(n kept:Nat):Nat->sZ
 |0=>jO 28 13 [] []
 |1=>jO 34 0 [] [iH n kept]
 |2=>jO 28 0 [] []
 |3=>jO 34 0 [] [iH n kept+2,iH n kept+1]
 |4=>jO 4 0 [] [iH n kept+3]
 |5=>jO 26 0 [0] []
 |6=>jO 26 0 [kept+2] []
 |7=>jO 28 0 [] []
 |8=>jO 34 0 [] [iH n kept+7,iH n kept+6]
 |9=>jO 4 0 [] [iH n kept+8]
 |10=>jO 1 0 [] [iH n kept+9]
 |11=>jO 8 0 [kept+1,kept+2] [iH n kept+5,iH n kept+10]
 |_=>jO 1 0 [] ((List.range (3+kept+n)).map (jq n kept))
def jJ(n kept a:Nat):sZ:=if a<7 then Fv a else if a<7+7*kept then Bj ((a-7) / 7) ((a-7)%7) else if a<iH n kept then Bh kept ((a-(7+7*kept)) / 5) ((a-(7+7*kept))%5) else Bg n kept (a-iH n kept)
theorem D9{n kept a:Nat}(h:a<7):jJ n kept a=Fv a:=aO h
theorem BH{n kept i r:Nat}(h:i<kept)(hr:r<7):jJ n kept (7+7*i+r)=Bj i r:=by
 unfold jJ;rw[au (by omega),aO (by omega),show(7+7*i+r-7) / 7=i by omega,show(7+7*i+r-7)%7=r by omega]
theorem z68{n kept j r:Nat}(h:j<n-kept)(hr:r<5):jJ n kept (7+7*kept+5*j+r)=Bh kept j r:=by
 unfold jJ;rw[au (by omega),au (by omega),aO (by unfold iH;omega),show(7+7*kept+5*j+r-(7+7*kept)) / 5=j by omega,show(7+7*kept+5*j+r-(7+7*kept))%5=r by omega]
theorem uP{n kept t:Nat}:jJ n kept (iH n kept+t)=Bg n kept t:=by
 unfold jJ;rw[au (by unfold iH;omega),au (by unfold iH;omega),au (by omega),show iH n kept+t-iH n kept=t by omega]
theorem Ux{n kept a:Nat}(h:a<iH n kept+13):a<7\/(∃i r,i<kept/\r<7/\a=7+7*i+r)\/(∃j r,j<n-kept/\r<5/\a=7+7*kept+5*j+r)\/∃t,t<13/\a=iH n kept+t:=by
 by_cases c1:a<7
 ·exact .inl c1
 by_cases c2:a<7+7*kept
 ·exact .inr (.inl ⟨(a-7) / 7,(a-7)%7,by omega,by omega,by omega⟩)
 by_cases c3:a<iH n kept
 ·unfold iH at c3;exact .inr (.inr (.inl ⟨(a-(7+7*kept)) / 5,(a-(7+7*kept))%5,by omega,by omega,by omega⟩))
 ·exact .inr (.inr (.inr ⟨a-iH n kept,by omega,by omega⟩))
structure WF(d:FD)(n kept:Nat):Prop where
 nn:d.nn=iH n kept+13
 nd:∀a,a<d.nn->l9 (d.nd a) (jJ n kept a)
 p:d.params=0
 r:d.rest=true
 vn:d.vn=kept+3
 un:d.un=0
 nm:d.name.size<=40
 l1:0<=d.line
 l2:d.line<=100000
 v:∀i,i<kept+3->1<=(d.v i).size/\(d.v i).size<=40
section
variable {d:FD}{n kept:Nat}
theorem WF.H(h:WF d n kept){a:Nat}(ha:a<7):l9 (d.nd a) (Fv a):=by
 have:=h.nd a (by rw[h.nn];unfold iH;omega);rw[D9 ha] at this;exact this
theorem WF.A(h:WF d n kept){i r:Nat}(hi:i<kept)(hr:r<7):l9 (d.nd (7+7*i+r)) (Bj i r):=by
 have:=h.nd (7+7*i+r) (by rw[h.nn];unfold iH;omega);rw[BH hi hr] at this;exact this
theorem WF.B(h:WF d n kept){j r:Nat}(hj:j<n-kept)(hr:r<5):l9 (d.nd (7+7*kept+5*j+r)) (Bh kept j r):=by
 have:=h.nd (7+7*kept+5*j+r) (by rw[h.nn];unfold iH;omega);rw[z68 hj hr] at this;exact this
theorem WF.C(h:WF d n kept){t:Nat}(ht:t<13):l9 (d.nd (iH n kept+t)) (Bg n kept t):=by
 have:=h.nd (iH n kept+t) (by rw[h.nn];omega);rw[uP] at this;exact this
theorem WF.lH(h:WF d n kept){a:Nat}(ha:a<7):a<d.nn:=by rw[h.nn];unfold iH;omega
theorem WF.lA(h:WF d n kept){i r:Nat}(hi:i<kept)(hr:r<7):7+7*i+r<d.nn:=by rw[h.nn];unfold iH;omega
theorem WF.lB(h:WF d n kept){j r:Nat}(hj:j<n-kept)(hr:r<5):7+7*kept+5*j+r<d.nn:=by rw[h.nn];unfold iH;omega
theorem WF.lC(h:WF d n kept){t:Nat}(ht:t<13):iH n kept+t<d.nn:=by rw[h.nn];omega
end
theorem z25(n kept:Nat):jq n kept 0=6:=rfl
theorem Dh{n kept i:Nat}(h:i<kept):jq n kept (1+2*i)=7+7*i+1:=by
 unfold jq;rw[au (by omega),aO (by omega),aO (by omega)];omega
theorem Dj{n kept i:Nat}(h:i<kept):jq n kept (2+2*i)=7+7*i+6:=by
 unfold jq;rw[au (by omega),aO (by omega),au (by omega)];omega
theorem Gj{n kept i:Nat}(h1:kept<=i)(h2:i<n):jq n kept (1+kept+i)=7+7*kept+5*(i-kept)+4:=by
 unfold jq;rw[au (by omega),au (by omega),aO (by omega)];omega
theorem Gi{n kept:Nat}(h:kept<=n):jq n kept (1+kept+n)=iH n kept+4:=by
 unfold jq;rw[au (by omega),au (by omega),au (by omega),aO rfl]
theorem Ej{n kept:Nat}(h:kept<=n):jq n kept (2+kept+n)=iH n kept+11:=by
 unfold jq;rw[au (by omega),au (by omega),au (by omega),au (by omega)]
theorem Le{n kept k:Nat}(h:k<3+kept+n):k=0\/(∃i,i<kept/\k=1+2*i)\/(∃i,i<kept/\k=2+2*i)\/(∃i,kept<=i/\i<n/\k=1+kept+i)\/k=1+kept+n\/k=2+kept+n:=by
 by_cases c0:k=0
 ·exact .inl c0
 by_cases c1:k<1+2*kept
 ·rcases Nat.mod_two_eq_zero_or_one k with e|e
  ·exact .inr (.inr (.inl ⟨k / 2-1,by omega,by omega⟩))
  ·exact .inr (.inl ⟨k / 2,by omega,by omega⟩)
 by_cases c2:k<1+kept+n
 ·exact .inr (.inr (.inr (.inl ⟨k-1 - kept,by omega,by omega,by omega⟩)))
 ·omega
theorem IY{n kept k:Nat}(h:k<3+kept+n):((List.range (3+kept+n)).map (jq n kept))[k]?=some (jq n kept k):=by
 rw[dW,List.getElem?_range h];rfl
section
open Go.RowKit
attribute [local go_sem] iD
attribute [local go_sem ↓] Go.wp_at_zero Go.wp_at_succ
theorem W9(X:RX)(d:MD)(u:World)(h:St X d u)(hc:d.lv+d.sin+1<=X.ce)(hm:d.jc<=100000):Calls Tryz.prog 279 #[ptr X.M,.int .i64 1] u fun e w'=>e=.returned (.tuple #[])/\To X d u (d.p.paid 1) w':=y89 X d 1 u h hc hm
theorem L6(g c n j:Nat)(v:VD)(u:World)(hj:j<n)(hg:g<u.heap.size)(h:∀i x,(v5 v)[i]?=some x->u.cell? ⟨g,j*5+i,none⟩=some x):Calls Tryz.prog 88 #[.slice (some ⟨g,0,none⟩) n c,.int .i64 (j:Int)] u fun e w'=>e=.returned v.v/\gZ u w':=by
 have c0:u.cell? ⟨g,j*5,none⟩=some (.int .i64 v.k):=h 0 _ rfl;have c1:=h 1 _ rfl;have c2:=h 2 _ rfl;have c3:=h 3 _ rfl;have c4:=h 4 _ rfl;have gK:((j:Int)<(n:Int)):=by omega
 have h0:(0:Int)<=(j:Int):=aS _;go_in;go_wp2_with fail;exact aG (v:=v.v) (by simp[results,Tryz.results88,go_sem]) rfl ⟨rfl,q01 _ _⟩
def Bl(X:RX)(d:MD)(u:World)(g:Nat)(l:List VD):Prop:=(g<u.heap.size/\∀j v,(hL l)[j]?=some v->u.cell? ⟨g,j,none⟩=some v)/\¬stB X d g
theorem Bl.step{X:RX}{d d':MD}{u u':World}{g:Nat}{l:List VD}(h:Bl X d u g l)(k:Sp X d u d' u'):Bl X d' u' g l:=⟨⟨aH h.1.1 k.g.size,fun j v hv=>(ak (a:=⟨g,j,none⟩) (k.g.block _ h.1.1 h.2)).trans (h.1.2 j v hv)⟩,fun e=>h.2 (k.mv g h.1.1 e)⟩
theorem j89(l:List VD)(j:Nat)(v:VD)(h:l[j]?=some v)(i:Nat)(x:Value)(hx:(v5 v)[i]?=some x):(hL l)[j*5+i]?=some x:=by
 induction l generalizing j with
 |nil=>simp at h
 |cons y l ih=>
  have hi:i<5:=by
   have:=(aP.1 hx).1;simpa[v5] using this
  cases j with
  |zero=>
   have hy:y=v:=by simpa using h
   subst hy;show(v5 y++hL l)[0*5+i]?=some x;rw[show 0*5+i=i by omega,bZ (by simpa[v5] using hi)];exact hx
  |succ j=>
   have h':l[j]?=some v:=by simpa using h
   show(v5 y++hL l)[(j+1)*5+i]?=some x;rw[dA (by simp[v5];omega),show(j+1)*5+i-(v5 y).length=j*5+i by simp[v5];omega];exact ih j h'
theorem Bl.at{X:RX}{d:MD}{u:World}{g:Nat}{l:List VD}(h:Bl X d u g l){j:Nat}{v:VD}(hv:l[j]?=some v):∀i x,(v5 v)[i]?=some x->u.cell? ⟨g,j*5+i,none⟩=some x:=fun i x hx=>h.1.2 _ _ (j89 l j v hv i x hx)
def DP.decl(p:DP)(l:List (Nat×Nat)):DP:=l.foldl (fun p x=>(p.var x.1 (ptr x.2)).scope (x.1:Int)) p
theorem DP.uz(p:DP)(l:List (Nat×Nat))(i q:Nat):p.decl (l++[(i,q)])=((p.decl l).var i (ptr q)).scope (i:Int):=by simp[DP.decl]
theorem DP.zh(p:DP)(l:List (Nat×Nat)):(p.decl l).sc.length=p.sc.length+l.length:=by
 induction l generalizing p with
 |nil=>rfl
 |cons x l ih=>
  show(DP.decl _ l).sc.length=_;rw[ih];simp[DP.var,DP.scope];omega
def z62(X:RX)(d:MD)(u:World)(iv:List Nat)(l:List VD)(j:Nat)(w':World):Prop:=∃(qs:List (Nat×Nat)) (d':MD),qs.map Prod.fst=iv.take j/\Sp X d u d' w'/\d'.p=d.p.decl qs/\∀(i:Nat) (x:Nat×Nat) (v:VD),qs[i]?=some x->l[i]?=some v->Bx X d' w' x.2 (vA v)
theorem zc2(X:RX)(d:MD)(rb ro rc g c n:Nat)(iv:List Nat)(l:List VD)(u:World)(h:St X d u)(hr:∀d' w',Sp X d u d' w'->∀(j i:Nat),iv[j]?=some i->w'.cell? ⟨rb,ro+j,none⟩=some (.int .i64 (i:Int)))(hiv:∀(j i:Nat),iv[j]?=some i->i<X.nv)(hg:Bl X d u g l)(hn:iv.length=n)(hl:l.length=n)(hn2:n<=100)(hsc:d.sc.length<=900):Calls Tryz.prog 87 #[ptr X.F,.slice (some ⟨rb,ro,none⟩) n rc,.slice (some ⟨g,0,none⟩) n c] u fun e w'=>e=.returned (.tuple #[])/\z62 X d u iv l n w':=by
 have HS:Hid (St X d u):=h;have HG:Hid (Bl X d u g l):=hg;have HR:Hid (∀d' w',Sp X d u d' w'->∀(j i:Nat),iv[j]?=some i->w'.cell? ⟨rb,ro+j,none⟩=some (.int .i64 (i:Int))):=hr;have HI:Hid (∀(j i:Nat),iv[j]?=some i->i<X.nv):=hiv;have HN:Hid (iv.length=n/\l.length=n):=⟨hn,hl⟩;have HC:Hid (d.sc.length<=900):=hsc;clear h hg hr hiv hn hl hsc;go_in;go_wp2_with fail
 go_loopw [10] (fun i wr=>∃j:Nat,i=.int .i64 (j:Int)/\j<=n/\Hid (z62 X d u iv l j wr)) (fun i _=>n-(intOf i).toNat)
 case atStart=>exact⟨0,rfl,aF _,[],d,rfl,Sp.refl HS.out,rfl,fun i x v e=>by simp at e⟩
 case round=>
  obtain⟨j,rfl,hj,HD⟩:=hrel;by_cases hjn:j=n
  ·subst hjn;have e0:((j:Int)<(j:Int))=False:=by simp
   go_wp2_with fail;go_end0;exact⟨rfl,HD⟩
  ·obtain⟨qs,d1,H1⟩:∃(qs:List (Nat×Nat)) (d1:MD),Hid (qs.map Prod.fst=iv.take j/\Sp X d u d1 wr/\d1.p=d.p.decl qs/\∀(i:Nat) (x:Nat×Nat) (v:VD),qs[i]?=some x->l[i]?=some v->Bx X d1 wr x.2 (vA v)):=HD.out;obtain⟨iz,hiz⟩:∃iz,Hid (iv[j]?=some iz):=⟨iv[j]'(by have:=HN.out;omega),aP.2 ⟨by have:=HN.out;omega,rfl⟩⟩;obtain⟨v,hv⟩:∃v,Hid (l[j]?=some v):=⟨l[j]'(by have:=HN.out;omega),aP.2 ⟨by have:=HN.out;omega,rfl⟩⟩;have gK:(j:Int)<(n:Int):=by omega
   have h0:(0:Int)<=(j:Int):=aS _;have gU:(0:Int)<=(iz:Int):=aS _;have hiv:=HI.out j iz hiz.out;have hi1:(iz:Int)<(X.nv:Int):=by omega
   have hS1:=H1.2.1.s;have hr0:=HR.out d1 wr H1.2.1 j iz hiz.out;have f8:=hS1.f.1.cell 8 rfl;have hF:=hS1.f.1.1;have hV:=hS1.v.1.1;have vz:=hS1.v.2;have HL:Hid (iz<d1.vs.length):=by have:=hS1.nv;show iz<d1.vs.length;omega
   obtain⟨ov,hov⟩:∃ov,Hid (d1.vs[iz]?=some ov):=⟨d1.vs[iz]'HL.out,aP.2 ⟨HL.out,rfl⟩⟩;have v0:wr.cell? ⟨X.V,iz,none⟩=some ov:=(hS1.v.1.2 iz).trans (by simpa using hov.out);have HT:Hid (j<n/\n<=100):=⟨by omega,hn2⟩;clear hS1 hjn hj
   go_upto_region 3 with fail
   go_region_with (go_at_call 88;refine(L6 g c n j v _ HT.1 (HG.step (H1.2.1.drew)).1.1 ((HG.step (H1.2.1.drew)).at hv.out)).mono ?_;rintro e w1 ⟨rfl,eu⟩;have H3:Hid (Sp X d1 wr d1 w1):=((Sp.refl H1.2.1.s).drew).call eu;have Y9:=H3.s.f.1.cell 8 rfl;have hF':=H3.s.f.1.1;have hV':=H3.s.v.1.1;have v0':w1.cell? ⟨X.V,iz,none⟩=some ov:=(H3.s.v.1.2 iz).trans (by simpa using hov.out);have Vm:=H3.s.v.2;clear eu)
   all_goals
    obtain⟨Q,hQ⟩:∃Q,w1.heap.size=Q:=⟨_,rfl⟩;obtain⟨w2,fU⟩:∃w2,(w1.setCell ⟨X.V,iz,none⟩ (ptr Q)).alloc (.cells #[.int .i64 v.k,.int .i64 v.n,.float .f64 v.f,.string v.s,.int .i64 v.r] 225)=w2:=⟨_,rfl⟩;have fJ:=Sp.var H3.s HL.out (ptr Q);have fM:=fJ.alloc (.cells #[.int .i64 v.k,.int .i64 v.n,.float .f64 v.f,.string v.s,.int .i64 v.r] 225);have hbx:=Bx.new fJ.s (vA v) 225;rw[show(w1.setCell ⟨X.V,iz,none⟩ (ptr Q)).heap.size=Q by rw[<-hQ];simp] at hbx;obtain⟨d2,hd2⟩:∃d2,d2={d1 with vs:=d1.vs.set iz (ptr Q)}:=⟨_,rfl⟩;have H2:Hid (Sp X d1 wr d2 w2/\d2.p=d1.p.var iz (ptr Q)):=by
     rw[hd2,<-fU];exact⟨H3.trans fM,rfl⟩
    have fD:Hid (Bx X d2 w2 Q (vA v)):=by rw[hd2,<-fU];exact hbx
    have Lu:qs.length=j:=by
     have:=aJ List.length H1.1;have hz:=HN.out;have ht:=HT.out;simp at this;omega
    have hsc2:d2.sc.length<=1000:=by
     have e1:d2.sc=d1.sc:=by rw[hd2]
     have e2:d1.sc.length=d.sc.length+qs.length:=by
      have:=aJ (fun q:DP=>q.sc.length) H1.2.2.1;simp only[DP.zh] at this;exact this
     have ht:=HT.out;have hc:=HC.out;rw[e1,e2];omega
    have Qa:Hid (qs.length=j):=Lu;rw[hQ,fU];clear fJ fM hbx fU hQ hd2 H3 f8 hF hV v0 vz Y9 hF' hV' v0' Vm Lu;have f10:=H2.1.s.f.1.cell 10 rfl;obtain⟨i0,BR,gQ,hy1,hy2⟩:=bT QI;obtain⟨v',w7,gq,gB,gY,_,hat⟩:=run_append_own_at (P:=Tryz.prog) (w2.alloc (.cells #[.int .i64 (iz:Int)] 3)) X.N 45 45 3 i0 _ 1 8 Tryz.underlying45 BR gQ hy1 hy2 rfl (by decide) (.slice d2.sa d2.sc.length d2.sp) d2.sc.length (iL d2.sc) (H2.1.s.alloc _).sr ⟨w2.heap.size,0,none⟩ 1 1 [.int .i64 (iz:Int)] rfl (cell_one_new _ _ _) (by simp[Value.oneCell']) (by unfold maxLen;omega) (by omega) (H2.1.s.alloc _).n;have hm:=(H2.1.s.alloc (.cells #[.int .i64 (iz:Int)] 3)).wQ (by rw[jg] at gY;exact gY) (.inr (.inr (.inl rfl))) (fun q e=>lJ (H2.1.s.alloc (.cells #[.int .i64 (iz:Int)] 3)).sr e);obtain⟨a3,c3,rfl,fM⟩:=Sp.scope (z:=(iz:Int)) (H2.1.s.alloc (.cells #[.int .i64 (iz:Int)] 3)) gB gY hat;have fO:=(Sp.below H2.1.s (q01 w2 (.cells #[.int .i64 (iz:Int)] 3))).trans fM;have HF:Hid (z62 X d u iv l (j+1) (w7.setCell ⟨X.F,10,none⟩ (.slice a3 (d2.sc.length+1) c3))):=by
     refine⟨qs++[(iz,Q)],_,?_,H1.2.1.trans (H2.1.trans fO),?_,fun i x y hx hy=>?_⟩
     ·rw[bH,H1.1,List.take_add_one,hiz.out];rfl
     ·show DP.scope d2.p (iz:Int)=_;rw[H2.2,H1.2.2.1,DP.uz]
     ·by_cases hij:i<qs.length
      ·rw[bZ hij] at hx;exact(H1.2.2.2 i x y hx hy).step (H2.1.trans fO)
      ·have hi2:i=j:=by
        have:=(aP.1 hx).1;have hq:=Qa.out;simp at this;omega
       have hxx:x=(iz,Q):=by
        rw[dA (by omega),show i-qs.length=0 by have hq:=Qa.out;omega] at hx;simpa using hx.symm
       have Xk:y=v:=by
        have:=hv.out;rw[hi2,this] at hy;exact(aQ hy).symm
       subst hxx Xk;exact fD.step fO
    have d10:=hm.2.2.1.1.cell 10 rfl;have dz:=hm.2.2.1.2;clear gB gY hat fM fO hm H2 fD BR gQ hy1 hy2;go_wp2_with (at_builtin;refine um (by rfl) _ _ _ _ (by rfl) (.slice d2.sa d2.sc.length d2.sp) (.slice (some ⟨w2.heap.size,0,none⟩) 1 1) _ _ (by rfl) (by rfl) gq ?_);go_roundw
    case rel=>exact⟨j+1,by simp,HT.1,HF⟩
    case measure=>have:=HT.out;simp[intOf];omega
abbrev iE(F:Nat)(cs:Array Value):Value:=.func (.func F) #[] cs
def tq(F:Nat):Prop:=∀args w,(callFunc F args).run Tryz.prog w=.ok (.enter F args) w
def DP.begun(p:DP)(f L:Int):DP:=(p.tick.ln L).D8 ⟨1,0,f,L,⟨#[]⟩⟩
def kK(X:RX)(d:MD)(u:World)(R:Value->MD->World->Prop)(e:Ending)(w':World):Prop:=∃way d',e=.returned way/\Sp X d u d' w'/\R way d' w'
def Cm(X:RX)(l:Int)(R:Value->MD->World->Prop)(way:Value)(d':MD)(w':World):Prop:=∃d4 w4,R way d4 w4/\Sp X d4 w4 d' w'/\d'.p=d4.p.ln l
theorem ZX(X:RX)(d:MD)(s1 s2 s3 bb F:Nat)(cs:Array Value)(nd:Value)(A2:Array Value)(L:Int)(R:Value->MD->World->Prop)(u:World)(h:St X d u)(k1:Od X s1 #[ptr bb])(kb:Od X bb #[ptr X.M,nd])(k2:Od X s2 A2)(hA:A2[1]?=some (.int .i64 L))(k3:Od X s3 #[iE F cs])(hE:tq F)(hl:d.recs.length<4000)(ht:d.ti<X.tk)(hact:∀d3 w3,Sp X d u d3 w3->d3.p=d.p.begun X.fn L->Calls Tryz.prog F (#[ptr X.F]++cs) w3 fun e w'=>kK X d3 w3 R e w'):Calls Tryz.prog 145 #[ptr X.F,ptr s1,ptr s2,ptr s3] u fun e w'=>kK X d u (Cm X d.line R) e w':=by
 have HS:Hid (St X d u):=h;have Ud:Hid (Od X s1 #[ptr bb]):=k1;have HKB:Hid (Od X bb #[ptr X.M,nd]):=kb;have qy:Hid (Od X s2 A2):=k2;have HA:Hid (A2[1]?=some (.int .i64 L)):=hA;have HK3:Hid (Od X s3 #[iE F cs]):=k3;have YW:Hid (∀d3 w3,Sp X d u d3 w3->d3.p=d.p.begun X.fn L->Calls Tryz.prog F (#[ptr X.F]++cs) w3 fun e w'=>kK X d3 w3 R e w'):=hact;have HL:Hid (d.recs.length<4000):=hl;have YC:Hid (d.ti<X.tk):=ht;have b1:=(k1.at h).cell 0 rfl;have b2:=(kb.at h).cell 0 rfl;have l1:=(k1.at h).1;have l2:=(kb.at h).1;have hE':=hE;unfold tq at hE';have HEn:Hid (∀args w,(callFunc F args).run Tryz.prog w=.ok (.enter F args) w):=hE';clear h k1 kb k2 hA k3 hl ht hact hE hE';go_in;go_wp2_with fail;refine(Wi X d _ HS YC).mono ?_;rintro e w1 ⟨rfl,d1,fH,e1⟩;have H1:Hid (Sp X d u d1 w1/\d1.p=d.p.tick):=⟨fH,e1⟩;have pW:d1.line=d.line:=aJ DP.line e1;clear fH e1 b1 b2 l1 l2;have f12:w1.cell? ⟨X.F,12,none⟩=some (.int .i64 d.line):=by rw[<-pW];exact H1.1.s.f.1.cell 12 rfl
 have fz:=H1.1.s.f.2;have n1:=(qy.at H1.1.s).cell 1 HA.out;have hne:X.F≠s2:=fun e=>by have h1:=qy.1.1;have h2:=HS.x.f;omega
 have lF:=H1.1.s.f.1.1;have lS:=(qy.at H1.1.s).1
 go_upto_region 4 with fail
 obtain⟨d2,w2,fU,fJ,e2⟩:∃d2 w2,w1.setCell ⟨X.F,12,none⟩ (.int .i64 L)=w2/\Sp X d1 w1 d2 w2/\d2.p=d1.p.ln L:=⟨_,_,rfl,Sp.line H1.1.s L,rfl⟩;have H2:Hid (Sp X d u d2 w2/\d2.p=d.p.tick.ln L):=⟨H1.1.trans fJ,by rw[e2,H1.2]⟩;rw[fU];clear fU fJ e2 H1 f12 fz n1 pW lF lS;have b1:=(Ud.at H2.1.s).cell 0 rfl;have bb':=(HKB.at H2.1.s).cell 0 rfl;have f1:=H2.1.s.f.1.cell 1 rfl;have n1:=(qy.at H2.1.s).cell 1 HA.out;have HS2:Hid (St X d2 w2.drew):=H2.1.s.drew;have HL2:Hid (d2.recs.length<5000):=by
  have e:d2.recs=d.recs:=aJ DP.recs H2.2;have hz:=HL.out;show d2.recs.length<5000;rw[e];omega
 go_region_with (go_at_call 147;refine(qq1 X d2 1 X.fn L ⟨#[]⟩ _ HS2 HL2).mono ?_;rintro e w3 ⟨rfl,ht3⟩)
 all_goals
  obtain⟨d3,fM,e3⟩:=ht3;have H3:Hid (Sp X d u d3 w3/\d3.p=d.p.begun X.fn L):=⟨H2.1.drew.trans fM,by rw[e3,H2.2];rfl⟩;clear fM e3 H2 HS2 b1 bb' f1 n1 HL2;have s3':=(HK3.at H3.1.s).cell 0 rfl;have l3:=(HK3.at H3.1.s).1;have sJ:=HEn.out;go_wp2_with fail;clear sJ;refine(YW d3 w3 H3.1 H3.2).mono ?_;rintro e w4 ⟨way,d4,rfl,fO,hr4⟩;have H4:Hid (Sp X d u d4 w4/\R way d4 w4):=⟨H3.1.trans fO,hr4⟩;clear fO hr4 H3 s3' l3;have f12:=H4.1.s.f.1.cell 12 rfl;have fz:=H4.1.s.f.2;have lF:=H4.1.s.f.1.1;have HF:Hid (kK X d u (Cm X d.line R) (.returned way) (w4.setCell ⟨X.F,12,none⟩ (.int .i64 d.line))):=⟨way,_,rfl,H4.1.trans (Sp.line H4.1.s d.line),d4,w4,H4.2,Sp.line H4.1.s d.line,rfl⟩;go_wp2_with fail;go_ret;exact HF
structure UF(X:RX)(fn nf ub uo uc nv vc:Nat)(va:Option Addr):Prop where
 f:X.fns=.slice (some ⟨ub,uo,none⟩) nf uc
 i:fn<nf
 lt:ub<X.W.heap.size
 ne:ub≠X.M
 p:X.W.cell? ⟨ub,uo+fn*7+2,none⟩=some (.int .i64 0)
 r:X.W.cell? ⟨ub,uo+fn*7+3,none⟩=some (.bool true)
 v:X.W.cell? ⟨ub,uo+fn*7+4,none⟩=some (.slice va nv vc)
theorem yl9:(Tryz.prog.info? 223).map (fun i=>(i.zero,i.size,i.bytes))=some (some (.pointer none),1,8):=by kernel_rfl
theorem y14:(Tryz.prog.info? 129).map (fun i=>(i.zero,i.size,i.bytes))=some (some (.pointer none),1,8):=by kernel_rfl
theorem jc1(a:Option Addr)(c:Prop)[Decidable c](h:a=none\/∃g,a=some (⟨g,0,none⟩:Addr)):(if c then a else a.map (fun x=>x.add 0))=a:=by
 rcases h with rfl|⟨g,rfl⟩<;>simp[Addr.add]
abbrev BM(nv:Nat):Array Value:=madeCells #[.pointer none] nv
abbrev fZ(X:RX)(V nv:Nat)(fn:Int)(rest:Value):Array Value:=#[.pointer (some ⟨X.T,0,none⟩),.int .i64 fn,.int .i64 0,.int .i64 0,.float .f64 0,.string ⟨#[]⟩,.int .i64 0,.slice none 0 0,.slice (some ⟨V,0,none⟩) nv nv,rest,.slice none 0 0,.slice none 0 0,.int .i64 0]
end
end Go.Proofs.YthnkncpegihbhaaGreatDoor
