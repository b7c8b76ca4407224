import Derived.Test.YtihnikeikhjndaaGreatDoorYnB
set_option maxRecDepth 100000
set_option maxHeartbeats 16000000
namespace Go.Proofs.YtihnikeikhjndaaGreatDoor
section
open Go.RowKit
attribute [local go_sem] aN
attribute [local go_sem ↓] Go.wp_at_zero Go.wp_at_succ
abbrev vA(x:VD):Array Value:=#[.int .i64 x.k,.int .i64 x.n,.float .f64 x.f,.string x.s,.int .i64 x.r]
abbrev jP(B:Nat):Value:=.func (.func 234) #[] #[.pointer (some ⟨B,0,none⟩)]
abbrev yY(B:Nat):Value:=.func (.func 220) #[] #[.pointer (some ⟨B,0,none⟩)]
abbrev wI(B:Nat):Value:=.func (.func 202) #[] #[.pointer (some ⟨B,0,none⟩)]
theorem Le(f:Value)(B:Nat)(v:VD)(u:World)(h:Has u B (vA v)):Calls Tryz.prog 234 #[f,.pointer (some ⟨B,0,none⟩)] u fun e w'=>e=.returned v.v/\ah u w':=by
 have hB:=h.1;have c0:=h.cell 0 rfl;have c1:=h.cell 1 rfl;have c2:=h.cell 2 rfl;have c3:=h.cell 3 rfl;have c4:=h.cell 4 rfl;clear h;go_in;go_wp2_with fail;exact bodyPost_ret (v:=v.v) (by simp[results,Tryz.results234,go_sem]) rfl ⟨rfl,q01 _ _⟩
theorem z42(X:RX)(d:MD)(B Q i:Nat)(v:VD)(u:World)(h:St X d u)(hB:Has u B #[.int .i64 (i:Int)])(hv:d.vs[i]?=some (.pointer (some ⟨Q,0,none⟩)))(hQ:Has u Q (vA v)):Calls Tryz.prog 220 #[.pointer (some ⟨X.F,0,none⟩),.pointer (some ⟨B,0,none⟩)] u fun e w'=>e=.returned v.v/\ah u w':=by
 have b0:=hB.cell 0 rfl;have f8:=h.f.1.cell 8 rfl;have v0:u.cell? ⟨X.V,i,none⟩=some (.pointer (some ⟨Q,0,none⟩)):=(h.v.1.2 i).trans (by simpa using hv);have hi:i<X.nv:=by rw[<-h.nv];exact(List.getElem?_eq_some_iff.1 hv).1
 have hi0:(0:Int)<=(i:Int):=Int.natCast_nonneg _;have hi1:(i:Int)<(X.nv:Int):=by omega
 have c0:=hQ.cell 0 rfl;have c1:=hQ.cell 1 rfl;have c2:=hQ.cell 2 rfl;have c3:=hQ.cell 3 rfl;have c4:=hQ.cell 4 rfl;have h1:=hB.1;have h2:=h.f.1.1;have h3:=h.v.1.1;have h4:=hQ.1;clear h hB hv hQ;go_in;go_wp2_with fail
 go_region_with fail
 all_goals go_wp2_with fail
 all_goals exact bodyPost_ret (v:=v.v) (by simp[results,Tryz.results220,go_sem]) rfl ⟨rfl,(q01 _ _).drew⟩
theorem zl4(a:Option Addr)(n c:Nat)(w:World):(binOp .eql 115 (.slice a n c) (.slice none 0 0)).run Tryz.prog w=.ok (.bool a.isNone) w:=by
 have h:∀d:Nat,(Op.equalIn (d+1) 115 (.slice a n c) (.slice none 0 0)).run Tryz.prog w=.ok a.isNone w:=fun d=>by
  cases a<;>simp[Op.equalIn,run_underlying Tryz.underlying115]
 have e:(binOp .eql 115 (.slice a n c) (.slice none 0 0)).run Tryz.prog w=((Op.equalIn 10000 115 (.slice a n c) (.slice none 0 0)).run Tryz.prog w).andThen fun b w'=>.ok (.bool b) w':=by
  simp only[binOp];simp[Op.equal,Op.maxDepth]
 rw[e,h 9999];rfl
theorem zl8(w:World)(t:TypeId):(w.alloc (.cells #[] t)).ownsRow w.heap.size t 5 (.slice (some ⟨w.heap.size,0,none⟩) 0 0) 0 []:=
 ⟨rfl,.inr ⟨w.heap.size,0,#[],rfl,Nat.le_refl _,by rw[heap_alloc_new],Nat.le_refl _,Nat.zero_le _,rfl,rfl⟩⟩
abbrev kG(N:Nat)(u:World)(g cap:Nat)(l:List VD):Prop:=u.ownsRow N 53 5 (.slice (some ⟨g,0,none⟩) l.length cap) l.length (hL l)
theorem z96(x:Addr)(l:List VD)(cap:Nat)(w:World)(hn:l.length<=100000)(hl:∀j v,(hL l)[j]?=some v->w.cell? (x.add j)=some v)(hx:x.block<w.heap.size):Calls Tryz.prog 254 #[.slice (some x) l.length cap] w fun e w'=>(∃g cap',e=.returned (.slice (some ⟨g,0,none⟩) l.length cap')/\kG w.heap.size w' g cap' l)/\ah w w':=by
 have hs:=zl4 (some x) l.length cap;have HL:Hid (∀j v,(hL l)[j]?=some v->(w.alloc (.cells #[] 53)).cell? (x.add j)=some v):=fun j v e=>(World.cell?_alloc_lt w _ (x.add j) (by cases j<;>simpa[Addr.add] using hx)).trans (hl j v e);clear hl;go_in;obtain⟨i0,hi,hz0,hz1,hz2⟩:=info_parts O6;go_wp2_with (at_builtin;refine wpList_append_own _ rfl _ _ 115 rfl w.heap.size 53 i0 _ 5 48 Tryz.underlying115 hi hz0 hz1 hz2 rfl (by decide) (.slice (some ⟨w.heap.size,0,none⟩) 0 0) 0 [] rfl (zl8 w _) x l.length cap (hL l) rfl (zx l) HL.out (NP l) (by unfold maxLen;omega) (by omega) (by simp) ?_;intro v' w1 hown hgrow hnil);have hg:(w.alloc (.cells #[] 53)).grownBy w1 (some w.heap.size):=hgrow;have ho:w1.ownsRow w.heap.size 53 5 v' l.length (hL l):=by simpa using hown
 have hne:v'≠.slice none 0 0:=fun e=>by simpa using hnil.1 e
 clear hown hgrow hnil;obtain⟨g,cap',rfl⟩:∃g cap',v'=.slice (some ⟨g,0,none⟩) l.length cap':=by
  rcases ho.2 with⟨e,_⟩|⟨g,cap',cur,e,_⟩
  ·exact absurd e hne
  ·exact⟨g,cap',e⟩
 go_ret;exact⟨⟨g,cap',rfl,ho⟩,(q01 w _).grown hg (by simp) (fun k e=>by cases e;exact Nat.le_refl _)⟩
theorem ZB(X:RX)(d:MD)(B1 B Q i:Nat)(v:VD)(u:World)(h:St X d u)(h1:Has u B1 #[yY B])(hB:Has u B #[.int .i64 (i:Int)])(hv:d.vs[i]?=some (.pointer (some ⟨Q,0,none⟩)))(hQ:Has u Q (vA v)):Calls Tryz.prog 202 #[.pointer (some ⟨X.F,0,none⟩),.pointer (some ⟨B1,0,none⟩)] u fun e w'=>(∃g,e=.returned (.slice (some ⟨g,0,none⟩) 1 1)/\u.heap.size<=g/\Has w' g (vA v))/\ah u w':=by
 have b0:=h1.cell 0 rfl;have HS:Hid (St X d u):=h;have HB:Hid (Has u B #[.int .i64 (i:Int)]):=hB;have HQ:Hid (Has u Q (vA v)):=hQ;have HV:Hid (d.vs[i]?=some (.pointer (some ⟨Q,0,none⟩))):=hv;clear h h1 hB hQ hv;go_in;go_wp2_with (go_at_call 220;refine(z42 X d B Q i v _ HS HB HV HQ).mono ?_;rintro e w1 ⟨rfl,hb1⟩);go_ret;exact⟨⟨w1.heap.size,rfl,hb1.size,Has.new _ _ _⟩,hb1.alloc hb1.size _⟩
theorem Ph{w:World}{N N' K:Nat}{t:TypeId}{v:Value}{n:Nat}{xs:List Value}(h:w.ownsRow N t K v n xs)(hb:N'<=N):w.ownsRow N' t K v n xs:=by
 refine⟨h.1,?_⟩;rcases h.2 with h2|⟨g,cap,cur,e,h3,r⟩
 ·exact .inl h2
 ·exact .inr ⟨g,cap,cur,e,by omega,r⟩
def Jq(X:RX)(d:MD)(u:World)(q:DP)(w':World)(g:Nat):Prop:=∃d',Sp X d u d' w'/\d'.p=q/\¬stB X d' g
theorem Sp.beside{X:RX}{d d':MD}{u u' u'':World}(h0:St X d u)(h:Sp X d u d' u'){g:Nat}(hg:Gx (fun k=>k=g) u' u'')(hu:u.heap.size<=g)(hn:¬stB X d' g):Sp X d u d' u'':=by
 have hx:=h.s.x;have ho:∀{B:Nat} {A:Array Value},OwnB u' B A->B≠g->OwnB u'' B A:=fun hh hb=>hg.ownB hh hb;have hr:∀{N K n c m:Nat} {t:TypeId} {xs:List Value} {a:Option Addr},u'.ownsRow N t K (.slice a m c) n xs->aj a≠some g->u''.ownsRow N t K (.slice a m c) n xs:=fun hh hb=>jS hh fun q e=>hg.block q (hh.lt q e).2 (fun c=>hb (by rw[<-c,<-dD];exact e));refine⟨⟨hx,ho h.s.m (fun e=>hn (.inl e.symm)),ho h.s.t (fun e=>hn (.inr (.inl e.symm))),ho h.s.f (fun e=>hn (.inr (.inr (.inl e.symm)))),ho h.s.v (fun e=>hn (.inr (.inr (.inr (.inl e.symm))))),hr h.s.fw (fun e=>hn (.inr (.inr (.inr (.inr (.inr (.inr (.inr (.inl e))))))))),hr h.s.rr (fun e=>hn (.inr (.inr (.inr (.inr (.inl e)))))),hr h.s.hr (fun e=>hn (.inr (.inr (.inr (.inr (.inr (.inl e))))))),hr h.s.sr (fun e=>hn (.inr (.inr (.inr (.inr (.inr (.inr (.inl e)))))))),?_,Nat.le_trans h.s.n hg.size,h.s.nv,h.s.ty.keep (fun k e=>hg.block k ?_ ?_),h.s.r0,h.s.tt.keep hg.size (fun k e=>hg.block k (h.s.tt.a k e).2 (fun c=>hn (.inr (.inr (.inr (.inr (.inr (.inr (.inr (.inr (by rw[<-c];exact e))))))))))),h.s.ts⟩,?_,h.mv⟩
 ·exact h.s.k.trans hg (fun k _ e=>.inr (by have:=h0.k.size;omega))
 ·rcases e with rfl|rfl|rfl|rfl
  ·exact h.s.m.1.1
  ·exact h.s.t.1.1
  ·exact h.s.f.1.1
  ·exact h.s.v.1.1
 ·intro c;rcases e with rfl|rfl|rfl|rfl
  ·exact hn (.inl c.symm)
  ·exact hn (.inr (.inl c.symm))
  ·exact hn (.inr (.inr (.inl c.symm)))
  ·exact hn (.inr (.inr (.inr (.inl c.symm))))
 ·exact h.g.trans hg (fun k hk e=>by omega)
theorem Dn{X:RX}{d d':MD}{u u':World}{N K n g c m:Nat}{t:TypeId}{xs:List Value}(ho:u.ownsRow N t K (.slice (some ⟨g,0,none⟩) m c) n xs)(hn:¬stB X d g)(k:Sp X d u d' u'):u'.ownsRow N t K (.slice (some ⟨g,0,none⟩) m c) n xs/\¬stB X d' g:=by
 have hlt:=(q16 ho (k:=g) rfl).2;exact⟨jS ho fun q e=>by cases e;exact k.g.block g hlt hn,fun e=>hn (k.mv g hlt e)⟩
def vl(vs:Nat->VD)(n:Nat):List VD:=(List.range n).map vs
theorem AZ(vs:Nat->VD)(n:Nat):(vl vs n).length=n:=by simp[vl]
theorem U1(vs:Nat->VD)(n:Nat):vl vs (n+1)=vl vs n++[vs n]:=by simp[vl,List.range_succ]
theorem DP.qA(p:DP):p.hold []=p:=by simp[DP.hold]
theorem DP.nD(p:DP)(a b:List VD):(p.hold a).hold b=p.hold (a++b):=by simp[DP.hold]
theorem DP.iQ(p:DP)(l:List VD){m:Nat}(e:p.held.length=m):(p.hold l).dX m=p:=by
 subst e;simp[DP.hold,DP.dX]
structure Ot(X:RX)(a:Option Addr)(n:Nat)(Bs:Nat->Nat)(vs:Nat->VD):Prop where
 row:aP 1 0 X.W a n fun i=>#[jP (Bs i)]
 rm:∀b,a=some b->b.block≠X.M
 lit:∀i,i<n->Has X.W (Bs i) (vA (vs i))/\Bs i≠X.M
theorem LJ(x:Addr)(l:List VD)(n cap:Nat)(w:World)(e:l.length=n)(hn:n<=100000)(hl:∀j v,(hL l)[j]?=some v->w.cell? (x.add j)=some v)(hx:x.block<w.heap.size):Calls Tryz.prog 254 #[.slice (some x) n cap] w fun e w'=>(∃g cap',e=.returned (.slice (some ⟨g,0,none⟩) n cap')/\w'.ownsRow w.heap.size 53 5 (.slice (some ⟨g,0,none⟩) n cap') n (hL l))/\ah w w':=by
 subst e;exact z96 x l cap w hn hl hx
theorem GU(X:RX)(d:MD)(g:Nat)(v:VD)(u:World)(h:St X d u)(hn:d.held.length<=90000)(hg:Has u g (vA v)):Calls Tryz.prog 196 #[.pointer (some ⟨X.T,0,none⟩),.slice (some ⟨g,0,none⟩) 1 1] u fun e w'=>e=.returned (.tuple #[])/\To X d u (d.p.hold [v]) w':=
 Po X d ⟨g,0,none⟩ [v] 1 u h (by simp;omega) (fun j x e=>by
  have e2:(vA v)[j]?=some x:=by
   rw[<-Array.getElem?_toList];simpa[hL,v5] using e
  have:=(hg.2 j).trans e2
  cases j<;>simpa[Addr.add] using this)
theorem St.xg{X:RX}{d:MD}{u:World}(h:St X d u)(hp:0<d.held.length):∃g,d.ha=some ⟨g,0,none⟩/\g<u.heap.size/\d.held.length<=d.hc/\∀j v,(hL d.held)[j]?=some v->u.cell? ⟨g,j,none⟩=some v:=by
 have hc:=h.hr;rcases h.hr.2 with⟨e,h0⟩|⟨g,cap,cur,e,_,hg,h5,_⟩
 ·omega
 ·obtain⟨e1,e3⟩:d.ha=some ⟨g,0,none⟩/\d.hc=cap:=by simpa using e
  refine⟨g,e1,(Array.getElem?_eq_some_iff.1 hg).1,by omega,fun j v hv=>?_⟩;have hcs:=hc.cells (g:=g) (by rw[e1];rfl) j v hv
  cases j<;>simpa[Addr.add] using hcs
theorem zm0(X:RX)(d:MD)(B:Nat)(a:Option Addr)(n cap:Nat)(Bs:Nat->Nat)(vs:Nat->VD)(u:World)(h:St X d u)(hB:Has X.W B #[.slice a n cap])(QX:B≠X.M)(hL0:Ot X a n Bs vs)(hn:n<=1000)(hp:0<d.held.length+n)(hlen:d.held.length<=1000):Calls Tryz.prog 253 #[.pointer (some ⟨X.F,0,none⟩),.pointer (some ⟨B,0,none⟩)] u fun e w'=>(∃g c,e=.returned (.slice (some ⟨g,0,none⟩) n c)/\w'.ownsRow u.heap.size 53 5 (.slice (some ⟨g,0,none⟩) n c) n (hL (vl vs n))/\Jq X d u d.p w' g):=by
 have HS:Hid (St X d u):=h;have HL:Hid (Ot X a n Bs vs):=hL0;have b0:=(h.old hB QX).cell 0 rfl;have f0:=h.f.1.cell 0 rfl;have c8:u.cell? ⟨X.T,8,none⟩=some (.slice d.ha d.held.length d.hc):=h.t.1.cell 8 rfl;obtain⟨H,hH⟩:∃H,d.held.length=H:=⟨_,rfl⟩;rw[hH] at c8 hp hlen;have HH:Hid (d.held.length=H):=hH;clear h hL0 hB hH;go_in;go_wp2_with fail;clear c8 f0 b0
 go_loopw [20] (fun i wr=>∃(k:Nat) (d1:MD),k<=n/\i=.int .i64 k/\Hid (Sp X d u d1 wr/\d1.p=d.p.hold (vl vs k))) (fun i _=>n-(intOf i).toNat)
 case atStart=>exact⟨0,d,Nat.zero_le _,rfl,Sp.refl HS.out,(DP.qA _).symm⟩
 case round=>
  obtain⟨k,d1,hk,rfl,HP⟩:=hrel;have hl1:d1.held.length=H+k:=by
   have:=congrArg DP.held HP.2;have h2:d1.held=d.held++vl vs k:=this;rw[h2,List.length_append,AZ,HH.out]
  by_cases hkn:k<n
  ·obtain⟨b,off,rfl,_,hb,d0⟩:=aX (HP.1.s.oldRow HL.row HL.rm) hkn;have HB:Hid (Has wr (Bs k) (vA (vs k))):=HP.1.s.old (HL.lit k hkn).1 (HL.lit k hkn).2;go_wp2_with (first
    |(go_at_call 234;refine(Le _ (Bs k) (vs k) _ HB).mono ?_;rintro e w1 ⟨rfl,hb1⟩;have qL:Hid (Sp X d u d1 (w1.alloc (.cells (vA (vs k)) 53))/\d1.p=d.p.hold (vl vs k)):=⟨(HP.1.call hb1).alloc _,HP.2⟩;have HG:Hid (Has (w1.alloc (.cells (vA (vs k)) 53)) w1.heap.size (vA (vs k))):=Has.new _ _ _;clear HP HB hb1 d0)
    |(go_at_call 196;refine(GU X d1 _ (vs k) _ qL.1.s (by omega) HG.out).mono ?_;rintro e w2 ⟨rfl,ht2⟩))
   obtain⟨d2,hs2,e2⟩:=ht2;have HP2:Hid (Sp X d u d2 w2/\d2.p=d.p.hold (vl vs (k+1))):=⟨qL.1.trans hs2,by rw[e2,qL.2,DP.nD,U1]⟩;clear hs2 e2 qL HG;go_roundw
   case rel=>exact⟨k+1,d2,by omega,by go_num,HP2⟩
   case measure=>simp[intOf];omega
  ·obtain rfl:k=n:=by omega
   have hpos:0<d1.held.length:=by omega
   obtain⟨g,hg1,hg2,hg3,hg4⟩:=HP.1.s.xg hpos;have Eu:Hid (∀j v,(hL d1.held)[j]?=some v->wr.cell? ⟨g,j,none⟩=some v):=hg4;have c8:wr.cell? ⟨X.T,8,none⟩=some (.slice (some ⟨g,0,none⟩) (H+k) d1.hc):=by
    have:=HP.1.s.t.1.cell 8 rfl;rw[<-hl1,<-hg1];exact this
   have hT:=HP.1.s.t.1.1;have z:=HP.1.s.t.2;have hh2:d1.held=d.held++vl vs k:=congrArg DP.held HP.2;have HX:Hid (∀(x:Addr),x=(if d1.hc=H then⟨g,0,none⟩ else⟨g,H*5,none⟩)->∀j v,(hL (vl vs k))[j]?=some v->wr.cell? (x.add j)=some v):=by
    intro x hx j v hv;have hj:j<k*5:=by
     have:=(List.getElem?_eq_some_iff.1 hv).1
     rwa [zx,AZ] at this
    have hc:¬d1.hc=H:=by omega
    rw[if_neg hc] at hx;subst hx;have h5:=Eu.out (H*5+j) v (by
     rw[hh2,Kw,List.getElem?_append_right (by rw[zx,HH.out];omega),zx,HH.out,show H*5+j-H*5=j by omega];exact hv)
    cases j<;>simpa[Addr.add] using h5
   have HF:Hid (∀w' g2,ah wr w'->wr.heap.size<=g2->Jq X d u d.p (w'.setCell ⟨X.T,8,none⟩ (.slice (some ⟨g,0,none⟩) H d1.hc)) g2):=fun w' g2 hb hg2=>by
    have h1:=HP.1.call hb;have h2:=Sp.dX h1.s (m:=H) (by omega);rw[<-hg1];refine⟨_,h1.trans h2,?_,fun e=>HP.1.s.other hg2 e⟩;show DP.dX d1.p H=d.p;rw[HP.2];exact DP.iQ d.p _ HH
   have HO:Hid (∀(w':World) (g2 c2:Nat) (v:Value),ah wr w'->w'.ownsRow wr.heap.size 53 5 (.slice (some ⟨g2,0,none⟩) k c2) k (hL (vl vs k))->(w'.setCell ⟨X.T,8,none⟩ v).ownsRow u.heap.size 53 5 (.slice (some ⟨g2,0,none⟩) k c2) k (hL (vl vs k))):=fun w' g2 c2 v hb ho=>Ph (jh ho v (fun q e=>by have:=(ho.lt q e).1;omega)) HP.1.g.size;by_cases hc:d1.hc=H
   ·obtain rfl:k=0:=by omega
    rw[hc] at c8 HF;have hX:=HX.out ⟨g,0,none⟩ (by rw[if_pos hc]);have En:Hid (∀j v,(hL (vl vs 0))[j]?=some v->wr.cell? ((⟨g,0,none⟩:Addr).add j)=some v):=hX;have hH0:¬H=0:=by omega
    clear hX HX Eu hh2;go_wp2_with (go_at_call 254;refine(LJ ⟨g,0,none⟩ (vl vs 0) 0 _ _ rfl (by omega) En.out hg2).mono ?_;rintro e w3 ⟨⟨g3,c3,rfl,ho3⟩,hb3⟩;have d8:=(World.cell?_of_block (a:=⟨X.T,8,none⟩) (hb3.block X.T hT)).trans c8;have dz:∀o,w3.frozen? ⟨X.T,o,none⟩=false:=fun o=>(World.frozen?_of_block (a:=⟨X.T,o,none⟩) (hb3.block X.T hT)).trans (z o);clear c8 z);go_ret;exact⟨g3,c3,rfl,HO _ _ _ _ hb3 ho3,HF _ _ hb3 (q16 ho3 (k:=g3) rfl).1⟩
   ·have hX:=HX.out ⟨g,H*5,none⟩ (by rw[if_neg hc]);have En:Hid (∀j v,(hL (vl vs k))[j]?=some v->wr.cell? ((⟨g,H*5,none⟩:Addr).add j)=some v):=hX;have hH0:¬d1.hc=0:=by omega
    clear hX HX Eu hh2;go_wp2_with (go_at_call 254;refine(LJ ⟨g,H*5,none⟩ (vl vs k) k _ _ (AZ vs k) (by omega) En.out hg2).mono ?_;rintro e w3 ⟨⟨g3,c3,rfl,ho3⟩,hb3⟩;have d8:=(World.cell?_of_block (a:=⟨X.T,8,none⟩) (hb3.block X.T hT)).trans c8;have dz:∀o,w3.frozen? ⟨X.T,o,none⟩=false:=fun o=>(World.frozen?_of_block (a:=⟨X.T,o,none⟩) (hb3.block X.T hT)).trans (z o);clear c8 z);go_ret;exact⟨g3,c3,rfl,HO _ _ _ _ hb3 ho3,HF _ _ hb3 (q16 ho3 (k:=g3) rfl).1⟩
def Od(X:RX)(B:Nat)(A:Array Value):Prop:=Has X.W B A/\B≠X.M
theorem Od.at{X:RX}{d:MD}{u:World}{B:Nat}{A:Array Value}(h:Od X B A)(s:St X d u):Has u B A:=s.old h.1 h.2
def Oc(X:RX)(B:Nat)(v:Value):Prop:=(B<X.W.heap.size/\X.W.cell? ⟨B,0,none⟩=some v)/\B≠X.M
theorem Oc.at{X:RX}{d:MD}{u:World}{B:Nat}{v:Value}(h:Oc X B v)(s:St X d u):u.cell? ⟨B,0,none⟩=some v:=(World.cell?_of_block (a:=⟨B,0,none⟩) (s.k.block B h.1.1 (fun e=>by
 rcases e with e|e
 ·exact h.2 e
 ·have:=h.1.1;omega))).trans h.1.2
abbrev ptr(B:Nat):Value:=.pointer (some ⟨B,0,none⟩)
abbrev FU(B:Nat):Value:=.func (.func 253) #[] #[ptr B]
abbrev FP(a b c:Nat):Value:=.func (.func 216) #[] #[ptr a,ptr b,ptr c]
abbrev AX(a b:Nat):Value:=.func (.func 248) #[] #[ptr a,ptr b]
abbrev qF(a b:Nat):Value:=.func (.func 199) #[] #[ptr a,ptr b]
abbrev MZ(a:Nat):Value:=.func (.func 174) #[] #[ptr a]
abbrev zh(a b c:Nat):Value:=.func (.func 147) #[] #[ptr a,ptr b,ptr c]
abbrev nN(a:Nat):Value:=.func (.func 170) #[] #[ptr a]
abbrev kE:VD:=⟨8,0,0,⟨#[]⟩,0⟩
def Aa(w:World)(a:Option Addr)(l:List VD):Prop:=l≠[]->∃ad,a=some ad/\ad.block<w.heap.size/\∀j v,(hL l)[j]?=some v->w.cell? (ad.add j)=some v
def bP(X:RX)(d:MD)(u:World)(l:List VD)(q:DP)(e:Ending)(w':World):Prop:=∃a c d',e=.returned (.slice a l.length c)/\(l=[]->a=none/\c=0)/\Aa w' a l/\Sp X d u d' w'/\d'.p=q/\∀ad,a=some ad->l≠[]->¬stB X d' ad.block
theorem y03(a:Addr)(j:Nat):(a.add j).block=a.block:=by cases j<;>rfl
theorem Aa.step{X:RX}{d d':MD}{u u':World}{a:Option Addr}{l:List VD}(h:Aa u a l)(hn:∀ad,a=some ad->l≠[]->¬stB X d ad.block)(k:Sp X d u d' u'):Aa u' a l/\∀ad,a=some ad->l≠[]->¬stB X d' ad.block:=by
 refine⟨fun hl=>?_,fun ad e hl c=>?_⟩
 ·obtain⟨ad,e,h1,h2⟩:=h hl;exact⟨ad,e,Nat.lt_of_lt_of_le h1 k.g.size,fun j v hv=>(World.cell?_of_block (a:=ad.add j) (by rw[y03];exact k.g.block _ h1 (hn ad e hl))).trans (h2 j v hv)⟩
 ·obtain⟨ad',e',h1,_⟩:=h hl;rw[e] at e'
  cases e';exact hn ad e hl (k.mv _ h1 c)
theorem U4(N:Nat)(w:World)(g c c2:Nat)(a2:Option Addr)(l l2:List VD)(hN:N<=w.heap.size)(ho:kG N w g c l)(h2:Aa w a2 l2)(hb:l.length+l2.length<=100000)(hnil:l2=[]->a2=none/\c2=0):∃g3 c3 w',(Builtin.append_ #[115,115] 115 #[.slice (some ⟨g,0,none⟩) l.length c,.slice a2 l2.length c2]).run Tryz.prog w=.ok (.slice (some ⟨g3,0,none⟩) (l++l2).length c3) w'/\kG N w' g3 c3 (l++l2)/\w.grownBy w' (some g)/\(g3=g\/g3=w.heap.size):=by
 obtain⟨i0,hi0,hy0,hy1,hy2⟩:=info_parts O6;by_cases hl:l2=[]
 ·obtain⟨rfl,rfl⟩:=hnil hl;subst hl;have hr:=run_append_owned_none (P:=Tryz.prog) (w:=w) N 115 115 53 i0 5 Tryz.underlying115 hi0 (.slice (some ⟨g,0,none⟩) l.length c) l.length (hL l) ho;exact⟨g,c,w,by simpa using hr,by simpa using ho,⟨rfl,rfl,rfl,Nat.le_refl _,fun _ _ _=>rfl⟩,.inl rfl⟩
 ·obtain⟨ad,rfl,hlt,hc⟩:=h2 hl;have hpos:0<l2.length:=List.length_pos_iff.2 hl;obtain⟨v',w',hr,hown,hgrow,hnl,hat⟩:=run_append_own_at (P:=Tryz.prog) w N 115 115 53 i0 _ 5 48 Tryz.underlying115 hi0 hy0 hy1 hy2 rfl (by decide) (.slice (some ⟨g,0,none⟩) l.length c) l.length (hL l) ho ad l2.length c2 (hL l2) (zx l2) hc (NP l2) (by unfold maxLen;omega) (by omega) hN;have hne:v'≠.slice none 0 0:=fun e=>by
   have:=(hnl.1 e);simp at this
  rcases hown.2 with⟨e,_⟩|⟨g3,c3,cur,e,_⟩
  ·exact absurd e hne
  ·subst e;refine⟨g3,c3,w',by rw[List.length_append];exact hr,?_,hgrow,by simpa[Value.ownBlock] using hat⟩;show w'.ownsRow N _ 5 (.slice (some ⟨g3,0,none⟩) (l++l2).length c3) (l++l2).length (hL (l++l2));rw[Kw,List.length_append];exact hown
def vW(X:RX)(d:MD)(u:World)(l:List VD)(q:DP)(e:Ending)(w':World):Prop:=∃g c d',e=.returned (.slice (some ⟨g,0,none⟩) l.length c)/\kG u.heap.size w' g c l/\Sp X d u d' w'/\d'.p=q/\¬stB X d' g
theorem kG.at{N:Nat}{w:World}{g c:Nat}{l:List VD}(h:kG N w g c l):∀j v,(hL l)[j]?=some v->w.cell? ((⟨g,0,none⟩:Addr).add j)=some v:=fun j v e=>by
 have:=h.cells (g:=g) rfl j v e
 cases j<;>simpa[Addr.add] using this
theorem DP.nG(p:DP)(l:List VD){m:Nat}(e:(p.held++l).length-l.length=m):(p.hold l).dX m=p:=by
 have:p.held.length=m:=by rw[List.length_append] at e;omega
 exact DP.iQ p l this
theorem y94(X:RX)(d:MD)(l1 l2 b1 o r1 r2:Nat)(vs more:List VD)(q:DP)(u:World)(h:St X d u)(k1:Od X l1 #[FU o])(k2:Od X l2 #[qF r1 r2])(hq:q.held=d.held)(hO:Calls Tryz.prog 253 #[ptr X.F,ptr o] u fun e w'=>vW X d u vs d.p e w')(hR:∀d2 w2,Sp X d u d2 w2->d2.p=d.p.hold vs->Calls Tryz.prog 199 #[ptr X.F,ptr r1,ptr r2] w2 fun e w'=>bP X d2 w2 more (q.hold vs) e w')(hlen:d.held.length+vs.length<=1000)(hm:vs.length+more.length<=250):Calls Tryz.prog 216 #[ptr X.F,ptr l1,ptr l2,ptr b1] u fun e w'=>vW X d u (vs++more) q e w':=by
 have HS:Hid (St X d u):=h;have iY:Hid (Od X l2 #[qF r1 r2]):=k2;have HO:Hid (Calls Tryz.prog 253 #[ptr X.F,ptr o] u fun e w'=>vW X d u vs d.p e w'):=hO;have HR:Hid (∀d2 w2,Sp X d u d2 w2->d2.p=d.p.hold vs->Calls Tryz.prog 199 #[ptr X.F,ptr r1,ptr r2] w2 fun e w'=>bP X d2 w2 more (q.hold vs) e w'):=hR;have HQ:Hid (q.held=d.held):=hq;have b1':=(k1.at h).cell 0 rfl;clear h k1 k2 hO hR hq;go_in;go_wp2_with fail;refine HO.mono ?_;rintro e w1 ⟨g1,c1,d1,rfl,ho1,hs1,e1,hg1⟩;have HV:Hid (kG u.heap.size w1 g1 c1 vs/\¬stB X d1 g1):=⟨ho1,hg1⟩;have H1:Hid (Sp X d u d1 w1/\d1.p=d.p):=⟨hs1,e1⟩;clear ho1 hg1 hs1 e1 b1';have f0:=H1.1.s.f.1.cell 0 rfl;have hl1:d1.held.length=d.held.length:=by have:=congrArg DP.held H1.2;exact congrArg List.length this
 go_wp2_with fail;refine(Po X d1 ⟨g1,0,none⟩ vs c1 _ H1.1.s (by omega) HV.1.at).mono ?_;rintro e w2 ⟨rfl,d2,hs2,e2⟩;have uH:Hid (kG u.heap.size w2 g1 c1 vs/\¬stB X d2 g1):=Dn HV.1 HV.2 hs2;have H2:Hid (Sp X d u d2 w2/\d2.p=d.p.hold vs):=⟨H1.1.trans hs2,by rw[e2,H1.2]⟩;clear hs2 e2 HV H1 f0 hl1;have b2:=(iY.at H2.1.s).cell 0 rfl;go_wp2_with fail;refine(HR d2 _ H2.1 H2.2).mono ?_;rintro e w3 ⟨a3,c3,d3,rfl,hn3,hL3,hs3,e3,hb3⟩;have Eo:Hid (kG u.heap.size w3 g1 c1 vs/\¬stB X d3 g1):=Dn uH.1 uH.2 hs3;have Af:Hid (Aa w3 a3 more/\(more=[]->a3=none/\c3=0)/\∀ad,a3=some ad->more≠[]->¬stB X d3 ad.block):=⟨hL3,hn3,hb3⟩;have H3:Hid (Sp X d u d3 w3/\d3.p=q.hold vs):=⟨H2.1.trans hs3,e3⟩;clear hn3 hL3 hs3 e3 hb3 uH H2 b2;have f0:=H3.1.s.f.1.cell 0 rfl;have hl3:d3.held.length=d.held.length+vs.length:=by
  have h1:d3.held=q.held++vs:=congrArg DP.held H3.2;rw[h1,HQ.out,List.length_append]
 go_wp2_with fail;refine(Hz X d3 vs.length _ H3.1.s (by omega) (by omega)).mono ?_;rintro e w4 ⟨rfl,d4,hs4,e4⟩;have xW:Hid (kG u.heap.size w4 g1 c1 vs/\¬stB X d4 g1):=Dn Eo.1 Eo.2 hs4;have JF:Hid (Aa w4 a3 more/\∀ad,a3=some ad->more≠[]->¬stB X d4 ad.block):=Af.1.step Af.2.2 hs4;have H4:Hid (Sp X d u d4 w4/\d4.p=q):=⟨H3.1.trans hs4,by
  rw[e4,H3.2];exact DP.nG q vs (by rw[<-show d3.held=q.held++vs from congrArg DP.held H3.2])⟩
 clear hs4 e4 Eo H3 f0 hl3;obtain⟨g5,c5,w5,happ,Io,hg5,xq⟩:=U4 u.heap.size w4 g1 c1 c3 a3 vs more H4.1.g.size xW.1 JF.1 (by omega) Af.2.1;have HF:Hid (vW X d u (vs++more) q (.returned (.slice (some ⟨g5,0,none⟩) (vs.length+more.length) c5)) w5):=by
  have hgx:Gx (fun k=>k=g1) w4 w5:=(Gx.grown hg5).mono (fun k e=>(Option.some.inj e).symm);refine⟨g5,c5,d4,by rw[List.length_append],Io,Sp.beside HS.out H4.1 hgx (q16 xW.1 (k:=g1) rfl).1 xW.2,H4.2,?_⟩;rcases xq with e|e
  ·rw[e];exact xW.2
  ·exact H4.1.s.other (Nat.le_of_eq e.symm)
 clear xW JF Af H4 Io hg5 xq;obtain⟨n,hn⟩:∃n,vs.length=n:=⟨_,rfl⟩;obtain⟨m,hm'⟩:∃m,more.length=m:=⟨_,rfl⟩;rw[hn,hm'] at happ hm;rw[hn,hm'];have hmI:¬(250:Int)<(n:Int)+(m:Int):=by omega
 clear hn hm' hlen;go_wp2_with (at_builtin;refine q32 (by rfl) _ _ _ _ (by rfl) (.slice (some ⟨g1,0,none⟩) n c1) (.slice a3 m c3) _ _ (by rfl) (by rfl) happ ?_);go_ret;exact HF
theorem X5(X:RX)(d:MD)(l1 l2 b1 o r1:Nat)(vs more:List VD)(q:DP)(u:World)(h:St X d u)(k1:Od X l1 #[FU o])(k2:Od X l2 #[wI r1])(hq:q.held=d.held)(hO:Calls Tryz.prog 253 #[ptr X.F,ptr o] u fun e w'=>vW X d u vs d.p e w')(hR:∀d2 w2,Sp X d u d2 w2->d2.p=d.p.hold vs->Calls Tryz.prog 202 #[ptr X.F,ptr r1] w2 fun e w'=>bP X d2 w2 more (q.hold vs) e w')(hlen:d.held.length+vs.length<=1000)(hm:vs.length+more.length<=250):Calls Tryz.prog 216 #[ptr X.F,ptr l1,ptr l2,ptr b1] u fun e w'=>vW X d u (vs++more) q e w':=by
 have HS:Hid (St X d u):=h;have iY:Hid (Od X l2 #[wI r1]):=k2;have HO:Hid (Calls Tryz.prog 253 #[ptr X.F,ptr o] u fun e w'=>vW X d u vs d.p e w'):=hO;have HR:Hid (∀d2 w2,Sp X d u d2 w2->d2.p=d.p.hold vs->Calls Tryz.prog 202 #[ptr X.F,ptr r1] w2 fun e w'=>bP X d2 w2 more (q.hold vs) e w'):=hR;have HQ:Hid (q.held=d.held):=hq;have b1':=(k1.at h).cell 0 rfl;clear h k1 k2 hO hR hq;go_in;go_wp2_with fail;refine HO.mono ?_;rintro e w1 ⟨g1,c1,d1,rfl,ho1,hs1,e1,hg1⟩;have HV:Hid (kG u.heap.size w1 g1 c1 vs/\¬stB X d1 g1):=⟨ho1,hg1⟩;have H1:Hid (Sp X d u d1 w1/\d1.p=d.p):=⟨hs1,e1⟩;clear ho1 hg1 hs1 e1 b1';have f0:=H1.1.s.f.1.cell 0 rfl;have hl1:d1.held.length=d.held.length:=by have:=congrArg DP.held H1.2;exact congrArg List.length this
 go_wp2_with fail;refine(Po X d1 ⟨g1,0,none⟩ vs c1 _ H1.1.s (by omega) HV.1.at).mono ?_;rintro e w2 ⟨rfl,d2,hs2,e2⟩;have uH:Hid (kG u.heap.size w2 g1 c1 vs/\¬stB X d2 g1):=Dn HV.1 HV.2 hs2;have H2:Hid (Sp X d u d2 w2/\d2.p=d.p.hold vs):=⟨H1.1.trans hs2,by rw[e2,H1.2]⟩;clear hs2 e2 HV H1 f0 hl1;have b2:=(iY.at H2.1.s).cell 0 rfl;go_wp2_with fail;refine(HR d2 _ H2.1 H2.2).mono ?_;rintro e w3 ⟨a3,c3,d3,rfl,hn3,hL3,hs3,e3,hb3⟩;have Eo:Hid (kG u.heap.size w3 g1 c1 vs/\¬stB X d3 g1):=Dn uH.1 uH.2 hs3;have Af:Hid (Aa w3 a3 more/\(more=[]->a3=none/\c3=0)/\∀ad,a3=some ad->more≠[]->¬stB X d3 ad.block):=⟨hL3,hn3,hb3⟩;have H3:Hid (Sp X d u d3 w3/\d3.p=q.hold vs):=⟨H2.1.trans hs3,e3⟩;clear hn3 hL3 hs3 e3 hb3 uH H2 b2;have f0:=H3.1.s.f.1.cell 0 rfl;have hl3:d3.held.length=d.held.length+vs.length:=by
  have h1:d3.held=q.held++vs:=congrArg DP.held H3.2;rw[h1,HQ.out,List.length_append]
 go_wp2_with fail;refine(Hz X d3 vs.length _ H3.1.s (by omega) (by omega)).mono ?_;rintro e w4 ⟨rfl,d4,hs4,e4⟩;have xW:Hid (kG u.heap.size w4 g1 c1 vs/\¬stB X d4 g1):=Dn Eo.1 Eo.2 hs4;have JF:Hid (Aa w4 a3 more/\∀ad,a3=some ad->more≠[]->¬stB X d4 ad.block):=Af.1.step Af.2.2 hs4;have H4:Hid (Sp X d u d4 w4/\d4.p=q):=⟨H3.1.trans hs4,by
  rw[e4,H3.2];exact DP.nG q vs (by rw[<-show d3.held=q.held++vs from congrArg DP.held H3.2])⟩
 clear hs4 e4 Eo H3 f0 hl3;obtain⟨g5,c5,w5,happ,Io,hg5,xq⟩:=U4 u.heap.size w4 g1 c1 c3 a3 vs more H4.1.g.size xW.1 JF.1 (by omega) Af.2.1;have HF:Hid (vW X d u (vs++more) q (.returned (.slice (some ⟨g5,0,none⟩) (vs.length+more.length) c5)) w5):=by
  have hgx:Gx (fun k=>k=g1) w4 w5:=(Gx.grown hg5).mono (fun k e=>(Option.some.inj e).symm);refine⟨g5,c5,d4,by rw[List.length_append],Io,Sp.beside HS.out H4.1 hgx (q16 xW.1 (k:=g1) rfl).1 xW.2,H4.2,?_⟩;rcases xq with e|e
  ·rw[e];exact xW.2
  ·exact H4.1.s.other (Nat.le_of_eq e.symm)
 clear xW JF Af H4 Io hg5 xq;obtain⟨n,hn⟩:∃n,vs.length=n:=⟨_,rfl⟩;obtain⟨m,hm'⟩:∃m,more.length=m:=⟨_,rfl⟩;rw[hn,hm'] at happ hm;rw[hn,hm'];have hmI:¬(250:Int)<(n:Int)+(m:Int):=by omega
 clear hn hm' hlen;go_wp2_with (at_builtin;refine q32 (by rfl) _ _ _ _ (by rfl) (.slice (some ⟨g1,0,none⟩) n c1) (.slice a3 m c3) _ _ (by rfl) (by rfl) happ ?_);go_ret;exact HF
end
section
open Go.RowKit
abbrev jk(n:Int):VD:=⟨2,n,0,⟨#[]⟩,0⟩
attribute [local go_sem] aN
attribute [local go_sem ↓] Go.wp_at_zero Go.wp_at_succ
def fB(X:RX)(d:MD)(u:World)(B:Nat)(A:Array Value):Prop:=OwnB u B A/\¬stB X d B
section
variable {X:RX}{d d':MD}{u u':World}{B:Nat}{A:Array Value}
theorem fB.step(h:fB X d u B A)(k:Sp X d u d' u'):fB X d' u' B A:=⟨k.g.ownB h.1 h.2,fun e=>h.2 (k.mv B h.1.1.1 e)⟩
theorem fB.new(h:St X d u)(A:Array Value)(t:TypeId):fB X d (u.alloc (.cells A t)) u.heap.size A:=⟨OwnB.new u A t,h.other (Nat.le_refl _)⟩
theorem fB.alloc(h:fB X d u B A)(o:Obj):fB X d (u.alloc o) B A:=⟨h.1.block (by simp) (Below.heap_alloc u o B h.1.1.1),h.2⟩
theorem MS(w:World)(B:Nat)(a b c e f:Value):Gx (fun k=>k=B) w (((((w.setCell ⟨B,0,none⟩ a).setCell ⟨B,1,none⟩ b).setCell ⟨B,2,none⟩ c).setCell ⟨B,3,none⟩ e).setCell ⟨B,4,none⟩ f):=
 ((((Gx.set _ _ _ _).trans (Gx.set _ _ _ _) (fun _ _ h=>h)).trans (Gx.set _ _ _ _) (fun _ _ h=>h)).trans (Gx.set _ _ _ _) (fun _ _ h=>h)).trans (Gx.set _ _ _ _) (fun _ _ h=>h)
end
abbrev z5:Array Value:=#[.int .i64 0,.int .i64 0,.float .f64 0,.string ⟨#[]⟩,.int .i64 0]
abbrev rH:Value:=.func (.func 215) #[] #[]
def Di(X:RX)(d:MD)(u:World)(cv:VD)(l:List VD)(q:DP)(e:Ending)(w':World):Prop:=∃g c d',e=.returned (.tuple #[cv.v,.slice (some ⟨g,0,none⟩) l.length c])/\kG u.heap.size w' g c l/\Sp X d u d' w'/\d'.p=q/\¬stB X d' g
theorem zd1(f:Value)(u:World):Calls Tryz.prog 215 #[f] u fun e w'=>e=.returned (.slice none 0 0)/\w'=u:=by
 go_in;go_wp2_with fail;go_ret;exact⟨rfl,rfl⟩
theorem Xb(X:RX)(d:MD)(p1 p2 pc l1 l2 b1:Nat)(cv:VD)(l:List VD)(q:DP)(u:World)(h:St X d u)(k1:Od X p1 #[jP pc])(kc:Od X pc (vA cv))(k2:Od X p2 #[FP l1 l2 b1])(hq:q.held=d.held)(hL:∀d2 w2,Sp X d u d2 w2->d2.p=d.p.hold [cv]->Calls Tryz.prog 216 #[ptr X.F,ptr l1,ptr l2,ptr b1] w2 fun e w'=>vW X d2 w2 l (q.hold [cv]) e w')(hlen:d.held.length<=900):Calls Tryz.prog 248 #[ptr X.F,ptr p1,ptr p2] u fun e w'=>Di X d u cv l q e w':=by
 have HS:Hid (St X d u):=h;have iY:Hid (Od X p2 #[FP l1 l2 b1]):=k2;have uM:Hid (Od X pc (vA cv)):=kc;have HL:Hid (∀d2 w2,Sp X d u d2 w2->d2.p=d.p.hold [cv]->Calls Tryz.prog 216 #[ptr X.F,ptr l1,ptr l2,ptr b1] w2 fun e w'=>vW X d2 w2 l (q.hold [cv]) e w'):=hL;have Yv:Hid (q.held=d.held):=hq;have hb:=(k1.at h);have b1':=hb.cell 0 rfl;have hbl:=hb.1;clear h k1 k2 kc hb hL hq;go_in;go_wp2_with fail;have HC:Hid (Has (u.alloc (.cells z5 53)) pc (vA cv)):=uM.at (HS.alloc _);refine(Le _ pc cv _ HC).mono ?_;rintro e w1 ⟨rfl,hb1⟩;have H1:Hid (Sp X d u d w1):=((Sp.refl HS.out).alloc _).call hb1;have HR1:Hid (fB X d w1 u.heap.size z5):=(fB.new HS.out z5 _).step (Sp.below (HS.alloc _) hb1);clear hb1 b1' hbl HC;go_wp2_with fail;obtain⟨w2,hw2⟩:∃w2,w1.alloc (.cells (vA cv) 53)=w2:=⟨_,rfl⟩;obtain⟨C,hC0⟩:∃C,w1.heap.size=C:=⟨_,rfl⟩;have H2:Hid (Sp X d u d w2):=by rw[<-hw2];exact H1.alloc _
 have HC:Hid (Bx X d w2 C (vA cv)):=by rw[<-hw2,<-hC0];exact Bx.new H1.s _ _
 have HR2:Hid (fB X d w2 u.heap.size z5):=by rw[<-hw2];exact HR1.alloc _
 rw[hw2,hC0];clear hw2 hC0 H1 HR1;have f0:=H2.s.f.1.cell 0 rfl;have hF:=H2.s.f.1.1;have hC:=HC.1.1;have c0:=HC.cell 0 rfl;have c1:=HC.cell 1 rfl;have c2:=HC.cell 2 rfl;have c3:=HC.cell 3 rfl;have c4:=HC.cell 4 rfl;have HG:Hid (Has (w2.alloc (.cells (vA cv) 53)).drew w2.heap.size (vA cv)):=Has.drew (Has.new _ _ _);have HS2:Hid (St X d (w2.alloc (.cells (vA cv) 53)).drew):=(H2.s.alloc _).drew
 go_region_with (go_at_call 196;refine(GU X d _ cv _ HS2.out (by omega) HG.out).mono ?_;rintro e w3 ⟨rfl,ht3⟩)
 all_goals
  obtain⟨d3,hs3,e3⟩:=ht3;have hsp:Sp X d w2 d3 w3:=((Sp.refl H2.s).alloc _).drew.trans hs3;have H3:Hid (Sp X d u d3 w3/\d3.p=d.p.hold [cv]):=⟨H2.trans hsp,e3⟩;have JM:Hid (Bx X d3 w3 C (vA cv)):=HC.step hsp;have HR3:Hid (fB X d3 w3 u.heap.size z5):=HR2.step hsp;clear hs3 e3 hsp H2 HC HR2 HG HS2 f0 hF hC c0 c1 c2 c3 c4;have b2:=(iY.at H3.1.s).cell 0 rfl;have hh3:d3.held=d.held++[cv]:=congrArg DP.held H3.2;have hl3:d3.held.length=d.held.length+1:=by rw[hh3];simp
  go_wp2_with fail;refine(HL d3 _ H3.1 H3.2).mono ?_;rintro e w4 ⟨g4,c4,d4,rfl,XD,hs4,e4,hg4⟩;have Sz:Hid (kG w3.heap.size w4 g4 c4 l/\¬stB X d4 g4):=⟨XD,hg4⟩;have H4:Hid (Sp X d u d4 w4/\d4.p=q.hold [cv]):=⟨H3.1.trans hs4,e4⟩;have gY:Hid (Bx X d4 w4 C (vA cv)):=JM.step hs4;have HR4:Hid (fB X d4 w4 u.heap.size z5):=HR3.step hs4;have HZ:Hid (u.heap.size<=w3.heap.size):=H3.1.g.size;have HZ2:Hid (u.heap.size<w3.heap.size):=HR3.1.1.1;clear XD hg4 hs4 e4 H3 JM HR3 b2 hh3 hl3;have f0:=H4.1.s.f.1.cell 0 rfl;have hh4:d4.held=q.held++[cv]:=congrArg DP.held H4.2;have hl4:d4.held.length=d.held.length+1:=by rw[hh4,Yv.out];simp
  go_wp2_with fail;refine(Hz X d4 1 _ H4.1.s (by omega) (by omega)).mono ?_;rintro e w5 ⟨rfl,d5,hs5,e5⟩;have yT:Hid (kG w3.heap.size w5 g4 c4 l/\¬stB X d5 g4):=Dn Sz.1 Sz.2 hs5;have H5:Hid (Sp X d u d5 w5/\d5.p=q):=⟨H4.1.trans hs5,by rw[e5,H4.2];exact DP.iQ q _ (by rw[Yv.out];omega)⟩;have xZ:Hid (Bx X d5 w5 C (vA cv)):=gY.step hs5;have rY:Hid (fB X d5 w5 u.heap.size z5):=HR4.step hs5;clear hs5 e5 Sz H4 gY HR4 f0 hh4 hl4;have c0:=xZ.cell 0 rfl;have c1:=xZ.cell 1 rfl;have c2:=xZ.cell 2 rfl;have c3:=xZ.cell 3 rfl;have c4':=xZ.cell 4 rfl;have r0:=rY.1.1.cell 0 rfl;have r1:=rY.1.1.cell 1 rfl;have r2:=rY.1.1.cell 2 rfl;have r3:=rY.1.1.cell 3 rfl;have r4:=rY.1.1.cell 4 rfl;have rz:=rY.1.2;obtain⟨n,hn⟩:∃n,l.length=n:=⟨_,rfl⟩;have HF:Hid (∀w6,Gx (fun k=>k=u.heap.size) w5 w6->Di X d u cv l q (.returned (.tuple #[cv.v,.slice (some ⟨g4,0,none⟩) n c4])) w6):=fun w6 wZ=>⟨g4,c4,d5,by rw[hn],Ph (jS yT.1 fun k e=>wZ.block k (yT.1.lt k e).2 (fun c=>by have:=(yT.1.lt k e).1;have:=HZ2.out;omega)) HZ.out,Sp.beside HS.out H5.1 wZ (Nat.le_refl _) rY.2,H5.2,yT.2⟩;rw[hn];clear hn;go_wp2_with fail;generalize u.heap.size=R at *;exact bodyPost_ret (v:=.tuple #[cv.v,.slice (some ⟨g4,0,none⟩) n c4]) (by simp[results,Tryz.results248,go_sem,r0,r1,r2,r3,r4]) rfl (HF.out _ (MS _ _ _ _ _ _ _))
end
section
open Go.RowKit
attribute [local go_sem] aN
attribute [local go_sem ↓] Go.wp_at_zero Go.wp_at_succ
theorem ZK(X:RX)(d:MD)(n:Nat)(u:World)(h:St X d u)(hc:d.sin+n<=X.ce)(hm:d.fM<=100000):Calls Tryz.prog 281 #[ptr X.M,.int .i64 (n:Int)] u fun e w'=>e=.returned (.tuple #[])/\To X d u (d.p.paid n) w':=by
 have HS:Hid (St X d u):=h;have hce:=h.x.kc;have c5:u.cell? ⟨X.M,5,none⟩=some (.int .i64 (X.ce:Int)):=h.m.1.cell 5 rfl;have c14:u.cell? ⟨X.M,14,none⟩=some (.int .i64 (d.fM:Int)):=h.m.1.cell 14 rfl;have c20:u.cell? ⟨X.M,20,none⟩=some (.int .i64 0):=h.m.1.cell 20 rfl;have c21:u.cell? ⟨X.M,21,none⟩=some (.int .i64 (d.sin:Int)):=h.m.1.cell 21 rfl;have z:=h.m.2;have hlt:decide ((X.ce:Int)<IntKind.i64.wrap (IntKind.i64.wrap (d.sin:Int)+(n:Int)))=false:=by
  have e1:IntKind.i64.wrap (d.sin:Int)=(d.sin:Int):=EJ (by omega);have e2:IntKind.i64.wrap ((d.sin:Int)+(n:Int))=(d.sin:Int)+(n:Int):=by
   have:=EJ (q:=d.sin+n) (by omega);simpa using this
  rw[e1,e2];simp;omega
 have HF:Hid (To X d u (d.p.paid n) ((u.setCell ⟨X.M,21,none⟩ (.int .i64 ((d.sin:Int)+(n:Int)))).setCell ⟨X.M,14,none⟩ (.int .i64 ((d.fM:Int)+(n:Int)))).drew):=by
  have h1:=Sp.since h (d.sin+n);have h2:=Sp.made h1.s (d.fM+n);have h3:=(h1.trans h2).drew;rw[show(((d.sin+n:Nat)):Int)=(d.sin:Int)+(n:Int) by omega,show(((d.fM+n:Nat)):Int)=(d.fM:Int)+(n:Int) by omega] at h3;exact⟨_,h3,rfl⟩
 clear h;go_in;go_wp2_with fail
 go_region_held3 (fun w'=>w'.cell? ⟨X.M,5,none⟩=some (.int .i64 (X.ce:Int))/\w'.cell? ⟨X.M,20,none⟩=some (.int .i64 0)/\w'.cell? ⟨X.M,21,none⟩=some (.int .i64 (d.sin:Int))) (exact⟨c5,c20,c21⟩) (fail)
 go_wp2_with fail;go_end0;exact⟨rfl,HF⟩
theorem WB(X:RX)(d:MD)(u:World)(h:St X d u):Calls Tryz.prog 295 #[ptr X.M] u fun e w'=>e=.returned (.int .i64 (X.fl:Int))/\w'=u:=by
 have c23:u.cell? ⟨X.M,23,none⟩=some (ptr X.T):=h.m.1.cell 23 rfl;have t7:u.cell? ⟨X.T,7,none⟩=some (.slice d.fa X.fl d.fc):=h.t.1.cell 7 rfl;have t9:u.cell? ⟨X.T,9,none⟩=some (.pointer none):=h.t.1.cell 9 rfl;have h2:=h.x.f2;clear h;go_in;go_wp2_with fail;refine wp_loop_rounds 2 ?_;rw[rounds_succ];go_wp2_with fail;rw[rounds_succ];go_wp2_with fail;go_ret;exact⟨rfl,rfl⟩
end
end Go.Proofs.YtihnikeikhjndaaGreatDoor
