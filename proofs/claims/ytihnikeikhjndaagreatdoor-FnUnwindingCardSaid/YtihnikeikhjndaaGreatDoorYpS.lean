import Derived.Test.YtihnikeikhjndaaGreatDoorYzJ
import Derived.Test.YtihnikeikhjndaaGreatDoorYpH
set_option maxRecDepth 100000
set_option maxHeartbeats 16000000
namespace Go.Proofs.YtihnikeikhjndaaGreatDoor
section
open Go.RowKit
attribute [local go_sem] aN
attribute [local go_sem ↓] Go.wp_at_zero Go.wp_at_succ
structure Kt(X:RX)(a:Option Addr)(n:Nat)(Bs iv:Nat->Nat):Prop where
 row:aP 1 0 X.W a n fun i=>#[yY (Bs i)]
 rm:∀b,a=some b->b.block≠X.M
 lit:∀i,i<n->Has X.W (Bs i) #[.int .i64 (iv i:Int)]/\Bs i≠X.M
theorem zc3(X:RX)(d:MD)(B:Nat)(a:Option Addr)(n cap:Nat)(Bs iv Qs:Nat->Nat)(vs:Nat->VD)(u:World)(h:St X d u)(hB:Has X.W B #[.slice a n cap])(QX:B≠X.M)(hL0:Kt X a n Bs iv)(hV0:∀i,i<n->d.vs[iv i]?=some (ptr (Qs i))/\Bx X d u (Qs i) (vA (vs i)))(hn:n<=1000)(hp:0<d.held.length+n)(hlen:d.held.length<=1000):Calls Tryz.prog 253 #[.pointer (some ⟨X.F,0,none⟩),.pointer (some ⟨B,0,none⟩)] u fun e w'=>(∃g c,e=.returned (.slice (some ⟨g,0,none⟩) n c)/\w'.ownsRow u.heap.size 53 5 (.slice (some ⟨g,0,none⟩) n c) n (hL (vl vs n))/\Jq X d u d.p w' g):=by
 have HS:Hid (St X d u):=h;have HL:Hid (Kt X a n Bs iv):=hL0;have HV:Hid (∀i,i<n->d.vs[iv i]?=some (ptr (Qs i))/\Bx X d u (Qs i) (vA (vs i))):=hV0;have b0:=(h.old hB QX).cell 0 rfl;have f0:=h.f.1.cell 0 rfl;have c8:u.cell? ⟨X.T,8,none⟩=some (.slice d.ha d.held.length d.hc):=h.t.1.cell 8 rfl;obtain⟨H,hH⟩:∃H,d.held.length=H:=⟨_,rfl⟩;rw[hH] at c8 hp hlen;have HH:Hid (d.held.length=H):=hH;clear h hL0 hB hH hV0;go_in;go_wp2_with fail;clear c8 f0 b0
 go_loopw [20] (fun i wr=>∃(k:Nat) (d1:MD),k<=n/\i=.int .i64 k/\Hid (Sp X d u d1 wr/\d1.p=d.p.hold (vl vs k))) (fun i _=>n-(intOf i).toNat)
 case atStart=>exact⟨0,d,Nat.zero_le _,rfl,Sp.refl HS.out,(DP.qA _).symm⟩
 case round=>
  obtain⟨k,d1,hk,rfl,HP⟩:=hrel;have hl1:d1.held.length=H+k:=by
   have:=congrArg DP.held HP.2;have h2:d1.held=d.held++vl vs k:=this;rw[h2,List.length_append,AZ,HH.out]
  by_cases hkn:k<n
  ·obtain⟨b,off,rfl,_,hb,d0⟩:=aX (HP.1.s.oldRow HL.row HL.rm) hkn;have HB:Hid (Has wr (Bs k) #[.int .i64 (iv k:Int)]/\d1.vs[iv k]?=some (ptr (Qs k))/\Has wr (Qs k) (vA (vs k))):=⟨HP.1.s.old (HL.lit k hkn).1 (HL.lit k hkn).2,by
    have e:d1.vs=d.vs:=congrArg DP.vs HP.2;rw[e];exact(HV k hkn).1,((HV k hkn).2.step HP.1).1⟩
   go_wp2_with (first
    |(go_at_call 220;refine(z42 X d1 (Bs k) (Qs k) (iv k) (vs k) _ HP.1.s HB.1 HB.2.1 HB.2.2).mono ?_;rintro e w1 ⟨rfl,hb1⟩;have qL:Hid (Sp X d u d1 (w1.alloc (.cells (vA (vs k)) 53))/\d1.p=d.p.hold (vl vs k)):=⟨(HP.1.call hb1).alloc _,HP.2⟩;have HG:Hid (Has (w1.alloc (.cells (vA (vs k)) 53)) w1.heap.size (vA (vs k))):=Has.new _ _ _;clear HP HB hb1 d0)
    |(go_at_call 196;refine(GU X d1 _ (vs k) _ qL.1.s (by omega) HG.out).mono ?_;rintro e w2 ⟨rfl,ht2⟩))
   obtain⟨d2,hs2,e2⟩:=ht2;have HP2:Hid (Sp X d u d2 w2/\d2.p=d.p.hold (vl vs (k+1))):=⟨qL.1.trans hs2,by rw[e2,qL.2,DP.nD,U1]⟩;clear hs2 e2 qL HG;go_roundw
   case rel=>exact⟨k+1,d2,by omega,by go_num,HP2⟩
   case measure=>simp[intOf];omega
  ·obtain rfl:k=n:=by omega
   have hpos:0<d1.held.length:=by omega
   obtain⟨g,hg1,hg2,hg3,hg4⟩:=HP.1.s.xg hpos;have Eu:Hid (∀j v,(hL d1.held)[j]?=some v->wr.cell? ⟨g,j,none⟩=some v):=hg4;have c8:wr.cell? ⟨X.T,8,none⟩=some (.slice (some ⟨g,0,none⟩) (H+k) d1.hc):=by
    have:=HP.1.s.t.1.cell 8 rfl;rw[<-hl1,<-hg1];exact this
   have hT:=HP.1.s.t.1.1;have z:=HP.1.s.t.2;have hh2:d1.held=d.held++vl vs k:=congrArg DP.held HP.2;have HX:Hid (∀(x:Addr),x=(if d1.hc=H then⟨g,0,none⟩ else⟨g,H*5,none⟩)->∀j v,(hL (vl vs k))[j]?=some v->wr.cell? (x.add j)=some v):=by
    intro x hx j v hv;have hj:j<k*5:=by
     have:=(List.getElem?_eq_some_iff.1 hv).1
     rwa [zx,AZ] at this
    have hc:¬d1.hc=H:=by omega
    rw[if_neg hc] at hx;subst hx;have h5:=Eu.out (H*5+j) v (by
     rw[hh2,Kw,List.getElem?_append_right (by rw[zx,HH.out];omega),zx,HH.out,show H*5+j-H*5=j by omega];exact hv)
    cases j<;>simpa[Addr.add] using h5
   have HF:Hid (∀w' g2,ah wr w'->wr.heap.size<=g2->Jq X d u d.p (w'.setCell ⟨X.T,8,none⟩ (.slice (some ⟨g,0,none⟩) H d1.hc)) g2):=fun w' g2 hb hg2=>by
    have h1:=HP.1.call hb;have h2:=Sp.dX h1.s (m:=H) (by omega);rw[<-hg1];refine⟨_,h1.trans h2,?_,fun e=>HP.1.s.other hg2 e⟩;show DP.dX d1.p H=d.p;rw[HP.2];exact DP.iQ d.p _ HH
   have HO:Hid (∀(w':World) (g2 c2:Nat) (v:Value),ah wr w'->w'.ownsRow wr.heap.size 53 5 (.slice (some ⟨g2,0,none⟩) k c2) k (hL (vl vs k))->(w'.setCell ⟨X.T,8,none⟩ v).ownsRow u.heap.size 53 5 (.slice (some ⟨g2,0,none⟩) k c2) k (hL (vl vs k))):=fun w' g2 c2 v hb ho=>Ph (jh ho v (fun q e=>by have:=(ho.lt q e).1;omega)) HP.1.g.size;by_cases hc:d1.hc=H
   ·obtain rfl:k=0:=by omega
    rw[hc] at c8 HF;have hX:=HX.out ⟨g,0,none⟩ (by rw[if_pos hc]);have En:Hid (∀j v,(hL (vl vs 0))[j]?=some v->wr.cell? ((⟨g,0,none⟩:Addr).add j)=some v):=hX;have hH0:¬H=0:=by omega
    clear hX HX Eu hh2;go_wp2_with (go_at_call 254;refine(LJ ⟨g,0,none⟩ (vl vs 0) 0 _ _ rfl (by omega) En.out hg2).mono ?_;rintro e w3 ⟨⟨g3,c3,rfl,ho3⟩,hb3⟩;have d8:=(World.cell?_of_block (a:=⟨X.T,8,none⟩) (hb3.block X.T hT)).trans c8;have dz:∀o,w3.frozen? ⟨X.T,o,none⟩=false:=fun o=>(World.frozen?_of_block (a:=⟨X.T,o,none⟩) (hb3.block X.T hT)).trans (z o);clear c8 z);go_ret;exact⟨g3,c3,rfl,HO _ _ _ _ hb3 ho3,HF _ _ hb3 (q16 ho3 (k:=g3) rfl).1⟩
   ·have hX:=HX.out ⟨g,H*5,none⟩ (by rw[if_neg hc]);have En:Hid (∀j v,(hL (vl vs k))[j]?=some v->wr.cell? ((⟨g,H*5,none⟩:Addr).add j)=some v):=hX;have hH0:¬d1.hc=0:=by omega
    clear hX HX Eu hh2;go_wp2_with (go_at_call 254;refine(LJ ⟨g,H*5,none⟩ (vl vs k) k _ _ (AZ vs k) (by omega) En.out hg2).mono ?_;rintro e w3 ⟨⟨g3,c3,rfl,ho3⟩,hb3⟩;have d8:=(World.cell?_of_block (a:=⟨X.T,8,none⟩) (hb3.block X.T hT)).trans c8;have dz:∀o,w3.frozen? ⟨X.T,o,none⟩=false:=fun o=>(World.frozen?_of_block (a:=⟨X.T,o,none⟩) (hb3.block X.T hT)).trans (z o);clear c8 z);go_ret;exact⟨g3,c3,rfl,HO _ _ _ _ hb3 ho3,HF _ _ hb3 (q16 ho3 (k:=g3) rfl).1⟩
theorem yc0(s:ByteArray)(hs:s.size<=4000):fV 4 0 0 s 0=.iface 169 (.string s):=by
 have h1:fz 0=true:=by decide
 simp[fV,okB,sH,fU,iG,h1];omega
theorem yb9:fV 5 0 0 ⟨#[]⟩ 0=.iface 252 (.agg #[.int .i64 5,.int .i64 0]):=by
 have h1:fz 0=true:=by decide
 have h2:se ⟨#[]⟩=true:=by first|rfl|kernel_rfl|simp[se]
 simp[fV,okB,sH,fU,iG,h1,h2]
theorem qu6(s:ByteArray)(w:World):Calls Tryz.prog 467 #[.string s] w fun e w'=>e=.returned (.string s)/\w'=w:=by
 go_in;go_wp2_with fail;go_ret;exact⟨rfl,rfl⟩
abbrev jG:ByteArray:=⟨#[116,97,98,108,101]⟩
theorem qv1(r:Int)(w:World):Calls Tryz.prog 498 #[.agg #[.int .i64 5,.int .i64 r]] w fun e w'=>e=.returned (.string jG)/\ah w w':=by
 go_in;go_wp2_with fail;go_ret;exact⟨rfl,q01 _ _⟩
theorem WO(s:ByteArray)(w:World)(hs:s.size<=4000):Calls Tryz.prog 58 #[dI 4 0 0 s 0] w fun e w'=>e=.returned (.string s)/\ah w w':=by
 go_in;go_wp2_with fail;refine(OQ 4 0 0 s 0 _).mono ?_;rw[yc0 s hs];rintro e w1 ⟨rfl,hb⟩;have HB:Hid (ah w w1):=aH (q01 _ _) hb;clear hb;have hm:(method 610 169 (.string s) "loop.example/meaning/impl.text").run Tryz.prog w1=.ok (467,.string s) w1:=by kernel_rfl
 go_wp2_with fail;refine(qu6 s _).mono ?_;rintro e w2 ⟨rfl,rfl⟩;go_wp2_with fail;go_ret;exact⟨rfl,HB⟩
theorem zb3(w:World):Calls Tryz.prog 58 #[dI 5 0 0 ⟨#[]⟩ 0] w fun e w'=>e=.returned (.string jG)/\ah w w':=by
 go_in;go_wp2_with fail;refine(OQ 5 0 0 ⟨#[]⟩ 0 _).mono ?_;rw[yb9];rintro e w1 ⟨rfl,hb⟩;have HB:Hid (ah w w1):=aH (q01 _ _) hb;clear hb;have hm:(method 610 252 (.agg #[.int .i64 5,.int .i64 0]) "loop.example/meaning/impl.text").run Tryz.prog w1=.ok (498,.agg #[.int .i64 5,.int .i64 0]) w1:=by kernel_rfl
 go_wp2_with fail;refine(qv1 0 _).mono ?_;rintro e w2 ⟨rfl,hb2⟩;have HB2:Hid (ah w w2):=aH HB.out hb2;clear hb2;go_wp2_with fail;go_ret;exact⟨rfl,HB2⟩
end
end Go.Proofs.YtihnikeikhjndaaGreatDoor
