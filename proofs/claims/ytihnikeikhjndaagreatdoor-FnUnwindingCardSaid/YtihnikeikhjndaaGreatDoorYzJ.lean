import Derived.Test.YtihnikeikhjndaaGreatDoorYzI
import Derived.Test.YtihnikeikhjndaaGreatDoorYzA
set_option maxRecDepth 100000
set_option maxHeartbeats 16000000
namespace Go.Proofs.YtihnikeikhjndaaGreatDoor
section
open Go.RowKit
attribute [local go_sem] aN
attribute [local go_sem ↓] Go.wp_at_zero Go.wp_at_succ
theorem XO.Bz{N:Nat}{u w:World}{X:Nat}{a:Option Addr}{n cap B:Nat}{t:Int}{q:Nat->PD}{L:List (Mk×Nat)}(h:XO N u X a n cap B t q L)(hs:u.heap.size<=w.heap.size)(hX:w.heap[X]?=u.heap[X]?)(hB:w.heap[B]?=u.heap[B]?)(ha:∀k,(Value.slice a n cap).ownBlock=some k->w.heap[k]?=u.heap[k]?):XO N w X a n cap B t q L:=by
 have hc:∀o,w.cell? ⟨X,o,none⟩=u.cell? ⟨X,o,none⟩:=fun o=>World.cell?_of_block (a:=⟨X,o,none⟩) hX;have hf:∀o,w.frozen? ⟨X,o,none⟩=u.frozen? ⟨X,o,none⟩:=fun o=>by simp[World.frozen?,hX]
 obtain⟨es,c,hm,e⟩:=h.map;exact⟨h.lo,Nat.lt_of_lt_of_le h.lt hs,(hc 0).trans h.c0,(hc 1).trans h.c1,(hc 2).trans h.c2,fun o=>(hf o).trans (h.fr o),jS h.own ha,⟨es,c,hB.trans hm,e⟩,h.bl,h.ne⟩
structure qX(X:RX)(d:MD)(w:World)(N E K t1:Nat)(cd l:Int)(tr:ByteArray):Prop where
 e:fB X d w E (CW tr)
 eN:N<=E
 t:w.cell? ⟨t1,0,none⟩=some (ptr K)
 tN:N<=t1
 tl:t1<w.heap.size
 tn:¬stB X d t1
 x:∃a cap B,XO N w K a 2 cap B (0+1 + 1) (q2 cd l) (places (q2 cd l) 2)/\¬stB X d K/\¬stB X d B/\(∀k,(Value.slice a 2 cap).ownBlock=some k->¬stB X d k)
theorem qX.keep{X X':RX}{d d':MD}{w w':World}{N E K t1:Nat}{cd l:Int}{tr:ByteArray}(h:qX X d w N E K t1 cd l tr)(hs:w.heap.size<=w'.heap.size)(hk:∀k,N<=k->k<w.heap.size->¬stB X d k->w'.heap[k]?=w.heap[k]?/\¬stB X' d' k):qX X' d' w' N E K t1 cd l tr:=by
 obtain⟨a,cap,B,hx,h1,h2,h3⟩:=h.x;have hBl:B<w.heap.size:=by
  obtain⟨es,c,hm,_⟩:=hx.map;exact(Array.getElem?_eq_some_iff.1 hm).1
 have hE:=hk E h.eN h.e.1.1.1 h.e.2;have hT:=hk t1 h.tN h.tl h.tn;have hK:=hk K hx.lo hx.lt h1;have hB:=hk B hx.bl hBl h2;exact⟨⟨h.e.1.block hs hE.1,hE.2⟩,h.eN,(World.cell?_of_block (a:=⟨t1,0,none⟩) hT.1).trans h.t,h.tN,Nat.lt_of_lt_of_le h.tl hs,hT.2,a,cap,B,hx.Bz hs hK.1 hB.1 (fun k e=>(hk k (hx.own.lt k e).1 (hx.own.lt k e).2 (h3 k e)).1),hK.2,hB.2,fun k e=>(hk k (hx.own.lt k e).1 (hx.own.lt k e).2 (h3 k e)).2⟩
theorem qX.step{X:RX}{d d':MD}{w w':World}{N E K t1:Nat}{cd l:Int}{tr:ByteArray}(h:qX X d w N E K t1 cd l tr)(k:Sp X d w d' w'):qX X d' w' N E K t1 cd l tr:=h.keep k.g.size fun i _ hi hn=>⟨k.g.block i hi hn,fun c=>hn (k.mv i hi c)⟩
theorem qX.call{X:RX}{d:MD}{w w':World}{N E K t1:Nat}{cd l:Int}{tr:ByteArray}(h:qX X d w N E K t1 cd l tr)(hb:ah w w'):qX X d w' N E K t1 cd l tr:=h.keep hb.size fun i _ hi hn=>⟨hb.block i hi,hn⟩
theorem qX.far{X:RX}{d:MD}{w w':World}{N E K t1 B:Nat}{cd l:Int}{tr:ByteArray}(h:qX X d w N E K t1 cd l tr)(g:Gx (fun k=>k=B) w w')(hB:B<N):qX X d w' N E K t1 cd l tr:=h.keep g.size fun i h1 hi hn=>⟨g.block i hi (by omega),hn⟩
theorem qX.ex{X:RX}{d:MD}{w:World}{N E K t1:Nat}{cd l:Int}{tr:ByteArray}(h:qX X d w N E K t1 cd l tr):EX w K cd l:=by
 obtain⟨a,cap,B,hx,_⟩:=h.x;exact⟨N,a,cap,B,hx⟩
def DP.VE(p:DP)(t l:Value):DP:={p with tab:=t,gq:=l}
def N8(X:RX)(N0:Nat)(cd l:Int)(tr:ByteArray)(q:DP)(E:Nat)(d':MD)(w':World):Prop:=∃N K t1 c1 v,N0<=N/\d'.p=q.VE (.slice (some ⟨t1,0,none⟩) 1 c1) v/\qX X d' w' N E K t1 cd l tr
structure P0(N:Nat)(w2:World)(K B t1:Nat)(w:World):Prop where
 x:XO N w K none 0 0 B 0 q0 []
 b:Below N w2 w
 t:w.cell? ⟨t1,0,none⟩=some (ptr K)
 tl:t1<w.heap.size
 k3:w.cell? ⟨K,3,none⟩=some (.int .i64 0)
 n:N<=w.heap.size
theorem P0.call{N:Nat}{w2 w w':World}{K B t1:Nat}(h:P0 N w2 K B t1 w)(hb:ah w w'):P0 N w2 K B t1 w':=
 ⟨h.x.call hb,h.b.trans (hb.mono h.n),(hb.cell (p:=⟨t1,0,none⟩) h.tl).trans h.t,Nat.lt_of_lt_of_le h.tl hb.size,(hb.cell (p:=⟨K,3,none⟩) h.x.lt).trans h.k3,Nat.le_trans h.n hb.size⟩
theorem P0.drew{N:Nat}{w2 w:World}{K B t1:Nat}(h:P0 N w2 K B t1 w):P0 N w2 K B t1 w.drew:=h.call (Below.refl _ _).drew
structure P1(cd:Int)(N:Nat)(w2:World)(K B t1:Nat)(a:Option Addr)(cap:Nat)(w:World):Prop where
 x:XO N w K a 1 cap B (0+1) (q1 cd) (places (q1 cd) 1)
 b:Below N w2 w
 t:w.cell? ⟨t1,0,none⟩=some (ptr K)
 tl:t1<w.heap.size
 k3:w.cell? ⟨K,3,none⟩=some (.int .i64 0)
 n:N<=w.heap.size
 ta:∀b,a=some b->t1<b.block
theorem P1.call{cd:Int}{N:Nat}{w2 w w':World}{K B t1:Nat}{a:Option Addr}{cap:Nat}(h:P1 cd N w2 K B t1 a cap w)(hb:ah w w'):P1 cd N w2 K B t1 a cap w':=
 ⟨h.x.call hb,h.b.trans (hb.mono h.n),(hb.cell (p:=⟨t1,0,none⟩) h.tl).trans h.t,Nat.lt_of_lt_of_le h.tl hb.size,(hb.cell (p:=⟨K,3,none⟩) h.x.lt).trans h.k3,Nat.le_trans h.n hb.size,h.ta⟩
theorem P1.drew{cd:Int}{N:Nat}{w2 w:World}{K B t1:Nat}{a:Option Addr}{cap:Nat}(h:P1 cd N w2 K B t1 a cap w):P1 cd N w2 K B t1 a cap w.drew:=h.call (Below.refl _ _).drew
structure P2(N:Nat)(w2:World)(K t1:Nat)(cd l:Int)(w:World):Prop where
 x:∃a cap B,XO N w K a 2 cap B (0+1 + 1) (q2 cd l) (places (q2 cd l) 2)
 b:Below N w2 w
 t:w.cell? ⟨t1,0,none⟩=some (ptr K)
 tl:t1<w.heap.size
 kl:K<w.heap.size
 k3:w.cell? ⟨K,3,none⟩=some (.int .i64 0)
 n:N<=w.heap.size
theorem P2.call{N:Nat}{w2 w w':World}{K t1:Nat}{cd l:Int}(h:P2 N w2 K t1 cd l w)(hb:ah w w'):P2 N w2 K t1 cd l w':=by
 obtain⟨a,cap,B,hx⟩:=h.x;exact⟨⟨a,cap,B,hx.call hb⟩,h.b.trans (hb.mono h.n),(hb.cell (p:=⟨t1,0,none⟩) h.tl).trans h.t,Nat.lt_of_lt_of_le h.tl hb.size,Nat.lt_of_lt_of_le h.kl hb.size,(hb.cell (p:=⟨K,3,none⟩) h.kl).trans h.k3,Nat.le_trans h.n hb.size⟩
theorem XO.wH{N:Nat}{w:World}{K:Nat}{a:Option Addr}{n cap B:Nat}{t:Int}{q:Nat->PD}{L:List (Mk×Nat)}(h:XO N w K a n cap B t q L){t1:Nat}{p:Option Addr}(ht:w.cell? ⟨t1,0,none⟩=some (.pointer p)):t1≠K/\t1≠B:=by
 refine⟨fun e=>?_,fun e=>O7 h.map ht e.symm⟩;subst e;rw[h.c0] at ht
 cases ht
theorem P0.put(cd:Int){N:Nat}{w2 w:World}{K B t1:Nat}(h:P0 N w2 K B t1 w):Calls Tryz.prog 264 #[.pointer (some ⟨K,0,none⟩),kC.v,(nI cd).v] w fun e w'=>e=.returned (.tuple #[])/\∃a cap,P1 cd N w2 K B t1 a cap w':=by
 refine(I7 cd h.n h.x).mono ?_;rintro e w' ⟨rfl,⟨a,cap,hx,hr⟩,hb,ho,hf⟩;have hne:=h.x.wH h.t;have hk:=hf t1 h.tl hne.1 hne.2 (fun e=>by cases e);refine⟨rfl,a,cap,hx,h.b.trans hb,(World.cell?_of_block (a:=⟨t1,0,none⟩) hk).trans h.t,Nat.lt_of_lt_of_le h.tl hb.size,(ho 3 (by omega)).trans h.k3,Nat.le_trans h.n hb.size,fun b e=>?_⟩;rcases hr b e with c|c
 ·cases c
 ·have:=h.tl;omega
theorem P1.put{cd:Int}{N:Nat}{w2 w:World}{K B t1:Nat}{a:Option Addr}{cap:Nat}(l:Int)(h:P1 cd N w2 K B t1 a cap w):Calls Tryz.prog 264 #[.pointer (some ⟨K,0,none⟩),kL.v,(nI l).v] w fun e w'=>e=.returned (.tuple #[])/\P2 N w2 K t1 cd l w':=by
 refine(I5 cd l h.n h.x).mono ?_;rintro e w' ⟨rfl,⟨a',cap',hx,hr⟩,hb,ho,hf⟩;have hne:=h.x.wH h.t;have hk:=hf t1 h.tl hne.1 hne.2 (fun e=>by
  cases a with
  |none=>cases e
  |some b=>
   obtain⟨b,off,sp⟩:=b;have h1:t1<b:=h.ta _ rfl;simp[Value.ownBlock] at e;omega)
 exact⟨rfl,⟨a',cap',B,hx⟩,h.b.trans hb,(World.cell?_of_block (a:=⟨t1,0,none⟩) hk).trans h.t,Nat.lt_of_lt_of_le h.tl hb.size,hx.lt,(ho 3 (by omega)).trans h.k3,Nat.le_trans h.n hb.size⟩
theorem NT.p0{X:RX}{d:MD}{u w':World}{K B t1 c1 t2 c2:Nat}(h:NT X d u K B t1 c1 t2 c2 w'):P0 u.heap.size w' K B t1 w':=
 ⟨h.xo,Below.refl _ _,h.t,h.tl,h.k.1.cell 3 rfl,h.s.g.size⟩
theorem z22(X:RX)(cd:Int)(dg:UInt8)(hcd:bA (bI cd)=⟨#[dg]⟩/\dU cd)(d:MD)(ub uo nf uc:Nat)(bM:Nat->lJ)(u:World)(h:St X d u)(hf:X.fns=.slice (some ⟨ub,uo,none⟩) nf uc)(hub:ub<X.W.heap.size/\ub≠X.M)(hfx:∀i,i<X.fl->kV X ub uo nf (bM i) u/\d.fr[i]?=some (ptr (bM i).F))(hT:jV X)(hn:d.recs.length<5000)(ht:d.tab=.slice none 0 0)(hl:d.gq=.slice none 0 0)(XU:∀i,i<X.fl->(bM i).F=X.F\/¬stB X d (bM i).F):Calls Tryz.prog 217 #[ptr X.M,.int .i64 cd] u fun e w'=>∃E d',e=.returned (ptr E)/\Sp X d u d' w'/\N8 X u.heap.size cd d.line (uO bM X.fl) (d.p.gU ⟨4,0,X.fn,d.line,qP dg⟩) E d' w':=by
 have HS:Hid (St X d u):=h;have HT:Hid (jV X):=hT;have HU:Hid (X.fns=.slice (some ⟨ub,uo,none⟩) nf uc/\(ub<X.W.heap.size/\ub≠X.M)/\(∀i,i<X.fl->kV X ub uo nf (bM i) u/\d.fr[i]?=some (ptr (bM i).F))/\d.recs.length<5000):=⟨hf,hub,hfx,hn⟩;have HMf:Hid (∀i,i<X.fl->(bM i).F=X.F\/¬stB X d (bM i).F):=XU;have HCd:Hid (bA (bI cd)=⟨#[dg]⟩/\dU cd):=hcd;have HL:Hid (d.tab=.slice none 0 0/\d.gq=.slice none 0 0):=⟨ht,hl⟩;have m23:u.cell? ⟨X.M,23,none⟩=some (ptr X.T):=h.m.1.cell 23 rfl;have kU:=h.m.1.1;clear h hf hub hfx hn ht hl hT hcd XU;go_in;go_wp2_with fail;refine(Ll X d _ HS).mono ?_;rintro e w1 ⟨rfl,hb1⟩;have fP:Hid (St X d w1/\ah u w1):=⟨HS.call hb1,hb1⟩;clear hb1 m23 kU;obtain⟨ln,hln⟩:∃ln,d.line=ln:=⟨_,rfl⟩;rw[hln];have HLn:Hid (d.line=ln):=hln;clear hln;go_wp2_with fail;refine(qu9 X d _ fP.1 HL.1 HL.2).mono ?_;rintro e w2 ⟨K,B,t1,c1,t2,c2,rfl,hN⟩;have HN:Hid (NT X d w1 K B t1 c1 t2 c2 w2):=hN;have HP:Hid (P0 w1.heap.size w2 K B t1 w2):=hN.p0;clear hN
 go_upto_region 3 with fail
 go_region_with (first
  |(go_at_call 51;refine(Hw _ _).mono ?_;rintro e w3 ⟨rfl,hb3⟩;replace HP:Hid (P0 w1.heap.size w2 K B t1 w3):=(by first|exact HP.call hb3|exact HP.drew.call hb3);clear hb3)
  |(go_at_call 265;refine(X9 _ _).mono ?_;rintro e w4 ⟨rfl,hb4⟩;replace HP:Hid (P0 w1.heap.size w2 K B t1 w4):=(by first|exact HP.call hb4|exact HP.drew.call hb4);clear hb4)
  |(go_at_call 264;refine(HP.put cd).mono ?_;rintro e w5 ⟨rfl,a,cap,XB⟩;have HQ:Hid (P1 cd w1.heap.size w2 K B t1 a cap w5):=XB;clear XB HP))
 all_goals
  go_upto_region 4 with fail
  go_region_with (first
   |(go_at_call 51;refine(Hw _ _).mono ?_;rintro e w6 ⟨rfl,hb6⟩;replace HQ:Hid (P1 cd w1.heap.size w2 K B t1 a cap w6):=(by first|exact HQ.call hb6|exact HQ.drew.call hb6);clear hb6)
   |(go_at_call 265;refine(X9 _ _).mono ?_;rintro e w7 ⟨rfl,hb7⟩;replace HQ:Hid (P1 cd w1.heap.size w2 K B t1 a cap w7):=(by first|exact HQ.call hb7|exact HQ.drew.call hb7);clear hb7)
   |(go_at_call 264;refine(HQ.put ln).mono ?_;rintro e w8 ⟨rfl,XA⟩;have HR:Hid (P2 w1.heap.size w2 K t1 cd ln w8):=XA;clear XA HQ))
 all_goals
  go_wp2_with fail;refine(z45 K 0 _ HR.kl HR.k3).mono ?_;rintro e w9 ⟨rfl,kR⟩;replace HR:Hid (P2 w1.heap.size w2 K t1 cd ln w9):=HR.call kR;clear kR;obtain⟨d3,hd3⟩:∃d3:MD,d3={d with tab:=.slice (some ⟨t1,0,none⟩) 1 c1,gq:=.slice (some ⟨t2,0,none⟩) 1 c2}:=⟨_,rfl⟩;have yR:Hid (Sp X d w1 d3 w9):=by rw[hd3];exact HN.past fP.1 HR.b
  have HD3:Hid (d3.tab=.slice (some ⟨t1,0,none⟩) 1 c1/\d3.recs=d.recs/\d3.line=ln/\d3.p=d.p.VE (.slice (some ⟨t1,0,none⟩) 1 c1) (.slice (some ⟨t2,0,none⟩) 1 c2)/\(∀k,stB X d3 k->stB X d k)/\d3.fr=d.fr):=by rw[hd3];exact⟨rfl,rfl,HLn,rfl,fun _ e=>e,rfl⟩
  clear hd3;have MQ:∀w',ah w9 w'->EX w' K cd ln:=fun w' hb=>by
   obtain⟨a,cap,B,hx⟩:=(HR.call hb).x;exact⟨_,a,cap,B,hx⟩
  have IQ:∀wz,ah w9 wz->Calls Tryz.prog 236 #[ptr X.M] wz fun e w'=>e=.returned (.string (uO bM X.fl))/\ah wz w':=fun wz hb=>WR X d3 ub uo nf uc bM wz (yR.s.call hb) HU.1 HU.2.1 (fun i hi=>by
   obtain⟨ho,hr⟩:=HU.2.2.1 i hi;have k1:Sp X d u d3 wz:=(Sp.below HS.out fP.2).trans (yR.call hb);have hc:wz.cell? ⟨(bM i).F,1,none⟩=u.cell? ⟨(bM i).F,1,none⟩/\wz.cell? ⟨(bM i).F,12,none⟩=u.cell? ⟨(bM i).F,12,none⟩:=by
    rcases HMf.out i hi with e|e
    ·rw[e];have a1:wz.cell? ⟨X.F,1,none⟩=some (.int .i64 X.fn):=k1.s.f.1.cell 1 rfl;have a2:u.cell? ⟨X.F,1,none⟩=some (.int .i64 X.fn):=HS.f.1.cell 1 rfl;have a3:wz.cell? ⟨X.F,12,none⟩=some (.int .i64 d3.line):=k1.s.f.1.cell 12 rfl;have a4:u.cell? ⟨X.F,12,none⟩=some (.int .i64 d.line):=HS.f.1.cell 12 rfl;rw[a1,a2,a3,a4,HD3.2.2.1,HLn.out];exact⟨rfl,rfl⟩
    ·exact⟨World.cell?_of_block (a:=⟨(bM i).F,1,none⟩) (k1.g.block _ ho.lt e),World.cell?_of_block (a:=⟨(bM i).F,12,none⟩) (k1.g.block _ ho.lt e)⟩
   refine⟨⟨Nat.lt_of_lt_of_le ho.lt k1.g.size,hc.1.trans ho.c1,hc.2.trans ho.c12,ho.ln,ho.fn,ho.nm,ho.sz⟩,?_⟩;rw[HD3.2.2.2.2.2];exact hr) HT
  have zM:=zb2 X cd dg HCd.out (uO bM X.fl) d3 w9 yR.s t1 c1 K ln (by rw[HD3.2.1];exact HU.2.2.2) HD3.1 HR.tl HR.t MQ HT IQ;rw[HD3.2.2.1] at zM;have HTh:Hid (Calls Tryz.prog 185 #[ptr X.M,dI 5 0 0 ⟨#[]⟩ 0] w9 fun e w'=>∃E d',e=.returned (ptr E)/\w9.heap.size<=E/\fB X d' w' E (CW (uO bM X.fl))/\Sp X d3 w9 d' w'/\d'.p=d3.p.gU ⟨4,0,X.fn,ln,qP dg⟩):=zM;clear zM IQ MQ;go_wp2_with fail;refine HTh.mono ?_;rintro e w10 ⟨E,d4,rfl,hE,XT,hs4,e4⟩;have HF:Hid (Sp X d u d4 w10/\N8 X u.heap.size cd d.line (uO bM X.fl) (d.p.gU ⟨4,0,X.fn,d.line,qP dg⟩) E d4 w10):=by
   have h9:w1.heap.size<=w9.heap.size:=HR.n;have hn:∀k,w1.heap.size<=k->¬stB X d3 k:=fun k h1 c=>by
    have h2:=fP.1.lt (HD3.2.2.2.2.1 k c);omega
   have hn4:∀k,w1.heap.size<=k->k<w9.heap.size->w10.heap[k]?=w9.heap[k]?/\¬stB X d4 k:=fun k h1 h2=>⟨hs4.g.block k h2 (hn k h1),fun c=>hn k h1 (hs4.mv k h2 c)⟩;obtain⟨a,cap,B,hx⟩:=HR.x;have ht1:w1.heap.size<=t1:=HN.tn;have hBl:B<w9.heap.size:=by
    obtain⟨es,c,hm,_⟩:=hx.map;exact(Array.getElem?_eq_some_iff.1 hm).1
   have hK:=hn4 K hx.lo hx.lt;have hB:=hn4 B hx.bl hBl;have hT:=hn4 t1 ht1 HR.tl;refine⟨(Sp.below HS fP.2).trans (yR.trans hs4),w1.heap.size,K,t1,c1,.slice (some ⟨t2,0,none⟩) 1 c2,fP.2.size,?_,?_⟩
   ·rw[e4,HD3.2.2.2.1,HLn.out];rfl
   ·rw[HLn.out];exact⟨XT,Nat.le_trans h9 hE,(World.cell?_of_block (a:=⟨t1,0,none⟩) hT.1).trans HR.t,ht1,Nat.lt_of_lt_of_le HR.tl hs4.g.size,hT.2,a,cap,B,hx.Bz hs4.g.size hK.1 hB.1 (fun k e=>(hn4 k (hx.own.lt k e).1 (hx.own.lt k e).2).1),hK.2,hB.2,fun k e=>(hn4 k (hx.own.lt k e).1 (hx.own.lt k e).2).2⟩
  clear hE XT hs4 e4;go_wp2_with fail;go_ret;exact⟨E,d4,rfl,HF.1,HF.2⟩
end
end Go.Proofs.YtihnikeikhjndaaGreatDoor
