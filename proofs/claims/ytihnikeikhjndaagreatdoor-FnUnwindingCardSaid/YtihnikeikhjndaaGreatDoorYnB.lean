import Derived.Test.YtihnikeikhjndaaGreatDoorOwA
import Derived.Deep.RegionHeld3
import Derived.Deep.RegionLaw
set_option maxRecDepth 100000
set_option maxHeartbeats 16000000
namespace Go.Proofs.YtihnikeikhjndaaGreatDoor
section
open Go.RowKit
section
variable {X:RX}{d d':MD}{u u' w7:World}
theorem fH{w:World}{B C o:Nat}{A:Array Value}{v:Value}(h:OwnB w C A)(hB:C≠B):OwnB (w.setCell ⟨B,o,none⟩ v) C A:=h.block (by simp) (Below.heap_setCell _ _ _ _ hB)
theorem Sp.tick(h:St X d u):Sp X d u {d with ti:=d.ti+1} (u.setCell ⟨X.M,13,none⟩ (.int .i64 ((d.ti:Int)+1))):=by
 have hx:=h.ty;refine h.put _ (.inl rfl) ?_ (fH h.t hx.tm) (fH h.f hx.fm) (fH h.v hx.vm) h.rr h.hr h.sr h.fw h.r0 (fun _ _ e=>e) rfl;have:=h.m.set (o:=13) (by show 13<27;omega) (.int .i64 ((d.ti:Int)+1));exact this
theorem Sp.line(h:St X d u)(z:Int):Sp X d u {d with line:=z} (u.setCell ⟨X.F,12,none⟩ (.int .i64 z)):=by
 have hx:=h.ty;refine h.put _ (.inr (.inr (.inl rfl))) (fH h.m (Ne.symm hx.fm)) (fH h.t hx.tf) ?_ (fH h.v (Ne.symm hx.fv)) h.rr h.hr h.sr h.fw h.r0 (fun _ _ e=>e) rfl;exact h.f.set (o:=12) (by show 12<13;omega) (.int .i64 z)
theorem Sp.defs(h:St X d u)(z:Value):Sp X d u {d with df:=z} (u.setCell ⟨X.F,11,none⟩ z):=by
 have hx:=h.ty;refine h.put _ (.inr (.inr (.inl rfl))) (fH h.m (Ne.symm hx.fm)) (fH h.t hx.tf) ?_ (fH h.v (Ne.symm hx.fv)) h.rr h.hr h.sr h.fw h.r0 (fun _ _ e=>e) rfl;exact h.f.set (o:=11) (by show 11<13;omega) z
theorem Sp.var(h:St X d u){i:Nat}(hi:i<d.vs.length)(z:Value):Sp X d u {d with vs:=d.vs.set i z} (u.setCell ⟨X.V,i,none⟩ z):=by
 have hx:=h.ty;refine h.put _ (.inr (.inr (.inr rfl))) (fH h.m (Ne.symm hx.vm)) (fH h.t hx.tv) (fH h.f hx.fv) ?_ h.rr h.hr h.sr h.fw h.r0 (fun _ _ e=>e) (by simp);have:=h.v.set (o:=i) (by simpa using hi) z;simpa using this
theorem Sp.made(h:St X d u)(n:Nat):Sp X d u {d with fM:=n} (u.setCell ⟨X.M,14,none⟩ (.int .i64 (n:Int))):=by
 have hx:=h.ty;refine h.put _ (.inl rfl) ?_ (fH h.t hx.tm) (fH h.f hx.fm) (fH h.v hx.vm) h.rr h.hr h.sr h.fw h.r0 (fun _ _ e=>e) rfl;exact h.m.set (o:=14) (by show 14<27;omega) (.int .i64 (n:Int))
theorem Sp.since(h:St X d u)(n:Nat):Sp X d u {d with sin:=n} (u.setCell ⟨X.M,21,none⟩ (.int .i64 (n:Int))):=by
 have hx:=h.ty;refine h.put _ (.inl rfl) ?_ (fH h.t hx.tm) (fH h.f hx.fm) (fH h.v hx.vm) h.rr h.hr h.sr h.fw h.r0 (fun _ _ e=>e) rfl;exact h.m.set (o:=21) (by show 21<27;omega) (.int .i64 (n:Int))
theorem O4{N:Nat}{w:World}{t:TypeId}{K n m cap:Nat}{a:Option Addr}{xs:List Value}(h:w.ownsRow N t K (.slice a n cap) n xs)(hm:m<=n):w.ownsRow N t K (.slice a m cap) m (xs.take (m*K)):=by
 have h0:=h.1;refine⟨by rw[List.length_take,h0,Nat.min_eq_left (Nat.mul_le_mul_right K hm)],?_⟩;rcases h.2 with⟨h2,h3⟩|⟨g,cap',cur,e2,h3,h4,h5,h6,h7,h8⟩
 ·obtain⟨rfl,_,rfl⟩:a=none/\n=0/\cap=0:=by simpa using h2
  exact .inl ⟨by rw[show m=0 by omega],by omega⟩
 ·cases e2;refine .inr ⟨g,cap,cur,rfl,h3,h4,by omega,h6,h7,?_⟩;rw[<-h8,List.take_take];congr 1;exact(Nat.min_eq_left (Nat.mul_le_mul_right K hm)).symm
theorem Sp.dX(h:St X d u){m:Nat}(hm:m<=d.held.length):Sp X d u {d with held:=d.held.take m} (u.setCell ⟨X.T,8,none⟩ (.slice d.ha m d.hc)):=by
 have hx:=h.ty;have hlen:(d.held.take m).length=m:=by rw[List.length_take];omega
 refine h.put _ (.inr (.inl rfl)) (fH h.m (Ne.symm hx.tm)) ?_ (fH h.f (Ne.symm hx.tf)) (fH h.v (Ne.symm hx.tv)) h.rr ?_ h.sr h.fw h.r0 (fun _ _ e=>e) rfl
 ·have:=h.t.set (o:=8) (by show 8<17;omega) (.slice d.ha m d.hc);show OwnB _ _ (tA X {d with held:=d.held.take m});simp only[tA,hlen];exact this
 ·have:=O4 h.hr hm;show World.ownsRow _ _ _ _ (.slice d.ha (d.held.take m).length d.hc) (d.held.take m).length (hL (d.held.take m));rw[hlen,ye9];exact this
theorem Sp.qB(h:St X d u){m:Nat}(hm:m<=d.sc.length):Sp X d u {d with sc:=d.sc.take m} (u.setCell ⟨X.F,10,none⟩ (.slice d.sa m d.sp)):=by
 have hx:=h.ty;have hlen:(d.sc.take m).length=m:=by rw[List.length_take];omega
 refine h.put _ (.inr (.inr (.inl rfl))) (fH h.m (Ne.symm hx.fm)) (fH h.t hx.tf) ?_ (fH h.v (Ne.symm hx.fv)) h.rr h.hr ?_ h.fw h.r0 (fun _ _ e=>e) rfl
 ·have:=h.f.set (o:=10) (by show 10<13;omega) (.slice d.sa m d.sp);show OwnB _ _ (fA X {d with sc:=d.sc.take m});simp only[fA,hlen];exact this
 ·have:=O4 h.sr hm;show World.ownsRow _ _ _ _ (.slice d.sa (d.sc.take m).length d.sp) (d.sc.take m).length (iL (d.sc.take m));rw[hlen];rw[show iL (d.sc.take m)=(iL d.sc).take (m*1) by simp[iL,List.map_take]];exact this
theorem St.mid(h:St X d u){a:Option Addr}(hg:u.grownBy w7 (aj a)){s:TypeId}(hs:s=49\/s=53\/s=3\/s=125)(hT:∀k,aj a=some k->dA u k s){B:Nat}{A:Array Value}(hB:OwnB u B A)(h5:B=X.M\/B=X.T\/B=X.F\/B=X.V):OwnB w7 B A:=by
 obtain⟨tB,hTB,n1,n2,n3,n4⟩:=h.ty.row h5;exact hB.block hg.size (hg.block _ hB.1.1 (fun e=>hTB.ne (hT B e.symm) (by rcases hs with rfl|rfl|rfl|rfl<;>assumption) rfl))
theorem wG{N K n m cap:Nat}{t:TypeId}{a b:Option Addr}{xs:List Value}(hg:u.grownBy w7 (aj a))(h:u.ownsRow N t K (.slice b m cap) n xs)(hne:∀k,aj b=some k->aj a≠some k):w7.ownsRow N t K (.slice b m cap) n xs:=
 jS h fun k e=>hg.block k (h.lt k e).2 (fun c=>hne k ((dD _ _ _).symm.trans e) c.symm)
theorem St.qo(h:St X d u){a:Option Addr}(hg:u.grownBy w7 (aj a)){s:TypeId}(hs:s=49\/s=53\/s=3\/s=125)(hT:∀k,aj a=some k->dA u k s):OwnB w7 X.M (mA X d)/\OwnB w7 X.T (tA X d)/\OwnB w7 X.F (fA X d)/\OwnB w7 X.V d.vs.toArray/\lH X w7:=by
 refine⟨h.mid hg hs hT h.m (.inl rfl),h.mid hg hs hT h.t (.inr (.inl rfl)),h.mid hg hs hT h.f (.inr (.inr (.inl rfl))),h.mid hg hs hT h.v (.inr (.inr (.inr rfl))),h.ty.keep (fun k e=>?_)⟩;obtain⟨tB,hTB,n1,n2,n3,n4⟩:=h.ty.row e;exact hg.block _ hTB.lt (fun c=>hTB.ne (hT k c.symm) (by rcases hs with rfl|rfl|rfl|rfl<;>assumption) rfl)
theorem St.grow(h:St X d u){a:Option Addr}(hg:u.grownBy w7 (aj a)){s:TypeId}(hs:s=49\/s=53\/s=3\/s=125)(hT:∀k,aj a=some k->dA u k s)(hN:∀k,aj a=some k->X.N<=k)(ha:∀k,aj a=some k->kZ X d k){B o:Nat}{v:Value}(hB:B=X.M\/B=X.T\/B=X.F\/B=X.V)(m:OwnB (w7.setCell ⟨B,o,none⟩ v) X.M (mA X d'))(t:OwnB (w7.setCell ⟨B,o,none⟩ v) X.T (tA X d'))(f:OwnB (w7.setCell ⟨B,o,none⟩ v) X.F (fA X d'))(w:OwnB (w7.setCell ⟨B,o,none⟩ v) X.V d'.vs.toArray)(rr:Jr X.N w7 d')(hr:Na X.N w7 d')(sr:N9 X.N w7 d')(fw:RV X w7 d')(r0:d'.fr[X.fl-1]?=some (.pointer (some ⟨X.F,0,none⟩)))(hd:∀k,k<u.heap.size->kZ X d' k->kZ X d k)(nH:d'.vs.length=d.vs.length)(MH:d'.tb=d.tb/\d'.TP=d.TP:=by exact⟨rfl,rfl⟩):Sp X d u d' (w7.setCell ⟨B,o,none⟩ v):=by
 have hx:=h.x;have hm:=h.qo hg hs hT;have hty:=hm.2.2.2.2;have hsR:kZ X d B:=by
  rcases hB with e|e|e|e
  ·exact .inl e
  ·exact .inr (.inl e)
  ·exact .inr (.inr (.inl e))
  ·exact .inr (.inr (.inr (.inl e)))
 have htt:yO X.N d'.tb d'.TP (w7.setCell ⟨B,o,none⟩ v):=by
  rw[MH.1,MH.2];have h7:yO X.N d.tb d.TP w7:=h.tt.keep hg.size (fun k e=>hg.block k (h.tt.a k e).2 (fun c=>h.ts k e (ha k c.symm)));exact h7.keep (by simp) (fun k e=>Below.heap_setCell _ _ _ _ (fun c=>h.ts k e (by rw[c];exact hsR)))
 have hts:∀k,d'.tb k->¬kZ X d' k:=fun k e c=>by
  rw[MH.1] at e;exact h.ts k e (hd k (h.tt.a k e).2 c)
 have hdB:∀k,k<u.heap.size->stB X d' k->stB X d k:=fun k hk e=>by
  rcases e.or with e|e
  ·exact(hd k hk e).b
  ·rw[MH.1] at e;exact stB.tb e
 obtain⟨tB,hTB,n1,n2,n3,n4⟩:=hty.row (B:=B) hB;have hsB:stB X d B:=by
  rcases hB with e|e|e|e
  ·exact .inl e
  ·exact .inr (.inl e)
  ·exact .inr (.inr (.inl e))
  ·exact .inr (.inr (.inr (.inl e)))
 have g0:Gx (stB X d) u w7:=(Gx.grown hg).mono (fun k e=>(ha k e).b);have hWs:X.W.heap.size<=X.N:=hx.nW;refine⟨⟨hx,m,t,f,w,jh fw _ fun k e=>(jJ fw ((dD _ _ _).symm.trans e)).ne hTB (Ne.symm n4),jh rr _ fun k e=>(jJ rr ((dD _ _ _).symm.trans e)).ne hTB (Ne.symm n1),jh hr _ fun k e=>(jJ hr ((dD _ _ _).symm.trans e)).ne hTB (Ne.symm n2),jh sr _ fun k e=>(jJ sr ((dD _ _ _).symm.trans e)).ne hTB (Ne.symm n3),?_,by have:=h.n;have:=hg.size;simp;omega,nH.trans h.nv,hty.set _ _,r0,htt,hts⟩,g0.trans (Gx.set _ _ _ _) (fun k _ e=>by subst e;exact hsB),hdB⟩;refine(h.k.trans (Gx.grown hg) (fun k _ e=>.inr (by have:=hN k e;omega))).trans (Gx.set w7 B o v) (fun k _ e=>?_);subst e;rcases hB with e|e|e|e
 ·exact .inl e
 ·exact .inr (e ▸ hx.t)
 ·exact .inr (e ▸ hx.f)
 ·exact .inr (e ▸ hx.v)
theorem G9:(49:TypeId)≠53:=by decide
theorem Gf:(49:TypeId)≠3:=by decide
theorem G7:(53:TypeId)≠3:=by decide
theorem Gg:(49:TypeId)≠125:=by decide
theorem G8:(53:TypeId)≠125:=by decide
theorem Oz:(3:TypeId)≠125:=by decide
theorem Dj{a a':Option Addr}{n cap m cap':Nat}(hat:(Value.slice a' m cap').ownBlock=(Value.slice a n cap).ownBlock\/(Value.slice a' m cap').ownBlock=some u.heap.size){k:Nat}(hk:k<u.heap.size)(e:aj a'=some k):aj a=some k:=by
 rw[dD,dD] at hat;rcases hat with c|c
 ·rw[<-c];exact e
 ·rw[c] at e;have:=Option.some.inj e;omega
theorem Sp.recs(h:St X d u){x:eP}{v':Value}(ho:w7.ownsRow X.N 49 5 v' (d.recs.length+1) (rL d.recs++r5 x))(hg:u.grownBy w7 (Value.slice d.ra d.recs.length d.rc).ownBlock)(hat:v'.ownBlock=(Value.slice d.ra d.recs.length d.rc).ownBlock\/v'.ownBlock=some u.heap.size):∃a c,v'=.slice a (d.recs.length+1) c/\Sp X d u {d with recs:=d.recs++[x],ra:=a,rc:=c} (w7.setCell ⟨X.M,9,none⟩ v'):=by
 obtain⟨a,c,rfl⟩:=sU ho;rw[dD] at hg;have hx:=h.ty;have hN:∀k,aj d.ra=some k->X.N<=k:=fun k e=>(q16 h.rr e).1;have BJ:∀k,aj d.ra=some k->dA u k 49:=fun k e=>jJ h.rr e;have hm:=h.qo hg (.inl rfl) BJ;have hlen:(d.recs++[x]).length=d.recs.length+1:=by simp
 refine⟨a,c,rfl,h.grow hg (.inl rfl) BJ hN (fun k e=>.inr (.inr (.inr (.inr (.inl e))))) (.inl rfl) ?_ (fH hm.2.1 hx.tm) (fH hm.2.2.1 hx.fm) (fH hm.2.2.2.1 hx.vm) ?_ (wG hg h.hr (fun k e c=>sQ h.rr h.hr G9 c e)) (wG hg h.sr (fun k e c=>sQ h.rr h.sr Gf c e)) (wG hg h.fw (fun k e c=>sQ h.rr h.fw Gg c e)) h.r0 ?_ rfl⟩
 ·have:=hm.1.set (o:=9) (by show 9<27;omega) (.slice a (d.recs.length+1) c);show OwnB _ _ (mA X {d with recs:=d.recs++[x],ra:=a,rc:=c});simp only[mA,hlen];exact this
 ·show World.ownsRow _ _ _ _ (.slice a (d.recs++[x]).length c) (d.recs++[x]).length (rL (d.recs++[x]));rw[hlen,yk1];simpa[rL] using ho
 ·intro k hk e;rcases e with e|e|e|e|e|e|e|e
  ·exact .inl e
  ·exact .inr (.inl e)
  ·exact .inr (.inr (.inl e))
  ·exact .inr (.inr (.inr (.inl e)))
  ·exact .inr (.inr (.inr (.inr (.inl (Dj hat hk e)))))
  ·exact .inr (.inr (.inr (.inr (.inr (.inl e)))))
  ·exact .inr (.inr (.inr (.inr (.inr (.inr (.inl e))))))
  ·exact .inr (.inr (.inr (.inr (.inr (.inr (.inr e))))))
theorem Sp.hold(h:St X d u){l:List VD}{v':Value}(ho:w7.ownsRow X.N 53 5 v' (d.held.length+l.length) (hL d.held++hL l))(hg:u.grownBy w7 (Value.slice d.ha d.held.length d.hc).ownBlock)(hat:v'.ownBlock=(Value.slice d.ha d.held.length d.hc).ownBlock\/v'.ownBlock=some u.heap.size):∃a c,v'=.slice a (d.held.length+l.length) c/\Sp X d u {d with held:=d.held++l,ha:=a,hc:=c} (w7.setCell ⟨X.T,8,none⟩ v'):=by
 obtain⟨a,c,rfl⟩:=sU ho;rw[dD] at hg;have hx:=h.ty;have hN:∀k,aj d.ha=some k->X.N<=k:=fun k e=>(q16 h.hr e).1;have BJ:∀k,aj d.ha=some k->dA u k 53:=fun k e=>jJ h.hr e;have hm:=h.qo hg (.inr (.inl rfl)) BJ;have hlen:(d.held++l).length=d.held.length+l.length:=by simp
 refine⟨a,c,rfl,h.grow hg (.inr (.inl rfl)) BJ hN (fun k e=>.inr (.inr (.inr (.inr (.inr (.inl e)))))) (.inr (.inl rfl)) (fH hm.1 (Ne.symm hx.tm)) ?_ (fH hm.2.2.1 (Ne.symm hx.tf)) (fH hm.2.2.2.1 (Ne.symm hx.tv)) (wG hg h.rr (fun k e c=>sQ h.rr h.hr G9 e c)) ?_ (wG hg h.sr (fun k e c=>sQ h.hr h.sr G7 c e)) (wG hg h.fw (fun k e c=>sQ h.hr h.fw G8 c e)) h.r0 ?_ rfl⟩
 ·have:=hm.2.1.set (o:=8) (by show 8<17;omega) (.slice a (d.held.length+l.length) c);show OwnB _ _ (tA X {d with held:=d.held++l,ha:=a,hc:=c});simp only[tA,hlen];exact this
 ·show World.ownsRow _ _ _ _ (.slice a (d.held++l).length c) (d.held++l).length (hL (d.held++l));rw[hlen,Kw];exact ho
 ·intro k hk e;rcases e with e|e|e|e|e|e|e|e
  ·exact .inl e
  ·exact .inr (.inl e)
  ·exact .inr (.inr (.inl e))
  ·exact .inr (.inr (.inr (.inl e)))
  ·exact .inr (.inr (.inr (.inr (.inl e))))
  ·exact .inr (.inr (.inr (.inr (.inr (.inl (Dj hat hk e))))))
  ·exact .inr (.inr (.inr (.inr (.inr (.inr (.inl e))))))
  ·exact .inr (.inr (.inr (.inr (.inr (.inr (.inr e))))))
theorem Sp.scope(h:St X d u){z:Int}{v':Value}(ho:w7.ownsRow X.N 3 1 v' (d.sc.length+1) (iL d.sc++[.int .i64 z]))(hg:u.grownBy w7 (Value.slice d.sa d.sc.length d.sp).ownBlock)(hat:v'.ownBlock=(Value.slice d.sa d.sc.length d.sp).ownBlock\/v'.ownBlock=some u.heap.size):∃a c,v'=.slice a (d.sc.length+1) c/\Sp X d u {d with sc:=d.sc++[z],sa:=a,sp:=c} (w7.setCell ⟨X.F,10,none⟩ v'):=by
 obtain⟨a,c,rfl⟩:=sU ho;rw[dD] at hg;have hx:=h.ty;have hN:∀k,aj d.sa=some k->X.N<=k:=fun k e=>(q16 h.sr e).1;have BJ:∀k,aj d.sa=some k->dA u k 3:=fun k e=>jJ h.sr e;have hm:=h.qo hg (.inr (.inr (.inl rfl))) BJ;have hlen:(d.sc++[z]).length=d.sc.length+1:=by simp
 refine⟨a,c,rfl,h.grow hg (.inr (.inr (.inl rfl))) BJ hN (fun k e=>.inr (.inr (.inr (.inr (.inr (.inr (.inl e))))))) (.inr (.inr (.inl rfl))) (fH hm.1 (Ne.symm hx.fm)) (fH hm.2.1 hx.tf) ?_ (fH hm.2.2.2.1 (Ne.symm hx.fv)) (wG hg h.rr (fun k e c=>sQ h.rr h.sr Gf e c)) (wG hg h.hr (fun k e c=>sQ h.hr h.sr G7 e c)) ?_ (wG hg h.fw (fun k e c=>sQ h.sr h.fw Oz c e)) h.r0 ?_ rfl⟩
 ·have:=hm.2.2.1.set (o:=10) (by show 10<13;omega) (.slice a (d.sc.length+1) c);show OwnB _ _ (fA X {d with sc:=d.sc++[z],sa:=a,sp:=c});simp only[fA,hlen];exact this
 ·show World.ownsRow _ _ _ _ (.slice a (d.sc++[z]).length c) (d.sc++[z]).length (iL (d.sc++[z]));rw[hlen,yl6];exact ho
 ·intro k hk e;rcases e with e|e|e|e|e|e|e|e
  ·exact .inl e
  ·exact .inr (.inl e)
  ·exact .inr (.inr (.inl e))
  ·exact .inr (.inr (.inr (.inl e)))
  ·exact .inr (.inr (.inr (.inr (.inl e))))
  ·exact .inr (.inr (.inr (.inr (.inr (.inl e)))))
  ·exact .inr (.inr (.inr (.inr (.inr (.inr (.inl (Dj hat hk e)))))))
  ·exact .inr (.inr (.inr (.inr (.inr (.inr (.inr e))))))
end
structure DP where
 recs:List eP
 ti:Nat
 held:List VD
 sc:List Int
 line:Int
 vs:List Value
 tab:Value
 gq:Value
 fM:Nat
 sin:Nat
 cls:Value
 fr:List Value
 df:Value
 tb:Nat->Prop
 TP:World->Prop
def MD.p(d:MD):DP:=⟨d.recs,d.ti,d.held,d.sc,d.line,d.vs,d.tab,d.gq,d.fM,d.sin,d.cls,d.fr,d.df,d.tb,d.TP⟩
def DP.defs(p:DP)(v:Value):DP:={p with df:=v}
def DP.tick(p:DP):DP:={p with ti:=p.ti+1}
def DP.gU(p:DP)(x:eP):DP:={p with recs:=p.recs++[x]}
def DP.hold(p:DP)(l:List VD):DP:={p with held:=p.held++l}
def DP.dX(p:DP)(m:Nat):DP:={p with held:=p.held.take m}
def DP.scope(p:DP)(z:Int):DP:={p with sc:=p.sc++[z]}
def DP.qB(p:DP)(m:Nat):DP:={p with sc:=p.sc.take m}
def DP.ln(p:DP)(z:Int):DP:={p with line:=z}
def DP.var(p:DP)(i:Nat)(v:Value):DP:={p with vs:=p.vs.set i v}
def DP.paid(p:DP)(n:Nat):DP:={p with fM:=p.fM+n,sin:=p.sin+n}
def To(X:RX)(d:MD)(u:World)(q:DP)(w':World):Prop:=∃d',Sp X d u d' w'/\d'.p=q
theorem To.mk{X:RX}{d d':MD}{u w':World}{q:DP}(h:Sp X d u d' w')(e:d'.p=q):To X d u q w':=⟨d',h,e⟩
theorem To.step{X:RX}{d d':MD}{u u' w':World}{q:DP}(h:Sp X d u d' u')(k:To X d' u' q w'):To X d u q w':=by
 obtain⟨d2,h2,e⟩:=k;exact⟨d2,h.trans h2,e⟩
end
section
open Go.RowKit
attribute [local go_sem] aN
attribute [local go_sem ↓] Go.wp_at_zero Go.wp_at_succ
theorem Pz(X:RX)(d:MD)(u:World)(h:St X d u)(ht:d.ti<X.tk):Calls Tryz.prog 148 #[.pointer (some ⟨X.M,0,none⟩)] u fun e w'=>e=.returned (.tuple #[])/\To X d u d.p.tick w':=by
 have HS:Hid (St X d u):=h;have c13:=h.m.1.cell 13 rfl;have c3:=h.m.1.cell 3 rfl;have z:=h.m.2;have LY:d.ti<5000:=by have:=h.x.kt;omega
 have hne:((d.ti:Int)==(X.tk:Int))=false:=by simpa using(show(d.ti:Int)≠(X.tk:Int) by omega)
 clear h;go_in;go_wp2_with fail
 go_region_with fail
 all_goals go_wp2_with fail
 all_goals go_end0
 all_goals exact⟨rfl,.mk (Sp.tick HS.out).drew rfl⟩
theorem za9(a b:Value)(u:World):Calls Tryz.prog 10 #[a,b] u fun e w'=>e=.returned (.bool true)/\w'=u:=by
 go_in;go_wp2_with fail;go_ret;exact⟨rfl,rfl⟩
theorem wF{P:Program}{ops:Array Oper}{o:Oper}{a:Act}{w:World}{K:Act->World->Prop}{Q:Exit->Act->World->Prop}{E:Prop}(hgd:o.guard=none)(sl x:Operand)(t u:TypeId)(ho:o.op=.call {callee:=.builtin .append,args:=#[sl,x],argTypes:=#[t,u]})(v xv v':Value)(w':World)(hs:a.eval sl=v)(hx:a.eval x=xv)(hr:(Builtin.append_ #[t,u] o.type #[v,xv]).run P w=.ok v' w')(h:K (a.put o.dst v') w'):if Region.wanted o (yielded ops a.tmps)=true then Oper.wp P o a w K Q else E:=by
 have hw:Region.wanted o (yielded ops a.tmps)=true:=by simp[Region.wanted,hgd]
 rw[if_pos hw];unfold Oper.wp execOp;simp only[ho,resolve,invoke,builtin,Sem.run_bind,Sem.run_pure,Result.andThen_ok,List.map_toArray,List.map_cons,List.map_nil,hs,hx,hr];exact h
theorem y50:(Tryz.prog.info? 49).map (fun i=>(i.zero,i.size,i.bytes))=some (some (.agg #[.int .i64 0,.int .i64 0,.int .i64 0,.int .i64 0,.string ⟨#[]⟩]),5,48):=by kernel_rfl
theorem O6:(Tryz.prog.info? 53).map (fun i=>(i.zero,i.size,i.bytes))=some (some (.agg #[.int .i64 0,.int .i64 0,.float .f64 0,.string ⟨#[]⟩,.int .i64 0]),5,48):=by kernel_rfl
theorem NR:(Tryz.prog.info? 3).map (fun i=>(i.zero,i.size,i.bytes))=some (some (.int .i64 0),1,8):=by kernel_rfl
theorem yk2(x:eP):∀y∈r5 x,y.oneCell'=true:=by simp[r5,Value.oneCell']
theorem yi1(x:VD):∀y∈v5 x,y.oneCell'=true:=by simp[v5,Value.oneCell']
theorem Du(X:RX)(d:MD)(k f l:Int)(s:ByteArray)(u:World)(h:St X d u)(hn:d.recs.length<5000):Calls Tryz.prog 149 #[.pointer (some ⟨X.M,0,none⟩),.int .i64 k,.int .i64 f,.int .i64 l,.string s] u fun e w'=>e=.returned (.tuple #[])/\To X d u (d.p.gU ⟨k,0,f,l,s⟩) w':=by
 have HS:Hid (St X d u):=h;have c9:=h.m.1.cell 9 rfl;have c6:=h.m.1.cell 6 rfl;have c23:=h.m.1.cell 23 rfl;have t0:=h.t.1.cell 0 rfl;have z:=h.m.2;have hM:=h.m.1.1;have hT:=h.t.1.1;have hne:((d.recs.length:Int)==100000)=false:=by simpa using(show(d.recs.length:Int)≠100000 by omega)
 obtain⟨i0,hi0,hy0,hy1,hy2⟩:=info_parts y50;clear h;obtain⟨v',w7,happ,hown,hgrow,_,hat⟩:=run_append_own_at (P:=Tryz.prog) (u.alloc (.cells #[.int .i64 k,.int .i64 0,.int .i64 f,.int .i64 l,.string s] 49)).drew X.N 24 24 49 i0 _ 5 48 Tryz.underlying24 hi0 hy0 hy1 hy2 rfl (by decide) (.slice d.ra d.recs.length d.rc) d.recs.length (rL d.recs) (HS.alloc _).drew.rr ⟨u.heap.size,0,none⟩ 1 1 (r5 ⟨k,0,f,l,s⟩) rfl (yD u #[.int .i64 k,.int .i64 0,.int .i64 f,.int .i64 l,.string s] _) (yk2 _) (by unfold maxLen;omega) (by omega) (by have:=HS.n;simp;omega);have hm:=(HS.alloc (.cells #[.int .i64 k,.int .i64 0,.int .i64 f,.int .i64 l,.string s] 49)).drew.qo (by rw[dD] at hgrow;exact hgrow) (.inl rfl) (fun q e=>jJ (HS.alloc _).drew.rr e);obtain⟨a2,c2,rfl,hs2⟩:=Sp.recs (x:=⟨k,0,f,l,s⟩) (HS.alloc (.cells #[.int .i64 k,.int .i64 0,.int .i64 f,.int .i64 l,.string s] 49)).drew hown hgrow hat;have HF:Hid (To X d u (d.p.gU ⟨k,0,f,l,s⟩) (w7.setCell ⟨X.M,9,none⟩ (.slice a2 (d.recs.length+1) c2))):=.mk ((Sp.refl HS.out |>.alloc _).drew.trans hs2) rfl;have d9:=hm.1.1.cell 9 rfl;have dz:=hm.1.2;clear hown hgrow hat hs2 hm;go_in;go_wp2_with (go_at_call 10;refine(za9 _ _ _).mono ?_;rintro e w1 ⟨rfl,rfl⟩)
 go_region_law ((refine wF (by rfl) _ _ _ _ (by rfl) (.slice d.ra d.recs.length d.rc) (.slice (some ⟨w1.heap.size,0,none⟩) 1 1) _ _ (by rfl) (by rfl) happ ?_))
 all_goals go_end0
 all_goals exact⟨rfl,HF.out⟩
theorem NP(l:List VD):∀y∈hL l,y.oneCell'=true:=by
 intro y hy;unfold hL at hy;rw[List.mem_flatMap] at hy;obtain⟨x,_,hx⟩:=hy;exact yi1 x y hx
theorem q32{P:Program}{ops:Array Oper}{rest:List Oper}{o:Oper}{a:Act}{w:World}{Q:Exit->Act->World->Prop}(hgd:o.guard=none)(sl x:Operand)(t u:TypeId)(ho:o.op=.call {callee:=.builtin .append,args:=#[sl,x],argTypes:=#[t,u]})(v xv v':Value)(w':World)(hs:a.eval sl=v)(hx:a.eval x=xv)(hr:(Builtin.append_ #[t,u] o.type #[v,xv]).run P w=.ok v' w')(h:wpList P ops Q rest (a.put o.dst v') w'):wpList P ops Q (o :: rest) a w:=by
 refine wpList_plain hgd fun K hK=>?_;unfold Oper.wp execOp;simp only[ho,resolve,invoke,builtin,Sem.run_bind,Sem.run_pure,Result.andThen_ok,List.map_toArray,List.map_cons,List.map_nil,hs,hx,hr];exact hK _ _ h
theorem Po(X:RX)(d:MD)(ad:Addr)(l:List VD)(c:Nat)(u:World)(h:St X d u)(hn:d.held.length+l.length<=100000)(hl:∀j v,(hL l)[j]?=some v->u.cell? (ad.add j)=some v):Calls Tryz.prog 196 #[.pointer (some ⟨X.T,0,none⟩),.slice (some ad) l.length c] u fun e w'=>e=.returned (.tuple #[])/\To X d u (d.p.hold l) w':=by
 have HS:Hid (St X d u):=h;have c8:=h.t.1.cell 8 rfl;have z:=h.t.2;obtain⟨i0,hi0,hy0,hy1,hy2⟩:=info_parts O6;obtain⟨v',w7,happ,hown,hgrow,_,hat⟩:=run_append_own_at (P:=Tryz.prog) u X.N 115 115 53 i0 _ 5 48 Tryz.underlying115 hi0 hy0 hy1 hy2 rfl (by decide) (.slice d.ha d.held.length d.hc) d.held.length (hL d.held) h.hr ad l.length c (hL l) (zx l) hl (NP l) (by unfold maxLen;omega) (by omega) h.n;have hm:=h.qo (by rw[dD] at hgrow;exact hgrow) (.inr (.inl rfl)) (fun q e=>jJ h.hr e);obtain⟨a2,c2,rfl,hs2⟩:=Sp.hold h hown hgrow hat;have HF:Hid (To X d u (d.p.hold l) (w7.setCell ⟨X.T,8,none⟩ (.slice a2 (d.held.length+l.length) c2))):=.mk hs2 rfl;have d8:=hm.2.1.1.cell 8 rfl;have dz:=hm.2.1.2;clear hown hgrow hat hs2 hm h hl;go_in;go_wp2_with (at_builtin;refine q32 (by rfl) _ _ _ _ (by rfl) (.slice d.ha d.held.length d.hc) (.slice (some ad) l.length c) _ _ (by rfl) (by rfl) happ ?_);go_end0;exact⟨rfl,HF⟩
theorem EJ{q:Nat}(h:q<=1000000000000):IntKind.i64.wrap (q:Int)=(q:Int):=by
 simp[IntKind.wrap,IntKind.signed,IntKind.bits];omega
theorem Hz(X:RX)(d:MD)(m:Nat)(u:World)(h:St X d u)(hm:m<=d.held.length)(hl:d.held.length<=100000):Calls Tryz.prog 197 #[.pointer (some ⟨X.T,0,none⟩),.int .i64 (m:Int)] u fun e w'=>e=.returned (.tuple #[])/\To X d u (d.p.dX (d.held.length-m)) w':=by
 have c8:u.cell? ⟨X.T,8,none⟩=some (.slice d.ha d.held.length d.hc):=h.t.1.cell 8 rfl;have z:=h.t.2;have HF:Hid (To X d u (d.p.dX (d.held.length-m)) (u.setCell ⟨X.T,8,none⟩ (.slice d.ha (d.held.length-m) d.hc)).drew):=.mk (Sp.dX h (by omega)).drew rfl;have h0:=h.hr.2;clear h;rcases h0 with⟨e,_⟩|⟨g,cap,cur,e,_,_,h5,_⟩
 ·obtain⟨e1,e2,e3⟩:d.ha=none/\d.held.length=0/\d.hc=0:=by simpa using e
  obtain rfl:m=0:=by omega
  rw[e1,e2,e3] at c8 HF;rw[e2];clear e e1 e2 e3 hm hl;go_in;go_wp2_with fail
  go_region_with fail
  all_goals go_end0
  all_goals exact⟨rfl,HF.out⟩
 ·obtain⟨e1,e3⟩:d.ha=some ⟨g,0,none⟩/\d.hc=cap:=by simpa using e
  obtain⟨q,hq⟩:∃q,d.held.length-m=q:=⟨_,rfl⟩;have hq2:(d.held.length:Int)-(m:Int)=(q:Int):=by omega
  rw[e1,e3,hq] at HF;rw[e1,e3] at c8;rw[hq];clear e e1 e3;generalize d.held.length=n at *;obtain rfl:n=q+m:=by omega
  clear hq hq2 hm;by_cases hc:cap=0
  ·obtain⟨rfl,rfl⟩:q=0/\m=0:=by omega
   subst hc;go_in;go_wp2_with fail
   go_region_with fail
   all_goals go_end0
   all_goals exact⟨rfl,HF.out⟩
  ·have hw:IntKind.i64.wrap (q:Int)=(q:Int):=EJ (by omega);go_in;go_wp2_with fail
   go_region_with fail
   all_goals go_end0
   all_goals exact⟨rfl,HF.out⟩
end
end Go.Proofs.YtihnikeikhjndaaGreatDoor
