import Derived.Test.YtihnikeikhjndaaGreatDoorYqE
import Derived.Test.YtihnikeikhjndaaGreatDoorYcM
set_option maxRecDepth 100000
set_option maxHeartbeats 16000000
namespace Go.Proofs.YtihnikeikhjndaaGreatDoor
section
open Go.RowKit
theorem xM.is{q:ND}{k n:Int}{rs cs:List Nat}(h:xM q k n rs cs):eu q k rs cs:=⟨h.k,h.rn,h.r,h.kn,h.c⟩
theorem gX.f{st:Bool}{k z:Int}{rs' cs':List Int}{p:ND×NA}(h:gX st k z rs' cs' p)(rs cs:List Nat)(hr:rs'=rs.map fun(t:Nat)=>(t:Int))(hc:cs'=cs.map fun(t:Nat)=>(t:Int)):xM p.1 k z rs cs:=by
 obtain⟨l,r,c,rfl,ir,ic,_⟩:=h;subst hr hc;exact⟨rfl,rfl,rfl,rfl,rfl,by show r.n=_;rw[ir.n,List.length_map],fun j y e=>ir.q j y (by rw[List.getElem?_map,e];rfl),by show c.n=_;rw[ic.n,List.length_map],fun j y e=>ic.q j y (by rw[List.getElem?_map,e];rfl)⟩
theorem gX.e{k z:Int}{rs' cs':List Int}{p:ND×NA}(h:gX false k z rs' cs' p)(rs cs:List Nat)(hr:rs'=rs.map fun(t:Nat)=>(t:Int))(hc:cs'=cs.map fun(t:Nat)=>(t:Int)):mg p.1 k z rs cs:=⟨h.f rs cs hr hc,by
 obtain⟨l,r,c,rfl,_,_,e⟩:=h;exact e⟩
theorem gX.s{k:Int}{rs' cs':List Int}{p:ND×NA}(h:gX true k 0 rs' cs' p)(rs cs:List Nat)(hr:rs'=rs.map fun(t:Nat)=>(t:Int))(hc:cs'=cs.map fun(t:Nat)=>(t:Int)):oN p.1 k rs cs:=by
 refine⟨h.f rs cs hr hc,?_,?_⟩;all_goals
  obtain⟨l,r,c,rfl,_,_,e⟩:=h;have e':1<=l/\l<=5000:=e;have e1:=e'.1;have e2:=e'.2
 ·exact e1
 ·show l<=100000;omega
theorem qG.gf{n:Nat}{fn:Nat->FD}(h:qG n fn){j:Nat}(h1:1<=j)(h2:j<n):GF (fn j) ((j:Int)-1) (j+1):=by
 obtain⟨ln,l,e,_,_,hf⟩:=h.g j h1 (by omega);rcases hf with⟨_,p0,p1,p2,p3,p4,p5,p6,p7,rfl,g⟩|⟨c,_⟩
 ·rw[e];exact⟨rfl,g.p0.e [] [] rfl rfl,g.p1.e [] [] rfl rfl,g.p2.e [] [0,1] rfl rfl,g.p3.s [] [2] rfl rfl,g.p4.e [j+1] [] rfl rfl,g.p5.e [] [4] rfl rfl,g.p6.s [] [5] rfl rfl,g.p7.s [] [3,6] rfl rfl⟩
 ·omega
theorem qG.tf{n:Nat}{fn:Nat->FD}(h:qG n fn)(h1:1<=n):TF (fn n) ((n:Int)-1)/\((fn n).nd 4).s=dP:=by
 obtain⟨ln,l,e,_,_,hf⟩:=h.g n h1 (by omega);rcases hf with⟨c,_⟩|⟨_,p0,p1,p2,p3,p5,p6,rfl,g⟩
 ·omega
 ·rw[e];exact⟨⟨rfl,g.p0.e [] [] rfl rfl,g.p1.e [] [] rfl rfl,g.p2.e [] [0,1] rfl rfl,g.p3.s [] [2] rfl rfl,⟨rfl,rfl,rfl,rfl,rfl,(by decide:dP.size<=4000),rfl,rfl⟩,g.p5.s [] [4] rfl rfl,g.p6.s [] [3,5] rfl rfl⟩,rfl⟩
theorem qG.hd{n:Nat}{fn:Nat->FD}(h:qG n fn){j:Nat}(h1:1<=j)(h2:j<n+1):Yn (fn j)/\(fn j).rest=false/\(fn j).name=sG:=by
 obtain⟨ln,l,e,l1,l2,_⟩:=h.g j h1 h2;rw[e];exact⟨⟨rfl,rfl,rfl,(by decide:sG.size<=40),l1,by show ln<=100000;omega⟩,rfl,rfl⟩
theorem qG.mf{n:Nat}{fn:Nat->FD}(h:qG n fn):MF (fn 0)/\(fn 0).rest=true/\(fn 0).name=iK:=by
 obtain⟨q0,q1,q2,q3,q4,q5,q6,q7,q8,q9,qa,qb,e,m⟩:=h.m;rw[e];refine⟨⟨rfl,m.q0.e [1] [] rfl rfl,m.q1.e [] [0] rfl rfl,m.q2.s [] [1] rfl rfl,m.g.p0.s [] [2] rfl rfl,m.g.p1.e [0] [] rfl rfl,m.g.p2.e [1] [] rfl rfl,m.g.p3.e [] [] rfl rfl,m.g.p4.e [] [6,4,5] rfl rfl,m.g.p5.s [] [7] rfl rfl,m.g.p6.s [] [8] rfl rfl,m.g.p7.s [0,1] [3,9] rfl rfl,m.qb.s [] [10] rfl rfl,rfl,rfl,rfl,(by decide:iK.size<=40),Int.le_refl _,by show(0:Int)<=100000;omega,fun i hi=>?_⟩,rfl,rfl⟩;have s1:(strOfNums [97]).size=1:=by kernel_rfl
 have s2:(strOfNums [98]).size=1:=by kernel_rfl
 rcases(show i=0\/i=1 by omega) with rfl|rfl
 ·show 1<=(strOfNums [97]).size/\(strOfNums [97]).size<=40;omega
 ·show 1<=(strOfNums [98]).size/\(strOfNums [98]).size<=40;omega
theorem qG.uu{n:Nat}{fn:Nat->FD}(h:qG n fn)(h1:1<=n)(h2:n<=40):yN ⟨n+1,fn⟩ n:=⟨rfl,h1,h2,h.mf.1,fun _ a b=>h.gf a b,(h.tf h1).1,fun _ a b=>(h.hd a b).1⟩
theorem GF.fn{d:FD}{z:Int}{f:Nat}(h:GF d z f):FN d z 6/\Ti d f:=⟨⟨h.nn,by omega,by omega,⟨h.p0.f.k,h.p0.f.n⟩,⟨h.p1.f.k,h.p1.f.n⟩,h.p2.f.is,h.p3.f.is,h.p7.f.is⟩,⟨h.p4.f.is,h.p5.f.is,h.p6.f.is⟩⟩
theorem TF.fn{d:FD}{z:Int}(h:TF d z)(hs:(d.nd 4).s=dP):FN d z 5/\Tf d:=⟨⟨h.nn,by omega,by omega,⟨h.p0.f.k,h.p0.f.n⟩,⟨h.p1.f.k,h.p1.f.n⟩,h.p2.f.is,h.p3.f.is,h.p6.f.is⟩,⟨⟨h.p4.1,hs⟩,h.p5.f.is⟩⟩
theorem MF.mn{d:FD}(h:MF d):MN d:=⟨h.nn,h.q0.f.is,h.q1.f.is,h.q2.f.is,h.q3.f.is,h.q4.f.is,h.q5.f.is,⟨h.q6.f.k,h.q6.f.n⟩,h.q7.f.is,h.q8.f.is,h.q9.f.is,h.qa.f.is,h.qb.f.is⟩
theorem gX.good{st:Bool}{k z:Int}{rs cs:List Int}{p:ND×NA}(h:gX st k z rs cs p)(h1:rs.length<=1000)(h2:cs.length<=1000):dU p.1.l/\p.1.sm:=by
 obtain⟨l,r,c,rfl,ir,ic,e⟩:=h;refine⟨?_,⟨by show(⟨#[]⟩:ByteArray).size<=1048576;decide,by show r.n<=_;rw[ir.n];omega,by show c.n<=_;rw[ic.n];omega⟩⟩;show -9223372036854775808<=l/\l<=9223372036854775807
 cases st with
 |true=>have e':1<=l/\l<=5000:=e;omega
 |false=>have e':l=0:=e;omega
def Az(d:FD):Prop:=∀i,dU (d.nd i).l/\(d.nd i).sm
theorem y43:dU nd0.1.l/\nd0.1.sm:=⟨⟨by show(-9223372036854775808:Int)<=0;omega,by show(0:Int)<=9223372036854775807;omega⟩,⟨by show(⟨#[]⟩:ByteArray).size<=1048576;decide,Nat.zero_le _,Nat.zero_le _⟩⟩
theorem Vx{nm:ByteArray}{ln:Int}{rs:Bool}{vs:List ByteArray}{l:List (ND×NA)}(h:∀p,p∈l->dU p.1.l/\p.1.sm):Az (yJ nm ln rs vs l):=fun i=>by
 show dU (l.getD i nd0).1.l/\(l.getD i nd0).1.sm;by_cases c:i<l.length
 ·exact h _ (GR l i nd0 c)
 ·rw[List.getD_eq_getElem?_getD,List.getElem?_eq_none (by omega)];exact y43
theorem qG.all{n:Nat}{fn:Nat->FD}(h:qG n fn){j:Nat}(hj:j<n+1):Az (fn j):=by
 by_cases c:j=0
 ·subst c;obtain⟨q0,q1,q2,q3,q4,q5,q6,q7,q8,q9,qa,qb,e,m⟩:=h.m;rw[e];refine Vx fun p hp=>?_;simp only[List.mem_cons,List.not_mem_nil,or_false] at hp;rcases hp with rfl|rfl|rfl|rfl|rfl|rfl|rfl|rfl|rfl|rfl|rfl|rfl
  ·exact m.q0.good (by simp) (by simp)
  ·exact m.q1.good (by simp) (by simp)
  ·exact m.q2.good (by simp) (by simp)
  ·exact m.g.p0.good (by simp) (by simp)
  ·exact m.g.p1.good (by simp) (by simp)
  ·exact m.g.p2.good (by simp) (by simp)
  ·exact m.g.p3.good (by simp) (by simp)
  ·exact m.g.p4.good (by simp) (by simp)
  ·exact m.g.p5.good (by simp) (by simp)
  ·exact m.g.p6.good (by simp) (by simp)
  ·exact m.g.p7.good (by simp) (by simp)
  ·exact m.qb.good (by simp) (by simp)
 ·obtain⟨ln,l,e,_,_,hf⟩:=h.g j (by omega) hj;rw[e];refine Vx fun p hp=>?_;rcases hf with⟨_,p0,p1,p2,p3,p4,p5,p6,p7,rfl,g⟩|⟨_,p0,p1,p2,p3,p5,p6,rfl,g⟩
  ·simp only[List.mem_cons,List.not_mem_nil,or_false] at hp;rcases hp with rfl|rfl|rfl|rfl|rfl|rfl|rfl|rfl
   ·exact g.p0.good (by simp) (by simp)
   ·exact g.p1.good (by simp) (by simp)
   ·exact g.p2.good (by simp) (by simp)
   ·exact g.p3.good (by simp) (by simp)
   ·exact g.p4.good (by simp) (by simp)
   ·exact g.p5.good (by simp) (by simp)
   ·exact g.p6.good (by simp) (by simp)
   ·exact g.p7.good (by simp) (by simp)
  ·simp only[List.mem_cons,List.not_mem_nil,or_false] at hp;rcases hp with rfl|rfl|rfl|rfl|rfl|rfl|rfl
   ·exact g.p0.good (by simp) (by simp)
   ·exact g.p1.good (by simp) (by simp)
   ·exact g.p2.good (by simp) (by simp)
   ·exact g.p3.good (by simp) (by simp)
   ·exact⟨⟨by show(-9223372036854775808:Int)<=0;omega,by show(0:Int)<=9223372036854775807;omega⟩,⟨(by decide:dP.size<=1048576),Nat.zero_le _,Nat.zero_le _⟩⟩
   ·exact g.p5.good (by simp) (by simp)
   ·exact g.p6.good (by simp) (by simp)
def only(n:Nat)(fn:Nat->FD):Nat->FD:=fun j=>if j<n+1 then fn j else default
theorem Gy{n:Nat}{fn:Nat->FD}{j:Nat}(h:j<n+1):only n fn j=fn j:=if_pos h
theorem qG.only{n:Nat}{fn:Nat->FD}(h:qG n fn):qG n (only n fn):=by
 refine⟨?_,fun j h1 h2=>?_⟩
 ·rw[Gy (by omega)];exact h.m
 ·rw[Gy h2];exact h.g j h1 h2
theorem ze7:Az default:=fun _=>⟨⟨by show(-9223372036854775808:Int)<=0;omega,by show(0:Int)<=9223372036854775807;omega⟩,⟨by show(⟨#[]⟩:ByteArray).size<=1048576;decide,Nat.zero_le _,Nat.zero_le _⟩⟩
theorem y59{n:Nat}{fn:Nat->FD}{fas:Nat->FA}{a:Option Addr}{w:World}(h:aZ 0 w (n+1) fn a fas):aZ 0 w (n+1) (only n fn) a fas:=by
 refine⟨fun h0=>?_,fun i hi=>by rw[Gy hi];exact h.2 i hi⟩;obtain⟨b,off,e,h1,h2,h3⟩:=h.1 h0;exact⟨b,off,e,h1,h2,fun i hi j hj=>by show _=(jO (only n fn i) (fas i))[j]?;rw[Gy hi];exact h3 i hi j hj⟩
theorem ZT{n dp ub:Nat}{fn:Nat->FD}{fas:Nat->FA}{w:World}(h1:1<=n)(h2:n<=40)(d1:1<=dp)(d2:dp<=60)(hf0:aZ 0 w (n+1) fn (some ⟨ub,0,none⟩) fas)(hc0:∀j,j<n+1->jc (fn j) (fas j))(hS0:qG n fn)(hT:eU w)(hE:kJ w):dS ⟨n+1,only n fn⟩ ub 0 fas n dp w:=by
 have hS:=hS0.only;have hf:=y59 hf0;have hc:∀j,j<n+1->jc (only n fn j) (fas j):=fun j hj=>by rw[Gy hj];exact hc0 j hj
 have hl:∀j,¬j<n+1->Az (only n fn j):=fun j hj=>by unfold only;rw[if_neg hj];exact ze7
 have hU:=hS.uu h1 h2;refine⟨⟨by show n+1<=1048576;omega,fun i hi=>?_⟩,rfl,d1,d2,yn8 hU,⟨hf,hc,h1,h2,hS.mf.1.mn,fun j a b=>?_,?_,fun j hj=>?_,hS.mf.1.vn,fun j a b=>⟨(hS.hd a b).1.vn,(hS.hd a b).1.un⟩,fun j i=>?_⟩,hT,hE⟩
 ·replace hi:i<n+1:=hi;have hnn:=(hU.nn hi).1;replace hnn:(only n fn i).nn<=12:=hnn;show(only n fn i).sm;by_cases c:i=0
  ·subst c;have hM:=hS.mf.1;exact⟨by have:=hM.nm;omega,by rw[hM.vn];omega,fun k hk=>by rw[hM.vn] at hk;have:=(hM.v k hk).2;omega,by rw[hM.un];omega,by omega,fun k _=>(hS.all hi k).2⟩
  ·have hH:=(hS.hd (j:=i) (by omega) hi).1;exact⟨by have:=hH.nm;omega,by rw[hH.vn];omega,fun k hk=>by rw[hH.vn] at hk;omega,by rw[hH.un];omega,by omega,fun k _=>(hS.all hi k).2⟩
 ·have:=(hS.gf a b).fn;rw[show((j-1:Nat):Int)=(j:Int)-1 by omega];exact this
 ·have:=(hS.tf h1).1.fn (hS.tf h1).2;rw[show((n-1:Nat):Int)=(n:Int)-1 by omega];exact this
 ·by_cases c:j=0
  ·subst c;exact⟨hS.mf.1.p,hS.mf.2.1,hS.mf.2.2⟩
  ·have hH:=hS.hd (j:=j) (by omega) hj;rw[if_neg c,decide_eq_false c];exact⟨hH.1.p,hH.2⟩
 ·by_cases c:j<n+1
  ·exact(hS.all c i).1
  ·exact(hl j c i).1
def I8(r:eP):List Value:=if r.k=6 then[.string r.s] else[]
theorem Ur(l:List eP)(d:eP):∀k,k<=l.length->jv (fun i=>l.getD i d) k=(l.take k).flatMap I8
 |0,_=>by simp[jv]
 |k+1,h=>by
  have ih:=Ur l d k (by omega);have hk:k<l.length:=by omega
  show jv (fun i=>l.getD i d) k++(if(l.getD k d).k=6 then[.string (l.getD k d).s] else[])=_;rw[ih,List.take_add_one,List.flatMap_append];congr 1;have e:l[k]?=some (l.getD k d):=by simp[List.getD,List.getElem?_eq_getElem hk]
  rw[e];simp[I8]
theorem yd5(l:List eP)(d:eP):jv (fun i=>l.getD i d) l.length=l.flatMap I8:=by rw[Ur l d _ (Nat.le_refl _),List.take_length]
def uz(b:Nat):Nat->List Value
 |0=>[]
 |k+1=>.string (bA (bI ((b-1:Nat):Int))) :: uz (b-1) k
theorem Gt:∀(k b:Nat),(uz b k).length=k
 |0,_=>rfl
 |k+1,b=>by
  show(uz (b-1) k).length+1=_;rw[Gt k (b-1)]
theorem TB:∀(k b i:Nat),i<k->(uz b k)[i]?=some (.string (bA (bI ((b-1 - i:Nat):Int))))
 |0,_,i,h=>by omega
 |k+1,b,0,_=>rfl
 |k+1,b,i+1,h=>by
  show(uz (b-1) k)[i]?=_;rw[TB k (b-1) i (by omega),show b-1 - 1-i=b-1 - (i+1) by omega]
theorem U9:∀(k b:Nat),k<b->uz b (k+1)=uz b k++[.string (bA (bI ((b-1 - k:Nat):Int)))]
 |0,b,_=>rfl
 |k+1,b,h=>by
  show .string _ :: uz (b-1) (k+1)=.string _ :: (uz (b-1) k++_);rw[U9 k (b-1) (by omega),show b-1 - 1-k=b-1 - (k+1) by omega]
theorem UV.BQ(V:UV):∀m f,f<=V.aO m f
 |0,f=>Nat.le_refl _
 |m+1,f=>by
  have:=V.BQ m (f+1);unfold UV.aO;split<;>omega
theorem yd8(v:VD):dM sD [v]=sD v:=by
 unfold dM;show(⟨(Lib.join [(sD v).data.toList] [32]).toArray⟩:ByteArray)=_;rw[Lib.join_one]
theorem UH(V:UV):∀m f,(V.aR m f).flatMap I8=uz (V.aO m f) (V.aO m f-f)
 |0,f=>by
  show([_]:List eP).flatMap I8=uz f (f-f);rw[Nat.sub_self];rfl
 |m+1,f=>by
  by_cases c:f+1<V.dp
  ·have e1:V.aR (m+1) f=V.lrs (f+1) (V.aR m (f+1)):=if_pos c;have e2:V.aO (m+1) f=V.aO m (f+1):=if_pos c;have hg:=V.BQ m (f+1);rw[e1,e2];unfold UV.lrs;rw[List.flatMap_append,List.flatMap_append,List.flatMap_append,List.flatMap_append,UH V m (f+1)];show([]:List Value)++([]++uz (V.aO m (f+1)) (V.aO m (f+1)-(f+1))++[.string (dM sD [jk ((f+1-1:Nat):Int)])])++[]=_;rw[yd8,List.nil_append,List.nil_append,List.append_nil];have hs:=U9 (V.aO m (f+1)-(f+1)) (V.aO m (f+1)) (by omega);rw[show V.aO m (f+1)-(f+1)+1=V.aO m (f+1)-f by omega,show V.aO m (f+1)-1 - (V.aO m (f+1)-(f+1))=f by omega] at hs;rw[hs];rfl
  ·have e1:V.aR (m+1) f=[⟨4,0,(f:Int),V.ln f,qP 56⟩]:=if_neg c;have e2:V.aO (m+1) f=f:=if_neg c;rw[e1,e2,Nat.sub_self];rfl
theorem UV.BR(V:UV):∀m f,f<V.dp->V.aO m f=min (f+m) (V.dp-1)
 |0,f,h=>by show f=_;omega
 |m+1,f,h=>by
  by_cases c:f+1<V.dp
  ·rw[show V.aO (m+1) f=V.aO m (f+1) from if_pos c,V.BR m (f+1) c];omega
  ·rw[show V.aO (m+1) f=f from if_neg c];omega
theorem UV.BU(V:UV):∀m f,f<V.dp->(V.aK m f).hd=if f+m<V.dp then dP else jG
 |0,f,h=>by
  rw[if_pos (by omega)];rfl
 |m+1,f,h=>by
  by_cases c:f+1<V.dp
  ·rw[show V.aK (m+1) f=V.aK m (f+1) from if_pos c,V.BU m (f+1) c,show f+1 + m=f+(m+1) by omega]
  ·rw[show V.aK (m+1) f=J8 8 56 (V.ln f) from if_neg c,if_neg (by omega)];rfl
theorem ym3(j:Nat):oJ j≠32:=fun e=>by
 unfold oJ at e;have h1:=congrArg UInt8.toNat e;rw[UInt8.toNat_ofNat'] at h1;replace h1:(48+(j:Int)%10).toNat%256=32:=h1;omega
theorem NI:∀(k j:Nat) (o:List UInt8),o.count 32=0->(jU k j o).count 32=0
 |0,_,o,h=>h
 |k+1,j,o,h=>by
  have hc:(oJ j :: o).count 32=0:=by
   rw[List.count_cons,h];have:=ym3 j;simp[this]
  show(if j / 10=0 then oJ j :: o else jU k (j / 10) (oJ j :: o)).count 32=0;split
  ·exact hc
  ·exact NI k _ _ hc
theorem yf9(n:Int):(bI n).count 32=0:=by
 unfold bI;split
 ·rw[List.count_cons,NI _ _ _ rfl];rfl
 ·exact NI _ _ _ rfl
theorem yo2(V:UV)(i:Nat):(V.tf i).data.toList.count 32=0:=by
 have h1:(V.tf i).data.toList=(ni (V.nm i)).data.toList++[58]++bI (V.ln i):=by
  unfold UV.tf lJ.text;simp[ByteArray.data_append,bA]
 have h2:(ni (V.nm i)).data.toList.count 32=0:=by
  have q:∀s:ByteArray,s.data.toList.count 32=0->(ni s).data.toList.count 32=0:=fun s h=>by
   unfold ni;split
   ·decide
   ·exact h
  unfold UV.nm;split
  ·exact q _ (by decide)
  ·exact q _ (by decide)
 rw[h1,List.count_append,List.count_append,h2,yf9];rfl
theorem TW:∀(r:List (List UInt8)),(∀x∈r,x.count 32=0)->(Lib.joinTail [32] r).count 32=r.length
 |[],_=>rfl
 |x :: r,h=>by
  have ih:=TW r fun y hy=>h y (List.mem_cons_of_mem _ hy);have e:Lib.joinTail [32] (x :: r)=([32]++x)++Lib.joinTail [32] r:=by simp[Lib.joinTail]
  rw[e,List.count_append,List.count_append,ih,h x (List.mem_cons_self ..)];simp;omega
theorem yo1(V:UV)(n:Nat)(hn:0<n):(kY V.tf n).data.toList.count 32=n-1:=by
 have e:(kY V.tf n).data.toList=Lib.join (((jD n n).map V.tf).map (·.data.toList)) [32]:=by simp[kY]
 have hl:(((jD n n).map V.tf).map (·.data.toList)).length=n:=by rw[List.length_map,List.length_map,He]
 have ha:∀x∈((jD n n).map V.tf).map (·.data.toList),x.count 32=0:=fun x hx=>by
  obtain⟨y,hy,rfl⟩:=List.mem_map.1 hx;obtain⟨i,_,rfl⟩:=List.mem_map.1 hy;exact yo2 V i
 rw[e];generalize ((jD n n).map V.tf).map (·.data.toList)=L at *
 cases L with
 |nil=>simp at hl;omega
 |cons x r=>
  rw[Lib.join_cons,List.count_append,TW r fun y hy=>ha y (List.mem_cons_of_mem _ hy),ha x (List.mem_cons_self ..)];simp at hl;omega
structure UU(o:Nat)(H T:ByteArray):Prop where
 s:T.data.toList.count 32=o+1
 h:T.extract 0 H.size=H
 l:H.size<T.size
 b:T.size<=4000
theorem ZM{n dp:Nat}{l:List eP}(h:QU n dp l)(hd:1<=dp)(hn:n<=40):l.length<=400/\∃T,UU (min n (dp-1)) (if min n (dp-1)<n then jG else dP) T/\jv (fun i=>l.getD i zo) l.length=uz (min n (dp-1)) (min n (dp-1))++[.string T]:=by
 obtain⟨V,M,XK,XL,rfl⟩:=h;have hO:V.aO V.n 0=min n (dp-1):=by rw[V.BR V.n 0 (by omega),XK,XL,Nat.zero_add]
 have hK:(V.aK V.n 0).hd=if min n (dp-1)<n then jG else dP:=by
  rw[V.BU V.n 0 (by omega),XK,XL];by_cases c:n<dp
  ·rw[if_pos (by omega),if_neg (by omega)]
  ·rw[if_neg (by omega),if_pos (by omega)]
 refine⟨?_,dM pW [(V.aK V.n 0).v,fE (kY V.tf (V.aO V.n 0+1))],?_,?_⟩
 ·have:=V.oL V.n 0;unfold UV.mR;simp;omega
 ·have hT:=V5 (V.aK V.n 0) (kY V.tf (V.aO V.n 0+1));have hz:=V.sF (V.aO V.n 0+1) (by omega);have hp:=yo1 V (V.aO V.n 0+1) (by omega);rw[hO] at hT hz hp ⊢;rw[hT,hK];generalize kY V.tf (min n (dp-1)+1)=tr at *;have sp:(if min n (dp-1)<n then jG else dP).data.toList.count 32=0:=by split<;>decide
  have sz:(if min n (dp-1)<n then jG else dP).size<=5:=by split<;>decide
  generalize (if min n (dp-1)<n then jG else dP)=H at *;have hs:(H++⟨#[32]⟩++tr).size=H.size+1 + tr.size:=by rw[AV,AV];rfl
  refine⟨?_,?_,by omega,by omega⟩
  ·have e:(H++⟨#[32]⟩++tr).data.toList=H.data.toList++[32]++tr.data.toList:=by simp[ByteArray.data_append]
   rw[e,List.count_append,List.count_append,sp,hp];simp;omega
  ·apply ByteArray.ext;rw[ByteArray.data_extract];have e:(H++⟨#[32]⟩++tr).data=H.data++(#[32]++tr.data):=by simp only[ByteArray.data_append,Array.append_assoc]
   rw[e,show H.size=H.data.size from rfl,Array.extract_append_left,Array.extract_size]
 ·rw[yd5];unfold UV.mR;rw[List.flatMap_append,List.flatMap_append,UH,hO,Nat.sub_zero];rfl
end
section
open Go.RowKit
attribute [local go_sem] aN
attribute [local go_sem ↓] Go.wp_at_zero Go.wp_at_succ
theorem y39{u:World}{N:Nat}{a:Option Addr}{c m:Nat}{xs:List Value}(h:u.ownsRow N 9 1 (.slice a m c) m xs)(hm:1<=m):∃g,a=some ⟨g,0,none⟩/\g<u.heap.size/\∀(i:Nat) (v:Value),xs[i]?=some v->u.cell? ⟨g,i,none⟩=some v:=by
 rcases h.2 with⟨_,e⟩|⟨g,c',cur,e,h1,h2,h3,_⟩
 ·omega
 ·have e1:a=some ⟨g,0,none⟩:=by injection e
  refine⟨g,e1,(Array.getElem?_eq_some_iff.1 h2).1,fun i v hi=>?_⟩;have hc:=h.cells (g:=g) (by rw[e1];rfl) i v hi
  cases i<;>simpa[Addr.add] using hc
theorem zo1(T:ByteArray)(k:Nat)(hk:k<T.size):(T.data.toList.take (k+1)).count 32=if(((T[k]'hk).toNat:Int)==32)=true then(T.data.toList.take k).count 32+1 else(T.data.toList.take k).count 32:=by
 have hl:k<T.data.toList.length:=by rw[Array.length_toList];exact hk
 have e:T.data.toList[k]?=some (T[k]'hk):=by rw[List.getElem?_eq_getElem hl];rfl
 rw[List.take_add_one,e,List.count_append];generalize T[k]'hk=x;by_cases c:x=32
 ·subst c;rfl
 ·have hn:¬((x.toNat:Int)==32)=true:=fun h=>c (by
   have h0:(x.toNat:Int)=32:=by simpa using h
   have h1:x.toNat=32:=by omega
   exact UInt8.toNat_inj.1 h1)
  rw[if_neg hn];simp[c]
theorem qn4(a:Option Addr)(len cap:Nat)(zs:List Int)(w:World)(hR:KJ w a len cap zs)(hT:eU w)(Y2:kJ w):Calls Tryz.prog 3 #[.slice a len cap] w fun e w'=>e=.returned (.bool true)/\ah w w':=by
 have HR:Hid (KJ w a len cap zs):=hR;have HT:Hid (eU w):=hT;have Ah:Hid (kJ w):=Y2;clear hR hT Y2;by_cases hl:1048576<len
 ·go_in;go_wp2_with fail;go_ret;exact⟨rfl,Below.refl _ _⟩
 ·go_in;go_wp2_with fail;refine(WT a len cap zs 0 _ HR.out (by omega) (by omega) (by omega)).mono ?_;rintro e w1 ⟨⟨v0,h01,h02,rfl⟩,rfl⟩;go_wp2_with fail;refine(WT a len cap zs 1 _ HR.out (by omega) (by omega) (by omega)).mono ?_;rintro e w1 ⟨⟨v1,h11,h12,rfl⟩,rfl⟩;go_wp2_with fail;obtain⟨n,hn⟩:∃n:Nat,1+v0%40=(n:Int):=⟨(1+v0%40).toNat,by omega⟩;obtain⟨dp,hdp⟩:∃dp:Nat,1+v1%60=(dp:Int):=⟨(1+v1%60).toNat,by omega⟩;rw[hn,hdp];have n1:1<=n:=by omega
  have n2:n<=40:=by omega
  have d1:1<=dp:=by omega
  have d2:dp<=60:=by omega
  have hd1:decide (1048576<(len:Int))=false:=by simp;omega
  rw[hd1];clear hn hdp h01 h02 h11 h12 hd1;generalize v0%40=z0;generalize v1%60=z1;refine(qn2 n _ n1 n2).mono ?_;rintro e w2 ⟨ub,uc,fn,fas,rfl,hfn,hcap,hS,hb2⟩;have H2:Hid (dS ⟨n+1,only n fn⟩ ub 0 fas n dp w2/\ah w1 w2):=⟨ZT n1 n2 d1 d2 hfn hcap hS (eU.keep HT.out hb2 (Nat.le_refl _)) (kJ.keep Ah.out hb2 (Nat.le_refl _)),hb2⟩;clear hfn hcap hS hb2;go_wp2_with fail;refine(zs2 ⟨n+1,only n fn⟩ ub 0 uc fas n dp _ H2.1).mono ?_;rintro e w3 ⟨l,ti,md,ra,rc,hq,rfl,hr,hb3⟩;obtain⟨hll,T,QO,hp⟩:=ZM hq d1 n2;obtain⟨o,ho⟩:∃o,min n (dp-1)=o:=⟨_,rfl⟩;obtain⟨ln,hln⟩:∃ln,l.length=ln:=⟨_,rfl⟩;have H3:Hid (fD 0 w3 ra ln (fun i=>l.getD i zo)/\ah w1 w3):=⟨by rw[<-hln];exact hr,aH H2.2 hb3⟩;rw[hln] at hp hll;rw[hln];rw[ho] at hp QO;have Et:Hid (UU o (if o<n then jG else dP) T):=QO;have HO:Hid (min n (dp-1)=o):=ho;clear hr hb3 hq hln H2 QO ho;obtain⟨y,hy⟩:∃y:Int,(dp:Int)-1=y:=⟨_,rfl⟩;have hwy:IntKind.i64.wrap ((dp:Int)-1)=y:=by rw[hy];exact Dt (by omega) (by omega)
  have HY:Hid ((dp:Int)-1=y):=hy;clear hy
  go_upto_if 33 with fail
  obtain⟨w4,hw4⟩:∃w4,w3.alloc (.cells #[.int .i64 0,.slice ra ln rc,.slice none 0 0,.string ⟨#[]⟩,.string ⟨#[]⟩,.int .i64 ti,.int .i64 md] 27)=w4:=⟨_,rfl⟩;rw[hw4];have H4:Hid (fD 0 w4 ra ln (fun i=>l.getD i zo)/\ah w1 w4/\Has w4 w3.heap.size #[.int .i64 0,.slice ra ln rc,.slice none 0 0,.string ⟨#[]⟩,.string ⟨#[]⟩,.int .i64 ti,.int .i64 md]):=by
   rw[<-hw4];exact⟨aP.alloc H3.1 _,H3.2.alloc H3.2.size _,Has.new _ _ _⟩
  obtain⟨B5,MR⟩:∃B5,w3.heap.size=B5:=⟨_,rfl⟩;rw[MR] at H4 ⊢;clear hw4 MR H3
  go_cut [6] from 30 to 35 (fun s6 wc=>s6=.int .i64 (o:Int)/\wc=w4)
  case first=>
   by_cases hc:y<(n:Int)
   ·go_wp2_with fail
    go_meet
    refine⟨?_,rfl⟩;have h1:=HO.out;have h2:=HY.out;congr 1;omega
   ·go_wp2_with fail
    go_meet
    refine⟨?_,rfl⟩;have h1:=HO.out;have h2:=HY.out;congr 1;omega
  case rest=>
   obtain⟨rfl,rfl⟩:=hcut;have ho1:o<=40:=by have:=HO.out;omega
   clear HO HY hwy d1 d2;have hO4:=H4.2.2;have r0:=hO4.cell 0 rfl;have r1:=hO4.cell 1 rfl;have r2:=hO4.cell 2 rfl;have r3:=hO4.cell 3 rfl;have r4:=hO4.cell 4 rfl;have r5:=hO4.cell 5 rfl;have r6:=hO4.cell 6 rfl;have rl:=hO4.1;clear hO4;go_wp2_with fail;refine(qz1 0 ra ln rc none 0 0 ⟨#[]⟩ ⟨#[]⟩ ti md (fun i=>l.getD i zo) _ (by omega) H4.1).mono ?_;rintro e w5 ⟨⟨oa,oc,rfl,ho⟩,hb5⟩;have hpl:(jv (fun i=>l.getD i zo) ln).length=o+1:=by rw[hp,List.length_append,Gt];rfl
   rw[hpl] at ho;rw[hpl];obtain⟨g,rfl,hg,hcells⟩:=y39 ho (by omega);rw[hp] at hcells;have H5:Hid (ah w1 w5/\(∀i:Nat,i<o->w5.cell? ⟨g,i,none⟩=some (.string (bA (bI ((o-1 - i:Nat):Int)))))/\w5.cell? ⟨g,o,none⟩=some (.string T)/\g<w5.heap.size):=⟨aH H4.2.1 hb5,fun i hi=>hcells i _ (by rw[List.getElem?_append_left (by rw[Gt];exact hi)];exact TB o o i hi),hcells o _ (by rw[List.getElem?_append_right (by rw[Gt];exact Nat.le_refl _),Gt,Nat.sub_self];rfl),hg⟩;have QM:=H4.2.2.call hb5;have q0:=QM.cell 0 rfl;have ql:=QM.1;have hw1:IntKind.i64.wrap ((o:Int)+1)=(o:Int)+1:=Dt (by omega) (by omega);clear ho hp hpl hcells hb5 QM H4 r0 r1 r2 r3 r4 r5 r6 rl hg;go_wp2_with fail
   go_loopw [8] (fun v8 wr=>∃i:Nat,i<=o/\v8=.int .i64 (i:Int)/\Hid (ah w5 wr)) (fun v8 _=>o-(intOf v8).toNat)
   case atStart=>exact⟨0,Nat.zero_le _,rfl,Below.refl _ _⟩
   case round=>
    obtain⟨i,hi,rfl,HL⟩:=hrel;by_cases hik:i<o
    ·obtain⟨ts,hts⟩:∃ts,bA (bI ((o-1 - i:Nat):Int))=ts:=⟨_,rfl⟩;have kH:Hid (∀u,ah wr u->u.cell? ⟨g,i,none⟩=some (.string ts)):=fun u hu=>by
      rw[<-hts,<-H5.2.1 i hik];exact(aH HL hu).cell (p:=⟨g,i,none⟩) H5.2.2.2
     obtain⟨y2,hy2⟩:∃y2:Int,(o:Int)-1 - (i:Int)=y2:=⟨_,rfl⟩;have Yp:Hid (∀u,Calls Tryz.prog 8 #[.int .i64 y2] u fun e u'=>e=.returned (.string ts)/\ah u u'):=fun u=>by
      rw[<-hts,show((o-1 - i:Nat):Int)=y2 by omega];exact zb0 _ u (by omega) (by omega)
     have HB:Hid (ah wr wr.drew):=(Below.refl _ _).drew;obtain⟨y1,hy1⟩:∃y1:Int,(o:Int)-1=y1:=⟨_,rfl⟩;have hw2:IntKind.i64.wrap ((o:Int)-1)=y1:=by rw[hy1];exact Dt (by omega) (by omega)
     have hw3:IntKind.i64.wrap (y1-(i:Int))=y2:=by rw[<-hy1,hy2];exact Dt (by omega) (by omega)
     have hj0:(0:Int)<=(i:Int):=by omega
     have hj1:(i:Int)<(o:Int)+1:=by omega
     clear hts hy1 hy2
     go_upto_region 15 with fail
     go_region_held3 (fun u=>u.cell? ⟨g,i,none⟩=some (.string ts)) (first|exact kH.out _ HB1.out|exact kH.out _ HB.out)
      (first|(go_at_call 8;refine(Yp _).mono ?_;rintro e w6 ⟨rfl,hb6⟩;have HB1:Hid (ah wr w6):=aH HB.out hb6;clear hb6))
     have H6:Hid (ah w5 w6):=aH HL.out HB1.out;clear HB HB1 kH Yp HL hw2 hw3 hj0 hj1;try clear hHeld
     go_wp2_with fail;go_roundw
     case rel=>exact⟨i+1,by omega,by go_num,H6⟩
     case measure=>simp[intOf];omega
    ·obtain rfl:i=o:=by omega
     have ht:=(HL.cell (p:=⟨g,i,none⟩) H5.2.2.2).trans H5.2.2.1;have hgl:=Nat.lt_of_lt_of_le H5.2.2.2 HL.size;have H7:Hid (ah w1 wr):=aH H5.1 HL.out;have hj1:(i:Int)<(i:Int)+1:=by omega
     clear H5 HL q0 ql hik
     go_upto_if 69 with fail
     obtain⟨H,hH⟩:∃H,(if i<n then jG else dP)=H:=⟨_,rfl⟩;rw[hH] at Et;have YI:Hid ((if i<n then jG else dP)=H):=hH;clear hH
     go_cut [10] from 67 to 69 (fun s10 wc=>s10=.string H/\wc=wr)
     case first=>
      by_cases hc:(i:Int)<(n:Int)
      ·go_wp2_with fail
       go_meet
       refine⟨?_,rfl⟩;rw[<-YI.out,if_pos (by omega)]
      ·go_wp2_with fail
       go_meet
       refine⟨?_,rfl⟩;rw[<-YI.out,if_neg (by omega)]
     case rest=>
      obtain⟨rfl,rfl⟩:=hcut;have hTs:=Et.b;go_wp2_with fail
      rename World=>wz
      go_loopw [11,12] (fun v11 v12 wr=>∃k c:Nat,k<=T.size/\v11=.int .i64 (c:Int)/\v12=.int .i64 (k:Int)/\Hid ((T.data.toList.take k).count 32=c)/\wr=wz) (fun _ v12 _=>T.size-(intOf v12).toNat)
      case atStart=>exact⟨0,0,Nat.zero_le _,rfl,rfl,rfl,rfl⟩
      case round=>
       obtain⟨k,c,hk,rfl,rfl,HC,rfl⟩:=hrel;have hck:c<=k:=by
        rw[<-HC.out];exact Nat.le_trans (List.count_le_length ..) (by rw[List.length_take];exact Nat.min_le_left ..)
       by_cases hkt:(k:Int)<(T.size:Int)
       ·have hk0:(0:Int)<=(k:Int):=by omega
        have hkn:k<T.size:=by omega
        have hst:=zo1 T k hkn;rw[HC.out] at hst;by_cases hb:(((T[k]'hkn).toNat:Int)==32)=true
        ·have hw2:IntKind.i64.wrap ((c:Int)+1)=(c:Int)+1:=Dt (by omega) (by omega);rw[if_pos hb] at hst;have HST:Hid ((T.data.toList.take (k+1)).count 32=c+1):=hst;clear hst;go_wp2_with fail;go_roundw
         case rel=>exact⟨k+1,c+1,by omega,by go_num,by go_num,HST,trivial⟩
         case measure=>simp[intOf];omega
        ·have hb':(((T[k]'hkn).toNat:Int)==32)=false:=by simpa using hb
         rw[if_neg hb] at hst;have HST:Hid ((T.data.toList.take (k+1)).count 32=c):=hst;clear hst hb;go_wp2_with fail;go_roundw
         case rel=>exact⟨k+1,c,by omega,rfl,by go_num,HST,trivial⟩
         case measure=>simp[intOf];omega
       ·obtain rfl:k=T.size:=by omega
        have hcc:=HC.out;rw[show T.data.toList.take T.size=T.data.toList from List.take_of_length_le (by rw[Array.length_toList];exact Nat.le_refl _),Et.s] at hcc;obtain rfl:c=i+1:=hcc.symm;have hex:=Et.h;have hlt:=Et.l;have hle:H.size<=T.size:=by omega
        have DL:(H.size:Int)<(T.size:Int):=by omega
        clear HC;go_wp2_with fail;go_ret;exact⟨rfl,H7⟩
end
end Go.Proofs.YtihnikeikhjndaaGreatDoor
