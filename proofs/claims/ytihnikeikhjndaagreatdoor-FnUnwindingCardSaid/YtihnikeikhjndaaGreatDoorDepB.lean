import Derived.Test.YtihnikeikhjndaaGreatDoorDepA
import Derived.Maps.AppendAt
set_option maxRecDepth 100000
set_option maxHeartbeats 16000000
namespace Go.Proofs.YtihnikeikhjndaaGreatDoor
section
open Go.RowKit Go.Shelf
attribute [local go_sem] aN
attribute [local go_sem] Oper.semAt_some
def dY(nd:Nat->ND):List Nat->Nat->Int:=List.foldl (fun D i=>gy nd i D (nd i).kn) (fun _=>0)
theorem U8(nd:Nat->ND)(l:List Nat)(i:Nat):dY nd (l++[i])=gy nd i (dY nd l) (nd i).kn:=by unfold dY;rw[List.foldl_append];rfl
theorem UM(nd:Nat->ND)(n:Nat):∀k,dY nd (jD n k)=pG nd n k
 |0=>rfl
 |k+1=>by rw[Pn,U8,UM nd n k];rfl
theorem z93{nd:Nat->ND}{n:Nat}(h:∀i,i<n->(nd i).kn<=200):∀(l:List (Fin n)) (D:Nat->Int) (N:Int),(∀x,0<=D x/\D x<=N)->∀x,0<=List.foldl (fun D i=>gy nd i D (nd i).kn) D (l.map Fin.val) x/\List.foldl (fun D i=>gy nd i D (nd i).kn) D (l.map Fin.val) x<=N+l.length*200
 |[],D,N,hD=>fun x=>by have:=hD x;simp;omega
 |i :: l,D,N,hD=>fun x=>by
  have h1:∀x,0<=gy nd i.val D (nd i.val).kn x/\gy nd i.val D (nd i.val).kn x<=N+200:=fun x=>by
   have:=P7 (nd:=nd) (i:=i.val) hD (nd i.val).kn x;have h2:=h i.val i.isLt;omega
  have:=z93 h l (gy nd i.val D (nd i.val).kn) (N+200) h1 x;simp only[List.map_cons,List.foldl_cons,List.length_cons] at this ⊢;omega
theorem y68{nd:Nat->ND}{n:Nat}(h:∀i,i<n->(nd i).kn<=200)(l:List (Fin n))(x:Nat):0<=dY nd (l.map Fin.val) x/\dY nd (l.map Fin.val) x<=l.length*200:=by
 have:=z93 h l (fun _=>0) 0 (fun _=>by omega) x;unfold dY;omega
abbrev BN(w:World)(d:FD)(x:FA):World:=(((w.alloc (.cells (jO d x) 87)).alloc (.cells (madeCells #[.int .i64 0] d.nn) 3)).alloc (.cells #[.slice (some ⟨w.heap.size+1,0,none⟩) d.nn d.nn] 45)).alloc (.cells #[.slice x.na d.nn x.nc] 85)
theorem ze6(F:Fence)(m:Nat)(h49:F.fn 80)(h95:F.fn 127)(J3:F.fn 162)(hro:F.round=none)(hm:3<=m)(L:Nat)(d:FD)(x:FA)(w:World)(hn:d.nn<=3000)(hK:og d.nd d.nn)(hk2:∀i,i<d.nn->(d.nd i).kn<=200)(hT:ig L w d x):CallsIn F m Tryz.prog 80 #[Fb d x] w fun e w'=>(∃B,e=.returned (.slice (some ⟨B,0,none⟩) d.nn d.nn)/\w.heap.size<=B/\eX w' B d.nn (pG d.nd d.nn d.nn))/\ah w w':=by
 have h1:1<=m:=by omega
 have HT:Hid (ig L w d x):=hT;have HK:Hid (og d.nd d.nn):=hK;have iY:Hid (∀i,i<d.nn->(d.nd i).kn<=200):=hk2;clear hT hK hk2;have hmk:=fun v=>run_make_row' (P:=Tryz.prog) 45 3 (.int .i64 0) 8 Tryz.underlying45 z17 rfl .i64 .i64 d.nn (by omega) (by omega) v;refine callsIn_of_wp_marks Tryz.func80 rfl h49 ?_ hro;simp only[Tryz.ntmps80,List.size_toArray,List.length_cons,List.length_nil,Nat.reduceAdd,Nat.reduceSub,Array.replicate_succ,Array.replicate_zero,List.push_toArray,List.append_toArray,List.nil_append,List.cons_append];gi_wp2_with (gi_at_call 127;refine(zf3 F (m-1) h95 hro _ _ _ _).mono ?_;rintro e w' ⟨rfl,rfl⟩);clear hmk;have b0:ah w (BN w d x):=(yG _ _ _ _).alloc (by simp;omega) _;have r0:eX (BN w d x) (w.heap.size+1) d.nn (dY d.nd []):=by
  have h:=((GH (w.alloc (.cells (jO d x) 87)) (.int .i64 0) 3 (n:=d.nn) rfl).alloc (.cells #[.slice (some ⟨w.heap.size+1,0,none⟩) d.nn d.nn] 45)).alloc (.cells #[.slice x.na d.nn x.nc] 85);have h2:World.rowIs (BN w d x) (w.heap.size+1) 3 d.nn (fun _=>.int .i64 0):=by simpa using h
  exact h2
 have k2:Has (BN w d x) (w.heap.size+1 + 1) #[.slice (some ⟨w.heap.size+1,0,none⟩) d.nn d.nn]:=by
  have h:=(Has.new ((w.alloc (.cells (jO d x) 87)).alloc (.cells (madeCells #[.int .i64 0] d.nn) 3)) #[.slice (some ⟨w.heap.size+1,0,none⟩) d.nn d.nn] 45).alloc (.cells #[.slice x.na d.nn x.nc] 85);simpa using h
 have k3:(BN w d x).cell? ⟨w.heap.size+1 + 1+1,0,none⟩=some (.slice x.na d.nn x.nc):=by simp[go_sem]
 have hsz:(BN w d x).heap.size=w.heap.size+4:=by simp
 obtain⟨W0,hW0⟩:∃W0,BN w d x=W0:=⟨_,rfl⟩;rw[hW0] at b0 r0 k2 k3 hsz;simp only[BN] at hW0;rw[hW0];clear hW0;have HT0:Hid (ig L W0 d x):=HT.below b0;have QA:∀b off,0<d.nn->x.na=some ⟨b,off,none⟩->b<w.heap.size:=fun b off h e=>by
  obtain⟨b',off',e',_,h1,_⟩:=HT.2.2.1 h;rw[e] at e'
  cases e';exact h1
 refine wpIn_rangeFunc_ownH hro h1 (gf:=162) (lb:=#[.pointer (some ⟨w.heap.size+1 + 1+1,0,none⟩)]) rfl J3 (enters_of Tryz.func162 (by kernel_rfl) rfl)
  (qv9 F (m-1) J3 hro (by omega) (w.heap.size+1 + 1+1) (w.heap.size+1) x.na d.nn x.nc d.nd x.nas hn W0 (by omega) (by omega) (fun b off h e=>by have:=QA b off h e;omega) k3 (aP.less HT0.2.2.1 (Nat.zero_le _))) KN.trans (fun W l o o' hl _ _ _=>⟨by simp,fun k hk _=>World.putObj_heap_other (fun e=>by omega)⟩) (Below.refl _ _) (fun _=>rfl)
  (fun pre W=>eX W (w.heap.size+1) d.nn (dY d.nd (pre.map Fin.val))/\W0.grownBy W (some (w.heap.size+1)))
  (fun _ _ _=>False)
  (fun s W W' row hs hg hr=>⟨World.rowIs.of_block hs.1 (hg.block _ (World.rowIs.lt hs.1) (fun e=>by have:=(hr _ e.symm).1;omega)),⟨hg.os.trans hs.2.os,hg.tape.trans hs.2.tape,hg.output.trans hs.2.output,Nat.le_trans hs.2.size hg.size,fun k hk hne=>(hg.block k (Nat.lt_of_lt_of_le hk hs.2.size) (fun e=>by have:=(hr _ e.symm).1;omega)).trans (hs.2.block k hk hne)⟩⟩)
  (fun c s W W' row hs hg hr=>hs)
  ⟨r0,⟨rfl,rfl,rfl,Nat.le_refl _,fun _ _ _=>rfl⟩⟩
  (fun i a' W=>∃Bx,W0.heap.size<=Bx/\(∀o,W.cell? ⟨Bx,o,none⟩=(dJ (d.nd i.val) (x.nas i.val))[o]?)/\a'={tmps:=#[Fb d x,.pointer (some ⟨w.heap.size,0,none⟩),.slice none 0 0,.pointer (some ⟨w.heap.size+1 + 1,0,none⟩),.int .i64 (i.val:Int),.pointer (some ⟨Bx,0,none⟩),undef,undef,.pointer (some ⟨w.heap.size,6,none⟩),.slice x.na d.nn x.nc,.int .i64 (d.nn:Int),.slice (some ⟨w.heap.size+1,0,none⟩) d.nn d.nn,.pointer (some ⟨w.heap.size,6,none⟩),.slice x.na d.nn x.nc,.func (.func 162) #[] #[.pointer (some ⟨w.heap.size+1 + 1+1,0,none⟩)],.int .i64 (i.val:Int),eG (d.nd i.val) (x.nas i.val),undef,undef,undef,undef,undef,undef,undef,undef,undef,undef,undef,undef,undef,undef,undef,undef,undef],defers:=[]})
  (fun i a' _ X' Y row hs hg hr=>by
   obtain⟨Bx,h1,h2,h3⟩:=hs;refine⟨Bx,h1,fun o=>?_,h3⟩;have h0:X'.cell? ⟨Bx,0,none⟩=some (.int .i64 (d.nd i.val).k):=h2 0;obtain⟨ob,ho,hc⟩:=cells_of_cell h0;exact(World.cell?_of_block (w:=X') (w':=Y) (a:=⟨Bx,o,none⟩) (grownBy_keeps_cells hg (fun r e=>(hr r e).2) ho hc)).trans (h2 o))
  ?assign ?body ?done ?stop
 case assign=>
  rintro l pre i W K ⟨hR,hg⟩ hK;gi_wp2;exact hK _ _ ((KeepsOthers.alloc _ _).from _) ⟨by simp,fun k hk _=>Below.heap_alloc W _ k (Nat.lt_of_lt_of_le hk hg.size)⟩ ⟨World.rowIs.alloc hR _,hg.trans (World.grownBy_alloc W _ _)⟩ ⟨W.heap.size,hg.size,fun o=>World.cell?_alloc_new _ _ _ o,rfl⟩
 case body=>
  rintro l pre i a' W hl ⟨r,hr⟩ ⟨hR,hg⟩ ⟨Bx,hBx,bX,rfl⟩ hlt;obtain⟨iv,hi⟩:=i;have hrg:=y68 iY.out pre;have hr2:∀j y,j<=(d.nd iv).kn->0<=gy d.nd iv (dY d.nd (pre.map Fin.val)) j y/\gy d.nd iv (dY d.nd (pre.map Fin.val)) j y<=700000:=fun j y hj=>by
   have h1:=P7 (nd:=d.nd) (i:=iv) (N:=pre.length*200) hrg j y;have h2:=iY.out iv hi;omega
  have HR2:Hid (∀j y,j<=(d.nd iv).kn->0<=gy d.nd iv (dY d.nd (pre.map Fin.val)) j y/\gy d.nd iv (dY d.nd (pre.map Fin.val)) j y<=700000):=hr2;have HR:Hid (eX W (w.heap.size+1) d.nn (gy d.nd iv (dY d.nd (pre.map Fin.val)) 0)):=hR;have HG:Hid (W0.grownBy W (some (w.heap.size+1))):=hg;have e7:W.cell? ⟨Bx,7,none⟩=some (.slice (x.nas iv).ka (d.nd iv).kn (x.nas iv).kc):=bX 7;have BX:Hid (∀o,W.cell? ⟨Bx,o,none⟩=(dJ (d.nd iv) (x.nas iv))[o]?):=bX;clear bX hR hg hrg hr2;gi_wp2
  gi_loopw [20] (fun i wr=>∃j:Nat,j<=(d.nd iv).kn/\i=.int .i64 j/\Hid (eX wr (w.heap.size+1) d.nn (gy d.nd iv (dY d.nd (pre.map Fin.val)) j))/\Hid (W0.grownBy wr (some (w.heap.size+1)))/\Hid (KeepsOthers W wr)/\Hid (KN W0.heap.size (w.heap.size+1) W wr)) (fun i _=>(d.nd iv).kn-(intOf i).toNat)
  case atStart=>exact⟨0,Nat.zero_le _,rfl,HR,HG,KeepsOthers.refl _,KN.refl _ _ _⟩
  case round=>
   clear HR HG e7;obtain⟨j,hj,rfl,HR,HG,HO,HN⟩:=hrel;by_cases hjn:j<(d.nd iv).kn
   ·obtain⟨b2,o2,e2,_,hb2,g0⟩:=aX (HT.2.2.2 iv hi).2 hjn;have hbW:b2<W0.heap.size:=by omega
    have g1:wr.cell? ⟨b2,o2+j,none⟩=some (.int .i64 ((d.nd iv).c j)):=(World.cell?_of_block (a:=⟨b2,o2+j,none⟩) (HG.block b2 hbW (fun e=>by have e:=Option.some.inj e;omega))).trans ((b0.cell (p:=⟨b2,o2+j,none⟩) hb2).trans g0);rw[e2];have hc:=HK.out iv hi j hjn;obtain⟨y,hy⟩:∃y:Nat,(d.nd iv).c j=y:=⟨((d.nd iv).c j).toNat,by omega⟩;have HY:Hid ((d.nd iv).c j=y):=hy;rw[hy] at g1 hc;have hyn:y<d.nn:=by omega
    have r1:=World.rowIs.cell HR.out (i:=iv) hi;have r2:=World.rowIs.cell HR.out (i:=y) hyn;have rz:=World.rowIs.frozen HR.out;have rl:=World.rowIs.lt HR.out;have hv:=HR2.out j iv hj;have hkk:=iY.out iv hi;have d2:wr.cell? ⟨w.heap.size+1 + 1,0,none⟩=some (.slice (some ⟨w.heap.size+1,0,none⟩) d.nn d.nn):=(World.cell?_of_block (a:=⟨w.heap.size+1 + 1,0,none⟩) (HG.block (w.heap.size+1 + 1) (by omega) (fun e=>by have e:=Option.some.inj e;omega))).trans (k2.at 0);clear g0 hy e2 hb2;gi_wp2;refine wpIn_mono (Q:=fun e a w'=>e=.normal/\a={tmps:=#[Fb d x,.pointer (some ⟨w.heap.size,0,none⟩),.slice none 0 0,.pointer (some ⟨w.heap.size+1 + 1,0,none⟩),.int .i64 (iv:Int),.pointer (some ⟨Bx,0,none⟩),undef,.int .i64 (y:Int),.pointer (some ⟨w.heap.size,6,none⟩),.slice x.na d.nn x.nc,.int .i64 (d.nn:Int),.slice (some ⟨w.heap.size+1,0,none⟩) d.nn d.nn,.pointer (some ⟨w.heap.size,6,none⟩),.slice x.na d.nn x.nc,.func (.func 162) #[] #[.pointer (some ⟨w.heap.size+1 + 1+1,0,none⟩)],.int .i64 (iv:Int),eG (d.nd iv) (x.nas iv),.pointer (some ⟨Bx,7,none⟩),.slice (some ⟨b2,o2,none⟩) (d.nd iv).kn (x.nas iv).kc,.int .i64 ((d.nd iv).kn:Int),.int .i64 (j:Int),.bool true,.pointer (some ⟨b2,o2+j,none⟩),.int .i64 (y:Int),.slice (some ⟨w.heap.size+1,0,none⟩) d.nn d.nn,.int .i64 (y:Int),.slice (some ⟨w.heap.size+1,0,none⟩) d.nn d.nn,.int .i64 (iv:Int),.pointer (some ⟨w.heap.size+1,iv,none⟩),.int .i64 (gy d.nd iv (dY d.nd (pre.map Fin.val)) j iv),.int .i64 (IntKind.i64.wrap (gy d.nd iv (dY d.nd (pre.map Fin.val)) j iv+1)),.pointer (some ⟨w.heap.size+1,y,none⟩),u32,undef],defers:=[]}/\w'=(wr.setCell ⟨w.heap.size+1,y,none⟩ (.int .i64 (IntKind.i64.wrap (gy d.nd iv (dY d.nd (pre.map Fin.val)) j iv+1)))).drew) ?reg ?go
    case reg=>
     gi_region
     all_goals exact⟨rfl,rfl,rfl⟩
    case go=>
     rintro e a w' ⟨rfl,rfl,rfl⟩;have hwr:IntKind.i64.wrap (gy d.nd iv (dY d.nd (pre.map Fin.val)) j iv+1)=gy d.nd iv (dY d.nd (pre.map Fin.val)) j iv+1:=by
      simp only[IntKind.wrap_i64];omega
     rw[hwr];have jo:Hid (eX (wr.setCell ⟨w.heap.size+1,y,none⟩ (.int .i64 (gy d.nd iv (dY d.nd (pre.map Fin.val)) j iv+1))).drew (w.heap.size+1) d.nn (gy d.nd iv (dY d.nd (pre.map Fin.val)) (j+1))):=(World.rowIs.set HR.out y _).congr fun i _=>by
      show _=Value.int .i64 (if i=((d.nd iv).c j).toNat then gy d.nd iv (dY d.nd (pre.map Fin.val)) j iv+1 else gy d.nd iv (dY d.nd (pre.map Fin.val)) j i);rw[HY.out,Int.toNat_natCast];split<;>rfl
     have SI:Hid (W0.grownBy (wr.setCell ⟨w.heap.size+1,y,none⟩ (.int .i64 (gy d.nd iv (dY d.nd (pre.map Fin.val)) j iv+1))).drew (some (w.heap.size+1))):=⟨HG.os,HG.tape,HG.output,by have:=HG.size;simpa using this,fun k hk hne=>(Below.heap_setCell wr ⟨w.heap.size+1,y,none⟩ _ k (fun e=>hne (by rw[e]))).trans (HG.block k hk hne)⟩;have iI:Hid (KeepsOthers W (wr.setCell ⟨w.heap.size+1,y,none⟩ (.int .i64 (gy d.nd iv (dY d.nd (pre.map Fin.val)) j iv+1))).drew):=(HO.trans (KeepsOthers.setCell wr _ _)).trans (KeepsOthers.drew _);have HN2:Hid (KN W0.heap.size (w.heap.size+1) W (wr.setCell ⟨w.heap.size+1,y,none⟩ (.int .i64 (gy d.nd iv (dY d.nd (pre.map Fin.val)) j iv+1))).drew):=HN.trans ⟨by simp,fun k hk hne=>Below.heap_setCell wr ⟨w.heap.size+1,y,none⟩ _ k hne⟩;clear hwr r1 r2 rz g1 d2;gi_wp2;go_roundw
     case rel=>exact⟨j+1,by omega,by go_num,jo,SI,iI,HN2⟩
     case measure=>simp[intOf];omega
   ·obtain rfl:j=(d.nd iv).kn:=by omega
    gi_wp2;refine⟨HO.from _,HN,?_,HG⟩;have h:=HR.out;rw[<-U8] at h;have e:(pre++[(⟨iv,hi⟩:Fin d.nn)]).map Fin.val=pre.map Fin.val++[iv]:=by rw[List.map_append];rfl
    rw[e];exact h
 case done=>
  rintro D ys W hD hS ⟨hR,hg⟩ hK;rw[hS,UM] at hR;have HR:Hid (eX W (w.heap.size+1) d.nn (pG d.nd d.nn d.nn)):=hR;have d2:W.cell? ⟨w.heap.size+1 + 1,0,none⟩=some (.slice (some ⟨w.heap.size+1,0,none⟩) d.nn d.nn):=(World.cell?_of_block (a:=⟨w.heap.size+1 + 1,0,none⟩) (hg.block (w.heap.size+1 + 1) (by omega) (fun e=>by have e:=Option.some.inj e;omega))).trans (k2.at 0);have hBW:ah w W:=b0.trans ⟨hg.os,hg.tape,hg.output,hg.size,fun k hk=>hg.block k (by omega) (fun e=>by have e:=Option.some.inj e;omega)⟩;clear hR hS;gi_wp2;refine⟨by simp,.inl ⟨_,_,rfl,run_takeDeferred hK,?_⟩⟩;refine⟨.slice (some ⟨w.heap.size+1,0,none⟩) d.nn d.nn,?_,⟨_,rfl,by omega,?_⟩,hBW.trans (belowK_b (w:=W0) (by omega) _ D _ _ hD hK rfl rfl)⟩
  ·simp[results,Tryz.results80,go_sem]
  ·exact World.rowIs.of_block HR.out (World.putObj_heap_other (fun e=>by omega))
 case stop=>
  rintro D c pre W hD _ h hK;exact h.elim
theorem yf6:Gs:=fun L d x w hn hK hk2 hT=>callsIn_wide.1 (ze6 Fence.wide 3 trivial trivial trivial rfl (Nat.le_refl _) L d x w hn hK hk2 hT)
end
end Go.Proofs.YtihnikeikhjndaaGreatDoor
