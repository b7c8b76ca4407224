import Derived.Test.YtaimofjekgnieaaGreatDoorDepA
import Derived.Maps.AppendAt
import Derived.RegionIn
set_option maxRecDepth 100000
set_option maxHeartbeats 16000000
namespace Go.Proofs.YtaimofjekgnieaaGreatDoor
open Go.RowKit Go.Shelf
attribute [local go_sem] q00
attribute [local go_sem] Oper.semAt_some
def depL (nd:Nat->ND):List Nat->Nat->Int:=List.foldl (fun D i=>q44 nd i D (nd i).kn) (fun _=>0)
theorem zm8 (nd:Nat->ND) (l:List Nat) (i:Nat):depL nd (l++[i])=q44 nd i (depL nd l) (nd i).kn:=by unfold depL;rw[List.foldl_append];rfl
theorem zb6 (nd:Nat->ND) (n:Nat):∀ k,depL nd (qb8 n k)=q80 nd n k
 |0=>rfl
 |k+1=>by rw[qk6,zm8,zb6 nd n k];rfl
theorem zb5 {nd:Nat->ND} {n:Nat} (h:∀ i,i<n->(nd i).kn<=200):∀ (l:List (Fin n)) (D:Nat->Int) (N:Int),(∀ x,0<=D x/\D x<=N)->∀ x,0<=List.foldl (fun D i=>q44 nd i D (nd i).kn) D (l.map Fin.val) x/\List.foldl (fun D i=>q44 nd i D (nd i).kn) D (l.map Fin.val) x<=N+l.length*200
 |[],D,N,hD=>fun x=>by have:=hD x;simp;omega
 |i :: l,D,N,hD=>fun x=>by
  have h1:∀ x,0<=q44 nd i.val D (nd i.val).kn x/\q44 nd i.val D (nd i.val).kn x<=N+200:=fun x=>by
   have:=qq5 (nd:=nd) (i:=i.val) hD (nd i.val).kn x
   have h2:=h i.val i.isLt
   omega
  have:=zb5 h l (q44 nd i.val D (nd i.val).kn) (N+200) h1 x
  simp only[List.map_cons,List.foldl_cons,List.length_cons] at this ⊢
  omega
theorem y82 {nd:Nat->ND} {n:Nat} (h:∀ i,i<n->(nd i).kn<=200) (l:List (Fin n)) (x:Nat):0<=depL nd (l.map Fin.val) x/\depL nd (l.map Fin.val) x<=l.length*200:=by
 have:=zb5 h l (fun _=>0) 0 (fun _=>by omega) x
 unfold depL
 omega
abbrev dpW (w:World) (d:FD) (x:FA):World:=(((w.alloc (.cells (fnC d x) 91)).alloc (.cells (madeCells #[.int .i64 0] d.nn) 3)).alloc (.cells #[.slice (some ⟨w.heap.size+1,0,none⟩) d.nn d.nn] 44)).alloc (.cells #[.slice x.na d.nn x.nc] 89)
theorem zi2 (F:Fence) (m:Nat) (h49:F.fn 74) (h95:F.fn 120) (h142:F.fn 155) (hro:F.round=none) (hm:3<=m) (L:Nat) (d:FD) (x:FA) (w:World) (hn:d.nn<=3000) (hK:q79 d.nd d.nn) (hk2:∀ i,i<d.nn->(d.nd i).kn<=200) (hT:FnAt L w d x) :
  CallsIn F m Tryz.prog 74 #[fnV d x] w fun e w'=>(∃ B,e=.returned (.slice (some ⟨B,0,none⟩) d.nn d.nn)/\w.heap.size<=B/\CRow w' B d.nn (q80 d.nd d.nn d.nn))/\Below w.heap.size w w':=by
 have h1:1<=m:=by omega
 have HT:Hid (FnAt L w d x):=hT
 have HK:Hid (q79 d.nd d.nn):=hK
 have HK2:Hid (∀ i,i<d.nn->(d.nd i).kn<=200):=hk2
 clear hT hK hk2
 have hmk:=fun v=>run_make_row' (P:=Tryz.prog) 44 3 (.int .i64 0) 8 Tryz.underlying44 z25 rfl .i64 .i64 d.nn (by omega) (by omega) v
 refine callsIn_of_wp_marks Tryz.func74 rfl h49 ?_ hro
 simp only[Tryz.ntmps74,List.size_toArray,List.length_cons,List.length_nil,Nat.reduceAdd,Nat.reduceSub,Array.replicate_succ,Array.replicate_zero,List.push_toArray,List.append_toArray,List.nil_append,List.cons_append]
 gi_wp2_with (gi_at_call 120;refine (zi6 F (m-1) h95 hro _ _ _ _).mono ?_;rintro e w' ⟨rfl,rfl⟩)
 clear hmk
 have b0:Below w.heap.size w (dpW w d x):=(q39 _ _ _ _).alloc (by simp;omega) _
 have r0:CRow (dpW w d x) (w.heap.size+1) d.nn (depL d.nd []):=by
  have h:=((qo6 (w.alloc (.cells (fnC d x) 91)) (.int .i64 0) 3 (n:=d.nn) rfl).alloc (.cells #[.slice (some ⟨w.heap.size+1,0,none⟩) d.nn d.nn] 44)).alloc (.cells #[.slice x.na d.nn x.nc] 89)
  have h2:World.rowIs (dpW w d x) (w.heap.size+1) 3 d.nn (fun _=>.int .i64 0):=by simpa using h
  exact h2
 have k2:Has (dpW w d x) (w.heap.size+1 + 1) #[.slice (some ⟨w.heap.size+1,0,none⟩) d.nn d.nn]:=by
  have h:=(Has.new ((w.alloc (.cells (fnC d x) 91)).alloc (.cells (madeCells #[.int .i64 0] d.nn) 3)) #[.slice (some ⟨w.heap.size+1,0,none⟩) d.nn d.nn] 44).alloc (.cells #[.slice x.na d.nn x.nc] 89)
  simpa using h
 have k3:(dpW w d x).cell? ⟨w.heap.size+1 + 1+1,0,none⟩=some (.slice x.na d.nn x.nc):=by simp[go_sem]
 have hsz:(dpW w d x).heap.size=w.heap.size+4:=by simp
 obtain ⟨W0,hW0⟩:∃ W0,dpW w d x=W0:=⟨_,rfl⟩
 rw[hW0] at b0 r0 k2 k3 hsz
 simp only[dpW] at hW0
 rw[hW0]
 clear hW0
 have HT0:Hid (FnAt L W0 d x):=HT.out.below b0
 have hfar:∀ b off,0<d.nn->x.na=some ⟨b,off,none⟩->b<w.heap.size:=fun b off h e=>by
  obtain ⟨b',off',e',_,h1,_⟩:=HT.out.2.2.1 h
  rw[e] at e'
  cases e'
  exact h1
 refine wpIn_rangeFunc_ownH hro h1 (gf:=155) (lb:=#[.pointer (some ⟨w.heap.size+1 + 1+1,0,none⟩)]) rfl h142 (enters_of Tryz.func155 (by kernel_rfl) rfl)
  (qu9 F (m-1) h142 hro (by omega) (w.heap.size+1 + 1+1) (w.heap.size+1) x.na d.nn x.nc d.nd x.nas hn W0 (by omega) (by omega) (fun b off h e=>by have:=hfar b off h e;omega) k3 (RowN.less HT0.out.2.2.1 (Nat.zero_le _))) KN.trans (fun W l o o' hl _ _ _=>⟨by simp,fun k hk _=>World.putObj_heap_other (fun e=>by omega)⟩) (Below.refl _ _) (fun _=>rfl)
  (fun pre W=>CRow W (w.heap.size+1) d.nn (depL d.nd (pre.map Fin.val))/\W0.grownBy W (some (w.heap.size+1)))
  (fun _ _ _=>False)
  (fun s W W' row hs hg hr=>⟨World.rowIs.of_block hs.1 (hg.block _ (World.rowIs.lt hs.1) (fun e=>by have:=(hr _ e.symm).1;omega)),⟨hg.os.trans hs.2.os,hg.tape.trans hs.2.tape,hg.output.trans hs.2.output,Nat.le_trans hs.2.size hg.size,fun k hk hne=>(hg.block k (Nat.lt_of_lt_of_le hk hs.2.size) (fun e=>by have:=(hr _ e.symm).1;omega)).trans (hs.2.block k hk hne)⟩⟩)
  (fun c s W W' row hs hg hr=>hs)
  ⟨r0,⟨rfl,rfl,rfl,Nat.le_refl _,fun _ _ _=>rfl⟩⟩
  (fun i a' W=>∃ Bx,W0.heap.size<=Bx/\(∀ o,W.cell? ⟨Bx,o,none⟩=(q24 (d.nd i.val) (x.nas i.val))[o]?)/\a'={tmps:=#[fnV d x,.pointer (some ⟨w.heap.size,0,none⟩),.slice none 0 0,.pointer (some ⟨w.heap.size+1 + 1,0,none⟩),.int .i64 (i.val:Int),.pointer (some ⟨Bx,0,none⟩),undef,undef,.pointer (some ⟨w.heap.size,6,none⟩),.slice x.na d.nn x.nc,.int .i64 (d.nn:Int),.slice (some ⟨w.heap.size+1,0,none⟩) d.nn d.nn,.pointer (some ⟨w.heap.size,6,none⟩),.slice x.na d.nn x.nc,.func (.func 155) #[] #[.pointer (some ⟨w.heap.size+1 + 1+1,0,none⟩)],.int .i64 (i.val:Int),q40 (d.nd i.val) (x.nas i.val),undef,undef,undef,undef,undef,undef,undef,undef,undef,undef,undef,undef,undef,undef,undef,undef,undef],defers:=[]})
  (fun i a' _ X' Y row hs hg hr=>by
   obtain ⟨Bx,h1,h2,h3⟩:=hs
   refine ⟨Bx,h1,fun o=>?_,h3⟩
   have h0:X'.cell? ⟨Bx,0,none⟩=some (.int .i64 (d.nd i.val).k):=h2 0
   obtain ⟨ob,ho,hc⟩:=cells_of_cell h0
   exact (World.cell?_of_block (w:=X') (w':=Y) (a:=⟨Bx,o,none⟩) (grownBy_keeps_cells hg (fun r e=>(hr r e).2) ho hc)).trans (h2 o))
  ?assign ?body ?done ?stop
 case assign=>
  rintro l pre i W K ⟨hR,hg⟩ hK
  gi_wp2
  exact hK _ _ ((KeepsOthers.alloc _ _).from _) ⟨by simp,fun k hk _=>Below.heap_alloc W _ k (Nat.lt_of_lt_of_le hk hg.size)⟩ ⟨World.rowIs.alloc hR _,hg.trans (World.grownBy_alloc W _ _)⟩ ⟨W.heap.size,hg.size,fun o=>World.cell?_alloc_new _ _ _ o,rfl⟩
 case body=>
  rintro l pre i a' W hl ⟨r,hr⟩ ⟨hR,hg⟩ ⟨Bx,hBx,bX,rfl⟩ hlt
  obtain ⟨iv,hi⟩:=i
  have hrg:=y82 HK2.out pre
  have hr2:∀ j y,j<=(d.nd iv).kn->0<=q44 d.nd iv (depL d.nd (pre.map Fin.val)) j y/\q44 d.nd iv (depL d.nd (pre.map Fin.val)) j y<=700000:=fun j y hj=>by
   have h1:=qq5 (nd:=d.nd) (i:=iv) (N:=pre.length*200) hrg j y
   have h2:=HK2.out iv hi
   omega
  have HR2:Hid (∀ j y,j<=(d.nd iv).kn->0<=q44 d.nd iv (depL d.nd (pre.map Fin.val)) j y/\q44 d.nd iv (depL d.nd (pre.map Fin.val)) j y<=700000):=hr2
  have HR:Hid (CRow W (w.heap.size+1) d.nn (q44 d.nd iv (depL d.nd (pre.map Fin.val)) 0)):=hR
  have HG:Hid (W0.grownBy W (some (w.heap.size+1))):=hg
  have e7:W.cell? ⟨Bx,7,none⟩=some (.slice (x.nas iv).ka (d.nd iv).kn (x.nas iv).kc):=bX 7
  have BX:Hid (∀ o,W.cell? ⟨Bx,o,none⟩=(q24 (d.nd iv) (x.nas iv))[o]?):=bX
  clear bX hR hg hrg hr2
  gi_wp2
  gi_loopw [20] (fun i wr=>∃ j:Nat,j<=(d.nd iv).kn/\i=.int .i64 j/\Hid (CRow wr (w.heap.size+1) d.nn (q44 d.nd iv (depL d.nd (pre.map Fin.val)) j))/\Hid (W0.grownBy wr (some (w.heap.size+1)))/\Hid (KeepsOthers W wr)/\Hid (KN W0.heap.size (w.heap.size+1) W wr)) (fun i _=>(d.nd iv).kn-(intOf i).toNat)
  case atStart=>exact ⟨0,Nat.zero_le _,rfl,HR,HG,KeepsOthers.refl _,KN.refl _ _ _⟩
  case round=>
   clear HR HG e7
   obtain ⟨j,hj,rfl,HR,HG,HO,HN⟩:=hrel
   by_cases hjn:j<(d.nd iv).kn
   ·obtain ⟨b2,o2,e2,_,hb2,g0⟩:=cells1 (HT.out.2.2.2 iv hi).2 hjn
    have hbW:b2<W0.heap.size:=by omega
    have g1:wr.cell? ⟨b2,o2+j,none⟩=some (.int .i64 ((d.nd iv).c j)):=(World.cell?_of_block (a:=⟨b2,o2+j,none⟩) (HG.out.block b2 hbW (fun e=>by have e:=Option.some.inj e;omega))).trans ((b0.cell (p:=⟨b2,o2+j,none⟩) hb2).trans g0)
    rw[e2]
    have hc:=HK.out iv hi j hjn
    obtain ⟨y,hy⟩:∃ y:Nat,(d.nd iv).c j=y:=⟨((d.nd iv).c j).toNat,by omega⟩
    have HY:Hid ((d.nd iv).c j=y):=hy
    rw[hy] at g1 hc
    have hyn:y<d.nn:=by omega
    have r1:=World.rowIs.cell HR.out (i:=iv) hi
    have r2:=World.rowIs.cell HR.out (i:=y) hyn
    have rz:=World.rowIs.frozen HR.out
    have rl:=World.rowIs.lt HR.out
    have hv:=HR2.out j iv hj
    have hkk:=HK2.out iv hi
    have d2:wr.cell? ⟨w.heap.size+1 + 1,0,none⟩=some (.slice (some ⟨w.heap.size+1,0,none⟩) d.nn d.nn):=(World.cell?_of_block (a:=⟨w.heap.size+1 + 1,0,none⟩) (HG.out.block (w.heap.size+1 + 1) (by omega) (fun e=>by have e:=Option.some.inj e;omega))).trans (k2.at 0)
    clear g0 hy e2 hb2
    gi_wp2
    refine wpIn_mono (Q:=fun e a w'=>e=.normal/\a={tmps:=#[fnV d x,.pointer (some ⟨w.heap.size,0,none⟩),.slice none 0 0,.pointer (some ⟨w.heap.size+1 + 1,0,none⟩),.int .i64 (iv:Int),.pointer (some ⟨Bx,0,none⟩),undef,.int .i64 (y:Int),.pointer (some ⟨w.heap.size,6,none⟩),.slice x.na d.nn x.nc,.int .i64 (d.nn:Int),.slice (some ⟨w.heap.size+1,0,none⟩) d.nn d.nn,.pointer (some ⟨w.heap.size,6,none⟩),.slice x.na d.nn x.nc,.func (.func 155) #[] #[.pointer (some ⟨w.heap.size+1 + 1+1,0,none⟩)],.int .i64 (iv:Int),q40 (d.nd iv) (x.nas iv),.pointer (some ⟨Bx,7,none⟩),.slice (some ⟨b2,o2,none⟩) (d.nd iv).kn (x.nas iv).kc,.int .i64 ((d.nd iv).kn:Int),.int .i64 (j:Int),.bool true,.pointer (some ⟨b2,o2+j,none⟩),.int .i64 (y:Int),.slice (some ⟨w.heap.size+1,0,none⟩) d.nn d.nn,.int .i64 (y:Int),.slice (some ⟨w.heap.size+1,0,none⟩) d.nn d.nn,.int .i64 (iv:Int),.pointer (some ⟨w.heap.size+1,iv,none⟩),.int .i64 (q44 d.nd iv (depL d.nd (pre.map Fin.val)) j iv),.int .i64 (IntKind.i64.wrap (q44 d.nd iv (depL d.nd (pre.map Fin.val)) j iv+1)),.pointer (some ⟨w.heap.size+1,y,none⟩),u32,undef],defers:=[]}/\w'=(wr.setCell ⟨w.heap.size+1,y,none⟩ (.int .i64 (IntKind.i64.wrap (q44 d.nd iv (depL d.nd (pre.map Fin.val)) j iv+1)))).drew) ?reg ?go
    case reg=>
     gi_region
     all_goals exact ⟨rfl,rfl,rfl⟩
    case go=>
     rintro e a w' ⟨rfl,rfl,rfl⟩
     have hwr:IntKind.i64.wrap (q44 d.nd iv (depL d.nd (pre.map Fin.val)) j iv+1)=q44 d.nd iv (depL d.nd (pre.map Fin.val)) j iv+1:=by
      simp only[IntKind.wrap_i64]
      omega
     rw[hwr]
     have HN1:Hid (CRow (wr.setCell ⟨w.heap.size+1,y,none⟩ (.int .i64 (q44 d.nd iv (depL d.nd (pre.map Fin.val)) j iv+1))).drew (w.heap.size+1) d.nn (q44 d.nd iv (depL d.nd (pre.map Fin.val)) (j+1))):=(World.rowIs.set HR.out y _).congr fun i _=>by
      show _=Value.int .i64 (if i=((d.nd iv).c j).toNat then q44 d.nd iv (depL d.nd (pre.map Fin.val)) j iv+1 else q44 d.nd iv (depL d.nd (pre.map Fin.val)) j i)
      rw[HY.out,Int.toNat_natCast]
      split<;>rfl
     have HG1:Hid (W0.grownBy (wr.setCell ⟨w.heap.size+1,y,none⟩ (.int .i64 (q44 d.nd iv (depL d.nd (pre.map Fin.val)) j iv+1))).drew (some (w.heap.size+1))):=⟨HG.out.os,HG.out.tape,HG.out.output,by have:=HG.out.size;simpa using this,fun k hk hne=>(Below.heap_setCell wr ⟨w.heap.size+1,y,none⟩ _ k (fun e=>hne (by rw[e]))).trans (HG.out.block k hk hne)⟩
     have HO1:Hid (KeepsOthers W (wr.setCell ⟨w.heap.size+1,y,none⟩ (.int .i64 (q44 d.nd iv (depL d.nd (pre.map Fin.val)) j iv+1))).drew):=(HO.out.trans (KeepsOthers.setCell wr _ _)).trans (KeepsOthers.drew _)
     have HN2:Hid (KN W0.heap.size (w.heap.size+1) W (wr.setCell ⟨w.heap.size+1,y,none⟩ (.int .i64 (q44 d.nd iv (depL d.nd (pre.map Fin.val)) j iv+1))).drew):=HN.out.trans ⟨by simp,fun k hk hne=>Below.heap_setCell wr ⟨w.heap.size+1,y,none⟩ _ k hne⟩
     clear hwr r1 r2 rz g1 d2
     gi_wp2
     go_roundw
     case rel=>exact ⟨j+1,by omega,by go_num,HN1,HG1,HO1,HN2⟩
     case measure=>simp[intOf];omega
   ·obtain rfl:j=(d.nd iv).kn:=by omega
    gi_wp2
    refine ⟨HO.out.from _,HN.out,?_,HG.out⟩
    have h:=HR.out
    rw[<-zm8] at h
    have e:(pre++[(⟨iv,hi⟩:Fin d.nn)]).map Fin.val=pre.map Fin.val++[iv]:=by rw[List.map_append];rfl
    rw[e]
    exact h
 case done=>
  rintro D ys W hD hS ⟨hR,hg⟩ hK
  rw[hS,zb6] at hR
  have HR:Hid (CRow W (w.heap.size+1) d.nn (q80 d.nd d.nn d.nn)):=hR
  have d2:W.cell? ⟨w.heap.size+1 + 1,0,none⟩=some (.slice (some ⟨w.heap.size+1,0,none⟩) d.nn d.nn):=(World.cell?_of_block (a:=⟨w.heap.size+1 + 1,0,none⟩) (hg.block (w.heap.size+1 + 1) (by omega) (fun e=>by have e:=Option.some.inj e;omega))).trans (k2.at 0)
  have hBW:Below w.heap.size w W:=b0.trans ⟨hg.os,hg.tape,hg.output,hg.size,fun k hk=>hg.block k (by omega) (fun e=>by have e:=Option.some.inj e;omega)⟩
  clear hR hS
  gi_wp2
  refine ⟨by simp,.inl ⟨_,_,rfl,run_takeDeferred hK,?_⟩⟩
  refine ⟨.slice (some ⟨w.heap.size+1,0,none⟩) d.nn d.nn,?_,⟨_,rfl,by omega,?_⟩,hBW.trans (belowK_b (w:=W0) (by omega) _ D _ _ hD hK rfl rfl)⟩
  ·simp[results,Tryz.results74,go_sem]
  ·exact World.rowIs.of_block HR.out (World.putObj_heap_other (fun e=>by omega))
 case stop=>
  rintro D c pre W hD _ h hK
  exact h.elim
theorem yg2:qt3:=fun L d x w hn hK hk2 hT=>callsIn_wide.1 (zi2 Fence.wide 3 trivial trivial trivial rfl (Nat.le_refl _) L d x w hn hK hk2 hT)
end Go.Proofs.YtaimofjekgnieaaGreatDoor
