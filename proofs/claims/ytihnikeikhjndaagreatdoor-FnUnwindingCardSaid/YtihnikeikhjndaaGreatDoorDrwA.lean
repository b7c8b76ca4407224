import Derived.Test.YtihnikeikhjndaaGreatDoorPlain
import Derived.Test.YtihnikeikhjndaaGreatDoorRowB
import Derived.Deep.DeepCutAuto
import Derived.Deep.DrawnRows
import Derived.Deep.RegionHeld3
set_option maxRecDepth 100000
set_option maxHeartbeats 16000000
namespace Go.Proofs.YtihnikeikhjndaaGreatDoor
section
open Go.RowKit
structure pR(B:Nat)(a:Option Addr)(len cap t:Nat)(s:Int)(u:World):Prop where
 lt:B<u.heap.size
 c:u.cell? ⟨B,0,none⟩=some (.slice a len cap)/\u.cell? ⟨B,1,none⟩=some (.int .i64 (t:Int))/\u.cell? ⟨B,2,none⟩=some (.int .u64 s)
 fr:∀o,u.frozen? ⟨B,o,none⟩=false
 row:∀i,i<len->∃b off z,a=some ⟨b,off,none⟩/\b≠B/\u.cell? ⟨b,off+i,none⟩=some (.int .u8 z)/\0<=z/\z<=255
def CU(B:Nat)(a:Option Addr)(len cap A:Nat)(u:World):Prop:=∃(t:Nat) (s:Int),t<=A/\pR B a len cap t s u
theorem pR.drew{B:Nat}{a:Option Addr}{len cap t:Nat}{s:Int}{u:World}(h:pR B a len cap t s u):pR B a len cap t s u.drew:=⟨h.lt,h.c,h.fr,h.row⟩
theorem CU.mono{B:Nat}{a:Option Addr}{len cap A A':Nat}{u:World}(h:CU B a len cap A u)(hA:A<=A'):CU B a len cap A' u:=by obtain⟨t,s,h1,h2⟩:=h;exact⟨t,s,by omega,h2⟩
theorem pR.block{B:Nat}{a:Option Addr}{len cap t:Nat}{s:Int}{u w:World}(h:pR B a len cap t s u)(hs:u.heap.size<=w.heap.size)(hk:∀k,k<u.heap.size->w.heap[k]?=u.heap[k]?):pR B a len cap t s w:=by
 have hB:=hk B h.lt;have e:∀o,w.cell? ⟨B,o,none⟩=u.cell? ⟨B,o,none⟩:=fun o=>World.cell?_of_block (a:=⟨B,o,none⟩) hB;obtain⟨h0,h1,h2⟩:=h.c;refine⟨Nat.lt_of_lt_of_le h.lt hs,⟨(e 0).trans h0,(e 1).trans h1,(e 2).trans h2⟩,fun o=>(World.frozen?_of_block (a:=⟨B,o,none⟩) hB).trans (h.fr o),fun i hi=>?_⟩;obtain⟨b,off,z,h1,h2,h3,h4⟩:=h.row i hi;refine⟨b,off,z,h1,h2,?_,h4⟩;have hb:b<u.heap.size:=by
  refine Nat.lt_of_not_le fun hle=>?_;have:u.heap[b]?=none:=Array.getElem?_eq_none hle;simp[World.cell?,this] at h3
 exact(World.cell?_of_block (a:=⟨b,off+i,none⟩) (hk b hb)).trans h3
theorem CU.call{B:Nat}{a:Option Addr}{len cap A:Nat}{u w:World}(h:CU B a len cap A u)(hb:ah u w):CU B a len cap A w:=by obtain⟨t,s,h1,h2⟩:=h;exact⟨t,s,h1,h2.block hb.size fun k hk=>hb.block k hk⟩
theorem pR.set{B:Nat}{a:Option Addr}{len cap t:Nat}{s:Int}{u:World}(h:pR B a len cap t s u)(t':Nat)(s':Int):pR B a len cap t' s' ((u.setCell ⟨B,1,none⟩ (.int .i64 (t':Int))).setCell ⟨B,2,none⟩ (.int .u64 s')):=by
 obtain⟨h0,h1,h2⟩:=h.c;have hf:=h.fr;refine⟨by have:=h.lt;simpa using this,⟨by simp[go_sem,h0],by simp[go_sem,h1],by simp[go_sem,h2]⟩,fun o=>by simp[go_sem,hf],fun i hi=>?_⟩;obtain⟨b,off,z,e1,e2,e3,e4⟩:=h.row i hi;refine⟨b,off,z,e1,e2,?_,e4⟩;have hk:((u.setCell ⟨B,1,none⟩ (.int .i64 (t':Int))).setCell ⟨B,2,none⟩ (.int .u64 s')).heap[b]?=u.heap[b]?:=(Below.heap_setCell _ ⟨B,2,none⟩ _ b e2).trans (Below.heap_setCell _ ⟨B,1,none⟩ _ b e2);exact(World.cell?_of_block (a:=⟨b,off+i,none⟩) hk).trans e3
theorem pR.set'{B:Nat}{a:Option Addr}{len cap t:Nat}{s:Int}{u:World}(h:pR B a len cap t s u)(t':Nat)(s':Int):pR B a len cap t' s' ((u.setCell ⟨B,2,none⟩ (.int .u64 s')).setCell ⟨B,1,none⟩ (.int .i64 (t':Int))):=by
 obtain⟨h0,h1,h2⟩:=h.c;have hf:=h.fr;refine⟨by have:=h.lt;simpa using this,⟨by simp[go_sem,h0],by simp[go_sem,h1],by simp[go_sem,h2]⟩,fun o=>by simp[go_sem,hf],fun i hi=>?_⟩;obtain⟨b,off,z,e1,e2,e3,e4⟩:=h.row i hi;refine⟨b,off,z,e1,e2,?_,e4⟩;have hk:((u.setCell ⟨B,2,none⟩ (.int .u64 s')).setCell ⟨B,1,none⟩ (.int .i64 (t':Int))).heap[b]?=u.heap[b]?:=(Below.heap_setCell _ ⟨B,1,none⟩ _ b e2).trans (Below.heap_setCell _ ⟨B,2,none⟩ _ b e2);exact(World.cell?_of_block (a:=⟨b,off+i,none⟩) hk).trans e3
theorem KF(w:World)(B o:Nat)(v:Value):w.grownBy (w.setCell ⟨B,o,none⟩ v) (some B):=⟨rfl,rfl,rfl,by simp,fun k _ hk=>Below.heap_setCell w ⟨B,o,none⟩ v k (fun e=>hk (by rw[e]))⟩
theorem Hf{a b c:World}{r:Option Nat}(h:a.grownBy b r)(k:b.grownBy c r):a.grownBy c r:=⟨k.os.trans h.os,k.tape.trans h.tape,k.output.trans h.output,Nat.le_trans h.size k.size,fun i hi hr=>(k.block i (Nat.lt_of_lt_of_le hi h.size) hr).trans (h.block i hi hr)⟩
theorem y53(w:World)(r:Option Nat):w.grownBy w r:=⟨rfl,rfl,rfl,Nat.le_refl _,fun _ _ _=>rfl⟩
theorem Uf{a b:World}{r:Option Nat}(h:a.grownBy b r):a.grownBy b.drew r:=⟨h.os,h.tape,h.output,h.size,h.block⟩
theorem Ef(x:Int):0<=wrap64 (bits .and .u64 x 255)/\wrap64 (bits .and .u64 x 255)<=255:=by
 have hb:bits .and .u64 x 255=IntKind.u64.wrap (((BitVec.ofInt 64 x) &&& (BitVec.ofInt 64 255)).toNat:Int):=rfl;have hle:((BitVec.ofInt 64 x) &&& (BitVec.ofInt 64 255)).toNat<=255:=by
  rw[BitVec.toNat_and];exact Nat.le_trans Nat.and_le_right (by decide)
 rw[hb];generalize ((BitVec.ofInt 64 x) &&& (BitVec.ofInt 64 255)).toNat=m at *;have h1:IntKind.u64.wrap (m:Int)=m:=by simp[IntKind.wrap,IntKind.bits,IntKind.signed];omega
 rw[h1];have h2:wrap64 (m:Int)=m:=by simp[wrap64];omega
 rw[h2];omega
attribute [local go_sem ↓] Go.wp_at_zero Go.wp_at_succ
theorem VZ(B:Nat)(a:Option Addr)(len cap A:Nat)(w:World)(hA:A<1000000)(h:CU B a len cap A w):Calls Tryz.prog 101 #[.pointer (some ⟨B,0,none⟩)] w fun e w'=>(∃v:Int,e=.returned (.int .i64 v)/\0<=v/\v<=255)/\CU B a len cap (A+1) w'/\w.grownBy w' (some B):=by
 obtain⟨t,s,ht,hx⟩:=h;have HC:Hid (pR B a len cap t s w):=hx;have HG:Hid (w.grownBy w (some B)):=y53 _ _;clear hx;go_in
 go_upto_region 1 with fail
 go_cut [13] (fun v wc=>v=.bool (decide (t<len))/\pR B a len cap t s wc/\w.grownBy wc (some B))
 case first=>
  go_region_held3 (fun w'=>w'.cell? ⟨B,0,none⟩=some (.slice a len cap)/\w'.cell? ⟨B,1,none⟩=some (.int .i64 (t:Int))/\w'.cell? ⟨B,2,none⟩=some (.int .u64 s)) (first|(with_reducible exact HC.out.c)|(with_reducible exact HC.out.drew.c)) (fail)
  all_goals go_wp2_with fail
  all_goals go_meet
  all_goals first|(with_reducible exact⟨rfl,HC.out,HG.out⟩)|(with_reducible exact⟨rfl,HC.out.drew,Uf HG.out⟩)
 case rest=>
  obtain⟨rfl,hx,hg⟩:=hcut;replace HC:Hid (pR B a len cap t s wc):=hx;replace HG:Hid (w.grownBy wc (some B)):=hg;clear hx hg;by_cases htl:t<len
  ·obtain⟨b,off,z,rfl,hb,hz,hz0,hz1⟩:=HC.row t htl;have htz:(t:Int)<(len:Int):=by omega
   have HZ:Hid (wc.cell? ⟨b,off+t,none⟩=some (.int .u8 z)):=hz;clear hz
   go_upto_region 2 with fail
   go_cut [3] (fun v wd=>v=.int .u8 z/\pR B (some ⟨b,off,none⟩) len cap t s wd/\w.grownBy wd (some B))
   case first=>
    go_region_held3 (fun w'=>w'.cell? ⟨B,0,none⟩=some (.slice (some ⟨b,off,none⟩) len cap)/\w'.cell? ⟨B,1,none⟩=some (.int .i64 (t:Int))/\w'.cell? ⟨b,off+t,none⟩=some (.int .u8 z)) (first|(with_reducible exact⟨HC.out.c.1,HC.out.c.2.1,HZ.out⟩)|(with_reducible exact⟨HC.out.drew.c.1,HC.out.drew.c.2.1,HZ.out⟩)|(exact⟨HC.out.drew.c.1,HC.out.drew.c.2.1,HZ.out⟩)) (fail)
    all_goals go_wp2_with fail
    all_goals go_meet
    all_goals first|(with_reducible exact⟨rfl,HC.out,HG.out⟩)|(with_reducible exact⟨rfl,HC.out.drew,Uf HG.out⟩)
   case rest=>
    clear HC HG HZ;obtain⟨rfl,hx,hg⟩:=hcut;obtain⟨c0,c1,c2⟩:=hx.c;have cf:=hx.fr;have HC:Hid (pR B (some ⟨b,off,none⟩) len cap t s wc):=hx;have HG:Hid (w.grownBy wc (some B)):=hg;clear hx hg;go_wp2_with fail;clear c0 c1 c2 cf;go_ret;exact⟨⟨z,rfl,hz0,hz1⟩,⟨t+1,_,by omega,HC.set (t+1) _⟩,Hf (Hf HG.out (KF _ _ _ _)) (KF _ _ _ _)⟩
  ·have htz:¬(t:Int)<(len:Int):=by omega
   obtain⟨c0,c1,c2⟩:=HC.c;have cf:=HC.fr;go_wp2_with fail;clear c0 c1 c2 cf;go_ret;exact⟨⟨_,rfl,Ef _⟩,⟨t+1,_,by omega,HC.set' (t+1) _⟩,Hf (Hf HG.out (KF _ _ _ _)) (KF _ _ _ _)⟩
end
section
open Go.RowKit
attribute [local go_sem ↓] Go.wp_at_zero Go.wp_at_succ
theorem Wp(B:Nat)(a:Option Addr)(len cap A:Nat)(n:Int)(w:World)(hA:A<900000)(hn1:1<n)(hn2:n<=100000)(h:CU B a len cap A w):Calls Tryz.prog 70 #[.pointer (some ⟨B,0,none⟩),.int .i64 n] w fun e w'=>(∃v:Int,e=.returned (.int .i64 v)/\0<=v/\v<n)/\CU B a len cap (A+2) w'/\w.grownBy w' (some B):=by
 have hne:(n==0)=false:=by simp;omega
 go_in;go_wp2_with fail;refine(VZ B a len cap A w (by omega) h).mono ?_;rintro e w1 ⟨⟨v,rfl,v0,v1⟩,hc,hg⟩;have HC:Hid (CU B a len cap (A+1) w1):=hc;have HG:Hid (w.grownBy w1 (some B)):=hg;clear hc hg h;by_cases a06:200<n
 ·go_wp2_with fail;refine(VZ B a len cap (A+1) w1 (by omega) HC.out).mono ?_;rintro e w2 ⟨⟨v',rfl,v0',v1'⟩,hc,hg⟩;have HC2:Hid (CU B a len cap (A+2) w2):=hc;have HG2:Hid (w.grownBy w2 (some B)):=Hf HG.out hg;clear hc hg HC HG;go_wp2_with fail;go_ret;exact⟨⟨_,rfl,by first|exact Int.emod_nonneg _ (by omega)|skip,by first|exact Int.emod_lt_of_pos _ (by omega)|skip⟩,HC2.out,HG2.out⟩
 ·go_wp2_with fail;go_ret;exact⟨⟨_,rfl,by first|exact Int.emod_nonneg _ (by omega)|skip,by first|exact Int.emod_lt_of_pos _ (by omega)|skip⟩,HC.mono (by omega),HG.out⟩
end
end Go.Proofs.YtihnikeikhjndaaGreatDoor
