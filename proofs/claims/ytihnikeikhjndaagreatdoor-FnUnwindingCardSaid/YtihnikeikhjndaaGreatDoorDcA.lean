import Derived.Test.YtihnikeikhjndaaGreatDoorPlain
import Derived.Deep.DrawnRows
set_option maxRecDepth 100000
set_option maxHeartbeats 16000000
namespace Go.Proofs.YtihnikeikhjndaaGreatDoor
section
open Go.RowKit
attribute [local go_sem ↓] Go.wp_at_zero Go.wp_at_succ
theorem Tz{w u:World}(h:ah w u)(o:Obj):ah w (u.alloc o):=h.alloc h.size _
def Fg(j:Nat):ByteArray:=ByteArray.empty.push (UInt8.ofNat (48+(j:Int)%10).toNat)
def oJ(j:Nat):UInt8:=UInt8.ofNat (48+(j:Int)%10).toNat
def jU:Nat->Nat->List UInt8->List UInt8
 |0,_,o=>o
 |k+1,j,o=>if j / 10=0 then oJ j :: o else jU k (j / 10) (oJ j :: o)
def bI(n:Int):List UInt8:=if n<0 then 45 :: jU 20 n.natAbs [] else jU 20 n.natAbs []
def bA(l:List UInt8):ByteArray:=⟨l.toArray⟩
theorem EM(l:List UInt8):(bA l).size=l.length:=by show l.toArray.size=_;simp
theorem Vj(l r:List UInt8):bA l++bA r=bA (l++r):=by
 apply ByteArray.ext;simp[bA,ByteArray.data_append]
theorem yf5(j:Nat)(l:List UInt8):Fg j++bA l=bA (oJ j :: l):=Vj [oJ j] l
theorem NZ:∀(k j:Nat) (l:List UInt8),(jU k j l).length<=l.length+k
 |0,_,l=>Nat.le_refl _
 |k+1,j,l=>by
  unfold jU;split
  ·simp
  ·have:=NZ k (j / 10) (oJ j :: l);simp at this ⊢;omega
theorem z25{k j:Nat}{l:List UInt8}(h:j / 10=0):jU (k+1) j l=oJ j :: l:=by show(if j / 10=0 then _ else _)=_;rw[if_pos h]
theorem Ua{k j:Nat}{l:List UInt8}(h:¬j / 10=0):jU (k+1) j l=jU k (j / 10) (oJ j :: l):=by show(if j / 10=0 then _ else _)=_;rw[if_neg h]
theorem ze8(j:Nat)(wr:World):(convert 22 9 (.slice (some ⟨wr.heap.size,0,none⟩) 1 1)).run Tryz.prog (wr.alloc (.cells #[.int .u8 (48+(j:Int)%10)] 5))=.ok (.string (Fg j)) (wr.alloc (.cells #[.int .u8 (48+(j:Int)%10)] 5)):=by
 rw[run_convert_bytes_string _ 22 9 5 _ 1 1 Tryz.underlying22 Tryz.underlying5 Tryz.underlying9];have hl:=run_loadCells_list (P:=Tryz.prog) (wr.alloc (.cells #[.int .u8 (48+(j:Int)%10)] 5)) ⟨wr.heap.size,0,none⟩ [Value.int .u8 (48+(j:Int)%10)] (fun i v hi=>by
  have h0:i=0:=by
   have:=(List.getElem?_eq_some_iff.1 hi).1;simpa using this
  subst h0;have e:v=.int .u8 (48+(j:Int)%10):=by cases hi;rfl
  rw[e];exact World.cell?_alloc_new wr _ _ 0)
 exact run_bytesToString _ ⟨wr.heap.size,0,none⟩ 1 1 [48+(j:Int)%10] hl
theorem VL(j0:Nat)(w:World)(hj:j0<=9223372036854775807):Calls Tryz.prog 35 #[.int .i64 j0] w fun e w'=>e=.returned (.string (bA (jU 20 j0 [])))/\ah w w':=by
 have HJ0:Hid (j0<=9223372036854775807):=hj;have Yy:Hid (j0<10 ^ 20):=Nat.lt_of_le_of_lt hj (by decide);have q1:((j0:Int) == -9223372036854775808)=false:=by simp
 have q2:decide ((j0:Int)<0)=false:=by simp
 clear hj;go_in;go_wp2_with fail;clear q1 q2
 go_loopw [0,3] (fun i o wr=>∃(j k:Nat) (l:List UInt8),Hid (j<=9223372036854775807)/\i=.int .i64 j/\o=.string (bA l)/\Hid (jU (k+1) j l=jU 20 j0 []/\j<10 ^ (k+1))/\l.length+k=19/\ah w wr) (fun i _ _=>(intOf i).toNat)
 case atStart=>exact⟨j0,19,[],HJ0,rfl,rfl,⟨rfl,Yy.out⟩,rfl,Below.refl _ _⟩
 case round=>
  clear Yy;obtain⟨j,k,l,HJ,rfl,rfl,HD,hk,hB⟩:=hrel;have hcv:=ze8 j wr;have hd:(Fg j).size=1:=rfl;have hls:=EM l;have hq:(Fg j).size+(bA l).size<=9223372036854775807:=by
   rw[hd,hls];omega
  have HA:Hid (Fg j++bA l=bA (oJ j :: l)):=yf5 j l;have hjl:(j:Int)<=9223372036854775807:=by have:=HJ.out;omega
  clear hd hls;generalize Fg j=d at hcv hq HA;by_cases h0:j / 10=0
  ·have HE:Hid (bA (oJ j :: l)=bA (jU 20 j0 [])):=by
    have h:=HD.1;rw[z25 h0] at h;show _=_;rw[h]
   have q3:(((j:Int) / 10)==0)=true:=by simp;omega
   go_wp2_with fail;go_ret;refine⟨?_,Tz hB _⟩;show Ending.returned (.string (d++bA l))=_;rw[HA.out,HE.out]
  ·have HE:Hid (jU k (j / 10) (oJ j :: l)=jU 20 j0 []/\j / 10<10 ^ k):=by
    have h:=HD.1;rw[Ua h0] at h;refine⟨h,?_⟩;have:=HD.2;rw[Nat.pow_succ] at this;omega
   have hk0:0<k:=by
    rcases Nat.eq_zero_or_pos k with e|e
    ·have:=HE.2;rw[e,Nat.pow_zero] at this;omega
    ·exact e
   have q3:(((j:Int) / 10)==0)=false:=by simp;omega
   go_wp2_with fail;refine⟨⟨j / 10,k-1,oJ j :: l,(by have:=HJ.out;show j / 10<=_;omega),by rfl,by rw[HA.out],(by rw[Nat.sub_add_cancel hk0];exact HE.out),by simp;omega,Tz hB _⟩,?_⟩;simp[intOf];omega
theorem yf8:bA (bI (-9223372036854775808))=⟨#[45,57,50,50,51,51,55,50,48,51,54,56,53,52,55,55,53,56,48,56]⟩:=by decide
theorem z28(n:Int)(w:World)(h0:-9223372036854775808<=n)(h1:n<=9223372036854775807):Calls Tryz.prog 35 #[.int .i64 n] w fun e w'=>e=.returned (.string (bA (bI n)))/\ah w w':=by
 by_cases hn:n<0
 ·by_cases hm:n = -9223372036854775808
  ·subst hm;rw[yf8];clear h0 h1 hn;go_in;go_wp2_with fail;go_ret;exact⟨rfl,Below.refl _ _⟩
  ·obtain⟨j,rfl⟩:∃j:Nat,n = -(j:Int):=⟨n.natAbs,by omega⟩;have hj:j<=9223372036854775807:=by omega
   have e:bI (-(j:Int))=45 :: jU 20 j []:=by unfold bI;rw[if_pos hn,Int.natAbs_neg,Int.natAbs_natCast]
   have HE:Hid (bI (-(j:Int))=45 :: jU 20 j []):=e;have HJ:Hid (j<=9223372036854775807):=hj;have q1:(-(j:Int) == -9223372036854775808)=false:=by simpa using hm
   clear e hm;go_in;go_wp2_with fail;refine(VL j w HJ).mono ?_;rintro e w2 ⟨rfl,hB⟩;have HA:Hid (bA [45]++bA (jU 20 j [])=bA (bI (-(j:Int)))):=by
    show _=_;rw[Vj,HE.out];rfl
   have hls:(bA (jU 20 j [])).size<=20:=by rw[EM];have:=NZ 20 j [];simpa using this
   have hq:((⟨#[45]⟩:ByteArray)++bA (jU 20 j [])).size<=maxLen:=by
    rw[ByteArray.size_append];have:(⟨#[45]⟩:ByteArray).size=1:=rfl;unfold maxLen;omega
   have hq2:(⟨#[45]⟩:ByteArray).size+(bA (jU 20 j [])).size<=9223372036854775807:=by
    have:(⟨#[45]⟩:ByteArray).size=1:=rfl;omega
   clear hls;generalize bA (jU 20 j [])=s at HA hq hq2;go_wp2_with fail;go_ret;exact⟨congrArg (fun x=>Ending.returned (.string x)) HA,hB⟩
 ·obtain⟨j,rfl⟩:∃j:Nat,n=(j:Int):=⟨n.natAbs,by omega⟩;have e:bI (j:Int)=jU 20 j []:=by unfold bI;rw[if_neg hn,Int.natAbs_natCast]
  rw[e];exact VL j w (by omega)
end
end Go.Proofs.YtihnikeikhjndaaGreatDoor
