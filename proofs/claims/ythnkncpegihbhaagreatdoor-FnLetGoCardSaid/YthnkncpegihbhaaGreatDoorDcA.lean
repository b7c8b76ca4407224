import Derived.Test.YthnkncpegihbhaaGreatDoorPlain
import Derived.Deep.DrawnRows
set_option maxRecDepth 100000
set_option maxHeartbeats 16000000
namespace Go.Proofs.YthnkncpegihbhaaGreatDoor
section
open Go.RowKit
attribute [local go_sem ↓] Go.wp_at_zero Go.wp_at_succ
theorem yf0{w u:World}(h:gZ w u)(o:Obj):gZ w (u.alloc o):=h.alloc h.size _
def LP(j:Nat):ByteArray:=ByteArray.empty.push (UInt8.ofNat (48+(j:Int)%10).toNat)
def zf(j:Nat):UInt8:=UInt8.ofNat (48+(j:Int)%10).toNat
def rQ:Nat->Nat->List UInt8->List UInt8
 |0,_,o=>o
 |k+1,j,o=>if j / 10=0 then zf j :: o else rQ k (j / 10) (zf j :: o)
def kS(n:Int):List UInt8:=if n<0 then 45 :: rQ 20 n.natAbs [] else rQ 20 n.natAbs []
def bA(l:List UInt8):ByteArray:=⟨l.toArray⟩
theorem Uk(l:List UInt8):(bA l).size=l.length:=by show l.toArray.size=_;simp
theorem yu5(l r:List UInt8):bA l++bA r=bA (l++r):=by
 apply ByteArray.ext;simp[bA,ByteArray.data_append]
theorem j07(j:Nat)(l:List UInt8):LP j++bA l=bA (zf j :: l):=yu5 [zf j] l
theorem QX:∀(k j:Nat) (l:List UInt8),(rQ k j l).length<=l.length+k
 |0,_,l=>ah _
 |k+1,j,l=>by
  unfold rQ;split
  ·simp
  ·have:=QX k (j / 10) (zf j :: l);simp at this ⊢;omega
theorem UC{k j:Nat}{l:List UInt8}(h:j / 10=0):rQ (k+1) j l=zf j :: l:=by show(if j / 10=0 then _ else _)=_;rw[aO h]
theorem Ze{k j:Nat}{l:List UInt8}(h:¬j / 10=0):rQ (k+1) j l=rQ k (j / 10) (zf j :: l):=by show(if j / 10=0 then _ else _)=_;rw[au h]
theorem zp9(j:Nat)(wr:World):(convert 22 9 (.slice (some ⟨wr.heap.size,0,none⟩) 1 1)).run Tryz.prog (wr.alloc (.cells #[.int .u8 (48+(j:Int)%10)] 5))=.ok (.string (LP j)) (wr.alloc (.cells #[.int .u8 (48+(j:Int)%10)] 5)):=by
 rw[run_convert_bytes_string _ 22 9 5 _ 1 1 Tryz.underlying22 Tryz.underlying5 Tryz.underlying9];have hl:=run_loadCells_list (P:=Tryz.prog) (wr.alloc (.cells #[.int .u8 (48+(j:Int)%10)] 5)) ⟨wr.heap.size,0,none⟩ [Value.int .u8 (48+(j:Int)%10)] (fun i v hi=>by
  have h0:i=0:=by
   have:=(aP.1 hi).1;simpa using this
  subst h0;have e:v=.int .u8 (48+(j:Int)%10):=by cases hi;rfl
  rw[e];exact dh wr _ _ 0)
 exact run_bytesToString _ ⟨wr.heap.size,0,none⟩ 1 1 [48+(j:Int)%10] hl
theorem z58(j0:Nat)(w:World)(hj:j0<=9223372036854775807):Calls Tryz.prog 37 #[.int .i64 j0] w fun e w'=>e=.returned (.string (bA (rQ 20 j0 [])))/\gZ w w':=by
 have HJ0:Hid (j0<=9223372036854775807):=hj;have Ua:Hid (j0<10 ^ 20):=Nat.lt_of_le_of_lt hj (by decide);have q1:((j0:Int) == -9223372036854775808)=false:=by simp
 have q2:decide ((j0:Int)<0)=false:=by simp
 go_in;go_wp2_with fail
 go_loopw [0,3] (fun i o wr=>∃(j k:Nat) (l:List UInt8),Hid (j<=9223372036854775807)/\i=.int .i64 j/\o=.string (bA l)/\Hid (rQ (k+1) j l=rQ 20 j0 []/\j<10 ^ (k+1))/\l.length+k=19/\gZ w wr) (fun i _ _=>(intOf i).toNat)
 case atStart=>exact⟨j0,19,[],HJ0,rfl,rfl,⟨rfl,Ua.out⟩,rfl,ay _ _⟩
 case round=>
  obtain⟨j,k,l,HJ,rfl,rfl,HD,hk,hB⟩:=hrel;have hcv:=zp9 j wr;have hd:(LP j).size=1:=rfl;have hls:=Uk l;have hq:(LP j).size+(bA l).size<=9223372036854775807:=by
   rw[hd,hls];omega
  have HA:Hid (LP j++bA l=bA (zf j :: l)):=j07 j l;have hjl:(j:Int)<=9223372036854775807:=by have:=HJ.out;omega
  generalize LP j=d at hcv hq HA;by_cases h0:j / 10=0
  ·have HE:Hid (bA (zf j :: l)=bA (rQ 20 j0 [])):=by
    have h:=HD.1;rw[UC h0] at h;show _=_;rw[h]
   have q3:(((j:Int) / 10)==0)=true:=by simp;omega
   go_wp2_with fail;go_ret;refine⟨?_,yf0 hB _⟩;show Ending.returned (.string (d++bA l))=_;rw[HA.out,HE.out]
  ·have HE:Hid (rQ k (j / 10) (zf j :: l)=rQ 20 j0 []/\j / 10<10 ^ k):=by
    have h:=HD.1;rw[Ze h0] at h;refine⟨h,?_⟩;have:=HD.2;rw[Nat.pow_succ] at this;omega
   have hk0:0<k:=by
    rcases Nat.eq_zero_or_pos k with e|e
    ·have:=HE.2;rw[e,Nat.pow_zero] at this;omega
    ·exact e
   have q3:(((j:Int) / 10)==0)=false:=by simp;omega
   go_wp2_with fail;refine⟨⟨j / 10,k-1,zf j :: l,(by have:=HJ.out;show j / 10<=_;omega),by rfl,by rw[HA.out],(by rw[Nat.sub_add_cancel hk0];exact HE.out),by simp;omega,yf0 hB _⟩,?_⟩;simp[intOf];omega
theorem j10:bA (kS (-9223372036854775808))=⟨#[45,57,50,50,51,51,55,50,48,51,54,56,53,52,55,55,53,56,48,56]⟩:=by decide
theorem zc3(n:Int)(w:World)(h0:-9223372036854775808<=n)(h1:n<=9223372036854775807):Calls Tryz.prog 37 #[.int .i64 n] w fun e w'=>e=.returned (.string (bA (kS n)))/\gZ w w':=by
 by_cases hn:n<0
 ·by_cases hm:n = -9223372036854775808
  ·subst hm;rw[j10];go_in;go_wp2_with fail;go_ret;exact⟨rfl,ay _ _⟩
  ·obtain⟨j,rfl⟩:∃j:Nat,n = -(j:Int):=⟨n.natAbs,by omega⟩;have hj:j<=9223372036854775807:=by omega
   have e:kS (-(j:Int))=45 :: rQ 20 j []:=by unfold kS;rw[aO hn,Int.natAbs_neg,Int.natAbs_natCast]
   have HE:Hid (kS (-(j:Int))=45 :: rQ 20 j []):=e;have HJ:Hid (j<=9223372036854775807):=hj;have q1:(-(j:Int) == -9223372036854775808)=false:=by simpa using hm
   go_in;go_wp2_with fail;refine(z58 j w HJ).mono ?_;rintro e w2 ⟨rfl,hB⟩;have HA:Hid (bA [45]++bA (rQ 20 j [])=bA (kS (-(j:Int)))):=by
    show _=_;rw[yu5,HE.out];rfl
   have hls:(bA (rQ 20 j [])).size<=20:=by rw[Uk];have:=QX 20 j [];simpa using this
   have hq:((⟨#[45]⟩:ByteArray)++bA (rQ 20 j [])).size<=maxLen:=by
    rw[ByteArray.size_append];have:(⟨#[45]⟩:ByteArray).size=1:=rfl;unfold maxLen;omega
   have hq2:(⟨#[45]⟩:ByteArray).size+(bA (rQ 20 j [])).size<=9223372036854775807:=by
    have:(⟨#[45]⟩:ByteArray).size=1:=rfl;omega
   generalize bA (rQ 20 j [])=s at HA hq hq2;go_wp2_with fail;go_ret;exact⟨aJ (fun x=>Ending.returned (.string x)) HA,hB⟩
 ·obtain⟨j,rfl⟩:∃j:Nat,n=(j:Int):=⟨n.natAbs,by omega⟩;have e:kS (j:Int)=rQ 20 j []:=by unfold kS;rw[au hn,Int.natAbs_natCast]
  rw[e];exact z58 j w (by omega)
end
end Go.Proofs.YthnkncpegihbhaaGreatDoor
