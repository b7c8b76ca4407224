import Derived.Test.YthnkncpegihbhaaGreatDoorPlain
import Derived.Test.YthnkncpegihbhaaGreatDoorFl
import Derived.Deep.RegionWith
set_option maxRecDepth 100000
set_option maxHeartbeats 16000000
namespace Go.Proofs.YthnkncpegihbhaaGreatDoor
section
open Go.RowKit
attribute [local go_sem] iD
attribute [local go_sem] qb1 WQ WW WV WU WY WS WH WT WR WJ qb0 WI
def KO(f:Nat):Bool:=(FloatKind.f64.format.order f oZ==some .gt || FloatKind.f64.format.order f oZ==some .eq) && FloatKind.f64.format.order f two63==some .lt && FloatKind.f64.format.order f (Fl.pq f)==some .eq
def yA(f:Nat):Value:=
 if FloatKind.f64.format.order f f≠some .eq then gV 5 0 0 0 ⟨#[]⟩ 0
 else if KO f then gV 0 2 ((floatToIntVal .f64 f .i64).getD 0) 0 ⟨#[]⟩ 0 else gV 0 3 0 f ⟨#[]⟩ 0
theorem j93(f:Nat)(h:FloatKind.f64.format.order f f=none)(w:World):Calls Tryz.prog 355 #[.float .f64 f] w fun e w'=>e=.returned (yA f)/\gZ w w':=by
 rw[show yA f=gV 5 0 0 0 ⟨#[]⟩ 0 by simp[yA,h]];go_in;go_wp2_with (first|(go_at_call 158;refine(Lj _ _).mono ?_;rintro e w2 ⟨rfl,rfl⟩)|(go_at_call 312;refine(Wv _ _).mono ?_;rintro e w1 ⟨rfl,eu⟩;obtain⟨hc1,hf1⟩:=iW eu));exact aG (v:=gV 5 0 0 0 ⟨#[]⟩ 0) (by simp[results,Tryz.results355,go_sem,hc1]) rfl ⟨rfl,rH (iq (q01 _ _) eu) (ah _) _ _ _ _ _ _⟩
theorem yn3(f:Nat)(hf:f<2 ^ 64)(w:World):Calls Tryz.prog 355 #[.float .f64 f] w fun e w'=>e=.returned (yA f)/\gZ w w':=by
 rcases(zz4 hf).symm with h|h
 ·exact j93 f h w
 obtain⟨d2,a2⟩:=Zp hf h Fl.pF;obtain⟨d1,a1⟩:=Zp hf h Fl.qA;have a2':FloatKind.f64.format.order f oZ=some d2:=a2;have a1':FloatKind.f64.format.order f two63=some d1:=a1;have HF:Hid (f<2 ^ 64):=hf
 cases hw:KO f
 ·rw[show yA f=gV 0 3 0 f ⟨#[]⟩ 0 by simp[yA,h,hw]];have hw':=hw;unfold KO at hw';rw[a1',a2'] at hw';clear hw hf a1' a2'
  cases hF:(FloatKind.f64.format.order f (Fl.pq f)==some .eq)
  ·cases d2<;>cases d1
   all_goals
    clear hw';go_in;go_wp2_with (first|(go_at_call 158;refine(Lj _ _).mono ?_;rintro e w2 ⟨rfl,rfl⟩)|(go_at_call 373;refine(SK _ HF h _).mono ?_;rintro e w2 ⟨rfl,rfl⟩)|(go_at_call 315;refine(qx8 _ _).mono ?_;rintro e w1 ⟨rfl,eu⟩;obtain⟨hc1,hf1⟩:=iW eu));exact aG (v:=gV 0 3 0 f ⟨#[]⟩ 0) (by simp[results,Tryz.results355,go_sem,hc1]) rfl ⟨rfl,rH (iq (q01 _ _) eu) (ah _) _ _ _ _ _ _⟩
  ·rw[hF] at hw'
   cases d2<;>cases d1<;>first|(exact absurd hw' (by decide))|skip
   all_goals
    clear hw';go_in;go_wp2_with (first|(go_at_call 158;refine(Lj _ _).mono ?_;rintro e w2 ⟨rfl,rfl⟩)|(go_at_call 373;refine(SK _ HF h _).mono ?_;rintro e w2 ⟨rfl,rfl⟩)|(go_at_call 315;refine(qx8 _ _).mono ?_;rintro e w1 ⟨rfl,eu⟩;obtain⟨hc1,hf1⟩:=iW eu));exact aG (v:=gV 0 3 0 f ⟨#[]⟩ 0) (by simp[results,Tryz.results355,go_sem,hc1]) rfl ⟨rfl,rH (iq (q01 _ _) eu) (ah _) _ _ _ _ _ _⟩
 ·have hw':=hw;unfold KO at hw';simp only[aY,Bool.or_eq_true,beq_iff_eq] at hw';obtain⟨⟨b2,b1⟩,bF⟩:=hw';obtain⟨v,hv⟩:=j12 hf b2 b1;rw[show yA f=gV 0 2 v 0 ⟨#[]⟩ 0 by simp[yA,h,hw,hv]];have hcv:=fun(w:World)=>run_convert_float_int (P:=Tryz.prog) w 46 250 .f64 .i64 f v (by rw[Tryz.underlying46];rfl) Tryz.underlying250 hv;clear hw hf hv a1 a2 a1' a2';rcases b2 with b2|b2
  ·go_in;go_wp2_with (first|(go_at_call 158;refine(Lj _ _).mono ?_;rintro e w2 ⟨rfl,rfl⟩)|(go_at_call 373;refine(SK _ HF h _).mono ?_;rintro e w2 ⟨rfl,rfl⟩)|(go_at_call 315;refine(qx7 _ _).mono ?_;rintro e w1 ⟨rfl,eu⟩;obtain⟨hc1,hf1⟩:=iW eu));exact aG (v:=gV 0 2 v 0 ⟨#[]⟩ 0) (by simp[results,Tryz.results355,go_sem,hc1]) rfl ⟨rfl,rH (iq (q01 _ _) eu) (ah _) _ _ _ _ _ _⟩
  ·go_in;go_wp2_with (first|(go_at_call 158;refine(Lj _ _).mono ?_;rintro e w2 ⟨rfl,rfl⟩)|(go_at_call 373;refine(SK _ HF h _).mono ?_;rintro e w2 ⟨rfl,rfl⟩)|(go_at_call 315;refine(qx7 _ _).mono ?_;rintro e w1 ⟨rfl,eu⟩;obtain⟨hc1,hf1⟩:=iW eu));exact aG (v:=gV 0 2 v 0 ⟨#[]⟩ 0) (by simp[results,Tryz.results355,go_sem,hc1]) rfl ⟨rfl,rH (iq (q01 _ _) eu) (ah _) _ _ _ _ _ _⟩
def sG(k n:Int)(f:Nat)(s:ByteArray)(r:Int):Value:=
 if okB k n f s r=false then gV 1 0 0 0 ⟨#[]⟩ 0 else if k=0 then gV 5 0 0 0 ⟨#[]⟩ 0 else if k=3 then yA f else gV 0 k n f s r
theorem j85(k n:Int)(f:Nat)(s:ByteArray)(r:Int)(w:World):Calls Tryz.prog 332 #[iJ k n f s r,.nilIface] w fun e w'=>e=.returned (gV 1 0 0 0 ⟨#[]⟩ 0)/\gZ w w':=by
 go_in;go_wp2_with (go_at_call 312;refine(Wv _ _).mono ?_;rintro e w1 ⟨rfl,eu⟩;obtain⟨hc1,hf1⟩:=iW eu);exact aG (v:=gV 1 0 0 0 ⟨#[]⟩ 0) (by simp[results,Tryz.results332,go_sem,hc1]) rfl ⟨rfl,rH (iq (kF _ _ _) eu) (aZ _ 1) _ _ _ _ _ _⟩
theorem yb8(k n:Int)(f:Nat)(s:ByteArray)(r:Int)(w:World):Calls Tryz.prog 332 #[iJ k n f s r,.iface 248 (.agg #[])] w fun e w'=>e=.returned (gV 5 0 0 0 ⟨#[]⟩ 0)/\gZ w w':=by
 go_in;go_wp2_with (go_at_call 312;refine(Wv _ _).mono ?_;rintro e w1 ⟨rfl,eu⟩;obtain⟨hc1,hf1⟩:=iW eu);exact aG (v:=gV 5 0 0 0 ⟨#[]⟩ 0) (by simp[results,Tryz.results332,go_sem,hc1]) rfl ⟨rfl,rH (iq (xW _ _ _ _) eu) (aZ _ 1) _ _ _ _ _ _⟩
theorem yl3(k n:Int)(f:Nat)(s:ByteArray)(r:Int)(hf:f<2 ^ 64)(w:World):Calls Tryz.prog 332 #[iJ k n f s r,.iface 251 (.float .f64 f)] w fun e w'=>e=.returned (yA f)/\gZ w w':=by
 obtain⟨a,b,c,d,e0⟩:∃a b c d,yA f=gV a b c d ⟨#[]⟩ 0:=by unfold yA;(repeat' split)<;>exact⟨_,_,_,_,rfl⟩
 have hN:Hid (∀w,Calls Tryz.prog 355 #[.float .f64 f] w fun e w'=>e=.returned (gV a b c d ⟨#[]⟩ 0)/\gZ w w'):=by
  intro w;rw[<-e0];exact yn3 f hf w
 rw[e0];go_in;go_wp2_with (go_at_call 355;refine(hN.out _).mono ?_;rintro e w1 ⟨rfl,eu⟩;obtain⟨hc1,hf1⟩:=iW eu);exact aG (v:=gV a b c d ⟨#[]⟩ 0) (by simp[results,Tryz.results332,go_sem,hc1]) rfl ⟨rfl,rH (iq (kF _ _ _) eu) (aZ _ 1) _ _ _ _ _ _⟩
theorem yz3(k n:Int)(f:Nat)(s:ByteArray)(r:Int)(b:Bool)(w:World):Calls Tryz.prog 332 #[iJ k n f s r,.iface 249 (.bool b)] w fun e w'=>e=.returned (gV 0 k n f s r)/\gZ w w':=by
 go_in;go_wp2;exact aG (v:=gV 0 k n f s r) (by simp[results,Tryz.results332,go_sem]) rfl ⟨rfl,kF _ _ _⟩
theorem yl2(k n:Int)(f:Nat)(s:ByteArray)(r:Int)(m:Int)(w:World):Calls Tryz.prog 332 #[iJ k n f s r,.iface 250 (.int .i64 m)] w fun e w'=>e=.returned (gV 0 k n f s r)/\gZ w w':=by
 go_in;go_wp2;exact aG (v:=gV 0 k n f s r) (by simp[results,Tryz.results332,go_sem]) rfl ⟨rfl,kF _ _ _⟩
theorem yz1(k n:Int)(f:Nat)(s:ByteArray)(r:Int)(t:ByteArray)(w:World):Calls Tryz.prog 332 #[iJ k n f s r,.iface 169 (.string t)] w fun e w'=>e=.returned (gV 0 k n f s r)/\gZ w w':=by
 go_in;go_wp2;exact aG (v:=gV 0 k n f s r) (by simp[results,Tryz.results332,go_sem]) rfl ⟨rfl,kF _ _ _⟩
theorem y10(k n:Int)(f:Nat)(s:ByteArray)(r:Int)(m:Int)(w:World):Calls Tryz.prog 332 #[iJ k n f s r,.iface 254 (.int .i64 m)] w fun e w'=>e=.returned (gV 0 k n f s r)/\gZ w w':=by
 go_in;go_wp2;exact aG (v:=gV 0 k n f s r) (by simp[results,Tryz.results332,go_sem]) rfl ⟨rfl,kF _ _ _⟩
theorem yz2(k n:Int)(f:Nat)(s:ByteArray)(r:Int)(a m:Int)(w:World):Calls Tryz.prog 332 #[iJ k n f s r,.iface 253 (.agg #[.int .i64 a,.int .i64 m])] w fun e w'=>e=.returned (gV 0 k n f s r)/\gZ w w':=by
 go_in;go_wp2;exact aG (v:=gV 0 k n f s r) (by simp[results,Tryz.results332,go_sem]) rfl ⟨rfl,kF _ _ _⟩
theorem yl4(k n:Int)(f:Nat)(s:ByteArray)(r:Int)(hf:f<2 ^ 64)(w:World):Calls Tryz.prog 332 #[iJ k n f s r,kE k n f s r] w fun e w'=>e=.returned (sG k n f s r)/\gZ w w':=by
 rcases yh5 k n f s r with⟨h,e⟩|⟨h,c,e⟩|⟨h,c,_,e⟩|⟨h,c,e⟩|⟨h,c,e⟩|⟨h,c,_,e⟩|⟨h,c,_,_,e⟩|⟨h,c,_,e⟩
 ·rw[e,show sG k n f s r=gV 1 0 0 0 ⟨#[]⟩ 0 by simp[sG,h]];exact j85 k n f s r w
 ·rw[e,show sG k n f s r=gV 5 0 0 0 ⟨#[]⟩ 0 by unfold sG;rw[au (by rw[h];decide),aO c]];exact yb8 k n f s r w
 ·rw[e,show sG k n f s r=gV 0 k n f s r by unfold sG;rw[au (by rw[h];decide),au (by omega),au (by omega)]];exact yz3 k n f s r _ w
 ·rw[e,show sG k n f s r=gV 0 k n f s r by unfold sG;rw[au (by rw[h];decide),au (by omega),au (by omega)]];exact yl2 k n f s r _ w
 ·rw[e,show sG k n f s r=yA f by unfold sG;rw[au (by rw[h];decide),au (by omega),aO c]];exact yl3 k n f s r hf w
 ·rw[e,show sG k n f s r=gV 0 k n f s r by unfold sG;rw[au (by rw[h];decide),au (by omega),au (by omega)]];exact yz1 k n f s r _ w
 ·rw[e,show sG k n f s r=gV 0 k n f s r by unfold sG;rw[au (by rw[h];decide),au (by omega),au (by omega)]];exact y10 k n f s r _ w
 ·rw[e,show sG k n f s r=gV 0 k n f s r by unfold sG;rw[au (by rw[h];decide),au (by omega),au (by omega)]];exact yz2 k n f s r _ _ w
theorem yl5(k n:Int)(f:Nat)(s:ByteArray)(r:Int):∃a b c d t u,sG k n f s r=gV a b c d t u:=by
 unfold sG yA
 (repeat' split)<;>exact⟨_,_,_,_,_,_,rfl⟩
theorem qm9(k n:Int)(f:Nat)(s:ByteArray)(r:Int)(hf:f<2 ^ 64)(w:World):Calls Tryz.prog 292 #[iJ k n f s r] w fun e w'=>e=.returned (sG k n f s r)/\gZ w w':=by
 obtain⟨a,b,c,d,t,u,e0⟩:=yl5 k n f s r;have hN:Hid (∀w,Calls Tryz.prog 332 #[iJ k n f s r,kE k n f s r] w fun e w'=>e=.returned (gV a b c d t u)/\gZ w w'):=by
  intro w;rw[<-e0];exact yl4 k n f s r hf w
 rw[e0];go_in;go_wp2_with fail
 go_region_with (first|(go_at_call 97;refine(Zz _ _ _ _ _ _).mono ?_;rintro e w1 ⟨rfl,eu⟩;obtain⟨hc1,hf1⟩:=iW eu)|(go_at_call 332;refine(hN.out _).mono ?_;rintro e w2 ⟨rfl,eG⟩;replace eu:=iq eu eG;obtain⟨hc1,hf1⟩:=iW eu))
 all_goals go_wp2
 all_goals exact aG (v:=gV a b c d t u) (by simp[results,Tryz.results292,go_sem,hc1]) rfl ⟨rfl,rH (iq (by first|exact kF _ _ _|exact(kF _ _ _).drew|exact(kF _ _ _).drew.drew|exact(kF _ _ _).drew.drew.drew|exact(kF _ _ _).drew.drew.drew.drew) eu) (aZ _ 1) _ _ _ _ _ _⟩
end
end Go.Proofs.YthnkncpegihbhaaGreatDoor
