import Derived.Test.YthnkncpegihbhaaGreatDoorOwA
import Derived.Deep.RegionHeld3
import Derived.Deep.RegionLaw
set_option maxRecDepth 100000
set_option maxHeartbeats 16000000
namespace Go.Proofs.YthnkncpegihbhaaGreatDoor
section
open Go.RowKit
attribute [local go_sem] iD
attribute [local go_sem ↓] Go.wp_at_zero Go.wp_at_succ
theorem Wi(X:RX)(d:MD)(u:World)(h:St X d u)(ht:d.ti<X.tk):Calls Tryz.prog 146 #[.pointer (some ⟨X.M,0,none⟩)] u fun e w'=>e=.returned (.tuple #[])/\To X d u d.p.tick w':=by
 have HS:Hid (St X d u):=h;have c13:=h.m.1.cell 13 rfl;have c3:=h.m.1.cell 3 rfl;have z:=h.m.2;have Tq:d.ti<5000:=by have:=h.x.kt;omega
 have hne:((d.ti:Int)==(X.tk:Int))=false:=by simpa using(show(d.ti:Int)≠(X.tk:Int) by omega)
 go_in;go_wp2_with fail
 go_region_with fail
 all_goals go_wp2_with fail
 all_goals go_end0
 all_goals exact⟨rfl,.mk (Sp.tick HS.out).drew rfl⟩
theorem zk7(a b:Value)(u:World):Calls Tryz.prog 10 #[a,b] u fun e w'=>e=.returned (.bool true)/\w'=u:=by
 go_in;go_wp2_with fail;go_ret;exact⟨rfl,rfl⟩
theorem xU{P:Program}{ops:Array Oper}{o:Oper}{a:Act}{w:World}{K:Act->World->Prop}{Q:Exit->Act->World->Prop}{E:Prop}(hgd:o.guard=none)(sl x:Operand)(t u:TypeId)(ho:o.op=.call {callee:=.builtin .append,args:=#[sl,x],argTypes:=#[t,u]})(v xv v':Value)(w':World)(hs:a.eval sl=v)(hx:a.eval x=xv)(hr:(Builtin.append_ #[t,u] o.type #[v,xv]).run P w=.ok v' w')(h:K (a.put o.dst v') w'):if Region.wanted o (yielded ops a.tmps)=true then Oper.wp P o a w K Q else E:=by
 have hw:Region.wanted o (yielded ops a.tmps)=true:=by simp[Region.wanted,hgd]
 rw[aO hw];unfold Oper.wp execOp;simp only[ho,resolve,invoke,builtin,Sem.run_bind,Sem.run_pure,Result.andThen_ok,List.map_toArray,List.map_cons,List.map_nil,hs,hx,hr];exact h
theorem ym1:(Tryz.prog.info? 58).map (fun i=>(i.zero,i.size,i.bytes))=some (some (.agg #[.int .i64 0,.int .i64 0,.int .i64 0,.int .i64 0,.string ⟨#[]⟩]),5,48):=by kernel_rfl
theorem NR:(Tryz.prog.info? 61).map (fun i=>(i.zero,i.size,i.bytes))=some (some (.agg #[.int .i64 0,.int .i64 0,.float .f64 0,.string ⟨#[]⟩,.int .i64 0]),5,48):=by kernel_rfl
theorem QI:(Tryz.prog.info? 3).map (fun i=>(i.zero,i.size,i.bytes))=some (some (.int .i64 0),1,8):=by kernel_rfl
theorem j69(x:lU):∀y∈r5 x,y.oneCell'=true:=by simp[r5,Value.oneCell']
theorem Vd(x:VD):∀y∈v5 x,y.oneCell'=true:=by simp[v5,Value.oneCell']
theorem qq1(X:RX)(d:MD)(k f l:Int)(s:ByteArray)(u:World)(h:St X d u)(hn:d.recs.length<5000):Calls Tryz.prog 147 #[.pointer (some ⟨X.M,0,none⟩),.int .i64 k,.int .i64 f,.int .i64 l,.string s] u fun e w'=>e=.returned (.tuple #[])/\To X d u (d.p.D8 ⟨k,0,f,l,s⟩) w':=by
 have HS:Hid (St X d u):=h;have c9:=h.m.1.cell 9 rfl;have c6:=h.m.1.cell 6 rfl;have c23:=h.m.1.cell 23 rfl;have t0:=h.t.1.cell 0 rfl;have z:=h.m.2;have hM:=h.m.1.1;have hT:=h.t.1.1;have hne:((d.recs.length:Int)==100000)=false:=by simpa using(show(d.recs.length:Int)≠100000 by omega)
 obtain⟨i0,gU,gQ,hy1,hy2⟩:=bT ym1;obtain⟨v',w7,gq,gB,gY,_,hat⟩:=run_append_own_at (P:=Tryz.prog) (u.alloc (.cells #[.int .i64 k,.int .i64 0,.int .i64 f,.int .i64 l,.string s] 58)).drew X.N 24 24 58 i0 _ 5 48 Tryz.underlying24 gU gQ hy1 hy2 rfl (by decide) (.slice d.ra d.recs.length d.rc) d.recs.length (rL d.recs) (HS.alloc _).drew.rr ⟨u.heap.size,0,none⟩ 1 1 (r5 ⟨k,0,f,l,s⟩) rfl (Az u #[.int .i64 k,.int .i64 0,.int .i64 f,.int .i64 l,.string s] _) (j69 _) (by unfold maxLen;omega) (by omega) (by have:=HS.n;simp;omega);have hm:=(HS.alloc (.cells #[.int .i64 k,.int .i64 0,.int .i64 f,.int .i64 l,.string s] 58)).drew.wQ (by rw[jg] at gY;exact gY) (.inl rfl) (fun q e=>lJ (HS.alloc _).drew.rr e);obtain⟨a2,c2,rfl,fJ⟩:=Sp.recs (x:=⟨k,0,f,l,s⟩) (HS.alloc (.cells #[.int .i64 k,.int .i64 0,.int .i64 f,.int .i64 l,.string s] 58)).drew gB gY hat;have HF:Hid (To X d u (d.p.D8 ⟨k,0,f,l,s⟩) (w7.setCell ⟨X.M,9,none⟩ (.slice a2 (d.recs.length+1) c2))):=.mk ((Sp.refl HS.out |>.alloc _).drew.trans fJ) rfl;have d9:=hm.1.1.cell 9 rfl;have dz:=hm.1.2;go_in;go_wp2_with (go_at_call 10;refine(zk7 _ _ _).mono ?_;rintro e w1 ⟨rfl,rfl⟩)
 go_region_law ((refine xU (by rfl) _ _ _ _ (by rfl) (.slice d.ra d.recs.length d.rc) (.slice (some ⟨w1.heap.size,0,none⟩) 1 1) _ _ (by rfl) (by rfl) gq ?_))
 all_goals go_end0
 all_goals exact⟨rfl,HF.out⟩
theorem V6(l:List VD):∀y∈hL l,y.oneCell'=true:=by
 intro y hy;unfold hL at hy;rw[List.mem_flatMap] at hy;obtain⟨x,_,hx⟩:=hy;exact Vd x y hx
theorem um{P:Program}{ops:Array Oper}{rest:List Oper}{o:Oper}{a:Act}{w:World}{Q:Exit->Act->World->Prop}(hgd:o.guard=none)(sl x:Operand)(t u:TypeId)(ho:o.op=.call {callee:=.builtin .append,args:=#[sl,x],argTypes:=#[t,u]})(v xv v':Value)(w':World)(hs:a.eval sl=v)(hx:a.eval x=xv)(hr:(Builtin.append_ #[t,u] o.type #[v,xv]).run P w=.ok v' w')(h:wpList P ops Q rest (a.put o.dst v') w'):wpList P ops Q (o :: rest) a w:=by
 refine wpList_plain hgd fun K hK=>?_;unfold Oper.wp execOp;simp only[ho,resolve,invoke,builtin,Sem.run_bind,Sem.run_pure,Result.andThen_ok,List.map_toArray,List.map_cons,List.map_nil,hs,hx,hr];exact hK _ _ h
theorem Sz(X:RX)(d:MD)(ad:Addr)(l:List VD)(c:Nat)(u:World)(h:St X d u)(hn:d.held.length+l.length<=100000)(hl:∀j v,(hL l)[j]?=some v->u.cell? (ad.add j)=some v):Calls Tryz.prog 194 #[.pointer (some ⟨X.T,0,none⟩),.slice (some ad) l.length c] u fun e w'=>e=.returned (.tuple #[])/\To X d u (d.p.hold l) w':=by
 have HS:Hid (St X d u):=h;have c8:=h.t.1.cell 8 rfl;have z:=h.t.2;obtain⟨i0,gU,gQ,hy1,hy2⟩:=bT NR;obtain⟨v',w7,gq,gB,gY,_,hat⟩:=run_append_own_at (P:=Tryz.prog) u X.N 119 119 61 i0 _ 5 48 Tryz.underlying119 gU gQ hy1 hy2 rfl (by decide) (.slice d.ha d.held.length d.hc) d.held.length (hL d.held) h.hr ad l.length c (hL l) (z52 l) hl (V6 l) (by unfold maxLen;omega) (by omega) h.n;have hm:=h.wQ (by rw[jg] at gY;exact gY) (.inr (.inl rfl)) (fun q e=>lJ h.hr e);obtain⟨a2,c2,rfl,fJ⟩:=Sp.hold h gB gY hat;have HF:Hid (To X d u (d.p.hold l) (w7.setCell ⟨X.T,8,none⟩ (.slice a2 (d.held.length+l.length) c2))):=.mk fJ rfl;have d8:=hm.2.1.1.cell 8 rfl;have dz:=hm.2.1.2;go_in;go_wp2_with (at_builtin;refine um (by rfl) _ _ _ _ (by rfl) (.slice d.ha d.held.length d.hc) (.slice (some ad) l.length c) _ _ (by rfl) (by rfl) gq ?_);go_end0;exact⟨rfl,HF⟩
theorem RH{q:Nat}(h:q<=1000000000000):IntKind.i64.wrap (q:Int)=(q:Int):=by
 simp[IntKind.wrap,IntKind.signed,IntKind.bits];omega
theorem Gp(X:RX)(d:MD)(m:Nat)(u:World)(h:St X d u)(hm:m<=d.held.length)(hl:d.held.length<=100000):Calls Tryz.prog 195 #[.pointer (some ⟨X.T,0,none⟩),.int .i64 (m:Int)] u fun e w'=>e=.returned (.tuple #[])/\To X d u (d.p.kH (d.held.length-m)) w':=by
 have c8:u.cell? ⟨X.T,8,none⟩=some (.slice d.ha d.held.length d.hc):=h.t.1.cell 8 rfl;have z:=h.t.2;have HF:Hid (To X d u (d.p.kH (d.held.length-m)) (u.setCell ⟨X.T,8,none⟩ (.slice d.ha (d.held.length-m) d.hc)).drew):=.mk (Sp.kH h (by omega)).drew rfl;have h0:=h.hr.2;rcases h0 with⟨e,_⟩|⟨g,cap,cur,e,_,_,h5,_⟩
 ·obtain⟨e1,e2,e3⟩:d.ha=none/\d.held.length=0/\d.hc=0:=by simpa using e
  obtain rfl:m=0:=by omega
  rw[e1,e2,e3] at c8 HF;rw[e2];go_in;go_wp2_with fail
  go_region_with fail
  all_goals go_end0
  all_goals exact⟨rfl,HF.out⟩
 ·obtain⟨e1,e3⟩:d.ha=some ⟨g,0,none⟩/\d.hc=cap:=by simpa using e
  obtain⟨q,hq⟩:∃q,d.held.length-m=q:=⟨_,rfl⟩;have hq2:(d.held.length:Int)-(m:Int)=(q:Int):=by omega
  rw[e1,e3,hq] at HF;rw[e1,e3] at c8;rw[hq];generalize d.held.length=n at *;obtain rfl:n=q+m:=by omega
  by_cases hc:cap=0
  ·obtain⟨rfl,rfl⟩:q=0/\m=0:=by omega
   subst hc;go_in;go_wp2_with fail
   go_region_with fail
   all_goals go_end0
   all_goals exact⟨rfl,HF.out⟩
  ·have hw:IntKind.i64.wrap (q:Int)=(q:Int):=RH (by omega);go_in;go_wp2_with fail
   go_region_with fail
   all_goals go_end0
   all_goals exact⟨rfl,HF.out⟩
end
end Go.Proofs.YthnkncpegihbhaaGreatDoor
