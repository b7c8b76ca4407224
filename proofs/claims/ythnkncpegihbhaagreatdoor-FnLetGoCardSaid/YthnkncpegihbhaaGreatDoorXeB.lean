import Derived.Test.YthnkncpegihbhaaGreatDoorWbA
import Derived.Test.YthnkncpegihbhaaGreatDoorXaMa
import Derived.BigQuiet
set_option maxRecDepth 100000
set_option maxHeartbeats 16000000
namespace Go.Proofs.YthnkncpegihbhaaGreatDoor
section
open Go.RowKit
attribute [local go_sem] iD
attribute [local go_sem ↓] Go.wp_at_zero Go.wp_at_succ
def Rf(ops:Array Oper):Bool:=ops.all fun o=>match o.op with
 |.defer _=>false
 |_=>true
theorem zf9{ops:Array Oper}(h:Rf ops=true){j:Nat}{o:Oper}(e:ops[j]?=some o):∀c,o.op≠.defer c:=fun c hc=>by
 obtain⟨hj,rfl⟩:=aA.1 e;have:=(Array.all_eq_true.1 h) j hj;rw[hc] at this
 cases this
abbrev Fp(R:Act->World->Prop):Exit->Act->World->Prop:=fun e a w=>e=.normal/\R a w
theorem y97{R:Act->World->Prop}:¬LetsOut (Fp R):=fun⟨_,_,h,_⟩=>by cases h
theorem zw7{l n:Nat}{P:Program}{ops:Array Oper}{R:Act->World->Prop}{i:Nat}{K:Act->World->Prop}{a:Act}{w:World}(hd:Rf ops=true)(h:wpOp P ops (Fp R) i K a w):wpOpIn (Fence.wide.inRound l) n P ops (Fp R) i K a w:=by
 unfold wpOp at h;unfold wpOpIn
 cases ho:ops[i]? with
 |none=>rw[ho] at h;exact h
 |some o=>
  rw[ho] at h;simp only at h ⊢;by_cases hw:Region.wanted o (yielded ops a.tmps)=true
  ·rw[aO hw] at h ⊢;rcases h with h|h
   ·refine⟨fun _ _=>trivial,?_⟩;rw[Oper.semAt_eq _ _ _ (zf9 hd ho)];unfold Oper.wp at h;generalize (execOp a.eval o).run P w=r at h ⊢
    cases r with
    |ok x w'=>
     cases x with
     |value v=>exact h
     |skip=>exact h
     |defer d=>exact h
     |enter f args=>exact⟨fun e=>by simp[Fence.inRound,Fence.wide] at e,CallsIn.inRound l (dP.2 h)⟩
     |row row args=>exact⟨fun e=>by simp[Fence.inRound,Fence.wide] at e,fun c cs _=>by
       obtain⟨v,w'',hr,hs⟩:=h c cs;exact⟨v,w'',hr,stepsIn_wide.2 hs⟩⟩
     |_=>exact h.elim
    |halt x w'=>
     cases x with
     |panic v=>exact h
     |_=>exact h.elim
   ·exact absurd h.2 y97
  ·rw[au hw] at h ⊢;exact⟨fun _ _=>trivial,h⟩
theorem qt5{l n:Nat}{P:Program}{ops:Array Oper}{md:Region.Mode}{R:Act->World->Prop}(hd:Rf ops=true):∀(fuel:Nat) (listed:Array Bool) (a:Act) (w:World),wpAny P md ops (Fp R) fuel listed a w->wpAnyIn (Fence.wide.inRound l) n P md ops (Fp R) fuel listed a w
 |0,_,_,_,h=>h
 |fuel+1,_,_,_,h=>⟨h.1,fun i hi=>zw7 hd (wpOp_mono (fun a' w' h'=>qt5 hd fuel _ a' w' h') (h.2 i hi))⟩
theorem qt4{l n id:Nat}{P:Program}{ops:Array Oper}{R:Act->World->Prop}{S:World->Prop}{a:Act}{w:World}(hm:P.follows .mixedOrders=true)(hd:Rf ops=true)(hS:S w.drew)(h:S w.drew->wpAnyH P .any ops (Fp R) S ops.size (Array.replicate ops.size false) a w.drew):(Code.region id ops true).wpIn (Fence.wide.inRound l) n P (Fp R) a w:=
 wpIn_region_any hm (qt5 hd _ _ _ _ (wpAny_of_held _ _ _ _ (h hS)))
theorem zy7{P:Program}{g:Operand}{ps:Array Tmp}{assign body:Code}{Q:Exit->Act->World->Prop}{a:Act}{w:World}{gf:Nat}{lb:Array Value}(hg:a.eval g=.func (.func gf) #[] lb)(eg:∀args w,(callFunc gf args).run P w=.ok (.enter gf args) w)(enc:Array Value)(hps:enc.size=ps.size)(N:Nat)(I:Nat->World->Prop)(hseq:∀(r:Loop) (W:World),gZ w W->BK (w.heap.size+1) w.heap.size r W->I 0 W->(∀k W1,k<N->BK (w.heap.size+1) w.heap.size r W1->I k W1->YieldAt Fence.wide 1 P (w.heap.size+1) enc W1 fun e W'=>e=.returned (.bool true)/\BK (w.heap.size+1) w.heap.size r W'/\I (k+1) W')->CallsIn Fence.wide 2 P gf (#[.func (.yield (w.heap.size+1)) #[] #[]]++lb) W fun e W'=>(∃v,e=.returned v)/\BK (w.heap.size+1) w.heap.size r W'/\I N W')(hIa:∀(W:World) (o:Obj),I 0 W->I 0 (W.alloc o))(Y1:∀(k:Nat) (W:World) (o o':Obj),I k W->W.heap[w.heap.size+1]?=some o->o.isCells=false->I k (W.putObj (w.heap.size+1) o'))(h0:I 0 w)(yj:∀(k:Nat) (W:World),k<N->I k W->assign.wpIn (Fence.wide.inRound (w.heap.size+1)) 1 P (Exit.then (fun a' W'=>W'=W/\∀W2,I k W2->w.heap.size+1<W2.heap.size->body.wpIn (Fence.wide.inRound (w.heap.size+1)) 1 P (fun e _ W3=>e=.normal/\KeepsFrom w.heap.size W2 W3/\I (k+1) W3) a' W2) (fun _ _ _=>False)) {tmps:=(ps.zip enc).foldl (fun t (p,v)=>t.setIfInBounds p v) a.tmps,defers:=[]} W)(hdone:∀(W:World),I N W->W.heap[w.heap.size]?=some (.deferred (some []))->Q .normal {a with defers:={target:=.collected w.heap.size,args:=#[]} :: a.defers} W):(Code.rangeFunc g ps assign body).wpIn Fence.wide 3 P Q a w:=by
 refine wpIn_rangeFunc fun fn hfn=>?_;obtain⟨rec,hrec⟩:∃rec:LoopState->Loop,rec=fun st=>{state:=st,pending:=none,fn,tmps:=a.tmps,params:=ps,assign,body,defers:=w.heap.size}:=⟨_,rfl⟩;obtain⟨W1,hW1⟩:∃W1,(w.alloc (.deferred (some []))).alloc (.loop (rec .ready))=W1:=⟨_,rfl⟩;have hL1:W1.heap[w.heap.size+1]?=some (.loop (rec .ready)):=by
  have:=World.alloc_heap_new (w.alloc (.deferred (some []))) (.loop (rec .ready));rw[aN,hW1] at this;exact this
 have hK1:W1.heap[w.heap.size]?=some (.deferred (some [])):=by
  rw[<-hW1];exact(dH _ _ _ (by simp)).trans (World.alloc_heap_new w _)
 have hI1:I 0 W1:=by rw[<-hW1];exact hIa _ _ (hIa _ _ h0)
 have eu:gZ w W1:=by rw[<-hW1];exact((ay _ w).alloc (ah _) _).alloc (by simp) _
 refine⟨w.heap.size+1,[{target:=.collected w.heap.size,args:=#[]}],W1,{target:=.fn (.func gf) lb,args:=#[.func (.yield (w.heap.size+1)) #[] #[]]},W1,gf,#[.func (.yield (w.heap.size+1)) #[] #[]]++lb,W1,?_,?_,fun _ _=>trivial,?_,fun _=>by omega,?_⟩
 ·rw[<-hW1,hrec];exact run_enterLoop_outer _ _ _ _ _
 ·simp only[resolve,hg];simp[go_sem]
 ·simp[invoke,go_sem,eg]
 ·refine(hseq (rec .ready) W1 eu ⟨hL1,hK1⟩ hI1 ?_).mono ?_
  ·rintro k W hk ⟨hl,hd⟩ hpre;have hy:=run_yield (P:=P) (args:=enc) hl (by rw[hrec];exact hps);rw[hrec] at hy;refine⟨fn,_,assign,body,hy,roundIn_of_wpIn hfn (wpIn_mono (yj k W hk hpre) ?_)⟩;intro e a' Wa hp
   cases e with
   |normal=>
    obtain⟨rfl,hb⟩:=hp;have gK:w.heap.size+1<Wa.heap.size:=(aA.1 hl).1;refine⟨_,run_beginRound hl (by rw[hrec]),wpIn_mono (hb _ (Y1 _ _ _ _ hpre hl rfl) (by simpa using gK)) ?_⟩;rintro e3 a3 W3 ⟨rfl,hk3,hi3⟩;have hl3:=hk3.same _ _ (by omega) (World.putObj_heap_same gK) rfl;have hd3:=hk3.same _ _ (ah _) ((World.putObj_heap_other (by omega)).trans hd) rfl;have hr3:=run_endRound (P:=P) none hl3;refine⟨_,_,hr3,rfl,⟨?_,(World.putObj_heap_other (by omega)).trans hd3⟩,Y1 _ _ _ _ hi3 hl3 rfl⟩;have:=World.putObj_heap_same (o:=.loop (rec .ready)) (aA.1 hl3).1;rw[hrec] at this ⊢;exact this
   |ret=>exact hp.elim
   |exit id=>exact hp.elim
   |goto t=>exact hp.elim
   |panic ch=>exact hp.elim
   |outgrown=>exact hp.elim
  ·rintro e W2 ⟨⟨v,rfl⟩,⟨hl,hd⟩,hi⟩;have hend:=run_endLoop (P:=P) hl (by rw[hrec];simp);refine⟨none,_,by rw[hrec] at hend;exact hend,hdone _ (Y1 _ _ _ _ hi hl rfl) ((World.putObj_heap_other (by omega)).trans hd)⟩
theorem j34{P:Program}{c:Code}{K:Act->World->Prop}{Q':Exit->Act->World->Prop}{a:Act}{w:World}(h:c.wp P (Exit.then K fun _ _ _=>False) a w):c.wp P (Exit.then K Q') a w:=
 (dZ (n:=0)).1 (wpIn_mono ((dZ (n:=0)).2 h) fun e a w hp=>by cases e<;>first|exact hp|exact hp.elim)
abbrev Yc(B1 B2:Nat):Value:=.func (.func 326) #[] #[.pointer (some ⟨B1,0,none⟩),.pointer (some ⟨B2,0,none⟩)]
theorem zj0(a:Option Addr)(n c:Nat)(w:World):Calls Tryz.prog 277 #[.slice a n c,.int .i64 2] w fun e w'=>e=.returned (Yc w.heap.size (w.heap.size+1))/\Has w' w.heap.size #[.slice a n c]/\Has w' (w.heap.size+1) #[.int .i64 2]/\gZ w w'/\w'.heap.size=w.heap.size+2:=by
 go_in;go_wp2_with fail;go_ret;exact⟨rfl,(Has.new _ _ _).alloc _,BI _ _ _ _,(q01 _ _).alloc (by rw[aN];omega) _,by simp⟩
theorem y26(l D B1 B2 c:Nat)(a:Option Addr)(r:Loop)(I:Nat->World->Prop)(W:World)(c1:Has W B1 #[.slice a 0 c])(hbk:BK l D r W)(h0:I 0 W):CallsIn Fence.wide 2 Tryz.prog 326 #[.func (.yield l) #[] #[],.pointer (some ⟨B1,0,none⟩),.pointer (some ⟨B2,0,none⟩)] W fun e W'=>(∃v,e=.returned v)/\BK l D r W'/\I 0 W':=by
 have HJ:Hid (BK l D r W/\I 0 W):=⟨hbk,h0⟩;have k1:=c1.cell 0 rfl;have l1:=c1.1;refine dX Tryz.func326 rfl trivial ?_ rfl;simp only[Tryz.ntmps326,List.size_toArray,List.length_cons,List.length_nil,Nat.reduceAdd,Nat.reduceSub,Array.replicate_succ,Array.replicate_zero,List.push_toArray,List.append_toArray,List.nil_append,List.cons_append];gi_wp2
 gi_loopw [4] (fun i wr=>i=.int .i64 0/\Hid (wr=W)) (fun _ _=>0)
 case atStart=>exact⟨rfl,rfl⟩
 case round=>
  obtain⟨rfl,hw⟩:=hrel;obtain rfl:=hw.out;gi_wp2;go_end0;exact⟨⟨_,rfl⟩,HJ⟩
theorem y25(l D B1 B2 kb ko kc:Nat)(r:Loop)(I:Nat->World->Prop)(W:World)(hkc:2<=kc)(hbk:BK l D r W)(h0:I 0 W)(hI:∀k u,I k u->Has u B1 #[.slice (some ⟨kb,ko,none⟩) 2 kc]/\Has u B2 #[.int .i64 2])(hD:∀u n,I 0 u->I 0 (World.drewN u n))(hY:∀k W1,k<1->BK l D r W1->I k W1->YieldAt Fence.wide 1 Tryz.prog l #[.slice (some ⟨kb,ko,none⟩) 2 2] W1 fun e W'=>e=.returned (.bool true)/\BK l D r W'/\I (k+1) W'):CallsIn Fence.wide 2 Tryz.prog 326 #[.func (.yield l) #[] #[],.pointer (some ⟨B1,0,none⟩),.pointer (some ⟨B2,0,none⟩)] W fun e W'=>(∃v,e=.returned v)/\BK l D r W'/\I 1 W':=by
 have HJ:Hid (BK l D r W/\I 0 W):=⟨hbk,h0⟩;have HI:Hid (∀k u,I k u->Has u B1 #[.slice (some ⟨kb,ko,none⟩) 2 kc]/\Has u B2 #[.int .i64 2]):=hI;have HD:Hid (∀u n,I 0 u->I 0 (World.drewN u n)):=hD;have HY:Hid (∀k W1,k<1->BK l D r W1->I k W1->YieldAt Fence.wide 1 Tryz.prog l #[.slice (some ⟨kb,ko,none⟩) 2 2] W1 fun e W'=>e=.returned (.bool true)/\BK l D r W'/\I (k+1) W'):=hY;have hi1:(2:Int)<=(kc:Int):=by omega
 refine dX Tryz.func326 rfl trivial ?_ rfl;simp only[Tryz.ntmps326,List.size_toArray,List.length_cons,List.length_nil,Nat.reduceAdd,Nat.reduceSub,Array.replicate_succ,Array.replicate_zero,List.push_toArray,List.append_toArray,List.nil_append,List.cons_append];gi_wp2
 gi_loopw [4,5] (fun i j wr=>(i=.int .i64 0/\Hid (BK l D r wr/\I 0 wr))\/(i=.int .i64 2/\Hid (BK l D r wr/\I 1 wr))) (fun i _ _=>2-(intOf i).toNat)
 case atStart=>exact .inl ⟨rfl,HJ⟩
 case round=>
  rcases hrel with⟨rfl,HR⟩|⟨rfl,HR⟩
  ·obtain⟨k1,k2⟩:=HI.out 0 wr HR.2;have e1:=k1.cell 0 rfl;have e2:=k2.cell 0 rfl;have l1:=k1.1;have l2:=k2.1;gi_wp2;refine(dZ (n:=2)).2 ?_;refine j34 ?_
   go_quiet ((fail))
   rename_i hK3;refine hK3 _ _ ?_;have H2:Hid (BK l D r (wr.drewN nq)/\I 0 (wr.drewN nq)):=⟨HR.1,HD.out _ _ HR.2⟩;obtain⟨k1,k2⟩:=HI.out 0 _ H2.2;have e1:=k1.cell 0 rfl;have e2:=k2.cell 0 rfl;have l1:=k1.1;have l2:=k2.1;generalize wr.drewN nq=w2 at *;obtain⟨fn,tmps,assign,body,hy,hR⟩:=HY.out 0 w2 (by omega) H2.1 H2.2;gi_wp2;refine hR.mono ?_;rintro e w3 ⟨rfl,eH,hi3⟩;have H3:Hid (BK l D r w3/\I 1 w3):=⟨eH,hi3⟩;obtain⟨k1,k2⟩:=HI.out 1 _ H3.2;have e1:=k1.cell 0 rfl;have e2:=k2.cell 0 rfl;have l1:=k1.1;have l2:=k2.1;gi_wp2;exact⟨.inr ⟨rfl,H3⟩,by simp[intOf]⟩
  ·obtain⟨k1,k2⟩:=HI.out 1 wr HR.2;have e1:=k1.cell 0 rfl;have l1:=k1.1;gi_wp2;go_end0;exact⟨⟨_,rfl⟩,HR⟩
end
section
open Go.RowKit
attribute [local go_sem] iD
attribute [local go_sem ↓] Go.wp_at_zero Go.wp_at_succ
attribute [local go_sem] xX
attribute [local go_sem] Oper.semAt_some
theorem yc4:(Tryz.prog.info? 315).map (fun i=>(i.zero,i.size,i.bytes))=some (some .nilFunc,1,8):=by kernel_rfl
abbrev Ef(a b c:Nat):Value:=.func (.func 278) #[] #[ptr a,ptr b,ptr c]
abbrev wK:Value:=.func (.func 275) #[] #[]
def E8(M:Nat):Rel:=fun v n u=>∃a b c,v=Ef a b c/\Nb n u a #[ptr M]/\Nb n u b #[.slice none 0 0]/\Nb n u c #[wK]
def MF(M:Nat)(T:Rel):Rel:=fun v n u=>∃a b c g gc x,v=Ef a b c/\Nb n u a #[ptr M]/\Nb n u b #[.slice (some ⟨g,0,none⟩) 1 gc]/\Nb n u c #[wK]/\(n<=g/\g<u.heap.size/\u.cell? ⟨g,0,none⟩=some x)/\T x n u
theorem Eh(M:Nat):iY (E8 M):=⟨fun⟨a,b,c,e,h1,h2,h3⟩ k=>⟨a,b,c,e,h1.old k,h2.old k,h3.old k⟩,fun⟨a,b,c,e,h1,h2,h3⟩ f=>⟨a,b,c,e,h1.fr f,h2.fr f,h3.fr f⟩⟩
theorem NU(M:Nat){T:Rel}(kt:iY T):iY (MF M T):=⟨fun⟨a,b,c,g,gc,x,e,h1,h2,h3,h4,h5⟩ k=>⟨a,b,c,g,gc,x,e,h1.old k,h2.old k,h3.old k,⟨aV k h4.1,h4.2⟩,kt.old h5 k⟩,fun⟨a,b,c,g,gc,x,e,h1,h2,h3,h4,h5⟩ f=>⟨a,b,c,g,gc,x,e,h1.fr f,h2.fr f,h3.fr f,⟨h4.1,aH h4.2.1 f.s,(ak (a:=⟨g,0,none⟩) (f.k g h4.1 h4.2.1)).trans h4.2.2⟩,kt.fr h5 f⟩⟩
def QC(N M:Nat)(T:Rel):Rel:=if N=0 then E8 M else MF M T
structure TbR(w:World)(B:Nat)(W:World):Prop where
 g:Gx (fun q=>q=B) w W
 l:B<w.heap.size
structure sU(w:World)(B:Nat)(T:Rel)(k:Nat)(W:World):Prop where
 r:TbR w B W
 z:k=0->OwnB W B #[.slice none 0 0]
 o:k=1->∃(g gc:Nat) (V:Value) (n:Nat) (u1:World),OwnB W B #[.slice (some ⟨g,0,none⟩) 1 gc]/\w.heap.size+1<g/\g<W.heap.size/\W.cell? ⟨g,0,none⟩=some V/\T V n u1/\w.heap.size+1<n/\Fr n u1.heap.size u1 W
theorem sU.move{w:World}{B:Nat}{T:Rel}{k:Nat}{W W':World}(h:sU w B T k W){q:Nat}(hg:Gx (fun i=>i=q) W W')(hq:w.heap.size<=q/\q<=w.heap.size+1):sU w B T k W':=by
 have hl:=h.r.l;have hne:¬B=q:=by omega
 refine⟨⟨h.r.g.trans hg (fun i hi e=>by omega),hl⟩,fun e=>hg.ownB (h.z e) hne,fun e=>?_⟩;obtain⟨g,gc,V,n,u1,h1,h2,h3,h4,h5,h6,h7⟩:=h.o e;refine⟨g,gc,V,n,u1,hg.ownB h1 hne,h2,aH h3 hg.size,(ak (a:=⟨g,0,none⟩) (hg.block g h3 (by omega))).trans h4,h5,h6,⟨aV h7.s hg.size,fun i a b=>(hg.block i (by have:=h7.s;omega) (by omega)).trans (h7.k i a b)⟩⟩
theorem sU.put{w:World}{B:Nat}{T:Rel}{k:Nat}{W:World}(h:sU w B T k W){q:Nat}(o':Obj)(hq:w.heap.size<=q/\q<=w.heap.size+1):sU w B T k (W.putObj q o'):=h.move ((Gx.grown (grownBy_putObj' W q o')).mono (fun _ e=>(aQ e).symm)) hq
theorem sU.below{w:World}{B:Nat}{T:Rel}{W W':World}(h:sU w B T 0 W)(hb:gZ W W'):sU w B T 0 W':=⟨⟨h.r.g.trans (Gx.below (fun q=>q=B) hb) (fun _ _ e=>e),h.r.l⟩,fun e=>(h.z e).call hb,fun e=>by omega⟩
theorem sU.push{w:World}{B:Nat}{T:Rel}{W w1 w2 w7:World}{V v':Value}(h:sU w B T 0 W)(hW:w.heap.size+1<W.heap.size)(eu:gZ W w1)(hr:T V W.heap.size w1)(eG:gZ W w2)(hx:gZ w1 w2){t:TypeId}(ho:w7.ownsRow 0 t 1 v' (0+1) ([]++[V]))(hg:w2.grownBy w7 (Value.slice none 0 0).ownBlock)(hat:v'.ownBlock=(Value.slice none 0 0).ownBlock\/v'.ownBlock=some w2.heap.size):∃g gc,v'=.slice (some ⟨g,0,none⟩) 1 gc/\Hid (OwnB w7 B #[.slice none 0 0]/\(KeepsFrom w.heap.size W (w7.setCell ⟨B,0,none⟩ (.slice (some ⟨g,0,none⟩) 1 gc))/\sU w B T 1 (w7.setCell ⟨B,0,none⟩ (.slice (some ⟨g,0,none⟩) 1 gc)))):=by
 rw[jg] at hg;have hg':Gx (fun _=>False) W w7:=(Gx.below (fun _=>False) eG).trans (Gx.grown hg) (fun i _ e=>by cases e);have hB:=h.r.l;rcases ho.2 with⟨_,h1⟩|⟨g,c,cur,rfl,h1,h2,_⟩
 ·omega
 have hge:g=w2.heap.size:=by
  rw[jg,jg] at hat;rcases hat with e|e
  ·cases e
  ·exact aQ e
 have fH:=eu.size;have fJ:=eG.size;have hgl:g<w7.heap.size:=(aA.1 h2).1;have hgB:g≠B:=by omega
 have hO:=hg'.ownB (h.z rfl) id;have hgs:=hg'.size;refine⟨g,c,rfl,hO,⟨by simpa using hg'.size,fun k o hk e _=>?_⟩,⟨h.r.g.trans ((hg'.mono (S':=fun q=>q=B) (fun _ e=>e.elim)).trans (Gx.set w7 B 0 _) (fun _ _ e=>e)) (fun _ _ e=>e),hB⟩,fun e=>by omega,fun _=>⟨g,c,V,W.heap.size,w1,hO.set (o:=0) (by show 0<1;omega) _,by omega,by simpa using hgl,?_,hr,hW,⟨?_,fun i a b=>?_⟩⟩⟩
 ·exact(aK _ ⟨B,0,none⟩ _ k (by show k≠B;omega)).trans ((hg'.block k (aA.1 e).1 id).trans e)
 ·refine(ak (a:=⟨g,0,none⟩) (aK _ ⟨B,0,none⟩ _ g hgB)).trans ?_;have:=ho.cells (g:=g) rfl 0 V (by simp);simpa[Addr.add] using this
 ·have:=hx.size;have:=hg.size;simp;omega
 ·exact(aK _ ⟨B,0,none⟩ _ i (by show i≠B;omega)).trans ((hg.block i (by have:=hx.size;omega) (fun e=>by cases e)).trans (hx.block i b))
abbrev zD(q:ND)(y:NA)(ka:Option Addr)(kn:Nat):Array Value:=#[.int .i64 35,.int .i64 q.l,.int .i64 0,.int .i64 q.n,.float .f64 q.f,.string q.s,.slice y.ra q.rn y.rc,.slice ka kn y.kc]
theorem yw9{q:ND}{y:NA}{ka:Option Addr}{kn:Nat}(h1:q.k=35)(h0:q.o=0)(h2:y.ka=ka)(h3:q.kn=kn):jP q y=.agg (zD q y ka kn):=by
 subst h2 h3;have:jP q y=.agg (y8 35 q y y.ka q.kn):=(yT h1 rfl rfl).1;rw[this];unfold y8 zD;rw[h0]
structure TbX(w:World)(M bb s2 s5 s7 s9 c1 c2:Nat)(a:Option Addr)(n c:Nat)(w5:World):Prop where
 k:gZ w w5
 h2:Has w5 s2 #[ptr bb]
 h5:Has w5 s5 #[ptr M]
 h7:Has w5 s7 #[wK]
 h9:OwnB w5 s9 #[.slice none 0 0]
 i1:Has w5 c1 #[.slice a n c]
 i2:Has w5 c2 #[.int .i64 2]
 d:s2≠s9/\s5≠s9/\s7≠s9/\c1≠s9/\c2≠s9
 g:w.heap.size<=s5/\w.heap.size<=s7/\w.heap.size<=s9
theorem z30(M bb N:Nat)(T:Rel)(q:ND)(y:NA)(nd:Value)(ka:Option Addr)(w:World)(kt:iY T)(hN:N<=1)(hk:q.k=35)(ho:q.o=0)(fE:q.kn=2*N)(hka:y.ka=ka)(hk1:N=1->∃kb ko,ka=some ⟨kb,ko,none⟩/\2<=y.kc)(hb:Has w bb #[ptr M,nd])(hT:∀kb ko u,N=1->ka=some ⟨kb,ko,none⟩->gZ w u->Calls Tryz.prog 223 #[ptr bb,.slice ka 2 2] u fun e u'=>Mks T u e u'):Calls Tryz.prog 228 #[ptr bb,jP q y] w fun e w'=>Mks (QC N M T) w e w':=by
 rw[yw9 hk ho hka fE];have b0:=hb.cell 0 rfl;have hbl:=hb.1;have hmf:=qV;have HT:Hid (∀u,N=1->gZ w u->Calls Tryz.prog 223 #[ptr bb,.slice ka 2 2] u fun e u'=>Mks T u e u'):=fun u h1 hu=>by
  obtain⟨kb,ko,e,_⟩:=hk1 h1;exact hT kb ko u h1 e hu
 have HK:Hid (iY T/\(N=1->∃kb ko,ka=some ⟨kb,ko,none⟩/\2<=y.kc)):=⟨kt,hk1⟩;clear hT hk1 kt hb hk ho hka fE;refine dP.1 (callsIn_of_wp_marks (F:=Fence.wide) (n:=3) Tryz.func228 rfl trivial ?_ rfl);simp only[Tryz.ntmps228,List.size_toArray,List.length_cons,List.length_nil,Nat.reduceAdd,Nat.reduceSub,Array.replicate_succ,Array.replicate_zero,List.push_toArray,List.append_toArray,List.nil_append,List.cons_append];refine dZ.2 ?_;go_wp2_with fail;obtain⟨w4,hw4⟩:∃w4,(((((w.alloc (.cells #[ptr bb] 114)).alloc (.cells (zD q y ka (2*N)) 48)).alloc (.cells #[ptr M] 39)).alloc (.cells #[wK] 356)).alloc (.cells #[.slice none 0 0] 358))=w4:=⟨_,rfl⟩;obtain⟨s2,fJ⟩:∃s2,w.heap.size=s2:=⟨_,rfl⟩;obtain⟨s5,fP⟩:∃s5,w.heap.size+1 + 1=s5:=⟨_,rfl⟩;obtain⟨s7,hs7⟩:∃s7,w.heap.size+1 + 1+1=s7:=⟨_,rfl⟩;obtain⟨s9,hs9⟩:∃s9,w.heap.size+1 + 1+1 + 1=s9:=⟨_,rfl⟩;have H4:Hid (gZ w w4/\Has w4 s2 #[ptr bb]/\Has w4 s5 #[ptr M]/\Has w4 s7 #[wK]/\OwnB w4 s9 #[.slice none 0 0]/\w4.heap.size=w.heap.size+5/\w.heap.size=s2/\w.heap.size+2=s5/\w.heap.size+3=s7/\w.heap.size+4=s9):=by
  rw[<-hw4,<-fJ,<-fP,<-hs7,<-hs9];refine⟨?_,?_,?_,?_,?_,by simp,rfl,rfl,rfl,rfl⟩
  ·exact((((q01 _ _).alloc (by simp) _).alloc (by simp;omega) _).alloc (by simp;omega) _).alloc (by simp;omega) _
  ·exact((((Has.new _ _ _).alloc _).alloc _).alloc _).alloc _
  ·have h:=Has.new ((w.alloc (.cells #[ptr bb] 114)).alloc (.cells (zD q y ka (2*N)) 48)) #[ptr M] 39;rw[aN,aN] at h;exact(h.alloc _).alloc _
  ·have h:=Has.new (((w.alloc (.cells #[ptr bb] 114)).alloc (.cells (zD q y ka (2*N)) 48)).alloc (.cells #[ptr M] 39)) #[wK] 356;rw[aN,aN,aN] at h;exact h.alloc _
  ·have h:=OwnB.new ((((w.alloc (.cells #[ptr bb] 114)).alloc (.cells (zD q y ka (2*N)) 48)).alloc (.cells #[ptr M] 39)).alloc (.cells #[wK] 356)) #[.slice none 0 0] 358;rw[aN,aN,aN,aN] at h;exact h
 rw[hw4,hs9,hs7,fP,fJ];clear hw4 fJ fP hs7 hs9 b0 hbl;refine(zj0 _ _ _ w4).mono ?_;rintro e w5 ⟨rfl,i1,i2,eX,Tn⟩;obtain⟨c1,hc1⟩:∃c1,w4.heap.size=c1:=⟨_,rfl⟩;obtain⟨c2,hc2⟩:∃c2,w4.heap.size+1=c2:=⟨_,rfl⟩;have H5:Hid (TbX w M bb s2 s5 s7 s9 c1 c2 ka (2*N) y.kc w5):=by
  obtain⟨a1,a2,a3,a4,a5,a6,a7,a8,a9,a10⟩:=H4.out;rw[<-hc1,<-hc2];exact⟨iq a1 eX,a2.call eX,a3.call eX,a4.call eX,a5.call eX,i1,i2,⟨by omega,by omega,by omega,by omega,by omega⟩,⟨by omega,by omega,by omega⟩⟩
 rw[hc2,hc1];clear i1 i2 eX Tn H4 hc1 hc2;go_wp2_with fail;refine(dZ (n:=3)).1 ?_;have HG:Hid (∀k W,sU w5 s9 T k W->Has W c1 #[.slice ka (2*N) y.kc]/\Has W c2 #[.int .i64 2]/\Has W s2 #[ptr bb]/\Has W s5 #[ptr M]/\Has W s7 #[wK]/\gZ w W):=fun k W h=>⟨h.r.g.has H5.i1 H5.d.2.2.2.1,h.r.g.has H5.i2 H5.d.2.2.2.2,h.r.g.has H5.h2 H5.d.1,h.r.g.has H5.h5 H5.d.2.1,h.r.g.has H5.h7 H5.d.2.2.1,H5.k.trans (h.r.g.to H5.k.size (fun i e=>by rw[e];exact H5.g.2.2))⟩;have H50:Hid (sU w5 s9 T 0 w5):=⟨⟨Gx.refl _ _,H5.h9.1.1⟩,fun _=>H5.h9,fun e=>by omega⟩;refine zy7 (gf:=326) (lb:=#[.pointer (some ⟨c1,0,none⟩),.pointer (some ⟨c2,0,none⟩)]) rfl (enters_of Tryz.func326 (by kernel_rfl) rfl) #[.slice ka 2 2] rfl N (sU w5 s9 T) ?seq (fun W o h=>h.below (q01 _ _)) (fun k W o o' h _ _=>h.put o' (by omega)) H50.out ?round ?done
 case seq=>
  intro r W hB hbk h0 hY;rcases(show N=0\/N=1 by omega) with rfl|rfl
  ·exact y26 _ _ c1 c2 y.kc ka r _ W (HG 0 W h0).1 hbk h0
  ·obtain⟨kb,ko,rfl,hkc⟩:=HK.2 rfl;exact y25 _ _ c1 c2 kb ko y.kc r _ W hkc hbk h0 (fun k u h=>⟨(HG k u h).1,(HG k u h).2.1⟩) (fun u n h=>h.below (dw (ay _ _) n)) hY
 case round=>
  intro k W0 hkN _;obtain rfl:k=0:=by omega
  obtain rfl:N=1:=by omega
  gi_wp2;intro W hS hW;have HI:Hid (sU w5 s9 T 0 W):=hS;have YA:Hid (w5.heap.size+1<W.heap.size):=hW;have qE:Hid (∀u,gZ W u->u.cell? ⟨s2,0,none⟩=some (ptr bb)):=fun u hu=>((HG.out 0 W hS).2.2.1.call hu).cell 0 rfl;have HC:Hid (∀u,gZ W u->u.cell? ⟨s9,0,none⟩=some (.slice none 0 0)):=fun u hu=>((hS.z rfl).call hu).1.cell 0 rfl;have KD:Hid (∀u,gZ W u->s9<u.heap.size):=fun u hu=>((hS.z rfl).call hu).1.1;have Q7:Hid (∀u,gZ W u->Calls Tryz.prog 223 #[ptr bb,.slice ka 2 2] u fun e u'=>Mks T u e u'):=fun u hu=>HT.out u trivial (iq (HG.out 0 W hS).2.2.2.2.2 hu);have Mc:Hid (∀u,KeepsFrom w5.heap.size W u/\sU w5 s9 T 1 u->u.cell? ⟨s2,0,none⟩=some (ptr bb)):=fun u hu=>(HG.out 1 u hu.2).2.2.1.cell 0 rfl;have HB:Hid (gZ W W.drew):=(ay _ _).drew;obtain⟨i0,gU,gQ,hy1,hy2⟩:=bT yc4;clear hS hW;gi_wp2;refine wpIn_mono (Q:=Fp fun _ u=>KeepsFrom w5.heap.size W u/\sU w5 s9 T 1 u) ?reg ?go
  case go=>
   rintro e a u ⟨rfl,h1,h2⟩;gi_wp2
  case reg=>
   refine qt4 (S:=fun u=>u.cell? ⟨s2,0,none⟩=some (ptr bb)) (by kernel_rfl) (by kernel_rfl) (qE.out _ HB.out) (fun iI=>?_)
   (refine wpAnyH_take (i:=1) (oi:=⟨some 41,_,_,_,_,_⟩) (v:=?v1) rfl (by kernel_rfl) (by kernel_rfl) (by kernel_rfl) (fun _ _ _ h=>h) (Or.inl ⟨by rfl,?hy1⟩) (by assumption) ?yQ;case hy1=>(intro wz hSw;(try dsimp only at hSw);go_simp<;>with_reducible rfl);try simp only[Act.put,iT,iR,iQ])
   (refine wpAnyH_take (i:=2) (oi:=⟨some 42,_,_,_,_,_⟩) (v:=?v2) rfl (by kernel_rfl) (by kernel_rfl) (by kernel_rfl) (fun _ _ _ h=>h) (Or.inl ⟨by rfl,?hy2⟩) (by assumption) ?yP;case hy2=>(intro wz hSw;(try dsimp only at hSw);go_simp<;>with_reducible rfl);try simp only[Act.put,iT,iR,iQ])
   refine wpAnyH_ready (rs:=[0,3]) (by kernel_rfl) (by simp) ?_;refine AllReadyH.cons (o:=⟨some 40,_,_,_,_,_⟩) rfl (fun K hK=>?_) ?_
   ·skip
    have k0:=HC.out _ HB.out;have Gy:=KD.out _ HB.out;go_simp;clear k0 Gy;refine hK.out _ _ (qE _ HB) (fun hHeld=>?_);clear hK K iI;have iI:=hHeld;clear hHeld;try simp only[Act.put,iT,iR,iQ]
    refine wpAnyH_ready (rs:=[3]) (by kernel_rfl) (by simp) ?_;refine AllReadyH.cons (o:=⟨some 43,_,_,_,_,_⟩) rfl (fun K hK=>?_) AllReadyH.nil;go_simp;refine(Q7 _ HB).mono ?_;rintro e w1 ⟨ff,fx,fy,rfl,fG,eu⟩;have gW:Hid (T (.func ff fx fy) W.heap.size w1):=fG;replace HB:Hid (gZ W w1):=iq HB.out eu;clear fG eu;dsimp only;refine hK.out _ _ (qE _ HB) (fun hHeld=>?_);clear hK K iI;have iI:=hHeld;clear hHeld;try simp only[Act.put,iT,iR,iQ]
    refine wpAnyH_ready (rs:=[4]) (by kernel_rfl) (by simp) ?_;refine AllReadyH.cons (o:=⟨some 44,_,_,_,_,_⟩) rfl (fun K hK=>?_) AllReadyH.nil;go_simp;have fB:Hid (gZ W w1):=HB.out;replace HB:Hid (gZ W (w1.alloc (.cells #[.func ff fx fy] 315))):=iq fB.out (q01 _ _);refine hK.out _ _ (qE _ HB) (fun hHeld=>?_);clear hK K iI;have iI:=hHeld;clear hHeld;try simp only[Act.put,iT,iR,iQ]
    refine wpAnyH_ready (rs:=[5]) (by kernel_rfl) (by simp) ?_;refine AllReadyH.cons (o:=⟨some 45,_,_,_,_,_⟩) rfl (fun K hK=>?_) AllReadyH.nil;obtain⟨v',w7,gq,gB,gY,_,hat⟩:=run_append_own_at (P:=Tryz.prog) (w1.alloc (.cells #[.func ff fx fy] 315)) 0 358 358 315 i0 _ 1 8 Tryz.underlying358 gU gQ hy1 hy2 rfl (by decide) (.slice none 0 0) 0 [] (aX _ _ _ _) ⟨w1.heap.size,0,none⟩ 1 1 [.func ff fx fy] rfl (cell_one_new _ _ _) (by simp[Value.oneCell']) (by unfold maxLen;omega) (by omega) (aF _);obtain⟨g,gc,rfl,HN⟩:=sU.push HI.out YA.out fB.out gW.out HB.out (q01 _ _) gB gY hat;have Af:Hid (w7.cell? ⟨s2,0,none⟩=some (ptr bb)):=(ak (a:=⟨s2,0,none⟩) (aK w7 ⟨s9,0,none⟩ _ s2 H5.d.1)).symm.trans (Mc.out _ HN.2);have m7:=HN.1.1.cell 0 rfl;have z7:=HN.1.2;have l7:=HN.1.1.1;clear gB gY hat;refine xU (by rfl) _ _ _ _ (by rfl) (.slice none 0 0) (.slice (some ⟨w1.heap.size,0,none⟩) 1 1) _ _ (by rfl) (by rfl) gq ?_;clear gq;refine hK.out _ _ Af (fun hHeld=>?_);clear hK K iI;have iI:=hHeld;clear hHeld;try simp only[Act.put,iT,iR,iQ]
    refine wpAnyH_ready (rs:=[6]) (by kernel_rfl) (by simp) ?_;refine AllReadyH.cons (o:=⟨none,_,_,_,_,_⟩) rfl (fun K hK=>?_) AllReadyH.nil;go_simp;refine hK.out _ _ (Mc _ HN.2) (fun hHeld=>?_);clear hK K iI;have iI:=hHeld;clear hHeld;try simp only[Act.put,iT,iR,iQ]
    exact wpAnyH_done (by kernel_rfl) ⟨rfl,HN.2⟩ _
   ·refine AllReadyH.cons (o:=⟨some 43,_,_,_,_,_⟩) rfl (fun K hK=>?_) AllReadyH.nil;go_simp;refine(Q7 _ HB).mono ?_;rintro e w1 ⟨ff,fx,fy,rfl,fG,eu⟩;have gW:Hid (T (.func ff fx fy) W.heap.size w1):=fG;replace HB:Hid (gZ W w1):=iq HB.out eu;clear fG eu;dsimp only;refine hK.out _ _ (qE _ HB) (fun hHeld=>?_);clear hK K iI;have iI:=hHeld;clear hHeld;try simp only[Act.put,iT,iR,iQ]
    refine wpAnyH_ready (rs:=[0,4]) (by kernel_rfl) (by simp) ?_;refine AllReadyH.cons (o:=⟨some 40,_,_,_,_,_⟩) rfl (fun K hK=>?_) ?_
    ·skip
     have k0:=HC.out _ HB.out;have Gy:=KD.out _ HB.out;go_simp;clear k0 Gy;refine hK.out _ _ (qE _ HB) (fun hHeld=>?_);clear hK K iI;have iI:=hHeld;clear hHeld;try simp only[Act.put,iT,iR,iQ]
     refine wpAnyH_ready (rs:=[4]) (by kernel_rfl) (by simp) ?_;refine AllReadyH.cons (o:=⟨some 44,_,_,_,_,_⟩) rfl (fun K hK=>?_) AllReadyH.nil;go_simp;have fB:Hid (gZ W w1):=HB.out;replace HB:Hid (gZ W (w1.alloc (.cells #[.func ff fx fy] 315))):=iq fB.out (q01 _ _);refine hK.out _ _ (qE _ HB) (fun hHeld=>?_);clear hK K iI;have iI:=hHeld;clear hHeld;try simp only[Act.put,iT,iR,iQ]
     refine wpAnyH_ready (rs:=[5]) (by kernel_rfl) (by simp) ?_;refine AllReadyH.cons (o:=⟨some 45,_,_,_,_,_⟩) rfl (fun K hK=>?_) AllReadyH.nil;obtain⟨v',w7,gq,gB,gY,_,hat⟩:=run_append_own_at (P:=Tryz.prog) (w1.alloc (.cells #[.func ff fx fy] 315)) 0 358 358 315 i0 _ 1 8 Tryz.underlying358 gU gQ hy1 hy2 rfl (by decide) (.slice none 0 0) 0 [] (aX _ _ _ _) ⟨w1.heap.size,0,none⟩ 1 1 [.func ff fx fy] rfl (cell_one_new _ _ _) (by simp[Value.oneCell']) (by unfold maxLen;omega) (by omega) (aF _);obtain⟨g,gc,rfl,HN⟩:=sU.push HI.out YA.out fB.out gW.out HB.out (q01 _ _) gB gY hat;have Af:Hid (w7.cell? ⟨s2,0,none⟩=some (ptr bb)):=(ak (a:=⟨s2,0,none⟩) (aK w7 ⟨s9,0,none⟩ _ s2 H5.d.1)).symm.trans (Mc.out _ HN.2);have m7:=HN.1.1.cell 0 rfl;have z7:=HN.1.2;have l7:=HN.1.1.1;clear gB gY hat;refine xU (by rfl) _ _ _ _ (by rfl) (.slice none 0 0) (.slice (some ⟨w1.heap.size,0,none⟩) 1 1) _ _ (by rfl) (by rfl) gq ?_;clear gq;refine hK.out _ _ Af (fun hHeld=>?_);clear hK K iI;have iI:=hHeld;clear hHeld;try simp only[Act.put,iT,iR,iQ]
     refine wpAnyH_ready (rs:=[6]) (by kernel_rfl) (by simp) ?_;refine AllReadyH.cons (o:=⟨none,_,_,_,_,_⟩) rfl (fun K hK=>?_) AllReadyH.nil;go_simp;refine hK.out _ _ (Mc _ HN.2) (fun hHeld=>?_);clear hK K iI;have iI:=hHeld;clear hHeld;try simp only[Act.put,iT,iR,iQ]
     exact wpAnyH_done (by kernel_rfl) ⟨rfl,HN.2⟩ _
    ·refine AllReadyH.cons (o:=⟨some 44,_,_,_,_,_⟩) rfl (fun K hK=>?_) AllReadyH.nil;go_simp;have fB:Hid (gZ W w1):=HB.out;replace HB:Hid (gZ W (w1.alloc (.cells #[.func ff fx fy] 315))):=iq fB.out (q01 _ _);refine hK.out _ _ (qE _ HB) (fun hHeld=>?_);clear hK K iI;have iI:=hHeld;clear hHeld;try simp only[Act.put,iT,iR,iQ]
     refine wpAnyH_ready (rs:=[0]) (by kernel_rfl) (by simp) ?_;refine AllReadyH.cons (o:=⟨some 40,_,_,_,_,_⟩) rfl (fun K hK=>?_) AllReadyH.nil;have k0:=HC.out _ HB.out;have Gy:=KD.out _ HB.out;go_simp;clear k0 Gy;refine hK.out _ _ (qE _ HB) (fun hHeld=>?_);clear hK K iI;have iI:=hHeld;clear hHeld;try simp only[Act.put,iT,iR,iQ]
     refine wpAnyH_ready (rs:=[5]) (by kernel_rfl) (by simp) ?_;refine AllReadyH.cons (o:=⟨some 45,_,_,_,_,_⟩) rfl (fun K hK=>?_) AllReadyH.nil;obtain⟨v',w7,gq,gB,gY,_,hat⟩:=run_append_own_at (P:=Tryz.prog) (w1.alloc (.cells #[.func ff fx fy] 315)) 0 358 358 315 i0 _ 1 8 Tryz.underlying358 gU gQ hy1 hy2 rfl (by decide) (.slice none 0 0) 0 [] (aX _ _ _ _) ⟨w1.heap.size,0,none⟩ 1 1 [.func ff fx fy] rfl (cell_one_new _ _ _) (by simp[Value.oneCell']) (by unfold maxLen;omega) (by omega) (aF _);obtain⟨g,gc,rfl,HN⟩:=sU.push HI.out YA.out fB.out gW.out HB.out (q01 _ _) gB gY hat;have Af:Hid (w7.cell? ⟨s2,0,none⟩=some (ptr bb)):=(ak (a:=⟨s2,0,none⟩) (aK w7 ⟨s9,0,none⟩ _ s2 H5.d.1)).symm.trans (Mc.out _ HN.2);have m7:=HN.1.1.cell 0 rfl;have z7:=HN.1.2;have l7:=HN.1.1.1;clear gB gY hat;refine xU (by rfl) _ _ _ _ (by rfl) (.slice none 0 0) (.slice (some ⟨w1.heap.size,0,none⟩) 1 1) _ _ (by rfl) (by rfl) gq ?_;clear gq;refine hK.out _ _ Af (fun hHeld=>?_);clear hK K iI;have iI:=hHeld;clear hHeld;try simp only[Act.put,iT,iR,iQ]
     refine wpAnyH_ready (rs:=[6]) (by kernel_rfl) (by simp) ?_;refine AllReadyH.cons (o:=⟨none,_,_,_,_,_⟩) rfl (fun K hK=>?_) AllReadyH.nil;go_simp;refine hK.out _ _ (Mc _ HN.2) (fun hHeld=>?_);clear hK K iI;have iI:=hHeld;clear hHeld;try simp only[Act.put,iT,iR,iQ]
     exact wpAnyH_done (by kernel_rfl) ⟨rfl,HN.2⟩ _
 case done=>
  intro W hS hD;have HF:Hid (W.heap[w5.heap.size]?=some (.deferred (some []))/\Mks (QC N M T) w (.returned (Ef s5 s9 s7)) (W.putObj w5.heap.size (.deferred none))):=by
   have hP:sU w5 s9 T N (W.putObj w5.heap.size (.deferred none)):=hS.put _ (by omega);obtain⟨_,_,_,g5,g7,gk⟩:=HG.out N _ hP;obtain⟨a5,a7,a9⟩:=H5.g;have hsz:=H5.k.size;refine⟨hD,_,_,_,rfl,?_,gk⟩;rcases(show N=0\/N=1 by omega) with rfl|rfl
   ·unfold QC;rw[aO rfl];exact⟨s5,s9,s7,rfl,⟨a5,g5⟩,⟨a9,(hP.z rfl).1⟩,⟨a7,g7⟩⟩
   ·unfold QC;rw[au (by omega)];obtain⟨g,gc,V,n,u1,h1,h2,h3,h4,h5,h6,h7⟩:=hP.o rfl;exact⟨s5,s9,s7,g,gc,V,rfl,⟨a5,g5⟩,⟨a9,h1.1⟩,⟨a7,g7⟩,⟨by omega,h3,h4⟩,HK.1.old (HK.1.fr h5 h7) (by omega)⟩
  clear hS hD;go_wp2_with fail;refine⟨by simp,.inl ⟨_,_,rfl,run_takeDeferred HF.1,?_⟩⟩;refine⟨Ef s5 s9 s7,?_,HF.2⟩;simp[results,Tryz.results228,go_sem]
theorem zl4(M bb:Nat)(q:ND)(y:NA)(nd:Value)(w:World)(hk:q.k=35)(ho:q.o=0)(fE:q.kn=0)(hb:Has w bb #[ptr M,nd]):Calls Tryz.prog 228 #[ptr bb,jP q y] w fun e w'=>Mks (E8 M) w e w':=
 z30 M bb 0 (E8 M) q y nd y.ka w (Eh M) (by omega) hk ho fE rfl (fun e=>by omega) hb (fun _ _ _ e=>by omega)
theorem zl2(M bb:Nat)(R S:Rel)(q:ND)(y:NA)(nd:Value)(kb ko i j:Nat)(w:World)(kr:iY R)(ks:iY S)(hk:q.k=35)(ho:q.o=0)(fE:q.kn=2)(hka:y.ka=some ⟨kb,ko,none⟩)(hkc:2<=y.kc)(hkb:kb<w.heap.size)(hb:Has w bb #[ptr M,nd])(hc0:w.cell? ⟨kb,ko,none⟩=some (.int .i64 (i:Int)))(hc1:w.cell? ⟨kb,ko+1,none⟩=some (.int .i64 (j:Int)))(hA:iP 181 bb w i R)(hB:iP 181 bb w j S):Calls Tryz.prog 228 #[ptr bb,jP q y] w fun e w'=>Mks (MF M (z23 R S)) w e w':=
 z30 M bb 1 (z23 R S) q y nd _ w (BJ kr ks) (by omega) hk ho fE hka (fun _=>⟨kb,ko,rfl,hkc⟩) hb (fun _ _ u _ e hu=>by
  cases e;exact z29 bb R S kb ko 2 i j u kr ks (aH hkb hu.size) ((hu.cell (p:=⟨kb,ko,none⟩) hkb).trans hc0) ((hu.cell (p:=⟨kb,ko+1,none⟩) hkb).trans hc1) (hA.call hu) (hB.call hu))
end
section
open Go.RowKit
attribute [local go_sem] iD
attribute [local go_sem ↓] Go.wp_at_zero Go.wp_at_succ
attribute [local go_sem] xX
abbrev jc9(a b c d:Nat):Value:=.func (.func 210) #[] #[ptr a,ptr b,ptr c,ptr d]
def MC(M:Nat)(A:Array Value)(R S:Rel):Rel:=fun v n u=>∃a b c d x y,v=jc9 a b c d/\Nb n u a #[ptr M]/\Nb n u b #[x]/\Nb n u c A/\Nb n u d #[y]/\R x n u/\S y n u
theorem ZN(M:Nat)(A:Array Value){R S:Rel}(kr:iY R)(ks:iY S):iY (MC M A R S):=⟨fun⟨a,b,c,d,x,y,e,h,h2,h3,h4,r,s⟩ k=>⟨a,b,c,d,x,y,e,h.old k,h2.old k,h3.old k,h4.old k,kr.old r k,ks.old s k⟩,fun⟨a,b,c,d,x,y,e,h,h2,h3,h4,r,s⟩ f=>⟨a,b,c,d,x,y,e,h.fr f,h2.fr f,h3.fr f,h4.fr f,kr.fr r f,ks.fr s f⟩⟩
theorem zp6(M bb:Nat)(R S:Rel)(q:ND)(y:NA)(nd:Value)(kb ko i j:Nat)(w:World)(kr:iY R)(ks:iY S)(hk:q.k=8)(fE:q.kn=2)(hka:y.ka=some ⟨kb,ko,none⟩)(hkb:kb<w.heap.size)(hb:Has w bb #[ptr M,nd])(hc0:w.cell? ⟨kb,ko,none⟩=some (.int .i64 (i:Int)))(hc1:w.cell? ⟨kb,ko+1,none⟩=some (.int .i64 (j:Int)))(hA:iP 181 bb w i R)(hB:iP 85 bb w j S):Calls Tryz.prog 176 #[ptr bb,jP q y] w fun e w'=>Mks (MC M (kQ q y) R S) w e w':=by
 have HA:Hid (∀u,gZ w u->Calls Tryz.prog 181 #[ptr bb,.int .i64 (i:Int)] u fun e u'=>Mks R u e u'):=hA;have HA2:Hid (∀u,gZ w u->Calls Tryz.prog 85 #[ptr bb,.int .i64 (j:Int)] u fun e u'=>Mks S u e u'):=hB;have uJ:Hid (iY R/\iY S):=⟨kr,ks⟩;have hmf:=qV;have b0:=hb.cell 0 rfl;have hbl:=hb.1;rw[(yT hk hka fE).1,(yT hk hka fE).2];go_in
 go_upto_region 2 with fail
 obtain⟨w0,hw0⟩:∃w0,(w.alloc (.cells (y8 8 q y (some ⟨kb,ko,none⟩) 2) 48)).alloc (.cells #[ptr M] 39)=w0:=⟨_,rfl⟩;have HW0:Hid (gZ w w0/\Has w0 w.heap.size (y8 8 q y (some ⟨kb,ko,none⟩) 2)/\Has w0 (w.heap.size+1) #[ptr M]/\w0.heap.size=w.heap.size+2):=by rw[<-hw0];exact⟨kF _ _ _,(Has.new _ _ _).alloc _,BI _ _ _ _,by simp⟩
 rw[hw0];have HC:Hid (∀u,gZ w0 u->u.cell? ⟨w.heap.size,7,none⟩=some (.slice (some ⟨kb,ko,none⟩) 2 y.kc)/\u.cell? ⟨kb,ko,none⟩=some (.int .i64 (i:Int))/\u.cell? ⟨kb,ko+1,none⟩=some (.int .i64 (j:Int))):=fun u hu=>⟨(HW0.2.1.call hu).cell 7 rfl,(hu.cell (p:=⟨kb,ko,none⟩) (by show kb<w0.heap.size;have:=HW0.2.2.2;omega)).trans ((HW0.1.cell (p:=⟨kb,ko,none⟩) hkb).trans hc0),(hu.cell (p:=⟨kb,ko+1,none⟩) (by show kb<w0.heap.size;have:=HW0.2.2.2;omega)).trans ((HW0.1.cell (p:=⟨kb,ko+1,none⟩) hkb).trans hc1)⟩
 go_region_held3 (fun u=>u.cell? ⟨w.heap.size,7,none⟩=some (.slice (some ⟨kb,ko,none⟩) 2 y.kc)/\u.cell? ⟨kb,ko,none⟩=some (.int .i64 (i:Int))/\u.cell? ⟨kb,ko+1,none⟩=some (.int .i64 (j:Int))) (first|(refine HC.out _ ?_;(repeat(with_reducible first|exact fD.out|exact fB.out|exact q32 _|refine q24 ?_ _|refine ny ?_|refine kD ?_ _ (by have h1:=fB.out.size;have h2:=fD.out.size;omega)));done))
  (first
  |(go_at_call 85;refine(HA2.out _ (iq HW0.out.1 ?_)).mono ?_;((repeat(with_reducible first|exact fD.out|exact fB.out|exact q32 _|refine q24 ?_ _|refine ny ?_|refine kD ?_ _ (by have h1:=fB.out.size;have h2:=fD.out.size;omega))));rintro e w2 ⟨f2,x2,y2,rfl,hr2,eG⟩;obtain⟨n2,hn2,HR2⟩:∃n2,Hid (n2=_)/\Hid (S (.func f2 x2 y2) n2 w2):=⟨_,rfl,hr2⟩;have fD:Hid (gZ w0 w2):=(by refine iq ?_ eG;(repeat(with_reducible first|exact fD.out|exact fB.out|exact q32 _|refine q24 ?_ _|refine ny ?_|refine kD ?_ _ (by have h1:=fB.out.size;have h2:=fD.out.size;omega))));have Fe:Hid (Below _ _ w2):=eG;have HS2:Hid (_<=w2.heap.size):=eG.size;(first|(have hy:=Bp.call hx eG)|(have hy:=Bo.next hx eG)|(have hy:=Bo.call hx eG)|(have hy:=Ce eG)|(have hy:=box1 eG)|(have hy:=True.intro));(first|(have c1:=hy.a.1.cell 0 rfl;have z1:=hy.a.2;have l1:=hy.a.1.1;have c2:=hy.b.1.cell 0 rfl;have z2:=hy.b.2;have l2:=hy.b.1.1;have n1':=bI l1;have Ey:=bQ l1;have SQ:=bI l2;have n4':=bQ l2)|(have c1:=hy.a.1.cell 0 rfl;have z1:=hy.a.2;have l1:=hy.a.1.1;have n1':=bI l1;have Ey:=bQ l1)|skip))
  |(go_at_call 181;refine(HA.out _ (iq HW0.out.1 ?_)).mono ?_;((repeat(with_reducible first|exact fD.out|exact fB.out|exact q32 _|refine q24 ?_ _|refine ny ?_|refine kD ?_ _ (by have h1:=fB.out.size;have h2:=fD.out.size;omega))));rintro e w1 ⟨f1,x1,y1,rfl,fG,eu⟩;obtain⟨n1,gX,gW⟩:∃n1,Hid (n1=_)/\Hid (R (.func f1 x1 y1) n1 w1):=⟨_,rfl,fG⟩;have fB:Hid (gZ w0 w1):=(by refine iq ?_ eu;(repeat(with_reducible first|exact fD.out|exact fB.out|exact q32 _|refine q24 ?_ _|refine ny ?_|refine kD ?_ _ (by have h1:=fB.out.size;have h2:=fD.out.size;omega))));have qc:Hid (_<=w1.heap.size):=eu.size;(first|(have hx:=wX eu;have m1:=hx.b.1.1)|(have hx:=box0 eu;have m1:=hx.a.1.1;have m2:=bI m1;have m3:=bQ m1)|(have hx:=True.intro))))
 all_goals
  go_wp2_with fail;go_ret;have e1:=gX.out;have e2:=hn2.out;have s1:=qc.out;have s2:=HS2.out;try simp at e1
  try simp at e2
  try simp at s1
  try simp at s2
  have q1:=fB.size;have q2:=fD.size;have q3:=HW0.2.2.2;have hB2:=fD.out;have hk9:=HW0.2.1.call hB2;have hk8:=HW0.2.2.1.call hB2;have hk7:=True.intro;have r1:=gW.out;have r2:=HR2.out;have hbb:=Fe.out;obtain⟨kr,ks⟩:=uJ.out;refine⟨_,_,_,rfl,⟨_,_,_,_,_,_,rfl,⟨?_,?_⟩,⟨?_,?_⟩,⟨?_,?_⟩,⟨?_,?_⟩,kr.old (kr.fr r1 ?_) (by omega),ks.old (ks.fr r2 ?_) (by omega)⟩,iq HW0.1 ?_⟩;all_goals(try omega)
  all_goals(repeat(with_reducible first|exact hB2|exact Fr.refl _ _ _|exact Has.new _ _ _|exact BI _ _ _ _|exact NQ _ _ _ _ _|exact hk9|exact hk8|exact hk7|refine Has.alloc ?_ _|refine q24 ?_ _|refine kD ?_ _ (by omega)|exact hy.a|exact hy.b|exact OwnB.new _ _ _|exact zM _ _ _ _|refine OwnB.alloc ?_ _|refine IK (x:=.nilFunc) ?_|refine qc2 ?_ (by omega)|refine wO ?_ (by omega)|refine Fr.set ?_ (by omega)|refine Fr.alloc ?_ (ah _) _|refine Fr.drew ?_|refine Fr.call ?_ (ah _) hbb))
abbrev tu(a:Nat):Value:=.func (.func 243) #[] #[ptr a]
abbrev mF(a:Nat):Value:=.func (.func 244) #[] #[ptr a]
def qR(bb:Nat)(T:Rel)(f p:Value)(n:Nat)(u:World):Prop:=∃a b x,f=tu a/\p=mF b/\Nb n u a #[x]/\Nb n u b #[ptr bb]/\T x n u
theorem qR.old{bb:Nat}{T:Rel}(kt:iY T){f p:Value}{n m:Nat}{u:World}(h:qR bb T f p n u)(k:m<=n):qR bb T f p m u:=by
 obtain⟨a,b,x,h1,h2,h3,h4,h5⟩:=h;exact⟨a,b,x,h1,h2,h3.old k,h4.old k,kt.old h5 k⟩
theorem qR.fr{bb:Nat}{T:Rel}(kt:iY T){f p:Value}{n:Nat}{u u':World}(h:qR bb T f p n u)(k:Fr n u.heap.size u u'):qR bb T f p n u':=by
 obtain⟨a,b,x,h1,h2,h3,h4,h5⟩:=h;exact⟨a,b,x,h1,h2,h3.fr k,h4.fr k,kt.fr h5 k⟩
def PL(bb:Nat)(T:Rel)(w:World)(e:Ending)(w':World):Prop:=∃a b,e=.returned (.agg #[tu a,mF b])/\qR bb T (tu a) (mF b) w.heap.size w'/\gZ w w'
theorem z77(bb:Nat)(T:Rel)(q:ND)(y:NA)(w:World)(kt:iY T)(hk:q.k=33)(hT:∀u,gZ w u->Calls Tryz.prog 223 #[ptr bb,.slice y.ka q.kn y.kc] u fun e u'=>Mks T u e u'):Calls Tryz.prog 192 #[ptr bb,jP q y] w fun e w'=>PL bb T w e w':=by
 rw[(yT hk rfl rfl).1];have HP:Hid ((∀u,gZ w u->Calls Tryz.prog 223 #[ptr bb,.slice y.ka q.kn y.kc] u fun e u'=>Mks T u e u')/\iY T):=⟨hT,kt⟩;have hmf:=qV;go_in;go_wp2_with fail;refine(HP.1 _ (xW _ _ _ _)).mono ?_;rintro e w1 ⟨f1,x1,y1,rfl,fG,eu⟩;have hO:OwnB w1 (w.heap.size+2) #[.nilFunc,.nilFunc]:=by
  have h3:=OwnB.new ((w.alloc (.cells #[ptr bb] 114)).alloc (.cells (y8 33 q y y.ka q.kn) 48)) #[.nilFunc,.nilFunc] 293;rw[aN,aN] at h3;exact h3.call eu
 have hH:Has w1 w.heap.size #[ptr bb]:=(((Has.new w _ _).alloc _).alloc _).call eu;have HW:Hid (T (.func f1 x1 y1) (w.heap.size+3) w1/\gZ w w1/\w.heap.size+3<=w1.heap.size/\OwnB w1 (w.heap.size+2) #[.nilFunc,.nilFunc]/\Has w1 w.heap.size #[ptr bb]):=⟨by simpa using fG,iq (xW _ _ _ _) eu,by simpa using eu.size,hO,hH⟩;have c0:=hO.1.cell 0 rfl;have c1:=hO.1.cell 1 rfl;have cz:=hO.2;have cl:=hO.1.1;have d0:=hH.cell 0 rfl;have dl:=hH.1;go_wp2_with fail;obtain⟨W,hW⟩:∃W,(((w1.setCell ⟨w.heap.size+1 + 1,0,none⟩ (tu w1.heap.size)).setCell ⟨w.heap.size+1 + 1,1,none⟩ (mF w.heap.size)).alloc (.cells #[.func f1 x1 y1] 315))=W:=⟨_,rfl⟩;have HF:Hid (OwnB W (w.heap.size+1 + 1) #[tu w1.heap.size,mF w.heap.size]/\PL bb T w (.returned (.agg #[tu w1.heap.size,mF w.heap.size])) W):=by
  obtain⟨a1,a2,a3,a4,a5⟩:=HW.out;have hB:gZ w1 w1:=ay _ _;rw[<-hW];have e0:((w1.setCell ⟨w.heap.size+1 + 1,0,none⟩ (tu w1.heap.size)).setCell ⟨w.heap.size+1 + 1,1,none⟩ (mF w.heap.size)).heap.size=w1.heap.size:=by simp
  refine⟨((a4.set (o:=0) (by show 0<2;omega) (tu w1.heap.size)).set (o:=1) (by show 1<2;omega) (mF w.heap.size)).alloc _,_,_,rfl,⟨_,_,_,rfl,rfl,⟨a2.size,?_⟩,⟨ah _,?_⟩,HP.2.old (HP.2.fr a1 ?_) (by omega)⟩,?_⟩
  ·have h3:=Has.new ((w1.setCell ⟨w.heap.size+1 + 1,0,none⟩ (tu w1.heap.size)).setCell ⟨w.heap.size+1 + 1,1,none⟩ (mF w.heap.size)) #[.func f1 x1 y1] 315;rw[e0] at h3;exact h3
  ·exact(qc2 (qc2 a5 (by omega)) (by omega)).alloc _
  ·exact(((Fr.refl _ _ _).set (.inl (by omega))).set (.inl (by omega))).alloc (ah _) _
  ·exact q24 (kD (kD a2 _ (by omega)) _ (by omega)) _
 rw[hW];have c0:=HF.1.1.cell 0 rfl;have c1:=HF.1.1.cell 1 rfl;have cl:=HF.1.1.1;exact aG (v:=.agg #[tu w1.heap.size,mF w.heap.size]) (by simp[results,Tryz.results192,go_sem,c0,c1]) rfl HF.2
theorem y12:(Tryz.prog.info? 293).map (fun i=>(i.zero,i.size,i.bytes))=some (some (.agg #[.nilFunc,.nilFunc]),2,16):=by kernel_rfl
abbrev O7(a b c:Nat):Value:=.func (.func 193) #[] #[ptr a,ptr b,ptr c]
def Hr(bb:Nat)(T R:Rel):Rel:=fun v n u=>∃a b c g gc f p x,v=O7 a b c/\Nb n u a #[.int .i64 1]/\Nb n u b #[.slice (some ⟨g,0,none⟩) 1 gc]/\Nb n u c #[x]/\(n<=g/\g<u.heap.size/\u.cell? ⟨g,0,none⟩=some f/\u.cell? ⟨g,1,none⟩=some p)/\qR bb T f p n u/\zJ R x n u
theorem UJ(bb:Nat){T R:Rel}(kt:iY T)(kr:iY R):iY (Hr bb T R):=⟨fun⟨a,b,c,g,gc,f,p,x,e,h1,h2,h3,h4,h5,h6⟩ k=>⟨a,b,c,g,gc,f,p,x,e,h1.old k,h2.old k,h3.old k,⟨aV k h4.1,h4.2⟩,h5.old kt k,(IQ kr).old h6 k⟩,fun⟨a,b,c,g,gc,f,p,x,e,h1,h2,h3,h4,h5,h6⟩ fr=>⟨a,b,c,g,gc,f,p,x,e,h1.fr fr,h2.fr fr,h3.fr fr,⟨h4.1,aH h4.2.1 fr.s,(ak (a:=⟨g,0,none⟩) (fr.k g h4.1 h4.2.1)).trans h4.2.2.1,(ak (a:=⟨g,1,none⟩) (fr.k g h4.1 h4.2.1)).trans h4.2.2.2⟩,h5.fr kt fr,(IQ kr).fr h6 fr⟩⟩
theorem UO(w:World)(x y:Value)(t:TypeId):∀j u,[x,y][j]?=some u->(w.alloc (.cells #[x,y] t)).cell? ((⟨w.heap.size,0,none⟩:Addr).add j)=some u:=fun j u e=>Az w #[x,y] t j u e
structure yE(w:World)(B:Nat)(bb:Nat)(T:Rel)(k:Nat)(W:World):Prop where
 gk:Gx (fun q=>q=B) w W
 l:B<w.heap.size
 z:k=0->OwnB W B #[.slice none 0 0]
 o:k=1->∃(g gc:Nat) (f p:Value) (n:Nat),OwnB W B #[.slice (some ⟨g,0,none⟩) 1 gc]/\w.heap.size<=g/\g<W.heap.size/\W.cell? ⟨g,0,none⟩=some f/\W.cell? ⟨g,1,none⟩=some p/\w.heap.size<=n/\qR bb T f p n W
theorem yE.below{w:World}{B bb:Nat}{T:Rel}{k:Nat}(kt:iY T){W W':World}(h:yE w B bb T k W)(hb:gZ W W'):yE w B bb T k W':=by
 refine⟨h.gk.trans (Gx.below (fun q=>q=B) hb) (fun _ _ e=>e),h.l,fun e=>(h.z e).call hb,fun e=>?_⟩;obtain⟨g,gc,f,p,n,h1,h2,h3,h4,h5,h6,h7⟩:=h.o e;exact⟨g,gc,f,p,n,h1.call hb,h2,aH h3 hb.size,(hb.cell (p:=⟨g,0,none⟩) h3).trans h4,(hb.cell (p:=⟨g,1,none⟩) h3).trans h5,h6,h7.fr kt ((Fr.refl _ _ _).call (ah _) hb)⟩
theorem yE.push{w:World}{B bb:Nat}{T:Rel}{W w1 w2 w7:World}{f p v':Value}(h:yE w B bb T 0 W)(kt:iY T)(eu:gZ W w1)(hr:qR bb T f p W.heap.size w1)(eG:gZ W w2)(hx:gZ w1 w2){t:TypeId}(ho:w7.ownsRow 0 t 2 v' (0+1) ([]++[f,p]))(hg:w2.grownBy w7 (Value.slice none 0 0).ownBlock)(hat:v'.ownBlock=(Value.slice none 0 0).ownBlock\/v'.ownBlock=some w2.heap.size):∃g gc,v'=.slice (some ⟨g,0,none⟩) 1 gc/\Hid (OwnB w7 B #[.slice none 0 0]/\Gx (fun q=>q=B) w w7/\yE w B bb T 1 (w7.setCell ⟨B,0,none⟩ (.slice (some ⟨g,0,none⟩) 1 gc))):=by
 rw[jg] at hg;have hg':Gx (fun q=>q=B) W w7:=(Gx.below (fun q=>q=B) eG).trans (Gx.grown hg) (fun i _ e=>by cases e);have hO:OwnB w7 B #[.slice none 0 0]:=((h.z rfl).call eG).block hg.size (hg.block _ ((h.z rfl).call eG).1.1 (fun e=>by cases e));have hB:=h.l;rcases ho.2 with⟨_,h1⟩|⟨g,c,cur,rfl,h1,h2,_⟩
 ·omega
 have hge:g=w2.heap.size:=by
  rw[jg,jg] at hat;rcases hat with e|e
  ·cases e
  ·exact aQ e
 have hs0:=h.gk.size;have fH:=eu.size;have fJ:=eG.size;have hgl:g<w7.heap.size:=(aA.1 h2).1;have hgB:g≠B:=by omega
 have hfr:Fr W.heap.size w1.heap.size w1 (w7.setCell ⟨B,0,none⟩ (.slice (some ⟨g,0,none⟩) 1 c)):=⟨by have:=hx.size;have:=hg.size;simp;omega,fun i a b=>(aK _ ⟨B,0,none⟩ _ i (by show i≠B;omega)).trans ((hg.block i (by have:=hx.size;omega) (fun e=>by cases e)).trans (hx.block i b))⟩;refine⟨g,c,rfl,hO,h.gk.trans hg' (fun _ _ e=>e),(h.gk.trans hg' (fun _ _ e=>e)).trans (Gx.set w7 B 0 _) (fun _ _ e=>e),hB,fun e=>by omega,fun _=>⟨g,c,f,p,W.heap.size,hO.set (o:=0) (by show 0<1;omega) _,by omega,by simpa using hgl,?_,?_,hs0,hr.fr kt hfr⟩⟩
 ·refine(ak (a:=⟨g,0,none⟩) (aK _ ⟨B,0,none⟩ _ g hgB)).trans ?_;have:=ho.cells (g:=g) rfl 0 f (by simp);simpa[Addr.add] using this
 ·refine(ak (a:=⟨g,1,none⟩) (aK _ ⟨B,0,none⟩ _ g hgB)).trans ?_;have:=ho.cells (g:=g) rfl 1 p (by simp);simpa[Addr.add] using this
abbrev zI(q:ND)(y:NA)(ka:Option Addr):Array Value:=#[.int .i64 3,.int .i64 q.l,.int .i64 q.o,.int .i64 1,.float .f64 q.f,.string q.s,.slice y.ra q.rn y.rc,.slice ka 2 y.kc]
theorem yx7{q:ND}{y:NA}{ka:Option Addr}(h1:q.k=3)(h0:q.n=1)(h2:y.ka=ka)(h3:q.kn=2):jP q y=.agg (zI q y ka):=by
 subst h2;have:jP q y=.agg (y8 3 q y y.ka q.kn):=(yT h1 rfl rfl).1;rw[this];unfold y8 zI;rw[h0,h3]
theorem zy4(M bb:Nat)(d:FD)(x:FA)(T R:Rel)(q:ND)(y:NA)(kb ko i j:Nat)(w:World)(h:BB M bb d x w)(kt:iY T)(kr:iY R)(hk:q.k=3)(hn:q.n=1)(fE:q.kn=2)(hka:y.ka=some ⟨kb,ko,none⟩)(hkc:2<=y.kc)(hkb:kb<w.heap.size)(hc0:w.cell? ⟨kb,ko,none⟩=some (.int .i64 (i:Int)))(hc1:w.cell? ⟨kb,ko+1,none⟩=some (.int .i64 (j:Int)))(hi:i<d.nn)(hT:∀u,gZ w u->Calls Tryz.prog 192 #[ptr bb,jP (d.nd i) (x.nas i)] u fun e u'=>PL bb T u e u')(hE:iP 181 bb w j R):Calls Tryz.prog 170 #[ptr bb,jP q y] w fun e w'=>Mks (Hr bb T R) w e w':=by
 rw[yx7 hk hn hka fE];have HB0:Hid (BB M bb d x w):=h;have DI:Hid (iY T):=kt;have HKr:Hid (iY R):=kr;have HT:Hid (∀u,gZ w u->Calls Tryz.prog 192 #[ptr bb,jP (d.nd i) (x.nas i)] u fun e u'=>PL bb T u e u'):=hT;have HE:Hid (iP 181 bb w j R):=hE;have CQ:Hid (∀u,gZ w u->u.cell? ⟨kb,ko,none⟩=some (.int .i64 (i:Int))/\u.cell? ⟨kb,ko+1,none⟩=some (.int .i64 (j:Int))/\kb<u.heap.size):=fun u hu=>⟨(hu.cell (p:=⟨kb,ko,none⟩) hkb).trans hc0,(hu.cell (p:=⟨kb,ko+1,none⟩) hkb).trans hc1,aH hkb hu.size⟩;have hmf:=qV;have hj1:(1:Int)<=(y.kc:Int):=by omega
 have hj2:(2:Int)<=(y.kc:Int):=by omega
 go_in;go_wp2_with fail;obtain⟨w4,hw4⟩:∃w4,(((w.alloc (.cells (zI q y (some ⟨kb,ko,none⟩)) 48)).alloc (.cells #[.int .i64 1] 3)).alloc (.cells #[.slice none 0 0] 289))=w4:=⟨_,rfl⟩;obtain⟨s3,fM⟩:∃s3,w.heap.size=s3:=⟨_,rfl⟩;obtain⟨s5,fP⟩:∃s5,w.heap.size+1=s5:=⟨_,rfl⟩;obtain⟨s6,hs6⟩:∃s6,w.heap.size+1 + 1=s6:=⟨_,rfl⟩;have H4:Hid (gZ w w4/\Has w4 s3 (zI q y (some ⟨kb,ko,none⟩))/\Has w4 s5 #[.int .i64 1]/\OwnB w4 s6 #[.slice none 0 0]/\w4.heap.size=w.heap.size+3/\w.heap.size=s3/\w.heap.size+1=s5/\w.heap.size+2=s6):=by
  rw[<-hw4,<-fM,<-fP,<-hs6];refine⟨xW _ _ _ _,((Has.new _ _ _).alloc _).alloc _,(BI _ _ _ _).alloc _,?_,by simp,rfl,rfl,rfl⟩;have h:=OwnB.new ((w.alloc (.cells (zI q y (some ⟨kb,ko,none⟩)) 48)).alloc (.cells #[.int .i64 1] 3)) #[.slice none 0 0] 289;rw[aN,aN] at h;exact h
 rw[hw4,hs6,fP,fM];have H40:Hid (yE w4 s6 bb T 0 w4):=⟨Gx.refl _ _,H4.2.2.2.1.1.1,fun _=>H4.2.2.2.1,fun e=>by omega⟩;have HG:Hid (∀u,Gx (fun q=>q=s6) w4 u->Has u s3 (zI q y (some ⟨kb,ko,none⟩))/\Has u s5 #[.int .i64 1]/\gZ w u):=fun u g=>by
  obtain⟨a1,a2,a3,a4,a5,a6,a7,a8⟩:=H4.out;exact⟨g.has a2 (by omega),g.has a3 (by omega),a1.trans (g.to a1.size (fun k e=>by omega))⟩
 go_loopw [17] (fun i wr=>(i=.int .i64 0/\Hid (yE w4 s6 bb T 0 wr))\/(i=.int .i64 1/\Hid (yE w4 s6 bb T 1 wr))) (fun i _=>1-(intOf i).toNat)
 case atStart=>exact .inl ⟨rfl,H40⟩
 case round=>
  rcases hrel with⟨rfl,HI⟩|⟨rfl,HI⟩
  ·obtain⟨k0,k1,kl⟩:=CQ.out wr (HG.out wr HI.gk).2.2;obtain⟨b,off,e1,hbx,_,_,_,_,_,_,_,_⟩:=HB0.node hi;have Kr:Hid (∀u,Gx (fun q=>q=s6) w4 u->u.cell? ⟨bb,1,none⟩=some (.slice (some ⟨b,off,none⟩) d.nn x.nc)/\u.cell? ⟨b,off+i*8,none⟩=some (.int .i64 (d.nd i).k)/\u.cell? ⟨b,off+i*8+1,none⟩=some (.int .i64 (d.nd i).l)/\u.cell? ⟨b,off+i*8+2,none⟩=some (.int .i64 (d.nd i).o)/\u.cell? ⟨b,off+i*8+3,none⟩=some (.int .i64 (d.nd i).n)/\u.cell? ⟨b,off+i*8+4,none⟩=some (.float .f64 (d.nd i).f)/\u.cell? ⟨b,off+i*8+5,none⟩=some (.string (d.nd i).s)/\u.cell? ⟨b,off+i*8+6,none⟩=some (.slice (x.nas i).ra (d.nd i).rn (x.nas i).rc)/\u.cell? ⟨b,off+i*8+7,none⟩=some (.slice (x.nas i).ka (d.nd i).kn (x.nas i).kc)):=fun u g=>by
    have hB:=HB0.call (HG.out u g).2.2;obtain⟨b',off',e1',_,c0,c1,c2,c3,c4,c5,c6,c7⟩:=hB.node hi;have b1:=hB.b.cell 1 rfl;rw[e1] at e1'
    cases e1';exact⟨by rw[b1,e1];rfl,c0,c1,c2,c3,c4,c5,c6,c7⟩
   go_upto_region 6 with fail
   have qE:Hid (∀u,gZ wr u->u.cell? ⟨bb,1,none⟩=some (.slice (some ⟨b,off,none⟩) d.nn x.nc)/\u.cell? ⟨b,off+i*8,none⟩=some (.int .i64 (d.nd i).k)/\u.cell? ⟨b,off+i*8+1,none⟩=some (.int .i64 (d.nd i).l)/\u.cell? ⟨b,off+i*8+2,none⟩=some (.int .i64 (d.nd i).o)/\u.cell? ⟨b,off+i*8+3,none⟩=some (.int .i64 (d.nd i).n)/\u.cell? ⟨b,off+i*8+4,none⟩=some (.float .f64 (d.nd i).f)/\u.cell? ⟨b,off+i*8+5,none⟩=some (.string (d.nd i).s)/\u.cell? ⟨b,off+i*8+6,none⟩=some (.slice (x.nas i).ra (d.nd i).rn (x.nas i).rc)/\u.cell? ⟨b,off+i*8+7,none⟩=some (.slice (x.nas i).ka (d.nd i).kn (x.nas i).kc)):=fun u hu=>Kr.out u (HI.gk.trans (Gx.below (fun q=>q=s6) hu) (fun _ _ e=>e));have HC:Hid (∀u,gZ wr u->u.cell? ⟨s6,0,none⟩=some (.slice none 0 0)):=fun u hu=>((HI.z rfl).call hu).1.cell 0 rfl;have KD:Hid (∀u,gZ wr u->s6<u.heap.size):=fun u hu=>((HI.z rfl).call hu).1.1;have Q8:Hid (∀u,gZ wr u->Calls Tryz.prog 192 #[ptr bb,jP (d.nd i) (x.nas i)] u fun e u'=>PL bb T u e u'):=fun u hu=>HT.out u (iq (HG.out wr HI.gk).2.2 hu);have HB:Hid (gZ wr wr.drew):=(ay _ _).drew;have hj3:(0:Int)<=(i:Int):=aS _;have XI:(i:Int)<(d.nn:Int):=by omega
   obtain⟨i0,gU,gQ,hy1,hy2⟩:=bT y12;refine wp_region_held_drew (S:=fun u=>u.cell? ⟨bb,1,none⟩=some (.slice (some ⟨b,off,none⟩) d.nn x.nc)/\u.cell? ⟨b,off+i*8,none⟩=some (.int .i64 (d.nd i).k)/\u.cell? ⟨b,off+i*8+1,none⟩=some (.int .i64 (d.nd i).l)/\u.cell? ⟨b,off+i*8+2,none⟩=some (.int .i64 (d.nd i).o)/\u.cell? ⟨b,off+i*8+3,none⟩=some (.int .i64 (d.nd i).n)/\u.cell? ⟨b,off+i*8+4,none⟩=some (.float .f64 (d.nd i).f)/\u.cell? ⟨b,off+i*8+5,none⟩=some (.string (d.nd i).s)/\u.cell? ⟨b,off+i*8+6,none⟩=some (.slice (x.nas i).ra (d.nd i).rn (x.nas i).rc)/\u.cell? ⟨b,off+i*8+7,none⟩=some (.slice (x.nas i).ka (d.nd i).kn (x.nas i).kc)) (by kernel_rfl) (qE.out _ HB.out) (fun iI=>?_)
   (refine wpAnyH_take (i:=1) (oi:=⟨some 22,_,_,_,_,_⟩) (v:=?v1) rfl (by kernel_rfl) (by kernel_rfl) (by kernel_rfl) (fun _ _ _ h=>h) (Or.inl ⟨by rfl,?hy1⟩) (by assumption) ?yQ;case hy1=>(intro wz hSw;(try dsimp only at hSw);go_simp<;>with_reducible rfl);try simp only[Act.put,iT,iR,iQ])
   (refine wpAnyH_take (i:=2) (oi:=⟨some 23,_,_,_,_,_⟩) (v:=?v2) rfl (by kernel_rfl) (by kernel_rfl) (by kernel_rfl) (fun _ _ _ h=>h) (Or.inl ⟨by rfl,?hy2⟩) (by assumption) ?yP;case hy2=>(intro wz hSw;(try dsimp only at hSw);go_simp<;>with_reducible rfl);try simp only[Act.put,iT,iR,iQ])
   (refine wpAnyH_take (i:=3) (oi:=⟨some 24,_,_,_,_,_⟩) (v:=?v3) rfl (by kernel_rfl) (by kernel_rfl) (by kernel_rfl) (fun _ _ _ h=>h) (Or.inl ⟨by rfl,?hy3⟩) (by assumption) ?BD;case hy3=>(intro wz hSw;(try dsimp only at hSw);go_simp<;>with_reducible rfl);try simp only[Act.put,iT,iR,iQ])
   (refine wpAnyH_take (i:=4) (oi:=⟨some 25,_,_,_,_,_⟩) (v:=?v4) rfl (by kernel_rfl) (by kernel_rfl) (by kernel_rfl) (fun _ _ _ h=>h) (Or.inl ⟨by rfl,?hy4⟩) (by assumption) ?FX;case hy4=>(intro wz hSw;(try dsimp only at hSw);go_simp<;>with_reducible rfl);try simp only[Act.put,iT,iR,iQ])
   (refine wpAnyH_take (i:=5) (oi:=⟨some 26,_,_,_,_,_⟩) (v:=?v5) rfl (by kernel_rfl) (by kernel_rfl) (by kernel_rfl) (fun _ _ _ h=>h) (Or.inl ⟨by rfl,?Oz⟩) (by assumption) ?FW;case Oz=>(intro wz hSw;(try dsimp only at hSw);go_simp<;>with_reducible rfl);try simp only[Act.put,iT,iR,iQ])
   (refine wpAnyH_take (i:=6) (oi:=⟨some 27,_,_,_,_,_⟩) (v:=?v6) rfl (by kernel_rfl) (by kernel_rfl) (by kernel_rfl) (fun _ _ _ h=>h) (Or.inl ⟨by rfl,?Oy⟩) (by assumption) ?FV;case Oy=>(intro wz hSw;(try dsimp only at hSw);go_simp<;>with_reducible rfl);try simp only[Act.put,iT,iR,iQ])
   (refine wpAnyH_take (i:=7) (oi:=⟨some 28,_,_,_,_,_⟩) (v:=?v7) rfl (by kernel_rfl) (by kernel_rfl) (by kernel_rfl) (fun _ _ _ h=>h) (Or.inl ⟨by rfl,?Ox⟩) (by assumption) ?FU;case Ox=>(intro wz hSw;(try dsimp only at hSw);go_simp<;>with_reducible rfl);try simp only[Act.put,iT,iR,iQ])
   (refine wpAnyH_take (i:=8) (oi:=⟨some 29,_,_,_,_,_⟩) (v:=?v8) rfl (by kernel_rfl) (by kernel_rfl) (by kernel_rfl) (fun _ _ _ h=>h) (Or.inl ⟨by rfl,?Ov⟩) (by assumption) ?FQ;case Ov=>(intro wz hSw;(try dsimp only at hSw);go_simp<;>with_reducible rfl);try simp only[Act.put,iT,iR,iQ])
   refine wpAnyH_ready (rs:=[0,9]) (by kernel_rfl) (by simp) ?_;refine AllReadyH.cons (o:=⟨some 21,_,_,_,_,_⟩) rfl (fun K hK=>?_) ?_
   ·skip
    have k0:=HC.out _ HB.out;have Gy:=KD.out _ HB.out;go_simp;refine hK.out _ _ (qE _ HB) (fun hHeld=>?_);have iI:=hHeld;try simp only[Act.put,iT,iR,iQ]
    refine wpAnyH_ready (rs:=[9]) (by kernel_rfl) (by simp) ?_;refine AllReadyH.cons (o:=⟨some 30,_,_,_,_,_⟩) rfl (fun K hK=>?_) AllReadyH.nil;go_simp;refine(Q8 _ HB).mono ?_;rintro e w1 ⟨fa,pb,rfl,fG,eu⟩;have gW:Hid (qR bb T (tu fa) (mF pb) wr.heap.size w1):=fG;replace HB:Hid (gZ wr w1):=iq HB.out eu;dsimp only;refine hK.out _ _ (qE _ HB) (fun hHeld=>?_);have iI:=hHeld;try simp only[Act.put,iT,iR,iQ]
    refine wpAnyH_ready (rs:=[10]) (by kernel_rfl) (by simp) ?_;refine AllReadyH.cons (o:=⟨some 31,_,_,_,_,_⟩) rfl (fun K hK=>?_) AllReadyH.nil;go_simp;have fB:Hid (gZ wr w1):=HB.out;replace HB:Hid (gZ wr (w1.alloc (.cells #[tu fa,mF pb] 293))):=iq fB.out (q01 _ _);refine hK.out _ _ (qE _ HB) (fun hHeld=>?_);have iI:=hHeld;try simp only[Act.put,iT,iR,iQ]
    refine wpAnyH_ready (rs:=[11]) (by kernel_rfl) (by simp) ?_;refine AllReadyH.cons (o:=⟨some 32,_,_,_,_,_⟩) rfl (fun K hK=>?_) AllReadyH.nil;obtain⟨v',w7,gq,gB,gY,_,hat⟩:=run_append_own_at (P:=Tryz.prog) (w1.alloc (.cells #[tu fa,mF pb] 293)) 0 289 289 293 i0 _ 2 16 Tryz.underlying289 gU gQ hy1 hy2 rfl (by decide) (.slice none 0 0) 0 [] (aX _ _ _ _) ⟨w1.heap.size,0,none⟩ 1 1 [tu fa,mF pb] rfl (UO _ _ _ _) (by simp[Value.oneCell']) (by unfold maxLen;omega) (by omega) (aF _);obtain⟨g,gc,rfl,HN⟩:=yE.push HI.out DI.out fB.out gW.out HB.out (q01 _ _) gB gY hat;have m7:=HN.1.1.cell 0 rfl;have z7:=HN.1.2;have l7:=HN.1.1.1;refine xU (by rfl) _ _ _ _ (by rfl) (.slice none 0 0) (.slice (some ⟨w1.heap.size,0,none⟩) 1 1) _ _ (by rfl) (by rfl) gq ?_;refine hK.out _ _ (Kr _ HN.2.1) (fun hHeld=>?_);have iI:=hHeld;try simp only[Act.put,iT,iR,iQ]
    refine wpAnyH_ready (rs:=[12]) (by kernel_rfl) (by simp) ?_;refine AllReadyH.cons (o:=⟨none,_,_,_,_,_⟩) rfl (fun K hK=>?_) AllReadyH.nil;go_simp;refine hK.out _ _ (Kr _ HN.2.2.gk) (fun hHeld=>?_);have iI:=hHeld;try simp only[Act.put,iT,iR,iQ]
    refine wpAnyH_done (by kernel_rfl) ?_ _;obtain⟨w8,hw8⟩:∃w8,w7.setCell ⟨s6,0,none⟩ (.slice (some ⟨g,0,none⟩) 1 gc)=w8:=⟨_,rfl⟩;have HZ:Hid (yE w4 s6 bb T 1 w8):=by rw[<-hw8];exact HN.2.2
    rw[hw8];go_wp2_with fail;go_roundw
    case rel=>exact .inr ⟨by go_num,HZ⟩
    case measure=>simp[intOf]
   ·refine AllReadyH.cons (o:=⟨some 30,_,_,_,_,_⟩) rfl (fun K hK=>?_) AllReadyH.nil;go_simp;refine(Q8 _ HB).mono ?_;rintro e w1 ⟨fa,pb,rfl,fG,eu⟩;have gW:Hid (qR bb T (tu fa) (mF pb) wr.heap.size w1):=fG;replace HB:Hid (gZ wr w1):=iq HB.out eu;dsimp only;refine hK.out _ _ (qE _ HB) (fun hHeld=>?_);have iI:=hHeld;try simp only[Act.put,iT,iR,iQ]
    refine wpAnyH_ready (rs:=[0,10]) (by kernel_rfl) (by simp) ?_;refine AllReadyH.cons (o:=⟨some 21,_,_,_,_,_⟩) rfl (fun K hK=>?_) ?_
    ·skip
     have k0:=HC.out _ HB.out;have Gy:=KD.out _ HB.out;go_simp;refine hK.out _ _ (qE _ HB) (fun hHeld=>?_);have iI:=hHeld;try simp only[Act.put,iT,iR,iQ]
     refine wpAnyH_ready (rs:=[10]) (by kernel_rfl) (by simp) ?_;refine AllReadyH.cons (o:=⟨some 31,_,_,_,_,_⟩) rfl (fun K hK=>?_) AllReadyH.nil;go_simp;have fB:Hid (gZ wr w1):=HB.out;replace HB:Hid (gZ wr (w1.alloc (.cells #[tu fa,mF pb] 293))):=iq fB.out (q01 _ _);refine hK.out _ _ (qE _ HB) (fun hHeld=>?_);have iI:=hHeld;try simp only[Act.put,iT,iR,iQ]
     refine wpAnyH_ready (rs:=[11]) (by kernel_rfl) (by simp) ?_;refine AllReadyH.cons (o:=⟨some 32,_,_,_,_,_⟩) rfl (fun K hK=>?_) AllReadyH.nil;obtain⟨v',w7,gq,gB,gY,_,hat⟩:=run_append_own_at (P:=Tryz.prog) (w1.alloc (.cells #[tu fa,mF pb] 293)) 0 289 289 293 i0 _ 2 16 Tryz.underlying289 gU gQ hy1 hy2 rfl (by decide) (.slice none 0 0) 0 [] (aX _ _ _ _) ⟨w1.heap.size,0,none⟩ 1 1 [tu fa,mF pb] rfl (UO _ _ _ _) (by simp[Value.oneCell']) (by unfold maxLen;omega) (by omega) (aF _);obtain⟨g,gc,rfl,HN⟩:=yE.push HI.out DI.out fB.out gW.out HB.out (q01 _ _) gB gY hat;have m7:=HN.1.1.cell 0 rfl;have z7:=HN.1.2;have l7:=HN.1.1.1;refine xU (by rfl) _ _ _ _ (by rfl) (.slice none 0 0) (.slice (some ⟨w1.heap.size,0,none⟩) 1 1) _ _ (by rfl) (by rfl) gq ?_;refine hK.out _ _ (Kr _ HN.2.1) (fun hHeld=>?_);have iI:=hHeld;try simp only[Act.put,iT,iR,iQ]
     refine wpAnyH_ready (rs:=[12]) (by kernel_rfl) (by simp) ?_;refine AllReadyH.cons (o:=⟨none,_,_,_,_,_⟩) rfl (fun K hK=>?_) AllReadyH.nil;go_simp;refine hK.out _ _ (Kr _ HN.2.2.gk) (fun hHeld=>?_);have iI:=hHeld;try simp only[Act.put,iT,iR,iQ]
     refine wpAnyH_done (by kernel_rfl) ?_ _;obtain⟨w8,hw8⟩:∃w8,w7.setCell ⟨s6,0,none⟩ (.slice (some ⟨g,0,none⟩) 1 gc)=w8:=⟨_,rfl⟩;have HZ:Hid (yE w4 s6 bb T 1 w8):=by rw[<-hw8];exact HN.2.2
     rw[hw8];go_wp2_with fail;go_roundw
     case rel=>exact .inr ⟨by go_num,HZ⟩
     case measure=>simp[intOf]
    ·refine AllReadyH.cons (o:=⟨some 31,_,_,_,_,_⟩) rfl (fun K hK=>?_) AllReadyH.nil;go_simp;have fB:Hid (gZ wr w1):=HB.out;replace HB:Hid (gZ wr (w1.alloc (.cells #[tu fa,mF pb] 293))):=iq fB.out (q01 _ _);refine hK.out _ _ (qE _ HB) (fun hHeld=>?_);have iI:=hHeld;try simp only[Act.put,iT,iR,iQ]
     refine wpAnyH_ready (rs:=[0]) (by kernel_rfl) (by simp) ?_;refine AllReadyH.cons (o:=⟨some 21,_,_,_,_,_⟩) rfl (fun K hK=>?_) AllReadyH.nil;have k0:=HC.out _ HB.out;have Gy:=KD.out _ HB.out;go_simp;refine hK.out _ _ (qE _ HB) (fun hHeld=>?_);have iI:=hHeld;try simp only[Act.put,iT,iR,iQ]
     refine wpAnyH_ready (rs:=[11]) (by kernel_rfl) (by simp) ?_;refine AllReadyH.cons (o:=⟨some 32,_,_,_,_,_⟩) rfl (fun K hK=>?_) AllReadyH.nil;obtain⟨v',w7,gq,gB,gY,_,hat⟩:=run_append_own_at (P:=Tryz.prog) (w1.alloc (.cells #[tu fa,mF pb] 293)) 0 289 289 293 i0 _ 2 16 Tryz.underlying289 gU gQ hy1 hy2 rfl (by decide) (.slice none 0 0) 0 [] (aX _ _ _ _) ⟨w1.heap.size,0,none⟩ 1 1 [tu fa,mF pb] rfl (UO _ _ _ _) (by simp[Value.oneCell']) (by unfold maxLen;omega) (by omega) (aF _);obtain⟨g,gc,rfl,HN⟩:=yE.push HI.out DI.out fB.out gW.out HB.out (q01 _ _) gB gY hat;have m7:=HN.1.1.cell 0 rfl;have z7:=HN.1.2;have l7:=HN.1.1.1;refine xU (by rfl) _ _ _ _ (by rfl) (.slice none 0 0) (.slice (some ⟨w1.heap.size,0,none⟩) 1 1) _ _ (by rfl) (by rfl) gq ?_;refine hK.out _ _ (Kr _ HN.2.1) (fun hHeld=>?_);have iI:=hHeld;try simp only[Act.put,iT,iR,iQ]
     refine wpAnyH_ready (rs:=[12]) (by kernel_rfl) (by simp) ?_;refine AllReadyH.cons (o:=⟨none,_,_,_,_,_⟩) rfl (fun K hK=>?_) AllReadyH.nil;go_simp;refine hK.out _ _ (Kr _ HN.2.2.gk) (fun hHeld=>?_);have iI:=hHeld;try simp only[Act.put,iT,iR,iQ]
     refine wpAnyH_done (by kernel_rfl) ?_ _;obtain⟨w8,hw8⟩:∃w8,w7.setCell ⟨s6,0,none⟩ (.slice (some ⟨g,0,none⟩) 1 gc)=w8:=⟨_,rfl⟩;have HZ:Hid (yE w4 s6 bb T 1 w8):=by rw[<-hw8];exact HN.2.2
     rw[hw8];go_wp2_with fail;go_roundw
     case rel=>exact .inr ⟨by go_num,HZ⟩
     case measure=>simp[intOf]
  ·have XH:¬(y.kc=1):=by omega
   have qE:Hid (∀u,gZ wr u->u.cell? ⟨s5,0,none⟩=some (.int .i64 1)/\u.cell? ⟨s3,7,none⟩=some (.slice (some ⟨kb,ko,none⟩) 2 y.kc)):=fun u hu=>by
    have hh:=HG.out u (HI.gk.trans (Gx.below (fun q=>q=s6) hu) (fun _ _ e=>e));exact⟨hh.2.1.cell 0 rfl,hh.1.cell 7 rfl⟩
   have HLf:Hid (∀u,gZ wr u->Calls Tryz.prog 190 #[ptr bb,.int .i64 1,.slice (some ⟨kb,ko+1,none⟩) 1 (y.kc-1)] u fun e u'=>Mks (zJ R) u e u'):=fun u hu=>by
    have hb:=iq (HG.out wr HI.gk).2.2 hu;exact qk5 bb R kb (ko+1) (y.kc-1) j u HKr (CQ u hb).2.1 (HE.call hb)
   go_upto_region 8 with fail
   go_region_held3 (fun u=>u.cell? ⟨s5,0,none⟩=some (.int .i64 1)/\u.cell? ⟨s3,7,none⟩=some (.slice (some ⟨kb,ko,none⟩) 2 y.kc)) (first|(refine qE.out _ ?_;(repeat(with_reducible first|exact fB.out|exact q32 _|refine q24 ?_ _|refine ny ?_|refine kD ?_ _ (by have h1:=fB.out.size;omega)));done))
    (first
    |(go_at_call 190;refine(HLf.out _ ?_).mono ?_;((repeat(with_reducible first|exact fB.out|exact q32 _|refine q24 ?_ _|refine ny ?_|refine kD ?_ _ (by have h1:=fB.out.size;omega))));rintro e w1 ⟨f1,x1,y1,rfl,fG,eu⟩;obtain⟨n1,gX,gW⟩:∃n1,Hid (n1=_)/\Hid (zJ R (.func f1 x1 y1) n1 w1):=⟨_,rfl,fG⟩;have fB:Hid (gZ wr w1):=(by refine iq ?_ eu;(repeat(with_reducible first|exact fB.out|exact q32 _|refine q24 ?_ _|refine ny ?_|refine kD ?_ _ (by have h1:=fB.out.size;omega))));have qc:Hid (_<=w1.heap.size):=eu.size;(first|(have hx:=box0 eu;have m1:=hx.a.1.cell 0 rfl;have mz:=hx.a.2;have ml:=hx.a.1.1;have m2:=bI ml;have m3:=bQ ml)|(have hx:=True.intro))))
   all_goals
    go_wp2_with fail;go_ret;have e1:=gX.out;have s1:=qc.out;try simp at e1
    try simp at s1
    have q1:=fB.size;have hB1:=fB.out;have kf:=IQ HKr.out;have r1:=gW.out;obtain⟨a1,a2,a3,a4,a5,a6,a7,a8⟩:=H4.out;have hgs:=HI.gk.size
    suffices hfin:∀u c,gZ wr u->Nb w.heap.size u c #[.func f1 x1 y1]->zJ R (.func f1 x1 y1) w.heap.size u->Mks (Hr bb T R) w (.returned (O7 s5 s6 c)) u by
     refine hfin _ _ ?_ ⟨?_,?_⟩ (kf.old (kf.fr r1 ?_) (by omega));all_goals(try omega)
     all_goals(repeat(with_reducible first|exact hB1|exact Fr.refl _ _ _|exact Has.new _ _ _|refine q24 ?_ _|refine kD ?_ _ (by omega)|exact hx.a|refine IK (x:=.nilFunc) ?_|refine Fr.set ?_ (by omega)|refine Fr.alloc ?_ (ah _) _|refine Fr.drew ?_))
    intro u c hu hn hf;have hS:=HI.below DI.out hu;obtain⟨g5,g6,gk⟩:=HG.out u hS.gk;obtain⟨g,gc,f,p,n,h1,h2,h3,h4,h5,h6,h7⟩:=hS.o rfl;exact⟨_,_,_,rfl,⟨s5,s6,c,g,gc,f,p,_,rfl,⟨by omega,g6⟩,⟨by omega,h1.1⟩,hn,⟨by omega,h3,h4,h5⟩,h7.old DI.out (by omega),hf⟩,gk⟩
end
end Go.Proofs.YthnkncpegihbhaaGreatDoor
