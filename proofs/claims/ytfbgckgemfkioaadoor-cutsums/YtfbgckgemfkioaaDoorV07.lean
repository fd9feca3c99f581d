import Derived.Test.YtfbgckgemfkioaaDoorV06
import Derived.Test.YtfbgckgemfkioaaDoorV02
namespace Go.Proofs.YtfbgckgemfkioaaDoor
open Go.RowKit Go.Shelf
set_option linter.unusedVariables false
set_option linter.unusedSimpArgs false
attribute [local go_sem] Oper.semAt_some
theorem iz_set (xs:List Int) (j:Nat) (x:Int):(iz xs).set j (.int .i64 x)=iz (xs.set j x):=by simp[iz]
theorem getD_setI (xs:List Int) (j k:Nat) (v:Int) (h:j<xs.length):(xs.set j v).getD k 0=if j=k then v else xs.getD k 0:=by
 simp only[List.getD_eq_getElem?_getD,List.getElem?_set]
 split
 ·rename_i e;subst e;simp[h]
 ·rfl
theorem extI {xs ys:List Int} (hl:xs.length=ys.length) (h:∀j,j<xs.length->xs.getD j 0=ys.getD j 0):xs=ys:=by
 refine List.ext_getElem hl fun i h1 h2=>?_
 have:=h i h1
 simpa [List.getD_eq_getElem?_getD,List.getElem?_eq_getElem h1,List.getElem?_eq_getElem h2] using this
set_option maxHeartbeats 1000000 in
theorem turnC (base g n cap:Nat) (ds:List Int) (w:World) (ho:w.ownsRow base 2 1 (.slice (some ⟨g,0,none⟩) n cap) n (iz ds)) (hd:∀d∈ds,-1073741824<=d/\d<=1073741824) :
  Calls Tryd.prog 18 #[.slice (some ⟨g,0,none⟩) n cap] w fun e w'=>(∃v,e = .returned v)/\w'.ownsRow base 2 1 (.slice (some ⟨g,0,none⟩) n cap) n (iz (ds.map fun d=>-d))/\GrE (fun k=>k=g) w w':=by
 have hlen:=own_len ho
 have hcap:n<=cap/\cap<=maxLen:=by
  rcases ho.2 with ⟨h1,_⟩|⟨g',cap',cur,h1,_,_,h2,h3,_⟩
  ·cases h1
  ·injection h1 with e1 e2 e3;subst e3;exact⟨h2,h3⟩
 have hcap2:n<=9223372036854775807:=by have:=hcap.2;unfold maxLen at this;omega
 have HO:=hide ho
 have HD:=hide hd
 clear ho hd
 go_enter Tryd.func18,Tryd.ntmps18
 go_wp2
 go_loopw [5] (fun i wr=>∃(k:Nat) (es:List Int),k<=n/\i = .int .i64 (k:Int)/\Hid (wr.ownsRow base 2 1 (.slice (some ⟨g,0,none⟩) n cap) n (iz es))/\Hid (∀j,j<n->es.getD j 0=if j<k then -ds.getD j 0 else ds.getD j 0)/\Hid (GrE (fun k=>k=g) w wr)) (fun i _=>n-(intOf i).toNat)
 case atStart=>exact⟨0,ds,by omega,rfl,HO.out,fun j hj=>by rw[if_neg (by omega)],GrE.refl _ _⟩
 case round =>
  obtain⟨k,es,hk,rfl,ho,he,hg⟩:=hrel
  have hel:=own_len ho.out
  by_cases hlt:k<n
  ·have hc:=ho.out.cellAt k (by omega)
   rw[iz_get (by omega),he.out k hlt,if_neg (by omega)] at hc
   have hf:=ho.out.frozenAt k
   have hb:=HD.out (ds.getD k 0) (by rw[List.getD_eq_getElem?_getD,List.getElem?_eq_getElem (by omega)];simp)
   have hlt':(k:Int)<(n:Int):=by omega
   have ew:wrap64 (-(ds.getD k 0)) = -(ds.getD k 0):=w64 (by omega) (by omega)
   have NX:Hid ((wr.setCell ⟨g,k,none⟩ (.int .i64 (-(ds.getD k 0)))).ownsRow base 2 1 (.slice (some ⟨g,0,none⟩) n cap) n (iz (es.set k (-(ds.getD k 0))))):=by
    rw[<-iz_set];exact(ho.out.stored k _).1
   have NE:Hid (∀j,j<n->(es.set k (-(ds.getD k 0))).getD j 0=if j<k+1 then -ds.getD j 0 else ds.getD j 0):=by
    intro j hj
    rw[getD_setI _ _ _ _ (by omega)]
    by_cases e:k=j
    ·subst e;rw[if_pos rfl,if_pos (by omega)]
    ·rw[if_neg e,he.out j hj]
     by_cases h:j<k
     ·rw[if_pos h,if_pos (by omega)]
     ·rw[if_neg h,if_neg (by omega)]
   clear hb
   generalize ds.getD k 0=d at *
   go_wp2
   go_roundw
   case rel=>exact⟨k+1,_,by omega,by go_num,NX.out,NE.out,hg.out.setCell (p:=⟨g,k,none⟩) (Or.inr rfl) _⟩
   case measure=>simp only[intOf];omega
  ·have hkn:k=n:=by omega
   subst hkn
   have e:es=ds.map fun d=>-d:=by
    refine extI (by simp;omega) fun j hj=>?_
    rw[he.out j (by omega),if_pos (by omega)]
    simp[List.getD_eq_getElem?_getD,List.getElem?_eq_getElem (show j<ds.length by omega)]
   subst e
   go_wp2
   go_end0
   exact⟨⟨_,rfl⟩,ho.out,hg.out⟩
end Go.Proofs.YtfbgckgemfkioaaDoor
namespace Go.Proofs.YtfbgckgemfkioaaDoor
open Go.RowKit Go.Shelf
set_option linter.unusedVariables false
def noDefer (o:Oper):Bool:=match o.op with|.defer _=>false|_=>true
theorem noDefer_spec {o:Oper} (h:noDefer o=true):∀c,o.op ≠ .defer c:=by
 intro c e
 unfold noDefer at h
 rw[e] at h
 cases h
theorem uponIn_inR {n l:Nat} {P:Program} {o:Oper} {a:Act} {K K':Act->World->Prop} {Q:Exit->Act->World->Prop} (hK:∀a w,K a w->K' a w):∀{r:Result Next},o.uponIn Fence.wide n P a K Q r->o.uponIn (Fence.wide.inRound l) n P a K' Q r:=by
 intro r h
 cases r with
 | ok x w =>
  cases x with
  | value v=>exact hK _ _ h
  | skip=>exact hK _ _ h
  | defer d=>exact hK _ _ h
  | enter f args =>
   refine⟨h.1,(CallsIn.inRound l h.2).mono ?_⟩
   intro e w' he
   cases e with
   | returned v=>exact hK _ _ he
   | panicked c=>exact he
   | outgrown=>exact he
  | row row args=>exact⟨h.1,h.2.mono fun v w' he=>hK _ _ he⟩
  | round l' f tmps assign body =>
   refine⟨h.1,(RoundIn.inR h.2).mono ?_⟩
   intro e w' he
   cases e with
   | returned v=>exact hK _ _ he
   | panicked c=>exact he
   | outgrown=>exact he
  | _=>exact h
 | halt x w =>
  cases x with
  | panic v=>exact h
  | _=>exact h
theorem wpAnyIn_inR {n l:Nat} {P:Program} {md:Region.Mode} {ops:Array Oper} {Q:Exit->Act->World->Prop} (hnd:ops.all noDefer=true) :
  ∀(fuel:Nat) (listed:Array Bool) (a:Act) (w:World),wpAnyIn Fence.wide n P md ops Q fuel listed a w->wpAnyIn (Fence.wide.inRound l) n P md ops Q fuel listed a w:=by
 intro fuel
 induction fuel with
 | zero=>intro listed a w h;exact h
 | succ fuel ih =>
  intro listed a w h
  refine⟨h.1,fun i hi=>?_⟩
  have h2:=h.2 i hi
  unfold wpOpIn at h2 ⊢
  cases ho:ops[i]? with
  | none=>rw[ho] at h2;exact ih _ _ _ h2
  | some o =>
   rw[ho] at h2
   simp only at h2 ⊢
   have hn:noDefer o=true:=by
    rw[Array.all_eq_true_iff_forall_mem] at hnd
    exact hnd o (Array.mem_of_getElem? ho)
   split
   ·rename_i hw
    rw[if_pos hw] at h2
    refine⟨h2.1,?_⟩
    have h3:=h2.2
    rw[show Fence.wide.round=none from rfl,Oper.semAt_none] at h3
    rw[show(Fence.wide.inRound l).round=some l from rfl,Oper.semAt_some _ _ _ (noDefer_spec hn)]
    exact uponIn_inR (fun a w=>ih _ a w) h3
   ·rename_i hw
    rw[if_neg hw] at h2
    exact⟨h2.1,ih _ _ _ h2.2⟩
theorem region_inR {n l id:Nat} {P:Program} {ops:Array Oper} {Q:Exit->Act->World->Prop} {a:Act} {w:World} (hm:P.follows .mixedOrders=true) (hnd:ops.all noDefer=true)
  (h:wpAnyIn Fence.wide n P .any ops Q ops.size (Array.replicate ops.size false) a w.drew):(Code.region id ops true).wpIn (Fence.wide.inRound l) n P Q a w:=
 wpIn_region_any hm (wpAnyIn_inR hnd _ _ _ _ h)
end Go.Proofs.YtfbgckgemfkioaaDoor
namespace Go.Proofs.YtfbgckgemfkioaaDoor
open Go.RowKit Go.Shelf
set_option linter.unusedVariables false
set_option linter.unusedSimpArgs false
attribute [local go_sem] Oper.semAt_some
theorem wpListIn_made {F:Fence} {nn:Nat} {w:World} {ops:Array Oper} {rest:List Oper} {o:Oper} {a:Act} {Q:Exit->Act->World->Prop} (hgd:o.guard=none) (l c:Operand)
  (hop:o.op=Op.makeSlice 25 l c) (n:Nat) (L:Int) (hl:a.eval l = .int .i64 L) (hc:a.eval c = .int .i64 L) (hL:L=(n:Int)) (hn:n<=4398046511104)
  (hK:∀w',w'.ownsRow w.heap.size 39 1 (.slice (some ⟨w.heap.size,0,none⟩) n n) n (u64s (List.replicate n 0))->Gr w w'->wpListIn F nn Tryd.prog ops Q rest (a.put o.dst (.slice (some ⟨w.heap.size,0,none⟩) n n)) w') :
  wpListIn F nn Tryd.prog ops Q (o :: rest) a w:=by
 obtain⟨i0,hi,hz0,hz1,hz2⟩:=info_parts Tryd.info39
 refine wpListIn_plain hgd fun K hK'=>?_
 obtain⟨w',hrun,r1,r2⟩:=run_make_full (P:=Tryd.prog) w w.heap.size 25 39 i0 (.int .u64 0) 1 Tryd.underlying25 hi hz0 hz1 .i64 .i64 n (by rw[hz2];omega) (by unfold maxLen;omega) (Nat.le_refl _)
 rw[made_u64] at r1
 subst hL
 unfold Oper.wpIn
 refine⟨?_,?_⟩
 ·simp[Oper.about,hop]
 ·rw[Oper.semAt_plain F _ _ (by rw[hop];intro c hc';cases hc')]
  simp[execOp,hop,hl,hc,hrun,Result.andThen]
  exact hK' _ _ (hK w' r1 ((Gr.refl w).grown r2 (fun k h=>by cases h)))
set_option maxRecDepth 100000 in
set_option maxHeartbeats 4000000 in
theorem packedC (ad:Option Addr) (n cap b nn:Nat) (es:List Int) (h:Int) (w:World) (hr:RI w ad n cap es) (hes:∀v∈es,-9223372036854775808<=v/\v<=9223372036854775807) (hn:n<=4294967296) (hb1:2<=b) (hb2:b<=30) (hB:(2:Int) ^ b=2*h) (hh:2<=h) (x0:0<=dv (2 ^ b) es) (x1:dv (2 ^ b) es<(2 ^ b) ^ n) :
  CallsIn Fence.wide nn Tryd.prog 19 #[.slice ad n cap,.int .i64 (b:Int)] w fun e w'=>∃ad' k cap',e = .returned (.slice ad' k cap')/\Lim w' ad' k cap' 18446744073709551616 (dv (2 ^ b) es).toNat/\Fresh w.heap.size w' ad' k cap'/\Gr w w':=by
 have hlen:=hr.len
 have hnb:n*b<=128849018880:=by
  have:=Nat.mul_le_mul hn hb2
  omega
 obtain⟨N,hN⟩:∃N,n*b / 64+2=N:=⟨_,rfl⟩
 have hN2:N<=4398046511104:=by omega
 have eN:(n:Int)*b / 64+2=(N:Int):=by rw[<-hN];omega
 have HR:=hide hr
 have HE:=hide (And.intro hes (And.intro x0 x1))
 clear hr hes x0 x1
 refine callsIn_of_wp_marks Tryd.func19 rfl trivial ?_ rfl
 simp only[Tryd.ntmps19,List.size_toArray,List.length_cons,List.length_nil,Nat.reduceAdd,Nat.reduceSub,Array.replicate_succ,Array.replicate_zero,List.push_toArray,List.append_toArray,List.nil_append,List.cons_append]
 have EN:=hide eN
 clear eN
 gi_wp2_with (gi_at_make;refine wpListIn_made rfl _ _ rfl N _ rfl rfl ?_ ?_ ?_;rotate_right;intro wA hown0 gA;replace hown0:=hide hown0;replace gA:=hide gA)
 case' refine_1=>exact EN.out
 case' refine_2=>exact hN2
 obtain⟨wB,hwB⟩:∃wB,(wA.alloc (.cells #[.slice (some ⟨w.heap.size+1,0,none⟩) N N] 25)).alloc (.cells #[.int .i64 0] 3)=wB:=⟨_,rfl⟩
 rw[hwB]
 have b0:Boxed wB w.heap.size 3 (.int .i64 (b:Int)):=by
  rw[<-hwB]
  have:=(GrE.of_gr (E:=fun _=>False) gA.out).boxed (Boxed.new w 3 (.int .i64 (b:Int))) (fun h=>h)
  exact(this.alloc _).alloc _
 have b1:Boxed wB wA.heap.size 25 (.slice (some ⟨w.heap.size+1,0,none⟩) N N):=by
  rw[<-hwB];exact(Boxed.new wA _ _).alloc _
 have b2:Boxed wB (wA.heap.size+1) 3 (.int .i64 0):=by
  rw[<-hwB]
  have:=Boxed.new (wA.alloc (.cells #[.slice (some ⟨w.heap.size+1,0,none⟩) N N] 25)) 3 (.int .i64 0)
  rw[World.size_alloc] at this
  exact this
 have o1:wB.ownsRow (w.heap.size+1) 39 1 (.slice (some ⟨w.heap.size+1,0,none⟩) N N) N (u64s (List.replicate N 0)):=by
  have:=hown0.out
  rw[World.size_alloc] at this
  rw[<-hwB]
  exact(this.alloc _).alloc _
 have sB:wB.heap.size=wA.heap.size+2:=by rw[<-hwB];simp
 have gB:Gr w wB:=by
  rw[<-hwB];exact((((Gr.refl w).alloc _).trans gA.out).alloc _).alloc _
 have hpq:w.heap.size+2<=wA.heap.size:=by
  have:=(hown0.out.lt (w.heap.size+1) (by rw[World.size_alloc];rfl)).2
  omega
 clear hwB hown0 gA
 obtain⟨p,hp⟩:∃p,w.heap.size=p:=⟨_,rfl⟩
 obtain⟨q,hq⟩:∃q,wA.heap.size=q:=⟨_,rfl⟩
 rw[hp] at b0 b1 o1 hpq
 rw[hq] at b1 b2 sB hpq
 rw[hp,hq]
 obtain⟨wC,hwC⟩:∃wC,wB.drew.alloc (.cells #[.slice ad n cap] 22)=wC:=⟨_,rfl⟩
 have gC:Gr wB wC:=by rw[<-hwC];exact(Gr.refl wB).drew.alloc _
 have sC:wC.heap.size=q+3:=by rw[<-hwC];simp[sB]
 have VC:=valuesC ad n cap wB.drew
 rw[show wB.drew.heap.size=q+2 from sB,hwC] at VC
 have SC:=settledC 34 #[.pointer (some ⟨q+2,0,none⟩)] (b:Int) 0 wC
 rw[sC] at SC
 obtain⟨wD,hwD⟩:∃wD,((wC.alloc (.cells #[.func (.func 34) #[] #[.pointer (some ⟨q+2,0,none⟩)]] 46)).alloc (.cells #[.int .i64 (b:Int)] 3)).alloc (.cells #[.int .i64 0] 2)=wD:=⟨_,rfl⟩
 rw[hwD] at SC
 have gD:Gr wC wD:=by rw[<-hwD];exact(((Gr.refl wC).alloc _).alloc _).alloc _
 have sD:wD.heap.size=q+6:=by rw[<-hwD];simp[sC]
 have c2:wD.cell? ⟨q+2,0,none⟩=some (.slice ad n cap):=by
  refine keepG gD ?_
  rw[<-hwC]
  have:=Boxed.new wB.drew 22 (.slice ad n cap)
  rw[show wB.drew.heap.size=q+2 from sB] at this
  exact this.cell
 have c3:wD.cell? ⟨q+3,0,none⟩=some (.func (.func 34) #[] #[.pointer (some ⟨q+2,0,none⟩)]):=by
  have:=Boxed.new wC 46 (.func (.func 34) #[] #[.pointer (some ⟨q+2,0,none⟩)])
  rw[sC] at this
  rw[<-hwD]
  exact((this.alloc _).alloc _).cell
 have c4:wD.cell? ⟨q+4,0,none⟩=some (.int .i64 (b:Int)):=by
  have:=Boxed.new (wC.alloc (.cells #[.func (.func 34) #[] #[.pointer (some ⟨q+2,0,none⟩)]] 46)) 3 (.int .i64 (b:Int))
  rw[World.size_alloc,sC] at this
  rw[<-hwD]
  exact(this.alloc _).cell
 have c5:wD.cell? ⟨q+5,0,none⟩=some (.int .i64 0):=by
  have:=Boxed.new ((wC.alloc (.cells #[.func (.func 34) #[] #[.pointer (some ⟨q+2,0,none⟩)]] 46)).alloc (.cells #[.int .i64 (b:Int)] 3)) 2 (.int .i64 0)
  simp only[World.size_alloc,sC] at this
  rw[<-hwD]
  exact this.cell
 clear hwD
 have VC:=hide VC
 have SC:=hide SC
 have cb:=b0.cell
 have cb2:=keepG gC cb
 replace hwC:=hide hwC
 refine wpIn_mono (Q:=qN fun a' w'=>(∃v17 v18 v19,a' = {tmps:=#[.slice ad n cap,.int .i64 (b:Int),undef,.pointer (some ⟨p,0,none⟩),.slice none 0 0,.pointer (some ⟨q,0,none⟩),.pointer (some ⟨q+1,0,none⟩),undef,undef,undef,.slice ad n cap,.int .i64 (n:Int),.int .i64 (b:Int),.int .i64 ((n:Int)*b),.int .i64 ((n:Int)*b / 64),.int .i64 ((n:Int)*b / 64+2),.slice (some ⟨p+1,0,none⟩) N N,v17,v18,v19,.func (.func 48) #[] #[.pointer (some ⟨q+4,0,none⟩),.pointer (some ⟨q+5,0,none⟩),.pointer (some ⟨q+3,0,none⟩)],undef,undef,undef,undef,undef,undef,undef,undef,undef,undef,undef,undef,undef,undef,undef,undef,undef,undef,undef,undef,undef,undef,undef,undef,undef,undef,undef,undef,undef,undef,undef,undef],defers:=[]})/\w'=wD) ?reg ?_
 case reg =>
  gi_region_with (first|((with_reducible refine And.intro ?_ (And.intro ?_ ?_));exact trivial;exact(fun h=>(by cases h));gi_at_call 17;refine(callsIn_wide.2 VC.out).mono ?_;rintro e w' ⟨rfl,rfl⟩)|((with_reducible refine And.intro ?_ (And.intro ?_ ?_));exact trivial;exact(fun h=>(by cases h));gi_at_call 33;refine(callsIn_wide.2 SC.out).mono ?_;rintro e w' ⟨rfl,rfl⟩))
  all_goals exact⟨⟨_,_,_,rfl⟩,rfl⟩
 rintro e a' w' he
 cases e <;> try exact he.elim
 obtain⟨⟨v17,v18,v19,rfl⟩,hwd⟩:=he
 rw[hwd]
 clear hwd w' VC SC cb cb2 hwC
 gi_wp2
 obtain⟨hes,x0,x1⟩:=HE.out
 have hBp:(0:Int)<2 ^ b:=by omega
 obtain⟨rn1,rn2⟩:=run_none hBp es x0 (by rw[hlen];exact x1)
 have GD:Gr w wD:=(gB.trans gC).trans gD
 have hRI:=HR.out.gr GD
 have SQ:=settledQ (q+4) (q+5) (q+3) (fun k=>k=p+1\/k=q+1\/q+6<=k) b 0 34 #[.pointer (some ⟨q+2,0,none⟩)] 0 es wD hb1 hb2 (by omega) (by omega) hes (by omega) (by omega) (by omega) (fun k hk=>by omega) c4 c5 c3 (enters_of Tryd.func34 (by kernel_rfl) rfl)
  (valuesQ (q+2) _ ad n cap es wD hRI (fun b' e hp'=>by have h1:=(HR.out.cell b' e 0 hp').1;omega) (by omega) c2) (by rw[List.replicate_zero,List.append_nil];exact rn1) (fun i hi=>absurd hi (by omega))
 rw[List.replicate_zero,List.append_nil] at SQ
 have pin:=runD_in (B:=2 ^ b) hBp 0 es 0
 have plen:=runD_len (2 ^ b) 0 es 0
 rw[hlen] at plen
 obtain⟨ps,hps⟩:∃ps,runD (2 ^ b) 0 es 0=ps:=⟨_,rfl⟩
 rw[hps] at SQ pin plen rn2
 have SQ:=hide SQ
 have PI:=hide pin
 have RN:=hide rn2
 have o2:=(gC.trans gD).owns o1
 have d0:=(GrE.of_gr (E:=fun _=>False) (gC.trans gD)).boxed b0 (fun h=>h)
 have d1:=(GrE.of_gr (E:=fun _=>False) (gC.trans gD)).boxed b1 (fun h=>h)
 have d2:=(GrE.of_gr (E:=fun _=>False) (gC.trans gD)).boxed b2 (fun h=>h)
 clear c2 c3 c4 c5 b0 b1 b2 o1 rn1 rn2 x0 x1 pin hes hps
 refine wpIn_rangeQ (E:=fun k=>k=p+1\/k=q+1\/q+6<=k) (m:=6) (xs:=ps) (w₀:=wD) (gf:=48) (lb:=#[.pointer (some ⟨q+4,0,none⟩),.pointer (some ⟨q+5,0,none⟩),.pointer (some ⟨q+3,0,none⟩)]) rfl (enters_of Tryd.func48 (by kernel_rfl) rfl) SQ.out (GrE.refl _ _) (fun k hk=>by omega) rfl
  (fun pre A=>Boxed A p 3 (.int .i64 (b:Int))/\Boxed A q 25 (.slice (some ⟨p+1,0,none⟩) N N)/\Boxed A (q+1) 3 (.int .i64 ((b*pre.length:Nat):Int))/\∃zs,A.ownsRow (p+1) 39 1 (.slice (some ⟨p+1,0,none⟩) N N) N (u64s zs)/\(∀z∈zs,z<18446744073709551616)/\((nv 18446744073709551616 zs:Nat):Int)=dv (2 ^ b) pre)
  ?hI ?h0 (fun x=>{tmps:=#[.slice ad n cap,.int .i64 (b:Int),undef,.pointer (some ⟨p,0,none⟩),.slice none 0 0,.pointer (some ⟨q,0,none⟩),.pointer (some ⟨q+1,0,none⟩),.int .i64 x,undef,undef,.slice ad n cap,.int .i64 (n:Int),.int .i64 (b:Int),.int .i64 ((n:Int)*b),.int .i64 ((n:Int)*b / 64),.int .i64 ((n:Int)*b / 64+2),.slice (some ⟨p+1,0,none⟩) N N,v17,v18,v19,.func (.func 48) #[] #[.pointer (some ⟨q+4,0,none⟩),.pointer (some ⟨q+5,0,none⟩),.pointer (some ⟨q+3,0,none⟩)],.int .i64 x,undef,undef,undef,undef,undef,undef,undef,undef,undef,undef,undef,undef,undef,undef,undef,undef,undef,undef,undef,undef,undef,undef,undef,undef,undef,undef,undef,undef,undef,undef,undef],defers:=[]}) ?assign ?body ?done
 case hI =>
  rintro pre A B ⟨h1,h2,h3,zs,h4,h5⟩ hE
  rw[sD] at hE
  have nb:∀k,k<q+6->¬Btw (q+6) (6+2) k:=fun k hk h=>by have:=h.1;omega
  exact⟨hE.boxed h1 (nb _ (by omega)),hE.boxed h2 (nb _ (by omega)),hE.boxed h3 (nb _ (by omega)),zs,hE.owns h4 (fun b e=>by cases e;exact nb (p+1) (by omega)),h5⟩
 case h0=>exact⟨d0,d1,d2,List.replicate N 0,o2,(fun z hz=>by rw[List.mem_replicate] at hz;omega),by rw[nv_zeros];rfl⟩
 case assign =>
  intro l x W K hK
  gi_wp2
  exact hK
 case body =>
  rintro lq pre x A ⟨h1,h2,h3,zs,h4,h5,h6⟩ hpre hA
  rw[sD] at hA ⊢
  have hx:=PI.out x (hpre.subset (by simp))
  have hk:pre.length+1<=n:=by
   have:=hpre.length_le
   rw[plen] at this
   simpa using this
  have hzl:=owns_len h4
  have hpb:0<=dv (2 ^ b) pre/\dv (2 ^ b) pre<(2 ^ b) ^ pre.length:=dv_pos hBp pre (fun d hd=>by have:=PI.out d (hpre.subset (by simp[hd]));omega)
  obtain⟨z,rfl⟩:=Int.eq_ofNat_of_zero_le hx.1
  have hz:z<2 ^ b:=by
   have e:(2:Int) ^ b=((2 ^ b:Nat):Int):=by simp
   omega
  obtain⟨a,ha⟩:∃a,b*pre.length=a:=⟨_,rfl⟩
  have hab:a+b<=n*b:=by
   have:=Nat.mul_le_mul_left b hk
   rw[Nat.mul_add,ha,Nat.mul_comm b n] at this
   omega
  obtain⟨i,hi⟩:∃i,a / 64=i:=⟨_,rfl⟩
  obtain⟨r,hr⟩:∃r,a % 64=r:=⟨_,rfl⟩
  have hiN:i+1<N:=by omega
  have hS:nv 18446744073709551616 zs<2 ^ (b*pre.length):=by
   have e:((2:Int) ^ b) ^ pre.length=((2 ^ (b*pre.length):Nat):Int):=by rw[<-Int.pow_mul];simp
   have:=hpb.2
   rw[<-h6,e] at this
   omega
  obtain⟨t1,t2,t3,t4,t5⟩:=pack_at (i:=i) (r:=r) h5 rfl hS hz hb2 (by omega) (by omega) (by omega)
  rw[ha] at h3
  have q1:=h1.cell
  have q2:=h2.cell
  have q3:=h3.cell
  have f3:=h3.frozen
  have ed:(a:Int) / 64=(i:Int):=by omega
  have em:(a:Int) % 64=(r:Int):=by omega
  have ed':(a:Int).tdiv 64=(i:Int):=by rw[Int.tdiv_eq_ediv_of_nonneg (by omega)];exact ed
  have em':(a:Int).tmod 64=(r:Int):=by rw[Int.tmod_eq_emod_of_nonneg (by omega)];exact em
  have ew:IntKind.i64.wrap (i:Int)=(i:Int):=wrap_i64_small _ (by omega) (by omega)
  gi_wp2
  refine wpIn_mono (Q:=qN fun a' w'=>(∃v22 v23 v24 v25,a' = {tmps:=#[.slice ad n cap,.int .i64 (b:Int),undef,.pointer (some ⟨p,0,none⟩),.slice none 0 0,.pointer (some ⟨q,0,none⟩),.pointer (some ⟨q+1,0,none⟩),.int .i64 (z:Int),.int .i64 (i:Int),.int .i64 (r:Int),.slice ad n cap,.int .i64 (n:Int),.int .i64 (b:Int),.int .i64 ((n:Int)*b),.int .i64 ((n:Int)*b / 64),.int .i64 ((n:Int)*b / 64+2),.slice (some ⟨p+1,0,none⟩) N N,v17,v18,v19,.func (.func 48) #[] #[.pointer (some ⟨q+4,0,none⟩),.pointer (some ⟨q+5,0,none⟩),.pointer (some ⟨q+3,0,none⟩)],.int .i64 (z:Int),v22,v23,v24,v25,undef,undef,undef,undef,undef,undef,undef,undef,undef,undef,undef,undef,undef,undef,undef,undef,undef,undef,undef,undef,undef,undef,undef,undef,undef,undef,undef],defers:=[]})/\w'=A.drew) ?reg ?_
  case reg =>
   gi_region
   all_goals exact⟨⟨_,_,_,_,rfl⟩,rfl⟩
  rintro e a' w' he
  cases e <;> try exact he.elim
  obtain⟨⟨v22,v23,v24,v25,rfl⟩,hwd⟩:=he
  rw[hwd]
  clear hwd w'
  have cI:=owns_cell h4 i (by omega)
  have fI:=h4.frozenAt i
  have hz2:(z:Int)<1073741824:=by
   have:=Nat.pow_le_pow_right (n:=2) (by omega) hb2
   omega
  have hiN':(i:Int)<(N:Int):=by omega
  have HH:=hide (And.intro h1 (And.intro h2 (And.intro h3 (And.intro h4 (And.intro h5 h6)))))
  have hr64:r<64:=by omega
  have hzW:z<18446744073709551616:=by omega
  obtain⟨zi,hzi⟩:∃zi,zs.getD i 0=zi:=⟨_,rfl⟩
  obtain⟨zl,hzl'⟩:∃zl,z*2 ^ r % 18446744073709551616=zl:=⟨_,rfl⟩
  obtain⟨zn,hzn⟩:∃zn,(zi ||| zl)=zn:=⟨_,rfl⟩
  obtain⟨zq,hzq⟩:∃zq,z / 2 ^ (64-r)=zq:=⟨_,rfl⟩
  have hzi64:zi<18446744073709551616:=by rw[<-hzi];exact getD_lt (by omega) h5 i
  have hzl64:zl<18446744073709551616:=by rw[<-hzl'];exact Nat.mod_lt _ (by omega)
  have hzq64:zq<18446744073709551616:=by rw[<-hzq];exact Nat.lt_of_le_of_lt (Nat.div_le_self _ _) hzW
  rw[hzl',hzi,hzn,hzq] at t4 t5
  have TT:=hide (And.intro t4 t5)
  have HA:=hide (And.intro ha (And.intro hi hr))
  have e1:IntKind.u64.wrap (z:Int)=(z:Int):=by rw[IntKind.wrap_u64];omega
  have e2:IntKind.u64.wrap ((z:Int)*2 ^ r)=(zl:Int):=by
   rw[IntKind.wrap_u64,<-hzl',Int.natCast_emod,Int.natCast_mul];simp
  have e3:bits BinOp.or IntKind.u64 (zi:Int) (zl:Int)=(zn:Int):=by rw[bits_or_u64_nat _ _ hzi64 hzl64,hzn]
  have e4:(z:Int) / 2 ^ (64-r)=(zq:Int):=by rw[<-hzq,Int.natCast_ediv];simp
  have e5:bits BinOp.or IntKind.u64 0 (zq:Int)=(zq:Int):=by
   have:=bits_or_u64_nat 0 zq (by omega) hzq64
   simpa using this
  have cJ:=owns_cell h4 (i+1) (by omega)
  have fJ:=h4.frozenAt (i+1)
  rw[t2] at cJ
  rw[hzi] at cI
  have E4:=hide (And.intro e4 e5)
  have CJ:=hide (And.intro cJ fJ)
  have Q2:=hide q2
  have ez64:Hid ((64:Int)-r=((64-r:Nat):Int)):=by show _=_;omega
  clear h1 h2 h3 h4 h5 h6 t1 t2 t3 t4 t5 ed em ed' em' ew hS hpb hx hz hpre ha hi hr hzl d0 d1 d2 o2 SQ e4 e5 hzi hzl' hzn hzq cJ fJ
  gi_wp2
  refine wpIn_mono (Q:=qN fun a' w'=>(∃v26 v27 v28 v29 v30 v31 v32 v33 v34 v35,a' = {tmps:=#[.slice ad n cap,.int .i64 (b:Int),undef,.pointer (some ⟨p,0,none⟩),.slice none 0 0,.pointer (some ⟨q,0,none⟩),.pointer (some ⟨q+1,0,none⟩),.int .i64 (z:Int),.int .i64 (i:Int),.int .i64 (r:Int),.slice ad n cap,.int .i64 (n:Int),.int .i64 (b:Int),.int .i64 ((n:Int)*b),.int .i64 ((n:Int)*b / 64),.int .i64 ((n:Int)*b / 64+2),.slice (some ⟨p+1,0,none⟩) N N,v17,v18,v19,.func (.func 48) #[] #[.pointer (some ⟨q+4,0,none⟩),.pointer (some ⟨q+5,0,none⟩),.pointer (some ⟨q+3,0,none⟩)],.int .i64 (z:Int),v22,v23,v24,v25,v26,v27,v28,v29,v30,v31,v32,v33,v34,v35,undef,undef,undef,undef,undef,undef,undef,undef,undef,undef,undef,undef,undef,undef,undef,undef,undef],defers:=[]})/\w'=A.drew.drew.setCell ⟨p+1,i,none⟩ (.int .u64 (zn:Int))) ?reg ?_
  case reg =>
   refine region_inR (by kernel_rfl) (by kernel_rfl) ?_
   refine wpAnyIn_take (i:=1) (v:=.int .i64 (i:Int)) rfl rfl (by kernel_rfl) (by kernel_rfl) (by kernel_rfl) (fun _ _ _ h=>h) ⟨Or.inl ⟨by rfl,(by intro w;go_simp)⟩,fun _=>rfl⟩ ?_
   refine wpAnyIn_take (i:=4) (v:=.int .i64 (z:Int)) rfl rfl (by kernel_rfl) (by kernel_rfl) (by kernel_rfl) (fun _ _ _ h=>h) ⟨Or.inl ⟨by rfl,(by intro w;go_simp)⟩,fun _=>rfl⟩ ?_
   refine wpAnyIn_take (i:=6) (v:=.int .i64 (r:Int)) rfl rfl (by kernel_rfl) (by kernel_rfl) (by kernel_rfl) (fun _ _ _ h=>h) ⟨Or.inl ⟨by rfl,(by intro w;go_simp)⟩,fun _=>rfl⟩ ?_
   refine wpAnyIn_take (i:=5) (v:=.int .u64 (z:Int)) rfl rfl (by kernel_rfl) (by kernel_rfl) (by kernel_rfl) (fun _ _ _ h=>h) ⟨Or.inl ⟨by rfl,(by intro w;go_simp)⟩,fun _=>rfl⟩ ?_
   refine wpAnyIn_take (i:=7) (v:=.int .u64 (zl:Int)) rfl rfl (by kernel_rfl) (by kernel_rfl) (by kernel_rfl) (fun _ _ _ h=>h) ⟨Or.inl ⟨by rfl,(by intro w;go_simp)⟩,fun _=>rfl⟩ ?_
   refine wpAnyIn_ready (rs:=[0]) (by kernel_rfl) (by simp) ?_
   refine AllReadyIn.cons rfl (fun K hK=>?_) AllReadyIn.nil
   go_simp
   refine hK _ _ ?_
   clear hK K
   refine wpAnyIn_take (i:=2) (v:=.pointer (some ⟨p+1,i,none⟩)) rfl rfl (by kernel_rfl) (by kernel_rfl) (by kernel_rfl) (fun _ _ _ h=>h) ⟨Or.inl ⟨by rfl,(by intro w;go_simp)⟩,fun _=>rfl⟩ ?_
   refine wpAnyIn_ready (rs:=[3]) (by kernel_rfl) (by simp) ?_
   refine AllReadyIn.cons rfl (fun K hK=>?_) AllReadyIn.nil
   go_simp
   refine hK _ _ ?_
   clear hK K
   refine wpAnyIn_take (i:=8) (v:=.int .u64 (zn:Int)) rfl rfl (by kernel_rfl) (by kernel_rfl) (by kernel_rfl) (fun _ _ _ h=>h) ⟨Or.inl ⟨by rfl,(by intro w;go_simp)⟩,fun _=>rfl⟩ ?_
   refine wpAnyIn_take (i:=9) (v:=.pointer (some ⟨p+1,i,none⟩)) rfl rfl (by kernel_rfl) (by kernel_rfl) (by kernel_rfl) (fun _ _ _ h=>h) ⟨Or.inl ⟨by rfl,(by intro w;go_simp)⟩,fun _=>rfl⟩ ?_
   refine wpAnyIn_ready (rs:=[10]) (by kernel_rfl) (by simp) ?_
   refine AllReadyIn.cons rfl (fun K hK=>?_) AllReadyIn.nil
   go_simp
   refine hK _ _ ?_
   clear hK K
   refine wpAnyIn_done (by kernel_rfl) ?_ _
   exact⟨⟨_,_,_,_,_,_,_,_,_,_,rfl⟩,rfl⟩
  rintro e a' w' he
  cases e <;> try exact he.elim
  obtain⟨⟨v26,v27,v28,v29,v30,v31,v32,v33,v34,v35,rfl⟩,hwd⟩:=he
  rw[hwd]
  clear hwd w'
  have gA1:GrE (fun k=>k=p+1\/k=q+1) A (A.drew.drew.setCell ⟨p+1,i,none⟩ (.int .u64 (zn:Int))):=((GrE.refl _ A).drew.drew).setCell (p:=⟨p+1,i,none⟩) (Or.inr (Or.inl rfl)) _
  obtain⟨h1,h2,h3,h4,h5,h6⟩:=HH.out
  have o1:(A.drew.drew.setCell ⟨p+1,i,none⟩ (.int .u64 (zn:Int))).ownsRow (p+1) 39 1 (.slice (some ⟨p+1,0,none⟩) N N) N (u64s (zs.set i zn)):=owns_set (w:=A.drew.drew) h4 i zn
  have cJ:(A.drew.drew.setCell ⟨p+1,i,none⟩ (.int .u64 (zn:Int))).cell? ⟨p+1,i+1,none⟩=some (.int .u64 0):=(World.cell?_setCell_other _ _ _ _ (fun e=>by injection e with e1 e2;omega)).trans CJ.out.1
  have fJ:(A.drew.drew.setCell ⟨p+1,i,none⟩ (.int .u64 (zn:Int))).frozen? ⟨p+1,i+1,none⟩=false:=by rw[World.frozen?_setCell];exact CJ.out.2
  have gA0:GrE (fun k=>k=p+1) A (A.drew.drew.setCell ⟨p+1,i,none⟩ (.int .u64 (zn:Int))):=(((GrE.refl (fun k=>k=p+1) A).drew.drew).setCell (p:=⟨p+1,i,none⟩) (Or.inr rfl) _)
  have k1:=gA0.boxed h1 (by omega)
  have k2:=gA0.boxed h2 (by omega)
  have k3:=gA0.boxed h3 (by omega)
  clear gA0
  clear h1 h2 h3 h4 q2 cI fI e2 e3 q1 q3 f3
  generalize A.drew.drew.setCell ⟨p+1,i,none⟩ (.int .u64 (zn:Int))=A1 at *
  obtain⟨e4,e5⟩:=E4.out
  have q2:=k2.cell
  have hr2:(r:Int)<=64:=by omega
  have ei1:(i:Int)+1=((i+1:Nat):Int):=by omega
  have hi1:((i:Nat):Int)+1<(N:Int):=by omega
  have ei2:IntKind.i64.wrap ((i:Int)+1)=((i+1:Nat):Int):=by rw[wrap_i64_small _ (by omega) (by omega)];omega
  have ei3:IntKind.i64.wrap (64-(r:Int))=((64-r:Nat):Int):=by rw[wrap_i64_small _ (by omega) (by omega)];omega
  have hi2:((i+1:Nat):Int)<(N:Int):=by omega
  clear ei1
  obtain⟨i1,hi1'⟩:∃i1,i+1=i1:=⟨_,rfl⟩
  rw[hi1'] at ei2 hi2 cJ fJ
  replace hi1':=hide hi1'
  obtain⟨r1,hr1'⟩:∃r1,64-r=r1:=⟨_,rfl⟩
  rw[hr1'] at ei3 e4
  have hmin:min r1 64=r1:=by omega
  replace hr1':=hide hr1'
  have O1:=hide o1
  have K3:=hide (And.intro k1 (And.intro k2 k3))
  clear o1 k1 k2 k3
  gi_wp2
  refine wpIn_mono (Q:=qN fun a' w'=>(∃v36 v37 v38 v39 v40 v41 v42 v43 v44 v45 v46 v47,a' = {tmps:=#[.slice ad n cap,.int .i64 (b:Int),undef,.pointer (some ⟨p,0,none⟩),.slice none 0 0,.pointer (some ⟨q,0,none⟩),.pointer (some ⟨q+1,0,none⟩),.int .i64 (z:Int),.int .i64 (i:Int),.int .i64 (r:Int),.slice ad n cap,.int .i64 (n:Int),.int .i64 (b:Int),.int .i64 ((n:Int)*b),.int .i64 ((n:Int)*b / 64),.int .i64 ((n:Int)*b / 64+2),.slice (some ⟨p+1,0,none⟩) N N,v17,v18,v19,.func (.func 48) #[] #[.pointer (some ⟨q+4,0,none⟩),.pointer (some ⟨q+5,0,none⟩),.pointer (some ⟨q+3,0,none⟩)],.int .i64 (z:Int),v22,v23,v24,v25,v26,v27,v28,v29,v30,v31,v32,v33,v34,v35,v36,v37,v38,v39,v40,v41,v42,v43,v44,v45,v46,v47,undef,undef,undef,undef,undef],defers:=[]})/\w'=A1.drew.setCell ⟨p+1,i1,none⟩ (.int .u64 (zq:Int))) ?reg2 ?_
  case reg2 =>
   refine region_inR (by kernel_rfl) (by kernel_rfl) ?_
   refine wpAnyIn_take (i:=1) (v:=.int .i64 (i:Int)) rfl rfl (by kernel_rfl) (by kernel_rfl) (by kernel_rfl) (fun _ _ _ h=>h) ⟨Or.inl ⟨by rfl,(by intro w;go_simp)⟩,fun _=>rfl⟩ ?_
   refine wpAnyIn_take (i:=2) (v:=.int .i64 (i1:Int)) rfl rfl (by kernel_rfl) (by kernel_rfl) (by kernel_rfl) (fun _ _ _ h=>h) ⟨Or.inl ⟨by rfl,(by intro w;go_simp)⟩,fun _=>rfl⟩ ?_
   refine wpAnyIn_take (i:=5) (v:=.int .i64 (z:Int)) rfl rfl (by kernel_rfl) (by kernel_rfl) (by kernel_rfl) (fun _ _ _ h=>h) ⟨Or.inl ⟨by rfl,(by intro w;go_simp)⟩,fun _=>rfl⟩ ?_
   refine wpAnyIn_take (i:=6) (v:=.int .u64 (z:Int)) rfl rfl (by kernel_rfl) (by kernel_rfl) (by kernel_rfl) (fun _ _ _ h=>h) ⟨Or.inl ⟨by rfl,(by intro w;go_simp)⟩,fun _=>rfl⟩ ?_
   refine wpAnyIn_take (i:=7) (v:=.int .i64 (r:Int)) rfl rfl (by kernel_rfl) (by kernel_rfl) (by kernel_rfl) (fun _ _ _ h=>h) ⟨Or.inl ⟨by rfl,(by intro w;go_simp)⟩,fun _=>rfl⟩ ?_
   refine wpAnyIn_take (i:=8) (v:=.int .i64 (r1:Int)) rfl rfl (by kernel_rfl) (by kernel_rfl) (by kernel_rfl) (fun _ _ _ h=>h) ⟨Or.inl ⟨by rfl,(by intro w;go_simp)⟩,fun _=>rfl⟩ ?_
   refine wpAnyIn_take (i:=9) (v:=.int .u64 (zq:Int)) rfl rfl (by kernel_rfl) (by kernel_rfl) (by kernel_rfl) (fun _ _ _ h=>h) ⟨Or.inl ⟨by rfl,(by intro w;go_simp)⟩,fun _=>rfl⟩ ?_
   refine wpAnyIn_ready (rs:=[0]) (by kernel_rfl) (by simp) ?_
   refine AllReadyIn.cons rfl (fun K hK=>?_) AllReadyIn.nil
   go_simp
   refine hK _ _ ?_
   clear hK K
   refine wpAnyIn_take (i:=3) (v:=.pointer (some ⟨p+1,i1,none⟩)) rfl rfl (by kernel_rfl) (by kernel_rfl) (by kernel_rfl) (fun _ _ _ h=>h) ⟨Or.inl ⟨by rfl,(by intro w;go_simp)⟩,fun _=>rfl⟩ ?_
   refine wpAnyIn_ready (rs:=[4]) (by kernel_rfl) (by simp) ?_
   refine AllReadyIn.cons rfl (fun K hK=>?_) AllReadyIn.nil
   go_simp
   refine hK _ _ ?_
   clear hK K
   refine wpAnyIn_take (i:=10) (v:=.int .u64 (zq:Int)) rfl rfl (by kernel_rfl) (by kernel_rfl) (by kernel_rfl) (fun _ _ _ h=>h) ⟨Or.inl ⟨by rfl,(by intro w;go_simp)⟩,fun _=>rfl⟩ ?_
   refine wpAnyIn_take (i:=11) (v:=.pointer (some ⟨p+1,i1,none⟩)) rfl rfl (by kernel_rfl) (by kernel_rfl) (by kernel_rfl) (fun _ _ _ h=>h) ⟨Or.inl ⟨by rfl,(by intro w;go_simp)⟩,fun _=>rfl⟩ ?_
   refine wpAnyIn_ready (rs:=[12]) (by kernel_rfl) (by simp) ?_
   refine AllReadyIn.cons rfl (fun K hK=>?_) AllReadyIn.nil
   go_simp
   refine hK _ _ ?_
   clear hK K
   refine wpAnyIn_done (by kernel_rfl) ?_ _
   exact⟨⟨_,_,_,_,_,_,_,_,_,_,_,_,rfl⟩,rfl⟩
  rintro e a' w' he
  cases e <;> try exact he.elim
  obtain⟨⟨v36,v37,v38,v39,v40,v41,v42,v43,v44,v45,v46,v47,rfl⟩,hwd⟩:=he
  rw[hwd]
  clear hwd w'
  obtain⟨k1,k2,k3⟩:=K3.out
  have gA2:GrE (fun k=>k=p+1) A1 (A1.drew.setCell ⟨p+1,i1,none⟩ (.int .u64 (zq:Int))):=((GrE.refl (fun k=>k=p+1) A1).drew).setCell (p:=⟨p+1,i1,none⟩) (Or.inr rfl) _
  have j1:=gA2.boxed k1 (by omega)
  have j2:=gA2.boxed k2 (by omega)
  have j3:=gA2.boxed k3 (by omega)
  have o2:(A1.drew.setCell ⟨p+1,i1,none⟩ (.int .u64 (zq:Int))).ownsRow (p+1) 39 1 (.slice (some ⟨p+1,0,none⟩) N N) N (u64s ((zs.set i zn).set i1 zq)):=owns_set (w:=A1.drew) O1.out i1 zq
  clear k1 k2 k3 q2 cJ fJ e4 e5
  generalize A1.drew.setCell ⟨p+1,i1,none⟩ (.int .u64 (zq:Int))=A2 at *
  have c1:=j1.cell
  have c3:=j3.cell
  have f3:=j3.frozen
  have hab2:(a:Int)+b<=9223372036854775807:=by omega
  obtain⟨t4,t5⟩:=TT.out
  rw[hi1'.out] at t4 t5
  have hlp:((a:Int)+b)=((b*(pre++[(z:Int)]).length:Nat):Int):=by
   rw[List.length_append,List.length_singleton,Nat.mul_add,HA.out.1];omega
  have FIN:Hid (A2.ownsRow (p+1) 39 1 (.slice (some ⟨p+1,0,none⟩) N N) N (u64s ((zs.set i zn).set i1 zq))/\(∀x∈(zs.set i zn).set i1 zq,x<18446744073709551616)/\((nv 18446744073709551616 ((zs.set i zn).set i1 zq):Nat):Int)=dv (2 ^ b) (pre++[(z:Int)])):=by
   refine⟨o2,t5,?_⟩
   rw[t4,dv_snoc,Int.natCast_add,h6,Int.natCast_mul]
   congr 2
   rw[<-Int.pow_mul];simp
  have J3:=hide (And.intro j1 (And.intro j2 j3))
  have GG:=hide (gA1.trans (gA2.mono fun k _ h=>Or.inl h))
  have HL:=hide hlp
  clear j1 j2 j3 o2 t4 t5 h5 h6 gA1 gA2 hlp
  gi_wp2
  obtain⟨j1,j2,j3⟩:=J3.out
  obtain⟨o2,t5,t6⟩:=FIN.out
  rw[HL.out]
  have gX:GrE (fun k=>k=q+1) A2 (A2.setCell ⟨q+1,0,none⟩ (.int .i64 ((b*(pre++[(z:Int)]).length:Nat):Int))):=(GrE.refl (fun k=>k=q+1) A2).setCell (p:=⟨q+1,0,none⟩) (Or.inr rfl) _
  refine⟨⟨gX.boxed j1 (by omega),gX.boxed j2 (by omega),Boxed.set _ j3,_,gX.owns o2 (fun b e=>by cases e;show ¬p+1=q+1;omega),t5,t6⟩,?_⟩
  exact((GG.out.trans (gX.mono fun k _ h=>Or.inr h)).mono fun k _ h=>⟨by omega,fun h'=>by have:=h'.1;omega⟩)
 case done =>
  rintro A ⟨h1,h2,h3,zs,h4,h5,h6⟩ hG hz hD
  rw[sD] at hD hz ⊢
  have q2:=h2.cell
  obtain⟨ad',cap',hEq,hrow⟩:=Row.of_owns h4
  simp only[Value.slice.injEq,true_and] at hEq
  obtain⟨rfl,rfl⟩:=hEq
  have TU:=hide (trimU _ _ _ zs A hrow)
  have HG:=hide hG
  have H4:=hide h4
  have H5:=hide (And.intro h5 h6)
  have HROW:=hide hrow
  have HDD:=hide hD
  clear hG h4 h5 h6 h1 h3 hrow
  gi_wp2_with ((with_reducible refine And.intro ?_ (And.intro ?_ ?_));exact trivial;exact(fun h=>(by cases h));gi_at_call 35;refine(callsIn_wide.2 TU.out).mono ?_;rintro e w' ⟨k,rfl,hk,hk1,hk2,rfl⟩)
  refine⟨by simp,.inl ⟨_,_,rfl,run_takeDeferred HDD.out,?_⟩⟩
  refine⟨_,results_tmp rfl _ _ _,?_⟩
  have gP:GrE (fun k=>k=q+6) w' (w'.putObj (q+6) (.deferred none)):=(GrE.refl (fun k=>k=q+6) w').putObj (Or.inr rfl) _
  have o3:=gP.owns H4.out (fun b e=>by cases e;show ¬p+1=q+6;omega)
  obtain⟨ad2,cap2,hEq2,hrow2⟩:=Row.of_owns o3
  simp only[Value.slice.injEq,true_and] at hEq2
  obtain⟨rfl,rfl⟩:=hEq2
  obtain⟨z5,z6⟩:=H5.out
  refine⟨_,k,_,rfl,?_,?_,?_⟩
  ·have:=trim_out hrow2 z5 hk hk1 hk2
   rw[<-RN.out,<-z6,Int.toNat_natCast]
   exact this
  ·exact(Fresh.takeG o3 hk).low (by omega)
  ·have g1:GrE (fun k=>p<=k) w (w'.putObj (q+6) (.deferred none)):=((GrE.of_gr GD).trans (HG.out.mono fun k _ h=>by omega)).trans (gP.mono fun k _ h=>by omega)
   rw[<-hp] at g1
   exact g1.toGr
end Go.Proofs.YtfbgckgemfkioaaDoor
