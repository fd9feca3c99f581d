import Derived.Test.YtfbgckgemfkioaaY05
namespace Go.Proofs.Ytfbgckgemfkioaa
open Go.RowKit Go.Shelf
set_option linter.unusedVariables false
set_option linter.unusedSimpArgs false
attribute [local go_sem] Oper.semAt_some
theorem wpListIn_made {F:Fence} {nn:Nat} {w:World} {ops:Array Oper} {rest:List Oper} {o:Oper} {a:Act} {Q:Exit->Act->World->Prop} (hgd:o.guard=none) (l c:Operand)
  (hop:o.op=Op.makeSlice 22 l c) (n:Nat) (L:Int) (hl:a.eval l = .int .i64 L) (hc:a.eval c = .int .i64 L) (hL:L=(n:Int)) (hn:n<=4398046511104)
  (hK:∀w',w'.ownsRow w.heap.size 44 1 (.slice (some ⟨w.heap.size,0,none⟩) n n) n (u64s (List.replicate n 0))->Gr w w'->wpListIn F nn Try.prog ops Q rest (a.put o.dst (.slice (some ⟨w.heap.size,0,none⟩) n n)) w') :
  wpListIn F nn Try.prog ops Q (o :: rest) a w:=by
 obtain⟨i0,hi,hz0,hz1,hz2⟩:=info_parts Try.info44
 refine wpListIn_plain hgd fun K hK'=>?_
 obtain⟨w',hrun,r1,r2⟩:=run_make_full (P:=Try.prog) w w.heap.size 22 44 i0 (.int .u64 0) 1 Try.underlying22 hi hz0 hz1 .i64 .i64 n (by rw[hz2];omega) (by unfold maxLen;omega) (Nat.le_refl _)
 rw[made_u64] at r1
 subst hL
 unfold Oper.wpIn
 refine⟨?_,?_⟩
 ·simp[Oper.about,hop]
 ·rw[Oper.semAt_plain F _ _ (by rw[hop];intro c hc';cases hc')]
  simp[execOp,hop,hl,hc,hrun,Result.andThen]
  exact hK' _ _ (hK w' r1 ((Gr.refl w).grown r2 (fun k h=>by cases h)))
set_option maxRecDepth 100000 in
set_option maxHeartbeats 4000000 in
theorem packedC (ad:Option Addr) (n cap b nn:Nat) (es:List Int) (h:Int) (w:World) (hr:RI w ad n cap es) (hes:∀v∈es,-9223372036854775808<=v/\v<=9223372036854775807) (hn:n<=4294967296) (hb1:2<=b) (hb2:b<=30) (hB:(2:Int) ^ b=2*h) (hh:2<=h) (x0:0<=dv (2 ^ b) es) (x1:dv (2 ^ b) es<(2 ^ b) ^ n) :
  CallsIn Fence.wide nn Try.prog 34 #[.slice ad n cap,.int .i64 (b:Int)] w fun e w'=>∃ad' k cap',e = .returned (.slice ad' k cap')/\Lim w' ad' k cap' 18446744073709551616 (dv (2 ^ b) es).toNat/\Fresh w.heap.size w' ad' k cap'/\Gr w w':=by
 have hlen:=hr.len
 have hnb:n*b<=128849018880:=by
  have:=Nat.mul_le_mul hn hb2
  omega
 obtain⟨N,hN⟩:∃N,n*b / 64+2=N:=⟨_,rfl⟩
 have hN2:N<=4398046511104:=by omega
 have eN:(n:Int)*b / 64+2=(N:Int):=by rw[<-hN];omega
 have HR:=hide hr
 have HE:=hide (And.intro hes (And.intro x0 x1))
 clear hr hes x0 x1
 refine callsIn_of_wp_marks Try.func34 rfl trivial ?_ rfl
 simp only[Try.ntmps34,List.size_toArray,List.length_cons,List.length_nil,Nat.reduceAdd,Nat.reduceSub,Array.replicate_succ,Array.replicate_zero,List.push_toArray,List.append_toArray,List.nil_append,List.cons_append]
 have EN:=hide eN
 clear eN
 gi_wp2_with (gi_at_make;refine wpListIn_made rfl _ _ rfl N _ rfl rfl ?_ ?_ ?_;rotate_right;intro wA hown0 gA;replace hown0:=hide hown0;replace gA:=hide gA)
 case' refine_1=>exact EN.out
 case' refine_2=>exact hN2
 obtain⟨wB,hwB⟩:∃wB,(wA.alloc (.cells #[.slice (some ⟨w.heap.size+1,0,none⟩) N N] 22)).alloc (.cells #[.int .i64 0] 3)=wB:=⟨_,rfl⟩
 rw[hwB]
 have b0:Boxed wB w.heap.size 3 (.int .i64 (b:Int)):=by
  rw[<-hwB]
  have:=(GrE.of_gr (E:=fun _=>False) gA.out).boxed (Boxed.new w 3 (.int .i64 (b:Int))) (fun h=>h)
  exact(this.alloc _).alloc _
 have b1:Boxed wB wA.heap.size 22 (.slice (some ⟨w.heap.size+1,0,none⟩) N N):=by
  rw[<-hwB];exact(Boxed.new wA _ _).alloc _
 have b2:Boxed wB (wA.heap.size+1) 3 (.int .i64 0):=by
  rw[<-hwB]
  have:=Boxed.new (wA.alloc (.cells #[.slice (some ⟨w.heap.size+1,0,none⟩) N N] 22)) 3 (.int .i64 0)
  rw[World.size_alloc] at this
  exact this
 have o1:wB.ownsRow (w.heap.size+1) 44 1 (.slice (some ⟨w.heap.size+1,0,none⟩) N N) N (u64s (List.replicate N 0)):=by
  have:=hown0.out
  rw[World.size_alloc] at this
  rw[<-hwB]
  exact(this.alloc _).alloc _
 have sB:wB.heap.size=wA.heap.size+2:=by rw[<-hwB];simp
 have gB:Gr w wB:=by
  rw[<-hwB];exact((((Gr.refl w).alloc _).trans gA.out).alloc _).alloc _
 have hpq:w.heap.size+2<=wA.heap.size:=by
  have:=(hown0.out.lt (w.heap.size+1) (by rw[World.size_alloc];rfl)).2
  omega
 clear hwB hown0 gA
 obtain⟨p,hp⟩:∃p,w.heap.size=p:=⟨_,rfl⟩
 obtain⟨q,hq⟩:∃q,wA.heap.size=q:=⟨_,rfl⟩
 rw[hp] at b0 b1 o1 hpq
 rw[hq] at b1 b2 sB hpq
 rw[hp,hq]
 obtain⟨wC,hwC⟩:∃wC,wB.drew.alloc (.cells #[.slice ad n cap] 27)=wC:=⟨_,rfl⟩
 have gC:Gr wB wC:=by rw[<-hwC];exact(Gr.refl wB).drew.alloc _
 have sC:wC.heap.size=q+3:=by rw[<-hwC];simp[sB]
 have VC:=valuesC ad n cap wB.drew
 rw[show wB.drew.heap.size=q+2 from sB,hwC] at VC
 have SC:=settledC 47 #[.pointer (some ⟨q+2,0,none⟩)] (b:Int) 0 wC
 rw[sC] at SC
 obtain⟨wD,hwD⟩:∃wD,((wC.alloc (.cells #[.func (.func 47) #[] #[.pointer (some ⟨q+2,0,none⟩)]] 51)).alloc (.cells #[.int .i64 (b:Int)] 3)).alloc (.cells #[.int .i64 0] 2)=wD:=⟨_,rfl⟩
 rw[hwD] at SC
 have gD:Gr wC wD:=by rw[<-hwD];exact(((Gr.refl wC).alloc _).alloc _).alloc _
 have sD:wD.heap.size=q+6:=by rw[<-hwD];simp[sC]
 have c2:wD.cell? ⟨q+2,0,none⟩=some (.slice ad n cap):=by
  refine keepG gD ?_
  rw[<-hwC]
  have:=Boxed.new wB.drew 27 (.slice ad n cap)
  rw[show wB.drew.heap.size=q+2 from sB] at this
  exact this.cell
 have c3:wD.cell? ⟨q+3,0,none⟩=some (.func (.func 47) #[] #[.pointer (some ⟨q+2,0,none⟩)]):=by
  have:=Boxed.new wC 51 (.func (.func 47) #[] #[.pointer (some ⟨q+2,0,none⟩)])
  rw[sC] at this
  rw[<-hwD]
  exact((this.alloc _).alloc _).cell
 have c4:wD.cell? ⟨q+4,0,none⟩=some (.int .i64 (b:Int)):=by
  have:=Boxed.new (wC.alloc (.cells #[.func (.func 47) #[] #[.pointer (some ⟨q+2,0,none⟩)]] 51)) 3 (.int .i64 (b:Int))
  rw[World.size_alloc,sC] at this
  rw[<-hwD]
  exact(this.alloc _).cell
 have c5:wD.cell? ⟨q+5,0,none⟩=some (.int .i64 0):=by
  have:=Boxed.new ((wC.alloc (.cells #[.func (.func 47) #[] #[.pointer (some ⟨q+2,0,none⟩)]] 51)).alloc (.cells #[.int .i64 (b:Int)] 3)) 2 (.int .i64 0)
  simp only[World.size_alloc,sC] at this
  rw[<-hwD]
  exact this.cell
 clear hwD
 have VC:=hide VC
 have SC:=hide SC
 have cb:=b0.cell
 have cb2:=keepG gC cb
 replace hwC:=hide hwC
 refine wpIn_mono (Q:=qN fun a' w'=>(∃v17 v18 v19,a' = {tmps:=#[.slice ad n cap,.int .i64 (b:Int),undef,.pointer (some ⟨p,0,none⟩),.slice none 0 0,.pointer (some ⟨q,0,none⟩),.pointer (some ⟨q+1,0,none⟩),undef,undef,undef,.slice ad n cap,.int .i64 (n:Int),.int .i64 (b:Int),.int .i64 ((n:Int)*b),.int .i64 ((n:Int)*b / 64),.int .i64 ((n:Int)*b / 64+2),.slice (some ⟨p+1,0,none⟩) N N,v17,v18,v19,.func (.func 59) #[] #[.pointer (some ⟨q+4,0,none⟩),.pointer (some ⟨q+5,0,none⟩),.pointer (some ⟨q+3,0,none⟩)],undef,undef,undef,undef,undef,undef,undef,undef,undef,undef,undef,undef,undef,undef,undef,undef,undef,undef,undef,undef,undef,undef,undef,undef,undef,undef,undef,undef,undef,undef,undef,undef],defers:=[]})/\w'=wD) ?reg ?_
 case reg =>
  gi_region_with (first|((with_reducible refine And.intro ?_ (And.intro ?_ ?_));exact trivial;exact(fun h=>(by cases h));gi_at_call 32;refine(callsIn_wide.2 VC.out).mono ?_;rintro e w' ⟨rfl,rfl⟩)|((with_reducible refine And.intro ?_ (And.intro ?_ ?_));exact trivial;exact(fun h=>(by cases h));gi_at_call 44;refine(callsIn_wide.2 SC.out).mono ?_;rintro e w' ⟨rfl,rfl⟩))
  all_goals exact⟨⟨_,_,_,rfl⟩,rfl⟩
 rintro e a' w' he
 cases e <;> try exact he.elim
 obtain⟨⟨v17,v18,v19,rfl⟩,hwd⟩:=he
 rw[hwd]
 clear hwd w' VC SC cb cb2 hwC
 gi_wp2
 obtain⟨hes,x0,x1⟩:=HE.out
 have hBp:(0:Int)<2 ^ b:=by omega
 obtain⟨rn1,rn2⟩:=run_none hBp es x0 (by rw[hlen];exact x1)
 have GD:Gr w wD:=(gB.trans gC).trans gD
 have hRI:=HR.out.gr GD
 have SQ:=settledQ (q+4) (q+5) (q+3) (fun k=>k=p+1\/k=q+1\/q+6<=k) b 0 47 #[.pointer (some ⟨q+2,0,none⟩)] 0 es wD hb1 hb2 (by omega) (by omega) hes (by omega) (by omega) (by omega) (fun k hk=>by omega) c4 c5 c3 (enters_of Try.func47 (by kernel_rfl) rfl)
  (valuesQ (q+2) _ ad n cap es wD hRI (fun b' e hp'=>by have h1:=(HR.out.cell b' e 0 hp').1;omega) (by omega) c2) (by rw[List.replicate_zero,List.append_nil];exact rn1) (fun i hi=>absurd hi (by omega))
 rw[List.replicate_zero,List.append_nil] at SQ
 have pin:=runD_in (B:=2 ^ b) hBp 0 es 0
 have plen:=runD_len (2 ^ b) 0 es 0
 rw[hlen] at plen
 obtain⟨ps,hps⟩:∃ps,runD (2 ^ b) 0 es 0=ps:=⟨_,rfl⟩
 rw[hps] at SQ pin plen rn2
 have SQ:=hide SQ
 have PI:=hide pin
 have RN:=hide rn2
 have o2:=(gC.trans gD).owns o1
 have d0:=(GrE.of_gr (E:=fun _=>False) (gC.trans gD)).boxed b0 (fun h=>h)
 have d1:=(GrE.of_gr (E:=fun _=>False) (gC.trans gD)).boxed b1 (fun h=>h)
 have d2:=(GrE.of_gr (E:=fun _=>False) (gC.trans gD)).boxed b2 (fun h=>h)
 clear c2 c3 c4 c5 b0 b1 b2 o1 rn1 rn2 x0 x1 pin hes hps
 refine wpIn_rangeQ (E:=fun k=>k=p+1\/k=q+1\/q+6<=k) (m:=6) (xs:=ps) (w₀:=wD) (gf:=59) (lb:=#[.pointer (some ⟨q+4,0,none⟩),.pointer (some ⟨q+5,0,none⟩),.pointer (some ⟨q+3,0,none⟩)]) rfl (enters_of Try.func59 (by kernel_rfl) rfl) SQ.out (GrE.refl _ _) (fun k hk=>by omega) rfl
  (fun pre A=>Boxed A p 3 (.int .i64 (b:Int))/\Boxed A q 22 (.slice (some ⟨p+1,0,none⟩) N N)/\Boxed A (q+1) 3 (.int .i64 ((b*pre.length:Nat):Int))/\∃zs,A.ownsRow (p+1) 44 1 (.slice (some ⟨p+1,0,none⟩) N N) N (u64s zs)/\(∀z∈zs,z<18446744073709551616)/\((nv 18446744073709551616 zs:Nat):Int)=dv (2 ^ b) pre)
  ?hI ?h0 (fun x=>{tmps:=#[.slice ad n cap,.int .i64 (b:Int),undef,.pointer (some ⟨p,0,none⟩),.slice none 0 0,.pointer (some ⟨q,0,none⟩),.pointer (some ⟨q+1,0,none⟩),.int .i64 x,undef,undef,.slice ad n cap,.int .i64 (n:Int),.int .i64 (b:Int),.int .i64 ((n:Int)*b),.int .i64 ((n:Int)*b / 64),.int .i64 ((n:Int)*b / 64+2),.slice (some ⟨p+1,0,none⟩) N N,v17,v18,v19,.func (.func 59) #[] #[.pointer (some ⟨q+4,0,none⟩),.pointer (some ⟨q+5,0,none⟩),.pointer (some ⟨q+3,0,none⟩)],.int .i64 x,undef,undef,undef,undef,undef,undef,undef,undef,undef,undef,undef,undef,undef,undef,undef,undef,undef,undef,undef,undef,undef,undef,undef,undef,undef,undef,undef,undef,undef,undef,undef],defers:=[]}) ?assign ?body ?done
 case hI =>
  rintro pre A B ⟨h1,h2,h3,zs,h4,h5⟩ hE
  rw[sD] at hE
  have nb:∀k,k<q+6->¬Btw (q+6) (6+2) k:=fun k hk h=>by have:=h.1;omega
  exact⟨hE.boxed h1 (nb _ (by omega)),hE.boxed h2 (nb _ (by omega)),hE.boxed h3 (nb _ (by omega)),zs,hE.owns h4 (fun b e=>by cases e;exact nb (p+1) (by omega)),h5⟩
 case h0=>exact⟨d0,d1,d2,List.replicate N 0,o2,(fun z hz=>by rw[List.mem_replicate] at hz;omega),by rw[nv_zeros];rfl⟩
 case assign =>
  intro l x W K hK
  gi_wp2
  exact hK
 case body =>
  rintro lq pre x A ⟨h1,h2,h3,zs,h4,h5,h6⟩ hpre hA
  rw[sD] at hA ⊢
  have hx:=PI.out x (hpre.subset (by simp))
  have hk:pre.length+1<=n:=by
   have:=hpre.length_le
   rw[plen] at this
   simpa using this
  have hzl:=owns_len h4
  have hpb:0<=dv (2 ^ b) pre/\dv (2 ^ b) pre<(2 ^ b) ^ pre.length:=dv_pos hBp pre (fun d hd=>by have:=PI.out d (hpre.subset (by simp[hd]));omega)
  obtain⟨z,rfl⟩:=Int.eq_ofNat_of_zero_le hx.1
  have hz:z<2 ^ b:=by
   have e:(2:Int) ^ b=((2 ^ b:Nat):Int):=by simp
   omega
  obtain⟨a,ha⟩:∃a,b*pre.length=a:=⟨_,rfl⟩
  have hab:a+b<=n*b:=by
   have:=Nat.mul_le_mul_left b hk
   rw[Nat.mul_add,ha,Nat.mul_comm b n] at this
   omega
  obtain⟨i,hi⟩:∃i,a / 64=i:=⟨_,rfl⟩
  obtain⟨r,hr⟩:∃r,a % 64=r:=⟨_,rfl⟩
  have hiN:i+1<N:=by omega
  have hS:nv 18446744073709551616 zs<2 ^ (b*pre.length):=by
   have e:((2:Int) ^ b) ^ pre.length=((2 ^ (b*pre.length):Nat):Int):=by rw[<-Int.pow_mul];simp
   have:=hpb.2
   rw[<-h6,e] at this
   omega
  obtain⟨t1,t2,t3,t4,t5⟩:=pack_at (i:=i) (r:=r) h5 rfl hS hz hb2 (by omega) (by omega) (by omega)
  rw[ha] at h3
  have q1:=h1.cell
  have q2:=h2.cell
  have q3:=h3.cell
  have f3:=h3.frozen
  have ed:(a:Int) / 64=(i:Int):=by omega
  have em:(a:Int) % 64=(r:Int):=by omega
  have ed':(a:Int).tdiv 64=(i:Int):=by rw[Int.tdiv_eq_ediv_of_nonneg (by omega)];exact ed
  have em':(a:Int).tmod 64=(r:Int):=by rw[Int.tmod_eq_emod_of_nonneg (by omega)];exact em
  have ew:IntKind.i64.wrap (i:Int)=(i:Int):=wrap_i64_small _ (by omega) (by omega)
  gi_wp2
  refine wpIn_mono (Q:=qN fun a' w'=>(∃v22 v23 v24 v25,a' = {tmps:=#[.slice ad n cap,.int .i64 (b:Int),undef,.pointer (some ⟨p,0,none⟩),.slice none 0 0,.pointer (some ⟨q,0,none⟩),.pointer (some ⟨q+1,0,none⟩),.int .i64 (z:Int),.int .i64 (i:Int),.int .i64 (r:Int),.slice ad n cap,.int .i64 (n:Int),.int .i64 (b:Int),.int .i64 ((n:Int)*b),.int .i64 ((n:Int)*b / 64),.int .i64 ((n:Int)*b / 64+2),.slice (some ⟨p+1,0,none⟩) N N,v17,v18,v19,.func (.func 59) #[] #[.pointer (some ⟨q+4,0,none⟩),.pointer (some ⟨q+5,0,none⟩),.pointer (some ⟨q+3,0,none⟩)],.int .i64 (z:Int),v22,v23,v24,v25,undef,undef,undef,undef,undef,undef,undef,undef,undef,undef,undef,undef,undef,undef,undef,undef,undef,undef,undef,undef,undef,undef,undef,undef,undef,undef,undef],defers:=[]})/\w'=A.drew) ?reg ?_
  case reg =>
   gi_region
   all_goals exact⟨⟨_,_,_,_,rfl⟩,rfl⟩
  rintro e a' w' he
  cases e <;> try exact he.elim
  obtain⟨⟨v22,v23,v24,v25,rfl⟩,hwd⟩:=he
  rw[hwd]
  clear hwd w'
  have cI:=owns_cell h4 i (by omega)
  have fI:=h4.frozenAt i
  have hz2:(z:Int)<1073741824:=by
   have:=Nat.pow_le_pow_right (n:=2) (by omega) hb2
   omega
  have hiN':(i:Int)<(N:Int):=by omega
  have HH:=hide (And.intro h1 (And.intro h2 (And.intro h3 (And.intro h4 (And.intro h5 h6)))))
  have hr64:r<64:=by omega
  have hzW:z<18446744073709551616:=by omega
  obtain⟨zi,hzi⟩:∃zi,zs.getD i 0=zi:=⟨_,rfl⟩
  obtain⟨zl,hzl'⟩:∃zl,z*2 ^ r % 18446744073709551616=zl:=⟨_,rfl⟩
  obtain⟨zn,hzn⟩:∃zn,(zi ||| zl)=zn:=⟨_,rfl⟩
  obtain⟨zq,hzq⟩:∃zq,z / 2 ^ (64-r)=zq:=⟨_,rfl⟩
  have hzi64:zi<18446744073709551616:=by rw[<-hzi];exact getD_lt (by omega) h5 i
  have hzl64:zl<18446744073709551616:=by rw[<-hzl'];exact Nat.mod_lt _ (by omega)
  have hzq64:zq<18446744073709551616:=by rw[<-hzq];exact Nat.lt_of_le_of_lt (Nat.div_le_self _ _) hzW
  rw[hzl',hzi,hzn,hzq] at t4 t5
  have TT:=hide (And.intro t4 t5)
  have HA:=hide (And.intro ha (And.intro hi hr))
  have e1:IntKind.u64.wrap (z:Int)=(z:Int):=by rw[IntKind.wrap_u64];omega
  have e2:IntKind.u64.wrap ((z:Int)*2 ^ r)=(zl:Int):=by
   rw[IntKind.wrap_u64,<-hzl',Int.natCast_emod,Int.natCast_mul];simp
  have e3:bits BinOp.or IntKind.u64 (zi:Int) (zl:Int)=(zn:Int):=by rw[bits_or_u64_nat _ _ hzi64 hzl64,hzn]
  have e4:(z:Int) / 2 ^ (64-r)=(zq:Int):=by rw[<-hzq,Int.natCast_ediv];simp
  have e5:bits BinOp.or IntKind.u64 0 (zq:Int)=(zq:Int):=by
   have:=bits_or_u64_nat 0 zq (by omega) hzq64
   simpa using this
  have cJ:=owns_cell h4 (i+1) (by omega)
  have fJ:=h4.frozenAt (i+1)
  rw[t2] at cJ
  rw[hzi] at cI
  have E4:=hide (And.intro e4 e5)
  have CJ:=hide (And.intro cJ fJ)
  have Q2:=hide q2
  have ez64:Hid ((64:Int)-r=((64-r:Nat):Int)):=by show _=_;omega
  clear h1 h2 h3 h4 h5 h6 t1 t2 t3 t4 t5 ed em ed' em' ew hS hpb hx hz hpre ha hi hr hzl d0 d1 d2 o2 SQ e4 e5 hzi hzl' hzn hzq cJ fJ
  gi_wp2
  refine wpIn_mono (Q:=qN fun a' w'=>(∃v26 v27 v28 v29 v30 v31 v32 v33 v34 v35,a' = {tmps:=#[.slice ad n cap,.int .i64 (b:Int),undef,.pointer (some ⟨p,0,none⟩),.slice none 0 0,.pointer (some ⟨q,0,none⟩),.pointer (some ⟨q+1,0,none⟩),.int .i64 (z:Int),.int .i64 (i:Int),.int .i64 (r:Int),.slice ad n cap,.int .i64 (n:Int),.int .i64 (b:Int),.int .i64 ((n:Int)*b),.int .i64 ((n:Int)*b / 64),.int .i64 ((n:Int)*b / 64+2),.slice (some ⟨p+1,0,none⟩) N N,v17,v18,v19,.func (.func 59) #[] #[.pointer (some ⟨q+4,0,none⟩),.pointer (some ⟨q+5,0,none⟩),.pointer (some ⟨q+3,0,none⟩)],.int .i64 (z:Int),v22,v23,v24,v25,v26,v27,v28,v29,v30,v31,v32,v33,v34,v35,undef,undef,undef,undef,undef,undef,undef,undef,undef,undef,undef,undef,undef,undef,undef,undef,undef],defers:=[]})/\w'=A.drew.drew.setCell ⟨p+1,i,none⟩ (.int .u64 (zn:Int))) ?reg ?_
  case reg =>
   refine region_inR (by kernel_rfl) (by kernel_rfl) ?_
   refine wpAnyIn_take (i:=1) (v:=.int .i64 (i:Int)) rfl rfl (by kernel_rfl) (by kernel_rfl) (by kernel_rfl) (fun _ _ _ h=>h) ⟨Or.inl ⟨by rfl,(by intro w;go_simp)⟩,fun _=>rfl⟩ ?_
   refine wpAnyIn_take (i:=4) (v:=.int .i64 (z:Int)) rfl rfl (by kernel_rfl) (by kernel_rfl) (by kernel_rfl) (fun _ _ _ h=>h) ⟨Or.inl ⟨by rfl,(by intro w;go_simp)⟩,fun _=>rfl⟩ ?_
   refine wpAnyIn_take (i:=6) (v:=.int .i64 (r:Int)) rfl rfl (by kernel_rfl) (by kernel_rfl) (by kernel_rfl) (fun _ _ _ h=>h) ⟨Or.inl ⟨by rfl,(by intro w;go_simp)⟩,fun _=>rfl⟩ ?_
   refine wpAnyIn_take (i:=5) (v:=.int .u64 (z:Int)) rfl rfl (by kernel_rfl) (by kernel_rfl) (by kernel_rfl) (fun _ _ _ h=>h) ⟨Or.inl ⟨by rfl,(by intro w;go_simp)⟩,fun _=>rfl⟩ ?_
   refine wpAnyIn_take (i:=7) (v:=.int .u64 (zl:Int)) rfl rfl (by kernel_rfl) (by kernel_rfl) (by kernel_rfl) (fun _ _ _ h=>h) ⟨Or.inl ⟨by rfl,(by intro w;go_simp)⟩,fun _=>rfl⟩ ?_
   refine wpAnyIn_ready (rs:=[0]) (by kernel_rfl) (by simp) ?_
   refine AllReadyIn.cons rfl (fun K hK=>?_) AllReadyIn.nil
   go_simp
   refine hK _ _ ?_
   clear hK K
   refine wpAnyIn_take (i:=2) (v:=.pointer (some ⟨p+1,i,none⟩)) rfl rfl (by kernel_rfl) (by kernel_rfl) (by kernel_rfl) (fun _ _ _ h=>h) ⟨Or.inl ⟨by rfl,(by intro w;go_simp)⟩,fun _=>rfl⟩ ?_
   refine wpAnyIn_ready (rs:=[3]) (by kernel_rfl) (by simp) ?_
   refine AllReadyIn.cons rfl (fun K hK=>?_) AllReadyIn.nil
   go_simp
   refine hK _ _ ?_
   clear hK K
   refine wpAnyIn_take (i:=8) (v:=.int .u64 (zn:Int)) rfl rfl (by kernel_rfl) (by kernel_rfl) (by kernel_rfl) (fun _ _ _ h=>h) ⟨Or.inl ⟨by rfl,(by intro w;go_simp)⟩,fun _=>rfl⟩ ?_
   refine wpAnyIn_take (i:=9) (v:=.pointer (some ⟨p+1,i,none⟩)) rfl rfl (by kernel_rfl) (by kernel_rfl) (by kernel_rfl) (fun _ _ _ h=>h) ⟨Or.inl ⟨by rfl,(by intro w;go_simp)⟩,fun _=>rfl⟩ ?_
   refine wpAnyIn_ready (rs:=[10]) (by kernel_rfl) (by simp) ?_
   refine AllReadyIn.cons rfl (fun K hK=>?_) AllReadyIn.nil
   go_simp
   refine hK _ _ ?_
   clear hK K
   refine wpAnyIn_done (by kernel_rfl) ?_ _
   exact⟨⟨_,_,_,_,_,_,_,_,_,_,rfl⟩,rfl⟩
  rintro e a' w' he
  cases e <;> try exact he.elim
  obtain⟨⟨v26,v27,v28,v29,v30,v31,v32,v33,v34,v35,rfl⟩,hwd⟩:=he
  rw[hwd]
  clear hwd w'
  have gA1:GrE (fun k=>k=p+1\/k=q+1) A (A.drew.drew.setCell ⟨p+1,i,none⟩ (.int .u64 (zn:Int))):=((GrE.refl _ A).drew.drew).setCell (p:=⟨p+1,i,none⟩) (Or.inr (Or.inl rfl)) _
  obtain⟨h1,h2,h3,h4,h5,h6⟩:=HH.out
  have o1:(A.drew.drew.setCell ⟨p+1,i,none⟩ (.int .u64 (zn:Int))).ownsRow (p+1) 44 1 (.slice (some ⟨p+1,0,none⟩) N N) N (u64s (zs.set i zn)):=owns_set (w:=A.drew.drew) h4 i zn
  have cJ:(A.drew.drew.setCell ⟨p+1,i,none⟩ (.int .u64 (zn:Int))).cell? ⟨p+1,i+1,none⟩=some (.int .u64 0):=(World.cell?_setCell_other _ _ _ _ (fun e=>by injection e with e1 e2;omega)).trans CJ.out.1
  have fJ:(A.drew.drew.setCell ⟨p+1,i,none⟩ (.int .u64 (zn:Int))).frozen? ⟨p+1,i+1,none⟩=false:=by rw[World.frozen?_setCell];exact CJ.out.2
  have gA0:GrE (fun k=>k=p+1) A (A.drew.drew.setCell ⟨p+1,i,none⟩ (.int .u64 (zn:Int))):=(((GrE.refl (fun k=>k=p+1) A).drew.drew).setCell (p:=⟨p+1,i,none⟩) (Or.inr rfl) _)
  have k1:=gA0.boxed h1 (by omega)
  have k2:=gA0.boxed h2 (by omega)
  have k3:=gA0.boxed h3 (by omega)
  clear gA0
  clear h1 h2 h3 h4 q2 cI fI e2 e3 q1 q3 f3
  generalize A.drew.drew.setCell ⟨p+1,i,none⟩ (.int .u64 (zn:Int))=A1 at *
  obtain⟨e4,e5⟩:=E4.out
  have q2:=k2.cell
  have hr2:(r:Int)<=64:=by omega
  have ei1:(i:Int)+1=((i+1:Nat):Int):=by omega
  have hi1:((i:Nat):Int)+1<(N:Int):=by omega
  have ei2:IntKind.i64.wrap ((i:Int)+1)=((i+1:Nat):Int):=by rw[wrap_i64_small _ (by omega) (by omega)];omega
  have ei3:IntKind.i64.wrap (64-(r:Int))=((64-r:Nat):Int):=by rw[wrap_i64_small _ (by omega) (by omega)];omega
  have hi2:((i+1:Nat):Int)<(N:Int):=by omega
  clear ei1
  obtain⟨i1,hi1'⟩:∃i1,i+1=i1:=⟨_,rfl⟩
  rw[hi1'] at ei2 hi2 cJ fJ
  replace hi1':=hide hi1'
  obtain⟨r1,hr1'⟩:∃r1,64-r=r1:=⟨_,rfl⟩
  rw[hr1'] at ei3 e4
  have hmin:min r1 64=r1:=by omega
  replace hr1':=hide hr1'
  have O1:=hide o1
  have K3:=hide (And.intro k1 (And.intro k2 k3))
  clear o1 k1 k2 k3
  gi_wp2
  refine wpIn_mono (Q:=qN fun a' w'=>(∃v36 v37 v38 v39 v40 v41 v42 v43 v44 v45 v46 v47,a' = {tmps:=#[.slice ad n cap,.int .i64 (b:Int),undef,.pointer (some ⟨p,0,none⟩),.slice none 0 0,.pointer (some ⟨q,0,none⟩),.pointer (some ⟨q+1,0,none⟩),.int .i64 (z:Int),.int .i64 (i:Int),.int .i64 (r:Int),.slice ad n cap,.int .i64 (n:Int),.int .i64 (b:Int),.int .i64 ((n:Int)*b),.int .i64 ((n:Int)*b / 64),.int .i64 ((n:Int)*b / 64+2),.slice (some ⟨p+1,0,none⟩) N N,v17,v18,v19,.func (.func 59) #[] #[.pointer (some ⟨q+4,0,none⟩),.pointer (some ⟨q+5,0,none⟩),.pointer (some ⟨q+3,0,none⟩)],.int .i64 (z:Int),v22,v23,v24,v25,v26,v27,v28,v29,v30,v31,v32,v33,v34,v35,v36,v37,v38,v39,v40,v41,v42,v43,v44,v45,v46,v47,undef,undef,undef,undef,undef],defers:=[]})/\w'=A1.drew.setCell ⟨p+1,i1,none⟩ (.int .u64 (zq:Int))) ?reg2 ?_
  case reg2 =>
   refine region_inR (by kernel_rfl) (by kernel_rfl) ?_
   refine wpAnyIn_take (i:=1) (v:=.int .i64 (i:Int)) rfl rfl (by kernel_rfl) (by kernel_rfl) (by kernel_rfl) (fun _ _ _ h=>h) ⟨Or.inl ⟨by rfl,(by intro w;go_simp)⟩,fun _=>rfl⟩ ?_
   refine wpAnyIn_take (i:=2) (v:=.int .i64 (i1:Int)) rfl rfl (by kernel_rfl) (by kernel_rfl) (by kernel_rfl) (fun _ _ _ h=>h) ⟨Or.inl ⟨by rfl,(by intro w;go_simp)⟩,fun _=>rfl⟩ ?_
   refine wpAnyIn_take (i:=5) (v:=.int .i64 (z:Int)) rfl rfl (by kernel_rfl) (by kernel_rfl) (by kernel_rfl) (fun _ _ _ h=>h) ⟨Or.inl ⟨by rfl,(by intro w;go_simp)⟩,fun _=>rfl⟩ ?_
   refine wpAnyIn_take (i:=6) (v:=.int .u64 (z:Int)) rfl rfl (by kernel_rfl) (by kernel_rfl) (by kernel_rfl) (fun _ _ _ h=>h) ⟨Or.inl ⟨by rfl,(by intro w;go_simp)⟩,fun _=>rfl⟩ ?_
   refine wpAnyIn_take (i:=7) (v:=.int .i64 (r:Int)) rfl rfl (by kernel_rfl) (by kernel_rfl) (by kernel_rfl) (fun _ _ _ h=>h) ⟨Or.inl ⟨by rfl,(by intro w;go_simp)⟩,fun _=>rfl⟩ ?_
   refine wpAnyIn_take (i:=8) (v:=.int .i64 (r1:Int)) rfl rfl (by kernel_rfl) (by kernel_rfl) (by kernel_rfl) (fun _ _ _ h=>h) ⟨Or.inl ⟨by rfl,(by intro w;go_simp)⟩,fun _=>rfl⟩ ?_
   refine wpAnyIn_take (i:=9) (v:=.int .u64 (zq:Int)) rfl rfl (by kernel_rfl) (by kernel_rfl) (by kernel_rfl) (fun _ _ _ h=>h) ⟨Or.inl ⟨by rfl,(by intro w;go_simp)⟩,fun _=>rfl⟩ ?_
   refine wpAnyIn_ready (rs:=[0]) (by kernel_rfl) (by simp) ?_
   refine AllReadyIn.cons rfl (fun K hK=>?_) AllReadyIn.nil
   go_simp
   refine hK _ _ ?_
   clear hK K
   refine wpAnyIn_take (i:=3) (v:=.pointer (some ⟨p+1,i1,none⟩)) rfl rfl (by kernel_rfl) (by kernel_rfl) (by kernel_rfl) (fun _ _ _ h=>h) ⟨Or.inl ⟨by rfl,(by intro w;go_simp)⟩,fun _=>rfl⟩ ?_
   refine wpAnyIn_ready (rs:=[4]) (by kernel_rfl) (by simp) ?_
   refine AllReadyIn.cons rfl (fun K hK=>?_) AllReadyIn.nil
   go_simp
   refine hK _ _ ?_
   clear hK K
   refine wpAnyIn_take (i:=10) (v:=.int .u64 (zq:Int)) rfl rfl (by kernel_rfl) (by kernel_rfl) (by kernel_rfl) (fun _ _ _ h=>h) ⟨Or.inl ⟨by rfl,(by intro w;go_simp)⟩,fun _=>rfl⟩ ?_
   refine wpAnyIn_take (i:=11) (v:=.pointer (some ⟨p+1,i1,none⟩)) rfl rfl (by kernel_rfl) (by kernel_rfl) (by kernel_rfl) (fun _ _ _ h=>h) ⟨Or.inl ⟨by rfl,(by intro w;go_simp)⟩,fun _=>rfl⟩ ?_
   refine wpAnyIn_ready (rs:=[12]) (by kernel_rfl) (by simp) ?_
   refine AllReadyIn.cons rfl (fun K hK=>?_) AllReadyIn.nil
   go_simp
   refine hK _ _ ?_
   clear hK K
   refine wpAnyIn_done (by kernel_rfl) ?_ _
   exact⟨⟨_,_,_,_,_,_,_,_,_,_,_,_,rfl⟩,rfl⟩
  rintro e a' w' he
  cases e <;> try exact he.elim
  obtain⟨⟨v36,v37,v38,v39,v40,v41,v42,v43,v44,v45,v46,v47,rfl⟩,hwd⟩:=he
  rw[hwd]
  clear hwd w'
  obtain⟨k1,k2,k3⟩:=K3.out
  have gA2:GrE (fun k=>k=p+1) A1 (A1.drew.setCell ⟨p+1,i1,none⟩ (.int .u64 (zq:Int))):=((GrE.refl (fun k=>k=p+1) A1).drew).setCell (p:=⟨p+1,i1,none⟩) (Or.inr rfl) _
  have j1:=gA2.boxed k1 (by omega)
  have j2:=gA2.boxed k2 (by omega)
  have j3:=gA2.boxed k3 (by omega)
  have o2:(A1.drew.setCell ⟨p+1,i1,none⟩ (.int .u64 (zq:Int))).ownsRow (p+1) 44 1 (.slice (some ⟨p+1,0,none⟩) N N) N (u64s ((zs.set i zn).set i1 zq)):=owns_set (w:=A1.drew) O1.out i1 zq
  clear k1 k2 k3 q2 cJ fJ e4 e5
  generalize A1.drew.setCell ⟨p+1,i1,none⟩ (.int .u64 (zq:Int))=A2 at *
  have c1:=j1.cell
  have c3:=j3.cell
  have f3:=j3.frozen
  have hab2:(a:Int)+b<=9223372036854775807:=by omega
  obtain⟨t4,t5⟩:=TT.out
  rw[hi1'.out] at t4 t5
  have hlp:((a:Int)+b)=((b*(pre++[(z:Int)]).length:Nat):Int):=by
   rw[List.length_append,List.length_singleton,Nat.mul_add,HA.out.1];omega
  have FIN:Hid (A2.ownsRow (p+1) 44 1 (.slice (some ⟨p+1,0,none⟩) N N) N (u64s ((zs.set i zn).set i1 zq))/\(∀x∈(zs.set i zn).set i1 zq,x<18446744073709551616)/\((nv 18446744073709551616 ((zs.set i zn).set i1 zq):Nat):Int)=dv (2 ^ b) (pre++[(z:Int)])):=by
   refine⟨o2,t5,?_⟩
   rw[t4,dv_snoc,Int.natCast_add,h6,Int.natCast_mul]
   congr 2
   rw[<-Int.pow_mul];simp
  have J3:=hide (And.intro j1 (And.intro j2 j3))
  have GG:=hide (gA1.trans (gA2.mono fun k _ h=>Or.inl h))
  have HL:=hide hlp
  clear j1 j2 j3 o2 t4 t5 h5 h6 gA1 gA2 hlp
  gi_wp2
  obtain⟨j1,j2,j3⟩:=J3.out
  obtain⟨o2,t5,t6⟩:=FIN.out
  rw[HL.out]
  have gX:GrE (fun k=>k=q+1) A2 (A2.setCell ⟨q+1,0,none⟩ (.int .i64 ((b*(pre++[(z:Int)]).length:Nat):Int))):=(GrE.refl (fun k=>k=q+1) A2).setCell (p:=⟨q+1,0,none⟩) (Or.inr rfl) _
  refine⟨⟨gX.boxed j1 (by omega),gX.boxed j2 (by omega),Boxed.set _ j3,_,gX.owns o2 (fun b e=>by cases e;show ¬p+1=q+1;omega),t5,t6⟩,?_⟩
  exact((GG.out.trans (gX.mono fun k _ h=>Or.inr h)).mono fun k _ h=>⟨by omega,fun h'=>by have:=h'.1;omega⟩)
 case done =>
  rintro A ⟨h1,h2,h3,zs,h4,h5,h6⟩ hG hz hD
  rw[sD] at hD hz ⊢
  have q2:=h2.cell
  obtain⟨ad',cap',hEq,hrow⟩:=Row.of_owns h4
  simp only[Value.slice.injEq,true_and] at hEq
  obtain⟨rfl,rfl⟩:=hEq
  have TU:=hide (trimU _ _ _ zs A hrow)
  have HG:=hide hG
  have H4:=hide h4
  have H5:=hide (And.intro h5 h6)
  have HROW:=hide hrow
  have HDD:=hide hD
  clear hG h4 h5 h6 h1 h3 hrow
  gi_wp2_with ((with_reducible refine And.intro ?_ (And.intro ?_ ?_));exact trivial;exact(fun h=>(by cases h));gi_at_call 48;refine(callsIn_wide.2 TU.out).mono ?_;rintro e w' ⟨k,rfl,hk,hk1,hk2,rfl⟩)
  refine⟨by simp,.inl ⟨_,_,rfl,run_takeDeferred HDD.out,?_⟩⟩
  refine⟨_,results_tmp rfl _ _ _,?_⟩
  have gP:GrE (fun k=>k=q+6) w' (w'.putObj (q+6) (.deferred none)):=(GrE.refl (fun k=>k=q+6) w').putObj (Or.inr rfl) _
  have o3:=gP.owns H4.out (fun b e=>by cases e;show ¬p+1=q+6;omega)
  obtain⟨ad2,cap2,hEq2,hrow2⟩:=Row.of_owns o3
  simp only[Value.slice.injEq,true_and] at hEq2
  obtain⟨rfl,rfl⟩:=hEq2
  obtain⟨z5,z6⟩:=H5.out
  refine⟨_,k,_,rfl,?_,?_,?_⟩
  ·have:=trim_out hrow2 z5 hk hk1 hk2
   rw[<-RN.out,<-z6,Int.toNat_natCast]
   exact this
  ·exact(Fresh.takeG o3 hk).low (by omega)
  ·have g1:GrE (fun k=>p<=k) w (w'.putObj (q+6) (.deferred none)):=((GrE.of_gr GD).trans (HG.out.mono fun k _ h=>by omega)).trans (gP.mono fun k _ h=>by omega)
   rw[<-hp] at g1
   exact g1.toGr
end Go.Proofs.Ytfbgckgemfkioaa
