import Derived.Test.YtbbhddlmdfkomaaGreatDoorE32
import Derived.Laws.OwnMore
namespace Go.Proofs.YtbbhddlmdfkomaaGreatDoor
open Go.RowKit
set_option linter.unusedVariables false
set_option linter.unusedSimpArgs false
theorem odd_part:∀u:Nat,0<u->∃a v,u=2 ^ a*v/\v % 2=1:=by
 intro u
 induction u using Nat.strongRecOn with
 | _ u ih =>
  intro hu
  rcases (show u % 2=1\/u % 2=0 by omega) with h|h
  ·exact⟨0,u,by simp,h⟩
  ·obtain⟨a,v,h1,h2⟩:=ih (u / 2) (by omega) (by omega)
   refine⟨a+1,v,?_,h2⟩
   rw[Nat.pow_succ,Nat.mul_right_comm,<-h1]
   omega
theorem odd_part_one:∀(a b v w:Nat),v % 2=1->w % 2=1->2 ^ a*v=2 ^ b*w->a=b/\v=w:=by
 intro a
 induction a with
 | zero =>
  intro b v w hv hw h
  rcases Nat.eq_zero_or_pos b with hb|hb
  ·subst hb
   exact⟨rfl,by simpa using h⟩
  ·obtain⟨j,rfl⟩:∃j,b=j+1:=⟨b-1,by omega⟩
   rw[Nat.pow_zero,Nat.one_mul,Nat.pow_succ,Nat.mul_right_comm] at h
   omega
 | succ a ih =>
  intro b v w hv hw h
  rcases Nat.eq_zero_or_pos b with hb|hb
  ·subst hb
   rw[Nat.pow_zero,Nat.one_mul,Nat.pow_succ,Nat.mul_right_comm] at h
   omega
  ·obtain⟨j,rfl⟩:∃j,b=j+1:=⟨b-1,by omega⟩
   rw[Nat.pow_succ,Nat.pow_succ,Nat.mul_right_comm,Nat.mul_right_comm (2 ^ j)] at h
   obtain⟨h1,h2⟩:=ih j v w hv hw (by omega)
   exact⟨by omega,h2⟩
theorem odd_pow_nat {v:Nat} (hv:v % 2=1) (n:Nat):v ^ n % 2=1:=by
 induction n with
 | zero=>simp
 | succ n ih=>rw[Nat.pow_succ,Nat.mul_mod,ih,hv]
theorem try_root {X T O N u:Nat} (hX:X=2 ^ T*O) (hO:O % 2=1) (hN:1<=N) (hu:u ^ N=X):∃a v,T=a*N/\v ^ N=O/\u=v*2 ^ a:=by
 have h0:0<u:=Nat.pos_of_ne_zero (fun h=>by
  subst h
  rw[Nat.zero_pow (by omega)] at hu
  have:=Nat.mul_pos (Nat.two_pow_pos T) (show 0<O by omega)
  omega)
 obtain⟨a,v,h1,h2⟩:=odd_part u h0
 rw[h1,Nat.mul_pow,<-Nat.pow_mul,hX] at hu
 obtain⟨h3,h4⟩:=odd_part_one _ _ _ _ (odd_pow_nat h2 N) hO hu
 exact⟨a,v,h3.symm,h4,by rw[h1,Nat.mul_comm]⟩
set_option maxRecDepth 8000 in
set_option maxHeartbeats 8000000 in
theorem tryA (p3 p4 p6 p5 N T O n c m ci:Nat) (a ai:Option Addr) (w:World) (H3:w.heap[p3]? = some (.cells #[.int .i64 (T:Int)] 3)) (H4:w.heap[p4]? = some (.cells #[.bool false,.slice a n c] 24)) (H6:w.heap[p6]? = some (.cells #[.slice ai m ci] 22)) (H5:w.heap[p5]? = some (.cells #[.int .i64 (bl O:Int)] 3)) (HW:Wh w false a n c (O:Int)) (hN:2<=N) (hN2:N<=9223372036854775807) (hTb:T<=262144) (hnd:T % N≠0):Calls Tryz.prog 94 #[.int .i64 (N:Int),.pointer (some ⟨p3,0,none⟩),.pointer (some ⟨p4,0,none⟩),.pointer (some ⟨p6,0,none⟩),.pointer (some ⟨p5,0,none⟩)] w (NBF w):=by
 have l3:=lt_of_get2 H3
 have l4:=lt_of_get2 H4
 have l6:=lt_of_get2 H6
 have l5:=lt_of_get2 H5
 obtain⟨HO,H8⟩:=blk2 w (.cells #[.bool false,.slice none 0 0] 24) (.cells #[.bool false,.slice none 0 0] 24)
 have GA:Gr w (w.alloc (.cells #[.bool false,.slice none 0 0] 24)):=(Gr.refl w).alloc _
 have GW:Gr w ((w.alloc (.cells #[.bool false,.slice none 0 0] 24)).alloc (.cells #[.bool false,.slice none 0 0] 24)):=((Gr.refl w).alloc _).alloc _
 obtain⟨mx3,mz3⟩:=outOne (keepO GA H3)
 replace H3:=keepO GW H3
 replace H4:=keepO GW H4
 replace H5:=keepO GW H5
 replace H6:=keepO GW H6
 have hN0:¬N=0:=by omega
 have hN0b:((N:Int)==0)=false:=by simp;omega
 obtain⟨M,hM⟩:∃M,Int.tmod (T:Int) (N:Int)=M:=⟨_,rfl⟩
 have hM0:¬M=0:=by
  rw[<-hM,Int.tmod_eq_emod_of_nonneg (by omega)]
  omega
 clear hnd HW
 obtain⟨xO,yO,vO,zO⟩:=outAny (blk1 w (.cells #[.bool false,.slice none 0 0] 24))
 go_enter Tryz.func94,Tryz.ntmps94
 go_wp2
 obtain⟨e0,e1⟩:=bx2 (blk1 w (.cells #[.bool false,.slice none 0 0] 24))
 refine bodyPost_ret (v:=.tuple #[.agg #[.bool false,.slice none 0 0],.bool false]) ?_ rfl (NBF.mk' ⟨false,none,0,0,0,rfl,Wh.nil _,Fresh.nil _ _,GA⟩)
 simp[results,Tryz.results94,go_sem,e0,e1]
set_option maxRecDepth 8000 in
set_option maxHeartbeats 8000000 in
theorem tryBt (v:Nat) (p3 p4 p6 p5 N T O n c m ci:Nat) (a ai:Option Addr) (w:World) (H3:w.heap[p3]? = some (.cells #[.int .i64 (T:Int)] 3)) (H4:w.heap[p4]? = some (.cells #[.bool false,.slice a n c] 24)) (H6:w.heap[p6]? = some (.cells #[.slice ai m ci] 22)) (H5:w.heap[p5]? = some (.cells #[.int .i64 (bl O:Int)] 3)) (HW:Wh w false a n c (O:Int)) (hN:2<=N) (hN2:N<=9223372036854775807) (hTb:T<=262144) (hN22:N=2) (hd:T % N=0) (hT:TabAt 0 Lib.deBruijn64tab w) (hv:Rt.IsRt O 2 v) (hvO:v ^ 2=O) (hfit:v*2 ^ (T / N)<TopN):Calls Tryz.prog 94 #[.int .i64 (N:Int),.pointer (some ⟨p3,0,none⟩),.pointer (some ⟨p4,0,none⟩),.pointer (some ⟨p6,0,none⟩),.pointer (some ⟨p5,0,none⟩)] w (NBT w (v*2 ^ (T / N))):=by
 have l3:=lt_of_get2 H3
 have l4:=lt_of_get2 H4
 have l6:=lt_of_get2 H6
 have l5:=lt_of_get2 H5
 obtain⟨HO,H8⟩:=blk2 w (.cells #[.bool false,.slice none 0 0] 24) (.cells #[.bool false,.slice none 0 0] 24)
 have GA:Gr w (w.alloc (.cells #[.bool false,.slice none 0 0] 24)):=(Gr.refl w).alloc _
 have GW:Gr w ((w.alloc (.cells #[.bool false,.slice none 0 0] 24)).alloc (.cells #[.bool false,.slice none 0 0] 24)):=((Gr.refl w).alloc _).alloc _
 obtain⟨mx3,mz3⟩:=outOne (keepO GA H3)
 replace H3:=keepO GW H3
 replace H4:=keepO GW H4
 replace H5:=keepO GW H5
 replace H6:=keepO GW H6
 have hN0:¬N=0:=by omega
 have hN0b:((N:Int)==0)=false:=by simp;omega
 have hM:Int.tmod (T:Int) (N:Int)=0:=by rw[Int.tmod_eq_emod_of_nonneg (by omega)];omega
 have SQ0:=fun (w1:World) (g:Gr w w1)=>squareRootZ a n c O v w1 (HW.gr g) (tab_gr hT g) hv
 have SQ:Hid (∀w1,Gr w w1->Calls Tryz.prog 95 #[.agg #[.bool false,.slice a n c]] w1 (NBT w1 v)):=fun w1 g=>(SQ0 w1 g).mono (fun r w' h=>h.1 hvO)
 obtain⟨k,hk⟩:∃k,Int.tdiv (T:Int) (N:Int)=k:=⟨_,rfl⟩
 have hkT:k=((T / N:Nat):Int):=by rw[<-hk,Int.tdiv_eq_ediv_of_nonneg (by omega),Int.natCast_ediv]
 have hk2:IntKind.i64.wrap k=k:=by
  rw[IntKind.wrap_i64,hkT]
  have:=Nat.div_le_self T N
  generalize T / N=q at *
  omega
 have SH:Hid (∀(a:Bool) (b:Option Addr) (c d:Nat) w1,Gr w w1->Wh w1 a b c d (v:Int)->Calls Tryz.prog 63 #[.agg #[.bool a,.slice b c d],.int .i64 k] w1 fun r w'=>∃a b c d,r = .returned (.agg #[.bool a,.slice b c d])/\Hid (Wh w' a b c d ((v*2 ^ (T / N):Nat):Int))/\Hid (Fresh w.heap.size w' b c d)/\Gr w1 w'):=fun a b c d w1 g h=>by
  refine(shiftedZ a b c d (v:Int) k ((v*2 ^ (T / N):Nat):Int) w1 h (tab_gr hT g) (by rw[hkT];exact shI_up v (T / N)) (by rw[Int.natAbs_natCast];exact hfit)).mono ?_
  rintro r w' ⟨a,b,c,d,rfl,h1,h2,h3⟩
  exact⟨a,b,c,d,rfl,h1,h2.out.low g.size,h3⟩
 clear SQ0 HW hv hvO hT hfit hkT hd
 have Q8:=hide (show w.heap.size<=w.heap.size+1 by omega)
 have hN2b:((N:Int)==2)=true:=by subst hN22;rfl
 clear hN22
 obtain⟨x4,y4⟩:=bx2 H4
 go_enter Tryz.func94,Tryz.ntmps94
 have tok0:True:=trivial
 go_wp2_with (go_at_call 95;have _t:=tok0;(with_reducible refine(SQ.out _ GW).mono ?_);rintro r v0 ⟨a9,b9,c9,d9,rfl,V8,K8,gN⟩;clear tok0;clear x4 y4;replace H3:=keepO gN H3;replace H4:=keepO gN H4;replace H6:=keepO gN H6;replace H5:=keepO gN H5;replace HO:=keepO gN HO;replace H8:=keepO gN H8;replace V8:=V8.out;replace K8:=K8.out.low GW.size;replace GW:=GW.trans gN;clear gN;obtain⟨ox8,oy8,ov8,oz8⟩:=outAny H8;have T3:=heap_farW (q:=(w.heap.size+1)) (i:=1) (v:=.slice b9 c9 d9) (heap_farW (q:=(w.heap.size+1)) (i:=0) (v:=.bool a9) H3 (by omega)) (by omega);have T4:=heap_farW (q:=(w.heap.size+1)) (i:=1) (v:=.slice b9 c9 d9) (heap_farW (q:=(w.heap.size+1)) (i:=0) (v:=.bool a9) H4 (by omega)) (by omega);have T6:=heap_farW (q:=(w.heap.size+1)) (i:=1) (v:=.slice b9 c9 d9) (heap_farW (q:=(w.heap.size+1)) (i:=0) (v:=.bool a9) H6 (by omega)) (by omega);have T5:=heap_farW (q:=(w.heap.size+1)) (i:=1) (v:=.slice b9 c9 d9) (heap_farW (q:=(w.heap.size+1)) (i:=0) (v:=.bool a9) H5 (by omega)) (by omega);have TO:=heap_farW (q:=(w.heap.size+1)) (i:=1) (v:=.slice b9 c9 d9) (heap_farW (q:=(w.heap.size+1)) (i:=0) (v:=.bool a9) HO (by omega)) (by omega);have TV8:=wh_set2W V8 K8 H8 (.bool a9) (.slice b9 c9 d9) (by decide);have TK8:=fresh_set2 K8 H8 (.bool a9) (.slice b9 c9 d9) (by decide);have T8:=put2_block H8 (.bool a9) (.slice b9 c9 d9);replace GW:=(GW.setCell (p:=⟨(w.heap.size+1),0,none⟩) (by have:=Q8.out;show _<=(w.heap.size+1);omega) (.bool a9)).setCell (p:=⟨(w.heap.size+1),1,none⟩) (by have:=Q8.out;show _<=(w.heap.size+1);omega) (.slice b9 c9 d9);clear H3 H4 H6 H5 HO H8 V8 K8;have H3:=T3;have H4:=T4;have H6:=T6;have H5:=T5;have HO:=TO;have H8:=T8;have V8:=TV8;have K8:=TK8;clear T3 T4 T6 T5 TO T8 TV8 TK8;have U8:=V8;have J8:=K8;clear V8 K8;obtain⟨x8,y8⟩:=bx2 H8)
 clear ox8 oy8 ov8 oz8
 generalize ((v0.setCell ⟨(w.heap.size+1),0,none⟩ (.bool a9)).setCell ⟨(w.heap.size+1),1,none⟩ (.slice b9 c9 d9))=w1 at *
 obtain⟨x3,z3⟩:=outOne H3
 go_wp2
 refine Code.wp_mono ?_ (regTc9 _ _ _ _ _ _ _ _ _ _ _ _ _ _ _ _ _ _ _ _ _ _ _ _ _ _ _ _ _ _ _ _ _ _ _ _ _ p3 (w.heap.size+1) w.heap.size N T v (v*2 ^ (T / N)) a9 b9 c9 d9 k w w1 (SH.out a9 b9 c9 d9) hN0 hk hk2 HO U8 J8 l3 (by omega) (Nat.le_refl _) GW ⟨x3,x8,y8⟩)
 intro e a1 wR hR
 cases e <;> first|(exact False.elim hR)|skip
 obtain⟨u36,u37,u38,u39,u40,s7,a7,n7,c7,rfl,h7,W7,F7,G7⟩:=hR
 obtain⟨e0,e1⟩:=bx2 h7
 go_wp2
 refine bodyPost_ret (v:=.tuple #[.agg #[.bool s7,.slice a7 n7 c7],.bool true]) ?_ rfl (NBT.mk' ⟨s7,a7,n7,c7,rfl,W7,F7,G7⟩)
 simp[results,Tryz.results94,go_sem,e0,e1]
set_option maxRecDepth 8000 in
set_option maxHeartbeats 8000000 in
theorem tryBf (v:Nat) (p3 p4 p6 p5 N T O n c m ci:Nat) (a ai:Option Addr) (w:World) (H3:w.heap[p3]? = some (.cells #[.int .i64 (T:Int)] 3)) (H4:w.heap[p4]? = some (.cells #[.bool false,.slice a n c] 24)) (H6:w.heap[p6]? = some (.cells #[.slice ai m ci] 22)) (H5:w.heap[p5]? = some (.cells #[.int .i64 (bl O:Int)] 3)) (HW:Wh w false a n c (O:Int)) (hN:2<=N) (hN2:N<=9223372036854775807) (hTb:T<=262144) (hN22:N=2) (hd:T % N=0) (hT:TabAt 0 Lib.deBruijn64tab w) (hv:Rt.IsRt O 2 v) (hvO:v ^ 2≠O):Calls Tryz.prog 94 #[.int .i64 (N:Int),.pointer (some ⟨p3,0,none⟩),.pointer (some ⟨p4,0,none⟩),.pointer (some ⟨p6,0,none⟩),.pointer (some ⟨p5,0,none⟩)] w (NBF w):=by
 have l3:=lt_of_get2 H3
 have l4:=lt_of_get2 H4
 have l6:=lt_of_get2 H6
 have l5:=lt_of_get2 H5
 obtain⟨HO,H8⟩:=blk2 w (.cells #[.bool false,.slice none 0 0] 24) (.cells #[.bool false,.slice none 0 0] 24)
 have GA:Gr w (w.alloc (.cells #[.bool false,.slice none 0 0] 24)):=(Gr.refl w).alloc _
 have GW:Gr w ((w.alloc (.cells #[.bool false,.slice none 0 0] 24)).alloc (.cells #[.bool false,.slice none 0 0] 24)):=((Gr.refl w).alloc _).alloc _
 obtain⟨mx3,mz3⟩:=outOne (keepO GA H3)
 replace H3:=keepO GW H3
 replace H4:=keepO GW H4
 replace H5:=keepO GW H5
 replace H6:=keepO GW H6
 have hN0:¬N=0:=by omega
 have hN0b:((N:Int)==0)=false:=by simp;omega
 have hM:Int.tmod (T:Int) (N:Int)=0:=by rw[Int.tmod_eq_emod_of_nonneg (by omega)];omega
 have SQ0:=fun (w1:World) (g:Gr w w1)=>squareRootZ a n c O v w1 (HW.gr g) (tab_gr hT g) hv
 have SQ:Hid (∀w1,Gr w w1->Calls Tryz.prog 95 #[.agg #[.bool false,.slice a n c]] w1 (NBF w1)):=fun w1 g=>(SQ0 w1 g).mono (fun r w' h=>h.2 hvO)
 clear SQ0 HW hv hvO hT hd
 have Q8:=hide (show w.heap.size<=w.heap.size+1 by omega)
 have hN2b:((N:Int)==2)=true:=by subst hN22;rfl
 clear hN22
 obtain⟨x4,y4⟩:=bx2 H4
 go_enter Tryz.func94,Tryz.ntmps94
 have tok0:True:=trivial
 go_wp2_with (go_at_call 95;have _t:=tok0;(with_reducible refine(SQ.out _ GW).mono ?_);rintro r v0 ⟨a9,b9,c9,d9,Z9,rfl,V8,K8,gN⟩;clear tok0;clear x4 y4;replace H3:=keepO gN H3;replace H4:=keepO gN H4;replace H6:=keepO gN H6;replace H5:=keepO gN H5;replace HO:=keepO gN HO;replace H8:=keepO gN H8;replace V8:=V8.out;replace K8:=K8.out.low GW.size;replace GW:=GW.trans gN;clear gN;obtain⟨ox8,oy8,ov8,oz8⟩:=outAny H8;have T3:=heap_farW (q:=(w.heap.size+1)) (i:=1) (v:=.slice b9 c9 d9) (heap_farW (q:=(w.heap.size+1)) (i:=0) (v:=.bool a9) H3 (by omega)) (by omega);have T4:=heap_farW (q:=(w.heap.size+1)) (i:=1) (v:=.slice b9 c9 d9) (heap_farW (q:=(w.heap.size+1)) (i:=0) (v:=.bool a9) H4 (by omega)) (by omega);have T6:=heap_farW (q:=(w.heap.size+1)) (i:=1) (v:=.slice b9 c9 d9) (heap_farW (q:=(w.heap.size+1)) (i:=0) (v:=.bool a9) H6 (by omega)) (by omega);have T5:=heap_farW (q:=(w.heap.size+1)) (i:=1) (v:=.slice b9 c9 d9) (heap_farW (q:=(w.heap.size+1)) (i:=0) (v:=.bool a9) H5 (by omega)) (by omega);have TO:=heap_farW (q:=(w.heap.size+1)) (i:=1) (v:=.slice b9 c9 d9) (heap_farW (q:=(w.heap.size+1)) (i:=0) (v:=.bool a9) HO (by omega)) (by omega);have TV8:=wh_set2W V8 K8 H8 (.bool a9) (.slice b9 c9 d9) (by decide);have TK8:=fresh_set2 K8 H8 (.bool a9) (.slice b9 c9 d9) (by decide);have T8:=put2_block H8 (.bool a9) (.slice b9 c9 d9);replace GW:=(GW.setCell (p:=⟨(w.heap.size+1),0,none⟩) (by have:=Q8.out;show _<=(w.heap.size+1);omega) (.bool a9)).setCell (p:=⟨(w.heap.size+1),1,none⟩) (by have:=Q8.out;show _<=(w.heap.size+1);omega) (.slice b9 c9 d9);clear H3 H4 H6 H5 HO H8 V8 K8;have H3:=T3;have H4:=T4;have H6:=T6;have H5:=T5;have HO:=TO;have H8:=T8;have V8:=TV8;have K8:=TK8;clear T3 T4 T6 T5 TO T8 TV8 TK8;have U8:=V8;have J8:=K8;clear V8 K8;obtain⟨xO,yO,vO,zO⟩:=outAny HO)
 clear ox8 oy8 ov8 oz8
 generalize ((v0.setCell ⟨(w.heap.size+1),0,none⟩ (.bool a9)).setCell ⟨(w.heap.size+1),1,none⟩ (.slice b9 c9 d9))=w1 at *
 have PO:=put2_block HO (.bool false) (.slice none 0 0)
 obtain⟨e0,e1⟩:=bx2 PO
 refine bodyPost_ret (v:=.tuple #[.agg #[.bool false,.slice none 0 0],.bool false]) ?_ rfl (NBF.mk' ⟨false,none,0,0,0,rfl,Wh.nil _,Fresh.nil _ _,(GW.setCell (p:=⟨w.heap.size,0,none⟩) (by show _<=w.heap.size;omega) (.bool false)).setCell (p:=⟨w.heap.size,1,none⟩) (by show _<=w.heap.size;omega) (.slice none 0 0)⟩)
 simp[results,Tryz.results94,go_sem,e0,e1]
set_option maxRecDepth 8000 in
set_option maxHeartbeats 8000000 in
theorem tryCt (v:Nat) (xs:List Nat) (p3 p4 p6 p5 N T O n c m ci:Nat) (a ai:Option Addr) (w:World) (H3:w.heap[p3]? = some (.cells #[.int .i64 (T:Int)] 3)) (H4:w.heap[p4]? = some (.cells #[.bool false,.slice a n c] 24)) (H6:w.heap[p6]? = some (.cells #[.slice ai m ci] 22)) (H5:w.heap[p5]? = some (.cells #[.int .i64 (bl O:Int)] 3)) (HW:Wh w false a n c (O:Int)) (hN:2<=N) (hN2:N<=9223372036854775807) (hTb:T<=262144) (rx:Row w ai m ci xs) (hxs:∀x∈xs,x<18446744073709551616) (hI:(18446744073709551616:Int) ^ m ∣ (O:Int)*((nv 18446744073709551616 xs:Nat):Int)-1) (hO:O % 2=1) (hN3:3<=N) (hodd:N % 2=1) (hm:m=((bl O-1) / 3+1+95) / 64) (LRK:LROK (((bl O-1) / N+1+95) / 64)) (hd:T % N=0) (hT:TabAt 0 Lib.deBruijn64tab w) (hv:Rt.IsRt O N v) (hvO:v ^ N=O) (hfit:v*2 ^ (T / N)<TopN):Calls Tryz.prog 94 #[.int .i64 (N:Int),.pointer (some ⟨p3,0,none⟩),.pointer (some ⟨p4,0,none⟩),.pointer (some ⟨p6,0,none⟩),.pointer (some ⟨p5,0,none⟩)] w (NBT w (v*2 ^ (T / N))):=by
 have l3:=lt_of_get2 H3
 have l4:=lt_of_get2 H4
 have l6:=lt_of_get2 H6
 have l5:=lt_of_get2 H5
 obtain⟨HO,H8⟩:=blk2 w (.cells #[.bool false,.slice none 0 0] 24) (.cells #[.bool false,.slice none 0 0] 24)
 have GA:Gr w (w.alloc (.cells #[.bool false,.slice none 0 0] 24)):=(Gr.refl w).alloc _
 have GW:Gr w ((w.alloc (.cells #[.bool false,.slice none 0 0] 24)).alloc (.cells #[.bool false,.slice none 0 0] 24)):=((Gr.refl w).alloc _).alloc _
 obtain⟨mx3,mz3⟩:=outOne (keepO GA H3)
 replace H3:=keepO GW H3
 replace H4:=keepO GW H4
 replace H5:=keepO GW H5
 replace H6:=keepO GW H6
 have hN0:¬N=0:=by omega
 have hN0b:((N:Int)==0)=false:=by simp;omega
 have hM:Int.tmod (T:Int) (N:Int)=0:=by rw[Int.tmod_eq_emod_of_nonneg (by omega)];omega
 have hbO:bl O<=262144:=topN_bl.2 (dg_lt_top HW)
 have hdl:(bl O-1) / N<=(bl O-1) / 3:=Nat.div_le_div_left hN3 (by omega)
 have hdl2:=Nat.div_le_self (bl O-1) 3
 have OR0:=fun (w1:World) (g:Gr w w1)=>oddRootZ a ai n c m ci N O v _ xs w1 (HW.gr g) (rx.gr g) hxs hI hO hN3 hN2 hodd hv rfl (by omega) (by omega) LRK
 have RB:=hide (fun w1=>rootBitsZ (bl O) N (by omega) (by omega) hN2 w1)
 obtain⟨cc,hcc⟩:∃cc,(bl O-1) / N+1=cc:=⟨_,rfl⟩
 rw[hcc] at OR0 RB
 have OR:Hid (∀w1,Gr w w1->Calls Tryz.prog 96 #[.agg #[.bool false,.slice a n c],.slice ai m ci,.int .i64 (N:Int),.int .i64 (cc:Int)] w1 fun r w'=>∃a b c d,r = .returned (.tuple #[.agg #[.bool a,.slice b c d],.bool true])/\Hid (Wh w' a b c d (v:Int))/\Hid (Fresh w.heap.size w' b c d)/\Gr w1 w'):=fun w1 g=>by
  refine(OR0 w1 g).mono ?_
  rintro r w' ⟨ok,a',b',c',d',Z,rfl,h1,h2,h3,h4,h5⟩
  obtain rfl:ok=true:=h1.2 hvO
  rw[h2 rfl] at h3
  exact⟨a',b',c',d',rfl,h3,h4.out.low g.size,h5⟩
 obtain⟨k,hk⟩:∃k,Int.tdiv (T:Int) (N:Int)=k:=⟨_,rfl⟩
 have hkT:k=((T / N:Nat):Int):=by rw[<-hk,Int.tdiv_eq_ediv_of_nonneg (by omega),Int.natCast_ediv]
 have hk2:IntKind.i64.wrap k=k:=by
  rw[IntKind.wrap_i64,hkT]
  have:=Nat.div_le_self T N
  generalize T / N=q at *
  omega
 have SH:Hid (∀(a:Bool) (b:Option Addr) (c d:Nat) w1,Gr w w1->Wh w1 a b c d (v:Int)->Calls Tryz.prog 63 #[.agg #[.bool a,.slice b c d],.int .i64 k] w1 fun r w'=>∃a b c d,r = .returned (.agg #[.bool a,.slice b c d])/\Hid (Wh w' a b c d ((v*2 ^ (T / N):Nat):Int))/\Hid (Fresh w.heap.size w' b c d)/\Gr w1 w'):=fun a b c d w1 g h=>by
  refine(shiftedZ a b c d (v:Int) k ((v*2 ^ (T / N):Nat):Int) w1 h (tab_gr hT g) (by rw[hkT];exact shI_up v (T / N)) (by rw[Int.natAbs_natCast];exact hfit)).mono ?_
  rintro r w' ⟨a,b,c,d,rfl,h1,h2,h3⟩
  exact⟨a,b,c,d,rfl,h1,h2.out.low g.size,h3⟩
 clear OR0 HW rx hxs hI hO hm LRK hv hvO hT hfit hkT hd hodd hdl hdl2 hcc
 have Q8:=hide (show w.heap.size<=w.heap.size+1 by omega)
 have hN2b:((N:Int)==2)=false:=by simp;omega
 obtain⟨x4,y4⟩:=bx2 H4
 obtain⟨x6,z6⟩:=outOne H6
 obtain⟨x5,z5⟩:=outOne H5
 have hbB:(bl O:Int)<=262144:=by omega
 generalize (bl O:Int)=B at *
 go_enter Tryz.func94,Tryz.ntmps94
 go_wp2
 generalize hw2:((w.alloc (.cells #[.bool false,.slice none 0 0] 24)).alloc (.cells #[.bool false,.slice none 0 0] 24))=w2 at *
 refine Code.wp_mono ?_ (regTc6t _ _ _ _ _ _ _ _ _ _ _ _ _ _ _ _ _ _ _ _ _ _ _ _ _ _ _ _ _ _ _ _ _ _ _ _ p4 p5 p6 (w.heap.size+1) w.heap.size n c m ci N v a ai B (cc:Int) w w2 RB OR H8 HO l4 l5 l6 (by omega) (Nat.le_refl _) GW ⟨x4,y4,x6,x5⟩)
 intro e a1 w3 hR
 cases e <;> first|(exact False.elim hR)|skip
 obtain⟨u23,u24,u25,u26,u27,u28,u29,u30,u31,u32,a9,b9,c9,d9,rfl,H8',HO',U8,J8,G8⟩:=hR
 have GWo:=GW
 replace GW:=G8
 have T3:w3.heap[p3]? = some (.cells #[.int .i64 (T:Int)] 3):=(G8.block p3 l3).trans ((GWo.block p3 l3).symm.trans H3)
 clear H3 HO H8
 have H3:=T3
 have HO:=HO'
 obtain⟨x8,y8⟩:=bx2 H8'
 obtain⟨x3,z3⟩:=outOne H3
 go_wp2
 refine Code.wp_mono ?_ (regTc9 _ _ _ _ _ _ _ _ _ _ _ _ _ _ _ _ _ _ _ _ _ _ _ _ _ _ _ _ _ _ _ _ _ _ _ _ _ p3 (w.heap.size+1) w.heap.size N T v (v*2 ^ (T / N)) a9 b9 c9 d9 k w w3 (SH.out a9 b9 c9 d9) hN0 hk hk2 HO U8 J8 l3 (by omega) (Nat.le_refl _) GW ⟨x3,x8,y8⟩)
 intro e a1 wR hR
 cases e <;> first|(exact False.elim hR)|skip
 obtain⟨u36,u37,u38,u39,u40,s7,a7,n7,c7,rfl,h7,W7,F7,G7⟩:=hR
 obtain⟨e0,e1⟩:=bx2 h7
 go_wp2
 refine bodyPost_ret (v:=.tuple #[.agg #[.bool s7,.slice a7 n7 c7],.bool true]) ?_ rfl (NBT.mk' ⟨s7,a7,n7,c7,rfl,W7,F7,G7⟩)
 simp[results,Tryz.results94,go_sem,e0,e1]
set_option maxRecDepth 8000 in
set_option maxHeartbeats 8000000 in
theorem tryCf (v:Nat) (xs:List Nat) (p3 p4 p6 p5 N T O n c m ci:Nat) (a ai:Option Addr) (w:World) (H3:w.heap[p3]? = some (.cells #[.int .i64 (T:Int)] 3)) (H4:w.heap[p4]? = some (.cells #[.bool false,.slice a n c] 24)) (H6:w.heap[p6]? = some (.cells #[.slice ai m ci] 22)) (H5:w.heap[p5]? = some (.cells #[.int .i64 (bl O:Int)] 3)) (HW:Wh w false a n c (O:Int)) (hN:2<=N) (hN2:N<=9223372036854775807) (hTb:T<=262144) (rx:Row w ai m ci xs) (hxs:∀x∈xs,x<18446744073709551616) (hI:(18446744073709551616:Int) ^ m ∣ (O:Int)*((nv 18446744073709551616 xs:Nat):Int)-1) (hO:O % 2=1) (hN3:3<=N) (hodd:N % 2=1) (hm:m=((bl O-1) / 3+1+95) / 64) (LRK:LROK (((bl O-1) / N+1+95) / 64)) (hd:T % N=0) (hT:TabAt 0 Lib.deBruijn64tab w) (hv:Rt.IsRt O N v) (hvO:v ^ N≠O):Calls Tryz.prog 94 #[.int .i64 (N:Int),.pointer (some ⟨p3,0,none⟩),.pointer (some ⟨p4,0,none⟩),.pointer (some ⟨p6,0,none⟩),.pointer (some ⟨p5,0,none⟩)] w (NBF w):=by
 have l3:=lt_of_get2 H3
 have l4:=lt_of_get2 H4
 have l6:=lt_of_get2 H6
 have l5:=lt_of_get2 H5
 obtain⟨HO,H8⟩:=blk2 w (.cells #[.bool false,.slice none 0 0] 24) (.cells #[.bool false,.slice none 0 0] 24)
 have GA:Gr w (w.alloc (.cells #[.bool false,.slice none 0 0] 24)):=(Gr.refl w).alloc _
 have GW:Gr w ((w.alloc (.cells #[.bool false,.slice none 0 0] 24)).alloc (.cells #[.bool false,.slice none 0 0] 24)):=((Gr.refl w).alloc _).alloc _
 obtain⟨mx3,mz3⟩:=outOne (keepO GA H3)
 replace H3:=keepO GW H3
 replace H4:=keepO GW H4
 replace H5:=keepO GW H5
 replace H6:=keepO GW H6
 have hN0:¬N=0:=by omega
 have hN0b:((N:Int)==0)=false:=by simp;omega
 have hM:Int.tmod (T:Int) (N:Int)=0:=by rw[Int.tmod_eq_emod_of_nonneg (by omega)];omega
 have hbO:bl O<=262144:=topN_bl.2 (dg_lt_top HW)
 have hdl:(bl O-1) / N<=(bl O-1) / 3:=Nat.div_le_div_left hN3 (by omega)
 have hdl2:=Nat.div_le_self (bl O-1) 3
 have OR0:=fun (w1:World) (g:Gr w w1)=>oddRootZ a ai n c m ci N O v _ xs w1 (HW.gr g) (rx.gr g) hxs hI hO hN3 hN2 hodd hv rfl (by omega) (by omega) LRK
 have RB:=hide (fun w1=>rootBitsZ (bl O) N (by omega) (by omega) hN2 w1)
 obtain⟨cc,hcc⟩:∃cc,(bl O-1) / N+1=cc:=⟨_,rfl⟩
 rw[hcc] at OR0 RB
 have OR:Hid (∀w1,Gr w w1->Calls Tryz.prog 96 #[.agg #[.bool false,.slice a n c],.slice ai m ci,.int .i64 (N:Int),.int .i64 (cc:Int)] w1 fun r w'=>∃a b c d Z,r = .returned (.tuple #[.agg #[.bool a,.slice b c d],.bool false])/\Hid (Wh w' a b c d Z)/\Hid (Fresh w.heap.size w' b c d)/\Gr w1 w'):=fun w1 g=>by
  refine(OR0 w1 g).mono ?_
  rintro r w' ⟨ok,a',b',c',d',Z,rfl,h1,h2,h3,h4,h5⟩
  obtain rfl:ok=false:=by cases ok with|false=>rfl|true=>exact absurd (h1.1 rfl) hvO
  skip
  exact⟨a',b',c',d',Z,rfl,h3,h4.out.low g.size,h5⟩
 clear OR0 HW rx hxs hI hO hm LRK hv hvO hT hd hodd hdl hdl2 hcc
 have Q8:=hide (show w.heap.size<=w.heap.size+1 by omega)
 have hN2b:((N:Int)==2)=false:=by simp;omega
 obtain⟨x4,y4⟩:=bx2 H4
 obtain⟨x6,z6⟩:=outOne H6
 obtain⟨x5,z5⟩:=outOne H5
 have hbB:(bl O:Int)<=262144:=by omega
 generalize (bl O:Int)=B at *
 go_enter Tryz.func94,Tryz.ntmps94
 go_wp2
 generalize hw2:((w.alloc (.cells #[.bool false,.slice none 0 0] 24)).alloc (.cells #[.bool false,.slice none 0 0] 24))=w2 at *
 refine Code.wp_mono ?_ (regTc6f _ _ _ _ _ _ _ _ _ _ _ _ _ _ _ _ _ _ _ _ _ _ _ _ _ _ _ _ _ _ _ _ _ _ _ _ p4 p5 p6 (w.heap.size+1) w.heap.size n c m ci N v a ai B (cc:Int) w w2 RB OR H8 HO l4 l5 l6 (by omega) (Nat.le_refl _) GW ⟨x4,y4,x6,x5⟩)
 intro e a1 w3 hR
 cases e <;> first|(exact False.elim hR)|skip
 obtain⟨u23,u24,u25,u26,u27,u28,u29,u30,u31,u32,a9,b9,c9,d9,Z9,rfl,H8',HO',U8,J8,G8⟩:=hR
 replace GW:=G8
 obtain⟨xO,yO,vO,zO⟩:=outAny HO'
 go_wp2
 have PO:=put2_block HO' (.bool false) (.slice none 0 0)
 obtain⟨e0,e1⟩:=bx2 PO
 refine bodyPost_ret (v:=.tuple #[.agg #[.bool false,.slice none 0 0],.bool false]) ?_ rfl (NBF.mk' ⟨false,none,0,0,0,rfl,Wh.nil _,Fresh.nil _ _,(GW.setCell (p:=⟨w.heap.size,0,none⟩) (by show _<=w.heap.size;omega) (.bool false)).setCell (p:=⟨w.heap.size,1,none⟩) (by show _<=w.heap.size;omega) (.slice none 0 0)⟩)
 simp[results,Tryz.results94,go_sem,e0,e1]
def zb (xs:List Bool):List Value:=xs.map fun x=>Value.bool x
theorem zb_length (xs:List Bool):(zb xs).length=xs.length:=by simp[zb]
theorem zb_get {xs:List Bool} {j:Nat} (h:j<xs.length):(zb xs)[j]? = some (.bool (xs.getD j false)):=by
 simp[zb,List.getElem?_map,List.getElem?_eq_getElem h]
theorem infoB:(Tryz.prog.info? 4).map (fun i=>(i.zero,i.size,i.bytes))=some (some (.bool false),1,1):=by kernel_rfl
theorem made_b (n:Nat):(madeCells (Value.bool false).cells (n*1)).toList=zb (List.replicate n false):=by
 rw[Nat.mul_one]
 refine List.ext_getElem (by rw[Array.length_toList,size_madeCells,zb_length,List.length_replicate]) fun i h1 h2=>?_
 simp[madeCells,zb,Value.cells,Nat.mod_one]
def OB (w:World) (g N:Nat) (xs:List Bool):Prop:=w.ownsRow g 4 1 (.slice (some ⟨g,0,none⟩) N N) N (zb xs)
theorem wpList_madeB {w:World} {ops:Array Oper} {rest:List Oper} {o:Oper} {a:Act} {Q:Exit->Act->World->Prop} (hgd:o.guard=none) (l c:Operand)
  (hop:o.op=Op.makeSlice 82 l c) (n:Nat) (L:Int) (hl:a.eval l = .int .i64 L) (hc:a.eval c = .int .i64 L) (hL:L=(n:Int)) (hn:n<=4398046511104)
  (hK:∀w',OB w' w.heap.size n (List.replicate n false)->Gr w w'->wpList Tryz.prog ops Q rest (a.put o.dst (.slice (some ⟨w.heap.size,0,none⟩) n n)) w') :
  wpList Tryz.prog ops Q (o :: rest) a w:=by
 obtain⟨i0,hi,hz0,hz1,hz2⟩:=info_parts infoB
 refine wpList_make_full w hgd l c 82 hop w.heap.size 4 i0 (.bool false) 1 Tryz.underlying82 hi hz0 hz1 .i64 .i64 L L n hl hc hL hL (by rw[hz2];omega) (by unfold maxLen;omega) (Nat.le_refl _) ?_
 intro w' hown hgr
 rw[made_b] at hown
 exact hK w' hown ((Gr.refl w).grown hgr (fun k h=>by cases h))
theorem OB.len {w:World} {g N:Nat} {xs:List Bool} (h:OB w g N xs):xs.length=N:=by have:=h.1;rw[zb_length] at this;omega
theorem OB.cell {w:World} {g N:Nat} {xs:List Bool} (h:OB w g N xs) (j:Nat) (hj:j<N):w.cell? ⟨g,j,none⟩=some (.bool (xs.getD j false)):=by
 have hl:=h.len
 have:=World.ownsRow.cellAt h j (by omega)
 rw[this,zb_get (by omega)]
theorem OB.set {w:World} {g N:Nat} {xs:List Bool} (h:OB w g N xs) (j:Nat) (x:Bool):OB (w.setCell ⟨g,j,none⟩ (.bool x)) g N (xs.set j x):=by
 have:=(World.ownsRow.stored h j (.bool x)).1
 show World.ownsRow _ _ _ _ _ _ _
 rw[show zb (xs.set j x)=(zb xs).set j (.bool x) by simp[zb]]
 exact this
theorem OB.fz {w:World} {g N:Nat} {xs:List Bool} (h:OB w g N xs) (j:Nat):w.frozen? ⟨g,j,none⟩=false:=World.ownsRow.frozenAt h j
theorem OB.gr {w w':World} {g N:Nat} {xs:List Bool} (h:OB w g N xs) (k:Gr w w'):OB w' g N xs:=k.owns h
theorem OB.blk {w:World} {g N:Nat} {xs:List Bool} (h:OB w g N xs):∃cs fr,w.heap[g]? = some (.cells cs 4 fr):=by
 rcases h.2 with ⟨h1,h2⟩|⟨g',cap,cur,e1,hb,hgg,r1,r2,r3,r4⟩
 ·cases h1
 ·simp only[Value.slice.injEq,Option.some.injEq,Addr.mk.injEq,true_and,and_true] at e1
  obtain⟨rfl,rfl⟩:=e1
  exact⟨_,_,hgg⟩
theorem keepT {g:Nat} {w w':World} (k:Gt g w w') {q:Nat} {o:Obj} (h:w.heap[q]? = some o) (hne:q≠g):w'.heap[q]? = some o:=(k.block q (lt_of_get2 h) hne).trans h
theorem ne_typ {w:World} {q g:Nat} {c1 c2:Array Value} {T1 T2:TypeId} {f1 f2:Nat × Nat} (h1:w.heap[q]? = some (.cells c1 T1 f1)) (h2:w.heap[g]? = some (.cells c2 T2 f2)) (hT:T1≠T2):q≠g:=by
 rintro rfl
 rw[h1] at h2
 simp only[Option.some.injEq,Obj.cells.injEq] at h2
 exact hT h2.2.1
theorem Wh.gt {g:Nat} {w w':World} {s:Bool} {ad:Option Addr} {n cap:Nat} {X:Int} (h:Wh w s ad n cap X) (k:Gt g w w') (hne:∀b,ad=some b->b.block≠g):Wh w' s ad n cap X:=by
 obtain⟨xs,rx,dx⟩:=h.lim
 exact⟨⟨xs,rx.gt k (fun _=>hne),dx⟩,h.le,h.zero,h.val⟩
theorem Fresh.gt {B g:Nat} {w w':World} {ad:Option Addr} {n cap:Nat} (h:Fresh B w ad n cap) (k:Gt g w w') (hne:∀b,ad=some b->b.block≠g):Fresh B w' ad n cap:=by
 obtain⟨xs,h⟩:=h
 refine⟨xs,h.1,?_⟩
 rcases h.2 with h2|⟨g',cap',cur,e1,hb,hgg,r⟩
 ·exact Or.inl h2
 ·refine Or.inr ⟨g',cap',cur,e1,hb,?_,r⟩
  simp only[Value.slice.injEq] at e1
  have:=hne _ e1.1
  exact keepT k hgg this
theorem TryS.gt {g:Nat} {w w':World} {p3 p4 p6 p5 X:Nat} {cs:Array Value} {fr:Nat × Nat} (h:TryS w p3 p4 p6 p5 X) (hb:w.heap[g]? = some (.cells cs 4 fr)) (k:Gt g w w'):TryS w' p3 p4 p6 p5 X:=by
 obtain⟨T,O,n,c,m,ci,a,ai,xs,h1,h2,h3,h3',h4,h5,h6,h7,h8,h9,h10,h11,h12,h13⟩:=h
 exact⟨T,O,n,c,m,ci,a,ai,xs,h1,h2,h3,h3',keepT k h4 (ne_typ h4 hb (by decide)),keepT k h5 (ne_typ h5 hb (by decide)),keepT k h6 (ne_typ h6 hb (by decide)),keepT k h7 (ne_typ h7 hb (by decide)),h8.gt k (h12.ne hb (by decide)),h9.gt k (fun _=>h13.ne hb (by decide)),h10,h11,h12.gt k (h12.ne hb (by decide)),h13.gt k (h13.ne hb (by decide))⟩
set_option maxHeartbeats 2000000 in
theorem strikeZ (g L n:Nat) (xs0:List Bool) (w:World) (hn:2<=n) (hnL:n<=262144) (hL:L<=262144) (how:OB w g L xs0) :
  Calls Tryz.prog 50 #[.slice (some ⟨g,0,none⟩) L L,.int .i64 (n:Int)] w fun e w'=>e = .returned (.tuple #[])/\∃xs,Hid (OB w' g L xs)/\Hid (∀j,j<L->(xs.getD j false=true ↔ xs0.getD j false=true\/∃i,2<=i/\j=i*n))/\Hid (Gt g w w'):=by
 have HO:Hid (OB w g L xs0):=how
 clear how
 go_enter Tryz.func50,Tryz.ntmps50
 go_wp2
 go_loopw [4] (fun tm wr=>∃(k:Nat) (xs:List Bool),2<=k/\tm = .int .i64 ((k*n:Nat):Int)/\(k-1)*n<=L+n/\Hid (OB wr g L xs)/\Hid (∀j,j<L->(xs.getD j false=true ↔ xs0.getD j false=true\/∃i,2<=i/\i<k/\j=i*n))/\Hid (Gt g w wr)) (fun tm _=>L-(intOf tm).toNat)
 case atStart=>exact⟨2,xs0,by omega,rfl,by omega,HO,(fun j hj=>⟨Or.inl,fun h=>by rcases h with h|⟨i,h1,h2,_⟩ <;> first|exact h|omega⟩),Gt.refl _ _⟩
 case round =>
  obtain⟨k,xs,hk,rfl,hkb,hown,hA,hg⟩:=hrel
  obtain⟨M,hM⟩:∃M,k*n=M:=⟨_,rfl⟩
  have hM2:(k+1)*n=M+n:=by rw[Nat.add_mul,Nat.one_mul,hM]
  have hMb:M<=1048576:=by
   have:k*n=(k-1)*n+n:=by rw[<-Nat.succ_mul];congr 1;omega
   omega
  rw[hM]
  by_cases hlt:(M:Int)<(L:Int)
  ·have hcell:=hown.out.cell M (by omega)
   have hfz:=hown.out.fz M
   have OS:Hid (OB (wr.setCell ⟨g,M,none⟩ (.bool true)) g L (xs.set M true)):=hown.out.set M true
   have hl:=hown.out.len
   have NX:Hid (∀j,j<L->((xs.set M true).getD j false=true ↔ xs0.getD j false=true\/∃i,2<=i/\i<k+1/\j=i*n)):=fun j hj=>by
    by_cases hjM:j=M
    ·subst hjM
     rw[List.getD_eq_getElem?_getD,List.getElem?_set_self (by omega)]
     simp only[Option.getD_some,true_iff]
     exact Or.inr ⟨k,hk,by omega,hM.symm⟩
    ·rw[List.getD_eq_getElem?_getD,List.getElem?_set_ne (by omega),<-List.getD_eq_getElem?_getD,hA.out j hj]
     constructor
     ·rintro (h|⟨i,h1,h2,h3⟩)
      ·exact Or.inl h
      ·exact Or.inr ⟨i,h1,by omega,h3⟩
     ·rintro (h|⟨i,h1,h2,h3⟩)
      ·exact Or.inl h
      ·refine Or.inr ⟨i,h1,?_,h3⟩
       rcases Nat.lt_or_ge i k with h4|h4
       ·exact h4
       ·obtain rfl:i=k:=by omega
        omega
   clear hl
   have HM:=hide hM
   have HM2:=hide hM2
   clear hM hM2 hkb
   go_wp2
   go_roundw
   case rel=>exact⟨k+1,_,by omega,by rw[HM2.out];go_num,by rw[Nat.add_sub_cancel,HM.out];omega,OS,NX,hg.out.setCell rfl _⟩
   case measure=>simp only[intOf];omega
  ·have FI:Hid (∀j,j<L->(xs.getD j false=true ↔ xs0.getD j false=true\/∃i,2<=i/\j=i*n)):=fun j hj=>by
    rw[hA.out j hj]
    constructor
    ·rintro (h|⟨i,h1,h2,h3⟩)
     ·exact Or.inl h
     ·exact Or.inr ⟨i,h1,h3⟩
    ·rintro (h|⟨i,h1,h3⟩)
     ·exact Or.inl h
     ·refine Or.inr ⟨i,h1,?_,h3⟩
      rcases Nat.lt_or_ge i k with h4|h4
      ·exact h4
      ·have:=Nat.mul_le_mul_right n h4
       omega
   clear hM hM2 hkb
   go_wp2
   exact bodyPost_end (v:=.tuple #[]) (by simp[results,Tryz.results50,go_sem]) rfl ⟨rfl,xs,hown,FI,hg⟩
theorem tryZ (p3 p4 p6 p5 N X:Nat) (w:World) (hS:TryS w p3 p4 p6 p5 X) (hT:TabAt 0 Lib.deBruijn64tab w) (hX:X<TopN) (hX0:0<X) (hN:2<=N) (hNo:N=2\/N % 2=1) (hN2:N<=9223372036854775807) (LRK:∀O T:Nat,X=2 ^ T*O->O % 2=1->3<=N->LROK (((bl O-1) / N+1+95) / 64)) :
  Calls Tryz.prog 94 #[.int .i64 (N:Int),.pointer (some ⟨p3,0,none⟩),.pointer (some ⟨p4,0,none⟩),.pointer (some ⟨p6,0,none⟩),.pointer (some ⟨p5,0,none⟩)] w fun r w'=>(∀u,u ^ N=X->NBT w u r w')/\((∀u,u ^ N≠X)->NBF w r w'):=by
 obtain⟨T,O,n,c,m,ci,a,ai,xs,hXO,hO,hm,hTb,H3,H4,H6,H5,HW,rx,hxs,hI,_,_⟩:=hS
 have hO0:0<O:=by omega
 by_cases hd:T % N=0
 ·obtain⟨v,hv⟩:=Rt.rt_ex N (by omega) O
  by_cases hvO:v ^ N=O
  ·have hu:(v*2 ^ (T / N)) ^ N=X:=by
    rw[Nat.mul_pow,<-Nat.pow_mul,hvO,Nat.div_mul_cancel (Nat.dvd_of_mod_eq_zero hd),hXO,Nat.mul_comm]
   have hfit:v*2 ^ (T / N)<TopN:=Nat.lt_of_le_of_lt (by rw[<-hu];exact Nat.le_self_pow (by omega) _) hX
   have key:Calls Tryz.prog 94 #[.int .i64 (N:Int),.pointer (some ⟨p3,0,none⟩),.pointer (some ⟨p4,0,none⟩),.pointer (some ⟨p6,0,none⟩),.pointer (some ⟨p5,0,none⟩)] w (NBT w (v*2 ^ (T / N))):=by
    rcases hNo with h2|h2
    ·subst h2
     exact tryBt v p3 p4 p6 p5 2 T O n c m ci a ai w H3 H4 H6 H5 HW hN hN2 hTb rfl hd hT hv hvO hfit
    ·exact tryCt v xs p3 p4 p6 p5 N T O n c m ci a ai w H3 H4 H6 H5 HW hN hN2 hTb rx hxs hI hO (by omega) h2 hm (LRK O T hXO hO (by omega)) hd hT hv hvO hfit
   refine key.mono fun r w' h=>⟨fun u hu2=>?_,fun hn=>absurd hu (hn _)⟩
   have:u=v*2 ^ (T / N):=Rt.pow_inj (show N≠0 by omega) (hu2.trans hu.symm)
   rw[this]
   exact h
  ·have key:Calls Tryz.prog 94 #[.int .i64 (N:Int),.pointer (some ⟨p3,0,none⟩),.pointer (some ⟨p4,0,none⟩),.pointer (some ⟨p6,0,none⟩),.pointer (some ⟨p5,0,none⟩)] w (NBF w):=by
    rcases hNo with h2|h2
    ·subst h2
     exact tryBf v p3 p4 p6 p5 2 T O n c m ci a ai w H3 H4 H6 H5 HW hN hN2 hTb rfl hd hT hv hvO
    ·exact tryCf v xs p3 p4 p6 p5 N T O n c m ci a ai w H3 H4 H6 H5 HW hN hN2 hTb rx hxs hI hO (by omega) h2 hm (LRK O T hXO hO (by omega)) hd hT hv hvO
   refine key.mono fun r w' h=>⟨fun u hu=>?_,fun _=>h⟩
   obtain⟨a',v',h1,h2,h3⟩:=try_root hXO hO (show 1<=N by omega) hu
   have:Rt.IsRt O N v':=⟨by omega,by rw[<-h2];exact Nat.pow_lt_pow_left (by omega) (by omega)⟩
   rw[hv.one this] at hvO
   exact absurd h2 hvO
 ·refine(tryA p3 p4 p6 p5 N T O n c m ci a ai w H3 H4 H6 H5 HW hN hN2 hTb hd).mono fun r w' h=>⟨fun u hu=>?_,fun _=>h⟩
  obtain⟨a',v',h1,h2,h3⟩:=try_root hXO hO (show 1<=N by omega) hu
  rw[h1,Nat.mul_mod_left] at hd
  exact absurd rfl hd
end Go.Proofs.YtbbhddlmdfkomaaGreatDoor
