import Derived.Test.YtmdakhpdofepeaaU29
namespace Go.Proofs.Ytmdakhpdofepeaa
open Go.RowKit
set_option linter.unusedVariables false
set_option linter.unusedSimpArgs false
theorem bx8G {w:World} {b:Nat} {v0 v1 v2 v3 v4 v5 v6 v7:Value} {T:TypeId} (h:w.heap[b]? = some (.cells #[v0,v1,v2,v3,v4,v5,v6,v7] T)):w.cell? ⟨b,0,none⟩=some v0/\w.cell? ⟨b,1,none⟩=some v1/\w.cell? ⟨b,2,none⟩=some v2/\w.cell? ⟨b,3,none⟩=some v3/\w.cell? ⟨b,4,none⟩=some v4/\w.cell? ⟨b,5,none⟩=some v5/\w.cell? ⟨b,6,none⟩=some v6/\w.cell? ⟨b,7,none⟩=some v7:=
 ⟨cellG h rfl,cellG h rfl,cellG h rfl,cellG h rfl,cellG h rfl,cellG h rfl,cellG h rfl,cellG h rfl⟩
set_option maxHeartbeats 4000000 in
theorem allR2 (b:Nat) (s0:Bool) (a0:Option Addr) (n0 c0:Nat) (xs0:List Nat) (s1:Bool) (a1:Option Addr) (n1 c1:Nat) (xs1:List Nat) (w:World) (HB:w.heap[b]? = some (.cells #[.bool s0,.slice a0 n0 c0,.bool s1,.slice a1 n1 c1] 24)) (h0:Row w a0 n0 c0 xs0) (h1:Row w a1 n1 c1 xs1) :
  Calls Try.prog 20 #[.slice (some ⟨b,0,none⟩) 2 2] w fun r w'=>r = .returned (.bool (rightN s0 xs0 && rightN s1 xs1))/\Gr w w':=by
 have R0:=hide (fun w1 (g:Gr w w1)=>rightL s0 a0 n0 c0 xs0 w1 (h0.gr g))
 have R1:=hide (fun w1 (g:Gr w w1)=>rightL s1 a1 n1 c1 xs1 w1 (h1.gr g))
 generalize rightN s0 xs0=r0 at *
 generalize rightN s1 xs1=r1 at *
 clear h0 h1
 obtain⟨k0,k1,k2,k3⟩:=bx4G HB
 cases r0
 ·go_enter Try.func20,Try.ntmps20
  go_wp2
  refine wp_loop_rounds 3 ?_
  rw[rounds_succ]
  go_wp2_with (go_at_call 10;(with_reducible refine(R0.out _ ((Gr.refl w).alloc (.cells #[.bool s0,.slice a0 n0 c0] 24))).mono ?_);rintro r v0 ⟨rfl,g0⟩;have G0:=((Gr.refl w).alloc (.cells #[.bool s0,.slice a0 n0 c0] 24)).trans g0;clear k0 k1 k2 k3;have HB0:=keepO G0 HB;obtain⟨k0,k1,k2,k3⟩:=bx4G HB0)
  refine bodyPost_ret (v:=.bool false) ?_ rfl ⟨by simp,G0⟩
  simp[results,Try.results20,go_sem]
 ·skip
  cases r1
  ·go_enter Try.func20,Try.ntmps20
   go_wp2
   refine wp_loop_rounds 3 ?_
   rw[rounds_succ]
   go_wp2_with (go_at_call 10;(with_reducible refine(R0.out _ ((Gr.refl w).alloc (.cells #[.bool s0,.slice a0 n0 c0] 24))).mono ?_);rintro r v0 ⟨rfl,g0⟩;have G0:=((Gr.refl w).alloc (.cells #[.bool s0,.slice a0 n0 c0] 24)).trans g0;clear k0 k1 k2 k3;have HB0:=keepO G0 HB;obtain⟨k0,k1,k2,k3⟩:=bx4G HB0)
   rw[rounds_succ]
   go_wp2_with (go_at_call 10;(with_reducible refine(R1.out _ (G0.alloc (.cells #[.bool s1,.slice a1 n1 c1] 24))).mono ?_);rintro r v1 ⟨rfl,g1⟩;have G1:=(G0.alloc (.cells #[.bool s1,.slice a1 n1 c1] 24)).trans g1;clear k0 k1 k2 k3;have HB1:=keepO G1 HB;obtain⟨k0,k1,k2,k3⟩:=bx4G HB1)
   refine bodyPost_ret (v:=.bool false) ?_ rfl ⟨by simp,G1⟩
   simp[results,Try.results20,go_sem]
  ·go_enter Try.func20,Try.ntmps20
   go_wp2
   refine wp_loop_rounds 3 ?_
   rw[rounds_succ]
   go_wp2_with (go_at_call 10;(with_reducible refine(R0.out _ ((Gr.refl w).alloc (.cells #[.bool s0,.slice a0 n0 c0] 24))).mono ?_);rintro r v0 ⟨rfl,g0⟩;have G0:=((Gr.refl w).alloc (.cells #[.bool s0,.slice a0 n0 c0] 24)).trans g0;clear k0 k1 k2 k3;have HB0:=keepO G0 HB;obtain⟨k0,k1,k2,k3⟩:=bx4G HB0)
   rw[rounds_succ]
   go_wp2_with (go_at_call 10;(with_reducible refine(R1.out _ (G0.alloc (.cells #[.bool s1,.slice a1 n1 c1] 24))).mono ?_);rintro r v1 ⟨rfl,g1⟩;have G1:=(G0.alloc (.cells #[.bool s1,.slice a1 n1 c1] 24)).trans g1;clear k0 k1 k2 k3;have HB1:=keepO G1 HB;obtain⟨k0,k1,k2,k3⟩:=bx4G HB1)
   rw[rounds_succ]
   go_wp2
   refine bodyPost_ret (v:=.bool true) ?_ rfl ⟨by simp,G1⟩
   simp[results,Try.results20,go_sem]
set_option maxHeartbeats 4000000 in
theorem allR4 (b:Nat) (s0:Bool) (a0:Option Addr) (n0 c0:Nat) (xs0:List Nat) (s1:Bool) (a1:Option Addr) (n1 c1:Nat) (xs1:List Nat) (s2:Bool) (a2:Option Addr) (n2 c2:Nat) (xs2:List Nat) (s3:Bool) (a3:Option Addr) (n3 c3:Nat) (xs3:List Nat) (w:World) (HB:w.heap[b]? = some (.cells #[.bool s0,.slice a0 n0 c0,.bool s1,.slice a1 n1 c1,.bool s2,.slice a2 n2 c2,.bool s3,.slice a3 n3 c3] 24)) (h0:Row w a0 n0 c0 xs0) (h1:Row w a1 n1 c1 xs1) (h2:Row w a2 n2 c2 xs2) (h3:Row w a3 n3 c3 xs3) :
  Calls Try.prog 20 #[.slice (some ⟨b,0,none⟩) 4 4] w fun r w'=>r = .returned (.bool (rightN s0 xs0 && rightN s1 xs1 && rightN s2 xs2 && rightN s3 xs3))/\Gr w w':=by
 have R0:=hide (fun w1 (g:Gr w w1)=>rightL s0 a0 n0 c0 xs0 w1 (h0.gr g))
 have R1:=hide (fun w1 (g:Gr w w1)=>rightL s1 a1 n1 c1 xs1 w1 (h1.gr g))
 have R2:=hide (fun w1 (g:Gr w w1)=>rightL s2 a2 n2 c2 xs2 w1 (h2.gr g))
 have R3:=hide (fun w1 (g:Gr w w1)=>rightL s3 a3 n3 c3 xs3 w1 (h3.gr g))
 generalize rightN s0 xs0=r0 at *
 generalize rightN s1 xs1=r1 at *
 generalize rightN s2 xs2=r2 at *
 generalize rightN s3 xs3=r3 at *
 clear h0 h1 h2 h3
 obtain⟨k0,k1,k2,k3,k4,k5,k6,k7⟩:=bx8G HB
 cases r0
 ·go_enter Try.func20,Try.ntmps20
  go_wp2
  refine wp_loop_rounds 5 ?_
  rw[rounds_succ]
  go_wp2_with (go_at_call 10;(with_reducible refine(R0.out _ ((Gr.refl w).alloc (.cells #[.bool s0,.slice a0 n0 c0] 24))).mono ?_);rintro r v0 ⟨rfl,g0⟩;have G0:=((Gr.refl w).alloc (.cells #[.bool s0,.slice a0 n0 c0] 24)).trans g0;clear k0 k1 k2 k3 k4 k5 k6 k7;have HB0:=keepO G0 HB;obtain⟨k0,k1,k2,k3,k4,k5,k6,k7⟩:=bx8G HB0)
  refine bodyPost_ret (v:=.bool false) ?_ rfl ⟨by simp,G0⟩
  simp[results,Try.results20,go_sem]
 ·skip
  cases r1
  ·go_enter Try.func20,Try.ntmps20
   go_wp2
   refine wp_loop_rounds 5 ?_
   rw[rounds_succ]
   go_wp2_with (go_at_call 10;(with_reducible refine(R0.out _ ((Gr.refl w).alloc (.cells #[.bool s0,.slice a0 n0 c0] 24))).mono ?_);rintro r v0 ⟨rfl,g0⟩;have G0:=((Gr.refl w).alloc (.cells #[.bool s0,.slice a0 n0 c0] 24)).trans g0;clear k0 k1 k2 k3 k4 k5 k6 k7;have HB0:=keepO G0 HB;obtain⟨k0,k1,k2,k3,k4,k5,k6,k7⟩:=bx8G HB0)
   rw[rounds_succ]
   go_wp2_with (go_at_call 10;(with_reducible refine(R1.out _ (G0.alloc (.cells #[.bool s1,.slice a1 n1 c1] 24))).mono ?_);rintro r v1 ⟨rfl,g1⟩;have G1:=(G0.alloc (.cells #[.bool s1,.slice a1 n1 c1] 24)).trans g1;clear k0 k1 k2 k3 k4 k5 k6 k7;have HB1:=keepO G1 HB;obtain⟨k0,k1,k2,k3,k4,k5,k6,k7⟩:=bx8G HB1)
   refine bodyPost_ret (v:=.bool false) ?_ rfl ⟨by simp,G1⟩
   simp[results,Try.results20,go_sem]
  ·skip
   cases r2
   ·go_enter Try.func20,Try.ntmps20
    go_wp2
    refine wp_loop_rounds 5 ?_
    rw[rounds_succ]
    go_wp2_with (go_at_call 10;(with_reducible refine(R0.out _ ((Gr.refl w).alloc (.cells #[.bool s0,.slice a0 n0 c0] 24))).mono ?_);rintro r v0 ⟨rfl,g0⟩;have G0:=((Gr.refl w).alloc (.cells #[.bool s0,.slice a0 n0 c0] 24)).trans g0;clear k0 k1 k2 k3 k4 k5 k6 k7;have HB0:=keepO G0 HB;obtain⟨k0,k1,k2,k3,k4,k5,k6,k7⟩:=bx8G HB0)
    rw[rounds_succ]
    go_wp2_with (go_at_call 10;(with_reducible refine(R1.out _ (G0.alloc (.cells #[.bool s1,.slice a1 n1 c1] 24))).mono ?_);rintro r v1 ⟨rfl,g1⟩;have G1:=(G0.alloc (.cells #[.bool s1,.slice a1 n1 c1] 24)).trans g1;clear k0 k1 k2 k3 k4 k5 k6 k7;have HB1:=keepO G1 HB;obtain⟨k0,k1,k2,k3,k4,k5,k6,k7⟩:=bx8G HB1)
    rw[rounds_succ]
    go_wp2_with (go_at_call 10;(with_reducible refine(R2.out _ (G1.alloc (.cells #[.bool s2,.slice a2 n2 c2] 24))).mono ?_);rintro r v2 ⟨rfl,g2⟩;have G2:=(G1.alloc (.cells #[.bool s2,.slice a2 n2 c2] 24)).trans g2;clear k0 k1 k2 k3 k4 k5 k6 k7;have HB2:=keepO G2 HB;obtain⟨k0,k1,k2,k3,k4,k5,k6,k7⟩:=bx8G HB2)
    refine bodyPost_ret (v:=.bool false) ?_ rfl ⟨by simp,G2⟩
    simp[results,Try.results20,go_sem]
   ·skip
    cases r3
    ·go_enter Try.func20,Try.ntmps20
     go_wp2
     refine wp_loop_rounds 5 ?_
     rw[rounds_succ]
     go_wp2_with (go_at_call 10;(with_reducible refine(R0.out _ ((Gr.refl w).alloc (.cells #[.bool s0,.slice a0 n0 c0] 24))).mono ?_);rintro r v0 ⟨rfl,g0⟩;have G0:=((Gr.refl w).alloc (.cells #[.bool s0,.slice a0 n0 c0] 24)).trans g0;clear k0 k1 k2 k3 k4 k5 k6 k7;have HB0:=keepO G0 HB;obtain⟨k0,k1,k2,k3,k4,k5,k6,k7⟩:=bx8G HB0)
     rw[rounds_succ]
     go_wp2_with (go_at_call 10;(with_reducible refine(R1.out _ (G0.alloc (.cells #[.bool s1,.slice a1 n1 c1] 24))).mono ?_);rintro r v1 ⟨rfl,g1⟩;have G1:=(G0.alloc (.cells #[.bool s1,.slice a1 n1 c1] 24)).trans g1;clear k0 k1 k2 k3 k4 k5 k6 k7;have HB1:=keepO G1 HB;obtain⟨k0,k1,k2,k3,k4,k5,k6,k7⟩:=bx8G HB1)
     rw[rounds_succ]
     go_wp2_with (go_at_call 10;(with_reducible refine(R2.out _ (G1.alloc (.cells #[.bool s2,.slice a2 n2 c2] 24))).mono ?_);rintro r v2 ⟨rfl,g2⟩;have G2:=(G1.alloc (.cells #[.bool s2,.slice a2 n2 c2] 24)).trans g2;clear k0 k1 k2 k3 k4 k5 k6 k7;have HB2:=keepO G2 HB;obtain⟨k0,k1,k2,k3,k4,k5,k6,k7⟩:=bx8G HB2)
     rw[rounds_succ]
     go_wp2_with (go_at_call 10;(with_reducible refine(R3.out _ (G2.alloc (.cells #[.bool s3,.slice a3 n3 c3] 24))).mono ?_);rintro r v3 ⟨rfl,g3⟩;have G3:=(G2.alloc (.cells #[.bool s3,.slice a3 n3 c3] 24)).trans g3;clear k0 k1 k2 k3 k4 k5 k6 k7;have HB3:=keepO G3 HB;obtain⟨k0,k1,k2,k3,k4,k5,k6,k7⟩:=bx8G HB3)
     refine bodyPost_ret (v:=.bool false) ?_ rfl ⟨by simp,G3⟩
     simp[results,Try.results20,go_sem]
    ·go_enter Try.func20,Try.ntmps20
     go_wp2
     refine wp_loop_rounds 5 ?_
     rw[rounds_succ]
     go_wp2_with (go_at_call 10;(with_reducible refine(R0.out _ ((Gr.refl w).alloc (.cells #[.bool s0,.slice a0 n0 c0] 24))).mono ?_);rintro r v0 ⟨rfl,g0⟩;have G0:=((Gr.refl w).alloc (.cells #[.bool s0,.slice a0 n0 c0] 24)).trans g0;clear k0 k1 k2 k3 k4 k5 k6 k7;have HB0:=keepO G0 HB;obtain⟨k0,k1,k2,k3,k4,k5,k6,k7⟩:=bx8G HB0)
     rw[rounds_succ]
     go_wp2_with (go_at_call 10;(with_reducible refine(R1.out _ (G0.alloc (.cells #[.bool s1,.slice a1 n1 c1] 24))).mono ?_);rintro r v1 ⟨rfl,g1⟩;have G1:=(G0.alloc (.cells #[.bool s1,.slice a1 n1 c1] 24)).trans g1;clear k0 k1 k2 k3 k4 k5 k6 k7;have HB1:=keepO G1 HB;obtain⟨k0,k1,k2,k3,k4,k5,k6,k7⟩:=bx8G HB1)
     rw[rounds_succ]
     go_wp2_with (go_at_call 10;(with_reducible refine(R2.out _ (G1.alloc (.cells #[.bool s2,.slice a2 n2 c2] 24))).mono ?_);rintro r v2 ⟨rfl,g2⟩;have G2:=(G1.alloc (.cells #[.bool s2,.slice a2 n2 c2] 24)).trans g2;clear k0 k1 k2 k3 k4 k5 k6 k7;have HB2:=keepO G2 HB;obtain⟨k0,k1,k2,k3,k4,k5,k6,k7⟩:=bx8G HB2)
     rw[rounds_succ]
     go_wp2_with (go_at_call 10;(with_reducible refine(R3.out _ (G2.alloc (.cells #[.bool s3,.slice a3 n3 c3] 24))).mono ?_);rintro r v3 ⟨rfl,g3⟩;have G3:=(G2.alloc (.cells #[.bool s3,.slice a3 n3 c3] 24)).trans g3;clear k0 k1 k2 k3 k4 k5 k6 k7;have HB3:=keepO G3 HB;obtain⟨k0,k1,k2,k3,k4,k5,k6,k7⟩:=bx8G HB3)
     rw[rounds_succ]
     go_wp2
     refine bodyPost_ret (v:=.bool true) ?_ rfl ⟨by simp,G3⟩
     simp[results,Try.results20,go_sem]
theorem fieldP (a0 a1 a2 a3 a4 a5:Option Addr) (n0 n1 n2 n3 n4 n5 c0 c1 c2 c3 c4 c5:Nat) (t:Bool) (w:World):Sem.run Try.prog (Instr.field 47 (.agg #[.bool false,.slice a0 n0 c0,.bool false,.slice a1 n1 c1,.bool false,.slice a2 n2 c2,.bool false,.slice a3 n3 c3,.bool false,.slice a4 n4 c4,.bool false,.slice a5 n5 c5,.bool t]) 0) w = .ok (.agg #[.bool false,.slice a0 n0 c0,.bool false,.slice a1 n1 c1,.bool false,.slice a2 n2 c2,.bool false,.slice a3 n3 c3,.bool false,.slice a4 n4 c4,.bool false,.slice a5 n5 c5]) w:=by kernel_rfl
theorem indexP (a0 a1 a2 a3 a4 a5:Option Addr) (n0 n1 n2 n3 n4 n5 c0 c1 c2 c3 c4 c5:Nat) (w:World):Sem.run Try.prog (Instr.index 45 (.agg #[.bool false,.slice a0 n0 c0,.bool false,.slice a1 n1 c1,.bool false,.slice a2 n2 c2,.bool false,.slice a3 n3 c3,.bool false,.slice a4 n4 c4,.bool false,.slice a5 n5 c5]) (.int .i64 0)) w = .ok (.agg #[.bool false,.slice a0 n0 c0,.bool false,.slice a1 n1 c1,.bool false,.slice a2 n2 c2]) w:=by kernel_rfl
theorem fieldR (a0 a1 a2:Option Addr) (n0 n1 n2 c0 c1 c2:Nat) (w:World):Sem.run Try.prog (Instr.field 44 (.agg #[.bool false,.slice a0 n0 c0,.bool false,.slice a1 n1 c1,.bool false,.slice a2 n2 c2]) 0) w = .ok (.agg #[.bool false,.slice a0 n0 c0]) w:=by kernel_rfl
set_option maxRecDepth 4000 in
set_option maxHeartbeats 4000000 in
theorem ofG (sa sb:Bool) (aa ab:Option Addr) (na nb ca cb:Nat) (X Y:Int) (w:World) (hx:Wh w sa aa na ca X) (hy:Wh w sb ab nb cb Y) :
  Calls Try.prog 6 #[.agg #[.bool sa,.slice aa na ca],.agg #[.bool sb,.slice ab nb cb]] w fun r w'=>∃b c d,r = .returned (.tuple #[.agg #[.bool false,.slice b c d],.int .i64 0])/\Hid (TQ w w' b c d (Int.gcd X Y:Nat))/\Gr w w':=by
 have W0:=((((Gr.refl w).alloc (.cells #[.bool sa,.slice aa na ca] 24)).alloc (.cells #[.bool sb,.slice ab nb cb] 24)).alloc (.cells #[.bool false,.slice none 0 0] 24)).alloc (.cells #[.bool sa,.slice aa na ca,.bool sb,.slice ab nb cb] 24)
 obtain⟨H0,H1,H2,H3⟩:=blk4G w (.cells #[.bool sa,.slice aa na ca] 24) (.cells #[.bool sb,.slice ab nb cb] 24) (.cells #[.bool false,.slice none 0 0] 24) (.cells #[.bool sa,.slice aa na ca,.bool sb,.slice ab nb cb] 24)
 obtain⟨x0,x1⟩:=bx2 H0
 obtain⟨x2,x3⟩:=bx2 H1
 have RA:Hid (∀w1,Gr w w1->∀b,w1.heap[b]? = some (.cells #[.bool sa,.slice aa na ca,.bool sb,.slice ab nb cb] 24)->Calls Try.prog 20 #[.slice (some ⟨b,0,none⟩) 2 2] w1 fun r w'=>r = .returned (.bool true)/\Gr w1 w'):=fun w1 g b hb=>by
  obtain⟨xs,rx,dx,hR⟩:=hx.right
  obtain⟨ys,ry,dy,hS⟩:=hy.right
  have:=allR2 b sa aa na ca xs sb ab nb cb ys w1 hb (rx.gr g) (ry.gr g)
  rw[rightN_t hR,rightN_t hS] at this
  exact this
 have LA:=hide (fun w1 (g:Gr w w1)=>lastG0 sa sb aa ab na nb ca cb X Y w1 (hx.gr g) (hy.gr g))
 clear hx hy
 have HH:=hide (And.intro H0 (And.intro H1 (And.intro H2 (And.intro H3 W0))))
 clear H0 H1 H2 H3 W0
 go_enter Try.func6,Try.ntmps6
 go_wp2_with (first
  | (simp only[fieldP])
  | (simp only[indexP])
  | (simp only[fieldR])
  | (go_at_call 20;(with_reducible refine(RA.out _ HH.out.2.2.2.2 _ HH.out.2.2.2.1).mono ?_);rintro r w1 ⟨rfl,g1⟩;clear x0 x1 x2 x3;have K0:=keepO g1 HH.out.1;have K1:=keepO g1 HH.out.2.1;obtain⟨x0,x1⟩:=bx2 K0;obtain⟨x2,x3⟩:=bx2 K1)
  | (go_at_call 21;(with_reducible refine(LA.out _ (HH.out.2.2.2.2.trans g1)).mono ?_);rintro e w2 ⟨V,Z,t,tI,g,u0,v0,u1,v1,rfl,NM,AP,BK,LSF,g2⟩;have K2:=keepO g2 (keepO g1 HH.out.2.2.1);obtain⟨y0,y1,y2,y3⟩:=outAny K2))
 have G2:=(HH.out.2.2.2.2.trans g1).trans g2
 have hg:Z 0=(Int.gcd X Y:Nat):=by
  rw[LSF.out.z0,LSF.out.pr.gcd]
  congr 1
 have N0:=NM.out 0 (by omega)
 have B0:∀k,(V 0).bk=some k->w.heap.size<=k:=fun k e=>Nat.le_trans (HH.out.2.2.2.2.trans g1).size (BK.out k ⟨0,by omega,e⟩)
 rw[hg] at N0
 obtain⟨e0,e1⟩:=bx2 (put2_block K2 (.bool false) (.slice (V 0).ad (V 0).n (V 0).c))
 have N1:=N0.set2 K2 (.bool false) (.slice (V 0).ad (V 0).n (V 0).c) (by decide)
 have lz:w.heap.size<=w.heap.size+1+1:=by omega
 refine bodyPost_ret (v:=.tuple #[.agg #[.bool false,.slice (V 0).ad (V 0).n (V 0).c],.int .i64 0]) ?_ rfl ⟨(V 0).ad,(V 0).n,(V 0).c,rfl,⟨N1,B0⟩,(G2.setCell (p:=⟨w.heap.size+1+1,0,none⟩) lz (.bool false)).setCell (p:=⟨w.heap.size+1+1,1,none⟩) lz (.slice (V 0).ad (V 0).n (V 0).c)⟩
 simp[results,Try.results6,go_sem,e0,e1]
set_option maxHeartbeats 4000000 in
theorem ofN (sa sb:Bool) (aa ab:Option Addr) (na nb ca cb:Nat) (xs ys:List Nat) (w:World) (rx:Row w aa na ca xs) (ry:Row w ab nb cb ys) (hN:(rightN sa xs && rightN sb ys)=false) :
  Calls Try.prog 6 #[.agg #[.bool sa,.slice aa na ca],.agg #[.bool sb,.slice ab nb cb]] w fun r w'=>r = .returned (.tuple #[.agg #[.bool false,.slice none 0 0],.int .i64 2])/\Gr w w':=by
 have W0:=((((Gr.refl w).alloc (.cells #[.bool sa,.slice aa na ca] 24)).alloc (.cells #[.bool sb,.slice ab nb cb] 24)).alloc (.cells #[.bool false,.slice none 0 0] 24)).alloc (.cells #[.bool sa,.slice aa na ca,.bool sb,.slice ab nb cb] 24)
 obtain⟨H0,H1,H2,H3⟩:=blk4G w (.cells #[.bool sa,.slice aa na ca] 24) (.cells #[.bool sb,.slice ab nb cb] 24) (.cells #[.bool false,.slice none 0 0] 24) (.cells #[.bool sa,.slice aa na ca,.bool sb,.slice ab nb cb] 24)
 obtain⟨x0,x1⟩:=bx2 H0
 obtain⟨x2,x3⟩:=bx2 H1
 have RA:Hid (∀w1,Gr w w1->∀b,w1.heap[b]? = some (.cells #[.bool sa,.slice aa na ca,.bool sb,.slice ab nb cb] 24)->Calls Try.prog 20 #[.slice (some ⟨b,0,none⟩) 2 2] w1 fun r w'=>r = .returned (.bool false)/\Gr w1 w'):=fun w1 g b hb=>by
  have:=allR2 b sa aa na ca xs sb ab nb cb ys w1 hb (rx.gr g) (ry.gr g)
  rw[hN] at this
  exact this
 clear rx ry hN
 have HH:=hide (And.intro H2 (And.intro H3 W0))
 clear H0 H1 H2 H3 W0
 go_enter Try.func6,Try.ntmps6
 go_wp2_with (go_at_call 20;(with_reducible refine(RA.out _ HH.out.2.2 _ HH.out.2.1).mono ?_);rintro r w1 ⟨rfl,g1⟩;have K2:=keepO g1 HH.out.1;obtain⟨y0,y1,y2,y3⟩:=outAny K2)
 obtain⟨e0,e1⟩:=bx2 (put2_block K2 (.bool false) (.slice none 0 0))
 have lz:w.heap.size<=w.heap.size+1+1:=by omega
 refine bodyPost_ret (v:=.tuple #[.agg #[.bool false,.slice none 0 0],.int .i64 2]) ?_ rfl ⟨rfl,((HH.out.2.2.trans g1).setCell (p:=⟨w.heap.size+1+1,0,none⟩) lz (.bool false)).setCell (p:=⟨w.heap.size+1+1,1,none⟩) lz (.slice none 0 0)⟩
 simp[results,Try.results6,go_sem,e0,e1]
end Go.Proofs.Ytmdakhpdofepeaa
