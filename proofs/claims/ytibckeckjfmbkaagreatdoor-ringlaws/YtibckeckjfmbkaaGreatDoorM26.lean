import Derived.Test.YtibckeckjfmbkaaGreatDoorM25
import Derived.Deep.RegionHeld3
import Derived.WalkMore
namespace Go.Proofs.YtibckeckjfmbkaaGreatDoor
open Go.RowKit
set_option linter.unusedVariables false
set_option linter.unusedSimpArgs false
set_option maxRecDepth 10000 in
set_option maxHeartbeats 4000000 in
theorem boxQ (B:Nat) (p q bits:Int) (w:World) (h0:0<=p) (h1:p<16384) (hm:p % 4096=0) (hd:p / 4096=q) (hT:TabAt 2 Lib.deBruijn64tab w) :
  Calls Tryz.prog 142 #[.pointer (some ⟨B,0,none⟩),.int .i64 p,.int .i64 bits] w fun r w'=>(∃v,r = .returned v/\Bv w' v (cq q*Un 0) (cq q*Un 0) (cq (q-1)*Un 0) (cq (q-1)*Un 0))/\Gr w w':=by
 have A:Hid (∀w1 x,Gr w w1->Calls Tryz.prog 145 #[.int .i64 x] w1 fun r w'=>Dv w' r (cq x*Un 0)/\Gr w1 w'):=fun w1 x g=>atQuarter x w1 (tab_gr hT g)
 have kb0:Hid _:=new_at w (.cells #[.bool false,.slice none 0 0,.int .i64 0,.bool false,.slice none 0 0,.int .i64 0,.bool false,.slice none 0 0,.int .i64 0,.bool false,.slice none 0 0,.int .i64 0] 132)
 have g0:Hid _:=(Gr.refl w).alloc (.cells #[.bool false,.slice none 0 0,.int .i64 0,.bool false,.slice none 0 0,.int .i64 0,.bool false,.slice none 0 0,.int .i64 0,.bool false,.slice none 0 0,.int .i64 0] 132)
 have hq:0<=q/\q<=4:=by omega
 clear hT
 go_enter Tryz.func142,Tryz.ntmps142
 go_wp2_with (first
  | (go_at_call 145;(with_reducible refine(A.out _ _ g0.out).mono ?_);rintro r w1 ⟨⟨s1,a1,n1,c1,e1,rfl,d1⟩,g1⟩)
  | (go_at_call 145;(with_reducible refine(A.out _ _ (g0.out.trans g1)).mono ?_);rintro r w2 ⟨⟨s2,a2,n2,c2,e2,rfl,d2⟩,g2⟩)
  | (go_at_call 145;(with_reducible refine(A.out _ _ ((g0.out.trans g1).trans g2)).mono ?_);rintro r w3 ⟨⟨s3,a3,n3,c3,e3,rfl,d3⟩,g3⟩)
  | (go_at_call 145;(with_reducible refine(A.out _ _ (((g0.out.trans g1).trans g2).trans g3)).mono ?_);rintro r w4 ⟨⟨s4,a4,n4,c4,e4,rfl,d4⟩,g4⟩;have kb4:=g4.keepH (g3.keepH (g2.keepH (g1.keepH kb0.out)));obtain⟨x0,x1,x2,x3,x4,x5,x6,x7,x8,x9,x10,x11,y0,y1,y2,y3,y4,y5,y6,y7,y8,y9,y10,y11⟩:=out12 kb4))
 have nr:=NoR.of kb4 rfl
 refine bodyPost_ret (v:=.agg #[.bool s1,.slice a1 n1 c1,.int .i64 e1,.bool s2,.slice a2 n2 c2,.int .i64 e2,.bool s3,.slice a3 n3 c3,.int .i64 e3,.bool s4,.slice a4 n4 c4,.int .i64 e4]) ?_ rfl ⟨⟨_,rfl,_,_,_,_,_,_,_,_,_,_,_,_,_,_,_,_,_,_,_,_,rfl,((d1.gr g2).gr (g3.trans g4)).gx nr (gx12 _ _ _ _ _ _ _ _ _ _ _ _ _ _),((d2.gr g3).gr g4).gx nr (gx12 _ _ _ _ _ _ _ _ _ _ _ _ _ _),(d3.gr g4).gx nr (gx12 _ _ _ _ _ _ _ _ _ _ _ _ _ _),d4.gx nr (gx12 _ _ _ _ _ _ _ _ _ _ _ _ _ _)⟩,(gx12 _ _ _ _ _ _ _ _ _ _ _ _ _ _).gr (Nat.le_refl _) ((g0.out.trans g1).trans ((g2.trans g3).trans g4))⟩
 simp[results,Tryz.results142,go_sem,x0,x1,x2,x3,x4,x5,x6,x7,x8,x9,x10,x11]
theorem out3 {w:World} {B:Nat} {v0 v1 v2:Value} {T:TypeId} (h:w.heap[B]? = some (.cells #[v0,v1,v2] T)):w.cell? ⟨B,0,none⟩=some v0/\w.cell? ⟨B,1,none⟩=some v1/\w.cell? ⟨B,2,none⟩=some v2:=⟨by simp[World.cell?,h],by simp[World.cell?,h],by simp[World.cell?,h]⟩
set_option maxRecDepth 10000 in
set_option maxHeartbeats 4000000 in
theorem boxW (B P:Nat) (p q VC VM V1 V2 VR VI L1 H1 L2 H2:Int) (b1 b2:Bool) (w:World) (h0:0<=p) (h1:p<16384) (hm:¬p % 4096=0) (hd:p / 4096=q)
  (C:Hid (∀w1,Gr w w1->Calls Tryz.prog 146 #[.pointer (some ⟨B,0,none⟩),.int .i64 (2*p),.int .i64 (P:Int)] w1 fun r w'=>Dv w' r VC/\Gr w1 w'))
  (HA:Hid (∀w1 s ad n cap e,Gr w w1->DyV w1 s ad n cap e VC->Calls Tryz.prog 148 #[.pointer (some ⟨B,0,none⟩),.agg #[.bool s,.slice ad n cap,.int .i64 e],.int .i64 (P:Int)] w1 fun r w'=>Dv w' r V1/\Gr w1 w'))
  (HB:Hid (∀w1 s ad n cap e,Gr w w1->DyV w1 s ad n cap e VM->Calls Tryz.prog 148 #[.pointer (some ⟨B,0,none⟩),.agg #[.bool s,.slice ad n cap,.int .i64 e],.int .i64 (P:Int)] w1 fun r w'=>Dv w' r V2/\Gr w1 w'))
  (LA:Hid (∀w1,Calls Tryz.prog 149 #[.int .i64 q] w1 fun r w'=>r = .returned (.bool b1)/\w'=w1))
  (LB:Hid (∀w1,Calls Tryz.prog 149 #[.int .i64 (q-1)] w1 fun r w'=>r = .returned (.bool b2)/\w'=w1))
  (SA:Hid (∀w1 s ad n cap e,Gr w w1->DyV w1 s ad n cap e V1->Calls Tryz.prog 147 #[.pointer (some ⟨B,0,none⟩),.agg #[.bool s,.slice ad n cap,.int .i64 e],.bool b1] w1 fun r w'=>Dv w' r VR/\Gr w1 w'))
  (SB:Hid (∀w1 s ad n cap e,Gr w w1->DyV w1 s ad n cap e V2->Calls Tryz.prog 147 #[.pointer (some ⟨B,0,none⟩),.agg #[.bool s,.slice ad n cap,.int .i64 e],.bool b2] w1 fun r w'=>Dv w' r VI/\Gr w1 w'))
  (SN:Hid (∀w1 s ad n cap e,Gr w w1->DyV w1 s ad n cap e VC->Calls Tryz.prog 147 #[.pointer (some ⟨B,0,none⟩),.agg #[.bool s,.slice ad n cap,.int .i64 e],.bool true] w1 fun r w'=>Dv w' r VM/\Gr w1 w'))
  (AA:Hid (∀w1 s ad n cap e,Gr w w1->DyV w1 s ad n cap e VR->Calls Tryz.prog 150 #[.pointer (some ⟨B,0,none⟩),.agg #[.bool s,.slice ad n cap,.int .i64 e],.int .i64 (P:Int)] w1 fun r w'=>(∃v,r = .returned v/\Gv w' v L1 H1)/\Gr w1 w'))
  (AB:Hid (∀w1 s ad n cap e,Gr w w1->DyV w1 s ad n cap e VI->Calls Tryz.prog 150 #[.pointer (some ⟨B,0,none⟩),.agg #[.bool s,.slice ad n cap,.int .i64 e],.int .i64 (P:Int)] w1 fun r w'=>(∃v,r = .returned v/\Gv w' v L2 H2)/\Gr w1 w')) :
  Calls Tryz.prog 142 #[.pointer (some ⟨B,0,none⟩),.int .i64 p,.int .i64 (P:Int)] w fun r w'=>(∃v,r = .returned v/\Bv w' v L1 H1 L2 H2)/\Gr w w':=by
 have kb0:Hid _:=new_at w (.cells #[.bool false,.slice none 0 0,.int .i64 0,.bool false,.slice none 0 0,.int .i64 0,.bool false,.slice none 0 0,.int .i64 0,.bool false,.slice none 0 0,.int .i64 0] 132)
 have g0:Hid _:=(Gr.refl w).alloc (.cells #[.bool false,.slice none 0 0,.int .i64 0,.bool false,.slice none 0 0,.int .i64 0,.bool false,.slice none 0 0,.int .i64 0,.bool false,.slice none 0 0,.int .i64 0] 132)
 have hq:0<=q/\q<=4:=by omega
 go_enter Tryz.func142,Tryz.ntmps142
 go_wp2_with (first
  | (go_at_call 146;(with_reducible refine(C.out _ g0.out).mono ?_);rintro r w1 ⟨⟨s1,a1,n1,c1,e1,rfl,d1⟩,g1⟩;have G1:=g0.out.trans g1)
  | (go_at_call 148;(with_reducible refine(HA.out _ _ _ _ _ _ (G1.alloc _) (d1.gr ((Gr.refl _).alloc _))).mono ?_);rintro r w2 ⟨⟨s2,a2,n2,c2,e2,rfl,d2⟩,g2⟩;have G2:=(G1.alloc _).trans g2;have m2:=g2.keepH (new_at w1 (.cells #[.bool s1,.slice a1 n1 c1,.int .i64 e1] 128)))
  | (go_at_call 149;(with_reducible refine(LA.out _).mono ?_);rintro r _ ⟨rfl,rfl⟩)
  | (go_at_call 147;(with_reducible refine(SA.out _ _ _ _ _ _ G2 d2).mono ?_);rintro r w3 ⟨⟨s3,a3,n3,c3,e3,rfl,d3⟩,g3⟩;have G3:=G2.trans g3;have m3:=((Gr.refl w3).alloc (.cells #[.bool s3,.slice a3 n3 c3,.int .i64 e3] 128)).keepH (g3.keepH m2);obtain⟨f0,f1,f2⟩:=out3 m3)
  | (go_at_call 147;(with_reducible refine(SN.out _ _ _ _ _ _ (G3.alloc _) ((((d1.gr ((Gr.refl _).alloc _)).gr g2).gr g3).gr ((Gr.refl _).alloc _))).mono ?_);rintro r w4 ⟨⟨s4,a4,n4,c4,e4,rfl,d4⟩,g4⟩;have G4:=(G3.alloc _).trans g4)
  | (go_at_call 148;(with_reducible refine(HB.out _ _ _ _ _ _ G4 d4).mono ?_);rintro r w5 ⟨⟨s5,a5,n5,c5,e5,rfl,d5⟩,g5⟩;have G5:=G4.trans g5)
  | (go_at_call 149;(with_reducible refine(LB.out _).mono ?_);rintro r _ ⟨rfl,rfl⟩)
  | (go_at_call 147;(with_reducible refine(SB.out _ _ _ _ _ _ G5 d5).mono ?_);rintro r w6 ⟨⟨s6,a6,n6,c6,e6,rfl,d6⟩,g6⟩;have G6:=G5.trans g6))
 have g7:=(Gr.refl w6).alloc (.cells #[.bool s6,.slice a6 n6 c6,.int .i64 e6] 128)
 have q9:=g7.keepH (g6.keepH (g5.keepH (g4.keepH (new_at w3 (.cells #[.bool s3,.slice a3 n3 c3,.int .i64 e3] 128)))))
 have q10:=new_at w6 (.cells #[.bool s6,.slice a6 n6 c6,.int .i64 e6] 128)
 have d9:=((d3.gr ((Gr.refl _).alloc _)).gr (g4.trans (g5.trans g6))).gr g7
 have d10:=d6.gr g7
 have G7:Hid (Gr w _):=G6.trans g7
 have kbx:=g7.keepH (g6.keepH (g5.keepH (g4.keepH (((Gr.refl _).alloc (.cells #[.bool s3,.slice a3 n3 c3,.int .i64 e3] 128)).keepH (g3.keepH (g2.keepH (((Gr.refl _).alloc (.cells #[.bool s1,.slice a1 n1 c1,.int .i64 e1] 128)).keepH (g1.keepH kb0.out))))))))
 have l3:w.heap.size≠w3.heap.size:=Nat.ne_of_lt (lt_of_heap (g3.keepH (g2.keepH (((Gr.refl _).alloc (.cells #[.bool s1,.slice a1 n1 c1,.int .i64 e1] 128)).keepH (g1.keepH kb0.out)))))
 have l6:w.heap.size≠w6.heap.size:=Nat.ne_of_lt (lt_of_heap (g6.keepH (g5.keepH (g4.keepH (((Gr.refl _).alloc (.cells #[.bool s3,.slice a3 n3 c3,.int .i64 e3] 128)).keepH (g3.keepH (g2.keepH (((Gr.refl _).alloc (.cells #[.bool s1,.slice a1 n1 c1,.int .i64 e1] 128)).keepH (g1.keepH kb0.out)))))))))
 generalize w6.alloc (.cells #[.bool s6,.slice a6 n6 c6,.int .i64 e6] 128)=w7 at *
 obtain⟨x0,x1,x2⟩:=out3 q9
 obtain⟨y0,y1,y2⟩:=out3 q10
 refine Code.wp_mono ?_ (reg125 _ _ _ _ _ _ _ _ _ _ _ _ _ _ _ _ _ _ _ _ _ _ _ _ _ _ _ _ _ _ _ _ _ _ _ _ _ _ _ _ _ _ _ _ _ _ _ _ _ _ _ _ _ _ _ _ _ B w3.heap.size w6.heap.size w.heap.size P s3 a3 n3 c3 e3 s6 a6 n6 c6 e6 L1 H1 L2 H2 w7 (fun w1 g=>AA.out w1 _ _ _ _ _ (G7.out.trans g) (d9.gr g)) (fun w1 g=>AB.out w1 _ _ _ _ _ (G7.out.trans g) (d10.gr g)) (Ne.symm l3) (Ne.symm l6) kbx ⟨x0,x1,x2,y0,y1,y2⟩)
 intro ex ac W hR
 cases ex
 case normal =>
  obtain⟨_,_,_,_,_,_,_,_,_,s13,a13,n13,c13,e13,s14,a14,n14,c14,e14,s15,a15,n15,c15,e15,s16,a16,n16,c16,e16,rfl,hb,e3',e4',e5',e6',gW⟩:=hR
  obtain⟨t0,t1,t2,t3,t4,t5,t6,t7,t8,t9,t10,t11,u0,u1,u2,u3,u4,u5,u6,u7,u8,u9,u10,u11⟩:=out12 hb
  go_wp2
  refine bodyPost_ret (v:=.agg #[.bool s13,.slice a13 n13 c13,.int .i64 e13,.bool s14,.slice a14 n14 c14,.int .i64 e14,.bool s15,.slice a15 n15 c15,.int .i64 e15,.bool s16,.slice a16 n16 c16,.int .i64 e16]) ?_ rfl ⟨⟨_,rfl,_,_,_,_,_,_,_,_,_,_,_,_,_,_,_,_,_,_,_,_,rfl,e3',e4',e5',e6'⟩,gW.gr (Nat.le_refl _) G7.out⟩
  simp[results,Tryz.results142,go_sem,t0,t1,t2,t3,t4,t5,t6,t7,t8,t9,t10,t11]
 all_goals exact hR.elim
theorem boxH (B P pl R1 R2 : Nat) (C : Int) (w : World) (h : Rk w B) (hT : TabAt 2 Lib.deBruijn64tab w) (hc : CosN P (2 * pl) C) (hpl : pl < 16384) (hm : pl % 4096 ≠ 0) (hP1 : 13 ≤ P) (hP : P ≤ 20000)
    (a1 : R1 * R1 ≤ (((2 ^ P : Nat) : Int) + C).toNat * 2 ^ (P - 1)) (a2 : (((2 ^ P : Nat) : Int) + C).toNat * 2 ^ (P - 1) < (R1 + 1) * (R1 + 1))
    (b1 : R2 * R2 ≤ (((2 ^ P : Nat) : Int) + -C).toNat * 2 ^ (P - 1)) (b2 : (((2 ^ P : Nat) : Int) + -C).toNat * 2 ^ (P - 1) < (R2 + 1) * (R2 + 1)) (re im : Int)
    (hre : re = if lf ((pl / 4096 : Nat) : Int) then -(R1 : Int) else R1) (him : im = if lf (((pl / 4096 : Nat) : Int) - 1) then -(R2 : Int) else R2) :
    Calls Tryz.prog 142 #[.pointer (some ⟨B, 0, none⟩), .int .i64 (pl : Int), .int .i64 (P : Int)] w fun r w' => (∃ v, r = .returned v ∧ Bv w' v ((re - 8192) * Un P) ((re + 8192) * Un P) ((im - 8192) * Un P) ((im + 8192) * Un P)) ∧ Gr w w' := by
  have hC := hc.small (by omega)
  have hCn : (-C).natAbs ≤ 2 ^ P := by rw [Int.natAbs_neg]; exact hC
  have hR1 := root_small (by omega) hC a1
  have hR2 := root_small (by omega) hCn b1
  refine boxW B P (pl : Int) ((pl / 4096 : Nat) : Int) (C * Un P) ((-C) * Un P) ((R1 : Int) * Un P) ((R2 : Int) * Un P) (re * Un P) (im * Un P) _ _ _ _ (lf ((pl / 4096 : Nat) : Int)) (lf (((pl / 4096 : Nat) : Int) - 1)) w (by omega) (by omega) (by omega) (by omega) (fun w1 g => ?_) (fun w1 s ad n cap e g d => ?_) (fun w1 s ad n cap e g d => ?_) (fun w1 => ?_) (fun w1 => ?_) (fun w1 s ad n cap e g d => ?_) (fun w1 s ad n cap e g d => ?_) (fun w1 s ad n cap e g d => ?_) (fun w1 s ad n cap e g d => ?_) (fun w1 s ad n cap e g d => ?_)
  · have := cosN hc (by omega) hP B w1 (h.gr g) (tab_gr hT g) ⟨12, by omega, by omega⟩
    rwa [Int.natCast_mul] at this
  · exact angHalf B s ad n cap e C P R1 w1 (h.gr g) d (tab_gr hT g) (by omega) hP hC a1 a2
  · exact angHalf B s ad n cap e (-C) P R2 w1 (h.gr g) d (tab_gr hT g) (by omega) hP hCn b1 b2
  · exact leftOf _ w1 (by omega) (by omega)
  · exact leftOf _ w1 (by omega) (by omega)
  · rw [hre]; exact angSigned B s ad n cap e (R1 : Int) P _ w1 (h.gr g) d (tab_gr hT g) hP (by rw [Int.natAbs_natCast]; exact hR1)
  · rw [him]; exact angSigned B s ad n cap e (R2 : Int) P _ w1 (h.gr g) d (tab_gr hT g) hP (by rw [Int.natAbs_natCast]; exact hR2)
  · exact angSigned B s ad n cap e C P true w1 (h.gr g) d (tab_gr hT g) hP hC
  · exact around B s ad n cap e re P w1 (h.gr g) d (tab_gr hT g) hP1 hP (by rw [hre]; split; · rw [Int.natAbs_neg]; exact hR1
                                                                            · exact hR1)
  · exact around B s ad n cap e im P w1 (h.gr g) d (tab_gr hT g) hP1 hP (by rw [him]; split; · rw [Int.natAbs_neg]; exact hR2
                                                                            · exact hR2)
end Go.Proofs.YtibckeckjfmbkaaGreatDoor
namespace Go.Proofs.YtibckeckjfmbkaaGreatDoor
open Go.RowKit
set_option linter.unusedVariables false
theorem rightOrder (o:Int) (w:World):Calls Tryz.prog 136 #[.int .i64 o] w fun r w'=>r = .returned (.bool (decide (0<=o/\o<=14)))/\w'=w:=by
 by_cases h1:0<=o
 ·by_cases h2:o<=14
  ·rw[decide_eq_true ⟨h1,h2⟩]
   go_enter Tryz.func136,Tryz.ntmps136
   go_wp2
   go_ret
   exact⟨rfl,rfl⟩
  ·rw[decide_eq_false (fun h=>h2 h.2)]
   go_enter Tryz.func136,Tryz.ntmps136
   go_wp2
   go_ret
   exact⟨rfl,rfl⟩
 ·rw[decide_eq_false (fun h=>h1 h.1)]
  go_enter Tryz.func136,Tryz.ntmps136
  go_wp2
  go_ret
  exact⟨rfl,rfl⟩
theorem placeOf (o:Nat) (st:Int) (w:World) (ho:o<=14):Calls Tryz.prog 138 #[.int .i64 (o:Int),.int .i64 st] w fun r w'=>r = .returned (.int .i64 ((st*((2 ^ (14-o):Nat):Int)) % 16384))/\w'=w:=by
 go_enter Tryz.func138,Tryz.ntmps138
 go_wp2
 go_ret
 refine⟨?_,rfl⟩
 show Ending.returned (Value.int _ _)=_
 rw[and_turn,Int.natCast_pow]
 show Ending.returned (Value.int _ (wrap64 (st*(2:Int) ^ (14-o)) % 16384))=Ending.returned (Value.int _ ((st*(2:Int) ^ (14-o)) % 16384))
 generalize st*(2:Int) ^ (14-o)=z
 congr 2
 unfold wrap64
 omega
end Go.Proofs.YtibckeckjfmbkaaGreatDoor
namespace Go.Proofs.YtibckeckjfmbkaaGreatDoor
open Go.RowKit
set_option linter.unusedVariables false
set_option linter.unusedSimpArgs false
set_option maxRecDepth 10000 in
set_option maxHeartbeats 1600000 in
theorem angFloat (B:Nat) (s1:Bool) (a1:Option Addr) (n1 c1:Nat) (e1:Int) (x:Nat) (w:World) (h:Rk w B)
  (FL:Hid (∀w1,Gr w w1->Calls Tryz.prog 143 #[.agg #[.bool s1,.slice a1 n1 c1,.int .i64 e1]] w1 fun r w'=>r = .returned (.tuple #[.float .f64 x,.int .i64 0])/\Gr w1 w')) :
  Calls Tryz.prog 140 #[.pointer (some ⟨B,0,none⟩),.agg #[.bool s1,.slice a1 n1 c1,.int .i64 e1]] w fun r w'=>r = .returned (.float .f64 x)/\Gr w w':=by
 have N:Hid (∀w1,Gr w w1->Calls Tryz.prog 144 #[.pointer (some ⟨B,0,none⟩),.int .i64 0] w1 fun r w'=>r = .returned (.tuple #[])/\w'=w1):=fun w1 g=>note B w1 (h.gr g)
 have g0:Hid _:=(Gr.refl w).alloc (.cells #[.bool s1,.slice a1 n1 c1,.int .i64 e1] 128)
 go_enter Tryz.func140,Tryz.ntmps140
 go_wp2_with (first
  | (go_at_call 143;(with_reducible refine(FL.out _ g0.out).mono ?_);rintro r w1 ⟨rfl,g1⟩)
  | (go_at_call 144;(with_reducible refine(N.out _ (g0.out.trans g1)).mono ?_);rintro r _ ⟨rfl,rfl⟩))
 go_ret
 exact⟨rfl,g0.out.trans g1⟩
def R73 (t0 t3 t4 t5 t6 t7 t8 t9 t10:Value) (B bI:Nat) (s1:Bool) (a1:Option Addr) (n1 c1:Nat) (e1:Int) (s2:Bool) (a2:Option Addr) (n2 c2:Nat) (e2:Int) (x:Nat) (wq:World):Exit->Act->World->Prop
 | .normal,a,w=>∃u4 u5 u6 u7 u8 u9 u10,a = {tmps:=#[t0,.pointer (some ⟨B,0,none⟩),.pointer (some ⟨bI,0,none⟩),.bool true,u4,u5,u6,u7,u8,u9,u10],defers:=[]}/\Gr wq w
 | _,_,_=>False
set_option maxRecDepth 100000 in
set_option maxHeartbeats 4000000 in
theorem reg73 (t0 t3 t4 t5 t6 t7 t8 t9 t10:Value) (B bI:Nat) (s1:Bool) (a1:Option Addr) (n1 c1:Nat) (e1:Int) (s2:Bool) (a2:Option Addr) (n2 c2:Nat) (e2:Int) (x:Nat) (wq:World) (hx:(FloatKind.f64.format.order x x==some Ordering.eq)=true)
  (CL:Hid (∀w1,Gr wq w1->Calls Tryz.prog 140 #[.pointer (some ⟨B,0,none⟩),.agg #[.bool s1,.slice a1 n1 c1,.int .i64 e1]] w1 fun r w'=>r = .returned (.float .f64 x)/\Gr w1 w'))
  (CH:Hid (∀w1,Gr wq w1->Calls Tryz.prog 140 #[.pointer (some ⟨B,0,none⟩),.agg #[.bool s2,.slice a2 n2 c2,.int .i64 e2]] w1 fun r w'=>r = .returned (.float .f64 x)/\Gr w1 w'))
  (hcs:(wq.cell? ⟨bI,0,none⟩=some (.bool s1)/\wq.cell? ⟨bI,1,none⟩=some (.slice a1 n1 c1)/\wq.cell? ⟨bI,2,none⟩=some (.int .i64 e1)/\wq.cell? ⟨bI,3,none⟩=some (.bool s2)/\wq.cell? ⟨bI,4,none⟩=some (.slice a2 n2 c2)/\wq.cell? ⟨bI,5,none⟩=some (.int .i64 e2))) :
  Code.wp Tryz.prog (Code.region 1 #[{dst:=some 4,op:=Op.fieldAddr 130 (Operand.tmp 2) 0,type:=0,pos:= "angle.go:35",after:=#[],guard:=none},{dst:=some 5,op:=Op.load 128 (Operand.tmp 4),type:=128,pos:= "angle.go:35",after:=#[{on:=0,ground:=Ground.data}],guard:=none},{dst:=some 6,op:=Op.call {callee:=Callee.value (Operand.func 140),args:=#[Operand.tmp 1,Operand.tmp 5],argTypes:=#[127,128]},type:=32,pos:= "angle.go:35",after:=#[{on:=1,ground:=Ground.data}],guard:=none},{dst:=some 7,op:=Op.fieldAddr 130 (Operand.tmp 2) 1,type:=0,pos:= "angle.go:35",after:=#[],guard:=none},{dst:=some 8,op:=Op.load 128 (Operand.tmp 7),type:=128,pos:= "angle.go:35",after:=#[{on:=3,ground:=Ground.data}],guard:=none},{dst:=some 9,op:=Op.call {callee:=Callee.value (Operand.func 140),args:=#[Operand.tmp 1,Operand.tmp 8],argTypes:=#[127,128]},type:=32,pos:= "angle.go:35",after:=#[{on:=4,ground:=Ground.data},{on:=2,ground:=Ground.chain}],guard:=none},{dst:=some 10,op:=Op.binOp BinOp.eql 32 (Operand.tmp 6) (Operand.tmp 9) 32,type:=4,pos:= "angle.go:35",after:=#[{on:=2,ground:=Ground.data},{on:=5,ground:=Ground.data}],guard:=none},{dst:=some 3,op:=Op.assign (Operand.tmp 10),type:=4,pos:= "angle.go:35",after:=#[{on:=6,ground:=Ground.data},{on:=5,ground:=Ground.chain},{on:=0,ground:=Ground.phase},{on:=1,ground:=Ground.phase},{on:=2,ground:=Ground.phase},{on:=3,ground:=Ground.phase},{on:=4,ground:=Ground.phase},{on:=5,ground:=Ground.phase},{on:=6,ground:=Ground.phase}],guard:=none}] true) (R73 t0 t3 t4 t5 t6 t7 t8 t9 t10 B bI s1 a1 n1 c1 e1 s2 a2 n2 c2 e2 x wq) {tmps:=#[t0,.pointer (some ⟨B,0,none⟩),.pointer (some ⟨bI,0,none⟩),t3,t4,t5,t6,t7,t8,t9,t10],defers:=[]} wq:=by
 have hS0:(wq.drew.cell? ⟨bI,0,none⟩=some (.bool s1)/\wq.drew.cell? ⟨bI,1,none⟩=some (.slice a1 n1 c1)/\wq.drew.cell? ⟨bI,2,none⟩=some (.int .i64 e1)/\wq.drew.cell? ⟨bI,3,none⟩=some (.bool s2)/\wq.drew.cell? ⟨bI,4,none⟩=some (.slice a2 n2 c2)/\wq.drew.cell? ⟨bI,5,none⟩=some (.int .i64 e2))/\Gr wq wq.drew:=⟨hcs,(Gr.refl wq).drew⟩
 clear hcs
 refine wp_region_held_drew (S:=fun w'=>(w'.cell? ⟨bI,0,none⟩=some (.bool s1)/\w'.cell? ⟨bI,1,none⟩=some (.slice a1 n1 c1)/\w'.cell? ⟨bI,2,none⟩=some (.int .i64 e1)/\w'.cell? ⟨bI,3,none⟩=some (.bool s2)/\w'.cell? ⟨bI,4,none⟩=some (.slice a2 n2 c2)/\w'.cell? ⟨bI,5,none⟩=some (.int .i64 e2))/\Gr wq w') (by kernel_rfl) hS0 (fun hHeld=>?_)
 clear hS0
 generalize wq.drew=wd at *
 refine wpAnyH_take (i:=0) (oi:=_) (v:=?_) rfl (by kernel_rfl) (by kernel_rfl) (by kernel_rfl) (fun _ _ _ h=>h) (Or.inl ⟨by rfl,?_⟩) (by with_reducible assumption) ?_
 rotate_left
 ·intro w hSw
  (try dsimp only at hSw)
  first|(go_simp;done)|(go_simp;with_reducible rfl)
 (try simp only[Act.put,List.setIfInBounds_toArray,List.set_cons_zero,List.set_cons_succ])
 refine wpAnyH_take (i:=1) (oi:=_) (v:=?_) rfl (by kernel_rfl) (by kernel_rfl) (by kernel_rfl) (fun _ _ _ h=>h) (Or.inl ⟨by rfl,?_⟩) (by with_reducible assumption) ?_
 rotate_left
 ·intro w hSw
  (try dsimp only at hSw)
  first|(go_simp;done)|(go_simp;with_reducible rfl)
 (try simp only[Act.put,List.setIfInBounds_toArray,List.set_cons_zero,List.set_cons_succ])
 refine wpAnyH_take (i:=3) (oi:=_) (v:=?_) rfl (by kernel_rfl) (by kernel_rfl) (by kernel_rfl) (fun _ _ _ h=>h) (Or.inl ⟨by rfl,?_⟩) (by with_reducible assumption) ?_
 rotate_left
 ·intro w hSw
  (try dsimp only at hSw)
  first|(go_simp;done)|(go_simp;with_reducible rfl)
 (try simp only[Act.put,List.setIfInBounds_toArray,List.set_cons_zero,List.set_cons_succ])
 refine wpAnyH_take (i:=4) (oi:=_) (v:=?_) rfl (by kernel_rfl) (by kernel_rfl) (by kernel_rfl) (fun _ _ _ h=>h) (Or.inl ⟨by rfl,?_⟩) (by with_reducible assumption) ?_
 rotate_left
 ·intro w hSw
  (try dsimp only at hSw)
  first|(go_simp;done)|(go_simp;with_reducible rfl)
 (try simp only[Act.put,List.setIfInBounds_toArray,List.set_cons_zero,List.set_cons_succ])
 refine wpAnyH_ready (rs:=[2]) (by kernel_rfl) (by simp) ?_
 refine AllReadyH.cons (o:=_) rfl (fun K hK=>?_) AllReadyH.nil
 go_simp
 with_reducible refine(CL.out _ hHeld.2).mono ?_
 rintro r wc1 ⟨rfl,gg3⟩
 refine hK.out _ _ ⟨⟨gg3.keep hHeld.1.1,gg3.keep hHeld.1.2.1,gg3.keep hHeld.1.2.2.1,gg3.keep hHeld.1.2.2.2.1,gg3.keep hHeld.1.2.2.2.2.1,gg3.keep hHeld.1.2.2.2.2.2⟩,hHeld.2.trans gg3⟩ (fun hH2=>?_)
 clear hK K
 (try simp only[Act.put,List.setIfInBounds_toArray,List.set_cons_zero,List.set_cons_succ])
 refine wpAnyH_ready (rs:=[5]) (by kernel_rfl) (by simp) ?_
 refine AllReadyH.cons (o:=_) rfl (fun K hK=>?_) AllReadyH.nil
 go_simp
 with_reducible refine(CH.out _ hH2.2).mono ?_
 rintro r wc4 ⟨rfl,gg6⟩
 refine hK.out _ _ ⟨⟨gg6.keep hH2.1.1,gg6.keep hH2.1.2.1,gg6.keep hH2.1.2.2.1,gg6.keep hH2.1.2.2.2.1,gg6.keep hH2.1.2.2.2.2.1,gg6.keep hH2.1.2.2.2.2.2⟩,hH2.2.trans gg6⟩ (fun hH5=>?_)
 clear hK K
 (try simp only[Act.put,List.setIfInBounds_toArray,List.set_cons_zero,List.set_cons_succ])
 refine wpAnyH_take (i:=6) (oi:=_) (v:=?_) rfl (by kernel_rfl) (by kernel_rfl) (by kernel_rfl) (fun _ _ _ h=>h) (Or.inl ⟨by rfl,?_⟩) (by with_reducible assumption) ?_
 rotate_left
 ·intro w hSw
  (try dsimp only at hSw)
  first|(go_simp;done)|(go_simp;with_reducible rfl)
 (try simp only[Act.put,List.setIfInBounds_toArray,List.set_cons_zero,List.set_cons_succ])
 refine wpAnyH_take (i:=7) (oi:=_) (v:=?_) rfl (by kernel_rfl) (by kernel_rfl) (by kernel_rfl) (fun _ _ _ h=>h) (Or.inl ⟨by rfl,?_⟩) (by with_reducible assumption) ?_
 rotate_left
 ·intro w hSw
  (try dsimp only at hSw)
  first|(go_simp;done)|(go_simp;with_reducible rfl)
 (try simp only[Act.put,List.setIfInBounds_toArray,List.set_cons_zero,List.set_cons_succ])
 refine wpAnyH_done (by kernel_rfl) ?_ _
 exact⟨_,_,_,_,_,_,_,rfl,hH5.2⟩
set_option maxRecDepth 10000 in
set_option maxHeartbeats 4000000 in
theorem alikeN (B:Nat) (s1:Bool) (a1:Option Addr) (n1 c1:Nat) (e1:Int) (s2:Bool) (a2:Option Addr) (n2 c2:Nat) (e2:Int) (x:Nat) (w:World) (h:Rk w B) (hx:(FloatKind.f64.format.order x x==some Ordering.eq)=true)
  (FA:Hid (∀w1,Gr w w1->Calls Tryz.prog 143 #[.agg #[.bool s1,.slice a1 n1 c1,.int .i64 e1]] w1 fun r w'=>r = .returned (.tuple #[.float .f64 x,.int .i64 0])/\Gr w1 w'))
  (FB:Hid (∀w1,Gr w w1->Calls Tryz.prog 143 #[.agg #[.bool s2,.slice a2 n2 c2,.int .i64 e2]] w1 fun r w'=>r = .returned (.tuple #[.float .f64 x,.int .i64 0])/\Gr w1 w')) :
  Calls Tryz.prog 139 #[.agg #[.bool s1,.slice a1 n1 c1,.int .i64 e1,.bool s2,.slice a2 n2 c2,.int .i64 e2],.pointer (some ⟨B,0,none⟩)] w fun r' w'=>r' = .returned (.bool true)/\Gr w w':=by
 have g0:Hid _:=(Gr.refl w).alloc (.cells #[.bool s1,.slice a1 n1 c1,.int .i64 e1,.bool s2,.slice a2 n2 c2,.int .i64 e2] 130)
 have kb0:Hid _:=new_at w (.cells #[.bool s1,.slice a1 n1 c1,.int .i64 e1,.bool s2,.slice a2 n2 c2,.int .i64 e2] 130)
 have CL:Hid (∀w1,Gr w w1->Calls Tryz.prog 140 #[.pointer (some ⟨B,0,none⟩),.agg #[.bool s1,.slice a1 n1 c1,.int .i64 e1]] w1 fun r w'=>r = .returned (.float .f64 x)/\Gr w1 w'):=fun w1 g=>angFloat B s1 a1 n1 c1 e1 x w1 (h.gr g) (fun w2 g2=>FA.out w2 (g.trans g2))
 have CH:Hid (∀w1,Gr w w1->Calls Tryz.prog 140 #[.pointer (some ⟨B,0,none⟩),.agg #[.bool s2,.slice a2 n2 c2,.int .i64 e2]] w1 fun r w'=>r = .returned (.float .f64 x)/\Gr w1 w'):=fun w1 g=>angFloat B s2 a2 n2 c2 e2 x w1 (h.gr g) (fun w2 g2=>FB.out w2 (g.trans g2))
 have hx':=hide hx
 clear h hx
 go_enter Tryz.func139,Tryz.ntmps139
 go_wp2_with (fail)
 obtain⟨x0,x1,x2,x3,x4,x5,y0,y1,y2,y3,y4,y5⟩:=out6 kb0.out
 refine Code.wp_mono ?_ (reg73 _ _ _ _ _ _ _ _ _ B w.heap.size s1 a1 n1 c1 e1 s2 a2 n2 c2 e2 x _ hx'.out (fun w1 g=>CL.out w1 (g0.out.trans g)) (fun w1 g=>CH.out w1 (g0.out.trans g)) ⟨x0,x1,x2,x3,x4,x5⟩)
 intro ex ac W hR
 cases ex
 case normal =>
  obtain⟨_,_,_,_,_,_,_,rfl,gW⟩:=hR
  go_wp2
  go_ret
  exact⟨rfl,g0.out.trans gW⟩
 all_goals exact hR.elim
set_option maxRecDepth 10000 in
set_option maxHeartbeats 8000000 in
theorem narrowN (B:Nat) (p bits L1 H1 L2 H2:Int) (w:World) (h:Rk w B)
  (X:Hid (∀w1,Gr w w1->Calls Tryz.prog 142 #[.pointer (some ⟨B,0,none⟩),.int .i64 p,.int .i64 bits] w1 fun r w'=>(∃v,r = .returned v/\Bv w' v L1 H1 L2 H2)/\Gr w1 w'))
  (Y:Hid (∀w1 s3 a3 n3 c3 e3 s4 a4 n4 c4 e4,Gr w w1->DyV w1 s3 a3 n3 c3 e3 L1->DyV w1 s4 a4 n4 c4 e4 H1->Calls Tryz.prog 139 #[.agg #[.bool s3,.slice a3 n3 c3,.int .i64 e3,.bool s4,.slice a4 n4 c4,.int .i64 e4],.pointer (some ⟨B,0,none⟩)] w1 fun r w'=>r = .returned (.bool true)/\Gr w1 w'))
  (Z:Hid (∀w1 s3 a3 n3 c3 e3 s4 a4 n4 c4 e4,Gr w w1->DyV w1 s3 a3 n3 c3 e3 L2->DyV w1 s4 a4 n4 c4 e4 H2->Calls Tryz.prog 139 #[.agg #[.bool s3,.slice a3 n3 c3,.int .i64 e3,.bool s4,.slice a4 n4 c4,.int .i64 e4],.pointer (some ⟨B,0,none⟩)] w1 fun r w'=>r = .returned (.bool true)/\Gr w1 w')) :
  Calls Tryz.prog 137 #[.pointer (some ⟨B,0,none⟩),.int .i64 p,.int .i64 bits,.func (.func 139) #[] #[.pointer (some ⟨B,0,none⟩)]] w fun r w'=>(∃v,r = .returned v/\Bv w' v L1 H1 L2 H2)/\Gr w w':=by
 have g0:Hid _:=gr2 (w:=w) (.cells #[.bool false,.slice none 0 0,.int .i64 0,.bool false,.slice none 0 0,.int .i64 0,.bool false,.slice none 0 0,.int .i64 0,.bool false,.slice none 0 0,.int .i64 0] 132) (.cells #[.bool false,.slice none 0 0,.int .i64 0,.bool false,.slice none 0 0,.int .i64 0,.bool false,.slice none 0 0,.int .i64 0,.bool false,.slice none 0 0,.int .i64 0] 132)
 have kb0:Hid _:=second_block w (.cells #[.bool false,.slice none 0 0,.int .i64 0,.bool false,.slice none 0 0,.int .i64 0,.bool false,.slice none 0 0,.int .i64 0,.bool false,.slice none 0 0,.int .i64 0] 132) (.cells #[.bool false,.slice none 0 0,.int .i64 0,.bool false,.slice none 0 0,.int .i64 0,.bool false,.slice none 0 0,.int .i64 0,.bool false,.slice none 0 0,.int .i64 0] 132)
 have ka0:Hid _:=((Gr.refl (w.alloc (.cells #[.bool false,.slice none 0 0,.int .i64 0,.bool false,.slice none 0 0,.int .i64 0,.bool false,.slice none 0 0,.int .i64 0,.bool false,.slice none 0 0,.int .i64 0] 132))).alloc (.cells #[.bool false,.slice none 0 0,.int .i64 0,.bool false,.slice none 0 0,.int .i64 0,.bool false,.slice none 0 0,.int .i64 0,.bool false,.slice none 0 0,.int .i64 0] 132)).keepH (new_at w (.cells #[.bool false,.slice none 0 0,.int .i64 0,.bool false,.slice none 0 0,.int .i64 0,.bool false,.slice none 0 0,.int .i64 0,.bool false,.slice none 0 0,.int .i64 0] 132))
 have hB:=lt_of_heap h
 go_enter Tryz.func137,Tryz.ntmps137
 go_wp2
 go_step3
 go_wp2
 go_step3
 go_wp2
 refine wp_loop_once ?_
 go_wp2_with (first
  | (go_at_call 142;(with_reducible refine(X.out _ g0.out).mono ?_);rintro r w1 ⟨⟨_,rfl,s3,a3,n3,c3,e3,s4,a4,n4,c4,e4,s5,a5,n5,c5,e5,s6,a6,n6,c6,e6,rfl,d3,d4,d5,d6⟩,g1⟩;have kb1:=g1.keepH kb0.out;have nr:=NoR.of kb1 rfl;have gx:=gx12 w1 (w.heap.size+1) (.bool s3) (.slice a3 n3 c3) (.int .i64 e3) (.bool s4) (.slice a4 n4 c4) (.int .i64 e4) (.bool s5) (.slice a5 n5 c5) (.int .i64 e5) (.bool s6) (.slice a6 n6 c6) (.int .i64 e6);obtain⟨x0,x1,x2,x3,x4,x5,x6,x7,x8,x9,x10,x11,y0,y1,y2,y3,y4,y5,y6,y7,y8,y9,y10,y11⟩:=out12 kb1;have rk:=gx.keepc (Nat.ne_of_lt (Nat.lt_succ_of_lt hB)) (g1.keep (g0.out.keep h.cell)))
  | fail)
 have kb2:=putB12 kb1 (.bool s3) (.slice a3 n3 c3) (.int .i64 e3) (.bool s4) (.slice a4 n4 c4) (.int .i64 e4) (.bool s5) (.slice a5 n5 c5) (.int .i64 e5) (.bool s6) (.slice a6 n6 c6) (.int .i64 e6)
 have D3:=d3.gx nr gx
 have D4:=d4.gx nr gx
 have D5:=d5.gx nr gx
 have D6:=d6.gx nr gx
 have G2:Hid (Gr w _):=gx.gr (Nat.le_succ _) (g0.out.trans g1)
 have ka2:=gx.keepH (Nat.ne_of_lt (Nat.lt_succ_self _)) (g1.keepH ka0.out)
 clear x0 x1 x2 x3 x4 x5 x6 x7 x8 x9 x10 x11 y0 y1 y2 y3 y4 y5 y6 y7 y8 y9 y10 y11 rk nr gx d3 d4 d5 d6 kb1
 generalize ((((((((((((w1.setCell ⟨w.heap.size+1,0,none⟩ (.bool s3)).setCell ⟨w.heap.size+1,1,none⟩ (.slice a3 n3 c3)).setCell ⟨w.heap.size+1,2,none⟩ (.int .i64 e3)).setCell ⟨w.heap.size+1,3,none⟩ (.bool s4)).setCell ⟨w.heap.size+1,4,none⟩ (.slice a4 n4 c4)).setCell ⟨w.heap.size+1,5,none⟩ (.int .i64 e4)).setCell ⟨w.heap.size+1,6,none⟩ (.bool s5)).setCell ⟨w.heap.size+1,7,none⟩ (.slice a5 n5 c5)).setCell ⟨w.heap.size+1,8,none⟩ (.int .i64 e5)).setCell ⟨w.heap.size+1,9,none⟩ (.bool s6)).setCell ⟨w.heap.size+1,10,none⟩ (.slice a6 n6 c6)).setCell ⟨w.heap.size+1,11,none⟩ (.int .i64 e6))=w2 at *
 refine(Y.out w2 _ _ _ _ _ _ _ _ _ _ G2.out D3 D4).mono ?_
 rintro r w3 ⟨rfl,g3⟩
 obtain⟨x0,x1,x2,x3,x4,x5,x6,x7,x8,x9,x10,x11,-⟩:=out12 (g3.keepH kb2)
 go_wp2_with (first
  | (go_at_call 139;(with_reducible refine(Z.out _ _ _ _ _ _ _ _ _ _ _ (G2.out.trans g3) (D5.gr g3) (D6.gr g3)).mono ?_);rintro r w4 ⟨rfl,g4⟩;have ka4:=g4.keepH (g3.keepH ka2);have nr:=NoR.of ka4 rfl;obtain⟨z0,z1,z2,z3,z4,z5,z6,z7,z8,z9,z10,z11,-⟩:=out12 (g4.keepH (g3.keepH kb2));obtain⟨x0',x1',x2',x3',x4',x5',x6',x7',x8',x9',x10',x11',y0,y1,y2,y3,y4,y5,y6,y7,y8,y9,y10,y11⟩:=out12 ka4))
 rw[Exit.noGoto_ret]
 refine bodyPost_ret (v:=.agg #[.bool s3,.slice a3 n3 c3,.int .i64 e3,.bool s4,.slice a4 n4 c4,.int .i64 e4,.bool s5,.slice a5 n5 c5,.int .i64 e5,.bool s6,.slice a6 n6 c6,.int .i64 e6]) ?_ rfl ⟨⟨_,rfl,_,_,_,_,_,_,_,_,_,_,_,_,_,_,_,_,_,_,_,_,rfl,((D3.gr g3).gr g4).gx nr (gx12 _ _ _ _ _ _ _ _ _ _ _ _ _ _),((D4.gr g3).gr g4).gx nr (gx12 _ _ _ _ _ _ _ _ _ _ _ _ _ _),((D5.gr g3).gr g4).gx nr (gx12 _ _ _ _ _ _ _ _ _ _ _ _ _ _),((D6.gr g3).gr g4).gx nr (gx12 _ _ _ _ _ _ _ _ _ _ _ _ _ _)⟩,(gx12 _ _ _ _ _ _ _ _ _ _ _ _ _ _).gr (Nat.le_refl _) ((G2.out.trans g3).trans g4)⟩
 simp[results,Tryz.results137,go_sem,x0',x1',x2',x3',x4',x5',x6',x7',x8',x9',x10',x11']
end Go.Proofs.YtibckeckjfmbkaaGreatDoor
