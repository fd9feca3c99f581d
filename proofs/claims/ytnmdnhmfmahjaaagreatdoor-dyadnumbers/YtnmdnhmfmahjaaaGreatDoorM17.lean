import Derived.Test.YtnmdnhmfmahjaaaGreatDoorM16
namespace Go.Proofs.YtnmdnhmfmahjaaaGreatDoor
open Go.RowKit
set_option linter.unusedVariables false

set_option maxRecDepth 10000 in
set_option maxHeartbeats 1600000 in
theorem reckonA1 (s t : Bool) (ad1 ad2 : Option Addr) (n1 n2 c1 c2 : Nat) (e f : Int) (fv : Value) (w : World)
    (R1 : Hid (∀ w1, Gr w w1 → Calls Tryz.prog 27 #[.agg #[.bool s, .slice ad1 n1 c1, .int .i64 e]] w1 fun r w' => r = .returned (.bool false) ∧ Gr w1 w')) :
    Calls Tryz.prog 59 #[.agg #[.bool s, .slice ad1 n1 c1, .int .i64 e], .agg #[.bool t, .slice ad2 n2 c2, .int .i64 f], fv] w fun r w' => r = .returned (.tuple #[zeroD, .int .i64 2]) ∧ Gr w w' := by
  have TB := three_blocks w (.bool s) (.slice ad1 n1 c1) (.int .i64 e) (.bool t) (.slice ad2 n2 c2) (.int .i64 f) (.cells #[.bool false, .slice none 0 0, .int .i64 0] 24) _ rfl
  have TB' : Hid _ := TB
  clear TB
  have tok : True := trivial
  go_enter Tryz.func59, Tryz.ntmps59
  go_wp2_with (first | (go_at_call 27; have _t := tok; (with_reducible refine (R1.out _ ((((Gr.refl w).alloc _).alloc _).alloc _)).mono ?_); rintro r w1 ⟨rfl, g1⟩; clear tok; have q0 := g1.keep TB'.out.1.1.2.2.2.1; have q1 := g1.keep TB'.out.1.1.2.2.2.2.1; have q2 := g1.keep TB'.out.1.1.2.2.2.2.2; have p0 := g1.keep TB'.out.1.1.1; have p1 := g1.keep TB'.out.1.1.2.1; have p2 := g1.keep TB'.out.1.1.2.2.1; have kb := g1.keepH TB'.out.2.1; obtain ⟨t0, t1, t2, u0, u1, u2⟩ := Out3.of kb))
  refine bodyPost_ret (v := .tuple #[zeroD, .int .i64 2]) ?_ rfl ⟨rfl, ?_⟩
  · simp [results, Tryz.results59, go_sem, t0, t1, t2, zeroD]
  · exact ((((((((Gr.refl w).alloc _).alloc _).alloc _).trans g1)).setCell (p := ⟨w.heap.size + 2, 0, none⟩) (by show _ ≤ w.heap.size + 2; omega) _).setCell (p := ⟨w.heap.size + 2, 1, none⟩) (by show _ ≤ w.heap.size + 2; omega) _).setCell (p := ⟨w.heap.size + 2, 2, none⟩) (by show _ ≤ w.heap.size + 2; omega) _
set_option maxRecDepth 10000 in
set_option maxHeartbeats 1600000 in
theorem reckonA2 (s t : Bool) (ad1 ad2 : Option Addr) (n1 n2 c1 c2 : Nat) (e f : Int) (fv : Value) (w : World)
    (R1 : Hid (∀ w1, Gr w w1 → Calls Tryz.prog 27 #[.agg #[.bool s, .slice ad1 n1 c1, .int .i64 e]] w1 fun r w' => r = .returned (.bool true) ∧ Gr w1 w'))
    (R2 : Hid (∀ w1, Gr w w1 → Calls Tryz.prog 27 #[.agg #[.bool t, .slice ad2 n2 c2, .int .i64 f]] w1 fun r w' => r = .returned (.bool false) ∧ Gr w1 w')) :
    Calls Tryz.prog 59 #[.agg #[.bool s, .slice ad1 n1 c1, .int .i64 e], .agg #[.bool t, .slice ad2 n2 c2, .int .i64 f], fv] w fun r w' => r = .returned (.tuple #[zeroD, .int .i64 2]) ∧ Gr w w' := by
  have TB := three_blocks w (.bool s) (.slice ad1 n1 c1) (.int .i64 e) (.bool t) (.slice ad2 n2 c2) (.int .i64 f) (.cells #[.bool false, .slice none 0 0, .int .i64 0] 24) _ rfl
  have TB' : Hid _ := TB
  clear TB
  have tok : True := trivial
  go_enter Tryz.func59, Tryz.ntmps59
  go_wp2_with (first | (go_at_call 27; have _t := tok; (with_reducible refine (R1.out _ ((((Gr.refl w).alloc _).alloc _).alloc _)).mono ?_); rintro r w1 ⟨rfl, g1⟩; clear tok; have q0 := g1.keep TB'.out.1.1.2.2.2.1; have q1 := g1.keep TB'.out.1.1.2.2.2.2.1; have q2 := g1.keep TB'.out.1.1.2.2.2.2.2; have p0 := g1.keep TB'.out.1.1.1; have p1 := g1.keep TB'.out.1.1.2.1; have p2 := g1.keep TB'.out.1.1.2.2.1; have kb := g1.keepH TB'.out.2.1; obtain ⟨t0, t1, t2, u0, u1, u2⟩ := Out3.of kb) | (go_at_call 27; (with_reducible refine (R2.out _ ?gg).mono ?_); (case gg => exact ((((Gr.refl w).alloc _).alloc _).alloc _).trans g1); rintro r w2 ⟨rfl, g2⟩; have kb2 := g2.keepH kb; clear q0 q1 q2 p0 p1 p2 t0 t1 t2 u0 u1 u2; obtain ⟨t0, t1, t2, u0, u1, u2⟩ := Out3.of kb2))
  refine bodyPost_ret (v := .tuple #[zeroD, .int .i64 2]) ?_ rfl ⟨rfl, ?_⟩
  · simp [results, Tryz.results59, go_sem, t0, t1, t2, zeroD]
  · exact (((((((((Gr.refl w).alloc _).alloc _).alloc _).trans g1).trans g2)).setCell (p := ⟨w.heap.size + 2, 0, none⟩) (by show _ ≤ w.heap.size + 2; omega) _).setCell (p := ⟨w.heap.size + 2, 1, none⟩) (by show _ ≤ w.heap.size + 2; omega) _).setCell (p := ⟨w.heap.size + 2, 2, none⟩) (by show _ ≤ w.heap.size + 2; omega) _
set_option maxRecDepth 10000 in
set_option maxHeartbeats 1600000 in
theorem wrapE6 (s t : Bool) (ad1 ad2 : Option Addr) (n1 n2 c1 c2 : Nat) (e f : Int) (w : World) (g : Int)
    (H : Hid (Calls Tryz.prog 59 #[.agg #[.bool s, .slice ad1 n1 c1, .int .i64 e], .agg #[.bool t, .slice ad2 n2 c2, .int .i64 f], .func (.func 62) #[] #[.pointer (some ⟨w.heap.size, 0, none⟩), .pointer (some ⟨w.heap.size + 1, 0, none⟩)]] (((w.alloc (.cells #[.bool s, .slice ad1 n1 c1, .int .i64 e] 24)).alloc (.cells #[.bool t, .slice ad2 n2 c2, .int .i64 f] 24)).alloc (.cells #[.bool false, .slice none 0 0, .int .i64 0] 24)) fun r w' => r = .returned (.tuple #[.agg #[.bool false, .slice none 0 0, .int .i64 0], .int .i64 g]) ∧ Gr (((w.alloc (.cells #[.bool s, .slice ad1 n1 c1, .int .i64 e] 24)).alloc (.cells #[.bool t, .slice ad2 n2 c2, .int .i64 f] 24)).alloc (.cells #[.bool false, .slice none 0 0, .int .i64 0] 24)) w')) :
    Calls Tryz.prog 23 #[.agg #[.bool s, .slice ad1 n1 c1, .int .i64 e], .agg #[.bool t, .slice ad2 n2 c2, .int .i64 f]] w fun r w' => r = .returned (.tuple #[zeroD, .int .i64 g]) ∧ Gr w w' := by
  have TB := three_blocks w (.bool s) (.slice ad1 n1 c1) (.int .i64 e) (.bool t) (.slice ad2 n2 c2) (.int .i64 f) (.cells #[.bool false, .slice none 0 0, .int .i64 0] 24) _ rfl
  have G0 := TB.2.2
  have TB' : Hid _ := TB
  clear TB
  go_enter Tryz.func23, Tryz.ntmps23
  go_wp2_with (go_at_call 59; (with_reducible refine H.out.mono ?_); rintro r w1 ⟨rfl, g4⟩; have kb4 := g4.keepH TB'.out.2.1; obtain ⟨t0, t1, t2, u0, u1, u2⟩ := Out3.of kb4)
  refine bodyPost_ret (v := .tuple #[zeroD, .int .i64 g]) ?_ rfl ⟨rfl, ?_⟩
  · simp [results, Tryz.results23, go_sem, t0, t1, t2, zeroD]
  · exact (((G0.trans g4).setCell (p := ⟨w.heap.size + 2, 0, none⟩) (by show _ ≤ w.heap.size + 2; omega) _).setCell (p := ⟨w.heap.size + 2, 1, none⟩) (by show _ ≤ w.heap.size + 2; omega) _).setCell (p := ⟨w.heap.size + 2, 2, none⟩) (by show _ ≤ w.heap.size + 2; omega) _
theorem op6A1 (s t : Bool) (ad1 ad2 : Option Addr) (n1 n2 c1 c2 : Nat) (e f : Int) (w : World)
    (R1 : Hid (∀ w1, Gr w w1 → Calls Tryz.prog 27 #[.agg #[.bool s, .slice ad1 n1 c1, .int .i64 e]] w1 fun r w' => r = .returned (.bool false) ∧ Gr w1 w')) :
    Calls Tryz.prog 23 #[.agg #[.bool s, .slice ad1 n1 c1, .int .i64 e], .agg #[.bool t, .slice ad2 n2 c2, .int .i64 f]] w fun r w' => r = .returned (.tuple #[zeroD, .int .i64 2]) ∧ Gr w w' := by
  have G0 : Gr w (((w.alloc (.cells #[.bool s, .slice ad1 n1 c1, .int .i64 e] 24)).alloc (.cells #[.bool t, .slice ad2 n2 c2, .int .i64 f] 24)).alloc (.cells #[.bool false, .slice none 0 0, .int .i64 0] 24)) := (((Gr.refl w).alloc _).alloc _).alloc _
  exact wrapE6 s t ad1 ad2 n1 n2 c1 c2 e f w 2 (reckonA1 s t ad1 ad2 n1 n2 c1 c2 e f _ _ (fun w1 g => R1.out w1 (G0.trans g)))
theorem op6A2 (s t : Bool) (ad1 ad2 : Option Addr) (n1 n2 c1 c2 : Nat) (e f : Int) (w : World)
    (R1 : Hid (∀ w1, Gr w w1 → Calls Tryz.prog 27 #[.agg #[.bool s, .slice ad1 n1 c1, .int .i64 e]] w1 fun r w' => r = .returned (.bool true) ∧ Gr w1 w'))
    (R2 : Hid (∀ w1, Gr w w1 → Calls Tryz.prog 27 #[.agg #[.bool t, .slice ad2 n2 c2, .int .i64 f]] w1 fun r w' => r = .returned (.bool false) ∧ Gr w1 w')) :
    Calls Tryz.prog 23 #[.agg #[.bool s, .slice ad1 n1 c1, .int .i64 e], .agg #[.bool t, .slice ad2 n2 c2, .int .i64 f]] w fun r w' => r = .returned (.tuple #[zeroD, .int .i64 2]) ∧ Gr w w' := by
  have G0 : Gr w (((w.alloc (.cells #[.bool s, .slice ad1 n1 c1, .int .i64 e] 24)).alloc (.cells #[.bool t, .slice ad2 n2 c2, .int .i64 f] 24)).alloc (.cells #[.bool false, .slice none 0 0, .int .i64 0] 24)) := (((Gr.refl w).alloc _).alloc _).alloc _
  exact wrapE6 s t ad1 ad2 n1 n2 c1 c2 e f w 2 (reckonA2 s t ad1 ad2 n1 n2 c1 c2 e f _ _ (fun w1 g => R1.out w1 (G0.trans g)) (fun w1 g => R2.out w1 (G0.trans g)))
set_option maxRecDepth 10000 in
set_option maxHeartbeats 1600000 in
theorem wrapE11 (s t : Bool) (ad1 ad2 : Option Addr) (n1 n2 c1 c2 : Nat) (e f : Int) (w : World) (g : Int)
    (H : Hid (Calls Tryz.prog 59 #[.agg #[.bool s, .slice ad1 n1 c1, .int .i64 e], .agg #[.bool t, .slice ad2 n2 c2, .int .i64 f], .func (.func 60) #[] #[.pointer (some ⟨w.heap.size, 0, none⟩), .pointer (some ⟨w.heap.size + 1, 0, none⟩)]] (((w.alloc (.cells #[.bool s, .slice ad1 n1 c1, .int .i64 e] 24)).alloc (.cells #[.bool t, .slice ad2 n2 c2, .int .i64 f] 24)).alloc (.cells #[.bool false, .slice none 0 0, .int .i64 0] 24)) fun r w' => r = .returned (.tuple #[.agg #[.bool false, .slice none 0 0, .int .i64 0], .int .i64 g]) ∧ Gr (((w.alloc (.cells #[.bool s, .slice ad1 n1 c1, .int .i64 e] 24)).alloc (.cells #[.bool t, .slice ad2 n2 c2, .int .i64 f] 24)).alloc (.cells #[.bool false, .slice none 0 0, .int .i64 0] 24)) w')) :
    Calls Tryz.prog 21 #[.agg #[.bool s, .slice ad1 n1 c1, .int .i64 e], .agg #[.bool t, .slice ad2 n2 c2, .int .i64 f]] w fun r w' => r = .returned (.tuple #[zeroD, .int .i64 g]) ∧ Gr w w' := by
  have TB := three_blocks w (.bool s) (.slice ad1 n1 c1) (.int .i64 e) (.bool t) (.slice ad2 n2 c2) (.int .i64 f) (.cells #[.bool false, .slice none 0 0, .int .i64 0] 24) _ rfl
  have G0 := TB.2.2
  have TB' : Hid _ := TB
  clear TB
  go_enter Tryz.func21, Tryz.ntmps21
  go_wp2_with (go_at_call 59; (with_reducible refine H.out.mono ?_); rintro r w1 ⟨rfl, g4⟩; have kb4 := g4.keepH TB'.out.2.1; obtain ⟨t0, t1, t2, u0, u1, u2⟩ := Out3.of kb4)
  refine bodyPost_ret (v := .tuple #[zeroD, .int .i64 g]) ?_ rfl ⟨rfl, ?_⟩
  · simp [results, Tryz.results21, go_sem, t0, t1, t2, zeroD]
  · exact (((G0.trans g4).setCell (p := ⟨w.heap.size + 2, 0, none⟩) (by show _ ≤ w.heap.size + 2; omega) _).setCell (p := ⟨w.heap.size + 2, 1, none⟩) (by show _ ≤ w.heap.size + 2; omega) _).setCell (p := ⟨w.heap.size + 2, 2, none⟩) (by show _ ≤ w.heap.size + 2; omega) _
theorem op11A1 (s t : Bool) (ad1 ad2 : Option Addr) (n1 n2 c1 c2 : Nat) (e f : Int) (w : World)
    (R1 : Hid (∀ w1, Gr w w1 → Calls Tryz.prog 27 #[.agg #[.bool s, .slice ad1 n1 c1, .int .i64 e]] w1 fun r w' => r = .returned (.bool false) ∧ Gr w1 w')) :
    Calls Tryz.prog 21 #[.agg #[.bool s, .slice ad1 n1 c1, .int .i64 e], .agg #[.bool t, .slice ad2 n2 c2, .int .i64 f]] w fun r w' => r = .returned (.tuple #[zeroD, .int .i64 2]) ∧ Gr w w' := by
  have G0 : Gr w (((w.alloc (.cells #[.bool s, .slice ad1 n1 c1, .int .i64 e] 24)).alloc (.cells #[.bool t, .slice ad2 n2 c2, .int .i64 f] 24)).alloc (.cells #[.bool false, .slice none 0 0, .int .i64 0] 24)) := (((Gr.refl w).alloc _).alloc _).alloc _
  exact wrapE11 s t ad1 ad2 n1 n2 c1 c2 e f w 2 (reckonA1 s t ad1 ad2 n1 n2 c1 c2 e f _ _ (fun w1 g => R1.out w1 (G0.trans g)))
theorem op11A2 (s t : Bool) (ad1 ad2 : Option Addr) (n1 n2 c1 c2 : Nat) (e f : Int) (w : World)
    (R1 : Hid (∀ w1, Gr w w1 → Calls Tryz.prog 27 #[.agg #[.bool s, .slice ad1 n1 c1, .int .i64 e]] w1 fun r w' => r = .returned (.bool true) ∧ Gr w1 w'))
    (R2 : Hid (∀ w1, Gr w w1 → Calls Tryz.prog 27 #[.agg #[.bool t, .slice ad2 n2 c2, .int .i64 f]] w1 fun r w' => r = .returned (.bool false) ∧ Gr w1 w')) :
    Calls Tryz.prog 21 #[.agg #[.bool s, .slice ad1 n1 c1, .int .i64 e], .agg #[.bool t, .slice ad2 n2 c2, .int .i64 f]] w fun r w' => r = .returned (.tuple #[zeroD, .int .i64 2]) ∧ Gr w w' := by
  have G0 : Gr w (((w.alloc (.cells #[.bool s, .slice ad1 n1 c1, .int .i64 e] 24)).alloc (.cells #[.bool t, .slice ad2 n2 c2, .int .i64 f] 24)).alloc (.cells #[.bool false, .slice none 0 0, .int .i64 0] 24)) := (((Gr.refl w).alloc _).alloc _).alloc _
  exact wrapE11 s t ad1 ad2 n1 n2 c1 c2 e f w 2 (reckonA2 s t ad1 ad2 n1 n2 c1 c2 e f _ _ (fun w1 g => R1.out w1 (G0.trans g)) (fun w1 g => R2.out w1 (G0.trans g)))
set_option maxRecDepth 10000 in
set_option maxHeartbeats 1600000 in
theorem closE32 (s t : Bool) (ad1 ad2 : Option Addr) (n1 n2 c1 c2 : Nat) (e f : Int) (pa pb : Nat) (w : World)
    (a0 : w.cell? ⟨pa, 0, none⟩ = some (.bool s)) (a1 : w.cell? ⟨pa, 1, none⟩ = some (.slice ad1 n1 c1)) (a2 : w.cell? ⟨pa, 2, none⟩ = some (.int .i64 e))
    (b0 : w.cell? ⟨pb, 0, none⟩ = some (.bool t)) (b1 : w.cell? ⟨pb, 1, none⟩ = some (.slice ad2 n2 c2)) (b2 : w.cell? ⟨pb, 2, none⟩ = some (.int .i64 f)) (m1 : n1 ≤ 4096) (m2 : n2 ≤ 4096) (hn : 4097 < n1 + n2) :
    Calls Tryz.prog 60 #[.pointer (some ⟨pa, 0, none⟩), .pointer (some ⟨pb, 0, none⟩)] w fun r w' => r = .returned (.tuple #[.agg #[.bool false, .slice none 0 0, .int .i64 0], .int .i64 3]) ∧ Gr w w' := by
  have GA : Gr w (w.alloc (.cells #[.bool false, .slice none 0 0, .int .i64 0] 24)) := (Gr.refl w).alloc _
  have A0 := GA.keep a0
  have A1 := GA.keep a1
  have A2 := GA.keep a2
  have B0 := GA.keep b0
  have B1 := GA.keep b1
  have B2 := GA.keep b2
  have hpa := lt_of_cell' a0
  have hpb := lt_of_cell' b0
  have hne1 : pa ≠ w.heap.size := Nat.ne_of_lt hpa
  have hne2 : pb ≠ w.heap.size := Nat.ne_of_lt hpb
  have hlen : (n1 : Int) + (n2 : Int) > 4097 := by omega
  go_enter Tryz.func60, Tryz.ntmps60
  go_wp2
  refine bodyPost_ret (v := .tuple #[.agg #[.bool false, .slice none 0 0, .int .i64 0], .int .i64 3]) (by simp [results, Tryz.results60, go_sem]) rfl ⟨rfl, GA⟩
theorem mulE (s t : Bool) (ad1 ad2 : Option Addr) (n1 n2 c1 c2 : Nat) (e f : Int) (w : World)
    (R1 : Hid (∀ w1, Gr w w1 → Calls Tryz.prog 27 #[.agg #[.bool s, .slice ad1 n1 c1, .int .i64 e]] w1 fun r w' => r = .returned (.bool true) ∧ Gr w1 w'))
    (R2 : Hid (∀ w1, Gr w w1 → Calls Tryz.prog 27 #[.agg #[.bool t, .slice ad2 n2 c2, .int .i64 f]] w1 fun r w' => r = .returned (.bool true) ∧ Gr w1 w')) (m1 : n1 ≤ 4096) (m2 : n2 ≤ 4096) (hn : 4097 < n1 + n2) :
    Calls Tryz.prog 21 #[.agg #[.bool s, .slice ad1 n1 c1, .int .i64 e], .agg #[.bool t, .slice ad2 n2 c2, .int .i64 f]] w fun r w' => r = .returned (.tuple #[zeroD, .int .i64 3]) ∧ Gr w w' := by
  have TB := three_blocks w (.bool s) (.slice ad1 n1 c1) (.int .i64 e) (.bool t) (.slice ad2 n2 c2) (.int .i64 f) (.cells #[.bool false, .slice none 0 0, .int .i64 0] 24) _ rfl
  have G0 := TB.2.2
  exact wrapE11 s t ad1 ad2 n1 n2 c1 c2 e f w 3 (reckonE27_31 s t ad1 ad2 n1 n2 c1 c2 e f w.heap.size (w.heap.size + 1) _ (fun w1 gr => R1.out w1 (G0.trans gr)) (fun w1 gr => R2.out w1 (G0.trans gr)) (fun w1 gr => closE32 s t ad1 ad2 n1 n2 c1 c2 e f w.heap.size (w.heap.size + 1) w1 (gr.keep TB.1.1.1) (gr.keep TB.1.1.2.1) (gr.keep TB.1.1.2.2.1) (gr.keep TB.1.1.2.2.2.1) (gr.keep TB.1.1.2.2.2.2.1) (gr.keep TB.1.1.2.2.2.2.2) m1 m2 hn))
end Go.Proofs.YtnmdnhmfmahjaaaGreatDoor
namespace Go.Proofs.YtnmdnhmfmahjaaaGreatDoor
open Go.RowKit
set_option linter.unusedVariables false

theorem DyAt.bl {w : World} {s : Bool} {ad : Option Addr} {n cap : Nat} {e : Int} {x : Nat} (h : DyAt w s ad n cap e x) : bl x ≤ 262144 := by
  obtain ⟨xs, h1, h2⟩ := h.lim
  have h3 := bl_len h2
  rw [h1.len] at h3
  have := h.le
  omega
theorem DyAt.lt {w : World} {s : Bool} {ad : Option Addr} {n cap : Nat} {e : Int} {x : Nat} (h : DyAt w s ad n cap e x) : x < 18446744073709551616 ^ L4096 := by
  obtain ⟨xs, h1, h2⟩ := h.lim
  refine Nat.lt_of_lt_of_le h2.upper (Nat.pow_le_pow_right (by omega) ?_)
  rw [h1.len, L4096_eq]; exact h.le
theorem DyAt.odd {w : World} {s : Bool} {ad : Option Addr} {n cap : Nat} {e : Int} {x : Nat} (h : DyAt w s ad n cap e x) : x = 0 ∨ ∃ q, x = 2 * q + 1 := by
  rcases h.right with ⟨h, _⟩ | ⟨q, h, _⟩
  · exact Or.inl h
  · exact Or.inr ⟨q, h⟩
theorem bl_mul (x y : Nat) : bl (x * y) ≤ bl x + bl y := by
  refine bl_le_of_lt ?_
  rw [Nat.pow_add]
  exact Nat.mul_lt_mul'' (bl_lt x) (bl_lt y)
/-- the reference's Right tells true of it -/
theorem DyAt.r25 {w : World} {s : Bool} {ad : Option Addr} {n cap : Nat} {e : Int} {x : Nat} (h : DyAt w s ad n cap e x) : Hid (∀ w1, Gr w w1 → Calls Tryz.prog 32 #[.agg #[.bool s, .slice ad n cap, .int .i64 e]] w1 fun r w' => r = .returned (.bool true) ∧ Gr w1 w') := by
  obtain ⟨xs, h1, h2, h3⟩ := h.rightD
  intro w1 g
  have := right25 s ad n cap e xs w1 (h1.gr g) h2.2.1
  rw [rightB_t h3] at this
  exact this
/-- told, with its answer's form -/
theorem told26f (s : Bool) (ad : Option Addr) (n cap x : Nat) (e : Int) (w : World) (hx : Lim w ad n cap 18446744073709551616 x) (hb : bl x ≤ 34359738368) (e1 : -1000000000000 ≤ e) (e2 : e ≤ 1000000000000) :
    Calls Tryz.prog 42 #[.agg #[.bool s, .slice ad n cap, .int .i64 e]] w fun r w' => ∃ a b c d f' g', r = .returned (.tuple #[.agg #[.bool a, .slice b c d, .int .i64 f'], .int .i64 g']) ∧ Hid (Settled w' r s x e) ∧ Gr w w' := by
  refine (told26 s ad n cap x e w hx hb e1 e2).mono ?_
  rintro r w' ⟨h1, h2⟩
  obtain ⟨a, b, c, d, f, g', hr⟩ := h1.form
  exact ⟨a, b, c, d, f, g', hr, h1, h2⟩
end Go.Proofs.YtnmdnhmfmahjaaaGreatDoor
namespace Go.Proofs.YtnmdnhmfmahjaaaGreatDoor
open Go.RowKit
set_option linter.unusedVariables false

theorem addS (s t : Bool) (ad1 ad2 : Option Addr) (n1 n2 c1 c2 : Nat) (e f : Int) (x y : Nat) (w : World) (dx : DyAt w s ad1 n1 c1 e x) (dy : DyAt w t ad2 n2 c2 f y) (hT : TabAt 1 Lib.deBruijn64tab w) :
    Calls Tryz.prog 23 #[.agg #[.bool s, .slice ad1 n1 c1, .int .i64 e], .agg #[.bool t, .slice ad2 n2 c2, .int .i64 f]] w fun r w' => SetV w' r (sv KK s x e + sv KK t y f) ∧ Gr w w' := by
  have hkk := KK_eq
  have e1 := dx.low
  have f1 := dy.low
  by_cases hfar : 0 < x ∧ 0 < y ∧ 262144 < max e f - min e f
  · obtain ⟨x0, y0, hef⟩ := hfar
    obtain ⟨k1, rfl⟩ := lim_pos dx.lim x0
    obtain ⟨k2, rfl⟩ := lim_pos dy.lim y0
    refine (toldE9 s t ad1 ad2 (k1 + 1) (k2 + 1) c1 c2 e f w dx.r26 dy.r26 (fun w1 g => sum_far s t ad1 ad2 k1 k2 c1 c2 e f w1 dx.low dx.high dy.low dy.high hef)).mono ?_
    rintro r w' ⟨rfl, g⟩
    exact ⟨far_setv w' s t x y e f dx.odd dy.odd x0 y0 dx.lt dy.lt (by omega) (by omega) hef, g⟩
  · obtain ⟨neg, m, g, hs, g1, g2, C⟩ := sum29u s t ad1 ad2 n1 n2 c1 c2 x y e f w dx.lim dy.lim dx.le dy.le dx.low dx.high dy.low dy.high (fun x0 y0 hef => hfar ⟨x0, y0, hef⟩)
    obtain ⟨h0, hw⟩ := hs KK (by omega) (by omega)
    refine (told9 s t neg ad1 ad2 n1 n2 c1 c2 m e f g w hT (by omega) (by omega) dx.r26 dy.r26 C).mono ?_
    rintro r w' ⟨h1, h2⟩
    exact ⟨⟨neg, m, g, h0, hw, h1⟩, h2⟩
theorem mulS (s t : Bool) (ad1 ad2 : Option Addr) (n1 n2 c1 c2 : Nat) (e f : Int) (x y : Nat) (w : World) (dx : DyAt w s ad1 n1 c1 e x) (dy : DyAt w t ad2 n2 c2 f y) (hT : TabAt 1 Lib.deBruijn64tab w) :
    Calls Tryz.prog 21 #[.agg #[.bool s, .slice ad1 n1 c1, .int .i64 e], .agg #[.bool t, .slice ad2 n2 c2, .int .i64 f]] w fun r w' => SetV w' r (sv KK (s != t) (x * y) (e + f)) ∧ Gr w w' := by
  have hkk := KK_eq
  have e1 := dx.low
  have f1 := dy.low
  by_cases hn : n1 + n2 ≤ 4097
  · refine (told12 s t ad1 ad2 n1 n2 c1 c2 x y e f w hT dx.r26 dy.r26 dx.lim dy.lim hn dx.low dx.high dy.low dy.high).mono ?_
    rintro r w' ⟨h1, h2⟩
    exact ⟨⟨_, _, _, by omega, rfl, h1⟩, h2⟩
  · have m1 := dx.le
    have m2 := dy.le
    refine (mulE s t ad1 ad2 n1 n2 c1 c2 e f w dx.r26 dy.r26 m1 m2 (by omega)).mono ?_
    rintro r w' ⟨rfl, g⟩
    refine ⟨⟨_, _, _, by omega, rfl, ?_⟩, g⟩
    have pos : ∀ (m : Nat) (z : Nat) (ad : Option Addr) (cap : Nat), 0 < m → Lim w ad m cap 18446744073709551616 z → 18446744073709551616 ^ (m - 1) ≤ z := fun m z ad cap hm ⟨xs, r, d⟩ => d.lower (k := m - 1) (by rw [r.len]; omega)
    have p1 := pos n1 x ad1 c1 (by omega) dx.lim
    have p2 := pos n2 y ad2 c2 (by omega) dy.lim
    have q1 := Nat.pow_pos (n := n1 - 1) (show 0 < 18446744073709551616 by omega)
    have q2 := Nat.pow_pos (n := n2 - 1) (show 0 < 18446744073709551616 by omega)
    obtain ⟨p, hp⟩ : ∃ p, x = 2 * p + 1 := by rcases dx.odd with h | h; omega; exact h
    obtain ⟨q, hq⟩ : ∃ q, y = 2 * q + 1 := by rcases dy.odd with h | h; omega; exact h
    have hxy : x * y = 2 * (2 * p * q + p + q) + 1 := by
      rw [hp, hq, Nat.mul_add, Nat.mul_one, Nat.add_mul, Nat.one_mul, Nat.mul_comm 2 q, ← Nat.mul_assoc, Nat.mul_assoc (2 * p) q 2, Nat.mul_comm q 2, ← Nat.mul_assoc, Nat.mul_comm (2 * p) 2, Nat.mul_assoc 2 (2 * p) q]
      omega
    unfold Settled
    refine Or.inr (Or.inr ⟨0, 2 * p * q + p + q, by rw [Nat.pow_zero, Nat.one_mul]; exact hxy, ?_, rfl⟩)
    intro hF
    have h1 := hF.1
    rw [← hxy] at h1
    have h2 : 18446744073709551616 ^ (n1 - 1) * 18446744073709551616 ^ (n2 - 1) ≤ x * y := Nat.mul_le_mul p1 p2
    rw [← Nat.pow_add] at h2
    have h3 : 18446744073709551616 ^ L4096 ≤ 18446744073709551616 ^ (n1 - 1 + (n2 - 1)) := Nat.pow_le_pow_right (by omega) (by rw [L4096_eq]; omega)
    omega
theorem negS (s : Bool) (ad : Option Addr) (n cap x : Nat) (e : Int) (w : World) (dx : DyAt w s ad n cap e x) (hT : TabAt 1 Lib.deBruijn64tab w) :
    Calls Tryz.prog 25 #[.agg #[.bool s, .slice ad n cap, .int .i64 e]] w fun r w' => SetV w' r (sv KK (!s) x e) ∧ Gr w w' := by
  have hkk := KK_eq
  obtain ⟨xs, h1, h2, h3⟩ := dx.rightD
  have := dx.le
  have := dx.low
  have := dx.high
  refine (neg14 s ad n cap x e xs w h1 h2.2.1 h2.1 (by omega) hT (by omega) (by omega) h3).mono ?_
  rintro r w' ⟨h4, h5⟩
  exact ⟨⟨_, _, _, by omega, rfl, h4⟩, h5⟩
set_option maxRecDepth 10000 in
set_option maxHeartbeats 1600000 in
theorem neg13A (s : Bool) (ad : Option Addr) (n cap : Nat) (e : Int) (w : World) (R : Hid (∀ w1, Gr w w1 → Calls Tryz.prog 27 #[.agg #[.bool s, .slice ad n cap, .int .i64 e]] w1 fun r w' => r = .returned (.bool false) ∧ Gr w1 w')) :
    Calls Tryz.prog 25 #[.agg #[.bool s, .slice ad n cap, .int .i64 e]] w fun r w' => r = .returned (.tuple #[zeroD, .int .i64 2]) ∧ Gr w w' := by
  have TB : Hid _ := two_blocks w (.bool s) (.slice ad n cap) (.int .i64 e) (.bool false) (.slice none 0 0) (.int .i64 0) _ rfl
  have kb0 : Hid _ := second_block w (.cells #[.bool s, .slice ad n cap, .int .i64 e] 24) (.cells #[.bool false, .slice none 0 0, .int .i64 0] 24)
  go_enter Tryz.func25, Tryz.ntmps25
  go_wp2_with (first | (go_at_call 27; (with_reducible refine (R.out _ (gr2 _ _)).mono ?_); rintro r w1 ⟨rfl, g1⟩; have k := keep6 g1 TB.out; have k0 := k.1.1; have k1 := k.1.2.1; have k2 := k.1.2.2.1; have kb := g1.keepH kb0.out; obtain ⟨t0, t1, t2, u0, u1, u2⟩ := Out3.of kb))
  refine bodyPost_ret (v := .tuple #[zeroD, .int .i64 2]) ?_ rfl ⟨rfl, (((k.2).setCell (p := ⟨w.heap.size + 1, 0, none⟩) (Nat.le_succ _) _).setCell (p := ⟨w.heap.size + 1, 1, none⟩) (Nat.le_succ _) _).setCell (p := ⟨w.heap.size + 1, 2, none⟩) (Nat.le_succ _) _⟩
  simp [results, Tryz.results25, go_sem, t0, t1, t2, zeroD]
set_option maxRecDepth 10000 in
set_option maxHeartbeats 1600000 in
theorem scale15A (s : Bool) (ad : Option Addr) (n cap : Nat) (e : Int) (p : Int) (w : World) (R : Hid (∀ w1, Gr w w1 → Calls Tryz.prog 27 #[.agg #[.bool s, .slice ad n cap, .int .i64 e]] w1 fun r w' => r = .returned (.bool false) ∧ Gr w1 w')) :
    Calls Tryz.prog 19 #[.agg #[.bool s, .slice ad n cap, .int .i64 e], .int .i64 p] w fun r w' => r = .returned (.tuple #[zeroD, .int .i64 2]) ∧ Gr w w' := by
  have TB : Hid _ := two_blocks w (.bool s) (.slice ad n cap) (.int .i64 e) (.bool false) (.slice none 0 0) (.int .i64 0) _ rfl
  have kb0 : Hid _ := second_block w (.cells #[.bool s, .slice ad n cap, .int .i64 e] 24) (.cells #[.bool false, .slice none 0 0, .int .i64 0] 24)
  go_enter Tryz.func19, Tryz.ntmps19
  go_wp2_with (first | (go_at_call 27; (with_reducible refine (R.out _ (gr2 _ _)).mono ?_); rintro r w1 ⟨rfl, g1⟩; have k := keep6 g1 TB.out; have k0 := k.1.1; have k1 := k.1.2.1; have k2 := k.1.2.2.1; have kb := g1.keepH kb0.out; obtain ⟨t0, t1, t2, u0, u1, u2⟩ := Out3.of kb))
  refine bodyPost_ret (v := .tuple #[zeroD, .int .i64 2]) ?_ rfl ⟨rfl, (((k.2).setCell (p := ⟨w.heap.size + 1, 0, none⟩) (Nat.le_succ _) _).setCell (p := ⟨w.heap.size + 1, 1, none⟩) (Nat.le_succ _) _).setCell (p := ⟨w.heap.size + 1, 2, none⟩) (Nat.le_succ _) _⟩
  simp [results, Tryz.results19, go_sem, t0, t1, t2, zeroD]
set_option maxRecDepth 10000 in
set_option maxHeartbeats 1600000 in
theorem scale15z (s : Bool) (ad : Option Addr) (n cap : Nat) (e : Int) (p : Int) (w : World) (R : Hid (∀ w1, Gr w w1 → Calls Tryz.prog 27 #[.agg #[.bool s, .slice ad 0 cap, .int .i64 e]] w1 fun r w' => r = .returned (.bool true) ∧ Gr w1 w')) :
    Calls Tryz.prog 19 #[.agg #[.bool s, .slice ad 0 cap, .int .i64 e], .int .i64 p] w fun r w' => r = .returned (.tuple #[zeroD, .int .i64 0]) ∧ Gr w w' := by
  have TB : Hid _ := two_blocks w (.bool s) (.slice ad 0 cap) (.int .i64 e) (.bool false) (.slice none 0 0) (.int .i64 0) _ rfl
  have kb0 : Hid _ := second_block w (.cells #[.bool s, .slice ad 0 cap, .int .i64 e] 24) (.cells #[.bool false, .slice none 0 0, .int .i64 0] 24)
  go_enter Tryz.func19, Tryz.ntmps19
  go_wp2_with (first | (go_at_call 27; (with_reducible refine (R.out _ (gr2 _ _)).mono ?_); rintro r w1 ⟨rfl, g1⟩; have k := keep6 g1 TB.out; have k0 := k.1.1; have k1 := k.1.2.1; have k2 := k.1.2.2.1; have kb := g1.keepH kb0.out; obtain ⟨t0, t1, t2, u0, u1, u2⟩ := Out3.of kb))
  refine bodyPost_ret (v := .tuple #[zeroD, .int .i64 0]) ?_ rfl ⟨rfl, (((k.2).setCell (p := ⟨w.heap.size + 1, 0, none⟩) (Nat.le_succ _) _).setCell (p := ⟨w.heap.size + 1, 1, none⟩) (Nat.le_succ _) _).setCell (p := ⟨w.heap.size + 1, 2, none⟩) (Nat.le_succ _) _⟩
  simp [results, Tryz.results19, go_sem, t0, t1, t2, zeroD]
set_option maxRecDepth 10000 in
set_option maxHeartbeats 1600000 in
theorem scale15lo (s : Bool) (ad : Option Addr) (n cap : Nat) (e : Int) (p : Int) (hp : p < -2097152) (w : World) (R : Hid (∀ w1, Gr w w1 → Calls Tryz.prog 27 #[.agg #[.bool s, .slice ad (n + 1) cap, .int .i64 e]] w1 fun r w' => r = .returned (.bool true) ∧ Gr w1 w')) :
    Calls Tryz.prog 19 #[.agg #[.bool s, .slice ad (n + 1) cap, .int .i64 e], .int .i64 p] w fun r w' => r = .returned (.tuple #[zeroD, .int .i64 3]) ∧ Gr w w' := by
  have TB : Hid _ := two_blocks w (.bool s) (.slice ad (n + 1) cap) (.int .i64 e) (.bool false) (.slice none 0 0) (.int .i64 0) _ rfl
  have kb0 : Hid _ := second_block w (.cells #[.bool s, .slice ad (n + 1) cap, .int .i64 e] 24) (.cells #[.bool false, .slice none 0 0, .int .i64 0] 24)
  have z1 : ((n : Int) + 1 == 0) = false := by simp; omega
  go_enter Tryz.func19, Tryz.ntmps19
  go_wp2_with (first | (go_at_call 27; (with_reducible refine (R.out _ (gr2 _ _)).mono ?_); rintro r w1 ⟨rfl, g1⟩; have k := keep6 g1 TB.out; have k0 := k.1.1; have k1 := k.1.2.1; have k2 := k.1.2.2.1; have kb := g1.keepH kb0.out; obtain ⟨t0, t1, t2, u0, u1, u2⟩ := Out3.of kb))
  refine bodyPost_ret (v := .tuple #[zeroD, .int .i64 3]) ?_ rfl ⟨rfl, (((k.2).setCell (p := ⟨w.heap.size + 1, 0, none⟩) (Nat.le_succ _) _).setCell (p := ⟨w.heap.size + 1, 1, none⟩) (Nat.le_succ _) _).setCell (p := ⟨w.heap.size + 1, 2, none⟩) (Nat.le_succ _) _⟩
  simp [results, Tryz.results19, go_sem, t0, t1, t2, zeroD]
set_option maxRecDepth 10000 in
set_option maxHeartbeats 1600000 in
theorem scale15hi (s : Bool) (ad : Option Addr) (n cap : Nat) (e : Int) (p : Int) (hp : 2097152 < p) (w : World) (R : Hid (∀ w1, Gr w w1 → Calls Tryz.prog 27 #[.agg #[.bool s, .slice ad (n + 1) cap, .int .i64 e]] w1 fun r w' => r = .returned (.bool true) ∧ Gr w1 w')) :
    Calls Tryz.prog 19 #[.agg #[.bool s, .slice ad (n + 1) cap, .int .i64 e], .int .i64 p] w fun r w' => r = .returned (.tuple #[zeroD, .int .i64 3]) ∧ Gr w w' := by
  have TB : Hid _ := two_blocks w (.bool s) (.slice ad (n + 1) cap) (.int .i64 e) (.bool false) (.slice none 0 0) (.int .i64 0) _ rfl
  have kb0 : Hid _ := second_block w (.cells #[.bool s, .slice ad (n + 1) cap, .int .i64 e] 24) (.cells #[.bool false, .slice none 0 0, .int .i64 0] 24)
  have z1 : ((n : Int) + 1 == 0) = false := by simp; omega
  have z2 : ¬ p < -2097152 := by omega
  have z3 : p > 2097152 := by omega
  go_enter Tryz.func19, Tryz.ntmps19
  go_wp2_with (first | (go_at_call 27; (with_reducible refine (R.out _ (gr2 _ _)).mono ?_); rintro r w1 ⟨rfl, g1⟩; have k := keep6 g1 TB.out; have k0 := k.1.1; have k1 := k.1.2.1; have k2 := k.1.2.2.1; have kb := g1.keepH kb0.out; obtain ⟨t0, t1, t2, u0, u1, u2⟩ := Out3.of kb))
  refine bodyPost_ret (v := .tuple #[zeroD, .int .i64 3]) ?_ rfl ⟨rfl, (((k.2).setCell (p := ⟨w.heap.size + 1, 0, none⟩) (Nat.le_succ _) _).setCell (p := ⟨w.heap.size + 1, 1, none⟩) (Nat.le_succ _) _).setCell (p := ⟨w.heap.size + 1, 2, none⟩) (Nat.le_succ _) _⟩
  simp [results, Tryz.results19, go_sem, t0, t1, t2, zeroD]
set_option maxRecDepth 10000 in
set_option maxHeartbeats 1600000 in
theorem scale15m (s : Bool) (ad : Option Addr) (n cap x : Nat) (e p : Int) (w : World) (dx : DyAt w s ad (n + 1) cap e x) (hT : TabAt 1 Lib.deBruijn64tab w) (p1 : -2097152 ≤ p) (p2 : p ≤ 2097152) :
    Calls Tryz.prog 19 #[.agg #[.bool s, .slice ad (n + 1) cap, .int .i64 e], .int .i64 p] w fun r w' => Settled w' r s x (e + p) ∧ Gr w w' := by
  have R := dx.r26
  have b1 := dx.le
  have e1 := dx.low
  have e2 := dx.high
  have S35 : Hid (∀ w1, Gr w w1 → Calls Tryz.prog 38 #[.agg #[.bool s, .slice ad (n + 1) cap, .int .i64 (e + p)]] w1 fun r w' => ∃ a b c d f' g', r = .returned (.tuple #[.agg #[.bool a, .slice b c d, .int .i64 f'], .int .i64 g']) ∧ Hid (Settled w' r s x (e + p)) ∧ Gr w1 w') := fun w1 g => by
    obtain ⟨xs, rx, gx⟩ := dx.lim.gr g
    refine (settle35 s ad (n + 1) cap x (e + p) xs w1 rx gx.2.1 gx.1 (by omega) (tab_gr hT g) (by omega) (by omega)).mono ?_
    rintro r w' ⟨h1, h2⟩
    obtain ⟨a, b, c, d, f, g', hr⟩ := h1.form
    exact ⟨a, b, c, d, f, g', hr, h1, h2⟩
  clear dx hT
  have TB : Hid _ := two_blocks w (.bool s) (.slice ad (n + 1) cap) (.int .i64 e) (.bool false) (.slice none 0 0) (.int .i64 0) _ rfl
  have kb0 : Hid _ := second_block w (.cells #[.bool s, .slice ad (n + 1) cap, .int .i64 e] 24) (.cells #[.bool false, .slice none 0 0, .int .i64 0] 24)
  have z1 : ((n : Int) + 1 == 0) = false := by simp; omega
  have z2 : ¬ p < -2097152 := by omega
  have z3 : ¬ p > 2097152 := by omega
  go_enter Tryz.func19, Tryz.ntmps19
  go_wp2_with (first | (go_at_call 27; (with_reducible refine (R.out _ (gr2 _ _)).mono ?_); rintro r w1 ⟨rfl, g1⟩; have k := keep6 g1 TB.out; have k0 := k.1.1; have k1 := k.1.2.1; have k2 := k.1.2.2.1; have kb := g1.keepH kb0.out; obtain ⟨t0, t1, t2, u0, u1, u2⟩ := Out3.of kb) | (go_at_call 38; (with_reducible refine (S35.out _ k.2).mono ?_); rintro r w2 ⟨za, zb, zc, zd, zf, zg, rfl, hS, g2⟩; have kb2 := g2.keepH kb; clear k0 k1 k2 t0 t1 t2 u0 u1 u2; obtain ⟨t0, t1, t2, u0, u1, u2⟩ := Out3.of kb2))
  refine bodyPost_ret (v := .tuple #[.agg #[.bool za, .slice zb zc zd, .int .i64 zf], .int .i64 zg]) ?_ rfl ⟨hS.out.set3 kb2 _ _ _, (((k.2.trans g2).setCell (p := ⟨w.heap.size + 1, 0, none⟩) (Nat.le_succ _) _).setCell (p := ⟨w.heap.size + 1, 1, none⟩) (Nat.le_succ _) _).setCell (p := ⟨w.heap.size + 1, 2, none⟩) (Nat.le_succ _) _⟩
  simp [results, Tryz.results19, go_sem, t0, t1, t2]
end Go.Proofs.YtnmdnhmfmahjaaaGreatDoor
