import Derived.Test.YtobceegpcimdgaaU31
namespace Go.Proofs.Ytobceegpcimdgaa
open Go.RowKit
set_option linter.unusedVariables false
set_option linter.unusedSimpArgs false

def Cl2 (w : World) (p0 : Nat) (s0 : Bool) (a0 : Option Addr) (n0 c0 : Nat) (p1 : Nat) (s1 : Bool) (a1 : Option Addr) (n1 c1 : Nat) : Prop := w.heap[p0]? = some (.cells #[.bool s0, .slice a0 n0 c0] 24) ∧ w.heap[p1]? = some (.cells #[.bool s1, .slice a1 n1 c1] 24)
theorem Cl2.gr {w w' : World} {p0 : Nat} {s0 : Bool} {a0 : Option Addr} {n0 c0 : Nat} {p1 : Nat} {s1 : Bool} {a1 : Option Addr} {n1 c1 : Nat} (h : Cl2 w p0 s0 a0 n0 c0 p1 s1 a1 n1 c1) (g : Gr w w') : Cl2 w' p0 s0 a0 n0 c0 p1 s1 a1 n1 c1 := ⟨keepO g h.1, keepO g h.2⟩
theorem Cl2.cells {w : World} {p0 : Nat} {s0 : Bool} {a0 : Option Addr} {n0 c0 : Nat} {p1 : Nat} {s1 : Bool} {a1 : Option Addr} {n1 c1 : Nat} (h : Cl2 w p0 s0 a0 n0 c0 p1 s1 a1 n1 c1) : (w.cell? ⟨p0, 0, none⟩ = some (.bool s0) ∧ w.cell? ⟨p0, 1, none⟩ = some (.slice a0 n0 c0)) ∧ (w.cell? ⟨p1, 0, none⟩ = some (.bool s1) ∧ w.cell? ⟨p1, 1, none⟩ = some (.slice a1 n1 c1)) := ⟨bx2 h.1, bx2 h.2⟩
def Cl8 (w : World) (p0 : Nat) (s0 : Bool) (a0 : Option Addr) (n0 c0 : Nat) (p1 : Nat) (s1 : Bool) (a1 : Option Addr) (n1 c1 : Nat) (p2 : Nat) (s2 : Bool) (a2 : Option Addr) (n2 c2 : Nat) (p3 : Nat) (s3 : Bool) (a3 : Option Addr) (n3 c3 : Nat) (p4 : Nat) (s4 : Bool) (a4 : Option Addr) (n4 c4 : Nat) (p5 : Nat) (s5 : Bool) (a5 : Option Addr) (n5 c5 : Nat) (p6 : Nat) (s6 : Bool) (a6 : Option Addr) (n6 c6 : Nat) (p7 : Nat) (s7 : Bool) (a7 : Option Addr) (n7 c7 : Nat) : Prop := w.heap[p0]? = some (.cells #[.bool s0, .slice a0 n0 c0] 24) ∧ w.heap[p1]? = some (.cells #[.bool s1, .slice a1 n1 c1] 24) ∧ w.heap[p2]? = some (.cells #[.bool s2, .slice a2 n2 c2] 24) ∧ w.heap[p3]? = some (.cells #[.bool s3, .slice a3 n3 c3] 24) ∧ w.heap[p4]? = some (.cells #[.bool s4, .slice a4 n4 c4] 24) ∧ w.heap[p5]? = some (.cells #[.bool s5, .slice a5 n5 c5] 24) ∧ w.heap[p6]? = some (.cells #[.bool s6, .slice a6 n6 c6] 24) ∧ w.heap[p7]? = some (.cells #[.bool s7, .slice a7 n7 c7] 24)
theorem Cl8.gr {w w' : World} {p0 : Nat} {s0 : Bool} {a0 : Option Addr} {n0 c0 : Nat} {p1 : Nat} {s1 : Bool} {a1 : Option Addr} {n1 c1 : Nat} {p2 : Nat} {s2 : Bool} {a2 : Option Addr} {n2 c2 : Nat} {p3 : Nat} {s3 : Bool} {a3 : Option Addr} {n3 c3 : Nat} {p4 : Nat} {s4 : Bool} {a4 : Option Addr} {n4 c4 : Nat} {p5 : Nat} {s5 : Bool} {a5 : Option Addr} {n5 c5 : Nat} {p6 : Nat} {s6 : Bool} {a6 : Option Addr} {n6 c6 : Nat} {p7 : Nat} {s7 : Bool} {a7 : Option Addr} {n7 c7 : Nat} (h : Cl8 w p0 s0 a0 n0 c0 p1 s1 a1 n1 c1 p2 s2 a2 n2 c2 p3 s3 a3 n3 c3 p4 s4 a4 n4 c4 p5 s5 a5 n5 c5 p6 s6 a6 n6 c6 p7 s7 a7 n7 c7) (g : Gr w w') : Cl8 w' p0 s0 a0 n0 c0 p1 s1 a1 n1 c1 p2 s2 a2 n2 c2 p3 s3 a3 n3 c3 p4 s4 a4 n4 c4 p5 s5 a5 n5 c5 p6 s6 a6 n6 c6 p7 s7 a7 n7 c7 := ⟨keepO g h.1, keepO g h.2.1, keepO g h.2.2.1, keepO g h.2.2.2.1, keepO g h.2.2.2.2.1, keepO g h.2.2.2.2.2.1, keepO g h.2.2.2.2.2.2.1, keepO g h.2.2.2.2.2.2.2⟩
theorem Cl8.cells {w : World} {p0 : Nat} {s0 : Bool} {a0 : Option Addr} {n0 c0 : Nat} {p1 : Nat} {s1 : Bool} {a1 : Option Addr} {n1 c1 : Nat} {p2 : Nat} {s2 : Bool} {a2 : Option Addr} {n2 c2 : Nat} {p3 : Nat} {s3 : Bool} {a3 : Option Addr} {n3 c3 : Nat} {p4 : Nat} {s4 : Bool} {a4 : Option Addr} {n4 c4 : Nat} {p5 : Nat} {s5 : Bool} {a5 : Option Addr} {n5 c5 : Nat} {p6 : Nat} {s6 : Bool} {a6 : Option Addr} {n6 c6 : Nat} {p7 : Nat} {s7 : Bool} {a7 : Option Addr} {n7 c7 : Nat} (h : Cl8 w p0 s0 a0 n0 c0 p1 s1 a1 n1 c1 p2 s2 a2 n2 c2 p3 s3 a3 n3 c3 p4 s4 a4 n4 c4 p5 s5 a5 n5 c5 p6 s6 a6 n6 c6 p7 s7 a7 n7 c7) : (w.cell? ⟨p0, 0, none⟩ = some (.bool s0) ∧ w.cell? ⟨p0, 1, none⟩ = some (.slice a0 n0 c0)) ∧ (w.cell? ⟨p1, 0, none⟩ = some (.bool s1) ∧ w.cell? ⟨p1, 1, none⟩ = some (.slice a1 n1 c1)) ∧ (w.cell? ⟨p2, 0, none⟩ = some (.bool s2) ∧ w.cell? ⟨p2, 1, none⟩ = some (.slice a2 n2 c2)) ∧ (w.cell? ⟨p3, 0, none⟩ = some (.bool s3) ∧ w.cell? ⟨p3, 1, none⟩ = some (.slice a3 n3 c3)) ∧ (w.cell? ⟨p4, 0, none⟩ = some (.bool s4) ∧ w.cell? ⟨p4, 1, none⟩ = some (.slice a4 n4 c4)) ∧ (w.cell? ⟨p5, 0, none⟩ = some (.bool s5) ∧ w.cell? ⟨p5, 1, none⟩ = some (.slice a5 n5 c5)) ∧ (w.cell? ⟨p6, 0, none⟩ = some (.bool s6) ∧ w.cell? ⟨p6, 1, none⟩ = some (.slice a6 n6 c6)) ∧ (w.cell? ⟨p7, 0, none⟩ = some (.bool s7) ∧ w.cell? ⟨p7, 1, none⟩ = some (.slice a7 n7 c7)) := ⟨bx2 h.1, bx2 h.2.1, bx2 h.2.2.1, bx2 h.2.2.2.1, bx2 h.2.2.2.2.1, bx2 h.2.2.2.2.2.1, bx2 h.2.2.2.2.2.2.1, bx2 h.2.2.2.2.2.2.2⟩
theorem floorX (s t : Bool) (n1 n2 : Nat) (xs ys : List Nat) (hx : ∀ x ∈ xs, x < 18446744073709551616) (hy : ∀ x ∈ ys, x < 18446744073709551616) (E : Int) (hE : wrD (rightN s xs) (rightN t ys) n2 = E) (w0 : World) : ∀ w1 v v', Gr w0 w1 → RowF w0.heap.size s n1 xs w1 v → RowF w0.heap.size t n2 ys w1 v' → Calls Try.prog 10 #[v, v'] w1 fun e w' => ∃ u, e = .returned u ∧ TupF [NumF w0.heap.size (zD E ((iv s (nv 18446744073709551616 xs)).fdiv (iv t (nv 18446744073709551616 ys)))), NumF w0.heap.size (zD E ((iv s (nv 18446744073709551616 xs)).fmod (iv t (nv 18446744073709551616 ys)))), isC (.int .i64 E)] w' u ∧ Gr w1 w' := by
  rintro w1 v v' g ⟨a, c, rfl, r1, f1⟩ ⟨a', c', rfl, r2, f2⟩
  refine (floorA s t a a' n1 n2 c c' xs ys w1 r1 r2 hx hy E hE).mono ?_
  rintro r w' ⟨h, g'⟩
  obtain ⟨u, rfl, hu⟩ := an2_tup h g.size
  exact ⟨u, rfl, hu, g'⟩
theorem truncX (s t : Bool) (n1 n2 : Nat) (xs ys : List Nat) (hx : ∀ x ∈ xs, x < 18446744073709551616) (hy : ∀ x ∈ ys, x < 18446744073709551616) (E : Int) (hE : wrD (rightN s xs) (rightN t ys) n2 = E) (w0 : World) : ∀ w1 v v', Gr w0 w1 → RowF w0.heap.size s n1 xs w1 v → RowF w0.heap.size t n2 ys w1 v' → Calls Try.prog 11 #[v, v'] w1 fun e w' => ∃ u, e = .returned u ∧ TupF [NumF w0.heap.size (zD E ((iv s (nv 18446744073709551616 xs)).tdiv (iv t (nv 18446744073709551616 ys)))), NumF w0.heap.size (zD E ((iv s (nv 18446744073709551616 xs)).tmod (iv t (nv 18446744073709551616 ys)))), isC (.int .i64 E)] w' u ∧ Gr w1 w' := by
  rintro w1 v v' g ⟨a, c, rfl, r1, f1⟩ ⟨a', c', rfl, r2, f2⟩
  refine (truncA s t a a' n1 n2 c c' xs ys w1 r1 r2 hx hy E hE).mono ?_
  rintro r w' ⟨h, g'⟩
  obtain ⟨u, rfl, hu⟩ := an2_tup h g.size
  exact ⟨u, rfl, hu, g'⟩
theorem exactX (s t : Bool) (n1 n2 : Nat) (xs ys : List Nat) (hx : ∀ x ∈ xs, x < 18446744073709551616) (hy : ∀ x ∈ ys, x < 18446744073709551616) (E : Int) (hE : wrD (rightN s xs) (rightN t ys) n2 = E) (w0 : World) : ∀ w1 v v', Gr w0 w1 → RowF w0.heap.size s n1 xs w1 v → RowF w0.heap.size t n2 ys w1 v' → Calls Try.prog 12 #[v, v'] w1 fun e w' => ∃ u, e = .returned u ∧ TupF [NumF w0.heap.size (exD E (iv s (nv 18446744073709551616 xs)) (iv t (nv 18446744073709551616 ys))), isC (.bool (okD E (iv s (nv 18446744073709551616 xs)) (iv t (nv 18446744073709551616 ys)))), isC (.int .i64 E)] w' u ∧ Gr w1 w' := by
  rintro w1 v v' g ⟨a, c, rfl, r1, f1⟩ ⟨a', c', rfl, r2, f2⟩
  refine (exactA s t a a' n1 n2 c c' xs ys w1 r1 r2 hx hy E hE).mono ?_
  rintro r w' ⟨h, g'⟩
  obtain ⟨u, rfl, hu⟩ := an3_tup h g.size
  exact ⟨u, rfl, hu, g'⟩
theorem modX (s t : Bool) (n1 n2 : Nat) (xs ys : List Nat) (hx : ∀ x ∈ xs, x < 18446744073709551616) (hy : ∀ x ∈ ys, x < 18446744073709551616) (E : Int) (hE : wmD t (rightN s xs) (rightN t ys) n2 = E) (w0 : World) : ∀ w1 v v', Gr w0 w1 → RowF w0.heap.size s n1 xs w1 v → RowF w0.heap.size t n2 ys w1 v' → Calls Try.prog 13 #[v, v'] w1 fun e w' => ∃ u, e = .returned u ∧ TupF [NumF w0.heap.size (zD E ((iv s (nv 18446744073709551616 xs)).fmod (iv t (nv 18446744073709551616 ys)))), isC (.int .i64 E)] w' u ∧ Gr w1 w' := by
  rintro w1 v v' g ⟨a, c, rfl, r1, f1⟩ ⟨a', c', rfl, r2, f2⟩
  refine (modA s t a a' n1 n2 c c' xs ys w1 r1 r2 hx hy E hE).mono ?_
  rintro r w' ⟨h, g'⟩
  obtain ⟨u, rfl, hu⟩ := an1_tup h g.size
  exact ⟨u, rfl, hu, g'⟩
set_option maxRecDepth 20000 in
set_option maxHeartbeats 20000000 in
/-- DivideBack -/
theorem divideBackP {w : World} (s : Bool) (ad1 : Option Addr) (n1 c1 : Nat) (xs : List Nat) (rx : Row w ad1 n1 c1 xs) (hx : ∀ x ∈ xs, x < 18446744073709551616) (t : Bool) (ad2 : Option Addr) (n2 c2 : Nat) (ys : List Nat) (ry : Row w ad2 n2 c2 ys) (hy : ∀ x ∈ ys, x < 18446744073709551616) :
    Calls Try.prog 4 #[.agg #[.bool s, .slice ad1 n1 c1], .agg #[.bool t, .slice ad2 n2 c2]] w fun e w' => e = .returned (.bool true) ∧ Gr w w' := by
  have BX := blk2 w (.cells #[.bool s, .slice ad1 n1 c1] 24) (.cells #[.bool t, .slice ad2 n2 c2] 24)
  have BB : Cl2 ((w.alloc (.cells #[.bool s, .slice ad1 n1 c1] 24)).alloc (.cells #[.bool t, .slice ad2 n2 c2] 24)) w.heap.size s ad1 n1 c1 (w.heap.size + 1) t ad2 n2 c2 := BX
  have GW : Gr w ((w.alloc (.cells #[.bool s, .slice ad1 n1 c1] 24)).alloc (.cells #[.bool t, .slice ad2 n2 c2] 24)) := ((Gr.refl w).alloc _).alloc _
  have AW := hide awakeD
  clear BX
  obtain ⟨⟨x0, y0⟩, x1, y1⟩ := BB.cells
  by_cases hl : 200 < n1 ∨ 200 < n2
  · have LG := hide (fun w1 => longD s t ad1 ad2 n1 n2 c1 c2 w1 true (decide_eq_true hl))
    clear hl
    go_enter Try.func4, Try.ntmps4
    go_wp2_with (first | (go_at_call 7; (with_reducible refine (AW.out _).mono ?_); rintro r w1 ⟨rfl, g1⟩; replace GW := GW.trans g1; replace BB := BB.gr g1; clear x0 y0 x1 y1 g1; obtain ⟨⟨x0, y0⟩, x1, y1⟩ := BB.cells) | (go_at_call 8; (with_reducible refine (LG.out _).mono ?_); rintro r w2 ⟨rfl, g2⟩; replace GW := GW.trans g2))
    go_ret
    exact ⟨rfl, GW⟩
  · have LG := hide (fun w1 => longD s t ad1 ad2 n1 n2 c1 c2 w1 false (decide_eq_false hl))
    have l1 : n1 ≤ 200 := by omega
    have l2 : n2 ≤ 200 := by omega
    obtain ⟨E, hE⟩ : ∃ E, wrD (rightN s xs) (rightN t ys) n2 = E := ⟨_, rfl⟩
    obtain ⟨EM, hEM⟩ : ∃ EM, wmD t (rightN s xs) (rightN t ys) n2 = EM := ⟨_, rfl⟩
    have F5 := hide (floorX s t n1 n2 xs ys hx hy E hE)
    have F6 := hide (truncX s t n1 n2 xs ys hx hy E hE)
    have F7 := hide (exactX s t n1 n2 xs ys hx hy E hE)
    have F8 := hide (modX s t n1 n2 xs ys hx hy EM hEM)
    have CA := hide (fun (w1 : World) (g : Gr w w1) => copyF (s := s) (Nat.le_refl w1.heap.size) (rx.gr g) (by omega))
    have CB := hide (fun (w1 : World) (g : Gr w w1) => copyF (s := t) (Nat.le_refl w1.heap.size) (ry.gr g) (by omega))
    have RA := hide (fun (w1 : World) (g : Gr w w1) => rightL s ad1 n1 c1 xs w1 (rx.gr g))
    have RB := hide (fun (w1 : World) (g : Gr w w1) => rightL t ad2 n2 c2 ys w1 (ry.gr g))
    have WA := hide (fun (h : rightN s xs = true) => whR rx hx h)
    have WB := hide (fun (h : rightN t ys = true) => whR ry hy h)
    have XL := hide (And.intro (nv_lt 18446744073709551616 xs hx) (nv_lt 18446744073709551616 ys hy))
    rw [rx.len, ry.len] at XL
    have HE := hide (And.intro hE hEM)
    clear hl rx ry hx hy hE hEM
    generalize hXd : iv s (nv 18446744073709551616 xs) = X at *
    generalize hYd : iv t (nv 18446744073709551616 ys) = Y at *
    have HXd := hide (And.intro hXd hYd)
    clear hXd hYd
    generalize hoke : okD E X Y = ok at *
    generalize hexe : exD E X Y = ex at *
    generalize hfd : zD E (X.fdiv Y) = fd at *
    generalize hfm : zD E (X.fmod Y) = fm at *
    generalize htd : zD E (X.tdiv Y) = td at *
    generalize htm : zD E (X.tmod Y) = tm at *
    generalize hmm : zD EM (X.fmod Y) = mm at *
    have HZ := hide (And.intro hoke (And.intro hexe (And.intro hfd (And.intro hfm (And.intro htd (And.intro htm hmm))))))
    clear hoke hexe hfd hfm htd htm hmm
    go_enter Try.func4, Try.ntmps4
    go_wp2_with (first | (go_at_call 7; (with_reducible refine (AW.out _).mono ?_); rintro r w1 ⟨rfl, g1⟩; replace GW := GW.trans g1; replace BB := BB.gr g1; clear x0 y0 x1 y1 g1; obtain ⟨⟨x0, y0⟩, x1, y1⟩ := BB.cells) | (go_at_call 8; (with_reducible refine (LG.out _).mono ?_); rintro r w2 ⟨rfl, g2⟩; replace GW := GW.trans g2; replace BB := BB.gr g2; clear x0 y0 x1 y1 g2; obtain ⟨⟨x0, y0⟩, x1, y1⟩ := BB.cells))
    refine Code.wp_mono ?_ (regDb5 _ _ _ _ _ _ _ _ _ _ _ _ _ _ _ _ _ _ _ _ _ _ _ _ _ _ _ _ _ _ _ _ _ _ _ _ _ _ _ _ _ _ _ _ _ _ _ _ _ _ _ _ _ _ _ _ _ _ _ _ _ _ _ _ _ _ _ _ _ _ _ _ _ _ _ _ _ _ _ _ _ _ _ _ _ _ _ _ _ _ _ _ _ _ _ _ _ _ _ _ _ _ _ _ _ _ _ _ _ _ _ _ _ _ _ _ _ _ _ _ _ _ _ _ _ _ _ _ _ _ _ _ _ _ _ _ _ _ _ _ _ _ _ _ _ _ _ _ _ _ _ _ _ _ _ _ _ _ _ _ _ _ _ _ _ _ _ _ _ _ _ _ _ _ _ _ _ _ _ _ _ _ _ _ _ _ _ _ _ _ _ _ _ _ _ _ _ _ _ _ _ _ _ _ _ w.heap.size n1 c1 (w.heap.size + 1) n2 c2 s t ad1 ad2 xs ys E fd fm w2 (CA.out w2 GW) (CB.out w2 GW) (F5.out w2) BB.1 BB.2)
    intro e a' w3 hR
    cases e <;> first | (exact False.elim hR) | skip
    obtain ⟨u21, u22, u23, u24, u25, u26, u27, u28, u29, p5, p6, s5, a5, n5, c5, s6, a6, n6, c6, rfl, H5, H6, U5, U6, J5, J6, gN⟩ := hR
    clear J5 J6 x0 y0 x1 y1
    replace GW := GW.trans gN
    replace BB := BB.gr gN
    clear gN
    obtain ⟨⟨x0, y0⟩, x1, y1⟩ := BB.cells
    go_wp2
    refine Code.wp_mono ?_ (regDb6 _ _ _ _ _ _ _ _ _ _ _ _ _ _ _ _ _ _ _ _ _ _ _ _ _ _ _ _ _ _ _ _ _ _ _ _ _ _ _ _ _ _ _ _ _ _ _ _ _ _ _ _ _ _ _ _ _ _ _ _ _ _ _ _ _ _ _ _ _ _ _ _ _ _ _ _ _ _ _ _ _ _ _ _ _ _ _ _ _ _ _ _ _ _ _ _ _ _ _ _ _ _ _ _ _ _ _ _ _ _ _ _ _ _ _ _ _ _ _ _ _ _ _ _ _ _ _ _ _ _ _ _ _ _ _ _ _ _ _ _ _ _ _ _ _ _ _ _ _ _ _ _ _ _ _ _ _ _ _ _ _ _ _ _ _ _ _ _ _ _ _ _ _ _ _ _ _ _ _ _ _ _ _ _ _ _ _ _ _ _ _ _ _ _ _ _ _ _ _ _ _ _ _ _ _ w.heap.size n1 c1 (w.heap.size + 1) n2 c2 s t ad1 ad2 xs ys E td tm w3 (CA.out w3 GW) (CB.out w3 GW) (F6.out w3) BB.1 BB.2)
    intro e a' w4 hR
    cases e <;> first | (exact False.elim hR) | skip
    obtain ⟨u30, u31, u32, u33, u34, u35, u36, u37, u38, p8, p9, s8, a8, n8, c8, s9, a9, n9, c9, rfl, H8, H9, U8, U9, J8, J9, gN⟩ := hR
    clear J8 J9 x0 y0 x1 y1
    replace GW := GW.trans gN
    replace BB := BB.gr gN
    replace H5 := keepO gN H5
    replace H6 := keepO gN H6
    replace U5 := U5.gr gN
    replace U6 := U6.gr gN
    clear gN
    obtain ⟨⟨x0, y0⟩, x1, y1⟩ := BB.cells
    go_wp2
    refine Code.wp_mono ?_ (regDb7 _ _ _ _ _ _ _ _ _ _ _ _ _ _ _ _ _ _ _ _ _ _ _ _ _ _ _ _ _ _ _ _ _ _ _ _ _ _ _ _ _ _ _ _ _ _ _ _ _ _ _ _ _ _ _ _ _ _ _ _ _ _ _ _ _ _ _ _ _ _ _ _ _ _ _ _ _ _ _ _ _ _ _ _ _ _ _ _ _ _ _ _ _ _ _ _ _ _ _ _ _ _ _ _ _ _ _ _ _ _ _ _ _ _ _ _ _ _ _ _ _ _ _ _ _ _ _ _ _ _ _ _ _ _ _ _ _ _ _ _ _ _ _ _ _ _ _ _ _ _ _ _ _ _ _ _ _ _ _ _ _ _ _ _ _ _ _ _ _ _ _ _ _ _ _ _ _ _ _ _ _ _ _ _ _ _ _ _ _ _ _ _ _ _ _ _ _ _ _ _ _ _ _ _ _ w.heap.size n1 c1 (w.heap.size + 1) n2 c2 s t ad1 ad2 xs ys ok E ex w4 (CA.out w4 GW) (CB.out w4 GW) (F7.out w4) BB.1 BB.2)
    intro e a' w5 hR
    cases e <;> first | (exact False.elim hR) | skip
    obtain ⟨u39, u40, u41, u42, u43, u44, u45, u46, u47, p11, s11, a11, n11, c11, rfl, H11, U11, J11, gN⟩ := hR
    clear J11 x0 y0 x1 y1
    replace GW := GW.trans gN
    replace BB := BB.gr gN
    replace H5 := keepO gN H5
    replace U5 := U5.gr gN
    replace H6 := keepO gN H6
    replace U6 := U6.gr gN
    replace H8 := keepO gN H8
    replace U8 := U8.gr gN
    replace H9 := keepO gN H9
    replace U9 := U9.gr gN
    clear gN
    obtain ⟨⟨x0, y0⟩, x1, y1⟩ := BB.cells
    go_wp2
    refine Code.wp_mono ?_ (regDb8 _ _ _ _ _ _ _ _ _ _ _ _ _ _ _ _ _ _ _ _ _ _ _ _ _ _ _ _ _ _ _ _ _ _ _ _ _ _ _ _ _ _ _ _ _ _ _ _ _ _ _ _ _ _ _ _ _ _ _ _ _ _ _ _ _ _ _ _ _ _ _ _ _ _ _ _ _ _ _ _ _ _ _ _ _ _ _ _ _ _ _ _ _ _ _ _ _ _ _ _ _ _ _ _ _ _ _ _ _ _ _ _ _ _ _ _ _ _ _ _ _ _ _ _ _ _ _ _ _ _ _ _ _ _ _ _ _ _ _ _ _ _ _ _ _ _ _ _ _ _ _ _ _ _ _ _ _ _ _ _ _ _ _ _ _ _ _ _ _ _ _ _ _ _ _ _ _ _ _ _ _ _ _ _ _ _ _ _ _ _ _ _ _ _ _ _ _ _ _ _ _ _ _ _ _ w.heap.size n1 c1 (w.heap.size + 1) n2 c2 s t ad1 ad2 xs ys EM mm w5 (CA.out w5 GW) (CB.out w5 GW) (F8.out w5) BB.1 BB.2)
    intro e a' w6 hR
    cases e <;> first | (exact False.elim hR) | skip
    obtain ⟨u48, u49, u50, u51, u52, u53, u54, u55, p14, s14, a14, n14, c14, rfl, H14, U14, J14, gN⟩ := hR
    clear J14 x0 y0 x1 y1
    replace GW := GW.trans gN
    replace BB := BB.gr gN
    replace H5 := keepO gN H5
    replace U5 := U5.gr gN
    replace H6 := keepO gN H6
    replace U6 := U6.gr gN
    replace H8 := keepO gN H8
    replace U8 := U8.gr gN
    replace H9 := keepO gN H9
    replace U9 := U9.gr gN
    replace H11 := keepO gN H11
    replace U11 := U11.gr gN
    clear gN
    have B8 : Cl8 w6 w.heap.size s ad1 n1 c1 (w.heap.size + 1) t ad2 n2 c2 p5 s5 a5 n5 c5 p6 s6 a6 n6 c6 p8 s8 a8 n8 c8 p9 s9 a9 n9 c9 p11 s11 a11 n11 c11 p14 s14 a14 n14 c14 := ⟨BB.1, BB.2, H5, H6, H8, H9, H11, H14⟩
    have GS := hide (GW)
    clear CA CB F5 F6 F7 F8 AW LG BB H5 H6 H8 H9 H11 H14
    obtain ⟨⟨x0, y0⟩, ⟨x1, y1⟩, ⟨x2, y2⟩, ⟨x3, y3⟩, ⟨x4, y4⟩, ⟨x5, y5⟩, ⟨x6, y6⟩, x7, y7⟩ := B8.cells
    rcases Bool.eq_false_or_eq_true (rightN s xs) with hr1 | hr1
    · rcases Bool.eq_false_or_eq_true (rightN t ys) with hr2 | hr2
      · have RA' := RA.out
        have RB' := RB.out
        rw [hr1] at RA'
        rw [hr2] at RB'
        have RA2 := hide RA'
        have RB2 := hide RB'
        clear RA RB RA' RB'
        have hXw := WA.out hr1
        have hYw := WB.out hr2
        have hE1 := HE.out.1
        have hE2 := HE.out.2
        rw [hr1, hr2] at hE1 hE2
        have ab1 := iv_abs s (nv 18446744073709551616 xs)
        have ab2 := iv_abs t (nv 18446744073709551616 ys)
        rw [HXd.out.1] at ab1
        rw [HXd.out.2] at ab2
        clear WA WB HE hr1 hr2
        by_cases hn2 : n2 = 0
        · -- b is 0
          have e1 : E = 7 := by rw [← hE1, hn2]; rfl
          have ht : t = false := by
            have := hYw.n0.1 hn2
            exact hYw.zero this
          have e2 : EM = 7 := by rw [← hE2, ht, hn2]; rfl
          have e3 : ok = false := by rw [← HZ.out.1, e1]; rfl
          have SY := hide (fun (w1 : World) (g : Gr w w1) => signD t ad2 n2 c2 Y w1 (hYw.gr g))
          rw [hYw.n0.1 hn2, sg_zero] at SY
          clear hE1 hE2 HXd XL hXw hYw hn2 HZ ht ab1 ab2
          subst e1
          subst e2
          subst e3
          go_wp2_with (first | (go_at_call 21; (with_reducible refine (RA2.out _ GW).mono ?_); rintro r w7 ⟨rfl, gN⟩; replace GW := GW.trans gN; replace B8 := B8.gr gN; clear x0 y0 x1 y1 x2 y2 x3 y3 x4 y4 x5 y5 x6 y6 x7 y7 gN; obtain ⟨⟨x0, y0⟩, ⟨x1, y1⟩, ⟨x2, y2⟩, ⟨x3, y3⟩, ⟨x4, y4⟩, ⟨x5, y5⟩, ⟨x6, y6⟩, x7, y7⟩ := B8.cells) | (go_at_call 21; (with_reducible refine (RB2.out _ GW).mono ?_); rintro r w8 ⟨rfl, gN⟩; replace GW := GW.trans gN; replace B8 := B8.gr gN; clear x0 y0 x1 y1 x2 y2 x3 y3 x4 y4 x5 y5 x6 y6 x7 y7 gN; obtain ⟨⟨x0, y0⟩, ⟨x1, y1⟩, ⟨x2, y2⟩, ⟨x3, y3⟩, ⟨x4, y4⟩, ⟨x5, y5⟩, ⟨x6, y6⟩, x7, y7⟩ := B8.cells) | (go_at_call 22; (with_reducible refine (SY.out _ GW).mono ?_); rintro r w9 ⟨rfl, gN⟩; replace GW := GW.trans gN; replace B8 := B8.gr gN; clear x0 y0 x1 y1 x2 y2 x3 y3 x4 y4 x5 y5 x6 y6 x7 y7 gN; obtain ⟨⟨x0, y0⟩, ⟨x1, y1⟩, ⟨x2, y2⟩, ⟨x3, y3⟩, ⟨x4, y4⟩, ⟨x5, y5⟩, ⟨x6, y6⟩, x7, y7⟩ := B8.cells))
          go_ret
          exact ⟨rfl, GW⟩
        · have e1 : E = 0 := by rw [← hE1]; unfold wrD; rw [if_pos ⟨rfl, rfl⟩, if_neg hn2]
          have hY0 : Y ≠ 0 := ivY hYw hn2
          have e2 : Hid (EM = if t then 2 else 0) := by show _ = _; rw [← hE2]; unfold wmD; rw [hE1, e1]
          clear hE1 hE2 hn2
          subst e1
          obtain ⟨z1, z2, z3, z4, z5, z6, z7'⟩ := HZ.out
          have z7 := hide z7'
          clear z7'
          rw [zD_0] at z3 z4 z5 z6
          clear HZ
          obtain ⟨v1, v2, v3, v4⟩ := fdiv_size X Y hY0
          obtain ⟨t1, t2, t3, t4⟩ := tdiv_size X Y hY0
          have hXb : X.natAbs < 18446744073709551616 ^ 200 := by
            rw [ab1]
            exact Nat.lt_of_lt_of_le XL.out.1 (Nat.pow_le_pow_right (by omega) l1)
          have hYb : Y.natAbs < 18446744073709551616 ^ 200 := by
            rw [ab2]
            exact Nat.lt_of_lt_of_le XL.out.2 (Nat.pow_le_pow_right (by omega) l2)
          have hT := top200 hXb hYb
          subst z3
          subst z4
          subst z5
          subst z6
          have BK1 := hide (fun (w1 : World) (g : Gr w6 w1) => backD s5 t s6 s a5 ad2 a6 ad1 n5 n2 n6 n1 c5 c2 c6 c1 (X.fdiv Y) Y (X.fmod Y) X w1 (U5.gr g) (hYw.gr (GS.out.trans g)) (U6.gr g) (hXw.gr (GS.out.trans g)) (by omega) v4)
          have BK2 := hide (fun (w1 : World) (g : Gr w6 w1) => backD s8 t s9 s a8 ad2 a9 ad1 n8 n2 n9 n1 c8 c2 c9 c1 (X.tdiv Y) Y (X.tmod Y) X w1 (U8.gr g) (hYw.gr (GS.out.trans g)) (U9.gr g) (hXw.gr (GS.out.trans g)) (by omega) t4)
          have NR1 := hide (fun (w1 : World) (g : Gr w6 w1) => nearerD s6 t a6 ad2 n6 n2 c6 c2 (X.fmod Y) Y w1 (U6.gr g) (hYw.gr (GS.out.trans g)) v1)
          have NR2 := hide (fun (w1 : World) (g : Gr w6 w1) => nearerD s9 t a9 ad2 n9 n2 c9 c2 (X.tmod Y) Y w1 (U9.gr g) (hYw.gr (GS.out.trans g)) t1)
          have GV := Gr.refl w6
          clear v1 v2 v4 t1 t2 t4 hXb hYb hT ab1 ab2 XL
          have SY : Hid (∀ (w1 : World), Gr w6 w1 → Calls Try.prog 22 #[.agg #[.bool t, .slice ad2 n2 c2]] w1 fun r w' => r = .returned (.int .i64 (sg Y)) ∧ Gr w1 w') := fun w1 g => signD t ad2 n2 c2 Y w1 (hYw.gr (GS.out.trans g))
          have sy0 : (sg Y == 0) = false := by rw [sg_eq, decide_eq_false hY0]
          have SYn := hide sy0
          clear sy0
          obtain ⟨kY, hkY⟩ : ∃ kY, sg Y = kY := ⟨_, rfl⟩
          have SY2 := SY.out
          rw [hkY] at SY2
          have SY3 := hide SY2
          have kY0 : (kY == 0) = false := by rw [← hkY]; exact SYn.out
          clear SY SY2
          go_wp2_with (first | (go_at_call 21; (with_reducible refine (RA2.out _ GW).mono ?_); rintro r w7 ⟨rfl, gN⟩; replace GW := GW.trans gN; replace GV := GV.trans gN; replace B8 := B8.gr gN; clear x0 y0 x1 y1 x2 y2 x3 y3 x4 y4 x5 y5 x6 y6 x7 y7 gN; obtain ⟨⟨x0, y0⟩, ⟨x1, y1⟩, ⟨x2, y2⟩, ⟨x3, y3⟩, ⟨x4, y4⟩, ⟨x5, y5⟩, ⟨x6, y6⟩, x7, y7⟩ := B8.cells) | (go_at_call 21; (with_reducible refine (RB2.out _ GW).mono ?_); rintro r w8 ⟨rfl, gN⟩; replace GW := GW.trans gN; replace GV := GV.trans gN; replace B8 := B8.gr gN; clear x0 y0 x1 y1 x2 y2 x3 y3 x4 y4 x5 y5 x6 y6 x7 y7 gN; obtain ⟨⟨x0, y0⟩, ⟨x1, y1⟩, ⟨x2, y2⟩, ⟨x3, y3⟩, ⟨x4, y4⟩, ⟨x5, y5⟩, ⟨x6, y6⟩, x7, y7⟩ := B8.cells) | (go_at_call 22; (with_reducible refine (SY3.out _ GV).mono ?_); rintro r w9 ⟨rfl, gN⟩; replace GW := GW.trans gN; replace GV := GV.trans gN; replace B8 := B8.gr gN; clear x0 y0 x1 y1 x2 y2 x3 y3 x4 y4 x5 y5 x6 y6 x7 y7 gN; obtain ⟨⟨x0, y0⟩, ⟨x1, y1⟩, ⟨x2, y2⟩, ⟨x3, y3⟩, ⟨x4, y4⟩, ⟨x5, y5⟩, ⟨x6, y6⟩, x7, y7⟩ := B8.cells) | (go_at_call 23; (with_reducible refine (BK1.out _ GV).mono ?_); rintro r w10 ⟨rfl, gN⟩; replace GW := GW.trans gN; replace GV := GV.trans gN; replace B8 := B8.gr gN; clear x0 y0 x1 y1 x2 y2 x3 y3 x4 y4 x5 y5 x6 y6 x7 y7 gN; obtain ⟨⟨x0, y0⟩, ⟨x1, y1⟩, ⟨x2, y2⟩, ⟨x3, y3⟩, ⟨x4, y4⟩, ⟨x5, y5⟩, ⟨x6, y6⟩, x7, y7⟩ := B8.cells) | (go_at_call 23; (with_reducible refine (BK2.out _ GV).mono ?_); rintro r w11 ⟨rfl, gN⟩; replace GW := GW.trans gN; replace GV := GV.trans gN; replace B8 := B8.gr gN; clear x0 y0 x1 y1 x2 y2 x3 y3 x4 y4 x5 y5 x6 y6 x7 y7 gN; obtain ⟨⟨x0, y0⟩, ⟨x1, y1⟩, ⟨x2, y2⟩, ⟨x3, y3⟩, ⟨x4, y4⟩, ⟨x5, y5⟩, ⟨x6, y6⟩, x7, y7⟩ := B8.cells) | (go_at_call 24; (with_reducible refine (NR1.out _ GV).mono ?_); rintro r w12 ⟨rfl, gN⟩; replace GW := GW.trans gN; replace GV := GV.trans gN; replace B8 := B8.gr gN; clear x0 y0 x1 y1 x2 y2 x3 y3 x4 y4 x5 y5 x6 y6 x7 y7 gN; obtain ⟨⟨x0, y0⟩, ⟨x1, y1⟩, ⟨x2, y2⟩, ⟨x3, y3⟩, ⟨x4, y4⟩, ⟨x5, y5⟩, ⟨x6, y6⟩, x7, y7⟩ := B8.cells) | (go_at_call 24; (with_reducible refine (NR2.out _ GV).mono ?_); rintro r w13 ⟨rfl, gN⟩; replace GW := GW.trans gN; replace GV := GV.trans gN; replace B8 := B8.gr gN; clear x0 y0 x1 y1 x2 y2 x3 y3 x4 y4 x5 y5 x6 y6 x7 y7 gN; obtain ⟨⟨x0, y0⟩, ⟨x1, y1⟩, ⟨x2, y2⟩, ⟨x3, y3⟩, ⟨x4, y4⟩, ⟨x5, y5⟩, ⟨x6, y6⟩, x7, y7⟩ := B8.cells))
          have SX : Hid (∀ (w1 : World), Gr w13 w1 → Calls Try.prog 22 #[.agg #[.bool s, .slice ad1 n1 c1]] w1 fun r w' => r = .returned (.int .i64 (sg X)) ∧ Gr w1 w') := fun w1 g => signD s ad1 n1 c1 X w1 (hXw.gr (GW.trans g))
          have SB : Hid (∀ (w1 : World), Gr w13 w1 → Calls Try.prog 22 #[.agg #[.bool t, .slice ad2 n2 c2]] w1 fun r w' => r = .returned (.int .i64 (sg Y)) ∧ Gr w1 w') := fun w1 g => signD t ad2 n2 c2 Y w1 (hYw.gr (GW.trans g))
          have SR : Hid (∀ (w1 : World), Gr w13 w1 → Calls Try.prog 22 #[.agg #[.bool s6, .slice a6 n6 c6]] w1 fun r w' => r = .returned (.int .i64 (sg (X.fmod Y))) ∧ Gr w1 w') := fun w1 g => signD s6 a6 n6 c6 _ w1 (U6.gr (GV.trans g))
          have SS : Hid (∀ (w1 : World), Gr w13 w1 → Calls Try.prog 22 #[.agg #[.bool s9, .slice a9 n9 c9]] w1 fun r w' => r = .returned (.int .i64 (sg (X.tmod Y))) ∧ Gr w1 w') := fun w1 g => signD s9 a9 n9 c9 _ w1 (U9.gr (GV.trans g))
          have hk1 : ok = decide (X.tmod Y = 0) := by rw [← z1]; unfold okD; simp
          have hq1 : (sg (X.fmod Y) == 0) = ok := by
            rw [sg_eq, hk1]
            by_cases h : X.tmod Y = 0
            · rw [decide_eq_true h, decide_eq_true ((fmod_zero_iff hY0).2 h)]
            · rw [decide_eq_false h, decide_eq_false (fun e => h ((fmod_zero_iff hY0).1 e))]
          have hq2 : (sg (X.tmod Y) == 0) = ok := by rw [sg_eq, hk1]
          refine Code.wp_mono ?_ (regDb15 _ _ _ _ _ _ _ _ _ _ _ _ _ _ _ _ _ _ _ _ _ _ _ _ _ _ _ _ _ _ _ _ _ _ _ _ _ _ _ _ _ _ _ _ _ _ _ _ _ _ _ _ _ _ _ _ _ _ _ _ _ _ _ _ _ _ _ _ _ _ _ _ _ _ _ _ _ _ _ _ _ _ _ _ _ _ _ _ _ _ _ _ _ _ _ _ _ _ _ _ _ _ _ _ _ _ _ _ _ _ _ _ _ _ _ _ _ _ _ _ _ _ _ _ _ _ _ _ _ _ _ _ _ _ _ _ _ _ _ _ _ _ _ _ _ _ _ _ _ _ _ _ _ _ _ _ _ _ _ _ _ _ _ _ _ _ _ _ _ _ _ _ _ _ _ _ _ _ _ _ _ _ _ _ _ _ _ _ _ _ _ _ _ _ _ _ _ _ _ _ _ _ w.heap.size n1 c1 (w.heap.size + 1) n2 c2 p6 n6 c6 p9 n9 c9 s t s6 s9 ok ad1 ad2 a6 a9 (sg X) (sg Y) (sg (X.fmod Y)) (sg (X.tmod Y)) _ _ w13 SX SB SR SS rfl rfl (sg_wrap v3) (sg_wrap t3) hq1 hq2 (Gr.refl _) ⟨x0, y0, x1, y1, x3, y3, x5, y5⟩)
          intro e a' w14 hR
          cases e <;> first | (exact False.elim hR) | skip
          obtain ⟨u147, u148, u149, u150, u151, u152, u153, u154, u155, u156, u157, u158, u159, u160, u161, u162, u163, u164, u165, u166, u167, u168, u169, u170, u171, u172, u173, rfl, gN⟩ := hR
          replace GW := GW.trans gN
          replace GV := GV.trans gN
          replace B8 := B8.gr gN
          clear x0 y0 x1 y1 x2 y2 x3 y3 x4 y4 x5 y5 x6 y6 x7 y7 gN SX SB SR SS hq1 hq2 v3 t3 BK1 BK2 NR1 NR2 SY3 SYn RA2 RB2
          obtain ⟨⟨x0, y0⟩, ⟨x1, y1⟩, ⟨x2, y2⟩, ⟨x3, y3⟩, ⟨x4, y4⟩, ⟨x5, y5⟩, ⟨x6, y6⟩, x7, y7⟩ := B8.cells
          have SM : Hid (∀ (w1 : World) (g : Gr w6 w1) (Z : Int), mm = Z → Calls Try.prog 22 #[.agg #[.bool s14, .slice a14 n14 c14]] w1 fun r w' => r = .returned (.int .i64 (sg Z)) ∧ Gr w1 w') := fun w1 g Z h => by rw [← h]; exact signD s14 a14 n14 c14 mm w1 (U14.gr g)
          have EM' : Hid (∀ (w1 : World) (g : Gr w6 w1), mm = X.fmod Y → Calls Try.prog 19 #[.agg #[.bool s14, .slice a14 n14 c14], .agg #[.bool s6, .slice a6 n6 c6]] w1 fun r w' => r = .returned (.bool true) ∧ Gr w1 w') := fun w1 g h => by
            have := sameIntL s14 s6 a14 a6 n14 n6 c14 c6 mm (X.fmod Y) w1 (U14.gr g) (U6.gr g)
            rw [eqI_t h] at this
            exact this
          have EX' : Hid (∀ (w1 : World) (g : Gr w6 w1), ex = X.fdiv Y → Calls Try.prog 19 #[.agg #[.bool s11, .slice a11 n11 c11], .agg #[.bool s5, .slice a5 n5 c5]] w1 fun r w' => r = .returned (.bool true) ∧ Gr w1 w') := fun w1 g h => by
            have := sameIntL s11 s5 a11 a5 n11 n5 c11 c5 ex (X.fdiv Y) w1 (U11.gr g) (U5.gr g)
            rw [eqI_t h] at this
            exact this
          have SE : Hid (∀ (w1 : World) (g : Gr w6 w1), ex = 0 → Calls Try.prog 22 #[.agg #[.bool s11, .slice a11 n11 c11]] w1 fun r w' => r = .returned (.int .i64 0) ∧ Gr w1 w') := fun w1 g h => by
            have := signD s11 a11 n11 c11 ex w1 (U11.gr g)
            rw [h, sg_zero] at this
            exact this
          clear U5 U6 U8 U9 U11 U14
          by_cases hz : X.tmod Y = 0
          · have hok : ok = true := by rw [hk1, decide_eq_true hz]
            have hex : ex = X.fdiv Y := by rw [← z2, fdiv_of_tmod hY0 hz]; unfold exD; rw [if_pos ⟨rfl, hz⟩]
            have EX2 := hide (fun (w1 : World) (g : Gr w6 w1) => EX'.out w1 g hex)
            clear hk1 hz z1 z2 SE EX' hex
            subst hok
            cases t
            · have e2' : EM = 0 := e2.out
              have hm : mm = X.fmod Y := by rw [← z7.out, e2', zD_0]
              have EM2 := hide (fun (w1 : World) (g : Gr w6 w1) => EM'.out w1 g hm)
              clear e2 z7 hm SM EM'
              subst e2'
              go_wp2_with (first | (go_at_call 19; (with_reducible refine (EX2.out _ GV).mono ?_); rintro r w15 ⟨rfl, gN⟩; replace GW := GW.trans gN; replace GV := GV.trans gN; replace B8 := B8.gr gN; clear x0 y0 x1 y1 x2 y2 x3 y3 x4 y4 x5 y5 x6 y6 x7 y7 gN; obtain ⟨⟨x0, y0⟩, ⟨x1, y1⟩, ⟨x2, y2⟩, ⟨x3, y3⟩, ⟨x4, y4⟩, ⟨x5, y5⟩, ⟨x6, y6⟩, x7, y7⟩ := B8.cells) | (go_at_call 19; (with_reducible refine (EM2.out _ GV).mono ?_); rintro r w16 ⟨rfl, gN⟩; replace GW := GW.trans gN; replace GV := GV.trans gN; replace B8 := B8.gr gN; clear x0 y0 x1 y1 x2 y2 x3 y3 x4 y4 x5 y5 x6 y6 x7 y7 gN; obtain ⟨⟨x0, y0⟩, ⟨x1, y1⟩, ⟨x2, y2⟩, ⟨x3, y3⟩, ⟨x4, y4⟩, ⟨x5, y5⟩, ⟨x6, y6⟩, x7, y7⟩ := B8.cells))
              go_ret
              exact ⟨rfl, GW⟩
            · have e2' : EM = 2 := e2.out
              have hm : mm = 0 := by rw [← z7.out, e2']; exact zD_n (by decide) _
              have SM2 := hide (fun (w1 : World) (g : Gr w6 w1) => SM.out w1 g 0 hm)
              rw [sg_zero] at SM2
              clear e2 z7 hm SM EM'
              subst e2'
              go_wp2_with (first | (go_at_call 19; (with_reducible refine (EX2.out _ GV).mono ?_); rintro r w15 ⟨rfl, gN⟩; replace GW := GW.trans gN; replace GV := GV.trans gN; replace B8 := B8.gr gN; clear x0 y0 x1 y1 x2 y2 x3 y3 x4 y4 x5 y5 x6 y6 x7 y7 gN; obtain ⟨⟨x0, y0⟩, ⟨x1, y1⟩, ⟨x2, y2⟩, ⟨x3, y3⟩, ⟨x4, y4⟩, ⟨x5, y5⟩, ⟨x6, y6⟩, x7, y7⟩ := B8.cells) | (go_at_call 22; (with_reducible refine (SM2.out _ GV).mono ?_); rintro r w16 ⟨rfl, gN⟩; replace GW := GW.trans gN; replace GV := GV.trans gN; replace B8 := B8.gr gN; clear x0 y0 x1 y1 x2 y2 x3 y3 x4 y4 x5 y5 x6 y6 x7 y7 gN; obtain ⟨⟨x0, y0⟩, ⟨x1, y1⟩, ⟨x2, y2⟩, ⟨x3, y3⟩, ⟨x4, y4⟩, ⟨x5, y5⟩, ⟨x6, y6⟩, x7, y7⟩ := B8.cells))
              go_ret
              exact ⟨rfl, GW⟩
          · have hok : ok = false := by rw [hk1, decide_eq_false hz]
            have hex : ex = 0 := by rw [← z2]; unfold exD; rw [if_neg (fun h => hz h.2)]
            have SE2 := hide (fun (w1 : World) (g : Gr w6 w1) => SE.out w1 g hex)
            clear hk1 hz z1 z2 SE EX' hex
            subst hok
            cases t
            · have e2' : EM = 0 := e2.out
              have hm : mm = X.fmod Y := by rw [← z7.out, e2', zD_0]
              have EM2 := hide (fun (w1 : World) (g : Gr w6 w1) => EM'.out w1 g hm)
              clear e2 z7 hm SM EM'
              subst e2'
              go_wp2_with (first | (go_at_call 22; (with_reducible refine (SE2.out _ GV).mono ?_); rintro r w15 ⟨rfl, gN⟩; replace GW := GW.trans gN; replace GV := GV.trans gN; replace B8 := B8.gr gN; clear x0 y0 x1 y1 x2 y2 x3 y3 x4 y4 x5 y5 x6 y6 x7 y7 gN; obtain ⟨⟨x0, y0⟩, ⟨x1, y1⟩, ⟨x2, y2⟩, ⟨x3, y3⟩, ⟨x4, y4⟩, ⟨x5, y5⟩, ⟨x6, y6⟩, x7, y7⟩ := B8.cells) | (go_at_call 19; (with_reducible refine (EM2.out _ GV).mono ?_); rintro r w16 ⟨rfl, gN⟩; replace GW := GW.trans gN; replace GV := GV.trans gN; replace B8 := B8.gr gN; clear x0 y0 x1 y1 x2 y2 x3 y3 x4 y4 x5 y5 x6 y6 x7 y7 gN; obtain ⟨⟨x0, y0⟩, ⟨x1, y1⟩, ⟨x2, y2⟩, ⟨x3, y3⟩, ⟨x4, y4⟩, ⟨x5, y5⟩, ⟨x6, y6⟩, x7, y7⟩ := B8.cells))
              go_ret
              exact ⟨rfl, GW⟩
            · have e2' : EM = 2 := e2.out
              have hm : mm = 0 := by rw [← z7.out, e2']; exact zD_n (by decide) _
              have SM2 := hide (fun (w1 : World) (g : Gr w6 w1) => SM.out w1 g 0 hm)
              rw [sg_zero] at SM2
              clear e2 z7 hm SM EM'
              subst e2'
              go_wp2_with (first | (go_at_call 22; (with_reducible refine (SE2.out _ GV).mono ?_); rintro r w15 ⟨rfl, gN⟩; replace GW := GW.trans gN; replace GV := GV.trans gN; replace B8 := B8.gr gN; clear x0 y0 x1 y1 x2 y2 x3 y3 x4 y4 x5 y5 x6 y6 x7 y7 gN; obtain ⟨⟨x0, y0⟩, ⟨x1, y1⟩, ⟨x2, y2⟩, ⟨x3, y3⟩, ⟨x4, y4⟩, ⟨x5, y5⟩, ⟨x6, y6⟩, x7, y7⟩ := B8.cells) | (go_at_call 22; (with_reducible refine (SM2.out _ GV).mono ?_); rintro r w16 ⟨rfl, gN⟩; replace GW := GW.trans gN; replace GV := GV.trans gN; replace B8 := B8.gr gN; clear x0 y0 x1 y1 x2 y2 x3 y3 x4 y4 x5 y5 x6 y6 x7 y7 gN; obtain ⟨⟨x0, y0⟩, ⟨x1, y1⟩, ⟨x2, y2⟩, ⟨x3, y3⟩, ⟨x4, y4⟩, ⟨x5, y5⟩, ⟨x6, y6⟩, x7, y7⟩ := B8.cells))
              go_ret
              exact ⟨rfl, GW⟩
      · have e1 : E = 2 := by rw [← HE.out.1, hr1, hr2]; rfl
        have e2 : EM = 2 := by
          rw [← HE.out.2, hr1, hr2]
          unfold wmD
          split <;> rfl
        have e3 : ok = false := by rw [← HZ.out.1, e1]; rfl
        rw [hr1] at RA
        rw [hr2] at RB
        clear HE HXd XL WA WB HZ hr1 hr2
        subst e1
        subst e2
        subst e3
        go_wp2_with (first | (go_at_call 21; (with_reducible refine (RA.out _ GW).mono ?_); rintro r w7 ⟨rfl, gN⟩; replace GW := GW.trans gN; replace B8 := B8.gr gN; clear x0 y0 x1 y1 x2 y2 x3 y3 x4 y4 x5 y5 x6 y6 x7 y7 gN; obtain ⟨⟨x0, y0⟩, ⟨x1, y1⟩, ⟨x2, y2⟩, ⟨x3, y3⟩, ⟨x4, y4⟩, ⟨x5, y5⟩, ⟨x6, y6⟩, x7, y7⟩ := B8.cells) | (go_at_call 21; (with_reducible refine (RB.out _ GW).mono ?_); rintro r w8 ⟨rfl, gN⟩; replace GW := GW.trans gN; replace B8 := B8.gr gN; clear x0 y0 x1 y1 x2 y2 x3 y3 x4 y4 x5 y5 x6 y6 x7 y7 gN; obtain ⟨⟨x0, y0⟩, ⟨x1, y1⟩, ⟨x2, y2⟩, ⟨x3, y3⟩, ⟨x4, y4⟩, ⟨x5, y5⟩, ⟨x6, y6⟩, x7, y7⟩ := B8.cells))
        go_ret
        exact ⟨rfl, GW⟩
    · have e1 : E = 2 := by rw [← HE.out.1, hr1]; rfl
      have e2 : EM = 2 := by
        rw [← HE.out.2, hr1]
        unfold wmD
        split <;> rfl
      have e3 : ok = false := by rw [← HZ.out.1, e1]; rfl
      rw [hr1] at RA
      clear HE HXd XL WA WB HZ hr1
      subst e1
      subst e2
      subst e3
      go_wp2_with (first | (go_at_call 21; (with_reducible refine (RA.out _ GW).mono ?_); rintro r w7 ⟨rfl, gN⟩; replace GW := GW.trans gN; replace B8 := B8.gr gN; clear x0 y0 x1 y1 x2 y2 x3 y3 x4 y4 x5 y5 x6 y6 x7 y7 gN; obtain ⟨⟨x0, y0⟩, ⟨x1, y1⟩, ⟨x2, y2⟩, ⟨x3, y3⟩, ⟨x4, y4⟩, ⟨x5, y5⟩, ⟨x6, y6⟩, x7, y7⟩ := B8.cells))
      go_ret
      exact ⟨rfl, GW⟩
end Go.Proofs.Ytobceegpcimdgaa
