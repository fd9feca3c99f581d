import Derived.Test.YtobceegpcimdgaaQ20
import Derived.Test.YtobceegpcimdgaaQ19
namespace Go.Proofs.Ytobceegpcimdgaa
open Go.RowKit
set_option linter.unusedVariables false
set_option linter.unusedSimpArgs false

/-! ONE ANSWER FOR RIGHT AND NOT RIGHT -/
def zD (E Z : Int) : Int := if E = 0 then Z else 0
theorem zD_0 (Z : Int) : zD 0 Z = Z := rfl
theorem zD_n {E : Int} (h : ¬ E = 0) (Z : Int) : zD E Z = 0 := by unfold zD; rw [if_neg h]
theorem wrD_0 {a b : Bool} {n : Nat} (h : wrD a b n = 0) : a = true ∧ b = true ∧ n ≠ 0 := by
  unfold wrD at h
  by_cases h1 : a = true ∧ b = true
  · rw [if_pos h1] at h
    by_cases h2 : n = 0
    · rw [if_pos h2] at h; cases h
    · exact ⟨h1.1, h1.2, h2⟩
  · rw [if_neg h1] at h; cases h
theorem rightN_of {s : Bool} {xs : List Nat} (h : rightN s xs = true) : RightN s xs := of_decide_eq_true h
theorem whR {w : World} {s : Bool} {ad : Option Addr} {n c : Nat} {xs : List Nat} (rx : Row w ad n c xs) (hx : ∀ x ∈ xs, x < 18446744073709551616) (h : rightN s xs = true) : Wh w s ad n c (iv s (nv 18446744073709551616 xs)) := Wh.of rx hx (rightN_of h)
theorem ivY {w : World} {s : Bool} {ad : Option Addr} {n c : Nat} {X : Int} (h : Wh w s ad n c X) (hn : n ≠ 0) : X ≠ 0 := fun e => hn (h.n0.2 e)
def An2 (w' : World) (r : Ending) (E ZA ZB : Int) (B : Nat) : Prop := ∃ a b c d a' b' c' d', r = .returned (.tuple #[.agg #[.bool a, .slice b c d], .agg #[.bool a', .slice b' c' d'], .int .i64 E]) ∧ Wh w' a b c d ZA ∧ Wh w' a' b' c' d' ZB ∧ Fresh B w' b c d ∧ Fresh B w' b' c' d' ∧ LieA b b'
theorem lie_none (b : Option Addr) : LieA none b := fun x y h => by cases h
theorem floorA (s t : Bool) (ad1 ad2 : Option Addr) (n1 n2 c1 c2 : Nat) (xs ys : List Nat) (w : World) (rx : Row w ad1 n1 c1 xs) (ry : Row w ad2 n2 c2 ys) (hx : ∀ x ∈ xs, x < 18446744073709551616) (hy : ∀ x ∈ ys, x < 18446744073709551616) (E : Int) (hE : wrD (rightN s xs) (rightN t ys) n2 = E) :
    Calls Try.prog 10 #[.agg #[.bool s, .slice ad1 n1 c1], .agg #[.bool t, .slice ad2 n2 c2]] w fun r w' => An2 w' r E (zD E ((iv s (nv 18446744073709551616 xs)).fdiv (iv t (nv 18446744073709551616 ys)))) (zD E ((iv s (nv 18446744073709551616 xs)).fmod (iv t (nv 18446744073709551616 ys)))) w.heap.size ∧ Gr w w' := by
  by_cases h0 : E = 0
  · subst h0
    obtain ⟨r1, r2, hn⟩ := wrD_0 hE
    have h2 := whR ry hy r2
    refine (floorT s t ad1 ad2 n1 n2 c1 c2 _ _ w (whR rx hx r1) h2 (ivY h2 hn)).mono ?_
    rintro r w' ⟨a, b, c, d, a', b', c', d', rfl, k1, k2, k3, k4, k5, k6⟩
    exact ⟨⟨a, b, c, d, a', b', c', d', rfl, k1, k2, k3, k4, k5⟩, k6⟩
  · refine (floorE s t ad1 ad2 n1 n2 c1 c2 xs ys E w rx ry hE h0).mono ?_
    rintro r w' ⟨rfl, g⟩
    rw [zD_n h0, zD_n h0]
    exact ⟨⟨_, _, _, _, _, _, _, _, rfl, Wh.nil _, Wh.nil _, Fresh.nil _ _, Fresh.nil _ _, lie_none _⟩, g⟩
theorem truncA (s t : Bool) (ad1 ad2 : Option Addr) (n1 n2 c1 c2 : Nat) (xs ys : List Nat) (w : World) (rx : Row w ad1 n1 c1 xs) (ry : Row w ad2 n2 c2 ys) (hx : ∀ x ∈ xs, x < 18446744073709551616) (hy : ∀ x ∈ ys, x < 18446744073709551616) (E : Int) (hE : wrD (rightN s xs) (rightN t ys) n2 = E) :
    Calls Try.prog 11 #[.agg #[.bool s, .slice ad1 n1 c1], .agg #[.bool t, .slice ad2 n2 c2]] w fun r w' => An2 w' r E (zD E ((iv s (nv 18446744073709551616 xs)).tdiv (iv t (nv 18446744073709551616 ys)))) (zD E ((iv s (nv 18446744073709551616 xs)).tmod (iv t (nv 18446744073709551616 ys)))) w.heap.size ∧ Gr w w' := by
  by_cases h0 : E = 0
  · subst h0
    obtain ⟨r1, r2, hn⟩ := wrD_0 hE
    have h2 := whR ry hy r2
    refine (truncT s t ad1 ad2 n1 n2 c1 c2 _ _ w (whR rx hx r1) h2 (ivY h2 hn)).mono ?_
    rintro r w' ⟨a, b, c, d, a', b', c', d', rfl, k1, k2, k3, k4, k5, k6⟩
    exact ⟨⟨a, b, c, d, a', b', c', d', rfl, k1, k2, k3, k4, k5⟩, k6⟩
  · refine (truncE s t ad1 ad2 n1 n2 c1 c2 xs ys E w rx ry hE h0).mono ?_
    rintro r w' ⟨rfl, g⟩
    rw [zD_n h0, zD_n h0]
    exact ⟨⟨_, _, _, _, _, _, _, _, rfl, Wh.nil _, Wh.nil _, Fresh.nil _ _, Fresh.nil _ _, lie_none _⟩, g⟩
def okD (E X Y : Int) : Bool := decide (E = 0 ∧ X.tmod Y = 0)
def exD (E X Y : Int) : Int := if E = 0 ∧ X.tmod Y = 0 then X.tdiv Y else 0
def An3 (w' : World) (r : Ending) (ok : Bool) (E Z : Int) (B : Nat) : Prop := ∃ a b c d, r = .returned (.tuple #[.agg #[.bool a, .slice b c d], .bool ok, .int .i64 E]) ∧ Wh w' a b c d Z ∧ Fresh B w' b c d
def An1 (w' : World) (r : Ending) (E Z : Int) (B : Nat) : Prop := ∃ a b c d, r = .returned (.tuple #[.agg #[.bool a, .slice b c d], .int .i64 E]) ∧ Wh w' a b c d Z ∧ Fresh B w' b c d
theorem exactA (s t : Bool) (ad1 ad2 : Option Addr) (n1 n2 c1 c2 : Nat) (xs ys : List Nat) (w : World) (rx : Row w ad1 n1 c1 xs) (ry : Row w ad2 n2 c2 ys) (hx : ∀ x ∈ xs, x < 18446744073709551616) (hy : ∀ x ∈ ys, x < 18446744073709551616) (E : Int) (hE : wrD (rightN s xs) (rightN t ys) n2 = E) :
    Calls Try.prog 12 #[.agg #[.bool s, .slice ad1 n1 c1], .agg #[.bool t, .slice ad2 n2 c2]] w fun r w' => An3 w' r (okD E (iv s (nv 18446744073709551616 xs)) (iv t (nv 18446744073709551616 ys))) E (exD E (iv s (nv 18446744073709551616 xs)) (iv t (nv 18446744073709551616 ys))) w.heap.size ∧ Gr w w' := by
  unfold okD exD
  by_cases h0 : E = 0
  · subst h0
    obtain ⟨r1, r2, hn⟩ := wrD_0 hE
    have h2 := whR ry hy r2
    refine (exactT s t ad1 ad2 n1 n2 c1 c2 _ _ w (whR rx hx r1) h2 (ivY h2 hn)).mono ?_
    rintro r w' ⟨a, b, c, d, rfl, k1, k2, k3⟩
    simp only [true_and]
    exact ⟨⟨a, b, c, d, rfl, k1, k2⟩, k3⟩
  · refine (exactE s t ad1 ad2 n1 n2 c1 c2 xs ys E w rx ry hE h0).mono ?_
    rintro r w' ⟨rfl, g⟩
    rw [decide_eq_false (fun h => h0 h.1), if_neg (fun h => h0 h.1)]
    exact ⟨⟨_, _, _, _, rfl, Wh.nil _, Fresh.nil _ _⟩, g⟩
/-- Mod's error -/
def wmD (t a b : Bool) (n : Nat) : Int := if t then 2 else wrD a b n
theorem modA (s t : Bool) (ad1 ad2 : Option Addr) (n1 n2 c1 c2 : Nat) (xs ys : List Nat) (w : World) (rx : Row w ad1 n1 c1 xs) (ry : Row w ad2 n2 c2 ys) (hx : ∀ x ∈ xs, x < 18446744073709551616) (hy : ∀ x ∈ ys, x < 18446744073709551616) (E : Int) (hE : wmD t (rightN s xs) (rightN t ys) n2 = E) :
    Calls Try.prog 13 #[.agg #[.bool s, .slice ad1 n1 c1], .agg #[.bool t, .slice ad2 n2 c2]] w fun r w' => An1 w' r E (zD E ((iv s (nv 18446744073709551616 xs)).fmod (iv t (nv 18446744073709551616 ys)))) w.heap.size ∧ Gr w w' := by
  unfold wmD at hE
  cases t
  · rw [if_neg (by simp)] at hE
    by_cases h0 : E = 0
    · subst h0
      obtain ⟨r1, r2, hn⟩ := wrD_0 hE
      have h2 := whR ry hy r2
      refine (modT s ad1 ad2 n1 n2 c1 c2 _ _ w (whR rx hx r1) h2 (ivY h2 hn)).mono ?_
      rintro r w' ⟨a, b, c, d, rfl, k1, k2, k3⟩
      exact ⟨⟨a, b, c, d, rfl, k1, k2⟩, k3⟩
    · refine (modE s ad1 ad2 n1 n2 c1 c2 xs ys E w rx ry hE h0).mono ?_
      rintro r w' ⟨rfl, g⟩
      rw [zD_n h0]
      exact ⟨⟨_, _, _, _, rfl, Wh.nil _, Fresh.nil _ _⟩, g⟩
  · rw [if_pos rfl] at hE
    subst hE
    refine (modN s ad1 ad2 n1 n2 c1 c2 w).mono ?_
    rintro r w' ⟨rfl, g⟩
    rw [zD_n (by decide)]
    exact ⟨⟨_, _, _, _, rfl, Wh.nil _, Fresh.nil _ _⟩, g⟩
end Go.Proofs.Ytobceegpcimdgaa
namespace Go.Proofs.Ytobceegpcimdgaa
open Go.RowKit
set_option linter.unusedVariables false
set_option linter.unusedSimpArgs false

theorem lim_lenK {w : World} {ad : Option Addr} {n cap x : Nat} (h : Lim w ad n cap 18446744073709551616 x) (hx : x < TopN) : n ≤ 4096 := by
  obtain ⟨xs, rx, dx⟩ := h
  have := (topN_len dx).2 hx
  rw [rx.len] at this
  exact this
theorem lim_n0 {w : World} {ad : Option Addr} {n cap x : Nat} (h : Lim w ad n cap 18446744073709551616 x) : n = 0 ↔ x = 0 := by
  obtain ⟨xs, rx, dx⟩ := h
  have := dx.zero_iff (by omega)
  rw [rx.len] at this
  omega
theorem bl_topN {w : World} {ad : Option Addr} {n cap x : Nat} (h : Lim w ad n cap 18446744073709551616 x) (hn : n ≤ 4096) : bl x ≤ 68719476736 := by
  obtain ⟨xs, rx, dx⟩ := h
  have := bl_len dx
  rw [rx.len] at this
  omega
set_option maxHeartbeats 1600000 in
theorem madeK (s : Bool) (ad : Option Addr) (n cap x : Nat) (w : World) (h : Lim w ad n cap 18446744073709551616 x) (hx : x < TopN) :
    Calls Try.prog 40 #[.bool s, .slice ad n cap] w fun r w' => ∃ a b c d, r = .returned (.agg #[.bool a, .slice b c d]) ∧ Hid (Wh w' a b c d (iv s x)) ∧ Hid (Fresh w.heap.size w' b c d) ∧ Gr w w' := by
  have N : Hid (∀ w1, Gr w w1 → Calls Try.prog 64 #[.slice ad n cap] w1 fun e w' => ∃ ad' n' cap', e = .returned (.slice ad' n' cap') ∧ Hid (Lim w' ad' n' cap' 18446744073709551616 x) ∧ Hid (Fresh w1.heap.size w' ad' n' cap') ∧ Gr w1 w') := fun w1 g => by
    have hn := lim_lenK h hx
    obtain ⟨xs, rx, dx⟩ := h
    have T := natTrimK ad n cap xs w1 (rx.gr g) (by omega) dx.2.1
    rw [dx.1] at T
    exact T.mono fun e w' ⟨a, b, c, h1, _, h2, h3, h4⟩ => ⟨a, b, c, h1, h2, h3, h4⟩
  have GA : Gr w (w.alloc (.cells #[.bool false, .slice none 0 0] 24)) := (Gr.refl w).alloc _
  have B0 := blk1 w (.cells #[.bool false, .slice none 0 0] 24)
  have FIN : Hid (∀ w1 ad n cap (b : Bool), (b = true ↔ iv s x < 0) → Lim w1 ad n cap 18446744073709551616 x → Fresh (w.alloc (.cells #[.bool false, .slice none 0 0] 24)).heap.size w1 ad n cap → Gr (w.alloc (.cells #[.bool false, .slice none 0 0] 24)) w1 → Wh ((w1.setCell ⟨w.heap.size, 0, none⟩ (.bool b)).setCell ⟨w.heap.size, 1, none⟩ (.slice ad n cap)) b ad n cap (iv s x) ∧ Fresh w.heap.size ((w1.setCell ⟨w.heap.size, 0, none⟩ (.bool b)).setCell ⟨w.heap.size, 1, none⟩ (.slice ad n cap)) ad n cap ∧ Gr w ((w1.setCell ⟨w.heap.size, 0, none⟩ (.bool b)).setCell ⟨w.heap.size, 1, none⟩ (.slice ad n cap)) ∧ ((w1.setCell ⟨w.heap.size, 0, none⟩ (.bool b)).setCell ⟨w.heap.size, 1, none⟩ (.slice ad n cap)).heap[w.heap.size]? = some (.cells #[.bool b, .slice ad n cap] 24)) := fun w1 ad n cap b hb hl hf g => by
    have B1 := keepO g B0
    exact ⟨wh_set2W (wh_lim ((iv_abs s x).symm ▸ hl) (lim_lenK hl hx) hb) hf B1 _ _ (by decide), fresh_set2 (hf.low GA.size) B1 _ _ (by decide), ((GA.trans g).setCell (p := ⟨w.heap.size, 0, none⟩) (Nat.le_refl _) _).setCell (p := ⟨w.heap.size, 1, none⟩) (Nat.le_refl _) _, put2_block B1 _ _⟩
  clear h hx
  cases s
  · have FB := hide (fun w1 ad n cap => FIN.out w1 ad n cap false (by rw [iv_f]; simp))
    clear FIN
    go_enter Try.func40, Try.ntmps40
    go_wp2_with (go_at_call 64; (with_reducible refine (N.out _ GA).mono ?_); rintro e w1 ⟨a, n1, c, rfl, hl, hf, g1⟩; obtain ⟨k0, k1, k2, k3⟩ := outAny (keepO g1 B0))
    obtain ⟨V1, V2, V3, V4⟩ := FB.out w1 a n1 c hl.out hf.out g1
    obtain ⟨z0, z1⟩ := bx2 V4
    refine bodyPost_ret (v := .agg #[.bool false, .slice a n1 c]) ?_ rfl ⟨false, a, n1, c, rfl, V1, V2, V3⟩
    simp [results, Try.results40, go_sem, z0, z1]
  · go_enter Try.func40, Try.ntmps40
    go_wp2_with (go_at_call 64; (with_reducible refine (N.out _ GA).mono ?_); rintro e w1 ⟨a, n1, c, rfl, hl, hf, g1⟩; obtain ⟨k0, k1, k2, k3⟩ := outAny (keepO g1 B0))
    obtain ⟨V1, V2, V3, V4⟩ := FIN.out w1 a n1 c (decide (0 < n1)) (by
      have h0 := lim_n0 hl.out
      rw [iv_t, decide_eq_true_iff]
      omega) hl.out hf.out g1
    obtain ⟨z0, z1⟩ := bx2 V4
    refine bodyPost_ret (v := .agg #[.bool (decide (0 < n1)), .slice a n1 c]) ?_ rfl ⟨_, a, n1, c, rfl, V1, V2, V3⟩
    simp [results, Try.results40, go_sem, z0, z1]
theorem intZeroK (s : Bool) (ad : Option Addr) (n cap : Nat) (X : Int) (w : World) (h : Wh w s ad n cap X) :
    Calls Try.prog 41 #[.agg #[.bool s, .slice ad n cap]] w fun r w' => r = .returned (.bool (decide (X = 0))) ∧ Gr w w' := by
  have B := bl_topN h.lim h.le
  have hl := h.lim
  clear h
  have GA : Gr w (w.alloc (.cells #[.bool s, .slice ad n cap] 24)) := (Gr.refl w).alloc _
  by_cases hX : X = 0
  · subst hX
    rw [decide_eq_true rfl]
    have N := hide (bits73z ad n cap _ (hl.gr GA))
    clear hl B
    go_enter Try.func41, Try.ntmps41
    go_wp2_with (go_at_call 59; (with_reducible refine N.out.mono ?_); rintro e w1 ⟨rfl, g1⟩)
    go_ret
    exact ⟨rfl, GA.trans g1⟩
  · rw [decide_eq_false hX]
    have N := hide (bits73p ad n cap _ _ (hl.gr GA) B (by omega))
    have hp := bl_posW (show 0 < X.natAbs by omega)
    clear hl B hX
    generalize bl X.natAbs = m at *
    have e1 : ((m : Int) == 0) = false := by simp; omega
    go_enter Try.func41, Try.ntmps41
    go_wp2_with (go_at_call 59; (with_reducible refine N.out.mono ?_); rintro e w1 ⟨rfl, g1⟩)
    go_ret
    exact ⟨rfl, GA.trans g1⟩
set_option maxHeartbeats 1600000 in
theorem intRightK (s : Bool) (ad : Option Addr) (n cap : Nat) (xs : List Nat) (w : World) (rx : Row w ad n cap xs) :
    Calls Try.prog 58 #[.agg #[.bool s, .slice ad n cap]] w fun r w' => r = .returned (.bool (rightN s xs)) ∧ Gr w w' := by
  have hl := rx.le
  have hm := rx.max
  have hlen := rx.len
  by_cases hn : n = 0
  · clear rx
    subst hn
    cases s
    · rw [rightN_t (Or.inl ⟨hlen, rfl⟩)]
      go_enter Try.func58, Try.ntmps58
      go_wp2
      go_ret
      exact ⟨rfl, (Gr.refl w).alloc _⟩
    · rw [rightN_f (by rintro (⟨_, h⟩ | ⟨h, _⟩); exact absurd h (by simp); omega)]
      go_enter Try.func58, Try.ntmps58
      go_wp2
      go_ret
      exact ⟨rfl, (Gr.refl w).alloc _⟩
  · obtain ⟨p, o, rfl, hp, hc⟩ := rx.cells (by omega)
    have hcl := keepG ((Gr.refl w).alloc (.cells #[.bool s, .slice (some ⟨p, o, none⟩) n cap] 24)) (hc (n - 1) (by omega))
    have H : Hid (RightN s xs ↔ (n ≤ 4096 ∧ xs.getD (n - 1) 0 ≠ 0)) := by
      show _ ↔ _
      unfold RightN
      rw [hlen]
      omega
    clear rx hc hlen
    generalize xs.getD (n - 1) 0 = vl at *
    have hz : ((n : Int) == 0) = false := by simp; omega
    by_cases h1 : n ≤ 4096
    · have h1' : (n : Int) ≤ 4096 := by omega
      by_cases h2 : vl = 0
      · subst h2
        rw [rightN_f (by rw [H.out]; omega)]
        go_enter Try.func58, Try.ntmps58
        go_wp2
        go_ret
        exact ⟨rfl, (Gr.refl w).alloc _⟩
      · have h2' : ((vl : Int) != 0) = true := by simp; omega
        rw [rightN_t (by rw [H.out]; omega)]
        go_enter Try.func58, Try.ntmps58
        go_wp2
        go_ret
        exact ⟨rfl, (Gr.refl w).alloc _⟩
    · have h1' : ¬ (n : Int) ≤ 4096 := by omega
      rw [rightN_f (by rw [H.out]; omega)]
      go_enter Try.func58, Try.ntmps58
      go_wp2
      go_ret
      exact ⟨rfl, (Gr.refl w).alloc _⟩

theorem wrongK (s t : Bool) (ad1 ad2 : Option Addr) (n1 n2 c1 c2 : Nat) (xs ys : List Nat) (w : World) (rx : Row w ad1 n1 c1 xs) (ry : Row w ad2 n2 c2 ys) (hy : ∀ x ∈ ys, x < 18446744073709551616) (E : Int) (hE : wrD (rightN s xs) (rightN t ys) n2 = E) :
    Calls Try.prog 37 #[.agg #[.bool s, .slice ad1 n1 c1], .agg #[.bool t, .slice ad2 n2 c2]] w fun r w' => r = .returned (.int .i64 E) ∧ Gr w w' := by
  have GA : Gr w ((w.alloc (.cells #[.bool s, .slice ad1 n1 c1] 24)).alloc (.cells #[.bool t, .slice ad2 n2 c2] 24)) := ((Gr.refl w).alloc _).alloc _
  obtain ⟨q1, q2⟩ := blk2 w (.cells #[.bool s, .slice ad1 n1 c1] 24) (.cells #[.bool t, .slice ad2 n2 c2] 24)
  have R1 : Hid (∀ w1, Gr w w1 → Calls Try.prog 58 #[.agg #[.bool s, .slice ad1 n1 c1]] w1 fun r w' => r = .returned (.bool (rightN s xs)) ∧ Gr w1 w') := fun w1 g => intRightK s ad1 n1 c1 xs w1 (rx.gr g)
  have R2 : Hid (∀ w1, Gr w w1 → Calls Try.prog 58 #[.agg #[.bool t, .slice ad2 n2 c2]] w1 fun r w' => r = .returned (.bool (rightN t ys)) ∧ Gr w1 w') := fun w1 g => intRightK t ad2 n2 c2 ys w1 (ry.gr g)
  have R3 : Hid (rightN t ys = true → ∀ w1, Gr w w1 → Calls Try.prog 41 #[.agg #[.bool t, .slice ad2 n2 c2]] w1 fun r w' => r = .returned (.bool (decide (n2 = 0))) ∧ Gr w1 w') := fun h w1 g => by
    have H := whR ry hy h
    rw [decide_eq_decide.2 H.n0]
    exact intZeroK _ _ _ _ _ _ (H.gr g)
  have HE := hide hE
  clear rx ry hy hE
  have tok : True := trivial
  generalize rightN s xs = ka at *
  generalize rightN t ys = kb at *
  obtain ⟨k0, k1, k2, k3⟩ := outAny q1
  obtain ⟨k4, k5, k6, k7⟩ := outAny q2
  have Q1 := hide q1
  have Q2 := hide q2
  clear q1 q2
  cases ka
  · have e : E = 2 := HE.out.symm.trans (by simp [wrD])
    clear R2 R3 HE
    subst e
    go_enter Try.func37, Try.ntmps37
    go_wp2_with (go_at_call 58; (with_reducible refine (R1.out _ GA).mono ?_); rintro e w1 ⟨rfl, g1⟩)
    go_ret
    exact ⟨rfl, GA.trans g1⟩
  cases kb
  · have e : E = 2 := HE.out.symm.trans (by simp [wrD])
    clear R3 HE
    subst e
    go_enter Try.func37, Try.ntmps37
    go_wp2_with (first | (go_at_call 58; have _t := tok; (with_reducible refine (R1.out _ GA).mono ?_); rintro e w1 ⟨rfl, g1⟩; clear tok; clear k0 k1 k2 k3 k4 k5 k6 k7; obtain ⟨k4, k5, k6, k7⟩ := outAny (keepO g1 Q2.out)) | (go_at_call 58; (with_reducible refine (R2.out _ (GA.trans g1)).mono ?_); rintro e w2 ⟨rfl, g2⟩))
    go_ret
    exact ⟨rfl, (GA.trans g1).trans g2⟩
  replace R3 := hide (R3.out rfl)
  by_cases hn : n2 = 0
  · have e : E = 7 := HE.out.symm.trans (by simp [wrD, hn])
    clear HE
    subst e
    rw [decide_eq_true hn] at R3
    clear hn
    go_enter Try.func37, Try.ntmps37
    go_wp2_with (first | (go_at_call 58; have _t := tok; (with_reducible refine (R1.out _ GA).mono ?_); rintro e w1 ⟨rfl, g1⟩; clear tok; clear k0 k1 k2 k3 k4 k5 k6 k7; obtain ⟨k4, k5, k6, k7⟩ := outAny (keepO g1 Q2.out)) | (go_at_call 58; (with_reducible refine (R2.out _ (GA.trans g1)).mono ?_); rintro e w2 ⟨rfl, g2⟩; clear k4 k5 k6 k7; obtain ⟨k4, k5, k6, k7⟩ := outAny (keepO (g1.trans g2) Q2.out)) | (go_at_call 41; (with_reducible refine (R3.out _ ((GA.trans g1).trans g2)).mono ?_); rintro e w3 ⟨rfl, g3⟩))
    go_ret
    exact ⟨rfl, ((GA.trans g1).trans g2).trans g3⟩
  · have e : E = 0 := HE.out.symm.trans (by simp [wrD, hn])
    clear HE
    subst e
    rw [decide_eq_false hn] at R3
    clear hn
    go_enter Try.func37, Try.ntmps37
    go_wp2_with (first | (go_at_call 58; have _t := tok; (with_reducible refine (R1.out _ GA).mono ?_); rintro e w1 ⟨rfl, g1⟩; clear tok; clear k0 k1 k2 k3 k4 k5 k6 k7; obtain ⟨k4, k5, k6, k7⟩ := outAny (keepO g1 Q2.out)) | (go_at_call 58; (with_reducible refine (R2.out _ (GA.trans g1)).mono ?_); rintro e w2 ⟨rfl, g2⟩; clear k4 k5 k6 k7; obtain ⟨k4, k5, k6, k7⟩ := outAny (keepO (g1.trans g2) Q2.out)) | (go_at_call 41; (with_reducible refine (R3.out _ ((GA.trans g1).trans g2)).mono ?_); rintro e w3 ⟨rfl, g3⟩))
    go_ret
    exact ⟨rfl, ((GA.trans g1).trans g2).trans g3⟩
end Go.Proofs.Ytobceegpcimdgaa
