import Derived.Test.YtnjndegdhhmbaaaGreatP03
namespace Go.Proofs.YtnjndegdhhmbaaaGreat
open Go.RowKit
set_option linter.unusedVariables false

/-! WHOLE NUMBERS: what is right, what is told -/
def K4 : Nat := 4096
theorem K4_eq : K4 = 4096 := rfl
@[irreducible] def TopN : Nat := 18446744073709551616 ^ K4
theorem topN_eq : TopN = 18446744073709551616 ^ K4 := by unfold TopN; rfl
theorem topN_len {x : Nat} {xs : List Nat} (h : Dg 18446744073709551616 x xs) : xs.length ≤ 4096 ↔ x < TopN := by
  rw [topN_eq, ← K4_eq]
  generalize K4 = k
  constructor
  · intro hl
    exact Nat.lt_of_lt_of_le h.upper (Nat.pow_le_pow_right (by omega) hl)
  · intro hx
    refine Nat.le_of_not_lt fun hlt => ?_
    have h1 := h.lower (k := xs.length - 1) (by omega)
    have h2 : 18446744073709551616 ^ k ≤ 18446744073709551616 ^ (xs.length - 1) := Nat.pow_le_pow_right (by omega) (by omega)
    exact absurd (Nat.lt_of_lt_of_le hx h2) (Nat.not_lt.2 h1)
theorem topN_pow {k : Nat} (h : k ≤ 262144) : 2 ^ k ≤ TopN := by
  have e := K4_eq
  rw [topN_eq, pow64]
  exact Nat.pow_le_pow_right (by omega) (by omega)
theorem topN_bl {x : Nat} : bl x ≤ 262144 ↔ x < TopN := by
  have e := K4_eq
  rw [topN_eq, pow64, show (262144 : Nat) = 64 * K4 by omega]
  generalize 64 * K4 = k
  constructor
  · intro h; exact Nat.lt_of_lt_of_le (bl_lt x) (Nat.pow_le_pow_right (by omega) h)
  · intro h; exact bl_le_of_lt h
theorem topN_pos : 0 < TopN := Nat.lt_of_lt_of_le (Nat.two_pow_pos 0) (topN_pow (k := 0) (by omega))
/-- a right whole number: its sign, its limbs -/
def RightN (s : Bool) (xs : List Nat) : Prop := (xs.length = 0 ∧ s = false) ∨ (0 < xs.length ∧ xs.length ≤ 4096 ∧ xs.getD (xs.length - 1) 0 ≠ 0)
instance (s : Bool) (xs : List Nat) : Decidable (RightN s xs) := by unfold RightN; infer_instance
def rightN (s : Bool) (xs : List Nat) : Bool := decide (RightN s xs)
theorem rightN_t {s : Bool} {xs : List Nat} (h : RightN s xs) : rightN s xs = true := by simp [rightN, h]
theorem rightN_f {s : Bool} {xs : List Nat} (h : ¬ RightN s xs) : rightN s xs = false := by simp [rightN, h]
/-- a right whole number in memory, of that worth -/
structure Wh (w : World) (s : Bool) (ad : Option Addr) (n cap : Nat) (X : Int) : Prop where
  lim : Lim w ad n cap 18446744073709551616 X.natAbs
  le : n ≤ 4096
  zero : X = 0 → s = false
  val : X = iv s X.natAbs
theorem Wh.gr {w w' : World} {s : Bool} {ad : Option Addr} {n cap : Nat} {X : Int} (h : Wh w s ad n cap X) (g : Gr w w') : Wh w' s ad n cap X := ⟨h.lim.gr g, h.le, h.zero, h.val⟩
theorem Wh.lt {w : World} {s : Bool} {ad : Option Addr} {n cap : Nat} {X : Int} (h : Wh w s ad n cap X) : X.natAbs < TopN := by
  obtain ⟨xs, rx, dx⟩ := h.lim
  exact (topN_len dx).1 (by rw [rx.len]; exact h.le)
theorem Wh.n0 {w : World} {s : Bool} {ad : Option Addr} {n cap : Nat} {X : Int} (h : Wh w s ad n cap X) : n = 0 ↔ X = 0 := by
  obtain ⟨xs, rx, dx⟩ := h.lim
  have := dx.zero_iff (by omega)
  rw [rx.len] at this
  omega
theorem Wh.neg_iff {w : World} {s : Bool} {ad : Option Addr} {n cap : Nat} {X : Int} (h : Wh w s ad n cap X) : s = true ↔ X < 0 := by
  have h1 := h.val
  have h2 := h.zero
  cases s
  · rw [iv_f] at h1
    constructor
    · intro h; cases h
    · intro h; omega
  · rw [iv_t] at h1
    constructor
    · intro _
      have : X ≠ 0 := fun e => by have := h2 e; cases this
      omega
    · intro _; rfl
theorem Wh.right {w : World} {s : Bool} {ad : Option Addr} {n cap : Nat} {X : Int} (h : Wh w s ad n cap X) : ∃ xs, Row w ad n cap xs ∧ Dg 18446744073709551616 X.natAbs xs ∧ RightN s xs := by
  obtain ⟨xs, rx, dx⟩ := h.lim
  refine ⟨xs, rx, dx, ?_⟩
  have hl := rx.len
  have h4 := h.le
  by_cases h0 : xs.length = 0
  · have := (dx.zero_iff (by omega)).1 h0
    exact Or.inl ⟨h0, h.zero (by omega)⟩
  · exact Or.inr ⟨by omega, by omega, dx.2.2 (xs.length - 1) (by omega)⟩
theorem Wh.of {w : World} {s : Bool} {ad : Option Addr} {n cap : Nat} {xs : List Nat} (rx : Row w ad n cap xs) (hx : ∀ x ∈ xs, x < 18446744073709551616) (hR : RightN s xs) : Wh w s ad n cap (iv s (nv 18446744073709551616 xs)) := by
  have hl := rx.len
  have dx : Dg 18446744073709551616 (nv 18446744073709551616 xs) xs := by
    refine ⟨rfl, hx, fun k hk => ?_⟩
    rcases hR with ⟨h0, _⟩ | ⟨_, _, h3⟩
    · omega
    · rw [show k = xs.length - 1 by omega]; exact h3
  have ha := iv_abs s (nv 18446744073709551616 xs)
  refine ⟨⟨xs, rx, by rw [ha]; exact dx⟩, ?_, fun h => ?_, by rw [ha]⟩
  · rcases hR with ⟨h0, _⟩ | ⟨_, h2, _⟩ <;> omega
  · have h0 : nv 18446744073709551616 xs = 0 := by rw [← ha, h]; rfl
    have h1 := (dx.zero_iff (by omega)).2 h0
    rcases hR with ⟨_, hs⟩ | ⟨h2, _⟩
    · exact hs
    · omega
theorem Wh.nil (w : World) : Wh w false none 0 0 0 := ⟨⟨[], Row.empty (by omega) (fun _ => rfl), Dg.nil⟩, by omega, fun _ => rfl, rfl⟩
theorem Wh.to {w : World} {s : Bool} {ad : Option Addr} {n cap : Nat} {X Y : Int} (h : Wh w s ad n cap X) (e : X = Y) : Wh w s ad n cap Y := e ▸ h
theorem Row.far {w : World} {ad : Option Addr} {n cap : Nat} {xs : List Nat} (h : Row w ad n cap xs) {B i : Nat} (hb : ∀ a, ad = some a → a.block ≠ B) (v : Value) : Row (w.setCell ⟨B, i, none⟩ v) ad n cap xs := by
  refine ⟨h.len, h.le, h.max, h.nil, fun hp => ?_⟩
  obtain ⟨b, off, e, hlt, hc⟩ := h.cells hp
  refine ⟨b, off, e, by simpa [World.setCell] using hlt, fun j hj => ?_⟩
  rw [World.cell?_setCell_other _ _ _ _ (ne_block (fun e' => hb _ e e'.symm))]
  exact hc j hj
theorem Wh.far {w : World} {s : Bool} {ad : Option Addr} {n cap : Nat} {X : Int} (h : Wh w s ad n cap X) {B i : Nat} (hb : ∀ a, ad = some a → a.block ≠ B) (v : Value) : Wh (w.setCell ⟨B, i, none⟩ v) s ad n cap X := by
  obtain ⟨xs, rx, dx⟩ := h.lim
  exact ⟨⟨xs, rx.far hb v, dx⟩, h.le, h.zero, h.val⟩
theorem Fresh.far {B : Nat} {w : World} {ad : Option Addr} {n cap : Nat} (h : Fresh B w ad n cap) {B2 i : Nat} (hb : ∀ a, ad = some a → a.block ≠ B2) (v : Value) : Fresh B (w.setCell ⟨B2, i, none⟩ v) ad n cap := by
  obtain ⟨xs, h⟩ := h
  have hne : (Value.slice ad n cap).ownBlock ≠ some B2 := by
    cases ad with
    | none => simp [Value.ownBlock]
    | some a => exact fun e => hb a rfl (by simpa [Value.ownBlock] using e)
  exact ⟨xs, owns_far h hne _ _⟩
/-- what is told of a whole number: it, in new memory, or that it is too long -/
def Tol (B : Nat) (w : World) (a : Bool) (b : Option Addr) (c d : Nat) (g X : Int) : Prop :=
  (X.natAbs < TopN ∧ g = 0 ∧ Wh w a b c d X ∧ Fresh B w b c d) ∨ (TopN ≤ X.natAbs ∧ a = false ∧ b = none ∧ c = 0 ∧ d = 0 ∧ g = 3)
theorem Tol.gr {B : Nat} {w w' : World} {a : Bool} {b : Option Addr} {c d : Nat} {e X : Int} (h : Tol B w a b c d e X) (g : Gr w w') : Tol B w' a b c d e X := by
  rcases h with ⟨h1, h2, h3, h4⟩ | h
  · exact Or.inl ⟨h1, h2, h3.gr g, h4.gr g⟩
  · exact Or.inr h
theorem Tol.low {B B' : Nat} {w : World} {a : Bool} {b : Option Addr} {c d : Nat} {e X : Int} (h : Tol B w a b c d e X) (hb : B' ≤ B) : Tol B' w a b c d e X := by
  rcases h with ⟨h1, h2, h3, h4⟩ | h
  · exact Or.inl ⟨h1, h2, h3, h4.low hb⟩
  · exact Or.inr h
theorem Tol.fits {B : Nat} {w : World} {a : Bool} {b : Option Addr} {c d : Nat} {e X : Int} (h : Tol B w a b c d e X) (hX : X.natAbs < TopN) : e = 0 ∧ Wh w a b c d X ∧ Fresh B w b c d := by
  rcases h with ⟨h1, h2, h3, h4⟩ | ⟨h1, _⟩
  · exact ⟨h2, h3, h4⟩
  · exact absurd hX (Nat.not_lt.2 h1)
/-- the answer's box -/
theorem Tol.set2 {B : Nat} {w : World} {a : Bool} {b : Option Addr} {c d : Nat} {e X : Int} (h : Tol B w a b c d e X) {B2 : Nat} {cs : Array Value} {T : TypeId} {fr : Nat × Nat} (hb : w.heap[B2]? = some (.cells cs T fr)) (v0 v1 : Value) (hT : T ≠ 34) : Tol B ((w.setCell ⟨B2, 0, none⟩ v0).setCell ⟨B2, 1, none⟩ v1) a b c d e X := by
  rcases h with ⟨h1, h2, h3, h4⟩ | h
  · have hne := h4.ne hb hT
    exact Or.inl ⟨h1, h2, (h3.far hne _).far hne _, (h4.far hne _).far hne _⟩
  · exact Or.inr h
structure Out2 (w : World) (B : Nat) : Prop where
  c0 : w.cell? ⟨B, 0, none⟩ = some (.bool false)
  c1 : w.cell? ⟨B, 1, none⟩ = some (.slice none 0 0)
  f0 : w.frozen? ⟨B, 0, none⟩ = false
  f1 : w.frozen? ⟨B, 1, none⟩ = false
theorem Out2.of {w : World} {B : Nat} (h : w.heap[B]? = some (.cells #[.bool false, .slice none 0 0] 26)) : Out2 w B :=
  ⟨by simp [World.cell?, h], by simp [World.cell?, h], by simp [World.frozen?, h], by simp [World.frozen?, h]⟩
theorem lt_of_get2 {w : World} {k : Nat} {o : Obj} (h : w.heap[k]? = some o) : k < w.heap.size := by
  refine Nat.lt_of_not_le fun hle => ?_
  rw [Array.getElem?_eq_none hle] at h
  cases h
theorem keepO {w w' : World} (g : Gr w w') {k : Nat} {o : Obj} (h : w.heap[k]? = some o) : w'.heap[k]? = some o := (g.block k (lt_of_get2 h)).trans h
theorem blk1 (w : World) (o1 : Obj) : (w.alloc o1).heap[w.heap.size]? = some o1 := by
  show (w.heap.push _)[w.heap.size]? = _
  simp only [Array.getElem?_push]
  rw [if_pos trivial]
theorem blk2 (w : World) (o1 o2 : Obj) : ((w.alloc o1).alloc o2).heap[w.heap.size]? = some o1 ∧ ((w.alloc o1).alloc o2).heap[w.heap.size + 1]? = some o2 :=
  ⟨keepO ((Gr.refl _).alloc _) (blk1 w o1), by have := blk1 (w.alloc o1) o2; simpa using this⟩
theorem blk3 (w : World) (o1 o2 o3 : Obj) : (((w.alloc o1).alloc o2).alloc o3).heap[w.heap.size]? = some o1 ∧ (((w.alloc o1).alloc o2).alloc o3).heap[w.heap.size + 1]? = some o2 ∧ (((w.alloc o1).alloc o2).alloc o3).heap[w.heap.size + 1 + 1]? = some o3 :=
  ⟨keepO ((Gr.refl _).alloc _) (blk2 w o1 o2).1, keepO ((Gr.refl _).alloc _) (blk2 w o1 o2).2, by have := blk1 ((w.alloc o1).alloc o2) o3; simpa using this⟩
theorem bx2 {w : World} {B : Nat} {v0 v1 : Value} {T : TypeId} (h : w.heap[B]? = some (.cells #[v0, v1] T)) : w.cell? ⟨B, 0, none⟩ = some v0 ∧ w.cell? ⟨B, 1, none⟩ = some v1 := ⟨by simp [World.cell?, h], by simp [World.cell?, h]⟩

set_option maxHeartbeats 1600000 in
theorem rightL (s : Bool) (ad : Option Addr) (n cap : Nat) (xs : List Nat) (w : World) (rx : Row w ad n cap xs) :
    Calls Tryz.prog 32 #[.agg #[.bool s, .slice ad n cap]] w fun r w' => r = .returned (.bool (rightN s xs)) ∧ Gr w w' := by
  have hl := rx.le
  have hm := rx.max
  have hlen := rx.len
  by_cases hn : n = 0
  · clear rx
    subst hn
    cases s
    · rw [rightN_t (Or.inl ⟨hlen, rfl⟩)]
      go_enter Tryz.func32, Tryz.ntmps32
      go_wp2
      go_ret
      exact ⟨rfl, (Gr.refl w).alloc _⟩
    · rw [rightN_f (by rintro (⟨_, h⟩ | ⟨h, _⟩); exact absurd h (by simp); omega)]
      go_enter Tryz.func32, Tryz.ntmps32
      go_wp2
      go_ret
      exact ⟨rfl, (Gr.refl w).alloc _⟩
  · obtain ⟨p, o, rfl, hp, hc⟩ := rx.cells (by omega)
    have hcl := keepG ((Gr.refl w).alloc (.cells #[.bool s, .slice (some ⟨p, o, none⟩) n cap] 26)) (hc (n - 1) (by omega))
    have H : Hid (RightN s xs ↔ (n ≤ 4096 ∧ xs.getD (n - 1) 0 ≠ 0)) := by
      show _ ↔ _
      unfold RightN
      rw [hlen]
      omega
    clear rx hc hlen
    generalize xs.getD (n - 1) 0 = vl at *
    have hz : ((n : Int) == 0) = false := by simp; omega
    by_cases h1 : n ≤ 4096
    · have h1' : (n : Int) ≤ 4096 := by omega
      by_cases h2 : vl = 0
      · subst h2
        rw [rightN_f (by rw [H.out]; omega)]
        go_enter Tryz.func32, Tryz.ntmps32
        go_wp2
        go_ret
        exact ⟨rfl, (Gr.refl w).alloc _⟩
      · have h2' : ((vl : Int) != 0) = true := by simp; omega
        rw [rightN_t (by rw [H.out]; omega)]
        go_enter Tryz.func32, Tryz.ntmps32
        go_wp2
        go_ret
        exact ⟨rfl, (Gr.refl w).alloc _⟩
    · have h1' : ¬ (n : Int) ≤ 4096 := by omega
      rw [rightN_f (by rw [H.out]; omega)]
      go_enter Tryz.func32, Tryz.ntmps32
      go_wp2
      go_ret
      exact ⟨rfl, (Gr.refl w).alloc _⟩

set_option maxHeartbeats 1600000 in
theorem settleL (s : Bool) (ad : Option Addr) (N C B v : Nat) (zs : List Nat) (w : World) (hown : w.ownsRow B 34 1 (.slice ad N C) N (u64s zs)) (hz : ∀ z ∈ zs, z < 18446744073709551616) (hv : nv 18446744073709551616 zs = v) (hN : N ≤ 1099511627776) :
    Calls Tryz.prog 81 #[.bool s, .slice ad N C] w fun r w' => ∃ a b c d e, r = .returned (.tuple #[.agg #[.bool a, .slice b c d], .int .i64 e]) ∧ Hid (Tol B w' a b c d e (iv s v)) ∧ Gr w w' := by
  have HT : Hid (∀ w1, Gr w w1 → Calls Tryz.prog 92 #[.slice ad N C] w1 fun e w' => ∃ j, e = .returned (.slice ad j C) ∧ j ≤ N ∧ Hid (Lim w ad j C 18446744073709551616 v) ∧ Hid (Fresh B w ad j C) ∧ ((j : Int) = 0 ↔ v = 0) ∧ ((j : Int) ≤ 4096 ↔ v < TopN) ∧ w' = w1) := fun w1 gr => (trimLO hown hz hv gr).mono (by
    rintro e w' ⟨j, h1, h2, h3, h4, h5⟩
    obtain ⟨xs, rx, dx⟩ := id h3
    have z1 := dx.zero_iff (by omega)
    have z2 := topN_len dx
    rw [rx.len] at z1 z2
    exact ⟨j, h1, h2, h3, h4, by omega, by omega, h5⟩)
  clear hown hz hv
  have GA : Gr w (w.alloc (.cells #[.bool false, .slice none 0 0] 26)) := (Gr.refl w).alloc _
  have ha := iv_abs s v
  by_cases h0 : v = 0
  · have I0 : iv s v = 0 := by rw [h0]; cases s <;> rfl
    rw [I0]
    have HT0 : Hid (∀ w1, Gr w w1 → Calls Tryz.prog 92 #[.slice ad N C] w1 fun e w' => ∃ j : Nat, e = .returned (.slice ad 0 C) ∧ w' = w1) := fun w1 gr => (HT.out w1 gr).mono (by
      rintro e w' ⟨j, h1, h2, h3, h4, h5, h6, h7⟩
      have : j = 0 := by have := h5.2 h0; omega
      subst this
      exact ⟨0, h1, h7⟩)
    clear HT I0 h0 ha
    go_enter Tryz.func81, Tryz.ntmps81
    go_wp2_with (first | (go_at_call 92; with_reducible refine (HT0.out _ GA).mono ?_; rintro e w1 ⟨j, rfl, rfl⟩))
    refine bodyPost_ret (v := .tuple #[.agg #[.bool false, .slice none 0 0], .int .i64 0]) ?_ rfl ⟨_, _, _, _, _, rfl, Or.inl ⟨topN_pos, rfl, Wh.nil _, Fresh.nil _ _⟩, (Gr.refl w).alloc _⟩
    simp [results, Tryz.results81, go_sem]
  · by_cases h4 : v < TopN
    · have HT0 : Hid (∀ w1, Gr w w1 → Calls Tryz.prog 92 #[.slice ad N C] w1 fun e w' => ∃ j : Nat, e = .returned (.slice ad j C) ∧ ((j : Int) == 0) = false ∧ ((j : Int) ≤ 4096) ∧ Hid (Wh w s ad j C (iv s v)) ∧ Hid (Fresh B w ad j C) ∧ w' = w1) := fun w1 gr => (HT.out w1 gr).mono (by
        rintro e w' ⟨j, h1, h2, h3, h4', h5, h6, h7⟩
        refine ⟨j, h1, by simp; omega, h6.2 h4, ⟨by rw [ha]; exact h3.out, by have := h6.2 h4; omega, fun h => ?_, by rw [ha]⟩, h4', h7⟩
        have : v = 0 := by rw [← ha, h]; rfl
        omega)
      clear HT
      have hV : (iv s v).natAbs < TopN := by rw [ha]; exact h4
      have HV : Hid ((iv s v).natAbs < TopN) := hV
      clear hV ha h4 h0
      go_enter Tryz.func81, Tryz.ntmps81
      go_wp2_with (first | (go_at_call 92; with_reducible refine (HT0.out _ GA).mono ?_; rintro e w1 ⟨j, rfl, hj0, hj4, hw, hf, rfl⟩))
      refine bodyPost_ret (v := .tuple #[.agg #[.bool s, .slice ad j C], .int .i64 0]) ?_ rfl ⟨_, _, _, _, _, rfl, Or.inl ⟨HV.out, rfl, hw.out.gr ((Gr.refl w).alloc _), hf.out.gr ((Gr.refl w).alloc _)⟩, (Gr.refl w).alloc _⟩
      simp [results, Tryz.results81, go_sem]
    · have HT0 : Hid (∀ w1, Gr w w1 → Calls Tryz.prog 92 #[.slice ad N C] w1 fun e w' => ∃ j : Nat, e = .returned (.slice ad j C) ∧ ((j : Int) == 0) = false ∧ ¬ ((j : Int) ≤ 4096) ∧ w' = w1) := fun w1 gr => (HT.out w1 gr).mono (by
        rintro e w' ⟨j, h1, h2, h3, h4', h5, h6, h7⟩
        exact ⟨j, h1, by simp; omega, fun h => h4 (h6.1 h), h7⟩)
      clear HT
      have HV : Hid (TopN ≤ (iv s v).natAbs) := by show _ ≤ _; rw [ha]; exact Nat.not_lt.1 h4
      clear ha h4 h0
      go_enter Tryz.func81, Tryz.ntmps81
      go_wp2_with (first | (go_at_call 92; with_reducible refine (HT0.out _ GA).mono ?_; rintro e w1 ⟨j, rfl, hj0, hj4, rfl⟩; have hj5 : 4096 < (j : Int) := (by omega)))
      refine bodyPost_ret (v := .tuple #[.agg #[.bool false, .slice none 0 0], .int .i64 3]) ?_ rfl ⟨_, _, _, _, _, rfl, Or.inr ⟨HV.out, rfl, rfl, rfl, rfl, rfl⟩, (Gr.refl w).alloc _⟩
      simp [results, Tryz.results81, go_sem]
end Go.Proofs.YtnjndegdhhmbaaaGreat
