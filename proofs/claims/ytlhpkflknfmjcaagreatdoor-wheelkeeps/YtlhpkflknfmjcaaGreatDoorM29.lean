import Derived.Test.YtlhpkflknfmjcaaGreatDoorM26
import Derived.Test.YtlhpkflknfmjcaaGreatDoorM28
import Derived.Test.YtlhpkflknfmjcaaGreatDoorM20
import Derived.Deep.DeepCutAuto
namespace Go.Proofs.YtlhpkflknfmjcaaGreatDoor
open Go.RowKit
set_option linter.unusedVariables false

theorem two_blocks' (w : World) (a0 a1 a2 b0 b1 b2 : Value) (W0 : World) (h : W0 = (w.alloc (.cells #[a0, a1, a2] 121)).alloc (.cells #[b0, b1, b2] 48)) :
    (W0.cell? ⟨w.heap.size, 0, none⟩ = some a0 ∧ W0.cell? ⟨w.heap.size, 1, none⟩ = some a1 ∧ W0.cell? ⟨w.heap.size, 2, none⟩ = some a2 ∧ W0.cell? ⟨w.heap.size + 1, 0, none⟩ = some b0 ∧ W0.cell? ⟨w.heap.size + 1, 1, none⟩ = some b1 ∧ W0.cell? ⟨w.heap.size + 1, 2, none⟩ = some b2) ∧ Gr w W0 := by
  have h0 : W0.heap[w.heap.size]? = some (.cells #[a0, a1, a2] 121) := by
    rw [h]
    show ((w.heap.push _).push _)[w.heap.size]? = _
    simp only [Array.getElem?_push, Array.size_push]
    rw [if_neg (by omega), if_pos trivial]
  have h1 : W0.heap[w.heap.size + 1]? = some (.cells #[b0, b1, b2] 48) := by
    rw [h]
    show ((w.heap.push _).push _)[w.heap.size + 1]? = _
    simp only [Array.getElem?_push, Array.size_push]
    rw [if_pos trivial]
  exact ⟨⟨by simp [World.cell?, h0], by simp [World.cell?, h0], by simp [World.cell?, h0], by simp [World.cell?, h1], by simp [World.cell?, h1], by simp [World.cell?, h1]⟩, h ▸ ((Gr.refl w).alloc _).alloc _⟩
theorem open_ofT {w : World} {b : Nat} {a0 a1 a2 : Value} {T : TypeId} (h : w.heap[b]? = some (.cells #[a0, a1, a2] T)) : w.frozen? ⟨b, 0, none⟩ = false ∧ w.frozen? ⟨b, 1, none⟩ = false ∧ w.frozen? ⟨b, 2, none⟩ = false := ⟨by simp [World.frozen?, h], by simp [World.frozen?, h], by simp [World.frozen?, h]⟩
theorem cells_ofT {w : World} {b : Nat} {a0 a1 a2 : Value} {T : TypeId} (h : w.heap[b]? = some (.cells #[a0, a1, a2] T)) : w.cell? ⟨b, 0, none⟩ = some a0 ∧ w.cell? ⟨b, 1, none⟩ = some a1 ∧ w.cell? ⟨b, 2, none⟩ = some a2 := ⟨by simp [World.cell?, h], by simp [World.cell?, h], by simp [World.cell?, h]⟩
theorem emod2 (v : Nat) : (v : Int) % 2 = ((v % 2 : Nat) : Int) := by omega
set_option maxHeartbeats 1600000 in
/-- a number, scaled -/
theorem scaled38 (s : Bool) (ad : Option Addr) (n cap x : Nat) (e p : Int) (w : World) (hx : Lim w ad n cap 18446744073709551616 x) (e1 : -1048576 ≤ e) (e2 : e ≤ 1048576) (p1 : -2147483648 ≤ p) (p2 : p ≤ 2147483648) :
    Calls Tryz.prog 59 #[.agg #[.bool s, .slice ad n cap, .int .i64 e], .int .i64 p] w fun r w' => r = .returned (.agg #[.bool s, .slice ad n cap, .int .i64 (e + p)]) ∧ Lim w' ad n cap 18446744073709551616 x ∧ Gr w w' := by
  have H : Hid (Lim w ad n cap 18446744073709551616 x) := hx
  clear hx
  go_enter Tryz.func59, Tryz.ntmps59
  go_wp2
  have G : Gr w ((w.alloc (.cells #[.bool s, .slice ad n cap, .int .i64 e] 48)).alloc (.cells #[.bool s, .slice ad n cap, .int .i64 (e + p)] 48)) := gr2 _ _
  refine bodyPost_ret (v := .agg #[.bool s, .slice ad n cap, .int .i64 (e + p)]) (by simp [results, Tryz.results59, go_sem]) rfl ⟨rfl, H.out.gr G, G⟩
end Go.Proofs.YtlhpkflknfmjcaaGreatDoor
namespace Go.Proofs.YtlhpkflknfmjcaaGreatDoor
open Go.RowKit
set_option linter.unusedVariables false

theorem digit_bit {x k : Nat} {xs : List Nat} (d : Dg 18446744073709551616 x xs) (hk : k / 64 < xs.length) : xs.getD (k / 64) 0 / 2 ^ (k % 64) % 2 = x / 2 ^ k % 2 := by
  have e1 : x / 2 ^ k = nv 18446744073709551616 (xs.drop (k / 64)) / 2 ^ (k % 64) := by
    rw [← nv_dropq (by omega) d.2.1 (k / 64) (by omega), d.1, pow64, Nat.div_div_eq_div_mul, ← Nat.pow_add, show 64 * (k / 64) + k % 64 = k by omega]
  rw [e1, drop_at hk]
  simp only [nv]
  have hr : k % 64 < 64 := by omega
  generalize k % 64 = r at *
  have e2 : (18446744073709551616 : Nat) = 2 ^ r * (2 * 2 ^ (63 - r)) := by
    rw [← Nat.pow_succ', ← Nat.pow_add, show r + (63 - r).succ = 64 by omega]
  generalize nv 18446744073709551616 (xs.drop (k / 64 + 1)) = N
  generalize xs.getD (k / 64) 0 = y
  rw [e2, Nat.mul_assoc, Nat.add_mul_div_left _ _ (Nat.two_pow_pos r), Nat.mul_assoc 2, Nat.add_mul_mod_self_left]
/-- what TellDyad tells of sign, size and power -/
def TellR (w' : World) (r : Ending) (s : Bool) (x : Nat) (e : Int) : Prop :=
  (x = 0 ∧ r = .returned (.tuple #[zeroD, .bool true])) ∨
  (∃ (t q : Nat) (ad : Option Addr) (n cap : Nat), x = 2 ^ t * (2 * q + 1) ∧ Fits (2 * q + 1) (e + (t : Int)) ∧ r = .returned (.tuple #[.agg #[.bool s, .slice ad n cap, .int .i64 (e + (t : Int))], .bool true]) ∧ Lim w' ad n cap 18446744073709551616 (2 * q + 1) ∧ n ≤ 4096) ∨
  (∃ t q : Nat, x = 2 ^ t * (2 * q + 1) ∧ ¬ Fits (2 * q + 1) (e + (t : Int)) ∧ r = .returned (.tuple #[zeroD, .bool false]))
theorem fits_len {w : World} {ad : Option Addr} {n cap q : Nat} {p : Int} (h : Lim w ad n cap 18446744073709551616 (2 * q + 1)) : Fits (2 * q + 1) p ↔ (n ≤ 4096 ∧ -1048576 ≤ p ∧ p ≤ 1048576) := by
  obtain ⟨xs, r, d⟩ := h
  rw [← right_iff (s := false) d]
  have hp : 0 < xs.length := Nat.pos_of_ne_zero fun e => by
    have := (d.zero_iff (by omega)).1 e
    omega
  have htop := d.2.2 (xs.length - 1) (by omega)
  have hod := odd_digit d hp
  have hl := r.len
  unfold RightD
  constructor
  · rintro (⟨h0, _⟩ | ⟨_, h1, _, _, h2, h3⟩)
    · omega
    · exact ⟨by omega, h2, h3⟩
  · rintro ⟨h1, h2, h3⟩
    exact Or.inr ⟨hp, by omega, htop, by omega, h2, h3⟩
theorem blk2 (w : World) (o1 o2 : Obj) : ((w.alloc o1).alloc o2).heap[w.heap.size]? = some o1 ∧ ((w.alloc o1).alloc o2).heap[w.heap.size + 1]? = some o2 := by
  refine ⟨?_, second_block w o1 o2⟩
  show ((w.heap.push _).push _)[w.heap.size]? = _
  simp only [Array.getElem?_push, Array.size_push]
  rw [if_neg (by omega), if_pos trivial]
theorem pow_dvd_next {x k : Nat} (h : 2 ^ k ∣ x) (hb : x / 2 ^ k % 2 = 0) : 2 ^ (k + 1) ∣ x := by
  obtain ⟨y, rfl⟩ := h
  rw [Nat.mul_div_cancel_left _ (Nat.two_pow_pos k)] at hb
  obtain ⟨z, rfl⟩ := Nat.dvd_of_mod_eq_zero hb
  exact ⟨z, by rw [Nat.pow_succ]; ac_rfl⟩
end Go.Proofs.YtlhpkflknfmjcaaGreatDoor
namespace Go.Proofs.YtlhpkflknfmjcaaGreatDoor
open Go.RowKit
set_option linter.unusedVariables false

theorem odd_form : ∀ x : Nat, 0 < x → ∃ t q, x = 2 ^ t * (2 * q + 1) := by
  intro x
  induction x using Nat.strongRecOn with
  | ind x ih =>
    intro h
    by_cases h1 : x % 2 = 1
    · exact ⟨0, x / 2, by rw [Nat.pow_zero]; omega⟩
    · obtain ⟨t, q, e⟩ := ih (x / 2) (by omega) (by omega)
      exact ⟨t + 1, q, by rw [Nat.pow_succ, Nat.mul_comm (2 ^ t) 2, Nat.mul_assoc, ← e]; omega⟩
theorem odd_unique {t q t' q' : Nat} (h : 2 ^ t * (2 * q + 1) = 2 ^ t' * (2 * q' + 1)) : t = t' ∧ q = q' := by
  have key : ∀ (t q t' q' : Nat), 2 ^ t * (2 * q + 1) = 2 ^ t' * (2 * q' + 1) → t' ≤ t := by
    intro t q t' q' h
    refine Nat.le_of_not_lt fun hlt => ?_
    obtain ⟨d, rfl⟩ : ∃ d, t' = t + (d + 1) := ⟨t' - t - 1, by omega⟩
    rw [Nat.pow_add, Nat.mul_assoc] at h
    have h1 := Nat.eq_of_mul_eq_mul_left (Nat.two_pow_pos t) h
    rw [Nat.pow_succ, Nat.mul_comm (2 ^ d) 2, Nat.mul_assoc] at h1
    omega
  have e1 : t = t' := Nat.le_antisymm (key _ _ _ _ h.symm) (key _ _ _ _ h)
  subst e1
  have := Nat.eq_of_mul_eq_mul_left (Nat.two_pow_pos t) h
  exact ⟨rfl, by omega⟩
end Go.Proofs.YtlhpkflknfmjcaaGreatDoor
namespace Go.Proofs.YtlhpkflknfmjcaaGreatDoor
open Go.RowKit
set_option linter.unusedVariables false

theorem one_is : sv KK false 3 (-2) + sv KK false 1 (-2) = sv KK false 1 0 := by
  have hk := KK_eq
  have h1 := plus_same (K := KK) (s := false) (m := 3) (n := 1) (e := -2) (f := -2) (by omega) (by omega)
  have h2 := sv_down KK false 1 0 (-2) (by omega) (by omega)
  rw [← h1, ← h2]
  rfl
theorem box_cells {w : World} {a0 a1 a2 : Value} : (w.alloc (.cells #[a0, a1, a2] 121)).cell? ⟨w.heap.size, 0, none⟩ = some a0 ∧ (w.alloc (.cells #[a0, a1, a2] 121)).cell? ⟨w.heap.size, 1, none⟩ = some a1 ∧ (w.alloc (.cells #[a0, a1, a2] 121)).cell? ⟨w.heap.size, 2, none⟩ = some a2 := ⟨by simp, by simp, by simp⟩
end Go.Proofs.YtlhpkflknfmjcaaGreatDoor
namespace Go.Proofs.YtlhpkflknfmjcaaGreatDoor
open Go.RowKit
set_option linter.unusedVariables false

theorem Settled.gr {w w' : World} {r : Ending} {s : Bool} {x : Nat} {e : Int} (h : Settled w r s x e) (g : Gr w w') : Settled w' r s x e := by
  unfold Settled at h ⊢
  rcases h with h | ⟨t, q, ad, n, cap, h1, h2, h3, h4, h5⟩ | h
  · exact Or.inl h
  · exact Or.inr (Or.inl ⟨t, q, ad, n, cap, h1, h2, h3, h4.gr g, h5⟩)
  · exact Or.inr (Or.inr h)
/-- the right dyad of that worth, or ErrLong -/
def SetV (w : World) (r : Ending) (V : Int) : Prop := ∃ s x e, 0 ≤ e + KK ∧ sv KK s x e = V ∧ Settled w r s x e
/-- an answer: that sign, size, power and error -/
def Ans (w : World) (s : Bool) (ad : Option Addr) (n cap : Nat) (e : Int) (g : Int) (S : Bool) (X : Nat) (E G : Int) : Prop := s = S ∧ e = E ∧ g = G ∧ Lim w ad n cap 18446744073709551616 X
theorem Ans.gr {w w' : World} {s : Bool} {ad : Option Addr} {n cap : Nat} {e g : Int} {S : Bool} {X : Nat} {E G : Int} (h : Ans w s ad n cap e g S X E G) (gr : Gr w w') : Ans w' s ad n cap e g S X E G := ⟨h.1, h.2.1, h.2.2.1, h.2.2.2.gr gr⟩
theorem nil_lim (w : World) : Lim w none 0 0 18446744073709551616 0 := ⟨[], Row.empty (by omega) (fun _ => rfl), Dg.nil⟩
theorem sv_odd_one {s t : Bool} {p q : Nat} {e f : Int} (he : 0 ≤ e + KK) (hf : 0 ≤ f + KK) (h : sv KK s (2 * p + 1) e = sv KK t (2 * q + 1) f) : s = t ∧ p = q ∧ e = f := by
  have a1 := sv_abs KK s (2 * p + 1) e
  have a2 := sv_abs KK t (2 * q + 1) f
  rw [h, a2] at a1
  have hs : s = t := by
    have s1 := sv_sign KK s (2 * p + 1) e (by omega)
    have s2 := sv_sign KK t (2 * q + 1) f (by omega)
    rw [h] at s1
    cases s <;> cases t
    · rfl
    · have := s1.2 rfl; have := s2.1 rfl; omega
    · have := s1.1 rfl; have := s2.2 rfl; omega
    · rfl
  have := odd_unique (t := (f + KK).toNat) (q := q) (t' := (e + KK).toNat) (q' := p) (by rw [Nat.mul_comm, a1, Nat.mul_comm])
  exact ⟨hs, this.2.symm, by omega⟩
/-- one worth, one answer -/
theorem setv_ans (V : Int) : ∃ S X E G, ∀ w r, SetV w r V → ∃ s ad n cap e g, r = .returned (.tuple #[.agg #[.bool s, .slice ad n cap, .int .i64 e], .int .i64 g]) ∧ Ans w s ad n cap e g S X E G := by
  by_cases hV : V = 0
  · refine ⟨false, 0, 0, 0, ?_⟩
    rintro w r ⟨s, x, e, he, hw, hS⟩
    rw [hV] at hw
    have hx := sv_eq_zero.1 hw
    subst hx
    unfold Settled at hS
    rcases hS with ⟨_, rfl⟩ | ⟨t, q, _, _, _, h, _⟩ | ⟨t, q, h, _⟩
    · exact ⟨false, none, 0, 0, 0, 0, rfl, rfl, rfl, rfl, nil_lim w⟩
    · exact absurd h.symm (Nat.ne_of_gt (Nat.mul_pos (Nat.two_pow_pos t) (by omega)))
    · exact absurd h.symm (Nat.ne_of_gt (Nat.mul_pos (Nat.two_pow_pos t) (by omega)))
  · by_cases hex : ∃ s t q e, 0 ≤ e + KK ∧ sv KK s (2 ^ t * (2 * q + 1)) e = V
    · obtain ⟨s0, t0, q0, e0, he0, hw0⟩ := hex
      have can : ∀ (s : Bool) (t q : Nat) (e : Int), 0 ≤ e + KK → sv KK s (2 ^ t * (2 * q + 1)) e = V → s = s0 ∧ q = q0 ∧ e + (t : Int) = e0 + (t0 : Int) := by
        intro s t q e he hw
        have d1 := sv_down KK s (2 * q + 1) (e + t) e (by omega) he
        have d2 := sv_down KK s0 (2 * q0 + 1) (e0 + t0) e0 (by omega) he0
        rw [show (e + (t : Int) - e).toNat = t by omega, Nat.mul_comm] at d1
        rw [show (e0 + (t0 : Int) - e0).toNat = t0 by omega, Nat.mul_comm] at d2
        have := sv_odd_one (e := e + t) (f := e0 + t0) (by omega) (by omega) (d1.symm.trans (hw.trans (hw0.symm.trans d2)))
        exact ⟨this.1, this.2.1, this.2.2⟩
      by_cases hF : Fits (2 * q0 + 1) (e0 + (t0 : Int))
      · refine ⟨s0, 2 * q0 + 1, e0 + t0, 0, ?_⟩
        rintro w r ⟨s, x, e, he, hw, hS⟩
        unfold Settled at hS
        rcases hS with ⟨rfl, _⟩ | ⟨t, q, ad, n, cap, rfl, h2, rfl, h4, _⟩ | ⟨t, q, rfl, h2, _⟩
        · rw [sv_zero] at hw; exact absurd hw.symm hV
        · obtain ⟨rfl, rfl, h3⟩ := can s t q e he hw
          exact ⟨s, ad, n, cap, _, 0, rfl, rfl, h3, rfl, h4⟩
        · obtain ⟨rfl, rfl, h3⟩ := can s t q e he hw
          rw [h3] at h2
          exact absurd hF h2
      · refine ⟨false, 0, 0, 3, ?_⟩
        rintro w r ⟨s, x, e, he, hw, hS⟩
        unfold Settled at hS
        rcases hS with ⟨rfl, _⟩ | ⟨t, q, ad, n, cap, rfl, h2, _⟩ | ⟨t, q, rfl, h2, rfl⟩
        · rw [sv_zero] at hw; exact absurd hw.symm hV
        · obtain ⟨rfl, rfl, h3⟩ := can s t q e he hw
          rw [h3] at h2
          exact absurd h2 hF
        · exact ⟨false, none, 0, 0, 0, 3, rfl, rfl, rfl, rfl, nil_lim w⟩
    · refine ⟨false, 0, 0, 0, ?_⟩
      rintro w r ⟨s, x, e, he, hw, hS⟩
      unfold Settled at hS
      rcases hS with ⟨rfl, _⟩ | ⟨t, q, _, _, _, rfl, _⟩ | ⟨t, q, rfl, _⟩
      · rw [sv_zero] at hw; exact absurd hw.symm hV
      · exact absurd ⟨s, t, q, e, he, hw⟩ hex
      · exact absurd ⟨s, t, q, e, he, hw⟩ hex
/-- the sum, as sign, size and power -/
theorem sum_form (s t : Bool) (x y : Nat) (e f : Int) (hK1 : 0 ≤ e + KK) (hK2 : 0 ≤ f + KK) : ∃ neg m g, 0 ≤ g + KK ∧ sv KK neg m g = sv KK s x e + sv KK t y f := by
  by_cases h : e ≤ f
  · by_cases hst : s = t
    · subst hst; exact ⟨s, _, e, hK1, plus_same h hK1⟩
    · by_cases hc : x ≤ y * 2 ^ (f - e).toNat
      · exact ⟨t, _, e, hK1, plus_second h hK1 hst hc⟩
      · exact ⟨s, _, e, hK1, plus_first h hK1 hst (by omega)⟩
  · by_cases hst : s = t
    · subst hst; exact ⟨s, _, f, hK2, by have := plus_same (K := KK) (s := s) (m := y) (n := x) (e := f) (f := e) (by omega) hK2; rw [this]; omega⟩
    · by_cases hc : y ≤ x * 2 ^ (e - f).toNat
      · exact ⟨s, _, f, hK2, by have := plus_second (K := KK) (s := t) (t := s) (m := y) (n := x) (e := f) (f := e) (by omega) hK2 (Ne.symm hst) hc; rw [this]; omega⟩
      · exact ⟨t, _, f, hK2, by have := plus_first (K := KK) (s := t) (t := s) (m := y) (n := x) (e := f) (f := e) (by omega) hK2 (Ne.symm hst) (by omega); rw [this]; omega⟩
theorem far_aux {s t neg : Bool} {p q u v : Nat} {e f g : Int} (hK1 : 0 ≤ e + KK) (hK3 : 0 ≤ g + KK) (hef : 262144 < f - e) (hp : 2 * p + 1 < 18446744073709551616 ^ L4096) (hw : sv KK neg (2 ^ u * (2 * v + 1)) g = sv KK s (2 * p + 1) e + sv KK t (2 * q + 1) f) : ¬ Fits (2 * v + 1) (g + (u : Int)) := by
  intro hF
  obtain ⟨d, hd⟩ : ∃ d : Nat, f = e + d := ⟨(f - e).toNat, by omega⟩
  subst hd
  have hP : (e + (d : Int) + KK).toNat = d + (e + KK).toNat := by omega
  have ha := sv_abs KK neg (2 ^ u * (2 * v + 1)) g
  rw [hw] at ha
  obtain ⟨d, rfl⟩ : ∃ d', d = d' + 1 := ⟨d - 1, by omega⟩
  -- the odd size beside 2^(e + KK)
  obtain ⟨z, hz1, hz2⟩ : ∃ z, (sv KK s (2 * p + 1) e + sv KK t (2 * q + 1) (e + ((d + 1 : Nat) : Int))).natAbs = (2 * z + 1) * 2 ^ (e + KK).toNat ∧ 2 ^ (d + 1) ≤ 2 * z + 1 + (2 * p + 1) := by
    have hq : (2 * q + 1) * 2 ^ (d + 1) = 2 * ((2 * q + 1) * 2 ^ d) := by rw [Nat.pow_succ]; ac_rfl
    have hge : 1 * 2 ^ (d + 1) ≤ (2 * q + 1) * 2 ^ (d + 1) := Nat.mul_le_mul_right _ (by omega)
    unfold sv
    rw [hP, Nat.pow_add, ← Nat.mul_assoc]
    generalize (2 * q + 1) * 2 ^ (d + 1) = Y at *
    generalize (2 * q + 1) * 2 ^ d = Y2 at *
    generalize 2 ^ (e + KK).toNat = P at *
    generalize 2 ^ (d + 1) = D at *
    have big : 2 * p + 1 < Y ∨ Y < 2 * p + 1 := by omega
    rcases big with big | big
    · by_cases hst : s = t
      · refine ⟨p + Y2, ?_, by omega⟩
        subst hst
        have e1 : (2 * (p + Y2) + 1) * P = (2 * p + 1) * P + Y * P := by rw [← Nat.add_mul]; congr 1; omega
        rw [e1]
        cases s <;> simp only [Bool.false_eq_true, if_false, if_true] <;> omega
      · refine ⟨Y2 - p - 1, ?_, by omega⟩
        have e1 : (2 * (Y2 - p - 1) + 1) * P + (2 * p + 1) * P = Y * P := by rw [← Nat.add_mul]; congr 1; omega
        cases s <;> cases t <;> simp only [Bool.false_eq_true, if_false, if_true] <;> first | exact absurd rfl hst | omega
    · by_cases hst : s = t
      · refine ⟨p + Y2, ?_, by omega⟩
        subst hst
        have e1 : (2 * (p + Y2) + 1) * P = (2 * p + 1) * P + Y * P := by rw [← Nat.add_mul]; congr 1; omega
        rw [e1]
        cases s <;> simp only [Bool.false_eq_true, if_false, if_true] <;> omega
      · refine ⟨p - Y2, ?_, by omega⟩
        have e1 : (2 * (p - Y2) + 1) * P + Y * P = (2 * p + 1) * P := by rw [← Nat.add_mul]; congr 1; omega
        cases s <;> cases t <;> simp only [Bool.false_eq_true, if_false, if_true] <;> first | exact absurd rfl hst | omega
  rw [hz1] at ha
  have hu := odd_unique (t := (e + KK).toNat) (q := z) (t' := u + (g + KK).toNat) (q' := v) (by rw [Nat.mul_comm, ha, Nat.pow_add]; ac_rfl)
  obtain ⟨_, rfl⟩ := hu
  have h1 := hF.1
  rw [pow64] at h1 hp
  have h2 : 2 ^ (64 * L4096) * 2 ≤ 2 ^ (d + 1) := by
    rw [← Nat.pow_succ]
    exact Nat.pow_le_pow_right (by omega) (by rw [L4096_eq]; omega)
  omega
/-- too far apart: too long -/
theorem far_setv (w : World) (s t : Bool) (x y : Nat) (e f : Int) (hx : x = 0 ∨ ∃ q, x = 2 * q + 1) (hy : y = 0 ∨ ∃ q, y = 2 * q + 1) (x0 : 0 < x) (y0 : 0 < y) (bx : x < 18446744073709551616 ^ L4096) (by' : y < 18446744073709551616 ^ L4096) (hK1 : 0 ≤ e + KK) (hK2 : 0 ≤ f + KK) (hef : 262144 < max e f - min e f) :
    SetV w (.returned (.tuple #[zeroD, .int .i64 3])) (sv KK s x e + sv KK t y f) := by
  obtain ⟨p, rfl⟩ : ∃ q, x = 2 * q + 1 := by rcases hx with h | h; omega; exact h
  obtain ⟨q, rfl⟩ : ∃ q, y = 2 * q + 1 := by rcases hy with h | h; omega; exact h
  obtain ⟨neg, m, g, hg, hw⟩ := sum_form s t (2 * p + 1) (2 * q + 1) e f hK1 hK2
  refine ⟨neg, m, g, hg, hw, ?_⟩
  by_cases hm : m = 0
  · exfalso
    subst hm
    rw [sv_zero] at hw
    have hst : sv KK s (2 * p + 1) e = sv KK (!t) (2 * q + 1) f := by rw [sv_neg]; omega
    have := sv_odd_one hK1 hK2 hst
    omega
  · obtain ⟨u, v, rfl⟩ := odd_form m (by omega)
    unfold Settled
    refine Or.inr (Or.inr ⟨u, v, rfl, ?_, rfl⟩)
    by_cases h : e ≤ f
    · exact far_aux hK1 hg (by omega) bx hw
    · exact far_aux (s := t) (t := s) (p := q) (q := p) (e := f) (f := e) hK2 hg (by omega) by' (by rw [hw]; omega)
end Go.Proofs.YtlhpkflknfmjcaaGreatDoor
namespace Go.Proofs.YtlhpkflknfmjcaaGreatDoor
open Go.RowKit
set_option linter.unusedVariables false

set_option maxRecDepth 10000 in
set_option maxHeartbeats 1600000 in
theorem reckonA1 (s t : Bool) (ad1 ad2 : Option Addr) (n1 n2 c1 c2 : Nat) (e f : Int) (fv : Value) (w : World)
    (R1 : Hid (∀ w1, Gr w w1 → Calls Tryz.prog 161 #[.agg #[.bool s, .slice ad1 n1 c1, .int .i64 e]] w1 fun r w' => r = .returned (.bool false) ∧ Gr w1 w')) :
    Calls Tryz.prog 185 #[.agg #[.bool s, .slice ad1 n1 c1, .int .i64 e], .agg #[.bool t, .slice ad2 n2 c2, .int .i64 f], fv] w fun r w' => r = .returned (.tuple #[zeroD, .int .i64 2]) ∧ Gr w w' := by
  have TB := three_blocks w (.bool s) (.slice ad1 n1 c1) (.int .i64 e) (.bool t) (.slice ad2 n2 c2) (.int .i64 f) (.cells #[.bool false, .slice none 0 0, .int .i64 0] 121) _ rfl
  have TB' : Hid _ := TB
  clear TB
  have tok : True := trivial
  go_enter Tryz.func185, Tryz.ntmps185
  go_wp2_with (first | (go_at_call 161; have _t := tok; (with_reducible refine (R1.out _ ((((Gr.refl w).alloc _).alloc _).alloc _)).mono ?_); rintro r w1 ⟨rfl, g1⟩; clear tok; have q0 := g1.keep TB'.out.1.1.2.2.2.1; have q1 := g1.keep TB'.out.1.1.2.2.2.2.1; have q2 := g1.keep TB'.out.1.1.2.2.2.2.2; have p0 := g1.keep TB'.out.1.1.1; have p1 := g1.keep TB'.out.1.1.2.1; have p2 := g1.keep TB'.out.1.1.2.2.1; have kb := g1.keepH TB'.out.2.1; obtain ⟨t0, t1, t2, u0, u1, u2⟩ := Out3.of kb))
  refine bodyPost_ret (v := .tuple #[zeroD, .int .i64 2]) ?_ rfl ⟨rfl, ?_⟩
  · simp [results, Tryz.results185, go_sem, t0, t1, t2, zeroD]
  · exact ((((((((Gr.refl w).alloc _).alloc _).alloc _).trans g1)).setCell (p := ⟨w.heap.size + 2, 0, none⟩) (by show _ ≤ w.heap.size + 2; omega) _).setCell (p := ⟨w.heap.size + 2, 1, none⟩) (by show _ ≤ w.heap.size + 2; omega) _).setCell (p := ⟨w.heap.size + 2, 2, none⟩) (by show _ ≤ w.heap.size + 2; omega) _
set_option maxRecDepth 10000 in
set_option maxHeartbeats 1600000 in
theorem reckonA2 (s t : Bool) (ad1 ad2 : Option Addr) (n1 n2 c1 c2 : Nat) (e f : Int) (fv : Value) (w : World)
    (R1 : Hid (∀ w1, Gr w w1 → Calls Tryz.prog 161 #[.agg #[.bool s, .slice ad1 n1 c1, .int .i64 e]] w1 fun r w' => r = .returned (.bool true) ∧ Gr w1 w'))
    (R2 : Hid (∀ w1, Gr w w1 → Calls Tryz.prog 161 #[.agg #[.bool t, .slice ad2 n2 c2, .int .i64 f]] w1 fun r w' => r = .returned (.bool false) ∧ Gr w1 w')) :
    Calls Tryz.prog 185 #[.agg #[.bool s, .slice ad1 n1 c1, .int .i64 e], .agg #[.bool t, .slice ad2 n2 c2, .int .i64 f], fv] w fun r w' => r = .returned (.tuple #[zeroD, .int .i64 2]) ∧ Gr w w' := by
  have TB := three_blocks w (.bool s) (.slice ad1 n1 c1) (.int .i64 e) (.bool t) (.slice ad2 n2 c2) (.int .i64 f) (.cells #[.bool false, .slice none 0 0, .int .i64 0] 121) _ rfl
  have TB' : Hid _ := TB
  clear TB
  have tok : True := trivial
  go_enter Tryz.func185, Tryz.ntmps185
  go_wp2_with (first | (go_at_call 161; have _t := tok; (with_reducible refine (R1.out _ ((((Gr.refl w).alloc _).alloc _).alloc _)).mono ?_); rintro r w1 ⟨rfl, g1⟩; clear tok; have q0 := g1.keep TB'.out.1.1.2.2.2.1; have q1 := g1.keep TB'.out.1.1.2.2.2.2.1; have q2 := g1.keep TB'.out.1.1.2.2.2.2.2; have p0 := g1.keep TB'.out.1.1.1; have p1 := g1.keep TB'.out.1.1.2.1; have p2 := g1.keep TB'.out.1.1.2.2.1; have kb := g1.keepH TB'.out.2.1; obtain ⟨t0, t1, t2, u0, u1, u2⟩ := Out3.of kb) | (go_at_call 161; (with_reducible refine (R2.out _ ?gg).mono ?_); (case gg => exact ((((Gr.refl w).alloc _).alloc _).alloc _).trans g1); rintro r w2 ⟨rfl, g2⟩; have kb2 := g2.keepH kb; clear q0 q1 q2 p0 p1 p2 t0 t1 t2 u0 u1 u2; obtain ⟨t0, t1, t2, u0, u1, u2⟩ := Out3.of kb2))
  refine bodyPost_ret (v := .tuple #[zeroD, .int .i64 2]) ?_ rfl ⟨rfl, ?_⟩
  · simp [results, Tryz.results185, go_sem, t0, t1, t2, zeroD]
  · exact (((((((((Gr.refl w).alloc _).alloc _).alloc _).trans g1).trans g2)).setCell (p := ⟨w.heap.size + 2, 0, none⟩) (by show _ ≤ w.heap.size + 2; omega) _).setCell (p := ⟨w.heap.size + 2, 1, none⟩) (by show _ ≤ w.heap.size + 2; omega) _).setCell (p := ⟨w.heap.size + 2, 2, none⟩) (by show _ ≤ w.heap.size + 2; omega) _
set_option maxRecDepth 10000 in
set_option maxHeartbeats 1600000 in
theorem wrapE6 (s t : Bool) (ad1 ad2 : Option Addr) (n1 n2 c1 c2 : Nat) (e f : Int) (w : World) (g : Int)
    (H : Hid (Calls Tryz.prog 185 #[.agg #[.bool s, .slice ad1 n1 c1, .int .i64 e], .agg #[.bool t, .slice ad2 n2 c2, .int .i64 f], .func (.func 186) #[] #[.pointer (some ⟨w.heap.size, 0, none⟩), .pointer (some ⟨w.heap.size + 1, 0, none⟩)]] (((w.alloc (.cells #[.bool s, .slice ad1 n1 c1, .int .i64 e] 121)).alloc (.cells #[.bool t, .slice ad2 n2 c2, .int .i64 f] 121)).alloc (.cells #[.bool false, .slice none 0 0, .int .i64 0] 121)) fun r w' => r = .returned (.tuple #[.agg #[.bool false, .slice none 0 0, .int .i64 0], .int .i64 g]) ∧ Gr (((w.alloc (.cells #[.bool s, .slice ad1 n1 c1, .int .i64 e] 121)).alloc (.cells #[.bool t, .slice ad2 n2 c2, .int .i64 f] 121)).alloc (.cells #[.bool false, .slice none 0 0, .int .i64 0] 121)) w')) :
    Calls Tryz.prog 174 #[.agg #[.bool s, .slice ad1 n1 c1, .int .i64 e], .agg #[.bool t, .slice ad2 n2 c2, .int .i64 f]] w fun r w' => r = .returned (.tuple #[zeroD, .int .i64 g]) ∧ Gr w w' := by
  have TB := three_blocks w (.bool s) (.slice ad1 n1 c1) (.int .i64 e) (.bool t) (.slice ad2 n2 c2) (.int .i64 f) (.cells #[.bool false, .slice none 0 0, .int .i64 0] 121) _ rfl
  have G0 := TB.2.2
  have TB' : Hid _ := TB
  clear TB
  go_enter Tryz.func174, Tryz.ntmps174
  go_wp2_with (go_at_call 185; (with_reducible refine H.out.mono ?_); rintro r w1 ⟨rfl, g4⟩; have kb4 := g4.keepH TB'.out.2.1; obtain ⟨t0, t1, t2, u0, u1, u2⟩ := Out3.of kb4)
  refine bodyPost_ret (v := .tuple #[zeroD, .int .i64 g]) ?_ rfl ⟨rfl, ?_⟩
  · simp [results, Tryz.results174, go_sem, t0, t1, t2, zeroD]
  · exact (((G0.trans g4).setCell (p := ⟨w.heap.size + 2, 0, none⟩) (by show _ ≤ w.heap.size + 2; omega) _).setCell (p := ⟨w.heap.size + 2, 1, none⟩) (by show _ ≤ w.heap.size + 2; omega) _).setCell (p := ⟨w.heap.size + 2, 2, none⟩) (by show _ ≤ w.heap.size + 2; omega) _
theorem op6A1 (s t : Bool) (ad1 ad2 : Option Addr) (n1 n2 c1 c2 : Nat) (e f : Int) (w : World)
    (R1 : Hid (∀ w1, Gr w w1 → Calls Tryz.prog 161 #[.agg #[.bool s, .slice ad1 n1 c1, .int .i64 e]] w1 fun r w' => r = .returned (.bool false) ∧ Gr w1 w')) :
    Calls Tryz.prog 174 #[.agg #[.bool s, .slice ad1 n1 c1, .int .i64 e], .agg #[.bool t, .slice ad2 n2 c2, .int .i64 f]] w fun r w' => r = .returned (.tuple #[zeroD, .int .i64 2]) ∧ Gr w w' := by
  have G0 : Gr w (((w.alloc (.cells #[.bool s, .slice ad1 n1 c1, .int .i64 e] 121)).alloc (.cells #[.bool t, .slice ad2 n2 c2, .int .i64 f] 121)).alloc (.cells #[.bool false, .slice none 0 0, .int .i64 0] 121)) := (((Gr.refl w).alloc _).alloc _).alloc _
  exact wrapE6 s t ad1 ad2 n1 n2 c1 c2 e f w 2 (reckonA1 s t ad1 ad2 n1 n2 c1 c2 e f _ _ (fun w1 g => R1.out w1 (G0.trans g)))
theorem op6A2 (s t : Bool) (ad1 ad2 : Option Addr) (n1 n2 c1 c2 : Nat) (e f : Int) (w : World)
    (R1 : Hid (∀ w1, Gr w w1 → Calls Tryz.prog 161 #[.agg #[.bool s, .slice ad1 n1 c1, .int .i64 e]] w1 fun r w' => r = .returned (.bool true) ∧ Gr w1 w'))
    (R2 : Hid (∀ w1, Gr w w1 → Calls Tryz.prog 161 #[.agg #[.bool t, .slice ad2 n2 c2, .int .i64 f]] w1 fun r w' => r = .returned (.bool false) ∧ Gr w1 w')) :
    Calls Tryz.prog 174 #[.agg #[.bool s, .slice ad1 n1 c1, .int .i64 e], .agg #[.bool t, .slice ad2 n2 c2, .int .i64 f]] w fun r w' => r = .returned (.tuple #[zeroD, .int .i64 2]) ∧ Gr w w' := by
  have G0 : Gr w (((w.alloc (.cells #[.bool s, .slice ad1 n1 c1, .int .i64 e] 121)).alloc (.cells #[.bool t, .slice ad2 n2 c2, .int .i64 f] 121)).alloc (.cells #[.bool false, .slice none 0 0, .int .i64 0] 121)) := (((Gr.refl w).alloc _).alloc _).alloc _
  exact wrapE6 s t ad1 ad2 n1 n2 c1 c2 e f w 2 (reckonA2 s t ad1 ad2 n1 n2 c1 c2 e f _ _ (fun w1 g => R1.out w1 (G0.trans g)) (fun w1 g => R2.out w1 (G0.trans g)))
set_option maxRecDepth 10000 in
set_option maxHeartbeats 1600000 in
theorem wrapE8 (s t : Bool) (ad1 ad2 : Option Addr) (n1 n2 c1 c2 : Nat) (e f : Int) (w : World) (g : Int)
    (H : Hid (Calls Tryz.prog 185 #[.agg #[.bool s, .slice ad1 n1 c1, .int .i64 e], .agg #[.bool t, .slice ad2 n2 c2, .int .i64 f], .func (.func 190) #[] #[.pointer (some ⟨w.heap.size, 0, none⟩), .pointer (some ⟨w.heap.size + 1, 0, none⟩)]] (((w.alloc (.cells #[.bool s, .slice ad1 n1 c1, .int .i64 e] 121)).alloc (.cells #[.bool t, .slice ad2 n2 c2, .int .i64 f] 121)).alloc (.cells #[.bool false, .slice none 0 0, .int .i64 0] 121)) fun r w' => r = .returned (.tuple #[.agg #[.bool false, .slice none 0 0, .int .i64 0], .int .i64 g]) ∧ Gr (((w.alloc (.cells #[.bool s, .slice ad1 n1 c1, .int .i64 e] 121)).alloc (.cells #[.bool t, .slice ad2 n2 c2, .int .i64 f] 121)).alloc (.cells #[.bool false, .slice none 0 0, .int .i64 0] 121)) w')) :
    Calls Tryz.prog 177 #[.agg #[.bool s, .slice ad1 n1 c1, .int .i64 e], .agg #[.bool t, .slice ad2 n2 c2, .int .i64 f]] w fun r w' => r = .returned (.tuple #[zeroD, .int .i64 g]) ∧ Gr w w' := by
  have TB := three_blocks w (.bool s) (.slice ad1 n1 c1) (.int .i64 e) (.bool t) (.slice ad2 n2 c2) (.int .i64 f) (.cells #[.bool false, .slice none 0 0, .int .i64 0] 121) _ rfl
  have G0 := TB.2.2
  have TB' : Hid _ := TB
  clear TB
  go_enter Tryz.func177, Tryz.ntmps177
  go_wp2_with (go_at_call 185; (with_reducible refine H.out.mono ?_); rintro r w1 ⟨rfl, g4⟩; have kb4 := g4.keepH TB'.out.2.1; obtain ⟨t0, t1, t2, u0, u1, u2⟩ := Out3.of kb4)
  refine bodyPost_ret (v := .tuple #[zeroD, .int .i64 g]) ?_ rfl ⟨rfl, ?_⟩
  · simp [results, Tryz.results177, go_sem, t0, t1, t2, zeroD]
  · exact (((G0.trans g4).setCell (p := ⟨w.heap.size + 2, 0, none⟩) (by show _ ≤ w.heap.size + 2; omega) _).setCell (p := ⟨w.heap.size + 2, 1, none⟩) (by show _ ≤ w.heap.size + 2; omega) _).setCell (p := ⟨w.heap.size + 2, 2, none⟩) (by show _ ≤ w.heap.size + 2; omega) _
theorem op8A1 (s t : Bool) (ad1 ad2 : Option Addr) (n1 n2 c1 c2 : Nat) (e f : Int) (w : World)
    (R1 : Hid (∀ w1, Gr w w1 → Calls Tryz.prog 161 #[.agg #[.bool s, .slice ad1 n1 c1, .int .i64 e]] w1 fun r w' => r = .returned (.bool false) ∧ Gr w1 w')) :
    Calls Tryz.prog 177 #[.agg #[.bool s, .slice ad1 n1 c1, .int .i64 e], .agg #[.bool t, .slice ad2 n2 c2, .int .i64 f]] w fun r w' => r = .returned (.tuple #[zeroD, .int .i64 2]) ∧ Gr w w' := by
  have G0 : Gr w (((w.alloc (.cells #[.bool s, .slice ad1 n1 c1, .int .i64 e] 121)).alloc (.cells #[.bool t, .slice ad2 n2 c2, .int .i64 f] 121)).alloc (.cells #[.bool false, .slice none 0 0, .int .i64 0] 121)) := (((Gr.refl w).alloc _).alloc _).alloc _
  exact wrapE8 s t ad1 ad2 n1 n2 c1 c2 e f w 2 (reckonA1 s t ad1 ad2 n1 n2 c1 c2 e f _ _ (fun w1 g => R1.out w1 (G0.trans g)))
theorem op8A2 (s t : Bool) (ad1 ad2 : Option Addr) (n1 n2 c1 c2 : Nat) (e f : Int) (w : World)
    (R1 : Hid (∀ w1, Gr w w1 → Calls Tryz.prog 161 #[.agg #[.bool s, .slice ad1 n1 c1, .int .i64 e]] w1 fun r w' => r = .returned (.bool true) ∧ Gr w1 w'))
    (R2 : Hid (∀ w1, Gr w w1 → Calls Tryz.prog 161 #[.agg #[.bool t, .slice ad2 n2 c2, .int .i64 f]] w1 fun r w' => r = .returned (.bool false) ∧ Gr w1 w')) :
    Calls Tryz.prog 177 #[.agg #[.bool s, .slice ad1 n1 c1, .int .i64 e], .agg #[.bool t, .slice ad2 n2 c2, .int .i64 f]] w fun r w' => r = .returned (.tuple #[zeroD, .int .i64 2]) ∧ Gr w w' := by
  have G0 : Gr w (((w.alloc (.cells #[.bool s, .slice ad1 n1 c1, .int .i64 e] 121)).alloc (.cells #[.bool t, .slice ad2 n2 c2, .int .i64 f] 121)).alloc (.cells #[.bool false, .slice none 0 0, .int .i64 0] 121)) := (((Gr.refl w).alloc _).alloc _).alloc _
  exact wrapE8 s t ad1 ad2 n1 n2 c1 c2 e f w 2 (reckonA2 s t ad1 ad2 n1 n2 c1 c2 e f _ _ (fun w1 g => R1.out w1 (G0.trans g)) (fun w1 g => R2.out w1 (G0.trans g)))
end Go.Proofs.YtlhpkflknfmjcaaGreatDoor
namespace Go.Proofs.YtlhpkflknfmjcaaGreatDoor
open Go.RowKit
set_option linter.unusedVariables false

theorem DyAt.bl {w : World} {s : Bool} {ad : Option Addr} {n cap : Nat} {e : Int} {x : Nat} (h : DyAt w s ad n cap e x) : bl x ≤ 262144 := by
  obtain ⟨xs, h1, h2⟩ := h.lim
  have h3 := bl_len h2
  rw [h1.len] at h3
  have := h.le
  omega
theorem DyAt.lt {w : World} {s : Bool} {ad : Option Addr} {n cap : Nat} {e : Int} {x : Nat} (h : DyAt w s ad n cap e x) : x < 18446744073709551616 ^ L4096 := by
  obtain ⟨xs, h1, h2⟩ := h.lim
  refine Nat.lt_of_lt_of_le h2.upper (Nat.pow_le_pow_right (by omega) ?_)
  rw [h1.len, L4096_eq]; exact h.le
theorem DyAt.odd {w : World} {s : Bool} {ad : Option Addr} {n cap : Nat} {e : Int} {x : Nat} (h : DyAt w s ad n cap e x) : x = 0 ∨ ∃ q, x = 2 * q + 1 := by
  rcases h.right with ⟨h, _⟩ | ⟨q, h, _⟩
  · exact Or.inl h
  · exact Or.inr ⟨q, h⟩
theorem bl_mul (x y : Nat) : bl (x * y) ≤ bl x + bl y := by
  refine bl_le_of_lt ?_
  rw [Nat.pow_add]
  exact Nat.mul_lt_mul'' (bl_lt x) (bl_lt y)
end Go.Proofs.YtlhpkflknfmjcaaGreatDoor
