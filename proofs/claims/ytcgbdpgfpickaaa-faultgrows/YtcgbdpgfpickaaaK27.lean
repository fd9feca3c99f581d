import Derived.Test.YtcgbdpgfpickaaaK26
import Derived.Laws.CopyOwn
namespace Go.Proofs.Ytcgbdpgfpickaaa
open Go.RowKit
set_option linter.unusedVariables false

theorem nv_pad (ms : List Nat) (k : Nat) : nv 18446744073709551616 (ms ++ List.replicate k 0) = nv 18446744073709551616 ms := by
  rw [nv_append, nv_zeros, Nat.mul_zero, Nat.add_zero]
theorem pad_lt {ms : List Nat} (h : ∀ z ∈ ms, z < 18446744073709551616) (k : Nat) : ∀ z ∈ ms ++ List.replicate k 0, z < 18446744073709551616 := by
  intro z hz
  rcases List.mem_append.1 hz with h1 | h1
  · exact h z h1
  · rw [List.mem_replicate] at h1; omega
theorem splice_pad (ms : List Nat) (N : Nat) : splice (u64s (List.replicate N 0)) 0 (u64s ms) = u64s (ms ++ List.replicate (N - ms.length) 0) := by
  simp [splice, u64s]
theorem Try.size47 : (Try.prog.info? 47).map (·.size) = some 1 := by kernel_rfl
/-- A NUMBER's LIMBS OVER A NEW ROW -/
theorem wpList_copied {w : World} {ops : Array Oper} {rest : List Oper} {o : Oper} {a : Act} {Q : Exit → Act → World → Prop} (hgd : o.guard = none) (d s : Operand)
    (ho : o.op = .call { callee := .builtin .copy, args := #[d, s], argTypes := #[52, 52] }) (g N : Nat) (hd : a.eval d = .slice (some ⟨g, 0, none⟩) N N) (sp : Option Addr) (sLen sCap : Nat) (hs : a.eval s = .slice sp sLen sCap)
    (ms : List Nat) (hm : Row w sp sLen sCap ms) (hle : sLen ≤ N) (how : w.ownsRow g 47 1 (.slice (some ⟨g, 0, none⟩) N N) N (u64s (List.replicate N 0)))
    (hK : ∀ w', w'.ownsRow g 47 1 (.slice (some ⟨g, 0, none⟩) N N) N (u64s (ms ++ List.replicate (N - sLen) 0)) → Hid (∀ w0, w0.heap.size ≤ g → Gr w0 w → Gr w0 w') → g < w'.heap.size → wpList Try.prog ops Q rest (a.put o.dst (goInt (u64s ms).length)) w') :
    wpList Try.prog ops Q (o :: rest) a w := by
  have hml := hm.len
  rcases how.2 with ⟨h1, h2⟩ | ⟨g', cap, cur, e1, hb, hgg, r1, r2, r3, r4⟩
  · cases h1
  · simp only [Value.slice.injEq, Option.some.injEq, Addr.mk.injEq, true_and, and_true] at e1
    obtain ⟨rfl, rfl⟩ := e1
    have hcur : cur = (u64s (List.replicate N 0)).toArray := by
      rw [← r4, List.take_of_length_le (by rw [Array.length_toList, r3]; exact Nat.le_refl _)]
    have hg' : w.heap[g]? = some (.cells (u64s (List.replicate N 0)).toArray 47 (0, 0)) := by rw [← hcur]; exact hgg
    refine wpList_copy_splice hgd d s 52 52 ho 47 Try.underlying52 Try.size47 (some ⟨g, 0, none⟩) sp N N sLen sCap hd hs g 0 (u64s (List.replicate N 0)) 47 hg' (u64s ms) (by rw [u64s_length, hml]; exact (Nat.min_eq_left hle).symm) (fun hp => ?_) (by rw [u64s_length, u64s_length, List.length_replicate, hml]; omega) (one_u64 ms) g w ⟨rfl, rfl, rfl, Nat.le_refl _, fun _ _ => rfl⟩ (Nat.le_refl _) (fun w' hh hb' => ?_)
    · rw [u64s_length, hml] at hp
      obtain ⟨b, off, rfl, hb2, hc⟩ := hm.cells hp
      refine ⟨rfl, _, rfl, fun j v hj => ?_⟩
      have hjl : j < ms.length := by
        refine Nat.lt_of_not_le fun hle' => ?_
        rw [List.getElem?_eq_none (by rw [u64s_length]; exact hle')] at hj
        cases hj
      rw [u64s_getD hjl] at hj
      rw [← hj]
      have := hc j (by omega)
      rcases Nat.eq_zero_or_pos j with rfl | hj0
      · simpa [Addr.add] using this
      · rw [show (Addr.add ⟨b, off, none⟩ j) = ⟨b, off + j, none⟩ by simp [Addr.add]; omega]
        exact this
    · rw [splice_pad, hml] at hh
      have hlt : g < w'.heap.size := lt_of_heap hh.out
      refine hK w' ⟨?_, .inr ⟨g, N, _, rfl, Nat.le_refl _, hh.out, Nat.le_refl _, r2, ?_, ?_⟩⟩ (fun w0 h0 g0 => ⟨hb'.os.trans g0.os, hb'.output.trans g0.output, Nat.le_trans g0.size hb'.size, fun k hk => (hb'.block k (Nat.lt_of_lt_of_le hk h0)).trans (g0.block k hk)⟩) hlt
      · rw [u64s_length, List.length_append, List.length_replicate, hml]; omega
      · rw [List.size_toArray, u64s_length, List.length_append, List.length_replicate, hml]; omega
      · rw [List.toList_toArray, List.take_of_length_le]
        rw [u64s_length, List.length_append, List.length_replicate, hml]; omega
/-- how many limbs -/
theorem lim_lenD {w : World} {ad : Option Addr} {n cap x k : Nat} (h : Lim w ad n cap 18446744073709551616 x) (h1 : 18446744073709551616 ^ k ≤ x) (h2 : x < 18446744073709551616 ^ (k + 1)) : n = k + 1 := by
  obtain ⟨xs, r, d⟩ := h
  have u := d.upper
  rw [r.len] at u
  have g1 : k < n := by
    refine Nat.lt_of_not_le fun hle => ?_
    have : 18446744073709551616 ^ n ≤ 18446744073709551616 ^ k := Nat.pow_le_pow_right (by omega) hle
    omega
  refine Nat.le_antisymm (Nat.le_of_not_lt fun hlt => ?_) g1
  have l := d.lower (k := n - 1) (by rw [r.len]; omega)
  have : 18446744073709551616 ^ (k + 1) ≤ 18446744073709551616 ^ (n - 1) := Nat.pow_le_pow_right (by omega) (by omega)
  omega
/-- what the long division holds -/
structure QuoAt (qs zs : List Nat) (X V j Q N : Nat) : Prop where
  lq : qs.length = Q
  bq : ∀ z ∈ qs, z < 18446744073709551616
  lz : zs.length = N
  bz : ∀ z ∈ zs, z < 18446744073709551616
  val : X = nv 18446744073709551616 (qs.drop j) * (18446744073709551616 ^ j * V) + nv 18446744073709551616 zs
  up : nv 18446744073709551616 zs < 18446744073709551616 ^ j * V
theorem QuoAt.next {qs zs zs' : List Nat} {X V j Q N x : Nat} (h : QuoAt qs zs X V (j + 1) Q N) (hj : j < Q) (hx : x < 18446744073709551616) (l : zs'.length = N) (b : ∀ z ∈ zs', z < 18446744073709551616) (v : nv 18446744073709551616 zs' + 18446744073709551616 ^ j * (x * V) = nv 18446744073709551616 zs) (u : nv 18446744073709551616 zs' < 18446744073709551616 ^ j * V) : QuoAt (qs.set j x) zs' X V j Q N := by
  have hq := h.lq
  refine ⟨by rw [List.length_set]; exact hq, set_lt h.bq hx, l, b, ?_, u⟩
  rw [nv_drop_set _ (by omega), h.val, ← v, Nat.pow_succ]
  generalize nv 18446744073709551616 (qs.drop (j + 1)) = A
  generalize 18446744073709551616 ^ j = P
  rw [Nat.add_mul]
  have e1 : A * (P * 18446744073709551616 * V) = 18446744073709551616 * A * (P * V) := by ac_rfl
  have e2 : x * (P * V) = P * (x * V) := by ac_rfl
  omega
theorem QuoAt.done {qs zs : List Nat} {X V Q N : Nat} (h : QuoAt qs zs X V 0 Q N) (hV : 0 < V) : nv 18446744073709551616 qs = X / V := by
  have h1 := h.val
  have h2 := h.up
  rw [Nat.pow_zero, Nat.one_mul] at h1 h2
  rw [List.drop_zero] at h1
  rw [h1, Nat.mul_comm, Nat.mul_add_div hV, Nat.div_eq_of_lt h2, Nat.add_zero]
end Go.Proofs.Ytcgbdpgfpickaaa
namespace Go.Proofs.Ytcgbdpgfpickaaa
open Go.RowKit
set_option linter.unusedVariables false

theorem lim_le {w w' : World} {ad ad' : Option Addr} {n n' cap cap' x y : Nat} (h : Lim w ad n cap 18446744073709551616 x) (h' : Lim w' ad' n' cap' 18446744073709551616 y) (hxy : x ≤ y) : n ≤ n' := by
  obtain ⟨xs, r, d⟩ := h
  obtain ⟨ys, r', d'⟩ := h'
  rw [← r.len, ← r'.len]
  exact d.len_le (by omega) d' hxy
theorem lim_lt {w w' : World} {ad ad' : Option Addr} {n n' cap cap' x y : Nat} (h : Lim w ad n cap 18446744073709551616 x) (h' : Lim w' ad' n' cap' 18446744073709551616 y) (hn : n < n') : x < y := by
  obtain ⟨xs, r, d⟩ := h
  obtain ⟨ys, r', d'⟩ := h'
  exact d.lt_of_len (by omega) d' (by rw [r.len, r'.len]; exact hn)
theorem lim_nil (w : World) : Lim w none 0 0 18446744073709551616 0 := ⟨[], Row.empty (by omega) (fun _ => rfl), Dg.nil⟩
/-- the root of the upper bits, less than 1 off -/
structure RtAt (M half have' r : Nat) : Prop where
  below : (r - 1) * (r - 1) * 2 ^ (2 * (half - have')) < M
  above : M < (r + 1) * (r + 1) * 2 ^ (2 * (half - have'))
  le : have' ≤ half
theorem sq_lt_sq {a b : Nat} (h : a * a < b * b) : a < b := by
  refine Nat.lt_of_not_le fun hle => ?_
  have := Nat.mul_le_mul hle hle
  omega
theorem RtAt.low {M half h r : Nat} (a : RtAt M half h r) (hM : 2 ^ (2 * half) ≤ M) : 2 ^ h ≤ r := by
  have h1 := Nat.lt_of_le_of_lt hM a.above
  have h2 : 2 ^ (2 * half) = 2 ^ h * 2 ^ h * 2 ^ (2 * (half - h)) := by
    rw [← Nat.pow_add, ← Nat.pow_add]; congr 1; have := a.le; omega
  rw [h2] at h1
  have := sq_lt_sq (Nat.lt_of_mul_lt_mul_right h1)
  omega
theorem RtAt.start {M half : Nat} (h1 : 0 < M) (h2 : M < 2 ^ (2 * half + 2)) : RtAt M half 0 1 := by
  refine ⟨by simpa using h1, ?_, Nat.zero_le _⟩
  rw [Nat.pow_add] at h2
  rw [Nat.sub_zero]
  omega
theorem RtAt.leM {M half h r : Nat} (a : RtAt M half h r) : r ≤ M := by
  have h1 := a.below
  have h2 : (r - 1) * 1 ≤ (r - 1) * 2 ^ (2 * (half - h)) := Nat.mul_le_mul_left _ (Nat.two_pow_pos _)
  rcases Nat.lt_or_ge (r - 1) 1 with h3 | h3
  · have : 0 < M := Nat.lt_of_le_of_lt (Nat.zero_le _) h1
    omega
  · have h4 : 1 * ((r - 1) * 2 ^ (2 * (half - h))) ≤ (r - 1) * ((r - 1) * 2 ^ (2 * (half - h))) := Nat.mul_le_mul_right _ h3
    rw [← Nat.mul_assoc (r - 1)] at h4
    omega
theorem RtAt.next {M half h r w d t : Nat} (a : RtAt M half h r) (hM : 2 ^ (2 * half) ≤ M) (hw : w ≤ half) (hd : w = h + d + 1) (hdh : d ≤ h) (ht : t + h + w = 2 * half + 1) : RtAt M half w (r * 2 ^ d + M / 2 ^ t / r) := by
  have hlow := a.low hM
  have hr : 0 < r := Nat.lt_of_lt_of_le (Nat.two_pow_pos h) hlow
  have hK : 2 ^ d ≤ r := Nat.le_trans (Nat.pow_le_pow_right (by omega) hdh) hlow
  have e1 : 2 ^ (2 * (half - w)) * (4 * (2 ^ d * 2 ^ d)) = 2 ^ (2 * (half - h)) := by
    rw [show (4 : Nat) = 2 ^ 2 from rfl, ← Nat.pow_add, ← Nat.pow_add, ← Nat.pow_add]; congr 1; omega
  have e2 : 2 ^ (2 * (half - w)) * (4 * 2 ^ d) = 2 ^ t := by
    rw [show (4 : Nat) = 2 ^ 2 from rfl, ← Nat.pow_add, ← Nat.pow_add]; congr 1; omega
  have hP : 0 < 2 ^ t * r := Nat.mul_pos (Nat.two_pow_pos t) hr
  have q1 : M / 2 ^ t / r * (2 ^ (2 * (half - w)) * (4 * 2 ^ d) * r) ≤ M := by
    rw [e2, Nat.div_div_eq_div_mul]; exact Nat.div_mul_le_self _ _
  have q2 : M < (M / 2 ^ t / r + 1) * (2 ^ (2 * (half - w)) * (4 * 2 ^ d) * r) := by
    rw [e2, Nat.div_div_eq_div_mul, Nat.add_mul, Nat.one_mul]; exact Nat.lt_div_mul_add hP
  have A := root_above q2
  have B := root_below (Nat.two_pow_pos _) hK (Nat.two_pow_pos _) q1 (by rw [e1]; exact a.below) (by rw [e1]; exact a.above)
  rw [Nat.mul_comm (2 ^ d) r] at A B
  exact ⟨B, A, hw⟩
end Go.Proofs.Ytcgbdpgfpickaaa
namespace Go.Proofs.Ytcgbdpgfpickaaa
open Go.RowKit
set_option linter.unusedVariables false

end Go.Proofs.Ytcgbdpgfpickaaa
namespace Go.Proofs.Ytcgbdpgfpickaaa
open Go.RowKit
set_option linter.unusedVariables false

theorem rt_exists : ∀ M : Nat, ∃ R, R * R ≤ M ∧ M < (R + 1) * (R + 1)
  | 0 => ⟨0, by omega, by omega⟩
  | M + 1 => by
    obtain ⟨R, h1, h2⟩ := rt_exists M
    by_cases h : M + 1 < (R + 1) * (R + 1)
    · exact ⟨R, by omega, h⟩
    · refine ⟨R + 1, by omega, ?_⟩
      have : (R + 1 + 1) * (R + 1 + 1) = (R + 1) * (R + 1) + (R + 1) + (R + 1) + 1 := by
        rw [Nat.add_mul (R + 1) 1, Nat.mul_add (R + 1) (R + 1) 1]; omega
      omega
theorem rt_unique {M R S : Nat} (h1 : R * R ≤ M) (h2 : M < (R + 1) * (R + 1)) (h3 : S * S ≤ M) (h4 : M < (S + 1) * (S + 1)) : R = S := by
  have a := sq_lt_sq (Nat.lt_of_le_of_lt h1 h4)
  have b := sq_lt_sq (Nat.lt_of_le_of_lt h3 h2)
  omega
end Go.Proofs.Ytcgbdpgfpickaaa
namespace Go.Proofs.Ytcgbdpgfpickaaa
open Go.RowKit
set_option linter.unusedVariables false

/-- what the root is of, in whole units of its square -/
def RM (x : Nat) (pw : Int) : Nat := if pw < 0 then x / 2 ^ (-pw).toNat else x * 2 ^ pw.toNat
def RUp (x : Nat) (pw : Int) (R : Nat) (up : Bool) : Nat := if up = true ∧ ¬ (R * R = RM x pw ∧ 0 ≤ pw) then R + 1 else R
end Go.Proofs.Ytcgbdpgfpickaaa
