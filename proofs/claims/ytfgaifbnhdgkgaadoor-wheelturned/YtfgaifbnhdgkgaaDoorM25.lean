import Derived.Test.YtfgaifbnhdgkgaaDoorM24
import Derived.Test.YtfgaifbnhdgkgaaDoorM20
import Derived.Test.YtfgaifbnhdgkgaaDoorM22
import Derived.Deep.DeepCutAuto
import Derived.Deep.RegionWith
namespace Go.Proofs.YtfgaifbnhdgkgaaDoor
open Go.RowKit
set_option linter.unusedVariables false

def leB (k a X : Nat) : Bool := decide (4294967296 ^ k * a ≤ X)
theorem leB_t {k a X : Nat} (h : 4294967296 ^ k * a ≤ X) : leB k a X = true := by simp [leB, h]
theorem leB_f {k a X : Nat} (h : ¬ 4294967296 ^ k * a ≤ X) : leB k a X = false := by unfold leB; exact decide_eq_false h
/-- what the comparison from the top says -/
theorem top_lt {ps zs : List Nat} {k m j : Nat} (hp : ∀ z ∈ ps, z < 4294967296) (hz : ∀ z ∈ zs, z < 4294967296) (hl : ps.length = m) (hN : k + m ≤ zs.length) (h0 : ∀ i, k + m ≤ i → zs.getD i 0 = 0) (hj : j < m) (he : ∀ t, j + 1 ≤ t → t < m → ps.getD t 0 = zs.getD (k + t) 0) (hlt : ps.getD j 0 < zs.getD (k + j) 0) : 4294967296 ^ k * nv 4294967296 ps ≤ nv 4294967296 zs := by
  have h := nv_cmp_top ps ((zs.drop k).take m) hp (cut_lt hz) (by rw [hl, cut_len hN]) j (by omega) (fun t h1 h2 => by rw [cut_at (by omega)]; exact he t (by omega) (by omega)) (by rw [cut_at hj]; exact hlt)
  rw [cut_val hz hN h0] at h
  exact Nat.le_trans (Nat.mul_le_mul_left _ (Nat.le_of_lt h)) (Nat.mul_div_le _ _)
theorem top_gt {ps zs : List Nat} {k m j : Nat} (hp : ∀ z ∈ ps, z < 4294967296) (hz : ∀ z ∈ zs, z < 4294967296) (hl : ps.length = m) (hN : k + m ≤ zs.length) (h0 : ∀ i, k + m ≤ i → zs.getD i 0 = 0) (hj : j < m) (he : ∀ t, j + 1 ≤ t → t < m → ps.getD t 0 = zs.getD (k + t) 0) (hlt : zs.getD (k + j) 0 < ps.getD j 0) : ¬ 4294967296 ^ k * nv 4294967296 ps ≤ nv 4294967296 zs := by
  have h := nv_cmp_top ((zs.drop k).take m) ps (cut_lt hz) hp (by rw [hl, cut_len hN]) j (by rw [cut_len hN]; exact hj) (fun t h1 h2 => by rw [cut_len hN] at h2; rw [cut_at h2]; exact (he t (by omega) h2).symm) (by rw [cut_at hj]; exact hlt)
  rw [cut_val hz hN h0] at h
  intro hle
  have := (Nat.le_div_iff_mul_le (Nat.pow_pos (by omega : 0 < 4294967296))).2 (Nat.mul_comm _ _ ▸ hle)
  omega
theorem top_eq {ps zs : List Nat} {k m : Nat} (hl : ps.length = m) (hz : ∀ z ∈ zs, z < 4294967296) (hN : k + m ≤ zs.length) (h0 : ∀ i, k + m ≤ i → zs.getD i 0 = 0) (he : ∀ t, 0 ≤ t → t < m → ps.getD t 0 = zs.getD (k + t) 0) : 4294967296 ^ k * nv 4294967296 ps ≤ nv 4294967296 zs := by
  have : ps = (zs.drop k).take m := ext_getD (by rw [hl, cut_len hN]) (fun j hj => by rw [cut_at (by omega)]; exact he j (by omega) (by omega))
  rw [this, cut_val hz hN h0]
  exact Nat.mul_div_le _ _
end Go.Proofs.YtfgaifbnhdgkgaaDoor
namespace Go.Proofs.YtfgaifbnhdgkgaaDoor
open Go.RowKit
set_option linter.unusedVariables false

theorem Gr.gx {g : Nat} {a w w' : World} (h : Gr a w) (hg : a.heap.size ≤ g) (gx : Gx g w w') : Gr a w' :=
  ⟨gx.os.trans h.os, gx.output.trans h.output, Nat.le_trans h.size gx.size, fun k hk => (gx.block k (Nat.lt_of_lt_of_le hk h.size) (by omega)).trans (h.block k hk)⟩
theorem long_start {xs ys us vs : List Nat} {n m c : Nat} (hx : ∀ z ∈ xs, z < 4294967296) (hxl : xs.length = n) (hyl : ys.length = m + 1) (hmn : m + 1 ≤ n) (ht : 0 < ys.getD m 0) (hul : us.length = n + 1) (hu : ∀ z ∈ us, z < 4294967296) (huv : nv 4294967296 us = c * nv 4294967296 xs) (hvv : nv 4294967296 vs = c * nv 4294967296 ys) (hc : 0 < c) : LgAt us (List.replicate (n - m) 0) (n - m) (n + 1) (n - m) (nv 4294967296 vs) (c * nv 4294967296 xs) := by
  refine ⟨hul, by simp, hu, (fun z hz => by rw [List.mem_replicate] at hz; omega), by rw [nv_zeros, Nat.zero_mul, Nat.zero_add, huv], ?_, fun j _ => getD_rep _ _⟩
  have h1 := nv_lt 4294967296 xs hx
  rw [hxl] at h1
  have e := nv_take_succ 4294967296 ys m
  rw [nv_take_all _ _ _ (by omega)] at e
  have h2 : 4294967296 ^ m ≤ nv 4294967296 ys := by
    have := Nat.mul_le_mul_left (4294967296 ^ m) ht
    omega
  rw [huv, hvv]
  have h3 : 4294967296 ^ (n - m) * (c * nv 4294967296 ys) = c * (4294967296 ^ (n - m) * nv 4294967296 ys) := Nat.mul_left_comm _ _ _
  rw [h3]
  refine Nat.mul_lt_mul_of_pos_left (Nat.lt_of_lt_of_le h1 ?_) hc
  have h4 := Nat.mul_le_mul_left (4294967296 ^ (n - m)) h2
  rwa [← Nat.pow_add, show n - m + m = n by omega] at h4
theorem top_pos {ys vs : List Nat} {m c : Nat} (hyl : ys.length = m + 1) (ht : 0 < ys.getD m 0) (hvl : vs.length = m + 1) (hv : ∀ z ∈ vs, z < 4294967296) (hvv : nv 4294967296 vs = c * nv 4294967296 ys) (hc : 0 < c) : 0 < vs.getD m 0 := by
  rcases Nat.eq_zero_or_pos (vs.getD m 0) with h | h
  · exfalso
    have h1 : nv 4294967296 vs < 4294967296 ^ m := nv_small hv (fun i hi => by
      rcases Nat.lt_or_ge i (m + 1) with h3 | h3
      · obtain rfl : i = m := by omega
        exact h
      · rw [List.getD_eq_getElem?_getD, List.getElem?_eq_none (by omega)]; rfl)
    have e := nv_take_succ 4294967296 ys m
    rw [nv_take_all _ _ _ (by omega)] at e
    have h2 := Nat.mul_le_mul_left (4294967296 ^ m) ht
    have h3 := Nat.mul_le_mul_right (nv 4294967296 ys) hc
    omega
  · exact h
theorem lg_zero {us outs : List Nat} {k m L M V N : Nat} (h : LgAt us outs (k + 1) L M V N) (hV : V < 4294967296 ^ (m + 1)) : ∀ i, k + (m + 1 + 1) ≤ i → us.getD i 0 = 0 := by
  refine nv_zero_above h.ult ?_
  refine Nat.lt_of_lt_of_le h.lt ?_
  have := Nat.mul_le_mul_left (4294967296 ^ (k + 1)) (Nat.le_of_lt hV)
  rwa [← Nat.pow_add, show k + 1 + (m + 1) = k + (m + 1 + 1) by omega] at this
theorem div_lt_B {u k V : Nat} (h : u < 4294967296 ^ (k + 1) * V) : u / 4294967296 ^ k / V < 4294967296 := by
  rw [Nat.div_div_eq_div_mul]
  refine Nat.div_lt_of_lt_mul ?_
  rw [Nat.mul_right_comm, ← Nat.pow_succ]; exact h
theorem no_less {u k q V : Nat} (h : ¬ 4294967296 ^ k * (q * V) ≤ u) (hV : 0 < V) : u / 4294967296 ^ k / V < q := by
  rw [Nat.div_div_eq_div_mul]
  refine Nat.div_lt_of_lt_mul ?_
  rw [Nat.mul_assoc, Nat.mul_comm V]; omega
theorem guess_min {a g : Nat} (h1 : g ≤ a) (h2 : g < 4294967296) : g ≤ min a 4294967295 := by omega
theorem min_lt (a : Nat) : min a 4294967295 < 4294967296 := by omega
theorem min_cast {b u1 u0 vt : Nat} {B : Int} (hB : B = (b : Int)) : min (((u1 : Int) * B + (u0 : Int)) / (vt : Int)) 4294967295 = ((min ((u1 * b + u0) / vt) 4294967295 : Nat) : Int) := by
  have : ((u1 : Int) * B + (u0 : Int)) / (vt : Int) = (((u1 * b + u0) / vt : Nat) : Int) := by
    rw [hB, Int.natCast_ediv, Int.natCast_add, Int.natCast_mul]
  rw [this]
  generalize (u1 * b + u0) / vt = a
  omega
end Go.Proofs.YtfgaifbnhdgkgaaDoor
namespace Go.Proofs.YtfgaifbnhdgkgaaDoor
open Go.RowKit
set_option linter.unusedVariables false

theorem Dg.top {B n : Nat} {xs : List Nat} (h : Dg B n xs) {k : Nat} (hk : xs.length = k + 1) : 0 < xs.getD k 0 := by
  have h3 := h.2.2
  refine Nat.pos_of_ne_zero fun h0 => ?_
  have hB : 0 < B := Nat.lt_of_le_of_lt (Nat.zero_le _) (h.2.1 _ (getD_mem (show k < xs.length by omega)))
  have hz := h.lower hk
  have e := nv_take_succ B xs k
  rw [nv_take_all _ _ _ (by omega), h0, Nat.mul_zero, Nat.add_zero, h.1] at e
  have hl := nv_lt B (xs.take k) (fun z hz => h.2.1 z (List.mem_of_mem_take hz))
  rw [List.length_take, Nat.min_eq_left (by omega)] at hl
  omega
end Go.Proofs.YtfgaifbnhdgkgaaDoor
namespace Go.Proofs.YtfgaifbnhdgkgaaDoor
open Go.RowKit
set_option linter.unusedVariables false

theorem lim_same {w : World} {ad : Option Addr} {n cap x y : Nat} (h : Lim w ad n cap 18446744073709551616 x) (h' : Lim w ad n cap 18446744073709551616 y) : x = y := by
  obtain ⟨xs, rx, dx⟩ := h
  obtain ⟨ys, ry, dy⟩ := h'
  have : xs = ys := ext_getD (by rw [rx.len, ry.len]) fun j hj => by
    rw [rx.len] at hj
    obtain ⟨b, o, e1, _, c1⟩ := rx.cells (by omega)
    obtain ⟨b', o', e2, _, c2⟩ := ry.cells (by omega)
    rw [e1] at e2
    injection e2 with e2
    injection e2 with e3 e4
    subst e3 e4
    have := (c1 j hj).symm.trans (c2 j hj)
    injection this with this
    injection this with _ this
    exact Int.ofNat.inj this
  rw [← dx.1, ← dy.1, this]
/-- the number that lies in a slice's limbs -/
theorem lim_measure : ∃ M : Value → World → Nat, ∀ (ad : Option Addr) (n cap : Nat) (w : World) (x : Nat), Lim w ad n cap 18446744073709551616 x → M (.slice ad n cap) w = x := by
  classical
  refine ⟨fun v w => if h : ∃ x, ∃ ad n cap, v = .slice ad n cap ∧ Lim w ad n cap 18446744073709551616 x then h.choose else 0, fun ad n cap w x hx => ?_⟩
  have h : ∃ x, ∃ ad' n' cap', Value.slice ad n cap = .slice ad' n' cap' ∧ Lim w ad' n' cap' 18446744073709551616 x := ⟨x, ad, n, cap, rfl, hx⟩
  show (if h : ∃ x, ∃ ad' n' cap', Value.slice ad n cap = .slice ad' n' cap' ∧ Lim w ad' n' cap' 18446744073709551616 x then h.choose else 0) = x
  rw [dif_pos h]
  obtain ⟨a', n', c', e, hl⟩ := h.choose_spec
  injection e with e1 e2 e3
  subst e1 e2 e3
  exact lim_same hl hx
theorem root_start {a R : Nat} (h1 : R * R ≤ a) : R ≤ 1 * 2 ^ ((bl a + 1) / 2) := by
  rw [Nat.one_mul]
  refine Nat.le_of_lt (Nat.lt_of_not_le fun h => ?_)
  have h2 := Nat.mul_le_mul h h
  rw [← Nat.pow_add] at h2
  have h3 := bl_lt a
  have h4 : 2 ^ bl a ≤ 2 ^ ((bl a + 1) / 2 + (bl a + 1) / 2) := Nat.pow_le_pow_right (by omega) (by omega)
  omega
theorem sq_le_of {x R a : Nat} (h1 : x * x ≤ a) (h2 : a < (R + 1) * (R + 1)) : x ≤ R := by
  refine Nat.le_of_lt_succ (Nat.lt_of_not_le fun h => ?_)
  have h' : R + 1 ≤ x := h
  have := Nat.mul_le_mul h' h'
  omega
theorem bl_div (a x : Nat) : bl (a / x) ≤ bl a := bl_mono (Nat.div_le_self _ _)
theorem bl_add (x y k : Nat) (hx : bl x ≤ k) (hy : bl y ≤ k) : bl (x + y) ≤ k + 1 := by
  refine bl_le_of_lt ?_
  have h1 := Nat.lt_of_lt_of_le (bl_lt x) (Nat.pow_le_pow_right (n := 2) (by omega) hx)
  have h2 := Nat.lt_of_lt_of_le (bl_lt y) (Nat.pow_le_pow_right (n := 2) (by omega) hy)
  rw [Nat.pow_succ]; omega
end Go.Proofs.YtfgaifbnhdgkgaaDoor
namespace Go.Proofs.YtfgaifbnhdgkgaaDoor
open Go.RowKit
set_option linter.unusedVariables false

/-- is something cut off? -/
def lostB (x n : Nat) : Bool := decide (x % 2 ^ n ≠ 0)
def LostAt (b : Bool) (ds : List Nat) (k : Nat) : Prop := b = true ↔ nv 4294967296 (ds.take k) ≠ 0
theorem lost_start (ds : List Nat) : LostAt false ds 0 := by simp [LostAt, nv]
theorem lost_f {ds : List Nat} {k x : Nat} (h : LostAt false ds k) (hx : x = ds.getD k 0) : LostAt ((x : Int) != 0) ds (k + 1) := by
  unfold LostAt at h ⊢
  have h0 : nv 4294967296 (ds.take k) = 0 := by
    rcases Nat.eq_zero_or_pos (nv 4294967296 (ds.take k)) with h1 | h1
    · exact h1
    · exact absurd (h.2 (by omega)) (by simp)
  rw [nv_take_succ, ← hx, h0, Nat.zero_add]
  have hp : 0 < 4294967296 ^ k := Nat.pow_pos (by omega)
  constructor
  · intro h1
    have : x ≠ 0 := by intro h2; subst h2; simp at h1
    exact Nat.ne_of_gt (Nat.mul_pos hp (by omega))
  · intro h1
    have : x ≠ 0 := by intro h2; subst h2; simp at h1
    simp; omega
theorem lost_t {ds : List Nat} {k : Nat} (h : LostAt true ds k) : LostAt true ds (k + 1) := by
  unfold LostAt at h ⊢
  have := h.1 rfl
  rw [nv_take_succ]
  exact ⟨fun _ => by omega, fun _ => rfl⟩
theorem lost_all {ds : List Nat} {k n x : Nat} {b : Bool} (h : LostAt b ds k) (d : Dg 4294967296 x ds) (hk : ds.length ≤ k) (hz : x / 2 ^ n = 0) : lostB x n = b := by
  unfold LostAt at h
  rw [nv_take_all _ _ _ hk, d.1] at h
  have e : x % 2 ^ n = x := by
    have := Nat.div_add_mod x (2 ^ n)
    rw [hz, Nat.mul_zero, Nat.zero_add] at this
    exact this
  unfold lostB
  rw [e]
  cases b
  · have : ¬ x ≠ 0 := fun h1 => by simpa using h.2 h1
    exact decide_eq_false this
  · exact decide_eq_true (h.1 rfl)
theorem mod_parts {ds : List Nat} {q r n x p : Nat} (d : Dg 4294967296 x ds) (hq : q ≤ ds.length) (hp : p = 2 ^ r) (hn : n = 32 * q + r) : x % 2 ^ n = nv 4294967296 (ds.take q) + 4294967296 ^ q * (nv 4294967296 (ds.drop q) % p) := by
  have h1 : x = nv 4294967296 (ds.take q) + 4294967296 ^ q * nv 4294967296 (ds.drop q) := by
    conv => lhs; rw [← d.1, ← List.take_append_drop q ds, nv_append, List.length_take, Nat.min_eq_left hq]
  have h2 := nv_lt 4294967296 (ds.take q) (fun z h => d.2.1 z (List.mem_of_mem_take h))
  rw [List.length_take, Nat.min_eq_left hq] at h2
  have e : 2 ^ n = 4294967296 ^ q * p := by rw [hn, Nat.pow_add, ← pow32, hp]
  rw [e, h1, Nat.mod_mul, Nat.add_mul_mod_self_left, Nat.mod_eq_of_lt h2, Nat.add_mul_div_left _ _ (Nat.pow_pos (by omega)), Nat.div_eq_of_lt h2, Nat.zero_add]
theorem lost_ff {ds : List Nat} {q r n x p rr : Nat} (h : LostAt false ds q) (d : Dg 4294967296 x ds) (hq : q ≤ ds.length) (hp : p = 2 ^ r) (hr : rr = nv 4294967296 (ds.drop q) % p) (hn : n = 32 * q + r) : lostB x n = ((rr : Int) != 0) := by
  unfold LostAt at h
  have h0 : nv 4294967296 (ds.take q) = 0 := by
    rcases Nat.eq_zero_or_pos (nv 4294967296 (ds.take q)) with h1 | h1
    · exact h1
    · exact absurd (h.2 (by omega)) (by simp)
  unfold lostB
  rw [mod_parts d hq hp hn, h0, Nat.zero_add, ← hr]
  have hP : 0 < 4294967296 ^ q := Nat.pow_pos (by omega)
  rcases Nat.eq_zero_or_pos rr with h1 | h1
  · subst h1; simp
  · have h2 := Nat.mul_pos hP h1
    have e1 : ((rr : Int) != 0) = true := by simp; omega
    rw [e1]
    exact decide_eq_true (Nat.ne_of_gt h2)
theorem lost_tt {ds : List Nat} {q r n x p : Nat} (h : LostAt true ds q) (d : Dg 4294967296 x ds) (hq : q ≤ ds.length) (hp : p = 2 ^ r) (hn : n = 32 * q + r) : lostB x n = true := by
  unfold LostAt at h
  have := h.1 rfl
  unfold lostB
  rw [mod_parts d hq hp hn]
  exact decide_eq_true (by omega)
end Go.Proofs.YtfgaifbnhdgkgaaDoor
namespace Go.Proofs.YtfgaifbnhdgkgaaDoor
open Go.RowKit
set_option linter.unusedVariables false

/-- what the reference's Cut comes to -/
def CutV (s : Bool) (x : Nat) (e last : Int) (up : Bool) (s' : Bool) (m : Nat) (e' : Int) : Prop :=
  (x = 0 ∧ s' = false ∧ m = 0 ∧ e' = 0) ∨ (0 < x ∧ last ≤ e ∧ s' = s ∧ m = x ∧ e' = e) ∨ (0 < x ∧ e < last ∧ s' = s ∧ e' = last ∧ m = x / 2 ^ (last - e).toNat + (if lostB x (last - e).toNat = true ∧ s ≠ up then 1 else 0))
theorem box_two (w : World) (o1 o2 : Obj) : ((w.alloc o1).alloc o2).heap[w.heap.size]? = some o1 ∧ ((w.alloc o1).alloc o2).heap[w.heap.size + 1]? = some o2 := blk2 w o1 o2
theorem set3_lim {w : World} {ad : Option Addr} {n cap x b : Nat} {p : Bool} {q : Option Addr} {l k : Nat} {i : Int} {T : TypeId} (h : Lim w ad n cap 18446744073709551616 x) (hb : w.heap[b]? = some (.cells #[.bool p, .slice q l k, .int .i64 i] T)) (v0 v1 v2 : Value) : Lim (((w.setCell ⟨b, 0, none⟩ v0).setCell ⟨b, 1, none⟩ v1).setCell ⟨b, 2, none⟩ v2) ad n cap 18446744073709551616 x := h.set3 (h.apart hb) _ _ _
end Go.Proofs.YtfgaifbnhdgkgaaDoor
namespace Go.Proofs.YtfgaifbnhdgkgaaDoor
open Go.RowKit
set_option linter.unusedVariables false

/-! CUT -/
end Go.Proofs.YtfgaifbnhdgkgaaDoor
namespace Go.Proofs.YtfgaifbnhdgkgaaDoor
open Go.RowKit
set_option linter.unusedVariables false

theorem rexp37f (n : Int) (w : World) (h : ¬ (-1048576 ≤ n ∧ n ≤ 1048576)) : Calls Tryd.prog 54 #[.int .i64 n] w fun r w' => r = .returned (.bool false) ∧ w = w' := by
  have := rightExp36 n w
  rw [decide_eq_false h] at this
  exact this.mono fun r w' h => ⟨h.1, h.2.symm⟩
theorem lost_odd {q t : Nat} (ht : 0 < t) : lostB (2 * q + 1) t = true := by
  unfold lostB
  refine decide_eq_true fun h => ?_
  obtain ⟨u, rfl⟩ : ∃ u, t = u + 1 := ⟨t - 1, by omega⟩
  have hd := Nat.dvd_of_mod_eq_zero h
  rw [Nat.pow_succ, Nat.mul_comm] at hd
  obtain ⟨c, hc⟩ := hd
  rw [Nat.mul_assoc] at hc
  omega
end Go.Proofs.YtfgaifbnhdgkgaaDoor
namespace Go.Proofs.YtfgaifbnhdgkgaaDoor
open Go.RowKit
set_option linter.unusedVariables false

theorem sub64B (o l : Nat) (ho : o < 18446744073709551616) (hl : l < 18446744073709551616) : ∃ new bo : Nat, new + l = o + 18446744073709551616 * bo ∧ bo ≤ 1 ∧ new < 18446744073709551616 ∧ (l = 0 → bo = 0) ∧ ∀ w, (callFunc 84 #[.int .u64 (o : Int), .int .u64 (l : Int), .int .u64 0]).run Tryd.prog w = .ok (.value (.tuple #[.int .u64 (new : Int), .int .u64 (bo : Int)])) w := by
  refine ⟨(o + 18446744073709551616 - l - 0) % 18446744073709551616, if o < l + 0 then 1 else 0, ?_, ?_, Nat.mod_lt _ (by omega), ?_, fun w => sub64N o l 0 (by omega) w⟩
  · split <;> omega
  · split <;> omega
  · intro h; rw [if_neg (by omega)]

set_option maxHeartbeats 1600000 in
theorem takeTimesN (g N k cp x : Nat) (ad2 : Option Addr) (n2 c2 : Nat) (ys zs0 : List Nat) (w0 w : World) (ry : Row w0 ad2 n2 c2 ys) (hy : ∀ x ∈ ys, x < 18446744073709551616) (bx : x < 18446744073709551616) (h0 : ∀ z ∈ zs0, z < 18446744073709551616)
    (hkN : k + n2 + 1 ≤ N) (hNm : N ≤ 4398046511104) (hcp : n2 + 1 ≤ cp) (hg0 : Gr w0 w) (hsz : w0.heap.size ≤ g) (how : w.ownsRow g 42 1 (.slice (some ⟨g, 0, none⟩) N N) N (u64s zs0)) :
    Calls Tryd.prog 95 #[.slice (some ⟨g, k, none⟩) ((n2 : Nat) + 1) cp, .slice ad2 n2 c2, .int .u64 (x : Int)] w fun e w' => ∃ (b : Nat) (zs : List Nat), e = .returned (.int .u64 (b : Int)) ∧ b ≤ 1 ∧ (zs.length = N ∧ (∀ z ∈ zs, z < 18446744073709551616) ∧ nv 18446744073709551616 zs + 18446744073709551616 ^ k * (x * nv 18446744073709551616 ys) = nv 18446744073709551616 zs0 + 18446744073709551616 ^ (k + n2 + 1) * b ∧ ∀ i, k + n2 + 1 ≤ i → zs.getD i 0 = zs0.getD i 0) ∧ w'.ownsRow g 42 1 (.slice (some ⟨g, 0, none⟩) N N) N (u64s zs) ∧ Gr w0 w' ∧ Gx g w w' := by
  have RY : Hid (Row w0 ad2 n2 c2 ys) := ry
  have HY : Hid (∀ x ∈ ys, x < 18446744073709551616) := hy
  have H0 : Hid (∀ x ∈ zs0, x < 18446744073709551616) := h0
  have HG : Hid (Gr w0 w ∧ Gx g w w) := ⟨hg0, Gx.refl g w⟩
  have hl2 := ry.le
  clear ry hy hg0 h0
  go_enter Tryd.func95, Tryd.ntmps95
  go_wp2
  go_loopw [7, 17] (fun cr i wr => ∃ (j c : Nat) (zs : List Nat), j ≤ n2 ∧ c < 18446744073709551616 ∧ i = .int .i64 (j : Int) ∧ cr = .int .u64 (c : Int) ∧ wr.ownsRow g 42 1 (.slice (some ⟨g, 0, none⟩) N N) N (u64s zs) ∧ Hid (TakAt ys zs zs0 k j x c N) ∧ Hid (Gr w0 wr ∧ Gx g w wr)) (fun _ i _ => n2 - (intOf i).toNat)
  case atStart => exact ⟨0, 0, zs0, by omega, by omega, rfl, rfl, how, TakAt.start (owns_len how) H0.out, HG⟩
  case round =>
    obtain ⟨j, c, zs, hj, hc, rfl, rfl, hown, hA, hg⟩ := hrel
    by_cases hlt : j < n2
    · obtain ⟨p2, o2, rfl, hp2, hc2⟩ := RY.out.lt (by omega)
      have hcell2 := hc2 wr hg.out.1 j hlt
      have hcell3 := owns_cell hown (k + j) (by omega)
      have hfz := hown.frozenAt (k + j)
      obtain ⟨yk, hyk⟩ : ∃ yk, yk = ys.getD j 0 := ⟨_, rfl⟩
      obtain ⟨ok, hok⟩ : ∃ ok, ok = zs.getD (k + j) 0 := ⟨_, rfl⟩
      rw [← hyk] at hcell2
      rw [← hok] at hcell3
      have byk : yk < 18446744073709551616 := hyk ▸ getD_lt (by omega) HY.out j
      have bok : ok < 18446744073709551616 := hok ▸ getD_lt (by omega) hA.out.lt (k + j)
      have MUL := fun w => Tryd.bits_Mul64 x yk bx byk w
      have hm := prod_le bx byk
      obtain ⟨m, hmm⟩ : ∃ m, m = x * yk := ⟨_, rfl⟩
      rw [← hmm] at MUL hm
      obtain ⟨hi, hhi⟩ : ∃ hi, hi = m / 18446744073709551616 := ⟨_, rfl⟩
      obtain ⟨lo, hlo⟩ : ∃ lo, lo = m % 18446744073709551616 := ⟨_, rfl⟩
      rw [← hhi, ← hlo] at MUL
      have M : Hid (∀ w1, Calls Tryd.prog 96 #[.int .u64 (x : Int), .int .u64 (yk : Int)] w1 fun e w' => e = .returned (.tuple #[.int .u64 (hi : Int), .int .u64 (lo : Int)]) ∧ w' = w1) := MUL
      have A1 := fun w => add64N lo c 0 (by omega) w
      obtain ⟨l1, hl1⟩ : ∃ l1, l1 = (lo + c + 0) % 18446744073709551616 := ⟨_, rfl⟩
      obtain ⟨m1, hm1⟩ : ∃ m1, m1 = (lo + c + 0) / 18446744073709551616 := ⟨_, rfl⟩
      rw [← hl1, ← hm1] at A1
      have A1' : Hid (∀ w, (callFunc 90 #[.int .u64 (lo : Int), .int .u64 (c : Int), .int .u64 0]).run Tryd.prog w = .ok (.value (.tuple #[.int .u64 (l1 : Int), .int .u64 (m1 : Int)])) w) := A1
      obtain ⟨nw, bo, q1, q2, q3, q4, S⟩ := sub64B ok l1 bok (by omega)
      have S' : Hid (∀ w, (callFunc 84 #[.int .u64 (ok : Int), .int .u64 (l1 : Int), .int .u64 0]).run Tryd.prog w = .ok (.value (.tuple #[.int .u64 (nw : Int), .int .u64 (bo : Int)])) w) := S
      have NX' : Hid (TakAt ys (zs.set (k + j) nw) zs0 k (j + 1) x (hi + m1 + bo) N) := hA.out.next (by omega) hok hyk q1 (by rw [← hmm]; omega) q3
      have b1 : hi + m1 + bo < 18446744073709551616 := by
        by_cases z : l1 = 0
        · have := q4 z; omega
        · omega
      have b2 : hi + m1 < 18446744073709551616 := by omega
      clear A1 MUL hhi hlo hl1 hm1 hm hmm S q1 q4 hyk hok hc2
      have i1 : (j : Int) < (n2 : Int) := by omega
      go_wp2_with (first | (simp only [A1'.out]) | (simp only [S'.out]) | (go_at_call 96; with_reducible refine (M.out _).mono ?_; rintro e w' ⟨rfl, rfl⟩))
      go_roundw
      case rel => exact ⟨j + 1, hi + m1 + bo, _, by omega, b1, by go_num, by go_num, owns_set hown (k + j) nw, NX'.out, ⟨hg.out.1.setCell hsz _, hg.out.2.setCell rfl _⟩⟩
      case measure => simp only [intOf]; omega
    · have hk2 : j = n2 := by omega
      subst hk2
      have hcell3 := owns_cell hown (k + j) (by omega)
      have hfz := hown.frozenAt (k + j)
      obtain ⟨ok, hok⟩ : ∃ ok, ok = zs.getD (k + j) 0 := ⟨_, rfl⟩
      rw [← hok] at hcell3
      have bok : ok < 18446744073709551616 := hok ▸ getD_lt (by omega) hA.out.lt (k + j)
      obtain ⟨nw, bo, q1, q2, q3, q4, S⟩ := sub64B ok c bok hc
      have S' : Hid (∀ w, (callFunc 84 #[.int .u64 (ok : Int), .int .u64 (c : Int), .int .u64 0]).run Tryd.prog w = .ok (.value (.tuple #[.int .u64 (nw : Int), .int .u64 (bo : Int)])) w) := S
      have F : Hid _ := hA.out.last (by omega) hok q1 (by rw [RY.out.len]; exact Nat.le_refl _) q3
      clear S q1 q3 q4 hok
      go_wp2_with (first | (simp only [S'.out]))
      go_ret
      exact ⟨bo, _, rfl, q2, F.out, owns_set hown (k + j) nw, ⟨hg.out.1.setCell hsz _, hg.out.2.setCell rfl _⟩⟩
end Go.Proofs.YtfgaifbnhdgkgaaDoor
namespace Go.Proofs.YtfgaifbnhdgkgaaDoor
open Go.RowKit
set_option linter.unusedVariables false

set_option maxHeartbeats 1600000 in
/-- copyPlus into the row that is added to -/
theorem copyPlusA (g N k cp : Nat) (ad2 : Option Addr) (n2 c2 : Nat) (ys zs0 : List Nat) (w0 w : World) (ry : Row w0 ad2 n2 c2 ys) (hy : ∀ x ∈ ys, x < 18446744073709551616) (h0 : ∀ z ∈ zs0, z < 18446744073709551616)
    (hkN : k + n2 + 1 ≤ N) (hNm : N ≤ 4398046511104) (hcp : n2 + 1 ≤ cp) (hg0 : Gr w0 w) (hsz : w0.heap.size ≤ g) (how : w.ownsRow g 42 1 (.slice (some ⟨g, 0, none⟩) N N) N (u64s zs0)) :
    Calls Tryd.prog 80 #[.slice (some ⟨g, k, none⟩) ((n2 : Nat) + 1) cp, .slice (some ⟨g, k, none⟩) ((n2 : Nat) + 1) cp, .slice ad2 n2 c2] w fun e w' => ∃ (c : Nat) (zs : List Nat), e = .returned (.int .u64 (c : Int)) ∧ c ≤ 1 ∧ PutAt ys zs zs0 k (n2 + 1) c N ∧ w'.ownsRow g 42 1 (.slice (some ⟨g, 0, none⟩) N N) N (u64s zs) ∧ Gr w0 w' ∧ Gx g w w' := by
  have RY : Hid (Row w0 ad2 n2 c2 ys) := ry
  have HY : Hid (∀ x ∈ ys, x < 18446744073709551616) := hy
  have H0 : Hid (∀ x ∈ zs0, x < 18446744073709551616) := h0
  have HG : Hid (Gr w0 w ∧ Gx g w w) := ⟨hg0, Gx.refl g w⟩
  have hl2 := ry.le
  clear ry hy hg0 h0
  go_enter Tryd.func80, Tryd.ntmps80
  go_wp2
  go_loopw [7, 13] (fun cr i wr => ∃ (j c : Nat) (zs : List Nat), j ≤ n2 ∧ c ≤ 1 ∧ i = .int .i64 (j : Int) ∧ cr = .int .u64 (c : Int) ∧ wr.ownsRow g 42 1 (.slice (some ⟨g, 0, none⟩) N N) N (u64s zs) ∧ Hid (PutAt ys zs zs0 k j c N) ∧ Hid (Gr w0 wr ∧ Gx g w wr)) (fun _ i _ => n2 - (intOf i).toNat)
  case atStart => exact ⟨0, 0, zs0, by omega, by omega, rfl, rfl, how, PutAt.start (owns_len how) H0.out, HG⟩
  case round =>
    obtain ⟨j, c, zs, hj, hc, rfl, rfl, hown, hA, hg⟩ := hrel
    by_cases hlt : j < n2
    · obtain ⟨p2, o2, rfl, hp2, hc2⟩ := RY.out.lt (by omega)
      have hcell2 := hc2 wr hg.out.1 j hlt
      have hcell3 := owns_cell hown (k + j) (by omega)
      have hfz := hown.frozenAt (k + j)
      obtain ⟨yk, hyk⟩ : ∃ yk, yk = ys.getD j 0 := ⟨_, rfl⟩
      obtain ⟨ok, hok⟩ : ∃ ok, ok = zs.getD (k + j) 0 := ⟨_, rfl⟩
      rw [← hyk] at hcell2
      rw [← hok] at hcell3
      have byk : yk < 18446744073709551616 := hyk ▸ getD_lt (by omega) HY.out j
      have bok : ok < 18446744073709551616 := hok ▸ getD_lt (by omega) hA.out.lt (k + j)
      have A : Hid (∀ w, (callFunc 90 #[.int .u64 (ok : Int), .int .u64 (yk : Int), .int .u64 (c : Int)]).run Tryd.prog w = .ok (.value (.tuple #[.int .u64 (((ok + yk + c) % 18446744073709551616 : Nat) : Int), .int .u64 (((ok + yk + c) / 18446744073709551616 : Nat) : Int)])) w) := fun w => add64N ok yk c hc w
      have i1 : (j : Int) < (n2 : Int) := by omega
      have i2 : (j : Int) < (n2 : Int) + 1 := by omega
      have NX := hA.out.next (by omega) hok hyk
      clear hok hyk hc2
      generalize hs : (ok + yk + c) % 18446744073709551616 = sv at A NX
      generalize hd : (ok + yk + c) / 18446744073709551616 = dv at A NX
      have hd1 : dv ≤ 1 := by omega
      have NX' : Hid (PutAt ys (zs.set (k + j) sv) zs0 k (j + 1) dv N) := NX
      clear hs hd NX
      go_wp2_with (simp only [A.out])
      go_roundw
      case rel => exact ⟨j + 1, dv, _, by omega, hd1, by go_num, rfl, owns_set hown (k + j) sv, NX'.out, ⟨hg.out.1.setCell hsz _, hg.out.2.setCell rfl _⟩⟩
      case measure => simp only [intOf]; omega
    · have hk2 : j = n2 := by omega
      subst hk2
      obtain ⟨wo, rfl⟩ : ∃ wo : World, wo = wr := ⟨_, rfl⟩
      go_wp2
      go_loopw [7, 10] (fun cr i wr => ∃ (l c : Nat) (zs : List Nat), j ≤ l ∧ l ≤ j + 1 ∧ c ≤ 1 ∧ i = .int .i64 (l : Int) ∧ cr = .int .u64 (c : Int) ∧ wr.ownsRow g 42 1 (.slice (some ⟨g, 0, none⟩) N N) N (u64s zs) ∧ Hid (PutAt ys zs zs0 k l c N) ∧ Hid (Gr w0 wr ∧ Gx g w wr)) (fun _ i _ => j + 1 - (intOf i).toNat)
      case atStart => exact ⟨j, c, zs, by omega, by omega, hc, rfl, rfl, hown, hA, hg⟩
      case round =>
        clear hown hA hg
        obtain ⟨l, c, zs, hjl, hl, hc, rfl, rfl, hown, hA, hg⟩ := hrel
        by_cases hlt2 : l < j + 1
        · have hcell3 := owns_cell hown (k + l) (by omega)
          have hfz := hown.frozenAt (k + l)
          obtain ⟨ok, hok⟩ : ∃ ok, ok = zs.getD (k + l) 0 := ⟨_, rfl⟩
          have hyk : 0 = ys.getD l 0 := (getD_out (by rw [RY.out.len]; exact hjl)).symm
          rw [← hok] at hcell3
          have bok : ok < 18446744073709551616 := hok ▸ getD_lt (by omega) hA.out.lt (k + l)
          have A : Hid (∀ w, (callFunc 90 #[.int .u64 (ok : Int), .int .u64 0, .int .u64 (c : Int)]).run Tryd.prog w = .ok (.value (.tuple #[.int .u64 (((ok + 0 + c) % 18446744073709551616 : Nat) : Int), .int .u64 (((ok + 0 + c) / 18446744073709551616 : Nat) : Int)])) w) := fun w => add64N ok 0 c hc w
          have i2 : (l : Int) < (j : Int) + 1 := by omega
          have NX := hA.out.next (by omega) hok hyk
          clear hok hyk
          generalize hs : (ok + 0 + c) % 18446744073709551616 = sv at A NX
          generalize hd : (ok + 0 + c) / 18446744073709551616 = dv at A NX
          have hd1 : dv ≤ 1 := by omega
          have NX' : Hid (PutAt ys (zs.set (k + l) sv) zs0 k (l + 1) dv N) := NX
          clear hs hd NX
          go_wp2_with (simp only [A.out])
          go_roundw
          case rel => exact ⟨l + 1, dv, _, by omega, by omega, hd1, by go_num, rfl, owns_set hown (k + l) sv, NX'.out, ⟨hg.out.1.setCell hsz _, hg.out.2.setCell rfl _⟩⟩
          case measure => simp only [intOf]; omega
        · have hj2 : l = j + 1 := by omega
          subst hj2
          go_wp2
          go_ret
          exact ⟨c, zs, rfl, hc, hA.out, hown, hg.out⟩
end Go.Proofs.YtfgaifbnhdgkgaaDoor
