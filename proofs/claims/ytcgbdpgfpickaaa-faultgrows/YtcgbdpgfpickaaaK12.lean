import Derived.Test.YtcgbdpgfpickaaaK10
import Derived.Test.YtcgbdpgfpickaaaK11
namespace Go.Proofs.Ytcgbdpgfpickaaa
open Go.RowKit
set_option linter.unusedVariables false

theorem hide {p : Prop} (h : p) : Hid p := h
/-! WHAT IS TOLD LIES IN NEW MEMORY, EACH ROW IN A BLOCK OF ITS OWN -/
theorem owns_take {w : World} {B : Nat} {e : TypeId} {g N cap : Nat} {xs : List Value} (h : w.ownsRow B e 1 (.slice (some ⟨g, 0, none⟩) N cap) N xs) {k : Nat} (hk : k ≤ N) : w.ownsRow B e 1 (.slice (some ⟨g, 0, none⟩) k cap) k (xs.take k) := by
  have hl := h.1
  refine ⟨by rw [List.length_take]; omega, ?_⟩
  rcases h.2 with ⟨h1, _⟩ | ⟨g', cap', cur, h1, h2, h3, h4, h5, h6, h7⟩
  · cases h1
  · injection h1 with e1 e2 e3
    injection e1 with e1
    injection e1 with e1
    subst e1
    subst e3
    refine Or.inr ⟨_, _, cur, rfl, h2, h3, by omega, h5, h6, ?_⟩
    rw [← h7, List.take_take, Nat.mul_one, Nat.mul_one, Nat.min_eq_left hk]
theorem owns_low {w : World} {B B' : Nat} {e : TypeId} {size : Nat} {v : Value} {n : Nat} {xs : List Value} (h : w.ownsRow B e size v n xs) (hb : B' ≤ B) : w.ownsRow B' e size v n xs := by
  refine ⟨h.1, ?_⟩
  rcases h.2 with h2 | ⟨g, cap, cur, e1, h3, h4⟩
  · exact Or.inl h2
  · exact Or.inr ⟨g, cap, cur, e1, Nat.le_trans hb h3, h4⟩
theorem owns_far {w : World} {B : Nat} {e : TypeId} {size : Nat} {v : Value} {n : Nat} {xs : List Value} (h : w.ownsRow B e size v n xs) {b : Nat} (hb : v.ownBlock ≠ some b) (i : Nat) (u : Value) : (w.setCell ⟨b, i, none⟩ u).ownsRow B e size v n xs := by
  refine ⟨h.1, ?_⟩
  rcases h.2 with h2 | ⟨g, cap, cur, e1, h3, h4, h5⟩
  · exact Or.inl h2
  · refine Or.inr ⟨g, cap, cur, e1, h3, ?_, h5⟩
    rw [← h4]
    have : b ≠ g := fun e => hb (by rw [e1, e]; rfl)
    simp only [World.setCell, Array.getElem?_modify, if_neg this]
def Fresh (B : Nat) (w : World) (ad : Option Addr) (n cap : Nat) : Prop := ∃ xs, w.ownsRow B 47 1 (.slice ad n cap) n (u64s xs)
theorem Fresh.nil (B : Nat) (w : World) : Fresh B w none 0 0 := ⟨[], World.ownsRow_nil _ _ _ _⟩
theorem Fresh.take {w : World} {B g N cap : Nat} {xs : List Nat} (h : w.ownsRow B 47 1 (.slice (some ⟨g, 0, none⟩) N cap) N (u64s xs)) {k : Nat} (hk : k ≤ N) : Fresh B w (some ⟨g, 0, none⟩) k cap :=
  ⟨xs.take k, by have := owns_take h hk; rwa [show (u64s xs).take k = u64s (xs.take k) by simp [u64s, List.map_take]] at this⟩
theorem Fresh.gr {B : Nat} {w w' : World} {ad : Option Addr} {n cap : Nat} (h : Fresh B w ad n cap) (g : Gr w w') : Fresh B w' ad n cap := by
  obtain ⟨xs, h⟩ := h
  exact ⟨xs, g.owns h⟩
theorem Fresh.low {B B' : Nat} {w : World} {ad : Option Addr} {n cap : Nat} (h : Fresh B w ad n cap) (hb : B' ≤ B) : Fresh B' w ad n cap := by
  obtain ⟨xs, h⟩ := h
  exact ⟨xs, owns_low h hb⟩
theorem Fresh.set3 {B : Nat} {w : World} {ad : Option Addr} {n cap : Nat} (h : Fresh B w ad n cap) {B2 : Nat} (hb : ∀ a, ad = some a → a.block ≠ B2) (v0 v1 v2 : Value) : Fresh B (((w.setCell ⟨B2, 0, none⟩ v0).setCell ⟨B2, 1, none⟩ v1).setCell ⟨B2, 2, none⟩ v2) ad n cap := by
  obtain ⟨xs, h⟩ := h
  have hne : (Value.slice ad n cap).ownBlock ≠ some B2 := by
    cases ad with
    | none => simp [Value.ownBlock]
    | some a => exact fun e => hb a rfl (by simpa [Value.ownBlock] using e)
  exact ⟨xs, owns_far (owns_far (owns_far h hne _ _) hne _ _) hne _ _⟩
theorem Fresh.ne {B : Nat} {w : World} {ad : Option Addr} {n cap : Nat} (h : Fresh B w ad n cap) {B2 : Nat} {cs : Array Value} {T : TypeId} {fr : Nat × Nat} (hb : w.heap[B2]? = some (.cells cs T fr)) (hT : T ≠ 47) : ∀ a, ad = some a → a.block ≠ B2 := by
  obtain ⟨xs, h⟩ := h
  intro a ha he
  rcases h.2 with ⟨h1, _⟩ | ⟨g, cap', cur, h1, _, h2, _⟩
  · injection h1 with h1
    rw [ha] at h1
    cases h1
  · injection h1 with h1
    rw [ha] at h1
    injection h1 with h1
    subst h1
    simp only at he
    rw [he, hb] at h2
    injection h2 with h2
    injection h2 with _ h2
    exact hT h2
/-- a dyad told, with an error: its limbs lie in new memory -/
def NewR (B : Nat) (w : World) (r : Ending) : Prop := ∃ a ad n cap f g, r = .returned (.tuple #[.agg #[.bool a, .slice ad n cap, .int .i64 f], .int .i64 g]) ∧ Fresh B w ad n cap ∧ n ≤ 4096
theorem NewR.zero (B : Nat) (w : World) (g : Int) : NewR B w (.returned (.tuple #[.agg #[.bool false, .slice none 0 0, .int .i64 0], .int .i64 g])) := ⟨_, _, _, _, _, _, rfl, Fresh.nil _ _, by omega⟩
theorem NewR.gr {B : Nat} {w w' : World} {r : Ending} (h : NewR B w r) (g : Gr w w') : NewR B w' r := by
  obtain ⟨a, ad, n, cap, f, k, h1, h2, h3⟩ := h
  exact ⟨a, ad, n, cap, f, k, h1, h2.gr g, h3⟩
theorem NewR.low {B B' : Nat} {w : World} {r : Ending} (h : NewR B w r) (hb : B' ≤ B) : NewR B' w r := by
  obtain ⟨a, ad, n, cap, f, k, h1, h2, h3⟩ := h
  exact ⟨a, ad, n, cap, f, k, h1, h2.low hb, h3⟩
theorem NewR.set3 {B : Nat} {w : World} {r : Ending} (h : NewR B w r) {B2 : Nat} {cs : Array Value} {T : TypeId} {fr : Nat × Nat} (hb : w.heap[B2]? = some (.cells cs T fr)) (v0 v1 v2 : Value) (hT : T ≠ 47) : NewR B (((w.setCell ⟨B2, 0, none⟩ v0).setCell ⟨B2, 1, none⟩ v1).setCell ⟨B2, 2, none⟩ v2) r := by
  obtain ⟨a, ad, n, cap, f, k, h1, h2, h3⟩ := h
  exact ⟨a, ad, n, cap, f, k, h1, h2.set3 (h2.ne hb hT) v0 v1 v2, h3⟩
end Go.Proofs.Ytcgbdpgfpickaaa
namespace Go.Proofs.Ytcgbdpgfpickaaa
open Go.RowKit
set_option linter.unusedVariables false

theorem two64 {r : Nat} (hr : r < 64) : (18446744073709551616 : Nat) = 2 ^ r * 2 ^ (64 - r) := by rw [← Nat.pow_add, show r + (64 - r) = 64 by omega]
theorem shl_back {r x : Nat} (hr : r < 64) : x * 2 ^ (64 - r) % 18446744073709551616 = x % 2 ^ r * 2 ^ (64 - r) := by
  rw [two64 hr, Nat.mul_mod_mul_right]
theorem dn_val {X x i r : Nat} (hr : r < 64) : (X + 18446744073709551616 ^ (i + 1) * x) / 2 ^ r = X / 2 ^ r + 18446744073709551616 ^ (i + 1) * (x / 2 ^ r) + 18446744073709551616 ^ i * (x * 2 ^ (64 - r) % 18446744073709551616) := by
  rw [shl_back hr]
  have h1 : x % 2 ^ r + 2 ^ r * (x / 2 ^ r) = x := Nat.mod_add_div _ _
  have h2 : 18446744073709551616 ^ (i + 1) = 2 ^ r * (18446744073709551616 ^ i * 2 ^ (64 - r)) := by
    rw [Nat.pow_succ]
    conv => lhs; rhs; rw [two64 hr]
    ac_rfl
  have h3 : 18446744073709551616 ^ (i + 1) * x = 2 ^ r * (18446744073709551616 ^ (i + 1) * (x / 2 ^ r) + 18446744073709551616 ^ i * (x % 2 ^ r * 2 ^ (64 - r))) := by
    generalize 18446744073709551616 ^ i = B at *
    generalize 18446744073709551616 ^ (i + 1) = C at *
    generalize x % 2 ^ r = a at *
    generalize x / 2 ^ r = b at *
    rw [← h1, Nat.mul_add, Nat.mul_add, Nat.add_comm]
    congr 1
    · ac_rfl
    · rw [h2]; ac_rfl
  rw [h3, Nat.add_mul_div_left _ _ (Nat.two_pow_pos r), Nat.add_assoc]
structure DnAt (ds zs : List Nat) (k r N : Nat) : Prop where
  len : zs.length = N
  lt : ∀ x ∈ zs, x < 18446744073709551616
  val : nv 18446744073709551616 zs = nv 18446744073709551616 (ds.take k) / 2 ^ r
  zero : ∀ j, k ≤ j → zs.getD j 0 = 0
  edge : ∀ i, k = i + 1 → zs.getD i 0 < 2 ^ (64 - r)
theorem DnAt.start {ds : List Nat} {r N : Nat} : DnAt ds (List.replicate N 0) 0 r N :=
  ⟨by simp, (fun x hx => by rw [List.mem_replicate] at hx; omega), by simp [nv, nv_zeros], (fun j _ => by rw [List.getD_eq_getElem?_getD, List.getElem?_replicate]; split <;> rfl), fun i hi => absurd hi (by omega)⟩
theorem shr_lt' {r x : Nat} (hr : r < 64) (hx : x < 18446744073709551616) : x / 2 ^ r < 2 ^ (64 - r) := by
  refine Nat.div_lt_of_lt_mul ?_
  rw [← two64 hr]
  exact hx
theorem DnAt.first {ds zs : List Nat} {r N x : Nat} (h : DnAt ds zs 0 r N) (hr : r < 64) (hx : x < 18446744073709551616) (hN : 0 < N) (hxk : x = ds.getD 0 0) : DnAt ds (zs.set 0 (x / 2 ^ r)) 1 r N := by
  have hl := h.len
  refine ⟨by rw [List.length_set]; exact h.len, set_lt h.lt (Nat.lt_of_le_of_lt (Nat.div_le_self _ _) hx), ?_, ?_, ?_⟩
  · have s1 := nv_set 18446744073709551616 zs 0 (x / 2 ^ r) (by omega)
    rw [h.zero 0 (Nat.le_refl _), Nat.mul_zero, Nat.add_zero] at s1
    rw [s1, h.val, nv_take_succ, ← hxk]
    simp [nv]
  · intro j hj
    rw [getD_set _ _ _ _ (by omega), if_neg (by omega)]
    exact h.zero j (by omega)
  · intro i hi
    have : i = 0 := by omega
    subst this
    rw [getD_set _ _ _ _ (by omega), if_pos rfl]
    exact shr_lt' hr hx
theorem DnAt.next {ds zs : List Nat} {i r N x o : Nat} (h : DnAt ds zs (i + 1) r N) (hr : r < 64) (hx : x < 18446744073709551616) (hN : i + 1 < N) (hxk : x = ds.getD (i + 1) 0) (ho : o = zs.getD i 0) :
    DnAt ds ((zs.set (i + 1) (x / 2 ^ r)).set i (o + x * 2 ^ (64 - r) % 18446744073709551616)) (i + 2) r N := by
  have hl := h.len
  have ho1 : o < 2 ^ (64 - r) := ho ▸ h.edge i rfl
  refine ⟨by rw [List.length_set, List.length_set]; exact h.len, set_lt (set_lt h.lt (Nat.lt_of_le_of_lt (Nat.div_le_self _ _) hx)) ?_, ?_, ?_, ?_⟩
  · rw [shl_back hr]
    have h1 : (x % 2 ^ r + 1) * 2 ^ (64 - r) ≤ 2 ^ r * 2 ^ (64 - r) := Nat.mul_le_mul_right _ (Nat.mod_lt _ (Nat.two_pow_pos _))
    rw [← two64 hr, Nat.add_mul] at h1
    omega
  · have s1 := nv_set 18446744073709551616 zs (i + 1) (x / 2 ^ r) (by omega)
    have s2 := nv_set 18446744073709551616 (zs.set (i + 1) (x / 2 ^ r)) i (o + x * 2 ^ (64 - r) % 18446744073709551616) (by rw [List.length_set]; omega)
    rw [h.zero (i + 1) (Nat.le_refl _), Nat.mul_zero, Nat.add_zero] at s1
    rw [getD_set _ _ _ _ (by omega), if_neg (by omega), ← ho, s1, h.val, Nat.mul_add] at s2
    have s3 := nv_take_succ 18446744073709551616 ds (i + 1)
    rw [← hxk] at s3
    rw [show i + 2 = i + 1 + 1 from rfl, s3, dn_val hr]
    omega
  · intro j hj
    rw [getD_set _ _ _ _ (by rw [List.length_set]; omega), if_neg (by omega), getD_set _ _ _ _ (by omega), if_neg (by omega)]
    exact h.zero j (by omega)
  · intro j hj
    have : j = i + 1 := by omega
    subst this
    rw [getD_set _ _ _ _ (by rw [List.length_set]; omega), if_neg (by omega), getD_set _ _ _ _ (by omega), if_pos rfl]
    exact shr_lt' hr hx
theorem or_limb' {o x r : Nat} (hr : r < 64) (hx : x < 18446744073709551616) (ho : o < 2 ^ (64 - r)) : bits .or .u64 (o : Int) (((x * 2 ^ (64 - r) % 18446744073709551616 : Nat)) : Int) = ((o + x * 2 ^ (64 - r) % 18446744073709551616 : Nat) : Int) := by
  have h1 : 2 ^ (64 - r) ≤ 2 ^ 64 := Nat.pow_le_pow_right (by omega) (by omega)
  rw [bits_or_u64_nat _ _ (by omega) (by omega), shl_back hr, or_add ho]
theorem getD_drop (xs : List Nat) (q k : Nat) : (xs.drop q).getD k 0 = xs.getD (q + k) 0 := by
  rw [List.getD_eq_getElem?_getD, List.getD_eq_getElem?_getD, List.getElem?_drop]
theorem nv_drop {B x : Nat} {xs : List Nat} (h : Dg B x xs) (q : Nat) (hq : q ≤ xs.length) (hB : 0 < B) : nv B (xs.drop q) = x / B ^ q := by
  have h1 := nv_append B (xs.take q) (xs.drop q)
  rw [List.take_append_drop, h.1, List.length_take, Nat.min_eq_left hq] at h1
  have h2 := nv_lt B (xs.take q) (fun y hy => h.2.1 y (List.mem_of_mem_take hy))
  rw [List.length_take, Nat.min_eq_left hq] at h2
  rw [h1, Nat.add_mul_div_left _ _ (Nat.pow_pos hB), Nat.div_eq_of_lt h2, Nat.zero_add]

end Go.Proofs.Ytcgbdpgfpickaaa
namespace Go.Proofs.Ytcgbdpgfpickaaa
open Go.RowKit
set_option linter.unusedVariables false

structure AddAt (xs ys zs : List Nat) (k c N : Nat) : Prop where
  len : zs.length = N
  lt : ∀ x ∈ zs, x < 18446744073709551616
  val : nv 18446744073709551616 zs + 18446744073709551616 ^ k * c = nv 18446744073709551616 (xs.take k) + nv 18446744073709551616 (ys.take k)
  zero : ∀ j, k ≤ j → zs.getD j 0 = 0
theorem AddAt.start {xs ys : List Nat} {N : Nat} : AddAt xs ys (List.replicate N 0) 0 0 N :=
  ⟨by simp, (fun x hx => by rw [List.mem_replicate] at hx; omega), by simp [nv, nv_zeros], (fun j _ => by rw [List.getD_eq_getElem?_getD, List.getElem?_replicate]; split <;> rfl)⟩
theorem AddAt.next {xs ys zs : List Nat} {k c N x y : Nat} (h : AddAt xs ys zs k c N) (hk : k < N) (hx : x = xs.getD k 0) (hy : y = ys.getD k 0) :
    AddAt xs ys (zs.set k ((x + y + c) % 18446744073709551616)) (k + 1) ((x + y + c) / 18446744073709551616) N := by
  have hl := h.len
  refine ⟨by rw [List.length_set]; exact hl, set_lt h.lt (Nat.mod_lt _ (by omega)), ?_, ?_⟩
  · have s1 := nv_set 18446744073709551616 zs k ((x + y + c) % 18446744073709551616) (by omega)
    rw [h.zero k (Nat.le_refl _), Nat.mul_zero, Nat.add_zero] at s1
    rw [s1, nv_take_succ, nv_take_succ, ← hx, ← hy, Nat.pow_succ]
    exact add_step h.val
  · intro j hj
    rw [getD_set _ _ _ _ (by omega), if_neg (by omega)]
    exact h.zero j (by omega)

theorem plus_fin {xs ys zs : List Nat} {x y n1 c : Nat} (dx : Dg 18446744073709551616 x xs) (dy : Dg 18446744073709551616 y ys) (h1 : xs.length = n1) (h2 : ys.length ≤ n1) (h : AddAt xs ys zs n1 c (n1 + 1)) (hc : c ≤ 1) :
    nv 18446744073709551616 (zs.set n1 c) = x + y ∧ ∀ z ∈ zs.set n1 c, z < 18446744073709551616 := by
  have hl := h.len
  have s1 := nv_set 18446744073709551616 zs n1 c (by omega)
  rw [h.zero n1 (Nat.le_refl _), Nat.mul_zero, Nat.add_zero, h.val, nv_take_all _ xs _ (by omega), nv_take_all _ ys _ (by omega), dx.1, dy.1] at s1
  exact ⟨s1, set_lt h.lt (by omega)⟩

end Go.Proofs.Ytcgbdpgfpickaaa
namespace Go.Proofs.Ytcgbdpgfpickaaa
open Go.RowKit
set_option linter.unusedVariables false

structure SubAt (xs ys zs : List Nat) (k b N : Nat) : Prop where
  len : zs.length = N
  lt : ∀ x ∈ zs, x < 18446744073709551616
  val : nv 18446744073709551616 (xs.take k) + 18446744073709551616 ^ k * b = nv 18446744073709551616 (ys.take k) + nv 18446744073709551616 zs
  zero : ∀ j, k ≤ j → zs.getD j 0 = 0
theorem SubAt.start {xs ys : List Nat} {N : Nat} : SubAt xs ys (List.replicate N 0) 0 0 N :=
  ⟨by simp, (fun x hx => by rw [List.mem_replicate] at hx; omega), by simp [nv, nv_zeros], (fun j _ => by rw [List.getD_eq_getElem?_getD, List.getElem?_replicate]; split <;> rfl)⟩
theorem SubAt.next {xs ys zs : List Nat} {k b N x y : Nat} (h : SubAt xs ys zs k b N) (hk : k < N) (hx : x = xs.getD k 0) (hy : y = ys.getD k 0) (bx : x < 18446744073709551616) (by' : y < 18446744073709551616) (hb : b ≤ 1) :
    SubAt xs ys (zs.set k ((x + 18446744073709551616 - y - b) % 18446744073709551616)) (k + 1) (if x < y + b then 1 else 0) N := by
  have hl := h.len
  refine ⟨by rw [List.length_set]; exact hl, set_lt h.lt (Nat.mod_lt _ (by omega)), ?_, ?_⟩
  · have s1 := nv_set 18446744073709551616 zs k ((x + 18446744073709551616 - y - b) % 18446744073709551616) (by omega)
    rw [h.zero k (Nat.le_refl _), Nat.mul_zero, Nat.add_zero] at s1
    have e : (if x < y + b then 1 else 0) = 1 - (x + 18446744073709551616 - y - b) / 18446744073709551616 := by
      by_cases hlt : x < y + b
      · rw [if_pos hlt]; omega
      · rw [if_neg hlt]; omega
    rw [s1, nv_take_succ, nv_take_succ, ← hx, ← hy, Nat.pow_succ, e]
    exact sub_step h.val (by omega) (by omega)
  · intro j hj
    rw [getD_set _ _ _ _ (by omega), if_neg (by omega)]
    exact h.zero j (by omega)
theorem sub_fin {x y b n1 : Nat} {xs ys zs : List Nat} (dx : Dg 18446744073709551616 x xs) (dy : Dg 18446744073709551616 y ys) (hyx : y ≤ x) (h1 : xs.length = n1) (h : SubAt xs ys zs n1 b n1) : nv 18446744073709551616 zs = x - y := by
  have h2 := dy.len_le (by omega) dx hyx
  have h3 := h.val
  rw [nv_take_all _ xs _ (by omega), nv_take_all _ ys _ (by omega), dx.1, dy.1] at h3
  have h4 := nv_lt 18446744073709551616 zs h.lt
  rw [h.len] at h4
  by_cases hb : b = 0
  · subst hb; omega
  · have h5 : 18446744073709551616 ^ n1 * 1 ≤ 18446744073709551616 ^ n1 * b := Nat.mul_le_mul_left _ (by omega)
    omega

end Go.Proofs.Ytcgbdpgfpickaaa
namespace Go.Proofs.Ytcgbdpgfpickaaa
open Go.RowKit
set_option linter.unusedVariables false

theorem inner_step {zs zs' ys : List Nat} {k j c x y o s P : Nat} (hj : k + j < zs.length) (h : nv 18446744073709551616 zs + 18446744073709551616 ^ (k + j) * c = P + 18446744073709551616 ^ k * (x * nv 18446744073709551616 (ys.take j))) (ho : o = zs.getD (k + j) 0) (hy : y = ys.getD j 0) (hs : s = x * y + o + c) (hz : zs' = zs.set (k + j) (s % 18446744073709551616)) :
    nv 18446744073709551616 zs' + 18446744073709551616 ^ (k + (j + 1)) * (s / 18446744073709551616) = P + 18446744073709551616 ^ k * (x * nv 18446744073709551616 (ys.take (j + 1))) := by
  have h1 := nv_set 18446744073709551616 zs (k + j) (s % 18446744073709551616) hj
  rw [← hz, ← ho, hs] at h1
  have h2 := mul_step h h1
  rw [← Nat.add_assoc, Nat.pow_succ, hs, h2, nv_take_succ, ← hy, Nat.mul_add, Nat.mul_add, Nat.pow_add, ← Nat.add_assoc]
  congr 1
  ac_rfl
structure MulAt (ys zs zs0 : List Nat) (k j x c N : Nat) : Prop where
  len : zs.length = N
  lt : ∀ x ∈ zs, x < 18446744073709551616
  val : nv 18446744073709551616 zs + 18446744073709551616 ^ (k + j) * c = nv 18446744073709551616 zs0 + 18446744073709551616 ^ k * (x * nv 18446744073709551616 (ys.take j))
  rest : ∀ i, k + j ≤ i → zs.getD i 0 = zs0.getD i 0
theorem MulAt.next {ys zs zs0 : List Nat} {k j x c N y o : Nat} (h : MulAt ys zs zs0 k j x c N) (hj : k + j < N) (ho : o = zs.getD (k + j) 0) (hy : y = ys.getD j 0) :
    MulAt ys (zs.set (k + j) ((x * y + o + c) % 18446744073709551616)) zs0 k (j + 1) x ((x * y + o + c) / 18446744073709551616) N := by
  have hl := h.len
  refine ⟨by rw [List.length_set]; exact hl, set_lt h.lt (Nat.mod_lt _ (by omega)), inner_step (by omega) h.val ho hy rfl rfl, ?_⟩
  intro i hi
  rw [getD_set _ _ _ _ (by omega), if_neg (by omega)]
  exact h.rest i (by omega)
theorem prod_le {x y : Nat} (hx : x < 18446744073709551616) (hy : y < 18446744073709551616) : x * y ≤ 340282366920938463426481119284349108225 := by
  have := Nat.mul_le_mul (show x ≤ 18446744073709551615 by omega) (show y ≤ 18446744073709551615 by omega)
  omega

end Go.Proofs.Ytcgbdpgfpickaaa
namespace Go.Proofs.Ytcgbdpgfpickaaa
open Go.RowKit
set_option linter.unusedVariables false

structure TimAt (xs zs : List Nat) (k n2 Y N : Nat) : Prop where
  len : zs.length = N
  lt : ∀ x ∈ zs, x < 18446744073709551616
  val : nv 18446744073709551616 zs = nv 18446744073709551616 (xs.take k) * Y
  zero : ∀ j, k + n2 ≤ j → zs.getD j 0 = 0
theorem TimAt.start {xs : List Nat} {n2 Y N : Nat} : TimAt xs (List.replicate N 0) 0 n2 Y N :=
  ⟨by simp, (fun x hx => by rw [List.mem_replicate] at hx; omega), by simp [nv, nv_zeros], (fun j _ => by rw [List.getD_eq_getElem?_getD, List.getElem?_replicate]; split <;> rfl)⟩
theorem TimAt.next {xs ys zs zs0 : List Nat} {k n2 Y N x c : Nat} (h : TimAt xs zs0 k n2 Y N) (m : MulAt ys zs zs0 k n2 x c N) (hk : k + n2 < N) (dy : Dg 18446744073709551616 Y ys) (hn : ys.length = n2) (hx : x = xs.getD k 0) (hc : c < 18446744073709551616) :
    TimAt xs (zs.set (k + n2) c) (k + 1) n2 Y N := by
  have hl := m.len
  refine ⟨by rw [List.length_set]; exact hl, set_lt m.lt hc, ?_, ?_⟩
  · have h1 := nv_set 18446744073709551616 zs (k + n2) c (by omega)
    rw [m.rest _ (Nat.le_refl _), h.zero _ (Nat.le_refl _), Nat.mul_zero, Nat.add_zero, m.val, h.val, nv_take_all _ ys _ (by omega), dy.1] at h1
    rw [h1, nv_take_succ, Nat.add_mul, ← hx, Nat.mul_assoc]
  · intro j hj
    rw [getD_set _ _ _ _ (by omega), if_neg (by omega), m.rest j (by omega)]
    exact h.zero j (by omega)

end Go.Proofs.Ytcgbdpgfpickaaa
namespace Go.Proofs.Ytcgbdpgfpickaaa
open Go.RowKit
set_option linter.unusedVariables false

/-- a right dyad: its sign, its limbs, its power -/
def RightD (s : Bool) (xs : List Nat) (e : Int) : Prop :=
  (xs.length = 0 ∧ s = false ∧ e = 0) ∨ (0 < xs.length ∧ xs.length ≤ 4096 ∧ xs.getD (xs.length - 1) 0 ≠ 0 ∧ xs.getD 0 0 % 2 = 1 ∧ -1048576 ≤ e ∧ e ≤ 1048576)
instance (s : Bool) (xs : List Nat) (e : Int) : Decidable (RightD s xs e) := by unfold RightD; infer_instance
def rightB (s : Bool) (xs : List Nat) (e : Int) : Bool := decide (RightD s xs e)
theorem rightB_t {s : Bool} {xs : List Nat} {e : Int} (h : RightD s xs e) : rightB s xs e = true := by simp [rightB, h]
theorem rightB_f {s : Bool} {xs : List Nat} {e : Int} (h : ¬ RightD s xs e) : rightB s xs e = false := by simp [rightB, h]
theorem rightB_iff {s : Bool} {xs : List Nat} {e : Int} : rightB s xs e = true ↔ RightD s xs e := by simp [rightB]
theorem and_one {v : Nat} (h : v < 18446744073709551616) : bits .and .u64 (v : Int) 1 = ((v % 2 : Nat) : Int) := by
  have := bits_and_u64_nat v 1 h (by omega)
  rw [Nat.and_one_is_mod] at this
  exact this
theorem gr_box {w : World} (o : Obj) : Gr w (w.alloc o) := (Gr.refl w).alloc o
theorem ret_bool {a b : Bool} (h : a = b) : Ending.returned (.bool a) = Ending.returned (.bool b) := by rw [h]

end Go.Proofs.Ytcgbdpgfpickaaa
