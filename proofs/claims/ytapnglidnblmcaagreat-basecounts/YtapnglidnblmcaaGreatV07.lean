import Derived.Test.YtapnglidnblmcaaGreatV01
import Derived.Test.YtapnglidnblmcaaGreatV06
import Derived.Test.YtapnglidnblmcaaGreatV02
import Derived.Laws.OwnMore
namespace Go.Proofs.YtapnglidnblmcaaGreat.Bs
set_option linter.unusedVariables false

/-! DIGITS OF ANY BASE, the highest first -/
/-- what a row of digits says -/
def wv (b : Nat) (ds : List Nat) : Nat := ds.foldl (fun a d => a * b + d) 0
theorem wv_from (b : Nat) (ds : List Nat) (x : Nat) : ds.foldl (fun a d => a * b + d) x = x * b ^ ds.length + wv b ds := by
  induction ds generalizing x with
  | nil => simp [wv]
  | cons d ds ih =>
    unfold wv
    rw [List.foldl_cons, List.foldl_cons, ih (x * b + d), ih (0 * b + d), List.length_cons, Nat.pow_succ]
    grind
theorem wv_cons (b d : Nat) (ds : List Nat) : wv b (d :: ds) = d * b ^ ds.length + wv b ds := by
  unfold wv
  rw [List.foldl_cons, Nat.zero_mul, Nat.zero_add]
  exact wv_from b ds d
theorem wv_one (b d : Nat) : wv b [d] = d := by simp [wv]
theorem wv_app (b : Nat) (xs ys : List Nat) : wv b (xs ++ ys) = wv b xs * b ^ ys.length + wv b ys := by
  rw [show wv b (xs ++ ys) = (xs ++ ys).foldl (fun a d => a * b + d) 0 from rfl, List.foldl_append, wv_from]
  rfl
theorem wv_snoc (b d : Nat) (xs : List Nat) : wv b (xs ++ [d]) = wv b xs * b + d := by
  rw [wv_app, wv_one, List.length_singleton, Nat.pow_one]
theorem wv_lt {b : Nat} {ds : List Nat} (h : ∀ d ∈ ds, d < b) : wv b ds < b ^ ds.length := by
  induction ds with
  | nil => simp [wv]
  | cons d ds ih =>
    have h1 := h d (by simp)
    have h2 := ih (fun x hx => h x (by simp [hx]))
    rw [wv_cons, List.length_cons, Nat.pow_succ]
    have h3 : (d + 1) * b ^ ds.length ≤ b * b ^ ds.length := Nat.mul_le_mul_right _ (by omega)
    rw [Nat.mul_comm (b ^ ds.length) b]
    rw [Nat.add_mul] at h3
    omega
theorem wv_ge {b d : Nat} {ds : List Nat} (h : 0 < d) : b ^ ds.length ≤ wv b (d :: ds) := by
  rw [wv_cons]
  have := Nat.mul_le_mul_right (b ^ ds.length) (show 1 ≤ d by omega)
  omega
/-- a number's lowest k digits -/
def fx (b : Nat) : Nat → Nat → List Nat
  | 0, _ => []
  | k + 1, X => fx b k (X / b) ++ [X % b]
theorem fx_len (b k X : Nat) : (fx b k X).length = k := by
  induction k generalizing X with
  | zero => rfl
  | succ k ih => rw [fx, List.length_append, ih, List.length_singleton]
theorem fx_lt {b : Nat} (hb : 0 < b) (k X : Nat) : ∀ d ∈ fx b k X, d < b := by
  induction k generalizing X with
  | zero => intro d h; simp [fx] at h
  | succ k ih =>
    intro d h
    rw [fx, List.mem_append] at h
    rcases h with h | h
    · exact ih _ d h
    · rw [List.mem_singleton] at h
      rw [h]
      exact Nat.mod_lt _ hb
theorem wv_fx {b : Nat} (hb : 0 < b) (k X : Nat) (h : X < b ^ k) : wv b (fx b k X) = X := by
  induction k generalizing X with
  | zero => simp at h; subst h; rfl
  | succ k ih =>
    rw [fx, wv_snoc, ih (X / b) ((Nat.div_lt_iff_lt_mul hb).2 (by rw [Nat.pow_succ] at h; exact h)), Nat.mul_comm]
    exact Nat.div_add_mod X b
theorem fx_add (b j k X : Nat) : fx b (j + k) X = fx b j (X / b ^ k) ++ fx b k (X % b ^ k) := by
  induction k generalizing X with
  | zero => simp [fx]
  | succ k ih =>
    rw [show j + (k + 1) = (j + k) + 1 from rfl, fx, ih (X / b), fx, Nat.div_div_eq_div_mul, Nat.pow_succ, Nat.mul_comm b (b ^ k), List.append_assoc]
    have e1 : X % (b ^ k * b) / b = X / b % b ^ k := by rw [Nat.mul_comm]; exact Nat.mod_mul_right_div_self X b (b ^ k)
    have e2 : X % (b ^ k * b) % b = X % b := Nat.mod_mod_of_dvd X ⟨b ^ k, Nat.mul_comm _ _⟩
    rw [e1, e2]
/-- these digits are the number's text -/
structure Tx (b X : Nat) (ds : List Nat) : Prop where
  some : 0 < ds.length
  lt : ∀ d ∈ ds, d < b
  worth : wv b ds = X
  head : 1 < ds.length → 0 < ds.headD 0
theorem Tx.ge {b X : Nat} {ds : List Nat} (h : Tx b X ds) (h1 : 1 < ds.length) : b ^ (ds.length - 1) ≤ X := by
  have hd := h.head h1
  have hw := h.worth
  match ds, h1, hd with
  | d :: es, _, hd =>
    simp only [List.headD_cons] at hd
    rw [← hw, List.length_cons, Nat.add_sub_cancel]
    exact wv_ge hd
theorem Tx.low {b X : Nat} {ds : List Nat} (h : Tx b X ds) : X < b ^ ds.length := h.worth ▸ wv_lt h.lt
theorem wv_inj {b : Nat} : ∀ {xs ys : List Nat}, xs.length = ys.length → (∀ d ∈ xs, d < b) → (∀ d ∈ ys, d < b) → wv b xs = wv b ys → xs = ys
  | [], [], _, _, _, _ => rfl
  | [], _ :: _, h, _, _, _ => by simp at h
  | _ :: _, [], h, _, _, _ => by simp at h
  | x :: xs, y :: ys, hl, hx, hy, he => by
    have hl' : xs.length = ys.length := by simpa using hl
    have h1 := wv_lt (b := b) (ds := xs) (fun d hd => hx d (by simp [hd]))
    have h2 := wv_lt (b := b) (ds := ys) (fun d hd => hy d (by simp [hd]))
    rw [wv_cons, wv_cons, ← hl'] at he
    rw [← hl'] at h2
    have hp : 0 < b ^ xs.length := by omega
    have e1 : x = y := by
      have a1 : (x * b ^ xs.length + wv b xs) / b ^ xs.length = x := by
        rw [Nat.mul_comm, Nat.mul_add_div hp, Nat.div_eq_of_lt h1]; rfl
      have a2 : (y * b ^ xs.length + wv b ys) / b ^ xs.length = y := by
        rw [Nat.mul_comm, Nat.mul_add_div hp, Nat.div_eq_of_lt h2]; rfl
      rw [← a1, he, a2]
    subst e1
    rw [wv_inj hl' (fun d hd => hx d (by simp [hd])) (fun d hd => hy d (by simp [hd])) (by omega)]
theorem Tx.one {b X : Nat} {ds es : List Nat} (hb : 2 ≤ b) (h : Tx b X ds) (k : Tx b X es) : ds = es := by
  have aux : ∀ {us vs : List Nat}, Tx b X us → Tx b X vs → ¬ us.length < vs.length := fun {us vs} h k hlt => by
    have h1 := k.ge (by have := h.some; omega)
    have h2 := h.low
    have h3 : b ^ us.length ≤ b ^ (vs.length - 1) := Nat.pow_le_pow_right (by omega) (by omega)
    omega
  have h1 := aux h k
  have h2 := aux k h
  exact wv_inj (by omega) h.lt k.lt (h.worth.trans k.worth.symm)
theorem Tx.single {b d : Nat} (h : d < b) : Tx b d [d] := ⟨by simp, by simpa using h, wv_one b d, by simp⟩
/-- a nought ahead says nothing -/
theorem wv_drop {b : Nat} {ds : List Nat} (h0 : ds.headD 0 = 0) : wv b (ds.drop 1) = wv b ds := by
  match ds with
  | [] => rfl
  | d :: es =>
    simp only [List.headD_cons] at h0
    subst h0
    rw [wv_cons]
    simp
/-- a number's text is there -/
theorem Tx.ex {b : Nat} (hb : 2 ≤ b) (X : Nat) : ∃ ds, Tx b X ds := by
  induction X using Nat.strongRecOn with
  | _ X ih =>
    by_cases h : X < b
    · exact ⟨[X], Tx.single h⟩
    · obtain ⟨ds, hd⟩ := ih (X / b) (Nat.div_lt_self (by omega) (by omega))
      have hpos : 0 < X / b := Nat.div_pos (by omega) (by omega)
      refine ⟨ds ++ [X % b], by simp, fun d hd' => ?_, ?_, fun _ => ?_⟩
      · rw [List.mem_append] at hd'
        rcases hd' with h1 | h1
        · exact hd.lt d h1
        · rw [List.mem_singleton] at h1
          rw [h1]
          exact Nat.mod_lt _ (by omega)
      · rw [wv_snoc, hd.worth, Nat.mul_comm]
        exact Nat.div_add_mod X b
      · have hs := hd.some
        have hw := hd.worth
        have hh := hd.head
        match ds, hs with
        | [d], _ =>
          rw [wv_one] at hw
          simp only [List.cons_append, List.headD_cons]
          omega
        | d :: e :: fs, _ =>
          simpa using hh (by simp)
/-- a digit behind -/
theorem Tx.more {b X d : Nat} {ds : List Nat} (h : Tx b X ds) (hd : d < b) (hX : 0 < X) : Tx b (X * b + d) (ds ++ [d]) := by
  refine ⟨by simp, fun x hx => ?_, by rw [wv_snoc, h.worth], fun _ => ?_⟩
  · rw [List.mem_append] at hx
    rcases hx with h1 | h1
    · exact h.lt x h1
    · rw [List.mem_singleton] at h1
      rw [h1]
      exact hd
  · have hs := h.some
    have hw := h.worth
    have hh := h.head
    match ds, hs with
    | [d'], _ =>
      rw [wv_one] at hw
      simp only [List.cons_append, List.headD_cons]
      omega
    | d' :: e :: fs, _ => simpa using hh (by simp)

/-! THE DIGITS' BYTES -/
def dg (d : Nat) : Nat := if d < 10 then 48 + d else 87 + d
def dgv (u : Nat) : Nat := if 48 ≤ u ∧ u ≤ 57 then u - 48 else if 97 ≤ u ∧ u ≤ 122 then u - 87 else 99
theorem dgv_dg {d : Nat} (h : d < 36) : dgv (dg d) = d := by unfold dgv dg; split <;> (repeat' split) <;> omega
theorem dgv_small {u : Nat} (h : dgv u < 99) : dgv u < 36 ∧ u < 123 ∧ 48 ≤ u := by unfold dgv at *; (repeat' split at h) <;> (repeat' split) <;> omega
/-- a byte that may stand at a place of what stands behind the - -/
def Gd (b : Nat) (neg : Bool) (us : List Nat) (i : Nat) : Prop := dgv (us.getD i 0) < b ∧ (i = 0 → 0 < dgv (us.getD 0 0) ∨ neg = false) ∧ (0 < i → 0 < dgv (us.getD 0 0))
/-- so many may stand, and no more -/
structure Pl (b : Nat) (neg : Bool) (us : List Nat) (m : Nat) : Prop where
  le : m ≤ us.length
  good : ∀ i, i < m → Gd b neg us i
  end_ : m < us.length → ¬ Gd b neg us m
theorem Pl.one {b : Nat} {neg : Bool} {us : List Nat} {m n : Nat} (h : Pl b neg us m) (k : Pl b neg us n) : m = n := by
  have h1 : ¬ m < n := fun hl => h.end_ (by have := k.le; omega) (k.good m hl)
  have h2 : ¬ n < m := fun hl => k.end_ (by have := h.le; omega) (h.good n hl)
  omega
theorem Pl.ex (b : Nat) (neg : Bool) (us : List Nat) : ∃ m, Pl b neg us m := by
  have aux : ∀ n, n ≤ us.length → (∃ m, Pl b neg us m) ∨ ∀ i, i < n → Gd b neg us i := by
    intro n
    induction n with
    | zero => exact fun _ => .inr (fun i hi => absurd hi (by omega))
    | succ n ih =>
      intro hn
      rcases ih (by omega) with h | h
      · exact .inl h
      · by_cases hg : Gd b neg us n
        · refine .inr (fun i hi => ?_)
          by_cases e : i = n
          · exact e ▸ hg
          · exact h i (by omega)
        · exact .inl ⟨n, by omega, h, fun _ => hg⟩
  rcases aux us.length (Nat.le_refl _) with h | h
  · exact h
  · exact ⟨_, Nat.le_refl _, h, fun hl => absurd hl (by omega)⟩
/-- a text whose every byte may stand says a number -/
theorem Pl.tx {b : Nat} {neg : Bool} {us : List Nat} (h : Pl b neg us us.length) (h0 : 0 < us.length) : Tx b (wv b (us.map dgv)) (us.map dgv) ∧ (neg = true → 0 < wv b (us.map dgv)) := by
  have hl : ∀ d ∈ us.map dgv, d < b := by
    intro d hd
    obtain ⟨u, hu, rfl⟩ := List.mem_map.1 hd
    obtain ⟨i, hi, rfl⟩ := List.getElem_of_mem hu
    have := (h.good i hi).1
    rwa [List.getD_eq_getElem?_getD, List.getElem?_eq_getElem hi] at this
  refine ⟨⟨by simpa using h0, hl, rfl, fun h1 => ?_⟩, fun hn => ?_⟩
  · rw [List.length_map] at h1
    have := (h.good 1 h1).2.2 (by omega)
    match us, h0 with
    | u :: vs, _ => simpa using this
  · have := (h.good 0 h0).2.1 rfl
    match us, h0, hl with
    | u :: vs, _, hl =>
      rw [hn] at this
      simp only [List.getD_cons_zero] at this
      have hp : 0 < dgv u := by
        rcases this with h | h
        · exact h
        · cases h
      have hge := wv_ge (b := b) (ds := vs.map dgv) hp
      have hb : 0 < b := by have := hl (dgv u) (by simp); omega
      have := Nat.pow_pos (n := (vs.map dgv).length) hb
      rw [List.map_cons]
      omega
/-- a number's text may stand, every byte -/
theorem Tx.pl {b X : Nat} {neg : Bool} {ds : List Nat} (hb : b ≤ 36) (h : Tx b X ds) (hn : neg = true → 0 < X) : Pl b neg (ds.map dg) (ds.map dg).length := by
  have hv : ∀ i, i < ds.length → dgv ((ds.map dg).getD i 0) = ds.getD i 0 ∧ ds.getD i 0 < b := by
    intro i hi
    rw [List.getD_eq_getElem?_getD, List.getD_eq_getElem?_getD, List.getElem?_map, List.getElem?_eq_getElem hi]
    have := h.lt _ (List.getElem_mem hi)
    exact ⟨dgv_dg (by omega), this⟩
  refine ⟨Nat.le_refl _, fun i hi => ?_, fun hl => absurd hl (by omega)⟩
  rw [List.length_map] at hi
  have h0 := h.some
  obtain ⟨v1, v2⟩ := hv i hi
  obtain ⟨z1, z2⟩ := hv 0 h0
  refine ⟨by rw [v1]; exact v2, fun e => ?_, fun hp => ?_⟩
  · cases neg with
    | false => exact .inr rfl
    | true =>
      refine .inl ?_
      have hX := hn rfl
      rw [z1]
      by_cases h1 : 1 < ds.length
      · have := h.head h1
        match ds, h0 with
        | d :: es, _ => simpa using this
      · match ds, h0, h1 with
        | [d], _, _ => have := h.worth; rw [wv_one] at this; simp; omega
        | _ :: _ :: _, _, h1 => exact absurd (by simp) h1
  · have := h.head (by omega)
    rw [z1]
    match ds, h0 with
    | d :: es, _ => simpa using this
end Go.Proofs.YtapnglidnblmcaaGreat.Bs
namespace Go.Proofs.YtapnglidnblmcaaGreat
open Go.RowKit
set_option linter.unusedVariables false
set_option linter.unusedSimpArgs false

/-- a base -/
def baB (b : Int) : Bool := decide (2 ≤ b) && decide (b ≤ 36)
theorem isBaseB (b : Int) (w : World) : Calls Tryz.prog 26 #[.int .i64 b] w fun e w' => e = .returned (.bool (baB b)) ∧ w' = w := by
  unfold baB
  by_cases h1 : 2 ≤ b
  · by_cases h2 : b ≤ 36
    · rw [decide_eq_true h1, decide_eq_true h2]
      go_enter Tryz.func26, Tryz.ntmps26
      go_wp2
      go_ret
      exact ⟨rfl, rfl⟩
    · rw [decide_eq_true h1, decide_eq_false h2]
      go_enter Tryz.func26, Tryz.ntmps26
      go_wp2
      go_ret
      exact ⟨rfl, rfl⟩
  · rw [decide_eq_false h1]
    go_enter Tryz.func26, Tryz.ntmps26
    go_wp2
    go_ret
    exact ⟨rfl, rfl⟩
/-- the longest piece -/
structure PP (b p P : Nat) : Prop where
  eq : P = b ^ p
  lt : P < 18446744073709551616
  ge : 18446744073709551616 ≤ P * b
  some : 0 < p
  le : p ≤ 63
theorem PP.le' {b p : Nat} (h2 : 2 ≤ b) (h : b ^ p < 18446744073709551616) : p ≤ 63 := by
  refine Nat.le_of_not_lt fun hlt => ?_
  have h1 : 2 ^ 64 ≤ b ^ p := Nat.le_trans (Nat.pow_le_pow_left h2 64) (Nat.pow_le_pow_right (by omega) (by omega))
  have : (2 : Nat) ^ 64 = 18446744073709551616 := by decide
  omega
theorem pieceOfB (b : Nat) (h2 : 2 ≤ b) (h36 : b ≤ 36) (w : World) : Calls Tryz.prog 53 #[.int .i64 (b : Int)] w fun r w' => ∃ p P : Nat, r = .returned (.tuple #[.int .i64 (p : Int), .int .u64 (P : Int)]) ∧ Hid (PP b p P) ∧ w' = w := by
  have hb0 : ¬ ((b : Int) = 0) := by omega
  have hb1 : ((b : Int) == 0) = false := by simp; omega
  obtain ⟨m, hm⟩ : ∃ m, 18446744073709551615 / b = m := ⟨_, rfl⟩
  have em : Int.tdiv 18446744073709551615 (b : Int) = (m : Int) := by
    rw [Int.tdiv_eq_ediv_of_nonneg (by omega), ← hm]; simp
  have hmb : ∀ P, P ≤ m ↔ P * b ≤ 18446744073709551615 := fun P => by rw [← hm]; exact Nat.le_div_iff_mul_le (by omega)
  have HM : Hid (∀ P, P ≤ m ↔ P * b ≤ 18446744073709551615) := hmb
  have hm64 : m ≤ 18446744073709551615 := hm ▸ Nat.div_le_self _ _
  clear hm hmb
  go_enter Tryz.func53, Tryz.ntmps53
  go_wp2
  go_loopw [4, 5] (fun d q wr => ∃ (p P : Nat), d = .int .i64 (p : Int) ∧ q = .int .u64 (P : Int) ∧ Hid (P = b ^ p) ∧ P < 18446744073709551616 ∧ p ≤ 63 ∧ wr = w) (fun d _ _ => 64 - (intOf d).toNat)
  case atStart => exact ⟨0, 1, rfl, rfl, by rfl, by omega, by omega, rfl⟩
  case round =>
    obtain ⟨p, P, rfl, rfl, hP, hlt, hp, rfl⟩ := hrel
    by_cases hc : P ≤ m
    · have hx := (HM.out P).1 hc
      obtain ⟨Q, hQ⟩ : ∃ Q, P * b = Q := ⟨_, rfl⟩
      have hQ2 : (P : Int) * (b : Int) = (Q : Int) := by rw [← hQ]; simp
      have hQ3 : Hid (Q = b ^ (p + 1)) := by rw [← hQ, hP.out, Nat.pow_succ]; exact rfl
      have hQ4 : Q < 18446744073709551616 := by omega
      have hp2 : p + 1 ≤ 63 := PP.le' h2 (hQ3.out ▸ hQ4)
      have hc' : (P : Int) ≤ (m : Int) := by omega
      clear hQ hx
      go_wp2
      go_roundw
      case rel => exact ⟨p + 1, Q, by go_num, by go_num, hQ3, hQ4, hp2, (by first | trivial | rfl)⟩
      case measure => simp only [intOf]; omega
    · have hx : 18446744073709551616 ≤ P * b := by have := (HM.out P).2; omega
      have hc' : ¬ (P : Int) ≤ (m : Int) := by omega
      have HX : Hid (18446744073709551616 ≤ P * b) := hx
      clear hx
      go_wp2
      go_ret2
      refine ⟨p, P, rfl, ⟨hP.out, hlt, HX.out, ?_, hp⟩, rfl⟩
      refine Nat.pos_of_ne_zero fun h0 => ?_
      have := hP.out
      have hx := HX.out
      subst h0
      rw [Nat.pow_zero] at this
      rw [this] at hx
      omega
/-- the limb of a number of one limb or none -/
theorem limbOfB (s : Bool) (ad : Option Addr) (n cap : Nat) (X : Nat) (w : World) (hx : Wh w s ad n cap (X : Int)) (h1 : X < 18446744073709551616) :
    Calls Tryz.prog 89 #[.agg #[.bool s, .slice ad n cap]] w fun r w' => r = .returned (.int .u64 (X : Int)) ∧ Gr w w' := by
  obtain ⟨xs, rx, dx, hR⟩ := hx.right
  have GW : Gr w (w.alloc (.cells #[.bool s, .slice ad n cap] 24)) := (Gr.refl w).alloc _
  have H1 := blk1 w (.cells #[.bool s, .slice ad n cap] 24)
  obtain ⟨x1, y1⟩ := bx2 H1
  have rx' := rx.gr GW
  by_cases h0 : n = 0
  · subst h0
    have hX : X = 0 := by have := hx.n0.1 rfl; omega
    subst hX
    clear hx rx dx hR rx'
    go_enter Tryz.func89, Tryz.ntmps89
    go_wp2
    go_ret
    exact ⟨rfl, GW⟩
  · have hl := rx.len
    have hn : n = 1 := by
      have h3 := dx.lower (k := n - 1) (by omega)
      by_cases h4 : n = 1
      · exact h4
      · have h5 : (18446744073709551616 : Nat) ^ 1 ≤ 18446744073709551616 ^ (n - 1) := Nat.pow_le_pow_right (by omega) (by omega)
        rw [Nat.pow_one] at h5
        omega
    subst hn
    obtain ⟨b, o, rfl, hb, hc⟩ := rx'.cells (by omega)
    have hc0 := hc 0 (by omega)
    have hX : xs.getD 0 0 = X := by
      have := dx.1
      match xs, hl with
      | [x], _ => simp [nv] at this; simp; omega
    rw [hX, Nat.add_zero] at hc0
    clear hx rx dx hR rx' hc hX hl h0
    go_enter Tryz.func89, Tryz.ntmps89
    go_wp2
    go_ret
    exact ⟨rfl, GW⟩
end Go.Proofs.YtapnglidnblmcaaGreat
namespace Go.Proofs.YtapnglidnblmcaaGreat
open Go.RowKit
set_option linter.unusedVariables false

theorem inner_step {zs zs' ys : List Nat} {k j c x y o s P : Nat} (hj : k + j < zs.length) (h : nv 18446744073709551616 zs + 18446744073709551616 ^ (k + j) * c = P + 18446744073709551616 ^ k * (x * nv 18446744073709551616 (ys.take j))) (ho : o = zs.getD (k + j) 0) (hy : y = ys.getD j 0) (hs : s = x * y + o + c) (hz : zs' = zs.set (k + j) (s % 18446744073709551616)) :
    nv 18446744073709551616 zs' + 18446744073709551616 ^ (k + (j + 1)) * (s / 18446744073709551616) = P + 18446744073709551616 ^ k * (x * nv 18446744073709551616 (ys.take (j + 1))) := by
  have h1 := nv_set 18446744073709551616 zs (k + j) (s % 18446744073709551616) hj
  rw [← hz, ← ho, hs] at h1
  have h2 := mul_step h h1
  rw [← Nat.add_assoc, Nat.pow_succ, hs, h2, nv_take_succ, ← hy, Nat.mul_add, Nat.mul_add, Nat.pow_add, ← Nat.add_assoc]
  congr 1
  ac_rfl
structure MulAt (ys zs zs0 : List Nat) (k j x c N : Nat) : Prop where
  len : zs.length = N
  lt : ∀ x ∈ zs, x < 18446744073709551616
  val : nv 18446744073709551616 zs + 18446744073709551616 ^ (k + j) * c = nv 18446744073709551616 zs0 + 18446744073709551616 ^ k * (x * nv 18446744073709551616 (ys.take j))
  rest : ∀ i, k + j ≤ i → zs.getD i 0 = zs0.getD i 0
theorem MulAt.next {ys zs zs0 : List Nat} {k j x c N y o : Nat} (h : MulAt ys zs zs0 k j x c N) (hj : k + j < N) (ho : o = zs.getD (k + j) 0) (hy : y = ys.getD j 0) :
    MulAt ys (zs.set (k + j) ((x * y + o + c) % 18446744073709551616)) zs0 k (j + 1) x ((x * y + o + c) / 18446744073709551616) N := by
  have hl := h.len
  refine ⟨by rw [List.length_set]; exact hl, set_lt h.lt (Nat.mod_lt _ (by omega)), inner_step (by omega) h.val ho hy rfl rfl, ?_⟩
  intro i hi
  rw [getD_set _ _ _ _ (by omega), if_neg (by omega)]
  exact h.rest i (by omega)
theorem prod_le {x y : Nat} (hx : x < 18446744073709551616) (hy : y < 18446744073709551616) : x * y ≤ 340282366920938463426481119284349108225 := by
  have := Nat.mul_le_mul (show x ≤ 18446744073709551615 by omega) (show y ≤ 18446744073709551615 by omega)
  omega

end Go.Proofs.YtapnglidnblmcaaGreat
namespace Go.Proofs.YtapnglidnblmcaaGreat
open Go.RowKit
set_option linter.unusedVariables false

/-! SIZES IN PLACE: a row of limbs that owns its block; all but that block stays -/
def OU (w : World) (g N C : Nat) (zs : List Nat) : Prop := w.ownsRow g 71 1 (.slice (some ⟨g, 0, none⟩) N C) N (u64s zs)
theorem OU.cell {w : World} {g N C : Nat} {zs : List Nat} (h : OU w g N C zs) (j : Nat) (hj : j < N) : w.cell? ⟨g, j, none⟩ = some (.int .u64 ((zs.getD j 0 : Nat) : Int)) := by
  have hl : zs.length = N := by have := h.1; rw [u64s_length] at this; omega
  rw [World.ownsRow.cellAt h j (by omega), u64s_getD (by omega)]
theorem OU.set {w : World} {g N C : Nat} {zs : List Nat} (h : OU w g N C zs) (j v : Nat) : OU (w.setCell ⟨g, j, none⟩ (.int .u64 (v : Int))) g N C (zs.set j v) := by
  have := (World.ownsRow.stored h j (.int .u64 (v : Int))).1
  unfold OU
  rw [show u64s (zs.set j v) = (u64s zs).set j (.int .u64 (v : Int)) by simp [u64s]]
  exact this
theorem OU.len {w : World} {g N C : Nat} {zs : List Nat} (h : OU w g N C zs) : zs.length = N := by
  have := h.1; rw [u64s_length] at this; omega
theorem OU.fz {w : World} {g N C : Nat} {zs : List Nat} (h : OU w g N C zs) (j : Nat) : w.frozen? ⟨g, j, none⟩ = false := World.ownsRow.frozenAt h j
structure Gt (g : Nat) (w w' : World) : Prop where
  os : w'.os = w.os
  output : w'.output = w.output
  size : w.heap.size ≤ w'.heap.size
  block : ∀ k, k < w.heap.size → k ≠ g → w'.heap[k]? = w.heap[k]?
theorem Gt.refl (g : Nat) (w : World) : Gt g w w := ⟨rfl, rfl, Nat.le_refl _, fun _ _ _ => rfl⟩
theorem Gt.trans {g : Nat} {a b c : World} (h : Gt g a b) (k : Gt g b c) : Gt g a c :=
  ⟨k.os.trans h.os, k.output.trans h.output, Nat.le_trans h.size k.size, fun i hi hn => (k.block i (Nat.lt_of_lt_of_le hi h.size) hn).trans (h.block i hi hn)⟩
theorem Gt.of_gr {g : Nat} {w w' : World} (h : Gr w w') : Gt g w w' := ⟨h.os, h.output, h.size, fun k hk _ => h.block k hk⟩
theorem Gt.setCell {g : Nat} {a w : World} (h : Gt g a w) {p : Addr} (hp : p.block = g) (u : Value) : Gt g a (w.setCell p u) :=
  ⟨h.os, h.output, by simpa [World.setCell] using h.size, fun k hk hn => (Below.heap_setCell _ _ _ _ (by omega)).trans (h.block k hk hn)⟩
theorem Gt.gr {g : Nat} {a w w' : World} (h : Gr a w) (k : Gt g w w') (hg : a.heap.size ≤ g) : Gr a w' :=
  ⟨k.os.trans h.os, k.output.trans h.output, Nat.le_trans h.size k.size, fun i hi => (k.block i (Nat.lt_of_lt_of_le hi h.size) (by omega)).trans (h.block i hi)⟩
theorem Gt.drew {g : Nat} {a w : World} (h : Gt g a w) : Gt g a w.drew := ⟨h.os, h.output, h.size, h.block⟩
theorem Gt.drewN {g : Nat} {a w : World} (h : Gt g a w) (n : Nat) : Gt g a (w.drewN n) := ⟨h.os, h.output, h.size, h.block⟩
theorem Row.gt {g : Nat} {w w' : World} {ad : Option Addr} {n cap : Nat} {xs : List Nat} (h : Row w ad n cap xs) (k : Gt g w w') (hne : 0 < n → ∀ b, ad = some b → b.block ≠ g) : Row w' ad n cap xs := by
  refine ⟨h.len, h.le, h.max, h.nil, fun hp => ?_⟩
  obtain ⟨b, off, e, hb, hc⟩ := h.cells hp
  refine ⟨b, off, e, Nat.lt_of_lt_of_le hb k.size, fun j hj => ?_⟩
  rw [World.cell?_of_block (w := w) (a := ⟨b, off + j, none⟩) (k.block b hb (hne hp _ e))]
  exact hc j hj
theorem OU.gt {f g : Nat} {w w' : World} {N C : Nat} {zs : List Nat} (h : OU w f N C zs) (k : Gt g w w') (hne : f ≠ g) : OU w' f N C zs := by
  refine ⟨h.1, ?_⟩
  rcases h.2 with hn | ⟨g', cap, cur, e1, hb, hgg, rest⟩
  · exact .inl hn
  · refine .inr ⟨g', cap, cur, e1, hb, ?_, rest⟩
    have : g' = f := by
      simp only [Value.slice.injEq, Option.some.injEq, Addr.mk.injEq] at e1
      exact e1.1.1.symm
    rw [k.block g' (Array.getElem?_eq_some_iff.1 hgg).1 (by omega)]
    exact hgg

set_option maxHeartbeats 1600000 in
theorem putTimesT (g N C k m2 cp x : Nat) (ad2 : Option Addr) (n2 c2 : Nat) (ys zs0 : List Nat) (w : World) (ry : Row w ad2 n2 c2 ys) (hne : 0 < n2 → ∀ b, ad2 = some b → b.block ≠ g) (hy : ∀ x ∈ ys, x < 18446744073709551616) (bx : x < 18446744073709551616) (h0 : ∀ z ∈ zs0, z < 18446744073709551616)
    (hkN : k + n2 ≤ N) (hNm : N ≤ 4398046511104) (hm2 : n2 ≤ m2) (hcp : m2 ≤ cp) (hcp2 : cp ≤ 9223372036854775807) (how : OU w g N C zs0) :
    Calls Tryz.prog 119 #[.slice (some ⟨g, k, none⟩) m2 cp, .slice ad2 n2 c2, .int .u64 (x : Int)] w fun e w' => ∃ (c : Nat) (zs : List Nat), e = .returned (.int .u64 (c : Int)) ∧ c < 18446744073709551616 ∧ Hid (MulAt ys zs zs0 k n2 x c N) ∧ Hid (OU w' g N C zs) ∧ Hid (Gt g w w') := by
  have RY : Hid (∀ w', Gt g w w' → Row w' ad2 n2 c2 ys) := fun w' k => ry.gt k hne
  have HY : Hid (∀ x ∈ ys, x < 18446744073709551616) := hy
  have H0 : Hid (∀ x ∈ zs0, x < 18446744073709551616) := h0
  have HO : Hid (OU w g N C zs0) := how
  have hl2 := ry.le
  have hm3 := ry.max
  clear ry hy h0 hne how
  go_enter Tryz.func119, Tryz.ntmps119
  go_wp2
  go_loopw [7, 19] (fun cr i wr => ∃ (j c : Nat) (zs : List Nat), j ≤ n2 ∧ c < 18446744073709551616 ∧ i = .int .i64 (j : Int) ∧ cr = .int .u64 (c : Int) ∧ Hid (OU wr g N C zs) ∧ Hid (MulAt ys zs zs0 k j x c N) ∧ Hid (Gt g w wr)) (fun _ i _ => n2 - (intOf i).toNat)
  case atStart => exact ⟨0, 0, zs0, by omega, by omega, rfl, rfl, HO, ⟨HO.out.len, H0.out, by simp [nv], fun _ _ => rfl⟩, Gt.refl _ _⟩
  case round =>
    obtain ⟨j, c, zs, hj, hc, rfl, rfl, hown, hA, hg⟩ := hrel
    by_cases hlt : j < n2
    · obtain ⟨p2, o2, hp2e, hp2, hc2⟩ := (RY.out wr hg.out).cells (by omega)
      have hcell2 := hc2 j hlt
      have hcell3 := hown.out.cell (k + j) (by omega)
      have hfz := hown.out.fz (k + j)
      subst hp2e
      obtain ⟨yk, hyk⟩ : ∃ yk, yk = ys.getD j 0 := ⟨_, rfl⟩
      obtain ⟨ok, hok⟩ : ∃ ok, ok = zs.getD (k + j) 0 := ⟨_, rfl⟩
      rw [← hyk] at hcell2
      rw [← hok] at hcell3
      have byk : yk < 18446744073709551616 := hyk ▸ getD_lt (by omega) HY.out j
      have bok : ok < 18446744073709551616 := hok ▸ getD_lt (by omega) hA.out.lt (k + j)
      have NX := hA.out.next (by omega) hok hyk
      have MUL := fun w => Tryz.bits_Mul64 yk x byk bx w
      have hm := prod_le bx byk
      rw [Nat.mul_comm yk x] at MUL
      clear hyk hok hc2
      generalize x * yk = m at *
      obtain ⟨hi, hhi⟩ : ∃ hi, hi = m / 18446744073709551616 := ⟨_, rfl⟩
      obtain ⟨lo, hlo⟩ : ∃ lo, lo = m % 18446744073709551616 := ⟨_, rfl⟩
      rw [← hhi, ← hlo] at MUL
      have M : Hid (∀ w1, Calls Tryz.prog 116 #[.int .u64 (yk : Int), .int .u64 (x : Int)] w1 fun e w' => e = .returned (.tuple #[.int .u64 (hi : Int), .int .u64 (lo : Int)]) ∧ w' = w1) := MUL
      have A1 := fun w => add64N lo c 0 (by omega) w
      obtain ⟨l1, hl1⟩ : ∃ l1, l1 = (lo + c + 0) % 18446744073709551616 := ⟨_, rfl⟩
      obtain ⟨m1, hm1⟩ : ∃ m1, m1 = (lo + c + 0) / 18446744073709551616 := ⟨_, rfl⟩
      rw [← hl1, ← hm1] at A1
      have A1' : Hid (∀ w, (callFunc 117 #[.int .u64 (lo : Int), .int .u64 (c : Int), .int .u64 0]).run Tryz.prog w = .ok (.value (.tuple #[.int .u64 (l1 : Int), .int .u64 (m1 : Int)])) w) := A1
      have A2 := fun w => add64N l1 ok 0 (by omega) w
      obtain ⟨l2, hl2'⟩ : ∃ l2, l2 = (l1 + ok + 0) % 18446744073709551616 := ⟨_, rfl⟩
      obtain ⟨m2', hm2'⟩ : ∃ m2, m2 = (l1 + ok + 0) / 18446744073709551616 := ⟨_, rfl⟩
      rw [← hl2', ← hm2'] at A2
      have A2' : Hid (∀ w, (callFunc 117 #[.int .u64 (l1 : Int), .int .u64 (ok : Int), .int .u64 0]).run Tryz.prog w = .ok (.value (.tuple #[.int .u64 (l2 : Int), .int .u64 (m2' : Int)])) w) := A2
      have e1 : (m + ok + c) % 18446744073709551616 = l2 := by omega
      have e2 : (m + ok + c) / 18446744073709551616 = hi + m1 + m2' := by omega
      have b1 : hi + m1 + m2' < 18446744073709551616 := by omega
      rw [e1, e2] at NX
      have NX' : Hid (MulAt ys (zs.set (k + j) l2) zs0 k (j + 1) x (hi + m1 + m2') N) := NX
      clear NX e1 e2 A1 A2 MUL hhi hlo hl1 hm1 hl2' hm2' hm
      have i1 : (j : Int) < (n2 : Int) := by omega
      go_wp2_with (first | (simp only [A1'.out]) | (simp only [A2'.out]) | (go_at_call 116; with_reducible refine (M.out _).mono ?_; rintro e w' ⟨rfl, rfl⟩))
      go_roundw
      case rel => exact ⟨j + 1, hi + m1 + m2', _, by omega, b1, by go_num, by go_num, hown.out.set (k + j) l2, NX', hg.out.setCell rfl _⟩
      case measure => simp only [intOf]; omega
    · have hk2 : j = n2 := by omega
      subst hk2
      go_wp2
      go_ret
      exact ⟨c, zs, rfl, hc, hA, hown, hg⟩
end Go.Proofs.YtapnglidnblmcaaGreat
namespace Go.Proofs.YtapnglidnblmcaaGreat
open Go.RowKit
set_option linter.unusedVariables false
set_option linter.unusedSimpArgs false

/-! A ROW OF BYTES THAT OWNS ITS BLOCK -/
def b8 (zs : List Nat) : List Value := zs.map fun (x : Nat) => Value.int .u8 (x : Int)
theorem b8_length (zs : List Nat) : (b8 zs).length = zs.length := by simp [b8]
theorem b8_getD {xs : List Nat} {j : Nat} (h : j < xs.length) : (b8 xs)[j]? = some (.int .u8 ((xs.getD j 0 : Nat) : Int)) := by
  unfold b8
  rw [List.getElem?_map, List.getElem?_eq_getElem h, List.getD_eq_getElem?_getD, List.getElem?_eq_getElem h]
  rfl
def OB (w : World) (g N C : Nat) (zs : List Nat) : Prop := w.ownsRow g 5 1 (.slice (some ⟨g, 0, none⟩) N C) N (b8 zs)
theorem OB.len {w : World} {g N C : Nat} {zs : List Nat} (h : OB w g N C zs) : zs.length = N := by
  have := h.1; rw [b8_length] at this; omega
theorem OB.cell {w : World} {g N C : Nat} {zs : List Nat} (h : OB w g N C zs) (j : Nat) (hj : j < N) : w.cell? ⟨g, j, none⟩ = some (.int .u8 ((zs.getD j 0 : Nat) : Int)) := by
  have hl := h.len
  rw [World.ownsRow.cellAt h j (by omega), b8_getD (by omega)]
theorem OB.set {w : World} {g N C : Nat} {zs : List Nat} (h : OB w g N C zs) (j v : Nat) : OB (w.setCell ⟨g, j, none⟩ (.int .u8 (v : Int))) g N C (zs.set j v) := by
  have := (World.ownsRow.stored h j (.int .u8 (v : Int))).1
  unfold OB
  rw [show b8 (zs.set j v) = (b8 zs).set j (.int .u8 (v : Int)) by simp [b8]]
  exact this
theorem OB.fz {w : World} {g N C : Nat} {zs : List Nat} (h : OB w g N C zs) (j : Nat) : w.frozen? ⟨g, j, none⟩ = false := World.ownsRow.frozenAt h j
theorem OB.gt {f g : Nat} {w w' : World} {N C : Nat} {zs : List Nat} (h : OB w f N C zs) (k : Gt g w w') (hne : f ≠ g) : OB w' f N C zs := by
  refine ⟨h.1, ?_⟩
  rcases h.2 with hn | ⟨g', cap, cur, e1, hb, hgg, rest⟩
  · exact .inl hn
  · refine .inr ⟨g', cap, cur, e1, hb, ?_, rest⟩
    have : g' = f := by
      simp only [Value.slice.injEq, Option.some.injEq, Addr.mk.injEq] at e1
      exact e1.1.1.symm
    rw [k.block g' (Array.getElem?_eq_some_iff.1 hgg).1 (by omega)]
    exact hgg
theorem OB.gr {f : Nat} {w w' : World} {N C : Nat} {zs : List Nat} (h : OB w f N C zs) (k : Gr w w') : OB w' f N C zs := ⟨h.1, (k.owns h).2⟩
theorem OB.lt {w : World} {g N C : Nat} {zs : List Nat} (h : OB w g N C zs) : g < w.heap.size := (World.ownsRow.lt h g rfl).2
/-- a part of a row written over -/
def put (zs : List Nat) (o : Nat) (ds : List Nat) : List Nat := zs.take o ++ ds ++ zs.drop (o + ds.length)
theorem put_nil (zs : List Nat) (o : Nat) : put zs o [] = zs := by simp [put]
theorem put_set {zs ds : List Nat} {o : Nat} (v : Nat) (h : o + 1 + ds.length ≤ zs.length) : (put zs (o + 1) ds).set o v = put zs o (v :: ds) := by
  unfold put
  have h1 : (zs.take (o + 1)).length = o + 1 := by rw [List.length_take]; omega
  rw [List.append_assoc, List.set_append_left _ _ (by omega), List.take_succ_eq_append_getElem (by omega), List.set_append_right _ _ (by rw [List.length_take]; omega)]
  rw [show o - (zs.take o).length = 0 by rw [List.length_take]; omega]
  simp only [List.set_cons_zero, List.length_cons, List.append_assoc, List.cons_append, List.nil_append]
  rw [show o + 1 + ds.length = o + (ds.length + 1) by omega]
theorem put_put {zs d1 d2 : List Nat} {o : Nat} (h : o + d1.length + d2.length ≤ zs.length) : put (put zs o d1) (o + d1.length) d2 = put zs o (d1 ++ d2) := by
  unfold put
  have h1 : (zs.take o ++ d1).length = o + d1.length := by rw [List.length_append, List.length_take]; omega
  rw [List.take_append_of_le_length (by omega), List.take_of_length_le (by omega)]
  rw [show o + d1.length + d2.length = (zs.take o ++ d1).length + d2.length by omega, List.drop_append, List.drop_drop]
  rw [h1, List.drop_of_length_le (by rw [h1]; omega), List.nil_append, List.length_append]
  rw [show o + d1.length + (o + d1.length + d2.length - (o + d1.length)) = o + (d1.length + d2.length) by omega, List.append_assoc (zs.take o) d1 d2]
theorem fx_front {b i X : Nat} : Bs.fx b (i + 1) X = (X / b ^ i % b) :: Bs.fx b i X := by
  induction i generalizing X with
  | zero => simp [Bs.fx]
  | succ i ih =>
    rw [Bs.fx, ih, Bs.fx]
    rw [Nat.div_div_eq_div_mul, Nat.pow_succ, Nat.mul_comm b (b ^ i)]
    rfl
end Go.Proofs.YtapnglidnblmcaaGreat
