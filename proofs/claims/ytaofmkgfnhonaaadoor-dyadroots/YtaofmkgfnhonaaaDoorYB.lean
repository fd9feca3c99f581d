import Derived.Test.YtaofmkgfnhonaaaDoorXS
import Derived.Test.YtaofmkgfnhonaaaDoorXT
namespace Go.Proofs.YtaofmkgfnhonaaaDoor
open Go.RowKit
set_option linter.unusedVariables false

theorem Settled.dyv2 {w : World} {r : Ending} {s : Bool} {x lo k : Nat} {e V : Int} (h : Settled w r s x e) (hV : sv KK s x e = V) (hg : Gd lo k V) (he : 0 ≤ e + KK) (hlo : lo ≤ 100000) (hk : k ≤ 200000) :
    ∃ s' ad n cap e', r = .returned (.tuple #[.agg #[.bool s', .slice ad n cap, .int .i64 e'], .int .i64 0]) ∧ DyV w s' ad n cap e' V ∧ (n = 0 ∨ e ≤ e') := by
  unfold Settled at h
  rcases h with ⟨rfl, rfl⟩ | ⟨t, q, ad, n, cap, rfl, hf, rfl, hl, hn⟩ | ⟨t, q, rfl, hf, rfl⟩
  · rw [sv_zero] at hV
    exact ⟨false, none, 0, 0, 0, rfl, ⟨0, ⟨⟨[], Row.empty (by omega) (fun _ => rfl), Dg.nil⟩, by omega, Or.inl ⟨rfl, rfl, rfl⟩⟩, by rw [sv_zero]; exact hV⟩, Or.inl rfl⟩
  · refine ⟨s, ad, n, cap, _, rfl, ⟨2 * q + 1, ⟨hl, hn, Or.inr ⟨q, rfl, hf.2.1, hf.2.2⟩⟩, ?_⟩, Or.inr (by omega)⟩
    rw [← hV]
    have := sv_down KK s (2 * q + 1) (e + t) e (by omega) he
    rw [show (e + (t : Int) - e).toNat = t by omega, Nat.mul_comm] at this
    exact this.symm
  · exact absurd (gd_fits hV hg he hlo hk) hf
/-- one worth, one dyad -/
theorem DyV.same {w w' : World} {s t : Bool} {ad ad' : Option Addr} {n n' cap cap' : Nat} {e f V : Int} (h : DyV w s ad n cap e V) (h' : DyV w' t ad' n' cap' f V) : s = t ∧ n = n' ∧ e = f := by
  obtain ⟨x, dx, hx⟩ := h
  obtain ⟨y, dy, hy⟩ := h'
  obtain ⟨rfl, rfl, rfl⟩ := sv_one dx.right dy.right (hx.trans hy.symm)
  obtain ⟨xs, rx, gx⟩ := dx.lim
  obtain ⟨ys, ry, gy⟩ := dy.lim
  obtain rfl := gx.unique (by omega) gy
  exact ⟨rfl, rx.len.symm.trans ry.len, rfl⟩
/-- Pick into 401 -/
theorem pick15 (x : Int) (w : World) : Calls Tryd.prog 6 #[.int .i64 x, .int .i64 401] w fun r w' => ∃ p : Int, r = .returned (.int .i64 p) ∧ 0 ≤ p ∧ p ≤ 400 ∧ w' = w := by
  have b1 : -401 < x.tmod 401 := by have := Int.lt_tmod_of_pos x (by omega : (0 : Int) < 401); omega
  have b2 : x.tmod 401 < 401 := Int.tmod_lt_of_pos x (by omega)
  have h8 : ((401 : Int) == 0) = false := by decide
  generalize hy : x.tmod 401 = y at *
  by_cases hn : y < 0
  · go_enter Tryd.func6, Tryd.ntmps6
    go_wp2
    go_ret
    exact ⟨_, rfl, by omega, by omega, rfl⟩
  · go_enter Tryd.func6, Tryd.ntmps6
    go_wp2
    go_ret
    exact ⟨_, rfl, by omega, by omega, rfl⟩
end Go.Proofs.YtaofmkgfnhonaaaDoor
