import Derived.Test.YtaiflkpanankcaaDoorRows
import Derived.Test.YtaiflkpanankcaaDoorPlain
import Derived.WalkKit
import Derived.WalkLawsBesides
import Derived.WalkSpells
import Derived.Laws.Externs
namespace Go.Proofs.YtaiflkpanankcaaDoor.Fl
open Go.RowKit

theorem bits14 (x : Nat) (w : World) : (callFunc 50 #[.float .f64 x]).run Tryd.prog w = .ok (.value (.int .u64 x)) w := by
  kernel_rfl
theorem from13 (x : Int) (w : World) : (callFunc 68 #[.int .u64 x]).run Tryd.prog w = .ok (.value (.float .f64 x.toNat)) w := by
  kernel_rfl
theorem neg_run (x : Nat) (w : World) : (Op.unary .neg (.float .f64 x)).run Tryd.prog w = .ok (.float .f64 (negN x)) w := by
  kernel_rfl
theorem nan11 (x : Nat) (w : World) : Calls Tryd.prog 43 #[.float .f64 x] w fun e w' => e = .returned (.bool (nanB x)) ∧ w' = w := by
  go_enter Tryd.func43, Tryd.ntmps43
  go_wp2
  go_ret
  exact ⟨rfl, rfl⟩
theorem abs16 (x : Nat) (w : World) : Calls Tryd.prog 47 #[.float .f64 x] w fun e w' => e = .returned (.float .f64 (absN x)) ∧ w' = w := by
  have h1 := bits14
  have h2 := from13
  go_enter Tryd.func47, Tryd.ntmps47
  go_wp2
  go_ret
  exact ⟨rfl, rfl⟩
theorem inf12p (x : Nat) (w : World) : Calls Tryd.prog 44 #[.float .f64 x, .int .i64 1] w fun e w' => e = .returned (.bool (pinfB x)) ∧ w' = w := by
  go_enter Tryd.func44, Tryd.ntmps44
  go_wp2
  go_ret
  exact ⟨rfl, rfl⟩
theorem inf12m (x : Nat) (w : World) : Calls Tryd.prog 44 #[.float .f64 x, .int .i64 (-1)] w fun e w' => e = .returned (.bool (pinfB (negN x))) ∧ w' = w := by
  have hneg := neg_run x w
  go_enter Tryd.func44, Tryd.ntmps44
  go_wp2
  go_ret
  exact ⟨rfl, rfl⟩
theorem inf12z (x : Nat) (w : World) : Calls Tryd.prog 44 #[.float .f64 x, .int .i64 0] w fun e w' => e = .returned (.bool (pinfB (absN x))) ∧ w' = w := by
  go_enter Tryd.func44, Tryd.ntmps44
  go_wp2_with (go_at_call 47; refine (abs16 _ _).mono ?_; rintro e w' ⟨rfl, rfl⟩)
  go_ret
  exact ⟨rfl, rfl⟩
/-- neither NaN nor an infinity -/
def finB (x : Nat) : Bool := !pinfB (absN x) && !nanB x
end Go.Proofs.YtaiflkpanankcaaDoor.Fl
