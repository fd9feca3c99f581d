import Derived.Test.YtgohcpcgkbmkeaaW4
namespace Go.Proofs.Ytgohcpcgkbmkeaa
open Go.RowKit
theorem like17r (a b c d : Nat) (r : Bool) (w : World) (h : (likeB a c && likeB b d) = r) : Calls Try.prog 17 #[.complex .f64 a b, .complex .f64 c d] w fun e w' => e = .returned (.bool r) ∧ w' = w := by
  have := like17 a b c d w
  rw [h] at this
  exact this
theorem fin18r (x y : Nat) (r : Bool) (w : World) (h : ((!infB x && !nanB x) && (!infB y && !nanB y)) = r) : Calls Try.prog 18 #[.complex .f64 x y] w fun e w' => e = .returned (.bool r) ∧ w' = w := by
  have := fin18 x y w
  rw [h] at this
  exact this
set_option maxHeartbeats 1600000 in
set_option maxRecDepth 100000 in
theorem walk (w : World) : Calls Try.prog 3 #[] w fun e w' => e = .returned (.bool true) ∧ Grown w w' := by
  have f12 := from12
  have cN : copyN 0 13830554455654793216 = 9223372036854775808 := by decide +kernel
  have o25 : FloatKind.f64.format.order 4627730092099895296 4627730092099895296 = some .eq := by decide +kernel
  have ng : ∀ w, (Op.unary .neg (.float .f64 9218868437227405312)).run Try.prog w = .ok (.float .f64 18442240474082181120) w := fun _ => by kernel_rfl
  go_enter Try.func3, Try.ntmps3
  go_wp2_with (first
    | (go_at_call 4; refine (copy4 _ _ _).mono ?_; rintro e w' ⟨rfl, rfl⟩)
    | (go_at_call 5; refine (inf5 _ _ (by omega)).mono ?_; rintro e w' ⟨rfl, rfl⟩)
    | (go_at_call 6; refine (nan6 _).mono ?_; rintro e w' ⟨rfl, rfl⟩)
    | (go_at_call 8; refine (mul8v _ _ _ _ _ ?_).mono ?_; (focus decide +kernel); rintro e w' ⟨rfl, rfl⟩)
    | (go_at_call 7; refine (same7t _ _ _ _ _ ?_).mono ?_; (focus decide +kernel); rintro e w' ⟨rfl, rfl⟩))
  refine (mul8a _).mono ?_
  rintro e w' ⟨im, rfl, hN1, rfl⟩
  go_wp2_with fail
  refine (same7t _ _ _ _ _ ?_).mono ?_
  · rw [nan_right hN1 (by decide +kernel)]; decide +kernel
  rintro e w' ⟨rfl, rfl⟩
  clear hN1
  go_wp2_with (first
    | (go_at_call 8; refine (mul8v _ _ _ _ _ ?_).mono ?_; (focus decide +kernel); rintro e w' ⟨rfl, rfl⟩)
    | (go_at_call 7; refine (same7t _ _ _ _ _ ?_).mono ?_; (focus decide +kernel); rintro e w' ⟨rfl, rfl⟩)
    | (go_at_call 9; refine (turn9_1 _ _ _ _ ?_).mono ?_; (focus decide +kernel); rintro e w' ⟨rfl, rfl⟩)
    | (go_at_call 9; refine (turn9_2 _ _ _ _ ?_).mono ?_; (focus decide +kernel); rintro e w' ⟨rfl, rfl⟩)
    | (go_at_call 9; refine (turn9_3 _ _ _ _ ?_).mono ?_; (focus decide +kernel); rintro e w' ⟨rfl, rfl⟩)
    | (go_at_call 9; refine (turn9_0 _ _ _ _ ?_).mono ?_; (focus decide +kernel); rintro e w' ⟨rfl, rfl⟩)
    | (go_at_call 10; refine (conj10 _ _ _).mono ?_; rintro e w' ⟨rfl, rfl⟩)
    | (go_at_call 11; refine (scale11 _ _ _ _ ?_ ?_ ?_ ?_).mono ?_; (focus decide); (focus decide); (focus decide +kernel); (focus decide +kernel); rintro e w' ⟨rfl, rfl⟩)
    | (go_at_call 11; refine (scale11lo _ _ _ _ ?_ ?_ ?_).mono ?_; (focus decide); (focus decide +kernel); (focus decide +kernel); rintro e w' ⟨rfl, rfl⟩)
    | (go_at_call 11; refine (scale11hi _ _ _ _ ?_ ?_ ?_).mono ?_; (focus decide); (focus decide +kernel); (focus decide +kernel); rintro e w' ⟨rfl, rfl⟩)
    | (go_at_call 13; refine (same13r _ _ _ _ true _ ?_).mono ?_; (focus decide +kernel); rintro e w' ⟨rfl, rfl⟩)
    | (go_at_call 13; refine (same13r _ _ _ _ false _ ?_).mono ?_; (focus decide +kernel); rintro e w' ⟨rfl, rfl⟩)
    | (go_at_call 14; refine (norm14 _ _ 4627730092099895296 _ ?_).mono ?_; (focus decide +kernel); rintro e w' ⟨rfl, rfl⟩)
    | (go_at_call 15; refine (nan15 _ _).mono ?_; rintro e w' ⟨rfl, rfl⟩)
    | (go_at_call 17; refine (like17r _ _ _ _ true _ ?_).mono ?_; (focus decide +kernel); rintro e w' ⟨rfl, rfl⟩)
    | (go_at_call 18; refine (fin18r _ _ false _ ?_).mono ?_; (focus decide +kernel); rintro e w' ⟨rfl, rfl⟩)
    | (go_at_call 20; refine (awake20 _).mono ?_; rintro e w' ⟨rfl, rfl⟩))
  refine (mul8b _).mono ?_
  rintro e w' ⟨re, rfl, hN1, rfl⟩
  go_wp2_with fail
  refine (same7t _ _ _ _ _ ?_).mono ?_
  · rw [nan_right hN1 (by decide +kernel)]; decide +kernel
  rintro e w' ⟨rfl, rfl⟩
  clear hN1
  go_wp2_with (first
    | (go_at_call 8; refine (mul8v _ _ _ _ _ ?_).mono ?_; (focus decide +kernel); rintro e w' ⟨rfl, rfl⟩)
    | (go_at_call 7; refine (same7t _ _ _ _ _ ?_).mono ?_; (focus decide +kernel); rintro e w' ⟨rfl, rfl⟩)
    | (go_at_call 9; refine (turn9_1 _ _ _ _ ?_).mono ?_; (focus decide +kernel); rintro e w' ⟨rfl, rfl⟩)
    | (go_at_call 9; refine (turn9_2 _ _ _ _ ?_).mono ?_; (focus decide +kernel); rintro e w' ⟨rfl, rfl⟩)
    | (go_at_call 9; refine (turn9_3 _ _ _ _ ?_).mono ?_; (focus decide +kernel); rintro e w' ⟨rfl, rfl⟩)
    | (go_at_call 9; refine (turn9_0 _ _ _ _ ?_).mono ?_; (focus decide +kernel); rintro e w' ⟨rfl, rfl⟩)
    | (go_at_call 10; refine (conj10 _ _ _).mono ?_; rintro e w' ⟨rfl, rfl⟩)
    | (go_at_call 11; refine (scale11 _ _ _ _ ?_ ?_ ?_ ?_).mono ?_; (focus decide); (focus decide); (focus decide +kernel); (focus decide +kernel); rintro e w' ⟨rfl, rfl⟩)
    | (go_at_call 11; refine (scale11lo _ _ _ _ ?_ ?_ ?_).mono ?_; (focus decide); (focus decide +kernel); (focus decide +kernel); rintro e w' ⟨rfl, rfl⟩)
    | (go_at_call 11; refine (scale11hi _ _ _ _ ?_ ?_ ?_).mono ?_; (focus decide); (focus decide +kernel); (focus decide +kernel); rintro e w' ⟨rfl, rfl⟩)
    | (go_at_call 13; refine (same13r _ _ _ _ true _ ?_).mono ?_; (focus decide +kernel); rintro e w' ⟨rfl, rfl⟩)
    | (go_at_call 13; refine (same13r _ _ _ _ false _ ?_).mono ?_; (focus decide +kernel); rintro e w' ⟨rfl, rfl⟩)
    | (go_at_call 14; refine (norm14 _ _ 4627730092099895296 _ ?_).mono ?_; (focus decide +kernel); rintro e w' ⟨rfl, rfl⟩)
    | (go_at_call 15; refine (nan15 _ _).mono ?_; rintro e w' ⟨rfl, rfl⟩)
    | (go_at_call 17; refine (like17r _ _ _ _ true _ ?_).mono ?_; (focus decide +kernel); rintro e w' ⟨rfl, rfl⟩)
    | (go_at_call 18; refine (fin18r _ _ false _ ?_).mono ?_; (focus decide +kernel); rintro e w' ⟨rfl, rfl⟩)
    | (go_at_call 20; refine (awake20 _).mono ?_; rintro e w' ⟨rfl, rfl⟩))
  refine (size16n _ _ _ ?_).mono ?_
  · decide +kernel
  rintro e w' ⟨r, rfl, hN1, rfl⟩
  go_wp2_with (first
    | (go_at_call 8; refine (mul8v _ _ _ _ _ ?_).mono ?_; (focus decide +kernel); rintro e w' ⟨rfl, rfl⟩)
    | (go_at_call 7; refine (same7t _ _ _ _ _ ?_).mono ?_; (focus decide +kernel); rintro e w' ⟨rfl, rfl⟩)
    | (go_at_call 9; refine (turn9_1 _ _ _ _ ?_).mono ?_; (focus decide +kernel); rintro e w' ⟨rfl, rfl⟩)
    | (go_at_call 9; refine (turn9_2 _ _ _ _ ?_).mono ?_; (focus decide +kernel); rintro e w' ⟨rfl, rfl⟩)
    | (go_at_call 9; refine (turn9_3 _ _ _ _ ?_).mono ?_; (focus decide +kernel); rintro e w' ⟨rfl, rfl⟩)
    | (go_at_call 9; refine (turn9_0 _ _ _ _ ?_).mono ?_; (focus decide +kernel); rintro e w' ⟨rfl, rfl⟩)
    | (go_at_call 10; refine (conj10 _ _ _).mono ?_; rintro e w' ⟨rfl, rfl⟩)
    | (go_at_call 11; refine (scale11 _ _ _ _ ?_ ?_ ?_ ?_).mono ?_; (focus decide); (focus decide); (focus decide +kernel); (focus decide +kernel); rintro e w' ⟨rfl, rfl⟩)
    | (go_at_call 11; refine (scale11lo _ _ _ _ ?_ ?_ ?_).mono ?_; (focus decide); (focus decide +kernel); (focus decide +kernel); rintro e w' ⟨rfl, rfl⟩)
    | (go_at_call 11; refine (scale11hi _ _ _ _ ?_ ?_ ?_).mono ?_; (focus decide); (focus decide +kernel); (focus decide +kernel); rintro e w' ⟨rfl, rfl⟩)
    | (go_at_call 13; refine (same13r _ _ _ _ true _ ?_).mono ?_; (focus decide +kernel); rintro e w' ⟨rfl, rfl⟩)
    | (go_at_call 13; refine (same13r _ _ _ _ false _ ?_).mono ?_; (focus decide +kernel); rintro e w' ⟨rfl, rfl⟩)
    | (go_at_call 14; refine (norm14 _ _ 4627730092099895296 _ ?_).mono ?_; (focus decide +kernel); rintro e w' ⟨rfl, rfl⟩)
    | (go_at_call 15; refine (nan15 _ _).mono ?_; rintro e w' ⟨rfl, rfl⟩)
    | (go_at_call 17; refine (like17r _ _ _ _ true _ ?_).mono ?_; (focus decide +kernel); rintro e w' ⟨rfl, rfl⟩)
    | (go_at_call 18; refine (fin18r _ _ false _ ?_).mono ?_; (focus decide +kernel); rintro e w' ⟨rfl, rfl⟩)
    | (go_at_call 20; refine (awake20 _).mono ?_; rintro e w' ⟨rfl, rfl⟩))
  refine (join19a _ _ _).mono ?_
  rintro e w' ⟨rfl, rfl⟩
  go_wp2_with fail
  refine (join19b _).mono ?_
  rintro e w' ⟨rfl, rfl⟩
  go_wp2_with (go_at_call 20; refine (awake20 _).mono ?_; rintro e w' ⟨rfl, rfl⟩)
  go_ret
  exact ⟨rfl, (((((((((Grown.refl _).alloc _ _).alloc _ _).alloc _ _).drew).drew).drew).drew).drew)⟩
end Go.Proofs.Ytgohcpcgkbmkeaa
