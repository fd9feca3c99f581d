import Derived.Laws.FloatArith
import Derived.Laws.Entries
namespace Go.Proofs.Ytgohcpcgkbmkeaa

/-- a float held against itself: is it a NaN? -/
def nanB (x : Nat) : Bool := (FloatKind.f64.format.order x x != some .eq)
/-- the same bits, or both NaN -/
def sameB (x y : Nat) : Bool := ((x : Int) == (y : Int)) || (nanB x && nanB y)
def likeB (x y : Nat) : Bool := (FloatKind.f64.format.order x y == some .eq) || (nanB x && nanB y)
def aboutN (x : Nat) : Nat := (bits BinOp.xor IntKind.u64 x 9223372036854775808).toNat
def absN (x : Nat) : Nat := (bits BinOp.andNot IntKind.u64 x 9223372036854775808).toNat
def copyN (x y : Nat) : Nat := (bits BinOp.or IntKind.u64 (bits BinOp.andNot IntKind.u64 x 9223372036854775808) (bits BinOp.and IntKind.u64 y 9223372036854775808)).toNat
def infB (x : Nat) : Bool := FloatKind.f64.format.order (absN x) 9218868437227405311 == some .gt

theorem f64_format : FloatKind.f64.format = Ieee.double := rfl

theorem read_nan (s k : Nat) (hk : k < 4503599627370495) : ∃ n f, Ieee.double.read (s * 2 ^ 63 + 0x7ff0000000000000 + 1 + k) = .nan n f := by
  have h1 : Ieee.double.signWeight = 2 ^ 63 := rfl
  have h2 : Ieee.double.binade = 2 ^ 52 := rfl
  have h3 : Ieee.double.infRung = 0x7ff0000000000000 := rfl
  have h4 : (s * 2 ^ 63 + 0x7ff0000000000000 + 1 + k) % 2 ^ 63 = 0x7ff0000000000000 + 1 + k := by omega
  unfold Ieee.Format.read
  rw [h1, h2, h3, h4]
  simp only []
  rw [if_neg (by omega), if_neg (by omega), if_neg (by omega)]
  exact ⟨_, _, rfl⟩

theorem nan_chosen (s k : Nat) (hk : k < 4503599627370495) : nanB (s * 2 ^ 63 + 0x7ff0000000000000 + 1 + k) = true := by
  obtain ⟨n, f, h⟩ := read_nan s k hk
  unfold nanB
  rw [f64_format]
  unfold Ieee.Format.order
  rw [h]
  rfl

/-- An operation that has no answer gives some NaN, and draws once. -/
theorem run_float_nan {P : Program} (op : BinOp) (hop : op = .add ∨ op = .sub ∨ op = .mul) (t : TypeId) (x y : Nat) (w : World) (h : floatBits op .f64 x y = none) :
    ∃ r, (binOp op t (.float .f64 x) (.float .f64 y)).run P w = .ok (.float .f64 r) w.drew ∧ nanB r = true := by
  refine ⟨Question.cut (.nanBits .f64 x y) (w.tape w.drawn (.nanBits .f64 x y)), ?_, ?_⟩
  · rcases hop with rfl | rfl | rfl <;> (unfold floatBits at h; simp only at h; simp [binOp, Op.floatArith, h])
    all_goals exact fun hf => Bool.noConfusion (show false = true from hf)
  · exact nan_chosen _ _ (by omega)

theorem read_of_nan (r : Nat) (h : nanB r = true) : ∃ n f, Ieee.double.read r = .nan n f := by
  unfold nanB at h
  rw [f64_format] at h
  unfold Ieee.Format.order at h
  cases hr : Ieee.double.read r with
  | nan n f => exact ⟨n, f, rfl⟩
  | infinity s => rw [hr] at h; simp [Ieee.Datum.order] at h
  | number s m i => rw [hr] at h; simp [Ieee.Datum.order] at h
theorem nan_add (r y : Nat) (h : nanB r = true) : floatBits .add .f64 r y = none := by
  obtain ⟨n, f, hr⟩ := read_of_nan r h
  show Ieee.double.add r y = none
  unfold Ieee.Format.add
  rw [hr]
  rfl
theorem nan_sub (x r : Nat) (h : nanB r = true) : floatBits .sub .f64 x r = none := by
  obtain ⟨n, f, hr⟩ := read_of_nan r h
  show Ieee.double.sub x r = none
  unfold Ieee.Format.sub
  rw [hr]
  cases Ieee.double.read x <;> rfl
end Go.Proofs.Ytgohcpcgkbmkeaa
