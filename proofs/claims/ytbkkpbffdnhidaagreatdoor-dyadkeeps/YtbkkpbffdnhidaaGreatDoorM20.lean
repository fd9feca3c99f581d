import Derived.Test.YtbkkpbffdnhidaaGreatDoorM19
namespace Go.Proofs.YtbkkpbffdnhidaaGreatDoor
open Go.RowKit
set_option linter.unusedVariables false

/-- limbs told between two moments -/
def Fr1 (lo hi : Nat) (w : World) (ad : Option Addr) (n cap : Nat) (zs : List Nat) : Prop := w.ownsRow lo 49 1 (.slice ad n cap) n (u64s zs) ∧ (∀ c, (Value.slice ad n cap).ownBlock = some c → c < hi) ∧ n ≤ 4096
theorem Fr1.of {lo : Nat} {p w : World} {ad : Option Addr} {n cap : Nat} (h : Fresh lo p ad n cap) (hn : n ≤ 4096) (g : Gr p w) : ∃ zs, Fr1 lo p.heap.size w ad n cap zs := by
  obtain ⟨zs, h⟩ := h
  exact ⟨zs, g.owns h, fun c hc => (h.lt c hc).2, hn⟩
theorem Fr1.ofD {lo X : Nat} {p w : World} {ad : Option Addr} {n cap : Nat} (h : Fresh lo p ad n cap) (hl : Lim p ad n cap 18446744073709551616 X) (hn : n ≤ 4096) (g : Gr p w) : ∃ zs, Fr1 lo p.heap.size w ad n cap zs ∧ Dg 18446744073709551616 X zs := by
  obtain ⟨zs, h, hd⟩ := fresh_dg hl h
  exact ⟨zs, ⟨g.owns h, fun c hc => (h.lt c hc).2, hn⟩, hd⟩
/-- what the loop keeps -/
def Rel8 (W : World) (SA : Bool) (XA : Nat) (EA : Int) (SN : Bool) (XN : Nat) (EN : Int) (k : Nat) (lv : Value) (wr : World) : Prop :=
  ∃ V U nn cc zss yss, Dq k 8 W.heap.size V U nn cc zss yss wr ∧ wr.ownsRow W.heap.size 43 1 lv k ((List.range k).map U) ∧ Gr W wr ∧ (1 ≤ k → TV SA XA EA (V 0) (zss 0) (yss 0) 0) ∧ (2 ≤ k → TV SN XN EN (V 11) (zss 11) (yss 1) 3)
theorem rel_next {W wr q p1 p2 p3 p4 p5 p6 p9 wi wz : World} {SA : Bool} {XA : Nat} {EA : Int} {SN : Bool} {XN : Nat} {EN : Int} {k b : Nat} {lv lv' : Value} {s0 s1 s2 s3 s4 s5 s6 s7 : Bool} {a0 a1 a2 a3 a4 a5 a6 a7 : Option Addr} {m0 k0 m1 k1 m2 k2 m3 k3 m4 k4 m5 k5 m6 k6 m7 k7 : Nat} {e0 e1 e2 e3 e4 e5 e6 e7 : Int} {z0 z1 z2 z3 z4 z5 z6 : List Nat}
    (hk : k < 2) {V U : Nat → Value} {nn cc : Nat → Nat} {zss : Nat → List Nat} {yss : Nat → List Value} (hD : Dq k 8 W.heap.size V U nn cc zss yss wr) (hL : wr.ownsRow W.heap.size 43 1 lv k ((List.range k).map U)) (hW : Gr W wr) (hA : 1 ≤ k → TV SA XA EA (V 0) (zss 0) (yss 0) 0)
    (gq : Gr wr q) (f0 : Fr1 wr.heap.size p1.heap.size q a0 m0 k0 z0) (d0 : s0 = SA ∧ e0 = EA ∧ Dg 18446744073709551616 XA z0) (f1 : Fr1 p1.heap.size p2.heap.size q a1 m1 k1 z1) (f2 : Fr1 p2.heap.size p3.heap.size q a2 m2 k2 z2) (f3 : Fr1 p3.heap.size p4.heap.size q a3 m3 k3 z3) (d3 : s3 = SN ∧ e3 = EN ∧ Dg 18446744073709551616 XN z3) (f4 : Fr1 p4.heap.size p5.heap.size q a4 m4 k4 z4) (f5 : Fr1 p5.heap.size p6.heap.size q a5 m5 k5 z5) (f6 : Fr1 p6.heap.size p9.heap.size q a6 m6 k6 z6)
    (l0 : wr.heap.size ≤ p1.heap.size) (l1 : p1.heap.size ≤ p2.heap.size) (l2 : p2.heap.size ≤ p3.heap.size) (l3 : p3.heap.size ≤ p4.heap.size) (l4 : p4.heap.size ≤ p5.heap.size) (l5 : p5.heap.size ≤ p6.heap.size) (l6 : p6.heap.size ≤ p9.heap.size) (l7 : p9.heap.size ≤ q.heap.size)
    (hrow : wz.ownsRow q.heap.size 24 3 (.slice (some ⟨b, 0, none⟩) 8 8) 8 [.bool s0, .slice a0 m0 k0, .int .i64 e0, .bool s1, .slice a1 m1 k1, .int .i64 e1, .bool s2, .slice a2 m2 k2, .int .i64 e2, .bool s3, .slice a3 m3 k3, .int .i64 e3, .bool s4, .slice a4 m4 k4, .int .i64 e4, .bool s5, .slice a5 m5 k5, .int .i64 e5, .bool s6, .slice a6 m6 k6, .int .i64 e6, .bool s7, .slice a7 m7 k7, .int .i64 e7]) (hlv : wz.ownsRow W.heap.size 43 1 lv' (k + 1) ((List.range k).map U ++ [.slice (some ⟨b, 0, none⟩) 8 8])) (hI : Fresh q.heap.size wz a7 m7 k7) (hnI : m7 ≤ 4096) (gz : Gy lv.ownBlock q wz) (gi : Gr q wi) (hci : ∀ c, (Value.slice a7 m7 k7).ownBlock = some c → c < wi.heap.size) (hgr : ∀ a0, Gr a0 q → a0.heap.size ≤ W.heap.size → Gr a0 wz) :
    Rel8 W SA XA EA SN XN EN (k + 1) lv' wz := by
  obtain ⟨z7, o7⟩ := hI
  have hLq := gq.owns hL
  have hDq := hD.gr gq
  have far : ∀ {B : Nat} {ad : Option Addr} {n c : Nat} {zs : List Value}, q.ownsRow B 49 1 (.slice ad n c) n zs → wz.ownsRow B 49 1 (.slice ad n c) n zs := fun h => gz.owns h (fun c hc e => kinds_ne h hLq (by decide) c hc e.symm)
  have hDz : Dq k 8 W.heap.size V U nn cc zss yss wz := hDq.gy gz (fun j hj c hc e => kinds_ne (hDq.urow j hj) hLq (by decide) c hc e.symm) (fun j hj c hc e => kinds_ne (hDq.vrow j hj) hLq (by decide) c hc e.symm)
  have low : ∀ {lo : Nat} {v : Value} {n : Nat} {zs : List Value}, wr.heap.size ≤ lo → wz.ownsRow lo 49 1 v n zs → wz.ownsRow wr.heap.size 49 1 v n zs := fun h1 h2 => owns_low h2 h1
  have lq : wr.heap.size ≤ q.heap.size := gq.size
  have lw : q.heap.size ≤ wi.heap.size := gi.size
  have B := Dq.one (w := wz) (lo := wr.heap.size) (b := b) (F := fun i => match i with | 0 => .slice a0 m0 k0 | 1 => .slice a1 m1 k1 | 2 => .slice a2 m2 k2 | 3 => .slice a3 m3 k3 | 4 => .slice a4 m4 k4 | 5 => .slice a5 m5 k5 | 6 => .slice a6 m6 k6 | _ => .slice a7 m7 k7) (nF := fun i => match i with | 0 => m0 | 1 => m1 | 2 => m2 | 3 => m3 | 4 => m4 | 5 => m5 | 6 => m6 | _ => m7) (cF := fun i => match i with | 0 => k0 | 1 => k1 | 2 => k2 | 3 => k3 | 4 => k4 | 5 => k5 | 6 => k6 | _ => k7) (zF := fun i => match i with | 0 => z0 | 1 => z1 | 2 => z2 | 3 => z3 | 4 => z4 | 5 => z5 | 6 => z6 | _ => z7) (ys := [.bool s0, .slice a0 m0 k0, .int .i64 e0, .bool s1, .slice a1 m1 k1, .int .i64 e1, .bool s2, .slice a2 m2 k2, .int .i64 e2, .bool s3, .slice a3 m3 k3, .int .i64 e3, .bool s4, .slice a4 m4 k4, .int .i64 e4, .bool s5, .slice a5 m5 k5, .int .i64 e5, .bool s6, .slice a6 m6 k6, .int .i64 e6, .bool s7, .slice a7 m7 k7, .int .i64 e7])
    (fun i => match i with | 0 => wr.heap.size | 1 => p1.heap.size | 2 => p2.heap.size | 3 => p3.heap.size | 4 => p4.heap.size | 5 => p5.heap.size | 6 => p6.heap.size | 7 => p9.heap.size | _ => wi.heap.size)
    (owns_low hrow lq)
    (fun i hi => match i, hi with | 0, _ => ⟨s0, e0, rfl, rfl, rfl⟩ | 1, _ => ⟨s1, e1, rfl, rfl, rfl⟩ | 2, _ => ⟨s2, e2, rfl, rfl, rfl⟩ | 3, _ => ⟨s3, e3, rfl, rfl, rfl⟩ | 4, _ => ⟨s4, e4, rfl, rfl, rfl⟩ | 5, _ => ⟨s5, e5, rfl, rfl, rfl⟩ | 6, _ => ⟨s6, e6, rfl, rfl, rfl⟩ | 7, _ => ⟨s7, e7, rfl, rfl, rfl⟩)
    (fun i hi => match i, hi with | 0, _ => ⟨a0, rfl⟩ | 1, _ => ⟨a1, rfl⟩ | 2, _ => ⟨a2, rfl⟩ | 3, _ => ⟨a3, rfl⟩ | 4, _ => ⟨a4, rfl⟩ | 5, _ => ⟨a5, rfl⟩ | 6, _ => ⟨a6, rfl⟩ | 7, _ => ⟨a7, rfl⟩)
    (fun i hi => match i, hi with | 0, _ => f0.2.2 | 1, _ => f1.2.2 | 2, _ => f2.2.2 | 3, _ => f3.2.2 | 4, _ => f4.2.2 | 5, _ => f5.2.2 | 6, _ => f6.2.2 | 7, _ => hnI)
    (fun i hi => match i, hi with | 0, _ => far f0.1 | 1, _ => low (by omega) (far f1.1) | 2, _ => low (by omega) (far f2.1) | 3, _ => low (by omega) (far f3.1) | 4, _ => low (by omega) (far f4.1) | 5, _ => low (by omega) (far f5.1) | 6, _ => low (by omega) (far f6.1) | 7, _ => low (by omega) o7)
    (fun i hi => match i, hi with | 0, _ => fun c hc => ⟨(f0.1.lt c hc).1, f0.2.1 c hc⟩ | 1, _ => fun c hc => ⟨(f1.1.lt c hc).1, f1.2.1 c hc⟩ | 2, _ => fun c hc => ⟨(f2.1.lt c hc).1, f2.2.1 c hc⟩ | 3, _ => fun c hc => ⟨(f3.1.lt c hc).1, f3.2.1 c hc⟩ | 4, _ => fun c hc => ⟨(f4.1.lt c hc).1, f4.2.1 c hc⟩ | 5, _ => fun c hc => ⟨(f5.1.lt c hc).1, f5.2.1 c hc⟩ | 6, _ => fun c hc => ⟨(f6.1.lt c hc).1, f6.2.1 c hc⟩ | 7, _ => fun c hc => ⟨Nat.le_trans l7 (o7.lt c hc).1, hci c hc⟩)
    (fun i hi => match i, hi with | 0, _ => l0 | 1, _ => l1 | 2, _ => l2 | 3, _ => l3 | 4, _ => l4 | 5, _ => l5 | 6, _ => l6 | 7, _ => Nat.le_trans l7 lw)
  have J := hDz.join B hW.size (fun j hj c hc => ((hD.vrow j hj).lt c hc).2) (fun j hj c hc => ((hD.urow j hj).lt c hc).2)
  refine ⟨_, _, _, _, _, _, J, ?_, hgr W (hW.trans gq) (Nat.le_refl _), fun _ => ?_, fun h2 => ?_⟩
  · have e : (List.range (k + 1)).map (jn k U (fun _ => Value.slice (some ⟨b, 0, none⟩) 8 8)) = (List.range k).map U ++ [.slice (some ⟨b, 0, none⟩) 8 8] := by
      rw [List.range_succ, List.map_append, List.map_singleton, jn_r (by omega)]
      congr 1
      refine List.map_congr_left fun j hj => ?_
      rw [jn_l (List.mem_range.1 hj)]
    rw [e]
    exact hlv
  · by_cases h : 1 ≤ k
    · obtain rfl : k = 1 := by omega
      rw [jn_l (by omega), jn_l (by omega), jn_l (by omega)]
      exact hA h
    · obtain rfl : k = 0 := by omega
      obtain ⟨rfl, rfl, hd⟩ := d0
      exact ⟨rfl, rfl, rfl, hd⟩
  · obtain rfl : k = 1 := by omega
    obtain ⟨rfl, rfl, hd⟩ := d3
    exact ⟨rfl, rfl, rfl, hd⟩
end Go.Proofs.YtbkkpbffdnhidaaGreatDoor
