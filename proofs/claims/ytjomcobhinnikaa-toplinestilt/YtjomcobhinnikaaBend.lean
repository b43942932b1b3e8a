/- Contracts of number.bendOf and (number.bend).beyond. Coordinates are at most 10000 in size. -/
import Derived.Test.YtjomcobhinnikaaFrac
namespace Go.Proofs.Ytjomcobhinnikaa
open Go.RowKit

def inD (x : Int) : Prop := -10000 ≤ x ∧ x ≤ 10000
def bendH (ax ay bx by' cx cy : Int) : Int := (by' - ay) * (cx - ax) - (cy - ay) * (bx - ax)
theorem below_four (w : World) (o1 o2 o3 o4 : Obj) : Below w.heap.size w ((((w.alloc o1).alloc o2).alloc o3).alloc o4) :=
  ((((Below.refl _ _).alloc (Nat.le_refl _) o1).alloc (by simp) o2).alloc (by simp; omega) o3).alloc (by simp; omega) o4

set_option maxHeartbeats 1000000 in
theorem bendOf_any (ax ay bx by' cx cy : Int) (w : World) (h1 : inD ax) (h2 : inD ay) (h3 : inD bx) (h4 : inD by') (h5 : inD cx) (h6 : inD cy) :
    Calls Try.prog 22 #[.agg #[.int .i64 ax, .int .i64 ay], .agg #[.int .i64 bx, .int .i64 by'], .agg #[.int .i64 cx, .int .i64 cy]] w fun e w' =>
      e = .returned (.agg #[.int .i64 (bendH ax ay bx by' cx cy), .int .i64 (cx - ax)]) ∧ Below w.heap.size w w' := by
  unfold inD at h1 h2 h3 h4 h5 h6
  have m1 := mul_bound (x := by' - ay) (y := cx - ax) 20000 20000 (by omega) (by omega)
  have m2 := mul_bound (x := cy - ay) (y := bx - ax) 20000 20000 (by omega) (by omega)
  have m1' : -400000000 ≤ (by' - ay) * (cx - ax) ∧ (by' - ay) * (cx - ax) ≤ 400000000 := by omega
  have m2' : -400000000 ≤ (cy - ay) * (bx - ax) ∧ (cy - ay) * (bx - ax) ≤ 400000000 := by omega
  clear m1 m2
  go_enter Try.func22, Try.ntmps22
  go_wp2
  exact bodyPost_ret (v := .agg #[.int .i64 ((by' - ay) * (cx - ax) - (cy - ay) * (bx - ax)), .int .i64 (cx - ax)]) (by simp [results, Try.results22, go_sem]) rfl ⟨rfl, below_four _ _ _ _ _⟩

def beyondB (h1 w1 h2 w2 : Int) : Bool := decide ((h2.natAbs : Int) * w1 < (h1.natAbs : Int) * w2)
theorem beyond_wrap {x y h1 w1 h2 w2 : Int} (hx : x = (h2.natAbs : Int)) (hy : y = (h1.natAbs : Int)) (a1 : -1000000000 ≤ h1 ∧ h1 ≤ 1000000000) (a2 : -1000000000 ≤ h2 ∧ h2 ≤ 1000000000) (b1 : 0 ≤ w1 ∧ w1 ≤ 100000) (b2 : 0 ≤ w2 ∧ w2 ≤ 100000) :
    decide (wrap64 (x * w1) < wrap64 (y * w2)) = beyondB h1 w1 h2 w2 := by
  subst hx hy
  have m1 := mul_bound (x := (h2.natAbs : Int)) (y := w1) 1000000000 100000 (by omega) (by omega)
  have m2 := mul_bound (x := (h1.natAbs : Int)) (y := w2) 1000000000 100000 (by omega) (by omega)
  rw [IntWalk.wrap64_in _ ⟨by omega, by omega⟩, IntWalk.wrap64_in _ ⟨by omega, by omega⟩]
  rfl
set_option maxHeartbeats 1000000 in
theorem beyond_any (h1 w1 h2 w2 : Int) (w : World) (a1 : -1000000000 ≤ h1 ∧ h1 ≤ 1000000000) (a2 : -1000000000 ≤ h2 ∧ h2 ≤ 1000000000) (b1 : 0 ≤ w1 ∧ w1 ≤ 100000) (b2 : 0 ≤ w2 ∧ w2 ≤ 100000) :
    Calls Try.prog 23 #[.agg #[.int .i64 h1, .int .i64 w1], .agg #[.int .i64 h2, .int .i64 w2]] w fun e w' =>
      e = .returned (.bool (beyondB h1 w1 h2 w2)) ∧ Below w.heap.size w w' := by
  go_enter Try.func23, Try.ntmps23
  go_wp2
  all_goals
    go_ret
    exact ⟨ret_bool (beyond_wrap (by omega) (by omega) a1 a2 b1 b2), below_two _ _ _⟩
end Go.Proofs.Ytjomcobhinnikaa
