/- Contracts of number.Root and agrafferef01.Root: the whole part of a root. -/
import Derived.Test.YtjfcjclhbnmgcaaGreatest
import Derived.Test.YtjfcjclhbnmgcaaPitch
namespace Go.Proofs.Ytjfcjclhbnmgcaa
open Go.RowKit

/-- x to the k is at most n. -/
def powLe (k n : Nat) (x : Int) : Bool := decide (x.toNat ^ k ≤ n)
/-- The whole part of the k-th root of n. -/
structure IsRoot (n k r : Nat) : Prop where
  le : r ≤ n
  yes : 0 < r → r ^ k ≤ n
  no : r < n → n < (r + 1) ^ k
theorem IsRoot.unique {n k r s : Nat} (hr : IsRoot n k r) (hs : IsRoot n k s) : r = s := by
  rcases Nat.lt_trichotomy r s with h | h | h
  · have h1 := hr.no (by have := hs.le; omega)
    have h2 := hs.yes (by omega)
    have h3 := Nat.pow_le_pow_left (show r + 1 ≤ s by omega) k
    omega
  · exact h
  · have h1 := hs.no (by have := hr.le; omega)
    have h2 := hr.yes (by omega)
    have h3 := Nat.pow_le_pow_left (show s + 1 ≤ r by omega) k
    omega
theorem root_of_great {n k : Nat} {r : Int} (h0 : 0 ≤ r) (h1 : r ≤ n) (h2 : (0 : Int) < r → powLe k n r = true) (h3 : r < n → powLe k n (r + 1) = false) : ∃ m : Nat, r = m ∧ IsRoot n k m := by
  obtain ⟨m, rfl⟩ := Int.eq_ofNat_of_zero_le h0
  refine ⟨m, rfl, by omega, fun h => ?_, fun h => ?_⟩
  · have := h2 (by omega)
    simpa [powLe] using this
  · have := h3 (by omega)
    have e : ((m : Int) + 1).toNat = m + 1 := by omega
    simpa [powLe, e] using this

theorem div_pow_step (n x i : Nat) : n / x ^ i / x = n / x ^ (i + 1) := by rw [Nat.div_div_eq_div_mul, Nat.pow_succ]
theorem div_pow_pos {n x k : Nat} (hx : 1 ≤ x) : (1 ≤ n / x ^ k) ↔ x ^ k ≤ n := by rw [Nat.le_div_iff_mul_le (Nat.pow_pos hx), Nat.one_mul]

set_option maxHeartbeats 400000 in
theorem fits_any (n k x g1 g2 : Nat) (w : World) (hn : n ≤ 1000000000000000000) (hk : k ≤ 12) (hx : 1 ≤ x) (hx2 : x ≤ 1000000000000000000) (h1 : Blk w g1 3 #[.int .i64 n]) (h2 : Blk w g2 3 #[.int .i64 k]) :
    Calls Try.prog 133 #[.int .i64 x, .pointer (some ⟨g1, 0, none⟩), .pointer (some ⟨g2, 0, none⟩)] w fun e w' => e = .returned (.bool (powLe k n x)) ∧ w = w' := by
  have q1 := h1.c1.1
  have q2 := h2.c1.1
  clear h1 h2
  go_enter Try.func133, Try.ntmps133
  go_wp2
  go_loop [5, 8] (fun l i => ∃ j y : Nat, j ≤ k ∧ i = .int .i64 j ∧ l = .int .i64 y ∧ y ≤ 1000000000000000000 ∧ Hid (y = n / x ^ j)) (fun _ i => k - (intOf i).toNat)
  case atStart => exact ⟨0, n, by omega, rfl, rfl, hn, by simp [Hid]⟩
  case round =>
    obtain ⟨j, y, hj, rfl, rfl, hy, HY⟩ := hrel
    by_cases hlt : j < k
    · have hd := Nat.div_le_self y x
      have hd0 : 0 ≤ (y : Int) / (x : Int) := Int.ediv_nonneg (by omega) (by omega)
      have hd1 : (y : Int) / (x : Int) ≤ y := Int.ediv_le_self _ (by omega)
      have hd2 : (y : Int) / (x : Int) ≤ 1000000000000000000 := by omega
      go_wp2
      go_round
      case rel => exact ⟨j + 1, y / x, by omega, by go_num, by go_num, by omega, hide (by rw [HY.out, div_pow_step])⟩
      case measure => simp [intOf]; omega
    · obtain rfl : j = k := by omega
      have HP : Hid (powLe j n x = decide (1 ≤ y)) := by
        show powLe j n x = _
        unfold powLe
        rw [HY.out, Int.toNat_natCast, Bool.eq_iff_iff, decide_eq_true_eq, decide_eq_true_eq]
        exact (div_pow_pos hx).symm
      go_wp2
      go_ret
      exact ⟨ret_bool (by rw [HP.out]; simp; omega), rfl⟩

def RootInv (w0 : World) (g1 g2 n k : Nat) (W : World) : Prop := Blk W g1 3 #[.int .i64 n] ∧ Blk W g2 3 #[.int .i64 k] ∧ Below w0.heap.size w0 W

set_option maxHeartbeats 1000000 in
theorem root_any (n k : Nat) (w : World) (hn : n ≤ 1000000000000000000) (hk1 : 1 ≤ k) (hk : k ≤ 12) :
    Calls Try.prog 117 #[.int .i64 n, .int .i64 k] w fun e w' => ∃ r : Nat, e = .returned (.tuple #[.int .i64 r, .int .i64 0]) ∧ IsRoot n k r ∧ Below w.heap.size w w' := by
  have hmf : ∀ (fn : Fn) (first cap : Array Value) (w : World), (Instr.makeFunc fn first cap).run Try.prog w = .ok (.func fn first cap) w := fun _ _ _ _ => rfl
  go_enter Try.func117, Try.ntmps117
  go_wp2_with fail
  refine (greatest_any 133 #[.pointer (some ⟨w.heap.size, 0, none⟩), .pointer (some ⟨w.heap.size + 1, 0, none⟩)] (RootInv w w.heap.size (w.heap.size + 1) n k) (powLe k n) 0 n _ (by omega) (by omega) (by omega)
    ⟨(Blk.new w _ _ _ rfl).alloc _, Blk.new _ _ _ _ (by simp), below_two w _ _⟩ (enters_of Try.func133 (by kernel_rfl) rfl) ?_).mono ?_
  · intro x W h1 h2 hI
    obtain ⟨m, rfl⟩ := Int.eq_ofNat_of_zero_le (Int.le_of_lt h1)
    exact (fits_any n k m w.heap.size (w.heap.size + 1) W hn hk (by omega) (by omega) hI.1 hI.2.1).mono fun e W' ⟨he, hw⟩ => ⟨he, hw ▸ hI⟩
  rintro e w5 ⟨r, rfl, g1, g2, g3, g4, hI⟩
  obtain ⟨m, rfl, hm⟩ := root_of_great g1 g2 g3 g4
  have HM := hide hm
  have HB := hide hI.2.2
  clear g1 g2 g3 g4 hm hI
  go_wp2
  go_ret2
  exact ⟨m, rfl, HM.out, HB.out⟩
set_option maxHeartbeats 400000 in
theorem root_bad (n k : Int) (w : World) (h : ¬ ((0 ≤ n ∧ n ≤ 1000000000000000000) ∧ 1 ≤ k ∧ k ≤ 12)) :
    Calls Try.prog 117 #[.int .i64 n, .int .i64 k] w fun e w' => e = .returned (.tuple #[.int .i64 0, .int .i64 2]) ∧ Below w.heap.size w w' := by
  by_cases h1 : n < 0
  · clear h
    go_enter Try.func117, Try.ntmps117
    go_wp2
    go_ret2
    exact ⟨rfl, below_two _ _ _⟩
  · by_cases h2 : 1000000000000000000 < n
    · clear h
      go_enter Try.func117, Try.ntmps117
      go_wp2
      go_ret2
      exact ⟨rfl, below_two _ _ _⟩
    · by_cases h3 : k < 1
      · clear h
        go_enter Try.func117, Try.ntmps117
        go_wp2
        go_ret2
        exact ⟨rfl, below_two _ _ _⟩
      · have h4 : 12 < k := by omega
        clear h
        go_enter Try.func117, Try.ntmps117
        go_wp2
        go_ret2
        exact ⟨rfl, below_two _ _ _⟩
end Go.Proofs.Ytjfcjclhbnmgcaa
