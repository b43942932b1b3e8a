/- Contracts of number.checkProof and of the two functions inside number.CheckLine. -/
import Derived.Test.YtjomcobhinnikaaDens
import Derived.Test.YtjomcobhinnikaaLine
import Derived.Deep.QuietTactic
import Derived.BigQuiet
namespace Go.Proofs.Ytjomcobhinnikaa
open Go.RowKit
set_option linter.unusedVariables false
set_option linter.unusedSimpArgs false

/-- x numbers one of n dots. -/
def prI (n : Nat) (x : Int) : Prop := 0 ≤ x ∧ x < n
instance (n : Nat) (x : Int) : Decidable (prI n x) := inferInstanceAs (Decidable (_ ∧ _))
def prE (n : Nat) (p q r : Int) : Int := if prI n p ∧ prI n q ∧ prI n r then (if p < q ∧ q < r then 0 else 9) else 6
set_option maxHeartbeats 2000000 in
set_option maxRecDepth 100000 in
theorem checkProof_any (n : Nat) (p q r : Int) (w : World) :
    Calls Try.prog 32 #[.int .i64 n, .agg #[.int .i64 p, .int .i64 q, .int .i64 r]] w fun e w' => e = .returned (.int .i64 (prE n p q r)) ∧ Below w.heap.size w w' := by
  have q0 : ∀ w : World, (Instr.index 30 (.agg #[.int .i64 p, .int .i64 q, .int .i64 r]) (.int .i64 0)).run Try.prog w = .ok (.int .i64 p) w := fun _ => by kernel_rfl
  have q1 : ∀ w : World, (Instr.index 30 (.agg #[.int .i64 p, .int .i64 q, .int .i64 r]) (.int .i64 1)).run Try.prog w = .ok (.int .i64 q) w := fun _ => by kernel_rfl
  have q2 : ∀ w : World, (Instr.index 30 (.agg #[.int .i64 p, .int .i64 q, .int .i64 r]) (.int .i64 2)).run Try.prog w = .ok (.int .i64 r) w := fun _ => by kernel_rfl
  have L0 := hide (Lv.start w)
  go_enter Try.func32, Try.ntmps32
  go_wp2
  go_loopw [8] (fun i wr => Hid (Lv w wr [(w.heap.size, 30, [.int .i64 p, .int .i64 q, .int .i64 r])]) ∧ (i = .int .i64 0 ∨ (i = .int .i64 1 ∧ Hid (prI n p)) ∨ (i = .int .i64 2 ∧ Hid (prI n p) ∧ Hid (prI n q)) ∨ (i = .int .i64 3 ∧ Hid (prI n p) ∧ Hid (prI n q) ∧ Hid (prI n r)))) (fun i _ => 3 - (intOf i).toNat)
  case atStart => exact ⟨hide (by simpa using L0.out.put _ _), Or.inl rfl⟩
  case round =>
    obtain ⟨L1, rfl | ⟨rfl, HA⟩ | ⟨rfl, HA, HB⟩ | ⟨rfl, HA, HB, HC⟩⟩ := hrel
    · have F1 := L1.out.at
      simp only [AllAt, CellsAt, updL, List.map, Nat.zero_add, Nat.reduceAdd, and_true, World.size_alloc, World.heap_drewN, heap_drew, size_set, Nat.add_eq_left, Nat.left_eq_add, Nat.add_right_cancel_iff, ne_up2, ne_dn2, ne_up3, ne_dn3, ne_up4, ne_dn4, Nat.reduceEqDiff, Nat.one_ne_zero, Nat.succ_ne_zero, Nat.zero_ne_one, reduceIte, List.set_cons_zero, List.set_cons_succ] at F1
      by_cases h0 : p < 0
      · have HE : Hid (prE n p q r = 6) := if_neg fun hh => by have := hh.1.1; omega
        go_wp2
        go_ret
        exact ⟨ret_int HE.out.symm, L1.out.below⟩
      · by_cases h1 : (n : Int) ≤ p
        · have HE : Hid (prE n p q r = 6) := if_neg fun hh => by have := hh.1.2; omega
          go_wp2
          go_ret
          exact ⟨ret_int HE.out.symm, L1.out.below⟩
        · have HX : Hid (prI n p) := ⟨by omega, by omega⟩
          go_wp2
          go_roundw
          case rel => exact ⟨L1, Or.inr (Or.inl ⟨rfl, HX⟩)⟩
          case measure => simp [intOf]
    · have F1 := L1.out.at
      simp only [AllAt, CellsAt, updL, List.map, Nat.zero_add, Nat.reduceAdd, and_true, World.size_alloc, World.heap_drewN, heap_drew, size_set, Nat.add_eq_left, Nat.left_eq_add, Nat.add_right_cancel_iff, ne_up2, ne_dn2, ne_up3, ne_dn3, ne_up4, ne_dn4, Nat.reduceEqDiff, Nat.one_ne_zero, Nat.succ_ne_zero, Nat.zero_ne_one, reduceIte, List.set_cons_zero, List.set_cons_succ] at F1
      by_cases h0 : q < 0
      · have HE : Hid (prE n p q r = 6) := if_neg fun hh => by have := hh.2.1.1; omega
        go_wp2
        go_ret
        exact ⟨ret_int HE.out.symm, L1.out.below⟩
      · by_cases h1 : (n : Int) ≤ q
        · have HE : Hid (prE n p q r = 6) := if_neg fun hh => by have := hh.2.1.2; omega
          go_wp2
          go_ret
          exact ⟨ret_int HE.out.symm, L1.out.below⟩
        · have HX : Hid (prI n q) := ⟨by omega, by omega⟩
          go_wp2
          go_roundw
          case rel => exact ⟨L1, Or.inr (Or.inr (Or.inl ⟨rfl, HA, HX⟩))⟩
          case measure => simp [intOf]
    · have F1 := L1.out.at
      simp only [AllAt, CellsAt, updL, List.map, Nat.zero_add, Nat.reduceAdd, and_true, World.size_alloc, World.heap_drewN, heap_drew, size_set, Nat.add_eq_left, Nat.left_eq_add, Nat.add_right_cancel_iff, ne_up2, ne_dn2, ne_up3, ne_dn3, ne_up4, ne_dn4, Nat.reduceEqDiff, Nat.one_ne_zero, Nat.succ_ne_zero, Nat.zero_ne_one, reduceIte, List.set_cons_zero, List.set_cons_succ] at F1
      by_cases h0 : r < 0
      · have HE : Hid (prE n p q r = 6) := if_neg fun hh => by have := hh.2.2.1; omega
        go_wp2
        go_ret
        exact ⟨ret_int HE.out.symm, L1.out.below⟩
      · by_cases h1 : (n : Int) ≤ r
        · have HE : Hid (prE n p q r = 6) := if_neg fun hh => by have := hh.2.2.2; omega
          go_wp2
          go_ret
          exact ⟨ret_int HE.out.symm, L1.out.below⟩
        · have HX : Hid (prI n r) := ⟨by omega, by omega⟩
          go_wp2
          go_roundw
          case rel => exact ⟨L1, Or.inr (Or.inr (Or.inr ⟨rfl, HA, HB, HX⟩))⟩
          case measure => simp [intOf]
    · have HE : Hid (prE n p q r = if p < q ∧ q < r then 0 else 9) := if_pos ⟨HA.out, HB.out, HC.out⟩
      have F1 := L1.out.at
      simp only [AllAt, CellsAt, updL, List.map, Nat.zero_add, Nat.reduceAdd, and_true, World.size_alloc, World.heap_drewN, heap_drew, size_set, Nat.add_eq_left, Nat.left_eq_add, Nat.add_right_cancel_iff, ne_up2, ne_dn2, ne_up3, ne_dn3, ne_up4, ne_dn4, Nat.reduceEqDiff, Nat.one_ne_zero, Nat.succ_ne_zero, Nat.zero_ne_one, reduceIte, List.set_cons_zero, List.set_cons_succ] at F1
      by_cases h0 : p < q
      · by_cases h1 : q < r
        · have HE2 : Hid (prE n p q r = 0) := HE.out.trans (if_pos ⟨h0, h1⟩)
          clear HE
          go_wp2
          go_ret
          exact ⟨ret_int HE2.out.symm, L1.out.below⟩
        · have HE2 : Hid (prE n p q r = 9) := HE.out.trans (if_neg fun h => h1 h.2)
          have h1' : r ≤ q := by omega
          clear HE
          go_wp2
          go_ret
          exact ⟨ret_int HE2.out.symm, L1.out.below⟩
      · have HE2 : Hid (prE n p q r = 9) := HE.out.trans (if_neg fun h => h0 h.1)
        have h1' : q ≤ p := by omega
        clear HE
        go_wp2
        go_ret
        exact ⟨ret_int HE2.out.symm, L1.out.below⟩
theorem within_all (n most : Int) (w : World) (h0 : -1000000000000000000 ≤ most) (h1 : most ≤ 1000000000000000000) :
    Calls Try.prog 35 #[.int .i64 n, .int .i64 most] w fun e w' => e = .returned (.bool (inB n most)) ∧ w = w' := by
  by_cases h2 : -most ≤ n
  · by_cases h3 : n ≤ most
    · go_enter Try.func35, Try.ntmps35
      go_wp2
      go_ret
      exact ⟨ret_bool (inB_yes (by omega)).symm, rfl⟩
    · go_enter Try.func35, Try.ntmps35
      go_wp2
      go_ret
      exact ⟨ret_bool (inB_no (by omega)).symm, rfl⟩
  · go_enter Try.func35, Try.ntmps35
    go_wp2
    go_ret
    exact ⟨ret_bool (inB_no (by omega)).symm, rfl⟩
/-- A fraction over a common denominator. -/
def scF (x y den : Int) : Int := x * (den / y)
theorem scF_in {x y den : Int} (hx : -1000000000 ≤ x ∧ x ≤ 1000000000) (hy : 1 ≤ y) (hd : 1 ≤ den ∧ den ≤ 40000) : (0 ≤ den / y ∧ den / y ≤ 40000) ∧ -40000000000000 ≤ scF x y den ∧ scF x y den ≤ 40000000000000 := by
  have h1 : 0 ≤ den / y := Int.ediv_nonneg (by omega) (by omega)
  have h2 : den / y ≤ 40000 := Int.le_trans (Int.ediv_le_self _ (by omega)) hd.2
  have h3 := mul_bound (x := x) (y := den / y) 1000000000 40000 (by omega) (by omega)
  rw [show (1000000000 * 40000 : Nat) = 40000000000000 from rfl] at h3
  unfold scF
  omega
set_option maxHeartbeats 2000000 in
set_option maxRecDepth 100000 in
theorem scaled1_any (x y den : Int) (g : Nat) (w : World) (hq : w.cell? ⟨g, 0, none⟩ = some (.int .i64 den)) (hx : -1000000000 ≤ x ∧ x ≤ 1000000000) (hy : 1 ≤ y ∧ y ≤ 1000000000) (hd : 1 ≤ den ∧ den ≤ 40000) :
    Calls Try.prog 33 #[.agg #[.int .i64 x, .int .i64 y], .pointer (some ⟨g, 0, none⟩)] w fun e w' => e = .returned (.int .i64 (scF x y den)) ∧ Below w.heap.size w w' := by
  obtain ⟨⟨h1, h2⟩, h3, h4⟩ := scF_in hx hy.1 hd
  have HS : Hid (scF x y den = x * (den / y)) := rfl
  obtain ⟨q, hqe⟩ : ∃ q, q = den / y := ⟨_, rfl⟩
  rw [← hqe] at h1 h2 HS
  have hdv : den / y = q := hqe.symm
  have htd : den.tdiv y = q := by rw [Int.tdiv_eq_ediv_of_nonneg (by omega)]; exact hdv
  have ny : ¬ y = 0 := by omega
  rw [HS.out] at h3 h4
  have W1 : IntKind.i64.wrap (x * q) = x * q := by rw [IntKind.wrap_i64]; omega
  have W2 : IntKind.i64.wrap q = q := by rw [IntKind.wrap_i64]; omega
  have hlt := World.block_lt_of_cell? w _ hq
  simp only at hlt
  have hq2 : (w.alloc (.cells #[.int .i64 x, .int .i64 y] 29)).cell? ⟨g, 0, none⟩ = some (.int .i64 den) := by rw [World.cell?_alloc_past _ _ _ hlt]; exact hq
  clear hqe hq
  go_enter Try.func33, Try.ntmps33
  go_wp2
  go_quiet (fail)
  go_wp2
  go_ret
  exact ⟨ret_int HS.out.symm, below_drewN ((Below.refl _ _).alloc (Nat.le_refl _) _) _⟩
def offL (ds : List (Int × Int)) (den S K : Int) (i : Nat) : Int := dY ds i * den - S - K * dX ds i
theorem offL_in {ds : List (Int × Int)} {den S K : Int} {i : Nat} (hx : inD (dX ds i)) (hy : inD (dY ds i)) (hd : 1 ≤ den ∧ den ≤ 40000) (hS : -40000000000000 ≤ S ∧ S ≤ 40000000000000) (hK : -40000000000000 ≤ K ∧ K ≤ 40000000000000) :
    (-400000000 ≤ dY ds i * den ∧ dY ds i * den ≤ 400000000) ∧ (-400000000000000000 ≤ K * dX ds i ∧ K * dX ds i ≤ 400000000000000000) ∧ -410000000000000000 ≤ offL ds den S K i ∧ offL ds den S K i ≤ 410000000000000000 := by
  unfold inD at hx hy
  have h1 := mul_bound (x := dY ds i) (y := den) 10000 40000 (by omega) (by omega)
  rw [show (10000 * 40000 : Nat) = 400000000 from rfl] at h1
  have h2 := mul_bound (x := K) (y := dX ds i) 40000000000000 10000 (by omega) (by omega)
  rw [show (40000000000000 * 10000 : Nat) = 400000000000000000 from rfl] at h2
  unfold offL
  omega
set_option maxHeartbeats 2000000 in
set_option maxRecDepth 100000 in
theorem errorAt_any (b off n cap i gl gd gs gk : Nat) (ds : List (Int × Int)) (den S K : Int) (w : World) (hi : i < n) (hb : b < w.heap.size) (hx : inD (dX ds i)) (hy : inD (dY ds i))
    (qx : w.cell? ⟨b, off + i * 2, none⟩ = some (.int .i64 (dX ds i))) (qy : w.cell? ⟨b, off + i * 2 + 1, none⟩ = some (.int .i64 (dY ds i)))
    (ql : w.cell? ⟨gl, 0, none⟩ = some (.slice (some ⟨b, off, none⟩) n cap)) (qd : w.cell? ⟨gd, 0, none⟩ = some (.int .i64 den)) (qs : w.cell? ⟨gs, 0, none⟩ = some (.int .i64 S)) (qk : w.cell? ⟨gk, 0, none⟩ = some (.int .i64 K))
    (hd : 1 ≤ den ∧ den ≤ 40000) (hS : -40000000000000 ≤ S ∧ S ≤ 40000000000000) (hK : -40000000000000 ≤ K ∧ K ≤ 40000000000000) :
    Calls Try.prog 34 #[.int .i64 i, .pointer (some ⟨gl, 0, none⟩), .pointer (some ⟨gd, 0, none⟩), .pointer (some ⟨gs, 0, none⟩), .pointer (some ⟨gk, 0, none⟩)] w fun e w' => e = .returned (.int .i64 (offL ds den S K i)) ∧ ∃ q, w.drewN q = w' := by
  obtain ⟨h1, h2, h3⟩ := offL_in hx hy hd hS hK
  have HO : Hid (offL ds den S K i = dY ds i * den - S - K * dX ds i) := rfl
  rw [HO.out] at h3
  obtain ⟨x, hxe⟩ : ∃ x, x = dX ds i := ⟨_, rfl⟩
  obtain ⟨y, hye⟩ : ∃ x, x = dY ds i := ⟨_, rfl⟩
  rw [← hxe] at qx h2 h3 HO
  rw [← hye] at qy h1 h3 HO
  have W1 : IntKind.i64.wrap (y * den) = y * den := by rw [IntKind.wrap_i64]; omega
  have W2 : IntKind.i64.wrap (K * x) = K * x := by rw [IntKind.wrap_i64]; omega
  have W3 : IntKind.i64.wrap (y * den - S) = y * den - S := by rw [IntKind.wrap_i64]; omega
  have W4 : IntKind.i64.wrap (y * den - S - K * x) = y * den - S - K * x := by rw [IntKind.wrap_i64]; omega
  have hi' : (i : Int) < (n : Int) := by omega
  clear hxe hye hx hy
  go_enter Try.func34, Try.ntmps34
  go_wp2
  go_quiet (fail)
  go_wp2
  go_ret
  exact ⟨ret_int HO.out.symm, _, rfl⟩
end Go.Proofs.Ytjomcobhinnikaa
