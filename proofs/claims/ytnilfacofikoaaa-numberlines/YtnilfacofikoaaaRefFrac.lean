/- Contracts of agraffebase.Gcd, IsLowest and agrafferef01.CheckFrac, Rounded. -/
import Derived.Test.YtnilfacofikoaaaFrac
namespace Go.Proofs.Ytnilfacofikoaaa
open Go.RowKit

theorem tmod_in {x y : Int} (hy : -9223372036854775807 ≤ y ∧ y ≤ 9223372036854775807) (h0 : y ≠ 0) : -9223372036854775807 ≤ x.tmod y ∧ x.tmod y ≤ 9223372036854775807 ∧ (x.tmod y).natAbs < y.natAbs := by
  have e : (x.tmod y).natAbs = x.natAbs % y.natAbs := Int.natAbs_tmod x y
  have l := Nat.mod_lt x.natAbs (show 0 < y.natAbs by omega)
  omega
theorem gcd_tmod (x y : Int) : Nat.gcd y.natAbs (x.tmod y).natAbs = Nat.gcd x.natAbs y.natAbs := by
  rw [Int.natAbs_tmod, Nat.gcd_comm x.natAbs, Nat.gcd_rec y.natAbs x.natAbs, Nat.gcd_comm]
theorem absAll_any (n : Int) (w : World) (h0 : -9223372036854775807 ≤ n) (h1 : n ≤ 9223372036854775807) :
    Calls Try.prog 14 #[.int .i64 n] w fun e w' => e = .returned (.int .i64 (n.natAbs : Int)) ∧ w = w' := by
  by_cases h2 : n < 0
  · go_enter Try.func14, Try.ntmps14
    go_wp2
    go_ret
    exact ⟨ret_int (by omega), rfl⟩
  · go_enter Try.func14, Try.ntmps14
    go_wp2
    go_ret
    exact ⟨ret_int (by omega), rfl⟩

set_option maxHeartbeats 400000 in
theorem gcd_any (a b : Int) (w : World) (ha : -9223372036854775808 ≤ a ∧ a ≤ 9223372036854775807) (hb : -9223372036854775807 ≤ b ∧ b ≤ 9223372036854775807) (h : -9223372036854775807 ≤ a ∨ b ≠ 0) :
    Calls Try.prog 52 #[.int .i64 a, .int .i64 b] w fun e w' => e = .returned (.int .i64 (Nat.gcd a.natAbs b.natAbs : Int)) ∧ ∃ n, w.drewN n = w' := by
  go_enter Try.func52, Try.ntmps52
  go_wp2
  go_loopw [0, 1] (fun l i wr => ∃ (x y : Int) (n : Nat), l = .int .i64 x ∧ i = .int .i64 y ∧ -9223372036854775808 ≤ x ∧ x ≤ 9223372036854775807 ∧ -9223372036854775807 ≤ y ∧ y ≤ 9223372036854775807 ∧ Hid (-9223372036854775807 ≤ x ∨ y ≠ 0) ∧ Hid (Nat.gcd x.natAbs y.natAbs = Nat.gcd a.natAbs b.natAbs) ∧ wr = w.drewN n) (fun _ i _ => (intOf i).natAbs)
  case atStart => exact ⟨a, b, 0, rfl, rfl, ha.1, ha.2, hb.1, hb.2, h, rfl, rfl⟩
  case round =>
    obtain ⟨x, y, n, rfl, rfl, hx0, hx1, hy0, hy1, HX, HG, rfl⟩ := hrel
    by_cases hy : y = 0
    · subst hy
      have hx2 : -9223372036854775807 ≤ x := by rcases HX.out with h | h <;> omega
      have HR : Hid ((x.natAbs : Int) = (Nat.gcd a.natAbs b.natAbs : Int)) := by show _ = _; rw [← HG.out]; simp
      go_wp2_with (go_at_call 14; refine (absAll_any _ _ (by omega) (by omega)).mono ?_; rintro e w' ⟨rfl, rfl⟩)
      go_ret
      exact ⟨ret_int HR.out, n, rfl⟩
    · have hb0 : ((y : Int) == 0) = false := by rw [beq_eq_false_iff_ne]; exact hy
      have hb1 : ((y : Int) != 0) = true := by rw [bne_iff_ne]; exact hy
      obtain ⟨t0, t1, t2⟩ := tmod_in (x := x) ⟨hy0, hy1⟩ hy
      have HT := hide t2
      clear t2
      go_wp2
      go_quiet (fail)
      go_wp2
      go_roundw
      case rel => exact ⟨y, x.tmod y, n + nq, rfl, by go_num, by omega, hy1, t0, t1, hide (Or.inl hy0), hide (by rw [gcd_tmod]; exact HG.out), by rw [World.drewN_drewN]⟩
      case measure => have h5 := HT.out; rw [Int.natAbs_tmod] at h5; simp [intOf]; omega

theorem isLowest_any (n d : Int) (w : World) (hn : -9223372036854775808 ≤ n ∧ n ≤ 9223372036854775807) (hd : -9223372036854775808 ≤ d ∧ d ≤ 9223372036854775807) :
    Calls Try.prog 38 #[.agg #[.int .i64 n, .int .i64 d]] w fun e w' => e = .returned (.bool (decide (lowF n d))) ∧ Below w.heap.size w w' := by
  by_cases h : 0 < d
  · have HP : Hid (decide (lowF n d) = ((Nat.gcd n.natAbs d.natAbs : Int) == 1)) := by
      show _ = _
      have e : lowF n d ↔ Nat.gcd n.natAbs d.natAbs = 1 := ⟨fun h => h.2, fun h => ⟨by omega, h⟩⟩
      rw [decide_eq_decide.2 e, Bool.eq_iff_iff, decide_eq_true_eq, beq_iff_eq]; omega
    go_enter Try.func38, Try.ntmps38
    go_wp2_with (go_at_call 52; refine (gcd_any _ _ _ (by omega) (by omega) (by omega)).mono ?_; rintro e w' ⟨rfl, m, rfl⟩)
    go_ret
    refine ⟨ret_bool HP.out.symm, ?_⟩
    repeat (first | exact Below.refl _ _ | refine Below.alloc ?_ (by first | omega | (simp; done) | (simp; omega)) _ | refine below_drewN ?_ _)
  · have HP : Hid (decide (lowF n d) = false) := decide_eq_false fun h => by have := h.1; omega
    go_enter Try.func38, Try.ntmps38
    go_wp2
    go_ret
    exact ⟨ret_bool HP.out.symm, (Below.refl _ _).alloc (Nat.le_refl _) _⟩

set_option maxHeartbeats 400000 in
theorem refCheckFrac_any (n d : Int) (w : World) (hn : -9223372036854775808 ≤ n ∧ n ≤ 9223372036854775807) (hd : -9223372036854775808 ≤ d ∧ d ≤ 9223372036854775807) :
    Calls Try.prog 12 #[.agg #[.int .i64 n, .int .i64 d]] w fun e w' => e = .returned (.int .i64 (fracErr n d)) ∧ Below w.heap.size w w' := by
  go_enter Try.func12, Try.ntmps12
  go_wp2_with fail
  refine (isLowest_any n d _ hn hd).mono ?_
  rintro e w1 ⟨rfl, hb1⟩
  have hB := hide ((Blk.new w _ 25 #[.int .i64 n, .int .i64 d] rfl).kept hb1)
  have HB := hide (((Below.refl _ _).alloc (Nat.le_refl w.heap.size) _).trans (hb1.mono (by simp)))
  obtain ⟨⟨q0, q1⟩, _⟩ := hB.out.c2
  clear hb1
  by_cases hl : lowF n d
  · have hd1 : decide (lowF n d) = true := decide_eq_true hl
    by_cases h1 : -1000000000 ≤ n ∧ n ≤ 1000000000
    · by_cases h2 : 1000000000 < d
      · have HE : Hid (fracErr n d = 2) := (if_pos hl).trans (if_neg fun h => by have := h.2.2; omega)
        have hr := inR_yes h1
        rw [hd1]
        clear hl
        go_wp2_with (go_at_call 29; refine (within3_any _ _ _ _).mono ?_; rintro e w' ⟨rfl, rfl⟩; rw [hr])
        go_ret
        exact ⟨ret_int HE.out.symm, HB.out⟩
      · have HE : Hid (fracErr n d = 0) := (if_pos hl).trans (if_pos ⟨hl, h1, by omega⟩)
        have hr := inR_yes h1
        rw [hd1]
        clear hl
        go_wp2_with (go_at_call 29; refine (within3_any _ _ _ _).mono ?_; rintro e w' ⟨rfl, rfl⟩; rw [hr])
        go_ret
        exact ⟨ret_int HE.out.symm, HB.out⟩
    · have HE : Hid (fracErr n d = 2) := (if_pos hl).trans (if_neg fun h => h1 h.2.1)
      have hr := inR_no h1
      rw [hd1]
      clear hl h1
      go_wp2_with (go_at_call 29; refine (within3_any _ _ _ _).mono ?_; rintro e w' ⟨rfl, rfl⟩; rw [hr])
      go_ret
      exact ⟨ret_int HE.out.symm, HB.out⟩
  · have hd1 : decide (lowF n d) = false := decide_eq_false hl
    have HE : Hid (fracErr n d = 3) := if_neg hl
    rw [hd1]
    clear hl
    go_wp2
    go_ret
    exact ⟨ret_int HE.out.symm, HB.out⟩

theorem prod_in {n t : Int} (hn : -1000000000 ≤ n ∧ n ≤ 1000000000) (ht : 1 ≤ t ∧ t ≤ 1000000000) : -9000000000000000000 ≤ n * t ∧ n * t ≤ 9000000000000000000 := by
  have h := mul_bound (x := n) (y := t) 1000000000 1000000000 (by omega) (by omega)
  rw [show (1000000000 * 1000000000 : Nat) = 1000000000000000000 from rfl] at h
  omega
end Go.Proofs.Ytnilfacofikoaaa
