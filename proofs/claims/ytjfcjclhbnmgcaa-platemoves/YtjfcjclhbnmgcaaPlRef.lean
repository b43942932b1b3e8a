/- Contracts of agraffebase's Gcd, IsLowest, Lowest, Ceil. Every bound is a premise of the theorem that bears it. -/
import Derived.Test.YtjfcjclhbnmgcaaFracM
import Derived.Test.YtjfcjclhbnmgcaaFloor
namespace Go.Proofs.Ytjfcjclhbnmgcaa
open Go.RowKit

theorem tmod_in {x y : Int} (hy : -9223372036854775807 ≤ y ∧ y ≤ 9223372036854775807) (h0 : y ≠ 0) : -9223372036854775807 ≤ x.tmod y ∧ x.tmod y ≤ 9223372036854775807 ∧ (x.tmod y).natAbs < y.natAbs := by
  have e : (x.tmod y).natAbs = x.natAbs % y.natAbs := Int.natAbs_tmod x y
  have l := Nat.mod_lt x.natAbs (show 0 < y.natAbs by omega)
  omega
theorem gcd_tmod (x y : Int) : Nat.gcd y.natAbs (x.tmod y).natAbs = Nat.gcd x.natAbs y.natAbs := by
  rw [Int.natAbs_tmod, Nat.gcd_comm x.natAbs, Nat.gcd_rec y.natAbs x.natAbs, Nat.gcd_comm]
theorem absAll_any (n : Int) (w : World) (h0 : -9223372036854775807 ≤ n) (h1 : n ≤ 9223372036854775807) :
    Calls Try.prog 56 #[.int .i64 n] w fun e w' => e = .returned (.int .i64 (n.natAbs : Int)) ∧ w = w' := by
  by_cases h2 : n < 0
  · go_enter Try.func56, Try.ntmps56
    go_wp2
    go_ret
    exact ⟨ret_int (by omega), rfl⟩
  · go_enter Try.func56, Try.ntmps56
    go_wp2
    go_ret
    exact ⟨ret_int (by omega), rfl⟩

set_option maxHeartbeats 400000 in
theorem gcd_any (a b : Int) (w : World) (ha : -9223372036854775808 ≤ a ∧ a ≤ 9223372036854775807) (hb : -9223372036854775807 ≤ b ∧ b ≤ 9223372036854775807) (h : -9223372036854775807 ≤ a ∨ b ≠ 0) :
    Calls Try.prog 108 #[.int .i64 a, .int .i64 b] w fun e w' => e = .returned (.int .i64 (Nat.gcd a.natAbs b.natAbs : Int)) ∧ ∃ n, w.drewN n = w' := by
  go_enter Try.func108, Try.ntmps108
  go_wp2
  go_loopw [0, 1] (fun l i wr => ∃ (x y : Int) (n : Nat), l = .int .i64 x ∧ i = .int .i64 y ∧ -9223372036854775808 ≤ x ∧ x ≤ 9223372036854775807 ∧ -9223372036854775807 ≤ y ∧ y ≤ 9223372036854775807 ∧ Hid (-9223372036854775807 ≤ x ∨ y ≠ 0) ∧ Hid (Nat.gcd x.natAbs y.natAbs = Nat.gcd a.natAbs b.natAbs) ∧ wr = w.drewN n) (fun _ i _ => (intOf i).natAbs)
  case atStart => exact ⟨a, b, 0, rfl, rfl, ha.1, ha.2, hb.1, hb.2, h, rfl, rfl⟩
  case round =>
    obtain ⟨x, y, n, rfl, rfl, hx0, hx1, hy0, hy1, HX, HG, rfl⟩ := hrel
    by_cases hy : y = 0
    · subst hy
      have hx2 : -9223372036854775807 ≤ x := by rcases HX.out with h | h <;> omega
      have HR : Hid ((x.natAbs : Int) = (Nat.gcd a.natAbs b.natAbs : Int)) := by show _ = _; rw [← HG.out]; simp
      go_wp2_with (go_at_call 56; refine (absAll_any _ _ (by omega) (by omega)).mono ?_; rintro e w' ⟨rfl, rfl⟩)
      go_ret
      exact ⟨ret_int HR.out, n, rfl⟩
    · have hb0 : ((y : Int) == 0) = false := by rw [beq_eq_false_iff_ne]; exact hy
      have hb1 : ((y : Int) != 0) = true := by rw [bne_iff_ne]; exact hy
      obtain ⟨t0, t1, t2⟩ := tmod_in (x := x) ⟨hy0, hy1⟩ hy
      have HT := hide t2
      clear t2
      go_wp2
      go_quiet (fail)
      go_wp2
      go_roundw
      case rel => exact ⟨y, x.tmod y, n + nq, rfl, by go_num, by omega, hy1, t0, t1, hide (Or.inl hy0), hide (by rw [gcd_tmod]; exact HG.out), by rw [World.drewN_drewN]⟩
      case measure => have h5 := HT.out; rw [Int.natAbs_tmod] at h5; simp [intOf]; omega

set_option maxHeartbeats 1000000 in
set_option maxRecDepth 100000 in
theorem baseLowest_any (n d : Int) (w : World) (hn : -9223372036854775807 ≤ n ∧ n ≤ 9223372036854775807) (hd : 1 ≤ d ∧ d ≤ 9223372036854775807) :
    Calls Try.prog 78 #[.int .i64 n, .int .i64 d] w fun e w' => e = .returned (.agg #[.int .i64 (n.tdiv (gcdF n d)), .int .i64 (d / (gcdF n d))]) ∧ Below w.heap.size w w' := by
  have hg := gcdF_pos (n := n) hd.1
  have hgl := gcdF_le (n := n) hd.1
  go_enter Try.func78, Try.ntmps78
  go_wp2_with fail
  refine (gcd_any n d _ (by omega) (by omega) (by omega)).mono ?_
  rintro e w1 ⟨rfl, m, rfl⟩
  have eg : Nat.gcd n.natAbs d.natAbs = gcdF n d := rfl
  rw [eg]
  obtain ⟨g, hge⟩ : ∃ g, g = gcdF n d := ⟨_, rfl⟩
  have EV : Hid (g = gcdF n d) := hge
  rw [← hge] at hg hgl ⊢
  have hb1 : -9223372036854775807 ≤ n.tdiv g ∧ n.tdiv g ≤ 9223372036854775807 := tdiv_in (by omega) (by omega)
  have hb2 : -9223372036854775807 ≤ d / g ∧ d / g ≤ 9223372036854775807 := ediv_bounds (by omega) (by omega) (by omega) (by omega)
  clear eg hge
  go_wp2
  go_region
  go_wp2
  refine bodyPost_ret (v := .agg #[.int .i64 (n.tdiv g), .int .i64 (d / g)]) (by simp [results, Try.results78, go_sem]) rfl ⟨by rw [EV.out], ?_⟩
  repeat (first | exact Below.refl _ _ | refine Below.setCell ?_ (by simp) _ | refine Below.alloc ?_ (by first | omega | (simp; done) | (simp; omega)) _ | refine below_drewN ?_ _)

theorem ceil_any (n m : Int) (w : World) (h0 : -9000000000000000000 ≤ n) (h1 : n ≤ 9000000000000000000) (hm : 1 ≤ m) (hm2 : m ≤ 9000000000000000000) :
    Calls Try.prog 61 #[.int .i64 n, .int .i64 m] w fun e w' => e = .returned (.int .i64 (-(-n / m))) ∧ w = w' := by
  have hb := ediv_bounds (n := -n) (B := 9000000000000000000) hm (by omega) (by omega) (by omega)
  go_enter Try.func61, Try.ntmps61
  go_wp2_with (go_at_call 60; refine (floor_any _ _ _ (by omega) (by omega) hm hm2).mono ?_; rintro e w' ⟨rfl, rfl⟩)
  go_ret
  exact ⟨rfl, rfl⟩

end Go.Proofs.Ytjfcjclhbnmgcaa
