/- Contracts of plate.lowest and plate.DownBearing. Every bound is a premise of the theorem that bears it. -/
import Derived.Test.YtjfcjclhbnmgcaaPlChk
import Derived.Test.YtjfcjclhbnmgcaaPlRef
namespace Go.Proofs.Ytjfcjclhbnmgcaa
open Go.RowKit
set_option linter.unusedVariables false
set_option linter.unusedSimpArgs false

theorem natAbs_ofNat' (n : Nat) : ((n : Int)).natAbs = n := Int.natAbs_natCast n
set_option maxHeartbeats 1000000 in
theorem plLowest_any (n d : Int) (w : World) (hn : -9223372036854775807 ≤ n ∧ n ≤ 9223372036854775807) (hd : 1 ≤ d ∧ d ≤ 9223372036854775807) :
    Calls Try.prog 82 #[.int .i64 n, .int .i64 d] w fun e w' => e = .returned (.agg #[.int .i64 (n.tdiv (gcdF n d)), .int .i64 (d / (gcdF n d))]) ∧ Below w.heap.size w w' := by
  have hg := gcdF_pos (n := n) hd.1
  have hgl := gcdF_le (n := n) hd.1
  have EV : Hid (gcdF n d = Nat.gcd d.natAbs (n.natAbs : Int).natAbs) := by show _ = _; rw [natAbs_ofNat', Nat.gcd_comm]; rfl
  obtain ⟨g, hge⟩ : ∃ g, g = gcdF n d := ⟨_, rfl⟩
  rw [← hge] at hg hgl EV ⊢
  have hb1 : -9223372036854775807 ≤ n.tdiv g ∧ n.tdiv g ≤ 9223372036854775807 := tdiv_in (by omega) (by omega)
  have hb2 : -9223372036854775807 ≤ d / g ∧ d / g ≤ 9223372036854775807 := ediv_bounds (by omega) (by omega) (by omega) (by omega)
  clear hge
  go_enter Try.func82, Try.ntmps82
  go_wp2_with (go_at_call 89; refine (plSize_any n _ (by omega) (by omega)).mono ?_; rintro e w' ⟨rfl, rfl⟩)
  go_loopw [5, 6] (fun l i wr => ∃ (x y : Int) (m : Nat), l = .int .i64 x ∧ i = .int .i64 y ∧ 1 ≤ x ∧ x ≤ 9223372036854775807 ∧ 0 ≤ y ∧ y ≤ 9223372036854775807 ∧ Hid (g = Nat.gcd x.natAbs y.natAbs) ∧ wr = (w.alloc (.cells #[.int .i64 0, .int .i64 0] 65)).drewN m) (fun _ i _ => (intOf i).natAbs)
  case atStart => exact ⟨d, (n.natAbs : Int), 0, rfl, rfl, by omega, by omega, by omega, by omega, EV, rfl⟩
  case round =>
    obtain ⟨x, y, m, rfl, rfl, hx0, hx1, hy0, hy1, HG, rfl⟩ := hrel
    by_cases hy : 0 < y
    · have hb0 : ¬ y = 0 := by omega
      obtain ⟨t0, t1, t2⟩ := tmod_in (x := x) (y := y) ⟨by omega, hy1⟩ (by omega)
      have t3 : 0 ≤ x.tmod y := Int.tmod_nonneg _ (by omega)
      have he : x.tmod y = x % y := Int.tmod_eq_emod_of_nonneg (by omega)
      have HG2 : Hid (g = Nat.gcd y.natAbs (x % y).natAbs) := hide (by rw [← he, gcd_tmod]; exact HG.out)
      rw [he] at t0 t1 t2 t3
      have HT := hide t2
      clear t2 he t0
      go_wp2
      go_quiet (fail)
      go_wp2
      go_roundw
      case rel => exact ⟨y, x % y, m + nq, rfl, by go_num, by omega, hy1, t3, t1, HG2, by rw [World.drewN_drewN]⟩
      case measure => have h5 := HT.out; simp only [intOf]; exact h5
    · obtain rfl : y = 0 := by omega
      have hxg : x = (g : Int) := by have := HG.out; simp at this; omega
      subst hxg
      go_wp2
      go_region
      go_wp2
      refine bodyPost_ret (v := .agg #[.int .i64 (n.tdiv g), .int .i64 (d / g)]) (by simp [results, Try.results82, go_sem]) rfl ⟨rfl, ?_⟩
      repeat (first | exact Below.refl _ _ | refine Below.setCell ?_ (by simp) _ | refine Below.alloc ?_ (by first | omega | (simp; done) | (simp; omega)) _ | refine below_drewN ?_ _ | refine Below.drew ?_)
end Go.Proofs.Ytjfcjclhbnmgcaa
