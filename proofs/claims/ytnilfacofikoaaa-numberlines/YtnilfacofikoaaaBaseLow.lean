/- The contract of agraffebase.Lowest (the denominator is above 0). -/
import Derived.Test.YtnilfacofikoaaaRefFrac
namespace Go.Proofs.Ytnilfacofikoaaa
open Go.RowKit

set_option maxHeartbeats 1000000 in
set_option maxRecDepth 100000 in
theorem baseLowest_any (n d : Int) (w : World) (hn : -9223372036854775807 ≤ n ∧ n ≤ 9223372036854775807) (hd : 1 ≤ d ∧ d ≤ 9223372036854775807) :
    Calls Try.prog 50 #[.int .i64 n, .int .i64 d] w fun e w' => e = .returned (.agg #[.int .i64 (n.tdiv (gcdF n d)), .int .i64 (d / (gcdF n d))]) ∧ Below w.heap.size w w' := by
  have hg := gcdF_pos (n := n) hd.1
  have hgl := gcdF_le (n := n) hd.1
  go_enter Try.func50, Try.ntmps50
  go_wp2_with fail
  refine (gcd_any n d _ (by omega) (by omega) (by omega)).mono ?_
  rintro e w1 ⟨rfl, m, rfl⟩
  have eg : Nat.gcd n.natAbs d.natAbs = gcdF n d := rfl
  rw [eg]
  obtain ⟨g, hge⟩ : ∃ g, g = gcdF n d := ⟨_, rfl⟩
  have EV : Hid (g = gcdF n d) := hge
  rw [← hge] at hg hgl ⊢
  have hb1 : -9223372036854775807 ≤ n.tdiv g ∧ n.tdiv g ≤ 9223372036854775807 := tdiv_in (by omega) (by omega)
  have hb2 : -9223372036854775807 ≤ d / g ∧ d / g ≤ 9223372036854775807 := ediv_bounds (by omega) (by omega) (by omega) (by omega)
  clear eg hge
  go_wp2
  go_region
  go_wp2
  refine bodyPost_ret (v := .agg #[.int .i64 (n.tdiv g), .int .i64 (d / g)]) (by simp [results, Try.results50, go_sem]) rfl ⟨by rw [EV.out], ?_⟩
  repeat (first | exact Below.refl _ _ | refine Below.setCell ?_ (by simp) _ | refine Below.alloc ?_ (by first | omega | (simp; done) | (simp; omega)) _ | refine below_drewN ?_ _)

end Go.Proofs.Ytnilfacofikoaaa
