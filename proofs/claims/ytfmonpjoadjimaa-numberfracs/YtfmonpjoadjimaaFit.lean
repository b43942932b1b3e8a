/- Contracts of agraffebase.Lowest and agrafferef01.fit (the denominator is above 0). -/
import Derived.Test.YtfmonpjoadjimaaFracChecks
namespace Go.Proofs.Ytfmonpjoadjimaa
open Go.RowKit

set_option maxHeartbeats 1000000 in
set_option maxRecDepth 100000 in
theorem baseLowest_any (n d : Int) (w : World) (hn : -9223372036854775807 ≤ n ∧ n ≤ 9223372036854775807) (hd : 1 ≤ d ∧ d ≤ 9223372036854775807) :
    Calls Try.prog 79 #[.int .i64 n, .int .i64 d] w fun e w' => e = .returned (.agg #[.int .i64 (n.tdiv (gcdF n d)), .int .i64 (d / (gcdF n d))]) ∧ Below w.heap.size w w' := by
  have hg := gcdF_pos (n := n) hd.1
  have hgl := gcdF_le (n := n) hd.1
  go_enter Try.func79, Try.ntmps79
  go_wp2_with fail
  refine (gcd_any n d _ (by omega) (by omega) (by omega)).mono ?_
  rintro e w1 ⟨rfl, m, rfl⟩
  have eg : Nat.gcd n.natAbs d.natAbs = gcdF n d := rfl
  rw [eg]
  obtain ⟨g, hge⟩ : ∃ g, g = gcdF n d := ⟨_, rfl⟩
  have EV : Hid (g = gcdF n d) := hge
  rw [← hge] at hg hgl ⊢
  have hb1 : -9223372036854775807 ≤ n.tdiv g ∧ n.tdiv g ≤ 9223372036854775807 := tdiv_in (by omega) (by omega)
  have hb2 : -9223372036854775807 ≤ d / g ∧ d / g ≤ 9223372036854775807 := ediv_bounds (by omega) (by omega) (by omega) (by omega)
  clear eg hge
  go_wp2
  go_region
  go_wp2
  refine bodyPost_ret (v := .agg #[.int .i64 (n.tdiv g), .int .i64 (d / g)]) (by simp [results, Try.results79, go_sem]) rfl ⟨by rw [EV.out], ?_⟩
  repeat (first | exact Below.refl _ _ | refine Below.setCell ?_ (by simp) _ | refine Below.alloc ?_ (by first | omega | (simp; done) | (simp; omega)) _ | refine below_drewN ?_ _)

set_option maxHeartbeats 1000000 in
set_option maxRecDepth 100000 in
theorem fit_any (n d : Int) (w : World) (hn : -9223372036854775807 ≤ n ∧ n ≤ 9223372036854775807) (hd : 1 ≤ d ∧ d ≤ 9223372036854775807) :
    Calls Try.prog 49 #[.int .i64 n, .int .i64 d] w fun e w' => e = .returned (.tuple #[.agg #[.int .i64 (lN n d), .int .i64 (lD n d)], .int .i64 (lE n d)]) ∧ Below w.heap.size w w' := by
  have hg := gcdF_pos (n := n) hd.1
  obtain ⟨x, hx⟩ : ∃ x, x = n.tdiv (gcdF n d) := ⟨_, rfl⟩
  obtain ⟨y, hy⟩ : ∃ y, y = d / (gcdF n d) := ⟨_, rfl⟩
  have hb1 : -9223372036854775807 ≤ x ∧ x ≤ 9223372036854775807 := hx ▸ tdiv_in (by omega) (by omega)
  have hb2 : -9223372036854775807 ≤ y ∧ y ≤ 9223372036854775807 := hy ▸ ediv_bounds (by omega) (by omega) (by omega) (by omega)
  have hlow : lowF x y := by rw [hx, hy]; exact lowF_lowest hd.1
  have HL := hide hlow
  have HX := hide hx
  have HY := hide hy
  clear hlow hg hx hy
  go_enter Try.func49, Try.ntmps49
  go_wp2_with fail
  refine (baseLowest_any n d _ hn hd).mono ?_
  rintro e w1 ⟨rfl, hb⟩
  rw [← HX.out, ← HY.out]
  have R1 := hide ((Blk.new w _ 23 #[.int .i64 0, .int .i64 0] rfl).kept hb)
  have HB1 : Hid (Below w.heap.size w w1) := ((Below.refl _ _).alloc (Nat.le_refl _) _).trans (hb.mono (by simp))
  clear hb
  have hl1 := R1.out.lt
  go_wp2_with fail
  refine (refCheckFrac_any x y _ (by omega) (by omega)).mono ?_
  rintro e w2 ⟨rfl, hb⟩
  have R2 := hide ((R1.out.alloc _).kept hb)
  have S2 : Hid (Blk w2 w1.heap.size 23 #[.int .i64 x, .int .i64 y]) := (Blk.new w1 _ _ _ rfl).kept hb
  have HB2 : Hid (Below w.heap.size w w2) := (HB1.out.alloc HB1.out.size _).trans (hb.mono (by have := HB1.out.size; simp; omega))
  clear hb
  obtain ⟨⟨q0, q1⟩, _⟩ := S2.out.c2
  obtain ⟨⟨t0, t1⟩, f0, f1⟩ := R2.out.c2
  by_cases hok : okF x y
  · have HE : Hid (fracErr x y = 0) := (if_pos HL.out).trans (if_pos hok)
    have HV : Hid ((.tuple #[.agg #[.int .i64 (lN n d), .int .i64 (lD n d)], .int .i64 (lE n d)] : Value) = .tuple #[.agg #[.int .i64 x, .int .i64 y], .int .i64 0]) := by
      have hf : fitF n d := by unfold fitF; rw [← HX.out, ← HY.out]; exact hok
      show _ = _
      unfold lN lD lE
      rw [if_pos hf, if_pos hf, if_pos hf, ← HX.out, ← HY.out]
    clear hok
    rw [HE.out]
    go_wp2
    refine bodyPost_ret (v := .tuple #[.agg #[.int .i64 x, .int .i64 y], .int .i64 0]) (by simp [results, Try.results49, go_sem, t0, t1]) rfl ⟨by rw [HV.out], ?_⟩
    repeat (first | exact HB2.out | refine Below.setCell ?_ (by simp) _)
  · have HE : Hid (fracErr x y = 2) := (if_pos HL.out).trans (if_neg hok)
    have HV : Hid ((.tuple #[.agg #[.int .i64 (lN n d), .int .i64 (lD n d)], .int .i64 (lE n d)] : Value) = .tuple #[.agg #[.int .i64 0, .int .i64 0], .int .i64 8]) := by
      have hf : ¬ fitF n d := by unfold fitF; rw [← HX.out, ← HY.out]; exact hok
      show _ = _
      unfold lN lD lE
      rw [if_neg hf, if_neg hf, if_neg hf]
    clear hok
    rw [HE.out]
    go_wp2
    refine bodyPost_ret (v := .tuple #[.agg #[.int .i64 0, .int .i64 0], .int .i64 8]) (by simp [results, Try.results49, go_sem, t0, t1]) rfl ⟨by rw [HV.out], ?_⟩
    repeat (first | exact HB2.out | refine Below.setCell ?_ (by simp) _)
end Go.Proofs.Ytfmonpjoadjimaa
