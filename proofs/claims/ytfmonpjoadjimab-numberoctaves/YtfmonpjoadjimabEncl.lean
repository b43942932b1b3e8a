/- Contracts of number.Enclose: the enclosure by the pitch's own exponents, or the errors. -/
import Derived.Test.YtfmonpjoadjimabEncV
namespace Go.Proofs.Ytfmonpjoadjimab
open Go.RowKit
set_option linter.unusedVariables false
set_option linter.unusedSimpArgs false

theorem dvd_gcdP (a b c d : Int) : ((gcdP a b c d : Nat) : Int) ∣ a ∧ ((gcdP a b c d : Nat) : Int) ∣ b ∧ ((gcdP a b c d : Nat) : Int) ∣ c ∧ ((gcdP a b c d : Nat) : Int) ∣ d := by
  have e : gcdP a b c d = Nat.gcd (Nat.gcd (Nat.gcd a.natAbs b.natAbs) c.natAbs) d.natAbs := by
    unfold gcdP gcdAll
    simp only [List.foldl, Nat.gcd_zero_left]
  have k0 : gcdP a b c d ∣ Nat.gcd (Nat.gcd a.natAbs b.natAbs) c.natAbs := by rw [e]; exact Nat.gcd_dvd_left _ _
  have k1 : gcdP a b c d ∣ a.natAbs := Nat.dvd_trans k0 (Nat.dvd_trans (Nat.gcd_dvd_left _ _) (Nat.gcd_dvd_left _ _))
  have k2 : gcdP a b c d ∣ b.natAbs := Nat.dvd_trans k0 (Nat.dvd_trans (Nat.gcd_dvd_left _ _) (Nat.gcd_dvd_right _ _))
  have k3 : gcdP a b c d ∣ c.natAbs := Nat.dvd_trans k0 (Nat.gcd_dvd_right _ _)
  have k4 : gcdP a b c d ∣ d.natAbs := by rw [e]; exact Nat.gcd_dvd_right _ _
  exact ⟨Int.natAbs_dvd_natAbs.1 (by simpa using k1), Int.natAbs_dvd_natAbs.1 (by simpa using k2), Int.natAbs_dvd_natAbs.1 (by simpa using k3), Int.natAbs_dvd_natAbs.1 (by simpa using k4)⟩
theorem sides_scale (g : Nat) (hg : 1 ≤ g) (x y z : Int) : upTo ((g : Int) * x) ((g : Int) * y) ((g : Int) * z) 3 = upTo x y z 3 ^ g ∧ dnTo ((g : Int) * x) ((g : Int) * y) ((g : Int) * z) 3 = dnTo x y z 3 ^ g := by
  rw [upTo3, dnTo3, upTo3, dnTo3, upN_scale g hg, upN_scale g hg, upN_scale g hg, dnN_scale g hg, dnN_scale g hg, dnN_scale g hg, ← Nat.mul_pow, ← Nat.mul_pow, ← Nat.mul_pow, ← Nat.mul_pow]
  exact ⟨rfl, rfl⟩

theorem encl_ok (a b c : Int) (d T : Nat) (w : World) (h : okP a b c d) (hT1 : 1 ≤ T) (hT : T ≤ 1000000000) :
    Calls Try.prog 18 #[.agg #[.int .i64 a, .int .i64 b, .int .i64 c, .int .i64 d], .int .i64 T] w (RefEncDone w d (dnTo a b c 3) (upTo a b c 3 * T ^ d)) := by
  have hd1 : 1 ≤ d := by have := h.1.1; omega
  have hf := fit_of_ok h
  have hg := gcdP_pos (a := a) (b := b) (c := c) (show (1 : Int) ≤ (d : Int) by omega)
  obtain ⟨u1, u2, u3, u4⟩ := dvd_gcdP a b c d
  obtain ⟨g, hge⟩ : ∃ g, g = gcdP a b c d := ⟨_, rfl⟩
  have e2 : p2 a b c d = a.tdiv g := by unfold p2; rw [if_pos hf, hge]
  have e3 : p3 a b c d = b.tdiv g := by unfold p3; rw [if_pos hf, hge]
  have e5 : p5 a b c d = c.tdiv g := by unfold p5; rw [if_pos hf, hge]
  rw [← hge] at hg u1 u2 u3 u4
  have k4 : g ∣ d := Int.natCast_dvd_natCast.1 u4
  have ed : pd a b c d = ((d / g : Nat) : Int) := by unfold pd; rw [if_pos hf, ← hge]; rfl
  have h0 := enclose_core a b c d (a.tdiv g) (b.tdiv g) (c.tdiv g) (d / g) T w h e2 e3 e5 ed hT1 hT
  have s1 := Int.mul_tdiv_cancel' u1
  have s2 := Int.mul_tdiv_cancel' u2
  have s3 := Int.mul_tdiv_cancel' u3
  have s4 : g * (d / g) = d := Nat.mul_div_cancel' k4
  obtain ⟨sU, sD⟩ := sides_scale g hg (a.tdiv g) (b.tdiv g) (c.tdiv g)
  rw [s1, s2, s3] at sU sD
  have conv : ∀ lo hi e : Int, EncV (d / g) (dnTo (a.tdiv g) (b.tdiv g) (c.tdiv g) 3) (upTo (a.tdiv g) (b.tdiv g) (c.tdiv g) 3 * T ^ (d / g)) lo hi e → EncV d (dnTo a b c 3) (upTo a b c 3 * T ^ d) lo hi e := fun lo hi e hv => by
    have h1 := hv.scale hg
    rw [Nat.mul_pow, ← Nat.pow_mul, Nat.mul_comm (d / g) g, s4, ← sU, ← sD] at h1
    exact h1
  refine h0.mono fun e w' ⟨hb, n, n1, n2, n3, n4⟩ => ?_
  rcases n4 with ⟨a1, he⟩ | ⟨a1, a2, he⟩ | ⟨a1, a2, he⟩
  · exact ⟨n, n, 0, he, conv _ _ _ ⟨n, n1, n2, n3, Or.inl ⟨a1, rfl, rfl, rfl⟩⟩, hb⟩
  · exact ⟨n, (n : Int) + 1, 0, he, conv _ _ _ ⟨n, n1, n2, n3, Or.inr (Or.inl ⟨a1, a2, rfl, rfl, rfl⟩)⟩, hb⟩
  · exact ⟨0, 0, 8, he, conv _ _ _ ⟨n, n1, n2, n3, Or.inr (Or.inr ⟨a1, a2, rfl, rfl, rfl⟩)⟩, hb⟩

def rangeR (a b e : Int) : Value := .tuple #[.agg #[.int .i64 a, .int .i64 b], .int .i64 e]
set_option maxHeartbeats 1000000 in
set_option maxRecDepth 100000 in
theorem encl_badp (a b c d T : Int) (w : World) (h : ¬ okP a b c d) :
    Calls Try.prog 18 #[.agg #[.int .i64 a, .int .i64 b, .int .i64 c, .int .i64 d], .int .i64 T] w fun e w' => e = .returned (rangeR 0 0 2) ∧ Below w.heap.size w w' := by
  have H := hide h
  clear h
  have L0 := hide (Lv.start w)
  go_enter Try.func18, Try.ntmps18
  go_wp2_with fail
  refine Lv.call (normal_bad a b c d _ H.out) ((L0.out.put _ _).put _ _) ?_
  intro w2 L2'
  have L2 := hide L2'
  have F2 := L2'.at
  clear L2'
  simp only [AllAt, CellsAt, updL, List.map, Nat.zero_add, Nat.reduceAdd, and_true, World.size_alloc, World.heap_drewN, heap_drew, size_set, Nat.add_eq_left, Nat.left_eq_add, Nat.add_right_cancel_iff, Nat.reduceEqDiff, Nat.one_ne_zero, Nat.succ_ne_zero, Nat.zero_ne_one, reduceIte, List.set_cons_zero, List.set_cons_succ] at F2
  unfold pitchV
  go_wp2
  refine bodyPost_ret (v := rangeR 0 0 2) (by simp [results, Try.results18, go_sem, F2, rangeR]) rfl ⟨rfl, ?_⟩
  repeat (first | (with_reducible exact L2.out.below) | refine Below.setCell ?_ (by first | omega | (simp; done) | (simp; omega)) _ | refine Below.alloc ?_ (by first | omega | (simp; done) | (simp; omega)) _ | refine below_drewN ?_ _ | refine Below.drew ?_)
set_option maxHeartbeats 1000000 in
set_option maxRecDepth 100000 in
theorem encl_badt (a b c d T : Int) (w : World) (h : okP a b c d) (hT : ¬ (1 ≤ T ∧ T ≤ 1000000000)) :
    Calls Try.prog 18 #[.agg #[.int .i64 a, .int .i64 b, .int .i64 c, .int .i64 d], .int .i64 T] w fun e w' => e = .returned (rangeR 0 0 2) ∧ Below w.heap.size w w' := by
  have C1 := normal_good a b c d
  rw [(parts_ok h).2] at C1
  have HC := hide (fun W => C1 W h)
  clear C1 h
  obtain ⟨x, hx⟩ : ∃ x, x = p2 a b c d := ⟨_, rfl⟩
  obtain ⟨y, hy⟩ : ∃ x, x = p3 a b c d := ⟨_, rfl⟩
  obtain ⟨z, hz⟩ : ∃ x, x = p5 a b c d := ⟨_, rfl⟩
  obtain ⟨u, hu⟩ : ∃ x, x = pd a b c d := ⟨_, rfl⟩
  rw [← hx, ← hy, ← hz, ← hu] at HC
  clear hx hy hz hu
  have L0 := hide (Lv.start w)
  by_cases h1 : T < 1
  · go_enter Try.func18, Try.ntmps18
    go_wp2_with fail
    refine Lv.call (HC.out _) ((L0.out.put _ _).put _ _) ?_
    intro w2 L2'
    have L2 := hide L2'
    have F2 := L2'.at
    clear L2'
    simp only [AllAt, CellsAt, updL, List.map, Nat.zero_add, Nat.reduceAdd, and_true, World.size_alloc, World.heap_drewN, heap_drew, size_set, Nat.add_eq_left, Nat.left_eq_add, Nat.add_right_cancel_iff, Nat.reduceEqDiff, Nat.one_ne_zero, Nat.succ_ne_zero, Nat.zero_ne_one, reduceIte, List.set_cons_zero, List.set_cons_succ] at F2
    go_wp2
    refine bodyPost_ret (v := rangeR 0 0 2) (by simp [results, Try.results18, go_sem, F2, rangeR]) rfl ⟨rfl, ?_⟩
    repeat (first | (with_reducible exact L2.out.below) | refine Below.setCell ?_ (by first | omega | (simp; done) | (simp; omega)) _ | refine Below.alloc ?_ (by first | omega | (simp; done) | (simp; omega)) _ | refine below_drewN ?_ _ | refine Below.drew ?_)
  · have h2 : 1000000000 < T := by omega
    clear hT
    go_enter Try.func18, Try.ntmps18
    go_wp2_with fail
    refine Lv.call (HC.out _) ((L0.out.put _ _).put _ _) ?_
    intro w2 L2'
    have L2 := hide L2'
    have F2 := L2'.at
    clear L2'
    simp only [AllAt, CellsAt, updL, List.map, Nat.zero_add, Nat.reduceAdd, and_true, World.size_alloc, World.heap_drewN, heap_drew, size_set, Nat.add_eq_left, Nat.left_eq_add, Nat.add_right_cancel_iff, Nat.reduceEqDiff, Nat.one_ne_zero, Nat.succ_ne_zero, Nat.zero_ne_one, reduceIte, List.set_cons_zero, List.set_cons_succ] at F2
    go_wp2
    refine bodyPost_ret (v := rangeR 0 0 2) (by simp [results, Try.results18, go_sem, F2, rangeR]) rfl ⟨rfl, ?_⟩
    repeat (first | (with_reducible exact L2.out.below) | refine Below.setCell ?_ (by first | omega | (simp; done) | (simp; omega)) _ | refine Below.alloc ?_ (by first | omega | (simp; done) | (simp; omega)) _ | refine below_drewN ?_ _ | refine Below.drew ?_)
end Go.Proofs.Ytfmonpjoadjimab
