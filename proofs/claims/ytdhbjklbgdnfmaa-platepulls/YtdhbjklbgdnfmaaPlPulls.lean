/- PROVED HERE: Rows.PlatePullsSaid: agraffelaw03.PlatePulls returns true for every input, and its arguments read behind the call as before. -/
import Derived.Test.YtdhbjklbgdnfmaaFlat
import Derived.Test.YtdhbjklbgdnfmaaPlAwake
import Derived.Test.YtdhbjklbgdnfmaaPlRefPull
namespace Go.Proofs.Ytdhbjklbgdnfmaa
open Go.ChangeShapes Go.WideShapes Go.ChangeAt Go.RowKit Go.Joins
set_option linter.unusedVariables false
set_option linter.unusedSimpArgs false

theorem root_ex' : ∀ n : Nat, ∃ r, r * r ≤ n ∧ n < (r + 1) * (r + 1)
  | 0 => ⟨0, by omega, by omega⟩
  | n + 1 => by
    obtain ⟨r, h1, h2⟩ := root_ex' n
    by_cases h : (r + 1) * (r + 1) ≤ n + 1
    · refine ⟨r + 1, h, ?_⟩
      have : (r + 1 + 1) * (r + 1 + 1) = (r + 1) * (r + 1) + 2 * (r + 1) + 1 := by
        rw [Nat.add_mul, Nat.mul_add]; omega
      omega
    · exact ⟨r, by omega, by omega⟩
theorem root_ex (n : Nat) : ∃ r, IsRoot n 2 r := by
  obtain ⟨r, h1, h2⟩ := root_ex' n
  refine ⟨r, ⟨?_, fun _ => by rw [Nat.pow_two]; exact h1, fun _ => by rw [Nat.pow_two]; exact h2⟩⟩
  rcases Nat.eq_zero_or_pos r with h | h
  · omega
  · have := Nat.mul_le_mul_right r h
    omega
theorem comp_neg (p q d s u : Int) : cmpL p q (-d) s u = -cmpH p q d s u ∧ cmpH p q (-d) s u = -cmpL p q d s u := by
  unfold cmpL cmpH
  rcases Int.lt_trichotomy d 0 with h | h | h
  · rw [if_neg (by omega), if_pos h, if_neg (by omega), if_pos h]
    simp only [Int.neg_neg, and_self]
  · subst h
    simp
  · rw [if_pos (by omega), if_neg (by omega), if_pos (by omega), if_neg (by omega)]
    simp only [Int.neg_neg, and_self]
theorem comp_pos {p q d s u : Int} (hp : 0 ≤ p ∧ p ≤ 10000000000) (hq : 0 ≤ q ∧ q ≤ 10000000000) (hpq : p ≤ q) (hd : 0 ≤ d ∧ d ≤ 1000000) (hs : 1 ≤ s) (hsu : s ≤ u) :
    cmpL p q d s u ≤ cmpH p q d s u ∧ 0 ≤ cmpL p q d s u ∧ cmpH p q d s u ≤ 1000000000000000000 := by
  obtain ⟨p0, p1⟩ := prod3 hp hd
  obtain ⟨q0, q1⟩ := prod3 hq hd
  have hm : 100 * p * d ≤ 100 * q * d := Int.mul_le_mul_of_nonneg_right (by omega) hd.1
  have e1 : cmpL p q d s u = (100 * p * d) / u := if_neg (by omega)
  have e2 : cmpH p q d s u = -((-(100 * q * d)) / s) := if_neg (by omega)
  rw [e1, e2]
  obtain ⟨A, hA⟩ : ∃ A, A = 100 * p * d := ⟨_, rfl⟩
  obtain ⟨B, hB⟩ : ∃ A, A = 100 * q * d := ⟨_, rfl⟩
  rw [← hA] at p0 p1 hm ⊢
  rw [← hB] at q0 q1 hm ⊢
  have b1 := ediv_bounds (n := -B) (m := s) (B := 1000000000000000000) hs (by omega) (by omega) (by omega)
  have f0 : 0 ≤ A / u := Int.ediv_nonneg p0 (by omega)
  have f1 : A / u * u ≤ A := Int.ediv_mul_le A (by omega)
  have c1 : (-B) / s * s ≤ -B := Int.ediv_mul_le (-B) (by omega)
  have c0 : (-B) / s ≤ 0 := by
    rcases Int.lt_or_le 0 ((-B) / s) with h | h
    · have : 1 * s ≤ (-B) / s * s := Int.mul_le_mul_of_nonneg_right (by omega) (by omega)
      omega
    · exact h
  obtain ⟨f, hf⟩ : ∃ f, f = A / u := ⟨_, rfl⟩
  obtain ⟨c, hc⟩ : ∃ f, f = (-B) / s := ⟨_, rfl⟩
  rw [← hf] at f0 f1 ⊢
  rw [← hc] at b1 c1 c0 ⊢
  refine ⟨?_, f0, by omega⟩
  rcases Int.lt_or_le (-c) f with h | h
  · exfalso
    have k1 : (-c + 1) * u ≤ f * u := Int.mul_le_mul_of_nonneg_right (by omega) (by omega)
    have k2 : -c * s ≤ -c * u := Int.mul_le_mul_of_nonneg_left hsu (by omega)
    rw [Int.add_mul, Int.one_mul] at k1
    simp only [Int.neg_mul] at k1 k2
    omega
  · exact h
theorem comp_facts {p q d s u : Int} (hp : 0 ≤ p ∧ p ≤ 10000000000) (hq : 0 ≤ q ∧ q ≤ 10000000000) (hpq : p ≤ q) (hd : -1000000 ≤ d ∧ d ≤ 1000000) (hs : 1 ≤ s) (hsu : s ≤ u) :
    cmpL p q d s u ≤ cmpH p q d s u ∧ -1000000000000000000 ≤ cmpL p q d s u ∧ cmpH p q d s u ≤ 1000000000000000000 := by
  rcases Int.lt_or_le d 0 with h | h
  · obtain ⟨h1, h2, h3⟩ := comp_pos (d := -d) hp hq hpq (by omega) hs hsu
    obtain ⟨e1, e2⟩ := comp_neg p q d s u
    rw [e1, e2] at h1
    rw [e1] at h2
    rw [e2] at h3
    omega
  · obtain ⟨h1, h2, h3⟩ := comp_pos hp hq hpq ⟨h, hd.2⟩ hs hsu
    omega
theorem sq3_neg (u v t : Int) : sq3 (-u) (-v) (-t) = sq3 u v t := by
  unfold sq3
  rw [Int.neg_mul_neg, Int.neg_mul_neg, Int.neg_mul_neg]
set_option maxHeartbeats 8000000 in
set_option maxRecDepth 100000 in
theorem platePulls_walk (lo hi a b c x y z : Int) (w : World) (h1 : -9223372036854775808 ≤ lo ∧ lo ≤ 9223372036854775807) (h2 : -9223372036854775808 ≤ hi ∧ hi ≤ 9223372036854775807) (g1 : -9223372036854775808 ≤ a ∧ a ≤ 9223372036854775807) (g2 : -9223372036854775808 ≤ b ∧ b ≤ 9223372036854775807) (g3 : -9223372036854775808 ≤ c ∧ c ≤ 9223372036854775807) (g4 : -9223372036854775808 ≤ x ∧ x ≤ 9223372036854775807) (g5 : -9223372036854775808 ≤ y ∧ y ≤ 9223372036854775807) (g6 : -9223372036854775808 ≤ z ∧ z ≤ 9223372036854775807) :
    Calls Try.prog 4 #[.agg #[.int .i64 lo, .int .i64 hi], .agg #[.int .i64 a, .int .i64 b, .int .i64 c, .int .i64 x, .int .i64 y, .int .i64 z]] w fun x w' => x = .returned (.bool true) ∧ Below w.heap.size w w' := by
  clear h1 h2 g1 g2 g3 g4 g5 g6
  by_cases hT : tenB lo hi 10000000000 = true
  · have hcs : ∀ p q r, plE p q r = 0 ∨ plE p q r = 2 := fun p q r => by unfold plE; split <;> simp
    rcases hcs a b c with hP | hP
    · rcases hcs x y z with hP2 | hP2
      · obtain ⟨p1, p2, p3⟩ := place3 hP
        obtain ⟨p4, p5, p6⟩ := place3 hP2
        by_cases hF : inV (x - a) (y - b) (z - c) 1000000 = true
        · by_cases hS : eq3 a b c x y z = true
          · have he : a = x ∧ b = y ∧ c = z := of_decide_eq_true hS
            have C1 := hide (fun W => pull_same lo hi a b c x y z _ _ _ W hT hP hP2 rfl rfl rfl hF hS)
            have C2 := hide (fun W => refPull_same lo hi a b c x y z W hT hP hP2 (by omega) (by omega) (by omega) rfl)
            clear hT hcs hP hP2 p1 p2 p3 p4 p5 p6 hF hS he
            have hn := neq6_run 0 0 0 0 0 0 0 0 0 0 0 0
            rw [eq6_self] at hn
            have L0 := hide (Lv.start w)
            go_enter Try.func4, Try.ntmps4
            go_wp2_with fail
            refine Lv.call (plAwake_any _) ((L0.out.put _ _).put _ _) ?_
            intro w1 L1'
            have L1 := hide L1'
            have F1 := L1'.at
            clear L1'
            simp only [AllAt, CellsAt, updL, List.map, Nat.zero_add, Nat.reduceAdd, and_true, World.size_alloc, World.heap_drewN, heap_drew, size_set, Nat.add_eq_left, Nat.left_eq_add, Nat.add_right_cancel_iff, ne_up2, ne_dn2, ne_up3, ne_dn3, ne_up4, ne_dn4, Nat.reduceEqDiff, Nat.one_ne_zero, Nat.succ_ne_zero, Nat.zero_ne_one, reduceIte, List.set_cons_zero, List.set_cons_succ] at F1
            go_wp2_with fail
            refine Lv.call (C1.out _) L1.out ?_
            intro w2 L2'
            have L2 := hide L2'
            have F2 := L2'.at
            clear L2' F1
            simp only [AllAt, CellsAt, updL, List.map, Nat.zero_add, Nat.reduceAdd, and_true, World.size_alloc, World.heap_drewN, heap_drew, size_set, Nat.add_eq_left, Nat.left_eq_add, Nat.add_right_cancel_iff, ne_up2, ne_dn2, ne_up3, ne_dn3, ne_up4, ne_dn4, Nat.reduceEqDiff, Nat.one_ne_zero, Nat.succ_ne_zero, Nat.zero_ne_one, reduceIte, List.set_cons_zero, List.set_cons_succ] at F2
            go_wp2_with fail
            refine Lv.call (C2.out _) (L2.out.put _ _) ?_
            intro w3 L3'
            have L3 := hide L3'
            have F3 := L3'.at
            clear L3' F2
            simp only [AllAt, CellsAt, updL, List.map, Nat.zero_add, Nat.reduceAdd, and_true, World.size_alloc, World.heap_drewN, heap_drew, size_set, Nat.add_eq_left, Nat.left_eq_add, Nat.add_right_cancel_iff, ne_up2, ne_dn2, ne_up3, ne_dn3, ne_up4, ne_dn4, Nat.reduceEqDiff, Nat.one_ne_zero, Nat.succ_ne_zero, Nat.zero_ne_one, reduceIte, List.set_cons_zero, List.set_cons_succ] at F3
            go_wp2
            go_ret
            refine ⟨rfl, ?_⟩
            repeat (first | (with_reducible exact L3.out.below) | refine Below.setCell ?_ (by first | omega | (simp; done) | (simp; omega)) _ | refine Below.alloc ?_ (by first | omega | (simp; done) | (simp; omega)) _ | refine below_drewN ?_ _ | refine Below.drew ?_)
          · have hS' : eq3 a b c x y z = false := by simpa using hS
            obtain ⟨r, hr⟩ := root_ex (sq3 (x - a) (y - b) (z - c)).toNat
            have hne : ¬ (x - a = 0 ∧ y - b = 0 ∧ z - c = 0) := fun h => hS (decide_eq_true (by omega))
            obtain ⟨u, hu⟩ : ∃ u, x - a = u := ⟨_, rfl⟩
            obtain ⟨v, hv⟩ : ∃ u, y - b = u := ⟨_, rfl⟩
            obtain ⟨t, ht⟩ : ∃ u, z - c = u := ⟨_, rfl⟩
            rw [hu, hv, ht] at hF hr hne
            have hw3 : (-1000000 ≤ u ∧ u ≤ 1000000) ∧ (-1000000 ≤ v ∧ v ≤ 1000000) ∧ (-1000000 ≤ t ∧ t ≤ 1000000) := by
              unfold inV inB at hF
              simpa only [Bool.and_eq_true, decide_eq_true_eq] using hF
            obtain ⟨w1', w2', w3'⟩ := hw3
            have hr1 := root_pos (sq3_pos hne) hr
            have C1 := fun W => pull_ok lo hi a b c x y z u v t r W hT hP hP2 hu hv ht hF hS' hr
            have C2 := fun W => refPull_ok lo hi a b c x y z u v t r W hT hP hP2 hu hv ht hF hne hr
            have hFn : inV (-u) (-v) (-t) 1000000 = true := by
              unfold inV inB
              simp only [Bool.and_eq_true, decide_eq_true_eq]
              omega
            have hSn : eq3 x y z a b c = false := decide_eq_false (fun h => of_decide_eq_false hS' ⟨h.1.symm, h.2.1.symm, h.2.2.symm⟩)
            have C3 := fun W => pull_ok lo hi x y z a b c (-u) (-v) (-t) r W hT hP2 hP (by omega) (by omega) (by omega) hFn hSn (by rw [sq3_neg]; exact hr)
            rw [sq3_neg] at C3
            have hS1 : (r : Int) ≤ upR r (sq3 u v t) := by unfold upR; split <;> omega
            obtain ⟨S, hSS⟩ : ∃ S, S = upR r (sq3 u v t) := ⟨_, rfl⟩
            rw [← hSS] at C1 C2 C3 hS1
            unfold pullV at C1 C2 C3
            rw [(comp_neg lo hi u r S).1, (comp_neg lo hi u r S).2, (comp_neg lo hi v r S).1, (comp_neg lo hi v r S).2, (comp_neg lo hi t r S).1, (comp_neg lo hi t r S).2] at C3
            obtain ⟨q1, q2, q3⟩ := ten_ok hT
            obtain ⟨f1, f2, f3⟩ := comp_facts (p := lo) (q := hi) (d := u) (s := r) (u := S) (by omega) (by omega) q2 w1' (by omega) hS1
            obtain ⟨f4, f5, f6⟩ := comp_facts (p := lo) (q := hi) (d := v) (s := r) (u := S) (by omega) (by omega) q2 w2' (by omega) hS1
            obtain ⟨f7, f8, f9⟩ := comp_facts (p := lo) (q := hi) (d := t) (s := r) (u := S) (by omega) (by omega) q2 w3' (by omega) hS1
            obtain ⟨x0, hx0⟩ : ∃ x, x = cmpL lo hi u r S := ⟨_, rfl⟩
            obtain ⟨y0, hy0⟩ : ∃ x, x = cmpH lo hi u r S := ⟨_, rfl⟩
            obtain ⟨x1, hx1⟩ : ∃ x, x = cmpL lo hi v r S := ⟨_, rfl⟩
            obtain ⟨y1, hy1⟩ : ∃ x, x = cmpH lo hi v r S := ⟨_, rfl⟩
            obtain ⟨x2, hx2⟩ : ∃ x, x = cmpL lo hi t r S := ⟨_, rfl⟩
            obtain ⟨y2, hy2⟩ : ∃ x, x = cmpH lo hi t r S := ⟨_, rfl⟩
            rw [← hx0, ← hy0, ← hx1, ← hy1, ← hx2, ← hy2] at C1 C2 C3
            rw [← hx0] at f1 f2
            rw [← hy0] at f1 f3
            rw [← hx1] at f4 f5
            rw [← hy1] at f4 f6
            rw [← hx2] at f7 f8
            rw [← hy2] at f7 f9
            replace C1 := hide C1
            replace C2 := hide C2
            replace C3 := hide C3
            have hn := neq6_run x0 y0 x1 y1 x2 y2 x0 y0 x1 y1 x2 y2
            rw [eq6_self] at hn
            have d0 : decide (y0 < x0) = false := decide_eq_false (by omega)
            have d1 : decide (y1 < x1) = false := decide_eq_false (by omega)
            have d2 : decide (y2 < x2) = false := decide_eq_false (by omega)
            have v0 : IntKind.i64.wrap (-y0) = -y0 := by rw [IntKind.wrap_i64]; omega
            have v1 : IntKind.i64.wrap (-x0) = -x0 := by rw [IntKind.wrap_i64]; omega
            have v2 : IntKind.i64.wrap (-y1) = -y1 := by rw [IntKind.wrap_i64]; omega
            have v3 : IntKind.i64.wrap (-x1) = -x1 := by rw [IntKind.wrap_i64]; omega
            have v4 : IntKind.i64.wrap (-y2) = -y2 := by rw [IntKind.wrap_i64]; omega
            have v5 : IntKind.i64.wrap (-x2) = -x2 := by rw [IntKind.wrap_i64]; omega
            clear hT hcs hP hP2 p1 p2 p3 p4 p5 p6 hF hS hS' hr hne hu hv ht hr1 hFn hSn hS1 hSS q1 q2 q3 hx0 hy0 hx1 hy1 hx2 hy2 w1' w2' w3'
            have L0 := hide (Lv.start w)
            go_enter Try.func4, Try.ntmps4
            go_wp2_with fail
            refine Lv.call (plAwake_any _) ((L0.out.put _ _).put _ _) ?_
            intro w1 L1'
            have L1 := hide L1'
            have F1 := L1'.at
            clear L1'
            simp only [AllAt, CellsAt, updL, List.map, Nat.zero_add, Nat.reduceAdd, and_true, World.size_alloc, World.heap_drewN, heap_drew, size_set, Nat.add_eq_left, Nat.left_eq_add, Nat.add_right_cancel_iff, ne_up2, ne_dn2, ne_up3, ne_dn3, ne_up4, ne_dn4, Nat.reduceEqDiff, Nat.one_ne_zero, Nat.succ_ne_zero, Nat.zero_ne_one, reduceIte, List.set_cons_zero, List.set_cons_succ] at F1
            go_wp2_with fail
            refine Lv.call (C1.out _) L1.out ?_
            intro w2 L2'
            have L2 := hide L2'
            have F2 := L2'.at
            clear L2' F1
            simp only [AllAt, CellsAt, updL, List.map, Nat.zero_add, Nat.reduceAdd, and_true, World.size_alloc, World.heap_drewN, heap_drew, size_set, Nat.add_eq_left, Nat.left_eq_add, Nat.add_right_cancel_iff, ne_up2, ne_dn2, ne_up3, ne_dn3, ne_up4, ne_dn4, Nat.reduceEqDiff, Nat.one_ne_zero, Nat.succ_ne_zero, Nat.zero_ne_one, reduceIte, List.set_cons_zero, List.set_cons_succ] at F2
            go_wp2_with fail
            refine Lv.call (C2.out _) (L2.out.put _ _) ?_
            intro w3 L3'
            have L3 := hide L3'
            have F3 := L3'.at
            clear L3' F2
            simp only [AllAt, CellsAt, updL, List.map, Nat.zero_add, Nat.reduceAdd, and_true, World.size_alloc, World.heap_drewN, heap_drew, size_set, Nat.add_eq_left, Nat.left_eq_add, Nat.add_right_cancel_iff, ne_up2, ne_dn2, ne_up3, ne_dn3, ne_up4, ne_dn4, Nat.reduceEqDiff, Nat.one_ne_zero, Nat.succ_ne_zero, Nat.zero_ne_one, reduceIte, List.set_cons_zero, List.set_cons_succ] at F3
            go_wp2_with fail
            refine Lv.call (C3.out _) (L3.out.put _ _) ?_
            intro w4 L4'
            have L4 := hide L4'
            have F4 := L4'.at
            clear L4' F3
            simp only [AllAt, CellsAt, updL, List.map, Nat.zero_add, Nat.reduceAdd, and_true, World.size_alloc, World.heap_drewN, heap_drew, size_set, Nat.add_eq_left, Nat.left_eq_add, Nat.add_right_cancel_iff, ne_up2, ne_dn2, ne_up3, ne_dn3, ne_up4, ne_dn4, Nat.reduceEqDiff, Nat.one_ne_zero, Nat.succ_ne_zero, Nat.zero_ne_one, reduceIte, List.set_cons_zero, List.set_cons_succ] at F4
            go_wp2
            refine wp_loop_rounds 4 ?_
            rw [rounds_succ]
            go_wp2
            (first | (go_quiet (fail)) | fail)
            go_wp2
            rw [rounds_succ]
            go_wp2
            (first | (go_quiet (fail)) | fail)
            go_wp2
            rw [rounds_succ]
            go_wp2
            (first | (go_quiet (fail)) | fail)
            go_wp2
            rw [rounds_succ]
            go_wp2
            go_ret
            refine ⟨rfl, ?_⟩
            repeat (first | (with_reducible exact L4.out.below) | refine Below.setCell ?_ (by first | omega | (simp; done) | (simp; omega)) _ | refine Below.alloc ?_ (by first | omega | (simp; done) | (simp; omega)) _ | refine below_drewN ?_ _ | refine Below.drew ?_)
        · have hF' : inV (x - a) (y - b) (z - c) 1000000 = false := by simpa using hF
          have C1 := hide (fun W => pull_far lo hi a b c x y z _ _ _ W hT hP hP2 rfl rfl rfl hF')
          have C2 := hide (fun W => refPull_far lo hi a b c x y z _ _ _ W hT hP hP2 rfl rfl rfl hF')
          clear hT hcs hP hP2 p1 p2 p3 p4 p5 p6 hF hF'
          have hn := neq6_run 0 0 0 0 0 0 0 0 0 0 0 0
          rw [eq6_self] at hn
          have L0 := hide (Lv.start w)
          go_enter Try.func4, Try.ntmps4
          go_wp2_with fail
          refine Lv.call (plAwake_any _) ((L0.out.put _ _).put _ _) ?_
          intro w1 L1'
          have L1 := hide L1'
          have F1 := L1'.at
          clear L1'
          simp only [AllAt, CellsAt, updL, List.map, Nat.zero_add, Nat.reduceAdd, and_true, World.size_alloc, World.heap_drewN, heap_drew, size_set, Nat.add_eq_left, Nat.left_eq_add, Nat.add_right_cancel_iff, ne_up2, ne_dn2, ne_up3, ne_dn3, ne_up4, ne_dn4, Nat.reduceEqDiff, Nat.one_ne_zero, Nat.succ_ne_zero, Nat.zero_ne_one, reduceIte, List.set_cons_zero, List.set_cons_succ] at F1
          go_wp2_with fail
          refine Lv.call (C1.out _) L1.out ?_
          intro w2 L2'
          have L2 := hide L2'
          have F2 := L2'.at
          clear L2' F1
          simp only [AllAt, CellsAt, updL, List.map, Nat.zero_add, Nat.reduceAdd, and_true, World.size_alloc, World.heap_drewN, heap_drew, size_set, Nat.add_eq_left, Nat.left_eq_add, Nat.add_right_cancel_iff, ne_up2, ne_dn2, ne_up3, ne_dn3, ne_up4, ne_dn4, Nat.reduceEqDiff, Nat.one_ne_zero, Nat.succ_ne_zero, Nat.zero_ne_one, reduceIte, List.set_cons_zero, List.set_cons_succ] at F2
          go_wp2_with fail
          refine Lv.call (C2.out _) (L2.out.put _ _) ?_
          intro w3 L3'
          have L3 := hide L3'
          have F3 := L3'.at
          clear L3' F2
          simp only [AllAt, CellsAt, updL, List.map, Nat.zero_add, Nat.reduceAdd, and_true, World.size_alloc, World.heap_drewN, heap_drew, size_set, Nat.add_eq_left, Nat.left_eq_add, Nat.add_right_cancel_iff, ne_up2, ne_dn2, ne_up3, ne_dn3, ne_up4, ne_dn4, Nat.reduceEqDiff, Nat.one_ne_zero, Nat.succ_ne_zero, Nat.zero_ne_one, reduceIte, List.set_cons_zero, List.set_cons_succ] at F3
          go_wp2
          go_ret
          refine ⟨rfl, ?_⟩
          repeat (first | (with_reducible exact L3.out.below) | refine Below.setCell ?_ (by first | omega | (simp; done) | (simp; omega)) _ | refine Below.alloc ?_ (by first | omega | (simp; done) | (simp; omega)) _ | refine below_drewN ?_ _ | refine Below.drew ?_)
      · have C1 := hide (fun W => pull_to lo hi a b c x y z W hT hP hP2)
        have C2 := hide (fun W => refPull_to lo hi a b c x y z W hT hP hP2)
        clear hT hcs hP hP2
        have hn := neq6_run 0 0 0 0 0 0 0 0 0 0 0 0
        rw [eq6_self] at hn
        have L0 := hide (Lv.start w)
        go_enter Try.func4, Try.ntmps4
        go_wp2_with fail
        refine Lv.call (plAwake_any _) ((L0.out.put _ _).put _ _) ?_
        intro w1 L1'
        have L1 := hide L1'
        have F1 := L1'.at
        clear L1'
        simp only [AllAt, CellsAt, updL, List.map, Nat.zero_add, Nat.reduceAdd, and_true, World.size_alloc, World.heap_drewN, heap_drew, size_set, Nat.add_eq_left, Nat.left_eq_add, Nat.add_right_cancel_iff, ne_up2, ne_dn2, ne_up3, ne_dn3, ne_up4, ne_dn4, Nat.reduceEqDiff, Nat.one_ne_zero, Nat.succ_ne_zero, Nat.zero_ne_one, reduceIte, List.set_cons_zero, List.set_cons_succ] at F1
        go_wp2_with fail
        refine Lv.call (C1.out _) L1.out ?_
        intro w2 L2'
        have L2 := hide L2'
        have F2 := L2'.at
        clear L2' F1
        simp only [AllAt, CellsAt, updL, List.map, Nat.zero_add, Nat.reduceAdd, and_true, World.size_alloc, World.heap_drewN, heap_drew, size_set, Nat.add_eq_left, Nat.left_eq_add, Nat.add_right_cancel_iff, ne_up2, ne_dn2, ne_up3, ne_dn3, ne_up4, ne_dn4, Nat.reduceEqDiff, Nat.one_ne_zero, Nat.succ_ne_zero, Nat.zero_ne_one, reduceIte, List.set_cons_zero, List.set_cons_succ] at F2
        go_wp2_with fail
        refine Lv.call (C2.out _) (L2.out.put _ _) ?_
        intro w3 L3'
        have L3 := hide L3'
        have F3 := L3'.at
        clear L3' F2
        simp only [AllAt, CellsAt, updL, List.map, Nat.zero_add, Nat.reduceAdd, and_true, World.size_alloc, World.heap_drewN, heap_drew, size_set, Nat.add_eq_left, Nat.left_eq_add, Nat.add_right_cancel_iff, ne_up2, ne_dn2, ne_up3, ne_dn3, ne_up4, ne_dn4, Nat.reduceEqDiff, Nat.one_ne_zero, Nat.succ_ne_zero, Nat.zero_ne_one, reduceIte, List.set_cons_zero, List.set_cons_succ] at F3
        go_wp2
        go_ret
        refine ⟨rfl, ?_⟩
        repeat (first | (with_reducible exact L3.out.below) | refine Below.setCell ?_ (by first | omega | (simp; done) | (simp; omega)) _ | refine Below.alloc ?_ (by first | omega | (simp; done) | (simp; omega)) _ | refine below_drewN ?_ _ | refine Below.drew ?_)
    · have C1 := hide (fun W => pull_from lo hi a b c x y z W hT hP)
      have C2 := hide (fun W => refPull_from lo hi a b c x y z W hT hP)
      clear hT hcs hP
      have hn := neq6_run 0 0 0 0 0 0 0 0 0 0 0 0
      rw [eq6_self] at hn
      have L0 := hide (Lv.start w)
      go_enter Try.func4, Try.ntmps4
      go_wp2_with fail
      refine Lv.call (plAwake_any _) ((L0.out.put _ _).put _ _) ?_
      intro w1 L1'
      have L1 := hide L1'
      have F1 := L1'.at
      clear L1'
      simp only [AllAt, CellsAt, updL, List.map, Nat.zero_add, Nat.reduceAdd, and_true, World.size_alloc, World.heap_drewN, heap_drew, size_set, Nat.add_eq_left, Nat.left_eq_add, Nat.add_right_cancel_iff, ne_up2, ne_dn2, ne_up3, ne_dn3, ne_up4, ne_dn4, Nat.reduceEqDiff, Nat.one_ne_zero, Nat.succ_ne_zero, Nat.zero_ne_one, reduceIte, List.set_cons_zero, List.set_cons_succ] at F1
      go_wp2_with fail
      refine Lv.call (C1.out _) L1.out ?_
      intro w2 L2'
      have L2 := hide L2'
      have F2 := L2'.at
      clear L2' F1
      simp only [AllAt, CellsAt, updL, List.map, Nat.zero_add, Nat.reduceAdd, and_true, World.size_alloc, World.heap_drewN, heap_drew, size_set, Nat.add_eq_left, Nat.left_eq_add, Nat.add_right_cancel_iff, ne_up2, ne_dn2, ne_up3, ne_dn3, ne_up4, ne_dn4, Nat.reduceEqDiff, Nat.one_ne_zero, Nat.succ_ne_zero, Nat.zero_ne_one, reduceIte, List.set_cons_zero, List.set_cons_succ] at F2
      go_wp2_with fail
      refine Lv.call (C2.out _) (L2.out.put _ _) ?_
      intro w3 L3'
      have L3 := hide L3'
      have F3 := L3'.at
      clear L3' F2
      simp only [AllAt, CellsAt, updL, List.map, Nat.zero_add, Nat.reduceAdd, and_true, World.size_alloc, World.heap_drewN, heap_drew, size_set, Nat.add_eq_left, Nat.left_eq_add, Nat.add_right_cancel_iff, ne_up2, ne_dn2, ne_up3, ne_dn3, ne_up4, ne_dn4, Nat.reduceEqDiff, Nat.one_ne_zero, Nat.succ_ne_zero, Nat.zero_ne_one, reduceIte, List.set_cons_zero, List.set_cons_succ] at F3
      go_wp2
      go_ret
      refine ⟨rfl, ?_⟩
      repeat (first | (with_reducible exact L3.out.below) | refine Below.setCell ?_ (by first | omega | (simp; done) | (simp; omega)) _ | refine Below.alloc ?_ (by first | omega | (simp; done) | (simp; omega)) _ | refine below_drewN ?_ _ | refine Below.drew ?_)
  · have hT' : tenB lo hi 10000000000 = false := by simpa using hT
    have C1 := hide (fun W => pull_slack lo hi a b c x y z W hT')
    have C2 := hide (fun W => refPull_slack lo hi a b c x y z W hT')
    clear hT hT'
    have hn := neq6_run 0 0 0 0 0 0 0 0 0 0 0 0
    rw [eq6_self] at hn
    have L0 := hide (Lv.start w)
    go_enter Try.func4, Try.ntmps4
    go_wp2_with fail
    refine Lv.call (plAwake_any _) ((L0.out.put _ _).put _ _) ?_
    intro w1 L1'
    have L1 := hide L1'
    have F1 := L1'.at
    clear L1'
    simp only [AllAt, CellsAt, updL, List.map, Nat.zero_add, Nat.reduceAdd, and_true, World.size_alloc, World.heap_drewN, heap_drew, size_set, Nat.add_eq_left, Nat.left_eq_add, Nat.add_right_cancel_iff, ne_up2, ne_dn2, ne_up3, ne_dn3, ne_up4, ne_dn4, Nat.reduceEqDiff, Nat.one_ne_zero, Nat.succ_ne_zero, Nat.zero_ne_one, reduceIte, List.set_cons_zero, List.set_cons_succ] at F1
    go_wp2_with fail
    refine Lv.call (C1.out _) L1.out ?_
    intro w2 L2'
    have L2 := hide L2'
    have F2 := L2'.at
    clear L2' F1
    simp only [AllAt, CellsAt, updL, List.map, Nat.zero_add, Nat.reduceAdd, and_true, World.size_alloc, World.heap_drewN, heap_drew, size_set, Nat.add_eq_left, Nat.left_eq_add, Nat.add_right_cancel_iff, ne_up2, ne_dn2, ne_up3, ne_dn3, ne_up4, ne_dn4, Nat.reduceEqDiff, Nat.one_ne_zero, Nat.succ_ne_zero, Nat.zero_ne_one, reduceIte, List.set_cons_zero, List.set_cons_succ] at F2
    go_wp2_with fail
    refine Lv.call (C2.out _) (L2.out.put _ _) ?_
    intro w3 L3'
    have L3 := hide L3'
    have F3 := L3'.at
    clear L3' F2
    simp only [AllAt, CellsAt, updL, List.map, Nat.zero_add, Nat.reduceAdd, and_true, World.size_alloc, World.heap_drewN, heap_drew, size_set, Nat.add_eq_left, Nat.left_eq_add, Nat.add_right_cancel_iff, ne_up2, ne_dn2, ne_up3, ne_dn3, ne_up4, ne_dn4, Nat.reduceEqDiff, Nat.one_ne_zero, Nat.succ_ne_zero, Nat.zero_ne_one, reduceIte, List.set_cons_zero, List.set_cons_succ] at F3
    go_wp2
    go_ret
    refine ⟨rfl, ?_⟩
    repeat (first | (with_reducible exact L3.out.below) | refine Below.setCell ?_ (by first | omega | (simp; done) | (simp; omega)) _ | refine Below.alloc ?_ (by first | omega | (simp; done) | (simp; omega)) _ | refine below_drewN ?_ _ | refine Below.drew ?_)
set_option maxRecDepth 100000 in
theorem platePulls_lifted (os : Os) (started : os.Started) (H : Type) (enc : TypeId × Value → H) :
    ReturnsInHanded {} Try.checked os 4 .any (Rows.platePullsSpec.pre6 enc Try.prog Try.f4 Rows.platePullsRow.domain false) (Rows.platePullsSpec.post enc Try.prog Try.f4 false true false false) := by
  refine returnsInHanded_of_change (C := Try.checked) (by kernel_rfl) started (by kernel_rfl) Try.func4
    (ChangeSpec.witness6 (enc := enc) (C := Try.checked) false ⟨#[], #[.agg #[.int .i64 0, .int .i64 0], .agg #[.int .i64 0, .int .i64 0, .int .i64 0, .int .i64 0, .int .i64 0, .int .i64 0]], []⟩ 8 (by kernel_rfl) (by kernel_rfl) (by kernel_rfl) (by kernel_rfl)) ?_
  intro W base args ds gs before hval0 hW hcnd _
  have hval : ∀ (j : Nat) t v, Try.f4.params[j]? = some t → args[j]? = some v → Value.okWide Try.prog W .any base t v := hval0
  have hW' := hW
  obtain ⟨p, q, hA0, hV, rfl, hfz, hnd⟩ := hW
  have hA : DataW.TrodAll enc Try.prog W 0 (fun _ => true) true Try.f4.params.toList args.toList ds p := hA0
  rw [Try.params4] at hA hval
  obtain ⟨v0, vs0, d0, ds0, p0, q0, hargs, rfl, rfl, h0, r0⟩ := trodAll_cons hA
  obtain ⟨v1, vs1, d1, ds1, p1, q1, rfl, rfl, rfl, h1, r1⟩ := trodAll_cons r0
  obtain ⟨rfl, rfl, rfl⟩ := trodAll_nil r1
  obtain rfl : args = #[v0, v1] := by cases args; simp_all
  obtain ⟨rfl, rfl⟩ := trodVars_none hV
  obtain ⟨c0_0, c0_1, y0_0, y0_1, m0, rfl, rfl, rfl, hy0_0, hy0_1⟩ := open_agg2 Try.underlying40 (by kernel_rfl) (by kernel_rfl) (hval 0 40 v0 rfl rfl) h0
  obtain ⟨lo, e_lo, rfl, w_lo⟩ := DataW.trod_int Try.underlying3 hy0_0
  obtain ⟨hi, e_hi, rfl, w_hi⟩ := DataW.trod_int Try.underlying3 hy0_1
  simp at e_lo e_hi
  subst e_lo e_hi
  obtain ⟨zs_1, rfl, zl_1, zb_1⟩ := flat_open (k := 6) (n := 6) Try.underlying42 (by kernel_rfl) (by kernel_rfl) (hval 1 42 v1 rfl rfl) h1
  obtain ⟨a, b, c, x, y, z, rfl⟩ := len6 zl_1
  clear hval0
  have hWW := hW'
  refine (platePulls_walk lo hi a b c x y z W (wfI w_lo) (wfI w_hi) (zb_1 a (by simp)) (zb_1 b (by simp)) (zb_1 c (by simp)) (zb_1 x (by simp)) (zb_1 y (by simp)) (zb_1 z (by simp))).mono fun e W' ⟨he, hb⟩ => ?_
  subst he
  exact ⟨_, rfl, law_post (pa := [] ++ (p1 ++ [])) (pv := []) hWW (fun _ _ _ => (trodAll_cons_mk (shut_bool Try.underlying4 _) trodAll_mk0)) (fun sp hsp => args_back (by kernel_rfl) _ _ _ _ (by kernel_rfl) hA0 (fun x hx => hb.same (hWW.lt x (List.mem_append_left _ hx))) (fun x hx => hsp x (List.mem_append_left _ hx))) (fun _ _ => rfl) rfl hb⟩

theorem platePulls_holds : Rows.PlatePullsSaid :=
  OpenClaim.holds_of_wide 4 Try.f4 rfl rfl rfl rfl rfl rfl rfl ⟨rfl, rfl, rfl, rfl, rfl⟩ rfl rfl rfl rfl rfl (by kernel_rfl) Try.func4 (by kernel_rfl)
    (of_decide_eq_true (by kernel_rfl)) (by unfold Func.isWrapper; first | (rw [if_pos (by decide +kernel)]; kernel_rfl) | (rw [if_neg (by decide +kernel)]; exact ⟨rfl, rfl⟩))
    (fun os started H enc _ => platePulls_lifted os started H enc)
end Go.Proofs.Ytdhbjklbgdnfmaa
