/- Contracts of (number.exponents).against1, number.Order and agraffelaw01.near. Bounds are premises of each theorem. -/
import Derived.Test.YtfmonpjoadjimabJoins
import Derived.Test.YtfmonpjoadjimabSgn
import Derived.Test.YtfmonpjoadjimabAgainst
import Derived.Test.YtfmonpjoadjimabSolve
import Derived.ChangeKeysEq
namespace Go.Proofs.Ytfmonpjoadjimab
open Go.RowKit
set_option linter.unusedVariables false
set_option linter.unusedSimpArgs false

theorem eql_exps (x y z : Int) (w : World) : (binOp .eql 90 (.agg #[.int .i64 x, .int .i64 y, .int .i64 z]) (.agg #[.int .i64 0, .int .i64 0, .int .i64 0])).run Try.prog w = .ok (.bool ((x == 0) && ((y == 0) && (z == 0)))) w := by
  obtain ⟨i, hi, _, _, _⟩ := info_parts info_int
  have hc : Try.prog.cellsOf 3 = 1 := by kernel_rfl
  rw [run_eql_struct, run_equalIn_array w 9999 (n := 3) (e := 3) _ _ Try.underlying90 hi, hc]
  have hr : List.range 3 = [0, 1, 2] := rfl
  rw [hr]
  simp only [Op.eqItems, Sem.run_bind]
  simp [go_sem]
  by_cases hx : x = 0
  · by_cases hy : y = 0
    · by_cases hz : z = 0 <;> simp [hx, hy, hz]
    · simp [hx, hy]
  · simp [hx]

theorem commonDivisor3 (b cap : Nat) (t : TypeId) (x y z : Int) (g : Nat) (w : World) (hB : Blk w b t #[.int .i64 x, .int .i64 y, .int .i64 z]) (hx : -10000 ≤ x ∧ x ≤ 10000) (hy : -10000 ≤ y ∧ y ≤ 10000) (hz : -10000 ≤ z ∧ z ≤ 10000) (hg : gcdAll [x, y, z] = g) :
    Calls Try.prog 90 #[.slice (some ⟨b, 0, none⟩) 3 cap] w fun e w' => e = .returned (.int .i64 (g : Int)) ∧ Below w.heap.size w w' := by
  have hl : gcdAll [x, y, z] ≤ 10000 := foldl_gcd_le _ 0 (by omega) (fun v hv => by simp at hv; omega)
  rw [← hg]
  refine (commonDivisor_any b 3 cap [x, y, z] w rfl (by omega) (fun j hj => ?_) (fun v hv => ?_) (by omega)).mono fun e w' ⟨he, n, hn⟩ => ⟨he, hn ▸ below_drewN (Below.refl _ _) n⟩
  · rw [hB.cell j]
    match j, hj with
    | 0, _ => rfl
    | 1, _ => rfl
    | 2, _ => rfl
  · simp at hv; omega
theorem gcd3_facts (x y z : Int) (h : ¬ (x = 0 ∧ y = 0 ∧ z = 0)) : 1 ≤ gcdAll [x, y, z] ∧ ((gcdAll [x, y, z] : Nat) : Int) ∣ x ∧ ((gcdAll [x, y, z] : Nat) : Int) ∣ y ∧ ((gcdAll [x, y, z] : Nat) : Int) ∣ z := by
  have e : gcdAll [x, y, z] = Nat.gcd (Nat.gcd x.natAbs y.natAbs) z.natAbs := by unfold gcdAll; simp only [List.foldl, Nat.gcd_zero_left]
  have k3 : gcdAll [x, y, z] ∣ z.natAbs := by rw [e]; exact Nat.gcd_dvd_right _ _
  have k1 : gcdAll [x, y, z] ∣ x.natAbs := by rw [e]; exact Nat.dvd_trans (Nat.gcd_dvd_left _ _) (Nat.gcd_dvd_left _ _)
  have k2 : gcdAll [x, y, z] ∣ y.natAbs := by rw [e]; exact Nat.dvd_trans (Nat.gcd_dvd_left _ _) (Nat.gcd_dvd_right _ _)
  refine ⟨?_, Int.natAbs_dvd_natAbs.1 (by simpa using k1), Int.natAbs_dvd_natAbs.1 (by simpa using k2), Int.natAbs_dvd_natAbs.1 (by simpa using k3)⟩
  rcases Nat.eq_zero_or_pos (gcdAll [x, y, z]) with h0 | h0
  · rw [h0] at k1 k2 k3
    have := Nat.eq_zero_of_zero_dvd k1
    have := Nat.eq_zero_of_zero_dvd k2
    have := Nat.eq_zero_of_zero_dvd k3
    exact absurd ⟨by omega, by omega, by omega⟩ h
  · exact h0

set_option maxHeartbeats 2000000 in
set_option maxRecDepth 100000 in
theorem against1_any (x y z : Int) (w : World) (hx : -10000 ≤ x ∧ x ≤ 10000) (hy : -10000 ≤ y ∧ y ≤ 10000) (hz : -10000 ≤ z ∧ z ≤ 10000) :
    Calls Try.prog 49 #[.agg #[.int .i64 x, .int .i64 y, .int .i64 z]] w fun r w' => r = .returned (.int .i64 (sgn x y z)) ∧ Below w.heap.size w w' := by
  have heq := fun W => eql_exps x y z W
  have L0 := hide (Lv.start w)
  by_cases h0 : x = 0 ∧ y = 0 ∧ z = 0
  · obtain ⟨rfl, rfl, rfl⟩ := h0
    have HS := hide sgn_zero
    go_enter Try.func49, Try.ntmps49
    go_wp2
    go_ret
    refine ⟨ret_int HS.out.symm, ?_⟩
    repeat (first | (with_reducible exact L0.out.below) | refine Below.setCell ?_ (by first | omega | (simp; done) | (simp; omega)) _ | refine Below.alloc ?_ (by first | omega | (simp; done) | (simp; omega)) _ | refine below_drewN ?_ _ | refine Below.drew ?_)
  · have hb : (x == 0 && (y == 0 && z == 0)) = false := by
      rw [Bool.eq_false_iff]
      intro h
      simp at h
      exact h0 h
    obtain ⟨hg1, d1, d2, d3⟩ := gcd3_facts x y z h0
    have hgl : gcdAll [x, y, z] ≤ 10000 := foldl_gcd_le _ 0 (by omega) (fun v hv => by simp at hv; omega)
    have HS := hide (sgn_div _ hg1 x y z d1 d2 d3)
    obtain ⟨g, hg⟩ : ∃ g, gcdAll [x, y, z] = g := ⟨_, rfl⟩
    rw [hg] at hg1 HS hgl
    have HG := hide hg
    clear hg d1 d2 d3 h0
    have b1 : -10000 ≤ x.tdiv g ∧ x.tdiv g ≤ 10000 := tdiv_le (by omega) hx
    have b2 : -10000 ≤ y.tdiv g ∧ y.tdiv g ≤ 10000 := tdiv_le (by omega) hy
    have b3 : -10000 ≤ z.tdiv g ∧ z.tdiv g ≤ 10000 := tdiv_le (by omega) hz
    have ng : ¬ (g : Int) = 0 := by omega
    have ng' : ¬ g = 0 := by omega
    rw [hb] at heq
    clear hb
    go_enter Try.func49, Try.ntmps49
    go_wp2_with fail
    refine Lv.call (commonDivisor3 _ 3 _ x y z g _ (Blk.new _ _ _ _ (by simp)) hx hy hz HG.out) ((L0.out.put _ _).put _ _) ?_
    intro w2 L2'
    have L2 := hide L2'
    have F2 := L2'.at
    clear L2'
    simp only [AllAt, CellsAt, updL, List.map, Nat.zero_add, Nat.reduceAdd, and_true, World.size_alloc, World.heap_drewN, heap_drew, size_set, Nat.add_eq_left, Nat.left_eq_add, Nat.add_right_cancel_iff, Nat.reduceEqDiff, Nat.one_ne_zero, Nat.succ_ne_zero, Nat.zero_ne_one, reduceIte, List.set_cons_zero, List.set_cons_succ] at F2
    clear heq
    go_wp2
    go_loopw [18] (fun i wr => (i = .int .i64 0 ∧ Hid (Lv w wr [(w.heap.size, 90, [.int .i64 x, .int .i64 y, .int .i64 z])])) ∨ (i = .int .i64 1 ∧ Hid (Lv w wr [(w.heap.size, 90, [.int .i64 (x.tdiv g), .int .i64 y, .int .i64 z])])) ∨
      (i = .int .i64 2 ∧ Hid (Lv w wr [(w.heap.size, 90, [.int .i64 (x.tdiv g), .int .i64 (y.tdiv g), .int .i64 z])])) ∨ (i = .int .i64 3 ∧ Hid (Lv w wr [(w.heap.size, 90, [.int .i64 (x.tdiv g), .int .i64 (y.tdiv g), .int .i64 (z.tdiv g)])]))) (fun i _ => 3 - (intOf i).toNat)
    case atStart => exact Or.inl ⟨rfl, hide (L2.out.of (by simp))⟩
    case round =>
      clear L2 F2
      rcases hrel with ⟨rfl, L1⟩ | ⟨rfl, L1⟩ | ⟨rfl, L1⟩ | ⟨rfl, L1⟩
      · have F1 := L1.out.at
        simp only [AllAt, CellsAt, updL, List.map, Nat.zero_add, Nat.reduceAdd, and_true, World.size_alloc, World.heap_drewN, heap_drew, size_set, Nat.add_eq_left, Nat.left_eq_add, Nat.add_right_cancel_iff, Nat.reduceEqDiff, Nat.one_ne_zero, Nat.succ_ne_zero, Nat.zero_ne_one, reduceIte, List.set_cons_zero, List.set_cons_succ] at F1
        go_wp2
        go_roundw
        case rel =>
          have h9 := L1.out.set w.heap.size 0 (.int .i64 (x.tdiv g)) (Nat.le_refl _)
          refine Or.inr (Or.inl ⟨rfl, hide ?_⟩)
          simpa [updL] using h9
        case measure => simp [intOf]
      · have F1 := L1.out.at
        simp only [AllAt, CellsAt, updL, List.map, Nat.zero_add, Nat.reduceAdd, and_true, World.size_alloc, World.heap_drewN, heap_drew, size_set, Nat.add_eq_left, Nat.left_eq_add, Nat.add_right_cancel_iff, Nat.reduceEqDiff, Nat.one_ne_zero, Nat.succ_ne_zero, Nat.zero_ne_one, reduceIte, List.set_cons_zero, List.set_cons_succ] at F1
        go_wp2
        go_roundw
        case rel =>
          have h9 := L1.out.set w.heap.size 1 (.int .i64 (y.tdiv g)) (Nat.le_refl _)
          refine Or.inr (Or.inr (Or.inl ⟨rfl, hide ?_⟩))
          simpa [updL] using h9
        case measure => simp [intOf]
      · have F1 := L1.out.at
        simp only [AllAt, CellsAt, updL, List.map, Nat.zero_add, Nat.reduceAdd, and_true, World.size_alloc, World.heap_drewN, heap_drew, size_set, Nat.add_eq_left, Nat.left_eq_add, Nat.add_right_cancel_iff, Nat.reduceEqDiff, Nat.one_ne_zero, Nat.succ_ne_zero, Nat.zero_ne_one, reduceIte, List.set_cons_zero, List.set_cons_succ] at F1
        go_wp2
        go_roundw
        case rel =>
          have h9 := L1.out.set w.heap.size 2 (.int .i64 (z.tdiv g)) (Nat.le_refl _)
          refine Or.inr (Or.inr (Or.inr ⟨rfl, hide ?_⟩))
          simpa [updL] using h9
        case measure => simp [intOf]
      · have F1 := L1.out.at
        simp only [AllAt, CellsAt, updL, List.map, Nat.zero_add, Nat.reduceAdd, and_true, World.size_alloc, World.heap_drewN, heap_drew, size_set, Nat.add_eq_left, Nat.left_eq_add, Nat.add_right_cancel_iff, Nat.reduceEqDiff, Nat.one_ne_zero, Nat.succ_ne_zero, Nat.zero_ne_one, reduceIte, List.set_cons_zero, List.set_cons_succ] at F1
        obtain ⟨u, hu⟩ : ∃ u, u = x.tdiv g := ⟨_, rfl⟩
        obtain ⟨v, hv⟩ : ∃ u, u = y.tdiv g := ⟨_, rfl⟩
        obtain ⟨t, ht⟩ : ∃ u, u = z.tdiv g := ⟨_, rfl⟩
        rw [← hu] at b1 F1 HS
        rw [← hv] at b2 F1 HS
        rw [← ht] at b3 F1 HS
        clear hu hv ht
        go_wp2_with fail
        refine (sides_slices u v t _ b1 b2 b3).mono ?_
        rintro r w2 ⟨A, n, ca, B, nb, cb, rfl, hB⟩
        have HB := hide hB
        have HW := hide (L1.out.below.trans (hB.below.mono L1.out.size))
        clear hB F1
        go_wp2_with fail
        refine (compare_any _ _ _ _ _ _ _ _ _ HB.out.a HB.out.b (by omega)).mono ?_
        rintro r w3 ⟨rfl, k, rfl⟩
        have HF : Hid (cmpI (upTo u v t 3) (dnTo u v t 3) = sgn x y z) := HS.out
        rw [HF.out]
        go_wp2
        go_ret
        exact ⟨rfl, below_drewN HW.out k⟩

theorem jn_ok {x h y d : Int} (hx : okE x) (hy : okE y) (hh : 1 ≤ h ∧ h ≤ 12) (hd : 1 ≤ d ∧ d ≤ 12) : -10000 ≤ jn x h (-1) y d ∧ jn x h (-1) y d ≤ 10000 := by
  unfold okE at hx hy
  have h1 := mul_bound (x := x) (y := h) 400 12 (by omega) (by omega)
  have h3 := mul_bound (x := -1 * y) (y := d) 400 12 (by omega) (by omega)
  rw [show (400 * 12 : Nat) = 4800 from rfl] at h1 h3
  unfold jn
  omega
set_option maxHeartbeats 2000000 in
set_option maxRecDepth 100000 in
theorem order_ok (a b c d e f g h : Int) (w : World) (hp : okP a b c d) (hq : okP e f g h) :
    Calls Try.prog 14 #[.agg #[.int .i64 a, .int .i64 b, .int .i64 c, .int .i64 d], .agg #[.int .i64 e, .int .i64 f, .int .i64 g, .int .i64 h]] w
      fun r w' => r = .returned (.tuple #[.int .i64 (sgn (jn a h (-1) e d) (jn b h (-1) f d) (jn c h (-1) g d)), .int .i64 0]) ∧ Below w.heap.size w w' := by
  have HE : Hid (pitchesErr a b c d e f g h = 0) := if_pos ⟨hp, hq⟩
  have C1 := hide (fun W => joined_any a b c d e f g h (-1) W (small_ok hp) (small_ok hq) (by omega))
  have f1 := jn_ok hp.2.1 hq.2.1 hq.1 hp.1
  have f2 := jn_ok hp.2.2.1 hq.2.2.1 hq.1 hp.1
  have f3 := jn_ok hp.2.2.2 hq.2.2.2 hq.1 hp.1
  clear hp hq
  have L0 := hide (Lv.start w)
  go_enter Try.func14, Try.ntmps14
  go_wp2_with fail
  refine Lv.call (checkPitches_any _ 2 a b c d e f g h _ (Blk.new _ _ _ _ (by simp))) (((L0.out.put _ _).put _ _).put _ _) ?_
  intro w2 L2'
  have L2 := hide L2'
  have F2 := L2'.at
  clear L2'
  simp only [AllAt, CellsAt, updL, List.map, Nat.zero_add, Nat.reduceAdd, and_true, World.size_alloc, World.heap_drewN, heap_drew, size_set, Nat.add_eq_left, Nat.left_eq_add, Nat.add_right_cancel_iff, Nat.reduceEqDiff, Nat.one_ne_zero, Nat.succ_ne_zero, Nat.zero_ne_one, reduceIte, List.set_cons_zero, List.set_cons_succ] at F2
  rw [HE.out]
  go_wp2_with fail
  refine Lv.call (C1.out _) L2.out ?_
  intro w3 L3'
  have L3 := hide L3'
  have F3 := L3'.at
  clear L3' F2
  simp only [AllAt, CellsAt, updL, List.map, Nat.zero_add, Nat.reduceAdd, and_true, World.size_alloc, World.heap_drewN, heap_drew, size_set, Nat.add_eq_left, Nat.left_eq_add, Nat.add_right_cancel_iff, Nat.reduceEqDiff, Nat.one_ne_zero, Nat.succ_ne_zero, Nat.zero_ne_one, reduceIte, List.set_cons_zero, List.set_cons_succ] at F3
  go_wp2_with fail
  refine Lv.call (against1_any (jn a h (-1) e d) (jn b h (-1) f d) (jn c h (-1) g d) _ f1 f2 f3) L3.out ?_
  intro w4 L4'
  have L4 := hide L4'
  have F4 := L4'.at
  clear L4' F3
  simp only [AllAt, CellsAt, updL, List.map, Nat.zero_add, Nat.reduceAdd, and_true, World.size_alloc, World.heap_drewN, heap_drew, size_set, Nat.add_eq_left, Nat.left_eq_add, Nat.add_right_cancel_iff, Nat.reduceEqDiff, Nat.one_ne_zero, Nat.succ_ne_zero, Nat.zero_ne_one, reduceIte, List.set_cons_zero, List.set_cons_succ] at F4
  go_wp2
  go_ret2
  exact ⟨rfl, L4.out.below⟩
set_option maxHeartbeats 2000000 in
set_option maxRecDepth 100000 in
theorem order_bad (a b c d e f g h : Int) (w : World) (hp : ¬ (okP a b c d ∧ okP e f g h)) :
    Calls Try.prog 14 #[.agg #[.int .i64 a, .int .i64 b, .int .i64 c, .int .i64 d], .agg #[.int .i64 e, .int .i64 f, .int .i64 g, .int .i64 h]] w
      fun r w' => r = .returned (.tuple #[.int .i64 0, .int .i64 2]) ∧ Below w.heap.size w w' := by
  have HE : Hid (pitchesErr a b c d e f g h = 2) := if_neg hp
  clear hp
  have L0 := hide (Lv.start w)
  go_enter Try.func14, Try.ntmps14
  go_wp2_with fail
  refine Lv.call (checkPitches_any _ 2 a b c d e f g h _ (Blk.new _ _ _ _ (by simp))) (((L0.out.put _ _).put _ _).put _ _) ?_
  intro w2 L2'
  have L2 := hide L2'
  have F2 := L2'.at
  clear L2'
  simp only [AllAt, CellsAt, updL, List.map, Nat.zero_add, Nat.reduceAdd, and_true, World.size_alloc, World.heap_drewN, heap_drew, size_set, Nat.add_eq_left, Nat.left_eq_add, Nat.add_right_cancel_iff, Nat.reduceEqDiff, Nat.one_ne_zero, Nat.succ_ne_zero, Nat.zero_ne_one, reduceIte, List.set_cons_zero, List.set_cons_succ] at F2
  rw [HE.out]
  go_wp2
  go_ret2
  exact ⟨rfl, L2.out.below⟩
end Go.Proofs.Ytfmonpjoadjimab
