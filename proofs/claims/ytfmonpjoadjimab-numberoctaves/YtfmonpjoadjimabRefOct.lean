/- The contract of ref.Octave. -/
import Derived.Test.YtfmonpjoadjimabOct
import Derived.Test.YtfmonpjoadjimabParts
import Derived.Test.YtfmonpjoadjimabValid
import Derived.Test.YtfmonpjoadjimabFloor
namespace Go.Proofs.Ytfmonpjoadjimab
open Go.RowKit
set_option linter.unusedVariables false
set_option linter.unusedSimpArgs false

theorem jn_sub (a z d : Int) : jn a 1 (-1) z d = a - z * d := by
  unfold jn
  rw [Int.mul_one, show (-1 : Int) * z = -z by omega, Int.neg_mul]
  omega
theorem jn_zero (a d : Int) : jn a 1 (-1) 0 d = a := by rw [jn_sub]; omega
theorem octT_near {a b c d q : Int} {A B C : Nat} (hA : a.natAbs = A) (hB : b.natAbs = B) (hC : c.natAbs = C) (h1 : (A : Int) + 2 * B + 3 * C < (q + 1) * d) : octT a b c d (-(q + 1)) = true := by
  unfold octT
  have e : a - -(q + 1) * d = a + (q + 1) * d := by rw [Int.neg_mul]; omega
  rw [e]
  simpa using sgn_high (x := a + (q + 1) * d) (y := b) (z := c) (by omega)
theorem octT_far2 {a b c d q : Int} {A B C : Nat} (hd : 1 ≤ d) (hA : a.natAbs = A) (hB : b.natAbs = B) (hC : c.natAbs = C) (h1 : (A : Int) + 2 * B + 3 * C < (q + 1) * d) : octT a b c d (q + 1 + 1) = false := by
  unfold octT
  have e : (q + 1 + 1) * d = (q + 1) * d + d := by rw [Int.add_mul]; omega
  have := sgn_low (x := a - (q + 1 + 1) * d) (y := b) (z := c) (by omega)
  simpa using this
theorem octT_val2 {a b c d u r : Int} (k0 : octT a b c d (-(u + 1)) = true) (k9 : octT a b c d (u + 1 + 1) = false) (h2 : -(u + 1) ≤ r) (h3 : r ≤ u + 1) (h4 : -(u + 1) < r → octT a b c d r = true) (h5 : r < u + 1 → octT a b c d (r + 1) = false) : OctV a b c d r := by
  have k1 : octT a b c d r = true := by
    by_cases h : -(u + 1) < r
    · exact h4 h
    · obtain rfl : r = -(u + 1) := by omega
      exact k0
  have k2 : octT a b c d (r + 1) = false := by
    by_cases h : r < u + 1
    · exact h5 h
    · obtain rfl : r = u + 1 := by omega
      exact k9
  unfold octT at k1 k2
  exact ⟨by simpa using k1, by simpa using k2⟩
theorem small_oct {n : Int} (hn : -3000 ≤ n ∧ n ≤ 3000) : smallP n 0 0 1 := by
  unfold smallP inE
  omega
theorem quiet_same {P : Program} {f : FuncId} {args : Array Value} {w : World} {n : Nat} {v : Value} (h : Calls P f args (w.drewN n) fun e w' => e = .returned v ∧ w.drewN n = w') :
    Calls P f args (w.drewN n) fun e w'' => e = .returned v ∧ ∃ m, w'' = w.drewN m := h.mono fun _ _ ⟨he, hm⟩ => ⟨he, n, hm.symm⟩
set_option maxHeartbeats 1000000 in
set_option maxRecDepth 100000 in
theorem refOct_any (a b c d : Int) (w : World) (hp : okP a b c d) :
    Calls Try.prog 13 #[.agg #[.int .i64 a, .int .i64 b, .int .i64 c, .int .i64 d]] w fun e w' => ∃ n, OctV a b c d n ∧ (-3000 ≤ n ∧ n ≤ 3000) ∧ e = .returned (octR a b c d n) ∧ Below w.heap.size w w' := by
  have HSP := hide (small_ok hp)
  obtain ⟨hd, ha, hb, hc⟩ := hp
  unfold okE at ha hb hc
  have HA := hide (fun W => abs_any a W (by omega) (by omega))
  have HB := hide (fun W => abs_any b W (by omega) (by omega))
  have HC := hide (fun W => abs_any c W (by omega) (by omega))
  obtain ⟨A, hA⟩ : ∃ A, a.natAbs = A := ⟨_, rfl⟩
  obtain ⟨B, hB⟩ : ∃ A, b.natAbs = A := ⟨_, rfl⟩
  obtain ⟨C, hC⟩ : ∃ A, c.natAbs = A := ⟨_, rfl⟩
  have lA : A ≤ 400 := by omega
  have lB : B ≤ 400 := by omega
  have lC : C ≤ 400 := by omega
  rw [hA] at HA
  rw [hB] at HB
  rw [hC] at HC
  obtain ⟨q, hq⟩ : ∃ q, ((A : Int) + 2 * B + 3 * C).tdiv d = q := ⟨_, rfl⟩
  have hq1 : ((A : Int) + 2 * B + 3 * C) / d = q := by rw [← hq, Int.tdiv_eq_ediv_of_nonneg (by omega)]
  have hq2 : 0 ≤ q ∧ q ≤ 2400 := by
    constructor
    · rw [← hq1]; exact Int.ediv_nonneg (by omega) (by omega)
    · have := Int.ediv_le_self d (a := (A : Int) + 2 * B + 3 * C) (by omega)
      omega
  have hq3 : (A : Int) + 2 * B + 3 * C < (q + 1) * d := by
    rw [← hq1]
    exact Int.lt_ediv_add_one_mul_self _ (by omega)
  have hq4 : q * d ≤ 2400 := by
    have := Int.ediv_mul_le ((A : Int) + 2 * B + 3 * C) (b := d) (by omega)
    rw [hq1] at this
    omega
  have hq5 : (q + 1) * d = q * d + d := by rw [Int.add_mul]; omega
  have mono : ∀ r : Int, -(q + 1) ≤ r → r ≤ q + 1 → -3000 ≤ r * d ∧ r * d ≤ 3000 := fun r h1 h2 => by
    have k1 := Int.mul_le_mul_of_nonneg_right h1 (show 0 ≤ d by omega)
    have k2 := Int.mul_le_mul_of_nonneg_right h2 (show 0 ≤ d by omega)
    rw [Int.neg_mul] at k1
    omega
  have HM := hide mono
  have K0 := hide (octT_near hA hB hC hq3)
  have K9 := hide (octT_far2 hd.1 hA hB hC hq3)
  clear mono hq1 hq3 hq4 hq5 hA hB hC
  have nd : ¬ d = 0 := by omega
  have W1 : IntKind.i64.wrap q = q := by rw [IntKind.wrap_i64]; omega
  have L0 := hide (Lv.start w)
  go_enter Try.func13, Try.ntmps13
  go_wp2
  go_quiet ((go_at_call 30; first | exact still_call (HA.out _) | exact still_call (HB.out _) | exact still_call (HC.out _) | exact quiet_same (HA.out _) | exact quiet_same (HB.out _) | exact quiet_same (HC.out _)))
  go_wp2
  have L1 := hide (((L0.out.put [.int .i64 a, .int .i64 b, .int .i64 c, .int .i64 d] 23).put [.int .i64 0, .int .i64 0, .int .i64 0, .int .i64 0] 23).drewN nq)
  have L2 : Hid (Lv w (((w.alloc (.cells #[.int .i64 a, .int .i64 b, .int .i64 c, .int .i64 d] 23)).alloc (.cells #[.int .i64 0, .int .i64 0, .int .i64 0, .int .i64 0] 23)).drewN nq) [(w.heap.size + 1, 23, [.int .i64 0, .int .i64 0, .int .i64 0, .int .i64 0]), (w.heap.size, 23, [.int .i64 a, .int .i64 b, .int .i64 c, .int .i64 d])] ) := by
    have h := L1.out
    simp only [World.size_alloc] at h
    exact h
  clear L1 HA HB HC hq W1
  go_loopw [6, 7] (fun l h wr => ∃ x y : Int, l = .int .i64 x ∧ h = .int .i64 y ∧ -(q + 1) ≤ x ∧ x ≤ y ∧ y ≤ q + 1 ∧ Hid (-(q + 1) < x → octT a b c d x = true) ∧ Hid (y < q + 1 → octT a b c d (y + 1) = false) ∧ Hid (Lv w wr [(w.heap.size + 1, 23, [.int .i64 0, .int .i64 0, .int .i64 0, .int .i64 0]), (w.heap.size, 23, [.int .i64 a, .int .i64 b, .int .i64 c, .int .i64 d])])) (fun l h _ => (intOf h - intOf l).toNat)
  case atStart => exact ⟨_, _, rfl, rfl, by omega, by omega, by omega, hide (fun h => by omega), hide (fun h => by omega), L2⟩
  case round =>
    clear L2
    obtain ⟨x, y, rfl, rfl, h1, h2, h3, H4, H5, L1⟩ := hrel
    have F1 := L1.out.at
    simp only [AllAt, CellsAt, updL, List.map, Nat.zero_add, Nat.reduceAdd, and_true, World.size_alloc, World.heap_drewN, heap_drew, size_set, Nat.add_eq_left, Nat.left_eq_add, Nat.add_right_cancel_iff, Nat.reduceEqDiff, Nat.one_ne_zero, Nat.succ_ne_zero, Nat.zero_ne_one, reduceIte, List.set_cons_zero, List.set_cons_succ] at F1
    by_cases hlt : x < y
    · obtain ⟨k, hk⟩ : ∃ k, (y - x) / 2 = k := ⟨_, rfl⟩
      have hz1 : x < y - k ∧ y - k ≤ y := by omega
      have HK := hide hk
      have hm := HM.out (y - k) (by omega) (by omega)
      clear hk
      go_wp2_with fail
      refine Lv.same (floor_any (y - x) 2 _ (by omega) (by omega) (by omega) (by omega)) ?_
      rw [HK.out]
      go_wp2_with fail
      refine Lv.call (refOrder_any a b c d (y - k) 0 0 1 _ HSP.out (small_oct (by omega)) (by rw [jn_sub]; omega) (by rw [jn_zero]; omega) (by rw [jn_zero]; omega)) L1.out ?_
      intro w2 L2'
      have L2 := hide L2'
      have F2 := L2'.at
      clear L2' L1 F1
      simp only [AllAt, CellsAt, updL, List.map, Nat.zero_add, Nat.reduceAdd, and_true, World.size_alloc, World.heap_drewN, heap_drew, size_set, Nat.add_eq_left, Nat.left_eq_add, Nat.add_right_cancel_iff, Nat.reduceEqDiff, Nat.one_ne_zero, Nat.succ_ne_zero, Nat.zero_ne_one, reduceIte, List.set_cons_zero, List.set_cons_succ] at F2
      rw [jn_sub, jn_zero, jn_zero]
      by_cases hs : 0 ≤ sgn (a - (y - k) * d) b c
      · have HT : Hid (octT a b c d (y - k) = true) := by unfold octT Hid; simpa using hs
        go_wp2
        go_roundw
        case rel => exact ⟨y - k, y, rfl, rfl, by omega, by omega, h3, hide (fun _ => HT.out), H5, L2⟩
        case measure => simp [intOf]; omega
      · have HT : Hid (octT a b c d (y - k - 1 + 1) = false) := by rw [Int.sub_add_cancel]; unfold octT Hid; simpa using hs
        go_wp2
        go_roundw
        case rel => exact ⟨x, y - k - 1, rfl, rfl, h1, by omega, by omega, H4, hide (fun _ => HT.out), L2⟩
        case measure => simp [intOf]; omega
    · obtain rfl : x = y := by omega
      have HV := hide (octT_val2 K0.out K9.out h1 h3 H4.out H5.out)
      have hm := HM.out x h1 h3
      obtain ⟨v, hv⟩ : ∃ v, v = a - x * d := ⟨_, rfl⟩
      have hvb : -10000 ≤ v ∧ v ≤ 10000 := by omega
      have HX := hide hv
      clear hv
      have hxn : -3000 ≤ x ∧ x ≤ 3000 := by omega
      go_wp2_with fail
      refine Lv.call (refSum_any a b c d x 0 0 1 (-1) _ HSP.out (small_oct hxn) (by omega)) L1.out ?_
      intro w2 L2'
      have L2 := hide L2'
      have F2 := L2'.at
      clear L2' L1 F1
      simp only [AllAt, CellsAt, updL, List.map, Nat.zero_add, Nat.reduceAdd, and_true, World.size_alloc, World.heap_drewN, heap_drew, size_set, Nat.add_eq_left, Nat.left_eq_add, Nat.add_right_cancel_iff, Nat.reduceEqDiff, Nat.one_ne_zero, Nat.succ_ne_zero, Nat.zero_ne_one, reduceIte, List.set_cons_zero, List.set_cons_succ] at F2
      rw [jn_sub, jn_zero, jn_zero, Int.mul_one, ← HX.out]
      go_wp2_with fail
      refine Lv.call (refValid_any v b c d _ (by omega) (by omega) (by omega) (by omega)) L2.out ?_
      intro w5 L5'
      have L5 := hide L5'
      have F5 := L5'.at
      clear L5' L2 F2
      simp only [AllAt, CellsAt, updL, List.map, Nat.zero_add, Nat.reduceAdd, and_true, World.size_alloc, World.heap_drewN, heap_drew, size_set, Nat.add_eq_left, Nat.left_eq_add, Nat.add_right_cancel_iff, Nat.reduceEqDiff, Nat.one_ne_zero, Nat.succ_ne_zero, Nat.zero_ne_one, reduceIte, List.set_cons_zero, List.set_cons_succ] at F5
      unfold pitchR
      by_cases hf : fitP v b c d
      · have HQ : Hid (octR a b c d x = .tuple #[.agg #[.int .i64 (p2 v b c d), .int .i64 (p3 v b c d), .int .i64 (p5 v b c d), .int .i64 (pd v b c d)], .int .i64 x, .int .i64 0]) := by
          unfold octR Hid
          rw [← HX.out, show pe v b c d = 0 from if_pos hf, if_pos hf]
        rw [show pe v b c d = 0 from if_pos hf]
        clear hf
        go_wp2
        refine bodyPost_ret (v := .tuple #[.agg #[.int .i64 (p2 v b c d), .int .i64 (p3 v b c d), .int .i64 (p5 v b c d), .int .i64 (pd v b c d)], .int .i64 x, .int .i64 0]) (by simp [results, Try.results13, go_sem, F5]) rfl ⟨x, HV.out, hxn, by rw [HQ.out], ?_⟩
        repeat (first | (with_reducible exact L5.out.below) | refine Below.setCell ?_ (by first | omega | (simp; done) | (simp; omega)) _ | refine Below.alloc ?_ (by first | omega | (simp; done) | (simp; omega)) _ | refine below_drewN ?_ _ | refine Below.drew ?_)
      · have HQ : Hid (octR a b c d x = .tuple #[.agg #[.int .i64 0, .int .i64 0, .int .i64 0, .int .i64 0], .int .i64 0, .int .i64 8]) := by
          unfold octR Hid
          rw [← HX.out, show pe v b c d = 8 from if_neg hf, if_neg hf]
          unfold p2 p3 p5 pd
          rw [if_neg hf, if_neg hf, if_neg hf, if_neg hf]
        rw [show pe v b c d = 8 from if_neg hf]
        clear hf
        go_wp2
        refine bodyPost_ret (v := .tuple #[.agg #[.int .i64 0, .int .i64 0, .int .i64 0, .int .i64 0], .int .i64 0, .int .i64 8]) (by simp [results, Try.results13, go_sem, F5]) rfl ⟨x, HV.out, hxn, by rw [HQ.out], ?_⟩
        repeat (first | (with_reducible exact L5.out.below) | refine Below.setCell ?_ (by first | omega | (simp; done) | (simp; omega)) _ | refine Below.alloc ?_ (by first | omega | (simp; done) | (simp; omega)) _ | refine below_drewN ?_ _ | refine Below.drew ?_)
end Go.Proofs.Ytfmonpjoadjimab
