/- The contract of number.enclosedProduct: a number's product with a fraction, rounded down and rounded up. -/
import Derived.Test.YtnilfacofikoaaaDiv
import Derived.Test.YtnilfacofikoaaaFrac
import Derived.Test.YtnilfacofikoaaaLive
import Derived.BigQuiet
namespace Go.Proofs.Ytnilfacofikoaaa
open Go.RowKit
set_option linter.unusedVariables false
set_option linter.unusedSimpArgs false

theorem neg_ediv (N D : Nat) (hD : 1 ≤ D) : (-(N : Int)) / (D : Int) = -(((N / D : Nat) : Int) + if 0 < N % D then 1 else 0) := by
  have h := Nat.div_add_mod N D
  have hl := Nat.mod_lt N (show D > 0 by omega)
  obtain ⟨q, hq⟩ : ∃ q, q = N / D := ⟨_, rfl⟩
  obtain ⟨r, hr⟩ : ∃ r, r = N % D := ⟨_, rfl⟩
  rw [← hq, ← hr] at h
  rw [← hr] at hl
  rw [← hq, ← hr]
  have hI : (D : Int) * q + r = N := by rw [← h]; rfl
  split
  · have e : (-(N : Int)) / (D : Int) = -((q : Int) + 1) := ((Int.ediv_emod_unique (r := (D : Int) - r) (by omega)).2 ⟨by rw [Int.mul_neg, Int.mul_add]; omega, by omega, by omega⟩).1
    exact e
  · have e : (-(N : Int)) / (D : Int) = -(q : Int) := ((Int.ediv_emod_unique (r := 0) (by omega)).2 ⟨by rw [Int.mul_neg]; omega, by omega, by omega⟩).1
    rw [e]
    omega
/-- The product's sign and size. -/
theorem mul_same {n m : Int} (h : (n < 0) ↔ (m < 0)) : n * m = ((n.natAbs * m.natAbs : Nat) : Int) := by
  rw [Int.natCast_mul]
  by_cases hn : n < 0
  · have hm := h.1 hn
    rw [show (n.natAbs : Int) = -n by omega, show (m.natAbs : Int) = -m by omega, Int.neg_mul_neg]
  · have hm : ¬ m < 0 := fun x => hn (h.2 x)
    rw [show (n.natAbs : Int) = n by omega, show (m.natAbs : Int) = m by omega]
theorem mul_other {n m : Int} (h : ¬ ((n < 0) ↔ (m < 0))) : n * m = -((n.natAbs * m.natAbs : Nat) : Int) := by
  rw [Int.natCast_mul]
  by_cases hn : n < 0
  · have hm : ¬ m < 0 := fun x => h ⟨fun _ => x, fun _ => hn⟩
    rw [show (n.natAbs : Int) = -n by omega, show (m.natAbs : Int) = m by omega, Int.neg_mul]; omega
  · have hm : m < 0 := by
      by_cases hm : m < 0
      · exact hm
      · exact absurd ⟨fun x => absurd x hn, fun x => absurd x hm⟩ h
    rw [show (n.natAbs : Int) = n by omega, show (m.natAbs : Int) = -m by omega, Int.mul_neg]; omega
def encR (n m d : Int) : Value := if n.natAbs * m.natAbs / d.toNat ≤ 1000000000000000 then .tuple #[.agg #[.int .i64 (n * m / d), .int .i64 (-(-(n * m) / d))], .bool true] else .tuple #[.agg #[.int .i64 0, .int .i64 0], .bool false]
theorem quiet_same2 {P : Program} {f : FuncId} {args : Array Value} {w : World} {n : Nat} {v : Value} (h : Calls P f args (w.drewN n) fun e w' => e = .returned v ∧ w.drewN n = w') :
    Calls P f args (w.drewN n) fun e w'' => e = .returned v ∧ ∃ m, w'' = w.drewN m := h.mono fun _ _ ⟨he, hm⟩ => ⟨he, n, hm.symm⟩
set_option maxHeartbeats 1000000 in
set_option maxRecDepth 100000 in
theorem encProd_any (n m d : Int) (w : World) (hn : -1000000000000000 ≤ n ∧ n ≤ 1000000000000000) (hm : -1000000000 ≤ m ∧ m ≤ 1000000000) (hd : 1 ≤ d ∧ d ≤ 1000000000) :
    Calls Try.prog 36 #[.int .i64 n, .agg #[.int .i64 m, .int .i64 d]] w fun e w' => e = .returned (encR n m d) ∧ Below w.heap.size w w' := by
  obtain ⟨D, rfl⟩ := Int.eq_ofNat_of_zero_le (show 0 ≤ d by omega)
  obtain ⟨A, hA⟩ : ∃ A, A = n.natAbs := ⟨_, rfl⟩
  obtain ⟨M, hM⟩ : ∃ A, A = m.natAbs := ⟨_, rfl⟩
  have C1 := fun W => size_any n W (by omega) (by omega)
  have C2 := fun W => size_any m W (by omega) (by omega)
  have C3 := fun W => mul64_raw A M (by omega) (by omega) W
  have hN : A * M ≤ 1000000000000000 * 1000000000 := Nat.mul_le_mul (by omega) (by omega)
  obtain ⟨N, hNe⟩ : ∃ N, N = A * M := ⟨_, rfl⟩
  rw [← hA] at C1
  rw [← hM] at C2
  rw [← hNe] at C3 hN
  obtain ⟨hi, hhi⟩ : ∃ h, h = N / 18446744073709551616 := ⟨_, rfl⟩
  obtain ⟨lo, hlo⟩ : ∃ h, h = N % 18446744073709551616 := ⟨_, rfl⟩
  have hb : lo < 18446744073709551616 ∧ hi < 18446744073709551616 := by omega
  have hsum : hi * 18446744073709551616 + lo = N := by omega
  rw [← hhi, ← hlo] at C3
  have H1 := hide C1
  have H2 := hide C2
  have H3 := hide C3
  clear C1 C2 C3
  have HV : encR n m (D : Int) = if N / D ≤ 1000000000000000 then .tuple #[.agg #[.int .i64 (n * m / D), .int .i64 (-(-(n * m) / D))], .bool true] else .tuple #[.agg #[.int .i64 0, .int .i64 0], .bool false] := by
    unfold encR
    rw [← hA, ← hM, ← hNe, Int.toNat_natCast]
  by_cases hbig : D ≤ hi
  · have HQ : Hid (encR n m (D : Int) = .tuple #[.agg #[.int .i64 0, .int .i64 0], .bool false]) := by
      unfold Hid
      rw [HV, if_neg]
      intro h
      have h1 : 1000000000000001 * D ≤ N := by
        have : D * 1 ≤ hi := by omega
        omega
      have := (Nat.le_div_iff_mul_le (show 0 < D by omega)).2 h1
      omega
    have hbI : (D : Int) ≤ (hi : Int) := by omega
    have hbI2 : ((hi : Int) < D) = False := by simp; omega
    clear HV hhi hlo hsum hNe hA hM
    have L0 := hide (Lv.start w)
    go_enter Try.func36, Try.ntmps36
    go_wp2
    go_quiet ((first | (go_at_call 65; first | with_reducible exact still_call (H1.out _) | with_reducible exact still_call (H2.out _) | with_reducible exact quiet_same2 (H1.out _) | with_reducible exact quiet_same2 (H2.out _)) | (go_at_call 64; first | with_reducible exact still_call (H3.out _) | with_reducible exact quiet_same2 (H3.out _))))
    have L1 := hide (((L0.out.put [.int .i64 m, .int .i64 D] 25).put [.int .i64 0, .int .i64 0] 23).drewN nq)
    have F1 := L1.out.at
    simp only [AllAt, CellsAt, updL, List.map, Nat.zero_add, Nat.reduceAdd, and_true, World.size_alloc, World.heap_drewN, heap_drew, size_set, Nat.add_eq_left, Nat.left_eq_add, Nat.add_right_cancel_iff, ne_up2, ne_dn2, ne_up3, ne_dn3, ne_up4, ne_dn4, Nat.reduceEqDiff, Nat.one_ne_zero, Nat.succ_ne_zero, Nat.zero_ne_one, reduceIte, List.set_cons_zero, List.set_cons_succ] at F1
    go_wp2
    refine bodyPost_ret (v := .tuple #[.agg #[.int .i64 0, .int .i64 0], .bool false]) (by simp [results, Try.results36, go_sem, F1]) rfl ⟨by rw [HQ.out], ?_⟩
    repeat (first | (with_reducible exact L1.out.below) | refine Below.setCell ?_ (by first | omega | (simp; done) | (simp; omega)) _ | refine Below.alloc ?_ (by first | omega | (simp; done) | (simp; omega)) _ | refine below_drewN ?_ _ | refine Below.drew ?_)
    all_goals first | exact Below.refl _ _ | skip
  · have C4 := fun W => div64_any hi lo D W (by omega) (by omega) hb.1
    rw [hsum] at C4
    have hnbI : ¬ (D : Int) ≤ (hi : Int) := by omega
    have same : (n < 0 ↔ m < 0) → n * m = (N : Int) := fun h => by rw [hNe, hA, hM]; exact mul_same h
    have other : ¬ (n < 0 ↔ m < 0) → n * m = -(N : Int) := fun h => by rw [hNe, hA, hM]; exact mul_other h
    have hneg := neg_ediv N D (by omega)
    have hle := Nat.div_le_self N D
    obtain ⟨q, hq⟩ : ∃ q, q = N / D := ⟨_, rfl⟩
    obtain ⟨r, hr⟩ : ∃ r, r = N % D := ⟨_, rfl⟩
    have hrl : r < D := hr ▸ Nat.mod_lt N (by omega)
    have hpos : (N : Int) / (D : Int) = (q : Int) := by rw [hq]; rfl
    rw [← hq, ← hr] at C4 hneg
    rw [← hq] at HV hle
    have H4 := hide C4
    clear C4 hhi hlo hsum hNe hA hM hq hr hbig
    by_cases hbq : 1000000000000000 < q
    · have HQ : Hid (encR n m (D : Int) = .tuple #[.agg #[.int .i64 0, .int .i64 0], .bool false]) := by
        unfold Hid
        rw [HV, if_neg (by omega)]
      clear HV same other hneg hpos
      have hq1 : (1000000000000000 : Int) < (q : Int) := by omega
      have L0 := hide (Lv.start w)
      go_enter Try.func36, Try.ntmps36
      go_wp2
      go_quiet ((first | (go_at_call 65; first | with_reducible exact still_call (H1.out _) | with_reducible exact still_call (H2.out _) | with_reducible exact quiet_same2 (H1.out _) | with_reducible exact quiet_same2 (H2.out _)) | (go_at_call 64; first | with_reducible exact still_call (H3.out _) | with_reducible exact quiet_same2 (H3.out _))))
      have L1 := hide (((L0.out.put [.int .i64 m, .int .i64 D] 25).put [.int .i64 0, .int .i64 0] 23).drewN nq)
      have F1 := L1.out.at
      simp only [AllAt, CellsAt, updL, List.map, Nat.zero_add, Nat.reduceAdd, and_true, World.size_alloc, World.heap_drewN, heap_drew, size_set, Nat.add_eq_left, Nat.left_eq_add, Nat.add_right_cancel_iff, ne_up2, ne_dn2, ne_up3, ne_dn3, ne_up4, ne_dn4, Nat.reduceEqDiff, Nat.one_ne_zero, Nat.succ_ne_zero, Nat.zero_ne_one, reduceIte, List.set_cons_zero, List.set_cons_succ] at F1
      go_wp2_with fail
      refine (H4.out _).mono ?_
      rintro e w4 ⟨rfl, k, rfl⟩
      have L2 := hide (L1.out.drewN k)
      clear F1
      have F2 := L2.out.at
      simp only [AllAt, CellsAt, updL, List.map, Nat.zero_add, Nat.reduceAdd, and_true, World.size_alloc, World.heap_drewN, heap_drew, size_set, Nat.add_eq_left, Nat.left_eq_add, Nat.add_right_cancel_iff, ne_up2, ne_dn2, ne_up3, ne_dn3, ne_up4, ne_dn4, Nat.reduceEqDiff, Nat.one_ne_zero, Nat.succ_ne_zero, Nat.zero_ne_one, reduceIte, List.set_cons_zero, List.set_cons_succ] at F2
      go_wp2
      refine bodyPost_ret (v := .tuple #[.agg #[.int .i64 0, .int .i64 0], .bool false]) (by simp [results, Try.results36, go_sem, F2]) rfl ⟨by rw [HQ.out], ?_⟩
      repeat (first | (with_reducible exact L2.out.below) | refine Below.setCell ?_ (by first | omega | (simp; done) | (simp; omega)) _ | refine Below.alloc ?_ (by first | omega | (simp; done) | (simp; omega)) _ | refine below_drewN ?_ _ | refine Below.drew ?_)
      all_goals first | exact Below.refl _ _ | skip
    · rw [if_pos (show q ≤ 1000000000000000 by omega)] at HV
      have hq1 : ¬ (1000000000000000 : Int) < (q : Int) := by omega
      have W5 : IntKind.i64.wrap (q : Int) = (q : Int) := by rw [IntKind.wrap_i64]; omega
      by_cases hr0 : 0 < r
      · rw [if_pos hr0] at hneg
        have hr1 : (0 : Int) < (r : Int) := by omega
        by_cases hn0 : n < 0
        · by_cases hm0 : m < 0
          · have g1 : (!decide (m < 0)) = !(decide (m < 0)) := rfl
            have g2 : ((!decide (m < 0)) = true ∧ ¬ m < 0) ∨ ((!decide (m < 0)) = false ∧ m < 0) := by by_cases h : m < 0 <;> simp [h]
            have g3 := g2
            clear g1 g2
            have g7 : ((!decide (n < 0)) = true ∧ ¬ n < 0) ∨ ((!decide (n < 0)) = false ∧ n < 0) := by by_cases h : n < 0 <;> simp [h]
            have g5 : ((!(decide (n < 0) == decide (m < 0))) = true ∧ ¬ (n < 0 ↔ m < 0)) ∨ ((!(decide (n < 0) == decide (m < 0))) = false ∧ (n < 0 ↔ m < 0)) := by by_cases h : m < 0 <;> by_cases k : n < 0 <;> simp [h, k]
            have e0 := same (by omega)
            have e1 : n * m / (D : Int) = (q : Int) := by rw [e0]; omega
            have e2 : -(-(n * m) / (D : Int)) = (q : Int) + 1 := by rw [e0]; first | (rw [hneg]; omega) | (rw [Int.neg_neg, hpos])
            have HQ : Hid (encR n m (D : Int) = .tuple #[.agg #[.int .i64 ((q : Int)), .int .i64 ((q : Int) + 1)], .bool true]) := by
              unfold Hid
              rw [HV, e1, e2]
            clear HV same other hneg hpos e0 e1 e2
            rcases g3 with ⟨g3, g4⟩ | ⟨g3, g4⟩
            all_goals try omega
            clear g4
            rcases g5 with ⟨g5, g6⟩ | ⟨g5, g6⟩
            all_goals try omega
            clear g6
            rcases g7 with ⟨g7, g8⟩ | ⟨g7, g8⟩
            all_goals try omega
            clear g8
            have L0 := hide (Lv.start w)
            go_enter Try.func36, Try.ntmps36
            go_wp2
            go_quiet ((first | (go_at_call 65; first | with_reducible exact still_call (H1.out _) | with_reducible exact still_call (H2.out _) | with_reducible exact quiet_same2 (H1.out _) | with_reducible exact quiet_same2 (H2.out _)) | (go_at_call 64; first | with_reducible exact still_call (H3.out _) | with_reducible exact quiet_same2 (H3.out _))))
            have L1 := hide (((L0.out.put [.int .i64 m, .int .i64 D] 25).put [.int .i64 0, .int .i64 0] 23).drewN nq)
            have F1 := L1.out.at
            simp only [AllAt, CellsAt, updL, List.map, Nat.zero_add, Nat.reduceAdd, and_true, World.size_alloc, World.heap_drewN, heap_drew, size_set, Nat.add_eq_left, Nat.left_eq_add, Nat.add_right_cancel_iff, ne_up2, ne_dn2, ne_up3, ne_dn3, ne_up4, ne_dn4, Nat.reduceEqDiff, Nat.one_ne_zero, Nat.succ_ne_zero, Nat.zero_ne_one, reduceIte, List.set_cons_zero, List.set_cons_succ] at F1
            go_wp2_with fail
            refine (H4.out _).mono ?_
            rintro e w4 ⟨rfl, k, rfl⟩
            have L2 := hide (L1.out.drewN k)
            clear F1
            have F2 := L2.out.at
            simp only [AllAt, CellsAt, updL, List.map, Nat.zero_add, Nat.reduceAdd, and_true, World.size_alloc, World.heap_drewN, heap_drew, size_set, Nat.add_eq_left, Nat.left_eq_add, Nat.add_right_cancel_iff, ne_up2, ne_dn2, ne_up3, ne_dn3, ne_up4, ne_dn4, Nat.reduceEqDiff, Nat.one_ne_zero, Nat.succ_ne_zero, Nat.zero_ne_one, reduceIte, List.set_cons_zero, List.set_cons_succ] at F2
            go_wp2
            refine bodyPost_ret (v := .tuple #[.agg #[.int .i64 ((q : Int)), .int .i64 ((q : Int) + 1)], .bool true]) (by simp [results, Try.results36, go_sem, F2]) rfl ⟨by rw [HQ.out], ?_⟩
            repeat (first | (with_reducible exact L2.out.below) | refine Below.setCell ?_ (by first | omega | (simp; done) | (simp; omega)) _ | refine Below.alloc ?_ (by first | omega | (simp; done) | (simp; omega)) _ | refine below_drewN ?_ _ | refine Below.drew ?_)
            all_goals first | exact Below.refl _ _ | skip
          · have g1 : (!decide (m < 0)) = !(decide (m < 0)) := rfl
            have g2 : ((!decide (m < 0)) = true ∧ ¬ m < 0) ∨ ((!decide (m < 0)) = false ∧ m < 0) := by by_cases h : m < 0 <;> simp [h]
            have g3 := g2
            clear g1 g2
            have g7 : ((!decide (n < 0)) = true ∧ ¬ n < 0) ∨ ((!decide (n < 0)) = false ∧ n < 0) := by by_cases h : n < 0 <;> simp [h]
            have g5 : ((!(decide (n < 0) == decide (m < 0))) = true ∧ ¬ (n < 0 ↔ m < 0)) ∨ ((!(decide (n < 0) == decide (m < 0))) = false ∧ (n < 0 ↔ m < 0)) := by by_cases h : m < 0 <;> by_cases k : n < 0 <;> simp [h, k]
            have e0 := other (by omega)
            have e1 : n * m / (D : Int) = -((q : Int) + 1) := by rw [e0]; omega
            have e2 : -(-(n * m) / (D : Int)) = -(q : Int) := by rw [e0]; first | (rw [hneg]; omega) | (rw [Int.neg_neg, hpos])
            have HQ : Hid (encR n m (D : Int) = .tuple #[.agg #[.int .i64 (-((q : Int) + 1)), .int .i64 (-(q : Int))], .bool true]) := by
              unfold Hid
              rw [HV, e1, e2]
            clear HV same other hneg hpos e0 e1 e2
            rcases g3 with ⟨g3, g4⟩ | ⟨g3, g4⟩
            all_goals try omega
            clear g4
            rcases g5 with ⟨g5, g6⟩ | ⟨g5, g6⟩
            all_goals try omega
            clear g6
            rcases g7 with ⟨g7, g8⟩ | ⟨g7, g8⟩
            all_goals try omega
            clear g8
            have L0 := hide (Lv.start w)
            go_enter Try.func36, Try.ntmps36
            go_wp2
            go_quiet ((first | (go_at_call 65; first | with_reducible exact still_call (H1.out _) | with_reducible exact still_call (H2.out _) | with_reducible exact quiet_same2 (H1.out _) | with_reducible exact quiet_same2 (H2.out _)) | (go_at_call 64; first | with_reducible exact still_call (H3.out _) | with_reducible exact quiet_same2 (H3.out _))))
            have L1 := hide (((L0.out.put [.int .i64 m, .int .i64 D] 25).put [.int .i64 0, .int .i64 0] 23).drewN nq)
            have F1 := L1.out.at
            simp only [AllAt, CellsAt, updL, List.map, Nat.zero_add, Nat.reduceAdd, and_true, World.size_alloc, World.heap_drewN, heap_drew, size_set, Nat.add_eq_left, Nat.left_eq_add, Nat.add_right_cancel_iff, ne_up2, ne_dn2, ne_up3, ne_dn3, ne_up4, ne_dn4, Nat.reduceEqDiff, Nat.one_ne_zero, Nat.succ_ne_zero, Nat.zero_ne_one, reduceIte, List.set_cons_zero, List.set_cons_succ] at F1
            go_wp2_with fail
            refine (H4.out _).mono ?_
            rintro e w4 ⟨rfl, k, rfl⟩
            have L2 := hide (L1.out.drewN k)
            clear F1
            have F2 := L2.out.at
            simp only [AllAt, CellsAt, updL, List.map, Nat.zero_add, Nat.reduceAdd, and_true, World.size_alloc, World.heap_drewN, heap_drew, size_set, Nat.add_eq_left, Nat.left_eq_add, Nat.add_right_cancel_iff, ne_up2, ne_dn2, ne_up3, ne_dn3, ne_up4, ne_dn4, Nat.reduceEqDiff, Nat.one_ne_zero, Nat.succ_ne_zero, Nat.zero_ne_one, reduceIte, List.set_cons_zero, List.set_cons_succ] at F2
            go_wp2
            refine bodyPost_ret (v := .tuple #[.agg #[.int .i64 (-((q : Int) + 1)), .int .i64 (-(q : Int))], .bool true]) (by simp [results, Try.results36, go_sem, F2]) rfl ⟨by rw [HQ.out], ?_⟩
            repeat (first | (with_reducible exact L2.out.below) | refine Below.setCell ?_ (by first | omega | (simp; done) | (simp; omega)) _ | refine Below.alloc ?_ (by first | omega | (simp; done) | (simp; omega)) _ | refine below_drewN ?_ _ | refine Below.drew ?_)
            all_goals first | exact Below.refl _ _ | skip
        · by_cases hm0 : m < 0
          · have g1 : (!decide (m < 0)) = !(decide (m < 0)) := rfl
            have g2 : ((!decide (m < 0)) = true ∧ ¬ m < 0) ∨ ((!decide (m < 0)) = false ∧ m < 0) := by by_cases h : m < 0 <;> simp [h]
            have g3 := g2
            clear g1 g2
            have g7 : ((!decide (n < 0)) = true ∧ ¬ n < 0) ∨ ((!decide (n < 0)) = false ∧ n < 0) := by by_cases h : n < 0 <;> simp [h]
            have g5 : ((!(decide (n < 0) == decide (m < 0))) = true ∧ ¬ (n < 0 ↔ m < 0)) ∨ ((!(decide (n < 0) == decide (m < 0))) = false ∧ (n < 0 ↔ m < 0)) := by by_cases h : m < 0 <;> by_cases k : n < 0 <;> simp [h, k]
            have e0 := other (by omega)
            have e1 : n * m / (D : Int) = -((q : Int) + 1) := by rw [e0]; omega
            have e2 : -(-(n * m) / (D : Int)) = -(q : Int) := by rw [e0]; first | (rw [hneg]; omega) | (rw [Int.neg_neg, hpos])
            have HQ : Hid (encR n m (D : Int) = .tuple #[.agg #[.int .i64 (-((q : Int) + 1)), .int .i64 (-(q : Int))], .bool true]) := by
              unfold Hid
              rw [HV, e1, e2]
            clear HV same other hneg hpos e0 e1 e2
            rcases g3 with ⟨g3, g4⟩ | ⟨g3, g4⟩
            all_goals try omega
            clear g4
            rcases g5 with ⟨g5, g6⟩ | ⟨g5, g6⟩
            all_goals try omega
            clear g6
            rcases g7 with ⟨g7, g8⟩ | ⟨g7, g8⟩
            all_goals try omega
            clear g8
            have L0 := hide (Lv.start w)
            go_enter Try.func36, Try.ntmps36
            go_wp2
            go_quiet ((first | (go_at_call 65; first | with_reducible exact still_call (H1.out _) | with_reducible exact still_call (H2.out _) | with_reducible exact quiet_same2 (H1.out _) | with_reducible exact quiet_same2 (H2.out _)) | (go_at_call 64; first | with_reducible exact still_call (H3.out _) | with_reducible exact quiet_same2 (H3.out _))))
            have L1 := hide (((L0.out.put [.int .i64 m, .int .i64 D] 25).put [.int .i64 0, .int .i64 0] 23).drewN nq)
            have F1 := L1.out.at
            simp only [AllAt, CellsAt, updL, List.map, Nat.zero_add, Nat.reduceAdd, and_true, World.size_alloc, World.heap_drewN, heap_drew, size_set, Nat.add_eq_left, Nat.left_eq_add, Nat.add_right_cancel_iff, ne_up2, ne_dn2, ne_up3, ne_dn3, ne_up4, ne_dn4, Nat.reduceEqDiff, Nat.one_ne_zero, Nat.succ_ne_zero, Nat.zero_ne_one, reduceIte, List.set_cons_zero, List.set_cons_succ] at F1
            go_wp2_with fail
            refine (H4.out _).mono ?_
            rintro e w4 ⟨rfl, k, rfl⟩
            have L2 := hide (L1.out.drewN k)
            clear F1
            have F2 := L2.out.at
            simp only [AllAt, CellsAt, updL, List.map, Nat.zero_add, Nat.reduceAdd, and_true, World.size_alloc, World.heap_drewN, heap_drew, size_set, Nat.add_eq_left, Nat.left_eq_add, Nat.add_right_cancel_iff, ne_up2, ne_dn2, ne_up3, ne_dn3, ne_up4, ne_dn4, Nat.reduceEqDiff, Nat.one_ne_zero, Nat.succ_ne_zero, Nat.zero_ne_one, reduceIte, List.set_cons_zero, List.set_cons_succ] at F2
            go_wp2
            refine bodyPost_ret (v := .tuple #[.agg #[.int .i64 (-((q : Int) + 1)), .int .i64 (-(q : Int))], .bool true]) (by simp [results, Try.results36, go_sem, F2]) rfl ⟨by rw [HQ.out], ?_⟩
            repeat (first | (with_reducible exact L2.out.below) | refine Below.setCell ?_ (by first | omega | (simp; done) | (simp; omega)) _ | refine Below.alloc ?_ (by first | omega | (simp; done) | (simp; omega)) _ | refine below_drewN ?_ _ | refine Below.drew ?_)
            all_goals first | exact Below.refl _ _ | skip
          · have g1 : (!decide (m < 0)) = !(decide (m < 0)) := rfl
            have g2 : ((!decide (m < 0)) = true ∧ ¬ m < 0) ∨ ((!decide (m < 0)) = false ∧ m < 0) := by by_cases h : m < 0 <;> simp [h]
            have g3 := g2
            clear g1 g2
            have g7 : ((!decide (n < 0)) = true ∧ ¬ n < 0) ∨ ((!decide (n < 0)) = false ∧ n < 0) := by by_cases h : n < 0 <;> simp [h]
            have g5 : ((!(decide (n < 0) == decide (m < 0))) = true ∧ ¬ (n < 0 ↔ m < 0)) ∨ ((!(decide (n < 0) == decide (m < 0))) = false ∧ (n < 0 ↔ m < 0)) := by by_cases h : m < 0 <;> by_cases k : n < 0 <;> simp [h, k]
            have e0 := same (by omega)
            have e1 : n * m / (D : Int) = (q : Int) := by rw [e0]; omega
            have e2 : -(-(n * m) / (D : Int)) = (q : Int) + 1 := by rw [e0]; first | (rw [hneg]; omega) | (rw [Int.neg_neg, hpos])
            have HQ : Hid (encR n m (D : Int) = .tuple #[.agg #[.int .i64 ((q : Int)), .int .i64 ((q : Int) + 1)], .bool true]) := by
              unfold Hid
              rw [HV, e1, e2]
            clear HV same other hneg hpos e0 e1 e2
            rcases g3 with ⟨g3, g4⟩ | ⟨g3, g4⟩
            all_goals try omega
            clear g4
            rcases g5 with ⟨g5, g6⟩ | ⟨g5, g6⟩
            all_goals try omega
            clear g6
            rcases g7 with ⟨g7, g8⟩ | ⟨g7, g8⟩
            all_goals try omega
            clear g8
            have L0 := hide (Lv.start w)
            go_enter Try.func36, Try.ntmps36
            go_wp2
            go_quiet ((first | (go_at_call 65; first | with_reducible exact still_call (H1.out _) | with_reducible exact still_call (H2.out _) | with_reducible exact quiet_same2 (H1.out _) | with_reducible exact quiet_same2 (H2.out _)) | (go_at_call 64; first | with_reducible exact still_call (H3.out _) | with_reducible exact quiet_same2 (H3.out _))))
            have L1 := hide (((L0.out.put [.int .i64 m, .int .i64 D] 25).put [.int .i64 0, .int .i64 0] 23).drewN nq)
            have F1 := L1.out.at
            simp only [AllAt, CellsAt, updL, List.map, Nat.zero_add, Nat.reduceAdd, and_true, World.size_alloc, World.heap_drewN, heap_drew, size_set, Nat.add_eq_left, Nat.left_eq_add, Nat.add_right_cancel_iff, ne_up2, ne_dn2, ne_up3, ne_dn3, ne_up4, ne_dn4, Nat.reduceEqDiff, Nat.one_ne_zero, Nat.succ_ne_zero, Nat.zero_ne_one, reduceIte, List.set_cons_zero, List.set_cons_succ] at F1
            go_wp2_with fail
            refine (H4.out _).mono ?_
            rintro e w4 ⟨rfl, k, rfl⟩
            have L2 := hide (L1.out.drewN k)
            clear F1
            have F2 := L2.out.at
            simp only [AllAt, CellsAt, updL, List.map, Nat.zero_add, Nat.reduceAdd, and_true, World.size_alloc, World.heap_drewN, heap_drew, size_set, Nat.add_eq_left, Nat.left_eq_add, Nat.add_right_cancel_iff, ne_up2, ne_dn2, ne_up3, ne_dn3, ne_up4, ne_dn4, Nat.reduceEqDiff, Nat.one_ne_zero, Nat.succ_ne_zero, Nat.zero_ne_one, reduceIte, List.set_cons_zero, List.set_cons_succ] at F2
            go_wp2
            refine bodyPost_ret (v := .tuple #[.agg #[.int .i64 ((q : Int)), .int .i64 ((q : Int) + 1)], .bool true]) (by simp [results, Try.results36, go_sem, F2]) rfl ⟨by rw [HQ.out], ?_⟩
            repeat (first | (with_reducible exact L2.out.below) | refine Below.setCell ?_ (by first | omega | (simp; done) | (simp; omega)) _ | refine Below.alloc ?_ (by first | omega | (simp; done) | (simp; omega)) _ | refine below_drewN ?_ _ | refine Below.drew ?_)
            all_goals first | exact Below.refl _ _ | skip
      · rw [if_neg hr0, Int.add_zero] at hneg
        obtain rfl : r = 0 := by omega
        by_cases hn0 : n < 0
        · by_cases hm0 : m < 0
          · have g1 : (!decide (m < 0)) = !(decide (m < 0)) := rfl
            have g2 : ((!decide (m < 0)) = true ∧ ¬ m < 0) ∨ ((!decide (m < 0)) = false ∧ m < 0) := by by_cases h : m < 0 <;> simp [h]
            have g3 := g2
            clear g1 g2
            have g7 : ((!decide (n < 0)) = true ∧ ¬ n < 0) ∨ ((!decide (n < 0)) = false ∧ n < 0) := by by_cases h : n < 0 <;> simp [h]
            have g5 : ((!(decide (n < 0) == decide (m < 0))) = true ∧ ¬ (n < 0 ↔ m < 0)) ∨ ((!(decide (n < 0) == decide (m < 0))) = false ∧ (n < 0 ↔ m < 0)) := by by_cases h : m < 0 <;> by_cases k : n < 0 <;> simp [h, k]
            have e0 := same (by omega)
            have e1 : n * m / (D : Int) = (q : Int) := by rw [e0]; omega
            have e2 : -(-(n * m) / (D : Int)) = (q : Int) := by rw [e0]; first | (rw [hneg]; omega) | (rw [Int.neg_neg, hpos])
            have HQ : Hid (encR n m (D : Int) = .tuple #[.agg #[.int .i64 ((q : Int)), .int .i64 ((q : Int))], .bool true]) := by
              unfold Hid
              rw [HV, e1, e2]
            clear HV same other hneg hpos e0 e1 e2
            rcases g3 with ⟨g3, g4⟩ | ⟨g3, g4⟩
            all_goals try omega
            clear g4
            rcases g5 with ⟨g5, g6⟩ | ⟨g5, g6⟩
            all_goals try omega
            clear g6
            rcases g7 with ⟨g7, g8⟩ | ⟨g7, g8⟩
            all_goals try omega
            clear g8
            have L0 := hide (Lv.start w)
            go_enter Try.func36, Try.ntmps36
            go_wp2
            go_quiet ((first | (go_at_call 65; first | with_reducible exact still_call (H1.out _) | with_reducible exact still_call (H2.out _) | with_reducible exact quiet_same2 (H1.out _) | with_reducible exact quiet_same2 (H2.out _)) | (go_at_call 64; first | with_reducible exact still_call (H3.out _) | with_reducible exact quiet_same2 (H3.out _))))
            have L1 := hide (((L0.out.put [.int .i64 m, .int .i64 D] 25).put [.int .i64 0, .int .i64 0] 23).drewN nq)
            have F1 := L1.out.at
            simp only [AllAt, CellsAt, updL, List.map, Nat.zero_add, Nat.reduceAdd, and_true, World.size_alloc, World.heap_drewN, heap_drew, size_set, Nat.add_eq_left, Nat.left_eq_add, Nat.add_right_cancel_iff, ne_up2, ne_dn2, ne_up3, ne_dn3, ne_up4, ne_dn4, Nat.reduceEqDiff, Nat.one_ne_zero, Nat.succ_ne_zero, Nat.zero_ne_one, reduceIte, List.set_cons_zero, List.set_cons_succ] at F1
            go_wp2_with fail
            refine (H4.out _).mono ?_
            rintro e w4 ⟨rfl, k, rfl⟩
            have L2 := hide (L1.out.drewN k)
            clear F1
            have F2 := L2.out.at
            simp only [AllAt, CellsAt, updL, List.map, Nat.zero_add, Nat.reduceAdd, and_true, World.size_alloc, World.heap_drewN, heap_drew, size_set, Nat.add_eq_left, Nat.left_eq_add, Nat.add_right_cancel_iff, ne_up2, ne_dn2, ne_up3, ne_dn3, ne_up4, ne_dn4, Nat.reduceEqDiff, Nat.one_ne_zero, Nat.succ_ne_zero, Nat.zero_ne_one, reduceIte, List.set_cons_zero, List.set_cons_succ] at F2
            go_wp2
            refine bodyPost_ret (v := .tuple #[.agg #[.int .i64 ((q : Int)), .int .i64 ((q : Int))], .bool true]) (by simp [results, Try.results36, go_sem, F2]) rfl ⟨by rw [HQ.out], ?_⟩
            repeat (first | (with_reducible exact L2.out.below) | refine Below.setCell ?_ (by first | omega | (simp; done) | (simp; omega)) _ | refine Below.alloc ?_ (by first | omega | (simp; done) | (simp; omega)) _ | refine below_drewN ?_ _ | refine Below.drew ?_)
            all_goals first | exact Below.refl _ _ | skip
          · have g1 : (!decide (m < 0)) = !(decide (m < 0)) := rfl
            have g2 : ((!decide (m < 0)) = true ∧ ¬ m < 0) ∨ ((!decide (m < 0)) = false ∧ m < 0) := by by_cases h : m < 0 <;> simp [h]
            have g3 := g2
            clear g1 g2
            have g7 : ((!decide (n < 0)) = true ∧ ¬ n < 0) ∨ ((!decide (n < 0)) = false ∧ n < 0) := by by_cases h : n < 0 <;> simp [h]
            have g5 : ((!(decide (n < 0) == decide (m < 0))) = true ∧ ¬ (n < 0 ↔ m < 0)) ∨ ((!(decide (n < 0) == decide (m < 0))) = false ∧ (n < 0 ↔ m < 0)) := by by_cases h : m < 0 <;> by_cases k : n < 0 <;> simp [h, k]
            have e0 := other (by omega)
            have e1 : n * m / (D : Int) = -(q : Int) := by rw [e0]; omega
            have e2 : -(-(n * m) / (D : Int)) = -(q : Int) := by rw [e0]; first | (rw [hneg]; omega) | (rw [Int.neg_neg, hpos])
            have HQ : Hid (encR n m (D : Int) = .tuple #[.agg #[.int .i64 (-(q : Int)), .int .i64 (-(q : Int))], .bool true]) := by
              unfold Hid
              rw [HV, e1, e2]
            clear HV same other hneg hpos e0 e1 e2
            rcases g3 with ⟨g3, g4⟩ | ⟨g3, g4⟩
            all_goals try omega
            clear g4
            rcases g5 with ⟨g5, g6⟩ | ⟨g5, g6⟩
            all_goals try omega
            clear g6
            rcases g7 with ⟨g7, g8⟩ | ⟨g7, g8⟩
            all_goals try omega
            clear g8
            have L0 := hide (Lv.start w)
            go_enter Try.func36, Try.ntmps36
            go_wp2
            go_quiet ((first | (go_at_call 65; first | with_reducible exact still_call (H1.out _) | with_reducible exact still_call (H2.out _) | with_reducible exact quiet_same2 (H1.out _) | with_reducible exact quiet_same2 (H2.out _)) | (go_at_call 64; first | with_reducible exact still_call (H3.out _) | with_reducible exact quiet_same2 (H3.out _))))
            have L1 := hide (((L0.out.put [.int .i64 m, .int .i64 D] 25).put [.int .i64 0, .int .i64 0] 23).drewN nq)
            have F1 := L1.out.at
            simp only [AllAt, CellsAt, updL, List.map, Nat.zero_add, Nat.reduceAdd, and_true, World.size_alloc, World.heap_drewN, heap_drew, size_set, Nat.add_eq_left, Nat.left_eq_add, Nat.add_right_cancel_iff, ne_up2, ne_dn2, ne_up3, ne_dn3, ne_up4, ne_dn4, Nat.reduceEqDiff, Nat.one_ne_zero, Nat.succ_ne_zero, Nat.zero_ne_one, reduceIte, List.set_cons_zero, List.set_cons_succ] at F1
            go_wp2_with fail
            refine (H4.out _).mono ?_
            rintro e w4 ⟨rfl, k, rfl⟩
            have L2 := hide (L1.out.drewN k)
            clear F1
            have F2 := L2.out.at
            simp only [AllAt, CellsAt, updL, List.map, Nat.zero_add, Nat.reduceAdd, and_true, World.size_alloc, World.heap_drewN, heap_drew, size_set, Nat.add_eq_left, Nat.left_eq_add, Nat.add_right_cancel_iff, ne_up2, ne_dn2, ne_up3, ne_dn3, ne_up4, ne_dn4, Nat.reduceEqDiff, Nat.one_ne_zero, Nat.succ_ne_zero, Nat.zero_ne_one, reduceIte, List.set_cons_zero, List.set_cons_succ] at F2
            go_wp2
            refine bodyPost_ret (v := .tuple #[.agg #[.int .i64 (-(q : Int)), .int .i64 (-(q : Int))], .bool true]) (by simp [results, Try.results36, go_sem, F2]) rfl ⟨by rw [HQ.out], ?_⟩
            repeat (first | (with_reducible exact L2.out.below) | refine Below.setCell ?_ (by first | omega | (simp; done) | (simp; omega)) _ | refine Below.alloc ?_ (by first | omega | (simp; done) | (simp; omega)) _ | refine below_drewN ?_ _ | refine Below.drew ?_)
            all_goals first | exact Below.refl _ _ | skip
        · by_cases hm0 : m < 0
          · have g1 : (!decide (m < 0)) = !(decide (m < 0)) := rfl
            have g2 : ((!decide (m < 0)) = true ∧ ¬ m < 0) ∨ ((!decide (m < 0)) = false ∧ m < 0) := by by_cases h : m < 0 <;> simp [h]
            have g3 := g2
            clear g1 g2
            have g7 : ((!decide (n < 0)) = true ∧ ¬ n < 0) ∨ ((!decide (n < 0)) = false ∧ n < 0) := by by_cases h : n < 0 <;> simp [h]
            have g5 : ((!(decide (n < 0) == decide (m < 0))) = true ∧ ¬ (n < 0 ↔ m < 0)) ∨ ((!(decide (n < 0) == decide (m < 0))) = false ∧ (n < 0 ↔ m < 0)) := by by_cases h : m < 0 <;> by_cases k : n < 0 <;> simp [h, k]
            have e0 := other (by omega)
            have e1 : n * m / (D : Int) = -(q : Int) := by rw [e0]; omega
            have e2 : -(-(n * m) / (D : Int)) = -(q : Int) := by rw [e0]; first | (rw [hneg]; omega) | (rw [Int.neg_neg, hpos])
            have HQ : Hid (encR n m (D : Int) = .tuple #[.agg #[.int .i64 (-(q : Int)), .int .i64 (-(q : Int))], .bool true]) := by
              unfold Hid
              rw [HV, e1, e2]
            clear HV same other hneg hpos e0 e1 e2
            rcases g3 with ⟨g3, g4⟩ | ⟨g3, g4⟩
            all_goals try omega
            clear g4
            rcases g5 with ⟨g5, g6⟩ | ⟨g5, g6⟩
            all_goals try omega
            clear g6
            rcases g7 with ⟨g7, g8⟩ | ⟨g7, g8⟩
            all_goals try omega
            clear g8
            have L0 := hide (Lv.start w)
            go_enter Try.func36, Try.ntmps36
            go_wp2
            go_quiet ((first | (go_at_call 65; first | with_reducible exact still_call (H1.out _) | with_reducible exact still_call (H2.out _) | with_reducible exact quiet_same2 (H1.out _) | with_reducible exact quiet_same2 (H2.out _)) | (go_at_call 64; first | with_reducible exact still_call (H3.out _) | with_reducible exact quiet_same2 (H3.out _))))
            have L1 := hide (((L0.out.put [.int .i64 m, .int .i64 D] 25).put [.int .i64 0, .int .i64 0] 23).drewN nq)
            have F1 := L1.out.at
            simp only [AllAt, CellsAt, updL, List.map, Nat.zero_add, Nat.reduceAdd, and_true, World.size_alloc, World.heap_drewN, heap_drew, size_set, Nat.add_eq_left, Nat.left_eq_add, Nat.add_right_cancel_iff, ne_up2, ne_dn2, ne_up3, ne_dn3, ne_up4, ne_dn4, Nat.reduceEqDiff, Nat.one_ne_zero, Nat.succ_ne_zero, Nat.zero_ne_one, reduceIte, List.set_cons_zero, List.set_cons_succ] at F1
            go_wp2_with fail
            refine (H4.out _).mono ?_
            rintro e w4 ⟨rfl, k, rfl⟩
            have L2 := hide (L1.out.drewN k)
            clear F1
            have F2 := L2.out.at
            simp only [AllAt, CellsAt, updL, List.map, Nat.zero_add, Nat.reduceAdd, and_true, World.size_alloc, World.heap_drewN, heap_drew, size_set, Nat.add_eq_left, Nat.left_eq_add, Nat.add_right_cancel_iff, ne_up2, ne_dn2, ne_up3, ne_dn3, ne_up4, ne_dn4, Nat.reduceEqDiff, Nat.one_ne_zero, Nat.succ_ne_zero, Nat.zero_ne_one, reduceIte, List.set_cons_zero, List.set_cons_succ] at F2
            go_wp2
            refine bodyPost_ret (v := .tuple #[.agg #[.int .i64 (-(q : Int)), .int .i64 (-(q : Int))], .bool true]) (by simp [results, Try.results36, go_sem, F2]) rfl ⟨by rw [HQ.out], ?_⟩
            repeat (first | (with_reducible exact L2.out.below) | refine Below.setCell ?_ (by first | omega | (simp; done) | (simp; omega)) _ | refine Below.alloc ?_ (by first | omega | (simp; done) | (simp; omega)) _ | refine below_drewN ?_ _ | refine Below.drew ?_)
            all_goals first | exact Below.refl _ _ | skip
          · have g1 : (!decide (m < 0)) = !(decide (m < 0)) := rfl
            have g2 : ((!decide (m < 0)) = true ∧ ¬ m < 0) ∨ ((!decide (m < 0)) = false ∧ m < 0) := by by_cases h : m < 0 <;> simp [h]
            have g3 := g2
            clear g1 g2
            have g7 : ((!decide (n < 0)) = true ∧ ¬ n < 0) ∨ ((!decide (n < 0)) = false ∧ n < 0) := by by_cases h : n < 0 <;> simp [h]
            have g5 : ((!(decide (n < 0) == decide (m < 0))) = true ∧ ¬ (n < 0 ↔ m < 0)) ∨ ((!(decide (n < 0) == decide (m < 0))) = false ∧ (n < 0 ↔ m < 0)) := by by_cases h : m < 0 <;> by_cases k : n < 0 <;> simp [h, k]
            have e0 := same (by omega)
            have e1 : n * m / (D : Int) = (q : Int) := by rw [e0]; omega
            have e2 : -(-(n * m) / (D : Int)) = (q : Int) := by rw [e0]; first | (rw [hneg]; omega) | (rw [Int.neg_neg, hpos])
            have HQ : Hid (encR n m (D : Int) = .tuple #[.agg #[.int .i64 ((q : Int)), .int .i64 ((q : Int))], .bool true]) := by
              unfold Hid
              rw [HV, e1, e2]
            clear HV same other hneg hpos e0 e1 e2
            rcases g3 with ⟨g3, g4⟩ | ⟨g3, g4⟩
            all_goals try omega
            clear g4
            rcases g5 with ⟨g5, g6⟩ | ⟨g5, g6⟩
            all_goals try omega
            clear g6
            rcases g7 with ⟨g7, g8⟩ | ⟨g7, g8⟩
            all_goals try omega
            clear g8
            have L0 := hide (Lv.start w)
            go_enter Try.func36, Try.ntmps36
            go_wp2
            go_quiet ((first | (go_at_call 65; first | with_reducible exact still_call (H1.out _) | with_reducible exact still_call (H2.out _) | with_reducible exact quiet_same2 (H1.out _) | with_reducible exact quiet_same2 (H2.out _)) | (go_at_call 64; first | with_reducible exact still_call (H3.out _) | with_reducible exact quiet_same2 (H3.out _))))
            have L1 := hide (((L0.out.put [.int .i64 m, .int .i64 D] 25).put [.int .i64 0, .int .i64 0] 23).drewN nq)
            have F1 := L1.out.at
            simp only [AllAt, CellsAt, updL, List.map, Nat.zero_add, Nat.reduceAdd, and_true, World.size_alloc, World.heap_drewN, heap_drew, size_set, Nat.add_eq_left, Nat.left_eq_add, Nat.add_right_cancel_iff, ne_up2, ne_dn2, ne_up3, ne_dn3, ne_up4, ne_dn4, Nat.reduceEqDiff, Nat.one_ne_zero, Nat.succ_ne_zero, Nat.zero_ne_one, reduceIte, List.set_cons_zero, List.set_cons_succ] at F1
            go_wp2_with fail
            refine (H4.out _).mono ?_
            rintro e w4 ⟨rfl, k, rfl⟩
            have L2 := hide (L1.out.drewN k)
            clear F1
            have F2 := L2.out.at
            simp only [AllAt, CellsAt, updL, List.map, Nat.zero_add, Nat.reduceAdd, and_true, World.size_alloc, World.heap_drewN, heap_drew, size_set, Nat.add_eq_left, Nat.left_eq_add, Nat.add_right_cancel_iff, ne_up2, ne_dn2, ne_up3, ne_dn3, ne_up4, ne_dn4, Nat.reduceEqDiff, Nat.one_ne_zero, Nat.succ_ne_zero, Nat.zero_ne_one, reduceIte, List.set_cons_zero, List.set_cons_succ] at F2
            go_wp2
            refine bodyPost_ret (v := .tuple #[.agg #[.int .i64 ((q : Int)), .int .i64 ((q : Int))], .bool true]) (by simp [results, Try.results36, go_sem, F2]) rfl ⟨by rw [HQ.out], ?_⟩
            repeat (first | (with_reducible exact L2.out.below) | refine Below.setCell ?_ (by first | omega | (simp; done) | (simp; omega)) _ | refine Below.alloc ?_ (by first | omega | (simp; done) | (simp; omega)) _ | refine below_drewN ?_ _ | refine Below.drew ?_)
            all_goals first | exact Below.refl _ _ | skip
end Go.Proofs.Ytnilfacofikoaaa
