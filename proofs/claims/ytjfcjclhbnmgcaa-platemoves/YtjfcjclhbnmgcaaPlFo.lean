/- Contracts of plate.CheckForces, sumOf, momentOf and of vector.cross. Every bound is a premise of the theorem that bears it. -/
import Derived.Test.YtjfcjclhbnmgcaaPlFoM
import Derived.Test.YtjfcjclhbnmgcaaPlArr
import Derived.Test.YtjfcjclhbnmgcaaFlatRows
namespace Go.Proofs.Ytjfcjclhbnmgcaa
open Go.RowKit
set_option linter.unusedVariables false
set_option linter.unusedSimpArgs false

set_option maxHeartbeats 4000000 in
set_option maxRecDepth 100000 in
theorem plForces_any (A : Option Addr) (n cap : Nat) (z : Nat → Nat → Int) (w : World) (hD : RowM 6 w w.heap.size A n z) :
    Calls Try.prog 22 #[.slice A n cap] w fun e w' => e = .returned (.int .i64 (frcE z n)) ∧ Below w.heap.size w w' := by
  by_cases h8 : (300 : Int) < n
  · have HE : Hid (frcE z n = 8) := if_pos h8
    rw [HE.out]
    go_enter Try.func22, Try.ntmps22
    go_wp2
    go_ret
    exact ⟨rfl, Below.refl _ _⟩
  · have HE : Hid (frcE z n = if frcTo z n = true then 0 else 2) := if_neg h8
    have HD := hide hD
    clear hD
    have L0 := hide (Lv.start w)
    go_enter Try.func22, Try.ntmps22
    go_wp2
    go_loopw [4, 5, 11] (fun _ _ i wr => ∃ k : Nat, k ≤ n ∧ i = .int .i64 k ∧ Hid (frcTo z k = true) ∧ Hid (Lv w wr [])) (fun _ _ i _ => n - (intOf i).toNat)
    case atStart => exact ⟨0, by omega, rfl, rfl, L0⟩
    case round =>
      obtain ⟨k, hk, rfl, HK, L1⟩ := hrel
      clear L0
      by_cases hlt : k < n
      · obtain ⟨b, off, rfl, hb, hc⟩ := HD.out (by omega)
        have hsz := L1.out.size
        have hbr : b < wr.heap.size := by omega
        have q0 := (L1.out.below.cell (by exact hb)).trans (hc k hlt 0 (by omega))
        have q1 := (L1.out.below.cell (by exact hb)).trans (hc k hlt 1 (by omega))
        have q2 := (L1.out.below.cell (by exact hb)).trans (hc k hlt 2 (by omega))
        have q3 := (L1.out.below.cell (by exact hb)).trans (hc k hlt 3 (by omega))
        have q4 := (L1.out.below.cell (by exact hb)).trans (hc k hlt 4 (by omega))
        have q5 := (L1.out.below.cell (by exact hb)).trans (hc k hlt 5 (by omega))
        rw [Nat.add_zero] at q0
        clear hc
        obtain ⟨x0, e0⟩ : ∃ x, x = z k 0 := ⟨_, rfl⟩
        obtain ⟨x1, e1⟩ : ∃ x, x = z k 1 := ⟨_, rfl⟩
        obtain ⟨x2, e2⟩ : ∃ x, x = z k 2 := ⟨_, rfl⟩
        obtain ⟨x3, e3⟩ : ∃ x, x = z k 3 := ⟨_, rfl⟩
        obtain ⟨x4, e4⟩ : ∃ x, x = z k 4 := ⟨_, rfl⟩
        obtain ⟨x5, e5⟩ : ∃ x, x = z k 5 := ⟨_, rfl⟩
        rw [← e0] at q0
        rw [← e1] at q1
        rw [← e2] at q2
        rw [← e3] at q3
        rw [← e4] at q4
        rw [← e5] at q5
        have hlt' : (k : Int) < (n : Int) := by omega
        have HS : Hid (frcTo z (k + 1) = okPu z k) := hide (by rw [frcTo, HK.out, Bool.true_and])
        have HO : Hid (okPu z k = (inV x0 x1 x2 1000000 && inV x3 x4 x5 1000000000)) := hide (by unfold okPu; rw [e0, e1, e2, e3, e4, e5])
        have HBAD : Hid (okPu z k = false → frcE z n = 2) := hide (fun h => HE.out.trans (if_neg (by rw [frc_bad h n hlt]; simp)))
        clear e0 e1 e2 e3 e4 e5
        by_cases g1 : inV x0 x1 x2 1000000 = true
        · have H1 : Hid (plE x0 x1 x2 = 0) := if_pos g1
          by_cases g2 : inV x3 x4 x5 1000000000 = true
          · have HG : Hid (frcTo z (k + 1) = true) := hide (by rw [HS.out, HO.out, g1, g2]; rfl)
            have HV := hide g2
            clear g1 g2
            go_wp2_with fail
            refine Lv.call (plPlace_any x0 x1 x2 _) (L1.out.put _ _) ?_
            intro w2 L2'
            have L2 := hide L2'
            have F2 := L2'.at
            clear L2'
            simp only [AllAt, CellsAt, updL, List.map, Nat.zero_add, Nat.reduceAdd, and_true, World.size_alloc, World.heap_drewN, heap_drew, size_set, Nat.add_eq_left, Nat.left_eq_add, Nat.add_right_cancel_iff, ne_up2, ne_dn2, ne_up3, ne_dn3, ne_up4, ne_dn4, Nat.reduceEqDiff, Nat.one_ne_zero, Nat.succ_ne_zero, Nat.zero_ne_one, reduceIte, List.set_cons_zero, List.set_cons_succ] at F2
            rw [H1.out]
            go_wp2
            (first | (go_region_with (first | (go_at_call 72; refine (plWithin_any _ _).mono ?_; rintro e w' ⟨rfl, rfl⟩) | (go_at_call 71; refine Lv.call (plAll_any x3 x4 x5 1000000000 _ _ (by omega) (by omega) (by first | exact Blk.new _ _ _ _ (by simp) | exact (Blk.new _ _ _ _ (by simp)).drew)) ((L2.out.put _ _).drew) ?_; intro w3 L3'; have L3 := hide L3'; have F3 := L3'.at; clear L3'; simp only [AllAt, CellsAt, updL, List.map, Nat.zero_add, Nat.reduceAdd, and_true, World.size_alloc, World.heap_drewN, heap_drew, size_set, Nat.add_eq_left, Nat.left_eq_add, Nat.add_right_cancel_iff, ne_up2, ne_dn2, ne_up3, ne_dn3, ne_up4, ne_dn4, Nat.reduceEqDiff, Nat.one_ne_zero, Nat.succ_ne_zero, Nat.zero_ne_one, reduceIte, List.set_cons_zero, List.set_cons_succ] at F3; rw [HV.out]))) | fail)
            all_goals
              go_wp2
              go_roundw
              case rel => exact ⟨k + 1, by omega, by go_num, HG, hide (L3.out.of (by simp))⟩
              case measure => simp [intOf]; omega
          · have g2' : inV x3 x4 x5 1000000000 = false := by simpa using g2
            have HR := hide (HBAD.out (by rw [HO.out, g2', Bool.and_false]))
            have HV := hide g2'
            clear g1 g2 g2'
            go_wp2_with fail
            refine Lv.call (plPlace_any x0 x1 x2 _) (L1.out.put _ _) ?_
            intro w2 L2'
            have L2 := hide L2'
            have F2 := L2'.at
            clear L2'
            simp only [AllAt, CellsAt, updL, List.map, Nat.zero_add, Nat.reduceAdd, and_true, World.size_alloc, World.heap_drewN, heap_drew, size_set, Nat.add_eq_left, Nat.left_eq_add, Nat.add_right_cancel_iff, ne_up2, ne_dn2, ne_up3, ne_dn3, ne_up4, ne_dn4, Nat.reduceEqDiff, Nat.one_ne_zero, Nat.succ_ne_zero, Nat.zero_ne_one, reduceIte, List.set_cons_zero, List.set_cons_succ] at F2
            rw [H1.out]
            go_wp2
            (first | (go_region_with (first | (go_at_call 72; refine (plWithin_any _ _).mono ?_; rintro e w' ⟨rfl, rfl⟩) | (go_at_call 71; refine Lv.call (plAll_any x3 x4 x5 1000000000 _ _ (by omega) (by omega) (by first | exact Blk.new _ _ _ _ (by simp) | exact (Blk.new _ _ _ _ (by simp)).drew)) ((L2.out.put _ _).drew) ?_; intro w3 L3'; have L3 := hide L3'; have F3 := L3'.at; clear L3'; simp only [AllAt, CellsAt, updL, List.map, Nat.zero_add, Nat.reduceAdd, and_true, World.size_alloc, World.heap_drewN, heap_drew, size_set, Nat.add_eq_left, Nat.left_eq_add, Nat.add_right_cancel_iff, ne_up2, ne_dn2, ne_up3, ne_dn3, ne_up4, ne_dn4, Nat.reduceEqDiff, Nat.one_ne_zero, Nat.succ_ne_zero, Nat.zero_ne_one, reduceIte, List.set_cons_zero, List.set_cons_succ] at F3; rw [HV.out]))) | fail)
            all_goals
              go_wp2
              go_ret
              exact ⟨ret_int HR.out.symm, L3.out.below⟩
        · have g1' : inV x0 x1 x2 1000000 = false := by simpa using g1
          have H1 : Hid (plE x0 x1 x2 = 2) := if_neg g1
          have HR := hide (HBAD.out (by rw [HO.out, g1', Bool.false_and]))
          clear g1 g1'
          go_wp2_with fail
          refine Lv.call (plPlace_any x0 x1 x2 _) (L1.out.put _ _) ?_
          intro w2 L2'
          have L2 := hide L2'
          have F2 := L2'.at
          clear L2'
          simp only [AllAt, CellsAt, updL, List.map, Nat.zero_add, Nat.reduceAdd, and_true, World.size_alloc, World.heap_drewN, heap_drew, size_set, Nat.add_eq_left, Nat.left_eq_add, Nat.add_right_cancel_iff, ne_up2, ne_dn2, ne_up3, ne_dn3, ne_up4, ne_dn4, Nat.reduceEqDiff, Nat.one_ne_zero, Nat.succ_ne_zero, Nat.zero_ne_one, reduceIte, List.set_cons_zero, List.set_cons_succ] at F2
          rw [H1.out]
          go_wp2
          go_ret
          exact ⟨ret_int HR.out.symm, L2.out.below⟩
      · obtain rfl : n = k := by omega
        have HR := hide (HE.out.trans (if_pos HK.out))
        go_wp2
        go_ret
        exact ⟨ret_int HR.out.symm, L1.out.below⟩
set_option maxHeartbeats 4000000 in
set_option maxRecDepth 100000 in
theorem plCross_any (a b c x y z : Int) (w : World) (ha : -2000000 ≤ a ∧ a ≤ 2000000) (hb : -2000000 ≤ b ∧ b ≤ 2000000) (hc : -2000000 ≤ c ∧ c ≤ 2000000) (hx : -1000000000 ≤ x ∧ x ≤ 1000000000) (hy : -1000000000 ≤ y ∧ y ≤ 1000000000) (hz : -1000000000 ≤ z ∧ z ≤ 1000000000) :
    Calls Try.prog 104 #[.agg #[.int .i64 a, .int .i64 b, .int .i64 c], .agg #[.int .i64 x, .int .i64 y, .int .i64 z]] w fun e w' => e = .returned (.agg #[.int .i64 (cr b c y z), .int .i64 (cr c a z x), .int .i64 (cr a b x y)]) ∧ Below w.heap.size w w' := by
  obtain ⟨k1, k2, k3⟩ := cr_in hb hc hy hz
  obtain ⟨k4, k5, k6⟩ := cr_in hc ha hz hx
  obtain ⟨k7, k8, k9⟩ := cr_in ha hb hx hy
  have E1 : Hid (cr b c y z = b * z - c * y) := rfl
  have E2 : Hid (cr c a z x = c * x - a * z) := rfl
  have E3 : Hid (cr a b x y = a * y - b * x) := rfl
  go_enter Try.func104, Try.ntmps104
  go_wp2
  refine bodyPost_ret (v := .agg #[.int .i64 (b * z - c * y), .int .i64 (c * x - a * z), .int .i64 (a * y - b * x)]) (by simp [results, Try.results104, go_sem]) rfl ⟨by rw [E1.out, E2.out, E3.out], ?_⟩
  repeat (first | exact Below.refl _ _ | refine Below.setCell ?_ (by simp) _ | refine Below.alloc ?_ (by first | omega | (simp; done) | (simp; omega)) _ | refine below_drewN ?_ _ | refine Below.drew ?_)
end Go.Proofs.Ytjfcjclhbnmgcaa
