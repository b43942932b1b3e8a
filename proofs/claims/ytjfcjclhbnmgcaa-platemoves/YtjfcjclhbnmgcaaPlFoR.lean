/- Contracts of agrafferef03.CheckForces, Plus, Cross, Sum. Every bound is a premise of the theorem that bears it. -/
import Derived.Test.YtjfcjclhbnmgcaaPlFo3
import Derived.Test.YtjfcjclhbnmgcaaPlRefS
namespace Go.Proofs.Ytjfcjclhbnmgcaa
open Go.RowKit
set_option linter.unusedVariables false
set_option linter.unusedSimpArgs false


set_option maxHeartbeats 4000000 in
set_option maxRecDepth 100000 in
theorem refForces_any (A : Option Addr) (n cap : Nat) (z : Nat → Nat → Int) (w : World) (hD : RowM 6 w w.heap.size A n z) :
    Calls Try.prog 21 #[.slice A n cap] w fun e w' => e = .returned (.int .i64 (frcE z n)) ∧ Below w.heap.size w w' := by
  by_cases h8 : (300 : Int) < n
  · have HE : Hid (frcE z n = 8) := if_pos h8
    rw [HE.out]
    go_enter Try.func21, Try.ntmps21
    go_wp2
    go_ret
    exact ⟨rfl, Below.refl _ _⟩
  · have HE : Hid (frcE z n = if frcTo z n = true then 0 else 2) := if_neg h8
    have HD := hide hD
    clear hD
    have L0 := hide (Lv.start w)
    go_enter Try.func21, Try.ntmps21
    go_wp2
    go_loopw [3] (fun i wr => ∃ k : Nat, k ≤ n ∧ i = .int .i64 k ∧ Hid (frcTo z k = true) ∧ Hid (Lv w wr [])) (fun i _ => n - (intOf i).toNat)
    case atStart => exact ⟨0, by omega, rfl, rfl, L0⟩
    case round =>
      obtain ⟨k, hk, rfl, HK, L1⟩ := hrel
      clear L0
      by_cases hlt : k < n
      · obtain ⟨b, off, rfl, hb, hc⟩ := HD.out (by omega)
        obtain ⟨x0, e0⟩ : ∃ x, x = z k 0 := ⟨_, rfl⟩
        obtain ⟨x1, e1⟩ : ∃ x, x = z k 1 := ⟨_, rfl⟩
        obtain ⟨x2, e2⟩ : ∃ x, x = z k 2 := ⟨_, rfl⟩
        obtain ⟨x3, e3⟩ : ∃ x, x = z k 3 := ⟨_, rfl⟩
        obtain ⟨x4, e4⟩ : ∃ x, x = z k 4 := ⟨_, rfl⟩
        obtain ⟨x5, e5⟩ : ∃ x, x = z k 5 := ⟨_, rfl⟩
        have HQ : Hid (w.cell? ⟨b, off + k * 6, none⟩ = some (.int .i64 x0) ∧ w.cell? ⟨b, off + k * 6 + 1, none⟩ = some (.int .i64 x1) ∧ w.cell? ⟨b, off + k * 6 + 2, none⟩ = some (.int .i64 x2) ∧ w.cell? ⟨b, off + k * 6 + 3, none⟩ = some (.int .i64 x3) ∧ w.cell? ⟨b, off + k * 6 + 4, none⟩ = some (.int .i64 x4) ∧ w.cell? ⟨b, off + k * 6 + 5, none⟩ = some (.int .i64 x5)) := hide ⟨by rw [e0]; exact hc k hlt 0 (by omega), by rw [e1]; exact hc k hlt 1 (by omega), by rw [e2]; exact hc k hlt 2 (by omega), by rw [e3]; exact hc k hlt 3 (by omega), by rw [e4]; exact hc k hlt 4 (by omega), by rw [e5]; exact hc k hlt 5 (by omega)⟩
        clear hc
        have hlt' : (k : Int) < (n : Int) := by omega
        have hk0 : (0 : Int) ≤ (k : Int) := by omega
        have hsz := L1.out.size
        have hbr : b < wr.heap.size := by omega
        have q0 := (L1.out.below.cell (by exact hb)).trans HQ.out.1
        have q1 := (L1.out.below.cell (by exact hb)).trans HQ.out.2.1
        have q2 := (L1.out.below.cell (by exact hb)).trans HQ.out.2.2.1
        have q3 := (L1.out.below.cell (by exact hb)).trans HQ.out.2.2.2.1
        have q4 := (L1.out.below.cell (by exact hb)).trans HQ.out.2.2.2.2.1
        have q5 := (L1.out.below.cell (by exact hb)).trans HQ.out.2.2.2.2.2
        have HS : Hid (frcTo z (k + 1) = okPu z k) := hide (by rw [frcTo, HK.out, Bool.true_and])
        have HO : Hid (okPu z k = (inV x0 x1 x2 1000000 && inV x3 x4 x5 1000000000)) := hide (by unfold okPu; rw [e0, e1, e2, e3, e4, e5])
        have HBAD : Hid (okPu z k = false → frcE z n = 2) := hide (fun h => HE.out.trans (if_neg (by rw [frc_bad h n hlt]; simp)))
        clear e0 e1 e2 e3 e4 e5
        by_cases g1 : inV x0 x1 x2 1000000 = true
        · have H1 := hide g1
          by_cases g2 : inV x3 x4 x5 1000000000 = true
          · have HG : Hid (frcTo z (k + 1) = true) := hide (by rw [HS.out, HO.out, g1, g2]; rfl)
            have HV := hide g2
            clear g1 g2
            go_wp2_with fail
            refine Lv.call (refPlace_any x0 x1 x2 _) L1.out ?_
            intro w2 L2'
            have L2 := hide L2'
            have F2 := L2'.at
            clear L2'
            simp only [AllAt, CellsAt, updL, List.map, Nat.zero_add, Nat.reduceAdd, and_true, World.size_alloc, World.heap_drewN, heap_drew, size_set, Nat.add_eq_left, Nat.left_eq_add, Nat.add_right_cancel_iff, ne_up2, ne_dn2, ne_up3, ne_dn3, ne_up4, ne_dn4, Nat.reduceEqDiff, Nat.one_ne_zero, Nat.succ_ne_zero, Nat.zero_ne_one, reduceIte, List.set_cons_zero, List.set_cons_succ] at F2
            rw [H1.out]
            have q0 := (L2.out.below.cell (by exact hb)).trans HQ.out.1
            have q1 := (L2.out.below.cell (by exact hb)).trans HQ.out.2.1
            have q2 := (L2.out.below.cell (by exact hb)).trans HQ.out.2.2.1
            have q3 := (L2.out.below.cell (by exact hb)).trans HQ.out.2.2.2.1
            have q4 := (L2.out.below.cell (by exact hb)).trans HQ.out.2.2.2.2.1
            have q5 := (L2.out.below.cell (by exact hb)).trans HQ.out.2.2.2.2.2
            have hbr2 : b < w2.heap.size := by omega
            go_wp2_with fail
            refine Lv.call (refSize_any x3 x4 x5 1000000000 _ (by omega)) L2.out ?_
            intro w3 L3'
            have L3 := hide L3'
            have F3 := L3'.at
            clear L3'
            simp only [AllAt, CellsAt, updL, List.map, Nat.zero_add, Nat.reduceAdd, and_true, World.size_alloc, World.heap_drewN, heap_drew, size_set, Nat.add_eq_left, Nat.left_eq_add, Nat.add_right_cancel_iff, ne_up2, ne_dn2, ne_up3, ne_dn3, ne_up4, ne_dn4, Nat.reduceEqDiff, Nat.one_ne_zero, Nat.succ_ne_zero, Nat.zero_ne_one, reduceIte, List.set_cons_zero, List.set_cons_succ] at F3
            rw [HV.out]
            go_wp2
            go_roundw
            case rel => exact ⟨k + 1, by omega, by go_num, HG, L3⟩
            case measure => simp [intOf]; omega
          · have g2' : inV x3 x4 x5 1000000000 = false := by simpa using g2
            have HR := hide (HBAD.out (by rw [HO.out, g2', Bool.and_false]))
            have HV := hide g2'
            clear g1 g2 g2'
            go_wp2_with fail
            refine Lv.call (refPlace_any x0 x1 x2 _) L1.out ?_
            intro w2 L2'
            have L2 := hide L2'
            have F2 := L2'.at
            clear L2'
            simp only [AllAt, CellsAt, updL, List.map, Nat.zero_add, Nat.reduceAdd, and_true, World.size_alloc, World.heap_drewN, heap_drew, size_set, Nat.add_eq_left, Nat.left_eq_add, Nat.add_right_cancel_iff, ne_up2, ne_dn2, ne_up3, ne_dn3, ne_up4, ne_dn4, Nat.reduceEqDiff, Nat.one_ne_zero, Nat.succ_ne_zero, Nat.zero_ne_one, reduceIte, List.set_cons_zero, List.set_cons_succ] at F2
            rw [H1.out]
            have q0 := (L2.out.below.cell (by exact hb)).trans HQ.out.1
            have q1 := (L2.out.below.cell (by exact hb)).trans HQ.out.2.1
            have q2 := (L2.out.below.cell (by exact hb)).trans HQ.out.2.2.1
            have q3 := (L2.out.below.cell (by exact hb)).trans HQ.out.2.2.2.1
            have q4 := (L2.out.below.cell (by exact hb)).trans HQ.out.2.2.2.2.1
            have q5 := (L2.out.below.cell (by exact hb)).trans HQ.out.2.2.2.2.2
            have hbr2 : b < w2.heap.size := by omega
            go_wp2_with fail
            refine Lv.call (refSize_any x3 x4 x5 1000000000 _ (by omega)) L2.out ?_
            intro w3 L3'
            have L3 := hide L3'
            have F3 := L3'.at
            clear L3'
            simp only [AllAt, CellsAt, updL, List.map, Nat.zero_add, Nat.reduceAdd, and_true, World.size_alloc, World.heap_drewN, heap_drew, size_set, Nat.add_eq_left, Nat.left_eq_add, Nat.add_right_cancel_iff, ne_up2, ne_dn2, ne_up3, ne_dn3, ne_up4, ne_dn4, Nat.reduceEqDiff, Nat.one_ne_zero, Nat.succ_ne_zero, Nat.zero_ne_one, reduceIte, List.set_cons_zero, List.set_cons_succ] at F3
            rw [HV.out]
            go_wp2
            go_ret
            exact ⟨ret_int HR.out.symm, L3.out.below⟩
        · have g1' : inV x0 x1 x2 1000000 = false := by simpa using g1
          have H1 := hide g1'
          have HR := hide (HBAD.out (by rw [HO.out, g1', Bool.false_and]))
          clear g1 g1'
          go_wp2_with fail
          refine Lv.call (refPlace_any x0 x1 x2 _) L1.out ?_
          intro w2 L2'
          have L2 := hide L2'
          have F2 := L2'.at
          clear L2'
          simp only [AllAt, CellsAt, updL, List.map, Nat.zero_add, Nat.reduceAdd, and_true, World.size_alloc, World.heap_drewN, heap_drew, size_set, Nat.add_eq_left, Nat.left_eq_add, Nat.add_right_cancel_iff, ne_up2, ne_dn2, ne_up3, ne_dn3, ne_up4, ne_dn4, Nat.reduceEqDiff, Nat.one_ne_zero, Nat.succ_ne_zero, Nat.zero_ne_one, reduceIte, List.set_cons_zero, List.set_cons_succ] at F2
          rw [H1.out]
          go_wp2
          go_ret
          exact ⟨ret_int HR.out.symm, L2.out.below⟩
      · obtain rfl : n = k := by omega
        have HR := hide (HE.out.trans (if_pos HK.out))
        go_wp2
        go_ret
        exact ⟨ret_int HR.out.symm, L1.out.below⟩
set_option maxHeartbeats 4000000 in
set_option maxRecDepth 100000 in
theorem refPlus_any (a b c x y z u v t : Int) (w : World) (hu : IntKind.i64.wrap (a + x) = u) (hv : IntKind.i64.wrap (b + y) = v) (ht : IntKind.i64.wrap (c + z) = t) :
    Calls Try.prog 73 #[.agg #[.int .i64 a, .int .i64 b, .int .i64 c], .agg #[.int .i64 x, .int .i64 y, .int .i64 z]] w fun e w' => e = .returned (.agg #[.int .i64 u, .int .i64 v, .int .i64 t]) ∧ Below w.heap.size w w' := by
  go_enter Try.func73, Try.ntmps73
  go_wp2
  first | (refine bodyPost_ret (v := .agg #[.int .i64 u, .int .i64 v, .int .i64 t]) (by simp [results, Try.results73, go_sem]) rfl ⟨rfl, ?_⟩) | fail
  repeat (first | exact Below.refl _ _ | refine Below.setCell ?_ (by simp) _ | refine Below.alloc ?_ (by first | omega | (simp; done) | (simp; omega)) _ | refine below_drewN ?_ _ | refine Below.drew ?_)
set_option maxHeartbeats 4000000 in
set_option maxRecDepth 100000 in
theorem refCross_any (a b c x y z : Int) (w : World) (ha : -2000000 ≤ a ∧ a ≤ 2000000) (hb : -2000000 ≤ b ∧ b ≤ 2000000) (hc : -2000000 ≤ c ∧ c ≤ 2000000) (hx : -1000000000 ≤ x ∧ x ≤ 1000000000) (hy : -1000000000 ≤ y ∧ y ≤ 1000000000) (hz : -1000000000 ≤ z ∧ z ≤ 1000000000) :
    Calls Try.prog 33 #[.agg #[.int .i64 a, .int .i64 b, .int .i64 c], .agg #[.int .i64 x, .int .i64 y, .int .i64 z]] w fun e w' => e = .returned (.agg #[.int .i64 (cr b c y z), .int .i64 (cr c a z x), .int .i64 (cr a b x y)]) ∧ Below w.heap.size w w' := by
  obtain ⟨k1, k2, k3⟩ := cr_in hb hc hy hz
  obtain ⟨k4, k5, k6⟩ := cr_in hc ha hz hx
  obtain ⟨k7, k8, k9⟩ := cr_in ha hb hx hy
  have E1 : Hid (cr b c y z = b * z - c * y) := rfl
  have E2 : Hid (cr c a z x = c * x - a * z) := rfl
  have E3 : Hid (cr a b x y = a * y - b * x) := rfl
  go_enter Try.func33, Try.ntmps33
  go_wp2
  refine bodyPost_ret (v := .agg #[.int .i64 (b * z - c * y), .int .i64 (c * x - a * z), .int .i64 (a * y - b * x)]) (by simp [results, Try.results33, go_sem]) rfl ⟨by rw [E1.out, E2.out, E3.out], ?_⟩
  repeat (first | exact Below.refl _ _ | refine Below.setCell ?_ (by simp) _ | refine Below.alloc ?_ (by first | omega | (simp; done) | (simp; omega)) _ | refine below_drewN ?_ _ | refine Below.drew ?_)
set_option maxHeartbeats 4000000 in
set_option maxRecDepth 100000 in
theorem refSum_any (A : Option Addr) (n cap : Nat) (z : Nat → Nat → Int) (w : World) (hD : RowM 6 w w.heap.size A n z) (hn : n ≤ 305) (hF : ∀ k, k < n → FrcIn z k) :
    Calls Try.prog 23 #[.slice A n cap] w fun e w' => e = .returned (sum3 z n) ∧ Below w.heap.size w w' := by
  have HD := hide hD
  have HF := hide hF
  have HI3 := hide (fun k hk => sumTo_in (fun k hk => (hF k hk).f0) k hk)
  have HI4 := hide (fun k hk => sumTo_in (fun k hk => (hF k hk).f1) k hk)
  have HI5 := hide (fun k hk => sumTo_in (fun k hk => (hF k hk).f2) k hk)
  clear hD hF
  have L0 := hide (Lv.start w)
  have h0 := (L0.out.put [.int .i64 0, .int .i64 0, .int .i64 0] 23).put [.int .i64 0, .int .i64 0, .int .i64 0] 23
  simp only [World.size_alloc] at h0
  have H0 := hide h0
  clear h0
  go_enter Try.func23, Try.ntmps23
  go_wp2
  go_loopw [4] (fun i wr => ∃ k : Nat, k ≤ n ∧ i = .int .i64 k ∧ Hid (Lv w wr [(w.heap.size + 1, 23, [.int .i64 (sumTo z 3 k), .int .i64 (sumTo z 4 k), .int .i64 (sumTo z 5 k)]), (w.heap.size, 23, [.int .i64 0, .int .i64 0, .int .i64 0])])) (fun i _ => n - (intOf i).toNat)
  case atStart => exact ⟨0, by omega, rfl, H0.out⟩
  case round =>
    obtain ⟨k, hk, rfl, L1⟩ := hrel
    clear L0 H0
    have F1 := L1.out.at; simp only [AllAt, CellsAt, updL, List.map, Nat.zero_add, Nat.reduceAdd, and_true, World.size_alloc, World.heap_drewN, heap_drew, size_set, Nat.add_eq_left, Nat.left_eq_add, Nat.add_right_cancel_iff, ne_up2, ne_dn2, ne_up3, ne_dn3, ne_up4, ne_dn4, Nat.reduceEqDiff, Nat.one_ne_zero, Nat.succ_ne_zero, Nat.zero_ne_one, reduceIte, List.set_cons_zero, List.set_cons_succ] at F1
    by_cases hlt : k < n
    · obtain ⟨b, off, rfl, hb, hc⟩ := HD.out (by omega)
      obtain ⟨x0, e0⟩ : ∃ x, x = z k 0 := ⟨_, rfl⟩
      obtain ⟨x1, e1⟩ : ∃ x, x = z k 1 := ⟨_, rfl⟩
      obtain ⟨x2, e2⟩ : ∃ x, x = z k 2 := ⟨_, rfl⟩
      obtain ⟨x3, e3⟩ : ∃ x, x = z k 3 := ⟨_, rfl⟩
      obtain ⟨x4, e4⟩ : ∃ x, x = z k 4 := ⟨_, rfl⟩
      obtain ⟨x5, e5⟩ : ∃ x, x = z k 5 := ⟨_, rfl⟩
      have HQ : Hid (w.cell? ⟨b, off + k * 6, none⟩ = some (.int .i64 x0) ∧ w.cell? ⟨b, off + k * 6 + 1, none⟩ = some (.int .i64 x1) ∧ w.cell? ⟨b, off + k * 6 + 2, none⟩ = some (.int .i64 x2) ∧ w.cell? ⟨b, off + k * 6 + 3, none⟩ = some (.int .i64 x3) ∧ w.cell? ⟨b, off + k * 6 + 4, none⟩ = some (.int .i64 x4) ∧ w.cell? ⟨b, off + k * 6 + 5, none⟩ = some (.int .i64 x5)) := hide ⟨by rw [e0]; exact hc k hlt 0 (by omega), by rw [e1]; exact hc k hlt 1 (by omega), by rw [e2]; exact hc k hlt 2 (by omega), by rw [e3]; exact hc k hlt 3 (by omega), by rw [e4]; exact hc k hlt 4 (by omega), by rw [e5]; exact hc k hlt 5 (by omega)⟩
      clear hc
      have hlt' : (k : Int) < (n : Int) := by omega
      have hk0 : (0 : Int) ≤ (k : Int) := by omega
      have hsz := L1.out.size
      have hbr : b < wr.heap.size := by omega
      have q0 := (L1.out.below.cell (by exact hb)).trans HQ.out.1
      have q1 := (L1.out.below.cell (by exact hb)).trans HQ.out.2.1
      have q2 := (L1.out.below.cell (by exact hb)).trans HQ.out.2.2.1
      have q3 := (L1.out.below.cell (by exact hb)).trans HQ.out.2.2.2.1
      have q4 := (L1.out.below.cell (by exact hb)).trans HQ.out.2.2.2.2.1
      have q5 := (L1.out.below.cell (by exact hb)).trans HQ.out.2.2.2.2.2
      obtain ⟨_, _, _, i3, i4, i5⟩ := HF.out k hlt
      rw [← e3] at i3
      rw [← e4] at i4
      rw [← e5] at i5
      have s3 := HI3.out k hk
      have s4 := HI4.out k hk
      have s5 := HI5.out k hk
      have HS3 : Hid (sumTo z 3 (k + 1) = sumTo z 3 k + x3) := hide (by rw [sumTo, e3])
      have HS4 : Hid (sumTo z 4 (k + 1) = sumTo z 4 k + x4) := hide (by rw [sumTo, e4])
      have HS5 : Hid (sumTo z 5 (k + 1) = sumTo z 5 k + x5) := hide (by rw [sumTo, e5])
      clear e0 e1 e2 e3 e4 e5
      obtain ⟨a, ha⟩ : ∃ x, x = sumTo z 3 k := ⟨_, rfl⟩
      obtain ⟨b', hb'⟩ : ∃ x, x = sumTo z 4 k := ⟨_, rfl⟩
      obtain ⟨c, hc⟩ : ∃ x, x = sumTo z 5 k := ⟨_, rfl⟩
      rw [← ha] at s3 HS3
      rw [← hb'] at s4 HS4
      rw [← hc] at s5 HS5
      rw [← ha, ← hb', ← hc] at L1 F1
      clear ha hb' hc
      have CP := hide (fun W => refPlus_any a b' c x3 x4 x5 (a + x3) (b' + x4) (c + x5) W (by rw [IntKind.wrap_i64]; omega) (by rw [IntKind.wrap_i64]; omega) (by rw [IntKind.wrap_i64]; omega))
      clear s3 s4 s5 i3 i4 i5
      have hgr : w.heap.size ≤ w.heap.size + 1 := by omega
      go_wp2
      (first | (go_region_with (first | (go_at_call 73; refine Lv.call (CP.out _) (L1.out.drew) ?_; intro w2 L2'; have L2 := hide L2'; have F2 := L2'.at; clear L2'; simp only [AllAt, CellsAt, updL, List.map, Nat.zero_add, Nat.reduceAdd, and_true, World.size_alloc, World.heap_drewN, heap_drew, size_set, Nat.add_eq_left, Nat.left_eq_add, Nat.add_right_cancel_iff, ne_up2, ne_dn2, ne_up3, ne_dn3, ne_up4, ne_dn4, Nat.reduceEqDiff, Nat.one_ne_zero, Nat.succ_ne_zero, Nat.zero_ne_one, reduceIte, List.set_cons_zero, List.set_cons_succ] at F2) | fail)) | fail)
      all_goals
        have h := ((L2.out.set (w.heap.size + 1) 0 (.int .i64 (a + x3)) hgr).set (w.heap.size + 1) 1 (.int .i64 (b' + x4)) hgr).set (w.heap.size + 1) 2 (.int .i64 (c + x5)) hgr
        simp only [updL, List.map, World.size_alloc, Nat.add_eq_left, Nat.left_eq_add, Nat.add_right_cancel_iff, ne_up2, ne_dn2, Nat.reduceEqDiff, Nat.one_ne_zero, Nat.succ_ne_zero, Nat.zero_ne_one, reduceIte, List.set_cons_zero, List.set_cons_succ] at h
        have L3 := hide h
        clear h
        go_wp2
        go_roundw
        case rel => exact ⟨k + 1, by omega, by go_num, by rw [HS3.out, HS4.out, HS5.out]; exact L3⟩
        case measure => simp [intOf]; omega
    · obtain rfl : n = k := by omega
      go_wp2
      refine bodyPost_ret (v := sum3 z n) (by simp [results, Try.results23, go_sem, F1, sum3]) rfl ⟨rfl, ?_⟩
      repeat (first | (with_reducible exact L1.out.below) | refine Below.setCell ?_ (by first | omega | (simp; done) | (simp; omega)) _ | refine Below.alloc ?_ (by first | omega | (simp; done) | (simp; omega)) _ | refine below_drewN ?_ _ | refine Below.drew ?_)
end Go.Proofs.Ytjfcjclhbnmgcaa
