/- Contracts of plate.sumOf, momentOf. Every bound is a premise of the theorem that bears it. -/
import Derived.Test.YtjfcjclhbnmgcaaPlFo
import Derived.Test.YtjfcjclhbnmgcaaPlPull
namespace Go.Proofs.Ytjfcjclhbnmgcaa
open Go.RowKit
set_option linter.unusedVariables false
set_option linter.unusedSimpArgs false

set_option maxHeartbeats 4000000 in
set_option maxRecDepth 100000 in
theorem plSumOf_any (A : Option Addr) (n cap : Nat) (z : Nat → Nat → Int) (w : World) (hD : RowM 6 w w.heap.size A n z) (hn : n ≤ 305) (hF : ∀ k, k < n → FrcIn z k) :
    Calls Try.prog 67 #[.slice A n cap] w fun e w' => e = .returned (sum3 z n) ∧ Below w.heap.size w w' := by
  have HD := hide hD
  have HF := hide hF
  have HI3 := hide (fun k hk => sumTo_in (fun k hk => (hF k hk).f0) k hk)
  have HI4 := hide (fun k hk => sumTo_in (fun k hk => (hF k hk).f1) k hk)
  have HI5 := hide (fun k hk => sumTo_in (fun k hk => (hF k hk).f2) k hk)
  clear hD hF
  have L0 := hide (Lv.start w)
  have h0 := (L0.out.put [.int .i64 0, .int .i64 0, .int .i64 0] 110).put [.int .i64 0, .int .i64 0, .int .i64 0] 110
  simp only [World.size_alloc] at h0
  have H0 := hide h0
  clear h0
  go_enter Try.func67, Try.ntmps67
  go_wp2
  go_loopw [5, 8] (fun _ i wr => ∃ k : Nat, k ≤ n ∧ i = .int .i64 k ∧ Hid (Lv w wr [(w.heap.size + 1, 110, [.int .i64 (sumTo z 3 k), .int .i64 (sumTo z 4 k), .int .i64 (sumTo z 5 k)]), (w.heap.size, 110, [.int .i64 0, .int .i64 0, .int .i64 0])])) (fun _ i _ => n - (intOf i).toNat)
  case atStart => exact ⟨0, by omega, rfl, H0.out⟩
  case round =>
    obtain ⟨k, hk, rfl, L1⟩ := hrel
    clear L0 H0
    have F1 := L1.out.at; simp only [AllAt, CellsAt, updL, List.map, Nat.zero_add, Nat.reduceAdd, and_true, World.size_alloc, World.heap_drewN, heap_drew, size_set, Nat.add_eq_left, Nat.left_eq_add, Nat.add_right_cancel_iff, ne_up2, ne_dn2, ne_up3, ne_dn3, ne_up4, ne_dn4, Nat.reduceEqDiff, Nat.one_ne_zero, Nat.succ_ne_zero, Nat.zero_ne_one, reduceIte, List.set_cons_zero, List.set_cons_succ] at F1
    by_cases hlt : k < n
    · obtain ⟨b, off, rfl, hb, hc⟩ := HD.out (by omega)
      have hsz := L1.out.size
      have hbr : b < wr.heap.size := by omega
      have q0 := (L1.out.below.cell (by exact hb)).trans (hc k hlt 0 (by omega))
      have q1 := (L1.out.below.cell (by exact hb)).trans (hc k hlt 1 (by omega))
      have q2 := (L1.out.below.cell (by exact hb)).trans (hc k hlt 2 (by omega))
      have q3 := (L1.out.below.cell (by exact hb)).trans (hc k hlt 3 (by omega))
      have q4 := (L1.out.below.cell (by exact hb)).trans (hc k hlt 4 (by omega))
      have q5 := (L1.out.below.cell (by exact hb)).trans (hc k hlt 5 (by omega))
      rw [Nat.add_zero] at q0
      clear hc
      obtain ⟨x0, e0⟩ : ∃ x, x = z k 0 := ⟨_, rfl⟩
      obtain ⟨x1, e1⟩ : ∃ x, x = z k 1 := ⟨_, rfl⟩
      obtain ⟨x2, e2⟩ : ∃ x, x = z k 2 := ⟨_, rfl⟩
      obtain ⟨x3, e3⟩ : ∃ x, x = z k 3 := ⟨_, rfl⟩
      obtain ⟨x4, e4⟩ : ∃ x, x = z k 4 := ⟨_, rfl⟩
      obtain ⟨x5, e5⟩ : ∃ x, x = z k 5 := ⟨_, rfl⟩
      rw [← e0] at q0
      rw [← e1] at q1
      rw [← e2] at q2
      rw [← e3] at q3
      rw [← e4] at q4
      rw [← e5] at q5
      have hlt' : (k : Int) < (n : Int) := by omega
      obtain ⟨_, _, _, i3, i4, i5⟩ := HF.out k hlt
      rw [← e3] at i3
      rw [← e4] at i4
      rw [← e5] at i5
      have s3 := HI3.out k hk
      have s4 := HI4.out k hk
      have s5 := HI5.out k hk
      have HS3 : Hid (sumTo z 3 (k + 1) = sumTo z 3 k + x3) := hide (by rw [sumTo, e3])
      have HS4 : Hid (sumTo z 4 (k + 1) = sumTo z 4 k + x4) := hide (by rw [sumTo, e4])
      have HS5 : Hid (sumTo z 5 (k + 1) = sumTo z 5 k + x5) := hide (by rw [sumTo, e5])
      clear e0 e1 e2 e3 e4 e5
      obtain ⟨a, ha⟩ : ∃ x, x = sumTo z 3 k := ⟨_, rfl⟩
      obtain ⟨b', hb'⟩ : ∃ x, x = sumTo z 4 k := ⟨_, rfl⟩
      obtain ⟨c, hc⟩ : ∃ x, x = sumTo z 5 k := ⟨_, rfl⟩
      rw [← ha] at s3 HS3
      rw [← hb'] at s4 HS4
      rw [← hc] at s5 HS5
      rw [← ha, ← hb', ← hc] at L1 F1
      clear ha hb' hc
      have CP := hide (fun W => plPlus_any a b' c x3 x4 x5 (a + x3) (b' + x4) (c + x5) W (by rw [IntKind.wrap_i64]; omega) (by rw [IntKind.wrap_i64]; omega) (by rw [IntKind.wrap_i64]; omega))
      have hgr : w.heap.size ≤ w.heap.size + 1 := by omega
      go_wp2_with fail
      refine Lv.call (CP.out _) (L1.out.put _ _) ?_
      intro w2 L2'
      have L2 := hide L2'
      have F2 := L2'.at
      clear L2'
      simp only [AllAt, CellsAt, updL, List.map, Nat.zero_add, Nat.reduceAdd, and_true, World.size_alloc, World.heap_drewN, heap_drew, size_set, Nat.add_eq_left, Nat.left_eq_add, Nat.add_right_cancel_iff, ne_up2, ne_dn2, ne_up3, ne_dn3, ne_up4, ne_dn4, Nat.reduceEqDiff, Nat.one_ne_zero, Nat.succ_ne_zero, Nat.zero_ne_one, reduceIte, List.set_cons_zero, List.set_cons_succ] at F2
      have h := ((L2.out.drop.set (w.heap.size + 1) 0 (.int .i64 (a + x3)) hgr).set (w.heap.size + 1) 1 (.int .i64 (b' + x4)) hgr).set (w.heap.size + 1) 2 (.int .i64 (c + x5)) hgr
      simp only [updL, List.map, World.size_alloc, Nat.add_eq_left, Nat.left_eq_add, Nat.add_right_cancel_iff, ne_up2, ne_dn2, Nat.reduceEqDiff, Nat.one_ne_zero, Nat.succ_ne_zero, Nat.zero_ne_one, reduceIte, List.set_cons_zero, List.set_cons_succ] at h
      have L3 := hide h
      clear h
      go_wp2
      go_roundw
      case rel => exact ⟨k + 1, by omega, by go_num, by rw [HS3.out, HS4.out, HS5.out]; exact L3⟩
      case measure => simp [intOf]; omega
    · obtain rfl : n = k := by omega
      go_wp2
      refine bodyPost_ret (v := sum3 z n) (by simp [results, Try.results67, go_sem, F1, sum3]) rfl ⟨rfl, ?_⟩
      repeat (first | (with_reducible exact L1.out.below) | refine Below.setCell ?_ (by first | omega | (simp; done) | (simp; omega)) _ | refine Below.alloc ?_ (by first | omega | (simp; done) | (simp; omega)) _ | refine below_drewN ?_ _ | refine Below.drew ?_)
set_option maxHeartbeats 4000000 in
set_option maxRecDepth 100000 in
theorem plMomentOf_any (A : Option Addr) (n cap : Nat) (z : Nat → Nat → Int) (a b c : Int) (w : World) (hD : RowM 6 w w.heap.size A n z) (hn : n ≤ 305) (hF : ∀ k, k < n → FrcIn z k) (ha : -1000000 ≤ a ∧ a ≤ 1000000) (hb : -1000000 ≤ b ∧ b ≤ 1000000) (hc : -1000000 ≤ c ∧ c ≤ 1000000) :
    Calls Try.prog 69 #[.slice A n cap, .agg #[.int .i64 a, .int .i64 b, .int .i64 c]] w fun e w' => e = .returned (mom3 z a b c n) ∧ Below w.heap.size w w' := by
  have HD := hide hD
  have HF := hide hF
  have HI3 := hide (fun k hk => momTo_in (fun k hk => (hF k hk).c0) hb hc k hk)
  have HI4 := hide (fun k hk => momTo_in (fun k hk => (hF k hk).c1) hc ha k hk)
  have HI5 := hide (fun k hk => momTo_in (fun k hk => (hF k hk).c2) ha hb k hk)
  obtain ⟨bb, hbb⟩ : ∃ x, x = b := ⟨_, rfl⟩
  rw [← hbb] at HI3 HI5 hb ⊢
  clear hD hF hbb
  have L0 := hide (Lv.start w)
  have h0 := ((L0.out.put [.int .i64 a, .int .i64 bb, .int .i64 c] 110).put [.int .i64 0, .int .i64 0, .int .i64 0] 110).put [.int .i64 0, .int .i64 0, .int .i64 0] 110
  simp only [World.size_alloc, Nat.add_assoc, Nat.reduceAdd] at h0
  have H0 := hide h0
  clear h0
  go_enter Try.func69, Try.ntmps69
  go_wp2
  go_loopw [7, 8, 11] (fun _ _ i wr => ∃ k : Nat, k ≤ n ∧ i = .int .i64 k ∧ Hid (Lv w wr [(w.heap.size + 2, 110, [.int .i64 (momTo z 1 2 4 5 bb c k), .int .i64 (momTo z 2 0 5 3 c a k), .int .i64 (momTo z 0 1 3 4 a bb k)]), (w.heap.size + 1, 110, [.int .i64 0, .int .i64 0, .int .i64 0]), (w.heap.size, 110, [.int .i64 a, .int .i64 bb, .int .i64 c])])) (fun _ _ i _ => n - (intOf i).toNat)
  case atStart => exact ⟨0, by omega, rfl, H0.out⟩
  case round =>
    obtain ⟨k, hk, rfl, L1⟩ := hrel
    clear L0 H0
    have F1 := L1.out.at; simp only [AllAt, CellsAt, updL, List.map, Nat.zero_add, Nat.reduceAdd, and_true, World.size_alloc, World.heap_drewN, heap_drew, size_set, Nat.add_eq_left, Nat.left_eq_add, Nat.add_right_cancel_iff, ne_up2, ne_dn2, ne_up3, ne_dn3, ne_up4, ne_dn4, Nat.reduceEqDiff, Nat.one_ne_zero, Nat.succ_ne_zero, Nat.zero_ne_one, reduceIte, List.set_cons_zero, List.set_cons_succ] at F1
    by_cases hlt : k < n
    · obtain ⟨b, off, rfl, hb, hc⟩ := HD.out (by omega)
      have hsz := L1.out.size
      have hbr : b < wr.heap.size := by omega
      have q0 := (L1.out.below.cell (by exact hb)).trans (hc k hlt 0 (by omega))
      have q1 := (L1.out.below.cell (by exact hb)).trans (hc k hlt 1 (by omega))
      have q2 := (L1.out.below.cell (by exact hb)).trans (hc k hlt 2 (by omega))
      have q3 := (L1.out.below.cell (by exact hb)).trans (hc k hlt 3 (by omega))
      have q4 := (L1.out.below.cell (by exact hb)).trans (hc k hlt 4 (by omega))
      have q5 := (L1.out.below.cell (by exact hb)).trans (hc k hlt 5 (by omega))
      rw [Nat.add_zero] at q0
      clear hc
      obtain ⟨x0, e0⟩ : ∃ x, x = z k 0 := ⟨_, rfl⟩
      obtain ⟨x1, e1⟩ : ∃ x, x = z k 1 := ⟨_, rfl⟩
      obtain ⟨x2, e2⟩ : ∃ x, x = z k 2 := ⟨_, rfl⟩
      obtain ⟨x3, e3⟩ : ∃ x, x = z k 3 := ⟨_, rfl⟩
      obtain ⟨x4, e4⟩ : ∃ x, x = z k 4 := ⟨_, rfl⟩
      obtain ⟨x5, e5⟩ : ∃ x, x = z k 5 := ⟨_, rfl⟩
      rw [← e0] at q0
      rw [← e1] at q1
      rw [← e2] at q2
      rw [← e3] at q3
      rw [← e4] at q4
      rw [← e5] at q5
      have hlt' : (k : Int) < (n : Int) := by omega
      obtain ⟨i0, i1, i2, i3, i4, i5⟩ := HF.out k hlt
      rw [← e0] at i0
      rw [← e1] at i1
      rw [← e2] at i2
      rw [← e3] at i3
      rw [← e4] at i4
      rw [← e5] at i5
      have s3 := HI3.out k hk
      have s4 := HI4.out k hk
      have s5 := HI5.out k hk
      obtain ⟨u, hu⟩ : ∃ x, x = x0 - a := ⟨_, rfl⟩
      obtain ⟨v, hv⟩ : ∃ x, x = x1 - bb := ⟨_, rfl⟩
      obtain ⟨t, ht⟩ : ∃ x, x = x2 - c := ⟨_, rfl⟩
      have HS3 : Hid (momTo z 1 2 4 5 bb c (k + 1) = momTo z 1 2 4 5 bb c k + cr v t x4 x5) := hide (by rw [momTo, hv, ht, e1, e2, e4, e5])
      have HS4 : Hid (momTo z 2 0 5 3 c a (k + 1) = momTo z 2 0 5 3 c a k + cr t u x5 x3) := hide (by rw [momTo, hu, ht, e0, e2, e3, e5])
      have HS5 : Hid (momTo z 0 1 3 4 a bb (k + 1) = momTo z 0 1 3 4 a bb k + cr u v x3 x4) := hide (by rw [momTo, hu, hv, e0, e1, e3, e4])
      clear e0 e1 e2 e3 e4 e5
      have bu : -2000000 ≤ u ∧ u ≤ 2000000 := by omega
      have bv : -2000000 ≤ v ∧ v ≤ 2000000 := by omega
      have bt : -2000000 ≤ t ∧ t ≤ 2000000 := by omega
      have HU : Hid (IntKind.i64.wrap (x0 + -a) = u) := hide (by rw [IntKind.wrap_i64]; omega)
      have HV : Hid (IntKind.i64.wrap (x1 + -bb) = v) := hide (by rw [IntKind.wrap_i64]; omega)
      have HW : Hid (IntKind.i64.wrap (x2 + -c) = t) := hide (by rw [IntKind.wrap_i64]; omega)
      clear hu hv ht
      have CC := fun W => plCross_any u v t x3 x4 x5 W bu bv bt i3 i4 i5
      have c0 := (cr_in bv bt i4 i5).2.2
      have c1 := (cr_in bt bu i5 i3).2.2
      have c2 := (cr_in bu bv i3 i4).2.2
      obtain ⟨p0, hp0⟩ : ∃ x, x = cr v t x4 x5 := ⟨_, rfl⟩
      obtain ⟨p1, hp1⟩ : ∃ x, x = cr t u x5 x3 := ⟨_, rfl⟩
      obtain ⟨p2, hp2⟩ : ∃ x, x = cr u v x3 x4 := ⟨_, rfl⟩
      rw [← hp0, ← hp1, ← hp2] at CC
      rw [← hp0] at c0 HS3
      rw [← hp1] at c1 HS4
      rw [← hp2] at c2 HS5
      replace CC := hide CC
      clear hp0 hp1 hp2
      obtain ⟨m0, hm0⟩ : ∃ x, x = momTo z 1 2 4 5 bb c k := ⟨_, rfl⟩
      obtain ⟨m1, hm1⟩ : ∃ x, x = momTo z 2 0 5 3 c a k := ⟨_, rfl⟩
      obtain ⟨m2, hm2⟩ : ∃ x, x = momTo z 0 1 3 4 a bb k := ⟨_, rfl⟩
      rw [← hm0] at s3 HS3
      rw [← hm1] at s4 HS4
      rw [← hm2] at s5 HS5
      rw [← hm0, ← hm1, ← hm2] at L1 F1
      clear hm0 hm1 hm2
      have CP := hide (fun W => plPlus_any m0 m1 m2 p0 p1 p2 (m0 + p0) (m1 + p1) (m2 + p2) W (by rw [IntKind.wrap_i64]; omega) (by rw [IntKind.wrap_i64]; omega) (by rw [IntKind.wrap_i64]; omega))
      clear bu bv bt c0 c1 c2 s3 s4 s5 i3 i4 i5
      have hgr : w.heap.size ≤ w.heap.size + 2 := by omega
      have L2 := hide (L1.out.put [.int .i64 x0, .int .i64 x1, .int .i64 x2, .int .i64 x3, .int .i64 x4, .int .i64 x5] 40)
      have n0 : ¬ wr.heap.size + 1 = w.heap.size ∧ ¬ w.heap.size = wr.heap.size + 1 := by omega
      have n1 : (¬ wr.heap.size = w.heap.size ∧ ¬ w.heap.size = wr.heap.size) ∧ (¬ wr.heap.size = w.heap.size + 2 ∧ ¬ w.heap.size + 2 = wr.heap.size) := by omega
      go_upto_region 5 with fail
      have F2 := L2.out.at; simp only [AllAt, CellsAt, updL, List.map, Nat.zero_add, Nat.reduceAdd, and_true, World.size_alloc, World.heap_drewN, heap_drew, size_set, Nat.add_eq_left, Nat.left_eq_add, Nat.add_right_cancel_iff, ne_up2, ne_dn2, ne_up3, ne_dn3, ne_up4, ne_dn4, Nat.reduceEqDiff, Nat.one_ne_zero, Nat.succ_ne_zero, Nat.zero_ne_one, reduceIte, List.set_cons_zero, List.set_cons_succ] at F2
      go_cut [8] (fun s8 wx => ∃ g : Nat, s8 = .pointer (some ⟨g, 0, none⟩) ∧ Hid (Lv w wx ((g, 110, [.int .i64 u, .int .i64 v, .int .i64 t]) :: (wr.heap.size, 40, [.int .i64 x0, .int .i64 x1, .int .i64 x2, .int .i64 x3, .int .i64 x4, .int .i64 x5]) :: [(w.heap.size + 2, 110, [.int .i64 m0, .int .i64 m1, .int .i64 m2]), (w.heap.size + 1, 110, [.int .i64 0, .int .i64 0, .int .i64 0]), (w.heap.size, 110, [.int .i64 a, .int .i64 bb, .int .i64 c])])))
      case first =>
        ((go_region_held3 (fun w' => w'.cell? ⟨wr.heap.size, 0, none⟩ = some (.int .i64 x0) ∧ w'.cell? ⟨wr.heap.size, 1, none⟩ = some (.int .i64 x1) ∧ w'.cell? ⟨wr.heap.size, 2, none⟩ = some (.int .i64 x2) ∧ w'.cell? ⟨w.heap.size, 0, none⟩ = some (.int .i64 a) ∧ w'.cell? ⟨w.heap.size, 1, none⟩ = some (.int .i64 bb) ∧ w'.cell? ⟨w.heap.size, 2, none⟩ = some (.int .i64 c))
          (go_keep)
          (first | (go_at_call 74; (first | (refine Lv.call (plOpp_any a bb c _ (by omega) (by omega) (by omega)) (L2.out.drew) ?_; intro w4 L4'; have L4 := hide L4'; have F4 := L4'.at; clear L4'; simp only [AllAt, CellsAt, updL, List.map, Nat.zero_add, Nat.reduceAdd, and_true, World.size_alloc, World.heap_drewN, heap_drew, size_set, Nat.add_eq_left, Nat.left_eq_add, Nat.add_right_cancel_iff, ne_up2, ne_dn2, ne_up3, ne_dn3, ne_up4, ne_dn4, Nat.reduceEqDiff, Nat.one_ne_zero, Nat.succ_ne_zero, Nat.zero_ne_one, reduceIte, List.set_cons_zero, List.set_cons_succ] at F4; have n4 : (¬ w4.heap.size = wr.heap.size ∧ ¬ wr.heap.size = w4.heap.size) ∧ (¬ w4.heap.size = w.heap.size ∧ ¬ w.heap.size = w4.heap.size) := (by omega)) | (refine Lv.call (plOpp_any a bb c _ (by omega) (by omega) (by omega)) ((L2.out.put _ _).drew) ?_; intro w4 L4'; have L4 := hide L4'; have F4 := L4'.at; clear L4'; simp only [AllAt, CellsAt, updL, List.map, Nat.zero_add, Nat.reduceAdd, and_true, World.size_alloc, World.heap_drewN, heap_drew, size_set, Nat.add_eq_left, Nat.left_eq_add, Nat.add_right_cancel_iff, ne_up2, ne_dn2, ne_up3, ne_dn3, ne_up4, ne_dn4, Nat.reduceEqDiff, Nat.one_ne_zero, Nat.succ_ne_zero, Nat.zero_ne_one, reduceIte, List.set_cons_zero, List.set_cons_succ] at F4; have n4 : (¬ w4.heap.size = wr.heap.size ∧ ¬ wr.heap.size = w4.heap.size) ∧ (¬ w4.heap.size = w.heap.size ∧ ¬ w.heap.size = w4.heap.size) := (by omega)))) | (go_at_call 75; (first | (refine Lv.call (plPlus_any x0 x1 x2 (-a) (-bb) (-c) u v t _ HU.out HV.out HW.out) (L4.out) ?_; intro w5 L5'; have L5 := hide L5'; have F5 := L5'.at; clear L5'; simp only [AllAt, CellsAt, updL, List.map, Nat.zero_add, Nat.reduceAdd, and_true, World.size_alloc, World.heap_drewN, heap_drew, size_set, Nat.add_eq_left, Nat.left_eq_add, Nat.add_right_cancel_iff, ne_up2, ne_dn2, ne_up3, ne_dn3, ne_up4, ne_dn4, Nat.reduceEqDiff, Nat.one_ne_zero, Nat.succ_ne_zero, Nat.zero_ne_one, reduceIte, List.set_cons_zero, List.set_cons_succ] at F5; have n5 : (¬ w5.heap.size = wr.heap.size ∧ ¬ wr.heap.size = w5.heap.size) ∧ (¬ w5.heap.size = w.heap.size ∧ ¬ w.heap.size = w5.heap.size) := (by omega)) | (refine Lv.call (plPlus_any x0 x1 x2 (-a) (-bb) (-c) u v t _ HU.out HV.out HW.out) (L4.out.put _ _) ?_; intro w5 L5'; have L5 := hide L5'; have F5 := L5'.at; clear L5'; simp only [AllAt, CellsAt, updL, List.map, Nat.zero_add, Nat.reduceAdd, and_true, World.size_alloc, World.heap_drewN, heap_drew, size_set, Nat.add_eq_left, Nat.left_eq_add, Nat.add_right_cancel_iff, ne_up2, ne_dn2, ne_up3, ne_dn3, ne_up4, ne_dn4, Nat.reduceEqDiff, Nat.one_ne_zero, Nat.succ_ne_zero, Nat.zero_ne_one, reduceIte, List.set_cons_zero, List.set_cons_succ] at F5; have n5 : (¬ w5.heap.size = wr.heap.size ∧ ¬ wr.heap.size = w5.heap.size) ∧ (¬ w5.heap.size = w.heap.size ∧ ¬ w.heap.size = w5.heap.size) := (by omega)))) | fail)))
        all_goals
          go_wp2_with fail
          go_meet
          refine ⟨_, rfl, hide ?_⟩
          first
            | exact L5.out.put _ _
            | exact L5.out.stored3 L4.out.size L4.out.far'
            | exact L5.out.stored3 L2.out.size L2.out.far'
            | (have h2 := L2.out.size; have hf2 := L2.out.far'; have h5 := L5.out; simp only [World.size_alloc] at h2 hf2 h5; exact h5.stored3 h2 hf2)
      case rest =>
        obtain ⟨g, rfl, L5⟩ := hcut
        clear F2 L2
        have F5 := L5.out.at; simp only [AllAt, CellsAt, updL, List.map, Nat.zero_add, Nat.reduceAdd, and_true, World.size_alloc, World.heap_drewN, heap_drew, size_set, Nat.add_eq_left, Nat.left_eq_add, Nat.add_right_cancel_iff, ne_up2, ne_dn2, ne_up3, ne_dn3, ne_up4, ne_dn4, Nat.reduceEqDiff, Nat.one_ne_zero, Nat.succ_ne_zero, Nat.zero_ne_one, reduceIte, List.set_cons_zero, List.set_cons_succ] at F5
        go_wp2
        (first | (go_region_with (first | (go_at_call 104; refine Lv.call (CC.out _) (L5.out.drew) ?_; intro w6 L6'; have L6 := hide L6'; have F6 := L6'.at; clear L6'; simp only [AllAt, CellsAt, updL, List.map, Nat.zero_add, Nat.reduceAdd, and_true, World.size_alloc, World.heap_drewN, heap_drew, size_set, Nat.add_eq_left, Nat.left_eq_add, Nat.add_right_cancel_iff, ne_up2, ne_dn2, ne_up3, ne_dn3, ne_up4, ne_dn4, Nat.reduceEqDiff, Nat.one_ne_zero, Nat.succ_ne_zero, Nat.zero_ne_one, reduceIte, List.set_cons_zero, List.set_cons_succ] at F6) | (go_at_call 75; refine Lv.call (CP.out _) (L6.out) ?_; intro w7 L7'; have L7 := hide L7'; have F7 := L7'.at; clear L7'; simp only [AllAt, CellsAt, updL, List.map, Nat.zero_add, Nat.reduceAdd, and_true, World.size_alloc, World.heap_drewN, heap_drew, size_set, Nat.add_eq_left, Nat.left_eq_add, Nat.add_right_cancel_iff, ne_up2, ne_dn2, ne_up3, ne_dn3, ne_up4, ne_dn4, Nat.reduceEqDiff, Nat.one_ne_zero, Nat.succ_ne_zero, Nat.zero_ne_one, reduceIte, List.set_cons_zero, List.set_cons_succ] at F7) | fail)) | fail)
        all_goals
          have h := ((L7.out.drop.drop.set (w.heap.size + 2) 0 (.int .i64 (m0 + p0)) hgr).set (w.heap.size + 2) 1 (.int .i64 (m1 + p1)) hgr).set (w.heap.size + 2) 2 (.int .i64 (m2 + p2)) hgr
          simp only [updL, List.map, World.size_alloc, Nat.add_eq_left, Nat.left_eq_add, Nat.add_right_cancel_iff, ne_up2, ne_dn2, Nat.reduceEqDiff, Nat.one_ne_zero, Nat.succ_ne_zero, Nat.zero_ne_one, reduceIte, List.set_cons_zero, List.set_cons_succ] at h
          have L8 := hide h
          clear h
          go_wp2
          go_roundw
          case rel => exact ⟨k + 1, by omega, by go_num, by rw [HS3.out, HS4.out, HS5.out]; exact L8⟩
          case measure => simp [intOf]; omega
    · obtain rfl : n = k := by omega
      go_wp2
      refine bodyPost_ret (v := mom3 z a bb c n) (by simp [results, Try.results69, go_sem, F1, mom3]) rfl ⟨rfl, ?_⟩
      repeat (first | (with_reducible exact L1.out.below) | refine Below.setCell ?_ (by first | omega | (simp; done) | (simp; omega)) _ | refine Below.alloc ?_ (by first | omega | (simp; done) | (simp; omega)) _ | refine below_drewN ?_ _ | refine Below.drew ?_)
end Go.Proofs.Ytjfcjclhbnmgcaa
