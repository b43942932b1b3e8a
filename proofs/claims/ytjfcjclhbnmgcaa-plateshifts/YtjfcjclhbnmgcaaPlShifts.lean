/- PROVED HERE: Rows.PlateShiftsSaid: agraffelaw03.PlateShifts returns true for every input, and its arguments read behind the call as before. -/
import Derived.Test.YtjfcjclhbnmgcaaPlAwake
import Derived.Test.YtjfcjclhbnmgcaaPlFoC
import Derived.Test.YtjfcjclhbnmgcaaPlFoR
import Derived.Test.YtjfcjclhbnmgcaaRegX
namespace Go.Proofs.Ytjfcjclhbnmgcaa
open Go.ChangeShapes Go.WideShapes Go.ChangeAt Go.RowKit Go.Joins
set_option linter.unusedVariables false
set_option linter.unusedSimpArgs false

theorem cr_wide {p q r s : Int} (hp : -1000000 ≤ p ∧ p ≤ 1000000) (hq : -1000000 ≤ q ∧ q ≤ 1000000) (hr : -30000000000 ≤ r ∧ r ≤ 30000000000) (hs : -30000000000 ≤ s ∧ s ≤ 30000000000) :
    (-30000000000000000 ≤ p * s ∧ p * s ≤ 30000000000000000) ∧ (-30000000000000000 ≤ q * r ∧ q * r ≤ 30000000000000000) ∧ (-60000000000000000 ≤ cr p q r s ∧ cr p q r s ≤ 60000000000000000) := by
  have k1 := mul_bound (x := p) (y := s) 1000000 30000000000 (by omega) (by omega)
  have k2 := mul_bound (x := q) (y := r) 1000000 30000000000 (by omega) (by omega)
  rw [show (1000000 * 30000000000 : Nat) = 30000000000000000 from rfl] at k1 k2
  unfold cr
  omega
set_option maxHeartbeats 8000000 in
set_option maxRecDepth 100000 in
theorem refCross_wide (a b c x y z : Int) (w : World) (ha : -1000000 ≤ a ∧ a ≤ 1000000) (hb : -1000000 ≤ b ∧ b ≤ 1000000) (hc : -1000000 ≤ c ∧ c ≤ 1000000) (hx : -30000000000 ≤ x ∧ x ≤ 30000000000) (hy : -30000000000 ≤ y ∧ y ≤ 30000000000) (hz : -30000000000 ≤ z ∧ z ≤ 30000000000) :
    Calls Try.prog 33 #[.agg #[.int .i64 a, .int .i64 b, .int .i64 c], .agg #[.int .i64 x, .int .i64 y, .int .i64 z]] w fun e w' => e = .returned (.agg #[.int .i64 (cr b c y z), .int .i64 (cr c a z x), .int .i64 (cr a b x y)]) ∧ Below w.heap.size w w' := by
  obtain ⟨k1, k2, k3⟩ := cr_wide hb hc hy hz
  obtain ⟨k4, k5, k6⟩ := cr_wide hc ha hz hx
  obtain ⟨k7, k8, k9⟩ := cr_wide ha hb hx hy
  have E1 : Hid (cr b c y z = b * z - c * y) := rfl
  have E2 : Hid (cr c a z x = c * x - a * z) := rfl
  have E3 : Hid (cr a b x y = a * y - b * x) := rfl
  go_enter Try.func33, Try.ntmps33
  go_wp2
  refine bodyPost_ret (v := .agg #[.int .i64 (b * z - c * y), .int .i64 (c * x - a * z), .int .i64 (a * y - b * x)]) (by simp [results, Try.results33, go_sem]) rfl ⟨by rw [E1.out, E2.out, E3.out], ?_⟩
  repeat (first | exact Below.refl _ _ | refine Below.setCell ?_ (by simp) _ | refine Below.alloc ?_ (by first | omega | (simp; done) | (simp; omega)) _ | refine below_drewN ?_ _ | refine Below.drew ?_)
theorem eq3_yes {a b c x y z : Int} (h : eq3 a b c x y z = true) : a = x ∧ b = y ∧ c = z := by
  unfold eq3 at h
  simpa using h
theorem bal_yes {z : Nat → Nat → Int} {n : Nat} (h : balB z n = true) (a b c : Int) : momTo z 1 2 4 5 b c n = 0 ∧ momTo z 2 0 5 3 c a n = 0 ∧ momTo z 0 1 3 4 a b n = 0 := by
  unfold balB sum0 mom0 at h
  rw [Bool.and_eq_true] at h
  obtain ⟨s0, s1, s2⟩ := eq3_yes h.1
  obtain ⟨m0, m1, m2⟩ := eq3_yes h.2
  rw [mom_shift z 1 2 4 5 b c, mom_shift z 2 0 5 3 c a, mom_shift z 0 1 3 4 a b, s0, s1, s2, m0, m1, m2]
  simp [cr]
set_option maxHeartbeats 8000000 in
set_option maxRecDepth 100000 in
theorem shifts_ok (A : Option Addr) (n cap : Nat) (z : Nat → Nat → Int) (a b c : Int) (w : World) (hn : n ≤ 20) (hnil : A = none → n = 0 ∧ cap = 0) (hD : RowM 6 w w.heap.size A n z) (hE : frcE z n = 0) (hP : plE a b c = 0) :
    Calls Try.prog 6 #[.slice A n cap, .agg #[.int .i64 a, .int .i64 b, .int .i64 c]] w fun x w' => x = .returned (.bool true) ∧ Below w.heap.size w w' := by
  obtain ⟨_, hF⟩ := frcE_in hE
  obtain ⟨p1, p2, p3⟩ := place3 hP
  have o0 : plE 0 0 0 = 0 := by decide
  have CS := fun W A' c' h => plSum_ok A' n c' z W h hE
  have CM0 := fun W A' c' h => plMoment_ok A' n c' z 0 0 0 W h hE o0
  have CM := fun W A' c' h => plMoment_ok A' n c' z a b c W h hE hP
  have CB := fun W A' c' h => plBalanced_ok A' n c' z W h hE
  have HV : Hid (inV a b c 1000000 = true) := by
    unfold plE at hP
    by_cases hv : inV a b c 1000000 = true
    · exact hide hv
    · rw [if_neg hv] at hP; omega
  have hs3 := sumTo_in (fun k hk => (hF k hk).f0) n (Nat.le_refl _)
  have hs4 := sumTo_in (fun k hk => (hF k hk).f1) n (Nat.le_refl _)
  have hs5 := sumTo_in (fun k hk => (hF k hk).f2) n (Nat.le_refl _)
  have hm3 := momTo_in (fun k hk => (hF k hk).c0) (a := 0) (b := 0) (by omega) (by omega) n (Nat.le_refl _)
  have hm4 := momTo_in (fun k hk => (hF k hk).c1) (a := 0) (b := 0) (by omega) (by omega) n (Nat.le_refl _)
  have hm5 := momTo_in (fun k hk => (hF k hk).c2) (a := 0) (b := 0) (by omega) (by omega) n (Nat.le_refl _)
  have f3 := mom_shift z 1 2 4 5 b c n
  have f4 := mom_shift z 2 0 5 3 c a n
  have f5 := mom_shift z 0 1 3 4 a b n
  have HB := fun h => bal_yes (z := z) (n := n) h a b c
  unfold mom3 at CM CM0
  unfold sum3 at CS
  have HE := hide hE
  have HNIL := hide hnil
  have HD := hide hD
  clear hE hnil hD hF hP o0
  obtain ⟨s0, h0⟩ : ∃ x, x = sumTo z 3 n := ⟨_, rfl⟩
  obtain ⟨s1, h1⟩ : ∃ x, x = sumTo z 4 n := ⟨_, rfl⟩
  obtain ⟨s2, h2⟩ : ∃ x, x = sumTo z 5 n := ⟨_, rfl⟩
  obtain ⟨m0, h3⟩ : ∃ x, x = momTo z 1 2 4 5 0 0 n := ⟨_, rfl⟩
  obtain ⟨m1, h4⟩ : ∃ x, x = momTo z 2 0 5 3 0 0 n := ⟨_, rfl⟩
  obtain ⟨m2, h5⟩ : ∃ x, x = momTo z 0 1 3 4 0 0 n := ⟨_, rfl⟩
  obtain ⟨n0, h6⟩ : ∃ x, x = momTo z 1 2 4 5 b c n := ⟨_, rfl⟩
  obtain ⟨n1, h7⟩ : ∃ x, x = momTo z 2 0 5 3 c a n := ⟨_, rfl⟩
  obtain ⟨n2, h8⟩ : ∃ x, x = momTo z 0 1 3 4 a b n := ⟨_, rfl⟩
  obtain ⟨q, hq⟩ : ∃ q, q = balB z n := ⟨_, rfl⟩
  rw [← h0, ← h1, ← h2] at CS
  rw [← h3, ← h4, ← h5] at CM0
  rw [← h6, ← h7, ← h8] at CM HB
  rw [← hq] at CB HB
  rw [← h0] at hs3
  rw [← h1] at hs4
  rw [← h2] at hs5
  rw [← h3] at hm3
  rw [← h4] at hm4
  rw [← h5] at hm5
  rw [← h6, ← h3, ← h1, ← h2] at f3
  rw [← h7, ← h4, ← h2, ← h0] at f4
  rw [← h8, ← h5, ← h0, ← h1] at f5
  clear h0 h1 h2 h3 h4 h5 h6 h7 h8 hq
  have k3 := cr_wide p2 p3 (r := s1) (s := s2) (by omega) (by omega)
  have k4 := cr_wide p3 p1 (r := s2) (s := s0) (by omega) (by omega)
  have k5 := cr_wide p1 p2 (r := s0) (s := s1) (by omega) (by omega)
  have CX := fun W => refCross_wide a b c s0 s1 s2 W p1 p2 p3 (by omega) (by omega) (by omega)
  obtain ⟨x0, h0⟩ : ∃ x, x = cr b c s1 s2 := ⟨_, rfl⟩
  obtain ⟨x1, h1⟩ : ∃ x, x = cr c a s2 s0 := ⟨_, rfl⟩
  obtain ⟨x2, h2⟩ : ∃ x, x = cr a b s0 s1 := ⟨_, rfl⟩
  rw [← h0, ← h1, ← h2] at CX
  rw [← h0] at f3 k3
  rw [← h1] at f4 k4
  rw [← h2] at f5 k5
  clear h0 h1 h2
  have CN := hide (fun W => refMinus_any m0 m1 m2 x0 x1 x2 n0 n1 n2 W (by rw [IntKind.wrap_i64]; omega) (by rw [IntKind.wrap_i64]; omega) (by rw [IntKind.wrap_i64]; omega))
  have J0 := hide (inR_yes (n := s0) (lo := -30000000000) (hi := 30000000000) (by omega))
  have J1 := hide (inR_yes (n := s1) (lo := -30000000000) (hi := 30000000000) (by omega))
  have J2 := hide (inR_yes (n := s2) (lo := -30000000000) (hi := 30000000000) (by omega))
  replace CS := hide CS
  replace CM := hide CM
  replace CM0 := hide CM0
  replace CB := hide CB
  replace CX := hide CX
  have en : ∀ W, (Go.binOp .eql 23 (.agg #[.int .i64 n0, .int .i64 n1, .int .i64 n2]) (.agg #[.int .i64 n0, .int .i64 n1, .int .i64 n2])).run Try.prog W = .ok (.bool true) W := fun W => by rw [eq3_run, eq3_self]
  have ez : Hid (q = true → ∀ W, (Go.binOp .eql 23 (.agg #[.int .i64 n0, .int .i64 n1, .int .i64 n2]) (.agg #[.int .i64 0, .int .i64 0, .int .i64 0])).run Try.prog W = .ok (.bool true) W) := hide (fun h W => by
    obtain ⟨r0, r1, r2⟩ := HB h
    rw [eq3_run, r0, r1, r2, eq3_self])
  clear HB f3 f4 f5 k3 k4 k5 hs3 hs4 hs5 hm3 hm4 hm5
  have L0 := hide (Lv.start w)
  go_enter Try.func6, Try.ntmps6
  go_wp2_with fail
  refine Lv.call (plAwake_any _) (L0.out.put _ _) ?_
  intro w1 L1'
  have L1 := hide L1'
  have F1 := L1'.at
  clear L1'
  simp only [AllAt, CellsAt, updL, List.map, Nat.zero_add, Nat.reduceAdd, and_true, World.size_alloc, World.heap_drewN, heap_drew, size_set, Nat.add_eq_left, Nat.left_eq_add, Nat.add_right_cancel_iff, ne_up2, ne_dn2, ne_up3, ne_dn3, ne_up4, ne_dn4, Nat.reduceEqDiff, Nat.one_ne_zero, Nat.succ_ne_zero, Nat.zero_ne_one, reduceIte, List.set_cons_zero, List.set_cons_succ] at F1
  go_wp2_with fail
  refine Lv.call (refForces_any A n cap z _ (HD.out.on L1.out.below)) L1.out ?_
  intro w2 L2'
  have L2 := hide L2'
  have F2 := L2'.at
  clear L2' F1
  simp only [AllAt, CellsAt, updL, List.map, Nat.zero_add, Nat.reduceAdd, and_true, World.size_alloc, World.heap_drewN, heap_drew, size_set, Nat.add_eq_left, Nat.left_eq_add, Nat.add_right_cancel_iff, ne_up2, ne_dn2, ne_up3, ne_dn3, ne_up4, ne_dn4, Nat.reduceEqDiff, Nat.one_ne_zero, Nat.succ_ne_zero, Nat.zero_ne_one, reduceIte, List.set_cons_zero, List.set_cons_succ] at F2
  rw [HE.out]
  go_wp2_with fail
  refine Lv.call (refPlace_any a b c _) L2.out ?_
  intro w3 L3'
  have L3 := hide L3'
  have F3 := L3'.at
  clear L3' F2
  simp only [AllAt, CellsAt, updL, List.map, Nat.zero_add, Nat.reduceAdd, and_true, World.size_alloc, World.heap_drewN, heap_drew, size_set, Nat.add_eq_left, Nat.left_eq_add, Nat.add_right_cancel_iff, ne_up2, ne_dn2, ne_up3, ne_dn3, ne_up4, ne_dn4, Nat.reduceEqDiff, Nat.one_ne_zero, Nat.succ_ne_zero, Nat.zero_ne_one, reduceIte, List.set_cons_zero, List.set_cons_succ] at F3
  rw [HV.out]
  go_wp2_with fail
  refine (copied_any A n cap z _ (by omega) HNIL.out (HD.out.on (L3.out).below)).mono ?_
  rintro e w4 ⟨g4, c4, rfl, hr, hb⟩
  have R4 := hide hr
  have L4 := hide ((L3.out).kept hb)
  clear hr hb F3
  have F4 := L4.out.at; simp only [AllAt, CellsAt, updL, List.map, Nat.zero_add, Nat.reduceAdd, and_true, World.size_alloc, World.heap_drewN, heap_drew, size_set, Nat.add_eq_left, Nat.left_eq_add, Nat.add_right_cancel_iff, ne_up2, ne_dn2, ne_up3, ne_dn3, ne_up4, ne_dn4, Nat.reduceEqDiff, Nat.one_ne_zero, Nat.succ_ne_zero, Nat.zero_ne_one, reduceIte, List.set_cons_zero, List.set_cons_succ] at F4
  go_wp2_with fail
  refine Lv.call (CS.out _ _ _ R4.out) L4.out ?_
  intro w5 L5'
  have L5 := hide L5'
  have F5 := L5'.at
  clear L5' F4
  simp only [AllAt, CellsAt, updL, List.map, Nat.zero_add, Nat.reduceAdd, and_true, World.size_alloc, World.heap_drewN, heap_drew, size_set, Nat.add_eq_left, Nat.left_eq_add, Nat.add_right_cancel_iff, ne_up2, ne_dn2, ne_up3, ne_dn3, ne_up4, ne_dn4, Nat.reduceEqDiff, Nat.one_ne_zero, Nat.succ_ne_zero, Nat.zero_ne_one, reduceIte, List.set_cons_zero, List.set_cons_succ] at F5
  go_wp2_with fail
  refine (copied_any A n cap z _ (by omega) HNIL.out (HD.out.on (L5.out.put _ _).below)).mono ?_
  rintro e w6 ⟨g6, c6, rfl, hr, hb⟩
  have R6 := hide hr
  have L6 := hide ((L5.out.put _ _).kept hb)
  clear hr hb F5
  have F6 := L6.out.at; simp only [AllAt, CellsAt, updL, List.map, Nat.zero_add, Nat.reduceAdd, and_true, World.size_alloc, World.heap_drewN, heap_drew, size_set, Nat.add_eq_left, Nat.left_eq_add, Nat.add_right_cancel_iff, ne_up2, ne_dn2, ne_up3, ne_dn3, ne_up4, ne_dn4, Nat.reduceEqDiff, Nat.one_ne_zero, Nat.succ_ne_zero, Nat.zero_ne_one, reduceIte, List.set_cons_zero, List.set_cons_succ] at F6
  go_wp2_with fail
  refine Lv.call (CM0.out _ _ _ R6.out) L6.out ?_
  intro w7 L7'
  have L7 := hide L7'
  have F7 := L7'.at
  clear L7' F6
  simp only [AllAt, CellsAt, updL, List.map, Nat.zero_add, Nat.reduceAdd, and_true, World.size_alloc, World.heap_drewN, heap_drew, size_set, Nat.add_eq_left, Nat.left_eq_add, Nat.add_right_cancel_iff, ne_up2, ne_dn2, ne_up3, ne_dn3, ne_up4, ne_dn4, Nat.reduceEqDiff, Nat.one_ne_zero, Nat.succ_ne_zero, Nat.zero_ne_one, reduceIte, List.set_cons_zero, List.set_cons_succ] at F7
  have L8 := hide (L7.out.put [.int .i64 m0, .int .i64 m1, .int .i64 m2] 23)
  have n7 : (¬ w7.heap.size = w.heap.size ∧ ¬ w.heap.size = w7.heap.size) ∧ (¬ w7.heap.size + 1 = w.heap.size ∧ ¬ w.heap.size = w7.heap.size + 1) := by omega
  go_upto_region 7 with fail
  clear F7
  have F8 := L8.out.at; simp only [AllAt, CellsAt, updL, List.map, Nat.zero_add, Nat.reduceAdd, and_true, World.size_alloc, World.heap_drewN, heap_drew, size_set, Nat.add_eq_left, Nat.left_eq_add, Nat.add_right_cancel_iff, ne_up2, ne_dn2, ne_up3, ne_dn3, ne_up4, ne_dn4, Nat.reduceEqDiff, Nat.one_ne_zero, Nat.succ_ne_zero, Nat.zero_ne_one, reduceIte, List.set_cons_zero, List.set_cons_succ] at F8
  go_cut [9, 10] (fun s9 s10 wx => ∃ g : Nat, s9 = .pointer (some ⟨g, 0, none⟩) ∧ s10 = .int .i64 0 ∧ Hid (Lv w wx ((g, 23, [.int .i64 n0, .int .i64 n1, .int .i64 n2]) :: (w7.heap.size, 23, [.int .i64 m0, .int .i64 m1, .int .i64 m2]) :: (w5.heap.size, 23, [.int .i64 s0, .int .i64 s1, .int .i64 s2]) :: [(w.heap.size, 23, [.int .i64 a, .int .i64 b, .int .i64 c])])))
  case first =>
    ((go_region_held3 (fun w' => w'.cell? ⟨w.heap.size, 0, none⟩ = some (.int .i64 a) ∧ w'.cell? ⟨w.heap.size, 1, none⟩ = some (.int .i64 b) ∧ w'.cell? ⟨w.heap.size, 2, none⟩ = some (.int .i64 c))
      (go_keep)
      (first | (go_at_call 18; (first | (refine (copied_any A n cap z _ (by omega) HNIL.out (HD.out.on (L8.out.drew).below)).mono ?_; rintro e w9 ⟨g9, c9, rfl, hr, hb⟩; have R9 := hide hr; have L9 := hide ((L8.out.drew).kept hb); clear hr hb; have F9 := L9.out.at; simp only [AllAt, CellsAt, updL, List.map, Nat.zero_add, Nat.reduceAdd, and_true, World.size_alloc, World.heap_drewN, heap_drew, size_set, Nat.add_eq_left, Nat.left_eq_add, Nat.add_right_cancel_iff, ne_up2, ne_dn2, ne_up3, ne_dn3, ne_up4, ne_dn4, Nat.reduceEqDiff, Nat.one_ne_zero, Nat.succ_ne_zero, Nat.zero_ne_one, reduceIte, List.set_cons_zero, List.set_cons_succ] at F9; have n9 : ¬ w9.heap.size = w.heap.size ∧ ¬ w.heap.size = w9.heap.size := (by omega)) | (refine (copied_any A n cap z _ (by omega) HNIL.out (HD.out.on ((L8.out.put _ _).drew).below)).mono ?_; rintro e w9 ⟨g9, c9, rfl, hr, hb⟩; have R9 := hide hr; have L9 := hide (((L8.out.put _ _).drew).kept hb); clear hr hb; have F9 := L9.out.at; simp only [AllAt, CellsAt, updL, List.map, Nat.zero_add, Nat.reduceAdd, and_true, World.size_alloc, World.heap_drewN, heap_drew, size_set, Nat.add_eq_left, Nat.left_eq_add, Nat.add_right_cancel_iff, ne_up2, ne_dn2, ne_up3, ne_dn3, ne_up4, ne_dn4, Nat.reduceEqDiff, Nat.one_ne_zero, Nat.succ_ne_zero, Nat.zero_ne_one, reduceIte, List.set_cons_zero, List.set_cons_succ] at F9; have n9 : ¬ w9.heap.size = w.heap.size ∧ ¬ w.heap.size = w9.heap.size := (by omega)))) | (go_at_call 19; (first | (refine Lv.call (CM.out _ _ _ R9.out) (L9.out) ?_; intro w10 L10'; have L10 := hide L10'; have F10 := L10'.at; clear L10'; simp only [AllAt, CellsAt, updL, List.map, Nat.zero_add, Nat.reduceAdd, and_true, World.size_alloc, World.heap_drewN, heap_drew, size_set, Nat.add_eq_left, Nat.left_eq_add, Nat.add_right_cancel_iff, ne_up2, ne_dn2, ne_up3, ne_dn3, ne_up4, ne_dn4, Nat.reduceEqDiff, Nat.one_ne_zero, Nat.succ_ne_zero, Nat.zero_ne_one, reduceIte, List.set_cons_zero, List.set_cons_succ] at F10; have n10 : ¬ w10.heap.size = w.heap.size ∧ ¬ w.heap.size = w10.heap.size := (by omega)) | (refine Lv.call (CM.out _ _ _ (R9.out.on ((Below.refl _ _).alloc (Nat.le_refl _) _))) (L9.out.put _ _) ?_; intro w10 L10'; have L10 := hide L10'; have F10 := L10'.at; clear L10'; simp only [AllAt, CellsAt, updL, List.map, Nat.zero_add, Nat.reduceAdd, and_true, World.size_alloc, World.heap_drewN, heap_drew, size_set, Nat.add_eq_left, Nat.left_eq_add, Nat.add_right_cancel_iff, ne_up2, ne_dn2, ne_up3, ne_dn3, ne_up4, ne_dn4, Nat.reduceEqDiff, Nat.one_ne_zero, Nat.succ_ne_zero, Nat.zero_ne_one, reduceIte, List.set_cons_zero, List.set_cons_succ] at F10; have n10 : ¬ w10.heap.size = w.heap.size ∧ ¬ w.heap.size = w10.heap.size := (by omega)))) | fail)))
    all_goals
      go_wp2_with fail
      go_meet
      refine ⟨_, rfl, rfl, hide ?_⟩
      first
        | exact L10.out.put _ _
        | exact L10.out.stored3 L9.out.size L9.out.far'
        | exact L10.out.stored3 L8.out.size L8.out.far'
        | (have h2 := L8.out.size; have hf2 := L8.out.far'; have h5 := L10.out; simp only [World.size_alloc] at h2 hf2 h5; exact h5.stored3 h2 hf2)
  case rest =>
    obtain ⟨g, rfl, rfl, L10⟩ := hcut
    clear F8 L8 L7 L6 L5 L4 L3 L2 L1 R4 R6
    have F10 := L10.out.at; simp only [AllAt, CellsAt, updL, List.map, Nat.zero_add, Nat.reduceAdd, and_true, World.size_alloc, World.heap_drewN, heap_drew, size_set, Nat.add_eq_left, Nat.left_eq_add, Nat.add_right_cancel_iff, ne_up2, ne_dn2, ne_up3, ne_dn3, ne_up4, ne_dn4, Nat.reduceEqDiff, Nat.one_ne_zero, Nat.succ_ne_zero, Nat.zero_ne_one, reduceIte, List.set_cons_zero, List.set_cons_succ] at F10
    go_wp2_with fail
    refine (copied_any A n cap z _ (by omega) HNIL.out (HD.out.on (L10.out).below)).mono ?_
    rintro e w11 ⟨g11, c11, rfl, hr, hb⟩
    have R11 := hide hr
    have L11 := hide ((L10.out).kept hb)
    clear hr hb F10
    have F11 := L11.out.at; simp only [AllAt, CellsAt, updL, List.map, Nat.zero_add, Nat.reduceAdd, and_true, World.size_alloc, World.heap_drewN, heap_drew, size_set, Nat.add_eq_left, Nat.left_eq_add, Nat.add_right_cancel_iff, ne_up2, ne_dn2, ne_up3, ne_dn3, ne_up4, ne_dn4, Nat.reduceEqDiff, Nat.one_ne_zero, Nat.succ_ne_zero, Nat.zero_ne_one, reduceIte, List.set_cons_zero, List.set_cons_succ] at F11
    go_wp2_with fail
    refine Lv.call (CB.out _ _ _ R11.out) L11.out ?_
    intro w12 L12'
    have L12 := hide L12'
    have F12 := L12'.at
    clear L12' F11
    simp only [AllAt, CellsAt, updL, List.map, Nat.zero_add, Nat.reduceAdd, and_true, World.size_alloc, World.heap_drewN, heap_drew, size_set, Nat.add_eq_left, Nat.left_eq_add, Nat.add_right_cancel_iff, ne_up2, ne_dn2, ne_up3, ne_dn3, ne_up4, ne_dn4, Nat.reduceEqDiff, Nat.one_ne_zero, Nat.succ_ne_zero, Nat.zero_ne_one, reduceIte, List.set_cons_zero, List.set_cons_succ] at F12
    clear R11 L10 L11
    go_wp2
    refine wp_loop_rounds 4 ?_
    rw [rounds_succ]
    go_wp2_with fail
    refine Lv.same (within3_any s0 (-30000000000) 30000000000 _) ?_
    rw [J0.out]
    go_wp2
    rw [rounds_succ]
    go_wp2_with fail
    refine Lv.same (within3_any s1 (-30000000000) 30000000000 _) ?_
    rw [J1.out]
    go_wp2
    rw [rounds_succ]
    go_wp2_with fail
    refine Lv.same (within3_any s2 (-30000000000) 30000000000 _) ?_
    rw [J2.out]
    go_wp2
    rw [rounds_succ]
    go_upto_region 14 with fail
    rcases hq : q with _ | _
    · subst hq
      refine AnyX.start 99 (fun w' => w'.cell? ⟨w.heap.size, 0, none⟩ = some (.int .i64 a) ∧ w'.cell? ⟨w.heap.size, 1, none⟩ = some (.int .i64 b) ∧ w'.cell? ⟨w.heap.size, 2, none⟩ = some (.int .i64 c) ∧ w'.cell? ⟨g, 0, none⟩ = some (.int .i64 n0) ∧ w'.cell? ⟨g, 1, none⟩ = some (.int .i64 n1) ∧ w'.cell? ⟨g, 2, none⟩ = some (.int .i64 n2) ∧ w'.cell? ⟨w7.heap.size, 0, none⟩ = some (.int .i64 m0) ∧ w'.cell? ⟨w7.heap.size, 1, none⟩ = some (.int .i64 m1) ∧ w'.cell? ⟨w7.heap.size, 2, none⟩ = some (.int .i64 m2) ∧ w'.cell? ⟨w5.heap.size, 0, none⟩ = some (.int .i64 s0) ∧ w'.cell? ⟨w5.heap.size, 1, none⟩ = some (.int .i64 s1) ∧ w'.cell? ⟨w5.heap.size, 2, none⟩ = some (.int .i64 s2)) (by kernel_rfl) ?_ (fun hHeld => ?_)
      · (try dsimp only); go_keep
      refine' AnyX.takeL (i := 0) (oi := _) (v := _) rfl (by kernel_rfl) (by kernel_rfl) (by kernel_rfl) (by kernel_rfl) (fun _ _ _ h => h) (Or.inl ⟨by rfl, ?hy1⟩) (by assumption) ?rest1
      case hy1 => (intro w' hSw; (try dsimp only at hSw); go_simp; (first | done | with_reducible rfl))
      try simp only [Act.put, List.setIfInBounds_toArray, List.set_cons_zero, List.set_cons_succ]
      refine' AnyX.takeL (i := 1) (oi := _) (v := _) rfl (by kernel_rfl) (by kernel_rfl) (by kernel_rfl) (by kernel_rfl) (fun _ _ _ h => h) (Or.inl ⟨by rfl, ?hy2⟩) (by assumption) ?rest2
      case hy2 => (intro w' hSw; (try dsimp only at hSw); go_simp; (first | done | with_reducible rfl))
      try simp only [Act.put, List.setIfInBounds_toArray, List.set_cons_zero, List.set_cons_succ]
      refine' AnyX.takeL (i := 2) (oi := _) (v := _) rfl (by kernel_rfl) (by kernel_rfl) (by kernel_rfl) (by kernel_rfl) (fun _ _ _ h => h) (Or.inl ⟨by rfl, ?hy3⟩) (by assumption) ?rest3
      case hy3 => (intro w' hSw; (try dsimp only at hSw); go_simp; (first | done | with_reducible rfl))
      try simp only [Act.put, List.setIfInBounds_toArray, List.set_cons_zero, List.set_cons_succ]
      refine' AnyX.takeL (i := 3) (oi := _) (v := _) rfl (by kernel_rfl) (by kernel_rfl) (by kernel_rfl) (by kernel_rfl) (fun _ _ _ h => h) (Or.inl ⟨by rfl, ?hy4⟩) (by assumption) ?rest4
      case hy4 => (intro w' hSw; (try dsimp only at hSw); go_simp; (first | done | with_reducible rfl))
      try simp only [Act.put, List.setIfInBounds_toArray, List.set_cons_zero, List.set_cons_succ]
      refine' AnyX.takeL (i := 4) (oi := _) (v := _) rfl (by kernel_rfl) (by kernel_rfl) (by kernel_rfl) (by kernel_rfl) (fun _ _ _ h => h) (Or.inl ⟨by rfl, ?hy5⟩) (by assumption) ?rest5
      case hy5 => (intro w' hSw; (try dsimp only at hSw); go_simp; (first | done | with_reducible rfl))
      try simp only [Act.put, List.setIfInBounds_toArray, List.set_cons_zero, List.set_cons_succ]
      refine' AnyX.takeL (i := 5) (oi := _) (v := _) rfl (by kernel_rfl) (by kernel_rfl) (by kernel_rfl) (by kernel_rfl) (fun _ _ _ h => h) (Or.inl ⟨by rfl, ?hy6⟩) (by assumption) ?rest6
      case hy6 => (intro w' hSw; (try dsimp only at hSw); go_simp; (first | done | with_reducible rfl))
      try simp only [Act.put, List.setIfInBounds_toArray, List.set_cons_zero, List.set_cons_succ]
      refine' AnyX.takeL (i := 6) (oi := _) (v := _) rfl (by kernel_rfl) (by kernel_rfl) (by kernel_rfl) (by kernel_rfl) (fun _ _ _ h => h) (Or.inl ⟨by rfl, ?hy7⟩) (by assumption) ?rest7
      case hy7 => (intro w' hSw; (try dsimp only at hSw); go_simp; (first | done | with_reducible rfl))
      try simp only [Act.put, List.setIfInBounds_toArray, List.set_cons_zero, List.set_cons_succ]
      refine' AnyX.takeL (i := 7) (oi := _) (v := _) rfl (by kernel_rfl) (by kernel_rfl) (by kernel_rfl) (by kernel_rfl) (fun _ _ _ h => h) (Or.inl ⟨by rfl, ?hy8⟩) (by assumption) ?rest8
      case hy8 => (intro w' hSw; (try dsimp only at hSw); go_simp; (first | done | with_reducible rfl))
      try simp only [Act.put, List.setIfInBounds_toArray, List.set_cons_zero, List.set_cons_succ]
      refine' AnyX.takeL (i := 8) (oi := _) (v := _) rfl (by kernel_rfl) (by kernel_rfl) (by kernel_rfl) (by kernel_rfl) (fun _ _ _ h => h) (Or.inl ⟨by rfl, ?hy9⟩) (by assumption) ?rest9
      case hy9 => (intro w' hSw; (try dsimp only at hSw); go_simp; (first | done | with_reducible rfl))
      try simp only [Act.put, List.setIfInBounds_toArray, List.set_cons_zero, List.set_cons_succ]
      refine' AnyX.takeL (i := 9) (oi := _) (v := _) rfl (by kernel_rfl) (by kernel_rfl) (by kernel_rfl) (by kernel_rfl) (fun _ _ _ h => h) (Or.inl ⟨by rfl, ?hy10⟩) (by assumption) ?rest10
      case hy10 => (intro w' hSw; (try dsimp only at hSw); go_simp; (first | done | with_reducible rfl))
      try simp only [Act.put, List.setIfInBounds_toArray, List.set_cons_zero, List.set_cons_succ]
      refine' AnyX.takeL (i := 10) (oi := _) (v := _) rfl (by kernel_rfl) (by kernel_rfl) (by kernel_rfl) (by kernel_rfl) (fun _ _ _ h => h) (Or.inl ⟨by rfl, ?hy11⟩) (by assumption) ?rest11
      case hy11 => (intro w' hSw; (try dsimp only at hSw); go_simp; (first | done | with_reducible rfl))
      try simp only [Act.put, List.setIfInBounds_toArray, List.set_cons_zero, List.set_cons_succ]
      refine' AnyX.takeL (i := 11) (oi := _) (v := _) rfl (by kernel_rfl) (by kernel_rfl) (by kernel_rfl) (by kernel_rfl) (fun _ _ _ h => h) (Or.inl ⟨by rfl, ?hy12⟩) (by assumption) ?rest12
      case hy12 => (intro w' hSw; (try dsimp only at hSw); go_simp; (first | done | with_reducible rfl))
      try simp only [Act.put, List.setIfInBounds_toArray, List.set_cons_zero, List.set_cons_succ]
      refine' AnyX.takeL (i := 12) (oi := _) (v := _) rfl (by kernel_rfl) (by kernel_rfl) (by kernel_rfl) (by kernel_rfl) (fun _ _ _ h => h) (Or.inl ⟨by rfl, ?hy13⟩) (by assumption) ?rest13
      case hy13 => (intro w' hSw; (try dsimp only at hSw); go_simp; (first | done | with_reducible rfl))
      try simp only [Act.put, List.setIfInBounds_toArray, List.set_cons_zero, List.set_cons_succ]
      refine' AnyX.takeL (i := 13) (oi := _) (v := _) rfl (by kernel_rfl) (by kernel_rfl) (by kernel_rfl) (by kernel_rfl) (fun _ _ _ h => h) (Or.inl ⟨by rfl, ?hy14⟩) (by assumption) ?rest14
      case hy14 => (intro w' hSw; (try dsimp only at hSw); go_simp; (first | done | with_reducible rfl))
      try simp only [Act.put, List.setIfInBounds_toArray, List.set_cons_zero, List.set_cons_succ]
      refine' AnyX.takeL (i := 14) (oi := _) (v := _) rfl (by kernel_rfl) (by kernel_rfl) (by kernel_rfl) (by kernel_rfl) (fun _ _ _ h => h) (Or.inl ⟨by rfl, ?hy15⟩) (by assumption) ?rest15
      case hy15 => (intro w' hSw; (try dsimp only at hSw); go_simp; (first | done | with_reducible rfl))
      try simp only [Act.put, List.setIfInBounds_toArray, List.set_cons_zero, List.set_cons_succ]
      refine' AnyX.takeL (i := 15) (oi := _) (v := _) rfl (by kernel_rfl) (by kernel_rfl) (by kernel_rfl) (by kernel_rfl) (fun _ _ _ h => h) (Or.inl ⟨by rfl, ?hy16⟩) (by assumption) ?rest16
      case hy16 => (intro w' hSw; (try dsimp only at hSw); go_simp; (first | done | with_reducible rfl))
      try simp only [Act.put, List.setIfInBounds_toArray, List.set_cons_zero, List.set_cons_succ]
      refine' AnyX.takeL (i := 16) (oi := _) (v := _) rfl (by kernel_rfl) (by kernel_rfl) (by kernel_rfl) (by kernel_rfl) (fun _ _ _ h => h) (Or.inl ⟨by rfl, ?hy17⟩) (by assumption) ?rest17
      case hy17 => (intro w' hSw; (try dsimp only at hSw); go_simp; (first | done | with_reducible rfl))
      try simp only [Act.put, List.setIfInBounds_toArray, List.set_cons_zero, List.set_cons_succ]
      refine' AnyX.takeL (i := 17) (oi := _) (v := _) rfl (by kernel_rfl) (by kernel_rfl) (by kernel_rfl) (by kernel_rfl) (fun _ _ _ h => h) (Or.inl ⟨by rfl, ?hy18⟩) (by assumption) ?rest18
      case hy18 => (intro w' hSw; (try dsimp only at hSw); go_simp; (first | done | with_reducible rfl))
      try simp only [Act.put, List.setIfInBounds_toArray, List.set_cons_zero, List.set_cons_succ]
      refine' AnyX.takeL (i := 18) (oi := _) (v := _) rfl (by kernel_rfl) (by kernel_rfl) (by kernel_rfl) (by kernel_rfl) (fun _ _ _ h => h) (Or.inl ⟨by rfl, ?hy19⟩) (by assumption) ?rest19
      case hy19 => (intro w' hSw; (try dsimp only at hSw); go_simp; (first | done | with_reducible rfl))
      try simp only [Act.put, List.setIfInBounds_toArray, List.set_cons_zero, List.set_cons_succ]
      refine AnyX.go (rs := [19]) (by kernel_rfl) (by simp) (AllX.consL (o := _) rfl (fun K hK => ?_) AllX.nil)
      go_simp
      go_at_call 33
      refine Lv.call (CX.out _) (L12.out.drew) ?_
      intro w13 L13'
      have L13 := hide L13'
      have F13 := L13'.at
      clear L13'
      simp only [AllAt, CellsAt, updL, List.map, Nat.zero_add, Nat.reduceAdd, and_true, World.size_alloc, World.heap_drewN, heap_drew, size_set, Nat.add_eq_left, Nat.left_eq_add, Nat.add_right_cancel_iff, ne_up2, ne_dn2, ne_up3, ne_dn3, ne_up4, ne_dn4, Nat.reduceEqDiff, Nat.one_ne_zero, Nat.succ_ne_zero, Nat.zero_ne_one, reduceIte, List.set_cons_zero, List.set_cons_succ] at F13
      go_wp2_with fail
      refine hK.out _ _ ?_ (fun hHeld => ?_)
      · (try dsimp only); go_keep
      clear hK K
      try simp only [Act.put, List.setIfInBounds_toArray, List.set_cons_zero, List.set_cons_succ]
      refine AnyX.go (rs := [20]) (by kernel_rfl) (by simp) (AllX.consL (o := _) rfl (fun K hK => ?_) AllX.nil)
      go_simp
      go_at_call 28
      refine Lv.call (CN.out _) (L13.out) ?_
      intro w14 L14'
      have L14 := hide L14'
      have F14 := L14'.at
      clear L14'
      simp only [AllAt, CellsAt, updL, List.map, Nat.zero_add, Nat.reduceAdd, and_true, World.size_alloc, World.heap_drewN, heap_drew, size_set, Nat.add_eq_left, Nat.left_eq_add, Nat.add_right_cancel_iff, ne_up2, ne_dn2, ne_up3, ne_dn3, ne_up4, ne_dn4, Nat.reduceEqDiff, Nat.one_ne_zero, Nat.succ_ne_zero, Nat.zero_ne_one, reduceIte, List.set_cons_zero, List.set_cons_succ] at F14
      go_wp2_with fail
      refine hK.out _ _ ?_ (fun hHeld => ?_)
      · (try dsimp only); go_keep
      clear hK K
      try simp only [Act.put, List.setIfInBounds_toArray, List.set_cons_zero, List.set_cons_succ]
      refine' AnyX.takeL (i := 21) (oi := _) (v := _) rfl (by kernel_rfl) (by kernel_rfl) (by kernel_rfl) (by kernel_rfl) (fun _ _ _ h => h) (Or.inl ⟨by rfl, ?hy20⟩) (by assumption) ?rest20
      case hy20 => (intro w' hSw; (try dsimp only at hSw); go_simp; (first | done | with_reducible rfl))
      try simp only [Act.put, List.setIfInBounds_toArray, List.set_cons_zero, List.set_cons_succ]
      refine' AnyX.takeL (i := 22) (oi := _) (v := _) rfl (by kernel_rfl) (by kernel_rfl) (by kernel_rfl) (by kernel_rfl) (fun _ _ _ h => h) (Or.inl ⟨by rfl, ?hy21⟩) (by assumption) ?rest21
      case hy21 => (intro w' hSw; (try dsimp only at hSw); go_simp; (first | done | with_reducible rfl))
      try simp only [Act.put, List.setIfInBounds_toArray, List.set_cons_zero, List.set_cons_succ]
      refine' AnyX.takeL (i := 23) (oi := _) (v := _) rfl (by kernel_rfl) (by kernel_rfl) (by kernel_rfl) (by kernel_rfl) (fun _ _ _ h => h) (Or.inl ⟨by rfl, ?hy22⟩) (by assumption) ?rest22
      case hy22 => (intro w' hSw; (try dsimp only at hSw); go_simp; (first | done | with_reducible rfl))
      try simp only [Act.put, List.setIfInBounds_toArray, List.set_cons_zero, List.set_cons_succ]
      refine' AnyX.takeL (i := 24) (oi := _) (v := _) rfl (by kernel_rfl) (by kernel_rfl) (by kernel_rfl) (by kernel_rfl) (fun _ _ _ h => h) (Or.inl ⟨by rfl, ?hy23⟩) (by assumption) ?rest23
      case hy23 => (intro w' hSw; (try dsimp only at hSw); go_simp; (first | done | with_reducible rfl))
      try simp only [Act.put, List.setIfInBounds_toArray, List.set_cons_zero, List.set_cons_succ]
      refine' AnyX.takeL (i := 25) (oi := _) (v := _) rfl (by kernel_rfl) (by kernel_rfl) (by kernel_rfl) (by kernel_rfl) (fun _ _ _ h => h) (Or.inl ⟨by rfl, ?hy24⟩) (by assumption) ?rest24
      case hy24 => (intro w' hSw; (try dsimp only at hSw); go_simp; (first | done | with_reducible rfl))
      try simp only [Act.put, List.setIfInBounds_toArray, List.set_cons_zero, List.set_cons_succ]
      refine' AnyX.takeL (i := 26) (oi := _) (v := _) rfl (by kernel_rfl) (by kernel_rfl) (by kernel_rfl) (by kernel_rfl) (fun _ _ _ h => h) (Or.inl ⟨by rfl, ?hy25⟩) (by assumption) ?rest25
      case hy25 => (intro w' hSw; (try dsimp only at hSw); go_simp; (first | done | with_reducible rfl))
      try simp only [Act.put, List.setIfInBounds_toArray, List.set_cons_zero, List.set_cons_succ]
      refine AnyX.takeL (i := 27) (oi := _) (v := undef) rfl (by kernel_rfl) (by kernel_rfl) (by kernel_rfl) (by kernel_rfl) (fun _ _ _ h => h) (Or.inr ⟨by rfl, rfl⟩) (by assumption) ?_
      try simp only [Act.put, List.setIfInBounds_toArray, List.set_cons_zero, List.set_cons_succ]
      refine AnyX.takeL (i := 28) (oi := _) (v := undef) rfl (by kernel_rfl) (by kernel_rfl) (by kernel_rfl) (by kernel_rfl) (fun _ _ _ h => h) (Or.inr ⟨by rfl, rfl⟩) (by assumption) ?_
      try simp only [Act.put, List.setIfInBounds_toArray, List.set_cons_zero, List.set_cons_succ]
      refine AnyX.takeL (i := 29) (oi := _) (v := undef) rfl (by kernel_rfl) (by kernel_rfl) (by kernel_rfl) (by kernel_rfl) (fun _ _ _ h => h) (Or.inr ⟨by rfl, rfl⟩) (by assumption) ?_
      try simp only [Act.put, List.setIfInBounds_toArray, List.set_cons_zero, List.set_cons_succ]
      refine' AnyX.takeL (i := 30) (oi := _) (v := _) rfl (by kernel_rfl) (by kernel_rfl) (by kernel_rfl) (by kernel_rfl) (fun _ _ _ h => h) (Or.inl ⟨by rfl, ?hy29⟩) (by assumption) ?rest29
      case hy29 => (intro w' hSw; (try dsimp only at hSw); go_simp; (first | done | with_reducible rfl))
      try simp only [Act.put, List.setIfInBounds_toArray, List.set_cons_zero, List.set_cons_succ]
      refine' AnyX.takeL (i := 31) (oi := _) (v := _) rfl (by kernel_rfl) (by kernel_rfl) (by kernel_rfl) (by kernel_rfl) (fun _ _ _ h => h) (Or.inl ⟨by rfl, ?hy30⟩) (by assumption) ?rest30
      case hy30 => (intro w' hSw; (try dsimp only at hSw); go_simp; (first | done | with_reducible rfl))
      try simp only [Act.put, List.setIfInBounds_toArray, List.set_cons_zero, List.set_cons_succ]
      refine' AnyX.takeL (i := 32) (oi := _) (v := _) rfl (by kernel_rfl) (by kernel_rfl) (by kernel_rfl) (by kernel_rfl) (fun _ _ _ h => h) (Or.inl ⟨by rfl, ?hy31⟩) (by assumption) ?rest31
      case hy31 => (intro w' hSw; (try dsimp only at hSw); go_simp; (first | done | with_reducible rfl))
      try simp only [Act.put, List.setIfInBounds_toArray, List.set_cons_zero, List.set_cons_succ]
      refine AnyX.done (by kernel_rfl) ?_ _
      go_wp2
      go_ret
      exact ⟨rfl, L14.out.below⟩
    · have ez2 := ez.out hq
      subst hq
      (first | (go_region_held3 (fun w' => w'.cell? ⟨w.heap.size, 0, none⟩ = some (.int .i64 a) ∧ w'.cell? ⟨w.heap.size, 1, none⟩ = some (.int .i64 b) ∧ w'.cell? ⟨w.heap.size, 2, none⟩ = some (.int .i64 c) ∧ w'.cell? ⟨g, 0, none⟩ = some (.int .i64 n0) ∧ w'.cell? ⟨g, 1, none⟩ = some (.int .i64 n1) ∧ w'.cell? ⟨g, 2, none⟩ = some (.int .i64 n2) ∧ w'.cell? ⟨w7.heap.size, 0, none⟩ = some (.int .i64 m0) ∧ w'.cell? ⟨w7.heap.size, 1, none⟩ = some (.int .i64 m1) ∧ w'.cell? ⟨w7.heap.size, 2, none⟩ = some (.int .i64 m2) ∧ w'.cell? ⟨w5.heap.size, 0, none⟩ = some (.int .i64 s0) ∧ w'.cell? ⟨w5.heap.size, 1, none⟩ = some (.int .i64 s1) ∧ w'.cell? ⟨w5.heap.size, 2, none⟩ = some (.int .i64 s2))
        (go_keep)
        (first | (go_at_call 33; refine Lv.call (CX.out _) L12.out.drew ?_; intro w13 L13'; have L13 := hide L13'; have F13 := L13'.at; clear L13'; simp only [AllAt, CellsAt, updL, List.map, Nat.zero_add, Nat.reduceAdd, and_true, World.size_alloc, World.heap_drewN, heap_drew, size_set, Nat.add_eq_left, Nat.left_eq_add, Nat.add_right_cancel_iff, ne_up2, ne_dn2, ne_up3, ne_dn3, ne_up4, ne_dn4, Nat.reduceEqDiff, Nat.one_ne_zero, Nat.succ_ne_zero, Nat.zero_ne_one, reduceIte, List.set_cons_zero, List.set_cons_succ] at F13) | (go_at_call 28; refine Lv.call (CN.out _) L13.out ?_; intro w14 L14'; have L14 := hide L14'; have F14 := L14'.at; clear L14'; simp only [AllAt, CellsAt, updL, List.map, Nat.zero_add, Nat.reduceAdd, and_true, World.size_alloc, World.heap_drewN, heap_drew, size_set, Nat.add_eq_left, Nat.left_eq_add, Nat.add_right_cancel_iff, ne_up2, ne_dn2, ne_up3, ne_dn3, ne_up4, ne_dn4, Nat.reduceEqDiff, Nat.one_ne_zero, Nat.succ_ne_zero, Nat.zero_ne_one, reduceIte, List.set_cons_zero, List.set_cons_succ] at F14) | fail)) | fail)
      all_goals
        go_wp2
        go_ret
        exact ⟨rfl, L14.out.below⟩
theorem plE_cases (a b c : Int) : plE a b c = 0 ∨ plE a b c = 2 := by unfold plE; split <;> simp
set_option maxHeartbeats 8000000 in
set_option maxRecDepth 100000 in
theorem plateShifts_walk (A : Option Addr) (n cap : Nat) (z : Nat → Nat → Int) (a b c : Int) (w : World) (hnil : A = none → n = 0 ∧ cap = 0) (hD : RowM 6 w w.heap.size A n z) (hz : ∀ i, i < n → ∀ j, j < 6 → -9223372036854775808 ≤ z i j ∧ z i j ≤ 9223372036854775807) (ha : -9223372036854775808 ≤ a ∧ a ≤ 9223372036854775807) (hb : -9223372036854775808 ≤ b ∧ b ≤ 9223372036854775807) (hc : -9223372036854775808 ≤ c ∧ c ≤ 9223372036854775807) :
    Calls Try.prog 6 #[.slice A n cap, .agg #[.int .i64 a, .int .i64 b, .int .i64 c]] w fun x w' => x = .returned (.bool true) ∧ Below w.heap.size w w' := by
  clear hz ha hb hc
  by_cases hn : (20 : Int) < n
  · clear hnil hD
    have L0 := hide (Lv.start w)
    go_enter Try.func6, Try.ntmps6
    go_wp2_with fail
    refine Lv.call (plAwake_any _) (L0.out.put _ _) ?_
    intro w1 L1'
    have L1 := hide L1'
    have F1 := L1'.at
    clear L1'
    simp only [AllAt, CellsAt, updL, List.map, Nat.zero_add, Nat.reduceAdd, and_true, World.size_alloc, World.heap_drewN, heap_drew, size_set, Nat.add_eq_left, Nat.left_eq_add, Nat.add_right_cancel_iff, ne_up2, ne_dn2, ne_up3, ne_dn3, ne_up4, ne_dn4, Nat.reduceEqDiff, Nat.one_ne_zero, Nat.succ_ne_zero, Nat.zero_ne_one, reduceIte, List.set_cons_zero, List.set_cons_succ] at F1
    go_wp2
    go_ret
    exact ⟨rfl, L1.out.below⟩
  · by_cases hE : frcE z n = 0
    · rcases plE_cases a b c with hP | hP
      · exact shifts_ok A n cap z a b c w (by omega) hnil hD hE hP
      · have HE := hide hE
        have HV : Hid (inV a b c 1000000 = false) := by
          unfold plE at hP
          by_cases hv : inV a b c 1000000 = true
          · rw [if_pos hv] at hP; omega
          · exact hide (by simpa using hv)
        have HD := hide hD
        clear hnil hD hE hP
        have L0 := hide (Lv.start w)
        go_enter Try.func6, Try.ntmps6
        go_wp2_with fail
        refine Lv.call (plAwake_any _) (L0.out.put _ _) ?_
        intro w1 L1'
        have L1 := hide L1'
        have F1 := L1'.at
        clear L1'
        simp only [AllAt, CellsAt, updL, List.map, Nat.zero_add, Nat.reduceAdd, and_true, World.size_alloc, World.heap_drewN, heap_drew, size_set, Nat.add_eq_left, Nat.left_eq_add, Nat.add_right_cancel_iff, ne_up2, ne_dn2, ne_up3, ne_dn3, ne_up4, ne_dn4, Nat.reduceEqDiff, Nat.one_ne_zero, Nat.succ_ne_zero, Nat.zero_ne_one, reduceIte, List.set_cons_zero, List.set_cons_succ] at F1
        go_wp2_with fail
        refine Lv.call (refForces_any A n cap z _ (HD.out.on L1.out.below)) L1.out ?_
        intro w2 L2'
        have L2 := hide L2'
        have F2 := L2'.at
        clear L2' F1
        simp only [AllAt, CellsAt, updL, List.map, Nat.zero_add, Nat.reduceAdd, and_true, World.size_alloc, World.heap_drewN, heap_drew, size_set, Nat.add_eq_left, Nat.left_eq_add, Nat.add_right_cancel_iff, ne_up2, ne_dn2, ne_up3, ne_dn3, ne_up4, ne_dn4, Nat.reduceEqDiff, Nat.one_ne_zero, Nat.succ_ne_zero, Nat.zero_ne_one, reduceIte, List.set_cons_zero, List.set_cons_succ] at F2
        rw [HE.out]
        go_wp2_with fail
        refine Lv.call (refPlace_any a b c _) L2.out ?_
        intro w3 L3'
        have L3 := hide L3'
        have F3 := L3'.at
        clear L3' F2
        simp only [AllAt, CellsAt, updL, List.map, Nat.zero_add, Nat.reduceAdd, and_true, World.size_alloc, World.heap_drewN, heap_drew, size_set, Nat.add_eq_left, Nat.left_eq_add, Nat.add_right_cancel_iff, ne_up2, ne_dn2, ne_up3, ne_dn3, ne_up4, ne_dn4, Nat.reduceEqDiff, Nat.one_ne_zero, Nat.succ_ne_zero, Nat.zero_ne_one, reduceIte, List.set_cons_zero, List.set_cons_succ] at F3
        rw [HV.out]
        go_wp2
        go_ret
        exact ⟨rfl, L3.out.below⟩
    · have b1 : (frcE z n != 0) = true := by rw [bne_iff_ne]; exact hE
      have HD := hide hD
      obtain ⟨E, he⟩ : ∃ E, E = frcE z n := ⟨_, rfl⟩
      rw [← he] at b1
      have HE := hide he.symm
      clear hnil hD hE he
      have L0 := hide (Lv.start w)
      go_enter Try.func6, Try.ntmps6
      go_wp2_with fail
      refine Lv.call (plAwake_any _) (L0.out.put _ _) ?_
      intro w1 L1'
      have L1 := hide L1'
      have F1 := L1'.at
      clear L1'
      simp only [AllAt, CellsAt, updL, List.map, Nat.zero_add, Nat.reduceAdd, and_true, World.size_alloc, World.heap_drewN, heap_drew, size_set, Nat.add_eq_left, Nat.left_eq_add, Nat.add_right_cancel_iff, ne_up2, ne_dn2, ne_up3, ne_dn3, ne_up4, ne_dn4, Nat.reduceEqDiff, Nat.one_ne_zero, Nat.succ_ne_zero, Nat.zero_ne_one, reduceIte, List.set_cons_zero, List.set_cons_succ] at F1
      go_wp2_with fail
      refine Lv.call (refForces_any A n cap z _ (HD.out.on L1.out.below)) L1.out ?_
      intro w2 L2'
      have L2 := hide L2'
      have F2 := L2'.at
      clear L2' F1
      simp only [AllAt, CellsAt, updL, List.map, Nat.zero_add, Nat.reduceAdd, and_true, World.size_alloc, World.heap_drewN, heap_drew, size_set, Nat.add_eq_left, Nat.left_eq_add, Nat.add_right_cancel_iff, ne_up2, ne_dn2, ne_up3, ne_dn3, ne_up4, ne_dn4, Nat.reduceEqDiff, Nat.one_ne_zero, Nat.succ_ne_zero, Nat.zero_ne_one, reduceIte, List.set_cons_zero, List.set_cons_succ] at F2
      rw [HE.out]
      go_wp2
      go_ret
      exact ⟨rfl, L2.out.below⟩
set_option maxRecDepth 100000 in
theorem plateShifts_lifted (os : Os) (started : os.Started) (H : Type) (enc : TypeId × Value → H) :
    ReturnsInHanded {} Try.checked os 6 .any (Rows.plateShiftsSpec.pre6 enc Try.prog Try.f6 Rows.plateShiftsRow.domain false) (Rows.plateShiftsSpec.post enc Try.prog Try.f6 false true false false) := by
  refine returnsInHanded_of_change (C := Try.checked) (by kernel_rfl) started (by kernel_rfl) Try.func6
    (ChangeSpec.witness6 (enc := enc) (C := Try.checked) false ⟨#[], #[.slice none 0 0, .agg #[.int .i64 0, .int .i64 0, .int .i64 0]], []⟩ 8 (by kernel_rfl) (by kernel_rfl) (by kernel_rfl) (by kernel_rfl)) ?_
  intro W base args ds gs before hval0 hW hcnd _
  have hval : ∀ (j : Nat) t v, Try.f6.params[j]? = some t → args[j]? = some v → Value.okWide Try.prog W .any base t v := hval0
  have hW' := hW
  obtain ⟨p, q, hA0, hV, rfl, hfz, hnd⟩ := hW
  have hA : DataW.TrodAll enc Try.prog W 0 (fun _ => true) true Try.f6.params.toList args.toList ds p := hA0
  rw [Try.params6] at hA hval
  obtain ⟨v0, vs0, d0, ds0, p0, q0, hargs, rfl, rfl, h0, r0⟩ := trodAll_cons hA
  obtain ⟨v1, vs1, d1, ds1, p1, q1, rfl, rfl, rfl, h1, r1⟩ := trodAll_cons r0
  obtain ⟨rfl, rfl, rfl⟩ := trodAll_nil r1
  obtain rfl : args = #[v0, v1] := by cases args; simp_all
  obtain ⟨rfl, rfl⟩ := trodVars_none hV
  obtain ⟨A0_l, n0_l, c0_l, rfl⟩ := okWide_slice Try.underlying22 (hval 0 22 v0 rfl rfl)
  obtain ⟨fu_l, hf_l⟩ := h0
  obtain ⟨A_l, n_l, c_l, z_l, hcs_l, hnil_l, hrow_l, hzb_l⟩ := flat_rows (d := 6) (m := 6) Try.underlying22 (by kernel_rfl) (by kernel_rfl) (by decide) hf_l
  simp [Value.cells] at hcs_l
  obtain ⟨rfl, rfl, rfl⟩ := hcs_l
  obtain ⟨zs_1, rfl, zl_1, zb_1⟩ := flat_arr (d := 6) (n := 3) Try.underlying23 (by kernel_rfl) (by kernel_rfl) (hval 1 23 v1 rfl rfl) h1
  obtain ⟨a, b, c, rfl⟩ := len3 zl_1
  clear hval0
  have hWW := hW'
  refine (plateShifts_walk A0_l n0_l c0_l z_l a b c W hnil_l hrow_l hzb_l (zb_1 a (by simp)) (zb_1 b (by simp)) (zb_1 c (by simp))).mono fun e W' ⟨he, hb⟩ => ?_
  subst he
  exact ⟨_, rfl, law_post (pa := p0 ++ (p1 ++ [])) (pv := []) hWW (fun _ _ _ => (trodAll_cons_mk (shut_bool Try.underlying4 _) trodAll_mk0)) (fun sp hsp => args_back (by kernel_rfl) _ _ _ _ (by kernel_rfl) hA0 (fun x hx => hb.same (hWW.lt x (List.mem_append_left _ hx))) (fun x hx => hsp x (List.mem_append_left _ hx))) (fun _ _ => rfl) rfl hb⟩

theorem plateShifts_holds : Rows.PlateShiftsSaid :=
  OpenClaim.holds_of_wide 6 Try.f6 rfl rfl rfl rfl rfl rfl rfl ⟨rfl, rfl, rfl, rfl, rfl⟩ rfl rfl rfl rfl rfl (by kernel_rfl) Try.func6 (by kernel_rfl)
    (of_decide_eq_true (by kernel_rfl)) (by unfold Func.isWrapper; first | (rw [if_pos (by decide +kernel)]; kernel_rfl) | (rw [if_neg (by decide +kernel)]; exact ⟨rfl, rfl⟩))
    (fun os started H enc _ => plateShifts_lifted os started H enc)
end Go.Proofs.Ytjfcjclhbnmgcaa
