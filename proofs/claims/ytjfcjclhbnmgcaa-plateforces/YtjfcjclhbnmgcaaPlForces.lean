/- PROVED HERE: Rows.PlateForcesSaid: agraffelaw03.PlateForces returns true for every input, and its arguments read behind the call as before. -/
import Derived.Test.YtjfcjclhbnmgcaaPlAwake
import Derived.Test.YtjfcjclhbnmgcaaPlFoC
import Derived.Test.YtjfcjclhbnmgcaaPlFoRB
namespace Go.Proofs.Ytjfcjclhbnmgcaa
open Go.ChangeShapes Go.WideShapes Go.ChangeAt Go.RowKit Go.Joins
set_option linter.unusedVariables false
set_option linter.unusedSimpArgs false

set_option maxHeartbeats 8000000 in
set_option maxRecDepth 100000 in
theorem forces_bad (A : Option Addr) (n cap : Nat) (z : Nat → Nat → Int) (a b c E : Int) (w : World) (hfew : n ≤ 20 ∨ (300 < n ∧ n ≤ 305)) (hnil : A = none → n = 0 ∧ cap = 0) (hD : RowM 6 w w.heap.size A n z) (hE : frcE z n = E) (h0 : E ≠ 0) :
    Calls Try.prog 3 #[.slice A n cap, .agg #[.int .i64 a, .int .i64 b, .int .i64 c]] w fun x w' => x = .returned (.bool true) ∧ Below w.heap.size w w' := by
  have b1 : (E != 0) = true := by rw [bne_iff_ne]; exact h0
  have b2 : (E == 0) = false := by rw [beq_eq_false_iff_ne]; exact h0
  have ez : ∀ W, (Go.binOp .eql 23 (.agg #[.int .i64 0, .int .i64 0, .int .i64 0]) (.agg #[.int .i64 0, .int .i64 0, .int .i64 0])).run Try.prog W = .ok (.bool true) W := fun W => by rw [eq3_run, eq3_self]
  have CS := hide (fun W A' c' h => plSum_bad A' n c' z E W h hE h0)
  have CM := hide (fun W A' c' h => plMoment_bad A' n c' z a b c E W h hE h0)
  have CB := hide (fun W A' c' h => plBalanced_bad A' n c' z E W h hE h0)
  unfold zero3 at CS CM
  have HE := hide hE
  have HNIL := hide hnil
  have HD := hide hD
  clear hE h0 hnil hD
  have L0 := hide (Lv.start w)
  go_enter Try.func3, Try.ntmps3
  go_wp2_with fail
  refine Lv.call (plAwake_any _) (L0.out.put _ _) ?_
  intro w1 L1'
  have L1 := hide L1'
  have F1 := L1'.at
  clear L1'
  simp only [AllAt, CellsAt, updL, List.map, Nat.zero_add, Nat.reduceAdd, and_true, World.size_alloc, World.heap_drewN, heap_drew, size_set, Nat.add_eq_left, Nat.left_eq_add, Nat.add_right_cancel_iff, ne_up2, ne_dn2, ne_up3, ne_dn3, ne_up4, ne_dn4, Nat.reduceEqDiff, Nat.one_ne_zero, Nat.succ_ne_zero, Nat.zero_ne_one, reduceIte, List.set_cons_zero, List.set_cons_succ] at F1
  go_wp2_with fail
  refine Lv.same (few_yes A n cap _ hfew) ?_
  go_wp2_with fail
  refine (copied_any A n cap z _ (by omega) HNIL.out (HD.out.on (L1.out).below)).mono ?_
  rintro e w2 ⟨g2, c2, rfl, hr, hb⟩
  have R2 := hide hr
  have L2 := hide ((L1.out).kept hb)
  clear hr hb F1
  have F2 := L2.out.at; simp only [AllAt, CellsAt, updL, List.map, Nat.zero_add, Nat.reduceAdd, and_true, World.size_alloc, World.heap_drewN, heap_drew, size_set, Nat.add_eq_left, Nat.left_eq_add, Nat.add_right_cancel_iff, ne_up2, ne_dn2, ne_up3, ne_dn3, ne_up4, ne_dn4, Nat.reduceEqDiff, Nat.one_ne_zero, Nat.succ_ne_zero, Nat.zero_ne_one, reduceIte, List.set_cons_zero, List.set_cons_succ] at F2
  go_wp2_with fail
  refine Lv.call (CS.out _ _ _ R2.out) L2.out ?_
  intro w3 L3'
  have L3 := hide L3'
  have F3 := L3'.at
  clear L3' F2
  simp only [AllAt, CellsAt, updL, List.map, Nat.zero_add, Nat.reduceAdd, and_true, World.size_alloc, World.heap_drewN, heap_drew, size_set, Nat.add_eq_left, Nat.left_eq_add, Nat.add_right_cancel_iff, ne_up2, ne_dn2, ne_up3, ne_dn3, ne_up4, ne_dn4, Nat.reduceEqDiff, Nat.one_ne_zero, Nat.succ_ne_zero, Nat.zero_ne_one, reduceIte, List.set_cons_zero, List.set_cons_succ] at F3
  have L4 := hide (L3.out.put [.int .i64 0, .int .i64 0, .int .i64 0] 23)
  have n3 : (¬ w3.heap.size = w.heap.size ∧ ¬ w.heap.size = w3.heap.size) ∧ (¬ w3.heap.size + 1 = w.heap.size ∧ ¬ w.heap.size = w3.heap.size + 1) := by omega
  go_upto_region 6 with fail
  clear F3
  have F4 := L4.out.at; simp only [AllAt, CellsAt, updL, List.map, Nat.zero_add, Nat.reduceAdd, and_true, World.size_alloc, World.heap_drewN, heap_drew, size_set, Nat.add_eq_left, Nat.left_eq_add, Nat.add_right_cancel_iff, ne_up2, ne_dn2, ne_up3, ne_dn3, ne_up4, ne_dn4, Nat.reduceEqDiff, Nat.one_ne_zero, Nat.succ_ne_zero, Nat.zero_ne_one, reduceIte, List.set_cons_zero, List.set_cons_succ] at F4
  go_cut [7, 8] (fun s7 s8 wx => ∃ g : Nat, s7 = .pointer (some ⟨g, 0, none⟩) ∧ s8 = .int .i64 E ∧ Hid (Lv w wx ((g, 23, [.int .i64 0, .int .i64 0, .int .i64 0]) :: (w3.heap.size, 23, [.int .i64 0, .int .i64 0, .int .i64 0]) :: [(w.heap.size, 23, [.int .i64 a, .int .i64 b, .int .i64 c])])))
  case first =>
    ((go_region_held3 (fun w' => w'.cell? ⟨w.heap.size, 0, none⟩ = some (.int .i64 a) ∧ w'.cell? ⟨w.heap.size, 1, none⟩ = some (.int .i64 b) ∧ w'.cell? ⟨w.heap.size, 2, none⟩ = some (.int .i64 c))
      (go_keep)
      (first | (go_at_call 18; (first | (refine (copied_any A n cap z _ (by omega) HNIL.out (HD.out.on (L4.out.drew).below)).mono ?_; rintro e w5 ⟨g5, c5, rfl, hr, hb⟩; have R5 := hide hr; have L5 := hide ((L4.out.drew).kept hb); clear hr hb; have F5 := L5.out.at; simp only [AllAt, CellsAt, updL, List.map, Nat.zero_add, Nat.reduceAdd, and_true, World.size_alloc, World.heap_drewN, heap_drew, size_set, Nat.add_eq_left, Nat.left_eq_add, Nat.add_right_cancel_iff, ne_up2, ne_dn2, ne_up3, ne_dn3, ne_up4, ne_dn4, Nat.reduceEqDiff, Nat.one_ne_zero, Nat.succ_ne_zero, Nat.zero_ne_one, reduceIte, List.set_cons_zero, List.set_cons_succ] at F5; have n5 : ¬ w5.heap.size = w.heap.size ∧ ¬ w.heap.size = w5.heap.size := (by omega)) | (refine (copied_any A n cap z _ (by omega) HNIL.out (HD.out.on ((L4.out.put _ _).drew).below)).mono ?_; rintro e w5 ⟨g5, c5, rfl, hr, hb⟩; have R5 := hide hr; have L5 := hide (((L4.out.put _ _).drew).kept hb); clear hr hb; have F5 := L5.out.at; simp only [AllAt, CellsAt, updL, List.map, Nat.zero_add, Nat.reduceAdd, and_true, World.size_alloc, World.heap_drewN, heap_drew, size_set, Nat.add_eq_left, Nat.left_eq_add, Nat.add_right_cancel_iff, ne_up2, ne_dn2, ne_up3, ne_dn3, ne_up4, ne_dn4, Nat.reduceEqDiff, Nat.one_ne_zero, Nat.succ_ne_zero, Nat.zero_ne_one, reduceIte, List.set_cons_zero, List.set_cons_succ] at F5; have n5 : ¬ w5.heap.size = w.heap.size ∧ ¬ w.heap.size = w5.heap.size := (by omega)))) | (go_at_call 19; (first | (refine Lv.call (CM.out _ _ _ R5.out) (L5.out) ?_; intro w6 L6'; have L6 := hide L6'; have F6 := L6'.at; clear L6'; simp only [AllAt, CellsAt, updL, List.map, Nat.zero_add, Nat.reduceAdd, and_true, World.size_alloc, World.heap_drewN, heap_drew, size_set, Nat.add_eq_left, Nat.left_eq_add, Nat.add_right_cancel_iff, ne_up2, ne_dn2, ne_up3, ne_dn3, ne_up4, ne_dn4, Nat.reduceEqDiff, Nat.one_ne_zero, Nat.succ_ne_zero, Nat.zero_ne_one, reduceIte, List.set_cons_zero, List.set_cons_succ] at F6; have n6 : ¬ w6.heap.size = w.heap.size ∧ ¬ w.heap.size = w6.heap.size := (by omega)) | (refine Lv.call (CM.out _ _ _ (R5.out.on ((Below.refl _ _).alloc (Nat.le_refl _) _))) (L5.out.put _ _) ?_; intro w6 L6'; have L6 := hide L6'; have F6 := L6'.at; clear L6'; simp only [AllAt, CellsAt, updL, List.map, Nat.zero_add, Nat.reduceAdd, and_true, World.size_alloc, World.heap_drewN, heap_drew, size_set, Nat.add_eq_left, Nat.left_eq_add, Nat.add_right_cancel_iff, ne_up2, ne_dn2, ne_up3, ne_dn3, ne_up4, ne_dn4, Nat.reduceEqDiff, Nat.one_ne_zero, Nat.succ_ne_zero, Nat.zero_ne_one, reduceIte, List.set_cons_zero, List.set_cons_succ] at F6; have n6 : ¬ w6.heap.size = w.heap.size ∧ ¬ w.heap.size = w6.heap.size := (by omega)))) | fail)))
    all_goals
      go_wp2_with fail
      go_meet
      refine ⟨_, rfl, rfl, hide ?_⟩
      first
        | exact L6.out.put _ _
        | exact L6.out.stored3 L5.out.size L5.out.far'
        | exact L6.out.stored3 L4.out.size L4.out.far'
        | (have h2 := L4.out.size; have hf2 := L4.out.far'; have h5 := L6.out; simp only [World.size_alloc] at h2 hf2 h5; exact h5.stored3 h2 hf2)
  case' rest =>
    obtain ⟨g, rfl, rfl, L6⟩ := hcut
    clear F4 L4 L3 L2 L1 R2
    have F6 := L6.out.at; simp only [AllAt, CellsAt, updL, List.map, Nat.zero_add, Nat.reduceAdd, and_true, World.size_alloc, World.heap_drewN, heap_drew, size_set, Nat.add_eq_left, Nat.left_eq_add, Nat.add_right_cancel_iff, ne_up2, ne_dn2, ne_up3, ne_dn3, ne_up4, ne_dn4, Nat.reduceEqDiff, Nat.one_ne_zero, Nat.succ_ne_zero, Nat.zero_ne_one, reduceIte, List.set_cons_zero, List.set_cons_succ] at F6
    go_wp2_with fail
    refine (copied_any A n cap z _ (by omega) HNIL.out (HD.out.on (L6.out).below)).mono ?_
    rintro e w7 ⟨g7, c7, rfl, hr, hb⟩
    have R7 := hide hr
    have L7 := hide ((L6.out).kept hb)
    clear hr hb F6
    have F7 := L7.out.at; simp only [AllAt, CellsAt, updL, List.map, Nat.zero_add, Nat.reduceAdd, and_true, World.size_alloc, World.heap_drewN, heap_drew, size_set, Nat.add_eq_left, Nat.left_eq_add, Nat.add_right_cancel_iff, ne_up2, ne_dn2, ne_up3, ne_dn3, ne_up4, ne_dn4, Nat.reduceEqDiff, Nat.one_ne_zero, Nat.succ_ne_zero, Nat.zero_ne_one, reduceIte, List.set_cons_zero, List.set_cons_succ] at F7
    go_wp2_with fail
    refine Lv.call (CB.out _ _ _ R7.out) L7.out ?_
    intro w8 L8'
    have L8 := hide L8'
    have F8 := L8'.at
    clear L8' F7
    simp only [AllAt, CellsAt, updL, List.map, Nat.zero_add, Nat.reduceAdd, and_true, World.size_alloc, World.heap_drewN, heap_drew, size_set, Nat.add_eq_left, Nat.left_eq_add, Nat.add_right_cancel_iff, ne_up2, ne_dn2, ne_up3, ne_dn3, ne_up4, ne_dn4, Nat.reduceEqDiff, Nat.one_ne_zero, Nat.succ_ne_zero, Nat.zero_ne_one, reduceIte, List.set_cons_zero, List.set_cons_succ] at F8
    go_wp2_with fail
    refine Lv.call (refForces_any A n cap z _ (HD.out.on L8.out.below)) L8.out ?_
    intro w9 L9'
    have L9 := hide L9'
    have F9 := L9'.at
    clear L9' F8
    simp only [AllAt, CellsAt, updL, List.map, Nat.zero_add, Nat.reduceAdd, and_true, World.size_alloc, World.heap_drewN, heap_drew, size_set, Nat.add_eq_left, Nat.left_eq_add, Nat.add_right_cancel_iff, ne_up2, ne_dn2, ne_up3, ne_dn3, ne_up4, ne_dn4, Nat.reduceEqDiff, Nat.one_ne_zero, Nat.succ_ne_zero, Nat.zero_ne_one, reduceIte, List.set_cons_zero, List.set_cons_succ] at F9
    rw [HE.out]
    go_wp2_with fail
    refine (copied_any A n cap z _ (by omega) HNIL.out (HD.out.on (L9.out).below)).mono ?_
    rintro e w10 ⟨g10, c10, rfl, hr, hb⟩
    have R10 := hide hr
    have L10 := hide ((L9.out).kept hb)
    clear hr hb F9
    have F10 := L10.out.at; simp only [AllAt, CellsAt, updL, List.map, Nat.zero_add, Nat.reduceAdd, and_true, World.size_alloc, World.heap_drewN, heap_drew, size_set, Nat.add_eq_left, Nat.left_eq_add, Nat.add_right_cancel_iff, ne_up2, ne_dn2, ne_up3, ne_dn3, ne_up4, ne_dn4, Nat.reduceEqDiff, Nat.one_ne_zero, Nat.succ_ne_zero, Nat.zero_ne_one, reduceIte, List.set_cons_zero, List.set_cons_succ] at F10
    go_wp2_with fail
    refine Lv.call (plForces_any _ n _ z _ R10.out) L10.out ?_
    intro w11 L11'
    have L11 := hide L11'
    have F11 := L11'.at
    clear L11' F10
    simp only [AllAt, CellsAt, updL, List.map, Nat.zero_add, Nat.reduceAdd, and_true, World.size_alloc, World.heap_drewN, heap_drew, size_set, Nat.add_eq_left, Nat.left_eq_add, Nat.add_right_cancel_iff, ne_up2, ne_dn2, ne_up3, ne_dn3, ne_up4, ne_dn4, Nat.reduceEqDiff, Nat.one_ne_zero, Nat.succ_ne_zero, Nat.zero_ne_one, reduceIte, List.set_cons_zero, List.set_cons_succ] at F11
    rw [HE.out]
    clear R7 R10 L6 L7 L8 L9 L10
  go_wp2
  go_ret
  exact ⟨rfl, L11.out.below⟩
set_option maxHeartbeats 8000000 in
set_option maxRecDepth 100000 in
theorem forces_far (A : Option Addr) (n cap : Nat) (z : Nat → Nat → Int) (a b c : Int) (w : World) (hfew : n ≤ 20 ∨ (300 < n ∧ n ≤ 305)) (hnil : A = none → n = 0 ∧ cap = 0) (hD : RowM 6 w w.heap.size A n z) (hE : frcE z n = 0) (hP : plE a b c = 2) :
    Calls Try.prog 3 #[.slice A n cap, .agg #[.int .i64 a, .int .i64 b, .int .i64 c]] w fun x w' => x = .returned (.bool true) ∧ Below w.heap.size w w' := by
  obtain ⟨hn, hF⟩ := frcE_in hE
  have ez : ∀ W, (Go.binOp .eql 23 (.agg #[.int .i64 0, .int .i64 0, .int .i64 0]) (.agg #[.int .i64 0, .int .i64 0, .int .i64 0])).run Try.prog W = .ok (.bool true) W := fun W => by rw [eq3_run, eq3_self]
  have CS := fun W A' c' h => plSum_ok A' n c' z W h hE
  have CM := hide (fun W A' c' h => plMoment_far A' n c' z a b c W h hE hP)
  have CB := fun W A' c' h => plBalanced_ok A' n c' z W h hE
  have CRS := fun W h => refSum_any A n cap z W h (by omega) hF
  have CRB := fun W h => refBalanced_any A n cap z W h hE
  have HV : Hid (inV a b c 1000000 = false) := by
    unfold plE at hP
    by_cases hv : inV a b c 1000000 = true
    · rw [if_pos hv] at hP; omega
    · exact hide (by simpa using hv)
  unfold zero3 at CM
  unfold sum3 at CS CRS
  have HE := hide hE
  have HNIL := hide hnil
  have HD := hide hD
  clear hE hnil hD hF hP
  obtain ⟨s0, h0⟩ : ∃ x, x = sumTo z 3 n := ⟨_, rfl⟩
  obtain ⟨s1, h1⟩ : ∃ x, x = sumTo z 4 n := ⟨_, rfl⟩
  obtain ⟨s2, h2⟩ : ∃ x, x = sumTo z 5 n := ⟨_, rfl⟩
  obtain ⟨q, hq⟩ : ∃ q, q = balB z n := ⟨_, rfl⟩
  rw [← h0, ← h1, ← h2] at CS CRS
  rw [← hq] at CB CRB
  clear h0 h1 h2 hq
  replace CS := hide CS
  replace CB := hide CB
  replace CRS := hide CRS
  replace CRB := hide CRB
  have es : ∀ W, (Go.binOp .neq 23 (.agg #[.int .i64 s0, .int .i64 s1, .int .i64 s2]) (.agg #[.int .i64 s0, .int .i64 s1, .int .i64 s2])).run Try.prog W = .ok (.bool false) W := fun W => by rw [neq3_run, eq3_self]; rfl
  have L0 := hide (Lv.start w)
  go_enter Try.func3, Try.ntmps3
  go_wp2_with fail
  refine Lv.call (plAwake_any _) (L0.out.put _ _) ?_
  intro w1 L1'
  have L1 := hide L1'
  have F1 := L1'.at
  clear L1'
  simp only [AllAt, CellsAt, updL, List.map, Nat.zero_add, Nat.reduceAdd, and_true, World.size_alloc, World.heap_drewN, heap_drew, size_set, Nat.add_eq_left, Nat.left_eq_add, Nat.add_right_cancel_iff, ne_up2, ne_dn2, ne_up3, ne_dn3, ne_up4, ne_dn4, Nat.reduceEqDiff, Nat.one_ne_zero, Nat.succ_ne_zero, Nat.zero_ne_one, reduceIte, List.set_cons_zero, List.set_cons_succ] at F1
  go_wp2_with fail
  refine Lv.same (few_yes A n cap _ hfew) ?_
  go_wp2_with fail
  refine (copied_any A n cap z _ (by omega) HNIL.out (HD.out.on (L1.out).below)).mono ?_
  rintro e w2 ⟨g2, c2, rfl, hr, hb⟩
  have R2 := hide hr
  have L2 := hide ((L1.out).kept hb)
  clear hr hb F1
  have F2 := L2.out.at; simp only [AllAt, CellsAt, updL, List.map, Nat.zero_add, Nat.reduceAdd, and_true, World.size_alloc, World.heap_drewN, heap_drew, size_set, Nat.add_eq_left, Nat.left_eq_add, Nat.add_right_cancel_iff, ne_up2, ne_dn2, ne_up3, ne_dn3, ne_up4, ne_dn4, Nat.reduceEqDiff, Nat.one_ne_zero, Nat.succ_ne_zero, Nat.zero_ne_one, reduceIte, List.set_cons_zero, List.set_cons_succ] at F2
  go_wp2_with fail
  refine Lv.call (CS.out _ _ _ R2.out) L2.out ?_
  intro w3 L3'
  have L3 := hide L3'
  have F3 := L3'.at
  clear L3' F2
  simp only [AllAt, CellsAt, updL, List.map, Nat.zero_add, Nat.reduceAdd, and_true, World.size_alloc, World.heap_drewN, heap_drew, size_set, Nat.add_eq_left, Nat.left_eq_add, Nat.add_right_cancel_iff, ne_up2, ne_dn2, ne_up3, ne_dn3, ne_up4, ne_dn4, Nat.reduceEqDiff, Nat.one_ne_zero, Nat.succ_ne_zero, Nat.zero_ne_one, reduceIte, List.set_cons_zero, List.set_cons_succ] at F3
  have L4 := hide (L3.out.put [.int .i64 s0, .int .i64 s1, .int .i64 s2] 23)
  have n3 : (¬ w3.heap.size = w.heap.size ∧ ¬ w.heap.size = w3.heap.size) ∧ (¬ w3.heap.size + 1 = w.heap.size ∧ ¬ w.heap.size = w3.heap.size + 1) := by omega
  go_upto_region 6 with fail
  clear F3
  have F4 := L4.out.at; simp only [AllAt, CellsAt, updL, List.map, Nat.zero_add, Nat.reduceAdd, and_true, World.size_alloc, World.heap_drewN, heap_drew, size_set, Nat.add_eq_left, Nat.left_eq_add, Nat.add_right_cancel_iff, ne_up2, ne_dn2, ne_up3, ne_dn3, ne_up4, ne_dn4, Nat.reduceEqDiff, Nat.one_ne_zero, Nat.succ_ne_zero, Nat.zero_ne_one, reduceIte, List.set_cons_zero, List.set_cons_succ] at F4
  go_cut [7, 8] (fun s7 s8 wx => ∃ g : Nat, s7 = .pointer (some ⟨g, 0, none⟩) ∧ s8 = .int .i64 2 ∧ Hid (Lv w wx ((g, 23, [.int .i64 0, .int .i64 0, .int .i64 0]) :: (w3.heap.size, 23, [.int .i64 s0, .int .i64 s1, .int .i64 s2]) :: [(w.heap.size, 23, [.int .i64 a, .int .i64 b, .int .i64 c])])))
  case first =>
    ((go_region_held3 (fun w' => w'.cell? ⟨w.heap.size, 0, none⟩ = some (.int .i64 a) ∧ w'.cell? ⟨w.heap.size, 1, none⟩ = some (.int .i64 b) ∧ w'.cell? ⟨w.heap.size, 2, none⟩ = some (.int .i64 c))
      (go_keep)
      (first | (go_at_call 18; (first | (refine (copied_any A n cap z _ (by omega) HNIL.out (HD.out.on (L4.out.drew).below)).mono ?_; rintro e w5 ⟨g5, c5, rfl, hr, hb⟩; have R5 := hide hr; have L5 := hide ((L4.out.drew).kept hb); clear hr hb; have F5 := L5.out.at; simp only [AllAt, CellsAt, updL, List.map, Nat.zero_add, Nat.reduceAdd, and_true, World.size_alloc, World.heap_drewN, heap_drew, size_set, Nat.add_eq_left, Nat.left_eq_add, Nat.add_right_cancel_iff, ne_up2, ne_dn2, ne_up3, ne_dn3, ne_up4, ne_dn4, Nat.reduceEqDiff, Nat.one_ne_zero, Nat.succ_ne_zero, Nat.zero_ne_one, reduceIte, List.set_cons_zero, List.set_cons_succ] at F5; have n5 : ¬ w5.heap.size = w.heap.size ∧ ¬ w.heap.size = w5.heap.size := (by omega)) | (refine (copied_any A n cap z _ (by omega) HNIL.out (HD.out.on ((L4.out.put _ _).drew).below)).mono ?_; rintro e w5 ⟨g5, c5, rfl, hr, hb⟩; have R5 := hide hr; have L5 := hide (((L4.out.put _ _).drew).kept hb); clear hr hb; have F5 := L5.out.at; simp only [AllAt, CellsAt, updL, List.map, Nat.zero_add, Nat.reduceAdd, and_true, World.size_alloc, World.heap_drewN, heap_drew, size_set, Nat.add_eq_left, Nat.left_eq_add, Nat.add_right_cancel_iff, ne_up2, ne_dn2, ne_up3, ne_dn3, ne_up4, ne_dn4, Nat.reduceEqDiff, Nat.one_ne_zero, Nat.succ_ne_zero, Nat.zero_ne_one, reduceIte, List.set_cons_zero, List.set_cons_succ] at F5; have n5 : ¬ w5.heap.size = w.heap.size ∧ ¬ w.heap.size = w5.heap.size := (by omega)))) | (go_at_call 19; (first | (refine Lv.call (CM.out _ _ _ R5.out) (L5.out) ?_; intro w6 L6'; have L6 := hide L6'; have F6 := L6'.at; clear L6'; simp only [AllAt, CellsAt, updL, List.map, Nat.zero_add, Nat.reduceAdd, and_true, World.size_alloc, World.heap_drewN, heap_drew, size_set, Nat.add_eq_left, Nat.left_eq_add, Nat.add_right_cancel_iff, ne_up2, ne_dn2, ne_up3, ne_dn3, ne_up4, ne_dn4, Nat.reduceEqDiff, Nat.one_ne_zero, Nat.succ_ne_zero, Nat.zero_ne_one, reduceIte, List.set_cons_zero, List.set_cons_succ] at F6; have n6 : ¬ w6.heap.size = w.heap.size ∧ ¬ w.heap.size = w6.heap.size := (by omega)) | (refine Lv.call (CM.out _ _ _ (R5.out.on ((Below.refl _ _).alloc (Nat.le_refl _) _))) (L5.out.put _ _) ?_; intro w6 L6'; have L6 := hide L6'; have F6 := L6'.at; clear L6'; simp only [AllAt, CellsAt, updL, List.map, Nat.zero_add, Nat.reduceAdd, and_true, World.size_alloc, World.heap_drewN, heap_drew, size_set, Nat.add_eq_left, Nat.left_eq_add, Nat.add_right_cancel_iff, ne_up2, ne_dn2, ne_up3, ne_dn3, ne_up4, ne_dn4, Nat.reduceEqDiff, Nat.one_ne_zero, Nat.succ_ne_zero, Nat.zero_ne_one, reduceIte, List.set_cons_zero, List.set_cons_succ] at F6; have n6 : ¬ w6.heap.size = w.heap.size ∧ ¬ w.heap.size = w6.heap.size := (by omega)))) | fail)))
    all_goals
      go_wp2_with fail
      go_meet
      refine ⟨_, rfl, rfl, hide ?_⟩
      first
        | exact L6.out.put _ _
        | exact L6.out.stored3 L5.out.size L5.out.far'
        | exact L6.out.stored3 L4.out.size L4.out.far'
        | (have h2 := L4.out.size; have hf2 := L4.out.far'; have h5 := L6.out; simp only [World.size_alloc] at h2 hf2 h5; exact h5.stored3 h2 hf2)
  case' rest =>
    obtain ⟨g, rfl, rfl, L6⟩ := hcut
    clear F4 L4 L3 L2 L1 R2
    have F6 := L6.out.at; simp only [AllAt, CellsAt, updL, List.map, Nat.zero_add, Nat.reduceAdd, and_true, World.size_alloc, World.heap_drewN, heap_drew, size_set, Nat.add_eq_left, Nat.left_eq_add, Nat.add_right_cancel_iff, ne_up2, ne_dn2, ne_up3, ne_dn3, ne_up4, ne_dn4, Nat.reduceEqDiff, Nat.one_ne_zero, Nat.succ_ne_zero, Nat.zero_ne_one, reduceIte, List.set_cons_zero, List.set_cons_succ] at F6
    go_wp2_with fail
    refine (copied_any A n cap z _ (by omega) HNIL.out (HD.out.on (L6.out).below)).mono ?_
    rintro e w7 ⟨g7, c7, rfl, hr, hb⟩
    have R7 := hide hr
    have L7 := hide ((L6.out).kept hb)
    clear hr hb F6
    have F7 := L7.out.at; simp only [AllAt, CellsAt, updL, List.map, Nat.zero_add, Nat.reduceAdd, and_true, World.size_alloc, World.heap_drewN, heap_drew, size_set, Nat.add_eq_left, Nat.left_eq_add, Nat.add_right_cancel_iff, ne_up2, ne_dn2, ne_up3, ne_dn3, ne_up4, ne_dn4, Nat.reduceEqDiff, Nat.one_ne_zero, Nat.succ_ne_zero, Nat.zero_ne_one, reduceIte, List.set_cons_zero, List.set_cons_succ] at F7
    go_wp2_with fail
    refine Lv.call (CB.out _ _ _ R7.out) L7.out ?_
    intro w8 L8'
    have L8 := hide L8'
    have F8 := L8'.at
    clear L8' F7
    simp only [AllAt, CellsAt, updL, List.map, Nat.zero_add, Nat.reduceAdd, and_true, World.size_alloc, World.heap_drewN, heap_drew, size_set, Nat.add_eq_left, Nat.left_eq_add, Nat.add_right_cancel_iff, ne_up2, ne_dn2, ne_up3, ne_dn3, ne_up4, ne_dn4, Nat.reduceEqDiff, Nat.one_ne_zero, Nat.succ_ne_zero, Nat.zero_ne_one, reduceIte, List.set_cons_zero, List.set_cons_succ] at F8
    go_wp2_with fail
    refine Lv.call (refForces_any A n cap z _ (HD.out.on L8.out.below)) L8.out ?_
    intro w9 L9'
    have L9 := hide L9'
    have F9 := L9'.at
    clear L9' F8
    simp only [AllAt, CellsAt, updL, List.map, Nat.zero_add, Nat.reduceAdd, and_true, World.size_alloc, World.heap_drewN, heap_drew, size_set, Nat.add_eq_left, Nat.left_eq_add, Nat.add_right_cancel_iff, ne_up2, ne_dn2, ne_up3, ne_dn3, ne_up4, ne_dn4, Nat.reduceEqDiff, Nat.one_ne_zero, Nat.succ_ne_zero, Nat.zero_ne_one, reduceIte, List.set_cons_zero, List.set_cons_succ] at F9
    rw [HE.out]
    go_wp2_with fail
    refine (copied_any A n cap z _ (by omega) HNIL.out (HD.out.on (L9.out).below)).mono ?_
    rintro e w10 ⟨g10, c10, rfl, hr, hb⟩
    have R10 := hide hr
    have L10 := hide ((L9.out).kept hb)
    clear hr hb F9
    have F10 := L10.out.at; simp only [AllAt, CellsAt, updL, List.map, Nat.zero_add, Nat.reduceAdd, and_true, World.size_alloc, World.heap_drewN, heap_drew, size_set, Nat.add_eq_left, Nat.left_eq_add, Nat.add_right_cancel_iff, ne_up2, ne_dn2, ne_up3, ne_dn3, ne_up4, ne_dn4, Nat.reduceEqDiff, Nat.one_ne_zero, Nat.succ_ne_zero, Nat.zero_ne_one, reduceIte, List.set_cons_zero, List.set_cons_succ] at F10
    go_wp2_with fail
    refine Lv.call (plForces_any _ n _ z _ R10.out) L10.out ?_
    intro w11 L11'
    have L11 := hide L11'
    have F11 := L11'.at
    clear L11' F10
    simp only [AllAt, CellsAt, updL, List.map, Nat.zero_add, Nat.reduceAdd, and_true, World.size_alloc, World.heap_drewN, heap_drew, size_set, Nat.add_eq_left, Nat.left_eq_add, Nat.add_right_cancel_iff, ne_up2, ne_dn2, ne_up3, ne_dn3, ne_up4, ne_dn4, Nat.reduceEqDiff, Nat.one_ne_zero, Nat.succ_ne_zero, Nat.zero_ne_one, reduceIte, List.set_cons_zero, List.set_cons_succ] at F11
    rw [HE.out]
    clear R7 R10 L6 L7 L8 L9 L10
  go_upto_region 13 with fail
  (first | (go_region_held3 (fun w' => w'.cell? ⟨w3.heap.size, 0, none⟩ = some (.int .i64 s0) ∧ w'.cell? ⟨w3.heap.size, 1, none⟩ = some (.int .i64 s1) ∧ w'.cell? ⟨w3.heap.size, 2, none⟩ = some (.int .i64 s2))
    (go_keep)
    (first | (go_at_call 23; refine Lv.call (CRS.out _ (HD.out.on L11.out.drew.below)) L11.out.drew ?_; intro w12 L12'; have L12 := hide L12'; have F12 := L12'.at; clear L12'; simp only [AllAt, CellsAt, updL, List.map, Nat.zero_add, Nat.reduceAdd, and_true, World.size_alloc, World.heap_drewN, heap_drew, size_set, Nat.add_eq_left, Nat.left_eq_add, Nat.add_right_cancel_iff, ne_up2, ne_dn2, ne_up3, ne_dn3, ne_up4, ne_dn4, Nat.reduceEqDiff, Nat.one_ne_zero, Nat.succ_ne_zero, Nat.zero_ne_one, reduceIte, List.set_cons_zero, List.set_cons_succ] at F12) | (go_at_call 24; refine Lv.call (CRB.out _ (HD.out.on L12.out.below)) L12.out ?_; intro w13 L13'; have L13 := hide L13'; have F13 := L13'.at; clear L13'; simp only [AllAt, CellsAt, updL, List.map, Nat.zero_add, Nat.reduceAdd, and_true, World.size_alloc, World.heap_drewN, heap_drew, size_set, Nat.add_eq_left, Nat.left_eq_add, Nat.add_right_cancel_iff, ne_up2, ne_dn2, ne_up3, ne_dn3, ne_up4, ne_dn4, Nat.reduceEqDiff, Nat.one_ne_zero, Nat.succ_ne_zero, Nat.zero_ne_one, reduceIte, List.set_cons_zero, List.set_cons_succ] at F13) | fail)) | fail)
  clear F11 F12
  go_wp2_with fail
  refine Lv.call (refPlace_any a b c _) L13.out ?_
  intro w14 L14'
  have L14 := hide L14'
  have F14 := L14'.at
  clear L14' F13
  simp only [AllAt, CellsAt, updL, List.map, Nat.zero_add, Nat.reduceAdd, and_true, World.size_alloc, World.heap_drewN, heap_drew, size_set, Nat.add_eq_left, Nat.left_eq_add, Nat.add_right_cancel_iff, ne_up2, ne_dn2, ne_up3, ne_dn3, ne_up4, ne_dn4, Nat.reduceEqDiff, Nat.one_ne_zero, Nat.succ_ne_zero, Nat.zero_ne_one, reduceIte, List.set_cons_zero, List.set_cons_succ] at F14
  rw [HV.out]
  go_wp2
  go_ret
  exact ⟨rfl, L14.out.below⟩
set_option maxHeartbeats 8000000 in
set_option maxRecDepth 100000 in
theorem forces_ok (A : Option Addr) (n cap : Nat) (z : Nat → Nat → Int) (a b c : Int) (w : World) (hfew : n ≤ 20 ∨ (300 < n ∧ n ≤ 305)) (hnil : A = none → n = 0 ∧ cap = 0) (hD : RowM 6 w w.heap.size A n z) (hE : frcE z n = 0) (hP : plE a b c = 0) :
    Calls Try.prog 3 #[.slice A n cap, .agg #[.int .i64 a, .int .i64 b, .int .i64 c]] w fun x w' => x = .returned (.bool true) ∧ Below w.heap.size w w' := by
  obtain ⟨hn, hF⟩ := frcE_in hE
  obtain ⟨p1, p2, p3⟩ := place3 hP
  have CS := fun W A' c' h => plSum_ok A' n c' z W h hE
  have CM := fun W A' c' h => plMoment_ok A' n c' z a b c W h hE hP
  have CB := fun W A' c' h => plBalanced_ok A' n c' z W h hE
  have CRS := fun W h => refSum_any A n cap z W h (by omega) hF
  have CRM := fun W h => refMoment_any A n cap z a b c W h (by omega) hF p1 p2 p3
  have CRB := fun W h => refBalanced_any A n cap z W h hE
  have HV : Hid (inV a b c 1000000 = true) := by
    unfold plE at hP
    by_cases hv : inV a b c 1000000 = true
    · exact hide hv
    · rw [if_neg hv] at hP; omega
  unfold mom3 at CM CRM
  unfold sum3 at CS CRS
  have HE := hide hE
  have HNIL := hide hnil
  have HD := hide hD
  clear hE hnil hD hF hP p1 p2 p3
  obtain ⟨s0, h0⟩ : ∃ x, x = sumTo z 3 n := ⟨_, rfl⟩
  obtain ⟨s1, h1⟩ : ∃ x, x = sumTo z 4 n := ⟨_, rfl⟩
  obtain ⟨s2, h2⟩ : ∃ x, x = sumTo z 5 n := ⟨_, rfl⟩
  obtain ⟨m0, h3⟩ : ∃ x, x = momTo z 1 2 4 5 b c n := ⟨_, rfl⟩
  obtain ⟨m1, h4⟩ : ∃ x, x = momTo z 2 0 5 3 c a n := ⟨_, rfl⟩
  obtain ⟨m2, h5⟩ : ∃ x, x = momTo z 0 1 3 4 a b n := ⟨_, rfl⟩
  obtain ⟨q, hq⟩ : ∃ q, q = balB z n := ⟨_, rfl⟩
  rw [← h0, ← h1, ← h2] at CS CRS
  rw [← h3, ← h4, ← h5] at CM CRM
  rw [← hq] at CB CRB
  clear h0 h1 h2 h3 h4 h5 hq
  replace CS := hide CS
  replace CM := hide CM
  replace CB := hide CB
  replace CRS := hide CRS
  replace CRM := hide CRM
  replace CRB := hide CRB
  have es : ∀ W, (Go.binOp .neq 23 (.agg #[.int .i64 s0, .int .i64 s1, .int .i64 s2]) (.agg #[.int .i64 s0, .int .i64 s1, .int .i64 s2])).run Try.prog W = .ok (.bool false) W := fun W => by rw [neq3_run, eq3_self]; rfl
  have em : ∀ W, (Go.binOp .eql 23 (.agg #[.int .i64 m0, .int .i64 m1, .int .i64 m2]) (.agg #[.int .i64 m0, .int .i64 m1, .int .i64 m2])).run Try.prog W = .ok (.bool true) W := fun W => by rw [eq3_run, eq3_self]
  have L0 := hide (Lv.start w)
  go_enter Try.func3, Try.ntmps3
  go_wp2_with fail
  refine Lv.call (plAwake_any _) (L0.out.put _ _) ?_
  intro w1 L1'
  have L1 := hide L1'
  have F1 := L1'.at
  clear L1'
  simp only [AllAt, CellsAt, updL, List.map, Nat.zero_add, Nat.reduceAdd, and_true, World.size_alloc, World.heap_drewN, heap_drew, size_set, Nat.add_eq_left, Nat.left_eq_add, Nat.add_right_cancel_iff, ne_up2, ne_dn2, ne_up3, ne_dn3, ne_up4, ne_dn4, Nat.reduceEqDiff, Nat.one_ne_zero, Nat.succ_ne_zero, Nat.zero_ne_one, reduceIte, List.set_cons_zero, List.set_cons_succ] at F1
  go_wp2_with fail
  refine Lv.same (few_yes A n cap _ hfew) ?_
  go_wp2_with fail
  refine (copied_any A n cap z _ (by omega) HNIL.out (HD.out.on (L1.out).below)).mono ?_
  rintro e w2 ⟨g2, c2, rfl, hr, hb⟩
  have R2 := hide hr
  have L2 := hide ((L1.out).kept hb)
  clear hr hb F1
  have F2 := L2.out.at; simp only [AllAt, CellsAt, updL, List.map, Nat.zero_add, Nat.reduceAdd, and_true, World.size_alloc, World.heap_drewN, heap_drew, size_set, Nat.add_eq_left, Nat.left_eq_add, Nat.add_right_cancel_iff, ne_up2, ne_dn2, ne_up3, ne_dn3, ne_up4, ne_dn4, Nat.reduceEqDiff, Nat.one_ne_zero, Nat.succ_ne_zero, Nat.zero_ne_one, reduceIte, List.set_cons_zero, List.set_cons_succ] at F2
  go_wp2_with fail
  refine Lv.call (CS.out _ _ _ R2.out) L2.out ?_
  intro w3 L3'
  have L3 := hide L3'
  have F3 := L3'.at
  clear L3' F2
  simp only [AllAt, CellsAt, updL, List.map, Nat.zero_add, Nat.reduceAdd, and_true, World.size_alloc, World.heap_drewN, heap_drew, size_set, Nat.add_eq_left, Nat.left_eq_add, Nat.add_right_cancel_iff, ne_up2, ne_dn2, ne_up3, ne_dn3, ne_up4, ne_dn4, Nat.reduceEqDiff, Nat.one_ne_zero, Nat.succ_ne_zero, Nat.zero_ne_one, reduceIte, List.set_cons_zero, List.set_cons_succ] at F3
  have L4 := hide (L3.out.put [.int .i64 s0, .int .i64 s1, .int .i64 s2] 23)
  have n3 : (¬ w3.heap.size = w.heap.size ∧ ¬ w.heap.size = w3.heap.size) ∧ (¬ w3.heap.size + 1 = w.heap.size ∧ ¬ w.heap.size = w3.heap.size + 1) := by omega
  go_upto_region 6 with fail
  clear F3
  have F4 := L4.out.at; simp only [AllAt, CellsAt, updL, List.map, Nat.zero_add, Nat.reduceAdd, and_true, World.size_alloc, World.heap_drewN, heap_drew, size_set, Nat.add_eq_left, Nat.left_eq_add, Nat.add_right_cancel_iff, ne_up2, ne_dn2, ne_up3, ne_dn3, ne_up4, ne_dn4, Nat.reduceEqDiff, Nat.one_ne_zero, Nat.succ_ne_zero, Nat.zero_ne_one, reduceIte, List.set_cons_zero, List.set_cons_succ] at F4
  go_cut [7, 8] (fun s7 s8 wx => ∃ g : Nat, s7 = .pointer (some ⟨g, 0, none⟩) ∧ s8 = .int .i64 0 ∧ Hid (Lv w wx ((g, 23, [.int .i64 m0, .int .i64 m1, .int .i64 m2]) :: (w3.heap.size, 23, [.int .i64 s0, .int .i64 s1, .int .i64 s2]) :: [(w.heap.size, 23, [.int .i64 a, .int .i64 b, .int .i64 c])])))
  case first =>
    ((go_region_held3 (fun w' => w'.cell? ⟨w.heap.size, 0, none⟩ = some (.int .i64 a) ∧ w'.cell? ⟨w.heap.size, 1, none⟩ = some (.int .i64 b) ∧ w'.cell? ⟨w.heap.size, 2, none⟩ = some (.int .i64 c))
      (go_keep)
      (first | (go_at_call 18; (first | (refine (copied_any A n cap z _ (by omega) HNIL.out (HD.out.on (L4.out.drew).below)).mono ?_; rintro e w5 ⟨g5, c5, rfl, hr, hb⟩; have R5 := hide hr; have L5 := hide ((L4.out.drew).kept hb); clear hr hb; have F5 := L5.out.at; simp only [AllAt, CellsAt, updL, List.map, Nat.zero_add, Nat.reduceAdd, and_true, World.size_alloc, World.heap_drewN, heap_drew, size_set, Nat.add_eq_left, Nat.left_eq_add, Nat.add_right_cancel_iff, ne_up2, ne_dn2, ne_up3, ne_dn3, ne_up4, ne_dn4, Nat.reduceEqDiff, Nat.one_ne_zero, Nat.succ_ne_zero, Nat.zero_ne_one, reduceIte, List.set_cons_zero, List.set_cons_succ] at F5; have n5 : ¬ w5.heap.size = w.heap.size ∧ ¬ w.heap.size = w5.heap.size := (by omega)) | (refine (copied_any A n cap z _ (by omega) HNIL.out (HD.out.on ((L4.out.put _ _).drew).below)).mono ?_; rintro e w5 ⟨g5, c5, rfl, hr, hb⟩; have R5 := hide hr; have L5 := hide (((L4.out.put _ _).drew).kept hb); clear hr hb; have F5 := L5.out.at; simp only [AllAt, CellsAt, updL, List.map, Nat.zero_add, Nat.reduceAdd, and_true, World.size_alloc, World.heap_drewN, heap_drew, size_set, Nat.add_eq_left, Nat.left_eq_add, Nat.add_right_cancel_iff, ne_up2, ne_dn2, ne_up3, ne_dn3, ne_up4, ne_dn4, Nat.reduceEqDiff, Nat.one_ne_zero, Nat.succ_ne_zero, Nat.zero_ne_one, reduceIte, List.set_cons_zero, List.set_cons_succ] at F5; have n5 : ¬ w5.heap.size = w.heap.size ∧ ¬ w.heap.size = w5.heap.size := (by omega)))) | (go_at_call 19; (first | (refine Lv.call (CM.out _ _ _ R5.out) (L5.out) ?_; intro w6 L6'; have L6 := hide L6'; have F6 := L6'.at; clear L6'; simp only [AllAt, CellsAt, updL, List.map, Nat.zero_add, Nat.reduceAdd, and_true, World.size_alloc, World.heap_drewN, heap_drew, size_set, Nat.add_eq_left, Nat.left_eq_add, Nat.add_right_cancel_iff, ne_up2, ne_dn2, ne_up3, ne_dn3, ne_up4, ne_dn4, Nat.reduceEqDiff, Nat.one_ne_zero, Nat.succ_ne_zero, Nat.zero_ne_one, reduceIte, List.set_cons_zero, List.set_cons_succ] at F6; have n6 : ¬ w6.heap.size = w.heap.size ∧ ¬ w.heap.size = w6.heap.size := (by omega)) | (refine Lv.call (CM.out _ _ _ (R5.out.on ((Below.refl _ _).alloc (Nat.le_refl _) _))) (L5.out.put _ _) ?_; intro w6 L6'; have L6 := hide L6'; have F6 := L6'.at; clear L6'; simp only [AllAt, CellsAt, updL, List.map, Nat.zero_add, Nat.reduceAdd, and_true, World.size_alloc, World.heap_drewN, heap_drew, size_set, Nat.add_eq_left, Nat.left_eq_add, Nat.add_right_cancel_iff, ne_up2, ne_dn2, ne_up3, ne_dn3, ne_up4, ne_dn4, Nat.reduceEqDiff, Nat.one_ne_zero, Nat.succ_ne_zero, Nat.zero_ne_one, reduceIte, List.set_cons_zero, List.set_cons_succ] at F6; have n6 : ¬ w6.heap.size = w.heap.size ∧ ¬ w.heap.size = w6.heap.size := (by omega)))) | fail)))
    all_goals
      go_wp2_with fail
      go_meet
      refine ⟨_, rfl, rfl, hide ?_⟩
      first
        | exact L6.out.put _ _
        | exact L6.out.stored3 L5.out.size L5.out.far'
        | exact L6.out.stored3 L4.out.size L4.out.far'
        | (have h2 := L4.out.size; have hf2 := L4.out.far'; have h5 := L6.out; simp only [World.size_alloc] at h2 hf2 h5; exact h5.stored3 h2 hf2)
  case' rest =>
    obtain ⟨g, rfl, rfl, L6⟩ := hcut
    clear F4 L4 L3 L2 L1 R2
    have F6 := L6.out.at; simp only [AllAt, CellsAt, updL, List.map, Nat.zero_add, Nat.reduceAdd, and_true, World.size_alloc, World.heap_drewN, heap_drew, size_set, Nat.add_eq_left, Nat.left_eq_add, Nat.add_right_cancel_iff, ne_up2, ne_dn2, ne_up3, ne_dn3, ne_up4, ne_dn4, Nat.reduceEqDiff, Nat.one_ne_zero, Nat.succ_ne_zero, Nat.zero_ne_one, reduceIte, List.set_cons_zero, List.set_cons_succ] at F6
    go_wp2_with fail
    refine (copied_any A n cap z _ (by omega) HNIL.out (HD.out.on (L6.out).below)).mono ?_
    rintro e w7 ⟨g7, c7, rfl, hr, hb⟩
    have R7 := hide hr
    have L7 := hide ((L6.out).kept hb)
    clear hr hb F6
    have F7 := L7.out.at; simp only [AllAt, CellsAt, updL, List.map, Nat.zero_add, Nat.reduceAdd, and_true, World.size_alloc, World.heap_drewN, heap_drew, size_set, Nat.add_eq_left, Nat.left_eq_add, Nat.add_right_cancel_iff, ne_up2, ne_dn2, ne_up3, ne_dn3, ne_up4, ne_dn4, Nat.reduceEqDiff, Nat.one_ne_zero, Nat.succ_ne_zero, Nat.zero_ne_one, reduceIte, List.set_cons_zero, List.set_cons_succ] at F7
    go_wp2_with fail
    refine Lv.call (CB.out _ _ _ R7.out) L7.out ?_
    intro w8 L8'
    have L8 := hide L8'
    have F8 := L8'.at
    clear L8' F7
    simp only [AllAt, CellsAt, updL, List.map, Nat.zero_add, Nat.reduceAdd, and_true, World.size_alloc, World.heap_drewN, heap_drew, size_set, Nat.add_eq_left, Nat.left_eq_add, Nat.add_right_cancel_iff, ne_up2, ne_dn2, ne_up3, ne_dn3, ne_up4, ne_dn4, Nat.reduceEqDiff, Nat.one_ne_zero, Nat.succ_ne_zero, Nat.zero_ne_one, reduceIte, List.set_cons_zero, List.set_cons_succ] at F8
    go_wp2_with fail
    refine Lv.call (refForces_any A n cap z _ (HD.out.on L8.out.below)) L8.out ?_
    intro w9 L9'
    have L9 := hide L9'
    have F9 := L9'.at
    clear L9' F8
    simp only [AllAt, CellsAt, updL, List.map, Nat.zero_add, Nat.reduceAdd, and_true, World.size_alloc, World.heap_drewN, heap_drew, size_set, Nat.add_eq_left, Nat.left_eq_add, Nat.add_right_cancel_iff, ne_up2, ne_dn2, ne_up3, ne_dn3, ne_up4, ne_dn4, Nat.reduceEqDiff, Nat.one_ne_zero, Nat.succ_ne_zero, Nat.zero_ne_one, reduceIte, List.set_cons_zero, List.set_cons_succ] at F9
    rw [HE.out]
    go_wp2_with fail
    refine (copied_any A n cap z _ (by omega) HNIL.out (HD.out.on (L9.out).below)).mono ?_
    rintro e w10 ⟨g10, c10, rfl, hr, hb⟩
    have R10 := hide hr
    have L10 := hide ((L9.out).kept hb)
    clear hr hb F9
    have F10 := L10.out.at; simp only [AllAt, CellsAt, updL, List.map, Nat.zero_add, Nat.reduceAdd, and_true, World.size_alloc, World.heap_drewN, heap_drew, size_set, Nat.add_eq_left, Nat.left_eq_add, Nat.add_right_cancel_iff, ne_up2, ne_dn2, ne_up3, ne_dn3, ne_up4, ne_dn4, Nat.reduceEqDiff, Nat.one_ne_zero, Nat.succ_ne_zero, Nat.zero_ne_one, reduceIte, List.set_cons_zero, List.set_cons_succ] at F10
    go_wp2_with fail
    refine Lv.call (plForces_any _ n _ z _ R10.out) L10.out ?_
    intro w11 L11'
    have L11 := hide L11'
    have F11 := L11'.at
    clear L11' F10
    simp only [AllAt, CellsAt, updL, List.map, Nat.zero_add, Nat.reduceAdd, and_true, World.size_alloc, World.heap_drewN, heap_drew, size_set, Nat.add_eq_left, Nat.left_eq_add, Nat.add_right_cancel_iff, ne_up2, ne_dn2, ne_up3, ne_dn3, ne_up4, ne_dn4, Nat.reduceEqDiff, Nat.one_ne_zero, Nat.succ_ne_zero, Nat.zero_ne_one, reduceIte, List.set_cons_zero, List.set_cons_succ] at F11
    rw [HE.out]
    clear R7 R10 L6 L7 L8 L9 L10
  go_upto_region 13 with fail
  (first | (go_region_held3 (fun w' => w'.cell? ⟨w3.heap.size, 0, none⟩ = some (.int .i64 s0) ∧ w'.cell? ⟨w3.heap.size, 1, none⟩ = some (.int .i64 s1) ∧ w'.cell? ⟨w3.heap.size, 2, none⟩ = some (.int .i64 s2))
    (go_keep)
    (first | (go_at_call 23; refine Lv.call (CRS.out _ (HD.out.on L11.out.drew.below)) L11.out.drew ?_; intro w12 L12'; have L12 := hide L12'; have F12 := L12'.at; clear L12'; simp only [AllAt, CellsAt, updL, List.map, Nat.zero_add, Nat.reduceAdd, and_true, World.size_alloc, World.heap_drewN, heap_drew, size_set, Nat.add_eq_left, Nat.left_eq_add, Nat.add_right_cancel_iff, ne_up2, ne_dn2, ne_up3, ne_dn3, ne_up4, ne_dn4, Nat.reduceEqDiff, Nat.one_ne_zero, Nat.succ_ne_zero, Nat.zero_ne_one, reduceIte, List.set_cons_zero, List.set_cons_succ] at F12) | (go_at_call 24; refine Lv.call (CRB.out _ (HD.out.on L12.out.below)) L12.out ?_; intro w13 L13'; have L13 := hide L13'; have F13 := L13'.at; clear L13'; simp only [AllAt, CellsAt, updL, List.map, Nat.zero_add, Nat.reduceAdd, and_true, World.size_alloc, World.heap_drewN, heap_drew, size_set, Nat.add_eq_left, Nat.left_eq_add, Nat.add_right_cancel_iff, ne_up2, ne_dn2, ne_up3, ne_dn3, ne_up4, ne_dn4, Nat.reduceEqDiff, Nat.one_ne_zero, Nat.succ_ne_zero, Nat.zero_ne_one, reduceIte, List.set_cons_zero, List.set_cons_succ] at F13) | fail)) | fail)
  clear F11 F12
  go_wp2_with fail
  refine Lv.call (refPlace_any a b c _) L13.out ?_
  intro w14 L14'
  have L14 := hide L14'
  have F14 := L14'.at
  clear L14' F13
  simp only [AllAt, CellsAt, updL, List.map, Nat.zero_add, Nat.reduceAdd, and_true, World.size_alloc, World.heap_drewN, heap_drew, size_set, Nat.add_eq_left, Nat.left_eq_add, Nat.add_right_cancel_iff, ne_up2, ne_dn2, ne_up3, ne_dn3, ne_up4, ne_dn4, Nat.reduceEqDiff, Nat.one_ne_zero, Nat.succ_ne_zero, Nat.zero_ne_one, reduceIte, List.set_cons_zero, List.set_cons_succ] at F14
  rw [HV.out]
  go_wp2
  (first | (go_region_held3 (fun w' => w'.cell? ⟨w.heap.size, 0, none⟩ = some (.int .i64 a) ∧ w'.cell? ⟨w.heap.size, 1, none⟩ = some (.int .i64 b) ∧ w'.cell? ⟨w.heap.size, 2, none⟩ = some (.int .i64 c) ∧ w'.cell? ⟨g, 0, none⟩ = some (.int .i64 m0) ∧ w'.cell? ⟨g, 1, none⟩ = some (.int .i64 m1) ∧ w'.cell? ⟨g, 2, none⟩ = some (.int .i64 m2))
    (go_keep)
    (first | (go_at_call 26; refine Lv.call (CRM.out _ (HD.out.on L14.out.drew.below)) L14.out.drew ?_; intro w15 L15'; have L15 := hide L15'; have F15 := L15'.at; clear L15'; simp only [AllAt, CellsAt, updL, List.map, Nat.zero_add, Nat.reduceAdd, and_true, World.size_alloc, World.heap_drewN, heap_drew, size_set, Nat.add_eq_left, Nat.left_eq_add, Nat.add_right_cancel_iff, ne_up2, ne_dn2, ne_up3, ne_dn3, ne_up4, ne_dn4, Nat.reduceEqDiff, Nat.one_ne_zero, Nat.succ_ne_zero, Nat.zero_ne_one, reduceIte, List.set_cons_zero, List.set_cons_succ] at F15) | fail)) | fail)
  all_goals
    go_wp2
    go_ret
    exact ⟨rfl, L15.out.below⟩
theorem plE_cases (a b c : Int) : plE a b c = 0 ∨ plE a b c = 2 := by unfold plE; split <;> simp
set_option maxHeartbeats 8000000 in
set_option maxRecDepth 100000 in
theorem plateForces_walk (A : Option Addr) (n cap : Nat) (z : Nat → Nat → Int) (a b c : Int) (w : World) (hnil : A = none → n = 0 ∧ cap = 0) (hD : RowM 6 w w.heap.size A n z) (hz : ∀ i, i < n → ∀ j, j < 6 → -9223372036854775808 ≤ z i j ∧ z i j ≤ 9223372036854775807) (ha : -9223372036854775808 ≤ a ∧ a ≤ 9223372036854775807) (hb : -9223372036854775808 ≤ b ∧ b ≤ 9223372036854775807) (hc : -9223372036854775808 ≤ c ∧ c ≤ 9223372036854775807) :
    Calls Try.prog 3 #[.slice A n cap, .agg #[.int .i64 a, .int .i64 b, .int .i64 c]] w fun x w' => x = .returned (.bool true) ∧ Below w.heap.size w w' := by
  clear hz ha hb hc
  by_cases hfew : n ≤ 20 ∨ (300 < n ∧ n ≤ 305)
  · by_cases hE : frcE z n = 0
    · rcases plE_cases a b c with hP | hP
      · exact forces_ok A n cap z a b c w hfew hnil hD hE hP
      · exact forces_far A n cap z a b c w hfew hnil hD hE hP
    · exact forces_bad A n cap z a b c _ w hfew hnil hD rfl hE
  · clear hnil hD
    have L0 := hide (Lv.start w)
    go_enter Try.func3, Try.ntmps3
    go_wp2_with fail
    refine Lv.call (plAwake_any _) (L0.out.put _ _) ?_
    intro w1 L1'
    have L1 := hide L1'
    have F1 := L1'.at
    clear L1'
    simp only [AllAt, CellsAt, updL, List.map, Nat.zero_add, Nat.reduceAdd, and_true, World.size_alloc, World.heap_drewN, heap_drew, size_set, Nat.add_eq_left, Nat.left_eq_add, Nat.add_right_cancel_iff, ne_up2, ne_dn2, ne_up3, ne_dn3, ne_up4, ne_dn4, Nat.reduceEqDiff, Nat.one_ne_zero, Nat.succ_ne_zero, Nat.zero_ne_one, reduceIte, List.set_cons_zero, List.set_cons_succ] at F1
    go_wp2_with fail
    refine Lv.same (few_no A n cap _ hfew) ?_
    go_wp2
    go_ret
    exact ⟨rfl, L1.out.below⟩
set_option maxRecDepth 100000 in
theorem plateForces_lifted (os : Os) (started : os.Started) (H : Type) (enc : TypeId × Value → H) :
    ReturnsInHanded {} Try.checked os 3 .any (Rows.plateForcesSpec.pre6 enc Try.prog Try.f3 Rows.plateForcesRow.domain false) (Rows.plateForcesSpec.post enc Try.prog Try.f3 false true false false) := by
  refine returnsInHanded_of_change (C := Try.checked) (by kernel_rfl) started (by kernel_rfl) Try.func3
    (ChangeSpec.witness6 (enc := enc) (C := Try.checked) false ⟨#[], #[.slice none 0 0, .agg #[.int .i64 0, .int .i64 0, .int .i64 0]], []⟩ 8 (by kernel_rfl) (by kernel_rfl) (by kernel_rfl) (by kernel_rfl)) ?_
  intro W base args ds gs before hval0 hW hcnd _
  have hval : ∀ (j : Nat) t v, Try.f3.params[j]? = some t → args[j]? = some v → Value.okWide Try.prog W .any base t v := hval0
  have hW' := hW
  obtain ⟨p, q, hA0, hV, rfl, hfz, hnd⟩ := hW
  have hA : DataW.TrodAll enc Try.prog W 0 (fun _ => true) true Try.f3.params.toList args.toList ds p := hA0
  rw [Try.params3] at hA hval
  obtain ⟨v0, vs0, d0, ds0, p0, q0, hargs, rfl, rfl, h0, r0⟩ := trodAll_cons hA
  obtain ⟨v1, vs1, d1, ds1, p1, q1, rfl, rfl, rfl, h1, r1⟩ := trodAll_cons r0
  obtain ⟨rfl, rfl, rfl⟩ := trodAll_nil r1
  obtain rfl : args = #[v0, v1] := by cases args; simp_all
  obtain ⟨rfl, rfl⟩ := trodVars_none hV
  obtain ⟨A0_l, n0_l, c0_l, rfl⟩ := okWide_slice Try.underlying22 (hval 0 22 v0 rfl rfl)
  obtain ⟨fu_l, hf_l⟩ := h0
  obtain ⟨A_l, n_l, c_l, z_l, hcs_l, hnil_l, hrow_l, hzb_l⟩ := flat_rows (d := 6) (m := 6) Try.underlying22 (by kernel_rfl) (by kernel_rfl) (by decide) hf_l
  simp [Value.cells] at hcs_l
  obtain ⟨rfl, rfl, rfl⟩ := hcs_l
  obtain ⟨zs_1, rfl, zl_1, zb_1⟩ := flat_arr (d := 6) (n := 3) Try.underlying23 (by kernel_rfl) (by kernel_rfl) (hval 1 23 v1 rfl rfl) h1
  obtain ⟨a, b, c, rfl⟩ := len3 zl_1
  clear hval0
  have hWW := hW'
  refine (plateForces_walk A0_l n0_l c0_l z_l a b c W hnil_l hrow_l hzb_l (zb_1 a (by simp)) (zb_1 b (by simp)) (zb_1 c (by simp))).mono fun e W' ⟨he, hb⟩ => ?_
  subst he
  exact ⟨_, rfl, law_post (pa := p0 ++ (p1 ++ [])) (pv := []) hWW (fun _ _ _ => (trodAll_cons_mk (shut_bool Try.underlying4 _) trodAll_mk0)) (fun sp hsp => args_back (by kernel_rfl) _ _ _ _ (by kernel_rfl) hA0 (fun x hx => hb.same (hWW.lt x (List.mem_append_left _ hx))) (fun x hx => hsp x (List.mem_append_left _ hx))) (fun _ _ => rfl) rfl hb⟩

theorem plateForces_holds : Rows.PlateForcesSaid :=
  OpenClaim.holds_of_wide 3 Try.f3 rfl rfl rfl rfl rfl rfl rfl ⟨rfl, rfl, rfl, rfl, rfl⟩ rfl rfl rfl rfl rfl (by kernel_rfl) Try.func3 (by kernel_rfl)
    (of_decide_eq_true (by kernel_rfl)) (by unfold Func.isWrapper; first | (rw [if_pos (by decide +kernel)]; kernel_rfl) | (rw [if_neg (by decide +kernel)]; exact ⟨rfl, rfl⟩))
    (fun os started H enc _ => plateForces_lifted os started H enc)
end Go.Proofs.Ytjfcjclhbnmgcaa
