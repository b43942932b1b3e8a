/- The contract of plate.PullOf where the two places differ. Every bound is a premise of the theorem that bears it. -/
import Derived.Test.YtjfcjclhbnmgcaaPlPull
namespace Go.Proofs.Ytjfcjclhbnmgcaa
open Go.RowKit
set_option linter.unusedVariables false
set_option linter.unusedSimpArgs false

theorem Lv.head2 {w0 w : World} {L : List (Nat × TypeId × List Value)} {g : Nat} {t : TypeId} {cs : List Value} (h : Lv w0 w ((g, t, cs) :: L)) (i j : Nat) (u1 u2 : Value) (hg : w0.heap.size ≤ g) (hf : ∀ x ∈ L, ¬ x.1 = g) :
    Lv w0 ((w.setCell ⟨g, i, none⟩ u1).setCell ⟨g, j, none⟩ u2) ((g, t, (cs.set i u1).set j u2) :: L) := by
  have h1 := h.set g i u1 hg
  rw [updL_here' hf] at h1
  have h2 := h1.set g j u2 hg
  rw [updL_here' hf] at h2
  exact h2
theorem root_pos {x y z : Int} {r : Nat} (h : 1 ≤ sq3 x y z) (hr : IsRoot (sq3 x y z).toNat 2 r) : 1 ≤ r := by
  rcases Nat.eq_zero_or_pos r with h0 | h0
  · subst h0
    have := hr.no (by omega)
    simp at this
    omega
  · exact h0
theorem sq_ne {x : Int} (h : x ≠ 0) : 1 ≤ x * x := by
  rcases Int.lt_or_gt_of_ne h with h | h
  · have : 0 < x * x := Int.mul_pos_of_neg_of_neg h h
    omega
  · have : 0 < x * x := Int.mul_pos h h
    omega
theorem sq0 (x : Int) : 0 ≤ x * x := by
  rcases Int.le_total 0 x with h | h
  · exact Int.mul_nonneg h h
  · exact Int.mul_nonneg_of_nonpos_of_nonpos h h
theorem sq3_pos {u v t : Int} (h : ¬ (u = 0 ∧ v = 0 ∧ t = 0)) : 1 ≤ sq3 u v t := by
  unfold sq3
  have a := sq0 u
  have b := sq0 v
  have c := sq0 t
  by_cases h1 : u = 0
  · by_cases h2 : v = 0
    · have := sq_ne (x := t) (fun h3 => h ⟨h1, h2, h3⟩); omega
    · have := sq_ne h2; omega
  · have := sq_ne h1; omega
theorem root_le {n r : Nat} (h : IsRoot n 2 r) : r * r ≤ n := by
  rcases Nat.eq_zero_or_pos r with h0 | h0
  · subst h0; omega
  · have := h.yes h0; rw [Nat.pow_two] at this; exact this
theorem ten_ok {lo hi m : Int} (h : tenB lo hi m = true) : 0 ≤ lo ∧ lo ≤ hi ∧ hi ≤ m := of_decide_eq_true h
/-- What a pull returns: the three components. -/
def pullV (lo hi u v t r S : Int) : Value := .tuple #[.agg #[.int .i64 (cmpL lo hi u r S), .int .i64 (cmpH lo hi u r S), .int .i64 (cmpL lo hi v r S), .int .i64 (cmpH lo hi v r S), .int .i64 (cmpL lo hi t r S), .int .i64 (cmpH lo hi t r S)], .int .i64 0]
set_option maxHeartbeats 4000000 in
set_option maxRecDepth 100000 in
theorem pull_ok (lo hi a b c x y z u v t : Int) (r : Nat) (w : World) (hT : tenB lo hi 10000000000 = true) (hP : plE a b c = 0) (hP2 : plE x y z = 0) (hu : x - a = u) (hv : y - b = v) (ht : z - c = t) (hF : inV u v t 1000000 = true) (hS : eq3 a b c x y z = false) (hr : IsRoot (sq3 u v t).toNat 2 r) :
    Calls Try.prog 66 #[.agg #[.int .i64 lo, .int .i64 hi], .agg #[.int .i64 a, .int .i64 b, .int .i64 c], .agg #[.int .i64 x, .int .i64 y, .int .i64 z]] w fun e w' => e = .returned (pullV lo hi u v t r (upR r (sq3 u v t))) ∧ Below w.heap.size w w' := by
  obtain ⟨p1, p2, p3⟩ := place3 hP
  obtain ⟨p4, p5, p6⟩ := place3 hP2
  have hne : ¬ (u = 0 ∧ v = 0 ∧ t = 0) := fun h => by
    unfold eq3 at hS
    have := of_decide_eq_false hS
    omega
  have hw3 : (-1000000 ≤ u ∧ u ≤ 1000000) ∧ (-1000000 ≤ v ∧ v ≤ 1000000) ∧ (-1000000 ≤ t ∧ t ≤ 1000000) := by
    unfold inV inB at hF
    simpa only [Bool.and_eq_true, decide_eq_true_eq] using hF
  obtain ⟨w1', w2', w3'⟩ := hw3
  have hsp := sq3_pos hne
  have hr1 := root_pos hsp hr
  have hr2 : (r : Int) ≤ 1000000000 := by
    have h1 := root_le hr
    have s1 := sq_in w1'
    have s2 := sq_in w2'
    have s3 := sq_in w3'
    have h2 : (sq3 u v t).toNat ≤ 30000000000000000 := by unfold sq3; omega
    rcases Nat.lt_or_ge 1000000000 r with h | h
    · have := Nat.mul_le_mul (Nat.le_of_lt h) (Nat.le_of_lt h)
      omega
    · omega
  have hS1 : (r : Int) ≤ upR r (sq3 u v t) ∧ upR r (sq3 u v t) ≤ r + 1 := by unfold upR; split <;> omega
  have CL := hide (fun W => plLength_any u v t r W w1' w2' w3' hr)
  obtain ⟨S, hSS⟩ : ∃ S, S = upR r (sq3 u v t) := ⟨_, rfl⟩
  rw [← hSS] at CL hS1 ⊢
  obtain ⟨t1, t2, t3⟩ := ten_ok hT
  have C1 := hide (fun W => plComp_any lo hi u r S W (by omega) (by omega) w1' (by omega) (by omega))
  have C2 := hide (fun W => plComp_any lo hi v r S W (by omega) (by omega) w2' (by omega) (by omega))
  have C3 := hide (fun W => plComp_any lo hi t r S W (by omega) (by omega) w3' (by omega) (by omega))
  unfold pullV
  obtain ⟨x0, hx0⟩ : ∃ x, x = cmpL lo hi u r S := ⟨_, rfl⟩
  obtain ⟨y0, hy0⟩ : ∃ x, x = cmpH lo hi u r S := ⟨_, rfl⟩
  obtain ⟨x1, hx1⟩ : ∃ x, x = cmpL lo hi v r S := ⟨_, rfl⟩
  obtain ⟨y1, hy1⟩ : ∃ x, x = cmpH lo hi v r S := ⟨_, rfl⟩
  obtain ⟨x2, hx2⟩ : ∃ x, x = cmpL lo hi t r S := ⟨_, rfl⟩
  obtain ⟨y2, hy2⟩ : ∃ x, x = cmpH lo hi t r S := ⟨_, rfl⟩
  rw [← hx0, ← hy0] at C1
  rw [← hx1, ← hy1] at C2
  rw [← hx2, ← hy2] at C3
  rw [← hx0, ← hy0, ← hx1, ← hy1, ← hx2, ← hy2]
  have HT := hide hT
  have HP := hide hP
  have HP2 := hide hP2
  have HF := hide hF
  have HU : Hid (IntKind.i64.wrap (x + -a) = u) := hide (by rw [IntKind.wrap_i64]; omega)
  have HV : Hid (IntKind.i64.wrap (y + -b) = v) := hide (by rw [IntKind.wrap_i64]; omega)
  have HW : Hid (IntKind.i64.wrap (z + -c) = t) := hide (by rw [IntKind.wrap_i64]; omega)
  have hq := eq3_run a b c x y z
  rw [hS] at hq
  clear hT hP hP2 hu hv ht hF hS hne hsp hr hSS hx0 hy0 hx1 hy1 hx2 hy2
  have j0 : ∀ w, (Instr.index 147 (.agg #[.int .i64 a, .int .i64 b, .int .i64 c, .int .i64 x, .int .i64 y, .int .i64 z]) (.int .i64 0)).run Try.prog w = .ok (.agg #[.int .i64 a, .int .i64 b, .int .i64 c]) w := fun _ => by kernel_rfl
  have j1 : ∀ w, (Instr.index 147 (.agg #[.int .i64 a, .int .i64 b, .int .i64 c, .int .i64 x, .int .i64 y, .int .i64 z]) (.int .i64 1)).run Try.prog w = .ok (.agg #[.int .i64 x, .int .i64 y, .int .i64 z]) w := fun _ => by kernel_rfl
  have i0 : ∀ w, (Instr.index 110 (.agg #[.int .i64 u, .int .i64 v, .int .i64 t]) (.int .i64 0)).run Try.prog w = .ok (.int .i64 u) w := fun _ => by kernel_rfl
  have i1 : ∀ w, (Instr.index 110 (.agg #[.int .i64 u, .int .i64 v, .int .i64 t]) (.int .i64 1)).run Try.prog w = .ok (.int .i64 v) w := fun _ => by kernel_rfl
  have i2 : ∀ w, (Instr.index 110 (.agg #[.int .i64 u, .int .i64 v, .int .i64 t]) (.int .i64 2)).run Try.prog w = .ok (.int .i64 t) w := fun _ => by kernel_rfl
  have L0 := hide (Lv.start w)
  go_enter Try.func66, Try.ntmps66
  go_wp2_with fail
  refine Lv.call (plTension_any lo hi 10000000000 _) ((((L0.out.put _ _).put _ _).put _ _).put _ _) ?_
  intro w1 L1'
  have L1 := hide L1'
  have F1 := L1'.at
  clear L1'
  simp only [AllAt, CellsAt, updL, List.map, Nat.zero_add, Nat.reduceAdd, and_true, World.size_alloc, World.heap_drewN, heap_drew, size_set, Nat.add_eq_left, Nat.left_eq_add, Nat.add_right_cancel_iff, ne_up2, ne_dn2, ne_up3, ne_dn3, ne_up4, ne_dn4, Nat.reduceEqDiff, Nat.one_ne_zero, Nat.succ_ne_zero, Nat.zero_ne_one, reduceIte, List.set_cons_zero, List.set_cons_succ] at F1
  rw [HT.out]
  go_wp2
  refine wp_loop_rounds 3 ?_
  rw [rounds_succ]
  go_wp2_with fail
  refine Lv.call (plPlace_any a b c _) (L1.out.put _ _) ?_
  intro w2 L2'
  have L2 := hide L2'
  have F2 := L2'.at
  clear L2' F1
  simp only [AllAt, CellsAt, updL, List.map, Nat.zero_add, Nat.reduceAdd, and_true, World.size_alloc, World.heap_drewN, heap_drew, size_set, Nat.add_eq_left, Nat.left_eq_add, Nat.add_right_cancel_iff, ne_up2, ne_dn2, ne_up3, ne_dn3, ne_up4, ne_dn4, Nat.reduceEqDiff, Nat.one_ne_zero, Nat.succ_ne_zero, Nat.zero_ne_one, reduceIte, List.set_cons_zero, List.set_cons_succ] at F2
  rw [HP.out]
  go_wp2
  rw [rounds_succ]
  go_wp2_with fail
  refine Lv.call (plPlace_any x y z _) (L2.out.put _ _) ?_
  intro w3 L3'
  have L3 := hide L3'
  have F3 := L3'.at
  clear L3' F2
  simp only [AllAt, CellsAt, updL, List.map, Nat.zero_add, Nat.reduceAdd, and_true, World.size_alloc, World.heap_drewN, heap_drew, size_set, Nat.add_eq_left, Nat.left_eq_add, Nat.add_right_cancel_iff, ne_up2, ne_dn2, ne_up3, ne_dn3, ne_up4, ne_dn4, Nat.reduceEqDiff, Nat.one_ne_zero, Nat.succ_ne_zero, Nat.zero_ne_one, reduceIte, List.set_cons_zero, List.set_cons_succ] at F3
  rw [HP2.out]
  have K3 : Hid (Lv w w3 [(w.heap.size + 3, 107, [.int .i64 0, .int .i64 0, .int .i64 0, .int .i64 0, .int .i64 0, .int .i64 0]), (w.heap.size + 2, 23, [.int .i64 x, .int .i64 y, .int .i64 z]), (w.heap.size + 1, 23, [.int .i64 a, .int .i64 b, .int .i64 c]), (w.heap.size, 90, [.int .i64 lo, .int .i64 hi])]) := hide (by simpa using L3.out.drop.drop)
  clear F3 L3
  have L3 := hide K3.out
  have F3 := L3.out.at; simp only [AllAt, CellsAt, updL, List.map, Nat.zero_add, Nat.reduceAdd, and_true, World.size_alloc, World.heap_drewN, heap_drew, size_set, Nat.add_eq_left, Nat.left_eq_add, Nat.add_right_cancel_iff, ne_up2, ne_dn2, ne_up3, ne_dn3, ne_up4, ne_dn4, Nat.reduceEqDiff, Nat.one_ne_zero, Nat.succ_ne_zero, Nat.zero_ne_one, reduceIte, List.set_cons_zero, List.set_cons_succ] at F3
  clear K3
  have n3 : (¬ w3.heap.size = w.heap.size + 1 ∧ ¬ w.heap.size + 1 = w3.heap.size) ∧ (¬ w3.heap.size = w.heap.size + 2 ∧ ¬ w.heap.size + 2 = w3.heap.size) := (by omega)
  go_wp2
  rw [rounds_succ]
  go_wp2
  go_cut [11] (fun s11 wx => ∃ g : Nat, s11 = .pointer (some ⟨g, 0, none⟩) ∧ Hid (Lv w wx ((g, 110, [.int .i64 u, .int .i64 v, .int .i64 t]) :: [(w.heap.size + 3, 107, [.int .i64 0, .int .i64 0, .int .i64 0, .int .i64 0, .int .i64 0, .int .i64 0]), (w.heap.size + 2, 23, [.int .i64 x, .int .i64 y, .int .i64 z]), (w.heap.size + 1, 23, [.int .i64 a, .int .i64 b, .int .i64 c]), (w.heap.size, 90, [.int .i64 lo, .int .i64 hi])])))
  case first =>
    ((go_region_held3 (fun w' => w'.cell? ⟨w.heap.size + 1, 0, none⟩ = some (.int .i64 a) ∧ w'.cell? ⟨w.heap.size + 1, 1, none⟩ = some (.int .i64 b) ∧ w'.cell? ⟨w.heap.size + 1, 2, none⟩ = some (.int .i64 c) ∧ w'.cell? ⟨w.heap.size + 2, 0, none⟩ = some (.int .i64 x) ∧ w'.cell? ⟨w.heap.size + 2, 1, none⟩ = some (.int .i64 y) ∧ w'.cell? ⟨w.heap.size + 2, 2, none⟩ = some (.int .i64 z))
      (go_keep)
      (first | (go_at_call 74; (first | (refine Lv.call (plOpp_any a b c _ (by omega) (by omega) (by omega)) (L3.out.drew) ?_; intro w4 L4'; have L4 := hide L4'; have F4 := L4'.at; clear L4'; simp only [AllAt, CellsAt, updL, List.map, Nat.zero_add, Nat.reduceAdd, and_true, World.size_alloc, World.heap_drewN, heap_drew, size_set, Nat.add_eq_left, Nat.left_eq_add, Nat.add_right_cancel_iff, ne_up2, ne_dn2, ne_up3, ne_dn3, ne_up4, ne_dn4, Nat.reduceEqDiff, Nat.one_ne_zero, Nat.succ_ne_zero, Nat.zero_ne_one, reduceIte, List.set_cons_zero, List.set_cons_succ] at F4; have n4 : (¬ w4.heap.size = w.heap.size + 1 ∧ ¬ w.heap.size + 1 = w4.heap.size) ∧ (¬ w4.heap.size = w.heap.size + 2 ∧ ¬ w.heap.size + 2 = w4.heap.size) := (by omega)) | (refine Lv.call (plOpp_any a b c _ (by omega) (by omega) (by omega)) ((L3.out.put _ _).drew) ?_; intro w4 L4'; have L4 := hide L4'; have F4 := L4'.at; clear L4'; simp only [AllAt, CellsAt, updL, List.map, Nat.zero_add, Nat.reduceAdd, and_true, World.size_alloc, World.heap_drewN, heap_drew, size_set, Nat.add_eq_left, Nat.left_eq_add, Nat.add_right_cancel_iff, ne_up2, ne_dn2, ne_up3, ne_dn3, ne_up4, ne_dn4, Nat.reduceEqDiff, Nat.one_ne_zero, Nat.succ_ne_zero, Nat.zero_ne_one, reduceIte, List.set_cons_zero, List.set_cons_succ] at F4; have n4 : (¬ w4.heap.size = w.heap.size + 1 ∧ ¬ w.heap.size + 1 = w4.heap.size) ∧ (¬ w4.heap.size = w.heap.size + 2 ∧ ¬ w.heap.size + 2 = w4.heap.size) := (by omega)))) | (go_at_call 75; (first | (refine Lv.call (plPlus_any x y z (-a) (-b) (-c) u v t _ HU.out HV.out HW.out) (L4.out) ?_; intro w5 L5'; have L5 := hide L5'; have F5 := L5'.at; clear L5'; simp only [AllAt, CellsAt, updL, List.map, Nat.zero_add, Nat.reduceAdd, and_true, World.size_alloc, World.heap_drewN, heap_drew, size_set, Nat.add_eq_left, Nat.left_eq_add, Nat.add_right_cancel_iff, ne_up2, ne_dn2, ne_up3, ne_dn3, ne_up4, ne_dn4, Nat.reduceEqDiff, Nat.one_ne_zero, Nat.succ_ne_zero, Nat.zero_ne_one, reduceIte, List.set_cons_zero, List.set_cons_succ] at F5; have n5 : (¬ w5.heap.size = w.heap.size + 1 ∧ ¬ w.heap.size + 1 = w5.heap.size) ∧ (¬ w5.heap.size = w.heap.size + 2 ∧ ¬ w.heap.size + 2 = w5.heap.size) := (by omega)) | (refine Lv.call (plPlus_any x y z (-a) (-b) (-c) u v t _ HU.out HV.out HW.out) (L4.out.put _ _) ?_; intro w5 L5'; have L5 := hide L5'; have F5 := L5'.at; clear L5'; simp only [AllAt, CellsAt, updL, List.map, Nat.zero_add, Nat.reduceAdd, and_true, World.size_alloc, World.heap_drewN, heap_drew, size_set, Nat.add_eq_left, Nat.left_eq_add, Nat.add_right_cancel_iff, ne_up2, ne_dn2, ne_up3, ne_dn3, ne_up4, ne_dn4, Nat.reduceEqDiff, Nat.one_ne_zero, Nat.succ_ne_zero, Nat.zero_ne_one, reduceIte, List.set_cons_zero, List.set_cons_succ] at F5; have n5 : (¬ w5.heap.size = w.heap.size + 1 ∧ ¬ w.heap.size + 1 = w5.heap.size) ∧ (¬ w5.heap.size = w.heap.size + 2 ∧ ¬ w.heap.size + 2 = w5.heap.size) := (by omega)))) | fail)))
    all_goals
      go_wp2_with fail
      go_meet
      refine ⟨_, rfl, hide ?_⟩
      first
        | exact L5.out.put _ _
        | exact L5.out.stored3 L4.out.size L4.out.far'
        | exact L5.out.stored3 L3.out.size L3.out.far'
  case rest =>
    obtain ⟨g, rfl, L5⟩ := hcut
    clear F3 L3 n3
    have F5 := L5.out.at; simp only [AllAt, CellsAt, updL, List.map, Nat.zero_add, Nat.reduceAdd, and_true, World.size_alloc, World.heap_drewN, heap_drew, size_set, Nat.add_eq_left, Nat.left_eq_add, Nat.add_right_cancel_iff, ne_up2, ne_dn2, ne_up3, ne_dn3, ne_up4, ne_dn4, Nat.reduceEqDiff, Nat.one_ne_zero, Nat.succ_ne_zero, Nat.zero_ne_one, reduceIte, List.set_cons_zero, List.set_cons_succ] at F5
    go_wp2
    go_cut [41] (fun s41 wx => s41 = .bool (!inV u v t 1000000) ∧ Hid (Lv w wx ((g, 110, [.int .i64 u, .int .i64 v, .int .i64 t]) :: [(w.heap.size + 3, 107, [.int .i64 0, .int .i64 0, .int .i64 0, .int .i64 0, .int .i64 0, .int .i64 0]), (w.heap.size + 2, 23, [.int .i64 x, .int .i64 y, .int .i64 z]), (w.heap.size + 1, 23, [.int .i64 a, .int .i64 b, .int .i64 c]), (w.heap.size, 90, [.int .i64 lo, .int .i64 hi])])))
    case first =>
      (first | (go_region_with (first | (go_at_call 72; refine (plWithin_any _ _).mono ?_; rintro e w' ⟨rfl, rfl⟩) | (go_at_call 71; refine Lv.call (plAll_any u v t 1000000 _ _ (by omega) (by omega) (by first | exact Blk.new _ _ _ _ (by simp) | exact (Blk.new _ _ _ _ (by simp)).drew)) (L5.out.put _ _).drew ?_; intro w6 L6'; have L6 := hide L6'; have F6 := L6'.at; clear L6'; simp only [AllAt, CellsAt, updL, List.map, Nat.zero_add, Nat.reduceAdd, and_true, World.size_alloc, World.heap_drewN, heap_drew, size_set, Nat.add_eq_left, Nat.left_eq_add, Nat.add_right_cancel_iff, ne_up2, ne_dn2, ne_up3, ne_dn3, ne_up4, ne_dn4, Nat.reduceEqDiff, Nat.one_ne_zero, Nat.succ_ne_zero, Nat.zero_ne_one, reduceIte, List.set_cons_zero, List.set_cons_succ] at F6))) | fail)
      all_goals
        go_wp2_with fail
        go_meet
        exact ⟨rfl, hide L6.out.drop⟩
    case rest =>
      obtain ⟨rfl, L6⟩ := hcut
      clear F5 L5
      have F6 := L6.out.at; simp only [AllAt, CellsAt, updL, List.map, Nat.zero_add, Nat.reduceAdd, and_true, World.size_alloc, World.heap_drewN, heap_drew, size_set, Nat.add_eq_left, Nat.left_eq_add, Nat.add_right_cancel_iff, ne_up2, ne_dn2, ne_up3, ne_dn3, ne_up4, ne_dn4, Nat.reduceEqDiff, Nat.one_ne_zero, Nat.succ_ne_zero, Nat.zero_ne_one, reduceIte, List.set_cons_zero, List.set_cons_succ] at F6
      rw [HF.out]
      go_wp2_with fail
      refine Lv.call (CL.out _) L6.out ?_
      intro w7 L7'
      have L7 := hide L7'
      have F7 := L7'.at
      clear L7' F6
      simp only [AllAt, CellsAt, updL, List.map, Nat.zero_add, Nat.reduceAdd, and_true, World.size_alloc, World.heap_drewN, heap_drew, size_set, Nat.add_eq_left, Nat.left_eq_add, Nat.add_right_cancel_iff, ne_up2, ne_dn2, ne_up3, ne_dn3, ne_up4, ne_dn4, Nat.reduceEqDiff, Nat.one_ne_zero, Nat.succ_ne_zero, Nat.zero_ne_one, reduceIte, List.set_cons_zero, List.set_cons_succ] at F7
      have q7 := L7.out.far'
      go_wp2
      refine wp_loop_rounds 4 ?_
      rw [rounds_succ]
      go_wp2_with fail
      refine Lv.call (C1.out _) ((L7.out.put _ _).put _ _) ?_
      intro w8 L8'
      have L8 := hide L8'
      have F8 := L8'.at
      clear L8' F7
      simp only [AllAt, CellsAt, updL, List.map, Nat.zero_add, Nat.reduceAdd, and_true, World.size_alloc, World.heap_drewN, heap_drew, size_set, Nat.add_eq_left, Nat.left_eq_add, Nat.add_right_cancel_iff, ne_up2, ne_dn2, ne_up3, ne_dn3, ne_up4, ne_dn4, Nat.reduceEqDiff, Nat.one_ne_zero, Nat.succ_ne_zero, Nat.zero_ne_one, reduceIte, List.set_cons_zero, List.set_cons_succ] at F8
      have h8 := L8.out
      simp only [World.size_alloc] at h8
      have L8b := hide h8
      clear h8
      have f8 := (L7.out.put [.int .i64 (r : Int), .int .i64 S] 90).far'
      simp only [World.size_alloc] at f8
      have G8 := hide f8
      clear f8
      have L9 := hide (L8b.out.head2 0 1 (.int .i64 x0) (.int .i64 y0) (by have := L7.out.size; omega) G8.out)
      have F9 := L9.out.at; simp only [AllAt, CellsAt, updL, List.map, Nat.zero_add, Nat.reduceAdd, and_true, World.size_alloc, World.heap_drewN, heap_drew, size_set, Nat.add_eq_left, Nat.left_eq_add, Nat.add_right_cancel_iff, ne_up2, ne_dn2, ne_up3, ne_dn3, ne_up4, ne_dn4, Nat.reduceEqDiff, Nat.one_ne_zero, Nat.succ_ne_zero, Nat.zero_ne_one, reduceIte, List.set_cons_zero, List.set_cons_succ] at F9
      go_wp2
      clear F8
      rw [rounds_succ]
      go_wp2_with fail
      refine Lv.call (C2.out _) L9.out ?_
      intro w10 L10'
      have L10 := hide L10'
      have F10 := L10'.at
      clear L10' F9
      simp only [AllAt, CellsAt, updL, List.map, Nat.zero_add, Nat.reduceAdd, and_true, World.size_alloc, World.heap_drewN, heap_drew, size_set, Nat.add_eq_left, Nat.left_eq_add, Nat.add_right_cancel_iff, ne_up2, ne_dn2, ne_up3, ne_dn3, ne_up4, ne_dn4, Nat.reduceEqDiff, Nat.one_ne_zero, Nat.succ_ne_zero, Nat.zero_ne_one, reduceIte, List.set_cons_zero, List.set_cons_succ] at F10
      have L11 := hide (L10.out.head2 2 3 (.int .i64 x1) (.int .i64 y1) (by have := L7.out.size; omega) G8.out)
      have F11 := L11.out.at; simp only [AllAt, CellsAt, updL, List.map, Nat.zero_add, Nat.reduceAdd, and_true, World.size_alloc, World.heap_drewN, heap_drew, size_set, Nat.add_eq_left, Nat.left_eq_add, Nat.add_right_cancel_iff, ne_up2, ne_dn2, ne_up3, ne_dn3, ne_up4, ne_dn4, Nat.reduceEqDiff, Nat.one_ne_zero, Nat.succ_ne_zero, Nat.zero_ne_one, reduceIte, List.set_cons_zero, List.set_cons_succ] at F11
      go_wp2
      clear F10
      rw [rounds_succ]
      go_wp2_with fail
      refine Lv.call (C3.out _) L11.out ?_
      intro w12 L12'
      have L12 := hide L12'
      have F12 := L12'.at
      clear L12' F11
      simp only [AllAt, CellsAt, updL, List.map, Nat.zero_add, Nat.reduceAdd, and_true, World.size_alloc, World.heap_drewN, heap_drew, size_set, Nat.add_eq_left, Nat.left_eq_add, Nat.add_right_cancel_iff, ne_up2, ne_dn2, ne_up3, ne_dn3, ne_up4, ne_dn4, Nat.reduceEqDiff, Nat.one_ne_zero, Nat.succ_ne_zero, Nat.zero_ne_one, reduceIte, List.set_cons_zero, List.set_cons_succ] at F12
      have L13 := hide (L12.out.head2 4 5 (.int .i64 x2) (.int .i64 y2) (by have := L7.out.size; omega) G8.out)
      have F13 := L13.out.at; simp only [AllAt, CellsAt, updL, List.map, Nat.zero_add, Nat.reduceAdd, and_true, World.size_alloc, World.heap_drewN, heap_drew, size_set, Nat.add_eq_left, Nat.left_eq_add, Nat.add_right_cancel_iff, ne_up2, ne_dn2, ne_up3, ne_dn3, ne_up4, ne_dn4, Nat.reduceEqDiff, Nat.one_ne_zero, Nat.succ_ne_zero, Nat.zero_ne_one, reduceIte, List.set_cons_zero, List.set_cons_succ] at F13
      go_wp2
      clear F12
      rw [rounds_succ]
      go_wp2
      refine bodyPost_ret (v := .tuple #[.agg #[.int .i64 x0, .int .i64 y0, .int .i64 x1, .int .i64 y1, .int .i64 x2, .int .i64 y2], .int .i64 0]) (by simp [results, Try.results66, go_sem, F13]) rfl ⟨rfl, ?_⟩
      repeat (first | (with_reducible exact L13.out.below) | refine Below.setCell ?_ (by first | omega | (simp; done) | (simp; omega)) _ | refine Below.alloc ?_ (by first | omega | (simp; done) | (simp; omega)) _ | refine below_drewN ?_ _ | refine Below.drew ?_)
end Go.Proofs.Ytjfcjclhbnmgcaa
