/- Contracts of plate.Balance. Every bound is a premise of the theorem that bears it. -/
import Derived.Test.YtjfcjclhbnmgcaaPlFo3
import Derived.Test.YtjfcjclhbnmgcaaRegX
namespace Go.Proofs.Ytjfcjclhbnmgcaa
open Go.RowKit
set_option linter.unusedVariables false
set_option linter.unusedSimpArgs false

theorem Lv.stored6 {w0 w : World} {L : List (Nat × TypeId × List Value)} {g : Nat} {t : TypeId} {z1 z2 z3 z4 z5 z6 u1 u2 u3 u4 u5 u6 : Value} (h : Lv w0 w ((g, t, [z1, z2, z3, z4, z5, z6]) :: L)) (hg : w0.heap.size ≤ g) (hf : ∀ x ∈ L, ¬ x.1 = g) :
    Lv w0 ((((((w.setCell ⟨g, 0, none⟩ u1).setCell ⟨g, 1, none⟩ u2).setCell ⟨g, 2, none⟩ u3).setCell ⟨g, 3, none⟩ u4).setCell ⟨g, 4, none⟩ u5).setCell ⟨g, 5, none⟩ u6) ((g, t, [u1, u2, u3, u4, u5, u6]) :: L) := by
  have h1 := h.set g 0 u1 hg
  rw [updL_here' hf] at h1
  have h2 := h1.set g 1 u2 hg
  rw [updL_here' hf] at h2
  have h3 := h2.set g 2 u3 hg
  rw [updL_here' hf] at h3
  have h4 := h3.set g 3 u4 hg
  rw [updL_here' hf] at h4
  have h5 := h4.set g 4 u5 hg
  rw [updL_here' hf] at h5
  have h6 := h5.set g 5 u6 hg
  rw [updL_here' hf] at h6
  exact h6
set_option maxHeartbeats 4000000 in
set_option maxRecDepth 100000 in
theorem plBalance_bad (A : Option Addr) (n cap : Nat) (z : Nat → Nat → Int) (a b c E : Int) (w : World) (hD : RowM 6 w w.heap.size A n z) (hE : frcE z n = E) (h0 : E ≠ 0) :
    Calls Try.prog 27 #[.slice A n cap, .agg #[.int .i64 a, .int .i64 b, .int .i64 c]] w fun e w' => e = .returned (.tuple #[.agg #[.int .i64 0, .int .i64 0, .int .i64 0, .int .i64 0, .int .i64 0, .int .i64 0], .agg #[.int .i64 0, .int .i64 0, .int .i64 0], .int .i64 E]) ∧ Below w.heap.size w w' := by
  have HD := hide hD
  have HE := hide hE
  have b1 : (E != 0) = true := by rw [bne_iff_ne]; exact h0
  have b2 : (E == 0) = false := by rw [beq_eq_false_iff_ne]; exact h0
  clear hD hE h0
  have L0 := hide (Lv.start w)
  go_enter Try.func27, Try.ntmps27
  go_wp2_with fail
  refine Lv.call (plForces_any A n cap z _ (HD.out.on (((L0.out.put _ _).put _ _).put _ _).below)) (((L0.out.put _ _).put _ _).put _ _) ?_
  intro w1 L1'
  have L1 := hide L1'
  have F1 := L1'.at
  clear L1'
  simp only [AllAt, CellsAt, updL, List.map, Nat.zero_add, Nat.reduceAdd, and_true, World.size_alloc, World.heap_drewN, heap_drew, size_set, Nat.add_eq_left, Nat.left_eq_add, Nat.add_right_cancel_iff, ne_up2, ne_dn2, ne_up3, ne_dn3, ne_up4, ne_dn4, Nat.reduceEqDiff, Nat.one_ne_zero, Nat.succ_ne_zero, Nat.zero_ne_one, reduceIte, List.set_cons_zero, List.set_cons_succ] at F1
  rw [HE.out]
  go_wp2
  refine bodyPost_ret (v := .tuple #[.agg #[.int .i64 0, .int .i64 0, .int .i64 0, .int .i64 0, .int .i64 0, .int .i64 0], .agg #[.int .i64 0, .int .i64 0, .int .i64 0], .int .i64 E]) (by simp [results, Try.results27, go_sem, F1]) rfl ⟨rfl, ?_⟩
  repeat (first | (with_reducible exact L1.out.below) | refine Below.setCell ?_ (by first | omega | (simp; done) | (simp; omega)) _ | refine Below.alloc ?_ (by first | omega | (simp; done) | (simp; omega)) _ | refine below_drewN ?_ _ | refine Below.drew ?_)
set_option maxHeartbeats 4000000 in
set_option maxRecDepth 100000 in
theorem plBalance_far (A : Option Addr) (n cap : Nat) (z : Nat → Nat → Int) (a b c : Int) (w : World) (hD : RowM 6 w w.heap.size A n z) (hE : frcE z n = 0) (hP : plE a b c = 2) :
    Calls Try.prog 27 #[.slice A n cap, .agg #[.int .i64 a, .int .i64 b, .int .i64 c]] w fun e w' => e = .returned (.tuple #[.agg #[.int .i64 0, .int .i64 0, .int .i64 0, .int .i64 0, .int .i64 0, .int .i64 0], .agg #[.int .i64 0, .int .i64 0, .int .i64 0], .int .i64 2]) ∧ Below w.heap.size w w' := by
  have HD := hide hD
  have HE := hide hE
  have HP := hide hP
  clear hD hE hP
  have L0 := hide (Lv.start w)
  go_enter Try.func27, Try.ntmps27
  go_wp2_with fail
  refine Lv.call (plForces_any A n cap z _ (HD.out.on (((L0.out.put _ _).put _ _).put _ _).below)) (((L0.out.put _ _).put _ _).put _ _) ?_
  intro w1 L1'
  have L1 := hide L1'
  have F1 := L1'.at
  clear L1'
  simp only [AllAt, CellsAt, updL, List.map, Nat.zero_add, Nat.reduceAdd, and_true, World.size_alloc, World.heap_drewN, heap_drew, size_set, Nat.add_eq_left, Nat.left_eq_add, Nat.add_right_cancel_iff, ne_up2, ne_dn2, ne_up3, ne_dn3, ne_up4, ne_dn4, Nat.reduceEqDiff, Nat.one_ne_zero, Nat.succ_ne_zero, Nat.zero_ne_one, reduceIte, List.set_cons_zero, List.set_cons_succ] at F1
  rw [HE.out]
  go_wp2_with fail
  refine Lv.call (plPlace_any a b c _) L1.out ?_
  intro w2 L2'
  have L2 := hide L2'
  have F2 := L2'.at
  clear L2' F1
  simp only [AllAt, CellsAt, updL, List.map, Nat.zero_add, Nat.reduceAdd, and_true, World.size_alloc, World.heap_drewN, heap_drew, size_set, Nat.add_eq_left, Nat.left_eq_add, Nat.add_right_cancel_iff, ne_up2, ne_dn2, ne_up3, ne_dn3, ne_up4, ne_dn4, Nat.reduceEqDiff, Nat.one_ne_zero, Nat.succ_ne_zero, Nat.zero_ne_one, reduceIte, List.set_cons_zero, List.set_cons_succ] at F2
  rw [HP.out]
  go_wp2
  refine bodyPost_ret (v := .tuple #[.agg #[.int .i64 0, .int .i64 0, .int .i64 0, .int .i64 0, .int .i64 0, .int .i64 0], .agg #[.int .i64 0, .int .i64 0, .int .i64 0], .int .i64 2]) (by simp [results, Try.results27, go_sem, F2]) rfl ⟨rfl, ?_⟩
  repeat (first | (with_reducible exact L2.out.below) | refine Below.setCell ?_ (by first | omega | (simp; done) | (simp; omega)) _ | refine Below.alloc ?_ (by first | omega | (simp; done) | (simp; omega)) _ | refine below_drewN ?_ _ | refine Below.drew ?_)
set_option maxHeartbeats 4000000 in
set_option maxRecDepth 100000 in
theorem plBalance_ok (A : Option Addr) (n cap : Nat) (z : Nat → Nat → Int) (a b c s0 s1 s2 m0 m1 m2 : Int) (w : World) (hD : RowM 6 w w.heap.size A n z) (hE : frcE z n = 0) (hP : plE a b c = 0)
    (h0 : s0 = sumTo z 3 n) (h1 : s1 = sumTo z 4 n) (h2 : s2 = sumTo z 5 n) (h3 : m0 = momTo z 1 2 4 5 b c n) (h4 : m1 = momTo z 2 0 5 3 c a n) (h5 : m2 = momTo z 0 1 3 4 a b n) :
    Calls Try.prog 27 #[.slice A n cap, .agg #[.int .i64 a, .int .i64 b, .int .i64 c]] w fun e w' => e = .returned (.tuple #[.agg #[.int .i64 a, .int .i64 b, .int .i64 c, .int .i64 (-s0), .int .i64 (-s1), .int .i64 (-s2)], .agg #[.int .i64 (-m0), .int .i64 (-m1), .int .i64 (-m2)], .int .i64 0]) ∧ Below w.heap.size w w' := by
  obtain ⟨hn, hF⟩ := frcE_in hE
  obtain ⟨p1, p2, p3⟩ := place3 hP
  have CM := fun W (h : RowM 6 W W.heap.size A n z) => plMomentOf_any A n cap z a b c W h (by omega) hF p1 p2 p3
  have CS := fun W (h : RowM 6 W W.heap.size A n z) => plSumOf_any A n cap z W h (by omega) hF
  obtain ⟨bs0, bs1, bs2⟩ := sum3_in (by omega) hF
  obtain ⟨bm0, bm1, bm2⟩ := mom3_in (by omega) hF p1 p2 p3
  unfold mom3 at CM
  unfold sum3 at CS
  rw [← h0, ← h1, ← h2] at CS
  rw [← h3, ← h4, ← h5] at CM
  rw [← h0] at bs0
  rw [← h1] at bs1
  rw [← h2] at bs2
  rw [← h3] at bm0
  rw [← h4] at bm1
  rw [← h5] at bm2
  have HD := hide hD
  have HE := hide hE
  have HP := hide hP
  clear hD hE hP hF h0 h1 h2 h3 h4 h5
  have COS := hide (fun W => plOpp_any s0 s1 s2 W (by omega) (by omega) (by omega))
  have COM := hide (fun W => plOpp_any m0 m1 m2 W (by omega) (by omega) (by omega))
  replace CM := hide CM
  replace CS := hide CS
  clear bs0 bs1 bs2 bm0 bm1 bm2 p1 p2 p3
  have L0 := hide (Lv.start w)
  go_enter Try.func27, Try.ntmps27
  go_wp2_with fail
  refine Lv.call (plForces_any A n cap z _ (HD.out.on (((L0.out.put _ _).put _ _).put _ _).below)) (((L0.out.put _ _).put _ _).put _ _) ?_
  intro w1 L1'
  have L1 := hide L1'
  have F1 := L1'.at
  clear L1'
  simp only [AllAt, CellsAt, updL, List.map, Nat.zero_add, Nat.reduceAdd, and_true, World.size_alloc, World.heap_drewN, heap_drew, size_set, Nat.add_eq_left, Nat.left_eq_add, Nat.add_right_cancel_iff, ne_up2, ne_dn2, ne_up3, ne_dn3, ne_up4, ne_dn4, Nat.reduceEqDiff, Nat.one_ne_zero, Nat.succ_ne_zero, Nat.zero_ne_one, reduceIte, List.set_cons_zero, List.set_cons_succ] at F1
  rw [HE.out]
  go_wp2_with fail
  refine Lv.call (plPlace_any a b c _) L1.out ?_
  intro w2 L2'
  have L2 := hide L2'
  have F2 := L2'.at
  clear L2' F1
  simp only [AllAt, CellsAt, updL, List.map, Nat.zero_add, Nat.reduceAdd, and_true, World.size_alloc, World.heap_drewN, heap_drew, size_set, Nat.add_eq_left, Nat.left_eq_add, Nat.add_right_cancel_iff, ne_up2, ne_dn2, ne_up3, ne_dn3, ne_up4, ne_dn4, Nat.reduceEqDiff, Nat.one_ne_zero, Nat.succ_ne_zero, Nat.zero_ne_one, reduceIte, List.set_cons_zero, List.set_cons_succ] at F2
  rw [HP.out]
  have K := L2.out
  simp only [World.size_alloc, Nat.add_assoc, Nat.reduceAdd] at K
  replace L2 := hide K
  clear K
  have n2 : (¬ w2.heap.size = w.heap.size ∧ ¬ w.heap.size = w2.heap.size) := by omega
  go_upto_region 7 with fail
  have F2 := L2.out.at; simp only [AllAt, CellsAt, updL, List.map, Nat.zero_add, Nat.reduceAdd, and_true, World.size_alloc, World.heap_drewN, heap_drew, size_set, Nat.add_eq_left, Nat.left_eq_add, Nat.add_right_cancel_iff, ne_up2, ne_dn2, ne_up3, ne_dn3, ne_up4, ne_dn4, Nat.reduceEqDiff, Nat.one_ne_zero, Nat.succ_ne_zero, Nat.zero_ne_one, reduceIte, List.set_cons_zero, List.set_cons_succ] at F2
  go_cut [9] (fun s9 wx => ∃ g : Nat, s9 = .pointer (some ⟨g, 0, none⟩) ∧ w.heap.size + 3 ≤ g ∧ Hid (Lv w wx ((g, 40, [.int .i64 a, .int .i64 b, .int .i64 c, .int .i64 (-s0), .int .i64 (-s1), .int .i64 (-s2)]) :: [(w.heap.size + 2, 23, [.int .i64 0, .int .i64 0, .int .i64 0]), (w.heap.size + 1, 40, [.int .i64 0, .int .i64 0, .int .i64 0, .int .i64 0, .int .i64 0, .int .i64 0]), (w.heap.size, 23, [.int .i64 a, .int .i64 b, .int .i64 c])])))
  case first =>
    ((go_region_held3 (fun w' => w'.cell? ⟨w.heap.size, 0, none⟩ = some (.int .i64 a) ∧ w'.cell? ⟨w.heap.size, 1, none⟩ = some (.int .i64 b) ∧ w'.cell? ⟨w.heap.size, 2, none⟩ = some (.int .i64 c))
      (go_keep)
      (first | (go_at_call 67; (first | (refine Lv.call (CS.out _ (HD.out.on (L2.out.drew).below)) (L2.out.drew) ?_; intro w4 L4'; have L4 := hide L4'; have F4 := L4'.at; clear L4'; simp only [AllAt, CellsAt, updL, List.map, Nat.zero_add, Nat.reduceAdd, and_true, World.size_alloc, World.heap_drewN, heap_drew, size_set, Nat.add_eq_left, Nat.left_eq_add, Nat.add_right_cancel_iff, ne_up2, ne_dn2, ne_up3, ne_dn3, ne_up4, ne_dn4, Nat.reduceEqDiff, Nat.one_ne_zero, Nat.succ_ne_zero, Nat.zero_ne_one, reduceIte, List.set_cons_zero, List.set_cons_succ] at F4; have n4 : (¬ w4.heap.size = w.heap.size ∧ ¬ w.heap.size = w4.heap.size) := (by omega)) | (refine Lv.call (CS.out _ (HD.out.on ((L2.out.put _ _).drew).below)) ((L2.out.put _ _).drew) ?_; intro w4 L4'; have L4 := hide L4'; have F4 := L4'.at; clear L4'; simp only [AllAt, CellsAt, updL, List.map, Nat.zero_add, Nat.reduceAdd, and_true, World.size_alloc, World.heap_drewN, heap_drew, size_set, Nat.add_eq_left, Nat.left_eq_add, Nat.add_right_cancel_iff, ne_up2, ne_dn2, ne_up3, ne_dn3, ne_up4, ne_dn4, Nat.reduceEqDiff, Nat.one_ne_zero, Nat.succ_ne_zero, Nat.zero_ne_one, reduceIte, List.set_cons_zero, List.set_cons_succ] at F4; have n4 : (¬ w4.heap.size = w.heap.size ∧ ¬ w.heap.size = w4.heap.size) := (by omega)))) | (go_at_call 74; (first | (refine Lv.call (COS.out _) (L4.out) ?_; intro w5 L5'; have L5 := hide L5'; have F5 := L5'.at; clear L5'; simp only [AllAt, CellsAt, updL, List.map, Nat.zero_add, Nat.reduceAdd, and_true, World.size_alloc, World.heap_drewN, heap_drew, size_set, Nat.add_eq_left, Nat.left_eq_add, Nat.add_right_cancel_iff, ne_up2, ne_dn2, ne_up3, ne_dn3, ne_up4, ne_dn4, Nat.reduceEqDiff, Nat.one_ne_zero, Nat.succ_ne_zero, Nat.zero_ne_one, reduceIte, List.set_cons_zero, List.set_cons_succ] at F5; have n5 : (¬ w5.heap.size = w.heap.size ∧ ¬ w.heap.size = w5.heap.size) := (by omega)) | (refine Lv.call (COS.out _) (L4.out.put _ _) ?_; intro w5 L5'; have L5 := hide L5'; have F5 := L5'.at; clear L5'; simp only [AllAt, CellsAt, updL, List.map, Nat.zero_add, Nat.reduceAdd, and_true, World.size_alloc, World.heap_drewN, heap_drew, size_set, Nat.add_eq_left, Nat.left_eq_add, Nat.add_right_cancel_iff, ne_up2, ne_dn2, ne_up3, ne_dn3, ne_up4, ne_dn4, Nat.reduceEqDiff, Nat.one_ne_zero, Nat.succ_ne_zero, Nat.zero_ne_one, reduceIte, List.set_cons_zero, List.set_cons_succ] at F5; have n5 : (¬ w5.heap.size = w.heap.size ∧ ¬ w.heap.size = w5.heap.size) := (by omega)))) | fail)))
    all_goals
      go_wp2_with fail
      go_meet
      refine ⟨_, rfl, by omega, hide ?_⟩
      first
        | with_reducible exact L5.out.put _ _
        | with_reducible exact L5.out.stored6 L4.out.size L4.out.far'
        | with_reducible exact L5.out.stored6 L2.out.size L2.out.far'
  case rest =>
    obtain ⟨g, rfl, hg, L5⟩ := hcut
    clear F2 L2 L1 n2
    have F5 := L5.out.at; simp only [AllAt, CellsAt, updL, List.map, Nat.zero_add, Nat.reduceAdd, and_true, World.size_alloc, World.heap_drewN, heap_drew, size_set, Nat.add_eq_left, Nat.left_eq_add, Nat.add_right_cancel_iff, ne_up2, ne_dn2, ne_up3, ne_dn3, ne_up4, ne_dn4, Nat.reduceEqDiff, Nat.one_ne_zero, Nat.succ_ne_zero, Nat.zero_ne_one, reduceIte, List.set_cons_zero, List.set_cons_succ] at F5
    have ng : (¬ g = w.heap.size + 1 ∧ ¬ w.heap.size + 1 = g) ∧ (¬ g = w.heap.size + 2 ∧ ¬ w.heap.size + 2 = g) := by omega
    have ng2 : (¬ g = w.heap.size + 1 + 1 ∧ ¬ w.heap.size + 1 + 1 = g) ∧ (¬ w.heap.size = w.heap.size + 1 + 1 ∧ ¬ w.heap.size + 1 + 1 = w.heap.size) := by omega
    have h1 : w.heap.size ≤ w.heap.size + 1 := by omega
    have h2 : w.heap.size ≤ w.heap.size + 2 := by omega
    go_upto_region 8 with fail
    refine AnyX.start 99 (fun w' => w'.cell? ⟨w.heap.size, 0, none⟩ = some (.int .i64 a) ∧ w'.cell? ⟨w.heap.size, 1, none⟩ = some (.int .i64 b) ∧ w'.cell? ⟨w.heap.size, 2, none⟩ = some (.int .i64 c) ∧ w'.cell? ⟨g, 0, none⟩ = some (.int .i64 a) ∧ w'.cell? ⟨g, 1, none⟩ = some (.int .i64 b) ∧ w'.cell? ⟨g, 2, none⟩ = some (.int .i64 c) ∧ w'.cell? ⟨g, 3, none⟩ = some (.int .i64 (-s0)) ∧ w'.cell? ⟨g, 4, none⟩ = some (.int .i64 (-s1)) ∧ w'.cell? ⟨g, 5, none⟩ = some (.int .i64 (-s2))) (by kernel_rfl) ?_ (fun hHeld => ?_)
    · (try dsimp only); go_keep
    refine' AnyX.takeL (i := 0) (oi := _) (v := _) rfl (by kernel_rfl) (by kernel_rfl) (by kernel_rfl) (by kernel_rfl) (fun _ _ _ h => h) (Or.inl ⟨by rfl, ?hy1⟩) (by assumption) ?rest1
    case hy1 => (intro w' hSw; (try dsimp only at hSw); go_simp; (first | done | with_reducible rfl))
    try simp only [Act.put, List.setIfInBounds_toArray, List.set_cons_zero, List.set_cons_succ]
    refine' AnyX.takeL (i := 1) (oi := _) (v := _) rfl (by kernel_rfl) (by kernel_rfl) (by kernel_rfl) (by kernel_rfl) (fun _ _ _ h => h) (Or.inl ⟨by rfl, ?hy2⟩) (by assumption) ?rest2
    case hy2 => (intro w' hSw; (try dsimp only at hSw); go_simp; (first | done | with_reducible rfl))
    try simp only [Act.put, List.setIfInBounds_toArray, List.set_cons_zero, List.set_cons_succ]
    refine' AnyX.takeL (i := 2) (oi := _) (v := _) rfl (by kernel_rfl) (by kernel_rfl) (by kernel_rfl) (by kernel_rfl) (fun _ _ _ h => h) (Or.inl ⟨by rfl, ?hy3⟩) (by assumption) ?rest3
    case hy3 => (intro w' hSw; (try dsimp only at hSw); go_simp; (first | done | with_reducible rfl))
    try simp only [Act.put, List.setIfInBounds_toArray, List.set_cons_zero, List.set_cons_succ]
    refine AnyX.go (rs := [3]) (by kernel_rfl) (by simp) (AllX.consL (o := _) rfl (fun K hK => ?_) AllX.nil)
    go_simp
    go_at_call 69
    refine Lv.call (CM.out _ (HD.out.on L5.out.drew.below)) (L5.out.drew) ?_
    intro w6 L6'
    have L6 := hide L6'
    have F6 := L6'.at
    clear L6'
    simp only [AllAt, CellsAt, updL, List.map, Nat.zero_add, Nat.reduceAdd, and_true, World.size_alloc, World.heap_drewN, heap_drew, size_set, Nat.add_eq_left, Nat.left_eq_add, Nat.add_right_cancel_iff, ne_up2, ne_dn2, ne_up3, ne_dn3, ne_up4, ne_dn4, Nat.reduceEqDiff, Nat.one_ne_zero, Nat.succ_ne_zero, Nat.zero_ne_one, reduceIte, List.set_cons_zero, List.set_cons_succ] at F6
    go_wp2_with fail
    refine hK.out _ _ ?_ (fun hHeld => ?_)
    · (try dsimp only); go_keep
    clear hK K
    try simp only [Act.put, List.setIfInBounds_toArray, List.set_cons_zero, List.set_cons_succ]
    refine AnyX.go (rs := [4]) (by kernel_rfl) (by simp) (AllX.consL (o := _) rfl (fun K hK => ?_) AllX.nil)
    go_simp
    go_at_call 74
    refine Lv.call (COM.out _) (L6.out) ?_
    intro w7 L7'
    have L7 := hide L7'
    have F7 := L7'.at
    clear L7'
    simp only [AllAt, CellsAt, updL, List.map, Nat.zero_add, Nat.reduceAdd, and_true, World.size_alloc, World.heap_drewN, heap_drew, size_set, Nat.add_eq_left, Nat.left_eq_add, Nat.add_right_cancel_iff, ne_up2, ne_dn2, ne_up3, ne_dn3, ne_up4, ne_dn4, Nat.reduceEqDiff, Nat.one_ne_zero, Nat.succ_ne_zero, Nat.zero_ne_one, reduceIte, List.set_cons_zero, List.set_cons_succ] at F7
    go_wp2_with fail
    refine hK.out _ _ ?_ (fun hHeld => ?_)
    · (try dsimp only); go_keep
    clear hK K
    try simp only [Act.put, List.setIfInBounds_toArray, List.set_cons_zero, List.set_cons_succ]
    refine AnyX.go (rs := [5]) (by kernel_rfl) (by simp) (AllX.consL (o := _) rfl (fun K hK => ?_) AllX.nil)
    go_simp
    refine hK.out _ _ ?_ (fun hHeld => ?_)
    · (try dsimp only); go_keep
    clear hK K
    try simp only [Act.put, List.setIfInBounds_toArray, List.set_cons_zero, List.set_cons_succ]
    refine AnyX.go (rs := [6]) (by kernel_rfl) (by simp) (AllX.consL (o := _) rfl (fun K hK => ?_) AllX.nil)
    go_simp
    refine hK.out _ _ ?_ (fun hHeld => ?_)
    · (try dsimp only); go_keep
    clear hK K
    try simp only [Act.put, List.setIfInBounds_toArray, List.set_cons_zero, List.set_cons_succ]
    refine' AnyX.takeL (i := 7) (oi := _) (v := _) rfl (by kernel_rfl) (by kernel_rfl) (by kernel_rfl) (by kernel_rfl) (fun _ _ _ h => h) (Or.inl ⟨by rfl, ?hy4⟩) (by assumption) ?rest4
    case hy4 => (intro w' hSw; (try dsimp only at hSw); go_simp; (first | done | with_reducible rfl))
    try simp only [Act.put, List.setIfInBounds_toArray, List.set_cons_zero, List.set_cons_succ]
    refine AnyX.done (by kernel_rfl) ?_ _
    go_wp2
    refine bodyPost_ret (v := .tuple #[.agg #[.int .i64 a, .int .i64 b, .int .i64 c, .int .i64 (-s0), .int .i64 (-s1), .int .i64 (-s2)], .agg #[.int .i64 (-m0), .int .i64 (-m1), .int .i64 (-m2)], .int .i64 0]) (by simp [results, Try.results27, go_sem, F7]) rfl ⟨rfl, ?_⟩
    repeat (first | (with_reducible exact L7.out.below) | refine Below.setCell ?_ (by first | omega | (simp; done) | (simp; omega)) _ | refine Below.alloc ?_ (by first | omega | (simp; done) | (simp; omega)) _ | refine below_drewN ?_ _ | refine Below.drew ?_)
end Go.Proofs.Ytjfcjclhbnmgcaa
