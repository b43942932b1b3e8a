/- Contracts of plate.Sum, Moment, Balanced, Balance. Every bound is a premise of the theorem that bears it. -/
import Derived.Test.YtjfcjclhbnmgcaaPlFo2
import Derived.Test.YtjfcjclhbnmgcaaPlEq
namespace Go.Proofs.Ytjfcjclhbnmgcaa
open Go.RowKit
set_option linter.unusedVariables false
set_option linter.unusedSimpArgs false

def zero3 : Value := .agg #[.int .i64 0, .int .i64 0, .int .i64 0]
set_option maxHeartbeats 4000000 in
set_option maxRecDepth 100000 in
theorem plSum_bad (A : Option Addr) (n cap : Nat) (z : Nat → Nat → Int) (E : Int) (w : World) (hD : RowM 6 w w.heap.size A n z) (hE : frcE z n = E) (h0 : E ≠ 0) :
    Calls Try.prog 17 #[.slice A n cap] w fun e w' => e = .returned (.tuple #[zero3, .int .i64 E]) ∧ Below w.heap.size w w' := by
  have HD := hide hD
  have HE := hide hE
  have b1 : (E != 0) = true := by rw [bne_iff_ne]; exact h0
  have b2 : (E == 0) = false := by rw [beq_eq_false_iff_ne]; exact h0
  clear hD hE h0
  have L0 := hide (Lv.start w)
  go_enter Try.func17, Try.ntmps17
  go_wp2_with fail
  refine Lv.call (plForces_any A n cap z _ (HD.out.on (L0.out.put _ _).below)) (L0.out.put _ _) ?_
  intro w1 L1'
  have L1 := hide L1'
  have F1 := L1'.at
  clear L1'
  simp only [AllAt, CellsAt, updL, List.map, Nat.zero_add, Nat.reduceAdd, and_true, World.size_alloc, World.heap_drewN, heap_drew, size_set, Nat.add_eq_left, Nat.left_eq_add, Nat.add_right_cancel_iff, ne_up2, ne_dn2, ne_up3, ne_dn3, ne_up4, ne_dn4, Nat.reduceEqDiff, Nat.one_ne_zero, Nat.succ_ne_zero, Nat.zero_ne_one, reduceIte, List.set_cons_zero, List.set_cons_succ] at F1
  rw [HE.out]
  go_wp2
  refine bodyPost_ret (v := .tuple #[.agg #[.int .i64 0, .int .i64 0, .int .i64 0], .int .i64 E]) (by simp [results, Try.results17, go_sem, F1]) rfl ⟨rfl, ?_⟩
  repeat (first | (with_reducible exact L1.out.below) | refine Below.setCell ?_ (by first | omega | (simp; done) | (simp; omega)) _ | refine Below.alloc ?_ (by first | omega | (simp; done) | (simp; omega)) _ | refine below_drewN ?_ _ | refine Below.drew ?_)
set_option maxHeartbeats 4000000 in
set_option maxRecDepth 100000 in
theorem plSum_ok (A : Option Addr) (n cap : Nat) (z : Nat → Nat → Int) (w : World) (hD : RowM 6 w w.heap.size A n z) (hE : frcE z n = 0) :
    Calls Try.prog 17 #[.slice A n cap] w fun e w' => e = .returned (.tuple #[sum3 z n, .int .i64 0]) ∧ Below w.heap.size w w' := by
  obtain ⟨hn, hF⟩ := frcE_in hE
  have HD := hide hD
  have HE := hide hE
  have HF := hide hF
  clear hD hE hF
  have HS : Hid (sum3 z n = .agg #[.int .i64 (sumTo z 3 n), .int .i64 (sumTo z 4 n), .int .i64 (sumTo z 5 n)]) := rfl
  obtain ⟨a, ha⟩ : ∃ x, x = sumTo z 3 n := ⟨_, rfl⟩
  obtain ⟨b, hb⟩ : ∃ x, x = sumTo z 4 n := ⟨_, rfl⟩
  obtain ⟨c, hc⟩ : ∃ x, x = sumTo z 5 n := ⟨_, rfl⟩
  rw [← ha, ← hb, ← hc] at HS
  clear ha hb hc
  have L0 := hide (Lv.start w)
  go_enter Try.func17, Try.ntmps17
  go_wp2_with fail
  refine Lv.call (plForces_any A n cap z _ (HD.out.on (L0.out.put _ _).below)) (L0.out.put _ _) ?_
  intro w1 L1'
  have L1 := hide L1'
  have F1 := L1'.at
  clear L1'
  simp only [AllAt, CellsAt, updL, List.map, Nat.zero_add, Nat.reduceAdd, and_true, World.size_alloc, World.heap_drewN, heap_drew, size_set, Nat.add_eq_left, Nat.left_eq_add, Nat.add_right_cancel_iff, ne_up2, ne_dn2, ne_up3, ne_dn3, ne_up4, ne_dn4, Nat.reduceEqDiff, Nat.one_ne_zero, Nat.succ_ne_zero, Nat.zero_ne_one, reduceIte, List.set_cons_zero, List.set_cons_succ] at F1
  rw [HE.out]
  go_wp2_with fail
  refine Lv.call (plSumOf_any A n cap z _ (HD.out.on L1.out.below) (by omega) HF.out) L1.out ?_
  intro w2 L2'
  have L2 := hide L2'
  have F2 := L2'.at
  clear L2' F1
  simp only [AllAt, CellsAt, updL, List.map, Nat.zero_add, Nat.reduceAdd, and_true, World.size_alloc, World.heap_drewN, heap_drew, size_set, Nat.add_eq_left, Nat.left_eq_add, Nat.add_right_cancel_iff, ne_up2, ne_dn2, ne_up3, ne_dn3, ne_up4, ne_dn4, Nat.reduceEqDiff, Nat.one_ne_zero, Nat.succ_ne_zero, Nat.zero_ne_one, reduceIte, List.set_cons_zero, List.set_cons_succ] at F2
  rw [HS.out]
  go_wp2
  refine bodyPost_ret (v := .tuple #[.agg #[.int .i64 a, .int .i64 b, .int .i64 c], .int .i64 0]) (by simp [results, Try.results17, go_sem, F2]) rfl ⟨(by rw [HS.out]), ?_⟩
  repeat (first | (with_reducible exact L2.out.below) | refine Below.setCell ?_ (by first | omega | (simp; done) | (simp; omega)) _ | refine Below.alloc ?_ (by first | omega | (simp; done) | (simp; omega)) _ | refine below_drewN ?_ _ | refine Below.drew ?_)
set_option maxHeartbeats 4000000 in
set_option maxRecDepth 100000 in
theorem plMoment_bad (A : Option Addr) (n cap : Nat) (z : Nat → Nat → Int) (a b c E : Int) (w : World) (hD : RowM 6 w w.heap.size A n z) (hE : frcE z n = E) (h0 : E ≠ 0) :
    Calls Try.prog 19 #[.slice A n cap, .agg #[.int .i64 a, .int .i64 b, .int .i64 c]] w fun e w' => e = .returned (.tuple #[zero3, .int .i64 E]) ∧ Below w.heap.size w w' := by
  have HD := hide hD
  have HE := hide hE
  have b1 : (E != 0) = true := by rw [bne_iff_ne]; exact h0
  have b2 : (E == 0) = false := by rw [beq_eq_false_iff_ne]; exact h0
  clear hD hE h0
  have L0 := hide (Lv.start w)
  go_enter Try.func19, Try.ntmps19
  go_wp2_with fail
  refine Lv.call (plForces_any A n cap z _ (HD.out.on ((L0.out.put _ _).put _ _).below)) ((L0.out.put _ _).put _ _) ?_
  intro w1 L1'
  have L1 := hide L1'
  have F1 := L1'.at
  clear L1'
  simp only [AllAt, CellsAt, updL, List.map, Nat.zero_add, Nat.reduceAdd, and_true, World.size_alloc, World.heap_drewN, heap_drew, size_set, Nat.add_eq_left, Nat.left_eq_add, Nat.add_right_cancel_iff, ne_up2, ne_dn2, ne_up3, ne_dn3, ne_up4, ne_dn4, Nat.reduceEqDiff, Nat.one_ne_zero, Nat.succ_ne_zero, Nat.zero_ne_one, reduceIte, List.set_cons_zero, List.set_cons_succ] at F1
  rw [HE.out]
  go_wp2
  refine bodyPost_ret (v := .tuple #[.agg #[.int .i64 0, .int .i64 0, .int .i64 0], .int .i64 E]) (by simp [results, Try.results19, go_sem, F1]) rfl ⟨rfl, ?_⟩
  repeat (first | (with_reducible exact L1.out.below) | refine Below.setCell ?_ (by first | omega | (simp; done) | (simp; omega)) _ | refine Below.alloc ?_ (by first | omega | (simp; done) | (simp; omega)) _ | refine below_drewN ?_ _ | refine Below.drew ?_)
set_option maxHeartbeats 4000000 in
set_option maxRecDepth 100000 in
theorem plMoment_far (A : Option Addr) (n cap : Nat) (z : Nat → Nat → Int) (a b c : Int) (w : World) (hD : RowM 6 w w.heap.size A n z) (hE : frcE z n = 0) (hP : plE a b c = 2) :
    Calls Try.prog 19 #[.slice A n cap, .agg #[.int .i64 a, .int .i64 b, .int .i64 c]] w fun e w' => e = .returned (.tuple #[zero3, .int .i64 2]) ∧ Below w.heap.size w w' := by
  have HD := hide hD
  have HE := hide hE
  have HP := hide hP
  clear hD hE hP
  have L0 := hide (Lv.start w)
  go_enter Try.func19, Try.ntmps19
  go_wp2_with fail
  refine Lv.call (plForces_any A n cap z _ (HD.out.on ((L0.out.put _ _).put _ _).below)) ((L0.out.put _ _).put _ _) ?_
  intro w1 L1'
  have L1 := hide L1'
  have F1 := L1'.at
  clear L1'
  simp only [AllAt, CellsAt, updL, List.map, Nat.zero_add, Nat.reduceAdd, and_true, World.size_alloc, World.heap_drewN, heap_drew, size_set, Nat.add_eq_left, Nat.left_eq_add, Nat.add_right_cancel_iff, ne_up2, ne_dn2, ne_up3, ne_dn3, ne_up4, ne_dn4, Nat.reduceEqDiff, Nat.one_ne_zero, Nat.succ_ne_zero, Nat.zero_ne_one, reduceIte, List.set_cons_zero, List.set_cons_succ] at F1
  rw [HE.out]
  go_wp2_with fail
  refine Lv.call (plPlace_any a b c _) L1.out ?_
  intro w2 L2'
  have L2 := hide L2'
  have F2 := L2'.at
  clear L2' F1
  simp only [AllAt, CellsAt, updL, List.map, Nat.zero_add, Nat.reduceAdd, and_true, World.size_alloc, World.heap_drewN, heap_drew, size_set, Nat.add_eq_left, Nat.left_eq_add, Nat.add_right_cancel_iff, ne_up2, ne_dn2, ne_up3, ne_dn3, ne_up4, ne_dn4, Nat.reduceEqDiff, Nat.one_ne_zero, Nat.succ_ne_zero, Nat.zero_ne_one, reduceIte, List.set_cons_zero, List.set_cons_succ] at F2
  rw [HP.out]
  go_wp2
  refine bodyPost_ret (v := .tuple #[.agg #[.int .i64 0, .int .i64 0, .int .i64 0], .int .i64 2]) (by simp [results, Try.results19, go_sem, F2]) rfl ⟨rfl, ?_⟩
  repeat (first | (with_reducible exact L2.out.below) | refine Below.setCell ?_ (by first | omega | (simp; done) | (simp; omega)) _ | refine Below.alloc ?_ (by first | omega | (simp; done) | (simp; omega)) _ | refine below_drewN ?_ _ | refine Below.drew ?_)
set_option maxHeartbeats 4000000 in
set_option maxRecDepth 100000 in
theorem plMoment_ok (A : Option Addr) (n cap : Nat) (z : Nat → Nat → Int) (a b c : Int) (w : World) (hD : RowM 6 w w.heap.size A n z) (hE : frcE z n = 0) (hP : plE a b c = 0) :
    Calls Try.prog 19 #[.slice A n cap, .agg #[.int .i64 a, .int .i64 b, .int .i64 c]] w fun e w' => e = .returned (.tuple #[mom3 z a b c n, .int .i64 0]) ∧ Below w.heap.size w w' := by
  obtain ⟨hn, hF⟩ := frcE_in hE
  obtain ⟨p1, p2, p3⟩ := place3 hP
  have CM := hide (fun W (h : RowM 6 W W.heap.size A n z) => plMomentOf_any A n cap z a b c W h (by omega) hF p1 p2 p3)
  have HD := hide hD
  have HE := hide hE
  have HP := hide hP
  clear hD hE hF hP
  have HS : Hid (mom3 z a b c n = .agg #[.int .i64 (momTo z 1 2 4 5 b c n), .int .i64 (momTo z 2 0 5 3 c a n), .int .i64 (momTo z 0 1 3 4 a b n)]) := rfl
  obtain ⟨x, hx⟩ : ∃ x, x = momTo z 1 2 4 5 b c n := ⟨_, rfl⟩
  obtain ⟨y, hy⟩ : ∃ x, x = momTo z 2 0 5 3 c a n := ⟨_, rfl⟩
  obtain ⟨t, ht⟩ : ∃ x, x = momTo z 0 1 3 4 a b n := ⟨_, rfl⟩
  rw [← hx, ← hy, ← ht] at HS
  clear hx hy ht
  have L0 := hide (Lv.start w)
  go_enter Try.func19, Try.ntmps19
  go_wp2_with fail
  refine Lv.call (plForces_any A n cap z _ (HD.out.on ((L0.out.put _ _).put _ _).below)) ((L0.out.put _ _).put _ _) ?_
  intro w1 L1'
  have L1 := hide L1'
  have F1 := L1'.at
  clear L1'
  simp only [AllAt, CellsAt, updL, List.map, Nat.zero_add, Nat.reduceAdd, and_true, World.size_alloc, World.heap_drewN, heap_drew, size_set, Nat.add_eq_left, Nat.left_eq_add, Nat.add_right_cancel_iff, ne_up2, ne_dn2, ne_up3, ne_dn3, ne_up4, ne_dn4, Nat.reduceEqDiff, Nat.one_ne_zero, Nat.succ_ne_zero, Nat.zero_ne_one, reduceIte, List.set_cons_zero, List.set_cons_succ] at F1
  rw [HE.out]
  go_wp2_with fail
  refine Lv.call (plPlace_any a b c _) L1.out ?_
  intro w2 L2'
  have L2 := hide L2'
  have F2 := L2'.at
  clear L2' F1
  simp only [AllAt, CellsAt, updL, List.map, Nat.zero_add, Nat.reduceAdd, and_true, World.size_alloc, World.heap_drewN, heap_drew, size_set, Nat.add_eq_left, Nat.left_eq_add, Nat.add_right_cancel_iff, ne_up2, ne_dn2, ne_up3, ne_dn3, ne_up4, ne_dn4, Nat.reduceEqDiff, Nat.one_ne_zero, Nat.succ_ne_zero, Nat.zero_ne_one, reduceIte, List.set_cons_zero, List.set_cons_succ] at F2
  rw [HP.out]
  go_wp2_with fail
  refine Lv.call (CM.out _ (HD.out.on L2.out.below)) L2.out ?_
  intro w3 L3'
  have L3 := hide L3'
  have F3 := L3'.at
  clear L3' F2
  simp only [AllAt, CellsAt, updL, List.map, Nat.zero_add, Nat.reduceAdd, and_true, World.size_alloc, World.heap_drewN, heap_drew, size_set, Nat.add_eq_left, Nat.left_eq_add, Nat.add_right_cancel_iff, ne_up2, ne_dn2, ne_up3, ne_dn3, ne_up4, ne_dn4, Nat.reduceEqDiff, Nat.one_ne_zero, Nat.succ_ne_zero, Nat.zero_ne_one, reduceIte, List.set_cons_zero, List.set_cons_succ] at F3
  rw [HS.out]
  go_wp2
  refine bodyPost_ret (v := .tuple #[.agg #[.int .i64 x, .int .i64 y, .int .i64 t], .int .i64 0]) (by simp [results, Try.results19, go_sem, F3]) rfl ⟨(by rw [HS.out]), ?_⟩
  repeat (first | (with_reducible exact L3.out.below) | refine Below.setCell ?_ (by first | omega | (simp; done) | (simp; omega)) _ | refine Below.alloc ?_ (by first | omega | (simp; done) | (simp; omega)) _ | refine below_drewN ?_ _ | refine Below.drew ?_)
/-- Are all three components of the sum, and of the moment about the origin, 0? -/
def sum0 (z : Nat → Nat → Int) (n : Nat) : Bool := eq3 (sumTo z 3 n) (sumTo z 4 n) (sumTo z 5 n) 0 0 0
def mom0 (z : Nat → Nat → Int) (n : Nat) : Bool := eq3 (momTo z 1 2 4 5 0 0 n) (momTo z 2 0 5 3 0 0 n) (momTo z 0 1 3 4 0 0 n) 0 0 0
def balB (z : Nat → Nat → Int) (n : Nat) : Bool := sum0 z n && mom0 z n
set_option maxHeartbeats 4000000 in
set_option maxRecDepth 100000 in
theorem plBalanced_bad (A : Option Addr) (n cap : Nat) (z : Nat → Nat → Int) (E : Int) (w : World) (hD : RowM 6 w w.heap.size A n z) (hE : frcE z n = E) (h0 : E ≠ 0) :
    Calls Try.prog 20 #[.slice A n cap] w fun e w' => e = .returned (.tuple #[.bool false, .int .i64 E]) ∧ Below w.heap.size w w' := by
  have HD := hide hD
  have HE := hide hE
  have b1 : (E != 0) = true := by rw [bne_iff_ne]; exact h0
  have b2 : (E == 0) = false := by rw [beq_eq_false_iff_ne]; exact h0
  clear hD hE h0
  have L0 := hide (Lv.start w)
  go_enter Try.func20, Try.ntmps20
  go_wp2_with fail
  refine Lv.call (plForces_any A n cap z _ (HD.out.on L0.out.below)) L0.out ?_
  intro w1 L1'
  have L1 := hide L1'
  have F1 := L1'.at
  clear L1'
  simp only [AllAt, CellsAt, updL, List.map, Nat.zero_add, Nat.reduceAdd, and_true, World.size_alloc, World.heap_drewN, heap_drew, size_set, Nat.add_eq_left, Nat.left_eq_add, Nat.add_right_cancel_iff, ne_up2, ne_dn2, ne_up3, ne_dn3, ne_up4, ne_dn4, Nat.reduceEqDiff, Nat.one_ne_zero, Nat.succ_ne_zero, Nat.zero_ne_one, reduceIte, List.set_cons_zero, List.set_cons_succ] at F1
  rw [HE.out]
  go_wp2
  go_ret2
  exact ⟨rfl, L1.out.below⟩
set_option maxHeartbeats 4000000 in
set_option maxRecDepth 100000 in
theorem plBalanced_ok (A : Option Addr) (n cap : Nat) (z : Nat → Nat → Int) (w : World) (hD : RowM 6 w w.heap.size A n z) (hE : frcE z n = 0) :
    Calls Try.prog 20 #[.slice A n cap] w fun e w' => e = .returned (.tuple #[.bool (balB z n), .int .i64 0]) ∧ Below w.heap.size w w' := by
  obtain ⟨hn, hF⟩ := frcE_in hE
  have CM := fun W (h : RowM 6 W W.heap.size A n z) => plMomentOf_any A n cap z 0 0 0 W h (by omega) hF (by omega) (by omega) (by omega)
  have CS := fun W (h : RowM 6 W W.heap.size A n z) => plSumOf_any A n cap z W h (by omega) hF
  have HD := hide hD
  have HE := hide hE
  clear hD hE hF
  have e1 := fun W => eq3V_run (sumTo z 3 n) (sumTo z 4 n) (sumTo z 5 n) 0 0 0 W
  have e2 := fun W => eq3V_run (momTo z 1 2 4 5 0 0 n) (momTo z 2 0 5 3 0 0 n) (momTo z 0 1 3 4 0 0 n) 0 0 0 W
  have HB : Hid (balB z n = (sum0 z n && mom0 z n)) := rfl
  have HS0 : Hid (sum0 z n = eq3 (sumTo z 3 n) (sumTo z 4 n) (sumTo z 5 n) 0 0 0) := rfl
  have HM0 : Hid (mom0 z n = eq3 (momTo z 1 2 4 5 0 0 n) (momTo z 2 0 5 3 0 0 n) (momTo z 0 1 3 4 0 0 n) 0 0 0) := rfl
  unfold mom3 at CM
  unfold sum3 at CS
  obtain ⟨x, hx⟩ : ∃ x, x = momTo z 1 2 4 5 0 0 n := ⟨_, rfl⟩
  obtain ⟨y, hy⟩ : ∃ x, x = momTo z 2 0 5 3 0 0 n := ⟨_, rfl⟩
  obtain ⟨t, ht⟩ : ∃ x, x = momTo z 0 1 3 4 0 0 n := ⟨_, rfl⟩
  obtain ⟨a, ha⟩ : ∃ x, x = sumTo z 3 n := ⟨_, rfl⟩
  obtain ⟨b, hb⟩ : ∃ x, x = sumTo z 4 n := ⟨_, rfl⟩
  obtain ⟨c, hc⟩ : ∃ x, x = sumTo z 5 n := ⟨_, rfl⟩
  rw [← hx, ← hy, ← ht] at e2 HM0 CM
  rw [← ha, ← hb, ← hc] at e1 HS0 CS
  clear hx hy ht ha hb hc
  have CM' := hide CM
  have CS' := hide CS
  clear CM CS
  by_cases h1 : eq3 a b c 0 0 0 = true
  · have HR : Hid (balB z n = eq3 x y t 0 0 0) := hide (by rw [HB.out, HS0.out, HM0.out, h1, Bool.true_and])
    rw [HR.out]
    rw [h1] at e1
    clear h1 HS0 HM0 HB
    obtain ⟨q, hq⟩ : ∃ q, q = eq3 x y t 0 0 0 := ⟨_, rfl⟩
    rw [← hq] at e2 ⊢
    clear hq HR
    have L0 := hide (Lv.start w)
    go_enter Try.func20, Try.ntmps20
    go_wp2_with fail
    refine Lv.call (plForces_any A n cap z _ (HD.out.on L0.out.below)) L0.out ?_
    intro w1 L1'
    have L1 := hide L1'
    have F1 := L1'.at
    clear L1'
    simp only [AllAt, CellsAt, updL, List.map, Nat.zero_add, Nat.reduceAdd, and_true, World.size_alloc, World.heap_drewN, heap_drew, size_set, Nat.add_eq_left, Nat.left_eq_add, Nat.add_right_cancel_iff, ne_up2, ne_dn2, ne_up3, ne_dn3, ne_up4, ne_dn4, Nat.reduceEqDiff, Nat.one_ne_zero, Nat.succ_ne_zero, Nat.zero_ne_one, reduceIte, List.set_cons_zero, List.set_cons_succ] at F1
    rw [HE.out]
    go_wp2
    have L2 := hide (L1.out.put [.int .i64 0, .int .i64 0, .int .i64 0] 110)
    have F2 := L2.out.at; simp only [AllAt, CellsAt, updL, List.map, Nat.zero_add, Nat.reduceAdd, and_true, World.size_alloc, World.heap_drewN, heap_drew, size_set, Nat.add_eq_left, Nat.left_eq_add, Nat.add_right_cancel_iff, ne_up2, ne_dn2, ne_up3, ne_dn3, ne_up4, ne_dn4, Nat.reduceEqDiff, Nat.one_ne_zero, Nat.succ_ne_zero, Nat.zero_ne_one, reduceIte, List.set_cons_zero, List.set_cons_succ] at F2
    (first | (go_region_held3 (fun w' => w'.cell? ⟨w1.heap.size, 0, none⟩ = some (.int .i64 0) ∧ w'.cell? ⟨w1.heap.size, 1, none⟩ = some (.int .i64 0) ∧ w'.cell? ⟨w1.heap.size, 2, none⟩ = some (.int .i64 0))
      (go_keep)
      (first | (go_at_call 67; refine Lv.call (CS'.out _ (HD.out.on L2.out.drew.below)) L2.out.drew ?_; intro w3 L3'; have L3 := hide L3'; have F3 := L3'.at; clear L3'; simp only [AllAt, CellsAt, updL, List.map, Nat.zero_add, Nat.reduceAdd, and_true, World.size_alloc, World.heap_drewN, heap_drew, size_set, Nat.add_eq_left, Nat.left_eq_add, Nat.add_right_cancel_iff, ne_up2, ne_dn2, ne_up3, ne_dn3, ne_up4, ne_dn4, Nat.reduceEqDiff, Nat.one_ne_zero, Nat.succ_ne_zero, Nat.zero_ne_one, reduceIte, List.set_cons_zero, List.set_cons_succ] at F3) | (go_at_call 69; refine Lv.call (CM'.out _ (HD.out.on L3.out.below)) L3.out ?_; intro w4 L4'; have L4 := hide L4'; have F4 := L4'.at; clear L4'; simp only [AllAt, CellsAt, updL, List.map, Nat.zero_add, Nat.reduceAdd, and_true, World.size_alloc, World.heap_drewN, heap_drew, size_set, Nat.add_eq_left, Nat.left_eq_add, Nat.add_right_cancel_iff, ne_up2, ne_dn2, ne_up3, ne_dn3, ne_up4, ne_dn4, Nat.reduceEqDiff, Nat.one_ne_zero, Nat.succ_ne_zero, Nat.zero_ne_one, reduceIte, List.set_cons_zero, List.set_cons_succ] at F4) | fail)) | fail)
    all_goals
      go_wp2
      go_ret2
      exact ⟨rfl, L4.out.below⟩
  · have h1' : eq3 a b c 0 0 0 = false := by simpa using h1
    have HR : Hid (balB z n = false) := hide (by rw [HB.out, HS0.out, h1', Bool.false_and])
    rw [HR.out]
    rw [h1'] at e1
    clear h1 h1' HS0 HM0 HB e2
    have L0 := hide (Lv.start w)
    go_enter Try.func20, Try.ntmps20
    go_wp2_with fail
    refine Lv.call (plForces_any A n cap z _ (HD.out.on L0.out.below)) L0.out ?_
    intro w1 L1'
    have L1 := hide L1'
    have F1 := L1'.at
    clear L1'
    simp only [AllAt, CellsAt, updL, List.map, Nat.zero_add, Nat.reduceAdd, and_true, World.size_alloc, World.heap_drewN, heap_drew, size_set, Nat.add_eq_left, Nat.left_eq_add, Nat.add_right_cancel_iff, ne_up2, ne_dn2, ne_up3, ne_dn3, ne_up4, ne_dn4, Nat.reduceEqDiff, Nat.one_ne_zero, Nat.succ_ne_zero, Nat.zero_ne_one, reduceIte, List.set_cons_zero, List.set_cons_succ] at F1
    rw [HE.out]
    go_wp2
    have L2 := hide (L1.out.put [.int .i64 0, .int .i64 0, .int .i64 0] 110)
    have F2 := L2.out.at; simp only [AllAt, CellsAt, updL, List.map, Nat.zero_add, Nat.reduceAdd, and_true, World.size_alloc, World.heap_drewN, heap_drew, size_set, Nat.add_eq_left, Nat.left_eq_add, Nat.add_right_cancel_iff, ne_up2, ne_dn2, ne_up3, ne_dn3, ne_up4, ne_dn4, Nat.reduceEqDiff, Nat.one_ne_zero, Nat.succ_ne_zero, Nat.zero_ne_one, reduceIte, List.set_cons_zero, List.set_cons_succ] at F2
    (first | (go_region_with (first | (go_at_call 67; refine Lv.call (CS'.out _ (HD.out.on L2.out.drew.below)) L2.out.drew ?_; intro w3 L3'; have L3 := hide L3'; have F3 := L3'.at; clear L3'; simp only [AllAt, CellsAt, updL, List.map, Nat.zero_add, Nat.reduceAdd, and_true, World.size_alloc, World.heap_drewN, heap_drew, size_set, Nat.add_eq_left, Nat.left_eq_add, Nat.add_right_cancel_iff, ne_up2, ne_dn2, ne_up3, ne_dn3, ne_up4, ne_dn4, Nat.reduceEqDiff, Nat.one_ne_zero, Nat.succ_ne_zero, Nat.zero_ne_one, reduceIte, List.set_cons_zero, List.set_cons_succ] at F3) | fail)) | fail)
    all_goals
      go_wp2
      go_ret2
      exact ⟨rfl, L3.out.below⟩
end Go.Proofs.Ytjfcjclhbnmgcaa
