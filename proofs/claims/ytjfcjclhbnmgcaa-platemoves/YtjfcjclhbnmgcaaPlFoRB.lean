/- The contract of agrafferef03.Balanced. Every bound is a premise of the theorem that bears it. -/
import Derived.Test.YtjfcjclhbnmgcaaPlFoRM
namespace Go.Proofs.Ytjfcjclhbnmgcaa
open Go.RowKit
set_option linter.unusedVariables false
set_option linter.unusedSimpArgs false

set_option maxHeartbeats 4000000 in
set_option maxRecDepth 100000 in
theorem refBalanced_any (A : Option Addr) (n cap : Nat) (z : Nat → Nat → Int) (w : World) (hD : RowM 6 w w.heap.size A n z) (hE : frcE z n = 0) :
    Calls Try.prog 24 #[.slice A n cap] w fun e w' => e = .returned (.bool (balB z n)) ∧ Below w.heap.size w w' := by
  obtain ⟨hn, hF⟩ := frcE_in hE
  have CM := fun W (h : RowM 6 W W.heap.size A n z) => refMoment_any A n cap z 0 0 0 W h (by omega) hF (by omega) (by omega) (by omega)
  have CS := fun W (h : RowM 6 W W.heap.size A n z) => refSum_any A n cap z W h (by omega) hF
  have HD := hide hD
  clear hD hE hF
  have e1 := fun W => eq3_run (sumTo z 3 n) (sumTo z 4 n) (sumTo z 5 n) 0 0 0 W
  have e2 := fun W => eq3_run (momTo z 1 2 4 5 0 0 n) (momTo z 2 0 5 3 0 0 n) (momTo z 0 1 3 4 0 0 n) 0 0 0 W
  have HB : Hid (balB z n = (sum0 z n && mom0 z n)) := rfl
  have HS0 : Hid (sum0 z n = eq3 (sumTo z 3 n) (sumTo z 4 n) (sumTo z 5 n) 0 0 0) := rfl
  have HM0 : Hid (mom0 z n = eq3 (momTo z 1 2 4 5 0 0 n) (momTo z 2 0 5 3 0 0 n) (momTo z 0 1 3 4 0 0 n) 0 0 0) := rfl
  unfold mom3 at CM
  unfold sum3 at CS
  obtain ⟨x, hx⟩ : ∃ x, x = momTo z 1 2 4 5 0 0 n := ⟨_, rfl⟩
  obtain ⟨y, hy⟩ : ∃ x, x = momTo z 2 0 5 3 0 0 n := ⟨_, rfl⟩
  obtain ⟨t, ht⟩ : ∃ x, x = momTo z 0 1 3 4 0 0 n := ⟨_, rfl⟩
  obtain ⟨a, ha⟩ : ∃ x, x = sumTo z 3 n := ⟨_, rfl⟩
  obtain ⟨b, hb⟩ : ∃ x, x = sumTo z 4 n := ⟨_, rfl⟩
  obtain ⟨c, hc⟩ : ∃ x, x = sumTo z 5 n := ⟨_, rfl⟩
  rw [← hx, ← hy, ← ht] at e2 HM0 CM
  rw [← ha, ← hb, ← hc] at e1 HS0 CS
  clear hx hy ht ha hb hc
  have CM' := hide CM
  have CS' := hide CS
  clear CM CS
  by_cases h1 : eq3 a b c 0 0 0 = true
  · have HR : Hid (balB z n = eq3 x y t 0 0 0) := hide (by rw [HB.out, HS0.out, HM0.out, h1, Bool.true_and])
    rw [HR.out]
    rw [h1] at e1
    clear h1 HS0 HM0 HB
    obtain ⟨q, hq⟩ : ∃ q, q = eq3 x y t 0 0 0 := ⟨_, rfl⟩
    rw [← hq] at e2 ⊢
    clear hq HR
    have L0 := hide (Lv.start w)
    go_enter Try.func24, Try.ntmps24
    go_wp2_with fail
    refine Lv.call (CS'.out _ (HD.out.on L0.out.below)) L0.out ?_
    intro w1 L1'
    have L1 := hide L1'
    have F1 := L1'.at
    clear L1'
    simp only [AllAt, CellsAt, updL, List.map, Nat.zero_add, Nat.reduceAdd, and_true, World.size_alloc, World.heap_drewN, heap_drew, size_set, Nat.add_eq_left, Nat.left_eq_add, Nat.add_right_cancel_iff, ne_up2, ne_dn2, ne_up3, ne_dn3, ne_up4, ne_dn4, Nat.reduceEqDiff, Nat.one_ne_zero, Nat.succ_ne_zero, Nat.zero_ne_one, reduceIte, List.set_cons_zero, List.set_cons_succ] at F1
    go_wp2_with fail
    refine Lv.call (CM'.out _ (HD.out.on L1.out.below)) L1.out ?_
    intro w2 L2'
    have L2 := hide L2'
    have F2 := L2'.at
    clear L2'
    simp only [AllAt, CellsAt, updL, List.map, Nat.zero_add, Nat.reduceAdd, and_true, World.size_alloc, World.heap_drewN, heap_drew, size_set, Nat.add_eq_left, Nat.left_eq_add, Nat.add_right_cancel_iff, ne_up2, ne_dn2, ne_up3, ne_dn3, ne_up4, ne_dn4, Nat.reduceEqDiff, Nat.one_ne_zero, Nat.succ_ne_zero, Nat.zero_ne_one, reduceIte, List.set_cons_zero, List.set_cons_succ] at F2
    go_wp2
    go_ret
    exact ⟨rfl, L2.out.below⟩
  · have h1' : eq3 a b c 0 0 0 = false := by simpa using h1
    have HR : Hid (balB z n = false) := hide (by rw [HB.out, HS0.out, h1', Bool.false_and])
    rw [HR.out]
    rw [h1'] at e1
    clear h1 h1' HS0 HM0 HB e2
    have L0 := hide (Lv.start w)
    go_enter Try.func24, Try.ntmps24
    go_wp2_with fail
    refine Lv.call (CS'.out _ (HD.out.on L0.out.below)) L0.out ?_
    intro w1 L1'
    have L1 := hide L1'
    have F1 := L1'.at
    clear L1'
    simp only [AllAt, CellsAt, updL, List.map, Nat.zero_add, Nat.reduceAdd, and_true, World.size_alloc, World.heap_drewN, heap_drew, size_set, Nat.add_eq_left, Nat.left_eq_add, Nat.add_right_cancel_iff, ne_up2, ne_dn2, ne_up3, ne_dn3, ne_up4, ne_dn4, Nat.reduceEqDiff, Nat.one_ne_zero, Nat.succ_ne_zero, Nat.zero_ne_one, reduceIte, List.set_cons_zero, List.set_cons_succ] at F1
    go_wp2
    go_ret
    exact ⟨rfl, L1.out.below⟩
end Go.Proofs.Ytjfcjclhbnmgcaa
