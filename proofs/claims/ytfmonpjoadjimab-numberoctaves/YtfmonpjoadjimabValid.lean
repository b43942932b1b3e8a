/- Contracts of agrafferef01.sum, valid. Bounds are premises of each theorem. -/
import Derived.Test.YtfmonpjoadjimabRefPitch
namespace Go.Proofs.Ytfmonpjoadjimab
open Go.RowKit
set_option linter.unusedVariables false
set_option linter.unusedSimpArgs false

theorem den_in {d h : Int} (hd : 1 ≤ d ∧ d ≤ 12) (hh : 1 ≤ h ∧ h ≤ 12) : 1 ≤ d * h ∧ d * h ≤ 144 := by
  have h1 := mul_bound (x := d) (y := h) 12 12 (by omega) (by omega)
  rw [show (12 * 12 : Nat) = 144 from rfl] at h1
  have := Int.mul_le_mul_of_nonneg_left hh.1 (show 0 ≤ d by omega)
  omega

set_option maxHeartbeats 1000000 in
set_option maxRecDepth 100000 in
theorem refSum_any (a b c d e f g h s : Int) (w : World) (hp : smallP a b c d) (hq : smallP e f g h) (hs : -1 ≤ s ∧ s ≤ 1) :
    Calls Try.prog 56 #[.agg #[.int .i64 a, .int .i64 b, .int .i64 c, .int .i64 d], .agg #[.int .i64 e, .int .i64 f, .int .i64 g, .int .i64 h], .int .i64 s] w
      fun x w' => x = .returned (.agg #[.int .i64 (jn a h s e d), .int .i64 (jn b h s f d), .int .i64 (jn c h s g d), .int .i64 (d * h)]) ∧ Below w.heap.size w w' := by
  obtain ⟨hd, ha, hb, hc⟩ := hp
  obtain ⟨hh, he, hf, hg⟩ := hq
  have f1 := jn_facts ha he hh hd hs
  have f2 := jn_facts hb hf hh hd hs
  have f3 := jn_facts hc hg hh hd hs
  have dh := den_in hd hh
  have HV : Hid ((.agg #[.int .i64 (a * h + s * e * d), .int .i64 (b * h + s * f * d), .int .i64 (c * h + s * g * d), .int .i64 (d * h)] : Value) = .agg #[.int .i64 (jn a h s e d), .int .i64 (jn b h s f d), .int .i64 (jn c h s g d), .int .i64 (d * h)]) := hide rfl
  unfold jn at f1 f2 f3
  have L0 := hide (Lv.start w)
  go_enter Try.func56, Try.ntmps56
  go_wp2
  refine bodyPost_ret (v := .agg #[.int .i64 (a * h + s * e * d), .int .i64 (b * h + s * f * d), .int .i64 (c * h + s * g * d), .int .i64 (d * h)]) (by simp [results, Try.results56, go_sem]) rfl ⟨by rw [HV.out], ?_⟩
  repeat (first | (with_reducible exact L0.out.below) | refine Below.setCell ?_ (by first | omega | (simp; done) | (simp; omega)) _ | refine Below.alloc ?_ (by first | omega | (simp; done) | (simp; omega)) _ | refine below_drewN ?_ _ | refine Below.drew ?_)

set_option maxHeartbeats 1000000 in
set_option maxRecDepth 100000 in
theorem refValid_any (a b c d : Int) (w : World) (ha : -1000000000000 ≤ a ∧ a ≤ 1000000000000) (hb : -1000000000000 ≤ b ∧ b ≤ 1000000000000) (hc : -1000000000000 ≤ c ∧ c ≤ 1000000000000) (hd : 1 ≤ d ∧ d ≤ 1000000000000) :
    Calls Try.prog 55 #[.agg #[.int .i64 a, .int .i64 b, .int .i64 c, .int .i64 d]] w fun x w' => x = .returned (pitchR (p2 a b c d) (p3 a b c d) (p5 a b c d) (pd a b c d) (pe a b c d)) ∧ Below w.heap.size w w' := by
  have L0 := hide (Lv.start w)
  go_enter Try.func55, Try.ntmps55
  go_wp2_with fail
  refine Lv.call (refNormal_any a b c d _ ha hb hc hd) ((L0.out.put _ _).put _ _) ?_
  intro w2 L2'
  have L2 := hide L2'
  have F2 := L2'.at
  clear L2'
  simp only [AllAt, CellsAt, updL, List.map, Nat.zero_add, Nat.reduceAdd, and_true, World.size_alloc, World.heap_drewN, heap_drew, size_set, Nat.add_eq_left, Nat.left_eq_add, Nat.add_right_cancel_iff, Nat.reduceEqDiff, Nat.one_ne_zero, Nat.succ_ne_zero, Nat.zero_ne_one, reduceIte, List.set_cons_zero, List.set_cons_succ] at F2
  unfold pitchV
  obtain ⟨x, hx⟩ : ∃ x, x = a.tdiv (gcdP a b c d) := ⟨_, rfl⟩
  obtain ⟨y, hy⟩ : ∃ x, x = b.tdiv (gcdP a b c d) := ⟨_, rfl⟩
  obtain ⟨z, hz⟩ : ∃ x, x = c.tdiv (gcdP a b c d) := ⟨_, rfl⟩
  obtain ⟨u, hu⟩ : ∃ x, x = d / (gcdP a b c d : Int) := ⟨_, rfl⟩
  rw [← hx, ← hy, ← hz, ← hu]
  by_cases hok : fitP a b c d
  · have HV : Hid (pitchR (p2 a b c d) (p3 a b c d) (p5 a b c d) (pd a b c d) (pe a b c d) = pitchR x y z u 0) := by
      show _ = _
      unfold p2 p3 p5 pd pe
      rw [if_pos hok, if_pos hok, if_pos hok, if_pos hok, if_pos hok, hx, hy, hz, hu]
    have HO : Hid (decide (okP x y z u) = true) := by
      show _ = _
      rw [hx, hy, hz, hu]; exact decide_eq_true hok
    clear hok hx hy hz hu
    go_wp2_with fail
    refine Lv.call (isPitch_any x y z u _) ((((L2.out.set _ _ _ (by first | omega | (simp; done) | (simp; omega))).set _ _ _ (by first | omega | (simp; done) | (simp; omega))).set _ _ _ (by first | omega | (simp; done) | (simp; omega))).set _ _ _ (by first | omega | (simp; done) | (simp; omega))) ?_
    intro w3 L3'
    have L3 := hide L3'
    have F3 := L3'.at
    clear L3' F2
    simp only [AllAt, CellsAt, updL, List.map, Nat.zero_add, Nat.reduceAdd, and_true, World.size_alloc, World.heap_drewN, heap_drew, size_set, Nat.add_eq_left, Nat.left_eq_add, Nat.add_right_cancel_iff, Nat.reduceEqDiff, Nat.one_ne_zero, Nat.succ_ne_zero, Nat.zero_ne_one, reduceIte, List.set_cons_zero, List.set_cons_succ] at F3
    rw [HO.out]
    go_wp2
    refine bodyPost_ret (v := pitchR x y z u 0) (by simp [results, Try.results55, go_sem, F3, pitchR]) rfl ⟨by rw [HV.out], ?_⟩
    repeat (first | (with_reducible exact L3.out.below) | refine Below.setCell ?_ (by first | omega | (simp; done) | (simp; omega)) _ | refine Below.alloc ?_ (by first | omega | (simp; done) | (simp; omega)) _ | refine below_drewN ?_ _ | refine Below.drew ?_)
  · have HV : Hid (pitchR (p2 a b c d) (p3 a b c d) (p5 a b c d) (pd a b c d) (pe a b c d) = pitchR 0 0 0 0 8) := by
      show _ = _
      unfold p2 p3 p5 pd pe
      rw [if_neg hok, if_neg hok, if_neg hok, if_neg hok, if_neg hok]
    have HO : Hid (decide (okP x y z u) = false) := by
      show _ = _
      rw [hx, hy, hz, hu]; exact decide_eq_false hok
    clear hok hx hy hz hu
    go_wp2_with fail
    refine Lv.call (isPitch_any x y z u _) ((((L2.out.set _ _ _ (by first | omega | (simp; done) | (simp; omega))).set _ _ _ (by first | omega | (simp; done) | (simp; omega))).set _ _ _ (by first | omega | (simp; done) | (simp; omega))).set _ _ _ (by first | omega | (simp; done) | (simp; omega))) ?_
    intro w3 L3'
    have L3 := hide L3'
    have F3 := L3'.at
    clear L3' F2
    simp only [AllAt, CellsAt, updL, List.map, Nat.zero_add, Nat.reduceAdd, and_true, World.size_alloc, World.heap_drewN, heap_drew, size_set, Nat.add_eq_left, Nat.left_eq_add, Nat.add_right_cancel_iff, Nat.reduceEqDiff, Nat.one_ne_zero, Nat.succ_ne_zero, Nat.zero_ne_one, reduceIte, List.set_cons_zero, List.set_cons_succ] at F3
    rw [HO.out]
    go_wp2
    refine bodyPost_ret (v := pitchR 0 0 0 0 8) (by simp [results, Try.results55, go_sem, F3, pitchR]) rfl ⟨by rw [HV.out], ?_⟩
    repeat (first | (with_reducible exact L3.out.below) | refine Below.setCell ?_ (by first | omega | (simp; done) | (simp; omega)) _ | refine Below.alloc ?_ (by first | omega | (simp; done) | (simp; omega)) _ | refine below_drewN ?_ _ | refine Below.drew ?_)

end Go.Proofs.Ytfmonpjoadjimab
