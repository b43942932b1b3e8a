/- Contracts of agrafferef01.sum, valid, Join, Power, of number.Power and of agraffelaw01.pitches. Bounds are premises of each theorem. -/
import Derived.Test.YtfmonpjoadjimaaJoins
namespace Go.Proofs.Ytfmonpjoadjimaa
open Go.RowKit
set_option linter.unusedVariables false
set_option linter.unusedSimpArgs false

theorem den_in {d h : Int} (hd : 1 ≤ d ∧ d ≤ 12) (hh : 1 ≤ h ∧ h ≤ 12) : 1 ≤ d * h ∧ d * h ≤ 144 := by
  have h1 := mul_bound (x := d) (y := h) 12 12 (by omega) (by omega)
  rw [show (12 * 12 : Nat) = 144 from rfl] at h1
  have := Int.mul_le_mul_of_nonneg_left hh.1 (show 0 ≤ d by omega)
  omega

set_option maxHeartbeats 1000000 in
set_option maxRecDepth 100000 in
theorem refSum_any (a b c d e f g h s : Int) (w : World) (hp : smallP a b c d) (hq : smallP e f g h) (hs : -1 ≤ s ∧ s ≤ 1) :
    Calls Try.prog 64 #[.agg #[.int .i64 a, .int .i64 b, .int .i64 c, .int .i64 d], .agg #[.int .i64 e, .int .i64 f, .int .i64 g, .int .i64 h], .int .i64 s] w
      fun x w' => x = .returned (.agg #[.int .i64 (jn a h s e d), .int .i64 (jn b h s f d), .int .i64 (jn c h s g d), .int .i64 (d * h)]) ∧ Below w.heap.size w w' := by
  obtain ⟨hd, ha, hb, hc⟩ := hp
  obtain ⟨hh, he, hf, hg⟩ := hq
  have f1 := jn_facts ha he hh hd hs
  have f2 := jn_facts hb hf hh hd hs
  have f3 := jn_facts hc hg hh hd hs
  have dh := den_in hd hh
  have HV : Hid ((.agg #[.int .i64 (a * h + s * e * d), .int .i64 (b * h + s * f * d), .int .i64 (c * h + s * g * d), .int .i64 (d * h)] : Value) = .agg #[.int .i64 (jn a h s e d), .int .i64 (jn b h s f d), .int .i64 (jn c h s g d), .int .i64 (d * h)]) := hide rfl
  unfold jn at f1 f2 f3
  have L0 := hide (Lv.start w)
  go_enter Try.func64, Try.ntmps64
  go_wp2
  refine bodyPost_ret (v := .agg #[.int .i64 (a * h + s * e * d), .int .i64 (b * h + s * f * d), .int .i64 (c * h + s * g * d), .int .i64 (d * h)]) (by simp [results, Try.results64, go_sem]) rfl ⟨by rw [HV.out], ?_⟩
  repeat (first | exact L0.out.below | refine Below.setCell ?_ (by first | omega | (simp; done) | (simp; omega)) _ | refine Below.alloc ?_ (by first | omega | (simp; done) | (simp; omega)) _ | refine below_drewN ?_ _ | refine Below.drew ?_)

set_option maxHeartbeats 1000000 in
set_option maxRecDepth 100000 in
theorem refValid_any (a b c d : Int) (w : World) (ha : -1000000000000 ≤ a ∧ a ≤ 1000000000000) (hb : -1000000000000 ≤ b ∧ b ≤ 1000000000000) (hc : -1000000000000 ≤ c ∧ c ≤ 1000000000000) (hd : 1 ≤ d ∧ d ≤ 1000000000000) :
    Calls Try.prog 63 #[.agg #[.int .i64 a, .int .i64 b, .int .i64 c, .int .i64 d]] w fun x w' => x = .returned (pitchR (p2 a b c d) (p3 a b c d) (p5 a b c d) (pd a b c d) (pe a b c d)) ∧ Below w.heap.size w w' := by
  have L0 := hide (Lv.start w)
  go_enter Try.func63, Try.ntmps63
  go_wp2_with fail
  refine Lv.call (refNormal_any a b c d _ ha hb hc hd) ((L0.out.put _ _).put _ _) ?_
  intro w2 L2'
  have L2 := hide L2'
  have F2 := L2'.at
  clear L2'
  simp only [AllAt, CellsAt, updL, List.map, Nat.zero_add, Nat.reduceAdd, and_true, World.size_alloc, World.heap_drewN, heap_drew, size_set, Nat.add_eq_left, Nat.left_eq_add, Nat.add_right_cancel_iff, Nat.reduceEqDiff, Nat.one_ne_zero, Nat.succ_ne_zero, Nat.zero_ne_one, reduceIte, List.set_cons_zero, List.set_cons_succ] at F2
  unfold pitchV
  obtain ⟨x, hx⟩ : ∃ x, x = a.tdiv (gcdP a b c d) := ⟨_, rfl⟩
  obtain ⟨y, hy⟩ : ∃ x, x = b.tdiv (gcdP a b c d) := ⟨_, rfl⟩
  obtain ⟨z, hz⟩ : ∃ x, x = c.tdiv (gcdP a b c d) := ⟨_, rfl⟩
  obtain ⟨u, hu⟩ : ∃ x, x = d / (gcdP a b c d : Int) := ⟨_, rfl⟩
  rw [← hx, ← hy, ← hz, ← hu]
  by_cases hok : fitP a b c d
  · have HV : Hid (pitchR (p2 a b c d) (p3 a b c d) (p5 a b c d) (pd a b c d) (pe a b c d) = pitchR x y z u 0) := by
      show _ = _
      unfold p2 p3 p5 pd pe
      rw [if_pos hok, if_pos hok, if_pos hok, if_pos hok, if_pos hok, hx, hy, hz, hu]
    have HO : Hid (decide (okP x y z u) = true) := by
      show _ = _
      rw [hx, hy, hz, hu]; exact decide_eq_true hok
    clear hok hx hy hz hu
    go_wp2_with fail
    refine Lv.call (isPitch_any x y z u _) ((((L2.out.set _ _ _ (by first | omega | (simp; done) | (simp; omega))).set _ _ _ (by first | omega | (simp; done) | (simp; omega))).set _ _ _ (by first | omega | (simp; done) | (simp; omega))).set _ _ _ (by first | omega | (simp; done) | (simp; omega))) ?_
    intro w3 L3'
    have L3 := hide L3'
    have F3 := L3'.at
    clear L3' F2
    simp only [AllAt, CellsAt, updL, List.map, Nat.zero_add, Nat.reduceAdd, and_true, World.size_alloc, World.heap_drewN, heap_drew, size_set, Nat.add_eq_left, Nat.left_eq_add, Nat.add_right_cancel_iff, Nat.reduceEqDiff, Nat.one_ne_zero, Nat.succ_ne_zero, Nat.zero_ne_one, reduceIte, List.set_cons_zero, List.set_cons_succ] at F3
    rw [HO.out]
    go_wp2
    refine bodyPost_ret (v := pitchR x y z u 0) (by simp [results, Try.results63, go_sem, F3, pitchR]) rfl ⟨by rw [HV.out], ?_⟩
    repeat (first | exact L3.out.below | refine Below.setCell ?_ (by first | omega | (simp; done) | (simp; omega)) _ | refine Below.alloc ?_ (by first | omega | (simp; done) | (simp; omega)) _ | refine below_drewN ?_ _ | refine Below.drew ?_)
  · have HV : Hid (pitchR (p2 a b c d) (p3 a b c d) (p5 a b c d) (pd a b c d) (pe a b c d) = pitchR 0 0 0 0 8) := by
      show _ = _
      unfold p2 p3 p5 pd pe
      rw [if_neg hok, if_neg hok, if_neg hok, if_neg hok, if_neg hok]
    have HO : Hid (decide (okP x y z u) = false) := by
      show _ = _
      rw [hx, hy, hz, hu]; exact decide_eq_false hok
    clear hok hx hy hz hu
    go_wp2_with fail
    refine Lv.call (isPitch_any x y z u _) ((((L2.out.set _ _ _ (by first | omega | (simp; done) | (simp; omega))).set _ _ _ (by first | omega | (simp; done) | (simp; omega))).set _ _ _ (by first | omega | (simp; done) | (simp; omega))).set _ _ _ (by first | omega | (simp; done) | (simp; omega))) ?_
    intro w3 L3'
    have L3 := hide L3'
    have F3 := L3'.at
    clear L3' F2
    simp only [AllAt, CellsAt, updL, List.map, Nat.zero_add, Nat.reduceAdd, and_true, World.size_alloc, World.heap_drewN, heap_drew, size_set, Nat.add_eq_left, Nat.left_eq_add, Nat.add_right_cancel_iff, Nat.reduceEqDiff, Nat.one_ne_zero, Nat.succ_ne_zero, Nat.zero_ne_one, reduceIte, List.set_cons_zero, List.set_cons_succ] at F3
    rw [HO.out]
    go_wp2
    refine bodyPost_ret (v := pitchR 0 0 0 0 8) (by simp [results, Try.results63, go_sem, F3, pitchR]) rfl ⟨by rw [HV.out], ?_⟩
    repeat (first | exact L3.out.below | refine Below.setCell ?_ (by first | omega | (simp; done) | (simp; omega)) _ | refine Below.alloc ?_ (by first | omega | (simp; done) | (simp; omega)) _ | refine below_drewN ?_ _ | refine Below.drew ?_)

set_option maxHeartbeats 1000000 in
set_option maxRecDepth 100000 in
theorem refJoin_any (a b c d e f g h : Int) (w : World) (hp : okP a b c d) (hq : okP e f g h) :
    Calls Try.prog 31 #[.agg #[.int .i64 a, .int .i64 b, .int .i64 c, .int .i64 d], .agg #[.int .i64 e, .int .i64 f, .int .i64 g, .int .i64 h]] w
      fun x w' => x = .returned (pitchR (p2 (jn a h 1 e d) (jn b h 1 f d) (jn c h 1 g d) (d * h)) (p3 (jn a h 1 e d) (jn b h 1 f d) (jn c h 1 g d) (d * h)) (p5 (jn a h 1 e d) (jn b h 1 f d) (jn c h 1 g d) (d * h)) (pd (jn a h 1 e d) (jn b h 1 f d) (jn c h 1 g d) (d * h)) (pe (jn a h 1 e d) (jn b h 1 f d) (jn c h 1 g d) (d * h))) ∧ Below w.heap.size w w' := by
  have sp := small_ok hp
  have sq := small_ok hq
  have f1 := (jn_facts (s := 1) sp.2.1 sq.2.1 sq.1 sp.1 (by omega)).2.2.2
  have f2 := (jn_facts (s := 1) sp.2.2.1 sq.2.2.1 sq.1 sp.1 (by omega)).2.2.2
  have f3 := (jn_facts (s := 1) sp.2.2.2 sq.2.2.2 sq.1 sp.1 (by omega)).2.2.2
  have dh := den_in sp.1 sq.1
  have SP := hide sp
  have SQ := hide sq
  clear hp hq sp sq
  have L0 := hide (Lv.start w)
  go_enter Try.func31, Try.ntmps31
  go_wp2_with fail
  refine Lv.call (refSum_any a b c d e f g h 1 _ SP.out SQ.out (by omega)) (((L0.out.put _ _).put _ _).put _ _) ?_
  intro w2 L2'
  have L2 := hide L2'
  have F2 := L2'.at
  clear L2'
  simp only [AllAt, CellsAt, updL, List.map, Nat.zero_add, Nat.reduceAdd, and_true, World.size_alloc, World.heap_drewN, heap_drew, size_set, Nat.add_eq_left, Nat.left_eq_add, Nat.add_right_cancel_iff, Nat.reduceEqDiff, Nat.one_ne_zero, Nat.succ_ne_zero, Nat.zero_ne_one, reduceIte, List.set_cons_zero, List.set_cons_succ] at F2
  go_wp2_with fail
  refine Lv.call (refValid_any (jn a h 1 e d) (jn b h 1 f d) (jn c h 1 g d) (d * h) _ (by omega) (by omega) (by omega) (by omega)) L2.out ?_
  intro w3 L3'
  have L3 := hide L3'
  have F3 := L3'.at
  clear L3' F2
  simp only [AllAt, CellsAt, updL, List.map, Nat.zero_add, Nat.reduceAdd, and_true, World.size_alloc, World.heap_drewN, heap_drew, size_set, Nat.add_eq_left, Nat.left_eq_add, Nat.add_right_cancel_iff, Nat.reduceEqDiff, Nat.one_ne_zero, Nat.succ_ne_zero, Nat.zero_ne_one, reduceIte, List.set_cons_zero, List.set_cons_succ] at F3
  unfold pitchR
  go_wp2
  refine bodyPost_ret (v := pitchR (p2 (jn a h 1 e d) (jn b h 1 f d) (jn c h 1 g d) (d * h)) (p3 (jn a h 1 e d) (jn b h 1 f d) (jn c h 1 g d) (d * h)) (p5 (jn a h 1 e d) (jn b h 1 f d) (jn c h 1 g d) (d * h)) (pd (jn a h 1 e d) (jn b h 1 f d) (jn c h 1 g d) (d * h)) (pe (jn a h 1 e d) (jn b h 1 f d) (jn c h 1 g d) (d * h))) (by simp [results, Try.results31, go_sem, F3, pitchR]) rfl ⟨rfl, ?_⟩
  repeat (first | exact L3.out.below | refine Below.setCell ?_ (by first | omega | (simp; done) | (simp; omega)) _ | refine Below.alloc ?_ (by first | omega | (simp; done) | (simp; omega)) _ | refine below_drewN ?_ _ | refine Below.drew ?_)

theorem pw_facts {x n : Int} (hx : okE x) (hn : -1000000000 ≤ n ∧ n ≤ 1000000000) : -400000000000 ≤ x * n ∧ x * n ≤ 400000000000 := by
  unfold okE at hx
  have h := mul_bound (x := x) (y := n) 400 1000000000 (by omega) (by omega)
  rw [show (400 * 1000000000 : Nat) = 400000000000 from rfl] at h
  omega
theorem pwd_facts {d m : Int} (hd : 1 ≤ d ∧ d ≤ 12) (hm : 1 ≤ m ∧ m ≤ 1000000000) : 1 ≤ d * m ∧ d * m ≤ 12000000000 := by
  have h1 := mul_bound (x := d) (y := m) 12 1000000000 (by omega) (by omega)
  rw [show (12 * 1000000000 : Nat) = 12000000000 from rfl] at h1
  have := Int.mul_le_mul_of_nonneg_left hm.1 (show 0 ≤ d by omega)
  omega

set_option maxHeartbeats 1000000 in
set_option maxRecDepth 100000 in
theorem refPower_any (a b c d n m : Int) (w : World) (hp : okP a b c d) (hf : okF n m) :
    Calls Try.prog 33 #[.agg #[.int .i64 a, .int .i64 b, .int .i64 c, .int .i64 d], .agg #[.int .i64 n, .int .i64 m]] w
      fun x w' => x = .returned (pitchR (p2 (a * n) (b * n) (c * n) (d * m)) (p3 (a * n) (b * n) (c * n) (d * m)) (p5 (a * n) (b * n) (c * n) (d * m)) (pd (a * n) (b * n) (c * n) (d * m)) (pe (a * n) (b * n) (c * n) (d * m))) ∧ Below w.heap.size w w' := by
  obtain ⟨hd, ha, hb, hc⟩ := hp
  obtain ⟨⟨hm1, _⟩, hn, hm2⟩ := hf
  have f1 := pw_facts ha hn
  have f2 := pw_facts hb hn
  have f3 := pw_facts hc hn
  have f4 := pwd_facts hd ⟨hm1, hm2⟩
  clear ha hb hc
  have L0 := hide (Lv.start w)
  go_enter Try.func33, Try.ntmps33
  go_wp2_with fail
  refine Lv.call (refValid_any (a * n) (b * n) (c * n) (d * m) _ (by omega) (by omega) (by omega) (by omega)) (((L0.out.put _ _).put _ _).put _ _) ?_
  intro w2 L2'
  have L2 := hide L2'
  have F2 := L2'.at
  clear L2'
  simp only [AllAt, CellsAt, updL, List.map, Nat.zero_add, Nat.reduceAdd, and_true, World.size_alloc, World.heap_drewN, heap_drew, size_set, Nat.add_eq_left, Nat.left_eq_add, Nat.add_right_cancel_iff, Nat.reduceEqDiff, Nat.one_ne_zero, Nat.succ_ne_zero, Nat.zero_ne_one, reduceIte, List.set_cons_zero, List.set_cons_succ] at F2
  unfold pitchR
  go_wp2
  refine bodyPost_ret (v := pitchR (p2 (a * n) (b * n) (c * n) (d * m)) (p3 (a * n) (b * n) (c * n) (d * m)) (p5 (a * n) (b * n) (c * n) (d * m)) (pd (a * n) (b * n) (c * n) (d * m)) (pe (a * n) (b * n) (c * n) (d * m))) (by simp [results, Try.results33, go_sem, F2, pitchR]) rfl ⟨rfl, ?_⟩
  repeat (first | exact L2.out.below | refine Below.setCell ?_ (by first | omega | (simp; done) | (simp; omega)) _ | refine Below.alloc ?_ (by first | omega | (simp; done) | (simp; omega)) _ | refine below_drewN ?_ _ | refine Below.drew ?_)

set_option maxHeartbeats 1000000 in
set_option maxRecDepth 100000 in
theorem power_badp (a b c d n m : Int) (w : World) (hp : ¬ okP a b c d) :
    Calls Try.prog 32 #[.agg #[.int .i64 a, .int .i64 b, .int .i64 c, .int .i64 d], .agg #[.int .i64 n, .int .i64 m]] w
      fun x w' => x = .returned (pitchR 0 0 0 0 2) ∧ Below w.heap.size w w' := by
  have HE : Hid (pitchErr a b c d = 2) := if_neg hp
  clear hp
  have L0 := hide (Lv.start w)
  go_enter Try.func32, Try.ntmps32
  go_wp2_with fail
  refine Lv.call (checkPitch_any a b c d _) (((L0.out.put _ _).put _ _).put _ _) ?_
  intro w2 L2'
  have L2 := hide L2'
  have F2 := L2'.at
  clear L2'
  simp only [AllAt, CellsAt, updL, List.map, Nat.zero_add, Nat.reduceAdd, and_true, World.size_alloc, World.heap_drewN, heap_drew, size_set, Nat.add_eq_left, Nat.left_eq_add, Nat.add_right_cancel_iff, Nat.reduceEqDiff, Nat.one_ne_zero, Nat.succ_ne_zero, Nat.zero_ne_one, reduceIte, List.set_cons_zero, List.set_cons_succ] at F2
  rw [HE.out]
  go_wp2
  refine bodyPost_ret (v := pitchR 0 0 0 0 2) (by simp [results, Try.results32, go_sem, F2, pitchR]) rfl ⟨rfl, ?_⟩
  repeat (first | exact L2.out.below | refine Below.setCell ?_ (by first | omega | (simp; done) | (simp; omega)) _ | refine Below.alloc ?_ (by first | omega | (simp; done) | (simp; omega)) _ | refine below_drewN ?_ _ | refine Below.drew ?_)

set_option maxHeartbeats 1000000 in
set_option maxRecDepth 100000 in
theorem power_badf (a b c d n m E : Int) (w : World) (hn : -9223372036854775808 ≤ n ∧ n ≤ 9223372036854775807) (hm : -9223372036854775808 ≤ m ∧ m ≤ 9223372036854775807) (hp : okP a b c d) (hE : fracErr n m = E) (he : E = 2 ∨ E = 3) :
    Calls Try.prog 32 #[.agg #[.int .i64 a, .int .i64 b, .int .i64 c, .int .i64 d], .agg #[.int .i64 n, .int .i64 m]] w
      fun x w' => x = .returned (pitchR 0 0 0 0 E) ∧ Below w.heap.size w w' := by
  have HP : Hid (pitchErr a b c d = 0) := if_pos hp
  have HE := hide hE
  clear hp hE
  have L0 := hide (Lv.start w)
  go_enter Try.func32, Try.ntmps32
  go_wp2_with fail
  refine Lv.call (checkPitch_any a b c d _) (((L0.out.put _ _).put _ _).put _ _) ?_
  intro w2 L2'
  have L2 := hide L2'
  have F2 := L2'.at
  clear L2'
  simp only [AllAt, CellsAt, updL, List.map, Nat.zero_add, Nat.reduceAdd, and_true, World.size_alloc, World.heap_drewN, heap_drew, size_set, Nat.add_eq_left, Nat.left_eq_add, Nat.add_right_cancel_iff, Nat.reduceEqDiff, Nat.one_ne_zero, Nat.succ_ne_zero, Nat.zero_ne_one, reduceIte, List.set_cons_zero, List.set_cons_succ] at F2
  rw [HP.out]
  go_wp2_with fail
  refine Lv.call (checkFrac_any n m _ hn hm) L2.out ?_
  intro w3 L3'
  have L3 := hide L3'
  have F3 := L3'.at
  clear L3' F2
  simp only [AllAt, CellsAt, updL, List.map, Nat.zero_add, Nat.reduceAdd, and_true, World.size_alloc, World.heap_drewN, heap_drew, size_set, Nat.add_eq_left, Nat.left_eq_add, Nat.add_right_cancel_iff, Nat.reduceEqDiff, Nat.one_ne_zero, Nat.succ_ne_zero, Nat.zero_ne_one, reduceIte, List.set_cons_zero, List.set_cons_succ] at F3
  rw [HE.out]
  rcases he with rfl | rfl
  · go_wp2
    refine bodyPost_ret (v := pitchR 0 0 0 0 2) (by simp [results, Try.results32, go_sem, F3, pitchR]) rfl ⟨rfl, ?_⟩
    repeat (first | exact L3.out.below | refine Below.setCell ?_ (by first | omega | (simp; done) | (simp; omega)) _ | refine Below.alloc ?_ (by first | omega | (simp; done) | (simp; omega)) _ | refine below_drewN ?_ _ | refine Below.drew ?_)
  · go_wp2
    refine bodyPost_ret (v := pitchR 0 0 0 0 3) (by simp [results, Try.results32, go_sem, F3, pitchR]) rfl ⟨rfl, ?_⟩
    repeat (first | exact L3.out.below | refine Below.setCell ?_ (by first | omega | (simp; done) | (simp; omega)) _ | refine Below.alloc ?_ (by first | omega | (simp; done) | (simp; omega)) _ | refine below_drewN ?_ _ | refine Below.drew ?_)

set_option maxHeartbeats 1000000 in
set_option maxRecDepth 100000 in
theorem power_ok (a b c d n m : Int) (w : World) (hp : okP a b c d) (hf : okF n m) :
    Calls Try.prog 32 #[.agg #[.int .i64 a, .int .i64 b, .int .i64 c, .int .i64 d], .agg #[.int .i64 n, .int .i64 m]] w
      fun x w' => x = .returned (pitchR (p2 (a * n) (b * n) (c * n) (d * m)) (p3 (a * n) (b * n) (c * n) (d * m)) (p5 (a * n) (b * n) (c * n) (d * m)) (pd (a * n) (b * n) (c * n) (d * m)) (pe (a * n) (b * n) (c * n) (d * m))) ∧ Below w.heap.size w w' := by
  have HP : Hid (pitchErr a b c d = 0) := if_pos hp
  have HE : Hid (fracErr n m = 0) := (if_pos hf.1).trans (if_pos hf)
  obtain ⟨hd, ha, hb, hc⟩ := hp
  obtain ⟨⟨hm1, _⟩, hn, hm2⟩ := hf
  have f1 := pw_facts ha hn
  have f2 := pw_facts hb hn
  have f3 := pw_facts hc hn
  have f4 := pwd_facts hd ⟨hm1, hm2⟩
  have W1 : IntKind.i64.wrap (a * n) = a * n := by rw [IntKind.wrap_i64]; omega
  have W2 : IntKind.i64.wrap (b * n) = b * n := by rw [IntKind.wrap_i64]; omega
  have W3 : IntKind.i64.wrap (c * n) = c * n := by rw [IntKind.wrap_i64]; omega
  clear ha hb hc
  have L0 := hide (Lv.start w)
  go_enter Try.func32, Try.ntmps32
  go_wp2_with fail
  refine Lv.call (checkPitch_any a b c d _) (((L0.out.put _ _).put _ _).put _ _) ?_
  intro w2 L2'
  have L2 := hide L2'
  have F2 := L2'.at
  clear L2'
  simp only [AllAt, CellsAt, updL, List.map, Nat.zero_add, Nat.reduceAdd, and_true, World.size_alloc, World.heap_drewN, heap_drew, size_set, Nat.add_eq_left, Nat.left_eq_add, Nat.add_right_cancel_iff, Nat.reduceEqDiff, Nat.one_ne_zero, Nat.succ_ne_zero, Nat.zero_ne_one, reduceIte, List.set_cons_zero, List.set_cons_succ] at F2
  rw [HP.out]
  go_wp2_with fail
  refine Lv.call (checkFrac_any n m _ (by omega) (by omega)) L2.out ?_
  intro w1 L1'
  have L1 := hide L1'
  have F1 := L1'.at
  clear L1' F2
  simp only [AllAt, CellsAt, updL, List.map, Nat.zero_add, Nat.reduceAdd, and_true, World.size_alloc, World.heap_drewN, heap_drew, size_set, Nat.add_eq_left, Nat.left_eq_add, Nat.add_right_cancel_iff, Nat.reduceEqDiff, Nat.one_ne_zero, Nat.succ_ne_zero, Nat.zero_ne_one, reduceIte, List.set_cons_zero, List.set_cons_succ] at F1
  rw [HE.out]
  go_wp2_with fail
  refine Lv.call (exponentsOf_any a b c d _) L1.out ?_
  intro w3 L3'
  have L3 := hide L3'
  have F3 := L3'.at
  clear L3'
  simp only [AllAt, CellsAt, updL, List.map, Nat.zero_add, Nat.reduceAdd, and_true, World.size_alloc, World.heap_drewN, heap_drew, size_set, Nat.add_eq_left, Nat.left_eq_add, Nat.add_right_cancel_iff, Nat.reduceEqDiff, Nat.one_ne_zero, Nat.succ_ne_zero, Nat.zero_ne_one, reduceIte, List.set_cons_zero, List.set_cons_succ] at F3
  have n1 : ¬ w.heap.size = w3.heap.size := by omega
  have n2 : ¬ w.heap.size + 1 = w3.heap.size := by omega
  have n3 : ¬ w.heap.size + 1 + 1 = w3.heap.size := by omega
  have m1 : ¬ w3.heap.size = w.heap.size := by omega
  have m2 : ¬ w3.heap.size = w.heap.size + 1 := by omega
  have m3 : ¬ w3.heap.size = w.heap.size + 1 + 1 := by omega
  have z3 : w.heap.size ≤ w3.heap.size := by omega
  clear F1 L1 L2
  go_wp2
  go_loopw [24] (fun i wr => (i = .int .i64 0 ∧ Hid (Lv w wr [(w3.heap.size, 90, [.int .i64 a, .int .i64 b, .int .i64 c]), (w.heap.size + 1 + 1, 47, [.int .i64 0, .int .i64 0, .int .i64 0, .int .i64 0]), (w.heap.size + 1, 23, [.int .i64 n, .int .i64 m]), (w.heap.size, 47, [.int .i64 a, .int .i64 b, .int .i64 c, .int .i64 d])])) ∨
    (i = .int .i64 1 ∧ Hid (Lv w wr [(w3.heap.size, 90, [.int .i64 (a * n), .int .i64 b, .int .i64 c]), (w.heap.size + 1 + 1, 47, [.int .i64 0, .int .i64 0, .int .i64 0, .int .i64 0]), (w.heap.size + 1, 23, [.int .i64 n, .int .i64 m]), (w.heap.size, 47, [.int .i64 a, .int .i64 b, .int .i64 c, .int .i64 d])])) ∨
    (i = .int .i64 2 ∧ Hid (Lv w wr [(w3.heap.size, 90, [.int .i64 (a * n), .int .i64 (b * n), .int .i64 c]), (w.heap.size + 1 + 1, 47, [.int .i64 0, .int .i64 0, .int .i64 0, .int .i64 0]), (w.heap.size + 1, 23, [.int .i64 n, .int .i64 m]), (w.heap.size, 47, [.int .i64 a, .int .i64 b, .int .i64 c, .int .i64 d])])) ∨
    (i = .int .i64 3 ∧ Hid (Lv w wr [(w3.heap.size, 90, [.int .i64 (a * n), .int .i64 (b * n), .int .i64 (c * n)]), (w.heap.size + 1 + 1, 47, [.int .i64 0, .int .i64 0, .int .i64 0, .int .i64 0]), (w.heap.size + 1, 23, [.int .i64 n, .int .i64 m]), (w.heap.size, 47, [.int .i64 a, .int .i64 b, .int .i64 c, .int .i64 d])]))) (fun i _ => 3 - (intOf i).toNat)
  case atStart => exact Or.inl ⟨rfl, hide (by simpa using L3.out.put _ _)⟩
  case round =>
    clear F3 L3
    rcases hrel with ⟨rfl, L1⟩ | ⟨rfl, L1⟩ | ⟨rfl, L1⟩ | ⟨rfl, L1⟩
    · have F1 := L1.out.at
      simp only [AllAt, CellsAt, updL, List.map, Nat.zero_add, Nat.reduceAdd, and_true, World.size_alloc, World.heap_drewN, heap_drew, size_set, Nat.add_eq_left, Nat.left_eq_add, Nat.add_right_cancel_iff, Nat.reduceEqDiff, Nat.one_ne_zero, Nat.succ_ne_zero, Nat.zero_ne_one, reduceIte, List.set_cons_zero, List.set_cons_succ] at F1
      go_wp2
      go_region
      go_wp2
      go_roundw
      case rel =>
        have h9 := (L1.out.set w3.heap.size 0 (.int .i64 (a * n)) (by omega)).drew
        refine Or.inr (Or.inl ⟨rfl, hide ?_⟩)
        simpa [updL, n1, n2, n3] using h9
      case measure => simp [intOf]
    · have F1 := L1.out.at
      simp only [AllAt, CellsAt, updL, List.map, Nat.zero_add, Nat.reduceAdd, and_true, World.size_alloc, World.heap_drewN, heap_drew, size_set, Nat.add_eq_left, Nat.left_eq_add, Nat.add_right_cancel_iff, Nat.reduceEqDiff, Nat.one_ne_zero, Nat.succ_ne_zero, Nat.zero_ne_one, reduceIte, List.set_cons_zero, List.set_cons_succ] at F1
      go_wp2
      go_region
      go_wp2
      go_roundw
      case rel =>
        have h9 := (L1.out.set w3.heap.size 1 (.int .i64 (b * n)) (by omega)).drew
        refine Or.inr (Or.inr (Or.inl ⟨rfl, hide ?_⟩))
        simpa [updL, n1, n2, n3] using h9
      case measure => simp [intOf]
    · have F1 := L1.out.at
      simp only [AllAt, CellsAt, updL, List.map, Nat.zero_add, Nat.reduceAdd, and_true, World.size_alloc, World.heap_drewN, heap_drew, size_set, Nat.add_eq_left, Nat.left_eq_add, Nat.add_right_cancel_iff, Nat.reduceEqDiff, Nat.one_ne_zero, Nat.succ_ne_zero, Nat.zero_ne_one, reduceIte, List.set_cons_zero, List.set_cons_succ] at F1
      go_wp2
      go_region
      go_wp2
      go_roundw
      case rel =>
        have h9 := (L1.out.set w3.heap.size 2 (.int .i64 (c * n)) (by omega)).drew
        refine Or.inr (Or.inr (Or.inr ⟨rfl, hide ?_⟩))
        simpa [updL, n1, n2, n3] using h9
      case measure => simp [intOf]
    · have F1 := L1.out.at
      simp only [AllAt, CellsAt, updL, List.map, Nat.zero_add, Nat.reduceAdd, and_true, World.size_alloc, World.heap_drewN, heap_drew, size_set, Nat.add_eq_left, Nat.left_eq_add, Nat.add_right_cancel_iff, Nat.reduceEqDiff, Nat.one_ne_zero, Nat.succ_ne_zero, Nat.zero_ne_one, reduceIte, List.set_cons_zero, List.set_cons_succ] at F1
      go_wp2_with fail
      refine Lv.call (pitchOf_any (a * n) (b * n) (c * n) (d * m) _ (by omega) (by omega) (by omega) (by omega)) L1.out ?_
      intro w4 L4'
      have L4 := hide L4'
      have F4 := L4'.at
      clear L4' F1
      simp only [AllAt, CellsAt, updL, List.map, Nat.zero_add, Nat.reduceAdd, and_true, World.size_alloc, World.heap_drewN, heap_drew, size_set, Nat.add_eq_left, Nat.left_eq_add, Nat.add_right_cancel_iff, Nat.reduceEqDiff, Nat.one_ne_zero, Nat.succ_ne_zero, Nat.zero_ne_one, reduceIte, List.set_cons_zero, List.set_cons_succ] at F4
      go_wp2
      refine bodyPost_ret (v := pitchR (p2 (a * n) (b * n) (c * n) (d * m)) (p3 (a * n) (b * n) (c * n) (d * m)) (p5 (a * n) (b * n) (c * n) (d * m)) (pd (a * n) (b * n) (c * n) (d * m)) (pe (a * n) (b * n) (c * n) (d * m))) (by simp [results, Try.results32, go_sem, F4, pitchR]) rfl ⟨rfl, ?_⟩
      repeat (first | exact L4.out.below | refine Below.setCell ?_ (by first | omega | (simp; done) | (simp; omega)) _ | refine Below.alloc ?_ (by first | omega | (simp; done) | (simp; omega)) _ | refine below_drewN ?_ _ | refine Below.drew ?_)

theorem okP_bool (a b c d : Int) : (okP a b c d ∧ decide (okP a b c d) = true) ∨ (¬ okP a b c d ∧ decide (okP a b c d) = false) := by
  by_cases h : okP a b c d
  · exact Or.inl ⟨h, decide_eq_true h⟩
  · exact Or.inr ⟨h, decide_eq_false h⟩
set_option maxHeartbeats 1000000 in
set_option maxRecDepth 100000 in
theorem lawPitches1_any (bk cap : Nat) (a b c d : Int) (w : World) (hB : Blk w bk 47 #[.int .i64 a, .int .i64 b, .int .i64 c, .int .i64 d]) :
    Calls Try.prog 28 #[.slice (some ⟨bk, 0, none⟩) 1 cap] w fun x w' => x = .returned (.int .i64 (pitchErr a b c d)) ∧ Below w.heap.size w w' := by
  have L0 : Hid (Lv w w [(bk, 47, [.int .i64 a, .int .i64 b, .int .i64 c, .int .i64 d])]) := ⟨Below.refl _ _, fun x hx => by simp at hx; subst hx; exact hB⟩
  clear hB
  go_enter Try.func28, Try.ntmps28
  go_wp2
  go_loopw [3] (fun i wr => Hid (Lv w wr [(bk, 47, [.int .i64 a, .int .i64 b, .int .i64 c, .int .i64 d])]) ∧ (i = .int .i64 0 ∨ (i = .int .i64 1 ∧ Hid (okP a b c d)))) (fun i _ => 1 - (intOf i).toNat)
  case atStart => exact ⟨L0, Or.inl rfl⟩
  case round =>
    obtain ⟨L1, rfl | ⟨rfl, HA⟩⟩ := hrel
    · have F1 := L1.out.at
      simp only [AllAt, CellsAt, updL, List.map, Nat.zero_add, Nat.reduceAdd, and_true, World.size_alloc, World.heap_drewN, heap_drew, size_set, Nat.add_eq_left, Nat.left_eq_add, Nat.add_right_cancel_iff, Nat.reduceEqDiff, Nat.one_ne_zero, Nat.succ_ne_zero, Nat.zero_ne_one, reduceIte, List.set_cons_zero, List.set_cons_succ] at F1
      go_wp2_with fail
      refine Lv.call (isPitch_any a b c d _) L1.out ?_
      intro w2 L2'
      have L2 := hide L2'
      have F2 := L2'.at
      clear L2' F1
      simp only [AllAt, CellsAt, updL, List.map, Nat.zero_add, Nat.reduceAdd, and_true, World.size_alloc, World.heap_drewN, heap_drew, size_set, Nat.add_eq_left, Nat.left_eq_add, Nat.add_right_cancel_iff, Nat.reduceEqDiff, Nat.one_ne_zero, Nat.succ_ne_zero, Nat.zero_ne_one, reduceIte, List.set_cons_zero, List.set_cons_succ] at F2
      rcases okP_bool a b c d with ⟨hok, hE⟩ | ⟨hno, hE⟩
      · rw [hE]
        have H := hide hok
        clear hE hok
        go_wp2
        go_roundw
        case rel => exact ⟨L2.out.of (by simp), Or.inr ⟨rfl, H⟩⟩
        case measure => simp [intOf]
      · have HE : Hid (pitchErr a b c d = 2) := if_neg hno
        rw [hE]
        clear hE hno
        go_wp2
        go_ret
        exact ⟨ret_int HE.out.symm, L2.out.below⟩
    · have HE : Hid (pitchErr a b c d = 0) := if_pos HA.out
      go_wp2
      go_ret
      exact ⟨ret_int HE.out.symm, L1.out.below⟩

set_option maxHeartbeats 1000000 in
set_option maxRecDepth 100000 in
theorem lawPitches2_any (bk cap : Nat) (a b c d e f g h : Int) (w : World) (hB : Blk w bk 47 #[.int .i64 a, .int .i64 b, .int .i64 c, .int .i64 d, .int .i64 e, .int .i64 f, .int .i64 g, .int .i64 h]) :
    Calls Try.prog 28 #[.slice (some ⟨bk, 0, none⟩) 2 cap] w fun x w' => x = .returned (.int .i64 (pitchesErr a b c d e f g h)) ∧ Below w.heap.size w w' := by
  have L0 : Hid (Lv w w [(bk, 47, [.int .i64 a, .int .i64 b, .int .i64 c, .int .i64 d, .int .i64 e, .int .i64 f, .int .i64 g, .int .i64 h])]) := ⟨Below.refl _ _, fun x hx => by simp at hx; subst hx; exact hB⟩
  clear hB
  go_enter Try.func28, Try.ntmps28
  go_wp2
  go_loopw [3] (fun i wr => Hid (Lv w wr [(bk, 47, [.int .i64 a, .int .i64 b, .int .i64 c, .int .i64 d, .int .i64 e, .int .i64 f, .int .i64 g, .int .i64 h])]) ∧ (i = .int .i64 0 ∨ (i = .int .i64 1 ∧ Hid (okP a b c d)) ∨ (i = .int .i64 2 ∧ Hid (okP a b c d) ∧ Hid (okP e f g h)))) (fun i _ => 2 - (intOf i).toNat)
  case atStart => exact ⟨L0, Or.inl rfl⟩
  case round =>
    obtain ⟨L1, rfl | ⟨rfl, HA⟩ | ⟨rfl, HA, HC⟩⟩ := hrel
    · have F1 := L1.out.at
      simp only [AllAt, CellsAt, updL, List.map, Nat.zero_add, Nat.reduceAdd, and_true, World.size_alloc, World.heap_drewN, heap_drew, size_set, Nat.add_eq_left, Nat.left_eq_add, Nat.add_right_cancel_iff, Nat.reduceEqDiff, Nat.one_ne_zero, Nat.succ_ne_zero, Nat.zero_ne_one, reduceIte, List.set_cons_zero, List.set_cons_succ] at F1
      go_wp2_with fail
      refine Lv.call (isPitch_any a b c d _) L1.out ?_
      intro w2 L2'
      have L2 := hide L2'
      have F2 := L2'.at
      clear L2' F1
      simp only [AllAt, CellsAt, updL, List.map, Nat.zero_add, Nat.reduceAdd, and_true, World.size_alloc, World.heap_drewN, heap_drew, size_set, Nat.add_eq_left, Nat.left_eq_add, Nat.add_right_cancel_iff, Nat.reduceEqDiff, Nat.one_ne_zero, Nat.succ_ne_zero, Nat.zero_ne_one, reduceIte, List.set_cons_zero, List.set_cons_succ] at F2
      rcases okP_bool a b c d with ⟨hok, hE⟩ | ⟨hno, hE⟩
      · rw [hE]
        have H := hide hok
        clear hE hok
        go_wp2
        go_roundw
        case rel => exact ⟨L2.out.of (by simp), Or.inr (Or.inl ⟨rfl, H⟩)⟩
        case measure => simp [intOf]
      · have HE : Hid (pitchesErr a b c d e f g h = 2) := if_neg fun x => hno x.1
        rw [hE]
        clear hE hno
        go_wp2
        go_ret
        exact ⟨ret_int HE.out.symm, L2.out.below⟩
    · have F1 := L1.out.at
      simp only [AllAt, CellsAt, updL, List.map, Nat.zero_add, Nat.reduceAdd, and_true, World.size_alloc, World.heap_drewN, heap_drew, size_set, Nat.add_eq_left, Nat.left_eq_add, Nat.add_right_cancel_iff, Nat.reduceEqDiff, Nat.one_ne_zero, Nat.succ_ne_zero, Nat.zero_ne_one, reduceIte, List.set_cons_zero, List.set_cons_succ] at F1
      go_wp2_with fail
      refine Lv.call (isPitch_any e f g h _) L1.out ?_
      intro w2 L2'
      have L2 := hide L2'
      have F2 := L2'.at
      clear L2' F1
      simp only [AllAt, CellsAt, updL, List.map, Nat.zero_add, Nat.reduceAdd, and_true, World.size_alloc, World.heap_drewN, heap_drew, size_set, Nat.add_eq_left, Nat.left_eq_add, Nat.add_right_cancel_iff, Nat.reduceEqDiff, Nat.one_ne_zero, Nat.succ_ne_zero, Nat.zero_ne_one, reduceIte, List.set_cons_zero, List.set_cons_succ] at F2
      rcases okP_bool e f g h with ⟨hok, hE⟩ | ⟨hno, hE⟩
      · rw [hE]
        have H := hide hok
        clear hE hok
        go_wp2
        go_roundw
        case rel => exact ⟨L2.out.of (by simp), Or.inr (Or.inr ⟨rfl, HA, H⟩)⟩
        case measure => simp [intOf]
      · have HE : Hid (pitchesErr a b c d e f g h = 2) := if_neg fun x => hno x.2
        rw [hE]
        clear hE hno
        go_wp2
        go_ret
        exact ⟨ret_int HE.out.symm, L2.out.below⟩
    · have HE : Hid (pitchesErr a b c d e f g h = 0) := if_pos ⟨HA.out, HC.out⟩
      go_wp2
      go_ret
      exact ⟨ret_int HE.out.symm, L1.out.below⟩
end Go.Proofs.Ytfmonpjoadjimaa
