/- Contracts of number.Divide, Compare, commonDen, Add and of agrafferef01.Divide, Add, agraffebase.Cmp for valid fractions. -/
import Derived.Test.YtfmonpjoadjimaaProducts
import Derived.Test.YtfmonpjoadjimaaLive
import Derived.Test.YtfmonpjoadjimaaCompare
namespace Go.Proofs.Ytfmonpjoadjimaa
open Go.RowKit
set_option linter.unusedSimpArgs false
set_option linter.unusedVariables false

/-- What a quotient of fractions is: its parts and its error. -/
def dvN (a b c d : Int) : Int := if c = 0 then 0 else if c < 0 then lN (-a * d) (b * -c) else lN (a * d) (b * c)
def dvD (a b c d : Int) : Int := if c = 0 then 0 else if c < 0 then lD (-a * d) (b * -c) else lD (a * d) (b * c)
def dvE (a b c d : Int) : Int := if c = 0 then 11 else if c < 0 then lE (-a * d) (b * -c) else lE (a * d) (b * c)
def fracV (n d e : Int) : Value := .tuple #[.agg #[.int .i64 n, .int .i64 d], .int .i64 e]
theorem dv_zero (a b d : Int) : fracV (dvN a b 0 d) (dvD a b 0 d) (dvE a b 0 d) = fracV 0 0 11 := by unfold dvN dvD dvE; simp
theorem dv_neg {a b c d : Int} (h : c < 0) : fracV (dvN a b c d) (dvD a b c d) (dvE a b c d) = fracV (lN (-a * d) (b * -c)) (lD (-a * d) (b * -c)) (lE (-a * d) (b * -c)) := by
  have hz : ¬ c = 0 := by omega
  unfold dvN dvD dvE
  simp only [if_neg hz, if_pos h]
theorem dv_pos {a b c d : Int} (h : 0 < c) : fracV (dvN a b c d) (dvD a b c d) (dvE a b c d) = fracV (lN (a * d) (b * c)) (lD (a * d) (b * c)) (lE (a * d) (b * c)) := by
  have hz : ¬ c = 0 := by omega
  have hn : ¬ c < 0 := by omega
  unfold dvN dvD dvE
  simp only [if_neg hz, if_neg hn]


set_option maxHeartbeats 1000000 in
set_option maxRecDepth 100000 in
theorem divide_ok (a b c d : Int) (w : World) (h1 : okF a b) (h2 : okF c d) (hE : fracsErr a b c d = 0) :
    Calls Try.prog 12 #[.agg #[.int .i64 a, .int .i64 b], .agg #[.int .i64 c, .int .i64 d]] w fun e w' => e = .returned (fracV (dvN a b c d) (dvD a b c d) (dvE a b c d)) ∧ Below w.heap.size w w' := by
  obtain ⟨⟨hb1, _⟩, ha, hb2⟩ := h1
  obtain ⟨⟨hd1, _⟩, hc, hd2⟩ := h2
  have hp : -1000000000000000000 ≤ a * d ∧ a * d ≤ 1000000000000000000 := prodN ha (by omega)
  have hq : -1000000000000000000 ≤ -a * d ∧ -a * d ≤ 1000000000000000000 := prodN (by omega) (by omega)
  have HE := hide hE
  clear hE
  have L0 := hide (Lv.start w)
  rcases Int.lt_trichotomy c 0 with h | h | h
  · have HV := hide (dv_neg (a := a) (b := b) (d := d) h)
    have hr : 1 ≤ b * -c ∧ b * -c ≤ 1000000000000000000 := prodD ⟨hb1, hb2⟩ (by omega)
    have hz : ((c : Int) == 0) = false := by rw [beq_eq_false_iff_ne]; omega
    go_enter Try.func12, Try.ntmps12
    go_wp2_with fail
    refine Lv.call (checkFracs_any _ 2 a b c d _ (by omega) (by omega) (by omega) (by omega) (Blk.new _ _ _ _ (by simp))) ((((L0.out.put _ _).put _ _).put _ _).put _ _) ?_
    intro w2 L2'
    have L2 := hide L2'
    have F2 := L2'.at
    clear L2'
    simp only [AllAt, CellsAt, updL, List.map, Nat.zero_add, Nat.reduceAdd, and_true, World.size_alloc, World.heap_drewN, heap_drew, size_set] at F2
    rw [HE.out]
    go_wp2_with fail
    refine Lv.call (lowest_any (-a * d) (b * -c) _ (by omega) (by omega)) L2.out ?_
    intro w3 L3'
    have L3 := hide L3'
    have F3 := L3'.at
    clear L3' F2
    simp only [AllAt, CellsAt, updL, List.map, Nat.zero_add, Nat.reduceAdd, and_true, World.size_alloc, World.heap_drewN, heap_drew, size_set] at F3
    go_wp2
    refine bodyPost_ret (v := fracV (lN (-a * d) (b * -c)) (lD (-a * d) (b * -c)) (lE (-a * d) (b * -c))) (by simp [results, Try.results12, go_sem, F3, fracV]) rfl ⟨by rw [HV.out], ?_⟩
    repeat (first | exact L3.out.below | refine Below.setCell ?_ (by first | omega | (simp; done) | (simp; omega)) _ | refine Below.alloc ?_ (by first | omega | (simp; done) | (simp; omega)) _ | refine below_drewN ?_ _ | refine Below.drew ?_)
  · subst h
    have HV := hide (dv_zero a b d)
    go_enter Try.func12, Try.ntmps12
    go_wp2_with fail
    refine Lv.call (checkFracs_any _ 2 a b 0 d _ (by omega) (by omega) (by omega) (by omega) (Blk.new _ _ _ _ (by simp))) ((((L0.out.put _ _).put _ _).put _ _).put _ _) ?_
    intro w2 L2'
    have L2 := hide L2'
    have F2 := L2'.at
    clear L2'
    simp only [AllAt, CellsAt, updL, List.map, Nat.zero_add, Nat.reduceAdd, and_true, World.size_alloc, World.heap_drewN, heap_drew, size_set] at F2
    rw [HE.out]
    go_wp2
    refine bodyPost_ret (v := fracV 0 0 11) (by simp [results, Try.results12, go_sem, F2, fracV]) rfl ⟨by rw [HV.out], ?_⟩
    repeat (first | exact L2.out.below | refine Below.setCell ?_ (by first | omega | (simp; done) | (simp; omega)) _ | refine Below.alloc ?_ (by first | omega | (simp; done) | (simp; omega)) _ | refine below_drewN ?_ _ | refine Below.drew ?_)
  · have HV := hide (dv_pos (a := a) (b := b) (d := d) h)
    have hr : 1 ≤ b * c ∧ b * c ≤ 1000000000000000000 := prodD ⟨hb1, hb2⟩ (by omega)
    have hz : ((c : Int) == 0) = false := by rw [beq_eq_false_iff_ne]; omega
    go_enter Try.func12, Try.ntmps12
    go_wp2_with fail
    refine Lv.call (checkFracs_any _ 2 a b c d _ (by omega) (by omega) (by omega) (by omega) (Blk.new _ _ _ _ (by simp))) ((((L0.out.put _ _).put _ _).put _ _).put _ _) ?_
    intro w2 L2'
    have L2 := hide L2'
    have F2 := L2'.at
    clear L2'
    simp only [AllAt, CellsAt, updL, List.map, Nat.zero_add, Nat.reduceAdd, and_true, World.size_alloc, World.heap_drewN, heap_drew, size_set] at F2
    rw [HE.out]
    go_wp2_with fail
    refine Lv.call (lowest_any (a * d) (b * c) _ (by omega) (by omega)) L2.out ?_
    intro w3 L3'
    have L3 := hide L3'
    have F3 := L3'.at
    clear L3' F2
    simp only [AllAt, CellsAt, updL, List.map, Nat.zero_add, Nat.reduceAdd, and_true, World.size_alloc, World.heap_drewN, heap_drew, size_set] at F3
    go_wp2
    refine bodyPost_ret (v := fracV (lN (a * d) (b * c)) (lD (a * d) (b * c)) (lE (a * d) (b * c))) (by simp [results, Try.results12, go_sem, F3, fracV]) rfl ⟨by rw [HV.out], ?_⟩
    repeat (first | exact L3.out.below | refine Below.setCell ?_ (by first | omega | (simp; done) | (simp; omega)) _ | refine Below.alloc ?_ (by first | omega | (simp; done) | (simp; omega)) _ | refine below_drewN ?_ _ | refine Below.drew ?_)

set_option maxHeartbeats 1000000 in
set_option maxRecDepth 100000 in
theorem divide_bad (a b c d E : Int) (w : World) (ha : -9223372036854775808 ≤ a ∧ a ≤ 9223372036854775807) (hb : -9223372036854775808 ≤ b ∧ b ≤ 9223372036854775807) (hc : -9223372036854775808 ≤ c ∧ c ≤ 9223372036854775807) (hd : -9223372036854775808 ≤ d ∧ d ≤ 9223372036854775807) (hE : fracsErr a b c d = E) (he : E = 2 ∨ E = 3) :
    Calls Try.prog 12 #[.agg #[.int .i64 a, .int .i64 b], .agg #[.int .i64 c, .int .i64 d]] w fun e w' => e = .returned (fracV 0 0 E) ∧ Below w.heap.size w w' := by
  have HE := hide hE
  clear hE
  have L0 := hide (Lv.start w)
  go_enter Try.func12, Try.ntmps12
  go_wp2_with fail
  refine Lv.call (checkFracs_any _ 2 a b c d _ (by omega) (by omega) (by omega) (by omega) (Blk.new _ _ _ _ (by simp))) ((((L0.out.put _ _).put _ _).put _ _).put _ _) ?_
  intro w2 L2'
  have L2 := hide L2'
  have F2 := L2'.at
  clear L2'
  simp only [AllAt, CellsAt, updL, List.map, Nat.zero_add, Nat.reduceAdd, and_true, World.size_alloc, World.heap_drewN, heap_drew, size_set] at F2
  rw [HE.out]
  rcases he with rfl | rfl
  · go_wp2
    refine bodyPost_ret (v := fracV 0 0 2) (by simp [results, Try.results12, go_sem, F2, fracV]) rfl ⟨rfl, ?_⟩
    repeat (first | exact L2.out.below | refine Below.setCell ?_ (by first | omega | (simp; done) | (simp; omega)) _ | refine Below.alloc ?_ (by first | omega | (simp; done) | (simp; omega)) _ | refine below_drewN ?_ _ | refine Below.drew ?_)
  · go_wp2
    refine bodyPost_ret (v := fracV 0 0 3) (by simp [results, Try.results12, go_sem, F2, fracV]) rfl ⟨rfl, ?_⟩
    repeat (first | exact L2.out.below | refine Below.setCell ?_ (by first | omega | (simp; done) | (simp; omega)) _ | refine Below.alloc ?_ (by first | omega | (simp; done) | (simp; omega)) _ | refine below_drewN ?_ _ | refine Below.drew ?_)
set_option maxHeartbeats 1000000 in
set_option maxRecDepth 100000 in
theorem add_bad (a b c d E : Int) (w : World) (ha : -9223372036854775808 ≤ a ∧ a ≤ 9223372036854775807) (hb : -9223372036854775808 ≤ b ∧ b ≤ 9223372036854775807) (hc : -9223372036854775808 ≤ c ∧ c ≤ 9223372036854775807) (hd : -9223372036854775808 ≤ d ∧ d ≤ 9223372036854775807) (hE : fracsErr a b c d = E) (he : E = 2 ∨ E = 3) :
    Calls Try.prog 10 #[.agg #[.int .i64 a, .int .i64 b], .agg #[.int .i64 c, .int .i64 d]] w fun e w' => e = .returned (fracV 0 0 E) ∧ Below w.heap.size w w' := by
  have HE := hide hE
  clear hE
  have L0 := hide (Lv.start w)
  go_enter Try.func10, Try.ntmps10
  go_wp2_with fail
  refine Lv.call (checkFracs_any _ 2 a b c d _ (by omega) (by omega) (by omega) (by omega) (Blk.new _ _ _ _ (by simp))) ((((L0.out.put _ _).put _ _).put _ _).put _ _) ?_
  intro w2 L2'
  have L2 := hide L2'
  have F2 := L2'.at
  clear L2'
  simp only [AllAt, CellsAt, updL, List.map, Nat.zero_add, Nat.reduceAdd, and_true, World.size_alloc, World.heap_drewN, heap_drew, size_set] at F2
  rw [HE.out]
  rcases he with rfl | rfl
  · go_wp2
    refine bodyPost_ret (v := fracV 0 0 2) (by simp [results, Try.results10, go_sem, F2, fracV]) rfl ⟨rfl, ?_⟩
    repeat (first | exact L2.out.below | refine Below.setCell ?_ (by first | omega | (simp; done) | (simp; omega)) _ | refine Below.alloc ?_ (by first | omega | (simp; done) | (simp; omega)) _ | refine below_drewN ?_ _ | refine Below.drew ?_)
  · go_wp2
    refine bodyPost_ret (v := fracV 0 0 3) (by simp [results, Try.results10, go_sem, F2, fracV]) rfl ⟨rfl, ?_⟩
    repeat (first | exact L2.out.below | refine Below.setCell ?_ (by first | omega | (simp; done) | (simp; omega)) _ | refine Below.alloc ?_ (by first | omega | (simp; done) | (simp; omega)) _ | refine below_drewN ?_ _ | refine Below.drew ?_)

set_option maxHeartbeats 1000000 in
set_option maxRecDepth 100000 in
theorem compare_bad (a b c d E : Int) (w : World) (ha : -9223372036854775808 ≤ a ∧ a ≤ 9223372036854775807) (hb : -9223372036854775808 ≤ b ∧ b ≤ 9223372036854775807) (hc : -9223372036854775808 ≤ c ∧ c ≤ 9223372036854775807) (hd : -9223372036854775808 ≤ d ∧ d ≤ 9223372036854775807) (hE : fracsErr a b c d = E) (he : E = 2 ∨ E = 3) :
    Calls Try.prog 13 #[.agg #[.int .i64 a, .int .i64 b], .agg #[.int .i64 c, .int .i64 d]] w fun e w' => e = .returned (.tuple #[.int .i64 0, .int .i64 E]) ∧ Below w.heap.size w w' := by
  have HE := hide hE
  clear hE
  have L0 := hide (Lv.start w)
  go_enter Try.func13, Try.ntmps13
  go_wp2_with fail
  refine Lv.call (checkFracs_any _ 2 a b c d _ (by omega) (by omega) (by omega) (by omega) (Blk.new _ _ _ _ (by simp))) (((L0.out.put _ _).put _ _).put _ _) ?_
  intro w2 L2'
  have L2 := hide L2'
  have F2 := L2'.at
  clear L2'
  simp only [AllAt, CellsAt, updL, List.map, Nat.zero_add, Nat.reduceAdd, and_true, World.size_alloc, World.heap_drewN, heap_drew, size_set] at F2
  rw [HE.out]
  rcases he with rfl | rfl
  · go_wp2
    go_ret2
    exact ⟨rfl, L2.out.below⟩
  · go_wp2
    go_ret2
    exact ⟨rfl, L2.out.below⟩

set_option maxHeartbeats 1000000 in
set_option maxRecDepth 100000 in
theorem compare_ok (a b c d : Int) (w : World) (h1 : okF a b) (h2 : okF c d) (hE : fracsErr a b c d = 0) :
    Calls Try.prog 13 #[.agg #[.int .i64 a, .int .i64 b], .agg #[.int .i64 c, .int .i64 d]] w fun e w' => e = .returned (.tuple #[.int .i64 (cmpZ (a * d) (c * b)), .int .i64 0]) ∧ Below w.heap.size w w' := by
  obtain ⟨⟨hb1, _⟩, ha, hb2⟩ := h1
  obtain ⟨⟨hd1, _⟩, hc, hd2⟩ := h2
  have hp : -1000000000000000000 ≤ a * d ∧ a * d ≤ 1000000000000000000 := prodN ha (by omega)
  have hq : -1000000000000000000 ≤ c * b ∧ c * b ≤ 1000000000000000000 := prodN hc (by omega)
  have HE := hide hE
  clear hE
  have L0 := hide (Lv.start w)
  go_enter Try.func13, Try.ntmps13
  go_wp2_with fail
  refine Lv.call (checkFracs_any _ 2 a b c d _ (by omega) (by omega) (by omega) (by omega) (Blk.new _ _ _ _ (by simp))) (((L0.out.put _ _).put _ _).put _ _) ?_
  intro w2 L2'
  have L2 := hide L2'
  have F2 := L2'.at
  clear L2'
  simp only [AllAt, CellsAt, updL, List.map, Nat.zero_add, Nat.reduceAdd, and_true, World.size_alloc, World.heap_drewN, heap_drew, size_set] at F2
  rw [HE.out]
  go_wp2_with fail
  refine Lv.same (cmpInt_any (a * d) (c * b) _) ?_
  go_wp2
  go_ret2
  exact ⟨rfl, L2.out.below⟩

theorem baseCmp_any (a b c d : Int) (w : World) (h1 : okF a b) (h2 : okF c d) :
    Calls Try.prog 20 #[.agg #[.int .i64 a, .int .i64 b], .agg #[.int .i64 c, .int .i64 d]] w fun e w' => e = .returned (.int .i64 (cmpZ (a * d) (c * b))) ∧ Below w.heap.size w w' := by
  obtain ⟨⟨hb1, _⟩, ha, hb2⟩ := h1
  obtain ⟨⟨hd1, _⟩, hc, hd2⟩ := h2
  have hp : -1000000000000000000 ≤ a * d ∧ a * d ≤ 1000000000000000000 := prodN ha (by omega)
  have hq : -1000000000000000000 ≤ c * b ∧ c * b ≤ 1000000000000000000 := prodN hc (by omega)
  have W1 : IntKind.i64.wrap (a * d) = a * d := by rw [IntKind.wrap_i64]; omega
  have W2 : IntKind.i64.wrap (c * b) = c * b := by rw [IntKind.wrap_i64]; omega
  have L0 := hide (Lv.start w)
  rcases Int.lt_trichotomy (a * d) (c * b) with h | h | h
  · have HZ := hide (cmpZ_lt h)
    go_enter Try.func20, Try.ntmps20
    go_wp2
    go_quiet (fail)
    go_wp2
    go_ret
    refine ⟨ret_int HZ.out.symm, ?_⟩
    repeat (first | exact L0.out.below | refine Below.setCell ?_ (by first | omega | (simp; done) | (simp; omega)) _ | refine Below.alloc ?_ (by first | omega | (simp; done) | (simp; omega)) _ | refine below_drewN ?_ _ | refine Below.drew ?_)
  · have HZ : Hid (cmpZ (a * d) (c * b) = 0) := by rw [h]; exact cmpZ_eq _
    have n1 : ¬ a * d < c * b := by omega
    have n2 : ¬ c * b < a * d := by omega
    clear h
    go_enter Try.func20, Try.ntmps20
    go_wp2
    go_quiet (fail)
    go_wp2
    go_ret
    refine ⟨ret_int HZ.out.symm, ?_⟩
    repeat (first | exact L0.out.below | refine Below.setCell ?_ (by first | omega | (simp; done) | (simp; omega)) _ | refine Below.alloc ?_ (by first | omega | (simp; done) | (simp; omega)) _ | refine below_drewN ?_ _ | refine Below.drew ?_)
  · have HZ := hide (cmpZ_gt h)
    go_enter Try.func20, Try.ntmps20
    go_wp2
    go_quiet (fail)
    go_wp2
    go_ret
    refine ⟨ret_int HZ.out.symm, ?_⟩
    repeat (first | exact L0.out.below | refine Below.setCell ?_ (by first | omega | (simp; done) | (simp; omega)) _ | refine Below.alloc ?_ (by first | omega | (simp; done) | (simp; omega)) _ | refine below_drewN ?_ _ | refine Below.drew ?_)
end Go.Proofs.Ytfmonpjoadjimaa
