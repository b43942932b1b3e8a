/- Contracts of plate's vectors: sums, opposites; the length of a way; a component of a pull. Every bound is a premise of the theorem that bears it. -/
import Derived.Test.YtjfcjclhbnmgcaaPlChk
import Derived.Test.YtjfcjclhbnmgcaaRoot
import Derived.Handy
namespace Go.Proofs.Ytjfcjclhbnmgcaa
open Go.RowKit
set_option linter.unusedVariables false
set_option linter.unusedSimpArgs false

set_option maxHeartbeats 1000000 in
set_option maxRecDepth 100000 in
theorem plOpp_any (x y z : Int) (w : World) (hx : -9223372036854775807 ≤ x ∧ x ≤ 9223372036854775807) (hy : -9223372036854775807 ≤ y ∧ y ≤ 9223372036854775807) (hz : -9223372036854775807 ≤ z ∧ z ≤ 9223372036854775807) :
    Calls Try.prog 74 #[.agg #[.int .i64 x, .int .i64 y, .int .i64 z]] w fun e w' => e = .returned (.agg #[.int .i64 (-x), .int .i64 (-y), .int .i64 (-z)]) ∧ Below w.heap.size w w' := by
  have i0 : ∀ w, (Instr.index 110 (.agg #[.int .i64 x, .int .i64 y, .int .i64 z]) (.int .i64 0)).run Try.prog w = .ok (.int .i64 x) w := fun _ => by kernel_rfl
  have i1 : ∀ w, (Instr.index 110 (.agg #[.int .i64 x, .int .i64 y, .int .i64 z]) (.int .i64 1)).run Try.prog w = .ok (.int .i64 y) w := fun _ => by kernel_rfl
  have i2 : ∀ w, (Instr.index 110 (.agg #[.int .i64 x, .int .i64 y, .int .i64 z]) (.int .i64 2)).run Try.prog w = .ok (.int .i64 z) w := fun _ => by kernel_rfl
  go_enter Try.func74, Try.ntmps74
  go_wp2
  refine wp_loop_rounds 4 ?_
  rw [rounds_succ]
  go_wp2
  rw [rounds_succ]
  go_wp2
  rw [rounds_succ]
  go_wp2
  rw [rounds_succ]
  go_wp2
  refine bodyPost_ret (v := .agg #[.int .i64 (-x), .int .i64 (-y), .int .i64 (-z)]) (by simp [results, Try.results74, go_sem]) rfl ⟨rfl, ?_⟩
  repeat (first | exact Below.refl _ _ | refine Below.setCell ?_ (by simp) _ | refine Below.alloc ?_ (by first | omega | (simp; done) | (simp; omega)) _ | refine below_drewN ?_ _ | refine Below.drew ?_)
set_option maxHeartbeats 1000000 in
set_option maxRecDepth 100000 in
theorem plPlus_any (a b c x y z u v t : Int) (w : World) (hu : IntKind.i64.wrap (a + x) = u) (hv : IntKind.i64.wrap (b + y) = v) (ht : IntKind.i64.wrap (c + z) = t) :
    Calls Try.prog 75 #[.agg #[.int .i64 a, .int .i64 b, .int .i64 c], .agg #[.int .i64 x, .int .i64 y, .int .i64 z]] w fun e w' => e = .returned (.agg #[.int .i64 u, .int .i64 v, .int .i64 t]) ∧ Below w.heap.size w w' := by
  have i0 : ∀ w, (Instr.index 110 (.agg #[.int .i64 x, .int .i64 y, .int .i64 z]) (.int .i64 0)).run Try.prog w = .ok (.int .i64 x) w := fun _ => by kernel_rfl
  have i1 : ∀ w, (Instr.index 110 (.agg #[.int .i64 x, .int .i64 y, .int .i64 z]) (.int .i64 1)).run Try.prog w = .ok (.int .i64 y) w := fun _ => by kernel_rfl
  have i2 : ∀ w, (Instr.index 110 (.agg #[.int .i64 x, .int .i64 y, .int .i64 z]) (.int .i64 2)).run Try.prog w = .ok (.int .i64 z) w := fun _ => by kernel_rfl
  go_enter Try.func75, Try.ntmps75
  go_wp2
  refine wp_loop_rounds 4 ?_
  rw [rounds_succ]
  go_wp2
  rw [rounds_succ]
  go_wp2
  rw [rounds_succ]
  go_wp2
  rw [rounds_succ]
  go_wp2
  refine bodyPost_ret (v := .agg #[.int .i64 u, .int .i64 v, .int .i64 t]) (by simp [results, Try.results75, go_sem]) rfl ⟨rfl, ?_⟩
  repeat (first | exact Below.refl _ _ | refine Below.setCell ?_ (by simp) _ | refine Below.alloc ?_ (by first | omega | (simp; done) | (simp; omega)) _ | refine below_drewN ?_ _ | refine Below.drew ?_)

/-- A hundred times the length of a way, squared. -/
def sq3 (x y z : Int) : Int := (x * x + y * y + z * z) * 10000
theorem sq_in {x : Int} (h : -1000000 ≤ x ∧ x ≤ 1000000) : 0 ≤ x * x ∧ x * x ≤ 1000000000000 := by
  have k := mul_bound (x := x) (y := x) 1000000 1000000 (by omega) (by omega)
  rw [show (1000000 * 1000000 : Nat) = 1000000000000 from rfl] at k
  have : 0 ≤ x * x := by
    rcases Int.le_total 0 x with h | h
    · exact Int.mul_nonneg h h
    · exact Int.mul_nonneg_of_nonpos_of_nonpos h h
  omega
def upR (r : Nat) (s : Int) : Int := if (r : Int) * r < s then r + 1 else r
set_option maxHeartbeats 1000000 in
set_option maxRecDepth 100000 in
theorem plLength_any (x y z : Int) (r : Nat) (w : World) (hx : -1000000 ≤ x ∧ x ≤ 1000000) (hy : -1000000 ≤ y ∧ y ≤ 1000000) (hz : -1000000 ≤ z ∧ z ≤ 1000000) (hr : IsRoot (sq3 x y z).toNat 2 r) :
    Calls Try.prog 102 #[.agg #[.int .i64 x, .int .i64 y, .int .i64 z]] w fun e w' => e = .returned (.tuple #[.agg #[.int .i64 r, .int .i64 (upR r (sq3 x y z))], .int .i64 0]) ∧ Below w.heap.size w w' := by
  obtain ⟨x0, x1⟩ := sq_in hx
  obtain ⟨y0, y1⟩ := sq_in hy
  obtain ⟨z0, z1⟩ := sq_in hz
  have HR := hide hr
  obtain ⟨s, hs⟩ : ∃ s : Nat, s = (sq3 x y z).toNat := ⟨_, rfl⟩
  have hs2 : (x * x + y * y + z * z) * 10000 = (s : Int) := by rw [hs]; unfold sq3; omega
  have hs3 : sq3 x y z = (s : Int) := hs2
  have hs4 : s ≤ 30000000000000000 := by omega
  have hr2 : r * r ≤ s := by
    rcases Nat.eq_zero_or_pos r with h | h
    · subst h; omega
    · have := HR.out.yes h; rw [← hs, Nat.pow_two] at this; exact this
  have hr3 : (0 : Int) ≤ (r : Int) * r ∧ (r : Int) * r ≤ 30000000000000000 := by
    have : ((r * r : Nat) : Int) = (r : Int) * r := Int.natCast_mul r r
    omega
  have hr4 : (r : Int) ≤ 30000000000000000 := by
    have := HR.out.le; omega
  have HS := hide hs
  have HS2 := hide hs2
  have HU : Hid (upR r (sq3 x y z) = if (r : Int) * r < (s : Int) then (r : Int) + 1 else r) := by unfold upR; rw [hs3]; rfl
  clear hs hs2 hs3 hr2 hr
  have i0 : ∀ w, (Instr.index 110 (.agg #[.int .i64 x, .int .i64 y, .int .i64 z]) (.int .i64 0)).run Try.prog w = .ok (.int .i64 x) w := fun _ => by kernel_rfl
  have i1 : ∀ w, (Instr.index 110 (.agg #[.int .i64 x, .int .i64 y, .int .i64 z]) (.int .i64 1)).run Try.prog w = .ok (.int .i64 y) w := fun _ => by kernel_rfl
  have i2 : ∀ w, (Instr.index 110 (.agg #[.int .i64 x, .int .i64 y, .int .i64 z]) (.int .i64 2)).run Try.prog w = .ok (.int .i64 z) w := fun _ => by kernel_rfl
  have L0 := hide (Lv.start w)
  go_enter Try.func102, Try.ntmps102
  go_wp2
  refine wp_loop_rounds 4 ?_
  rw [rounds_succ]
  go_wp2
  rw [rounds_succ]
  go_wp2
  rw [rounds_succ]
  go_wp2
  rw [rounds_succ]
  go_wp2_with fail
  rw [HS2.out]
  refine (root_any s 2 _ (by omega) (by omega) (by omega)).mono ?_
  rintro e w1 ⟨q, rfl, hq, hb⟩
  obtain rfl : r = q := by rw [HS.out] at hq; exact HR.out.unique hq
  have L1 := hide (((L0.out.put _ _).put _ _).kept hb)
  have F1 := L1.out.at
  simp only [AllAt, CellsAt, updL, List.map, Nat.zero_add, Nat.reduceAdd, and_true, World.size_alloc, World.heap_drewN, heap_drew, size_set, Nat.add_eq_left, Nat.left_eq_add, Nat.add_right_cancel_iff, ne_up2, ne_dn2, ne_up3, ne_dn3, ne_up4, ne_dn4, Nat.reduceEqDiff, Nat.one_ne_zero, Nat.succ_ne_zero, Nat.zero_ne_one, reduceIte, List.set_cons_zero, List.set_cons_succ] at F1
  clear hb hq
  by_cases hlt : (r : Int) * r < (s : Int)
  · have HV := hide (HU.out.trans (if_pos hlt))
    go_wp2
    refine bodyPost_ret (v := .tuple #[.agg #[.int .i64 r, .int .i64 ((r : Int) + 1)], .int .i64 0]) (by simp [results, Try.results102, go_sem, F1]) rfl ⟨by rw [HV.out], ?_⟩
    repeat (first | (with_reducible exact L1.out.below) | refine Below.setCell ?_ (by first | omega | (simp; done) | (simp; omega)) _ | refine Below.alloc ?_ (by first | omega | (simp; done) | (simp; omega)) _ | refine below_drewN ?_ _ | refine Below.drew ?_)
  · have HV := hide (HU.out.trans (if_neg hlt))
    go_wp2
    refine bodyPost_ret (v := .tuple #[.agg #[.int .i64 r, .int .i64 r], .int .i64 0]) (by simp [results, Try.results102, go_sem, F1]) rfl ⟨by rw [HV.out], ?_⟩
    repeat (first | (with_reducible exact L1.out.below) | refine Below.setCell ?_ (by first | omega | (simp; done) | (simp; omega)) _ | refine Below.alloc ?_ (by first | omega | (simp; done) | (simp; omega)) _ | refine below_drewN ?_ _ | refine Below.drew ?_)
/-- A component of a pull along a coordinate that differs by d; s is the range of the length. -/
def cmpL (p q d s u : Int) : Int := if d < 0 then -(-((-(100 * q * -d)) / s)) else (100 * p * d) / u
def cmpH (p q d s u : Int) : Int := if d < 0 then -((100 * p * -d) / u) else -((-(100 * q * d)) / s)
theorem prod3 {p d : Int} (hp : 0 ≤ p ∧ p ≤ 10000000000) (hd : 0 ≤ d ∧ d ≤ 1000000) : 0 ≤ 100 * p * d ∧ 100 * p * d ≤ 1000000000000000000 := by
  have k := mul_bound (x := 100 * p) (y := d) 1000000000000 1000000 (by omega) (by omega)
  rw [show (1000000000000 * 1000000 : Nat) = 1000000000000000000 from rfl] at k
  exact ⟨Int.mul_nonneg (by omega) hd.1, k.2⟩
set_option maxHeartbeats 2000000 in
set_option maxRecDepth 100000 in
theorem plComp_pos (p q d s u : Int) (w : World) (hp : 0 ≤ p ∧ p ≤ 10000000000) (hq : 0 ≤ q ∧ q ≤ 10000000000) (hd : 0 ≤ d ∧ d ≤ 1000000) (hs : 1 ≤ s ∧ s ≤ 1000000000000) (hu : 1 ≤ u ∧ u ≤ 1000000000000) :
    Calls Try.prog 103 #[.agg #[.int .i64 p, .int .i64 q], .int .i64 d, .agg #[.int .i64 s, .int .i64 u]] w fun e w' => e = .returned (.agg #[.int .i64 ((100 * p * d) / u), .int .i64 (-((-(100 * q * d)) / s))]) ∧ Below w.heap.size w w' := by
  obtain ⟨p0, p1⟩ := prod3 hp hd
  obtain ⟨q0, q1⟩ := prod3 hq hd
  have W1 : IntKind.i64.wrap (100 * p) = 100 * p := by rw [IntKind.wrap_i64]; omega
  have W2 : IntKind.i64.wrap (100 * q) = 100 * q := by rw [IntKind.wrap_i64]; omega
  have W3 : IntKind.i64.wrap (100 * p * d) = 100 * p * d := by rw [IntKind.wrap_i64]; omega
  have W4 : IntKind.i64.wrap (100 * q * d) = 100 * q * d := by rw [IntKind.wrap_i64]; omega
  have hd2 : ¬ d < 0 := by omega
  have C1 := hide (fun W => plDown_any (100 * p * d) u W (by omega) (by omega) hu.1 (by omega))
  have C2 := hide (fun W => plUp_any (100 * q * d) s W (by omega) (by omega) hs.1 (by omega))
  go_enter Try.func103, Try.ntmps103
  go_wp2
  (first | (go_region_held3 (fun w' => w'.cell? ⟨w.heap.size, 0, none⟩ = some (.int .i64 p) ∧ w'.cell? ⟨w.heap.size, 1, none⟩ = some (.int .i64 q) ∧ w'.cell? ⟨w.heap.size + 1, 0, none⟩ = some (.int .i64 s) ∧ w'.cell? ⟨w.heap.size + 1, 1, none⟩ = some (.int .i64 u)) (go_keep) (first | (go_at_call 109; refine (C1.out _).mono ?_; rintro e w' ⟨rfl, rfl⟩) | (go_at_call 110; refine (C2.out _).mono ?_; rintro e w' ⟨rfl, rfl⟩))) | fail)
  all_goals
    go_wp2
    refine bodyPost_ret (v := .agg #[.int .i64 ((100 * p * d) / u), .int .i64 (-((-(100 * q * d)) / s))]) (by simp [results, Try.results103, go_sem]) rfl ⟨rfl, ?_⟩
    repeat (first | exact Below.refl _ _ | refine Below.setCell ?_ (by simp) _ | refine Below.alloc ?_ (by first | omega | (simp; done) | (simp; omega)) _ | refine below_drewN ?_ _ | refine Below.drew ?_)
set_option maxHeartbeats 2000000 in
set_option maxRecDepth 100000 in
theorem plComp_any (p q d s u : Int) (w : World) (hp : 0 ≤ p ∧ p ≤ 10000000000) (hq : 0 ≤ q ∧ q ≤ 10000000000) (hd : -1000000 ≤ d ∧ d ≤ 1000000) (hs : 1 ≤ s ∧ s ≤ 1000000000000) (hu : 1 ≤ u ∧ u ≤ 1000000000000) :
    Calls Try.prog 103 #[.agg #[.int .i64 p, .int .i64 q], .int .i64 d, .agg #[.int .i64 s, .int .i64 u]] w fun e w' => e = .returned (.agg #[.int .i64 (cmpL p q d s u), .int .i64 (cmpH p q d s u)]) ∧ Below w.heap.size w w' := by
  by_cases hn : d < 0
  · have e1 : cmpL p q d s u = -(-((-(100 * q * -d)) / s)) := if_pos hn
    have e2 : cmpH p q d s u = -((100 * p * -d) / u) := if_pos hn
    rw [e1, e2]
    clear e1 e2
    have C := hide (fun W => plComp_pos p q (-d) s u W hp hq (by omega) hs hu)
    obtain ⟨p0, p1⟩ := prod3 hp (show 0 ≤ -d ∧ -d ≤ 1000000 by omega)
    obtain ⟨q0, q1⟩ := prod3 hq (show 0 ≤ -d ∧ -d ≤ 1000000 by omega)
    have b1 := ediv_bounds (n := 100 * p * -d) (m := u) (B := 1000000000000000000) hu.1 (by omega) (by omega) (by omega)
    have b2 := ediv_bounds (n := -(100 * q * -d)) (m := s) (B := 1000000000000000000) hs.1 (by omega) (by omega) (by omega)
    obtain ⟨x, hx⟩ : ∃ x, x = (100 * p * -d) / u := ⟨_, rfl⟩
    obtain ⟨y, hy⟩ : ∃ x, x = (-(100 * q * -d)) / s := ⟨_, rfl⟩
    rw [← hx] at C b1 ⊢
    rw [← hy] at C b2 ⊢
    clear hx hy p0 p1 q0 q1
    have L0 := hide (Lv.start w)
    go_enter Try.func103, Try.ntmps103
    go_wp2_with fail
    refine Lv.call (C.out _) (((L0.out.put _ _).put _ _).put _ _) ?_
    intro w1 L1'
    have L1 := hide L1'
    have F1 := L1'.at
    clear L1'
    simp only [AllAt, CellsAt, updL, List.map, Nat.zero_add, Nat.reduceAdd, and_true, World.size_alloc, World.heap_drewN, heap_drew, size_set, Nat.add_eq_left, Nat.left_eq_add, Nat.add_right_cancel_iff, ne_up2, ne_dn2, ne_up3, ne_dn3, ne_up4, ne_dn4, Nat.reduceEqDiff, Nat.one_ne_zero, Nat.succ_ne_zero, Nat.zero_ne_one, reduceIte, List.set_cons_zero, List.set_cons_succ] at F1
    go_wp2
    refine bodyPost_ret (v := .agg #[.int .i64 (- -y), .int .i64 (-x)]) (by simp [results, Try.results103, go_sem, F1]) rfl ⟨rfl, ?_⟩
    repeat (first | (with_reducible exact L1.out.below) | refine Below.setCell ?_ (by first | omega | (simp; done) | (simp; omega)) _ | refine Below.alloc ?_ (by first | omega | (simp; done) | (simp; omega)) _ | refine below_drewN ?_ _ | refine Below.drew ?_)
  · have e1 : cmpL p q d s u = (100 * p * d) / u := if_neg hn
    have e2 : cmpH p q d s u = -((-(100 * q * d)) / s) := if_neg hn
    rw [e1, e2]
    exact plComp_pos p q d s u w hp hq (by omega) hs hu
end Go.Proofs.Ytjfcjclhbnmgcaa
