/- Contracts of number.commonDen (of two valid fractions) and Add. -/
import Derived.Test.YtjomcobhinnikaaFracTwo
import Derived.Test.YtjomcobhinnikaaFracV
import Derived.Test.YtjomcobhinnikaaLive
import Derived.Deep.RegionHeld3
import Derived.BigQuiet
namespace Go.Proofs.Ytjomcobhinnikaa
open Go.RowKit

set_option linter.unusedSimpArgs false
set_option linter.unusedVariables false

theorem gcdF_scale {g n m : Int} (hg : 1 ≤ g) : (gcdF (g * n) (g * m) : Int) = g * (gcdF n m : Int) := by
  unfold gcdF
  rw [Int.natAbs_mul, Int.natAbs_mul, Nat.gcd_mul_left, Int.natCast_mul, Int.natAbs_of_nonneg (by omega)]
theorem fit_scale {g n m : Int} (hg : 1 ≤ g) : (fitF (g * n) (g * m) ↔ fitF n m) ∧ (g * n).tdiv (gcdF (g * n) (g * m)) = n.tdiv (gcdF n m) ∧ g * m / (gcdF (g * n) (g * m)) = m / (gcdF n m) := by
  have e := gcdF_scale (n := n) (m := m) hg
  have e1 : (g * n).tdiv (gcdF (g * n) (g * m)) = n.tdiv (gcdF n m) := by rw [e]; exact Int.mul_tdiv_mul_of_pos _ _ (by omega)
  have e2 : g * m / (gcdF (g * n) (g * m)) = m / (gcdF n m) := by rw [e]; exact Int.mul_ediv_mul_of_pos _ _ (by omega)
  refine ⟨?_, e1, e2⟩
  unfold fitF
  rw [e1, e2]
theorem lowest_scale {g n m : Int} (hg : 1 ≤ g) : fracV (lN (g * n) (g * m)) (lD (g * n) (g * m)) (lE (g * n) (g * m)) = fracV (lN n m) (lD n m) (lE n m) := by
  obtain ⟨h, e1, e2⟩ := fit_scale (n := n) (m := m) hg
  unfold lN lD lE
  by_cases k : fitF n m
  · rw [if_pos k, if_pos k, if_pos k, if_pos (h.2 k), if_pos (h.2 k), if_pos (h.2 k), e1, e2]
  · rw [if_neg k, if_neg k, if_neg k, if_neg (mt h.1 k), if_neg (mt h.1 k), if_neg (mt h.1 k)]

/-- The step to the least common multiple of b and d is s: b s = lcm. -/
def stepD (b d : Int) : Int := d / (Nat.gcd d.natAbs b.natAbs : Int)
theorem stepD_facts {b d : Int} (hb : 1 ≤ b ∧ b ≤ 1000000000) (hd : 1 ≤ d ∧ d ≤ 1000000000) :
    ∃ g : Int, 1 ≤ g ∧ g ≤ 1000000000 ∧ g = (Nat.gcd d.natAbs b.natAbs : Int) ∧ stepD b d = d / g ∧ g * stepD b d = d ∧ 1 ≤ stepD b d ∧ stepD b d ≤ 1000000000 ∧ g * (b / g) = b ∧ 1 ≤ b / g := by
  have h1 : Nat.gcd d.natAbs b.natAbs ∣ d.natAbs := Nat.gcd_dvd_left _ _
  have h2 : Nat.gcd d.natAbs b.natAbs ∣ b.natAbs := Nat.gcd_dvd_right _ _
  have hp : 0 < Nat.gcd d.natAbs b.natAbs := Nat.gcd_pos_of_pos_left _ (by omega)
  have hl := Nat.le_of_dvd (by omega) h1
  have i1 : (Nat.gcd d.natAbs b.natAbs : Int) ∣ d := by rw [← Int.natAbs_of_nonneg (show 0 ≤ d by omega)]; exact Int.natCast_dvd_natCast.2 (by simpa using h1)
  have i2 : (Nat.gcd d.natAbs b.natAbs : Int) ∣ b := by rw [← Int.natAbs_of_nonneg (show 0 ≤ b by omega)]; exact Int.natCast_dvd_natCast.2 (by simpa using h2)
  obtain ⟨g, hg⟩ : ∃ g : Int, g = (Nat.gcd d.natAbs b.natAbs : Int) := ⟨_, rfl⟩
  have e : stepD b d = d / g := by unfold stepD; rw [hg]
  rw [← hg] at i1 i2
  have e1 : g * (d / g) = d := Int.mul_ediv_cancel' i1
  have e2 : g * (b / g) = b := Int.mul_ediv_cancel' i2
  have hg1 : 1 ≤ g := by omega
  have p1 : 1 ≤ d / g := by
    rcases Int.lt_or_le (d / g) 1 with h | h
    · have : g * (d / g) ≤ g * 0 := Int.mul_le_mul_of_nonneg_left (by omega) (by omega)
      omega
    · exact h
  have p2 : 1 ≤ b / g := by
    rcases Int.lt_or_le (b / g) 1 with h | h
    · have : g * (b / g) ≤ g * 0 := Int.mul_le_mul_of_nonneg_left (by omega) (by omega)
      omega
    · exact h
  have p3 : d / g ≤ 1000000000 := Int.le_trans (Int.ediv_le_self _ (by omega)) hd.2
  exact ⟨g, hg1, by omega, hg, e, by rw [e]; exact e1, by omega, by omega, e2, p2⟩

theorem commonDivisor_blk (b cap : Nat) (t : TypeId) (x y : Int) (g : Nat) (w : World) (hB : Blk w b t #[.int .i64 x, .int .i64 y]) (hx : -9223372036854775808 ≤ x ∧ x ≤ 9223372036854775807) (hy : 1 ≤ y ∧ y ≤ 9223372036854775807) (hg : Nat.gcd x.natAbs y.natAbs = g) :
    Calls Try.prog 45 #[.slice (some ⟨b, 0, none⟩) 2 cap] w fun e w' => e = .returned (.int .i64 (g : Int)) ∧ ∃ n, w.drewN n = w' := by
  have e : gcdAll [x, y] = g := by rw [gcdAll_two]; exact hg
  have hl : g ≤ 9223372036854775807 := by rw [← hg]; have := Nat.gcd_le_right x.natAbs (n := y.natAbs) (by omega); omega
  rw [← e] at hl ⊢
  refine commonDivisor_any b 2 cap [x, y] w rfl (by omega) (fun j hj => ?_) (fun z hz => ?_) hl
  · rw [hB.cell j]
    match j, hj with
    | 0, _ => rfl
    | 1, _ => rfl
  · simp at hz; omega
theorem commonDivisor_below (b cap : Nat) (t : TypeId) (x y : Int) (g : Nat) (w : World) (hB : Blk w b t #[.int .i64 x, .int .i64 y]) (hx : -9223372036854775808 ≤ x ∧ x ≤ 9223372036854775807) (hy : 1 ≤ y ∧ y ≤ 9223372036854775807) (hg : Nat.gcd x.natAbs y.natAbs = g) :
    Calls Try.prog 45 #[.slice (some ⟨b, 0, none⟩) 2 cap] w fun e w' => e = .returned (.int .i64 (g : Int)) ∧ Below w.heap.size w w' :=
  (commonDivisor_blk b cap t x y g w hB hx hy hg).mono fun _ _ ⟨he, n, hn⟩ => ⟨he, hn ▸ below_drewN (Below.refl _ _) n⟩

set_option maxHeartbeats 1000000 in
set_option maxRecDepth 100000 in
theorem commonDen2_any (g cap : Nat) (a b c d : Int) (w : World) (hb : 1 ≤ b ∧ b ≤ 1000000000) (hd : 1 ≤ d ∧ d ≤ 1000000000) (hB : Blk w g 29 #[.int .i64 a, .int .i64 b, .int .i64 c, .int .i64 d]) :
    Calls Try.prog 26 #[.int .i64 1000000000000000000, .slice (some ⟨g, 0, none⟩) 2 cap] w fun e w' => e = .returned (.int .i64 (b * stepD b d)) ∧ Below w.heap.size w w' := by
  have L0 : Hid (Lv w w [(g, 29, [.int .i64 a, .int .i64 b, .int .i64 c, .int .i64 d])]) := ⟨Below.refl _ _, fun x hx => by simp at hx; subst hx; exact hB⟩
  clear hB
  obtain ⟨k, hk1, hk2, hk3, hk4, hk5, hk6, hk7, hk8, hk9⟩ := stepD_facts hb hd
  have hm : b * stepD b d ≤ 1000000000000000000 := (prodD hb ⟨hk6, hk7⟩).2
  have hm1 : 1 ≤ b * stepD b d := (prodD hb ⟨hk6, hk7⟩).1
  have hle : b ≤ 1000000000000000000 / stepD b d := by rw [Int.le_ediv_iff_mul_le (by omega)]; exact hm
  have hle1 : 1 ≤ 1000000000000000000 / b := by rw [Int.le_ediv_iff_mul_le (by omega)]; omega
  have n1 : ¬ 1000000000000000000 / b < 1 := by omega
  have n2 : ¬ 1000000000000000000 / stepD b d < b := by omega
  clear hk5 hk8 hk9
  obtain ⟨s, hs⟩ : ∃ s, s = stepD b d := ⟨_, rfl⟩
  rw [← hs] at hk4 hk6 hk7 hm hm1 hle n2 ⊢
  rw [hk3] at hk1 hk2 hk4
  obtain ⟨q, hq⟩ : ∃ q, q = Nat.gcd d.natAbs b.natAbs := ⟨_, rfl⟩
  rw [← hq] at hk1 hk2 hk4
  have HQ := hide hq.symm
  have HS := hide hk4
  clear hs hk3 hq hk4
  go_enter Try.func26, Try.ntmps26
  go_wp2
  go_loopw [5, 11] (fun m i wr => Hid (Lv w wr [(g, 29, [.int .i64 a, .int .i64 b, .int .i64 c, .int .i64 d])]) ∧ ((m = .int .i64 1 ∧ i = .int .i64 0) ∨ (m = .int .i64 b ∧ i = .int .i64 1) ∨ (m = .int .i64 (b * s) ∧ i = .int .i64 2))) (fun _ i _ => 2 - (intOf i).toNat)
  case atStart => exact ⟨L0, Or.inl ⟨rfl, rfl⟩⟩
  case round =>
    obtain ⟨L1, ⟨rfl, rfl⟩ | ⟨rfl, rfl⟩ | ⟨rfl, rfl⟩⟩ := hrel
    · have F1 := L1.out.at
      simp only [AllAt, CellsAt, updL, List.map, Nat.zero_add, Nat.reduceAdd, and_true, World.size_alloc, World.heap_drewN, heap_drew, size_set, Nat.add_eq_left, Nat.left_eq_add, Nat.add_right_cancel_iff, ne_up2, ne_dn2, ne_up3, ne_dn3, ne_up4, ne_dn4, Nat.reduceEqDiff, Nat.one_ne_zero, Nat.succ_ne_zero, Nat.zero_ne_one, reduceIte, List.set_cons_zero, List.set_cons_succ] at F1
      go_wp2
      go_region_held3 (fun w' => w'.cell? ⟨wr.heap.size, 1, none⟩ = some (.int .i64 b))
        (go_keep)
        (first | (go_at_call 45; refine Lv.call (commonDivisor_below _ _ _ b 1 1 _ (Blk.new _ _ _ _ (by simp)) (by omega) (by omega) (by simp)) (((L1.out.put _ _).drew).put _ _) ?_; intro w2 L2'; have L2 := hide L2'; have F2 := L2'.at; clear L2'; simp only [AllAt, CellsAt, updL, List.map, Nat.zero_add, Nat.reduceAdd, and_true, World.size_alloc, World.heap_drewN, heap_drew, size_set, Nat.add_eq_left, Nat.left_eq_add, Nat.add_right_cancel_iff, ne_up2, ne_dn2, ne_up3, ne_dn3, ne_up4, ne_dn4, Nat.reduceEqDiff, Nat.one_ne_zero, Nat.succ_ne_zero, Nat.zero_ne_one, reduceIte, List.set_cons_zero, List.set_cons_succ] at F2))
      go_wp2
      go_roundw
      case rel => exact ⟨L2.out.of (by simp), Or.inr (Or.inl ⟨by simp, rfl⟩)⟩
      case measure => simp [intOf]
    · have F1 := L1.out.at
      simp only [AllAt, CellsAt, updL, List.map, Nat.zero_add, Nat.reduceAdd, and_true, World.size_alloc, World.heap_drewN, heap_drew, size_set, Nat.add_eq_left, Nat.left_eq_add, Nat.add_right_cancel_iff, ne_up2, ne_dn2, ne_up3, ne_dn3, ne_up4, ne_dn4, Nat.reduceEqDiff, Nat.one_ne_zero, Nat.succ_ne_zero, Nat.zero_ne_one, reduceIte, List.set_cons_zero, List.set_cons_succ] at F1
      have hs : d / (q : Int) = s := HS.out.symm
      have ht : d.tdiv (q : Int) = s := by rw [Int.tdiv_eq_ediv_of_nonneg (by omega)]; exact hs
      have W4 : IntKind.i64.wrap s = s := by rw [IntKind.wrap_i64]; omega
      have nq0 : ¬ (q : Int) = 0 := by omega
      have nq1 : ¬ q = 0 := by omega
      go_wp2
      go_region_held3 (fun w' => w'.cell? ⟨wr.heap.size, 1, none⟩ = some (.int .i64 d))
        (go_keep)
        (first | (go_at_call 45; refine Lv.call (commonDivisor_below _ _ _ d b q _ (Blk.new _ _ _ _ (by simp)) (by omega) (by omega) HQ.out) (((L1.out.put _ _).drew).put _ _) ?_; intro w2 L2'; have L2 := hide L2'; have F2 := L2'.at; clear L2'; simp only [AllAt, CellsAt, updL, List.map, Nat.zero_add, Nat.reduceAdd, and_true, World.size_alloc, World.heap_drewN, heap_drew, size_set, Nat.add_eq_left, Nat.left_eq_add, Nat.add_right_cancel_iff, ne_up2, ne_dn2, ne_up3, ne_dn3, ne_up4, ne_dn4, Nat.reduceEqDiff, Nat.one_ne_zero, Nat.succ_ne_zero, Nat.zero_ne_one, reduceIte, List.set_cons_zero, List.set_cons_succ] at F2))
      go_wp2
      go_roundw
      case rel => exact ⟨L2.out.of (by simp), Or.inr (Or.inr ⟨rfl, rfl⟩)⟩
      case measure => simp [intOf]
    · go_wp2
      go_ret
      exact ⟨rfl, L1.out.below⟩

theorem sum_eq {a b c d : Int} (hb : 1 ≤ b ∧ b ≤ 1000000000) (hd : 1 ≤ d ∧ d ≤ 1000000000) :
    ∃ u v : Int, b * stepD b d / b = u ∧ b * stepD b d / d = v ∧ 1 ≤ u ∧ u ≤ 1000000000 ∧ 1 ≤ v ∧ v ≤ 1000000000 ∧
      fracV (lN (a * u + c * v) (b * stepD b d)) (lD (a * u + c * v) (b * stepD b d)) (lE (a * u + c * v) (b * stepD b d)) = fracV (lN (a * d + c * b) (b * d)) (lD (a * d + c * b) (b * d)) (lE (a * d + c * b) (b * d)) := by
  obtain ⟨k, hk1, hk2, _, _, hk5, hk6, hk7, hk8, hk9⟩ := stepD_facts hb hd
  obtain ⟨s, hs⟩ : ∃ s, s = stepD b d := ⟨_, rfl⟩
  obtain ⟨t, ht⟩ : ∃ t, t = b / k := ⟨_, rfl⟩
  rw [← hs] at hk5 hk6 hk7 ⊢
  rw [← ht] at hk8 hk9
  have tle : t ≤ 1000000000 := by rw [ht]; exact Int.le_trans (Int.ediv_le_self _ (by omega)) hb.2
  have e1 : b * s / b = s := Int.mul_ediv_cancel_left _ (by omega)
  have e0 : b * s = t * d := by rw [← hk8, ← hk5, Int.mul_comm k t, Int.mul_assoc]
  have e2 : b * s / d = t := by rw [e0]; exact Int.mul_ediv_cancel _ (by omega)
  refine ⟨s, t, e1, e2, hk6, hk7, hk9, tle, ?_⟩
  rw [← lowest_scale (g := k) (n := a * s + c * t) (m := b * s) hk1]
  have f1 : k * (a * s + c * t) = a * d + c * b := by
    rw [Int.mul_add, ← Int.mul_assoc, ← Int.mul_assoc, Int.mul_comm k a, Int.mul_comm k c, Int.mul_assoc, Int.mul_assoc, hk5, hk8]
  have f2 : k * (b * s) = b * d := by rw [← Int.mul_assoc, Int.mul_comm k b, Int.mul_assoc, hk5]
  rw [f1, f2]

set_option maxHeartbeats 1000000 in
set_option maxRecDepth 100000 in
theorem add_ok (a b c d : Int) (w : World) (h1 : okF a b) (h2 : okF c d) (hE : fracsErr a b c d = 0) :
    Calls Try.prog 10 #[.agg #[.int .i64 a, .int .i64 b], .agg #[.int .i64 c, .int .i64 d]] w fun e w' => e = .returned (fracV (lN (a * d + c * b) (b * d)) (lD (a * d + c * b) (b * d)) (lE (a * d + c * b) (b * d))) ∧ Below w.heap.size w w' := by
  obtain ⟨⟨hb1, _⟩, ha, hb2⟩ := h1
  obtain ⟨⟨hd1, _⟩, hc, hd2⟩ := h2
  obtain ⟨u, v, hu, hv, hu1, hu2, hv1, hv2, hV⟩ := sum_eq (a := a) (c := c) ⟨hb1, hb2⟩ ⟨hd1, hd2⟩
  have hq : 1 ≤ b * stepD b d ∧ b * stepD b d ≤ 1000000000000000000 := by
    obtain ⟨k, _, _, _, _, _, k6, k7, _⟩ := stepD_facts ⟨hb1, hb2⟩ ⟨hd1, hd2⟩
    exact prodD ⟨hb1, hb2⟩ ⟨k6, k7⟩
  have p1 : -1000000000000000000 ≤ a * u ∧ a * u ≤ 1000000000000000000 := prodN ha (by omega)
  have p2' : -1000000000000000000 ≤ c * v ∧ c * v ≤ 1000000000000000000 := prodN hc (by omega)
  have W1 : IntKind.i64.wrap (a * u) = a * u := by rw [IntKind.wrap_i64]; omega
  have W2 : IntKind.i64.wrap (c * v) = c * v := by rw [IntKind.wrap_i64]; omega
  have W3 : IntKind.i64.wrap (a * u + c * v) = a * u + c * v := by rw [IntKind.wrap_i64]; omega
  have HV := hide hV
  have HE := hide hE
  clear hE hV
  obtain ⟨m, hm⟩ : ∃ m, m = b * stepD b d := ⟨_, rfl⟩
  rw [← hm] at hu hv hq HV
  have HM := hide hm.symm
  clear hm
  have L0 := hide (Lv.start w)
  go_enter Try.func10, Try.ntmps10
  go_wp2_with fail
  refine Lv.call (checkFracs_any _ 2 a b c d _ (by omega) (by omega) (by omega) (by omega) (Blk.new _ _ _ _ (by simp))) ((((L0.out.put _ _).put _ _).put _ _).put _ _) ?_
  intro w2 L2'
  have L2 := hide L2'
  have F2 := L2'.at
  clear L2'
  simp only [AllAt, CellsAt, updL, List.map, Nat.zero_add, Nat.reduceAdd, and_true, World.size_alloc, World.heap_drewN, heap_drew, size_set, Nat.add_eq_left, Nat.left_eq_add, Nat.add_right_cancel_iff, ne_up2, ne_dn2, ne_up3, ne_dn3, ne_up4, ne_dn4, Nat.reduceEqDiff, Nat.one_ne_zero, Nat.succ_ne_zero, Nat.zero_ne_one, reduceIte, List.set_cons_zero, List.set_cons_succ] at F2
  rw [HE.out]
  go_wp2_with fail
  refine Lv.call (commonDen2_any _ 2 a b c d _ ⟨hb1, hb2⟩ ⟨hd1, hd2⟩ (Blk.new _ _ _ _ (by simp))) (L2.out.put _ _) ?_
  intro w3 L3'
  have L3 := hide L3'
  have F3 := L3'.at
  clear L3' F2
  simp only [AllAt, CellsAt, updL, List.map, Nat.zero_add, Nat.reduceAdd, and_true, World.size_alloc, World.heap_drewN, heap_drew, size_set, Nat.add_eq_left, Nat.left_eq_add, Nat.add_right_cancel_iff, ne_up2, ne_dn2, ne_up3, ne_dn3, ne_up4, ne_dn4, Nat.reduceEqDiff, Nat.one_ne_zero, Nat.succ_ne_zero, Nat.zero_ne_one, reduceIte, List.set_cons_zero, List.set_cons_succ] at F3
  rw [HM.out]
  have t1 : m.tdiv b = u := by rw [Int.tdiv_eq_ediv_of_nonneg (by omega)]; exact hu
  have t2 : m.tdiv d = v := by rw [Int.tdiv_eq_ediv_of_nonneg (by omega)]; exact hv
  have W4 : IntKind.i64.wrap u = u := by rw [IntKind.wrap_i64]; omega
  have W5 : IntKind.i64.wrap v = v := by rw [IntKind.wrap_i64]; omega
  have nb : ¬ b = 0 := by omega
  have nd : ¬ d = 0 := by omega
  have e1 : ¬ w.heap.size = w.heap.size + 1 + 1 := by omega
  have e2 : ¬ w.heap.size + 1 + 1 = w.heap.size := by omega
  go_wp2
  go_region_held3 (fun w' => w'.cell? ⟨w.heap.size, 0, none⟩ = some (.int .i64 a) ∧ w'.cell? ⟨w.heap.size, 1, none⟩ = some (.int .i64 b) ∧ w'.cell? ⟨w.heap.size + 1, 0, none⟩ = some (.int .i64 c) ∧ w'.cell? ⟨w.heap.size + 1, 1, none⟩ = some (.int .i64 d))
    (go_keep)
    (first | (go_at_call 27; refine Lv.call (lowest_any (a * u + c * v) m _ (by omega) (by omega)) (L3.out.drew) ?_; intro w4 L4'; have L4 := hide L4'; have F4 := L4'.at; clear L4'; simp only [AllAt, CellsAt, updL, List.map, Nat.zero_add, Nat.reduceAdd, and_true, World.size_alloc, World.heap_drewN, heap_drew, size_set, Nat.add_eq_left, Nat.left_eq_add, Nat.add_right_cancel_iff, ne_up2, ne_dn2, ne_up3, ne_dn3, ne_up4, ne_dn4, Nat.reduceEqDiff, Nat.one_ne_zero, Nat.succ_ne_zero, Nat.zero_ne_one, reduceIte, List.set_cons_zero, List.set_cons_succ] at F4))
  go_wp2
  refine bodyPost_ret (v := fracV (lN (a * u + c * v) m) (lD (a * u + c * v) m) (lE (a * u + c * v) m)) (by simp [results, Try.results10, go_sem, F4, fracV]) rfl ⟨by rw [HV.out], ?_⟩
  repeat (first | (with_reducible exact L4.out.below) | refine Below.setCell ?_ (by first | omega | (simp; done) | (simp; omega)) _ | refine Below.alloc ?_ (by first | omega | (simp; done) | (simp; omega)) _ | refine below_drewN ?_ _ | refine Below.drew ?_)

end Go.Proofs.Ytjomcobhinnikaa
