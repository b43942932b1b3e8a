/- Contracts of number.checkFracs and number.commonDen for fractions that lie in a row. -/
import Derived.Test.YtjomcobhinnikaaFracCase
import Derived.Test.YtjomcobhinnikaaLive
import Derived.Deep.RegionHeld3
namespace Go.Proofs.Ytjomcobhinnikaa
open Go.RowKit
set_option linter.unusedVariables false
set_option linter.unusedSimpArgs false

def fN (fs : List (Int × Int)) (i : Nat) : Int := (fs.getD i (0, 0)).1
def fD (fs : List (Int × Int)) (i : Nat) : Int := (fs.getD i (0, 0)).2
/-- The cells of a row of fractions. -/
def FrcsAt (w : World) (b off : Nat) (fs : List (Int × Int)) : Prop := ∀ i, i < fs.length → w.cell? ⟨b, off + i * 2, none⟩ = some (.int .i64 (fN fs i)) ∧ w.cell? ⟨b, off + i * 2 + 1, none⟩ = some (.int .i64 (fD fs i))
theorem FrcsAt.kept {w w' : World} {B b off : Nat} {fs : List (Int × Int)} (h : FrcsAt w b off fs) (hb : b < B) (hk : Below B w w') : FrcsAt w' b off fs := fun i hi => ⟨(hk.cell (by exact hb)).trans (h i hi).1, (hk.cell (by exact hb)).trans (h i hi).2⟩
def fracsTo (fs : List (Int × Int)) : Nat → Int
  | 0 => 0
  | k + 1 => if fracsTo fs k = 0 then fracErr (fN fs k) (fD fs k) else fracsTo fs k
theorem fracsTo_stop {fs : List (Int × Int)} {k : Nat} {e : Int} (h0 : fracsTo fs k = 0) (he : fracErr (fN fs k) (fD fs k) = e) (hne : e ≠ 0) : ∀ m, k < m → fracsTo fs m = e
  | 0, h => by omega
  | m + 1, h => by
    rcases Nat.lt_or_ge k m with hlt | hge
    · have := fracsTo_stop h0 he hne m hlt
      rw [fracsTo, if_neg (by rw [this]; exact hne), this]
    · obtain rfl : m = k := by omega
      rw [fracsTo, if_pos h0, he]
def in64 (x : Int) : Prop := -9223372036854775808 ≤ x ∧ x ≤ 9223372036854775807
set_option maxHeartbeats 1000000 in
set_option maxRecDepth 100000 in
theorem checkFracsL_any (b off n cap : Nat) (fs : List (Int × Int)) (w : World) (hn : fs.length = n) (hn2 : n ≤ 1000) (hb : b < w.heap.size) (hc : FrcsAt w b off fs) (hin : ∀ i, i < n → in64 (fN fs i) ∧ in64 (fD fs i)) :
    Calls Try.prog 25 #[.slice (some ⟨b, off, none⟩) n cap] w fun e w' => e = .returned (.int .i64 (fracsTo fs n)) ∧ Below w.heap.size w w' := by
  have HN := hide hn
  have HC := hide hc
  have HI := hide hin
  clear hn hc hin
  go_enter Try.func25, Try.ntmps25
  go_wp2
  go_loopw [8] (fun i wr => ∃ k : Nat, k ≤ n ∧ i = .int .i64 k ∧ Hid (fracsTo fs k = 0) ∧ Hid (Lv w wr [])) (fun i _ => n - (intOf i).toNat)
  case atStart => exact ⟨0, by omega, rfl, rfl, Lv.start w⟩
  case round =>
    obtain ⟨k, hk, rfl, H0, L1⟩ := hrel
    by_cases hlt : k < n
    · obtain ⟨z1, z2⟩ := HC.out k (by rw [HN.out]; exact hlt)
      have q1 := (L1.out.below.cell (by exact hb)).trans z1
      have q2 := (L1.out.below.cell (by exact hb)).trans z2
      obtain ⟨i1, i2⟩ := HI.out k hlt
      unfold in64 at i1 i2
      have hz := L1.out.size
      have hbr : b < wr.heap.size := by omega
      have hlt' : (k : Int) < (n : Int) := by omega
      obtain ⟨x, hx⟩ : ∃ x, x = fN fs k := ⟨_, rfl⟩
      obtain ⟨y, hy⟩ : ∃ x, x = fD fs k := ⟨_, rfl⟩
      rw [← hx] at q1 i1
      rw [← hy] at q2 i2
      have HXY : Hid (fracErr x y = fracErr (fN fs k) (fD fs k)) := by show _ = _; rw [← hx, ← hy]
      clear hx hy z1 z2
      go_wp2_with fail
      refine Lv.call (checkFrac_any x y _ i1 i2) (L1.out.put _ _) ?_
      intro w2 L2'
      have L2 := hide L2'
      have F2 := L2'.at
      clear L2'
      simp only [AllAt, CellsAt, updL, List.map, Nat.zero_add, Nat.reduceAdd, and_true, World.size_alloc, World.heap_drewN, heap_drew, size_set, Nat.add_eq_left, Nat.left_eq_add, Nat.add_right_cancel_iff, ne_up2, ne_dn2, ne_up3, ne_dn3, ne_up4, ne_dn4, Nat.reduceEqDiff, Nat.one_ne_zero, Nat.succ_ne_zero, Nat.zero_ne_one, reduceIte, List.set_cons_zero, List.set_cons_succ] at F2
      rcases fracErr_cases x y with ⟨h, _⟩ | h | h
      · have HS : Hid (fracsTo fs (k + 1) = 0) := by show fracsTo fs (k + 1) = 0; rw [fracsTo, if_pos H0.out, ← HXY.out, h]
        rw [h]
        clear h
        go_wp2
        go_roundw
        case rel => exact ⟨k + 1, by omega, by go_num, HS, hide (L2.out.of (by simp))⟩
        case measure => simp [intOf]; omega
      · have HS := hide (fracsTo_stop (e := 2) H0.out (by rw [← HXY.out]; exact h) (by omega) n hlt)
        rw [h]
        clear h
        go_wp2
        go_ret
        exact ⟨ret_int HS.out.symm, L2.out.below⟩
      · have HS := hide (fracsTo_stop (e := 3) H0.out (by rw [← HXY.out]; exact h) (by omega) n hlt)
        rw [h]
        clear h
        go_wp2
        go_ret
        exact ⟨ret_int HS.out.symm, L2.out.below⟩
    · obtain rfl : n = k := by omega
      go_wp2
      go_ret
      exact ⟨ret_int H0.out.symm, L1.out.below⟩

/-- The step to the least common multiple of b and d is s: b s = lcm. -/
def stepE (b d : Int) : Int := d / (Nat.gcd d.natAbs b.natAbs : Int)
theorem stepE_facts {b d : Int} (hb : 1 ≤ b ∧ b ≤ 1000000000) (hd : 1 ≤ d ∧ d ≤ 1000000000) :
    ∃ g : Int, 1 ≤ g ∧ g ≤ 1000000000 ∧ g = (Nat.gcd d.natAbs b.natAbs : Int) ∧ stepE b d = d / g ∧ g * stepE b d = d ∧ 1 ≤ stepE b d ∧ stepE b d ≤ 1000000000 ∧ g * (b / g) = b ∧ 1 ≤ b / g := by
  have h1 : Nat.gcd d.natAbs b.natAbs ∣ d.natAbs := Nat.gcd_dvd_left _ _
  have h2 : Nat.gcd d.natAbs b.natAbs ∣ b.natAbs := Nat.gcd_dvd_right _ _
  have hp : 0 < Nat.gcd d.natAbs b.natAbs := Nat.gcd_pos_of_pos_left _ (by omega)
  have hl := Nat.le_of_dvd (by omega) h1
  have i1 : (Nat.gcd d.natAbs b.natAbs : Int) ∣ d := by rw [← Int.natAbs_of_nonneg (show 0 ≤ d by omega)]; exact Int.natCast_dvd_natCast.2 (by simpa using h1)
  have i2 : (Nat.gcd d.natAbs b.natAbs : Int) ∣ b := by rw [← Int.natAbs_of_nonneg (show 0 ≤ b by omega)]; exact Int.natCast_dvd_natCast.2 (by simpa using h2)
  obtain ⟨g, hg⟩ : ∃ g : Int, g = (Nat.gcd d.natAbs b.natAbs : Int) := ⟨_, rfl⟩
  have e : stepE b d = d / g := by unfold stepE; rw [hg]
  rw [← hg] at i1 i2
  have e1 : g * (d / g) = d := Int.mul_ediv_cancel' i1
  have e2 : g * (b / g) = b := Int.mul_ediv_cancel' i2
  have hg1 : 1 ≤ g := by omega
  have p1 : 1 ≤ d / g := by
    rcases Int.lt_or_le (d / g) 1 with h | h
    · have : g * (d / g) ≤ g * 0 := Int.mul_le_mul_of_nonneg_left (by omega) (by omega)
      omega
    · exact h
  have p2 : 1 ≤ b / g := by
    rcases Int.lt_or_le (b / g) 1 with h | h
    · have : g * (b / g) ≤ g * 0 := Int.mul_le_mul_of_nonneg_left (by omega) (by omega)
      omega
    · exact h
  have p3 : d / g ≤ 1000000000 := Int.le_trans (Int.ediv_le_self _ (by omega)) hd.2
  exact ⟨g, hg1, by omega, hg, e, by rw [e]; exact e1, by omega, by omega, e2, p2⟩
/-- The least common multiple of the first k denominators. -/
def denTo (fs : List (Int × Int)) : Nat → Int
  | 0 => 1
  | k + 1 => denTo fs k * stepE (denTo fs k) (fD fs k)
def denUp (most : Int) (fs : List (Int × Int)) : Nat → Bool
  | 0 => true
  | k + 1 => denUp most fs k && decide (denTo fs (k + 1) ≤ most)
def denR (most : Int) (fs : List (Int × Int)) : Int := if denUp most fs fs.length = true then denTo fs fs.length else 0
theorem denUp_down {most : Int} {fs : List (Int × Int)} {k : Nat} : ∀ n, k ≤ n → denUp most fs n = true → denUp most fs k = true
  | 0, h, h1 => by obtain rfl : k = 0 := by omega
                   exact h1
  | n + 1, h, h1 => by
    rcases Nat.lt_or_ge n k with h2 | h2
    · obtain rfl : k = n + 1 := by omega
      exact h1
    · rw [denUp, Bool.and_eq_true] at h1
      exact denUp_down n h2 h1.1
theorem commonDivisor_two (b cap : Nat) (t : TypeId) (x y : Int) (g : Nat) (w : World) (hB : Blk w b t #[.int .i64 x, .int .i64 y]) (hx : -9223372036854775808 ≤ x ∧ x ≤ 9223372036854775807) (hy : 1 ≤ y ∧ y ≤ 9223372036854775807) (hg : Nat.gcd x.natAbs y.natAbs = g) :
    Calls Try.prog 45 #[.slice (some ⟨b, 0, none⟩) 2 cap] w fun e w' => e = .returned (.int .i64 (g : Int)) ∧ Below w.heap.size w w' := by
  have e : gcdAll [x, y] = g := by rw [gcdAll_two]; exact hg
  have hl : g ≤ 9223372036854775807 := by rw [← hg]; have := Nat.gcd_le_right x.natAbs (n := y.natAbs) (by omega); omega
  rw [← e] at hl ⊢
  refine (commonDivisor_any b 2 cap [x, y] w rfl (by omega) (fun j hj => ?_) (fun z hz => ?_) hl).mono fun _ _ ⟨he, n, hn⟩ => ⟨he, hn ▸ below_drewN (Below.refl _ _) n⟩
  · rw [hB.cell j]
    match j, hj with
    | 0, _ => rfl
    | 1, _ => rfl
  · simp at hz; omega
set_option maxHeartbeats 1000000 in
set_option maxRecDepth 100000 in
theorem commonDenL_any (most : Int) (b off n cap : Nat) (fs : List (Int × Int)) (w : World) (hmo : 1 ≤ most ∧ most ≤ 1000000000) (hn : fs.length = n) (hn2 : n ≤ 1000) (hb : b < w.heap.size) (hc : FrcsAt w b off fs) (hd : ∀ i, i < n → 1 ≤ fD fs i ∧ fD fs i ≤ 1000000000) :
    Calls Try.prog 26 #[.int .i64 most, .slice (some ⟨b, off, none⟩) n cap] w fun e w' => e = .returned (.int .i64 (denR most fs)) ∧ Below w.heap.size w w' := by
  have HN := hide hn
  have HC := hide hc
  have HI := hide hd
  clear hn hc hd
  go_enter Try.func26, Try.ntmps26
  go_wp2
  go_loopw [5, 11] (fun m i wr => ∃ k : Nat, k ≤ n ∧ i = .int .i64 k ∧ m = .int .i64 (denTo fs k) ∧ Hid (denUp most fs k = true) ∧ (1 ≤ denTo fs k ∧ denTo fs k ≤ most) ∧ Hid (Lv w wr [])) (fun _ i _ => n - (intOf i).toNat)
  case atStart => exact ⟨0, by omega, rfl, rfl, rfl, ⟨by show (1 : Int) ≤ 1; omega, hmo.1⟩, Lv.start w⟩
  case round =>
    obtain ⟨k, hk, rfl, rfl, HU, hmk, L1⟩ := hrel
    by_cases hlt : k < n
    · obtain ⟨z1, z2⟩ := HC.out k (by rw [HN.out]; exact hlt)
      have q1 := (L1.out.below.cell (by exact hb)).trans z1
      have q2 := (L1.out.below.cell (by exact hb)).trans z2
      have hd := HI.out k hlt
      have hz := L1.out.size
      have hbr : b < wr.heap.size := by omega
      have hlt' : (k : Int) < (n : Int) := by omega
      have HD1 : Hid (denTo fs (k + 1) = denTo fs k * stepE (denTo fs k) (fD fs k)) := rfl
      have HU1 : Hid (denUp most fs (k + 1) = (denUp most fs k && decide (denTo fs (k + 1) ≤ most))) := rfl
      obtain ⟨x, hx⟩ : ∃ x, x = fN fs k := ⟨_, rfl⟩
      obtain ⟨y, hy⟩ : ∃ x, x = fD fs k := ⟨_, rfl⟩
      obtain ⟨m, hm⟩ : ∃ x, x = denTo fs k := ⟨_, rfl⟩
      rw [← hx] at q1
      rw [← hy] at q2 hd HD1
      rw [← hm] at hmk HD1 ⊢
      clear hx hy hm z1 z2
      obtain ⟨g, hk1, hk2, hk3, hk4, hk5, hk6, hk7, hk8, hk9⟩ := stepE_facts (b := m) (d := y) (by omega) hd
      clear hk5 hk8 hk9
      obtain ⟨s, hs⟩ : ∃ s, s = stepE m y := ⟨_, rfl⟩
      rw [← hs] at hk4 hk6 hk7 HD1
      rw [hk3] at hk1 hk2 hk4
      obtain ⟨q, hq⟩ : ∃ q, q = Nat.gcd y.natAbs m.natAbs := ⟨_, rfl⟩
      rw [← hq] at hk1 hk2 hk4
      have HQ := hide hq.symm
      have hs' : y / (q : Int) = s := hk4.symm
      have ht : y.tdiv (q : Int) = s := by rw [Int.tdiv_eq_ediv_of_nonneg (by omega)]; exact hs'
      have W4 : IntKind.i64.wrap s = s := by rw [IntKind.wrap_i64]; omega
      have nq0 : ¬ (q : Int) = 0 := by omega
      have nq1 : ¬ q = 0 := by omega
      have hpr := mul_bound (x := m) (y := s) 1000000000 1000000000 (by omega) (by omega)
      rw [show (1000000000 * 1000000000 : Nat) = 1000000000000000000 from rfl] at hpr
      have hp1 : 1 ≤ m * s := by have := Int.mul_le_mul_of_nonneg_left hk6 (show 0 ≤ m by omega); omega
      clear hs hk3 hq hk4
      have hmq : m ≤ most / s ↔ m * s ≤ most := Int.le_ediv_iff_mul_le (by omega)
      by_cases hle : m * s ≤ most
      · have n2 : ¬ most / s < m := by have := hmq.2 hle; omega
        have HU2 : Hid (denUp most fs (k + 1) = true) := by show _ = _; rw [HU1.out, HU.out, HD1.out]; simpa using hle
        clear hmq
        go_wp2
        go_region_held3 (fun w' => w'.cell? ⟨wr.heap.size, 1, none⟩ = some (.int .i64 y))
          (go_keep)
          (first | (go_at_call 45; refine Lv.call (commonDivisor_two _ _ _ y m q _ (Blk.new _ _ _ _ (by simp)) (by omega) (by omega) HQ.out) (((L1.out.put _ _).drew).put _ _) ?_; intro w2 L2'; have L2 := hide L2'; have F2 := L2'.at; clear L2'; simp only [AllAt, CellsAt, updL, List.map, Nat.zero_add, Nat.reduceAdd, and_true, World.size_alloc, World.heap_drewN, heap_drew, size_set, Nat.add_eq_left, Nat.left_eq_add, Nat.add_right_cancel_iff, ne_up2, ne_dn2, ne_up3, ne_dn3, ne_up4, ne_dn4, Nat.reduceEqDiff, Nat.one_ne_zero, Nat.succ_ne_zero, Nat.zero_ne_one, reduceIte, List.set_cons_zero, List.set_cons_succ] at F2))
        go_wp2
        go_roundw
        case rel => exact ⟨k + 1, by omega, by go_num, by rw [HD1.out], HU2, by rw [HD1.out]; exact ⟨hp1, hle⟩, hide (L2.out.of (by simp))⟩
        case measure => simp [intOf]; omega
      · have n2 : most / s < m := by
          by_cases h : m ≤ most / s
          · exact absurd (hmq.1 h) hle
          · omega
        have HR : Hid (denR most fs = 0) := by
          show _ = _
          unfold denR
          rw [if_neg]
          intro h
          have h2 := denUp_down (k := k + 1) _ (by rw [HN.out]; omega) h
          rw [HU1.out, HD1.out, Bool.and_eq_true, decide_eq_true_eq] at h2
          exact hle h2.2
        clear hmq
        go_wp2
        go_region_held3 (fun w' => w'.cell? ⟨wr.heap.size, 1, none⟩ = some (.int .i64 y))
          (go_keep)
          (first | (go_at_call 45; refine Lv.call (commonDivisor_two _ _ _ y m q _ (Blk.new _ _ _ _ (by simp)) (by omega) (by omega) HQ.out) (((L1.out.put _ _).drew).put _ _) ?_; intro w2 L2'; have L2 := hide L2'; have F2 := L2'.at; clear L2'; simp only [AllAt, CellsAt, updL, List.map, Nat.zero_add, Nat.reduceAdd, and_true, World.size_alloc, World.heap_drewN, heap_drew, size_set, Nat.add_eq_left, Nat.left_eq_add, Nat.add_right_cancel_iff, ne_up2, ne_dn2, ne_up3, ne_dn3, ne_up4, ne_dn4, Nat.reduceEqDiff, Nat.one_ne_zero, Nat.succ_ne_zero, Nat.zero_ne_one, reduceIte, List.set_cons_zero, List.set_cons_succ] at F2))
        go_wp2
        go_ret
        exact ⟨ret_int HR.out.symm, L2.out.below⟩
    · obtain rfl : n = k := by omega
      have HR : Hid (denR most fs = denTo fs n) := by show _ = _; unfold denR; rw [HN.out, if_pos HU.out]
      go_wp2
      go_ret
      exact ⟨ret_int HR.out.symm, L1.out.below⟩
end Go.Proofs.Ytjomcobhinnikaa
