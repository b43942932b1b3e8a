/- The contract of agrafferef01.CheckLine for valid dots and valid fractions. -/
import Derived.Test.YtnilfacofikoaaaCheckLine
import Derived.Test.YtnilfacofikoaaaRefFrac
import Derived.Test.YtnilfacofikoaaaBehind
import Derived.Deep.AppendLies
namespace Go.Proofs.Ytnilfacofikoaaa
open Go.RowKit
set_option linter.unusedVariables false
set_option linter.unusedSimpArgs false

theorem gcd_plain (a b : Int) (w : World) (ha : 1 ≤ a ∧ a ≤ 1000000000) (hb : 1 ≤ b ∧ b ≤ 1000000000) : ∀ m, Calls Try.prog 52 #[.int .i64 a, .int .i64 b] (w.drewN m) fun e w' => e = .returned (.int .i64 (Nat.gcd b.natAbs a.natAbs : Int)) ∧ ∃ q, (w.drewN m).drewN q = w' := fun m =>
  (gcd_any a b _ (by omega) (by omega) (by omega)).mono fun _ _ ⟨he, hn⟩ => ⟨by rw [he, Nat.gcd_comm], hn⟩
theorem denTo_ge {fs : List (Int × Int)} {k : Nat} (h1 : 1 ≤ denTo fs k ∧ denTo fs k ≤ 1000000000) (h2 : 1 ≤ fD fs k ∧ fD fs k ≤ 1000000000) : fD fs k ≤ denTo fs (k + 1) ∧ denTo fs k / (Nat.gcd (fD fs k).natAbs (denTo fs k).natAbs : Int) * fD fs k = denTo fs (k + 1) := by
  obtain ⟨g, g1, g2, g3, g4, g5, g6, g7, g8, g9⟩ := stepE_facts h1 h2
  have e : denTo fs (k + 1) = denTo fs k / g * fD fs k := by
    have e1 : denTo fs (k + 1) = denTo fs k * stepE (denTo fs k) (fD fs k) := rfl
    obtain ⟨s, hs⟩ : ∃ s, s = stepE (denTo fs k) (fD fs k) := ⟨_, rfl⟩
    obtain ⟨x, hx⟩ : ∃ s, s = denTo fs k / g := ⟨_, rfl⟩
    obtain ⟨D, hD⟩ : ∃ s, s = denTo fs k := ⟨_, rfl⟩
    obtain ⟨y, hy⟩ : ∃ s, s = fD fs k := ⟨_, rfl⟩
    rw [← hs] at g5 e1
    rw [← hx, ← hD] at g8
    rw [e1, ← hx, ← hD, ← hy, ← g8]
    rw [← hy] at g5
    rw [← g5]
    ac_rfl
  rw [← g3, ← e]
  refine ⟨?_, rfl⟩
  rw [e]
  have := Int.mul_le_mul_of_nonneg_right g9 (show 0 ≤ fD fs k by omega)
  omega
theorem den_stop {fs : List (Int × Int)} {k : Nat} (hk : k < fs.length) (h : ¬ denTo fs (k + 1) ≤ 40000) : denR 40000 fs = 0 := by
  unfold denR
  rw [if_neg]
  intro hu
  have h2 := denUp_down (k := k + 1) _ (by omega) hu
  rw [denUp, Bool.and_eq_true, decide_eq_true_eq] at h2
  exact h h2.2
def offTo (ds : List (Int × Int)) (den S K : Int) (k : Nat) : List Int := (List.range k).map (offL ds den S K)
theorem offTo_len {ds : List (Int × Int)} {den S K : Int} {k : Nat} : (offTo ds den S K k).length = k := by simp [offTo]
theorem offTo_snoc {ds : List (Int × Int)} {den S K : Int} {k : Nat} : offTo ds den S K (k + 1) = offTo ds den S K k ++ [offL ds den S K k] := by simp [offTo, List.range_succ]
theorem offTo_get {ds : List (Int × Int)} {den S K : Int} {k j : Nat} (h : j < k) : (offTo ds den S K k).getD j 0 = offL ds den S K j := by simp [offTo, h]
theorem prE_in {n : Nat} {p q r : Int} (h : ¬ (prI n p ∧ prI n q ∧ prI n r)) : prE n p q r = 6 := if_neg h
theorem prE_as {n : Nat} {p q r : Int} (h : prI n p ∧ prI n q ∧ prI n r) : prE n p q r = if p < q ∧ q < r then 0 else 9 := if_pos h
theorem inR_pr {n : Nat} {x : Int} (h : prI n x) : inR x 0 ((n : Int) - 1) = true := inR_yes (by unfold prI at h; omega)
theorem inR_pr_no {n : Nat} {x : Int} (h : ¬ prI n x) : inR x 0 ((n : Int) - 1) = false := inR_no (by unfold prI at h; omega)
theorem lineE_pr {ds : List (Int × Int)} {n : Nat} {a b c d e f p q r E : Int} (hn : ds.length = n) (h0 : denR 40000 (fr3 a b c d e f) ≠ 0) (h : prE n p q r = E) (hE : E ≠ 0) : lineE ds a b c d e f p q r = E := by
  unfold lineE
  rw [if_neg h0, hn, if_pos (by omega), h]
theorem lineE_go {ds : List (Int × Int)} {n : Nat} {a b c d e f p q r : Int} (hn : ds.length = n) (h0 : denR 40000 (fr3 a b c d e f) ≠ 0) (h : prE n p q r = 0) :
    lineE ds a b c d e f p q r = lineF ds (denR 40000 (fr3 a b c d e f)) (scF a b (denR 40000 (fr3 a b c d e f))) (scF c d (denR 40000 (fr3 a b c d e f))) (scF e f (denR 40000 (fr3 a b c d e f))) p q r := by
  unfold lineE
  rw [if_neg h0, hn, if_neg (fun x => x h)]
theorem Lv.grown {w0 w w' : World} {L : List (Nat × TypeId × List Value)} {row : Option Nat} (h : Lv w0 w L) (hg : w.grownBy w' row) (hr : ∀ k, row = some k → w0.heap.size ≤ k) (hx : ∀ x ∈ L, some x.1 ≠ row) : Lv w0 w' L :=
  ⟨h.below.grown hg h.size hr, fun x hm => (h.blk x hm).grown hg (hx x hm)⟩
set_option maxHeartbeats 20000000 in
set_option maxRecDepth 100000 in
theorem refCheckLine_any (A : Option Addr) (n cap : Nat) (ds : List (Int × Int)) (a b' c d e f p q r : Int) (w : World) (hn : ds.length = n) (hD : Dots w w.heap.size A ds) (hE : dotsErr ds = 0) (hF : fracsTo (fr3 a b' c d e f) 3 = 0) :
    Calls Try.prog 26 #[.slice A n cap, .agg #[.int .i64 a, .int .i64 b', .int .i64 c, .int .i64 d, .int .i64 e, .int .i64 f, .int .i64 p, .int .i64 q, .int .i64 r]] w fun x w' => x = .returned (.int .i64 (lineE ds a b' c d e f p q r)) ∧ Below w.heap.size w w' := by
  obtain ⟨o1, o2, o3⟩ := fr3_ok hF
  have HDEN := hide (fr3_den o1 o2 o3)
  have HN := hide hn
  have HOK := hide (dots_ok hE)
  obtain ⟨b, off, hA, hb, hc⟩ := hD (by have := HOK.out.three; omega)
  subst hA
  have HC := hide hc
  have x1 := o1.2.1
  have x2 := o2.2.1
  have x3 := o3.2.1
  have y1 : 1 ≤ b' ∧ b' ≤ 1000000000 := ⟨o1.1.1, o1.2.2⟩
  have y2 : 1 ≤ d ∧ d ≤ 1000000000 := ⟨o2.1.1, o2.2.2⟩
  have y3 : 1 ≤ f ∧ f ≤ 1000000000 := ⟨o3.1.1, o3.2.2⟩
  have hn60 : n ≤ 60 := by have := HOK.out.sixty; omega
  have hn3 : 3 ≤ n := by have := HOK.out.three; omega
  have q0 : ∀ w : World, (Instr.index 63 (.agg #[.int .i64 a, .int .i64 b', .int .i64 c, .int .i64 d, .int .i64 e, .int .i64 f]) (.int .i64 0)).run Try.prog w = .ok (.agg #[.int .i64 a, .int .i64 b']) w := fun _ => by kernel_rfl
  have q1 : ∀ w : World, (Instr.index 63 (.agg #[.int .i64 a, .int .i64 b', .int .i64 c, .int .i64 d, .int .i64 e, .int .i64 f]) (.int .i64 1)).run Try.prog w = .ok (.agg #[.int .i64 c, .int .i64 d]) w := fun _ => by kernel_rfl
  have q2 : ∀ w : World, (Instr.index 63 (.agg #[.int .i64 a, .int .i64 b', .int .i64 c, .int .i64 d, .int .i64 e, .int .i64 f]) (.int .i64 2)).run Try.prog w = .ok (.agg #[.int .i64 e, .int .i64 f]) w := fun _ => by kernel_rfl
  clear hn hD hE hF hc o1 o2 o3
  have L0 := hide (Lv.start w)
  go_enter Try.func26, Try.ntmps26
  go_wp2
  go_loopw [5, 24] (fun s5 i wr => ∃ k : Nat, k ≤ 3 ∧ i = .int .i64 k ∧ s5 = .int .i64 (denTo (fr3 a b' c d e f) k) ∧ Hid (denUp 40000 (fr3 a b' c d e f) k = true) ∧ (1 ≤ denTo (fr3 a b' c d e f) k ∧ denTo (fr3 a b' c d e f) k ≤ 40000) ∧
    Hid (Lv w wr [(w.heap.size, 55, [.int .i64 a, .int .i64 b', .int .i64 c, .int .i64 d, .int .i64 e, .int .i64 f, .int .i64 p, .int .i64 q, .int .i64 r])])) (fun _ i _ => 3 - (intOf i).toNat)
  case atStart => exact ⟨0, by omega, rfl, rfl, rfl, ⟨by show (1 : Int) ≤ 1; omega, by show (1 : Int) ≤ 40000; omega⟩, hide (L0.out.put _ _)⟩
  case round =>
    obtain ⟨k, hk, rfl, rfl, HU, hmk, L1⟩ := hrel
    have hk4 : k = 0 ∨ k = 1 ∨ k = 2 ∨ k = 3 := by omega
    rcases hk4 with rfl | rfl | rfl | rfl
    · have hd := HDEN.out 0 (by show 0 < 3; omega)
      have hge := denTo_ge (fs := fr3 a b' c d e f) (k := 0) (by omega) hd
      have HST := hide (fun h => den_stop (fs := fr3 a b' c d e f) (k := 0) (by show 0 < 3; omega) h)
      have HUP : Hid (denUp 40000 (fr3 a b' c d e f) (0 + 1) = (denUp 40000 (fr3 a b' c d e f) 0 && decide (denTo (fr3 a b' c d e f) (0 + 1) ≤ 40000))) := rfl
      have hfd : fD (fr3 a b' c d e f) 0 = b' := rfl
      rw [hfd] at hd hge
      obtain ⟨m, hm⟩ : ∃ m, m = denTo (fr3 a b' c d e f) 0 := ⟨_, rfl⟩
      obtain ⟨m2, hm2⟩ : ∃ m, m = denTo (fr3 a b' c d e f) (0 + 1) := ⟨_, rfl⟩
      rw [← hm, ← hm2] at hge
      rw [← hm] at hmk
      rw [← hm2] at HST HUP
      have HM2 := hide hm2
      rw [← hm]
      clear hm hm2 hfd
      have F1 := L1.out.at
      simp only [AllAt, CellsAt, updL, List.map, Nat.zero_add, Nat.reduceAdd, and_true, World.size_alloc, World.heap_drewN, heap_drew, size_set, Nat.add_eq_left, Nat.left_eq_add, Nat.add_right_cancel_iff, ne_up2, ne_dn2, ne_up3, ne_dn3, ne_up4, ne_dn4, Nat.reduceEqDiff, Nat.one_ne_zero, Nat.succ_ne_zero, Nat.zero_ne_one, reduceIte, List.set_cons_zero, List.set_cons_succ] at F1
      by_cases hbig : 40000 < b'
      · have HR2 : Hid (lineE ds a b' c d e f p q r = 8) := hide (if_pos (HST.out (by omega)))
        clear hge
        go_wp2
        go_ret
        refine ⟨ret_int HR2.out.symm, ?_⟩
        repeat (first | (with_reducible exact L1.out.below) | refine Below.setCell ?_ (by first | omega | (simp; done) | (simp; omega)) _ | refine Below.alloc ?_ (by first | omega | (simp; done) | (simp; omega)) _ | refine below_drewN ?_ _ | refine Below.drew ?_)
      · have HG := hide (gcd_plain m b' (wr.alloc (.cells #[.int .i64 (a), .int .i64 (b')] 25)) (by omega) (by omega))
        obtain ⟨g, hg⟩ : ∃ g, g = Nat.gcd (b').natAbs m.natAbs := ⟨_, rfl⟩
        have hgp : 1 ≤ g := by rw [hg]; exact Nat.gcd_pos_of_pos_left _ (by omega)
        rw [← hg] at HG hge
        obtain ⟨hge1, hge2⟩ := hge
        obtain ⟨z, hz⟩ : ∃ z, z = m / (g : Int) := ⟨_, rfl⟩
        have hz1 : 0 ≤ z ∧ z ≤ 40000 := by rw [hz]; exact ⟨Int.ediv_nonneg (by omega) (by omega), Int.le_trans (Int.ediv_le_self _ (by omega)) (by omega)⟩
        rw [← hz] at hge2
        have hdv : m / (g : Int) = z := hz.symm
        have htd : m.tdiv (g : Int) = z := by rw [Int.tdiv_eq_ediv_of_nonneg (by omega)]; exact hdv
        have ng : ¬ (g : Int) = 0 := by omega
        have ng2 : ¬ g = 0 := by omega
        have W1 : IntKind.i64.wrap z = z := by rw [IntKind.wrap_i64]; omega
        have hpr := mul_bound (x := z) (y := b') 40000 40000 (by omega) (by omega)
        rw [show (40000 * 40000 : Nat) = 1600000000 from rfl, hge2] at hpr
        have W2 : IntKind.i64.wrap (z * b') = m2 := by rw [hge2, IntKind.wrap_i64]; omega
        clear hg hz hge2
        by_cases hup : m2 ≤ 40000
        · have HU2 : Hid (denUp 40000 (fr3 a b' c d e f) (0 + 1) = true) := by show _ = _; rw [HUP.out, HU.out]; simpa using hup
          go_wp2
          go_quiet ((go_at_call 52; first | with_reducible exact still_draw HG.out | with_reducible exact still_draw0 HG.out))
          go_wp2
          go_roundw
          case rel => exact ⟨0 + 1, by omega, by go_num, by rw [HM2.out], HU2, by rw [← HM2.out]; omega, hide ((L1.out.put _ _).drewN _ |>.of (by simp))⟩
          case measure => simp [intOf]
        · have HR2 : Hid (lineE ds a b' c d e f p q r = 8) := hide (if_pos (HST.out hup))
          have hup2 : 40000 < m2 := by omega
          go_wp2
          go_quiet ((go_at_call 52; first | with_reducible exact still_draw HG.out | with_reducible exact still_draw0 HG.out))
          go_wp2
          go_ret
          refine ⟨ret_int HR2.out.symm, ?_⟩
          exact below_drewN (L1.out.put _ _).below _
    · have hd := HDEN.out 1 (by show 1 < 3; omega)
      have hge := denTo_ge (fs := fr3 a b' c d e f) (k := 1) (by omega) hd
      have HST := hide (fun h => den_stop (fs := fr3 a b' c d e f) (k := 1) (by show 1 < 3; omega) h)
      have HUP : Hid (denUp 40000 (fr3 a b' c d e f) (1 + 1) = (denUp 40000 (fr3 a b' c d e f) 1 && decide (denTo (fr3 a b' c d e f) (1 + 1) ≤ 40000))) := rfl
      have hfd : fD (fr3 a b' c d e f) 1 = d := rfl
      rw [hfd] at hd hge
      obtain ⟨m, hm⟩ : ∃ m, m = denTo (fr3 a b' c d e f) 1 := ⟨_, rfl⟩
      obtain ⟨m2, hm2⟩ : ∃ m, m = denTo (fr3 a b' c d e f) (1 + 1) := ⟨_, rfl⟩
      rw [← hm, ← hm2] at hge
      rw [← hm] at hmk
      rw [← hm2] at HST HUP
      have HM2 := hide hm2
      rw [← hm]
      clear hm hm2 hfd
      have F1 := L1.out.at
      simp only [AllAt, CellsAt, updL, List.map, Nat.zero_add, Nat.reduceAdd, and_true, World.size_alloc, World.heap_drewN, heap_drew, size_set, Nat.add_eq_left, Nat.left_eq_add, Nat.add_right_cancel_iff, ne_up2, ne_dn2, ne_up3, ne_dn3, ne_up4, ne_dn4, Nat.reduceEqDiff, Nat.one_ne_zero, Nat.succ_ne_zero, Nat.zero_ne_one, reduceIte, List.set_cons_zero, List.set_cons_succ] at F1
      by_cases hbig : 40000 < d
      · have HR2 : Hid (lineE ds a b' c d e f p q r = 8) := hide (if_pos (HST.out (by omega)))
        clear hge
        go_wp2
        go_ret
        refine ⟨ret_int HR2.out.symm, ?_⟩
        repeat (first | (with_reducible exact L1.out.below) | refine Below.setCell ?_ (by first | omega | (simp; done) | (simp; omega)) _ | refine Below.alloc ?_ (by first | omega | (simp; done) | (simp; omega)) _ | refine below_drewN ?_ _ | refine Below.drew ?_)
      · have HG := hide (gcd_plain m d (wr.alloc (.cells #[.int .i64 (c), .int .i64 (d)] 25)) (by omega) (by omega))
        obtain ⟨g, hg⟩ : ∃ g, g = Nat.gcd (d).natAbs m.natAbs := ⟨_, rfl⟩
        have hgp : 1 ≤ g := by rw [hg]; exact Nat.gcd_pos_of_pos_left _ (by omega)
        rw [← hg] at HG hge
        obtain ⟨hge1, hge2⟩ := hge
        obtain ⟨z, hz⟩ : ∃ z, z = m / (g : Int) := ⟨_, rfl⟩
        have hz1 : 0 ≤ z ∧ z ≤ 40000 := by rw [hz]; exact ⟨Int.ediv_nonneg (by omega) (by omega), Int.le_trans (Int.ediv_le_self _ (by omega)) (by omega)⟩
        rw [← hz] at hge2
        have hdv : m / (g : Int) = z := hz.symm
        have htd : m.tdiv (g : Int) = z := by rw [Int.tdiv_eq_ediv_of_nonneg (by omega)]; exact hdv
        have ng : ¬ (g : Int) = 0 := by omega
        have ng2 : ¬ g = 0 := by omega
        have W1 : IntKind.i64.wrap z = z := by rw [IntKind.wrap_i64]; omega
        have hpr := mul_bound (x := z) (y := d) 40000 40000 (by omega) (by omega)
        rw [show (40000 * 40000 : Nat) = 1600000000 from rfl, hge2] at hpr
        have W2 : IntKind.i64.wrap (z * d) = m2 := by rw [hge2, IntKind.wrap_i64]; omega
        clear hg hz hge2
        by_cases hup : m2 ≤ 40000
        · have HU2 : Hid (denUp 40000 (fr3 a b' c d e f) (1 + 1) = true) := by show _ = _; rw [HUP.out, HU.out]; simpa using hup
          go_wp2
          go_quiet ((go_at_call 52; first | with_reducible exact still_draw HG.out | with_reducible exact still_draw0 HG.out))
          go_wp2
          go_roundw
          case rel => exact ⟨1 + 1, by omega, by go_num, by rw [HM2.out], HU2, by rw [← HM2.out]; omega, hide ((L1.out.put _ _).drewN _ |>.of (by simp))⟩
          case measure => simp [intOf]
        · have HR2 : Hid (lineE ds a b' c d e f p q r = 8) := hide (if_pos (HST.out hup))
          have hup2 : 40000 < m2 := by omega
          go_wp2
          go_quiet ((go_at_call 52; first | with_reducible exact still_draw HG.out | with_reducible exact still_draw0 HG.out))
          go_wp2
          go_ret
          refine ⟨ret_int HR2.out.symm, ?_⟩
          exact below_drewN (L1.out.put _ _).below _
    · have hd := HDEN.out 2 (by show 2 < 3; omega)
      have hge := denTo_ge (fs := fr3 a b' c d e f) (k := 2) (by omega) hd
      have HST := hide (fun h => den_stop (fs := fr3 a b' c d e f) (k := 2) (by show 2 < 3; omega) h)
      have HUP : Hid (denUp 40000 (fr3 a b' c d e f) (2 + 1) = (denUp 40000 (fr3 a b' c d e f) 2 && decide (denTo (fr3 a b' c d e f) (2 + 1) ≤ 40000))) := rfl
      have hfd : fD (fr3 a b' c d e f) 2 = f := rfl
      rw [hfd] at hd hge
      obtain ⟨m, hm⟩ : ∃ m, m = denTo (fr3 a b' c d e f) 2 := ⟨_, rfl⟩
      obtain ⟨m2, hm2⟩ : ∃ m, m = denTo (fr3 a b' c d e f) (2 + 1) := ⟨_, rfl⟩
      rw [← hm, ← hm2] at hge
      rw [← hm] at hmk
      rw [← hm2] at HST HUP
      have HM2 := hide hm2
      rw [← hm]
      clear hm hm2 hfd
      have F1 := L1.out.at
      simp only [AllAt, CellsAt, updL, List.map, Nat.zero_add, Nat.reduceAdd, and_true, World.size_alloc, World.heap_drewN, heap_drew, size_set, Nat.add_eq_left, Nat.left_eq_add, Nat.add_right_cancel_iff, ne_up2, ne_dn2, ne_up3, ne_dn3, ne_up4, ne_dn4, Nat.reduceEqDiff, Nat.one_ne_zero, Nat.succ_ne_zero, Nat.zero_ne_one, reduceIte, List.set_cons_zero, List.set_cons_succ] at F1
      by_cases hbig : 40000 < f
      · have HR2 : Hid (lineE ds a b' c d e f p q r = 8) := hide (if_pos (HST.out (by omega)))
        clear hge
        go_wp2
        go_ret
        refine ⟨ret_int HR2.out.symm, ?_⟩
        repeat (first | (with_reducible exact L1.out.below) | refine Below.setCell ?_ (by first | omega | (simp; done) | (simp; omega)) _ | refine Below.alloc ?_ (by first | omega | (simp; done) | (simp; omega)) _ | refine below_drewN ?_ _ | refine Below.drew ?_)
      · have HG := hide (gcd_plain m f (wr.alloc (.cells #[.int .i64 (e), .int .i64 (f)] 25)) (by omega) (by omega))
        obtain ⟨g, hg⟩ : ∃ g, g = Nat.gcd (f).natAbs m.natAbs := ⟨_, rfl⟩
        have hgp : 1 ≤ g := by rw [hg]; exact Nat.gcd_pos_of_pos_left _ (by omega)
        rw [← hg] at HG hge
        obtain ⟨hge1, hge2⟩ := hge
        obtain ⟨z, hz⟩ : ∃ z, z = m / (g : Int) := ⟨_, rfl⟩
        have hz1 : 0 ≤ z ∧ z ≤ 40000 := by rw [hz]; exact ⟨Int.ediv_nonneg (by omega) (by omega), Int.le_trans (Int.ediv_le_self _ (by omega)) (by omega)⟩
        rw [← hz] at hge2
        have hdv : m / (g : Int) = z := hz.symm
        have htd : m.tdiv (g : Int) = z := by rw [Int.tdiv_eq_ediv_of_nonneg (by omega)]; exact hdv
        have ng : ¬ (g : Int) = 0 := by omega
        have ng2 : ¬ g = 0 := by omega
        have W1 : IntKind.i64.wrap z = z := by rw [IntKind.wrap_i64]; omega
        have hpr := mul_bound (x := z) (y := f) 40000 40000 (by omega) (by omega)
        rw [show (40000 * 40000 : Nat) = 1600000000 from rfl, hge2] at hpr
        have W2 : IntKind.i64.wrap (z * f) = m2 := by rw [hge2, IntKind.wrap_i64]; omega
        clear hg hz hge2
        by_cases hup : m2 ≤ 40000
        · have HU2 : Hid (denUp 40000 (fr3 a b' c d e f) (2 + 1) = true) := by show _ = _; rw [HUP.out, HU.out]; simpa using hup
          go_wp2
          go_quiet ((go_at_call 52; first | with_reducible exact still_draw HG.out | with_reducible exact still_draw0 HG.out))
          go_wp2
          go_roundw
          case rel => exact ⟨2 + 1, by omega, by go_num, by rw [HM2.out], HU2, by rw [← HM2.out]; omega, hide ((L1.out.put _ _).drewN _ |>.of (by simp))⟩
          case measure => simp [intOf]
        · have HR2 : Hid (lineE ds a b' c d e f p q r = 8) := hide (if_pos (HST.out hup))
          have hup2 : 40000 < m2 := by omega
          go_wp2
          go_quiet ((go_at_call 52; first | with_reducible exact still_draw HG.out | with_reducible exact still_draw0 HG.out))
          go_wp2
          go_ret
          refine ⟨ret_int HR2.out.symm, ?_⟩
          exact below_drewN (L1.out.put _ _).below _
    · have hden : denR 40000 (fr3 a b' c d e f) = denTo (fr3 a b' c d e f) 3 := if_pos HU.out
      obtain ⟨den, hde⟩ : ∃ x, x = denTo (fr3 a b' c d e f) 3 := ⟨_, rfl⟩
      rw [← hde] at hden hmk ⊢
      have hd0 : denR 40000 (fr3 a b' c d e f) ≠ 0 := by rw [hden]; omega
      have HD0 := hide hd0
      have HDE := hide hden
      clear hden hde hd0 HU HDEN hk
      rw [show ((3 : Nat) : Int) = 3 from rfl]
      have F1 := L1.out.at
      simp only [AllAt, CellsAt, updL, List.map, Nat.zero_add, Nat.reduceAdd, and_true, World.size_alloc, World.heap_drewN, heap_drew, size_set, Nat.add_eq_left, Nat.left_eq_add, Nat.add_right_cancel_iff, ne_up2, ne_dn2, ne_up3, ne_dn3, ne_up4, ne_dn4, Nat.reduceEqDiff, Nat.one_ne_zero, Nat.succ_ne_zero, Nat.zero_ne_one, reduceIte, List.set_cons_zero, List.set_cons_succ] at F1
      go_wp2
      go_loop [8] (fun i => i = .int .i64 0 ∨ (i = .int .i64 1 ∧ Hid (prI n p)) ∨ (i = .int .i64 2 ∧ Hid (prI n p) ∧ Hid (prI n q)) ∨ (i = .int .i64 3 ∧ Hid (prI n p) ∧ Hid (prI n q) ∧ Hid (prI n r))) (fun i => 3 - (intOf i).toNat)
      case atStart => exact Or.inl rfl
      case round =>
        rcases hrel with rfl | ⟨rfl, HA⟩ | ⟨rfl, HA, HB⟩ | ⟨rfl, HA, HB, HP⟩
        · by_cases hx : prI n p
          · have HI := hide (inR_pr hx)
            have HX := hide hx
            clear hx
            go_wp2_with fail
            refine Lv.same (within3_any p 0 ((n : Int) - 1) _) ?_
            rw [HI.out]
            go_wp2
            go_round
            case rel => exact Or.inr (Or.inl ⟨rfl, HX⟩)
            case measure => simp [intOf]
          · have HI := hide (inR_pr_no hx)
            have HE2 := hide (lineE_pr (ds := ds) (p := p) (q := q) (r := r) (E := 6) HN.out HD0.out (prE_in (fun hh => hx hh.1)) (by omega))
            clear hx
            go_wp2_with fail
            refine Lv.same (within3_any p 0 ((n : Int) - 1) _) ?_
            rw [HI.out]
            go_wp2
            go_ret
            exact ⟨ret_int HE2.out.symm, L1.out.below⟩
        · by_cases hx : prI n q
          · have HI := hide (inR_pr hx)
            have HX := hide hx
            clear hx
            go_wp2_with fail
            refine Lv.same (within3_any q 0 ((n : Int) - 1) _) ?_
            rw [HI.out]
            go_wp2
            go_round
            case rel => exact Or.inr (Or.inr (Or.inl ⟨rfl, HA, HX⟩))
            case measure => simp [intOf]
          · have HI := hide (inR_pr_no hx)
            have HE2 := hide (lineE_pr (ds := ds) (p := p) (q := q) (r := r) (E := 6) HN.out HD0.out (prE_in (fun hh => hx hh.2.1)) (by omega))
            clear hx
            go_wp2_with fail
            refine Lv.same (within3_any q 0 ((n : Int) - 1) _) ?_
            rw [HI.out]
            go_wp2
            go_ret
            exact ⟨ret_int HE2.out.symm, L1.out.below⟩
        · by_cases hx : prI n r
          · have HI := hide (inR_pr hx)
            have HX := hide hx
            clear hx
            go_wp2_with fail
            refine Lv.same (within3_any r 0 ((n : Int) - 1) _) ?_
            rw [HI.out]
            go_wp2
            go_round
            case rel => exact Or.inr (Or.inr (Or.inr ⟨rfl, HA, HB, HX⟩))
            case measure => simp [intOf]
          · have HI := hide (inR_pr_no hx)
            have HE2 := hide (lineE_pr (ds := ds) (p := p) (q := q) (r := r) (E := 6) HN.out HD0.out (prE_in (fun hh => hx hh.2.2)) (by omega))
            clear hx
            go_wp2_with fail
            refine Lv.same (within3_any r 0 ((n : Int) - 1) _) ?_
            rw [HI.out]
            go_wp2
            go_ret
            exact ⟨ret_int HE2.out.symm, L1.out.below⟩
        · have hpr : prI n p ∧ prI n q ∧ prI n r := ⟨HA.out, HB.out, HP.out⟩
          have HPE := hide (prE_as hpr)
          clear HA HB HP
          by_cases h0 : p < q
          · by_cases h1 : q < r
            · have HE2 := hide (lineE_go (ds := ds) HN.out HD0.out (HPE.out.trans (if_pos ⟨h0, h1⟩)))
              rw [HDE.out] at HE2
              unfold prI at hpr
              clear HPE HD0 HDE
              obtain ⟨⟨zb0, zb1⟩, hS0, hS1⟩ := scF_in x1 y1.1 hmk
              obtain ⟨⟨zd0, zd1⟩, hK0, hK1⟩ := scF_in x2 y2.1 hmk
              obtain ⟨⟨zf0, zf1⟩, hM0, hM1⟩ := scF_in x3 y3.1 hmk
              have eS : scF a b' den = a * (den / b') := rfl
              have eK : scF c d den = c * (den / d) := rfl
              have eM : scF e f den = e * (den / f) := rfl
              obtain ⟨S, hSe⟩ : ∃ x, x = scF a b' den := ⟨_, rfl⟩
              obtain ⟨K, hKe⟩ : ∃ x, x = scF c d den := ⟨_, rfl⟩
              obtain ⟨M, hMe⟩ : ∃ x, x = scF e f den := ⟨_, rfl⟩
              obtain ⟨z1, hz1⟩ : ∃ x, x = den / b' := ⟨_, rfl⟩
              obtain ⟨z2, hz2⟩ : ∃ x, x = den / d := ⟨_, rfl⟩
              obtain ⟨z3, hz3⟩ : ∃ x, x = den / f := ⟨_, rfl⟩
              rw [← hSe] at hS0 hS1 HE2 eS
              rw [← hKe] at hK0 hK1 HE2 eK
              rw [← hMe] at hM0 hM1 HE2 eM
              rw [← hz1] at zb0 zb1 eS
              rw [← hz2] at zd0 zd1 eK
              rw [← hz3] at zf0 zf1 eM
              have dv1 : den / b' = z1 := hz1.symm
              have dv2 : den / d = z2 := hz2.symm
              have dv3 : den / f = z3 := hz3.symm
              have td1 : den.tdiv b' = z1 := by rw [Int.tdiv_eq_ediv_of_nonneg (by omega)]; exact dv1
              have td2 : den.tdiv d = z2 := by rw [Int.tdiv_eq_ediv_of_nonneg (by omega)]; exact dv2
              have td3 : den.tdiv f = z3 := by rw [Int.tdiv_eq_ediv_of_nonneg (by omega)]; exact dv3
              have nb : ¬ b' = 0 := by omega
              have nd : ¬ d = 0 := by omega
              have nf : ¬ f = 0 := by omega
              have Wz1 : IntKind.i64.wrap z1 = z1 := by rw [IntKind.wrap_i64]; omega
              have Wz2 : IntKind.i64.wrap z2 = z2 := by rw [IntKind.wrap_i64]; omega
              have Wz3 : IntKind.i64.wrap z3 = z3 := by rw [IntKind.wrap_i64]; omega
              have WS : IntKind.i64.wrap (a * z1) = S := by rw [← eS, IntKind.wrap_i64]; omega
              have WK : IntKind.i64.wrap (c * z2) = K := by rw [← eK, IntKind.wrap_i64]; omega
              have WM : IntKind.i64.wrap (e * z3) = M := by rw [← eM, IntKind.wrap_i64]; omega
              clear eS eK eM hSe hKe hMe hz1 hz2 hz3
              go_wp2
              go_quiet (fail)
              have L2 := hide (L1.out.drewN nq)
              obtain ⟨wq, hwq⟩ : ∃ v : World, v = wr.drewN nq := ⟨_, rfl⟩
              rw [← hwq] at L2 ⊢
              clear hwq dv1 dv2 dv3 td1 td2 td3 Wz1 Wz2 Wz3 WS WK WM F1 L1 zb0 zb1 zd0 zd1 zf0 zf1 x1 x2 x3 y1 y2 y3 nb nd nf q0 q1 q2
              have HO0 : Hid (wq.ownsRow (w.heap.size + 1) 3 1 (.slice none 0 0) 0 (i64s (offTo ds den S K 0))) := ⟨by simp [i64s, offTo], Or.inl ⟨rfl, by simp⟩⟩
              go_wp2
              go_loopw [12, 13] (fun s12 i wr => ∃ k : Nat, k ≤ n ∧ i = .int .i64 k ∧ Hid (k = 0 → s12 = .slice none 0 0) ∧ Hid (wr.ownsRow (w.heap.size + 1) 3 1 s12 k (i64s (offTo ds den S K k))) ∧ Hid (∀ j, j < k → -M ≤ offL ds den S K j ∧ offL ds den S K j ≤ M) ∧
                Hid (Lv w wr [(w.heap.size, 55, [.int .i64 a, .int .i64 b', .int .i64 c, .int .i64 d, .int .i64 e, .int .i64 f, .int .i64 p, .int .i64 q, .int .i64 r])])) (fun _ i _ => n - (intOf i).toNat)
              case atStart => exact ⟨0, by omega, rfl, hide (fun _ => rfl), HO0, hide (fun j hj => by omega), L2⟩
              case round =>
                obtain ⟨k, hk, rfl, H0, HO, HK, L1⟩ := hrel
                by_cases hlt : k < n
                · have z1 := (L1.out.below.cell (by exact hb)).trans (HC.out k (by rw [HN.out]; exact hlt)).1
                  have z2 := (L1.out.below.cell (by exact hb)).trans (HC.out k (by rw [HN.out]; exact hlt)).2
                  obtain ⟨o1, o2, o3⟩ := offL_in (i := k) (HOK.out.inX k (by rw [HN.out]; exact hlt)) (HOK.out.inY k (by rw [HN.out]; exact hlt)) hmk ⟨hS0, hS1⟩ ⟨hK0, hK1⟩
                  have HOF : Hid (offL ds den S K k = dY ds k * den - S - K * dX ds k) := rfl
                  have HSN := hide (offTo_snoc (ds := ds) (den := den) (S := S) (K := K) (k := k))
                  obtain ⟨x, hx⟩ : ∃ x, x = dX ds k := ⟨_, rfl⟩
                  obtain ⟨y, hy⟩ : ∃ x, x = dY ds k := ⟨_, rfl⟩
                  obtain ⟨u, hu⟩ : ∃ x, x = offL ds den S K k := ⟨_, rfl⟩
                  have qx : wr.cell? ⟨b, off + k * 2, none⟩ = some (.int .i64 x) := by rw [hx]; exact z1
                  have qy : wr.cell? ⟨b, off + k * 2 + 1, none⟩ = some (.int .i64 y) := by rw [hy]; exact z2
                  rw [← hx] at o2 HOF
                  rw [← hy] at o1 HOF
                  rw [← hu] at o3 HOF HSN
                  have HUE := hide hu
                  have W1 : IntKind.i64.wrap (y * den) = y * den := by rw [IntKind.wrap_i64]; omega
                  have W2 : IntKind.i64.wrap (K * x) = K * x := by rw [IntKind.wrap_i64]; omega
                  have W3 : IntKind.i64.wrap (y * den - S) = y * den - S := by rw [IntKind.wrap_i64]; omega
                  have W4 : IntKind.i64.wrap (y * den - S - K * x) = u := by rw [HOF.out, IntKind.wrap_i64]; have := HOF.out; omega
                  have hsz := L1.out.size
                  have hbr : b < wr.heap.size := by omega
                  have hlt' : (k : Int) < (n : Int) := by omega
                  have hown := HO.out
                  have hS1' : w.heap.size + 1 ≤ wr.heap.size := (L1.out.get (g := w.heap.size) (t := 55) (cs := [.int .i64 a, .int .i64 b', .int .i64 c, .int .i64 d, .int .i64 e, .int .i64 f, .int .i64 p, .int .i64 q, .int .i64 r]) (by simp)).lt
                  clear hx hy hu z1 z2
                  have HABS := hide (fun W => abs_any u W (by omega) (by omega))
                  obtain ⟨i0, hi, hz0, hz1, hz2⟩ := info_parts info_int
                  rcases Nat.eq_zero_or_pos k with hk0 | hk0
                  · obtain rfl := H0.out hk0
                    clear hk0
                    go_wp2
                    go_region_held3 (fun w' => w'.cell? ⟨b, off + k * 2, none⟩ = some (.int .i64 x) ∧ w'.cell? ⟨b, off + k * 2 + 1, none⟩ = some (.int .i64 y))
                      (first | go_keep | (go_split_ands; refine ⟨?_, ?_⟩; (all_goals (rw [hgrow.cell_far _ (by simp; omega) (by simp [Value.ownBlock]; try omega)]; assumption))))
                      ((refine step_append_lies _ (by rfl) _ _ _ (by rfl) (w.heap.size + 1) 3 i0 _ 1 8 Try.underlying39 hi hz0 hz1 hz2 rfl (by omega) (.slice none 0 0) k (i64s (offTo ds den S K k)) (by rfl) ((hown.alloc _).drew) ⟨wr.heap.size, 0, none⟩ 1 1 [.int .i64 u] (by rfl) (by rfl) (World.news_of_block (cs := #[.int .i64 u]) (t := 3) (fr := (0, 0)) (heap_alloc_new wr _)) (by simp [Value.oneCell']) (by omega) (by unfold maxLen; omega) (by omega) (by simp; omega) (wr.heap.size + 1) (by simp) ?_; intro gg cap2 w1 hown1 hgrow hat hlt9))
                    have HO2 : Hid (w1.ownsRow (w.heap.size + 1) 3 1 (.slice (some ⟨gg, 0, none⟩) (k + 1) cap2) (k + 1) (i64s (offTo ds den S K (k + 1)))) := by
                      rw [i64s_snoc, ← HSN.out] at hown1
                      exact hide hown1
                    have L2 := hide (((L1.out.other (.cells #[.int .i64 u] 3)).drew).grown hgrow (fun j hj => by simp [Value.ownBlock] at hj; try omega) (fun x hx => by simp at hx; subst hx; simp [Value.ownBlock]; try omega))
                    have qu : w1.cell? ⟨gg, k, none⟩ = some (.int .i64 u) := by rw [HO2.out.cellAt k (by omega), i64s_get (by rw [offTo_len]; omega), offTo_get (by omega), HUE.out]
                    have hkk : (k : Int) < (k : Int) + 1 := by omega
                    have hgl := (HO2.out.lt gg rfl).2
                    clear hown1 hgrow hat hlt9 hown qx qy W1 W2 W3 W4 hbr
                    by_cases hbk : M < (u.natAbs : Int)
                    · have HE3 : Hid (lineE ds a b' c d e f p q r = 26) := HE2.out.trans (if_pos (fun h => by have := h k (by rw [HN.out]; exact hlt); rw [← HUE.out] at this; omega))
                      go_wp2_with fail
                      refine Lv.same (HABS.out _) ?_
                      go_wp2
                      go_ret
                      exact ⟨ret_int HE3.out.symm, L2.out.below⟩
                    · have HK2 : Hid (∀ j, j < k + 1 → -M ≤ offL ds den S K j ∧ offL ds den S K j ≤ M) := hide (fun j hj => by
                        rcases Nat.lt_or_ge j k with h | h
                        · exact HK.out j h
                        · obtain rfl : k = j := by omega
                          rw [← HUE.out]; omega)
                      go_wp2_with fail
                      refine Lv.same (HABS.out _) ?_
                      go_wp2
                      go_roundw
                      case rel => exact ⟨k + 1, by omega, by go_num, hide (fun h => by omega), HO2, HK2, L2⟩
                      case measure => simp [intOf]; omega
                  · obtain ⟨g, cp, rfl⟩ := slice_own hown hk0
                    have lgg := (hown.lt g rfl).1
                    go_wp2
                    go_region_held3 (fun w' => w'.cell? ⟨b, off + k * 2, none⟩ = some (.int .i64 x) ∧ w'.cell? ⟨b, off + k * 2 + 1, none⟩ = some (.int .i64 y))
                      (first | go_keep | (go_split_ands; refine ⟨?_, ?_⟩; (all_goals (rw [hgrow.cell_far _ (by simp; omega) (by simp [Value.ownBlock]; try omega)]; assumption))))
                      ((refine step_append_lies _ (by rfl) _ _ _ (by rfl) (w.heap.size + 1) 3 i0 _ 1 8 Try.underlying39 hi hz0 hz1 hz2 rfl (by omega) (.slice (some ⟨g, 0, none⟩) k cp) k (i64s (offTo ds den S K k)) (by rfl) ((hown.alloc _).drew) ⟨wr.heap.size, 0, none⟩ 1 1 [.int .i64 u] (by rfl) (by rfl) (World.news_of_block (cs := #[.int .i64 u]) (t := 3) (fr := (0, 0)) (heap_alloc_new wr _)) (by simp [Value.oneCell']) (by omega) (by unfold maxLen; omega) (by omega) (by simp; omega) (wr.heap.size + 1) (by simp) ?_; intro gg cap2 w1 hown1 hgrow hat hlt9))
                    have HO2 : Hid (w1.ownsRow (w.heap.size + 1) 3 1 (.slice (some ⟨gg, 0, none⟩) (k + 1) cap2) (k + 1) (i64s (offTo ds den S K (k + 1)))) := by
                      rw [i64s_snoc, ← HSN.out] at hown1
                      exact hide hown1
                    have L2 := hide (((L1.out.other (.cells #[.int .i64 u] 3)).drew).grown hgrow (fun j hj => by simp [Value.ownBlock] at hj; try omega) (fun x hx => by simp at hx; subst hx; simp [Value.ownBlock]; try omega))
                    have qu : w1.cell? ⟨gg, k, none⟩ = some (.int .i64 u) := by rw [HO2.out.cellAt k (by omega), i64s_get (by rw [offTo_len]; omega), offTo_get (by omega), HUE.out]
                    have hkk : (k : Int) < (k : Int) + 1 := by omega
                    have hgl := (HO2.out.lt gg rfl).2
                    clear hown1 hgrow hat hlt9 hown qx qy W1 W2 W3 W4 hbr
                    by_cases hbk : M < (u.natAbs : Int)
                    · have HE3 : Hid (lineE ds a b' c d e f p q r = 26) := HE2.out.trans (if_pos (fun h => by have := h k (by rw [HN.out]; exact hlt); rw [← HUE.out] at this; omega))
                      go_wp2_with fail
                      refine Lv.same (HABS.out _) ?_
                      go_wp2
                      go_ret
                      exact ⟨ret_int HE3.out.symm, L2.out.below⟩
                    · have HK2 : Hid (∀ j, j < k + 1 → -M ≤ offL ds den S K j ∧ offL ds den S K j ≤ M) := hide (fun j hj => by
                        rcases Nat.lt_or_ge j k with h | h
                        · exact HK.out j h
                        · obtain rfl : k = j := by omega
                          rw [← HUE.out]; omega)
                      go_wp2_with fail
                      refine Lv.same (HABS.out _) ?_
                      go_wp2
                      go_roundw
                      case rel => exact ⟨k + 1, by omega, by go_num, hide (fun h => by omega), HO2, HK2, L2⟩
                      case measure => simp [intOf]; omega
                · obtain rfl : n = k := by omega
                  have hall : allIn ds den S K M := fun j hj => HK.out j (by rw [← HN.out]; exact hj)
                  have HR : Hid (lineE ds a b' c d e f p q r = if prOk ds den S K M p q r then 0 else 22) := HE2.out.trans (if_neg (fun h => h hall))
                  obtain ⟨P, rfl⟩ := Int.eq_ofNat_of_zero_le hpr.1.1
                  obtain ⟨Q, rfl⟩ := Int.eq_ofNat_of_zero_le hpr.2.1.1
                  obtain ⟨R, rfl⟩ := Int.eq_ofNat_of_zero_le hpr.2.2.1
                  have hP : P < n := by omega
                  have hQ : Q < n := by omega
                  have hR : R < n := by omega
                  obtain ⟨gg, cap2, rfl⟩ := slice_own HO.out (by omega)
                  have cell : ∀ j, j < n → wr.cell? ⟨gg, j, none⟩ = some (.int .i64 (offL ds den S K j)) := fun j hj => by rw [HO.out.cellAt j (by omega), i64s_get (by rw [offTo_len]; omega), offTo_get hj]
                  have C1 := cell P hP
                  have C2 := cell Q hQ
                  have C3 := cell R hR
                  have oP := (offL_in (i := P) (HOK.out.inX P (by rw [HN.out]; exact hP)) (HOK.out.inY P (by rw [HN.out]; exact hP)) hmk ⟨hS0, hS1⟩ ⟨hK0, hK1⟩).2.2
                  have oQ := (offL_in (i := Q) (HOK.out.inX Q (by rw [HN.out]; exact hQ)) (HOK.out.inY Q (by rw [HN.out]; exact hQ)) hmk ⟨hS0, hS1⟩ ⟨hK0, hK1⟩).2.2
                  have oR := (offL_in (i := R) (HOK.out.inX R (by rw [HN.out]; exact hR)) (HOK.out.inY R (by rw [HN.out]; exact hR)) hmk ⟨hS0, hS1⟩ ⟨hK0, hK1⟩).2.2
                  have HPO : Hid (prOk ds den S K M P Q R ↔ ((offL ds den S K P).natAbs : Int) = M ∧ offL ds den S K Q = -offL ds den S K P ∧ offL ds den S K R = offL ds den S K P) := Iff.rfl
                  obtain ⟨u1, hu1⟩ : ∃ u, u = offL ds den S K P := ⟨_, rfl⟩
                  obtain ⟨u2, hu2⟩ : ∃ u, u = offL ds den S K Q := ⟨_, rfl⟩
                  obtain ⟨u3, hu3⟩ : ∃ u, u = offL ds den S K R := ⟨_, rfl⟩
                  rw [← hu1] at C1 oP HPO
                  rw [← hu2] at C2 oQ HPO
                  rw [← hu3] at C3 oR HPO
                  have lg := (HO.out.lt gg rfl).2
                  have HABS := hide (fun W => abs_any u1 W (by omega) (by omega))
                  have gP : (P : Int) < (n : Int) := by omega
                  have gQ : (Q : Int) < (n : Int) := by omega
                  have gR : (R : Int) < (n : Int) := by omega
                  obtain ⟨v1, hv1⟩ : ∃ v : Int, v = (u1.natAbs : Int) := ⟨_, rfl⟩
                  rw [← hv1] at HABS HPO
                  have F1 := L1.out.at
                  have F1 := L1.out.at
                  simp only [AllAt, CellsAt, updL, List.map, Nat.zero_add, Nat.reduceAdd, and_true, World.size_alloc, World.heap_drewN, heap_drew, size_set, Nat.add_eq_left, Nat.left_eq_add, Nat.add_right_cancel_iff, ne_up2, ne_dn2, ne_up3, ne_dn3, ne_up4, ne_dn4, Nat.reduceEqDiff, Nat.one_ne_zero, Nat.succ_ne_zero, Nat.zero_ne_one, reduceIte, List.set_cons_zero, List.set_cons_succ] at F1
                  clear hu1 hu2 hu3 hall HK hlt hpr cell hP hQ hR hv1 HE2
                  by_cases k1 : v1 = M
                  · have f1 : ((v1 : Int) != M) = false := by rw [bne_eq_false_iff_eq]; exact k1
                    by_cases k2 : u1 = -u2
                    · have f2 : ((u1 : Int) != -u2) = false := by rw [bne_eq_false_iff_eq]; exact k2
                      by_cases k3 : u2 = -u3
                      · have f3 : ((u2 : Int) != -u3) = false := by rw [bne_eq_false_iff_eq]; exact k3
                        have HR2 : Hid (lineE ds a b' c d e f P Q R = 0) := HR.out.trans (if_pos (HPO.out.2 ⟨k1, by omega, by omega⟩))
                        clear k1 k2 k3 HR HPO
                        go_wp2
                        go_quiet (fail)
                        go_wp2_with fail
                        refine Lv.same (HABS.out _) ?_
                        go_wp2
                        go_ret
                        exact ⟨ret_int HR2.out.symm, below_drewN L1.out.below _⟩
                      · have f3 : ((u2 : Int) != -u3) = true := by rw [bne_iff_ne]; exact k3
                        have HR2 : Hid (lineE ds a b' c d e f P Q R = 22) := HR.out.trans (if_neg (fun h => k3 (by have := HPO.out.1 h; omega)))
                        clear k1 k2 k3 HR HPO
                        go_wp2
                        go_quiet (fail)
                        go_wp2_with fail
                        refine Lv.same (HABS.out _) ?_
                        go_wp2
                        go_ret
                        exact ⟨ret_int HR2.out.symm, below_drewN L1.out.below _⟩
                    · have f2 : ((u1 : Int) != -u2) = true := by rw [bne_iff_ne]; exact k2
                      have HR2 : Hid (lineE ds a b' c d e f P Q R = 22) := HR.out.trans (if_neg (fun h => k2 (by have := HPO.out.1 h; omega)))
                      clear k1 k2 HR HPO
                      go_wp2
                      go_quiet (fail)
                      go_wp2_with fail
                      refine Lv.same (HABS.out _) ?_
                      go_wp2
                      go_ret
                      exact ⟨ret_int HR2.out.symm, below_drewN L1.out.below _⟩
                  · have f1 : ((v1 : Int) != M) = true := by rw [bne_iff_ne]; exact k1
                    have HR2 : Hid (lineE ds a b' c d e f P Q R = 22) := HR.out.trans (if_neg (fun h => k1 (HPO.out.1 h).1))
                    clear k1 HR HPO
                    go_wp2
                    go_quiet (fail)
                    go_wp2_with fail
                    refine Lv.same (HABS.out _) ?_
                    go_wp2
                    go_ret
                    exact ⟨ret_int HR2.out.symm, below_drewN L1.out.below _⟩
            · have HE2 := hide (lineE_pr (ds := ds) (E := 9) HN.out HD0.out (HPE.out.trans (if_neg fun h => h1 h.2)) (by omega))
              have h1' : r ≤ q := by omega
              clear HPE hpr
              go_wp2
              go_ret
              exact ⟨ret_int HE2.out.symm, L1.out.below⟩
          · have HE2 := hide (lineE_pr (ds := ds) (E := 9) HN.out HD0.out (HPE.out.trans (if_neg fun h => h0 h.1)) (by omega))
            have h1' : q ≤ p := by omega
            clear HPE hpr
            go_wp2
            go_ret
            exact ⟨ret_int HE2.out.symm, L1.out.below⟩
end Go.Proofs.Ytnilfacofikoaaa
