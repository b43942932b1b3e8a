/- Contracts of number.CheckFrac and number.lowest. -/
import Derived.Test.YtdhbjklbgdnfmaaPitch
namespace Go.Proofs.Ytdhbjklbgdnfmaa
open Go.RowKit

theorem gcdAll_two (n d : Int) : gcdAll [n, d] = Nat.gcd n.natAbs d.natAbs := by simp [gcdAll]
/-- A fraction's error: not in lowest terms (3), too great (2), or none. -/
def lowF (n d : Int) : Prop := 1 ≤ d ∧ Nat.gcd n.natAbs d.natAbs = 1
def okF (n d : Int) : Prop := lowF n d ∧ (-1000000000 ≤ n ∧ n ≤ 1000000000) ∧ d ≤ 1000000000
instance (n d : Int) : Decidable (lowF n d) := inferInstanceAs (Decidable (_ ∧ _))
instance (n d : Int) : Decidable (okF n d) := inferInstanceAs (Decidable (_ ∧ _))
def fracErr (n d : Int) : Int := if lowF n d then (if okF n d then 0 else 2) else 3

set_option maxHeartbeats 1000000 in
theorem checkFrac_any (n d : Int) (w : World) (hn : -9223372036854775808 ≤ n ∧ n ≤ 9223372036854775807) (hd : -9223372036854775808 ≤ d ∧ d ≤ 9223372036854775807) :
    Calls Try.prog 116 #[.agg #[.int .i64 n, .int .i64 d]] w fun e w' => e = .returned (.int .i64 (fracErr n d)) ∧ Below w.heap.size w w' := by
  by_cases h1 : d < 1
  · have HE : Hid (fracErr n d = 3) := if_neg fun h => by have := h.1; omega
    go_enter Try.func116, Try.ntmps116
    go_wp2
    go_ret
    exact ⟨ret_int HE.out.symm, (Below.refl _ _).alloc (Nat.le_refl _) _⟩
  · have hgl : Nat.gcd n.natAbs d.natAbs ≤ 9223372036854775807 := by have := Nat.gcd_le_right n.natAbs (n := d.natAbs) (by omega); omega
    have HGL := hide hgl
    clear hgl
    go_enter Try.func116, Try.ntmps116
    go_wp2_with fail
    refine (commonDivisor_any _ 2 _ [n, d] _ rfl (by omega) ?_ ?_ (by rw [gcdAll_two]; exact HGL.out)).mono ?_
    · intro j hj
      rw [World.cell?_alloc_at _ _ _ _ (by simp)]
      match j, hj with
      | 0, _ => rfl
      | 1, _ => rfl
    · intro z hz
      simp at hz
      omega
    rintro e w1 ⟨rfl, m, rfl⟩
    rw [gcdAll_two]
    obtain ⟨g, hge⟩ : ∃ g, g = Nat.gcd n.natAbs d.natAbs := ⟨_, rfl⟩
    rw [← hge]
    have HG := hide hge
    clear hge
    by_cases hg1 : g = 1
    · subst hg1
      have HLF : Hid (lowF n d) := ⟨by omega, HG.out.symm⟩
      by_cases h2 : -1000000000 ≤ n ∧ n ≤ 1000000000
      · have hb : inB n 1000000000 = true := inB_yes h2
        by_cases h3 : 1000000000 < d
        · have HE : Hid (fracErr n d = 2) := (if_pos HLF.out).trans (if_neg fun h => by have := h.2.2; omega)
          go_wp2_with (go_at_call 115; refine (within_any _ _ _ (by omega) (by omega)).mono ?_; rintro e w' ⟨rfl, rfl⟩)
          go_ret
          refine ⟨ret_int HE.out.symm, ?_⟩
          repeat (first | exact Below.refl _ _ | refine Below.alloc ?_ (by first | omega | (simp; done) | (simp; omega)) _ | refine below_drewN ?_ _)
        · have HE : Hid (fracErr n d = 0) := (if_pos HLF.out).trans (if_pos ⟨HLF.out, h2, by omega⟩)
          go_wp2_with (go_at_call 115; refine (within_any _ _ _ (by omega) (by omega)).mono ?_; rintro e w' ⟨rfl, rfl⟩)
          go_ret
          refine ⟨ret_int HE.out.symm, ?_⟩
          repeat (first | exact Below.refl _ _ | refine Below.alloc ?_ (by first | omega | (simp; done) | (simp; omega)) _ | refine below_drewN ?_ _)
      · have hb : inB n 1000000000 = false := inB_no h2
        have HE : Hid (fracErr n d = 2) := (if_pos HLF.out).trans (if_neg fun h => h2 h.2.1)
        clear h2
        go_wp2_with (go_at_call 115; refine (within_any _ _ _ (by omega) (by omega)).mono ?_; rintro e w' ⟨rfl, rfl⟩)
        go_ret
        refine ⟨ret_int HE.out.symm, ?_⟩
        repeat (first | exact Below.refl _ _ | refine Below.alloc ?_ (by first | omega | (simp; done) | (simp; omega)) _ | refine below_drewN ?_ _)
    · have hb : ((g : Int) == 1) = false := by rw [beq_eq_false_iff_ne]; omega
      have hb2 : ((g : Int) != 1) = true := by rw [bne_iff_ne]; omega
      have HE : Hid (fracErr n d = 3) := if_neg fun h => hg1 (HG.out.trans h.2)
      clear hg1
      go_wp2
      go_ret
      refine ⟨ret_int HE.out.symm, ?_⟩
      repeat (first | exact Below.refl _ _ | refine Below.alloc ?_ (by first | omega | (simp; done) | (simp; omega)) _ | refine below_drewN ?_ _)

/-- num / den in lowest terms: is it a valid fraction? Its parts, or zeros, and its error. -/
def gcdF (n d : Int) : Nat := Nat.gcd n.natAbs d.natAbs
def fitF (n d : Int) : Prop := okF (n.tdiv (gcdF n d)) (d / (gcdF n d))
instance (n d : Int) : Decidable (fitF n d) := inferInstanceAs (Decidable (okF _ _))
def lN (n d : Int) : Int := if fitF n d then n.tdiv (gcdF n d) else 0
def lD (n d : Int) : Int := if fitF n d then d / (gcdF n d) else 0
def lE (n d : Int) : Int := if fitF n d then 0 else 8
theorem gcdF_pos {n d : Int} (h : 1 ≤ d) : 1 ≤ gcdF n d := Nat.gcd_pos_of_pos_right _ (by omega)
theorem gcdF_le {n d : Int} (h : 1 ≤ d) : (gcdF n d : Int) ≤ d := by
  have := Nat.gcd_le_right n.natAbs (n := d.natAbs) (by omega)
  unfold gcdF
  omega
theorem tdiv_in {a : Int} {g : Nat} (h : -9223372036854775808 ≤ a ∧ a ≤ 9223372036854775807) (h2 : -9223372036854775807 ≤ a) : -9223372036854775807 ≤ a.tdiv g ∧ a.tdiv g ≤ 9223372036854775807 := by
  have e : (a.tdiv g).natAbs = a.natAbs / (g : Int).natAbs := Int.natAbs_tdiv a g
  have l := Nat.div_le_self a.natAbs (g : Int).natAbs
  omega
/-- What lowest makes is in lowest terms. -/
theorem lowF_lowest {n d : Int} (h : 1 ≤ d) : lowF (n.tdiv (gcdF n d)) (d / (gcdF n d)) := by
  have hg := gcdF_pos (n := n) h
  refine ⟨by rw [Int.le_ediv_iff_mul_le (by omega)]; have := gcdF_le (n := n) h; omega, ?_⟩
  rw [Int.natAbs_tdiv]
  have e : (d / (gcdF n d : Int)).natAbs = d.natAbs / gcdF n d := by
    obtain ⟨m, rfl⟩ := Int.eq_ofNat_of_zero_le (show 0 ≤ d by omega)
    rw [← Int.natCast_ediv]
    rfl
  rw [e]
  exact Nat.gcd_div_gcd_div_gcd_of_pos_right (by omega)

set_option maxHeartbeats 1000000 in
set_option maxRecDepth 100000 in
theorem lowest_any (n d : Int) (w : World) (hn : -9223372036854775807 ≤ n ∧ n ≤ 9223372036854775807) (hd : 1 ≤ d ∧ d ≤ 9223372036854775807) :
    Calls Try.prog 75 #[.int .i64 n, .int .i64 d] w fun e w' => e = .returned (.tuple #[.agg #[.int .i64 (lN n d), .int .i64 (lD n d)], .int .i64 (lE n d)]) ∧ Below w.heap.size w w' := by
  have hg := gcdF_pos (n := n) hd.1
  have hgl := gcdF_le (n := n) hd.1
  go_enter Try.func75, Try.ntmps75
  go_wp2_with fail
  refine (commonDivisor_any _ 2 _ [n, d] _ rfl (by omega) ?_ ?_ (by rw [gcdAll_two]; have : (gcdF n d : Int) ≤ d := hgl; unfold gcdF at this; omega)).mono ?_
  · intro j hj
    rw [World.cell?_alloc_at _ _ _ _ (by simp)]
    match j, hj with
    | 0, _ => rfl
    | 1, _ => rfl
  · intro z hz
    simp at hz
    omega
  rintro e w1 ⟨rfl, m, rfl⟩
  rw [gcdAll_two]
  have eg : Nat.gcd n.natAbs d.natAbs = gcdF n d := rfl
  rw [eg]
  obtain ⟨g, hge⟩ : ∃ g, g = gcdF n d := ⟨_, rfl⟩
  have EV : Hid (g = gcdF n d) := hge
  rw [← hge] at hg hgl ⊢
  have hb1 : -9223372036854775807 ≤ n.tdiv g ∧ n.tdiv g ≤ 9223372036854775807 := tdiv_in (by omega) (by omega)
  have hb2 : -9223372036854775807 ≤ d / g ∧ d / g ≤ 9223372036854775807 := ediv_bounds (by omega) (by omega) (by omega) (by omega)
  clear eg hge
  go_wp2
  go_region
  go_wp2_with fail
  refine (checkFrac_any _ _ _ (by omega) (by omega)).mono ?_
  rintro e w2 ⟨rfl, hb⟩
  have R2 : Hid (Blk w2 w.heap.size 29 #[.int .i64 0, .int .i64 0]) := ((((Blk.new w _ _ _ rfl).alloc _).drewN _).alloc _).kept hb
  have B2 : Hid (Blk w2 (w.heap.size + 1 + 1) 29 #[.int .i64 (n.tdiv g), .int .i64 (d / g)]) := (Blk.new _ _ _ _ (by simp)).kept hb
  obtain ⟨⟨t0, t1⟩, f0, f1⟩ := R2.out.c2
  obtain ⟨⟨s0, s1⟩, _⟩ := B2.out.c2
  have hsz2 : w.heap.size + 3 ≤ w2.heap.size := by have := hb.size; simpa using this
  have HB : Hid (Below w.heap.size w w2) := by
    refine Below.trans ?_ (hb.mono (by simp; omega))
    repeat (first | exact Below.refl _ _ | refine Below.alloc ?_ (by first | omega | (simp; done) | (simp; omega)) _ | refine below_drewN ?_ _)
  clear hb hb1 hb2
  have hlow : lowF (n.tdiv g) (d / g) := by rw [EV.out]; exact lowF_lowest hd.1
  by_cases hok : okF (n.tdiv g) (d / g)
  · have HE : Hid (fracErr (n.tdiv g) (d / g) = 0) := (if_pos hlow).trans (if_pos hok)
    have HV : Hid ((.tuple #[.agg #[.int .i64 (lN n d), .int .i64 (lD n d)], .int .i64 (lE n d)] : Value) = .tuple #[.agg #[.int .i64 (n.tdiv g), .int .i64 (d / g)], .int .i64 0]) := by
      have hf : fitF n d := by unfold fitF; rw [← EV.out]; exact hok
      show _ = _
      unfold lN lD lE
      rw [if_pos hf, if_pos hf, if_pos hf, ← EV.out]
    clear hok hlow EV
    rw [HE.out]
    go_wp2
    refine bodyPost_ret (v := .tuple #[.agg #[.int .i64 (n.tdiv g), .int .i64 (d / g)], .int .i64 0]) (by simp [results, Try.results75, go_sem, t0, t1]) rfl ⟨by rw [HV.out], ?_⟩
    repeat (first | exact HB.out | refine Below.setCell ?_ (by simp) _)
  · have HE : Hid (fracErr (n.tdiv g) (d / g) = 2) := (if_pos hlow).trans (if_neg hok)
    have HV : Hid ((.tuple #[.agg #[.int .i64 (lN n d), .int .i64 (lD n d)], .int .i64 (lE n d)] : Value) = .tuple #[.agg #[.int .i64 0, .int .i64 0], .int .i64 8]) := by
      have hf : ¬ fitF n d := by unfold fitF; rw [← EV.out]; exact hok
      show _ = _
      unfold lN lD lE
      rw [if_neg hf, if_neg hf, if_neg hf]
    clear hok hlow EV
    rw [HE.out]
    go_wp2
    refine bodyPost_ret (v := .tuple #[.agg #[.int .i64 0, .int .i64 0], .int .i64 8]) (by simp [results, Try.results75, go_sem, t0, t1]) rfl ⟨by rw [HV.out], ?_⟩
    repeat (first | exact HB.out | refine Below.setCell ?_ (by simp) _)
end Go.Proofs.Ytdhbjklbgdnfmaa
