/- The best line is accepted, with its three dots as a proof. -/
import Derived.Test.YtjomcobhinnikaaLineM
namespace Go.Proofs.Ytjomcobhinnikaa
open Go.RowKit
set_option linter.unusedVariables false

/-- The parts of the best line at three dots. -/
def pSN (ds : List (Int × Int)) (p : Nat × Nat × Nat) : Int := lN (numS ds p) (2 * bW ds p.1 p.2.2)
def pSD (ds : List (Int × Int)) (p : Nat × Nat × Nat) : Int := lD (numS ds p) (2 * bW ds p.1 p.2.2)
def pKN (ds : List (Int × Int)) (p : Nat × Nat × Nat) : Int := lN (numK ds p) (bW ds p.1 p.2.2)
def pKD (ds : List (Int × Int)) (p : Nat × Nat × Nat) : Int := lD (numK ds p) (bW ds p.1 p.2.2)
def pEN (ds : List (Int × Int)) (p : Nat × Nat × Nat) : Int := lN ((bH ds p.1 p.2.1 p.2.2).natAbs : Int) (2 * bW ds p.1 p.2.2)
def pED (ds : List (Int × Int)) (p : Nat × Nat × Nat) : Int := lD ((bH ds p.1 p.2.1 p.2.2).natAbs : Int) (2 * bW ds p.1 p.2.2)
theorem numK_in {ds : List (Int × Int)} (h : DotsOk ds) {p : Nat × Nat × Nat} (hp : okT ds.length p) : -20000 ≤ numK ds p ∧ numK ds p ≤ 20000 := by
  have a1 := h.inY p.1 (Nat.lt_trans hp.1 (Nat.lt_trans hp.2.1 hp.2.2))
  have a3 := h.inY p.2.2 hp.2.2
  unfold inD at a1 a3
  unfold numK
  omega
theorem scaled_eq {x y g W n den : Int} (hy : 1 ≤ y) (h1 : g * x = n) (h2 : g * y = W) (hd : y ∣ den) : W * scF x y den = n * den := by
  obtain ⟨q, rfl⟩ := hd
  unfold scF
  rw [Int.mul_ediv_cancel_left _ (by omega), ← h1, ← h2]
  ac_rfl
theorem line_accepted {ds : List (Int × Int)} (h : DotsOk ds) :
    lineE ds (pSN ds (bestT ds)) (pSD ds (bestT ds)) (pKN ds (bestT ds)) (pKD ds (bestT ds)) (pEN ds (bestT ds)) (pED ds (bestT ds)) (bestT ds).1 (bestT ds).2.1 (bestT ds).2.2 = 0 ∧
    okF (pSN ds (bestT ds)) (pSD ds (bestT ds)) ∧ okF (pKN ds (bestT ds)) (pKD ds (bestT ds)) ∧ okF (pEN ds (bestT ds)) (pED ds (bestT ds)) := by
  have hkeep := fun t ht => best_keeps h (t := t) ht
  obtain ⟨hok, _⟩ := best_max h
  obtain ⟨p, hp⟩ : ∃ p, p = bestT ds := ⟨_, rfl⟩
  rw [← hp] at hok hkeep ⊢
  obtain ⟨b1, b2, b3⟩ := bend_small h hok
  have hs := start_in h hok
  have hk := numK_in h hok
  obtain ⟨e1, e2, e3⟩ := farE_ends ds p
  obtain ⟨W, hW⟩ : ∃ W, W = bW ds p.1 p.2.2 := ⟨_, rfl⟩
  obtain ⟨H, hH⟩ : ∃ H, H = bH ds p.1 p.2.1 p.2.2 := ⟨_, rfl⟩
  rw [← hW] at b1 b2 b3
  rw [← hH] at b1 e1 e2 e3 hkeep
  obtain ⟨g1, g1p, s1, s2, _, _, _, s3⟩ := low_parts (n := numS ds p) (d := 2 * W) (by omega) (by omega)
  obtain ⟨g2, g2p, k1, k2, _, _, _, k3⟩ := low_parts (n := numK ds p) (d := W) (by omega) (by omega)
  obtain ⟨g3, g3p, m1, m2, _, _, _, m3⟩ := low_parts (n := (H.natAbs : Int)) (d := 2 * W) (by omega) (by omega)
  have hsum : pSN ds p = lN (numS ds p) (2 * W) ∧ pSD ds p = lD (numS ds p) (2 * W) ∧ pKN ds p = lN (numK ds p) W ∧ pKD ds p = lD (numK ds p) W ∧ pEN ds p = lN (H.natAbs : Int) (2 * W) ∧ pED ds p = lD (H.natAbs : Int) (2 * W) := by
    unfold pSN pSD pKN pKD pEN pED
    rw [← hW, ← hH]
    exact ⟨rfl, rfl, rfl, rfl, rfl, rfl⟩
  obtain ⟨h1, h2, h3, h4, h5, h6⟩ := hsum
  rw [h1, h2, h3, h4, h5, h6]
  refine ⟨?_, s3, k3, m3⟩
  obtain ⟨a, ha⟩ : ∃ a, a = lN (numS ds p) (2 * W) := ⟨_, rfl⟩
  obtain ⟨b, hb⟩ : ∃ a, a = lD (numS ds p) (2 * W) := ⟨_, rfl⟩
  obtain ⟨c, hc⟩ : ∃ a, a = lN (numK ds p) W := ⟨_, rfl⟩
  obtain ⟨d, hd⟩ : ∃ a, a = lD (numK ds p) W := ⟨_, rfl⟩
  obtain ⟨e, he⟩ : ∃ a, a = lN (H.natAbs : Int) (2 * W) := ⟨_, rfl⟩
  obtain ⟨f, hf⟩ : ∃ a, a = lD (H.natAbs : Int) (2 * W) := ⟨_, rfl⟩
  rw [← ha] at s1 s3 ⊢
  rw [← hb] at s2 s3 ⊢
  rw [← hc] at k1 k3 ⊢
  rw [← hd] at k2 k3 ⊢
  rw [← he] at m1 m3 ⊢
  rw [← hf] at m2 m3 ⊢
  have hfd : ∀ i, i < (fr3 a b c d e f).length → 1 ≤ fD (fr3 a b c d e f) i ∧ fD (fr3 a b c d e f) i ≤ 1000000000 ∧ fD (fr3 a b c d e f) i ∣ 2 * W := fun i hi => by
    match i, hi with
    | 0, _ => exact ⟨s3.1.1, s3.2.2, ⟨g1, by rw [← s2]; show g1 * b = b * g1; ac_rfl⟩⟩
    | 1, _ => exact ⟨k3.1.1, k3.2.2, ⟨2 * g2, by rw [← k2]; show 2 * (g2 * d) = d * (2 * g2); ac_rfl⟩⟩
    | 2, _ => exact ⟨m3.1.1, m3.2.2, ⟨g3, by rw [← m2]; show g3 * f = f * g3; ac_rfl⟩⟩
  obtain ⟨_, d1, d2, d3⟩ := denTo_dvd (fs := fr3 a b c d e f) (D := 2 * W) (by omega) hfd 3 (Nat.le_refl _)
  have hdenR : denR 40000 (fr3 a b c d e f) = denTo (fr3 a b c d e f) 3 := if_pos d2
  obtain ⟨den, hden⟩ : ∃ x, x = denTo (fr3 a b c d e f) 3 := ⟨_, rfl⟩
  rw [← hden] at d1 d3 hdenR
  have v1 : b ∣ den := d3 0 (by omega)
  have v2 : d ∣ den := d3 1 (by omega)
  have v3 : f ∣ den := d3 2 (by omega)
  have z1 := scaled_eq (x := a) s3.1.1 s1 s2 v1
  have z2 := scaled_eq (x := c) k3.1.1 k1 k2 v2
  have z3 := scaled_eq (x := e) m3.1.1 m1 m2 v3
  have hpr : prE ds.length p.1 p.2.1 p.2.2 = 0 := by
    have i1 : prI ds.length (p.1 : Int) ∧ prI ds.length (p.2.1 : Int) ∧ prI ds.length (p.2.2 : Int) := by
      have := hok.1
      have := hok.2.1
      have := hok.2.2
      unfold prI
      omega
    unfold prE
    rw [if_pos i1, if_pos]
    have := hok.1
    have := hok.2.1
    omega
  unfold lineE
  rw [hdenR, if_neg (by omega), if_neg (fun hh => hh hpr)]
  obtain ⟨S, hS⟩ : ∃ S, S = scF a b den := ⟨_, rfl⟩
  obtain ⟨K, hK⟩ : ∃ S, S = scF c d den := ⟨_, rfl⟩
  obtain ⟨M, hM⟩ : ∃ S, S = scF e f den := ⟨_, rfl⟩
  rw [← hS] at z1 ⊢
  rw [← hK] at z2 ⊢
  rw [← hM] at z3 ⊢
  have key : ∀ t, 2 * W * offL ds den S K t = den * farE ds p t := fun t => by
    unfold offL farE
    rw [← hW]
    have y1 : 2 * W * (dY ds t * den - S - K * dX ds t) = 2 * W * dY ds t * den - 2 * W * S - 2 * (W * K) * dX ds t := by
      simp only [Int.mul_sub, Int.mul_assoc, Int.mul_comm, Int.mul_left_comm]
    rw [y1, z1, z2]
    simp only [Int.mul_sub, Int.mul_assoc, Int.mul_comm, Int.mul_left_comm]
  have hW2 : 0 < 2 * W := by omega
  have hall : allIn ds den S K M := fun t ht => by
    have k := hkeep t ht
    have u1 := Int.mul_le_mul_of_nonneg_left k.1 (show 0 ≤ den by omega)
    have u2 := Int.mul_le_mul_of_nonneg_left k.2 (show 0 ≤ den by omega)
    have u3 : den * (H.natAbs : Int) = 2 * W * M := by rw [z3]; ac_rfl
    rw [Int.mul_neg, u3, ← key] at u1
    rw [u3, ← key] at u2
    constructor
    · refine Int.le_of_mul_le_mul_left ?_ hW2
      rw [Int.mul_neg]; exact u1
    · exact Int.le_of_mul_le_mul_left u2 hW2
  have hpo : prOk ds den S K M p.1 p.2.1 p.2.2 := by
    have w1 := key p.1
    have w2 := key p.2.1
    have w3 := key p.2.2
    rw [e1] at w1
    rw [e2] at w2
    rw [e3] at w3
    unfold prOk
    rw [Int.toNat_natCast, Int.toNat_natCast, Int.toNat_natCast]
    refine ⟨?_, ?_, ?_⟩
    · have x1 : ((2 * W * offL ds den S K p.1).natAbs : Int) = ((den * -H).natAbs : Int) := by rw [w1]
      rw [Int.natAbs_mul (2 * W), Int.natAbs_mul den, Int.natAbs_neg, Int.natCast_mul, Int.natCast_mul, Int.natAbs_of_nonneg (show 0 ≤ 2 * W by omega), Int.natAbs_of_nonneg (show 0 ≤ den by omega)] at x1
      have x2 : den * (H.natAbs : Int) = 2 * W * M := by rw [z3]; ac_rfl
      rw [x2] at x1
      exact Int.eq_of_mul_eq_mul_left (by omega) x1
    · refine Int.eq_of_mul_eq_mul_left (show 2 * W ≠ 0 by omega) ?_
      rw [w2, Int.mul_neg, w1, Int.mul_neg, Int.neg_neg]
    · refine Int.eq_of_mul_eq_mul_left (show 2 * W ≠ 0 by omega) ?_
      rw [w3, w1]
  unfold lineF
  rw [if_neg (fun hh => hh hall), if_pos hpo]
end Go.Proofs.Ytjomcobhinnikaa
