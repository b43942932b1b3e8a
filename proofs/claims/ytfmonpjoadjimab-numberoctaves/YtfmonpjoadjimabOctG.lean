/- Arithmetic for the law of octaves: lowered by n octaves and raised again. -/
import Derived.Test.YtfmonpjoadjimabOct
import Derived.Test.YtfmonpjoadjimabEncl
namespace Go.Proofs.Ytfmonpjoadjimab
open Go.RowKit
set_option linter.unusedVariables false
set_option linter.unusedSimpArgs false

theorem dvd_gcdP_of {k : Nat} {a b c d : Int} (h1 : (k : Int) ∣ a) (h2 : (k : Int) ∣ b) (h3 : (k : Int) ∣ c) (h4 : (k : Int) ∣ d) : k ∣ gcdP a b c d := by
  have e : gcdP a b c d = Nat.gcd (Nat.gcd (Nat.gcd a.natAbs b.natAbs) c.natAbs) d.natAbs := by
    unfold gcdP gcdAll
    simp only [List.foldl, Nat.gcd_zero_left]
  have f : ∀ x : Int, (k : Int) ∣ x → k ∣ x.natAbs := fun x hx => by
    have := Int.natAbs_dvd_natAbs.2 hx
    simpa using this
  rw [e]
  exact Nat.dvd_gcd (Nat.dvd_gcd (Nat.dvd_gcd (f _ h1) (f _ h2)) (f _ h3)) (f _ h4)
theorem gcdP_shift (a b c d n : Int) : gcdP (a - n * d) b c d = gcdP a b c d := by
  obtain ⟨u1, u2, u3, u4⟩ := dvd_gcdP (a - n * d) b c d
  obtain ⟨v1, v2, v3, v4⟩ := dvd_gcdP a b c d
  apply Nat.dvd_antisymm
  · refine dvd_gcdP_of ?_ u2 u3 u4
    have := Int.dvd_add u1 (Int.dvd_trans u4 (Int.dvd_mul_left (n) d))
    rwa [Int.sub_add_cancel] at this
  · exact dvd_gcdP_of (Int.dvd_sub v1 (Int.dvd_trans v4 (Int.dvd_mul_left (n) d))) v2 v3 v4
theorem gcdP_quot {a b c d : Int} (hd : 1 ≤ d) : gcdP (a.tdiv (gcdP a b c d)) (b.tdiv (gcdP a b c d)) (c.tdiv (gcdP a b c d)) (d / (gcdP a b c d)) = 1 := by
  obtain ⟨v1, v2, v3, v4⟩ := dvd_gcdP a b c d
  have hg := gcdP_pos (a := a) (b := b) (c := c) hd
  obtain ⟨g, hge⟩ : ∃ g, g = gcdP a b c d := ⟨_, rfl⟩
  have key : ∀ k : Nat, (k : Int) ∣ a.tdiv g → (k : Int) ∣ b.tdiv g → (k : Int) ∣ c.tdiv g → (k : Int) ∣ d / g → g * k ∣ g := fun k w1 w2 w3 w4 => by
    have up : ∀ x y : Int, (g : Int) * y = x → (k : Int) ∣ y → ((g * k : Nat) : Int) ∣ x := fun x y hxy hk => by
      rw [← hxy, Int.natCast_mul]
      exact Int.mul_dvd_mul (Int.dvd_refl _) hk
    have := dvd_gcdP_of (up a _ (Int.mul_tdiv_cancel' (hge ▸ v1)) w1) (up b _ (Int.mul_tdiv_cancel' (hge ▸ v2)) w2) (up c _ (Int.mul_tdiv_cancel' (hge ▸ v3)) w3) (up d _ (Int.mul_ediv_cancel' (hge ▸ v4)) w4)
    rwa [← hge] at this
  rw [← hge] at hg ⊢
  obtain ⟨w1, w2, w3, w4⟩ := dvd_gcdP (a.tdiv g) (b.tdiv g) (c.tdiv g) (d / g)
  have h1 := Nat.le_of_dvd (by omega) (key _ w1 w2 w3 w4)
  have hdg : 1 ≤ d / (g : Int) := by
    rw [Int.le_ediv_iff_mul_le (by omega)]
    have := gcdP_le (a := a) (b := b) (c := c) hd
    rw [← hge] at this
    omega
  have h2 := gcdP_pos (a := a.tdiv g) (b := b.tdiv g) (c := c.tdiv g) hdg
  rcases Nat.lt_or_ge 1 (gcdP (a.tdiv g) (b.tdiv g) (c.tdiv g) (d / g)) with h3 | h3
  · have h4 : g * 2 ≤ g * gcdP (a.tdiv g) (b.tdiv g) (c.tdiv g) (d / g) := Nat.mul_le_mul_left g h3
    omega
  · omega
theorem fit_one {a b c d : Int} (h : gcdP a b c d = 1) (hok : okP a b c d) : p2 a b c d = a ∧ p3 a b c d = b ∧ p5 a b c d = c ∧ pd a b c d = d ∧ pe a b c d = 0 := by
  have hf : fitP a b c d := by
    unfold fitP
    rw [h]
    simpa using hok
  unfold p2 p3 p5 pd pe
  rw [if_pos hf, if_pos hf, if_pos hf, if_pos hf, if_pos hf, h]
  simp
/-- The parts of a pitch that fits. -/
theorem parts_fit {a b c d : Int} (h : fitP a b c d) : p2 a b c d = a.tdiv (gcdP a b c d) ∧ p3 a b c d = b.tdiv (gcdP a b c d) ∧ p5 a b c d = c.tdiv (gcdP a b c d) ∧ pd a b c d = d / (gcdP a b c d) ∧ pe a b c d = 0 := by
  unfold p2 p3 p5 pd pe
  rw [if_pos h, if_pos h, if_pos h, if_pos h, if_pos h]
  exact ⟨rfl, rfl, rfl, rfl, rfl⟩
/-- What the law asks of a pitch q, which is a valid pitch n octaves down. -/
theorem oct_facts {a b c d n : Int} (hp : okP a b c d) (hV : OctV a b c d n) (hf : fitP (a - n * d) b c d) : ∃ x y z u : Int,
    p2 (a - n * d) b c d = x ∧ p3 (a - n * d) b c d = y ∧ p5 (a - n * d) b c d = z ∧ pd (a - n * d) b c d = u ∧ okP x y z u ∧ 0 ≤ sgn x y z ∧ sgn (x - u) y z < 0 ∧
    p2 (x + n * u) y z u = p2 a b c d ∧ p3 (x + n * u) y z u = p3 a b c d ∧ p5 (x + n * u) y z u = p5 a b c d ∧ pd (x + n * u) y z u = pd a b c d ∧ pe (x + n * u) y z u = 0 ∧ pe a b c d = 0 := by
  have hd := hp.1.1
  have hfa := fit_of_ok hp
  obtain ⟨e1, e2, e3, e4, e5⟩ := parts_fit hf
  obtain ⟨k1, k2, k3, k4, k5⟩ := parts_fit hfa
  have hq := gcdP_quot (a := a) (b := b) (c := c) hd
  have hg := gcdP_pos (a := a) (b := b) (c := c) hd
  obtain ⟨v1, v2, v3, v4⟩ := dvd_gcdP a b c d
  have hok : okP ((a - n * d).tdiv (gcdP (a - n * d) b c d)) (b.tdiv (gcdP (a - n * d) b c d)) (c.tdiv (gcdP (a - n * d) b c d)) (d / (gcdP (a - n * d) b c d)) := hf
  have hoka : okP (a.tdiv (gcdP a b c d)) (b.tdiv (gcdP a b c d)) (c.tdiv (gcdP a b c d)) (d / (gcdP a b c d)) := hfa
  rw [gcdP_shift] at e1 e2 e3 e4 hok
  obtain ⟨g, hge⟩ : ∃ g, gcdP a b c d = g := ⟨_, rfl⟩
  rw [hge] at e1 e2 e3 e4 hok hoka k1 k2 k3 k4 hq hg v1 v2 v3 v4
  have v0 : (g : Int) ∣ a - n * d := Int.dvd_sub v1 (Int.dvd_trans v4 (Int.dvd_mul_left (n) d))
  have m4 := Int.mul_ediv_cancel' v4
  have m1 := Int.mul_tdiv_cancel' v1
  have m0 := Int.mul_tdiv_cancel' v0
  have up : (a - n * d).tdiv g + n * (d / g) = a.tdiv g := by
    have h : (g : Int) * ((a - n * d).tdiv g + n * (d / g)) = g * a.tdiv g := by
      rw [Int.mul_add, m0, m1, ← Int.mul_assoc, Int.mul_comm (g : Int) n, Int.mul_assoc, m4]
      omega
    exact Int.eq_of_mul_eq_mul_left (by omega) h
  have dn : (a - n * d).tdiv g - d / g = (a - (n + 1) * d).tdiv g := by
    have v9 : (g : Int) ∣ a - (n + 1) * d := Int.dvd_sub v1 (Int.dvd_trans v4 (Int.dvd_mul_left (n + 1) d))
    have m9 := Int.mul_tdiv_cancel' v9
    have h : (g : Int) * ((a - n * d).tdiv g - d / g) = g * (a - (n + 1) * d).tdiv g := by
      rw [Int.mul_sub, m0, m4, m9, Int.add_mul]
      omega
    exact Int.eq_of_mul_eq_mul_left (by omega) h
  obtain ⟨f1, f2, f3, f4, f5⟩ := fit_one hq hoka
  refine ⟨_, _, _, _, e1, e2, e3, e4, hok, ?_, ?_, ?_, ?_, ?_, ?_, ?_, k5⟩
  · rw [sgn_div g hg _ _ _ v0 v2 v3]; exact hV.1
  · rw [dn, sgn_div g hg _ _ _ (Int.dvd_sub v1 (Int.dvd_trans v4 (Int.dvd_mul_left (n + 1) d))) v2 v3]; exact hV.2
  · rw [up, f1, k1]
  · rw [up, f2, k2]
  · rw [up, f3, k3]
  · rw [up, f4, k4]
  · rw [up, f5]
end Go.Proofs.Ytfmonpjoadjimab
