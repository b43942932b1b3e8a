/- Plain facts: a circle that passes over the bounds of a system leave is accepted; where n passes lower, one more does. -/
import Derived.Test.YtnilfacofikoaaaRefSolve
namespace Go.Proofs.Ytnilfacofikoaaa
open Go.RowKit
set_option linter.unusedVariables false
set_option linter.unusedSimpArgs false

theorem still_of {bs : List (Int × Int × Int)} {vs ls : List Int} : ∀ k, (lowTo bs vs ls k).low < 0 → lowTo bs vs ls k = ⟨vs, ls, -1⟩ ∧ ∀ i, i < k → vs.getD (bTo bs i) 0 ≤ vs.getD (bFr bs i) 0 + bMo bs i
  | 0, _ => ⟨rfl, fun i hi => by omega⟩
  | k + 1, h => by
    rw [lowTo] at h ⊢
    unfold lowStep at h ⊢
    split at h
    · simp at h; omega
    · rename_i hc
      obtain ⟨h1, h2⟩ := still_of k h
      rw [if_neg hc]
      refine ⟨h1, fun i hi => ?_⟩
      rcases Nat.lt_or_ge i k with h3 | h3
      · exact h2 i h3
      · obtain rfl : k = i := by omega
        rw [h1] at hc
        simp only at hc
        omega
theorem low_next {bs : List (Int × Int × Int)} {n v c : Nat} (h : Cyc bs n v c) : 0 ≤ (solveSt bs n (n + 1)).low := by
  by_cases h1 : (solveSt bs n (n + 1)).low < 0
  · exact absurd (still_of bs.length h1).2 (fun h2 => low_again h.circ h2)
  · omega
theorem cirL_get {bs : List (Int × Int × Int)} {n v c i : Nat} (hi : i < c) : (cirL bs n v c).getD i 0 = (lowB (solveSt bs n n).ls (backB bs (solveSt bs n n).ls (backB bs (solveSt bs n n).ls v n) (c - 1 - i)) : Int) := by
  unfold cirL
  have hl := cirTo_len bs (solveSt bs n n).ls (backB bs (solveSt bs n n).ls v n) c
  rw [List.getD_eq_getElem?_getD, List.getElem?_reverse (by omega), hl]
  unfold cirTo
  simp [show c - 1 - i < c by omega]
theorem cirL_len {bs : List (Int × Int × Int)} {n v c : Nat} : (cirL bs n v c).length = c := by unfold cirL; rw [List.length_reverse, cirTo_len]
theorem cirL_at {bs : List (Int × Int × Int)} {n v c i : Nat} (hi : i < c) : cAt bs (cirL bs n v c) i = bs.getD (lowB (solveSt bs n n).ls (backB bs (solveSt bs n n).ls (backB bs (solveSt bs n n).ls v n) (c - 1 - i))) (0, 0, 0) := by
  unfold cAt
  rw [cirL_get hi]
  rfl
theorem cir_good {bs : List (Int × Int × Int)} {n v c : Nat} (hok : BndsOk n bs) (h60 : n ≤ 60) (h : Cyc bs n v c) : cirErr bs (cirL bs n v c) = 0 := by
  have hC := h.circ
  have hI : cirIn bs (cirL bs n v c) := fun i hi => by
    rw [cirL_len] at hi
    rw [cirL_get hi]
    have := (hC.low (c - 1 - i)).1
    omega
  have hlen : ¬ ((cirL bs n v c).length < 1 ∨ 60 < (cirL bs n v c).length) := by rw [cirL_len]; have := hC.one; have := hC.most; omega
  have hL : cirLk bs (cirL bs n v c) := fun i hi => by
    rw [cirL_len] at hi
    have hp : cPrev (cirL bs n v c) i < c := by unfold cPrev; rw [cirL_len]; split <;> omega
    rw [cirL_at hi, cirL_at hp]
    have e1 := hC.low (c - 1 - i)
    have e2 := hC.low (c - 1 - cPrev (cirL bs n v c) i)
    have f1 := hok _ e1.1
    have f2 := hok _ e2.1
    have g1 : (bFr bs (lowB (solveSt bs n n).ls (backB bs (solveSt bs n n).ls (backB bs (solveSt bs n n).ls v n) (c - 1 - i))) : Int) = (bs.getD (lowB (solveSt bs n n).ls (backB bs (solveSt bs n n).ls (backB bs (solveSt bs n n).ls v n) (c - 1 - i))) (0, 0, 0)).1 := by unfold bFr; omega
    have g2 : (bTo bs (lowB (solveSt bs n n).ls (backB bs (solveSt bs n n).ls (backB bs (solveSt bs n n).ls v n) (c - 1 - cPrev (cirL bs n v c) i))) : Int) = (bs.getD (lowB (solveSt bs n n).ls (backB bs (solveSt bs n n).ls (backB bs (solveSt bs n n).ls v n) (c - 1 - cPrev (cirL bs n v c) i))) (0, 0, 0)).2.1 := by unfold bTo; omega
    rw [← g1, ← g2, e2.2.2]
    have e3 : bFr bs (lowB (solveSt bs n n).ls (backB bs (solveSt bs n n).ls (backB bs (solveSt bs n n).ls v n) (c - 1 - i))) = backB bs (solveSt bs n n).ls (backB bs (solveSt bs n n).ls v n) (c - 1 - i + 1) := rfl
    rw [e3]
    unfold cPrev
    rw [cirL_len]
    by_cases h0 : i = 0
    · rw [if_pos h0, h0, show c - 1 - 0 + 1 = c by omega, show c - 1 - (c - 1) = 0 by omega, hC.back]
      rfl
    · rw [if_neg h0, show c - 1 - i + 1 = c - 1 - (i - 1) by omega]
  have hS : ∀ k, k ≤ c → cirSum bs (cirL bs n v c) k + sumB bs (solveSt bs n n).ls (backB bs (solveSt bs n n).ls v n) (c - k) = sumB bs (solveSt bs n n).ls (backB bs (solveSt bs n n).ls v n) c := by
    intro k
    induction k with
    | zero => intro _; simp [cirSum]
    | succ k ih =>
      intro hk
      have h1 := ih (by omega)
      obtain ⟨m, hm⟩ : ∃ m, c - k = m + 1 := ⟨c - k - 1, by omega⟩
      rw [hm, sumB] at h1
      rw [cirSum, cirL_at (show k < c by omega), show c - (k + 1) = m by omega, show c - 1 - k = m by omega]
      have e : (bs.getD (lowB (solveSt bs n n).ls (backB bs (solveSt bs n n).ls (backB bs (solveSt bs n n).ls v n) m)) (0, 0, 0)).2.2 = bMo bs (lowB (solveSt bs n n).ls (backB bs (solveSt bs n n).ls (backB bs (solveSt bs n n).ls v n) m)) := rfl
      rw [e]
      omega
  rw [cir_end hlen hI hL, cirL_len, if_neg]
  have h1 := hS c (Nat.le_refl _)
  rw [Nat.sub_self] at h1
  have h2 := hC.neg
  have h3 : sumB bs (solveSt bs n n).ls (backB bs (solveSt bs n n).ls v n) 0 = 0 := rfl
  omega

/-- A system is solved behind some pass, or each of n passes lowers. -/
theorem sys_ways {bs : List (Int × Int × Int)} {n : Nat} (hn : 1 ≤ n) (hok : BndsOk n bs) :
    (∃ r, r < n ∧ (∀ q, q < r → 0 ≤ (solveSt bs n (q + 1)).low) ∧ (solveSt bs n (r + 1)).low < 0) ∨ ((∀ q, q < n + 1 → 0 ≤ (solveSt bs n (q + 1)).low) ∧ ∃ v c, Cyc bs n v c) := by
  by_cases hx : ∃ r, r < n ∧ (solveSt bs n (r + 1)).low < 0
  · obtain ⟨r, h1, h2⟩ := hx
    obtain ⟨m, g1, g2, g3⟩ := least (P := fun r => (solveSt bs n (r + 1)).low < 0) r h2
    exact Or.inl ⟨m, by omega, fun q hq => by have := g3 q hq; omega, g2⟩
  · have hall : ∀ q, q < n → 0 ≤ (solveSt bs n (q + 1)).low := fun q hq => by
      by_cases h : (solveSt bs n (q + 1)).low < 0
      · exact absurd ⟨q, hq, h⟩ hx
      · omega
    have h0 : 0 ≤ (solveSt bs n n).low := by
      have := hall (n - 1) (by omega)
      rwa [show n - 1 + 1 = n by omega] at this
    obtain ⟨v, c, hc⟩ := cyc_of hok h0
    refine Or.inr ⟨fun q hq => ?_, v, c, hc⟩
    rcases Nat.lt_or_ge q n with h | h
    · exact hall q h
    · obtain rfl : n = q := by omega
      exact low_next hc
end Go.Proofs.Ytnilfacofikoaaa
