/- The contract of slices.Reverse over a row of the call's own. -/
import Derived.Test.YtnilfacofikoaaaLower
import Derived.RegionTactic
import Derived.ChangeAlike
import Derived.Laws.OwnMore
namespace Go.Proofs.Ytnilfacofikoaaa
open Go.RowKit
set_option linter.unusedVariables false
set_option linter.unusedSimpArgs false

theorem getD_setS {vs : List Int} {y v : Nat} {z : Int} (hy : y < vs.length) : (vs.set y z).getD v 0 = if v = y then z else vs.getD v 0 := by
  by_cases h : v = y
  · subst h
    rw [if_pos rfl]
    simp [hy]
  · rw [if_neg h]
    simp [List.getD_eq_getElem?_getD, List.getElem?_set, Ne.symm h]
/-- k pairs are exchanged. -/
def revTo (xs : List Int) : Nat → List Int
  | 0 => xs
  | k + 1 => ((revTo xs k).set k ((revTo xs k).getD (xs.length - 1 - k) 0)).set (xs.length - 1 - k) ((revTo xs k).getD k 0)
theorem revTo_len {xs : List Int} : ∀ k, (revTo xs k).length = xs.length
  | 0 => rfl
  | k + 1 => by rw [revTo]; simp only [List.length_set]; exact revTo_len k
theorem revTo_get {xs : List Int} : ∀ k, 2 * k ≤ xs.length → ∀ t, t < xs.length → (revTo xs k).getD t 0 = if t < k ∨ xs.length - k ≤ t then xs.getD (xs.length - 1 - t) 0 else xs.getD t 0
  | 0, _, t, ht => by rw [if_neg (by omega)]; rfl
  | k + 1, hk, t, ht => by
    have hl := revTo_len (xs := xs) k
    rw [revTo, getD_setS (by rw [List.length_set]; omega), getD_setS (by omega), revTo_get k (by omega) k (by omega), revTo_get k (by omega) (xs.length - 1 - k) (by omega), revTo_get k (by omega) t ht]
    by_cases h1 : t = xs.length - 1 - k
    · rw [if_pos h1, if_neg (show ¬ (k < k ∨ xs.length - k ≤ k) by omega), if_pos (show t < k + 1 ∨ xs.length - (k + 1) ≤ t by omega)]
      congr 1
      omega
    · rw [if_neg h1]
      by_cases h2 : t = k
      · rw [if_pos h2, if_neg (show ¬ (xs.length - 1 - k < k ∨ xs.length - k ≤ xs.length - 1 - k) by omega), if_pos (show t < k + 1 ∨ xs.length - (k + 1) ≤ t by omega)]
        congr 1
        omega
      · rw [if_neg h2]
        by_cases h3 : t < k ∨ xs.length - k ≤ t
        · rw [if_pos h3, if_pos (by omega)]
        · rw [if_neg h3, if_neg (by omega)]
theorem revTo_done {xs : List Int} {k : Nat} (h1 : 2 * k ≤ xs.length) (h2 : xs.length ≤ 2 * k + 1) : revTo xs k = xs.reverse := by
  apply List.ext_getElem
  · rw [revTo_len, List.length_reverse]
  · intro t g1 g2
    rw [List.length_reverse] at g2
    have e := revTo_get k h1 t g2
    rw [List.getElem_reverse]
    have e1 : (revTo xs k).getD t 0 = (revTo xs k)[t] := by simp [g1]
    have e2 : xs.getD (xs.length - 1 - t) 0 = xs[xs.length - 1 - t] := by simp [show xs.length - 1 - t < xs.length by omega]
    rw [← e1, e, ← e2]
    split
    · rfl
    · congr 1
      omega
set_option maxHeartbeats 1000000 in
set_option maxRecDepth 100000 in
theorem reverse_any (base g n cap : Nat) (xs : List Int) (w : World) (hn : xs.length = n) (hn2 : n ≤ 100000) (ho : w.ownsRow base 3 1 (.slice (some ⟨g, 0, none⟩) n cap) n (i64s xs)) :
    Calls Try.prog 68 #[.slice (some ⟨g, 0, none⟩) n cap] w fun e w' => e = .returned (.tuple #[]) ∧ w'.ownsRow base 3 1 (.slice (some ⟨g, 0, none⟩) n cap) n (i64s xs.reverse) ∧ Below base w w' := by
  have HN := hide hn
  have HO := hide ho
  have hgb := (ho.lt g rfl).1
  clear hn ho
  go_enter Try.func68, Try.ntmps68
  go_wp2
  go_loopw [2, 3] (fun s2 s3 wr => ∃ k : Nat, s2 = .int .i64 k ∧ s3 = .int .i64 ((n : Int) - 1 - k) ∧ 2 * k ≤ n ∧ Hid (wr.ownsRow base 3 1 (.slice (some ⟨g, 0, none⟩) n cap) n (i64s (revTo xs k))) ∧ Hid (Below base w wr)) (fun s2 _ _ => n - (intOf s2).toNat)
  case atStart => exact ⟨0, rfl, by go_num, by omega, HO, Below.refl _ _⟩
  case round =>
    obtain ⟨k, rfl, rfl, hk, HR, HB⟩ := hrel
    by_cases hlt : 2 * k + 1 < n
    · have hl := revTo_len (xs := xs) k
      have hj : (n : Int) - 1 - k = ((n - 1 - k : Nat) : Int) := by omega
      obtain ⟨j, hje⟩ : ∃ j, j = n - 1 - k := ⟨_, rfl⟩
      rw [← hje] at hj
      rw [hj]
      have hkj : k < j := by omega
      have hjn : j < n := by omega
      have hkn : k < n := by omega
      have c1 : wr.cell? ⟨g, k, none⟩ = some (.int .i64 ((revTo xs k).getD k 0)) := by rw [HR.out.cellAt k (by omega), i64s_get (by rw [hl, HN.out]; omega)]
      have c2 : wr.cell? ⟨g, j, none⟩ = some (.int .i64 ((revTo xs k).getD j 0)) := by rw [HR.out.cellAt j (by omega), i64s_get (by rw [hl, HN.out]; omega)]
      have f1 := HR.out.frozenAt k
      have f2 := HR.out.frozenAt j
      obtain ⟨x, hx⟩ : ∃ x, x = (revTo xs k).getD k 0 := ⟨_, rfl⟩
      obtain ⟨y, hy⟩ : ∃ x, x = (revTo xs k).getD j 0 := ⟨_, rfl⟩
      rw [← hx] at c1
      rw [← hy] at c2
      have hne : ¬ k = j := by omega
      have hne2 : ¬ j = k := by omega
      have HS : Hid (revTo xs (k + 1) = ((revTo xs k).set k y).set j x) := by show revTo xs (k + 1) = _; rw [revTo, HN.out, ← hje, ← hx, ← hy]
      have J1 := hide hje
      clear hl hj hje hx hy
      go_wp2
      go_region
      go_wp2
      go_roundw
      case rel =>
        have s1 := (HR.out.stored k (.int .i64 y)).1
        have s2 := (s1.stored j (.int .i64 x)).1
        rw [i64s_set, i64s_set, ← HS.out] at s2
        exact ⟨k + 1, by go_num, by have := J1.out; congr 1; omega, by omega, s2.drew, ((HB.out.setCell (by exact hgb) _).setCell (by exact hgb) _).drew⟩
      case measure => simp [intOf]; omega
    · have hge : ¬ (k : Int) < (n : Int) - 1 - k := by omega
      have HF := hide (revTo_done (xs := xs) (k := k) (by rw [HN.out]; omega) (by rw [HN.out]; omega))
      go_wp2
      go_end0
      exact ⟨rfl, by rw [← HF.out]; exact HR.out, HB.out⟩
end Go.Proofs.Ytnilfacofikoaaa
