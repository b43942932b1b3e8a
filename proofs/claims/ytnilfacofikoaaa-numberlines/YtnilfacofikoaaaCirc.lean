/- Plain facts on passes over the bounds of a system: where the last of n passes lowers a value, the bounds that lowered lead back into a circle whose sum is below 0. No condition beyond the premises of each theorem. -/
import Derived.Test.YtnilfacofikoaaaSolve
namespace Go.Proofs.Ytnilfacofikoaaa
open Go.RowKit
set_option linter.unusedVariables false
set_option linter.unusedSimpArgs false

theorem getD_set_if {vs : List Int} {y v : Nat} {z : Int} (hy : y < vs.length) : (vs.set y z).getD v 0 = if v = y then z else vs.getD v 0 := by
  by_cases h : v = y
  · subst h
    rw [if_pos rfl]
    simp [hy]
  · rw [if_neg h]
    simp [List.getD_eq_getElem?_getD, List.getElem?_set, Ne.symm h]
theorem lowTo_len {bs : List (Int × Int × Int)} {vs ls : List Int} : ∀ k, (lowTo bs vs ls k).vs.length = vs.length ∧ (lowTo bs vs ls k).ls.length = ls.length
  | 0 => ⟨rfl, rfl⟩
  | k + 1 => by
    have h := lowTo_len (bs := bs) (vs := vs) (ls := ls) k
    rw [lowTo]
    unfold lowStep
    split
    · simp only [List.length_set]; exact h
    · exact h
theorem solveSt_len {bs : List (Int × Int × Int)} {n : Nat} : ∀ q, (solveSt bs n q).vs.length = n ∧ (solveSt bs n q).ls.length = n
  | 0 => by simp [solveSt, zerosL]
  | q + 1 => by
    have h := solveSt_len (bs := bs) (n := n) q
    have h2 := lowTo_len (bs := bs) (vs := (solveSt bs n q).vs) (ls := (solveSt bs n q).ls) bs.length
    rw [solveSt]
    unfold lowAll
    omega

theorem ok_fr {n : Nat} {bs : List (Int × Int × Int)} (h : BndsOk n bs) {i : Nat} (hi : i < bs.length) : bFr bs i < n ∧ bTo bs i < n ∧ -1000000000 ≤ bMo bs i ∧ bMo bs i ≤ 1000000000 := by
  obtain ⟨h1, h2, h3⟩ := h i hi
  unfold bFr bTo bMo
  omega

/-- What is known behind k steps (a step looks at one bound): T tells for each unknown the step that lowered it last, 0 if there was none. -/
structure Tm (bs : List (Int × Int × Int)) (n k : Nat) (vs ls : List Int) (T : Nat → Nat) : Prop where
  late : ∀ v, T v ≤ k
  link : ∀ v, v < n → 1 ≤ T v → ∃ i, i < bs.length ∧ ls.getD v 0 = (i : Int) ∧ bTo bs i = v ∧ vs.getD (bFr bs i) 0 + bMo bs i ≤ vs.getD v 0 ∧
    (T v ≤ T (bFr bs i) → vs.getD (bFr bs i) 0 + bMo bs i < vs.getD v 0) ∧ T v ≤ T (bFr bs i) + bs.length
  done : ∀ j m, j < bs.length → m * bs.length + j + 1 ≤ k → vs.getD (bTo bs j) 0 ≤ vs.getD (bFr bs j) 0 + bMo bs j ∨ m * bs.length + j + 1 ≤ T (bFr bs j)

theorem Tm.zero (bs : List (Int × Int × Int)) (n : Nat) : Tm bs n 0 (zerosL n) (zerosL n) (fun _ => 0) :=
  ⟨fun _ => Nat.le_refl _, fun v hv h => by simp at h, fun j m hj h => by omega⟩

theorem Tm.step {bs : List (Int × Int × Int)} {n r i : Nat} {st : LowSt} {T : Nat → Nat} (hok : BndsOk n bs) (hi : i < bs.length) (hv : st.vs.length = n) (hl : st.ls.length = n)
    (h : Tm bs n (r * bs.length + i) st.vs st.ls T) :
    ∃ T', Tm bs n (r * bs.length + i + 1) (lowStep bs st i).vs (lowStep bs st i).ls T' ∧ (∀ v, T v ≤ T' v) ∧
      ((lowStep bs st i).low = st.low ∨ ((lowStep bs st i).low = (bTo bs i : Int) ∧ T' (bTo bs i) = r * bs.length + i + 1)) := by
  obtain ⟨hu, hy, hw⟩ := ok_fr hok hi
  by_cases hlow : st.vs.getD (bFr bs i) 0 + bMo bs i < st.vs.getD (bTo bs i) 0
  · have e : lowStep bs st i = ⟨st.vs.set (bTo bs i) (st.vs.getD (bFr bs i) 0 + bMo bs i), st.ls.set (bTo bs i) i, bTo bs i⟩ := if_pos hlow
    rw [e]
    dsimp only
    obtain ⟨y, hye⟩ : ∃ y, y = bTo bs i := ⟨_, rfl⟩
    obtain ⟨u, hue⟩ : ∃ y, y = bFr bs i := ⟨_, rfl⟩
    obtain ⟨z, hze⟩ : ∃ z, z = st.vs.getD (bFr bs i) 0 + bMo bs i := ⟨_, rfl⟩
    rw [← hye] at hy hlow
    rw [← hze] at hlow
    rw [← hue] at hu hze
    rw [← hye, ← hue, ← hze]
    have G : ∀ v, (st.vs.set y z).getD v 0 = if v = y then z else st.vs.getD v 0 := fun v => getD_set_if (by omega)
    have GL : ∀ v, (st.ls.set y (i : Int)).getD v 0 = if v = y then (i : Int) else st.ls.getD v 0 := fun v => getD_set_if (by omega)
    have Gle : ∀ v, (st.vs.set y z).getD v 0 ≤ st.vs.getD v 0 := fun v => by rw [G]; split <;> (try subst_vars) <;> omega
    refine ⟨fun v => if v = y then r * bs.length + i + 1 else T v, ⟨?_, ?_, ?_⟩, ?_, Or.inr ⟨rfl, if_pos rfl⟩⟩
    · intro v
      have := h.late v
      show (if v = y then _ else T v) ≤ _
      split <;> omega
    · intro v hvn hT
      by_cases hvy : v = y
      · subst hvy
        refine ⟨i, hi, by rw [GL, if_pos rfl], hye.symm, ?_, ?_, ?_⟩
        · rw [← hue, G v, if_pos rfl]
          have := Gle u
          omega
        · intro hle
          rw [← hue] at hle ⊢
          by_cases huv : u = v
          · subst huv
            rw [G u, if_pos rfl]
            omega
          · have h1 := h.late u
            simp only [if_pos, if_neg huv] at hle
            omega
        · rw [← hue]
          show (if v = v then _ else _) ≤ (if u = v then _ else T u) + _
          rw [if_pos rfl]
          by_cases huv : u = v
          · rw [if_pos huv]; omega
          · rw [if_neg huv]
            cases r with
            | zero => omega
            | succ r =>
              have e2 : (r + 1) * bs.length = r * bs.length + bs.length := by rw [Nat.add_mul, Nat.one_mul]
              rcases h.done i r hi (by omega) with h1 | h1
              · rw [← hye, ← hue] at h1
                omega
              · rw [← hue] at h1
                omega
      · simp only [if_neg hvy] at hT
        obtain ⟨i', q1, q2, q3, q4, q5, q6⟩ := h.link v hvn hT
        refine ⟨i', q1, by rw [GL, if_neg hvy]; exact q2, q3, ?_, ?_, ?_⟩
        · rw [G v, if_neg hvy]
          have := Gle (bFr bs i')
          omega
        · intro hle
          rw [G v, if_neg hvy]
          by_cases huy : bFr bs i' = y
          · rw [G, if_pos huy]
            rw [huy] at q4
            omega
          · simp only [if_neg hvy, if_neg huy] at hle
            rw [G, if_neg huy]
            exact q5 hle
        · show (if v = y then _ else T v) ≤ (if bFr bs i' = y then _ else T (bFr bs i')) + _
          rw [if_neg hvy]
          have h1 := h.late v
          split <;> omega
    · intro j m hj hm
      show _ ∨ _ ≤ (if bFr bs j = y then _ else T (bFr bs j))
      by_cases hjy : bFr bs j = y
      · rw [if_pos hjy]
        exact Or.inr hm
      · rw [if_neg hjy, G (bFr bs j), if_neg hjy]
        by_cases hnew : m * bs.length + j + 1 ≤ r * bs.length + i
        · rcases h.done j m hj hnew with h1 | h1
          · exact Or.inl (Int.le_trans (Gle _) h1)
          · exact Or.inr h1
        · have hm2 : m * bs.length + j = r * bs.length + i := by omega
          have hji : j = i := by
            have h1 := congrArg (· % bs.length) hm2
            simp only [Nat.mul_add_mod', Nat.mul_comm _ bs.length, Nat.mul_add_mod] at h1
            rw [Nat.mod_eq_of_lt hj, Nat.mod_eq_of_lt hi] at h1
            exact h1
          subst hji
          refine Or.inl ?_
          rw [← hye, G y, if_pos rfl, ← hue]
          omega
    · intro v
      show T v ≤ (if v = y then _ else T v)
      have := h.late v
      split <;> omega
  · have e : lowStep bs st i = st := if_neg hlow
    rw [e]
    refine ⟨T, ⟨fun v => Nat.le_succ_of_le (h.late v), h.link, ?_⟩, fun v => Nat.le_refl _, Or.inl rfl⟩
    intro j m hj hm
    by_cases hnew : m * bs.length + j + 1 ≤ r * bs.length + i
    · exact h.done j m hj hnew
    · have hm2 : m * bs.length + j = r * bs.length + i := by omega
      have hji : j = i := by
        have h1 := congrArg (· % bs.length) hm2
        simp only [Nat.mul_comm _ bs.length, Nat.mul_add_mod] at h1
        rw [Nat.mod_eq_of_lt hj, Nat.mod_eq_of_lt hi] at h1
        exact h1
      subst hji
      exact Or.inl (by omega)

/-- A pass. -/
theorem Tm.pass {bs : List (Int × Int × Int)} {n r : Nat} {vs ls : List Int} {T : Nat → Nat} (hok : BndsOk n bs) (hv : vs.length = n) (hl : ls.length = n) (h : Tm bs n (r * bs.length) vs ls T) :
    ∀ k, k ≤ bs.length → ∃ T', Tm bs n (r * bs.length + k) (lowTo bs vs ls k).vs (lowTo bs vs ls k).ls T' ∧
      ((lowTo bs vs ls k).low = -1 ∨ ∃ v, v < n ∧ (lowTo bs vs ls k).low = (v : Int) ∧ r * bs.length < T' v)
  | 0, _ => ⟨T, h, Or.inl rfl⟩
  | k + 1, hk => by
    obtain ⟨T1, h1, h2⟩ := Tm.pass hok hv hl h k (by omega)
    have hlen := lowTo_len (bs := bs) (vs := vs) (ls := ls) k
    obtain ⟨T2, g1, g2, g3⟩ := Tm.step hok (show k < bs.length by omega) (by omega) (by omega) h1
    refine ⟨T2, g1, ?_⟩
    rw [lowTo]
    rcases g3 with g3 | ⟨g3, g4⟩
    · rw [g3]
      rcases h2 with h2 | ⟨v, hv1, hv2, hv3⟩
      · exact Or.inl h2
      · exact Or.inr ⟨v, hv1, hv2, Nat.lt_of_lt_of_le hv3 (g2 v)⟩
    · exact Or.inr ⟨bTo bs k, (ok_fr hok (by omega)).2.1, g3, by omega⟩
theorem Tm.all {bs : List (Int × Int × Int)} {n : Nat} (hok : BndsOk n bs) : ∀ q, ∃ T, Tm bs n (q * bs.length) (solveSt bs n q).vs (solveSt bs n q).ls T ∧
    ((solveSt bs n q).low = -1 ∨ ∃ v, v < n ∧ (solveSt bs n q).low = (v : Int) ∧ q * bs.length < T v + bs.length)
  | 0 => ⟨fun _ => 0, by rw [Nat.zero_mul]; exact Tm.zero bs n, Or.inl rfl⟩
  | q + 1 => by
    obtain ⟨T, h, _⟩ := Tm.all hok q
    have hlen := solveSt_len (bs := bs) (n := n) q
    obtain ⟨T', h1, h2⟩ := Tm.pass hok hlen.1 hlen.2 h bs.length (Nat.le_refl _)
    refine ⟨T', by rw [Nat.add_mul, Nat.one_mul]; exact h1, ?_⟩
    rcases h2 with h2 | ⟨v, h3, h4, h5⟩
    · exact Or.inl h2
    · exact Or.inr ⟨v, h3, h4, by rw [Nat.add_mul, Nat.one_mul]; omega⟩

/-- Back along the bounds that lowered. -/
def lowB (ls : List Int) (v : Nat) : Nat := (ls.getD v 0).toNat
def backB (bs : List (Int × Int × Int)) (ls : List Int) (v : Nat) : Nat → Nat
  | 0 => v
  | k + 1 => bFr bs (lowB ls (backB bs ls v k))
theorem backB_add (bs : List (Int × Int × Int)) (ls : List Int) (v a : Nat) : ∀ b, backB bs ls v (a + b) = backB bs ls (backB bs ls v a) b
  | 0 => rfl
  | b + 1 => by show bFr bs (lowB ls (backB bs ls v (a + b))) = _; rw [backB_add bs ls v a b]; rfl

/-- Among n + 1 numbers below n two are the same. -/
theorem pigeon : ∀ (n : Nat) (f : Nat → Nat), (∀ k, k ≤ n → f k < n) → ∃ i j, i < j ∧ j ≤ n ∧ f i = f j
  | 0, f, h => absurd (h 0 (Nat.le_refl _)) (by omega)
  | n + 1, f, h => by
    by_cases hx : ∃ i, i ≤ n ∧ f i = f (n + 1)
    · obtain ⟨i, h1, h2⟩ := hx
      exact ⟨i, n + 1, by omega, Nat.le_refl _, h2⟩
    · obtain ⟨i, j, h1, h2, h3⟩ := pigeon n (fun k => if f k = n then f (n + 1) else f k) (fun k hk => by
        have g1 := h k (by omega)
        have g2 := h (n + 1) (Nat.le_refl _)
        have g3 : f k ≠ f (n + 1) := fun e => hx ⟨k, hk, e⟩
        show (if f k = n then f (n + 1) else f k) < n
        split <;> omega)
      refine ⟨i, j, h1, by omega, ?_⟩
      have g1 : f i ≠ f (n + 1) := fun e => hx ⟨i, by omega, e⟩
      have g2 : f j ≠ f (n + 1) := fun e => hx ⟨j, by omega, e⟩
      have h4 : (if f i = n then f (n + 1) else f i) = (if f j = n then f (n + 1) else f j) := h3
      split at h4 <;> split at h4 <;> omega

/-- The circle that is found: z lies on it, c bounds long. -/
structure Circ (bs : List (Int × Int × Int)) (n : Nat) (vs ls : List Int) (z c : Nat) : Prop where
  one : 1 ≤ c
  most : c ≤ n
  back : backB bs ls z c = z
  first : ∀ t, 1 ≤ t → t < c → backB bs ls z t ≠ z
  num : ∀ t, backB bs ls z t < n
  low : ∀ t, lowB ls (backB bs ls z t) < bs.length ∧ ls.getD (backB bs ls z t) 0 = (lowB ls (backB bs ls z t) : Int) ∧ bTo bs (lowB ls (backB bs ls z t)) = backB bs ls z t
  sum : ∃ T : Nat → Nat, ∀ t, vs.getD (backB bs ls z (t + 1)) 0 + bMo bs (lowB ls (backB bs ls z t)) ≤ vs.getD (backB bs ls z t) 0 ∧
    (T (backB bs ls z t) ≤ T (backB bs ls z (t + 1)) → vs.getD (backB bs ls z (t + 1)) 0 + bMo bs (lowB ls (backB bs ls z t)) < vs.getD (backB bs ls z t) 0)

theorem least {P : Nat → Prop} [DecidablePred P] : ∀ n, P n → ∃ m, m ≤ n ∧ P m ∧ ∀ k, k < m → ¬ P k := by
  intro n
  induction n using Nat.strongRecOn with
  | ind n ih =>
    intro h
    by_cases hx : ∃ k, k < n ∧ P k
    · obtain ⟨k, h1, h2⟩ := hx
      obtain ⟨m, g1, g2, g3⟩ := ih k h1 h2
      exact ⟨m, by omega, g2, g3⟩
    · exact ⟨n, Nat.le_refl _, h, fun k hk hp => hx ⟨k, hk, hp⟩⟩

/-- Steps back from an unknown that was lowered in pass n: each of the first n of them is a bound that lowered. -/
theorem back_steps {bs : List (Int × Int × Int)} {n : Nat} {vs ls : List Int} {T : Nat → Nat} {v : Nat} (hok : BndsOk n bs) (h : Tm bs n (n * bs.length) vs ls T) (hv : v < n) (hT : n * bs.length < T v + bs.length) :
    ∀ k, k ≤ n → backB bs ls v k < n ∧ (n * bs.length < T (backB bs ls v k) + (k + 1) * bs.length) := by
  intro k
  induction k with
  | zero => intro _; exact ⟨hv, by rw [Nat.zero_add, Nat.one_mul]; exact hT⟩
  | succ k ih =>
    intro hk
    obtain ⟨h1, h2⟩ := ih (by omega)
    have h3 : (k + 1) * bs.length ≤ n * bs.length := Nat.mul_le_mul_right _ hk
    obtain ⟨i, g1, g2, g3, g4, g5, g6⟩ := h.link _ h1 (by omega)
    have e : lowB ls (backB bs ls v k) = i := by unfold lowB; rw [g2]; rfl
    have e2 : backB bs ls v (k + 1) = bFr bs i := by show bFr bs (lowB ls (backB bs ls v k)) = _; rw [e]
    rw [e2]
    refine ⟨(ok_fr hok g1).1, ?_⟩
    have e3 : (k + 1 + 1) * bs.length = (k + 1) * bs.length + bs.length := by rw [Nat.add_mul, Nat.one_mul]
    omega
theorem circ_of {bs : List (Int × Int × Int)} {n : Nat} {vs ls : List Int} {T : Nat → Nat} {v : Nat} (hok : BndsOk n bs) (h : Tm bs n (n * bs.length) vs ls T) (hv : v < n) (hT : n * bs.length < T v + bs.length) :
    ∃ c, Circ bs n vs ls (backB bs ls v n) c := by
  have hs := back_steps hok h hv hT
  obtain ⟨i, j, hij, hj, hf⟩ := pigeon n (backB bs ls v) (fun k hk => (hs k hk).1)
  -- every unknown behind i on is one of those from i to below j
  have hcyc : ∀ t, ∃ m, i ≤ m ∧ m < j ∧ backB bs ls v (i + t) = backB bs ls v m := by
    intro t
    induction t with
    | zero => exact ⟨i, Nat.le_refl _, hij, rfl⟩
    | succ t ih =>
      obtain ⟨m, h1, h2, h3⟩ := ih
      have e : backB bs ls v (i + (t + 1)) = backB bs ls v (m + 1) := by
        show bFr bs (lowB ls (backB bs ls v (i + t))) = bFr bs (lowB ls (backB bs ls v m))
        rw [h3]
      by_cases hm : m + 1 < j
      · exact ⟨m + 1, by omega, hm, e⟩
      · obtain rfl : j = m + 1 := by omega
        exact ⟨i, Nat.le_refl _, hij, by rw [e, hf]⟩
  have hz : ∀ t, ∃ m, m < n ∧ backB bs ls (backB bs ls v n) t = backB bs ls v m := by
    intro t
    rw [← backB_add]
    obtain ⟨m, h1, h2, h3⟩ := hcyc (n - i + t)
    rw [show i + (n - i + t) = n + t by omega] at h3
    exact ⟨m, by omega, h3⟩
  have hper : ∀ t, i ≤ t → backB bs ls v (t + (j - i)) = backB bs ls v t := by
    intro t ht
    obtain ⟨s, rfl⟩ : ∃ s, t = i + s := ⟨t - i, by omega⟩
    rw [show i + s + (j - i) = j + s by omega, backB_add, backB_add bs ls v i s, hf]
  have hback : backB bs ls (backB bs ls v n) (j - i) = backB bs ls v n := by rw [← backB_add]; exact hper n (by omega)
  obtain ⟨c', hc1, hc2, hc3⟩ := least (P := fun t => 1 ≤ t ∧ backB bs ls (backB bs ls v n) t = backB bs ls v n) (j - i) ⟨by omega, hback⟩
  have hlink : ∀ t, ∃ i', i' < bs.length ∧ ls.getD (backB bs ls (backB bs ls v n) t) 0 = (i' : Int) ∧ bTo bs i' = backB bs ls (backB bs ls v n) t ∧ vs.getD (bFr bs i') 0 + bMo bs i' ≤ vs.getD (backB bs ls (backB bs ls v n) t) 0 ∧
      (T (backB bs ls (backB bs ls v n) t) ≤ T (bFr bs i') → vs.getD (bFr bs i') 0 + bMo bs i' < vs.getD (backB bs ls (backB bs ls v n) t) 0) := by
    intro t
    obtain ⟨m, h1, h2⟩ := hz t
    rw [h2]
    obtain ⟨h3, h4⟩ := hs m (by omega)
    have h5 : (m + 1) * bs.length ≤ n * bs.length := Nat.mul_le_mul_right _ h1
    obtain ⟨i', g1, g2, g3, g4, g5, g6⟩ := h.link _ h3 (by omega)
    exact ⟨i', g1, g2, g3, g4, g5⟩
  refine ⟨c', hc2.1, by omega, hc2.2, fun t h1 h2 e => hc3 t h2 ⟨h1, e⟩, fun t => ?_, fun t => ?_, T, fun t => ?_⟩
  · obtain ⟨m, h1, h2⟩ := hz t
    rw [h2]; exact (hs m (by omega)).1
  · obtain ⟨i', g1, g2, g3, _⟩ := hlink t
    have e : lowB ls (backB bs ls (backB bs ls v n) t) = i' := by unfold lowB; rw [g2]; rfl
    rw [e]; exact ⟨g1, g2, g3⟩
  · obtain ⟨i', g1, g2, g3, g4, g5⟩ := hlink t
    have e : lowB ls (backB bs ls (backB bs ls v n) t) = i' := by unfold lowB; rw [g2]; rfl
    have e2 : backB bs ls (backB bs ls v n) (t + 1) = bFr bs i' := by show bFr bs (lowB ls (backB bs ls (backB bs ls v n) t)) = _; rw [e]
    rw [e2, e]; exact ⟨g4, g5⟩

/-- The sum along the first t bounds of the circle. -/
def sumB (bs : List (Int × Int × Int)) (ls : List Int) (z : Nat) : Nat → Int
  | 0 => 0
  | t + 1 => sumB bs ls z t + bMo bs (lowB ls (backB bs ls z t))
theorem Circ.neg {bs : List (Int × Int × Int)} {n : Nat} {vs ls : List Int} {z c : Nat} (h : Circ bs n vs ls z c) : sumB bs ls z c < 0 := by
  obtain ⟨T, hT⟩ := h.sum
  have key : ∀ t, vs.getD (backB bs ls z t) 0 + sumB bs ls z t ≤ vs.getD z 0 ∧ (vs.getD (backB bs ls z t) 0 + sumB bs ls z t < vs.getD z 0 ∨ T (backB bs ls z t) + t ≤ T z) := by
    intro t
    induction t with
    | zero => exact ⟨by simp [backB, sumB], Or.inr (Nat.le_refl _)⟩
    | succ t ih =>
      obtain ⟨h1, h2⟩ := ih
      obtain ⟨g1, g2⟩ := hT t
      rw [sumB]
      refine ⟨by omega, ?_⟩
      by_cases hle : T (backB bs ls z t) ≤ T (backB bs ls z (t + 1))
      · have := g2 hle
        exact Or.inl (by omega)
      · rcases h2 with h2 | h2
        · exact Or.inl (by omega)
        · exact Or.inr (by omega)
  obtain ⟨h1, h2⟩ := key c
  rw [h.back] at h1 h2
  have := h.one
  rcases h2 with h2 | h2 <;> omega

/-- Where n passes lower, the next one does too. -/
theorem low_again {bs : List (Int × Int × Int)} {n : Nat} {vs ls : List Int} {z c : Nat} (h : Circ bs n vs ls z c) {x : List Int} (hx : ∀ i, i < bs.length → x.getD (bTo bs i) 0 ≤ x.getD (bFr bs i) 0 + bMo bs i) : False := by
  have key : ∀ t, x.getD z 0 ≤ x.getD (backB bs ls z t) 0 + sumB bs ls z t := by
    intro t
    induction t with
    | zero => simp [backB, sumB]
    | succ t ih =>
      obtain ⟨g1, _, g3⟩ := h.low t
      have := hx _ g1
      rw [g3] at this
      rw [sumB]
      have e : backB bs ls z (t + 1) = bFr bs (lowB ls (backB bs ls z t)) := rfl
      rw [e]
      omega
  have h1 := key c
  rw [h.back] at h1
  have := h.neg
  omega
end Go.Proofs.Ytnilfacofikoaaa
