/- Plain facts on lines at dots: the triple with the greatest bend keeps all dots. No condition beyond the premises of each theorem. -/
import Derived.Test.YtjomcobhinnikaaCheckLine
namespace Go.Proofs.Ytjomcobhinnikaa
open Go.RowKit
set_option linter.unusedVariables false

/-- A bend is not greater in size than another one. -/
def leB (h1 w1 h2 w2 : Int) : Prop := (h1.natAbs : Int) * w2 ≤ (h2.natAbs : Int) * w1
theorem leB_trans {a u b v c w : Int} (hv : 0 < v) (hu : 0 ≤ u) (hw : 0 ≤ w) (h1 : leB a u b v) (h2 : leB b v c w) : leB a u c w := by
  unfold leB at *
  have k1 := Int.mul_le_mul_of_nonneg_right h1 hw
  have k2 := Int.mul_le_mul_of_nonneg_right h2 hu
  have e1 : (b.natAbs : Int) * u * w = (b.natAbs : Int) * w * u := by ac_rfl
  have e2 : (a.natAbs : Int) * v * w = v * ((a.natAbs : Int) * w) := by ac_rfl
  have e3 : (c.natAbs : Int) * v * u = v * ((c.natAbs : Int) * u) := by ac_rfl
  have k3 : v * ((a.natAbs : Int) * w) ≤ v * ((c.natAbs : Int) * u) := by omega
  exact Int.le_of_mul_le_mul_left k3 hv
theorem leB_of_not {h1 w1 h2 w2 : Int} (h : beyondB h1 w1 h2 w2 = false) : leB h1 w1 h2 w2 := by
  have := of_decide_eq_false h
  unfold leB
  omega
theorem leB_of {h1 w1 h2 w2 : Int} (h : beyondB h1 w1 h2 w2 = true) : leB h2 w2 h1 w1 := by
  have := of_decide_eq_true h
  unfold leB
  omega
/-- One triple is not beyond another one. -/
def leT (ds : List (Int × Int)) (q p : Nat × Nat × Nat) : Prop := leB (bH ds q.1 q.2.1 q.2.2) (bW ds q.1 q.2.2) (bH ds p.1 p.2.1 p.2.2) (bW ds p.1 p.2.2)
theorem wide_pos {ds : List (Int × Int)} (h : DotsOk ds) {p : Nat × Nat × Nat} (hp : okT ds.length p) : 0 < bW ds p.1 p.2.2 := by
  have := h.asc p.1 p.2.2 (Nat.lt_trans hp.1 hp.2.1) hp.2.2
  unfold bW
  omega
theorem leT_trans {ds : List (Int × Int)} (h : DotsOk ds) {q p r : Nat × Nat × Nat} (hq : okT ds.length q) (hp : okT ds.length p) (hr : okT ds.length r) (h1 : leT ds q p) (h2 : leT ds p r) : leT ds q r :=
  leB_trans (wide_pos h hp) (Int.le_of_lt (wide_pos h hq)) (Int.le_of_lt (wide_pos h hr)) h1 h2
theorem leT_refl {ds : List (Int × Int)} (p : Nat × Nat × Nat) : leT ds p p := Int.le_refl _
theorem leT_pick {ds : List (Int × Int)} {p : Nat × Nat × Nat} {i j k : Nat} : leT ds p (pickT ds p i j k) ∧ leT ds (i, j, k) (pickT ds p i j k) := by
  unfold pickT
  split
  · rename_i h; exact ⟨leB_of h, leT_refl _⟩
  · rename_i h; exact ⟨leT_refl _, leB_of_not (by simpa using h)⟩
theorem kTo_max {ds : List (Int × Int)} (h : DotsOk ds) {i j : Nat} {p : Nat × Nat × Nat} (hp : okT ds.length p) (hij : i < j) : ∀ r, j + r < ds.length → okT ds.length (kTo ds i j r p) ∧ leT ds p (kTo ds i j r p) ∧ ∀ s, s < r → leT ds (i, j, j + 1 + s) (kTo ds i j r p)
  | 0, _ => ⟨hp, leT_refl _, fun s hs => by omega⟩
  | r + 1, hr => by
    obtain ⟨h1, h2, h3⟩ := kTo_max h hp hij r (by omega)
    have hok : okT ds.length (kTo ds i j (r + 1) p) := okT_pick h1 hij (by omega) (by omega)
    obtain ⟨g1, g2⟩ := leT_pick (ds := ds) (p := kTo ds i j r p) (i := i) (j := j) (k := j + 1 + r)
    refine ⟨hok, leT_trans h hp h1 hok h2 g1, fun s hs => ?_⟩
    rcases Nat.lt_or_ge s r with hlt | hge
    · exact leT_trans h ⟨hij, by show j < j + 1 + s; omega, by show j + 1 + s < ds.length; omega⟩ h1 hok (h3 s hlt) g1
    · obtain rfl : s = r := by omega
      exact g2
theorem jTo_max {ds : List (Int × Int)} (h : DotsOk ds) {i : Nat} {p : Nat × Nat × Nat} (hp : okT ds.length p) : ∀ s, i + s < ds.length → okT ds.length (jTo ds i s p) ∧ leT ds p (jTo ds i s p) ∧ ∀ j k, i < j → j < i + 1 + s → j < k → k < ds.length → leT ds (i, j, k) (jTo ds i s p)
  | 0, _ => ⟨hp, leT_refl _, fun j k h1 h2 => by omega⟩
  | s + 1, hs => by
    obtain ⟨h1, h2, h3⟩ := jTo_max h (i := i) hp s (by omega)
    obtain ⟨g1, g2, g3⟩ := kTo_max h h1 (show i < i + 1 + s by omega) (ds.length - (i + 1 + s + 1)) (by omega)
    rw [jTo]
    refine ⟨g1, leT_trans h hp h1 g1 h2 g2, fun j k hij hj hjk hk => ?_⟩
    rcases Nat.lt_or_ge j (i + 1 + s) with hlt | hge
    · exact leT_trans h ⟨hij, hjk, hk⟩ h1 g1 (h3 j k hij hlt hjk hk) g2
    · obtain rfl : j = i + 1 + s := by omega
      have := g3 (k - (i + 1 + s + 1)) (by omega)
      rwa [show i + 1 + s + 1 + (k - (i + 1 + s + 1)) = k by omega] at this
theorem iTo_max {ds : List (Int × Int)} (h : DotsOk ds) {p : Nat × Nat × Nat} (hp : okT ds.length p) : ∀ t, t ≤ ds.length → okT ds.length (iTo ds t p) ∧ leT ds p (iTo ds t p) ∧ ∀ i j k, i < t → i < j → j < k → k < ds.length → leT ds (i, j, k) (iTo ds t p)
  | 0, _ => ⟨hp, leT_refl _, fun i j k h1 => by omega⟩
  | t + 1, ht => by
    obtain ⟨h1, h2, h3⟩ := iTo_max h hp t (by omega)
    obtain ⟨g1, g2, g3⟩ := jTo_max h (i := t) h1 (ds.length - (t + 1)) (by omega)
    rw [iTo]
    refine ⟨g1, leT_trans h hp h1 g1 h2 g2, fun i j k hi hij hjk hk => ?_⟩
    rcases Nat.lt_or_ge i t with hlt | hge
    · exact leT_trans h ⟨hij, hjk, hk⟩ h1 g1 (h3 i j k hlt hij hjk hk) g2
    · obtain rfl : i = t := by omega
      exact g3 j k hij (by omega) hjk hk
theorem best_max {ds : List (Int × Int)} (h : DotsOk ds) : okT ds.length (bestT ds) ∧ ∀ i j k, i < j → j < k → k < ds.length → leT ds (i, j, k) (bestT ds) := by
  have h3 := h.three
  obtain ⟨h1, _, h2⟩ := iTo_max h (p := (0, 1, 2)) ⟨by decide, by decide, by show 2 < ds.length; omega⟩ ds.length (Nat.le_refl _)
  exact ⟨h1, fun i j k hij hjk hk => h2 i j k (by omega) hij hjk hk⟩

/-- The bend of three values at three places. -/
def bendE (X E : Nat → Int) (x y z : Nat) : Int := E y * (X z - X x) - E x * (X z - X y) - E z * (X y - X x)
theorem bend_alt {X E : Nat → Int} {x y z : Nat} {H : Int} (hxy : X x < X y) (hyz : X y < X z) (h1 : E x ≤ -H) (h2 : H ≤ E y) (h3 : E z ≤ -H) (hs : E x < -H ∨ H < E y ∨ E z < -H) : 2 * H * (X z - X x) < bendE X E x y z := by
  obtain ⟨u, hu⟩ : ∃ u, u = X y - X x := ⟨_, rfl⟩
  obtain ⟨v, hv⟩ : ∃ u, u = X z - X y := ⟨_, rfl⟩
  have e : X z - X x = u + v := by omega
  unfold bendE
  rw [e, ← hu, ← hv]
  have hu0 : 0 < u := by omega
  have hv0 : 0 < v := by omega
  have p1 : 0 ≤ (E y - H) * (u + v) := Int.mul_nonneg (by omega) (by omega)
  have p2 : 0 ≤ (-H - E x) * v := Int.mul_nonneg (by omega) (by omega)
  have p3 : 0 ≤ (-H - E z) * u := Int.mul_nonneg (by omega) (by omega)
  have key : E y * (u + v) - E x * v - E z * u - 2 * H * (u + v) = (E y - H) * (u + v) + (-H - E x) * v + (-H - E z) * u := by
    simp only [Int.sub_mul, Int.mul_add, Int.neg_mul, Int.mul_assoc]
    omega
  rcases hs with h | h | h
  · have : 0 < (-H - E x) * v := Int.mul_pos (by omega) hv0
    omega
  · have : 0 < (E y - H) * (u + v) := Int.mul_pos (by omega) (by omega)
    omega
  · have : 0 < (-H - E z) * u := Int.mul_pos (by omega) hu0
    omega
/-- A value that is too great, or too little, lets three places bend more. -/
theorem exchange {X E : Nat → Int} {n i j k : Nat} {H : Int} (hX : ∀ x y, x < y → y < n → X x < X y) (hij : i < j) (hjk : j < k) (hk : k < n) (hi1 : E i = -H) (hj1 : E j = H) (hk1 : E k = -H) (hH : 0 ≤ H) {t : Nat} (ht : t < n) (hv : H < E t ∨ E t < -H) :
    ∃ x y z, x < y ∧ y < z ∧ z < n ∧ 2 * H * (X z - X x) < ((bendE X E x y z).natAbs : Int) := by
  have hneg : ∀ x y z, bendE X (fun s => -E s) x y z = -bendE X E x y z := fun x y z => by
    unfold bendE
    simp only [Int.neg_mul]
    omega
  have pos : ∀ x y z, x < y → y < z → z < n → 2 * H * (X z - X x) < bendE X E x y z → ∃ x y z, x < y ∧ y < z ∧ z < n ∧ 2 * H * (X z - X x) < ((bendE X E x y z).natAbs : Int) := fun x y z h1 h2 h3 h4 => ⟨x, y, z, h1, h2, h3, by omega⟩
  have neg : ∀ x y z, x < y → y < z → z < n → 2 * H * (X z - X x) < bendE X (fun s => -E s) x y z → ∃ x y z, x < y ∧ y < z ∧ z < n ∧ 2 * H * (X z - X x) < ((bendE X E x y z).natAbs : Int) := fun x y z h1 h2 h3 h4 => ⟨x, y, z, h1, h2, h3, by rw [hneg] at h4; omega⟩
  rcases hv with hv | hv
  · rcases Nat.lt_trichotomy t i with h | h | h
    · exact neg t i j h hij (by omega) (bend_alt (hX t i h (by omega)) (hX i j hij (by omega)) (by show -E t ≤ -H; omega) (by show H ≤ -E i; omega) (by show -E j ≤ -H; omega) (Or.inl (by show -E t < -H; omega)))
    · subst h; omega
    · rcases Nat.lt_trichotomy t k with g | g | g
      · exact pos i t k h g hk (bend_alt (hX i t h ht) (hX t k g hk) (by omega) (by omega) (by omega) (Or.inr (Or.inl hv)))
      · subst g; omega
      · exact neg j k t hjk g ht (bend_alt (hX j k hjk hk) (hX k t g ht) (by show -E j ≤ -H; omega) (by show H ≤ -E k; omega) (by show -E t ≤ -H; omega) (Or.inr (Or.inr (by show -E t < -H; omega))))
  · rcases Nat.lt_trichotomy t j with h | h | h
    · exact pos t j k h hjk hk (bend_alt (hX t j h (by omega)) (hX j k hjk hk) (by omega) (by omega) (by omega) (Or.inl hv))
    · subst h; omega
    · exact pos i j t hij h ht (bend_alt (hX i j hij (by omega)) (hX j t h ht) (by omega) (by omega) (by omega) (Or.inr (Or.inr hv)))

/-- How far a dot lies above the best line at three dots, times twice their width. -/
def numS (ds : List (Int × Int)) (p : Nat × Nat × Nat) : Int := 2 * (dY ds p.1 * dX ds p.2.2 - dY ds p.2.2 * dX ds p.1) + bH ds p.1 p.2.1 p.2.2
def numK (ds : List (Int × Int)) (p : Nat × Nat × Nat) : Int := dY ds p.2.2 - dY ds p.1
def farE (ds : List (Int × Int)) (p : Nat × Nat × Nat) (t : Nat) : Int := 2 * bW ds p.1 p.2.2 * dY ds t - numS ds p - 2 * numK ds p * dX ds t
theorem farE_ends (ds : List (Int × Int)) (p : Nat × Nat × Nat) : farE ds p p.1 = -bH ds p.1 p.2.1 p.2.2 ∧ farE ds p p.2.1 = bH ds p.1 p.2.1 p.2.2 ∧ farE ds p p.2.2 = -bH ds p.1 p.2.1 p.2.2 := by
  unfold farE numS numK bH bendH bW
  simp only [Int.sub_mul, Int.mul_sub, Int.mul_assoc, Int.mul_comm, Int.mul_left_comm]
  refine ⟨?_, ?_, ?_⟩ <;> omega
theorem farE_bend (ds : List (Int × Int)) (p : Nat × Nat × Nat) (x y z : Nat) : bendE (dX ds) (farE ds p) x y z = 2 * bW ds p.1 p.2.2 * bH ds x y z := by
  obtain ⟨W, hW⟩ : ∃ W, W = 2 * bW ds p.1 p.2.2 := ⟨_, rfl⟩
  obtain ⟨S, hS⟩ : ∃ W, W = numS ds p := ⟨_, rfl⟩
  obtain ⟨K, hK⟩ : ∃ W, W = 2 * numK ds p := ⟨_, rfl⟩
  unfold bendE farE bH bendH
  rw [← hW, ← hS, ← hK]
  simp only [Int.sub_mul, Int.mul_sub, Int.mul_assoc, Int.mul_comm, Int.mul_left_comm]
  omega
theorem best_keeps {ds : List (Int × Int)} (h : DotsOk ds) {t : Nat} (ht : t < ds.length) :
    -((bH ds (bestT ds).1 (bestT ds).2.1 (bestT ds).2.2).natAbs : Int) ≤ farE ds (bestT ds) t ∧ farE ds (bestT ds) t ≤ ((bH ds (bestT ds).1 (bestT ds).2.1 (bestT ds).2.2).natAbs : Int) := by
  obtain ⟨hok, hmax⟩ := best_max h
  obtain ⟨p, hp⟩ : ∃ p, p = bestT ds := ⟨_, rfl⟩
  rw [← hp] at hok hmax ⊢
  obtain ⟨e1, e2, e3⟩ := farE_ends ds p
  have hw := wide_pos h hok
  have hX : ∀ x y, x < y → y < ds.length → dX ds x < dX ds y := h.asc
  have contra : (∃ x y z, x < y ∧ y < z ∧ z < ds.length ∧ 2 * ((bH ds p.1 p.2.1 p.2.2).natAbs : Int) * (dX ds z - dX ds x) < ((bendE (dX ds) (farE ds p) x y z).natAbs : Int)) → False := by
    rintro ⟨x, y, z, h1, h2, h3, h4⟩
    have h5 := hmax x y z h1 h2 h3
    unfold leT leB at h5
    rw [farE_bend, Int.natAbs_mul, Int.natAbs_mul, Int.natCast_mul, Int.natCast_mul, show (Int.natAbs 2 : Int) = 2 from rfl, Int.natAbs_of_nonneg (Int.le_of_lt hw)] at h4
    have h6 : 2 * ((bH ds p.1 p.2.1 p.2.2).natAbs : Int) * (dX ds z - dX ds x) = 2 * (((bH ds p.1 p.2.1 p.2.2).natAbs : Int) * bW ds x z) := by rw [Int.mul_assoc]; rfl
    have h7 : 2 * bW ds p.1 p.2.2 * ((bH ds x y z).natAbs : Int) = 2 * (((bH ds x y z).natAbs : Int) * bW ds p.1 p.2.2) := by rw [Int.mul_assoc, Int.mul_comm (bW ds p.1 p.2.2)]
    rw [h6, h7] at h4
    simp only at h5
    omega
  by_cases hs : 0 ≤ bH ds p.1 p.2.1 p.2.2
  · have hab : ((bH ds p.1 p.2.1 p.2.2).natAbs : Int) = bH ds p.1 p.2.1 p.2.2 := by omega
    rw [hab] at contra ⊢
    by_cases hv : bH ds p.1 p.2.1 p.2.2 < farE ds p t ∨ farE ds p t < -bH ds p.1 p.2.1 p.2.2
    · exact (contra (exchange hX hok.1 hok.2.1 hok.2.2 e1 e2 e3 hs ht hv)).elim
    · omega
  · have hab : ((bH ds p.1 p.2.1 p.2.2).natAbs : Int) = -bH ds p.1 p.2.1 p.2.2 := by omega
    rw [hab] at contra ⊢
    by_cases hv : -bH ds p.1 p.2.1 p.2.2 < farE ds p t ∨ farE ds p t < -(-bH ds p.1 p.2.1 p.2.2)
    · have hneg : ∀ x y z, bendE (dX ds) (fun s => -farE ds p s) x y z = -bendE (dX ds) (farE ds p) x y z := fun x y z => by
        unfold bendE
        simp only [Int.neg_mul]
        omega
      obtain ⟨x, y, z, h1, h2, h3, h4⟩ := exchange (E := fun s => -farE ds p s) (H := -bH ds p.1 p.2.1 p.2.2) hX hok.1 hok.2.1 hok.2.2 (by show -farE ds p p.1 = _; omega) (by show -farE ds p p.2.1 = _; omega) (by show -farE ds p p.2.2 = _; omega) (by omega) ht (by show _ < -farE ds p t ∨ -farE ds p t < _; omega)
      rw [hneg, Int.natAbs_neg] at h4
      exact (contra ⟨x, y, z, h1, h2, h3, h4⟩).elim
    · omega

/-- Bounds. -/
theorem bend_small {ds : List (Int × Int)} (h : DotsOk ds) {p : Nat × Nat × Nat} (hp : okT ds.length p) : ((bH ds p.1 p.2.1 p.2.2).natAbs : Int) ≤ 20000 * bW ds p.1 p.2.2 ∧ 1 ≤ bW ds p.1 p.2.2 ∧ bW ds p.1 p.2.2 ≤ 20000 := by
  have h1 := h.asc _ _ hp.1 (Nat.lt_trans hp.2.1 hp.2.2)
  have h2 := h.asc _ _ hp.2.1 hp.2.2
  have a1 := h.inY p.1 (Nat.lt_trans hp.1 (Nat.lt_trans hp.2.1 hp.2.2))
  have a2 := h.inY p.2.1 (Nat.lt_trans hp.2.1 hp.2.2)
  have a3 := h.inY p.2.2 hp.2.2
  have b1 := h.inX p.1 (Nat.lt_trans hp.1 (Nat.lt_trans hp.2.1 hp.2.2))
  have b3 := h.inX p.2.2 hp.2.2
  unfold inD at a1 a2 a3 b1 b3
  obtain ⟨u, hu⟩ : ∃ u, u = dX ds p.2.1 - dX ds p.1 := ⟨_, rfl⟩
  obtain ⟨v, hv⟩ : ∃ u, u = dX ds p.2.2 - dX ds p.2.1 := ⟨_, rfl⟩
  have hw : bW ds p.1 p.2.2 = u + v := by unfold bW; omega
  have e : bH ds p.1 p.2.1 p.2.2 = (dY ds p.2.1 - dY ds p.1) * v + (dY ds p.2.1 - dY ds p.2.2) * u := by
    have e1 : dX ds p.2.1 = dX ds p.1 + u := by omega
    have e2 : dX ds p.2.2 = dX ds p.1 + u + v := by omega
    unfold bH bendH
    rw [e1, e2]
    simp only [Int.sub_mul, Int.mul_sub, Int.mul_add]
    omega
  have m1 : -(20000 * v) ≤ (dY ds p.2.1 - dY ds p.1) * v ∧ (dY ds p.2.1 - dY ds p.1) * v ≤ 20000 * v := by
    have k1 := Int.mul_le_mul_of_nonneg_right (show dY ds p.2.1 - dY ds p.1 ≤ 20000 by omega) (show 0 ≤ v by omega)
    have k2 := Int.mul_le_mul_of_nonneg_right (show -20000 ≤ dY ds p.2.1 - dY ds p.1 by omega) (show 0 ≤ v by omega)
    rw [Int.neg_mul] at k2
    omega
  have m2 : -(20000 * u) ≤ (dY ds p.2.1 - dY ds p.2.2) * u ∧ (dY ds p.2.1 - dY ds p.2.2) * u ≤ 20000 * u := by
    have k1 := Int.mul_le_mul_of_nonneg_right (show dY ds p.2.1 - dY ds p.2.2 ≤ 20000 by omega) (show 0 ≤ u by omega)
    have k2 := Int.mul_le_mul_of_nonneg_right (show -20000 ≤ dY ds p.2.1 - dY ds p.2.2 by omega) (show 0 ≤ u by omega)
    rw [Int.neg_mul] at k2
    omega
  rw [hw, e]
  omega
theorem start_in {ds : List (Int × Int)} (h : DotsOk ds) {p : Nat × Nat × Nat} (hp : okT ds.length p) : -800000000 ≤ numS ds p ∧ numS ds p ≤ 800000000 := by
  obtain ⟨h1, h2, h3⟩ := bend_small h hp
  have a1 := h.inY p.1 (Nat.lt_trans hp.1 (Nat.lt_trans hp.2.1 hp.2.2))
  have a3 := h.inY p.2.2 hp.2.2
  have b1 := h.inX p.1 (Nat.lt_trans hp.1 (Nat.lt_trans hp.2.1 hp.2.2))
  have b3 := h.inX p.2.2 hp.2.2
  unfold inD at a1 a3 b1 b3
  have m1 := mul_bound (x := dY ds p.1) (y := dX ds p.2.2) 10000 10000 (by omega) (by omega)
  have m2 := mul_bound (x := dY ds p.2.2) (y := dX ds p.1) 10000 10000 (by omega) (by omega)
  rw [show (10000 * 10000 : Nat) = 100000000 from rfl] at m1 m2
  unfold numS
  omega
/-- What lowest terms are. -/
theorem low_parts {n d : Int} (hn : -1000000000 ≤ n ∧ n ≤ 1000000000) (hd : 1 ≤ d ∧ d ≤ 1000000000) :
    ∃ g : Int, 1 ≤ g ∧ g * lN n d = n ∧ g * lD n d = d ∧ lN n d = n.tdiv (gcdF n d) ∧ lD n d = d / (gcdF n d) ∧ lE n d = 0 ∧ okF (lN n d) (lD n d) := by
  have hf : fitF n d := by
    refine ⟨lowF_lowest hd.1, ?_, ?_⟩
    · have e : (n.tdiv (gcdF n d)).natAbs = n.natAbs / ((gcdF n d : Nat) : Int).natAbs := Int.natAbs_tdiv n _
      have l := Nat.div_le_self n.natAbs ((gcdF n d : Nat) : Int).natAbs
      omega
    · exact Int.le_trans (Int.ediv_le_self _ (by omega)) hd.2
  have hg := gcdF_pos (n := n) hd.1
  have e1 : lN n d = n.tdiv (gcdF n d) := if_pos hf
  have e2 : lD n d = d / (gcdF n d) := if_pos hf
  have d1 : ((gcdF n d : Nat) : Int) ∣ n := Int.natAbs_dvd_natAbs.1 (by simpa [gcdF] using Nat.gcd_dvd_left n.natAbs d.natAbs)
  have d2 : ((gcdF n d : Nat) : Int) ∣ d := Int.natAbs_dvd_natAbs.1 (by simpa [gcdF] using Nat.gcd_dvd_right n.natAbs d.natAbs)
  refine ⟨gcdF n d, by omega, ?_, ?_, e1, e2, if_pos hf, by rw [e1, e2]; exact hf⟩
  · rw [e1]; exact Int.mul_tdiv_cancel' d1
  · rw [e2]; exact Int.mul_ediv_cancel' d2
theorem low_pos {n d : Int} (hd : 1 ≤ d ∧ d ≤ 1000000000) (hn : -1000000000 ≤ n ∧ n ≤ 1000000000) : 1 ≤ lD n d ∧ lD n d ≤ d := by
  obtain ⟨g, hg, _, h2, _, _, _, h3⟩ := low_parts hn hd
  have h4 := h3.1.1
  refine ⟨h4, ?_⟩
  have : 1 * lD n d ≤ g * lD n d := Int.mul_le_mul_of_nonneg_right hg (by omega)
  omega
/-- Two sizes in lowest terms compare as the bends do. -/
theorem cmp_beyond {h1 w1 h2 w2 : Int} (a1 : 0 ≤ h1 ∧ h1 ≤ 400000000) (b1 : 1 ≤ w1 ∧ w1 ≤ 20000) (a2 : 0 ≤ h2 ∧ h2 ≤ 400000000) (b2 : 1 ≤ w2 ∧ w2 ≤ 20000) :
    (lN h2 (2 * w2) * lD h1 (2 * w1) < lN h1 (2 * w1) * lD h2 (2 * w2)) ↔ h2 * w1 < h1 * w2 := by
  obtain ⟨g, hg, g1, g2, _, _, _, g3⟩ := low_parts (n := h1) (d := 2 * w1) (by omega) (by omega)
  obtain ⟨k, hk, k1, k2, _, _, _, k3⟩ := low_parts (n := h2) (d := 2 * w2) (by omega) (by omega)
  obtain ⟨x1, hx1⟩ : ∃ x, x = lN h1 (2 * w1) := ⟨_, rfl⟩
  obtain ⟨y1, hy1⟩ : ∃ x, x = lD h1 (2 * w1) := ⟨_, rfl⟩
  obtain ⟨x2, hx2⟩ : ∃ x, x = lN h2 (2 * w2) := ⟨_, rfl⟩
  obtain ⟨y2, hy2⟩ : ∃ x, x = lD h2 (2 * w2) := ⟨_, rfl⟩
  rw [← hx1] at g1 ⊢
  rw [← hy1] at g2 ⊢
  rw [← hx2] at k1 ⊢
  rw [← hy2] at k2 ⊢
  have hgk : 0 < g * k := Int.mul_pos (by omega) (by omega)
  have e1 : g * k * (x2 * y1) = 2 * (h2 * w1) := by
    have : g * k * (x2 * y1) = (k * x2) * (g * y1) := by ac_rfl
    rw [this, k1, g2]
    ac_rfl
  have e2 : g * k * (x1 * y2) = 2 * (h1 * w2) := by
    have : g * k * (x1 * y2) = (g * x1) * (k * y2) := by ac_rfl
    rw [this, g1, k2]
    ac_rfl
  constructor
  · intro h
    have := Int.mul_lt_mul_of_pos_left h hgk
    omega
  · intro h
    refine Int.lt_of_mul_lt_mul_left (a := g * k) ?_ (Int.le_of_lt hgk)
    omega
theorem denTo_dvd {fs : List (Int × Int)} {D : Int} (hD : 1 ≤ D ∧ D ≤ 40000) (h : ∀ i, i < fs.length → 1 ≤ fD fs i ∧ fD fs i ≤ 1000000000 ∧ fD fs i ∣ D) : ∀ k, k ≤ fs.length → denTo fs k ∣ D ∧ 1 ≤ denTo fs k ∧ denUp 40000 fs k = true ∧ ∀ i, i < k → fD fs i ∣ denTo fs k
  | 0, _ => ⟨⟨D, by rw [denTo, Int.one_mul]⟩, by show (1 : Int) ≤ 1; omega, rfl, fun i hi => by omega⟩
  | k + 1, hk => by
    obtain ⟨h1, h2, h3, h4⟩ := denTo_dvd hD h k (by omega)
    obtain ⟨d1, d2, d3⟩ := h k (by omega)
    have hle := Int.le_of_dvd (by omega) h1
    obtain ⟨g, g1, g2, g3, g4, g5, g6, g7, g8, g9⟩ := stepE_facts (b := denTo fs k) (d := fD fs k) (by omega) ⟨d1, d2⟩
    have hm : denTo fs (k + 1) = denTo fs k * stepE (denTo fs k) (fD fs k) := rfl
    obtain ⟨m, hme⟩ : ∃ m, m = denTo fs k := ⟨_, rfl⟩
    obtain ⟨s, hse⟩ : ∃ s, s = stepE (denTo fs k) (fD fs k) := ⟨_, rfl⟩
    obtain ⟨y, hye⟩ : ∃ s, s = fD fs k := ⟨_, rfl⟩
    rw [← hme] at h1 h2 h4 hle g3 g8 g9
    rw [← hse] at g5 g6 hm
    rw [← hye] at g3 g5 d3
    rw [← hme] at hm
    -- m s is the least common multiple
    have hl : m * s = (Nat.lcm m.natAbs y.natAbs : Int) := by
      have e1 : (g.natAbs : Int) = g := by omega
      have e2 : Nat.gcd m.natAbs y.natAbs = g.natAbs := by rw [Nat.gcd_comm]; omega
      have e3 : Nat.gcd m.natAbs y.natAbs * Nat.lcm m.natAbs y.natAbs = m.natAbs * y.natAbs := Nat.gcd_mul_lcm _ _
      rw [e2] at e3
      have e4 : (g : Int) * (Nat.lcm m.natAbs y.natAbs : Int) = m * y := by
        have := congrArg (fun (n : Nat) => (n : Int)) e3
        simp only [Int.natCast_mul] at this
        rw [e1, Int.natAbs_of_nonneg (by omega), Int.natAbs_of_nonneg (show 0 ≤ y by omega)] at this
        exact this
      have e5 : g * (m * s) = g * (Nat.lcm m.natAbs y.natAbs : Int) := by rw [e4, ← g5]; ac_rfl
      exact Int.eq_of_mul_eq_mul_left (by omega) e5
    have hdv : m * s ∣ D := by
      rw [hl]
      have k1 : m.natAbs ∣ D.natAbs := Int.natAbs_dvd_natAbs.2 h1
      have k2 : y.natAbs ∣ D.natAbs := Int.natAbs_dvd_natAbs.2 d3
      have k3 := Nat.lcm_dvd k1 k2
      rw [← Int.natAbs_of_nonneg (show 0 ≤ D by omega)]
      exact Int.natCast_dvd_natCast.2 k3
    have hpos : 1 ≤ m * s := by have := Int.mul_le_mul_of_nonneg_left g6 (show 0 ≤ m by omega); omega
    have hle2 := Int.le_of_dvd (by omega) hdv
    rw [denUp, hm, h3]
    refine ⟨hdv, hpos, by simp; omega, fun i hi => ?_⟩
    rcases Nat.lt_or_ge i k with hlt | hge
    · exact Int.dvd_trans (h4 i hlt) ⟨s, rfl⟩
    · obtain rfl : i = k := by omega
      rw [← hye, hl, ← Int.natAbs_of_nonneg (show 0 ≤ y by omega)]
      exact Int.natCast_dvd_natCast.2 (by rw [Int.natAbs_natCast]; exact Nat.dvd_lcm_right _ _)
end Go.Proofs.Ytjomcobhinnikaa
