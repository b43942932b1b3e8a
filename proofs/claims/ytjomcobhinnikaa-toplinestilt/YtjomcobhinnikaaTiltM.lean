/- Plain facts on tilted dots: the greatest bend stays where it is, and the parts of the best line go with the dots. No condition beyond the premises of each theorem. -/
import Derived.Test.YtjomcobhinnikaaLineA
import Derived.Test.YtjomcobhinnikaaAddF
import Derived.Test.YtjomcobhinnikaaTimesF
namespace Go.Proofs.Ytjomcobhinnikaa
open Go.RowKit
set_option linter.unusedVariables false
set_option linter.unusedSimpArgs false

/-- The dots with other heights. -/
def rowD (ds : List (Int × Int)) (f : Nat → Int) (k : Nat) : List (Int × Int) := (List.range k).map fun i => (dX ds i, f i)
theorem rowD_len {ds : List (Int × Int)} {f : Nat → Int} {k : Nat} : (rowD ds f k).length = k := by simp [rowD]
theorem rowD_X {ds : List (Int × Int)} {f : Nat → Int} {k i : Nat} (h : i < k) : dX (rowD ds f k) i = dX ds i := by
  have : (rowD ds f k).getD i (0, 0) = (dX ds i, f i) := by simp [rowD, h]
  unfold dX at this ⊢
  rw [this]
theorem rowD_Y {ds : List (Int × Int)} {f : Nat → Int} {k i : Nat} (h : i < k) : dY (rowD ds f k) i = f i := by
  have : (rowD ds f k).getD i (0, 0) = (dX ds i, f i) := by simp [rowD, h]
  unfold dY
  rw [this]
/-- The cells of so many dots. -/
def cellsD (ds : List (Int × Int)) (f : Nat → Int) : Nat → List Value
  | 0 => []
  | k + 1 => cellsD ds f k ++ [.int .i64 (dX ds k), .int .i64 (f k)]
theorem cellsD_len {ds : List (Int × Int)} {f : Nat → Int} : ∀ k, (cellsD ds f k).length = k * 2
  | 0 => rfl
  | k + 1 => by rw [cellsD, List.length_append, cellsD_len k]; show k * 2 + 2 = (k + 1) * 2; omega
theorem cellsD_get {ds : List (Int × Int)} {f : Nat → Int} {i : Nat} : ∀ k, i < k → (cellsD ds f k)[i * 2]? = some (.int .i64 (dX ds i)) ∧ (cellsD ds f k)[i * 2 + 1]? = some (.int .i64 (f i))
  | 0, h => by omega
  | k + 1, h => by
    rw [cellsD]
    rcases Nat.lt_or_ge i k with hlt | hge
    · obtain ⟨h1, h2⟩ := cellsD_get (ds := ds) (f := f) (i := i) k hlt
      have hl := cellsD_len (ds := ds) (f := f) k
      rw [List.getElem?_append_left (by omega), List.getElem?_append_left (by omega)]
      exact ⟨h1, h2⟩
    · obtain rfl : i = k := by omega
      have hl := cellsD_len (ds := ds) (f := f) i
      rw [List.getElem?_append_right (by omega), List.getElem?_append_right (by omega), hl, show i * 2 - i * 2 = 0 by omega, show i * 2 + 1 - i * 2 = 1 by omega]
      exact ⟨rfl, rfl⟩
theorem dotsTo_ok {ds : List (Int × Int)} (hX : ∀ i, i < ds.length → inD (dX ds i)) (hY : ∀ i, i < ds.length → inD (dY ds i)) (ha : ∀ i k, i < k → k < ds.length → dX ds i < dX ds k) : ∀ k, k ≤ ds.length → dotsTo ds k = 0
  | 0, _ => rfl
  | k + 1, h => by
    rw [dotsTo, if_pos (dotsTo_ok hX hY ha k (by omega))]
    unfold dotErrAt
    rw [if_pos ⟨hX k (by omega), hY k (by omega)⟩]
    by_cases h0 : 0 < k
    · have := ha (k - 1) k (by omega) (by omega)
      unfold dX at this
      rw [if_neg (fun hh => by have := hh.2; omega)]
    · rw [if_neg (fun hh => h0 hh.1)]
theorem dots_back {ds : List (Int × Int)} (h : DotsOk ds) : dotsErr ds = 0 := by
  unfold dotsErr
  rw [if_neg (by have := h.three; have := h.sixty; omega)]
  exact dotsTo_ok h.inX h.inY h.asc ds.length (Nat.le_refl _)
theorem rowD_ok {ds : List (Int × Int)} (h : DotsOk ds) {f : Nat → Int} (hf : ∀ i, i < ds.length → inD (f i)) : DotsOk (rowD ds f ds.length) := by
  constructor
  · rw [rowD_len]; exact h.three
  · rw [rowD_len]; exact h.sixty
  · intro i hi; rw [rowD_len] at hi; rw [rowD_X hi]; exact h.inX i hi
  · intro i hi; rw [rowD_len] at hi; rw [rowD_Y hi]; exact hf i hi
  · intro i k hik hk; rw [rowD_len] at hk; rw [rowD_X hk, rowD_X (by omega)]; exact h.asc i k hik hk

/-- Bends of the same size have their greatest one at the same place. -/
structure SameB (ds es : List (Int × Int)) : Prop where
  len : es.length = ds.length
  three : 3 ≤ ds.length
  wide : ∀ i k, i < k → k < ds.length → bW es i k = bW ds i k
  bend : ∀ i j k, i < j → j < k → k < ds.length → (bH es i j k).natAbs = (bH ds i j k).natAbs
theorem SameB.pick {ds es : List (Int × Int)} (h : SameB ds es) {p : Nat × Nat × Nat} (hp : okT ds.length p) {i j k : Nat} (hij : i < j) (hjk : j < k) (hk : k < ds.length) : pickT es p i j k = pickT ds p i j k := by
  unfold pickT beyondB
  rw [h.wide i k (by omega) hk, h.wide p.1 p.2.2 (Nat.lt_trans hp.1 hp.2.1) hp.2.2, h.bend i j k hij hjk hk, h.bend p.1 p.2.1 p.2.2 hp.1 hp.2.1 hp.2.2]
theorem SameB.kTo {ds es : List (Int × Int)} (h : SameB ds es) {i j : Nat} {p : Nat × Nat × Nat} (hp : okT ds.length p) (hij : i < j) : ∀ r, j + r < ds.length → kTo es i j r p = kTo ds i j r p ∧ okT ds.length (kTo ds i j r p)
  | 0, _ => ⟨rfl, hp⟩
  | r + 1, hr => by
    obtain ⟨h1, h2⟩ := h.kTo hp hij r (by omega)
    rw [Go.Proofs.Ytjomcobhinnikaa.kTo, Go.Proofs.Ytjomcobhinnikaa.kTo, h1]
    exact ⟨h.pick h2 hij (by omega) (by omega), okT_pick h2 hij (by omega) (by omega)⟩
theorem SameB.jTo {ds es : List (Int × Int)} (h : SameB ds es) {i : Nat} {p : Nat × Nat × Nat} (hp : okT ds.length p) : ∀ s, i + s < ds.length → jTo es i s p = jTo ds i s p ∧ okT ds.length (jTo ds i s p)
  | 0, _ => ⟨rfl, hp⟩
  | s + 1, hs => by
    obtain ⟨h1, h2⟩ := h.jTo (i := i) hp s (by omega)
    rw [Go.Proofs.Ytjomcobhinnikaa.jTo, Go.Proofs.Ytjomcobhinnikaa.jTo, h1, h.len]
    exact h.kTo h2 (by omega) _ (by omega)
theorem SameB.iTo {ds es : List (Int × Int)} (h : SameB ds es) {p : Nat × Nat × Nat} (hp : okT ds.length p) : ∀ t, t ≤ ds.length → iTo es t p = iTo ds t p ∧ okT ds.length (iTo ds t p)
  | 0, _ => ⟨rfl, hp⟩
  | t + 1, ht => by
    obtain ⟨h1, h2⟩ := h.iTo hp t (by omega)
    rw [Go.Proofs.Ytjomcobhinnikaa.iTo, Go.Proofs.Ytjomcobhinnikaa.iTo, h1, h.len]
    exact h.jTo h2 _ (by omega)
theorem SameB.best {ds es : List (Int × Int)} (h : SameB ds es) : bestT es = bestT ds := by
  have h3 := h.three
  unfold bestT
  rw [h.len]
  exact (h.iTo ⟨by decide, by decide, by show 2 < ds.length; omega⟩ ds.length (Nat.le_refl _)).1

/-- Heights with a line added; heights turned upside down. -/
def upD (ds : List (Int × Int)) (s m : Int) (i : Nat) : Int := dY ds i + s + m * dX ds i
def dnD (ds : List (Int × Int)) (i : Nat) : Int := -dY ds i
theorem up_bend {ds : List (Int × Int)} {s m : Int} {i j k : Nat} (hi : i < ds.length) (hj : j < ds.length) (hk : k < ds.length) : bH (rowD ds (upD ds s m) ds.length) i j k = bH ds i j k := by
  unfold bH
  rw [rowD_X hi, rowD_X hj, rowD_X hk, rowD_Y hi, rowD_Y hj, rowD_Y hk]
  unfold bendH upD
  simp only [Int.sub_mul, Int.mul_sub, Int.add_mul, Int.mul_add, Int.mul_assoc, Int.mul_comm, Int.mul_left_comm]
  omega
theorem dn_bend {ds : List (Int × Int)} {i j k : Nat} (hi : i < ds.length) (hj : j < ds.length) (hk : k < ds.length) : bH (rowD ds (dnD ds) ds.length) i j k = -bH ds i j k := by
  unfold bH
  rw [rowD_X hi, rowD_X hj, rowD_X hk, rowD_Y hi, rowD_Y hj, rowD_Y hk]
  unfold bendH dnD
  simp only [Int.sub_mul, Int.mul_sub, Int.neg_mul, Int.mul_neg, Int.mul_assoc, Int.mul_comm, Int.mul_left_comm]
  omega
theorem rowD_wide {ds : List (Int × Int)} {f : Nat → Int} {i k : Nat} (hi : i < ds.length) (hk : k < ds.length) : bW (rowD ds f ds.length) i k = bW ds i k := by
  unfold bW
  rw [rowD_X hi, rowD_X hk]
theorem up_same {ds : List (Int × Int)} (h : 3 ≤ ds.length) (s m : Int) : SameB ds (rowD ds (upD ds s m) ds.length) :=
  ⟨rowD_len, h, fun i k h1 h2 => rowD_wide (by omega) h2, fun i j k h1 h2 h3 => by rw [up_bend (by omega) (by omega) h3]⟩
theorem dn_same {ds : List (Int × Int)} (h : 3 ≤ ds.length) : SameB ds (rowD ds (dnD ds) ds.length) :=
  ⟨rowD_len, h, fun i k h1 h2 => rowD_wide (by omega) h2, fun i j k h1 h2 h3 => by rw [dn_bend (by omega) (by omega) h3, Int.natAbs_neg]⟩

theorem scale3 {g n m : Int} (hg : 1 ≤ g) : lN (g * n) (g * m) = lN n m ∧ lD (g * n) (g * m) = lD n m ∧ lE (g * n) (g * m) = lE n m := by
  obtain ⟨h, e1, e2⟩ := fit_scale (n := n) (m := m) hg
  unfold lN lD lE
  by_cases k : fitF n m
  · rw [if_pos k, if_pos k, if_pos k, if_pos (h.2 k), if_pos (h.2 k), if_pos (h.2 k), e1, e2]; exact ⟨rfl, rfl, rfl⟩
  · rw [if_neg k, if_neg k, if_neg k, if_neg (mt h.1 k), if_neg (mt h.1 k), if_neg (mt h.1 k)]; exact ⟨rfl, rfl, rfl⟩
/-- n/d in lowest terms, a whole number added to it. -/
theorem add_whole {n d z : Int} (hn : -1000000000 ≤ n ∧ n ≤ 1000000000) (hd : 1 ≤ d ∧ d ≤ 1000000000) (hs : -1000000000 ≤ n + d * z ∧ n + d * z ≤ 1000000000) :
    lN (lN n d * 1 + z * lD n d) (lD n d * 1) = lN (n + d * z) d ∧ lD (lN n d * 1 + z * lD n d) (lD n d * 1) = lD (n + d * z) d ∧ lE (lN n d * 1 + z * lD n d) (lD n d * 1) = 0 := by
  obtain ⟨g, hg, h1, h2, _⟩ := low_parts hn hd
  obtain ⟨_, _, _, _, _, _, h3, _⟩ := low_parts hs hd
  obtain ⟨s1, s2, s3⟩ := scale3 (n := lN n d * 1 + z * lD n d) (m := lD n d * 1) hg
  have e1 : g * (lN n d * 1 + z * lD n d) = n + d * z := by rw [Int.mul_one, Int.mul_add, h1, Int.mul_left_comm g z, h2, Int.mul_comm d z]
  have e2 : g * (lD n d * 1) = d := by rw [Int.mul_one, h2]
  rw [e1, e2] at s1 s2 s3
  exact ⟨s1.symm, s2.symm, s3.symm.trans h3⟩
theorem turn_whole {n d : Int} (hn : -1000000000 ≤ n ∧ n ≤ 1000000000) (hd : 1 ≤ d ∧ d ≤ 1000000000) :
    lN (lN n d * -1) (lD n d * 1) = lN (-n) d ∧ lD (lN n d * -1) (lD n d * 1) = lD (-n) d ∧ lE (lN n d * -1) (lD n d * 1) = 0 := by
  obtain ⟨g, hg, h1, h2, _⟩ := low_parts hn hd
  obtain ⟨_, _, _, _, _, _, h3, _⟩ := low_parts (n := -n) (by omega) hd
  obtain ⟨s1, s2, s3⟩ := scale3 (n := lN n d * -1) (m := lD n d * 1) hg
  have e1 : g * (lN n d * -1) = -n := by rw [← Int.mul_assoc, h1]; omega
  have e2 : g * (lD n d * 1) = d := by rw [Int.mul_one, h2]
  rw [e1, e2] at s1 s2 s3
  exact ⟨s1.symm, s2.symm, s3.symm.trans h3⟩

/-- The parts of the best line of dots with a line added. -/
theorem up_parts {ds : List (Int × Int)} {s m : Int} {p : Nat × Nat × Nat} (hp : okT ds.length p) :
    numS (rowD ds (upD ds s m) ds.length) p = numS ds p + 2 * bW ds p.1 p.2.2 * s ∧ numK (rowD ds (upD ds s m) ds.length) p = numK ds p + bW ds p.1 p.2.2 * m := by
  have i1 : p.1 < ds.length := Nat.lt_trans hp.1 (Nat.lt_trans hp.2.1 hp.2.2)
  have i2 : p.2.1 < ds.length := Nat.lt_trans hp.2.1 hp.2.2
  unfold numS numK bW
  rw [up_bend i1 i2 hp.2.2, rowD_X i1, rowD_X hp.2.2, rowD_Y i1, rowD_Y hp.2.2]
  unfold upD
  simp only [Int.sub_mul, Int.mul_sub, Int.add_mul, Int.mul_add, Int.mul_assoc, Int.mul_comm, Int.mul_left_comm]
  constructor <;> omega
theorem dn_parts {ds : List (Int × Int)} {p : Nat × Nat × Nat} (hp : okT ds.length p) :
    numS (rowD ds (dnD ds) ds.length) p = -numS ds p ∧ numK (rowD ds (dnD ds) ds.length) p = -numK ds p := by
  have i1 : p.1 < ds.length := Nat.lt_trans hp.1 (Nat.lt_trans hp.2.1 hp.2.2)
  have i2 : p.2.1 < ds.length := Nat.lt_trans hp.2.1 hp.2.2
  unfold numS numK
  rw [dn_bend i1 i2 hp.2.2, rowD_X i1, rowD_X hp.2.2, rowD_Y i1, rowD_Y hp.2.2]
  unfold dnD
  simp only [Int.neg_mul]
  constructor <;> omega
/-- All that the law asks of the three lines. -/
structure Tilted (ds us vs : List (Int × Int)) (s m : Int) : Prop where
  bu : bestT us = bestT ds
  bv : bestT vs = bestT ds
  eu : pEN us (bestT ds) = pEN ds (bestT ds) ∧ pED us (bestT ds) = pED ds (bestT ds)
  ev : pEN vs (bestT ds) = pEN ds (bestT ds) ∧ pED vs (bestT ds) = pED ds (bestT ds)
  ok : okF (pSN ds (bestT ds)) (pSD ds (bestT ds)) ∧ okF (pKN ds (bestT ds)) (pKD ds (bestT ds))
  ks : lN (pSN ds (bestT ds) * 1 + s * pSD ds (bestT ds)) (pSD ds (bestT ds) * 1) = pSN us (bestT ds) ∧ lD (pSN ds (bestT ds) * 1 + s * pSD ds (bestT ds)) (pSD ds (bestT ds) * 1) = pSD us (bestT ds) ∧ lE (pSN ds (bestT ds) * 1 + s * pSD ds (bestT ds)) (pSD ds (bestT ds) * 1) = 0
  kk : lN (pKN ds (bestT ds) * 1 + m * pKD ds (bestT ds)) (pKD ds (bestT ds) * 1) = pKN us (bestT ds) ∧ lD (pKN ds (bestT ds) * 1 + m * pKD ds (bestT ds)) (pKD ds (bestT ds) * 1) = pKD us (bestT ds) ∧ lE (pKN ds (bestT ds) * 1 + m * pKD ds (bestT ds)) (pKD ds (bestT ds) * 1) = 0
  ls : lN (pSN ds (bestT ds) * -1) (pSD ds (bestT ds) * 1) = pSN vs (bestT ds) ∧ lD (pSN ds (bestT ds) * -1) (pSD ds (bestT ds) * 1) = pSD vs (bestT ds) ∧ lE (pSN ds (bestT ds) * -1) (pSD ds (bestT ds) * 1) = 0
  lk : lN (pKN ds (bestT ds) * -1) (pKD ds (bestT ds) * 1) = pKN vs (bestT ds) ∧ lD (pKN ds (bestT ds) * -1) (pKD ds (bestT ds) * 1) = pKD vs (bestT ds) ∧ lE (pKN ds (bestT ds) * -1) (pKD ds (bestT ds) * 1) = 0
theorem tilted {ds : List (Int × Int)} (h : DotsOk ds) {s m : Int} (hs : -1000 ≤ s ∧ s ≤ 1000) (hm : -3 ≤ m ∧ m ≤ 3) : Tilted ds (rowD ds (upD ds s m) ds.length) (rowD ds (dnD ds) ds.length) s m := by
  have hbu := (up_same h.three s m).best
  have hbv := (dn_same h.three).best
  obtain ⟨_, o1, o2, _⟩ := line_accepted h
  obtain ⟨hok, _⟩ := best_max h
  obtain ⟨p, hp⟩ : ∃ p, p = bestT ds := ⟨_, rfl⟩
  have i1 : p.1 < ds.length := by rw [hp]; exact Nat.lt_trans hok.1 (Nat.lt_trans hok.2.1 hok.2.2)
  have i2 : p.2.1 < ds.length := by rw [hp]; exact Nat.lt_trans hok.2.1 hok.2.2
  have i3 : p.2.2 < ds.length := by rw [hp]; exact hok.2.2
  rw [← hp] at hok o1 o2
  obtain ⟨b1, b2, b3⟩ := bend_small h hok
  have hS := start_in h hok
  have hK := numK_in h hok
  obtain ⟨u1, u2⟩ := up_parts (s := s) (m := m) hok
  obtain ⟨v1, v2⟩ := dn_parts hok
  have m1 : -20000000 ≤ bW ds p.1 p.2.2 * s ∧ bW ds p.1 p.2.2 * s ≤ 20000000 := by
    have k1 := mul_bound (x := bW ds p.1 p.2.2) (y := s) 20000 1000 (by omega) (by omega)
    rw [show (20000 * 1000 : Nat) = 20000000 from rfl] at k1; omega
  have m2 : -60000 ≤ bW ds p.1 p.2.2 * m ∧ bW ds p.1 p.2.2 * m ≤ 60000 := by
    have k1 := mul_bound (x := bW ds p.1 p.2.2) (y := m) 20000 3 (by omega) (by omega)
    rw [show (20000 * 3 : Nat) = 60000 from rfl] at k1; omega
  have m3 : 2 * bW ds p.1 p.2.2 * s = 2 * (bW ds p.1 p.2.2 * s) := Int.mul_assoc _ _ _
  have a1 := add_whole (n := numS ds p) (d := 2 * bW ds p.1 p.2.2) (z := s) (by omega) (by omega) (by omega)
  have a2 := add_whole (n := numK ds p) (d := bW ds p.1 p.2.2) (z := m) (by omega) (by omega) (by omega)
  have a3 := turn_whole (n := numS ds p) (d := 2 * bW ds p.1 p.2.2) (by omega) (by omega)
  have a4 := turn_whole (n := numK ds p) (d := bW ds p.1 p.2.2) (by omega) (by omega)
  rw [← u1] at a1
  rw [← u2] at a2
  rw [← v1] at a3
  rw [← v2] at a4
  refine ⟨hbu, hbv, ?_, ?_, hp ▸ ⟨o1, o2⟩, ?_, ?_, ?_, ?_⟩
  all_goals rw [← hp]
  · unfold pEN pED; rw [up_bend i1 i2 i3, rowD_wide i1 i3]; exact ⟨rfl, rfl⟩
  · unfold pEN pED; rw [dn_bend i1 i2 i3, rowD_wide i1 i3, Int.natAbs_neg]; exact ⟨rfl, rfl⟩
  · unfold pSN pSD; rw [rowD_wide i1 i3]; exact a1
  · unfold pKN pKD; rw [rowD_wide i1 i3]; exact a2
  · unfold pSN pSD; rw [rowD_wide i1 i3]; exact a3
  · unfold pKN pKD; rw [rowD_wide i1 i3]; exact a4
end Go.Proofs.Ytjomcobhinnikaa
