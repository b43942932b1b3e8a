/- Plain facts on numbers written with digits to the base 10000, the least one first: values, products row by row, trailing zeros. No condition beyond the premises of each theorem. -/
import Derived.Test.YtfmonpjoadjimabNat
namespace Go.Proofs.Ytfmonpjoadjimab
open Go.RowKit
set_option linter.unusedSimpArgs false
set_option linter.unusedVariables false

def BT : Nat := 10000
theorem BT_pos : 0 < BT := by decide
theorem BT_one : 1 < BT := by decide

def valT : List Nat → Nat
  | [] => 0
  | d :: r => d + BT * valT r

theorem valT_append (l r : List Nat) : valT (l ++ r) = valT l + BT ^ l.length * valT r := by
  induction l with
  | nil => simp [valT]
  | cons d l ih => simp only [List.cons_append, valT, ih, List.length_cons, Nat.pow_succ]; rw [Nat.mul_add, Nat.mul_comm (BT ^ l.length) BT, Nat.mul_assoc, Nat.add_assoc]
theorem valT_one (d : Nat) : valT [d] = d := by simp [valT]
theorem valT_snoc (l : List Nat) (d : Nat) : valT (l ++ [d]) = valT l + BT ^ l.length * d := by rw [valT_append, valT_one]

theorem valT_lt : ∀ (l : List Nat), (∀ d ∈ l, d < BT) → valT l < BT ^ l.length
  | [], _ => by simp [valT]
  | d :: l, h => by
    have ih := valT_lt l fun x hx => h x (by simp [hx])
    have hd := h d (by simp)
    simp only [valT, List.length_cons, Nat.pow_succ]
    have : BT * (valT l + 1) ≤ BT * BT ^ l.length := Nat.mul_le_mul_left _ ih
    rw [Nat.mul_add, Nat.mul_one] at this
    rw [Nat.mul_comm (BT ^ l.length) BT]
    omega

/-- The digits ds write the number N, and the last digit is not 0. -/
structure DigT (ds : List Nat) (N : Nat) : Prop where
  lt : ∀ d ∈ ds, d < BT
  val : valT ds = N
  top : ds ≠ [] → BT ^ (ds.length - 1) ≤ N

theorem DigT.one {d : Nat} (h : d < BT) (h1 : 1 ≤ d) : DigT [d] d := ⟨by simpa using h, valT_one d, fun _ => by simpa using h1⟩
theorem DigT.zero : DigT [] 0 := ⟨by simp, rfl, fun h => absurd rfl h⟩
theorem DigT.bound {ds : List Nat} {N : Nat} (h : DigT ds N) : N < BT ^ ds.length := by rw [← h.val]; exact valT_lt ds h.lt
theorem DigT.short {ds es : List Nat} {N M : Nat} (h : DigT ds N) (k : DigT es M) (hl : ds.length < es.length) : N < M := by
  have h1 := h.bound
  have h2 := k.top (by intro e; subst e; simp at hl)
  have h3 : BT ^ ds.length ≤ BT ^ (es.length - 1) := Nat.pow_le_pow_right BT_pos (by omega)
  omega

theorem valT_top {ds es : List Nat} {i : Nat} (hds : ∀ d ∈ ds, d < BT) (hi : i < ds.length) (hl : ds.length = es.length) (ht : ds.drop (i + 1) = es.drop (i + 1))
    (hlt : ds[i] < es[i]'(by omega)) : valT ds < valT es := by
  have e1 : ds = ds.take i ++ (ds[i] :: ds.drop (i + 1)) := by rw [← List.drop_eq_getElem_cons hi, List.take_append_drop]
  have e2 : es = es.take i ++ (es[i]'(by omega) :: es.drop (i + 1)) := by rw [← List.drop_eq_getElem_cons (by omega), List.take_append_drop]
  have l1 : (ds.take i).length = i := by simp; omega
  have l2 : (es.take i).length = i := by simp; omega
  have v1 : valT ds = valT (ds.take i) + BT ^ i * (ds[i] + BT * valT (ds.drop (i + 1))) := by
    conv => lhs; rw [e1, valT_append, l1]
    rfl
  have v2 : valT es = valT (es.take i) + BT ^ i * (es[i]'(by omega) + BT * valT (es.drop (i + 1))) := by
    conv => lhs; rw [e2, valT_append, l2]
    rfl
  have b := valT_lt (ds.take i) fun d hd => hds d (List.mem_of_mem_take hd)
  rw [l1] at b
  rw [v1, v2, ht]
  have h : BT ^ i * (ds[i] + BT * valT (es.drop (i + 1)) + 1) ≤ BT ^ i * (es[i]'(by omega) + BT * valT (es.drop (i + 1))) := Nat.mul_le_mul_left _ (by omega)
  rw [Nat.mul_add, Nat.mul_one] at h
  omega

theorem valT_set : ∀ (xs : List Nat) (i d : Nat) (h : i < xs.length), valT (xs.set i d) + BT ^ i * xs[i] = valT xs + BT ^ i * d
  | x :: xs, 0, d, _ => by simp [valT]; omega
  | x :: xs, i + 1, d, h => by
    have ih := valT_set xs i d (by simpa using h)
    simp only [List.set_cons_succ, valT, List.getElem_cons_succ, Nat.pow_succ]
    have e : BT * (valT (xs.set i d) + BT ^ i * xs[i]'(by simpa using h)) = BT * (valT xs + BT ^ i * d) := by rw [ih]
    rw [Nat.mul_add, Nat.mul_add] at e
    rw [Nat.mul_comm (BT ^ i) BT, Nat.mul_assoc, Nat.mul_assoc]
    omega
theorem valT_zeros : ∀ n, valT (List.replicate n 0) = 0
  | 0 => rfl
  | n + 1 => by rw [List.replicate_succ, valT, valT_zeros n]; rfl
theorem valT_take_succ (es : List Nat) (k : Nat) : valT (es.take (k + 1)) = valT (es.take k) + BT ^ k * es.getD k 0 := by
  by_cases h : k < es.length
  · rw [List.take_succ_eq_append_getElem h, valT_snoc, List.length_take, Nat.min_eq_left (Nat.le_of_lt h)]
    simp [h]
  · have e1 : es.take (k + 1) = es := List.take_of_length_le (by omega)
    have e2 : es.take k = es := List.take_of_length_le (by omega)
    have e3 : es.getD k 0 = 0 := by simp [Nat.not_lt.1 h]
    rw [e1, e2, e3]; simp

/-- A row of the product in work: a is row i's digit; k digits of es are done, c is carried. -/
structure RowT (ds es : List Nat) (i k c : Nat) (xs : List Nat) : Prop where
  len : xs.length = ds.length + es.length + 1
  lt : ∀ d ∈ xs, d < BT
  carry : c < BT
  val : valT xs + BT ^ (i + k) * c = valT (ds.take i) * valT es + BT ^ i * (ds.getD i 0 * valT (es.take k))

theorem RowT.start {ds es : List Nat} {i : Nat} {xs : List Nat} (hl : xs.length = ds.length + es.length + 1) (ht : ∀ d ∈ xs, d < BT) (hv : valT xs = valT (ds.take i) * valT es) : RowT ds es i 0 0 xs :=
  ⟨hl, ht, BT_pos, by simp [valT, hv]⟩
theorem getD_lt {ds : List Nat} (h : ∀ d ∈ ds, d < BT) (i : Nat) : ds.getD i 0 < BT := by
  by_cases hi : i < ds.length
  · have e : ds.getD i 0 = ds[i] := by simp [hi]
    rw [e]; exact h _ (List.getElem_mem hi)
  · have e : ds.getD i 0 = 0 := by simp [Nat.not_lt.1 hi]
    rw [e]; exact BT_pos
theorem RowT.sum {ds es : List Nat} {i k c : Nat} {xs : List Nat} (h : RowT ds es i k c xs) (hd : ∀ d ∈ ds, d < BT) (he : ∀ d ∈ es, d < BT) : xs.getD (i + k) 0 + c + ds.getD i 0 * es.getD k 0 ≤ 99999999 := by
  have h1 : xs.getD (i + k) 0 < 10000 := getD_lt h.lt (i + k)
  have h2 : c < 10000 := h.carry
  have h4 : ds.getD i 0 < 10000 := getD_lt hd i
  have h5 : es.getD k 0 < 10000 := getD_lt he k
  have h3 : ds.getD i 0 * es.getD k 0 ≤ 9999 * 9999 := Nat.mul_le_mul (by omega) (by omega)
  omega
theorem RowT.step {ds es : List Nat} {i k c s : Nat} {xs : List Nat} (h : RowT ds es i k c xs) (hd : ∀ d ∈ ds, d < BT) (he : ∀ d ∈ es, d < BT) (hik : i + k < xs.length) (hs : s = xs.getD (i + k) 0 + c + ds.getD i 0 * es.getD k 0) :
    RowT ds es i (k + 1) (s / BT) (xs.set (i + k) (s % BT)) := by
  have hsum := h.sum hd he
  rw [← hs] at hsum
  refine ⟨by rw [List.length_set]; exact h.len, ?_, ?_, ?_⟩
  · intro d hm
    rcases List.mem_or_eq_of_mem_set hm with hm | rfl
    · exact h.lt d hm
    · exact Nat.mod_lt _ BT_pos
  · rw [Nat.div_lt_iff_lt_mul BT_pos]
    have e : BT * BT = 100000000 := by decide
    omega
  · have e0 : xs.getD (i + k) 0 = xs[i + k] := by simp [hik]
    have e1 := valT_set xs (i + k) (s % BT) hik
    have e2 := h.val
    have e3 := Nat.mod_add_div s BT
    rw [valT_take_succ, Nat.mul_add, Nat.mul_add]
    have e4 : BT ^ i * (ds.getD i 0 * (BT ^ k * es.getD k 0)) = BT ^ (i + k) * (ds.getD i 0 * es.getD k 0) := by
      rw [Nat.pow_add, Nat.mul_assoc]; congr 1; rw [← Nat.mul_assoc, Nat.mul_comm (ds.getD i 0), Nat.mul_assoc]
    have e5 : BT ^ (i + (k + 1)) * (s / BT) = BT ^ (i + k) * (BT * (s / BT)) := by rw [← Nat.add_assoc, Nat.pow_succ, Nat.mul_assoc]
    have e6 : BT ^ (i + k) * (s % BT) + BT ^ (i + k) * (BT * (s / BT)) = BT ^ (i + k) * xs[i + k] + BT ^ (i + k) * c + BT ^ (i + k) * (ds.getD i 0 * es.getD k 0) := by
      rw [← Nat.mul_add, e3, hs, e0, Nat.mul_add, Nat.mul_add]
    rw [e4, e5]
    omega
theorem RowT.total {ds es : List Nat} {i k c : Nat} {xs : List Nat} (h : RowT ds es i k c xs) (hk : es.length ≤ k) : valT xs + BT ^ (i + k) * c = valT (ds.take (i + 1)) * valT es := by
  rw [h.val, List.take_of_length_le hk, valT_take_succ, Nat.add_mul, Nat.mul_assoc]
theorem RowT.near {ds es : List Nat} {i k c : Nat} {xs : List Nat} (h : RowT ds es i k c xs) (hd : ∀ d ∈ ds, d < BT) (he : ∀ d ∈ es, d < BT) (hk : es.length ≤ k) (hi : i < ds.length) (hc : 1 ≤ c) : k = es.length := by
  have e := h.total hk
  have l1 : valT (ds.take (i + 1)) < BT ^ (i + 1) := by
    have := valT_lt (ds.take (i + 1)) fun d hm => hd d (List.mem_of_mem_take hm)
    rwa [List.length_take, Nat.min_eq_left (by omega)] at this
  have l2 := valT_lt es he
  have l3 : valT (ds.take (i + 1)) * valT es < BT ^ (i + 1) * BT ^ es.length := Nat.mul_lt_mul'' l1 l2
  have l4 : BT ^ (i + k) * 1 ≤ BT ^ (i + k) * c := Nat.mul_le_mul_left _ hc
  rw [← Nat.pow_add] at l3
  have l5 : BT ^ (i + k) < BT ^ (i + 1 + es.length) := by omega
  have := (Nat.pow_lt_pow_iff_right BT_one).1 l5
  omega
theorem RowT.done {ds es : List Nat} {i k : Nat} {xs : List Nat} (h : RowT ds es i k 0 xs) (hk : es.length ≤ k) : valT xs = valT (ds.take (i + 1)) * valT es := by
  have := h.total hk
  simpa using this

/-- Leading zeros are left out. -/
theorem valT_cut {xs : List Nat} {m N : Nat} (h : valT (xs.take (m + 1)) = N) (hm : m < xs.length) (hz : xs[m] = 0) : valT (xs.take m) = N := by
  rw [valT_take_succ] at h
  have e : xs.getD m 0 = 0 := by simp [hm, hz]
  rw [e] at h
  simpa using h
theorem DigT.of_take {xs : List Nat} {m N : Nat} (hlt : ∀ d ∈ xs, d < BT) (hm : m ≤ xs.length) (h : valT (xs.take m) = N) (hz : m = 0 ∨ ∃ (hj : m - 1 < xs.length), xs[m - 1] ≠ 0) : DigT (xs.take m) N := by
  refine ⟨fun d hd => hlt d (List.mem_of_mem_take hd), h, fun hne => ?_⟩
  rcases hz with rfl | ⟨hj, hz⟩
  · exact absurd (by simp) hne
  · have hm0 : 1 ≤ m := by
      rcases Nat.eq_zero_or_pos m with rfl | h0
      · exact absurd (by simp) hne
      · exact h0
    have e : m = (m - 1) + 1 := by omega
    rw [List.length_take, Nat.min_eq_left hm]
    rw [e, valT_take_succ] at h
    have e2 : xs.getD (m - 1) 0 = xs[m - 1] := by simp [hj]
    rw [e2] at h
    have : BT ^ (m - 1) * 1 ≤ BT ^ (m - 1) * xs[m - 1] := Nat.mul_le_mul_left _ (by omega)
    omega
theorem DigT.len {ds : List Nat} {N M : Nat} (h : DigT ds N) (hN : N < BT ^ M) : ds.length ≤ M := by
  by_cases hne : ds = []
  · subst hne; simp
  · have h1 := h.top hne
    have h2 : BT ^ (ds.length - 1) < BT ^ M := by omega
    have := (Nat.pow_lt_pow_iff_right BT_one).1 h2
    omega
end Go.Proofs.Ytfmonpjoadjimab
