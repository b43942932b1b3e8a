/- Plain facts on numbers written with digits of 64 bits, the least one first. No condition beyond the premises of each theorem. -/
import Derived.WalkKit
namespace Go.Proofs.Ytjfcjclhbnmgcaa
open Go.RowKit

def B64 : Nat := 18446744073709551616
theorem B64_pos : 0 < B64 := by decide
theorem B64_one : 1 < B64 := by decide

def valN : List Nat → Nat
  | [] => 0
  | d :: r => d + B64 * valN r

theorem valN_append (l r : List Nat) : valN (l ++ r) = valN l + B64 ^ l.length * valN r := by
  induction l with
  | nil => simp [valN]
  | cons d l ih => simp only [List.cons_append, valN, ih, List.length_cons, Nat.pow_succ]; rw [Nat.mul_add, Nat.mul_comm (B64 ^ l.length) B64, Nat.mul_assoc, Nat.add_assoc]
theorem valN_one (d : Nat) : valN [d] = d := by simp [valN]
theorem valN_snoc (l : List Nat) (d : Nat) : valN (l ++ [d]) = valN l + B64 ^ l.length * d := by rw [valN_append, valN_one]

theorem valN_lt : ∀ (l : List Nat), (∀ d ∈ l, d < B64) → valN l < B64 ^ l.length
  | [], _ => by simp [valN]
  | d :: l, h => by
    have ih := valN_lt l fun x hx => h x (by simp [hx])
    have hd := h d (by simp)
    simp only [valN, List.length_cons, Nat.pow_succ]
    have : B64 * (valN l + 1) ≤ B64 * B64 ^ l.length := Nat.mul_le_mul_left _ ih
    rw [Nat.mul_add, Nat.mul_one] at this
    rw [Nat.mul_comm (B64 ^ l.length) B64]
    omega

/-- The digits ds write the number N, and the last digit is not 0. -/
structure Dig (ds : List Nat) (N : Nat) : Prop where
  lt : ∀ d ∈ ds, d < B64
  val : valN ds = N
  top : ds ≠ [] → B64 ^ (ds.length - 1) ≤ N

theorem Dig.one {d : Nat} (h : d < B64) (h1 : 1 ≤ d) : Dig [d] d := ⟨by simpa using h, valN_one d, fun _ => by simpa using h1⟩
theorem Dig.zero : Dig [] 0 := ⟨by simp, rfl, fun h => absurd rfl h⟩
theorem Dig.bound {ds : List Nat} {N : Nat} (h : Dig ds N) : N < B64 ^ ds.length := by rw [← h.val]; exact valN_lt ds h.lt
theorem Dig.short {ds es : List Nat} {N M : Nat} (h : Dig ds N) (k : Dig es M) (hl : ds.length < es.length) : N < M := by
  have h1 := h.bound
  have h2 := k.top (by intro e; subst e; simp at hl)
  have h3 : B64 ^ ds.length ≤ B64 ^ (es.length - 1) := Nat.pow_le_pow_right B64_pos (by omega)
  omega

/-- One digit: the product's part and what is carried. -/
theorem part_lt {d m c : Nat} (hd : d < B64) (hm : m < B64) (hc : c < B64) : (d * m + c) / B64 < B64 := by
  rw [Nat.div_lt_iff_lt_mul B64_pos]
  have : d * m ≤ (B64 - 1) * (B64 - 1) := Nat.mul_le_mul (by omega) (by omega)
  have e : (B64 - 1) * (B64 - 1) + B64 + B64 = B64 * B64 + 1 := by decide
  omega
theorem part_lo (d m c : Nat) : (d * m % B64 + c) % B64 = (d * m + c) % B64 := by rw [Nat.add_mod, Nat.mod_mod, ← Nat.add_mod]
theorem part_hi (d m c : Nat) : d * m / B64 + (d * m % B64 + c) / B64 = (d * m + c) / B64 := by
  have e : d * m + c = (d * m % B64 + c) + B64 * (d * m / B64) := by have := Nat.mod_add_div (d * m) B64; omega
  rw [e, Nat.add_mul_div_left _ _ B64_pos]
  have : d * m % B64 + c + B64 * (d * m / B64) = d * m + c := by have := Nat.mod_add_div (d * m) B64; omega
  omega

/-- After k digits: rs are the digits so far, c is carried. -/
structure Part (ds : List Nat) (m k : Nat) (rs : List Nat) (c : Nat) : Prop where
  len : rs.length = k
  lt : ∀ d ∈ rs, d < B64
  carry : c < B64
  val : valN rs + B64 ^ k * c = valN (ds.take k) * m

theorem Part.zero (ds : List Nat) (m : Nat) : Part ds m 0 [] 0 := ⟨rfl, by simp, B64_pos, by simp [valN]⟩
theorem Part.step {ds : List Nat} {m k : Nat} {rs : List Nat} {c : Nat} (h : Part ds m k rs c) (hk : k < ds.length) (hds : ∀ d ∈ ds, d < B64) (hm : m < B64) :
    Part ds m (k + 1) (rs ++ [(ds[k] * m + c) % B64]) ((ds[k] * m + c) / B64) := by
  refine ⟨by simp [h.len], ?_, part_lt (hds _ (List.getElem_mem hk)) hm h.carry, ?_⟩
  · intro d hd
    rcases List.mem_append.1 hd with hd | hd
    · exact h.lt d hd
    · simp at hd; subst hd; exact Nat.mod_lt _ B64_pos
  · rw [List.take_succ_eq_append_getElem hk, valN_snoc, valN_snoc, h.len, List.length_take, Nat.min_eq_left (Nat.le_of_lt hk), Nat.add_mul, ← h.val, Nat.pow_succ]
    have e := Nat.mod_add_div (ds[k] * m + c) B64
    have e2 : B64 ^ k * ((ds[k] * m + c) % B64) + B64 ^ k * B64 * ((ds[k] * m + c) / B64) = B64 ^ k * (ds[k] * m + c) := by
      rw [Nat.mul_assoc, ← Nat.mul_add, e]
    rw [Nat.mul_add, ← Nat.mul_assoc] at e2
    omega

theorem Part.full {ds : List Nat} {m N : Nat} {rs : List Nat} {c : Nat} (h : Part ds m ds.length rs c) (hN : Dig ds N) (hc : 1 ≤ c) : Dig (rs ++ [c]) (N * m) := by
  refine ⟨?_, ?_, fun _ => ?_⟩
  · intro d hd
    rcases List.mem_append.1 hd with hd | hd
    · exact h.lt d hd
    · simp at hd; subst hd; exact h.carry
  · have := h.val; rw [List.take_length, hN.val] at this; rw [valN_snoc, h.len]; exact this
  · have := h.val; rw [List.take_length, hN.val] at this
    have h2 : B64 ^ ds.length * 1 ≤ B64 ^ ds.length * c := Nat.mul_le_mul_left _ hc
    simp only [List.length_append, List.length_singleton, h.len, Nat.add_sub_cancel]
    omega
theorem Part.fits {ds : List Nat} {m N : Nat} {rs : List Nat} (h : Part ds m ds.length rs 0) (hN : Dig ds N) (hm : 1 ≤ m) : Dig rs (N * m) := by
  refine ⟨h.lt, ?_, fun hne => ?_⟩
  · have := h.val; rw [List.take_length, hN.val] at this; simpa using this
  · rw [h.len]
    have h1 := hN.top (by intro e; subst e; exact hne (List.eq_nil_of_length_eq_zero (by simpa using h.len)))
    have : N * 1 ≤ N * m := Nat.mul_le_mul_left _ hm
    omega

/-- -1, 0 or 1. -/
def cmpI (N M : Nat) : Int := if N < M then -1 else if M < N then 1 else 0
theorem cmpI_lt {N M : Nat} (h : N < M) : cmpI N M = -1 := by simp [cmpI, h]
theorem cmpI_gt {N M : Nat} (h : M < N) : cmpI N M = 1 := by simp [cmpI, h, Nat.not_lt.2 (Nat.le_of_lt h)]
theorem cmpI_eq (N : Nat) : cmpI N N = 0 := by simp [cmpI]

theorem valN_top {ds es : List Nat} {i : Nat} (hds : ∀ d ∈ ds, d < B64) (hi : i < ds.length) (hl : ds.length = es.length) (ht : ds.drop (i + 1) = es.drop (i + 1))
    (hlt : ds[i] < es[i]'(by omega)) : valN ds < valN es := by
  have e1 : ds = ds.take i ++ (ds[i] :: ds.drop (i + 1)) := by rw [← List.drop_eq_getElem_cons hi, List.take_append_drop]
  have e2 : es = es.take i ++ (es[i]'(by omega) :: es.drop (i + 1)) := by rw [← List.drop_eq_getElem_cons (by omega), List.take_append_drop]
  have l1 : (ds.take i).length = i := by simp; omega
  have l2 : (es.take i).length = i := by simp; omega
  have v1 : valN ds = valN (ds.take i) + B64 ^ i * (ds[i] + B64 * valN (ds.drop (i + 1))) := by
    conv => lhs; rw [e1, valN_append, l1]
    rfl
  have v2 : valN es = valN (es.take i) + B64 ^ i * (es[i]'(by omega) + B64 * valN (es.drop (i + 1))) := by
    conv => lhs; rw [e2, valN_append, l2]
    rfl
  have b := valN_lt (ds.take i) fun d hd => hds d (List.mem_of_mem_take hd)
  rw [l1] at b
  rw [v1, v2, ht]
  have h : B64 ^ i * (ds[i] + B64 * valN (es.drop (i + 1)) + 1) ≤ B64 ^ i * (es[i]'(by omega) + B64 * valN (es.drop (i + 1))) := Nat.mul_le_mul_left _ (by omega)
  rw [Nat.mul_add, Nat.mul_one] at h
  omega
end Go.Proofs.Ytjfcjclhbnmgcaa
