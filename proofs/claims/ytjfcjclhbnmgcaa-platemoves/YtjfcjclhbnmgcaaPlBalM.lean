/- Forces with one more: their sum and their moments. Plain mathematics. -/
import Derived.Test.YtjfcjclhbnmgcaaPlFo3
import Derived.Test.YtjfcjclhbnmgcaaPlFoC
namespace Go.Proofs.Ytjfcjclhbnmgcaa
open Go.RowKit

/-- z, and behind its first n rows the row x. -/
def oneMore (z : Nat → Nat → Int) (n : Nat) (x : Nat → Int) (i j : Nat) : Int := if i < n then z i j else x j
theorem sumTo_more {z : Nat → Nat → Int} {n : Nat} {x : Nat → Int} {j : Nat} : ∀ k, k ≤ n → sumTo (oneMore z n x) j k = sumTo z j k
  | 0, _ => rfl
  | k + 1, hk => by
    rw [sumTo, sumTo, sumTo_more k (by omega)]
    unfold oneMore
    rw [if_pos (by omega)]
theorem momTo_more {z : Nat → Nat → Int} {n : Nat} {x : Nat → Int} {i j f g : Nat} {a b : Int} : ∀ k, k ≤ n → momTo (oneMore z n x) i j f g a b k = momTo z i j f g a b k
  | 0, _ => rfl
  | k + 1, hk => by
    rw [momTo, momTo, momTo_more k (by omega)]
    unfold oneMore
    rw [if_pos (by omega), if_pos (by omega), if_pos (by omega), if_pos (by omega)]
theorem sumTo_one {z : Nat → Nat → Int} {n : Nat} {x : Nat → Int} {j : Nat} : sumTo (oneMore z n x) j (n + 1) = sumTo z j n + x j := by
  rw [sumTo, sumTo_more n (Nat.le_refl _)]
  unfold oneMore
  rw [if_neg (by omega)]
theorem momTo_one {z : Nat → Nat → Int} {n : Nat} {x : Nat → Int} {i j f g : Nat} {a b : Int} : momTo (oneMore z n x) i j f g a b (n + 1) = momTo z i j f g a b n + cr (x i - a) (x j - b) (x f) (x g) := by
  rw [momTo, momTo_more n (Nat.le_refl _)]
  unfold oneMore
  rw [if_neg (by omega), if_neg (by omega), if_neg (by omega), if_neg (by omega)]
/-- The balancing force at a place: the moment about the origin is that about the place then. -/
theorem mom_bal {z : Nat → Nat → Int} {n : Nat} {x : Nat → Int} {i j f g : Nat} (hf : x f = -sumTo z f n) (hg : x g = -sumTo z g n) : momTo (oneMore z n x) i j f g 0 0 (n + 1) = momTo z i j f g (x i) (x j) n := by
  rw [momTo_one, mom_shift z i j f g (x i) (x j) n, hf, hg]
  unfold cr
  rw [Int.sub_zero, Int.sub_zero, Int.mul_neg, Int.mul_neg]
  omega
/-- The row of the balancing force. -/
def balX (a b c s0 s1 s2 : Int) (j : Nat) : Int := match j with
  | 0 => a
  | 1 => b
  | 2 => c
  | 3 => -s0
  | 4 => -s1
  | _ => -s2
theorem more_slab {z : Nat → Nat → Int} {n : Nat} {a b c s0 s1 s2 : Int} : slab (n * 6) (flatF 6 z) ++ [.int .i64 a, .int .i64 b, .int .i64 c, .int .i64 (-s0), .int .i64 (-s1), .int .i64 (-s2)] = slab ((n + 1) * 6) (flatF 6 (oneMore z n (balX a b c s0 s1 s2))) := by
  apply List.ext_getElem?
  intro q
  have hl := slab_len (n * 6) (flatF 6 z)
  rcases Nat.lt_or_ge q (n * 6) with h | h
  · rw [List.getElem?_append_left (by omega), slab_get h, slab_get (by omega)]
    unfold flatF oneMore
    rw [if_pos (by omega)]
  · rw [List.getElem?_append_right (by omega), hl]
    rcases Nat.lt_or_ge q ((n + 1) * 6) with h2 | h2
    · rw [slab_get h2]
      unfold flatF oneMore
      have h3 : q / 6 = n := by omega
      rw [h3, if_neg (by omega)]
      obtain ⟨d, hd, hd2⟩ : ∃ d, q - n * 6 = d ∧ q % 6 = d := ⟨q - n * 6, rfl, by omega⟩
      rw [hd, hd2]
      have : d < 6 := by omega
      match d, this with
      | 0, _ => rfl
      | 1, _ => rfl
      | 2, _ => rfl
      | 3, _ => rfl
      | 4, _ => rfl
      | 5, _ => rfl
    · rw [List.getElem?_eq_none (by simp; omega), List.getElem?_eq_none (by rw [slab_len]; omega)]
theorem eq3_neg (x y t : Int) : eq3 (-x) (-y) (-t) 0 0 0 = eq3 x y t 0 0 0 := by
  unfold eq3
  rw [decide_eq_decide]
  omega
theorem bal_more {z : Nat → Nat → Int} {n : Nat} {a b c : Int} : balB (oneMore z n (balX a b c (sumTo z 3 n) (sumTo z 4 n) (sumTo z 5 n))) (n + 1) = eq3 (-momTo z 1 2 4 5 b c n) (-momTo z 2 0 5 3 c a n) (-momTo z 0 1 3 4 a b n) 0 0 0 := by
  have e0 := mom_bal (z := z) (n := n) (x := balX a b c (sumTo z 3 n) (sumTo z 4 n) (sumTo z 5 n)) (i := 1) (j := 2) (f := 4) (g := 5) rfl rfl
  have e1 := mom_bal (z := z) (n := n) (x := balX a b c (sumTo z 3 n) (sumTo z 4 n) (sumTo z 5 n)) (i := 2) (j := 0) (f := 5) (g := 3) rfl rfl
  have e2 := mom_bal (z := z) (n := n) (x := balX a b c (sumTo z 3 n) (sumTo z 4 n) (sumTo z 5 n)) (i := 0) (j := 1) (f := 3) (g := 4) rfl rfl
  unfold balB sum0 mom0
  rw [sumTo_one, sumTo_one, sumTo_one, e0, e1, e2, eq3_neg]
  have h : ∀ s : Int, s + -s = 0 := fun s => by omega
  show (eq3 (sumTo z 3 n + -sumTo z 3 n) (sumTo z 4 n + -sumTo z 4 n) (sumTo z 5 n + -sumTo z 5 n) 0 0 0 && _) = _
  rw [h, h, h, eq3_self, Bool.true_and]
  rfl
theorem sum_more {z : Nat → Nat → Int} {n : Nat} {a b c : Int} : sum3 (oneMore z n (balX a b c (sumTo z 3 n) (sumTo z 4 n) (sumTo z 5 n))) (n + 1) = .agg #[.int .i64 0, .int .i64 0, .int .i64 0] := by
  unfold sum3
  rw [sumTo_one, sumTo_one, sumTo_one]
  have h : ∀ s : Int, s + -s = 0 := fun s => by omega
  show Value.agg #[.int .i64 (sumTo z 3 n + -sumTo z 3 n), .int .i64 (sumTo z 4 n + -sumTo z 4 n), .int .i64 (sumTo z 5 n + -sumTo z 5 n)] = _
  rw [h, h, h]
end Go.Proofs.Ytjfcjclhbnmgcaa
