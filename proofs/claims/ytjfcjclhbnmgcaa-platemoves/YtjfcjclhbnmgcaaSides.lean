/- The contract of (number.exponents).sides: two numbers whose quotient is the product of the powers of 2, 3 and 5. The exponents are at most 10000 in size. -/
import Derived.Test.YtjfcjclhbnmgcaaCompare
namespace Go.Proofs.Ytjfcjclhbnmgcaa
open Go.RowKit

def upN (e : Int) (p : Nat) : Nat := if 0 < e then p ^ e.toNat else 1
def dnN (e : Int) (p : Nat) : Nat := if 0 < e then 1 else p ^ (-e).toNat
def upTo (a b c : Int) : Nat → Nat
  | 0 => 1
  | 1 => 1 * upN a 2
  | 2 => 1 * upN a 2 * upN b 3
  | _ => 1 * upN a 2 * upN b 3 * upN c 5
def dnTo (a b c : Int) : Nat → Nat
  | 0 => 1
  | 1 => 1 * dnN a 2
  | 2 => 1 * dnN a 2 * dnN b 3
  | _ => 1 * dnN a 2 * dnN b 3 * dnN c 5
theorem upN_pos (e : Int) {p : Nat} (h : 1 ≤ p) : 1 ≤ upN e p := by unfold upN; split; exact Nat.pow_pos h; omega
theorem dnN_pos (e : Int) {p : Nat} (h : 1 ≤ p) : 1 ≤ dnN e p := by unfold dnN; split; omega; exact Nat.pow_pos h
theorem upTo_pos (a b c : Int) (k : Nat) : 1 ≤ upTo a b c k := by
  have h1 := upN_pos a (p := 2) (by omega); have h2 := upN_pos b (p := 3) (by omega); have h3 := upN_pos c (p := 5) (by omega)
  unfold upTo; split
  · omega
  · omega
  · exact Nat.mul_pos (by omega) h2
  · exact Nat.mul_pos (Nat.mul_pos (by omega) h2) h3
theorem dnTo_pos (a b c : Int) (k : Nat) : 1 ≤ dnTo a b c k := by
  have h1 := dnN_pos a (p := 2) (by omega); have h2 := dnN_pos b (p := 3) (by omega); have h3 := dnN_pos c (p := 5) (by omega)
  unfold dnTo; split
  · omega
  · omega
  · exact Nat.mul_pos (by omega) h2
  · exact Nat.mul_pos (Nat.mul_pos (by omega) h2) h3

/-- What the loop of round k finds: the prime, the exponent, and what the round makes of the two products. -/
theorem round_facts (a b c : Int) (k : Nat) (hk : k < 3) (W : World) (g : Nat) (ha : -10000 ≤ a ∧ a ≤ 10000) (hb : -10000 ≤ b ∧ b ≤ 10000) (hc : -10000 ≤ c ∧ c ≤ 10000)
    (h0 : W.cell? ⟨g, 0, none⟩ = some (.int .i64 a)) (h1 : W.cell? ⟨g, 1, none⟩ = some (.int .i64 b)) (h2 : W.cell? ⟨g, 2, none⟩ = some (.int .i64 c)) :
    ∃ (p : Nat) (x : Int), (∀ w : World, (Instr.index 183 (.agg #[.int .u64 2, .int .u64 3, .int .u64 5]) (.int .i64 k)).run Try.prog w = .ok (.int .u64 p) w) ∧ W.cell? ⟨g, k, none⟩ = some (.int .i64 x) ∧
      (-10000 ≤ x ∧ x ≤ 10000) ∧ p < B64 ∧ upTo a b c (k + 1) = upTo a b c k * upN x p ∧ dnTo a b c (k + 1) = dnTo a b c k * dnN x p := by
  have e3 : 5 < B64 := by decide
  match k, hk with
  | 0, _ => exact ⟨2, a, fun _ => by kernel_rfl, h0, ha, by omega, rfl, rfl⟩
  | 1, _ => exact ⟨3, b, fun _ => by kernel_rfl, h1, hb, by omega, rfl, rfl⟩
  | 2, _ => exact ⟨5, c, fun _ => by kernel_rfl, h2, hc, by omega, rfl, rfl⟩

theorem Own.mono {w : World} {base base' : Nat} {v : Value} {N L L' : Nat} (h : Own w base v N L) (hb : base' ≤ base) (hL : L ≤ L') : Own w base' v N L' := by
  obtain ⟨ds, hd, hl, h1, h2⟩ := h
  refine ⟨ds, hd, by omega, h1, ?_⟩
  rcases h2 with h2 | ⟨g, cap, cur, e, hg, r⟩
  · exact .inl h2
  · exact .inr ⟨g, cap, cur, e, by omega, r⟩
theorem Own.kept {w w' : World} {base : Nat} {v : Value} {N L : Nat} {row : Option Nat} (h : Own w base v N L) (hg : w.grownBy w' row) (hne : v.ownBlock = none ∨ v.ownBlock ≠ row) : Own w' base v N L := by
  obtain ⟨ds, hd, hl, ho⟩ := h
  exact ⟨ds, hd, hl, ho.kept hg hne⟩
theorem Own.lt {w : World} {base : Nat} {v : Value} {N L : Nat} (h : Own w base v N L) : ∀ k, v.ownBlock = some k → base ≤ k ∧ k < w.heap.size := by
  obtain ⟨ds, hd, hl, ho⟩ := h
  exact ho.lt
theorem Own.alloc {w : World} {base : Nat} {v : Value} {N L : Nat} (h : Own w base v N L) (o : Obj) : Own (w.alloc o) base v N L := by
  obtain ⟨ds, hd, hl, ho⟩ := h
  exact ⟨ds, hd, hl, ho.alloc o⟩
theorem Own.below {w w' : World} {base B : Nat} {v : Value} {N L : Nat} (h : Own w base v N L) (hb : Below B w w') (hv : ∀ k, v.ownBlock = some k → k < B) : Own w' base v N L := by
  obtain ⟨ds, hd, hl, h1, h2⟩ := h
  refine ⟨ds, hd, hl, h1, ?_⟩
  rcases h2 with h2 | ⟨g, cap, cur, rfl, hg, hh, r⟩
  · exact .inl h2
  · exact .inr ⟨g, cap, cur, rfl, hg, (hb.block g (hv g rfl)).trans hh, r⟩
theorem Own.block {w : World} {base : Nat} {v : Value} {N L : Nat} (h : Own w base v N L) (hN : 1 ≤ N) : ∃ g, v.ownBlock = some g := by
  obtain ⟨ds, hd, hl, h1, h2⟩ := h
  rcases h2 with ⟨_, h0⟩ | ⟨g, cap, cur, rfl, _⟩
  · have e := List.eq_nil_of_length_eq_zero h0
    subst e
    have := hd.val
    simp [valN] at this
    omega
  · exact ⟨g, rfl⟩
/-- A new row with one digit. -/
theorem Own.new (w : World) (base d g : Nat) (x : Int) (hx : (d : Int) = x) (hg : w.heap.size = g) (hb : base ≤ g) (hd : d < B64) (h1 : 1 ≤ d) : Own (w.alloc (.cells #[.int .u64 x] 174)) base (.slice (some ⟨g, 0, none⟩) 1 1) d 1 := by
  subst hx hg
  exact ⟨[d], Dig.one hd h1, Nat.le_refl _, w.ownsRow_lit #[.int .u64 (d : Int)] 1 hb (by decide) rfl⟩

/-- Two rows of the call's own, apart from each other. -/
structure Both (w wr : World) (B base : Nat) (va vb : Value) (N M L : Nat) : Prop where
  a : Own wr base va N L
  b : Own wr base vb M L
  apart : va.ownBlock ≠ vb.ownBlock
  below : Below B w wr

/-- The first row has turned. -/
theorem Both.left {w wr w1 : World} {B base : Nat} {va vb v' : Value} {N M L N' L' : Nat} (h : Both w wr B base va vb N M L) (hB : B ≤ base) (hN : 1 ≤ N) (hM : 1 ≤ M) (hBw : B ≤ wr.heap.size) (hown : Own w1 base v' N' L') (hl : Left wr w1 va v') (hL : L ≤ L') :
    Both w w1 B base v' vb N' M L' := by
  obtain ⟨ga, ea⟩ := h.a.block hN
  obtain ⟨gb, eb⟩ := h.b.block hM
  refine ⟨hown, (h.b.kept hl.1 (.inr (Ne.symm h.apart))).mono (Nat.le_refl _) hL, ?_, h.below.grown hl.1 hBw fun k hk => Nat.le_trans hB (h.a.lt k hk).1⟩
  rcases hl.2 with e | ⟨g, e, hg⟩
  · rw [e]; exact h.apart
  · rw [e, eb]; intro e2; injection e2 with e2; have := (h.b.lt gb eb).2; omega
theorem Both.swap {w wr : World} {B base : Nat} {va vb : Value} {N M L : Nat} (h : Both w wr B base va vb N M L) : Both w wr B base vb va M N L := ⟨h.b, h.a, Ne.symm h.apart, h.below⟩
theorem upN_neg (m p : Nat) : upN (-(m : Int)) p = 1 := by unfold upN; rw [if_neg (by omega)]
theorem dnN_neg (m p : Nat) : dnN (-(m : Int)) p = p ^ m := by unfold dnN; rw [if_neg (by omega), Int.neg_neg, Int.toNat_natCast]

def SidesDone (w : World) (N M L : Nat) (e : Ending) (w' : World) : Prop :=
  ∃ va vb, e = .returned (.tuple #[va, vb]) ∧ Both w w' w.heap.size w.heap.size va vb N M L

set_option maxHeartbeats 1000000 in
set_option maxRecDepth 100000 in
theorem sides_any (a b c : Int) (w : World) (ha : -10000 ≤ a ∧ a ≤ 10000) (hb : -10000 ≤ b ∧ b ≤ 10000) (hc : -10000 ≤ c ∧ c ≤ 10000) :
    Calls Try.prog 122 #[.agg #[.int .i64 a, .int .i64 b, .int .i64 c]] w (SidesDone w (upTo a b c 3) (dnTo a b c 3) 40000) := by
  have hB1 : Hid (Both w (((w.alloc (.cells #[.int .i64 a, .int .i64 b, .int .i64 c] 167)).alloc (.cells #[.int .u64 1] 174)).alloc (.cells #[.int .u64 1] 174)) w.heap.size (w.heap.size + 1)
      (.slice (some ⟨w.heap.size + 1, 0, none⟩) 1 1) (.slice (some ⟨w.heap.size + 1 + 1, 0, none⟩) 1 1) 1 1 1) := by
    refine ⟨(Own.new _ (w.heap.size + 1) 1 _ _ rfl (by simp) (Nat.le_refl _) B64_one (Nat.le_refl _)).alloc _, Own.new _ (w.heap.size + 1) 1 _ _ rfl (by simp) (by omega) B64_one (Nat.le_refl _), by simp [Value.ownBlock], ?_⟩
    exact (((Below.refl _ _).alloc (Nat.le_refl _) _).alloc (by simp) _).alloc (by simp; omega) _
  have hcell : Hid (∀ (wr : World), Below (w.heap.size + 1) (w.alloc (.cells #[.int .i64 a, .int .i64 b, .int .i64 c] 167)) wr →
      wr.cell? ⟨w.heap.size, 0, none⟩ = some (.int .i64 a) ∧ wr.cell? ⟨w.heap.size, 1, none⟩ = some (.int .i64 b) ∧ wr.cell? ⟨w.heap.size, 2, none⟩ = some (.int .i64 c)) := by
    intro wr h
    refine ⟨?_, ?_, ?_⟩ <;> rw [h.cell (by simp)] <;> simp
  go_enter Try.func122, Try.ntmps122
  go_wp2
  go_loopw [4, 5, 11] (fun va vb i wr => ∃ k : Nat, k ≤ 3 ∧ i = .int .i64 k ∧ Hid (Both w wr w.heap.size (w.heap.size + 1) va vb (upTo a b c k) (dnTo a b c k) (1 + k * 10001)) ∧
      Hid (Below (w.heap.size + 1) (w.alloc (.cells #[.int .i64 a, .int .i64 b, .int .i64 c] 167)) wr)) (fun _ _ i _ => 3 - (intOf i).toNat)
  case atStart => exact ⟨0, by omega, rfl, hB1, hide (((Below.refl _ _).alloc (by simp) _).alloc (by simp) _)⟩
  case round =>
    obtain ⟨k, hk, rfl, HB, HX⟩ := hrel
    by_cases hlt : k < 3
    · obtain ⟨c0, c1, c2⟩ := hcell.out wr HX.out
      obtain ⟨p, x, hidx, hcx, hx, hp, eU, eD⟩ := round_facts a b c k hlt wr w.heap.size ha hb hc c0 c1 c2
      clear c0 c1 c2
      have HP := hide hp
      have EU := hide eU
      have ED := hide eD
      have hsz : w.heap.size ≤ wr.heap.size := HB.out.below.size
      have hsz1 : w.heap.size + 1 ≤ wr.heap.size := by have := HX.out.size; simpa using this
      clear hp eU eD
      by_cases hpos : 0 < x
      · obtain ⟨m, rfl⟩ := Int.eq_ofNat_of_zero_le (Int.le_of_lt hpos)
        have hm : 0 < m := by omega
        go_wp2_with fail
        refine (timesPower_any (w.heap.size + 1) (upTo a b c k) (1 + k * 10001) p m _ _ HB.out.a (upTo_pos a b c k) (by omega) HP.out hsz1).mono ?_
        rintro e w1 ⟨v', rfl, hown, hleft⟩
        have eU2 : upTo a b c (k + 1) = upTo a b c k * p ^ m := by rw [EU.out]; simp [upN, hm]
        have eD2 : dnTo a b c (k + 1) = dnTo a b c k := by rw [ED.out]; simp [dnN, hm]
        rw [← eU2] at hown
        have R := HB.out.left (by omega) (upTo_pos a b c k) (dnTo_pos a b c k) hsz hown hleft (by omega)
        rw [← eD2] at R
        have HB' : Hid (Both w w1 w.heap.size (w.heap.size + 1) v' u5 (upTo a b c (k + 1)) (dnTo a b c (k + 1)) (1 + (k + 1) * 10001)) := ⟨R.a.mono (Nat.le_refl _) (by omega), R.b.mono (Nat.le_refl _) (by omega), R.apart, R.below⟩
        have HX' := hide (HX.out.grown hleft.1 hsz1 fun j hj => (HB.out.a.lt j hj).1)
        clear R eU2 eD2 hown hleft HB HX EU ED hcx
        go_wp2
        go_roundw
        case rel => exact ⟨k + 1, by omega, by go_num, HB', HX'⟩
        case measure => simp [intOf]; omega
      · obtain ⟨m, hm⟩ := Int.eq_ofNat_of_zero_le (show 0 ≤ -x from by omega)
        obtain rfl : x = -(m : Int) := by omega
        clear hm
        go_wp2_with fail
        refine (timesPower_any (w.heap.size + 1) (dnTo a b c k) (1 + k * 10001) p m _ _ HB.out.b (dnTo_pos a b c k) (by omega) HP.out hsz1).mono ?_
        rintro e w1 ⟨v', rfl, hown, hleft⟩
        have eD2 : dnTo a b c (k + 1) = dnTo a b c k * p ^ m := by rw [ED.out, dnN_neg]
        have eU2 : upTo a b c (k + 1) = upTo a b c k := by rw [EU.out, upN_neg, Nat.mul_one]
        rw [← eD2] at hown
        have R := (HB.out.swap.left (by omega) (dnTo_pos a b c k) (upTo_pos a b c k) hsz hown hleft (by omega)).swap
        rw [← eU2] at R
        have HB' : Hid (Both w w1 w.heap.size (w.heap.size + 1) u4 v' (upTo a b c (k + 1)) (dnTo a b c (k + 1)) (1 + (k + 1) * 10001)) := ⟨R.a.mono (Nat.le_refl _) (by omega), R.b.mono (Nat.le_refl _) (by omega), R.apart, R.below⟩
        have HX' := hide (HX.out.grown hleft.1 hsz1 fun j hj => (HB.out.b.lt j hj).1)
        clear R eU2 eD2 hown hleft HB HX EU ED hcx
        go_wp2
        go_roundw
        case rel => exact ⟨k + 1, by omega, by go_num, HB', HX'⟩
        case measure => simp [intOf]; omega
    · obtain rfl : k = 3 := by omega
      go_wp2
      go_ret2
      exact ⟨u4, u5, rfl, HB.out.a.mono (by omega) (by omega), HB.out.b.mono (by omega) (by omega), HB.out.apart, HB.out.below⟩
end Go.Proofs.Ytjfcjclhbnmgcaa
