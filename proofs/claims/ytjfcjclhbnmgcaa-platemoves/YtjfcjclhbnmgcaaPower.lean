/- The contract of (number.natural).timesPower: a number in the call's own memory is multiplied by a power. -/
import Derived.Test.YtjfcjclhbnmgcaaTimes
namespace Go.Proofs.Ytjfcjclhbnmgcaa
open Go.RowKit

theorem Left.refl (w : World) (v : Value) : Left w w v v := ⟨World.grownBy.refl w _, .inl rfl⟩
theorem Left.trans {w w1 w2 : World} {v v1 v2 : Value} (h : Left w w1 v v1) (k : Left w1 w2 v1 v2) : Left w w2 v v2 := by
  obtain ⟨hg, hb⟩ := h
  obtain ⟨kg, kb⟩ := k
  refine ⟨⟨kg.os.trans hg.os, kg.tape.trans hg.tape, kg.output.trans hg.output, Nat.le_trans hg.size kg.size, fun i hi hne => (kg.block i (Nat.lt_of_lt_of_le hi hg.size) ?_).trans (hg.block i hi hne)⟩, ?_⟩
  · rcases hb with hb | ⟨g, hb, hl⟩
    · rw [hb]; exact hne
    · rw [hb]; intro e; injection e with e; omega
  · rcases kb with kb | ⟨g, kb, kl⟩
    · rw [kb]
      rcases hb with hb | ⟨g, hb, hl⟩
      · exact .inl hb
      · exact .inr ⟨g, hb, hl⟩
    · exact .inr ⟨g, kb, Nat.le_trans hg.size kl⟩
theorem Left.size {w w' : World} {v v' : Value} (h : Left w w' v v') : w.heap.size ≤ w'.heap.size := h.1.size

theorem times_any (base N L m : Nat) (v : Value) (w : World) (h : Own w base v N L) (hN : 1 ≤ N) (hL : L ≤ 1000000) (hm : m < B64) (hbase : base ≤ w.heap.size) :
    Calls Try.prog 137 #[v, .int .u64 m] w (TimesDone w base v (N * m) (L + 1)) := by
  obtain ⟨ds, hd, hl, ho⟩ := h
  rcases ho.2 with ⟨rfl, h0⟩ | ⟨g, cap, cur, rfl, _⟩
  · have e := List.eq_nil_of_length_eq_zero h0
    subst e
    have := hd.val
    simp [valN] at this
    omega
  · rcases Nat.eq_zero_or_pos m with rfl | h1
    · exact times_zero base g cap L ds w ho
    · exact times_pos base g cap L N m ds w hd hl hL h1 hm ho hbase

/-- The state of the loop after k rounds: what is done, and what is still packed. -/
def Packed (w wr : World) (base N L f k : Nat) (v0 v : Value) (p : Nat) : Prop :=
  ∃ N', Own wr base v N' (L + k) ∧ 1 ≤ N' ∧ N' * p = N * f ^ k ∧ p < B64 ∧ Left w wr v0 v

theorem Packed.keep {w wr : World} {base N L f k p : Nat} {v0 v : Value} (h : Packed w wr base N L f k v0 v p) (ho : hi64 p f = 0) : Packed w wr base N L f (k + 1) v0 v (lo64 p f) := by
  obtain ⟨N', ⟨ds, hd, hl, hown⟩, h1, h2, h3, h4⟩ := h
  have e : lo64 p f = p * f := by
    have := Nat.mod_add_div (p * f) B64
    unfold hi64 at ho
    unfold lo64
    rw [ho] at this
    omega
  refine ⟨N', ⟨ds, hd, by omega, hown⟩, h1, ?_, Nat.mod_lt _ B64_pos, h4⟩
  rw [e, Nat.pow_succ, ← Nat.mul_assoc, h2, Nat.mul_assoc]
theorem Packed.turn {w wr w1 : World} {base N L f k p : Nat} {v0 v v' : Value} (h : Packed w wr base N L f k v0 v p) (ho : 0 < hi64 p f) (hf : f < B64)
    (hd : ∃ N', N' * p = N * f ^ k ∧ 1 ≤ N' ∧ Own w1 base v' (N' * p) (L + k + 1) ∧ Left wr w1 v v') : Packed w w1 base N L f (k + 1) v0 v' f := by
  obtain ⟨_, _, _, _, _, h4⟩ := h
  obtain ⟨N', e, h1, hown, hleft⟩ := hd
  have hp : 1 ≤ p := by
    rcases Nat.eq_zero_or_pos p with rfl | hp
    · simp [hi64] at ho
    · exact hp
  exact ⟨N' * p, hown, Nat.mul_le_mul h1 hp, by rw [e, Nat.pow_succ, Nat.mul_assoc], hf, h4.trans hleft⟩

set_option maxHeartbeats 1000000 in
set_option maxRecDepth 100000 in
theorem timesPower_any (base N L f n : Nat) (v : Value) (w : World) (h : Own w base v N L) (hN : 1 ≤ N) (hL : L + n ≤ 100000) (hf : f < B64) (hbase : base ≤ w.heap.size) :
    Calls Try.prog 123 #[v, .int .u64 f, .int .i64 n] w (TimesDone w base v (N * f ^ n) (L + n + 1)) := by
  have H0 : Hid (Packed w w base N L f 0 v v 1) := ⟨N, h, hN, by simp, B64_one, Left.refl w v⟩
  clear h hN
  have HF := hide hf
  clear hf
  go_enter Try.func123, Try.ntmps123
  go_wp2
  go_loopw [0, 7, 11] (fun u pk i wr => ∃ k p : Nat, k ≤ n ∧ i = .int .i64 k ∧ pk = .int .u64 p ∧ Hid (Packed w wr base N L f k v u p)) (fun _ _ i _ => n - (intOf i).toNat)
  case atStart => exact ⟨0, 1, Nat.zero_le _, rfl, rfl, H0⟩
  case round =>
    obtain ⟨k, p, hk, rfl, rfl, H⟩ := hrel
    by_cases hlt : k < n
    · have hp : p < B64 := by obtain ⟨_, _, _, _, h, _⟩ := H.out; exact h
      have HP := hide hp
      clear hp
      rcases Nat.eq_zero_or_pos (hi64 p f) with hz | hz
      · have HZ := hide hz
        clear hz
        have hz0 : ¬ (0 : Int) < (hi64 p f : Int) := by rw [HZ.out]; omega
        have HK := hide (H.out.keep HZ.out)
        go_wp2_with (go_at_call 136; refine (mul64_any _ _ HP.out HF.out _).mono ?_; rintro e w' ⟨rfl, rfl⟩)
        go_roundw
        case rel => exact ⟨k + 1, lo64 p f, by omega, by go_num, rfl, HK⟩
        case measure => simp [intOf]; omega
      · have hz0 : (0 : Int) < (hi64 p f : Int) := by omega
        go_wp2_with fail
        refine (mul64_any _ _ HP.out HF.out _).mono ?_
        rintro e w' ⟨rfl, rfl⟩
        go_wp2_with fail
        obtain ⟨N', hown, hN1, hval, _, hleft⟩ := H.out
        refine (times_any base N' (L + k) p _ _ hown hN1 (by omega) HP.out (Nat.le_trans hbase hleft.size)).mono ?_
        rintro e w' ⟨v', rfl, hown', hleft'⟩
        have HK := hide (H.out.turn hz HF.out ⟨N', hval, hN1, hown', hleft'⟩)
        clear hown hN1 hval hleft hown' hleft'
        go_wp2
        go_roundw
        case rel => exact ⟨k + 1, f, by omega, by go_num, rfl, HK⟩
        case measure => simp [intOf]; omega
    · obtain rfl : k = n := by omega
      obtain ⟨N', hown, hN1, hval, hp, hleft⟩ := H.out
      have HV := hide hval
      have HP := hide hp
      have HW := hide hown
      have HE := hide hleft
      clear hval hp hown hleft
      go_wp2_with fail
      refine (times_any base N' (L + k) p _ _ HW.out hN1 (by omega) HP.out (Nat.le_trans hbase HE.out.size)).mono ?_
      rintro e w' ⟨v', rfl, hown', hleft'⟩
      rw [HV.out] at hown'
      have HO := hide hown'
      have HL := hide (HE.out.trans hleft')
      clear hown' hleft'
      go_wp2
      go_ret
      exact ⟨v', rfl, HO.out, HL.out⟩
end Go.Proofs.Ytjfcjclhbnmgcaa
