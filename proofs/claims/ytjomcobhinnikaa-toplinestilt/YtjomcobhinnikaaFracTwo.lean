/- The contract of number.checkFracs for two fractions. -/
import Derived.Test.YtjomcobhinnikaaFracCase
namespace Go.Proofs.Ytjomcobhinnikaa
open Go.RowKit

set_option maxHeartbeats 1000000 in
set_option maxRecDepth 100000 in
theorem checkFracs_any (g cap : Nat) (a b c d : Int) (w : World) (ha : -9223372036854775808 ≤ a ∧ a ≤ 9223372036854775807) (hb : -9223372036854775808 ≤ b ∧ b ≤ 9223372036854775807) (hc : -9223372036854775808 ≤ c ∧ c ≤ 9223372036854775807) (hd : -9223372036854775808 ≤ d ∧ d ≤ 9223372036854775807) (hB : Blk w g 29 #[.int .i64 a, .int .i64 b, .int .i64 c, .int .i64 d]) :
    Calls Try.prog 25 #[.slice (some ⟨g, 0, none⟩) 2 cap] w fun e w' => e = .returned (.int .i64 (fracsErr a b c d)) ∧ Below w.heap.size w w' := by
  have HB := hide hB
  clear hB
  go_enter Try.func25, Try.ntmps25
  go_wp2
  go_loopw [8] (fun i wr => Hid (Below w.heap.size w wr) ∧ (i = .int .i64 0 ∨ (i = .int .i64 1 ∧ Hid (fracErr a b = 0)) ∨ (i = .int .i64 2 ∧ Hid (fracErr a b = 0) ∧ Hid (fracErr c d = 0)))) (fun i _ => 2 - (intOf i).toNat)
  case atStart => exact ⟨Below.refl _ _, Or.inl rfl⟩
  case round =>
    obtain ⟨HW, rfl | ⟨rfl, HA⟩ | ⟨rfl, HA, HC⟩⟩ := hrel
    · have Bg := hide (HB.out.kept HW.out)
      obtain ⟨⟨q0, q1, q2, q3⟩, _⟩ := Bg.out.c4
      have hlt := Bg.out.lt
      have hsz := HW.out.size
      go_wp2_with fail
      refine (checkFrac_any a b _ ha hb).mono ?_
      rintro e w3 ⟨rfl, hb3⟩
      have HB3 : Hid (Below w.heap.size w w3) := (HW.out.alloc hsz _).trans (hb3.mono (by simp; omega))
      clear hb3
      rcases fracErr_cases a b with ⟨h, _⟩ | h | h
      · rw [h]
        have H := hide h
        clear h
        go_wp2
        go_roundw
        case rel => exact ⟨HB3, Or.inr (Or.inl ⟨rfl, H⟩)⟩
        case measure => simp [intOf]
      · have HE : Hid (fracsErr a b c d = 2) := (if_neg (by omega)).trans h
        rw [h]
        clear h
        go_wp2
        go_ret
        exact ⟨ret_int HE.out.symm, HB3.out⟩
      · have HE : Hid (fracsErr a b c d = 3) := (if_neg (by omega)).trans h
        rw [h]
        clear h
        go_wp2
        go_ret
        exact ⟨ret_int HE.out.symm, HB3.out⟩
    · have Bg := hide (HB.out.kept HW.out)
      obtain ⟨⟨q0, q1, q2, q3⟩, _⟩ := Bg.out.c4
      have hlt := Bg.out.lt
      have hsz := HW.out.size
      go_wp2_with fail
      refine (checkFrac_any c d _ hc hd).mono ?_
      rintro e w3 ⟨rfl, hb3⟩
      have HB3 : Hid (Below w.heap.size w w3) := (HW.out.alloc hsz _).trans (hb3.mono (by simp; omega))
      clear hb3
      rcases fracErr_cases c d with ⟨h, _⟩ | h | h
      · rw [h]
        have H := hide h
        clear h
        go_wp2
        go_roundw
        case rel => exact ⟨HB3, Or.inr (Or.inr ⟨rfl, HA, H⟩)⟩
        case measure => simp [intOf]
      · have HE : Hid (fracsErr a b c d = 2) := (if_pos HA.out).trans h
        rw [h]
        clear h
        go_wp2
        go_ret
        exact ⟨ret_int HE.out.symm, HB3.out⟩
      · have HE : Hid (fracsErr a b c d = 3) := (if_pos HA.out).trans h
        rw [h]
        clear h
        go_wp2
        go_ret
        exact ⟨ret_int HE.out.symm, HB3.out⟩
    · have HE : Hid (fracsErr a b c d = 0) := (if_pos HA.out).trans HC.out
      go_wp2
      go_ret
      exact ⟨ret_int HE.out.symm, HW.out⟩

end Go.Proofs.Ytjomcobhinnikaa
