/- The contract of agrafferef01.DotsErr. -/
import Derived.Test.YtjomcobhinnikaaDots
namespace Go.Proofs.Ytjomcobhinnikaa
open Go.RowKit
set_option linter.unusedVariables false
set_option linter.unusedSimpArgs false

set_option maxHeartbeats 2000000 in
set_option maxRecDepth 100000 in
theorem refDots_any (A : Option Addr) (n cap : Nat) (ds : List (Int × Int)) (w : World) (hn : ds.length = n) (h : Dots w w.heap.size A ds) :
    Calls Try.prog 7 #[.slice A n cap] w fun e w' => e = .returned (.int .i64 (dotsErr ds)) ∧ Below w.heap.size w w' := by
  have HN := hide hn
  have HD := hide h
  clear hn h
  by_cases h3 : 3 ≤ (n : Int) ∧ (n : Int) ≤ 60
  · have hb3 : inR n 3 60 = true := inR_yes h3
    have HE : Hid (dotsErr ds = dotsTo ds n) := by show dotsErr ds = _; unfold dotsErr; rw [if_neg (by rw [HN.out]; omega), HN.out]
    obtain ⟨b, off, rfl, hb, hc⟩ := HD.out (by rw [HN.out]; omega)
    have HC := hide hc
    clear hc
    go_enter Try.func7, Try.ntmps7
    go_wp2_with fail
    refine (within3_any _ _ _ _).mono ?_
    rintro e w' ⟨rfl, rfl⟩
    rw [hb3]
    go_wp2
    go_loopw [3] (fun i wr => ∃ k q : Nat, k ≤ n ∧ i = .int .i64 k ∧ Hid (dotsTo ds k = 0) ∧ wr = w.drewN q) (fun i _ => n - (intOf i).toNat)
    case atStart => exact ⟨0, 0, by omega, rfl, rfl, rfl⟩
    case round =>
      obtain ⟨k, q, hk, rfl, H0, rfl⟩ := hrel
      by_cases hlt : k < n
      · obtain ⟨qx, qy⟩ := HC.out k (by rw [HN.out]; exact hlt)
        obtain ⟨x, hxe⟩ : ∃ x, x = (ds.getD k (0, 0)).1 := ⟨_, rfl⟩
        obtain ⟨y, hye⟩ : ∃ y, y = (ds.getD k (0, 0)).2 := ⟨_, rfl⟩
        rw [← hxe] at qx
        rw [← hye] at qy
        have HX := hide hxe
        have HY := hide hye
        clear hxe hye
        by_cases hxb : inD x
        · have hb1 : inR x (-10000) 10000 = true := inR_yes hxb
          by_cases hyb : inD y
          · have hb2 : inR y (-10000) 10000 = true := inR_yes hyb
            rcases Nat.eq_zero_or_pos k with rfl | hk0
            · have HK : Hid (dotsTo ds (0 + 1) = 0) := by
                show dotsTo ds 1 = 0
                unfold dotsTo
                rw [if_pos H0.out]
                unfold dotErrAt
                rw [if_pos ⟨HX.out ▸ hxb, HY.out ▸ hyb⟩, if_neg (fun h => absurd h.1 (by decide))]
              clear hxb hyb
              have qx0 : w.cell? ⟨b, off, none⟩ = some (.int .i64 x) := by simpa using qx
              have qy0 : w.cell? ⟨b, off + 1, none⟩ = some (.int .i64 y) := by simpa using qy
              clear qx qy
              rw [show ((0 : Nat) : Int) = 0 from rfl]
              go_wp2_with (go_at_call 8; refine (within3_any _ _ _ _).mono ?_; rintro e w' ⟨rfl, rfl⟩)
              go_quiet (fail)
              go_wp2
              go_roundw
              case rel => exact ⟨1, _, by omega, by go_num, HK, rfl⟩
              case measure => simp [intOf]; omega
            · obtain ⟨j, rfl⟩ : ∃ j, k = j + 1 := ⟨k - 1, by omega⟩
              have qz := (HC.out j (by rw [HN.out]; omega)).1
              obtain ⟨z, hze⟩ : ∃ z, z = (ds.getD j (0, 0)).1 := ⟨_, rfl⟩
              rw [← hze] at qz
              have HZ := hide hze
              clear hze
              by_cases hxz : x ≤ z
              · have HK : Hid (dotsTo ds n = 9) := by
                  refine dotsTo_stop H0.out ?_ (by omega) n hlt
                  have hcond : 0 < j + 1 ∧ (ds.getD (j + 1) (0, 0)).1 ≤ (ds.getD (j + 1 - 1) (0, 0)).1 := ⟨by omega, by rw [← HX.out, Nat.add_sub_cancel, ← HZ.out]; exact hxz⟩
                  unfold dotErrAt
                  rw [if_pos ⟨HX.out ▸ hxb, HY.out ▸ hyb⟩, if_pos hcond]
                clear hxb hyb
                go_wp2_with (go_at_call 8; refine (within3_any _ _ _ _).mono ?_; rintro e w' ⟨rfl, rfl⟩)
                go_quiet (fail)
                go_wp2
                go_ret
                refine ⟨ret_int (by rw [HE.out, HK.out]), ?_⟩
                repeat (first | exact Below.refl _ _ | refine below_drewN ?_ _)
              · have HK : Hid (dotsTo ds (j + 1 + 1) = 0) := by
                  show dotsTo ds (j + 1 + 1) = 0
                  rw [dotsTo, if_pos H0.out]
                  unfold dotErrAt
                  rw [if_pos ⟨HX.out ▸ hxb, HY.out ▸ hyb⟩, if_neg]
                  rw [← HX.out, Nat.add_sub_cancel, ← HZ.out]
                  exact fun h => hxz h.2
                clear hxb hyb
                go_wp2_with (go_at_call 8; refine (within3_any _ _ _ _).mono ?_; rintro e w' ⟨rfl, rfl⟩)
                go_quiet (fail)
                go_wp2
                go_roundw
                case rel => exact ⟨j + 1 + 1, _, by omega, by go_num, HK, rfl⟩
                case measure => simp [intOf]; omega
          · have hb2 : inR y (-10000) 10000 = false := inR_no hyb
            have HK : Hid (dotsTo ds n = 2) := by
              refine dotsTo_stop H0.out ?_ (by omega) n hlt
              unfold dotErrAt
              rw [if_neg (fun h => hyb (HY.out ▸ h.2))]
            clear hxb hyb
            go_wp2_with (go_at_call 8; refine (within3_any _ _ _ _).mono ?_; rintro e w' ⟨rfl, rfl⟩)
            go_ret
            exact ⟨ret_int (by rw [HE.out, HK.out]), below_drewN (Below.refl _ _) _⟩
        · have hb1 : inR x (-10000) 10000 = false := inR_no hxb
          have HK : Hid (dotsTo ds n = 2) := by
            refine dotsTo_stop H0.out ?_ (by omega) n hlt
            unfold dotErrAt
            rw [if_neg (fun h => hxb (HX.out ▸ h.1))]
          clear hxb
          go_wp2_with (go_at_call 8; refine (within3_any _ _ _ _).mono ?_; rintro e w' ⟨rfl, rfl⟩)
          go_ret
          exact ⟨ret_int (by rw [HE.out, HK.out]), below_drewN (Below.refl _ _) _⟩
      · obtain rfl : k = n := by omega
        go_wp2
        go_ret
        exact ⟨ret_int (by rw [HE.out, H0.out]), below_drewN (Below.refl _ _) _⟩
  · have hb3 : inR n 3 60 = false := inR_no h3
    have HE : Hid (dotsErr ds = 10) := if_pos (by rw [HN.out]; omega)
    clear h3
    go_enter Try.func7, Try.ntmps7
    go_wp2_with fail
    refine (within3_any _ _ _ _).mono ?_
    rintro e w' ⟨rfl, rfl⟩
    rw [hb3]
    go_wp2
    go_ret
    exact ⟨ret_int HE.out.symm, Below.refl _ _⟩
end Go.Proofs.Ytjomcobhinnikaa
