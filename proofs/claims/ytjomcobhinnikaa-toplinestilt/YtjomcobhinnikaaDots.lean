/- The contract of number.checkDots. -/
import Derived.Test.YtjomcobhinnikaaBend
namespace Go.Proofs.Ytjomcobhinnikaa
open Go.RowKit

/-- The slice value of so many dots reads as ds. -/
def Dots (w : World) (B : Nat) (A : Option Addr) (ds : List (Int × Int)) : Prop :=
  0 < ds.length → ∃ b off, A = some ⟨b, off, none⟩ ∧ b < B ∧ ∀ i, i < ds.length → w.cell? ⟨b, off + i * 2, none⟩ = some (.int .i64 (ds.getD i (0, 0)).1) ∧ w.cell? ⟨b, off + i * 2 + 1, none⟩ = some (.int .i64 (ds.getD i (0, 0)).2)
theorem Dots.kept {w w' : World} {B : Nat} {A : Option Addr} {ds : List (Int × Int)} (h : Dots w B A ds) (hb : Below B w w') : Dots w' B A ds := fun h0 => by
  obtain ⟨b, off, e, hB, hc⟩ := h h0
  exact ⟨b, off, e, hB, fun i hi => ⟨(hb.cell (by exact hB)).trans (hc i hi).1, (hb.cell (by exact hB)).trans (hc i hi).2⟩⟩

instance (x : Int) : Decidable (inD x) := inferInstanceAs (Decidable (_ ∧ _))
def dotErrAt (ds : List (Int × Int)) (i : Nat) : Int :=
  if inD (ds.getD i (0, 0)).1 ∧ inD (ds.getD i (0, 0)).2 then (if 0 < i ∧ (ds.getD i (0, 0)).1 ≤ (ds.getD (i - 1) (0, 0)).1 then 9 else 0) else 2
def dotsTo (ds : List (Int × Int)) : Nat → Int
  | 0 => 0
  | k + 1 => if dotsTo ds k = 0 then dotErrAt ds k else dotsTo ds k
def dotsErr (ds : List (Int × Int)) : Int := if ds.length < 3 ∨ 60 < ds.length then 10 else dotsTo ds ds.length
theorem dotsTo_stop {ds : List (Int × Int)} {k : Nat} {e : Int} (h0 : dotsTo ds k = 0) (he : dotErrAt ds k = e) (hne : e ≠ 0) : ∀ n, k < n → dotsTo ds n = e
  | 0, h => by omega
  | n + 1, h => by
    rcases Nat.lt_or_ge k n with hlt | hge
    · have := dotsTo_stop h0 he hne n hlt
      rw [dotsTo, if_neg (by rw [this]; exact hne), this]
    · obtain rfl : n = k := by omega
      rw [dotsTo, if_pos h0, he]

set_option maxHeartbeats 1000000 in
theorem checkDots_any (A : Option Addr) (n cap : Nat) (ds : List (Int × Int)) (w : World) (hn : ds.length = n) (h : Dots w w.heap.size A ds) :
    Calls Try.prog 21 #[.slice A n cap] w fun e w' => e = .returned (.int .i64 (dotsErr ds)) ∧ Below w.heap.size w w' := by
  have HN := hide hn
  have HD := hide h
  clear hn h
  by_cases h3 : n < 3
  · have HE : Hid (dotsErr ds = 10) := if_pos (.inl (by rw [HN.out]; exact h3))
    go_enter Try.func21, Try.ntmps21
    go_wp2
    go_ret
    exact ⟨ret_int HE.out.symm, Below.refl _ _⟩
  · by_cases h60 : 60 < n
    · have HE : Hid (dotsErr ds = 10) := if_pos (.inr (by rw [HN.out]; exact h60))
      go_enter Try.func21, Try.ntmps21
      go_wp2
      go_ret
      exact ⟨ret_int HE.out.symm, Below.refl _ _⟩
    · have HE : Hid (dotsErr ds = dotsTo ds n) := by show dotsErr ds = _; unfold dotsErr; rw [if_neg (by rw [HN.out]; omega), HN.out]
      obtain ⟨b, off, rfl, hb, hc⟩ := HD.out (by rw [HN.out]; omega)
      have HC := hide hc
      clear hc
      go_enter Try.func21, Try.ntmps21
      go_wp2
      go_loopw [15] (fun i wr => ∃ k : Nat, k ≤ n ∧ i = .int .i64 k ∧ Hid (dotsTo ds k = 0) ∧ Hid (Below w.heap.size w wr)) (fun i _ => n - (intOf i).toNat)
      case atStart => exact ⟨0, by omega, rfl, rfl, Below.refl _ _⟩
      case round =>
        obtain ⟨k, hk, rfl, H0, HB⟩ := hrel
        by_cases hlt : k < n
        · obtain ⟨hx, hy⟩ := HC.out k (by rw [HN.out]; exact hlt)
          have qx := (HB.out.cell (by exact hb)).trans hx
          have qy := (HB.out.cell (by exact hb)).trans hy
          have hsz := HB.out.size
          have hbr : b < wr.heap.size := by omega
          obtain ⟨x, hxe⟩ : ∃ x, x = (ds.getD k (0, 0)).1 := ⟨_, rfl⟩
          obtain ⟨y, hye⟩ : ∃ y, y = (ds.getD k (0, 0)).2 := ⟨_, rfl⟩
          rw [← hxe] at qx
          rw [← hye] at qy
          have HX := hide hxe
          have HY := hide hye
          clear hx hy hxe hye
          by_cases hxb : inD x
          · have hb1 : inB x 10000 = true := inB_yes hxb
            by_cases hyb : inD y
            · have hb2 : inB y 10000 = true := inB_yes hyb
              rcases Nat.eq_zero_or_pos k with rfl | hk0
              · have HK : Hid (dotsTo ds (0 + 1) = 0) := by
                  show dotsTo ds 1 = 0
                  unfold dotsTo
                  rw [if_pos H0.out]
                  unfold dotErrAt
                  rw [if_pos ⟨HX.out ▸ hxb, HY.out ▸ hyb⟩, if_neg (fun h => absurd h.1 (by decide))]
                clear hxb hyb
                have qx0 : wr.cell? ⟨b, off, none⟩ = some (.int .i64 x) := by simpa using qx
                have qy0 : wr.cell? ⟨b, off + 1, none⟩ = some (.int .i64 y) := by simpa using qy
                clear qx qy
                rw [show ((0 : Nat) : Int) = 0 from rfl]
                go_wp2_with (go_at_call 35; refine (within_any _ _ _ (by omega) (by omega)).mono ?_; rintro e w' ⟨rfl, rfl⟩)
                go_quiet (fail)
                go_wp2
                go_roundw
                case rel => exact ⟨1, by omega, by go_num, HK, below_drewN (HB.out.alloc (by omega) _) _⟩
                case measure => simp [intOf]; omega
              · obtain ⟨j, rfl⟩ : ∃ j, k = j + 1 := ⟨k - 1, by omega⟩
                have qz := (HB.out.cell (by exact hb)).trans (HC.out j (by rw [HN.out]; omega)).1
                obtain ⟨z, hze⟩ : ∃ z, z = (ds.getD j (0, 0)).1 := ⟨_, rfl⟩
                rw [← hze] at qz
                have HZ := hide hze
                clear hze
                by_cases hxz : x ≤ z
                · have HK : Hid (dotsTo ds n = 9) := by
                    refine dotsTo_stop H0.out ?_ (by omega) n hlt
                    have hcond : 0 < j + 1 ∧ (ds.getD (j + 1) (0, 0)).1 ≤ (ds.getD (j + 1 - 1) (0, 0)).1 := ⟨by omega, by rw [← HX.out, Nat.add_sub_cancel, ← HZ.out]; exact hxz⟩
                    unfold dotErrAt
                    rw [if_pos ⟨HX.out ▸ hxb, HY.out ▸ hyb⟩, if_pos hcond]
                  clear hxb hyb
                  go_wp2_with (go_at_call 35; refine (within_any _ _ _ (by omega) (by omega)).mono ?_; rintro e w' ⟨rfl, rfl⟩)
                  go_quiet (fail)
                  go_wp2
                  go_ret
                  exact ⟨ret_int (by rw [HE.out, HK.out]), below_drewN (HB.out.alloc (by omega) _) _⟩
                · have HK : Hid (dotsTo ds (j + 1 + 1) = 0) := by
                    show dotsTo ds (j + 1 + 1) = 0
                    rw [dotsTo, if_pos H0.out]
                    unfold dotErrAt
                    rw [if_pos ⟨HX.out ▸ hxb, HY.out ▸ hyb⟩, if_neg]
                    rw [← HX.out, Nat.add_sub_cancel, ← HZ.out]
                    exact fun h => hxz h.2
                  clear hxb hyb
                  go_wp2_with (go_at_call 35; refine (within_any _ _ _ (by omega) (by omega)).mono ?_; rintro e w' ⟨rfl, rfl⟩)
                  go_quiet (fail)
                  go_wp2
                  go_roundw
                  case rel => exact ⟨j + 1 + 1, by omega, by go_num, HK, below_drewN (HB.out.alloc (by omega) _) _⟩
                  case measure => simp [intOf]; omega
            · have hb2 : inB y 10000 = false := inB_no hyb
              have HK : Hid (dotsTo ds n = 2) := by
                refine dotsTo_stop H0.out ?_ (by omega) n hlt
                unfold dotErrAt
                rw [if_neg (fun h => hyb (HY.out ▸ h.2))]
              clear hxb hyb
              go_wp2_with (go_at_call 35; refine (within_any _ _ _ (by omega) (by omega)).mono ?_; rintro e w' ⟨rfl, rfl⟩)
              go_ret
              exact ⟨ret_int (by rw [HE.out, HK.out]), HB.out.alloc (by omega) _⟩
          · have hb1 : inB x 10000 = false := inB_no hxb
            have HK : Hid (dotsTo ds n = 2) := by
              refine dotsTo_stop H0.out ?_ (by omega) n hlt
              unfold dotErrAt
              rw [if_neg (fun h => hxb (HX.out ▸ h.1))]
            clear hxb
            go_wp2_with (go_at_call 35; refine (within_any _ _ _ (by omega) (by omega)).mono ?_; rintro e w' ⟨rfl, rfl⟩)
            go_ret
            exact ⟨ret_int (by rw [HE.out, HK.out]), HB.out.alloc (by omega) _⟩
        · obtain rfl : k = n := by omega
          go_wp2
          go_ret
          exact ⟨ret_int (by rw [HE.out, H0.out]), HB.out⟩
end Go.Proofs.Ytjomcobhinnikaa
