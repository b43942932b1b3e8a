/- Contracts of number.CheckSystem and number.lowerOnce. -/
import Derived.Test.YtjomcobhinnikaaPitch
import Derived.Maps.AppendAt
namespace Go.Proofs.Ytjomcobhinnikaa
open Go.RowKit

/-- The slice value of so many bounds reads as bs: from, to, most. -/
def Bnds (w : World) (B : Nat) (A : Option Addr) (bs : List (Int × Int × Int)) : Prop :=
  0 < bs.length → ∃ b off, A = some ⟨b, off, none⟩ ∧ b < B ∧ ∀ i, i < bs.length → w.cell? ⟨b, off + i * 3, none⟩ = some (.int .i64 (bs.getD i (0, 0, 0)).1) ∧
    w.cell? ⟨b, off + i * 3 + 1, none⟩ = some (.int .i64 (bs.getD i (0, 0, 0)).2.1) ∧ w.cell? ⟨b, off + i * 3 + 2, none⟩ = some (.int .i64 (bs.getD i (0, 0, 0)).2.2)
theorem Bnds.kept {w w' : World} {B : Nat} {A : Option Addr} {bs : List (Int × Int × Int)} (h : Bnds w B A bs) (hb : Below B w w') : Bnds w' B A bs := fun h0 => by
  obtain ⟨b, off, e, hB, hc⟩ := h h0
  exact ⟨b, off, e, hB, fun i hi => ⟨(hb.cell (by exact hB)).trans (hc i hi).1, (hb.cell (by exact hB)).trans (hc i hi).2.1, (hb.cell (by exact hB)).trans (hc i hi).2.2⟩⟩

/-- x numbers one of n unknowns. -/
def known (x n : Int) : Bool := decide (0 ≤ x ∧ x < n)
theorem known_yes {x n : Int} (h : 0 ≤ x ∧ x < n) : known x n = true := decide_eq_true h
theorem known_no {x n : Int} (h : ¬ (0 ≤ x ∧ x < n)) : known x n = false := decide_eq_false h
set_option maxHeartbeats 400000 in
theorem known_any (x n : Int) (g : Nat) (w : World) (hc : w.cell? ⟨g, 0, none⟩ = some (.int .i64 n)) :
    Calls Try.prog 53 #[.int .i64 x, .pointer (some ⟨g, 0, none⟩)] w fun e w' => e = .returned (.bool (known x n)) ∧ w = w' := by
  by_cases h0 : 0 ≤ x
  · by_cases h1 : x < n
    · have HK : Hid (known x n = true) := known_yes ⟨h0, h1⟩
      go_enter Try.func53, Try.ntmps53
      go_wp2
      go_ret
      exact ⟨ret_bool HK.out.symm, rfl⟩
    · have HK : Hid (known x n = false) := known_no fun h => h1 h.2
      go_enter Try.func53, Try.ntmps53
      go_wp2
      go_ret
      exact ⟨ret_bool HK.out.symm, rfl⟩
  · have HK : Hid (known x n = false) := known_no fun h => h0 h.1
    go_enter Try.func53, Try.ntmps53
    go_wp2
    go_ret
    exact ⟨ret_bool HK.out.symm, rfl⟩

def bndErr (n : Int) (b : Int × Int × Int) : Int :=
  if known b.1 n = true ∧ known b.2.1 n = true then (if inB b.2.2 1000000000 = true then 0 else 2) else 6
def bndsTo (n : Int) (bs : List (Int × Int × Int)) : Nat → Int
  | 0 => 0
  | k + 1 => if bndsTo n bs k = 0 then bndErr n (bs.getD k (0, 0, 0)) else bndsTo n bs k
def sysErr (n : Int) (bs : List (Int × Int × Int)) : Int := if n < 1 ∨ 60 < n then 2 else if 200 < bs.length then 8 else bndsTo n bs bs.length
theorem bndsTo_stop {n : Int} {bs : List (Int × Int × Int)} {k : Nat} {e : Int} (h0 : bndsTo n bs k = 0) (he : bndErr n (bs.getD k (0, 0, 0)) = e) (hne : e ≠ 0) : ∀ m, k < m → bndsTo n bs m = e
  | 0, h => by omega
  | m + 1, h => by
    rcases Nat.lt_or_ge k m with hlt | hge
    · have := bndsTo_stop h0 he hne m hlt
      rw [bndsTo, if_neg (by rw [this]; exact hne), this]
    · obtain rfl : m = k := by omega
      rw [bndsTo, if_pos h0, he]
theorem bndsTo_down {n : Int} {bs : List (Int × Int × Int)} : ∀ m, bndsTo n bs m = 0 → ∀ k, k < m → bndErr n (bs.getD k (0, 0, 0)) = 0
  | 0, _, k, hk => by omega
  | m + 1, h, k, hk => by
    rw [bndsTo] at h
    by_cases h0 : bndsTo n bs m = 0
    · rw [if_pos h0] at h
      rcases Nat.lt_or_ge k m with hlt | hge
      · exact bndsTo_down m h0 k hlt
      · obtain rfl : k = m := by omega
        exact h
    · rw [if_neg h0] at h; exact absurd h h0

set_option maxHeartbeats 2000000 in
theorem checkSystem_any (n : Int) (A : Option Addr) (len cap : Nat) (bs : List (Int × Int × Int)) (w : World) (hn : bs.length = len) (h : Bnds w w.heap.size A bs) :
    Calls Try.prog 41 #[.int .i64 n, .slice A len cap] w fun e w' => e = .returned (.int .i64 (sysErr n bs)) ∧ Below w.heap.size w w' := by
  have hmf : ∀ (fn : Fn) (first cap : Array Value) (w : World), (Instr.makeFunc fn first cap).run Try.prog w = .ok (.func fn first cap) w := fun _ _ _ _ => rfl
  have HN := hide hn
  have HD := hide h
  clear hn h
  by_cases h1 : n < 1
  · have HE : Hid (sysErr n bs = 2) := if_pos (.inl h1)
    go_enter Try.func41, Try.ntmps41
    go_wp2
    go_ret
    exact ⟨ret_int HE.out.symm, (Below.refl _ _).alloc (Nat.le_refl _) _⟩
  · by_cases h60 : 60 < n
    · have HE : Hid (sysErr n bs = 2) := if_pos (.inr h60)
      go_enter Try.func41, Try.ntmps41
      go_wp2
      go_ret
      exact ⟨ret_int HE.out.symm, (Below.refl _ _).alloc (Nat.le_refl _) _⟩
    · have hs1 : ¬ (n < 1 ∨ 60 < n) := by omega
      by_cases h200 : 200 < len
      · have HE : Hid (sysErr n bs = 8) := (if_neg hs1).trans (if_pos (by rw [HN.out]; exact h200))
        clear hs1
        go_enter Try.func41, Try.ntmps41
        go_wp2
        go_ret
        exact ⟨ret_int HE.out.symm, (Below.refl _ _).alloc (Nat.le_refl _) _⟩
      · have HE : Hid (sysErr n bs = bndsTo n bs len) := by
          show sysErr n bs = _
          unfold sysErr
          rw [if_neg hs1, if_neg (by rw [HN.out]; exact h200), HN.out]
        clear hs1
        go_enter Try.func41, Try.ntmps41
        go_wp2
        go_loopw [20] (fun i wr => ∃ k : Nat, k ≤ len ∧ i = .int .i64 k ∧ Hid (bndsTo n bs k = 0) ∧ Hid (Blk wr w.heap.size 3 #[.int .i64 n]) ∧ Hid (Below w.heap.size w wr)) (fun i _ => len - (intOf i).toNat)
        case atStart => exact ⟨0, by omega, rfl, rfl, Blk.new _ _ _ _ rfl, (Below.refl _ _).alloc (Nat.le_refl _) _⟩
        case round =>
          obtain ⟨k, hk, rfl, H0, HX, HB⟩ := hrel
          by_cases hlt : k < len
          · obtain ⟨b, off, rfl, hb, hc⟩ := HD.out (by rw [HN.out]; omega)
            obtain ⟨hx, hy, hz⟩ := hc k (by rw [HN.out]; exact hlt)
            have qx := (HB.out.cell (by exact hb)).trans hx
            have qy := (HB.out.cell (by exact hb)).trans hy
            have qz := (HB.out.cell (by exact hb)).trans hz
            have hsz := HB.out.size
            have hbr : b < wr.heap.size := by omega
            have qn := HX.out.c1.1
            have ln := HX.out.lt
            obtain ⟨x, hxe⟩ : ∃ x, x = (bs.getD k (0, 0, 0)).1 := ⟨_, rfl⟩
            obtain ⟨y, hye⟩ : ∃ y, y = (bs.getD k (0, 0, 0)).2.1 := ⟨_, rfl⟩
            obtain ⟨z, hze⟩ : ∃ z, z = (bs.getD k (0, 0, 0)).2.2 := ⟨_, rfl⟩
            rw [← hxe] at qx
            rw [← hye] at qy
            rw [← hze] at qz
            have HXE := hide hxe
            have HYE := hide hye
            have HZE := hide hze
            clear hx hy hz hxe hye hze hc
            have hq : (wr.alloc (.cells #[.int .i64 x, .int .i64 y, .int .i64 z] 57)).cell? ⟨w.heap.size, 0, none⟩ = some (.int .i64 n) := by rw [World.cell?_alloc_past _ _ _ ln]; exact qn
            have HQ := hide hq
            clear hq
            cases hkx : known x n
            · have HK : Hid (bndsTo n bs len = 6) := by
                refine bndsTo_stop H0.out ?_ (by omega) len hlt
                unfold bndErr
                rw [if_neg (fun h => by rw [← HXE.out, hkx] at h; exact absurd h.1 (by decide))]
              go_wp2_with (go_at_call 53; refine (known_any x n w.heap.size _ HQ.out).mono ?_; rintro e w' ⟨rfl, rfl⟩)
              go_ret
              exact ⟨ret_int (by rw [HE.out, HK.out]), HB.out.alloc (by omega) _⟩
            · cases hky : known y n
              · have HK : Hid (bndsTo n bs len = 6) := by
                  refine bndsTo_stop H0.out ?_ (by omega) len hlt
                  unfold bndErr
                  rw [if_neg (fun h => by rw [← HYE.out, hky] at h; exact absurd h.2 (by decide))]
                go_wp2_with fail
                refine (known_any x n w.heap.size _ HQ.out).mono ?_
                rintro e w' ⟨rfl, rfl⟩
                rw [hkx]
                go_wp2_with fail
                refine (known_any y n w.heap.size _ HQ.out).mono ?_
                rintro e w' ⟨rfl, rfl⟩
                rw [hky]
                go_wp2
                go_ret
                exact ⟨ret_int (by rw [HE.out, HK.out]), HB.out.alloc (by omega) _⟩
              · have hc1 : known (bs.getD k (0, 0, 0)).1 n = true ∧ known (bs.getD k (0, 0, 0)).2.1 n = true := by rw [← HXE.out, ← HYE.out]; exact ⟨hkx, hky⟩
                cases hkz : inB z 1000000000
                · have HK : Hid (bndsTo n bs len = 2) := by
                    refine bndsTo_stop H0.out ?_ (by omega) len hlt
                    unfold bndErr
                    rw [if_pos hc1, if_neg (fun h => by rw [← HZE.out, hkz] at h; exact absurd h (by decide))]
                  clear hc1
                  go_wp2_with fail
                  refine (known_any x n w.heap.size _ HQ.out).mono ?_
                  rintro e w' ⟨rfl, rfl⟩
                  rw [hkx]
                  go_wp2_with fail
                  refine (known_any y n w.heap.size _ HQ.out).mono ?_
                  rintro e w' ⟨rfl, rfl⟩
                  rw [hky]
                  go_wp2_with (go_at_call 35; refine (within_any _ _ _ (by omega) (by omega)).mono ?_; rintro e w' ⟨rfl, rfl⟩)
                  go_ret
                  exact ⟨ret_int (by rw [HE.out, HK.out]), HB.out.alloc (by omega) _⟩
                · have HK : Hid (bndsTo n bs (k + 1) = 0) := by
                    show bndsTo n bs (k + 1) = 0
                    rw [bndsTo, if_pos H0.out]
                    unfold bndErr
                    rw [if_pos hc1, if_pos (by rw [← HZE.out]; exact hkz)]
                  clear hc1
                  go_wp2_with fail
                  refine (known_any x n w.heap.size _ HQ.out).mono ?_
                  rintro e w' ⟨rfl, rfl⟩
                  rw [hkx]
                  go_wp2_with fail
                  refine (known_any y n w.heap.size _ HQ.out).mono ?_
                  rintro e w' ⟨rfl, rfl⟩
                  rw [hky]
                  go_wp2_with (go_at_call 35; refine (within_any _ _ _ (by omega) (by omega)).mono ?_; rintro e w' ⟨rfl, rfl⟩)
                  go_roundw
                  case rel => exact ⟨k + 1, by omega, by go_num, HK, HX.out.alloc _, HB.out.alloc (by omega) _⟩
                  case measure => simp [intOf]; omega
          · obtain rfl : k = len := by omega
            go_wp2
            go_ret
            exact ⟨ret_int (by rw [HE.out, H0.out]), HB.out⟩
end Go.Proofs.Ytjomcobhinnikaa
