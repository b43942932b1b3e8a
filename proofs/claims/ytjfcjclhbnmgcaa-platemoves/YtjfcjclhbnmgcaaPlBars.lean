/- Contracts of plate.checkLoads, CheckBars. Every bound is a premise of the theorem that bears it. -/
import Derived.Test.YtjfcjclhbnmgcaaPlSmall
namespace Go.Proofs.Ytjfcjclhbnmgcaa
open Go.RowKit
set_option linter.unusedVariables false
set_option linter.unusedSimpArgs false

/-- A slice of numbers, a slice of pairs: where their cells lie. -/
def Row1 (w : World) (B : Nat) (A : Option Addr) (n : Nat) (y : Nat → Int) : Prop :=
  0 < n → ∃ b off, A = some ⟨b, off, none⟩ ∧ b < B ∧ ∀ i, i < n → w.cell? ⟨b, off + i, none⟩ = some (.int .i64 (y i))
def Row2 (w : World) (B : Nat) (A : Option Addr) (n : Nat) (z : Nat → Nat → Int) : Prop :=
  0 < n → ∃ b off, A = some ⟨b, off, none⟩ ∧ b < B ∧ ∀ i, i < n → w.cell? ⟨b, off + i * 2, none⟩ = some (.int .i64 (z i 0)) ∧ w.cell? ⟨b, off + i * 2 + 1, none⟩ = some (.int .i64 (z i 1))
theorem Row1.kept {w w' : World} {B n : Nat} {A : Option Addr} {y : Nat → Int} (h : Row1 w B A n y) (hb : Below B w w') : Row1 w' B A n y := fun h0 => by
  obtain ⟨b, off, e, hB, hc⟩ := h h0
  exact ⟨b, off, e, hB, fun i hi => (hb.cell (by exact hB)).trans (hc i hi)⟩
theorem Row2.kept {w w' : World} {B n : Nat} {A : Option Addr} {z : Nat → Nat → Int} (h : Row2 w B A n z) (hb : Below B w w') : Row2 w' B A n z := fun h0 => by
  obtain ⟨b, off, e, hB, hc⟩ := h h0
  exact ⟨b, off, e, hB, fun i hi => ⟨(hb.cell (by exact hB)).trans (hc i hi).1, (hb.cell (by exact hB)).trans (hc i hi).2⟩⟩
theorem Row1.up {w : World} {B B' n : Nat} {A : Option Addr} {y : Nat → Int} (h : Row1 w B A n y) (hb : B ≤ B') : Row1 w B' A n y := fun h0 => by
  obtain ⟨b, off, e, hB, hc⟩ := h h0
  exact ⟨b, off, e, Nat.lt_of_lt_of_le hB hb, hc⟩
theorem Row2.up {w : World} {B B' n : Nat} {A : Option Addr} {z : Nat → Nat → Int} (h : Row2 w B A n z) (hb : B ≤ B') : Row2 w B' A n z := fun h0 => by
  obtain ⟨b, off, e, hB, hc⟩ := h h0
  exact ⟨b, off, e, Nat.lt_of_lt_of_le hB hb, hc⟩

def loadOk (from' to' x v : Int) : Bool := decide (from' ≤ x ∧ x ≤ to') && inB v 1000000
def loadsTo (z : Nat → Nat → Int) (from' to' : Int) : Nat → Bool
  | 0 => true
  | k + 1 => loadsTo z from' to' k && loadOk from' to' (z k 0) (z k 1)
def loadsE (z : Nat → Nat → Int) (from' to' : Int) (n : Nat) : Int := if (100 : Int) < n then 8 else if loadsTo z from' to' n = true then 0 else 2
theorem loads_bad {z : Nat → Nat → Int} {from' to' : Int} {k : Nat} (h : loadOk from' to' (z k 0) (z k 1) = false) : ∀ n, k < n → loadsTo z from' to' n = false
  | 0, hk => by omega
  | n + 1, hk => by
    rw [loadsTo]
    rcases Nat.lt_or_ge k n with h1 | h1
    · rw [loads_bad h n h1]; rfl
    · obtain rfl : k = n := by omega
      rw [h, Bool.and_false]
set_option maxHeartbeats 2000000 in
set_option maxRecDepth 100000 in
theorem plLoads_any (A : Option Addr) (n cap : Nat) (z : Nat → Nat → Int) (from' to' : Int) (w : World) (hD : Row2 w w.heap.size A n z) :
    Calls Try.prog 76 #[.slice A n cap, .int .i64 from', .int .i64 to'] w fun e w' => e = .returned (.int .i64 (loadsE z from' to' n)) ∧ Below w.heap.size w w' := by
  have hmf : ∀ (fn : Fn) (first cap : Array Value) (w : World), (Instr.makeFunc fn first cap).run Try.prog w = .ok (.func fn first cap) w := fun _ _ _ _ => rfl
  by_cases h8 : (100 : Int) < n
  · have HE : Hid (loadsE z from' to' n = 8) := if_pos h8
    rw [HE.out]
    go_enter Try.func76, Try.ntmps76
    go_wp2
    go_ret
    exact ⟨rfl, Below.refl _ _⟩
  · have HE : Hid (loadsE z from' to' n = if loadsTo z from' to' n = true then 0 else 2) := if_neg h8
    have HD := hide hD
    clear hD
    have L0 := hide (Lv.start w)
    go_enter Try.func76, Try.ntmps76
    go_wp2_with (go_at_call 72; refine (plWithin_any _ _).mono ?_; rintro e w' ⟨rfl, rfl⟩)
    go_loopw [9, 16] (fun _ i wr => ∃ k : Nat, k ≤ n ∧ i = .int .i64 k ∧ Hid (loadsTo z from' to' k = true) ∧ Hid (Lv w wr [(w.heap.size, 3, [.int .i64 1000000])])) (fun _ i _ => n - (intOf i).toNat)
    case atStart => exact ⟨0, by omega, rfl, rfl, L0.out.put _ _⟩
    case round =>
      obtain ⟨k, hk, rfl, HK, L1⟩ := hrel
      clear L0
      have F1 := L1.out.at; simp only [AllAt, CellsAt, updL, List.map, Nat.zero_add, Nat.reduceAdd, and_true, World.size_alloc, World.heap_drewN, heap_drew, size_set, Nat.add_eq_left, Nat.left_eq_add, Nat.add_right_cancel_iff, ne_up2, ne_dn2, ne_up3, ne_dn3, ne_up4, ne_dn4, Nat.reduceEqDiff, Nat.one_ne_zero, Nat.succ_ne_zero, Nat.zero_ne_one, reduceIte, List.set_cons_zero, List.set_cons_succ] at F1
      by_cases hlt : k < n
      · obtain ⟨b, off, rfl, hb, hc⟩ := HD.out (by omega)
        have q1 := (L1.out.below.cell (by exact hb)).trans (hc k hlt).1
        have q2 := (L1.out.below.cell (by exact hb)).trans (hc k hlt).2
        clear hc
        have hbr : b < wr.heap.size := by have := L1.out.size; omega
        have HS : Hid (loadsTo z from' to' (k + 1) = (loadsTo z from' to' k && loadOk from' to' (z k 0) (z k 1))) := rfl
        have HBAD : Hid (loadOk from' to' (z k 0) (z k 1) = false → loadsTo z from' to' n = false) := hide (fun h => loads_bad h n hlt)
        obtain ⟨x, hx⟩ : ∃ x, x = z k 0 := ⟨_, rfl⟩
        obtain ⟨v, hv⟩ : ∃ x, x = z k 1 := ⟨_, rfl⟩
        rw [← hx] at q1 HS HBAD
        rw [← hv] at q2 HS HBAD
        clear hx hv
        have hlt' : (k : Int) < (n : Int) := by omega
        have HB1 := hide (L1.out.blk (w.heap.size, 3, [.int .i64 1000000]) (by simp))
        have HBAD2 : Hid (loadOk from' to' x v = false → loadsE z from' to' n = 2) := hide (fun h => HE.out.trans (if_neg (by rw [HBAD.out h]; simp)))
        by_cases g1 : x < from'
        · have HR := hide (HBAD2.out (by unfold loadOk; rw [decide_eq_false (by omega)]; rfl))
          go_wp2
          go_ret
          exact ⟨ret_int HR.out.symm, (L1.out.put _ _).below⟩
        · by_cases g2 : to' < x
          · have HR := hide (HBAD2.out (by unfold loadOk; rw [decide_eq_false (by omega)]; rfl))
            go_wp2
            go_ret
            exact ⟨ret_int HR.out.symm, (L1.out.put _ _).below⟩
          · by_cases g3 : inB v 1000000 = true
            · have HG : Hid (loadsTo z from' to' (k + 1) = true) := hide (by rw [HS.out, HK.out]; unfold loadOk; rw [decide_eq_true (by omega), g3]; rfl)
              have HV := hide g3
              clear g3
              go_wp2_with fail
              refine (plWithin1_any v 1000000 w.heap.size _ (by omega) (by omega) ((HB1.out.alloc _).cell 0)).mono ?_
              rintro e w' ⟨rfl, rfl⟩
              rw [HV.out]
              go_wp2
              go_roundw
              case rel => exact ⟨k + 1, by omega, by go_num, HG, (L1.out.put _ _).drop⟩
              case measure => simp [intOf]; omega
            · have g3' : inB v 1000000 = false := by simpa using g3
              have HR := hide (HBAD2.out (by unfold loadOk; rw [g3', Bool.and_false]))
              have HV := hide g3'
              clear g3 g3'
              go_wp2_with fail
              refine (plWithin1_any v 1000000 w.heap.size _ (by omega) (by omega) ((HB1.out.alloc _).cell 0)).mono ?_
              rintro e w' ⟨rfl, rfl⟩
              rw [HV.out]
              go_wp2
              go_ret
              exact ⟨ret_int HR.out.symm, (L1.out.put _ _).below⟩
      · obtain rfl : n = k := by omega
        have HR := hide (HE.out.trans (if_pos HK.out))
        go_wp2
        go_ret
        exact ⟨ret_int HR.out.symm, L1.out.below⟩

/-- The error of the k-th bar. -/
def barAt (y : Nat → Int) (k : Nat) : Int := if inB (y k) 20000 = true then (if 0 < k ∧ y k ≤ y (k - 1) then 9 else 0) else 2
def barsTo (y : Nat → Int) : Nat → Int
  | 0 => 0
  | k + 1 => if barsTo y k = 0 then barAt y k else barsTo y k
def barsE (y : Nat → Int) (n : Nat) : Int := if (n : Int) < 2 ∨ (20 : Int) < n then 10 else barsTo y n
theorem bars_bad {y : Nat → Int} {k : Nat} {E : Int} (h0 : barsTo y k = 0) (h : barAt y k = E) (hE : E ≠ 0) : ∀ n, k < n → barsTo y n = E
  | 0, hk => by omega
  | n + 1, hk => by
    rw [barsTo]
    rcases Nat.lt_or_ge k n with h1 | h1
    · rw [bars_bad h0 h hE n h1, if_neg hE]
    · obtain rfl : k = n := by omega
      rw [h0, if_pos rfl, h]
set_option maxHeartbeats 2000000 in
set_option maxRecDepth 100000 in
theorem plBars_any (A : Option Addr) (n cap : Nat) (y : Nat → Int) (w : World) (hD : Row1 w w.heap.size A n y) :
    Calls Try.prog 39 #[.slice A n cap] w fun e w' => e = .returned (.int .i64 (barsE y n)) ∧ Below w.heap.size w w' := by
  have hmf : ∀ (fn : Fn) (first cap : Array Value) (w : World), (Instr.makeFunc fn first cap).run Try.prog w = .ok (.func fn first cap) w := fun _ _ _ _ => rfl
  by_cases h2 : (n : Int) < 2
  · have HE : Hid (barsE y n = 10) := if_pos (Or.inl h2)
    rw [HE.out]
    go_enter Try.func39, Try.ntmps39
    go_wp2
    go_ret
    exact ⟨rfl, Below.refl _ _⟩
  · by_cases h20 : (20 : Int) < n
    · have HE : Hid (barsE y n = 10) := if_pos (Or.inr h20)
      rw [HE.out]
      go_enter Try.func39, Try.ntmps39
      go_wp2
      go_ret
      exact ⟨rfl, Below.refl _ _⟩
    · have HE : Hid (barsE y n = barsTo y n) := if_neg (by omega)
      obtain ⟨b, off, rfl, hb, hc⟩ := hD (by omega)
      have HC := hide hc
      clear hD hc
      have L0 := hide (Lv.start w)
      go_enter Try.func39, Try.ntmps39
      go_wp2_with (go_at_call 72; refine (plWithin_any _ _).mono ?_; rintro e w' ⟨rfl, rfl⟩)
      have L1 := hide (L0.out.put [.int .i64 20000] 3)
      have HB1 := hide (L1.out.blk (w.heap.size, 3, [.int .i64 20000]) (by simp))
      have hc0 : Hid (∀ i, i < n → (w.alloc (.cells #[.int .i64 20000] 3)).cell? ⟨b, off + i, none⟩ = some (.int .i64 (y i))) := hide (fun i hi => by rw [World.cell?_alloc_past _ _ _ hb]; exact HC.out i hi)
      go_loop [4, 5, 17] (fun _ _ i => ∃ k : Nat, k ≤ n ∧ i = .int .i64 k ∧ Hid (barsTo y k = 0)) (fun _ _ i => n - (intOf i).toNat)
      case atStart => exact ⟨0, by omega, rfl, rfl⟩
      case round =>
        obtain ⟨k, hk, rfl, HK⟩ := hrel
        by_cases hlt : k < n
        · have q1 := hc0.out k hlt
          have hbr : b < (w.alloc (.cells #[.int .i64 20000] 3)).heap.size := by simp; omega
          have hlt' : (k : Int) < (n : Int) := by omega
          have HS : Hid (barsTo y (k + 1) = barAt y k) := hide (by rw [barsTo, if_pos HK.out])
          have HBAD : Hid (∀ E, barAt y k = E → E ≠ 0 → barsE y n = E) := hide (fun E h hE => HE.out.trans (bars_bad HK.out h hE n hlt))
          obtain ⟨x, hx⟩ : ∃ x, x = y k := ⟨_, rfl⟩
          rw [← hx] at q1
          have HX := hide hx
          clear hx
          by_cases g1 : inB x 20000 = true
          · have HV := hide g1
            by_cases g2 : 0 < k
            · have q2 := hc0.out (k - 1) (by omega)
              obtain ⟨v, hv⟩ : ∃ x, x = y (k - 1) := ⟨_, rfl⟩
              rw [← hv] at q2
              have HV2 := hide hv
              clear hv g1
              have e1 : ((k : Int) - 1) = ((k - 1 : Nat) : Int) := by omega
              have g2' : (0 : Int) < (k : Int) := by omega
              by_cases g3 : x ≤ v
              · have HR := hide (HBAD.out 9 (by unfold barAt; rw [← HX.out, ← HV2.out, HV.out, if_pos rfl, if_pos ⟨g2, g3⟩]) (by omega))
                go_wp2_with (go_at_call 107; refine (plWithin1_any x 20000 w.heap.size _ (by omega) (by omega) (HB1.out.cell 0)).mono ?_; rintro e w' ⟨rfl, rfl⟩; rw [HV.out])
                go_ret
                exact ⟨ret_int HR.out.symm, L1.out.below⟩
              · have HG : Hid (barsTo y (k + 1) = 0) := hide (by rw [HS.out]; unfold barAt; rw [← HX.out, ← HV2.out, HV.out, if_pos rfl, if_neg (fun h => g3 h.2)])
                go_wp2_with (go_at_call 107; refine (plWithin1_any x 20000 w.heap.size _ (by omega) (by omega) (HB1.out.cell 0)).mono ?_; rintro e w' ⟨rfl, rfl⟩; rw [HV.out])
                go_round
                case rel => exact ⟨k + 1, by omega, by go_num, HG⟩
                case measure => simp [intOf]; omega
            · have g2' : ¬ (0 : Int) < (k : Int) := by omega
              have HG : Hid (barsTo y (k + 1) = 0) := hide (by rw [HS.out]; unfold barAt; rw [← HX.out, HV.out, if_pos rfl, if_neg (fun h => g2 h.1)])
              clear g1
              go_wp2_with (go_at_call 107; refine (plWithin1_any x 20000 w.heap.size _ (by omega) (by omega) (HB1.out.cell 0)).mono ?_; rintro e w' ⟨rfl, rfl⟩; rw [HV.out])
              go_round
              case rel => exact ⟨k + 1, by omega, by go_num, HG⟩
              case measure => simp [intOf]; omega
          · have g1' : inB x 20000 = false := by simpa using g1
            have HV := hide g1'
            have HR := hide (HBAD.out 2 (by unfold barAt; rw [← HX.out, HV.out]; rfl) (by omega))
            clear g1 g1'
            go_wp2_with (go_at_call 107; refine (plWithin1_any x 20000 w.heap.size _ (by omega) (by omega) (HB1.out.cell 0)).mono ?_; rintro e w' ⟨rfl, rfl⟩; rw [HV.out])
            go_ret
            exact ⟨ret_int HR.out.symm, L1.out.below⟩
        · obtain rfl : n = k := by omega
          have HR := hide (HE.out.trans HK.out)
          go_wp2
          go_ret
          exact ⟨ret_int HR.out.symm, (L0.out.put _ _).below⟩
end Go.Proofs.Ytjfcjclhbnmgcaa
