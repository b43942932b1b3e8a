/- Contracts of package plate's vectors: do all coordinates fulfil 'at most so much in size'; the errors of places and bearings. -/
import Derived.Test.YtjfcjclhbnmgcaaPlSmall
import Derived.Deep.RegionHeld3
namespace Go.Proofs.Ytjfcjclhbnmgcaa
open Go.RowKit
set_option linter.unusedVariables false
set_option linter.unusedSimpArgs false

def inV (x y z most : Int) : Bool := inB x most && (inB y most && inB z most)
/-- The k-th of three. -/
def nth3 (x y z : Int) : Nat → Int
  | 0 => x
  | 1 => y
  | _ => z
theorem inV_no {x y z most : Int} (h : inV x y z most = false) : ¬ ∀ j, j < 3 → inB (nth3 x y z j) most = true := fun hh => by
  have h0 := hh 0 (by omega)
  have h1 := hh 1 (by omega)
  have h2 := hh 2 (by omega)
  unfold nth3 at h0 h1 h2
  unfold inV at h
  simp only at h0 h1 h2
  rw [h0, h1, h2] at h
  simp at h
theorem inV_yes {x y z most : Int} (h : inV x y z most = true) : ∀ j, j < 3 → inB (nth3 x y z j) most = true := fun j hj => by
  unfold inV at h
  simp only [Bool.and_eq_true] at h
  obtain ⟨h0, h1, h2⟩ := h
  match j, hj with
  | 0, _ => exact h0
  | 1, _ => exact h1
  | 2, _ => exact h2
/-- The literal that says 'wrong': it holds the condition in a block. -/
theorem plWrong_any (n most : Int) (g h : Nat) (w : World) (h0 : 0 ≤ most) (h1 : most ≤ 1000000000000000000) (hc : w.cell? ⟨g, 0, none⟩ = some (.int .i64 most))
    (hf : w.cell? ⟨h, 0, none⟩ = some (.func (.func 107) #[] #[.pointer (some ⟨g, 0, none⟩)])) :
    Calls Try.prog 105 #[.int .i64 n, .pointer (some ⟨h, 0, none⟩)] w fun e w' => e = .returned (.bool (!inB n most)) ∧ w = w' := by
  go_enter Try.func105, Try.ntmps105
  go_wp2_with fail
  refine (plWithin1_any n most g _ h0 h1 hc).mono ?_
  rintro e w' ⟨rfl, rfl⟩
  go_wp2
  go_ret
  exact ⟨rfl, rfl⟩
/-- Where the first wrong one of three stands. -/
def WrongAt (x y z most : Int) (w : World) (e : Ending) (w' : World) : Prop := ∃ r : Int, e = .returned (.int .i64 r) ∧ (-1 ≤ r ∧ r ≤ 3) ∧ (0 ≤ r ↔ inV x y z most = false) ∧ w = w'
set_option maxHeartbeats 1000000 in
theorem plIndex_any (x y z most : Int) (a g h : Nat) (w : World) (h0 : 0 ≤ most) (h1 : most ≤ 1000000000000000000) (hc : w.cell? ⟨g, 0, none⟩ = some (.int .i64 most))
    (hf : w.cell? ⟨h, 0, none⟩ = some (.func (.func 107) #[] #[.pointer (some ⟨g, 0, none⟩)]))
    (hx : w.cell? ⟨a, 0, none⟩ = some (.int .i64 x)) (hy : w.cell? ⟨a, 1, none⟩ = some (.int .i64 y)) (hz : w.cell? ⟨a, 2, none⟩ = some (.int .i64 z)) :
    Calls Try.prog 118 #[.slice (some ⟨a, 0, none⟩) 3 3, .func (.func 105) #[] #[.pointer (some ⟨h, 0, none⟩)]] w (WrongAt x y z most w) := by
  have HC := hide hc
  have HF := hide hf
  have HA : Hid (∀ k, k < 3 → w.cell? ⟨a, k, none⟩ = some (.int .i64 (nth3 x y z k))) := hide (fun k hk => by
    match k, hk with
    | 0, _ => exact hx
    | 1, _ => exact hy
    | 2, _ => exact hz)
  clear hc hf hx hy hz
  go_enter Try.func118, Try.ntmps118
  go_wp2
  go_loop [5, 8] (fun _ i => ∃ k : Nat, k ≤ 3 ∧ i = .int .i64 k ∧ Hid (∀ j, j < k → inB (nth3 x y z j) most = true)) (fun _ i => 3 - (intOf i).toNat)
  case atStart => exact ⟨0, by omega, rfl, hide (fun j hj => by omega)⟩
  case round =>
    obtain ⟨k, hk, rfl, HI⟩ := hrel
    by_cases hlt : k < 3
    · have q := HA.out k hlt
      obtain ⟨v, hv⟩ : ∃ v, v = nth3 x y z k := ⟨_, rfl⟩
      rw [← hv] at q
      have HV := hide hv
      clear hv
      by_cases hb : inB v most = true
      · have HI2 : Hid (∀ j, j < k + 1 → inB (nth3 x y z j) most = true) := hide (fun j hj => by
          rcases Nat.lt_or_ge j k with h | h
          · exact HI.out j h
          · obtain rfl : k = j := by omega
            rw [← HV.out]; exact hb)
        go_wp2_with (go_at_call 105; refine (plWrong_any v most g h _ h0 h1 HC.out HF.out).mono ?_; rintro e w' ⟨rfl, rfl⟩; rw [hb])
        go_round
        case rel => exact ⟨k + 1, by omega, by go_num, HI2⟩
        case measure => simp [intOf]; omega
      · have hb' : inB v most = false := by simpa using hb
        clear hb
        go_wp2_with (go_at_call 105; refine (plWrong_any v most g h _ h0 h1 HC.out HF.out).mono ?_; rintro e w' ⟨rfl, rfl⟩; rw [hb'])
        go_ret
        refine ⟨k, rfl, by omega, ⟨fun _ => ?_, fun _ => by omega⟩, rfl⟩
        rcases hv : inV x y z most with _ | _
        · rfl
        · have := inV_yes hv k hlt
          rw [← HV.out, hb'] at this
          cases this
    · obtain rfl : k = 3 := by omega
      go_wp2
      go_ret
      refine ⟨-1, rfl, by omega, ⟨fun h => by omega, fun h => absurd HI.out (inV_no h)⟩, rfl⟩
theorem plContains_any (x y z most : Int) (a g h : Nat) (w : World) (h0 : 0 ≤ most) (h1 : most ≤ 1000000000000000000) (hc : w.cell? ⟨g, 0, none⟩ = some (.int .i64 most))
    (hf : w.cell? ⟨h, 0, none⟩ = some (.func (.func 107) #[] #[.pointer (some ⟨g, 0, none⟩)]))
    (hx : w.cell? ⟨a, 0, none⟩ = some (.int .i64 x)) (hy : w.cell? ⟨a, 1, none⟩ = some (.int .i64 y)) (hz : w.cell? ⟨a, 2, none⟩ = some (.int .i64 z)) :
    Calls Try.prog 106 #[.slice (some ⟨a, 0, none⟩) 3 3, .func (.func 105) #[] #[.pointer (some ⟨h, 0, none⟩)]] w fun e w' => e = .returned (.bool (!inV x y z most)) ∧ w = w' := by
  have C := hide (plIndex_any x y z most a g h w h0 h1 hc hf hx hy hz)
  clear hc hf hx hy hz
  go_enter Try.func106, Try.ntmps106
  go_wp2_with fail
  refine C.out.mono ?_
  rintro e w' ⟨r, rfl, hr, hiff, rfl⟩
  by_cases hv : inV x y z most = false
  · have h2 := hiff.2 hv
    clear hiff
    go_wp2
    go_ret
    exact ⟨ret_bool (by rw [hv]; rfl), rfl⟩
  · have h2 : ¬ 0 ≤ r := fun h => hv (hiff.1 h)
    clear hiff
    have hv' : inV x y z most = true := by simpa using hv
    clear hv
    go_wp2
    go_ret
    exact ⟨ret_bool (by rw [hv']; simpa using h2), rfl⟩
set_option maxHeartbeats 1000000 in
theorem plAll_any (x y z most : Int) (g : Nat) (w : World) (h0 : 0 ≤ most) (h1 : most ≤ 1000000000000000000) (hB : Blk w g 3 #[.int .i64 most]) :
    Calls Try.prog 71 #[.agg #[.int .i64 x, .int .i64 y, .int .i64 z], .func (.func 107) #[] #[.pointer (some ⟨g, 0, none⟩)]] w fun e w' => e = .returned (.bool (inV x y z most)) ∧ Below w.heap.size w w' := by
  have hmf : ∀ (fn : Fn) (first cap : Array Value) (w : World), (Instr.makeFunc fn first cap).run Try.prog w = .ok (.func fn first cap) w := fun _ _ _ _ => rfl
  have hg := hB.lt
  have hc : w.cell? ⟨g, 0, none⟩ = some (.int .i64 most) := hB.cell 0
  clear hB
  have hg1 : ¬ g = w.heap.size := by omega
  have hg2 : ¬ g = w.heap.size + 1 := by omega
  go_enter Try.func71, Try.ntmps71
  go_wp2_with fail
  refine (plContains_any x y z most w.heap.size g (w.heap.size + 1) _ h0 h1 ?_ ?_ ?_ ?_ ?_).mono ?_
  · rw [World.cell?_alloc_past _ _ _ (by simp; omega), World.cell?_alloc_past _ _ _ hg]; exact hc
  · rw [World.cell?_alloc_at _ _ _ _ (by simp)]; rfl
  · rw [World.cell?_alloc_past _ _ _ (by simp), World.cell?_alloc_at _ _ _ _ (by simp)]; rfl
  · rw [World.cell?_alloc_past _ _ _ (by simp), World.cell?_alloc_at _ _ _ _ (by simp)]; rfl
  · rw [World.cell?_alloc_past _ _ _ (by simp), World.cell?_alloc_at _ _ _ _ (by simp)]; rfl
  rintro e w' ⟨rfl, rfl⟩
  go_wp2
  go_ret
  exact ⟨ret_bool (by simp), ((Below.refl _ _).alloc (Nat.le_refl _) _).alloc (by simp) _⟩
end Go.Proofs.Ytjfcjclhbnmgcaa
