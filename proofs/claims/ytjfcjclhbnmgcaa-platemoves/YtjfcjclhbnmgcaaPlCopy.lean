/- Contracts of agraffebase.CopyInts and of the chapter's copies of loads: a new row with the same cells. Every bound is a premise of the theorem that bears it. -/
import Derived.Test.YtjfcjclhbnmgcaaPlDist
import Derived.OwnWalk
import Derived.Maps.AppendAt
import Derived.Laws.AppendOwnNone
namespace Go.Proofs.Ytjfcjclhbnmgcaa
open Go.RowKit
set_option linter.unusedVariables false
set_option linter.unusedSimpArgs false

theorem add_plain3 {b off : Nat} (n : Nat) : (⟨b, off, none⟩ : Addr).add n = ⟨b, off + n, none⟩ := by
  unfold Addr.add
  by_cases h : n = 0
  · subst h; simp
  · rw [if_neg h]
theorem slab_len (n : Nat) (f : Nat → Int) : (slab n f).length = n := by simp [slab]
theorem slice_own' {w : World} {base n size : Nat} {e : TypeId} {v : Value} {xs : List Value} (h : w.ownsRow base e size v n xs) (hn : 0 < n) : ∃ g cap, v = .slice (some ⟨g, 0, none⟩) n cap := by
  rcases h.2 with ⟨_, h⟩ | ⟨g, cap, cur, h, _⟩
  · omega
  · exact ⟨g, cap, h⟩
def CopyRow1 (w : World) (n : Nat) (y : Nat → Int) (e : Ending) (w' : World) : Prop := ∃ g cap, e = .returned (.slice (some ⟨g, 0, none⟩) n cap) ∧ Row1 w' w'.heap.size (some ⟨g, 0, none⟩) n y ∧ Below w.heap.size w w'
def CopyRow2 (w : World) (n : Nat) (z : Nat → Nat → Int) (e : Ending) (w' : World) : Prop := ∃ g cap, e = .returned (.slice (some ⟨g, 0, none⟩) n cap) ∧ Row2 w' w'.heap.size (some ⟨g, 0, none⟩) n z ∧ Below w.heap.size w w'
theorem info_int3 : (Try.prog.info? 3).map (fun i => (i.zero, i.size, i.bytes)) = some (some (.int .i64 0), 1, 8) := by kernel_rfl
theorem info_pair : (Try.prog.info? 66).map (fun i => (i.zero, i.size, i.bytes)) = some (some (.agg #[.int .i64 0, .int .i64 0]), 2, 16) := by kernel_rfl
theorem slice_at {w : World} {base n size : Nat} {e : TypeId} {v : Value} {xs : List Value} (h : w.ownsRow base e size v n xs) (hv : v.ownBlock ≠ none) : ∃ g cap, v = .slice (some ⟨g, 0, none⟩) n cap := by
  rcases h.2 with ⟨h1, _⟩ | ⟨g, cap, cur, h, _⟩
  · exact absurd (by rw [h1]; rfl) hv
  · exact ⟨g, cap, h⟩
set_option maxHeartbeats 1000000 in
set_option maxRecDepth 100000 in
theorem copy1_any (A : Option Addr) (n cap : Nat) (y : Nat → Int) (w : World) (hn : n ≤ 100000) (hnil : A = none → n = 0 ∧ cap = 0) (hD : Row1 w w.heap.size A n y) :
    Calls Try.prog 36 #[.slice A n cap] w (CopyRow1 w n y) := by
  obtain ⟨i0, hi, hz0, hz1, hz2⟩ := info_parts info_int3
  have ho := w.ownsRow_lit (e := 3) (size := 1) (base := w.heap.size) #[] 0 (Nat.le_refl _) (by unfold maxLen; omega) (by simp)
  have HO := hide ho
  clear ho
  rcases A with _ | a
  · obtain ⟨rfl, rfl⟩ := hnil rfl
    clear hnil hD
    go_enter Try.func36, Try.ntmps36
    go_wp2_with (at_builtin; refine wpList_append_own_none rfl (.tmp 3) (.tmp 4) 50 rfl w.heap.size 3 i0 1 Try.underlying50 hi (.slice (some ⟨w.heap.size, 0, none⟩) 0 0) 0 [] rfl HO.out rfl ?_)
    go_ret
    exact ⟨w.heap.size, 0, rfl, fun h => by omega, (Below.refl _ _).alloc (Nat.le_refl _) _⟩
  · have hnews : ∀ j u, (slab n y)[j]? = some u → (w.alloc (.cells #[] 3)).cell? (a.add j) = some u := by
      intro j u h
      have hj : j < n := by
        rcases Nat.lt_or_ge j n with h1 | h1
        · exact h1
        · rw [List.getElem?_eq_none (by rw [slab_len]; exact h1)] at h; cases h
      obtain ⟨b, off, e, hb, hcc⟩ := hD (by omega)
      cases e
      rw [slab_get hj] at h
      cases h
      rw [add_plain3, World.cell?_alloc_past _ _ _ hb]
      exact hcc j hj
    have HW := hide hnews
    clear hnews hD hnil
    go_enter Try.func36, Try.ntmps36
    go_wp2_with (at_builtin; refine wpList_append_own_at _ rfl (.tmp 3) (.tmp 4) 50 rfl w.heap.size 3 i0 (.int .i64 0) 1 8 Try.underlying50 hi hz0 hz1 hz2 rfl (by decide) (.slice (some ⟨w.heap.size, 0, none⟩) 0 0) 0 [] rfl HO.out a n cap (slab n y) rfl (by rw [slab_len, Nat.mul_one]) HW.out (by intro u hu; unfold slab at hu; obtain ⟨z, _, rfl⟩ := List.mem_map.1 hu; rfl) (by unfold maxLen; omega) (by omega) (by simp) ?_)
    intro v' w1 hown' hgrow _ hat
    have hown2 : w1.ownsRow w.heap.size 3 1 v' n (slab n y) := by simpa using hown'
    obtain ⟨g, cap2, rfl⟩ := slice_at hown2 (by rcases hat with h | h <;> rw [h] <;> simp [Value.ownBlock])
    have HO2 := hide hown2
    have HW2 : Hid (Below w.heap.size w w1) := ((Below.refl _ _).alloc (Nat.le_refl _) _).grown hgrow (by simp) (fun k hk => by simp [Value.ownBlock] at hk; omega)
    clear hown' hown2 hgrow hat
    go_wp2
    go_ret
    refine ⟨g, cap2, rfl, fun _ => ⟨g, 0, rfl, (World.ownsRow.lt HO2.out g rfl).2, fun i hi => ?_⟩, HW2.out⟩
    rw [Nat.zero_add, HO2.out.cellAt i (by rw [Nat.mul_one]; exact hi)]
    exact slab_get hi
/-- Pairs as cells. -/
def pairF (z : Nat → Nat → Int) (j : Nat) : Int := z (j / 2) (j % 2)
set_option maxHeartbeats 1000000 in
set_option maxRecDepth 100000 in
theorem copy2_any (A : Option Addr) (n cap : Nat) (z : Nat → Nat → Int) (w : World) (hn : n ≤ 100000) (hnil : A = none → n = 0 ∧ cap = 0) (hD : Row2 w w.heap.size A n z) :
    Calls Try.prog 37 #[.slice A n cap] w (CopyRow2 w n z) := by
  obtain ⟨i0, hi, hz0, hz1, hz2⟩ := info_parts info_pair
  have ho := w.ownsRow_lit (e := 66) (size := 2) (base := w.heap.size) #[] 0 (Nat.le_refl _) (by unfold maxLen; omega) (by simp)
  have HO := hide ho
  clear ho
  rcases A with _ | a
  · obtain ⟨rfl, rfl⟩ := hnil rfl
    clear hnil hD
    go_enter Try.func37, Try.ntmps37
    go_wp2_with (at_builtin; refine wpList_append_own_none rfl (.tmp 3) (.tmp 4) 51 rfl w.heap.size 66 i0 2 Try.underlying51 hi (.slice (some ⟨w.heap.size, 0, none⟩) 0 0) 0 [] rfl HO.out rfl ?_)
    go_ret
    exact ⟨w.heap.size, 0, rfl, fun h => by omega, (Below.refl _ _).alloc (Nat.le_refl _) _⟩
  · have hnews : ∀ j u, (slab (n * 2) (pairF z))[j]? = some u → (w.alloc (.cells #[] 66)).cell? (a.add j) = some u := by
      intro j u h
      have hj : j < n * 2 := by
        rcases Nat.lt_or_ge j (n * 2) with h1 | h1
        · exact h1
        · rw [List.getElem?_eq_none (by rw [slab_len]; exact h1)] at h; cases h
      obtain ⟨b, off, e, hb, hcc⟩ := hD (by omega)
      cases e
      rw [slab_get hj] at h
      cases h
      rw [add_plain3, World.cell?_alloc_past _ _ _ hb]
      obtain ⟨c1, c2⟩ := hcc (j / 2) (by omega)
      unfold pairF
      rcases Nat.mod_two_eq_zero_or_one j with h | h
      · rw [h, show off + j = off + j / 2 * 2 by omega]; exact c1
      · rw [h, show off + j = off + j / 2 * 2 + 1 by omega]; exact c2
    have HW := hide hnews
    clear hnews hD hnil
    go_enter Try.func37, Try.ntmps37
    go_wp2_with (at_builtin; refine wpList_append_own_at _ rfl (.tmp 3) (.tmp 4) 51 rfl w.heap.size 66 i0 (.agg #[.int .i64 0, .int .i64 0]) 2 16 Try.underlying51 hi hz0 hz1 hz2 rfl (by decide) (.slice (some ⟨w.heap.size, 0, none⟩) 0 0) 0 [] rfl HO.out a n cap (slab (n * 2) (pairF z)) rfl (by rw [slab_len]) HW.out (by intro u hu; unfold slab at hu; obtain ⟨z, _, rfl⟩ := List.mem_map.1 hu; rfl) (by unfold maxLen; omega) (by omega) (by simp) ?_)
    intro v' w1 hown' hgrow _ hat
    have hown2 : w1.ownsRow w.heap.size 66 2 v' n (slab (n * 2) (pairF z)) := by simpa using hown'
    obtain ⟨g, cap2, rfl⟩ := slice_at hown2 (by rcases hat with h | h <;> rw [h] <;> simp [Value.ownBlock])
    have HO2 := hide hown2
    have HW2 : Hid (Below w.heap.size w w1) := ((Below.refl _ _).alloc (Nat.le_refl _) _).grown hgrow (by simp) (fun k hk => by simp [Value.ownBlock] at hk; omega)
    clear hown' hown2 hgrow hat
    go_wp2
    go_ret
    refine ⟨g, cap2, rfl, fun _ => ⟨g, 0, rfl, (World.ownsRow.lt HO2.out g rfl).2, fun i hi => ⟨?_, ?_⟩⟩, HW2.out⟩
    · rw [Nat.zero_add, HO2.out.cellAt (i * 2) (by omega), slab_get (by omega)]
      unfold pairF
      rw [show i * 2 / 2 = i by omega, show i * 2 % 2 = 0 by omega]
    · rw [Nat.zero_add, HO2.out.cellAt (i * 2 + 1) (by omega), slab_get (by omega)]
      unfold pairF
      rw [show (i * 2 + 1) / 2 = i by omega, show (i * 2 + 1) % 2 = 1 by omega]
end Go.Proofs.Ytjfcjclhbnmgcaa
