/- Contracts of the chapter's copies and comparisons of forces. Every bound is a premise of the theorem that bears it. -/
import Derived.Test.YtjfcjclhbnmgcaaPlCopy
import Derived.Test.YtjfcjclhbnmgcaaPlEq
import Derived.Test.YtjfcjclhbnmgcaaFlatRows
import Derived.BigQuiet
import Derived.Deep.QuietTactic
namespace Go.Proofs.Ytjfcjclhbnmgcaa
open Go.RowKit
set_option linter.unusedVariables false
set_option linter.unusedSimpArgs false

theorem info_pulled : (Try.prog.info? 40).map (fun i => (i.zero, i.size, i.bytes)) = some (some (.agg #[.int .i64 0, .int .i64 0, .int .i64 0, .int .i64 0, .int .i64 0, .int .i64 0]), 6, 48) := by kernel_rfl
/-- Rows of m numbers, one behind the other, as cells. -/
def flatF (m : Nat) (z : Nat → Nat → Int) (j : Nat) : Int := z (j / m) (j % m)
theorem flatF_at {m i j : Nat} (z : Nat → Nat → Int) (hj : j < m) : flatF m z (i * m + j) = z i j := by
  unfold flatF
  have h1 : (i * m + j) / m = i := by rw [Nat.mul_comm, Nat.mul_add_div (by omega), Nat.div_eq_of_lt hj]; omega
  have h2 : (i * m + j) % m = j := by rw [Nat.mul_comm, Nat.mul_add_mod, Nat.mod_eq_of_lt hj]
  rw [h1, h2]
/-- A row of its own, with the same cells. -/
def CopyRowM (m : Nat) (w : World) (n : Nat) (z : Nat → Nat → Int) (e : Ending) (w' : World) : Prop := ∃ g cap, e = .returned (.slice (some ⟨g, 0, none⟩) n cap) ∧ RowM m w' w'.heap.size (some ⟨g, 0, none⟩) n z ∧ Below w.heap.size w w'
/-- What lies in a row that the call owns. -/
theorem own_row {w : World} {base g cap n m : Nat} {t : TypeId} {z : Nat → Nat → Int} (h : w.ownsRow base t m (.slice (some ⟨g, 0, none⟩) n cap) n (slab (n * m) (flatF m z))) : RowM m w w.heap.size (some ⟨g, 0, none⟩) n z := fun _ => ⟨g, 0, rfl, (World.ownsRow.lt h g rfl).2, fun i hi j hj => by
  have hlt : i * m + j < n * m := by
    have : (i + 1) * m ≤ n * m := Nat.mul_le_mul_right m (by omega)
    rw [Nat.add_mul] at this
    omega
  rw [Nat.zero_add, h.cellAt (i * m + j) hlt, slab_get hlt, flatF_at z hj]⟩
theorem row_news {w : World} {b off n m : Nat} {z : Nat → Nat → Int} {o : Obj} (hD : RowM m w w.heap.size (some ⟨b, off, none⟩) n z) (hm : 0 < m) : ∀ j u, (slab (n * m) (flatF m z))[j]? = some u → (w.alloc o).cell? ((⟨b, off, none⟩ : Addr).add j) = some u := by
  intro j u h
  have hj : j < n * m := by
    rcases Nat.lt_or_ge j (n * m) with h1 | h1
    · exact h1
    · rw [List.getElem?_eq_none (by rw [slab_len]; exact h1)] at h; cases h
  have hn : 0 < n := by
    rcases Nat.eq_zero_or_pos n with h0 | h0
    · subst h0; omega
    · exact h0
  obtain ⟨b', off', e, hb, hcc⟩ := hD hn
  cases e
  rw [slab_get hj] at h
  cases h
  rw [add_plain3, World.cell?_alloc_past _ _ _ hb]
  have hq : j / m < n := by rw [Nat.div_lt_iff_lt_mul hm]; exact hj
  have := hcc (j / m) hq (j % m) (Nat.mod_lt _ hm)
  unfold flatF
  rw [Nat.add_assoc, Nat.mul_comm, Nat.div_add_mod] at this
  exact this
set_option maxHeartbeats 4000000 in
set_option maxRecDepth 100000 in
theorem copied_any (A : Option Addr) (n cap : Nat) (z : Nat → Nat → Int) (w : World) (hn : n ≤ 100000) (hnil : A = none → n = 0 ∧ cap = 0) (hD : RowM 6 w w.heap.size A n z) :
    Calls Try.prog 18 #[.slice A n cap] w (CopyRowM 6 w n z) := by
  obtain ⟨i0, hi, hz0, hz1, hz2⟩ := info_parts info_pulled
  have ho := w.ownsRow_lit (e := 40) (size := 6) (base := w.heap.size) #[] 0 (Nat.le_refl _) (by unfold maxLen; omega) (by simp)
  have HO := hide ho
  clear ho
  rcases A with _ | a
  · obtain ⟨rfl, rfl⟩ := hnil rfl
    clear hnil hD
    go_enter Try.func18, Try.ntmps18
    go_wp2_with (at_builtin; refine wpList_append_own_none rfl (.tmp 3) (.tmp 4) 22 rfl w.heap.size 40 i0 6 Try.underlying22 hi (.slice (some ⟨w.heap.size, 0, none⟩) 0 0) 0 [] rfl HO.out rfl ?_)
    go_ret
    exact ⟨w.heap.size, 0, rfl, fun h => by omega, (Below.refl _ _).alloc (Nat.le_refl _) _⟩
  · have hnews : ∀ j u, (slab (n * 6) (flatF 6 z))[j]? = some u → (w.alloc (.cells #[] 40)).cell? (a.add j) = some u := by
      rcases Nat.eq_zero_or_pos n with h0 | h0
      · subst h0
        intro j u h
        rw [List.getElem?_eq_none (by rw [slab_len]; omega)] at h; cases h
      · obtain ⟨b, off, e, _⟩ := hD h0
        cases e
        exact row_news hD (by omega)
    have HW := hide hnews
    clear hnews hD hnil
    go_enter Try.func18, Try.ntmps18
    go_wp2_with (at_builtin; refine wpList_append_own_at _ rfl (.tmp 3) (.tmp 4) 22 rfl w.heap.size 40 i0 (.agg #[.int .i64 0, .int .i64 0, .int .i64 0, .int .i64 0, .int .i64 0, .int .i64 0]) 6 48 Try.underlying22 hi hz0 hz1 hz2 rfl (by decide) (.slice (some ⟨w.heap.size, 0, none⟩) 0 0) 0 [] rfl HO.out a n cap (slab (n * 6) (flatF 6 z)) rfl (by rw [slab_len]) HW.out (by intro u hu; unfold slab at hu; obtain ⟨z, _, rfl⟩ := List.mem_map.1 hu; rfl) (by unfold maxLen; omega) (by omega) (by simp) ?_)
    intro v' w1 hown' hgrow _ hat
    have hown2 : w1.ownsRow w.heap.size 40 6 v' n (slab (n * 6) (flatF 6 z)) := by simpa using hown'
    obtain ⟨g, cap2, rfl⟩ := slice_at hown2 (by rcases hat with h | h <;> rw [h] <;> simp [Value.ownBlock])
    have HO2 := hide hown2
    have HW2 : Hid (Below w.heap.size w w1) := ((Below.refl _ _).alloc (Nat.le_refl _) _).grown hgrow (by simp) (fun k hk => by simp [Value.ownBlock] at hk; omega)
    clear hown' hown2 hgrow hat
    go_wp2
    go_ret
    exact ⟨g, cap2, rfl, own_row HO2.out, HW2.out⟩
/-- The copy as a row of the call's own: so that it can be appended to. -/
def CopyOwn (w : World) (n : Nat) (z : Nat → Nat → Int) (e : Ending) (w' : World) : Prop := ∃ g cap, e = .returned (.slice (some ⟨g, 0, none⟩) n cap) ∧ w'.ownsRow w.heap.size 40 6 (.slice (some ⟨g, 0, none⟩) n cap) n (slab (n * 6) (flatF 6 z)) ∧ Below w.heap.size w w'
set_option maxHeartbeats 4000000 in
set_option maxRecDepth 100000 in
theorem copied_own (A : Option Addr) (n cap : Nat) (z : Nat → Nat → Int) (w : World) (hn : n ≤ 100000) (hnil : A = none → n = 0 ∧ cap = 0) (hD : RowM 6 w w.heap.size A n z) :
    Calls Try.prog 18 #[.slice A n cap] w (CopyOwn w n z) := by
  obtain ⟨i0, hi, hz0, hz1, hz2⟩ := info_parts info_pulled
  have ho := w.ownsRow_lit (e := 40) (size := 6) (base := w.heap.size) #[] 0 (Nat.le_refl _) (by unfold maxLen; omega) (by simp)
  have HO := hide ho
  clear ho
  rcases A with _ | a
  · obtain ⟨rfl, rfl⟩ := hnil rfl
    clear hnil hD
    go_enter Try.func18, Try.ntmps18
    go_wp2_with (at_builtin; refine wpList_append_own_none rfl (.tmp 3) (.tmp 4) 22 rfl w.heap.size 40 i0 6 Try.underlying22 hi (.slice (some ⟨w.heap.size, 0, none⟩) 0 0) 0 [] rfl HO.out rfl ?_)
    go_ret
    exact ⟨w.heap.size, 0, rfl, HO.out, (Below.refl _ _).alloc (Nat.le_refl _) _⟩
  · have hnews : ∀ j u, (slab (n * 6) (flatF 6 z))[j]? = some u → (w.alloc (.cells #[] 40)).cell? (a.add j) = some u := by
      rcases Nat.eq_zero_or_pos n with h0 | h0
      · subst h0
        intro j u h
        rw [List.getElem?_eq_none (by rw [slab_len]; omega)] at h; cases h
      · obtain ⟨b, off, e, _⟩ := hD h0
        cases e
        exact row_news hD (by omega)
    have HW := hide hnews
    clear hnews hD hnil
    go_enter Try.func18, Try.ntmps18
    go_wp2_with (at_builtin; refine wpList_append_own_at _ rfl (.tmp 3) (.tmp 4) 22 rfl w.heap.size 40 i0 (.agg #[.int .i64 0, .int .i64 0, .int .i64 0, .int .i64 0, .int .i64 0, .int .i64 0]) 6 48 Try.underlying22 hi hz0 hz1 hz2 rfl (by decide) (.slice (some ⟨w.heap.size, 0, none⟩) 0 0) 0 [] rfl HO.out a n cap (slab (n * 6) (flatF 6 z)) rfl (by rw [slab_len]) HW.out (by intro u hu; unfold slab at hu; obtain ⟨z, _, rfl⟩ := List.mem_map.1 hu; rfl) (by unfold maxLen; omega) (by omega) (by simp) ?_)
    intro v' w1 hown' hgrow _ hat
    have hown2 : w1.ownsRow w.heap.size 40 6 v' n (slab (n * 6) (flatF 6 z)) := by simpa using hown'
    obtain ⟨g, cap2, rfl⟩ := slice_at hown2 (by rcases hat with h | h <;> rw [h] <;> simp [Value.ownBlock])
    have HO2 := hide hown2
    have HW2 : Hid (Below w.heap.size w w1) := ((Below.refl _ _).alloc (Nat.le_refl _) _).grown hgrow (by simp) (fun k hk => by simp [Value.ownBlock] at hk; omega)
    clear hown' hown2 hgrow hat
    go_wp2
    go_ret
    exact ⟨g, cap2, rfl, HO2.out, HW2.out⟩
theorem few_yes (A : Option Addr) (n cap : Nat) (w : World) (h : n ≤ 20 ∨ (300 < n ∧ n ≤ 305)) :
    Calls Try.prog 16 #[.slice A n cap] w fun e w' => e = .returned (.bool true) ∧ w = w' := by
  by_cases h1 : (n : Int) ≤ 20
  · clear h
    go_enter Try.func16, Try.ntmps16
    go_wp2
    go_ret
    exact ⟨rfl, rfl⟩
  · have h2 : (300 : Int) < (n : Int) := by omega
    have h3 : (n : Int) ≤ 305 := by omega
    clear h
    go_enter Try.func16, Try.ntmps16
    go_wp2
    go_ret
    exact ⟨rfl, rfl⟩
theorem few_no (A : Option Addr) (n cap : Nat) (w : World) (h : ¬ (n ≤ 20 ∨ (300 < n ∧ n ≤ 305))) :
    Calls Try.prog 16 #[.slice A n cap] w fun e w' => e = .returned (.bool false) ∧ w = w' := by
  have h1 : ¬ (n : Int) ≤ 20 := by omega
  by_cases h2 : (300 : Int) < (n : Int)
  · have h3 : ¬ (n : Int) ≤ 305 := by omega
    clear h
    go_enter Try.func16, Try.ntmps16
    go_wp2
    go_ret
    exact ⟨rfl, rfl⟩
  · clear h
    go_enter Try.func16, Try.ntmps16
    go_wp2
    go_ret
    exact ⟨rfl, rfl⟩
end Go.Proofs.Ytjfcjclhbnmgcaa
