/- Arguments by value whose cells are all ints, nested structs and arrays among them. -/
import Derived.Test.YtjfcjclhbnmgcaaOpen
namespace Go.Proofs.Ytjfcjclhbnmgcaa
open Go.ChangeShapes Go.WideShapes Go.ChangeAt Go.RowKit Go.Joins Go.Deep

/-- Every cell of a value of type t is an int. -/
def flatI (P : Program) : Nat → TypeId → Bool
  | 0, _ => false
  | k + 1, t => match P.underlying t with
    | some (.int .i64) => true
    | some (.struct fs) => (List.range (P.cellsOf t)).all fun i => fs.toList.any fun f => decide (f.offset ≤ i) && decide (i < f.offset + P.cellsOf f.type) && flatI P k f.type
    | some (.array n e) => (List.range (P.cellsOf t)).all (fun i => decide (i / P.cellsOf e < n) && decide (0 < P.cellsOf e)) && flatI P k e
    | _ => false
def IsInt (v : Value) : Prop := ∃ z : Int, v = .int .i64 z ∧ -9223372036854775808 ≤ z ∧ z ≤ 9223372036854775807
theorem flat_cells {H : Type} {enc : TypeId × Value → H} {P : Program} {w : World} {base : Nat} {spare : Nat → Bool} {held : Bool} : ∀ (k : Nat) (t : TypeId) (fuel : Nat) (cs : List Value) (x : DataW H × List MemPlace),
    flatI P k t = true → DataW.trod enc P w base spare held fuel t cs = some x → ∀ (i : Nat) (v : Value), cs[i]? = some v → IsInt v
  | 0, _, _, _, _, h, _ => by cases h
  | k + 1, t, fuel, cs, x, h, hx => by
    intro i v hv
    unfold flatI at h
    split at h
    · rename_i ht
      obtain ⟨z, rfl, _, hw⟩ := DataW.trod_int ht hx
      match i, hv with
      | 0, hv => cases hv; exact ⟨z, rfl, wfI hw⟩
      | i + 1, hv => simp at hv
    · rename_i fs ht
      obtain ⟨ys, n, _, _, hl, hyl, hf⟩ := DataW.trod_struct ht hx
      have hi : i < cs.length := by
        rcases Nat.lt_or_ge i cs.length with h1 | h1
        · exact h1
        · rw [List.getElem?_eq_none h1] at hv; cases hv
      have h1 := List.all_eq_true.1 h i (by rw [List.mem_range]; omega)
      obtain ⟨f, hfm, h2⟩ := List.any_eq_true.1 h1
      simp only [Bool.and_eq_true, decide_eq_true_eq] at h2
      obtain ⟨j, hj⟩ := List.getElem?_of_mem hfm
      have hj' : fs[j]? = some f := by simpa using hj
      have h3 := hf j f hj'
      have hjl : j < ys.length := by
        have := (List.getElem?_eq_some_iff.1 hj).1
        simp at this
        omega
      rw [List.getElem?_eq_getElem hjl] at h3
      refine flat_cells k f.type n _ _ h2.2 h3 (i - f.offset) v ?_
      rw [List.getElem?_take_of_lt (by omega), List.getElem?_drop, show f.offset + (i - f.offset) = i by omega]
      exact hv
    · rename_i n e ht
      obtain ⟨ys, m, _, _, hl, hyl, hf⟩ := DataW.trod_array ht hx
      have hi : i < cs.length := by
        rcases Nat.lt_or_ge i cs.length with h1 | h1
        · exact h1
        · rw [List.getElem?_eq_none h1] at hv; cases hv
      rw [Bool.and_eq_true] at h
      have h1 := List.all_eq_true.1 h.1 i (by rw [List.mem_range]; omega)
      simp only [Bool.and_eq_true, decide_eq_true_eq] at h1
      have h3 := hf (i / P.cellsOf e) h1.1
      rw [List.getElem?_eq_getElem (show i / P.cellsOf e < ys.length by omega)] at h3
      have hdm := Nat.div_add_mod i (P.cellsOf e)
      have hml := Nat.mod_lt i h1.2
      refine flat_cells k e m _ _ h.2 h3 (i % P.cellsOf e) v ?_
      rw [List.getElem?_take_of_lt hml, List.getElem?_drop, Nat.mul_comm, hdm]
      exact hv
    · cases h
/-- The ints of such a value. -/
theorem flat_ints {cs : List Value} : ∀ (_ : ∀ (i : Nat) (v : Value), cs[i]? = some v → IsInt v), ∃ zs : List Int, cs = zs.map (fun z => Value.int .i64 z) ∧ ∀ z ∈ zs, -9223372036854775808 ≤ z ∧ z ≤ 9223372036854775807 := by
  induction cs with
  | nil => intro _; exact ⟨[], rfl, fun z hz => by cases hz⟩
  | cons v cs ih =>
    intro h
    obtain ⟨z, rfl, hz⟩ := h 0 v rfl
    obtain ⟨zs, rfl, hzs⟩ := ih (fun i u hu => h (i + 1) u (by simpa using hu))
    refine ⟨z :: zs, rfl, fun y hy => ?_⟩
    rcases List.mem_cons.1 hy with rfl | hy
    · exact hz
    · exact hzs y hy
theorem flat_open {H : Type} {enc : TypeId × Value → H} {P : Program} {w : World} {base n : Nat} {held : Bool} {r : Reach} {b0 k : Nat} {t : TypeId} {fs : Array Field} {v : Value} {d : DataW H} {p : List MemPlace}
    (ht : P.underlying t = some (.struct fs)) (hflat : flatI P k t = true) (hC : P.cellsOf t = n) (hv : Value.okWide P w r b0 t v) (h : DataW.Trod enc P w base (fun _ => true) held t v d p) :
    ∃ zs : List Int, v = .agg (zs.map (fun z => Value.int .i64 z)).toArray ∧ zs.length = n ∧ ∀ z ∈ zs, -9223372036854775808 ≤ z ∧ z ≤ 9223372036854775807 := by
  obtain ⟨cs, rfl, hsz⟩ := okWide_struct ht hv
  obtain ⟨fuel, hf⟩ := h
  obtain ⟨zs, hzs, hb⟩ := flat_ints (flat_cells k t fuel _ _ hflat hf)
  simp only [Value.cells] at hzs
  refine ⟨zs, ?_, ?_, hb⟩
  · rw [← hzs]
  · have := congrArg List.length hzs
    simp at this
    omega
theorem len1 {zs : List Int} (h : zs.length = 1) : ∃ x0, zs = [x0] := by
  match zs, h with
  | [x0], _ => exact ⟨x0, rfl⟩
theorem len2 {zs : List Int} (h : zs.length = 2) : ∃ x0 x1, zs = [x0, x1] := by
  match zs, h with
  | [x0, x1], _ => exact ⟨x0, x1, rfl⟩
theorem len3 {zs : List Int} (h : zs.length = 3) : ∃ x0 x1 x2, zs = [x0, x1, x2] := by
  match zs, h with
  | [x0, x1, x2], _ => exact ⟨x0, x1, x2, rfl⟩
theorem len4 {zs : List Int} (h : zs.length = 4) : ∃ x0 x1 x2 x3, zs = [x0, x1, x2, x3] := by
  match zs, h with
  | [x0, x1, x2, x3], _ => exact ⟨x0, x1, x2, x3, rfl⟩
theorem len5 {zs : List Int} (h : zs.length = 5) : ∃ x0 x1 x2 x3 x4, zs = [x0, x1, x2, x3, x4] := by
  match zs, h with
  | [x0, x1, x2, x3, x4], _ => exact ⟨x0, x1, x2, x3, x4, rfl⟩
theorem len6 {zs : List Int} (h : zs.length = 6) : ∃ x0 x1 x2 x3 x4 x5, zs = [x0, x1, x2, x3, x4, x5] := by
  match zs, h with
  | [x0, x1, x2, x3, x4, x5], _ => exact ⟨x0, x1, x2, x3, x4, x5, rfl⟩
theorem len7 {zs : List Int} (h : zs.length = 7) : ∃ x0 x1 x2 x3 x4 x5 x6, zs = [x0, x1, x2, x3, x4, x5, x6] := by
  match zs, h with
  | [x0, x1, x2, x3, x4, x5, x6], _ => exact ⟨x0, x1, x2, x3, x4, x5, x6, rfl⟩
theorem len8 {zs : List Int} (h : zs.length = 8) : ∃ x0 x1 x2 x3 x4 x5 x6 x7, zs = [x0, x1, x2, x3, x4, x5, x6, x7] := by
  match zs, h with
  | [x0, x1, x2, x3, x4, x5, x6, x7], _ => exact ⟨x0, x1, x2, x3, x4, x5, x6, x7, rfl⟩
theorem len9 {zs : List Int} (h : zs.length = 9) : ∃ x0 x1 x2 x3 x4 x5 x6 x7 x8, zs = [x0, x1, x2, x3, x4, x5, x6, x7, x8] := by
  match zs, h with
  | [x0, x1, x2, x3, x4, x5, x6, x7, x8], _ => exact ⟨x0, x1, x2, x3, x4, x5, x6, x7, x8, rfl⟩
theorem len10 {zs : List Int} (h : zs.length = 10) : ∃ x0 x1 x2 x3 x4 x5 x6 x7 x8 x9, zs = [x0, x1, x2, x3, x4, x5, x6, x7, x8, x9] := by
  match zs, h with
  | [x0, x1, x2, x3, x4, x5, x6, x7, x8, x9], _ => exact ⟨x0, x1, x2, x3, x4, x5, x6, x7, x8, x9, rfl⟩
theorem len11 {zs : List Int} (h : zs.length = 11) : ∃ x0 x1 x2 x3 x4 x5 x6 x7 x8 x9 x10, zs = [x0, x1, x2, x3, x4, x5, x6, x7, x8, x9, x10] := by
  match zs, h with
  | [x0, x1, x2, x3, x4, x5, x6, x7, x8, x9, x10], _ => exact ⟨x0, x1, x2, x3, x4, x5, x6, x7, x8, x9, x10, rfl⟩
theorem len12 {zs : List Int} (h : zs.length = 12) : ∃ x0 x1 x2 x3 x4 x5 x6 x7 x8 x9 x10 x11, zs = [x0, x1, x2, x3, x4, x5, x6, x7, x8, x9, x10, x11] := by
  match zs, h with
  | [x0, x1, x2, x3, x4, x5, x6, x7, x8, x9, x10, x11], _ => exact ⟨x0, x1, x2, x3, x4, x5, x6, x7, x8, x9, x10, x11, rfl⟩
theorem len13 {zs : List Int} (h : zs.length = 13) : ∃ x0 x1 x2 x3 x4 x5 x6 x7 x8 x9 x10 x11 x12, zs = [x0, x1, x2, x3, x4, x5, x6, x7, x8, x9, x10, x11, x12] := by
  match zs, h with
  | [x0, x1, x2, x3, x4, x5, x6, x7, x8, x9, x10, x11, x12], _ => exact ⟨x0, x1, x2, x3, x4, x5, x6, x7, x8, x9, x10, x11, x12, rfl⟩
theorem len14 {zs : List Int} (h : zs.length = 14) : ∃ x0 x1 x2 x3 x4 x5 x6 x7 x8 x9 x10 x11 x12 x13, zs = [x0, x1, x2, x3, x4, x5, x6, x7, x8, x9, x10, x11, x12, x13] := by
  match zs, h with
  | [x0, x1, x2, x3, x4, x5, x6, x7, x8, x9, x10, x11, x12, x13], _ => exact ⟨x0, x1, x2, x3, x4, x5, x6, x7, x8, x9, x10, x11, x12, x13, rfl⟩
theorem len15 {zs : List Int} (h : zs.length = 15) : ∃ x0 x1 x2 x3 x4 x5 x6 x7 x8 x9 x10 x11 x12 x13 x14, zs = [x0, x1, x2, x3, x4, x5, x6, x7, x8, x9, x10, x11, x12, x13, x14] := by
  match zs, h with
  | [x0, x1, x2, x3, x4, x5, x6, x7, x8, x9, x10, x11, x12, x13, x14], _ => exact ⟨x0, x1, x2, x3, x4, x5, x6, x7, x8, x9, x10, x11, x12, x13, x14, rfl⟩
theorem len16 {zs : List Int} (h : zs.length = 16) : ∃ x0 x1 x2 x3 x4 x5 x6 x7 x8 x9 x10 x11 x12 x13 x14 x15, zs = [x0, x1, x2, x3, x4, x5, x6, x7, x8, x9, x10, x11, x12, x13, x14, x15] := by
  match zs, h with
  | [x0, x1, x2, x3, x4, x5, x6, x7, x8, x9, x10, x11, x12, x13, x14, x15], _ => exact ⟨x0, x1, x2, x3, x4, x5, x6, x7, x8, x9, x10, x11, x12, x13, x14, x15, rfl⟩
end Go.Proofs.Ytjfcjclhbnmgcaa
