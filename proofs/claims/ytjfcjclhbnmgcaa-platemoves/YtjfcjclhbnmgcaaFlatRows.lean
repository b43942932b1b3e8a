/- Arguments in memory: a slice whose elements' cells are all ints (structs and arrays among them), opened to its cells. -/
import Derived.Test.YtjfcjclhbnmgcaaFlat
namespace Go.Proofs.Ytjfcjclhbnmgcaa
open Go.ChangeShapes Go.WideShapes Go.ChangeAt Go.RowKit Go.Joins Go.Deep

/-- A row of n elements of m numbers each: where their cells lie. -/
def RowM (m : Nat) (w : World) (B : Nat) (A : Option Addr) (n : Nat) (z : Nat → Nat → Int) : Prop :=
  0 < n → ∃ b off, A = some ⟨b, off, none⟩ ∧ b < B ∧ ∀ i, i < n → ∀ j, j < m → w.cell? ⟨b, off + i * m + j, none⟩ = some (.int .i64 (z i j))
theorem RowM.kept {m : Nat} {w w' : World} {B n : Nat} {A : Option Addr} {z : Nat → Nat → Int} (h : RowM m w B A n z) (hb : Below B w w') : RowM m w' B A n z := fun h0 => by
  obtain ⟨b, off, e, hB, hc⟩ := h h0
  exact ⟨b, off, e, hB, fun i hi j hj => (hb.cell (by exact hB)).trans (hc i hi j hj)⟩
theorem RowM.up {m : Nat} {w : World} {B B' n : Nat} {A : Option Addr} {z : Nat → Nat → Int} (h : RowM m w B A n z) (hb : B ≤ B') : RowM m w B' A n z := fun h0 => by
  obtain ⟨b, off, e, hB, hc⟩ := h h0
  exact ⟨b, off, e, Nat.lt_of_lt_of_le hB hb, hc⟩
/-- Behind a call that has left all old blocks as they were. -/
theorem RowM.on {m : Nat} {w w' : World} {n : Nat} {A : Option Addr} {z : Nat → Nat → Int} (h : RowM m w w.heap.size A n z) (hb : Below w.heap.size w w') : RowM m w' w'.heap.size A n z := (h.kept hb).up hb.size
theorem RowM.fewer {m : Nat} {w : World} {B n n' : Nat} {A : Option Addr} {z : Nat → Nat → Int} (h : RowM m w B A n z) (hn : n' ≤ n) : RowM m w B A n' z := fun h0 => by
  obtain ⟨b, off, e, hB, hc⟩ := h (by omega)
  exact ⟨b, off, e, hB, fun i hi => hc i (by omega)⟩

theorem flat_rows {H : Type} {enc : TypeId × Value → H} {P : Program} {w : World} {base d m : Nat} {held : Bool} {t e : TypeId} {fuel : Nat} {cs : List Value} {x : DataW H × List MemPlace}
    (ht : P.underlying t = some (.slice e)) (hflat : flatI P d e = true) (hC : P.cellsOf e = m) (hpos : 0 < m)
    (h : DataW.trod enc P w base (fun _ => true) held fuel t cs = some x) :
    ∃ (A : Option Addr) (len cap : Nat) (z : Nat → Nat → Int), cs = [.slice A len cap] ∧ (A = none → len = 0 ∧ cap = 0) ∧ RowM m w w.heap.size A len z ∧ ∀ i, i < len → ∀ j, j < m → -9223372036854775808 ≤ z i j ∧ z i j ≤ 9223372036854775807 := by
  rcases open_slice ht h with ⟨hcs, _⟩ | ⟨a, len, cap, mm, n, D, Pl, hcs, hb, hl, hm, hmm, hx, hi⟩
  · exact ⟨none, 0, 0, fun _ _ => 0, hcs, fun _ => ⟨rfl, rfl⟩, fun h0 => by omega, fun i hi => by omega⟩
  · rcases Nat.eq_zero_or_pos len with h0 | h0
    · exact ⟨some a, len, cap, fun _ _ => 0, hcs, (fun h => by cases h), (fun h => by omega), fun i hi => by omega⟩
    · simp only [if_true] at hmm
      have each : ∀ i, i < len → ∀ j, j < m → ∃ y : Int, w.cell? (a.add (i * m + j)) = some (.int .i64 y) ∧ (-9223372036854775808 ≤ y ∧ y ≤ 9223372036854775807) := by
        intro i hil j hj
        obtain ⟨cs', hc, ht'⟩ := hi i (by omega)
        rw [hC] at hc
        obtain ⟨_, hcl, hat⟩ := World.cells?_some hc
        have hjl : j < cs'.length := by omega
        obtain ⟨y, hy, hlo, hhi⟩ := flat_cells d e _ cs' _ hflat ht' j cs'[j] (List.getElem?_eq_getElem hjl)
        refine ⟨y, ?_, hlo, hhi⟩
        have h2 := hat j hj
        rw [add_add] at h2
        rw [h2]
        simp [hjl, hy]
      obtain ⟨z0, hz0, _⟩ := each 0 h0 0 hpos
      have hsp : a.spot = none := by
        have := World.cell?_spot hz0
        simpa [Addr.add] using this
      obtain ⟨b, off, sp⟩ := a
      simp only at hsp
      subst hsp
      obtain ⟨z, hz⟩ := choose_lt (α := Nat → Int) (n := len) (p := fun i f => ∀ j, j < m → w.cell? ((⟨b, off, none⟩ : Addr).add (i * m + j)) = some (.int .i64 (f j)) ∧ (-9223372036854775808 ≤ f j ∧ f j ≤ 9223372036854775807)) (fun i hil => choose_lt (each i hil))
      refine ⟨some ⟨b, off, none⟩, len, cap, z, hcs, (fun h => by cases h), fun _ => ⟨b, off, rfl, ?_, fun i hil j hj => ?_⟩, fun i hil j hj => (hz i hil j hj).2⟩
      · have := World.block_lt_of_cell? w _ hz0
        rw [add_plain] at this
        exact this
      · have := (hz i hil j hj).1
        rw [add_plain, ← Nat.add_assoc] at this
        exact this
theorem okWide_array {P : Program} {w : World} {r : Reach} {b0 k : Nat} {t e : TypeId} {v : Value} (ht : P.underlying t = some (.array k e)) (h : Value.okWide P w r b0 t v) : ∃ cs, v = .agg cs ∧ cs.size = P.cellsOf t := by
  simp only [Value.okWide, ht] at h
  obtain ⟨cs, h1, h2, _⟩ := h
  exact ⟨cs, h1, h2⟩
/-- An array by value whose cells are all ints. -/
theorem flat_arr {H : Type} {enc : TypeId × Value → H} {P : Program} {w : World} {base n k : Nat} {held : Bool} {r : Reach} {b0 d : Nat} {t e : TypeId} {v : Value} {dd : DataW H} {p : List MemPlace}
    (ht : P.underlying t = some (.array k e)) (hflat : flatI P d t = true) (hC : P.cellsOf t = n) (hv : Value.okWide P w r b0 t v) (h : DataW.Trod enc P w base (fun _ => true) held t v dd p) :
    ∃ zs : List Int, v = .agg (zs.map (fun z => Value.int .i64 z)).toArray ∧ zs.length = n ∧ ∀ z ∈ zs, -9223372036854775808 ≤ z ∧ z ≤ 9223372036854775807 := by
  obtain ⟨cs, rfl, hsz⟩ := okWide_array ht hv
  obtain ⟨fuel, hf⟩ := h
  obtain ⟨zs, hzs, hb⟩ := flat_ints (flat_cells d t fuel _ _ hflat hf)
  simp only [Value.cells] at hzs
  refine ⟨zs, ?_, ?_, hb⟩
  · rw [← hzs]
  · have := congrArg List.length hzs
    simp at this
    omega
end Go.Proofs.Ytjfcjclhbnmgcaa
