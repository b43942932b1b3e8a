/- Arguments in memory: a slice of ints opened to its cells. -/
import Derived.Test.YtnilfacofikoaaaOpen
import Derived.ChangeSlices
namespace Go.Proofs.Ytnilfacofikoaaa
open Go.ChangeShapes Go.WideShapes Go.ChangeAt Go.RowKit Go.Joins Go.Deep

theorem open_i64s {H : Type} {enc : TypeId × Value → H} {P : Program} {w : World} {base : Nat} {held : Bool} {t e : TypeId} {fuel : Nat} {cs : List Value} {x : DataW H × List MemPlace}
    (ht : P.underlying t = some (.slice e)) (he : P.underlying e = some (.int .i64)) (hC : P.cellsOf e = 1) (h : DataW.trod enc P w base (fun _ => true) held fuel t cs = some x) :
    ∃ (A : Option Addr) (len cap : Nat) (zs : List Int), cs = [.slice A len cap] ∧ zs.length = len ∧ (∀ z ∈ zs, -9223372036854775808 ≤ z ∧ z ≤ 9223372036854775807) ∧
      (0 < zs.length → ∃ b off, A = some ⟨b, off, none⟩ ∧ b < w.heap.size ∧ ∀ i, i < zs.length → w.cell? ⟨b, off + i, none⟩ = some (.int .i64 (zs.getD i 0))) := by
  rcases open_ints ht he hC h with ⟨hcs, _⟩ | ⟨a, len, cap, zs, hcs, hb, hl, hm, hlen, _, hc, hw⟩
  · exact ⟨none, 0, 0, [], hcs, rfl, (fun z hz => by cases hz), (fun h => by simp at h)⟩
  · rw [if_pos rfl] at hlen
    have htl : (zs.take len).length = len := by rw [List.length_take]; omega
    refine ⟨some a, len, cap, zs.take len, hcs, htl, fun z hz => wfI (hw z (List.mem_of_mem_take hz)), fun h0 => ?_⟩
    rw [htl] at h0
    have hz0 := hc 0 (by omega)
    have hsp : a.spot = none := by
      have := World.cell?_spot hz0
      simpa [Addr.add] using this
    obtain ⟨b, off, sp⟩ := a
    simp only at hsp
    subst hsp
    refine ⟨b, off, rfl, ?_, fun i hi => ?_⟩
    · have := World.block_lt_of_cell? w _ hz0
      rw [add_plain] at this
      exact this
    · rw [htl] at hi
      have h1 := hc i (by omega)
      rw [add_plain] at h1
      rw [h1]
      congr 2
      simp [List.getD_eq_getElem?_getD, hi]
end Go.Proofs.Ytnilfacofikoaaa
