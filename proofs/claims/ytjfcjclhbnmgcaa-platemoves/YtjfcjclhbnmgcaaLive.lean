/- The blocks that a walk knows whole, carried over calls, new blocks, draws and stores. No condition beyond the premises of each theorem. -/
import Derived.Test.YtjfcjclhbnmgcaaPitch
namespace Go.Proofs.Ytjfcjclhbnmgcaa
open Go.RowKit

/-- From the world w0 to w: all that was there is as it was; the blocks of L are known whole. -/
structure Lv (w0 w : World) (L : List (Nat × TypeId × List Value)) : Prop where
  below : Below w0.heap.size w0 w
  blk : ∀ x ∈ L, Blk w x.1 x.2.1 x.2.2.toArray

theorem Lv.start (w : World) : Lv w w [] := ⟨Below.refl _ _, fun _ hx => by cases hx⟩
theorem Lv.size {w0 w : World} {L : List (Nat × TypeId × List Value)} (h : Lv w0 w L) : w0.heap.size ≤ w.heap.size := h.below.size
theorem Lv.put {w0 w : World} {L : List (Nat × TypeId × List Value)} (h : Lv w0 w L) (cs : List Value) (t : TypeId) : Lv w0 (w.alloc (.cells cs.toArray t)) ((w.heap.size, t, cs) :: L) := by
  refine ⟨h.below.alloc h.size _, fun x hx => ?_⟩
  rcases List.mem_cons.1 hx with rfl | hx
  · exact Blk.new _ _ _ _ rfl
  · exact (h.blk x hx).alloc _
theorem Lv.other {w0 w : World} {L : List (Nat × TypeId × List Value)} (h : Lv w0 w L) (o : Obj) : Lv w0 (w.alloc o) L := ⟨h.below.alloc h.size _, fun x hx => (h.blk x hx).alloc _⟩
theorem Lv.drewN {w0 w : World} {L : List (Nat × TypeId × List Value)} (h : Lv w0 w L) (n : Nat) : Lv w0 (w.drewN n) L := ⟨below_drewN h.below n, fun x hx => (h.blk x hx).drewN n⟩
theorem Lv.drew {w0 w : World} {L : List (Nat × TypeId × List Value)} (h : Lv w0 w L) : Lv w0 w.drew L := ⟨h.below.drew, fun x hx => (h.blk x hx).drew⟩
theorem Lv.kept {w0 w w' : World} {L : List (Nat × TypeId × List Value)} (h : Lv w0 w L) (hb : Below w.heap.size w w') : Lv w0 w' L :=
  ⟨h.below.trans (hb.mono h.size), fun x hx => (h.blk x hx).kept hb⟩
/-- A store into block g, one of the call's own. -/
def updL (L : List (Nat × TypeId × List Value)) (g i : Nat) (u : Value) : List (Nat × TypeId × List Value) := L.map fun x => if x.1 = g then (x.1, x.2.1, x.2.2.set i u) else x
theorem Lv.set {w0 w : World} {L : List (Nat × TypeId × List Value)} (h : Lv w0 w L) (g i : Nat) (u : Value) (hg : w0.heap.size ≤ g) : Lv w0 (w.setCell ⟨g, i, none⟩ u) (updL L g i u) := by
  refine ⟨h.below.setCell hg u, fun x hx => ?_⟩
  obtain ⟨y, hy, rfl⟩ := List.mem_map.1 hx
  have hb := h.blk y hy
  by_cases e : y.1 = g
  · rw [if_pos e]
    subst e
    have := hb.set i u
    simpa using this
  · rw [if_neg e]
    exact hb.far e u
theorem Lv.drop {w0 w : World} {L : List (Nat × TypeId × List Value)} {x : Nat × TypeId × List Value} (h : Lv w0 w (x :: L)) : Lv w0 w L := ⟨h.below, fun y hy => h.blk y (List.mem_cons_of_mem _ hy)⟩
theorem Lv.of {w0 w : World} {L L' : List (Nat × TypeId × List Value)} (h : Lv w0 w L) (hs : ∀ x ∈ L', x ∈ L) : Lv w0 w L' := ⟨h.below, fun y hy => h.blk y (hs y hy)⟩

theorem ne_up2 (n : Nat) : (n + 1 + 1 = n) = False := by simp; omega
theorem ne_dn2 (n : Nat) : (n = n + 1 + 1) = False := by simp; omega
theorem ne_up3 (n : Nat) : (n + 1 + 1 + 1 = n) = False := by simp; omega
theorem ne_dn3 (n : Nat) : (n = n + 1 + 1 + 1) = False := by simp; omega
theorem ne_up4 (n : Nat) : (n + 1 + 1 + 1 + 1 = n) = False := by simp; omega
theorem ne_dn4 (n : Nat) : (n = n + 1 + 1 + 1 + 1) = False := by simp; omega
theorem heap_drew (w : World) : w.drew.heap = w.heap := rfl
/-- What the walk reads: each cell of each block, and that each block is there. -/
def CellsAt (w : World) (g : Nat) : Nat → List Value → Prop
  | _, [] => True
  | i, v :: vs => (w.cell? ⟨g, i, none⟩ = some v ∧ w.frozen? ⟨g, i, none⟩ = false) ∧ CellsAt w g (i + 1) vs
def AllAt (w : World) : List (Nat × TypeId × List Value) → Prop
  | [] => True
  | x :: L => (x.1 < w.heap.size ∧ CellsAt w x.1 0 x.2.2) ∧ AllAt w L
theorem cellsAt_of {w : World} {g : Nat} {t : TypeId} {cs : Array Value} (h : Blk w g t cs) : ∀ (i : Nat) (vs : List Value), (∀ j, vs[j]? = cs[i + j]?) ∨ vs = [] → CellsAt w g i vs
  | _, [], _ => trivial
  | i, v :: vs, hv => by
    rcases hv with hv | hv
    · refine ⟨⟨(h.cell i).trans ?_, h.frozen i⟩, cellsAt_of h (i + 1) vs (Or.inl fun j => ?_)⟩
      · have := hv 0; simpa using this.symm
      · have := hv (j + 1); rw [show i + 1 + j = i + (j + 1) by omega]; simpa using this
    · cases hv
theorem allAt_of {w : World} : ∀ (L : List (Nat × TypeId × List Value)), (∀ x ∈ L, Blk w x.1 x.2.1 x.2.2.toArray) → AllAt w L
  | [], _ => trivial
  | x :: L, h => ⟨⟨(h x (by simp)).lt, cellsAt_of (h x (by simp)) 0 x.2.2 (Or.inl fun j => by simp)⟩, allAt_of L fun y hy => h y (List.mem_cons_of_mem _ hy)⟩
theorem Lv.at {w0 w : World} {L : List (Nat × TypeId × List Value)} (h : Lv w0 w L) : AllAt w L ∧ w0.heap.size ≤ w.heap.size := ⟨allAt_of L h.blk, h.size⟩

/-- A call whose contract says 'all old blocks are as they were'. -/
theorem Lv.call {P : Program} {f : FuncId} {args : Array Value} {w0 W : World} {L : List (Nat × TypeId × List Value)} {r : Ending} {post : Ending → World → Prop}
    (hc : Calls P f args W fun e w' => e = r ∧ Below W.heap.size W w') (hL : Lv w0 W L) (k : ∀ w', Lv w0 w' L → post r w') : Calls P f args W post :=
  hc.mono fun _ w' ⟨he, hb⟩ => he ▸ k w' (hL.kept hb)
/-- A call that leaves the world as it was. -/
theorem Lv.same {P : Program} {f : FuncId} {args : Array Value} {W : World} {r : Ending} {post : Ending → World → Prop}
    (hc : Calls P f args W fun e w' => e = r ∧ W = w') (k : post r W) : Calls P f args W post :=
  hc.mono fun _ _ ⟨he, hb⟩ => he ▸ hb ▸ k
end Go.Proofs.Ytjfcjclhbnmgcaa
