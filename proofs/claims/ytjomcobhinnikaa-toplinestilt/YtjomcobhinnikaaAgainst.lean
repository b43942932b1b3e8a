/- The contract of number.against: what the function value that it returns has captured. -/
import Derived.Test.YtjomcobhinnikaaAsked
namespace Go.Proofs.Ytjomcobhinnikaa
open Go.RowKit

def SidesSlices (w : World) (N M L : Nat) (e : Ending) (w' : World) : Prop :=
  ∃ A n c A' n' c', e = .returned (.tuple #[.slice A n c, .slice A' n' c']) ∧ Both w w' w.heap.size w.heap.size (.slice A n c) (.slice A' n' c') N M L
theorem sides_slices (a b c : Int) (w : World) (ha : -10000 ≤ a ∧ a ≤ 10000) (hb : -10000 ≤ b ∧ b ≤ 10000) (hc : -10000 ≤ c ∧ c ≤ 10000) :
    Calls Try.prog 49 #[.agg #[.int .i64 a, .int .i64 b, .int .i64 c]] w (SidesSlices w (upTo a b c 3) (dnTo a b c 3) 40000) :=
  (sides_any a b c w ha hb hc).mono fun e w' ⟨va, vb, he, hB⟩ => by
    obtain ⟨⟨ds, hd, hdl, hown⟩, ⟨es, he', hel, hown'⟩, hap, hbel⟩ := hB
    obtain ⟨A, c1, rfl, _, _⟩ := own_form hown
    obtain ⟨A', c2, rfl, _, _⟩ := own_form hown'
    exact ⟨A, _, c1, A', _, c2, he, ⟨ds, hd, hdl, hown⟩, ⟨es, he', hel, hown'⟩, hap, hbel⟩

def AgainstDone (w : World) (a b c : Int) (d F G : Nat) (e : Ending) (w' : World) : Prop :=
  ∃ bp bf bx bg : Nat, e = .returned (.func (.func 51) #[] #[.pointer (some ⟨bp, 0, none⟩), .pointer (some ⟨bf, 0, none⟩), .pointer (some ⟨bx, 0, none⟩), .pointer (some ⟨bg, 0, none⟩)]) ∧
    Asked w' w.heap.size bp bf bg bx a b c d F G ∧ w.heap.size ≤ bp ∧ Below w.heap.size w w'

/-- What lies where behind the goal's product. -/
structure AgMid (w2 w4 : World) (base gx : Nat) (xs : Array Value) (va vb v3 : Value) (N M : Nat) : Prop where
  g : Blk w4 w2.heap.size 92 #[va]
  f : Blk w4 (w2.heap.size + 1) 92 #[vb]
  x : Blk w4 gx 51 xs
  og : Own w4 base v3 N 80000
  of : Own w4 base vb M 40000
  apart : v3.ownBlock ≠ vb.ownBlock

theorem against_mid {w1 w2 w4 : World} {gx N M N' L : Nat} {xs : Array Value} {va vb v3 : Value} (hB : Both w1 w2 w1.heap.size w1.heap.size va vb N M 40000) (hM : 1 ≤ M) (hx : Blk w2 gx 51 xs)
    (hL : Left ((w2.alloc (.cells #[va] 92)).alloc (.cells #[vb] 92)) w4 va v3) (ho : Own w4 w1.heap.size v3 N' L) (hle : L ≤ 80000) : AgMid w2 w4 w1.heap.size gx xs va vb v3 N' M := by
  have ha := (hB.a.alloc (.cells #[va] 92)).alloc (.cells #[vb] 92)
  have hb := (hB.b.alloc (.cells #[va] 92)).alloc (.cells #[vb] 92)
  have hbg := (Blk.new w2 w2.heap.size 92 #[va] rfl).alloc (.cells #[vb] 92)
  have hbf := Blk.new (w2.alloc (.cells #[va] 92)) (w2.heap.size + 1) 92 #[vb] (by simp)
  have hbx := (hx.alloc (.cells #[va] 92)).alloc (.cells #[vb] 92)
  obtain ⟨ds, hd, hdl, hrow⟩ := ha
  refine ⟨hbg.grown hL.1 (Ne.symm (own_blk_ne hrow hbg (by decide))), hbf.grown hL.1 (Ne.symm (own_blk_ne hrow hbf (by decide))), hbx.grown hL.1 (Ne.symm (own_blk_ne hrow hbx (by decide))), ho.mono (Nat.le_refl _) hle, hb.kept hL.1 (.inr (Ne.symm hB.apart)), ?_⟩
  exact apart_new hL hb hM hB.apart

theorem against_end {w w1 w2 w4 : World} {N M d : Nat} {a b c : Int} {va vb : Value} {A : Option Addr} {n cp : Nat} (h : AgMid w2 w4 w1.heap.size w.heap.size #[.int .i64 a, .int .i64 b, .int .i64 c, .int .i64 d] va vb (.slice A n cp) N M) (hM : 1 ≤ M) (hN : 1 ≤ N) (h1 : w.heap.size ≤ w1.heap.size) :
    Asked ((w4.setCell ⟨w2.heap.size, 0, none⟩ (.slice A n cp)).alloc (.cells #[.slice none 0 0] 92)) w.heap.size w4.heap.size (w2.heap.size + 1) w2.heap.size w.heap.size a b c d M N := by
  have hs : w4.grownBy (w4.setCell ⟨w2.heap.size, 0, none⟩ (.slice A n cp)) (some w2.heap.size) := ⟨rfl, rfl, rfl, by simp [World.setCell], fun i _ hne => Below.heap_setCell _ ⟨w2.heap.size, 0, none⟩ _ _ (fun e => hne (by rw [e]))⟩
  have e1 : vb.ownBlock ≠ some w2.heap.size := by obtain ⟨ds, _, _, h1⟩ := h.of; exact own_blk_ne h1 h.g (by decide)
  have e2 : (Value.slice A n cp).ownBlock ≠ some w2.heap.size := by obtain ⟨ds, _, _, h1⟩ := h.og; exact own_blk_ne h1 h.g (by decide)
  obtain ⟨k1, hk1⟩ := h.of.block hM
  obtain ⟨k2, hk2⟩ := h.og.block hN
  have lf := h.f.lt
  have lg := h.g.lt
  refine ⟨⟨none, 0, 0, vb, .slice A n cp, [], Blk.new _ _ _ _ (by simp), (h.f.far (by simp) _).alloc _, (h.g.set 0 _).alloc _, World.ownsRow_nil _ _ _ _, ?_, ?_, ?_, ?_⟩, (h.x.far (h.x.ne h.g (by decide)) _).alloc _, by omega, by omega⟩
  · exact ((h.of.kept hs (.inr e1)).alloc _).mono h1 (Nat.le_refl _)
  · exact ((h.og.kept hs (.inr e2)).alloc _).mono h1 (Nat.le_refl _)
  · rw [hk1]; simp [Value.ownBlock]
  · rw [hk2]; simp [Value.ownBlock]

set_option maxHeartbeats 1000000 in
set_option maxRecDepth 100000 in
theorem against_any (a b c : Int) (d times : Nat) (w : World) (ha : -10000 ≤ a ∧ a ≤ 10000) (hb : -10000 ≤ b ∧ b ≤ 10000) (hc : -10000 ≤ c ∧ c ≤ 10000) (hd : d ≤ 12) (ht1 : 1 ≤ times) (ht : times ≤ 1000000000) :
    Calls Try.prog 38 #[.agg #[.int .i64 a, .int .i64 b, .int .i64 c, .int .i64 d], .int .i64 times] w (AgainstDone w a b c d (dnTo a b c 3) (upTo a b c 3 * times ^ d)) := by
  have hmf : ∀ (fn : Fn) (first cap : Array Value) (w : World), (Instr.makeFunc fn first cap).run Try.prog w = .ok (.func fn first cap) w := fun _ _ _ _ => rfl
  have HNB : Hid (times < B64) := by show times < B64; have : B64 = 18446744073709551616 := rfl; omega
  go_enter Try.func38, Try.ntmps38
  go_wp2_with fail
  refine (exponentsOf_any _ _ _ _ _).mono ?_
  rintro e w1 ⟨rfl, hb1⟩
  have HX1 : Hid (Blk w1 w.heap.size 51 #[.int .i64 a, .int .i64 b, .int .i64 c, .int .i64 d]) := (Blk.new w _ _ _ rfl).kept hb1
  have HL1 : Hid (Below w.heap.size w w1) := ((Below.refl _ _).alloc (Nat.le_refl _) _).trans (hb1.mono (by simp))
  clear hb1
  go_wp2_with fail
  refine (sides_slices a b c _ ha hb hc).mono ?_
  rintro e w2 ⟨A, n, cp, A', n', cp', rfl, HBoth⟩
  have HB := hide HBoth
  have HX2 := hide (HX1.out.kept HBoth.below)
  have HL2 := hide (HL1.out.trans (HBoth.below.mono HL1.out.size))
  clear HBoth HX1
  have qx := HX2.out.c4.1.2.2.2
  have lx := HX2.out.lt
  go_wp2_with fail
  refine (timesPower_slice w1.heap.size (upTo a b c 3) 40000 times d _ _ ((HB.out.a.alloc _).alloc _) (upTo_pos a b c 3) (by omega) HNB.out (by have := HB.out.below.size; simp; omega)).mono ?_
  rintro e w4 ⟨A3, n3, c3, rfl, hown, hleft⟩
  have HM := hide (against_mid HB.out (dnTo_pos a b c 3) HX2.out hleft hown (by omega))
  have HL4 : Hid (Below w.heap.size w w4) := ((HL2.out.alloc HL2.out.size _).alloc (by have := HL2.out.size; simp; omega) _).grown hleft.1 (by have := HL2.out.size; simp; omega) fun j hj => Nat.le_trans HL1.out.size (HB.out.a.lt j hj).1
  clear hown hleft
  have q4 := HM.out.g.c1
  have l4 := HM.out.g.lt
  go_wp2
  go_ret
  have hN : 1 ≤ upTo a b c 3 * times ^ d := Nat.mul_pos (upTo_pos a b c 3) (Nat.pow_pos ht1)
  refine ⟨_, _, _, _, rfl, against_end HM.out (dnTo_pos a b c 3) hN HL1.out.size, HL4.out.size, ?_⟩
  exact (HL4.out.setCell (by have := HL2.out.size; simpa using this) _).alloc (by have := HL4.out.size; simpa using this) _
end Go.Proofs.Ytjomcobhinnikaa
