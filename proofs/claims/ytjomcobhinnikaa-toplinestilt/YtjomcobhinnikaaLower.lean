/- The contract of number.lowerOnce: one pass over the bounds. -/
import Derived.Test.YtjomcobhinnikaaSystem
import Derived.Deep.QuietTactic
import Derived.BigQuiet
namespace Go.Proofs.Ytjomcobhinnikaa
open Go.RowKit

def i64s (zs : List Int) : List Value := zs.map fun (z : Int) => Value.int .i64 z
theorem i64s_len (zs : List Int) : (i64s zs).length = zs.length := by simp [i64s]
theorem i64s_get {zs : List Int} {j : Nat} (h : j < zs.length) : (i64s zs)[j]? = some (.int .i64 (zs.getD j 0)) := by simp [i64s, h]
theorem i64s_set (zs : List Int) (j : Nat) (z : Int) : (i64s zs).set j (.int .i64 z) = i64s (zs.set j z) := by simp [i64s, List.map_set]

structure LowSt where
  vs : List Int
  ls : List Int
  low : Int
def bFr (bs : List (Int × Int × Int)) (i : Nat) : Nat := (bs.getD i (0, 0, 0)).1.toNat
def bTo (bs : List (Int × Int × Int)) (i : Nat) : Nat := (bs.getD i (0, 0, 0)).2.1.toNat
def bMo (bs : List (Int × Int × Int)) (i : Nat) : Int := (bs.getD i (0, 0, 0)).2.2
/-- One bound: the value at its end is lowered where it breaks the bound. -/
def lowStep (bs : List (Int × Int × Int)) (st : LowSt) (i : Nat) : LowSt :=
  if st.vs.getD (bFr bs i) 0 + bMo bs i < st.vs.getD (bTo bs i) 0 then ⟨st.vs.set (bTo bs i) (st.vs.getD (bFr bs i) 0 + bMo bs i), st.ls.set (bTo bs i) i, bTo bs i⟩ else st
def lowTo (bs : List (Int × Int × Int)) (vs ls : List Int) : Nat → LowSt
  | 0 => ⟨vs, ls, -1⟩
  | k + 1 => lowStep bs (lowTo bs vs ls k) k
def lowAll (bs : List (Int × Int × Int)) (vs ls : List Int) : LowSt := lowTo bs vs ls bs.length

/-- All bounds are valid for n unknowns. -/
def BndsOk (n : Nat) (bs : List (Int × Int × Int)) : Prop :=
  ∀ i, i < bs.length → (0 ≤ (bs.getD i (0, 0, 0)).1 ∧ (bs.getD i (0, 0, 0)).1 < n) ∧ (0 ≤ (bs.getD i (0, 0, 0)).2.1 ∧ (bs.getD i (0, 0, 0)).2.1 < n) ∧ (-1000000000 ≤ (bs.getD i (0, 0, 0)).2.2 ∧ (bs.getD i (0, 0, 0)).2.2 ≤ 1000000000)

theorem getD_set_bound {vs : List Int} {j : Nat} {z K : Int} (h : ∀ v ∈ vs, -K ≤ v ∧ v ≤ 0) (hz : -K ≤ z ∧ z ≤ 0) : ∀ v ∈ vs.set j z, -K ≤ v ∧ v ≤ 0 := by
  intro v hv
  rcases List.mem_or_eq_of_mem_set hv with h1 | h1
  · exact h v h1
  · subst h1; exact hz
theorem getD_mem_bound {vs : List Int} {j : Nat} {K : Int} (hK : 0 ≤ K) (h : ∀ v ∈ vs, -K ≤ v ∧ v ≤ 0) : -K ≤ vs.getD j 0 ∧ vs.getD j 0 ≤ 0 := by
  by_cases hj : j < vs.length
  · have e : vs.getD j 0 = vs[j] := by simp [hj]
    rw [e]; exact h _ (List.getElem_mem hj)
  · have e : vs.getD j 0 = 0 := by simp [Nat.not_lt.1 hj]
    rw [e]; omega

/-- What a pass keeps: the two rows, and what lies below block B. -/
structure LowInv (w0 : World) (B base g1 g2 n c1 c2 : Nat) (st : LowSt) (K : Int) (W : World) : Prop where
  v : W.ownsRow base 3 1 (.slice (some ⟨g1, 0, none⟩) n c1) n (i64s st.vs)
  l : W.ownsRow base 3 1 (.slice (some ⟨g2, 0, none⟩) n c2) n (i64s st.ls)
  bound : ∀ x ∈ st.vs, -K ≤ x ∧ x ≤ 0
  below : Below B w0 W
theorem LowInv.vlen {w0 W : World} {B base g1 g2 n c1 c2 : Nat} {st : LowSt} {K : Int} (h : LowInv w0 B base g1 g2 n c1 c2 st K W) : st.vs.length = n := by have := h.v.1; rw [i64s_len, Nat.mul_one] at this; exact this
theorem LowInv.llen {w0 W : World} {B base g1 g2 n c1 c2 : Nat} {st : LowSt} {K : Int} (h : LowInv w0 B base g1 g2 n c1 c2 st K W) : st.ls.length = n := by have := h.l.1; rw [i64s_len, Nat.mul_one] at this; exact this
theorem LowInv.vcell {w0 W : World} {B base g1 g2 n c1 c2 : Nat} {st : LowSt} {K : Int} (h : LowInv w0 B base g1 g2 n c1 c2 st K W) {j : Nat} (hj : j < n) : W.cell? ⟨g1, j, none⟩ = some (.int .i64 (st.vs.getD j 0)) ∧ W.frozen? ⟨g1, j, none⟩ = false :=
  ⟨by rw [h.v.cellAt j (by omega), i64s_get (by rw [h.vlen]; exact hj)], h.v.frozenAt j⟩
theorem LowInv.lcell {w0 W : World} {B base g1 g2 n c1 c2 : Nat} {st : LowSt} {K : Int} (h : LowInv w0 B base g1 g2 n c1 c2 st K W) {j : Nat} (hj : j < n) : W.cell? ⟨g2, j, none⟩ = some (.int .i64 (st.ls.getD j 0)) ∧ W.frozen? ⟨g2, j, none⟩ = false :=
  ⟨by rw [h.l.cellAt j (by omega), i64s_get (by rw [h.llen]; exact hj)], h.l.frozenAt j⟩
theorem LowInv.lt {w0 W : World} {B base g1 g2 n c1 c2 : Nat} {st : LowSt} {K : Int} (h : LowInv w0 B base g1 g2 n c1 c2 st K W) : (base ≤ g1 ∧ g1 < W.heap.size) ∧ (base ≤ g2 ∧ g2 < W.heap.size) := ⟨h.v.lt g1 rfl, h.l.lt g2 rfl⟩
theorem LowInv.alloc {w0 W : World} {B base g1 g2 n c1 c2 : Nat} {st : LowSt} {K : Int} (h : LowInv w0 B base g1 g2 n c1 c2 st K W) (hB : B ≤ W.heap.size) (o : Obj) : LowInv w0 B base g1 g2 n c1 c2 st K (W.alloc o) :=
  ⟨h.v.alloc o, h.l.alloc o, h.bound, h.below.alloc hB o⟩
theorem LowInv.drewN {w0 W : World} {B base g1 g2 n c1 c2 : Nat} {st : LowSt} {K : Int} (h : LowInv w0 B base g1 g2 n c1 c2 st K W) (q : Nat) : LowInv w0 B base g1 g2 n c1 c2 st K (W.drewN q) :=
  ⟨h.v, h.l, h.bound, below_drewN h.below q⟩
theorem LowInv.more {w0 W : World} {B base g1 g2 n c1 c2 : Nat} {st : LowSt} {K K' : Int} (h : LowInv w0 B base g1 g2 n c1 c2 st K W) (hK : K ≤ K') : LowInv w0 B base g1 g2 n c1 c2 st K' W :=
  ⟨h.v, h.l, fun x hx => ⟨by have := (h.bound x hx).1; omega, (h.bound x hx).2⟩, h.below⟩
theorem LowInv.lower {w0 W : World} {B base g1 g2 n c1 c2 : Nat} {st : LowSt} {K : Int} (h : LowInv w0 B base g1 g2 n c1 c2 st K W) (hB : B ≤ base) (hne : g1 ≠ g2) (j : Nat) (z i low : Int) (hz : -K ≤ z ∧ z ≤ 0) :
    LowInv w0 B base g1 g2 n c1 c2 ⟨st.vs.set j z, st.ls.set j i, low⟩ K ((W.setCell ⟨g1, j, none⟩ (.int .i64 z)).setCell ⟨g2, j, none⟩ (.int .i64 i)) := by
  obtain ⟨a1, a2⟩ := h.v.stored j (.int .i64 z)
  have b1 := h.l.kept a2 (.inr (by simp [Value.ownBlock]; exact Ne.symm hne))
  obtain ⟨d1, d2⟩ := b1.stored j (.int .i64 i)
  have e1 := a1.kept d2 (.inr (by simp [Value.ownBlock]; exact hne))
  rw [i64s_set] at e1 d1
  exact ⟨e1, d1, getD_set_bound h.bound hz, (h.below.setCell (p := ⟨g1, j, none⟩) (Nat.le_trans hB h.lt.1.1) _).setCell (p := ⟨g2, j, none⟩) (Nat.le_trans hB h.lt.2.1) _⟩

def LowDone (w0 : World) (B base g1 g2 n c1 c2 : Nat) (st : LowSt) (K : Int) (e : Ending) (w' : World) : Prop :=
  e = .returned (.int .i64 st.low) ∧ LowInv w0 B base g1 g2 n c1 c2 st K w'

set_option maxHeartbeats 1000000 in
theorem lowerOnce_any (B base g1 g2 n c1 c2 len cap : Nat) (A : Option Addr) (bs : List (Int × Int × Int)) (st0 : LowSt) (K : Int) (w0 w : World) (hn : bs.length = len) (hl : len ≤ 200) (hok : BndsOk n bs) (hbn : Bnds w0 B A bs)
    (hI : LowInv w0 B base g1 g2 n c1 c2 ⟨st0.vs, st0.ls, -1⟩ K w) (hB : B ≤ base) (hne : g1 ≠ g2) (hK0 : 0 ≤ K) (hK : K ≤ 100000000000000) :
    Calls Try.prog 42 #[.slice (some ⟨g1, 0, none⟩) n c1, .slice (some ⟨g2, 0, none⟩) n c2, .slice A len cap] w (LowDone w0 B base g1 g2 n c1 c2 (lowAll bs st0.vs st0.ls) (K + len * 1000000000)) := by
  have HN := hide hn
  have HOK := hide hok
  have HD := hide hbn
  have HI := hide hI
  have HNE := hide hne
  clear hn hok hbn hI hne
  go_enter Try.func42, Try.ntmps42
  go_wp2
  go_loopw [7, 13] (fun lw i wr => ∃ k : Nat, k ≤ len ∧ i = .int .i64 k ∧ lw = .int .i64 (lowTo bs st0.vs st0.ls k).low ∧ Hid (LowInv w0 B base g1 g2 n c1 c2 (lowTo bs st0.vs st0.ls k) (K + k * 1000000000) wr)) (fun _ i _ => len - (intOf i).toNat)
  case atStart => exact ⟨0, by omega, rfl, rfl, hide (HI.out.more (by omega))⟩
  case round =>
    obtain ⟨k, hk, rfl, rfl, HR⟩ := hrel
    by_cases hlt : k < len
    · obtain ⟨b, off, rfl, hb, hc⟩ := HD.out (by rw [HN.out]; omega)
      obtain ⟨hx, hy, hz⟩ := hc k (by rw [HN.out]; exact hlt)
      have qx := (HR.out.below.cell (by exact hb)).trans hx
      have qy := (HR.out.below.cell (by exact hb)).trans hy
      have qz := (HR.out.below.cell (by exact hb)).trans hz
      obtain ⟨⟨x0, x1⟩, ⟨y0, y1⟩, ⟨z0, z1⟩⟩ := HOK.out k (by rw [HN.out]; exact hlt)
      obtain ⟨x, hxe⟩ := Int.eq_ofNat_of_zero_le x0
      obtain ⟨y, hye⟩ := Int.eq_ofNat_of_zero_le y0
      obtain ⟨z, hze⟩ : ∃ z, z = (bs.getD k (0, 0, 0)).2.2 := ⟨_, rfl⟩
      have HFX : Hid (bFr bs k = x) := by show bFr bs k = x; unfold bFr; rw [hxe]; rfl
      have HFY : Hid (bTo bs k = y) := by show bTo bs k = y; unfold bTo; rw [hye]; rfl
      have HFZ : Hid (bMo bs k = z) := by show bMo bs k = z; unfold bMo; rw [hze]
      rw [hxe] at qx x1
      rw [hye] at qy y1
      rw [← hze] at qz z0 z1
      obtain ⟨st, hst⟩ : ∃ st, st = lowTo bs st0.vs st0.ls k := ⟨_, rfl⟩
      have HST : Hid (lowTo bs st0.vs st0.ls (k + 1) = lowStep bs st k) := by show lowTo bs st0.vs st0.ls (k + 1) = _; rw [hst]; rfl
      rw [← hst] at HR ⊢
      have hxn : x < n := by omega
      have hyn : y < n := by omega
      obtain ⟨cx, _⟩ := HR.out.vcell hxn
      obtain ⟨cy, fy⟩ := HR.out.vcell hyn
      obtain ⟨cl, fl⟩ := HR.out.lcell hyn
      have bx := getD_mem_bound (j := x) (by omega) HR.out.bound
      have by' := getD_mem_bound (j := y) (by omega) HR.out.bound
      obtain ⟨vx, hvx⟩ : ∃ v, v = st.vs.getD x 0 := ⟨_, rfl⟩
      obtain ⟨vy, hvy⟩ : ∃ v, v = st.vs.getD y 0 := ⟨_, rfl⟩
      rw [← hvx] at cx bx
      rw [← hvy] at cy by'
      have HVX := hide hvx
      have HVY := hide hvy
      have hsz := HR.out.below.size
      obtain ⟨⟨lg1, lg1'⟩, ⟨lg2, lg2'⟩⟩ := HR.out.lt
      have hs2 : B ≤ wr.heap.size := by omega
      have hbr : b < wr.heap.size := by omega
      have ng1 : ¬ g1 = wr.heap.size := by omega
      have ng2 : ¬ g2 = wr.heap.size := by omega
      have ngg : ¬ g1 = g2 := HNE.out
      have ngg' : ¬ g2 = g1 := fun e => HNE.out e.symm
      clear hx hy hz hxe hye hze hst hvx hvy hc
      by_cases hlow : vx + z < vy
      · have HS : Hid (lowStep bs st k = ⟨st.vs.set y (vx + z), st.ls.set y k, y⟩) := by
          show lowStep bs st k = _
          unfold lowStep
          rw [HFX.out, HFY.out, HFZ.out, ← HVX.out, ← HVY.out, if_pos hlow]
        go_wp2
        go_quiet (fail)
        go_wp2
        go_roundw
        case rel => exact ⟨k + 1, by omega, by go_num, by rw [HST.out, HS.out], by rw [HST.out, HS.out]; exact hide (((((HR.out.alloc hs2 _).drewN _).more (by omega)).lower hB HNE.out y (vx + z) k y (by omega)))⟩
        case measure => simp [intOf]; omega
      · have HS : Hid (lowStep bs st k = st) := by
          show lowStep bs st k = _
          unfold lowStep
          rw [HFX.out, HFY.out, HFZ.out, ← HVX.out, ← HVY.out, if_neg hlow]
        go_wp2
        go_quiet (fail)
        go_wp2
        go_roundw
        case rel => exact ⟨k + 1, by omega, by go_num, by rw [HST.out, HS.out], by rw [HST.out, HS.out]; exact hide (((HR.out.alloc hs2 _).drewN _).more (by omega))⟩
        case measure => simp [intOf]; omega
    · obtain rfl : k = len := by omega
      have HE : Hid (lowTo bs st0.vs st0.ls k = lowAll bs st0.vs st0.ls) := by show lowTo bs st0.vs st0.ls k = _; unfold lowAll; rw [HN.out]
      go_wp2
      go_ret
      exact ⟨ret_int (by rw [HE.out]), by rw [← HE.out]; exact HR.out⟩
end Go.Proofs.Ytjomcobhinnikaa
