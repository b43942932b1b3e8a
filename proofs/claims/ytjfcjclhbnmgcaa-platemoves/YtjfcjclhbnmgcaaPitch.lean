/- Contracts of number.exponentsOf, CheckPitch, pitchOf and Normal. -/
import Derived.Test.YtjfcjclhbnmgcaaSides
import Derived.Test.YtjfcjclhbnmgcaaGcd
import Derived.RegionTactic
import Derived.StillTailTactics
import Derived.Deep.RegionHeld3
namespace Go.Proofs.Ytjfcjclhbnmgcaa
open Go.RowKit

/-- Block g is just the cells cs, none frozen. -/
def Blk (w : World) (g : Nat) (t : TypeId) (cs : Array Value) : Prop := w.heap[g]? = some (.cells cs t (0, 0))
theorem Blk.lt {w : World} {g : Nat} {t : TypeId} {cs : Array Value} (h : Blk w g t cs) : g < w.heap.size := by
  rcases Nat.lt_or_ge g w.heap.size with hlt | hge
  · exact hlt
  · unfold Blk at h; rw [Array.getElem?_eq_none hge] at h; cases h
theorem Blk.cell {w : World} {g : Nat} {t : TypeId} {cs : Array Value} (h : Blk w g t cs) (i : Nat) : w.cell? ⟨g, i, none⟩ = cs[i]? := cell_of_row w g i cs t (0, 0) h
theorem Blk.frozen {w : World} {g : Nat} {t : TypeId} {cs : Array Value} (h : Blk w g t cs) (i : Nat) : w.frozen? ⟨g, i, none⟩ = false := frozen_of_row w g i cs t h
theorem Blk.new (w : World) (g : Nat) (t : TypeId) (cs : Array Value) (hg : w.heap.size = g) : Blk (w.alloc (.cells cs t)) g t cs := by subst hg; exact heap_alloc_new w _
theorem Blk.drewN {w : World} {g : Nat} {t : TypeId} {cs : Array Value} (h : Blk w g t cs) (n : Nat) : Blk (w.drewN n) g t cs := h
theorem Blk.drew {w : World} {g : Nat} {t : TypeId} {cs : Array Value} (h : Blk w g t cs) : Blk w.drew g t cs := h
theorem Blk.alloc {w : World} {g : Nat} {t : TypeId} {cs : Array Value} (h : Blk w g t cs) (o : Obj) : Blk (w.alloc o) g t cs := (Below.heap_alloc w o g h.lt).trans h
theorem Blk.below {B : Nat} {w w' : World} {g : Nat} {t : TypeId} {cs : Array Value} (h : Blk w g t cs) (hb : Below B w w') (hg : g < B) : Blk w' g t cs := (hb.block g hg).trans h
theorem Blk.kept {w w' : World} {g : Nat} {t : TypeId} {cs : Array Value} (h : Blk w g t cs) (hb : Below w.heap.size w w') : Blk w' g t cs := h.below hb h.lt
theorem Blk.grown {w w' : World} {g : Nat} {t : TypeId} {cs : Array Value} {row : Option Nat} (h : Blk w g t cs) (hb : w.grownBy w' row) (hg : some g ≠ row) : Blk w' g t cs := (hb.block g h.lt hg).trans h
theorem Blk.far {w : World} {g : Nat} {t : TypeId} {cs : Array Value} (h : Blk w g t cs) {p : Addr} (hp : g ≠ p.block) (u : Value) : Blk (w.setCell p u) g t cs := (Below.heap_setCell w p u g hp).trans h
theorem Blk.set {w : World} {g : Nat} {t : TypeId} {cs : Array Value} (h : Blk w g t cs) (i : Nat) (u : Value) : Blk (w.setCell ⟨g, i, none⟩ u) g t (cs.setIfInBounds i u) := by
  unfold Blk at h ⊢
  simp [World.setCell, Array.getElem?_modify, h]
theorem Blk.ne {w : World} {g g' : Nat} {t t' : TypeId} {cs cs' : Array Value} (h : Blk w g t cs) (h' : Blk w g' t' cs') (hne : t ≠ t') : g ≠ g' := by
  rintro rfl
  unfold Blk at h h'
  rw [h] at h'
  injection h' with h'
  injection h' with _ ht
  exact hne ht
theorem Blk.c1 {w : World} {g : Nat} {t : TypeId} {x0 : Value} (h : Blk w g t #[x0]) : w.cell? ⟨g, 0, none⟩ = some x0 ∧ w.frozen? ⟨g, 0, none⟩ = false := ⟨h.cell 0, h.frozen 0⟩
theorem Blk.c2 {w : World} {g : Nat} {t : TypeId} {x0 x1 : Value} (h : Blk w g t #[x0, x1]) : (w.cell? ⟨g, 0, none⟩ = some x0 ∧ w.cell? ⟨g, 1, none⟩ = some x1) ∧ w.frozen? ⟨g, 0, none⟩ = false ∧ w.frozen? ⟨g, 1, none⟩ = false :=
  ⟨⟨h.cell 0, h.cell 1⟩, h.frozen 0, h.frozen 1⟩
theorem Blk.c3 {w : World} {g : Nat} {t : TypeId} {x0 x1 x2 : Value} (h : Blk w g t #[x0, x1, x2]) : (w.cell? ⟨g, 0, none⟩ = some x0 ∧ w.cell? ⟨g, 1, none⟩ = some x1 ∧ w.cell? ⟨g, 2, none⟩ = some x2) ∧
    w.frozen? ⟨g, 0, none⟩ = false ∧ w.frozen? ⟨g, 1, none⟩ = false ∧ w.frozen? ⟨g, 2, none⟩ = false := ⟨⟨h.cell 0, h.cell 1, h.cell 2⟩, h.frozen 0, h.frozen 1, h.frozen 2⟩
theorem Blk.c4 {w : World} {g : Nat} {t : TypeId} {x0 x1 x2 x3 : Value} (h : Blk w g t #[x0, x1, x2, x3]) : (w.cell? ⟨g, 0, none⟩ = some x0 ∧ w.cell? ⟨g, 1, none⟩ = some x1 ∧ w.cell? ⟨g, 2, none⟩ = some x2 ∧ w.cell? ⟨g, 3, none⟩ = some x3) ∧
    w.frozen? ⟨g, 0, none⟩ = false ∧ w.frozen? ⟨g, 1, none⟩ = false ∧ w.frozen? ⟨g, 2, none⟩ = false ∧ w.frozen? ⟨g, 3, none⟩ = false := ⟨⟨h.cell 0, h.cell 1, h.cell 2, h.cell 3⟩, h.frozen 0, h.frozen 1, h.frozen 2, h.frozen 3⟩

theorem size_set (w : World) (p : Addr) (u : Value) : (w.setCell p u).heap.size = w.heap.size := by simp [World.setCell]
theorem old_cells {W w1 : World} (hb : Below W.heap.size W w1) : (∀ b o, b < W.heap.size → w1.cell? ⟨b, o, none⟩ = W.cell? ⟨b, o, none⟩) ∧ (∀ b o, b < W.heap.size → w1.frozen? ⟨b, o, none⟩ = W.frozen? ⟨b, o, none⟩) :=
  ⟨fun b o h => hb.cell (p := ⟨b, o, none⟩) h, fun b o h => hb.frozen (p := ⟨b, o, none⟩) h⟩
theorem below_two (w : World) (o o' : Obj) : Below w.heap.size w ((w.alloc o).alloc o') := ((Below.refl _ _).alloc (Nat.le_refl _) o).alloc (by simp) o'

set_option maxHeartbeats 400000 in
theorem exponentsOf_any (a b c d : Int) (w : World) :
    Calls Try.prog 121 #[.agg #[.int .i64 a, .int .i64 b, .int .i64 c, .int .i64 d]] w fun e w' => e = .returned (.agg #[.int .i64 a, .int .i64 b, .int .i64 c]) ∧ Below w.heap.size w w' := by
  go_enter Try.func121, Try.ntmps121
  go_wp2
  exact bodyPost_ret (v := .agg #[.int .i64 a, .int .i64 b, .int .i64 c]) (by simp [results, Try.results121, go_sem]) rfl ⟨rfl, below_two _ _ _⟩

def okE (x : Int) : Prop := -400 ≤ x ∧ x ≤ 400
def okP (a b c d : Int) : Prop := (1 ≤ d ∧ d ≤ 12) ∧ okE a ∧ okE b ∧ okE c
instance (x : Int) : Decidable (okE x) := inferInstanceAs (Decidable (_ ∧ _))
instance (a b c d : Int) : Decidable (okP a b c d) := inferInstanceAs (Decidable (_ ∧ _))
def pitchErr (a b c d : Int) : Int := if okP a b c d then 0 else 2
def okTo (a b c : Int) (k : Nat) : Prop := (0 < k → okE a) ∧ (1 < k → okE b) ∧ (2 < k → okE c)
theorem okTo_round (a b c : Int) (k : Nat) (hk : k < 3) :
    ∃ x : Int, (∀ w : World, (Instr.index 167 (.agg #[.int .i64 a, .int .i64 b, .int .i64 c]) (.int .i64 k)).run Try.prog w = .ok (.int .i64 x) w) ∧ (okTo a b c k → okE x → okTo a b c (k + 1)) ∧ (okE a ∧ okE b ∧ okE c → okE x) := by
  match k, hk with
  | 0, _ => exact ⟨a, fun _ => by kernel_rfl, fun _ h => ⟨fun _ => h, fun h => by omega, fun h => by omega⟩, fun h => h.1⟩
  | 1, _ => exact ⟨b, fun _ => by kernel_rfl, fun h0 h => ⟨fun _ => h0.1 (by omega), fun _ => h, fun h => by omega⟩, fun h => h.2.1⟩
  | 2, _ => exact ⟨c, fun _ => by kernel_rfl, fun h0 h => ⟨fun _ => h0.1 (by omega), fun _ => h0.2.1 (by omega), fun _ => h⟩, fun h => h.2.2⟩

set_option maxHeartbeats 1000000 in
theorem checkPitch_any (a b c d : Int) (w : World) :
    Calls Try.prog 119 #[.agg #[.int .i64 a, .int .i64 b, .int .i64 c, .int .i64 d]] w fun e w' => e = .returned (.int .i64 (pitchErr a b c d)) ∧ Below w.heap.size w w' := by
  by_cases h1 : d < 1
  · have hE : pitchErr a b c d = 2 := if_neg fun h => by have := h.1; omega
    rw [hE]
    clear hE
    go_enter Try.func119, Try.ntmps119
    go_wp2
    go_ret
    exact ⟨rfl, (Below.refl _ _).alloc (Nat.le_refl _) _⟩
  · by_cases h2 : 12 < d
    · have hE : pitchErr a b c d = 2 := if_neg fun h => by have := h.1; omega
      rw [hE]
      clear hE
      go_enter Try.func119, Try.ntmps119
      go_wp2
      go_ret
      exact ⟨rfl, (Below.refl _ _).alloc (Nat.le_refl _) _⟩
    · go_enter Try.func119, Try.ntmps119
      go_wp2_with fail
      refine (exponentsOf_any a b c d _).mono ?_
      rintro e w1 ⟨rfl, hb1⟩
      have HB := hide (((Below.refl _ _).alloc (Nat.le_refl w.heap.size) _).trans (hb1.mono (by simp)))
      clear hb1
      go_wp2
      go_loopw [15] (fun i wr => ∃ k : Nat, k ≤ 3 ∧ i = .int .i64 k ∧ Hid (okTo a b c k) ∧ wr = w1) (fun i _ => 3 - (intOf i).toNat)
      case atStart => exact ⟨0, by omega, rfl, ⟨fun h => by omega, fun h => by omega, fun h => by omega⟩, rfl⟩
      case round =>
        obtain ⟨k, hk, rfl, HO, rfl⟩ := hrel
        by_cases hlt : k < 3
        · obtain ⟨x, hidx, hyes, hno⟩ := okTo_round a b c k hlt
          have HY := hide hyes
          have HN := hide hno
          clear hyes hno
          by_cases hx : okE x
          · have hbx : inB x 400 = true := inB_yes hx
            have HK := hide (HY.out HO.out hx)
            clear hx
            go_wp2_with (go_at_call 134; refine (within_any _ _ _ (by omega) (by omega)).mono ?_; rintro e w' ⟨rfl, rfl⟩)
            go_roundw
            case rel => exact ⟨k + 1, by omega, by go_num, HK, trivial⟩
            case measure => simp [intOf]; omega
          · have hbx : inB x 400 = false := inB_no hx
            have HE : Hid (pitchErr a b c d = 2) := if_neg fun h => hx (HN.out h.2)
            clear hx
            go_wp2_with (go_at_call 134; refine (within_any _ _ _ (by omega) (by omega)).mono ?_; rintro e w' ⟨rfl, rfl⟩)
            go_ret
            exact ⟨ret_int HE.out.symm, HB.out⟩
        · obtain rfl : k = 3 := by omega
          have HE : Hid (pitchErr a b c d = 0) := if_pos ⟨⟨by omega, by omega⟩, HO.out.1 (by omega), HO.out.2.1 (by omega), HO.out.2.2 (by omega)⟩
          go_wp2
          go_ret
          exact ⟨ret_int HE.out.symm, HB.out⟩

def pitchV (a b c d : Int) : Value := .agg #[.int .i64 a, .int .i64 b, .int .i64 c, .int .i64 d]
def gcdP (a b c d : Int) : Nat := gcdAll [a, b, c, d]
theorem gcdP_pos {a b c d : Int} (h : 1 ≤ d) : 1 ≤ gcdP a b c d := by
  unfold gcdP gcdAll
  simp only [List.foldl]
  exact Nat.gcd_pos_of_pos_right _ (by omega)
theorem gcdP_le {a b c d : Int} (h : 1 ≤ d) : (gcdP a b c d : Int) ≤ d := by
  unfold gcdP gcdAll
  simp only [List.foldl]
  have := Nat.gcd_le_right (((Nat.gcd 0 a.natAbs).gcd b.natAbs).gcd c.natAbs) (n := d.natAbs) (by omega)
  omega
/-- The pitch with exponents a, b, c over d (above 0) in lowest terms is valid. -/
def fitP (a b c d : Int) : Prop := okP (a.tdiv (gcdP a b c d)) (b.tdiv (gcdP a b c d)) (c.tdiv (gcdP a b c d)) (d / (gcdP a b c d))
instance (a b c d : Int) : Decidable (fitP a b c d) := inferInstanceAs (Decidable (okP _ _ _ _))
/-- Its parts, or zeros, and its error. -/
def p2 (a b c d : Int) : Int := if fitP a b c d then a.tdiv (gcdP a b c d) else 0
def p3 (a b c d : Int) : Int := if fitP a b c d then b.tdiv (gcdP a b c d) else 0
def p5 (a b c d : Int) : Int := if fitP a b c d then c.tdiv (gcdP a b c d) else 0
def pd (a b c d : Int) : Int := if fitP a b c d then d / (gcdP a b c d) else 0
def pe (a b c d : Int) : Int := if fitP a b c d then 0 else 8

set_option maxHeartbeats 1000000 in
set_option maxRecDepth 100000 in
theorem pitchOf_any (a b c d : Int) (w : World) (ha : -1000000000000 ≤ a ∧ a ≤ 1000000000000) (hb : -1000000000000 ≤ b ∧ b ≤ 1000000000000) (hc : -1000000000000 ≤ c ∧ c ≤ 1000000000000) (hd : 1 ≤ d ∧ d ≤ 1000000000000) :
    Calls Try.prog 120 #[.agg #[.int .i64 a, .int .i64 b, .int .i64 c], .int .i64 d] w fun e w' => e = .returned (.tuple #[.agg #[.int .i64 (p2 a b c d), .int .i64 (p3 a b c d), .int .i64 (p5 a b c d), .int .i64 (pd a b c d)], .int .i64 (pe a b c d)]) ∧ Below w.heap.size w w' := by
  have hg := gcdP_pos (a := a) (b := b) (c := c) hd.1
  have hgl := gcdP_le (a := a) (b := b) (c := c) hd.1
  go_enter Try.func120, Try.ntmps120
  go_wp2_with fail
  refine (commonDivisor_any _ 4 _ [a, b, c, d] _ rfl (by omega) ?_ ?_ (by have e : gcdAll [a, b, c, d] = gcdP a b c d := rfl; omega)).mono ?_
  · intro j hj
    rw [World.cell?_alloc_at _ _ _ _ (by simp)]
    match j, hj with
    | 0, _ => rfl
    | 1, _ => rfl
    | 2, _ => rfl
    | 3, _ => rfl
  · intro z hz
    simp at hz
    omega
  rintro e w1 ⟨rfl, n, rfl⟩
  have eg : gcdAll [a, b, c, d] = gcdP a b c d := rfl
  rw [eg]
  obtain ⟨g, hge⟩ : ∃ g, g = gcdP a b c d := ⟨_, rfl⟩
  have EV : Hid (g = gcdP a b c d) := hge
  rw [← hge] at hg hgl ⊢
  clear eg hge
  go_wp2
  go_region
  by_cases hok : okP (a.tdiv g) (b.tdiv g) (c.tdiv g) (d / g)
  · have HE : Hid (pitchErr (a.tdiv g) (b.tdiv g) (c.tdiv g) (d / g) = 0) := if_pos hok
    have HV : Hid ((.tuple #[.agg #[.int .i64 (p2 a b c d), .int .i64 (p3 a b c d), .int .i64 (p5 a b c d), .int .i64 (pd a b c d)], .int .i64 (pe a b c d)] : Value) = .tuple #[pitchV (a.tdiv g) (b.tdiv g) (c.tdiv g) (d / g), .int .i64 0]) := by
      have hf : fitP a b c d := by unfold fitP; rw [← EV.out]; exact hok
      show _ = _
      unfold p2 p3 p5 pd pe pitchV
      rw [if_pos hf, if_pos hf, if_pos hf, if_pos hf, if_pos hf, ← EV.out]
    clear hok EV
    go_wp2_with fail
    refine (checkPitch_any _ _ _ _ _).mono ?_
    rintro e w2 ⟨rfl, hb2⟩
    rw [HE.out]
    obtain ⟨hc2, hf2⟩ := old_cells hb2
    have hsz := hb2.size
    have HB := hide hb2
    clear hb2
    have hsz2 : w.heap.size + 4 ≤ w2.heap.size := by simpa using hsz
    go_wp2
    refine bodyPost_ret (v := .tuple #[pitchV (a.tdiv g) (b.tdiv g) (c.tdiv g) (d / g), .int .i64 0]) (by simp [results, Try.results120, go_sem, hc2, pitchV]) rfl ⟨by rw [HV.out], ?_⟩
    have hB : Below w.heap.size w w2 := by
      refine Below.trans ?_ (HB.out.mono (by simp; omega))
      repeat (first | exact Below.refl _ _ | refine Below.alloc ?_ (by first | omega | (simp; done) | (simp; omega)) _ | refine below_drewN ?_ _)
    repeat (first | exact hB | refine Below.setCell ?_ (by simp) _)
  · have HE : Hid (pitchErr (a.tdiv g) (b.tdiv g) (c.tdiv g) (d / g) = 2) := if_neg hok
    have HV : Hid ((.tuple #[.agg #[.int .i64 (p2 a b c d), .int .i64 (p3 a b c d), .int .i64 (p5 a b c d), .int .i64 (pd a b c d)], .int .i64 (pe a b c d)] : Value) = .tuple #[pitchV 0 0 0 0, .int .i64 8]) := by
      have hf : ¬ fitP a b c d := by unfold fitP; rw [← EV.out]; exact hok
      show _ = _
      unfold p2 p3 p5 pd pe pitchV
      rw [if_neg hf, if_neg hf, if_neg hf, if_neg hf, if_neg hf]
    clear hok EV
    go_wp2_with fail
    refine (checkPitch_any _ _ _ _ _).mono ?_
    rintro e w2 ⟨rfl, hb2⟩
    rw [HE.out]
    obtain ⟨hc2, hf2⟩ := old_cells hb2
    have hsz := hb2.size
    have HB := hide hb2
    clear hb2
    have hsz2 : w.heap.size + 4 ≤ w2.heap.size := by simpa using hsz
    go_wp2
    refine bodyPost_ret (v := .tuple #[pitchV 0 0 0 0, .int .i64 8]) (by simp [results, Try.results120, go_sem, hc2, pitchV]) rfl ⟨by rw [HV.out], ?_⟩
    have hB : Below w.heap.size w w2 := by
      refine Below.trans ?_ (HB.out.mono (by simp; omega))
      repeat (first | exact Below.refl _ _ | refine Below.alloc ?_ (by first | omega | (simp; done) | (simp; omega)) _ | refine below_drewN ?_ _)
    repeat (first | exact hB | refine Below.setCell ?_ (by simp) _)
end Go.Proofs.Ytjfcjclhbnmgcaa
