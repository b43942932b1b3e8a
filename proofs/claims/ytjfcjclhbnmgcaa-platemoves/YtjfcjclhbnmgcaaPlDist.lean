/- The contract of plate.Distribute. Every bound is a premise of the theorem that bears it. -/
import Derived.Test.YtjfcjclhbnmgcaaPlLoad
import Derived.Laws.MakeOwn
import Derived.BigQuiet
import Derived.Deep.QuietTactic
namespace Go.Proofs.Ytjfcjclhbnmgcaa
open Go.RowKit
set_option linter.unusedVariables false
set_option linter.unusedSimpArgs false

/-- A row of numbers as cells. -/
def slab (n : Nat) (f : Nat → Int) : List Value := (List.range n).map fun j => .int .i64 (f j)
theorem slab_get {n : Nat} {f : Nat → Int} {j : Nat} (h : j < n) : (slab n f)[j]? = some (.int .i64 (f j)) := by simp [slab, h]
theorem slab_set (n : Nat) (f : Nat → Int) (j : Nat) (v : Int) : (slab n f).set j (.int .i64 v) = slab n (fun i => if i = j then v else f i) := by
  apply List.ext_getElem?
  intro i
  rw [List.getElem?_set]
  unfold slab
  by_cases h : j = i
  · subst h
    rw [if_pos rfl]
    by_cases h2 : j < n <;> simp [h2]
  · rw [if_neg h]
    by_cases h2 : i < n <;> simp [h2, Ne.symm h]
theorem slab_congr {n : Nat} {f g : Nat → Int} (h : ∀ j, j < n → f j = g j) : slab n f = slab n g := by
  unfold slab
  apply List.map_congr_left
  intro j hj
  rw [h j (by simpa using hj)]
theorem slab_cell {w : World} {g n j : Nat} {t : TypeId} {f : Nat → Int} (h : Blk w g t (slab n f).toArray) (hj : j < n) : w.cell? ⟨g, j, none⟩ = some (.int .i64 (f j)) := by
  rw [h.cell j]
  simpa using slab_get hj
/-- Rows of two numbers, the first k of them written. -/
def two (x y : Nat → Int) (k j : Nat) : Int := if j < 2 * k then (if j % 2 = 0 then x (j / 2) else y (j / 2)) else 0
theorem two_zero (x y : Nat → Int) (n : Nat) : slab n (two x y 0) = slab n (fun _ => 0) := slab_congr fun j _ => if_neg (by omega)
theorem two_step (x y : Nat → Int) (n k : Nat) : ((slab n (two x y k)).set (k * 2) (.int .i64 (x k))).set (k * 2 + 1) (.int .i64 (y k)) = slab n (two x y (k + 1)) := by
  rw [slab_set, slab_set]
  refine slab_congr fun j _ => ?_
  unfold two
  by_cases h1 : j = k * 2 + 1
  · subst h1
    rw [if_pos rfl, if_pos (by omega), if_neg (by omega), show (k * 2 + 1) / 2 = k by omega]
  · rw [if_neg h1]
    by_cases h2 : j = k * 2
    · subst h2
      rw [if_pos rfl, if_pos (by omega), if_pos (by omega), show k * 2 / 2 = k by omega]
    · rw [if_neg h2]
      by_cases h3 : j < 2 * k
      · simp only [if_pos h3, if_pos (show j < 2 * (k + 1) by omega)]
      · rw [if_neg h3, if_neg (show ¬ j < 2 * (k + 1) by omega)]
theorem two_at (x y : Nat → Int) {n k i : Nat} (h : i < k) : two x y k (i * 2) = x i ∧ two x y k (i * 2 + 1) = y i := by
  unfold two
  rw [if_pos (by omega), if_pos (by omega), if_pos (by omega), if_neg (by omega), show i * 2 / 2 = i by omega, show (i * 2 + 1) / 2 = i by omega]
  exact ⟨rfl, rfl⟩
theorem made_two (n : Nat) : madeCells #[.int .i64 0, .int .i64 0] (n * 2) = (slab (n * 2) (fun _ => 0)).toArray := by
  unfold madeCells slab
  apply Array.ext'
  simp
  intro j hj
  rcases Nat.mod_two_eq_zero_or_one j with h | h <;> simp [h]
theorem info_frac : (Try.prog.info? 65).map (fun i => (i.zero, i.size, i.bytes)) = some (some (.agg #[.int .i64 0, .int .i64 0]), 2, 16) := by kernel_rfl
theorem run_make_frac (n : Nat) (hn : n ≤ 1000) (W : World) : (Instr.makeSlice 53 (.int .i64 (n : Int)) (.int .i64 (n : Int))).run Try.prog W = .ok (.slice (some ⟨W.heap.size, 0, none⟩) n n) (W.alloc (.cells (slab (n * 2) (fun _ => 0)).toArray 65)) := by
  obtain ⟨i0, hi, hz0, hz1, hz2⟩ := info_parts info_frac
  have h := run_make (P := Try.prog) W 53 65 i0 _ Try.underlying53 hi hz0 .i64 .i64 n n (by omega) (by omega) (by rw [hz2]; omega) (by omega)
  rw [hz1] at h
  rw [h]
  simp only [Value.cells, Int.toNat_natCast]
  rw [made_two]

/-- The bars next to the i-th of n. -/
def barP (y : Nat → Int) (i : Nat) : Int := if 0 < i then y (i - 1) else y i - 1
def barQ (y : Nat → Int) (n i : Nat) : Int := if i + 1 < n then y (i + 1) else y i + 1
def barX (z : Nat → Nat → Int) (m : Nat) (y : Nat → Int) (n i : Nat) : Int := (bnum z (barP y i) (y i) (barQ y n i) m).tdiv (gcdF (bnum z (barP y i) (y i) (barQ y n i) m) (bden (barP y i) (y i) (barQ y n i)))
def barY (z : Nat → Nat → Int) (m : Nat) (y : Nat → Int) (n i : Nat) : Int := bden (barP y i) (y i) (barQ y n i) / (gcdF (bnum z (barP y i) (y i) (barQ y n i) m) (bden (barP y i) (y i) (barQ y n i)))
structure BarsOk (y : Nat → Int) (n : Nat) : Prop where
  two : 2 ≤ n
  most : n ≤ 20
  inB : ∀ i, i < n → -20000 ≤ y i ∧ y i ≤ 20000
  asc : ∀ i, i + 1 < n → y i < y (i + 1)
theorem barsTo_at {y : Nat → Int} : ∀ n, barsTo y n = 0 → ∀ k, k < n → barAt y k = 0
  | 0, _, k, hk => by omega
  | n + 1, h, k, hk => by
    rw [barsTo] at h
    by_cases h0 : barsTo y n = 0
    · rw [if_pos h0] at h
      rcases Nat.lt_or_ge k n with h1 | h1
      · exact barsTo_at n h0 k h1
      · obtain rfl : k = n := by omega
        exact h
    · rw [if_neg h0] at h; exact absurd h h0
theorem bars_ok {y : Nat → Int} {n : Nat} (h : barsE y n = 0) : BarsOk y n := by
  unfold barsE at h
  by_cases h0 : (n : Int) < 2 ∨ (20 : Int) < n
  · rw [if_pos h0] at h; omega
  · rw [if_neg h0] at h
    have ha := barsTo_at n h
    have hb : ∀ i, i < n → (-20000 ≤ y i ∧ y i ≤ 20000) ∧ ¬ (0 < i ∧ y i ≤ y (i - 1)) := fun i hi => by
      have := ha i hi
      unfold barAt at this
      by_cases h1 : Go.Proofs.Ytjfcjclhbnmgcaa.inB (y i) 20000 = true
      · rw [if_pos h1] at this
        refine ⟨by unfold Go.Proofs.Ytjfcjclhbnmgcaa.inB at h1; simpa using h1, fun h2 => ?_⟩
        rw [if_pos h2] at this; omega
      · rw [if_neg h1] at this; omega
    refine ⟨by omega, by omega, fun i hi => (hb i hi).1, fun i hi => ?_⟩
    have := (hb (i + 1) hi).2
    rw [show i + 1 - 1 = i by omega] at this
    omega
theorem barPQ {y : Nat → Int} {n i : Nat} (h : BarsOk y n) (hi : i < n) : (-20001 ≤ barP y i ∧ barP y i ≤ 20001) ∧ (-20001 ≤ barQ y n i ∧ barQ y n i ≤ 20001) ∧ barP y i < y i ∧ y i < barQ y n i := by
  have h0 := h.inB i hi
  unfold barP barQ
  refine ⟨?_, ?_, ?_, ?_⟩
  · split
    · have := h.inB (i - 1) (by omega); omega
    · omega
  · split
    · have := h.inB (i + 1) (by omega); omega
    · omega
  · split
    · have := h.asc (i - 1) (by omega)
      rw [show i - 1 + 1 = i by omega] at this
      exact this
    · omega
  · split
    · exact h.asc i (by omega)
    · omega
theorem loads_in {z : Nat → Nat → Int} {from' to' : Int} {n : Nat} (h : loadsE z from' to' n = 0) : n ≤ 100 ∧ ∀ i, i < n → (from' ≤ z i 0 ∧ z i 0 ≤ to') ∧ (-1000000 ≤ z i 1 ∧ z i 1 ≤ 1000000) := by
  unfold loadsE at h
  by_cases h0 : (100 : Int) < n
  · rw [if_pos h0] at h; omega
  · rw [if_neg h0] at h
    by_cases h1 : loadsTo z from' to' n = true
    · refine ⟨by omega, ?_⟩
      have key : ∀ n, loadsTo z from' to' n = true → ∀ i, i < n → (from' ≤ z i 0 ∧ z i 0 ≤ to') ∧ (-1000000 ≤ z i 1 ∧ z i 1 ≤ 1000000) := by
        intro n
        induction n with
        | zero => intro _ i hi; omega
        | succ n ih =>
          intro h i hi
          rw [loadsTo, Bool.and_eq_true] at h
          rcases Nat.lt_or_ge i n with h2 | h2
          · exact ih h.1 i h2
          · obtain rfl : i = n := by omega
            have := h.2
            unfold loadOk inB at this
            simpa using this
      exact key n h1
    · rw [if_neg h1] at h; omega
/-- What Distribute returns: a new row of fractions, or an error and nothing. -/
def DistRow (w : World) (n : Nat) (x y : Nat → Int) (e : Ending) (w' : World) : Prop := ∃ g, w.heap.size ≤ g ∧ e = .returned (.tuple #[.slice (some ⟨g, 0, none⟩) n n, .int .i64 0]) ∧ Blk w' g 65 (slab (n * 2) (two x y n)).toArray ∧ Below w.heap.size w w'
set_option maxHeartbeats 4000000 in
set_option maxRecDepth 100000 in
theorem plDist_bars (A A2 : Option Addr) (n cap m cap2 : Nat) (y : Nat → Int) (E : Int) (w : World) (hD : Row1 w w.heap.size A n y) (hE : barsE y n = E) (h0 : E ≠ 0) :
    Calls Try.prog 35 #[.slice A n cap, .slice A2 m cap2] w fun e w' => e = .returned (.tuple #[.slice none 0 0, .int .i64 E]) ∧ Below w.heap.size w w' := by
  have HD := hide hD
  have HE := hide hE
  have b1 : (E != 0) = true := by rw [bne_iff_ne]; exact h0
  clear hD hE h0
  have L0 := hide (Lv.start w)
  go_enter Try.func35, Try.ntmps35
  go_wp2_with fail
  refine Lv.call (plBars_any A n cap y _ HD.out) L0.out ?_
  intro w1 L1'
  have L1 := hide L1'
  have F1 := L1'.at
  clear L1'
  simp only [AllAt, CellsAt, updL, List.map, Nat.zero_add, Nat.reduceAdd, and_true, World.size_alloc, World.heap_drewN, heap_drew, size_set, Nat.add_eq_left, Nat.left_eq_add, Nat.add_right_cancel_iff, ne_up2, ne_dn2, ne_up3, ne_dn3, ne_up4, ne_dn4, Nat.reduceEqDiff, Nat.one_ne_zero, Nat.succ_ne_zero, Nat.zero_ne_one, reduceIte, List.set_cons_zero, List.set_cons_succ] at F1
  rw [HE.out]
  go_wp2
  go_ret2
  exact ⟨rfl, L1.out.below⟩
theorem wrap_pred {n : Nat} (h1 : 1 ≤ n) (h2 : n ≤ 1000) : IntKind.i64.wrap ((n : Int) - 1) = ((n - 1 : Nat) : Int) := by rw [IntKind.wrap_i64]; omega
set_option maxHeartbeats 4000000 in
set_option maxRecDepth 100000 in
theorem plDist_ok (A A2 : Option Addr) (n cap m cap2 : Nat) (y : Nat → Int) (z : Nat → Nat → Int) (w : World) (hD : Row1 w w.heap.size A n y) (hD2 : Row2 w w.heap.size A2 m z) (hE : barsE y n = 0) (hE2 : loadsE z (y 0) (y (n - 1)) m = 0) :
    Calls Try.prog 35 #[.slice A n cap, .slice A2 m cap2] w (DistRow w n (barX z m y n) (barY z m y n)) := by
  have hok := bars_ok hE
  obtain ⟨hm, hlo⟩ := loads_in hE2
  have hn2 := hok.two
  have hn20 := hok.most
  have hin : inL z m := fun i hi => by
    have h1 := hlo i hi
    have h2 := hok.inB 0 (by omega)
    have h3 := hok.inB (n - 1) (by omega)
    exact ⟨by omega, h1.2⟩
  obtain ⟨b, off, rfl, hb, hc⟩ := hD (by omega)
  have HC := hide hc
  have HOK := hide hok
  have HIN := hide hin
  have HE := hide hE
  have HE2 := hide hE2
  have HD := hide hD
  have HD2 := hide hD2
  have C1 := hide (fun W (h : Row2 W W.heap.size A2 m z) => (plLoads_any A2 m cap2 z (y 0) (y (n - 1)) W h))
  have q0 := hc 0 (by omega)
  have q9 := hc (n - 1) (by omega)
  rw [Nat.add_zero] at q0
  have HMK := run_make_frac n (by omega)
  obtain ⟨y0, hy0⟩ : ∃ x, x = y 0 := ⟨_, rfl⟩
  obtain ⟨y9, hy9⟩ : ∃ x, x = y (n - 1) := ⟨_, rfl⟩
  rw [← hy0] at q0 C1 HE2
  rw [← hy9] at q9 C1 HE2
  have e1 : ((n : Int) - 1) = ((n - 1 : Nat) : Int) := by omega
  clear hc hok hlo hin hE hE2 hD hD2 hy0 hy9
  have L0 := hide (Lv.start w)
  go_enter Try.func35, Try.ntmps35
  go_wp2_with fail
  refine Lv.call (plBars_any (some ⟨b, off, none⟩) n cap y _ HD.out) L0.out ?_
  intro w1 L1'
  have L1 := hide L1'
  have F1 := L1'.at
  clear L1'
  simp only [AllAt, CellsAt, updL, List.map, Nat.zero_add, Nat.reduceAdd, and_true, World.size_alloc, World.heap_drewN, heap_drew, size_set, Nat.add_eq_left, Nat.left_eq_add, Nat.add_right_cancel_iff, ne_up2, ne_dn2, ne_up3, ne_dn3, ne_up4, ne_dn4, Nat.reduceEqDiff, Nat.one_ne_zero, Nat.succ_ne_zero, Nat.zero_ne_one, reduceIte, List.set_cons_zero, List.set_cons_succ] at F1
  rw [HE.out]
  have q0' := (L1.out.below.cell (by exact hb)).trans q0
  have q9' := (L1.out.below.cell (by exact hb)).trans q9
  have n0 : (0 : Int) < (n : Int) := by omega
  have n1 : 0 < n := by omega
  have n2 : ((n - 1 : Nat) : Int) < (n : Int) := by omega
  have n3 : (0 : Int) ≤ ((n - 1 : Nat) : Int) := by omega
  go_wp2
  (first | (go_region_held3 (fun w' => w'.cell? ⟨b, off, none⟩ = some (.int .i64 y0) ∧ w'.cell? ⟨b, off + (n - 1), none⟩ = some (.int .i64 y9))
    (first | go_keep | exact ⟨(L2.out.below.cell (by exact hb)).trans q0, (L2.out.below.cell (by exact hb)).trans q9⟩)
    (first | (go_at_call 76; refine Lv.call (C1.out _ ((HD2.out.kept L1.out.drew.below).up L1.out.drew.size)) L1.out.drew ?_; intro w2 L2'; have L2 := hide L2'; have F2 := L2'.at; clear L2'; simp only [AllAt, CellsAt, updL, List.map, Nat.zero_add, Nat.reduceAdd, and_true, World.size_alloc, World.heap_drewN, heap_drew, size_set, Nat.add_eq_left, Nat.left_eq_add, Nat.add_right_cancel_iff, ne_up2, ne_dn2, ne_up3, ne_dn3, ne_up4, ne_dn4, Nat.reduceEqDiff, Nat.one_ne_zero, Nat.succ_ne_zero, Nat.zero_ne_one, reduceIte, List.set_cons_zero, List.set_cons_succ] at F2; rw [HE2.out]) | fail)) | fail)
  go_wp2
  have L3 := hide (L2.out.put (slab (n * 2) (fun _ => 0)) 65)
  rw [← two_zero (barX z m y n) (barY z m y n)] at L3
  obtain ⟨X, hX⟩ : ∃ f, f = barX z m y n := ⟨_, rfl⟩
  obtain ⟨Y, hY⟩ : ∃ f, f = barY z m y n := ⟨_, rfl⟩
  have hXY : ∀ i, X i = barX z m y n i ∧ Y i = barY z m y n i := fun i => by rw [hX, hY]; exact ⟨rfl, rfl⟩
  have HXY := hide hXY
  have HXe := hide hX
  have HYe := hide hY
  rw [← hX, ← hY] at L3
  rw [← hX, ← hY]
  clear hX hY hXY F1 F2 q0 q9 q0' q9' C1 HMK
  have hG : w.heap.size ≤ w2.heap.size := L2.out.size
  go_loopw [10, 11, 12, 13, 39] (fun _ _ _ _ i wr => ∃ k : Nat, k ≤ n ∧ i = .int .i64 k ∧ Hid (Lv w wr [(w2.heap.size, 65, slab (n * 2) (two X Y k))])) (fun _ _ _ _ i _ => n - (intOf i).toNat)
  case atStart =>
    refine ⟨0, by omega, rfl, ?_⟩
    rw [← two_zero X Y]
    exact L3
  case round =>
    obtain ⟨k, hk, rfl, L4⟩ := hrel
    clear L3
    by_cases hlt : k < n
    · obtain ⟨pP, pQ, pl, pr⟩ := barPQ HOK.out hlt
      have pc := HOK.out.inB k hlt
      have qk := (L4.out.below.cell (by exact hb)).trans (HC.out k hlt)
      have hsz := L4.out.size
      have hbr : b < wr.heap.size := by omega
      have hlt' : (k : Int) < (n : Int) := by omega
      have CB := hide (fun W (h : Row2 W W.heap.size A2 m z) => plBarLoad_any A2 m cap2 z (barP y k) (y k) (barQ y n k) W h HIN.out hm pP pQ pc pl pr)
      have ex : (bnum z (barP y k) (y k) (barQ y n k) m).tdiv (gcdF (bnum z (barP y k) (y k) (barQ y n k) m) (bden (barP y k) (y k) (barQ y n k))) = X k := (HXY.out k).1.symm
      have ey : bden (barP y k) (y k) (barQ y n k) / (gcdF (bnum z (barP y k) (y k) (barQ y n k) m) (bden (barP y k) (y k) (barQ y n k))) = Y k := (HXY.out k).2.symm
      rw [ex, ey] at CB
      clear ex ey
      have hP : barP y k = if 0 < k then y (k - 1) else y k - 1 := rfl
      have hQ : barQ y n k = if k + 1 < n then y (k + 1) else y k + 1 := rfl
      have HST := hide (two_step X Y (n * 2) k)
      have HB4 := hide (L4.out.blk _ (List.mem_singleton.2 rfl))
      obtain ⟨P, hPe⟩ : ∃ x, x = barP y k := ⟨_, rfl⟩
      obtain ⟨Q, hQe⟩ : ∃ x, x = barQ y n k := ⟨_, rfl⟩
      obtain ⟨c, hce⟩ : ∃ x, x = y k := ⟨_, rfl⟩
      obtain ⟨u, hue⟩ : ∃ x, x = X k := ⟨_, rfl⟩
      obtain ⟨v, hve⟩ : ∃ x, x = Y k := ⟨_, rfl⟩
      rw [← hue] at HST CB
      rw [← hve] at HST CB
      rw [← hPe] at hP CB pP pl
      rw [← hQe] at hQ CB pQ pr
      rw [← hce] at hP hQ CB pl pr pc qk
      clear hPe hQe hce hue hve
      by_cases g1 : 0 < k
      · rw [if_pos g1] at hP
        have qp := (L4.out.below.cell (by exact hb)).trans (HC.out (k - 1) (by omega))
        rw [← hP] at qp
        have e2 : ((k : Int) - 1) = ((k - 1 : Nat) : Int) := by omega
        have g1' : (0 : Int) < (k : Int) := by omega
        clear hP
        by_cases g2 : k + 1 < n
        · rw [if_pos g2] at hQ
          have qq := (L4.out.below.cell (by exact hb)).trans (HC.out (k + 1) (by omega))
          rw [← hQ] at qq
          have g2' : (k : Int) < ((n - 1 : Nat) : Int) := by omega
          have g3' : (k : Int) + 1 < (n : Int) := by omega
          clear hQ
          go_wp2_with fail
          refine Lv.call (CB.out _ ((HD2.out.kept L4.out.below).up L4.out.size)) L4.out ?_
          intro w5 L5'
          have L5 := hide L5'
          have HB5 := hide (L5'.blk _ (List.mem_singleton.2 rfl))
          have r1 := slab_cell HB5.out (j := k * 2) (by omega)
          have r2 := slab_cell HB5.out (j := k * 2 + 1) (by omega)
          have r3 := HB5.out.frozen (k * 2)
          have r4 := HB5.out.frozen (k * 2 + 1)
          have r5 := HB5.out.lt
          clear L5'
          simp only at r1 r2 r3 r4 r5
          go_wp2
          go_roundw
          case rel =>
            refine ⟨k + 1, by omega, by go_num, ?_⟩
            have h := (L5.out.set w2.heap.size (k * 2) (.int .i64 u) hG).set w2.heap.size (k * 2 + 1) (.int .i64 v) hG
            simp only [updL, List.map, if_true] at h
            rw [HST.out] at h
            exact h
          case measure => simp [intOf]; omega
        · rw [if_neg g2] at hQ
          have g2' : ¬ (k : Int) < ((n - 1 : Nat) : Int) := by omega
          have hQ' : c + 1 = Q := hQ.symm
          clear hQ
          go_wp2_with fail
          refine Lv.call (CB.out _ ((HD2.out.kept L4.out.below).up L4.out.size)) L4.out ?_
          intro w5 L5'
          have L5 := hide L5'
          have HB5 := hide (L5'.blk _ (List.mem_singleton.2 rfl))
          have r1 := slab_cell HB5.out (j := k * 2) (by omega)
          have r2 := slab_cell HB5.out (j := k * 2 + 1) (by omega)
          have r3 := HB5.out.frozen (k * 2)
          have r4 := HB5.out.frozen (k * 2 + 1)
          have r5 := HB5.out.lt
          clear L5'
          simp only at r1 r2 r3 r4 r5
          go_wp2
          go_roundw
          case rel =>
            refine ⟨k + 1, by omega, by go_num, ?_⟩
            have h := (L5.out.set w2.heap.size (k * 2) (.int .i64 u) hG).set w2.heap.size (k * 2 + 1) (.int .i64 v) hG
            simp only [updL, List.map, if_true] at h
            rw [HST.out] at h
            exact h
          case measure => simp [intOf]; omega
      · rw [if_neg g1] at hP
        have g1' : ¬ (0 : Int) < (k : Int) := by omega
        have hP' : c - 1 = P := hP.symm
        clear hP
        have g2 : k + 1 < n := by omega
        rw [if_pos g2] at hQ
        have qq := (L4.out.below.cell (by exact hb)).trans (HC.out (k + 1) (by omega))
        rw [← hQ] at qq
        have g2' : (k : Int) < ((n - 1 : Nat) : Int) := by omega
        have g3' : (k : Int) + 1 < (n : Int) := by omega
        clear hQ
        go_wp2_with fail
        refine Lv.call (CB.out _ ((HD2.out.kept L4.out.below).up L4.out.size)) L4.out ?_
        intro w5 L5'
        have L5 := hide L5'
        have HB5 := hide (L5'.blk _ (List.mem_singleton.2 rfl))
        have r1 := slab_cell HB5.out (j := k * 2) (by omega)
        have r2 := slab_cell HB5.out (j := k * 2 + 1) (by omega)
        have r3 := HB5.out.frozen (k * 2)
        have r4 := HB5.out.frozen (k * 2 + 1)
        have r5 := HB5.out.lt
        clear L5'
        simp only at r1 r2 r3 r4 r5
        go_wp2
        go_roundw
        case rel =>
          refine ⟨k + 1, by omega, by go_num, ?_⟩
          have h := (L5.out.set w2.heap.size (k * 2) (.int .i64 u) hG).set w2.heap.size (k * 2 + 1) (.int .i64 v) hG
          simp only [updL, List.map, if_true] at h
          rw [HST.out] at h
          exact h
        case measure => simp [intOf]; omega
    · obtain rfl : n = k := by omega
      go_wp2
      go_ret2
      refine ⟨w2.heap.size, hG, rfl, ?_, L4.out.below⟩
      rw [← HXe.out, ← HYe.out]
      exact L4.out.blk _ (List.mem_singleton.2 rfl)
end Go.Proofs.Ytjfcjclhbnmgcaa
