/- The contract of plate.Move. Every bound is a premise of the theorem that bears it. -/
import Derived.Test.YtjfcjclhbnmgcaaPlFo3
import Derived.Test.YtjfcjclhbnmgcaaPlFoC
import Derived.Test.YtjfcjclhbnmgcaaRegX
namespace Go.Proofs.Ytjfcjclhbnmgcaa
open Go.RowKit
set_option linter.unusedVariables false
set_option linter.unusedSimpArgs false

/-- Rows of six numbers, the first k of them written. -/
def sixes (M : Nat → Nat → Int) (k j : Nat) : Int := if j < 6 * k then flatF 6 M j else 0
theorem sixes_zero (M : Nat → Nat → Int) (n : Nat) : slab n (sixes M 0) = slab n (fun _ => 0) := slab_congr fun j _ => if_neg (by omega)
theorem sixes_all (M : Nat → Nat → Int) (n : Nat) : slab (n * 6) (sixes M n) = slab (n * 6) (flatF 6 M) := slab_congr fun j hj => if_pos (by omega)
theorem sixes_step (M : Nat → Nat → Int) (n k : Nat) : ((((((slab n (sixes M k)).set (k * 6) (.int .i64 (M k 0))).set (k * 6 + 1) (.int .i64 (M k 1))).set (k * 6 + 2) (.int .i64 (M k 2))).set (k * 6 + 3) (.int .i64 (M k 3))).set (k * 6 + 4) (.int .i64 (M k 4))).set (k * 6 + 5) (.int .i64 (M k 5)) = slab n (sixes M (k + 1)) := by
  rw [slab_set, slab_set, slab_set, slab_set, slab_set, slab_set]
  refine slab_congr fun j _ => ?_
  unfold sixes
  have f : ∀ c, c < 6 → flatF 6 M (k * 6 + c) = M k c := fun c hc => flatF_at M hc
  by_cases h5 : j = k * 6 + 5
  · subst h5; rw [if_pos rfl, if_pos (by omega), f 5 (by omega)]
  · rw [if_neg h5]
    by_cases h4 : j = k * 6 + 4
    · subst h4; rw [if_pos rfl, if_pos (by omega), f 4 (by omega)]
    · rw [if_neg h4]
      by_cases h3 : j = k * 6 + 3
      · subst h3; rw [if_pos rfl, if_pos (by omega), f 3 (by omega)]
      · rw [if_neg h3]
        by_cases h2 : j = k * 6 + 2
        · subst h2; rw [if_pos rfl, if_pos (by omega), f 2 (by omega)]
        · rw [if_neg h2]
          by_cases h1 : j = k * 6 + 1
          · subst h1; rw [if_pos rfl, if_pos (by omega), f 1 (by omega)]
          · rw [if_neg h1]
            by_cases h0 : j = k * 6
            · subst h0; rw [if_pos rfl, if_pos (by omega)]; have := f 0 (by omega); rw [Nat.add_zero] at this; exact this.symm
            · rw [if_neg h0]
              by_cases h : j < 6 * k
              · rw [if_pos h, if_pos (by omega)]
              · rw [if_neg h, if_neg (by omega)]
theorem made_six (n : Nat) : madeCells #[.int .i64 0, .int .i64 0, .int .i64 0, .int .i64 0, .int .i64 0, .int .i64 0] (n * 6) = (slab (n * 6) (fun _ => 0)).toArray := by
  unfold madeCells slab
  apply Array.ext'
  simp
  intro j hj
  have h := Nat.mod_lt j (show 0 < 6 by omega)
  obtain ⟨d, hd⟩ : ∃ d, j % 6 = d := ⟨_, rfl⟩
  rw [hd] at h ⊢
  match d, h with
  | 0, _ => rfl
  | 1, _ => rfl
  | 2, _ => rfl
  | 3, _ => rfl
  | 4, _ => rfl
  | 5, _ => rfl
theorem run_make_pulled (n : Nat) (hn : n ≤ 1000) (W : World) : (Instr.makeSlice 22 (.int .i64 (n : Int)) (.int .i64 (n : Int))).run Try.prog W = .ok (.slice (some ⟨W.heap.size, 0, none⟩) n n) (W.alloc (.cells (slab (n * 6) (fun _ => 0)).toArray 40)) := by
  obtain ⟨i0, hi, hz0, hz1, hz2⟩ := info_parts info_pulled
  have h := run_make (P := Try.prog) W 22 40 i0 _ Try.underlying22 hi hz0 .i64 .i64 n n (by omega) (by omega) (by rw [hz2]; omega) (by omega)
  rw [hz1] at h
  rw [h]
  simp only [Value.cells, Int.toNat_natCast]
  rw [made_six]
/-- Forces with all places moved; is the k-th place right then? -/
def mvd (z : Nat → Nat → Int) (a b c : Int) (i j : Nat) : Int := match j with
  | 0 => IntKind.i64.wrap (z i 0 + a)
  | 1 => IntKind.i64.wrap (z i 1 + b)
  | 2 => IntKind.i64.wrap (z i 2 + c)
  | 3 => z i 3
  | 4 => z i 4
  | _ => z i 5
def mvE (z : Nat → Nat → Int) (a b c : Int) (k : Nat) : Int := plE (mvd z a b c k 0) (mvd z a b c k 1) (mvd z a b c k 2)
def mvTo (z : Nat → Nat → Int) (a b c : Int) : Nat → Int
  | 0 => 0
  | k + 1 => if mvTo z a b c k = 0 then mvE z a b c k else mvTo z a b c k
theorem mvE_cases (z : Nat → Nat → Int) (a b c : Int) (k : Nat) : mvE z a b c k = 0 ∨ mvE z a b c k = 2 := by unfold mvE plE; split <;> simp
theorem mv_bad {z : Nat → Nat → Int} {a b c : Int} {k : Nat} (h0 : mvTo z a b c k = 0) (h : mvE z a b c k = 2) : ∀ n, k < n → mvTo z a b c n = 2
  | 0, hk => by omega
  | n + 1, hk => by
    rw [mvTo]
    rcases Nat.lt_or_ge k n with h1 | h1
    · rw [mv_bad h0 h n h1, if_neg (by omega)]
    · obtain rfl : k = n := by omega
      rw [h0, if_pos rfl, h]
/-- What Move returns: a new row of forces, or nothing and ErrRange. -/
def MoveRow (w : World) (n : Nat) (E : Int) (M : Nat → Nat → Int) (e : Ending) (w' : World) : Prop := Below w.heap.size w w' ∧
  ((E = 0 ∧ ∃ g, e = .returned (.tuple #[.slice (some ⟨g, 0, none⟩) n n, .int .i64 0]) ∧ RowM 6 w' w'.heap.size (some ⟨g, 0, none⟩) n M) ∨ (E = 2 ∧ e = .returned (.tuple #[.slice none 0 0, .int .i64 2])))
set_option maxHeartbeats 4000000 in
set_option maxRecDepth 100000 in
theorem plMove_bad (A : Option Addr) (n cap : Nat) (z : Nat → Nat → Int) (a b c E : Int) (w : World) (hD : RowM 6 w w.heap.size A n z) (hE : frcE z n = E) (h0 : E ≠ 0) :
    Calls Try.prog 29 #[.slice A n cap, .agg #[.int .i64 a, .int .i64 b, .int .i64 c]] w fun e w' => e = .returned (.tuple #[.slice none 0 0, .int .i64 E]) ∧ Below w.heap.size w w' := by
  have HD := hide hD
  have HE := hide hE
  have b1 : (E != 0) = true := by rw [bne_iff_ne]; exact h0
  have b2 : (E == 0) = false := by rw [beq_eq_false_iff_ne]; exact h0
  clear hD hE h0
  have L0 := hide (Lv.start w)
  go_enter Try.func29, Try.ntmps29
  go_wp2_with fail
  refine Lv.call (plForces_any A n cap z _ (HD.out.on (L0.out.put _ _).below)) (L0.out.put _ _) ?_
  intro w1 L1'
  have L1 := hide L1'
  have F1 := L1'.at
  clear L1'
  simp only [AllAt, CellsAt, updL, List.map, Nat.zero_add, Nat.reduceAdd, and_true, World.size_alloc, World.heap_drewN, heap_drew, size_set, Nat.add_eq_left, Nat.left_eq_add, Nat.add_right_cancel_iff, ne_up2, ne_dn2, ne_up3, ne_dn3, ne_up4, ne_dn4, Nat.reduceEqDiff, Nat.one_ne_zero, Nat.succ_ne_zero, Nat.zero_ne_one, reduceIte, List.set_cons_zero, List.set_cons_succ] at F1
  rw [HE.out]
  go_wp2
  go_ret2
  exact ⟨rfl, L1.out.below⟩
set_option maxHeartbeats 4000000 in
set_option maxRecDepth 100000 in
theorem plMove_ok (A : Option Addr) (n cap : Nat) (z : Nat → Nat → Int) (a b c : Int) (w : World) (hD : RowM 6 w w.heap.size A n z) (hE : frcE z n = 0) :
    Calls Try.prog 29 #[.slice A n cap, .agg #[.int .i64 a, .int .i64 b, .int .i64 c]] w (MoveRow w n (mvTo z a b c n) (mvd z a b c)) := by
  obtain ⟨hn, _⟩ := frcE_in hE
  have HMK := run_make_pulled n (by omega)
  have HD := hide hD
  have HE := hide hE
  clear hD hE
  obtain ⟨M, hM⟩ : ∃ M, M = mvd z a b c := ⟨_, rfl⟩
  have HM := hide (fun i => show M i 0 = IntKind.i64.wrap (z i 0 + a) ∧ M i 1 = IntKind.i64.wrap (z i 1 + b) ∧ M i 2 = IntKind.i64.wrap (z i 2 + c) ∧ M i 3 = z i 3 ∧ M i 4 = z i 4 ∧ M i 5 = z i 5 by rw [hM]; exact ⟨rfl, rfl, rfl, rfl, rfl, rfl⟩)
  have HME := hide (fun i => show mvE z a b c i = plE (M i 0) (M i 1) (M i 2) by rw [hM]; rfl)
  rw [← hM]
  clear hM
  have L0 := hide (Lv.start w)
  go_enter Try.func29, Try.ntmps29
  go_wp2_with fail
  refine Lv.call (plForces_any A n cap z _ (HD.out.on (L0.out.put _ _).below)) (L0.out.put _ _) ?_
  intro w1 L1'
  have L1 := hide L1'
  have F1 := L1'.at
  clear L1'
  simp only [AllAt, CellsAt, updL, List.map, Nat.zero_add, Nat.reduceAdd, and_true, World.size_alloc, World.heap_drewN, heap_drew, size_set, Nat.add_eq_left, Nat.left_eq_add, Nat.add_right_cancel_iff, ne_up2, ne_dn2, ne_up3, ne_dn3, ne_up4, ne_dn4, Nat.reduceEqDiff, Nat.one_ne_zero, Nat.succ_ne_zero, Nat.zero_ne_one, reduceIte, List.set_cons_zero, List.set_cons_succ] at F1
  rw [HE.out]
  go_wp2
  have L2 := hide (L1.out.put (slab (n * 6) (fun _ => 0)) 40)
  rw [← sixes_zero M] at L2
  have hG : w.heap.size ≤ w1.heap.size := L1.out.size
  have hG2 : w.heap.size < w1.heap.size := by omega
  clear F1 L1 HMK
  go_loopw [8, 9, 10, 11, 22] (fun _ _ _ _ i wr => ∃ k : Nat, k ≤ n ∧ i = .int .i64 k ∧ Hid (mvTo z a b c k = 0) ∧ Hid (Lv w wr [(w1.heap.size, 40, slab (n * 6) (sixes M k)), (w.heap.size, 23, [.int .i64 a, .int .i64 b, .int .i64 c])])) (fun _ _ _ _ i _ => n - (intOf i).toNat)
  case atStart => exact ⟨0, by omega, rfl, rfl, L2⟩
  case round =>
    obtain ⟨k, hk, rfl, HK, L4⟩ := hrel
    clear L2 L0
    by_cases hlt : k < n
    · obtain ⟨bb, off, rfl, hb, hc⟩ := HD.out (by omega)
      have hsz := L4.out.size
      have hbr : bb < wr.heap.size := by omega
      have q0 := (L4.out.below.cell (by exact hb)).trans (hc k hlt 0 (by omega))
      have q1 := (L4.out.below.cell (by exact hb)).trans (hc k hlt 1 (by omega))
      have q2 := (L4.out.below.cell (by exact hb)).trans (hc k hlt 2 (by omega))
      have q3 := (L4.out.below.cell (by exact hb)).trans (hc k hlt 3 (by omega))
      have q4 := (L4.out.below.cell (by exact hb)).trans (hc k hlt 4 (by omega))
      have q5 := (L4.out.below.cell (by exact hb)).trans (hc k hlt 5 (by omega))
      rw [Nat.add_zero] at q0
      clear hc
      obtain ⟨M0, M1, M2, M3, M4, M5⟩ := HM.out k
      have HST := hide (sixes_step M (n * 6) k)
      have HEk := HME.out k
      have HTO : Hid (mvTo z a b c (k + 1) = mvE z a b c k) := hide (by rw [mvTo, if_pos HK.out])
      have HBAD : Hid (mvE z a b c k = 2 → mvTo z a b c n = 2) := hide (fun h => mv_bad HK.out h n hlt)
      have hcs := mvE_cases z a b c k
      rw [HEk] at HTO HBAD hcs
      clear HEk
      obtain ⟨x0, e0⟩ : ∃ x, x = z k 0 := ⟨_, rfl⟩
      obtain ⟨x1, e1⟩ : ∃ x, x = z k 1 := ⟨_, rfl⟩
      obtain ⟨x2, e2⟩ : ∃ x, x = z k 2 := ⟨_, rfl⟩
      obtain ⟨x3, e3⟩ : ∃ x, x = z k 3 := ⟨_, rfl⟩
      obtain ⟨x4, e4⟩ : ∃ x, x = z k 4 := ⟨_, rfl⟩
      obtain ⟨x5, e5⟩ : ∃ x, x = z k 5 := ⟨_, rfl⟩
      rw [← e0] at q0 M0
      rw [← e1] at q1 M1
      rw [← e2] at q2 M2
      rw [← e3] at q3 M3
      rw [← e4] at q4 M4
      rw [← e5] at q5 M5
      rw [M3, M4, M5] at HST
      clear e0 e1 e2 e3 e4 e5 M3 M4 M5
      obtain ⟨u, hu⟩ : ∃ x, x = M k 0 := ⟨_, rfl⟩
      obtain ⟨v, hv⟩ : ∃ x, x = M k 1 := ⟨_, rfl⟩
      obtain ⟨t, ht⟩ : ∃ x, x = M k 2 := ⟨_, rfl⟩
      rw [← hu] at M0 HST HTO HBAD hcs
      rw [← hv] at M1 HST HTO HBAD hcs
      rw [← ht] at M2 HST HTO HBAD hcs
      have CP := hide (fun W => plPlus_any x0 x1 x2 a b c u v t W M0.symm M1.symm M2.symm)
      clear hu hv ht M0 M1 M2
      have hlt' : (k : Int) < (n : Int) := by omega
      have HF4 := hide (L4.out.blk (w.heap.size, 23, [.int .i64 a, .int .i64 b, .int .i64 c]) (by simp))
      have c0 := HF4.out.cell 0
      have c1 := HF4.out.cell 1
      have c2 := HF4.out.cell 2
      simp at c0 c1 c2
      have hw4 : w.heap.size < wr.heap.size := HF4.out.lt
      rcases hcs with hp | hp
      · have HP := hide hp
        have HTO2 := hide (HTO.out.trans hp)
        clear hp HTO HBAD
        go_wp2_with fail
        refine Lv.call (CP.out _) (L4.out.put _ _) ?_
        intro w5 L5'
        have L5 := hide L5'
        have g5 : wr.heap.size < w5.heap.size := (L5'.blk _ List.mem_cons_self).lt
        have HB5 := hide (L5'.blk _ List.mem_cons_self)
        have d3 := HB5.out.cell 3
        have d4 := HB5.out.cell 4
        have d5 := HB5.out.cell 5
        simp at d3 d4 d5
        clear L5'
        go_wp2_with fail
        refine Lv.call (plPlace_any u v t _) (L5.out.put _ _) ?_
        intro w6 L6'
        have L6 := hide L6'
        have HBp := hide (L6'.blk _ List.mem_cons_self)
        have HBe := hide (L6'.blk _ (List.mem_cons_of_mem _ List.mem_cons_self))
        have HBr := hide (L6'.blk _ (List.mem_cons_of_mem _ (List.mem_cons_of_mem _ List.mem_cons_self)))
        have p0 := HBp.out.cell 0
        have p1 := HBp.out.cell 1
        have p2 := HBp.out.cell 2
        have d3' := HBe.out.cell 3
        have d4' := HBe.out.cell 4
        have d5' := HBe.out.cell 5
        simp at p0 p1 p2 d3' d4' d5'
        have r0 := slab_cell HBr.out (j := k * 6) (by omega)
        have r1 := slab_cell HBr.out (j := k * 6 + 1) (by omega)
        have r2 := slab_cell HBr.out (j := k * 6 + 2) (by omega)
        have r3 := slab_cell HBr.out (j := k * 6 + 3) (by omega)
        have r4 := slab_cell HBr.out (j := k * 6 + 4) (by omega)
        have r5 := slab_cell HBr.out (j := k * 6 + 5) (by omega)
        have s0 := HBr.out.frozen (k * 6)
        have s1 := HBr.out.frozen (k * 6 + 1)
        have s2 := HBr.out.frozen (k * 6 + 2)
        have s3 := HBr.out.frozen (k * 6 + 3)
        have s4 := HBr.out.frozen (k * 6 + 4)
        have s5 := HBr.out.frozen (k * 6 + 5)
        have s6 := HBr.out.lt
        simp only at r0 r1 r2 r3 r4 r5 s0 s1 s2 s3 s4 s5 s6
        clear L6'
        rw [HP.out]
        go_wp2
        have h := (((((L6.out.drop.drop.set w1.heap.size (k * 6) (.int .i64 u) hG).set w1.heap.size (k * 6 + 1) (.int .i64 v) hG).set w1.heap.size (k * 6 + 2) (.int .i64 t) hG).set w1.heap.size (k * 6 + 3) (.int .i64 x3) hG).set w1.heap.size (k * 6 + 4) (.int .i64 x4) hG).set w1.heap.size (k * 6 + 5) (.int .i64 x5) hG
        have hne : ¬ w.heap.size = w1.heap.size := by omega
        simp only [updL, List.map, hne, if_true, if_false] at h
        rw [HST.out] at h
        have L7 := hide h
        clear h hne
        go_roundw
        case rel => exact ⟨k + 1, by omega, by go_num, HTO2, L7⟩
        case measure => simp [intOf]; omega
      · have HP := hide hp
        have HR := hide (HBAD.out hp)
        clear hp HTO HBAD
        go_wp2_with fail
        refine Lv.call (CP.out _) (L4.out.put _ _) ?_
        intro w5 L5'
        have L5 := hide L5'
        have g5 : wr.heap.size < w5.heap.size := (L5'.blk _ List.mem_cons_self).lt
        clear L5'
        go_wp2_with fail
        refine Lv.call (plPlace_any u v t _) (L5.out.put _ _) ?_
        intro w6 L6'
        have L6 := hide L6'
        clear L6'
        rw [HP.out]
        go_wp2
        go_ret2
        exact ⟨L6.out.below, Or.inr ⟨HR.out, rfl⟩⟩
    · obtain rfl : n = k := by omega
      have HBr := hide (L4.out.blk _ List.mem_cons_self)
      go_wp2
      go_ret2
      refine ⟨L4.out.below, Or.inl ⟨HK.out, w1.heap.size, rfl, fun _ => ⟨w1.heap.size, 0, rfl, HBr.out.lt, fun i hi j hj => ?_⟩⟩⟩
      have hlt : i * 6 + j < n * 6 := by omega
      rw [Nat.zero_add]
      have := slab_cell HBr.out hlt
      rw [this]
      unfold sixes
      rw [if_pos (by omega), flatF_at M hj]
end Go.Proofs.Ytjfcjclhbnmgcaa
