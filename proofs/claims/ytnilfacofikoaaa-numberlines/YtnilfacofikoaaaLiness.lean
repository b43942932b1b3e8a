/- PROVED HERE: Rows.NumberLinesSaid: agraffelaw01.NumberLines returns true for every input, and its arguments read behind the call as before. -/
import Derived.Test.YtnilfacofikoaaaOpen
import Derived.Test.YtnilfacofikoaaaAwake
import Derived.Test.YtnilfacofikoaaaRefLine
import Derived.Test.YtnilfacofikoaaaLineV
import Derived.Test.YtnilfacofikoaaaRefLineC
namespace Go.Proofs.Ytnilfacofikoaaa
open Go.ChangeShapes Go.WideShapes Go.ChangeAt Go.RowKit Go.Joins
set_option linter.unusedVariables false
set_option linter.unusedSimpArgs false

theorem Dots.higher {w : World} {B B' : Nat} {A : Option Addr} {ds : List (Int × Int)} (h : Dots w B A ds) (hB : B ≤ B') : Dots w B' A ds := fun h0 => by
  obtain ⟨b, off, e, hb, hc⟩ := h h0
  exact ⟨b, off, e, Nat.lt_of_lt_of_le hb hB, hc⟩
theorem in64_small {x : Int} (h : -1000000000 ≤ x ∧ x ≤ 1000000000) : in64 x := by unfold in64; omega
theorem in64_ok {a b : Int} (h : okF a b) : in64 a ∧ in64 b := ⟨in64_small h.2.1, in64_small ⟨by have := h.1.1; omega, h.2.2⟩⟩
theorem fr3_zero {a b c d e f : Int} (h1 : okF a b) (h2 : okF c d) (h3 : okF e f) : fracsTo (fr3 a b c d e f) 3 = 0 := by
  have k : ∀ x y, okF x y → fracErr x y = 0 := fun x y h => (if_pos h.1).trans (if_pos h)
  have e0 : fracsTo (fr3 a b c d e f) 1 = fracErr a b := by rw [fracsTo, fracsTo, if_pos rfl]; rfl
  have e1 : fracsTo (fr3 a b c d e f) 2 = if fracErr a b = 0 then fracErr c d else fracErr a b := by rw [fracsTo, e0]; rfl
  have e2 : fracsTo (fr3 a b c d e f) 3 = if fracsTo (fr3 a b c d e f) 2 = 0 then fracErr e f else fracsTo (fr3 a b c d e f) 2 := by rw [fracsTo]; rfl
  rw [e2, e1, k a b h1, if_pos rfl, k c d h2, if_pos rfl, k e f h3]
set_option maxHeartbeats 4000000 in
set_option maxRecDepth 100000 in
theorem numberLines_walk (A : Option Addr) (n cap : Nat) (ds : List (Int × Int)) (w : World) (hn : ds.length = n) (hD : Dots w w.heap.size A ds) :
    Calls Try.prog 5 #[.slice A n cap] w fun x w' => x = .returned (.bool true) ∧ Below w.heap.size w w' := by
  have HN := hide hn
  have HD := hide hD
  clear hn hD
  by_cases hg1 : (12 : Int) < (n : Int) ∧ (n : Int) ≤ 60
  · obtain ⟨g1, g2⟩ := hg1
    have L0 := hide (Lv.start w)
    go_enter Try.func5, Try.ntmps5
    go_wp2_with fail
    refine Lv.call (awake_any _) L0.out ?_
    intro w2 L2'
    have L2 := hide L2'
    have F2 := L2'.at
    clear L2'
    simp only [AllAt, CellsAt, updL, List.map, Nat.zero_add, Nat.reduceAdd, and_true, World.size_alloc, World.heap_drewN, heap_drew, size_set, Nat.add_eq_left, Nat.left_eq_add, Nat.add_right_cancel_iff, ne_up2, ne_dn2, ne_up3, ne_dn3, ne_up4, ne_dn4, Nat.reduceEqDiff, Nat.one_ne_zero, Nat.succ_ne_zero, Nat.zero_ne_one, reduceIte, List.set_cons_zero, List.set_cons_succ] at F2
    go_wp2
    go_ret
    refine ⟨rfl, ?_⟩
    repeat (first | (with_reducible exact L2.out.below) | refine Below.setCell ?_ (by first | omega | (simp; done) | (simp; omega)) _ | refine Below.alloc ?_ (by first | omega | (simp; done) | (simp; omega)) _ | refine below_drewN ?_ _ | refine Below.drew ?_)
  · by_cases hg2 : (70 : Int) < (n : Int)
    · have g1 : (12 : Int) < (n : Int) := by omega
      have g2 : ¬ (n : Int) ≤ 60 := by omega
      clear hg1
      have L0 := hide (Lv.start w)
      go_enter Try.func5, Try.ntmps5
      go_wp2_with fail
      refine Lv.call (awake_any _) L0.out ?_
      intro w2 L2'
      have L2 := hide L2'
      have F2 := L2'.at
      clear L2'
      simp only [AllAt, CellsAt, updL, List.map, Nat.zero_add, Nat.reduceAdd, and_true, World.size_alloc, World.heap_drewN, heap_drew, size_set, Nat.add_eq_left, Nat.left_eq_add, Nat.add_right_cancel_iff, ne_up2, ne_dn2, ne_up3, ne_dn3, ne_up4, ne_dn4, Nat.reduceEqDiff, Nat.one_ne_zero, Nat.succ_ne_zero, Nat.zero_ne_one, reduceIte, List.set_cons_zero, List.set_cons_succ] at F2
      go_wp2
      go_ret
      refine ⟨rfl, ?_⟩
      repeat (first | (with_reducible exact L2.out.below) | refine Below.setCell ?_ (by first | omega | (simp; done) | (simp; omega)) _ | refine Below.alloc ?_ (by first | omega | (simp; done) | (simp; omega)) _ | refine below_drewN ?_ _ | refine Below.drew ?_)
    · have hg3 : (¬ (12 : Int) < (n : Int)) ∨ ((12 : Int) < (n : Int) ∧ ¬ (n : Int) ≤ 60) := by omega
      clear hg1
      obtain ⟨E, hE⟩ : ∃ E, dotsErr ds = E := ⟨_, rfl⟩
      have HE := hide hE
      clear hE
      by_cases hE0 : E = 0
      · subst hE0
        have HOK := hide (dots_ok HE.out)
        have hl12 : ¬ (12 : Int) < (n : Int) := by have := HOK.out.sixty; have := HN.out; omega
        clear hg3 hg2
        obtain ⟨b, off, rfl, hb, hc⟩ := HD.out (by have := HOK.out.three; omega)
        have HC : Hid (∀ i, i < n → w.cell? ⟨b, off + i * 2, none⟩ = some (.int .i64 (dX ds i)) ∧ w.cell? ⟨b, off + i * 2 + 1, none⟩ = some (.int .i64 (dY ds i))) := hide (fun i hi => hc i (by rw [HN.out]; exact hi))
        clear hc
        obtain ⟨ha1, ha2, ha3, ha4⟩ := line_accepted HOK.out
        have hF := fr3_zero ha2 ha3 ha4
        have C1 := fun W (hW : b < W.heap.size) hc' => line_parts b off n cap ds W HN.out hW HE.out hc'
        have C2 := fun W (hW : b < W.heap.size) hc' => refLine_good b off n cap ds W HN.out hW HE.out hc'
        have C3 := fun W hW => refCheckLine_any (some ⟨b, off, none⟩) n cap ds (pSN ds (bestT ds)) (pSD ds (bestT ds)) (pKN ds (bestT ds)) (pKD ds (bestT ds)) (pEN ds (bestT ds)) (pED ds (bestT ds)) (bestT ds).1 (bestT ds).2.1 (bestT ds).2.2 W HN.out hW HE.out hF
        have C4 := fun W hW => checkLine_ok (some ⟨b, off, none⟩) n cap ds (pSN ds (bestT ds)) (pSD ds (bestT ds)) (pKN ds (bestT ds)) (pKD ds (bestT ds)) (pEN ds (bestT ds)) (pED ds (bestT ds)) (bestT ds).1 (bestT ds).2.1 (bestT ds).2.2 W HN.out hW HE.out hF (in64_ok ha2) (in64_ok ha3) (in64_ok ha4)
        rw [ha1] at C3 C4
        have hbc : bestC ds (some (bestT ds)) = [.int .i64 (pSN ds (bestT ds)), .int .i64 (pSD ds (bestT ds)), .int .i64 (pKN ds (bestT ds)), .int .i64 (pKD ds (bestT ds)), .int .i64 (pEN ds (bestT ds)), .int .i64 (pED ds (bestT ds)), .int .i64 ((bestT ds).1 : Nat), .int .i64 ((bestT ds).2.1 : Nat), .int .i64 ((bestT ds).2.2 : Nat)] := rfl
        rw [hbc] at C2
        obtain ⟨z0, hz0⟩ : ∃ z, z = pSN ds (bestT ds) := ⟨_, rfl⟩
        obtain ⟨z1, hz1⟩ : ∃ z, z = pSD ds (bestT ds) := ⟨_, rfl⟩
        obtain ⟨z2, hz2⟩ : ∃ z, z = pKN ds (bestT ds) := ⟨_, rfl⟩
        obtain ⟨z3, hz3⟩ : ∃ z, z = pKD ds (bestT ds) := ⟨_, rfl⟩
        obtain ⟨z4, hz4⟩ : ∃ z, z = pEN ds (bestT ds) := ⟨_, rfl⟩
        obtain ⟨z5, hz5⟩ : ∃ z, z = pED ds (bestT ds) := ⟨_, rfl⟩
        obtain ⟨z6, hz6⟩ : ∃ z : Int, z = ((bestT ds).1 : Nat) := ⟨_, rfl⟩
        obtain ⟨z7, hz7⟩ : ∃ z : Int, z = ((bestT ds).2.1 : Nat) := ⟨_, rfl⟩
        obtain ⟨z8, hz8⟩ : ∃ z : Int, z = ((bestT ds).2.2 : Nat) := ⟨_, rfl⟩
        rw [← hz0, ← hz1, ← hz2, ← hz3, ← hz4, ← hz5, ← hz6, ← hz7, ← hz8] at C1 C2 C3 C4
        replace C1 := hide C1
        replace C2 := hide C2
        replace C3 := hide C3
        replace C4 := hide C4
        clear hz0 hz1 hz2 hz3 hz4 hz5 hz6 hz7 hz8 hbc hF ha1 ha2 ha3 ha4
        have L0 := hide (Lv.start w)
        go_enter Try.func5, Try.ntmps5
        go_wp2_with fail
        refine Lv.call (awake_any _) L0.out ?_
        intro w2 L2'
        have L2 := hide L2'
        have F2 := L2'.at
        clear L2'
        simp only [AllAt, CellsAt, updL, List.map, Nat.zero_add, Nat.reduceAdd, and_true, World.size_alloc, World.heap_drewN, heap_drew, size_set, Nat.add_eq_left, Nat.left_eq_add, Nat.add_right_cancel_iff, ne_up2, ne_dn2, ne_up3, ne_dn3, ne_up4, ne_dn4, Nat.reduceEqDiff, Nat.one_ne_zero, Nat.succ_ne_zero, Nat.zero_ne_one, reduceIte, List.set_cons_zero, List.set_cons_succ] at F2
        go_wp2_with fail
        refine Lv.call (C1.out _ (by have := L2.out.size; omega) (fun i hi => ⟨(L2.out.below.cell (by exact hb)).trans (HC.out i hi).1, (L2.out.below.cell (by exact hb)).trans (HC.out i hi).2⟩)) L2.out ?_
        intro w3 L3'
        have L3 := hide L3'
        have F3 := L3'.at
        clear L3' F2
        simp only [AllAt, CellsAt, updL, List.map, Nat.zero_add, Nat.reduceAdd, and_true, World.size_alloc, World.heap_drewN, heap_drew, size_set, Nat.add_eq_left, Nat.left_eq_add, Nat.add_right_cancel_iff, ne_up2, ne_dn2, ne_up3, ne_dn3, ne_up4, ne_dn4, Nat.reduceEqDiff, Nat.one_ne_zero, Nat.succ_ne_zero, Nat.zero_ne_one, reduceIte, List.set_cons_zero, List.set_cons_succ] at F3
        have L3p := hide (L3.out.put [.int .i64 z0, .int .i64 z1, .int .i64 z2, .int .i64 z3, .int .i64 z4, .int .i64 z5, .int .i64 z6, .int .i64 z7, .int .i64 z8] 55)
        have D3 : Hid (Dots _ _ _ ds) := hide ((HD.out.kept L3p.out.below).higher L3p.out.size)
        go_wp2_with fail
        refine Lv.call (refDots_any (some ⟨b, off, none⟩) n cap ds _ HN.out D3.out) (L3.out.put _ _) ?_
        intro w4 L4'
        have L4 := hide L4'
        have F4 := L4'.at
        clear L4' F3 L2
        simp only [AllAt, CellsAt, updL, List.map, Nat.zero_add, Nat.reduceAdd, and_true, World.size_alloc, World.heap_drewN, heap_drew, size_set, Nat.add_eq_left, Nat.left_eq_add, Nat.add_right_cancel_iff, ne_up2, ne_dn2, ne_up3, ne_dn3, ne_up4, ne_dn4, Nat.reduceEqDiff, Nat.one_ne_zero, Nat.succ_ne_zero, Nat.zero_ne_one, reduceIte, List.set_cons_zero, List.set_cons_succ] at F4
        rw [HE.out]
        clear D3 L3p
        go_wp2_with fail
        refine Lv.call (C2.out _ (by have := L4.out.size; omega) (fun i hi => ⟨(L4.out.below.cell (by exact hb)).trans (HC.out i hi).1, (L4.out.below.cell (by exact hb)).trans (HC.out i hi).2⟩)) L4.out ?_
        intro w5 L5'
        have L5 := hide L5'
        have F5 := L5'.at
        clear L5' F4
        simp only [AllAt, CellsAt, updL, List.map, Nat.zero_add, Nat.reduceAdd, and_true, World.size_alloc, World.heap_drewN, heap_drew, size_set, Nat.add_eq_left, Nat.left_eq_add, Nat.add_right_cancel_iff, ne_up2, ne_dn2, ne_up3, ne_dn3, ne_up4, ne_dn4, Nat.reduceEqDiff, Nat.one_ne_zero, Nat.succ_ne_zero, Nat.zero_ne_one, reduceIte, List.set_cons_zero, List.set_cons_succ] at F5
        have L5p := hide (L5.out.put [.int .i64 z0, .int .i64 z1, .int .i64 z2, .int .i64 z3, .int .i64 z4, .int .i64 z5, .int .i64 z6, .int .i64 z7, .int .i64 z8] 55)
        have D5 : Hid (Dots _ _ _ ds) := hide ((HD.out.kept L5p.out.below).higher L5p.out.size)
        go_wp2_with fail
        refine Lv.call (C3.out _ D5.out) (L5.out.put _ _) ?_
        intro w6 L6'
        have L6 := hide L6'
        have F6 := L6'.at
        clear L6' F5
        simp only [AllAt, CellsAt, updL, List.map, Nat.zero_add, Nat.reduceAdd, and_true, World.size_alloc, World.heap_drewN, heap_drew, size_set, Nat.add_eq_left, Nat.left_eq_add, Nat.add_right_cancel_iff, ne_up2, ne_dn2, ne_up3, ne_dn3, ne_up4, ne_dn4, Nat.reduceEqDiff, Nat.one_ne_zero, Nat.succ_ne_zero, Nat.zero_ne_one, reduceIte, List.set_cons_zero, List.set_cons_succ] at F6
        have D6 : Hid (Dots w6 w6.heap.size (some ⟨b, off, none⟩) ds) := hide ((HD.out.kept L6.out.below).higher L6.out.size)
        clear D5 L5p
        go_wp2_with fail
        refine Lv.call (C4.out _ D6.out) L6.out ?_
        intro w7 L7'
        have L7 := hide L7'
        have F7 := L7'.at
        clear L7' F6
        simp only [AllAt, CellsAt, updL, List.map, Nat.zero_add, Nat.reduceAdd, and_true, World.size_alloc, World.heap_drewN, heap_drew, size_set, Nat.add_eq_left, Nat.left_eq_add, Nat.add_right_cancel_iff, ne_up2, ne_dn2, ne_up3, ne_dn3, ne_up4, ne_dn4, Nat.reduceEqDiff, Nat.one_ne_zero, Nat.succ_ne_zero, Nat.zero_ne_one, reduceIte, List.set_cons_zero, List.set_cons_succ] at F7
        go_wp2
        go_ret
        refine ⟨rfl, ?_⟩
        repeat (first | (with_reducible exact L7.out.below) | refine Below.setCell ?_ (by first | omega | (simp; done) | (simp; omega)) _ | refine Below.alloc ?_ (by first | omega | (simp; done) | (simp; omega)) _ | refine below_drewN ?_ _ | refine Below.drew ?_)
      · have C1 := hide (fun W hW => line_bad A n cap ds E W HN.out hW HE.out hE0)
        have b1 : (E != 0) = true := by rw [bne_iff_ne]; exact hE0
        have hq : ∀ W : World, (Go.binOp .eql 55 (.agg #[.int .i64 0, .int .i64 0, .int .i64 0, .int .i64 0, .int .i64 0, .int .i64 0, .int .i64 0, .int .i64 0, .int .i64 0]) (.agg #[.int .i64 0, .int .i64 0, .int .i64 0, .int .i64 0, .int .i64 0, .int .i64 0, .int .i64 0, .int .i64 0, .int .i64 0])).run Try.prog W = .ok (.bool true) W := fun _ => by kernel_rfl
        clear hE0
        rcases hg3 with g1 | ⟨g1, g2⟩
        all_goals
          have L0 := hide (Lv.start w)
          go_enter Try.func5, Try.ntmps5
          go_wp2_with fail
          refine Lv.call (awake_any _) L0.out ?_
          intro w2 L2'
          have L2 := hide L2'
          have F2 := L2'.at
          clear L2'
          simp only [AllAt, CellsAt, updL, List.map, Nat.zero_add, Nat.reduceAdd, and_true, World.size_alloc, World.heap_drewN, heap_drew, size_set, Nat.add_eq_left, Nat.left_eq_add, Nat.add_right_cancel_iff, ne_up2, ne_dn2, ne_up3, ne_dn3, ne_up4, ne_dn4, Nat.reduceEqDiff, Nat.one_ne_zero, Nat.succ_ne_zero, Nat.zero_ne_one, reduceIte, List.set_cons_zero, List.set_cons_succ] at F2
          have D2 : Hid (Dots w2 w2.heap.size A ds) := hide ((HD.out.kept L2.out.below).higher L2.out.size)
          go_wp2_with fail
          refine Lv.call (C1.out _ D2.out) L2.out ?_
          intro w3 L3'
          have L3 := hide L3'
          have F3 := L3'.at
          clear L3' F2
          simp only [AllAt, CellsAt, updL, List.map, Nat.zero_add, Nat.reduceAdd, and_true, World.size_alloc, World.heap_drewN, heap_drew, size_set, Nat.add_eq_left, Nat.left_eq_add, Nat.add_right_cancel_iff, ne_up2, ne_dn2, ne_up3, ne_dn3, ne_up4, ne_dn4, Nat.reduceEqDiff, Nat.one_ne_zero, Nat.succ_ne_zero, Nat.zero_ne_one, reduceIte, List.set_cons_zero, List.set_cons_succ] at F3
          have L3p := hide (L3.out.put [.int .i64 0, .int .i64 0, .int .i64 0, .int .i64 0, .int .i64 0, .int .i64 0, .int .i64 0, .int .i64 0, .int .i64 0] 55)
          have D3 : Hid (Dots _ _ _ ds) := hide ((HD.out.kept L3p.out.below).higher L3p.out.size)
          go_wp2_with fail
          refine Lv.call (refDots_any A n cap ds _ HN.out D3.out) (L3.out.put _ _) ?_
          intro w4 L4'
          have L4 := hide L4'
          have F4 := L4'.at
          clear L4' F3 L2
          simp only [AllAt, CellsAt, updL, List.map, Nat.zero_add, Nat.reduceAdd, and_true, World.size_alloc, World.heap_drewN, heap_drew, size_set, Nat.add_eq_left, Nat.left_eq_add, Nat.add_right_cancel_iff, ne_up2, ne_dn2, ne_up3, ne_dn3, ne_up4, ne_dn4, Nat.reduceEqDiff, Nat.one_ne_zero, Nat.succ_ne_zero, Nat.zero_ne_one, reduceIte, List.set_cons_zero, List.set_cons_succ] at F4
          rw [HE.out]
          clear D3 L3p
          go_wp2
          go_ret
          refine ⟨rfl, ?_⟩
          repeat (first | (with_reducible exact L4.out.below) | refine Below.setCell ?_ (by first | omega | (simp; done) | (simp; omega)) _ | refine Below.alloc ?_ (by first | omega | (simp; done) | (simp; omega)) _ | refine below_drewN ?_ _ | refine Below.drew ?_)
set_option maxRecDepth 100000 in
theorem numberLines_lifted (os : Os) (started : os.Started) (H : Type) (enc : TypeId × Value → H) :
    ReturnsInHanded {} Try.checked os 5 .any (Rows.numberLinesSpec.pre6 enc Try.prog Try.f5 Rows.numberLinesRow.domain false) (Rows.numberLinesSpec.post enc Try.prog Try.f5 false true false false) := by
  refine returnsInHanded_of_change (C := Try.checked) (by kernel_rfl) started (by kernel_rfl) Try.func5
    (ChangeSpec.witness6 (enc := enc) (C := Try.checked) false ⟨#[], #[.slice none 0 0], []⟩ 8 (by kernel_rfl) (by kernel_rfl) (by kernel_rfl) (by kernel_rfl)) ?_
  intro W base args ds gs before hval0 hW hcnd _
  have hval : ∀ (j : Nat) t v, Try.f5.params[j]? = some t → args[j]? = some v → Value.okWide Try.prog W .any base t v := hval0
  have hW' := hW
  obtain ⟨p, q, hA0, hV, rfl, hfz, hnd⟩ := hW
  have hA : DataW.TrodAll enc Try.prog W 0 (fun _ => true) true Try.f5.params.toList args.toList ds p := hA0
  rw [Try.params5] at hA hval
  obtain ⟨v0, vs0, d0, ds0, p0, q0, hargs, rfl, rfl, h0, r0⟩ := trodAll_cons hA
  obtain ⟨rfl, rfl, rfl⟩ := trodAll_nil r0
  obtain rfl : args = #[v0] := by cases args; simp_all
  obtain ⟨rfl, rfl⟩ := trodVars_none hV
  obtain ⟨A0_l, n0_l, c0_l, rfl⟩ := okWide_slice Try.underlying52 (hval 0 52 v0 rfl rfl)
  obtain ⟨fu_l, hf_l⟩ := h0
  obtain ⟨A_l, n_l, c_l, hcs_l, hrow_l⟩ := open_rows Try.underlying52 Try.underlying70 (by kernel_rfl) (by kernel_rfl) (by decide) (fun k f hk => by match k, hk with | 0, hk => cases hk; exact Try.underlying3 | 1, hk => cases hk; exact Try.underlying3 | k + 2, hk => simp at hk) hf_l
  simp [Value.cells] at hcs_l
  obtain ⟨rfl, rfl, rfl⟩ := hcs_l
  obtain ⟨ds_l, hn_l, hd_l⟩ : ∃ ds, ds.length = n0_l ∧ Dots W W.heap.size A0_l ds := by
    rcases hrow_l with h0 | ⟨b, off, z, rfl, hb, hz⟩
    · exact ⟨[], h0.symm, fun h => by simp at h⟩
    · refine ⟨(List.range n0_l).map fun i => (z i 0, z i 1), by simp, fun _ => ⟨b, off, rfl, hb, fun i hi => ?_⟩⟩
      have hi' : i < n0_l := by simpa using hi
      have e : ((List.range n0_l).map fun i => (z i 0, z i 1)).getD i (0, 0) = (z i 0, z i 1) := by simp [hi']
      rw [e]
      exact ⟨by simpa using (hz i hi' 0 (by decide)).1, by simpa using (hz i hi' 1 (by decide)).1⟩
  clear hval0
  have hWW := hW'
  refine (numberLines_walk A0_l n0_l c0_l ds_l W hn_l hd_l).mono fun e W' ⟨he, hb⟩ => ?_
  subst he
  exact ⟨_, rfl, law_post (pa := p0 ++ []) (pv := []) hWW (fun _ _ _ => (trodAll_cons_mk (shut_bool Try.underlying4 _) trodAll_mk0)) (fun sp hsp => args_back (by kernel_rfl) _ _ _ _ (by kernel_rfl) hA0 (fun x hx => hb.same (hWW.lt x (List.mem_append_left _ hx))) (fun x hx => hsp x (List.mem_append_left _ hx))) (fun _ _ => rfl) rfl hb⟩

theorem numberLines_holds : Rows.NumberLinesSaid :=
  OpenClaim.holds_of_wide 5 Try.f5 rfl rfl rfl rfl rfl rfl rfl ⟨rfl, rfl, rfl, rfl, rfl⟩ rfl rfl rfl rfl rfl (by kernel_rfl) Try.func5 (by kernel_rfl)
    (of_decide_eq_true (by kernel_rfl)) (by unfold Func.isWrapper; first | (rw [if_pos (by decide +kernel)]; kernel_rfl) | (rw [if_neg (by decide +kernel)]; exact ⟨rfl, rfl⟩))
    (fun os started H enc _ => numberLines_lifted os started H enc)
end Go.Proofs.Ytnilfacofikoaaa
