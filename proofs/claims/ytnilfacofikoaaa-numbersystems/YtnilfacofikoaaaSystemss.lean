/- PROVED HERE: Rows.NumberSystemsSaid: agraffelaw01.NumberSystems returns true for every input, and its arguments read behind the call as before. -/
import Derived.Test.YtnilfacofikoaaaOpen
import Derived.Test.YtnilfacofikoaaaAwake
import Derived.Test.YtnilfacofikoaaaSysM
namespace Go.Proofs.Ytnilfacofikoaaa
open Go.ChangeShapes Go.WideShapes Go.ChangeAt Go.RowKit Go.Joins
set_option linter.unusedVariables false
set_option linter.unusedSimpArgs false

theorem Rd_own {w w' : World} {base g n cap : Nat} {xs : List Int} (ho : w.ownsRow base 3 1 (.slice (some ⟨g, 0, none⟩) n cap) n (i64s xs)) (hl : xs.length = n) (hb : Below w.heap.size w w') : Rd w' (some ⟨g, 0, none⟩) xs := fun _ =>
  ⟨g, 0, rfl, fun i hi => by
    rw [Nat.zero_add, hb.cell (p := ⟨g, i, none⟩) (by exact (ho.lt g rfl).2), ho.cellAt i (by omega), i64s_get hi]⟩
theorem RdB_own {w w' : World} {base g n cap : Nat} {xs : List Int} (ho : w.ownsRow base 3 1 (.slice (some ⟨g, 0, none⟩) n cap) n (i64s xs)) (hl : xs.length = n) (hb : Below w.heap.size w w') : RdB w' w'.heap.size (some ⟨g, 0, none⟩) xs := fun _ =>
  ⟨g, 0, rfl, Nat.lt_of_lt_of_le (ho.lt g rfl).2 hb.size, fun i hi => by
    rw [Nat.zero_add, hb.cell (p := ⟨g, i, none⟩) (by exact (ho.lt g rfl).2), ho.cellAt i (by omega), i64s_get hi]⟩
set_option maxHeartbeats 4000000 in
set_option maxRecDepth 100000 in
theorem numberSystems_walk (n : Int) (A : Option Addr) (len cap : Nat) (bs : List (Int × Int × Int)) (w : World) (hni : -9223372036854775808 ≤ n ∧ n ≤ 9223372036854775807) (hn : bs.length = len) (hD : Bnds w w.heap.size A bs) :
    Calls Try.prog 4 #[.int .i64 n, .slice A len cap] w fun x w' => x = .returned (.bool true) ∧ Below w.heap.size w w' := by
  have HN := hide hn
  have HD := hide hD
  clear hn hD
  by_cases hg1 : (30 : Int) < (len : Int) ∧ (len : Int) ≤ 200
  · obtain ⟨g1, g2⟩ := hg1
    have L0 := hide (Lv.start w)
    go_enter Try.func4, Try.ntmps4
    go_wp2_with fail
    refine Lv.call (awake_any _) L0.out ?_
    intro w2 L2'
    have L2 := hide L2'
    have F2 := L2'.at
    clear L2'
    simp only [AllAt, CellsAt, updL, List.map, Nat.zero_add, Nat.reduceAdd, and_true, World.size_alloc, World.heap_drewN, heap_drew, size_set, Nat.add_eq_left, Nat.left_eq_add, Nat.add_right_cancel_iff, ne_up2, ne_dn2, ne_up3, ne_dn3, ne_up4, ne_dn4, Nat.reduceEqDiff, Nat.one_ne_zero, Nat.succ_ne_zero, Nat.zero_ne_one, reduceIte, List.set_cons_zero, List.set_cons_succ] at F2
    go_wp2
    go_ret
    refine ⟨rfl, ?_⟩
    repeat (first | (with_reducible exact L2.out.below) | refine Below.setCell ?_ (by first | omega | (simp; done) | (simp; omega)) _ | refine Below.alloc ?_ (by first | omega | (simp; done) | (simp; omega)) _ | refine below_drewN ?_ _ | refine Below.drew ?_)
  · by_cases hg2 : (210 : Int) < (len : Int)
    · have g1 : (30 : Int) < (len : Int) := by omega
      have g2 : ¬ (len : Int) ≤ 200 := by omega
      clear hg1
      have L0 := hide (Lv.start w)
      go_enter Try.func4, Try.ntmps4
      go_wp2_with fail
      refine Lv.call (awake_any _) L0.out ?_
      intro w2 L2'
      have L2 := hide L2'
      have F2 := L2'.at
      clear L2'
      simp only [AllAt, CellsAt, updL, List.map, Nat.zero_add, Nat.reduceAdd, and_true, World.size_alloc, World.heap_drewN, heap_drew, size_set, Nat.add_eq_left, Nat.left_eq_add, Nat.add_right_cancel_iff, ne_up2, ne_dn2, ne_up3, ne_dn3, ne_up4, ne_dn4, Nat.reduceEqDiff, Nat.one_ne_zero, Nat.succ_ne_zero, Nat.zero_ne_one, reduceIte, List.set_cons_zero, List.set_cons_succ] at F2
      go_wp2
      go_ret
      refine ⟨rfl, ?_⟩
      repeat (first | (with_reducible exact L2.out.below) | refine Below.setCell ?_ (by first | omega | (simp; done) | (simp; omega)) _ | refine Below.alloc ?_ (by first | omega | (simp; done) | (simp; omega)) _ | refine below_drewN ?_ _ | refine Below.drew ?_)
    · have hg3 : (¬ (30 : Int) < (len : Int)) ∨ ((30 : Int) < (len : Int) ∧ ¬ (len : Int) ≤ 200) := by omega
      clear hg1
      obtain ⟨E, hE⟩ : ∃ E, sysErr n bs = E := ⟨_, rfl⟩
      have HS := hide hE
      clear hE
      by_cases hE0 : E = 0
      · subst hE0
        have hn1 : 1 ≤ n ∧ n ≤ 60 := by
          have h := HS.out
          unfold sysErr at h
          split at h <;> omega
        obtain ⟨N, rfl⟩ := Int.eq_ofNat_of_zero_le (show 0 ≤ n by omega)
        have hN : 1 ≤ N ∧ N ≤ 60 := by omega
        obtain ⟨_, hl200, hok⟩ := sys_ok HS.out
        have hl30 : ¬ (30 : Int) < (len : Int) := by have := HN.out; omega
        clear hg3 hn1 hni hl200 hg2
        rcases sys_ways hN.1 hok with ⟨r, hr, hup, hlow⟩ | ⟨hup, v, c, hC⟩
        · have S1 := hide (fun W hW => solve_ok N A len cap r bs W HN.out hW HS.out hr hup hlow)
          have S2 := hide (fun W hW => refSolve_any N r A len cap bs W HN.out hW HS.out (by omega) hup (fun _ => hlow))
          have hrn : r ≤ N := by omega
          have HSL := hide ((solveSt_len (bs := bs) (n := N) (r + 1)).1)
          clear hok hup hlow hr
          have L0 := hide (Lv.start w)
          go_enter Try.func4, Try.ntmps4
          go_wp2_with fail
          refine Lv.call (awake_any _) L0.out ?_
          intro w2 L2'
          have L2 := hide L2'
          have F2 := L2'.at
          clear L2'
          simp only [AllAt, CellsAt, updL, List.map, Nat.zero_add, Nat.reduceAdd, and_true, World.size_alloc, World.heap_drewN, heap_drew, size_set, Nat.add_eq_left, Nat.left_eq_add, Nat.add_right_cancel_iff, ne_up2, ne_dn2, ne_up3, ne_dn3, ne_up4, ne_dn4, Nat.reduceEqDiff, Nat.one_ne_zero, Nat.succ_ne_zero, Nat.zero_ne_one, reduceIte, List.set_cons_zero, List.set_cons_succ] at F2
          have D2 : Hid (Bnds w2 w2.heap.size A bs) := (HD.out.kept L2.out.below).mono L2.out.size
          go_wp2_with fail
          refine (refCheckSystem_any N A len cap bs _ HN.out D2.out).mono ?_
          rintro e w3 ⟨rfl, q3, rfl⟩
          have L3 := hide (L2.out.drewN q3)
          have D3 : Hid (Bnds (w2.drewN q3) (w2.drewN q3).heap.size A bs) := (HD.out.kept L3.out.below).mono L3.out.size
          clear D2 F2
          rw [HS.out]
          go_wp2_with fail
          refine (S1.out _ D3.out).mono ?_
          rintro e w4 ⟨g4, rfl, ho4, hb4⟩
          have L4 := hide (L3.out.kept hb4)
          have D4 : Hid (Bnds w4 w4.heap.size A bs) := (HD.out.kept L4.out.below).mono L4.out.size
          have HO4 := hide ho4
          clear ho4 hb4 S1
          go_wp2_with fail
          refine (checkSystem_any N A len cap bs _ HN.out D4.out).mono ?_
          rintro e w5 ⟨rfl, hb5⟩
          rw [HS.out]
          have L5 := hide (L4.out.kept hb5)
          have D5 : Hid (Bnds w5 w5.heap.size A bs) := (HD.out.kept L5.out.below).mono L5.out.size
          have HB5 := hide hb5
          clear hb5 D4
          go_wp2_with fail
          refine (S2.out _ D5.out).mono ?_
          rintro e w6 ⟨hb6, hgood, _⟩
          obtain ⟨g6, rfl, ho6⟩ := hgood hrn
          have L6 := hide (L5.out.kept hb6)
          have HB6 := hide (HB5.out.trans (hb6.mono HB5.out.size))
          have HO6 := hide ho6
          clear hgood ho6 hb6 S2
          go_wp2_with fail
          refine (ints_same (some ⟨g4, 0, none⟩) (some ⟨g6, 0, none⟩) N N N (solveSt bs N (r + 1)).vs (solveSt bs N (r + 1)).vs _ HSL.out HSL.out (by omega) (Rd_own HO4.out HSL.out HB6.out) (Rd_own HO6.out HSL.out (Below.refl _ _))).mono ?_
          rintro e w7 ⟨rfl, q7, rfl⟩
          rw [decide_eq_true (rfl : (solveSt bs N (r + 1)).vs = (solveSt bs N (r + 1)).vs)]
          have L7 := hide (L6.out.drewN q7)
          go_wp2
          go_ret
          refine ⟨rfl, ?_⟩
          repeat (first | (with_reducible exact L7.out.below) | refine Below.setCell ?_ (by first | omega | (simp; done) | (simp; omega)) _ | refine Below.alloc ?_ (by first | omega | (simp; done) | (simp; omega)) _ | refine below_drewN ?_ _ | refine Below.drew ?_)
        · have S1 := hide (fun W hW => solve_cyc N v c A len cap bs W HN.out hW HS.out (fun q hq => hup q (by omega)) hC)
          have S2 := hide (fun W hW => refSolve_any N (N + 1) A len cap bs W HN.out hW HS.out (Nat.le_refl _) hup (fun h => by omega))
          have hc1 := hC.circ.one
          have hc2 := hC.circ.most
          have HG := hide (cir_good hok hN.2 hC)
          have HCL := hide (cirL_len (bs := bs) (n := N) (v := v) (c := c))
          clear hok hup hC
          have L0 := hide (Lv.start w)
          go_enter Try.func4, Try.ntmps4
          go_wp2_with fail
          refine Lv.call (awake_any _) L0.out ?_
          intro w2 L2'
          have L2 := hide L2'
          have F2 := L2'.at
          clear L2'
          simp only [AllAt, CellsAt, updL, List.map, Nat.zero_add, Nat.reduceAdd, and_true, World.size_alloc, World.heap_drewN, heap_drew, size_set, Nat.add_eq_left, Nat.left_eq_add, Nat.add_right_cancel_iff, ne_up2, ne_dn2, ne_up3, ne_dn3, ne_up4, ne_dn4, Nat.reduceEqDiff, Nat.one_ne_zero, Nat.succ_ne_zero, Nat.zero_ne_one, reduceIte, List.set_cons_zero, List.set_cons_succ] at F2
          have D2 : Hid (Bnds w2 w2.heap.size A bs) := (HD.out.kept L2.out.below).mono L2.out.size
          go_wp2_with fail
          refine (refCheckSystem_any N A len cap bs _ HN.out D2.out).mono ?_
          rintro e w3 ⟨rfl, q3, rfl⟩
          have L3 := hide (L2.out.drewN q3)
          have D3 : Hid (Bnds (w2.drewN q3) (w2.drewN q3).heap.size A bs) := (HD.out.kept L3.out.below).mono L3.out.size
          clear D2 F2
          rw [HS.out]
          go_wp2_with fail
          refine (S1.out _ D3.out).mono ?_
          rintro e w4 ⟨g4, cp4, rfl, ho4, hb4⟩
          have L4 := hide (L3.out.kept hb4)
          have D4 : Hid (Bnds w4 w4.heap.size A bs) := (HD.out.kept L4.out.below).mono L4.out.size
          have HO4 := hide ho4
          clear ho4 hb4 S1
          go_wp2_with fail
          refine (checkSystem_any N A len cap bs _ HN.out D4.out).mono ?_
          rintro e w5 ⟨rfl, hb5⟩
          rw [HS.out]
          have L5 := hide (L4.out.kept hb5)
          have D5 : Hid (Bnds w5 w5.heap.size A bs) := (HD.out.kept L5.out.below).mono L5.out.size
          have HB5 := hide hb5
          clear hb5 D4
          go_wp2_with fail
          refine (S2.out _ D5.out).mono ?_
          rintro e w6 ⟨hb6, _, hbad⟩
          obtain rfl := hbad rfl
          have L6 := hide (L5.out.kept hb6)
          have D6 : Hid (Bnds w6 w6.heap.size A bs) := (HD.out.kept L6.out.below).mono L6.out.size
          have HB6 := hide (HB5.out.trans (hb6.mono HB5.out.size))
          clear hbad hb6 S2 D5
          have R6 := hide (RdB_own HO4.out HCL.out HB6.out)
          go_wp2_with fail
          refine (refCheckCircle_any N A _ len cap c cp4 bs (cirL bs N v c) _ HN.out HCL.out D6.out R6.out HS.out).mono ?_
          rintro e w7 ⟨rfl, q7, rfl⟩
          rw [HG.out]
          have L7 := hide (L6.out.drewN q7)
          have HB7 := hide (below_drewN HB6.out q7)
          have R7 := hide (RdB_own HO4.out HCL.out HB7.out)
          clear R6 D6
          go_wp2_with fail
          refine (copyInts_any _ c cp4 (cirL bs N v c) _ HCL.out (by omega) (by omega) R7.out).mono ?_
          rintro e w8 ⟨g8, cp8, rfl, ho8, hb8⟩
          have L8 := hide (L7.out.kept hb8)
          have D8 : Hid (Bnds w8 w8.heap.size A bs) := (HD.out.kept L8.out.below).mono L8.out.size
          have R8 := hide (RdB_own ho8 HCL.out (Below.refl _ _))
          clear ho8 hb8 R7
          go_wp2_with fail
          refine (checkCircle_any N A _ len cap c cp8 bs (cirL bs N v c) _ HN.out HCL.out D8.out R8.out HS.out).mono ?_
          rintro e w9 ⟨rfl, hb9⟩
          rw [HG.out]
          have L9 := hide (L8.out.kept hb9)
          clear hb9
          go_wp2
          go_ret
          refine ⟨rfl, ?_⟩
          repeat (first | (with_reducible exact L9.out.below) | refine Below.setCell ?_ (by first | omega | (simp; done) | (simp; omega)) _ | refine Below.alloc ?_ (by first | omega | (simp; done) | (simp; omega)) _ | refine below_drewN ?_ _ | refine Below.drew ?_)
      · have S1 := hide (fun W hW => solve_bad n A len cap bs E W HN.out hW HS.out hE0)
        have b1 : (E != 0) = true := by rw [bne_iff_ne]; exact hE0
        have b2 : (E == 0) = false := by rw [beq_eq_false_iff_ne]; exact hE0
        clear hE0
        rcases hg3 with g1 | ⟨g1, g2⟩
        all_goals
          have L0 := hide (Lv.start w)
          go_enter Try.func4, Try.ntmps4
          go_wp2_with fail
          refine Lv.call (awake_any _) L0.out ?_
          intro w2 L2'
          have L2 := hide L2'
          have F2 := L2'.at
          clear L2'
          simp only [AllAt, CellsAt, updL, List.map, Nat.zero_add, Nat.reduceAdd, and_true, World.size_alloc, World.heap_drewN, heap_drew, size_set, Nat.add_eq_left, Nat.left_eq_add, Nat.add_right_cancel_iff, ne_up2, ne_dn2, ne_up3, ne_dn3, ne_up4, ne_dn4, Nat.reduceEqDiff, Nat.one_ne_zero, Nat.succ_ne_zero, Nat.zero_ne_one, reduceIte, List.set_cons_zero, List.set_cons_succ] at F2
          have D2 : Hid (Bnds w2 w2.heap.size A bs) := (HD.out.kept L2.out.below).mono L2.out.size
          go_wp2_with fail
          refine (refCheckSystem_any n A len cap bs _ HN.out D2.out).mono ?_
          rintro e w3 ⟨rfl, q3, rfl⟩
          have L3 := hide (L2.out.drewN q3)
          have D3 : Hid (Bnds (w2.drewN q3) (w2.drewN q3).heap.size A bs) := (HD.out.kept L3.out.below).mono L3.out.size
          clear D2 F2
          rw [HS.out]
          go_wp2_with fail
          refine Lv.call (S1.out _ D3.out) L3.out ?_
          intro w4 L4'
          have L4 := hide L4'
          have F4 := L4'.at
          clear L4'
          simp only [AllAt, CellsAt, updL, List.map, Nat.zero_add, Nat.reduceAdd, and_true, World.size_alloc, World.heap_drewN, heap_drew, size_set, Nat.add_eq_left, Nat.left_eq_add, Nat.add_right_cancel_iff, ne_up2, ne_dn2, ne_up3, ne_dn3, ne_up4, ne_dn4, Nat.reduceEqDiff, Nat.one_ne_zero, Nat.succ_ne_zero, Nat.zero_ne_one, reduceIte, List.set_cons_zero, List.set_cons_succ] at F4
          have D4 : Hid (Bnds w4 w4.heap.size A bs) := (HD.out.kept L4.out.below).mono L4.out.size
          go_wp2_with fail
          refine Lv.call (checkSystem_any n A len cap bs _ HN.out D4.out) L4.out ?_
          intro w5 L5'
          have L5 := hide L5'
          have F5 := L5'.at
          clear L5'
          simp only [AllAt, CellsAt, updL, List.map, Nat.zero_add, Nat.reduceAdd, and_true, World.size_alloc, World.heap_drewN, heap_drew, size_set, Nat.add_eq_left, Nat.left_eq_add, Nat.add_right_cancel_iff, ne_up2, ne_dn2, ne_up3, ne_dn3, ne_up4, ne_dn4, Nat.reduceEqDiff, Nat.one_ne_zero, Nat.succ_ne_zero, Nat.zero_ne_one, reduceIte, List.set_cons_zero, List.set_cons_succ] at F5
          rw [HS.out]
          go_wp2
          go_ret
          refine ⟨rfl, ?_⟩
          repeat (first | (with_reducible exact L5.out.below) | refine Below.setCell ?_ (by first | omega | (simp; done) | (simp; omega)) _ | refine Below.alloc ?_ (by first | omega | (simp; done) | (simp; omega)) _ | refine below_drewN ?_ _ | refine Below.drew ?_)
set_option maxRecDepth 100000 in
theorem numberSystems_lifted (os : Os) (started : os.Started) (H : Type) (enc : TypeId × Value → H) :
    ReturnsInHanded {} Try.checked os 4 .any (Rows.numberSystemsSpec.pre6 enc Try.prog Try.f4 Rows.numberSystemsRow.domain false) (Rows.numberSystemsSpec.post enc Try.prog Try.f4 false true false false) := by
  refine returnsInHanded_of_change (C := Try.checked) (by kernel_rfl) started (by kernel_rfl) Try.func4
    (ChangeSpec.witness6 (enc := enc) (C := Try.checked) false ⟨#[], #[.int .i64 0, .slice none 0 0], []⟩ 8 (by kernel_rfl) (by kernel_rfl) (by kernel_rfl) (by kernel_rfl)) ?_
  intro W base args ds gs before hval0 hW hcnd _
  have hval : ∀ (j : Nat) t v, Try.f4.params[j]? = some t → args[j]? = some v → Value.okWide Try.prog W .any base t v := hval0
  have hW' := hW
  obtain ⟨p, q, hA0, hV, rfl, hfz, hnd⟩ := hW
  have hA : DataW.TrodAll enc Try.prog W 0 (fun _ => true) true Try.f4.params.toList args.toList ds p := hA0
  rw [Try.params4] at hA hval
  obtain ⟨v0, vs0, d0, ds0, p0, q0, hargs, rfl, rfl, h0, r0⟩ := trodAll_cons hA
  obtain ⟨v1, vs1, d1, ds1, p1, q1, rfl, rfl, rfl, h1, r1⟩ := trodAll_cons r0
  obtain ⟨rfl, rfl, rfl⟩ := trodAll_nil r1
  obtain rfl : args = #[v0, v1] := by cases args; simp_all
  obtain ⟨rfl, rfl⟩ := trodVars_none hV
  obtain ⟨n, rfl, rfl, rfl, w_n⟩ := open_int Try.underlying3 (hval 0 3 v0 rfl rfl) h0
  obtain ⟨A0_l, n0_l, c0_l, rfl⟩ := okWide_slice Try.underlying37 (hval 1 37 v1 rfl rfl)
  obtain ⟨fu_l, hf_l⟩ := h1
  obtain ⟨A_l, n_l, c_l, hcs_l, hrow_l⟩ := open_rows Try.underlying37 Try.underlying67 (by kernel_rfl) (by kernel_rfl) (by decide) (fun k f hk => by match k, hk with | 0, hk => cases hk; exact Try.underlying3 | 1, hk => cases hk; exact Try.underlying3 | 2, hk => cases hk; exact Try.underlying3 | k + 3, hk => simp at hk) hf_l
  simp [Value.cells] at hcs_l
  obtain ⟨rfl, rfl, rfl⟩ := hcs_l
  obtain ⟨ds_l, hn_l, hd_l⟩ : ∃ ds, ds.length = n0_l ∧ Bnds W W.heap.size A0_l ds := by
    rcases hrow_l with h0 | ⟨b, off, z, rfl, hb, hz⟩
    · exact ⟨[], h0.symm, fun h => by simp at h⟩
    · refine ⟨(List.range n0_l).map fun i => (z i 0, z i 1, z i 2), by simp, fun _ => ⟨b, off, rfl, hb, fun i hi => ?_⟩⟩
      have hi' : i < n0_l := by simpa using hi
      have e : ((List.range n0_l).map fun i => (z i 0, z i 1, z i 2)).getD i (0, 0, 0) = (z i 0, z i 1, z i 2) := by simp [hi']
      rw [e]
      exact ⟨by simpa using (hz i hi' 0 (by decide)).1, by simpa using (hz i hi' 1 (by decide)).1, by simpa using (hz i hi' 2 (by decide)).1⟩
  clear hval0
  have hWW := hW'
  refine (numberSystems_walk n A0_l n0_l c0_l ds_l W (wfI w_n) hn_l hd_l).mono fun e W' ⟨he, hb⟩ => ?_
  subst he
  exact ⟨_, rfl, law_post (pa := [] ++ (p1 ++ [])) (pv := []) hWW (fun _ _ _ => (trodAll_cons_mk (shut_bool Try.underlying4 _) trodAll_mk0)) (fun sp hsp => args_back (by kernel_rfl) _ _ _ _ (by kernel_rfl) hA0 (fun x hx => hb.same (hWW.lt x (List.mem_append_left _ hx))) (fun x hx => hsp x (List.mem_append_left _ hx))) (fun _ _ => rfl) rfl hb⟩

theorem numberSystems_holds : Rows.NumberSystemsSaid :=
  OpenClaim.holds_of_wide 4 Try.f4 rfl rfl rfl rfl rfl rfl rfl ⟨rfl, rfl, rfl, rfl, rfl⟩ rfl rfl rfl rfl rfl (by kernel_rfl) Try.func4 (by kernel_rfl)
    (of_decide_eq_true (by kernel_rfl)) (by unfold Func.isWrapper; first | (rw [if_pos (by decide +kernel)]; kernel_rfl) | (rw [if_neg (by decide +kernel)]; exact ⟨rfl, rfl⟩))
    (fun os started H enc _ => numberSystems_lifted os started H enc)
end Go.Proofs.Ytnilfacofikoaaa
