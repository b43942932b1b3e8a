/- PROVED HERE: Rows.PlateMarginsSaid: agraffelaw03.PlateMargins returns true for every input, and its arguments read behind the call as before. -/
import Derived.Test.YtdhbjklbgdnfmaaLift
import Derived.Test.YtdhbjklbgdnfmaaPlAwake
import Derived.Test.YtdhbjklbgdnfmaaPlMargin
namespace Go.Proofs.Ytdhbjklbgdnfmaa
open Go.ChangeShapes Go.WideShapes Go.ChangeAt Go.RowKit Go.Joins
set_option linter.unusedVariables false
set_option linter.unusedSimpArgs false

set_option maxHeartbeats 2000000 in
set_option maxRecDepth 100000 in
theorem refMargin_any (a b c d : Int) (w : World) (ha : in64' a) (hb : in64' b) (hc : in64' c) (hd : in64' d) :
    Calls Try.prog 64 #[.agg #[.int .i64 a, .int .i64 b], .agg #[.int .i64 c, .int .i64 d]] w fun e w' => e = .returned (.tuple #[.int .i64 (marN a b c d), .int .i64 (marE a b c d)]) ∧ Below w.heap.size w w' := by
  by_cases h1 : shareE a b = 0
  · by_cases h2 : shareE c d = 0
    · have s1 := share_cases a b
      have s2 := share_cases c d
      have k1 : lowF a b ∧ (0 ≤ a ∧ a ≤ 1000000) ∧ b ≤ 1000000 := by
        rcases s1 with ⟨e, _⟩ | ⟨e, _⟩ | ⟨_, h⟩
        · rw [h1] at e; cases e
        · rw [h1] at e; cases e
        · exact h
      have k2 : lowF c d ∧ (0 ≤ c ∧ c ≤ 1000000) ∧ d ≤ 1000000 := by
        rcases s2 with ⟨e, _⟩ | ⟨e, _⟩ | ⟨_, h⟩
        · rw [h2] at e; cases e
        · rw [h2] at e; cases e
        · exact h
      by_cases h3 : a = 0
      · have eN : marN a b c d = 0 := if_neg (fun h => h.2.2 h3)
        have eE : marE a b c d = 11 := by unfold marE; rw [if_pos h1, if_pos h2, if_pos h3]
        rw [eN, eE]
        have H1 := hide h1
        have H2 := hide h2
        have b0 : ((a : Int) == 0) = true := by rw [beq_iff_eq]; exact h3
        clear eN eE h1 h2 s1 s2 k1 k2 h3
        have L0 := hide (Lv.start w)
        go_enter Try.func64, Try.ntmps64
        go_wp2_with fail
        refine Lv.call (refPart_any a b _ ha hb) ((L0.out.put _ _).put _ _) ?_
        intro w1 L1'
        have L1 := hide L1'
        have F1 := L1'.at
        clear L1'
        simp only [AllAt, CellsAt, updL, List.map, Nat.zero_add, Nat.reduceAdd, and_true, World.size_alloc, World.heap_drewN, heap_drew, size_set, Nat.add_eq_left, Nat.left_eq_add, Nat.add_right_cancel_iff, ne_up2, ne_dn2, ne_up3, ne_dn3, ne_up4, ne_dn4, Nat.reduceEqDiff, Nat.one_ne_zero, Nat.succ_ne_zero, Nat.zero_ne_one, reduceIte, List.set_cons_zero, List.set_cons_succ] at F1
        rw [H1.out]
        go_wp2_with fail
        refine Lv.call (refPart_any c d _ hc hd) L1.out ?_
        intro w2 L2'
        have L2 := hide L2'
        have F2 := L2'.at
        clear L2' F1
        simp only [AllAt, CellsAt, updL, List.map, Nat.zero_add, Nat.reduceAdd, and_true, World.size_alloc, World.heap_drewN, heap_drew, size_set, Nat.add_eq_left, Nat.left_eq_add, Nat.add_right_cancel_iff, ne_up2, ne_dn2, ne_up3, ne_dn3, ne_up4, ne_dn4, Nat.reduceEqDiff, Nat.one_ne_zero, Nat.succ_ne_zero, Nat.zero_ne_one, reduceIte, List.set_cons_zero, List.set_cons_succ] at F2
        rw [H2.out]
        go_wp2
        go_ret2
        refine ⟨rfl, ?_⟩
        repeat (first | (with_reducible exact L2.out.below) | refine Below.setCell ?_ (by first | omega | (simp; done) | (simp; omega)) _ | refine Below.alloc ?_ (by first | omega | (simp; done) | (simp; omega)) _ | refine below_drewN ?_ _ | refine Below.drew ?_)
      · have eN : marN a b c d = (1000 * c * b) / (d * a) := if_pos ⟨h1, h2, h3⟩
        have eE : marE a b c d = 0 := by unfold marE; rw [if_pos h1, if_pos h2, if_neg h3]
        rw [eN, eE]
        have H1 := hide h1
        have H2 := hide h2
        obtain ⟨m1, m2⟩ := mar_in k1 k2 h3
        have CD := hide (fun W => floor_any (1000 * c * b) (d * a) W (by omega) (by omega) (by omega) (by omega))
        have b0 : ((a : Int) == 0) = false := by rw [beq_eq_false_iff_ne]; exact h3
        have a1 : 0 ≤ a ∧ a ≤ 1000000 := k1.2.1
        have b1 : 1 ≤ b ∧ b ≤ 1000000 := ⟨k1.1.1, k1.2.2⟩
        have c1 : 0 ≤ c ∧ c ≤ 1000000 := k2.2.1
        have d1 : 1 ≤ d ∧ d ≤ 1000000 := ⟨k2.1.1, k2.2.2⟩
        clear eN eE h1 h2 s1 s2 k1 k2 h3
        have L0 := hide (Lv.start w)
        go_enter Try.func64, Try.ntmps64
        go_wp2_with fail
        refine Lv.call (refPart_any a b _ ha hb) ((L0.out.put _ _).put _ _) ?_
        intro w1 L1'
        have L1 := hide L1'
        have F1 := L1'.at
        clear L1'
        simp only [AllAt, CellsAt, updL, List.map, Nat.zero_add, Nat.reduceAdd, and_true, World.size_alloc, World.heap_drewN, heap_drew, size_set, Nat.add_eq_left, Nat.left_eq_add, Nat.add_right_cancel_iff, ne_up2, ne_dn2, ne_up3, ne_dn3, ne_up4, ne_dn4, Nat.reduceEqDiff, Nat.one_ne_zero, Nat.succ_ne_zero, Nat.zero_ne_one, reduceIte, List.set_cons_zero, List.set_cons_succ] at F1
        rw [H1.out]
        go_wp2_with fail
        refine Lv.call (refPart_any c d _ hc hd) L1.out ?_
        intro w2 L2'
        have L2 := hide L2'
        have F2 := L2'.at
        clear L2' F1
        simp only [AllAt, CellsAt, updL, List.map, Nat.zero_add, Nat.reduceAdd, and_true, World.size_alloc, World.heap_drewN, heap_drew, size_set, Nat.add_eq_left, Nat.left_eq_add, Nat.add_right_cancel_iff, ne_up2, ne_dn2, ne_up3, ne_dn3, ne_up4, ne_dn4, Nat.reduceEqDiff, Nat.one_ne_zero, Nat.succ_ne_zero, Nat.zero_ne_one, reduceIte, List.set_cons_zero, List.set_cons_succ] at F2
        rw [H2.out]
        go_wp2_with fail
        refine Lv.same (CD.out _) ?_
        go_wp2
        go_ret2
        refine ⟨rfl, ?_⟩
        repeat (first | (with_reducible exact L2.out.below) | refine Below.setCell ?_ (by first | omega | (simp; done) | (simp; omega)) _ | refine Below.alloc ?_ (by first | omega | (simp; done) | (simp; omega)) _ | refine below_drewN ?_ _ | refine Below.drew ?_)
    · have eN : marN a b c d = 0 := if_neg (fun h => h2 h.2.1)
      have eE : marE a b c d = shareE c d := by unfold marE; rw [if_pos h1, if_neg h2]
      rw [eN, eE]
      have H1 := hide h1
      have hb0 : (shareE c d != 0) = true := by rw [bne_iff_ne]; exact h2
      clear eN eE h1 h2
      obtain ⟨f, hf⟩ : ∃ f, f = shareE c d := ⟨_, rfl⟩
      have C2 := hide (fun W => refPart_any c d W hc hd)
      rw [← hf] at C2 hb0 ⊢
      clear hf
      have L0 := hide (Lv.start w)
      go_enter Try.func64, Try.ntmps64
      go_wp2_with fail
      refine Lv.call (refPart_any a b _ ha hb) ((L0.out.put _ _).put _ _) ?_
      intro w1 L1'
      have L1 := hide L1'
      have F1 := L1'.at
      clear L1'
      simp only [AllAt, CellsAt, updL, List.map, Nat.zero_add, Nat.reduceAdd, and_true, World.size_alloc, World.heap_drewN, heap_drew, size_set, Nat.add_eq_left, Nat.left_eq_add, Nat.add_right_cancel_iff, ne_up2, ne_dn2, ne_up3, ne_dn3, ne_up4, ne_dn4, Nat.reduceEqDiff, Nat.one_ne_zero, Nat.succ_ne_zero, Nat.zero_ne_one, reduceIte, List.set_cons_zero, List.set_cons_succ] at F1
      rw [H1.out]
      go_wp2_with fail
      refine Lv.call (C2.out _) L1.out ?_
      intro w2 L2'
      have L2 := hide L2'
      have F2 := L2'.at
      clear L2' F1
      simp only [AllAt, CellsAt, updL, List.map, Nat.zero_add, Nat.reduceAdd, and_true, World.size_alloc, World.heap_drewN, heap_drew, size_set, Nat.add_eq_left, Nat.left_eq_add, Nat.add_right_cancel_iff, ne_up2, ne_dn2, ne_up3, ne_dn3, ne_up4, ne_dn4, Nat.reduceEqDiff, Nat.one_ne_zero, Nat.succ_ne_zero, Nat.zero_ne_one, reduceIte, List.set_cons_zero, List.set_cons_succ] at F2
      go_wp2
      go_ret2
      refine ⟨rfl, ?_⟩
      repeat (first | (with_reducible exact L2.out.below) | refine Below.setCell ?_ (by first | omega | (simp; done) | (simp; omega)) _ | refine Below.alloc ?_ (by first | omega | (simp; done) | (simp; omega)) _ | refine below_drewN ?_ _ | refine Below.drew ?_)
  · have eN : marN a b c d = 0 := if_neg (fun h => h1 h.1)
    have eE : marE a b c d = shareE a b := by unfold marE; rw [if_neg h1]
    rw [eN, eE]
    have hb0 : (shareE a b != 0) = true := by rw [bne_iff_ne]; exact h1
    clear eN eE h1
    obtain ⟨f, hf⟩ : ∃ f, f = shareE a b := ⟨_, rfl⟩
    have C1 := hide (fun W => refPart_any a b W ha hb)
    rw [← hf] at C1 hb0 ⊢
    clear hf
    have L0 := hide (Lv.start w)
    go_enter Try.func64, Try.ntmps64
    go_wp2_with fail
    refine Lv.call (C1.out _) ((L0.out.put _ _).put _ _) ?_
    intro w1 L1'
    have L1 := hide L1'
    have F1 := L1'.at
    clear L1'
    simp only [AllAt, CellsAt, updL, List.map, Nat.zero_add, Nat.reduceAdd, and_true, World.size_alloc, World.heap_drewN, heap_drew, size_set, Nat.add_eq_left, Nat.left_eq_add, Nat.add_right_cancel_iff, ne_up2, ne_dn2, ne_up3, ne_dn3, ne_up4, ne_dn4, Nat.reduceEqDiff, Nat.one_ne_zero, Nat.succ_ne_zero, Nat.zero_ne_one, reduceIte, List.set_cons_zero, List.set_cons_succ] at F1
    go_wp2
    go_ret2
    refine ⟨rfl, ?_⟩
    repeat (first | (with_reducible exact L1.out.below) | refine Below.setCell ?_ (by first | omega | (simp; done) | (simp; omega)) _ | refine Below.alloc ?_ (by first | omega | (simp; done) | (simp; omega)) _ | refine below_drewN ?_ _ | refine Below.drew ?_)
set_option maxHeartbeats 2000000 in
set_option maxRecDepth 100000 in
theorem plateMargins_walk (a b c d : Int) (w : World) (ha : in64' a) (hb : in64' b) (hc : in64' c) (hd : in64' d) :
    Calls Try.prog 14 #[.agg #[.int .i64 a, .int .i64 b], .agg #[.int .i64 c, .int .i64 d]] w fun x w' => x = .returned (.bool true) ∧ Below w.heap.size w w' := by
  have C1 := fun W => plMargin_any a b c d W ha hb hc hd
  have C2 := fun W => refMargin_any a b c d W ha hb hc hd
  obtain ⟨x, hx⟩ : ∃ x, x = marN a b c d := ⟨_, rfl⟩
  obtain ⟨y, hy⟩ : ∃ x, x = marE a b c d := ⟨_, rfl⟩
  rw [← hx, ← hy] at C1 C2
  replace C1 := hide C1
  replace C2 := hide C2
  clear hx hy
  have L0 := hide (Lv.start w)
  go_enter Try.func14, Try.ntmps14
  go_wp2_with fail
  refine Lv.call (plAwake_any _) ((L0.out.put _ _).put _ _) ?_
  intro w1 L1'
  have L1 := hide L1'
  have F1 := L1'.at
  clear L1'
  simp only [AllAt, CellsAt, updL, List.map, Nat.zero_add, Nat.reduceAdd, and_true, World.size_alloc, World.heap_drewN, heap_drew, size_set, Nat.add_eq_left, Nat.left_eq_add, Nat.add_right_cancel_iff, ne_up2, ne_dn2, ne_up3, ne_dn3, ne_up4, ne_dn4, Nat.reduceEqDiff, Nat.one_ne_zero, Nat.succ_ne_zero, Nat.zero_ne_one, reduceIte, List.set_cons_zero, List.set_cons_succ] at F1
  go_wp2_with fail
  refine Lv.call (C1.out _) L1.out ?_
  intro w2 L2'
  have L2 := hide L2'
  have F2 := L2'.at
  clear L2' F1
  simp only [AllAt, CellsAt, updL, List.map, Nat.zero_add, Nat.reduceAdd, and_true, World.size_alloc, World.heap_drewN, heap_drew, size_set, Nat.add_eq_left, Nat.left_eq_add, Nat.add_right_cancel_iff, ne_up2, ne_dn2, ne_up3, ne_dn3, ne_up4, ne_dn4, Nat.reduceEqDiff, Nat.one_ne_zero, Nat.succ_ne_zero, Nat.zero_ne_one, reduceIte, List.set_cons_zero, List.set_cons_succ] at F2
  go_wp2_with fail
  refine Lv.call (C2.out _) L2.out ?_
  intro w3 L3'
  have L3 := hide L3'
  have F3 := L3'.at
  clear L3' F2
  simp only [AllAt, CellsAt, updL, List.map, Nat.zero_add, Nat.reduceAdd, and_true, World.size_alloc, World.heap_drewN, heap_drew, size_set, Nat.add_eq_left, Nat.left_eq_add, Nat.add_right_cancel_iff, ne_up2, ne_dn2, ne_up3, ne_dn3, ne_up4, ne_dn4, Nat.reduceEqDiff, Nat.one_ne_zero, Nat.succ_ne_zero, Nat.zero_ne_one, reduceIte, List.set_cons_zero, List.set_cons_succ] at F3
  go_wp2
  go_ret
  refine ⟨rfl, ?_⟩
  repeat (first | (with_reducible exact L3.out.below) | refine Below.setCell ?_ (by first | omega | (simp; done) | (simp; omega)) _ | refine Below.alloc ?_ (by first | omega | (simp; done) | (simp; omega)) _ | refine below_drewN ?_ _ | refine Below.drew ?_)
set_option maxRecDepth 100000 in
theorem plateMargins_lifted (os : Os) (started : os.Started) (H : Type) (enc : TypeId × Value → H) :
    ReturnsInHanded {} Try.checked os 14 .any (Rows.plateMarginsSpec.pre6 enc Try.prog Try.f14 Rows.plateMarginsRow.domain false) (Rows.plateMarginsSpec.post enc Try.prog Try.f14 false true false false) := by
  refine returnsInHanded_of_change (C := Try.checked) (by kernel_rfl) started (by kernel_rfl) Try.func14
    (ChangeSpec.witness6 (enc := enc) (C := Try.checked) false ⟨#[], #[.agg #[.int .i64 0, .int .i64 0], .agg #[.int .i64 0, .int .i64 0]], []⟩ 8 (by kernel_rfl) (by kernel_rfl) (by kernel_rfl) (by kernel_rfl)) ?_
  intro W base args ds gs before hval0 hW hcnd _
  have hval : ∀ (j : Nat) t v, Try.f14.params[j]? = some t → args[j]? = some v → Value.okWide Try.prog W .any base t v := hval0
  have hW' := hW
  obtain ⟨p, q, hA0, hV, rfl, hfz, hnd⟩ := hW
  have hA : DataW.TrodAll enc Try.prog W 0 (fun _ => true) true Try.f14.params.toList args.toList ds p := hA0
  rw [Try.params14] at hA hval
  obtain ⟨v0, vs0, d0, ds0, p0, q0, hargs, rfl, rfl, h0, r0⟩ := trodAll_cons hA
  obtain ⟨v1, vs1, d1, ds1, p1, q1, rfl, rfl, rfl, h1, r1⟩ := trodAll_cons r0
  obtain ⟨rfl, rfl, rfl⟩ := trodAll_nil r1
  obtain rfl : args = #[v0, v1] := by cases args; simp_all
  obtain ⟨rfl, rfl⟩ := trodVars_none hV
  obtain ⟨c0_0, c0_1, y0_0, y0_1, m0, rfl, rfl, rfl, hy0_0, hy0_1⟩ := open_agg2 Try.underlying29 (by kernel_rfl) (by kernel_rfl) (hval 0 29 v0 rfl rfl) h0
  obtain ⟨a, e_a, rfl, w_a⟩ := DataW.trod_int Try.underlying3 hy0_0
  obtain ⟨b, e_b, rfl, w_b⟩ := DataW.trod_int Try.underlying3 hy0_1
  simp at e_a e_b
  subst e_a e_b
  obtain ⟨c1_0, c1_1, y1_0, y1_1, m1, rfl, rfl, rfl, hy1_0, hy1_1⟩ := open_agg2 Try.underlying29 (by kernel_rfl) (by kernel_rfl) (hval 1 29 v1 rfl rfl) h1
  obtain ⟨c, e_c, rfl, w_c⟩ := DataW.trod_int Try.underlying3 hy1_0
  obtain ⟨d, e_d, rfl, w_d⟩ := DataW.trod_int Try.underlying3 hy1_1
  simp at e_c e_d
  subst e_c e_d
  clear hA0 hval0
  simp only [List.append_nil] at hW'
  refine (plateMargins_walk a b c d W (wfI w_a) (wfI w_b) (wfI w_c) (wfI w_d)).mono fun e W' ⟨he, hb⟩ => ?_
  subst he
  exact ⟨_, rfl, law_post (pa := []) (pv := []) hW' (fun _ _ _ => (trodAll_cons_mk (shut_bool Try.underlying4 _) trodAll_mk0)) (fun sp _ => (trodAll_cons_mk (shut_agg2 (y0 := (.lit (.int .i64 a), [])) (y1 := (.lit (.int .i64 b), [])) Try.underlying29 (by kernel_rfl) (by kernel_rfl) ⟨1, by simp [DataW.trod, Try.underlying3, w_a]⟩ ⟨1, by simp [DataW.trod, Try.underlying3, w_b]⟩) (trodAll_cons_mk (shut_agg2 (y0 := (.lit (.int .i64 c), [])) (y1 := (.lit (.int .i64 d), [])) Try.underlying29 (by kernel_rfl) (by kernel_rfl) ⟨1, by simp [DataW.trod, Try.underlying3, w_c]⟩ ⟨1, by simp [DataW.trod, Try.underlying3, w_d]⟩) trodAll_mk0))) (fun _ _ => rfl) rfl hb⟩

theorem plateMargins_holds : Rows.PlateMarginsSaid :=
  OpenClaim.holds_of_wide 14 Try.f14 rfl rfl rfl rfl rfl rfl rfl ⟨rfl, rfl, rfl, rfl, rfl⟩ rfl rfl rfl rfl rfl (by kernel_rfl) Try.func14 (by kernel_rfl)
    (of_decide_eq_true (by kernel_rfl)) (by unfold Func.isWrapper; first | (rw [if_pos (by decide +kernel)]; kernel_rfl) | (rw [if_neg (by decide +kernel)]; exact ⟨rfl, rfl⟩))
    (fun os started H enc _ => plateMargins_lifted os started H enc)
end Go.Proofs.Ytdhbjklbgdnfmaa
