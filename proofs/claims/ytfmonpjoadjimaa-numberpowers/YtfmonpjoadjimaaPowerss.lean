/- PROVED HERE: Rows.NumberPowersSaid: agraffelaw01.NumberPowers returns true for every input, and its arguments read behind the call as before. -/
import Derived.Test.YtfmonpjoadjimaaLift
import Derived.Test.YtfmonpjoadjimaaAwake
import Derived.Test.YtfmonpjoadjimaaPowers
import Derived.Test.YtfmonpjoadjimaaFracChecks
namespace Go.Proofs.Ytfmonpjoadjimaa
open Go.ChangeShapes Go.WideShapes Go.ChangeAt Go.RowKit Go.Joins
set_option linter.unusedVariables false
set_option linter.unusedSimpArgs false

set_option maxHeartbeats 4000000 in
set_option maxRecDepth 100000 in
theorem numberPowers_walk (a b c d n m : Int) (w : World) (ha : -9223372036854775808 ≤ a ∧ a ≤ 9223372036854775807) (hb : -9223372036854775808 ≤ b ∧ b ≤ 9223372036854775807) (hc : -9223372036854775808 ≤ c ∧ c ≤ 9223372036854775807) (hd : -9223372036854775808 ≤ d ∧ d ≤ 9223372036854775807) (hn : -9223372036854775808 ≤ n ∧ n ≤ 9223372036854775807) (hm : -9223372036854775808 ≤ m ∧ m ≤ 9223372036854775807) :
    Calls Try.prog 7 #[.agg #[.int .i64 a, .int .i64 b, .int .i64 c, .int .i64 d], .agg #[.int .i64 n, .int .i64 m]] w fun x w' => x = .returned (.bool true) ∧ Below w.heap.size w w' := by
  clear ha hb hc hd
  have L0 := hide (Lv.start w)
  go_enter Try.func7, Try.ntmps7
  go_wp2_with fail
  refine Lv.call (awake_any _) ((L0.out.put _ _).put _ _) ?_
  intro w2 L2'
  have L2 := hide L2'
  have F2 := L2'.at
  clear L2'
  simp only [AllAt, CellsAt, updL, List.map, Nat.zero_add, Nat.reduceAdd, and_true, World.size_alloc, World.heap_drewN, heap_drew, size_set, Nat.add_eq_left, Nat.left_eq_add, Nat.add_right_cancel_iff, Nat.reduceEqDiff, Nat.one_ne_zero, Nat.succ_ne_zero, Nat.zero_ne_one, reduceIte, List.set_cons_zero, List.set_cons_succ] at F2
  rcases pitchErr_cases a b c d with ⟨hE1, hp⟩ | ⟨hE1, hp⟩
  · have HE1 := hide hE1
    have HP := hide hp
    clear hE1 hp
    rcases fracErr_cases n m with ⟨hE, hf⟩ | hE | hE
    · have C1 := hide (fun W => power_ok a b c d n m W HP.out hf)
      have C2 := hide (fun W => refPower_any a b c d n m W HP.out hf)
      have HE := hide hE
      clear hE hf
      go_wp2_with fail
      refine Lv.call (C1.out _) L2.out ?_
      intro w3 L3'
      have L3 := hide L3'
      have F3 := L3'.at
      clear L3' F2
      simp only [AllAt, CellsAt, updL, List.map, Nat.zero_add, Nat.reduceAdd, and_true, World.size_alloc, World.heap_drewN, heap_drew, size_set, Nat.add_eq_left, Nat.left_eq_add, Nat.add_right_cancel_iff, Nat.reduceEqDiff, Nat.one_ne_zero, Nat.succ_ne_zero, Nat.zero_ne_one, reduceIte, List.set_cons_zero, List.set_cons_succ] at F3
      unfold pitchR
      go_wp2_with fail
      refine Lv.call (lawPitches1_any _ _ a b c d _ (Blk.new _ _ _ _ (by simp))) ((L3.out.put _ _).put _ _) ?_
      intro w4 L4'
      have L4 := hide L4'
      have F4 := L4'.at
      clear L4' F3 L2
      simp only [AllAt, CellsAt, updL, List.map, Nat.zero_add, Nat.reduceAdd, and_true, World.size_alloc, World.heap_drewN, heap_drew, size_set, Nat.add_eq_left, Nat.left_eq_add, Nat.add_right_cancel_iff, Nat.reduceEqDiff, Nat.one_ne_zero, Nat.succ_ne_zero, Nat.zero_ne_one, reduceIte, List.set_cons_zero, List.set_cons_succ] at F4
      rw [HE1.out]
      go_wp2_with fail
      refine Lv.call (refCheckFrac_any n m _ hn hm) L4.out ?_
      intro w5 L5'
      have L5 := hide L5'
      have F5 := L5'.at
      clear L5' F4 L3
      simp only [AllAt, CellsAt, updL, List.map, Nat.zero_add, Nat.reduceAdd, and_true, World.size_alloc, World.heap_drewN, heap_drew, size_set, Nat.add_eq_left, Nat.left_eq_add, Nat.add_right_cancel_iff, Nat.reduceEqDiff, Nat.one_ne_zero, Nat.succ_ne_zero, Nat.zero_ne_one, reduceIte, List.set_cons_zero, List.set_cons_succ] at F5
      rw [HE.out]
      go_wp2_with fail
      refine Lv.call (C2.out _) L5.out ?_
      intro w6 L6'
      have L6 := hide L6'
      have F6 := L6'.at
      clear L6' F5 L4
      simp only [AllAt, CellsAt, updL, List.map, Nat.zero_add, Nat.reduceAdd, and_true, World.size_alloc, World.heap_drewN, heap_drew, size_set, Nat.add_eq_left, Nat.left_eq_add, Nat.add_right_cancel_iff, Nat.reduceEqDiff, Nat.one_ne_zero, Nat.succ_ne_zero, Nat.zero_ne_one, reduceIte, List.set_cons_zero, List.set_cons_succ] at F6
      unfold pitchR
      go_wp2
      go_ret
      refine ⟨rfl, ?_⟩
      repeat (first | exact L6.out.below | refine Below.setCell ?_ (by first | omega | (simp; done) | (simp; omega)) _ | refine Below.alloc ?_ (by first | omega | (simp; done) | (simp; omega)) _ | refine below_drewN ?_ _ | refine Below.drew ?_)
    · have C1 := hide (fun W => power_badf a b c d n m 2 W hn hm HP.out hE (by omega))
      have HE := hide hE
      clear hE
      go_wp2_with fail
      refine Lv.call (C1.out _) L2.out ?_
      intro w3 L3'
      have L3 := hide L3'
      have F3 := L3'.at
      clear L3' F2
      simp only [AllAt, CellsAt, updL, List.map, Nat.zero_add, Nat.reduceAdd, and_true, World.size_alloc, World.heap_drewN, heap_drew, size_set, Nat.add_eq_left, Nat.left_eq_add, Nat.add_right_cancel_iff, Nat.reduceEqDiff, Nat.one_ne_zero, Nat.succ_ne_zero, Nat.zero_ne_one, reduceIte, List.set_cons_zero, List.set_cons_succ] at F3
      unfold pitchR
      go_wp2_with fail
      refine Lv.call (lawPitches1_any _ _ a b c d _ (Blk.new _ _ _ _ (by simp))) ((L3.out.put _ _).put _ _) ?_
      intro w4 L4'
      have L4 := hide L4'
      have F4 := L4'.at
      clear L4' F3 L2
      simp only [AllAt, CellsAt, updL, List.map, Nat.zero_add, Nat.reduceAdd, and_true, World.size_alloc, World.heap_drewN, heap_drew, size_set, Nat.add_eq_left, Nat.left_eq_add, Nat.add_right_cancel_iff, Nat.reduceEqDiff, Nat.one_ne_zero, Nat.succ_ne_zero, Nat.zero_ne_one, reduceIte, List.set_cons_zero, List.set_cons_succ] at F4
      rw [HE1.out]
      go_wp2_with fail
      refine Lv.call (refCheckFrac_any n m _ hn hm) L4.out ?_
      intro w5 L5'
      have L5 := hide L5'
      have F5 := L5'.at
      clear L5' F4 L3
      simp only [AllAt, CellsAt, updL, List.map, Nat.zero_add, Nat.reduceAdd, and_true, World.size_alloc, World.heap_drewN, heap_drew, size_set, Nat.add_eq_left, Nat.left_eq_add, Nat.add_right_cancel_iff, Nat.reduceEqDiff, Nat.one_ne_zero, Nat.succ_ne_zero, Nat.zero_ne_one, reduceIte, List.set_cons_zero, List.set_cons_succ] at F5
      rw [HE.out]
      go_wp2
      go_ret
      refine ⟨rfl, ?_⟩
      repeat (first | exact L5.out.below | refine Below.setCell ?_ (by first | omega | (simp; done) | (simp; omega)) _ | refine Below.alloc ?_ (by first | omega | (simp; done) | (simp; omega)) _ | refine below_drewN ?_ _ | refine Below.drew ?_)
    · have C1 := hide (fun W => power_badf a b c d n m 3 W hn hm HP.out hE (by omega))
      have HE := hide hE
      clear hE
      go_wp2_with fail
      refine Lv.call (C1.out _) L2.out ?_
      intro w3 L3'
      have L3 := hide L3'
      have F3 := L3'.at
      clear L3' F2
      simp only [AllAt, CellsAt, updL, List.map, Nat.zero_add, Nat.reduceAdd, and_true, World.size_alloc, World.heap_drewN, heap_drew, size_set, Nat.add_eq_left, Nat.left_eq_add, Nat.add_right_cancel_iff, Nat.reduceEqDiff, Nat.one_ne_zero, Nat.succ_ne_zero, Nat.zero_ne_one, reduceIte, List.set_cons_zero, List.set_cons_succ] at F3
      unfold pitchR
      go_wp2_with fail
      refine Lv.call (lawPitches1_any _ _ a b c d _ (Blk.new _ _ _ _ (by simp))) ((L3.out.put _ _).put _ _) ?_
      intro w4 L4'
      have L4 := hide L4'
      have F4 := L4'.at
      clear L4' F3 L2
      simp only [AllAt, CellsAt, updL, List.map, Nat.zero_add, Nat.reduceAdd, and_true, World.size_alloc, World.heap_drewN, heap_drew, size_set, Nat.add_eq_left, Nat.left_eq_add, Nat.add_right_cancel_iff, Nat.reduceEqDiff, Nat.one_ne_zero, Nat.succ_ne_zero, Nat.zero_ne_one, reduceIte, List.set_cons_zero, List.set_cons_succ] at F4
      rw [HE1.out]
      go_wp2_with fail
      refine Lv.call (refCheckFrac_any n m _ hn hm) L4.out ?_
      intro w5 L5'
      have L5 := hide L5'
      have F5 := L5'.at
      clear L5' F4 L3
      simp only [AllAt, CellsAt, updL, List.map, Nat.zero_add, Nat.reduceAdd, and_true, World.size_alloc, World.heap_drewN, heap_drew, size_set, Nat.add_eq_left, Nat.left_eq_add, Nat.add_right_cancel_iff, Nat.reduceEqDiff, Nat.one_ne_zero, Nat.succ_ne_zero, Nat.zero_ne_one, reduceIte, List.set_cons_zero, List.set_cons_succ] at F5
      rw [HE.out]
      go_wp2
      go_ret
      refine ⟨rfl, ?_⟩
      repeat (first | exact L5.out.below | refine Below.setCell ?_ (by first | omega | (simp; done) | (simp; omega)) _ | refine Below.alloc ?_ (by first | omega | (simp; done) | (simp; omega)) _ | refine below_drewN ?_ _ | refine Below.drew ?_)
  · have HE1 := hide hE1
    have C1 := hide (fun W => power_badp a b c d n m W hp)
    clear hE1 hp
    go_wp2_with fail
    refine Lv.call (C1.out _) L2.out ?_
    intro w3 L3'
    have L3 := hide L3'
    have F3 := L3'.at
    clear L3' F2
    simp only [AllAt, CellsAt, updL, List.map, Nat.zero_add, Nat.reduceAdd, and_true, World.size_alloc, World.heap_drewN, heap_drew, size_set, Nat.add_eq_left, Nat.left_eq_add, Nat.add_right_cancel_iff, Nat.reduceEqDiff, Nat.one_ne_zero, Nat.succ_ne_zero, Nat.zero_ne_one, reduceIte, List.set_cons_zero, List.set_cons_succ] at F3
    unfold pitchR
    go_wp2_with fail
    refine Lv.call (lawPitches1_any _ _ a b c d _ (Blk.new _ _ _ _ (by simp))) ((L3.out.put _ _).put _ _) ?_
    intro w4 L4'
    have L4 := hide L4'
    have F4 := L4'.at
    clear L4' F3 L2
    simp only [AllAt, CellsAt, updL, List.map, Nat.zero_add, Nat.reduceAdd, and_true, World.size_alloc, World.heap_drewN, heap_drew, size_set, Nat.add_eq_left, Nat.left_eq_add, Nat.add_right_cancel_iff, Nat.reduceEqDiff, Nat.one_ne_zero, Nat.succ_ne_zero, Nat.zero_ne_one, reduceIte, List.set_cons_zero, List.set_cons_succ] at F4
    rw [HE1.out]
    go_wp2
    go_ret
    refine ⟨rfl, ?_⟩
    repeat (first | exact L4.out.below | refine Below.setCell ?_ (by first | omega | (simp; done) | (simp; omega)) _ | refine Below.alloc ?_ (by first | omega | (simp; done) | (simp; omega)) _ | refine below_drewN ?_ _ | refine Below.drew ?_)
set_option maxRecDepth 100000 in
theorem numberPowers_lifted (os : Os) (started : os.Started) (H : Type) (enc : TypeId × Value → H) :
    ReturnsInHanded {} Try.checked os 7 .any (Rows.numberPowersSpec.pre6 enc Try.prog Try.f7 Rows.numberPowersRow.domain false) (Rows.numberPowersSpec.post enc Try.prog Try.f7 false true false false) := by
  refine returnsInHanded_of_change (C := Try.checked) (by kernel_rfl) started (by kernel_rfl) Try.func7
    (ChangeSpec.witness6 (enc := enc) (C := Try.checked) false ⟨#[], #[.agg #[.int .i64 0, .int .i64 0, .int .i64 0, .int .i64 0], .agg #[.int .i64 0, .int .i64 0]], []⟩ 8 (by kernel_rfl) (by kernel_rfl) (by kernel_rfl) (by kernel_rfl)) ?_
  intro W base args ds gs before hval0 hW hcnd _
  have hval : ∀ (j : Nat) t v, Try.f7.params[j]? = some t → args[j]? = some v → Value.okWide Try.prog W .any base t v := hval0
  have hW' := hW
  obtain ⟨p, q, hA0, hV, rfl, hfz, hnd⟩ := hW
  have hA : DataW.TrodAll enc Try.prog W 0 (fun _ => true) true Try.f7.params.toList args.toList ds p := hA0
  rw [Try.params7] at hA hval
  obtain ⟨v0, vs0, d0, ds0, p0, q0, hargs, rfl, rfl, h0, r0⟩ := trodAll_cons hA
  obtain ⟨v1, vs1, d1, ds1, p1, q1, rfl, rfl, rfl, h1, r1⟩ := trodAll_cons r0
  obtain ⟨rfl, rfl, rfl⟩ := trodAll_nil r1
  obtain rfl : args = #[v0, v1] := by cases args; simp_all
  obtain ⟨rfl, rfl⟩ := trodVars_none hV
  obtain ⟨c0_0, c0_1, c0_2, c0_3, y0_0, y0_1, y0_2, y0_3, m0, rfl, rfl, rfl, hy0_0, hy0_1, hy0_2, hy0_3⟩ := open_agg4 Try.underlying47 (by kernel_rfl) (by kernel_rfl) (hval 0 47 v0 rfl rfl) h0
  obtain ⟨a, e_a, rfl, w_a⟩ := DataW.trod_int Try.underlying3 hy0_0
  obtain ⟨b, e_b, rfl, w_b⟩ := DataW.trod_int Try.underlying3 hy0_1
  obtain ⟨c, e_c, rfl, w_c⟩ := DataW.trod_int Try.underlying3 hy0_2
  obtain ⟨d, e_d, rfl, w_d⟩ := DataW.trod_int Try.underlying3 hy0_3
  simp at e_a e_b e_c e_d
  subst e_a e_b e_c e_d
  obtain ⟨c1_0, c1_1, y1_0, y1_1, m1, rfl, rfl, rfl, hy1_0, hy1_1⟩ := open_agg2 Try.underlying23 (by kernel_rfl) (by kernel_rfl) (hval 1 23 v1 rfl rfl) h1
  obtain ⟨n, e_n, rfl, w_n⟩ := DataW.trod_int Try.underlying3 hy1_0
  obtain ⟨m, e_m, rfl, w_m⟩ := DataW.trod_int Try.underlying3 hy1_1
  simp at e_n e_m
  subst e_n e_m
  clear hA0 hval0
  simp only [List.append_nil] at hW'
  refine (numberPowers_walk a b c d n m W (wfI w_a) (wfI w_b) (wfI w_c) (wfI w_d) (wfI w_n) (wfI w_m)).mono fun e W' ⟨he, hb⟩ => ?_
  subst he
  exact ⟨_, rfl, law_post (pa := []) (pv := []) hW' (fun _ _ _ => (trodAll_cons_mk (shut_bool Try.underlying4 _) trodAll_mk0)) (fun sp _ => (trodAll_cons_mk (shut_agg4 (y0 := (.lit (.int .i64 a), [])) (y1 := (.lit (.int .i64 b), [])) (y2 := (.lit (.int .i64 c), [])) (y3 := (.lit (.int .i64 d), [])) Try.underlying47 (by kernel_rfl) (by kernel_rfl) ⟨1, by simp [DataW.trod, Try.underlying3, w_a]⟩ ⟨1, by simp [DataW.trod, Try.underlying3, w_b]⟩ ⟨1, by simp [DataW.trod, Try.underlying3, w_c]⟩ ⟨1, by simp [DataW.trod, Try.underlying3, w_d]⟩) (trodAll_cons_mk (shut_agg2 (y0 := (.lit (.int .i64 n), [])) (y1 := (.lit (.int .i64 m), [])) Try.underlying23 (by kernel_rfl) (by kernel_rfl) ⟨1, by simp [DataW.trod, Try.underlying3, w_n]⟩ ⟨1, by simp [DataW.trod, Try.underlying3, w_m]⟩) trodAll_mk0))) (fun _ _ => rfl) rfl hb⟩

theorem numberPowers_holds : Rows.NumberPowersSaid :=
  OpenClaim.holds_of_wide 7 Try.f7 rfl rfl rfl rfl rfl rfl rfl ⟨rfl, rfl, rfl, rfl, rfl⟩ rfl rfl rfl rfl rfl (by kernel_rfl) Try.func7 (by kernel_rfl)
    (of_decide_eq_true (by kernel_rfl)) (by unfold Func.isWrapper; first | (rw [if_pos (by decide +kernel)]; kernel_rfl) | (rw [if_neg (by decide +kernel)]; exact ⟨rfl, rfl⟩))
    (fun os started H enc _ => numberPowers_lifted os started H enc)
end Go.Proofs.Ytfmonpjoadjimaa
