/- PROVED HERE: Rows.NumberOctavesSaid: agraffelaw01.NumberOctaves returns true for every input, and its arguments read behind the call as before. -/
import Derived.Test.YtfmonpjoadjimabLift
import Derived.Test.YtfmonpjoadjimabAwake
import Derived.Test.YtfmonpjoadjimabOctG
import Derived.Test.YtfmonpjoadjimabRefOct
import Derived.Test.YtfmonpjoadjimabNear
import Derived.Test.YtfmonpjoadjimabPitchLaw
import Derived.Test.YtfmonpjoadjimabNormal
namespace Go.Proofs.Ytfmonpjoadjimab
open Go.ChangeShapes Go.WideShapes Go.ChangeAt Go.RowKit Go.Joins
set_option linter.unusedVariables false
set_option linter.unusedSimpArgs false

theorem jn_add (x n u : Int) : jn x 1 1 n u = x + n * u := by unfold jn; rw [Int.mul_one, Int.one_mul]
theorem jn_add0 (x u : Int) : jn x 1 1 0 u = x := by rw [jn_add]; omega
theorem okP_unit (k : Int) (h : -400 ≤ k ∧ k ≤ 400) : okP k 0 0 1 := by unfold okP okE; omega
set_option maxHeartbeats 4000000 in
set_option maxRecDepth 100000 in
theorem numberOctaves_walk (a b c d : Int) (w : World) (h_a : -9223372036854775808 ≤ a ∧ a ≤ 9223372036854775807) (h_b : -9223372036854775808 ≤ b ∧ b ≤ 9223372036854775807) (h_c : -9223372036854775808 ≤ c ∧ c ≤ 9223372036854775807) (h_d : -9223372036854775808 ≤ d ∧ d ≤ 9223372036854775807) :
    Calls Try.prog 3 #[.agg #[.int .i64 a, .int .i64 b, .int .i64 c, .int .i64 d]] w fun x w' => x = .returned (.bool true) ∧ Below w.heap.size w w' := by
  clear h_a h_b h_c h_d
  have L0 := hide (Lv.start w)
  go_enter Try.func3, Try.ntmps3
  go_wp2_with fail
  refine Lv.call (awake_any _) (L0.out.put _ _) ?_
  intro w2 L2'
  have L2 := hide L2'
  have F2 := L2'.at
  clear L2'
  simp only [AllAt, CellsAt, updL, List.map, Nat.zero_add, Nat.reduceAdd, and_true, World.size_alloc, World.heap_drewN, heap_drew, size_set, Nat.add_eq_left, Nat.left_eq_add, Nat.add_right_cancel_iff, Nat.reduceEqDiff, Nat.one_ne_zero, Nat.succ_ne_zero, Nat.zero_ne_one, reduceIte, List.set_cons_zero, List.set_cons_succ] at F2
  go_wp2_with fail
  refine Lv.call (near_any a b c d _) L2.out ?_
  intro w3 L3'
  have L3 := hide L3'
  have F3 := L3'.at
  clear L3' F2
  simp only [AllAt, CellsAt, updL, List.map, Nat.zero_add, Nat.reduceAdd, and_true, World.size_alloc, World.heap_drewN, heap_drew, size_set, Nat.add_eq_left, Nat.left_eq_add, Nat.add_right_cancel_iff, Nat.reduceEqDiff, Nat.one_ne_zero, Nat.succ_ne_zero, Nat.zero_ne_one, reduceIte, List.set_cons_zero, List.set_cons_succ] at F3
  cases hn1 : nearB a b c
  · go_wp2
    go_ret
    refine ⟨rfl, ?_⟩
    repeat (first | (with_reducible exact L3.out.below) | refine Below.setCell ?_ (by first | omega | (simp; done) | (simp; omega)) _ | refine Below.alloc ?_ (by first | omega | (simp; done) | (simp; omega)) _ | refine below_drewN ?_ _ | refine Below.drew ?_)
  clear hn1
  rcases pitchErr_cases a b c d with ⟨hE, hp⟩ | ⟨hE, hp⟩
  · have HE := hide hE
    have HP := hide hp
    clear hE hp
    go_wp2_with fail
    refine (octave_ok a b c d _ HP.out).mono ?_
    rintro e w4 ⟨n, hV, hn, rfl, hb4⟩
    have L4 := hide (L3.out.kept hb4)
    have F4 := L4.out.at
    simp only [AllAt, CellsAt, updL, List.map, Nat.zero_add, Nat.reduceAdd, and_true, World.size_alloc, World.heap_drewN, heap_drew, size_set, Nat.add_eq_left, Nat.left_eq_add, Nat.add_right_cancel_iff, Nat.reduceEqDiff, Nat.one_ne_zero, Nat.succ_ne_zero, Nat.zero_ne_one, reduceIte, List.set_cons_zero, List.set_cons_succ] at F4
    have HV := hide hV
    clear hV hb4 F3 L2
    by_cases hf : fitP (a - n * d) b c d
    · obtain ⟨x, y, z, u, hx, hy, hz, hu, hq, s1, s2, j1, j2, j3, j4, j5, k5⟩ := oct_facts HP.out HV.out hf
      have HQ : Hid (octR a b c d n = .tuple #[.agg #[.int .i64 x, .int .i64 y, .int .i64 z, .int .i64 u], .int .i64 n, .int .i64 0]) := by
        unfold octR Hid
        rw [hx, hy, hz, hu, if_pos hf, show pe (a - n * d) b c d = 0 from if_pos hf]
      have K1 := fun W => order_ok x y z u 0 0 0 1 W hq (okP_unit 0 (by omega))
      have K2 := fun W => order_ok x y z u 1 0 0 1 W hq (okP_unit 1 (by omega))
      have K3 := fun W (hn : -400 ≤ n ∧ n ≤ 400) => join_ok x y z u n 0 0 1 W hq (okP_unit n hn)
      have K4 := fun W => normal_good a b c d W HP.out
      rw [jn_zero, jn_zero, jn_zero] at K1
      rw [jn_sub, jn_zero, jn_zero, Int.one_mul] at K2
      rw [jn_add, jn_add0, jn_add0, Int.mul_one, j1, j2, j3, j4, j5] at K3
      rw [k5] at K4
      obtain ⟨o1, ho1⟩ : ∃ o, o = sgn x y z := ⟨_, rfl⟩
      obtain ⟨o2, ho2⟩ : ∃ o, o = sgn (x - u) y z := ⟨_, rfl⟩
      rw [← ho1] at K1 s1
      rw [← ho2] at K2 s2
      obtain ⟨v2, hv2⟩ : ∃ o, o = p2 a b c d := ⟨_, rfl⟩
      obtain ⟨v3, hv3⟩ : ∃ o, o = p3 a b c d := ⟨_, rfl⟩
      obtain ⟨v5, hv5⟩ : ∃ o, o = p5 a b c d := ⟨_, rfl⟩
      obtain ⟨vd, hvd⟩ : ∃ o, o = pd a b c d := ⟨_, rfl⟩
      rw [← hv2, ← hv3, ← hv5, ← hvd] at K3 K4
      have HK1 := hide K1
      have HK2 := hide K2
      have HK3 := hide K3
      have HK4 := hide K4
      clear K1 K2 K3 K4 ho1 ho2 hv2 hv3 hv5 hvd j1 j2 j3 j4 j5 k5 hx hy hz hu hq hf
      rw [HQ.out]
      go_wp2_with fail
      refine Lv.call (lawPitches1_any _ _ a b c d _ (Blk.new _ _ _ _ (by simp))) ((L4.out.put _ _).put _ _) ?_
      intro w5 L5'
      have L5 := hide L5'
      have F5 := L5'.at
      clear L5' F4 L3
      simp only [AllAt, CellsAt, updL, List.map, Nat.zero_add, Nat.reduceAdd, and_true, World.size_alloc, World.heap_drewN, heap_drew, size_set, Nat.add_eq_left, Nat.left_eq_add, Nat.add_right_cancel_iff, Nat.reduceEqDiff, Nat.one_ne_zero, Nat.succ_ne_zero, Nat.zero_ne_one, reduceIte, List.set_cons_zero, List.set_cons_succ] at F5
      rw [HE.out]
      go_wp2_with fail
      refine (refOct_any a b c d _ HP.out).mono ?_
      rintro e w6 ⟨m, hV', hm, rfl, hb6⟩
      obtain rfl := OctV.one HP.out.1.1 HV.out hV'
      have L6 := hide (L5.out.kept hb6)
      have F6 := L6.out.at
      simp only [AllAt, CellsAt, updL, List.map, Nat.zero_add, Nat.reduceAdd, and_true, World.size_alloc, World.heap_drewN, heap_drew, size_set, Nat.add_eq_left, Nat.left_eq_add, Nat.add_right_cancel_iff, Nat.reduceEqDiff, Nat.one_ne_zero, Nat.succ_ne_zero, Nat.zero_ne_one, reduceIte, List.set_cons_zero, List.set_cons_succ] at F6
      clear hV' hb6 F5 L4 hm
      rw [HQ.out]
      go_wp2_with fail
      refine Lv.call (HK1.out _) (L6.out.put _ _) ?_
      intro w7 L7'
      have L7 := hide L7'
      have F7 := L7'.at
      clear L7' F6 L5
      simp only [AllAt, CellsAt, updL, List.map, Nat.zero_add, Nat.reduceAdd, and_true, World.size_alloc, World.heap_drewN, heap_drew, size_set, Nat.add_eq_left, Nat.left_eq_add, Nat.add_right_cancel_iff, Nat.reduceEqDiff, Nat.one_ne_zero, Nat.succ_ne_zero, Nat.zero_ne_one, reduceIte, List.set_cons_zero, List.set_cons_succ] at F7
      go_wp2_with fail
      refine Lv.call (HK2.out _) L7.out ?_
      intro w8 L8'
      have L8 := hide L8'
      have F8 := L8'.at
      clear L8' F7 L6
      simp only [AllAt, CellsAt, updL, List.map, Nat.zero_add, Nat.reduceAdd, and_true, World.size_alloc, World.heap_drewN, heap_drew, size_set, Nat.add_eq_left, Nat.left_eq_add, Nat.add_right_cancel_iff, Nat.reduceEqDiff, Nat.one_ne_zero, Nat.succ_ne_zero, Nat.zero_ne_one, reduceIte, List.set_cons_zero, List.set_cons_succ] at F8
      by_cases hin : -400 ≤ n ∧ n ≤ 400
      · have hIn : inR n (-400) 400 = true := inR_yes hin
        have HK5 := hide (fun W => HK3.out W hin)
        clear HK3 hin
        go_wp2_with fail
        refine Lv.call (HK5.out _) L8.out ?_
        intro w9 L9'
        have L9 := hide L9'
        have F9 := L9'.at
        clear L9' F8 L7
        simp only [AllAt, CellsAt, updL, List.map, Nat.zero_add, Nat.reduceAdd, and_true, World.size_alloc, World.heap_drewN, heap_drew, size_set, Nat.add_eq_left, Nat.left_eq_add, Nat.add_right_cancel_iff, Nat.reduceEqDiff, Nat.one_ne_zero, Nat.succ_ne_zero, Nat.zero_ne_one, reduceIte, List.set_cons_zero, List.set_cons_succ] at F9
        unfold pitchR
        go_wp2_with fail
        refine Lv.call (HK4.out _) (L9.out.put _ _) ?_
        intro w10 L10'
        have L10 := hide L10'
        have F10 := L10'.at
        clear L10' F9 L8
        simp only [AllAt, CellsAt, updL, List.map, Nat.zero_add, Nat.reduceAdd, and_true, World.size_alloc, World.heap_drewN, heap_drew, size_set, Nat.add_eq_left, Nat.left_eq_add, Nat.add_right_cancel_iff, Nat.reduceEqDiff, Nat.one_ne_zero, Nat.succ_ne_zero, Nat.zero_ne_one, reduceIte, List.set_cons_zero, List.set_cons_succ] at F10
        go_wp2_with fail
        refine Lv.same (within3_any n (-400) 400 _) ?_
        rw [hIn]
        go_wp2
        go_ret
        refine ⟨rfl, ?_⟩
        repeat (first | (with_reducible exact L10.out.below) | refine Below.setCell ?_ (by first | omega | (simp; done) | (simp; omega)) _ | refine Below.alloc ?_ (by first | omega | (simp; done) | (simp; omega)) _ | refine below_drewN ?_ _ | refine Below.drew ?_)
      · have hIn : inR n (-400) 400 = false := inR_no hin
        have HB : Hid (¬ (okP x y z u ∧ okP n 0 0 1)) := fun h => hin h.2.2.1
        clear HK3 hin
        go_wp2_with fail
        refine Lv.call (join_bad x y z u n 0 0 1 _ HB.out) L8.out ?_
        intro w9 L9'
        have L9 := hide L9'
        have F9 := L9'.at
        clear L9' F8 L7
        simp only [AllAt, CellsAt, updL, List.map, Nat.zero_add, Nat.reduceAdd, and_true, World.size_alloc, World.heap_drewN, heap_drew, size_set, Nat.add_eq_left, Nat.left_eq_add, Nat.add_right_cancel_iff, Nat.reduceEqDiff, Nat.one_ne_zero, Nat.succ_ne_zero, Nat.zero_ne_one, reduceIte, List.set_cons_zero, List.set_cons_succ] at F9
        unfold pitchR
        go_wp2_with fail
        refine Lv.call (HK4.out _) (L9.out.put _ _) ?_
        intro w10 L10'
        have L10 := hide L10'
        have F10 := L10'.at
        clear L10' F9 L8
        simp only [AllAt, CellsAt, updL, List.map, Nat.zero_add, Nat.reduceAdd, and_true, World.size_alloc, World.heap_drewN, heap_drew, size_set, Nat.add_eq_left, Nat.left_eq_add, Nat.add_right_cancel_iff, Nat.reduceEqDiff, Nat.one_ne_zero, Nat.succ_ne_zero, Nat.zero_ne_one, reduceIte, List.set_cons_zero, List.set_cons_succ] at F10
        go_wp2_with fail
        refine Lv.same (within3_any n (-400) 400 _) ?_
        rw [hIn]
        go_wp2
        go_ret
        refine ⟨rfl, ?_⟩
        repeat (first | (with_reducible exact L10.out.below) | refine Below.setCell ?_ (by first | omega | (simp; done) | (simp; omega)) _ | refine Below.alloc ?_ (by first | omega | (simp; done) | (simp; omega)) _ | refine below_drewN ?_ _ | refine Below.drew ?_)
    · have HQ : Hid (octR a b c d n = .tuple #[.agg #[.int .i64 0, .int .i64 0, .int .i64 0, .int .i64 0], .int .i64 0, .int .i64 8]) := by
        unfold octR Hid
        rw [if_neg hf, show pe (a - n * d) b c d = 8 from if_neg hf]
        unfold p2 p3 p5 pd
        rw [if_neg hf, if_neg hf, if_neg hf, if_neg hf]
      clear hf
      rw [HQ.out]
      go_wp2_with fail
      refine Lv.call (lawPitches1_any _ _ a b c d _ (Blk.new _ _ _ _ (by simp))) ((L4.out.put _ _).put _ _) ?_
      intro w5 L5'
      have L5 := hide L5'
      have F5 := L5'.at
      clear L5' F4 L3
      simp only [AllAt, CellsAt, updL, List.map, Nat.zero_add, Nat.reduceAdd, and_true, World.size_alloc, World.heap_drewN, heap_drew, size_set, Nat.add_eq_left, Nat.left_eq_add, Nat.add_right_cancel_iff, Nat.reduceEqDiff, Nat.one_ne_zero, Nat.succ_ne_zero, Nat.zero_ne_one, reduceIte, List.set_cons_zero, List.set_cons_succ] at F5
      rw [HE.out]
      go_wp2_with fail
      refine (refOct_any a b c d _ HP.out).mono ?_
      rintro e w6 ⟨m, hV', hm, rfl, hb6⟩
      obtain rfl := OctV.one HP.out.1.1 HV.out hV'
      have L6 := hide (L5.out.kept hb6)
      have F6 := L6.out.at
      simp only [AllAt, CellsAt, updL, List.map, Nat.zero_add, Nat.reduceAdd, and_true, World.size_alloc, World.heap_drewN, heap_drew, size_set, Nat.add_eq_left, Nat.left_eq_add, Nat.add_right_cancel_iff, Nat.reduceEqDiff, Nat.one_ne_zero, Nat.succ_ne_zero, Nat.zero_ne_one, reduceIte, List.set_cons_zero, List.set_cons_succ] at F6
      clear hV' hb6 F5 L4 hm
      rw [HQ.out]
      go_wp2
      go_ret
      refine ⟨rfl, ?_⟩
      repeat (first | (with_reducible exact L6.out.below) | refine Below.setCell ?_ (by first | omega | (simp; done) | (simp; omega)) _ | refine Below.alloc ?_ (by first | omega | (simp; done) | (simp; omega)) _ | refine below_drewN ?_ _ | refine Below.drew ?_)
  · have HE := hide hE
    have HP := hide hp
    clear hE hp
    go_wp2_with fail
    refine Lv.call (octave_bad a b c d _ HP.out) L3.out ?_
    intro w4 L4'
    have L4 := hide L4'
    have F4 := L4'.at
    clear L4' F3 L2
    simp only [AllAt, CellsAt, updL, List.map, Nat.zero_add, Nat.reduceAdd, and_true, World.size_alloc, World.heap_drewN, heap_drew, size_set, Nat.add_eq_left, Nat.left_eq_add, Nat.add_right_cancel_iff, Nat.reduceEqDiff, Nat.one_ne_zero, Nat.succ_ne_zero, Nat.zero_ne_one, reduceIte, List.set_cons_zero, List.set_cons_succ] at F4
    go_wp2_with fail
    refine Lv.call (lawPitches1_any _ _ a b c d _ (Blk.new _ _ _ _ (by simp))) ((L4.out.put _ _).put _ _) ?_
    intro w5 L5'
    have L5 := hide L5'
    have F5 := L5'.at
    clear L5' F4 L3
    simp only [AllAt, CellsAt, updL, List.map, Nat.zero_add, Nat.reduceAdd, and_true, World.size_alloc, World.heap_drewN, heap_drew, size_set, Nat.add_eq_left, Nat.left_eq_add, Nat.add_right_cancel_iff, Nat.reduceEqDiff, Nat.one_ne_zero, Nat.succ_ne_zero, Nat.zero_ne_one, reduceIte, List.set_cons_zero, List.set_cons_succ] at F5
    rw [HE.out]
    go_wp2
    go_ret
    refine ⟨rfl, ?_⟩
    repeat (first | (with_reducible exact L5.out.below) | refine Below.setCell ?_ (by first | omega | (simp; done) | (simp; omega)) _ | refine Below.alloc ?_ (by first | omega | (simp; done) | (simp; omega)) _ | refine below_drewN ?_ _ | refine Below.drew ?_)
set_option maxRecDepth 100000 in
theorem numberOctaves_lifted (os : Os) (started : os.Started) (H : Type) (enc : TypeId × Value → H) :
    ReturnsInHanded {} Try.checked os 3 .any (Rows.numberOctavesSpec.pre6 enc Try.prog Try.f3 Rows.numberOctavesRow.domain false) (Rows.numberOctavesSpec.post enc Try.prog Try.f3 false true false false) := by
  refine returnsInHanded_of_change (C := Try.checked) (by kernel_rfl) started (by kernel_rfl) Try.func3
    (ChangeSpec.witness6 (enc := enc) (C := Try.checked) false ⟨#[], #[.agg #[.int .i64 0, .int .i64 0, .int .i64 0, .int .i64 0]], []⟩ 8 (by kernel_rfl) (by kernel_rfl) (by kernel_rfl) (by kernel_rfl)) ?_
  intro W base args ds gs before hval0 hW hcnd _
  have hval : ∀ (j : Nat) t v, Try.f3.params[j]? = some t → args[j]? = some v → Value.okWide Try.prog W .any base t v := hval0
  have hW' := hW
  obtain ⟨p, q, hA0, hV, rfl, hfz, hnd⟩ := hW
  have hA : DataW.TrodAll enc Try.prog W 0 (fun _ => true) true Try.f3.params.toList args.toList ds p := hA0
  rw [Try.params3] at hA hval
  obtain ⟨v0, vs0, d0, ds0, p0, q0, hargs, rfl, rfl, h0, r0⟩ := trodAll_cons hA
  obtain ⟨rfl, rfl, rfl⟩ := trodAll_nil r0
  obtain rfl : args = #[v0] := by cases args; simp_all
  obtain ⟨rfl, rfl⟩ := trodVars_none hV
  obtain ⟨c0_0, c0_1, c0_2, c0_3, y0_0, y0_1, y0_2, y0_3, m0, rfl, rfl, rfl, hy0_0, hy0_1, hy0_2, hy0_3⟩ := open_agg4 Try.underlying23 (by kernel_rfl) (by kernel_rfl) (hval 0 23 v0 rfl rfl) h0
  obtain ⟨a, e_a, rfl, w_a⟩ := DataW.trod_int Try.underlying3 hy0_0
  obtain ⟨b, e_b, rfl, w_b⟩ := DataW.trod_int Try.underlying3 hy0_1
  obtain ⟨c, e_c, rfl, w_c⟩ := DataW.trod_int Try.underlying3 hy0_2
  obtain ⟨d, e_d, rfl, w_d⟩ := DataW.trod_int Try.underlying3 hy0_3
  simp at e_a e_b e_c e_d
  subst e_a e_b e_c e_d
  clear hA0 hval0
  simp only [List.append_nil] at hW'
  refine (numberOctaves_walk a b c d W (wfI w_a) (wfI w_b) (wfI w_c) (wfI w_d)).mono fun e W' ⟨he, hb⟩ => ?_
  subst he
  exact ⟨_, rfl, law_post (pa := []) (pv := []) hW' (fun _ _ _ => (trodAll_cons_mk (shut_bool Try.underlying4 _) trodAll_mk0)) (fun sp _ => (trodAll_cons_mk (shut_agg4 (y0 := (.lit (.int .i64 a), [])) (y1 := (.lit (.int .i64 b), [])) (y2 := (.lit (.int .i64 c), [])) (y3 := (.lit (.int .i64 d), [])) Try.underlying23 (by kernel_rfl) (by kernel_rfl) ⟨1, by simp [DataW.trod, Try.underlying3, w_a]⟩ ⟨1, by simp [DataW.trod, Try.underlying3, w_b]⟩ ⟨1, by simp [DataW.trod, Try.underlying3, w_c]⟩ ⟨1, by simp [DataW.trod, Try.underlying3, w_d]⟩) trodAll_mk0)) (fun _ _ => rfl) rfl hb⟩

theorem numberOctaves_holds : Rows.NumberOctavesSaid :=
  OpenClaim.holds_of_wide 3 Try.f3 rfl rfl rfl rfl rfl rfl rfl ⟨rfl, rfl, rfl, rfl, rfl⟩ rfl rfl rfl rfl rfl (by kernel_rfl) Try.func3 (by kernel_rfl)
    (of_decide_eq_true (by kernel_rfl)) (by unfold Func.isWrapper; first | (rw [if_pos (by decide +kernel)]; kernel_rfl) | (rw [if_neg (by decide +kernel)]; exact ⟨rfl, rfl⟩))
    (fun os started H enc _ => numberOctaves_lifted os started H enc)
end Go.Proofs.Ytfmonpjoadjimab
