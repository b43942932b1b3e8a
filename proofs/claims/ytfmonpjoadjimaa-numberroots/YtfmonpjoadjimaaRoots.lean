/- PROVED HERE: Rows.NumberRootsSaid: agraffelaw01.NumberRoots returns true for every input, and its arguments read behind the call as before. -/
import Derived.Test.YtfmonpjoadjimaaRow
import Derived.Test.YtfmonpjoadjimaaAwake
import Derived.Test.YtfmonpjoadjimaaRoot
namespace Go.Proofs.Ytfmonpjoadjimaa
open Go.ChangeShapes Go.WideShapes Go.ChangeAt Go.RowKit
set_option linter.unusedVariables false

set_option maxHeartbeats 1000000 in
theorem numberRoots_walk (a0 : Int) (a1 : Int) (w0 : (Lit.int .i64 a0).wf = true) (w1 : (Lit.int .i64 a1).wf = true) (w : World) :
    Calls Try.prog 5 #[.int .i64 a0, .int .i64 a1] w fun e w' => e = .returned (.bool true) ∧ Below w.heap.size w w' := by
  go_enter Try.func5, Try.ntmps5
  go_wp2_with fail
  refine (awake_any _).mono ?_
  rintro e w2 ⟨rfl, hb2⟩
  go_wp2_with fail
  by_cases hv : (0 ≤ a0 ∧ a0 ≤ 1000000000000000000) ∧ 1 ≤ a1 ∧ a1 ≤ 12
  · obtain ⟨n, rfl⟩ := Int.eq_ofNat_of_zero_le hv.1.1
    obtain ⟨k, rfl⟩ := Int.eq_ofNat_of_zero_le (Int.le_trans (by decide) hv.2.1)
    refine (root_any n k _ (by omega) (by omega) (by omega)).mono ?_
    rintro e w3 ⟨r, rfl, hr, hb3⟩
    have hi1 : inR (n : Int) 0 1000000000000000000 = true := inR_yes (by omega)
    have hi2 : inR (k : Int) 1 12 = true := inR_yes (by omega)
    have HR := hide hr
    have HI1 := hide hi1
    have HI2 := hide hi2
    have HB := hide (Below.trans hb2 (hb3.mono hb2.size))
    have HN := hide (show n ≤ 1000000000000000000 by omega)
    have HK := hide (show k ≤ 12 by omega)
    clear hr hi1 hi2 hb2 hb3 hv
    go_wp2_with fail
    refine (within3_any _ _ _ _).mono ?_
    rintro e w4 ⟨rfl, rfl⟩
    rw [HI1.out]
    go_wp2_with fail
    refine (within3_any _ _ _ _).mono ?_
    rintro e w4 ⟨rfl, rfl⟩
    rw [HI2.out]
    go_wp2_with fail
    refine (refRoot_any n k _ HN.out HK.out).mono ?_
    rintro e w4 ⟨s, rfl, hs, rfl⟩
    obtain rfl : r = s := HR.out.unique hs
    clear hs
    go_wp2
    go_ret
    exact ⟨ret_bool (by simp), HB.out⟩
  · refine (root_bad a0 a1 _ hv).mono ?_
    rintro e w3 ⟨rfl, hb3⟩
    have HB := hide (Below.trans hb2 (hb3.mono hb2.size))
    have HV := hide hv
    clear hb2 hb3 hv
    go_wp2_with fail
    refine (within3_any _ _ _ _).mono ?_
    rintro e w4 ⟨rfl, rfl⟩
    by_cases hi1 : 0 ≤ a0 ∧ a0 ≤ 1000000000000000000
    · have hi2 : inR a1 1 12 = false := inR_no (fun h => HV.out ⟨hi1, h⟩)
      rw [inR_yes hi1]
      have HI2 := hide hi2
      clear hi1 hi2
      go_wp2_with fail
      refine (within3_any _ _ _ _).mono ?_
      rintro e w4 ⟨rfl, rfl⟩
      rw [HI2.out]
      go_wp2
      go_ret
      exact ⟨rfl, HB.out⟩
    · rw [inR_no hi1]
      clear hi1
      go_wp2
      go_ret
      exact ⟨rfl, HB.out⟩

set_option maxRecDepth 100000 in
theorem numberRoots_lifted (os : Os) (started : os.Started) (H : Type) (enc : TypeId × Value → H) :
    ReturnsInHanded {} Try.checked os 5 .any (Rows.numberRootsSpec.pre6 enc Try.prog Try.f5 Rows.numberRootsRow.domain false) (Rows.numberRootsSpec.post enc Try.prog Try.f5 false true false false) := by
  refine returnsInHanded_of_change (C := Try.checked) (by kernel_rfl) started (by kernel_rfl) Try.func5
    (ChangeSpec.witness6 (enc := enc) (C := Try.checked) false ⟨#[], #[.int .i64 0, .int .i64 0], []⟩ 8 (by kernel_rfl) (by kernel_rfl) (by kernel_rfl) (by kernel_rfl)) ?_
  intro W base args ds gs before hval0 hW hcnd _
  have hval : ∀ (j : Nat) t v, Try.f5.params[j]? = some t → args[j]? = some v → Value.okWide Try.prog W .any base t v := hval0
  have hW' := hW
  obtain ⟨p, q, hA0, hV, rfl, hfz, hnd⟩ := hW
  have hA : DataW.TrodAll enc Try.prog W 0 (fun _ => true) true Try.f5.params.toList args.toList ds p := hA0
  rw [Try.params5] at hA hval
  obtain ⟨v0, vs0, d0, ds0, p0, q0, hargs, rfl, rfl, h0, r0⟩ := trodAll_cons hA
  obtain ⟨v1, vs1, d1, ds1, p1, q1, rfl, rfl, rfl, h1, r1⟩ := trodAll_cons r0
  obtain ⟨rfl, rfl, rfl⟩ := trodAll_nil r1
  obtain rfl : args = #[v0, v1] := by cases args; simp_all
  obtain ⟨rfl, rfl⟩ := trodVars_none hV
  obtain ⟨a0, rfl, rfl, rfl, w0⟩ := open_int Try.underlying3 (hval 0 3 v0 rfl rfl) h0
  obtain ⟨a1, rfl, rfl, rfl, w1⟩ := open_int Try.underlying3 (hval 1 3 v1 rfl rfl) h1
  clear hA0 hval0
  simp only [List.append_nil] at hW'
  refine (numberRoots_walk a0 a1 w0 w1 W).mono fun e W' ⟨he, hb⟩ => ?_
  subst he
  exact ⟨_, rfl, law_post (pa := []) (pv := []) hW' (fun _ _ _ => (trodAll_cons_mk (shut_bool Try.underlying4 _) trodAll_mk0)) (fun sp _ => (trodAll_cons_mk (shut_int Try.underlying3 w0) (trodAll_cons_mk (shut_int Try.underlying3 w1) trodAll_mk0))) (fun _ _ => rfl) rfl hb⟩

theorem numberRoots_holds : Rows.NumberRootsSaid :=
  OpenClaim.holds_of_wide 5 Try.f5 rfl rfl rfl rfl rfl rfl rfl ⟨rfl, rfl, rfl, rfl, rfl⟩ rfl rfl rfl rfl rfl (by kernel_rfl) Try.func5 (by kernel_rfl)
    (of_decide_eq_true (by kernel_rfl)) (by unfold Func.isWrapper; first | (rw [if_pos (by decide +kernel)]; kernel_rfl) | (rw [if_neg (by decide +kernel)]; exact ⟨rfl, rfl⟩))
    (fun os started H enc _ => numberRoots_lifted os started H enc)
end Go.Proofs.Ytfmonpjoadjimaa
