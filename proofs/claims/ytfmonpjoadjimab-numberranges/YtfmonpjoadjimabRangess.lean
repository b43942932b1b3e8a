/- PROVED HERE: Rows.NumberRangesSaid: agraffelaw01.NumberRanges returns true for every input, and its arguments read behind the call as before. -/
import Derived.Test.YtfmonpjoadjimabRow
import Derived.Test.YtfmonpjoadjimabAwake
import Derived.Test.YtfmonpjoadjimabMeet
import Derived.Lib.SmallJoins
namespace Go.Proofs.Ytfmonpjoadjimab
open Go.ChangeShapes Go.WideShapes Go.ChangeAt Go.RowKit Go.Joins
set_option linter.unusedVariables false

set_option maxHeartbeats 2000000 in
set_option maxRecDepth 100000 in
theorem numberRanges_walk (a b c d : Int) (w : World) :
    Calls Try.prog 5 #[.agg #[.int .i64 a, .int .i64 b], .agg #[.int .i64 c, .int .i64 d]] w fun e w' => e = .returned (.bool true) ∧ Below w.heap.size w w' := by
  go_enter Try.func5, Try.ntmps5
  go_wp2_with fail
  refine (awake_any _).mono ?_
  rintro e w2 ⟨rfl, hb2⟩
  have A2 : Hid (Blk w2 w.heap.size 39 #[.int .i64 a, .int .i64 b]) := ((Blk.new w _ _ _ rfl).alloc _).kept hb2
  have C2 : Hid (Blk w2 (w.heap.size + 1) 39 #[.int .i64 c, .int .i64 d]) := (Blk.new (w.alloc _) _ _ _ (by simp)).kept hb2
  have HB2 : Hid (Below w.heap.size w w2) := (below_two w _ _).trans (hb2.mono (by simp; omega))
  clear hb2
  obtain ⟨⟨q0, q1⟩, _⟩ := A2.out.c2
  obtain ⟨⟨q2, q3⟩, _⟩ := C2.out.c2
  go_wp2_with fail
  rcases rangesErr_cases a b c d with ⟨hE, hv⟩ | hE | hE
  · have HE := hide hE
    refine (plus_ok a b c d _ hv hE).mono ?_
    rintro e w3 ⟨rfl, hb3⟩
    have A3 := hide (A2.out.kept hb3)
    have C3 := hide (C2.out.kept hb3)
    have HB3 := hide (HB2.out.trans (hb3.mono HB2.out.size))
    clear hb3
    have HV := hide hv
    clear hv
    obtain ⟨⟨r0, r1⟩, _⟩ := A3.out.c2
    obtain ⟨⟨r2, r3⟩, _⟩ := C3.out.c2
    have hl1 := A3.out.lt
    have hl2 := C3.out.lt
    go_wp2_with fail
    refine (meet_ok a b c d _ hE).mono ?_
    rintro e w4 ⟨rfl, hb4⟩
    clear hE
    have A4 := hide ((A3.out.alloc _).kept hb4)
    have C4 := hide ((C3.out.alloc _).kept hb4)
    have S4 : Hid (Blk w4 w3.heap.size 39 #[.int .i64 (rl (a + c) (b + d)), .int .i64 (rh (a + c) (b + d))]) := (Blk.new w3 _ _ _ rfl).kept hb4
    have HB4 : Hid (Below w.heap.size w w4) := (HB3.out.alloc HB3.out.size _).trans (hb4.mono (by have := HB3.out.size; simp; omega))
    clear hb4
    obtain ⟨⟨s0, s1⟩, _⟩ := A4.out.c2
    obtain ⟨⟨s2, s3⟩, _⟩ := C4.out.c2
    have hm1 := A4.out.lt
    have hm2 := C4.out.lt
    have hm3 := S4.out.lt
    have M5' : Hid (Blk (w4.alloc (.cells #[.int .i64 (ml a b c d), .int .i64 (mh a b c d)] 39)) w4.heap.size 39 #[.int .i64 (ml a b c d), .int .i64 (mh a b c d)]) := Blk.new w4 _ _ _ rfl
    go_wp2
    go_region_held3 (fun w' => w'.cell? ⟨w.heap.size, 0, none⟩ = some (.int .i64 a) ∧ w'.cell? ⟨w.heap.size, 1, none⟩ = some (.int .i64 b))
      (go_keep)
      (first | (go_at_call 22; refine (checkRange_any a b _).mono ?_; rintro e w5 ⟨rfl, hb5⟩; have A5 := hide ((A4.out.alloc _).drew.kept hb5); have C5 := hide ((C4.out.alloc _).drew.kept hb5); have S5 := hide ((S4.out.alloc _).drew.kept hb5); have M5 := hide (M5'.out.drew.kept hb5); have HB5 : Hid (Below w.heap.size w w5) := ((HB4.out.alloc HB4.out.size _).drew.trans (hb5.mono (by have := HB4.out.size; simp; omega))); clear hb5; obtain ⟨⟨x0, x1⟩, _⟩ := A5.out.c2) | (go_at_call 23; refine (refCheckRange_any a b _).mono ?_; rintro e w6 ⟨rfl, hb6⟩; have A6 := hide (A5.out.kept hb6); have C6 := hide (C5.out.kept hb6); have S6 := hide (S5.out.kept hb6); have M6 := hide (M5.out.kept hb6); have HB6 := hide (HB5.out.trans (hb6.mono HB5.out.size)); clear hb6; obtain ⟨⟨y0, y1⟩, _⟩ := A6.out.c2; obtain ⟨⟨y2, y3⟩, _⟩ := C6.out.c2))
    go_wp2_with fail
    refine (lawRanges_any a b c d _).mono ?_
    rintro e w7 ⟨rfl, hb7⟩
    rw [HE.out]
    have A7 := hide (A6.out.kept hb7)
    have C7 := hide (C6.out.kept hb7)
    have S7 := hide (S6.out.kept hb7)
    have M7 := hide (M6.out.kept hb7)
    have HB7 := hide (HB6.out.trans (hb7.mono HB6.out.size))
    clear hb7
    obtain ⟨⟨z0, z1⟩, _⟩ := A7.out.c2
    obtain ⟨⟨z2, z3⟩, _⟩ := C7.out.c2
    go_wp2_with fail
    refine (refPlus_any a b c d _ HV.out).mono ?_
    rintro e w8 ⟨rfl, hb8⟩
    have A8 := hide (A7.out.kept hb8)
    have C8 := hide (C7.out.kept hb8)
    have S8 := hide (S7.out.kept hb8)
    have M8 := hide (M7.out.kept hb8)
    have HB8 := hide (HB7.out.trans (hb8.mono HB7.out.size))
    clear hb8
    obtain ⟨⟨u0', u1'⟩, _⟩ := A8.out.c2
    obtain ⟨⟨u2', u3'⟩, _⟩ := C8.out.c2
    have hn1 := A8.out.lt
    have hn2 := C8.out.lt
    go_wp2_with fail
    refine (refMeet_any a b c d _).mono ?_
    rintro e w9 ⟨rfl, hb9⟩
    have S9 := hide ((S8.out.alloc _).kept hb9)
    have M9 := hide ((M8.out.alloc _).kept hb9)
    have T9 : Hid (Blk w9 w8.heap.size 39 #[.int .i64 (rl (a + c) (b + d)), .int .i64 (rh (a + c) (b + d))]) := (Blk.new w8 _ _ _ rfl).kept hb9
    have HB9 : Hid (Below w.heap.size w w9) := (HB8.out.alloc HB8.out.size _).trans (hb9.mono (by have := HB8.out.size; simp; omega))
    clear hb9
    obtain ⟨⟨v0, v1⟩, _⟩ := S9.out.c2
    obtain ⟨⟨v2, v3⟩, _⟩ := M9.out.c2
    obtain ⟨⟨v4, v5⟩, _⟩ := T9.out.c2
    have hk1 := S9.out.lt
    have hk2 := M9.out.lt
    have hk3 := T9.out.lt
    go_wp2
    go_ret
    exact ⟨rfl, HB9.out.alloc HB9.out.size _⟩
  · have HE := hide hE
    refine (plus_bad a b c d 2 _ hE (by omega)).mono ?_
    rintro e w3 ⟨rfl, hb3⟩
    have A3 := hide (A2.out.kept hb3)
    have C3 := hide (C2.out.kept hb3)
    have HB3 := hide (HB2.out.trans (hb3.mono HB2.out.size))
    clear hb3
    obtain ⟨⟨r0, r1⟩, _⟩ := A3.out.c2
    obtain ⟨⟨r2, r3⟩, _⟩ := C3.out.c2
    have hl1 := A3.out.lt
    have hl2 := C3.out.lt
    go_wp2_with fail
    refine (meet_bad a b c d 2 _ hE (by omega)).mono ?_
    rintro e w4 ⟨rfl, hb4⟩
    clear hE
    have A4 := hide ((A3.out.alloc _).kept hb4)
    have C4 := hide ((C3.out.alloc _).kept hb4)
    have S4 : Hid (Blk w4 w3.heap.size 39 #[.int .i64 0, .int .i64 0]) := (Blk.new w3 _ _ _ rfl).kept hb4
    have HB4 : Hid (Below w.heap.size w w4) := (HB3.out.alloc HB3.out.size _).trans (hb4.mono (by have := HB3.out.size; simp; omega))
    clear hb4
    obtain ⟨⟨s0, s1⟩, _⟩ := A4.out.c2
    obtain ⟨⟨s2, s3⟩, _⟩ := C4.out.c2
    have hm1 := A4.out.lt
    have hm2 := C4.out.lt
    have hm3 := S4.out.lt
    have M5' : Hid (Blk (w4.alloc (.cells #[.int .i64 0, .int .i64 0] 39)) w4.heap.size 39 #[.int .i64 0, .int .i64 0]) := Blk.new w4 _ _ _ rfl
    go_wp2
    go_region_held3 (fun w' => w'.cell? ⟨w.heap.size, 0, none⟩ = some (.int .i64 a) ∧ w'.cell? ⟨w.heap.size, 1, none⟩ = some (.int .i64 b))
      (go_keep)
      (first | (go_at_call 22; refine (checkRange_any a b _).mono ?_; rintro e w5 ⟨rfl, hb5⟩; have A5 := hide ((A4.out.alloc _).drew.kept hb5); have C5 := hide ((C4.out.alloc _).drew.kept hb5); have S5 := hide ((S4.out.alloc _).drew.kept hb5); have M5 := hide (M5'.out.drew.kept hb5); have HB5 : Hid (Below w.heap.size w w5) := ((HB4.out.alloc HB4.out.size _).drew.trans (hb5.mono (by have := HB4.out.size; simp; omega))); clear hb5; obtain ⟨⟨x0, x1⟩, _⟩ := A5.out.c2) | (go_at_call 23; refine (refCheckRange_any a b _).mono ?_; rintro e w6 ⟨rfl, hb6⟩; have A6 := hide (A5.out.kept hb6); have C6 := hide (C5.out.kept hb6); have S6 := hide (S5.out.kept hb6); have M6 := hide (M5.out.kept hb6); have HB6 := hide (HB5.out.trans (hb6.mono HB5.out.size)); clear hb6; obtain ⟨⟨y0, y1⟩, _⟩ := A6.out.c2; obtain ⟨⟨y2, y3⟩, _⟩ := C6.out.c2))
    go_wp2_with fail
    refine (lawRanges_any a b c d _).mono ?_
    rintro e w7 ⟨rfl, hb7⟩
    rw [HE.out]
    have A7 := hide (A6.out.kept hb7)
    have C7 := hide (C6.out.kept hb7)
    have S7 := hide (S6.out.kept hb7)
    have M7 := hide (M6.out.kept hb7)
    have HB7 := hide (HB6.out.trans (hb7.mono HB6.out.size))
    clear hb7
    obtain ⟨⟨z0, z1⟩, _⟩ := A7.out.c2
    obtain ⟨⟨z2, z3⟩, _⟩ := C7.out.c2
    obtain ⟨⟨v0, v1⟩, _⟩ := S7.out.c2
    obtain ⟨⟨v2, v3⟩, _⟩ := M7.out.c2
    go_wp2
    go_ret
    exact ⟨rfl, HB7.out⟩
  · have HE := hide hE
    refine (plus_bad a b c d 9 _ hE (by omega)).mono ?_
    rintro e w3 ⟨rfl, hb3⟩
    have A3 := hide (A2.out.kept hb3)
    have C3 := hide (C2.out.kept hb3)
    have HB3 := hide (HB2.out.trans (hb3.mono HB2.out.size))
    clear hb3
    obtain ⟨⟨r0, r1⟩, _⟩ := A3.out.c2
    obtain ⟨⟨r2, r3⟩, _⟩ := C3.out.c2
    have hl1 := A3.out.lt
    have hl2 := C3.out.lt
    go_wp2_with fail
    refine (meet_bad a b c d 9 _ hE (by omega)).mono ?_
    rintro e w4 ⟨rfl, hb4⟩
    clear hE
    have A4 := hide ((A3.out.alloc _).kept hb4)
    have C4 := hide ((C3.out.alloc _).kept hb4)
    have S4 : Hid (Blk w4 w3.heap.size 39 #[.int .i64 0, .int .i64 0]) := (Blk.new w3 _ _ _ rfl).kept hb4
    have HB4 : Hid (Below w.heap.size w w4) := (HB3.out.alloc HB3.out.size _).trans (hb4.mono (by have := HB3.out.size; simp; omega))
    clear hb4
    obtain ⟨⟨s0, s1⟩, _⟩ := A4.out.c2
    obtain ⟨⟨s2, s3⟩, _⟩ := C4.out.c2
    have hm1 := A4.out.lt
    have hm2 := C4.out.lt
    have hm3 := S4.out.lt
    have M5' : Hid (Blk (w4.alloc (.cells #[.int .i64 0, .int .i64 0] 39)) w4.heap.size 39 #[.int .i64 0, .int .i64 0]) := Blk.new w4 _ _ _ rfl
    go_wp2
    go_region_held3 (fun w' => w'.cell? ⟨w.heap.size, 0, none⟩ = some (.int .i64 a) ∧ w'.cell? ⟨w.heap.size, 1, none⟩ = some (.int .i64 b))
      (go_keep)
      (first | (go_at_call 22; refine (checkRange_any a b _).mono ?_; rintro e w5 ⟨rfl, hb5⟩; have A5 := hide ((A4.out.alloc _).drew.kept hb5); have C5 := hide ((C4.out.alloc _).drew.kept hb5); have S5 := hide ((S4.out.alloc _).drew.kept hb5); have M5 := hide (M5'.out.drew.kept hb5); have HB5 : Hid (Below w.heap.size w w5) := ((HB4.out.alloc HB4.out.size _).drew.trans (hb5.mono (by have := HB4.out.size; simp; omega))); clear hb5; obtain ⟨⟨x0, x1⟩, _⟩ := A5.out.c2) | (go_at_call 23; refine (refCheckRange_any a b _).mono ?_; rintro e w6 ⟨rfl, hb6⟩; have A6 := hide (A5.out.kept hb6); have C6 := hide (C5.out.kept hb6); have S6 := hide (S5.out.kept hb6); have M6 := hide (M5.out.kept hb6); have HB6 := hide (HB5.out.trans (hb6.mono HB5.out.size)); clear hb6; obtain ⟨⟨y0, y1⟩, _⟩ := A6.out.c2; obtain ⟨⟨y2, y3⟩, _⟩ := C6.out.c2))
    go_wp2_with fail
    refine (lawRanges_any a b c d _).mono ?_
    rintro e w7 ⟨rfl, hb7⟩
    rw [HE.out]
    have A7 := hide (A6.out.kept hb7)
    have C7 := hide (C6.out.kept hb7)
    have S7 := hide (S6.out.kept hb7)
    have M7 := hide (M6.out.kept hb7)
    have HB7 := hide (HB6.out.trans (hb7.mono HB6.out.size))
    clear hb7
    obtain ⟨⟨z0, z1⟩, _⟩ := A7.out.c2
    obtain ⟨⟨z2, z3⟩, _⟩ := C7.out.c2
    obtain ⟨⟨v0, v1⟩, _⟩ := S7.out.c2
    obtain ⟨⟨v2, v3⟩, _⟩ := M7.out.c2
    go_wp2
    go_ret
    exact ⟨rfl, HB7.out⟩

theorem cellsRange : Try.prog.cellsOf 39 = 2 := by kernel_rfl
set_option maxRecDepth 100000 in
theorem numberRanges_lifted (os : Os) (started : os.Started) (H : Type) (enc : TypeId × Value → H) :
    ReturnsInHanded {} Try.checked os 5 .any (Rows.numberRangesSpec.pre6 enc Try.prog Try.f5 Rows.numberRangesRow.domain false) (Rows.numberRangesSpec.post enc Try.prog Try.f5 false true false false) := by
  refine returnsInHanded_of_change (C := Try.checked) (by kernel_rfl) started (by kernel_rfl) Try.func5
    (ChangeSpec.witness6 (enc := enc) (C := Try.checked) false ⟨#[], #[.agg #[.int .i64 0, .int .i64 0], .agg #[.int .i64 0, .int .i64 0]], []⟩ 8 (by kernel_rfl) (by kernel_rfl) (by kernel_rfl) (by kernel_rfl)) ?_
  intro W base args ds gs before hval0 hW hcnd _
  have hval : ∀ (j : Nat) t v, Try.f5.params[j]? = some t → args[j]? = some v → Value.okWide Try.prog W .any base t v := hval0
  have hW' := hW
  obtain ⟨p, q, hA0, hV, rfl, hfz, hnd⟩ := hW
  have hA : DataW.TrodAll enc Try.prog W 0 (fun _ => true) true Try.f5.params.toList args.toList ds p := hA0
  rw [Try.params5] at hA hval
  obtain ⟨v0, vs0, d0, ds0, p0, q0, hargs, rfl, rfl, h0, r0⟩ := trodAll_cons hA
  obtain ⟨v1, vs1, d1, ds1, p1, q1, rfl, rfl, rfl, h1, r1⟩ := trodAll_cons r0
  obtain ⟨rfl, rfl, rfl⟩ := trodAll_nil r1
  obtain rfl : args = #[v0, v1] := by cases args; simp_all
  obtain ⟨rfl, rfl⟩ := trodVars_none hV
  obtain ⟨c0, c1, y0, y1, m, rfl, rfl, rfl, hy0, hy1⟩ := open_agg2 Try.underlying39 (by kernel_rfl) cellsRange (hval 0 39 v0 rfl rfl) h0
  obtain ⟨a, e0, rfl, wa⟩ := DataW.trod_int Try.underlying3 hy0
  obtain ⟨b, e1, rfl, wb⟩ := DataW.trod_int Try.underlying3 hy1
  simp at e0 e1
  subst e0 e1
  obtain ⟨c2, c3, y2, y3, m2, rfl, rfl, rfl, hy2, hy3⟩ := open_agg2 Try.underlying39 (by kernel_rfl) cellsRange (hval 1 39 v1 rfl rfl) h1
  obtain ⟨c, e2, rfl, wc⟩ := DataW.trod_int Try.underlying3 hy2
  obtain ⟨d, e3, rfl, wd⟩ := DataW.trod_int Try.underlying3 hy3
  simp at e2 e3
  subst e2 e3
  clear hA0 hval0
  simp only [List.append_nil] at hW'
  have structReads : ∀ (x y : Int) (W' : World) (sp : Nat → Bool), (Lit.int .i64 x).wf = true → (Lit.int .i64 y).wf = true → DataW.Trod enc Try.prog W' 0 sp true 39 (.agg #[.int .i64 x, .int .i64 y]) (.agg [.lit (.int .i64 x), .lit (.int .i64 y)]) [] := fun x y W' sp wx wy =>
    shut_agg2 (y0 := (.lit (.int .i64 x), [])) (y1 := (.lit (.int .i64 y), [])) Try.underlying39 (by kernel_rfl) cellsRange ⟨1, by simp [DataW.trod, Try.underlying3, wx]⟩ ⟨1, by simp [DataW.trod, Try.underlying3, wy]⟩
  refine (numberRanges_walk a b c d W).mono fun e W' ⟨he, hb⟩ => ?_
  subst he
  exact ⟨_, rfl, law_post (pa := []) (pv := []) hW' (fun _ _ _ => (trodAll_cons_mk (shut_bool Try.underlying4 _) trodAll_mk0)) (fun sp _ => (trodAll_cons_mk (structReads _ _ _ sp wa wb) (trodAll_cons_mk (structReads _ _ _ sp wc wd) trodAll_mk0))) (fun _ _ => rfl) rfl hb⟩

theorem numberRanges_holds : Rows.NumberRangesSaid :=
  OpenClaim.holds_of_wide 5 Try.f5 rfl rfl rfl rfl rfl rfl rfl ⟨rfl, rfl, rfl, rfl, rfl⟩ rfl rfl rfl rfl rfl (by kernel_rfl) Try.func5 (by kernel_rfl)
    (of_decide_eq_true (by kernel_rfl)) (by unfold Func.isWrapper; first | (rw [if_pos (by decide +kernel)]; kernel_rfl) | (rw [if_neg (by decide +kernel)]; exact ⟨rfl, rfl⟩))
    (fun os started H enc _ => numberRanges_lifted os started H enc)
end Go.Proofs.Ytfmonpjoadjimab
