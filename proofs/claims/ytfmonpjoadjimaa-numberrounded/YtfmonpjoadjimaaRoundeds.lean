/- PROVED HERE: Rows.NumberRoundedSaid: agraffelaw01.NumberRounded returns true for every input, and its arguments read behind the call as before. -/
import Derived.Test.YtfmonpjoadjimaaRow
import Derived.Test.YtfmonpjoadjimaaAwake
import Derived.Test.YtfmonpjoadjimaaRounded
import Derived.Lib.SmallJoins
namespace Go.Proofs.Ytfmonpjoadjimaa
open Go.ChangeShapes Go.WideShapes Go.ChangeAt Go.RowKit Go.Joins
set_option linter.unusedVariables false

theorem rup_rdn (n d t : Int) (hd : 1 ≤ d) : 0 ≤ rup n d t - rdn n d t ∧ rup n d t - rdn n d t ≤ 1 := by
  unfold rup rdn
  obtain ⟨m, hm⟩ : ∃ m, m = n * t := ⟨_, rfl⟩
  rw [← hm]
  have h1 := Int.mul_ediv_add_emod m d
  have h2 := Int.emod_nonneg m (b := d) (by omega)
  have h3 := Int.emod_lt_of_pos m (b := d) (by omega)
  have h4 := Int.mul_ediv_add_emod (-m) d
  have h5 := Int.emod_nonneg (-m) (b := d) (by omega)
  have h6 := Int.emod_lt_of_pos (-m) (b := d) (by omega)
  generalize m / d = q at *
  generalize (-m) / d = q' at *
  have e : d * (q + q') = -(m % d) - (-m) % d := by rw [Int.mul_add]; omega
  constructor
  · by_cases h : 1 ≤ q + q'
    · have := Int.mul_le_mul_of_nonneg_left h (show 0 ≤ d by omega); rw [e] at this; omega
    · omega
  · by_cases h : q + q' ≤ -2
    · have := Int.mul_le_mul_of_nonneg_left h (show 0 ≤ d by omega); rw [e] at this; omega
    · omega
theorem rdn_in {n d t : Int} (hp : -9000000000000000000 ≤ n * t ∧ n * t ≤ 9000000000000000000) (hd : 1 ≤ d) : -9000000000000000000 ≤ rdn n d t ∧ rdn n d t ≤ 9000000000000000000 := ediv_bounds hd (by omega) hp.1 hp.2
theorem rup_in {n d t : Int} (hp : -9000000000000000000 ≤ n * t ∧ n * t ≤ 9000000000000000000) (hd : 1 ≤ d) : -9000000000000000000 ≤ rup n d t ∧ rup n d t ≤ 9000000000000000000 := by
  have := ediv_bounds (n := -(n * t)) (m := d) (B := 9000000000000000000) hd (by omega) (by omega) (by omega)
  unfold rup; omega

theorem wf64 {n : Int} (h : (Lit.int .i64 n).wf = true) : -9223372036854775808 ≤ n ∧ n ≤ 9223372036854775807 := by
  have h1 : (-9223372036854775808 ≤ n ∧ n ≤ 9223372036854775807) = ((Lit.int .i64 n).wf = true) := by simp [Lit.wf, IntKind.min, IntKind.signed, IntKind.bits, decide_eq_true_eq]
  rw [h1]; exact h

set_option maxHeartbeats 1000000 in
set_option maxRecDepth 100000 in
theorem numberRounded_walk (n d t : Int) (wn : (Lit.int .i64 n).wf = true) (wd : (Lit.int .i64 d).wf = true) (wt : (Lit.int .i64 t).wf = true) (w : World) :
    Calls Try.prog 4 #[.agg #[.int .i64 n, .int .i64 d], .int .i64 t] w fun e w' => e = .returned (.bool true) ∧ Below w.heap.size w w' := by
  have hn := wf64 wn
  have hd := wf64 wd
  go_enter Try.func4, Try.ntmps4
  go_wp2_with fail
  refine (awake_any _).mono ?_
  rintro e w2 ⟨rfl, hb2⟩
  have B2 : Hid (Blk w2 w.heap.size 23 #[.int .i64 n, .int .i64 d]) := (Blk.new w _ _ _ rfl).kept hb2
  have HB2 : Hid (Below w.heap.size w w2) := ((Below.refl _ _).alloc (Nat.le_refl w.heap.size) _).trans (hb2.mono (by simp))
  clear hb2
  obtain ⟨⟨q0, q1⟩, _⟩ := B2.out.c2
  go_wp2_with fail
  by_cases hg : okF n d ∧ (1 ≤ t ∧ t ≤ 1000000000)
  · obtain ⟨hf, ht⟩ := hg
    have HE : Hid (fracErr n d = 0) := (if_pos hf.1).trans (if_pos hf)
    refine (rounded_good n d t _ hf ht).mono ?_
    rintro e w3 ⟨rfl, hb3⟩
    have B3 := hide (B2.out.kept hb3)
    have HB3 := hide (HB2.out.trans (hb3.mono HB2.out.size))
    clear hb3
    obtain ⟨⟨r0, r1⟩, _⟩ := B3.out.c2
    obtain ⟨hl, hn', hd'⟩ := hf
    have hd1 := hl.1
    have hdx := rup_rdn n d t hd1
    have hx1 := rdn_in (d := d) (prod_in hn' ht) hd1
    have hx2 := rup_in (d := d) (prod_in hn' ht) hd1
    clear hl
    have hlt3 := B3.out.lt
    go_wp2_with fail
    refine (refCheckFrac_any n d _ hn hd).mono ?_
    rintro e w4 ⟨rfl, hb4⟩
    rw [HE.out]
    have B4 := hide ((B3.out.alloc _).kept hb4)
    have R4 : Hid (Blk w4 w3.heap.size 37 #[.int .i64 (rdn n d t), .int .i64 (rup n d t)]) := (Blk.new w3 _ _ _ rfl).kept hb4
    have HB4 : Hid (Below w.heap.size w w4) := (HB3.out.alloc HB3.out.size _).trans (hb4.mono (by have := HB3.out.size; simp; omega))
    clear hb4
    obtain ⟨⟨s0, s1⟩, _⟩ := B4.out.c2
    obtain ⟨⟨x0, x1⟩, _⟩ := R4.out.c2
    have hr : inR t 1 1000000000 = true := inR_yes ht
    have HR : Hid (inR (IntKind.i64.wrap (rup n d t - rdn n d t)) 0 1 = true) := inR_yes (by rw [IntKind.wrap_i64]; omega)
    go_wp2_with (go_at_call 22; refine (within3_any _ _ _ _).mono ?_; rintro e w' ⟨rfl, rfl⟩; rw [hr])
    go_region_held3 (fun w' => w'.cell? ⟨w.heap.size, 0, none⟩ = some (.int .i64 n) ∧ w'.cell? ⟨w.heap.size, 1, none⟩ = some (.int .i64 d) ∧ w'.cell? ⟨w3.heap.size, 0, none⟩ = some (.int .i64 (rdn n d t)) ∧ w'.cell? ⟨w3.heap.size, 1, none⟩ = some (.int .i64 (rup n d t)))
      (go_keep)
      (first | (go_at_call 23; refine (refRounded_any n d t _ hn' ⟨hd1, hd'⟩ ht).mono ?_; rintro e w5 ⟨rfl, hb5⟩; have B5 := hide (B4.out.drew.kept hb5); have R5 := hide (R4.out.drew.kept hb5); have HB5 := hide (HB4.out.drew.trans (hb5.mono HB4.out.size)); clear hb5; obtain ⟨⟨z0, z1⟩, _⟩ := B5.out.c2; obtain ⟨⟨y0, y1⟩, _⟩ := R5.out.c2) | (go_at_call 22; refine (within3_any _ _ _ _).mono ?_; rintro e w' ⟨rfl, rfl⟩; rw [HR.out]))
    go_wp2
    go_ret
    exact ⟨rfl, HB5.out⟩
  · rcases Decidable.em (lowF n d) with hl | hl
    · rcases Decidable.em (okF n d) with hk | hk
      · have hE : fracErr n d = 0 := (if_pos hl).trans (if_pos hk)
        have ht : ¬ (1 ≤ t ∧ t ≤ 1000000000) := fun h => hg ⟨hk, h⟩
        have HT : Hid (inR t 1 1000000000 = false) := inR_no ht
        refine (rounded_bad n d t _ hn hd 2 (Or.inr (Or.inr ⟨hE, rfl, ht⟩))).mono ?_
        rintro e w3 ⟨rfl, hb3⟩
        have B3 := hide (B2.out.kept hb3)
        have HB3 := hide (HB2.out.trans (hb3.mono HB2.out.size))
        clear hb3
        obtain ⟨⟨r0, r1⟩, _⟩ := B3.out.c2
        have hlt3 := B3.out.lt
        have HE := hide hE
        clear hE ht hg hl hk
        go_wp2_with fail
        refine (refCheckFrac_any n d _ hn hd).mono ?_
        rintro e w4 ⟨rfl, hb4⟩
        rw [HE.out]
        have R4 : Hid (Blk w4 w3.heap.size 37 #[.int .i64 0, .int .i64 0]) := (Blk.new w3 _ _ _ rfl).kept hb4
        have HB4 : Hid (Below w.heap.size w w4) := (HB3.out.alloc HB3.out.size _).trans (hb4.mono (by have := HB3.out.size; simp; omega))
        clear hb4
        obtain ⟨⟨x0, x1⟩, _⟩ := R4.out.c2
        go_wp2_with (go_at_call 22; refine (within3_any _ _ _ _).mono ?_; rintro e w' ⟨rfl, rfl⟩; rw [HT.out])
        go_ret
        exact ⟨rfl, HB4.out⟩
      · have hE : fracErr n d = 2 := (if_pos hl).trans (if_neg hk)
        refine (rounded_bad n d t _ hn hd 2 (Or.inr (Or.inl ⟨hE, rfl⟩))).mono ?_
        rintro e w3 ⟨rfl, hb3⟩
        have B3 := hide (B2.out.kept hb3)
        have HB3 := hide (HB2.out.trans (hb3.mono HB2.out.size))
        clear hb3
        obtain ⟨⟨r0, r1⟩, _⟩ := B3.out.c2
        have hlt3 := B3.out.lt
        have HE := hide hE
        clear hE hg hl hk
        go_wp2_with fail
        refine (refCheckFrac_any n d _ hn hd).mono ?_
        rintro e w4 ⟨rfl, hb4⟩
        rw [HE.out]
        have R4 : Hid (Blk w4 w3.heap.size 37 #[.int .i64 0, .int .i64 0]) := (Blk.new w3 _ _ _ rfl).kept hb4
        have HB4 : Hid (Below w.heap.size w w4) := (HB3.out.alloc HB3.out.size _).trans (hb4.mono (by have := HB3.out.size; simp; omega))
        clear hb4
        obtain ⟨⟨x0, x1⟩, _⟩ := R4.out.c2
        go_wp2
        go_ret
        exact ⟨rfl, HB4.out⟩
    · have hE : fracErr n d = 3 := if_neg hl
      refine (rounded_bad n d t _ hn hd 3 (Or.inl ⟨hE, rfl⟩)).mono ?_
      rintro e w3 ⟨rfl, hb3⟩
      have B3 := hide (B2.out.kept hb3)
      have HB3 := hide (HB2.out.trans (hb3.mono HB2.out.size))
      clear hb3
      obtain ⟨⟨r0, r1⟩, _⟩ := B3.out.c2
      have hlt3 := B3.out.lt
      have HE := hide hE
      clear hE hg hl
      go_wp2_with fail
      refine (refCheckFrac_any n d _ hn hd).mono ?_
      rintro e w4 ⟨rfl, hb4⟩
      rw [HE.out]
      have R4 : Hid (Blk w4 w3.heap.size 37 #[.int .i64 0, .int .i64 0]) := (Blk.new w3 _ _ _ rfl).kept hb4
      have HB4 : Hid (Below w.heap.size w w4) := (HB3.out.alloc HB3.out.size _).trans (hb4.mono (by have := HB3.out.size; simp; omega))
      clear hb4
      obtain ⟨⟨x0, x1⟩, _⟩ := R4.out.c2
      go_wp2
      go_ret
      exact ⟨rfl, HB4.out⟩

theorem cellsFrac : Try.prog.cellsOf 23 = 2 := by kernel_rfl
set_option maxRecDepth 100000 in
theorem numberRounded_lifted (os : Os) (started : os.Started) (H : Type) (enc : TypeId × Value → H) :
    ReturnsInHanded {} Try.checked os 4 .any (Rows.numberRoundedSpec.pre6 enc Try.prog Try.f4 Rows.numberRoundedRow.domain false) (Rows.numberRoundedSpec.post enc Try.prog Try.f4 false true false false) := by
  refine returnsInHanded_of_change (C := Try.checked) (by kernel_rfl) started (by kernel_rfl) Try.func4
    (ChangeSpec.witness6 (enc := enc) (C := Try.checked) false ⟨#[], #[.agg #[.int .i64 0, .int .i64 0], .int .i64 0], []⟩ 8 (by kernel_rfl) (by kernel_rfl) (by kernel_rfl) (by kernel_rfl)) ?_
  intro W base args ds gs before hval0 hW hcnd _
  have hval : ∀ (j : Nat) t v, Try.f4.params[j]? = some t → args[j]? = some v → Value.okWide Try.prog W .any base t v := hval0
  have hW' := hW
  obtain ⟨p, q, hA0, hV, rfl, hfz, hnd⟩ := hW
  have hA : DataW.TrodAll enc Try.prog W 0 (fun _ => true) true Try.f4.params.toList args.toList ds p := hA0
  rw [Try.params4] at hA hval
  obtain ⟨v0, vs0, d0, ds0, p0, q0, hargs, rfl, rfl, h0, r0⟩ := trodAll_cons hA
  obtain ⟨v1, vs1, d1, ds1, p1, q1, rfl, rfl, rfl, h1, r1⟩ := trodAll_cons r0
  obtain ⟨rfl, rfl, rfl⟩ := trodAll_nil r1
  obtain rfl : args = #[v0, v1] := by cases args; simp_all
  obtain ⟨rfl, rfl⟩ := trodVars_none hV
  obtain ⟨c0, c1, y0, y1, m, rfl, rfl, rfl, hy0, hy1⟩ := open_agg2 Try.underlying23 (by kernel_rfl) cellsFrac (hval 0 23 v0 rfl rfl) h0
  obtain ⟨a, e0, rfl, wa⟩ := DataW.trod_int Try.underlying3 hy0
  obtain ⟨b, e1, rfl, wb⟩ := DataW.trod_int Try.underlying3 hy1
  simp at e0 e1
  subst e0 e1
  obtain ⟨a1, rfl, rfl, rfl, w1⟩ := open_int Try.underlying3 (hval 1 3 v1 rfl rfl) h1
  clear hA0 hval0
  simp only [List.append_nil] at hW'
  have structReads : ∀ (W' : World) (sp : Nat → Bool), DataW.Trod enc Try.prog W' 0 sp true 23 (.agg #[.int .i64 a, .int .i64 b]) (.agg [.lit (.int .i64 a), .lit (.int .i64 b)]) [] := fun W' sp =>
    shut_agg2 (y0 := (.lit (.int .i64 a), [])) (y1 := (.lit (.int .i64 b), [])) Try.underlying23 (by kernel_rfl) cellsFrac ⟨1, by simp [DataW.trod, Try.underlying3, wa]⟩ ⟨1, by simp [DataW.trod, Try.underlying3, wb]⟩
  refine (numberRounded_walk a b a1 wa wb w1 W).mono fun e W' ⟨he, hb⟩ => ?_
  subst he
  exact ⟨_, rfl, law_post (pa := []) (pv := []) hW' (fun _ _ _ => (trodAll_cons_mk (shut_bool Try.underlying4 _) trodAll_mk0)) (fun sp _ => (trodAll_cons_mk (structReads _ sp) (trodAll_cons_mk (shut_int Try.underlying3 w1) trodAll_mk0))) (fun _ _ => rfl) rfl hb⟩

theorem numberRounded_holds : Rows.NumberRoundedSaid :=
  OpenClaim.holds_of_wide 4 Try.f4 rfl rfl rfl rfl rfl rfl rfl ⟨rfl, rfl, rfl, rfl, rfl⟩ rfl rfl rfl rfl rfl (by kernel_rfl) Try.func4 (by kernel_rfl)
    (of_decide_eq_true (by kernel_rfl)) (by unfold Func.isWrapper; first | (rw [if_pos (by decide +kernel)]; kernel_rfl) | (rw [if_neg (by decide +kernel)]; exact ⟨rfl, rfl⟩))
    (fun os started H enc _ => numberRounded_lifted os started H enc)
end Go.Proofs.Ytfmonpjoadjimaa
