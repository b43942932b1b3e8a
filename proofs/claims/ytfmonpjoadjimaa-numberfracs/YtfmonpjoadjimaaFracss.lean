/- PROVED HERE: Rows.NumberFracsSaid: agraffelaw01.NumberFracs returns true for every input, and its arguments read behind the call as before. -/
import Derived.Test.YtfmonpjoadjimaaRow
import Derived.Test.YtfmonpjoadjimaaAwake
import Derived.Test.YtfmonpjoadjimaaAdds
import Derived.Test.YtfmonpjoadjimaaRoundeds
import Derived.Lib.SmallJoins
namespace Go.Proofs.Ytfmonpjoadjimaa
open Go.ChangeShapes Go.WideShapes Go.ChangeAt Go.RowKit Go.Joins
set_option linter.unusedVariables false
set_option linter.unusedSimpArgs false

theorem cmpZ_swap (x y : Int) : cmpZ y x = -cmpZ x y := by
  rcases Int.lt_trichotomy x y with h | h | h
  · rw [cmpZ_lt h, cmpZ_gt h]; rfl
  · subst h; rw [cmpZ_eq]; rfl
  · rw [cmpZ_lt h, cmpZ_gt h]
theorem cmpZ_in (x y : Int) : -1 ≤ cmpZ x y ∧ cmpZ x y ≤ 1 := by
  unfold cmpZ; split
  · omega
  · split <;> omega
theorem fracsErr_ok {a b c d : Int} (h1 : okF a b) (h2 : okF c d) : fracsErr a b c d = 0 := by
  have e1 : fracErr a b = 0 := (if_pos h1.1).trans (if_pos h1)
  have e2 : fracErr c d = 0 := (if_pos h2.1).trans (if_pos h2)
  exact (if_pos e1).trans e2
theorem add_sw (a b c d : Int) (w : World) (h1 : okF a b) (h2 : okF c d) :
    Calls Try.prog 10 #[.agg #[.int .i64 c, .int .i64 d], .agg #[.int .i64 a, .int .i64 b]] w fun e w' => e = .returned (fracV (lN (a * d + c * b) (b * d)) (lD (a * d + c * b) (b * d)) (lE (a * d + c * b) (b * d))) ∧ Below w.heap.size w w' := by
  have h := add_ok c d a b w h2 h1 (fracsErr_ok h2 h1)
  rw [Int.add_comm (c * b), Int.mul_comm d b] at h
  exact h
theorem times_sw (a b c d : Int) (w : World) (h1 : okF a b) (h2 : okF c d) :
    Calls Try.prog 11 #[.agg #[.int .i64 c, .int .i64 d], .agg #[.int .i64 a, .int .i64 b]] w fun e w' => e = .returned (fracV (lN (a * c) (b * d)) (lD (a * c) (b * d)) (lE (a * c) (b * d))) ∧ Below w.heap.size w w' := by
  have h := times_ok c d a b w h2 h1 (fracsErr_ok h2 h1)
  rw [Int.mul_comm c a, Int.mul_comm d b] at h
  exact h
theorem compare_sw (a b c d : Int) (w : World) (h1 : okF a b) (h2 : okF c d) :
    Calls Try.prog 13 #[.agg #[.int .i64 c, .int .i64 d], .agg #[.int .i64 a, .int .i64 b]] w fun e w' => e = .returned (.tuple #[.int .i64 (-cmpZ (a * d) (c * b)), .int .i64 0]) ∧ Below w.heap.size w w' := by
  have h := compare_ok c d a b w h2 h1 (fracsErr_ok h2 h1)
  rw [cmpZ_swap] at h
  exact h

set_option maxHeartbeats 4000000 in
set_option maxRecDepth 100000 in
theorem numberFracs_walk (a b c d : Int) (w : World) (ha : -9223372036854775808 ≤ a ∧ a ≤ 9223372036854775807) (hb : -9223372036854775808 ≤ b ∧ b ≤ 9223372036854775807) (hc : -9223372036854775808 ≤ c ∧ c ≤ 9223372036854775807) (hd : -9223372036854775808 ≤ d ∧ d ≤ 9223372036854775807) :
    Calls Try.prog 3 #[.agg #[.int .i64 a, .int .i64 b], .agg #[.int .i64 c, .int .i64 d]] w fun e w' => e = .returned (.bool true) ∧ Below w.heap.size w w' := by
  have L0 := hide (Lv.start w)
  go_enter Try.func3, Try.ntmps3
  go_wp2_with fail
  refine Lv.call (awake_any _) ((L0.out.put _ _).put _ _) ?_
  intro w2 L2'
  have L2 := hide L2'
  have F2 := L2'.at
  clear L2'
  simp only [AllAt, CellsAt, updL, List.map, Nat.zero_add, Nat.reduceAdd, and_true, World.size_alloc, World.heap_drewN, heap_drew, size_set] at F2
  go_wp2_with fail
  rcases fracsErr_cases a b c d with ⟨hE, h1, h2⟩ | hE | hE
  · have HE := hide hE
    have hz := cmpZ_in (a * d) (c * b)
    have H1 := hide h1
    have H2 := hide h2
    clear h1 h2
    go_wp2_with fail
    refine Lv.call (add_ok a b c d _ H1.out H2.out hE) L2.out ?_
    intro w3 L3'
    have L3 := hide L3'
    have F3 := L3'.at
    clear L3' F2
    simp only [AllAt, CellsAt, updL, List.map, Nat.zero_add, Nat.reduceAdd, and_true, World.size_alloc, World.heap_drewN, heap_drew, size_set] at F3
    unfold fracV
    go_wp2_with fail
    refine Lv.call (times_ok a b c d _ H1.out H2.out hE) (L3.out.put _ _) ?_
    intro w4 L4'
    have L4 := hide L4'
    have F4 := L4'.at
    clear L4' F3 L2
    simp only [AllAt, CellsAt, updL, List.map, Nat.zero_add, Nat.reduceAdd, and_true, World.size_alloc, World.heap_drewN, heap_drew, size_set] at F4
    go_wp2_with fail
    refine Lv.call (divide_ok a b c d _ H1.out H2.out hE) (L4.out.put _ _) ?_
    intro w5 L5'
    have L5 := hide L5'
    have F5 := L5'.at
    clear L5' F4 L3
    simp only [AllAt, CellsAt, updL, List.map, Nat.zero_add, Nat.reduceAdd, and_true, World.size_alloc, World.heap_drewN, heap_drew, size_set] at F5
    unfold fracV
    go_wp2_with fail
    refine Lv.call (compare_ok a b c d _ H1.out H2.out hE) (L5.out.put _ _) ?_
    intro w6 L6'
    have L6 := hide L6'
    have F6 := L6'.at
    clear L6' F5 L4
    simp only [AllAt, CellsAt, updL, List.map, Nat.zero_add, Nat.reduceAdd, and_true, World.size_alloc, World.heap_drewN, heap_drew, size_set] at F6
    clear hE
    go_wp2
    go_region_held3 (fun w' => w'.cell? ⟨w.heap.size, 0, none⟩ = some (.int .i64 a) ∧ w'.cell? ⟨w.heap.size, 1, none⟩ = some (.int .i64 b))
      (go_keep)
      (first | (go_at_call 14; refine Lv.call (checkFrac_any a b _ ha hb) (L6.out.drew) ?_; intro w7 L7'; have L7 := hide L7'; have F7 := L7'.at; clear L7'; simp only [AllAt, CellsAt, updL, List.map, Nat.zero_add, Nat.reduceAdd, and_true, World.size_alloc, World.heap_drewN, heap_drew, size_set] at F7) | (go_at_call 15; refine Lv.call (refCheckFrac_any a b _ ha hb) L7.out ?_; intro w8 L8'; have L8 := hide L8'; have F8 := L8'.at; clear L8' F7; simp only [AllAt, CellsAt, updL, List.map, Nat.zero_add, Nat.reduceAdd, and_true, World.size_alloc, World.heap_drewN, heap_drew, size_set] at F8))
    go_wp2_with fail
    refine Lv.call (lawFracs_any a b c d _ ha hb hc hd) L8.out ?_
    intro w9 L9'
    have L9 := hide L9'
    have F9 := L9'.at
    clear L9' F8 L7 L6 F6
    simp only [AllAt, CellsAt, updL, List.map, Nat.zero_add, Nat.reduceAdd, and_true, World.size_alloc, World.heap_drewN, heap_drew, size_set] at F9
    rw [HE.out]
    go_wp2_with fail
    refine Lv.call (refAdd_any a b c d _ H1.out H2.out) L9.out ?_
    intro w10 L10'
    have L10 := hide L10'
    have F10 := L10'.at
    clear L10' F9 L8
    simp only [AllAt, CellsAt, updL, List.map, Nat.zero_add, Nat.reduceAdd, and_true, World.size_alloc, World.heap_drewN, heap_drew, size_set] at F10
    unfold fracV
    go_wp2_with fail
    refine Lv.call (refTimes_any a b c d _ H1.out H2.out) (L10.out.put _ _) ?_
    intro w11 L11'
    have L11 := hide L11'
    have F11 := L11'.at
    clear L11' F10 L9
    simp only [AllAt, CellsAt, updL, List.map, Nat.zero_add, Nat.reduceAdd, and_true, World.size_alloc, World.heap_drewN, heap_drew, size_set] at F11
    go_wp2_with fail
    refine Lv.call (refDivide_any a b c d _ H1.out H2.out) (L11.out.put _ _) ?_
    intro w12 L12'
    have L12 := hide L12'
    have F12 := L12'.at
    clear L12' F11 L10
    simp only [AllAt, CellsAt, updL, List.map, Nat.zero_add, Nat.reduceAdd, and_true, World.size_alloc, World.heap_drewN, heap_drew, size_set] at F12
    unfold fracV
    go_wp2_with fail
    refine Lv.call (baseCmp_any a b c d _ H1.out H2.out) (L12.out.put _ _) ?_
    intro w13 L13'
    have L13 := hide L13'
    have F13 := L13'.at
    clear L13' F12 L11
    simp only [AllAt, CellsAt, updL, List.map, Nat.zero_add, Nat.reduceAdd, and_true, World.size_alloc, World.heap_drewN, heap_drew, size_set] at F13
    go_wp2_with fail
    refine Lv.call (add_sw a b c d _ H1.out H2.out) L13.out ?_
    intro w14 L14'
    have L14 := hide L14'
    have F14 := L14'.at
    clear L14' F13 L12
    simp only [AllAt, CellsAt, updL, List.map, Nat.zero_add, Nat.reduceAdd, and_true, World.size_alloc, World.heap_drewN, heap_drew, size_set] at F14
    unfold fracV
    go_wp2_with fail
    refine Lv.call (times_sw a b c d _ H1.out H2.out) (L14.out.put _ _) ?_
    intro w15 L15'
    have L15 := hide L15'
    have F15 := L15'.at
    clear L15' F14 L13
    simp only [AllAt, CellsAt, updL, List.map, Nat.zero_add, Nat.reduceAdd, and_true, World.size_alloc, World.heap_drewN, heap_drew, size_set] at F15
    unfold fracV
    go_wp2_with fail
    refine Lv.call (compare_sw a b c d _ H1.out H2.out) (L15.out.put _ _) ?_
    intro w16 L16'
    have L16 := hide L16'
    have F16 := L16'.at
    clear L16' F15 L14
    simp only [AllAt, CellsAt, updL, List.map, Nat.zero_add, Nat.reduceAdd, and_true, World.size_alloc, World.heap_drewN, heap_drew, size_set] at F16
    go_wp2
    go_ret
    refine ⟨rfl, ?_⟩
    repeat (first | exact L16.out.below | refine Below.setCell ?_ (by first | omega | (simp; done) | (simp; omega)) _ | refine Below.alloc ?_ (by first | omega | (simp; done) | (simp; omega)) _ | refine below_drewN ?_ _ | refine Below.drew ?_)
  · have HE := hide hE
    go_wp2_with fail
    refine Lv.call (add_bad a b c d 2 _ ha hb hc hd hE (by omega)) L2.out ?_
    intro w3 L3'
    have L3 := hide L3'
    have F3 := L3'.at
    clear L3' F2
    simp only [AllAt, CellsAt, updL, List.map, Nat.zero_add, Nat.reduceAdd, and_true, World.size_alloc, World.heap_drewN, heap_drew, size_set] at F3
    unfold fracV
    go_wp2_with fail
    refine Lv.call (times_bad a b c d 2 _ ha hb hc hd hE (by omega)) (L3.out.put _ _) ?_
    intro w4 L4'
    have L4 := hide L4'
    have F4 := L4'.at
    clear L4' F3 L2
    simp only [AllAt, CellsAt, updL, List.map, Nat.zero_add, Nat.reduceAdd, and_true, World.size_alloc, World.heap_drewN, heap_drew, size_set] at F4
    go_wp2_with fail
    refine Lv.call (divide_bad a b c d 2 _ ha hb hc hd hE (by omega)) (L4.out.put _ _) ?_
    intro w5 L5'
    have L5 := hide L5'
    have F5 := L5'.at
    clear L5' F4 L3
    simp only [AllAt, CellsAt, updL, List.map, Nat.zero_add, Nat.reduceAdd, and_true, World.size_alloc, World.heap_drewN, heap_drew, size_set] at F5
    unfold fracV
    go_wp2_with fail
    refine Lv.call (compare_bad a b c d 2 _ ha hb hc hd hE (by omega)) (L5.out.put _ _) ?_
    intro w6 L6'
    have L6 := hide L6'
    have F6 := L6'.at
    clear L6' F5 L4
    simp only [AllAt, CellsAt, updL, List.map, Nat.zero_add, Nat.reduceAdd, and_true, World.size_alloc, World.heap_drewN, heap_drew, size_set] at F6
    clear hE
    go_wp2
    go_region_held3 (fun w' => w'.cell? ⟨w.heap.size, 0, none⟩ = some (.int .i64 a) ∧ w'.cell? ⟨w.heap.size, 1, none⟩ = some (.int .i64 b))
      (go_keep)
      (first | (go_at_call 14; refine Lv.call (checkFrac_any a b _ ha hb) (L6.out.drew) ?_; intro w7 L7'; have L7 := hide L7'; have F7 := L7'.at; clear L7'; simp only [AllAt, CellsAt, updL, List.map, Nat.zero_add, Nat.reduceAdd, and_true, World.size_alloc, World.heap_drewN, heap_drew, size_set] at F7) | (go_at_call 15; refine Lv.call (refCheckFrac_any a b _ ha hb) L7.out ?_; intro w8 L8'; have L8 := hide L8'; have F8 := L8'.at; clear L8' F7; simp only [AllAt, CellsAt, updL, List.map, Nat.zero_add, Nat.reduceAdd, and_true, World.size_alloc, World.heap_drewN, heap_drew, size_set] at F8))
    go_wp2_with fail
    refine Lv.call (lawFracs_any a b c d _ ha hb hc hd) L8.out ?_
    intro w9 L9'
    have L9 := hide L9'
    have F9 := L9'.at
    clear L9' F8 L7 L6 F6
    simp only [AllAt, CellsAt, updL, List.map, Nat.zero_add, Nat.reduceAdd, and_true, World.size_alloc, World.heap_drewN, heap_drew, size_set] at F9
    rw [HE.out]
    go_wp2
    go_ret
    refine ⟨rfl, ?_⟩
    repeat (first | exact L9.out.below | refine Below.setCell ?_ (by first | omega | (simp; done) | (simp; omega)) _ | refine Below.alloc ?_ (by first | omega | (simp; done) | (simp; omega)) _ | refine below_drewN ?_ _ | refine Below.drew ?_)
  · have HE := hide hE
    go_wp2_with fail
    refine Lv.call (add_bad a b c d 3 _ ha hb hc hd hE (by omega)) L2.out ?_
    intro w3 L3'
    have L3 := hide L3'
    have F3 := L3'.at
    clear L3' F2
    simp only [AllAt, CellsAt, updL, List.map, Nat.zero_add, Nat.reduceAdd, and_true, World.size_alloc, World.heap_drewN, heap_drew, size_set] at F3
    unfold fracV
    go_wp2_with fail
    refine Lv.call (times_bad a b c d 3 _ ha hb hc hd hE (by omega)) (L3.out.put _ _) ?_
    intro w4 L4'
    have L4 := hide L4'
    have F4 := L4'.at
    clear L4' F3 L2
    simp only [AllAt, CellsAt, updL, List.map, Nat.zero_add, Nat.reduceAdd, and_true, World.size_alloc, World.heap_drewN, heap_drew, size_set] at F4
    go_wp2_with fail
    refine Lv.call (divide_bad a b c d 3 _ ha hb hc hd hE (by omega)) (L4.out.put _ _) ?_
    intro w5 L5'
    have L5 := hide L5'
    have F5 := L5'.at
    clear L5' F4 L3
    simp only [AllAt, CellsAt, updL, List.map, Nat.zero_add, Nat.reduceAdd, and_true, World.size_alloc, World.heap_drewN, heap_drew, size_set] at F5
    unfold fracV
    go_wp2_with fail
    refine Lv.call (compare_bad a b c d 3 _ ha hb hc hd hE (by omega)) (L5.out.put _ _) ?_
    intro w6 L6'
    have L6 := hide L6'
    have F6 := L6'.at
    clear L6' F5 L4
    simp only [AllAt, CellsAt, updL, List.map, Nat.zero_add, Nat.reduceAdd, and_true, World.size_alloc, World.heap_drewN, heap_drew, size_set] at F6
    clear hE
    go_wp2
    go_region_held3 (fun w' => w'.cell? ⟨w.heap.size, 0, none⟩ = some (.int .i64 a) ∧ w'.cell? ⟨w.heap.size, 1, none⟩ = some (.int .i64 b))
      (go_keep)
      (first | (go_at_call 14; refine Lv.call (checkFrac_any a b _ ha hb) (L6.out.drew) ?_; intro w7 L7'; have L7 := hide L7'; have F7 := L7'.at; clear L7'; simp only [AllAt, CellsAt, updL, List.map, Nat.zero_add, Nat.reduceAdd, and_true, World.size_alloc, World.heap_drewN, heap_drew, size_set] at F7) | (go_at_call 15; refine Lv.call (refCheckFrac_any a b _ ha hb) L7.out ?_; intro w8 L8'; have L8 := hide L8'; have F8 := L8'.at; clear L8' F7; simp only [AllAt, CellsAt, updL, List.map, Nat.zero_add, Nat.reduceAdd, and_true, World.size_alloc, World.heap_drewN, heap_drew, size_set] at F8))
    go_wp2_with fail
    refine Lv.call (lawFracs_any a b c d _ ha hb hc hd) L8.out ?_
    intro w9 L9'
    have L9 := hide L9'
    have F9 := L9'.at
    clear L9' F8 L7 L6 F6
    simp only [AllAt, CellsAt, updL, List.map, Nat.zero_add, Nat.reduceAdd, and_true, World.size_alloc, World.heap_drewN, heap_drew, size_set] at F9
    rw [HE.out]
    go_wp2
    go_ret
    refine ⟨rfl, ?_⟩
    repeat (first | exact L9.out.below | refine Below.setCell ?_ (by first | omega | (simp; done) | (simp; omega)) _ | refine Below.alloc ?_ (by first | omega | (simp; done) | (simp; omega)) _ | refine below_drewN ?_ _ | refine Below.drew ?_)

set_option maxRecDepth 100000 in
theorem numberFracs_lifted (os : Os) (started : os.Started) (H : Type) (enc : TypeId × Value → H) :
    ReturnsInHanded {} Try.checked os 3 .any (Rows.numberFracsSpec.pre6 enc Try.prog Try.f3 Rows.numberFracsRow.domain false) (Rows.numberFracsSpec.post enc Try.prog Try.f3 false true false false) := by
  refine returnsInHanded_of_change (C := Try.checked) (by kernel_rfl) started (by kernel_rfl) Try.func3
    (ChangeSpec.witness6 (enc := enc) (C := Try.checked) false ⟨#[], #[.agg #[.int .i64 0, .int .i64 0], .agg #[.int .i64 0, .int .i64 0]], []⟩ 8 (by kernel_rfl) (by kernel_rfl) (by kernel_rfl) (by kernel_rfl)) ?_
  intro W base args ds gs before hval0 hW hcnd _
  have hval : ∀ (j : Nat) t v, Try.f3.params[j]? = some t → args[j]? = some v → Value.okWide Try.prog W .any base t v := hval0
  have hW' := hW
  obtain ⟨p, q, hA0, hV, rfl, hfz, hnd⟩ := hW
  have hA : DataW.TrodAll enc Try.prog W 0 (fun _ => true) true Try.f3.params.toList args.toList ds p := hA0
  rw [Try.params3] at hA hval
  obtain ⟨v0, vs0, d0, ds0, p0, q0, hargs, rfl, rfl, h0, r0⟩ := trodAll_cons hA
  obtain ⟨v1, vs1, d1, ds1, p1, q1, rfl, rfl, rfl, h1, r1⟩ := trodAll_cons r0
  obtain ⟨rfl, rfl, rfl⟩ := trodAll_nil r1
  obtain rfl : args = #[v0, v1] := by cases args; simp_all
  obtain ⟨rfl, rfl⟩ := trodVars_none hV
  obtain ⟨c0, c1, y0, y1, m, rfl, rfl, rfl, hy0, hy1⟩ := open_agg2 Try.underlying23 (by kernel_rfl) cellsFrac (hval 0 23 v0 rfl rfl) h0
  obtain ⟨a, e0, rfl, wa⟩ := DataW.trod_int Try.underlying3 hy0
  obtain ⟨b, e1, rfl, wb⟩ := DataW.trod_int Try.underlying3 hy1
  simp at e0 e1
  subst e0 e1
  obtain ⟨c2, c3, y2, y3, m2, rfl, rfl, rfl, hy2, hy3⟩ := open_agg2 Try.underlying23 (by kernel_rfl) cellsFrac (hval 1 23 v1 rfl rfl) h1
  obtain ⟨c, e2, rfl, wc⟩ := DataW.trod_int Try.underlying3 hy2
  obtain ⟨d, e3, rfl, wd⟩ := DataW.trod_int Try.underlying3 hy3
  simp at e2 e3
  subst e2 e3
  clear hA0 hval0
  simp only [List.append_nil] at hW'
  have structReads : ∀ (x y : Int) (W' : World) (sp : Nat → Bool), (Lit.int .i64 x).wf = true → (Lit.int .i64 y).wf = true → DataW.Trod enc Try.prog W' 0 sp true 23 (.agg #[.int .i64 x, .int .i64 y]) (.agg [.lit (.int .i64 x), .lit (.int .i64 y)]) [] := fun x y W' sp wx wy =>
    shut_agg2 (y0 := (.lit (.int .i64 x), [])) (y1 := (.lit (.int .i64 y), [])) Try.underlying23 (by kernel_rfl) cellsFrac ⟨1, by simp [DataW.trod, Try.underlying3, wx]⟩ ⟨1, by simp [DataW.trod, Try.underlying3, wy]⟩
  refine (numberFracs_walk a b c d W (wf64 wa) (wf64 wb) (wf64 wc) (wf64 wd)).mono fun e W' ⟨he, hb⟩ => ?_
  subst he
  exact ⟨_, rfl, law_post (pa := []) (pv := []) hW' (fun _ _ _ => (trodAll_cons_mk (shut_bool Try.underlying4 _) trodAll_mk0)) (fun sp _ => (trodAll_cons_mk (structReads _ _ _ sp wa wb) (trodAll_cons_mk (structReads _ _ _ sp wc wd) trodAll_mk0))) (fun _ _ => rfl) rfl hb⟩

theorem numberFracs_holds : Rows.NumberFracsSaid :=
  OpenClaim.holds_of_wide 3 Try.f3 rfl rfl rfl rfl rfl rfl rfl ⟨rfl, rfl, rfl, rfl, rfl⟩ rfl rfl rfl rfl rfl (by kernel_rfl) Try.func3 (by kernel_rfl)
    (of_decide_eq_true (by kernel_rfl)) (by unfold Func.isWrapper; first | (rw [if_pos (by decide +kernel)]; kernel_rfl) | (rw [if_neg (by decide +kernel)]; exact ⟨rfl, rfl⟩))
    (fun os started H enc _ => numberFracs_lifted os started H enc)
end Go.Proofs.Ytfmonpjoadjimaa
