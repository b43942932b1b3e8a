/- PROVED HERE: Rows.PlateBalancesSaid: agraffelaw03.PlateBalances returns true for every input, and its arguments read behind the call as before. -/
import Derived.Test.YtjfcjclhbnmgcaaPlAwake
import Derived.Test.YtjfcjclhbnmgcaaPlBalM
import Derived.Test.YtjfcjclhbnmgcaaPlFo4
import Derived.Test.YtjfcjclhbnmgcaaPlFoRB
import Derived.Test.YtjfcjclhbnmgcaaPlEqP
import Derived.Test.YtjfcjclhbnmgcaaPlBalA
import Derived.Deep.AppendLies
namespace Go.Proofs.Ytjfcjclhbnmgcaa
open Go.ChangeShapes Go.WideShapes Go.ChangeAt Go.RowKit Go.Joins
set_option linter.unusedVariables false
set_option linter.unusedSimpArgs false

set_option maxHeartbeats 8000000 in
set_option maxRecDepth 100000 in
theorem balances_ok (A : Option Addr) (n cap : Nat) (z : Nat → Nat → Int) (a b c : Int) (w : World) (hfew : n ≤ 20 ∨ (300 < n ∧ n ≤ 305)) (hnil : A = none → n = 0 ∧ cap = 0) (hD : RowM 6 w w.heap.size A n z) (hE : frcE z n = 0) (hP : plE a b c = 0) :
    Calls Try.prog 4 #[.slice A n cap, .agg #[.int .i64 a, .int .i64 b, .int .i64 c]] w fun x w' => x = .returned (.bool true) ∧ Below w.heap.size w w' := by
  obtain ⟨i0, hi, hz0, hz1, hz2⟩ := info_parts info_pulled
  obtain ⟨hn, hF⟩ := frcE_in hE
  obtain ⟨p1, p2, p3⟩ := place3 hP
  obtain ⟨bs0, bs1, bs2⟩ := sum3_in (by omega) hF
  obtain ⟨bm0, bm1, bm2⟩ := mom3_in (by omega) hF p1 p2 p3
  have ez : ∀ W, (Go.binOp .eql 23 (.agg #[.int .i64 0, .int .i64 0, .int .i64 0]) (.agg #[.int .i64 0, .int .i64 0, .int .i64 0])).run Try.prog W = .ok (.bool true) W := fun W => by rw [eq3_run, eq3_self]
  have HV : Hid (inV a b c 1000000 = true) := by
    unfold plE at hP
    by_cases hv : inV a b c 1000000 = true
    · exact hide hv
    · rw [if_neg hv] at hP; omega
  have CRS := fun W h => refSum_any A n cap z W h (by omega) hF
  have CRM := fun W h => refMoment_any A n cap z a b c W h (by omega) hF p1 p2 p3
  have eS := sum_more (z := z) (n := n) (a := a) (b := b) (c := c)
  have eB := bal_more (z := z) (n := n) (a := a) (b := b) (c := c)
  unfold mom3 at CRM
  unfold sum3 at CRS
  obtain ⟨s0, h0⟩ : ∃ x, x = sumTo z 3 n := ⟨_, rfl⟩
  obtain ⟨s1, h1⟩ : ∃ x, x = sumTo z 4 n := ⟨_, rfl⟩
  obtain ⟨s2, h2⟩ : ∃ x, x = sumTo z 5 n := ⟨_, rfl⟩
  obtain ⟨m0, h3⟩ : ∃ x, x = momTo z 1 2 4 5 b c n := ⟨_, rfl⟩
  obtain ⟨m1, h4⟩ : ∃ x, x = momTo z 2 0 5 3 c a n := ⟨_, rfl⟩
  obtain ⟨m2, h5⟩ : ∃ x, x = momTo z 0 1 3 4 a b n := ⟨_, rfl⟩
  have CX := hide (fun W A' c' h => plBalance_ok A' n c' z a b c s0 s1 s2 m0 m1 m2 W h hE hP h0 h1 h2 h3 h4 h5)
  rw [← h0, ← h1, ← h2] at CRS eS eB
  rw [← h3, ← h4, ← h5] at CRM eB
  rw [← h0] at bs0
  rw [← h1] at bs1
  rw [← h2] at bs2
  rw [← h3] at bm0
  rw [← h4] at bm1
  rw [← h5] at bm2
  clear h0 h1 h2 h3 h4 h5
  have CNS := hide (fun W => refMinus_any 0 0 0 s0 s1 s2 (-s0) (-s1) (-s2) W (by rw [IntKind.wrap_i64]; omega) (by rw [IntKind.wrap_i64]; omega) (by rw [IntKind.wrap_i64]; omega))
  have CNM := hide (fun W => refMinus_any 0 0 0 m0 m1 m2 (-m0) (-m1) (-m2) W (by rw [IntKind.wrap_i64]; omega) (by rw [IntKind.wrap_i64]; omega) (by rw [IntKind.wrap_i64]; omega))
  replace CRS := hide CRS
  replace CRM := hide CRM
  have en1 : ∀ W, (Go.binOp .neq 23 (.agg #[.int .i64 a, .int .i64 b, .int .i64 c]) (.agg #[.int .i64 a, .int .i64 b, .int .i64 c])).run Try.prog W = .ok (.bool false) W := fun W => by rw [neq3_run, eq3_self]; rfl
  have en2 : ∀ W, (Go.binOp .neq 23 (.agg #[.int .i64 (-s0), .int .i64 (-s1), .int .i64 (-s2)]) (.agg #[.int .i64 (-s0), .int .i64 (-s1), .int .i64 (-s2)])).run Try.prog W = .ok (.bool false) W := fun W => by rw [neq3_run, eq3_self]; rfl
  have en3 : ∀ W, (Go.binOp .neq 23 (.agg #[.int .i64 (-m0), .int .i64 (-m1), .int .i64 (-m2)]) (.agg #[.int .i64 (-m0), .int .i64 (-m1), .int .i64 (-m2)])).run Try.prog W = .ok (.bool false) W := fun W => by rw [neq3_run, eq3_self]; rfl
  have HE := hide hE
  have HNIL := hide hnil
  have HD := hide hD
  have HMS := hide (more_slab (z := z) (n := n) (a := a) (b := b) (c := c) (s0 := s0) (s1 := s1) (s2 := s2))
  clear hE hnil hD hF hP p1 p2 p3 bs0 bs1 bs2 bm0 bm1 bm2
  obtain ⟨q, hq⟩ : ∃ q, q = eq3 (-m0) (-m1) (-m2) 0 0 0 := ⟨_, rfl⟩
  have em : ∀ W, (Go.binOp .eql 23 (.agg #[.int .i64 (-m0), .int .i64 (-m1), .int .i64 (-m2)]) (.agg #[.int .i64 0, .int .i64 0, .int .i64 0])).run Try.prog W = .ok (.bool q) W := fun W => by rw [eq3_run, hq]
  rw [← hq] at eB
  have HES := hide eS
  have HEB := hide eB
  clear eS eB hq
  have L0 := hide (Lv.start w)
  go_enter Try.func4, Try.ntmps4
  go_wp2_with fail
  refine Lv.call (plAwake_any _) (L0.out.put _ _) ?_
  intro w1 L1'
  have L1 := hide L1'
  have F1 := L1'.at
  clear L1'
  simp only [AllAt, CellsAt, updL, List.map, Nat.zero_add, Nat.reduceAdd, and_true, World.size_alloc, World.heap_drewN, heap_drew, size_set, Nat.add_eq_left, Nat.left_eq_add, Nat.add_right_cancel_iff, ne_up2, ne_dn2, ne_up3, ne_dn3, ne_up4, ne_dn4, Nat.reduceEqDiff, Nat.one_ne_zero, Nat.succ_ne_zero, Nat.zero_ne_one, reduceIte, List.set_cons_zero, List.set_cons_succ] at F1
  go_wp2_with fail
  refine Lv.same (few_yes A n cap _ hfew) ?_
  go_upto_region 5 with fail
  have n1 : w.heap.size < w1.heap.size := by omega
  go_cut [5, 6, 7] (fun s5 s6 s7 wx => ∃ g5 g6 : Nat, s5 = .pointer (some ⟨g5, 0, none⟩) ∧ s6 = .pointer (some ⟨g6, 0, none⟩) ∧ s7 = .int .i64 0 ∧ ((¬ g5 = g6 ∧ ¬ g6 = g5) ∧ (¬ g5 = w.heap.size ∧ ¬ w.heap.size = g5) ∧ (¬ g6 = w.heap.size ∧ ¬ w.heap.size = g6)) ∧ Hid (Lv w wx [(g5, 40, [.int .i64 a, .int .i64 b, .int .i64 c, .int .i64 (-s0), .int .i64 (-s1), .int .i64 (-s2)]), (g6, 23, [.int .i64 (-m0), .int .i64 (-m1), .int .i64 (-m2)]), (w.heap.size, 23, [.int .i64 a, .int .i64 b, .int .i64 c])]))
  case first =>
    have nu0 : (¬ w1.heap.size = w.heap.size ∧ ¬ w.heap.size = w1.heap.size) ∧ (¬ w1.heap.size + 1 = w.heap.size ∧ ¬ w.heap.size = w1.heap.size + 1) := by omega
    refine wp_region_noPanic ?_
    refine AnyX.start 99 (fun w' => w'.cell? ⟨w.heap.size, 0, none⟩ = some (.int .i64 a) ∧ w'.cell? ⟨w.heap.size, 1, none⟩ = some (.int .i64 b) ∧ w'.cell? ⟨w.heap.size, 2, none⟩ = some (.int .i64 c)) (by kernel_rfl) ?_ (fun hHeld => ?_)
    · (try dsimp only); go_keep
    refine' AnyX.takeL (i := 0) (oi := _) (v := _) rfl (by kernel_rfl) (by kernel_rfl) (by kernel_rfl) (by kernel_rfl) (fun _ _ _ h => h) (Or.inl ⟨by rfl, ?hy1⟩) (by assumption) ?rest1
    case hy1 => (intro w' hSw; (try dsimp only at hSw); go_simp; (first | done | with_reducible rfl))
    try simp only [Act.put, List.setIfInBounds_toArray, List.set_cons_zero, List.set_cons_succ]
    refine' AnyX.takeL (i := 2) (oi := _) (v := _) rfl (by kernel_rfl) (by kernel_rfl) (by kernel_rfl) (by kernel_rfl) (fun _ _ _ h => h) (Or.inl ⟨by rfl, ?hy2⟩) (by assumption) ?rest2
    case hy2 => (intro w' hSw; (try dsimp only at hSw); go_simp; (first | done | with_reducible rfl))
    try simp only [Act.put, List.setIfInBounds_toArray, List.set_cons_zero, List.set_cons_succ]
    refine AnyX.go (rs := [1, 8, 9]) (by kernel_rfl) (by simp) ?_
    refine AllX.consL (o := _) rfl (fun K hK => ?_) ?_
    · go_simp
      go_at_call 18
      refine (copied_any A n cap z _ (by omega) HNIL.out (HD.out.on (L1.out.drew).below)).mono ?_
      rintro e w51 ⟨gc, cc, rfl, hr, hb⟩
      have RC := hide hr
      have L51 := hide ((L1.out.drew).kept hb)
      clear hr hb
      have F51 := L51.out.at; simp only [AllAt, CellsAt, updL, List.map, Nat.zero_add, Nat.reduceAdd, and_true, World.size_alloc, World.heap_drewN, heap_drew, size_set, Nat.add_eq_left, Nat.left_eq_add, Nat.add_right_cancel_iff, ne_up2, ne_dn2, ne_up3, ne_dn3, ne_up4, ne_dn4, Nat.reduceEqDiff, Nat.one_ne_zero, Nat.succ_ne_zero, Nat.zero_ne_one, reduceIte, List.set_cons_zero, List.set_cons_succ] at F51
      go_wp2_with fail
      refine hK.out _ _ ?_ (fun hHeld => ?_)
      · (try dsimp only); go_keep
      clear hK K
      try simp only [Act.put, List.setIfInBounds_toArray, List.set_cons_zero, List.set_cons_succ]
      refine AnyX.go (rs := [3, 8, 9]) (by kernel_rfl) (by simp) ?_
      refine AllX.consL (o := _) rfl (fun K hK => ?_) ?_
      · go_simp
        go_at_call 27
        first | (with_reducible refine Lv.call (CX.out _ _ _ RC.out) (L51.out) ?_) | (with_reducible refine Lv.call (CX.out _ _ _ (RC.out.on ((Below.refl _ _).alloc (Nat.le_refl _) _))) (L51.out) ?_) | (with_reducible refine Lv.call (CX.out _ _ _ (RC.out.on (((Below.refl _ _).alloc (Nat.le_refl _) _).alloc (by simp) _))) (L51.out) ?_)
        intro w52 L52'; have L52 := hide L52'; have F52 := L52'.at; clear L52'; simp only [AllAt, CellsAt, updL, List.map, Nat.zero_add, Nat.reduceAdd, and_true, World.size_alloc, World.heap_drewN, heap_drew, size_set, Nat.add_eq_left, Nat.left_eq_add, Nat.add_right_cancel_iff, ne_up2, ne_dn2, ne_up3, ne_dn3, ne_up4, ne_dn4, Nat.reduceEqDiff, Nat.one_ne_zero, Nat.succ_ne_zero, Nat.zero_ne_one, reduceIte, List.set_cons_zero, List.set_cons_succ] at F52
        go_wp2_with fail
        refine hK.out _ _ ?_ (fun hHeld => ?_)
        · (try dsimp only); go_keep
        clear hK K
        try simp only [Act.put, List.setIfInBounds_toArray, List.set_cons_zero, List.set_cons_succ]
        refine' AnyX.takeL (i := 4) (oi := _) (v := _) rfl (by kernel_rfl) (by kernel_rfl) (by kernel_rfl) (by kernel_rfl) (fun _ _ _ h => h) (Or.inl ⟨by rfl, ?hy3⟩) (by assumption) ?rest3
        case hy3 => (intro w' hSw; (try dsimp only at hSw); go_simp; (first | done | with_reducible rfl))
        try simp only [Act.put, List.setIfInBounds_toArray, List.set_cons_zero, List.set_cons_succ]
        refine' AnyX.takeL (i := 5) (oi := _) (v := _) rfl (by kernel_rfl) (by kernel_rfl) (by kernel_rfl) (by kernel_rfl) (fun _ _ _ h => h) (Or.inl ⟨by rfl, ?hy4⟩) (by assumption) ?rest4
        case hy4 => (intro w' hSw; (try dsimp only at hSw); go_simp; (first | done | with_reducible rfl))
        try simp only [Act.put, List.setIfInBounds_toArray, List.set_cons_zero, List.set_cons_succ]
        refine' AnyX.takeL (i := 6) (oi := _) (v := _) rfl (by kernel_rfl) (by kernel_rfl) (by kernel_rfl) (by kernel_rfl) (fun _ _ _ h => h) (Or.inl ⟨by rfl, ?hy5⟩) (by assumption) ?rest5
        case hy5 => (intro w' hSw; (try dsimp only at hSw); go_simp; (first | done | with_reducible rfl))
        try simp only [Act.put, List.setIfInBounds_toArray, List.set_cons_zero, List.set_cons_succ]
        refine' AnyX.takeL (i := 7) (oi := _) (v := _) rfl (by kernel_rfl) (by kernel_rfl) (by kernel_rfl) (by kernel_rfl) (fun _ _ _ h => h) (Or.inl ⟨by rfl, ?hy6⟩) (by assumption) ?rest6
        case hy6 => (intro w' hSw; (try dsimp only at hSw); go_simp; (first | done | with_reducible rfl))
        try simp only [Act.put, List.setIfInBounds_toArray, List.set_cons_zero, List.set_cons_succ]
        refine AnyX.go (rs := [8, 9]) (by kernel_rfl) (by simp) ?_
        refine AllX.consL (o := _) rfl (fun K hK => ?_) ?_
        · go_simp
          have L53 := hide (L52.out.put [.int .i64 0, .int .i64 0, .int .i64 0, .int .i64 0, .int .i64 0, .int .i64 0] 40)
          have F53 := L53.out.at; simp only [AllAt, CellsAt, updL, List.map, Nat.zero_add, Nat.reduceAdd, and_true, World.size_alloc, World.heap_drewN, heap_drew, size_set, Nat.add_eq_left, Nat.left_eq_add, Nat.add_right_cancel_iff, ne_up2, ne_dn2, ne_up3, ne_dn3, ne_up4, ne_dn4, Nat.reduceEqDiff, Nat.one_ne_zero, Nat.succ_ne_zero, Nat.zero_ne_one, reduceIte, List.set_cons_zero, List.set_cons_succ] at F53
          refine hK.out _ _ ?_ (fun hHeld => ?_)
          · (try dsimp only); go_keep
          clear hK K
          try simp only [Act.put, List.setIfInBounds_toArray, List.set_cons_zero, List.set_cons_succ]
          refine AnyX.go (rs := [9]) (by kernel_rfl) (by simp) ?_
          refine AllX.consL (o := _) rfl (fun K hK => ?_) ?_
          · go_simp
            have L54 := hide (L53.out.put [.int .i64 0, .int .i64 0, .int .i64 0] 23)
            have F54 := L54.out.at; simp only [AllAt, CellsAt, updL, List.map, Nat.zero_add, Nat.reduceAdd, and_true, World.size_alloc, World.heap_drewN, heap_drew, size_set, Nat.add_eq_left, Nat.left_eq_add, Nat.add_right_cancel_iff, ne_up2, ne_dn2, ne_up3, ne_dn3, ne_up4, ne_dn4, Nat.reduceEqDiff, Nat.one_ne_zero, Nat.succ_ne_zero, Nat.zero_ne_one, reduceIte, List.set_cons_zero, List.set_cons_succ] at F54
            refine hK.out _ _ ?_ (fun hHeld => ?_)
            · (try dsimp only); go_keep
            clear hK K
            try simp only [Act.put, List.setIfInBounds_toArray, List.set_cons_zero, List.set_cons_succ]
            have q1 : ¬ w52.heap.size = w52.heap.size + 1 ∧ ¬ w52.heap.size + 1 = w52.heap.size := (by omega)
            have q2 : ¬ w52.heap.size = w.heap.size ∧ ¬ w.heap.size = w52.heap.size := (by omega)
            have q3 : ¬ w52.heap.size + 1 = w.heap.size ∧ ¬ w.heap.size = w52.heap.size + 1 := (by omega)
            have q4 : w.heap.size ≤ w52.heap.size ∧ w.heap.size ≤ w52.heap.size + 1 := (by omega)
            refine AnyX.go (rs := [10]) (by kernel_rfl) (by simp) (AllX.consL (o := _) rfl (fun K hK => ?_) AllX.nil)
            go_simp
            refine hK.out _ _ ?_ (fun hHeld => ?_)
            · (try dsimp only); go_keep
            clear hK K
            try simp only [Act.put, List.setIfInBounds_toArray, List.set_cons_zero, List.set_cons_succ]
            refine AnyX.go (rs := [11]) (by kernel_rfl) (by simp) (AllX.consL (o := _) rfl (fun K hK => ?_) AllX.nil)
            go_simp
            refine hK.out _ _ ?_ (fun hHeld => ?_)
            · (try dsimp only); go_keep
            clear hK K
            try simp only [Act.put, List.setIfInBounds_toArray, List.set_cons_zero, List.set_cons_succ]
            refine' AnyX.takeL (i := 12) (oi := _) (v := _) rfl (by kernel_rfl) (by kernel_rfl) (by kernel_rfl) (by kernel_rfl) (fun _ _ _ h => h) (Or.inl ⟨by rfl, ?hy7⟩) (by assumption) ?rest7
            case hy7 => (intro w' hSw; (try dsimp only at hSw); go_simp; (first | done | with_reducible rfl))
            try simp only [Act.put, List.setIfInBounds_toArray, List.set_cons_zero, List.set_cons_succ]
            refine AnyX.done (by kernel_rfl) ?_ _
            refine NoPanic.normal ?_
            go_wp2_with fail
            go_meet
            refine ⟨w52.heap.size, w52.heap.size + 1, rfl, rfl, rfl, ⟨q1, q2, q3⟩, hide ?_⟩
            skip
            have h := ((L52.out).put [.int .i64 a, .int .i64 b, .int .i64 c, .int .i64 (-s0), .int .i64 (-s1), .int .i64 (-s2)] 40).put [.int .i64 (-m0), .int .i64 (-m1), .int .i64 (-m2)] 23
            try simp only [World.size_alloc, World.heap_drewN, heap_drew, Nat.add_assoc, Nat.reduceAdd] at h
            have h4 := Lv.of (L' := [(w52.heap.size, 40, [.int .i64 a, .int .i64 b, .int .i64 c, .int .i64 (-s0), .int .i64 (-s1), .int .i64 (-s2)]), (w52.heap.size + 1, 23, [.int .i64 (-m0), .int .i64 (-m1), .int .i64 (-m2)]), (w.heap.size, 23, [.int .i64 a, .int .i64 b, .int .i64 c])]) h (by simp)
            with_reducible exact h4
          exact AllX.nil
        refine AllX.consL (o := _) rfl (fun K hK => ?_) ?_
        · go_simp
          have L55 := hide (L52.out.put [.int .i64 0, .int .i64 0, .int .i64 0] 23)
          have F55 := L55.out.at; simp only [AllAt, CellsAt, updL, List.map, Nat.zero_add, Nat.reduceAdd, and_true, World.size_alloc, World.heap_drewN, heap_drew, size_set, Nat.add_eq_left, Nat.left_eq_add, Nat.add_right_cancel_iff, ne_up2, ne_dn2, ne_up3, ne_dn3, ne_up4, ne_dn4, Nat.reduceEqDiff, Nat.one_ne_zero, Nat.succ_ne_zero, Nat.zero_ne_one, reduceIte, List.set_cons_zero, List.set_cons_succ] at F55
          refine hK.out _ _ ?_ (fun hHeld => ?_)
          · (try dsimp only); go_keep
          clear hK K
          try simp only [Act.put, List.setIfInBounds_toArray, List.set_cons_zero, List.set_cons_succ]
          refine AnyX.go (rs := [8]) (by kernel_rfl) (by simp) ?_
          refine AllX.consL (o := _) rfl (fun K hK => ?_) ?_
          · go_simp
            have L56 := hide (L55.out.put [.int .i64 0, .int .i64 0, .int .i64 0, .int .i64 0, .int .i64 0, .int .i64 0] 40)
            have F56 := L56.out.at; simp only [AllAt, CellsAt, updL, List.map, Nat.zero_add, Nat.reduceAdd, and_true, World.size_alloc, World.heap_drewN, heap_drew, size_set, Nat.add_eq_left, Nat.left_eq_add, Nat.add_right_cancel_iff, ne_up2, ne_dn2, ne_up3, ne_dn3, ne_up4, ne_dn4, Nat.reduceEqDiff, Nat.one_ne_zero, Nat.succ_ne_zero, Nat.zero_ne_one, reduceIte, List.set_cons_zero, List.set_cons_succ] at F56
            refine hK.out _ _ ?_ (fun hHeld => ?_)
            · (try dsimp only); go_keep
            clear hK K
            try simp only [Act.put, List.setIfInBounds_toArray, List.set_cons_zero, List.set_cons_succ]
            have q1 : ¬ w52.heap.size + 1 = w52.heap.size ∧ ¬ w52.heap.size = w52.heap.size + 1 := (by omega)
            have q2 : ¬ w52.heap.size + 1 = w.heap.size ∧ ¬ w.heap.size = w52.heap.size + 1 := (by omega)
            have q3 : ¬ w52.heap.size = w.heap.size ∧ ¬ w.heap.size = w52.heap.size := (by omega)
            have q4 : w.heap.size ≤ w52.heap.size + 1 ∧ w.heap.size ≤ w52.heap.size := (by omega)
            refine AnyX.go (rs := [10]) (by kernel_rfl) (by simp) (AllX.consL (o := _) rfl (fun K hK => ?_) AllX.nil)
            go_simp
            refine hK.out _ _ ?_ (fun hHeld => ?_)
            · (try dsimp only); go_keep
            clear hK K
            try simp only [Act.put, List.setIfInBounds_toArray, List.set_cons_zero, List.set_cons_succ]
            refine AnyX.go (rs := [11]) (by kernel_rfl) (by simp) (AllX.consL (o := _) rfl (fun K hK => ?_) AllX.nil)
            go_simp
            refine hK.out _ _ ?_ (fun hHeld => ?_)
            · (try dsimp only); go_keep
            clear hK K
            try simp only [Act.put, List.setIfInBounds_toArray, List.set_cons_zero, List.set_cons_succ]
            refine' AnyX.takeL (i := 12) (oi := _) (v := _) rfl (by kernel_rfl) (by kernel_rfl) (by kernel_rfl) (by kernel_rfl) (fun _ _ _ h => h) (Or.inl ⟨by rfl, ?hy8⟩) (by assumption) ?rest8
            case hy8 => (intro w' hSw; (try dsimp only at hSw); go_simp; (first | done | with_reducible rfl))
            try simp only [Act.put, List.setIfInBounds_toArray, List.set_cons_zero, List.set_cons_succ]
            refine AnyX.done (by kernel_rfl) ?_ _
            refine NoPanic.normal ?_
            go_wp2_with fail
            go_meet
            refine ⟨w52.heap.size + 1, w52.heap.size, rfl, rfl, rfl, ⟨q1, q2, q3⟩, hide ?_⟩
            skip
            have h := ((L52.out).put [.int .i64 (-m0), .int .i64 (-m1), .int .i64 (-m2)] 23).put [.int .i64 a, .int .i64 b, .int .i64 c, .int .i64 (-s0), .int .i64 (-s1), .int .i64 (-s2)] 40
            try simp only [World.size_alloc, World.heap_drewN, heap_drew, Nat.add_assoc, Nat.reduceAdd] at h
            have h4 := Lv.of (L' := [(w52.heap.size + 1, 40, [.int .i64 a, .int .i64 b, .int .i64 c, .int .i64 (-s0), .int .i64 (-s1), .int .i64 (-s2)]), (w52.heap.size, 23, [.int .i64 (-m0), .int .i64 (-m1), .int .i64 (-m2)]), (w.heap.size, 23, [.int .i64 a, .int .i64 b, .int .i64 c])]) h (by simp)
            with_reducible exact h4
          exact AllX.nil
        exact AllX.nil
      refine AllX.consL (o := _) rfl (fun K hK => ?_) ?_
      · go_simp
        have L57 := hide (L51.out.put [.int .i64 0, .int .i64 0, .int .i64 0, .int .i64 0, .int .i64 0, .int .i64 0] 40)
        have F57 := L57.out.at; simp only [AllAt, CellsAt, updL, List.map, Nat.zero_add, Nat.reduceAdd, and_true, World.size_alloc, World.heap_drewN, heap_drew, size_set, Nat.add_eq_left, Nat.left_eq_add, Nat.add_right_cancel_iff, ne_up2, ne_dn2, ne_up3, ne_dn3, ne_up4, ne_dn4, Nat.reduceEqDiff, Nat.one_ne_zero, Nat.succ_ne_zero, Nat.zero_ne_one, reduceIte, List.set_cons_zero, List.set_cons_succ] at F57
        refine hK.out _ _ ?_ (fun hHeld => ?_)
        · (try dsimp only); go_keep
        clear hK K
        try simp only [Act.put, List.setIfInBounds_toArray, List.set_cons_zero, List.set_cons_succ]
        refine AnyX.go (rs := [3, 9]) (by kernel_rfl) (by simp) ?_
        refine AllX.consL (o := _) rfl (fun K hK => ?_) ?_
        · go_simp
          go_at_call 27
          first | (with_reducible refine Lv.call (CX.out _ _ _ RC.out) (L57.out) ?_) | (with_reducible refine Lv.call (CX.out _ _ _ (RC.out.on ((Below.refl _ _).alloc (Nat.le_refl _) _))) (L57.out) ?_) | (with_reducible refine Lv.call (CX.out _ _ _ (RC.out.on (((Below.refl _ _).alloc (Nat.le_refl _) _).alloc (by simp) _))) (L57.out) ?_)
          intro w58 L58'; have L58 := hide L58'; have F58 := L58'.at; clear L58'; simp only [AllAt, CellsAt, updL, List.map, Nat.zero_add, Nat.reduceAdd, and_true, World.size_alloc, World.heap_drewN, heap_drew, size_set, Nat.add_eq_left, Nat.left_eq_add, Nat.add_right_cancel_iff, ne_up2, ne_dn2, ne_up3, ne_dn3, ne_up4, ne_dn4, Nat.reduceEqDiff, Nat.one_ne_zero, Nat.succ_ne_zero, Nat.zero_ne_one, reduceIte, List.set_cons_zero, List.set_cons_succ] at F58
          go_wp2_with fail
          refine hK.out _ _ ?_ (fun hHeld => ?_)
          · (try dsimp only); go_keep
          clear hK K
          try simp only [Act.put, List.setIfInBounds_toArray, List.set_cons_zero, List.set_cons_succ]
          refine' AnyX.takeL (i := 4) (oi := _) (v := _) rfl (by kernel_rfl) (by kernel_rfl) (by kernel_rfl) (by kernel_rfl) (fun _ _ _ h => h) (Or.inl ⟨by rfl, ?hy9⟩) (by assumption) ?rest9
          case hy9 => (intro w' hSw; (try dsimp only at hSw); go_simp; (first | done | with_reducible rfl))
          try simp only [Act.put, List.setIfInBounds_toArray, List.set_cons_zero, List.set_cons_succ]
          refine' AnyX.takeL (i := 5) (oi := _) (v := _) rfl (by kernel_rfl) (by kernel_rfl) (by kernel_rfl) (by kernel_rfl) (fun _ _ _ h => h) (Or.inl ⟨by rfl, ?hy10⟩) (by assumption) ?rest10
          case hy10 => (intro w' hSw; (try dsimp only at hSw); go_simp; (first | done | with_reducible rfl))
          try simp only [Act.put, List.setIfInBounds_toArray, List.set_cons_zero, List.set_cons_succ]
          refine' AnyX.takeL (i := 6) (oi := _) (v := _) rfl (by kernel_rfl) (by kernel_rfl) (by kernel_rfl) (by kernel_rfl) (fun _ _ _ h => h) (Or.inl ⟨by rfl, ?hy11⟩) (by assumption) ?rest11
          case hy11 => (intro w' hSw; (try dsimp only at hSw); go_simp; (first | done | with_reducible rfl))
          try simp only [Act.put, List.setIfInBounds_toArray, List.set_cons_zero, List.set_cons_succ]
          refine' AnyX.takeL (i := 7) (oi := _) (v := _) rfl (by kernel_rfl) (by kernel_rfl) (by kernel_rfl) (by kernel_rfl) (fun _ _ _ h => h) (Or.inl ⟨by rfl, ?hy12⟩) (by assumption) ?rest12
          case hy12 => (intro w' hSw; (try dsimp only at hSw); go_simp; (first | done | with_reducible rfl))
          try simp only [Act.put, List.setIfInBounds_toArray, List.set_cons_zero, List.set_cons_succ]
          refine AnyX.go (rs := [9]) (by kernel_rfl) (by simp) ?_
          refine AllX.consL (o := _) rfl (fun K hK => ?_) ?_
          · go_simp
            have L59 := hide (L58.out.put [.int .i64 0, .int .i64 0, .int .i64 0] 23)
            have F59 := L59.out.at; simp only [AllAt, CellsAt, updL, List.map, Nat.zero_add, Nat.reduceAdd, and_true, World.size_alloc, World.heap_drewN, heap_drew, size_set, Nat.add_eq_left, Nat.left_eq_add, Nat.add_right_cancel_iff, ne_up2, ne_dn2, ne_up3, ne_dn3, ne_up4, ne_dn4, Nat.reduceEqDiff, Nat.one_ne_zero, Nat.succ_ne_zero, Nat.zero_ne_one, reduceIte, List.set_cons_zero, List.set_cons_succ] at F59
            refine hK.out _ _ ?_ (fun hHeld => ?_)
            · (try dsimp only); go_keep
            clear hK K
            try simp only [Act.put, List.setIfInBounds_toArray, List.set_cons_zero, List.set_cons_succ]
            have q1 : ¬ w51.heap.size = w58.heap.size ∧ ¬ w58.heap.size = w51.heap.size := (by omega)
            have q2 : ¬ w51.heap.size = w.heap.size ∧ ¬ w.heap.size = w51.heap.size := (by omega)
            have q3 : ¬ w58.heap.size = w.heap.size ∧ ¬ w.heap.size = w58.heap.size := (by omega)
            have q4 : w.heap.size ≤ w51.heap.size ∧ w.heap.size ≤ w58.heap.size := (by omega)
            refine AnyX.go (rs := [10]) (by kernel_rfl) (by simp) (AllX.consL (o := _) rfl (fun K hK => ?_) AllX.nil)
            go_simp
            refine hK.out _ _ ?_ (fun hHeld => ?_)
            · (try dsimp only); go_keep
            clear hK K
            try simp only [Act.put, List.setIfInBounds_toArray, List.set_cons_zero, List.set_cons_succ]
            refine AnyX.go (rs := [11]) (by kernel_rfl) (by simp) (AllX.consL (o := _) rfl (fun K hK => ?_) AllX.nil)
            go_simp
            refine hK.out _ _ ?_ (fun hHeld => ?_)
            · (try dsimp only); go_keep
            clear hK K
            try simp only [Act.put, List.setIfInBounds_toArray, List.set_cons_zero, List.set_cons_succ]
            refine' AnyX.takeL (i := 12) (oi := _) (v := _) rfl (by kernel_rfl) (by kernel_rfl) (by kernel_rfl) (by kernel_rfl) (fun _ _ _ h => h) (Or.inl ⟨by rfl, ?hy13⟩) (by assumption) ?rest13
            case hy13 => (intro w' hSw; (try dsimp only at hSw); go_simp; (first | done | with_reducible rfl))
            try simp only [Act.put, List.setIfInBounds_toArray, List.set_cons_zero, List.set_cons_succ]
            refine AnyX.done (by kernel_rfl) ?_ _
            refine NoPanic.normal ?_
            go_wp2_with fail
            go_meet
            refine ⟨w51.heap.size, w58.heap.size, rfl, rfl, rfl, ⟨q1, q2, q3⟩, hide ?_⟩
            skip
            have h := L58.out
            try simp only [World.size_alloc, World.heap_drewN, heap_drew, Nat.add_assoc, Nat.reduceAdd] at h
            have h0 := Lv.of (L' := [(w51.heap.size, 40, [.int .i64 0, .int .i64 0, .int .i64 0, .int .i64 0, .int .i64 0, .int .i64 0]), (w.heap.size, 23, [.int .i64 a, .int .i64 b, .int .i64 c])]) h (by simp)
            have h1 := h0.stored6 (u1 := .int .i64 a) (u2 := .int .i64 b) (u3 := .int .i64 c) (u4 := .int .i64 (-s0)) (u5 := .int .i64 (-s1)) (u6 := .int .i64 (-s2)) q4.1 (by simp [q2.2])
            clear h
            have h := h1.put [.int .i64 (-m0), .int .i64 (-m1), .int .i64 (-m2)] 23
            try simp only [World.size_alloc, size_set, World.heap_drewN, heap_drew, Nat.add_assoc, Nat.reduceAdd] at h
            have h4 := Lv.of (L' := [(w51.heap.size, 40, [.int .i64 a, .int .i64 b, .int .i64 c, .int .i64 (-s0), .int .i64 (-s1), .int .i64 (-s2)]), (w58.heap.size, 23, [.int .i64 (-m0), .int .i64 (-m1), .int .i64 (-m2)]), (w.heap.size, 23, [.int .i64 a, .int .i64 b, .int .i64 c])]) h (by simp)
            with_reducible exact h4
          exact AllX.nil
        refine AllX.consL (o := _) rfl (fun K hK => ?_) ?_
        · go_simp
          have L60 := hide (L57.out.put [.int .i64 0, .int .i64 0, .int .i64 0] 23)
          have F60 := L60.out.at; simp only [AllAt, CellsAt, updL, List.map, Nat.zero_add, Nat.reduceAdd, and_true, World.size_alloc, World.heap_drewN, heap_drew, size_set, Nat.add_eq_left, Nat.left_eq_add, Nat.add_right_cancel_iff, ne_up2, ne_dn2, ne_up3, ne_dn3, ne_up4, ne_dn4, Nat.reduceEqDiff, Nat.one_ne_zero, Nat.succ_ne_zero, Nat.zero_ne_one, reduceIte, List.set_cons_zero, List.set_cons_succ] at F60
          refine hK.out _ _ ?_ (fun hHeld => ?_)
          · (try dsimp only); go_keep
          clear hK K
          try simp only [Act.put, List.setIfInBounds_toArray, List.set_cons_zero, List.set_cons_succ]
          refine AnyX.go (rs := [3]) (by kernel_rfl) (by simp) ?_
          refine AllX.consL (o := _) rfl (fun K hK => ?_) ?_
          · go_simp
            go_at_call 27
            first | (with_reducible refine Lv.call (CX.out _ _ _ RC.out) (L60.out) ?_) | (with_reducible refine Lv.call (CX.out _ _ _ (RC.out.on ((Below.refl _ _).alloc (Nat.le_refl _) _))) (L60.out) ?_) | (with_reducible refine Lv.call (CX.out _ _ _ (RC.out.on (((Below.refl _ _).alloc (Nat.le_refl _) _).alloc (by simp) _))) (L60.out) ?_)
            intro w61 L61'; have L61 := hide L61'; have F61 := L61'.at; clear L61'; simp only [AllAt, CellsAt, updL, List.map, Nat.zero_add, Nat.reduceAdd, and_true, World.size_alloc, World.heap_drewN, heap_drew, size_set, Nat.add_eq_left, Nat.left_eq_add, Nat.add_right_cancel_iff, ne_up2, ne_dn2, ne_up3, ne_dn3, ne_up4, ne_dn4, Nat.reduceEqDiff, Nat.one_ne_zero, Nat.succ_ne_zero, Nat.zero_ne_one, reduceIte, List.set_cons_zero, List.set_cons_succ] at F61
            go_wp2_with fail
            refine hK.out _ _ ?_ (fun hHeld => ?_)
            · (try dsimp only); go_keep
            clear hK K
            try simp only [Act.put, List.setIfInBounds_toArray, List.set_cons_zero, List.set_cons_succ]
            refine' AnyX.takeL (i := 4) (oi := _) (v := _) rfl (by kernel_rfl) (by kernel_rfl) (by kernel_rfl) (by kernel_rfl) (fun _ _ _ h => h) (Or.inl ⟨by rfl, ?hy14⟩) (by assumption) ?rest14
            case hy14 => (intro w' hSw; (try dsimp only at hSw); go_simp; (first | done | with_reducible rfl))
            try simp only [Act.put, List.setIfInBounds_toArray, List.set_cons_zero, List.set_cons_succ]
            refine' AnyX.takeL (i := 5) (oi := _) (v := _) rfl (by kernel_rfl) (by kernel_rfl) (by kernel_rfl) (by kernel_rfl) (fun _ _ _ h => h) (Or.inl ⟨by rfl, ?hy15⟩) (by assumption) ?rest15
            case hy15 => (intro w' hSw; (try dsimp only at hSw); go_simp; (first | done | with_reducible rfl))
            try simp only [Act.put, List.setIfInBounds_toArray, List.set_cons_zero, List.set_cons_succ]
            refine' AnyX.takeL (i := 6) (oi := _) (v := _) rfl (by kernel_rfl) (by kernel_rfl) (by kernel_rfl) (by kernel_rfl) (fun _ _ _ h => h) (Or.inl ⟨by rfl, ?hy16⟩) (by assumption) ?rest16
            case hy16 => (intro w' hSw; (try dsimp only at hSw); go_simp; (first | done | with_reducible rfl))
            try simp only [Act.put, List.setIfInBounds_toArray, List.set_cons_zero, List.set_cons_succ]
            refine' AnyX.takeL (i := 7) (oi := _) (v := _) rfl (by kernel_rfl) (by kernel_rfl) (by kernel_rfl) (by kernel_rfl) (fun _ _ _ h => h) (Or.inl ⟨by rfl, ?hy17⟩) (by assumption) ?rest17
            case hy17 => (intro w' hSw; (try dsimp only at hSw); go_simp; (first | done | with_reducible rfl))
            try simp only [Act.put, List.setIfInBounds_toArray, List.set_cons_zero, List.set_cons_succ]
            have q1 : ¬ w51.heap.size = w51.heap.size + 1 ∧ ¬ w51.heap.size + 1 = w51.heap.size := (by omega)
            have q2 : ¬ w51.heap.size = w.heap.size ∧ ¬ w.heap.size = w51.heap.size := (by omega)
            have q3 : ¬ w51.heap.size + 1 = w.heap.size ∧ ¬ w.heap.size = w51.heap.size + 1 := (by omega)
            have q4 : w.heap.size ≤ w51.heap.size ∧ w.heap.size ≤ w51.heap.size + 1 := (by omega)
            refine AnyX.go (rs := [10]) (by kernel_rfl) (by simp) (AllX.consL (o := _) rfl (fun K hK => ?_) AllX.nil)
            go_simp
            refine hK.out _ _ ?_ (fun hHeld => ?_)
            · (try dsimp only); go_keep
            clear hK K
            try simp only [Act.put, List.setIfInBounds_toArray, List.set_cons_zero, List.set_cons_succ]
            refine AnyX.go (rs := [11]) (by kernel_rfl) (by simp) (AllX.consL (o := _) rfl (fun K hK => ?_) AllX.nil)
            go_simp
            refine hK.out _ _ ?_ (fun hHeld => ?_)
            · (try dsimp only); go_keep
            clear hK K
            try simp only [Act.put, List.setIfInBounds_toArray, List.set_cons_zero, List.set_cons_succ]
            refine' AnyX.takeL (i := 12) (oi := _) (v := _) rfl (by kernel_rfl) (by kernel_rfl) (by kernel_rfl) (by kernel_rfl) (fun _ _ _ h => h) (Or.inl ⟨by rfl, ?hy18⟩) (by assumption) ?rest18
            case hy18 => (intro w' hSw; (try dsimp only at hSw); go_simp; (first | done | with_reducible rfl))
            try simp only [Act.put, List.setIfInBounds_toArray, List.set_cons_zero, List.set_cons_succ]
            refine AnyX.done (by kernel_rfl) ?_ _
            refine NoPanic.normal ?_
            go_wp2_with fail
            go_meet
            refine ⟨w51.heap.size, w51.heap.size + 1, rfl, rfl, rfl, ⟨q1, q2, q3⟩, hide ?_⟩
            skip
            have h := L61.out
            try simp only [World.size_alloc, World.heap_drewN, heap_drew, Nat.add_assoc, Nat.reduceAdd] at h
            have h0 := Lv.of (L' := [(w51.heap.size, 40, [.int .i64 0, .int .i64 0, .int .i64 0, .int .i64 0, .int .i64 0, .int .i64 0]), (w51.heap.size + 1, 23, [.int .i64 0, .int .i64 0, .int .i64 0]), (w.heap.size, 23, [.int .i64 a, .int .i64 b, .int .i64 c])]) h (by simp)
            have h1 := h0.stored6 (u1 := .int .i64 a) (u2 := .int .i64 b) (u3 := .int .i64 c) (u4 := .int .i64 (-s0)) (u5 := .int .i64 (-s1)) (u6 := .int .i64 (-s2)) q4.1 (by simp [q1.2, q2.2])
            have h2 := Lv.of (L' := [(w51.heap.size + 1, 23, [.int .i64 0, .int .i64 0, .int .i64 0]), (w51.heap.size, 40, [.int .i64 a, .int .i64 b, .int .i64 c, .int .i64 (-s0), .int .i64 (-s1), .int .i64 (-s2)]), (w.heap.size, 23, [.int .i64 a, .int .i64 b, .int .i64 c])]) h1 (by simp)
            clear h
            have h := h2.stored3 (u1 := .int .i64 (-m0)) (u2 := .int .i64 (-m1)) (u3 := .int .i64 (-m2)) q4.2 (by simp [q1.1, q3.2])
            try simp only [World.size_alloc, size_set, World.heap_drewN, heap_drew, Nat.add_assoc, Nat.reduceAdd] at h
            have h4 := Lv.of (L' := [(w51.heap.size, 40, [.int .i64 a, .int .i64 b, .int .i64 c, .int .i64 (-s0), .int .i64 (-s1), .int .i64 (-s2)]), (w51.heap.size + 1, 23, [.int .i64 (-m0), .int .i64 (-m1), .int .i64 (-m2)]), (w.heap.size, 23, [.int .i64 a, .int .i64 b, .int .i64 c])]) h (by simp)
            with_reducible exact h4
          exact AllX.nil
        exact AllX.nil
      refine AllX.consL (o := _) rfl (fun K hK => ?_) ?_
      · go_simp
        have L62 := hide (L51.out.put [.int .i64 0, .int .i64 0, .int .i64 0] 23)
        have F62 := L62.out.at; simp only [AllAt, CellsAt, updL, List.map, Nat.zero_add, Nat.reduceAdd, and_true, World.size_alloc, World.heap_drewN, heap_drew, size_set, Nat.add_eq_left, Nat.left_eq_add, Nat.add_right_cancel_iff, ne_up2, ne_dn2, ne_up3, ne_dn3, ne_up4, ne_dn4, Nat.reduceEqDiff, Nat.one_ne_zero, Nat.succ_ne_zero, Nat.zero_ne_one, reduceIte, List.set_cons_zero, List.set_cons_succ] at F62
        refine hK.out _ _ ?_ (fun hHeld => ?_)
        · (try dsimp only); go_keep
        clear hK K
        try simp only [Act.put, List.setIfInBounds_toArray, List.set_cons_zero, List.set_cons_succ]
        refine AnyX.go (rs := [3, 8]) (by kernel_rfl) (by simp) ?_
        refine AllX.consL (o := _) rfl (fun K hK => ?_) ?_
        · go_simp
          go_at_call 27
          first | (with_reducible refine Lv.call (CX.out _ _ _ RC.out) (L62.out) ?_) | (with_reducible refine Lv.call (CX.out _ _ _ (RC.out.on ((Below.refl _ _).alloc (Nat.le_refl _) _))) (L62.out) ?_) | (with_reducible refine Lv.call (CX.out _ _ _ (RC.out.on (((Below.refl _ _).alloc (Nat.le_refl _) _).alloc (by simp) _))) (L62.out) ?_)
          intro w63 L63'; have L63 := hide L63'; have F63 := L63'.at; clear L63'; simp only [AllAt, CellsAt, updL, List.map, Nat.zero_add, Nat.reduceAdd, and_true, World.size_alloc, World.heap_drewN, heap_drew, size_set, Nat.add_eq_left, Nat.left_eq_add, Nat.add_right_cancel_iff, ne_up2, ne_dn2, ne_up3, ne_dn3, ne_up4, ne_dn4, Nat.reduceEqDiff, Nat.one_ne_zero, Nat.succ_ne_zero, Nat.zero_ne_one, reduceIte, List.set_cons_zero, List.set_cons_succ] at F63
          go_wp2_with fail
          refine hK.out _ _ ?_ (fun hHeld => ?_)
          · (try dsimp only); go_keep
          clear hK K
          try simp only [Act.put, List.setIfInBounds_toArray, List.set_cons_zero, List.set_cons_succ]
          refine' AnyX.takeL (i := 4) (oi := _) (v := _) rfl (by kernel_rfl) (by kernel_rfl) (by kernel_rfl) (by kernel_rfl) (fun _ _ _ h => h) (Or.inl ⟨by rfl, ?hy19⟩) (by assumption) ?rest19
          case hy19 => (intro w' hSw; (try dsimp only at hSw); go_simp; (first | done | with_reducible rfl))
          try simp only [Act.put, List.setIfInBounds_toArray, List.set_cons_zero, List.set_cons_succ]
          refine' AnyX.takeL (i := 5) (oi := _) (v := _) rfl (by kernel_rfl) (by kernel_rfl) (by kernel_rfl) (by kernel_rfl) (fun _ _ _ h => h) (Or.inl ⟨by rfl, ?hy20⟩) (by assumption) ?rest20
          case hy20 => (intro w' hSw; (try dsimp only at hSw); go_simp; (first | done | with_reducible rfl))
          try simp only [Act.put, List.setIfInBounds_toArray, List.set_cons_zero, List.set_cons_succ]
          refine' AnyX.takeL (i := 6) (oi := _) (v := _) rfl (by kernel_rfl) (by kernel_rfl) (by kernel_rfl) (by kernel_rfl) (fun _ _ _ h => h) (Or.inl ⟨by rfl, ?hy21⟩) (by assumption) ?rest21
          case hy21 => (intro w' hSw; (try dsimp only at hSw); go_simp; (first | done | with_reducible rfl))
          try simp only [Act.put, List.setIfInBounds_toArray, List.set_cons_zero, List.set_cons_succ]
          refine' AnyX.takeL (i := 7) (oi := _) (v := _) rfl (by kernel_rfl) (by kernel_rfl) (by kernel_rfl) (by kernel_rfl) (fun _ _ _ h => h) (Or.inl ⟨by rfl, ?hy22⟩) (by assumption) ?rest22
          case hy22 => (intro w' hSw; (try dsimp only at hSw); go_simp; (first | done | with_reducible rfl))
          try simp only [Act.put, List.setIfInBounds_toArray, List.set_cons_zero, List.set_cons_succ]
          refine AnyX.go (rs := [8]) (by kernel_rfl) (by simp) ?_
          refine AllX.consL (o := _) rfl (fun K hK => ?_) ?_
          · go_simp
            have L64 := hide (L63.out.put [.int .i64 0, .int .i64 0, .int .i64 0, .int .i64 0, .int .i64 0, .int .i64 0] 40)
            have F64 := L64.out.at; simp only [AllAt, CellsAt, updL, List.map, Nat.zero_add, Nat.reduceAdd, and_true, World.size_alloc, World.heap_drewN, heap_drew, size_set, Nat.add_eq_left, Nat.left_eq_add, Nat.add_right_cancel_iff, ne_up2, ne_dn2, ne_up3, ne_dn3, ne_up4, ne_dn4, Nat.reduceEqDiff, Nat.one_ne_zero, Nat.succ_ne_zero, Nat.zero_ne_one, reduceIte, List.set_cons_zero, List.set_cons_succ] at F64
            refine hK.out _ _ ?_ (fun hHeld => ?_)
            · (try dsimp only); go_keep
            clear hK K
            try simp only [Act.put, List.setIfInBounds_toArray, List.set_cons_zero, List.set_cons_succ]
            have q1 : ¬ w63.heap.size = w51.heap.size ∧ ¬ w51.heap.size = w63.heap.size := (by omega)
            have q2 : ¬ w63.heap.size = w.heap.size ∧ ¬ w.heap.size = w63.heap.size := (by omega)
            have q3 : ¬ w51.heap.size = w.heap.size ∧ ¬ w.heap.size = w51.heap.size := (by omega)
            have q4 : w.heap.size ≤ w63.heap.size ∧ w.heap.size ≤ w51.heap.size := (by omega)
            refine AnyX.go (rs := [10]) (by kernel_rfl) (by simp) (AllX.consL (o := _) rfl (fun K hK => ?_) AllX.nil)
            go_simp
            refine hK.out _ _ ?_ (fun hHeld => ?_)
            · (try dsimp only); go_keep
            clear hK K
            try simp only [Act.put, List.setIfInBounds_toArray, List.set_cons_zero, List.set_cons_succ]
            refine AnyX.go (rs := [11]) (by kernel_rfl) (by simp) (AllX.consL (o := _) rfl (fun K hK => ?_) AllX.nil)
            go_simp
            refine hK.out _ _ ?_ (fun hHeld => ?_)
            · (try dsimp only); go_keep
            clear hK K
            try simp only [Act.put, List.setIfInBounds_toArray, List.set_cons_zero, List.set_cons_succ]
            refine' AnyX.takeL (i := 12) (oi := _) (v := _) rfl (by kernel_rfl) (by kernel_rfl) (by kernel_rfl) (by kernel_rfl) (fun _ _ _ h => h) (Or.inl ⟨by rfl, ?hy23⟩) (by assumption) ?rest23
            case hy23 => (intro w' hSw; (try dsimp only at hSw); go_simp; (first | done | with_reducible rfl))
            try simp only [Act.put, List.setIfInBounds_toArray, List.set_cons_zero, List.set_cons_succ]
            refine AnyX.done (by kernel_rfl) ?_ _
            refine NoPanic.normal ?_
            go_wp2_with fail
            go_meet
            refine ⟨w63.heap.size, w51.heap.size, rfl, rfl, rfl, ⟨q1, q2, q3⟩, hide ?_⟩
            skip
            have h := L63.out
            try simp only [World.size_alloc, World.heap_drewN, heap_drew, Nat.add_assoc, Nat.reduceAdd] at h
            have h0 := Lv.of (L' := [(w51.heap.size, 23, [.int .i64 0, .int .i64 0, .int .i64 0]), (w.heap.size, 23, [.int .i64 a, .int .i64 b, .int .i64 c])]) h (by simp)
            have h1 := h0.stored3 (u1 := .int .i64 (-m0)) (u2 := .int .i64 (-m1)) (u3 := .int .i64 (-m2)) q4.2 (by simp [q3.2])
            clear h
            have h := h1.put [.int .i64 a, .int .i64 b, .int .i64 c, .int .i64 (-s0), .int .i64 (-s1), .int .i64 (-s2)] 40
            try simp only [World.size_alloc, size_set, World.heap_drewN, heap_drew, Nat.add_assoc, Nat.reduceAdd] at h
            have h4 := Lv.of (L' := [(w63.heap.size, 40, [.int .i64 a, .int .i64 b, .int .i64 c, .int .i64 (-s0), .int .i64 (-s1), .int .i64 (-s2)]), (w51.heap.size, 23, [.int .i64 (-m0), .int .i64 (-m1), .int .i64 (-m2)]), (w.heap.size, 23, [.int .i64 a, .int .i64 b, .int .i64 c])]) h (by simp)
            with_reducible exact h4
          exact AllX.nil
        refine AllX.consL (o := _) rfl (fun K hK => ?_) ?_
        · go_simp
          have L65 := hide (L62.out.put [.int .i64 0, .int .i64 0, .int .i64 0, .int .i64 0, .int .i64 0, .int .i64 0] 40)
          have F65 := L65.out.at; simp only [AllAt, CellsAt, updL, List.map, Nat.zero_add, Nat.reduceAdd, and_true, World.size_alloc, World.heap_drewN, heap_drew, size_set, Nat.add_eq_left, Nat.left_eq_add, Nat.add_right_cancel_iff, ne_up2, ne_dn2, ne_up3, ne_dn3, ne_up4, ne_dn4, Nat.reduceEqDiff, Nat.one_ne_zero, Nat.succ_ne_zero, Nat.zero_ne_one, reduceIte, List.set_cons_zero, List.set_cons_succ] at F65
          refine hK.out _ _ ?_ (fun hHeld => ?_)
          · (try dsimp only); go_keep
          clear hK K
          try simp only [Act.put, List.setIfInBounds_toArray, List.set_cons_zero, List.set_cons_succ]
          refine AnyX.go (rs := [3]) (by kernel_rfl) (by simp) ?_
          refine AllX.consL (o := _) rfl (fun K hK => ?_) ?_
          · go_simp
            go_at_call 27
            first | (with_reducible refine Lv.call (CX.out _ _ _ RC.out) (L65.out) ?_) | (with_reducible refine Lv.call (CX.out _ _ _ (RC.out.on ((Below.refl _ _).alloc (Nat.le_refl _) _))) (L65.out) ?_) | (with_reducible refine Lv.call (CX.out _ _ _ (RC.out.on (((Below.refl _ _).alloc (Nat.le_refl _) _).alloc (by simp) _))) (L65.out) ?_)
            intro w66 L66'; have L66 := hide L66'; have F66 := L66'.at; clear L66'; simp only [AllAt, CellsAt, updL, List.map, Nat.zero_add, Nat.reduceAdd, and_true, World.size_alloc, World.heap_drewN, heap_drew, size_set, Nat.add_eq_left, Nat.left_eq_add, Nat.add_right_cancel_iff, ne_up2, ne_dn2, ne_up3, ne_dn3, ne_up4, ne_dn4, Nat.reduceEqDiff, Nat.one_ne_zero, Nat.succ_ne_zero, Nat.zero_ne_one, reduceIte, List.set_cons_zero, List.set_cons_succ] at F66
            go_wp2_with fail
            refine hK.out _ _ ?_ (fun hHeld => ?_)
            · (try dsimp only); go_keep
            clear hK K
            try simp only [Act.put, List.setIfInBounds_toArray, List.set_cons_zero, List.set_cons_succ]
            refine' AnyX.takeL (i := 4) (oi := _) (v := _) rfl (by kernel_rfl) (by kernel_rfl) (by kernel_rfl) (by kernel_rfl) (fun _ _ _ h => h) (Or.inl ⟨by rfl, ?hy24⟩) (by assumption) ?rest24
            case hy24 => (intro w' hSw; (try dsimp only at hSw); go_simp; (first | done | with_reducible rfl))
            try simp only [Act.put, List.setIfInBounds_toArray, List.set_cons_zero, List.set_cons_succ]
            refine' AnyX.takeL (i := 5) (oi := _) (v := _) rfl (by kernel_rfl) (by kernel_rfl) (by kernel_rfl) (by kernel_rfl) (fun _ _ _ h => h) (Or.inl ⟨by rfl, ?hy25⟩) (by assumption) ?rest25
            case hy25 => (intro w' hSw; (try dsimp only at hSw); go_simp; (first | done | with_reducible rfl))
            try simp only [Act.put, List.setIfInBounds_toArray, List.set_cons_zero, List.set_cons_succ]
            refine' AnyX.takeL (i := 6) (oi := _) (v := _) rfl (by kernel_rfl) (by kernel_rfl) (by kernel_rfl) (by kernel_rfl) (fun _ _ _ h => h) (Or.inl ⟨by rfl, ?hy26⟩) (by assumption) ?rest26
            case hy26 => (intro w' hSw; (try dsimp only at hSw); go_simp; (first | done | with_reducible rfl))
            try simp only [Act.put, List.setIfInBounds_toArray, List.set_cons_zero, List.set_cons_succ]
            refine' AnyX.takeL (i := 7) (oi := _) (v := _) rfl (by kernel_rfl) (by kernel_rfl) (by kernel_rfl) (by kernel_rfl) (fun _ _ _ h => h) (Or.inl ⟨by rfl, ?hy27⟩) (by assumption) ?rest27
            case hy27 => (intro w' hSw; (try dsimp only at hSw); go_simp; (first | done | with_reducible rfl))
            try simp only [Act.put, List.setIfInBounds_toArray, List.set_cons_zero, List.set_cons_succ]
            have q1 : ¬ w51.heap.size + 1 = w51.heap.size ∧ ¬ w51.heap.size = w51.heap.size + 1 := (by omega)
            have q2 : ¬ w51.heap.size + 1 = w.heap.size ∧ ¬ w.heap.size = w51.heap.size + 1 := (by omega)
            have q3 : ¬ w51.heap.size = w.heap.size ∧ ¬ w.heap.size = w51.heap.size := (by omega)
            have q4 : w.heap.size ≤ w51.heap.size + 1 ∧ w.heap.size ≤ w51.heap.size := (by omega)
            refine AnyX.go (rs := [10]) (by kernel_rfl) (by simp) (AllX.consL (o := _) rfl (fun K hK => ?_) AllX.nil)
            go_simp
            refine hK.out _ _ ?_ (fun hHeld => ?_)
            · (try dsimp only); go_keep
            clear hK K
            try simp only [Act.put, List.setIfInBounds_toArray, List.set_cons_zero, List.set_cons_succ]
            refine AnyX.go (rs := [11]) (by kernel_rfl) (by simp) (AllX.consL (o := _) rfl (fun K hK => ?_) AllX.nil)
            go_simp
            refine hK.out _ _ ?_ (fun hHeld => ?_)
            · (try dsimp only); go_keep
            clear hK K
            try simp only [Act.put, List.setIfInBounds_toArray, List.set_cons_zero, List.set_cons_succ]
            refine' AnyX.takeL (i := 12) (oi := _) (v := _) rfl (by kernel_rfl) (by kernel_rfl) (by kernel_rfl) (by kernel_rfl) (fun _ _ _ h => h) (Or.inl ⟨by rfl, ?hy28⟩) (by assumption) ?rest28
            case hy28 => (intro w' hSw; (try dsimp only at hSw); go_simp; (first | done | with_reducible rfl))
            try simp only [Act.put, List.setIfInBounds_toArray, List.set_cons_zero, List.set_cons_succ]
            refine AnyX.done (by kernel_rfl) ?_ _
            refine NoPanic.normal ?_
            go_wp2_with fail
            go_meet
            refine ⟨w51.heap.size + 1, w51.heap.size, rfl, rfl, rfl, ⟨q1, q2, q3⟩, hide ?_⟩
            skip
            have h := L66.out
            try simp only [World.size_alloc, World.heap_drewN, heap_drew, Nat.add_assoc, Nat.reduceAdd] at h
            have h0 := Lv.of (L' := [(w51.heap.size + 1, 40, [.int .i64 0, .int .i64 0, .int .i64 0, .int .i64 0, .int .i64 0, .int .i64 0]), (w51.heap.size, 23, [.int .i64 0, .int .i64 0, .int .i64 0]), (w.heap.size, 23, [.int .i64 a, .int .i64 b, .int .i64 c])]) h (by simp)
            have h1 := h0.stored6 (u1 := .int .i64 a) (u2 := .int .i64 b) (u3 := .int .i64 c) (u4 := .int .i64 (-s0)) (u5 := .int .i64 (-s1)) (u6 := .int .i64 (-s2)) q4.1 (by simp [q1.2, q2.2])
            have h2 := Lv.of (L' := [(w51.heap.size, 23, [.int .i64 0, .int .i64 0, .int .i64 0]), (w51.heap.size + 1, 40, [.int .i64 a, .int .i64 b, .int .i64 c, .int .i64 (-s0), .int .i64 (-s1), .int .i64 (-s2)]), (w.heap.size, 23, [.int .i64 a, .int .i64 b, .int .i64 c])]) h1 (by simp)
            clear h
            have h := h2.stored3 (u1 := .int .i64 (-m0)) (u2 := .int .i64 (-m1)) (u3 := .int .i64 (-m2)) q4.2 (by simp [q1.1, q3.2])
            try simp only [World.size_alloc, size_set, World.heap_drewN, heap_drew, Nat.add_assoc, Nat.reduceAdd] at h
            have h4 := Lv.of (L' := [(w51.heap.size + 1, 40, [.int .i64 a, .int .i64 b, .int .i64 c, .int .i64 (-s0), .int .i64 (-s1), .int .i64 (-s2)]), (w51.heap.size, 23, [.int .i64 (-m0), .int .i64 (-m1), .int .i64 (-m2)]), (w.heap.size, 23, [.int .i64 a, .int .i64 b, .int .i64 c])]) h (by simp)
            with_reducible exact h4
          exact AllX.nil
        exact AllX.nil
      exact AllX.nil
    refine AllX.consL (o := _) rfl (fun K hK => ?_) ?_
    · go_simp
      have L67 := hide (L1.out.drew.put [.int .i64 0, .int .i64 0, .int .i64 0, .int .i64 0, .int .i64 0, .int .i64 0] 40)
      have F67 := L67.out.at; simp only [AllAt, CellsAt, updL, List.map, Nat.zero_add, Nat.reduceAdd, and_true, World.size_alloc, World.heap_drewN, heap_drew, size_set, Nat.add_eq_left, Nat.left_eq_add, Nat.add_right_cancel_iff, ne_up2, ne_dn2, ne_up3, ne_dn3, ne_up4, ne_dn4, Nat.reduceEqDiff, Nat.one_ne_zero, Nat.succ_ne_zero, Nat.zero_ne_one, reduceIte, List.set_cons_zero, List.set_cons_succ] at F67
      refine hK.out _ _ ?_ (fun hHeld => ?_)
      · (try dsimp only); go_keep
      clear hK K
      try simp only [Act.put, List.setIfInBounds_toArray, List.set_cons_zero, List.set_cons_succ]
      refine AnyX.go (rs := [1, 9]) (by kernel_rfl) (by simp) ?_
      refine AllX.consL (o := _) rfl (fun K hK => ?_) ?_
      · go_simp
        go_at_call 18
        refine (copied_any A n cap z _ (by omega) HNIL.out (HD.out.on (L67.out).below)).mono ?_
        rintro e w68 ⟨gc, cc, rfl, hr, hb⟩
        have RC := hide hr
        have L68 := hide ((L67.out).kept hb)
        clear hr hb
        have F68 := L68.out.at; simp only [AllAt, CellsAt, updL, List.map, Nat.zero_add, Nat.reduceAdd, and_true, World.size_alloc, World.heap_drewN, heap_drew, size_set, Nat.add_eq_left, Nat.left_eq_add, Nat.add_right_cancel_iff, ne_up2, ne_dn2, ne_up3, ne_dn3, ne_up4, ne_dn4, Nat.reduceEqDiff, Nat.one_ne_zero, Nat.succ_ne_zero, Nat.zero_ne_one, reduceIte, List.set_cons_zero, List.set_cons_succ] at F68
        go_wp2_with fail
        refine hK.out _ _ ?_ (fun hHeld => ?_)
        · (try dsimp only); go_keep
        clear hK K
        try simp only [Act.put, List.setIfInBounds_toArray, List.set_cons_zero, List.set_cons_succ]
        refine AnyX.go (rs := [3, 9]) (by kernel_rfl) (by simp) ?_
        refine AllX.consL (o := _) rfl (fun K hK => ?_) ?_
        · go_simp
          go_at_call 27
          first | (with_reducible refine Lv.call (CX.out _ _ _ RC.out) (L68.out) ?_) | (with_reducible refine Lv.call (CX.out _ _ _ (RC.out.on ((Below.refl _ _).alloc (Nat.le_refl _) _))) (L68.out) ?_) | (with_reducible refine Lv.call (CX.out _ _ _ (RC.out.on (((Below.refl _ _).alloc (Nat.le_refl _) _).alloc (by simp) _))) (L68.out) ?_)
          intro w69 L69'; have L69 := hide L69'; have F69 := L69'.at; clear L69'; simp only [AllAt, CellsAt, updL, List.map, Nat.zero_add, Nat.reduceAdd, and_true, World.size_alloc, World.heap_drewN, heap_drew, size_set, Nat.add_eq_left, Nat.left_eq_add, Nat.add_right_cancel_iff, ne_up2, ne_dn2, ne_up3, ne_dn3, ne_up4, ne_dn4, Nat.reduceEqDiff, Nat.one_ne_zero, Nat.succ_ne_zero, Nat.zero_ne_one, reduceIte, List.set_cons_zero, List.set_cons_succ] at F69
          go_wp2_with fail
          refine hK.out _ _ ?_ (fun hHeld => ?_)
          · (try dsimp only); go_keep
          clear hK K
          try simp only [Act.put, List.setIfInBounds_toArray, List.set_cons_zero, List.set_cons_succ]
          refine' AnyX.takeL (i := 4) (oi := _) (v := _) rfl (by kernel_rfl) (by kernel_rfl) (by kernel_rfl) (by kernel_rfl) (fun _ _ _ h => h) (Or.inl ⟨by rfl, ?hy29⟩) (by assumption) ?rest29
          case hy29 => (intro w' hSw; (try dsimp only at hSw); go_simp; (first | done | with_reducible rfl))
          try simp only [Act.put, List.setIfInBounds_toArray, List.set_cons_zero, List.set_cons_succ]
          refine' AnyX.takeL (i := 5) (oi := _) (v := _) rfl (by kernel_rfl) (by kernel_rfl) (by kernel_rfl) (by kernel_rfl) (fun _ _ _ h => h) (Or.inl ⟨by rfl, ?hy30⟩) (by assumption) ?rest30
          case hy30 => (intro w' hSw; (try dsimp only at hSw); go_simp; (first | done | with_reducible rfl))
          try simp only [Act.put, List.setIfInBounds_toArray, List.set_cons_zero, List.set_cons_succ]
          refine' AnyX.takeL (i := 6) (oi := _) (v := _) rfl (by kernel_rfl) (by kernel_rfl) (by kernel_rfl) (by kernel_rfl) (fun _ _ _ h => h) (Or.inl ⟨by rfl, ?hy31⟩) (by assumption) ?rest31
          case hy31 => (intro w' hSw; (try dsimp only at hSw); go_simp; (first | done | with_reducible rfl))
          try simp only [Act.put, List.setIfInBounds_toArray, List.set_cons_zero, List.set_cons_succ]
          refine' AnyX.takeL (i := 7) (oi := _) (v := _) rfl (by kernel_rfl) (by kernel_rfl) (by kernel_rfl) (by kernel_rfl) (fun _ _ _ h => h) (Or.inl ⟨by rfl, ?hy32⟩) (by assumption) ?rest32
          case hy32 => (intro w' hSw; (try dsimp only at hSw); go_simp; (first | done | with_reducible rfl))
          try simp only [Act.put, List.setIfInBounds_toArray, List.set_cons_zero, List.set_cons_succ]
          refine AnyX.go (rs := [9]) (by kernel_rfl) (by simp) ?_
          refine AllX.consL (o := _) rfl (fun K hK => ?_) ?_
          · go_simp
            have L70 := hide (L69.out.put [.int .i64 0, .int .i64 0, .int .i64 0] 23)
            have F70 := L70.out.at; simp only [AllAt, CellsAt, updL, List.map, Nat.zero_add, Nat.reduceAdd, and_true, World.size_alloc, World.heap_drewN, heap_drew, size_set, Nat.add_eq_left, Nat.left_eq_add, Nat.add_right_cancel_iff, ne_up2, ne_dn2, ne_up3, ne_dn3, ne_up4, ne_dn4, Nat.reduceEqDiff, Nat.one_ne_zero, Nat.succ_ne_zero, Nat.zero_ne_one, reduceIte, List.set_cons_zero, List.set_cons_succ] at F70
            refine hK.out _ _ ?_ (fun hHeld => ?_)
            · (try dsimp only); go_keep
            clear hK K
            try simp only [Act.put, List.setIfInBounds_toArray, List.set_cons_zero, List.set_cons_succ]
            have q1 : ¬ w1.heap.size = w69.heap.size ∧ ¬ w69.heap.size = w1.heap.size := (by omega)
            have q2 : ¬ w1.heap.size = w.heap.size ∧ ¬ w.heap.size = w1.heap.size := (by omega)
            have q3 : ¬ w69.heap.size = w.heap.size ∧ ¬ w.heap.size = w69.heap.size := (by omega)
            have q4 : w.heap.size ≤ w1.heap.size ∧ w.heap.size ≤ w69.heap.size := (by omega)
            refine AnyX.go (rs := [10]) (by kernel_rfl) (by simp) (AllX.consL (o := _) rfl (fun K hK => ?_) AllX.nil)
            go_simp
            refine hK.out _ _ ?_ (fun hHeld => ?_)
            · (try dsimp only); go_keep
            clear hK K
            try simp only [Act.put, List.setIfInBounds_toArray, List.set_cons_zero, List.set_cons_succ]
            refine AnyX.go (rs := [11]) (by kernel_rfl) (by simp) (AllX.consL (o := _) rfl (fun K hK => ?_) AllX.nil)
            go_simp
            refine hK.out _ _ ?_ (fun hHeld => ?_)
            · (try dsimp only); go_keep
            clear hK K
            try simp only [Act.put, List.setIfInBounds_toArray, List.set_cons_zero, List.set_cons_succ]
            refine' AnyX.takeL (i := 12) (oi := _) (v := _) rfl (by kernel_rfl) (by kernel_rfl) (by kernel_rfl) (by kernel_rfl) (fun _ _ _ h => h) (Or.inl ⟨by rfl, ?hy33⟩) (by assumption) ?rest33
            case hy33 => (intro w' hSw; (try dsimp only at hSw); go_simp; (first | done | with_reducible rfl))
            try simp only [Act.put, List.setIfInBounds_toArray, List.set_cons_zero, List.set_cons_succ]
            refine AnyX.done (by kernel_rfl) ?_ _
            refine NoPanic.normal ?_
            go_wp2_with fail
            go_meet
            refine ⟨w1.heap.size, w69.heap.size, rfl, rfl, rfl, ⟨q1, q2, q3⟩, hide ?_⟩
            skip
            have h := L69.out
            try simp only [World.size_alloc, World.heap_drewN, heap_drew, Nat.add_assoc, Nat.reduceAdd] at h
            have h0 := Lv.of (L' := [(w1.heap.size, 40, [.int .i64 0, .int .i64 0, .int .i64 0, .int .i64 0, .int .i64 0, .int .i64 0]), (w.heap.size, 23, [.int .i64 a, .int .i64 b, .int .i64 c])]) h (by simp)
            have h1 := h0.stored6 (u1 := .int .i64 a) (u2 := .int .i64 b) (u3 := .int .i64 c) (u4 := .int .i64 (-s0)) (u5 := .int .i64 (-s1)) (u6 := .int .i64 (-s2)) q4.1 (by simp [q2.2])
            clear h
            have h := h1.put [.int .i64 (-m0), .int .i64 (-m1), .int .i64 (-m2)] 23
            try simp only [World.size_alloc, size_set, World.heap_drewN, heap_drew, Nat.add_assoc, Nat.reduceAdd] at h
            have h4 := Lv.of (L' := [(w1.heap.size, 40, [.int .i64 a, .int .i64 b, .int .i64 c, .int .i64 (-s0), .int .i64 (-s1), .int .i64 (-s2)]), (w69.heap.size, 23, [.int .i64 (-m0), .int .i64 (-m1), .int .i64 (-m2)]), (w.heap.size, 23, [.int .i64 a, .int .i64 b, .int .i64 c])]) h (by simp)
            with_reducible exact h4
          exact AllX.nil
        refine AllX.consL (o := _) rfl (fun K hK => ?_) ?_
        · go_simp
          have L71 := hide (L68.out.put [.int .i64 0, .int .i64 0, .int .i64 0] 23)
          have F71 := L71.out.at; simp only [AllAt, CellsAt, updL, List.map, Nat.zero_add, Nat.reduceAdd, and_true, World.size_alloc, World.heap_drewN, heap_drew, size_set, Nat.add_eq_left, Nat.left_eq_add, Nat.add_right_cancel_iff, ne_up2, ne_dn2, ne_up3, ne_dn3, ne_up4, ne_dn4, Nat.reduceEqDiff, Nat.one_ne_zero, Nat.succ_ne_zero, Nat.zero_ne_one, reduceIte, List.set_cons_zero, List.set_cons_succ] at F71
          refine hK.out _ _ ?_ (fun hHeld => ?_)
          · (try dsimp only); go_keep
          clear hK K
          try simp only [Act.put, List.setIfInBounds_toArray, List.set_cons_zero, List.set_cons_succ]
          refine AnyX.go (rs := [3]) (by kernel_rfl) (by simp) ?_
          refine AllX.consL (o := _) rfl (fun K hK => ?_) ?_
          · go_simp
            go_at_call 27
            first | (with_reducible refine Lv.call (CX.out _ _ _ RC.out) (L71.out) ?_) | (with_reducible refine Lv.call (CX.out _ _ _ (RC.out.on ((Below.refl _ _).alloc (Nat.le_refl _) _))) (L71.out) ?_) | (with_reducible refine Lv.call (CX.out _ _ _ (RC.out.on (((Below.refl _ _).alloc (Nat.le_refl _) _).alloc (by simp) _))) (L71.out) ?_)
            intro w72 L72'; have L72 := hide L72'; have F72 := L72'.at; clear L72'; simp only [AllAt, CellsAt, updL, List.map, Nat.zero_add, Nat.reduceAdd, and_true, World.size_alloc, World.heap_drewN, heap_drew, size_set, Nat.add_eq_left, Nat.left_eq_add, Nat.add_right_cancel_iff, ne_up2, ne_dn2, ne_up3, ne_dn3, ne_up4, ne_dn4, Nat.reduceEqDiff, Nat.one_ne_zero, Nat.succ_ne_zero, Nat.zero_ne_one, reduceIte, List.set_cons_zero, List.set_cons_succ] at F72
            go_wp2_with fail
            refine hK.out _ _ ?_ (fun hHeld => ?_)
            · (try dsimp only); go_keep
            clear hK K
            try simp only [Act.put, List.setIfInBounds_toArray, List.set_cons_zero, List.set_cons_succ]
            refine' AnyX.takeL (i := 4) (oi := _) (v := _) rfl (by kernel_rfl) (by kernel_rfl) (by kernel_rfl) (by kernel_rfl) (fun _ _ _ h => h) (Or.inl ⟨by rfl, ?hy34⟩) (by assumption) ?rest34
            case hy34 => (intro w' hSw; (try dsimp only at hSw); go_simp; (first | done | with_reducible rfl))
            try simp only [Act.put, List.setIfInBounds_toArray, List.set_cons_zero, List.set_cons_succ]
            refine' AnyX.takeL (i := 5) (oi := _) (v := _) rfl (by kernel_rfl) (by kernel_rfl) (by kernel_rfl) (by kernel_rfl) (fun _ _ _ h => h) (Or.inl ⟨by rfl, ?hy35⟩) (by assumption) ?rest35
            case hy35 => (intro w' hSw; (try dsimp only at hSw); go_simp; (first | done | with_reducible rfl))
            try simp only [Act.put, List.setIfInBounds_toArray, List.set_cons_zero, List.set_cons_succ]
            refine' AnyX.takeL (i := 6) (oi := _) (v := _) rfl (by kernel_rfl) (by kernel_rfl) (by kernel_rfl) (by kernel_rfl) (fun _ _ _ h => h) (Or.inl ⟨by rfl, ?hy36⟩) (by assumption) ?rest36
            case hy36 => (intro w' hSw; (try dsimp only at hSw); go_simp; (first | done | with_reducible rfl))
            try simp only [Act.put, List.setIfInBounds_toArray, List.set_cons_zero, List.set_cons_succ]
            refine' AnyX.takeL (i := 7) (oi := _) (v := _) rfl (by kernel_rfl) (by kernel_rfl) (by kernel_rfl) (by kernel_rfl) (fun _ _ _ h => h) (Or.inl ⟨by rfl, ?hy37⟩) (by assumption) ?rest37
            case hy37 => (intro w' hSw; (try dsimp only at hSw); go_simp; (first | done | with_reducible rfl))
            try simp only [Act.put, List.setIfInBounds_toArray, List.set_cons_zero, List.set_cons_succ]
            have q1 : ¬ w1.heap.size = w68.heap.size ∧ ¬ w68.heap.size = w1.heap.size := (by omega)
            have q2 : ¬ w1.heap.size = w.heap.size ∧ ¬ w.heap.size = w1.heap.size := (by omega)
            have q3 : ¬ w68.heap.size = w.heap.size ∧ ¬ w.heap.size = w68.heap.size := (by omega)
            have q4 : w.heap.size ≤ w1.heap.size ∧ w.heap.size ≤ w68.heap.size := (by omega)
            refine AnyX.go (rs := [10]) (by kernel_rfl) (by simp) (AllX.consL (o := _) rfl (fun K hK => ?_) AllX.nil)
            go_simp
            refine hK.out _ _ ?_ (fun hHeld => ?_)
            · (try dsimp only); go_keep
            clear hK K
            try simp only [Act.put, List.setIfInBounds_toArray, List.set_cons_zero, List.set_cons_succ]
            refine AnyX.go (rs := [11]) (by kernel_rfl) (by simp) (AllX.consL (o := _) rfl (fun K hK => ?_) AllX.nil)
            go_simp
            refine hK.out _ _ ?_ (fun hHeld => ?_)
            · (try dsimp only); go_keep
            clear hK K
            try simp only [Act.put, List.setIfInBounds_toArray, List.set_cons_zero, List.set_cons_succ]
            refine' AnyX.takeL (i := 12) (oi := _) (v := _) rfl (by kernel_rfl) (by kernel_rfl) (by kernel_rfl) (by kernel_rfl) (fun _ _ _ h => h) (Or.inl ⟨by rfl, ?hy38⟩) (by assumption) ?rest38
            case hy38 => (intro w' hSw; (try dsimp only at hSw); go_simp; (first | done | with_reducible rfl))
            try simp only [Act.put, List.setIfInBounds_toArray, List.set_cons_zero, List.set_cons_succ]
            refine AnyX.done (by kernel_rfl) ?_ _
            refine NoPanic.normal ?_
            go_wp2_with fail
            go_meet
            refine ⟨w1.heap.size, w68.heap.size, rfl, rfl, rfl, ⟨q1, q2, q3⟩, hide ?_⟩
            skip
            have h := L72.out
            try simp only [World.size_alloc, World.heap_drewN, heap_drew, Nat.add_assoc, Nat.reduceAdd] at h
            have h0 := Lv.of (L' := [(w1.heap.size, 40, [.int .i64 0, .int .i64 0, .int .i64 0, .int .i64 0, .int .i64 0, .int .i64 0]), (w68.heap.size, 23, [.int .i64 0, .int .i64 0, .int .i64 0]), (w.heap.size, 23, [.int .i64 a, .int .i64 b, .int .i64 c])]) h (by simp)
            have h1 := h0.stored6 (u1 := .int .i64 a) (u2 := .int .i64 b) (u3 := .int .i64 c) (u4 := .int .i64 (-s0)) (u5 := .int .i64 (-s1)) (u6 := .int .i64 (-s2)) q4.1 (by simp [q1.2, q2.2])
            have h2 := Lv.of (L' := [(w68.heap.size, 23, [.int .i64 0, .int .i64 0, .int .i64 0]), (w1.heap.size, 40, [.int .i64 a, .int .i64 b, .int .i64 c, .int .i64 (-s0), .int .i64 (-s1), .int .i64 (-s2)]), (w.heap.size, 23, [.int .i64 a, .int .i64 b, .int .i64 c])]) h1 (by simp)
            clear h
            have h := h2.stored3 (u1 := .int .i64 (-m0)) (u2 := .int .i64 (-m1)) (u3 := .int .i64 (-m2)) q4.2 (by simp [q1.1, q3.2])
            try simp only [World.size_alloc, size_set, World.heap_drewN, heap_drew, Nat.add_assoc, Nat.reduceAdd] at h
            have h4 := Lv.of (L' := [(w1.heap.size, 40, [.int .i64 a, .int .i64 b, .int .i64 c, .int .i64 (-s0), .int .i64 (-s1), .int .i64 (-s2)]), (w68.heap.size, 23, [.int .i64 (-m0), .int .i64 (-m1), .int .i64 (-m2)]), (w.heap.size, 23, [.int .i64 a, .int .i64 b, .int .i64 c])]) h (by simp)
            with_reducible exact h4
          exact AllX.nil
        exact AllX.nil
      refine AllX.consL (o := _) rfl (fun K hK => ?_) ?_
      · go_simp
        have L73 := hide (L67.out.put [.int .i64 0, .int .i64 0, .int .i64 0] 23)
        have F73 := L73.out.at; simp only [AllAt, CellsAt, updL, List.map, Nat.zero_add, Nat.reduceAdd, and_true, World.size_alloc, World.heap_drewN, heap_drew, size_set, Nat.add_eq_left, Nat.left_eq_add, Nat.add_right_cancel_iff, ne_up2, ne_dn2, ne_up3, ne_dn3, ne_up4, ne_dn4, Nat.reduceEqDiff, Nat.one_ne_zero, Nat.succ_ne_zero, Nat.zero_ne_one, reduceIte, List.set_cons_zero, List.set_cons_succ] at F73
        refine hK.out _ _ ?_ (fun hHeld => ?_)
        · (try dsimp only); go_keep
        clear hK K
        try simp only [Act.put, List.setIfInBounds_toArray, List.set_cons_zero, List.set_cons_succ]
        refine AnyX.go (rs := [1]) (by kernel_rfl) (by simp) ?_
        refine AllX.consL (o := _) rfl (fun K hK => ?_) ?_
        · go_simp
          go_at_call 18
          refine (copied_any A n cap z _ (by omega) HNIL.out (HD.out.on (L73.out).below)).mono ?_
          rintro e w74 ⟨gc, cc, rfl, hr, hb⟩
          have RC := hide hr
          have L74 := hide ((L73.out).kept hb)
          clear hr hb
          have F74 := L74.out.at; simp only [AllAt, CellsAt, updL, List.map, Nat.zero_add, Nat.reduceAdd, and_true, World.size_alloc, World.heap_drewN, heap_drew, size_set, Nat.add_eq_left, Nat.left_eq_add, Nat.add_right_cancel_iff, ne_up2, ne_dn2, ne_up3, ne_dn3, ne_up4, ne_dn4, Nat.reduceEqDiff, Nat.one_ne_zero, Nat.succ_ne_zero, Nat.zero_ne_one, reduceIte, List.set_cons_zero, List.set_cons_succ] at F74
          go_wp2_with fail
          refine hK.out _ _ ?_ (fun hHeld => ?_)
          · (try dsimp only); go_keep
          clear hK K
          try simp only [Act.put, List.setIfInBounds_toArray, List.set_cons_zero, List.set_cons_succ]
          refine AnyX.go (rs := [3]) (by kernel_rfl) (by simp) ?_
          refine AllX.consL (o := _) rfl (fun K hK => ?_) ?_
          · go_simp
            go_at_call 27
            first | (with_reducible refine Lv.call (CX.out _ _ _ RC.out) (L74.out) ?_) | (with_reducible refine Lv.call (CX.out _ _ _ (RC.out.on ((Below.refl _ _).alloc (Nat.le_refl _) _))) (L74.out) ?_) | (with_reducible refine Lv.call (CX.out _ _ _ (RC.out.on (((Below.refl _ _).alloc (Nat.le_refl _) _).alloc (by simp) _))) (L74.out) ?_)
            intro w75 L75'; have L75 := hide L75'; have F75 := L75'.at; clear L75'; simp only [AllAt, CellsAt, updL, List.map, Nat.zero_add, Nat.reduceAdd, and_true, World.size_alloc, World.heap_drewN, heap_drew, size_set, Nat.add_eq_left, Nat.left_eq_add, Nat.add_right_cancel_iff, ne_up2, ne_dn2, ne_up3, ne_dn3, ne_up4, ne_dn4, Nat.reduceEqDiff, Nat.one_ne_zero, Nat.succ_ne_zero, Nat.zero_ne_one, reduceIte, List.set_cons_zero, List.set_cons_succ] at F75
            go_wp2_with fail
            refine hK.out _ _ ?_ (fun hHeld => ?_)
            · (try dsimp only); go_keep
            clear hK K
            try simp only [Act.put, List.setIfInBounds_toArray, List.set_cons_zero, List.set_cons_succ]
            refine' AnyX.takeL (i := 4) (oi := _) (v := _) rfl (by kernel_rfl) (by kernel_rfl) (by kernel_rfl) (by kernel_rfl) (fun _ _ _ h => h) (Or.inl ⟨by rfl, ?hy39⟩) (by assumption) ?rest39
            case hy39 => (intro w' hSw; (try dsimp only at hSw); go_simp; (first | done | with_reducible rfl))
            try simp only [Act.put, List.setIfInBounds_toArray, List.set_cons_zero, List.set_cons_succ]
            refine' AnyX.takeL (i := 5) (oi := _) (v := _) rfl (by kernel_rfl) (by kernel_rfl) (by kernel_rfl) (by kernel_rfl) (fun _ _ _ h => h) (Or.inl ⟨by rfl, ?hy40⟩) (by assumption) ?rest40
            case hy40 => (intro w' hSw; (try dsimp only at hSw); go_simp; (first | done | with_reducible rfl))
            try simp only [Act.put, List.setIfInBounds_toArray, List.set_cons_zero, List.set_cons_succ]
            refine' AnyX.takeL (i := 6) (oi := _) (v := _) rfl (by kernel_rfl) (by kernel_rfl) (by kernel_rfl) (by kernel_rfl) (fun _ _ _ h => h) (Or.inl ⟨by rfl, ?hy41⟩) (by assumption) ?rest41
            case hy41 => (intro w' hSw; (try dsimp only at hSw); go_simp; (first | done | with_reducible rfl))
            try simp only [Act.put, List.setIfInBounds_toArray, List.set_cons_zero, List.set_cons_succ]
            refine' AnyX.takeL (i := 7) (oi := _) (v := _) rfl (by kernel_rfl) (by kernel_rfl) (by kernel_rfl) (by kernel_rfl) (fun _ _ _ h => h) (Or.inl ⟨by rfl, ?hy42⟩) (by assumption) ?rest42
            case hy42 => (intro w' hSw; (try dsimp only at hSw); go_simp; (first | done | with_reducible rfl))
            try simp only [Act.put, List.setIfInBounds_toArray, List.set_cons_zero, List.set_cons_succ]
            have q1 : ¬ w1.heap.size = w1.heap.size + 1 ∧ ¬ w1.heap.size + 1 = w1.heap.size := (by omega)
            have q2 : ¬ w1.heap.size = w.heap.size ∧ ¬ w.heap.size = w1.heap.size := (by omega)
            have q3 : ¬ w1.heap.size + 1 = w.heap.size ∧ ¬ w.heap.size = w1.heap.size + 1 := (by omega)
            have q4 : w.heap.size ≤ w1.heap.size ∧ w.heap.size ≤ w1.heap.size + 1 := (by omega)
            refine AnyX.go (rs := [10]) (by kernel_rfl) (by simp) (AllX.consL (o := _) rfl (fun K hK => ?_) AllX.nil)
            go_simp
            refine hK.out _ _ ?_ (fun hHeld => ?_)
            · (try dsimp only); go_keep
            clear hK K
            try simp only [Act.put, List.setIfInBounds_toArray, List.set_cons_zero, List.set_cons_succ]
            refine AnyX.go (rs := [11]) (by kernel_rfl) (by simp) (AllX.consL (o := _) rfl (fun K hK => ?_) AllX.nil)
            go_simp
            refine hK.out _ _ ?_ (fun hHeld => ?_)
            · (try dsimp only); go_keep
            clear hK K
            try simp only [Act.put, List.setIfInBounds_toArray, List.set_cons_zero, List.set_cons_succ]
            refine' AnyX.takeL (i := 12) (oi := _) (v := _) rfl (by kernel_rfl) (by kernel_rfl) (by kernel_rfl) (by kernel_rfl) (fun _ _ _ h => h) (Or.inl ⟨by rfl, ?hy43⟩) (by assumption) ?rest43
            case hy43 => (intro w' hSw; (try dsimp only at hSw); go_simp; (first | done | with_reducible rfl))
            try simp only [Act.put, List.setIfInBounds_toArray, List.set_cons_zero, List.set_cons_succ]
            refine AnyX.done (by kernel_rfl) ?_ _
            refine NoPanic.normal ?_
            go_wp2_with fail
            go_meet
            refine ⟨w1.heap.size, w1.heap.size + 1, rfl, rfl, rfl, ⟨q1, q2, q3⟩, hide ?_⟩
            skip
            have h := L75.out
            try simp only [World.size_alloc, World.heap_drewN, heap_drew, Nat.add_assoc, Nat.reduceAdd] at h
            have h0 := Lv.of (L' := [(w1.heap.size, 40, [.int .i64 0, .int .i64 0, .int .i64 0, .int .i64 0, .int .i64 0, .int .i64 0]), (w1.heap.size + 1, 23, [.int .i64 0, .int .i64 0, .int .i64 0]), (w.heap.size, 23, [.int .i64 a, .int .i64 b, .int .i64 c])]) h (by simp)
            have h1 := h0.stored6 (u1 := .int .i64 a) (u2 := .int .i64 b) (u3 := .int .i64 c) (u4 := .int .i64 (-s0)) (u5 := .int .i64 (-s1)) (u6 := .int .i64 (-s2)) q4.1 (by simp [q1.2, q2.2])
            have h2 := Lv.of (L' := [(w1.heap.size + 1, 23, [.int .i64 0, .int .i64 0, .int .i64 0]), (w1.heap.size, 40, [.int .i64 a, .int .i64 b, .int .i64 c, .int .i64 (-s0), .int .i64 (-s1), .int .i64 (-s2)]), (w.heap.size, 23, [.int .i64 a, .int .i64 b, .int .i64 c])]) h1 (by simp)
            clear h
            have h := h2.stored3 (u1 := .int .i64 (-m0)) (u2 := .int .i64 (-m1)) (u3 := .int .i64 (-m2)) q4.2 (by simp [q1.1, q3.2])
            try simp only [World.size_alloc, size_set, World.heap_drewN, heap_drew, Nat.add_assoc, Nat.reduceAdd] at h
            have h4 := Lv.of (L' := [(w1.heap.size, 40, [.int .i64 a, .int .i64 b, .int .i64 c, .int .i64 (-s0), .int .i64 (-s1), .int .i64 (-s2)]), (w1.heap.size + 1, 23, [.int .i64 (-m0), .int .i64 (-m1), .int .i64 (-m2)]), (w.heap.size, 23, [.int .i64 a, .int .i64 b, .int .i64 c])]) h (by simp)
            with_reducible exact h4
          exact AllX.nil
        exact AllX.nil
      exact AllX.nil
    refine AllX.consL (o := _) rfl (fun K hK => ?_) ?_
    · go_simp
      have L76 := hide (L1.out.drew.put [.int .i64 0, .int .i64 0, .int .i64 0] 23)
      have F76 := L76.out.at; simp only [AllAt, CellsAt, updL, List.map, Nat.zero_add, Nat.reduceAdd, and_true, World.size_alloc, World.heap_drewN, heap_drew, size_set, Nat.add_eq_left, Nat.left_eq_add, Nat.add_right_cancel_iff, ne_up2, ne_dn2, ne_up3, ne_dn3, ne_up4, ne_dn4, Nat.reduceEqDiff, Nat.one_ne_zero, Nat.succ_ne_zero, Nat.zero_ne_one, reduceIte, List.set_cons_zero, List.set_cons_succ] at F76
      refine hK.out _ _ ?_ (fun hHeld => ?_)
      · (try dsimp only); go_keep
      clear hK K
      try simp only [Act.put, List.setIfInBounds_toArray, List.set_cons_zero, List.set_cons_succ]
      refine AnyX.go (rs := [1, 8]) (by kernel_rfl) (by simp) ?_
      refine AllX.consL (o := _) rfl (fun K hK => ?_) ?_
      · go_simp
        go_at_call 18
        refine (copied_any A n cap z _ (by omega) HNIL.out (HD.out.on (L76.out).below)).mono ?_
        rintro e w77 ⟨gc, cc, rfl, hr, hb⟩
        have RC := hide hr
        have L77 := hide ((L76.out).kept hb)
        clear hr hb
        have F77 := L77.out.at; simp only [AllAt, CellsAt, updL, List.map, Nat.zero_add, Nat.reduceAdd, and_true, World.size_alloc, World.heap_drewN, heap_drew, size_set, Nat.add_eq_left, Nat.left_eq_add, Nat.add_right_cancel_iff, ne_up2, ne_dn2, ne_up3, ne_dn3, ne_up4, ne_dn4, Nat.reduceEqDiff, Nat.one_ne_zero, Nat.succ_ne_zero, Nat.zero_ne_one, reduceIte, List.set_cons_zero, List.set_cons_succ] at F77
        go_wp2_with fail
        refine hK.out _ _ ?_ (fun hHeld => ?_)
        · (try dsimp only); go_keep
        clear hK K
        try simp only [Act.put, List.setIfInBounds_toArray, List.set_cons_zero, List.set_cons_succ]
        refine AnyX.go (rs := [3, 8]) (by kernel_rfl) (by simp) ?_
        refine AllX.consL (o := _) rfl (fun K hK => ?_) ?_
        · go_simp
          go_at_call 27
          first | (with_reducible refine Lv.call (CX.out _ _ _ RC.out) (L77.out) ?_) | (with_reducible refine Lv.call (CX.out _ _ _ (RC.out.on ((Below.refl _ _).alloc (Nat.le_refl _) _))) (L77.out) ?_) | (with_reducible refine Lv.call (CX.out _ _ _ (RC.out.on (((Below.refl _ _).alloc (Nat.le_refl _) _).alloc (by simp) _))) (L77.out) ?_)
          intro w78 L78'; have L78 := hide L78'; have F78 := L78'.at; clear L78'; simp only [AllAt, CellsAt, updL, List.map, Nat.zero_add, Nat.reduceAdd, and_true, World.size_alloc, World.heap_drewN, heap_drew, size_set, Nat.add_eq_left, Nat.left_eq_add, Nat.add_right_cancel_iff, ne_up2, ne_dn2, ne_up3, ne_dn3, ne_up4, ne_dn4, Nat.reduceEqDiff, Nat.one_ne_zero, Nat.succ_ne_zero, Nat.zero_ne_one, reduceIte, List.set_cons_zero, List.set_cons_succ] at F78
          go_wp2_with fail
          refine hK.out _ _ ?_ (fun hHeld => ?_)
          · (try dsimp only); go_keep
          clear hK K
          try simp only [Act.put, List.setIfInBounds_toArray, List.set_cons_zero, List.set_cons_succ]
          refine' AnyX.takeL (i := 4) (oi := _) (v := _) rfl (by kernel_rfl) (by kernel_rfl) (by kernel_rfl) (by kernel_rfl) (fun _ _ _ h => h) (Or.inl ⟨by rfl, ?hy44⟩) (by assumption) ?rest44
          case hy44 => (intro w' hSw; (try dsimp only at hSw); go_simp; (first | done | with_reducible rfl))
          try simp only [Act.put, List.setIfInBounds_toArray, List.set_cons_zero, List.set_cons_succ]
          refine' AnyX.takeL (i := 5) (oi := _) (v := _) rfl (by kernel_rfl) (by kernel_rfl) (by kernel_rfl) (by kernel_rfl) (fun _ _ _ h => h) (Or.inl ⟨by rfl, ?hy45⟩) (by assumption) ?rest45
          case hy45 => (intro w' hSw; (try dsimp only at hSw); go_simp; (first | done | with_reducible rfl))
          try simp only [Act.put, List.setIfInBounds_toArray, List.set_cons_zero, List.set_cons_succ]
          refine' AnyX.takeL (i := 6) (oi := _) (v := _) rfl (by kernel_rfl) (by kernel_rfl) (by kernel_rfl) (by kernel_rfl) (fun _ _ _ h => h) (Or.inl ⟨by rfl, ?hy46⟩) (by assumption) ?rest46
          case hy46 => (intro w' hSw; (try dsimp only at hSw); go_simp; (first | done | with_reducible rfl))
          try simp only [Act.put, List.setIfInBounds_toArray, List.set_cons_zero, List.set_cons_succ]
          refine' AnyX.takeL (i := 7) (oi := _) (v := _) rfl (by kernel_rfl) (by kernel_rfl) (by kernel_rfl) (by kernel_rfl) (fun _ _ _ h => h) (Or.inl ⟨by rfl, ?hy47⟩) (by assumption) ?rest47
          case hy47 => (intro w' hSw; (try dsimp only at hSw); go_simp; (first | done | with_reducible rfl))
          try simp only [Act.put, List.setIfInBounds_toArray, List.set_cons_zero, List.set_cons_succ]
          refine AnyX.go (rs := [8]) (by kernel_rfl) (by simp) ?_
          refine AllX.consL (o := _) rfl (fun K hK => ?_) ?_
          · go_simp
            have L79 := hide (L78.out.put [.int .i64 0, .int .i64 0, .int .i64 0, .int .i64 0, .int .i64 0, .int .i64 0] 40)
            have F79 := L79.out.at; simp only [AllAt, CellsAt, updL, List.map, Nat.zero_add, Nat.reduceAdd, and_true, World.size_alloc, World.heap_drewN, heap_drew, size_set, Nat.add_eq_left, Nat.left_eq_add, Nat.add_right_cancel_iff, ne_up2, ne_dn2, ne_up3, ne_dn3, ne_up4, ne_dn4, Nat.reduceEqDiff, Nat.one_ne_zero, Nat.succ_ne_zero, Nat.zero_ne_one, reduceIte, List.set_cons_zero, List.set_cons_succ] at F79
            refine hK.out _ _ ?_ (fun hHeld => ?_)
            · (try dsimp only); go_keep
            clear hK K
            try simp only [Act.put, List.setIfInBounds_toArray, List.set_cons_zero, List.set_cons_succ]
            have q1 : ¬ w78.heap.size = w1.heap.size ∧ ¬ w1.heap.size = w78.heap.size := (by omega)
            have q2 : ¬ w78.heap.size = w.heap.size ∧ ¬ w.heap.size = w78.heap.size := (by omega)
            have q3 : ¬ w1.heap.size = w.heap.size ∧ ¬ w.heap.size = w1.heap.size := (by omega)
            have q4 : w.heap.size ≤ w78.heap.size ∧ w.heap.size ≤ w1.heap.size := (by omega)
            refine AnyX.go (rs := [10]) (by kernel_rfl) (by simp) (AllX.consL (o := _) rfl (fun K hK => ?_) AllX.nil)
            go_simp
            refine hK.out _ _ ?_ (fun hHeld => ?_)
            · (try dsimp only); go_keep
            clear hK K
            try simp only [Act.put, List.setIfInBounds_toArray, List.set_cons_zero, List.set_cons_succ]
            refine AnyX.go (rs := [11]) (by kernel_rfl) (by simp) (AllX.consL (o := _) rfl (fun K hK => ?_) AllX.nil)
            go_simp
            refine hK.out _ _ ?_ (fun hHeld => ?_)
            · (try dsimp only); go_keep
            clear hK K
            try simp only [Act.put, List.setIfInBounds_toArray, List.set_cons_zero, List.set_cons_succ]
            refine' AnyX.takeL (i := 12) (oi := _) (v := _) rfl (by kernel_rfl) (by kernel_rfl) (by kernel_rfl) (by kernel_rfl) (fun _ _ _ h => h) (Or.inl ⟨by rfl, ?hy48⟩) (by assumption) ?rest48
            case hy48 => (intro w' hSw; (try dsimp only at hSw); go_simp; (first | done | with_reducible rfl))
            try simp only [Act.put, List.setIfInBounds_toArray, List.set_cons_zero, List.set_cons_succ]
            refine AnyX.done (by kernel_rfl) ?_ _
            refine NoPanic.normal ?_
            go_wp2_with fail
            go_meet
            refine ⟨w78.heap.size, w1.heap.size, rfl, rfl, rfl, ⟨q1, q2, q3⟩, hide ?_⟩
            skip
            have h := L78.out
            try simp only [World.size_alloc, World.heap_drewN, heap_drew, Nat.add_assoc, Nat.reduceAdd] at h
            have h0 := Lv.of (L' := [(w1.heap.size, 23, [.int .i64 0, .int .i64 0, .int .i64 0]), (w.heap.size, 23, [.int .i64 a, .int .i64 b, .int .i64 c])]) h (by simp)
            have h1 := h0.stored3 (u1 := .int .i64 (-m0)) (u2 := .int .i64 (-m1)) (u3 := .int .i64 (-m2)) q4.2 (by simp [q3.2])
            clear h
            have h := h1.put [.int .i64 a, .int .i64 b, .int .i64 c, .int .i64 (-s0), .int .i64 (-s1), .int .i64 (-s2)] 40
            try simp only [World.size_alloc, size_set, World.heap_drewN, heap_drew, Nat.add_assoc, Nat.reduceAdd] at h
            have h4 := Lv.of (L' := [(w78.heap.size, 40, [.int .i64 a, .int .i64 b, .int .i64 c, .int .i64 (-s0), .int .i64 (-s1), .int .i64 (-s2)]), (w1.heap.size, 23, [.int .i64 (-m0), .int .i64 (-m1), .int .i64 (-m2)]), (w.heap.size, 23, [.int .i64 a, .int .i64 b, .int .i64 c])]) h (by simp)
            with_reducible exact h4
          exact AllX.nil
        refine AllX.consL (o := _) rfl (fun K hK => ?_) ?_
        · go_simp
          have L80 := hide (L77.out.put [.int .i64 0, .int .i64 0, .int .i64 0, .int .i64 0, .int .i64 0, .int .i64 0] 40)
          have F80 := L80.out.at; simp only [AllAt, CellsAt, updL, List.map, Nat.zero_add, Nat.reduceAdd, and_true, World.size_alloc, World.heap_drewN, heap_drew, size_set, Nat.add_eq_left, Nat.left_eq_add, Nat.add_right_cancel_iff, ne_up2, ne_dn2, ne_up3, ne_dn3, ne_up4, ne_dn4, Nat.reduceEqDiff, Nat.one_ne_zero, Nat.succ_ne_zero, Nat.zero_ne_one, reduceIte, List.set_cons_zero, List.set_cons_succ] at F80
          refine hK.out _ _ ?_ (fun hHeld => ?_)
          · (try dsimp only); go_keep
          clear hK K
          try simp only [Act.put, List.setIfInBounds_toArray, List.set_cons_zero, List.set_cons_succ]
          refine AnyX.go (rs := [3]) (by kernel_rfl) (by simp) ?_
          refine AllX.consL (o := _) rfl (fun K hK => ?_) ?_
          · go_simp
            go_at_call 27
            first | (with_reducible refine Lv.call (CX.out _ _ _ RC.out) (L80.out) ?_) | (with_reducible refine Lv.call (CX.out _ _ _ (RC.out.on ((Below.refl _ _).alloc (Nat.le_refl _) _))) (L80.out) ?_) | (with_reducible refine Lv.call (CX.out _ _ _ (RC.out.on (((Below.refl _ _).alloc (Nat.le_refl _) _).alloc (by simp) _))) (L80.out) ?_)
            intro w81 L81'; have L81 := hide L81'; have F81 := L81'.at; clear L81'; simp only [AllAt, CellsAt, updL, List.map, Nat.zero_add, Nat.reduceAdd, and_true, World.size_alloc, World.heap_drewN, heap_drew, size_set, Nat.add_eq_left, Nat.left_eq_add, Nat.add_right_cancel_iff, ne_up2, ne_dn2, ne_up3, ne_dn3, ne_up4, ne_dn4, Nat.reduceEqDiff, Nat.one_ne_zero, Nat.succ_ne_zero, Nat.zero_ne_one, reduceIte, List.set_cons_zero, List.set_cons_succ] at F81
            go_wp2_with fail
            refine hK.out _ _ ?_ (fun hHeld => ?_)
            · (try dsimp only); go_keep
            clear hK K
            try simp only [Act.put, List.setIfInBounds_toArray, List.set_cons_zero, List.set_cons_succ]
            refine' AnyX.takeL (i := 4) (oi := _) (v := _) rfl (by kernel_rfl) (by kernel_rfl) (by kernel_rfl) (by kernel_rfl) (fun _ _ _ h => h) (Or.inl ⟨by rfl, ?hy49⟩) (by assumption) ?rest49
            case hy49 => (intro w' hSw; (try dsimp only at hSw); go_simp; (first | done | with_reducible rfl))
            try simp only [Act.put, List.setIfInBounds_toArray, List.set_cons_zero, List.set_cons_succ]
            refine' AnyX.takeL (i := 5) (oi := _) (v := _) rfl (by kernel_rfl) (by kernel_rfl) (by kernel_rfl) (by kernel_rfl) (fun _ _ _ h => h) (Or.inl ⟨by rfl, ?hy50⟩) (by assumption) ?rest50
            case hy50 => (intro w' hSw; (try dsimp only at hSw); go_simp; (first | done | with_reducible rfl))
            try simp only [Act.put, List.setIfInBounds_toArray, List.set_cons_zero, List.set_cons_succ]
            refine' AnyX.takeL (i := 6) (oi := _) (v := _) rfl (by kernel_rfl) (by kernel_rfl) (by kernel_rfl) (by kernel_rfl) (fun _ _ _ h => h) (Or.inl ⟨by rfl, ?hy51⟩) (by assumption) ?rest51
            case hy51 => (intro w' hSw; (try dsimp only at hSw); go_simp; (first | done | with_reducible rfl))
            try simp only [Act.put, List.setIfInBounds_toArray, List.set_cons_zero, List.set_cons_succ]
            refine' AnyX.takeL (i := 7) (oi := _) (v := _) rfl (by kernel_rfl) (by kernel_rfl) (by kernel_rfl) (by kernel_rfl) (fun _ _ _ h => h) (Or.inl ⟨by rfl, ?hy52⟩) (by assumption) ?rest52
            case hy52 => (intro w' hSw; (try dsimp only at hSw); go_simp; (first | done | with_reducible rfl))
            try simp only [Act.put, List.setIfInBounds_toArray, List.set_cons_zero, List.set_cons_succ]
            have q1 : ¬ w77.heap.size = w1.heap.size ∧ ¬ w1.heap.size = w77.heap.size := (by omega)
            have q2 : ¬ w77.heap.size = w.heap.size ∧ ¬ w.heap.size = w77.heap.size := (by omega)
            have q3 : ¬ w1.heap.size = w.heap.size ∧ ¬ w.heap.size = w1.heap.size := (by omega)
            have q4 : w.heap.size ≤ w77.heap.size ∧ w.heap.size ≤ w1.heap.size := (by omega)
            refine AnyX.go (rs := [10]) (by kernel_rfl) (by simp) (AllX.consL (o := _) rfl (fun K hK => ?_) AllX.nil)
            go_simp
            refine hK.out _ _ ?_ (fun hHeld => ?_)
            · (try dsimp only); go_keep
            clear hK K
            try simp only [Act.put, List.setIfInBounds_toArray, List.set_cons_zero, List.set_cons_succ]
            refine AnyX.go (rs := [11]) (by kernel_rfl) (by simp) (AllX.consL (o := _) rfl (fun K hK => ?_) AllX.nil)
            go_simp
            refine hK.out _ _ ?_ (fun hHeld => ?_)
            · (try dsimp only); go_keep
            clear hK K
            try simp only [Act.put, List.setIfInBounds_toArray, List.set_cons_zero, List.set_cons_succ]
            refine' AnyX.takeL (i := 12) (oi := _) (v := _) rfl (by kernel_rfl) (by kernel_rfl) (by kernel_rfl) (by kernel_rfl) (fun _ _ _ h => h) (Or.inl ⟨by rfl, ?hy53⟩) (by assumption) ?rest53
            case hy53 => (intro w' hSw; (try dsimp only at hSw); go_simp; (first | done | with_reducible rfl))
            try simp only [Act.put, List.setIfInBounds_toArray, List.set_cons_zero, List.set_cons_succ]
            refine AnyX.done (by kernel_rfl) ?_ _
            refine NoPanic.normal ?_
            go_wp2_with fail
            go_meet
            refine ⟨w77.heap.size, w1.heap.size, rfl, rfl, rfl, ⟨q1, q2, q3⟩, hide ?_⟩
            skip
            have h := L81.out
            try simp only [World.size_alloc, World.heap_drewN, heap_drew, Nat.add_assoc, Nat.reduceAdd] at h
            have h0 := Lv.of (L' := [(w77.heap.size, 40, [.int .i64 0, .int .i64 0, .int .i64 0, .int .i64 0, .int .i64 0, .int .i64 0]), (w1.heap.size, 23, [.int .i64 0, .int .i64 0, .int .i64 0]), (w.heap.size, 23, [.int .i64 a, .int .i64 b, .int .i64 c])]) h (by simp)
            have h1 := h0.stored6 (u1 := .int .i64 a) (u2 := .int .i64 b) (u3 := .int .i64 c) (u4 := .int .i64 (-s0)) (u5 := .int .i64 (-s1)) (u6 := .int .i64 (-s2)) q4.1 (by simp [q1.2, q2.2])
            have h2 := Lv.of (L' := [(w1.heap.size, 23, [.int .i64 0, .int .i64 0, .int .i64 0]), (w77.heap.size, 40, [.int .i64 a, .int .i64 b, .int .i64 c, .int .i64 (-s0), .int .i64 (-s1), .int .i64 (-s2)]), (w.heap.size, 23, [.int .i64 a, .int .i64 b, .int .i64 c])]) h1 (by simp)
            clear h
            have h := h2.stored3 (u1 := .int .i64 (-m0)) (u2 := .int .i64 (-m1)) (u3 := .int .i64 (-m2)) q4.2 (by simp [q1.1, q3.2])
            try simp only [World.size_alloc, size_set, World.heap_drewN, heap_drew, Nat.add_assoc, Nat.reduceAdd] at h
            have h4 := Lv.of (L' := [(w77.heap.size, 40, [.int .i64 a, .int .i64 b, .int .i64 c, .int .i64 (-s0), .int .i64 (-s1), .int .i64 (-s2)]), (w1.heap.size, 23, [.int .i64 (-m0), .int .i64 (-m1), .int .i64 (-m2)]), (w.heap.size, 23, [.int .i64 a, .int .i64 b, .int .i64 c])]) h (by simp)
            with_reducible exact h4
          exact AllX.nil
        exact AllX.nil
      refine AllX.consL (o := _) rfl (fun K hK => ?_) ?_
      · go_simp
        have L82 := hide (L76.out.put [.int .i64 0, .int .i64 0, .int .i64 0, .int .i64 0, .int .i64 0, .int .i64 0] 40)
        have F82 := L82.out.at; simp only [AllAt, CellsAt, updL, List.map, Nat.zero_add, Nat.reduceAdd, and_true, World.size_alloc, World.heap_drewN, heap_drew, size_set, Nat.add_eq_left, Nat.left_eq_add, Nat.add_right_cancel_iff, ne_up2, ne_dn2, ne_up3, ne_dn3, ne_up4, ne_dn4, Nat.reduceEqDiff, Nat.one_ne_zero, Nat.succ_ne_zero, Nat.zero_ne_one, reduceIte, List.set_cons_zero, List.set_cons_succ] at F82
        refine hK.out _ _ ?_ (fun hHeld => ?_)
        · (try dsimp only); go_keep
        clear hK K
        try simp only [Act.put, List.setIfInBounds_toArray, List.set_cons_zero, List.set_cons_succ]
        refine AnyX.go (rs := [1]) (by kernel_rfl) (by simp) ?_
        refine AllX.consL (o := _) rfl (fun K hK => ?_) ?_
        · go_simp
          go_at_call 18
          refine (copied_any A n cap z _ (by omega) HNIL.out (HD.out.on (L82.out).below)).mono ?_
          rintro e w83 ⟨gc, cc, rfl, hr, hb⟩
          have RC := hide hr
          have L83 := hide ((L82.out).kept hb)
          clear hr hb
          have F83 := L83.out.at; simp only [AllAt, CellsAt, updL, List.map, Nat.zero_add, Nat.reduceAdd, and_true, World.size_alloc, World.heap_drewN, heap_drew, size_set, Nat.add_eq_left, Nat.left_eq_add, Nat.add_right_cancel_iff, ne_up2, ne_dn2, ne_up3, ne_dn3, ne_up4, ne_dn4, Nat.reduceEqDiff, Nat.one_ne_zero, Nat.succ_ne_zero, Nat.zero_ne_one, reduceIte, List.set_cons_zero, List.set_cons_succ] at F83
          go_wp2_with fail
          refine hK.out _ _ ?_ (fun hHeld => ?_)
          · (try dsimp only); go_keep
          clear hK K
          try simp only [Act.put, List.setIfInBounds_toArray, List.set_cons_zero, List.set_cons_succ]
          refine AnyX.go (rs := [3]) (by kernel_rfl) (by simp) ?_
          refine AllX.consL (o := _) rfl (fun K hK => ?_) ?_
          · go_simp
            go_at_call 27
            first | (with_reducible refine Lv.call (CX.out _ _ _ RC.out) (L83.out) ?_) | (with_reducible refine Lv.call (CX.out _ _ _ (RC.out.on ((Below.refl _ _).alloc (Nat.le_refl _) _))) (L83.out) ?_) | (with_reducible refine Lv.call (CX.out _ _ _ (RC.out.on (((Below.refl _ _).alloc (Nat.le_refl _) _).alloc (by simp) _))) (L83.out) ?_)
            intro w84 L84'; have L84 := hide L84'; have F84 := L84'.at; clear L84'; simp only [AllAt, CellsAt, updL, List.map, Nat.zero_add, Nat.reduceAdd, and_true, World.size_alloc, World.heap_drewN, heap_drew, size_set, Nat.add_eq_left, Nat.left_eq_add, Nat.add_right_cancel_iff, ne_up2, ne_dn2, ne_up3, ne_dn3, ne_up4, ne_dn4, Nat.reduceEqDiff, Nat.one_ne_zero, Nat.succ_ne_zero, Nat.zero_ne_one, reduceIte, List.set_cons_zero, List.set_cons_succ] at F84
            go_wp2_with fail
            refine hK.out _ _ ?_ (fun hHeld => ?_)
            · (try dsimp only); go_keep
            clear hK K
            try simp only [Act.put, List.setIfInBounds_toArray, List.set_cons_zero, List.set_cons_succ]
            refine' AnyX.takeL (i := 4) (oi := _) (v := _) rfl (by kernel_rfl) (by kernel_rfl) (by kernel_rfl) (by kernel_rfl) (fun _ _ _ h => h) (Or.inl ⟨by rfl, ?hy54⟩) (by assumption) ?rest54
            case hy54 => (intro w' hSw; (try dsimp only at hSw); go_simp; (first | done | with_reducible rfl))
            try simp only [Act.put, List.setIfInBounds_toArray, List.set_cons_zero, List.set_cons_succ]
            refine' AnyX.takeL (i := 5) (oi := _) (v := _) rfl (by kernel_rfl) (by kernel_rfl) (by kernel_rfl) (by kernel_rfl) (fun _ _ _ h => h) (Or.inl ⟨by rfl, ?hy55⟩) (by assumption) ?rest55
            case hy55 => (intro w' hSw; (try dsimp only at hSw); go_simp; (first | done | with_reducible rfl))
            try simp only [Act.put, List.setIfInBounds_toArray, List.set_cons_zero, List.set_cons_succ]
            refine' AnyX.takeL (i := 6) (oi := _) (v := _) rfl (by kernel_rfl) (by kernel_rfl) (by kernel_rfl) (by kernel_rfl) (fun _ _ _ h => h) (Or.inl ⟨by rfl, ?hy56⟩) (by assumption) ?rest56
            case hy56 => (intro w' hSw; (try dsimp only at hSw); go_simp; (first | done | with_reducible rfl))
            try simp only [Act.put, List.setIfInBounds_toArray, List.set_cons_zero, List.set_cons_succ]
            refine' AnyX.takeL (i := 7) (oi := _) (v := _) rfl (by kernel_rfl) (by kernel_rfl) (by kernel_rfl) (by kernel_rfl) (fun _ _ _ h => h) (Or.inl ⟨by rfl, ?hy57⟩) (by assumption) ?rest57
            case hy57 => (intro w' hSw; (try dsimp only at hSw); go_simp; (first | done | with_reducible rfl))
            try simp only [Act.put, List.setIfInBounds_toArray, List.set_cons_zero, List.set_cons_succ]
            have q1 : ¬ w1.heap.size + 1 = w1.heap.size ∧ ¬ w1.heap.size = w1.heap.size + 1 := (by omega)
            have q2 : ¬ w1.heap.size + 1 = w.heap.size ∧ ¬ w.heap.size = w1.heap.size + 1 := (by omega)
            have q3 : ¬ w1.heap.size = w.heap.size ∧ ¬ w.heap.size = w1.heap.size := (by omega)
            have q4 : w.heap.size ≤ w1.heap.size + 1 ∧ w.heap.size ≤ w1.heap.size := (by omega)
            refine AnyX.go (rs := [10]) (by kernel_rfl) (by simp) (AllX.consL (o := _) rfl (fun K hK => ?_) AllX.nil)
            go_simp
            refine hK.out _ _ ?_ (fun hHeld => ?_)
            · (try dsimp only); go_keep
            clear hK K
            try simp only [Act.put, List.setIfInBounds_toArray, List.set_cons_zero, List.set_cons_succ]
            refine AnyX.go (rs := [11]) (by kernel_rfl) (by simp) (AllX.consL (o := _) rfl (fun K hK => ?_) AllX.nil)
            go_simp
            refine hK.out _ _ ?_ (fun hHeld => ?_)
            · (try dsimp only); go_keep
            clear hK K
            try simp only [Act.put, List.setIfInBounds_toArray, List.set_cons_zero, List.set_cons_succ]
            refine' AnyX.takeL (i := 12) (oi := _) (v := _) rfl (by kernel_rfl) (by kernel_rfl) (by kernel_rfl) (by kernel_rfl) (fun _ _ _ h => h) (Or.inl ⟨by rfl, ?hy58⟩) (by assumption) ?rest58
            case hy58 => (intro w' hSw; (try dsimp only at hSw); go_simp; (first | done | with_reducible rfl))
            try simp only [Act.put, List.setIfInBounds_toArray, List.set_cons_zero, List.set_cons_succ]
            refine AnyX.done (by kernel_rfl) ?_ _
            refine NoPanic.normal ?_
            go_wp2_with fail
            go_meet
            refine ⟨w1.heap.size + 1, w1.heap.size, rfl, rfl, rfl, ⟨q1, q2, q3⟩, hide ?_⟩
            skip
            have h := L84.out
            try simp only [World.size_alloc, World.heap_drewN, heap_drew, Nat.add_assoc, Nat.reduceAdd] at h
            have h0 := Lv.of (L' := [(w1.heap.size + 1, 40, [.int .i64 0, .int .i64 0, .int .i64 0, .int .i64 0, .int .i64 0, .int .i64 0]), (w1.heap.size, 23, [.int .i64 0, .int .i64 0, .int .i64 0]), (w.heap.size, 23, [.int .i64 a, .int .i64 b, .int .i64 c])]) h (by simp)
            have h1 := h0.stored6 (u1 := .int .i64 a) (u2 := .int .i64 b) (u3 := .int .i64 c) (u4 := .int .i64 (-s0)) (u5 := .int .i64 (-s1)) (u6 := .int .i64 (-s2)) q4.1 (by simp [q1.2, q2.2])
            have h2 := Lv.of (L' := [(w1.heap.size, 23, [.int .i64 0, .int .i64 0, .int .i64 0]), (w1.heap.size + 1, 40, [.int .i64 a, .int .i64 b, .int .i64 c, .int .i64 (-s0), .int .i64 (-s1), .int .i64 (-s2)]), (w.heap.size, 23, [.int .i64 a, .int .i64 b, .int .i64 c])]) h1 (by simp)
            clear h
            have h := h2.stored3 (u1 := .int .i64 (-m0)) (u2 := .int .i64 (-m1)) (u3 := .int .i64 (-m2)) q4.2 (by simp [q1.1, q3.2])
            try simp only [World.size_alloc, size_set, World.heap_drewN, heap_drew, Nat.add_assoc, Nat.reduceAdd] at h
            have h4 := Lv.of (L' := [(w1.heap.size + 1, 40, [.int .i64 a, .int .i64 b, .int .i64 c, .int .i64 (-s0), .int .i64 (-s1), .int .i64 (-s2)]), (w1.heap.size, 23, [.int .i64 (-m0), .int .i64 (-m1), .int .i64 (-m2)]), (w.heap.size, 23, [.int .i64 a, .int .i64 b, .int .i64 c])]) h (by simp)
            with_reducible exact h4
          exact AllX.nil
        exact AllX.nil
      exact AllX.nil
    exact AllX.nil
  case' rest =>
    obtain ⟨g5, g6, rfl, rfl, rfl, ng, L6⟩ := hcut
    clear F1 L1
    have F6 := L6.out.at; simp only [AllAt, CellsAt, updL, List.map, Nat.zero_add, Nat.reduceAdd, and_true, World.size_alloc, World.heap_drewN, heap_drew, size_set, Nat.add_eq_left, Nat.left_eq_add, Nat.add_right_cancel_iff, ne_up2, ne_dn2, ne_up3, ne_dn3, ne_up4, ne_dn4, Nat.reduceEqDiff, Nat.one_ne_zero, Nat.succ_ne_zero, Nat.zero_ne_one, reduceIte, List.set_cons_zero, List.set_cons_succ] at F6
    go_wp2_with fail
    refine Lv.call (refForces_any A n cap z _ (HD.out.on L6.out.below)) L6.out ?_
    intro w7 L7'
    have L7 := hide L7'
    have F7 := L7'.at
    clear L7' F6
    simp only [AllAt, CellsAt, updL, List.map, Nat.zero_add, Nat.reduceAdd, and_true, World.size_alloc, World.heap_drewN, heap_drew, size_set, Nat.add_eq_left, Nat.left_eq_add, Nat.add_right_cancel_iff, ne_up2, ne_dn2, ne_up3, ne_dn3, ne_up4, ne_dn4, Nat.reduceEqDiff, Nat.one_ne_zero, Nat.succ_ne_zero, Nat.zero_ne_one, reduceIte, List.set_cons_zero, List.set_cons_succ] at F7
    rw [HE.out]
  go_wp2_with fail
  refine Lv.call (refPlace_any a b c _) L7.out ?_
  intro w8 L8'
  have L8 := hide L8'
  have F8 := L8'.at
  clear L8' F7
  simp only [AllAt, CellsAt, updL, List.map, Nat.zero_add, Nat.reduceAdd, and_true, World.size_alloc, World.heap_drewN, heap_drew, size_set, Nat.add_eq_left, Nat.left_eq_add, Nat.add_right_cancel_iff, ne_up2, ne_dn2, ne_up3, ne_dn3, ne_up4, ne_dn4, Nat.reduceEqDiff, Nat.one_ne_zero, Nat.succ_ne_zero, Nat.zero_ne_one, reduceIte, List.set_cons_zero, List.set_cons_succ] at F8
  rw [HV.out]
  have L9 := hide (L8.out.put [.int .i64 0, .int .i64 0, .int .i64 0] 23)
  have n8 : (¬ w8.heap.size = w.heap.size ∧ ¬ w.heap.size = w8.heap.size) ∧ (¬ w8.heap.size = g5 ∧ ¬ g5 = w8.heap.size) ∧ (¬ w8.heap.size = g6 ∧ ¬ g6 = w8.heap.size) := by omega
  go_upto_region 12 with fail
  clear F8
  have F9 := L9.out.at; simp only [AllAt, CellsAt, updL, List.map, Nat.zero_add, Nat.reduceAdd, and_true, World.size_alloc, World.heap_drewN, heap_drew, size_set, Nat.add_eq_left, Nat.left_eq_add, Nat.add_right_cancel_iff, ne_up2, ne_dn2, ne_up3, ne_dn3, ne_up4, ne_dn4, Nat.reduceEqDiff, Nat.one_ne_zero, Nat.succ_ne_zero, Nat.zero_ne_one, reduceIte, List.set_cons_zero, List.set_cons_succ] at F9
  refine AnyX.start 99 (fun w' => w'.cell? ⟨g5, 0, none⟩ = some (.int .i64 a) ∧ w'.cell? ⟨g5, 1, none⟩ = some (.int .i64 b) ∧ w'.cell? ⟨g5, 2, none⟩ = some (.int .i64 c) ∧ w'.cell? ⟨g5, 3, none⟩ = some (.int .i64 (-s0)) ∧ w'.cell? ⟨g5, 4, none⟩ = some (.int .i64 (-s1)) ∧ w'.cell? ⟨g5, 5, none⟩ = some (.int .i64 (-s2)) ∧ w'.cell? ⟨g6, 0, none⟩ = some (.int .i64 (-m0)) ∧ w'.cell? ⟨g6, 1, none⟩ = some (.int .i64 (-m1)) ∧ w'.cell? ⟨g6, 2, none⟩ = some (.int .i64 (-m2)) ∧ w'.cell? ⟨w.heap.size, 0, none⟩ = some (.int .i64 a) ∧ w'.cell? ⟨w.heap.size, 1, none⟩ = some (.int .i64 b) ∧ w'.cell? ⟨w.heap.size, 2, none⟩ = some (.int .i64 c) ∧ w'.cell? ⟨w8.heap.size, 0, none⟩ = some (.int .i64 0) ∧ w'.cell? ⟨w8.heap.size, 1, none⟩ = some (.int .i64 0) ∧ w'.cell? ⟨w8.heap.size, 2, none⟩ = some (.int .i64 0)) (by kernel_rfl) ?_ (fun hHeld => ?_)
  · (try dsimp only); go_keep
  refine' AnyX.takeL (i := 0) (oi := _) (v := _) rfl (by kernel_rfl) (by kernel_rfl) (by kernel_rfl) (by kernel_rfl) (fun _ _ _ h => h) (Or.inl ⟨by rfl, ?hy59⟩) (by assumption) ?rest59
  case hy59 => (intro w' hSw; (try dsimp only at hSw); go_simp; (first | done | with_reducible rfl))
  try simp only [Act.put, List.setIfInBounds_toArray, List.set_cons_zero, List.set_cons_succ]
  refine' AnyX.takeL (i := 1) (oi := _) (v := _) rfl (by kernel_rfl) (by kernel_rfl) (by kernel_rfl) (by kernel_rfl) (fun _ _ _ h => h) (Or.inl ⟨by rfl, ?hy60⟩) (by assumption) ?rest60
  case hy60 => (intro w' hSw; (try dsimp only at hSw); go_simp; (first | done | with_reducible rfl))
  try simp only [Act.put, List.setIfInBounds_toArray, List.set_cons_zero, List.set_cons_succ]
  refine' AnyX.takeL (i := 2) (oi := _) (v := _) rfl (by kernel_rfl) (by kernel_rfl) (by kernel_rfl) (by kernel_rfl) (fun _ _ _ h => h) (Or.inl ⟨by rfl, ?hy61⟩) (by assumption) ?rest61
  case hy61 => (intro w' hSw; (try dsimp only at hSw); go_simp; (first | done | with_reducible rfl))
  try simp only [Act.put, List.setIfInBounds_toArray, List.set_cons_zero, List.set_cons_succ]
  refine' AnyX.takeL (i := 3) (oi := _) (v := _) rfl (by kernel_rfl) (by kernel_rfl) (by kernel_rfl) (by kernel_rfl) (fun _ _ _ h => h) (Or.inl ⟨by rfl, ?hy62⟩) (by assumption) ?rest62
  case hy62 => (intro w' hSw; (try dsimp only at hSw); go_simp; (first | done | with_reducible rfl))
  try simp only [Act.put, List.setIfInBounds_toArray, List.set_cons_zero, List.set_cons_succ]
  refine' AnyX.takeL (i := 4) (oi := _) (v := _) rfl (by kernel_rfl) (by kernel_rfl) (by kernel_rfl) (by kernel_rfl) (fun _ _ _ h => h) (Or.inl ⟨by rfl, ?hy63⟩) (by assumption) ?rest63
  case hy63 => (intro w' hSw; (try dsimp only at hSw); go_simp; (first | done | with_reducible rfl))
  try simp only [Act.put, List.setIfInBounds_toArray, List.set_cons_zero, List.set_cons_succ]
  refine' AnyX.takeL (i := 5) (oi := _) (v := _) rfl (by kernel_rfl) (by kernel_rfl) (by kernel_rfl) (by kernel_rfl) (fun _ _ _ h => h) (Or.inl ⟨by rfl, ?hy64⟩) (by assumption) ?rest64
  case hy64 => (intro w' hSw; (try dsimp only at hSw); go_simp; (first | done | with_reducible rfl))
  try simp only [Act.put, List.setIfInBounds_toArray, List.set_cons_zero, List.set_cons_succ]
  refine' AnyX.takeL (i := 6) (oi := _) (v := _) rfl (by kernel_rfl) (by kernel_rfl) (by kernel_rfl) (by kernel_rfl) (fun _ _ _ h => h) (Or.inl ⟨by rfl, ?hy65⟩) (by assumption) ?rest65
  case hy65 => (intro w' hSw; (try dsimp only at hSw); go_simp; (first | done | with_reducible rfl))
  try simp only [Act.put, List.setIfInBounds_toArray, List.set_cons_zero, List.set_cons_succ]
  refine' AnyX.takeL (i := 7) (oi := _) (v := _) rfl (by kernel_rfl) (by kernel_rfl) (by kernel_rfl) (by kernel_rfl) (fun _ _ _ h => h) (Or.inl ⟨by rfl, ?hy66⟩) (by assumption) ?rest66
  case hy66 => (intro w' hSw; (try dsimp only at hSw); go_simp; (first | done | with_reducible rfl))
  try simp only [Act.put, List.setIfInBounds_toArray, List.set_cons_zero, List.set_cons_succ]
  refine' AnyX.takeL (i := 8) (oi := _) (v := _) rfl (by kernel_rfl) (by kernel_rfl) (by kernel_rfl) (by kernel_rfl) (fun _ _ _ h => h) (Or.inl ⟨by rfl, ?hy67⟩) (by assumption) ?rest67
  case hy67 => (intro w' hSw; (try dsimp only at hSw); go_simp; (first | done | with_reducible rfl))
  try simp only [Act.put, List.setIfInBounds_toArray, List.set_cons_zero, List.set_cons_succ]
  refine' AnyX.takeL (i := 9) (oi := _) (v := _) rfl (by kernel_rfl) (by kernel_rfl) (by kernel_rfl) (by kernel_rfl) (fun _ _ _ h => h) (Or.inl ⟨by rfl, ?hy68⟩) (by assumption) ?rest68
  case hy68 => (intro w' hSw; (try dsimp only at hSw); go_simp; (first | done | with_reducible rfl))
  try simp only [Act.put, List.setIfInBounds_toArray, List.set_cons_zero, List.set_cons_succ]
  refine' AnyX.takeL (i := 10) (oi := _) (v := _) rfl (by kernel_rfl) (by kernel_rfl) (by kernel_rfl) (by kernel_rfl) (fun _ _ _ h => h) (Or.inl ⟨by rfl, ?hy69⟩) (by assumption) ?rest69
  case hy69 => (intro w' hSw; (try dsimp only at hSw); go_simp; (first | done | with_reducible rfl))
  try simp only [Act.put, List.setIfInBounds_toArray, List.set_cons_zero, List.set_cons_succ]
  refine' AnyX.takeL (i := 11) (oi := _) (v := _) rfl (by kernel_rfl) (by kernel_rfl) (by kernel_rfl) (by kernel_rfl) (fun _ _ _ h => h) (Or.inl ⟨by rfl, ?hy70⟩) (by assumption) ?rest70
  case hy70 => (intro w' hSw; (try dsimp only at hSw); go_simp; (first | done | with_reducible rfl))
  try simp only [Act.put, List.setIfInBounds_toArray, List.set_cons_zero, List.set_cons_succ]
  refine' AnyX.takeL (i := 12) (oi := _) (v := _) rfl (by kernel_rfl) (by kernel_rfl) (by kernel_rfl) (by kernel_rfl) (fun _ _ _ h => h) (Or.inl ⟨by rfl, ?hy71⟩) (by assumption) ?rest71
  case hy71 => (intro w' hSw; (try dsimp only at hSw); go_simp; (first | done | with_reducible rfl))
  try simp only [Act.put, List.setIfInBounds_toArray, List.set_cons_zero, List.set_cons_succ]
  refine AnyX.go (rs := [13]) (by kernel_rfl) (by simp) (AllX.consL (o := _) rfl (fun K hK => ?_) AllX.nil)
  go_simp
  go_at_call 23
  refine Lv.call (CRS.out _ (HD.out.on L9.out.drew.below)) (L9.out.drew) ?_
  intro w10 L10'
  have L10 := hide L10'
  have F10 := L10'.at
  clear L10'
  simp only [AllAt, CellsAt, updL, List.map, Nat.zero_add, Nat.reduceAdd, and_true, World.size_alloc, World.heap_drewN, heap_drew, size_set, Nat.add_eq_left, Nat.left_eq_add, Nat.add_right_cancel_iff, ne_up2, ne_dn2, ne_up3, ne_dn3, ne_up4, ne_dn4, Nat.reduceEqDiff, Nat.one_ne_zero, Nat.succ_ne_zero, Nat.zero_ne_one, reduceIte, List.set_cons_zero, List.set_cons_succ] at F10
  go_wp2_with fail
  refine hK.out _ _ ?_ (fun hHeld => ?_)
  · (try dsimp only); go_keep
  clear hK K
  try simp only [Act.put, List.setIfInBounds_toArray, List.set_cons_zero, List.set_cons_succ]
  refine AnyX.go (rs := [14]) (by kernel_rfl) (by simp) (AllX.consL (o := _) rfl (fun K hK => ?_) AllX.nil)
  go_simp
  go_at_call 28
  refine Lv.call (CNS.out _) (L10.out) ?_
  intro w11 L11'
  have L11 := hide L11'
  have F11 := L11'.at
  clear L11'
  simp only [AllAt, CellsAt, updL, List.map, Nat.zero_add, Nat.reduceAdd, and_true, World.size_alloc, World.heap_drewN, heap_drew, size_set, Nat.add_eq_left, Nat.left_eq_add, Nat.add_right_cancel_iff, ne_up2, ne_dn2, ne_up3, ne_dn3, ne_up4, ne_dn4, Nat.reduceEqDiff, Nat.one_ne_zero, Nat.succ_ne_zero, Nat.zero_ne_one, reduceIte, List.set_cons_zero, List.set_cons_succ] at F11
  go_wp2_with fail
  refine hK.out _ _ ?_ (fun hHeld => ?_)
  · (try dsimp only); go_keep
  clear hK K
  try simp only [Act.put, List.setIfInBounds_toArray, List.set_cons_zero, List.set_cons_succ]
  refine' AnyX.takeL (i := 15) (oi := _) (v := _) rfl (by kernel_rfl) (by kernel_rfl) (by kernel_rfl) (by kernel_rfl) (fun _ _ _ h => h) (Or.inl ⟨by rfl, ?hy72⟩) (by assumption) ?rest72
  case hy72 => (intro w' hSw; (try dsimp only at hSw); go_simp; (first | done | with_reducible rfl))
  try simp only [Act.put, List.setIfInBounds_toArray, List.set_cons_zero, List.set_cons_succ]
  refine' AnyX.takeL (i := 16) (oi := _) (v := _) rfl (by kernel_rfl) (by kernel_rfl) (by kernel_rfl) (by kernel_rfl) (fun _ _ _ h => h) (Or.inl ⟨by rfl, ?hy73⟩) (by assumption) ?rest73
  case hy73 => (intro w' hSw; (try dsimp only at hSw); go_simp; (first | done | with_reducible rfl))
  try simp only [Act.put, List.setIfInBounds_toArray, List.set_cons_zero, List.set_cons_succ]
  refine' AnyX.takeL (i := 17) (oi := _) (v := _) rfl (by kernel_rfl) (by kernel_rfl) (by kernel_rfl) (by kernel_rfl) (fun _ _ _ h => h) (Or.inl ⟨by rfl, ?hy74⟩) (by assumption) ?rest74
  case hy74 => (intro w' hSw; (try dsimp only at hSw); go_simp; (first | done | with_reducible rfl))
  try simp only [Act.put, List.setIfInBounds_toArray, List.set_cons_zero, List.set_cons_succ]
  refine' AnyX.takeL (i := 18) (oi := _) (v := _) rfl (by kernel_rfl) (by kernel_rfl) (by kernel_rfl) (by kernel_rfl) (fun _ _ _ h => h) (Or.inl ⟨by rfl, ?hy75⟩) (by assumption) ?rest75
  case hy75 => (intro w' hSw; (try dsimp only at hSw); go_simp; (first | done | with_reducible rfl))
  try simp only [Act.put, List.setIfInBounds_toArray, List.set_cons_zero, List.set_cons_succ]
  refine' AnyX.takeL (i := 19) (oi := _) (v := _) rfl (by kernel_rfl) (by kernel_rfl) (by kernel_rfl) (by kernel_rfl) (fun _ _ _ h => h) (Or.inl ⟨by rfl, ?hy76⟩) (by assumption) ?rest76
  case hy76 => (intro w' hSw; (try dsimp only at hSw); go_simp; (first | done | with_reducible rfl))
  try simp only [Act.put, List.setIfInBounds_toArray, List.set_cons_zero, List.set_cons_succ]
  refine' AnyX.takeL (i := 20) (oi := _) (v := _) rfl (by kernel_rfl) (by kernel_rfl) (by kernel_rfl) (by kernel_rfl) (fun _ _ _ h => h) (Or.inl ⟨by rfl, ?hy77⟩) (by assumption) ?rest77
  case hy77 => (intro w' hSw; (try dsimp only at hSw); go_simp; (first | done | with_reducible rfl))
  try simp only [Act.put, List.setIfInBounds_toArray, List.set_cons_zero, List.set_cons_succ]
  refine' AnyX.takeL (i := 21) (oi := _) (v := _) rfl (by kernel_rfl) (by kernel_rfl) (by kernel_rfl) (by kernel_rfl) (fun _ _ _ h => h) (Or.inl ⟨by rfl, ?hy78⟩) (by assumption) ?rest78
  case hy78 => (intro w' hSw; (try dsimp only at hSw); go_simp; (first | done | with_reducible rfl))
  try simp only [Act.put, List.setIfInBounds_toArray, List.set_cons_zero, List.set_cons_succ]
  refine AnyX.go (rs := [22]) (by kernel_rfl) (by simp) (AllX.consL (o := _) rfl (fun K hK => ?_) AllX.nil)
  go_simp
  go_at_call 26
  refine Lv.call (CRM.out _ (HD.out.on L11.out.below)) (L11.out) ?_
  intro w12 L12'
  have L12 := hide L12'
  have F12 := L12'.at
  clear L12'
  simp only [AllAt, CellsAt, updL, List.map, Nat.zero_add, Nat.reduceAdd, and_true, World.size_alloc, World.heap_drewN, heap_drew, size_set, Nat.add_eq_left, Nat.left_eq_add, Nat.add_right_cancel_iff, ne_up2, ne_dn2, ne_up3, ne_dn3, ne_up4, ne_dn4, Nat.reduceEqDiff, Nat.one_ne_zero, Nat.succ_ne_zero, Nat.zero_ne_one, reduceIte, List.set_cons_zero, List.set_cons_succ] at F12
  go_wp2_with fail
  refine hK.out _ _ ?_ (fun hHeld => ?_)
  · (try dsimp only); go_keep
  clear hK K
  try simp only [Act.put, List.setIfInBounds_toArray, List.set_cons_zero, List.set_cons_succ]
  refine AnyX.go (rs := [23]) (by kernel_rfl) (by simp) (AllX.consL (o := _) rfl (fun K hK => ?_) AllX.nil)
  go_simp
  go_at_call 28
  refine Lv.call (CNM.out _) (L12.out) ?_
  intro w13 L13'
  have L13 := hide L13'
  have F13 := L13'.at
  clear L13'
  simp only [AllAt, CellsAt, updL, List.map, Nat.zero_add, Nat.reduceAdd, and_true, World.size_alloc, World.heap_drewN, heap_drew, size_set, Nat.add_eq_left, Nat.left_eq_add, Nat.add_right_cancel_iff, ne_up2, ne_dn2, ne_up3, ne_dn3, ne_up4, ne_dn4, Nat.reduceEqDiff, Nat.one_ne_zero, Nat.succ_ne_zero, Nat.zero_ne_one, reduceIte, List.set_cons_zero, List.set_cons_succ] at F13
  go_wp2_with fail
  refine hK.out _ _ ?_ (fun hHeld => ?_)
  · (try dsimp only); go_keep
  clear hK K
  try simp only [Act.put, List.setIfInBounds_toArray, List.set_cons_zero, List.set_cons_succ]
  refine' AnyX.takeL (i := 24) (oi := _) (v := _) rfl (by kernel_rfl) (by kernel_rfl) (by kernel_rfl) (by kernel_rfl) (fun _ _ _ h => h) (Or.inl ⟨by rfl, ?hy79⟩) (by assumption) ?rest79
  case hy79 => (intro w' hSw; (try dsimp only at hSw); go_simp; (first | done | with_reducible rfl))
  try simp only [Act.put, List.setIfInBounds_toArray, List.set_cons_zero, List.set_cons_succ]
  refine' AnyX.takeL (i := 25) (oi := _) (v := _) rfl (by kernel_rfl) (by kernel_rfl) (by kernel_rfl) (by kernel_rfl) (fun _ _ _ h => h) (Or.inl ⟨by rfl, ?hy80⟩) (by assumption) ?rest80
  case hy80 => (intro w' hSw; (try dsimp only at hSw); go_simp; (first | done | with_reducible rfl))
  try simp only [Act.put, List.setIfInBounds_toArray, List.set_cons_zero, List.set_cons_succ]
  refine AnyX.done (by kernel_rfl) ?_ _
  clear F9 F10 F11 F12 L10 L11 L12
  go_upto_region 14 with fail
  obtain ⟨Z2, hZ2⟩ : ∃ Z, Z = oneMore z n (balX a b c s0 s1 s2) := ⟨_, rfl⟩
  rw [← hZ2] at HMS HES HEB
  go_cut [10] (fun s10 wx => ∃ gA cA : Nat, s10 = .slice (some ⟨gA, 0, none⟩) (n + 1) cA ∧ Hid (RowM 6 wx wx.heap.size (some ⟨gA, 0, none⟩) (n + 1) Z2) ∧ Hid (Lv w wx [(w8.heap.size, 23, [.int .i64 0, .int .i64 0, .int .i64 0]), (g5, 40, [.int .i64 a, .int .i64 b, .int .i64 c, .int .i64 (-s0), .int .i64 (-s1), .int .i64 (-s2)]), (g6, 23, [.int .i64 (-m0), .int .i64 (-m1), .int .i64 (-m2)]), (w.heap.size, 23, [.int .i64 a, .int .i64 b, .int .i64 c])]))
  case first =>
    have n13 : w.heap.size < w13.heap.size := by omega
    refine wp_region_noPanic ?_
    refine AnyX.start 99 (fun w' => w'.cell? ⟨g5, 0, none⟩ = some (.int .i64 a) ∧ w'.cell? ⟨g5, 1, none⟩ = some (.int .i64 b) ∧ w'.cell? ⟨g5, 2, none⟩ = some (.int .i64 c) ∧ w'.cell? ⟨g5, 3, none⟩ = some (.int .i64 (-s0)) ∧ w'.cell? ⟨g5, 4, none⟩ = some (.int .i64 (-s1)) ∧ w'.cell? ⟨g5, 5, none⟩ = some (.int .i64 (-s2))) (by kernel_rfl) ?_ (fun hHeld => ?_)
    · (try dsimp only); go_keep
    refine' AnyX.takeL (i := 0) (oi := _) (v := _) rfl (by kernel_rfl) (by kernel_rfl) (by kernel_rfl) (by kernel_rfl) (fun _ _ _ h => h) (Or.inl ⟨by rfl, ?hy81⟩) (by assumption) ?rest81
    case hy81 => (intro w' hSw; (try dsimp only at hSw); go_simp; (first | done | with_reducible rfl))
    try simp only [Act.put, List.setIfInBounds_toArray, List.set_cons_zero, List.set_cons_succ]
    refine' AnyX.takeL (i := 2) (oi := _) (v := _) rfl (by kernel_rfl) (by kernel_rfl) (by kernel_rfl) (by kernel_rfl) (fun _ _ _ h => h) (Or.inl ⟨by rfl, ?hy82⟩) (by assumption) ?rest82
    case hy82 => (intro w' hSw; (try dsimp only at hSw); go_simp; (first | done | with_reducible rfl))
    try simp only [Act.put, List.setIfInBounds_toArray, List.set_cons_zero, List.set_cons_succ]
    refine AnyX.go (rs := [1, 3]) (by kernel_rfl) (by simp) ?_
    refine AllX.consL (o := _) rfl (fun K hK => ?_) ?_
    · go_simp
      go_at_call 18
      refine (copied_own A n cap z _ (by omega) HNIL.out (HD.out.on (L13.out.drew).below)).mono ?_
      rintro e w14 ⟨gc, cc, rfl, ho, hb⟩
      have HO := hide ho
      have L14 := hide ((L13.out.drew).kept hb)
      have HB := hide hb
      have hs14 : w13.heap.size ≤ w14.heap.size := hb.size
      clear ho hb
      have F14 := L14.out.at; simp only [AllAt, CellsAt, updL, List.map, Nat.zero_add, Nat.reduceAdd, and_true, World.size_alloc, World.heap_drewN, heap_drew, size_set, Nat.add_eq_left, Nat.left_eq_add, Nat.add_right_cancel_iff, ne_up2, ne_dn2, ne_up3, ne_dn3, ne_up4, ne_dn4, Nat.reduceEqDiff, Nat.one_ne_zero, Nat.succ_ne_zero, Nat.zero_ne_one, reduceIte, List.set_cons_zero, List.set_cons_succ] at F14
      go_wp2_with fail
      refine hK.out _ _ ?_ (fun hHeld => ?_)
      · (try dsimp only); go_keep
      clear hK K
      try simp only [Act.put, List.setIfInBounds_toArray, List.set_cons_zero, List.set_cons_succ]
      refine AnyX.go (rs := [3]) (by kernel_rfl) (by simp) (AllX.consL (o := _) rfl (fun K hK => ?_) AllX.nil)
      go_simp
      refine hK.out _ _ ?_ (fun hHeld => ?_)
      · (try dsimp only); go_keep
      clear hK K
      try simp only [Act.put, List.setIfInBounds_toArray, List.set_cons_zero, List.set_cons_succ]
      refine AnyX.go (rs := [4]) (by kernel_rfl) (by simp) (AllX.consL (o := _) rfl (fun K hK => ?_) AllX.nil)
      refine step_append_lies _ rfl (.tmp 80) (.tmp 82) 22 rfl w13.heap.size 40 i0 (.agg #[.int .i64 0, .int .i64 0, .int .i64 0, .int .i64 0, .int .i64 0, .int .i64 0]) 6 48 Try.underlying22 hi hz0 hz1 hz2 rfl (by decide) (.slice (some ⟨gc, 0, none⟩) n cc) n (slab (n * 6) (flatF 6 z)) rfl (HO.out.alloc _) ⟨w14.heap.size, 0, none⟩ 1 1 [.int .i64 a, .int .i64 b, .int .i64 c, .int .i64 (-s0), .int .i64 (-s1), .int .i64 (-s2)] rfl rfl (World.news_of_block (cs := #[.int .i64 a, .int .i64 b, .int .i64 c, .int .i64 (-s0), .int .i64 (-s1), .int .i64 (-s2)]) (t := 40) (fr := (0, 0)) (heap_alloc_new _ _)) (by simp [Value.oneCell']) (by omega) (by unfold maxLen; omega) (by omega) (by first | omega | (simp; omega)) _ rfl ?_
      intro gA cA w16 hown hgrow hat hlt
      have hge := (World.ownsRow.lt HO.out gc rfl).1
      have hB2 : Below w13.drew.heap.size w13.drew w16 := (HB.out.alloc HB.out.size _).grown hgrow (by first | exact Nat.le_refl _ | (simp; done) | (simp; omega)) (fun k hk => by simp [Value.ownBlock] at hk; simp at hge; first | omega | (simp; omega))
      have L16 := hide ((L13.out.drew).kept hB2)
      rw [HMS.out] at hown
      have RA := hide (own_row hown)
      clear hgrow hown hat hB2 hge
      refine hK.out _ _ ?_ (fun hHeld => ?_)
      · have F16 := L16.out.at
        simp only [AllAt, CellsAt] at F16
        (try dsimp only); go_keep
      clear hK K
      try simp only [Act.put, List.setIfInBounds_toArray, List.set_cons_zero, List.set_cons_succ]
      refine' AnyX.takeL (i := 5) (oi := _) (v := _) rfl (by kernel_rfl) (by kernel_rfl) (by kernel_rfl) (by kernel_rfl) (fun _ _ _ h => h) (Or.inl ⟨by rfl, ?hy83⟩) (by assumption) ?rest83
      case hy83 => (intro w' hSw; (try dsimp only at hSw); go_simp; (first | done | with_reducible rfl))
      try simp only [Act.put, List.setIfInBounds_toArray, List.set_cons_zero, List.set_cons_succ]
      refine AnyX.done (by kernel_rfl) ?_ _
      refine NoPanic.normal ?_
      go_wp2_with fail
      go_meet
      exact ⟨gA, cA, rfl, RA, L16⟩
    refine AllX.consL (o := _) rfl (fun K hK => ?_) AllX.nil
    go_simp
    have L14 := hide (L13.out.drew.put [.int .i64 a, .int .i64 b, .int .i64 c, .int .i64 (-s0), .int .i64 (-s1), .int .i64 (-s2)] 40)
    have F14 := L14.out.at; simp only [AllAt, CellsAt, updL, List.map, Nat.zero_add, Nat.reduceAdd, and_true, World.size_alloc, World.heap_drewN, heap_drew, size_set, Nat.add_eq_left, Nat.left_eq_add, Nat.add_right_cancel_iff, ne_up2, ne_dn2, ne_up3, ne_dn3, ne_up4, ne_dn4, Nat.reduceEqDiff, Nat.one_ne_zero, Nat.succ_ne_zero, Nat.zero_ne_one, reduceIte, List.set_cons_zero, List.set_cons_succ] at F14
    refine hK.out _ _ ?_ (fun hHeld => ?_)
    · (try dsimp only); go_keep
    clear hK K
    try simp only [Act.put, List.setIfInBounds_toArray, List.set_cons_zero, List.set_cons_succ]
    refine AnyX.go (rs := [1]) (by kernel_rfl) (by simp) (AllX.consL (o := _) rfl (fun K hK => ?_) AllX.nil)
    go_simp
    go_at_call 18
    refine (copied_own A n cap z _ (by omega) HNIL.out (HD.out.on (L14.out).below)).mono ?_
    rintro e w15 ⟨gc, cc, rfl, ho, hb⟩
    have HO := hide ho
    have HX := hide ((L14.out.blk _ List.mem_cons_self).kept hb)
    have L15 := hide (L14.out.kept hb)
    have HB := hide (((Below.refl w13.drew.heap.size w13.drew).alloc (Nat.le_refl _) _).trans (hb.mono (by simp)))
    clear ho hb
    have F15 := L15.out.at; simp only [AllAt, CellsAt, updL, List.map, Nat.zero_add, Nat.reduceAdd, and_true, World.size_alloc, World.heap_drewN, heap_drew, size_set, Nat.add_eq_left, Nat.left_eq_add, Nat.add_right_cancel_iff, ne_up2, ne_dn2, ne_up3, ne_dn3, ne_up4, ne_dn4, Nat.reduceEqDiff, Nat.one_ne_zero, Nat.succ_ne_zero, Nat.zero_ne_one, reduceIte, List.set_cons_zero, List.set_cons_succ] at F15
    go_wp2_with fail
    refine hK.out _ _ ?_ (fun hHeld => ?_)
    · (try dsimp only); go_keep
    clear hK K
    try simp only [Act.put, List.setIfInBounds_toArray, List.set_cons_zero, List.set_cons_succ]
    refine AnyX.go (rs := [4]) (by kernel_rfl) (by simp) (AllX.consL (o := _) rfl (fun K hK => ?_) AllX.nil)
    refine step_append_lies _ rfl (.tmp 80) (.tmp 82) 22 rfl (w13.heap.size + 1) 40 i0 (.agg #[.int .i64 0, .int .i64 0, .int .i64 0, .int .i64 0, .int .i64 0, .int .i64 0]) 6 48 Try.underlying22 hi hz0 hz1 hz2 rfl (by decide) (.slice (some ⟨gc, 0, none⟩) n cc) n (slab (n * 6) (flatF 6 z)) rfl (by simpa using HO.out) ⟨w13.heap.size, 0, none⟩ 1 1 [.int .i64 a, .int .i64 b, .int .i64 c, .int .i64 (-s0), .int .i64 (-s1), .int .i64 (-s2)] rfl rfl (World.news_of_block HX.out) (by simp [Value.oneCell']) (by omega) (by unfold maxLen; omega) (by omega) (by first | omega | (simp; omega)) _ rfl ?_
    intro gA cA w16 hown hgrow hat hlt
    have hge := (World.ownsRow.lt HO.out gc rfl).1
    have hB2 : Below w13.drew.heap.size w13.drew w16 := (HB.out).grown hgrow (by first | exact Nat.le_refl _ | (simp; done) | (simp; omega)) (fun k hk => by simp [Value.ownBlock] at hk; simp at hge; first | omega | (simp; omega))
    have L16 := hide ((L13.out.drew).kept hB2)
    rw [HMS.out] at hown
    have RA := hide (own_row hown)
    clear hgrow hown hat hB2 hge
    refine hK.out _ _ ?_ (fun hHeld => ?_)
    · have F16 := L16.out.at
      simp only [AllAt, CellsAt] at F16
      (try dsimp only); go_keep
    clear hK K
    try simp only [Act.put, List.setIfInBounds_toArray, List.set_cons_zero, List.set_cons_succ]
    refine' AnyX.takeL (i := 5) (oi := _) (v := _) rfl (by kernel_rfl) (by kernel_rfl) (by kernel_rfl) (by kernel_rfl) (fun _ _ _ h => h) (Or.inl ⟨by rfl, ?hy84⟩) (by assumption) ?rest84
    case hy84 => (intro w' hSw; (try dsimp only at hSw); go_simp; (first | done | with_reducible rfl))
    try simp only [Act.put, List.setIfInBounds_toArray, List.set_cons_zero, List.set_cons_succ]
    refine AnyX.done (by kernel_rfl) ?_ _
    refine NoPanic.normal ?_
    go_wp2_with fail
    go_meet
    exact ⟨gA, cA, rfl, RA, L16⟩
  case' rest =>
    obtain ⟨gA, cA, rfl, RA, L16⟩ := hcut
    clear F13 L13
    have F16 := L16.out.at; simp only [AllAt, CellsAt, updL, List.map, Nat.zero_add, Nat.reduceAdd, and_true, World.size_alloc, World.heap_drewN, heap_drew, size_set, Nat.add_eq_left, Nat.left_eq_add, Nat.add_right_cancel_iff, ne_up2, ne_dn2, ne_up3, ne_dn3, ne_up4, ne_dn4, Nat.reduceEqDiff, Nat.one_ne_zero, Nat.succ_ne_zero, Nat.zero_ne_one, reduceIte, List.set_cons_zero, List.set_cons_succ] at F16
    have HR16 := hide (refForces_any (some ⟨gA, 0, none⟩) (n + 1) cA Z2)
  by_cases hE2 : frcE Z2 (n + 1) = 0
  · have CS2 := fun W A' c' h => plSum_ok A' (n + 1) c' Z2 W h hE2
    have CB2 := fun W A' c' h => plBalanced_ok A' (n + 1) c' Z2 W h hE2
    rw [HES.out] at CS2
    rw [HEB.out] at CB2
    have HE2 := hide hE2
    replace CS2 := hide CS2
    replace CB2 := hide CB2
    clear hE2
    go_wp2_with fail
    refine (HR16.out _ RA.out).mono ?_
    rintro e w17 ⟨rfl, hb⟩
    have R17 := hide (RA.out.on hb)
    have L17 := hide (L16.out.kept hb)
    clear hb F16
    have F17 := L17.out.at; simp only [AllAt, CellsAt, updL, List.map, Nat.zero_add, Nat.reduceAdd, and_true, World.size_alloc, World.heap_drewN, heap_drew, size_set, Nat.add_eq_left, Nat.left_eq_add, Nat.add_right_cancel_iff, ne_up2, ne_dn2, ne_up3, ne_dn3, ne_up4, ne_dn4, Nat.reduceEqDiff, Nat.one_ne_zero, Nat.succ_ne_zero, Nat.zero_ne_one, reduceIte, List.set_cons_zero, List.set_cons_succ] at F17
    rw [HE2.out]
    go_wp2_with fail
    refine (CS2.out _ _ _ R17.out).mono ?_
    rintro e w18 ⟨rfl, hb⟩
    have L18 := hide ((L17.out.kept hb).put [.int .i64 0, .int .i64 0, .int .i64 0] 23)
    have R18 : Hid (RowM 6 (w18.alloc (.cells #[.int .i64 0, .int .i64 0, .int .i64 0] 23)) (w18.alloc (.cells #[.int .i64 0, .int .i64 0, .int .i64 0] 23)).heap.size (some ⟨gA, 0, none⟩) (n + 1) Z2) := hide ((R17.out.on hb).on ((Below.refl _ _).alloc (Nat.le_refl _) _))
    clear hb F17
    have F18 := L18.out.at; simp only [AllAt, CellsAt, updL, List.map, Nat.zero_add, Nat.reduceAdd, and_true, World.size_alloc, World.heap_drewN, heap_drew, size_set, Nat.add_eq_left, Nat.left_eq_add, Nat.add_right_cancel_iff, ne_up2, ne_dn2, ne_up3, ne_dn3, ne_up4, ne_dn4, Nat.reduceEqDiff, Nat.one_ne_zero, Nat.succ_ne_zero, Nat.zero_ne_one, reduceIte, List.set_cons_zero, List.set_cons_succ] at F18
    go_wp2_with fail
    refine (CB2.out _ _ _ R18.out).mono ?_
    rintro e w19 ⟨rfl, hb⟩
    have L19 := hide (L18.out.kept hb)
    clear hb F18
    have F19 := L19.out.at; simp only [AllAt, CellsAt, updL, List.map, Nat.zero_add, Nat.reduceAdd, and_true, World.size_alloc, World.heap_drewN, heap_drew, size_set, Nat.add_eq_left, Nat.left_eq_add, Nat.add_right_cancel_iff, ne_up2, ne_dn2, ne_up3, ne_dn3, ne_up4, ne_dn4, Nat.reduceEqDiff, Nat.one_ne_zero, Nat.succ_ne_zero, Nat.zero_ne_one, reduceIte, List.set_cons_zero, List.set_cons_succ] at F19
    go_wp2
    go_ret
    exact ⟨rfl, L19.out.below⟩
  · have b1 : (frcE Z2 (n + 1) != 0) = true := by rw [bne_iff_ne]; exact hE2
    obtain ⟨E2, he2⟩ : ∃ E2, E2 = frcE Z2 (n + 1) := ⟨_, rfl⟩
    rw [← he2] at b1
    have HE2 := hide he2
    clear hE2 he2
    go_wp2_with fail
    refine (HR16.out _ RA.out).mono ?_
    rintro e w17 ⟨rfl, hb⟩
    have R17 := hide (RA.out.on hb)
    have L17 := hide (L16.out.kept hb)
    clear hb F16
    have F17 := L17.out.at; simp only [AllAt, CellsAt, updL, List.map, Nat.zero_add, Nat.reduceAdd, and_true, World.size_alloc, World.heap_drewN, heap_drew, size_set, Nat.add_eq_left, Nat.left_eq_add, Nat.add_right_cancel_iff, ne_up2, ne_dn2, ne_up3, ne_dn3, ne_up4, ne_dn4, Nat.reduceEqDiff, Nat.one_ne_zero, Nat.succ_ne_zero, Nat.zero_ne_one, reduceIte, List.set_cons_zero, List.set_cons_succ] at F17
    rw [← HE2.out]
    go_wp2
    go_ret
    exact ⟨rfl, L17.out.below⟩
theorem plE_cases (a b c : Int) : plE a b c = 0 ∨ plE a b c = 2 := by unfold plE; split <;> simp
set_option maxHeartbeats 8000000 in
set_option maxRecDepth 100000 in
theorem plateBalances_walk (A : Option Addr) (n cap : Nat) (z : Nat → Nat → Int) (a b c : Int) (w : World) (hnil : A = none → n = 0 ∧ cap = 0) (hD : RowM 6 w w.heap.size A n z) (hz : ∀ i, i < n → ∀ j, j < 6 → -9223372036854775808 ≤ z i j ∧ z i j ≤ 9223372036854775807) (ha : -9223372036854775808 ≤ a ∧ a ≤ 9223372036854775807) (hb : -9223372036854775808 ≤ b ∧ b ≤ 9223372036854775807) (hc : -9223372036854775808 ≤ c ∧ c ≤ 9223372036854775807) :
    Calls Try.prog 4 #[.slice A n cap, .agg #[.int .i64 a, .int .i64 b, .int .i64 c]] w fun x w' => x = .returned (.bool true) ∧ Below w.heap.size w w' := by
  clear hz ha hb hc
  by_cases hfew : n ≤ 20 ∨ (300 < n ∧ n ≤ 305)
  · by_cases hE : frcE z n = 0
    · rcases plE_cases a b c with hP | hP
      · exact balances_ok A n cap z a b c w hfew hnil hD hE hP
      · exact balances_far A n cap z a b c w hfew hnil hD hE hP
    · exact balances_bad A n cap z a b c _ w hfew hnil hD rfl hE
  · clear hnil hD
    have L0 := hide (Lv.start w)
    go_enter Try.func4, Try.ntmps4
    go_wp2_with fail
    refine Lv.call (plAwake_any _) (L0.out.put _ _) ?_
    intro w1 L1'
    have L1 := hide L1'
    have F1 := L1'.at
    clear L1'
    simp only [AllAt, CellsAt, updL, List.map, Nat.zero_add, Nat.reduceAdd, and_true, World.size_alloc, World.heap_drewN, heap_drew, size_set, Nat.add_eq_left, Nat.left_eq_add, Nat.add_right_cancel_iff, ne_up2, ne_dn2, ne_up3, ne_dn3, ne_up4, ne_dn4, Nat.reduceEqDiff, Nat.one_ne_zero, Nat.succ_ne_zero, Nat.zero_ne_one, reduceIte, List.set_cons_zero, List.set_cons_succ] at F1
    go_wp2_with fail
    refine Lv.same (few_no A n cap _ hfew) ?_
    go_wp2
    go_ret
    exact ⟨rfl, L1.out.below⟩
set_option maxRecDepth 100000 in
theorem plateBalances_lifted (os : Os) (started : os.Started) (H : Type) (enc : TypeId × Value → H) :
    ReturnsInHanded {} Try.checked os 4 .any (Rows.plateBalancesSpec.pre6 enc Try.prog Try.f4 Rows.plateBalancesRow.domain false) (Rows.plateBalancesSpec.post enc Try.prog Try.f4 false true false false) := by
  refine returnsInHanded_of_change (C := Try.checked) (by kernel_rfl) started (by kernel_rfl) Try.func4
    (ChangeSpec.witness6 (enc := enc) (C := Try.checked) false ⟨#[], #[.slice none 0 0, .agg #[.int .i64 0, .int .i64 0, .int .i64 0]], []⟩ 8 (by kernel_rfl) (by kernel_rfl) (by kernel_rfl) (by kernel_rfl)) ?_
  intro W base args ds gs before hval0 hW hcnd _
  have hval : ∀ (j : Nat) t v, Try.f4.params[j]? = some t → args[j]? = some v → Value.okWide Try.prog W .any base t v := hval0
  have hW' := hW
  obtain ⟨p, q, hA0, hV, rfl, hfz, hnd⟩ := hW
  have hA : DataW.TrodAll enc Try.prog W 0 (fun _ => true) true Try.f4.params.toList args.toList ds p := hA0
  rw [Try.params4] at hA hval
  obtain ⟨v0, vs0, d0, ds0, p0, q0, hargs, rfl, rfl, h0, r0⟩ := trodAll_cons hA
  obtain ⟨v1, vs1, d1, ds1, p1, q1, rfl, rfl, rfl, h1, r1⟩ := trodAll_cons r0
  obtain ⟨rfl, rfl, rfl⟩ := trodAll_nil r1
  obtain rfl : args = #[v0, v1] := by cases args; simp_all
  obtain ⟨rfl, rfl⟩ := trodVars_none hV
  obtain ⟨A0_l, n0_l, c0_l, rfl⟩ := okWide_slice Try.underlying22 (hval 0 22 v0 rfl rfl)
  obtain ⟨fu_l, hf_l⟩ := h0
  obtain ⟨A_l, n_l, c_l, z_l, hcs_l, hnil_l, hrow_l, hzb_l⟩ := flat_rows (d := 6) (m := 6) Try.underlying22 (by kernel_rfl) (by kernel_rfl) (by decide) hf_l
  simp [Value.cells] at hcs_l
  obtain ⟨rfl, rfl, rfl⟩ := hcs_l
  obtain ⟨zs_1, rfl, zl_1, zb_1⟩ := flat_arr (d := 6) (n := 3) Try.underlying23 (by kernel_rfl) (by kernel_rfl) (hval 1 23 v1 rfl rfl) h1
  obtain ⟨a, b, c, rfl⟩ := len3 zl_1
  clear hval0
  have hWW := hW'
  refine (plateBalances_walk A0_l n0_l c0_l z_l a b c W hnil_l hrow_l hzb_l (zb_1 a (by simp)) (zb_1 b (by simp)) (zb_1 c (by simp))).mono fun e W' ⟨he, hb⟩ => ?_
  subst he
  exact ⟨_, rfl, law_post (pa := p0 ++ (p1 ++ [])) (pv := []) hWW (fun _ _ _ => (trodAll_cons_mk (shut_bool Try.underlying4 _) trodAll_mk0)) (fun sp hsp => args_back (by kernel_rfl) _ _ _ _ (by kernel_rfl) hA0 (fun x hx => hb.same (hWW.lt x (List.mem_append_left _ hx))) (fun x hx => hsp x (List.mem_append_left _ hx))) (fun _ _ => rfl) rfl hb⟩

theorem plateBalances_holds : Rows.PlateBalancesSaid :=
  OpenClaim.holds_of_wide 4 Try.f4 rfl rfl rfl rfl rfl rfl rfl ⟨rfl, rfl, rfl, rfl, rfl⟩ rfl rfl rfl rfl rfl (by kernel_rfl) Try.func4 (by kernel_rfl)
    (of_decide_eq_true (by kernel_rfl)) (by unfold Func.isWrapper; first | (rw [if_pos (by decide +kernel)]; kernel_rfl) | (rw [if_neg (by decide +kernel)]; exact ⟨rfl, rfl⟩))
    (fun os started H enc _ => plateBalances_lifted os started H enc)
end Go.Proofs.Ytjfcjclhbnmgcaa
