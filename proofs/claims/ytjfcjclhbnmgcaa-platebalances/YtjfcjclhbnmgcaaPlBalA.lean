/- agraffelaw03.PlateBalances returns true for a refused list of forces, and for a place that is too far. Premises: those of each theorem. -/
import Derived.Test.YtjfcjclhbnmgcaaPlAwake
import Derived.Test.YtjfcjclhbnmgcaaPlBalM
import Derived.Test.YtjfcjclhbnmgcaaPlFo4
import Derived.Test.YtjfcjclhbnmgcaaPlFoRB
import Derived.Test.YtjfcjclhbnmgcaaPlEqP
import Derived.Deep.AppendLies
namespace Go.Proofs.Ytjfcjclhbnmgcaa
open Go.ChangeShapes Go.WideShapes Go.ChangeAt Go.RowKit Go.Joins
set_option linter.unusedVariables false
set_option linter.unusedSimpArgs false

set_option maxHeartbeats 8000000 in
set_option maxRecDepth 100000 in
theorem balances_bad (A : Option Addr) (n cap : Nat) (z : Nat → Nat → Int) (a b c E : Int) (w : World) (hfew : n ≤ 20 ∨ (300 < n ∧ n ≤ 305)) (hnil : A = none → n = 0 ∧ cap = 0) (hD : RowM 6 w w.heap.size A n z) (hE : frcE z n = E) (h0 : E ≠ 0) :
    Calls Try.prog 4 #[.slice A n cap, .agg #[.int .i64 a, .int .i64 b, .int .i64 c]] w fun x w' => x = .returned (.bool true) ∧ Below w.heap.size w w' := by
  have b1 : (E != 0) = true := by rw [bne_iff_ne]; exact h0
  have b2 : (E == 0) = false := by rw [beq_eq_false_iff_ne]; exact h0
  have ez : ∀ W, (Go.binOp .eql 23 (.agg #[.int .i64 0, .int .i64 0, .int .i64 0]) (.agg #[.int .i64 0, .int .i64 0, .int .i64 0])).run Try.prog W = .ok (.bool true) W := fun W => by rw [eq3_run, eq3_self]
  have ep := eqP_self 0 0 0 0 0 0
  have CX := hide (fun W A' c' h => plBalance_bad A' n c' z a b c E W h hE h0)
  have HE := hide hE
  have HNIL := hide hnil
  have HD := hide hD
  clear hE h0 hnil hD
  have L0 := hide (Lv.start w)
  go_enter Try.func4, Try.ntmps4
  go_wp2_with fail
  refine Lv.call (plAwake_any _) (L0.out.put _ _) ?_
  intro w1 L1'
  have L1 := hide L1'
  have F1 := L1'.at
  clear L1'
  simp only [AllAt, CellsAt, updL, List.map, Nat.zero_add, Nat.reduceAdd, and_true, World.size_alloc, World.heap_drewN, heap_drew, size_set, Nat.add_eq_left, Nat.left_eq_add, Nat.add_right_cancel_iff, ne_up2, ne_dn2, ne_up3, ne_dn3, ne_up4, ne_dn4, Nat.reduceEqDiff, Nat.one_ne_zero, Nat.succ_ne_zero, Nat.zero_ne_one, reduceIte, List.set_cons_zero, List.set_cons_succ] at F1
  go_wp2_with fail
  refine Lv.same (few_yes A n cap _ hfew) ?_
  go_upto_region 5 with fail
  have n1 : w.heap.size < w1.heap.size := by omega
  go_cut [5, 6, 7] (fun s5 s6 s7 wx => ∃ g5 g6 : Nat, s5 = .pointer (some ⟨g5, 0, none⟩) ∧ s6 = .pointer (some ⟨g6, 0, none⟩) ∧ s7 = .int .i64 E ∧ ((¬ g5 = g6 ∧ ¬ g6 = g5) ∧ (¬ g5 = w.heap.size ∧ ¬ w.heap.size = g5) ∧ (¬ g6 = w.heap.size ∧ ¬ w.heap.size = g6)) ∧ Hid (Lv w wx [(g5, 40, [.int .i64 0, .int .i64 0, .int .i64 0, .int .i64 0, .int .i64 0, .int .i64 0]), (g6, 23, [.int .i64 0, .int .i64 0, .int .i64 0]), (w.heap.size, 23, [.int .i64 a, .int .i64 b, .int .i64 c])]))
  case first =>
    have nu0 : (¬ w1.heap.size = w.heap.size ∧ ¬ w.heap.size = w1.heap.size) ∧ (¬ w1.heap.size + 1 = w.heap.size ∧ ¬ w.heap.size = w1.heap.size + 1) := by omega
    refine wp_region_noPanic ?_
    refine AnyX.start 99 (fun w' => w'.cell? ⟨w.heap.size, 0, none⟩ = some (.int .i64 a) ∧ w'.cell? ⟨w.heap.size, 1, none⟩ = some (.int .i64 b) ∧ w'.cell? ⟨w.heap.size, 2, none⟩ = some (.int .i64 c)) (by kernel_rfl) ?_ (fun hHeld => ?_)
    · (try dsimp only); go_keep
    refine' AnyX.takeL (i := 0) (oi := _) (v := _) rfl (by kernel_rfl) (by kernel_rfl) (by kernel_rfl) (by kernel_rfl) (fun _ _ _ h => h) (Or.inl ⟨by rfl, ?hy1⟩) (by assumption) ?rest1
    case hy1 => (intro w' hSw; (try dsimp only at hSw); go_simp; (first | done | with_reducible rfl))
    try simp only [Act.put, List.setIfInBounds_toArray, List.set_cons_zero, List.set_cons_succ]
    refine' AnyX.takeL (i := 2) (oi := _) (v := _) rfl (by kernel_rfl) (by kernel_rfl) (by kernel_rfl) (by kernel_rfl) (fun _ _ _ h => h) (Or.inl ⟨by rfl, ?hy2⟩) (by assumption) ?rest2
    case hy2 => (intro w' hSw; (try dsimp only at hSw); go_simp; (first | done | with_reducible rfl))
    try simp only [Act.put, List.setIfInBounds_toArray, List.set_cons_zero, List.set_cons_succ]
    refine AnyX.go (rs := [1, 8, 9]) (by kernel_rfl) (by simp) ?_
    refine AllX.consL (o := _) rfl (fun K hK => ?_) ?_
    · go_simp
      go_at_call 18
      refine (copied_any A n cap z _ (by omega) HNIL.out (HD.out.on (L1.out.drew).below)).mono ?_
      rintro e w51 ⟨gc, cc, rfl, hr, hb⟩
      have RC := hide hr
      have L51 := hide ((L1.out.drew).kept hb)
      clear hr hb
      have F51 := L51.out.at; simp only [AllAt, CellsAt, updL, List.map, Nat.zero_add, Nat.reduceAdd, and_true, World.size_alloc, World.heap_drewN, heap_drew, size_set, Nat.add_eq_left, Nat.left_eq_add, Nat.add_right_cancel_iff, ne_up2, ne_dn2, ne_up3, ne_dn3, ne_up4, ne_dn4, Nat.reduceEqDiff, Nat.one_ne_zero, Nat.succ_ne_zero, Nat.zero_ne_one, reduceIte, List.set_cons_zero, List.set_cons_succ] at F51
      go_wp2_with fail
      refine hK.out _ _ ?_ (fun hHeld => ?_)
      · (try dsimp only); go_keep
      clear hK K
      try simp only [Act.put, List.setIfInBounds_toArray, List.set_cons_zero, List.set_cons_succ]
      refine AnyX.go (rs := [3, 8, 9]) (by kernel_rfl) (by simp) ?_
      refine AllX.consL (o := _) rfl (fun K hK => ?_) ?_
      · go_simp
        go_at_call 27
        first | (with_reducible refine Lv.call (CX.out _ _ _ RC.out) (L51.out) ?_) | (with_reducible refine Lv.call (CX.out _ _ _ (RC.out.on ((Below.refl _ _).alloc (Nat.le_refl _) _))) (L51.out) ?_) | (with_reducible refine Lv.call (CX.out _ _ _ (RC.out.on (((Below.refl _ _).alloc (Nat.le_refl _) _).alloc (by simp) _))) (L51.out) ?_)
        intro w52 L52'; have L52 := hide L52'; have F52 := L52'.at; clear L52'; simp only [AllAt, CellsAt, updL, List.map, Nat.zero_add, Nat.reduceAdd, and_true, World.size_alloc, World.heap_drewN, heap_drew, size_set, Nat.add_eq_left, Nat.left_eq_add, Nat.add_right_cancel_iff, ne_up2, ne_dn2, ne_up3, ne_dn3, ne_up4, ne_dn4, Nat.reduceEqDiff, Nat.one_ne_zero, Nat.succ_ne_zero, Nat.zero_ne_one, reduceIte, List.set_cons_zero, List.set_cons_succ] at F52
        go_wp2_with fail
        refine hK.out _ _ ?_ (fun hHeld => ?_)
        · (try dsimp only); go_keep
        clear hK K
        try simp only [Act.put, List.setIfInBounds_toArray, List.set_cons_zero, List.set_cons_succ]
        refine' AnyX.takeL (i := 4) (oi := _) (v := _) rfl (by kernel_rfl) (by kernel_rfl) (by kernel_rfl) (by kernel_rfl) (fun _ _ _ h => h) (Or.inl ⟨by rfl, ?hy3⟩) (by assumption) ?rest3
        case hy3 => (intro w' hSw; (try dsimp only at hSw); go_simp; (first | done | with_reducible rfl))
        try simp only [Act.put, List.setIfInBounds_toArray, List.set_cons_zero, List.set_cons_succ]
        refine' AnyX.takeL (i := 5) (oi := _) (v := _) rfl (by kernel_rfl) (by kernel_rfl) (by kernel_rfl) (by kernel_rfl) (fun _ _ _ h => h) (Or.inl ⟨by rfl, ?hy4⟩) (by assumption) ?rest4
        case hy4 => (intro w' hSw; (try dsimp only at hSw); go_simp; (first | done | with_reducible rfl))
        try simp only [Act.put, List.setIfInBounds_toArray, List.set_cons_zero, List.set_cons_succ]
        refine' AnyX.takeL (i := 6) (oi := _) (v := _) rfl (by kernel_rfl) (by kernel_rfl) (by kernel_rfl) (by kernel_rfl) (fun _ _ _ h => h) (Or.inl ⟨by rfl, ?hy5⟩) (by assumption) ?rest5
        case hy5 => (intro w' hSw; (try dsimp only at hSw); go_simp; (first | done | with_reducible rfl))
        try simp only [Act.put, List.setIfInBounds_toArray, List.set_cons_zero, List.set_cons_succ]
        refine' AnyX.takeL (i := 7) (oi := _) (v := _) rfl (by kernel_rfl) (by kernel_rfl) (by kernel_rfl) (by kernel_rfl) (fun _ _ _ h => h) (Or.inl ⟨by rfl, ?hy6⟩) (by assumption) ?rest6
        case hy6 => (intro w' hSw; (try dsimp only at hSw); go_simp; (first | done | with_reducible rfl))
        try simp only [Act.put, List.setIfInBounds_toArray, List.set_cons_zero, List.set_cons_succ]
        refine AnyX.go (rs := [8, 9]) (by kernel_rfl) (by simp) ?_
        refine AllX.consL (o := _) rfl (fun K hK => ?_) ?_
        · go_simp
          have L53 := hide (L52.out.put [.int .i64 0, .int .i64 0, .int .i64 0, .int .i64 0, .int .i64 0, .int .i64 0] 40)
          have F53 := L53.out.at; simp only [AllAt, CellsAt, updL, List.map, Nat.zero_add, Nat.reduceAdd, and_true, World.size_alloc, World.heap_drewN, heap_drew, size_set, Nat.add_eq_left, Nat.left_eq_add, Nat.add_right_cancel_iff, ne_up2, ne_dn2, ne_up3, ne_dn3, ne_up4, ne_dn4, Nat.reduceEqDiff, Nat.one_ne_zero, Nat.succ_ne_zero, Nat.zero_ne_one, reduceIte, List.set_cons_zero, List.set_cons_succ] at F53
          refine hK.out _ _ ?_ (fun hHeld => ?_)
          · (try dsimp only); go_keep
          clear hK K
          try simp only [Act.put, List.setIfInBounds_toArray, List.set_cons_zero, List.set_cons_succ]
          refine AnyX.go (rs := [9]) (by kernel_rfl) (by simp) ?_
          refine AllX.consL (o := _) rfl (fun K hK => ?_) ?_
          · go_simp
            have L54 := hide (L53.out.put [.int .i64 0, .int .i64 0, .int .i64 0] 23)
            have F54 := L54.out.at; simp only [AllAt, CellsAt, updL, List.map, Nat.zero_add, Nat.reduceAdd, and_true, World.size_alloc, World.heap_drewN, heap_drew, size_set, Nat.add_eq_left, Nat.left_eq_add, Nat.add_right_cancel_iff, ne_up2, ne_dn2, ne_up3, ne_dn3, ne_up4, ne_dn4, Nat.reduceEqDiff, Nat.one_ne_zero, Nat.succ_ne_zero, Nat.zero_ne_one, reduceIte, List.set_cons_zero, List.set_cons_succ] at F54
            refine hK.out _ _ ?_ (fun hHeld => ?_)
            · (try dsimp only); go_keep
            clear hK K
            try simp only [Act.put, List.setIfInBounds_toArray, List.set_cons_zero, List.set_cons_succ]
            have q1 : ¬ w52.heap.size = w52.heap.size + 1 ∧ ¬ w52.heap.size + 1 = w52.heap.size := (by omega)
            have q2 : ¬ w52.heap.size = w.heap.size ∧ ¬ w.heap.size = w52.heap.size := (by omega)
            have q3 : ¬ w52.heap.size + 1 = w.heap.size ∧ ¬ w.heap.size = w52.heap.size + 1 := (by omega)
            have q4 : w.heap.size ≤ w52.heap.size ∧ w.heap.size ≤ w52.heap.size + 1 := (by omega)
            refine AnyX.go (rs := [10]) (by kernel_rfl) (by simp) (AllX.consL (o := _) rfl (fun K hK => ?_) AllX.nil)
            go_simp
            refine hK.out _ _ ?_ (fun hHeld => ?_)
            · (try dsimp only); go_keep
            clear hK K
            try simp only [Act.put, List.setIfInBounds_toArray, List.set_cons_zero, List.set_cons_succ]
            refine AnyX.go (rs := [11]) (by kernel_rfl) (by simp) (AllX.consL (o := _) rfl (fun K hK => ?_) AllX.nil)
            go_simp
            refine hK.out _ _ ?_ (fun hHeld => ?_)
            · (try dsimp only); go_keep
            clear hK K
            try simp only [Act.put, List.setIfInBounds_toArray, List.set_cons_zero, List.set_cons_succ]
            refine' AnyX.takeL (i := 12) (oi := _) (v := _) rfl (by kernel_rfl) (by kernel_rfl) (by kernel_rfl) (by kernel_rfl) (fun _ _ _ h => h) (Or.inl ⟨by rfl, ?hy7⟩) (by assumption) ?rest7
            case hy7 => (intro w' hSw; (try dsimp only at hSw); go_simp; (first | done | with_reducible rfl))
            try simp only [Act.put, List.setIfInBounds_toArray, List.set_cons_zero, List.set_cons_succ]
            refine AnyX.done (by kernel_rfl) ?_ _
            refine NoPanic.normal ?_
            go_wp2_with fail
            go_meet
            refine ⟨w52.heap.size, w52.heap.size + 1, rfl, rfl, rfl, ⟨q1, q2, q3⟩, hide ?_⟩
            skip
            have h := ((L52.out).put [.int .i64 0, .int .i64 0, .int .i64 0, .int .i64 0, .int .i64 0, .int .i64 0] 40).put [.int .i64 0, .int .i64 0, .int .i64 0] 23
            try simp only [World.size_alloc, World.heap_drewN, heap_drew, Nat.add_assoc, Nat.reduceAdd] at h
            have h4 := Lv.of (L' := [(w52.heap.size, 40, [.int .i64 0, .int .i64 0, .int .i64 0, .int .i64 0, .int .i64 0, .int .i64 0]), (w52.heap.size + 1, 23, [.int .i64 0, .int .i64 0, .int .i64 0]), (w.heap.size, 23, [.int .i64 a, .int .i64 b, .int .i64 c])]) h (by simp)
            with_reducible exact h4
          exact AllX.nil
        refine AllX.consL (o := _) rfl (fun K hK => ?_) ?_
        · go_simp
          have L55 := hide (L52.out.put [.int .i64 0, .int .i64 0, .int .i64 0] 23)
          have F55 := L55.out.at; simp only [AllAt, CellsAt, updL, List.map, Nat.zero_add, Nat.reduceAdd, and_true, World.size_alloc, World.heap_drewN, heap_drew, size_set, Nat.add_eq_left, Nat.left_eq_add, Nat.add_right_cancel_iff, ne_up2, ne_dn2, ne_up3, ne_dn3, ne_up4, ne_dn4, Nat.reduceEqDiff, Nat.one_ne_zero, Nat.succ_ne_zero, Nat.zero_ne_one, reduceIte, List.set_cons_zero, List.set_cons_succ] at F55
          refine hK.out _ _ ?_ (fun hHeld => ?_)
          · (try dsimp only); go_keep
          clear hK K
          try simp only [Act.put, List.setIfInBounds_toArray, List.set_cons_zero, List.set_cons_succ]
          refine AnyX.go (rs := [8]) (by kernel_rfl) (by simp) ?_
          refine AllX.consL (o := _) rfl (fun K hK => ?_) ?_
          · go_simp
            have L56 := hide (L55.out.put [.int .i64 0, .int .i64 0, .int .i64 0, .int .i64 0, .int .i64 0, .int .i64 0] 40)
            have F56 := L56.out.at; simp only [AllAt, CellsAt, updL, List.map, Nat.zero_add, Nat.reduceAdd, and_true, World.size_alloc, World.heap_drewN, heap_drew, size_set, Nat.add_eq_left, Nat.left_eq_add, Nat.add_right_cancel_iff, ne_up2, ne_dn2, ne_up3, ne_dn3, ne_up4, ne_dn4, Nat.reduceEqDiff, Nat.one_ne_zero, Nat.succ_ne_zero, Nat.zero_ne_one, reduceIte, List.set_cons_zero, List.set_cons_succ] at F56
            refine hK.out _ _ ?_ (fun hHeld => ?_)
            · (try dsimp only); go_keep
            clear hK K
            try simp only [Act.put, List.setIfInBounds_toArray, List.set_cons_zero, List.set_cons_succ]
            have q1 : ¬ w52.heap.size + 1 = w52.heap.size ∧ ¬ w52.heap.size = w52.heap.size + 1 := (by omega)
            have q2 : ¬ w52.heap.size + 1 = w.heap.size ∧ ¬ w.heap.size = w52.heap.size + 1 := (by omega)
            have q3 : ¬ w52.heap.size = w.heap.size ∧ ¬ w.heap.size = w52.heap.size := (by omega)
            have q4 : w.heap.size ≤ w52.heap.size + 1 ∧ w.heap.size ≤ w52.heap.size := (by omega)
            refine AnyX.go (rs := [10]) (by kernel_rfl) (by simp) (AllX.consL (o := _) rfl (fun K hK => ?_) AllX.nil)
            go_simp
            refine hK.out _ _ ?_ (fun hHeld => ?_)
            · (try dsimp only); go_keep
            clear hK K
            try simp only [Act.put, List.setIfInBounds_toArray, List.set_cons_zero, List.set_cons_succ]
            refine AnyX.go (rs := [11]) (by kernel_rfl) (by simp) (AllX.consL (o := _) rfl (fun K hK => ?_) AllX.nil)
            go_simp
            refine hK.out _ _ ?_ (fun hHeld => ?_)
            · (try dsimp only); go_keep
            clear hK K
            try simp only [Act.put, List.setIfInBounds_toArray, List.set_cons_zero, List.set_cons_succ]
            refine' AnyX.takeL (i := 12) (oi := _) (v := _) rfl (by kernel_rfl) (by kernel_rfl) (by kernel_rfl) (by kernel_rfl) (fun _ _ _ h => h) (Or.inl ⟨by rfl, ?hy8⟩) (by assumption) ?rest8
            case hy8 => (intro w' hSw; (try dsimp only at hSw); go_simp; (first | done | with_reducible rfl))
            try simp only [Act.put, List.setIfInBounds_toArray, List.set_cons_zero, List.set_cons_succ]
            refine AnyX.done (by kernel_rfl) ?_ _
            refine NoPanic.normal ?_
            go_wp2_with fail
            go_meet
            refine ⟨w52.heap.size + 1, w52.heap.size, rfl, rfl, rfl, ⟨q1, q2, q3⟩, hide ?_⟩
            skip
            have h := ((L52.out).put [.int .i64 0, .int .i64 0, .int .i64 0] 23).put [.int .i64 0, .int .i64 0, .int .i64 0, .int .i64 0, .int .i64 0, .int .i64 0] 40
            try simp only [World.size_alloc, World.heap_drewN, heap_drew, Nat.add_assoc, Nat.reduceAdd] at h
            have h4 := Lv.of (L' := [(w52.heap.size + 1, 40, [.int .i64 0, .int .i64 0, .int .i64 0, .int .i64 0, .int .i64 0, .int .i64 0]), (w52.heap.size, 23, [.int .i64 0, .int .i64 0, .int .i64 0]), (w.heap.size, 23, [.int .i64 a, .int .i64 b, .int .i64 c])]) h (by simp)
            with_reducible exact h4
          exact AllX.nil
        exact AllX.nil
      refine AllX.consL (o := _) rfl (fun K hK => ?_) ?_
      · go_simp
        have L57 := hide (L51.out.put [.int .i64 0, .int .i64 0, .int .i64 0, .int .i64 0, .int .i64 0, .int .i64 0] 40)
        have F57 := L57.out.at; simp only [AllAt, CellsAt, updL, List.map, Nat.zero_add, Nat.reduceAdd, and_true, World.size_alloc, World.heap_drewN, heap_drew, size_set, Nat.add_eq_left, Nat.left_eq_add, Nat.add_right_cancel_iff, ne_up2, ne_dn2, ne_up3, ne_dn3, ne_up4, ne_dn4, Nat.reduceEqDiff, Nat.one_ne_zero, Nat.succ_ne_zero, Nat.zero_ne_one, reduceIte, List.set_cons_zero, List.set_cons_succ] at F57
        refine hK.out _ _ ?_ (fun hHeld => ?_)
        · (try dsimp only); go_keep
        clear hK K
        try simp only [Act.put, List.setIfInBounds_toArray, List.set_cons_zero, List.set_cons_succ]
        refine AnyX.go (rs := [3, 9]) (by kernel_rfl) (by simp) ?_
        refine AllX.consL (o := _) rfl (fun K hK => ?_) ?_
        · go_simp
          go_at_call 27
          first | (with_reducible refine Lv.call (CX.out _ _ _ RC.out) (L57.out) ?_) | (with_reducible refine Lv.call (CX.out _ _ _ (RC.out.on ((Below.refl _ _).alloc (Nat.le_refl _) _))) (L57.out) ?_) | (with_reducible refine Lv.call (CX.out _ _ _ (RC.out.on (((Below.refl _ _).alloc (Nat.le_refl _) _).alloc (by simp) _))) (L57.out) ?_)
          intro w58 L58'; have L58 := hide L58'; have F58 := L58'.at; clear L58'; simp only [AllAt, CellsAt, updL, List.map, Nat.zero_add, Nat.reduceAdd, and_true, World.size_alloc, World.heap_drewN, heap_drew, size_set, Nat.add_eq_left, Nat.left_eq_add, Nat.add_right_cancel_iff, ne_up2, ne_dn2, ne_up3, ne_dn3, ne_up4, ne_dn4, Nat.reduceEqDiff, Nat.one_ne_zero, Nat.succ_ne_zero, Nat.zero_ne_one, reduceIte, List.set_cons_zero, List.set_cons_succ] at F58
          go_wp2_with fail
          refine hK.out _ _ ?_ (fun hHeld => ?_)
          · (try dsimp only); go_keep
          clear hK K
          try simp only [Act.put, List.setIfInBounds_toArray, List.set_cons_zero, List.set_cons_succ]
          refine' AnyX.takeL (i := 4) (oi := _) (v := _) rfl (by kernel_rfl) (by kernel_rfl) (by kernel_rfl) (by kernel_rfl) (fun _ _ _ h => h) (Or.inl ⟨by rfl, ?hy9⟩) (by assumption) ?rest9
          case hy9 => (intro w' hSw; (try dsimp only at hSw); go_simp; (first | done | with_reducible rfl))
          try simp only [Act.put, List.setIfInBounds_toArray, List.set_cons_zero, List.set_cons_succ]
          refine' AnyX.takeL (i := 5) (oi := _) (v := _) rfl (by kernel_rfl) (by kernel_rfl) (by kernel_rfl) (by kernel_rfl) (fun _ _ _ h => h) (Or.inl ⟨by rfl, ?hy10⟩) (by assumption) ?rest10
          case hy10 => (intro w' hSw; (try dsimp only at hSw); go_simp; (first | done | with_reducible rfl))
          try simp only [Act.put, List.setIfInBounds_toArray, List.set_cons_zero, List.set_cons_succ]
          refine' AnyX.takeL (i := 6) (oi := _) (v := _) rfl (by kernel_rfl) (by kernel_rfl) (by kernel_rfl) (by kernel_rfl) (fun _ _ _ h => h) (Or.inl ⟨by rfl, ?hy11⟩) (by assumption) ?rest11
          case hy11 => (intro w' hSw; (try dsimp only at hSw); go_simp; (first | done | with_reducible rfl))
          try simp only [Act.put, List.setIfInBounds_toArray, List.set_cons_zero, List.set_cons_succ]
          refine' AnyX.takeL (i := 7) (oi := _) (v := _) rfl (by kernel_rfl) (by kernel_rfl) (by kernel_rfl) (by kernel_rfl) (fun _ _ _ h => h) (Or.inl ⟨by rfl, ?hy12⟩) (by assumption) ?rest12
          case hy12 => (intro w' hSw; (try dsimp only at hSw); go_simp; (first | done | with_reducible rfl))
          try simp only [Act.put, List.setIfInBounds_toArray, List.set_cons_zero, List.set_cons_succ]
          refine AnyX.go (rs := [9]) (by kernel_rfl) (by simp) ?_
          refine AllX.consL (o := _) rfl (fun K hK => ?_) ?_
          · go_simp
            have L59 := hide (L58.out.put [.int .i64 0, .int .i64 0, .int .i64 0] 23)
            have F59 := L59.out.at; simp only [AllAt, CellsAt, updL, List.map, Nat.zero_add, Nat.reduceAdd, and_true, World.size_alloc, World.heap_drewN, heap_drew, size_set, Nat.add_eq_left, Nat.left_eq_add, Nat.add_right_cancel_iff, ne_up2, ne_dn2, ne_up3, ne_dn3, ne_up4, ne_dn4, Nat.reduceEqDiff, Nat.one_ne_zero, Nat.succ_ne_zero, Nat.zero_ne_one, reduceIte, List.set_cons_zero, List.set_cons_succ] at F59
            refine hK.out _ _ ?_ (fun hHeld => ?_)
            · (try dsimp only); go_keep
            clear hK K
            try simp only [Act.put, List.setIfInBounds_toArray, List.set_cons_zero, List.set_cons_succ]
            have q1 : ¬ w51.heap.size = w58.heap.size ∧ ¬ w58.heap.size = w51.heap.size := (by omega)
            have q2 : ¬ w51.heap.size = w.heap.size ∧ ¬ w.heap.size = w51.heap.size := (by omega)
            have q3 : ¬ w58.heap.size = w.heap.size ∧ ¬ w.heap.size = w58.heap.size := (by omega)
            have q4 : w.heap.size ≤ w51.heap.size ∧ w.heap.size ≤ w58.heap.size := (by omega)
            refine AnyX.go (rs := [10]) (by kernel_rfl) (by simp) (AllX.consL (o := _) rfl (fun K hK => ?_) AllX.nil)
            go_simp
            refine hK.out _ _ ?_ (fun hHeld => ?_)
            · (try dsimp only); go_keep
            clear hK K
            try simp only [Act.put, List.setIfInBounds_toArray, List.set_cons_zero, List.set_cons_succ]
            refine AnyX.go (rs := [11]) (by kernel_rfl) (by simp) (AllX.consL (o := _) rfl (fun K hK => ?_) AllX.nil)
            go_simp
            refine hK.out _ _ ?_ (fun hHeld => ?_)
            · (try dsimp only); go_keep
            clear hK K
            try simp only [Act.put, List.setIfInBounds_toArray, List.set_cons_zero, List.set_cons_succ]
            refine' AnyX.takeL (i := 12) (oi := _) (v := _) rfl (by kernel_rfl) (by kernel_rfl) (by kernel_rfl) (by kernel_rfl) (fun _ _ _ h => h) (Or.inl ⟨by rfl, ?hy13⟩) (by assumption) ?rest13
            case hy13 => (intro w' hSw; (try dsimp only at hSw); go_simp; (first | done | with_reducible rfl))
            try simp only [Act.put, List.setIfInBounds_toArray, List.set_cons_zero, List.set_cons_succ]
            refine AnyX.done (by kernel_rfl) ?_ _
            refine NoPanic.normal ?_
            go_wp2_with fail
            go_meet
            refine ⟨w51.heap.size, w58.heap.size, rfl, rfl, rfl, ⟨q1, q2, q3⟩, hide ?_⟩
            skip
            have h := L58.out
            try simp only [World.size_alloc, World.heap_drewN, heap_drew, Nat.add_assoc, Nat.reduceAdd] at h
            have h0 := Lv.of (L' := [(w51.heap.size, 40, [.int .i64 0, .int .i64 0, .int .i64 0, .int .i64 0, .int .i64 0, .int .i64 0]), (w.heap.size, 23, [.int .i64 a, .int .i64 b, .int .i64 c])]) h (by simp)
            have h1 := h0.stored6 (u1 := .int .i64 0) (u2 := .int .i64 0) (u3 := .int .i64 0) (u4 := .int .i64 0) (u5 := .int .i64 0) (u6 := .int .i64 0) q4.1 (by simp [q2.2])
            clear h
            have h := h1.put [.int .i64 0, .int .i64 0, .int .i64 0] 23
            try simp only [World.size_alloc, size_set, World.heap_drewN, heap_drew, Nat.add_assoc, Nat.reduceAdd] at h
            have h4 := Lv.of (L' := [(w51.heap.size, 40, [.int .i64 0, .int .i64 0, .int .i64 0, .int .i64 0, .int .i64 0, .int .i64 0]), (w58.heap.size, 23, [.int .i64 0, .int .i64 0, .int .i64 0]), (w.heap.size, 23, [.int .i64 a, .int .i64 b, .int .i64 c])]) h (by simp)
            with_reducible exact h4
          exact AllX.nil
        refine AllX.consL (o := _) rfl (fun K hK => ?_) ?_
        · go_simp
          have L60 := hide (L57.out.put [.int .i64 0, .int .i64 0, .int .i64 0] 23)
          have F60 := L60.out.at; simp only [AllAt, CellsAt, updL, List.map, Nat.zero_add, Nat.reduceAdd, and_true, World.size_alloc, World.heap_drewN, heap_drew, size_set, Nat.add_eq_left, Nat.left_eq_add, Nat.add_right_cancel_iff, ne_up2, ne_dn2, ne_up3, ne_dn3, ne_up4, ne_dn4, Nat.reduceEqDiff, Nat.one_ne_zero, Nat.succ_ne_zero, Nat.zero_ne_one, reduceIte, List.set_cons_zero, List.set_cons_succ] at F60
          refine hK.out _ _ ?_ (fun hHeld => ?_)
          · (try dsimp only); go_keep
          clear hK K
          try simp only [Act.put, List.setIfInBounds_toArray, List.set_cons_zero, List.set_cons_succ]
          refine AnyX.go (rs := [3]) (by kernel_rfl) (by simp) ?_
          refine AllX.consL (o := _) rfl (fun K hK => ?_) ?_
          · go_simp
            go_at_call 27
            first | (with_reducible refine Lv.call (CX.out _ _ _ RC.out) (L60.out) ?_) | (with_reducible refine Lv.call (CX.out _ _ _ (RC.out.on ((Below.refl _ _).alloc (Nat.le_refl _) _))) (L60.out) ?_) | (with_reducible refine Lv.call (CX.out _ _ _ (RC.out.on (((Below.refl _ _).alloc (Nat.le_refl _) _).alloc (by simp) _))) (L60.out) ?_)
            intro w61 L61'; have L61 := hide L61'; have F61 := L61'.at; clear L61'; simp only [AllAt, CellsAt, updL, List.map, Nat.zero_add, Nat.reduceAdd, and_true, World.size_alloc, World.heap_drewN, heap_drew, size_set, Nat.add_eq_left, Nat.left_eq_add, Nat.add_right_cancel_iff, ne_up2, ne_dn2, ne_up3, ne_dn3, ne_up4, ne_dn4, Nat.reduceEqDiff, Nat.one_ne_zero, Nat.succ_ne_zero, Nat.zero_ne_one, reduceIte, List.set_cons_zero, List.set_cons_succ] at F61
            go_wp2_with fail
            refine hK.out _ _ ?_ (fun hHeld => ?_)
            · (try dsimp only); go_keep
            clear hK K
            try simp only [Act.put, List.setIfInBounds_toArray, List.set_cons_zero, List.set_cons_succ]
            refine' AnyX.takeL (i := 4) (oi := _) (v := _) rfl (by kernel_rfl) (by kernel_rfl) (by kernel_rfl) (by kernel_rfl) (fun _ _ _ h => h) (Or.inl ⟨by rfl, ?hy14⟩) (by assumption) ?rest14
            case hy14 => (intro w' hSw; (try dsimp only at hSw); go_simp; (first | done | with_reducible rfl))
            try simp only [Act.put, List.setIfInBounds_toArray, List.set_cons_zero, List.set_cons_succ]
            refine' AnyX.takeL (i := 5) (oi := _) (v := _) rfl (by kernel_rfl) (by kernel_rfl) (by kernel_rfl) (by kernel_rfl) (fun _ _ _ h => h) (Or.inl ⟨by rfl, ?hy15⟩) (by assumption) ?rest15
            case hy15 => (intro w' hSw; (try dsimp only at hSw); go_simp; (first | done | with_reducible rfl))
            try simp only [Act.put, List.setIfInBounds_toArray, List.set_cons_zero, List.set_cons_succ]
            refine' AnyX.takeL (i := 6) (oi := _) (v := _) rfl (by kernel_rfl) (by kernel_rfl) (by kernel_rfl) (by kernel_rfl) (fun _ _ _ h => h) (Or.inl ⟨by rfl, ?hy16⟩) (by assumption) ?rest16
            case hy16 => (intro w' hSw; (try dsimp only at hSw); go_simp; (first | done | with_reducible rfl))
            try simp only [Act.put, List.setIfInBounds_toArray, List.set_cons_zero, List.set_cons_succ]
            refine' AnyX.takeL (i := 7) (oi := _) (v := _) rfl (by kernel_rfl) (by kernel_rfl) (by kernel_rfl) (by kernel_rfl) (fun _ _ _ h => h) (Or.inl ⟨by rfl, ?hy17⟩) (by assumption) ?rest17
            case hy17 => (intro w' hSw; (try dsimp only at hSw); go_simp; (first | done | with_reducible rfl))
            try simp only [Act.put, List.setIfInBounds_toArray, List.set_cons_zero, List.set_cons_succ]
            have q1 : ¬ w51.heap.size = w51.heap.size + 1 ∧ ¬ w51.heap.size + 1 = w51.heap.size := (by omega)
            have q2 : ¬ w51.heap.size = w.heap.size ∧ ¬ w.heap.size = w51.heap.size := (by omega)
            have q3 : ¬ w51.heap.size + 1 = w.heap.size ∧ ¬ w.heap.size = w51.heap.size + 1 := (by omega)
            have q4 : w.heap.size ≤ w51.heap.size ∧ w.heap.size ≤ w51.heap.size + 1 := (by omega)
            refine AnyX.go (rs := [10]) (by kernel_rfl) (by simp) (AllX.consL (o := _) rfl (fun K hK => ?_) AllX.nil)
            go_simp
            refine hK.out _ _ ?_ (fun hHeld => ?_)
            · (try dsimp only); go_keep
            clear hK K
            try simp only [Act.put, List.setIfInBounds_toArray, List.set_cons_zero, List.set_cons_succ]
            refine AnyX.go (rs := [11]) (by kernel_rfl) (by simp) (AllX.consL (o := _) rfl (fun K hK => ?_) AllX.nil)
            go_simp
            refine hK.out _ _ ?_ (fun hHeld => ?_)
            · (try dsimp only); go_keep
            clear hK K
            try simp only [Act.put, List.setIfInBounds_toArray, List.set_cons_zero, List.set_cons_succ]
            refine' AnyX.takeL (i := 12) (oi := _) (v := _) rfl (by kernel_rfl) (by kernel_rfl) (by kernel_rfl) (by kernel_rfl) (fun _ _ _ h => h) (Or.inl ⟨by rfl, ?hy18⟩) (by assumption) ?rest18
            case hy18 => (intro w' hSw; (try dsimp only at hSw); go_simp; (first | done | with_reducible rfl))
            try simp only [Act.put, List.setIfInBounds_toArray, List.set_cons_zero, List.set_cons_succ]
            refine AnyX.done (by kernel_rfl) ?_ _
            refine NoPanic.normal ?_
            go_wp2_with fail
            go_meet
            refine ⟨w51.heap.size, w51.heap.size + 1, rfl, rfl, rfl, ⟨q1, q2, q3⟩, hide ?_⟩
            skip
            have h := L61.out
            try simp only [World.size_alloc, World.heap_drewN, heap_drew, Nat.add_assoc, Nat.reduceAdd] at h
            have h0 := Lv.of (L' := [(w51.heap.size, 40, [.int .i64 0, .int .i64 0, .int .i64 0, .int .i64 0, .int .i64 0, .int .i64 0]), (w51.heap.size + 1, 23, [.int .i64 0, .int .i64 0, .int .i64 0]), (w.heap.size, 23, [.int .i64 a, .int .i64 b, .int .i64 c])]) h (by simp)
            have h1 := h0.stored6 (u1 := .int .i64 0) (u2 := .int .i64 0) (u3 := .int .i64 0) (u4 := .int .i64 0) (u5 := .int .i64 0) (u6 := .int .i64 0) q4.1 (by simp [q1.2, q2.2])
            have h2 := Lv.of (L' := [(w51.heap.size + 1, 23, [.int .i64 0, .int .i64 0, .int .i64 0]), (w51.heap.size, 40, [.int .i64 0, .int .i64 0, .int .i64 0, .int .i64 0, .int .i64 0, .int .i64 0]), (w.heap.size, 23, [.int .i64 a, .int .i64 b, .int .i64 c])]) h1 (by simp)
            clear h
            have h := h2.stored3 (u1 := .int .i64 0) (u2 := .int .i64 0) (u3 := .int .i64 0) q4.2 (by simp [q1.1, q3.2])
            try simp only [World.size_alloc, size_set, World.heap_drewN, heap_drew, Nat.add_assoc, Nat.reduceAdd] at h
            have h4 := Lv.of (L' := [(w51.heap.size, 40, [.int .i64 0, .int .i64 0, .int .i64 0, .int .i64 0, .int .i64 0, .int .i64 0]), (w51.heap.size + 1, 23, [.int .i64 0, .int .i64 0, .int .i64 0]), (w.heap.size, 23, [.int .i64 a, .int .i64 b, .int .i64 c])]) h (by simp)
            with_reducible exact h4
          exact AllX.nil
        exact AllX.nil
      refine AllX.consL (o := _) rfl (fun K hK => ?_) ?_
      · go_simp
        have L62 := hide (L51.out.put [.int .i64 0, .int .i64 0, .int .i64 0] 23)
        have F62 := L62.out.at; simp only [AllAt, CellsAt, updL, List.map, Nat.zero_add, Nat.reduceAdd, and_true, World.size_alloc, World.heap_drewN, heap_drew, size_set, Nat.add_eq_left, Nat.left_eq_add, Nat.add_right_cancel_iff, ne_up2, ne_dn2, ne_up3, ne_dn3, ne_up4, ne_dn4, Nat.reduceEqDiff, Nat.one_ne_zero, Nat.succ_ne_zero, Nat.zero_ne_one, reduceIte, List.set_cons_zero, List.set_cons_succ] at F62
        refine hK.out _ _ ?_ (fun hHeld => ?_)
        · (try dsimp only); go_keep
        clear hK K
        try simp only [Act.put, List.setIfInBounds_toArray, List.set_cons_zero, List.set_cons_succ]
        refine AnyX.go (rs := [3, 8]) (by kernel_rfl) (by simp) ?_
        refine AllX.consL (o := _) rfl (fun K hK => ?_) ?_
        · go_simp
          go_at_call 27
          first | (with_reducible refine Lv.call (CX.out _ _ _ RC.out) (L62.out) ?_) | (with_reducible refine Lv.call (CX.out _ _ _ (RC.out.on ((Below.refl _ _).alloc (Nat.le_refl _) _))) (L62.out) ?_) | (with_reducible refine Lv.call (CX.out _ _ _ (RC.out.on (((Below.refl _ _).alloc (Nat.le_refl _) _).alloc (by simp) _))) (L62.out) ?_)
          intro w63 L63'; have L63 := hide L63'; have F63 := L63'.at; clear L63'; simp only [AllAt, CellsAt, updL, List.map, Nat.zero_add, Nat.reduceAdd, and_true, World.size_alloc, World.heap_drewN, heap_drew, size_set, Nat.add_eq_left, Nat.left_eq_add, Nat.add_right_cancel_iff, ne_up2, ne_dn2, ne_up3, ne_dn3, ne_up4, ne_dn4, Nat.reduceEqDiff, Nat.one_ne_zero, Nat.succ_ne_zero, Nat.zero_ne_one, reduceIte, List.set_cons_zero, List.set_cons_succ] at F63
          go_wp2_with fail
          refine hK.out _ _ ?_ (fun hHeld => ?_)
          · (try dsimp only); go_keep
          clear hK K
          try simp only [Act.put, List.setIfInBounds_toArray, List.set_cons_zero, List.set_cons_succ]
          refine' AnyX.takeL (i := 4) (oi := _) (v := _) rfl (by kernel_rfl) (by kernel_rfl) (by kernel_rfl) (by kernel_rfl) (fun _ _ _ h => h) (Or.inl ⟨by rfl, ?hy19⟩) (by assumption) ?rest19
          case hy19 => (intro w' hSw; (try dsimp only at hSw); go_simp; (first | done | with_reducible rfl))
          try simp only [Act.put, List.setIfInBounds_toArray, List.set_cons_zero, List.set_cons_succ]
          refine' AnyX.takeL (i := 5) (oi := _) (v := _) rfl (by kernel_rfl) (by kernel_rfl) (by kernel_rfl) (by kernel_rfl) (fun _ _ _ h => h) (Or.inl ⟨by rfl, ?hy20⟩) (by assumption) ?rest20
          case hy20 => (intro w' hSw; (try dsimp only at hSw); go_simp; (first | done | with_reducible rfl))
          try simp only [Act.put, List.setIfInBounds_toArray, List.set_cons_zero, List.set_cons_succ]
          refine' AnyX.takeL (i := 6) (oi := _) (v := _) rfl (by kernel_rfl) (by kernel_rfl) (by kernel_rfl) (by kernel_rfl) (fun _ _ _ h => h) (Or.inl ⟨by rfl, ?hy21⟩) (by assumption) ?rest21
          case hy21 => (intro w' hSw; (try dsimp only at hSw); go_simp; (first | done | with_reducible rfl))
          try simp only [Act.put, List.setIfInBounds_toArray, List.set_cons_zero, List.set_cons_succ]
          refine' AnyX.takeL (i := 7) (oi := _) (v := _) rfl (by kernel_rfl) (by kernel_rfl) (by kernel_rfl) (by kernel_rfl) (fun _ _ _ h => h) (Or.inl ⟨by rfl, ?hy22⟩) (by assumption) ?rest22
          case hy22 => (intro w' hSw; (try dsimp only at hSw); go_simp; (first | done | with_reducible rfl))
          try simp only [Act.put, List.setIfInBounds_toArray, List.set_cons_zero, List.set_cons_succ]
          refine AnyX.go (rs := [8]) (by kernel_rfl) (by simp) ?_
          refine AllX.consL (o := _) rfl (fun K hK => ?_) ?_
          · go_simp
            have L64 := hide (L63.out.put [.int .i64 0, .int .i64 0, .int .i64 0, .int .i64 0, .int .i64 0, .int .i64 0] 40)
            have F64 := L64.out.at; simp only [AllAt, CellsAt, updL, List.map, Nat.zero_add, Nat.reduceAdd, and_true, World.size_alloc, World.heap_drewN, heap_drew, size_set, Nat.add_eq_left, Nat.left_eq_add, Nat.add_right_cancel_iff, ne_up2, ne_dn2, ne_up3, ne_dn3, ne_up4, ne_dn4, Nat.reduceEqDiff, Nat.one_ne_zero, Nat.succ_ne_zero, Nat.zero_ne_one, reduceIte, List.set_cons_zero, List.set_cons_succ] at F64
            refine hK.out _ _ ?_ (fun hHeld => ?_)
            · (try dsimp only); go_keep
            clear hK K
            try simp only [Act.put, List.setIfInBounds_toArray, List.set_cons_zero, List.set_cons_succ]
            have q1 : ¬ w63.heap.size = w51.heap.size ∧ ¬ w51.heap.size = w63.heap.size := (by omega)
            have q2 : ¬ w63.heap.size = w.heap.size ∧ ¬ w.heap.size = w63.heap.size := (by omega)
            have q3 : ¬ w51.heap.size = w.heap.size ∧ ¬ w.heap.size = w51.heap.size := (by omega)
            have q4 : w.heap.size ≤ w63.heap.size ∧ w.heap.size ≤ w51.heap.size := (by omega)
            refine AnyX.go (rs := [10]) (by kernel_rfl) (by simp) (AllX.consL (o := _) rfl (fun K hK => ?_) AllX.nil)
            go_simp
            refine hK.out _ _ ?_ (fun hHeld => ?_)
            · (try dsimp only); go_keep
            clear hK K
            try simp only [Act.put, List.setIfInBounds_toArray, List.set_cons_zero, List.set_cons_succ]
            refine AnyX.go (rs := [11]) (by kernel_rfl) (by simp) (AllX.consL (o := _) rfl (fun K hK => ?_) AllX.nil)
            go_simp
            refine hK.out _ _ ?_ (fun hHeld => ?_)
            · (try dsimp only); go_keep
            clear hK K
            try simp only [Act.put, List.setIfInBounds_toArray, List.set_cons_zero, List.set_cons_succ]
            refine' AnyX.takeL (i := 12) (oi := _) (v := _) rfl (by kernel_rfl) (by kernel_rfl) (by kernel_rfl) (by kernel_rfl) (fun _ _ _ h => h) (Or.inl ⟨by rfl, ?hy23⟩) (by assumption) ?rest23
            case hy23 => (intro w' hSw; (try dsimp only at hSw); go_simp; (first | done | with_reducible rfl))
            try simp only [Act.put, List.setIfInBounds_toArray, List.set_cons_zero, List.set_cons_succ]
            refine AnyX.done (by kernel_rfl) ?_ _
            refine NoPanic.normal ?_
            go_wp2_with fail
            go_meet
            refine ⟨w63.heap.size, w51.heap.size, rfl, rfl, rfl, ⟨q1, q2, q3⟩, hide ?_⟩
            skip
            have h := L63.out
            try simp only [World.size_alloc, World.heap_drewN, heap_drew, Nat.add_assoc, Nat.reduceAdd] at h
            have h0 := Lv.of (L' := [(w51.heap.size, 23, [.int .i64 0, .int .i64 0, .int .i64 0]), (w.heap.size, 23, [.int .i64 a, .int .i64 b, .int .i64 c])]) h (by simp)
            have h1 := h0.stored3 (u1 := .int .i64 0) (u2 := .int .i64 0) (u3 := .int .i64 0) q4.2 (by simp [q3.2])
            clear h
            have h := h1.put [.int .i64 0, .int .i64 0, .int .i64 0, .int .i64 0, .int .i64 0, .int .i64 0] 40
            try simp only [World.size_alloc, size_set, World.heap_drewN, heap_drew, Nat.add_assoc, Nat.reduceAdd] at h
            have h4 := Lv.of (L' := [(w63.heap.size, 40, [.int .i64 0, .int .i64 0, .int .i64 0, .int .i64 0, .int .i64 0, .int .i64 0]), (w51.heap.size, 23, [.int .i64 0, .int .i64 0, .int .i64 0]), (w.heap.size, 23, [.int .i64 a, .int .i64 b, .int .i64 c])]) h (by simp)
            with_reducible exact h4
          exact AllX.nil
        refine AllX.consL (o := _) rfl (fun K hK => ?_) ?_
        · go_simp
          have L65 := hide (L62.out.put [.int .i64 0, .int .i64 0, .int .i64 0, .int .i64 0, .int .i64 0, .int .i64 0] 40)
          have F65 := L65.out.at; simp only [AllAt, CellsAt, updL, List.map, Nat.zero_add, Nat.reduceAdd, and_true, World.size_alloc, World.heap_drewN, heap_drew, size_set, Nat.add_eq_left, Nat.left_eq_add, Nat.add_right_cancel_iff, ne_up2, ne_dn2, ne_up3, ne_dn3, ne_up4, ne_dn4, Nat.reduceEqDiff, Nat.one_ne_zero, Nat.succ_ne_zero, Nat.zero_ne_one, reduceIte, List.set_cons_zero, List.set_cons_succ] at F65
          refine hK.out _ _ ?_ (fun hHeld => ?_)
          · (try dsimp only); go_keep
          clear hK K
          try simp only [Act.put, List.setIfInBounds_toArray, List.set_cons_zero, List.set_cons_succ]
          refine AnyX.go (rs := [3]) (by kernel_rfl) (by simp) ?_
          refine AllX.consL (o := _) rfl (fun K hK => ?_) ?_
          · go_simp
            go_at_call 27
            first | (with_reducible refine Lv.call (CX.out _ _ _ RC.out) (L65.out) ?_) | (with_reducible refine Lv.call (CX.out _ _ _ (RC.out.on ((Below.refl _ _).alloc (Nat.le_refl _) _))) (L65.out) ?_) | (with_reducible refine Lv.call (CX.out _ _ _ (RC.out.on (((Below.refl _ _).alloc (Nat.le_refl _) _).alloc (by simp) _))) (L65.out) ?_)
            intro w66 L66'; have L66 := hide L66'; have F66 := L66'.at; clear L66'; simp only [AllAt, CellsAt, updL, List.map, Nat.zero_add, Nat.reduceAdd, and_true, World.size_alloc, World.heap_drewN, heap_drew, size_set, Nat.add_eq_left, Nat.left_eq_add, Nat.add_right_cancel_iff, ne_up2, ne_dn2, ne_up3, ne_dn3, ne_up4, ne_dn4, Nat.reduceEqDiff, Nat.one_ne_zero, Nat.succ_ne_zero, Nat.zero_ne_one, reduceIte, List.set_cons_zero, List.set_cons_succ] at F66
            go_wp2_with fail
            refine hK.out _ _ ?_ (fun hHeld => ?_)
            · (try dsimp only); go_keep
            clear hK K
            try simp only [Act.put, List.setIfInBounds_toArray, List.set_cons_zero, List.set_cons_succ]
            refine' AnyX.takeL (i := 4) (oi := _) (v := _) rfl (by kernel_rfl) (by kernel_rfl) (by kernel_rfl) (by kernel_rfl) (fun _ _ _ h => h) (Or.inl ⟨by rfl, ?hy24⟩) (by assumption) ?rest24
            case hy24 => (intro w' hSw; (try dsimp only at hSw); go_simp; (first | done | with_reducible rfl))
            try simp only [Act.put, List.setIfInBounds_toArray, List.set_cons_zero, List.set_cons_succ]
            refine' AnyX.takeL (i := 5) (oi := _) (v := _) rfl (by kernel_rfl) (by kernel_rfl) (by kernel_rfl) (by kernel_rfl) (fun _ _ _ h => h) (Or.inl ⟨by rfl, ?hy25⟩) (by assumption) ?rest25
            case hy25 => (intro w' hSw; (try dsimp only at hSw); go_simp; (first | done | with_reducible rfl))
            try simp only [Act.put, List.setIfInBounds_toArray, List.set_cons_zero, List.set_cons_succ]
            refine' AnyX.takeL (i := 6) (oi := _) (v := _) rfl (by kernel_rfl) (by kernel_rfl) (by kernel_rfl) (by kernel_rfl) (fun _ _ _ h => h) (Or.inl ⟨by rfl, ?hy26⟩) (by assumption) ?rest26
            case hy26 => (intro w' hSw; (try dsimp only at hSw); go_simp; (first | done | with_reducible rfl))
            try simp only [Act.put, List.setIfInBounds_toArray, List.set_cons_zero, List.set_cons_succ]
            refine' AnyX.takeL (i := 7) (oi := _) (v := _) rfl (by kernel_rfl) (by kernel_rfl) (by kernel_rfl) (by kernel_rfl) (fun _ _ _ h => h) (Or.inl ⟨by rfl, ?hy27⟩) (by assumption) ?rest27
            case hy27 => (intro w' hSw; (try dsimp only at hSw); go_simp; (first | done | with_reducible rfl))
            try simp only [Act.put, List.setIfInBounds_toArray, List.set_cons_zero, List.set_cons_succ]
            have q1 : ¬ w51.heap.size + 1 = w51.heap.size ∧ ¬ w51.heap.size = w51.heap.size + 1 := (by omega)
            have q2 : ¬ w51.heap.size + 1 = w.heap.size ∧ ¬ w.heap.size = w51.heap.size + 1 := (by omega)
            have q3 : ¬ w51.heap.size = w.heap.size ∧ ¬ w.heap.size = w51.heap.size := (by omega)
            have q4 : w.heap.size ≤ w51.heap.size + 1 ∧ w.heap.size ≤ w51.heap.size := (by omega)
            refine AnyX.go (rs := [10]) (by kernel_rfl) (by simp) (AllX.consL (o := _) rfl (fun K hK => ?_) AllX.nil)
            go_simp
            refine hK.out _ _ ?_ (fun hHeld => ?_)
            · (try dsimp only); go_keep
            clear hK K
            try simp only [Act.put, List.setIfInBounds_toArray, List.set_cons_zero, List.set_cons_succ]
            refine AnyX.go (rs := [11]) (by kernel_rfl) (by simp) (AllX.consL (o := _) rfl (fun K hK => ?_) AllX.nil)
            go_simp
            refine hK.out _ _ ?_ (fun hHeld => ?_)
            · (try dsimp only); go_keep
            clear hK K
            try simp only [Act.put, List.setIfInBounds_toArray, List.set_cons_zero, List.set_cons_succ]
            refine' AnyX.takeL (i := 12) (oi := _) (v := _) rfl (by kernel_rfl) (by kernel_rfl) (by kernel_rfl) (by kernel_rfl) (fun _ _ _ h => h) (Or.inl ⟨by rfl, ?hy28⟩) (by assumption) ?rest28
            case hy28 => (intro w' hSw; (try dsimp only at hSw); go_simp; (first | done | with_reducible rfl))
            try simp only [Act.put, List.setIfInBounds_toArray, List.set_cons_zero, List.set_cons_succ]
            refine AnyX.done (by kernel_rfl) ?_ _
            refine NoPanic.normal ?_
            go_wp2_with fail
            go_meet
            refine ⟨w51.heap.size + 1, w51.heap.size, rfl, rfl, rfl, ⟨q1, q2, q3⟩, hide ?_⟩
            skip
            have h := L66.out
            try simp only [World.size_alloc, World.heap_drewN, heap_drew, Nat.add_assoc, Nat.reduceAdd] at h
            have h0 := Lv.of (L' := [(w51.heap.size + 1, 40, [.int .i64 0, .int .i64 0, .int .i64 0, .int .i64 0, .int .i64 0, .int .i64 0]), (w51.heap.size, 23, [.int .i64 0, .int .i64 0, .int .i64 0]), (w.heap.size, 23, [.int .i64 a, .int .i64 b, .int .i64 c])]) h (by simp)
            have h1 := h0.stored6 (u1 := .int .i64 0) (u2 := .int .i64 0) (u3 := .int .i64 0) (u4 := .int .i64 0) (u5 := .int .i64 0) (u6 := .int .i64 0) q4.1 (by simp [q1.2, q2.2])
            have h2 := Lv.of (L' := [(w51.heap.size, 23, [.int .i64 0, .int .i64 0, .int .i64 0]), (w51.heap.size + 1, 40, [.int .i64 0, .int .i64 0, .int .i64 0, .int .i64 0, .int .i64 0, .int .i64 0]), (w.heap.size, 23, [.int .i64 a, .int .i64 b, .int .i64 c])]) h1 (by simp)
            clear h
            have h := h2.stored3 (u1 := .int .i64 0) (u2 := .int .i64 0) (u3 := .int .i64 0) q4.2 (by simp [q1.1, q3.2])
            try simp only [World.size_alloc, size_set, World.heap_drewN, heap_drew, Nat.add_assoc, Nat.reduceAdd] at h
            have h4 := Lv.of (L' := [(w51.heap.size + 1, 40, [.int .i64 0, .int .i64 0, .int .i64 0, .int .i64 0, .int .i64 0, .int .i64 0]), (w51.heap.size, 23, [.int .i64 0, .int .i64 0, .int .i64 0]), (w.heap.size, 23, [.int .i64 a, .int .i64 b, .int .i64 c])]) h (by simp)
            with_reducible exact h4
          exact AllX.nil
        exact AllX.nil
      exact AllX.nil
    refine AllX.consL (o := _) rfl (fun K hK => ?_) ?_
    · go_simp
      have L67 := hide (L1.out.drew.put [.int .i64 0, .int .i64 0, .int .i64 0, .int .i64 0, .int .i64 0, .int .i64 0] 40)
      have F67 := L67.out.at; simp only [AllAt, CellsAt, updL, List.map, Nat.zero_add, Nat.reduceAdd, and_true, World.size_alloc, World.heap_drewN, heap_drew, size_set, Nat.add_eq_left, Nat.left_eq_add, Nat.add_right_cancel_iff, ne_up2, ne_dn2, ne_up3, ne_dn3, ne_up4, ne_dn4, Nat.reduceEqDiff, Nat.one_ne_zero, Nat.succ_ne_zero, Nat.zero_ne_one, reduceIte, List.set_cons_zero, List.set_cons_succ] at F67
      refine hK.out _ _ ?_ (fun hHeld => ?_)
      · (try dsimp only); go_keep
      clear hK K
      try simp only [Act.put, List.setIfInBounds_toArray, List.set_cons_zero, List.set_cons_succ]
      refine AnyX.go (rs := [1, 9]) (by kernel_rfl) (by simp) ?_
      refine AllX.consL (o := _) rfl (fun K hK => ?_) ?_
      · go_simp
        go_at_call 18
        refine (copied_any A n cap z _ (by omega) HNIL.out (HD.out.on (L67.out).below)).mono ?_
        rintro e w68 ⟨gc, cc, rfl, hr, hb⟩
        have RC := hide hr
        have L68 := hide ((L67.out).kept hb)
        clear hr hb
        have F68 := L68.out.at; simp only [AllAt, CellsAt, updL, List.map, Nat.zero_add, Nat.reduceAdd, and_true, World.size_alloc, World.heap_drewN, heap_drew, size_set, Nat.add_eq_left, Nat.left_eq_add, Nat.add_right_cancel_iff, ne_up2, ne_dn2, ne_up3, ne_dn3, ne_up4, ne_dn4, Nat.reduceEqDiff, Nat.one_ne_zero, Nat.succ_ne_zero, Nat.zero_ne_one, reduceIte, List.set_cons_zero, List.set_cons_succ] at F68
        go_wp2_with fail
        refine hK.out _ _ ?_ (fun hHeld => ?_)
        · (try dsimp only); go_keep
        clear hK K
        try simp only [Act.put, List.setIfInBounds_toArray, List.set_cons_zero, List.set_cons_succ]
        refine AnyX.go (rs := [3, 9]) (by kernel_rfl) (by simp) ?_
        refine AllX.consL (o := _) rfl (fun K hK => ?_) ?_
        · go_simp
          go_at_call 27
          first | (with_reducible refine Lv.call (CX.out _ _ _ RC.out) (L68.out) ?_) | (with_reducible refine Lv.call (CX.out _ _ _ (RC.out.on ((Below.refl _ _).alloc (Nat.le_refl _) _))) (L68.out) ?_) | (with_reducible refine Lv.call (CX.out _ _ _ (RC.out.on (((Below.refl _ _).alloc (Nat.le_refl _) _).alloc (by simp) _))) (L68.out) ?_)
          intro w69 L69'; have L69 := hide L69'; have F69 := L69'.at; clear L69'; simp only [AllAt, CellsAt, updL, List.map, Nat.zero_add, Nat.reduceAdd, and_true, World.size_alloc, World.heap_drewN, heap_drew, size_set, Nat.add_eq_left, Nat.left_eq_add, Nat.add_right_cancel_iff, ne_up2, ne_dn2, ne_up3, ne_dn3, ne_up4, ne_dn4, Nat.reduceEqDiff, Nat.one_ne_zero, Nat.succ_ne_zero, Nat.zero_ne_one, reduceIte, List.set_cons_zero, List.set_cons_succ] at F69
          go_wp2_with fail
          refine hK.out _ _ ?_ (fun hHeld => ?_)
          · (try dsimp only); go_keep
          clear hK K
          try simp only [Act.put, List.setIfInBounds_toArray, List.set_cons_zero, List.set_cons_succ]
          refine' AnyX.takeL (i := 4) (oi := _) (v := _) rfl (by kernel_rfl) (by kernel_rfl) (by kernel_rfl) (by kernel_rfl) (fun _ _ _ h => h) (Or.inl ⟨by rfl, ?hy29⟩) (by assumption) ?rest29
          case hy29 => (intro w' hSw; (try dsimp only at hSw); go_simp; (first | done | with_reducible rfl))
          try simp only [Act.put, List.setIfInBounds_toArray, List.set_cons_zero, List.set_cons_succ]
          refine' AnyX.takeL (i := 5) (oi := _) (v := _) rfl (by kernel_rfl) (by kernel_rfl) (by kernel_rfl) (by kernel_rfl) (fun _ _ _ h => h) (Or.inl ⟨by rfl, ?hy30⟩) (by assumption) ?rest30
          case hy30 => (intro w' hSw; (try dsimp only at hSw); go_simp; (first | done | with_reducible rfl))
          try simp only [Act.put, List.setIfInBounds_toArray, List.set_cons_zero, List.set_cons_succ]
          refine' AnyX.takeL (i := 6) (oi := _) (v := _) rfl (by kernel_rfl) (by kernel_rfl) (by kernel_rfl) (by kernel_rfl) (fun _ _ _ h => h) (Or.inl ⟨by rfl, ?hy31⟩) (by assumption) ?rest31
          case hy31 => (intro w' hSw; (try dsimp only at hSw); go_simp; (first | done | with_reducible rfl))
          try simp only [Act.put, List.setIfInBounds_toArray, List.set_cons_zero, List.set_cons_succ]
          refine' AnyX.takeL (i := 7) (oi := _) (v := _) rfl (by kernel_rfl) (by kernel_rfl) (by kernel_rfl) (by kernel_rfl) (fun _ _ _ h => h) (Or.inl ⟨by rfl, ?hy32⟩) (by assumption) ?rest32
          case hy32 => (intro w' hSw; (try dsimp only at hSw); go_simp; (first | done | with_reducible rfl))
          try simp only [Act.put, List.setIfInBounds_toArray, List.set_cons_zero, List.set_cons_succ]
          refine AnyX.go (rs := [9]) (by kernel_rfl) (by simp) ?_
          refine AllX.consL (o := _) rfl (fun K hK => ?_) ?_
          · go_simp
            have L70 := hide (L69.out.put [.int .i64 0, .int .i64 0, .int .i64 0] 23)
            have F70 := L70.out.at; simp only [AllAt, CellsAt, updL, List.map, Nat.zero_add, Nat.reduceAdd, and_true, World.size_alloc, World.heap_drewN, heap_drew, size_set, Nat.add_eq_left, Nat.left_eq_add, Nat.add_right_cancel_iff, ne_up2, ne_dn2, ne_up3, ne_dn3, ne_up4, ne_dn4, Nat.reduceEqDiff, Nat.one_ne_zero, Nat.succ_ne_zero, Nat.zero_ne_one, reduceIte, List.set_cons_zero, List.set_cons_succ] at F70
            refine hK.out _ _ ?_ (fun hHeld => ?_)
            · (try dsimp only); go_keep
            clear hK K
            try simp only [Act.put, List.setIfInBounds_toArray, List.set_cons_zero, List.set_cons_succ]
            have q1 : ¬ w1.heap.size = w69.heap.size ∧ ¬ w69.heap.size = w1.heap.size := (by omega)
            have q2 : ¬ w1.heap.size = w.heap.size ∧ ¬ w.heap.size = w1.heap.size := (by omega)
            have q3 : ¬ w69.heap.size = w.heap.size ∧ ¬ w.heap.size = w69.heap.size := (by omega)
            have q4 : w.heap.size ≤ w1.heap.size ∧ w.heap.size ≤ w69.heap.size := (by omega)
            refine AnyX.go (rs := [10]) (by kernel_rfl) (by simp) (AllX.consL (o := _) rfl (fun K hK => ?_) AllX.nil)
            go_simp
            refine hK.out _ _ ?_ (fun hHeld => ?_)
            · (try dsimp only); go_keep
            clear hK K
            try simp only [Act.put, List.setIfInBounds_toArray, List.set_cons_zero, List.set_cons_succ]
            refine AnyX.go (rs := [11]) (by kernel_rfl) (by simp) (AllX.consL (o := _) rfl (fun K hK => ?_) AllX.nil)
            go_simp
            refine hK.out _ _ ?_ (fun hHeld => ?_)
            · (try dsimp only); go_keep
            clear hK K
            try simp only [Act.put, List.setIfInBounds_toArray, List.set_cons_zero, List.set_cons_succ]
            refine' AnyX.takeL (i := 12) (oi := _) (v := _) rfl (by kernel_rfl) (by kernel_rfl) (by kernel_rfl) (by kernel_rfl) (fun _ _ _ h => h) (Or.inl ⟨by rfl, ?hy33⟩) (by assumption) ?rest33
            case hy33 => (intro w' hSw; (try dsimp only at hSw); go_simp; (first | done | with_reducible rfl))
            try simp only [Act.put, List.setIfInBounds_toArray, List.set_cons_zero, List.set_cons_succ]
            refine AnyX.done (by kernel_rfl) ?_ _
            refine NoPanic.normal ?_
            go_wp2_with fail
            go_meet
            refine ⟨w1.heap.size, w69.heap.size, rfl, rfl, rfl, ⟨q1, q2, q3⟩, hide ?_⟩
            skip
            have h := L69.out
            try simp only [World.size_alloc, World.heap_drewN, heap_drew, Nat.add_assoc, Nat.reduceAdd] at h
            have h0 := Lv.of (L' := [(w1.heap.size, 40, [.int .i64 0, .int .i64 0, .int .i64 0, .int .i64 0, .int .i64 0, .int .i64 0]), (w.heap.size, 23, [.int .i64 a, .int .i64 b, .int .i64 c])]) h (by simp)
            have h1 := h0.stored6 (u1 := .int .i64 0) (u2 := .int .i64 0) (u3 := .int .i64 0) (u4 := .int .i64 0) (u5 := .int .i64 0) (u6 := .int .i64 0) q4.1 (by simp [q2.2])
            clear h
            have h := h1.put [.int .i64 0, .int .i64 0, .int .i64 0] 23
            try simp only [World.size_alloc, size_set, World.heap_drewN, heap_drew, Nat.add_assoc, Nat.reduceAdd] at h
            have h4 := Lv.of (L' := [(w1.heap.size, 40, [.int .i64 0, .int .i64 0, .int .i64 0, .int .i64 0, .int .i64 0, .int .i64 0]), (w69.heap.size, 23, [.int .i64 0, .int .i64 0, .int .i64 0]), (w.heap.size, 23, [.int .i64 a, .int .i64 b, .int .i64 c])]) h (by simp)
            with_reducible exact h4
          exact AllX.nil
        refine AllX.consL (o := _) rfl (fun K hK => ?_) ?_
        · go_simp
          have L71 := hide (L68.out.put [.int .i64 0, .int .i64 0, .int .i64 0] 23)
          have F71 := L71.out.at; simp only [AllAt, CellsAt, updL, List.map, Nat.zero_add, Nat.reduceAdd, and_true, World.size_alloc, World.heap_drewN, heap_drew, size_set, Nat.add_eq_left, Nat.left_eq_add, Nat.add_right_cancel_iff, ne_up2, ne_dn2, ne_up3, ne_dn3, ne_up4, ne_dn4, Nat.reduceEqDiff, Nat.one_ne_zero, Nat.succ_ne_zero, Nat.zero_ne_one, reduceIte, List.set_cons_zero, List.set_cons_succ] at F71
          refine hK.out _ _ ?_ (fun hHeld => ?_)
          · (try dsimp only); go_keep
          clear hK K
          try simp only [Act.put, List.setIfInBounds_toArray, List.set_cons_zero, List.set_cons_succ]
          refine AnyX.go (rs := [3]) (by kernel_rfl) (by simp) ?_
          refine AllX.consL (o := _) rfl (fun K hK => ?_) ?_
          · go_simp
            go_at_call 27
            first | (with_reducible refine Lv.call (CX.out _ _ _ RC.out) (L71.out) ?_) | (with_reducible refine Lv.call (CX.out _ _ _ (RC.out.on ((Below.refl _ _).alloc (Nat.le_refl _) _))) (L71.out) ?_) | (with_reducible refine Lv.call (CX.out _ _ _ (RC.out.on (((Below.refl _ _).alloc (Nat.le_refl _) _).alloc (by simp) _))) (L71.out) ?_)
            intro w72 L72'; have L72 := hide L72'; have F72 := L72'.at; clear L72'; simp only [AllAt, CellsAt, updL, List.map, Nat.zero_add, Nat.reduceAdd, and_true, World.size_alloc, World.heap_drewN, heap_drew, size_set, Nat.add_eq_left, Nat.left_eq_add, Nat.add_right_cancel_iff, ne_up2, ne_dn2, ne_up3, ne_dn3, ne_up4, ne_dn4, Nat.reduceEqDiff, Nat.one_ne_zero, Nat.succ_ne_zero, Nat.zero_ne_one, reduceIte, List.set_cons_zero, List.set_cons_succ] at F72
            go_wp2_with fail
            refine hK.out _ _ ?_ (fun hHeld => ?_)
            · (try dsimp only); go_keep
            clear hK K
            try simp only [Act.put, List.setIfInBounds_toArray, List.set_cons_zero, List.set_cons_succ]
            refine' AnyX.takeL (i := 4) (oi := _) (v := _) rfl (by kernel_rfl) (by kernel_rfl) (by kernel_rfl) (by kernel_rfl) (fun _ _ _ h => h) (Or.inl ⟨by rfl, ?hy34⟩) (by assumption) ?rest34
            case hy34 => (intro w' hSw; (try dsimp only at hSw); go_simp; (first | done | with_reducible rfl))
            try simp only [Act.put, List.setIfInBounds_toArray, List.set_cons_zero, List.set_cons_succ]
            refine' AnyX.takeL (i := 5) (oi := _) (v := _) rfl (by kernel_rfl) (by kernel_rfl) (by kernel_rfl) (by kernel_rfl) (fun _ _ _ h => h) (Or.inl ⟨by rfl, ?hy35⟩) (by assumption) ?rest35
            case hy35 => (intro w' hSw; (try dsimp only at hSw); go_simp; (first | done | with_reducible rfl))
            try simp only [Act.put, List.setIfInBounds_toArray, List.set_cons_zero, List.set_cons_succ]
            refine' AnyX.takeL (i := 6) (oi := _) (v := _) rfl (by kernel_rfl) (by kernel_rfl) (by kernel_rfl) (by kernel_rfl) (fun _ _ _ h => h) (Or.inl ⟨by rfl, ?hy36⟩) (by assumption) ?rest36
            case hy36 => (intro w' hSw; (try dsimp only at hSw); go_simp; (first | done | with_reducible rfl))
            try simp only [Act.put, List.setIfInBounds_toArray, List.set_cons_zero, List.set_cons_succ]
            refine' AnyX.takeL (i := 7) (oi := _) (v := _) rfl (by kernel_rfl) (by kernel_rfl) (by kernel_rfl) (by kernel_rfl) (fun _ _ _ h => h) (Or.inl ⟨by rfl, ?hy37⟩) (by assumption) ?rest37
            case hy37 => (intro w' hSw; (try dsimp only at hSw); go_simp; (first | done | with_reducible rfl))
            try simp only [Act.put, List.setIfInBounds_toArray, List.set_cons_zero, List.set_cons_succ]
            have q1 : ¬ w1.heap.size = w68.heap.size ∧ ¬ w68.heap.size = w1.heap.size := (by omega)
            have q2 : ¬ w1.heap.size = w.heap.size ∧ ¬ w.heap.size = w1.heap.size := (by omega)
            have q3 : ¬ w68.heap.size = w.heap.size ∧ ¬ w.heap.size = w68.heap.size := (by omega)
            have q4 : w.heap.size ≤ w1.heap.size ∧ w.heap.size ≤ w68.heap.size := (by omega)
            refine AnyX.go (rs := [10]) (by kernel_rfl) (by simp) (AllX.consL (o := _) rfl (fun K hK => ?_) AllX.nil)
            go_simp
            refine hK.out _ _ ?_ (fun hHeld => ?_)
            · (try dsimp only); go_keep
            clear hK K
            try simp only [Act.put, List.setIfInBounds_toArray, List.set_cons_zero, List.set_cons_succ]
            refine AnyX.go (rs := [11]) (by kernel_rfl) (by simp) (AllX.consL (o := _) rfl (fun K hK => ?_) AllX.nil)
            go_simp
            refine hK.out _ _ ?_ (fun hHeld => ?_)
            · (try dsimp only); go_keep
            clear hK K
            try simp only [Act.put, List.setIfInBounds_toArray, List.set_cons_zero, List.set_cons_succ]
            refine' AnyX.takeL (i := 12) (oi := _) (v := _) rfl (by kernel_rfl) (by kernel_rfl) (by kernel_rfl) (by kernel_rfl) (fun _ _ _ h => h) (Or.inl ⟨by rfl, ?hy38⟩) (by assumption) ?rest38
            case hy38 => (intro w' hSw; (try dsimp only at hSw); go_simp; (first | done | with_reducible rfl))
            try simp only [Act.put, List.setIfInBounds_toArray, List.set_cons_zero, List.set_cons_succ]
            refine AnyX.done (by kernel_rfl) ?_ _
            refine NoPanic.normal ?_
            go_wp2_with fail
            go_meet
            refine ⟨w1.heap.size, w68.heap.size, rfl, rfl, rfl, ⟨q1, q2, q3⟩, hide ?_⟩
            skip
            have h := L72.out
            try simp only [World.size_alloc, World.heap_drewN, heap_drew, Nat.add_assoc, Nat.reduceAdd] at h
            have h0 := Lv.of (L' := [(w1.heap.size, 40, [.int .i64 0, .int .i64 0, .int .i64 0, .int .i64 0, .int .i64 0, .int .i64 0]), (w68.heap.size, 23, [.int .i64 0, .int .i64 0, .int .i64 0]), (w.heap.size, 23, [.int .i64 a, .int .i64 b, .int .i64 c])]) h (by simp)
            have h1 := h0.stored6 (u1 := .int .i64 0) (u2 := .int .i64 0) (u3 := .int .i64 0) (u4 := .int .i64 0) (u5 := .int .i64 0) (u6 := .int .i64 0) q4.1 (by simp [q1.2, q2.2])
            have h2 := Lv.of (L' := [(w68.heap.size, 23, [.int .i64 0, .int .i64 0, .int .i64 0]), (w1.heap.size, 40, [.int .i64 0, .int .i64 0, .int .i64 0, .int .i64 0, .int .i64 0, .int .i64 0]), (w.heap.size, 23, [.int .i64 a, .int .i64 b, .int .i64 c])]) h1 (by simp)
            clear h
            have h := h2.stored3 (u1 := .int .i64 0) (u2 := .int .i64 0) (u3 := .int .i64 0) q4.2 (by simp [q1.1, q3.2])
            try simp only [World.size_alloc, size_set, World.heap_drewN, heap_drew, Nat.add_assoc, Nat.reduceAdd] at h
            have h4 := Lv.of (L' := [(w1.heap.size, 40, [.int .i64 0, .int .i64 0, .int .i64 0, .int .i64 0, .int .i64 0, .int .i64 0]), (w68.heap.size, 23, [.int .i64 0, .int .i64 0, .int .i64 0]), (w.heap.size, 23, [.int .i64 a, .int .i64 b, .int .i64 c])]) h (by simp)
            with_reducible exact h4
          exact AllX.nil
        exact AllX.nil
      refine AllX.consL (o := _) rfl (fun K hK => ?_) ?_
      · go_simp
        have L73 := hide (L67.out.put [.int .i64 0, .int .i64 0, .int .i64 0] 23)
        have F73 := L73.out.at; simp only [AllAt, CellsAt, updL, List.map, Nat.zero_add, Nat.reduceAdd, and_true, World.size_alloc, World.heap_drewN, heap_drew, size_set, Nat.add_eq_left, Nat.left_eq_add, Nat.add_right_cancel_iff, ne_up2, ne_dn2, ne_up3, ne_dn3, ne_up4, ne_dn4, Nat.reduceEqDiff, Nat.one_ne_zero, Nat.succ_ne_zero, Nat.zero_ne_one, reduceIte, List.set_cons_zero, List.set_cons_succ] at F73
        refine hK.out _ _ ?_ (fun hHeld => ?_)
        · (try dsimp only); go_keep
        clear hK K
        try simp only [Act.put, List.setIfInBounds_toArray, List.set_cons_zero, List.set_cons_succ]
        refine AnyX.go (rs := [1]) (by kernel_rfl) (by simp) ?_
        refine AllX.consL (o := _) rfl (fun K hK => ?_) ?_
        · go_simp
          go_at_call 18
          refine (copied_any A n cap z _ (by omega) HNIL.out (HD.out.on (L73.out).below)).mono ?_
          rintro e w74 ⟨gc, cc, rfl, hr, hb⟩
          have RC := hide hr
          have L74 := hide ((L73.out).kept hb)
          clear hr hb
          have F74 := L74.out.at; simp only [AllAt, CellsAt, updL, List.map, Nat.zero_add, Nat.reduceAdd, and_true, World.size_alloc, World.heap_drewN, heap_drew, size_set, Nat.add_eq_left, Nat.left_eq_add, Nat.add_right_cancel_iff, ne_up2, ne_dn2, ne_up3, ne_dn3, ne_up4, ne_dn4, Nat.reduceEqDiff, Nat.one_ne_zero, Nat.succ_ne_zero, Nat.zero_ne_one, reduceIte, List.set_cons_zero, List.set_cons_succ] at F74
          go_wp2_with fail
          refine hK.out _ _ ?_ (fun hHeld => ?_)
          · (try dsimp only); go_keep
          clear hK K
          try simp only [Act.put, List.setIfInBounds_toArray, List.set_cons_zero, List.set_cons_succ]
          refine AnyX.go (rs := [3]) (by kernel_rfl) (by simp) ?_
          refine AllX.consL (o := _) rfl (fun K hK => ?_) ?_
          · go_simp
            go_at_call 27
            first | (with_reducible refine Lv.call (CX.out _ _ _ RC.out) (L74.out) ?_) | (with_reducible refine Lv.call (CX.out _ _ _ (RC.out.on ((Below.refl _ _).alloc (Nat.le_refl _) _))) (L74.out) ?_) | (with_reducible refine Lv.call (CX.out _ _ _ (RC.out.on (((Below.refl _ _).alloc (Nat.le_refl _) _).alloc (by simp) _))) (L74.out) ?_)
            intro w75 L75'; have L75 := hide L75'; have F75 := L75'.at; clear L75'; simp only [AllAt, CellsAt, updL, List.map, Nat.zero_add, Nat.reduceAdd, and_true, World.size_alloc, World.heap_drewN, heap_drew, size_set, Nat.add_eq_left, Nat.left_eq_add, Nat.add_right_cancel_iff, ne_up2, ne_dn2, ne_up3, ne_dn3, ne_up4, ne_dn4, Nat.reduceEqDiff, Nat.one_ne_zero, Nat.succ_ne_zero, Nat.zero_ne_one, reduceIte, List.set_cons_zero, List.set_cons_succ] at F75
            go_wp2_with fail
            refine hK.out _ _ ?_ (fun hHeld => ?_)
            · (try dsimp only); go_keep
            clear hK K
            try simp only [Act.put, List.setIfInBounds_toArray, List.set_cons_zero, List.set_cons_succ]
            refine' AnyX.takeL (i := 4) (oi := _) (v := _) rfl (by kernel_rfl) (by kernel_rfl) (by kernel_rfl) (by kernel_rfl) (fun _ _ _ h => h) (Or.inl ⟨by rfl, ?hy39⟩) (by assumption) ?rest39
            case hy39 => (intro w' hSw; (try dsimp only at hSw); go_simp; (first | done | with_reducible rfl))
            try simp only [Act.put, List.setIfInBounds_toArray, List.set_cons_zero, List.set_cons_succ]
            refine' AnyX.takeL (i := 5) (oi := _) (v := _) rfl (by kernel_rfl) (by kernel_rfl) (by kernel_rfl) (by kernel_rfl) (fun _ _ _ h => h) (Or.inl ⟨by rfl, ?hy40⟩) (by assumption) ?rest40
            case hy40 => (intro w' hSw; (try dsimp only at hSw); go_simp; (first | done | with_reducible rfl))
            try simp only [Act.put, List.setIfInBounds_toArray, List.set_cons_zero, List.set_cons_succ]
            refine' AnyX.takeL (i := 6) (oi := _) (v := _) rfl (by kernel_rfl) (by kernel_rfl) (by kernel_rfl) (by kernel_rfl) (fun _ _ _ h => h) (Or.inl ⟨by rfl, ?hy41⟩) (by assumption) ?rest41
            case hy41 => (intro w' hSw; (try dsimp only at hSw); go_simp; (first | done | with_reducible rfl))
            try simp only [Act.put, List.setIfInBounds_toArray, List.set_cons_zero, List.set_cons_succ]
            refine' AnyX.takeL (i := 7) (oi := _) (v := _) rfl (by kernel_rfl) (by kernel_rfl) (by kernel_rfl) (by kernel_rfl) (fun _ _ _ h => h) (Or.inl ⟨by rfl, ?hy42⟩) (by assumption) ?rest42
            case hy42 => (intro w' hSw; (try dsimp only at hSw); go_simp; (first | done | with_reducible rfl))
            try simp only [Act.put, List.setIfInBounds_toArray, List.set_cons_zero, List.set_cons_succ]
            have q1 : ¬ w1.heap.size = w1.heap.size + 1 ∧ ¬ w1.heap.size + 1 = w1.heap.size := (by omega)
            have q2 : ¬ w1.heap.size = w.heap.size ∧ ¬ w.heap.size = w1.heap.size := (by omega)
            have q3 : ¬ w1.heap.size + 1 = w.heap.size ∧ ¬ w.heap.size = w1.heap.size + 1 := (by omega)
            have q4 : w.heap.size ≤ w1.heap.size ∧ w.heap.size ≤ w1.heap.size + 1 := (by omega)
            refine AnyX.go (rs := [10]) (by kernel_rfl) (by simp) (AllX.consL (o := _) rfl (fun K hK => ?_) AllX.nil)
            go_simp
            refine hK.out _ _ ?_ (fun hHeld => ?_)
            · (try dsimp only); go_keep
            clear hK K
            try simp only [Act.put, List.setIfInBounds_toArray, List.set_cons_zero, List.set_cons_succ]
            refine AnyX.go (rs := [11]) (by kernel_rfl) (by simp) (AllX.consL (o := _) rfl (fun K hK => ?_) AllX.nil)
            go_simp
            refine hK.out _ _ ?_ (fun hHeld => ?_)
            · (try dsimp only); go_keep
            clear hK K
            try simp only [Act.put, List.setIfInBounds_toArray, List.set_cons_zero, List.set_cons_succ]
            refine' AnyX.takeL (i := 12) (oi := _) (v := _) rfl (by kernel_rfl) (by kernel_rfl) (by kernel_rfl) (by kernel_rfl) (fun _ _ _ h => h) (Or.inl ⟨by rfl, ?hy43⟩) (by assumption) ?rest43
            case hy43 => (intro w' hSw; (try dsimp only at hSw); go_simp; (first | done | with_reducible rfl))
            try simp only [Act.put, List.setIfInBounds_toArray, List.set_cons_zero, List.set_cons_succ]
            refine AnyX.done (by kernel_rfl) ?_ _
            refine NoPanic.normal ?_
            go_wp2_with fail
            go_meet
            refine ⟨w1.heap.size, w1.heap.size + 1, rfl, rfl, rfl, ⟨q1, q2, q3⟩, hide ?_⟩
            skip
            have h := L75.out
            try simp only [World.size_alloc, World.heap_drewN, heap_drew, Nat.add_assoc, Nat.reduceAdd] at h
            have h0 := Lv.of (L' := [(w1.heap.size, 40, [.int .i64 0, .int .i64 0, .int .i64 0, .int .i64 0, .int .i64 0, .int .i64 0]), (w1.heap.size + 1, 23, [.int .i64 0, .int .i64 0, .int .i64 0]), (w.heap.size, 23, [.int .i64 a, .int .i64 b, .int .i64 c])]) h (by simp)
            have h1 := h0.stored6 (u1 := .int .i64 0) (u2 := .int .i64 0) (u3 := .int .i64 0) (u4 := .int .i64 0) (u5 := .int .i64 0) (u6 := .int .i64 0) q4.1 (by simp [q1.2, q2.2])
            have h2 := Lv.of (L' := [(w1.heap.size + 1, 23, [.int .i64 0, .int .i64 0, .int .i64 0]), (w1.heap.size, 40, [.int .i64 0, .int .i64 0, .int .i64 0, .int .i64 0, .int .i64 0, .int .i64 0]), (w.heap.size, 23, [.int .i64 a, .int .i64 b, .int .i64 c])]) h1 (by simp)
            clear h
            have h := h2.stored3 (u1 := .int .i64 0) (u2 := .int .i64 0) (u3 := .int .i64 0) q4.2 (by simp [q1.1, q3.2])
            try simp only [World.size_alloc, size_set, World.heap_drewN, heap_drew, Nat.add_assoc, Nat.reduceAdd] at h
            have h4 := Lv.of (L' := [(w1.heap.size, 40, [.int .i64 0, .int .i64 0, .int .i64 0, .int .i64 0, .int .i64 0, .int .i64 0]), (w1.heap.size + 1, 23, [.int .i64 0, .int .i64 0, .int .i64 0]), (w.heap.size, 23, [.int .i64 a, .int .i64 b, .int .i64 c])]) h (by simp)
            with_reducible exact h4
          exact AllX.nil
        exact AllX.nil
      exact AllX.nil
    refine AllX.consL (o := _) rfl (fun K hK => ?_) ?_
    · go_simp
      have L76 := hide (L1.out.drew.put [.int .i64 0, .int .i64 0, .int .i64 0] 23)
      have F76 := L76.out.at; simp only [AllAt, CellsAt, updL, List.map, Nat.zero_add, Nat.reduceAdd, and_true, World.size_alloc, World.heap_drewN, heap_drew, size_set, Nat.add_eq_left, Nat.left_eq_add, Nat.add_right_cancel_iff, ne_up2, ne_dn2, ne_up3, ne_dn3, ne_up4, ne_dn4, Nat.reduceEqDiff, Nat.one_ne_zero, Nat.succ_ne_zero, Nat.zero_ne_one, reduceIte, List.set_cons_zero, List.set_cons_succ] at F76
      refine hK.out _ _ ?_ (fun hHeld => ?_)
      · (try dsimp only); go_keep
      clear hK K
      try simp only [Act.put, List.setIfInBounds_toArray, List.set_cons_zero, List.set_cons_succ]
      refine AnyX.go (rs := [1, 8]) (by kernel_rfl) (by simp) ?_
      refine AllX.consL (o := _) rfl (fun K hK => ?_) ?_
      · go_simp
        go_at_call 18
        refine (copied_any A n cap z _ (by omega) HNIL.out (HD.out.on (L76.out).below)).mono ?_
        rintro e w77 ⟨gc, cc, rfl, hr, hb⟩
        have RC := hide hr
        have L77 := hide ((L76.out).kept hb)
        clear hr hb
        have F77 := L77.out.at; simp only [AllAt, CellsAt, updL, List.map, Nat.zero_add, Nat.reduceAdd, and_true, World.size_alloc, World.heap_drewN, heap_drew, size_set, Nat.add_eq_left, Nat.left_eq_add, Nat.add_right_cancel_iff, ne_up2, ne_dn2, ne_up3, ne_dn3, ne_up4, ne_dn4, Nat.reduceEqDiff, Nat.one_ne_zero, Nat.succ_ne_zero, Nat.zero_ne_one, reduceIte, List.set_cons_zero, List.set_cons_succ] at F77
        go_wp2_with fail
        refine hK.out _ _ ?_ (fun hHeld => ?_)
        · (try dsimp only); go_keep
        clear hK K
        try simp only [Act.put, List.setIfInBounds_toArray, List.set_cons_zero, List.set_cons_succ]
        refine AnyX.go (rs := [3, 8]) (by kernel_rfl) (by simp) ?_
        refine AllX.consL (o := _) rfl (fun K hK => ?_) ?_
        · go_simp
          go_at_call 27
          first | (with_reducible refine Lv.call (CX.out _ _ _ RC.out) (L77.out) ?_) | (with_reducible refine Lv.call (CX.out _ _ _ (RC.out.on ((Below.refl _ _).alloc (Nat.le_refl _) _))) (L77.out) ?_) | (with_reducible refine Lv.call (CX.out _ _ _ (RC.out.on (((Below.refl _ _).alloc (Nat.le_refl _) _).alloc (by simp) _))) (L77.out) ?_)
          intro w78 L78'; have L78 := hide L78'; have F78 := L78'.at; clear L78'; simp only [AllAt, CellsAt, updL, List.map, Nat.zero_add, Nat.reduceAdd, and_true, World.size_alloc, World.heap_drewN, heap_drew, size_set, Nat.add_eq_left, Nat.left_eq_add, Nat.add_right_cancel_iff, ne_up2, ne_dn2, ne_up3, ne_dn3, ne_up4, ne_dn4, Nat.reduceEqDiff, Nat.one_ne_zero, Nat.succ_ne_zero, Nat.zero_ne_one, reduceIte, List.set_cons_zero, List.set_cons_succ] at F78
          go_wp2_with fail
          refine hK.out _ _ ?_ (fun hHeld => ?_)
          · (try dsimp only); go_keep
          clear hK K
          try simp only [Act.put, List.setIfInBounds_toArray, List.set_cons_zero, List.set_cons_succ]
          refine' AnyX.takeL (i := 4) (oi := _) (v := _) rfl (by kernel_rfl) (by kernel_rfl) (by kernel_rfl) (by kernel_rfl) (fun _ _ _ h => h) (Or.inl ⟨by rfl, ?hy44⟩) (by assumption) ?rest44
          case hy44 => (intro w' hSw; (try dsimp only at hSw); go_simp; (first | done | with_reducible rfl))
          try simp only [Act.put, List.setIfInBounds_toArray, List.set_cons_zero, List.set_cons_succ]
          refine' AnyX.takeL (i := 5) (oi := _) (v := _) rfl (by kernel_rfl) (by kernel_rfl) (by kernel_rfl) (by kernel_rfl) (fun _ _ _ h => h) (Or.inl ⟨by rfl, ?hy45⟩) (by assumption) ?rest45
          case hy45 => (intro w' hSw; (try dsimp only at hSw); go_simp; (first | done | with_reducible rfl))
          try simp only [Act.put, List.setIfInBounds_toArray, List.set_cons_zero, List.set_cons_succ]
          refine' AnyX.takeL (i := 6) (oi := _) (v := _) rfl (by kernel_rfl) (by kernel_rfl) (by kernel_rfl) (by kernel_rfl) (fun _ _ _ h => h) (Or.inl ⟨by rfl, ?hy46⟩) (by assumption) ?rest46
          case hy46 => (intro w' hSw; (try dsimp only at hSw); go_simp; (first | done | with_reducible rfl))
          try simp only [Act.put, List.setIfInBounds_toArray, List.set_cons_zero, List.set_cons_succ]
          refine' AnyX.takeL (i := 7) (oi := _) (v := _) rfl (by kernel_rfl) (by kernel_rfl) (by kernel_rfl) (by kernel_rfl) (fun _ _ _ h => h) (Or.inl ⟨by rfl, ?hy47⟩) (by assumption) ?rest47
          case hy47 => (intro w' hSw; (try dsimp only at hSw); go_simp; (first | done | with_reducible rfl))
          try simp only [Act.put, List.setIfInBounds_toArray, List.set_cons_zero, List.set_cons_succ]
          refine AnyX.go (rs := [8]) (by kernel_rfl) (by simp) ?_
          refine AllX.consL (o := _) rfl (fun K hK => ?_) ?_
          · go_simp
            have L79 := hide (L78.out.put [.int .i64 0, .int .i64 0, .int .i64 0, .int .i64 0, .int .i64 0, .int .i64 0] 40)
            have F79 := L79.out.at; simp only [AllAt, CellsAt, updL, List.map, Nat.zero_add, Nat.reduceAdd, and_true, World.size_alloc, World.heap_drewN, heap_drew, size_set, Nat.add_eq_left, Nat.left_eq_add, Nat.add_right_cancel_iff, ne_up2, ne_dn2, ne_up3, ne_dn3, ne_up4, ne_dn4, Nat.reduceEqDiff, Nat.one_ne_zero, Nat.succ_ne_zero, Nat.zero_ne_one, reduceIte, List.set_cons_zero, List.set_cons_succ] at F79
            refine hK.out _ _ ?_ (fun hHeld => ?_)
            · (try dsimp only); go_keep
            clear hK K
            try simp only [Act.put, List.setIfInBounds_toArray, List.set_cons_zero, List.set_cons_succ]
            have q1 : ¬ w78.heap.size = w1.heap.size ∧ ¬ w1.heap.size = w78.heap.size := (by omega)
            have q2 : ¬ w78.heap.size = w.heap.size ∧ ¬ w.heap.size = w78.heap.size := (by omega)
            have q3 : ¬ w1.heap.size = w.heap.size ∧ ¬ w.heap.size = w1.heap.size := (by omega)
            have q4 : w.heap.size ≤ w78.heap.size ∧ w.heap.size ≤ w1.heap.size := (by omega)
            refine AnyX.go (rs := [10]) (by kernel_rfl) (by simp) (AllX.consL (o := _) rfl (fun K hK => ?_) AllX.nil)
            go_simp
            refine hK.out _ _ ?_ (fun hHeld => ?_)
            · (try dsimp only); go_keep
            clear hK K
            try simp only [Act.put, List.setIfInBounds_toArray, List.set_cons_zero, List.set_cons_succ]
            refine AnyX.go (rs := [11]) (by kernel_rfl) (by simp) (AllX.consL (o := _) rfl (fun K hK => ?_) AllX.nil)
            go_simp
            refine hK.out _ _ ?_ (fun hHeld => ?_)
            · (try dsimp only); go_keep
            clear hK K
            try simp only [Act.put, List.setIfInBounds_toArray, List.set_cons_zero, List.set_cons_succ]
            refine' AnyX.takeL (i := 12) (oi := _) (v := _) rfl (by kernel_rfl) (by kernel_rfl) (by kernel_rfl) (by kernel_rfl) (fun _ _ _ h => h) (Or.inl ⟨by rfl, ?hy48⟩) (by assumption) ?rest48
            case hy48 => (intro w' hSw; (try dsimp only at hSw); go_simp; (first | done | with_reducible rfl))
            try simp only [Act.put, List.setIfInBounds_toArray, List.set_cons_zero, List.set_cons_succ]
            refine AnyX.done (by kernel_rfl) ?_ _
            refine NoPanic.normal ?_
            go_wp2_with fail
            go_meet
            refine ⟨w78.heap.size, w1.heap.size, rfl, rfl, rfl, ⟨q1, q2, q3⟩, hide ?_⟩
            skip
            have h := L78.out
            try simp only [World.size_alloc, World.heap_drewN, heap_drew, Nat.add_assoc, Nat.reduceAdd] at h
            have h0 := Lv.of (L' := [(w1.heap.size, 23, [.int .i64 0, .int .i64 0, .int .i64 0]), (w.heap.size, 23, [.int .i64 a, .int .i64 b, .int .i64 c])]) h (by simp)
            have h1 := h0.stored3 (u1 := .int .i64 0) (u2 := .int .i64 0) (u3 := .int .i64 0) q4.2 (by simp [q3.2])
            clear h
            have h := h1.put [.int .i64 0, .int .i64 0, .int .i64 0, .int .i64 0, .int .i64 0, .int .i64 0] 40
            try simp only [World.size_alloc, size_set, World.heap_drewN, heap_drew, Nat.add_assoc, Nat.reduceAdd] at h
            have h4 := Lv.of (L' := [(w78.heap.size, 40, [.int .i64 0, .int .i64 0, .int .i64 0, .int .i64 0, .int .i64 0, .int .i64 0]), (w1.heap.size, 23, [.int .i64 0, .int .i64 0, .int .i64 0]), (w.heap.size, 23, [.int .i64 a, .int .i64 b, .int .i64 c])]) h (by simp)
            with_reducible exact h4
          exact AllX.nil
        refine AllX.consL (o := _) rfl (fun K hK => ?_) ?_
        · go_simp
          have L80 := hide (L77.out.put [.int .i64 0, .int .i64 0, .int .i64 0, .int .i64 0, .int .i64 0, .int .i64 0] 40)
          have F80 := L80.out.at; simp only [AllAt, CellsAt, updL, List.map, Nat.zero_add, Nat.reduceAdd, and_true, World.size_alloc, World.heap_drewN, heap_drew, size_set, Nat.add_eq_left, Nat.left_eq_add, Nat.add_right_cancel_iff, ne_up2, ne_dn2, ne_up3, ne_dn3, ne_up4, ne_dn4, Nat.reduceEqDiff, Nat.one_ne_zero, Nat.succ_ne_zero, Nat.zero_ne_one, reduceIte, List.set_cons_zero, List.set_cons_succ] at F80
          refine hK.out _ _ ?_ (fun hHeld => ?_)
          · (try dsimp only); go_keep
          clear hK K
          try simp only [Act.put, List.setIfInBounds_toArray, List.set_cons_zero, List.set_cons_succ]
          refine AnyX.go (rs := [3]) (by kernel_rfl) (by simp) ?_
          refine AllX.consL (o := _) rfl (fun K hK => ?_) ?_
          · go_simp
            go_at_call 27
            first | (with_reducible refine Lv.call (CX.out _ _ _ RC.out) (L80.out) ?_) | (with_reducible refine Lv.call (CX.out _ _ _ (RC.out.on ((Below.refl _ _).alloc (Nat.le_refl _) _))) (L80.out) ?_) | (with_reducible refine Lv.call (CX.out _ _ _ (RC.out.on (((Below.refl _ _).alloc (Nat.le_refl _) _).alloc (by simp) _))) (L80.out) ?_)
            intro w81 L81'; have L81 := hide L81'; have F81 := L81'.at; clear L81'; simp only [AllAt, CellsAt, updL, List.map, Nat.zero_add, Nat.reduceAdd, and_true, World.size_alloc, World.heap_drewN, heap_drew, size_set, Nat.add_eq_left, Nat.left_eq_add, Nat.add_right_cancel_iff, ne_up2, ne_dn2, ne_up3, ne_dn3, ne_up4, ne_dn4, Nat.reduceEqDiff, Nat.one_ne_zero, Nat.succ_ne_zero, Nat.zero_ne_one, reduceIte, List.set_cons_zero, List.set_cons_succ] at F81
            go_wp2_with fail
            refine hK.out _ _ ?_ (fun hHeld => ?_)
            · (try dsimp only); go_keep
            clear hK K
            try simp only [Act.put, List.setIfInBounds_toArray, List.set_cons_zero, List.set_cons_succ]
            refine' AnyX.takeL (i := 4) (oi := _) (v := _) rfl (by kernel_rfl) (by kernel_rfl) (by kernel_rfl) (by kernel_rfl) (fun _ _ _ h => h) (Or.inl ⟨by rfl, ?hy49⟩) (by assumption) ?rest49
            case hy49 => (intro w' hSw; (try dsimp only at hSw); go_simp; (first | done | with_reducible rfl))
            try simp only [Act.put, List.setIfInBounds_toArray, List.set_cons_zero, List.set_cons_succ]
            refine' AnyX.takeL (i := 5) (oi := _) (v := _) rfl (by kernel_rfl) (by kernel_rfl) (by kernel_rfl) (by kernel_rfl) (fun _ _ _ h => h) (Or.inl ⟨by rfl, ?hy50⟩) (by assumption) ?rest50
            case hy50 => (intro w' hSw; (try dsimp only at hSw); go_simp; (first | done | with_reducible rfl))
            try simp only [Act.put, List.setIfInBounds_toArray, List.set_cons_zero, List.set_cons_succ]
            refine' AnyX.takeL (i := 6) (oi := _) (v := _) rfl (by kernel_rfl) (by kernel_rfl) (by kernel_rfl) (by kernel_rfl) (fun _ _ _ h => h) (Or.inl ⟨by rfl, ?hy51⟩) (by assumption) ?rest51
            case hy51 => (intro w' hSw; (try dsimp only at hSw); go_simp; (first | done | with_reducible rfl))
            try simp only [Act.put, List.setIfInBounds_toArray, List.set_cons_zero, List.set_cons_succ]
            refine' AnyX.takeL (i := 7) (oi := _) (v := _) rfl (by kernel_rfl) (by kernel_rfl) (by kernel_rfl) (by kernel_rfl) (fun _ _ _ h => h) (Or.inl ⟨by rfl, ?hy52⟩) (by assumption) ?rest52
            case hy52 => (intro w' hSw; (try dsimp only at hSw); go_simp; (first | done | with_reducible rfl))
            try simp only [Act.put, List.setIfInBounds_toArray, List.set_cons_zero, List.set_cons_succ]
            have q1 : ¬ w77.heap.size = w1.heap.size ∧ ¬ w1.heap.size = w77.heap.size := (by omega)
            have q2 : ¬ w77.heap.size = w.heap.size ∧ ¬ w.heap.size = w77.heap.size := (by omega)
            have q3 : ¬ w1.heap.size = w.heap.size ∧ ¬ w.heap.size = w1.heap.size := (by omega)
            have q4 : w.heap.size ≤ w77.heap.size ∧ w.heap.size ≤ w1.heap.size := (by omega)
            refine AnyX.go (rs := [10]) (by kernel_rfl) (by simp) (AllX.consL (o := _) rfl (fun K hK => ?_) AllX.nil)
            go_simp
            refine hK.out _ _ ?_ (fun hHeld => ?_)
            · (try dsimp only); go_keep
            clear hK K
            try simp only [Act.put, List.setIfInBounds_toArray, List.set_cons_zero, List.set_cons_succ]
            refine AnyX.go (rs := [11]) (by kernel_rfl) (by simp) (AllX.consL (o := _) rfl (fun K hK => ?_) AllX.nil)
            go_simp
            refine hK.out _ _ ?_ (fun hHeld => ?_)
            · (try dsimp only); go_keep
            clear hK K
            try simp only [Act.put, List.setIfInBounds_toArray, List.set_cons_zero, List.set_cons_succ]
            refine' AnyX.takeL (i := 12) (oi := _) (v := _) rfl (by kernel_rfl) (by kernel_rfl) (by kernel_rfl) (by kernel_rfl) (fun _ _ _ h => h) (Or.inl ⟨by rfl, ?hy53⟩) (by assumption) ?rest53
            case hy53 => (intro w' hSw; (try dsimp only at hSw); go_simp; (first | done | with_reducible rfl))
            try simp only [Act.put, List.setIfInBounds_toArray, List.set_cons_zero, List.set_cons_succ]
            refine AnyX.done (by kernel_rfl) ?_ _
            refine NoPanic.normal ?_
            go_wp2_with fail
            go_meet
            refine ⟨w77.heap.size, w1.heap.size, rfl, rfl, rfl, ⟨q1, q2, q3⟩, hide ?_⟩
            skip
            have h := L81.out
            try simp only [World.size_alloc, World.heap_drewN, heap_drew, Nat.add_assoc, Nat.reduceAdd] at h
            have h0 := Lv.of (L' := [(w77.heap.size, 40, [.int .i64 0, .int .i64 0, .int .i64 0, .int .i64 0, .int .i64 0, .int .i64 0]), (w1.heap.size, 23, [.int .i64 0, .int .i64 0, .int .i64 0]), (w.heap.size, 23, [.int .i64 a, .int .i64 b, .int .i64 c])]) h (by simp)
            have h1 := h0.stored6 (u1 := .int .i64 0) (u2 := .int .i64 0) (u3 := .int .i64 0) (u4 := .int .i64 0) (u5 := .int .i64 0) (u6 := .int .i64 0) q4.1 (by simp [q1.2, q2.2])
            have h2 := Lv.of (L' := [(w1.heap.size, 23, [.int .i64 0, .int .i64 0, .int .i64 0]), (w77.heap.size, 40, [.int .i64 0, .int .i64 0, .int .i64 0, .int .i64 0, .int .i64 0, .int .i64 0]), (w.heap.size, 23, [.int .i64 a, .int .i64 b, .int .i64 c])]) h1 (by simp)
            clear h
            have h := h2.stored3 (u1 := .int .i64 0) (u2 := .int .i64 0) (u3 := .int .i64 0) q4.2 (by simp [q1.1, q3.2])
            try simp only [World.size_alloc, size_set, World.heap_drewN, heap_drew, Nat.add_assoc, Nat.reduceAdd] at h
            have h4 := Lv.of (L' := [(w77.heap.size, 40, [.int .i64 0, .int .i64 0, .int .i64 0, .int .i64 0, .int .i64 0, .int .i64 0]), (w1.heap.size, 23, [.int .i64 0, .int .i64 0, .int .i64 0]), (w.heap.size, 23, [.int .i64 a, .int .i64 b, .int .i64 c])]) h (by simp)
            with_reducible exact h4
          exact AllX.nil
        exact AllX.nil
      refine AllX.consL (o := _) rfl (fun K hK => ?_) ?_
      · go_simp
        have L82 := hide (L76.out.put [.int .i64 0, .int .i64 0, .int .i64 0, .int .i64 0, .int .i64 0, .int .i64 0] 40)
        have F82 := L82.out.at; simp only [AllAt, CellsAt, updL, List.map, Nat.zero_add, Nat.reduceAdd, and_true, World.size_alloc, World.heap_drewN, heap_drew, size_set, Nat.add_eq_left, Nat.left_eq_add, Nat.add_right_cancel_iff, ne_up2, ne_dn2, ne_up3, ne_dn3, ne_up4, ne_dn4, Nat.reduceEqDiff, Nat.one_ne_zero, Nat.succ_ne_zero, Nat.zero_ne_one, reduceIte, List.set_cons_zero, List.set_cons_succ] at F82
        refine hK.out _ _ ?_ (fun hHeld => ?_)
        · (try dsimp only); go_keep
        clear hK K
        try simp only [Act.put, List.setIfInBounds_toArray, List.set_cons_zero, List.set_cons_succ]
        refine AnyX.go (rs := [1]) (by kernel_rfl) (by simp) ?_
        refine AllX.consL (o := _) rfl (fun K hK => ?_) ?_
        · go_simp
          go_at_call 18
          refine (copied_any A n cap z _ (by omega) HNIL.out (HD.out.on (L82.out).below)).mono ?_
          rintro e w83 ⟨gc, cc, rfl, hr, hb⟩
          have RC := hide hr
          have L83 := hide ((L82.out).kept hb)
          clear hr hb
          have F83 := L83.out.at; simp only [AllAt, CellsAt, updL, List.map, Nat.zero_add, Nat.reduceAdd, and_true, World.size_alloc, World.heap_drewN, heap_drew, size_set, Nat.add_eq_left, Nat.left_eq_add, Nat.add_right_cancel_iff, ne_up2, ne_dn2, ne_up3, ne_dn3, ne_up4, ne_dn4, Nat.reduceEqDiff, Nat.one_ne_zero, Nat.succ_ne_zero, Nat.zero_ne_one, reduceIte, List.set_cons_zero, List.set_cons_succ] at F83
          go_wp2_with fail
          refine hK.out _ _ ?_ (fun hHeld => ?_)
          · (try dsimp only); go_keep
          clear hK K
          try simp only [Act.put, List.setIfInBounds_toArray, List.set_cons_zero, List.set_cons_succ]
          refine AnyX.go (rs := [3]) (by kernel_rfl) (by simp) ?_
          refine AllX.consL (o := _) rfl (fun K hK => ?_) ?_
          · go_simp
            go_at_call 27
            first | (with_reducible refine Lv.call (CX.out _ _ _ RC.out) (L83.out) ?_) | (with_reducible refine Lv.call (CX.out _ _ _ (RC.out.on ((Below.refl _ _).alloc (Nat.le_refl _) _))) (L83.out) ?_) | (with_reducible refine Lv.call (CX.out _ _ _ (RC.out.on (((Below.refl _ _).alloc (Nat.le_refl _) _).alloc (by simp) _))) (L83.out) ?_)
            intro w84 L84'; have L84 := hide L84'; have F84 := L84'.at; clear L84'; simp only [AllAt, CellsAt, updL, List.map, Nat.zero_add, Nat.reduceAdd, and_true, World.size_alloc, World.heap_drewN, heap_drew, size_set, Nat.add_eq_left, Nat.left_eq_add, Nat.add_right_cancel_iff, ne_up2, ne_dn2, ne_up3, ne_dn3, ne_up4, ne_dn4, Nat.reduceEqDiff, Nat.one_ne_zero, Nat.succ_ne_zero, Nat.zero_ne_one, reduceIte, List.set_cons_zero, List.set_cons_succ] at F84
            go_wp2_with fail
            refine hK.out _ _ ?_ (fun hHeld => ?_)
            · (try dsimp only); go_keep
            clear hK K
            try simp only [Act.put, List.setIfInBounds_toArray, List.set_cons_zero, List.set_cons_succ]
            refine' AnyX.takeL (i := 4) (oi := _) (v := _) rfl (by kernel_rfl) (by kernel_rfl) (by kernel_rfl) (by kernel_rfl) (fun _ _ _ h => h) (Or.inl ⟨by rfl, ?hy54⟩) (by assumption) ?rest54
            case hy54 => (intro w' hSw; (try dsimp only at hSw); go_simp; (first | done | with_reducible rfl))
            try simp only [Act.put, List.setIfInBounds_toArray, List.set_cons_zero, List.set_cons_succ]
            refine' AnyX.takeL (i := 5) (oi := _) (v := _) rfl (by kernel_rfl) (by kernel_rfl) (by kernel_rfl) (by kernel_rfl) (fun _ _ _ h => h) (Or.inl ⟨by rfl, ?hy55⟩) (by assumption) ?rest55
            case hy55 => (intro w' hSw; (try dsimp only at hSw); go_simp; (first | done | with_reducible rfl))
            try simp only [Act.put, List.setIfInBounds_toArray, List.set_cons_zero, List.set_cons_succ]
            refine' AnyX.takeL (i := 6) (oi := _) (v := _) rfl (by kernel_rfl) (by kernel_rfl) (by kernel_rfl) (by kernel_rfl) (fun _ _ _ h => h) (Or.inl ⟨by rfl, ?hy56⟩) (by assumption) ?rest56
            case hy56 => (intro w' hSw; (try dsimp only at hSw); go_simp; (first | done | with_reducible rfl))
            try simp only [Act.put, List.setIfInBounds_toArray, List.set_cons_zero, List.set_cons_succ]
            refine' AnyX.takeL (i := 7) (oi := _) (v := _) rfl (by kernel_rfl) (by kernel_rfl) (by kernel_rfl) (by kernel_rfl) (fun _ _ _ h => h) (Or.inl ⟨by rfl, ?hy57⟩) (by assumption) ?rest57
            case hy57 => (intro w' hSw; (try dsimp only at hSw); go_simp; (first | done | with_reducible rfl))
            try simp only [Act.put, List.setIfInBounds_toArray, List.set_cons_zero, List.set_cons_succ]
            have q1 : ¬ w1.heap.size + 1 = w1.heap.size ∧ ¬ w1.heap.size = w1.heap.size + 1 := (by omega)
            have q2 : ¬ w1.heap.size + 1 = w.heap.size ∧ ¬ w.heap.size = w1.heap.size + 1 := (by omega)
            have q3 : ¬ w1.heap.size = w.heap.size ∧ ¬ w.heap.size = w1.heap.size := (by omega)
            have q4 : w.heap.size ≤ w1.heap.size + 1 ∧ w.heap.size ≤ w1.heap.size := (by omega)
            refine AnyX.go (rs := [10]) (by kernel_rfl) (by simp) (AllX.consL (o := _) rfl (fun K hK => ?_) AllX.nil)
            go_simp
            refine hK.out _ _ ?_ (fun hHeld => ?_)
            · (try dsimp only); go_keep
            clear hK K
            try simp only [Act.put, List.setIfInBounds_toArray, List.set_cons_zero, List.set_cons_succ]
            refine AnyX.go (rs := [11]) (by kernel_rfl) (by simp) (AllX.consL (o := _) rfl (fun K hK => ?_) AllX.nil)
            go_simp
            refine hK.out _ _ ?_ (fun hHeld => ?_)
            · (try dsimp only); go_keep
            clear hK K
            try simp only [Act.put, List.setIfInBounds_toArray, List.set_cons_zero, List.set_cons_succ]
            refine' AnyX.takeL (i := 12) (oi := _) (v := _) rfl (by kernel_rfl) (by kernel_rfl) (by kernel_rfl) (by kernel_rfl) (fun _ _ _ h => h) (Or.inl ⟨by rfl, ?hy58⟩) (by assumption) ?rest58
            case hy58 => (intro w' hSw; (try dsimp only at hSw); go_simp; (first | done | with_reducible rfl))
            try simp only [Act.put, List.setIfInBounds_toArray, List.set_cons_zero, List.set_cons_succ]
            refine AnyX.done (by kernel_rfl) ?_ _
            refine NoPanic.normal ?_
            go_wp2_with fail
            go_meet
            refine ⟨w1.heap.size + 1, w1.heap.size, rfl, rfl, rfl, ⟨q1, q2, q3⟩, hide ?_⟩
            skip
            have h := L84.out
            try simp only [World.size_alloc, World.heap_drewN, heap_drew, Nat.add_assoc, Nat.reduceAdd] at h
            have h0 := Lv.of (L' := [(w1.heap.size + 1, 40, [.int .i64 0, .int .i64 0, .int .i64 0, .int .i64 0, .int .i64 0, .int .i64 0]), (w1.heap.size, 23, [.int .i64 0, .int .i64 0, .int .i64 0]), (w.heap.size, 23, [.int .i64 a, .int .i64 b, .int .i64 c])]) h (by simp)
            have h1 := h0.stored6 (u1 := .int .i64 0) (u2 := .int .i64 0) (u3 := .int .i64 0) (u4 := .int .i64 0) (u5 := .int .i64 0) (u6 := .int .i64 0) q4.1 (by simp [q1.2, q2.2])
            have h2 := Lv.of (L' := [(w1.heap.size, 23, [.int .i64 0, .int .i64 0, .int .i64 0]), (w1.heap.size + 1, 40, [.int .i64 0, .int .i64 0, .int .i64 0, .int .i64 0, .int .i64 0, .int .i64 0]), (w.heap.size, 23, [.int .i64 a, .int .i64 b, .int .i64 c])]) h1 (by simp)
            clear h
            have h := h2.stored3 (u1 := .int .i64 0) (u2 := .int .i64 0) (u3 := .int .i64 0) q4.2 (by simp [q1.1, q3.2])
            try simp only [World.size_alloc, size_set, World.heap_drewN, heap_drew, Nat.add_assoc, Nat.reduceAdd] at h
            have h4 := Lv.of (L' := [(w1.heap.size + 1, 40, [.int .i64 0, .int .i64 0, .int .i64 0, .int .i64 0, .int .i64 0, .int .i64 0]), (w1.heap.size, 23, [.int .i64 0, .int .i64 0, .int .i64 0]), (w.heap.size, 23, [.int .i64 a, .int .i64 b, .int .i64 c])]) h (by simp)
            with_reducible exact h4
          exact AllX.nil
        exact AllX.nil
      exact AllX.nil
    exact AllX.nil
  case' rest =>
    obtain ⟨g5, g6, rfl, rfl, rfl, ng, L6⟩ := hcut
    clear F1 L1
    have F6 := L6.out.at; simp only [AllAt, CellsAt, updL, List.map, Nat.zero_add, Nat.reduceAdd, and_true, World.size_alloc, World.heap_drewN, heap_drew, size_set, Nat.add_eq_left, Nat.left_eq_add, Nat.add_right_cancel_iff, ne_up2, ne_dn2, ne_up3, ne_dn3, ne_up4, ne_dn4, Nat.reduceEqDiff, Nat.one_ne_zero, Nat.succ_ne_zero, Nat.zero_ne_one, reduceIte, List.set_cons_zero, List.set_cons_succ] at F6
    go_wp2_with fail
    refine Lv.call (refForces_any A n cap z _ (HD.out.on L6.out.below)) L6.out ?_
    intro w7 L7'
    have L7 := hide L7'
    have F7 := L7'.at
    clear L7' F6
    simp only [AllAt, CellsAt, updL, List.map, Nat.zero_add, Nat.reduceAdd, and_true, World.size_alloc, World.heap_drewN, heap_drew, size_set, Nat.add_eq_left, Nat.left_eq_add, Nat.add_right_cancel_iff, ne_up2, ne_dn2, ne_up3, ne_dn3, ne_up4, ne_dn4, Nat.reduceEqDiff, Nat.one_ne_zero, Nat.succ_ne_zero, Nat.zero_ne_one, reduceIte, List.set_cons_zero, List.set_cons_succ] at F7
    rw [HE.out]
  go_wp2
  go_ret
  exact ⟨rfl, L7.out.below⟩
set_option maxHeartbeats 8000000 in
set_option maxRecDepth 100000 in
theorem balances_far (A : Option Addr) (n cap : Nat) (z : Nat → Nat → Int) (a b c : Int) (w : World) (hfew : n ≤ 20 ∨ (300 < n ∧ n ≤ 305)) (hnil : A = none → n = 0 ∧ cap = 0) (hD : RowM 6 w w.heap.size A n z) (hE : frcE z n = 0) (hP : plE a b c = 2) :
    Calls Try.prog 4 #[.slice A n cap, .agg #[.int .i64 a, .int .i64 b, .int .i64 c]] w fun x w' => x = .returned (.bool true) ∧ Below w.heap.size w w' := by
  have ez : ∀ W, (Go.binOp .eql 23 (.agg #[.int .i64 0, .int .i64 0, .int .i64 0]) (.agg #[.int .i64 0, .int .i64 0, .int .i64 0])).run Try.prog W = .ok (.bool true) W := fun W => by rw [eq3_run, eq3_self]
  have ep := eqP_self 0 0 0 0 0 0
  have CX := hide (fun W A' c' h => plBalance_far A' n c' z a b c W h hE hP)
  have HV : Hid (inV a b c 1000000 = false) := by
    unfold plE at hP
    by_cases hv : inV a b c 1000000 = true
    · rw [if_pos hv] at hP; omega
    · exact hide (by simpa using hv)
  have HE := hide hE
  have HNIL := hide hnil
  have HD := hide hD
  clear hE hnil hD hP
  have L0 := hide (Lv.start w)
  go_enter Try.func4, Try.ntmps4
  go_wp2_with fail
  refine Lv.call (plAwake_any _) (L0.out.put _ _) ?_
  intro w1 L1'
  have L1 := hide L1'
  have F1 := L1'.at
  clear L1'
  simp only [AllAt, CellsAt, updL, List.map, Nat.zero_add, Nat.reduceAdd, and_true, World.size_alloc, World.heap_drewN, heap_drew, size_set, Nat.add_eq_left, Nat.left_eq_add, Nat.add_right_cancel_iff, ne_up2, ne_dn2, ne_up3, ne_dn3, ne_up4, ne_dn4, Nat.reduceEqDiff, Nat.one_ne_zero, Nat.succ_ne_zero, Nat.zero_ne_one, reduceIte, List.set_cons_zero, List.set_cons_succ] at F1
  go_wp2_with fail
  refine Lv.same (few_yes A n cap _ hfew) ?_
  go_upto_region 5 with fail
  have n1 : w.heap.size < w1.heap.size := by omega
  go_cut [5, 6, 7] (fun s5 s6 s7 wx => ∃ g5 g6 : Nat, s5 = .pointer (some ⟨g5, 0, none⟩) ∧ s6 = .pointer (some ⟨g6, 0, none⟩) ∧ s7 = .int .i64 2 ∧ ((¬ g5 = g6 ∧ ¬ g6 = g5) ∧ (¬ g5 = w.heap.size ∧ ¬ w.heap.size = g5) ∧ (¬ g6 = w.heap.size ∧ ¬ w.heap.size = g6)) ∧ Hid (Lv w wx [(g5, 40, [.int .i64 0, .int .i64 0, .int .i64 0, .int .i64 0, .int .i64 0, .int .i64 0]), (g6, 23, [.int .i64 0, .int .i64 0, .int .i64 0]), (w.heap.size, 23, [.int .i64 a, .int .i64 b, .int .i64 c])]))
  case first =>
    have nu0 : (¬ w1.heap.size = w.heap.size ∧ ¬ w.heap.size = w1.heap.size) ∧ (¬ w1.heap.size + 1 = w.heap.size ∧ ¬ w.heap.size = w1.heap.size + 1) := by omega
    refine wp_region_noPanic ?_
    refine AnyX.start 99 (fun w' => w'.cell? ⟨w.heap.size, 0, none⟩ = some (.int .i64 a) ∧ w'.cell? ⟨w.heap.size, 1, none⟩ = some (.int .i64 b) ∧ w'.cell? ⟨w.heap.size, 2, none⟩ = some (.int .i64 c)) (by kernel_rfl) ?_ (fun hHeld => ?_)
    · (try dsimp only); go_keep
    refine' AnyX.takeL (i := 0) (oi := _) (v := _) rfl (by kernel_rfl) (by kernel_rfl) (by kernel_rfl) (by kernel_rfl) (fun _ _ _ h => h) (Or.inl ⟨by rfl, ?hy59⟩) (by assumption) ?rest59
    case hy59 => (intro w' hSw; (try dsimp only at hSw); go_simp; (first | done | with_reducible rfl))
    try simp only [Act.put, List.setIfInBounds_toArray, List.set_cons_zero, List.set_cons_succ]
    refine' AnyX.takeL (i := 2) (oi := _) (v := _) rfl (by kernel_rfl) (by kernel_rfl) (by kernel_rfl) (by kernel_rfl) (fun _ _ _ h => h) (Or.inl ⟨by rfl, ?hy60⟩) (by assumption) ?rest60
    case hy60 => (intro w' hSw; (try dsimp only at hSw); go_simp; (first | done | with_reducible rfl))
    try simp only [Act.put, List.setIfInBounds_toArray, List.set_cons_zero, List.set_cons_succ]
    refine AnyX.go (rs := [1, 8, 9]) (by kernel_rfl) (by simp) ?_
    refine AllX.consL (o := _) rfl (fun K hK => ?_) ?_
    · go_simp
      go_at_call 18
      refine (copied_any A n cap z _ (by omega) HNIL.out (HD.out.on (L1.out.drew).below)).mono ?_
      rintro e w51 ⟨gc, cc, rfl, hr, hb⟩
      have RC := hide hr
      have L51 := hide ((L1.out.drew).kept hb)
      clear hr hb
      have F51 := L51.out.at; simp only [AllAt, CellsAt, updL, List.map, Nat.zero_add, Nat.reduceAdd, and_true, World.size_alloc, World.heap_drewN, heap_drew, size_set, Nat.add_eq_left, Nat.left_eq_add, Nat.add_right_cancel_iff, ne_up2, ne_dn2, ne_up3, ne_dn3, ne_up4, ne_dn4, Nat.reduceEqDiff, Nat.one_ne_zero, Nat.succ_ne_zero, Nat.zero_ne_one, reduceIte, List.set_cons_zero, List.set_cons_succ] at F51
      go_wp2_with fail
      refine hK.out _ _ ?_ (fun hHeld => ?_)
      · (try dsimp only); go_keep
      clear hK K
      try simp only [Act.put, List.setIfInBounds_toArray, List.set_cons_zero, List.set_cons_succ]
      refine AnyX.go (rs := [3, 8, 9]) (by kernel_rfl) (by simp) ?_
      refine AllX.consL (o := _) rfl (fun K hK => ?_) ?_
      · go_simp
        go_at_call 27
        first | (with_reducible refine Lv.call (CX.out _ _ _ RC.out) (L51.out) ?_) | (with_reducible refine Lv.call (CX.out _ _ _ (RC.out.on ((Below.refl _ _).alloc (Nat.le_refl _) _))) (L51.out) ?_) | (with_reducible refine Lv.call (CX.out _ _ _ (RC.out.on (((Below.refl _ _).alloc (Nat.le_refl _) _).alloc (by simp) _))) (L51.out) ?_)
        intro w52 L52'; have L52 := hide L52'; have F52 := L52'.at; clear L52'; simp only [AllAt, CellsAt, updL, List.map, Nat.zero_add, Nat.reduceAdd, and_true, World.size_alloc, World.heap_drewN, heap_drew, size_set, Nat.add_eq_left, Nat.left_eq_add, Nat.add_right_cancel_iff, ne_up2, ne_dn2, ne_up3, ne_dn3, ne_up4, ne_dn4, Nat.reduceEqDiff, Nat.one_ne_zero, Nat.succ_ne_zero, Nat.zero_ne_one, reduceIte, List.set_cons_zero, List.set_cons_succ] at F52
        go_wp2_with fail
        refine hK.out _ _ ?_ (fun hHeld => ?_)
        · (try dsimp only); go_keep
        clear hK K
        try simp only [Act.put, List.setIfInBounds_toArray, List.set_cons_zero, List.set_cons_succ]
        refine' AnyX.takeL (i := 4) (oi := _) (v := _) rfl (by kernel_rfl) (by kernel_rfl) (by kernel_rfl) (by kernel_rfl) (fun _ _ _ h => h) (Or.inl ⟨by rfl, ?hy61⟩) (by assumption) ?rest61
        case hy61 => (intro w' hSw; (try dsimp only at hSw); go_simp; (first | done | with_reducible rfl))
        try simp only [Act.put, List.setIfInBounds_toArray, List.set_cons_zero, List.set_cons_succ]
        refine' AnyX.takeL (i := 5) (oi := _) (v := _) rfl (by kernel_rfl) (by kernel_rfl) (by kernel_rfl) (by kernel_rfl) (fun _ _ _ h => h) (Or.inl ⟨by rfl, ?hy62⟩) (by assumption) ?rest62
        case hy62 => (intro w' hSw; (try dsimp only at hSw); go_simp; (first | done | with_reducible rfl))
        try simp only [Act.put, List.setIfInBounds_toArray, List.set_cons_zero, List.set_cons_succ]
        refine' AnyX.takeL (i := 6) (oi := _) (v := _) rfl (by kernel_rfl) (by kernel_rfl) (by kernel_rfl) (by kernel_rfl) (fun _ _ _ h => h) (Or.inl ⟨by rfl, ?hy63⟩) (by assumption) ?rest63
        case hy63 => (intro w' hSw; (try dsimp only at hSw); go_simp; (first | done | with_reducible rfl))
        try simp only [Act.put, List.setIfInBounds_toArray, List.set_cons_zero, List.set_cons_succ]
        refine' AnyX.takeL (i := 7) (oi := _) (v := _) rfl (by kernel_rfl) (by kernel_rfl) (by kernel_rfl) (by kernel_rfl) (fun _ _ _ h => h) (Or.inl ⟨by rfl, ?hy64⟩) (by assumption) ?rest64
        case hy64 => (intro w' hSw; (try dsimp only at hSw); go_simp; (first | done | with_reducible rfl))
        try simp only [Act.put, List.setIfInBounds_toArray, List.set_cons_zero, List.set_cons_succ]
        refine AnyX.go (rs := [8, 9]) (by kernel_rfl) (by simp) ?_
        refine AllX.consL (o := _) rfl (fun K hK => ?_) ?_
        · go_simp
          have L53 := hide (L52.out.put [.int .i64 0, .int .i64 0, .int .i64 0, .int .i64 0, .int .i64 0, .int .i64 0] 40)
          have F53 := L53.out.at; simp only [AllAt, CellsAt, updL, List.map, Nat.zero_add, Nat.reduceAdd, and_true, World.size_alloc, World.heap_drewN, heap_drew, size_set, Nat.add_eq_left, Nat.left_eq_add, Nat.add_right_cancel_iff, ne_up2, ne_dn2, ne_up3, ne_dn3, ne_up4, ne_dn4, Nat.reduceEqDiff, Nat.one_ne_zero, Nat.succ_ne_zero, Nat.zero_ne_one, reduceIte, List.set_cons_zero, List.set_cons_succ] at F53
          refine hK.out _ _ ?_ (fun hHeld => ?_)
          · (try dsimp only); go_keep
          clear hK K
          try simp only [Act.put, List.setIfInBounds_toArray, List.set_cons_zero, List.set_cons_succ]
          refine AnyX.go (rs := [9]) (by kernel_rfl) (by simp) ?_
          refine AllX.consL (o := _) rfl (fun K hK => ?_) ?_
          · go_simp
            have L54 := hide (L53.out.put [.int .i64 0, .int .i64 0, .int .i64 0] 23)
            have F54 := L54.out.at; simp only [AllAt, CellsAt, updL, List.map, Nat.zero_add, Nat.reduceAdd, and_true, World.size_alloc, World.heap_drewN, heap_drew, size_set, Nat.add_eq_left, Nat.left_eq_add, Nat.add_right_cancel_iff, ne_up2, ne_dn2, ne_up3, ne_dn3, ne_up4, ne_dn4, Nat.reduceEqDiff, Nat.one_ne_zero, Nat.succ_ne_zero, Nat.zero_ne_one, reduceIte, List.set_cons_zero, List.set_cons_succ] at F54
            refine hK.out _ _ ?_ (fun hHeld => ?_)
            · (try dsimp only); go_keep
            clear hK K
            try simp only [Act.put, List.setIfInBounds_toArray, List.set_cons_zero, List.set_cons_succ]
            have q1 : ¬ w52.heap.size = w52.heap.size + 1 ∧ ¬ w52.heap.size + 1 = w52.heap.size := (by omega)
            have q2 : ¬ w52.heap.size = w.heap.size ∧ ¬ w.heap.size = w52.heap.size := (by omega)
            have q3 : ¬ w52.heap.size + 1 = w.heap.size ∧ ¬ w.heap.size = w52.heap.size + 1 := (by omega)
            have q4 : w.heap.size ≤ w52.heap.size ∧ w.heap.size ≤ w52.heap.size + 1 := (by omega)
            refine AnyX.go (rs := [10]) (by kernel_rfl) (by simp) (AllX.consL (o := _) rfl (fun K hK => ?_) AllX.nil)
            go_simp
            refine hK.out _ _ ?_ (fun hHeld => ?_)
            · (try dsimp only); go_keep
            clear hK K
            try simp only [Act.put, List.setIfInBounds_toArray, List.set_cons_zero, List.set_cons_succ]
            refine AnyX.go (rs := [11]) (by kernel_rfl) (by simp) (AllX.consL (o := _) rfl (fun K hK => ?_) AllX.nil)
            go_simp
            refine hK.out _ _ ?_ (fun hHeld => ?_)
            · (try dsimp only); go_keep
            clear hK K
            try simp only [Act.put, List.setIfInBounds_toArray, List.set_cons_zero, List.set_cons_succ]
            refine' AnyX.takeL (i := 12) (oi := _) (v := _) rfl (by kernel_rfl) (by kernel_rfl) (by kernel_rfl) (by kernel_rfl) (fun _ _ _ h => h) (Or.inl ⟨by rfl, ?hy65⟩) (by assumption) ?rest65
            case hy65 => (intro w' hSw; (try dsimp only at hSw); go_simp; (first | done | with_reducible rfl))
            try simp only [Act.put, List.setIfInBounds_toArray, List.set_cons_zero, List.set_cons_succ]
            refine AnyX.done (by kernel_rfl) ?_ _
            refine NoPanic.normal ?_
            go_wp2_with fail
            go_meet
            refine ⟨w52.heap.size, w52.heap.size + 1, rfl, rfl, rfl, ⟨q1, q2, q3⟩, hide ?_⟩
            skip
            have h := ((L52.out).put [.int .i64 0, .int .i64 0, .int .i64 0, .int .i64 0, .int .i64 0, .int .i64 0] 40).put [.int .i64 0, .int .i64 0, .int .i64 0] 23
            try simp only [World.size_alloc, World.heap_drewN, heap_drew, Nat.add_assoc, Nat.reduceAdd] at h
            have h4 := Lv.of (L' := [(w52.heap.size, 40, [.int .i64 0, .int .i64 0, .int .i64 0, .int .i64 0, .int .i64 0, .int .i64 0]), (w52.heap.size + 1, 23, [.int .i64 0, .int .i64 0, .int .i64 0]), (w.heap.size, 23, [.int .i64 a, .int .i64 b, .int .i64 c])]) h (by simp)
            with_reducible exact h4
          exact AllX.nil
        refine AllX.consL (o := _) rfl (fun K hK => ?_) ?_
        · go_simp
          have L55 := hide (L52.out.put [.int .i64 0, .int .i64 0, .int .i64 0] 23)
          have F55 := L55.out.at; simp only [AllAt, CellsAt, updL, List.map, Nat.zero_add, Nat.reduceAdd, and_true, World.size_alloc, World.heap_drewN, heap_drew, size_set, Nat.add_eq_left, Nat.left_eq_add, Nat.add_right_cancel_iff, ne_up2, ne_dn2, ne_up3, ne_dn3, ne_up4, ne_dn4, Nat.reduceEqDiff, Nat.one_ne_zero, Nat.succ_ne_zero, Nat.zero_ne_one, reduceIte, List.set_cons_zero, List.set_cons_succ] at F55
          refine hK.out _ _ ?_ (fun hHeld => ?_)
          · (try dsimp only); go_keep
          clear hK K
          try simp only [Act.put, List.setIfInBounds_toArray, List.set_cons_zero, List.set_cons_succ]
          refine AnyX.go (rs := [8]) (by kernel_rfl) (by simp) ?_
          refine AllX.consL (o := _) rfl (fun K hK => ?_) ?_
          · go_simp
            have L56 := hide (L55.out.put [.int .i64 0, .int .i64 0, .int .i64 0, .int .i64 0, .int .i64 0, .int .i64 0] 40)
            have F56 := L56.out.at; simp only [AllAt, CellsAt, updL, List.map, Nat.zero_add, Nat.reduceAdd, and_true, World.size_alloc, World.heap_drewN, heap_drew, size_set, Nat.add_eq_left, Nat.left_eq_add, Nat.add_right_cancel_iff, ne_up2, ne_dn2, ne_up3, ne_dn3, ne_up4, ne_dn4, Nat.reduceEqDiff, Nat.one_ne_zero, Nat.succ_ne_zero, Nat.zero_ne_one, reduceIte, List.set_cons_zero, List.set_cons_succ] at F56
            refine hK.out _ _ ?_ (fun hHeld => ?_)
            · (try dsimp only); go_keep
            clear hK K
            try simp only [Act.put, List.setIfInBounds_toArray, List.set_cons_zero, List.set_cons_succ]
            have q1 : ¬ w52.heap.size + 1 = w52.heap.size ∧ ¬ w52.heap.size = w52.heap.size + 1 := (by omega)
            have q2 : ¬ w52.heap.size + 1 = w.heap.size ∧ ¬ w.heap.size = w52.heap.size + 1 := (by omega)
            have q3 : ¬ w52.heap.size = w.heap.size ∧ ¬ w.heap.size = w52.heap.size := (by omega)
            have q4 : w.heap.size ≤ w52.heap.size + 1 ∧ w.heap.size ≤ w52.heap.size := (by omega)
            refine AnyX.go (rs := [10]) (by kernel_rfl) (by simp) (AllX.consL (o := _) rfl (fun K hK => ?_) AllX.nil)
            go_simp
            refine hK.out _ _ ?_ (fun hHeld => ?_)
            · (try dsimp only); go_keep
            clear hK K
            try simp only [Act.put, List.setIfInBounds_toArray, List.set_cons_zero, List.set_cons_succ]
            refine AnyX.go (rs := [11]) (by kernel_rfl) (by simp) (AllX.consL (o := _) rfl (fun K hK => ?_) AllX.nil)
            go_simp
            refine hK.out _ _ ?_ (fun hHeld => ?_)
            · (try dsimp only); go_keep
            clear hK K
            try simp only [Act.put, List.setIfInBounds_toArray, List.set_cons_zero, List.set_cons_succ]
            refine' AnyX.takeL (i := 12) (oi := _) (v := _) rfl (by kernel_rfl) (by kernel_rfl) (by kernel_rfl) (by kernel_rfl) (fun _ _ _ h => h) (Or.inl ⟨by rfl, ?hy66⟩) (by assumption) ?rest66
            case hy66 => (intro w' hSw; (try dsimp only at hSw); go_simp; (first | done | with_reducible rfl))
            try simp only [Act.put, List.setIfInBounds_toArray, List.set_cons_zero, List.set_cons_succ]
            refine AnyX.done (by kernel_rfl) ?_ _
            refine NoPanic.normal ?_
            go_wp2_with fail
            go_meet
            refine ⟨w52.heap.size + 1, w52.heap.size, rfl, rfl, rfl, ⟨q1, q2, q3⟩, hide ?_⟩
            skip
            have h := ((L52.out).put [.int .i64 0, .int .i64 0, .int .i64 0] 23).put [.int .i64 0, .int .i64 0, .int .i64 0, .int .i64 0, .int .i64 0, .int .i64 0] 40
            try simp only [World.size_alloc, World.heap_drewN, heap_drew, Nat.add_assoc, Nat.reduceAdd] at h
            have h4 := Lv.of (L' := [(w52.heap.size + 1, 40, [.int .i64 0, .int .i64 0, .int .i64 0, .int .i64 0, .int .i64 0, .int .i64 0]), (w52.heap.size, 23, [.int .i64 0, .int .i64 0, .int .i64 0]), (w.heap.size, 23, [.int .i64 a, .int .i64 b, .int .i64 c])]) h (by simp)
            with_reducible exact h4
          exact AllX.nil
        exact AllX.nil
      refine AllX.consL (o := _) rfl (fun K hK => ?_) ?_
      · go_simp
        have L57 := hide (L51.out.put [.int .i64 0, .int .i64 0, .int .i64 0, .int .i64 0, .int .i64 0, .int .i64 0] 40)
        have F57 := L57.out.at; simp only [AllAt, CellsAt, updL, List.map, Nat.zero_add, Nat.reduceAdd, and_true, World.size_alloc, World.heap_drewN, heap_drew, size_set, Nat.add_eq_left, Nat.left_eq_add, Nat.add_right_cancel_iff, ne_up2, ne_dn2, ne_up3, ne_dn3, ne_up4, ne_dn4, Nat.reduceEqDiff, Nat.one_ne_zero, Nat.succ_ne_zero, Nat.zero_ne_one, reduceIte, List.set_cons_zero, List.set_cons_succ] at F57
        refine hK.out _ _ ?_ (fun hHeld => ?_)
        · (try dsimp only); go_keep
        clear hK K
        try simp only [Act.put, List.setIfInBounds_toArray, List.set_cons_zero, List.set_cons_succ]
        refine AnyX.go (rs := [3, 9]) (by kernel_rfl) (by simp) ?_
        refine AllX.consL (o := _) rfl (fun K hK => ?_) ?_
        · go_simp
          go_at_call 27
          first | (with_reducible refine Lv.call (CX.out _ _ _ RC.out) (L57.out) ?_) | (with_reducible refine Lv.call (CX.out _ _ _ (RC.out.on ((Below.refl _ _).alloc (Nat.le_refl _) _))) (L57.out) ?_) | (with_reducible refine Lv.call (CX.out _ _ _ (RC.out.on (((Below.refl _ _).alloc (Nat.le_refl _) _).alloc (by simp) _))) (L57.out) ?_)
          intro w58 L58'; have L58 := hide L58'; have F58 := L58'.at; clear L58'; simp only [AllAt, CellsAt, updL, List.map, Nat.zero_add, Nat.reduceAdd, and_true, World.size_alloc, World.heap_drewN, heap_drew, size_set, Nat.add_eq_left, Nat.left_eq_add, Nat.add_right_cancel_iff, ne_up2, ne_dn2, ne_up3, ne_dn3, ne_up4, ne_dn4, Nat.reduceEqDiff, Nat.one_ne_zero, Nat.succ_ne_zero, Nat.zero_ne_one, reduceIte, List.set_cons_zero, List.set_cons_succ] at F58
          go_wp2_with fail
          refine hK.out _ _ ?_ (fun hHeld => ?_)
          · (try dsimp only); go_keep
          clear hK K
          try simp only [Act.put, List.setIfInBounds_toArray, List.set_cons_zero, List.set_cons_succ]
          refine' AnyX.takeL (i := 4) (oi := _) (v := _) rfl (by kernel_rfl) (by kernel_rfl) (by kernel_rfl) (by kernel_rfl) (fun _ _ _ h => h) (Or.inl ⟨by rfl, ?hy67⟩) (by assumption) ?rest67
          case hy67 => (intro w' hSw; (try dsimp only at hSw); go_simp; (first | done | with_reducible rfl))
          try simp only [Act.put, List.setIfInBounds_toArray, List.set_cons_zero, List.set_cons_succ]
          refine' AnyX.takeL (i := 5) (oi := _) (v := _) rfl (by kernel_rfl) (by kernel_rfl) (by kernel_rfl) (by kernel_rfl) (fun _ _ _ h => h) (Or.inl ⟨by rfl, ?hy68⟩) (by assumption) ?rest68
          case hy68 => (intro w' hSw; (try dsimp only at hSw); go_simp; (first | done | with_reducible rfl))
          try simp only [Act.put, List.setIfInBounds_toArray, List.set_cons_zero, List.set_cons_succ]
          refine' AnyX.takeL (i := 6) (oi := _) (v := _) rfl (by kernel_rfl) (by kernel_rfl) (by kernel_rfl) (by kernel_rfl) (fun _ _ _ h => h) (Or.inl ⟨by rfl, ?hy69⟩) (by assumption) ?rest69
          case hy69 => (intro w' hSw; (try dsimp only at hSw); go_simp; (first | done | with_reducible rfl))
          try simp only [Act.put, List.setIfInBounds_toArray, List.set_cons_zero, List.set_cons_succ]
          refine' AnyX.takeL (i := 7) (oi := _) (v := _) rfl (by kernel_rfl) (by kernel_rfl) (by kernel_rfl) (by kernel_rfl) (fun _ _ _ h => h) (Or.inl ⟨by rfl, ?hy70⟩) (by assumption) ?rest70
          case hy70 => (intro w' hSw; (try dsimp only at hSw); go_simp; (first | done | with_reducible rfl))
          try simp only [Act.put, List.setIfInBounds_toArray, List.set_cons_zero, List.set_cons_succ]
          refine AnyX.go (rs := [9]) (by kernel_rfl) (by simp) ?_
          refine AllX.consL (o := _) rfl (fun K hK => ?_) ?_
          · go_simp
            have L59 := hide (L58.out.put [.int .i64 0, .int .i64 0, .int .i64 0] 23)
            have F59 := L59.out.at; simp only [AllAt, CellsAt, updL, List.map, Nat.zero_add, Nat.reduceAdd, and_true, World.size_alloc, World.heap_drewN, heap_drew, size_set, Nat.add_eq_left, Nat.left_eq_add, Nat.add_right_cancel_iff, ne_up2, ne_dn2, ne_up3, ne_dn3, ne_up4, ne_dn4, Nat.reduceEqDiff, Nat.one_ne_zero, Nat.succ_ne_zero, Nat.zero_ne_one, reduceIte, List.set_cons_zero, List.set_cons_succ] at F59
            refine hK.out _ _ ?_ (fun hHeld => ?_)
            · (try dsimp only); go_keep
            clear hK K
            try simp only [Act.put, List.setIfInBounds_toArray, List.set_cons_zero, List.set_cons_succ]
            have q1 : ¬ w51.heap.size = w58.heap.size ∧ ¬ w58.heap.size = w51.heap.size := (by omega)
            have q2 : ¬ w51.heap.size = w.heap.size ∧ ¬ w.heap.size = w51.heap.size := (by omega)
            have q3 : ¬ w58.heap.size = w.heap.size ∧ ¬ w.heap.size = w58.heap.size := (by omega)
            have q4 : w.heap.size ≤ w51.heap.size ∧ w.heap.size ≤ w58.heap.size := (by omega)
            refine AnyX.go (rs := [10]) (by kernel_rfl) (by simp) (AllX.consL (o := _) rfl (fun K hK => ?_) AllX.nil)
            go_simp
            refine hK.out _ _ ?_ (fun hHeld => ?_)
            · (try dsimp only); go_keep
            clear hK K
            try simp only [Act.put, List.setIfInBounds_toArray, List.set_cons_zero, List.set_cons_succ]
            refine AnyX.go (rs := [11]) (by kernel_rfl) (by simp) (AllX.consL (o := _) rfl (fun K hK => ?_) AllX.nil)
            go_simp
            refine hK.out _ _ ?_ (fun hHeld => ?_)
            · (try dsimp only); go_keep
            clear hK K
            try simp only [Act.put, List.setIfInBounds_toArray, List.set_cons_zero, List.set_cons_succ]
            refine' AnyX.takeL (i := 12) (oi := _) (v := _) rfl (by kernel_rfl) (by kernel_rfl) (by kernel_rfl) (by kernel_rfl) (fun _ _ _ h => h) (Or.inl ⟨by rfl, ?hy71⟩) (by assumption) ?rest71
            case hy71 => (intro w' hSw; (try dsimp only at hSw); go_simp; (first | done | with_reducible rfl))
            try simp only [Act.put, List.setIfInBounds_toArray, List.set_cons_zero, List.set_cons_succ]
            refine AnyX.done (by kernel_rfl) ?_ _
            refine NoPanic.normal ?_
            go_wp2_with fail
            go_meet
            refine ⟨w51.heap.size, w58.heap.size, rfl, rfl, rfl, ⟨q1, q2, q3⟩, hide ?_⟩
            skip
            have h := L58.out
            try simp only [World.size_alloc, World.heap_drewN, heap_drew, Nat.add_assoc, Nat.reduceAdd] at h
            have h0 := Lv.of (L' := [(w51.heap.size, 40, [.int .i64 0, .int .i64 0, .int .i64 0, .int .i64 0, .int .i64 0, .int .i64 0]), (w.heap.size, 23, [.int .i64 a, .int .i64 b, .int .i64 c])]) h (by simp)
            have h1 := h0.stored6 (u1 := .int .i64 0) (u2 := .int .i64 0) (u3 := .int .i64 0) (u4 := .int .i64 0) (u5 := .int .i64 0) (u6 := .int .i64 0) q4.1 (by simp [q2.2])
            clear h
            have h := h1.put [.int .i64 0, .int .i64 0, .int .i64 0] 23
            try simp only [World.size_alloc, size_set, World.heap_drewN, heap_drew, Nat.add_assoc, Nat.reduceAdd] at h
            have h4 := Lv.of (L' := [(w51.heap.size, 40, [.int .i64 0, .int .i64 0, .int .i64 0, .int .i64 0, .int .i64 0, .int .i64 0]), (w58.heap.size, 23, [.int .i64 0, .int .i64 0, .int .i64 0]), (w.heap.size, 23, [.int .i64 a, .int .i64 b, .int .i64 c])]) h (by simp)
            with_reducible exact h4
          exact AllX.nil
        refine AllX.consL (o := _) rfl (fun K hK => ?_) ?_
        · go_simp
          have L60 := hide (L57.out.put [.int .i64 0, .int .i64 0, .int .i64 0] 23)
          have F60 := L60.out.at; simp only [AllAt, CellsAt, updL, List.map, Nat.zero_add, Nat.reduceAdd, and_true, World.size_alloc, World.heap_drewN, heap_drew, size_set, Nat.add_eq_left, Nat.left_eq_add, Nat.add_right_cancel_iff, ne_up2, ne_dn2, ne_up3, ne_dn3, ne_up4, ne_dn4, Nat.reduceEqDiff, Nat.one_ne_zero, Nat.succ_ne_zero, Nat.zero_ne_one, reduceIte, List.set_cons_zero, List.set_cons_succ] at F60
          refine hK.out _ _ ?_ (fun hHeld => ?_)
          · (try dsimp only); go_keep
          clear hK K
          try simp only [Act.put, List.setIfInBounds_toArray, List.set_cons_zero, List.set_cons_succ]
          refine AnyX.go (rs := [3]) (by kernel_rfl) (by simp) ?_
          refine AllX.consL (o := _) rfl (fun K hK => ?_) ?_
          · go_simp
            go_at_call 27
            first | (with_reducible refine Lv.call (CX.out _ _ _ RC.out) (L60.out) ?_) | (with_reducible refine Lv.call (CX.out _ _ _ (RC.out.on ((Below.refl _ _).alloc (Nat.le_refl _) _))) (L60.out) ?_) | (with_reducible refine Lv.call (CX.out _ _ _ (RC.out.on (((Below.refl _ _).alloc (Nat.le_refl _) _).alloc (by simp) _))) (L60.out) ?_)
            intro w61 L61'; have L61 := hide L61'; have F61 := L61'.at; clear L61'; simp only [AllAt, CellsAt, updL, List.map, Nat.zero_add, Nat.reduceAdd, and_true, World.size_alloc, World.heap_drewN, heap_drew, size_set, Nat.add_eq_left, Nat.left_eq_add, Nat.add_right_cancel_iff, ne_up2, ne_dn2, ne_up3, ne_dn3, ne_up4, ne_dn4, Nat.reduceEqDiff, Nat.one_ne_zero, Nat.succ_ne_zero, Nat.zero_ne_one, reduceIte, List.set_cons_zero, List.set_cons_succ] at F61
            go_wp2_with fail
            refine hK.out _ _ ?_ (fun hHeld => ?_)
            · (try dsimp only); go_keep
            clear hK K
            try simp only [Act.put, List.setIfInBounds_toArray, List.set_cons_zero, List.set_cons_succ]
            refine' AnyX.takeL (i := 4) (oi := _) (v := _) rfl (by kernel_rfl) (by kernel_rfl) (by kernel_rfl) (by kernel_rfl) (fun _ _ _ h => h) (Or.inl ⟨by rfl, ?hy72⟩) (by assumption) ?rest72
            case hy72 => (intro w' hSw; (try dsimp only at hSw); go_simp; (first | done | with_reducible rfl))
            try simp only [Act.put, List.setIfInBounds_toArray, List.set_cons_zero, List.set_cons_succ]
            refine' AnyX.takeL (i := 5) (oi := _) (v := _) rfl (by kernel_rfl) (by kernel_rfl) (by kernel_rfl) (by kernel_rfl) (fun _ _ _ h => h) (Or.inl ⟨by rfl, ?hy73⟩) (by assumption) ?rest73
            case hy73 => (intro w' hSw; (try dsimp only at hSw); go_simp; (first | done | with_reducible rfl))
            try simp only [Act.put, List.setIfInBounds_toArray, List.set_cons_zero, List.set_cons_succ]
            refine' AnyX.takeL (i := 6) (oi := _) (v := _) rfl (by kernel_rfl) (by kernel_rfl) (by kernel_rfl) (by kernel_rfl) (fun _ _ _ h => h) (Or.inl ⟨by rfl, ?hy74⟩) (by assumption) ?rest74
            case hy74 => (intro w' hSw; (try dsimp only at hSw); go_simp; (first | done | with_reducible rfl))
            try simp only [Act.put, List.setIfInBounds_toArray, List.set_cons_zero, List.set_cons_succ]
            refine' AnyX.takeL (i := 7) (oi := _) (v := _) rfl (by kernel_rfl) (by kernel_rfl) (by kernel_rfl) (by kernel_rfl) (fun _ _ _ h => h) (Or.inl ⟨by rfl, ?hy75⟩) (by assumption) ?rest75
            case hy75 => (intro w' hSw; (try dsimp only at hSw); go_simp; (first | done | with_reducible rfl))
            try simp only [Act.put, List.setIfInBounds_toArray, List.set_cons_zero, List.set_cons_succ]
            have q1 : ¬ w51.heap.size = w51.heap.size + 1 ∧ ¬ w51.heap.size + 1 = w51.heap.size := (by omega)
            have q2 : ¬ w51.heap.size = w.heap.size ∧ ¬ w.heap.size = w51.heap.size := (by omega)
            have q3 : ¬ w51.heap.size + 1 = w.heap.size ∧ ¬ w.heap.size = w51.heap.size + 1 := (by omega)
            have q4 : w.heap.size ≤ w51.heap.size ∧ w.heap.size ≤ w51.heap.size + 1 := (by omega)
            refine AnyX.go (rs := [10]) (by kernel_rfl) (by simp) (AllX.consL (o := _) rfl (fun K hK => ?_) AllX.nil)
            go_simp
            refine hK.out _ _ ?_ (fun hHeld => ?_)
            · (try dsimp only); go_keep
            clear hK K
            try simp only [Act.put, List.setIfInBounds_toArray, List.set_cons_zero, List.set_cons_succ]
            refine AnyX.go (rs := [11]) (by kernel_rfl) (by simp) (AllX.consL (o := _) rfl (fun K hK => ?_) AllX.nil)
            go_simp
            refine hK.out _ _ ?_ (fun hHeld => ?_)
            · (try dsimp only); go_keep
            clear hK K
            try simp only [Act.put, List.setIfInBounds_toArray, List.set_cons_zero, List.set_cons_succ]
            refine' AnyX.takeL (i := 12) (oi := _) (v := _) rfl (by kernel_rfl) (by kernel_rfl) (by kernel_rfl) (by kernel_rfl) (fun _ _ _ h => h) (Or.inl ⟨by rfl, ?hy76⟩) (by assumption) ?rest76
            case hy76 => (intro w' hSw; (try dsimp only at hSw); go_simp; (first | done | with_reducible rfl))
            try simp only [Act.put, List.setIfInBounds_toArray, List.set_cons_zero, List.set_cons_succ]
            refine AnyX.done (by kernel_rfl) ?_ _
            refine NoPanic.normal ?_
            go_wp2_with fail
            go_meet
            refine ⟨w51.heap.size, w51.heap.size + 1, rfl, rfl, rfl, ⟨q1, q2, q3⟩, hide ?_⟩
            skip
            have h := L61.out
            try simp only [World.size_alloc, World.heap_drewN, heap_drew, Nat.add_assoc, Nat.reduceAdd] at h
            have h0 := Lv.of (L' := [(w51.heap.size, 40, [.int .i64 0, .int .i64 0, .int .i64 0, .int .i64 0, .int .i64 0, .int .i64 0]), (w51.heap.size + 1, 23, [.int .i64 0, .int .i64 0, .int .i64 0]), (w.heap.size, 23, [.int .i64 a, .int .i64 b, .int .i64 c])]) h (by simp)
            have h1 := h0.stored6 (u1 := .int .i64 0) (u2 := .int .i64 0) (u3 := .int .i64 0) (u4 := .int .i64 0) (u5 := .int .i64 0) (u6 := .int .i64 0) q4.1 (by simp [q1.2, q2.2])
            have h2 := Lv.of (L' := [(w51.heap.size + 1, 23, [.int .i64 0, .int .i64 0, .int .i64 0]), (w51.heap.size, 40, [.int .i64 0, .int .i64 0, .int .i64 0, .int .i64 0, .int .i64 0, .int .i64 0]), (w.heap.size, 23, [.int .i64 a, .int .i64 b, .int .i64 c])]) h1 (by simp)
            clear h
            have h := h2.stored3 (u1 := .int .i64 0) (u2 := .int .i64 0) (u3 := .int .i64 0) q4.2 (by simp [q1.1, q3.2])
            try simp only [World.size_alloc, size_set, World.heap_drewN, heap_drew, Nat.add_assoc, Nat.reduceAdd] at h
            have h4 := Lv.of (L' := [(w51.heap.size, 40, [.int .i64 0, .int .i64 0, .int .i64 0, .int .i64 0, .int .i64 0, .int .i64 0]), (w51.heap.size + 1, 23, [.int .i64 0, .int .i64 0, .int .i64 0]), (w.heap.size, 23, [.int .i64 a, .int .i64 b, .int .i64 c])]) h (by simp)
            with_reducible exact h4
          exact AllX.nil
        exact AllX.nil
      refine AllX.consL (o := _) rfl (fun K hK => ?_) ?_
      · go_simp
        have L62 := hide (L51.out.put [.int .i64 0, .int .i64 0, .int .i64 0] 23)
        have F62 := L62.out.at; simp only [AllAt, CellsAt, updL, List.map, Nat.zero_add, Nat.reduceAdd, and_true, World.size_alloc, World.heap_drewN, heap_drew, size_set, Nat.add_eq_left, Nat.left_eq_add, Nat.add_right_cancel_iff, ne_up2, ne_dn2, ne_up3, ne_dn3, ne_up4, ne_dn4, Nat.reduceEqDiff, Nat.one_ne_zero, Nat.succ_ne_zero, Nat.zero_ne_one, reduceIte, List.set_cons_zero, List.set_cons_succ] at F62
        refine hK.out _ _ ?_ (fun hHeld => ?_)
        · (try dsimp only); go_keep
        clear hK K
        try simp only [Act.put, List.setIfInBounds_toArray, List.set_cons_zero, List.set_cons_succ]
        refine AnyX.go (rs := [3, 8]) (by kernel_rfl) (by simp) ?_
        refine AllX.consL (o := _) rfl (fun K hK => ?_) ?_
        · go_simp
          go_at_call 27
          first | (with_reducible refine Lv.call (CX.out _ _ _ RC.out) (L62.out) ?_) | (with_reducible refine Lv.call (CX.out _ _ _ (RC.out.on ((Below.refl _ _).alloc (Nat.le_refl _) _))) (L62.out) ?_) | (with_reducible refine Lv.call (CX.out _ _ _ (RC.out.on (((Below.refl _ _).alloc (Nat.le_refl _) _).alloc (by simp) _))) (L62.out) ?_)
          intro w63 L63'; have L63 := hide L63'; have F63 := L63'.at; clear L63'; simp only [AllAt, CellsAt, updL, List.map, Nat.zero_add, Nat.reduceAdd, and_true, World.size_alloc, World.heap_drewN, heap_drew, size_set, Nat.add_eq_left, Nat.left_eq_add, Nat.add_right_cancel_iff, ne_up2, ne_dn2, ne_up3, ne_dn3, ne_up4, ne_dn4, Nat.reduceEqDiff, Nat.one_ne_zero, Nat.succ_ne_zero, Nat.zero_ne_one, reduceIte, List.set_cons_zero, List.set_cons_succ] at F63
          go_wp2_with fail
          refine hK.out _ _ ?_ (fun hHeld => ?_)
          · (try dsimp only); go_keep
          clear hK K
          try simp only [Act.put, List.setIfInBounds_toArray, List.set_cons_zero, List.set_cons_succ]
          refine' AnyX.takeL (i := 4) (oi := _) (v := _) rfl (by kernel_rfl) (by kernel_rfl) (by kernel_rfl) (by kernel_rfl) (fun _ _ _ h => h) (Or.inl ⟨by rfl, ?hy77⟩) (by assumption) ?rest77
          case hy77 => (intro w' hSw; (try dsimp only at hSw); go_simp; (first | done | with_reducible rfl))
          try simp only [Act.put, List.setIfInBounds_toArray, List.set_cons_zero, List.set_cons_succ]
          refine' AnyX.takeL (i := 5) (oi := _) (v := _) rfl (by kernel_rfl) (by kernel_rfl) (by kernel_rfl) (by kernel_rfl) (fun _ _ _ h => h) (Or.inl ⟨by rfl, ?hy78⟩) (by assumption) ?rest78
          case hy78 => (intro w' hSw; (try dsimp only at hSw); go_simp; (first | done | with_reducible rfl))
          try simp only [Act.put, List.setIfInBounds_toArray, List.set_cons_zero, List.set_cons_succ]
          refine' AnyX.takeL (i := 6) (oi := _) (v := _) rfl (by kernel_rfl) (by kernel_rfl) (by kernel_rfl) (by kernel_rfl) (fun _ _ _ h => h) (Or.inl ⟨by rfl, ?hy79⟩) (by assumption) ?rest79
          case hy79 => (intro w' hSw; (try dsimp only at hSw); go_simp; (first | done | with_reducible rfl))
          try simp only [Act.put, List.setIfInBounds_toArray, List.set_cons_zero, List.set_cons_succ]
          refine' AnyX.takeL (i := 7) (oi := _) (v := _) rfl (by kernel_rfl) (by kernel_rfl) (by kernel_rfl) (by kernel_rfl) (fun _ _ _ h => h) (Or.inl ⟨by rfl, ?hy80⟩) (by assumption) ?rest80
          case hy80 => (intro w' hSw; (try dsimp only at hSw); go_simp; (first | done | with_reducible rfl))
          try simp only [Act.put, List.setIfInBounds_toArray, List.set_cons_zero, List.set_cons_succ]
          refine AnyX.go (rs := [8]) (by kernel_rfl) (by simp) ?_
          refine AllX.consL (o := _) rfl (fun K hK => ?_) ?_
          · go_simp
            have L64 := hide (L63.out.put [.int .i64 0, .int .i64 0, .int .i64 0, .int .i64 0, .int .i64 0, .int .i64 0] 40)
            have F64 := L64.out.at; simp only [AllAt, CellsAt, updL, List.map, Nat.zero_add, Nat.reduceAdd, and_true, World.size_alloc, World.heap_drewN, heap_drew, size_set, Nat.add_eq_left, Nat.left_eq_add, Nat.add_right_cancel_iff, ne_up2, ne_dn2, ne_up3, ne_dn3, ne_up4, ne_dn4, Nat.reduceEqDiff, Nat.one_ne_zero, Nat.succ_ne_zero, Nat.zero_ne_one, reduceIte, List.set_cons_zero, List.set_cons_succ] at F64
            refine hK.out _ _ ?_ (fun hHeld => ?_)
            · (try dsimp only); go_keep
            clear hK K
            try simp only [Act.put, List.setIfInBounds_toArray, List.set_cons_zero, List.set_cons_succ]
            have q1 : ¬ w63.heap.size = w51.heap.size ∧ ¬ w51.heap.size = w63.heap.size := (by omega)
            have q2 : ¬ w63.heap.size = w.heap.size ∧ ¬ w.heap.size = w63.heap.size := (by omega)
            have q3 : ¬ w51.heap.size = w.heap.size ∧ ¬ w.heap.size = w51.heap.size := (by omega)
            have q4 : w.heap.size ≤ w63.heap.size ∧ w.heap.size ≤ w51.heap.size := (by omega)
            refine AnyX.go (rs := [10]) (by kernel_rfl) (by simp) (AllX.consL (o := _) rfl (fun K hK => ?_) AllX.nil)
            go_simp
            refine hK.out _ _ ?_ (fun hHeld => ?_)
            · (try dsimp only); go_keep
            clear hK K
            try simp only [Act.put, List.setIfInBounds_toArray, List.set_cons_zero, List.set_cons_succ]
            refine AnyX.go (rs := [11]) (by kernel_rfl) (by simp) (AllX.consL (o := _) rfl (fun K hK => ?_) AllX.nil)
            go_simp
            refine hK.out _ _ ?_ (fun hHeld => ?_)
            · (try dsimp only); go_keep
            clear hK K
            try simp only [Act.put, List.setIfInBounds_toArray, List.set_cons_zero, List.set_cons_succ]
            refine' AnyX.takeL (i := 12) (oi := _) (v := _) rfl (by kernel_rfl) (by kernel_rfl) (by kernel_rfl) (by kernel_rfl) (fun _ _ _ h => h) (Or.inl ⟨by rfl, ?hy81⟩) (by assumption) ?rest81
            case hy81 => (intro w' hSw; (try dsimp only at hSw); go_simp; (first | done | with_reducible rfl))
            try simp only [Act.put, List.setIfInBounds_toArray, List.set_cons_zero, List.set_cons_succ]
            refine AnyX.done (by kernel_rfl) ?_ _
            refine NoPanic.normal ?_
            go_wp2_with fail
            go_meet
            refine ⟨w63.heap.size, w51.heap.size, rfl, rfl, rfl, ⟨q1, q2, q3⟩, hide ?_⟩
            skip
            have h := L63.out
            try simp only [World.size_alloc, World.heap_drewN, heap_drew, Nat.add_assoc, Nat.reduceAdd] at h
            have h0 := Lv.of (L' := [(w51.heap.size, 23, [.int .i64 0, .int .i64 0, .int .i64 0]), (w.heap.size, 23, [.int .i64 a, .int .i64 b, .int .i64 c])]) h (by simp)
            have h1 := h0.stored3 (u1 := .int .i64 0) (u2 := .int .i64 0) (u3 := .int .i64 0) q4.2 (by simp [q3.2])
            clear h
            have h := h1.put [.int .i64 0, .int .i64 0, .int .i64 0, .int .i64 0, .int .i64 0, .int .i64 0] 40
            try simp only [World.size_alloc, size_set, World.heap_drewN, heap_drew, Nat.add_assoc, Nat.reduceAdd] at h
            have h4 := Lv.of (L' := [(w63.heap.size, 40, [.int .i64 0, .int .i64 0, .int .i64 0, .int .i64 0, .int .i64 0, .int .i64 0]), (w51.heap.size, 23, [.int .i64 0, .int .i64 0, .int .i64 0]), (w.heap.size, 23, [.int .i64 a, .int .i64 b, .int .i64 c])]) h (by simp)
            with_reducible exact h4
          exact AllX.nil
        refine AllX.consL (o := _) rfl (fun K hK => ?_) ?_
        · go_simp
          have L65 := hide (L62.out.put [.int .i64 0, .int .i64 0, .int .i64 0, .int .i64 0, .int .i64 0, .int .i64 0] 40)
          have F65 := L65.out.at; simp only [AllAt, CellsAt, updL, List.map, Nat.zero_add, Nat.reduceAdd, and_true, World.size_alloc, World.heap_drewN, heap_drew, size_set, Nat.add_eq_left, Nat.left_eq_add, Nat.add_right_cancel_iff, ne_up2, ne_dn2, ne_up3, ne_dn3, ne_up4, ne_dn4, Nat.reduceEqDiff, Nat.one_ne_zero, Nat.succ_ne_zero, Nat.zero_ne_one, reduceIte, List.set_cons_zero, List.set_cons_succ] at F65
          refine hK.out _ _ ?_ (fun hHeld => ?_)
          · (try dsimp only); go_keep
          clear hK K
          try simp only [Act.put, List.setIfInBounds_toArray, List.set_cons_zero, List.set_cons_succ]
          refine AnyX.go (rs := [3]) (by kernel_rfl) (by simp) ?_
          refine AllX.consL (o := _) rfl (fun K hK => ?_) ?_
          · go_simp
            go_at_call 27
            first | (with_reducible refine Lv.call (CX.out _ _ _ RC.out) (L65.out) ?_) | (with_reducible refine Lv.call (CX.out _ _ _ (RC.out.on ((Below.refl _ _).alloc (Nat.le_refl _) _))) (L65.out) ?_) | (with_reducible refine Lv.call (CX.out _ _ _ (RC.out.on (((Below.refl _ _).alloc (Nat.le_refl _) _).alloc (by simp) _))) (L65.out) ?_)
            intro w66 L66'; have L66 := hide L66'; have F66 := L66'.at; clear L66'; simp only [AllAt, CellsAt, updL, List.map, Nat.zero_add, Nat.reduceAdd, and_true, World.size_alloc, World.heap_drewN, heap_drew, size_set, Nat.add_eq_left, Nat.left_eq_add, Nat.add_right_cancel_iff, ne_up2, ne_dn2, ne_up3, ne_dn3, ne_up4, ne_dn4, Nat.reduceEqDiff, Nat.one_ne_zero, Nat.succ_ne_zero, Nat.zero_ne_one, reduceIte, List.set_cons_zero, List.set_cons_succ] at F66
            go_wp2_with fail
            refine hK.out _ _ ?_ (fun hHeld => ?_)
            · (try dsimp only); go_keep
            clear hK K
            try simp only [Act.put, List.setIfInBounds_toArray, List.set_cons_zero, List.set_cons_succ]
            refine' AnyX.takeL (i := 4) (oi := _) (v := _) rfl (by kernel_rfl) (by kernel_rfl) (by kernel_rfl) (by kernel_rfl) (fun _ _ _ h => h) (Or.inl ⟨by rfl, ?hy82⟩) (by assumption) ?rest82
            case hy82 => (intro w' hSw; (try dsimp only at hSw); go_simp; (first | done | with_reducible rfl))
            try simp only [Act.put, List.setIfInBounds_toArray, List.set_cons_zero, List.set_cons_succ]
            refine' AnyX.takeL (i := 5) (oi := _) (v := _) rfl (by kernel_rfl) (by kernel_rfl) (by kernel_rfl) (by kernel_rfl) (fun _ _ _ h => h) (Or.inl ⟨by rfl, ?hy83⟩) (by assumption) ?rest83
            case hy83 => (intro w' hSw; (try dsimp only at hSw); go_simp; (first | done | with_reducible rfl))
            try simp only [Act.put, List.setIfInBounds_toArray, List.set_cons_zero, List.set_cons_succ]
            refine' AnyX.takeL (i := 6) (oi := _) (v := _) rfl (by kernel_rfl) (by kernel_rfl) (by kernel_rfl) (by kernel_rfl) (fun _ _ _ h => h) (Or.inl ⟨by rfl, ?hy84⟩) (by assumption) ?rest84
            case hy84 => (intro w' hSw; (try dsimp only at hSw); go_simp; (first | done | with_reducible rfl))
            try simp only [Act.put, List.setIfInBounds_toArray, List.set_cons_zero, List.set_cons_succ]
            refine' AnyX.takeL (i := 7) (oi := _) (v := _) rfl (by kernel_rfl) (by kernel_rfl) (by kernel_rfl) (by kernel_rfl) (fun _ _ _ h => h) (Or.inl ⟨by rfl, ?hy85⟩) (by assumption) ?rest85
            case hy85 => (intro w' hSw; (try dsimp only at hSw); go_simp; (first | done | with_reducible rfl))
            try simp only [Act.put, List.setIfInBounds_toArray, List.set_cons_zero, List.set_cons_succ]
            have q1 : ¬ w51.heap.size + 1 = w51.heap.size ∧ ¬ w51.heap.size = w51.heap.size + 1 := (by omega)
            have q2 : ¬ w51.heap.size + 1 = w.heap.size ∧ ¬ w.heap.size = w51.heap.size + 1 := (by omega)
            have q3 : ¬ w51.heap.size = w.heap.size ∧ ¬ w.heap.size = w51.heap.size := (by omega)
            have q4 : w.heap.size ≤ w51.heap.size + 1 ∧ w.heap.size ≤ w51.heap.size := (by omega)
            refine AnyX.go (rs := [10]) (by kernel_rfl) (by simp) (AllX.consL (o := _) rfl (fun K hK => ?_) AllX.nil)
            go_simp
            refine hK.out _ _ ?_ (fun hHeld => ?_)
            · (try dsimp only); go_keep
            clear hK K
            try simp only [Act.put, List.setIfInBounds_toArray, List.set_cons_zero, List.set_cons_succ]
            refine AnyX.go (rs := [11]) (by kernel_rfl) (by simp) (AllX.consL (o := _) rfl (fun K hK => ?_) AllX.nil)
            go_simp
            refine hK.out _ _ ?_ (fun hHeld => ?_)
            · (try dsimp only); go_keep
            clear hK K
            try simp only [Act.put, List.setIfInBounds_toArray, List.set_cons_zero, List.set_cons_succ]
            refine' AnyX.takeL (i := 12) (oi := _) (v := _) rfl (by kernel_rfl) (by kernel_rfl) (by kernel_rfl) (by kernel_rfl) (fun _ _ _ h => h) (Or.inl ⟨by rfl, ?hy86⟩) (by assumption) ?rest86
            case hy86 => (intro w' hSw; (try dsimp only at hSw); go_simp; (first | done | with_reducible rfl))
            try simp only [Act.put, List.setIfInBounds_toArray, List.set_cons_zero, List.set_cons_succ]
            refine AnyX.done (by kernel_rfl) ?_ _
            refine NoPanic.normal ?_
            go_wp2_with fail
            go_meet
            refine ⟨w51.heap.size + 1, w51.heap.size, rfl, rfl, rfl, ⟨q1, q2, q3⟩, hide ?_⟩
            skip
            have h := L66.out
            try simp only [World.size_alloc, World.heap_drewN, heap_drew, Nat.add_assoc, Nat.reduceAdd] at h
            have h0 := Lv.of (L' := [(w51.heap.size + 1, 40, [.int .i64 0, .int .i64 0, .int .i64 0, .int .i64 0, .int .i64 0, .int .i64 0]), (w51.heap.size, 23, [.int .i64 0, .int .i64 0, .int .i64 0]), (w.heap.size, 23, [.int .i64 a, .int .i64 b, .int .i64 c])]) h (by simp)
            have h1 := h0.stored6 (u1 := .int .i64 0) (u2 := .int .i64 0) (u3 := .int .i64 0) (u4 := .int .i64 0) (u5 := .int .i64 0) (u6 := .int .i64 0) q4.1 (by simp [q1.2, q2.2])
            have h2 := Lv.of (L' := [(w51.heap.size, 23, [.int .i64 0, .int .i64 0, .int .i64 0]), (w51.heap.size + 1, 40, [.int .i64 0, .int .i64 0, .int .i64 0, .int .i64 0, .int .i64 0, .int .i64 0]), (w.heap.size, 23, [.int .i64 a, .int .i64 b, .int .i64 c])]) h1 (by simp)
            clear h
            have h := h2.stored3 (u1 := .int .i64 0) (u2 := .int .i64 0) (u3 := .int .i64 0) q4.2 (by simp [q1.1, q3.2])
            try simp only [World.size_alloc, size_set, World.heap_drewN, heap_drew, Nat.add_assoc, Nat.reduceAdd] at h
            have h4 := Lv.of (L' := [(w51.heap.size + 1, 40, [.int .i64 0, .int .i64 0, .int .i64 0, .int .i64 0, .int .i64 0, .int .i64 0]), (w51.heap.size, 23, [.int .i64 0, .int .i64 0, .int .i64 0]), (w.heap.size, 23, [.int .i64 a, .int .i64 b, .int .i64 c])]) h (by simp)
            with_reducible exact h4
          exact AllX.nil
        exact AllX.nil
      exact AllX.nil
    refine AllX.consL (o := _) rfl (fun K hK => ?_) ?_
    · go_simp
      have L67 := hide (L1.out.drew.put [.int .i64 0, .int .i64 0, .int .i64 0, .int .i64 0, .int .i64 0, .int .i64 0] 40)
      have F67 := L67.out.at; simp only [AllAt, CellsAt, updL, List.map, Nat.zero_add, Nat.reduceAdd, and_true, World.size_alloc, World.heap_drewN, heap_drew, size_set, Nat.add_eq_left, Nat.left_eq_add, Nat.add_right_cancel_iff, ne_up2, ne_dn2, ne_up3, ne_dn3, ne_up4, ne_dn4, Nat.reduceEqDiff, Nat.one_ne_zero, Nat.succ_ne_zero, Nat.zero_ne_one, reduceIte, List.set_cons_zero, List.set_cons_succ] at F67
      refine hK.out _ _ ?_ (fun hHeld => ?_)
      · (try dsimp only); go_keep
      clear hK K
      try simp only [Act.put, List.setIfInBounds_toArray, List.set_cons_zero, List.set_cons_succ]
      refine AnyX.go (rs := [1, 9]) (by kernel_rfl) (by simp) ?_
      refine AllX.consL (o := _) rfl (fun K hK => ?_) ?_
      · go_simp
        go_at_call 18
        refine (copied_any A n cap z _ (by omega) HNIL.out (HD.out.on (L67.out).below)).mono ?_
        rintro e w68 ⟨gc, cc, rfl, hr, hb⟩
        have RC := hide hr
        have L68 := hide ((L67.out).kept hb)
        clear hr hb
        have F68 := L68.out.at; simp only [AllAt, CellsAt, updL, List.map, Nat.zero_add, Nat.reduceAdd, and_true, World.size_alloc, World.heap_drewN, heap_drew, size_set, Nat.add_eq_left, Nat.left_eq_add, Nat.add_right_cancel_iff, ne_up2, ne_dn2, ne_up3, ne_dn3, ne_up4, ne_dn4, Nat.reduceEqDiff, Nat.one_ne_zero, Nat.succ_ne_zero, Nat.zero_ne_one, reduceIte, List.set_cons_zero, List.set_cons_succ] at F68
        go_wp2_with fail
        refine hK.out _ _ ?_ (fun hHeld => ?_)
        · (try dsimp only); go_keep
        clear hK K
        try simp only [Act.put, List.setIfInBounds_toArray, List.set_cons_zero, List.set_cons_succ]
        refine AnyX.go (rs := [3, 9]) (by kernel_rfl) (by simp) ?_
        refine AllX.consL (o := _) rfl (fun K hK => ?_) ?_
        · go_simp
          go_at_call 27
          first | (with_reducible refine Lv.call (CX.out _ _ _ RC.out) (L68.out) ?_) | (with_reducible refine Lv.call (CX.out _ _ _ (RC.out.on ((Below.refl _ _).alloc (Nat.le_refl _) _))) (L68.out) ?_) | (with_reducible refine Lv.call (CX.out _ _ _ (RC.out.on (((Below.refl _ _).alloc (Nat.le_refl _) _).alloc (by simp) _))) (L68.out) ?_)
          intro w69 L69'; have L69 := hide L69'; have F69 := L69'.at; clear L69'; simp only [AllAt, CellsAt, updL, List.map, Nat.zero_add, Nat.reduceAdd, and_true, World.size_alloc, World.heap_drewN, heap_drew, size_set, Nat.add_eq_left, Nat.left_eq_add, Nat.add_right_cancel_iff, ne_up2, ne_dn2, ne_up3, ne_dn3, ne_up4, ne_dn4, Nat.reduceEqDiff, Nat.one_ne_zero, Nat.succ_ne_zero, Nat.zero_ne_one, reduceIte, List.set_cons_zero, List.set_cons_succ] at F69
          go_wp2_with fail
          refine hK.out _ _ ?_ (fun hHeld => ?_)
          · (try dsimp only); go_keep
          clear hK K
          try simp only [Act.put, List.setIfInBounds_toArray, List.set_cons_zero, List.set_cons_succ]
          refine' AnyX.takeL (i := 4) (oi := _) (v := _) rfl (by kernel_rfl) (by kernel_rfl) (by kernel_rfl) (by kernel_rfl) (fun _ _ _ h => h) (Or.inl ⟨by rfl, ?hy87⟩) (by assumption) ?rest87
          case hy87 => (intro w' hSw; (try dsimp only at hSw); go_simp; (first | done | with_reducible rfl))
          try simp only [Act.put, List.setIfInBounds_toArray, List.set_cons_zero, List.set_cons_succ]
          refine' AnyX.takeL (i := 5) (oi := _) (v := _) rfl (by kernel_rfl) (by kernel_rfl) (by kernel_rfl) (by kernel_rfl) (fun _ _ _ h => h) (Or.inl ⟨by rfl, ?hy88⟩) (by assumption) ?rest88
          case hy88 => (intro w' hSw; (try dsimp only at hSw); go_simp; (first | done | with_reducible rfl))
          try simp only [Act.put, List.setIfInBounds_toArray, List.set_cons_zero, List.set_cons_succ]
          refine' AnyX.takeL (i := 6) (oi := _) (v := _) rfl (by kernel_rfl) (by kernel_rfl) (by kernel_rfl) (by kernel_rfl) (fun _ _ _ h => h) (Or.inl ⟨by rfl, ?hy89⟩) (by assumption) ?rest89
          case hy89 => (intro w' hSw; (try dsimp only at hSw); go_simp; (first | done | with_reducible rfl))
          try simp only [Act.put, List.setIfInBounds_toArray, List.set_cons_zero, List.set_cons_succ]
          refine' AnyX.takeL (i := 7) (oi := _) (v := _) rfl (by kernel_rfl) (by kernel_rfl) (by kernel_rfl) (by kernel_rfl) (fun _ _ _ h => h) (Or.inl ⟨by rfl, ?hy90⟩) (by assumption) ?rest90
          case hy90 => (intro w' hSw; (try dsimp only at hSw); go_simp; (first | done | with_reducible rfl))
          try simp only [Act.put, List.setIfInBounds_toArray, List.set_cons_zero, List.set_cons_succ]
          refine AnyX.go (rs := [9]) (by kernel_rfl) (by simp) ?_
          refine AllX.consL (o := _) rfl (fun K hK => ?_) ?_
          · go_simp
            have L70 := hide (L69.out.put [.int .i64 0, .int .i64 0, .int .i64 0] 23)
            have F70 := L70.out.at; simp only [AllAt, CellsAt, updL, List.map, Nat.zero_add, Nat.reduceAdd, and_true, World.size_alloc, World.heap_drewN, heap_drew, size_set, Nat.add_eq_left, Nat.left_eq_add, Nat.add_right_cancel_iff, ne_up2, ne_dn2, ne_up3, ne_dn3, ne_up4, ne_dn4, Nat.reduceEqDiff, Nat.one_ne_zero, Nat.succ_ne_zero, Nat.zero_ne_one, reduceIte, List.set_cons_zero, List.set_cons_succ] at F70
            refine hK.out _ _ ?_ (fun hHeld => ?_)
            · (try dsimp only); go_keep
            clear hK K
            try simp only [Act.put, List.setIfInBounds_toArray, List.set_cons_zero, List.set_cons_succ]
            have q1 : ¬ w1.heap.size = w69.heap.size ∧ ¬ w69.heap.size = w1.heap.size := (by omega)
            have q2 : ¬ w1.heap.size = w.heap.size ∧ ¬ w.heap.size = w1.heap.size := (by omega)
            have q3 : ¬ w69.heap.size = w.heap.size ∧ ¬ w.heap.size = w69.heap.size := (by omega)
            have q4 : w.heap.size ≤ w1.heap.size ∧ w.heap.size ≤ w69.heap.size := (by omega)
            refine AnyX.go (rs := [10]) (by kernel_rfl) (by simp) (AllX.consL (o := _) rfl (fun K hK => ?_) AllX.nil)
            go_simp
            refine hK.out _ _ ?_ (fun hHeld => ?_)
            · (try dsimp only); go_keep
            clear hK K
            try simp only [Act.put, List.setIfInBounds_toArray, List.set_cons_zero, List.set_cons_succ]
            refine AnyX.go (rs := [11]) (by kernel_rfl) (by simp) (AllX.consL (o := _) rfl (fun K hK => ?_) AllX.nil)
            go_simp
            refine hK.out _ _ ?_ (fun hHeld => ?_)
            · (try dsimp only); go_keep
            clear hK K
            try simp only [Act.put, List.setIfInBounds_toArray, List.set_cons_zero, List.set_cons_succ]
            refine' AnyX.takeL (i := 12) (oi := _) (v := _) rfl (by kernel_rfl) (by kernel_rfl) (by kernel_rfl) (by kernel_rfl) (fun _ _ _ h => h) (Or.inl ⟨by rfl, ?hy91⟩) (by assumption) ?rest91
            case hy91 => (intro w' hSw; (try dsimp only at hSw); go_simp; (first | done | with_reducible rfl))
            try simp only [Act.put, List.setIfInBounds_toArray, List.set_cons_zero, List.set_cons_succ]
            refine AnyX.done (by kernel_rfl) ?_ _
            refine NoPanic.normal ?_
            go_wp2_with fail
            go_meet
            refine ⟨w1.heap.size, w69.heap.size, rfl, rfl, rfl, ⟨q1, q2, q3⟩, hide ?_⟩
            skip
            have h := L69.out
            try simp only [World.size_alloc, World.heap_drewN, heap_drew, Nat.add_assoc, Nat.reduceAdd] at h
            have h0 := Lv.of (L' := [(w1.heap.size, 40, [.int .i64 0, .int .i64 0, .int .i64 0, .int .i64 0, .int .i64 0, .int .i64 0]), (w.heap.size, 23, [.int .i64 a, .int .i64 b, .int .i64 c])]) h (by simp)
            have h1 := h0.stored6 (u1 := .int .i64 0) (u2 := .int .i64 0) (u3 := .int .i64 0) (u4 := .int .i64 0) (u5 := .int .i64 0) (u6 := .int .i64 0) q4.1 (by simp [q2.2])
            clear h
            have h := h1.put [.int .i64 0, .int .i64 0, .int .i64 0] 23
            try simp only [World.size_alloc, size_set, World.heap_drewN, heap_drew, Nat.add_assoc, Nat.reduceAdd] at h
            have h4 := Lv.of (L' := [(w1.heap.size, 40, [.int .i64 0, .int .i64 0, .int .i64 0, .int .i64 0, .int .i64 0, .int .i64 0]), (w69.heap.size, 23, [.int .i64 0, .int .i64 0, .int .i64 0]), (w.heap.size, 23, [.int .i64 a, .int .i64 b, .int .i64 c])]) h (by simp)
            with_reducible exact h4
          exact AllX.nil
        refine AllX.consL (o := _) rfl (fun K hK => ?_) ?_
        · go_simp
          have L71 := hide (L68.out.put [.int .i64 0, .int .i64 0, .int .i64 0] 23)
          have F71 := L71.out.at; simp only [AllAt, CellsAt, updL, List.map, Nat.zero_add, Nat.reduceAdd, and_true, World.size_alloc, World.heap_drewN, heap_drew, size_set, Nat.add_eq_left, Nat.left_eq_add, Nat.add_right_cancel_iff, ne_up2, ne_dn2, ne_up3, ne_dn3, ne_up4, ne_dn4, Nat.reduceEqDiff, Nat.one_ne_zero, Nat.succ_ne_zero, Nat.zero_ne_one, reduceIte, List.set_cons_zero, List.set_cons_succ] at F71
          refine hK.out _ _ ?_ (fun hHeld => ?_)
          · (try dsimp only); go_keep
          clear hK K
          try simp only [Act.put, List.setIfInBounds_toArray, List.set_cons_zero, List.set_cons_succ]
          refine AnyX.go (rs := [3]) (by kernel_rfl) (by simp) ?_
          refine AllX.consL (o := _) rfl (fun K hK => ?_) ?_
          · go_simp
            go_at_call 27
            first | (with_reducible refine Lv.call (CX.out _ _ _ RC.out) (L71.out) ?_) | (with_reducible refine Lv.call (CX.out _ _ _ (RC.out.on ((Below.refl _ _).alloc (Nat.le_refl _) _))) (L71.out) ?_) | (with_reducible refine Lv.call (CX.out _ _ _ (RC.out.on (((Below.refl _ _).alloc (Nat.le_refl _) _).alloc (by simp) _))) (L71.out) ?_)
            intro w72 L72'; have L72 := hide L72'; have F72 := L72'.at; clear L72'; simp only [AllAt, CellsAt, updL, List.map, Nat.zero_add, Nat.reduceAdd, and_true, World.size_alloc, World.heap_drewN, heap_drew, size_set, Nat.add_eq_left, Nat.left_eq_add, Nat.add_right_cancel_iff, ne_up2, ne_dn2, ne_up3, ne_dn3, ne_up4, ne_dn4, Nat.reduceEqDiff, Nat.one_ne_zero, Nat.succ_ne_zero, Nat.zero_ne_one, reduceIte, List.set_cons_zero, List.set_cons_succ] at F72
            go_wp2_with fail
            refine hK.out _ _ ?_ (fun hHeld => ?_)
            · (try dsimp only); go_keep
            clear hK K
            try simp only [Act.put, List.setIfInBounds_toArray, List.set_cons_zero, List.set_cons_succ]
            refine' AnyX.takeL (i := 4) (oi := _) (v := _) rfl (by kernel_rfl) (by kernel_rfl) (by kernel_rfl) (by kernel_rfl) (fun _ _ _ h => h) (Or.inl ⟨by rfl, ?hy92⟩) (by assumption) ?rest92
            case hy92 => (intro w' hSw; (try dsimp only at hSw); go_simp; (first | done | with_reducible rfl))
            try simp only [Act.put, List.setIfInBounds_toArray, List.set_cons_zero, List.set_cons_succ]
            refine' AnyX.takeL (i := 5) (oi := _) (v := _) rfl (by kernel_rfl) (by kernel_rfl) (by kernel_rfl) (by kernel_rfl) (fun _ _ _ h => h) (Or.inl ⟨by rfl, ?hy93⟩) (by assumption) ?rest93
            case hy93 => (intro w' hSw; (try dsimp only at hSw); go_simp; (first | done | with_reducible rfl))
            try simp only [Act.put, List.setIfInBounds_toArray, List.set_cons_zero, List.set_cons_succ]
            refine' AnyX.takeL (i := 6) (oi := _) (v := _) rfl (by kernel_rfl) (by kernel_rfl) (by kernel_rfl) (by kernel_rfl) (fun _ _ _ h => h) (Or.inl ⟨by rfl, ?hy94⟩) (by assumption) ?rest94
            case hy94 => (intro w' hSw; (try dsimp only at hSw); go_simp; (first | done | with_reducible rfl))
            try simp only [Act.put, List.setIfInBounds_toArray, List.set_cons_zero, List.set_cons_succ]
            refine' AnyX.takeL (i := 7) (oi := _) (v := _) rfl (by kernel_rfl) (by kernel_rfl) (by kernel_rfl) (by kernel_rfl) (fun _ _ _ h => h) (Or.inl ⟨by rfl, ?hy95⟩) (by assumption) ?rest95
            case hy95 => (intro w' hSw; (try dsimp only at hSw); go_simp; (first | done | with_reducible rfl))
            try simp only [Act.put, List.setIfInBounds_toArray, List.set_cons_zero, List.set_cons_succ]
            have q1 : ¬ w1.heap.size = w68.heap.size ∧ ¬ w68.heap.size = w1.heap.size := (by omega)
            have q2 : ¬ w1.heap.size = w.heap.size ∧ ¬ w.heap.size = w1.heap.size := (by omega)
            have q3 : ¬ w68.heap.size = w.heap.size ∧ ¬ w.heap.size = w68.heap.size := (by omega)
            have q4 : w.heap.size ≤ w1.heap.size ∧ w.heap.size ≤ w68.heap.size := (by omega)
            refine AnyX.go (rs := [10]) (by kernel_rfl) (by simp) (AllX.consL (o := _) rfl (fun K hK => ?_) AllX.nil)
            go_simp
            refine hK.out _ _ ?_ (fun hHeld => ?_)
            · (try dsimp only); go_keep
            clear hK K
            try simp only [Act.put, List.setIfInBounds_toArray, List.set_cons_zero, List.set_cons_succ]
            refine AnyX.go (rs := [11]) (by kernel_rfl) (by simp) (AllX.consL (o := _) rfl (fun K hK => ?_) AllX.nil)
            go_simp
            refine hK.out _ _ ?_ (fun hHeld => ?_)
            · (try dsimp only); go_keep
            clear hK K
            try simp only [Act.put, List.setIfInBounds_toArray, List.set_cons_zero, List.set_cons_succ]
            refine' AnyX.takeL (i := 12) (oi := _) (v := _) rfl (by kernel_rfl) (by kernel_rfl) (by kernel_rfl) (by kernel_rfl) (fun _ _ _ h => h) (Or.inl ⟨by rfl, ?hy96⟩) (by assumption) ?rest96
            case hy96 => (intro w' hSw; (try dsimp only at hSw); go_simp; (first | done | with_reducible rfl))
            try simp only [Act.put, List.setIfInBounds_toArray, List.set_cons_zero, List.set_cons_succ]
            refine AnyX.done (by kernel_rfl) ?_ _
            refine NoPanic.normal ?_
            go_wp2_with fail
            go_meet
            refine ⟨w1.heap.size, w68.heap.size, rfl, rfl, rfl, ⟨q1, q2, q3⟩, hide ?_⟩
            skip
            have h := L72.out
            try simp only [World.size_alloc, World.heap_drewN, heap_drew, Nat.add_assoc, Nat.reduceAdd] at h
            have h0 := Lv.of (L' := [(w1.heap.size, 40, [.int .i64 0, .int .i64 0, .int .i64 0, .int .i64 0, .int .i64 0, .int .i64 0]), (w68.heap.size, 23, [.int .i64 0, .int .i64 0, .int .i64 0]), (w.heap.size, 23, [.int .i64 a, .int .i64 b, .int .i64 c])]) h (by simp)
            have h1 := h0.stored6 (u1 := .int .i64 0) (u2 := .int .i64 0) (u3 := .int .i64 0) (u4 := .int .i64 0) (u5 := .int .i64 0) (u6 := .int .i64 0) q4.1 (by simp [q1.2, q2.2])
            have h2 := Lv.of (L' := [(w68.heap.size, 23, [.int .i64 0, .int .i64 0, .int .i64 0]), (w1.heap.size, 40, [.int .i64 0, .int .i64 0, .int .i64 0, .int .i64 0, .int .i64 0, .int .i64 0]), (w.heap.size, 23, [.int .i64 a, .int .i64 b, .int .i64 c])]) h1 (by simp)
            clear h
            have h := h2.stored3 (u1 := .int .i64 0) (u2 := .int .i64 0) (u3 := .int .i64 0) q4.2 (by simp [q1.1, q3.2])
            try simp only [World.size_alloc, size_set, World.heap_drewN, heap_drew, Nat.add_assoc, Nat.reduceAdd] at h
            have h4 := Lv.of (L' := [(w1.heap.size, 40, [.int .i64 0, .int .i64 0, .int .i64 0, .int .i64 0, .int .i64 0, .int .i64 0]), (w68.heap.size, 23, [.int .i64 0, .int .i64 0, .int .i64 0]), (w.heap.size, 23, [.int .i64 a, .int .i64 b, .int .i64 c])]) h (by simp)
            with_reducible exact h4
          exact AllX.nil
        exact AllX.nil
      refine AllX.consL (o := _) rfl (fun K hK => ?_) ?_
      · go_simp
        have L73 := hide (L67.out.put [.int .i64 0, .int .i64 0, .int .i64 0] 23)
        have F73 := L73.out.at; simp only [AllAt, CellsAt, updL, List.map, Nat.zero_add, Nat.reduceAdd, and_true, World.size_alloc, World.heap_drewN, heap_drew, size_set, Nat.add_eq_left, Nat.left_eq_add, Nat.add_right_cancel_iff, ne_up2, ne_dn2, ne_up3, ne_dn3, ne_up4, ne_dn4, Nat.reduceEqDiff, Nat.one_ne_zero, Nat.succ_ne_zero, Nat.zero_ne_one, reduceIte, List.set_cons_zero, List.set_cons_succ] at F73
        refine hK.out _ _ ?_ (fun hHeld => ?_)
        · (try dsimp only); go_keep
        clear hK K
        try simp only [Act.put, List.setIfInBounds_toArray, List.set_cons_zero, List.set_cons_succ]
        refine AnyX.go (rs := [1]) (by kernel_rfl) (by simp) ?_
        refine AllX.consL (o := _) rfl (fun K hK => ?_) ?_
        · go_simp
          go_at_call 18
          refine (copied_any A n cap z _ (by omega) HNIL.out (HD.out.on (L73.out).below)).mono ?_
          rintro e w74 ⟨gc, cc, rfl, hr, hb⟩
          have RC := hide hr
          have L74 := hide ((L73.out).kept hb)
          clear hr hb
          have F74 := L74.out.at; simp only [AllAt, CellsAt, updL, List.map, Nat.zero_add, Nat.reduceAdd, and_true, World.size_alloc, World.heap_drewN, heap_drew, size_set, Nat.add_eq_left, Nat.left_eq_add, Nat.add_right_cancel_iff, ne_up2, ne_dn2, ne_up3, ne_dn3, ne_up4, ne_dn4, Nat.reduceEqDiff, Nat.one_ne_zero, Nat.succ_ne_zero, Nat.zero_ne_one, reduceIte, List.set_cons_zero, List.set_cons_succ] at F74
          go_wp2_with fail
          refine hK.out _ _ ?_ (fun hHeld => ?_)
          · (try dsimp only); go_keep
          clear hK K
          try simp only [Act.put, List.setIfInBounds_toArray, List.set_cons_zero, List.set_cons_succ]
          refine AnyX.go (rs := [3]) (by kernel_rfl) (by simp) ?_
          refine AllX.consL (o := _) rfl (fun K hK => ?_) ?_
          · go_simp
            go_at_call 27
            first | (with_reducible refine Lv.call (CX.out _ _ _ RC.out) (L74.out) ?_) | (with_reducible refine Lv.call (CX.out _ _ _ (RC.out.on ((Below.refl _ _).alloc (Nat.le_refl _) _))) (L74.out) ?_) | (with_reducible refine Lv.call (CX.out _ _ _ (RC.out.on (((Below.refl _ _).alloc (Nat.le_refl _) _).alloc (by simp) _))) (L74.out) ?_)
            intro w75 L75'; have L75 := hide L75'; have F75 := L75'.at; clear L75'; simp only [AllAt, CellsAt, updL, List.map, Nat.zero_add, Nat.reduceAdd, and_true, World.size_alloc, World.heap_drewN, heap_drew, size_set, Nat.add_eq_left, Nat.left_eq_add, Nat.add_right_cancel_iff, ne_up2, ne_dn2, ne_up3, ne_dn3, ne_up4, ne_dn4, Nat.reduceEqDiff, Nat.one_ne_zero, Nat.succ_ne_zero, Nat.zero_ne_one, reduceIte, List.set_cons_zero, List.set_cons_succ] at F75
            go_wp2_with fail
            refine hK.out _ _ ?_ (fun hHeld => ?_)
            · (try dsimp only); go_keep
            clear hK K
            try simp only [Act.put, List.setIfInBounds_toArray, List.set_cons_zero, List.set_cons_succ]
            refine' AnyX.takeL (i := 4) (oi := _) (v := _) rfl (by kernel_rfl) (by kernel_rfl) (by kernel_rfl) (by kernel_rfl) (fun _ _ _ h => h) (Or.inl ⟨by rfl, ?hy97⟩) (by assumption) ?rest97
            case hy97 => (intro w' hSw; (try dsimp only at hSw); go_simp; (first | done | with_reducible rfl))
            try simp only [Act.put, List.setIfInBounds_toArray, List.set_cons_zero, List.set_cons_succ]
            refine' AnyX.takeL (i := 5) (oi := _) (v := _) rfl (by kernel_rfl) (by kernel_rfl) (by kernel_rfl) (by kernel_rfl) (fun _ _ _ h => h) (Or.inl ⟨by rfl, ?hy98⟩) (by assumption) ?rest98
            case hy98 => (intro w' hSw; (try dsimp only at hSw); go_simp; (first | done | with_reducible rfl))
            try simp only [Act.put, List.setIfInBounds_toArray, List.set_cons_zero, List.set_cons_succ]
            refine' AnyX.takeL (i := 6) (oi := _) (v := _) rfl (by kernel_rfl) (by kernel_rfl) (by kernel_rfl) (by kernel_rfl) (fun _ _ _ h => h) (Or.inl ⟨by rfl, ?hy99⟩) (by assumption) ?rest99
            case hy99 => (intro w' hSw; (try dsimp only at hSw); go_simp; (first | done | with_reducible rfl))
            try simp only [Act.put, List.setIfInBounds_toArray, List.set_cons_zero, List.set_cons_succ]
            refine' AnyX.takeL (i := 7) (oi := _) (v := _) rfl (by kernel_rfl) (by kernel_rfl) (by kernel_rfl) (by kernel_rfl) (fun _ _ _ h => h) (Or.inl ⟨by rfl, ?hy100⟩) (by assumption) ?rest100
            case hy100 => (intro w' hSw; (try dsimp only at hSw); go_simp; (first | done | with_reducible rfl))
            try simp only [Act.put, List.setIfInBounds_toArray, List.set_cons_zero, List.set_cons_succ]
            have q1 : ¬ w1.heap.size = w1.heap.size + 1 ∧ ¬ w1.heap.size + 1 = w1.heap.size := (by omega)
            have q2 : ¬ w1.heap.size = w.heap.size ∧ ¬ w.heap.size = w1.heap.size := (by omega)
            have q3 : ¬ w1.heap.size + 1 = w.heap.size ∧ ¬ w.heap.size = w1.heap.size + 1 := (by omega)
            have q4 : w.heap.size ≤ w1.heap.size ∧ w.heap.size ≤ w1.heap.size + 1 := (by omega)
            refine AnyX.go (rs := [10]) (by kernel_rfl) (by simp) (AllX.consL (o := _) rfl (fun K hK => ?_) AllX.nil)
            go_simp
            refine hK.out _ _ ?_ (fun hHeld => ?_)
            · (try dsimp only); go_keep
            clear hK K
            try simp only [Act.put, List.setIfInBounds_toArray, List.set_cons_zero, List.set_cons_succ]
            refine AnyX.go (rs := [11]) (by kernel_rfl) (by simp) (AllX.consL (o := _) rfl (fun K hK => ?_) AllX.nil)
            go_simp
            refine hK.out _ _ ?_ (fun hHeld => ?_)
            · (try dsimp only); go_keep
            clear hK K
            try simp only [Act.put, List.setIfInBounds_toArray, List.set_cons_zero, List.set_cons_succ]
            refine' AnyX.takeL (i := 12) (oi := _) (v := _) rfl (by kernel_rfl) (by kernel_rfl) (by kernel_rfl) (by kernel_rfl) (fun _ _ _ h => h) (Or.inl ⟨by rfl, ?hy101⟩) (by assumption) ?rest101
            case hy101 => (intro w' hSw; (try dsimp only at hSw); go_simp; (first | done | with_reducible rfl))
            try simp only [Act.put, List.setIfInBounds_toArray, List.set_cons_zero, List.set_cons_succ]
            refine AnyX.done (by kernel_rfl) ?_ _
            refine NoPanic.normal ?_
            go_wp2_with fail
            go_meet
            refine ⟨w1.heap.size, w1.heap.size + 1, rfl, rfl, rfl, ⟨q1, q2, q3⟩, hide ?_⟩
            skip
            have h := L75.out
            try simp only [World.size_alloc, World.heap_drewN, heap_drew, Nat.add_assoc, Nat.reduceAdd] at h
            have h0 := Lv.of (L' := [(w1.heap.size, 40, [.int .i64 0, .int .i64 0, .int .i64 0, .int .i64 0, .int .i64 0, .int .i64 0]), (w1.heap.size + 1, 23, [.int .i64 0, .int .i64 0, .int .i64 0]), (w.heap.size, 23, [.int .i64 a, .int .i64 b, .int .i64 c])]) h (by simp)
            have h1 := h0.stored6 (u1 := .int .i64 0) (u2 := .int .i64 0) (u3 := .int .i64 0) (u4 := .int .i64 0) (u5 := .int .i64 0) (u6 := .int .i64 0) q4.1 (by simp [q1.2, q2.2])
            have h2 := Lv.of (L' := [(w1.heap.size + 1, 23, [.int .i64 0, .int .i64 0, .int .i64 0]), (w1.heap.size, 40, [.int .i64 0, .int .i64 0, .int .i64 0, .int .i64 0, .int .i64 0, .int .i64 0]), (w.heap.size, 23, [.int .i64 a, .int .i64 b, .int .i64 c])]) h1 (by simp)
            clear h
            have h := h2.stored3 (u1 := .int .i64 0) (u2 := .int .i64 0) (u3 := .int .i64 0) q4.2 (by simp [q1.1, q3.2])
            try simp only [World.size_alloc, size_set, World.heap_drewN, heap_drew, Nat.add_assoc, Nat.reduceAdd] at h
            have h4 := Lv.of (L' := [(w1.heap.size, 40, [.int .i64 0, .int .i64 0, .int .i64 0, .int .i64 0, .int .i64 0, .int .i64 0]), (w1.heap.size + 1, 23, [.int .i64 0, .int .i64 0, .int .i64 0]), (w.heap.size, 23, [.int .i64 a, .int .i64 b, .int .i64 c])]) h (by simp)
            with_reducible exact h4
          exact AllX.nil
        exact AllX.nil
      exact AllX.nil
    refine AllX.consL (o := _) rfl (fun K hK => ?_) ?_
    · go_simp
      have L76 := hide (L1.out.drew.put [.int .i64 0, .int .i64 0, .int .i64 0] 23)
      have F76 := L76.out.at; simp only [AllAt, CellsAt, updL, List.map, Nat.zero_add, Nat.reduceAdd, and_true, World.size_alloc, World.heap_drewN, heap_drew, size_set, Nat.add_eq_left, Nat.left_eq_add, Nat.add_right_cancel_iff, ne_up2, ne_dn2, ne_up3, ne_dn3, ne_up4, ne_dn4, Nat.reduceEqDiff, Nat.one_ne_zero, Nat.succ_ne_zero, Nat.zero_ne_one, reduceIte, List.set_cons_zero, List.set_cons_succ] at F76
      refine hK.out _ _ ?_ (fun hHeld => ?_)
      · (try dsimp only); go_keep
      clear hK K
      try simp only [Act.put, List.setIfInBounds_toArray, List.set_cons_zero, List.set_cons_succ]
      refine AnyX.go (rs := [1, 8]) (by kernel_rfl) (by simp) ?_
      refine AllX.consL (o := _) rfl (fun K hK => ?_) ?_
      · go_simp
        go_at_call 18
        refine (copied_any A n cap z _ (by omega) HNIL.out (HD.out.on (L76.out).below)).mono ?_
        rintro e w77 ⟨gc, cc, rfl, hr, hb⟩
        have RC := hide hr
        have L77 := hide ((L76.out).kept hb)
        clear hr hb
        have F77 := L77.out.at; simp only [AllAt, CellsAt, updL, List.map, Nat.zero_add, Nat.reduceAdd, and_true, World.size_alloc, World.heap_drewN, heap_drew, size_set, Nat.add_eq_left, Nat.left_eq_add, Nat.add_right_cancel_iff, ne_up2, ne_dn2, ne_up3, ne_dn3, ne_up4, ne_dn4, Nat.reduceEqDiff, Nat.one_ne_zero, Nat.succ_ne_zero, Nat.zero_ne_one, reduceIte, List.set_cons_zero, List.set_cons_succ] at F77
        go_wp2_with fail
        refine hK.out _ _ ?_ (fun hHeld => ?_)
        · (try dsimp only); go_keep
        clear hK K
        try simp only [Act.put, List.setIfInBounds_toArray, List.set_cons_zero, List.set_cons_succ]
        refine AnyX.go (rs := [3, 8]) (by kernel_rfl) (by simp) ?_
        refine AllX.consL (o := _) rfl (fun K hK => ?_) ?_
        · go_simp
          go_at_call 27
          first | (with_reducible refine Lv.call (CX.out _ _ _ RC.out) (L77.out) ?_) | (with_reducible refine Lv.call (CX.out _ _ _ (RC.out.on ((Below.refl _ _).alloc (Nat.le_refl _) _))) (L77.out) ?_) | (with_reducible refine Lv.call (CX.out _ _ _ (RC.out.on (((Below.refl _ _).alloc (Nat.le_refl _) _).alloc (by simp) _))) (L77.out) ?_)
          intro w78 L78'; have L78 := hide L78'; have F78 := L78'.at; clear L78'; simp only [AllAt, CellsAt, updL, List.map, Nat.zero_add, Nat.reduceAdd, and_true, World.size_alloc, World.heap_drewN, heap_drew, size_set, Nat.add_eq_left, Nat.left_eq_add, Nat.add_right_cancel_iff, ne_up2, ne_dn2, ne_up3, ne_dn3, ne_up4, ne_dn4, Nat.reduceEqDiff, Nat.one_ne_zero, Nat.succ_ne_zero, Nat.zero_ne_one, reduceIte, List.set_cons_zero, List.set_cons_succ] at F78
          go_wp2_with fail
          refine hK.out _ _ ?_ (fun hHeld => ?_)
          · (try dsimp only); go_keep
          clear hK K
          try simp only [Act.put, List.setIfInBounds_toArray, List.set_cons_zero, List.set_cons_succ]
          refine' AnyX.takeL (i := 4) (oi := _) (v := _) rfl (by kernel_rfl) (by kernel_rfl) (by kernel_rfl) (by kernel_rfl) (fun _ _ _ h => h) (Or.inl ⟨by rfl, ?hy102⟩) (by assumption) ?rest102
          case hy102 => (intro w' hSw; (try dsimp only at hSw); go_simp; (first | done | with_reducible rfl))
          try simp only [Act.put, List.setIfInBounds_toArray, List.set_cons_zero, List.set_cons_succ]
          refine' AnyX.takeL (i := 5) (oi := _) (v := _) rfl (by kernel_rfl) (by kernel_rfl) (by kernel_rfl) (by kernel_rfl) (fun _ _ _ h => h) (Or.inl ⟨by rfl, ?hy103⟩) (by assumption) ?rest103
          case hy103 => (intro w' hSw; (try dsimp only at hSw); go_simp; (first | done | with_reducible rfl))
          try simp only [Act.put, List.setIfInBounds_toArray, List.set_cons_zero, List.set_cons_succ]
          refine' AnyX.takeL (i := 6) (oi := _) (v := _) rfl (by kernel_rfl) (by kernel_rfl) (by kernel_rfl) (by kernel_rfl) (fun _ _ _ h => h) (Or.inl ⟨by rfl, ?hy104⟩) (by assumption) ?rest104
          case hy104 => (intro w' hSw; (try dsimp only at hSw); go_simp; (first | done | with_reducible rfl))
          try simp only [Act.put, List.setIfInBounds_toArray, List.set_cons_zero, List.set_cons_succ]
          refine' AnyX.takeL (i := 7) (oi := _) (v := _) rfl (by kernel_rfl) (by kernel_rfl) (by kernel_rfl) (by kernel_rfl) (fun _ _ _ h => h) (Or.inl ⟨by rfl, ?hy105⟩) (by assumption) ?rest105
          case hy105 => (intro w' hSw; (try dsimp only at hSw); go_simp; (first | done | with_reducible rfl))
          try simp only [Act.put, List.setIfInBounds_toArray, List.set_cons_zero, List.set_cons_succ]
          refine AnyX.go (rs := [8]) (by kernel_rfl) (by simp) ?_
          refine AllX.consL (o := _) rfl (fun K hK => ?_) ?_
          · go_simp
            have L79 := hide (L78.out.put [.int .i64 0, .int .i64 0, .int .i64 0, .int .i64 0, .int .i64 0, .int .i64 0] 40)
            have F79 := L79.out.at; simp only [AllAt, CellsAt, updL, List.map, Nat.zero_add, Nat.reduceAdd, and_true, World.size_alloc, World.heap_drewN, heap_drew, size_set, Nat.add_eq_left, Nat.left_eq_add, Nat.add_right_cancel_iff, ne_up2, ne_dn2, ne_up3, ne_dn3, ne_up4, ne_dn4, Nat.reduceEqDiff, Nat.one_ne_zero, Nat.succ_ne_zero, Nat.zero_ne_one, reduceIte, List.set_cons_zero, List.set_cons_succ] at F79
            refine hK.out _ _ ?_ (fun hHeld => ?_)
            · (try dsimp only); go_keep
            clear hK K
            try simp only [Act.put, List.setIfInBounds_toArray, List.set_cons_zero, List.set_cons_succ]
            have q1 : ¬ w78.heap.size = w1.heap.size ∧ ¬ w1.heap.size = w78.heap.size := (by omega)
            have q2 : ¬ w78.heap.size = w.heap.size ∧ ¬ w.heap.size = w78.heap.size := (by omega)
            have q3 : ¬ w1.heap.size = w.heap.size ∧ ¬ w.heap.size = w1.heap.size := (by omega)
            have q4 : w.heap.size ≤ w78.heap.size ∧ w.heap.size ≤ w1.heap.size := (by omega)
            refine AnyX.go (rs := [10]) (by kernel_rfl) (by simp) (AllX.consL (o := _) rfl (fun K hK => ?_) AllX.nil)
            go_simp
            refine hK.out _ _ ?_ (fun hHeld => ?_)
            · (try dsimp only); go_keep
            clear hK K
            try simp only [Act.put, List.setIfInBounds_toArray, List.set_cons_zero, List.set_cons_succ]
            refine AnyX.go (rs := [11]) (by kernel_rfl) (by simp) (AllX.consL (o := _) rfl (fun K hK => ?_) AllX.nil)
            go_simp
            refine hK.out _ _ ?_ (fun hHeld => ?_)
            · (try dsimp only); go_keep
            clear hK K
            try simp only [Act.put, List.setIfInBounds_toArray, List.set_cons_zero, List.set_cons_succ]
            refine' AnyX.takeL (i := 12) (oi := _) (v := _) rfl (by kernel_rfl) (by kernel_rfl) (by kernel_rfl) (by kernel_rfl) (fun _ _ _ h => h) (Or.inl ⟨by rfl, ?hy106⟩) (by assumption) ?rest106
            case hy106 => (intro w' hSw; (try dsimp only at hSw); go_simp; (first | done | with_reducible rfl))
            try simp only [Act.put, List.setIfInBounds_toArray, List.set_cons_zero, List.set_cons_succ]
            refine AnyX.done (by kernel_rfl) ?_ _
            refine NoPanic.normal ?_
            go_wp2_with fail
            go_meet
            refine ⟨w78.heap.size, w1.heap.size, rfl, rfl, rfl, ⟨q1, q2, q3⟩, hide ?_⟩
            skip
            have h := L78.out
            try simp only [World.size_alloc, World.heap_drewN, heap_drew, Nat.add_assoc, Nat.reduceAdd] at h
            have h0 := Lv.of (L' := [(w1.heap.size, 23, [.int .i64 0, .int .i64 0, .int .i64 0]), (w.heap.size, 23, [.int .i64 a, .int .i64 b, .int .i64 c])]) h (by simp)
            have h1 := h0.stored3 (u1 := .int .i64 0) (u2 := .int .i64 0) (u3 := .int .i64 0) q4.2 (by simp [q3.2])
            clear h
            have h := h1.put [.int .i64 0, .int .i64 0, .int .i64 0, .int .i64 0, .int .i64 0, .int .i64 0] 40
            try simp only [World.size_alloc, size_set, World.heap_drewN, heap_drew, Nat.add_assoc, Nat.reduceAdd] at h
            have h4 := Lv.of (L' := [(w78.heap.size, 40, [.int .i64 0, .int .i64 0, .int .i64 0, .int .i64 0, .int .i64 0, .int .i64 0]), (w1.heap.size, 23, [.int .i64 0, .int .i64 0, .int .i64 0]), (w.heap.size, 23, [.int .i64 a, .int .i64 b, .int .i64 c])]) h (by simp)
            with_reducible exact h4
          exact AllX.nil
        refine AllX.consL (o := _) rfl (fun K hK => ?_) ?_
        · go_simp
          have L80 := hide (L77.out.put [.int .i64 0, .int .i64 0, .int .i64 0, .int .i64 0, .int .i64 0, .int .i64 0] 40)
          have F80 := L80.out.at; simp only [AllAt, CellsAt, updL, List.map, Nat.zero_add, Nat.reduceAdd, and_true, World.size_alloc, World.heap_drewN, heap_drew, size_set, Nat.add_eq_left, Nat.left_eq_add, Nat.add_right_cancel_iff, ne_up2, ne_dn2, ne_up3, ne_dn3, ne_up4, ne_dn4, Nat.reduceEqDiff, Nat.one_ne_zero, Nat.succ_ne_zero, Nat.zero_ne_one, reduceIte, List.set_cons_zero, List.set_cons_succ] at F80
          refine hK.out _ _ ?_ (fun hHeld => ?_)
          · (try dsimp only); go_keep
          clear hK K
          try simp only [Act.put, List.setIfInBounds_toArray, List.set_cons_zero, List.set_cons_succ]
          refine AnyX.go (rs := [3]) (by kernel_rfl) (by simp) ?_
          refine AllX.consL (o := _) rfl (fun K hK => ?_) ?_
          · go_simp
            go_at_call 27
            first | (with_reducible refine Lv.call (CX.out _ _ _ RC.out) (L80.out) ?_) | (with_reducible refine Lv.call (CX.out _ _ _ (RC.out.on ((Below.refl _ _).alloc (Nat.le_refl _) _))) (L80.out) ?_) | (with_reducible refine Lv.call (CX.out _ _ _ (RC.out.on (((Below.refl _ _).alloc (Nat.le_refl _) _).alloc (by simp) _))) (L80.out) ?_)
            intro w81 L81'; have L81 := hide L81'; have F81 := L81'.at; clear L81'; simp only [AllAt, CellsAt, updL, List.map, Nat.zero_add, Nat.reduceAdd, and_true, World.size_alloc, World.heap_drewN, heap_drew, size_set, Nat.add_eq_left, Nat.left_eq_add, Nat.add_right_cancel_iff, ne_up2, ne_dn2, ne_up3, ne_dn3, ne_up4, ne_dn4, Nat.reduceEqDiff, Nat.one_ne_zero, Nat.succ_ne_zero, Nat.zero_ne_one, reduceIte, List.set_cons_zero, List.set_cons_succ] at F81
            go_wp2_with fail
            refine hK.out _ _ ?_ (fun hHeld => ?_)
            · (try dsimp only); go_keep
            clear hK K
            try simp only [Act.put, List.setIfInBounds_toArray, List.set_cons_zero, List.set_cons_succ]
            refine' AnyX.takeL (i := 4) (oi := _) (v := _) rfl (by kernel_rfl) (by kernel_rfl) (by kernel_rfl) (by kernel_rfl) (fun _ _ _ h => h) (Or.inl ⟨by rfl, ?hy107⟩) (by assumption) ?rest107
            case hy107 => (intro w' hSw; (try dsimp only at hSw); go_simp; (first | done | with_reducible rfl))
            try simp only [Act.put, List.setIfInBounds_toArray, List.set_cons_zero, List.set_cons_succ]
            refine' AnyX.takeL (i := 5) (oi := _) (v := _) rfl (by kernel_rfl) (by kernel_rfl) (by kernel_rfl) (by kernel_rfl) (fun _ _ _ h => h) (Or.inl ⟨by rfl, ?hy108⟩) (by assumption) ?rest108
            case hy108 => (intro w' hSw; (try dsimp only at hSw); go_simp; (first | done | with_reducible rfl))
            try simp only [Act.put, List.setIfInBounds_toArray, List.set_cons_zero, List.set_cons_succ]
            refine' AnyX.takeL (i := 6) (oi := _) (v := _) rfl (by kernel_rfl) (by kernel_rfl) (by kernel_rfl) (by kernel_rfl) (fun _ _ _ h => h) (Or.inl ⟨by rfl, ?hy109⟩) (by assumption) ?rest109
            case hy109 => (intro w' hSw; (try dsimp only at hSw); go_simp; (first | done | with_reducible rfl))
            try simp only [Act.put, List.setIfInBounds_toArray, List.set_cons_zero, List.set_cons_succ]
            refine' AnyX.takeL (i := 7) (oi := _) (v := _) rfl (by kernel_rfl) (by kernel_rfl) (by kernel_rfl) (by kernel_rfl) (fun _ _ _ h => h) (Or.inl ⟨by rfl, ?hy110⟩) (by assumption) ?rest110
            case hy110 => (intro w' hSw; (try dsimp only at hSw); go_simp; (first | done | with_reducible rfl))
            try simp only [Act.put, List.setIfInBounds_toArray, List.set_cons_zero, List.set_cons_succ]
            have q1 : ¬ w77.heap.size = w1.heap.size ∧ ¬ w1.heap.size = w77.heap.size := (by omega)
            have q2 : ¬ w77.heap.size = w.heap.size ∧ ¬ w.heap.size = w77.heap.size := (by omega)
            have q3 : ¬ w1.heap.size = w.heap.size ∧ ¬ w.heap.size = w1.heap.size := (by omega)
            have q4 : w.heap.size ≤ w77.heap.size ∧ w.heap.size ≤ w1.heap.size := (by omega)
            refine AnyX.go (rs := [10]) (by kernel_rfl) (by simp) (AllX.consL (o := _) rfl (fun K hK => ?_) AllX.nil)
            go_simp
            refine hK.out _ _ ?_ (fun hHeld => ?_)
            · (try dsimp only); go_keep
            clear hK K
            try simp only [Act.put, List.setIfInBounds_toArray, List.set_cons_zero, List.set_cons_succ]
            refine AnyX.go (rs := [11]) (by kernel_rfl) (by simp) (AllX.consL (o := _) rfl (fun K hK => ?_) AllX.nil)
            go_simp
            refine hK.out _ _ ?_ (fun hHeld => ?_)
            · (try dsimp only); go_keep
            clear hK K
            try simp only [Act.put, List.setIfInBounds_toArray, List.set_cons_zero, List.set_cons_succ]
            refine' AnyX.takeL (i := 12) (oi := _) (v := _) rfl (by kernel_rfl) (by kernel_rfl) (by kernel_rfl) (by kernel_rfl) (fun _ _ _ h => h) (Or.inl ⟨by rfl, ?hy111⟩) (by assumption) ?rest111
            case hy111 => (intro w' hSw; (try dsimp only at hSw); go_simp; (first | done | with_reducible rfl))
            try simp only [Act.put, List.setIfInBounds_toArray, List.set_cons_zero, List.set_cons_succ]
            refine AnyX.done (by kernel_rfl) ?_ _
            refine NoPanic.normal ?_
            go_wp2_with fail
            go_meet
            refine ⟨w77.heap.size, w1.heap.size, rfl, rfl, rfl, ⟨q1, q2, q3⟩, hide ?_⟩
            skip
            have h := L81.out
            try simp only [World.size_alloc, World.heap_drewN, heap_drew, Nat.add_assoc, Nat.reduceAdd] at h
            have h0 := Lv.of (L' := [(w77.heap.size, 40, [.int .i64 0, .int .i64 0, .int .i64 0, .int .i64 0, .int .i64 0, .int .i64 0]), (w1.heap.size, 23, [.int .i64 0, .int .i64 0, .int .i64 0]), (w.heap.size, 23, [.int .i64 a, .int .i64 b, .int .i64 c])]) h (by simp)
            have h1 := h0.stored6 (u1 := .int .i64 0) (u2 := .int .i64 0) (u3 := .int .i64 0) (u4 := .int .i64 0) (u5 := .int .i64 0) (u6 := .int .i64 0) q4.1 (by simp [q1.2, q2.2])
            have h2 := Lv.of (L' := [(w1.heap.size, 23, [.int .i64 0, .int .i64 0, .int .i64 0]), (w77.heap.size, 40, [.int .i64 0, .int .i64 0, .int .i64 0, .int .i64 0, .int .i64 0, .int .i64 0]), (w.heap.size, 23, [.int .i64 a, .int .i64 b, .int .i64 c])]) h1 (by simp)
            clear h
            have h := h2.stored3 (u1 := .int .i64 0) (u2 := .int .i64 0) (u3 := .int .i64 0) q4.2 (by simp [q1.1, q3.2])
            try simp only [World.size_alloc, size_set, World.heap_drewN, heap_drew, Nat.add_assoc, Nat.reduceAdd] at h
            have h4 := Lv.of (L' := [(w77.heap.size, 40, [.int .i64 0, .int .i64 0, .int .i64 0, .int .i64 0, .int .i64 0, .int .i64 0]), (w1.heap.size, 23, [.int .i64 0, .int .i64 0, .int .i64 0]), (w.heap.size, 23, [.int .i64 a, .int .i64 b, .int .i64 c])]) h (by simp)
            with_reducible exact h4
          exact AllX.nil
        exact AllX.nil
      refine AllX.consL (o := _) rfl (fun K hK => ?_) ?_
      · go_simp
        have L82 := hide (L76.out.put [.int .i64 0, .int .i64 0, .int .i64 0, .int .i64 0, .int .i64 0, .int .i64 0] 40)
        have F82 := L82.out.at; simp only [AllAt, CellsAt, updL, List.map, Nat.zero_add, Nat.reduceAdd, and_true, World.size_alloc, World.heap_drewN, heap_drew, size_set, Nat.add_eq_left, Nat.left_eq_add, Nat.add_right_cancel_iff, ne_up2, ne_dn2, ne_up3, ne_dn3, ne_up4, ne_dn4, Nat.reduceEqDiff, Nat.one_ne_zero, Nat.succ_ne_zero, Nat.zero_ne_one, reduceIte, List.set_cons_zero, List.set_cons_succ] at F82
        refine hK.out _ _ ?_ (fun hHeld => ?_)
        · (try dsimp only); go_keep
        clear hK K
        try simp only [Act.put, List.setIfInBounds_toArray, List.set_cons_zero, List.set_cons_succ]
        refine AnyX.go (rs := [1]) (by kernel_rfl) (by simp) ?_
        refine AllX.consL (o := _) rfl (fun K hK => ?_) ?_
        · go_simp
          go_at_call 18
          refine (copied_any A n cap z _ (by omega) HNIL.out (HD.out.on (L82.out).below)).mono ?_
          rintro e w83 ⟨gc, cc, rfl, hr, hb⟩
          have RC := hide hr
          have L83 := hide ((L82.out).kept hb)
          clear hr hb
          have F83 := L83.out.at; simp only [AllAt, CellsAt, updL, List.map, Nat.zero_add, Nat.reduceAdd, and_true, World.size_alloc, World.heap_drewN, heap_drew, size_set, Nat.add_eq_left, Nat.left_eq_add, Nat.add_right_cancel_iff, ne_up2, ne_dn2, ne_up3, ne_dn3, ne_up4, ne_dn4, Nat.reduceEqDiff, Nat.one_ne_zero, Nat.succ_ne_zero, Nat.zero_ne_one, reduceIte, List.set_cons_zero, List.set_cons_succ] at F83
          go_wp2_with fail
          refine hK.out _ _ ?_ (fun hHeld => ?_)
          · (try dsimp only); go_keep
          clear hK K
          try simp only [Act.put, List.setIfInBounds_toArray, List.set_cons_zero, List.set_cons_succ]
          refine AnyX.go (rs := [3]) (by kernel_rfl) (by simp) ?_
          refine AllX.consL (o := _) rfl (fun K hK => ?_) ?_
          · go_simp
            go_at_call 27
            first | (with_reducible refine Lv.call (CX.out _ _ _ RC.out) (L83.out) ?_) | (with_reducible refine Lv.call (CX.out _ _ _ (RC.out.on ((Below.refl _ _).alloc (Nat.le_refl _) _))) (L83.out) ?_) | (with_reducible refine Lv.call (CX.out _ _ _ (RC.out.on (((Below.refl _ _).alloc (Nat.le_refl _) _).alloc (by simp) _))) (L83.out) ?_)
            intro w84 L84'; have L84 := hide L84'; have F84 := L84'.at; clear L84'; simp only [AllAt, CellsAt, updL, List.map, Nat.zero_add, Nat.reduceAdd, and_true, World.size_alloc, World.heap_drewN, heap_drew, size_set, Nat.add_eq_left, Nat.left_eq_add, Nat.add_right_cancel_iff, ne_up2, ne_dn2, ne_up3, ne_dn3, ne_up4, ne_dn4, Nat.reduceEqDiff, Nat.one_ne_zero, Nat.succ_ne_zero, Nat.zero_ne_one, reduceIte, List.set_cons_zero, List.set_cons_succ] at F84
            go_wp2_with fail
            refine hK.out _ _ ?_ (fun hHeld => ?_)
            · (try dsimp only); go_keep
            clear hK K
            try simp only [Act.put, List.setIfInBounds_toArray, List.set_cons_zero, List.set_cons_succ]
            refine' AnyX.takeL (i := 4) (oi := _) (v := _) rfl (by kernel_rfl) (by kernel_rfl) (by kernel_rfl) (by kernel_rfl) (fun _ _ _ h => h) (Or.inl ⟨by rfl, ?hy112⟩) (by assumption) ?rest112
            case hy112 => (intro w' hSw; (try dsimp only at hSw); go_simp; (first | done | with_reducible rfl))
            try simp only [Act.put, List.setIfInBounds_toArray, List.set_cons_zero, List.set_cons_succ]
            refine' AnyX.takeL (i := 5) (oi := _) (v := _) rfl (by kernel_rfl) (by kernel_rfl) (by kernel_rfl) (by kernel_rfl) (fun _ _ _ h => h) (Or.inl ⟨by rfl, ?hy113⟩) (by assumption) ?rest113
            case hy113 => (intro w' hSw; (try dsimp only at hSw); go_simp; (first | done | with_reducible rfl))
            try simp only [Act.put, List.setIfInBounds_toArray, List.set_cons_zero, List.set_cons_succ]
            refine' AnyX.takeL (i := 6) (oi := _) (v := _) rfl (by kernel_rfl) (by kernel_rfl) (by kernel_rfl) (by kernel_rfl) (fun _ _ _ h => h) (Or.inl ⟨by rfl, ?hy114⟩) (by assumption) ?rest114
            case hy114 => (intro w' hSw; (try dsimp only at hSw); go_simp; (first | done | with_reducible rfl))
            try simp only [Act.put, List.setIfInBounds_toArray, List.set_cons_zero, List.set_cons_succ]
            refine' AnyX.takeL (i := 7) (oi := _) (v := _) rfl (by kernel_rfl) (by kernel_rfl) (by kernel_rfl) (by kernel_rfl) (fun _ _ _ h => h) (Or.inl ⟨by rfl, ?hy115⟩) (by assumption) ?rest115
            case hy115 => (intro w' hSw; (try dsimp only at hSw); go_simp; (first | done | with_reducible rfl))
            try simp only [Act.put, List.setIfInBounds_toArray, List.set_cons_zero, List.set_cons_succ]
            have q1 : ¬ w1.heap.size + 1 = w1.heap.size ∧ ¬ w1.heap.size = w1.heap.size + 1 := (by omega)
            have q2 : ¬ w1.heap.size + 1 = w.heap.size ∧ ¬ w.heap.size = w1.heap.size + 1 := (by omega)
            have q3 : ¬ w1.heap.size = w.heap.size ∧ ¬ w.heap.size = w1.heap.size := (by omega)
            have q4 : w.heap.size ≤ w1.heap.size + 1 ∧ w.heap.size ≤ w1.heap.size := (by omega)
            refine AnyX.go (rs := [10]) (by kernel_rfl) (by simp) (AllX.consL (o := _) rfl (fun K hK => ?_) AllX.nil)
            go_simp
            refine hK.out _ _ ?_ (fun hHeld => ?_)
            · (try dsimp only); go_keep
            clear hK K
            try simp only [Act.put, List.setIfInBounds_toArray, List.set_cons_zero, List.set_cons_succ]
            refine AnyX.go (rs := [11]) (by kernel_rfl) (by simp) (AllX.consL (o := _) rfl (fun K hK => ?_) AllX.nil)
            go_simp
            refine hK.out _ _ ?_ (fun hHeld => ?_)
            · (try dsimp only); go_keep
            clear hK K
            try simp only [Act.put, List.setIfInBounds_toArray, List.set_cons_zero, List.set_cons_succ]
            refine' AnyX.takeL (i := 12) (oi := _) (v := _) rfl (by kernel_rfl) (by kernel_rfl) (by kernel_rfl) (by kernel_rfl) (fun _ _ _ h => h) (Or.inl ⟨by rfl, ?hy116⟩) (by assumption) ?rest116
            case hy116 => (intro w' hSw; (try dsimp only at hSw); go_simp; (first | done | with_reducible rfl))
            try simp only [Act.put, List.setIfInBounds_toArray, List.set_cons_zero, List.set_cons_succ]
            refine AnyX.done (by kernel_rfl) ?_ _
            refine NoPanic.normal ?_
            go_wp2_with fail
            go_meet
            refine ⟨w1.heap.size + 1, w1.heap.size, rfl, rfl, rfl, ⟨q1, q2, q3⟩, hide ?_⟩
            skip
            have h := L84.out
            try simp only [World.size_alloc, World.heap_drewN, heap_drew, Nat.add_assoc, Nat.reduceAdd] at h
            have h0 := Lv.of (L' := [(w1.heap.size + 1, 40, [.int .i64 0, .int .i64 0, .int .i64 0, .int .i64 0, .int .i64 0, .int .i64 0]), (w1.heap.size, 23, [.int .i64 0, .int .i64 0, .int .i64 0]), (w.heap.size, 23, [.int .i64 a, .int .i64 b, .int .i64 c])]) h (by simp)
            have h1 := h0.stored6 (u1 := .int .i64 0) (u2 := .int .i64 0) (u3 := .int .i64 0) (u4 := .int .i64 0) (u5 := .int .i64 0) (u6 := .int .i64 0) q4.1 (by simp [q1.2, q2.2])
            have h2 := Lv.of (L' := [(w1.heap.size, 23, [.int .i64 0, .int .i64 0, .int .i64 0]), (w1.heap.size + 1, 40, [.int .i64 0, .int .i64 0, .int .i64 0, .int .i64 0, .int .i64 0, .int .i64 0]), (w.heap.size, 23, [.int .i64 a, .int .i64 b, .int .i64 c])]) h1 (by simp)
            clear h
            have h := h2.stored3 (u1 := .int .i64 0) (u2 := .int .i64 0) (u3 := .int .i64 0) q4.2 (by simp [q1.1, q3.2])
            try simp only [World.size_alloc, size_set, World.heap_drewN, heap_drew, Nat.add_assoc, Nat.reduceAdd] at h
            have h4 := Lv.of (L' := [(w1.heap.size + 1, 40, [.int .i64 0, .int .i64 0, .int .i64 0, .int .i64 0, .int .i64 0, .int .i64 0]), (w1.heap.size, 23, [.int .i64 0, .int .i64 0, .int .i64 0]), (w.heap.size, 23, [.int .i64 a, .int .i64 b, .int .i64 c])]) h (by simp)
            with_reducible exact h4
          exact AllX.nil
        exact AllX.nil
      exact AllX.nil
    exact AllX.nil
  case' rest =>
    obtain ⟨g5, g6, rfl, rfl, rfl, ng, L6⟩ := hcut
    clear F1 L1
    have F6 := L6.out.at; simp only [AllAt, CellsAt, updL, List.map, Nat.zero_add, Nat.reduceAdd, and_true, World.size_alloc, World.heap_drewN, heap_drew, size_set, Nat.add_eq_left, Nat.left_eq_add, Nat.add_right_cancel_iff, ne_up2, ne_dn2, ne_up3, ne_dn3, ne_up4, ne_dn4, Nat.reduceEqDiff, Nat.one_ne_zero, Nat.succ_ne_zero, Nat.zero_ne_one, reduceIte, List.set_cons_zero, List.set_cons_succ] at F6
    go_wp2_with fail
    refine Lv.call (refForces_any A n cap z _ (HD.out.on L6.out.below)) L6.out ?_
    intro w7 L7'
    have L7 := hide L7'
    have F7 := L7'.at
    clear L7' F6
    simp only [AllAt, CellsAt, updL, List.map, Nat.zero_add, Nat.reduceAdd, and_true, World.size_alloc, World.heap_drewN, heap_drew, size_set, Nat.add_eq_left, Nat.left_eq_add, Nat.add_right_cancel_iff, ne_up2, ne_dn2, ne_up3, ne_dn3, ne_up4, ne_dn4, Nat.reduceEqDiff, Nat.one_ne_zero, Nat.succ_ne_zero, Nat.zero_ne_one, reduceIte, List.set_cons_zero, List.set_cons_succ] at F7
    rw [HE.out]
  go_wp2_with fail
  refine Lv.call (refPlace_any a b c _) L7.out ?_
  intro w8 L8'
  have L8 := hide L8'
  have F8 := L8'.at
  clear L8' F7
  simp only [AllAt, CellsAt, updL, List.map, Nat.zero_add, Nat.reduceAdd, and_true, World.size_alloc, World.heap_drewN, heap_drew, size_set, Nat.add_eq_left, Nat.left_eq_add, Nat.add_right_cancel_iff, ne_up2, ne_dn2, ne_up3, ne_dn3, ne_up4, ne_dn4, Nat.reduceEqDiff, Nat.one_ne_zero, Nat.succ_ne_zero, Nat.zero_ne_one, reduceIte, List.set_cons_zero, List.set_cons_succ] at F8
  rw [HV.out]
  go_wp2
  go_ret
  exact ⟨rfl, L8.out.below⟩
end Go.Proofs.Ytjfcjclhbnmgcaa
