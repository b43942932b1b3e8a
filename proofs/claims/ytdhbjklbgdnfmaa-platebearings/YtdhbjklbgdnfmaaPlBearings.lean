/- PROVED HERE: Rows.PlateBearingsSaid: agraffelaw03.PlateBearings returns true for every input, and its arguments read behind the call as before. -/
import Derived.Test.YtdhbjklbgdnfmaaFlat
import Derived.Test.YtdhbjklbgdnfmaaPlAwake
import Derived.Test.YtdhbjklbgdnfmaaPlRefB
namespace Go.Proofs.Ytdhbjklbgdnfmaa
open Go.ChangeShapes Go.WideShapes Go.ChangeAt Go.RowKit Go.Joins
set_option linter.unusedVariables false
set_option linter.unusedSimpArgs false

/-- A fraction brought to lowest terms, and back. -/
theorem low_back {n m : Int} (hm : 1 ≤ m) : ∃ g : Int, 1 ≤ g ∧ g ≤ m ∧ 1 ≤ lowD n m ∧ lowD n m ≤ m ∧ m.tdiv (lowD n m) = g ∧ lowN n m * g = n := by
  have hg := gcdF_pos (n := n) hm
  have hgl := gcdF_le (n := n) hm
  have d1 : ((gcdF n m : Nat) : Int) ∣ n := Int.natAbs_dvd_natAbs.1 (by simpa [gcdF] using Nat.gcd_dvd_left n.natAbs m.natAbs)
  have d2 : ((gcdF n m : Nat) : Int) ∣ m := Int.natAbs_dvd_natAbs.1 (by simpa [gcdF] using Nat.gcd_dvd_right n.natAbs m.natAbs)
  unfold lowD lowN
  obtain ⟨g, hge⟩ : ∃ g : Int, g = ((gcdF n m : Nat) : Int) := ⟨_, rfl⟩
  have hg' : 1 ≤ g := by rw [hge]; omega
  have hgl' : g ≤ m := by rw [hge]; omega
  rw [← hge] at d1 d2
  rw [← hge]
  clear hg hgl
  have e1 := Int.mul_ediv_cancel' d2
  have e2 : n.tdiv g * g = n := Int.tdiv_mul_cancel d1
  obtain ⟨q, hq⟩ : ∃ q, q = m / g := ⟨_, rfl⟩
  rw [← hq] at e1 ⊢
  have q1 : 1 ≤ q := by
    rcases Int.lt_or_le q 1 with h | h
    · have : g * q ≤ g * 0 := Int.mul_le_mul_of_nonneg_left (by omega) (by omega)
      omega
    · exact h
  have q2 : q ≤ m := by
    have : 1 * q ≤ g * q := Int.mul_le_mul_of_nonneg_right (by omega) (by omega)
    omega
  refine ⟨g, by omega, by omega, q1, q2, ?_, e2⟩
  rw [Int.tdiv_eq_ediv_of_nonneg (by omega), ← e1, Int.mul_ediv_cancel _ (by omega)]
theorem brg_up {f b k a h : Int} (hE : brgE f b k a h = 0) (hb : b ≠ 10000) : brgE f (b + 1) k a h = 0 := by
  have o := brg_ok hE
  obtain ⟨h1, h2, h3, h4, h5⟩ := o
  refine if_pos ?_
  unfold brgB inV inB
  simp only [Bool.and_eq_true, decide_eq_true_eq]
  omega
theorem steep_up (f b k a h : Int) : steep f (b + 1) k a h = steep f b k a h + h + a := by
  unfold steep
  rw [show b + 1 - f = (b - f) + 1 by omega, show b + 1 - k = (b - k) + 1 by omega, Int.add_mul, Int.add_mul]
  omega
set_option maxHeartbeats 8000000 in
set_option maxRecDepth 100000 in
theorem plateBearings_walk (f b k a h t : Int) (w : World) (h6 : -9223372036854775808 ≤ t ∧ t ≤ 9223372036854775807) (h1 : -9223372036854775808 ≤ f ∧ f ≤ 9223372036854775807) (h2 : -9223372036854775808 ≤ b ∧ b ≤ 9223372036854775807) (h3 : -9223372036854775808 ≤ k ∧ k ≤ 9223372036854775807) (h4 : -9223372036854775808 ≤ a ∧ a ≤ 9223372036854775807) (h5 : -9223372036854775808 ≤ h ∧ h ≤ 9223372036854775807) :
    Calls Try.prog 13 #[.agg #[.int .i64 f, .int .i64 b, .int .i64 k, .int .i64 a, .int .i64 h], .int .i64 t] w fun x w' => x = .returned (.bool true) ∧ Below w.heap.size w w' := by
  clear h1 h2 h3 h4 h5 h6
  rcases brg_cases f b k a h with hE | hE
  · by_cases ht : 0 ≤ t ∧ t ≤ 10000000
    · have J := hide (inR_yes (n := t) (lo := 0) (hi := 10000000) ht)
      have CD := fun W => plDownB_ok f b k a h t W hE ht
      have CR := fun W => refDownB_any f b k a h t W hE ht
      have o := brg_ok hE
      obtain ⟨s1, s2, s3, s4⟩ := steep_in o
      have k5 := mul_bound (x := t) (y := steep f b k a h) 10000000 12000000000 (by omega) (by omega)
      rw [show (10000000 * 12000000000 : Nat) = 120000000000000000 from rfl] at k5
      obtain ⟨g1, gg1, gg2, dd1, dd2, qq1, pp1⟩ := low_back (n := t * steep f b k a h) s4.1
      by_cases hb : b = 10000
      · obtain ⟨x, hx⟩ : ∃ x, x = lowN (t * steep f b k a h) (a * h) := ⟨_, rfl⟩
        obtain ⟨y, hy⟩ : ∃ x, x = lowD (t * steep f b k a h) (a * h) := ⟨_, rfl⟩
        rw [← hx, ← hy] at CD CR
        replace CD := hide CD
        replace CR := hide CR
        have HE := hide hE
        have b0 : ((b : Int) == 10000) = true := by rw [beq_iff_eq]; exact hb
        clear hE hx hy s1 s2 s3 s4 k5 gg1 gg2 dd1 dd2 qq1 pp1 hb o
        have L0 := hide (Lv.start w)
        go_enter Try.func13, Try.ntmps13
        go_wp2_with fail
        refine Lv.call (plAwake_any _) (L0.out.put _ _) ?_
        intro w1 L1'
        have L1 := hide L1'
        have F1 := L1'.at
        clear L1'
        simp only [AllAt, CellsAt, updL, List.map, Nat.zero_add, Nat.reduceAdd, and_true, World.size_alloc, World.heap_drewN, heap_drew, size_set, Nat.add_eq_left, Nat.left_eq_add, Nat.add_right_cancel_iff, ne_up2, ne_dn2, ne_up3, ne_dn3, ne_up4, ne_dn4, Nat.reduceEqDiff, Nat.one_ne_zero, Nat.succ_ne_zero, Nat.zero_ne_one, reduceIte, List.set_cons_zero, List.set_cons_succ] at F1
        go_wp2_with fail
        refine Lv.call (CD.out _) L1.out ?_
        intro w2 L2'
        have L2 := hide L2'
        have F2 := L2'.at
        clear L2' F1
        simp only [AllAt, CellsAt, updL, List.map, Nat.zero_add, Nat.reduceAdd, and_true, World.size_alloc, World.heap_drewN, heap_drew, size_set, Nat.add_eq_left, Nat.left_eq_add, Nat.add_right_cancel_iff, ne_up2, ne_dn2, ne_up3, ne_dn3, ne_up4, ne_dn4, Nat.reduceEqDiff, Nat.one_ne_zero, Nat.succ_ne_zero, Nat.zero_ne_one, reduceIte, List.set_cons_zero, List.set_cons_succ] at F2
        go_wp2_with fail
        refine Lv.call (refBearing_any f b k a h _) (L2.out.put _ _) ?_
        intro w3 L3'
        have L3 := hide L3'
        have F3 := L3'.at
        clear L3' F2
        simp only [AllAt, CellsAt, updL, List.map, Nat.zero_add, Nat.reduceAdd, and_true, World.size_alloc, World.heap_drewN, heap_drew, size_set, Nat.add_eq_left, Nat.left_eq_add, Nat.add_right_cancel_iff, ne_up2, ne_dn2, ne_up3, ne_dn3, ne_up4, ne_dn4, Nat.reduceEqDiff, Nat.one_ne_zero, Nat.succ_ne_zero, Nat.zero_ne_one, reduceIte, List.set_cons_zero, List.set_cons_succ] at F3
        rw [HE.out]
        go_wp2_with fail
        refine Lv.call (plBearing_any f b k a h _) L3.out ?_
        intro w4 L4'
        have L4 := hide L4'
        have F4 := L4'.at
        clear L4' F3
        simp only [AllAt, CellsAt, updL, List.map, Nat.zero_add, Nat.reduceAdd, and_true, World.size_alloc, World.heap_drewN, heap_drew, size_set, Nat.add_eq_left, Nat.left_eq_add, Nat.add_right_cancel_iff, ne_up2, ne_dn2, ne_up3, ne_dn3, ne_up4, ne_dn4, Nat.reduceEqDiff, Nat.one_ne_zero, Nat.succ_ne_zero, Nat.zero_ne_one, reduceIte, List.set_cons_zero, List.set_cons_succ] at F4
        rw [HE.out]
        go_wp2_with fail
        refine Lv.same (within3_any t 0 10000000 _) ?_
        rw [J.out]
        go_wp2
        (first | (go_region_held3 (fun w' => w'.cell? ⟨w.heap.size, 0, none⟩ = some (.int .i64 f) ∧ w'.cell? ⟨w.heap.size, 1, none⟩ = some (.int .i64 b) ∧ w'.cell? ⟨w.heap.size, 2, none⟩ = some (.int .i64 k) ∧ w'.cell? ⟨w.heap.size, 3, none⟩ = some (.int .i64 a) ∧ w'.cell? ⟨w.heap.size, 4, none⟩ = some (.int .i64 h) ∧ w'.cell? ⟨w2.heap.size, 0, none⟩ = some (.int .i64 x) ∧ w'.cell? ⟨w2.heap.size, 1, none⟩ = some (.int .i64 y))
          (go_keep)
          (first | (go_at_call 62; refine Lv.call (CR.out _) L4.out.drew ?_; intro w5 L5'; have L5 := hide L5'; have F5 := L5'.at; clear L5'; simp only [AllAt, CellsAt, updL, List.map, Nat.zero_add, Nat.reduceAdd, and_true, World.size_alloc, World.heap_drewN, heap_drew, size_set, Nat.add_eq_left, Nat.left_eq_add, Nat.add_right_cancel_iff, ne_up2, ne_dn2, ne_up3, ne_dn3, ne_up4, ne_dn4, Nat.reduceEqDiff, Nat.one_ne_zero, Nat.succ_ne_zero, Nat.zero_ne_one, reduceIte, List.set_cons_zero, List.set_cons_succ] at F5) | fail)) | fail)
        all_goals
          go_wp2
          go_ret
          refine ⟨rfl, ?_⟩
          repeat (first | (with_reducible exact L5.out.below) | refine Below.setCell ?_ (by first | omega | (simp; done) | (simp; omega)) _ | refine Below.alloc ?_ (by first | omega | (simp; done) | (simp; omega)) _ | refine below_drewN ?_ _ | refine Below.drew ?_)
      · have hE2 := brg_up hE hb
        have o2 := brg_ok hE2
        obtain ⟨_, _, u3, _⟩ := steep_in o2
        have CD2 := fun W => plDownB_ok f (b + 1) k a h t W hE2 ht
        have CR2 := fun W => refDownB_any f (b + 1) k a h t W hE2 ht
        have k6 := mul_bound (x := t) (y := steep f (b + 1) k a h) 10000000 12000000000 (by omega) (by omega)
        rw [show (10000000 * 12000000000 : Nat) = 120000000000000000 from rfl] at k6
        obtain ⟨g2, gg3, gg4, dd3, dd4, qq2, pp2⟩ := low_back (n := t * steep f (b + 1) k a h) s4.1
        have hle : t * steep f b k a h ≤ t * steep f (b + 1) k a h := Int.mul_le_mul_of_nonneg_left (by rw [steep_up]; have := o.a; have := o.h; omega) ht.1
        obtain ⟨n1, hn1⟩ : ∃ n1, n1 = t * steep f b k a h := ⟨_, rfl⟩
        obtain ⟨n2, hn2⟩ : ∃ n1, n1 = t * steep f (b + 1) k a h := ⟨_, rfl⟩
        rw [← hn1] at CD CR k5 pp1 qq1 dd1 dd2 hle
        rw [← hn2] at CD2 CR2 k6 pp2 qq2 dd3 dd4 hle
        obtain ⟨x, hx⟩ : ∃ x, x = lowN n1 (a * h) := ⟨_, rfl⟩
        obtain ⟨y, hy⟩ : ∃ x, x = lowD n1 (a * h) := ⟨_, rfl⟩
        obtain ⟨x2, hx2⟩ : ∃ x, x = lowN n2 (a * h) := ⟨_, rfl⟩
        obtain ⟨y2, hy2⟩ : ∃ x, x = lowD n2 (a * h) := ⟨_, rfl⟩
        rw [← hx] at CD CR pp1
        rw [← hy] at CD CR qq1 dd1 dd2
        rw [← hx2] at CD2 CR2 pp2
        rw [← hy2] at CD2 CR2 qq2 dd3 dd4
        have oa := o.a
        have oh := o.h
        have ob := o.b
        obtain ⟨m, hm⟩ : ∃ m, m = a * h := ⟨_, rfl⟩
        rw [← hm] at s4 gg2 gg4 dd2 dd4 qq1 qq2
        have hm' : a * h = m := hm.symm
        have W0 : IntKind.i64.wrap (a * h) = m := by rw [hm', IntKind.wrap_i64]; omega
        have W1 : IntKind.i64.wrap g1 = g1 := by rw [IntKind.wrap_i64]; omega
        have W2 : IntKind.i64.wrap g2 = g2 := by rw [IntKind.wrap_i64]; omega
        have W3 : IntKind.i64.wrap (x * g1) = n1 := by rw [pp1, IntKind.wrap_i64]; omega
        have W4 : IntKind.i64.wrap (x2 * g2) = n2 := by rw [pp2, IntKind.wrap_i64]; omega
        have W5 : IntKind.i64.wrap (b + 1) = b + 1 := by rw [IntKind.wrap_i64]; omega
        have z1 : ¬ y = 0 := by omega
        have z2 : ¬ y2 = 0 := by omega
        have z3 : ¬ y = -1 := by omega
        have z4 : ¬ y2 = -1 := by omega
        replace CD := hide CD
        replace CR := hide CR
        replace CD2 := hide CD2
        replace CR2 := hide CR2
        have HE := hide hE
        have HW := hide (And.intro (And.intro W0 (And.intro W1 W2)) (And.intro (And.intro W3 W4) (And.intro qq1 qq2)))
        have HLE := hide hle
        have b0 : ((b : Int) == 10000) = false := by rw [beq_eq_false_iff_ne]; exact hb
        clear hE hx hy hx2 hy2 hn1 hn2 s1 s2 s3 k5 k6 u3 pp1 pp2 qq1 qq2 W0 W1 W2 W3 W4 hb o o2 hE2 hm hm' hle
        have L0 := hide (Lv.start w)
        go_enter Try.func13, Try.ntmps13
        go_wp2_with fail
        refine Lv.call (plAwake_any _) (L0.out.put _ _) ?_
        intro w1 L1'
        have L1 := hide L1'
        have F1 := L1'.at
        clear L1'
        simp only [AllAt, CellsAt, updL, List.map, Nat.zero_add, Nat.reduceAdd, and_true, World.size_alloc, World.heap_drewN, heap_drew, size_set, Nat.add_eq_left, Nat.left_eq_add, Nat.add_right_cancel_iff, ne_up2, ne_dn2, ne_up3, ne_dn3, ne_up4, ne_dn4, Nat.reduceEqDiff, Nat.one_ne_zero, Nat.succ_ne_zero, Nat.zero_ne_one, reduceIte, List.set_cons_zero, List.set_cons_succ] at F1
        go_wp2_with fail
        refine Lv.call (CD.out _) L1.out ?_
        intro w2 L2'
        have L2 := hide L2'
        have F2 := L2'.at
        clear L2' F1
        simp only [AllAt, CellsAt, updL, List.map, Nat.zero_add, Nat.reduceAdd, and_true, World.size_alloc, World.heap_drewN, heap_drew, size_set, Nat.add_eq_left, Nat.left_eq_add, Nat.add_right_cancel_iff, ne_up2, ne_dn2, ne_up3, ne_dn3, ne_up4, ne_dn4, Nat.reduceEqDiff, Nat.one_ne_zero, Nat.succ_ne_zero, Nat.zero_ne_one, reduceIte, List.set_cons_zero, List.set_cons_succ] at F2
        go_wp2_with fail
        refine Lv.call (refBearing_any f b k a h _) (L2.out.put _ _) ?_
        intro w3 L3'
        have L3 := hide L3'
        have F3 := L3'.at
        clear L3' F2
        simp only [AllAt, CellsAt, updL, List.map, Nat.zero_add, Nat.reduceAdd, and_true, World.size_alloc, World.heap_drewN, heap_drew, size_set, Nat.add_eq_left, Nat.left_eq_add, Nat.add_right_cancel_iff, ne_up2, ne_dn2, ne_up3, ne_dn3, ne_up4, ne_dn4, Nat.reduceEqDiff, Nat.one_ne_zero, Nat.succ_ne_zero, Nat.zero_ne_one, reduceIte, List.set_cons_zero, List.set_cons_succ] at F3
        rw [HE.out]
        go_wp2_with fail
        refine Lv.call (plBearing_any f b k a h _) L3.out ?_
        intro w4 L4'
        have L4 := hide L4'
        have F4 := L4'.at
        clear L4' F3
        simp only [AllAt, CellsAt, updL, List.map, Nat.zero_add, Nat.reduceAdd, and_true, World.size_alloc, World.heap_drewN, heap_drew, size_set, Nat.add_eq_left, Nat.left_eq_add, Nat.add_right_cancel_iff, ne_up2, ne_dn2, ne_up3, ne_dn3, ne_up4, ne_dn4, Nat.reduceEqDiff, Nat.one_ne_zero, Nat.succ_ne_zero, Nat.zero_ne_one, reduceIte, List.set_cons_zero, List.set_cons_succ] at F4
        rw [HE.out]
        go_wp2_with fail
        refine Lv.same (within3_any t 0 10000000 _) ?_
        rw [J.out]
        have hlt2 : w.heap.size < w2.heap.size := (L2.out.blk _ List.mem_cons_self).lt
        go_wp2
        go_cut [50] (fun s50 wx => s50 = .bool false ∧ Hid (Lv w wx [(w2.heap.size, 29, [.int .i64 x, .int .i64 y]), (w.heap.size, 102, [.int .i64 f, .int .i64 b, .int .i64 k, .int .i64 a, .int .i64 h])]))
        case first =>
          (first | (go_region_held3 (fun w' => w'.cell? ⟨w.heap.size, 0, none⟩ = some (.int .i64 f) ∧ w'.cell? ⟨w.heap.size, 1, none⟩ = some (.int .i64 b) ∧ w'.cell? ⟨w.heap.size, 2, none⟩ = some (.int .i64 k) ∧ w'.cell? ⟨w.heap.size, 3, none⟩ = some (.int .i64 a) ∧ w'.cell? ⟨w.heap.size, 4, none⟩ = some (.int .i64 h) ∧ w'.cell? ⟨w2.heap.size, 0, none⟩ = some (.int .i64 x) ∧ w'.cell? ⟨w2.heap.size, 1, none⟩ = some (.int .i64 y))
            (go_keep)
            (first | (go_at_call 62; refine Lv.call (CR.out _) L4.out.drew ?_; intro w5 L5'; have L5 := hide L5'; have F5 := L5'.at; clear L5'; simp only [AllAt, CellsAt, updL, List.map, Nat.zero_add, Nat.reduceAdd, and_true, World.size_alloc, World.heap_drewN, heap_drew, size_set, Nat.add_eq_left, Nat.left_eq_add, Nat.add_right_cancel_iff, ne_up2, ne_dn2, ne_up3, ne_dn3, ne_up4, ne_dn4, Nat.reduceEqDiff, Nat.one_ne_zero, Nat.succ_ne_zero, Nat.zero_ne_one, reduceIte, List.set_cons_zero, List.set_cons_succ] at F5) | fail)) | fail)
          all_goals
            go_wp2_with fail
            go_meet
            exact ⟨rfl, L5⟩
        case rest =>
          obtain ⟨rfl, L5⟩ := hcut
          clear F4 L4 L3 L2 L1
          have hne : ¬ w2.heap.size = w.heap.size ∧ ¬ w.heap.size = w2.heap.size := by omega
          have hh := L5.out.set w.heap.size 1 (.int .i64 (b + 1)) (Nat.le_refl _)
          simp only [updL, List.map, hne.1, if_true, if_false, List.set_cons_zero, List.set_cons_succ] at hh
          have L6 := hide hh
          clear hh
          have F5 := L5.out.at; simp only [AllAt, CellsAt, updL, List.map, Nat.zero_add, Nat.reduceAdd, and_true, World.size_alloc, World.heap_drewN, heap_drew, size_set, Nat.add_eq_left, Nat.left_eq_add, Nat.add_right_cancel_iff, ne_up2, ne_dn2, ne_up3, ne_dn3, ne_up4, ne_dn4, Nat.reduceEqDiff, Nat.one_ne_zero, Nat.succ_ne_zero, Nat.zero_ne_one, reduceIte, List.set_cons_zero, List.set_cons_succ] at F5
          have F6 := L6.out.at; simp only [AllAt, CellsAt, updL, List.map, Nat.zero_add, Nat.reduceAdd, and_true, World.size_alloc, World.heap_drewN, heap_drew, size_set, Nat.add_eq_left, Nat.left_eq_add, Nat.add_right_cancel_iff, ne_up2, ne_dn2, ne_up3, ne_dn3, ne_up4, ne_dn4, Nat.reduceEqDiff, Nat.one_ne_zero, Nat.succ_ne_zero, Nat.zero_ne_one, reduceIte, List.set_cons_zero, List.set_cons_succ] at F6
          have W5 : IntKind.i64.wrap (b + 1) = b + 1 := by rw [IntKind.wrap_i64]; omega
          go_wp2_with fail
          refine Lv.call (CD2.out _) L6.out ?_
          intro w7 L7'
          have L7 := hide L7'
          have F7 := L7'.at
          clear L7' F5 F6
          simp only [AllAt, CellsAt, updL, List.map, Nat.zero_add, Nat.reduceAdd, and_true, World.size_alloc, World.heap_drewN, heap_drew, size_set, Nat.add_eq_left, Nat.left_eq_add, Nat.add_right_cancel_iff, ne_up2, ne_dn2, ne_up3, ne_dn3, ne_up4, ne_dn4, Nat.reduceEqDiff, Nat.one_ne_zero, Nat.succ_ne_zero, Nat.zero_ne_one, reduceIte, List.set_cons_zero, List.set_cons_succ] at F7
          have n7 : (¬ w7.heap.size = w.heap.size ∧ ¬ w.heap.size = w7.heap.size) ∧ (¬ w7.heap.size = w2.heap.size ∧ ¬ w2.heap.size = w7.heap.size) := by omega
          go_wp2
          go_cut [72] (fun s72 wx => s72 = .bool false ∧ Hid (Lv w wx [(w7.heap.size, 29, [.int .i64 x2, .int .i64 y2]), (w2.heap.size, 29, [.int .i64 x, .int .i64 y]), (w.heap.size, 102, [.int .i64 f, .int .i64 (b + 1), .int .i64 k, .int .i64 a, .int .i64 h])]))
          case first =>
            (first | (go_region_held3 (fun w' => w'.cell? ⟨w.heap.size, 0, none⟩ = some (.int .i64 f) ∧ w'.cell? ⟨w.heap.size, 1, none⟩ = some (.int .i64 (b + 1)) ∧ w'.cell? ⟨w.heap.size, 2, none⟩ = some (.int .i64 k) ∧ w'.cell? ⟨w.heap.size, 3, none⟩ = some (.int .i64 a) ∧ w'.cell? ⟨w.heap.size, 4, none⟩ = some (.int .i64 h) ∧ w'.cell? ⟨w7.heap.size, 0, none⟩ = some (.int .i64 x2) ∧ w'.cell? ⟨w7.heap.size, 1, none⟩ = some (.int .i64 y2))
              (go_keep)
              (first | (go_at_call 62; refine Lv.call (CR2.out _) (L7.out.put _ _).drew ?_; intro w8 L8'; have L8 := hide L8'; have F8 := L8'.at; clear L8'; simp only [AllAt, CellsAt, updL, List.map, Nat.zero_add, Nat.reduceAdd, and_true, World.size_alloc, World.heap_drewN, heap_drew, size_set, Nat.add_eq_left, Nat.left_eq_add, Nat.add_right_cancel_iff, ne_up2, ne_dn2, ne_up3, ne_dn3, ne_up4, ne_dn4, Nat.reduceEqDiff, Nat.one_ne_zero, Nat.succ_ne_zero, Nat.zero_ne_one, reduceIte, List.set_cons_zero, List.set_cons_succ] at F8) | fail)) | fail)
            all_goals
              go_wp2_with fail
              go_meet
              exact ⟨rfl, L8⟩
          case rest =>
            obtain ⟨rfl, L8⟩ := hcut
            clear F7 L7 L6 L5
            have F8 := L8.out.at; simp only [AllAt, CellsAt, updL, List.map, Nat.zero_add, Nat.reduceAdd, and_true, World.size_alloc, World.heap_drewN, heap_drew, size_set, Nat.add_eq_left, Nat.left_eq_add, Nat.add_right_cancel_iff, ne_up2, ne_dn2, ne_up3, ne_dn3, ne_up4, ne_dn4, Nat.reduceEqDiff, Nat.one_ne_zero, Nat.succ_ne_zero, Nat.zero_ne_one, reduceIte, List.set_cons_zero, List.set_cons_succ] at F8
            obtain ⟨⟨W0, W1, W2⟩, ⟨W3, W4⟩, qq1, qq2⟩ := HW.out
            have hle := HLE.out
            go_wp2
            go_quiet (fail)
            go_wp2
            go_ret
            refine ⟨rfl, ?_⟩
            repeat (first | (with_reducible exact L8.out.below) | refine Below.setCell ?_ (by first | omega | (simp; done) | (simp; omega)) _ | refine Below.alloc ?_ (by first | omega | (simp; done) | (simp; omega)) _ | refine below_drewN ?_ _ | refine Below.drew ?_)
    · have J := hide (inR_no (n := t) (lo := 0) (hi := 10000000) ht)
      have CD := hide (fun W => plDownB_out f b k a h t W hE (by omega))
      have HE := hide hE
      clear hE ht
      have L0 := hide (Lv.start w)
      go_enter Try.func13, Try.ntmps13
      go_wp2_with fail
      refine Lv.call (plAwake_any _) (L0.out.put _ _) ?_
      intro w1 L1'
      have L1 := hide L1'
      have F1 := L1'.at
      clear L1'
      simp only [AllAt, CellsAt, updL, List.map, Nat.zero_add, Nat.reduceAdd, and_true, World.size_alloc, World.heap_drewN, heap_drew, size_set, Nat.add_eq_left, Nat.left_eq_add, Nat.add_right_cancel_iff, ne_up2, ne_dn2, ne_up3, ne_dn3, ne_up4, ne_dn4, Nat.reduceEqDiff, Nat.one_ne_zero, Nat.succ_ne_zero, Nat.zero_ne_one, reduceIte, List.set_cons_zero, List.set_cons_succ] at F1
      go_wp2_with fail
      refine Lv.call (CD.out _) L1.out ?_
      intro w2 L2'
      have L2 := hide L2'
      have F2 := L2'.at
      clear L2' F1
      simp only [AllAt, CellsAt, updL, List.map, Nat.zero_add, Nat.reduceAdd, and_true, World.size_alloc, World.heap_drewN, heap_drew, size_set, Nat.add_eq_left, Nat.left_eq_add, Nat.add_right_cancel_iff, ne_up2, ne_dn2, ne_up3, ne_dn3, ne_up4, ne_dn4, Nat.reduceEqDiff, Nat.one_ne_zero, Nat.succ_ne_zero, Nat.zero_ne_one, reduceIte, List.set_cons_zero, List.set_cons_succ] at F2
      go_wp2_with fail
      refine Lv.call (refBearing_any f b k a h _) (L2.out.put _ _) ?_
      intro w3 L3'
      have L3 := hide L3'
      have F3 := L3'.at
      clear L3' F2
      simp only [AllAt, CellsAt, updL, List.map, Nat.zero_add, Nat.reduceAdd, and_true, World.size_alloc, World.heap_drewN, heap_drew, size_set, Nat.add_eq_left, Nat.left_eq_add, Nat.add_right_cancel_iff, ne_up2, ne_dn2, ne_up3, ne_dn3, ne_up4, ne_dn4, Nat.reduceEqDiff, Nat.one_ne_zero, Nat.succ_ne_zero, Nat.zero_ne_one, reduceIte, List.set_cons_zero, List.set_cons_succ] at F3
      rw [HE.out]
      go_wp2_with fail
      refine Lv.call (plBearing_any f b k a h _) L3.out ?_
      intro w4 L4'
      have L4 := hide L4'
      have F4 := L4'.at
      clear L4' F3
      simp only [AllAt, CellsAt, updL, List.map, Nat.zero_add, Nat.reduceAdd, and_true, World.size_alloc, World.heap_drewN, heap_drew, size_set, Nat.add_eq_left, Nat.left_eq_add, Nat.add_right_cancel_iff, ne_up2, ne_dn2, ne_up3, ne_dn3, ne_up4, ne_dn4, Nat.reduceEqDiff, Nat.one_ne_zero, Nat.succ_ne_zero, Nat.zero_ne_one, reduceIte, List.set_cons_zero, List.set_cons_succ] at F4
      rw [HE.out]
      go_wp2_with fail
      refine Lv.same (within3_any t 0 10000000 _) ?_
      rw [J.out]
      go_wp2
      go_ret
      refine ⟨rfl, ?_⟩
      repeat (first | (with_reducible exact L4.out.below) | refine Below.setCell ?_ (by first | omega | (simp; done) | (simp; omega)) _ | refine Below.alloc ?_ (by first | omega | (simp; done) | (simp; omega)) _ | refine below_drewN ?_ _ | refine Below.drew ?_)
  · have CD := hide (fun W => plDownB_bad f b k a h t W hE)
    have HE := hide hE
    clear hE
    have L0 := hide (Lv.start w)
    go_enter Try.func13, Try.ntmps13
    go_wp2_with fail
    refine Lv.call (plAwake_any _) (L0.out.put _ _) ?_
    intro w1 L1'
    have L1 := hide L1'
    have F1 := L1'.at
    clear L1'
    simp only [AllAt, CellsAt, updL, List.map, Nat.zero_add, Nat.reduceAdd, and_true, World.size_alloc, World.heap_drewN, heap_drew, size_set, Nat.add_eq_left, Nat.left_eq_add, Nat.add_right_cancel_iff, ne_up2, ne_dn2, ne_up3, ne_dn3, ne_up4, ne_dn4, Nat.reduceEqDiff, Nat.one_ne_zero, Nat.succ_ne_zero, Nat.zero_ne_one, reduceIte, List.set_cons_zero, List.set_cons_succ] at F1
    go_wp2_with fail
    refine Lv.call (CD.out _) L1.out ?_
    intro w2 L2'
    have L2 := hide L2'
    have F2 := L2'.at
    clear L2' F1
    simp only [AllAt, CellsAt, updL, List.map, Nat.zero_add, Nat.reduceAdd, and_true, World.size_alloc, World.heap_drewN, heap_drew, size_set, Nat.add_eq_left, Nat.left_eq_add, Nat.add_right_cancel_iff, ne_up2, ne_dn2, ne_up3, ne_dn3, ne_up4, ne_dn4, Nat.reduceEqDiff, Nat.one_ne_zero, Nat.succ_ne_zero, Nat.zero_ne_one, reduceIte, List.set_cons_zero, List.set_cons_succ] at F2
    go_wp2_with fail
    refine Lv.call (refBearing_any f b k a h _) (L2.out.put _ _) ?_
    intro w3 L3'
    have L3 := hide L3'
    have F3 := L3'.at
    clear L3' F2
    simp only [AllAt, CellsAt, updL, List.map, Nat.zero_add, Nat.reduceAdd, and_true, World.size_alloc, World.heap_drewN, heap_drew, size_set, Nat.add_eq_left, Nat.left_eq_add, Nat.add_right_cancel_iff, ne_up2, ne_dn2, ne_up3, ne_dn3, ne_up4, ne_dn4, Nat.reduceEqDiff, Nat.one_ne_zero, Nat.succ_ne_zero, Nat.zero_ne_one, reduceIte, List.set_cons_zero, List.set_cons_succ] at F3
    rw [HE.out]
    go_wp2_with fail
    refine Lv.call (plBearing_any f b k a h _) L3.out ?_
    intro w4 L4'
    have L4 := hide L4'
    have F4 := L4'.at
    clear L4' F3
    simp only [AllAt, CellsAt, updL, List.map, Nat.zero_add, Nat.reduceAdd, and_true, World.size_alloc, World.heap_drewN, heap_drew, size_set, Nat.add_eq_left, Nat.left_eq_add, Nat.add_right_cancel_iff, ne_up2, ne_dn2, ne_up3, ne_dn3, ne_up4, ne_dn4, Nat.reduceEqDiff, Nat.one_ne_zero, Nat.succ_ne_zero, Nat.zero_ne_one, reduceIte, List.set_cons_zero, List.set_cons_succ] at F4
    rw [HE.out]
    go_wp2
    go_ret
    refine ⟨rfl, ?_⟩
    repeat (first | (with_reducible exact L4.out.below) | refine Below.setCell ?_ (by first | omega | (simp; done) | (simp; omega)) _ | refine Below.alloc ?_ (by first | omega | (simp; done) | (simp; omega)) _ | refine below_drewN ?_ _ | refine Below.drew ?_)
set_option maxRecDepth 100000 in
theorem plateBearings_lifted (os : Os) (started : os.Started) (H : Type) (enc : TypeId × Value → H) :
    ReturnsInHanded {} Try.checked os 13 .any (Rows.plateBearingsSpec.pre6 enc Try.prog Try.f13 Rows.plateBearingsRow.domain false) (Rows.plateBearingsSpec.post enc Try.prog Try.f13 false true false false) := by
  refine returnsInHanded_of_change (C := Try.checked) (by kernel_rfl) started (by kernel_rfl) Try.func13
    (ChangeSpec.witness6 (enc := enc) (C := Try.checked) false ⟨#[], #[.agg #[.int .i64 0, .int .i64 0, .int .i64 0, .int .i64 0, .int .i64 0], .int .i64 0], []⟩ 8 (by kernel_rfl) (by kernel_rfl) (by kernel_rfl) (by kernel_rfl)) ?_
  intro W base args ds gs before hval0 hW hcnd _
  have hval : ∀ (j : Nat) t v, Try.f13.params[j]? = some t → args[j]? = some v → Value.okWide Try.prog W .any base t v := hval0
  have hW' := hW
  obtain ⟨p, q, hA0, hV, rfl, hfz, hnd⟩ := hW
  have hA : DataW.TrodAll enc Try.prog W 0 (fun _ => true) true Try.f13.params.toList args.toList ds p := hA0
  rw [Try.params13] at hA hval
  obtain ⟨v0, vs0, d0, ds0, p0, q0, hargs, rfl, rfl, h0, r0⟩ := trodAll_cons hA
  obtain ⟨v1, vs1, d1, ds1, p1, q1, rfl, rfl, rfl, h1, r1⟩ := trodAll_cons r0
  obtain ⟨rfl, rfl, rfl⟩ := trodAll_nil r1
  obtain rfl : args = #[v0, v1] := by cases args; simp_all
  obtain ⟨rfl, rfl⟩ := trodVars_none hV
  obtain ⟨zs_0, rfl, zl_0, zb_0⟩ := flat_open (k := 6) (n := 5) Try.underlying102 (by kernel_rfl) (by kernel_rfl) (hval 0 102 v0 rfl rfl) h0
  obtain ⟨f, b, k, a, h, rfl⟩ := len5 zl_0
  obtain ⟨t, rfl, rfl, rfl, w_t⟩ := open_int Try.underlying3 (hval 1 3 v1 rfl rfl) h1
  clear hval0
  have hWW := hW'
  refine (plateBearings_walk f b k a h t W (wfI w_t) (zb_0 f (by simp)) (zb_0 b (by simp)) (zb_0 k (by simp)) (zb_0 a (by simp)) (zb_0 h (by simp))).mono fun e W' ⟨he, hb⟩ => ?_
  subst he
  exact ⟨_, rfl, law_post (pa := p0 ++ ([] ++ [])) (pv := []) hWW (fun _ _ _ => (trodAll_cons_mk (shut_bool Try.underlying4 _) trodAll_mk0)) (fun sp hsp => args_back (by kernel_rfl) _ _ _ _ (by kernel_rfl) hA0 (fun x hx => hb.same (hWW.lt x (List.mem_append_left _ hx))) (fun x hx => hsp x (List.mem_append_left _ hx))) (fun _ _ => rfl) rfl hb⟩

theorem plateBearings_holds : Rows.PlateBearingsSaid :=
  OpenClaim.holds_of_wide 13 Try.f13 rfl rfl rfl rfl rfl rfl rfl ⟨rfl, rfl, rfl, rfl, rfl⟩ rfl rfl rfl rfl rfl (by kernel_rfl) Try.func13 (by kernel_rfl)
    (of_decide_eq_true (by kernel_rfl)) (by unfold Func.isWrapper; first | (rw [if_pos (by decide +kernel)]; kernel_rfl) | (rw [if_neg (by decide +kernel)]; exact ⟨rfl, rfl⟩))
    (fun os started H enc _ => plateBearings_lifted os started H enc)
end Go.Proofs.Ytdhbjklbgdnfmaa
