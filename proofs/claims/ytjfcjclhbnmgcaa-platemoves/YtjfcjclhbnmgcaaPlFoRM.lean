/- The contract of agrafferef03.Moment. Every bound is a premise of the theorem that bears it. -/
import Derived.Test.YtjfcjclhbnmgcaaPlFoR
import Derived.Test.YtjfcjclhbnmgcaaRegX
namespace Go.Proofs.Ytjfcjclhbnmgcaa
open Go.RowKit
set_option linter.unusedVariables false
set_option linter.unusedSimpArgs false


set_option maxHeartbeats 4000000 in
set_option maxRecDepth 100000 in
theorem refMoment_any (A : Option Addr) (n cap : Nat) (z : Nat → Nat → Int) (a b c : Int) (w : World) (hD : RowM 6 w w.heap.size A n z) (hn : n ≤ 305) (hF : ∀ k, k < n → FrcIn z k) (ha : -1000000 ≤ a ∧ a ≤ 1000000) (hb : -1000000 ≤ b ∧ b ≤ 1000000) (hc : -1000000 ≤ c ∧ c ≤ 1000000) :
    Calls Try.prog 26 #[.slice A n cap, .agg #[.int .i64 a, .int .i64 b, .int .i64 c]] w fun e w' => e = .returned (mom3 z a b c n) ∧ Below w.heap.size w w' := by
  have HD := hide hD
  have HF := hide hF
  have HI3 := hide (fun k hk => momTo_in (fun k hk => (hF k hk).c0) hb hc k hk)
  have HI4 := hide (fun k hk => momTo_in (fun k hk => (hF k hk).c1) hc ha k hk)
  have HI5 := hide (fun k hk => momTo_in (fun k hk => (hF k hk).c2) ha hb k hk)
  obtain ⟨bb, hbb⟩ : ∃ x, x = b := ⟨_, rfl⟩
  rw [← hbb] at HI3 HI5 hb ⊢
  clear hD hF hbb
  have L0 := hide (Lv.start w)
  have h0 := ((L0.out.put [.int .i64 a, .int .i64 bb, .int .i64 c] 23).put [.int .i64 0, .int .i64 0, .int .i64 0] 23).put [.int .i64 0, .int .i64 0, .int .i64 0] 23
  simp only [World.size_alloc, Nat.add_assoc, Nat.reduceAdd] at h0
  have H0 := hide h0
  clear h0
  go_enter Try.func26, Try.ntmps26
  go_wp2
  go_loopw [6] (fun i wr => ∃ k : Nat, k ≤ n ∧ i = .int .i64 k ∧ Hid (Lv w wr [(w.heap.size + 2, 23, [.int .i64 (momTo z 1 2 4 5 bb c k), .int .i64 (momTo z 2 0 5 3 c a k), .int .i64 (momTo z 0 1 3 4 a bb k)]), (w.heap.size + 1, 23, [.int .i64 0, .int .i64 0, .int .i64 0]), (w.heap.size, 23, [.int .i64 a, .int .i64 bb, .int .i64 c])])) (fun i _ => n - (intOf i).toNat)
  case atStart => exact ⟨0, by omega, rfl, H0.out⟩
  case round =>
    obtain ⟨k, hk, rfl, L1⟩ := hrel
    clear L0 H0
    have F1 := L1.out.at; simp only [AllAt, CellsAt, updL, List.map, Nat.zero_add, Nat.reduceAdd, and_true, World.size_alloc, World.heap_drewN, heap_drew, size_set, Nat.add_eq_left, Nat.left_eq_add, Nat.add_right_cancel_iff, ne_up2, ne_dn2, ne_up3, ne_dn3, ne_up4, ne_dn4, Nat.reduceEqDiff, Nat.one_ne_zero, Nat.succ_ne_zero, Nat.zero_ne_one, reduceIte, List.set_cons_zero, List.set_cons_succ] at F1
    by_cases hlt : k < n
    · obtain ⟨b, off, rfl, hb, hc⟩ := HD.out (by omega)
      obtain ⟨x0, e0⟩ : ∃ x, x = z k 0 := ⟨_, rfl⟩
      obtain ⟨x1, e1⟩ : ∃ x, x = z k 1 := ⟨_, rfl⟩
      obtain ⟨x2, e2⟩ : ∃ x, x = z k 2 := ⟨_, rfl⟩
      obtain ⟨x3, e3⟩ : ∃ x, x = z k 3 := ⟨_, rfl⟩
      obtain ⟨x4, e4⟩ : ∃ x, x = z k 4 := ⟨_, rfl⟩
      obtain ⟨x5, e5⟩ : ∃ x, x = z k 5 := ⟨_, rfl⟩
      have HQ : Hid (w.cell? ⟨b, off + k * 6, none⟩ = some (.int .i64 x0) ∧ w.cell? ⟨b, off + k * 6 + 1, none⟩ = some (.int .i64 x1) ∧ w.cell? ⟨b, off + k * 6 + 2, none⟩ = some (.int .i64 x2) ∧ w.cell? ⟨b, off + k * 6 + 3, none⟩ = some (.int .i64 x3) ∧ w.cell? ⟨b, off + k * 6 + 4, none⟩ = some (.int .i64 x4) ∧ w.cell? ⟨b, off + k * 6 + 5, none⟩ = some (.int .i64 x5)) := hide ⟨by rw [e0]; exact hc k hlt 0 (by omega), by rw [e1]; exact hc k hlt 1 (by omega), by rw [e2]; exact hc k hlt 2 (by omega), by rw [e3]; exact hc k hlt 3 (by omega), by rw [e4]; exact hc k hlt 4 (by omega), by rw [e5]; exact hc k hlt 5 (by omega)⟩
      clear hc
      have hlt' : (k : Int) < (n : Int) := by omega
      have hk0 : (0 : Int) ≤ (k : Int) := by omega
      have hsz := L1.out.size
      have hbr : b < wr.heap.size := by omega
      have q0 := (L1.out.below.cell (by exact hb)).trans HQ.out.1
      have q1 := (L1.out.below.cell (by exact hb)).trans HQ.out.2.1
      have q2 := (L1.out.below.cell (by exact hb)).trans HQ.out.2.2.1
      have q3 := (L1.out.below.cell (by exact hb)).trans HQ.out.2.2.2.1
      have q4 := (L1.out.below.cell (by exact hb)).trans HQ.out.2.2.2.2.1
      have q5 := (L1.out.below.cell (by exact hb)).trans HQ.out.2.2.2.2.2
      obtain ⟨i0, i1, i2, i3, i4, i5⟩ := HF.out k hlt
      rw [← e0] at i0
      rw [← e1] at i1
      rw [← e2] at i2
      rw [← e3] at i3
      rw [← e4] at i4
      rw [← e5] at i5
      have s3 := HI3.out k hk
      have s4 := HI4.out k hk
      have s5 := HI5.out k hk
      obtain ⟨u, hu⟩ : ∃ x, x = x0 - a := ⟨_, rfl⟩
      obtain ⟨v, hv⟩ : ∃ x, x = x1 - bb := ⟨_, rfl⟩
      obtain ⟨t, ht⟩ : ∃ x, x = x2 - c := ⟨_, rfl⟩
      have HS3 : Hid (momTo z 1 2 4 5 bb c (k + 1) = momTo z 1 2 4 5 bb c k + cr v t x4 x5) := hide (by rw [momTo, hv, ht, e1, e2, e4, e5])
      have HS4 : Hid (momTo z 2 0 5 3 c a (k + 1) = momTo z 2 0 5 3 c a k + cr t u x5 x3) := hide (by rw [momTo, hu, ht, e0, e2, e3, e5])
      have HS5 : Hid (momTo z 0 1 3 4 a bb (k + 1) = momTo z 0 1 3 4 a bb k + cr u v x3 x4) := hide (by rw [momTo, hu, hv, e0, e1, e3, e4])
      clear e0 e1 e2 e3 e4 e5
      have bu : -2000000 ≤ u ∧ u ≤ 2000000 := by omega
      have bv : -2000000 ≤ v ∧ v ≤ 2000000 := by omega
      have bt : -2000000 ≤ t ∧ t ≤ 2000000 := by omega
      have HU : Hid (IntKind.i64.wrap (x0 - a) = u) := hide (by rw [IntKind.wrap_i64]; omega)
      have HV : Hid (IntKind.i64.wrap (x1 - bb) = v) := hide (by rw [IntKind.wrap_i64]; omega)
      have HW : Hid (IntKind.i64.wrap (x2 - c) = t) := hide (by rw [IntKind.wrap_i64]; omega)
      clear hu hv ht
      have CC := fun W => refCross_any u v t x3 x4 x5 W bu bv bt i3 i4 i5
      have c0 := (cr_in bv bt i4 i5).2.2
      have c1 := (cr_in bt bu i5 i3).2.2
      have c2 := (cr_in bu bv i3 i4).2.2
      obtain ⟨p0, hp0⟩ : ∃ x, x = cr v t x4 x5 := ⟨_, rfl⟩
      obtain ⟨p1, hp1⟩ : ∃ x, x = cr t u x5 x3 := ⟨_, rfl⟩
      obtain ⟨p2, hp2⟩ : ∃ x, x = cr u v x3 x4 := ⟨_, rfl⟩
      rw [← hp0, ← hp1, ← hp2] at CC
      rw [← hp0] at c0 HS3
      rw [← hp1] at c1 HS4
      rw [← hp2] at c2 HS5
      replace CC := hide CC
      clear hp0 hp1 hp2
      obtain ⟨m0, hm0⟩ : ∃ x, x = momTo z 1 2 4 5 bb c k := ⟨_, rfl⟩
      obtain ⟨m1, hm1⟩ : ∃ x, x = momTo z 2 0 5 3 c a k := ⟨_, rfl⟩
      obtain ⟨m2, hm2⟩ : ∃ x, x = momTo z 0 1 3 4 a bb k := ⟨_, rfl⟩
      rw [← hm0] at s3 HS3
      rw [← hm1] at s4 HS4
      rw [← hm2] at s5 HS5
      rw [← hm0, ← hm1, ← hm2] at L1 F1
      clear hm0 hm1 hm2
      have CP := hide (fun W => refPlus_any m0 m1 m2 p0 p1 p2 (m0 + p0) (m1 + p1) (m2 + p2) W (by rw [IntKind.wrap_i64]; omega) (by rw [IntKind.wrap_i64]; omega) (by rw [IntKind.wrap_i64]; omega))
      have CM := hide (fun W => refMinus_any x0 x1 x2 a bb c u v t W HU.out HV.out HW.out)
      clear bu bv bt c0 c1 c2 s3 s4 s5 i0 i1 i2 i3 i4 i5
      have hgr : w.heap.size ≤ w.heap.size + 2 := by omega
      have nb : (¬ b = w.heap.size + 2 ∧ ¬ w.heap.size + 2 = b) ∧ (¬ w.heap.size + 2 = w.heap.size ∧ ¬ w.heap.size = w.heap.size + 2) := by omega
      go_wp2
      refine AnyX.start 15 (fun w' => w'.cell? ⟨w.heap.size + 2, 0, none⟩ = some (.int .i64 m0) ∧ w'.cell? ⟨w.heap.size + 2, 1, none⟩ = some (.int .i64 m1) ∧ w'.cell? ⟨w.heap.size + 2, 2, none⟩ = some (.int .i64 m2) ∧ w'.cell? ⟨b, off + k * 6, none⟩ = some (.int .i64 x0) ∧ w'.cell? ⟨b, off + k * 6 + 1, none⟩ = some (.int .i64 x1) ∧ w'.cell? ⟨b, off + k * 6 + 2, none⟩ = some (.int .i64 x2) ∧ w'.cell? ⟨b, off + k * 6 + 3, none⟩ = some (.int .i64 x3) ∧ w'.cell? ⟨b, off + k * 6 + 4, none⟩ = some (.int .i64 x4) ∧ w'.cell? ⟨b, off + k * 6 + 5, none⟩ = some (.int .i64 x5) ∧ w'.cell? ⟨w.heap.size, 0, none⟩ = some (.int .i64 a) ∧ w'.cell? ⟨w.heap.size, 1, none⟩ = some (.int .i64 bb) ∧ w'.cell? ⟨w.heap.size, 2, none⟩ = some (.int .i64 c)) (by kernel_rfl) ?_ (fun hHeld => ?_)
      · (try dsimp only); go_keep
      refine' AnyX.takeL (i := 0) (oi := _) (v := _) rfl (by kernel_rfl) (by kernel_rfl) (by kernel_rfl) (by kernel_rfl) (fun _ _ _ h => h) (Or.inl ⟨by rfl, ?hy1⟩) (by assumption) ?rest1
      case hy1 => (intro w' hSw; (try dsimp only at hSw); go_simp; (first | done | with_reducible rfl))
      try simp only [Act.put, List.setIfInBounds_toArray, List.set_cons_zero, List.set_cons_succ]
      refine' AnyX.takeL (i := 1) (oi := _) (v := _) rfl (by kernel_rfl) (by kernel_rfl) (by kernel_rfl) (by kernel_rfl) (fun _ _ _ h => h) (Or.inl ⟨by rfl, ?hy2⟩) (by assumption) ?rest2
      case hy2 => (intro w' hSw; (try dsimp only at hSw); go_simp; (first | done | with_reducible rfl))
      try simp only [Act.put, List.setIfInBounds_toArray, List.set_cons_zero, List.set_cons_succ]
      refine' AnyX.takeL (i := 2) (oi := _) (v := _) rfl (by kernel_rfl) (by kernel_rfl) (by kernel_rfl) (by kernel_rfl) (fun _ _ _ h => h) (Or.inl ⟨by rfl, ?hy3⟩) (by assumption) ?rest3
      case hy3 => (intro w' hSw; (try dsimp only at hSw); go_simp; (first | done | with_reducible rfl))
      try simp only [Act.put, List.setIfInBounds_toArray, List.set_cons_zero, List.set_cons_succ]
      refine' AnyX.takeL (i := 3) (oi := _) (v := _) rfl (by kernel_rfl) (by kernel_rfl) (by kernel_rfl) (by kernel_rfl) (fun _ _ _ h => h) (Or.inl ⟨by rfl, ?hy4⟩) (by assumption) ?rest4
      case hy4 => (intro w' hSw; (try dsimp only at hSw); go_simp; (first | done | with_reducible rfl))
      try simp only [Act.put, List.setIfInBounds_toArray, List.set_cons_zero, List.set_cons_succ]
      refine' AnyX.takeL (i := 4) (oi := _) (v := _) rfl (by kernel_rfl) (by kernel_rfl) (by kernel_rfl) (by kernel_rfl) (fun _ _ _ h => h) (Or.inl ⟨by rfl, ?hy5⟩) (by assumption) ?rest5
      case hy5 => (intro w' hSw; (try dsimp only at hSw); go_simp; (first | done | with_reducible rfl))
      try simp only [Act.put, List.setIfInBounds_toArray, List.set_cons_zero, List.set_cons_succ]
      refine' AnyX.takeL (i := 5) (oi := _) (v := _) rfl (by kernel_rfl) (by kernel_rfl) (by kernel_rfl) (by kernel_rfl) (fun _ _ _ h => h) (Or.inl ⟨by rfl, ?hy6⟩) (by assumption) ?rest6
      case hy6 => (intro w' hSw; (try dsimp only at hSw); go_simp; (first | done | with_reducible rfl))
      try simp only [Act.put, List.setIfInBounds_toArray, List.set_cons_zero, List.set_cons_succ]
      refine' AnyX.takeL (i := 6) (oi := _) (v := _) rfl (by kernel_rfl) (by kernel_rfl) (by kernel_rfl) (by kernel_rfl) (fun _ _ _ h => h) (Or.inl ⟨by rfl, ?hy7⟩) (by assumption) ?rest7
      case hy7 => (intro w' hSw; (try dsimp only at hSw); go_simp; (first | done | with_reducible rfl))
      try simp only [Act.put, List.setIfInBounds_toArray, List.set_cons_zero, List.set_cons_succ]
      refine' AnyX.takeL (i := 8) (oi := _) (v := _) rfl (by kernel_rfl) (by kernel_rfl) (by kernel_rfl) (by kernel_rfl) (fun _ _ _ h => h) (Or.inl ⟨by rfl, ?hy8⟩) (by assumption) ?rest8
      case hy8 => (intro w' hSw; (try dsimp only at hSw); go_simp; (first | done | with_reducible rfl))
      try simp only [Act.put, List.setIfInBounds_toArray, List.set_cons_zero, List.set_cons_succ]
      refine' AnyX.takeL (i := 9) (oi := _) (v := _) rfl (by kernel_rfl) (by kernel_rfl) (by kernel_rfl) (by kernel_rfl) (fun _ _ _ h => h) (Or.inl ⟨by rfl, ?hy9⟩) (by assumption) ?rest9
      case hy9 => (intro w' hSw; (try dsimp only at hSw); go_simp; (first | done | with_reducible rfl))
      try simp only [Act.put, List.setIfInBounds_toArray, List.set_cons_zero, List.set_cons_succ]
      refine' AnyX.takeL (i := 10) (oi := _) (v := _) rfl (by kernel_rfl) (by kernel_rfl) (by kernel_rfl) (by kernel_rfl) (fun _ _ _ h => h) (Or.inl ⟨by rfl, ?hy10⟩) (by assumption) ?rest10
      case hy10 => (intro w' hSw; (try dsimp only at hSw); go_simp; (first | done | with_reducible rfl))
      try simp only [Act.put, List.setIfInBounds_toArray, List.set_cons_zero, List.set_cons_succ]
      refine' AnyX.takeL (i := 11) (oi := _) (v := _) rfl (by kernel_rfl) (by kernel_rfl) (by kernel_rfl) (by kernel_rfl) (fun _ _ _ h => h) (Or.inl ⟨by rfl, ?hy11⟩) (by assumption) ?rest11
      case hy11 => (intro w' hSw; (try dsimp only at hSw); go_simp; (first | done | with_reducible rfl))
      try simp only [Act.put, List.setIfInBounds_toArray, List.set_cons_zero, List.set_cons_succ]
      refine' AnyX.takeL (i := 12) (oi := _) (v := _) rfl (by kernel_rfl) (by kernel_rfl) (by kernel_rfl) (by kernel_rfl) (fun _ _ _ h => h) (Or.inl ⟨by rfl, ?hy12⟩) (by assumption) ?rest12
      case hy12 => (intro w' hSw; (try dsimp only at hSw); go_simp; (first | done | with_reducible rfl))
      try simp only [Act.put, List.setIfInBounds_toArray, List.set_cons_zero, List.set_cons_succ]
      refine AnyX.go (rs := [7]) (by kernel_rfl) (by simp) (AllX.consL (o := _) rfl (fun K hK => ?_) AllX.nil)
      go_simp
      go_at_call 28
      refine Lv.call (CM.out _) (L1.out.drew) ?_
      intro w2 L2'
      have L2 := hide L2'
      have F2 := L2'.at
      clear L2'
      simp only [AllAt, CellsAt, updL, List.map, Nat.zero_add, Nat.reduceAdd, and_true, World.size_alloc, World.heap_drewN, heap_drew, size_set, Nat.add_eq_left, Nat.left_eq_add, Nat.add_right_cancel_iff, ne_up2, ne_dn2, ne_up3, ne_dn3, ne_up4, ne_dn4, Nat.reduceEqDiff, Nat.one_ne_zero, Nat.succ_ne_zero, Nat.zero_ne_one, reduceIte, List.set_cons_zero, List.set_cons_succ] at F2
      have q0 := (L2.out.below.cell (by exact hb)).trans HQ.out.1; have q1 := (L2.out.below.cell (by exact hb)).trans HQ.out.2.1; have q2 := (L2.out.below.cell (by exact hb)).trans HQ.out.2.2.1; have q3 := (L2.out.below.cell (by exact hb)).trans HQ.out.2.2.2.1; have q4 := (L2.out.below.cell (by exact hb)).trans HQ.out.2.2.2.2.1; have q5 := (L2.out.below.cell (by exact hb)).trans HQ.out.2.2.2.2.2
      go_wp2_with fail
      refine hK.out _ _ ?_ (fun hHeld => ?_)
      · (try dsimp only); go_keep
      clear hK K
      try simp only [Act.put, List.setIfInBounds_toArray, List.set_cons_zero, List.set_cons_succ]
      refine AnyX.go (rs := [13]) (by kernel_rfl) (by simp) (AllX.consL (o := _) rfl (fun K hK => ?_) AllX.nil)
      go_simp
      go_at_call 33
      refine Lv.call (CC.out _) (L2.out) ?_
      intro w3 L3'
      have L3 := hide L3'
      have F3 := L3'.at
      clear L3'
      simp only [AllAt, CellsAt, updL, List.map, Nat.zero_add, Nat.reduceAdd, and_true, World.size_alloc, World.heap_drewN, heap_drew, size_set, Nat.add_eq_left, Nat.left_eq_add, Nat.add_right_cancel_iff, ne_up2, ne_dn2, ne_up3, ne_dn3, ne_up4, ne_dn4, Nat.reduceEqDiff, Nat.one_ne_zero, Nat.succ_ne_zero, Nat.zero_ne_one, reduceIte, List.set_cons_zero, List.set_cons_succ] at F3
      have q0 := (L3.out.below.cell (by exact hb)).trans HQ.out.1; have q1 := (L3.out.below.cell (by exact hb)).trans HQ.out.2.1; have q2 := (L3.out.below.cell (by exact hb)).trans HQ.out.2.2.1; have q3 := (L3.out.below.cell (by exact hb)).trans HQ.out.2.2.2.1; have q4 := (L3.out.below.cell (by exact hb)).trans HQ.out.2.2.2.2.1; have q5 := (L3.out.below.cell (by exact hb)).trans HQ.out.2.2.2.2.2
      go_wp2_with fail
      refine hK.out _ _ ?_ (fun hHeld => ?_)
      · (try dsimp only); go_keep
      clear hK K
      try simp only [Act.put, List.setIfInBounds_toArray, List.set_cons_zero, List.set_cons_succ]
      refine AnyX.go (rs := [14]) (by kernel_rfl) (by simp) (AllX.consL (o := _) rfl (fun K hK => ?_) AllX.nil)
      go_simp
      go_at_call 73
      refine Lv.call (CP.out _) (L3.out) ?_
      intro w4 L4'
      have L4 := hide L4'
      have F4 := L4'.at
      clear L4'
      simp only [AllAt, CellsAt, updL, List.map, Nat.zero_add, Nat.reduceAdd, and_true, World.size_alloc, World.heap_drewN, heap_drew, size_set, Nat.add_eq_left, Nat.left_eq_add, Nat.add_right_cancel_iff, ne_up2, ne_dn2, ne_up3, ne_dn3, ne_up4, ne_dn4, Nat.reduceEqDiff, Nat.one_ne_zero, Nat.succ_ne_zero, Nat.zero_ne_one, reduceIte, List.set_cons_zero, List.set_cons_succ] at F4
      have q0 := (L4.out.below.cell (by exact hb)).trans HQ.out.1; have q1 := (L4.out.below.cell (by exact hb)).trans HQ.out.2.1; have q2 := (L4.out.below.cell (by exact hb)).trans HQ.out.2.2.1; have q3 := (L4.out.below.cell (by exact hb)).trans HQ.out.2.2.2.1; have q4 := (L4.out.below.cell (by exact hb)).trans HQ.out.2.2.2.2.1; have q5 := (L4.out.below.cell (by exact hb)).trans HQ.out.2.2.2.2.2
      go_wp2_with fail
      refine hK.out _ _ ?_ (fun hHeld => ?_)
      · (try dsimp only); go_keep
      clear hK K
      try simp only [Act.put, List.setIfInBounds_toArray, List.set_cons_zero, List.set_cons_succ]
      refine AnyX.go (rs := [15]) (by kernel_rfl) (by simp) (AllX.lastlyL (o := _) rfl (fun K hK => ?_))
      go_simp
      refine hK.out _ _ ?_
      clear hK K
      try simp only [Act.put, List.setIfInBounds_toArray, List.set_cons_zero, List.set_cons_succ]
      refine AnyX.done (by kernel_rfl) ?_ _
      have h := ((L4.out.set (w.heap.size + 2) 0 (.int .i64 (m0 + p0)) hgr).set (w.heap.size + 2) 1 (.int .i64 (m1 + p1)) hgr).set (w.heap.size + 2) 2 (.int .i64 (m2 + p2)) hgr
      simp only [updL, List.map, World.size_alloc, Nat.add_eq_left, Nat.left_eq_add, Nat.add_right_cancel_iff, ne_up2, ne_dn2, Nat.reduceEqDiff, Nat.one_ne_zero, Nat.succ_ne_zero, Nat.zero_ne_one, reduceIte, List.set_cons_zero, List.set_cons_succ] at h
      have L8 := hide h
      clear h
      go_wp2
      go_roundw
      case rel => exact ⟨k + 1, by omega, by go_num, by rw [HS3.out, HS4.out, HS5.out]; exact L8⟩
      case measure => simp [intOf]; omega
    · obtain rfl : n = k := by omega
      go_wp2
      refine bodyPost_ret (v := mom3 z a bb c n) (by simp [results, Try.results26, go_sem, F1, mom3]) rfl ⟨rfl, ?_⟩
      repeat (first | (with_reducible exact L1.out.below) | refine Below.setCell ?_ (by first | omega | (simp; done) | (simp; omega)) _ | refine Below.alloc ?_ (by first | omega | (simp; done) | (simp; omega)) _ | refine below_drewN ?_ _ | refine Below.drew ?_)
end Go.Proofs.Ytjfcjclhbnmgcaa
