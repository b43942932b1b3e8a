/- Contracts of agrafferef03.Move and agraffelaw03.same. Every bound is a premise of the theorem that bears it. -/
import Derived.Test.YtjfcjclhbnmgcaaPlMove
import Derived.Test.YtjfcjclhbnmgcaaPlFoR
import Derived.Test.YtjfcjclhbnmgcaaPlEqP
import Derived.Test.YtjfcjclhbnmgcaaPlFo4
import Derived.Deep.AppendLies
namespace Go.Proofs.Ytjfcjclhbnmgcaa
open Go.RowKit
set_option linter.unusedVariables false
set_option linter.unusedSimpArgs false

theorem slab_snoc6 {M : Nat → Nat → Int} {k : Nat} {u0 u1 u2 u3 u4 u5 : Int} (h0 : M k 0 = u0) (h1 : M k 1 = u1) (h2 : M k 2 = u2) (h3 : M k 3 = u3) (h4 : M k 4 = u4) (h5 : M k 5 = u5) :
    slab (k * 6) (flatF 6 M) ++ [.int .i64 u0, .int .i64 u1, .int .i64 u2, .int .i64 u3, .int .i64 u4, .int .i64 u5] = slab ((k + 1) * 6) (flatF 6 M) := by
  apply List.ext_getElem?
  intro q
  have hl := slab_len (k * 6) (flatF 6 M)
  rcases Nat.lt_or_ge q (k * 6) with h | h
  · rw [List.getElem?_append_left (by omega), slab_get h, slab_get (by omega)]
  · rw [List.getElem?_append_right (by omega), hl]
    rcases Nat.lt_or_ge q ((k + 1) * 6) with h2' | h2'
    · rw [slab_get h2']
      unfold flatF
      have h3' : q / 6 = k := by omega
      rw [h3']
      obtain ⟨d, hd, hd2⟩ : ∃ d, q - k * 6 = d ∧ q % 6 = d := ⟨q - k * 6, rfl, by omega⟩
      rw [hd, hd2]
      have : d < 6 := by omega
      match d, this with
      | 0, _ => rw [h0]; rfl
      | 1, _ => rw [h1]; rfl
      | 2, _ => rw [h2]; rfl
      | 3, _ => rw [h3]; rfl
      | 4, _ => rw [h4]; rfl
      | 5, _ => rw [h5]; rfl
    · rw [List.getElem?_eq_none (by simp; omega), List.getElem?_eq_none (by rw [slab_len]; omega)]
theorem own_below' {w w' : World} {base n size : Nat} {e : TypeId} {v : Value} {xs : List Value} (h : w.ownsRow base e size v n xs) (hb : Below w.heap.size w w') : w'.ownsRow base e size v n xs := by
  refine ⟨h.1, ?_⟩
  rcases h.2 with h2 | ⟨g, cap, cur, h1, h2, h3, h4⟩
  · exact Or.inl h2
  · have hlt := (World.ownsRow.lt h g (by rw [h1]; rfl)).2
    exact Or.inr ⟨g, cap, cur, h1, h2, (hb.block g hlt).trans h3, h4⟩
theorem own_rowA {w : World} {base n m : Nat} {t : TypeId} {v : Value} {z : Nat → Nat → Int} (h : w.ownsRow base t m v n (slab (n * m) (flatF m z))) : ∃ A cap, v = .slice A n cap ∧ RowM m w w.heap.size A n z := by
  have h' := h
  rcases h.2 with ⟨hv, hn⟩ | ⟨g, cap, cur, hv, _⟩
  · subst hn; exact ⟨none, 0, hv, fun h0 => by omega⟩
  · subst hv; exact ⟨some ⟨g, 0, none⟩, cap, rfl, own_row h'⟩
/-- A place that is moved too far is no place. -/
theorem far_wrap {x a : Int} (hx : -1000000 ≤ x ∧ x ≤ 1000000) (ha : -9223372036854775808 ≤ a ∧ a ≤ 9223372036854775807) (h : ¬ (-2000000 ≤ a ∧ a ≤ 2000000)) : inB (IntKind.i64.wrap (x + a)) 1000000 = false := by
  unfold inB
  rw [IntKind.wrap_i64]
  exact decide_eq_false (by omega)
/-- What the reference returns. -/
def MoveRef (w : World) (n : Nat) (E : Int) (M : Nat → Nat → Int) (e : Ending) (w' : World) : Prop := Below w.heap.size w w' ∧
  ((E = 0 ∧ ∃ A cap, e = .returned (.tuple #[.slice A n cap, .int .i64 0]) ∧ RowM 6 w' w'.heap.size A n M) ∨ (E = 2 ∧ e = .returned (.tuple #[.slice none 0 0, .int .i64 2])))
theorem mv_far {z : Nat → Nat → Int} {a b c : Int} (hF : FrcIn z 0) (ha : -9223372036854775808 ≤ a ∧ a ≤ 9223372036854775807) (hb : -9223372036854775808 ≤ b ∧ b ≤ 9223372036854775807) (hc : -9223372036854775808 ≤ c ∧ c ≤ 9223372036854775807) (h : ¬ (-2000000 ≤ a ∧ a ≤ 2000000) ∨ ¬ (-2000000 ≤ b ∧ b ≤ 2000000) ∨ ¬ (-2000000 ≤ c ∧ c ≤ 2000000)) {n : Nat} (hn : 0 < n) : mvTo z a b c n = 2 := by
  refine mv_bad (k := 0) rfl ?_ n hn
  unfold mvE plE inV mvd
  simp only
  refine if_neg ?_
  rcases h with h | h | h
  · rw [far_wrap hF.p0 ha h]; simp
  · rw [far_wrap hF.p1 hb h]; simp
  · rw [far_wrap hF.p2 hc h]; simp
set_option maxHeartbeats 4000000 in
set_option maxRecDepth 100000 in
theorem refMove_in (A : Option Addr) (n cap : Nat) (z : Nat → Nat → Int) (a b c : Int) (w : World) (hD : RowM 6 w w.heap.size A n z) (hn : n ≤ 305) (hF : ∀ k, k < n → FrcIn z k) (ha : -2000000 ≤ a ∧ a ≤ 2000000) (hb : -2000000 ≤ b ∧ b ≤ 2000000) (hc : -2000000 ≤ c ∧ c ≤ 2000000) :
    Calls Try.prog 30 #[.slice A n cap, .agg #[.int .i64 a, .int .i64 b, .int .i64 c]] w (MoveRef w n (mvTo z a b c n) (mvd z a b c)) := by
  obtain ⟨i0, hi, hz0, hz1, hz2⟩ := info_parts info_pulled
  have HD := hide hD
  have HF := hide hF
  have J0 := hide (inR_yes (n := a) (lo := -2000000) (hi := 2000000) ha)
  have J1 := hide (inR_yes (n := b) (lo := -2000000) (hi := 2000000) hb)
  have J2 := hide (inR_yes (n := c) (lo := -2000000) (hi := 2000000) hc)
  obtain ⟨M, hM⟩ : ∃ M, M = mvd z a b c := ⟨_, rfl⟩
  have HM := hide (fun i => show M i 0 = IntKind.i64.wrap (z i 0 + a) ∧ M i 1 = IntKind.i64.wrap (z i 1 + b) ∧ M i 2 = IntKind.i64.wrap (z i 2 + c) ∧ M i 3 = z i 3 ∧ M i 4 = z i 4 ∧ M i 5 = z i 5 by rw [hM]; exact ⟨rfl, rfl, rfl, rfl, rfl, rfl⟩)
  have HME := hide (fun i => show mvE z a b c i = plE (M i 0) (M i 1) (M i 2) by rw [hM]; rfl)
  rw [← hM]
  obtain ⟨bb, hbb⟩ : ∃ x, x = b := ⟨_, rfl⟩
  rw [← hbb] at HM HME J1 hb ⊢
  clear hD hF hM hbb
  have L0 := hide (Lv.start w)
  go_enter Try.func30, Try.ntmps30
  go_wp2
  go_loopw [6, 7, 8, 9] (fun s6 i _ _ wr => ∃ k : Nat, k ≤ n ∧ i = .int .i64 k ∧ Hid (mvTo z a bb c k = 0) ∧ Hid (wr.ownsRow (w.heap.size + 1) 40 6 s6 k (slab (k * 6) (flatF 6 M))) ∧ Hid (Lv w wr [(w.heap.size, 23, [.int .i64 a, .int .i64 bb, .int .i64 c])])) (fun _ i _ _ _ => n - (intOf i).toNat)
  case atStart => exact ⟨0, by omega, rfl, rfl, World.ownsRow_nil _ _ _ _, L0.out.put _ _⟩
  case round =>
    obtain ⟨k, hk, rfl, HK, HO, L1⟩ := hrel
    clear L0
    have F1 := L1.out.at; simp only [AllAt, CellsAt, updL, List.map, Nat.zero_add, Nat.reduceAdd, and_true, World.size_alloc, World.heap_drewN, heap_drew, size_set, Nat.add_eq_left, Nat.left_eq_add, Nat.add_right_cancel_iff, ne_up2, ne_dn2, ne_up3, ne_dn3, ne_up4, ne_dn4, Nat.reduceEqDiff, Nat.one_ne_zero, Nat.succ_ne_zero, Nat.zero_ne_one, reduceIte, List.set_cons_zero, List.set_cons_succ] at F1
    by_cases hlt : k < n
    · obtain ⟨b, off, rfl, hb, hcc⟩ := HD.out (by omega)
      have hsz := L1.out.size
      have hbr : b < wr.heap.size := by omega
      obtain ⟨M0, M1, M2, M3, M4, M5⟩ := HM.out k
      have HSN := hide (fun u0 u1 u2 u3 u4 u5 h0 h1 h2 h3 h4 h5 => slab_snoc6 (M := M) (k := k) (u0 := u0) (u1 := u1) (u2 := u2) (u3 := u3) (u4 := u4) (u5 := u5) h0 h1 h2 h3 h4 h5)
      have HEk := HME.out k
      have HTO : Hid (mvTo z a bb c (k + 1) = mvE z a bb c k) := hide (by rw [mvTo, if_pos HK.out])
      have HBAD : Hid (mvE z a bb c k = 2 → mvTo z a bb c n = 2) := hide (fun h => mv_bad HK.out h n hlt)
      rw [HEk] at HTO HBAD
      clear HEk
      obtain ⟨x0, e0⟩ : ∃ x, x = z k 0 := ⟨_, rfl⟩
      obtain ⟨x1, e1⟩ : ∃ x, x = z k 1 := ⟨_, rfl⟩
      obtain ⟨x2, e2⟩ : ∃ x, x = z k 2 := ⟨_, rfl⟩
      obtain ⟨x3, e3⟩ : ∃ x, x = z k 3 := ⟨_, rfl⟩
      obtain ⟨x4, e4⟩ : ∃ x, x = z k 4 := ⟨_, rfl⟩
      obtain ⟨x5, e5⟩ : ∃ x, x = z k 5 := ⟨_, rfl⟩
      have HQ : Hid (w.cell? ⟨b, off + k * 6, none⟩ = some (.int .i64 x0) ∧ w.cell? ⟨b, off + k * 6 + 1, none⟩ = some (.int .i64 x1) ∧ w.cell? ⟨b, off + k * 6 + 2, none⟩ = some (.int .i64 x2) ∧ w.cell? ⟨b, off + k * 6 + 3, none⟩ = some (.int .i64 x3) ∧ w.cell? ⟨b, off + k * 6 + 4, none⟩ = some (.int .i64 x4) ∧ w.cell? ⟨b, off + k * 6 + 5, none⟩ = some (.int .i64 x5)) := hide ⟨by rw [e0]; exact hcc k hlt 0 (by omega), by rw [e1]; exact hcc k hlt 1 (by omega), by rw [e2]; exact hcc k hlt 2 (by omega), by rw [e3]; exact hcc k hlt 3 (by omega), by rw [e4]; exact hcc k hlt 4 (by omega), by rw [e5]; exact hcc k hlt 5 (by omega)⟩
      clear hcc
      rw [← e0] at M0
      rw [← e1] at M1
      rw [← e2] at M2
      rw [← e3] at M3
      rw [← e4] at M4
      rw [← e5] at M5
      obtain ⟨u, hu⟩ : ∃ x, x = M k 0 := ⟨_, rfl⟩
      obtain ⟨v, hv⟩ : ∃ x, x = M k 1 := ⟨_, rfl⟩
      obtain ⟨t, ht⟩ : ∃ x, x = M k 2 := ⟨_, rfl⟩
      rw [← hu] at HTO HBAD M0
      rw [← hv] at HTO HBAD M1
      rw [← ht] at HTO HBAD M2
      have HSN2 := hide (HSN.out u v t x3 x4 x5 hu.symm hv.symm ht.symm M3 M4 M5)
      have CP := hide (fun W => refPlus_any x0 x1 x2 a bb c u v t W M0.symm M1.symm M2.symm)
      clear hu hv ht M0 M1 M2 M3 M4 M5 e0 e1 e2 e3 e4 e5 HSN
      have hlt' : (k : Int) < (n : Int) := by omega
      have hk0 : (0 : Int) ≤ (k : Int) := by omega
      go_wp2
      refine wp_loop_rounds 4 ?_
      rw [rounds_succ]
      go_wp2_with fail
      refine Lv.same (within3_any a (-2000000) 2000000 _) ?_
      rw [J0.out]
      go_wp2
      rw [rounds_succ]
      go_wp2_with fail
      refine Lv.same (within3_any bb (-2000000) 2000000 _) ?_
      rw [J1.out]
      go_wp2
      rw [rounds_succ]
      go_wp2_with fail
      refine Lv.same (within3_any c (-2000000) 2000000 _) ?_
      rw [J2.out]
      go_wp2
      rw [rounds_succ]
      go_upto_region 10 with fail
      have q0 := (L1.out.below.cell (by exact hb)).trans HQ.out.1
      have q1 := (L1.out.below.cell (by exact hb)).trans HQ.out.2.1
      have q2 := (L1.out.below.cell (by exact hb)).trans HQ.out.2.2.1
      have q3 := (L1.out.below.cell (by exact hb)).trans HQ.out.2.2.2.1
      have q4 := (L1.out.below.cell (by exact hb)).trans HQ.out.2.2.2.2.1
      have q5 := (L1.out.below.cell (by exact hb)).trans HQ.out.2.2.2.2.2
      have n1 : (¬ wr.heap.size = w.heap.size ∧ ¬ w.heap.size = wr.heap.size) ∧ (¬ b = wr.heap.size ∧ ¬ wr.heap.size = b) := by omega
      go_cut [9] (fun s9 wx => ∃ g : Nat, s9 = .pointer (some ⟨g, 0, none⟩) ∧ Hid (Blk wx g 40 #[.int .i64 u, .int .i64 v, .int .i64 t, .int .i64 x3, .int .i64 x4, .int .i64 x5]) ∧ Hid (Below wr.heap.size wr wx))
      case first =>
        have LW := hide (Lv.start wr)
        refine wp_region_noPanic ?_
        refine AnyX.start 99 (fun w' => w'.cell? ⟨b, off + k * 6, none⟩ = some (.int .i64 x0) ∧ w'.cell? ⟨b, off + k * 6 + 1, none⟩ = some (.int .i64 x1) ∧ w'.cell? ⟨b, off + k * 6 + 2, none⟩ = some (.int .i64 x2) ∧ w'.cell? ⟨b, off + k * 6 + 3, none⟩ = some (.int .i64 x3) ∧ w'.cell? ⟨b, off + k * 6 + 4, none⟩ = some (.int .i64 x4) ∧ w'.cell? ⟨b, off + k * 6 + 5, none⟩ = some (.int .i64 x5) ∧ w'.cell? ⟨w.heap.size, 0, none⟩ = some (.int .i64 a) ∧ w'.cell? ⟨w.heap.size, 1, none⟩ = some (.int .i64 bb) ∧ w'.cell? ⟨w.heap.size, 2, none⟩ = some (.int .i64 c)) (by kernel_rfl) ?_ (fun hHeld => ?_)
        · (try dsimp only); go_keep
        refine' AnyX.takeL (i := 0) (oi := _) (v := _) rfl (by kernel_rfl) (by kernel_rfl) (by kernel_rfl) (by kernel_rfl) (fun _ _ _ h => h) (Or.inl ⟨by rfl, ?hy1⟩) (by assumption) ?rest1
        case hy1 => (intro w' hSw; (try dsimp only at hSw); go_simp; (first | done | with_reducible rfl))
        try simp only [Act.put, List.setIfInBounds_toArray, List.set_cons_zero, List.set_cons_succ]
        refine' AnyX.takeL (i := 1) (oi := _) (v := _) rfl (by kernel_rfl) (by kernel_rfl) (by kernel_rfl) (by kernel_rfl) (fun _ _ _ h => h) (Or.inl ⟨by rfl, ?hy2⟩) (by assumption) ?rest2
        case hy2 => (intro w' hSw; (try dsimp only at hSw); go_simp; (first | done | with_reducible rfl))
        try simp only [Act.put, List.setIfInBounds_toArray, List.set_cons_zero, List.set_cons_succ]
        refine' AnyX.takeL (i := 2) (oi := _) (v := _) rfl (by kernel_rfl) (by kernel_rfl) (by kernel_rfl) (by kernel_rfl) (fun _ _ _ h => h) (Or.inl ⟨by rfl, ?hy3⟩) (by assumption) ?rest3
        case hy3 => (intro w' hSw; (try dsimp only at hSw); go_simp; (first | done | with_reducible rfl))
        try simp only [Act.put, List.setIfInBounds_toArray, List.set_cons_zero, List.set_cons_succ]
        refine' AnyX.takeL (i := 3) (oi := _) (v := _) rfl (by kernel_rfl) (by kernel_rfl) (by kernel_rfl) (by kernel_rfl) (fun _ _ _ h => h) (Or.inl ⟨by rfl, ?hy4⟩) (by assumption) ?rest4
        case hy4 => (intro w' hSw; (try dsimp only at hSw); go_simp; (first | done | with_reducible rfl))
        try simp only [Act.put, List.setIfInBounds_toArray, List.set_cons_zero, List.set_cons_succ]
        refine' AnyX.takeL (i := 4) (oi := _) (v := _) rfl (by kernel_rfl) (by kernel_rfl) (by kernel_rfl) (by kernel_rfl) (fun _ _ _ h => h) (Or.inl ⟨by rfl, ?hy5⟩) (by assumption) ?rest5
        case hy5 => (intro w' hSw; (try dsimp only at hSw); go_simp; (first | done | with_reducible rfl))
        try simp only [Act.put, List.setIfInBounds_toArray, List.set_cons_zero, List.set_cons_succ]
        refine' AnyX.takeL (i := 5) (oi := _) (v := _) rfl (by kernel_rfl) (by kernel_rfl) (by kernel_rfl) (by kernel_rfl) (fun _ _ _ h => h) (Or.inl ⟨by rfl, ?hy6⟩) (by assumption) ?rest6
        case hy6 => (intro w' hSw; (try dsimp only at hSw); go_simp; (first | done | with_reducible rfl))
        try simp only [Act.put, List.setIfInBounds_toArray, List.set_cons_zero, List.set_cons_succ]
        refine' AnyX.takeL (i := 7) (oi := _) (v := _) rfl (by kernel_rfl) (by kernel_rfl) (by kernel_rfl) (by kernel_rfl) (fun _ _ _ h => h) (Or.inl ⟨by rfl, ?hy7⟩) (by assumption) ?rest7
        case hy7 => (intro w' hSw; (try dsimp only at hSw); go_simp; (first | done | with_reducible rfl))
        try simp only [Act.put, List.setIfInBounds_toArray, List.set_cons_zero, List.set_cons_succ]
        refine' AnyX.takeL (i := 8) (oi := _) (v := _) rfl (by kernel_rfl) (by kernel_rfl) (by kernel_rfl) (by kernel_rfl) (fun _ _ _ h => h) (Or.inl ⟨by rfl, ?hy8⟩) (by assumption) ?rest8
        case hy8 => (intro w' hSw; (try dsimp only at hSw); go_simp; (first | done | with_reducible rfl))
        try simp only [Act.put, List.setIfInBounds_toArray, List.set_cons_zero, List.set_cons_succ]
        refine' AnyX.takeL (i := 9) (oi := _) (v := _) rfl (by kernel_rfl) (by kernel_rfl) (by kernel_rfl) (by kernel_rfl) (fun _ _ _ h => h) (Or.inl ⟨by rfl, ?hy9⟩) (by assumption) ?rest9
        case hy9 => (intro w' hSw; (try dsimp only at hSw); go_simp; (first | done | with_reducible rfl))
        try simp only [Act.put, List.setIfInBounds_toArray, List.set_cons_zero, List.set_cons_succ]
        refine' AnyX.takeL (i := 10) (oi := _) (v := _) rfl (by kernel_rfl) (by kernel_rfl) (by kernel_rfl) (by kernel_rfl) (fun _ _ _ h => h) (Or.inl ⟨by rfl, ?hy10⟩) (by assumption) ?rest10
        case hy10 => (intro w' hSw; (try dsimp only at hSw); go_simp; (first | done | with_reducible rfl))
        try simp only [Act.put, List.setIfInBounds_toArray, List.set_cons_zero, List.set_cons_succ]
        refine' AnyX.takeL (i := 11) (oi := _) (v := _) rfl (by kernel_rfl) (by kernel_rfl) (by kernel_rfl) (by kernel_rfl) (fun _ _ _ h => h) (Or.inl ⟨by rfl, ?hy11⟩) (by assumption) ?rest11
        case hy11 => (intro w' hSw; (try dsimp only at hSw); go_simp; (first | done | with_reducible rfl))
        try simp only [Act.put, List.setIfInBounds_toArray, List.set_cons_zero, List.set_cons_succ]
        refine AnyX.go (rs := [6, 13]) (by kernel_rfl) (by simp) ?_
        refine AllX.consL (o := _) rfl (fun K hK => ?_) ?_
        · go_simp
          go_at_call 73
          refine (CP.out _).mono ?_
          rintro e w2 ⟨rfl, hb2⟩
          have L2 := hide (L1.out.drew.kept hb2)
          have LW2 := hide (LW.out.drew.kept hb2)
          clear hb2
          have F2 := L2.out.at; simp only [AllAt, CellsAt, updL, List.map, Nat.zero_add, Nat.reduceAdd, and_true, World.size_alloc, World.heap_drewN, heap_drew, size_set, Nat.add_eq_left, Nat.left_eq_add, Nat.add_right_cancel_iff, ne_up2, ne_dn2, ne_up3, ne_dn3, ne_up4, ne_dn4, Nat.reduceEqDiff, Nat.one_ne_zero, Nat.succ_ne_zero, Nat.zero_ne_one, reduceIte, List.set_cons_zero, List.set_cons_succ] at F2
          have q0 := (L2.out.below.cell (by exact hb)).trans HQ.out.1
          have q1 := (L2.out.below.cell (by exact hb)).trans HQ.out.2.1
          have q2 := (L2.out.below.cell (by exact hb)).trans HQ.out.2.2.1
          have q3 := (L2.out.below.cell (by exact hb)).trans HQ.out.2.2.2.1
          have q4 := (L2.out.below.cell (by exact hb)).trans HQ.out.2.2.2.2.1
          have q5 := (L2.out.below.cell (by exact hb)).trans HQ.out.2.2.2.2.2
          go_wp2_with fail
          refine hK.out _ _ ?_ (fun hHeld => ?_)
          · (try dsimp only); go_keep
          clear hK K
          try simp only [Act.put, List.setIfInBounds_toArray, List.set_cons_zero, List.set_cons_succ]
          refine' AnyX.takeL (i := 12) (oi := _) (v := _) rfl (by kernel_rfl) (by kernel_rfl) (by kernel_rfl) (by kernel_rfl) (fun _ _ _ h => h) (Or.inl ⟨by rfl, ?hy12⟩) (by assumption) ?rest12
          case hy12 => (intro w' hSw; (try dsimp only at hSw); go_simp; (first | done | with_reducible rfl))
          try simp only [Act.put, List.setIfInBounds_toArray, List.set_cons_zero, List.set_cons_succ]
          refine AnyX.go (rs := [13]) (by kernel_rfl) (by simp) (AllX.consL (o := _) rfl (fun K hK => ?_) AllX.nil)
          go_simp
          refine hK.out _ _ ?_ (fun hHeld => ?_)
          · (try dsimp only); go_keep
          clear hK K
          try simp only [Act.put, List.setIfInBounds_toArray, List.set_cons_zero, List.set_cons_succ]
          refine AnyX.go (rs := [14]) (by kernel_rfl) (by simp) (AllX.consL (o := _) rfl (fun K hK => ?_) AllX.nil)
          go_simp
          refine hK.out _ _ ?_ (fun hHeld => ?_)
          · (try dsimp only); go_keep
          clear hK K
          try simp only [Act.put, List.setIfInBounds_toArray, List.set_cons_zero, List.set_cons_succ]
          refine AnyX.done (by kernel_rfl) ?_ _
          refine NoPanic.normal ?_
          go_wp2_with fail
          go_meet
          exact ⟨w2.heap.size, rfl, (LW2.out.put _ _).blk _ List.mem_cons_self, (LW2.out.put _ _).below⟩
        refine AllX.consL (o := _) rfl (fun K hK => ?_) AllX.nil
        go_simp
        have L2 := hide (L1.out.drew.put [.int .i64 0, .int .i64 0, .int .i64 0, .int .i64 0, .int .i64 0, .int .i64 0] 40)
        have LW2 := hide (LW.out.drew.put [.int .i64 0, .int .i64 0, .int .i64 0, .int .i64 0, .int .i64 0, .int .i64 0] 40)
        have F2 := L2.out.at; simp only [AllAt, CellsAt, updL, List.map, Nat.zero_add, Nat.reduceAdd, and_true, World.size_alloc, World.heap_drewN, heap_drew, size_set, Nat.add_eq_left, Nat.left_eq_add, Nat.add_right_cancel_iff, ne_up2, ne_dn2, ne_up3, ne_dn3, ne_up4, ne_dn4, Nat.reduceEqDiff, Nat.one_ne_zero, Nat.succ_ne_zero, Nat.zero_ne_one, reduceIte, List.set_cons_zero, List.set_cons_succ] at F2
        have q0 := (L2.out.below.cell (by exact hb)).trans HQ.out.1
        have q1 := (L2.out.below.cell (by exact hb)).trans HQ.out.2.1
        have q2 := (L2.out.below.cell (by exact hb)).trans HQ.out.2.2.1
        have q3 := (L2.out.below.cell (by exact hb)).trans HQ.out.2.2.2.1
        have q4 := (L2.out.below.cell (by exact hb)).trans HQ.out.2.2.2.2.1
        have q5 := (L2.out.below.cell (by exact hb)).trans HQ.out.2.2.2.2.2
        refine hK.out _ _ ?_ (fun hHeld => ?_)
        · (try dsimp only); go_keep
        clear hK K
        try simp only [Act.put, List.setIfInBounds_toArray, List.set_cons_zero, List.set_cons_succ]
        refine AnyX.go (rs := [6]) (by kernel_rfl) (by simp) (AllX.consL (o := _) rfl (fun K hK => ?_) AllX.nil)
        go_simp
        go_at_call 73
        refine (CP.out _).mono ?_
        rintro e w3 ⟨rfl, hb3⟩
        have L3 := hide (L2.out.kept hb3)
        have LW3 := hide (LW2.out.kept hb3)
        clear hb3
        have F3 := L3.out.at; simp only [AllAt, CellsAt, updL, List.map, Nat.zero_add, Nat.reduceAdd, and_true, World.size_alloc, World.heap_drewN, heap_drew, size_set, Nat.add_eq_left, Nat.left_eq_add, Nat.add_right_cancel_iff, ne_up2, ne_dn2, ne_up3, ne_dn3, ne_up4, ne_dn4, Nat.reduceEqDiff, Nat.one_ne_zero, Nat.succ_ne_zero, Nat.zero_ne_one, reduceIte, List.set_cons_zero, List.set_cons_succ] at F3
        have q0 := (L3.out.below.cell (by exact hb)).trans HQ.out.1
        have q1 := (L3.out.below.cell (by exact hb)).trans HQ.out.2.1
        have q2 := (L3.out.below.cell (by exact hb)).trans HQ.out.2.2.1
        have q3 := (L3.out.below.cell (by exact hb)).trans HQ.out.2.2.2.1
        have q4 := (L3.out.below.cell (by exact hb)).trans HQ.out.2.2.2.2.1
        have q5 := (L3.out.below.cell (by exact hb)).trans HQ.out.2.2.2.2.2
        go_wp2_with fail
        refine hK.out _ _ ?_ (fun hHeld => ?_)
        · (try dsimp only); go_keep
        clear hK K
        try simp only [Act.put, List.setIfInBounds_toArray, List.set_cons_zero, List.set_cons_succ]
        refine' AnyX.takeL (i := 12) (oi := _) (v := _) rfl (by kernel_rfl) (by kernel_rfl) (by kernel_rfl) (by kernel_rfl) (fun _ _ _ h => h) (Or.inl ⟨by rfl, ?hy13⟩) (by assumption) ?rest13
        case hy13 => (intro w' hSw; (try dsimp only at hSw); go_simp; (first | done | with_reducible rfl))
        try simp only [Act.put, List.setIfInBounds_toArray, List.set_cons_zero, List.set_cons_succ]
        refine AnyX.go (rs := [14]) (by kernel_rfl) (by simp) (AllX.consL (o := _) rfl (fun K hK => ?_) AllX.nil)
        go_simp
        refine hK.out _ _ ?_ (fun hHeld => ?_)
        · (try dsimp only); go_keep
        clear hK K
        try simp only [Act.put, List.setIfInBounds_toArray, List.set_cons_zero, List.set_cons_succ]
        refine AnyX.done (by kernel_rfl) ?_ _
        refine NoPanic.normal ?_
        go_wp2_with fail
        go_meet
        have h0 := LW3.out
        simp only [heap_drew] at h0
        have h := h0.stored6 (u1 := .int .i64 u) (u2 := .int .i64 v) (u3 := .int .i64 t) (u4 := .int .i64 x3) (u5 := .int .i64 x4) (u6 := .int .i64 x5) (Nat.le_refl _) (by simp)
        have h1 := h.blk _ List.mem_cons_self
        simp only at h1
        have h2 := h.below
        with_reducible exact ⟨wr.heap.size, rfl, hide h1, hide h2⟩
      case rest =>
        obtain ⟨g, rfl, HBk, HBw⟩ := hcut
        have L4 := hide (L1.out.kept HBw.out)
        have HO4 := hide (own_below' HO.out HBw.out)
        clear q0 q1 q2 q3 q4 q5 F1 L1 n1
        have d0 := HBk.out.cell 0
        have d1 := HBk.out.cell 1
        have d2 := HBk.out.cell 2
        have d3 := HBk.out.cell 3
        have d4 := HBk.out.cell 4
        have d5 := HBk.out.cell 5
        simp at d0 d1 d2 d3 d4 d5
        have dl := HBk.out.lt
        by_cases hp : inV u v t 1000000 = true
        · have HP := hide hp
          have HTO2 : Hid (mvTo z a bb c (k + 1) = 0) := hide (HTO.out.trans (if_pos hp))
          clear hp HTO HBAD
          go_wp2_with fail
          refine (refPlace_any u v t _).mono ?_
          rintro e w5 ⟨rfl, hb5⟩
          rw [HP.out]
          have L5 := hide (L4.out.kept hb5)
          have HO5 := hide (own_below' HO4.out hb5)
          have HB5 := hide (HBk.out.kept hb5)
          have hz5 : w.heap.size < w5.heap.size := (L5.out.blk _ (List.mem_singleton.2 rfl)).lt
          clear hb5 d0 d1 d2 d3 d4 d5 dl
          have d0 := HB5.out.cell 0
          have d1 := HB5.out.cell 1
          have d2 := HB5.out.cell 2
          have d3 := HB5.out.cell 3
          have d4 := HB5.out.cell 4
          have d5 := HB5.out.cell 5
          simp at d0 d1 d2 d3 d4 d5
          have HO6 := hide (HO5.out.alloc (.cells #[.int .i64 u, .int .i64 v, .int .i64 t, .int .i64 x3, .int .i64 x4, .int .i64 x5] 40))
          go_wp2_with (at_builtin; refine wpList_append_own_at _ rfl (.tmp 42) (.tmp 44) 22 rfl (w.heap.size + 1) 40 i0 (.agg #[.int .i64 0, .int .i64 0, .int .i64 0, .int .i64 0, .int .i64 0, .int .i64 0]) 6 48 Try.underlying22 hi hz0 hz1 hz2 rfl (by decide) _ k (slab (k * 6) (flatF 6 M)) rfl HO6.out ⟨w5.heap.size, 0, none⟩ 1 1 [.int .i64 u, .int .i64 v, .int .i64 t, .int .i64 x3, .int .i64 x4, .int .i64 x5] rfl rfl (World.news_of_block (cs := #[.int .i64 u, .int .i64 v, .int .i64 t, .int .i64 x3, .int .i64 x4, .int .i64 x5]) (t := 40) (fr := (0, 0)) (heap_alloc_new _ _)) (by simp [Value.oneCell']) (by unfold maxLen; omega) (by omega) (by simp; omega) ?_)
          intro v' w6 hown' hgrow _ hat
          rw [HSN2.out] at hown'
          have HO7 := hide hown'
          have hlow := fun q hq => (World.ownsRow.lt HO6.out q hq).1
          have hB7 : Below (w.heap.size + 1) w5 w6 := ((Below.refl (w.heap.size + 1) w5).alloc (by omega) _).grown hgrow (by simp; omega) hlow
          have L7 : Hid (Lv w w6 [(w.heap.size, 23, [.int .i64 a, .int .i64 bb, .int .i64 c])]) := hide ⟨L5.out.below.trans (hB7.mono (by omega)), fun x hx => by
            obtain rfl := List.mem_singleton.1 hx
            exact (hB7.block w.heap.size (by omega)).trans (L5.out.blk _ (List.mem_singleton.2 rfl))⟩
          clear hown' hgrow hat hlow hB7
          go_wp2
          go_roundw
          case rel => exact ⟨k + 1, by omega, by go_num, HTO2, HO7, L7⟩
          case measure => simp [intOf]; omega
        · have hp' : inV u v t 1000000 = false := by simpa using hp
          have HP := hide hp'
          have HR : Hid (mvTo z a bb c n = 2) := hide (HBAD.out (if_neg hp))
          clear hp hp' HTO HBAD
          go_wp2_with fail
          refine (refPlace_any u v t _).mono ?_
          rintro e w5 ⟨rfl, hb5⟩
          rw [HP.out]
          have L5 := hide (L4.out.kept hb5)
          clear hb5
          go_wp2
          go_ret2
          exact ⟨L5.out.below, Or.inr ⟨HR.out, rfl⟩⟩
    · obtain rfl : n = k := by omega
      obtain ⟨A', cp, rfl, hrow⟩ := own_rowA HO.out
      have HRW := hide hrow
      clear HO hrow
      go_wp2
      go_ret2
      exact ⟨L1.out.below, Or.inl ⟨HK.out, A', cp, rfl, HRW.out⟩⟩
end Go.Proofs.Ytjfcjclhbnmgcaa
