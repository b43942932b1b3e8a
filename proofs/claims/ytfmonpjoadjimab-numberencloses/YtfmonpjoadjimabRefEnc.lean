/- The contract of agrafferef01.Enclose; what an enclosure is, told without the order of the search. -/
import Derived.Test.YtfmonpjoadjimabParts
namespace Go.Proofs.Ytfmonpjoadjimab
open Go.RowKit
set_option linter.unusedVariables false
set_option linter.unusedSimpArgs false

/-- The enclosure lo, hi, or the error e: n is at most the multiple just if F n^d is at most G. -/
def EncV (d F G : Nat) (lo hi e : Int) : Prop := ∃ n : Nat, n ≤ 1000000000000000 ∧ F * n ^ d ≤ G ∧ (n < 1000000000000000 → G < F * (n + 1) ^ d) ∧
  ((F * n ^ d = G ∧ lo = n ∧ hi = n ∧ e = 0) ∨ (F * n ^ d ≠ G ∧ n < 1000000000000000 ∧ lo = n ∧ hi = n + 1 ∧ e = 0) ∨ (F * n ^ d ≠ G ∧ n = 1000000000000000 ∧ lo = 0 ∧ hi = 0 ∧ e = 8))
theorem enc_le {d F a b : Nat} (h : a ≤ b) : F * a ^ d ≤ F * b ^ d := Nat.mul_le_mul_left _ (Nat.pow_le_pow_left h d)
theorem enc_lt {d F a b : Nat} (hd : 1 ≤ d) (hF : 1 ≤ F) (h : a < b) : F * a ^ d < F * b ^ d := Nat.mul_lt_mul_of_pos_left (Nat.pow_lt_pow_left h (by omega)) hF
theorem EncV.one {d F G : Nat} {lo hi e lo' hi' e' : Int} (h : EncV d F G lo hi e) (k : EncV d F G lo' hi' e') : lo = lo' ∧ hi = hi' ∧ e = e' := by
  obtain ⟨n, n1, n2, n3, n4⟩ := h
  obtain ⟨m, m1, m2, m3, m4⟩ := k
  have hnm : n = m := by
    rcases Nat.lt_trichotomy n m with h | h | h
    · have := enc_le (d := d) (F := F) (show n + 1 ≤ m by omega)
      have := n3 (by omega)
      omega
    · exact h
    · have := enc_le (d := d) (F := F) (show m + 1 ≤ n by omega)
      have := m3 (by omega)
      omega
  subst hnm
  rcases n4 with ⟨a1, a2, a3, a4⟩ | ⟨a1, a2, a3, a4, a5⟩ | ⟨a1, a2, a3, a4, a5⟩ <;> rcases m4 with ⟨b1, b2, b3, b4⟩ | ⟨b1, b2, b3, b4, b5⟩ | ⟨b1, b2, b3, b4, b5⟩ <;> first | exact absurd a1 b1 | exact absurd b1 a1 | omega
theorem EncV.scale {g D F G : Nat} {lo hi e : Int} (hg : 1 ≤ g) (h : EncV D F G lo hi e) : EncV (g * D) (F ^ g) (G ^ g) lo hi e := by
  have e1 : ∀ n : Nat, F ^ g * n ^ (g * D) = (F * n ^ D) ^ g := fun n => by rw [Nat.mul_pow, ← Nat.pow_mul, Nat.mul_comm g D]
  obtain ⟨n, n1, n2, n3, n4⟩ := h
  refine ⟨n, n1, by rw [e1]; exact Nat.pow_le_pow_left n2 g, fun hn => by rw [e1]; exact Nat.pow_lt_pow_left (n3 hn) (by omega), ?_⟩
  have ne : F * n ^ D ≠ G → F ^ g * n ^ (g * D) ≠ G ^ g := fun hne => by
    rw [e1]
    rcases Nat.lt_or_gt_of_ne hne with h | h
    · exact Nat.ne_of_lt (Nat.pow_lt_pow_left h (by omega))
    · exact Nat.ne_of_gt (Nat.pow_lt_pow_left h (by omega))
  rcases n4 with ⟨a1, a2⟩ | ⟨a1, a2⟩ | ⟨a1, a2⟩
  · exact Or.inl ⟨by rw [e1, a1], a2⟩
  · exact Or.inr (Or.inl ⟨ne a1, a2⟩)
  · exact Or.inr (Or.inr ⟨ne a1, a2⟩)
theorem EncV.width {d F G : Nat} {lo hi e : Int} (h : EncV d F G lo hi e) : 0 ≤ hi - lo ∧ hi - lo ≤ 1 ∧ 0 ≤ lo ∧ hi ≤ 1000000000000000 ∧ (e = 0 ∨ e = 8 ∧ lo = 0 ∧ hi = 0) := by
  obtain ⟨n, n1, n2, n3, n4⟩ := h
  omega
/-- What the search ends with: x is the greatest number up to 10^15 + 1. -/
theorem enc_end {d F G x : Nat} (hd : 1 ≤ d) (hF : 1 ≤ F) (hx : x ≤ 1000000000000001) (h1 : F * x ^ d ≤ G) (h2 : x < 1000000000000001 → G < F * (x + 1) ^ d) :
    (F * x ^ d = G ∧ x ≤ 1000000000000000 → EncV d F G x x 0) ∧ (F * x ^ d = G ∧ 1000000000000000 < x → EncV d F G 0 0 8) ∧ (F * x ^ d ≠ G ∧ x + 1 ≤ 1000000000000000 → EncV d F G x (x + 1) 0) ∧ (F * x ^ d ≠ G ∧ 1000000000000000 < x + 1 → EncV d F G 0 0 8) := by
  refine ⟨fun h => ⟨x, h.2, h1, fun hh => h2 (by omega), Or.inl ⟨h.1, rfl, rfl, rfl⟩⟩, fun h => ?_, fun h => ⟨x, by omega, h1, fun hh => h2 (by omega), Or.inr (Or.inl ⟨h.1, by omega, rfl, rfl, rfl⟩)⟩, fun h => ?_⟩
  · have := enc_lt hd hF (show 1000000000000000 < x by omega)
    exact ⟨1000000000000000, Nat.le_refl _, by omega, fun hh => absurd hh (by omega), Or.inr (Or.inr ⟨by omega, rfl, rfl, rfl, rfl⟩)⟩
  · rcases Nat.lt_or_ge 1000000000000000 x with hlt | hge
    · have := enc_lt hd hF hlt
      exact ⟨1000000000000000, Nat.le_refl _, by omega, fun hh => absurd hh (by omega), Or.inr (Or.inr ⟨by omega, rfl, rfl, rfl, rfl⟩)⟩
    · obtain rfl : x = 1000000000000000 := by omega
      exact ⟨1000000000000000, Nat.le_refl _, h1, fun hh => absurd hh (by omega), Or.inr (Or.inr ⟨h.1, rfl, rfl, rfl, rfl⟩)⟩

def RefEncDone (w : World) (d F G : Nat) (e : Ending) (w' : World) : Prop :=
  ∃ lo hi er : Int, e = .returned (.tuple #[.agg #[.int .i64 lo, .int .i64 hi], .int .i64 er]) ∧ EncV d F G lo hi er ∧ Below w.heap.size w w'

theorem below_undrew {w w' : World} (h : Below w.drew.heap.size w.drew w') : Below w.heap.size w w' := ⟨h.os, h.tape, h.output, h.size, h.block⟩
/-- Bounds of digits. -/
def LT : Nat := 3 * 12 + 1
theorem pow_fits3 {X s : Nat} (hX : X < BT ^ 3) (hs : s ≤ 12) : X ^ s < BT ^ LT := pow_fits hX hs
def LM : Nat := 4 * 12 + 1
theorem pow_fits4 {X s : Nat} (hX : X < BT ^ 4) (hs : s ≤ 12) : X ^ s < BT ^ LM := pow_fits hX hs

set_option maxHeartbeats 4000000 in
set_option maxRecDepth 100000 in
theorem refEnclose_any (a b c : Int) (d T : Nat) (w : World) (ha : -10000 ≤ a ∧ a ≤ 10000) (hb : -10000 ≤ b ∧ b ≤ 10000) (hc : -10000 ≤ c ∧ c ≤ 10000) (hd1 : 1 ≤ d) (hd : d ≤ 12) (hT1 : 1 ≤ T) (hT : T ≤ 1000000000) :
    Calls Try.prog 19 #[.agg #[.int .i64 a, .int .i64 b, .int .i64 c, .int .i64 d], .int .i64 T] w (RefEncDone w d (dnTo a b c 3) (upTo a b c 3 * T ^ d)) := by
  have HU := hide (upTo_fits ha hb hc 3 (by omega)).1
  have HD := hide (upTo_fits ha hb hc 3 (by omega)).2
  have hF1 := dnTo_pos a b c 3
  obtain ⟨U, hUe⟩ : ∃ U, U = upTo a b c 3 := ⟨_, rfl⟩
  obtain ⟨F, hFe⟩ : ∃ F, F = dnTo a b c 3 := ⟨_, rfl⟩
  have HP := hide (fun W => parts_any a b c W ha hb hc)
  rw [← hUe] at HU HP ⊢
  rw [← hFe] at HD HP hF1 ⊢
  have hT3 : T < BT ^ 3 := by have e : BT ^ 3 = 1000000000000 := by decide
                              omega
  have HT3 := hide hT3
  have HTP := hide (pow_fits3 hT3 hd)
  have HG := hide (mul_fits HU.out HTP.out)
  clear hUe hFe hT3
  have L0 := hide (Lv.start w)
  go_enter Try.func19, Try.ntmps19
  go_wp2_with fail
  refine (HP.out _).mono ?_
  rintro e w2 ⟨An, nn, cn, Ad, nd, cd, rfl, h1, h2, hbl⟩
  have NN2 := hide h1
  have ND2 := hide h2
  have L2 := hide (((L0.out.put _ _).put _ _).kept hbl)
  have F2 := L2.out.at; simp only [AllAt, CellsAt, updL, List.map, Nat.zero_add, Nat.reduceAdd, and_true, World.size_alloc, World.heap_drewN, heap_drew, size_set, Nat.add_eq_left, Nat.left_eq_add, Nat.add_right_cancel_iff, Nat.reduceEqDiff, Nat.one_ne_zero, Nat.succ_ne_zero, Nat.zero_ne_one, reduceIte, List.set_cons_zero, List.set_cons_succ] at F2
  clear h1 h2 hbl
  go_wp2
  go_region_held3 (fun w' => w'.cell? ⟨w.heap.size, 3, none⟩ = some (.int .i64 d))
    (go_keep)
    (first
      | (go_at_call 64; refine (of_any T _ (by omega)).mono ?_; rintro e w3 ⟨A3, n3, c3, rfl, h3, b3'⟩; have b3 := below_undrew b3'; have N3 := hide h3; have NN3 := hide (NN2.out.kept b3); have ND3 := hide (ND2.out.kept b3); have L3 := hide (L2.out.kept b3); have F3 := L3.out.at; simp only [AllAt, CellsAt, updL, List.map, Nat.zero_add, Nat.reduceAdd, and_true, World.size_alloc, World.heap_drewN, heap_drew, size_set, Nat.add_eq_left, Nat.left_eq_add, Nat.add_right_cancel_iff, Nat.reduceEqDiff, Nat.one_ne_zero, Nat.succ_ne_zero, Nat.zero_ne_one, reduceIte, List.set_cons_zero, List.set_cons_succ] at F3; clear h3 b3 b3')
      | (go_at_call 63; refine (pow_any A3 n3 c3 T 3 d _ N3.out HT3.out (by omega) (by omega)).mono ?_; rintro e w4 ⟨A4, n4, c4, rfl, h4, b4⟩; have N4 := hide h4; have NN4 := hide (NN3.out.kept b4); have ND4 := hide (ND3.out.kept b4); have L4 := hide (L3.out.kept b4); have F4 := L4.out.at; simp only [AllAt, CellsAt, updL, List.map, Nat.zero_add, Nat.reduceAdd, and_true, World.size_alloc, World.heap_drewN, heap_drew, size_set, Nat.add_eq_left, Nat.left_eq_add, Nat.add_right_cancel_iff, Nat.reduceEqDiff, Nat.one_ne_zero, Nat.succ_ne_zero, Nat.zero_ne_one, reduceIte, List.set_cons_zero, List.set_cons_succ] at F4; clear h4 b4)
      | (go_at_call 62; refine (mul_any An A4 nn n4 cn c4 U (T ^ d) LP LT _ NN4.out N4.out HU.out HTP.out (by decide)).mono ?_; rintro e w5 ⟨A5, n5, c5, rfl, h5, b5⟩; have NG5 := hide h5; have ND5 := hide (ND4.out.kept b5); have L5 := hide (L4.out.kept b5); have F5 := L5.out.at; simp only [AllAt, CellsAt, updL, List.map, Nat.zero_add, Nat.reduceAdd, and_true, World.size_alloc, World.heap_drewN, heap_drew, size_set, Nat.add_eq_left, Nat.left_eq_add, Nat.add_right_cancel_iff, Nat.reduceEqDiff, Nat.one_ne_zero, Nat.succ_ne_zero, Nat.zero_ne_one, reduceIte, List.set_cons_zero, List.set_cons_succ] at F5; clear h5 b5))
  clear F2 F3 F4 L2 L3 L4 NN2 ND2 N3 NN3 ND3 N4 NN4 ND4
  obtain ⟨G, hGe⟩ : ∃ G, G = U * T ^ d := ⟨_, rfl⟩
  rw [← hGe] at HG NG5
  have HGE := hide hGe
  clear hGe
  have LF : Hid (Lv w w5 [(w.heap.size + 1, 39, [.int .i64 0, .int .i64 0]), (w.heap.size, 23, [.int .i64 a, .int .i64 b, .int .i64 c, .int .i64 d])]) := hide (by simpa using L5.out)
  clear L5 F5
  have NG := NG5
  have ND := ND5
  clear NG5 ND5 HU HP HT3 HTP
  have B0 : Hid (F * 0 ^ d ≤ G) := by show _ ≤ _; rw [Nat.zero_pow (by omega), Nat.mul_zero]; exact Nat.zero_le _
  go_wp2
  go_loopw [8, 9] (fun l h wr => ∃ x y : Nat, l = .int .i64 x ∧ h = .int .i64 y ∧ x ≤ y ∧ y ≤ 1000000000000001 ∧ Hid (F * x ^ d ≤ G) ∧ Hid (y < 1000000000000001 → G < F * (y + 1) ^ d) ∧ Hid (Nt wr A5 n5 G) ∧ Hid (Nt wr Ad nd F) ∧ Hid (Lv w wr [(w.heap.size + 1, 39, [.int .i64 0, .int .i64 0]), (w.heap.size, 23, [.int .i64 a, .int .i64 b, .int .i64 c, .int .i64 d])])) (fun l h _ => (intOf h - intOf l).toNat)
  case atStart => exact ⟨0, 1000000000000001, rfl, rfl, by omega, by omega, B0, hide (fun h => absurd h (by omega)), NG, ND, LF⟩
  case round =>
    obtain ⟨x, y, rfl, rfl, hxy, hy, HX, HY, NG2, ND2, L2⟩ := hrel
    clear NG ND LF B0
    by_cases hlt : x < y
    · obtain ⟨m, hm⟩ : ∃ m : Nat, m = y - (y - x) / 2 := ⟨_, rfl⟩
      have hmi : (y : Int) - ((y : Int) - (x : Int)) / 2 = (m : Int) := by omega
      have hm1 : x < m := by omega
      have hm2 : m ≤ y := by omega
      have hm4 : m < BT ^ 4 := by have e : BT ^ 4 = 10000000000000000 := by decide
                                  omega
      have HM4 := hide hm4
      have HMP := hide (pow_fits4 hm4 hd)
      have HMQ := hide (mul_fits HMP.out HD.out)
      clear hm hm4
      have F2 := L2.out.at
      simp only [AllAt, CellsAt, updL, List.map, Nat.zero_add, Nat.reduceAdd, and_true, World.size_alloc, World.heap_drewN, heap_drew, size_set, Nat.add_eq_left, Nat.left_eq_add, Nat.add_right_cancel_iff, Nat.reduceEqDiff, Nat.one_ne_zero, Nat.succ_ne_zero, Nat.zero_ne_one, reduceIte, List.set_cons_zero, List.set_cons_succ] at F2
      go_wp2
      go_region_held3 (fun w' => w'.cell? ⟨w.heap.size, 3, none⟩ = some (.int .i64 d))
        (go_keep)
        (first
          | (go_at_call 64; refine (of_any m _ (by omega)).mono ?_; rintro e w3 ⟨A3, n3, c3, rfl, h3, b3'⟩; have b3 := below_undrew b3'; have N3 := hide h3; have NN3 := hide (NG2.out.kept b3); have ND3 := hide (ND2.out.kept b3); have L3 := hide (L2.out.kept b3); have F3 := L3.out.at; simp only [AllAt, CellsAt, updL, List.map, Nat.zero_add, Nat.reduceAdd, and_true, World.size_alloc, World.heap_drewN, heap_drew, size_set, Nat.add_eq_left, Nat.left_eq_add, Nat.add_right_cancel_iff, Nat.reduceEqDiff, Nat.one_ne_zero, Nat.succ_ne_zero, Nat.zero_ne_one, reduceIte, List.set_cons_zero, List.set_cons_succ] at F3; clear h3 b3 b3')
          | (go_at_call 63; refine (pow_any A3 n3 c3 m 4 d _ N3.out HM4.out (by omega) (by omega)).mono ?_; rintro e w4 ⟨A4, n4, c4, rfl, h4, b4⟩; have N4 := hide h4; have NN4 := hide (NN3.out.kept b4); have ND4 := hide (ND3.out.kept b4); have L4 := hide (L3.out.kept b4); have F4 := L4.out.at; simp only [AllAt, CellsAt, updL, List.map, Nat.zero_add, Nat.reduceAdd, and_true, World.size_alloc, World.heap_drewN, heap_drew, size_set, Nat.add_eq_left, Nat.left_eq_add, Nat.add_right_cancel_iff, Nat.reduceEqDiff, Nat.one_ne_zero, Nat.succ_ne_zero, Nat.zero_ne_one, reduceIte, List.set_cons_zero, List.set_cons_succ] at F4; clear h4 b4)
          | (go_at_call 62; refine (mul_any A4 Ad n4 nd c4 cd (m ^ d) F LM LP _ N4.out ND4.out HMP.out HD.out (by decide)).mono ?_; rintro e w5' ⟨A6, n6, c6, rfl, h5, b5⟩; have NP5 := hide h5; have NG5' := hide (NN4.out.kept b5); have ND5' := hide (ND4.out.kept b5); have L5 := hide (L4.out.kept b5); have F5 := L5.out.at; simp only [AllAt, CellsAt, updL, List.map, Nat.zero_add, Nat.reduceAdd, and_true, World.size_alloc, World.heap_drewN, heap_drew, size_set, Nat.add_eq_left, Nat.left_eq_add, Nat.add_right_cancel_iff, Nat.reduceEqDiff, Nat.one_ne_zero, Nat.succ_ne_zero, Nat.zero_ne_one, reduceIte, List.set_cons_zero, List.set_cons_succ] at F5; clear h5 b5)
          | (go_at_call 65; refine (refCmp_any A6 A5 n6 n5 c6 c5 (m ^ d * F) G (LM + LP) _ NP5.out NG5'.out HMQ.out (by decide)).mono ?_; rintro e w6 ⟨rfl, b6⟩; have NG6 := hide (NG5'.out.kept b6); have ND6 := hide (ND5'.out.kept b6); have L6 := hide (L5.out.kept b6); have F6 := L6.out.at; simp only [AllAt, CellsAt, updL, List.map, Nat.zero_add, Nat.reduceAdd, and_true, World.size_alloc, World.heap_drewN, heap_drew, size_set, Nat.add_eq_left, Nat.left_eq_add, Nat.add_right_cancel_iff, Nat.reduceEqDiff, Nat.one_ne_zero, Nat.succ_ne_zero, Nat.zero_ne_one, reduceIte, List.set_cons_zero, List.set_cons_succ] at F6; clear b6))
      clear F2 F3 F4 F5 L3 L4 L5 N3 NN3 ND3 N4 NN4 ND4 NP5 NG5' ND5'
      rw [Nat.mul_comm (m ^ d) F] at *
      by_cases hle : F * m ^ d ≤ G
      · have HLE := hide hle
        have hc : cmpI (F * m ^ d) G ≤ 0 := by have := cmpI_le (F * m ^ d) G; rw [decide_eq_decide] at this; exact this.2 hle
        clear hle
        go_wp2
        go_roundw
        case rel => exact ⟨m, y, rfl, rfl, hm2, hy, HLE, HY, NG6, ND6, L6⟩
        case measure => simp [intOf]; omega
      · have HLE : Hid (m - 1 < 1000000000000001 → G < F * (m - 1 + 1) ^ d) := fun _ => by rw [show m - 1 + 1 = m by omega]; omega
        have hc : ¬ cmpI (F * m ^ d) G ≤ 0 := by have := cmpI_le (F * m ^ d) G; rw [decide_eq_decide] at this; exact fun h => hle (this.1 h)
        clear hle
        go_wp2
        go_roundw
        case rel => exact ⟨x, m - 1, rfl, by go_num, by omega, by omega, HX, HLE, NG6, ND6, L6⟩
        case measure => simp [intOf]; omega
    · obtain rfl : x = y := by omega
      have hm4 : x < BT ^ 4 := by have e : BT ^ 4 = 10000000000000000 := by decide
                                  omega
      have HM4 := hide hm4
      have HMP := hide (pow_fits4 hm4 hd)
      have HMQ := hide (mul_fits HMP.out HD.out)
      have HEND := hide (enc_end hd1 hF1 hy HX.out HY.out)
      clear hm4
      have F2 := L2.out.at
      simp only [AllAt, CellsAt, updL, List.map, Nat.zero_add, Nat.reduceAdd, and_true, World.size_alloc, World.heap_drewN, heap_drew, size_set, Nat.add_eq_left, Nat.left_eq_add, Nat.add_right_cancel_iff, Nat.reduceEqDiff, Nat.one_ne_zero, Nat.succ_ne_zero, Nat.zero_ne_one, reduceIte, List.set_cons_zero, List.set_cons_succ] at F2
      go_wp2
      go_region_held3 (fun w' => w'.cell? ⟨w.heap.size, 3, none⟩ = some (.int .i64 d))
        (go_keep)
        (first
          | (go_at_call 64; refine (of_any x _ (by omega)).mono ?_; rintro e w3 ⟨A3, n3, c3, rfl, h3, b3'⟩; have b3 := below_undrew b3'; have N3 := hide h3; have NN3 := hide (NG2.out.kept b3); have ND3 := hide (ND2.out.kept b3); have L3 := hide (L2.out.kept b3); have F3 := L3.out.at; simp only [AllAt, CellsAt, updL, List.map, Nat.zero_add, Nat.reduceAdd, and_true, World.size_alloc, World.heap_drewN, heap_drew, size_set, Nat.add_eq_left, Nat.left_eq_add, Nat.add_right_cancel_iff, Nat.reduceEqDiff, Nat.one_ne_zero, Nat.succ_ne_zero, Nat.zero_ne_one, reduceIte, List.set_cons_zero, List.set_cons_succ] at F3; clear h3 b3 b3')
          | (go_at_call 63; refine (pow_any A3 n3 c3 x 4 d _ N3.out HM4.out (by omega) (by omega)).mono ?_; rintro e w4 ⟨A4, n4, c4, rfl, h4, b4⟩; have N4 := hide h4; have NN4 := hide (NN3.out.kept b4); have ND4 := hide (ND3.out.kept b4); have L4 := hide (L3.out.kept b4); have F4 := L4.out.at; simp only [AllAt, CellsAt, updL, List.map, Nat.zero_add, Nat.reduceAdd, and_true, World.size_alloc, World.heap_drewN, heap_drew, size_set, Nat.add_eq_left, Nat.left_eq_add, Nat.add_right_cancel_iff, Nat.reduceEqDiff, Nat.one_ne_zero, Nat.succ_ne_zero, Nat.zero_ne_one, reduceIte, List.set_cons_zero, List.set_cons_succ] at F4; clear h4 b4)
          | (go_at_call 62; refine (mul_any A4 Ad n4 nd c4 cd (x ^ d) F LM LP _ N4.out ND4.out HMP.out HD.out (by decide)).mono ?_; rintro e w5' ⟨A6, n6, c6, rfl, h5, b5⟩; have NP5 := hide h5; have NG5' := hide (NN4.out.kept b5); have ND5' := hide (ND4.out.kept b5); have L5 := hide (L4.out.kept b5); have F5 := L5.out.at; simp only [AllAt, CellsAt, updL, List.map, Nat.zero_add, Nat.reduceAdd, and_true, World.size_alloc, World.heap_drewN, heap_drew, size_set, Nat.add_eq_left, Nat.left_eq_add, Nat.add_right_cancel_iff, Nat.reduceEqDiff, Nat.one_ne_zero, Nat.succ_ne_zero, Nat.zero_ne_one, reduceIte, List.set_cons_zero, List.set_cons_succ] at F5; clear h5 b5)
          | (go_at_call 65; refine (refCmp_any A6 A5 n6 n5 c6 c5 (x ^ d * F) G (LM + LP) _ NP5.out NG5'.out HMQ.out (by decide)).mono ?_; rintro e w6 ⟨rfl, b6⟩; have NG6 := hide (NG5'.out.kept b6); have ND6 := hide (ND5'.out.kept b6); have L6 := hide (L5.out.kept b6); have F6 := L6.out.at; simp only [AllAt, CellsAt, updL, List.map, Nat.zero_add, Nat.reduceAdd, and_true, World.size_alloc, World.heap_drewN, heap_drew, size_set, Nat.add_eq_left, Nat.left_eq_add, Nat.add_right_cancel_iff, Nat.reduceEqDiff, Nat.one_ne_zero, Nat.succ_ne_zero, Nat.zero_ne_one, reduceIte, List.set_cons_zero, List.set_cons_succ] at F6; clear b6))
      clear F2 F3 F4 F5 L3 L4 L5 N3 NN3 ND3 N4 NN4 ND4 NP5 NG5' ND5'
      rw [Nat.mul_comm (x ^ d) F] at *
      have hz6 := L6.out.size
      by_cases heq : F * x ^ d = G
      · have h1 := cmpI_zero heq
        have h2 : ((cmpI (F * x ^ d) G) != 0) = false := by rw [bne_eq_false_iff_eq]; exact eq_of_beq h1
        by_cases hb : x ≤ 1000000000000000
        · have HR := hide (HEND.out.1 ⟨heq, hb⟩)
          clear heq
          go_wp2
          refine bodyPost_ret (v := .tuple #[.agg #[.int .i64 x, .int .i64 x], .int .i64 0]) (by simp [results, Try.results19, go_sem, F6]) rfl ⟨_, _, _, rfl, by rw [← HGE.out]; exact HR.out, ?_⟩
          repeat (first | exact L6.out.below | refine Below.setCell ?_ (by first | omega | (simp; done) | (simp; omega)) _ | refine Below.alloc ?_ (by first | omega | (simp; done) | (simp; omega)) _ | refine below_drewN ?_ _ | refine Below.drew ?_)
        · have HR := hide (HEND.out.2.1 ⟨heq, by omega⟩)
          clear heq
          go_wp2
          refine bodyPost_ret (v := .tuple #[.agg #[.int .i64 0, .int .i64 0], .int .i64 8]) (by simp [results, Try.results19, go_sem, F6]) rfl ⟨_, _, _, rfl, by rw [← HGE.out]; exact HR.out, ?_⟩
          repeat (first | exact L6.out.below | refine Below.setCell ?_ (by first | omega | (simp; done) | (simp; omega)) _ | refine Below.alloc ?_ (by first | omega | (simp; done) | (simp; omega)) _ | refine below_drewN ?_ _ | refine Below.drew ?_)
      · have h1 := cmpI_nonzero heq
        have h2 : ((cmpI (F * x ^ d) G) != 0) = true := by rw [bne_iff_ne]; intro h; rw [h] at h1; exact absurd h1 (by decide)
        by_cases hb : x + 1 ≤ 1000000000000000
        · have HR := hide (HEND.out.2.2.1 ⟨heq, hb⟩)
          have hb' : ¬ (1000000000000000 : Int) < (x : Int) + 1 := by omega
          clear heq hb
          go_wp2
          refine bodyPost_ret (v := .tuple #[.agg #[.int .i64 x, .int .i64 ((x : Int) + 1)], .int .i64 0]) (by simp [results, Try.results19, go_sem, F6]) rfl ⟨_, _, _, rfl, by rw [← HGE.out]; exact HR.out, ?_⟩
          repeat (first | exact L6.out.below | refine Below.setCell ?_ (by first | omega | (simp; done) | (simp; omega)) _ | refine Below.alloc ?_ (by first | omega | (simp; done) | (simp; omega)) _ | refine below_drewN ?_ _ | refine Below.drew ?_)
        · have HR := hide (HEND.out.2.2.2 ⟨heq, by omega⟩)
          have hb' : (1000000000000000 : Int) < (x : Int) + 1 := by omega
          clear heq hb
          go_wp2
          refine bodyPost_ret (v := .tuple #[.agg #[.int .i64 0, .int .i64 0], .int .i64 8]) (by simp [results, Try.results19, go_sem, F6]) rfl ⟨_, _, _, rfl, by rw [← HGE.out]; exact HR.out, ?_⟩
          repeat (first | exact L6.out.below | refine Below.setCell ?_ (by first | omega | (simp; done) | (simp; omega)) _ | refine Below.alloc ?_ (by first | omega | (simp; done) | (simp; omega)) _ | refine below_drewN ?_ _ | refine Below.drew ?_)
end Go.Proofs.Ytfmonpjoadjimab
