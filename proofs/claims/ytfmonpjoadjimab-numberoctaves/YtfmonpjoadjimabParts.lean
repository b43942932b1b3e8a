/- Contracts of agrafferef01.parts and Order. Bounds are premises of each theorem. -/
import Derived.Test.YtfmonpjoadjimabPow
import Derived.Test.YtfmonpjoadjimabValid
import Derived.Test.YtfmonpjoadjimabSgn
namespace Go.Proofs.Ytfmonpjoadjimab
open Go.RowKit
set_option linter.unusedVariables false
set_option linter.unusedSimpArgs false

/-- Bounds of digits. -/
def KE : Nat := 10000
def LU : Nat := 1 * KE + 1
def LP : Nat := 30004
theorem pow_fits1 {X s k L : Nat} (hX : X < BT ^ 1) (hs : s ≤ k) (hL : L = 1 * k + 1) : X ^ s < BT ^ L := hL ▸ pow_fits hX hs
theorem up_fits {x : Int} {p : Nat} (hx : -10000 ≤ x ∧ x ≤ 10000) (hp : p < BT ^ 1) : upN x p < BT ^ LU := by
  unfold upN
  split
  · have hk : x.toNat ≤ KE := by unfold KE; omega
    exact pow_fits1 hp hk rfl
  · exact Nat.one_lt_pow (by decide) BT_one
theorem dn_fits {x : Int} {p : Nat} (hx : -10000 ≤ x ∧ x ≤ 10000) (hp : p < BT ^ 1) : dnN x p < BT ^ LU := by
  rw [← upN_neg_any]; exact up_fits (by omega) hp
theorem mul_fits {A B L1 L2 : Nat} (h1 : A < BT ^ L1) (h2 : B < BT ^ L2) : A * B < BT ^ (L1 + L2) := by rw [Nat.pow_add]; exact Nat.mul_lt_mul'' h1 h2
theorem fit_grow {A L M : Nat} (h : A < BT ^ L) (hl : L ≤ M) : A < BT ^ M := Nat.lt_of_lt_of_le h (Nat.pow_le_pow_right BT_pos hl)
theorem upTo_fits {a b c : Int} (ha : -10000 ≤ a ∧ a ≤ 10000) (hb : -10000 ≤ b ∧ b ≤ 10000) (hc : -10000 ≤ c ∧ c ≤ 10000) : ∀ k, k ≤ 3 → upTo a b c k < BT ^ LP ∧ dnTo a b c k < BT ^ LP := by
  have u1 := up_fits (p := 2) ha (by decide); have u2 := up_fits (p := 3) hb (by decide); have u3 := up_fits (p := 5) hc (by decide)
  have d1 := dn_fits (p := 2) ha (by decide); have d2 := dn_fits (p := 3) hb (by decide); have d3 := dn_fits (p := 5) hc (by decide)
  have one : 1 < BT ^ 1 := by decide
  have ua := mul_fits one u1; have ub := mul_fits ua u2; have uc := mul_fits ub u3
  have da := mul_fits one d1; have db := mul_fits da d2; have dc := mul_fits db d3
  have l0 : 1 ≤ LP := by decide
  have l1 : 1 + LU ≤ LP := by decide
  have l2 : 1 + LU + LU ≤ LP := by decide
  have l3 : 1 + LU + LU + LU ≤ LP := by decide
  intro k hk
  match k, hk with
  | 0, _ => exact ⟨fit_grow one l0, fit_grow one l0⟩
  | 1, _ => exact ⟨fit_grow ua l1, fit_grow da l1⟩
  | 2, _ => exact ⟨fit_grow ub l2, fit_grow db l2⟩
  | 3, _ => exact ⟨fit_grow uc l3, fit_grow dc l3⟩
/-- What the loop of round k finds. -/
theorem parts_round (a b c : Int) (k : Nat) (hk : k < 3) (ha : -10000 ≤ a ∧ a ≤ 10000) (hb : -10000 ≤ b ∧ b ≤ 10000) (hc : -10000 ≤ c ∧ c ≤ 10000) :
    ∃ (p : Nat) (x : Int), (∀ w : World, (Instr.index 74 (.agg #[.int .i64 2, .int .i64 3, .int .i64 5]) (.int .i64 k)).run Try.prog w = .ok (.int .i64 p) w) ∧ (∀ w : World, (Instr.index 74 (.agg #[.int .i64 a, .int .i64 b, .int .i64 c]) (.int .i64 k)).run Try.prog w = .ok (.int .i64 x) w) ∧
      (-10000 ≤ x ∧ x ≤ 10000) ∧ p ≤ 5 ∧ upTo a b c (k + 1) = upTo a b c k * upN x p ∧ dnTo a b c (k + 1) = dnTo a b c k * dnN x p := by
  match k, hk with
  | 0, _ => exact ⟨2, a, fun _ => by kernel_rfl, fun _ => by kernel_rfl, ha, by omega, rfl, rfl⟩
  | 1, _ => exact ⟨3, b, fun _ => by kernel_rfl, fun _ => by kernel_rfl, hb, by omega, rfl, rfl⟩
  | 2, _ => exact ⟨5, c, fun _ => by kernel_rfl, fun _ => by kernel_rfl, hc, by omega, rfl, rfl⟩

def PartsDone (w : World) (N M : Nat) (e : Ending) (w' : World) : Prop := ∃ A n ca B nb cb, e = .returned (.tuple #[.slice A n ca, .slice B nb cb]) ∧ Nt w' A n N ∧ Nt w' B nb M ∧ Below w.heap.size w w'

set_option maxHeartbeats 2000000 in
set_option maxRecDepth 100000 in
theorem parts_any (a b c : Int) (w : World) (ha : -10000 ≤ a ∧ a ≤ 10000) (hb : -10000 ≤ b ∧ b ≤ 10000) (hc : -10000 ≤ c ∧ c ≤ 10000) :
    Calls Try.prog 61 #[.int .i64 a, .int .i64 b, .int .i64 c] w (PartsDone w (upTo a b c 3) (dnTo a b c 3)) := by
  have HF := hide (upTo_fits ha hb hc)
  have H1 : Hid (Nt ((w.alloc (.cells #[.int .i64 1] 3)).alloc (.cells #[.int .i64 1] 3)) (some ⟨w.heap.size, 0, none⟩) 1 1) := (Nt.one w _ 1 rfl (by decide) (by omega)).alloc _
  have H2 : Hid (Nt ((w.alloc (.cells #[.int .i64 1] 3)).alloc (.cells #[.int .i64 1] 3)) (some ⟨w.heap.size + 1, 0, none⟩) 1 1) := Nt.one _ _ 1 (by simp) (by decide) (by omega)
  go_enter Try.func61, Try.ntmps61
  go_wp2
  go_loopw [8, 9, 19] (fun x y i wr => ∃ (k : Nat) (A : Option Addr) (n ca : Nat) (B : Option Addr) (nb cb : Nat), k ≤ 3 ∧ i = .int .i64 k ∧ x = .slice A n ca ∧ y = .slice B nb cb ∧ Hid (Nt wr A n (upTo a b c k)) ∧ Hid (Nt wr B nb (dnTo a b c k)) ∧ Hid (Below w.heap.size w wr)) (fun _ _ i _ => 3 - (intOf i).toNat)
  case atStart => exact ⟨0, _, 1, 1, _, 1, 1, by omega, rfl, rfl, rfl, H1, H2, below_two _ _ _⟩
  case round =>
    obtain ⟨k, A, n, ca, B, nb, cb, hk, rfl, rfl, rfl, HA, HB, HW⟩ := hrel
    by_cases hlt : k < 3
    · obtain ⟨p, x, q1, q2, hx, hp, eU, eD⟩ := parts_round a b c k hlt ha hb hc
      obtain ⟨fU, fD⟩ := HF.out k hk
      have FU := hide fU
      have FD := hide fD
      have hpB : p < BT ^ 1 := by have e : BT ^ 1 = 10000 := by decide
                                  omega
      have HPB := hide hpB
      clear fU fD hpB
      by_cases hpos : 0 < x
      · obtain ⟨m, rfl⟩ := Int.eq_ofNat_of_zero_le (Int.le_of_lt hpos)
        have EU : Hid (upTo a b c k * p ^ m = upTo a b c (k + 1)) := by rw [eU]; unfold upN; rw [if_pos hpos, Int.toNat_natCast]; exact hide rfl
        have ED : Hid (dnTo a b c (k + 1) = dnTo a b c k) := by rw [eD]; unfold dnN; rw [if_pos hpos, Nat.mul_one]; exact hide rfl
        have HPF := hide (pow_fits (k := 10000) HPB.out (show m ≤ 10000 by omega))
        clear eU eD
        go_wp2_with fail
        refine (of_any p _ (by omega)).mono ?_
        rintro e w1 ⟨C, nc, cc, rfl, hC, hW1⟩
        have HC1 := hide hC
        have HA1 := hide (HA.out.kept hW1)
        have HB1 := hide (HB.out.kept hW1)
        have HW1 := hide (HW.out.trans (hW1.mono HW.out.size))
        clear hC hW1
        go_wp2_with fail
        refine (pow_any C nc cc p 1 m _ HC1.out HPB.out (by omega) (by omega)).mono ?_
        rintro e w2 ⟨D, nd, cd, rfl, hD, hW2⟩
        have HD2 := hide hD
        have HA2 := hide (HA1.out.kept hW2)
        have HB2 := hide (HB1.out.kept hW2)
        have HW2 := hide (HW1.out.trans (hW2.mono HW1.out.size))
        clear hD hW2
        go_wp2_with fail
        refine (mul_any A D n nd ca cd (upTo a b c k) (p ^ m) LP (1 * 10000 + 1) _ HA2.out HD2.out FU.out HPF.out (by decide)).mono ?_
        rintro e w3 ⟨E, ne, ce, rfl, hE, hW3⟩
        rw [EU.out] at hE
        have HE3 := hide hE
        have HB3 : Hid (Nt w3 B nb (dnTo a b c (k + 1))) := by rw [ED.out]; exact HB2.out.kept hW3
        have HW3 := hide (HW2.out.trans (hW3.mono HW2.out.size))
        clear hE hW3
        go_wp2
        go_roundw
        case rel => exact ⟨k + 1, E, ne, ce, B, nb, cb, by omega, by go_num, rfl, rfl, HE3, HB3, HW3⟩
        case measure => simp [intOf]; omega
      · obtain ⟨m, hm⟩ := Int.eq_ofNat_of_zero_le (show 0 ≤ -x from by omega)
        obtain rfl : x = -(m : Int) := by omega
        have ED : Hid (dnTo a b c k * p ^ m = dnTo a b c (k + 1)) := by rw [eD, dnN_neg]; exact hide rfl
        have EU : Hid (upTo a b c (k + 1) = upTo a b c k) := by rw [eU, upN_neg, Nat.mul_one]; exact hide rfl
        have HPF := hide (pow_fits (k := 10000) HPB.out (show m ≤ 10000 by omega))
        clear eU eD hm
        go_wp2_with fail
        refine (of_any p _ (by omega)).mono ?_
        rintro e w1 ⟨C, nc, cc, rfl, hC, hW1⟩
        have HC1 := hide hC
        have HA1 := hide (HA.out.kept hW1)
        have HB1 := hide (HB.out.kept hW1)
        have HW1 := hide (HW.out.trans (hW1.mono HW.out.size))
        clear hC hW1
        go_wp2_with fail
        refine (pow_any C nc cc p 1 m _ HC1.out HPB.out (by omega) (by omega)).mono ?_
        rintro e w2 ⟨D, nd, cd, rfl, hD, hW2⟩
        have HD2 := hide hD
        have HA2 := hide (HA1.out.kept hW2)
        have HB2 := hide (HB1.out.kept hW2)
        have HW2 := hide (HW1.out.trans (hW2.mono HW1.out.size))
        clear hD hW2
        go_wp2_with fail
        refine (mul_any B D nb nd cb cd (dnTo a b c k) (p ^ m) LP (1 * 10000 + 1) _ HB2.out HD2.out FD.out HPF.out (by decide)).mono ?_
        rintro e w3 ⟨E, ne, ce, rfl, hE, hW3⟩
        rw [ED.out] at hE
        have HE3 := hide hE
        have HA3 : Hid (Nt w3 A n (upTo a b c (k + 1))) := by rw [EU.out]; exact HA2.out.kept hW3
        have HW3 := hide (HW2.out.trans (hW3.mono HW2.out.size))
        clear hE hW3
        go_wp2
        go_roundw
        case rel => exact ⟨k + 1, A, n, ca, E, ne, ce, by omega, by go_num, rfl, rfl, HA3, HE3, HW3⟩
        case measure => simp [intOf]; omega
    · obtain rfl : k = 3 := by omega
      go_wp2
      go_ret2
      exact ⟨A, n, ca, B, nb, cb, rfl, HA.out, HB.out, HW.out⟩

set_option maxHeartbeats 2000000 in
set_option maxRecDepth 100000 in
theorem refOrder_any (a b c d e f g h : Int) (w : World) (hp : smallP a b c d) (hq : smallP e f g h) (h1 : -10000 ≤ jn a h (-1) e d ∧ jn a h (-1) e d ≤ 10000) (h2 : -10000 ≤ jn b h (-1) f d ∧ jn b h (-1) f d ≤ 10000) (h3 : -10000 ≤ jn c h (-1) g d ∧ jn c h (-1) g d ≤ 10000) :
    Calls Try.prog 54 #[.agg #[.int .i64 a, .int .i64 b, .int .i64 c, .int .i64 d], .agg #[.int .i64 e, .int .i64 f, .int .i64 g, .int .i64 h]] w
      fun r w' => r = .returned (.int .i64 (sgn (jn a h (-1) e d) (jn b h (-1) f d) (jn c h (-1) g d))) ∧ Below w.heap.size w w' := by
  have dh := den_in hp.1 hq.1
  have HP := hide hp
  have HQ := hide hq
  clear hp hq
  obtain ⟨x, hx⟩ : ∃ x, x = jn a h (-1) e d := ⟨_, rfl⟩
  obtain ⟨y, hy⟩ : ∃ x, x = jn b h (-1) f d := ⟨_, rfl⟩
  obtain ⟨z, hz⟩ : ∃ x, x = jn c h (-1) g d := ⟨_, rfl⟩
  have C1 := fun W => refSum_any a b c d e f g h (-1) W HP.out HQ.out (by omega)
  rw [← hx] at C1 h1 ⊢
  rw [← hy] at C1 h2 ⊢
  rw [← hz] at C1 h3 ⊢
  have HC1 := hide C1
  clear C1 hx hy hz
  obtain ⟨q, hq⟩ : ∃ q, q = d * h := ⟨_, rfl⟩
  rw [← hq] at dh HC1
  clear hq
  have hg := gcdP_pos (a := x) (b := y) (c := z) dh.1
  have HS : Hid (sgn (x.tdiv (gcdP x y z q)) (y.tdiv (gcdP x y z q)) (z.tdiv (gcdP x y z q)) = sgn x y z) := by
    have e : gcdP x y z q = Nat.gcd (Nat.gcd (Nat.gcd x.natAbs y.natAbs) z.natAbs) q.natAbs := by
      unfold gcdP gcdAll
      simp only [List.foldl, Nat.gcd_zero_left]
    have k0 : gcdP x y z q ∣ Nat.gcd (Nat.gcd x.natAbs y.natAbs) z.natAbs := by rw [e]; exact Nat.gcd_dvd_left _ _
    have k1 : gcdP x y z q ∣ x.natAbs := Nat.dvd_trans k0 (Nat.dvd_trans (Nat.gcd_dvd_left _ _) (Nat.gcd_dvd_left _ _))
    have k2 : gcdP x y z q ∣ y.natAbs := Nat.dvd_trans k0 (Nat.dvd_trans (Nat.gcd_dvd_left _ _) (Nat.gcd_dvd_right _ _))
    have k3 : gcdP x y z q ∣ z.natAbs := Nat.dvd_trans k0 (Nat.gcd_dvd_right _ _)
    exact sgn_div _ hg x y z (Int.natAbs_dvd_natAbs.1 (by simpa using k1)) (Int.natAbs_dvd_natAbs.1 (by simpa using k2)) (Int.natAbs_dvd_natAbs.1 (by simpa using k3))
  obtain ⟨k, hk⟩ : ∃ k, k = gcdP x y z q := ⟨_, rfl⟩
  have b1 : -10000 ≤ x.tdiv k ∧ x.tdiv k ≤ 10000 := tdiv_le (by omega) h1
  have b2 : -10000 ≤ y.tdiv k ∧ y.tdiv k ≤ 10000 := tdiv_le (by omega) h2
  have b3 : -10000 ≤ z.tdiv k ∧ z.tdiv k ≤ 10000 := tdiv_le (by omega) h3
  have HN := hide (fun W => refNormal_any x y z q W (by omega) (by omega) (by omega) (by omega))
  rw [← hk] at HS HN
  clear hk hg
  obtain ⟨u, hu⟩ : ∃ u, u = x.tdiv k := ⟨_, rfl⟩
  obtain ⟨v, hv⟩ : ∃ u, u = y.tdiv k := ⟨_, rfl⟩
  obtain ⟨t, ht⟩ : ∃ u, u = z.tdiv k := ⟨_, rfl⟩
  obtain ⟨s, hs⟩ : ∃ u, u = q / (k : Int) := ⟨_, rfl⟩
  rw [← hu, ← hv, ← ht] at HS
  rw [← hu, ← hv, ← ht, ← hs] at HN
  rw [← hu] at b1
  rw [← hv] at b2
  rw [← ht] at b3
  clear hu hv ht hs h1 h2 h3
  have L0 := hide (Lv.start w)
  go_enter Try.func54, Try.ntmps54
  go_wp2_with fail
  refine Lv.call (HC1.out _) ((L0.out.put _ _).put _ _) ?_
  intro w2 L2'
  have L2 := hide L2'
  have F2 := L2'.at
  clear L2'
  simp only [AllAt, CellsAt, updL, List.map, Nat.zero_add, Nat.reduceAdd, and_true, World.size_alloc, World.heap_drewN, heap_drew, size_set, Nat.add_eq_left, Nat.left_eq_add, Nat.add_right_cancel_iff, Nat.reduceEqDiff, Nat.one_ne_zero, Nat.succ_ne_zero, Nat.zero_ne_one, reduceIte, List.set_cons_zero, List.set_cons_succ] at F2
  go_wp2_with fail
  refine Lv.call (HN.out _) L2.out ?_
  intro w3 L3'
  have L3 := hide L3'
  have F3 := L3'.at
  clear L3' F2
  simp only [AllAt, CellsAt, updL, List.map, Nat.zero_add, Nat.reduceAdd, and_true, World.size_alloc, World.heap_drewN, heap_drew, size_set, Nat.add_eq_left, Nat.left_eq_add, Nat.add_right_cancel_iff, Nat.reduceEqDiff, Nat.one_ne_zero, Nat.succ_ne_zero, Nat.zero_ne_one, reduceIte, List.set_cons_zero, List.set_cons_succ] at F3
  unfold pitchV
  go_wp2_with fail
  refine (parts_any u v t _ b1 b2 b3).mono ?_
  rintro r w4 ⟨A, n, ca, B, nb, cb, rfl, hA, hB, hW⟩
  have HA := hide hA
  have HB := hide hB
  have L4 := hide ((L3.out.put _ _).kept hW)
  have HLU := hide (upTo_fits b1 b2 b3 3 (by omega)).1
  clear hA hB hW F3
  go_wp2_with fail
  refine Lv.call (refCmp_any A B n nb ca cb _ _ LP _ HA.out HB.out HLU.out (by decide)) L4.out ?_
  intro w5 L5
  have HF : Hid (cmpI (upTo u v t 3) (dnTo u v t 3) = sgn x y z) := HS.out
  rw [HF.out]
  go_wp2
  go_ret
  exact ⟨rfl, L5.below⟩
end Go.Proofs.Ytfmonpjoadjimab
