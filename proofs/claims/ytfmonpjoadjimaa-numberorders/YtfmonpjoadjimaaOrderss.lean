/- PROVED HERE: Rows.NumberOrdersSaid: agraffelaw01.NumberOrders returns true for every input, and its arguments read behind the call as before. -/
import Derived.Test.YtfmonpjoadjimaaLift
import Derived.Test.YtfmonpjoadjimaaAwake
import Derived.Test.YtfmonpjoadjimaaOrder
import Derived.Test.YtfmonpjoadjimaaNear
import Derived.Test.YtfmonpjoadjimaaParts
import Derived.Test.YtfmonpjoadjimaaPitchLaw
namespace Go.Proofs.Ytfmonpjoadjimaa
open Go.ChangeShapes Go.WideShapes Go.ChangeAt Go.RowKit Go.Joins
set_option linter.unusedVariables false
set_option linter.unusedSimpArgs false

/-- Both joined with a third pitch: the difference is the same but for a positive factor. -/
theorem join_side {a d e h i l x y u v p q : Int} (h1 : p * x = a * l + 1 * i * d) (h2 : p * u = d * l) (h3 : q * y = e * l + 1 * i * h) (h4 : q * v = h * l) : p * q * jn x v (-1) y u = l * l * jn a h (-1) e d := by
  unfold jn
  have e1 : p * q * (x * v + -1 * y * u) = (p * x) * (q * v) - (q * y) * (p * u) := by
    rw [Int.mul_add]
    have k1 : p * q * (x * v) = (p * x) * (q * v) := by ac_rfl
    have k2 : p * q * (-1 * y * u) = -((q * y) * (p * u)) := by
      rw [Int.neg_mul, Int.one_mul, Int.neg_mul, Int.mul_neg]
      congr 1
      ac_rfl
    rw [k1, k2]; omega
  rw [e1, h1, h2, h3, h4, Int.one_mul, Int.add_mul, Int.add_mul, Int.mul_add, Int.neg_mul, Int.one_mul, Int.neg_mul, Int.mul_neg]
  have k3 : a * l * (h * l) = l * l * (a * h) := by ac_rfl
  have k4 : i * d * (h * l) = i * h * (d * l) := by ac_rfl
  have k5 : e * l * (d * l) = l * l * (e * d) := by ac_rfl
  rw [k3, k4, k5]
  omega
theorem tdiv_back {x : Int} {g : Nat} (h : (g : Int) ∣ x) : (g : Int) * x.tdiv g = x := Int.mul_tdiv_cancel' h
theorem gcdP_dvd (a b c d : Int) : ((gcdP a b c d : Nat) : Int) ∣ a ∧ ((gcdP a b c d : Nat) : Int) ∣ b ∧ ((gcdP a b c d : Nat) : Int) ∣ c ∧ ((gcdP a b c d : Nat) : Int) ∣ d := by
  have e : gcdP a b c d = Nat.gcd (Nat.gcd (Nat.gcd a.natAbs b.natAbs) c.natAbs) d.natAbs := by
    unfold gcdP gcdAll
    simp only [List.foldl, Nat.gcd_zero_left]
  have k0 : gcdP a b c d ∣ Nat.gcd (Nat.gcd a.natAbs b.natAbs) c.natAbs := by rw [e]; exact Nat.gcd_dvd_left _ _
  have k1 : gcdP a b c d ∣ a.natAbs := Nat.dvd_trans k0 (Nat.dvd_trans (Nat.gcd_dvd_left _ _) (Nat.gcd_dvd_left _ _))
  have k2 : gcdP a b c d ∣ b.natAbs := Nat.dvd_trans k0 (Nat.dvd_trans (Nat.gcd_dvd_left _ _) (Nat.gcd_dvd_right _ _))
  have k3 : gcdP a b c d ∣ c.natAbs := Nat.dvd_trans k0 (Nat.gcd_dvd_right _ _)
  have k4 : gcdP a b c d ∣ d.natAbs := by rw [e]; exact Nat.gcd_dvd_right _ _
  exact ⟨Int.natAbs_dvd_natAbs.1 (by simpa using k1), Int.natAbs_dvd_natAbs.1 (by simpa using k2), Int.natAbs_dvd_natAbs.1 (by simpa using k3), Int.natAbs_dvd_natAbs.1 (by simpa using k4)⟩
theorem one_le_of_mul {g x q : Int} (hg : 1 ≤ g) (hx : 1 ≤ x) (h : g * q = x) : 1 ≤ q := by
  rcases Int.lt_or_le q 1 with hq | hq
  · have : g * q ≤ g * 0 := Int.mul_le_mul_of_nonneg_left (by omega) (by omega)
    omega
  · exact hq
theorem order_join {a b c d e f g h i j k l : Int} (hd : 1 ≤ d) (hh : 1 ≤ h) (hl : 1 ≤ l) (f1 : fitP (jn a l 1 i d) (jn b l 1 j d) (jn c l 1 k d) (d * l)) (f2 : fitP (jn e l 1 i h) (jn f l 1 j h) (jn g l 1 k h) (h * l)) :
    sgn (jn (p2 (jn a l 1 i d) (jn b l 1 j d) (jn c l 1 k d) (d * l)) (pd (jn e l 1 i h) (jn f l 1 j h) (jn g l 1 k h) (h * l)) (-1) (p2 (jn e l 1 i h) (jn f l 1 j h) (jn g l 1 k h) (h * l)) (pd (jn a l 1 i d) (jn b l 1 j d) (jn c l 1 k d) (d * l))) (jn (p3 (jn a l 1 i d) (jn b l 1 j d) (jn c l 1 k d) (d * l)) (pd (jn e l 1 i h) (jn f l 1 j h) (jn g l 1 k h) (h * l)) (-1) (p3 (jn e l 1 i h) (jn f l 1 j h) (jn g l 1 k h) (h * l)) (pd (jn a l 1 i d) (jn b l 1 j d) (jn c l 1 k d) (d * l))) (jn (p5 (jn a l 1 i d) (jn b l 1 j d) (jn c l 1 k d) (d * l)) (pd (jn e l 1 i h) (jn f l 1 j h) (jn g l 1 k h) (h * l)) (-1) (p5 (jn e l 1 i h) (jn f l 1 j h) (jn g l 1 k h) (h * l)) (pd (jn a l 1 i d) (jn b l 1 j d) (jn c l 1 k d) (d * l))) = sgn (jn a h (-1) e d) (jn b h (-1) f d) (jn c h (-1) g d) := by
  unfold p2 p3 p5 pd
  simp only [if_pos f1, if_pos f2]
  have dl : 1 ≤ d * l := by have := Int.mul_le_mul_of_nonneg_left hl (show 0 ≤ d by omega); omega
  have hl2 : 1 ≤ h * l := by have := Int.mul_le_mul_of_nonneg_left hl (show 0 ≤ h by omega); omega
  have ll : 1 ≤ l * l := by have := Int.mul_le_mul_of_nonneg_left hl (show 0 ≤ l by omega); omega
  have g1 := gcdP_pos (a := jn a l 1 i d) (b := jn b l 1 j d) (c := jn c l 1 k d) dl
  have g2 := gcdP_pos (a := jn e l 1 i h) (b := jn f l 1 j h) (c := jn g l 1 k h) hl2
  obtain ⟨u1, u2, u3, u4⟩ := gcdP_dvd (jn a l 1 i d) (jn b l 1 j d) (jn c l 1 k d) (d * l)
  obtain ⟨v1, v2, v3, v4⟩ := gcdP_dvd (jn e l 1 i h) (jn f l 1 j h) (jn g l 1 k h) (h * l)
  have e4 := Int.mul_ediv_cancel' u4
  have t4 := Int.mul_ediv_cancel' v4
  have e1 := tdiv_back u1
  have e2 := tdiv_back u2
  have e3 := tdiv_back u3
  have t1 := tdiv_back v1
  have t2 := tdiv_back v2
  have t3 := tdiv_back v3
  clear f1 f2 u1 u2 u3 u4 v1 v2 v3 v4
  obtain ⟨G, hG⟩ : ∃ G : Int, G = (gcdP (jn a l 1 i d) (jn b l 1 j d) (jn c l 1 k d) (d * l) : Nat) := ⟨_, rfl⟩
  obtain ⟨H, hH⟩ : ∃ G : Int, G = (gcdP (jn e l 1 i h) (jn f l 1 j h) (jn g l 1 k h) (h * l) : Nat) := ⟨_, rfl⟩
  rw [← hG] at e1 e2 e3 e4 ⊢
  rw [← hH] at t1 t2 t3 t4 ⊢
  have hG1 : 1 ≤ G := by omega
  have hH1 : 1 ≤ H := by omega
  have GH : 1 ≤ G * H := by have := Int.mul_le_mul_of_nonneg_left hH1 (show 0 ≤ G by omega); omega
  rw [← sgn_scale (G * H) GH, join_side e1 e4 t1 t4, join_side e2 e4 t2 t4, join_side e3 e4 t3 t4, sgn_scale _ ll]
theorem order_sw (a b c d e f g h : Int) (w : World) (hp : okP a b c d) (hq : okP e f g h) :
    Calls Try.prog 35 #[.agg #[.int .i64 e, .int .i64 f, .int .i64 g, .int .i64 h], .agg #[.int .i64 a, .int .i64 b, .int .i64 c, .int .i64 d]] w
      fun r w' => r = .returned (.tuple #[.int .i64 (-sgn (jn a h (-1) e d) (jn b h (-1) f d) (jn c h (-1) g d)), .int .i64 0]) ∧ Below w.heap.size w w' := by
  have h0 := order_ok e f g h a b c d w hq hp
  have sw : ∀ x y : Int, jn y d (-1) x h = -jn x h (-1) y d := fun x y => by unfold jn; rw [Int.neg_mul, Int.one_mul, Int.neg_mul, Int.neg_mul, Int.one_mul, Int.neg_mul]; omega
  rw [sw a e, sw b f, sw c g, sgn_neg] at h0
  exact h0

set_option maxHeartbeats 4000000 in
set_option maxRecDepth 100000 in
theorem numberOrders_walk (a b c d e f g h i j k l : Int) (w : World) (h_a : -9223372036854775808 ≤ a ∧ a ≤ 9223372036854775807) (h_b : -9223372036854775808 ≤ b ∧ b ≤ 9223372036854775807) (h_c : -9223372036854775808 ≤ c ∧ c ≤ 9223372036854775807) (h_d : -9223372036854775808 ≤ d ∧ d ≤ 9223372036854775807) (h_e : -9223372036854775808 ≤ e ∧ e ≤ 9223372036854775807) (h_f : -9223372036854775808 ≤ f ∧ f ≤ 9223372036854775807) (h_g : -9223372036854775808 ≤ g ∧ g ≤ 9223372036854775807) (h_h : -9223372036854775808 ≤ h ∧ h ≤ 9223372036854775807) (h_i : -9223372036854775808 ≤ i ∧ i ≤ 9223372036854775807) (h_j : -9223372036854775808 ≤ j ∧ j ≤ 9223372036854775807) (h_k : -9223372036854775808 ≤ k ∧ k ≤ 9223372036854775807) (h_l : -9223372036854775808 ≤ l ∧ l ≤ 9223372036854775807) :
    Calls Try.prog 8 #[.agg #[.int .i64 a, .int .i64 b, .int .i64 c, .int .i64 d], .agg #[.int .i64 e, .int .i64 f, .int .i64 g, .int .i64 h], .agg #[.int .i64 i, .int .i64 j, .int .i64 k, .int .i64 l]] w fun x w' => x = .returned (.bool true) ∧ Below w.heap.size w w' := by
  clear h_a h_b h_c h_d h_e h_f h_g h_h h_i h_j h_k h_l
  have L0 := hide (Lv.start w)
  go_enter Try.func8, Try.ntmps8
  go_wp2_with fail
  refine Lv.call (awake_any _) (((L0.out.put _ _).put _ _).put _ _) ?_
  intro w2 L2'
  have L2 := hide L2'
  have F2 := L2'.at
  clear L2'
  simp only [AllAt, CellsAt, updL, List.map, Nat.zero_add, Nat.reduceAdd, and_true, World.size_alloc, World.heap_drewN, heap_drew, size_set, Nat.add_eq_left, Nat.left_eq_add, Nat.add_right_cancel_iff, Nat.reduceEqDiff, Nat.one_ne_zero, Nat.succ_ne_zero, Nat.zero_ne_one, reduceIte, List.set_cons_zero, List.set_cons_succ] at F2
  go_wp2_with fail
  refine Lv.call (near_any a b c d _) L2.out ?_
  intro w3 L3'
  have L3 := hide L3'
  have F3 := L3'.at
  clear L3' F2
  simp only [AllAt, CellsAt, updL, List.map, Nat.zero_add, Nat.reduceAdd, and_true, World.size_alloc, World.heap_drewN, heap_drew, size_set, Nat.add_eq_left, Nat.left_eq_add, Nat.add_right_cancel_iff, Nat.reduceEqDiff, Nat.one_ne_zero, Nat.succ_ne_zero, Nat.zero_ne_one, reduceIte, List.set_cons_zero, List.set_cons_succ] at F3
  cases hn1 : nearB a b c
  · go_wp2
    go_ret
    refine ⟨rfl, ?_⟩
    repeat (first | exact L3.out.below | refine Below.setCell ?_ (by first | omega | (simp; done) | (simp; omega)) _ | refine Below.alloc ?_ (by first | omega | (simp; done) | (simp; omega)) _ | refine below_drewN ?_ _ | refine Below.drew ?_)
  go_wp2_with fail
  refine Lv.call (near_any e f g h _) L3.out ?_
  intro w4 L4'
  have L4 := hide L4'
  have F4 := L4'.at
  clear L4' F3 L2
  simp only [AllAt, CellsAt, updL, List.map, Nat.zero_add, Nat.reduceAdd, and_true, World.size_alloc, World.heap_drewN, heap_drew, size_set, Nat.add_eq_left, Nat.left_eq_add, Nat.add_right_cancel_iff, Nat.reduceEqDiff, Nat.one_ne_zero, Nat.succ_ne_zero, Nat.zero_ne_one, reduceIte, List.set_cons_zero, List.set_cons_succ] at F4
  cases hn2 : nearB e f g
  · go_wp2
    go_ret
    refine ⟨rfl, ?_⟩
    repeat (first | exact L4.out.below | refine Below.setCell ?_ (by first | omega | (simp; done) | (simp; omega)) _ | refine Below.alloc ?_ (by first | omega | (simp; done) | (simp; omega)) _ | refine below_drewN ?_ _ | refine Below.drew ?_)
  go_wp2_with fail
  refine Lv.call (near_any i j k l _) L4.out ?_
  intro w5 L5'
  have L5 := hide L5'
  have F5 := L5'.at
  clear L5' F4 L3
  simp only [AllAt, CellsAt, updL, List.map, Nat.zero_add, Nat.reduceAdd, and_true, World.size_alloc, World.heap_drewN, heap_drew, size_set, Nat.add_eq_left, Nat.left_eq_add, Nat.add_right_cancel_iff, Nat.reduceEqDiff, Nat.one_ne_zero, Nat.succ_ne_zero, Nat.zero_ne_one, reduceIte, List.set_cons_zero, List.set_cons_succ] at F5
  cases hn3 : nearB i j k
  · go_wp2
    go_ret
    refine ⟨rfl, ?_⟩
    repeat (first | exact L5.out.below | refine Below.setCell ?_ (by first | omega | (simp; done) | (simp; omega)) _ | refine Below.alloc ?_ (by first | omega | (simp; done) | (simp; omega)) _ | refine below_drewN ?_ _ | refine Below.drew ?_)
  clear hn1 hn2 hn3
  by_cases hpq : okP a b c d ∧ okP e f g h
  · obtain ⟨hp, hq⟩ := hpq
    have HE : Hid (pitchesErr a b c d e f g h = 0) := if_pos ⟨hp, hq⟩
    have hz := sgn_in (jn a h (-1) e d) (jn b h (-1) f d) (jn c h (-1) g d)
    obtain ⟨s, hs⟩ : ∃ s, s = sgn (jn a h (-1) e d) (jn b h (-1) f d) (jn c h (-1) g d) := ⟨_, rfl⟩
    have C1 := fun W => order_ok a b c d e f g h W hp hq
    have C2 := fun W => order_sw a b c d e f g h W hp hq
    have C3 := fun W => refOrder_any a b c d e f g h W (small_ok hp) (small_ok hq) (jn_ok hp.2.1 hq.2.1 hq.1 hp.1) (jn_ok hp.2.2.1 hq.2.2.1 hq.1 hp.1) (jn_ok hp.2.2.2 hq.2.2.2 hq.1 hp.1)
    rw [← hs] at C1 C2 C3 hz
    have HC1 := hide C1
    have HC2 := hide C2
    have HC3 := hide C3
    have HS := hide hs
    have HP := hide hp
    have HQ := hide hq
    clear C1 C2 C3 hs hp hq
    go_wp2_with fail
    refine Lv.call (HC1.out _) L5.out ?_
    intro w6 L6'
    have L6 := hide L6'
    have F6 := L6'.at
    clear L6' F5 L4
    simp only [AllAt, CellsAt, updL, List.map, Nat.zero_add, Nat.reduceAdd, and_true, World.size_alloc, World.heap_drewN, heap_drew, size_set, Nat.add_eq_left, Nat.left_eq_add, Nat.add_right_cancel_iff, Nat.reduceEqDiff, Nat.one_ne_zero, Nat.succ_ne_zero, Nat.zero_ne_one, reduceIte, List.set_cons_zero, List.set_cons_succ] at F6
    go_wp2_with fail
    refine Lv.call (lawPitches2_any _ _ a b c d e f g h _ (Blk.new _ _ _ _ (by simp))) (L6.out.put _ _) ?_
    intro w7 L7'
    have L7 := hide L7'
    have F7 := L7'.at
    clear L7' F6 L5
    simp only [AllAt, CellsAt, updL, List.map, Nat.zero_add, Nat.reduceAdd, and_true, World.size_alloc, World.heap_drewN, heap_drew, size_set, Nat.add_eq_left, Nat.left_eq_add, Nat.add_right_cancel_iff, Nat.reduceEqDiff, Nat.one_ne_zero, Nat.succ_ne_zero, Nat.zero_ne_one, reduceIte, List.set_cons_zero, List.set_cons_succ] at F7
    rw [HE.out]
    go_wp2_with fail
    refine Lv.call (HC2.out _) L7.out ?_
    intro w8 L8'
    have L8 := hide L8'
    have F8 := L8'.at
    clear L8' F7 L6
    simp only [AllAt, CellsAt, updL, List.map, Nat.zero_add, Nat.reduceAdd, and_true, World.size_alloc, World.heap_drewN, heap_drew, size_set, Nat.add_eq_left, Nat.left_eq_add, Nat.add_right_cancel_iff, Nat.reduceEqDiff, Nat.one_ne_zero, Nat.succ_ne_zero, Nat.zero_ne_one, reduceIte, List.set_cons_zero, List.set_cons_succ] at F8
    go_wp2_with fail
    refine Lv.call (HC3.out _) L8.out ?_
    intro w9 L9'
    have L9 := hide L9'
    have F9 := L9'.at
    clear L9' F8 L7
    simp only [AllAt, CellsAt, updL, List.map, Nat.zero_add, Nat.reduceAdd, and_true, World.size_alloc, World.heap_drewN, heap_drew, size_set, Nat.add_eq_left, Nat.left_eq_add, Nat.add_right_cancel_iff, Nat.reduceEqDiff, Nat.one_ne_zero, Nat.succ_ne_zero, Nat.zero_ne_one, reduceIte, List.set_cons_zero, List.set_cons_succ] at F9
    by_cases hr : okP i j k l
    · have K1 := fun W => join_ok a b c d i j k l W HP.out hr
      have K2 := fun W => join_ok e f g h i j k l W HQ.out hr
      by_cases f1 : fitP (jn a l 1 i d) (jn b l 1 j d) (jn c l 1 k d) (d * l)
      · have E1 : pe (jn a l 1 i d) (jn b l 1 j d) (jn c l 1 k d) (d * l) = 0 := if_pos f1
        by_cases f2 : fitP (jn e l 1 i h) (jn f l 1 j h) (jn g l 1 k h) (h * l)
        · have E2 : pe (jn e l 1 i h) (jn f l 1 j h) (jn g l 1 k h) (h * l) = 0 := if_pos f2
          have hF := order_join HP.out.1.1 HQ.out.1.1 hr.1.1 f1 f2
          have o1 : okP (p2 (jn a l 1 i d) (jn b l 1 j d) (jn c l 1 k d) (d * l)) (p3 (jn a l 1 i d) (jn b l 1 j d) (jn c l 1 k d) (d * l)) (p5 (jn a l 1 i d) (jn b l 1 j d) (jn c l 1 k d) (d * l)) (pd (jn a l 1 i d) (jn b l 1 j d) (jn c l 1 k d) (d * l)) := by unfold p2 p3 p5 pd; rw [if_pos f1, if_pos f1, if_pos f1, if_pos f1]; exact f1
          have o2 : okP (p2 (jn e l 1 i h) (jn f l 1 j h) (jn g l 1 k h) (h * l)) (p3 (jn e l 1 i h) (jn f l 1 j h) (jn g l 1 k h) (h * l)) (p5 (jn e l 1 i h) (jn f l 1 j h) (jn g l 1 k h) (h * l)) (pd (jn e l 1 i h) (jn f l 1 j h) (jn g l 1 k h) (h * l)) := by unfold p2 p3 p5 pd; rw [if_pos f2, if_pos f2, if_pos f2, if_pos f2]; exact f2
          have K3 := fun W => order_ok _ _ _ _ _ _ _ _ W o1 o2
          rw [hF, ← HS.out] at K3
          rw [E1] at K1
          rw [E2] at K2
          clear hF o1 o2 E1 E2 f1 f2 hr
          obtain ⟨x2, hx2⟩ : ∃ v, v = p2 (jn a l 1 i d) (jn b l 1 j d) (jn c l 1 k d) (d * l) := ⟨_, rfl⟩
          obtain ⟨x3, hx3⟩ : ∃ v, v = p3 (jn a l 1 i d) (jn b l 1 j d) (jn c l 1 k d) (d * l) := ⟨_, rfl⟩
          obtain ⟨x5, hx5⟩ : ∃ v, v = p5 (jn a l 1 i d) (jn b l 1 j d) (jn c l 1 k d) (d * l) := ⟨_, rfl⟩
          obtain ⟨xd, hxd⟩ : ∃ v, v = pd (jn a l 1 i d) (jn b l 1 j d) (jn c l 1 k d) (d * l) := ⟨_, rfl⟩
          obtain ⟨y2, hy2⟩ : ∃ v, v = p2 (jn e l 1 i h) (jn f l 1 j h) (jn g l 1 k h) (h * l) := ⟨_, rfl⟩
          obtain ⟨y3, hy3⟩ : ∃ v, v = p3 (jn e l 1 i h) (jn f l 1 j h) (jn g l 1 k h) (h * l) := ⟨_, rfl⟩
          obtain ⟨y5, hy5⟩ : ∃ v, v = p5 (jn e l 1 i h) (jn f l 1 j h) (jn g l 1 k h) (h * l) := ⟨_, rfl⟩
          obtain ⟨yd, hyd⟩ : ∃ v, v = pd (jn e l 1 i h) (jn f l 1 j h) (jn g l 1 k h) (h * l) := ⟨_, rfl⟩
          rw [← hx2, ← hx3, ← hx5, ← hxd] at K1 K3
          rw [← hy2, ← hy3, ← hy5, ← hyd] at K2 K3
          have HK1 := hide K1
          have HK2 := hide K2
          have HK3 := hide K3
          clear K1 K2 K3 hx2 hx3 hx5 hxd hy2 hy3 hy5 hyd
          go_wp2_with fail
          refine Lv.call (HK1.out _) L9.out ?_
          intro w10 L10'
          have L10 := hide L10'
          have F10 := L10'.at
          clear L10' F9 L8
          simp only [AllAt, CellsAt, updL, List.map, Nat.zero_add, Nat.reduceAdd, and_true, World.size_alloc, World.heap_drewN, heap_drew, size_set, Nat.add_eq_left, Nat.left_eq_add, Nat.add_right_cancel_iff, Nat.reduceEqDiff, Nat.one_ne_zero, Nat.succ_ne_zero, Nat.zero_ne_one, reduceIte, List.set_cons_zero, List.set_cons_succ] at F10
          unfold pitchR
          go_wp2_with fail
          refine Lv.call (HK2.out _) (L10.out.put _ _) ?_
          intro w11 L11'
          have L11 := hide L11'
          have F11 := L11'.at
          clear L11' F10 L9
          simp only [AllAt, CellsAt, updL, List.map, Nat.zero_add, Nat.reduceAdd, and_true, World.size_alloc, World.heap_drewN, heap_drew, size_set, Nat.add_eq_left, Nat.left_eq_add, Nat.add_right_cancel_iff, Nat.reduceEqDiff, Nat.one_ne_zero, Nat.succ_ne_zero, Nat.zero_ne_one, reduceIte, List.set_cons_zero, List.set_cons_succ] at F11
          unfold pitchR
          go_wp2_with fail
          refine Lv.call (HK3.out _) (L11.out.put _ _) ?_
          intro w12 L12'
          have L12 := hide L12'
          have F12 := L12'.at
          clear L12' F11 L10
          simp only [AllAt, CellsAt, updL, List.map, Nat.zero_add, Nat.reduceAdd, and_true, World.size_alloc, World.heap_drewN, heap_drew, size_set, Nat.add_eq_left, Nat.left_eq_add, Nat.add_right_cancel_iff, Nat.reduceEqDiff, Nat.one_ne_zero, Nat.succ_ne_zero, Nat.zero_ne_one, reduceIte, List.set_cons_zero, List.set_cons_succ] at F12
          go_wp2
          go_ret
          refine ⟨rfl, ?_⟩
          repeat (first | exact L12.out.below | refine Below.setCell ?_ (by first | omega | (simp; done) | (simp; omega)) _ | refine Below.alloc ?_ (by first | omega | (simp; done) | (simp; omega)) _ | refine below_drewN ?_ _ | refine Below.drew ?_)
        · have E2 : pe (jn e l 1 i h) (jn f l 1 j h) (jn g l 1 k h) (h * l) = 8 := if_neg f2
          rw [E1] at K1
          rw [E2] at K2
          have HK1 := hide K1
          have HK2 := hide K2
          clear K1 K2 E1 E2 f1 f2 hr
          go_wp2_with fail
          refine Lv.call (HK1.out _) L9.out ?_
          intro w10 L10'
          have L10 := hide L10'
          have F10 := L10'.at
          clear L10' F9 L8
          simp only [AllAt, CellsAt, updL, List.map, Nat.zero_add, Nat.reduceAdd, and_true, World.size_alloc, World.heap_drewN, heap_drew, size_set, Nat.add_eq_left, Nat.left_eq_add, Nat.add_right_cancel_iff, Nat.reduceEqDiff, Nat.one_ne_zero, Nat.succ_ne_zero, Nat.zero_ne_one, reduceIte, List.set_cons_zero, List.set_cons_succ] at F10
          unfold pitchR
          go_wp2_with fail
          refine Lv.call (HK2.out _) (L10.out.put _ _) ?_
          intro w11 L11'
          have L11 := hide L11'
          have F11 := L11'.at
          clear L11' F10 L9
          simp only [AllAt, CellsAt, updL, List.map, Nat.zero_add, Nat.reduceAdd, and_true, World.size_alloc, World.heap_drewN, heap_drew, size_set, Nat.add_eq_left, Nat.left_eq_add, Nat.add_right_cancel_iff, Nat.reduceEqDiff, Nat.one_ne_zero, Nat.succ_ne_zero, Nat.zero_ne_one, reduceIte, List.set_cons_zero, List.set_cons_succ] at F11
          unfold pitchR
          go_wp2
          go_ret
          refine ⟨rfl, ?_⟩
          repeat (first | exact L11.out.below | refine Below.setCell ?_ (by first | omega | (simp; done) | (simp; omega)) _ | refine Below.alloc ?_ (by first | omega | (simp; done) | (simp; omega)) _ | refine below_drewN ?_ _ | refine Below.drew ?_)
      · have E1 : pe (jn a l 1 i d) (jn b l 1 j d) (jn c l 1 k d) (d * l) = 8 := if_neg f1
        rw [E1] at K1
        have HK1 := hide K1
        have HK2 := hide K2
        clear K1 K2 E1 f1 hr
        go_wp2_with fail
        refine Lv.call (HK1.out _) L9.out ?_
        intro w10 L10'
        have L10 := hide L10'
        have F10 := L10'.at
        clear L10' F9 L8
        simp only [AllAt, CellsAt, updL, List.map, Nat.zero_add, Nat.reduceAdd, and_true, World.size_alloc, World.heap_drewN, heap_drew, size_set, Nat.add_eq_left, Nat.left_eq_add, Nat.add_right_cancel_iff, Nat.reduceEqDiff, Nat.one_ne_zero, Nat.succ_ne_zero, Nat.zero_ne_one, reduceIte, List.set_cons_zero, List.set_cons_succ] at F10
        unfold pitchR
        go_wp2_with fail
        refine Lv.call (HK2.out _) (L10.out.put _ _) ?_
        intro w11 L11'
        have L11 := hide L11'
        have F11 := L11'.at
        clear L11' F10 L9
        simp only [AllAt, CellsAt, updL, List.map, Nat.zero_add, Nat.reduceAdd, and_true, World.size_alloc, World.heap_drewN, heap_drew, size_set, Nat.add_eq_left, Nat.left_eq_add, Nat.add_right_cancel_iff, Nat.reduceEqDiff, Nat.one_ne_zero, Nat.succ_ne_zero, Nat.zero_ne_one, reduceIte, List.set_cons_zero, List.set_cons_succ] at F11
        unfold pitchR
        go_wp2
        go_ret
        refine ⟨rfl, ?_⟩
        repeat (first | exact L11.out.below | refine Below.setCell ?_ (by first | omega | (simp; done) | (simp; omega)) _ | refine Below.alloc ?_ (by first | omega | (simp; done) | (simp; omega)) _ | refine below_drewN ?_ _ | refine Below.drew ?_)
    · have B1 : Hid (¬ (okP a b c d ∧ okP i j k l)) := fun x => hr x.2
      have B2 : Hid (¬ (okP e f g h ∧ okP i j k l)) := fun x => hr x.2
      clear hr
      go_wp2_with fail
      refine Lv.call (join_bad a b c d i j k l _ B1.out) L9.out ?_
      intro w10 L10'
      have L10 := hide L10'
      have F10 := L10'.at
      clear L10' F9 L8
      simp only [AllAt, CellsAt, updL, List.map, Nat.zero_add, Nat.reduceAdd, and_true, World.size_alloc, World.heap_drewN, heap_drew, size_set, Nat.add_eq_left, Nat.left_eq_add, Nat.add_right_cancel_iff, Nat.reduceEqDiff, Nat.one_ne_zero, Nat.succ_ne_zero, Nat.zero_ne_one, reduceIte, List.set_cons_zero, List.set_cons_succ] at F10
      unfold pitchR
      go_wp2_with fail
      refine Lv.call (join_bad e f g h i j k l _ B2.out) (L10.out.put _ _) ?_
      intro w11 L11'
      have L11 := hide L11'
      have F11 := L11'.at
      clear L11' F10 L9
      simp only [AllAt, CellsAt, updL, List.map, Nat.zero_add, Nat.reduceAdd, and_true, World.size_alloc, World.heap_drewN, heap_drew, size_set, Nat.add_eq_left, Nat.left_eq_add, Nat.add_right_cancel_iff, Nat.reduceEqDiff, Nat.one_ne_zero, Nat.succ_ne_zero, Nat.zero_ne_one, reduceIte, List.set_cons_zero, List.set_cons_succ] at F11
      unfold pitchR
      go_wp2
      go_ret
      refine ⟨rfl, ?_⟩
      repeat (first | exact L11.out.below | refine Below.setCell ?_ (by first | omega | (simp; done) | (simp; omega)) _ | refine Below.alloc ?_ (by first | omega | (simp; done) | (simp; omega)) _ | refine below_drewN ?_ _ | refine Below.drew ?_)
  · have HE : Hid (pitchesErr a b c d e f g h = 2) := if_neg hpq
    have HB := hide hpq
    clear hpq
    go_wp2_with fail
    refine Lv.call (order_bad a b c d e f g h _ HB.out) L5.out ?_
    intro w6 L6'
    have L6 := hide L6'
    have F6 := L6'.at
    clear L6' F5 L4
    simp only [AllAt, CellsAt, updL, List.map, Nat.zero_add, Nat.reduceAdd, and_true, World.size_alloc, World.heap_drewN, heap_drew, size_set, Nat.add_eq_left, Nat.left_eq_add, Nat.add_right_cancel_iff, Nat.reduceEqDiff, Nat.one_ne_zero, Nat.succ_ne_zero, Nat.zero_ne_one, reduceIte, List.set_cons_zero, List.set_cons_succ] at F6
    go_wp2_with fail
    refine Lv.call (lawPitches2_any _ _ a b c d e f g h _ (Blk.new _ _ _ _ (by simp))) (L6.out.put _ _) ?_
    intro w7 L7'
    have L7 := hide L7'
    have F7 := L7'.at
    clear L7' F6 L5
    simp only [AllAt, CellsAt, updL, List.map, Nat.zero_add, Nat.reduceAdd, and_true, World.size_alloc, World.heap_drewN, heap_drew, size_set, Nat.add_eq_left, Nat.left_eq_add, Nat.add_right_cancel_iff, Nat.reduceEqDiff, Nat.one_ne_zero, Nat.succ_ne_zero, Nat.zero_ne_one, reduceIte, List.set_cons_zero, List.set_cons_succ] at F7
    rw [HE.out]
    go_wp2
    go_ret
    refine ⟨rfl, ?_⟩
    repeat (first | exact L7.out.below | refine Below.setCell ?_ (by first | omega | (simp; done) | (simp; omega)) _ | refine Below.alloc ?_ (by first | omega | (simp; done) | (simp; omega)) _ | refine below_drewN ?_ _ | refine Below.drew ?_)
set_option maxRecDepth 100000 in
theorem numberOrders_lifted (os : Os) (started : os.Started) (H : Type) (enc : TypeId × Value → H) :
    ReturnsInHanded {} Try.checked os 8 .any (Rows.numberOrdersSpec.pre6 enc Try.prog Try.f8 Rows.numberOrdersRow.domain false) (Rows.numberOrdersSpec.post enc Try.prog Try.f8 false true false false) := by
  refine returnsInHanded_of_change (C := Try.checked) (by kernel_rfl) started (by kernel_rfl) Try.func8
    (ChangeSpec.witness6 (enc := enc) (C := Try.checked) false ⟨#[], #[.agg #[.int .i64 0, .int .i64 0, .int .i64 0, .int .i64 0], .agg #[.int .i64 0, .int .i64 0, .int .i64 0, .int .i64 0], .agg #[.int .i64 0, .int .i64 0, .int .i64 0, .int .i64 0]], []⟩ 8 (by kernel_rfl) (by kernel_rfl) (by kernel_rfl) (by kernel_rfl)) ?_
  intro W base args ds gs before hval0 hW hcnd _
  have hval : ∀ (j : Nat) t v, Try.f8.params[j]? = some t → args[j]? = some v → Value.okWide Try.prog W .any base t v := hval0
  have hW' := hW
  obtain ⟨p, q, hA0, hV, rfl, hfz, hnd⟩ := hW
  have hA : DataW.TrodAll enc Try.prog W 0 (fun _ => true) true Try.f8.params.toList args.toList ds p := hA0
  rw [Try.params8] at hA hval
  obtain ⟨v0, vs0, d0, ds0, p0, q0, hargs, rfl, rfl, h0, r0⟩ := trodAll_cons hA
  obtain ⟨v1, vs1, d1, ds1, p1, q1, rfl, rfl, rfl, h1, r1⟩ := trodAll_cons r0
  obtain ⟨v2, vs2, d2, ds2, p2, q2, rfl, rfl, rfl, h2, r2⟩ := trodAll_cons r1
  obtain ⟨rfl, rfl, rfl⟩ := trodAll_nil r2
  obtain rfl : args = #[v0, v1, v2] := by cases args; simp_all
  obtain ⟨rfl, rfl⟩ := trodVars_none hV
  obtain ⟨c0_0, c0_1, c0_2, c0_3, y0_0, y0_1, y0_2, y0_3, m0, rfl, rfl, rfl, hy0_0, hy0_1, hy0_2, hy0_3⟩ := open_agg4 Try.underlying47 (by kernel_rfl) (by kernel_rfl) (hval 0 47 v0 rfl rfl) h0
  obtain ⟨a, e_a, rfl, w_a⟩ := DataW.trod_int Try.underlying3 hy0_0
  obtain ⟨b, e_b, rfl, w_b⟩ := DataW.trod_int Try.underlying3 hy0_1
  obtain ⟨c, e_c, rfl, w_c⟩ := DataW.trod_int Try.underlying3 hy0_2
  obtain ⟨d, e_d, rfl, w_d⟩ := DataW.trod_int Try.underlying3 hy0_3
  simp at e_a e_b e_c e_d
  subst e_a e_b e_c e_d
  obtain ⟨c1_0, c1_1, c1_2, c1_3, y1_0, y1_1, y1_2, y1_3, m1, rfl, rfl, rfl, hy1_0, hy1_1, hy1_2, hy1_3⟩ := open_agg4 Try.underlying47 (by kernel_rfl) (by kernel_rfl) (hval 1 47 v1 rfl rfl) h1
  obtain ⟨e, e_e, rfl, w_e⟩ := DataW.trod_int Try.underlying3 hy1_0
  obtain ⟨f, e_f, rfl, w_f⟩ := DataW.trod_int Try.underlying3 hy1_1
  obtain ⟨g, e_g, rfl, w_g⟩ := DataW.trod_int Try.underlying3 hy1_2
  obtain ⟨h, e_h, rfl, w_h⟩ := DataW.trod_int Try.underlying3 hy1_3
  simp at e_e e_f e_g e_h
  subst e_e e_f e_g e_h
  obtain ⟨c2_0, c2_1, c2_2, c2_3, y2_0, y2_1, y2_2, y2_3, m2, rfl, rfl, rfl, hy2_0, hy2_1, hy2_2, hy2_3⟩ := open_agg4 Try.underlying47 (by kernel_rfl) (by kernel_rfl) (hval 2 47 v2 rfl rfl) h2
  obtain ⟨i, e_i, rfl, w_i⟩ := DataW.trod_int Try.underlying3 hy2_0
  obtain ⟨j, e_j, rfl, w_j⟩ := DataW.trod_int Try.underlying3 hy2_1
  obtain ⟨k, e_k, rfl, w_k⟩ := DataW.trod_int Try.underlying3 hy2_2
  obtain ⟨l, e_l, rfl, w_l⟩ := DataW.trod_int Try.underlying3 hy2_3
  simp at e_i e_j e_k e_l
  subst e_i e_j e_k e_l
  clear hA0 hval0
  simp only [List.append_nil] at hW'
  refine (numberOrders_walk a b c d e f g h i j k l W (wfI w_a) (wfI w_b) (wfI w_c) (wfI w_d) (wfI w_e) (wfI w_f) (wfI w_g) (wfI w_h) (wfI w_i) (wfI w_j) (wfI w_k) (wfI w_l)).mono fun e W' ⟨he, hb⟩ => ?_
  subst he
  exact ⟨_, rfl, law_post (pa := []) (pv := []) hW' (fun _ _ _ => (trodAll_cons_mk (shut_bool Try.underlying4 _) trodAll_mk0)) (fun sp _ => (trodAll_cons_mk (shut_agg4 (y0 := (.lit (.int .i64 a), [])) (y1 := (.lit (.int .i64 b), [])) (y2 := (.lit (.int .i64 c), [])) (y3 := (.lit (.int .i64 d), [])) Try.underlying47 (by kernel_rfl) (by kernel_rfl) ⟨1, by simp [DataW.trod, Try.underlying3, w_a]⟩ ⟨1, by simp [DataW.trod, Try.underlying3, w_b]⟩ ⟨1, by simp [DataW.trod, Try.underlying3, w_c]⟩ ⟨1, by simp [DataW.trod, Try.underlying3, w_d]⟩) (trodAll_cons_mk (shut_agg4 (y0 := (.lit (.int .i64 e), [])) (y1 := (.lit (.int .i64 f), [])) (y2 := (.lit (.int .i64 g), [])) (y3 := (.lit (.int .i64 h), [])) Try.underlying47 (by kernel_rfl) (by kernel_rfl) ⟨1, by simp [DataW.trod, Try.underlying3, w_e]⟩ ⟨1, by simp [DataW.trod, Try.underlying3, w_f]⟩ ⟨1, by simp [DataW.trod, Try.underlying3, w_g]⟩ ⟨1, by simp [DataW.trod, Try.underlying3, w_h]⟩) (trodAll_cons_mk (shut_agg4 (y0 := (.lit (.int .i64 i), [])) (y1 := (.lit (.int .i64 j), [])) (y2 := (.lit (.int .i64 k), [])) (y3 := (.lit (.int .i64 l), [])) Try.underlying47 (by kernel_rfl) (by kernel_rfl) ⟨1, by simp [DataW.trod, Try.underlying3, w_i]⟩ ⟨1, by simp [DataW.trod, Try.underlying3, w_j]⟩ ⟨1, by simp [DataW.trod, Try.underlying3, w_k]⟩ ⟨1, by simp [DataW.trod, Try.underlying3, w_l]⟩) trodAll_mk0)))) (fun _ _ => rfl) rfl hb⟩

theorem numberOrders_holds : Rows.NumberOrdersSaid :=
  OpenClaim.holds_of_wide 8 Try.f8 rfl rfl rfl rfl rfl rfl rfl ⟨rfl, rfl, rfl, rfl, rfl⟩ rfl rfl rfl rfl rfl (by kernel_rfl) Try.func8 (by kernel_rfl)
    (of_decide_eq_true (by kernel_rfl)) (by unfold Func.isWrapper; first | (rw [if_pos (by decide +kernel)]; kernel_rfl) | (rw [if_neg (by decide +kernel)]; exact ⟨rfl, rfl⟩))
    (fun os started H enc _ => numberOrders_lifted os started H enc)
end Go.Proofs.Ytfmonpjoadjimaa
