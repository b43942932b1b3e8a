/- Contracts of agraffebase.Mod, agrafferef01.down, up, Scaled. -/
import Derived.Test.YtnilfacofikoaaaScal
import Derived.Test.YtnilfacofikoaaaFloor
import Derived.Test.YtnilfacofikoaaaRefFrac
namespace Go.Proofs.Ytnilfacofikoaaa
open Go.RowKit
set_option linter.unusedVariables false
set_option linter.unusedSimpArgs false

theorem mod_neg {n m : Int} (hm : 1 ≤ m) (h : n.tmod m < 0) : n.tmod m + m = n % m := by
  have e := Int.mul_tdiv_add_tmod n m
  have l : -m < n.tmod m := by
    have := Int.tmod_lt_of_pos (-n) (b := m) (by omega)
    rw [Int.neg_tmod] at this
    omega
  refine ((Int.ediv_emod_unique (a := n) (b := m) (r := n.tmod m + m) (q := n.tdiv m - 1) (by omega)).2 ⟨?_, by omega, by omega⟩).2.symm
  rw [Int.mul_sub, Int.mul_one]
  omega
theorem mod_pos {n m : Int} (hm : 1 ≤ m) (h : 0 ≤ n.tmod m) : n.tmod m = n % m := by
  have e := Int.mul_tdiv_add_tmod n m
  have l := Int.tmod_lt_of_pos n (b := m) (by omega)
  exact ((Int.ediv_emod_unique (a := n) (b := m) (r := n.tmod m) (q := n.tdiv m) (by omega)).2 ⟨by omega, h, l⟩).2.symm
theorem mod_any (n m : Int) (w : World) (h0 : -9000000000000000000 ≤ n) (h1 : n ≤ 9000000000000000000) (hm : 1 ≤ m) (hm2 : m ≤ 9000000000000000000) :
    Calls Try.prog 45 #[.int .i64 n, .int .i64 m] w fun e w' => e = .returned (.int .i64 (n % m)) ∧ w = w' := by
  have hl := Int.emod_lt_of_pos n (show 0 < m by omega)
  have hg := Int.emod_nonneg n (show m ≠ 0 by omega)
  by_cases h3 : n.tmod m < 0
  · have H := hide (mod_neg hm h3)
    have hn : ¬ 0 ≤ n := fun h => by have := Int.tmod_nonneg m h; omega
    have hlo : -m < n.tmod m := by
      have := Int.tmod_lt_of_pos (-n) (b := m) (by omega)
      rw [Int.neg_tmod] at this
      omega
    go_enter Try.func45, Try.ntmps45
    go_wp2
    go_ret
    exact ⟨ret_int (by first | exact H.out | (rw [IntKind.wrap_i64]; have := H.out; omega)), rfl⟩
  · have H := hide (mod_pos hm (show 0 ≤ n.tmod m by omega))
    by_cases hn : 0 ≤ n
    · go_enter Try.func45, Try.ntmps45
      go_wp2
      go_ret
      exact ⟨ret_int (by first | rfl | exact H.out), rfl⟩
    · go_enter Try.func45, Try.ntmps45
      go_wp2
      go_ret
      exact ⟨ret_int H.out, rfl⟩

structure DownF (x m d q r p s f X : Int) : Prop where
  qb : -1000000000000000 ≤ q ∧ q ≤ 1000000000000000
  rb : 0 ≤ r ∧ r < d
  hp : q * m = p
  hs : r * m = s
  hf : s / d = f
  sb : 0 ≤ s ∧ s ≤ 1000000000000000000
  fb : 0 ≤ f ∧ f ≤ 1000000000
  sum : p + f = X
theorem down_facts {x m d : Int} (hx : -1000000000000000 ≤ x ∧ x ≤ 1000000000000000) (hm : 0 ≤ m ∧ m ≤ 1000000000) (hd : 1 ≤ d ∧ d ≤ 1000000000) :
    DownF x m d (x / d) (x % d) (x / d * m) (x % d * m) (x % d * m / d) (x * m / d) := by
  have hq := ediv_bounds (n := x) (m := d) (B := 1000000000000000) hd.1 (by omega) hx.1 hx.2
  have hr0 := Int.emod_nonneg x (show d ≠ 0 by omega)
  have hr1 := Int.emod_lt_of_pos x (show 0 < d by omega)
  have hs0 : 0 ≤ x % d * m := Int.mul_nonneg hr0 hm.1
  have hs1 := mul_bound (x := x % d) (y := m) 1000000000 1000000000 (by omega) (by omega)
  rw [show (1000000000 * 1000000000 : Nat) = 1000000000000000000 from rfl] at hs1
  have hf0 : 0 ≤ x % d * m / d := Int.ediv_nonneg hs0 (by omega)
  have hf1 : x % d * m / d ≤ m := by
    have h1 : x % d * m ≤ m * d := by rw [Int.mul_comm m d]; exact Int.mul_le_mul_of_nonneg_right (by omega) hm.1
    have h2 := Int.ediv_le_ediv (show 0 < d by omega) h1
    rwa [Int.mul_ediv_cancel _ (show d ≠ 0 by omega)] at h2
  refine ⟨hq, ⟨hr0, hr1⟩, rfl, rfl, rfl, by omega, by omega, ?_⟩
  have e : x * m = x % d * m + d * (x / d * m) := by
    have h := Int.mul_ediv_add_emod x d
    have h2 : (d * (x / d) + x % d) * m = x * m := by rw [h]
    rw [Int.add_mul, Int.mul_assoc] at h2
    omega
  rw [e, Int.add_mul_ediv_left _ _ (show d ≠ 0 by omega)]
  omega
theorem down_far {q m u p f X : Int} (hm : 1 ≤ m ∧ m ≤ 1000000000) (hu : u = 2000000000000000 / m) (hA : u < (q.natAbs : Int)) (hp : q * m = p) (hf : 0 ≤ f ∧ f ≤ 1000000000) (hs : p + f = X) : ¬ okB X := by
  have h1 := Int.lt_ediv_add_one_mul_self 2000000000000000 (show 0 < m by omega)
  rw [← hu] at h1
  have h2 : (u + 1) * m ≤ (q.natAbs : Int) * m := Int.mul_le_mul_of_nonneg_right (by omega) (by omega)
  unfold okB
  by_cases hq : 0 ≤ q
  · rw [show (q.natAbs : Int) = q by omega, hp] at h2; omega
  · rw [show (q.natAbs : Int) = -q by omega, Int.neg_mul, hp] at h2; omega
theorem down_near {q m u p : Int} (hm : 1 ≤ m ∧ m ≤ 1000000000) (hu : u = 2000000000000000 / m) (hA : ¬ u < (q.natAbs : Int)) (hp : q * m = p) : -2000000000000000 ≤ p ∧ p ≤ 2000000000000000 := by
  have h1 := Int.ediv_mul_le 2000000000000000 (b := m) (by omega)
  rw [← hu] at h1
  have h2 : (q.natAbs : Int) * m ≤ u * m := Int.mul_le_mul_of_nonneg_right (by omega) (by omega)
  by_cases hq : 0 ≤ q
  · rw [show (q.natAbs : Int) = q by omega, hp] at h2
    have := Int.mul_nonneg hq (show 0 ≤ m by omega)
    omega
  · rw [show (q.natAbs : Int) = -q by omega, Int.neg_mul, hp] at h2
    have := Int.mul_nonneg (show 0 ≤ -q by omega) (show 0 ≤ m by omega)
    rw [Int.neg_mul] at this
    omega
def downV (X v : Int) : Value := .tuple #[.int .i64 v, .bool (inR X (-1000000000000000) 1000000000000000)]
set_option maxHeartbeats 1000000 in
set_option maxRecDepth 100000 in
theorem down_any (x m d : Int) (w : World) (hx : -1000000000000000 ≤ x ∧ x ≤ 1000000000000000) (hm : 0 ≤ m ∧ m ≤ 1000000000) (hd : 1 ≤ d ∧ d ≤ 1000000000) :
    Calls Try.prog 39 #[.int .i64 x, .agg #[.int .i64 m, .int .i64 d]] w fun e w' => ∃ v : Int, e = .returned (downV (x * m / d) v) ∧ (okB (x * m / d) → v = x * m / d) ∧ (-9000000000000000 ≤ v ∧ v ≤ 9000000000000000) ∧ Below w.heap.size w w' := by
  have H := down_facts hx hm hd
  have C1 := fun W => floor_any x d W (by omega) (by omega) (by omega) (by omega)
  have C2 := fun W => mod_any x d W (by omega) (by omega) (by omega) (by omega)
  have C3 := fun W => floor_any (x % d * m) d W (by have := H.sb; omega) (by have := H.sb; omega) (by omega) (by omega)
  obtain ⟨f, hf⟩ : ∃ f, f = x % d * m / d := ⟨_, rfl⟩
  obtain ⟨s, hs⟩ : ∃ f, f = x % d * m := ⟨_, rfl⟩
  obtain ⟨p, hp⟩ : ∃ f, f = x / d * m := ⟨_, rfl⟩
  obtain ⟨q, hq⟩ : ∃ f, f = x / d := ⟨_, rfl⟩
  obtain ⟨r, hr⟩ : ∃ f, f = x % d := ⟨_, rfl⟩
  obtain ⟨X, hX⟩ : ∃ f, f = x * m / d := ⟨_, rfl⟩
  rw [← hf] at H C3
  rw [← hs] at H C3
  rw [← hp] at H
  rw [← hq] at H C1
  rw [← hr] at H C2
  rw [← hX] at H ⊢
  clear hf hs hp hq hr hX
  obtain ⟨qb, rb, hp, hs, hf, sb, fb, sum⟩ := H
  have C4 := fun W => abs_any q W (by omega) (by omega)
  have C5 := fun W => abs_any m W (by omega) (by omega)
  obtain ⟨A, hA⟩ : ∃ A : Int, A = (q.natAbs : Int) := ⟨_, rfl⟩
  rw [← hA] at C4
  rw [show (m.natAbs : Int) = m by omega] at C5
  have H1 := hide C1
  have H2 := hide C2
  have H3 := hide C3
  have H4 := hide C4
  have H5 := hide C5
  clear C1 C2 C3 C4 C5
  have HS := hide sum
  have W2 : IntKind.i64.wrap (r * m) = s := by rw [hs, IntKind.wrap_i64]; omega
  by_cases hm0 : m = 0
  · have m1 : ((m : Int) != 0) = false := by rw [hm0]; rfl
    have hp0 : p = 0 := by rw [← hp, hm0, Int.mul_zero]
    have W1 : IntKind.i64.wrap (q * m) = p := by rw [hp, IntKind.wrap_i64]; omega
    have W3 : IntKind.i64.wrap (p + f) = X := by rw [sum, IntKind.wrap_i64]; omega
    have xb : -9000000000000000 ≤ X ∧ X ≤ 9000000000000000 := by omega
    clear hp hs hf sum hA hm0 hp0
    have L0 := hide (Lv.start w)
    go_enter Try.func39, Try.ntmps39
    go_wp2
    go_quiet ((first | (go_at_call 67; first | with_reducible exact still_call (H1.out _) | with_reducible exact quiet_same2 (H1.out _)) | (go_at_call 45; first | with_reducible exact still_call (H2.out _) | with_reducible exact quiet_same2 (H2.out _))))
    go_wp2
    go_quiet (fail)
    go_wp2
    go_quiet ((go_at_call 67; first | with_reducible exact still_call (H3.out _) | with_reducible exact quiet_same2 (H3.out _)))
    go_wp2_with (go_at_call 29; refine (within3_any _ _ _ _).mono ?_; rintro e w' ⟨rfl, rfl⟩)
    go_ret2
    refine ⟨X, rfl, fun _ => rfl, xb, ?_⟩
    repeat (first | exact Below.refl _ _ | refine Below.alloc ?_ (by first | omega | (simp; done) | (simp; omega)) _ | refine below_drewN ?_ _)
  · have m1 : ((m : Int) != 0) = true := by rw [bne_iff_ne]; exact hm0
    have m2 : ((m : Int) == 0) = false := by rw [beq_eq_false_iff_ne]; exact hm0
    obtain ⟨u, hu⟩ : ∃ u, u = 2000000000000000 / m := ⟨_, rfl⟩
    have hu2 : (2000000000000000 : Int).tdiv m = u := by rw [Int.tdiv_eq_ediv_of_nonneg (by omega), hu]
    have hub : 0 ≤ u ∧ u ≤ 2000000000000000 := by
      rw [hu]
      exact ⟨Int.ediv_nonneg (by omega) (by omega), Int.ediv_le_self _ (by omega)⟩
    have hu3 : (2000000000000000 : Int) / m = u := hu.symm
    have W5 : IntKind.i64.wrap u = u := by rw [IntKind.wrap_i64]; omega
    have HA0 : 0 ≤ A := by omega
    by_cases hlt : u < A
    · have hno := down_far (m := m) (by omega) hu (by rw [← hA]; exact hlt) hp fb sum
      have HQ : Hid (inR X (-1000000000000000) 1000000000000000 = false) := inR_no hno
      have HNO := hide hno
      have d1 : decide (u < A) = true := decide_eq_true hlt
      clear hp hs hf sum hA hu hno
      have L0 := hide (Lv.start w)
      go_enter Try.func39, Try.ntmps39
      go_wp2
      go_quiet ((first | (go_at_call 67; first | with_reducible exact still_call (H1.out _) | with_reducible exact quiet_same2 (H1.out _)) | (go_at_call 45; first | with_reducible exact still_call (H2.out _) | with_reducible exact quiet_same2 (H2.out _))))
      go_wp2
      go_quiet ((go_at_call 14; first | with_reducible exact still_call (H4.out _) | with_reducible exact quiet_same2 (H4.out _) | with_reducible exact still_call (H5.out _) | with_reducible exact quiet_same2 (H5.out _)))
      go_wp2
      go_ret2
      refine ⟨0, by unfold downV; rw [HQ.out]; rfl, fun h => absurd h HNO.out, by omega, ?_⟩
      repeat (first | exact Below.refl _ _ | refine Below.alloc ?_ (by first | omega | (simp; done) | (simp; omega)) _ | refine below_drewN ?_ _)
    · have hpb := down_near (m := m) (by omega) hu (by rw [← hA]; exact hlt) hp
      have W1 : IntKind.i64.wrap (q * m) = p := by rw [hp, IntKind.wrap_i64]; omega
      have W3 : IntKind.i64.wrap (p + f) = X := by rw [sum, IntKind.wrap_i64]; omega
      have xb : -9000000000000000 ≤ X ∧ X ≤ 9000000000000000 := by omega
      have d1 : decide (u < A) = false := decide_eq_false hlt
      clear hp hs hf sum hA hu hpb
      have L0 := hide (Lv.start w)
      go_enter Try.func39, Try.ntmps39
      go_wp2
      go_quiet ((first | (go_at_call 67; first | with_reducible exact still_call (H1.out _) | with_reducible exact quiet_same2 (H1.out _)) | (go_at_call 45; first | with_reducible exact still_call (H2.out _) | with_reducible exact quiet_same2 (H2.out _))))
      go_wp2
      go_quiet ((go_at_call 14; first | with_reducible exact still_call (H4.out _) | with_reducible exact quiet_same2 (H4.out _) | with_reducible exact still_call (H5.out _) | with_reducible exact quiet_same2 (H5.out _)))
      go_wp2
      go_quiet ((go_at_call 67; first | with_reducible exact still_call (H3.out _) | with_reducible exact quiet_same2 (H3.out _)))
      go_wp2_with (go_at_call 29; refine (within3_any _ _ _ _).mono ?_; rintro e w' ⟨rfl, rfl⟩)
      go_ret2
      refine ⟨X, rfl, fun _ => rfl, xb, ?_⟩
      repeat (first | exact Below.refl _ _ | refine Below.alloc ?_ (by first | omega | (simp; done) | (simp; omega)) _ | refine below_drewN ?_ _)
set_option maxHeartbeats 1000000 in
set_option maxRecDepth 100000 in
theorem up_any (x m d : Int) (w : World) (hx : -1000000000000000 ≤ x ∧ x ≤ 1000000000000000) (hm : 0 ≤ m ∧ m ≤ 1000000000) (hd : 1 ≤ d ∧ d ≤ 1000000000) :
    Calls Try.prog 40 #[.int .i64 x, .agg #[.int .i64 m, .int .i64 d]] w fun e w' => ∃ v : Int, e = .returned (downV (-(-(x * m) / d)) v) ∧ (okB (-(-(x * m) / d)) → v = -(-(x * m) / d)) ∧ Below w.heap.size w w' := by
  have C1 := fun W => down_any (-x) m d W (by omega) hm hd
  rw [Int.neg_mul] at C1
  obtain ⟨X, hX⟩ : ∃ f, f = -(x * m) / d := ⟨_, rfl⟩
  rw [← hX] at C1 ⊢
  have HI : Hid (inR X (-1000000000000000) 1000000000000000 = inR (-X) (-1000000000000000) 1000000000000000) := by
    show _ = _
    unfold inR
    rw [decide_eq_decide]; omega
  have H1 := hide C1
  clear C1 hX
  have L0 := hide (Lv.start w)
  go_enter Try.func40, Try.ntmps40
  go_wp2_with fail
  refine (H1.out _).mono ?_
  rintro e w1 ⟨v, rfl, hv, hvb, hb⟩
  have L1 := hide ((L0.out.put _ _).kept hb)
  have HV := hide hv
  clear hv hb
  unfold downV
  go_wp2
  go_ret2
  refine ⟨-v, by rw [HI.out]; rfl, fun h => by have := HV.out (by unfold okB at h ⊢; omega); omega, L1.out.below⟩
def scSum (a b m d : Int) : Prop := okB (scX a b m d) ∧ okB (scY a b m d)
theorem scX_neg {a b m d : Int} (h : m < 0) : -b * -m / d = scX a b m d := by unfold scX; rw [if_pos h, Int.neg_mul_neg]
theorem scY_neg {a b m d : Int} (h : m < 0) : -(-(-a * -m) / d) = scY a b m d := by unfold scY; rw [if_pos h, Int.neg_mul_neg]
theorem scX_pos {a b m d : Int} (h : ¬ m < 0) : a * m / d = scX a b m d := by unfold scX; rw [if_neg h]
theorem scY_pos {a b m d : Int} (h : ¬ m < 0) : -(-(b * m) / d) = scY a b m d := by unfold scY; rw [if_neg h]
set_option maxHeartbeats 1000000 in
set_option maxRecDepth 100000 in
theorem refScaled_any (a b m d : Int) (w : World) (ha : okB a) (hb : okB b) (hf : okF m d) :
    Calls Try.prog 13 #[.agg #[.int .i64 a, .int .i64 b], .agg #[.int .i64 m, .int .i64 d]] w fun e w' => e = .returned (scR a b m d) ∧ Below w.heap.size w w' := by
  obtain ⟨hlow, hm, hdm⟩ := hf
  have hd : 1 ≤ d ∧ d ≤ 1000000000 := ⟨hlow.1, hdm⟩
  unfold okB at ha hb
  clear hlow hdm
  by_cases hn : m < 0
  · have C1 := fun W => down_any (-b) (-m) d W (by omega) (by omega) hd
    have C2 := fun W => up_any (-a) (-m) d W (by omega) (by omega) hd
    rw [scX_neg (a := a) hn] at C1
    rw [scY_neg (b := b) hn] at C2
    have hd0 : -9223372036854775808 ≤ d := by omega
    obtain ⟨X, hX⟩ : ∃ f, f = scX a b m d := ⟨_, rfl⟩
    obtain ⟨Y, hY⟩ : ∃ f, f = scY a b m d := ⟨_, rfl⟩
    rw [← hX] at C1
    rw [← hY] at C2
    have HR : Hid (scR a b m d = if okB X ∧ okB Y then rangeT X Y 0 else rangeT 0 0 8) := by unfold scR Hid; rw [← hX, ← hY]
    have H1 := hide C1
    have H2 := hide C2
    clear C1 C2 hX hY
    by_cases h1 : okB X
    · have g1 : inR X (-1000000000000000) 1000000000000000 = true := inR_yes h1
      by_cases h2 : okB Y
      · have g2 : inR Y (-1000000000000000) 1000000000000000 = true := inR_yes h2
        have HQ : Hid (scR a b m d = rangeT X Y 0) := HR.out.trans (if_pos ⟨h1, h2⟩)
        have K1 := hide h1
        have K2 := hide h2
        clear h1 h2
        have L0 := hide (Lv.start w)
        go_enter Try.func13, Try.ntmps13
        go_wp2
        go_region
        have L9 := hide (((L0.out.put [.int .i64 (-b), .int .i64 (-a)] 23).put [.int .i64 (-m), .int .i64 d] 25).put [.int .i64 0, .int .i64 0] 23).drew
        go_wp2_with fail
        refine (H1.out _).mono ?_
        rintro e w1 ⟨v, rfl, hv, _, hb⟩
        have HV := hide hv
        clear hv
        have L1 := hide (L9.out.kept hb)
        clear hb
        have F1 := L1.out.at
        simp only [AllAt, CellsAt, updL, List.map, Nat.zero_add, Nat.reduceAdd, and_true, World.size_alloc, World.heap_drewN, heap_drew, size_set, Nat.add_eq_left, Nat.left_eq_add, Nat.add_right_cancel_iff, ne_up2, ne_dn2, ne_up3, ne_dn3, ne_up4, ne_dn4, Nat.reduceEqDiff, Nat.one_ne_zero, Nat.succ_ne_zero, Nat.zero_ne_one, reduceIte, List.set_cons_zero, List.set_cons_succ] at F1
        unfold downV
        go_wp2_with fail
        refine (H2.out _).mono ?_
        rintro e w2 ⟨u, rfl, hu, hb⟩
        have HU := hide hu
        clear hu
        have L2 := hide (L1.out.kept hb)
        clear hb F1
        have F2 := L2.out.at
        simp only [AllAt, CellsAt, updL, List.map, Nat.zero_add, Nat.reduceAdd, and_true, World.size_alloc, World.heap_drewN, heap_drew, size_set, Nat.add_eq_left, Nat.left_eq_add, Nat.add_right_cancel_iff, ne_up2, ne_dn2, ne_up3, ne_dn3, ne_up4, ne_dn4, Nat.reduceEqDiff, Nat.one_ne_zero, Nat.succ_ne_zero, Nat.zero_ne_one, reduceIte, List.set_cons_zero, List.set_cons_succ] at F2
        unfold downV
        obtain rfl := HV.out K1.out
        obtain rfl := HU.out K2.out
        go_wp2
        refine bodyPost_ret (v := rangeT v u 0) (by simp [results, Try.results13, go_sem, F2, rangeT]) rfl ⟨by rw [HQ.out], ?_⟩
        repeat (first | (with_reducible exact L2.out.below) | refine Below.setCell ?_ (by first | omega | (simp; done) | (simp; omega)) _ | refine Below.alloc ?_ (by first | omega | (simp; done) | (simp; omega)) _ | refine below_drewN ?_ _ | refine Below.drew ?_)
      · have g2 : inR Y (-1000000000000000) 1000000000000000 = false := inR_no h2
        have HQ : Hid (scR a b m d = rangeT 0 0 8) := HR.out.trans (if_neg fun h => h2 h.2)
        clear h1 h2
        have L0 := hide (Lv.start w)
        go_enter Try.func13, Try.ntmps13
        go_wp2
        go_region
        have L9 := hide (((L0.out.put [.int .i64 (-b), .int .i64 (-a)] 23).put [.int .i64 (-m), .int .i64 d] 25).put [.int .i64 0, .int .i64 0] 23).drew
        go_wp2_with fail
        refine (H1.out _).mono ?_
        rintro e w1 ⟨v, rfl, hv, _, hb⟩
        have HV := hide hv
        clear hv
        have L1 := hide (L9.out.kept hb)
        clear hb
        have F1 := L1.out.at
        simp only [AllAt, CellsAt, updL, List.map, Nat.zero_add, Nat.reduceAdd, and_true, World.size_alloc, World.heap_drewN, heap_drew, size_set, Nat.add_eq_left, Nat.left_eq_add, Nat.add_right_cancel_iff, ne_up2, ne_dn2, ne_up3, ne_dn3, ne_up4, ne_dn4, Nat.reduceEqDiff, Nat.one_ne_zero, Nat.succ_ne_zero, Nat.zero_ne_one, reduceIte, List.set_cons_zero, List.set_cons_succ] at F1
        unfold downV
        go_wp2_with fail
        refine (H2.out _).mono ?_
        rintro e w2 ⟨u, rfl, hu, hb⟩
        have HU := hide hu
        clear hu
        have L2 := hide (L1.out.kept hb)
        clear hb F1
        have F2 := L2.out.at
        simp only [AllAt, CellsAt, updL, List.map, Nat.zero_add, Nat.reduceAdd, and_true, World.size_alloc, World.heap_drewN, heap_drew, size_set, Nat.add_eq_left, Nat.left_eq_add, Nat.add_right_cancel_iff, ne_up2, ne_dn2, ne_up3, ne_dn3, ne_up4, ne_dn4, Nat.reduceEqDiff, Nat.one_ne_zero, Nat.succ_ne_zero, Nat.zero_ne_one, reduceIte, List.set_cons_zero, List.set_cons_succ] at F2
        unfold downV
        go_wp2
        refine bodyPost_ret (v := rangeT 0 0 8) (by simp [results, Try.results13, go_sem, F2, rangeT]) rfl ⟨by rw [HQ.out], ?_⟩
        repeat (first | (with_reducible exact L2.out.below) | refine Below.setCell ?_ (by first | omega | (simp; done) | (simp; omega)) _ | refine Below.alloc ?_ (by first | omega | (simp; done) | (simp; omega)) _ | refine below_drewN ?_ _ | refine Below.drew ?_)
    · have g1 : inR X (-1000000000000000) 1000000000000000 = false := inR_no h1
      have HQ : Hid (scR a b m d = rangeT 0 0 8) := HR.out.trans (if_neg fun h => h1 h.1)
      clear h1
      have L0 := hide (Lv.start w)
      go_enter Try.func13, Try.ntmps13
      go_wp2
      go_region
      have L9 := hide (((L0.out.put [.int .i64 (-b), .int .i64 (-a)] 23).put [.int .i64 (-m), .int .i64 d] 25).put [.int .i64 0, .int .i64 0] 23).drew
      go_wp2_with fail
      refine (H1.out _).mono ?_
      rintro e w1 ⟨v, rfl, hv, _, hb⟩
      have HV := hide hv
      clear hv
      have L1 := hide (L9.out.kept hb)
      clear hb
      have F1 := L1.out.at
      simp only [AllAt, CellsAt, updL, List.map, Nat.zero_add, Nat.reduceAdd, and_true, World.size_alloc, World.heap_drewN, heap_drew, size_set, Nat.add_eq_left, Nat.left_eq_add, Nat.add_right_cancel_iff, ne_up2, ne_dn2, ne_up3, ne_dn3, ne_up4, ne_dn4, Nat.reduceEqDiff, Nat.one_ne_zero, Nat.succ_ne_zero, Nat.zero_ne_one, reduceIte, List.set_cons_zero, List.set_cons_succ] at F1
      unfold downV
      go_wp2_with fail
      refine (H2.out _).mono ?_
      rintro e w2 ⟨u, rfl, hu, hb⟩
      have HU := hide hu
      clear hu
      have L2 := hide (L1.out.kept hb)
      clear hb F1
      have F2 := L2.out.at
      simp only [AllAt, CellsAt, updL, List.map, Nat.zero_add, Nat.reduceAdd, and_true, World.size_alloc, World.heap_drewN, heap_drew, size_set, Nat.add_eq_left, Nat.left_eq_add, Nat.add_right_cancel_iff, ne_up2, ne_dn2, ne_up3, ne_dn3, ne_up4, ne_dn4, Nat.reduceEqDiff, Nat.one_ne_zero, Nat.succ_ne_zero, Nat.zero_ne_one, reduceIte, List.set_cons_zero, List.set_cons_succ] at F2
      unfold downV
      go_wp2
      refine bodyPost_ret (v := rangeT 0 0 8) (by simp [results, Try.results13, go_sem, F2, rangeT]) rfl ⟨by rw [HQ.out], ?_⟩
      repeat (first | (with_reducible exact L2.out.below) | refine Below.setCell ?_ (by first | omega | (simp; done) | (simp; omega)) _ | refine Below.alloc ?_ (by first | omega | (simp; done) | (simp; omega)) _ | refine below_drewN ?_ _ | refine Below.drew ?_)
  · have C1 := fun W => down_any a m d W (by omega) (by omega) hd
    have C2 := fun W => up_any b m d W (by omega) (by omega) hd
    rw [scX_pos (b := b) hn] at C1
    rw [scY_pos (a := a) hn] at C2
    obtain ⟨X, hX⟩ : ∃ f, f = scX a b m d := ⟨_, rfl⟩
    obtain ⟨Y, hY⟩ : ∃ f, f = scY a b m d := ⟨_, rfl⟩
    rw [← hX] at C1
    rw [← hY] at C2
    have HR : Hid (scR a b m d = if okB X ∧ okB Y then rangeT X Y 0 else rangeT 0 0 8) := by unfold scR Hid; rw [← hX, ← hY]
    have H1 := hide C1
    have H2 := hide C2
    clear C1 C2 hX hY
    by_cases h1 : okB X
    · have g1 : inR X (-1000000000000000) 1000000000000000 = true := inR_yes h1
      by_cases h2 : okB Y
      · have g2 : inR Y (-1000000000000000) 1000000000000000 = true := inR_yes h2
        have HQ : Hid (scR a b m d = rangeT X Y 0) := HR.out.trans (if_pos ⟨h1, h2⟩)
        have K1 := hide h1
        have K2 := hide h2
        clear h1 h2
        have L0 := hide (Lv.start w)
        go_enter Try.func13, Try.ntmps13
        have L9 := hide (((L0.out.put [.int .i64 a, .int .i64 b] 23).put [.int .i64 m, .int .i64 d] 25).put [.int .i64 0, .int .i64 0] 23)
        go_wp2_with fail
        refine (H1.out _).mono ?_
        rintro e w1 ⟨v, rfl, hv, _, hb⟩
        have HV := hide hv
        clear hv
        have L1 := hide (L9.out.kept hb)
        clear hb
        have F1 := L1.out.at
        simp only [AllAt, CellsAt, updL, List.map, Nat.zero_add, Nat.reduceAdd, and_true, World.size_alloc, World.heap_drewN, heap_drew, size_set, Nat.add_eq_left, Nat.left_eq_add, Nat.add_right_cancel_iff, ne_up2, ne_dn2, ne_up3, ne_dn3, ne_up4, ne_dn4, Nat.reduceEqDiff, Nat.one_ne_zero, Nat.succ_ne_zero, Nat.zero_ne_one, reduceIte, List.set_cons_zero, List.set_cons_succ] at F1
        unfold downV
        go_wp2_with fail
        refine (H2.out _).mono ?_
        rintro e w2 ⟨u, rfl, hu, hb⟩
        have HU := hide hu
        clear hu
        have L2 := hide (L1.out.kept hb)
        clear hb F1
        have F2 := L2.out.at
        simp only [AllAt, CellsAt, updL, List.map, Nat.zero_add, Nat.reduceAdd, and_true, World.size_alloc, World.heap_drewN, heap_drew, size_set, Nat.add_eq_left, Nat.left_eq_add, Nat.add_right_cancel_iff, ne_up2, ne_dn2, ne_up3, ne_dn3, ne_up4, ne_dn4, Nat.reduceEqDiff, Nat.one_ne_zero, Nat.succ_ne_zero, Nat.zero_ne_one, reduceIte, List.set_cons_zero, List.set_cons_succ] at F2
        unfold downV
        obtain rfl := HV.out K1.out
        obtain rfl := HU.out K2.out
        go_wp2
        refine bodyPost_ret (v := rangeT v u 0) (by simp [results, Try.results13, go_sem, F2, rangeT]) rfl ⟨by rw [HQ.out], ?_⟩
        repeat (first | (with_reducible exact L2.out.below) | refine Below.setCell ?_ (by first | omega | (simp; done) | (simp; omega)) _ | refine Below.alloc ?_ (by first | omega | (simp; done) | (simp; omega)) _ | refine below_drewN ?_ _ | refine Below.drew ?_)
      · have g2 : inR Y (-1000000000000000) 1000000000000000 = false := inR_no h2
        have HQ : Hid (scR a b m d = rangeT 0 0 8) := HR.out.trans (if_neg fun h => h2 h.2)
        clear h1 h2
        have L0 := hide (Lv.start w)
        go_enter Try.func13, Try.ntmps13
        have L9 := hide (((L0.out.put [.int .i64 a, .int .i64 b] 23).put [.int .i64 m, .int .i64 d] 25).put [.int .i64 0, .int .i64 0] 23)
        go_wp2_with fail
        refine (H1.out _).mono ?_
        rintro e w1 ⟨v, rfl, hv, _, hb⟩
        have HV := hide hv
        clear hv
        have L1 := hide (L9.out.kept hb)
        clear hb
        have F1 := L1.out.at
        simp only [AllAt, CellsAt, updL, List.map, Nat.zero_add, Nat.reduceAdd, and_true, World.size_alloc, World.heap_drewN, heap_drew, size_set, Nat.add_eq_left, Nat.left_eq_add, Nat.add_right_cancel_iff, ne_up2, ne_dn2, ne_up3, ne_dn3, ne_up4, ne_dn4, Nat.reduceEqDiff, Nat.one_ne_zero, Nat.succ_ne_zero, Nat.zero_ne_one, reduceIte, List.set_cons_zero, List.set_cons_succ] at F1
        unfold downV
        go_wp2_with fail
        refine (H2.out _).mono ?_
        rintro e w2 ⟨u, rfl, hu, hb⟩
        have HU := hide hu
        clear hu
        have L2 := hide (L1.out.kept hb)
        clear hb F1
        have F2 := L2.out.at
        simp only [AllAt, CellsAt, updL, List.map, Nat.zero_add, Nat.reduceAdd, and_true, World.size_alloc, World.heap_drewN, heap_drew, size_set, Nat.add_eq_left, Nat.left_eq_add, Nat.add_right_cancel_iff, ne_up2, ne_dn2, ne_up3, ne_dn3, ne_up4, ne_dn4, Nat.reduceEqDiff, Nat.one_ne_zero, Nat.succ_ne_zero, Nat.zero_ne_one, reduceIte, List.set_cons_zero, List.set_cons_succ] at F2
        unfold downV
        go_wp2
        refine bodyPost_ret (v := rangeT 0 0 8) (by simp [results, Try.results13, go_sem, F2, rangeT]) rfl ⟨by rw [HQ.out], ?_⟩
        repeat (first | (with_reducible exact L2.out.below) | refine Below.setCell ?_ (by first | omega | (simp; done) | (simp; omega)) _ | refine Below.alloc ?_ (by first | omega | (simp; done) | (simp; omega)) _ | refine below_drewN ?_ _ | refine Below.drew ?_)
    · have g1 : inR X (-1000000000000000) 1000000000000000 = false := inR_no h1
      have HQ : Hid (scR a b m d = rangeT 0 0 8) := HR.out.trans (if_neg fun h => h1 h.1)
      clear h1
      have L0 := hide (Lv.start w)
      go_enter Try.func13, Try.ntmps13
      have L9 := hide (((L0.out.put [.int .i64 a, .int .i64 b] 23).put [.int .i64 m, .int .i64 d] 25).put [.int .i64 0, .int .i64 0] 23)
      go_wp2_with fail
      refine (H1.out _).mono ?_
      rintro e w1 ⟨v, rfl, hv, _, hb⟩
      have HV := hide hv
      clear hv
      have L1 := hide (L9.out.kept hb)
      clear hb
      have F1 := L1.out.at
      simp only [AllAt, CellsAt, updL, List.map, Nat.zero_add, Nat.reduceAdd, and_true, World.size_alloc, World.heap_drewN, heap_drew, size_set, Nat.add_eq_left, Nat.left_eq_add, Nat.add_right_cancel_iff, ne_up2, ne_dn2, ne_up3, ne_dn3, ne_up4, ne_dn4, Nat.reduceEqDiff, Nat.one_ne_zero, Nat.succ_ne_zero, Nat.zero_ne_one, reduceIte, List.set_cons_zero, List.set_cons_succ] at F1
      unfold downV
      go_wp2_with fail
      refine (H2.out _).mono ?_
      rintro e w2 ⟨u, rfl, hu, hb⟩
      have HU := hide hu
      clear hu
      have L2 := hide (L1.out.kept hb)
      clear hb F1
      have F2 := L2.out.at
      simp only [AllAt, CellsAt, updL, List.map, Nat.zero_add, Nat.reduceAdd, and_true, World.size_alloc, World.heap_drewN, heap_drew, size_set, Nat.add_eq_left, Nat.left_eq_add, Nat.add_right_cancel_iff, ne_up2, ne_dn2, ne_up3, ne_dn3, ne_up4, ne_dn4, Nat.reduceEqDiff, Nat.one_ne_zero, Nat.succ_ne_zero, Nat.zero_ne_one, reduceIte, List.set_cons_zero, List.set_cons_succ] at F2
      unfold downV
      go_wp2
      refine bodyPost_ret (v := rangeT 0 0 8) (by simp [results, Try.results13, go_sem, F2, rangeT]) rfl ⟨by rw [HQ.out], ?_⟩
      repeat (first | (with_reducible exact L2.out.below) | refine Below.setCell ?_ (by first | omega | (simp; done) | (simp; omega)) _ | refine Below.alloc ?_ (by first | omega | (simp; done) | (simp; omega)) _ | refine below_drewN ?_ _ | refine Below.drew ?_)
end Go.Proofs.Ytnilfacofikoaaa
