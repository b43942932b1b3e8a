/- PROVED HERE: Rows.TopEnclosuresNestSaid: agraffetop.TopEnclosuresNest returns true for every input, and its arguments read behind the call as before. -/
import Derived.Test.YtfmonpjoadjimacLift
import Derived.Test.YtfmonpjoadjimacAwake
import Derived.Test.YtfmonpjoadjimacEncl
import Derived.Test.YtfmonpjoadjimacPlus
import Derived.Test.YtfmonpjoadjimacPitchOk
import Derived.Test.YtfmonpjoadjimacRefFrac
namespace Go.Proofs.Ytfmonpjoadjimac
open Go.ChangeShapes Go.WideShapes Go.ChangeAt Go.RowKit Go.Joins
set_option linter.unusedVariables false
set_option linter.unusedSimpArgs false

theorem one_solved (w : World) (g : Nat) (hB : Blk w g 56 #[.int .i64 0, .int .i64 1, .int .i64 (-2)]) :
    Calls Try.prog 21 #[.int .i64 2, .slice (some ⟨g, 0, none⟩) 1 1] w fun e w' => ∃ g1, e = .returned (.tuple #[.slice (some ⟨g1, 0, none⟩) 2 2, .slice none 0 0, .int .i64 0]) ∧
      (w'.ownsRow w.heap.size 3 1 (.slice (some ⟨g1, 0, none⟩) 2 2) 2 (i64s [0, -2])) ∧ Below w.heap.size w w' := by
  have hbn : Bnds w w.heap.size (some ⟨g, 0, none⟩) [(0, 1, -2)] := fun _ => ⟨g, 0, rfl, hB.lt, fun i hi => by
    match i, hi with
    | 0, _ => exact ⟨hB.cell 0, hB.cell 1, hB.cell 2⟩⟩
  have h := solve_ok 2 (some ⟨g, 0, none⟩) 1 1 1 [(0, 1, -2)] w rfl hbn (by decide +kernel) (by omega) (fun q hq => by (obtain rfl : q = 0 := by omega); decide +kernel) (by decide +kernel)
  refine h.mono fun e w' ⟨g1, he, ho, hb⟩ => ⟨g1, he, ?_, hb⟩
  have e1 : (solveSt [(0, 1, -2)] 2 (1 + 1)).vs = [0, -2] := by decide +kernel
  rw [e1] at ho
  exact ho

set_option maxHeartbeats 4000000 in
set_option maxRecDepth 100000 in
theorem counts_any (w : World) : Calls Try.prog 16 #[] w fun e w' => e = .returned (.bool true) ∧ Below w.heap.size w w' := by
  go_enter Try.func16, Try.ntmps16
  go_wp2_with fail
  refine (comma_any _).mono ?_
  rintro e w1 ⟨rfl, hb1⟩
  go_wp2_with fail
  refine (comma_enclosed _).mono ?_
  rintro e w2 ⟨rfl, hb2⟩
  have HB2 := hide (hb1.trans (hb2.mono hb1.size))
  clear hb1 hb2
  go_wp2_with fail
  refine (one_solved _ (w2.heap.size + 1) (Blk.new _ _ _ _ (by simp))).mono ?_
  rintro e w3 ⟨g1, rfl, ho3, hb3⟩
  have R3 : Hid (Blk w3 w2.heap.size 47 #[.int .i64 1013, .int .i64 1014]) := ((Blk.new w2 _ _ _ rfl).alloc _).kept hb3
  have HB3 : Hid (Below w.heap.size w w3) := ((HB2.out.alloc HB2.out.size _).alloc (by have := HB2.out.size; simp; omega) _).trans (hb3.mono (by have := HB2.out.size; simp; omega))
  have X4 : Hid (∀ j, j < 2 → w3.cell? ⟨g1, 0 + j, none⟩ = some (.int .i64 (([0, -2] : List Int).getD j 0))) := fun j hj => by
    rw [Nat.zero_add, ho3.cellAt j (by omega)]
    match j, hj with
    | 0, _ => rfl
    | 1, _ => rfl
  have lg1 : Hid (g1 < w3.heap.size) := (World.ownsRow.lt ho3 g1 rfl).2
  clear hb3 ho3
  obtain ⟨⟨r0, r1⟩, _⟩ := R3.out.c2
  have lr := R3.out.lt
  go_wp2_with fail
  refine (ints_same (some ⟨g1, 0, none⟩) (some ⟨w3.heap.size, 0, none⟩) 2 2 2 [0, -2] [0, -2] _ rfl rfl (by omega) ?_ ?_).mono ?_
  · intro _
    refine ⟨g1, 0, rfl, fun j hj => ?_⟩
    have hl := lg1.out
    rw [World.cell?_alloc_past _ _ _ (by omega)]
    exact X4.out j hj
  · intro _
    refine ⟨w3.heap.size, 0, rfl, fun j hj => ?_⟩
    rw [Nat.zero_add, World.cell?_alloc_at _ _ _ _ rfl]
    match j, hj with
    | 0, _ => rfl
    | 1, _ => rfl
  rintro e w6 ⟨rfl, q, rfl⟩
  have hd : decide (([0, -2] : List Int) = [0, -2]) = true := by decide
  rw [hd]
  clear hd
  go_wp2
  go_ret
  refine ⟨rfl, ?_⟩
  refine below_drewN ?_ _
  exact HB3.out.alloc HB3.out.size _

def in60 (x : Int) : Prop := -60 ≤ x ∧ x ≤ 60
instance (x : Int) : Decidable (in60 x) := inferInstanceAs (Decidable (_ ∧ _))
def near60 (a b c d : Int) : Bool := decide (in60 a ∧ in60 b ∧ in60 c ∧ okP a b c d)
set_option maxHeartbeats 4000000 in
set_option maxRecDepth 100000 in
theorem topNear_any (a b c d : Int) (w : World) :
    Calls Try.prog 17 #[.agg #[.int .i64 a, .int .i64 b, .int .i64 c, .int .i64 d]] w fun r w' => r = .returned (.bool (near60 a b c d)) ∧ Below w.heap.size w w' := by
  have q0 : ∀ w : World, (Instr.index 25 (.agg #[.int .i64 a, .int .i64 b, .int .i64 c]) (.int .i64 0)).run Try.prog w = .ok (.int .i64 a) w := fun _ => by kernel_rfl
  have q1 : ∀ w : World, (Instr.index 25 (.agg #[.int .i64 a, .int .i64 b, .int .i64 c]) (.int .i64 1)).run Try.prog w = .ok (.int .i64 b) w := fun _ => by kernel_rfl
  have q2 : ∀ w : World, (Instr.index 25 (.agg #[.int .i64 a, .int .i64 b, .int .i64 c]) (.int .i64 2)).run Try.prog w = .ok (.int .i64 c) w := fun _ => by kernel_rfl
  have L0 := hide (Lv.start w)
  go_enter Try.func17, Try.ntmps17
  go_wp2
  go_loopw [12] (fun i wr => Hid (Lv w wr [(w.heap.size, 44, [.int .i64 a, .int .i64 b, .int .i64 c, .int .i64 d])]) ∧ (i = .int .i64 0 ∨ (i = .int .i64 1 ∧ Hid (in60 a)) ∨ (i = .int .i64 2 ∧ Hid (in60 a) ∧ Hid (in60 b)) ∨ (i = .int .i64 3 ∧ Hid (in60 a) ∧ Hid (in60 b) ∧ Hid (in60 c)))) (fun i _ => 3 - (intOf i).toNat)
  case atStart => exact ⟨hide (by simpa using L0.out.put _ _), Or.inl rfl⟩
  case round =>
    obtain ⟨L1, rfl | ⟨rfl, HA⟩ | ⟨rfl, HA, HB⟩ | ⟨rfl, HA, HB, HC⟩⟩ := hrel
    · have F1 := L1.out.at
      simp only [AllAt, CellsAt, updL, List.map, Nat.zero_add, Nat.reduceAdd, and_true, World.size_alloc, World.heap_drewN, heap_drew, size_set, Nat.add_eq_left, Nat.left_eq_add, Nat.add_right_cancel_iff, Nat.reduceEqDiff, Nat.one_ne_zero, Nat.succ_ne_zero, Nat.zero_ne_one, reduceIte, List.set_cons_zero, List.set_cons_succ] at F1
      by_cases hx : in60 a
      · have hb : inR a (-60) 60 = true := inR_yes hx
        have HX := hide hx
        clear hx
        go_wp2_with fail
        refine Lv.same (within3_any a (-60) 60 _) ?_
        rw [hb]
        go_wp2
        go_roundw
        case rel => exact ⟨L1, Or.inr (Or.inl ⟨rfl, HX⟩)⟩
        case measure => simp [intOf]
      · have hb : inR a (-60) 60 = false := inR_no hx
        have HN : Hid (near60 a b c d = false) := decide_eq_false fun hh => hx hh.1
        clear hx
        go_wp2_with fail
        refine Lv.same (within3_any a (-60) 60 _) ?_
        rw [hb]
        go_wp2
        go_ret
        exact ⟨ret_bool HN.out.symm, L1.out.below⟩
    · have F1 := L1.out.at
      simp only [AllAt, CellsAt, updL, List.map, Nat.zero_add, Nat.reduceAdd, and_true, World.size_alloc, World.heap_drewN, heap_drew, size_set, Nat.add_eq_left, Nat.left_eq_add, Nat.add_right_cancel_iff, Nat.reduceEqDiff, Nat.one_ne_zero, Nat.succ_ne_zero, Nat.zero_ne_one, reduceIte, List.set_cons_zero, List.set_cons_succ] at F1
      by_cases hx : in60 b
      · have hb : inR b (-60) 60 = true := inR_yes hx
        have HX := hide hx
        clear hx
        go_wp2_with fail
        refine Lv.same (within3_any b (-60) 60 _) ?_
        rw [hb]
        go_wp2
        go_roundw
        case rel => exact ⟨L1, Or.inr (Or.inr (Or.inl ⟨rfl, HA, HX⟩))⟩
        case measure => simp [intOf]
      · have hb : inR b (-60) 60 = false := inR_no hx
        have HN : Hid (near60 a b c d = false) := decide_eq_false fun hh => hx hh.2.1
        clear hx
        go_wp2_with fail
        refine Lv.same (within3_any b (-60) 60 _) ?_
        rw [hb]
        go_wp2
        go_ret
        exact ⟨ret_bool HN.out.symm, L1.out.below⟩
    · have F1 := L1.out.at
      simp only [AllAt, CellsAt, updL, List.map, Nat.zero_add, Nat.reduceAdd, and_true, World.size_alloc, World.heap_drewN, heap_drew, size_set, Nat.add_eq_left, Nat.left_eq_add, Nat.add_right_cancel_iff, Nat.reduceEqDiff, Nat.one_ne_zero, Nat.succ_ne_zero, Nat.zero_ne_one, reduceIte, List.set_cons_zero, List.set_cons_succ] at F1
      by_cases hx : in60 c
      · have hb : inR c (-60) 60 = true := inR_yes hx
        have HX := hide hx
        clear hx
        go_wp2_with fail
        refine Lv.same (within3_any c (-60) 60 _) ?_
        rw [hb]
        go_wp2
        go_roundw
        case rel => exact ⟨L1, Or.inr (Or.inr (Or.inr ⟨rfl, HA, HB, HX⟩))⟩
        case measure => simp [intOf]
      · have hb : inR c (-60) 60 = false := inR_no hx
        have HN : Hid (near60 a b c d = false) := decide_eq_false fun hh => hx hh.2.2.1
        clear hx
        go_wp2_with fail
        refine Lv.same (within3_any c (-60) 60 _) ?_
        rw [hb]
        go_wp2
        go_ret
        exact ⟨ret_bool HN.out.symm, L1.out.below⟩
    · have F1 := L1.out.at
      simp only [AllAt, CellsAt, updL, List.map, Nat.zero_add, Nat.reduceAdd, and_true, World.size_alloc, World.heap_drewN, heap_drew, size_set, Nat.add_eq_left, Nat.left_eq_add, Nat.add_right_cancel_iff, Nat.reduceEqDiff, Nat.one_ne_zero, Nat.succ_ne_zero, Nat.zero_ne_one, reduceIte, List.set_cons_zero, List.set_cons_succ] at F1
      have HP : Hid (decide (okP a b c d) = near60 a b c d) := by
        show _ = _
        unfold near60
        rw [decide_eq_decide]
        exact ⟨fun h => ⟨HA.out, HB.out, HC.out, h⟩, fun h => h.2.2.2⟩
      go_wp2_with fail
      refine Lv.call (isPitch_any a b c d _) L1.out ?_
      intro w2 L2'
      have L2 := hide L2'
      have F2 := L2'.at
      clear L2' F1
      simp only [AllAt, CellsAt, updL, List.map, Nat.zero_add, Nat.reduceAdd, and_true, World.size_alloc, World.heap_drewN, heap_drew, size_set, Nat.add_eq_left, Nat.left_eq_add, Nat.add_right_cancel_iff, Nat.reduceEqDiff, Nat.one_ne_zero, Nat.succ_ne_zero, Nat.zero_ne_one, reduceIte, List.set_cons_zero, List.set_cons_succ] at F2
      go_wp2
      go_ret
      exact ⟨ret_bool HP.out, L2.out.below⟩

/-- An enclosure that is no error: the greatest number below, the least above. -/
theorem EncV.parts {d F G : Nat} {lo hi e : Int} (h : EncV d F G lo hi e) (he : e = 0) (hd : 1 ≤ d) (hF : 1 ≤ F) : ∃ l u : Nat, lo = l ∧ hi = u ∧ u ≤ 1000000000000000 ∧ l ≤ u ∧ u ≤ l + 1 ∧ F * l ^ d ≤ G ∧ G ≤ F * u ^ d ∧ (∀ x, F * x ^ d ≤ G → x ≤ l) ∧ (∀ x, G ≤ F * x ^ d → u ≤ x) := by
  obtain ⟨n, n1, n2, n3, n4⟩ := h
  rcases n4 with ⟨a1, rfl, rfl, _⟩ | ⟨a1, a2, rfl, rfl, _⟩ | ⟨_, _, _, _, a5⟩
  · refine ⟨n, n, rfl, rfl, n1, by omega, by omega, n2, by omega, fun x hx => ?_, fun x hx => ?_⟩
    · rcases Nat.lt_or_ge n x with h | h
      · have := enc_lt hd hF h; omega
      · exact h
    · rcases Nat.lt_or_ge x n with h | h
      · have := enc_lt hd hF h; omega
      · exact h
  · have h3 := n3 a2
    refine ⟨n, n + 1, rfl, rfl, by omega, by omega, by omega, n2, by omega, fun x hx => ?_, fun x hx => ?_⟩
    · rcases Nat.lt_or_ge n x with h | h
      · have := enc_le (d := d) (F := F) (show n + 1 ≤ x by omega); omega
      · exact h
    · rcases Nat.lt_or_ge x (n + 1) with h | h
      · have := enc_le (d := d) (F := F) (show x ≤ n by omega); omega
      · exact h
  · omega
theorem EncV.large {d F G : Nat} {lo hi e : Int} (h : EncV d F G lo hi e) (he : e ≠ 0) : F * 1000000000000000 ^ d < G := by
  obtain ⟨n, n1, n2, n3, n4⟩ := h
  rcases n4 with ⟨_, _, _, a⟩ | ⟨_, _, _, _, a⟩ | ⟨a1, rfl, _, _, _⟩
  · exact absurd a he
  · exact absurd a he
  · omega
theorem pow_cancel {a b n d : Nat} (hn : 1 ≤ n) (h : a * n ^ d ≤ b * n ^ d) : a ≤ b := Nat.le_of_mul_le_mul_right h (Nat.pow_pos hn)
theorem sum_low {d F U m n x y : Nat} (hm : 1 ≤ m) (hn : 1 ≤ n) (h1 : F * x ^ d ≤ U * m ^ d) (h2 : F * y ^ d ≤ U * n ^ d) : F * (x + y) ^ d ≤ U * (m + n) ^ d := by
  rcases Nat.le_total (x * n) (y * m) with h | h
  · refine pow_cancel (n := n) (d := d) hn ?_
    have k1 : (x + y) * n ≤ y * (m + n) := by rw [Nat.add_mul, Nat.mul_add]; omega
    have k2 := Nat.pow_le_pow_left k1 d
    rw [Nat.mul_pow, Nat.mul_pow] at k2
    have k3 : F * ((x + y) ^ d * n ^ d) ≤ F * (y ^ d * (m + n) ^ d) := Nat.mul_le_mul_left _ k2
    have k4 : F * y ^ d * (m + n) ^ d ≤ U * n ^ d * (m + n) ^ d := Nat.mul_le_mul_right _ h2
    calc F * (x + y) ^ d * n ^ d = F * ((x + y) ^ d * n ^ d) := Nat.mul_assoc _ _ _
      _ ≤ F * (y ^ d * (m + n) ^ d) := k3
      _ = F * y ^ d * (m + n) ^ d := (Nat.mul_assoc _ _ _).symm
      _ ≤ U * n ^ d * (m + n) ^ d := k4
      _ = U * (m + n) ^ d * n ^ d := by ac_rfl
  · refine pow_cancel (n := m) (d := d) hm ?_
    have k1 : (x + y) * m ≤ x * (m + n) := by rw [Nat.add_mul, Nat.mul_add]; omega
    have k2 := Nat.pow_le_pow_left k1 d
    rw [Nat.mul_pow, Nat.mul_pow] at k2
    have k3 : F * ((x + y) ^ d * m ^ d) ≤ F * (x ^ d * (m + n) ^ d) := Nat.mul_le_mul_left _ k2
    have k4 : F * x ^ d * (m + n) ^ d ≤ U * m ^ d * (m + n) ^ d := Nat.mul_le_mul_right _ h1
    calc F * (x + y) ^ d * m ^ d = F * ((x + y) ^ d * m ^ d) := Nat.mul_assoc _ _ _
      _ ≤ F * (x ^ d * (m + n) ^ d) := k3
      _ = F * x ^ d * (m + n) ^ d := (Nat.mul_assoc _ _ _).symm
      _ ≤ U * m ^ d * (m + n) ^ d := k4
      _ = U * (m + n) ^ d * m ^ d := by ac_rfl
theorem sum_high {d F U m n x y : Nat} (hm : 1 ≤ m) (hn : 1 ≤ n) (h1 : U * m ^ d ≤ F * x ^ d) (h2 : U * n ^ d ≤ F * y ^ d) : U * (m + n) ^ d ≤ F * (x + y) ^ d := by
  rcases Nat.le_total (y * m) (x * n) with h | h
  · refine pow_cancel (n := n) (d := d) hn ?_
    have k1 : y * (m + n) ≤ (x + y) * n := by rw [Nat.add_mul, Nat.mul_add]; omega
    have k2 := Nat.pow_le_pow_left k1 d
    rw [Nat.mul_pow, Nat.mul_pow] at k2
    have k3 : F * (y ^ d * (m + n) ^ d) ≤ F * ((x + y) ^ d * n ^ d) := Nat.mul_le_mul_left _ k2
    have k4 : U * n ^ d * (m + n) ^ d ≤ F * y ^ d * (m + n) ^ d := Nat.mul_le_mul_right _ h2
    calc U * (m + n) ^ d * n ^ d = U * n ^ d * (m + n) ^ d := by ac_rfl
      _ ≤ F * y ^ d * (m + n) ^ d := k4
      _ = F * (y ^ d * (m + n) ^ d) := Nat.mul_assoc _ _ _
      _ ≤ F * ((x + y) ^ d * n ^ d) := k3
      _ = F * (x + y) ^ d * n ^ d := (Nat.mul_assoc _ _ _).symm
  · refine pow_cancel (n := m) (d := d) hm ?_
    have k1 : x * (m + n) ≤ (x + y) * m := by rw [Nat.add_mul, Nat.mul_add]; omega
    have k2 := Nat.pow_le_pow_left k1 d
    rw [Nat.mul_pow, Nat.mul_pow] at k2
    have k3 : F * (x ^ d * (m + n) ^ d) ≤ F * ((x + y) ^ d * m ^ d) := Nat.mul_le_mul_left _ k2
    have k4 : U * m ^ d * (m + n) ^ d ≤ F * x ^ d * (m + n) ^ d := Nat.mul_le_mul_right _ h1
    calc U * (m + n) ^ d * m ^ d = U * m ^ d * (m + n) ^ d := by ac_rfl
      _ ≤ F * x ^ d * (m + n) ^ d := k4
      _ = F * (x ^ d * (m + n) ^ d) := Nat.mul_assoc _ _ _
      _ ≤ F * ((x + y) ^ d * m ^ d) := k3
      _ = F * (x + y) ^ d * m ^ d := (Nat.mul_assoc _ _ _).symm

set_option maxHeartbeats 4000000 in
set_option maxRecDepth 100000 in
theorem topEnclosuresNest_walk (a b c d m n : Int) (w : World) (h_a : -9223372036854775808 ≤ a ∧ a ≤ 9223372036854775807) (h_b : -9223372036854775808 ≤ b ∧ b ≤ 9223372036854775807) (h_c : -9223372036854775808 ≤ c ∧ c ≤ 9223372036854775807) (h_d : -9223372036854775808 ≤ d ∧ d ≤ 9223372036854775807) (h_m : -9223372036854775808 ≤ m ∧ m ≤ 9223372036854775807) (h_n : -9223372036854775808 ≤ n ∧ n ≤ 9223372036854775807) :
    Calls Try.prog 5 #[.agg #[.int .i64 a, .int .i64 b, .int .i64 c, .int .i64 d], .int .i64 m, .int .i64 n] w fun x w' => x = .returned (.bool true) ∧ Below w.heap.size w w' := by
  clear h_a h_b h_c h_d h_m h_n
  have L0 := hide (Lv.start w)
  go_enter Try.func5, Try.ntmps5
  go_wp2_with fail
  refine Lv.call (counts_any _) (L0.out.put _ _) ?_
  intro w2 L2'
  have L2 := hide L2'
  have F2 := L2'.at
  clear L2'
  simp only [AllAt, CellsAt, updL, List.map, Nat.zero_add, Nat.reduceAdd, and_true, World.size_alloc, World.heap_drewN, heap_drew, size_set, Nat.add_eq_left, Nat.left_eq_add, Nat.add_right_cancel_iff, Nat.reduceEqDiff, Nat.one_ne_zero, Nat.succ_ne_zero, Nat.zero_ne_one, reduceIte, List.set_cons_zero, List.set_cons_succ] at F2
  go_wp2_with fail
  refine Lv.call (topNear_any a b c d _) L2.out ?_
  intro w3 L3'
  have L3 := hide L3'
  have F3 := L3'.at
  clear L3' F2
  simp only [AllAt, CellsAt, updL, List.map, Nat.zero_add, Nat.reduceAdd, and_true, World.size_alloc, World.heap_drewN, heap_drew, size_set, Nat.add_eq_left, Nat.left_eq_add, Nat.add_right_cancel_iff, Nat.reduceEqDiff, Nat.one_ne_zero, Nat.succ_ne_zero, Nat.zero_ne_one, reduceIte, List.set_cons_zero, List.set_cons_succ] at F3
  cases hn1 : near60 a b c d
  · go_wp2
    go_ret
    refine ⟨rfl, ?_⟩
    repeat (first | (with_reducible exact L3.out.below) | refine Below.setCell ?_ (by first | omega | (simp; done) | (simp; omega)) _ | refine Below.alloc ?_ (by first | omega | (simp; done) | (simp; omega)) _ | refine below_drewN ?_ _ | refine Below.drew ?_)
  have hok : okP a b c d := (of_decide_eq_true hn1).2.2.2
  clear hn1
  by_cases hm : 1 ≤ m ∧ m ≤ 30000
  · have hbm : inR m 1 30000 = true := inR_yes hm
    by_cases hn : 1 ≤ n ∧ n ≤ 30000
    · have hbn : inR n 1 30000 = true := inR_yes hn
      obtain ⟨M, rfl⟩ := Int.eq_ofNat_of_zero_le (show 0 ≤ m by omega)
      obtain ⟨N, rfl⟩ := Int.eq_ofNat_of_zero_le (show 0 ≤ n by omega)
      have hd1 := hok.1
      obtain ⟨D, rfl⟩ := Int.eq_ofNat_of_zero_le (show 0 ≤ d by omega)
      have hmn : 1 ≤ M * N ∧ M * N ≤ 900000000 := ⟨Nat.mul_pos (by omega) (by omega), Nat.mul_le_mul (show M ≤ 30000 by omega) (show N ≤ 30000 by omega)⟩
      obtain ⟨P, hP⟩ : ∃ P, P = M * N := ⟨_, rfl⟩
      rw [← hP] at hmn
      have W1 : (M : Int) * (N : Int) = (P : Int) := by rw [hP, Int.natCast_mul]
      have W2 : IntKind.i64.wrap (P : Int) = (P : Int) := by rw [IntKind.wrap_i64]; omega
      obtain ⟨S, hS⟩ : ∃ S, S = M + N := ⟨_, rfl⟩
      have W3 : (M : Int) + (N : Int) = (S : Int) := by omega
      have hF := dnTo_pos a b c 3
      obtain ⟨F, hFe⟩ : ∃ F, F = dnTo a b c 3 := ⟨_, rfl⟩
      obtain ⟨U, hUe⟩ : ∃ U, U = upTo a b c 3 := ⟨_, rfl⟩
      have C0 := fun T h1 h2 W => encl_ok a b c D T W hok h1 h2
      rw [← hFe, ← hUe] at C0
      rw [← hFe] at hF
      have CM := hide (C0 M (by omega) (by omega))
      have CN := hide (C0 N (by omega) (by omega))
      have CP := hide (C0 P (by omega) (by omega))
      have CS := hide (C0 S (by omega) (by omega))
      have HP := hide hP
      have HS := hide hS
      have hD1 : 1 ≤ D := by omega
      clear C0 hFe hUe hok hd1 hP hS
      go_wp2_with fail
      refine Lv.same (within3_any M 1 30000 _) ?_
      rw [hbm]
      go_wp2_with fail
      refine Lv.same (within3_any N 1 30000 _) ?_
      rw [hbn]
      go_wp2_with fail
      refine (CM.out _).mono ?_
      rintro e w4 ⟨lo4, hi4, er4, rfl, hV, hb⟩
      have L4 := hide (L3.out.kept hb)
      have F4 := L4.out.at
      simp only [AllAt, CellsAt, updL, List.map, Nat.zero_add, Nat.reduceAdd, and_true, World.size_alloc, World.heap_drewN, heap_drew, size_set, Nat.add_eq_left, Nat.left_eq_add, Nat.add_right_cancel_iff, Nat.reduceEqDiff, Nat.one_ne_zero, Nat.succ_ne_zero, Nat.zero_ne_one, reduceIte, List.set_cons_zero, List.set_cons_succ] at F4
      have wd4 := hV.width
      have V4 := hide hV
      clear hV hb
      go_wp2_with fail
      refine (CN.out _).mono ?_
      rintro e w5 ⟨lo5, hi5, er5, rfl, hV, hb⟩
      have L5 := hide ((L4.out.put _ _).kept hb)
      have F5 := L5.out.at
      simp only [AllAt, CellsAt, updL, List.map, Nat.zero_add, Nat.reduceAdd, and_true, World.size_alloc, World.heap_drewN, heap_drew, size_set, Nat.add_eq_left, Nat.left_eq_add, Nat.add_right_cancel_iff, Nat.reduceEqDiff, Nat.one_ne_zero, Nat.succ_ne_zero, Nat.zero_ne_one, reduceIte, List.set_cons_zero, List.set_cons_succ] at F5
      have wd5 := hV.width
      have V5 := hide hV
      clear hV hb
      go_wp2_with fail
      refine (CP.out _).mono ?_
      rintro e w6 ⟨lo6, hi6, er6, rfl, hV, hb⟩
      have L6 := hide ((L5.out.put _ _).kept hb)
      have F6 := L6.out.at
      simp only [AllAt, CellsAt, updL, List.map, Nat.zero_add, Nat.reduceAdd, and_true, World.size_alloc, World.heap_drewN, heap_drew, size_set, Nat.add_eq_left, Nat.left_eq_add, Nat.add_right_cancel_iff, Nat.reduceEqDiff, Nat.one_ne_zero, Nat.succ_ne_zero, Nat.zero_ne_one, reduceIte, List.set_cons_zero, List.set_cons_succ] at F6
      have wd6 := hV.width
      have V6 := hide hV
      clear hV hb
      go_wp2_with fail
      refine (CS.out _).mono ?_
      rintro e w7 ⟨lo7, hi7, er7, rfl, hV, hb⟩
      have L7 := hide ((L6.out.put _ _).kept hb)
      have F7 := L7.out.at
      simp only [AllAt, CellsAt, updL, List.map, Nat.zero_add, Nat.reduceAdd, and_true, World.size_alloc, World.heap_drewN, heap_drew, size_set, Nat.add_eq_left, Nat.left_eq_add, Nat.add_right_cancel_iff, Nat.reduceEqDiff, Nat.one_ne_zero, Nat.succ_ne_zero, Nat.zero_ne_one, reduceIte, List.set_cons_zero, List.set_cons_succ] at F7
      have wd7 := hV.width
      have V7 := hide hV
      clear hV hb
      clear F3 F4 F5 F6 L2 L3 L4 L5 L6 CM CN CP CS
      rcases wd6.2.2.2.2 with h6 | ⟨h6, _, _⟩
      · subst h6
        rcases wd7.2.2.2.2 with h7 | ⟨h7, _, _⟩
        · subst h7
          obtain ⟨l6, u6, rfl, rfl, b6, o6, s6, d6, e6, f6, g6⟩ := V6.out.parts rfl hD1 hF
          obtain ⟨l7, u7, rfl, rfl, b7, o7, s7, d7, e7, f7, g7⟩ := V7.out.parts rfl hD1 hF
          have z4 : er4 = 0 := by
            rcases wd4.2.2.2.2 with h | ⟨h, _, _⟩
            · exact h
            · exfalso
              have k1 := V4.out.large (by omega)
              have k2 : U * M ^ D ≤ U * P ^ D := enc_le (by rw [HP.out]; exact Nat.le_mul_of_pos_right _ (by omega))
              have k3 := enc_le (d := D) (F := F) b6
              omega
          have z5 : er5 = 0 := by
            rcases wd5.2.2.2.2 with h | ⟨h, _, _⟩
            · exact h
            · exfalso
              have k1 := V5.out.large (by omega)
              have k2 : U * N ^ D ≤ U * P ^ D := enc_le (by rw [HP.out]; exact Nat.le_mul_of_pos_left _ (by omega))
              have k3 := enc_le (d := D) (F := F) b6
              omega
          subst z4 z5
          obtain ⟨l4, u4, rfl, rfl, b4, o4, s4, d4, e4, f4, g4⟩ := V4.out.parts rfl hD1 hF
          obtain ⟨l5, u5, rfl, rfl, b5, o5, s5, d5, e5, f5, g5⟩ := V5.out.parts rfl hD1 hF
          have r1 : l4 * N ≤ l6 := f6 _ (by rw [HP.out, Nat.mul_pow, Nat.mul_pow, ← Nat.mul_assoc, ← Nat.mul_assoc]; exact Nat.mul_le_mul_right _ d4)
          have r2 : u6 ≤ u4 * N := g6 _ (by rw [HP.out, Nat.mul_pow, Nat.mul_pow, ← Nat.mul_assoc, ← Nat.mul_assoc]; exact Nat.mul_le_mul_right _ e4)
          have r3 : l4 + l5 ≤ l7 := f7 _ (by rw [HS.out]; exact sum_low (by omega) (by omega) d4 d5)
          have r4 : u7 ≤ u4 + u5 := g7 _ (by rw [HS.out]; exact sum_high (by omega) (by omega) e4 e5)
          have r5 : u4 * N ≤ l4 * N + N := by have := Nat.mul_le_mul_right N s4; rw [Nat.add_mul, Nat.one_mul] at this; exact this
          obtain ⟨x1, hx1⟩ : ∃ x1, x1 = l4 * N := ⟨_, rfl⟩
          obtain ⟨x2, hx2⟩ : ∃ x1, x1 = u4 * N := ⟨_, rfl⟩
          rw [← hx1] at r1 r5
          rw [← hx2] at r2 r5
          have y1 : (l4 : Int) * (N : Int) = (x1 : Int) := by rw [hx1, Int.natCast_mul]
          have y2 : (u4 : Int) * (N : Int) = (x2 : Int) := by rw [hx2, Int.natCast_mul]
          have y3 : IntKind.i64.wrap (x1 : Int) = (x1 : Int) := by rw [IntKind.wrap_i64]; omega
          have y4 : IntKind.i64.wrap (x2 : Int) = (x2 : Int) := by rw [IntKind.wrap_i64]; omega
          have v1 : okB (l4 : Int) := ⟨by omega, by omega⟩
          have v2 : okB (u4 : Int) := ⟨by omega, by omega⟩
          have v3 : okB (l5 : Int) := ⟨by omega, by omega⟩
          have v4 : okB (u5 : Int) := ⟨by omega, by omega⟩
          have E0 : rangeErr (l4 : Int) (u4 : Int) = 0 := (if_pos ⟨v1, v2⟩).trans (if_pos (by omega))
          have E2 : rangeErr (l5 : Int) (u5 : Int) = 0 := (if_pos ⟨v3, v4⟩).trans (if_pos (by omega))
          have E1 : rangesErr (l4 : Int) (u4 : Int) (l5 : Int) (u5 : Int) = 0 := (if_pos E0).trans E2
          have CP := hide (fun W => plus_ok (l4 : Int) (u4 : Int) (l5 : Int) (u5 : Int) W ⟨⟨v1, v2, by omega⟩, v3, v4, by omega⟩ E1)
          clear E0 E2 d4 e4 f4 g4 d5 e5 f5 g5 d6 e6 f6 g6 d7 e7 f7 g7 hx1 hx2 v1 v2 v3 v4 E1 V4 V5 V6 V7 wd4 wd5 wd6 wd7 HP HS
          have A1 := fun W => absAll_any (u4 : Int) W (by omega) (by omega)
          have A2 := fun W => absAll_any (l4 : Int) W (by omega) (by omega)
          simp only [Int.natAbs_natCast] at A1 A2
          have HA1 := hide A1
          have HA2 := hide A2
          clear A1 A2
          have i1 : ¬ (1000000000000000 : Int) < (u4 : Int) := by omega
          have i2 : ¬ (1000000000000000 : Int) < (l4 : Int) := by omega
          go_wp2_with fail
          refine Lv.same (HA1.out _) ?_
          go_wp2_with fail
          refine Lv.same (HA2.out _) ?_
          rcases rangeErr_cases ((l4 : Int) + (l5 : Int)) ((u4 : Int) + (u5 : Int)) with ⟨hE, _⟩ | hE | hE
          · have K := CP.out
            rw [rangeV_ok hE] at K
            have HK := hide K
            have j1 : (x1 : Int) ≤ (l6 : Int) := by omega
            have j2 : (u6 : Int) ≤ (x2 : Int) := by omega
            have j3 : (l4 : Int) + (l5 : Int) ≤ (l7 : Int) := by omega
            have j4 : (u7 : Int) ≤ (u4 : Int) + (u5 : Int) := by omega
            clear K hE CP
            go_wp2_with fail
            refine Lv.call (HK.out _) (L7.out.put _ _) ?_
            intro w8 L8'
            have L8 := hide L8'
            have F8 := L8'.at
            clear L8' F7
            simp only [AllAt, CellsAt, updL, List.map, Nat.zero_add, Nat.reduceAdd, and_true, World.size_alloc, World.heap_drewN, heap_drew, size_set, Nat.add_eq_left, Nat.left_eq_add, Nat.add_right_cancel_iff, Nat.reduceEqDiff, Nat.one_ne_zero, Nat.succ_ne_zero, Nat.zero_ne_one, reduceIte, List.set_cons_zero, List.set_cons_succ] at F8
            go_wp2
            go_ret
            refine ⟨rfl, ?_⟩
            repeat (first | (with_reducible exact L8.out.below) | refine Below.setCell ?_ (by first | omega | (simp; done) | (simp; omega)) _ | refine Below.alloc ?_ (by first | omega | (simp; done) | (simp; omega)) _ | refine below_drewN ?_ _ | refine Below.drew ?_)
          · have K := CP.out
            rw [rangeV_no (by omega)] at K
            have HK := hide K
            clear K hE CP
            go_wp2_with fail
            refine Lv.call (HK.out _) (L7.out.put _ _) ?_
            intro w8 L8'
            have L8 := hide L8'
            have F8 := L8'.at
            clear L8' F7
            simp only [AllAt, CellsAt, updL, List.map, Nat.zero_add, Nat.reduceAdd, and_true, World.size_alloc, World.heap_drewN, heap_drew, size_set, Nat.add_eq_left, Nat.left_eq_add, Nat.add_right_cancel_iff, Nat.reduceEqDiff, Nat.one_ne_zero, Nat.succ_ne_zero, Nat.zero_ne_one, reduceIte, List.set_cons_zero, List.set_cons_succ] at F8
            go_wp2
            go_ret
            refine ⟨rfl, ?_⟩
            repeat (first | (with_reducible exact L8.out.below) | refine Below.setCell ?_ (by first | omega | (simp; done) | (simp; omega)) _ | refine Below.alloc ?_ (by first | omega | (simp; done) | (simp; omega)) _ | refine below_drewN ?_ _ | refine Below.drew ?_)
          · have K := CP.out
            rw [rangeV_no (by omega)] at K
            have HK := hide K
            clear K hE CP
            go_wp2_with fail
            refine Lv.call (HK.out _) (L7.out.put _ _) ?_
            intro w8 L8'
            have L8 := hide L8'
            have F8 := L8'.at
            clear L8' F7
            simp only [AllAt, CellsAt, updL, List.map, Nat.zero_add, Nat.reduceAdd, and_true, World.size_alloc, World.heap_drewN, heap_drew, size_set, Nat.add_eq_left, Nat.left_eq_add, Nat.add_right_cancel_iff, Nat.reduceEqDiff, Nat.one_ne_zero, Nat.succ_ne_zero, Nat.zero_ne_one, reduceIte, List.set_cons_zero, List.set_cons_succ] at F8
            go_wp2
            go_ret
            refine ⟨rfl, ?_⟩
            repeat (first | (with_reducible exact L8.out.below) | refine Below.setCell ?_ (by first | omega | (simp; done) | (simp; omega)) _ | refine Below.alloc ?_ (by first | omega | (simp; done) | (simp; omega)) _ | refine below_drewN ?_ _ | refine Below.drew ?_)
        · subst h7
          go_wp2
          go_ret
          refine ⟨rfl, ?_⟩
          repeat (first | (with_reducible exact L7.out.below) | refine Below.setCell ?_ (by first | omega | (simp; done) | (simp; omega)) _ | refine Below.alloc ?_ (by first | omega | (simp; done) | (simp; omega)) _ | refine below_drewN ?_ _ | refine Below.drew ?_)
      · subst h6
        rcases wd7.2.2.2.2 with h7 | ⟨h7, _, _⟩
        · subst h7
          go_wp2
          go_ret
          refine ⟨rfl, ?_⟩
          repeat (first | (with_reducible exact L7.out.below) | refine Below.setCell ?_ (by first | omega | (simp; done) | (simp; omega)) _ | refine Below.alloc ?_ (by first | omega | (simp; done) | (simp; omega)) _ | refine below_drewN ?_ _ | refine Below.drew ?_)
        · subst h7
          go_wp2
          go_ret
          refine ⟨rfl, ?_⟩
          repeat (first | (with_reducible exact L7.out.below) | refine Below.setCell ?_ (by first | omega | (simp; done) | (simp; omega)) _ | refine Below.alloc ?_ (by first | omega | (simp; done) | (simp; omega)) _ | refine below_drewN ?_ _ | refine Below.drew ?_)
    · have hbn : inR n 1 30000 = false := inR_no hn
      clear hn hm hok
      go_wp2_with fail
      refine Lv.same (within3_any m 1 30000 _) ?_
      rw [hbm]
      go_wp2_with fail
      refine Lv.same (within3_any n 1 30000 _) ?_
      rw [hbn]
      go_wp2
      go_ret
      refine ⟨rfl, ?_⟩
      repeat (first | (with_reducible exact L3.out.below) | refine Below.setCell ?_ (by first | omega | (simp; done) | (simp; omega)) _ | refine Below.alloc ?_ (by first | omega | (simp; done) | (simp; omega)) _ | refine below_drewN ?_ _ | refine Below.drew ?_)
  · have hbm : inR m 1 30000 = false := inR_no hm
    clear hm hok
    go_wp2_with fail
    refine Lv.same (within3_any m 1 30000 _) ?_
    rw [hbm]
    go_wp2
    go_ret
    refine ⟨rfl, ?_⟩
    repeat (first | (with_reducible exact L3.out.below) | refine Below.setCell ?_ (by first | omega | (simp; done) | (simp; omega)) _ | refine Below.alloc ?_ (by first | omega | (simp; done) | (simp; omega)) _ | refine below_drewN ?_ _ | refine Below.drew ?_)
set_option maxRecDepth 100000 in
theorem topEnclosuresNest_lifted (os : Os) (started : os.Started) (H : Type) (enc : TypeId × Value → H) :
    ReturnsInHanded {} Try.checked os 5 .any (Rows.topEnclosuresNestSpec.pre6 enc Try.prog Try.f5 Rows.topEnclosuresNestRow.domain false) (Rows.topEnclosuresNestSpec.post enc Try.prog Try.f5 false true false false) := by
  refine returnsInHanded_of_change (C := Try.checked) (by kernel_rfl) started (by kernel_rfl) Try.func5
    (ChangeSpec.witness6 (enc := enc) (C := Try.checked) false ⟨#[], #[.agg #[.int .i64 0, .int .i64 0, .int .i64 0, .int .i64 0], .int .i64 0, .int .i64 0], []⟩ 8 (by kernel_rfl) (by kernel_rfl) (by kernel_rfl) (by kernel_rfl)) ?_
  intro W base args ds gs before hval0 hW hcnd _
  have hval : ∀ (j : Nat) t v, Try.f5.params[j]? = some t → args[j]? = some v → Value.okWide Try.prog W .any base t v := hval0
  have hW' := hW
  obtain ⟨p, q, hA0, hV, rfl, hfz, hnd⟩ := hW
  have hA : DataW.TrodAll enc Try.prog W 0 (fun _ => true) true Try.f5.params.toList args.toList ds p := hA0
  rw [Try.params5] at hA hval
  obtain ⟨v0, vs0, d0, ds0, p0, q0, hargs, rfl, rfl, h0, r0⟩ := trodAll_cons hA
  obtain ⟨v1, vs1, d1, ds1, p1, q1, rfl, rfl, rfl, h1, r1⟩ := trodAll_cons r0
  obtain ⟨v2, vs2, d2, ds2, p2, q2, rfl, rfl, rfl, h2, r2⟩ := trodAll_cons r1
  obtain ⟨rfl, rfl, rfl⟩ := trodAll_nil r2
  obtain rfl : args = #[v0, v1, v2] := by cases args; simp_all
  obtain ⟨rfl, rfl⟩ := trodVars_none hV
  obtain ⟨c0_0, c0_1, c0_2, c0_3, y0_0, y0_1, y0_2, y0_3, m0, rfl, rfl, rfl, hy0_0, hy0_1, hy0_2, hy0_3⟩ := open_agg4 Try.underlying44 (by kernel_rfl) (by kernel_rfl) (hval 0 44 v0 rfl rfl) h0
  obtain ⟨a, e_a, rfl, w_a⟩ := DataW.trod_int Try.underlying3 hy0_0
  obtain ⟨b, e_b, rfl, w_b⟩ := DataW.trod_int Try.underlying3 hy0_1
  obtain ⟨c, e_c, rfl, w_c⟩ := DataW.trod_int Try.underlying3 hy0_2
  obtain ⟨d, e_d, rfl, w_d⟩ := DataW.trod_int Try.underlying3 hy0_3
  simp at e_a e_b e_c e_d
  subst e_a e_b e_c e_d
  obtain ⟨m, rfl, rfl, rfl, w_m⟩ := open_int Try.underlying3 (hval 1 3 v1 rfl rfl) h1
  obtain ⟨n, rfl, rfl, rfl, w_n⟩ := open_int Try.underlying3 (hval 2 3 v2 rfl rfl) h2
  clear hA0 hval0
  simp only [List.append_nil] at hW'
  refine (topEnclosuresNest_walk a b c d m n W (wfI w_a) (wfI w_b) (wfI w_c) (wfI w_d) (wfI w_m) (wfI w_n)).mono fun e W' ⟨he, hb⟩ => ?_
  subst he
  exact ⟨_, rfl, law_post (pa := []) (pv := []) hW' (fun _ _ _ => (trodAll_cons_mk (shut_bool Try.underlying4 _) trodAll_mk0)) (fun sp _ => (trodAll_cons_mk (shut_agg4 (y0 := (.lit (.int .i64 a), [])) (y1 := (.lit (.int .i64 b), [])) (y2 := (.lit (.int .i64 c), [])) (y3 := (.lit (.int .i64 d), [])) Try.underlying44 (by kernel_rfl) (by kernel_rfl) ⟨1, by simp [DataW.trod, Try.underlying3, w_a]⟩ ⟨1, by simp [DataW.trod, Try.underlying3, w_b]⟩ ⟨1, by simp [DataW.trod, Try.underlying3, w_c]⟩ ⟨1, by simp [DataW.trod, Try.underlying3, w_d]⟩) (trodAll_cons_mk (shut_int Try.underlying3 w_m) (trodAll_cons_mk (shut_int Try.underlying3 w_n) trodAll_mk0)))) (fun _ _ => rfl) rfl hb⟩

theorem topEnclosuresNest_holds : Rows.TopEnclosuresNestSaid :=
  OpenClaim.holds_of_wide 5 Try.f5 rfl rfl rfl rfl rfl rfl rfl ⟨rfl, rfl, rfl, rfl, rfl⟩ rfl rfl rfl rfl rfl (by kernel_rfl) Try.func5 (by kernel_rfl)
    (of_decide_eq_true (by kernel_rfl)) (by unfold Func.isWrapper; first | (rw [if_pos (by decide +kernel)]; kernel_rfl) | (rw [if_neg (by decide +kernel)]; exact ⟨rfl, rfl⟩))
    (fun os started H enc _ => topEnclosuresNest_lifted os started H enc)
end Go.Proofs.Ytfmonpjoadjimac
