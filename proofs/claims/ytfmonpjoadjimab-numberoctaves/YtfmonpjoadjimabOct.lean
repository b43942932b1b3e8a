/- Contracts of number.Octave. -/
import Derived.Test.YtfmonpjoadjimabOctM
import Derived.Test.YtfmonpjoadjimabOrder
import Derived.Test.YtfmonpjoadjimabGreatest
import Derived.Test.YtfmonpjoadjimabJoins
import Derived.Laws.EntriesVeiled
namespace Go.Proofs.Ytfmonpjoadjimab
open Go.RowKit
set_option linter.unusedVariables false
set_option linter.unusedSimpArgs false

set_option maxHeartbeats 1000000 in
set_option maxRecDepth 100000 in
theorem oct1_any (a b c d n : Int) (bp : Nat) (w : World) (hB : Blk w bp 23 #[.int .i64 a, .int .i64 b, .int .i64 c, .int .i64 d]) (ha : -10000 ≤ a ∧ a ≤ 10000) (hd : 1 ≤ d ∧ d ≤ 12) (hn : -10000 ≤ n ∧ n ≤ 10000) :
    Calls Try.prog 46 #[.int .i64 n, .pointer (some ⟨bp, 0, none⟩)] w fun e w' => e = .returned (.agg #[.int .i64 (a - n * d), .int .i64 b, .int .i64 c]) ∧ Below w.heap.size w w' := by
  have hm := mul_bound (x := n) (y := d) 10000 12 (by omega) (by omega)
  rw [show (10000 * 12 : Nat) = 120000 from rfl] at hm
  have L0 : Hid (Lv w w [(bp, 23, [.int .i64 a, .int .i64 b, .int .i64 c, .int .i64 d])]) := ⟨Below.refl _ _, fun x hx => by simp at hx; subst hx; simpa using hB⟩
  have q0 := hB.c4
  have hlt := hB.lt
  clear hB
  go_enter Try.func46, Try.ntmps46
  go_wp2_with fail
  refine Lv.call (exponentsOf_any a b c d _) (L0.out.put _ _) ?_
  intro w1 L1'
  have L1 := hide L1'
  have F1 := L1'.at
  clear L1'
  simp only [AllAt, CellsAt, updL, List.map, Nat.zero_add, Nat.reduceAdd, and_true, World.size_alloc, World.heap_drewN, heap_drew, size_set, Nat.add_eq_left, Nat.left_eq_add, Nat.add_right_cancel_iff, Nat.reduceEqDiff, Nat.one_ne_zero, Nat.succ_ne_zero, Nat.zero_ne_one, reduceIte, List.set_cons_zero, List.set_cons_succ] at F1
  go_wp2
  refine bodyPost_ret (v := .agg #[.int .i64 (a - n * d), .int .i64 b, .int .i64 c]) (by simp [results, Try.results46, go_sem, F1]) rfl ⟨rfl, ?_⟩
  repeat (first | (with_reducible exact L1.out.below) | refine Below.setCell ?_ (by first | omega | (simp; done) | (simp; omega)) _ | refine Below.alloc ?_ (by first | omega | (simp; done) | (simp; omega)) _ | refine below_drewN ?_ _ | refine Below.drew ?_)
theorem oct1_eq (a b c d n x : Int) (bp : Nat) (w : World) (hx : x = a - n * d) (hB : Blk w bp 23 #[.int .i64 a, .int .i64 b, .int .i64 c, .int .i64 d]) (ha : -10000 ≤ a ∧ a ≤ 10000) (hd : 1 ≤ d ∧ d ≤ 12) (hn : -10000 ≤ n ∧ n ≤ 10000) :
    Calls Try.prog 46 #[.int .i64 n, .pointer (some ⟨bp, 0, none⟩)] w fun e w' => e = .returned (.agg #[.int .i64 x, .int .i64 b, .int .i64 c]) ∧ Below w.heap.size w w' := by
  subst hx
  exact oct1_any a b c d n bp w hB ha hd hn
theorem Lv.far {w0 w : World} {L : List (Nat × TypeId × List Value)} (h : Lv w0 w L) : ∀ x ∈ L, ¬ x.1 = w.heap.size := fun x hx => by have := (h.blk x hx).lt; omega
theorem updL_far {L : List (Nat × TypeId × List Value)} {g i : Nat} {u : Value} (h : ∀ x ∈ L, ¬ x.1 = g) : updL L g i u = L := by
  unfold updL
  have e := List.map_congr_left (l := L) (f := fun x => if x.1 = g then (x.1, x.2.1, x.2.2.set i u) else x) (g := id) (fun x hx => if_neg (h x hx))
  rw [e, List.map_id]
theorem updL_here {L : List (Nat × TypeId × List Value)} {g i : Nat} {t : TypeId} {cs : List Value} {u : Value} (h : ∀ x ∈ L, ¬ x.1 = g) : updL ((g, t, cs) :: L) g i u = (g, t, cs.set i u) :: L := by
  have e : updL ((g, t, cs) :: L) g i u = (g, t, cs.set i u) :: updL L g i u := by simp [updL]
  rw [e, updL_far h]
theorem Lv.stored4 {w0 w : World} {L : List (Nat × TypeId × List Value)} {g : Nat} {t : TypeId} {z1 z2 z3 z4 u1 u2 u3 u4 : Value} (h : Lv w0 w ((g, t, [z1, z2, z3, z4]) :: L)) (hg : w0.heap.size ≤ g) (hf : ∀ x ∈ L, ¬ x.1 = g) :
    Lv w0 ((((w.setCell ⟨g, 0, none⟩ u1).setCell ⟨g, 1, none⟩ u2).setCell ⟨g, 2, none⟩ u3).setCell ⟨g, 3, none⟩ u4) ((g, t, [u1, u2, u3, u4]) :: L) := by
  have h1 := h.set g 0 u1 hg
  rw [updL_here hf] at h1
  have h2 := h1.set g 1 u2 hg
  rw [updL_here hf] at h2
  have h3 := h2.set g 2 u3 hg
  rw [updL_here hf] at h3
  have h4 := h3.set g 3 u4 hg
  rw [updL_here hf] at h4
  exact h4
/-- What holds while Octave looks for its octaves. -/
def octL (bp br ba : Nat) (a b c d : Int) : List (Nat × TypeId × List Value) :=
  [(ba, 92, [.func (.func 46) #[] #[.pointer (some ⟨bp, 0, none⟩)]]), (br, 23, [.int .i64 0, .int .i64 0, .int .i64 0, .int .i64 0]), (bp, 23, [.int .i64 a, .int .i64 b, .int .i64 c, .int .i64 d])]
theorem octL_lts {bp br ba : Nat} {a b c d : Int} {w0 w : World} (h : Lv w0 w (octL bp br ba a b c d)) : (¬ w.heap.size = ba ∧ ¬ ba = w.heap.size) ∧ (¬ w.heap.size = br ∧ ¬ br = w.heap.size) ∧ (¬ w.heap.size = bp ∧ ¬ bp = w.heap.size) := by
  have h1 := (h.blk _ (List.mem_cons_self)).lt
  have h2 := (h.blk _ (List.mem_cons_of_mem _ List.mem_cons_self)).lt
  have h3 := (h.blk _ (List.mem_cons_of_mem _ (List.mem_cons_of_mem _ List.mem_cons_self))).lt
  simp only at h1 h2 h3
  omega
def octT (a b c d n : Int) : Bool := decide (0 ≤ sgn (a - n * d) b c)
set_option maxHeartbeats 1000000 in
set_option maxRecDepth 100000 in
theorem oct2_any (a b c d n : Int) (bp br ba : Nat) (w0 w : World) (hI : Lv w0 w (octL bp br ba a b c d)) (hp : okP a b c d) (hn : -3000 ≤ n * d ∧ n * d ≤ 3000) (hn2 : -3000 ≤ n ∧ n ≤ 3000) :
    Calls Try.prog 48 #[.int .i64 n, .pointer (some ⟨ba, 0, none⟩)] w fun e w' => e = .returned (.bool (octT a b c d n)) ∧ Lv w0 w' (octL bp br ba a b c d) := by
  obtain ⟨hd, ha, hb, hc⟩ := hp
  unfold okE at ha hb hc
  have L0 := hide hI
  have F0 := hI.at
  have HB := hide (hI.blk _ (List.mem_cons_of_mem _ (List.mem_cons_of_mem _ (List.mem_singleton.2 rfl))))
  clear hI
  unfold octL at F0
  simp only [AllAt, CellsAt, updL, List.map, Nat.zero_add, Nat.reduceAdd, and_true] at F0
  obtain ⟨x, hx⟩ : ∃ x, x = a - n * d := ⟨_, rfl⟩
  have hxb : -10000 ≤ x ∧ x ≤ 10000 := by omega
  have HX := hide hx
  clear hx
  go_enter Try.func48, Try.ntmps48
  go_wp2_with (go_at_call 46; refine (oct1_any a b c d n bp _ (by first | exact HB.out | exact HB.out.drew) (by omega) hd (by omega)).mono ?_; rintro e w' ⟨rfl, hb1⟩; rw [← HX.out]; (try go_wp2_with (go_at_call 49; refine (against1_any x b c _ hxb (by omega) (by omega)).mono ?_; rintro e w'' ⟨rfl, hb2⟩; rw [HX.out])))
  go_ret
  exact ⟨rfl, (L0.out.kept hb1).kept hb2⟩
theorem octT_ends {a b c d u : Int} (hp : okP a b c d) (h1 : 2000 < (u + 1) * d) : OctV a b c d (-(u + 1)) ∨ octT a b c d (-(u + 1)) = true := by
  obtain ⟨hd, ha, hb, hc⟩ := hp
  unfold okE at ha hb hc
  right
  unfold octT
  have e : a - -(u + 1) * d = a + (u + 1) * d := by rw [Int.neg_mul]; omega
  rw [e]
  simpa using sgn_high2 (m := 400) (by omega) (by omega) (by omega)
theorem octT_far {a b c d u : Int} (hp : okP a b c d) (h1 : 2000 < (u + 1) * d) : octT a b c d (u + 1 + 1) = false := by
  obtain ⟨hd, ha, hb, hc⟩ := hp
  unfold okE at ha hb hc
  unfold octT
  have e : (u + 1 + 1) * d = (u + 1) * d + d := by rw [Int.add_mul]; omega
  have := sgn_low2 (m := 400) (x := a - (u + 1 + 1) * d) (y := b) (z := c) (by omega) (by omega) (by omega)
  simpa using this
theorem octT_val {a b c d u r : Int} (hp : okP a b c d) (h1 : 2000 < (u + 1) * d) (h2 : -(u + 1) ≤ r) (h3 : r ≤ u + 1) (h4 : -(u + 1) < r → octT a b c d r = true) (h5 : r < u + 1 → octT a b c d (r + 1) = false) : OctV a b c d r := by
  have k1 : octT a b c d r = true := by
    by_cases h : -(u + 1) < r
    · exact h4 h
    · obtain rfl : r = -(u + 1) := by omega
      rcases octT_ends hp h1 with h | h
      · unfold octT; simpa using h.1
      · exact h
  have k2 : octT a b c d (r + 1) = false := by
    by_cases h : r < u + 1
    · exact h5 h
    · obtain rfl : r = u + 1 := by omega
      exact octT_far hp h1
  unfold octT at k1 k2
  exact ⟨by simpa using k1, by simpa using k2⟩
/-- What Octave answers for a valid pitch of which n octaves can be taken. -/
def octR (a b c d n : Int) : Value := .tuple #[.agg #[.int .i64 (p2 (a - n * d) b c d), .int .i64 (p3 (a - n * d) b c d), .int .i64 (p5 (a - n * d) b c d), .int .i64 (pd (a - n * d) b c d)], .int .i64 (if fitP (a - n * d) b c d then n else 0), .int .i64 (pe (a - n * d) b c d)]
set_option maxHeartbeats 1000000 in
set_option maxRecDepth 100000 in
theorem octave_ok (a b c d : Int) (w : World) (hp : okP a b c d) :
    Calls Try.prog 11 #[.agg #[.int .i64 a, .int .i64 b, .int .i64 c, .int .i64 d]] w fun e w' => ∃ n, OctV a b c d n ∧ (-3000 ≤ n ∧ n ≤ 3000) ∧ e = .returned (octR a b c d n) ∧ Below w.heap.size w w' := by
  have hmf : ∀ (fn : Fn) (first cap : Array Value) (w : World), (Instr.makeFunc fn first cap).run Try.prog w = .ok (.func fn first cap) w := fun _ _ _ _ => rfl
  have HE : Hid (pitchErr a b c d = 0) := if_pos hp
  have HP := hide hp
  obtain ⟨hd, ha, hb, hc⟩ := hp
  unfold okE at ha hb hc
  obtain ⟨u, hu⟩ : ∃ u, (2000 : Int).tdiv d = u := ⟨_, rfl⟩
  have hu1 : (2000 : Int) / d = u := by rw [← hu, Int.tdiv_eq_ediv_of_nonneg (by omega)]
  have hu2 : 0 ≤ u ∧ u ≤ 2000 := by
    constructor
    · rw [← hu1]; exact Int.ediv_nonneg (by omega) (by omega)
    · rw [← hu1]; exact Int.ediv_le_self _ (by omega)
  have hu3 : 2000 < (u + 1) * d := by
    rw [← hu1]
    exact Int.lt_ediv_add_one_mul_self 2000 (by omega)
  have hu4 : u * d ≤ 2000 := by rw [← hu1]; exact Int.ediv_mul_le 2000 (by omega)
  have hu5 : (u + 1) * d = u * d + d := by rw [Int.add_mul]; omega
  have HU3 := hide hu3
  have mono : ∀ r : Int, -(u + 1) ≤ r → r ≤ u + 1 → -3000 ≤ r * d ∧ r * d ≤ 3000 := fun r h1 h2 => by
    have k1 := Int.mul_le_mul_of_nonneg_right h1 (show 0 ≤ d by omega)
    have k2 := Int.mul_le_mul_of_nonneg_right h2 (show 0 ≤ d by omega)
    rw [Int.neg_mul] at k1
    omega
  have HM := hide mono
  clear mono hu1 hu3 hu4 hu5
  have nd : ¬ d = 0 := by omega
  have W1 : IntKind.i64.wrap u = u := by rw [IntKind.wrap_i64]; omega
  have L0 := hide (Lv.start w)
  go_enter Try.func11, Try.ntmps11
  go_wp2_with fail
  refine Lv.call (checkPitch_any a b c d _) ((L0.out.put _ _).put _ _) ?_
  intro w1 L1'
  have L1 := hide L1'
  have F1 := L1'.at
  clear L1'
  simp only [AllAt, CellsAt, updL, List.map, Nat.zero_add, Nat.reduceAdd, and_true, World.size_alloc, World.heap_drewN, heap_drew, size_set, Nat.add_eq_left, Nat.left_eq_add, Nat.add_right_cancel_iff, Nat.reduceEqDiff, Nat.one_ne_zero, Nat.succ_ne_zero, Nat.zero_ne_one, reduceIte, List.set_cons_zero, List.set_cons_succ] at F1
  rw [HE.out]
  have HI : Hid (Lv w (w1.alloc (.cells #[.func (.func 46) #[] #[.pointer (some ⟨w.heap.size, 0, none⟩)]] 92)) (octL w.heap.size (w.heap.size + 1) w1.heap.size a b c d)) := by
    have h := L1.out.put [.func (.func 46) #[] #[.pointer (some ⟨w.heap.size, 0, none⟩)]] 92
    simpa [octL, Hid] using h
  go_wp2_with fail
  refine (greatest_any 48 #[.pointer (some ⟨w1.heap.size, 0, none⟩)] (fun W => Lv w W (octL w.heap.size (w.heap.size + 1) w1.heap.size a b c d)) (octT a b c d) (-(u + 1)) (u + 1) _ (by omega) (by omega) (by omega) HI.out
    (enters_of Try.func48 (by kernel_rfl) rfl) (fun n W g1 g2 hI => oct2_any a b c d n w.heap.size (w.heap.size + 1) w1.heap.size w W hI HP.out (HM.out n (by omega) g2) (by omega))).mono ?_
  rintro e w2 ⟨n, rfl, g1, g2, g3, g4, hI⟩
  have HV := hide (octT_val HP.out HU3.out g1 g2 g3 g4)
  have hnb := HM.out n g1 g2
  have hn : -3000 ≤ n ∧ n ≤ 3000 := by omega
  have L2 := hide hI
  have HB := hide (hI.blk _ (List.mem_cons_of_mem _ (List.mem_cons_of_mem _ (List.mem_singleton.2 rfl))))
  clear g1 g2 g3 g4 hI HI L1 F1
  have F2 := L2.out.at
  unfold octL at F2
  simp only [AllAt, CellsAt, updL, List.map, Nat.zero_add, Nat.reduceAdd, and_true] at F2
  obtain ⟨x, hx⟩ : ∃ x, x = a - n * d := ⟨_, rfl⟩
  have hxb : -10000 ≤ x ∧ x ≤ 10000 := by omega
  have HX := hide hx
  clear hx
  have n2 := octL_lts L2.out
  go_upto_region 8 with fail
  go_cut [10, 11] (fun s10 s11 wx => ∃ g : Nat, s10 = .pointer (some ⟨g, 0, none⟩) ∧ s11 = .int .i64 (pe x b c d) ∧ Hid (Lv w wx ((g, 23, [.int .i64 (p2 x b c d), .int .i64 (p3 x b c d), .int .i64 (p5 x b c d), .int .i64 (pd x b c d)]) :: octL w.heap.size (w.heap.size + 1) w1.heap.size a b c d)))
  case first =>
    go_region_held3 (fun w' => w'.cell? ⟨w1.heap.size, 0, none⟩ = some (.func (.func 46) #[] #[.pointer (some ⟨w.heap.size, 0, none⟩)]) ∧ w'.cell? ⟨w.heap.size, 3, none⟩ = some (.int .i64 d))
      (go_keep)
      (first | (go_at_call 51; (first | (refine Lv.call (pitchOf_any x b c d _ (by omega) (by omega) (by omega) (by omega)) (L3.out.put _ _) ?_; intro w4 L4'; have L4 := hide L4'; have F4 := L4'.at; clear L4'; unfold octL at F4; simp only [AllAt, CellsAt, updL, List.map, Nat.zero_add, Nat.reduceAdd, and_true, World.size_alloc, World.heap_drewN, heap_drew, size_set] at F4; have n4 := octL_lts (by first | exact L4.out | exact L4.out.drop)) | (refine Lv.call (pitchOf_any x b c d _ (by omega) (by omega) (by omega) (by omega)) L3.out ?_; intro w4 L4'; have L4 := hide L4'; have F4 := L4'.at; clear L4'; unfold octL at F4; simp only [AllAt, CellsAt, updL, List.map, Nat.zero_add, Nat.reduceAdd, and_true, World.size_alloc, World.heap_drewN, heap_drew, size_set] at F4; have n4 := octL_lts (by first | exact L4.out | exact L4.out.drop)))) | (go_at_call 46; (first | (refine Lv.call (oct1_eq a b c d n x w.heap.size _ HX.out (by first | exact HB.out.drew | exact HB.out.drew.alloc _) (by omega) hd (by omega)) ((L2.out.drew).put _ _) ?_; intro w3 L3'; have L3 := hide L3'; have F3 := L3'.at; clear L3'; unfold octL at F3; simp only [AllAt, CellsAt, updL, List.map, Nat.zero_add, Nat.reduceAdd, and_true, World.size_alloc, World.heap_drewN, heap_drew, size_set] at F3; have n3 := octL_lts (by first | exact L3.out | exact L3.out.drop)) | (refine Lv.call (oct1_eq a b c d n x w.heap.size _ HX.out (by first | exact HB.out.drew | exact HB.out.drew.alloc _) (by omega) hd (by omega)) (L2.out.drew) ?_; intro w3 L3'; have L3 := hide L3'; have F3 := L3'.at; clear L3'; unfold octL at F3; simp only [AllAt, CellsAt, updL, List.map, Nat.zero_add, Nat.reduceAdd, and_true, World.size_alloc, World.heap_drewN, heap_drew, size_set] at F3; have n3 := octL_lts (by first | exact L3.out | exact L3.out.drop)))) | fail)
    all_goals
      go_wp2_with fail
      go_meet
      refine ⟨_, rfl, rfl, hide ?_⟩
    · exact L4.out.put _ _
    · exact L4.out.stored4 L3.out.size L3.out.far
    · exact L4.out.stored4 L2.out.size L2.out.far
  case rest =>
    obtain ⟨g, rfl, rfl, L5⟩ := hcut
    clear F2 L2
    have F5 := L5.out.at
    unfold octL at F5
    simp only [AllAt, CellsAt, updL, List.map, Nat.zero_add, Nat.reduceAdd, and_true, World.size_alloc, World.heap_drewN, heap_drew, size_set] at F5
    by_cases hf : fitP x b c d
    · have HQ : Hid (octR a b c d n = .tuple #[.agg #[.int .i64 (p2 x b c d), .int .i64 (p3 x b c d), .int .i64 (p5 x b c d), .int .i64 (pd x b c d)], .int .i64 n, .int .i64 0]) := by
        unfold octR Hid
        rw [← HX.out, show pe x b c d = 0 from if_pos hf, if_pos hf]
      rw [show pe x b c d = 0 from if_pos hf]
      clear hf
      go_wp2
      refine bodyPost_ret (v := .tuple #[.agg #[.int .i64 (p2 x b c d), .int .i64 (p3 x b c d), .int .i64 (p5 x b c d), .int .i64 (pd x b c d)], .int .i64 n, .int .i64 0]) (by simp [results, Try.results11, go_sem, F5]) rfl ⟨n, HV.out, hn, by rw [HQ.out], ?_⟩
      repeat (first | (with_reducible exact L5.out.below) | refine Below.setCell ?_ (by first | omega | (simp; done) | (simp; omega)) _ | refine Below.alloc ?_ (by first | omega | (simp; done) | (simp; omega)) _ | refine below_drewN ?_ _ | refine Below.drew ?_)
    · have HQ : Hid (octR a b c d n = .tuple #[.agg #[.int .i64 0, .int .i64 0, .int .i64 0, .int .i64 0], .int .i64 0, .int .i64 8]) := by
        unfold octR Hid
        rw [← HX.out, show pe x b c d = 8 from if_neg hf, if_neg hf]
        unfold p2 p3 p5 pd
        rw [if_neg hf, if_neg hf, if_neg hf, if_neg hf]
      rw [show pe x b c d = 8 from if_neg hf]
      clear hf
      go_wp2
      refine bodyPost_ret (v := .tuple #[.agg #[.int .i64 0, .int .i64 0, .int .i64 0, .int .i64 0], .int .i64 0, .int .i64 8]) (by simp [results, Try.results11, go_sem, F5]) rfl ⟨n, HV.out, hn, by rw [HQ.out], ?_⟩
      repeat (first | (with_reducible exact L5.out.below) | refine Below.setCell ?_ (by first | omega | (simp; done) | (simp; omega)) _ | refine Below.alloc ?_ (by first | omega | (simp; done) | (simp; omega)) _ | refine below_drewN ?_ _ | refine Below.drew ?_)
set_option maxHeartbeats 1000000 in
set_option maxRecDepth 100000 in
theorem octave_bad (a b c d : Int) (w : World) (hp : ¬ okP a b c d) :
    Calls Try.prog 11 #[.agg #[.int .i64 a, .int .i64 b, .int .i64 c, .int .i64 d]] w fun e w' => e = .returned (.tuple #[.agg #[.int .i64 0, .int .i64 0, .int .i64 0, .int .i64 0], .int .i64 0, .int .i64 2]) ∧ Below w.heap.size w w' := by
  have HE : Hid (pitchErr a b c d = 2) := if_neg hp
  clear hp
  have L0 := hide (Lv.start w)
  go_enter Try.func11, Try.ntmps11
  go_wp2_with fail
  refine Lv.call (checkPitch_any a b c d _) ((L0.out.put _ _).put _ _) ?_
  intro w1 L1'
  have L1 := hide L1'
  have F1 := L1'.at
  clear L1'
  simp only [AllAt, CellsAt, updL, List.map, Nat.zero_add, Nat.reduceAdd, and_true, World.size_alloc, World.heap_drewN, heap_drew, size_set, Nat.add_eq_left, Nat.left_eq_add, Nat.add_right_cancel_iff, Nat.reduceEqDiff, Nat.one_ne_zero, Nat.succ_ne_zero, Nat.zero_ne_one, reduceIte, List.set_cons_zero, List.set_cons_succ] at F1
  rw [HE.out]
  go_wp2
  refine bodyPost_ret (v := .tuple #[.agg #[.int .i64 0, .int .i64 0, .int .i64 0, .int .i64 0], .int .i64 0, .int .i64 2]) (by simp [results, Try.results11, go_sem, F1]) rfl ⟨rfl, ?_⟩
  repeat (first | (with_reducible exact L1.out.below) | refine Below.setCell ?_ (by first | omega | (simp; done) | (simp; omega)) _ | refine Below.alloc ?_ (by first | omega | (simp; done) | (simp; omega)) _ | refine below_drewN ?_ _ | refine Below.drew ?_)
end Go.Proofs.Ytfmonpjoadjimab
