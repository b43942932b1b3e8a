/- Contracts of number.Plus and agrafferef01.Plus. -/
import Derived.Test.YtfmonpjoadjimacRanges
namespace Go.Proofs.Ytfmonpjoadjimac
open Go.RowKit

theorem rangesErr_cases (a b c d : Int) : (rangesErr a b c d = 0 ∧ (okB a ∧ okB b ∧ a ≤ b) ∧ okB c ∧ okB d ∧ c ≤ d) ∨ rangesErr a b c d = 2 ∨ rangesErr a b c d = 9 := by
  unfold rangesErr
  rcases rangeErr_cases a b with ⟨h, h'⟩ | h | h
  · rw [if_pos h]
    rcases rangeErr_cases c d with ⟨k, k'⟩ | k | k
    · exact Or.inl ⟨k, h', k'⟩
    · exact Or.inr (Or.inl k)
    · exact Or.inr (Or.inr k)
  · rw [if_neg (by omega)]; exact Or.inr (Or.inl h)
  · rw [if_neg (by omega)]; exact Or.inr (Or.inr h)

set_option maxHeartbeats 1000000 in
set_option maxRecDepth 100000 in
theorem plus_ok (a b c d : Int) (w : World) (h : (okB a ∧ okB b ∧ a ≤ b) ∧ okB c ∧ okB d ∧ c ≤ d) (hE : rangesErr a b c d = 0) :
    Calls Try.prog 19 #[.agg #[.int .i64 a, .int .i64 b], .agg #[.int .i64 c, .int .i64 d]] w fun e w' => e = .returned (.tuple #[.agg #[.int .i64 (rl (a + c) (b + d)), .int .i64 (rh (a + c) (b + d))], .int .i64 (re (a + c) (b + d))]) ∧ Below w.heap.size w w' := by
  obtain ⟨⟨ha, hb, hab⟩, hc, hd, hcd⟩ := h
  unfold okB at ha hb hc hd
  have HE := hide hE
  clear hE
  go_enter Try.func19, Try.ntmps19
  go_wp2_with fail
  refine (checkRanges_any _ 2 a b c d _ (Blk.new _ _ _ _ (by simp))).mono ?_
  rintro e w2 ⟨rfl, hb2⟩
  rw [HE.out]
  have A2 : Hid (Blk w2 w.heap.size 47 #[.int .i64 a, .int .i64 b]) := ((((Blk.new w _ _ _ rfl).alloc _).alloc _).alloc _).kept hb2
  have C2 : Hid (Blk w2 (w.heap.size + 1) 47 #[.int .i64 c, .int .i64 d]) := (((Blk.new (w.alloc _) _ _ _ (by simp)).alloc _).alloc _).kept hb2
  have R2 : Hid (Blk w2 (w.heap.size + 1 + 1) 47 #[.int .i64 0, .int .i64 0]) := ((Blk.new ((w.alloc _).alloc _) _ _ _ (by simp)).alloc _).kept hb2
  have HB : Hid (Below w.heap.size w w2) := ((below_two w _ _).trans (below_two ((w.alloc _).alloc _) _ _ |>.mono (by simp; omega))).trans (hb2.mono (by simp; omega))
  clear hb2
  obtain ⟨⟨q0, q1⟩, _⟩ := A2.out.c2
  obtain ⟨⟨q2, q3⟩, _⟩ := C2.out.c2
  go_wp2_with fail
  refine (fitting_any (a + c) (b + d) _).mono ?_
  rintro e w3 ⟨rfl, hb3⟩
  have R3 := hide (R2.out.kept hb3)
  have HB3 := hide (HB.out.trans (hb3.mono HB.out.size))
  clear hb3
  obtain ⟨⟨t0, t1⟩, f0, f1⟩ := R3.out.c2
  go_wp2
  refine bodyPost_ret (v := .tuple #[.agg #[.int .i64 (rl (a + c) (b + d)), .int .i64 (rh (a + c) (b + d))], .int .i64 (re (a + c) (b + d))]) (by simp [results, Try.results19, go_sem, t0, t1]) rfl ⟨rfl, ?_⟩
  repeat (first | exact HB3.out | refine Below.setCell ?_ (by simp; omega) _)

set_option maxHeartbeats 1000000 in
set_option maxRecDepth 100000 in
theorem plus_bad (a b c d E : Int) (w : World) (hE : rangesErr a b c d = E) (hc : E = 2 ∨ E = 9) :
    Calls Try.prog 19 #[.agg #[.int .i64 a, .int .i64 b], .agg #[.int .i64 c, .int .i64 d]] w fun e w' => e = .returned (.tuple #[.agg #[.int .i64 0, .int .i64 0], .int .i64 E]) ∧ Below w.heap.size w w' := by
  have HE := hide hE
  clear hE
  go_enter Try.func19, Try.ntmps19
  go_wp2_with fail
  refine (checkRanges_any _ 2 a b c d _ (Blk.new _ _ _ _ (by simp))).mono ?_
  rintro e w2 ⟨rfl, hb2⟩
  rw [HE.out]
  have R2 : Hid (Blk w2 (w.heap.size + 1 + 1) 47 #[.int .i64 0, .int .i64 0]) := ((Blk.new ((w.alloc _).alloc _) _ _ _ (by simp)).alloc _).kept hb2
  have HB : Hid (Below w.heap.size w w2) := ((below_two w _ _).trans (below_two ((w.alloc _).alloc _) _ _ |>.mono (by simp; omega))).trans (hb2.mono (by simp; omega))
  clear hb2 HE
  obtain ⟨⟨t0, t1⟩, f0, f1⟩ := R2.out.c2
  rcases hc with rfl | rfl
  · go_wp2
    refine bodyPost_ret (v := .tuple #[.agg #[.int .i64 0, .int .i64 0], .int .i64 2]) (by simp [results, Try.results19, go_sem, t0, t1]) rfl ⟨rfl, ?_⟩
    repeat (first | exact HB.out | refine Below.setCell ?_ (by simp; omega) _)
  · go_wp2
    refine bodyPost_ret (v := .tuple #[.agg #[.int .i64 0, .int .i64 0], .int .i64 9]) (by simp [results, Try.results19, go_sem, t0, t1]) rfl ⟨rfl, ?_⟩
    repeat (first | exact HB.out | refine Below.setCell ?_ (by simp; omega) _)

end Go.Proofs.Ytfmonpjoadjimac
