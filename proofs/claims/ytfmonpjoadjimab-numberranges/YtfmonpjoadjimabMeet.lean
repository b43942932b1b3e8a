/- Contracts of agrafferef01.Plus, number.Meet and agrafferef01.Meet. -/
import Derived.Test.YtfmonpjoadjimabPlus
namespace Go.Proofs.Ytfmonpjoadjimab
open Go.RowKit

set_option maxHeartbeats 1000000 in
set_option maxRecDepth 100000 in
theorem refPlus_any (a b c d : Int) (w : World) (h : (okB a ∧ okB b ∧ a ≤ b) ∧ okB c ∧ okB d ∧ c ≤ d) :
    Calls Try.prog 25 #[.agg #[.int .i64 a, .int .i64 b], .agg #[.int .i64 c, .int .i64 d]] w fun e w' => e = .returned (.tuple #[.agg #[.int .i64 (rl (a + c) (b + d)), .int .i64 (rh (a + c) (b + d))], .int .i64 (re (a + c) (b + d))]) ∧ Below w.heap.size w w' := by
  obtain ⟨⟨ha, hb, hab⟩, hc, hd, hcd⟩ := h
  unfold okB at ha hb hc hd
  go_enter Try.func25, Try.ntmps25
  go_wp2_with fail
  refine (refCheckRange_any (a + c) (b + d) _).mono ?_
  rintro e w2 ⟨rfl, hb2⟩
  have R2 : Hid (Blk w2 (w.heap.size + 1 + 1) 39 #[.int .i64 0, .int .i64 0]) := ((Blk.new ((w.alloc _).alloc _) _ _ _ (by simp)).alloc _).kept hb2
  have S2 : Hid (Blk w2 (w.heap.size + 1 + 1 + 1) 39 #[.int .i64 (a + c), .int .i64 (b + d)]) := (Blk.new (((w.alloc _).alloc _).alloc _) _ _ _ (by simp)).kept hb2
  have HB : Hid (Below w.heap.size w w2) := ((below_two w _ _).trans (below_two ((w.alloc _).alloc _) _ _ |>.mono (by simp; omega))).trans (hb2.mono (by simp; omega))
  clear hb2
  obtain ⟨⟨q0, q1⟩, _⟩ := S2.out.c2
  obtain ⟨⟨t0, t1⟩, f0, f1⟩ := R2.out.c2
  rcases rangeErr_cases (a + c) (b + d) with ⟨h, _, _, _⟩ | h | h
  · have HV := hide (rangeV_ok h)
    rw [h]
    clear h
    go_wp2
    refine bodyPost_ret (v := .tuple #[.agg #[.int .i64 (a + c), .int .i64 (b + d)], .int .i64 0]) (by simp [results, Try.results25, go_sem, t0, t1]) rfl ⟨by rw [HV.out], ?_⟩
    repeat (first | exact HB.out | refine Below.setCell ?_ (by simp; omega) _)
  · have HV := hide (rangeV_no (show rangeErr (a + c) (b + d) ≠ 0 by omega))
    rw [h]
    clear h
    go_wp2
    refine bodyPost_ret (v := .tuple #[.agg #[.int .i64 0, .int .i64 0], .int .i64 8]) (by simp [results, Try.results25, go_sem, t0, t1]) rfl ⟨by rw [HV.out], ?_⟩
    repeat (first | exact HB.out | refine Below.setCell ?_ (by simp; omega) _)
  · have HV := hide (rangeV_no (show rangeErr (a + c) (b + d) ≠ 0 by omega))
    rw [h]
    clear h
    go_wp2
    refine bodyPost_ret (v := .tuple #[.agg #[.int .i64 0, .int .i64 0], .int .i64 8]) (by simp [results, Try.results25, go_sem, t0, t1]) rfl ⟨by rw [HV.out], ?_⟩
    repeat (first | exact HB.out | refine Below.setCell ?_ (by simp; omega) _)

/-- The common range: its bounds, or zeros, and its error. -/
def mlo (a c : Int) : Int := if a < c then c else a
def mhi (b d : Int) : Int := if d < b then d else b
def ml (a b c d : Int) : Int := if mlo a c ≤ mhi b d then mlo a c else 0
def mh (a b c d : Int) : Int := if mlo a c ≤ mhi b d then mhi b d else 0
def me (a b c d : Int) : Int := if mlo a c ≤ mhi b d then 0 else 12
theorem meetV_ok {a b c d lo hi : Int} (h1 : mlo a c = lo) (h2 : mhi b d = hi) (h : lo ≤ hi) : (.tuple #[.agg #[.int .i64 (ml a b c d), .int .i64 (mh a b c d)], .int .i64 (me a b c d)] : Value) = .tuple #[.agg #[.int .i64 lo, .int .i64 hi], .int .i64 0] := by
  subst h1 h2; unfold ml mh me; rw [if_pos h, if_pos h, if_pos h]
theorem meetV_no {a b c d lo hi : Int} (h1 : mlo a c = lo) (h2 : mhi b d = hi) (h : hi < lo) : (.tuple #[.agg #[.int .i64 (ml a b c d), .int .i64 (mh a b c d)], .int .i64 (me a b c d)] : Value) = .tuple #[.agg #[.int .i64 0, .int .i64 0], .int .i64 12] := by
  subst h1 h2; unfold ml mh me; rw [if_neg (by omega), if_neg (by omega), if_neg (by omega)]

set_option maxHeartbeats 2000000 in
set_option maxRecDepth 100000 in
theorem meet_ok (a b c d : Int) (w : World) (hE : rangesErr a b c d = 0) :
    Calls Try.prog 21 #[.agg #[.int .i64 a, .int .i64 b], .agg #[.int .i64 c, .int .i64 d]] w fun e w' => e = .returned (.tuple #[.agg #[.int .i64 (ml a b c d), .int .i64 (mh a b c d)], .int .i64 (me a b c d)]) ∧ Below w.heap.size w w' := by
  have HE := hide hE
  clear hE
  go_enter Try.func21, Try.ntmps21
  go_wp2_with fail
  refine (checkRanges_any _ 2 a b c d _ (Blk.new _ _ _ _ (by simp))).mono ?_
  rintro e w2 ⟨rfl, hb2⟩
  rw [HE.out]
  have A2 : Hid (Blk w2 w.heap.size 39 #[.int .i64 a, .int .i64 b]) := ((((Blk.new w _ _ _ rfl).alloc _).alloc _).alloc _).kept hb2
  have C2 : Hid (Blk w2 (w.heap.size + 1) 39 #[.int .i64 c, .int .i64 d]) := (((Blk.new (w.alloc _) _ _ _ (by simp)).alloc _).alloc _).kept hb2
  have R2 : Hid (Blk w2 (w.heap.size + 1 + 1) 39 #[.int .i64 0, .int .i64 0]) := ((Blk.new ((w.alloc _).alloc _) _ _ _ (by simp)).alloc _).kept hb2
  have HB : Hid (Below w.heap.size w w2) := ((below_two w _ _).trans (below_two ((w.alloc _).alloc _) _ _ |>.mono (by simp; omega))).trans (hb2.mono (by simp; omega))
  have hlt : w.heap.size + 1 + 1 < w2.heap.size := R2.out.lt
  clear hb2
  obtain ⟨⟨q0, q1⟩, _⟩ := A2.out.c2
  obtain ⟨⟨q2, q3⟩, _⟩ := C2.out.c2
  obtain ⟨⟨t0, t1⟩, f0, f1⟩ := R2.out.c2
  by_cases h1 : a < c
  · by_cases h2 : d < b
    · by_cases h3 : c ≤ d
      · have HV := hide (meetV_ok (a := a) (b := b) (c := c) (d := d) (if_pos h1) (if_pos h2) h3)
        have k0 : (((w2.setCell ⟨w.heap.size + 1 + 1, 0, none⟩ (.int .i64 c)).setCell ⟨w.heap.size + 1 + 1, 1, none⟩ (.int .i64 d)).alloc (.cells #[.int .i64 c, .int .i64 d] 39)).cell? ⟨w.heap.size + 1 + 1, 0, none⟩ = some (.int .i64 c) := (((R2.out.set 0 _).set 1 _).alloc _).cell 0
        have k1 : (((w2.setCell ⟨w.heap.size + 1 + 1, 0, none⟩ (.int .i64 c)).setCell ⟨w.heap.size + 1 + 1, 1, none⟩ (.int .i64 d)).alloc (.cells #[.int .i64 c, .int .i64 d] 39)).cell? ⟨w.heap.size + 1 + 1, 1, none⟩ = some (.int .i64 d) := (((R2.out.set 0 _).set 1 _).alloc _).cell 1
        have K0 := hide k0
        have K1 := hide k1
        clear k0 k1
        go_wp2
        refine bodyPost_ret (v := .tuple #[.agg #[.int .i64 c, .int .i64 d], .int .i64 0]) (by simp [results, Try.results21, go_sem, K0.out, K1.out]) rfl ⟨by rw [HV.out], ?_⟩
        repeat (first | exact HB.out | refine Below.setCell ?_ (by simp; omega) _ | refine Below.alloc ?_ (by first | omega | (simp; done) | (simp; omega)) _ | exact Below.refl _ _)
      · have HV := hide (meetV_no (a := a) (b := b) (c := c) (d := d) (if_pos h1) (if_pos h2) (by omega))
        have k0 : (((w2.setCell ⟨w.heap.size + 1 + 1, 0, none⟩ (.int .i64 0)).setCell ⟨w.heap.size + 1 + 1, 1, none⟩ (.int .i64 0)).alloc (.cells #[.int .i64 c, .int .i64 d] 39)).cell? ⟨w.heap.size + 1 + 1, 0, none⟩ = some (.int .i64 0) := (((R2.out.set 0 _).set 1 _).alloc _).cell 0
        have k1 : (((w2.setCell ⟨w.heap.size + 1 + 1, 0, none⟩ (.int .i64 0)).setCell ⟨w.heap.size + 1 + 1, 1, none⟩ (.int .i64 0)).alloc (.cells #[.int .i64 c, .int .i64 d] 39)).cell? ⟨w.heap.size + 1 + 1, 1, none⟩ = some (.int .i64 0) := (((R2.out.set 0 _).set 1 _).alloc _).cell 1
        have K0 := hide k0
        have K1 := hide k1
        clear k0 k1
        go_wp2
        refine bodyPost_ret (v := .tuple #[.agg #[.int .i64 0, .int .i64 0], .int .i64 12]) (by simp [results, Try.results21, go_sem, K0.out, K1.out]) rfl ⟨by rw [HV.out], ?_⟩
        repeat (first | exact HB.out | refine Below.setCell ?_ (by simp; omega) _ | refine Below.alloc ?_ (by first | omega | (simp; done) | (simp; omega)) _ | exact Below.refl _ _)
    · by_cases h3 : c ≤ b
      · have HV := hide (meetV_ok (a := a) (b := b) (c := c) (d := d) (if_pos h1) (if_neg h2) h3)
        have k0 : (((w2.setCell ⟨w.heap.size + 1 + 1, 0, none⟩ (.int .i64 c)).setCell ⟨w.heap.size + 1 + 1, 1, none⟩ (.int .i64 b)).alloc (.cells #[.int .i64 c, .int .i64 b] 39)).cell? ⟨w.heap.size + 1 + 1, 0, none⟩ = some (.int .i64 c) := (((R2.out.set 0 _).set 1 _).alloc _).cell 0
        have k1 : (((w2.setCell ⟨w.heap.size + 1 + 1, 0, none⟩ (.int .i64 c)).setCell ⟨w.heap.size + 1 + 1, 1, none⟩ (.int .i64 b)).alloc (.cells #[.int .i64 c, .int .i64 b] 39)).cell? ⟨w.heap.size + 1 + 1, 1, none⟩ = some (.int .i64 b) := (((R2.out.set 0 _).set 1 _).alloc _).cell 1
        have K0 := hide k0
        have K1 := hide k1
        clear k0 k1
        go_wp2
        refine bodyPost_ret (v := .tuple #[.agg #[.int .i64 c, .int .i64 b], .int .i64 0]) (by simp [results, Try.results21, go_sem, K0.out, K1.out]) rfl ⟨by rw [HV.out], ?_⟩
        repeat (first | exact HB.out | refine Below.setCell ?_ (by simp; omega) _ | refine Below.alloc ?_ (by first | omega | (simp; done) | (simp; omega)) _ | exact Below.refl _ _)
      · have HV := hide (meetV_no (a := a) (b := b) (c := c) (d := d) (if_pos h1) (if_neg h2) (by omega))
        have k0 : (((w2.setCell ⟨w.heap.size + 1 + 1, 0, none⟩ (.int .i64 0)).setCell ⟨w.heap.size + 1 + 1, 1, none⟩ (.int .i64 0)).alloc (.cells #[.int .i64 c, .int .i64 b] 39)).cell? ⟨w.heap.size + 1 + 1, 0, none⟩ = some (.int .i64 0) := (((R2.out.set 0 _).set 1 _).alloc _).cell 0
        have k1 : (((w2.setCell ⟨w.heap.size + 1 + 1, 0, none⟩ (.int .i64 0)).setCell ⟨w.heap.size + 1 + 1, 1, none⟩ (.int .i64 0)).alloc (.cells #[.int .i64 c, .int .i64 b] 39)).cell? ⟨w.heap.size + 1 + 1, 1, none⟩ = some (.int .i64 0) := (((R2.out.set 0 _).set 1 _).alloc _).cell 1
        have K0 := hide k0
        have K1 := hide k1
        clear k0 k1
        go_wp2
        refine bodyPost_ret (v := .tuple #[.agg #[.int .i64 0, .int .i64 0], .int .i64 12]) (by simp [results, Try.results21, go_sem, K0.out, K1.out]) rfl ⟨by rw [HV.out], ?_⟩
        repeat (first | exact HB.out | refine Below.setCell ?_ (by simp; omega) _ | refine Below.alloc ?_ (by first | omega | (simp; done) | (simp; omega)) _ | exact Below.refl _ _)
  · by_cases h2 : d < b
    · by_cases h3 : a ≤ d
      · have HV := hide (meetV_ok (a := a) (b := b) (c := c) (d := d) (if_neg h1) (if_pos h2) h3)
        have k0 : (((w2.setCell ⟨w.heap.size + 1 + 1, 0, none⟩ (.int .i64 a)).setCell ⟨w.heap.size + 1 + 1, 1, none⟩ (.int .i64 d)).alloc (.cells #[.int .i64 a, .int .i64 d] 39)).cell? ⟨w.heap.size + 1 + 1, 0, none⟩ = some (.int .i64 a) := (((R2.out.set 0 _).set 1 _).alloc _).cell 0
        have k1 : (((w2.setCell ⟨w.heap.size + 1 + 1, 0, none⟩ (.int .i64 a)).setCell ⟨w.heap.size + 1 + 1, 1, none⟩ (.int .i64 d)).alloc (.cells #[.int .i64 a, .int .i64 d] 39)).cell? ⟨w.heap.size + 1 + 1, 1, none⟩ = some (.int .i64 d) := (((R2.out.set 0 _).set 1 _).alloc _).cell 1
        have K0 := hide k0
        have K1 := hide k1
        clear k0 k1
        go_wp2
        refine bodyPost_ret (v := .tuple #[.agg #[.int .i64 a, .int .i64 d], .int .i64 0]) (by simp [results, Try.results21, go_sem, K0.out, K1.out]) rfl ⟨by rw [HV.out], ?_⟩
        repeat (first | exact HB.out | refine Below.setCell ?_ (by simp; omega) _ | refine Below.alloc ?_ (by first | omega | (simp; done) | (simp; omega)) _ | exact Below.refl _ _)
      · have HV := hide (meetV_no (a := a) (b := b) (c := c) (d := d) (if_neg h1) (if_pos h2) (by omega))
        have k0 : (((w2.setCell ⟨w.heap.size + 1 + 1, 0, none⟩ (.int .i64 0)).setCell ⟨w.heap.size + 1 + 1, 1, none⟩ (.int .i64 0)).alloc (.cells #[.int .i64 a, .int .i64 d] 39)).cell? ⟨w.heap.size + 1 + 1, 0, none⟩ = some (.int .i64 0) := (((R2.out.set 0 _).set 1 _).alloc _).cell 0
        have k1 : (((w2.setCell ⟨w.heap.size + 1 + 1, 0, none⟩ (.int .i64 0)).setCell ⟨w.heap.size + 1 + 1, 1, none⟩ (.int .i64 0)).alloc (.cells #[.int .i64 a, .int .i64 d] 39)).cell? ⟨w.heap.size + 1 + 1, 1, none⟩ = some (.int .i64 0) := (((R2.out.set 0 _).set 1 _).alloc _).cell 1
        have K0 := hide k0
        have K1 := hide k1
        clear k0 k1
        go_wp2
        refine bodyPost_ret (v := .tuple #[.agg #[.int .i64 0, .int .i64 0], .int .i64 12]) (by simp [results, Try.results21, go_sem, K0.out, K1.out]) rfl ⟨by rw [HV.out], ?_⟩
        repeat (first | exact HB.out | refine Below.setCell ?_ (by simp; omega) _ | refine Below.alloc ?_ (by first | omega | (simp; done) | (simp; omega)) _ | exact Below.refl _ _)
    · by_cases h3 : a ≤ b
      · have HV := hide (meetV_ok (a := a) (b := b) (c := c) (d := d) (if_neg h1) (if_neg h2) h3)
        have k0 : (((w2.setCell ⟨w.heap.size + 1 + 1, 0, none⟩ (.int .i64 a)).setCell ⟨w.heap.size + 1 + 1, 1, none⟩ (.int .i64 b)).alloc (.cells #[.int .i64 a, .int .i64 b] 39)).cell? ⟨w.heap.size + 1 + 1, 0, none⟩ = some (.int .i64 a) := (((R2.out.set 0 _).set 1 _).alloc _).cell 0
        have k1 : (((w2.setCell ⟨w.heap.size + 1 + 1, 0, none⟩ (.int .i64 a)).setCell ⟨w.heap.size + 1 + 1, 1, none⟩ (.int .i64 b)).alloc (.cells #[.int .i64 a, .int .i64 b] 39)).cell? ⟨w.heap.size + 1 + 1, 1, none⟩ = some (.int .i64 b) := (((R2.out.set 0 _).set 1 _).alloc _).cell 1
        have K0 := hide k0
        have K1 := hide k1
        clear k0 k1
        go_wp2
        refine bodyPost_ret (v := .tuple #[.agg #[.int .i64 a, .int .i64 b], .int .i64 0]) (by simp [results, Try.results21, go_sem, K0.out, K1.out]) rfl ⟨by rw [HV.out], ?_⟩
        repeat (first | exact HB.out | refine Below.setCell ?_ (by simp; omega) _ | refine Below.alloc ?_ (by first | omega | (simp; done) | (simp; omega)) _ | exact Below.refl _ _)
      · have HV := hide (meetV_no (a := a) (b := b) (c := c) (d := d) (if_neg h1) (if_neg h2) (by omega))
        have k0 : (((w2.setCell ⟨w.heap.size + 1 + 1, 0, none⟩ (.int .i64 0)).setCell ⟨w.heap.size + 1 + 1, 1, none⟩ (.int .i64 0)).alloc (.cells #[.int .i64 a, .int .i64 b] 39)).cell? ⟨w.heap.size + 1 + 1, 0, none⟩ = some (.int .i64 0) := (((R2.out.set 0 _).set 1 _).alloc _).cell 0
        have k1 : (((w2.setCell ⟨w.heap.size + 1 + 1, 0, none⟩ (.int .i64 0)).setCell ⟨w.heap.size + 1 + 1, 1, none⟩ (.int .i64 0)).alloc (.cells #[.int .i64 a, .int .i64 b] 39)).cell? ⟨w.heap.size + 1 + 1, 1, none⟩ = some (.int .i64 0) := (((R2.out.set 0 _).set 1 _).alloc _).cell 1
        have K0 := hide k0
        have K1 := hide k1
        clear k0 k1
        go_wp2
        refine bodyPost_ret (v := .tuple #[.agg #[.int .i64 0, .int .i64 0], .int .i64 12]) (by simp [results, Try.results21, go_sem, K0.out, K1.out]) rfl ⟨by rw [HV.out], ?_⟩
        repeat (first | exact HB.out | refine Below.setCell ?_ (by simp; omega) _ | refine Below.alloc ?_ (by first | omega | (simp; done) | (simp; omega)) _ | exact Below.refl _ _)

set_option maxHeartbeats 2000000 in
set_option maxRecDepth 100000 in
theorem refMeet_any (a b c d : Int) (w : World) :
    Calls Try.prog 26 #[.agg #[.int .i64 a, .int .i64 b], .agg #[.int .i64 c, .int .i64 d]] w fun e w' => e = .returned (.tuple #[.agg #[.int .i64 (ml a b c d), .int .i64 (mh a b c d)], .int .i64 (me a b c d)]) ∧ Below w.heap.size w w' := by
  go_enter Try.func26, Try.ntmps26
  have HB : Hid (Below w.heap.size w w) := Below.refl _ _
  by_cases h1 : a < c
  · by_cases h2 : d < b
    · by_cases h3 : c ≤ d
      · have HV := hide (meetV_ok (a := a) (b := b) (c := c) (d := d) (if_pos h1) (if_pos h2) h3)
        go_wp2
        refine bodyPost_ret (v := .tuple #[.agg #[.int .i64 c, .int .i64 d], .int .i64 0]) (by simp [results, Try.results26, go_sem]) rfl ⟨by rw [HV.out], ?_⟩
        repeat (first | exact HB.out | refine Below.setCell ?_ (by simp; omega) _ | refine Below.alloc ?_ (by first | omega | (simp; done) | (simp; omega)) _ | exact Below.refl _ _)
      · have HV := hide (meetV_no (a := a) (b := b) (c := c) (d := d) (if_pos h1) (if_pos h2) (by omega))
        go_wp2
        refine bodyPost_ret (v := .tuple #[.agg #[.int .i64 0, .int .i64 0], .int .i64 12]) (by simp [results, Try.results26, go_sem]) rfl ⟨by rw [HV.out], ?_⟩
        repeat (first | exact HB.out | refine Below.setCell ?_ (by simp; omega) _ | refine Below.alloc ?_ (by first | omega | (simp; done) | (simp; omega)) _ | exact Below.refl _ _)
    · by_cases h3 : c ≤ b
      · have HV := hide (meetV_ok (a := a) (b := b) (c := c) (d := d) (if_pos h1) (if_neg h2) h3)
        go_wp2
        refine bodyPost_ret (v := .tuple #[.agg #[.int .i64 c, .int .i64 b], .int .i64 0]) (by simp [results, Try.results26, go_sem]) rfl ⟨by rw [HV.out], ?_⟩
        repeat (first | exact HB.out | refine Below.setCell ?_ (by simp; omega) _ | refine Below.alloc ?_ (by first | omega | (simp; done) | (simp; omega)) _ | exact Below.refl _ _)
      · have HV := hide (meetV_no (a := a) (b := b) (c := c) (d := d) (if_pos h1) (if_neg h2) (by omega))
        go_wp2
        refine bodyPost_ret (v := .tuple #[.agg #[.int .i64 0, .int .i64 0], .int .i64 12]) (by simp [results, Try.results26, go_sem]) rfl ⟨by rw [HV.out], ?_⟩
        repeat (first | exact HB.out | refine Below.setCell ?_ (by simp; omega) _ | refine Below.alloc ?_ (by first | omega | (simp; done) | (simp; omega)) _ | exact Below.refl _ _)
  · by_cases h2 : d < b
    · by_cases h3 : a ≤ d
      · have HV := hide (meetV_ok (a := a) (b := b) (c := c) (d := d) (if_neg h1) (if_pos h2) h3)
        go_wp2
        refine bodyPost_ret (v := .tuple #[.agg #[.int .i64 a, .int .i64 d], .int .i64 0]) (by simp [results, Try.results26, go_sem]) rfl ⟨by rw [HV.out], ?_⟩
        repeat (first | exact HB.out | refine Below.setCell ?_ (by simp; omega) _ | refine Below.alloc ?_ (by first | omega | (simp; done) | (simp; omega)) _ | exact Below.refl _ _)
      · have HV := hide (meetV_no (a := a) (b := b) (c := c) (d := d) (if_neg h1) (if_pos h2) (by omega))
        go_wp2
        refine bodyPost_ret (v := .tuple #[.agg #[.int .i64 0, .int .i64 0], .int .i64 12]) (by simp [results, Try.results26, go_sem]) rfl ⟨by rw [HV.out], ?_⟩
        repeat (first | exact HB.out | refine Below.setCell ?_ (by simp; omega) _ | refine Below.alloc ?_ (by first | omega | (simp; done) | (simp; omega)) _ | exact Below.refl _ _)
    · by_cases h3 : a ≤ b
      · have HV := hide (meetV_ok (a := a) (b := b) (c := c) (d := d) (if_neg h1) (if_neg h2) h3)
        go_wp2
        refine bodyPost_ret (v := .tuple #[.agg #[.int .i64 a, .int .i64 b], .int .i64 0]) (by simp [results, Try.results26, go_sem]) rfl ⟨by rw [HV.out], ?_⟩
        repeat (first | exact HB.out | refine Below.setCell ?_ (by simp; omega) _ | refine Below.alloc ?_ (by first | omega | (simp; done) | (simp; omega)) _ | exact Below.refl _ _)
      · have HV := hide (meetV_no (a := a) (b := b) (c := c) (d := d) (if_neg h1) (if_neg h2) (by omega))
        go_wp2
        refine bodyPost_ret (v := .tuple #[.agg #[.int .i64 0, .int .i64 0], .int .i64 12]) (by simp [results, Try.results26, go_sem]) rfl ⟨by rw [HV.out], ?_⟩
        repeat (first | exact HB.out | refine Below.setCell ?_ (by simp; omega) _ | refine Below.alloc ?_ (by first | omega | (simp; done) | (simp; omega)) _ | exact Below.refl _ _)
end Go.Proofs.Ytfmonpjoadjimab
