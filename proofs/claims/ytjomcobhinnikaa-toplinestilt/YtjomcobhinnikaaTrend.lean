/- The contract of number.trendOf: the best line at three dots. -/
import Derived.Test.YtjomcobhinnikaaDots
import Derived.Deep.DeepCutAuto
namespace Go.Proofs.Ytjomcobhinnikaa
open Go.RowKit

/-- The best line at three dots: start, slope, error, proof. -/
def trendV (i j k : Nat) (ax ay bx by' cx cy : Int) : Value :=
  .agg #[.int .i64 (lN (2 * (ay * cx - cy * ax) + bendH ax ay bx by' cx cy) (2 * (cx - ax))), .int .i64 (lD (2 * (ay * cx - cy * ax) + bendH ax ay bx by' cx cy) (2 * (cx - ax))),
    .int .i64 (lN (cy - ay) (cx - ax)), .int .i64 (lD (cy - ay) (cx - ax)),
    .int .i64 (lN ((bendH ax ay bx by' cx cy).natAbs : Int) (2 * (cx - ax))), .int .i64 (lD ((bendH ax ay bx by' cx cy).natAbs : Int) (2 * (cx - ax))),
    .int .i64 i, .int .i64 j, .int .i64 k]

theorem bendH_bound {ax ay bx by' cx cy : Int} (h1 : inD ax) (h2 : inD ay) (h3 : inD bx) (h4 : inD by') (h5 : inD cx) (h6 : inD cy) : -800000000 ≤ bendH ax ay bx by' cx cy ∧ bendH ax ay bx by' cx cy ≤ 800000000 := by
  unfold inD at h1 h2 h3 h4 h5 h6
  have m1 := mul_bound (x := by' - ay) (y := cx - ax) 20000 20000 (by omega) (by omega)
  have m2 := mul_bound (x := cy - ay) (y := bx - ax) 20000 20000 (by omega) (by omega)
  unfold bendH
  omega

theorem Blk.c9 {w : World} {g : Nat} {t : TypeId} {x0 x1 x2 x3 x4 x5 x6 x7 x8 : Value} (h : Blk w g t #[x0, x1, x2, x3, x4, x5, x6, x7, x8]) :
    (w.cell? ⟨g, 0, none⟩ = some x0 ∧ w.cell? ⟨g, 1, none⟩ = some x1 ∧ w.cell? ⟨g, 2, none⟩ = some x2 ∧ w.cell? ⟨g, 3, none⟩ = some x3 ∧ w.cell? ⟨g, 4, none⟩ = some x4 ∧ w.cell? ⟨g, 5, none⟩ = some x5 ∧ w.cell? ⟨g, 6, none⟩ = some x6 ∧ w.cell? ⟨g, 7, none⟩ = some x7 ∧ w.cell? ⟨g, 8, none⟩ = some x8) ∧
    (w.frozen? ⟨g, 0, none⟩ = false ∧ w.frozen? ⟨g, 1, none⟩ = false ∧ w.frozen? ⟨g, 2, none⟩ = false ∧ w.frozen? ⟨g, 3, none⟩ = false ∧ w.frozen? ⟨g, 4, none⟩ = false ∧ w.frozen? ⟨g, 5, none⟩ = false ∧ w.frozen? ⟨g, 6, none⟩ = false ∧ w.frozen? ⟨g, 7, none⟩ = false ∧ w.frozen? ⟨g, 8, none⟩ = false) :=
  ⟨⟨h.cell 0, h.cell 1, h.cell 2, h.cell 3, h.cell 4, h.cell 5, h.cell 6, h.cell 7, h.cell 8⟩, h.frozen 0, h.frozen 1, h.frozen 2, h.frozen 3, h.frozen 4, h.frozen 5, h.frozen 6, h.frozen 7, h.frozen 8⟩

theorem far2 {w : World} {p q r : Addr} {v u1 u2 : Value} (h : w.cell? q = some v) (h1 : ¬ q.block = p.block) (h2 : ¬ q.block = r.block) : ((w.setCell p u1).setCell r u2).cell? q = some v := by
  rw [World.cell?_setCell_other _ _ _ _ (fun e => h2 (by rw [e])), World.cell?_setCell_other _ _ _ _ (fun e => h1 (by rw [e]))]
  exact h

set_option maxHeartbeats 2000000 in
set_option maxRecDepth 100000 in
theorem trendOf_any (b off n cap : Nat) (i j k : Nat) (ax ay bx by' cx cy : Int) (w : World) (hi : i < n) (hj : j < n) (hk : k < n) (hb : b < w.heap.size)
    (qi0 : w.cell? ⟨b, off + i * 2, none⟩ = some (.int .i64 ax)) (qi1 : w.cell? ⟨b, off + i * 2 + 1, none⟩ = some (.int .i64 ay))
    (qj0 : w.cell? ⟨b, off + j * 2, none⟩ = some (.int .i64 bx)) (qj1 : w.cell? ⟨b, off + j * 2 + 1, none⟩ = some (.int .i64 by'))
    (qk0 : w.cell? ⟨b, off + k * 2, none⟩ = some (.int .i64 cx)) (qk1 : w.cell? ⟨b, off + k * 2 + 1, none⟩ = some (.int .i64 cy))
    (h1 : inD ax) (h2 : inD ay) (h3 : inD bx) (h4 : inD by') (h5 : inD cx) (h6 : inD cy) (hx : ax < cx) :
    Calls Try.prog 24 #[.slice (some ⟨b, off, none⟩) n cap, .agg #[.int .i64 i, .int .i64 j, .int .i64 k]] w fun e w' => e = .returned (trendV i j k ax ay bx by' cx cy) ∧ Below w.heap.size w w' := by
  have i0 : (0 : Int) ≤ (i : Int) := by omega
  have i1 : (i : Int) < (n : Int) := by omega
  have j0 : (0 : Int) ≤ (j : Int) := by omega
  have j1 : (j : Int) < (n : Int) := by omega
  have k0 : (0 : Int) ≤ (k : Int) := by omega
  have k1 : (k : Int) < (n : Int) := by omega
  have hb1 : b < w.heap.size + 1 := by omega
  have hb2 : b < w.heap.size + 1 + 1 := by omega
  have hb3 : b < w.heap.size + 1 + 1 + 1 := by omega
  have HH := hide (bendH_bound h1 h2 h3 h4 h5 h6)
  go_enter Try.func24, Try.ntmps24
  go_upto_region 1 with fail
  go_cut [5, 6] (fun s5 s6 wx => ∃ g5 g6 : Nat, s5 = .pointer (some ⟨g5, 0, none⟩) ∧ s6 = .pointer (some ⟨g6, 0, none⟩) ∧ Hid (Blk wx g5 27 #[.int .i64 ax, .int .i64 ay]) ∧ Hid (Blk wx g6 27 #[.int .i64 cx, .int .i64 cy]) ∧
      Hid (Blk wx w.heap.size 30 #[.int .i64 i, .int .i64 j, .int .i64 k]) ∧ Hid (Blk wx (w.heap.size + 1) 32 #[.int .i64 0, .int .i64 0, .int .i64 0, .int .i64 0, .int .i64 0, .int .i64 0, .int .i64 0, .int .i64 0, .int .i64 0]) ∧ Hid (Below w.heap.size w wx))
  case first =>
    go_region_held3 (fun w' => w'.cell? ⟨w.heap.size, 0, none⟩ = some (.int .i64 i) ∧ w'.cell? ⟨w.heap.size, 1, none⟩ = some (.int .i64 j) ∧ w'.cell? ⟨w.heap.size, 2, none⟩ = some (.int .i64 k) ∧
      w'.cell? ⟨b, off + i * 2, none⟩ = some (.int .i64 ax) ∧ w'.cell? ⟨b, off + i * 2 + 1, none⟩ = some (.int .i64 ay) ∧ w'.cell? ⟨b, off + k * 2, none⟩ = some (.int .i64 cx) ∧ w'.cell? ⟨b, off + k * 2 + 1, none⟩ = some (.int .i64 cy))
      (first | (simp [go_sem, World.cell?_alloc_past, hb, hb1, hb2, hb3, qi0, qi1, qk0, qk1]; done) | go_keep) (fail)
    all_goals
      go_wp2_with fail
      go_meet
      refine ⟨_, _, rfl, rfl, ?_, ?_, ?_, ?_, ?_⟩
      · refine hide ?_
        repeat (first | exact Blk.new _ _ _ _ (by simp) | refine Blk.alloc ?_ _ | refine Blk.drew ?_)
      · refine hide ?_
        repeat (first | exact Blk.new _ _ _ _ (by simp) | refine Blk.alloc ?_ _ | refine Blk.drew ?_)
      · refine hide ?_
        repeat (first | exact Blk.new _ _ _ _ (by simp) | refine Blk.alloc ?_ _ | refine Blk.drew ?_)
      · refine hide ?_
        repeat (first | exact Blk.new _ _ _ _ (by simp) | refine Blk.alloc ?_ _ | refine Blk.drew ?_)
      · exact hide (below_four _ _ _ _ _).drew
  case rest =>
    obtain ⟨v1, hv1⟩ : ∃ v : World, v = wc := ⟨_, rfl⟩
    subst hv1
    obtain ⟨g5, g6, rfl, rfl, H5, H6, HP, HR, HB⟩ := hcut
    obtain ⟨⟨a0, a1⟩, _⟩ := H5.out.c2
    obtain ⟨⟨c0, c1⟩, _⟩ := H6.out.c2
    obtain ⟨⟨e0, e1, e2⟩, _⟩ := HP.out.c3
    have hs := HB.out.size
    have hbc : b < v1.heap.size := by omega
    have l5 := H5.out.lt
    have l6 := H6.out.lt
    have lp := HP.out.lt
    have n5 : ¬ g5 = v1.heap.size := by omega
    have n6 : ¬ g6 = v1.heap.size := by omega
    have np : ¬ w.heap.size = v1.heap.size := by omega
    have nb : ¬ b = v1.heap.size := by omega
    have z0 := (HB.out.cell (p := ⟨b, off + j * 2, none⟩) (by exact hb)).trans qj0
    have z1 := (HB.out.cell (p := ⟨b, off + j * 2 + 1, none⟩) (by exact hb)).trans qj1
    clear qi0 qi1 qk0 qk1 qj0 qj1
    go_upto_region 2 with fail
    go_cut [7] (fun s7 wx => ∃ g7 : Nat, s7 = .pointer (some ⟨g7, 0, none⟩) ∧ Hid (Blk wx g7 62 #[.int .i64 (bendH ax ay bx by' cx cy), .int .i64 (cx - ax)]) ∧ Hid (Below v1.heap.size v1 wx))
    case first =>
      go_region_held3 (fun w' => w'.cell? ⟨g5, 0, none⟩ = some (.int .i64 ax) ∧ w'.cell? ⟨g5, 1, none⟩ = some (.int .i64 ay) ∧ w'.cell? ⟨g6, 0, none⟩ = some (.int .i64 cx) ∧ w'.cell? ⟨g6, 1, none⟩ = some (.int .i64 cy) ∧
        w'.cell? ⟨w.heap.size, 1, none⟩ = some (.int .i64 j) ∧ w'.cell? ⟨b, off + j * 2, none⟩ = some (.int .i64 bx) ∧ w'.cell? ⟨b, off + j * 2 + 1, none⟩ = some (.int .i64 by'))
        (first | exact ⟨r0, r1, r2, r3, r5, Z0, Z1⟩ | exact ⟨far2 r0 n5 n5, far2 r1 n5 n5, far2 r2 n6 n6, far2 r3 n6 n6, far2 r5 np np, far2 Z0 nb nb, far2 Z1 nb nb⟩ | go_keep) ((go_at_call 22; refine (bendOf_any ax ay bx by' cx cy _ h1 h2 h3 h4 h5 h6).mono ?_; rintro e w3 ⟨rfl, hb3⟩; have B5 : Blk w3 g5 27 #[.int .i64 ax, .int .i64 ay] := (by first | exact H5.out.drew.kept hb3 | exact (H5.out.alloc _).drew.kept hb3); have B6 : Blk w3 g6 27 #[.int .i64 cx, .int .i64 cy] := (by first | exact H6.out.drew.kept hb3 | exact (H6.out.alloc _).drew.kept hb3); have BP : Blk w3 w.heap.size 30 #[.int .i64 i, .int .i64 j, .int .i64 k] := (by first | exact HP.out.drew.kept hb3 | exact (HP.out.alloc _).drew.kept hb3); have Z0 : w3.cell? ⟨b, off + j * 2, none⟩ = some (.int .i64 bx) := (hb3.cell (p := ⟨b, off + j * 2, none⟩) (by first | exact hbc | (simp; omega))).trans (by first | exact z0 | (rw [World.cell?_drew, World.cell?_alloc_past _ _ _ hbc]; exact z0) | (simp [go_sem, World.cell?_alloc_past, hbc]; exact z0)); have Z1 : w3.cell? ⟨b, off + j * 2 + 1, none⟩ = some (.int .i64 by') := (hb3.cell (p := ⟨b, off + j * 2 + 1, none⟩) (by first | exact hbc | (simp; omega))).trans (by first | exact z1 | (simp [go_sem, World.cell?_alloc_past, hbc]; exact z1)); (try (have B7 := (Blk.new v1 v1.heap.size 62 #[.int .i64 0, .int .i64 0] rfl).drew.kept hb3; have L7 := B7.lt; obtain ⟨⟨r7, r8⟩, f7, f8⟩ := B7.c2; have HN7 := hide B7; clear B7)); have HB3 : Hid (Below v1.heap.size v1 w3) := (by first | exact (Below.refl _ v1).drew.trans hb3 | exact ((Below.refl _ v1).alloc (Nat.le_refl _) _).drew.trans (hb3.mono (by simp))); clear hb3; obtain ⟨⟨r0, r1⟩, _⟩ := B5.c2; obtain ⟨⟨r2, r3⟩, _⟩ := B6.c2; obtain ⟨⟨r4, r5, r6⟩, _⟩ := BP.c3; have L5 := B5.lt; have L6 := B6.lt; have LP := BP.lt; have LB : b < w3.heap.size := (by have := HB3.out.size; omega); clear B5 B6 BP))
      all_goals
        go_wp2_with fail
        go_meet
        refine ⟨_, rfl, hide ?_, hide ?_⟩
        · first | exact Blk.new _ _ _ _ rfl | exact (HN7.out.set 0 _).set 1 _
        · first | exact HB3.out.alloc HB3.out.size _ | exact (HB3.out.setCell (by simp) _).setCell (by simp) _
    case rest =>
      obtain ⟨v2, hv2⟩ : ∃ v : World, v = wc := ⟨_, rfl⟩
      subst hv2
      obtain ⟨g7, rfl, H7, HB7⟩ := hcut
      have B5 := H5.out.kept HB7.out
      have B6 := H6.out.kept HB7.out
      have BP := HP.out.kept HB7.out
      have HR2 := hide (HR.out.kept HB7.out)
      have HL2 := hide (HB.out.trans (HB7.out.mono hs))
      obtain ⟨⟨a0', a1'⟩, _⟩ := B5.c2
      obtain ⟨⟨c0', c1'⟩, _⟩ := B6.c2
      obtain ⟨⟨e0', e1', e2'⟩, _⟩ := BP.c3
      obtain ⟨⟨s0, s1⟩, _⟩ := H7.out.c2
      have HH5 := hide B5
      have HH6 := hide B6
      have HH7 := H7
      have HHP := hide BP
      obtain ⟨h, hhe⟩ : ∃ h, h = bendH ax ay bx by' cx cy := ⟨_, rfl⟩
      have HHE := hide hhe
      have hhb : -800000000 ≤ h ∧ h ≤ 800000000 := by rw [hhe]; exact HH.out
      rw [← hhe] at s0
      clear a0 a1 c0 c1 e0 e1 e2 z0 z1 B5 B6 BP n5 n6 np nb H5 H6 HP HR HB HH hhe hb1 hb2 hb3 h3 h4
      unfold inD at h1 h2 h5 h6
      have l5' := HH5.out.lt
      have l6' := HH6.out.lt
      have l7' := HH7.out.lt
      have lp' := HHP.out.lt
      have lr' := HR2.out.lt
      have m1 := mul_bound (x := ay) (y := cx) 10000 10000 (by omega) (by omega)
      have m2 := mul_bound (x := cy) (y := ax) 10000 10000 (by omega) (by omega)
      have m1' : -100000000 ≤ ay * cx ∧ ay * cx ≤ 100000000 := by omega
      have m2' : -100000000 ≤ cy * ax ∧ cy * ax ≤ 100000000 := by omega
      clear m1 m2
      go_wp2_with fail
      refine (lowest_any _ _ _ (by omega) (by omega)).mono ?_
      rintro e w3 ⟨rfl, hb3⟩
      have C5 := hide ((HH5.out.alloc _).kept hb3)
      have C6 := hide ((HH6.out.alloc _).kept hb3)
      have C7 := hide ((HH7.out.alloc _).kept hb3)
      have C8 := hide ((Blk.new v2 v2.heap.size 32 _ rfl).kept hb3)
      have CR := hide ((HR2.out.alloc _).kept hb3)
      have CL : Hid (Below w.heap.size w w3) := (HL2.out.alloc HL2.out.size _).trans (hb3.mono (by have := HL2.out.size; simp; omega))
      clear hb3
      obtain ⟨sn, hsn⟩ : ∃ x, x = lN (2 * (ay * cx - cy * ax) + h) (2 * (cx - ax)) := ⟨_, rfl⟩
      obtain ⟨sd, hsd⟩ : ∃ x, x = lD (2 * (ay * cx - cy * ax) + h) (2 * (cx - ax)) := ⟨_, rfl⟩
      rw [← hsn, ← hsd]
      have ESN := hide hsn
      have ESD := hide hsd
      obtain ⟨g8, hg8⟩ : ∃ g, g = v2.heap.size := ⟨_, rfl⟩
      rw [← hg8] at C8 l5' l6' l7' lp' lr' ⊢
      have n58 : ¬ g5 = g8 := by omega
      have n68 : ¬ g6 = g8 := by omega
      have n78 : ¬ g7 = g8 := by omega
      have np8 : ¬ w.heap.size = g8 := by omega
      have nr8 : ¬ w.heap.size + 1 = g8 := by omega
      have hw8 : w.heap.size ≤ g8 := by omega
      clear hsn hsd hg8 a0' a1' c0' c1' e0' e1' e2' s0 s1 HH5 HH6 H7 HHP HR2 HL2 HB7 hbc l5 l6 lp m1' m2'
      have HH7' := HH7
      clear HH7
      obtain ⟨⟨a0, a1⟩, _⟩ := C5.out.c2
      obtain ⟨⟨c0, c1⟩, _⟩ := C6.out.c2
      obtain ⟨⟨b0, b1⟩, _⟩ := C7.out.c2
      obtain ⟨⟨t0, t1, t2, t3, t4, t5, t6, t7, t8⟩, f0, f1, f2, f3, f4, f5, f6, f7, f8⟩ := C8.out.c9
      go_wp2_with fail
      refine (lowest_any _ _ _ (by omega) (by omega)).mono ?_
      rintro e w4 ⟨rfl, hb4⟩
      have D7 := hide (((C7.out.far (p := ⟨g8, 0, none⟩) n78 _).far (p := ⟨g8, 1, none⟩) n78 _).kept hb4)
      have D8 : Hid (Blk w4 g8 32 #[.int .i64 sn, .int .i64 sd, .int .i64 0, .int .i64 0, .int .i64 0, .int .i64 0, .int .i64 i, .int .i64 j, .int .i64 k]) := ((C8.out.set 0 _).set 1 _).kept hb4
      have DR := hide (((CR.out.far (p := ⟨g8, 0, none⟩) nr8 _).far (p := ⟨g8, 1, none⟩) nr8 _).kept hb4)
      have DL : Hid (Below w.heap.size w w4) := ((CL.out.setCell (p := ⟨g8, 0, none⟩) hw8 _).setCell (p := ⟨g8, 1, none⟩) hw8 _).trans (hb4.mono (by simp only [size_set]; exact CL.out.size))
      clear hb4 a0 a1 c0 c1 b0 b1 t0 t1 t2 t3 t4 t5 t6 t7 t8 f0 f1 f2 f3 f4 f5 f6 f7 f8 C5 C6 C7 C8 CR CL
      obtain ⟨pn, hpn⟩ : ∃ x, x = lN (cy - ay) (cx - ax) := ⟨_, rfl⟩
      obtain ⟨pdn, hpd⟩ : ∃ x, x = lD (cy - ay) (cx - ax) := ⟨_, rfl⟩
      rw [← hpn, ← hpd]
      have EPN := hide hpn
      have EPD := hide hpd
      clear hpn hpd
      obtain ⟨⟨b0, b1⟩, _⟩ := D7.out.c2
      obtain ⟨⟨t0, t1, t2, t3, t4, t5, t6, t7, t8⟩, f0, f1, f2, f3, f4, f5, f6, f7, f8⟩ := D8.out.c9
      rw [← HHE.out] at b0
      by_cases hneg : h < 0
      · have HA : Hid (-h = (h.natAbs : Int)) := by show -h = _; omega
        go_wp2_with fail
        refine (lowest_any _ _ _ (by omega) (by omega)).mono ?_
        rintro e w5 ⟨rfl, hb5⟩
        have HV : Hid (∀ x y, lN (-h) (2 * (cx - ax)) = x → lD (-h) (2 * (cx - ax)) = y → lN ((bendH ax ay bx by' cx cy).natAbs : Int) (2 * (cx - ax)) = x ∧ lD ((bendH ax ay bx by' cx cy).natAbs : Int) (2 * (cx - ax)) = y) := fun x y e1 e2 => by
          rw [HA.out] at e1 e2; rw [← HHE.out]; exact ⟨e1, e2⟩
        obtain ⟨en, hen⟩ : ∃ x, lN (-h) (2 * (cx - ax)) = x := ⟨_, rfl⟩
        obtain ⟨ed, hed⟩ : ∃ x, lD (-h) (2 * (cx - ax)) = x := ⟨_, rfl⟩
        rw [hen, hed]
        have HVE := hide (HV.out en ed hen hed)
        clear hen hed HV HA hneg
        have E8 : Hid (Blk w5 g8 32 #[.int .i64 sn, .int .i64 sd, .int .i64 pn, .int .i64 pdn, .int .i64 0, .int .i64 0, .int .i64 i, .int .i64 j, .int .i64 k]) := ((D8.out.set 2 _).set 3 _).kept hb5
        have ER := hide (((DR.out.far (p := ⟨g8, 2, none⟩) nr8 _).far (p := ⟨g8, 3, none⟩) nr8 _).kept hb5)
        have EL : Hid (Below w.heap.size w w5) := ((DL.out.setCell (p := ⟨g8, 2, none⟩) hw8 _).setCell (p := ⟨g8, 3, none⟩) hw8 _).trans (hb5.mono (by simp only [size_set]; exact DL.out.size))
        clear hb5 b0 b1 t0 t1 t2 t3 t4 t5 t6 t7 t8 f0 f1 f2 f3 f4 f5 f6 f7 f8 D7 D8 DR DL
        obtain ⟨⟨t0, t1, t2, t3, t4, t5, t6, t7, t8⟩, f0, f1, f2, f3, f4, f5, f6, f7, f8⟩ := E8.out.c9
        obtain ⟨⟨u0, u1, u2, u3, u4, u5, u6, u7, u8⟩, v0, v1', v2', v3, v4, v5, v6, v7, v8⟩ := ER.out.c9
        go_wp2
        refine bodyPost_ret (v := .agg #[.int .i64 sn, .int .i64 sd, .int .i64 pn, .int .i64 pdn, .int .i64 en, .int .i64 ed, .int .i64 i, .int .i64 j, .int .i64 k]) (by simp [results, Try.results24, go_sem, u0, u1, u2, u3, u4, u5, u6, u7, u8]) rfl ⟨?_, ?_⟩
        · have e1 := HVE.out.1
          have e2 := HVE.out.2
          unfold trendV
          rw [e1, e2, ← HHE.out, ← ESN.out, ← ESD.out, ← EPN.out, ← EPD.out]
        · have hE1 : Below w.heap.size w ((w5.setCell ⟨g8, 4, none⟩ (.int .i64 en)).setCell ⟨g8, 5, none⟩ (.int .i64 ed)) := (EL.out.setCell (p := ⟨g8, 4, none⟩) hw8 _).setCell (p := ⟨g8, 5, none⟩) hw8 _
          iterate 9 refine Below.setCell ?_ (by simp) _
          exact hE1
      · have HA : Hid (h = (h.natAbs : Int)) := by show h = _; omega
        go_wp2_with fail
        refine (lowest_any _ _ _ (by omega) (by omega)).mono ?_
        rintro e w5 ⟨rfl, hb5⟩
        have HV : Hid (∀ x y, lN h (2 * (cx - ax)) = x → lD h (2 * (cx - ax)) = y → lN ((bendH ax ay bx by' cx cy).natAbs : Int) (2 * (cx - ax)) = x ∧ lD ((bendH ax ay bx by' cx cy).natAbs : Int) (2 * (cx - ax)) = y) := fun x y e1 e2 => by
          rw [← HHE.out, ← HA.out]; exact ⟨e1, e2⟩
        obtain ⟨en, hen⟩ : ∃ x, lN h (2 * (cx - ax)) = x := ⟨_, rfl⟩
        obtain ⟨ed, hed⟩ : ∃ x, lD h (2 * (cx - ax)) = x := ⟨_, rfl⟩
        rw [hen, hed]
        have HVE := hide (HV.out en ed hen hed)
        clear hen hed HV HA hneg
        have E8 : Hid (Blk w5 g8 32 #[.int .i64 sn, .int .i64 sd, .int .i64 pn, .int .i64 pdn, .int .i64 0, .int .i64 0, .int .i64 i, .int .i64 j, .int .i64 k]) := ((D8.out.set 2 _).set 3 _).kept hb5
        have ER := hide (((DR.out.far (p := ⟨g8, 2, none⟩) nr8 _).far (p := ⟨g8, 3, none⟩) nr8 _).kept hb5)
        have EL : Hid (Below w.heap.size w w5) := ((DL.out.setCell (p := ⟨g8, 2, none⟩) hw8 _).setCell (p := ⟨g8, 3, none⟩) hw8 _).trans (hb5.mono (by simp only [size_set]; exact DL.out.size))
        clear hb5 b0 b1 t0 t1 t2 t3 t4 t5 t6 t7 t8 f0 f1 f2 f3 f4 f5 f6 f7 f8 D7 D8 DR DL
        obtain ⟨⟨t0, t1, t2, t3, t4, t5, t6, t7, t8⟩, f0, f1, f2, f3, f4, f5, f6, f7, f8⟩ := E8.out.c9
        obtain ⟨⟨u0, u1, u2, u3, u4, u5, u6, u7, u8⟩, v0, v1', v2', v3, v4, v5, v6, v7, v8⟩ := ER.out.c9
        go_wp2
        refine bodyPost_ret (v := .agg #[.int .i64 sn, .int .i64 sd, .int .i64 pn, .int .i64 pdn, .int .i64 en, .int .i64 ed, .int .i64 i, .int .i64 j, .int .i64 k]) (by simp [results, Try.results24, go_sem, u0, u1, u2, u3, u4, u5, u6, u7, u8]) rfl ⟨?_, ?_⟩
        · have e1 := HVE.out.1
          have e2 := HVE.out.2
          unfold trendV
          rw [e1, e2, ← HHE.out, ← ESN.out, ← ESD.out, ← EPN.out, ← EPD.out]
        · have hE1 : Below w.heap.size w ((w5.setCell ⟨g8, 4, none⟩ (.int .i64 en)).setCell ⟨g8, 5, none⟩ (.int .i64 ed)) := (EL.out.setCell (p := ⟨g8, 4, none⟩) hw8 _).setCell (p := ⟨g8, 5, none⟩) hw8 _
          iterate 9 refine Below.setCell ?_ (by simp) _
          exact hE1
end Go.Proofs.Ytjomcobhinnikaa
