/- PROVED HERE: Rows.TopLinesTiltSaid: agraffetop.TopLinesTilt returns true for every input, and its arguments read behind the call as before. -/
import Derived.Test.YtjomcobhinnikaaOpen
import Derived.Test.YtjomcobhinnikaaCounts
import Derived.Test.YtjomcobhinnikaaRefDots
import Derived.Test.YtjomcobhinnikaaTiltM
import Derived.Test.YtjomcobhinnikaaLineV
import Derived.Deep.AppendLies
namespace Go.Proofs.Ytjomcobhinnikaa
open Go.ChangeShapes Go.WideShapes Go.ChangeAt Go.RowKit Go.Joins
set_option linter.unusedVariables false
set_option linter.unusedSimpArgs false

theorem apart {a b : Option Nat} (h : ∀ g, a = some g → b ≠ some g) : b = none ∨ b ≠ a := by
  cases b with
  | none => exact Or.inl rfl
  | some j => exact Or.inr fun e => h j e.symm rfl
theorem apart_own {a b : Option Nat} {gg H H' : Nat} (h : ∀ g, a = some g → b ≠ some g) (hat : a = some gg ∨ gg = H) (hlt : ∀ j, b = some j → H' ≤ j ∧ j < H) : b ≠ some gg := by
  rcases hat with h1 | h1
  · exact h gg h1
  · intro e
    have := (hlt gg e).2
    omega
theorem apart_back {x y : Value} {gg : Nat} (h : x.ownBlock ≠ some gg) (hy : y.ownBlock = some gg) : ∀ g, x.ownBlock = some g → y.ownBlock ≠ some g := fun g hg he => h (hg.trans (he.symm.trans hy))
theorem row_own {w : World} {base n size : Nat} {e : TypeId} {v : Value} {xs : List Value} (h : w.ownsRow base e size v n xs) (hn : 0 < n) : ∃ g cap, v = .slice (some ⟨g, 0, none⟩) n cap := by
  rcases h.2 with ⟨_, h⟩ | ⟨g, cap, cur, h, _⟩
  · omega
  · exact ⟨g, cap, h⟩
theorem Dots.higher' {w : World} {B B' : Nat} {A : Option Addr} {ds : List (Int × Int)} (h : Dots w B A ds) (hB : B ≤ B') : Dots w B' A ds := fun h0 => by
  obtain ⟨b, off, e, hb, hc⟩ := h h0
  exact ⟨b, off, e, Nat.lt_of_lt_of_le hb hB, hc⟩
theorem own_cells {w : World} {base g cap n : Nat} {ds : List (Int × Int)} {f : Nat → Int} (h : w.ownsRow base 27 2 (.slice (some ⟨g, 0, none⟩) n cap) n (cellsD ds f n)) :
    ∀ i, i < n → w.cell? ⟨g, 0 + i * 2, none⟩ = some (.int .i64 (dX (rowD ds f n) i)) ∧ w.cell? ⟨g, 0 + i * 2 + 1, none⟩ = some (.int .i64 (dY (rowD ds f n) i)) := fun i hi => by
  obtain ⟨h1, h2⟩ := cellsD_get (ds := ds) (f := f) n hi
  rw [rowD_X hi, rowD_Y hi, Nat.zero_add, h.cellAt (i * 2) (by omega), h.cellAt (i * 2 + 1) (by omega)]
  exact ⟨h1, h2⟩
theorem info_dot : (Try.prog.info? 27).map (fun i => (i.zero, i.size, i.bytes)) = some (some (.agg #[.int .i64 0, .int .i64 0]), 2, 16) := by kernel_rfl
theorem okF_whole {z : Int} (h : -1000 ≤ z ∧ z ≤ 1000) : okF z 1 := ⟨⟨by omega, by simp⟩, by omega, by omega⟩
theorem fracsErr_ok {a b c d : Int} (h1 : okF a b) (h2 : okF c d) : fracsErr a b c d = 0 := by
  unfold fracsErr fracErr
  rw [if_pos h1.1, if_pos h1, if_pos rfl, if_pos h2.1, if_pos h2]
set_option maxHeartbeats 8000000 in
set_option maxRecDepth 100000 in
theorem topLinesTilt_walk (A : Option Addr) (n cap : Nat) (ds : List (Int × Int)) (s m : Int) (w : World) (hs : in64 s) (hm : in64 m) (hn : ds.length = n) (hD : Dots w w.heap.size A ds) :
    Calls Try.prog 3 #[.slice A n cap, .int .i64 s, .int .i64 m] w fun x w' => x = .returned (.bool true) ∧ Below w.heap.size w w' := by
  have HN := hide hn
  have HD := hide hD
  clear hn hD
  by_cases hg1 : (12 : Int) < (n : Int)
  · have L0 := hide (Lv.start w)
    go_enter Try.func3, Try.ntmps3
    go_wp2_with fail
    refine Lv.call (counts_any _) L0.out ?_
    intro w1 L1'
    have L1 := hide L1'
    have F1 := L1'.at
    clear L1'
    simp only [AllAt, CellsAt, updL, List.map, Nat.zero_add, Nat.reduceAdd, and_true, World.size_alloc, World.heap_drewN, heap_drew, size_set, Nat.add_eq_left, Nat.left_eq_add, Nat.add_right_cancel_iff, ne_up2, ne_dn2, ne_up3, ne_dn3, ne_up4, ne_dn4, Nat.reduceEqDiff, Nat.one_ne_zero, Nat.succ_ne_zero, Nat.zero_ne_one, reduceIte, List.set_cons_zero, List.set_cons_succ] at F1
    go_wp2
    go_ret
    refine ⟨rfl, ?_⟩
    repeat (first | (with_reducible exact L1.out.below) | refine Below.setCell ?_ (by first | omega | (simp; done) | (simp; omega)) _ | refine Below.alloc ?_ (by first | omega | (simp; done) | (simp; omega)) _ | refine below_drewN ?_ _ | refine Below.drew ?_)
  · obtain ⟨E, hE⟩ : ∃ E, dotsErr ds = E := ⟨_, rfl⟩
    have HE := hide hE
    clear hE
    by_cases hE0 : E = 0
    · subst hE0
      by_cases hs2 : -1000 ≤ s ∧ s ≤ 1000
      · by_cases hm2 : -3 ≤ m ∧ m ≤ 3
        · have HOK := hide (dots_ok HE.out)
          obtain ⟨b, off, rfl, hb, hc⟩ := HD.out (by have := HOK.out.three; omega)
          have HC : Hid (∀ i, i < n → w.cell? ⟨b, off + i * 2, none⟩ = some (.int .i64 (dX ds i)) ∧ w.cell? ⟨b, off + i * 2 + 1, none⟩ = some (.int .i64 (dY ds i))) := hide (fun i hi => hc i (by rw [HN.out]; exact hi))
          clear hc
          have I1 := hide (inR_yes (n := s) (lo := -1000) (hi := 1000) (by omega))
          have I2 := hide (inR_yes (n := m) (lo := -3) (hi := 3) (by omega))
          have L0 := hide (Lv.start w)
          go_enter Try.func3, Try.ntmps3
          go_wp2_with fail
          refine Lv.call (counts_any _) L0.out ?_
          intro w1 L1'
          have L1 := hide L1'
          have F1 := L1'.at
          clear L1'
          simp only [AllAt, CellsAt, updL, List.map, Nat.zero_add, Nat.reduceAdd, and_true, World.size_alloc, World.heap_drewN, heap_drew, size_set, Nat.add_eq_left, Nat.left_eq_add, Nat.add_right_cancel_iff, ne_up2, ne_dn2, ne_up3, ne_dn3, ne_up4, ne_dn4, Nat.reduceEqDiff, Nat.one_ne_zero, Nat.succ_ne_zero, Nat.zero_ne_one, reduceIte, List.set_cons_zero, List.set_cons_succ] at F1
          have D1 : Hid (Dots w1 w1.heap.size (some ⟨b, off, none⟩) ds) := hide ((HD.out.kept L1.out.below).higher' L1.out.size)
          go_wp2_with fail
          refine Lv.call (refDots_any (some ⟨b, off, none⟩) n cap ds _ HN.out D1.out) L1.out ?_
          intro w2 L2'
          have L2 := hide L2'
          have F2 := L2'.at
          clear L2' F1 D1
          simp only [AllAt, CellsAt, updL, List.map, Nat.zero_add, Nat.reduceAdd, and_true, World.size_alloc, World.heap_drewN, heap_drew, size_set, Nat.add_eq_left, Nat.left_eq_add, Nat.add_right_cancel_iff, ne_up2, ne_dn2, ne_up3, ne_dn3, ne_up4, ne_dn4, Nat.reduceEqDiff, Nat.one_ne_zero, Nat.succ_ne_zero, Nat.zero_ne_one, reduceIte, List.set_cons_zero, List.set_cons_succ] at F2
          rw [HE.out]
          go_wp2_with fail
          refine Lv.same (within3_any s (-1000) 1000 _) ?_
          rw [I1.out]
          go_wp2_with fail
          refine Lv.same (within3_any m (-3) 3 _) ?_
          rw [I2.out]
          clear I1 I2
          have HB0 := hide L2.out.below
          clear L2 L1 L0 F2
          go_wp2
          go_loopw [7, 8, 9] (fun s7 s8 i wr => ∃ k : Nat, k ≤ n ∧ i = .int .i64 k ∧ Hid (wr.ownsRow w.heap.size 27 2 s7 k (cellsD ds (upD ds s m) k)) ∧ Hid (wr.ownsRow w.heap.size 27 2 s8 k (cellsD ds (dnD ds) k)) ∧
            Hid (∀ g, s7.ownBlock = some g → s8.ownBlock ≠ some g) ∧ Hid (∀ j, j < k → (-1000 ≤ dX ds j ∧ dX ds j ≤ 1000) ∧ (-1000 ≤ dY ds j ∧ dY ds j ≤ 1000)) ∧ Hid (Below w.heap.size w wr)) (fun _ _ i _ => n - (intOf i).toNat)
          case atStart => exact ⟨0, by omega, rfl, World.ownsRow_nil _ _ _ _, World.ownsRow_nil _ _ _ _, hide (fun g hg => by simp [Value.ownBlock] at hg), hide (fun j hj => by omega), HB0⟩
          case round =>
            obtain ⟨k, hk, rfl, HO7, HO8, HNE, HIN, HB⟩ := hrel
            clear HB0
            by_cases hlt : k < n
            · have z1 := (HB.out.cell (by exact hb)).trans (HC.out k hlt).1
              have z2 := (HB.out.cell (by exact hb)).trans (HC.out k hlt).2
              have HSN7 : Hid (cellsD ds (upD ds s m) (k + 1) = cellsD ds (upD ds s m) k ++ [.int .i64 (dX ds k), .int .i64 (dY ds k + s + m * dX ds k)]) := rfl
              have HSN8 : Hid (cellsD ds (dnD ds) (k + 1) = cellsD ds (dnD ds) k ++ [.int .i64 (dX ds k), .int .i64 (-dY ds k)]) := rfl
              obtain ⟨x, hx⟩ : ∃ x, x = dX ds k := ⟨_, rfl⟩
              obtain ⟨y, hy⟩ : ∃ x, x = dY ds k := ⟨_, rfl⟩
              have qx : wr.cell? ⟨b, off + k * 2, none⟩ = some (.int .i64 x) := by rw [hx]; exact z1
              have qy : wr.cell? ⟨b, off + k * 2 + 1, none⟩ = some (.int .i64 y) := by rw [hy]; exact z2
              rw [← hx, ← hy] at HSN7 HSN8
              have HX := hide hx
              have HY := hide hy
              have hsz := HB.out.size
              have hbr : b < wr.heap.size := by omega
              have hlt' : (k : Int) < (n : Int) := by omega
              clear hx hy z1 z2
              by_cases hx2 : -1000 ≤ x ∧ x ≤ 1000
              · by_cases hy2 : -1000 ≤ y ∧ y ≤ 1000
                · have J1 := hide (inR_yes (n := x) (lo := -1000) (hi := 1000) (by omega))
                  have J2 := hide (inR_yes (n := y) (lo := -1000) (hi := 1000) (by omega))
                  have hmx : -3000 ≤ m * x ∧ m * x ≤ 3000 := by
                    have k1 := mul_bound (x := m) (y := x) 3 1000 (by omega) (by omega)
                    rw [show (3 * 1000 : Nat) = 3000 from rfl] at k1; omega
                  have W1 : IntKind.i64.wrap (y + s) = y + s := by rw [IntKind.wrap_i64]; omega
                  have W2 : IntKind.i64.wrap (m * x) = m * x := by rw [IntKind.wrap_i64]; omega
                  have W3 : IntKind.i64.wrap (y + s + m * x) = y + s + m * x := by rw [IntKind.wrap_i64]; omega
                  have W4 : IntKind.i64.wrap (-y) = -y := by rw [IntKind.wrap_i64]; omega
                  have HIN2 : Hid (∀ j, j < k + 1 → (-1000 ≤ dX ds j ∧ dX ds j ≤ 1000) ∧ (-1000 ≤ dY ds j ∧ dY ds j ≤ 1000)) := hide (fun j hj => by
                    rcases Nat.lt_or_ge j k with h | h
                    · exact HIN.out j h
                    · obtain rfl : k = j := by omega
                      rw [← HX.out, ← HY.out]; exact ⟨hx2, hy2⟩)
                  go_wp2_with fail
                  refine Lv.same (within3_any x (-1000) 1000 _) ?_
                  rw [J1.out]
                  go_wp2_with fail
                  refine Lv.same (within3_any y (-1000) 1000 _) ?_
                  rw [J2.out]
                  clear J1 J2
                  have hown := HO7.out
                  have hoth := HO8.out
                  have hne := HNE.out
                  have hsz0 := HB.out.size
                  obtain ⟨i0, hi, hz0, hz1, hz2⟩ := info_parts info_dot
                  go_wp2
                  go_region_held3 (fun w' => w'.cell? ⟨b, off + k * 2, none⟩ = some (.int .i64 x) ∧ w'.cell? ⟨b, off + k * 2 + 1, none⟩ = some (.int .i64 y))
                    (first | go_keep | (go_split_ands; refine ⟨?_, ?_⟩; (all_goals (rw [hgrow.cell_far _ (by simp; omega) (fun hh => absurd (hown.lt b hh.symm).1 (by omega))]; assumption))))
                    ((refine step_append_lies _ (by rfl) _ _ _ (by rfl) w.heap.size 27 i0 _ 2 16 Try.underlying22 hi hz0 hz1 hz2 rfl (by omega) _ k (cellsD ds (upD ds s m) k) (by rfl) ((hown.alloc _).drew) ⟨_, 0, none⟩ 1 1 [.int .i64 x, .int .i64 (y + s + m * x)] (by rfl) (by rfl) (World.news_of_block (cs := #[.int .i64 x, .int .i64 (y + s + m * x)]) (t := 27) (fr := (0, 0)) (heap_alloc_new _ _)) (by simp [Value.oneCell']) (by omega) (by unfold maxLen; omega) (by omega) (by simp; omega) _ rfl ?_; intro gg cap2 w1 hown1 hgrow hat hlt9))
                  rw [← HSN7.out] at hown1
                  have HB2 : Hid (Below w.heap.size w w1) := hide (((HB.out.alloc (by omega) _).drew).grown hgrow (by simp; omega) (fun j hj => (hown.lt j hj).1))
                  have hoth2 := ((hoth.alloc _).drew).kept hgrow (apart hne)
                  have hnew := apart_own hne hat (fun j hj => ⟨(hoth.lt j hj).1, Nat.lt_of_lt_of_le (hoth.lt j hj).2 (by simp [heap_drew])⟩)
                  have HO7b := hide hown1
                  have HO8b := hide hoth2
                  have HNEb : Hid (∀ g, _ → Value.ownBlock (.slice (some ⟨gg, 0, none⟩) (k + 1) cap2) ≠ some g) := hide (fun g (hg : Value.ownBlock _ = some g) he => hnew (hg.trans he.symm))
                  have qx2 := (HB2.out.cell (p := ⟨b, off + k * 2, none⟩) (by exact hb)).trans (HC.out k hlt).1
                  have qy2 := (HB2.out.cell (p := ⟨b, off + k * 2 + 1, none⟩) (by exact hb)).trans (HC.out k hlt).2
                  rw [← HX.out] at qx2
                  rw [← HY.out] at qy2
                  clear HNE HO7 HO8 hown hoth hne hsz0 qx qy hown1 hoth2 hgrow hat hlt9 hnew
                  have HB3 := hide HB2.out
                  clear HB HB2
                  have HB := hide HB3.out
                  have qx := qx2
                  have qy := qy2
                  clear qx2 qy2 HB3
                  have hbr2 : b < w1.heap.size := by have := HB.out.size; omega
                  have hown := HO8b.out
                  have hoth := HO7b.out
                  have hne := HNEb.out
                  have hsz0 := HB.out.size
                  obtain ⟨i0, hi, hz0, hz1, hz2⟩ := info_parts info_dot
                  go_wp2
                  go_region_held3 (fun w' => w'.cell? ⟨b, off + k * 2, none⟩ = some (.int .i64 x) ∧ w'.cell? ⟨b, off + k * 2 + 1, none⟩ = some (.int .i64 y))
                    (first | go_keep | (go_split_ands; refine ⟨?_, ?_⟩; (all_goals (rw [hgrow.cell_far _ (by simp; omega) (fun hh => absurd (hown.lt b hh.symm).1 (by omega))]; assumption))))
                    ((refine step_append_lies _ (by rfl) _ _ _ (by rfl) w.heap.size 27 i0 _ 2 16 Try.underlying22 hi hz0 hz1 hz2 rfl (by omega) _ k (cellsD ds (dnD ds) k) (by rfl) ((hown.alloc _).drew) ⟨_, 0, none⟩ 1 1 [.int .i64 x, .int .i64 (-y)] (by rfl) (by rfl) (World.news_of_block (cs := #[.int .i64 x, .int .i64 (-y)]) (t := 27) (fr := (0, 0)) (heap_alloc_new _ _)) (by simp [Value.oneCell']) (by omega) (by unfold maxLen; omega) (by omega) (by simp; omega) _ rfl ?_; intro gg cap2 w1 hown1 hgrow hat hlt9))
                  rw [← HSN8.out] at hown1
                  have HB2 : Hid (Below w.heap.size w w1) := hide (((HB.out.alloc (by omega) _).drew).grown hgrow (by simp; omega) (fun j hj => (hown.lt j hj).1))
                  have hoth2 := ((hoth.alloc _).drew).kept hgrow (apart hne)
                  have hnew := apart_own hne hat (fun j hj => ⟨(hoth.lt j hj).1, Nat.lt_of_lt_of_le (hoth.lt j hj).2 (by simp [heap_drew])⟩)
                  have HO7c := hide hoth2
                  have HO8c := hide hown1
                  have HNW := hide hnew
                  clear HO7b HO8b HNEb hown hoth hne hown1 hoth2 hgrow hat hlt9 hnew qx qy W1 W2 W3 W4 HB HSN7 HSN8
                  go_wp2
                  go_roundw
                  case rel => exact ⟨k + 1, by omega, by go_num, HO7c, HO8c, hide (apart_back HNW.out rfl), HIN2, HB2⟩
                  case measure => simp [intOf]; omega
                · have J1 := hide (inR_yes (n := x) (lo := -1000) (hi := 1000) (by omega))
                  have J2 := hide (inR_no (n := y) (lo := -1000) (hi := 1000) hy2)
                  go_wp2_with fail
                  refine Lv.same (within3_any x (-1000) 1000 _) ?_
                  rw [J1.out]
                  go_wp2_with fail
                  refine Lv.same (within3_any y (-1000) 1000 _) ?_
                  rw [J2.out]
                  go_wp2
                  go_ret
                  exact ⟨rfl, HB.out⟩
              · have J1 := hide (inR_no (n := x) (lo := -1000) (hi := 1000) hx2)
                go_wp2_with fail
                refine Lv.same (within3_any x (-1000) 1000 _) ?_
                rw [J1.out]
                go_wp2
                go_ret
                exact ⟨rfl, HB.out⟩
            · obtain rfl : n = k := by omega
              have h3 : 3 ≤ n := by have := HOK.out.three; rw [HN.out] at this; exact this
              obtain ⟨g7, cap7, rfl⟩ := row_own HO7.out (by omega)
              obtain ⟨g8, cap8, rfl⟩ := row_own HO8.out (by omega)
              have lt7 : Hid (g7 < wr.heap.size) := hide (World.ownsRow.lt HO7.out g7 rfl).2
              have lt8 : Hid (g8 < wr.heap.size) := hide (World.ownsRow.lt HO8.out g8 rfl).2
              have HC7 := hide (own_cells HO7.out)
              have HC8 := hide (own_cells HO8.out)
              have HC0 : Hid (∀ i, i < n → wr.cell? ⟨b, off + i * 2, none⟩ = some (.int .i64 (dX ds i)) ∧ wr.cell? ⟨b, off + i * 2 + 1, none⟩ = some (.int .i64 (dY ds i))) := hide (fun i hi => ⟨(HB.out.cell (by exact hb)).trans (HC.out i hi).1, (HB.out.cell (by exact hb)).trans (HC.out i hi).2⟩)
              have T := tilted HOK.out hs2 hm2
              have U := rowD_ok HOK.out (f := upD ds s m) (fun i hi => by
                have := HIN.out i (by rw [HN.out] at hi; exact hi)
                have k1 := mul_bound (x := m) (y := dX ds i) 3 1000 (by omega) (by omega)
                rw [show (3 * 1000 : Nat) = 3000 from rfl] at k1
                unfold inD upD
                omega)
              have V := rowD_ok HOK.out (f := dnD ds) (fun i hi => by
                have := HIN.out i (by rw [HN.out] at hi; exact hi)
                unfold inD dnD
                omega)
              rw [HN.out] at T U V
              have CL := fun W (hW : b < W.heap.size) hc' => line_parts b off n cap ds W HN.out hW HE.out hc'
              have CU := fun W (hW : g7 < W.heap.size) hc' => line_parts g7 0 n cap7 (rowD ds (upD ds s m) n) W rowD_len hW (dots_back U) hc'
              have CV := fun W (hW : g8 < W.heap.size) hc' => line_parts g8 0 n cap8 (rowD ds (dnD ds) n) W rowD_len hW (dots_back V) hc'
              rw [T.bu, T.eu.1, T.eu.2] at CU
              rw [T.bv, T.ev.1, T.ev.2] at CV
              have CA := fun W => add_ok (pSN ds (bestT ds)) (pSD ds (bestT ds)) s 1 W T.ok.1 (okF_whole hs2) (fracsErr_ok T.ok.1 (okF_whole hs2))
              have CB := fun W => add_ok (pKN ds (bestT ds)) (pKD ds (bestT ds)) m 1 W T.ok.2 (okF_whole (by omega)) (fracsErr_ok T.ok.2 (okF_whole (by omega)))
              have CC := fun W => times_ok (pSN ds (bestT ds)) (pSD ds (bestT ds)) (-1) 1 W T.ok.1 (okF_whole (by omega)) (fracsErr_ok T.ok.1 (okF_whole (by omega)))
              have CD := fun W => times_ok (pKN ds (bestT ds)) (pKD ds (bestT ds)) (-1) 1 W T.ok.2 (okF_whole (by omega)) (fracsErr_ok T.ok.2 (okF_whole (by omega)))
              rw [T.ks.1, T.ks.2.1, T.ks.2.2] at CA
              rw [T.kk.1, T.kk.2.1, T.kk.2.2] at CB
              rw [T.ls.1, T.ls.2.1, T.ls.2.2] at CC
              rw [T.lk.1, T.lk.2.1, T.lk.2.2] at CD
              unfold fracV at CA CB
              obtain ⟨us, hus⟩ : ∃ us, us = rowD ds (upD ds s m) n := ⟨_, rfl⟩
              obtain ⟨vs, hvs⟩ : ∃ us, us = rowD ds (dnD ds) n := ⟨_, rfl⟩
              rw [← hus] at CU CA CB HC7
              rw [← hvs] at CV CC CD HC8
              clear T U V hus hvs
              obtain ⟨z0, hz0⟩ : ∃ z, z = pSN ds (bestT ds) := ⟨_, rfl⟩
              obtain ⟨z1, hz1⟩ : ∃ z, z = pSD ds (bestT ds) := ⟨_, rfl⟩
              obtain ⟨z2, hz2⟩ : ∃ z, z = pKN ds (bestT ds) := ⟨_, rfl⟩
              obtain ⟨z3, hz3⟩ : ∃ z, z = pKD ds (bestT ds) := ⟨_, rfl⟩
              obtain ⟨z4, hz4⟩ : ∃ z, z = pEN ds (bestT ds) := ⟨_, rfl⟩
              obtain ⟨z5, hz5⟩ : ∃ z, z = pED ds (bestT ds) := ⟨_, rfl⟩
              obtain ⟨u0, hu0⟩ : ∃ z, z = pSN us (bestT ds) := ⟨_, rfl⟩
              obtain ⟨u1, hu1⟩ : ∃ z, z = pSD us (bestT ds) := ⟨_, rfl⟩
              obtain ⟨u2, hu2⟩ : ∃ z, z = pKN us (bestT ds) := ⟨_, rfl⟩
              obtain ⟨u3, hu3⟩ : ∃ z, z = pKD us (bestT ds) := ⟨_, rfl⟩
              obtain ⟨v0, hv0⟩ : ∃ z, z = pSN vs (bestT ds) := ⟨_, rfl⟩
              obtain ⟨v1, hv1⟩ : ∃ z, z = pSD vs (bestT ds) := ⟨_, rfl⟩
              obtain ⟨v2, hv2⟩ : ∃ z, z = pKN vs (bestT ds) := ⟨_, rfl⟩
              obtain ⟨v3, hv3⟩ : ∃ z, z = pKD vs (bestT ds) := ⟨_, rfl⟩
              obtain ⟨z6, hz6⟩ : ∃ z : Int, z = ((bestT ds).1 : Nat) := ⟨_, rfl⟩
              obtain ⟨z7, hz7⟩ : ∃ z : Int, z = ((bestT ds).2.1 : Nat) := ⟨_, rfl⟩
              obtain ⟨z8, hz8⟩ : ∃ z : Int, z = ((bestT ds).2.2 : Nat) := ⟨_, rfl⟩
              rw [← hz0, ← hz1, ← hz2, ← hz3, ← hz4, ← hz5, ← hz6, ← hz7, ← hz8] at CL
              rw [← hu0, ← hu1, ← hu2, ← hu3, ← hz4, ← hz5, ← hz6, ← hz7, ← hz8] at CU
              rw [← hv0, ← hv1, ← hv2, ← hv3, ← hz4, ← hz5, ← hz6, ← hz7, ← hz8] at CV
              rw [← hz0, ← hz1, ← hu0, ← hu1] at CA
              rw [← hz2, ← hz3, ← hu2, ← hu3] at CB
              rw [← hz0, ← hz1, ← hv0, ← hv1] at CC
              rw [← hz2, ← hz3, ← hv2, ← hv3] at CD
              clear hz0 hz1 hz2 hz3 hz4 hz5 hz6 hz7 hz8 hu0 hu1 hu2 hu3 hv0 hv1 hv2 hv3
              replace CL := hide CL
              replace CU := hide CU
              replace CV := hide CV
              replace CA := hide CA
              replace CB := hide CB
              replace CC := hide CC
              replace CD := hide CD
              have L5 := hide (Lv.start wr)
              have hbr : b < wr.heap.size := by have := HB.out.size; omega
              clear HO7 HO8 HNE HIN
              go_wp2_with fail
              refine Lv.call (CL.out _ hbr HC0.out) L5.out ?_
              intro w6 L6'
              have L6 := hide L6'
              have F6 := L6'.at
              clear L6'
              simp only [AllAt, CellsAt, updL, List.map, Nat.zero_add, Nat.reduceAdd, and_true, World.size_alloc, World.heap_drewN, heap_drew, size_set, Nat.add_eq_left, Nat.left_eq_add, Nat.add_right_cancel_iff, ne_up2, ne_dn2, ne_up3, ne_dn3, ne_up4, ne_dn4, Nat.reduceEqDiff, Nat.one_ne_zero, Nat.succ_ne_zero, Nat.zero_ne_one, reduceIte, List.set_cons_zero, List.set_cons_succ] at F6
              have L6p := hide (L6.out.put [.int .i64 z0, .int .i64 z1, .int .i64 z2, .int .i64 z3, .int .i64 z4, .int .i64 z5, .int .i64 z6, .int .i64 z7, .int .i64 z8] 32)
              go_wp2_with fail
              refine Lv.call (CU.out _ (by have := L6p.out.size; have := lt7.out; omega) (fun i hi => ⟨(L6p.out.below.cell (by exact lt7.out)).trans (HC7.out i hi).1, (L6p.out.below.cell (by exact lt7.out)).trans (HC7.out i hi).2⟩)) (L6.out.put _ _) ?_
              intro w7 L7'
              have L7 := hide L7'
              have F7 := L7'.at
              clear L7' F6
              simp only [AllAt, CellsAt, updL, List.map, Nat.zero_add, Nat.reduceAdd, and_true, World.size_alloc, World.heap_drewN, heap_drew, size_set, Nat.add_eq_left, Nat.left_eq_add, Nat.add_right_cancel_iff, ne_up2, ne_dn2, ne_up3, ne_dn3, ne_up4, ne_dn4, Nat.reduceEqDiff, Nat.one_ne_zero, Nat.succ_ne_zero, Nat.zero_ne_one, reduceIte, List.set_cons_zero, List.set_cons_succ] at F7
              have L7p := hide (L7.out.put [.int .i64 u0, .int .i64 u1, .int .i64 u2, .int .i64 u3, .int .i64 z4, .int .i64 z5, .int .i64 z6, .int .i64 z7, .int .i64 z8] 32)
              go_wp2_with fail
              refine Lv.call (CV.out _ (by have := L7p.out.size; have := lt8.out; omega) (fun i hi => ⟨(L7p.out.below.cell (by exact lt8.out)).trans (HC8.out i hi).1, (L7p.out.below.cell (by exact lt8.out)).trans (HC8.out i hi).2⟩)) (L7.out.put _ _) ?_
              intro w8 L8'
              have L8 := hide L8'
              have F8 := L8'.at
              clear L8' F7
              simp only [AllAt, CellsAt, updL, List.map, Nat.zero_add, Nat.reduceAdd, and_true, World.size_alloc, World.heap_drewN, heap_drew, size_set, Nat.add_eq_left, Nat.left_eq_add, Nat.add_right_cancel_iff, ne_up2, ne_dn2, ne_up3, ne_dn3, ne_up4, ne_dn4, Nat.reduceEqDiff, Nat.one_ne_zero, Nat.succ_ne_zero, Nat.zero_ne_one, reduceIte, List.set_cons_zero, List.set_cons_succ] at F8
              clear L6p L7p
              go_wp2_with fail
              refine Lv.call (CA.out _) (L8.out.put _ _) ?_
              intro w9 L9'
              have L9 := hide L9'
              have F9 := L9'.at
              clear L9' F8
              simp only [AllAt, CellsAt, updL, List.map, Nat.zero_add, Nat.reduceAdd, and_true, World.size_alloc, World.heap_drewN, heap_drew, size_set, Nat.add_eq_left, Nat.left_eq_add, Nat.add_right_cancel_iff, ne_up2, ne_dn2, ne_up3, ne_dn3, ne_up4, ne_dn4, Nat.reduceEqDiff, Nat.one_ne_zero, Nat.succ_ne_zero, Nat.zero_ne_one, reduceIte, List.set_cons_zero, List.set_cons_succ] at F9
              go_wp2_with fail
              refine Lv.call (CB.out _) (L9.out.put _ _) ?_
              intro w10 L10'
              have L10 := hide L10'
              have F10 := L10'.at
              clear L10' F9
              simp only [AllAt, CellsAt, updL, List.map, Nat.zero_add, Nat.reduceAdd, and_true, World.size_alloc, World.heap_drewN, heap_drew, size_set, Nat.add_eq_left, Nat.left_eq_add, Nat.add_right_cancel_iff, ne_up2, ne_dn2, ne_up3, ne_dn3, ne_up4, ne_dn4, Nat.reduceEqDiff, Nat.one_ne_zero, Nat.succ_ne_zero, Nat.zero_ne_one, reduceIte, List.set_cons_zero, List.set_cons_succ] at F10
              go_wp2_with fail
              refine Lv.call (CC.out _) (L10.out.put _ _) ?_
              intro w11 L11'
              have L11 := hide L11'
              have F11 := L11'.at
              clear L11' F10
              simp only [AllAt, CellsAt, updL, List.map, Nat.zero_add, Nat.reduceAdd, and_true, World.size_alloc, World.heap_drewN, heap_drew, size_set, Nat.add_eq_left, Nat.left_eq_add, Nat.add_right_cancel_iff, ne_up2, ne_dn2, ne_up3, ne_dn3, ne_up4, ne_dn4, Nat.reduceEqDiff, Nat.one_ne_zero, Nat.succ_ne_zero, Nat.zero_ne_one, reduceIte, List.set_cons_zero, List.set_cons_succ] at F11
              go_wp2_with fail
              refine Lv.call (CD.out _) (L11.out.put _ _) ?_
              intro w12 L12'
              have L12 := hide L12'
              have F12 := L12'.at
              clear L12' F11
              simp only [AllAt, CellsAt, updL, List.map, Nat.zero_add, Nat.reduceAdd, and_true, World.size_alloc, World.heap_drewN, heap_drew, size_set, Nat.add_eq_left, Nat.left_eq_add, Nat.add_right_cancel_iff, ne_up2, ne_dn2, ne_up3, ne_dn3, ne_up4, ne_dn4, Nat.reduceEqDiff, Nat.one_ne_zero, Nat.succ_ne_zero, Nat.zero_ne_one, reduceIte, List.set_cons_zero, List.set_cons_succ] at F12
              go_wp2
              go_ret
              exact ⟨rfl, HB.out.trans ((L12.out.put _ _).below.mono HB.out.size)⟩
        · have I1 := hide (inR_yes (n := s) (lo := -1000) (hi := 1000) (by omega))
          have I2 := hide (inR_no (n := m) (lo := -3) (hi := 3) hm2)
          have L0 := hide (Lv.start w)
          go_enter Try.func3, Try.ntmps3
          go_wp2_with fail
          refine Lv.call (counts_any _) L0.out ?_
          intro w1 L1'
          have L1 := hide L1'
          have F1 := L1'.at
          clear L1'
          simp only [AllAt, CellsAt, updL, List.map, Nat.zero_add, Nat.reduceAdd, and_true, World.size_alloc, World.heap_drewN, heap_drew, size_set, Nat.add_eq_left, Nat.left_eq_add, Nat.add_right_cancel_iff, ne_up2, ne_dn2, ne_up3, ne_dn3, ne_up4, ne_dn4, Nat.reduceEqDiff, Nat.one_ne_zero, Nat.succ_ne_zero, Nat.zero_ne_one, reduceIte, List.set_cons_zero, List.set_cons_succ] at F1
          have D1 : Hid (Dots w1 w1.heap.size A ds) := hide ((HD.out.kept L1.out.below).higher' L1.out.size)
          go_wp2_with fail
          refine Lv.call (refDots_any A n cap ds _ HN.out D1.out) L1.out ?_
          intro w2 L2'
          have L2 := hide L2'
          have F2 := L2'.at
          clear L2' F1 D1
          simp only [AllAt, CellsAt, updL, List.map, Nat.zero_add, Nat.reduceAdd, and_true, World.size_alloc, World.heap_drewN, heap_drew, size_set, Nat.add_eq_left, Nat.left_eq_add, Nat.add_right_cancel_iff, ne_up2, ne_dn2, ne_up3, ne_dn3, ne_up4, ne_dn4, Nat.reduceEqDiff, Nat.one_ne_zero, Nat.succ_ne_zero, Nat.zero_ne_one, reduceIte, List.set_cons_zero, List.set_cons_succ] at F2
          rw [HE.out]
          go_wp2_with fail
          refine Lv.same (within3_any s (-1000) 1000 _) ?_
          rw [I1.out]
          go_wp2_with fail
          refine Lv.same (within3_any m (-3) 3 _) ?_
          rw [I2.out]
          go_wp2
          go_ret
          refine ⟨rfl, ?_⟩
          repeat (first | (with_reducible exact L2.out.below) | refine Below.setCell ?_ (by first | omega | (simp; done) | (simp; omega)) _ | refine Below.alloc ?_ (by first | omega | (simp; done) | (simp; omega)) _ | refine below_drewN ?_ _ | refine Below.drew ?_)
      · have I1 := hide (inR_no (n := s) (lo := -1000) (hi := 1000) hs2)
        have L0 := hide (Lv.start w)
        go_enter Try.func3, Try.ntmps3
        go_wp2_with fail
        refine Lv.call (counts_any _) L0.out ?_
        intro w1 L1'
        have L1 := hide L1'
        have F1 := L1'.at
        clear L1'
        simp only [AllAt, CellsAt, updL, List.map, Nat.zero_add, Nat.reduceAdd, and_true, World.size_alloc, World.heap_drewN, heap_drew, size_set, Nat.add_eq_left, Nat.left_eq_add, Nat.add_right_cancel_iff, ne_up2, ne_dn2, ne_up3, ne_dn3, ne_up4, ne_dn4, Nat.reduceEqDiff, Nat.one_ne_zero, Nat.succ_ne_zero, Nat.zero_ne_one, reduceIte, List.set_cons_zero, List.set_cons_succ] at F1
        have D1 : Hid (Dots w1 w1.heap.size A ds) := hide ((HD.out.kept L1.out.below).higher' L1.out.size)
        go_wp2_with fail
        refine Lv.call (refDots_any A n cap ds _ HN.out D1.out) L1.out ?_
        intro w2 L2'
        have L2 := hide L2'
        have F2 := L2'.at
        clear L2' F1 D1
        simp only [AllAt, CellsAt, updL, List.map, Nat.zero_add, Nat.reduceAdd, and_true, World.size_alloc, World.heap_drewN, heap_drew, size_set, Nat.add_eq_left, Nat.left_eq_add, Nat.add_right_cancel_iff, ne_up2, ne_dn2, ne_up3, ne_dn3, ne_up4, ne_dn4, Nat.reduceEqDiff, Nat.one_ne_zero, Nat.succ_ne_zero, Nat.zero_ne_one, reduceIte, List.set_cons_zero, List.set_cons_succ] at F2
        rw [HE.out]
        go_wp2_with fail
        refine Lv.same (within3_any s (-1000) 1000 _) ?_
        rw [I1.out]
        go_wp2
        go_ret
        refine ⟨rfl, ?_⟩
        repeat (first | (with_reducible exact L2.out.below) | refine Below.setCell ?_ (by first | omega | (simp; done) | (simp; omega)) _ | refine Below.alloc ?_ (by first | omega | (simp; done) | (simp; omega)) _ | refine below_drewN ?_ _ | refine Below.drew ?_)
    · have b1 : (E != 0) = true := by rw [bne_iff_ne]; exact hE0
      clear hE0
      have L0 := hide (Lv.start w)
      go_enter Try.func3, Try.ntmps3
      go_wp2_with fail
      refine Lv.call (counts_any _) L0.out ?_
      intro w1 L1'
      have L1 := hide L1'
      have F1 := L1'.at
      clear L1'
      simp only [AllAt, CellsAt, updL, List.map, Nat.zero_add, Nat.reduceAdd, and_true, World.size_alloc, World.heap_drewN, heap_drew, size_set, Nat.add_eq_left, Nat.left_eq_add, Nat.add_right_cancel_iff, ne_up2, ne_dn2, ne_up3, ne_dn3, ne_up4, ne_dn4, Nat.reduceEqDiff, Nat.one_ne_zero, Nat.succ_ne_zero, Nat.zero_ne_one, reduceIte, List.set_cons_zero, List.set_cons_succ] at F1
      have D1 : Hid (Dots w1 w1.heap.size A ds) := hide ((HD.out.kept L1.out.below).higher' L1.out.size)
      go_wp2_with fail
      refine Lv.call (refDots_any A n cap ds _ HN.out D1.out) L1.out ?_
      intro w2 L2'
      have L2 := hide L2'
      have F2 := L2'.at
      clear L2' F1 D1
      simp only [AllAt, CellsAt, updL, List.map, Nat.zero_add, Nat.reduceAdd, and_true, World.size_alloc, World.heap_drewN, heap_drew, size_set, Nat.add_eq_left, Nat.left_eq_add, Nat.add_right_cancel_iff, ne_up2, ne_dn2, ne_up3, ne_dn3, ne_up4, ne_dn4, Nat.reduceEqDiff, Nat.one_ne_zero, Nat.succ_ne_zero, Nat.zero_ne_one, reduceIte, List.set_cons_zero, List.set_cons_succ] at F2
      rw [HE.out]
      go_wp2
      go_ret
      refine ⟨rfl, ?_⟩
      repeat (first | (with_reducible exact L2.out.below) | refine Below.setCell ?_ (by first | omega | (simp; done) | (simp; omega)) _ | refine Below.alloc ?_ (by first | omega | (simp; done) | (simp; omega)) _ | refine below_drewN ?_ _ | refine Below.drew ?_)
set_option maxRecDepth 100000 in
theorem topLinesTilt_lifted (os : Os) (started : os.Started) (H : Type) (enc : TypeId × Value → H) :
    ReturnsInHanded {} Try.checked os 3 .any (Rows.topLinesTiltSpec.pre6 enc Try.prog Try.f3 Rows.topLinesTiltRow.domain false) (Rows.topLinesTiltSpec.post enc Try.prog Try.f3 false true false false) := by
  refine returnsInHanded_of_change (C := Try.checked) (by kernel_rfl) started (by kernel_rfl) Try.func3
    (ChangeSpec.witness6 (enc := enc) (C := Try.checked) false ⟨#[], #[.slice none 0 0, .int .i64 0, .int .i64 0], []⟩ 8 (by kernel_rfl) (by kernel_rfl) (by kernel_rfl) (by kernel_rfl)) ?_
  intro W base args ds gs before hval0 hW hcnd _
  have hval : ∀ (j : Nat) t v, Try.f3.params[j]? = some t → args[j]? = some v → Value.okWide Try.prog W .any base t v := hval0
  have hW' := hW
  obtain ⟨p, q, hA0, hV, rfl, hfz, hnd⟩ := hW
  have hA : DataW.TrodAll enc Try.prog W 0 (fun _ => true) true Try.f3.params.toList args.toList ds p := hA0
  rw [Try.params3] at hA hval
  obtain ⟨v0, vs0, d0, ds0, p0, q0, hargs, rfl, rfl, h0, r0⟩ := trodAll_cons hA
  obtain ⟨v1, vs1, d1, ds1, p1, q1, rfl, rfl, rfl, h1, r1⟩ := trodAll_cons r0
  obtain ⟨v2, vs2, d2, ds2, p2, q2, rfl, rfl, rfl, h2, r2⟩ := trodAll_cons r1
  obtain ⟨rfl, rfl, rfl⟩ := trodAll_nil r2
  obtain rfl : args = #[v0, v1, v2] := by cases args; simp_all
  obtain ⟨rfl, rfl⟩ := trodVars_none hV
  obtain ⟨A0_l, n0_l, c0_l, rfl⟩ := okWide_slice Try.underlying22 (hval 0 22 v0 rfl rfl)
  obtain ⟨fu_l, hf_l⟩ := h0
  obtain ⟨A_l, n_l, c_l, hcs_l, hrow_l⟩ := open_rows Try.underlying22 Try.underlying27 (by kernel_rfl) (by kernel_rfl) (by decide) (fun k f hk => by match k, hk with | 0, hk => cases hk; exact Try.underlying3 | 1, hk => cases hk; exact Try.underlying3 | k + 2, hk => simp at hk) hf_l
  simp [Value.cells] at hcs_l
  obtain ⟨rfl, rfl, rfl⟩ := hcs_l
  obtain ⟨ds_l, hn_l, hd_l⟩ : ∃ ds, ds.length = n0_l ∧ Dots W W.heap.size A0_l ds := by
    rcases hrow_l with h0 | ⟨b, off, z, rfl, hb, hz⟩
    · exact ⟨[], h0.symm, fun h => by simp at h⟩
    · refine ⟨(List.range n0_l).map fun i => (z i 0, z i 1), by simp, fun _ => ⟨b, off, rfl, hb, fun i hi => ?_⟩⟩
      have hi' : i < n0_l := by simpa using hi
      have e : ((List.range n0_l).map fun i => (z i 0, z i 1)).getD i (0, 0) = (z i 0, z i 1) := by simp [hi']
      rw [e]
      exact ⟨by simpa using (hz i hi' 0 (by decide)).1, by simpa using (hz i hi' 1 (by decide)).1⟩
  obtain ⟨s, rfl, rfl, rfl, w_s⟩ := open_int Try.underlying3 (hval 1 3 v1 rfl rfl) h1
  obtain ⟨m, rfl, rfl, rfl, w_m⟩ := open_int Try.underlying3 (hval 2 3 v2 rfl rfl) h2
  clear hval0
  have hWW := hW'
  refine (topLinesTilt_walk A0_l n0_l c0_l ds_l s m W (wfI w_s) (wfI w_m) hn_l hd_l).mono fun e W' ⟨he, hb⟩ => ?_
  subst he
  exact ⟨_, rfl, law_post (pa := p0 ++ ([] ++ ([] ++ []))) (pv := []) hWW (fun _ _ _ => (trodAll_cons_mk (shut_bool Try.underlying4 _) trodAll_mk0)) (fun sp hsp => args_back (by kernel_rfl) _ _ _ _ (by kernel_rfl) hA0 (fun x hx => hb.same (hWW.lt x (List.mem_append_left _ hx))) (fun x hx => hsp x (List.mem_append_left _ hx))) (fun _ _ => rfl) rfl hb⟩

theorem topLinesTilt_holds : Rows.TopLinesTiltSaid :=
  OpenClaim.holds_of_wide 3 Try.f3 rfl rfl rfl rfl rfl rfl rfl ⟨rfl, rfl, rfl, rfl, rfl⟩ rfl rfl rfl rfl rfl (by kernel_rfl) Try.func3 (by kernel_rfl)
    (of_decide_eq_true (by kernel_rfl)) (by unfold Func.isWrapper; first | (rw [if_pos (by decide +kernel)]; kernel_rfl) | (rw [if_neg (by decide +kernel)]; exact ⟨rfl, rfl⟩))
    (fun os started H enc _ => topLinesTilt_lifted os started H enc)
end Go.Proofs.Ytjomcobhinnikaa
