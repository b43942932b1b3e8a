/- The contract of number.CheckLine. -/
import Derived.Test.YtjomcobhinnikaaLineC
import Derived.Test.YtjomcobhinnikaaRefDots
import Derived.Laws.EntriesVeiled
import Derived.Deep.DeepCutAuto
namespace Go.Proofs.Ytjomcobhinnikaa
open Go.RowKit
set_option linter.unusedVariables false
set_option linter.unusedSimpArgs false

def fr3 (a b c d e f : Int) : List (Int × Int) := [(a, b), (c, d), (e, f)]
theorem frcs3 {w : World} {g : Nat} {t : TypeId} {a b c d e f : Int} (h : Blk w g t #[.int .i64 a, .int .i64 b, .int .i64 c, .int .i64 d, .int .i64 e, .int .i64 f]) : FrcsAt w g 0 (fr3 a b c d e f) := fun i hi => by
  match i, hi with
  | 0, _ => exact ⟨h.cell 0, h.cell 1⟩
  | 1, _ => exact ⟨h.cell 2, h.cell 3⟩
  | 2, _ => exact ⟨h.cell 4, h.cell 5⟩
def allIn (ds : List (Int × Int)) (den S K M : Int) : Prop := ∀ i, i < ds.length → -M ≤ offL ds den S K i ∧ offL ds den S K i ≤ M
def prOk (ds : List (Int × Int)) (den S K M p q r : Int) : Prop := ((offL ds den S K p.toNat).natAbs : Int) = M ∧ offL ds den S K q.toNat = -offL ds den S K p.toNat ∧ offL ds den S K r.toNat = offL ds den S K p.toNat
instance (ds : List (Int × Int)) (den S K M : Int) : Decidable (allIn ds den S K M) := inferInstanceAs (Decidable (∀ i, i < ds.length → _))
instance (ds : List (Int × Int)) (den S K M p q r : Int) : Decidable (prOk ds den S K M p q r) := inferInstanceAs (Decidable (_ ∧ _ ∧ _))
/-- What is wrong with a line over the common denominator den. -/
def lineF (ds : List (Int × Int)) (den S K M p q r : Int) : Int := if ¬ allIn ds den S K M then 26 else if prOk ds den S K M p q r then 0 else 22
def lineE (ds : List (Int × Int)) (a b c d e f p q r : Int) : Int :=
  if denR 40000 (fr3 a b c d e f) = 0 then 8 else if prE ds.length p q r ≠ 0 then prE ds.length p q r else
    lineF ds (denR 40000 (fr3 a b c d e f)) (scF a b (denR 40000 (fr3 a b c d e f))) (scF c d (denR 40000 (fr3 a b c d e f))) (scF e f (denR 40000 (fr3 a b c d e f))) p q r
theorem denTo_pos {fs : List (Int × Int)} {most : Int} (hm : 1 ≤ most ∧ most ≤ 1000000000) (hd : ∀ i, i < fs.length → 1 ≤ fD fs i ∧ fD fs i ≤ 1000000000) : ∀ k, k ≤ fs.length → denUp most fs k = true → 1 ≤ denTo fs k ∧ denTo fs k ≤ most
  | 0, _, _ => ⟨by show (1 : Int) ≤ 1; omega, hm.1⟩
  | k + 1, hk, h => by
    rw [denUp, Bool.and_eq_true, decide_eq_true_eq] at h
    obtain ⟨h1, h2⟩ := h
    have h3 := denTo_pos hm hd k (by omega) h1
    obtain ⟨_, _, _, _, _, _, h4, h5, _⟩ := stepE_facts (b := denTo fs k) (d := fD fs k) (by omega) (hd k (by omega))
    refine ⟨?_, h2⟩
    rw [denTo]
    have := Int.mul_le_mul_of_nonneg_left h4 (show 0 ≤ denTo fs k by omega)
    omega
theorem denR_in {fs : List (Int × Int)} {most : Int} (hm : 1 ≤ most ∧ most ≤ 1000000000) (hd : ∀ i, i < fs.length → 1 ≤ fD fs i ∧ fD fs i ≤ 1000000000) (h : denR most fs ≠ 0) : 1 ≤ denR most fs ∧ denR most fs ≤ most := by
  unfold denR at h ⊢
  split at h
  · rename_i h1
    rw [if_pos h1]
    exact denTo_pos hm hd _ (Nat.le_refl _) h1
  · exact absurd rfl h
theorem fr3_den {a b c d e f : Int} (h1 : okF a b) (h2 : okF c d) (h3 : okF e f) : ∀ i, i < (fr3 a b c d e f).length → 1 ≤ fD (fr3 a b c d e f) i ∧ fD (fr3 a b c d e f) i ≤ 1000000000 := fun i hi => by
  match i, hi with
  | 0, _ => exact ⟨h1.1.1, h1.2.2⟩
  | 1, _ => exact ⟨h2.1.1, h2.2.2⟩
  | 2, _ => exact ⟨h3.1.1, h3.2.2⟩
theorem fr3_ok {a b c d e f : Int} (h : fracsTo (fr3 a b c d e f) 3 = 0) : okF a b ∧ okF c d ∧ okF e f := by
  have e0 : fracsTo (fr3 a b c d e f) 1 = fracErr a b := by rw [fracsTo, fracsTo, if_pos rfl]; rfl
  have e1 : fracsTo (fr3 a b c d e f) 2 = if fracErr a b = 0 then fracErr c d else fracErr a b := by rw [fracsTo, e0]; rfl
  have e2 : fracsTo (fr3 a b c d e f) 3 = if fracsTo (fr3 a b c d e f) 2 = 0 then fracErr e f else fracsTo (fr3 a b c d e f) 2 := by rw [fracsTo]; rfl
  rw [e2, e1] at h
  rcases fracErr_cases a b with ⟨k, k'⟩ | k | k
  · rw [if_pos k] at h
    rcases fracErr_cases c d with ⟨j, j'⟩ | j | j
    · rw [if_pos j] at h
      rcases fracErr_cases e f with ⟨i, i'⟩ | i | i
      · exact ⟨k', j', i'⟩
      · omega
      · omega
    · rw [if_neg (by omega)] at h; omega
    · rw [if_neg (by omega)] at h; omega
  · rw [if_neg (show ¬ fracErr a b = 0 by omega), if_neg (by omega)] at h; omega
  · rw [if_neg (show ¬ fracErr a b = 0 by omega), if_neg (by omega)] at h; omega
set_option maxHeartbeats 4000000 in
set_option maxRecDepth 100000 in
theorem checkLine_badd (A : Option Addr) (n cap : Nat) (ds : List (Int × Int)) (a b' c d e f p q r E : Int) (w : World) (hn : ds.length = n) (hD : Dots w w.heap.size A ds) (hE : dotsErr ds = E) (h0 : E ≠ 0) :
    Calls Try.prog 15 #[.slice A n cap, .agg #[.int .i64 a, .int .i64 b', .int .i64 c, .int .i64 d, .int .i64 e, .int .i64 f, .int .i64 p, .int .i64 q, .int .i64 r]] w fun x w' => x = .returned (.int .i64 E) ∧ Below w.heap.size w w' := by
  have HN := hide hn
  have HD := hide hD
  have HE := hide hE
  have b1 : (E != 0) = true := by rw [bne_iff_ne]; exact h0
  clear hn hD hE h0
  have HDS : Hid (Dots ((w.alloc (.cells #[.slice A n cap] 22)).alloc (.cells #[.int .i64 a, .int .i64 b', .int .i64 c, .int .i64 d, .int .i64 e, .int .i64 f, .int .i64 p, .int .i64 q, .int .i64 r] 32)) (w.heap.size + 2) A ds) := fun h0 => by
    obtain ⟨b, off, e, hb, hc⟩ := HD.out h0
    exact ⟨b, off, e, by omega, fun i hi => by
      rw [World.cell?_alloc_past _ _ _ (by simp; omega), World.cell?_alloc_past _ _ _ hb, World.cell?_alloc_past _ _ _ (by simp; omega), World.cell?_alloc_past _ _ _ hb]
      exact hc i hi⟩
  have L0 := hide (Lv.start w)
  go_enter Try.func15, Try.ntmps15
  go_wp2_with fail
  refine Lv.call (checkDots_any _ n cap ds _ HN.out (by simpa using HDS.out)) ((L0.out.put _ _).put _ _) ?_
  intro w1 L1'
  have L1 := hide L1'
  have F1 := L1'.at
  clear L1'
  simp only [AllAt, CellsAt, updL, List.map, Nat.zero_add, Nat.reduceAdd, and_true, World.size_alloc, World.heap_drewN, heap_drew, size_set, Nat.add_eq_left, Nat.left_eq_add, Nat.add_right_cancel_iff, ne_up2, ne_dn2, ne_up3, ne_dn3, ne_up4, ne_dn4, Nat.reduceEqDiff, Nat.one_ne_zero, Nat.succ_ne_zero, Nat.zero_ne_one, reduceIte, List.set_cons_zero, List.set_cons_succ] at F1
  rw [HE.out]
  go_wp2
  go_ret
  refine ⟨rfl, ?_⟩
  repeat (first | (with_reducible exact L1.out.below) | refine Below.setCell ?_ (by first | omega | (simp; done) | (simp; omega)) _ | refine Below.alloc ?_ (by first | omega | (simp; done) | (simp; omega)) _ | refine below_drewN ?_ _ | refine Below.drew ?_)
theorem boxed {w : World} {A : Option Addr} {n cap : Nat} {ds : List (Int × Int)} {cs : Array Value} {t t' : TypeId} (h : Dots w w.heap.size A ds) : Dots ((w.alloc (.cells #[.slice A n cap] t)).alloc (.cells cs t')) (w.heap.size + 1 + 1) A ds := fun h0 => by
  obtain ⟨b, off, e, hb, hc⟩ := h h0
  exact ⟨b, off, e, by omega, fun i hi => by
    rw [World.cell?_alloc_past _ _ _ (by simp; omega), World.cell?_alloc_past _ _ _ hb, World.cell?_alloc_past _ _ _ (by simp; omega), World.cell?_alloc_past _ _ _ hb]
    exact hc i hi⟩
theorem fr3_in {a b c d e f : Int} (h1 : in64 a ∧ in64 b) (h2 : in64 c ∧ in64 d) (h3 : in64 e ∧ in64 f) : ∀ i, i < 3 → in64 (fN (fr3 a b c d e f) i) ∧ in64 (fD (fr3 a b c d e f) i) := fun i hi => by
  match i, hi with
  | 0, _ => exact h1
  | 1, _ => exact h2
  | 2, _ => exact h3
set_option maxHeartbeats 4000000 in
set_option maxRecDepth 100000 in
theorem checkLine_badf (A : Option Addr) (n cap : Nat) (ds : List (Int × Int)) (a b' c d e f p q r E : Int) (w : World) (hn : ds.length = n) (hD : Dots w w.heap.size A ds) (hE : dotsErr ds = 0) (h1 : in64 a ∧ in64 b') (h2 : in64 c ∧ in64 d) (h3 : in64 e ∧ in64 f) (hF : fracsTo (fr3 a b' c d e f) 3 = E) (h0 : E ≠ 0) :
    Calls Try.prog 15 #[.slice A n cap, .agg #[.int .i64 a, .int .i64 b', .int .i64 c, .int .i64 d, .int .i64 e, .int .i64 f, .int .i64 p, .int .i64 q, .int .i64 r]] w fun x w' => x = .returned (.int .i64 E) ∧ Below w.heap.size w w' := by
  have HN := hide hn
  have HDS := hide (boxed (n := n) (cap := cap) (t := 22) (cs := #[.int .i64 a, .int .i64 b', .int .i64 c, .int .i64 d, .int .i64 e, .int .i64 f, .int .i64 p, .int .i64 q, .int .i64 r]) (t' := 32) hD)
  have HE := hide hE
  have HIN := hide (fr3_in h1 h2 h3)
  have HF := hide hF
  have b1 : (E != 0) = true := by rw [bne_iff_ne]; exact h0
  clear hn hD hE h0 h1 h2 h3 hF
  have L0 := hide (Lv.start w)
  go_enter Try.func15, Try.ntmps15
  go_wp2_with fail
  refine Lv.call (checkDots_any _ n cap ds _ HN.out (by simpa using HDS.out)) ((L0.out.put _ _).put _ _) ?_
  intro w1 L1'
  have L1 := hide L1'
  have F1 := L1'.at
  clear L1'
  simp only [AllAt, CellsAt, updL, List.map, Nat.zero_add, Nat.reduceAdd, and_true, World.size_alloc, World.heap_drewN, heap_drew, size_set, Nat.add_eq_left, Nat.left_eq_add, Nat.add_right_cancel_iff, ne_up2, ne_dn2, ne_up3, ne_dn3, ne_up4, ne_dn4, Nat.reduceEqDiff, Nat.one_ne_zero, Nat.succ_ne_zero, Nat.zero_ne_one, reduceIte, List.set_cons_zero, List.set_cons_succ] at F1
  rw [HE.out]
  go_wp2_with fail
  refine Lv.call (checkFracsL_any w1.heap.size 0 3 3 (fr3 a b' c d e f) _ rfl (by omega) (by simp) (frcs3 (Blk.new _ _ _ _ (by simp))) HIN.out) (L1.out.put _ _) ?_
  intro w2 L2'
  have L2 := hide L2'
  have F2 := L2'.at
  clear L2' F1
  simp only [AllAt, CellsAt, updL, List.map, Nat.zero_add, Nat.reduceAdd, and_true, World.size_alloc, World.heap_drewN, heap_drew, size_set, Nat.add_eq_left, Nat.left_eq_add, Nat.add_right_cancel_iff, ne_up2, ne_dn2, ne_up3, ne_dn3, ne_up4, ne_dn4, Nat.reduceEqDiff, Nat.one_ne_zero, Nat.succ_ne_zero, Nat.zero_ne_one, reduceIte, List.set_cons_zero, List.set_cons_succ] at F2
  rw [HF.out]
  go_wp2
  go_ret
  refine ⟨rfl, ?_⟩
  repeat (first | (with_reducible exact L2.out.below) | refine Below.setCell ?_ (by first | omega | (simp; done) | (simp; omega)) _ | refine Below.alloc ?_ (by first | omega | (simp; done) | (simp; omega)) _ | refine below_drewN ?_ _ | refine Below.drew ?_)
theorem scaled1_lv {w0 W : World} {L : List (Nat × TypeId × List Value)} {x y den : Int} {g : Nat} (hL : Lv w0 W L) (hm : (g, 3, [Value.int .i64 den]) ∈ L) (hx : -1000000000 ≤ x ∧ x ≤ 1000000000) (hy : 1 ≤ y ∧ y ≤ 1000000000) (hd : 1 ≤ den ∧ den ≤ 40000) :
    Calls Try.prog 33 #[.agg #[.int .i64 x, .int .i64 y], .pointer (some ⟨g, 0, none⟩)] W fun e w' => e = .returned (.int .i64 (scF x y den)) ∧ Below W.heap.size W w' :=
  scaled1_any x y den g W ((hL.blk _ hm).cell 0) hx hy hd
theorem Lv.get {w0 w : World} {L : List (Nat × TypeId × List Value)} {g : Nat} {t : TypeId} {cs : List Value} (h : Lv w0 w L) (hm : (g, t, cs) ∈ L) : Blk w g t cs.toArray := h.blk _ hm
theorem Blk.set0 {w : World} {g : Nat} {t : TypeId} {u : Value} (h : Blk w g t #[.int .i64 0]) : Blk (w.setCell ⟨g, 0, none⟩ u) g t #[u] := by
  have := h.set 0 u
  simpa using this
theorem still_draw {P : Program} {f : FuncId} {args : Array Value} {w : World} {a n : Nat} {v : Value} (h : ∀ m, Calls P f args (w.drewN m) fun e w' => e = .returned v ∧ ∃ q, (w.drewN m).drewN q = w') :
    Calls P f args (w.drewN (a + n)) fun e w'' => e = .returned v ∧ ∃ m, w'' = w.drewN (a + m) := (h (a + n)).mono fun _ _ ⟨he, q, hq⟩ => ⟨he, n + q, by rw [← hq, World.drewN_drewN, Nat.add_assoc]⟩
theorem still_draw0 {P : Program} {f : FuncId} {args : Array Value} {w : World} {n : Nat} {v : Value} (h : ∀ m, Calls P f args (w.drewN m) fun e w' => e = .returned v ∧ ∃ q, (w.drewN m).drewN q = w') :
    Calls P f args (w.drewN n) fun e w'' => e = .returned v ∧ ∃ m, w'' = w.drewN m := (h n).mono fun _ _ ⟨he, q, hq⟩ => ⟨he, n + q, by rw [← hq, World.drewN_drewN]⟩
set_option maxHeartbeats 20000000 in
set_option maxRecDepth 100000 in
theorem checkLine_ok (A : Option Addr) (n cap : Nat) (ds : List (Int × Int)) (a b' c d e f p q r : Int) (w : World) (hn : ds.length = n) (hD : Dots w w.heap.size A ds) (hE : dotsErr ds = 0) (hF : fracsTo (fr3 a b' c d e f) 3 = 0) (h1 : in64 a ∧ in64 b') (h2 : in64 c ∧ in64 d) (h3 : in64 e ∧ in64 f) :
    Calls Try.prog 15 #[.slice A n cap, .agg #[.int .i64 a, .int .i64 b', .int .i64 c, .int .i64 d, .int .i64 e, .int .i64 f, .int .i64 p, .int .i64 q, .int .i64 r]] w fun x w' => x = .returned (.int .i64 (lineE ds a b' c d e f p q r)) ∧ Below w.heap.size w w' := by
  obtain ⟨o1, o2, o3⟩ := fr3_ok hF
  have HDEN := hide (fr3_den o1 o2 o3)
  have HN := hide hn
  have HOK := hide (dots_ok hE)
  obtain ⟨b, off, hA, hb, hc⟩ := hD (by have := HOK.out.three; omega)
  have HDS := hide (boxed (n := n) (cap := cap) (t := 22) (cs := #[.int .i64 a, .int .i64 b', .int .i64 c, .int .i64 d, .int .i64 e, .int .i64 f, .int .i64 p, .int .i64 q, .int .i64 r]) (t' := 32) hD)
  subst hA
  have HC := hide hc
  have HE := hide hE
  have HIN := hide (fr3_in h1 h2 h3)
  have HF := hide hF
  have HR : Hid (lineE ds a b' c d e f p q r = if denR 40000 (fr3 a b' c d e f) = 0 then 8 else if prE ds.length p q r ≠ 0 then prE ds.length p q r else
    lineF ds (denR 40000 (fr3 a b' c d e f)) (scF a b' (denR 40000 (fr3 a b' c d e f))) (scF c d (denR 40000 (fr3 a b' c d e f))) (scF e f (denR 40000 (fr3 a b' c d e f))) p q r) := rfl
  rw [HN.out] at HR
  have hdin := fun h => denR_in (most := 40000) (by omega) (fr3_den o1 o2 o3) h
  obtain ⟨den, hden⟩ : ∃ x, x = denR 40000 (fr3 a b' c d e f) := ⟨_, rfl⟩
  have HDE := hide hden.symm
  rw [← hden] at hdin HR
  clear hn hD hE h1 h2 h3 hF hc hden
  by_cases hd0 : den = 0
  · have HR2 : Hid (lineE ds a b' c d e f p q r = 8) := HR.out.trans (if_pos hd0)
    have b1 : (den == 0) = true := by rw [beq_iff_eq]; exact hd0
    clear HR hdin o1 o2 o3 hd0
    have L0 := hide (Lv.start w)
    go_enter Try.func15, Try.ntmps15
    go_wp2_with fail
    refine Lv.call (checkDots_any _ n cap ds _ HN.out (by simpa using HDS.out)) ((L0.out.put _ _).put _ _) ?_
    intro w1 L1'
    have L1 := hide L1'
    have F1 := L1'.at
    clear L1'
    simp only [AllAt, CellsAt, updL, List.map, Nat.zero_add, Nat.reduceAdd, and_true, World.size_alloc, World.heap_drewN, heap_drew, size_set, Nat.add_eq_left, Nat.left_eq_add, Nat.add_right_cancel_iff, ne_up2, ne_dn2, ne_up3, ne_dn3, ne_up4, ne_dn4, Nat.reduceEqDiff, Nat.one_ne_zero, Nat.succ_ne_zero, Nat.zero_ne_one, reduceIte, List.set_cons_zero, List.set_cons_succ] at F1
    rw [HE.out]
    go_wp2_with fail
    refine Lv.call (checkFracsL_any w1.heap.size 0 3 3 (fr3 a b' c d e f) _ rfl (by omega) (by simp) (frcs3 (Blk.new _ _ _ _ (by simp))) HIN.out) (L1.out.put _ _) ?_
    intro w2 L2'
    have L2 := hide L2'
    have F2 := L2'.at
    clear L2' F1
    simp only [AllAt, CellsAt, updL, List.map, Nat.zero_add, Nat.reduceAdd, and_true, World.size_alloc, World.heap_drewN, heap_drew, size_set, Nat.add_eq_left, Nat.left_eq_add, Nat.add_right_cancel_iff, ne_up2, ne_dn2, ne_up3, ne_dn3, ne_up4, ne_dn4, Nat.reduceEqDiff, Nat.one_ne_zero, Nat.succ_ne_zero, Nat.zero_ne_one, reduceIte, List.set_cons_zero, List.set_cons_succ] at F2
    rw [HF.out]
    go_wp2_with fail
    refine Lv.call (commonDenL_any 40000 w2.heap.size 0 3 3 (fr3 a b' c d e f) _ (by omega) rfl (by omega) (by simp) (frcs3 (Blk.new _ _ _ _ (by simp))) HDEN.out) (L2.out.put _ _) ?_
    intro w3 L3'
    have L3 := hide L3'
    have F3 := L3'.at
    clear L3' F2
    simp only [AllAt, CellsAt, updL, List.map, Nat.zero_add, Nat.reduceAdd, and_true, World.size_alloc, World.heap_drewN, heap_drew, size_set, Nat.add_eq_left, Nat.left_eq_add, Nat.add_right_cancel_iff, ne_up2, ne_dn2, ne_up3, ne_dn3, ne_up4, ne_dn4, Nat.reduceEqDiff, Nat.one_ne_zero, Nat.succ_ne_zero, Nat.zero_ne_one, reduceIte, List.set_cons_zero, List.set_cons_succ] at F3
    rw [HDE.out]
    go_wp2
    go_ret
    refine ⟨ret_int HR2.out.symm, ?_⟩
    repeat (first | (with_reducible exact L3.out.below) | refine Below.setCell ?_ (by first | omega | (simp; done) | (simp; omega)) _ | refine Below.alloc ?_ (by first | omega | (simp; done) | (simp; omega)) _ | refine below_drewN ?_ _ | refine Below.drew ?_)
  · have hdi := hdin hd0
    replace HR : Hid (lineE ds a b' c d e f p q r = if prE n p q r ≠ 0 then prE n p q r else lineF ds den (scF a b' den) (scF c d den) (scF e f den) p q r) := HR.out.trans (if_neg hd0)
    have b1 : (den == 0) = false := by rw [beq_eq_false_iff_ne]; exact hd0
    clear hdin hd0
    by_cases hp0 : prE n p q r = 0
    · have HP0 := hide hp0
      replace HR : Hid (lineE ds a b' c d e f p q r = lineF ds den (scF a b' den) (scF c d den) (scF e f den) p q r) := HR.out.trans (if_neg (fun h => h hp0))
      clear hp0
      have hmf : ∀ (fn : Fn) (first cap : Array Value) (w : World), (Instr.makeFunc fn first cap).run Try.prog w = .ok (.func fn first cap) w := fun _ _ _ _ => rfl
      have L0 := hide (Lv.start w)
      go_enter Try.func15, Try.ntmps15
      go_wp2_with fail
      refine Lv.call (checkDots_any _ n cap ds _ HN.out (by simpa using HDS.out)) ((L0.out.put _ _).put _ _) ?_
      intro w1 L1'
      have L1 := hide L1'
      have F1 := L1'.at
      clear L1'
      simp only [AllAt, CellsAt, updL, List.map, Nat.zero_add, Nat.reduceAdd, and_true, World.size_alloc, World.heap_drewN, heap_drew, size_set, Nat.add_eq_left, Nat.left_eq_add, Nat.add_right_cancel_iff, ne_up2, ne_dn2, ne_up3, ne_dn3, ne_up4, ne_dn4, Nat.reduceEqDiff, Nat.one_ne_zero, Nat.succ_ne_zero, Nat.zero_ne_one, reduceIte, List.set_cons_zero, List.set_cons_succ] at F1
      rw [HE.out]
      go_wp2_with fail
      refine Lv.call (checkFracsL_any w1.heap.size 0 3 3 (fr3 a b' c d e f) _ rfl (by omega) (by simp) (frcs3 (Blk.new _ _ _ _ (by simp))) HIN.out) (L1.out.put _ _) ?_
      intro w2 L2'
      have L2 := hide L2'
      have F2 := L2'.at
      clear L2' F1
      simp only [AllAt, CellsAt, updL, List.map, Nat.zero_add, Nat.reduceAdd, and_true, World.size_alloc, World.heap_drewN, heap_drew, size_set, Nat.add_eq_left, Nat.left_eq_add, Nat.add_right_cancel_iff, ne_up2, ne_dn2, ne_up3, ne_dn3, ne_up4, ne_dn4, Nat.reduceEqDiff, Nat.one_ne_zero, Nat.succ_ne_zero, Nat.zero_ne_one, reduceIte, List.set_cons_zero, List.set_cons_succ] at F2
      rw [HF.out]
      go_wp2_with fail
      refine Lv.call (commonDenL_any 40000 w2.heap.size 0 3 3 (fr3 a b' c d e f) _ (by omega) rfl (by omega) (by simp) (frcs3 (Blk.new _ _ _ _ (by simp))) HDEN.out) (L2.out.put _ _) ?_
      intro w3 L3'
      have L3 := hide L3'
      have F3 := L3'.at
      clear L3' F2
      simp only [AllAt, CellsAt, updL, List.map, Nat.zero_add, Nat.reduceAdd, and_true, World.size_alloc, World.heap_drewN, heap_drew, size_set, Nat.add_eq_left, Nat.left_eq_add, Nat.add_right_cancel_iff, ne_up2, ne_dn2, ne_up3, ne_dn3, ne_up4, ne_dn4, Nat.reduceEqDiff, Nat.one_ne_zero, Nat.succ_ne_zero, Nat.zero_ne_one, reduceIte, List.set_cons_zero, List.set_cons_succ] at F3
      rw [HDE.out]
      go_wp2_with fail
      refine Lv.call (checkProof_any n p q r _) (L3.out.put _ _) ?_
      intro w4 L4'
      have L4 := hide L4'
      have F4 := L4'.at
      clear L4' F3
      simp only [AllAt, CellsAt, updL, List.map, Nat.zero_add, Nat.reduceAdd, and_true, World.size_alloc, World.heap_drewN, heap_drew, size_set, Nat.add_eq_left, Nat.left_eq_add, Nat.add_right_cancel_iff, ne_up2, ne_dn2, ne_up3, ne_dn3, ne_up4, ne_dn4, Nat.reduceEqDiff, Nat.one_ne_zero, Nat.succ_ne_zero, Nat.zero_ne_one, reduceIte, List.set_cons_zero, List.set_cons_succ] at F4
      rw [HP0.out]
      have L4' := hide (L4.out.of (L' := [(w3.heap.size, 3, [.int .i64 den]), (w.heap.size + 1, 32, [.int .i64 a, .int .i64 b', .int .i64 c, .int .i64 d, .int .i64 e, .int .i64 f, .int .i64 p, .int .i64 q, .int .i64 r]), (w.heap.size, 22, [.slice (some ⟨b, off, none⟩) n cap])]) (by simp))
      have x1 := o1.2.1
      have x2 := o2.2.1
      have x3 := o3.2.1
      have y1 : 1 ≤ b' ∧ b' ≤ 1000000000 := ⟨o1.1.1, o1.2.2⟩
      have y2 : 1 ≤ d ∧ d ≤ 1000000000 := ⟨o2.1.1, o2.2.2⟩
      have y3 : 1 ≤ f ∧ f ≤ 1000000000 := ⟨o3.1.1, o3.2.2⟩
      clear o1 o2 o3 L1 L2 L3 L4
      have L4 := hide L4'.out
      clear L4'
      have n4 : (¬ w.heap.size + 1 = w4.heap.size) ∧ (¬ w4.heap.size = w.heap.size + 1) ∧ (¬ w.heap.size = w4.heap.size) ∧ (¬ w4.heap.size = w.heap.size) := ⟨by omega, by omega, by omega, by omega⟩
      go_upto_region 14 with fail
      go_cut [10, 11, 12] (fun s10 s11 s12 wx => ∃ g1 g2 : Nat, s10 = .pointer (some ⟨g1, 0, none⟩) ∧ s11 = .pointer (some ⟨g2, 0, none⟩) ∧ s12 = .int .i64 (scF e f den) ∧
        Hid (Lv w wx [(g2, 3, [.int .i64 (scF c d den)]), (g1, 3, [.int .i64 (scF a b' den)]), (w3.heap.size, 3, [.int .i64 den]), (w.heap.size + 1, 32, [.int .i64 a, .int .i64 b', .int .i64 c, .int .i64 d, .int .i64 e, .int .i64 f, .int .i64 p, .int .i64 q, .int .i64 r]), (w.heap.size, 22, [.slice (some ⟨b, off, none⟩) n cap])]))
      case first =>
        go_region_held3 (fun w' => (w'.cell? ⟨w.heap.size + 1, 0, none⟩ = some (.int .i64 a) ∧ w'.cell? ⟨w.heap.size + 1, 1, none⟩ = some (.int .i64 b')) ∧ (w'.cell? ⟨w.heap.size + 1, 2, none⟩ = some (.int .i64 c) ∧ w'.cell? ⟨w.heap.size + 1, 3, none⟩ = some (.int .i64 d)) ∧ (w'.cell? ⟨w.heap.size + 1, 4, none⟩ = some (.int .i64 e) ∧ w'.cell? ⟨w.heap.size + 1, 5, none⟩ = some (.int .i64 f)))
          (go_keep)
          (first | (go_at_call 33; (first | (first | (refine Lv.call (scaled1_lv L6.out (by simp) (by omega) (by omega) hdi) L6.out ?_; intro w7 L7'; have L7 := hide L7'; have F7 := L7'.at; clear L7'; simp only [AllAt, CellsAt, updL, List.map, Nat.zero_add, Nat.reduceAdd, and_true, World.size_alloc, World.heap_drewN, heap_drew, size_set, Nat.add_eq_left, Nat.left_eq_add, Nat.add_right_cancel_iff, ne_up2, ne_dn2, ne_up3, ne_dn3, ne_up4, ne_dn4, Nat.reduceEqDiff, Nat.one_ne_zero, Nat.succ_ne_zero, Nat.zero_ne_one, reduceIte, List.set_cons_zero, List.set_cons_succ] at F7; have n7 : (¬ w.heap.size + 1 = w7.heap.size) ∧ (¬ w7.heap.size = w.heap.size + 1) ∧ (¬ w.heap.size = w7.heap.size) ∧ (¬ w7.heap.size = w.heap.size) := ⟨by omega, by omega, by omega, by omega⟩) | (refine Lv.call (scaled1_lv (L6.out.put _ _) (by simp) (by omega) (by omega) hdi) (L6.out.put _ _) ?_; intro w7 L7'; have L7 := hide L7'; have F7 := L7'.at; clear L7'; simp only [AllAt, CellsAt, updL, List.map, Nat.zero_add, Nat.reduceAdd, and_true, World.size_alloc, World.heap_drewN, heap_drew, size_set, Nat.add_eq_left, Nat.left_eq_add, Nat.add_right_cancel_iff, ne_up2, ne_dn2, ne_up3, ne_dn3, ne_up4, ne_dn4, Nat.reduceEqDiff, Nat.one_ne_zero, Nat.succ_ne_zero, Nat.zero_ne_one, reduceIte, List.set_cons_zero, List.set_cons_succ] at F7; have n7 : (¬ w.heap.size + 1 = w7.heap.size) ∧ (¬ w7.heap.size = w.heap.size + 1) ∧ (¬ w.heap.size = w7.heap.size) ∧ (¬ w7.heap.size = w.heap.size) := ⟨by omega, by omega, by omega, by omega⟩) | (refine Lv.call (scaled1_lv ((L6.out.put _ _).put _ _) (by simp) (by omega) (by omega) hdi) ((L6.out.put _ _).put _ _) ?_; intro w7 L7'; have L7 := hide L7'; have F7 := L7'.at; clear L7'; simp only [AllAt, CellsAt, updL, List.map, Nat.zero_add, Nat.reduceAdd, and_true, World.size_alloc, World.heap_drewN, heap_drew, size_set, Nat.add_eq_left, Nat.left_eq_add, Nat.add_right_cancel_iff, ne_up2, ne_dn2, ne_up3, ne_dn3, ne_up4, ne_dn4, Nat.reduceEqDiff, Nat.one_ne_zero, Nat.succ_ne_zero, Nat.zero_ne_one, reduceIte, List.set_cons_zero, List.set_cons_succ] at F7; have n7 : (¬ w.heap.size + 1 = w7.heap.size) ∧ (¬ w7.heap.size = w.heap.size + 1) ∧ (¬ w.heap.size = w7.heap.size) ∧ (¬ w7.heap.size = w.heap.size) := ⟨by omega, by omega, by omega, by omega⟩)) | (first | (refine Lv.call (scaled1_lv L5.out (by simp) (by omega) (by omega) hdi) L5.out ?_; intro w6 L6'; have L6 := hide L6'; have F6 := L6'.at; clear L6'; simp only [AllAt, CellsAt, updL, List.map, Nat.zero_add, Nat.reduceAdd, and_true, World.size_alloc, World.heap_drewN, heap_drew, size_set, Nat.add_eq_left, Nat.left_eq_add, Nat.add_right_cancel_iff, ne_up2, ne_dn2, ne_up3, ne_dn3, ne_up4, ne_dn4, Nat.reduceEqDiff, Nat.one_ne_zero, Nat.succ_ne_zero, Nat.zero_ne_one, reduceIte, List.set_cons_zero, List.set_cons_succ] at F6; have n6 : (¬ w.heap.size + 1 = w6.heap.size) ∧ (¬ w6.heap.size = w.heap.size + 1) ∧ (¬ w.heap.size = w6.heap.size) ∧ (¬ w6.heap.size = w.heap.size) := ⟨by omega, by omega, by omega, by omega⟩) | (refine Lv.call (scaled1_lv (L5.out.put _ _) (by simp) (by omega) (by omega) hdi) (L5.out.put _ _) ?_; intro w6 L6'; have L6 := hide L6'; have F6 := L6'.at; clear L6'; simp only [AllAt, CellsAt, updL, List.map, Nat.zero_add, Nat.reduceAdd, and_true, World.size_alloc, World.heap_drewN, heap_drew, size_set, Nat.add_eq_left, Nat.left_eq_add, Nat.add_right_cancel_iff, ne_up2, ne_dn2, ne_up3, ne_dn3, ne_up4, ne_dn4, Nat.reduceEqDiff, Nat.one_ne_zero, Nat.succ_ne_zero, Nat.zero_ne_one, reduceIte, List.set_cons_zero, List.set_cons_succ] at F6; have n6 : (¬ w.heap.size + 1 = w6.heap.size) ∧ (¬ w6.heap.size = w.heap.size + 1) ∧ (¬ w.heap.size = w6.heap.size) ∧ (¬ w6.heap.size = w.heap.size) := ⟨by omega, by omega, by omega, by omega⟩) | (refine Lv.call (scaled1_lv ((L5.out.put _ _).put _ _) (by simp) (by omega) (by omega) hdi) ((L5.out.put _ _).put _ _) ?_; intro w6 L6'; have L6 := hide L6'; have F6 := L6'.at; clear L6'; simp only [AllAt, CellsAt, updL, List.map, Nat.zero_add, Nat.reduceAdd, and_true, World.size_alloc, World.heap_drewN, heap_drew, size_set, Nat.add_eq_left, Nat.left_eq_add, Nat.add_right_cancel_iff, ne_up2, ne_dn2, ne_up3, ne_dn3, ne_up4, ne_dn4, Nat.reduceEqDiff, Nat.one_ne_zero, Nat.succ_ne_zero, Nat.zero_ne_one, reduceIte, List.set_cons_zero, List.set_cons_succ] at F6; have n6 : (¬ w.heap.size + 1 = w6.heap.size) ∧ (¬ w6.heap.size = w.heap.size + 1) ∧ (¬ w.heap.size = w6.heap.size) ∧ (¬ w6.heap.size = w.heap.size) := ⟨by omega, by omega, by omega, by omega⟩)) | (first | (refine Lv.call (scaled1_lv (L4.out.drew) (by simp) (by omega) (by omega) hdi) (L4.out.drew) ?_; intro w5 L5'; have L5 := hide L5'; have F5 := L5'.at; clear L5'; simp only [AllAt, CellsAt, updL, List.map, Nat.zero_add, Nat.reduceAdd, and_true, World.size_alloc, World.heap_drewN, heap_drew, size_set, Nat.add_eq_left, Nat.left_eq_add, Nat.add_right_cancel_iff, ne_up2, ne_dn2, ne_up3, ne_dn3, ne_up4, ne_dn4, Nat.reduceEqDiff, Nat.one_ne_zero, Nat.succ_ne_zero, Nat.zero_ne_one, reduceIte, List.set_cons_zero, List.set_cons_succ] at F5; have n5 : (¬ w.heap.size + 1 = w5.heap.size) ∧ (¬ w5.heap.size = w.heap.size + 1) ∧ (¬ w.heap.size = w5.heap.size) ∧ (¬ w5.heap.size = w.heap.size) := ⟨by omega, by omega, by omega, by omega⟩) | (refine Lv.call (scaled1_lv ((L4.out.drew).put _ _) (by simp) (by omega) (by omega) hdi) ((L4.out.drew).put _ _) ?_; intro w5 L5'; have L5 := hide L5'; have F5 := L5'.at; clear L5'; simp only [AllAt, CellsAt, updL, List.map, Nat.zero_add, Nat.reduceAdd, and_true, World.size_alloc, World.heap_drewN, heap_drew, size_set, Nat.add_eq_left, Nat.left_eq_add, Nat.add_right_cancel_iff, ne_up2, ne_dn2, ne_up3, ne_dn3, ne_up4, ne_dn4, Nat.reduceEqDiff, Nat.one_ne_zero, Nat.succ_ne_zero, Nat.zero_ne_one, reduceIte, List.set_cons_zero, List.set_cons_succ] at F5; have n5 : (¬ w.heap.size + 1 = w5.heap.size) ∧ (¬ w5.heap.size = w.heap.size + 1) ∧ (¬ w.heap.size = w5.heap.size) ∧ (¬ w5.heap.size = w.heap.size) := ⟨by omega, by omega, by omega, by omega⟩) | (refine Lv.call (scaled1_lv (((L4.out.drew).put _ _).put _ _) (by simp) (by omega) (by omega) hdi) (((L4.out.drew).put _ _).put _ _) ?_; intro w5 L5'; have L5 := hide L5'; have F5 := L5'.at; clear L5'; simp only [AllAt, CellsAt, updL, List.map, Nat.zero_add, Nat.reduceAdd, and_true, World.size_alloc, World.heap_drewN, heap_drew, size_set, Nat.add_eq_left, Nat.left_eq_add, Nat.add_right_cancel_iff, ne_up2, ne_dn2, ne_up3, ne_dn3, ne_up4, ne_dn4, Nat.reduceEqDiff, Nat.one_ne_zero, Nat.succ_ne_zero, Nat.zero_ne_one, reduceIte, List.set_cons_zero, List.set_cons_succ] at F5; have n5 : (¬ w.heap.size + 1 = w5.heap.size) ∧ (¬ w5.heap.size = w.heap.size + 1) ∧ (¬ w.heap.size = w5.heap.size) ∧ (¬ w5.heap.size = w.heap.size) := ⟨by omega, by omega, by omega, by omega⟩)))) | fail)
        all_goals
          go_wp2_with fail
          go_meet
          refine ⟨_, _, rfl, rfl, rfl, hide ?_⟩
        all_goals
          refine ⟨?_, fun x hx => ?_⟩
          · repeat (first | with_reducible exact L7.out.below | refine Below.setCell ?_ (by first | omega | (simp; done) | (simp; omega)) _ | refine Below.alloc ?_ (by first | omega | (simp; done) | (simp; omega)) _)
          · simp only [List.mem_cons, List.not_mem_nil, or_false] at hx
            rcases hx with rfl | rfl | rfl | rfl | rfl
            all_goals
              repeat (first | (with_reducible refine L7.out.get ?_; simp; done) | (with_reducible refine Blk.new _ _ _ _ ?_; simp; done) | with_reducible refine Blk.set0 ?_ | (with_reducible refine Blk.far ?_ ?_ _; rotate_left; (first | omega | (focus (simp; done)) | (focus (simp; omega)))) | with_reducible refine Blk.alloc ?_ _)
      case rest =>
        obtain ⟨g1, g2, rfl, rfl, rfl, L5⟩ := hcut
        obtain ⟨v1, hv1⟩ : ∃ v : World, v = wc := ⟨_, rfl⟩
        subst hv1
        obtain ⟨_, hS0, hS1⟩ := scF_in x1 y1.1 hdi
        obtain ⟨_, hK0, hK1⟩ := scF_in x2 y2.1 hdi
        obtain ⟨_, hM0, hM1⟩ := scF_in x3 y3.1 hdi
        obtain ⟨S, hSe⟩ : ∃ x, x = scF a b' den := ⟨_, rfl⟩
        obtain ⟨K, hKe⟩ : ∃ x, x = scF c d den := ⟨_, rfl⟩
        obtain ⟨M, hMe⟩ : ∃ x, x = scF e f den := ⟨_, rfl⟩
        rw [← hSe] at hS0 hS1 HR L5
        rw [← hKe] at hK0 hK1 HR L5
        rw [← hMe] at hM0 hM1 HR ⊢
        have hpr : prI n p ∧ prI n q ∧ prI n r := by
          have h := HP0.out
          unfold prE at h
          split at h
          · rename_i hh; exact hh
          · omega
        unfold prI at hpr
        clear hSe hKe hMe x1 x2 x3 y1 y2 y3 n4 L4 F4 HP0
        have F5 := L5.out.at
        have F5 := L5.out.at
        simp only [AllAt, CellsAt, updL, List.map, Nat.zero_add, Nat.reduceAdd, and_true, World.size_alloc, World.heap_drewN, heap_drew, size_set, Nat.add_eq_left, Nat.left_eq_add, Nat.add_right_cancel_iff, ne_up2, ne_dn2, ne_up3, ne_dn3, ne_up4, ne_dn4, Nat.reduceEqDiff, Nat.one_ne_zero, Nat.succ_ne_zero, Nat.zero_ne_one, reduceIte, List.set_cons_zero, List.set_cons_succ] at F5
        have hn60 : n ≤ 60 := by have := HOK.out.sixty; rw [HN.out] at this; exact this
        have c1 : v1.cell? ⟨w.heap.size, 0, none⟩ = some (.slice (some ⟨b, off, none⟩) n cap) := (L5.out.get (t := 22) (cs := [.slice (some ⟨b, off, none⟩) n cap]) (by simp)).cell 0
        have c2 : v1.cell? ⟨w3.heap.size, 0, none⟩ = some (.int .i64 den) := (L5.out.get (t := 3) (cs := [.int .i64 den]) (by simp)).cell 0
        have c3 : v1.cell? ⟨g1, 0, none⟩ = some (.int .i64 S) := (L5.out.get (t := 3) (cs := [.int .i64 S]) (by simp)).cell 0
        have c4 : v1.cell? ⟨g2, 0, none⟩ = some (.int .i64 K) := (L5.out.get (t := 3) (cs := [.int .i64 K]) (by simp)).cell 0
        have HQ := hide (fun (i : Nat) (hi : i < n) (m : Nat) => errorAt_any b off n cap i w.heap.size w3.heap.size g1 g2 ds den S K (v1.drewN m) hi (show b < v1.heap.size by omega) (HOK.out.inX i (by rw [HN.out]; exact hi)) (HOK.out.inY i (by rw [HN.out]; exact hi))
          ((L5.out.below.cell (by exact hb)).trans (HC.out i (by rw [HN.out]; exact hi)).1) ((L5.out.below.cell (by exact hb)).trans (HC.out i (by rw [HN.out]; exact hi)).2)
          c1 c2 c3 c4 hdi ⟨hS0, hS1⟩ ⟨hK0, hK1⟩)
        clear c1 c2 c3 c4
        go_wp2
        go_loopw [68] (fun i wr => ∃ k m : Nat, k ≤ n ∧ i = .int .i64 k ∧ Hid (∀ j, j < k → -M ≤ offL ds den S K j ∧ offL ds den S K j ≤ M) ∧ wr = v1.drewN m) (fun i _ => n - (intOf i).toNat)
        case atStart => exact ⟨0, 0, by omega, rfl, hide (fun j hj => by omega), rfl⟩
        case round =>
          obtain ⟨k, m, hk, rfl, HK, rfl⟩ := hrel
          by_cases hlt : k < n
          · have HU := hide (HQ.out k hlt)
            have hlt' : (k : Int) < (n : Int) := by omega
            obtain ⟨u, hu⟩ : ∃ u, u = offL ds den S K k := ⟨_, rfl⟩
            rw [← hu] at HU
            have HUE := hide hu
            clear hu
            by_cases hin : -M ≤ u ∧ u ≤ M
            · have HI := hide (inB_yes hin)
              have HK2 : Hid (∀ j, j < k + 1 → -M ≤ offL ds den S K j ∧ offL ds den S K j ≤ M) := hide (fun j hj => by
                rcases Nat.lt_or_ge j k with h | h
                · exact HK.out j h
                · obtain rfl : k = j := by omega
                  rw [← HUE.out]; exact hin)
              clear hin
              go_wp2_with fail
              refine (HU.out m).mono ?_
              rintro e w8 ⟨rfl, z, rfl⟩
              go_wp2_with fail
              refine Lv.same (within_all u M _ (by omega) (by omega)) ?_
              rw [HI.out]
              go_wp2
              go_roundw
              case rel => exact ⟨k + 1, m + z, by omega, by go_num, HK2, rfl⟩
              case measure => simp [intOf]; omega
            · have HI := hide (inB_no hin)
              have HR2 : Hid (lineE ds a b' c d e f p q r = 26) := HR.out.trans (if_pos (fun h => hin (by rw [HUE.out]; exact h k (by rw [HN.out]; exact hlt))))
              clear hin
              go_wp2_with fail
              refine (HU.out m).mono ?_
              rintro e w8 ⟨rfl, z, rfl⟩
              go_wp2_with fail
              refine Lv.same (within_all u M _ (by omega) (by omega)) ?_
              rw [HI.out]
              go_wp2
              go_ret
              exact ⟨ret_int HR2.out.symm, below_drewN L5.out.below _⟩
          · obtain rfl : n = k := by omega
            have hall : allIn ds den S K M := fun j hj => HK.out j (by rw [← HN.out]; exact hj)
            replace HR : Hid (lineE ds a b' c d e f p q r = if prOk ds den S K M p q r then 0 else 22) := HR.out.trans (if_neg (fun h => h hall))
            obtain ⟨P, rfl⟩ := Int.eq_ofNat_of_zero_le hpr.1.1
            obtain ⟨Q, rfl⟩ := Int.eq_ofNat_of_zero_le hpr.2.1.1
            obtain ⟨R, rfl⟩ := Int.eq_ofNat_of_zero_le hpr.2.2.1
            have hP : P < n := by omega
            have hQ : Q < n := by omega
            have hR : R < n := by omega
            have C1 := HQ.out P hP
            have C2 := HQ.out Q hQ
            have C3 := HQ.out R hR
            have oP := (offL_in (i := P) (HOK.out.inX P (by rw [HN.out]; exact hP)) (HOK.out.inY P (by rw [HN.out]; exact hP)) hdi ⟨hS0, hS1⟩ ⟨hK0, hK1⟩).2.2
            have oQ := (offL_in (i := Q) (HOK.out.inX Q (by rw [HN.out]; exact hQ)) (HOK.out.inY Q (by rw [HN.out]; exact hQ)) hdi ⟨hS0, hS1⟩ ⟨hK0, hK1⟩).2.2
            have oR := (offL_in (i := R) (HOK.out.inX R (by rw [HN.out]; exact hR)) (HOK.out.inY R (by rw [HN.out]; exact hR)) hdi ⟨hS0, hS1⟩ ⟨hK0, hK1⟩).2.2
            have HPO : Hid (prOk ds den S K M P Q R ↔ ((offL ds den S K P).natAbs : Int) = M ∧ offL ds den S K Q = -offL ds den S K P ∧ offL ds den S K R = offL ds den S K P) := Iff.rfl
            obtain ⟨u1, hu1⟩ : ∃ u, u = offL ds den S K P := ⟨_, rfl⟩
            obtain ⟨u2, hu2⟩ : ∃ u, u = offL ds den S K Q := ⟨_, rfl⟩
            obtain ⟨u3, hu3⟩ : ∃ u, u = offL ds den S K R := ⟨_, rfl⟩
            rw [← hu1] at C1 oP HPO
            rw [← hu2] at C2 oQ HPO
            rw [← hu3] at C3 oR HPO
            replace C1 := hide C1
            replace C2 := hide C2
            replace C3 := hide C3
            clear hu1 hu2 hu3 hall HK hlt hpr
            clear hP hQ hR
            by_cases hs : u1 < -u1
            · have HSZ : Hid ((u1.natAbs : Int) = -u1) := by show _ = _; omega
              by_cases k1 : -u1 = M
              · have f1 : ((-u1 : Int) != M) = false := by rw [bne_eq_false_iff_eq]; exact k1
                by_cases k2 : u2 = -u1
                · have f2 : ((u2 : Int) != -u1) = false := by rw [bne_eq_false_iff_eq]; exact k2
                  by_cases k3 : u3 = u1
                  · have f3 : ((u3 : Int) != u1) = false := by rw [bne_eq_false_iff_eq]; exact k3
                    have HR2 : Hid (lineE ds a b' c d e f P Q R = 0) := HR.out.trans (if_pos (HPO.out.2 ⟨by rw [HSZ.out]; exact k1, k2, k3⟩))
                    clear k1 k2 k3
                    clear HR HPO HSZ
                    go_wp2
                    go_quiet ((go_at_call 34; first | with_reducible exact still_draw C1.out | with_reducible exact still_draw C2.out | with_reducible exact still_draw C3.out | with_reducible exact still_draw0 C1.out | with_reducible exact still_draw0 C2.out | with_reducible exact still_draw0 C3.out))
                    go_wp2
                    go_ret
                    exact ⟨ret_int HR2.out.symm, below_drewN L5.out.below _⟩
                  · have f3 : ((u3 : Int) != u1) = true := by rw [bne_iff_ne]; exact k3
                    have HR2 : Hid (lineE ds a b' c d e f P Q R = 22) := HR.out.trans (if_neg (fun h => k3 (HPO.out.1 h).2.2))
                    clear k1 k2 k3
                    clear HR HPO HSZ
                    go_wp2
                    go_quiet ((go_at_call 34; first | with_reducible exact still_draw C1.out | with_reducible exact still_draw C2.out | with_reducible exact still_draw C3.out | with_reducible exact still_draw0 C1.out | with_reducible exact still_draw0 C2.out | with_reducible exact still_draw0 C3.out))
                    go_wp2
                    go_ret
                    exact ⟨ret_int HR2.out.symm, below_drewN L5.out.below _⟩
                · have f2 : ((u2 : Int) != -u1) = true := by rw [bne_iff_ne]; exact k2
                  have HR2 : Hid (lineE ds a b' c d e f P Q R = 22) := HR.out.trans (if_neg (fun h => k2 (HPO.out.1 h).2.1))
                  clear k1 k2
                  clear HR HPO HSZ
                  go_wp2
                  go_quiet ((go_at_call 34; first | with_reducible exact still_draw C1.out | with_reducible exact still_draw C2.out | with_reducible exact still_draw C3.out | with_reducible exact still_draw0 C1.out | with_reducible exact still_draw0 C2.out | with_reducible exact still_draw0 C3.out))
                  go_wp2
                  go_ret
                  exact ⟨ret_int HR2.out.symm, below_drewN L5.out.below _⟩
              · have f1 : ((-u1 : Int) != M) = true := by rw [bne_iff_ne]; exact k1
                have HR2 : Hid (lineE ds a b' c d e f P Q R = 22) := HR.out.trans (if_neg (fun h => k1 (by rw [← HSZ.out]; exact (HPO.out.1 h).1)))
                clear k1
                clear HR HPO HSZ
                go_wp2
                go_quiet ((go_at_call 34; first | with_reducible exact still_draw C1.out | with_reducible exact still_draw C2.out | with_reducible exact still_draw C3.out | with_reducible exact still_draw0 C1.out | with_reducible exact still_draw0 C2.out | with_reducible exact still_draw0 C3.out))
                go_wp2
                go_ret
                exact ⟨ret_int HR2.out.symm, below_drewN L5.out.below _⟩
            · have HSZ : Hid ((u1.natAbs : Int) = u1) := by show _ = _; omega
              by_cases k1 : u1 = M
              · have f1 : ((u1 : Int) != M) = false := by rw [bne_eq_false_iff_eq]; exact k1
                by_cases k2 : u2 = -u1
                · have f2 : ((u2 : Int) != -u1) = false := by rw [bne_eq_false_iff_eq]; exact k2
                  by_cases k3 : u3 = u1
                  · have f3 : ((u3 : Int) != u1) = false := by rw [bne_eq_false_iff_eq]; exact k3
                    have HR2 : Hid (lineE ds a b' c d e f P Q R = 0) := HR.out.trans (if_pos (HPO.out.2 ⟨by rw [HSZ.out]; exact k1, k2, k3⟩))
                    clear k1 k2 k3
                    clear HR HPO HSZ
                    go_wp2
                    go_quiet ((go_at_call 34; first | with_reducible exact still_draw C1.out | with_reducible exact still_draw C2.out | with_reducible exact still_draw C3.out | with_reducible exact still_draw0 C1.out | with_reducible exact still_draw0 C2.out | with_reducible exact still_draw0 C3.out))
                    go_wp2
                    go_ret
                    exact ⟨ret_int HR2.out.symm, below_drewN L5.out.below _⟩
                  · have f3 : ((u3 : Int) != u1) = true := by rw [bne_iff_ne]; exact k3
                    have HR2 : Hid (lineE ds a b' c d e f P Q R = 22) := HR.out.trans (if_neg (fun h => k3 (HPO.out.1 h).2.2))
                    clear k1 k2 k3
                    clear HR HPO HSZ
                    go_wp2
                    go_quiet ((go_at_call 34; first | with_reducible exact still_draw C1.out | with_reducible exact still_draw C2.out | with_reducible exact still_draw C3.out | with_reducible exact still_draw0 C1.out | with_reducible exact still_draw0 C2.out | with_reducible exact still_draw0 C3.out))
                    go_wp2
                    go_ret
                    exact ⟨ret_int HR2.out.symm, below_drewN L5.out.below _⟩
                · have f2 : ((u2 : Int) != -u1) = true := by rw [bne_iff_ne]; exact k2
                  have HR2 : Hid (lineE ds a b' c d e f P Q R = 22) := HR.out.trans (if_neg (fun h => k2 (HPO.out.1 h).2.1))
                  clear k1 k2
                  clear HR HPO HSZ
                  go_wp2
                  go_quiet ((go_at_call 34; first | with_reducible exact still_draw C1.out | with_reducible exact still_draw C2.out | with_reducible exact still_draw C3.out | with_reducible exact still_draw0 C1.out | with_reducible exact still_draw0 C2.out | with_reducible exact still_draw0 C3.out))
                  go_wp2
                  go_ret
                  exact ⟨ret_int HR2.out.symm, below_drewN L5.out.below _⟩
              · have f1 : ((u1 : Int) != M) = true := by rw [bne_iff_ne]; exact k1
                have HR2 : Hid (lineE ds a b' c d e f P Q R = 22) := HR.out.trans (if_neg (fun h => k1 (by rw [← HSZ.out]; exact (HPO.out.1 h).1)))
                clear k1
                clear HR HPO HSZ
                go_wp2
                go_quiet ((go_at_call 34; first | with_reducible exact still_draw C1.out | with_reducible exact still_draw C2.out | with_reducible exact still_draw C3.out | with_reducible exact still_draw0 C1.out | with_reducible exact still_draw0 C2.out | with_reducible exact still_draw0 C3.out))
                go_wp2
                go_ret
                exact ⟨ret_int HR2.out.symm, below_drewN L5.out.below _⟩
    · have HR2 : Hid (lineE ds a b' c d e f p q r = prE n p q r) := HR.out.trans (if_pos hp0)
      have b2 : (prE n p q r != 0) = true := by rw [bne_iff_ne]; exact hp0
      clear HR hp0 o1 o2 o3
      have L0 := hide (Lv.start w)
      go_enter Try.func15, Try.ntmps15
      go_wp2_with fail
      refine Lv.call (checkDots_any _ n cap ds _ HN.out (by simpa using HDS.out)) ((L0.out.put _ _).put _ _) ?_
      intro w1 L1'
      have L1 := hide L1'
      have F1 := L1'.at
      clear L1'
      simp only [AllAt, CellsAt, updL, List.map, Nat.zero_add, Nat.reduceAdd, and_true, World.size_alloc, World.heap_drewN, heap_drew, size_set, Nat.add_eq_left, Nat.left_eq_add, Nat.add_right_cancel_iff, ne_up2, ne_dn2, ne_up3, ne_dn3, ne_up4, ne_dn4, Nat.reduceEqDiff, Nat.one_ne_zero, Nat.succ_ne_zero, Nat.zero_ne_one, reduceIte, List.set_cons_zero, List.set_cons_succ] at F1
      rw [HE.out]
      go_wp2_with fail
      refine Lv.call (checkFracsL_any w1.heap.size 0 3 3 (fr3 a b' c d e f) _ rfl (by omega) (by simp) (frcs3 (Blk.new _ _ _ _ (by simp))) HIN.out) (L1.out.put _ _) ?_
      intro w2 L2'
      have L2 := hide L2'
      have F2 := L2'.at
      clear L2' F1
      simp only [AllAt, CellsAt, updL, List.map, Nat.zero_add, Nat.reduceAdd, and_true, World.size_alloc, World.heap_drewN, heap_drew, size_set, Nat.add_eq_left, Nat.left_eq_add, Nat.add_right_cancel_iff, ne_up2, ne_dn2, ne_up3, ne_dn3, ne_up4, ne_dn4, Nat.reduceEqDiff, Nat.one_ne_zero, Nat.succ_ne_zero, Nat.zero_ne_one, reduceIte, List.set_cons_zero, List.set_cons_succ] at F2
      rw [HF.out]
      go_wp2_with fail
      refine Lv.call (commonDenL_any 40000 w2.heap.size 0 3 3 (fr3 a b' c d e f) _ (by omega) rfl (by omega) (by simp) (frcs3 (Blk.new _ _ _ _ (by simp))) HDEN.out) (L2.out.put _ _) ?_
      intro w3 L3'
      have L3 := hide L3'
      have F3 := L3'.at
      clear L3' F2
      simp only [AllAt, CellsAt, updL, List.map, Nat.zero_add, Nat.reduceAdd, and_true, World.size_alloc, World.heap_drewN, heap_drew, size_set, Nat.add_eq_left, Nat.left_eq_add, Nat.add_right_cancel_iff, ne_up2, ne_dn2, ne_up3, ne_dn3, ne_up4, ne_dn4, Nat.reduceEqDiff, Nat.one_ne_zero, Nat.succ_ne_zero, Nat.zero_ne_one, reduceIte, List.set_cons_zero, List.set_cons_succ] at F3
      rw [HDE.out]
      go_wp2_with fail
      refine Lv.call (checkProof_any n p q r _) (L3.out.put _ _) ?_
      intro w4 L4'
      have L4 := hide L4'
      have F4 := L4'.at
      clear L4' F3
      simp only [AllAt, CellsAt, updL, List.map, Nat.zero_add, Nat.reduceAdd, and_true, World.size_alloc, World.heap_drewN, heap_drew, size_set, Nat.add_eq_left, Nat.left_eq_add, Nat.add_right_cancel_iff, ne_up2, ne_dn2, ne_up3, ne_dn3, ne_up4, ne_dn4, Nat.reduceEqDiff, Nat.one_ne_zero, Nat.succ_ne_zero, Nat.zero_ne_one, reduceIte, List.set_cons_zero, List.set_cons_succ] at F4
      go_wp2
      go_ret
      refine ⟨ret_int HR2.out.symm, ?_⟩
      repeat (first | (with_reducible exact L4.out.below) | refine Below.setCell ?_ (by first | omega | (simp; done) | (simp; omega)) _ | refine Below.alloc ?_ (by first | omega | (simp; done) | (simp; omega)) _ | refine below_drewN ?_ _ | refine Below.drew ?_)
end Go.Proofs.Ytjomcobhinnikaa
