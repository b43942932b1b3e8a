/- The contract of number.Enclose: the whole numbers next to a multiple of a pitch. -/
import Derived.Test.YtjomcobhinnikaaAgainst
import Derived.Test.YtjomcobhinnikaaGreatest
import Derived.Laws.EntriesVeiled
namespace Go.Proofs.Ytjomcobhinnikaa
open Go.RowKit

/-- What holds while Enclose looks for the greatest number: block ba holds the function value, block br the result. -/
structure AskInv (w0 : World) (base bp bf bg bx ba br : Nat) (a b c : Int) (d F G : Nat) (W : World) : Prop where
  asked : Asked W base bp bf bg bx a b c d F G
  below : Below w0.heap.size w0 W
  size : base ≤ W.heap.size
  fn : Blk W ba 70 #[.func (.func 51) #[] #[.pointer (some ⟨bp, 0, none⟩), .pointer (some ⟨bf, 0, none⟩), .pointer (some ⟨bx, 0, none⟩), .pointer (some ⟨bg, 0, none⟩)]]
  res : Blk W br 47 #[.int .i64 0, .int .i64 0]

theorem AskInv.next {w0 W W' : World} {base bp bf bg bx ba br d F G : Nat} {a b c : Int} (h : AskInv w0 base bp bf bg bx ba br a b c d F G W) (ha : Asked W' base bp bf bg bx a b c d F G) (hb : Below w0.heap.size W W') (hk : Keeps W W') :
    AskInv w0 base bp bf bg bx ba br a b c d F G W' :=
  ⟨ha, h.below.trans hb, Nat.le_trans h.size hb.size, hk _ _ _ (by decide) (by decide) h.fn, hk _ _ _ (by decide) (by decide) h.res⟩

/-- Is the number's multiple of a power at most the goal? -/
def notAbove (d F G : Nat) (n : Int) : Bool := decide (F * n.toNat ^ d ≤ G)
theorem cmpI_le (N M : Nat) : decide (cmpI N M ≤ 0) = decide (N ≤ M) := by
  rcases Nat.lt_trichotomy N M with h | rfl | h
  · rw [cmpI_lt h]; simp; omega
  · rw [cmpI_eq]; simp
  · rw [cmpI_gt h]; simp; omega

set_option maxHeartbeats 400000 in
theorem ask_any (w0 : World) (base bp bf bg bx ba br : Nat) (a b c : Int) (d F G : Nat) (hF : 1 ≤ F) (hG : 1 ≤ G) (hd : d ≤ 12) (hB : w0.heap.size ≤ base) (hBp : w0.heap.size ≤ bp)
    (n : Int) (W : World) (h0 : 0 ≤ n) (hn : n ≤ 1000000000000000) (h : AskInv w0 base bp bf bg bx ba br a b c d F G W) :
    Calls Try.prog 40 #[.int .i64 n, .pointer (some ⟨ba, 0, none⟩)] W fun e W' => e = .returned (.bool (notAbove d F G n)) ∧ AskInv w0 base bp bf bg bx ba br a b c d F G W' := by
  obtain ⟨m, rfl⟩ := Int.eq_ofNat_of_zero_le h0
  have q := h.fn.c1.1
  have H := hide h
  clear h
  go_enter Try.func40, Try.ntmps40
  go_wp2_with (go_at_call 51; refine (asked_any w0.heap.size base bp bf bg bx a b c d F G m _ H.out.asked hF hG hd (by omega) hB hBp H.out.size).mono ?_; rintro e w' ⟨rfl, ha, hb, hk⟩; have HN := hide (H.out.next ha hb hk); clear ha hb hk)
  go_ret
  exact ⟨ret_bool (by rw [cmpI_le]; rfl), HN.out⟩

theorem Asked.alloc {w : World} {base bp bf bg bx d F G : Nat} {a b c : Int} (h : Asked w base bp bf bg bx a b c d F G) (o : Obj) : Asked (w.alloc o) base bp bf bg bx a b c d F G := by
  obtain ⟨⟨A, n, cap, vf, vg, ps, hp, hf, hg, hop, hof, hog, hne1, hne2⟩, hx, hpf, hpg⟩ := h
  exact ⟨⟨A, n, cap, vf, vg, ps, hp.alloc o, hf.alloc o, hg.alloc o, hop.alloc o, hof.alloc o, hog.alloc o, hne1, hne2⟩, hx.alloc o, hpf, hpg⟩

theorem tdiv_le {a : Int} {g : Nat} {B : Int} (hB : 0 ≤ B) (h : -B ≤ a ∧ a ≤ B) : -B ≤ a.tdiv g ∧ a.tdiv g ≤ B := by
  have e : (a.tdiv g).natAbs = a.natAbs / (g : Int).natAbs := Int.natAbs_tdiv a g
  have l := Nat.div_le_self a.natAbs (g : Int).natAbs
  omega
theorem fit_of_ok {a b c d : Int} (h : okP a b c d) : fitP a b c d := by
  obtain ⟨hd, ha, hb, hc⟩ := h
  have hg := gcdP_pos (a := a) (b := b) (c := c) hd.1
  have hl := gcdP_le (a := a) (b := b) (c := c) hd.1
  refine ⟨⟨?_, ?_⟩, tdiv_le (by omega) ha, tdiv_le (by omega) hb, tdiv_le (by omega) hc⟩
  · rw [Int.le_ediv_iff_mul_le (by omega)]; omega
  · have := Int.ediv_le_self (gcdP a b c d : Int) (a := d) (by omega); omega
theorem parts_ok {a b c d : Int} (h : okP a b c d) : okP (p2 a b c d) (p3 a b c d) (p5 a b c d) (pd a b c d) ∧ pe a b c d = 0 := by
  have hf := fit_of_ok h
  unfold p2 p3 p5 pd pe
  rw [if_pos hf, if_pos hf, if_pos hf, if_pos hf, if_pos hf]
  exact ⟨hf, rfl⟩

/-- Behind greatest: the greatest number that is not above. -/
theorem great_facts {low : Int} {d F G : Nat} {r : Int} (hd : 1 ≤ d) (h0 : 0 ≤ r) (hl : low = 0) (h1 : low < r → notAbove d F G r = true) (h2 : r < 1000000000000000 → notAbove d F G (r + 1) = false) :
    ∃ n : Nat, r = n ∧ F * n ^ d ≤ G ∧ (n < 1000000000000000 → G < F * (n + 1) ^ d) := by
  obtain ⟨n, rfl⟩ := Int.eq_ofNat_of_zero_le h0
  refine ⟨n, rfl, ?_, fun h => ?_⟩
  · rcases Nat.eq_zero_or_pos n with rfl | hn
    · rw [Nat.zero_pow (by omega), Nat.mul_zero]; exact Nat.zero_le _
    · have := h1 (by omega)
      simpa [notAbove] using this
  · have := h2 (by omega)
    have e : ((n : Int) + 1).toNat = n + 1 := by omega
    simpa [notAbove, e] using this
theorem cmpI_zero {N M : Nat} (h : N = M) : ((cmpI N M) == 0) = true := by subst h; rw [cmpI_eq]; rfl
theorem cmpI_nonzero {N M : Nat} (h : N ≠ M) : ((cmpI N M) == 0) = false := by
  rcases Nat.lt_or_gt_of_ne h with h | h
  · rw [cmpI_lt h]; rfl
  · rw [cmpI_gt h]; rfl

/-- What Enclose answers: F, G and d are such that n is at most the multiple just if F n^d is at most G. -/
def EncloseDone (w : World) (d F G : Nat) (e : Ending) (w' : World) : Prop :=
  Below w.heap.size w w' ∧ ∃ n : Nat, n ≤ 1000000000000000 ∧ F * n ^ d ≤ G ∧ (n < 1000000000000000 → G < F * (n + 1) ^ d) ∧
    ((F * n ^ d = G ∧ e = .returned (.tuple #[.agg #[.int .i64 n, .int .i64 n], .int .i64 0])) ∨
     (F * n ^ d ≠ G ∧ n < 1000000000000000 ∧ e = .returned (.tuple #[.agg #[.int .i64 n, .int .i64 ((n : Int) + 1)], .int .i64 0])) ∨
     (F * n ^ d ≠ G ∧ n = 1000000000000000 ∧ e = .returned (.tuple #[.agg #[.int .i64 0, .int .i64 0], .int .i64 8])))

set_option maxHeartbeats 1000000 in
set_option maxRecDepth 100000 in
theorem enclose_core (a b c d x2 x3 x5 : Int) (D T : Nat) (w : World) (h : okP a b c d) (h2 : p2 a b c d = x2) (h3 : p3 a b c d = x3) (h5 : p5 a b c d = x5) (hD : pd a b c d = D) (hT1 : 1 ≤ T) (hT : T ≤ 1000000000) :
    Calls Try.prog 17 #[.agg #[.int .i64 a, .int .i64 b, .int .i64 c, .int .i64 d], .int .i64 T] w (EncloseDone w D (dnTo x2 x3 x5 3) (upTo x2 x3 x5 3 * T ^ D)) := by
  have hmf : ∀ (fn : Fn) (first cap : Array Value) (w : World), (Instr.makeFunc fn first cap).run Try.prog w = .ok (.func fn first cap) w := fun _ _ _ _ => rfl
  obtain ⟨hok, hpe⟩ := parts_ok h
  rw [h2, h3, h5, hD] at hok
  obtain ⟨⟨hD1, hD2⟩, ha, hb, hc⟩ := hok
  unfold okE at ha hb hc
  have H2 := hide h2
  have H3 := hide h3
  have H5 := hide h5
  have HD := hide hD
  have HE := hide hpe
  clear h2 h3 h5 hD hpe
  go_enter Try.func17, Try.ntmps17
  go_wp2_with fail
  refine (normal_good a b c d _ h).mono ?_
  rintro e w1 ⟨rfl, hb1⟩
  rw [H2.out, H3.out, H5.out, HD.out, HE.out]
  have B1 : Hid (Blk w1 w.heap.size 51 #[.int .i64 a, .int .i64 b, .int .i64 c, .int .i64 d]) := ((Blk.new w _ _ _ rfl).alloc _).kept hb1
  have R1 : Hid (Blk w1 (w.heap.size + 1) 47 #[.int .i64 0, .int .i64 0]) := (Blk.new (w.alloc _) _ _ _ (by simp)).kept hb1
  have HL1 : Hid (Below w.heap.size w w1) := (below_two w _ _).trans (hb1.mono (by simp; omega))
  clear hb1 H2 H3 H5 HD HE
  have q1 := B1.out.c4
  go_wp2_with fail
  refine (against_any x2 x3 x5 D T _ (by omega) (by omega) (by omega) (by omega) hT1 hT).mono ?_
  rintro e w3 ⟨bp, bf, bx, bg, rfl, HA, hbp, hb3⟩
  have HL2 : Hid (Below w.heap.size w ((((w1.setCell ⟨w.heap.size, 0, none⟩ (.int .i64 x2)).setCell ⟨w.heap.size, 1, none⟩ (.int .i64 x3)).setCell ⟨w.heap.size, 2, none⟩ (.int .i64 x5)).setCell ⟨w.heap.size, 3, none⟩ (.int .i64 D))) := by
    repeat (first | exact HL1.out | refine Below.setCell ?_ (by simp) _)
  have R2 : Hid (Blk ((((w1.setCell ⟨w.heap.size, 0, none⟩ (.int .i64 x2)).setCell ⟨w.heap.size, 1, none⟩ (.int .i64 x3)).setCell ⟨w.heap.size, 2, none⟩ (.int .i64 x5)).setCell ⟨w.heap.size, 3, none⟩ (.int .i64 D)) (w.heap.size + 1) 47 #[.int .i64 0, .int .i64 0]) := by
    repeat (first | exact R1.out | refine Blk.far ?_ (by simp) _)
  have R3 := hide (R2.out.kept hb3)
  simp only [size_set] at HA hbp hb3
  have HL3 := hide (HL2.out.trans (hb3.mono HL1.out.size))
  have hs3 : w1.heap.size ≤ w3.heap.size := by have := hb3.size; simpa only [size_set] using this
  have HI : Hid (AskInv w w1.heap.size bp bf bg bx w3.heap.size (w.heap.size + 1) x2 x3 x5 D (dnTo x2 x3 x5 3) (upTo x2 x3 x5 3 * T ^ D) (w3.alloc (.cells #[.func (.func 51) #[] #[.pointer (some ⟨bp, 0, none⟩), .pointer (some ⟨bf, 0, none⟩), .pointer (some ⟨bx, 0, none⟩), .pointer (some ⟨bg, 0, none⟩)]] 70))) :=
    ⟨HA.alloc _, HL3.out.alloc HL3.out.size _, by simp; omega, Blk.new _ _ _ _ rfl, R3.out.alloc _⟩
  have hs1 := HL1.out.size
  have HBP : Hid (w.heap.size ≤ bp) := Nat.le_trans hs1 hbp
  have hF := dnTo_pos x2 x3 x5 3
  have hG : 1 ≤ upTo x2 x3 x5 3 * T ^ D := Nat.mul_pos (upTo_pos x2 x3 x5 3) (Nat.pow_pos hT1)
  obtain ⟨F, hFe⟩ : ∃ F, F = dnTo x2 x3 x5 3 := ⟨_, rfl⟩
  obtain ⟨G, hGe⟩ : ∃ G, G = upTo x2 x3 x5 3 * T ^ D := ⟨_, rfl⟩
  rw [← hFe, ← hGe] at HI ⊢
  rw [← hFe] at hF
  rw [← hGe] at hG
  have FE := hide hFe
  have GE := hide hGe
  clear HA hbp hb3 HL2 HL3 R1 R2 R3 B1 HL1 hFe hGe q1
  go_wp2_with fail
  refine (greatest_any 40 #[.pointer (some ⟨w3.heap.size, 0, none⟩)] (AskInv w w1.heap.size bp bf bg bx w3.heap.size (w.heap.size + 1) x2 x3 x5 D F G) (notAbove D F G) 0 1000000000000000 _ (by omega) (by omega) (by omega) HI.out
    (enters_of Try.func40 (by kernel_rfl) rfl) (fun n W g1 g2 g3 => ask_any w w1.heap.size bp bf bg bx w3.heap.size (w.heap.size + 1) x2 x3 x5 D F G hF hG (by omega) hs1 HBP.out n W (by omega) g2 g3)).mono ?_
  rintro e w5 ⟨r, rfl, g1, g2, g3, g4, hI⟩
  obtain ⟨n, rfl, hn1, hn2⟩ := great_facts (by omega : 1 ≤ D) g1 rfl g3 g4
  have HN1 := hide hn1
  have HN2 := hide hn2
  have HJ := hide hI
  have q5 := hI.fn.c1.1
  have hn0 : n ≤ 1000000000000000 := by omega
  clear g1 g2 g3 g4 hI hn1 hn2
  go_wp2_with fail
  refine (asked_any w.heap.size w1.heap.size bp bf bg bx x2 x3 x5 D F G n _ HJ.out.asked hF hG (by omega) hn0 hs1 HBP.out HJ.out.size).mono ?_
  rintro e w6 ⟨rfl, ha6, hb6, hk6⟩
  have HK := hide (HJ.out.next ha6 hb6 hk6)
  clear ha6 hb6 hk6 HJ q5
  obtain ⟨⟨q0, q1⟩, f0, f1⟩ := HK.out.res.c2
  by_cases heq : F * n ^ D = G
  · have HE := hide heq
    have hc := cmpI_zero heq
    clear heq
    go_wp2
    refine bodyPost_ret (v := .tuple #[.agg #[.int .i64 n, .int .i64 n], .int .i64 0]) (by simp [results, Try.results17, go_sem, q0, q1]) rfl ⟨?_, n, hn0, ?_⟩
    · repeat (first | exact HK.out.below | refine Below.setCell ?_ (by simp) _)
    · rw [← FE.out, ← GE.out]; exact ⟨HN1.out, HN2.out, .inl ⟨HE.out, rfl⟩⟩
  · have HE := hide heq
    have hc := cmpI_nonzero heq
    clear heq
    by_cases hm : n = 1000000000000000
    · have hm1 : ((n : Int) == 1000000000000000) = true := by rw [beq_iff_eq]; omega
      have HM := hide hm
      clear hm
      go_wp2
      refine bodyPost_ret (v := .tuple #[.agg #[.int .i64 0, .int .i64 0], .int .i64 8]) (by simp [results, Try.results17, go_sem, q0, q1]) rfl ⟨?_, n, hn0, ?_⟩
      · repeat (first | exact HK.out.below | refine Below.setCell ?_ (by simp) _)
      · rw [← FE.out, ← GE.out]; exact ⟨HN1.out, HN2.out, .inr (.inr ⟨HE.out, HM.out, rfl⟩)⟩
    · have hm1 : ((n : Int) == 1000000000000000) = false := by rw [beq_eq_false_iff_ne]; omega
      have hm2 : n < 1000000000000000 := by omega
      clear hm
      go_wp2
      refine bodyPost_ret (v := .tuple #[.agg #[.int .i64 n, .int .i64 ((n : Int) + 1)], .int .i64 0]) (by simp [results, Try.results17, go_sem, q0, q1]) rfl ⟨?_, n, hn0, ?_⟩
      · repeat (first | exact HK.out.below | refine Below.setCell ?_ (by simp) _)
      · rw [← FE.out, ← GE.out]; exact ⟨HN1.out, HN2.out, .inr (.inl ⟨HE.out, hm2, rfl⟩)⟩
end Go.Proofs.Ytjomcobhinnikaa
