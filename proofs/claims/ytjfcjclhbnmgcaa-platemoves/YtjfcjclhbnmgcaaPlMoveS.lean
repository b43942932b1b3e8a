/- Moved forces: their sum, their balance; agrafferef03.Move for all numbers; agraffelaw03.same for equal rows. Every bound is a premise of the theorem that bears it. -/
import Derived.Test.YtjfcjclhbnmgcaaPlMoveR
import Derived.Test.YtjfcjclhbnmgcaaPlBalM
import Derived.BigQuiet
import Derived.Deep.QuietTactic
namespace Go.Proofs.Ytjfcjclhbnmgcaa
open Go.RowKit
set_option linter.unusedVariables false
set_option linter.unusedSimpArgs false

theorem mvTo_at {z : Nat → Nat → Int} {a b c : Int} : ∀ n, mvTo z a b c n = 0 → ∀ k, k < n → mvE z a b c k = 0
  | 0, _, k, hk => by omega
  | n + 1, h, k, hk => by
    rw [mvTo] at h
    by_cases h0 : mvTo z a b c n = 0
    · rw [if_pos h0] at h
      rcases Nat.lt_or_ge k n with h1 | h1
      · exact mvTo_at n h0 k h1
      · obtain rfl : k = n := by omega
        exact h
    · rw [if_neg h0] at h; exact absurd h h0
theorem mvTo_cases (z : Nat → Nat → Int) (a b c : Int) : ∀ n, mvTo z a b c n = 0 ∨ mvTo z a b c n = 2
  | 0 => Or.inl rfl
  | n + 1 => by
    rw [mvTo]
    split
    · exact mvE_cases z a b c n
    · rcases mvTo_cases z a b c n with h | h
      · exact absurd h ‹_›
      · exact Or.inr h
theorem wrap_near {x a : Int} (hx : -1000000 ≤ x ∧ x ≤ 1000000) (ha : -9223372036854775808 ≤ a ∧ a ≤ 9223372036854775807) (h : -1000000 ≤ IntKind.i64.wrap (x + a) ∧ IntKind.i64.wrap (x + a) ≤ 1000000) : IntKind.i64.wrap (x + a) = x + a := by
  rw [IntKind.wrap_i64] at h ⊢
  omega
structure MvIn (z : Nat → Nat → Int) (a b c : Int) (k : Nat) : Prop where
  f : FrcIn (mvd z a b c) k
  e0 : mvd z a b c k 0 = z k 0 + a
  e1 : mvd z a b c k 1 = z k 1 + b
  e2 : mvd z a b c k 2 = z k 2 + c
theorem mv_in {z : Nat → Nat → Int} {a b c : Int} {k : Nat} (hF : FrcIn z k) (h : mvE z a b c k = 0) (ha : -9223372036854775808 ≤ a ∧ a ≤ 9223372036854775807) (hb : -9223372036854775808 ≤ b ∧ b ≤ 9223372036854775807) (hc : -9223372036854775808 ≤ c ∧ c ≤ 9223372036854775807) : MvIn z a b c k := by
  obtain ⟨p0, p1, p2⟩ := place3 h
  exact ⟨⟨p0, p1, p2, hF.f0, hF.f1, hF.f2⟩, wrap_near hF.p0 ha p0, wrap_near hF.p1 hb p1, wrap_near hF.p2 hc p2⟩
theorem sumTo_same {z M : Nat → Nat → Int} {j n : Nat} (h : ∀ k, k < n → M k j = z k j) : ∀ k, k ≤ n → sumTo M j k = sumTo z j k
  | 0, _ => rfl
  | k + 1, hk => by rw [sumTo, sumTo, sumTo_same h k (by omega), h k (by omega)]
theorem momTo_same {z M : Nat → Nat → Int} {i j f g n : Nat} {p q : Int} (h : ∀ k, k < n → M k i = z k i + p ∧ M k j = z k j + q ∧ M k f = z k f ∧ M k g = z k g) : ∀ k, k ≤ n → momTo M i j f g 0 0 k = momTo z i j f g (-p) (-q) k
  | 0, _ => rfl
  | k + 1, hk => by
    obtain ⟨h1, h2, h3, h4⟩ := h k (by omega)
    rw [momTo, momTo, momTo_same h k (by omega), h1, h2, h3, h4, show z k i + p - 0 = z k i - -p by omega, show z k j + q - 0 = z k j - -q by omega]
theorem mom_nosum {z : Nat → Nat → Int} {i j f g n : Nat} {p q : Int} (h1 : sumTo z f n = 0) (h2 : sumTo z g n = 0) : momTo z i j f g p q n = momTo z i j f g 0 0 n := by
  rw [mom_shift, h1, h2]
  unfold cr
  simp
theorem mv_same {z : Nat → Nat → Int} {a b c : Int} {n : Nat} (h : ∀ k, k < n → MvIn z a b c k) : sum3 (mvd z a b c) n = sum3 z n ∧ balB (mvd z a b c) n = balB z n := by
  have s3 := sumTo_same (M := mvd z a b c) (z := z) (j := 3) (n := n) (fun k hk => rfl) n (Nat.le_refl _)
  have s4 := sumTo_same (M := mvd z a b c) (z := z) (j := 4) (n := n) (fun k hk => rfl) n (Nat.le_refl _)
  have s5 := sumTo_same (M := mvd z a b c) (z := z) (j := 5) (n := n) (fun k hk => rfl) n (Nat.le_refl _)
  refine ⟨by unfold sum3; rw [s3, s4, s5], ?_⟩
  have e0 : sum0 (mvd z a b c) n = sum0 z n := by unfold sum0; rw [s3, s4, s5]
  unfold balB
  rw [e0]
  by_cases hs : sum0 z n = true
  · have hs' := hs
    unfold sum0 eq3 at hs'
    obtain ⟨t3, t4, t5⟩ := of_decide_eq_true hs'
    have m0 := momTo_same (M := mvd z a b c) (z := z) (i := 1) (j := 2) (f := 4) (g := 5) (n := n) (p := b) (q := c) (fun k hk => ⟨(h k hk).e1, (h k hk).e2, rfl, rfl⟩) n (Nat.le_refl _)
    have m1 := momTo_same (M := mvd z a b c) (z := z) (i := 2) (j := 0) (f := 5) (g := 3) (n := n) (p := c) (q := a) (fun k hk => ⟨(h k hk).e2, (h k hk).e0, rfl, rfl⟩) n (Nat.le_refl _)
    have m2 := momTo_same (M := mvd z a b c) (z := z) (i := 0) (j := 1) (f := 3) (g := 4) (n := n) (p := a) (q := b) (fun k hk => ⟨(h k hk).e0, (h k hk).e1, rfl, rfl⟩) n (Nat.le_refl _)
    unfold mom0
    rw [m0, m1, m2, mom_nosum t4 t5, mom_nosum t5 t3, mom_nosum t3 t4]
  · have hs' : sum0 z n = false := by simpa using hs
    rw [hs', Bool.false_and, Bool.false_and]
/-- A new row of forces. -/
def MvYes (w : World) (n : Nat) (M : Nat → Nat → Int) (e : Ending) (w' : World) : Prop := ∃ A cap, e = .returned (.tuple #[.slice A n cap, .int .i64 0]) ∧ RowM 6 w' w'.heap.size A n M ∧ Below w.heap.size w w'
def MvNo (w : World) (e : Ending) (w' : World) : Prop := e = .returned (.tuple #[.slice none 0 0, .int .i64 2]) ∧ Below w.heap.size w w'
theorem plMove_yes (A : Option Addr) (n cap : Nat) (z : Nat → Nat → Int) (a b c : Int) (w : World) (hD : RowM 6 w w.heap.size A n z) (hE : frcE z n = 0) (hm : mvTo z a b c n = 0) :
    Calls Try.prog 29 #[.slice A n cap, .agg #[.int .i64 a, .int .i64 b, .int .i64 c]] w (MvYes w n (mvd z a b c)) :=
  (plMove_ok A n cap z a b c w hD hE).mono fun _ _ ⟨hb, h⟩ => by
    rcases h with ⟨_, g, he, hr⟩ | ⟨h2, _⟩
    · exact ⟨_, _, he, hr, hb⟩
    · omega
theorem plMove_no (A : Option Addr) (n cap : Nat) (z : Nat → Nat → Int) (a b c : Int) (w : World) (hD : RowM 6 w w.heap.size A n z) (hE : frcE z n = 0) (hm : mvTo z a b c n = 2) :
    Calls Try.prog 29 #[.slice A n cap, .agg #[.int .i64 a, .int .i64 b, .int .i64 c]] w (MvNo w) :=
  (plMove_ok A n cap z a b c w hD hE).mono fun _ _ ⟨hb, h⟩ => by
    rcases h with ⟨h2, _⟩ | ⟨_, he⟩
    · omega
    · exact ⟨he, hb⟩
set_option maxHeartbeats 4000000 in
set_option maxRecDepth 100000 in
theorem refMove_zero (A : Option Addr) (cap : Nat) (a b c : Int) (w : World) :
    Calls Try.prog 30 #[.slice A 0 cap, .agg #[.int .i64 a, .int .i64 b, .int .i64 c]] w fun e w' => e = .returned (.tuple #[.slice none 0 0, .int .i64 0]) ∧ Below w.heap.size w w' := by
  have L0 := hide (Lv.start w)
  go_enter Try.func30, Try.ntmps30
  go_wp2
  refine wp_loop_rounds 2 ?_
  rw [rounds_succ]
  go_wp2
  go_ret2
  exact ⟨rfl, (L0.out.put _ _).below⟩
set_option maxHeartbeats 4000000 in
set_option maxRecDepth 100000 in
theorem refMove_far (A : Option Addr) (n cap : Nat) (a b c : Int) (w : World) (hn : 0 < n) (h : ¬ (-2000000 ≤ a ∧ a ≤ 2000000) ∨ ¬ (-2000000 ≤ b ∧ b ≤ 2000000) ∨ ¬ (-2000000 ≤ c ∧ c ≤ 2000000)) :
    Calls Try.prog 30 #[.slice A n cap, .agg #[.int .i64 a, .int .i64 b, .int .i64 c]] w fun e w' => e = .returned (.tuple #[.slice none 0 0, .int .i64 2]) ∧ Below w.heap.size w w' := by
  have hn' : (0 : Int) < (n : Int) := by omega
  by_cases h0 : -2000000 ≤ a ∧ a ≤ 2000000
  · have J0 := hide (inR_yes (n := a) (lo := -2000000) (hi := 2000000) h0)
    by_cases h1 : -2000000 ≤ b ∧ b ≤ 2000000
    · have J1 := hide (inR_yes (n := b) (lo := -2000000) (hi := 2000000) h1)
      have h2 : ¬ (-2000000 ≤ c ∧ c ≤ 2000000) := by
        rcases h with h | h | h
        · exact absurd h0 h
        · exact absurd h1 h
        · exact h
      have J2 := hide (inR_no (n := c) (lo := -2000000) (hi := 2000000) h2)
      clear h h0 h1 h2
      have L0 := hide (Lv.start w)
      go_enter Try.func30, Try.ntmps30
      go_wp2
      refine wp_loop_rounds 2 ?_
      rw [rounds_succ]
      go_wp2
      refine wp_loop_rounds 4 ?_
      rw [rounds_succ]
      go_wp2_with fail
      refine Lv.same (within3_any a (-2000000) 2000000 _) ?_
      rw [J0.out]
      go_wp2
      rw [rounds_succ]
      go_wp2_with fail
      refine Lv.same (within3_any b (-2000000) 2000000 _) ?_
      rw [J1.out]
      go_wp2
      rw [rounds_succ]
      go_wp2_with fail
      refine Lv.same (within3_any c (-2000000) 2000000 _) ?_
      rw [J2.out]
      go_wp2
      go_ret2
      exact ⟨rfl, (L0.out.put _ _).below⟩
    · have J1 := hide (inR_no (n := b) (lo := -2000000) (hi := 2000000) h1)
      clear h h0 h1
      have L0 := hide (Lv.start w)
      go_enter Try.func30, Try.ntmps30
      go_wp2
      refine wp_loop_rounds 2 ?_
      rw [rounds_succ]
      go_wp2
      refine wp_loop_rounds 4 ?_
      rw [rounds_succ]
      go_wp2_with fail
      refine Lv.same (within3_any a (-2000000) 2000000 _) ?_
      rw [J0.out]
      go_wp2
      rw [rounds_succ]
      go_wp2_with fail
      refine Lv.same (within3_any b (-2000000) 2000000 _) ?_
      rw [J1.out]
      go_wp2
      go_ret2
      exact ⟨rfl, (L0.out.put _ _).below⟩
  · have J0 := hide (inR_no (n := a) (lo := -2000000) (hi := 2000000) h0)
    clear h h0
    have L0 := hide (Lv.start w)
    go_enter Try.func30, Try.ntmps30
    go_wp2
    refine wp_loop_rounds 2 ?_
    rw [rounds_succ]
    go_wp2
    refine wp_loop_rounds 4 ?_
    rw [rounds_succ]
    go_wp2_with fail
    refine Lv.same (within3_any a (-2000000) 2000000 _) ?_
    rw [J0.out]
    go_wp2
    go_ret2
    exact ⟨rfl, (L0.out.put _ _).below⟩
theorem refMove_yes (A : Option Addr) (n cap : Nat) (z : Nat → Nat → Int) (a b c : Int) (w : World) (hD : RowM 6 w w.heap.size A n z) (hn : n ≤ 305) (hF : ∀ k, k < n → FrcIn z k) (ha : -9223372036854775808 ≤ a ∧ a ≤ 9223372036854775807) (hb : -9223372036854775808 ≤ b ∧ b ≤ 9223372036854775807) (hc : -9223372036854775808 ≤ c ∧ c ≤ 9223372036854775807) (hm : mvTo z a b c n = 0) :
    Calls Try.prog 30 #[.slice A n cap, .agg #[.int .i64 a, .int .i64 b, .int .i64 c]] w (MvYes w n (mvd z a b c)) := by
  rcases Nat.eq_zero_or_pos n with h0 | h0
  · subst h0
    exact (refMove_zero A cap a b c w).mono fun _ _ ⟨he, hb⟩ => ⟨none, 0, he, fun h => by omega, hb⟩
  · by_cases hR : ¬ (-2000000 ≤ a ∧ a ≤ 2000000) ∨ ¬ (-2000000 ≤ b ∧ b ≤ 2000000) ∨ ¬ (-2000000 ≤ c ∧ c ≤ 2000000)
    · have := mv_far (hF 0 h0) ha hb hc hR h0
      omega
    · refine (refMove_in A n cap z a b c w hD hn hF (by omega) (by omega) (by omega)).mono fun _ _ ⟨hb, h⟩ => ?_
      rcases h with ⟨_, A', cp, he, hr⟩ | ⟨h2, _⟩
      · exact ⟨A', cp, he, hr, hb⟩
      · omega
theorem refMove_no (A : Option Addr) (n cap : Nat) (z : Nat → Nat → Int) (a b c : Int) (w : World) (hD : RowM 6 w w.heap.size A n z) (hn : n ≤ 305) (hF : ∀ k, k < n → FrcIn z k) (ha : -9223372036854775808 ≤ a ∧ a ≤ 9223372036854775807) (hb : -9223372036854775808 ≤ b ∧ b ≤ 9223372036854775807) (hc : -9223372036854775808 ≤ c ∧ c ≤ 9223372036854775807) (hm : mvTo z a b c n = 2) :
    Calls Try.prog 30 #[.slice A n cap, .agg #[.int .i64 a, .int .i64 b, .int .i64 c]] w (MvNo w) := by
  rcases Nat.eq_zero_or_pos n with h0 | h0
  · subst h0
    have : mvTo z a b c 0 = 0 := rfl
    omega
  · by_cases hR : ¬ (-2000000 ≤ a ∧ a ≤ 2000000) ∨ ¬ (-2000000 ≤ b ∧ b ≤ 2000000) ∨ ¬ (-2000000 ≤ c ∧ c ≤ 2000000)
    · exact refMove_far A n cap a b c w h0 hR
    · refine (refMove_in A n cap z a b c w hD hn hF (by omega) (by omega) (by omega)).mono fun _ _ ⟨hb, h⟩ => ?_
      rcases h with ⟨h2, _⟩ | ⟨_, he⟩
      · omega
      · exact ⟨he, hb⟩
set_option maxHeartbeats 4000000 in
set_option maxRecDepth 100000 in
theorem same_any (A1 A2 : Option Addr) (n c1 c2 : Nat) (z : Nat → Nat → Int) (w : World) (hn : n ≤ 100000) (h1 : RowM 6 w w.heap.size A1 n z) (h2 : RowM 6 w w.heap.size A2 n z) :
    Calls Try.prog 31 #[.slice A1 n c1, .slice A2 n c2] w fun e w' => e = .returned (.bool true) ∧ Below w.heap.size w w' := by
  have H1 := hide h1
  have H2 := hide h2
  clear h1 h2
  go_enter Try.func31, Try.ntmps31
  go_wp2
  go_loopw [5] (fun i wr => ∃ k m : Nat, k ≤ n ∧ i = .int .i64 k ∧ wr = w.drewN m) (fun i _ => n - (intOf i).toNat)
  case atStart => exact ⟨0, 0, by omega, rfl, rfl⟩
  case round =>
    obtain ⟨k, m, hk, rfl, rfl⟩ := hrel
    by_cases hlt : k < n
    · obtain ⟨b, off, rfl, hb, hc⟩ := H1.out (by omega)
      obtain ⟨b2, off2, rfl, hb2, hc2⟩ := H2.out (by omega)
      have q0 := hc k hlt 0 (by omega)
      have q1 := hc k hlt 1 (by omega)
      have q2 := hc k hlt 2 (by omega)
      have q3 := hc k hlt 3 (by omega)
      have q4 := hc k hlt 4 (by omega)
      have q5 := hc k hlt 5 (by omega)
      have r0 := hc2 k hlt 0 (by omega)
      have r1 := hc2 k hlt 1 (by omega)
      have r2 := hc2 k hlt 2 (by omega)
      have r3 := hc2 k hlt 3 (by omega)
      have r4 := hc2 k hlt 4 (by omega)
      have r5 := hc2 k hlt 5 (by omega)
      rw [Nat.add_zero] at q0 r0
      clear hc hc2
      have hne := neqP_self (z k 0) (z k 1) (z k 2) (z k 3) (z k 4) (z k 5)
      obtain ⟨x0, e0⟩ : ∃ x, x = z k 0 := ⟨_, rfl⟩
      obtain ⟨x1, e1⟩ : ∃ x, x = z k 1 := ⟨_, rfl⟩
      obtain ⟨x2, e2⟩ : ∃ x, x = z k 2 := ⟨_, rfl⟩
      obtain ⟨x3, e3⟩ : ∃ x, x = z k 3 := ⟨_, rfl⟩
      obtain ⟨x4, e4⟩ : ∃ x, x = z k 4 := ⟨_, rfl⟩
      obtain ⟨x5, e5⟩ : ∃ x, x = z k 5 := ⟨_, rfl⟩
      rw [← e0] at q0 r0 hne
      rw [← e1] at q1 r1 hne
      rw [← e2] at q2 r2 hne
      rw [← e3] at q3 r3 hne
      rw [← e4] at q4 r4 hne
      rw [← e5] at q5 r5 hne
      clear e0 e1 e2 e3 e4 e5
      have hlt' : (k : Int) < (n : Int) := by omega
      have hk0 : (0 : Int) ≤ (k : Int) := by omega
      go_wp2
      go_quiet (fail)
      go_wp2
      go_roundw
      case rel => exact ⟨k + 1, m + nq, by omega, by go_num, rfl⟩
      case measure => simp [intOf]; omega
    · obtain rfl : n = k := by omega
      go_wp2
      go_ret
      exact ⟨rfl, below_drewN (Below.refl _ _) m⟩
end Go.Proofs.Ytjfcjclhbnmgcaa
