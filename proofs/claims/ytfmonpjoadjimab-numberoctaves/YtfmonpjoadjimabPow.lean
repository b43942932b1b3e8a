/- Contracts of agrafferef01.cmp, pow, of, parts. Bounds are premises of each theorem. -/
import Derived.Test.YtfmonpjoadjimabMul
import Derived.Test.YtfmonpjoadjimabSides
import Derived.Maps.AppendAt
namespace Go.Proofs.Ytfmonpjoadjimab
open Go.RowKit
set_option linter.unusedVariables false
set_option linter.unusedSimpArgs false


theorem cmpI_len {N M : Nat} {ds es : List Nat} (hd : DigT ds N) (he : DigT es M) (h : ds.length ≠ es.length) : cmpI N M = if ds.length < es.length then -1 else 1 := by
  rcases Nat.lt_or_gt_of_ne h with h | h
  · have := hd.short he h
    rw [cmpI_lt this, if_pos h]
  · have := he.short hd h
    rw [cmpI_gt this, if_neg (by omega)]

set_option maxHeartbeats 2000000 in
set_option maxRecDepth 100000 in
theorem refCmp_any (A1 A2 : Option Addr) (n1 n2 c1 c2 N M L1 : Nat) (w : World) (h1 : Nt w A1 n1 N) (h2 : Nt w A2 n2 M) (hN : N < BT ^ L1) (hL : L1 ≤ 1000000) :
    Calls Try.prog 65 #[.slice A1 n1 c1, .slice A2 n2 c2] w fun e w' => e = .returned (.int .i64 (cmpI N M)) ∧ Below w.heap.size w w' := by
  obtain ⟨ds, hd, rfl, ha⟩ := h1
  obtain ⟨es, he, rfl, hb⟩ := h2
  have hl1 := hd.len hN
  by_cases hl : ds.length = es.length
  · have HD := hide hd
    have HE := hide he
    have HA := hide ha
    have HB := hide hb
    have HL := hide hl
    rw [← hl]
    obtain ⟨n, hn⟩ : ∃ n, ds.length = n := ⟨_, rfl⟩
    have HN := hide hn
    rw [hn] at hl1 ⊢
    clear hd he ha hb hl hn hN
    go_enter Try.func65, Try.ntmps65
    go_wp2
    go_loopw [5] (fun i wr => ∃ k q : Nat, k ≤ n ∧ i = .int .i64 ((k : Int) - 1) ∧ Hid (ds.drop k = es.drop k) ∧ wr = w.drewN q) (fun i _ => (intOf i + 1).toNat)
    case atStart => exact ⟨n, 0, Nat.le_refl _, rfl, hide (by rw [List.drop_of_length_le (by rw [HN.out]; exact Nat.le_refl _), List.drop_of_length_le (by rw [← HL.out, HN.out]; exact Nat.le_refl _)]), rfl⟩
    case round =>
      obtain ⟨k, q, hk, rfl, H, rfl⟩ := hrel
      rcases Nat.eq_zero_or_pos k with rfl | hk0
      · have HZ : Hid (cmpI N M = 0) := by
          have e : ds = es := by simpa using H.out
          show _ = _
          rw [← HD.out.val, ← HE.out.val, e]; exact cmpI_eq _
        go_wp2
        go_ret
        exact ⟨ret_int HZ.out.symm, below_drewN (Below.refl _ _) _⟩
      · obtain ⟨j, rfl⟩ : ∃ j, k = j + 1 := ⟨k - 1, by omega⟩
        have hj : j < ds.length := by rw [HN.out]; omega
        have hj2 : j < es.length := by rw [← HL.out]; exact hj
        obtain ⟨g1, rfl, hg1, hc1⟩ := HA.out.resolve_left (by intro e; rw [e] at hj; simp at hj)
        obtain ⟨g2, rfl, hg2, hc2⟩ := HB.out.resolve_left (by intro e; rw [e] at hj2; simp at hj2)
        have q1 := hc1 j hj
        have q2 := hc2 j hj2
        obtain ⟨d, hd⟩ : ∃ d, d = ds[j] := ⟨_, rfl⟩
        obtain ⟨x, hx⟩ : ∃ x, x = es[j] := ⟨_, rfl⟩
        rw [← hd] at q1
        rw [← hx] at q2
        have HDD := hide hd
        have HXX := hide hx
        clear hd hx hc1 hc2
        rw [show (((j + 1 : Nat) : Int) - 1) = (j : Int) from by omega]
        rcases Nat.lt_trichotomy d x with h | h | h
        · have HZ : Hid (cmpI N M = -1) := by
            show _ = _
            rw [← HD.out.val, ← HE.out.val]; exact cmpI_lt (valT_top HD.out.lt hj HL.out H.out (by rw [← HDD.out, ← HXX.out]; exact h))
          have hlt : (d : Int) < (x : Int) := by omega
          clear h HDD HXX
          go_wp2
          go_quiet (fail)
          go_wp2
          go_ret
          refine ⟨ret_int HZ.out.symm, ?_⟩
          repeat (first | exact Below.refl _ _ | refine below_drewN ?_ _)
        · have HK : Hid (ds.drop j = es.drop j) := by
            show ds.drop j = es.drop j
            rw [List.drop_eq_getElem_cons hj, List.drop_eq_getElem_cons hj2, H.out, ← HDD.out, ← HXX.out, h]
          have m1 : ¬ (d : Int) < (x : Int) := by omega
          have m2 : ¬ (x : Int) < (d : Int) := by omega
          clear h HDD HXX
          go_wp2
          go_quiet (fail)
          go_wp2
          go_quiet (fail)
          go_wp2
          go_roundw
          case rel => exact ⟨j, _, by omega, rfl, HK, rfl⟩
          case measure => simp [intOf]
        · have HZ : Hid (cmpI N M = 1) := by
            show _ = _
            rw [← HD.out.val, ← HE.out.val]; exact cmpI_gt (valT_top HE.out.lt hj2 HL.out.symm H.out.symm (by rw [← HDD.out, ← HXX.out]; exact h))
          have m1 : ¬ (d : Int) < (x : Int) := by omega
          have m2 : (x : Int) < (d : Int) := by omega
          clear h HDD HXX
          go_wp2
          go_quiet (fail)
          go_wp2
          go_quiet (fail)
          go_wp2
          go_ret
          refine ⟨ret_int HZ.out.symm, ?_⟩
          repeat (first | exact Below.refl _ _ | refine below_drewN ?_ _)
  · have HZ := hide (cmpI_len hd he hl)
    obtain ⟨n, hn⟩ : ∃ n, ds.length = n := ⟨_, rfl⟩
    obtain ⟨m, hm⟩ : ∃ n, es.length = n := ⟨_, rfl⟩
    rw [hn, hm] at hl HZ ⊢
    clear hd he ha hb hN hl1 hn hm
    have b1 : ((n : Int) == (m : Int)) = false := by rw [beq_eq_false_iff_ne]; omega
    have b2 : ((n : Int) != (m : Int)) = true := by rw [bne_iff_ne]; omega
    by_cases hlt : n < m
    · have HZ2 : Hid (cmpI N M = -1) := HZ.out.trans (if_pos hlt)
      go_enter Try.func65, Try.ntmps65
      go_wp2
      go_ret
      exact ⟨ret_int HZ2.out.symm, Below.refl _ _⟩
    · have HZ2 : Hid (cmpI N M = 1) := HZ.out.trans (if_neg hlt)
      go_enter Try.func65, Try.ntmps65
      go_wp2
      go_ret
      exact ⟨ret_int HZ2.out.symm, Below.refl _ _⟩

theorem pow_fits {X m s k : Nat} (hX : X < BT ^ m) (hs : s ≤ k) : X ^ s < BT ^ (m * k + 1) := by
  have h1 : X ^ s ≤ (BT ^ m) ^ s := Nat.pow_le_pow_left (Nat.le_of_lt hX) s
  rw [← Nat.pow_mul] at h1
  have h2 : BT ^ (m * s) ≤ BT ^ (m * k) := Nat.pow_le_pow_right BT_pos (Nat.mul_le_mul_left _ hs)
  have h3 : BT ^ (m * k) < BT ^ (m * k + 1) := (Nat.pow_lt_pow_iff_right BT_one).2 (by omega)
  omega

set_option maxHeartbeats 2000000 in
set_option maxRecDepth 100000 in
theorem pow_any (A : Option Addr) (n cap X m k : Nat) (w : World) (h : Nt w A n X) (hX : X < BT ^ m) (hk : k ≤ 10000) (hm : m * k + 1 ≤ 500000) :
    Calls Try.prog 63 #[.slice A n cap, .int .i64 k] w (NtDone w (X ^ k)) := by
  have HX := hide hX
  have H0 := hide h
  have HM := hide hm
  clear h hX hm
  go_enter Try.func63, Try.ntmps63
  go_wp2
  have H1 : Hid (Nt (w.alloc (.cells #[.int .i64 1] 3)) (some ⟨w.heap.size, 0, none⟩) 1 1) := Nt.one w _ 1 rfl (by decide) (by omega)
  go_loopw [0, 1, 5] (fun x kk o wr => ∃ (A : Option Addr) (n ca : Nat) (B : Option Addr) (nb cb s r q : Nat), x = .slice A n ca ∧ kk = .int .i64 q ∧ o = .slice B nb cb ∧ q ≤ k ∧ Hid (r + s * q = k) ∧ Hid (Nt wr A n (X ^ s)) ∧ Hid (Nt wr B nb (X ^ r)) ∧ Hid (Below w.heap.size w wr)) (fun _ kk _ _ => (intOf kk).toNat)
  case atStart => exact ⟨A, n, cap, _, 1, 1, 1, 0, k, rfl, rfl, rfl, Nat.le_refl _, hide (by omega), hide (by rw [Nat.pow_one]; exact H0.out.alloc _), H1, (Below.refl _ _).alloc (Nat.le_refl _) _⟩
  case round =>
    obtain ⟨A, n, ca, B, nb, cb, s, r, q, rfl, rfl, rfl, hq, HR, HA, HB, HW⟩ := hrel
    have hsz := HW.out.size
    rcases Nat.eq_zero_or_pos q with rfl | hq0
    · have HF : Hid (Nt wr B nb (X ^ k)) := by have e := HR.out; rw [Nat.mul_zero, Nat.add_zero] at e; rw [← e]; exact HB.out
      go_wp2
      go_ret
      exact ⟨_, _, _, rfl, HF.out, HW.out⟩
    · have hq0' : (0 : Int) < (q : Int) := by omega
      have hs : s ≤ k := by have e := HR.out; have : s * 1 ≤ s * q := Nat.mul_le_mul_left _ hq0; omega
      have hr : r ≤ k := by have e := HR.out; omega
      have HS := hide (pow_fits HX.out hs)
      have HRR := hide (pow_fits HX.out hr)
      have hd2 : ((q : Int)) / 2 = ((q / 2 : Nat) : Int) := by omega
      have HD2 := hide hd2
      have HSS : Hid (X ^ s * X ^ s = X ^ (s + s)) := by show _ = _; rw [Nat.pow_add]
      have HRS : Hid (X ^ r * X ^ s = X ^ (r + s)) := by show _ = _; rw [Nat.pow_add]
      have HMM := HM.out
      clear hs hr hd2
      by_cases ho : q % 2 = 1
      · have hod : ((q : Int)) % 2 = 1 := by omega
        have HN : Hid (r + s + (s + s) * (q / 2) = k) := by
          show _ = _
          have e : q = 1 + 2 * (q / 2) := by omega
          have e2 := HR.out
          rw [e, Nat.mul_add, Nat.mul_one, ← Nat.mul_assoc, Nat.mul_comm s 2, Nat.two_mul] at e2
          have e3 : (1 + 2 * (q / 2)) / 2 = q / 2 := by omega
          omega
        clear ho
        go_wp2_with fail
        refine (mul_any B A nb n cb ca (X ^ r) (X ^ s) (m * k + 1) (m * k + 1) _ HB.out HA.out HRR.out HS.out (by omega)).mono ?_
        rintro e w1 ⟨B', nb', cb', rfl, hB1, hW1⟩
        rw [HRS.out] at hB1
        have HB1 := hide hB1
        have HA1 := hide (HA.out.kept hW1)
        have HW1 := hide (HW.out.trans (hW1.mono HW.out.size))
        clear hB1 hW1
        go_wp2_with fail
        refine (mul_any A A n n ca ca (X ^ s) (X ^ s) (m * k + 1) (m * k + 1) _ HA1.out HA1.out HS.out HS.out (by omega)).mono ?_
        rintro e w2 ⟨A', n', ca', rfl, hA2, hW2⟩
        rw [HSS.out] at hA2
        have HA2 := hide hA2
        have HB2 := hide (HB1.out.kept hW2)
        have HW2 := hide (HW1.out.trans (hW2.mono HW1.out.size))
        clear hA2 hW2
        go_wp2
        go_roundw
        case rel => exact ⟨A', n', ca', B', nb', cb', s + s, r + s, q / 2, rfl, by rw [HD2.out], rfl, by omega, HN, HA2, HB2, HW2⟩
        case measure => simp [intOf]; omega
      · have hod : ((q : Int)) % 2 = 0 := by omega
        have HN : Hid (r + (s + s) * (q / 2) = k) := by
          show _ = _
          have e : q = 2 * (q / 2) := by omega
          have e2 := HR.out
          rw [e, ← Nat.mul_assoc, Nat.mul_comm s 2, Nat.two_mul] at e2
          have e3 : (2 * (q / 2)) / 2 = q / 2 := by omega
          omega
        clear ho
        go_wp2_with fail
        refine (mul_any A A n n ca ca (X ^ s) (X ^ s) (m * k + 1) (m * k + 1) _ HA.out HA.out HS.out HS.out (by omega)).mono ?_
        rintro e w2 ⟨A', n', ca', rfl, hA2, hW2⟩
        rw [HSS.out] at hA2
        have HA2 := hide hA2
        have HB2 := hide (HB.out.kept hW2)
        have HW2 := hide (HW.out.trans (hW2.mono HW.out.size))
        clear hA2 hW2
        go_wp2
        go_roundw
        case rel => exact ⟨A', n', ca', B, nb, cb, s + s, r, q / 2, rfl, by rw [HD2.out], rfl, by omega, HN, HA2, HB2, HW2⟩
        case measure => simp [intOf]; omega

/-- While 'of' takes a number apart: ds are the digits so far, m is what is left of N. -/
structure OfIn (N : Nat) (ds : List Nat) (m : Nat) : Prop where
  lt : ∀ d ∈ ds, d < BT
  val : valT ds + BT ^ ds.length * m = N
  top : ds ≠ [] → BT ^ (ds.length - 1) ≤ N
theorem OfIn.start (N : Nat) : OfIn N [] N := ⟨by simp, by simp [valT], fun h => absurd rfl h⟩
theorem OfIn.step {N m : Nat} {ds : List Nat} (h : OfIn N ds m) (hm : 1 ≤ m) : OfIn N (ds ++ [m % BT]) (m / BT) := by
  have h0 := h.val
  have h1 : BT ^ ds.length * 1 ≤ BT ^ ds.length * m := Nat.mul_le_mul_left _ hm
  refine ⟨?_, ?_, fun _ => ?_⟩
  · intro d hd
    rcases List.mem_append.1 hd with hd | hd
    · exact h.lt d hd
    · simp at hd; subst hd; exact Nat.mod_lt _ BT_pos
  · rw [valT_snoc, List.length_append, List.length_singleton, Nat.pow_succ, Nat.mul_assoc, Nat.add_assoc, ← Nat.mul_add, Nat.mod_add_div]; exact h0
  · simp only [List.length_append, List.length_singleton, Nat.add_sub_cancel]
    omega
theorem OfIn.done {N : Nat} {ds : List Nat} (h : OfIn N ds 0) : DigT ds N := ⟨h.lt, by have := h.val; simpa using this, h.top⟩
theorem OfIn.short {N m : Nat} {ds : List Nat} (h : OfIn N ds m) (hm : 1 ≤ m) (hN : N < BT ^ 5) : ds.length ≤ 4 := by
  have h0 := h.val
  have h1 : BT ^ ds.length * 1 ≤ BT ^ ds.length * m := Nat.mul_le_mul_left _ hm
  have h2 : BT ^ ds.length < BT ^ 5 := by omega
  have := (Nat.pow_lt_pow_iff_right BT_one).1 h2
  omega
theorem nt_of_own {w : World} {base N : Nat} {v : Value} {ds : List Nat} (h : w.ownsRow base 3 1 v ds.length (rowV ds)) (hd : DigT ds N) : ∃ A c, v = .slice A ds.length c ∧ Nt w A ds.length N := by
  rcases h.2 with ⟨rfl, e⟩ | ⟨g, cap, cur, rfl, _⟩
  · have e0 : ds = [] := by simpa [rowV] using e
    subst e0
    exact ⟨none, 0, rfl, [], hd, rfl, Or.inl rfl⟩
  · refine ⟨some ⟨g, 0, none⟩, cap, rfl, ds, hd, rfl, ?_⟩
    rcases Nat.eq_zero_or_pos ds.length with h0 | h0
    · exact Or.inl (List.eq_nil_of_length_eq_zero h0)
    · refine Or.inr ⟨g, rfl, (World.ownsRow.lt h g (by simp [Value.ownBlock])).2, fun j hj => ?_⟩
      rw [h.cellAt j (by simpa using hj)]
      simp [rowV, hj]

set_option maxHeartbeats 2000000 in
set_option maxRecDepth 100000 in
theorem of_any (N : Nat) (w : World) (hN : N ≤ 2000000000000000) :
    Calls Try.prog 64 #[.int .i64 N] w (NtDone w N) := by
  obtain ⟨i0, hi, hz0, hz1, hz2⟩ := info_parts info_int
  have hNB : N < BT ^ 5 := by have e : BT ^ 5 = 100000000000000000000 := by decide
                              omega
  have HNB := hide hNB
  clear hNB
  have HO0 : Hid (w.ownsRow w.heap.size 3 1 (.slice none 0 0) ([] : List Nat).length (rowV [])) := ⟨by simp [rowV], Or.inl ⟨rfl, by simp [rowV]⟩⟩
  go_enter Try.func64, Try.ntmps64
  go_wp2
  go_loopw [0, 3] (fun x v wr => ∃ (m : Nat) (ds : List Nat), x = .int .i64 m ∧ m ≤ N ∧ Hid (OfIn N ds m) ∧ Hid (wr.ownsRow w.heap.size 3 1 v ds.length (rowV ds)) ∧ Hid (Below w.heap.size w wr)) (fun x _ _ => (intOf x).toNat)
  case atStart => exact ⟨N, [], rfl, Nat.le_refl _, OfIn.start N, HO0, Below.refl _ _⟩
  case round =>
    obtain ⟨m, ds, rfl, hm, HI, HO, HW⟩ := hrel
    have hsz := HW.out.size
    rcases Nat.eq_zero_or_pos m with rfl | hm0
    · obtain ⟨A, c, rfl, hnt⟩ := nt_of_own HO.out HI.out.done
      have HF := hide hnt
      clear hnt
      go_wp2
      go_ret
      exact ⟨_, _, _, rfl, HF.out, HW.out⟩
    · have hm0' : (0 : Int) < (m : Int) := by omega
      have hsh := HI.out.short hm0 HNB.out
      have hst := HI.out.step hm0
      have hdle : m / BT < m := Nat.div_lt_self hm0 (by decide)
      have hmd0 : (m : Int) % 10000 = ((m % BT : Nat) : Int) := by have e : BT = 10000 := rfl; rw [e]; omega
      have hdv0 : (m : Int) / 10000 = ((m / BT : Nat) : Int) := by have e : BT = 10000 := rfl; rw [e]; omega
      obtain ⟨r, hr⟩ : ∃ r, r = m % BT := ⟨_, rfl⟩
      obtain ⟨t, ht⟩ : ∃ r, r = m / BT := ⟨_, rfl⟩
      rw [← hr] at hst hmd0
      rw [← ht] at hst hdv0 hdle
      have HI2 := hide hst
      have hmd : (m : Int) % 10000 = (r : Int) := hmd0
      have hdv : (m : Int) / 10000 = (t : Int) := hdv0
      clear hst hmd0 hdv0 hr ht
      have hown := HO.out
      go_wp2_with (at_builtin; refine wpList_append_own_at _ rfl (.tmp 6) (.tmp 9) 106 rfl w.heap.size 3 i0 (.int .i64 0) 1 8 Try.underlying106 hi hz0 hz1 hz2 rfl (by decide) u3 ds.length (rowV ds) rfl (hown.alloc _) ⟨wr.heap.size, 0, none⟩ 1 1 [.int .i64 (r : Int)] rfl rfl ?c1 ?c2 ?c3 ?c4 ?c5 ?_)
      case c1 => exact cell_one_new _ _ _
      case c2 => intro u hu; simp at hu; subst hu; rfl
      case c3 => unfold maxLen; omega
      case c4 => omega
      case c5 => simp; omega
      · intro v' w1 hown' hgrow _ hat
        have HO2 : Hid (w1.ownsRow w.heap.size 3 1 v' (ds ++ [r]).length (rowV (ds ++ [r]))) := by
          have e : rowV ds ++ [Value.int .i64 (r : Int)] = rowV (ds ++ [r]) := by simp [rowV]
          rw [e] at hown'
          exact hide (by simpa using hown')
        have HW2 : Hid (Below w.heap.size w w1) := (HW.out.alloc hsz _).grown hgrow (by simp; omega) (fun k hk => by have := World.ownsRow.lt HO.out k hk; exact this.1)
        clear hown' hgrow hat hown
        go_wp2
        go_roundw
        case rel => exact ⟨t, ds ++ [r], rfl, by omega, HI2, HO2, HW2⟩
        case measure => simp [intOf]; omega
end Go.Proofs.Ytfmonpjoadjimab
