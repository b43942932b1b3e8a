/- Contracts of cmp.Compare at int and uint64, and of (number.natural).compare: it compares the numbers that two rows write. -/
import Derived.Test.YtjfcjclhbnmgcaaPower
import Derived.Deep.QuietTactic
import Derived.BigQuiet
namespace Go.Proofs.Ytjfcjclhbnmgcaa
open Go.RowKit

/-- A call that leaves the world alone, in a region behind earlier draws. -/
theorem still_call {P : Program} {f : FuncId} {args : Array Value} {w : World} {a n : Nat} {v : Value} (h : Calls P f args (w.drewN (a + n)) fun e w' => e = .returned v ∧ w.drewN (a + n) = w') :
    Calls P f args (w.drewN (a + n)) fun e w'' => e = .returned v ∧ ∃ m, w'' = w.drewN (a + m) := h.mono fun _ _ ⟨he, hm⟩ => ⟨he, n, hm.symm⟩

def cmpZ (x y : Int) : Int := if x < y then -1 else if y < x then 1 else 0
theorem cmpZ_lt {x y : Int} (h : x < y) : cmpZ x y = -1 := by simp [cmpZ, h]
theorem cmpZ_gt {x y : Int} (h : y < x) : cmpZ x y = 1 := by simp [cmpZ, h]; omega
theorem cmpZ_eq (x : Int) : cmpZ x x = 0 := by simp [cmpZ]
theorem cmpI_cast (N M : Nat) : cmpI N M = cmpZ (N : Int) (M : Int) := by simp [cmpI, cmpZ]

set_option maxHeartbeats 400000 in
theorem cmpInt_any (x y : Int) (w : World) :
    Calls Try.prog 138 #[.int .i64 x, .int .i64 y] w fun e w' => e = .returned (.int .i64 (cmpZ x y)) ∧ w = w' := by
  rcases Int.lt_trichotomy x y with h | rfl | h
  · go_enter Try.func138, Try.ntmps138
    go_wp2
    go_ret
    exact ⟨ret_int (cmpZ_lt h).symm, rfl⟩
  · go_enter Try.func138, Try.ntmps138
    go_wp2
    go_ret
    exact ⟨ret_int (cmpZ_eq x).symm, rfl⟩
  · go_enter Try.func138, Try.ntmps138
    go_wp2
    go_ret
    exact ⟨ret_int (cmpZ_gt h).symm, rfl⟩
set_option maxHeartbeats 400000 in
theorem cmpU64_any (x y : Int) (w : World) :
    Calls Try.prog 139 #[.int .u64 x, .int .u64 y] w fun e w' => e = .returned (.int .i64 (cmpZ x y)) ∧ w = w' := by
  rcases Int.lt_trichotomy x y with h | rfl | h
  · go_enter Try.func139, Try.ntmps139
    go_wp2
    go_ret
    exact ⟨ret_int (cmpZ_lt h).symm, rfl⟩
  · go_enter Try.func139, Try.ntmps139
    go_wp2
    go_ret
    exact ⟨ret_int (cmpZ_eq x).symm, rfl⟩
  · go_enter Try.func139, Try.ntmps139
    go_wp2
    go_ret
    exact ⟨ret_int (cmpZ_gt h).symm, rfl⟩

theorem own_form {w : World} {base n : Nat} {v : Value} {ds : List Nat} (h : w.ownsRow base 174 1 v n (u64s ds)) : ∃ A c, v = .slice A n c ∧ n = ds.length ∧
    (1 ≤ n → ∃ g, A = some ⟨g, 0, none⟩ ∧ ∀ j (hj : j < ds.length), w.cell? ⟨g, j, none⟩ = some (.int .u64 ((ds[j] : Nat) : Int))) := by
  have hl := h.1
  rw [u64s_len, Nat.mul_one] at hl
  rcases h.2 with ⟨rfl, rfl⟩ | ⟨g, cap, cur, rfl, _⟩
  · exact ⟨none, 0, rfl, hl.symm, fun h => by omega⟩
  · refine ⟨some ⟨g, 0, none⟩, cap, rfl, hl.symm, fun _ => ⟨g, rfl, fun j hj => ?_⟩⟩
    rw [h.cellAt j (by omega), u64s_get hj]

set_option maxHeartbeats 400000 in
theorem compare_len (A1 A2 : Option Addr) (n m c1 c2 : Nat) (w : World) (hne : n ≠ m) :
    Calls Try.prog 125 #[.slice A1 n c1, .slice A2 m c2] w fun e w' => e = .returned (.int .i64 (cmpZ n m)) ∧ ∃ k, w.drewN k = w' := by
  have h1 : ((n : Int) == (m : Int)) = false := by rw [beq_eq_false_iff_ne]; omega
  have h2 : ((n : Int) != (m : Int)) = true := by rw [bne_iff_ne]; omega
  go_enter Try.func125, Try.ntmps125
  go_wp2_with (go_at_call 138; refine (cmpInt_any _ _ _).mono ?_; rintro e w' ⟨rfl, rfl⟩)
  go_ret
  exact ⟨rfl, 0, rfl⟩

set_option maxHeartbeats 400000 in
theorem compare_nil (A1 A2 : Option Addr) (c1 c2 : Nat) (w : World) :
    Calls Try.prog 125 #[.slice A1 0 c1, .slice A2 0 c2] w fun e w' => e = .returned (.int .i64 (cmpZ 0 0)) ∧ ∃ k, w.drewN k = w' := by
  go_enter Try.func125, Try.ntmps125
  go_wp2
  refine wp_loop_rounds 1 ?_
  rw [rounds_succ]
  go_wp2
  go_ret
  exact ⟨rfl, 0, rfl⟩

set_option maxHeartbeats 1000000 in
theorem compare_same (g1 g2 c1 c2 : Nat) (ds es : List Nat) (w : World) (hl : ds.length = es.length) (hn : ds.length ≤ 1000000) (hds : ∀ d ∈ ds, d < B64) (hes : ∀ d ∈ es, d < B64)
    (h1 : ∀ j (hj : j < ds.length), w.cell? ⟨g1, j, none⟩ = some (.int .u64 ((ds[j] : Nat) : Int))) (h2 : ∀ j (hj : j < es.length), w.cell? ⟨g2, j, none⟩ = some (.int .u64 ((es[j] : Nat) : Int))) :
    Calls Try.prog 125 #[.slice (some ⟨g1, 0, none⟩) ds.length c1, .slice (some ⟨g2, 0, none⟩) ds.length c2] w fun e w' =>
      e = .returned (.int .i64 (cmpZ (valN ds) (valN es))) ∧ ∃ k, w.drewN k = w' := by
  have H1 := hide h1
  have H2 := hide h2
  have HL := hide hl
  have HD := hide hds
  have HE := hide hes
  clear h1 h2 hl hds hes
  go_enter Try.func125, Try.ntmps125
  go_wp2
  go_loopw [5] (fun i wr => ∃ k n : Nat, k ≤ ds.length ∧ i = .int .i64 ((k : Int) - 1) ∧ Hid (ds.drop k = es.drop k) ∧ wr = w.drewN n) (fun i _ => (intOf i + 1).toNat)
  case atStart => exact ⟨ds.length, 0, Nat.le_refl _, rfl, hide (by rw [List.drop_length, HL.out, List.drop_length]), rfl⟩
  case round =>
    obtain ⟨k, n, hk, rfl, H, rfl⟩ := hrel
    rcases Nat.eq_zero_or_pos k with rfl | hk0
    · have e : ds = es := by simpa using H.out
      subst e
      go_wp2
      go_ret
      exact ⟨ret_int (cmpZ_eq _).symm, n, rfl⟩
    · obtain ⟨j, rfl⟩ : ∃ j, k = j + 1 := ⟨k - 1, by omega⟩
      have hj : j < ds.length := by omega
      have hj2 : j < es.length := by rw [← HL.out]; exact hj
      obtain ⟨d, hd⟩ : ∃ d, d = ds[j] := ⟨_, rfl⟩
      obtain ⟨x, hx⟩ : ∃ x, x = es[j] := ⟨_, rfl⟩
      have hc1 := H1.out j hj
      have hc2 := H2.out j hj2
      rw [← hd] at hc1
      rw [← hx] at hc2
      have HDD := hide hd
      have HXX := hide hx
      clear hd hx
      rw [show (((j + 1 : Nat) : Int) - 1) = (j : Int) from by omega]
      by_cases hdx : d = x
      · have hne : ((d : Int) != (x : Int)) = false := by rw [bne_eq_false_iff_eq]; omega
        have HK : Hid (ds.drop j = es.drop j) := by
          show ds.drop j = es.drop j
          rw [List.drop_eq_getElem_cons hj, List.drop_eq_getElem_cons hj2, H.out, ← HDD.out, ← HXX.out, hdx]
        clear hdx
        go_wp2
        go_quiet (fail)
        go_wp2
        go_roundw
        case rel => exact ⟨j, _, by omega, rfl, HK, rfl⟩
        case measure => simp [intOf]
      · have hne : ((d : Int) != (x : Int)) = true := by rw [bne_iff_ne]; omega
        have HZ : Hid (cmpZ d x = cmpZ (valN ds) (valN es)) := by
          show cmpZ d x = _
          rcases Nat.lt_trichotomy d x with h | h | h
          · have hv : valN ds < valN es := valN_top HD.out hj HL.out H.out (by rw [← HDD.out, ← HXX.out]; exact h)
            rw [cmpZ_lt (by omega), cmpZ_lt (by omega)]
          · exact absurd h hdx
          · have hv : valN es < valN ds := valN_top HE.out hj2 HL.out.symm H.out.symm (by rw [← HDD.out, ← HXX.out]; exact h)
            rw [cmpZ_gt (by omega), cmpZ_gt (by omega)]
        clear hdx
        go_wp2
        go_quiet (fail)
        go_wp2
        go_quiet ((go_at_call 139; first | exact still_call (cmpU64_any _ _ _) | (rw [World.drewN_drewN]; exact still_call (cmpU64_any _ _ _))))
        go_wp2
        go_ret
        exact ⟨ret_int HZ.out, _, by rw [World.drewN_drewN, World.drewN_drewN]⟩

/-- compare answers by the numbers. -/
theorem compare_any (b1 b2 N M L1 L2 : Nat) (v1 v2 : Value) (w : World) (h1 : Own w b1 v1 N L1) (h2 : Own w b2 v2 M L2) (hL : L1 ≤ 1000000) :
    Calls Try.prog 125 #[v1, v2] w fun e w' => e = .returned (.int .i64 (cmpI N M)) ∧ ∃ k, w.drewN k = w' := by
  obtain ⟨ds, hd, hdl, ho⟩ := h1
  obtain ⟨es, he, _, ho2⟩ := h2
  obtain ⟨A1, c1, rfl, _, f1⟩ := own_form ho
  obtain ⟨A2, c2, rfl, _, f2⟩ := own_form ho2
  rw [cmpI_cast]
  by_cases hl : ds.length = es.length
  · rcases Nat.eq_zero_or_pos ds.length with h0 | h0
    · have e1 := List.eq_nil_of_length_eq_zero h0
      have e2 := List.eq_nil_of_length_eq_zero (hl ▸ h0)
      subst e1 e2
      have z1 := hd.val
      have z2 := he.val
      simp only [valN] at z1 z2
      subst z1 z2
      exact compare_nil A1 A2 c1 c2 w
    · obtain ⟨g1, rfl, k1⟩ := f1 h0
      obtain ⟨g2, rfl, k2⟩ := f2 (by omega)
      have R := compare_same g1 g2 c1 c2 ds es w hl (by omega) hd.lt he.lt k1 k2
      rw [hd.val, he.val] at R
      rw [← hl]
      exact R
  · have e : cmpZ (N : Int) (M : Int) = cmpZ (ds.length : Int) (es.length : Int) := by
      rcases Nat.lt_or_gt_of_ne hl with h | h
      · have := hd.short he h
        rw [cmpZ_lt (by omega), cmpZ_lt (by omega)]
      · have := he.short hd h
        rw [cmpZ_gt (by omega), cmpZ_gt (by omega)]
    rw [e]
    exact compare_len A1 A2 ds.length es.length c1 c2 w hl
end Go.Proofs.Ytjfcjclhbnmgcaa
