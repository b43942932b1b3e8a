/- Contracts of agrafferef01.Solve and agraffebase.CopyInts. -/
import Derived.Test.YtnilfacofikoaaaRefCir
namespace Go.Proofs.Ytnilfacofikoaaa
open Go.RowKit
set_option linter.unusedVariables false
set_option linter.unusedSimpArgs false

/-- What the reference's passes keep: the row of values. -/
structure ValInv (w0 : World) (base g n : Nat) (vs : List Int) (K : Int) (W : World) : Prop where
  v : W.ownsRow base 3 1 (.slice (some ⟨g, 0, none⟩) n n) n (i64s vs)
  bound : ∀ x ∈ vs, -K ≤ x ∧ x ≤ 0
  below : Below base w0 W
theorem ValInv.len {w0 W : World} {base g n : Nat} {vs : List Int} {K : Int} (h : ValInv w0 base g n vs K W) : vs.length = n := by have := h.v.1; rw [i64s_len, Nat.mul_one] at this; exact this
theorem ValInv.cell {w0 W : World} {base g n : Nat} {vs : List Int} {K : Int} (h : ValInv w0 base g n vs K W) {j : Nat} (hj : j < n) : W.cell? ⟨g, j, none⟩ = some (.int .i64 (vs.getD j 0)) ∧ W.frozen? ⟨g, j, none⟩ = false :=
  ⟨by rw [h.v.cellAt j (by omega), i64s_get (by rw [h.len]; exact hj)], h.v.frozenAt j⟩
theorem ValInv.lt {w0 W : World} {base g n : Nat} {vs : List Int} {K : Int} (h : ValInv w0 base g n vs K W) : base ≤ g ∧ g < W.heap.size := h.v.lt g rfl
theorem ValInv.drewN {w0 W : World} {base g n : Nat} {vs : List Int} {K : Int} (h : ValInv w0 base g n vs K W) (q : Nat) : ValInv w0 base g n vs K (W.drewN q) := ⟨h.v, h.bound, below_drewN h.below q⟩
theorem ValInv.more {w0 W : World} {base g n : Nat} {vs : List Int} {K K' : Int} (h : ValInv w0 base g n vs K W) (hK : K ≤ K') : ValInv w0 base g n vs K' W := ⟨h.v, fun x hx => by have := h.bound x hx; omega, h.below⟩
theorem ValInv.set {w0 W : World} {base g n : Nat} {vs : List Int} {K : Int} (h : ValInv w0 base g n vs K W) (y : Nat) (z : Int) (hz : -K ≤ z ∧ z ≤ 0) : ValInv w0 base g n (vs.set y z) K (W.setCell ⟨g, y, none⟩ (.int .i64 z)) :=
  ⟨by have h1 := (h.v.stored y (.int .i64 z)).1; rwa [i64s_set] at h1, getD_set_bound h.bound hz, h.below.setCell (by exact h.lt.1) _⟩
def chg (low : Int) : Bool := decide (0 ≤ low)
def RefSolved (w : World) (bs : List (Int × Int × Int)) (n r : Nat) (e : Ending) (w' : World) : Prop :=
  Below w.heap.size w w' ∧ (r ≤ n → ∃ g, e = .returned (.tuple #[.slice (some ⟨g, 0, none⟩) n n, .bool true]) ∧ w'.ownsRow w.heap.size 3 1 (.slice (some ⟨g, 0, none⟩) n n) n (i64s (solveSt bs n (r + 1)).vs)) ∧
    (r = n + 1 → e = .returned (.tuple #[.slice none 0 0, .bool false]))
theorem low_or {bs : List (Int × Int × Int)} {vs ls : List Int} : ∀ k, (lowTo bs vs ls k).low = -1 ∨ 0 ≤ (lowTo bs vs ls k).low
  | 0 => Or.inl rfl
  | k + 1 => by
    rw [lowTo]
    unfold lowStep
    split
    · exact Or.inr (by simp)
    · exact low_or k
set_option maxHeartbeats 4000000 in
set_option maxRecDepth 100000 in
theorem refSolve_any (n r : Nat) (A : Option Addr) (len cap : Nat) (bs : List (Int × Int × Int)) (w : World) (hn : bs.length = len) (h : Bnds w w.heap.size A bs) (hs : sysErr n bs = 0)
    (hr : r ≤ n + 1) (hup : ∀ q, q < r → 0 ≤ (solveSt bs n (q + 1)).low) (hlow : r ≤ n → (solveSt bs n (r + 1)).low < 0) :
    Calls Try.prog 18 #[.int .i64 n, .slice A len cap] w (RefSolved w bs n r) := by
  obtain ⟨hn60, hl200, hok⟩ := sys_ok hs
  have hmk := fun W => run_make_row' (P := Try.prog) 39 3 (.int .i64 0) 8 Try.underlying39 info_int rfl .i64 .i64 n (by omega) (by omega) W
  have HN := hide hn
  have HD := hide h
  have HOK := hide hok
  have HUP := hide hup
  have HLW := hide hlow
  have hl : len ≤ 200 := by omega
  clear hn h hs hok hup hlow hl200
  have HV0 : Hid (ValInv w w.heap.size w.heap.size n (zerosL n) 0 (w.alloc (.cells (madeCells #[.int .i64 0] n) 3))) := by
    refine ⟨made_own w w.heap.size n w.heap.size rfl (Nat.le_refl _) (by omega), fun x hx => ?_, (Below.refl _ _).alloc (Nat.le_refl _) _⟩
    have := List.eq_of_mem_replicate hx
    omega
  go_enter Try.func18, Try.ntmps18
  go_wp2
  go_loopw [7] (fun s7 wr => ∃ q : Nat, q ≤ r ∧ q ≤ n + 1 ∧ s7 = .int .i64 q ∧ Hid (ValInv w w.heap.size w.heap.size n (solveSt bs n q).vs (q * 200000000000) wr)) (fun s7 _ => n + 1 - (intOf s7).toNat)
  case atStart => exact ⟨0, by omega, by omega, rfl, hide (HV0.out.more (by omega))⟩
  case round =>
    obtain ⟨q, hq, hq2, rfl, HR⟩ := hrel
    obtain ⟨wo, rfl⟩ : ∃ wo : World, wo = wr := ⟨_, rfl⟩
    by_cases hqn : q ≤ n
    · have hqn' : (q : Int) ≤ (n : Int) := by omega
      go_wp2
      go_loopw [8, 9] (fun s8 s9 wr => ∃ k : Nat, k ≤ len ∧ s9 = .int .i64 k ∧ s8 = .bool (chg (lowTo bs (solveSt bs n q).vs (solveSt bs n q).ls k).low) ∧
        Hid (ValInv w w.heap.size w.heap.size n (lowTo bs (solveSt bs n q).vs (solveSt bs n q).ls k).vs (q * 200000000000 + k * 1000000000) wr)) (fun _ s9 _ => len - (intOf s9).toNat)
      case atStart => exact ⟨0, by omega, rfl, rfl, hide (HR.out.more (by omega))⟩
      case round =>
        obtain ⟨k, hk, rfl, rfl, HW⟩ := hrel
        clear HR
        by_cases hlt : k < len
        · obtain ⟨b, off, rfl, hb, hc⟩ := HD.out (by rw [HN.out]; omega)
          obtain ⟨hx, hy, hz⟩ := hc k (by rw [HN.out]; exact hlt)
          have hlt' : (k : Int) < (len : Int) := by omega
          have qx := (HW.out.below.cell (by exact hb)).trans hx
          have qy := (HW.out.below.cell (by exact hb)).trans hy
          have qz := (HW.out.below.cell (by exact hb)).trans hz
          obtain ⟨⟨x0, x1⟩, ⟨y0, y1⟩, ⟨z0, z1⟩⟩ := HOK.out k (by rw [HN.out]; exact hlt)
          obtain ⟨x, hxe⟩ := Int.eq_ofNat_of_zero_le x0
          obtain ⟨y, hye⟩ := Int.eq_ofNat_of_zero_le y0
          obtain ⟨z, hze⟩ : ∃ z, z = (bs.getD k (0, 0, 0)).2.2 := ⟨_, rfl⟩
          have HFX : Hid (bFr bs k = x) := by show bFr bs k = x; unfold bFr; rw [hxe]; rfl
          have HFY : Hid (bTo bs k = y) := by show bTo bs k = y; unfold bTo; rw [hye]; rfl
          have HFZ : Hid (bMo bs k = z) := by show bMo bs k = z; unfold bMo; rw [hze]
          rw [hxe] at qx x1
          rw [hye] at qy y1
          rw [← hze] at qz z0 z1
          obtain ⟨st, hst⟩ : ∃ st, st = lowTo bs (solveSt bs n q).vs (solveSt bs n q).ls k := ⟨_, rfl⟩
          have HST : Hid (lowTo bs (solveSt bs n q).vs (solveSt bs n q).ls (k + 1) = lowStep bs st k) := by show lowTo bs (solveSt bs n q).vs (solveSt bs n q).ls (k + 1) = _; rw [hst]; rfl
          rw [← hst] at HW ⊢
          have hxn : x < n := by omega
          have hyn : y < n := by omega
          obtain ⟨cx, _⟩ := HW.out.cell hxn
          obtain ⟨cy, fy⟩ := HW.out.cell hyn
          have bx := getD_mem_bound (j := x) (by omega) HW.out.bound
          have by' := getD_mem_bound (j := y) (by omega) HW.out.bound
          obtain ⟨vx, hvx⟩ : ∃ v, v = st.vs.getD x 0 := ⟨_, rfl⟩
          obtain ⟨vy, hvy⟩ : ∃ v, v = st.vs.getD y 0 := ⟨_, rfl⟩
          rw [← hvx] at cx bx
          rw [← hvy] at cy by'
          have HVX := hide hvx
          have HVY := hide hvy
          have hsz := HW.out.below.size
          have lg := HW.out.lt
          have hbr : b < wr.heap.size := by omega
          have hxn' : (x : Int) < (n : Int) := by omega
          have hyn' : (y : Int) < (n : Int) := by omega
          have W1 : IntKind.i64.wrap (vx + z) = vx + z := by rw [IntKind.wrap_i64]; omega
          clear hx hy hz hxe hye hze hst hvx hvy hc
          by_cases hlow : vx + z < vy
          · have HS : Hid (lowStep bs st k = ⟨st.vs.set y (vx + z), st.ls.set y k, y⟩) := by
              show lowStep bs st k = _
              unfold lowStep
              rw [HFX.out, HFY.out, HFZ.out, ← HVX.out, ← HVY.out, if_pos hlow]
            go_wp2
            go_quiet (fail)
            go_wp2
            go_roundw
            case rel => exact ⟨k + 1, by omega, by go_num, by rw [HST.out, HS.out]; unfold chg; simp, by rw [HST.out, HS.out]; exact hide (((HW.out.drewN _).more (by omega)).set y (vx + z) (by omega))⟩
            case measure => simp [intOf]; omega
          · have HS : Hid (lowStep bs st k = st) := by
              show lowStep bs st k = _
              unfold lowStep
              rw [HFX.out, HFY.out, HFZ.out, ← HVX.out, ← HVY.out, if_neg hlow]
            go_wp2
            go_quiet (fail)
            go_wp2
            go_roundw
            case rel => exact ⟨k + 1, by omega, by go_num, by rw [HST.out, HS.out], by rw [HST.out, HS.out]; exact hide ((HW.out.drewN _).more (by omega))⟩
            case measure => simp [intOf]; omega
        · obtain rfl : len = k := by omega
          have ES : Hid (lowTo bs (solveSt bs n q).vs (solveSt bs n q).ls len = solveSt bs n (q + 1)) := by show _ = _; rw [solveSt]; unfold lowAll; rw [HN.out]
          rw [ES.out] at HW ⊢
          have HW2 := hide (HW.out.more (K' := ((q + 1 : Nat) : Int) * 200000000000) (by omega))
          clear HW
          by_cases hqr : q < r
          · have HCH : chg (solveSt bs n (q + 1)).low = true := decide_eq_true (HUP.out q hqr)
            rw [HCH]
            go_wp2
            go_roundw
            case rel => exact ⟨q + 1, by omega, by omega, by go_num, HW2⟩
            case measure => simp [intOf]; omega
          · obtain rfl : r = q := by omega
            have HCH : chg (solveSt bs n (r + 1)).low = false := decide_eq_false (by have := HLW.out (by omega); omega)
            rw [HCH]
            go_wp2
            go_ret2
            exact ⟨HW2.out.below, fun _ => ⟨_, rfl, HW2.out.v⟩, fun h => by omega⟩
    · have hqn' : ¬ (q : Int) ≤ (n : Int) := by omega
      go_wp2
      go_ret2
      exact ⟨HR.out.below, fun h => by omega, fun _ => rfl⟩

theorem add_plain2 {b off : Nat} (n : Nat) : (⟨b, off, none⟩ : Addr).add n = ⟨b, off + n, none⟩ := by
  unfold Addr.add
  by_cases h : n = 0
  · subst h; simp
  · rw [if_neg h]
set_option maxHeartbeats 1000000 in
set_option maxRecDepth 100000 in
theorem copyInts_any (C : Option Addr) (m mc : Nat) (cs : List Int) (w : World) (hm : cs.length = m) (hm1 : 0 < m) (hm2 : m ≤ 100000) (hc : RdB w w.heap.size C cs) :
    Calls Try.prog 22 #[.slice C m mc] w (BehindDone w cs m) := by
  obtain ⟨i0, hi, hz0, hz1, hz2⟩ := info_parts info_int
  obtain ⟨b, off, rfl, hb, hcc⟩ := hc (by omega)
  have HM := hide hm
  have HC := hide hcc
  clear hm hcc hc
  have ho := w.ownsRow_lit (e := 3) (size := 1) (base := w.heap.size) #[] 0 (Nat.le_refl _) (by unfold maxLen; omega) (by simp)
  have hnews : ∀ j u, (i64s cs)[j]? = some u → (w.alloc (.cells #[] 3)).cell? ((⟨b, off, none⟩ : Addr).add j) = some u := by
    intro j u h
    have hj : j < cs.length := by
      rcases Nat.lt_or_ge j cs.length with h1 | h1
      · exact h1
      · rw [List.getElem?_eq_none (by rw [i64s_len]; exact h1)] at h; cases h
    rw [i64s_get hj] at h
    cases h
    rw [add_plain2, World.cell?_alloc_past _ _ _ hb]
    exact HC.out j hj
  have HO := hide ho
  have HW := hide hnews
  clear ho hnews
  go_enter Try.func22, Try.ntmps22
  go_wp2_with (at_builtin; refine wpList_append_own_at _ rfl (.tmp 3) (.tmp 4) 39 rfl w.heap.size 3 i0 (.int .i64 0) 1 8 Try.underlying39 hi hz0 hz1 hz2 rfl (by decide) (.slice (some ⟨w.heap.size, 0, none⟩) 0 0) 0 [] rfl HO.out ⟨b, off, none⟩ m mc (i64s cs) rfl (by rw [i64s_len, HM.out, Nat.mul_one]) HW.out (by intro u hu; unfold i64s at hu; obtain ⟨z, _, rfl⟩ := List.mem_map.1 hu; rfl) (by unfold maxLen; omega) (by omega) (by simp) ?_)
  · intro v' w1 hown' hgrow _ hat
    have hown2 : w1.ownsRow w.heap.size 3 1 v' m (i64s cs) := by simpa using hown'
    obtain ⟨g, cap, rfl⟩ := slice_own hown2 hm1
    have HO2 := hide hown2
    have HW2 : Hid (Below w.heap.size w w1) := ((Below.refl _ _).alloc (Nat.le_refl _) _).grown hgrow (by simp) (fun k hk => by simp [Value.ownBlock] at hk; omega)
    clear hown' hown2 hgrow hat
    go_wp2
    go_ret
    exact ⟨g, cap, rfl, HO2.out, HW2.out⟩
end Go.Proofs.Ytnilfacofikoaaa
