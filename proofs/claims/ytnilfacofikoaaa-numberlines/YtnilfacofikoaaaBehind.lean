/- The contract of number.circleBehind. -/
import Derived.Test.YtnilfacofikoaaaCirc
import Derived.Test.YtnilfacofikoaaaRev
import Derived.Maps.AppendAt
import Derived.Deep.Draws
namespace Go.Proofs.Ytnilfacofikoaaa
open Go.RowKit
set_option linter.unusedVariables false
set_option linter.unusedSimpArgs false

def cirTo (bs : List (Int × Int × Int)) (ls : List Int) (z : Nat) (t : Nat) : List Int := (List.range t).map fun k => (lowB ls (backB bs ls z k) : Int)
theorem cirTo_len (bs : List (Int × Int × Int)) (ls : List Int) (z t : Nat) : (cirTo bs ls z t).length = t := by simp [cirTo]
theorem cirTo_snoc (bs : List (Int × Int × Int)) (ls : List Int) (z t : Nat) : cirTo bs ls z (t + 1) = cirTo bs ls z t ++ [(lowB ls (backB bs ls z t) : Int)] := by simp [cirTo, List.range_succ]
theorem i64s_snoc (xs : List Int) (z : Int) : i64s xs ++ [Value.int .i64 z] = i64s (xs ++ [z]) := by simp [i64s]
theorem cell_one (w : World) (v : Value) (t : TypeId) : ∀ j u, ([v] : List Value)[j]? = some u → (w.alloc (.cells #[v] t)).cell? ((⟨w.heap.size, 0, none⟩ : Addr).add j) = some u := by
  intro j u h
  match j with
  | 0 =>
    simp at h
    subst h
    exact (Blk.new w _ t #[v] rfl).cell 0
  | j + 1 => simp at h
def BehindDone (w : World) (xs : List Int) (n : Nat) (e : Ending) (w' : World) : Prop :=
  ∃ g cap, e = .returned (.slice (some ⟨g, 0, none⟩) n cap) ∧ w'.ownsRow w.heap.size 3 1 (.slice (some ⟨g, 0, none⟩) n cap) n (i64s xs) ∧ Below w.heap.size w w'
theorem slice_own {w : World} {base n : Nat} {v : Value} {xs : List Value} (h : w.ownsRow base 3 1 v n xs) (hn : 0 < n) : ∃ g cap, v = .slice (some ⟨g, 0, none⟩) n cap := by
  rcases h.2 with ⟨_, h⟩ | ⟨g, cap, cur, h, _⟩
  · omega
  · exact ⟨g, cap, h⟩
set_option maxHeartbeats 2000000 in
set_option maxRecDepth 100000 in
theorem circleBehind_any (v n len cap g2 c2 c : Nat) (A : Option Addr) (bs : List (Int × Int × Int)) (vs ls : List Int) (w : World) (hlen : bs.length = len) (h60 : n ≤ 60) (hD : Bnds w w.heap.size A bs) (hg : g2 < w.heap.size)
    (hok : BndsOk n bs) (hl : ∀ j, j < n → w.cell? ⟨g2, j, none⟩ = some (.int .i64 (ls.getD j 0)))
    (hst : ∀ k, k < n → backB bs ls v k < n ∧ lowB ls (backB bs ls v k) < bs.length ∧ ls.getD (backB bs ls v k) 0 = (lowB ls (backB bs ls v k) : Int)) (hC : Circ bs n vs ls (backB bs ls v n) c) :
    Calls Try.prog 42 #[.int .i64 v, .slice (some ⟨g2, 0, none⟩) n c2, .slice A len cap] w (BehindDone w (cirTo bs ls (backB bs ls v n) c).reverse c) := by
  obtain ⟨i0, hi, hz0, hz1, hz2⟩ := info_parts info_int
  have HN := hide hlen
  have HD := hide hD
  have HL := hide hl
  have HST := hide hst
  have HC := hide hC
  have HOK := hide hok
  clear hlen hD hl hst hC hok
  obtain ⟨z, hz⟩ : ∃ z, z = backB bs ls v n := ⟨_, rfl⟩
  have HZ := hide hz
  rw [← hz] at HC ⊢
  clear hz
  have HO0 : Hid (w.ownsRow w.heap.size 3 1 (.slice none 0 0) 0 (i64s [])) := ⟨by simp [i64s], Or.inl ⟨rfl, by simp⟩⟩
  go_enter Try.func42, Try.ntmps42
  go_wp2
  go_loop [0, 11] (fun s0 i => ∃ k : Nat, k ≤ n ∧ i = .int .i64 k ∧ s0 = .int .i64 (backB bs ls v k : Nat)) (fun _ i => n - (intOf i).toNat)
  case atStart => exact ⟨0, by omega, rfl, rfl⟩
  case round =>
    obtain ⟨k, hk, rfl, rfl⟩ := hrel
    by_cases hlt : k < n
    · obtain ⟨h1, h2, h3⟩ := HST.out k hlt
      have q1 := HL.out _ h1
      rw [h3] at q1
      obtain ⟨b, off, rfl, hb, hcb⟩ := HD.out (by omega)
      obtain ⟨x0, _, _⟩ := hcb _ h2
      have hfr := (HOK.out _ h2).1.1
      have HB1 : Hid (backB bs ls v (k + 1) = bFr bs (lowB ls (backB bs ls v k))) := rfl
      obtain ⟨p, hp⟩ : ∃ p, p = backB bs ls v k := ⟨_, rfl⟩
      rw [← hp] at q1 h1 h2 x0 hfr HB1 ⊢
      obtain ⟨i, hie⟩ : ∃ q, q = lowB ls p := ⟨_, rfl⟩
      rw [← hie] at q1 h2 x0 hfr HB1
      obtain ⟨u, hu⟩ := Int.eq_ofNat_of_zero_le hfr
      have HU : Hid (backB bs ls v (k + 1) = u) := by show backB bs ls v (k + 1) = u; rw [HB1.out]; unfold bFr; rw [hu]; rfl
      rw [hu] at x0
      have hil : (i : Int) < (len : Int) := by have := HN.out; omega
      have hpn : (p : Int) < (n : Int) := by omega
      clear hp hie hu h3 hcb hfr h2 h1 HB1
      go_wp2
      go_round
      case rel => exact ⟨k + 1, by omega, by go_num, by rw [HU.out]⟩
      case measure => simp [intOf]; omega
    · obtain rfl : n = k := by omega
      rw [← HZ.out]
      clear hlt
      go_wp2
      go_loopw [7, 8] (fun s7 s8 wr => ∃ t : Nat, t ≤ c ∧ s8 = .int .i64 (backB bs ls z t : Nat) ∧ Hid (t = 0 → s7 = .slice none 0 0) ∧ Hid (wr.ownsRow w.heap.size 3 1 s7 t (i64s (cirTo bs ls z t))) ∧ Hid (Below w.heap.size w wr)) (fun s7 _ _ => match s7 with | .slice _ m _ => c - m | _ => 0)
      case atStart => exact ⟨0, by omega, rfl, hide (fun _ => rfl), HO0, Below.refl _ _⟩
      case round =>
        obtain ⟨t, ht, rfl, H0, HR, HB⟩ := hrel
        by_cases htc : t < c
        · obtain ⟨h2, h3, _⟩ := HC.out.low t
          have h1 := HC.out.num t
          have Q0 := HL.out _ h1
          rw [h3] at Q0
          have q1 := (HB.out.cell (p := ⟨g2, _, none⟩) (by exact hg)).trans Q0
          obtain ⟨b, off, rfl, hb, hcb⟩ := HD.out (by omega)
          obtain ⟨y0, _, _⟩ := hcb _ h2
          have hfr := (HOK.out _ h2).1.1
          have HB1 : Hid (backB bs ls z (t + 1) = bFr bs (lowB ls (backB bs ls z t))) := rfl
          have HS := hide (cirTo_snoc bs ls z t)
          have hfst : t = 0 ∨ (1 ≤ t ∧ backB bs ls z t ≠ z) := by
            rcases Nat.eq_zero_or_pos t with h | h
            · exact Or.inl h
            · exact Or.inr ⟨h, HC.out.first t h htc⟩
          obtain ⟨p, hp⟩ : ∃ p, p = backB bs ls z t := ⟨_, rfl⟩
          have HP := hide hp
          rw [← hp] at Q0 q1 h1 h2 y0 hfr HB1 HS hfst ⊢
          obtain ⟨i, hie⟩ : ∃ q, q = lowB ls p := ⟨_, rfl⟩
          rw [← hie] at Q0 q1 h2 y0 hfr HB1 HS
          obtain ⟨u, hu⟩ := Int.eq_ofNat_of_zero_le hfr
          have HU : Hid (backB bs ls z (t + 1) = u) := by show backB bs ls z (t + 1) = u; rw [HB1.out]; unfold bFr; rw [hu]; rfl
          rw [hu] at y0
          have x0 := (HB.out.cell (by exact hb)).trans y0
          have X0 := hide y0
          replace Q0 := hide Q0
          have hil : (i : Int) < (len : Int) := by have := HN.out; omega
          have hpn : (p : Int) < (n : Int) := by omega
          have hsz := HB.out.size
          have hbr : b < wr.heap.size := by omega
          have hgr : g2 < wr.heap.size := by omega
          have hown := HR.out
          have hcn := HC.out.most
          clear hp hie hu h3 hcb hfr h2 h1 HB1 y0
          rcases hfst with rfl | ⟨ht1, hpz⟩
          · obtain rfl := H0.out rfl
            go_wp2_with (at_builtin; refine wpList_append_own_at _ rfl (.tmp 39) (.tmp 44) 39 rfl w.heap.size 3 i0 (.int .i64 0) 1 8 Try.underlying39 hi hz0 hz1 hz2 rfl (by decide) (.slice none 0 0) 0 (i64s (cirTo bs ls z 0)) rfl (hown.alloc _) ⟨wr.heap.size, 0, none⟩ 1 1 [.int .i64 (i : Int)] rfl rfl (cell_one _ _ _) (by intro u hu; simp at hu; subst hu; rfl) (by unfold maxLen; omega) (by omega) (by simp; omega) ?_)
            · intro v' w1 hown' hgrow _ hat
              have HO2 : Hid (w1.ownsRow w.heap.size 3 1 v' (0 + 1) (i64s (cirTo bs ls z (0 + 1)))) := by
                rw [i64s_snoc, ← HS.out] at hown'
                exact hide (by simpa using hown')
              have HW2 : Hid (Below w.heap.size w w1) := (HB.out.alloc hsz _).grown hgrow (by simp; omega) (fun k hk => by have := World.ownsRow.lt HR.out k hk; exact this.1)
              obtain ⟨g', cap', rfl⟩ := slice_own hown' (by omega)
              have q2 := (HW2.out.cell (p := ⟨g2, _, none⟩) (by exact hg)).trans Q0.out
              have x2 := (HW2.out.cell (by exact hb)).trans X0.out
              have hsz2 := HW2.out.size
              clear hown' hgrow hat hown q1 x0 hbr hgr
              have hbr : b < w1.heap.size := by omega
              have hgr : g2 < w1.heap.size := by omega
              go_wp2
              go_roundw
              case rel => exact ⟨0 + 1, by omega, by rw [HU.out], hide (fun h => by omega), HO2, HW2⟩
              case measure => simp; omega
          · obtain ⟨g, cap, rfl⟩ := slice_own hown (by omega)
            have hne : ((p : Int) != (z : Int)) = true := by rw [bne_iff_ne]; omega
            have hn0 : ((t : Int) == 0) = false := by rw [beq_eq_false_iff_ne]; omega
            clear hpz
            go_wp2_with (at_builtin; refine wpList_append_own_at _ rfl (.tmp 39) (.tmp 44) 39 rfl w.heap.size 3 i0 (.int .i64 0) 1 8 Try.underlying39 hi hz0 hz1 hz2 rfl (by decide) (.slice (some ⟨g, 0, none⟩) t cap) t (i64s (cirTo bs ls z t)) rfl (hown.alloc _) ⟨wr.heap.size, 0, none⟩ 1 1 [.int .i64 (i : Int)] rfl rfl (cell_one _ _ _) (by intro u hu; simp at hu; subst hu; rfl) (by unfold maxLen; omega) (by omega) (by simp; omega) ?_)
            · intro v' w1 hown' hgrow _ hat
              have HO2 : Hid (w1.ownsRow w.heap.size 3 1 v' (t + 1) (i64s (cirTo bs ls z (t + 1)))) := by
                rw [i64s_snoc, ← HS.out] at hown'
                exact hide (by simpa using hown')
              have HW2 : Hid (Below w.heap.size w w1) := (HB.out.alloc hsz _).grown hgrow (by simp; omega) (fun k hk => by have := World.ownsRow.lt HR.out k hk; exact this.1)
              obtain ⟨g', cap', rfl⟩ := slice_own hown' (by omega)
              have q2 := (HW2.out.cell (p := ⟨g2, _, none⟩) (by exact hg)).trans Q0.out
              have x2 := (HW2.out.cell (by exact hb)).trans X0.out
              have hsz2 := HW2.out.size
              clear hown' hgrow hat hown q1 x0 hbr hgr
              have hbr : b < w1.heap.size := by omega
              have hgr : g2 < w1.heap.size := by omega
              go_wp2
              go_roundw
              case rel => exact ⟨t + 1, by omega, by rw [HU.out], hide (fun h => by omega), HO2, HW2⟩
              case measure => simp; omega
        · obtain rfl : c = t := by omega
          have hone := HC.out.one
          have hback := HC.out.back
          have hown := HR.out
          obtain ⟨g, cap, rfl⟩ := slice_own hown (by omega)
          have hn0 : ((c : Int) == 0) = false := by rw [beq_eq_false_iff_ne]; omega
          have hzz : ((z : Int) != (z : Int)) = false := by simp
          have HREV := hide (fun W h => reverse_any w.heap.size g c cap (cirTo bs ls z c) W (cirTo_len _ _ _ _) (by have := HC.out.most; omega) h)
          rw [hback]
          clear hback hown
          go_wp2_with fail
          refine (HREV.out _ HR.out).mono ?_
          rintro e w2 ⟨rfl, ho2, hb2⟩
          have HO2 := hide ho2
          have HB2 := hide (HB.out.trans hb2)
          clear ho2 hb2
          go_wp2
          go_ret
          exact ⟨g, cap, rfl, HO2.out, HB2.out⟩
end Go.Proofs.Ytnilfacofikoaaa
