/- The contract of number.greatest: the greatest number from low to high that the function value accepts; the function value keeps an invariant of the world and answers by T. -/
import Derived.Test.YtjfcjclhbnmgcaaSmall
namespace Go.Proofs.Ytjfcjclhbnmgcaa
open Go.RowKit

theorem enters_of {f : FuncId} {fn : Func} {c : Code} (hf : Try.prog.funcs[f]? = some fn) (hname : (fn.name == "runtime.NumGoroutine") = false) (hb : fn.body = some c) :
    ∀ (args : Array Value) (w : World), (callFunc f args).run Try.prog w = .ok (.enter f args) w := by
  intro args w
  have h1 : ¬ fn.name = "runtime.NumGoroutine" := by simpa using hname
  simp [callFunc, hf, h1, hb, go_sem]

def Great (low high : Int) (T : Int → Bool) (Inv : World → Prop) (e : Ending) (w' : World) : Prop :=
  ∃ r : Int, e = .returned (.int .i64 r) ∧ low ≤ r ∧ r ≤ high ∧ (low < r → T r = true) ∧ (r < high → T (r + 1) = false) ∧ Inv w'

set_option maxHeartbeats 400000 in
theorem greatest_any (f : FuncId) (capt : Array Value) (Inv : World → Prop) (T : Int → Bool) (low high : Int) (w : World)
    (hlo : -1000000000000000000 ≤ low) (hhi : high ≤ 1000000000000000000) (hlh : low ≤ high) (hw : Inv w)
    (hen : ∀ (args : Array Value) (w : World), (callFunc f args).run Try.prog w = .ok (.enter f args) w)
    (hT : ∀ (n : Int) (W : World), low < n → n ≤ high → Inv W → Calls Try.prog f (#[.int .i64 n] ++ capt) W fun e W' => e = .returned (.bool (T n)) ∧ Inv W') :
    Calls Try.prog 113 #[.int .i64 low, .int .i64 high, .func (.func f) #[] capt] w (Great low high T Inv) := by
  have HT := hide hT
  clear hT
  go_enter Try.func113, Try.ntmps113
  go_wp2
  go_loopw [0, 1] (fun l h wr => ∃ x y : Int, l = .int .i64 x ∧ h = .int .i64 y ∧ low ≤ x ∧ x ≤ y ∧ y ≤ high ∧ Hid (low < x → T x = true) ∧ Hid (y < high → T (y + 1) = false) ∧ Inv wr) (fun l h _ => (intOf h - intOf l).toNat)
  case atStart => exact ⟨low, high, rfl, rfl, by omega, hlh, by omega, fun h => by omega, fun h => by omega, hw⟩
  case round =>
    obtain ⟨x, y, rfl, rfl, h1, h2, h3, H4, H5, hI⟩ := hrel
    by_cases hlt : x < y
    · go_wp2_with fail
      refine (HT.out (x + (y - x + 1) / 2) _ (by omega) (by omega) hI).mono ?_
      rintro e w' ⟨rfl, hI'⟩
      clear hI HT
      cases hb : T (x + (y - x + 1) / 2)
      · have HB := hide hb
        clear hb
        go_wp2
        go_roundw
        case rel => exact ⟨x, x + (y - x + 1) / 2 - 1, rfl, rfl, h1, by omega, by omega, H4, fun _ => by rw [Int.sub_add_cancel]; exact HB.out, hI'⟩
        case measure => simp [intOf]; omega
      · have HB := hide hb
        clear hb
        go_wp2
        go_roundw
        case rel => exact ⟨x + (y - x + 1) / 2, y, rfl, rfl, by omega, by omega, h3, fun _ => HB.out, H5, hI'⟩
        case measure => simp [intOf]; omega
    · obtain rfl : x = y := by omega
      clear HT
      go_wp2
      go_ret
      exact ⟨x, rfl, h1, h3, H4, H5, hI⟩
end Go.Proofs.Ytjfcjclhbnmgcaa
