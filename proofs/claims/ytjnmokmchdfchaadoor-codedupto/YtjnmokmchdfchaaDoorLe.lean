import Derived.Test.YtjnmokmchdfchaaDoorLd
namespace Go.Proofs.YtjnmokmchdfchaaDoor
open Go.RowKit
attribute [local go_sem ↓] Go.wp_at_zero Go.wp_at_succ
/-- More bytes, or more frames, than the law speaks of. -/
theorem law_codedBig (w : World) (a : Option Addr) (n cap : Nat) (s : ByteArray) (hn : n ≤ 9223372036854775807) (hs : 16384 < s.size ∨ 1000 < n) : Calls Tryd.prog 3 #[.slice a n cap, .string s] w fun e w' => e = .returned (.bool true) ∧ w' = w := by
  by_cases h1 : 16384 < s.size
  · have d1 : decide (16384 < (s.size : Int)) = true := decide_eq_true (by omega)
    go_enter Tryd.func3, Tryd.ntmps3
    go_wp2_with fail
    go_ret
    exact ⟨rfl, rfl⟩
  · have d1 : decide (16384 < (s.size : Int)) = false := decide_eq_false (by omega)
    have d2 : decide (1000 < (n : Int)) = true := decide_eq_true (by omega)
    go_enter Tryd.func3, Tryd.ntmps3
    go_wp2_with fail
    go_ret
    exact ⟨rfl, rfl⟩
end Go.Proofs.YtjnmokmchdfchaaDoor
