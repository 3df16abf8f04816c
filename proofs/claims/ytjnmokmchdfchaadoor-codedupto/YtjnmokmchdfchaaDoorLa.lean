import Derived.Test.YtjnmokmchdfchaaDoorPe
import Derived.Laws.StructEq
namespace Go.Proofs.YtjnmokmchdfchaaDoor
open Go.RowKit
attribute [local go_sem ↓] Go.wp_at_zero Go.wp_at_succ

theorem under_rg : Tryd.prog.underlying 54 = some (.struct (Tryd.prog.fieldsOf 54)) := by kernel_rfl
theorem held_rg : Tryd.prog.stoodInHeld 54 = false := by kernel_rfl
theorem guard_rg : Tryd.prog.eqGuardType Tryd.prog.depth 54 = false := by kernel_rfl
theorem eqRg (lo hi : Int) (w : World) : (Op.equalIn 10000 54 (.agg #[.int .u64 lo, .int .u64 hi]) (.agg #[.int .u64 lo, .int .u64 hi])).run Tryd.prog w = .ok true w := by
  have u3 := Tryd.underlying33
  rw [show (10000 : Nat) = 9999 + 1 from rfl, run_equalIn_struct _ _ _ _ _ under_rg held_rg]
  go_simp
theorem rsv_cells {w : World} {a : Option Addr} {n c : Nat} {l : List Rg} (h : RSv w a n c l) (hn : 0 < n) : ∃ b o, a = some ⟨b, o, none⟩ ∧ ∀ i, i < n → w.cell? ⟨b, o + i * 2, none⟩ = some (.int .u64 (rgAt l i).lo) ∧ w.cell? ⟨b, o + i * 2 + 1, none⟩ = some (.int .u64 (rgAt l i).hi) := by
  obtain ⟨-, h2, h3, -, h5 | ⟨b, o, rfl, h5⟩⟩ := h
  · omega
  · refine ⟨b, o, rfl, fun i hi => ?_⟩
    have h6 := rcs_at l i (by omega)
    exact ⟨h5 _ _ h6.1, by rw [Nat.add_assoc]; exact h5 _ _ h6.2⟩
set_option maxRecDepth 100000 in
set_option maxHeartbeats 1000000 in
/-- Ranges that are the same. -/
theorem sameRanges_eq (w : World) (a a' : Option Addr) (n c c' : Nat) (l : List Rg) (h : RSv w a n c l) (h' : RSv w a' n c' l) :
    Calls Tryd.prog 28 #[.slice a n c, .slice a' n c'] w fun e w' => e = .returned (.bool true) ∧ ∃ k, w' = w.drewN k := by
  have hn6 : n ≤ 9223372036854775807 := by
    have h9 := h.2.2.2.1
    have h8 := h.2.2.1
    unfold maxLen at h9
    omega
  go_enter Tryd.func28, Tryd.ntmps28
  go_wp2_with fail
  go_loopw [5] (fun i wr => ∃ j k : Nat, j ≤ n ∧ i = .int .i64 (j : Int) ∧ wr = w.drewN k) (fun i _ => n - (intOf i).toNat)
  case atStart => exact ⟨0, 0, by omega, rfl, rfl⟩
  case round =>
    obtain ⟨j, k, hj, rfl, rfl⟩ := hrel
    by_cases hlt : j < n
    · obtain ⟨b, o, rfl, hc⟩ := rsv_cells h (by omega)
      obtain ⟨b', o', rfl, hc'⟩ := rsv_cells h' (by omega)
      obtain ⟨x1, x2⟩ := hc j hlt
      obtain ⟨y1, y2⟩ := hc' j hlt
      have e1 : decide ((j : Int) < (n : Int)) = true := decide_eq_true (by omega)
      have i1 : (0 : Int) ≤ (j : Int) := by omega
      have i2 : (j : Int) < (n : Int) := by omega
      have hq := eqRg (rgAt l j).lo (rgAt l j).hi
      have hgd := guard_rg
      generalize rgAt l j = r at *
      replace h := hide h
      replace h' := hide h'
      replace hc := hide hc
      replace hc' := hide hc'
      go_wp2_with fail
      go_quiet (fail)
      go_wp2_with fail
      go_roundw
      case rel => exact ⟨j + 1, _, by omega, by simp, rfl⟩
      case measure => simp [intOf]; omega
    · obtain rfl : j = n := by omega
      go_wp2_with fail
      go_ret
      exact ⟨rfl, k, rfl⟩
end Go.Proofs.YtjnmokmchdfchaaDoor
