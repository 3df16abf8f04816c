import Derived.Test.YtjnmokmchdfchaaDoorZSip
import Derived.Test.YtjnmokmchdfchaaDoorZBase
import Derived.Deep.QuietTactic
import Derived.BigQuiet
namespace Go.Proofs.YtjnmokmchdfchaaDoor
open Go.RowKit
attribute [local go_sem ↓] Go.wp_at_zero Go.wp_at_succ

def rnds (s : S4) : Nat → S4
  | 0 => s
  | k + 1 => rnd (rnds s k)
theorem rnds_ok {s : S4} (h : s.ok) (k : Nat) : (rnds s k).ok := by
  induction k with
  | zero => exact h
  | succ k ih => exact rnd_ok ih

theorem rounds_any (B n : Nat) (s : S4) (w0 w : World) (h : StS B s w0 w) (hs : s.ok) (hn : n ≤ 100) : Calls Tryd.prog 67 #[.pointer (some ⟨B, 0, none⟩), .int .i64 n] w fun e w' => e = .returned (.tuple #[]) ∧ StS B (rnds s n) w0 w' := by
  go_enter Tryd.func67, Tryd.ntmps67
  go_wp2
  go_loopw [5] (fun i wr => ∃ k : Nat, k ≤ n ∧ i = .int .i64 k ∧ StS B (rnds s k) w0 wr) (fun i _ => n - (intOf i).toNat)
  case atStart => exact ⟨0, by omega, rfl, h⟩
  case round =>
    obtain ⟨k, hk, rfl, hst⟩ := hrel
    have hok := rnds_ok hs k
    by_cases hlt : k < n
    · go_wp2_with (first | (go_at_call 85; refine (round_any B _ _ _ _ w0 _ hst hok.2.1 hok.2.2.2).mono ?_; rintro e w' ⟨rfl, hst'⟩))
      go_roundw
      case rel => exact ⟨k + 1, by omega, by go_num, hst'⟩
      case measure => simp [intOf]; omega
    · obtain rfl : k = n := by omega
      go_wp2
      go_end0
      exact ⟨rfl, hst⟩

set_option maxRecDepth 100000 in
theorem mix_any (B : Nat) (s : S4) (m : Int) (w0 w : World) (h : StS B s w0 w) (hs : s.ok) (hm : W64 m) : Calls Tryd.prog 48 #[.pointer (some ⟨B, 0, none⟩), .int .u64 m] w fun e w' => e = .returned (.tuple #[]) ∧ StS B (mixS s m) w0 w' := by
  obtain ⟨a, b, c, d⟩ := s
  have HS : St B a b c d w0 w := h
  obtain ⟨⟨h0, h1, h2, h3⟩, hf⟩ := h.cells
  clear h
  go_enter Tryd.func48, Tryd.ntmps48
  go_upto_region 0 with fail
  go_cut [] (fun wx => StS B ⟨a, b, c, xo d m⟩ w0 wx)
  case first =>
    go_region
    all_goals
      go_wp2_with fail
      go_meet
      exact (HS.s3 _).drew
  case rest =>
    clear h0 h1 h2 h3 hf HS
    have hok : (S4.mk a b c (xo d m)).ok := ⟨hs.1, hs.2.1, hs.2.2.1, xo_w hs.2.2.2 hm⟩
    go_wp2_with (first | (go_at_call 67; refine (rounds_any B 2 _ w0 _ hcut hok (by decide)).mono ?_; rintro e w' ⟨rfl, hst'⟩))
    obtain ⟨t, ht⟩ : ∃ t, t = rnds ⟨a, b, c, xo d m⟩ 2 := ⟨_, rfl⟩
    rw [← ht] at hst'
    obtain ⟨a', b', c', d'⟩ := t
    have hmix : Hid (mixS ⟨a, b, c, d⟩ m = ⟨xo a' m, b', c', d'⟩) := by
      show S4.mk (xo (rnds ⟨a, b, c, xo d m⟩ 2).a m) (rnds ⟨a, b, c, xo d m⟩ 2).b (rnds ⟨a, b, c, xo d m⟩ 2).c (rnds ⟨a, b, c, xo d m⟩ 2).d = _
      rw [← ht]
    clear ht
    have HS : St B a' b' c' d' w0 _ := hst'
    obtain ⟨⟨h0, h1, h2, h3⟩, hf⟩ := HS.cells
    clear hcut hst'
    go_region
    all_goals
      go_end0
      refine ⟨rfl, ?_⟩
      rw [unhide hmix]
      exact (HS.s0 _).drew

set_option maxRecDepth 100000 in
set_option maxHeartbeats 1000000 in
theorem end_any (B : Nat) (s : S4) (w0 w : World) (h : StS B s w0 w) (hs : s.ok) : Calls Tryd.prog 50 #[.pointer (some ⟨B, 0, none⟩)] w fun e w' => e = .returned (.int .u64 (endS s)) ∧ w0.grownBy w' (some B) := by
  obtain ⟨a, b, c, d⟩ := s
  have HS : St B a b c d w0 w := h
  obtain ⟨⟨h0, h1, h2, h3⟩, hf⟩ := h.cells
  clear h
  go_enter Tryd.func50, Tryd.ntmps50
  go_upto_region 1 with fail
  go_cut [] (fun wx => StS B ⟨a, b, xo c 255, d⟩ w0 wx)
  case first =>
    go_region
    all_goals
      go_wp2_with fail
      go_meet
      exact (HS.s2 _).drew
  case rest =>
    clear h0 h1 h2 h3 hf HS
    have hok : (S4.mk a b (xo c 255) d).ok := ⟨hs.1, hs.2.1, xo_w hs.2.2.1 (by unfold W64; omega), hs.2.2.2⟩
    go_wp2_with (first | (go_at_call 67; refine (rounds_any B 4 _ w0 _ hcut hok (by decide)).mono ?_; rintro e w' ⟨rfl, hst'⟩))
    obtain ⟨t, ht⟩ : ∃ t, t = rnds ⟨a, b, xo c 255, d⟩ 4 := ⟨_, rfl⟩
    rw [← ht] at hst'
    obtain ⟨a', b', c', d'⟩ := t
    have hend : Hid (endS ⟨a, b, c, d⟩ = xo (xo (xo a' b') c') d') := by
      show xo (xo (xo (rnds ⟨a, b, xo c 255, d⟩ 4).a (rnds ⟨a, b, xo c 255, d⟩ 4).b) (rnds ⟨a, b, xo c 255, d⟩ 4).c) (rnds ⟨a, b, xo c 255, d⟩ 4).d = _
      rw [← ht]
    clear ht
    have HS : St B a' b' c' d' w0 _ := hst'
    obtain ⟨⟨h0, h1, h2, h3⟩, hf⟩ := HS.cells
    clear hcut hst'
    go_quiet (fail)
    go_wp2
    go_ret
    exact ⟨by rw [unhide hend]; rfl, gb_drewN HS.2 _⟩
end Go.Proofs.YtjnmokmchdfchaaDoor
