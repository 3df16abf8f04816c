import Derived.Test.YtjnmokmchdfchaaDoorZFs
namespace Go.Proofs.YtjnmokmchdfchaaDoor
open Go.RowKit
attribute [local go_sem ↓] Go.wp_at_zero Go.wp_at_succ

set_option maxRecDepth 100000 in
set_option maxHeartbeats 4000000 in
theorem sound_any (f : Fr) (rv : Value) (w : World) (h : FrV w f rv) :
    Calls Tryd.prog 22 #[.agg (frA f rv)] w fun e w' => Says (soundP f) e ∧ w.grownBy w' none := by
  obtain ⟨⟨⟨k0, k1⟩, ⟨s0, s1⟩, ⟨o0, o1⟩, ⟨c0, c1⟩, hr⟩, hds, ra, cap, rfl, hrs⟩ := h
  obtain ⟨k, s, o, c, fin, d, rg⟩ := f
  obtain ⟨R, hR⟩ : ∃ R : Prop, R = ((o ≤ 4611686018427387903 ∧ c ≤ 4611686018427387903 ∧ 0 ≤ s ∧ s < 4) ∧ ((k = 3 → fallP rg) ∧ (k = 5 → (d.size : Int) ≤ 4611686018427387903 - o)) ∧ 1 ≤ k ∧ k ≤ 6) := ⟨_, rfl⟩
  have hE : soundP ⟨k, s, o, c, fin, d, rg⟩ = R := hR.symm
  rw [hE]
  clear hE
  simp only [frA] at *
  replace hR := hide hR
  by_cases q1 : 4611686018427387903 < o
  · go_enter Tryd.func22, Tryd.ntmps22
    go_wp2_with fail
    go_ret
    exact ⟨says_f (fun hp => by rw [unhide hR] at hp; have := hp.1.1; omega), World.grownBy_alloc _ _ _⟩
  by_cases q2 : 4611686018427387903 < c
  · go_enter Tryd.func22, Tryd.ntmps22
    go_wp2_with fail
    go_ret
    exact ⟨says_f (fun hp => by rw [unhide hR] at hp; have := hp.1.2.1; omega), World.grownBy_alloc _ _ _⟩
  by_cases q3 : s < 0
  · go_enter Tryd.func22, Tryd.ntmps22
    go_wp2_with fail
    go_ret
    exact ⟨says_f (fun hp => by rw [unhide hR] at hp; have := hp.1.2.2.1; omega), World.grownBy_alloc _ _ _⟩
  by_cases q4 : 4 ≤ s
  · go_enter Tryd.func22, Tryd.ntmps22
    go_wp2_with fail
    go_ret
    exact ⟨says_f (fun hp => by rw [unhide hR] at hp; have := hp.1.2.2.2; omega), World.grownBy_alloc _ _ _⟩
  have hb : o ≤ 4611686018427387903 ∧ c ≤ 4611686018427387903 ∧ 0 ≤ s ∧ s < 4 := by omega
  replace hb := hide hb
  by_cases k3 : k = 3
  · subst k3
    obtain ⟨n, hn⟩ : ∃ n, n = rg.length := ⟨_, rfl⟩
    rw [← hn] at hrs ⊢
    have hcap := hrs.2.2.1
    have hmax := hrs.2.2.2.1
    unfold maxLen at hmax
    have hRf : ¬ fallP rg → ¬ R := fun hf hp => by rw [unhide hR] at hp; exact hf (hp.2.1.1 rfl)
    have hRt : fallP rg → R := fun hf => by rw [unhide hR]; exact ⟨unhide hb, ⟨fun _ => hf, fun h => by cases h⟩, by decide, by decide⟩
    replace hRf := hide hRf
    replace hRt := hide hRt
    replace hn := hide hn
    clear hR
    obtain ⟨W0, hW0⟩ : ∃ W, W = w.alloc (.cells #[.int .i64 3, .int .i64 s, .int .u64 o, .int .u64 c, .bool fin, .string d, .slice ra n cap] 46) := ⟨_, rfl⟩
    have gW0 : w.grownBy W0 none := by rw [hW0]; exact World.grownBy_alloc _ _ _
    have hc6 : Hid (∀ W, W0.grownBy W none → W.cell? ⟨w.heap.size, 6, none⟩ = some (.slice ra n cap)) := hide (fun W g => g.cell (show W0.cell? ⟨w.heap.size, 6, none⟩ = some (.slice ra n cap) by rw [hW0]; simp) (by simp))
    go_enter Tryd.func22, Tryd.ntmps22
    go_wp2_with fail
    rw [← hW0]
    replace hW0 := hide hW0
    go_loopw [3] (fun i wr => ∃ j : Nat, j ≤ n ∧ i = .int .i64 (j : Int) ∧ (∀ i, i < j → fallAt rg i) ∧ W0.grownBy wr none) (fun i _ => n - (intOf i).toNat)
    case atStart => exact ⟨0, by omega, rfl, fun i hi => by omega, World.grownBy.refl _ _⟩
    case round =>
      obtain ⟨j, hj, rfl, hall, g1⟩ := hrel
      have x1 := unhide hc6 wr g1
      have gw := gb_trans gW0 g1
      by_cases hlt : j < n
      · have h1 := hrs.gb0 gw
        obtain ⟨-, -, -, -, h0 | ⟨b, p, rfl, -⟩⟩ := id h1
        · omega
        · obtain ⟨y1, y2⟩ := h1.cell j (by have := unhide hn; omega)
          have hok := rgAt_ok hrs.1 j
          obtain ⟨⟨l1, l2⟩, l3, l4⟩ := hok
          obtain ⟨lo, hlo⟩ : ∃ x, x = (rgAt rg j).lo := ⟨_, rfl⟩
          obtain ⟨hi, hhi⟩ : ∃ x, x = (rgAt rg j).hi := ⟨_, rfl⟩
          rw [← hlo] at y1 l1 l2
          rw [← hhi] at y2 l3 l4
          replace hlo := hide hlo
          replace hhi := hide hhi
          replace hall := hide hall
          have x2 : (wr.alloc (.cells #[.int .u64 lo, .int .u64 hi] 54)).cell? ⟨w.heap.size, 6, none⟩ = some (.slice (some ⟨b, p, none⟩) n cap) := unhide hc6 _ (gb_alloc g1 _)
          have gq := hide (gb_alloc gw (.cells #[.int .u64 lo, .int .u64 hi] 54))
          have i1 : (0 : Int) ≤ (j : Int) := by omega
          have i2 : (j : Int) < (n : Int) := by omega
          by_cases r1 : hi < lo
          · have e1 : decide (hi < lo) = true := by simp [r1]
            go_wp2_with fail
            go_quiet (fail)
            go_wp2_with fail
            go_ret
            exact ⟨says_f (unhide hRf (fun hf => by have := (hf.2 j (by have := unhide hn; omega)).1; rw [← unhide hlo, ← unhide hhi] at this; omega)), gb_drewN (unhide gq) _⟩
          have e1 : decide (hi < lo) = false := by simp [r1]
          by_cases r2 : 4611686018427387903 < hi
          · have e2 : decide (4611686018427387903 < hi) = true := by simp [r2]
            go_wp2_with fail
            go_quiet (fail)
            go_wp2_with fail
            go_ret
            exact ⟨says_f (unhide hRf (fun hf => by have := (hf.2 j (by have := unhide hn; omega)).2.1; rw [← unhide hhi] at this; omega)), gb_drewN (unhide gq) _⟩
          have e2 : decide (4611686018427387903 < hi) = false := by simp [r2]
          rcases j with _ | i
          · rw [Nat.zero_mul, Nat.add_zero] at y1 y2
            have e3 : decide ((0 : Int) < 0) = false := by simp
            go_wp2_with fail
            go_quiet (fail)
            go_wp2_with fail
            go_roundw
            case rel => exact ⟨1, by omega, by simp, fun i hi => by
              obtain rfl : i = 0 := by omega
              exact ⟨by rw [← unhide hlo, ← unhide hhi]; omega, by rw [← unhide hhi]; omega, fun h => by omega⟩, gb_drewN (gb_alloc g1 _) _⟩
            case measure => simp [intOf]; omega
          · obtain ⟨y3, -⟩ := (h1.gb0 (World.grownBy_alloc wr (.cells #[.int .u64 lo, .int .u64 hi] 54) none)).cell i (by have := unhide hn; omega)
            have hok := rgAt_ok hrs.1 i
            obtain ⟨⟨l5, l6⟩, -⟩ := hok
            obtain ⟨lp, hlp⟩ : ∃ x, x = (rgAt rg i).lo := ⟨_, rfl⟩
            rw [← hlp] at y3 l5 l6
            replace hlp := hide hlp
            have hwi : IntKind.i64.wrap (i : Int) = (i : Int) := by simp [IntKind.wrap, IntKind.bits, IntKind.signed]; omega
            have e3 : decide ((0 : Int) < (i : Int) + 1) = true := decide_eq_true (by omega)
            have i3 : (0 : Int) ≤ (i : Int) := by omega
            have i4 : (i : Int) < (n : Int) := by omega
            by_cases r3 : lp < 2
            · have e4 : decide (lp < 2) = true := by simp [r3]
              go_wp2_with fail
              go_quiet (fail)
              go_wp2_with fail
              go_ret
              exact ⟨says_f (unhide hRf (fun hf => by have := (hf.2 (i + 1) (by have := unhide hn; omega)).2.2 (by omega); rw [Nat.add_sub_cancel, ← unhide hhi, ← unhide hlp] at this; omega)), gb_drewN (unhide gq) _⟩
            have e4 : decide (lp < 2) = false := by simp [r3]
            have hwl : IntKind.u64.wrap (lp - 2) = lp - 2 := by rw [IntKind.wrap_u64]; omega
            by_cases r4 : lp - 2 < hi
            · have e5 : decide (lp - 2 < hi) = true := by simp [r4]
              go_wp2_with fail
              go_quiet (fail)
              go_wp2_with fail
              go_ret
              exact ⟨says_f (unhide hRf (fun hf => by have := (hf.2 (i + 1) (by have := unhide hn; omega)).2.2 (by omega); rw [Nat.add_sub_cancel, ← unhide hhi, ← unhide hlp] at this; omega)), gb_drewN (unhide gq) _⟩
            · have e5 : decide (lp - 2 < hi) = false := by simp [r4]
              go_wp2_with fail
              go_quiet (fail)
              go_wp2_with fail
              go_roundw
              case rel =>
                refine ⟨i + 1 + 1, by omega, by simp, fall_step (unhide hall) ⟨by rw [← unhide hlo, ← unhide hhi]; omega, by rw [← unhide hhi]; omega, fun _ => ?_⟩, gb_drewN (gb_alloc g1 _) _⟩
                rw [Nat.add_sub_cancel, ← unhide hhi, ← unhide hlp]; omega
              case measure => simp [intOf]; omega
      · obtain rfl : j = n := by omega
        replace hall := hide hall
        go_wp2_with fail
        go_ret
        refine ⟨⟨_, rfl, ?_⟩, gw⟩
        by_cases h0 : 0 < j
        · have hf : fallP rg := ⟨by have := unhide hn; omega, fun i hi => unhide hall i (by have := unhide hn; omega)⟩
          simp [h0, unhide hRt hf]
        · have hf : ¬ fallP rg := fun hf => by have := hf.1; have := unhide hn; omega
          simp [h0, unhide hRf hf]
  by_cases k5 : k = 5
  · subst k5
    have hw1 : IntKind.u64.wrap (4611686018427387903 - o) = 4611686018427387903 - o := by rw [IntKind.wrap_u64]; omega
    have hw2 : IntKind.u64.wrap (d.size : Int) = (d.size : Int) := by rw [IntKind.wrap_u64]; omega
    go_enter Tryd.func22, Tryd.ntmps22
    go_wp2_with fail
    go_ret
    refine ⟨says_d (by have hb' := unhide hb; rw [unhide hR]; simp [hb']), World.grownBy_alloc _ _ _⟩
  · by_cases g1 : 1 ≤ k
    · by_cases g2 : k ≤ 6
      · go_enter Tryd.func22, Tryd.ntmps22
        go_wp2_with fail
        go_ret
        exact ⟨says_t (by rw [unhide hR]; exact ⟨unhide hb, ⟨fun h => absurd h k3, fun h => absurd h k5⟩, g1, g2⟩), World.grownBy_alloc _ _ _⟩
      · go_enter Tryd.func22, Tryd.ntmps22
        go_wp2_with fail
        go_ret
        exact ⟨says_f (fun hp => by rw [unhide hR] at hp; have := hp.2.2.2; omega), World.grownBy_alloc _ _ _⟩
    · go_enter Tryd.func22, Tryd.ntmps22
      go_wp2_with fail
      go_ret
      exact ⟨says_f (fun hp => by rw [unhide hR] at hp; have := hp.2.2.1; omega), World.grownBy_alloc _ _ _⟩
end Go.Proofs.YtjnmokmchdfchaaDoor
