import Derived.Test.YtjnmokmchdfchaaDoorZDs
namespace Go.Proofs.YtjnmokmchdfchaaDoor
open Go.RowKit
attribute [local go_sem ↓] Go.wp_at_zero Go.wp_at_succ

/-- The document's reader in memory. -/
def RfS (w : World) (X : Nat) (sl : Value) (p : Nat) (bad : Bool) : Prop := w.heap[X]? = some (.cells #[sl, .int .i64 (p : Int), .bool bad] 65 (0, 0))
theorem RfS.gb {w w' : World} {X : Nat} {sl : Value} {p : Nat} {bad : Bool} {r : Option Nat} (h : RfS w X sl p bad) (g : w.grownBy w' r) (hr : r ≠ some X) : RfS w' X sl p bad :=
  (g.block X (Array.getElem?_eq_some_iff.1 h).1 (fun e => hr e.symm)).trans h
theorem RfS.lt {w : World} {X : Nat} {sl : Value} {p : Nat} {bad : Bool} (h : RfS w X sl p bad) : X < w.heap.size := (Array.getElem?_eq_some_iff.1 h).1
theorem RfS.setBad {w : World} {X : Nat} {sl : Value} {p : Nat} {bad : Bool} (h : RfS w X sl p bad) (b : Bool) : RfS (w.setCell ⟨X, 2, none⟩ (.bool b)) X sl p b := by
  unfold RfS at *
  rw [heap_set h]; rfl
theorem RfS.setAt {w : World} {X : Nat} {sl : Value} {p : Nat} {bad : Bool} (h : RfS w X sl p bad) (q : Nat) : RfS (w.setCell ⟨X, 1, none⟩ (.int .i64 (q : Int))) X sl q bad := by
  unfold RfS at *
  rw [heap_set h]; rfl
theorem RfS.drewN {w : World} {X : Nat} {sl : Value} {p : Nat} {bad : Bool} (h : RfS w X sl p bad) (n : Nat) : RfS (w.drewN n) X sl p bad := h
def RNum (w : World) (X : Nat) (sl : Value) (p : Nat) (bad : Bool) (r : Option (Int × Nat)) (e : Ending) (w' : World) : Prop :=
  w.grownBy w' (some X) ∧ ((∃ v q, r = some (v, q) ∧ e = .returned (.int .u64 v) ∧ RfS w' X sl q bad) ∨ (r = none ∧ e = .returned (.int .u64 0) ∧ RfS w' X sl p true))
set_option maxRecDepth 100000 in
set_option maxHeartbeats 4000000 in
theorem rNumber_any (X bb o n cap : Nat) (l : List Int) (p : Nat) (bad : Bool) (w : World) (hX : RfS w X (.slice (some ⟨bb, o, none⟩) n cap) p bad) (hb : BSv w (some ⟨bb, o, none⟩) n cap l) (hp : p ≤ l.length) (hl : l.length ≤ 100000000) :
    Calls Tryd.prog 45 #[.pointer (some ⟨X, 0, none⟩)] w (RNum w X (.slice (some ⟨bb, o, none⟩) n cap) p bad (numR l p)) := by
  have h8 := hb.1
  have hn : n = l.length := hb.2.1
  have hXl := hX.lt
  obtain ⟨x0, x1, x2, xf⟩ := cells3 hX
  by_cases hpl : l.length ≤ p
  · have e1 : decide ((n : Int) ≤ (p : Int)) = true := decide_eq_true (by omega)
    have e2 : decide (n ≤ p) = true := decide_eq_true (by omega)
    have hnone : numR l p = none := numR_none (by have := szOf_pos (l.getD p 0); omega)
    replace hn := hide hn
    replace hnone := hide hnone
    go_enter Tryd.func45, Tryd.ntmps45
    go_wp2_with fail
    go_quiet (fail)
    go_wp2_with fail
    go_ret
    exact ⟨gb_set (gb_none (gb_drewN (World.grownBy.refl _ _) _) _) _ _ (.inr rfl), .inr ⟨unhide hnone, rfl, RfS.setBad (w := w.drewN _) hX true⟩⟩
  · have e1 : decide ((n : Int) ≤ (p : Int)) = false := decide_eq_false (by omega)
    have e2 : decide (n ≤ p) = false := decide_eq_false (by omega)
    obtain ⟨b1, o1, hbe, hc⟩ := bs_one hb (by omega)
    cases hbe
    have y1 := hc p (by omega)
    have ht8 := getD_w8 h8 p
    obtain ⟨t, ht⟩ : ∃ t, t = l.getD p 0 := ⟨_, rfl⟩
    rw [← ht] at y1 ht8
    have hk := szOf_k ht8
    have hv0 : numV l p 0 = t % 64 := by rw [ht]; rfl
    obtain ⟨D, hD, hsz, hD3⟩ : ∃ D : Nat, t / 64 = (D : Int) ∧ szOf t = 2 ^ D ∧ D ≤ 3 := by
      rcases hk with ⟨h1, h2⟩ | ⟨h1, h2⟩ | ⟨h1, h2⟩ | ⟨h1, h2⟩
      · exact ⟨0, h2, h1, by omega⟩
      · exact ⟨1, h2, h1, by omega⟩
      · exact ⟨2, h2, h1, by omega⟩
      · exact ⟨3, h2, h1, by omega⟩
    obtain ⟨K, hK⟩ : ∃ K, K = 2 ^ D := ⟨_, rfl⟩
    have hK8 : 1 ≤ K ∧ K ≤ 8 := by
      rw [hK]
      have e : D = 0 ∨ D = 1 ∨ D = 2 ∨ D = 3 := by omega
      rcases e with rfl | rfl | rfl | rfl <;> decide
    have hsome : p + K ≤ l.length → numR l p = some (numV l p (K - 1), p + K) := fun h => by
      have := numR_at (l := l) (p := p) (by rw [← ht, hsz, ← hK]; exact h)
      rwa [← ht, hsz, ← hK] at this
    have hnone : l.length < p + K → numR l p = none := fun h => numR_none (by rw [← ht, hsz, ← hK]; exact h)
    have hvl := numV_lt h8 p
    obtain ⟨F, hF0, hFD, hpw⟩ : ∃ F : Nat → Nat, F 0 = 1 ∧ F D = K ∧ ∀ j, j < D → F j ≤ 4 ∧ F (j + 1) = 2 * F j := ⟨fun j => 2 ^ j, rfl, hK.symm, fun j hj => by
      have e : j = 0 ∨ j = 1 ∨ j = 2 := by omega
      rcases e with rfl | rfl | rfl <;> decide⟩
    replace hF0 := hide hF0
    replace hFD := hide hFD
    replace hpw := hide hpw
    obtain ⟨t0, t1⟩ := ht8
    have i1 : (0 : Int) ≤ (p : Int) := by omega
    have i2 : (p : Int) < (n : Int) := by omega
    replace hc := hide hc
    replace hn := hide hn
    replace ht := hide ht
    replace hv0 := hide hv0
    replace hsz := hide hsz
    replace hK := hide hK
    replace hsome := hide hsome
    replace hnone := hide hnone
    replace hvl := hide hvl
    replace hD := hide hD
    clear hk
    go_enter Tryd.func45, Tryd.ntmps45
    go_wp2_with fail
    go_quiet (fail)
    go_wp2_with fail
    go_quiet (fail)
    go_wp2_with fail
    go_quiet (fail)
    go_wp2_with fail
    go_loop [4, 5] (fun s k => ∃ j : Nat, j ≤ D ∧ k = .int .u8 ((D : Int) - (j : Int)) ∧ s = .int .i64 ((F j : Nat) : Int)) (fun _ k => (intOf k).toNat)
    case atStart => exact ⟨0, by omega, by rw [unhide hD]; simp, by rw [unhide hF0]; rfl⟩
    case round =>
      obtain ⟨j, hj, rfl, rfl⟩ := hrel
      by_cases hjD : j < D
      · obtain ⟨q1, q2⟩ := unhide hpw j hjD
        obtain ⟨S, hS⟩ : ∃ S, S = F j := ⟨_, rfl⟩
        rw [← hS] at q1 q2 ⊢
        replace hS := hide hS
        replace q2 := hide q2
        obtain ⟨r, hr⟩ : ∃ r : Nat, (r : Int) + 1 = (D : Int) - (j : Int) := ⟨D - j - 1, by omega⟩
        rw [← hr]
        replace hr := hide hr
        have hr3 : r ≤ 2 := by have := unhide hr; omega
        go_wp2_with fail
        go_round
        case rel => exact ⟨j + 1, by omega, by have := unhide hr; simp; omega, by rw [unhide q2, show ((2 * S : Nat) : Int) = (S : Int) * 2 by omega]⟩
        case measure => simp [intOf]; omega
      · obtain rfl : j = D := by omega
        rw [unhide hFD, Int.sub_self]
        have hw1 : IntKind.i64.wrap ((p : Int) + (K : Int)) = (p : Int) + (K : Int) := by simp [IntKind.wrap, IntKind.bits, IntKind.signed]; omega
        by_cases hle : p + K ≤ l.length
        · have e5 : decide ((n : Int) < (p : Int) + (K : Int)) = false := decide_eq_false (by have := unhide hn; omega)
          have hsm := hide (unhide hsome hle)
          go_wp2_with fail
          go_quiet (fail)
          go_wp2_with fail
          go_loopw [3, 6] (fun v i wr => ∃ j : Nat, j + 1 ≤ K ∧ i = .int .i64 ((j : Int) + 1) ∧ v = .int .u64 (numV l p j) ∧ w.grownBy wr none ∧ RfS wr X (.slice (some ⟨bb, o, none⟩) n cap) p bad) (fun _ i _ => K - (intOf i).toNat)
          case atStart => exact ⟨0, by omega, rfl, by rw [unhide hv0], (by repeat (first | exact World.grownBy.refl _ _ | refine gb_drewN ?_ _)), hX⟩
          case round =>
            obtain ⟨i, hi, rfl, rfl, gi, hXi⟩ := hrel
            obtain ⟨z0, z1, z2, zf⟩ := cells3 hXi
            by_cases hlt : i + 1 < K
            · have y3 := gi.cell (unhide hc (p + (i + 1)) (by have := unhide hn; omega)) (by simp)
              have hx8 := getD_w8 h8 (p + (i + 1))
              have hst : numV l p (i + 1) = numV l p i * 256 + l.getD (p + (i + 1)) 0 := rfl
              have hv := unhide hvl i
              have hpw2 : (256 : Int) ^ i ≤ 256 ^ 6 := by
                have : (256 : Nat) ^ i ≤ 256 ^ 6 := Nat.pow_le_pow_right (by decide) (by omega)
                have e : ∀ k : Nat, (256 : Int) ^ k = ((256 ^ k : Nat) : Int) := fun k => by simp
                rw [e, e]; omega
              have hv2 : numV l p i < 72057594037927936 := by omega
              obtain ⟨hv1, -⟩ := hv
              replace hst := hide hst
              generalize numV l p i = v at *
              generalize l.getD (p + (i + 1)) 0 = x at *
              obtain ⟨x3, x4⟩ := hx8
              have hwv : IntKind.u64.wrap (v * 256) = v * 256 := by rw [IntKind.wrap_u64]; omega
              have hwx : IntKind.u64.wrap (v * 256 + x) = v * 256 + x := by rw [IntKind.wrap_u64]; omega
              have hwp : IntKind.i64.wrap ((p : Int) + ((i : Int) + 1)) = (p : Int) + ((i : Int) + 1) := by simp [IntKind.wrap, IntKind.bits, IntKind.signed]; omega
              have i3 : (0 : Int) ≤ (p : Int) + ((i : Int) + 1) := by omega
              have i4 : (p : Int) + ((i : Int) + 1) < (n : Int) := by have := unhide hn; omega
              have htn : ((p : Int) + ((i : Int) + 1)).toNat = p + (i + 1) := by omega
              go_wp2_with fail
              go_quiet (fail)
              go_wp2_with fail
              go_roundw
              case rel => exact ⟨i + 1, by omega, by simp, by rw [unhide hst], gb_drewN gi _, hXi⟩
              case measure => simp [intOf]; omega
            · obtain rfl : K = i + 1 := by omega
              rw [Nat.add_sub_cancel] at hsm
              go_wp2_with fail
              go_ret
              exact ⟨gb_set (gb_none gi _) _ _ (.inr rfl), .inl ⟨_, _, unhide hsm, rfl, RfS.setAt hXi (p + (i + 1))⟩⟩
        · have e5 : decide ((n : Int) < (p : Int) + (K : Int)) = true := decide_eq_true (by have := unhide hn; omega)
          have hnn := hide (unhide hnone (by omega))
          go_wp2_with fail
          go_quiet (fail)
          go_wp2_with fail
          go_ret
          exact ⟨gb_set (gb_none (gb_drewN (World.grownBy.refl _ _) _) _) _ _ (.inr rfl), .inr ⟨unhide hnn, rfl, RfS.setBad (w := w.drewN _) hX true⟩⟩
end Go.Proofs.YtjnmokmchdfchaaDoor
