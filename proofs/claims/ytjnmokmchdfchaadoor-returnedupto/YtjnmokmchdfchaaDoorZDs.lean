import Derived.Test.YtjnmokmchdfchaaDoorZDp
namespace Go.Proofs.YtjnmokmchdfchaaDoor
open Go.RowKit
attribute [local go_sem ↓] Go.wp_at_zero Go.wp_at_succ

def RngA (w : World) (X : Nat) (sl : Value) (st : Nat) (r : Option (List Rg × Nat)) (e : Ending) (w' : World) : Prop :=
  w.grownBy w' (some X) ∧ ((∃ rs q a' n' c', r = some (rs, q) ∧ e = .returned (.slice a' n' c') ∧ RSv w' a' n' c' rs ∧ (∀ x, a' = some x → w.heap.size ≤ x.block) ∧ RdS w' X sl q st) ∨ (r = none ∧ e = PN ∧ ∃ p', RdS w' X sl p' st))
theorem RdS.gb {w w' : World} {X : Nat} {sl : Value} {p st : Nat} {r : Option Nat} (h : RdS w X sl p st) (g : w.grownBy w' r) (hr : r ≠ some X) : RdS w' X sl p st :=
  (g.block X (Array.getElem?_eq_some_iff.1 h).1 (fun e => hr e.symm)).trans h
theorem RdS.lt {w : World} {X : Nat} {sl : Value} {p st : Nat} (h : RdS w X sl p st) : X < w.heap.size := (Array.getElem?_eq_some_iff.1 h).1
set_option maxRecDepth 100000 in
set_option maxHeartbeats 4000000 in
theorem pRanges_any (X bb o n cap : Nat) (l : List Int) (p st : Nat) (w : World) (hX : RdS w X (.slice (some ⟨bb, o, none⟩) n cap) p st) (hb : BSv w (some ⟨bb, o, none⟩) n cap l) (hXb : bb ≠ X) (hp : p ≤ l.length) (hl : l.length ≤ 100000000) :
    Calls Tryd.prog 95 #[.pointer (some ⟨X, 0, none⟩)] w (RngA w X (.slice (some ⟨bb, o, none⟩) n cap) st (rangesR l p)) := by
  have h8 := hb.1
  have hXl := hX.lt
  have hbg : ∀ W, w.grownBy W (some X) → BSv W (some ⟨bb, o, none⟩) n cap l := fun W g => hb.gb g (fun j e => .inr (.inr (fun x hx => by cases hx; cases e; exact hXb)))
  have hN : Hid (∀ (W : World) (q : Nat), w.grownBy W (some X) → RdS W X (.slice (some ⟨bb, o, none⟩) n cap) q st → q ≤ l.length → Calls Tryd.prog 98 #[.pointer (some ⟨X, 0, none⟩)] W (NumA W X (.slice (some ⟨bb, o, none⟩) n cap) st (numR l q))) := hide (fun W q g hx hq => pNumber_any X bb o n cap l q st W hx (hbg W g) hXb hq hl)
  clear hbg hb
  go_enter Tryd.func95, Tryd.ntmps95
  go_wp2_with fail
  refine (unhide hN w p (World.grownBy.refl _ _) hX hp).mono ?_
  rintro e w1 ⟨g1, ⟨hi, q1, hr1, rfl, hX1⟩ | ⟨hr1, rfl, hX1⟩⟩
  rotate_left
  · exact ⟨rfl, g1, .inr ⟨by unfold rangesR; rw [hr1]; rfl, rfl, hX1⟩⟩
  obtain ⟨⟨a0, a1⟩, a2, a3⟩ := numR_some h8 hr1
  replace hr1 := hide hr1
  go_wp2_with fail
  refine (unhide hN w1 q1 g1 hX1 a3).mono ?_
  rintro e w2 ⟨g2, ⟨more, q2, hr2, rfl, hX2⟩ | ⟨hr2, rfl, hX2⟩⟩
  rotate_left
  · exact ⟨rfl, gb_trans g1 g2, .inr ⟨by unfold rangesR; rw [unhide hr1]; simp [hr2], rfl, hX2⟩⟩
  obtain ⟨⟨b0, b1⟩, b2, b3⟩ := numR_some h8 hr2
  replace hr2 := hide hr2
  replace g2 := gb_trans g1 g2
  go_wp2_with fail
  refine (unhide hN w2 q2 g2 hX2 b3).mono ?_
  rintro e w3 ⟨g3, ⟨sz, q3, hr3, rfl, hX3⟩ | ⟨hr3, rfl, hX3⟩⟩
  rotate_left
  · exact ⟨rfl, gb_trans g2 g3, .inr ⟨by unfold rangesR; rw [unhide hr1]; simp [unhide hr2, hr3], rfl, hX3⟩⟩
  obtain ⟨⟨c0, c1⟩, c2, c3⟩ := numR_some h8 hr3
  replace hr3 := hide hr3
  replace g3 := gb_trans g2 g3
  go_wp2_with fail
  refine (less_any X hi sz w3 ⟨by omega, by omega⟩ ⟨by omega, by omega⟩).mono ?_
  rintro e w' ⟨rfl, ⟨hle, rfl⟩ | ⟨hgt, rfl⟩⟩
  rotate_left
  · exact ⟨rfl, g3, .inr ⟨by unfold rangesR; rw [unhide hr1]; simp [unhide hr2, unhide hr3]; omega, rfl, q3, hX3⟩⟩
  obtain ⟨w3, rfl⟩ : ∃ x, x = w' := ⟨_, rfl⟩
  obtain ⟨M, hM⟩ : ∃ M : Nat, (M : Int) = more := ⟨more.toNat, by omega⟩
  have hrg : rangesR l p = rgLoop l M q3 (hi - sz) [⟨hi - sz, hi⟩] := by
    unfold rangesR
    rw [unhide hr1]
    simp only [Option.bind_some, unhide hr2, unhide hr3, hle, if_true]
    rw [← hM, Int.toNat_natCast]
  have hO := ownR_one w3 ⟨hi - sz, hi⟩ ⟨⟨by simp; omega, by simp; omega⟩, by simp; omega, by simp; omega⟩ w.heap.size g3.size
  have hsz3 := g3.size
  rw [← hM]
  replace hM := hide hM
  replace hrg := hide hrg
  replace hO := hide hO
  have hX3' := hide (hX3.gb (World.grownBy_alloc w3 (.cells #[.int .u64 (hi - sz), .int .u64 hi] 54) none) (by simp))
  have g3' := hide (gb_trans' g3 (World.grownBy_alloc w3 (.cells #[.int .u64 (hi - sz), .int .u64 hi] 54) none) (fun j e => by cases e))
  go_wp2_with fail
  go_loopw [5, 6, 21] (fun lv v cv wr => ∃ (j q : Nat) (lo : Int) (acc : List Rg) (a' : Option Addr) (n' c' : Nat), j ≤ M ∧ cv = .int .u64 (j : Int) ∧ lv = .int .u64 lo ∧ v = .slice a' n' c' ∧ OwnR wr w.heap.size v acc ∧ RdS wr X (.slice (some ⟨bb, o, none⟩) n cap) q st ∧ w.grownBy wr (some X) ∧ acc.length ≤ q ∧ q ≤ l.length ∧ 0 ≤ lo ∧ lo ≤ 4611686018427387903 ∧ rangesR l p = rgLoop l (M - j) q lo acc) (fun _ _ cv _ => M - (intOf cv).toNat)
  case atStart => exact ⟨0, q3, hi - sz, _, _, _, _, by omega, rfl, rfl, rfl, unhide hO, unhide hX3', unhide g3', by simp; omega, c3, by omega, by omega, unhide hrg⟩
  case round =>
    obtain ⟨j, q, lo, acc, a', n', c', hj, rfl, rfl, rfl, hOj, hXj, gj, hacc, hq, lo0, lo1, hrj⟩ := hrel
    clear hO hX3' g3' hrg
    by_cases hlt : j < M
    · obtain ⟨m, hm⟩ : ∃ m, M - j = m + 1 := ⟨M - j - 1, by omega⟩
      rw [hm] at hrj
      have hm2 : m = M - (j + 1) := by omega
      replace hrj := hide hrj
      replace hm := hide hm
      replace hOj := hide hOj
      have hMw : (M : Int) ≤ 4611686018427387903 := by have := unhide hM; omega
      go_wp2_with fail
      refine (unhide hN wr q gj hXj hq).mono ?_
      rintro e w4 ⟨g4, ⟨gap, q4, hr4, rfl, hX4⟩ | ⟨hr4, rfl, hX4⟩⟩
      rotate_left
      · exact ⟨rfl, gb_trans gj g4, .inr ⟨by rw [unhide hrj]; simp [rgLoop, hr4], rfl, hX4⟩⟩
      obtain ⟨⟨d0, d1⟩, d2, d3⟩ := numR_some h8 hr4
      replace hr4 := hide hr4
      replace gj := gb_trans gj g4
      have hO4 := hide ((unhide hOj).gb g4 (by
        by_cases hv : (Value.slice a' n' c').ownBlock = none
        · exact .inl hv
        · exact .inr (fun e => by have := ((unhide hOj).lt X e).1; omega)))
      have hwg : IntKind.u64.wrap (gap + 2) = gap + 2 := by rw [IntKind.wrap_u64]; omega
      go_wp2_with fail
      refine (less_any X lo (gap + 2) w4 ⟨by omega, by omega⟩ ⟨by omega, by omega⟩).mono ?_
      rintro e w' ⟨rfl, ⟨hle2, rfl⟩ | ⟨hgt2, rfl⟩⟩
      rotate_left
      · refine ⟨rfl, gj, .inr ⟨?_, rfl, q4, hX4⟩⟩
        rw [unhide hrj]
        simp only [rgLoop, unhide hr4, Option.bind_some]
        cases numR l q4 with
        | none => rfl
        | some y => simp only [Option.bind_some]; rw [if_neg (by omega)]
      obtain ⟨w4, rfl⟩ : ∃ x, x = w' := ⟨_, rfl⟩
      go_wp2_with fail
      refine (unhide hN w4 q4 gj hX4 d3).mono ?_
      rintro e w5 ⟨g5, ⟨size, q5, hr5, rfl, hX5⟩ | ⟨hr5, rfl, hX5⟩⟩
      rotate_left
      · exact ⟨rfl, gb_trans gj g5, .inr ⟨by rw [unhide hrj]; simp [rgLoop, unhide hr4, hr5], rfl, hX5⟩⟩
      obtain ⟨⟨e0, e1⟩, e2, e3⟩ := numR_some h8 hr5
      replace hr5 := hide hr5
      replace gj := gb_trans gj g5
      have hO5 := hide ((unhide hO4).gb g5 (by
        by_cases hv : (Value.slice a' n' c').ownBlock = none
        · exact .inl hv
        · exact .inr (fun e => by have := ((unhide hO4).lt X e).1; omega)))
      obtain ⟨hi', hhi'⟩ : ∃ x, x = lo - (gap + 2) := ⟨_, rfl⟩
      rw [← hhi']
      have hi0 : 0 ≤ hi' ∧ hi' ≤ 4611686018427387903 := by omega
      replace hhi' := hide hhi'
      go_wp2_with fail
      refine (less_any X hi' size w5 ⟨by omega, by omega⟩ ⟨by omega, by omega⟩).mono ?_
      rintro e w' ⟨rfl, ⟨hle3, rfl⟩ | ⟨hgt3, rfl⟩⟩
      rotate_left
      · refine ⟨rfl, gj, .inr ⟨?_, rfl, q5, hX5⟩⟩
        rw [unhide hrj]
        simp only [rgLoop, unhide hr4, unhide hr5, Option.bind_some]
        rw [if_neg (by have := unhide hhi'; omega)]
      obtain ⟨w5, rfl⟩ : ∃ x, x = w' := ⟨_, rfl⟩
      obtain ⟨lo', hlo'⟩ : ∃ x, x = hi' - size := ⟨_, rfl⟩
      rw [← hlo']
      have hlo0 : 0 ≤ lo' ∧ lo' ≤ 4611686018427387903 := by omega
      have hstep : rangesR l p = rgLoop l (M - (j + 1)) q5 lo' (acc ++ [⟨lo', hi'⟩]) := by
        rw [unhide hrj]
        simp only [rgLoop, unhide hr4, unhide hr5, Option.bind_some]
        have q1 := unhide hhi'
        rw [if_pos (by omega), ← hm2]
        have z1 : lo - 2 - gap - size = lo' := by omega
        have z2 : lo - 2 - gap = hi' := by omega
        rw [z1, z2]
      replace hlo' := hide hlo'
      replace hstep := hide hstep
      have hO6 := hide ((unhide hO5).gb0 (World.grownBy_alloc w5 (.cells #[.int .u64 lo', .int .u64 hi'] 54) none))
      have hX6 := hide (hX5.gb (World.grownBy_alloc w5 (.cells #[.int .u64 lo', .int .u64 hi'] 54) none) (by simp))
      have g6 := hide (gb_trans' gj (World.grownBy_alloc w5 (.cells #[.int .u64 lo', .int .u64 hi'] 54) none) (fun j e => by cases e))
      have hz5 := gj.size
      have hz5X := hX5.lt
      go_wp2_with (at_builtin; refine wpList_appendR (by rfl) _ _ (by rfl) w.heap.size _ acc (by rfl) (unhide hO6) w5.heap.size 0 1 ⟨lo', hi'⟩ ⟨⟨by simp; omega, by simp; omega⟩, by simp; omega, by simp; omega⟩ (by rfl) (by simp) (by simp) (by omega) (by simp; omega) ?_; intro a7 n7 c7 w7 o7 g7 b7)
      go_roundw
      case rel =>
        refine ⟨j + 1, q5, lo', acc ++ [⟨lo', hi'⟩], a7, n7, c7, by omega, by simp, rfl, rfl, o7, ?_, ?_, by simp; omega, e3, by omega, by omega, unhide hstep⟩
        · exact (unhide hX6).gb g7 (fun e => by have := ((unhide hO6).lt X e).1; omega)
        · exact gb_trans' (unhide g6) g7 (fun k e => .inl ((unhide hO6).lt k e).1)
      case measure => simp [intOf]; omega
    · obtain rfl : j = M := by omega
      go_wp2_with fail
      go_ret
      have hrs := hOj.rsv
      exact ⟨gj, .inl ⟨acc, q, a', n', c', by rw [hrj, Nat.sub_self]; rfl, rfl, hrs.1, hrs.2, hXj⟩⟩
end Go.Proofs.YtjnmokmchdfchaaDoor
