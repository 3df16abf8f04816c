import Derived.Test.YtjnmokmchdfchaaDoorFo
namespace Go.Proofs.YtjnmokmchdfchaaDoor
open Go.RowKit
attribute [local go_sem ↓] Go.wp_at_zero Go.wp_at_succ

def ShA (w : World) (L : List Sh) (t : Int) (e : Ending) (w' : World) : Prop :=
  ((∃ j, j < 7 ∧ (shAt L j).t = t ∧ e = .returned (.tuple #[.agg #[.int .i64 (shAt L j).k, .bool (shAt L j).fin, .int .u8 (shAt L j).t, .slice (shAt L j).pa (shAt L j).n (shAt L j).n], .bool true])) ∨
    ((∀ j, j < 7 → ¬ (shAt L j).t = t) ∧ e = .returned (.tuple #[.agg #[.int .i64 0, .bool false, .int .u8 0, .slice none 0 0], .bool false]))) ∧ w.grownBy w' none
set_option maxRecDepth 100000 in
set_option maxHeartbeats 2000000 in
theorem shapeAt_any (w : World) (T P2 P3 P4 P5 P6 Bo Bc : Nat) (hT : Tab w T P2 P3 P4 P5 P6 Bo Bc) (t : Int) :
    Calls Tryd.prog 81 #[.slice (some ⟨T, 0, none⟩) 7 7, .int .u8 t] w (ShA w (shs P2 P3 P4 P5 P6) t) := by
  have hat := fun (W : World) (g : w.grownBy W none) => (hT.gb0 g).at
  generalize shs P2 P3 P4 P5 P6 = L at *
  clear hT
  obtain ⟨W0, hW0⟩ : ∃ W0, W0 = w.alloc (.cells #[.int .i64 0, .bool false, .int .u8 0, .slice none 0 0] 94) := ⟨_, rfl⟩
  have hbx : ∀ W : World, W0.grownBy W none → W.heap[w.heap.size]? = some (.cells #[.int .i64 0, .bool false, .int .u8 0, .slice none 0 0] 94 (0, 0)) ∧ w.grownBy W none := fun W g =>
    ⟨(g.block _ (by rw [hW0]; simp) (by simp)).trans (by rw [hW0]; exact heap_alloc_new _ _), gb_trans (by rw [hW0]; exact World.grownBy_alloc _ _ _) g⟩
  replace hbx := hide hbx
  replace hat := hide hat
  go_enter Tryd.func81, Tryd.ntmps81
  go_wp2_with fail
  rw [← hW0]
  replace hW0 := hide hW0
  go_loopw [10] (fun i wr => ∃ j : Nat, j ≤ 7 ∧ i = .int .i64 (j : Int) ∧ (∀ i, i < j → ¬ (shAt L i).t = t) ∧ W0.grownBy wr none) (fun i _ => 7 - (intOf i).toNat)
  case atStart => exact ⟨0, by omega, rfl, fun i hi => by omega, World.grownBy.refl _ _⟩
  case round =>
    obtain ⟨j, hj, rfl, hall, g1⟩ := hrel
    obtain ⟨b2, gw⟩ := unhide hbx wr g1
    by_cases hlt : j < 7
    · obtain ⟨c1, c2, c3, c4⟩ := unhide hat wr gw j hlt
      obtain ⟨S, hS⟩ : ∃ S, S = shAt L j := ⟨_, rfl⟩
      rw [← hS] at c1 c2 c3 c4
      obtain ⟨K, FN, TT, PA, PN⟩ := S
      simp only at c1 c2 c3 c4
      have hstep : Hid (¬ TT = t → ∀ i, i < j + 1 → ¬ (shAt L i).t = t) := hide (fun hn i hi => by
        rcases Nat.lt_succ_iff_lt_or_eq.1 hi with h1 | rfl
        · exact hall i h1
        · rw [← hS]; exact hn)
      replace hall := hide hall
      replace hS := hide hS
      have i1 : (0 : Int) ≤ (j : Int) := by omega
      have i2 : (j : Int) < 7 := by omega
      by_cases hK : TT = t
      · have eK : (TT == t) = true := by simp [hK]
        replace hK := hide hK
        have hb2 : (wr.alloc (.cells #[.int .i64 K, .bool FN, .int .u8 TT, .slice PA PN PN] 94)).heap[w.heap.size]? = some (.cells #[.int .i64 0, .bool false, .int .u8 0, .slice none 0 0] 94 (0, 0)) := (Below.heap_alloc _ _ _ (Array.getElem?_eq_some_iff.1 b2).1).trans b2
        have z0 := (cells4 hb2).1
        have z1 := (cells4 hb2).2.1
        have z2 := (cells4 hb2).2.2.1
        have z3 := (cells4 hb2).2.2.2.1
        have zf := (cells4 hb2).2.2.2.2
        replace hb2 := hide hb2
        replace b2 := hide b2
        go_wp2_with fail
        refine bodyPost_ret (v := .tuple #[.agg #[.int .i64 K, .bool FN, .int .u8 TT, .slice PA PN PN], .bool true]) ?_ rfl ?_
        · simp [results, Tryd.results81, go_sem, z0, z1, z2, z3]
        · exact ⟨.inl ⟨j, hlt, by rw [← unhide hS]; exact unhide hK, by rw [← unhide hS]⟩, gb_set (gb_set (gb_set (gb_set (gb_alloc gw _) _ _ (.inl (Nat.le_refl _))) _ _ (.inl (Nat.le_refl _))) _ _ (.inl (Nat.le_refl _))) _ _ (.inl (Nat.le_refl _))⟩
      · have eK : (TT == t) = false := by simp [hK]
        replace b2 := hide b2
        go_wp2_with fail
        go_roundw
        case rel => exact ⟨j + 1, by omega, by simp, unhide hstep hK, gb_alloc g1 _⟩
        case measure => simp [intOf]; omega
    · obtain rfl : j = 7 := by omega
      have z0 := (cells4 b2).1
      have z1 := (cells4 b2).2.1
      have z2 := (cells4 b2).2.2.1
      have z3 := (cells4 b2).2.2.2.1
      have zf := (cells4 b2).2.2.2.2
      replace b2 := hide b2
      replace hall := hide hall
      go_wp2_with fail
      refine bodyPost_ret (v := .tuple #[.agg #[.int .i64 0, .bool false, .int .u8 0, .slice none 0 0], .bool false]) ?_ rfl ?_
      · simp [results, Tryd.results81, go_sem, z0, z1, z2, z3]
      · exact ⟨.inr ⟨unhide hall, rfl⟩, gb_set (gb_set (gb_set (gb_set gw _ _ (.inl (Nat.le_refl _))) _ _ (.inl (Nat.le_refl _))) _ _ (.inl (Nat.le_refl _))) _ _ (.inl (Nat.le_refl _))⟩
end Go.Proofs.YtjnmokmchdfchaaDoor
