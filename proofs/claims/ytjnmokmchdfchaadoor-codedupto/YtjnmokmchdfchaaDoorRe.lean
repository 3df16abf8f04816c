import Derived.Test.YtjnmokmchdfchaaDoorRs
import Derived.Test.YtjnmokmchdfchaaDoorRw
import Derived.Test.YtjnmokmchdfchaaDoorFe
namespace Go.Proofs.YtjnmokmchdfchaaDoor
open Go.RowKit
attribute [local go_sem ↓] Go.wp_at_zero Go.wp_at_succ

set_option maxRecDepth 100000 in
set_option maxHeartbeats 4000000 in
theorem refEncode_any (w : World) (a : Option Addr) (n cap : Nat) (fs : List Fr) (h : FSv w a n cap fs) (hbk : bulkL fs ≤ 30000000) :
    Calls Tryd.prog 7 #[.slice a n cap] w (EncAns w fs (.tuple #[.slice none 0 0, .int .i64 5]) (fun v => .tuple #[v, .int .i64 0])) := by
  have hn := h.1
  have hcap := h.2.1
  have hmax := h.2.2.1
  unfold maxLen at hmax
  replace hn := hide hn
  go_enter Tryd.func7, Tryd.ntmps7
  go_wp2_with fail
  go_loopw [4, 5] (fun v i wr => ∃ (j : Nat) (q : Bool), j ≤ n ∧ i = .int .i64 (j : Int) ∧ v = .bool q ∧ (q = true ↔ 0 < n ∧ ∀ i, i < j → soundP (frAt fs i)) ∧ w.grownBy wr none) (fun _ i _ => n - (intOf i).toNat)
  case atStart => exact ⟨0, decide (0 < n), by omega, rfl, by simp, by simp, World.grownBy.refl _ _⟩
  case round =>
    obtain ⟨j, q, hj, rfl, rfl, hq, g1⟩ := hrel
    cases q
    · have hbad : ¬ EncOk fs := fun hk => by
        have := hq.2 ⟨by have := hk.1; have := unhide hn; omega, fun i hi => hk.2 i (by have := unhide hn; omega)⟩
        cases this
      replace hbad := hide hbad
      replace hq := hide hq
      by_cases hlt : j < n
      · go_wp2_with fail
        go_ret2
        exact ⟨.inr ⟨unhide hbad, rfl⟩, g1⟩
      · go_wp2_with fail
        go_ret2
        exact ⟨.inr ⟨unhide hbad, rfl⟩, g1⟩
    · by_cases hlt : j < n
      · have h1 := h.gb0 g1
        obtain ⟨b, o, rfl⟩ : ∃ b o, a = some ⟨b, o, none⟩ := by
          obtain ⟨-, -, -, ⟨rfl, hc⟩ | ⟨b, o, rfl, -⟩⟩ := h
          · omega
          · exact ⟨b, o, rfl⟩
        obtain ⟨rv, hfv, hrg⟩ := h1.at j (by have := unhide hn; omega)
        have hqq := hide (hq.1 rfl)
        have hSD := hide (sound_any (frAt fs j) rv wr hfv)
        replace hrg := hide hrg
        replace hfv := hide hfv
        replace hq := hide hq
        have i1 : (0 : Int) ≤ (j : Int) := by omega
        have i2 : (j : Int) < (n : Int) := by omega
        have hif := hide info_fr
        replace h := hide h
        replace h1 := hide h1
        go_wp2_with (refine wpList_load_mid (by rfl) 46 _ (by rfl) b (o + j * 7) (by rfl) (fcs (frAt fs j) rv) _ (unhide hrg) Tryd.underlying46 (by rfl) (unhide hif) ?_)
        refine (unhide hSD).mono ?_
        rintro e w2 ⟨⟨q, rfl, hq2⟩, g2⟩
        replace hq2 := hide hq2
        go_wp2_with fail
        go_roundw
        case rel =>
          refine ⟨j + 1, q, by omega, by simp, rfl, ?_, gb_trans g1 g2⟩
          have hq1 := unhide hqq
          refine (unhide hq2).trans ⟨fun hs => ⟨hq1.1, fun i hi => ?_⟩, fun hs => hs.2 j (by omega)⟩
          rcases Nat.lt_succ_iff_lt_or_eq.1 hi with h9 | rfl
          · exact hq1.2 i h9
          · exact hs
        case measure => simp [intOf]; omega
      · obtain rfl : j = n := by omega
        have hok : EncOk fs := ⟨by have := (hq.1 rfl).1; have := unhide hn; omega, fun i hi => (hq.1 rfl).2 i (by have := unhide hn; omega)⟩
        have hnp := (hq.1 rfl).1
        have h1 := h.gb0 g1
        obtain ⟨b, o, rfl⟩ : ∃ b o, a = some ⟨b, o, none⟩ := by
          obtain ⟨-, -, -, ⟨rfl, hc⟩ | ⟨b, o, rfl, -⟩⟩ := h
          · omega
          · exact ⟨b, o, rfl⟩
        obtain ⟨wq, rfl⟩ : ∃ x, x = wr := ⟨_, rfl⟩
        replace hok := hide hok
        replace hq := hide hq
        replace h := hide h
        go_wp2_with fail
        go_loopw [6, 7] (fun v i wz => ∃ (k : Nat) (a' : Option Addr) (n' c' : Nat), k ≤ j ∧ i = .int .i64 (k : Int) ∧ v = .slice a' n' c' ∧ Grew wq wq.heap.size (.slice none 0 0) wz v (encL (fs.take k))) (fun _ i _ => j - (intOf i).toNat)
        case atStart => exact ⟨0, none, 0, 0, by omega, rfl, rfl, Grew.refl (OwnB.nil _ _)⟩
        case round =>
          obtain ⟨k, a', n', c', hk, rfl, rfl, Gk⟩ := hrel
          have gk := Gk.old (World.grownBy.refl _ _) (OwnB.nil _ _) (Nat.le_refl _)
          by_cases hlt : k < j
          · obtain ⟨rv, hfv, hrg⟩ := h1.at k (by have := unhide hn; omega)
            have hrk := range_gb hrg gk (by simp)
            have hs := (unhide hok).2 k (by have := unhide hn; omega)
            have hbj := bulk_at (l := fs) (j := k) (by have := unhide hn; omega)
            have hel := encL_len (fs.take k)
            have hwr : encL (fs.take (k + 1)) = encL (fs.take k) ++ writtenL (frAt fs k) := by rw [encL_take fs k (by have := unhide hn; omega), frAt_eq (by have := unhide hn; omega)]
            have en : n' = (encL (fs.take k)).length := Gk.own.bsv.2.1
            subst en
            have hWR := hide (written_any (frAt fs k) rv wr (hfv.gb0 gk) hs wq.heap.size a' c' (encL (fs.take k)) Gk.own gk.size (by omega) wq hfv gk (Nat.le_refl _))
            replace hrk := hide hrk
            replace hrg := hide hrg
            replace hfv := hide hfv
            replace Gk := hide Gk
            replace hwr := hide hwr
            replace hbj := hide hbj
            replace hel := hide hel
            replace hs := hide hs
            replace h1 := hide h1
            have i1 : (0 : Int) ≤ (k : Int) := by omega
            have i2 : (k : Int) < (j : Int) := by omega
            have hif := hide info_fr
            go_wp2_with (refine wpList_load_mid (by rfl) 46 _ (by rfl) b (o + k * 7) (by rfl) (fcs (frAt fs k) rv) _ (unhide hrk) Tryd.underlying46 (by rfl) (unhide hif) ?_)
            refine (unhide hWR).mono ?_
            rintro e w2 ⟨a2, n2, c2, rfl, G2⟩
            go_wp2_with fail
            go_roundw
            case rel => exact ⟨k + 1, a2, n2, c2, by omega, by simp, rfl, by rw [unhide hwr]; exact (unhide Gk).trans G2⟩
            case measure => simp [intOf]; omega
          · obtain rfl : k = j := by omega
            go_wp2_with fail
            go_ret2
            refine ⟨.inl ⟨unhide hok, a', n', c', rfl, ?_⟩, gb_trans g1 gk⟩
            rw [List.take_of_length_le (by have := unhide hn; omega)] at Gk
            exact Gk.own.lower' g1.size
end Go.Proofs.YtjnmokmchdfchaaDoor
