import Derived.Test.YtjnmokmchdfchaaDoorVn
namespace Go.Proofs.YtjnmokmchdfchaaDoor
open Go.RowKit
attribute [local go_sem ↓] Go.wp_at_zero Go.wp_at_succ

set_option maxRecDepth 100000 in
set_option maxHeartbeats 1000000 in
theorem appendNumber_any (base : Nat) (a : Option Addr) (c : Nat) (l : List Int) (n : Int) (w : World) (ho : OwnB w base (.slice a l.length c) l) (hn : V62 n) (hbase : base ≤ w.heap.size) (hl : l.length ≤ 90000000) :
    Calls Tryd.prog 89 #[.slice a l.length c, .int .u64 n] w fun e w' =>
      ∃ a' c', e = .returned (.slice a' (l.length + (varL n).length) c') ∧ Grew w base (.slice a l.length c) w' (.slice a' (l.length + (varL n).length) c') (l ++ varL n) := by
  have hn' := hn
  obtain ⟨n0, n1⟩ := hn
  obtain ⟨k, p, H, hv, hk, hp, hor, h8⟩ : ∃ (k p : Nat) (H : Int), varL n = vbs (n + H) k ∧ ((k = 1 ∧ p = 0 ∧ H = 0) ∨ (k = 2 ∧ p = 1 ∧ H = 16384) ∨ (k = 4 ∧ p = 2 ∧ H = 2147483648) ∨ (k = 8 ∧ p = 3 ∧ H = 13835058055282163712)) ∧ pw n = (p : Int) ∧ bits .or .u64 n H = n + H ∧ 0 ≤ n + H ∧ n + H < 18446744073709551616 := by
    by_cases h1 : n < 64
    · refine ⟨1, 0, 0, by rw [Int.add_zero]; exact var1 h1 n0, .inl ⟨rfl, rfl, rfl⟩, by simp [pw, h1], ?_, by omega⟩
      have := orH n 0 6 n0 (by simpa using h1) (by decide)
      simpa using this
    · by_cases h2 : n < 16384
      · exact ⟨2, 1, 16384, var2 h1 h2, .inr (.inl ⟨rfl, rfl, rfl⟩), by simp [pw, h1, h2], by simpa using orH n 1 14 n0 (by simpa using h2) (by decide), by omega⟩
      · by_cases h3 : n < 1073741824
        · exact ⟨4, 2, 2147483648, var4 h1 h2 h3, .inr (.inr (.inl ⟨rfl, rfl, rfl⟩)), by simp [pw, h1, h2, h3], by simpa using orH n 2 30 n0 (by simpa using h3) (by decide), by omega⟩
        · exact ⟨8, 3, 13835058055282163712, var8 h1 h2 h3 hn', .inr (.inr (.inr ⟨rfl, rfl, rfl⟩)), by simp [pw, h1, h2, h3], by simpa using orH n 3 62 n0 (by simp; omega) (by decide), by omega⟩
  have hlen := vbs_len (n + H) k
  have htk := vbs_take (n + H) k
  rw [hv]
  rw [hlen]
  clear hv
  replace hlen := hide hlen
  replace htk := hide htk
  have hk1 : 1 ≤ k ∧ k ≤ 8 := by omega
  obtain ⟨S, hS2⟩ : ∃ S : Int, S = 8 * (k : Int) - 8 := ⟨_, rfl⟩
  replace hS2 := hide hS2
  obtain ⟨M, hM⟩ : ∃ M, M = n + H := ⟨_, rfl⟩
  rw [← hM] at hor h8 htk hlen ⊢
  replace hM := hide hM
  rcases hk with ⟨hk, rfl, rfl⟩ | ⟨hk, rfl, rfl⟩ | ⟨hk, rfl, rfl⟩ | ⟨hk, rfl, rfl⟩
  all_goals
    replace hk := hide hk
    go_enter Tryd.func89, Tryd.ntmps89
    go_wp2_with (go_at_call 103; refine (powerOf_any n _).mono ?_; rintro e w' ⟨rfl, rfl⟩; rw [hp])
    go_loopw [0, 7] (fun v i wr => ∃ (j : Nat) (a' : Option Addr) (c' : Nat), j ≤ k ∧ i = .int .i64 (S - 8 * (j : Int)) ∧ v = .slice a' (l.length + j) c' ∧ Grew w' base (.slice a l.length c) wr v (l ++ (vbs M k).take j)) (fun _ i _ => (intOf i + 8).toNat)
    case atStart => exact ⟨0, a, c, by omega, congrArg (Value.int .i64) (by have := unhide hk; have := unhide hS2; omega), rfl, by simpa using Grew.refl ho⟩
    case round =>
      obtain ⟨j, a', c', hj, rfl, rfl, o1⟩ := hrel
      by_cases hlt : j < k
      · obtain ⟨s, hs⟩ : ∃ s : Nat, (s : Int) = S - 8 * (j : Int) := ⟨8 * (k - 1) - 8 * j, by have := unhide hS2; omega⟩
        have hs8 : s = 8 * (k - 1) - 8 * j := by have := unhide hS2; omega
        have hs64 : s < 64 := by omega
        rw [← hs]
        replace hs := hide hs
        have ht := unhide htk j hlt
        rw [← hs8] at ht
        replace ht := hide ht
        clear hs8
        have hsz := o1.size
        have hw8 : W8 (M / 2 ^ s % 256) := by unfold W8; omega
        have bz := hide (one_new wr _ hw8)
        have o2 := hide (o1.still (World.grownBy_alloc wr (.cells #[.int .u8 (M / 2 ^ s % 256)] 5) none)).own
        have hlen2 : (l ++ (vbs M k).take j).length = l.length + j := by simp [unhide hlen]; omega
        replace hlen2 := hide hlen2
        replace o1 := hide o1
        obtain ⟨h80, h81⟩ := h8
        go_wp2_with (at_builtin; refine wpList_appendB (by rfl) _ _ (by rfl) base _ (l ++ (vbs M k).take j) (by rfl) (unhide o2) _ _ _ [M / 2 ^ s % 256] (by rfl) (unhide bz) ?_ ?_ ?_; (rw [unhide hlen2]; simp; omega); (simp; omega); rw [unhide hlen2]; intro a3 c3 w3 o3 g3 g4)
        go_roundw
        case rel =>
          refine ⟨j + 1, a3, c3, by omega, by have := unhide hs; simp; omega, rfl, ?_⟩
          rw [unhide ht, ← List.append_assoc]
          exact (unhide o1).app (World.grownBy_alloc _ _ _) o3 g3 g4
        case measure => have := unhide hs; simp [intOf]; omega
      · obtain rfl : j = k := by omega
        have hneg : ¬ (0 : Int) ≤ S - 8 * (j : Int) := by have := unhide hS2; omega
        go_wp2_with fail
        go_ret
        refine ⟨a', c', rfl, ?_⟩
        rw [List.take_of_length_le (by rw [unhide hlen]; exact Nat.le_refl _)] at o1
        exact o1
end Go.Proofs.YtjnmokmchdfchaaDoor
