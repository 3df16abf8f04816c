import Derived.Test.YtjnmokmchdfchaaDoorLc
import Derived.Test.YtjnmokmchdfchaaDoorRe
import Derived.Lib.ConvBytes
namespace Go.Proofs.YtjnmokmchdfchaaDoor
open Go.RowKit
attribute [local go_sem ↓] Go.wp_at_zero Go.wp_at_succ
theorem BSv.nil' (W : World) : BSv W none 0 0 [] := ⟨fun x hx => by simp at hx, rfl, Nat.le_refl _, by simp [maxLen], .inl ⟨rfl, rfl⟩⟩
noncomputable def decFs (l : List Int) : List Fr := (decR l).1.getD []
noncomputable def decE (l : List Int) : Int := if (decR l).1.isSome then 0 else 5
theorem RDec.form {w w' : World} {l : List Int} {e : Ending} (h : RDec w l e w') {N : Nat} {E K : Int} (hN : N = (decFs l).length) (hE : E = decE l) (hK : K = (decR l).2) :
    ∃ a c, e = .returned (.tuple #[.slice a N c, .int .i64 E, .int .i64 K]) ∧ FSv w' a N c (decFs l) ∧ w.grownBy w' none := by
  obtain ⟨g, ⟨its, a, n, c, hd, rfl, ho⟩ | ⟨p, hd, rfl⟩⟩ := h
  · have hf := ho.fsv
    have h1 : decFs l = its.map (·.1) := by unfold decFs; rw [hd]; rfl
    have h2 : E = 0 := by rw [hE]; unfold decE; rw [hd]; rfl
    have h3 : K = -1 := by rw [hK, hd]
    have h4 : n = N := by rw [hN, h1]; exact hf.1
    subst h2 h3 h4
    exact ⟨a, c, rfl, by rw [h1]; exact hf, g⟩
  · have h1 : decFs l = [] := by unfold decFs; rw [hd]; rfl
    have h2 : E = 5 := by rw [hE]; unfold decE; rw [hd]; rfl
    have h3 : K = (p : Int) := by rw [hK, hd]
    have h4 : N = 0 := by rw [hN, h1]; rfl
    subst h2 h3 h4
    exact ⟨none, 0, rfl, by rw [h1]; exact ⟨rfl, Nat.le_refl _, by simp [maxLen], .inl ⟨rfl, rfl⟩⟩, g⟩
set_option maxRecDepth 100000 in
set_option maxHeartbeats 1000000 in
theorem law_coded (w : World) (a : Option Addr) (n cap : Nat) (fs : List Fr) (s : ByteArray) (h : FSv w a n cap fs) (hbk : bulkL fs ≤ 30000000) (hL : Laid w) (hn : n ≤ 1000) (hs : s.size ≤ 16384) : Calls Tryd.prog 3 #[.slice a n cap, .string s] w fun e w' => e = .returned (.bool true) ∧ w.grownBy w' none := by
  have d1 : decide (16384 < (s.size : Int)) = false := decide_eq_false (by omega)
  have d2 : decide (1000 < (n : Int)) = false := decide_eq_false (by omega)
  have hnf : n = fs.length := h.1
  have hE1 := hide (plainEncode_any w a n cap fs h hbk (by omega) hL)
  replace hnf := hide hnf
  replace h := hide h
  have hLt := hL.lt
  replace hL := hide hL
  go_enter Tryd.func3, Tryd.ntmps3
  go_wp2_with fail
  refine (unhide hE1).mono ?_
  clear hE1
  rintro e w1 ⟨⟨hok, a1, n1, c1, rfl, o1⟩ | ⟨hok, rfl⟩, g1⟩
  · have hpos := encL_pos hok
    have hE2 := hide (refEncode_any w1 a n cap fs ((unhide h).gb0 g1) hbk)
    replace hok := hide hok
    have hn1 : n1 = (encL fs).length := o1.bsv.2.1
    replace o1 := hide o1
    replace hn1 := hide hn1
    replace hpos := hide hpos
    go_wp2_with fail
    refine (unhide hE2).mono ?_
    clear hE2
    rintro e w2 ⟨⟨-, a2, n2, c2, rfl, o2⟩ | ⟨hok2, -⟩, g2⟩
    · have hn2 : n2 = (encL fs).length := o2.bsv.2.1
      have o1' := (unhide o1).gb0 g2
      have hx := conv_str o1'.bsv
      have hy := conv_str o2.bsv
      have dn : ((n1 : Int) == 0) = false := by have h8 := unhide hn1; have h9 := unhide hpos; simp; omega
      replace hn2 := hide hn2
      have hcv := conv_bytes s
      replace o1' := hide o1'
      replace o2 := hide o2
      have gg2 := gb_trans g1 g2
      have hblw : (bl s).length ≤ 90000000 := by rw [bl_len]; omega
      have hD1 := hide (plainDecode_any (Lib.bytesWorld w2 5 s) _ _ _ (bl s) (conv_bsvL w2 s (by omega)) hblw ((unhide hL).gb (gb_trans gg2 (conv_gb w2 s)) (by simp)))
      obtain ⟨N, hN⟩ : ∃ N, N = (decFs (bl s)).length := ⟨_, rfl⟩
      obtain ⟨E, hE⟩ : ∃ E, E = decE (bl s) := ⟨_, rfl⟩
      obtain ⟨K, hK⟩ : ∃ K, K = (decR (bl s)).2 := ⟨_, rfl⟩
      replace hN := hide hN
      replace hE := hide hE
      replace hK := hide hK
      go_wp2_with fail
      refine (unhide hD1).mono ?_
      clear hD1
      intro e w3 hR3
      obtain ⟨a3, c3, rfl, f3, g3⟩ := hR3.form (unhide hN) (unhide hE) (unhide hK)
      clear hR3
      replace f3 := hide f3
      have gg3 := gb_trans (gb_trans gg2 (conv_gb w2 s)) g3
      have hD2 := hide (refDecode_any (Lib.bytesWorld w3 5 s) _ _ _ (bl s) (conv_bsvL w3 s (by omega)) (by omega))
      go_wp2_with fail
      refine (unhide hD2).mono ?_
      clear hD2
      intro e w4 hR4
      obtain ⟨a4, c4, rfl, f4, g4⟩ := hR4.form (unhide hN) (unhide hE) (unhide hK)
      clear hR4
      have gg4 := gb_trans (gb_trans gg3 (conv_gb w3 s)) g4
      have hS1 := hide (sameFrames_eq w4 a3 a4 N c3 c4 _ ((unhide f3).gb0 (gb_trans (conv_gb w3 s) g4)) f4)
      replace f4 := hide f4
      go_wp2_with fail
      refine (unhide hS1).mono ?_
      clear hS1
      rintro e w5 ⟨rfl, g5⟩
      have gg5 := gb_trans gg4 g5
      have o5 := hide ((unhide o2).gb0 (gb_trans (gb_trans (gb_trans (gb_trans (conv_gb w2 s) g3) (conv_gb w3 s)) g4) g5))
      have dm : ((n2 : Int) == 0) = false := by have h8 := unhide hn2; have h9 := unhide hpos; simp; omega
      have hel := encL_len fs
      have hD3 := hide (plainDecode_any w5 _ _ _ (encL fs) (unhide o5).bsv (by omega) ((unhide hL).gb gg5 (by simp)))
      replace hel := hide hel
      obtain ⟨N2, hN2⟩ : ∃ N, N = (decFs (encL fs)).length := ⟨_, rfl⟩
      obtain ⟨E2, hE2⟩ : ∃ E, E = decE (encL fs) := ⟨_, rfl⟩
      obtain ⟨K2, hK2⟩ : ∃ K, K = (decR (encL fs)).2 := ⟨_, rfl⟩
      replace hN2 := hide hN2
      replace hE2 := hide hE2
      replace hK2 := hide hK2
      go_wp2_with fail
      refine (unhide hD3).mono ?_
      clear hD3
      intro e w6 hR6
      obtain ⟨a6, c6, rfl, f6, g6⟩ := hR6.form (unhide hN2) (unhide hE2) (unhide hK2)
      clear hR6
      replace f6 := hide f6
      have hD4 := hide (refDecode_any w6 _ _ _ (encL fs) ((unhide o5).gb0 g6).bsv (by have := unhide hel; omega))
      go_wp2_with fail
      refine (unhide hD4).mono ?_
      clear hD4
      intro e w7 hR7
      obtain ⟨a7, c7, rfl, f7, g7⟩ := hR7.form (unhide hN2) (unhide hE2) (unhide hK2)
      clear hR7
      have hS2 := hide (sameFrames_eq w7 a6 a7 N2 c6 c7 _ ((unhide f6).gb0 g7) f7)
      replace f7 := hide f7
      go_wp2_with fail
      refine (unhide hS2).mono ?_
      clear hS2
      rintro e w8 ⟨rfl, g8⟩
      have gg8 := gb_trans (gb_trans (gb_trans gg5 g6) g7) g8
      go_wp2_with fail
      go_ret
      exact ⟨rfl, gg8⟩
    · exact absurd (unhide hok) hok2
  · have hE2 := hide (refEncode_any w1 a n cap fs ((unhide h).gb0 g1) hbk)
    replace hok := hide hok
    go_wp2_with fail
    refine (unhide hE2).mono ?_
    clear hE2
    rintro e w2 ⟨⟨hok2, -⟩ | ⟨-, rfl⟩, g2⟩
    · exact absurd hok2 (unhide hok)
    · have hcv := conv_bytes s
      have hnn := fun W => conv_str (BSv.nil' W)
      have gg2 := gb_trans g1 g2
      have hblw : (bl s).length ≤ 90000000 := by rw [bl_len]; omega
      have hD1 := hide (plainDecode_any (Lib.bytesWorld w2 5 s) _ _ _ (bl s) (conv_bsvL w2 s (by omega)) hblw ((unhide hL).gb (gb_trans gg2 (conv_gb w2 s)) (by simp)))
      obtain ⟨N, hN⟩ : ∃ N, N = (decFs (bl s)).length := ⟨_, rfl⟩
      obtain ⟨E, hE⟩ : ∃ E, E = decE (bl s) := ⟨_, rfl⟩
      obtain ⟨K, hK⟩ : ∃ K, K = (decR (bl s)).2 := ⟨_, rfl⟩
      replace hN := hide hN
      replace hE := hide hE
      replace hK := hide hK
      go_wp2_with fail
      refine (unhide hD1).mono ?_
      clear hD1
      intro e w3 hR3
      obtain ⟨a3, c3, rfl, f3, g3⟩ := hR3.form (unhide hN) (unhide hE) (unhide hK)
      clear hR3
      replace f3 := hide f3
      have gg3 := gb_trans (gb_trans gg2 (conv_gb w2 s)) g3
      have hD2 := hide (refDecode_any (Lib.bytesWorld w3 5 s) _ _ _ (bl s) (conv_bsvL w3 s (by omega)) (by omega))
      go_wp2_with fail
      refine (unhide hD2).mono ?_
      clear hD2
      intro e w4 hR4
      obtain ⟨a4, c4, rfl, f4, g4⟩ := hR4.form (unhide hN) (unhide hE) (unhide hK)
      clear hR4
      have gg4 := gb_trans (gb_trans gg3 (conv_gb w3 s)) g4
      have hS1 := hide (sameFrames_eq w4 a3 a4 N c3 c4 _ ((unhide f3).gb0 (gb_trans (conv_gb w3 s) g4)) f4)
      replace f4 := hide f4
      go_wp2_with fail
      refine (unhide hS1).mono ?_
      clear hS1
      rintro e w5 ⟨rfl, g5⟩
      have gg5 := gb_trans gg4 g5
      go_wp2_with fail
      go_ret
      exact ⟨rfl, gg5⟩
end Go.Proofs.YtjnmokmchdfchaaDoor
