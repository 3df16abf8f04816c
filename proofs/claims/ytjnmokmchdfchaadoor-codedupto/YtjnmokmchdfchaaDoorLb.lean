import Derived.Test.YtjnmokmchdfchaaDoorLa
namespace Go.Proofs.YtjnmokmchdfchaaDoor
open Go.RowKit
attribute [local go_sem ↓] Go.wp_at_zero Go.wp_at_succ

theorem _root_.Go.World.rangeAt.gb0' {w w' : World} {b o : Nat} {cs : List Value} (h : w.rangeAt b o cs) (g : w.grownBy w' none) : w'.rangeAt b o cs := range_gb h g (by simp)
set_option maxRecDepth 100000 in
set_option maxHeartbeats 1000000 in
/-- Frames that are the same. -/
theorem sameFrames_eq (w : World) (a a' : Option Addr) (n c c' : Nat) (fs : List Fr) (h : FSv w a n c fs) (h' : FSv w a' n c' fs) :
    Calls Tryd.prog 10 #[.slice a n c, .slice a' n c'] w fun e w' => e = .returned (.bool true) ∧ w.grownBy w' none := by
  have hn6 : n ≤ 9223372036854775807 := by
    have h9 := h.2.2.1
    have h8 := h.2.1
    unfold maxLen at h9
    omega
  go_enter Tryd.func10, Tryd.ntmps10
  go_wp2_with fail
  go_loopw [5] (fun i wr => ∃ j : Nat, j ≤ n ∧ i = .int .i64 (j : Int) ∧ w.grownBy wr none) (fun i _ => n - (intOf i).toNat)
  case atStart => exact ⟨0, by omega, rfl, World.grownBy.refl _ _⟩
  case round =>
    obtain ⟨j, hj, rfl, g1⟩ := hrel
    by_cases hlt : j < n
    · have hjf : j < fs.length := by have := h.1; omega
      obtain ⟨b, o, rfl⟩ : ∃ b o, a = some ⟨b, o, none⟩ := by
        obtain ⟨-, h9, -, ⟨rfl, hc⟩ | ⟨b, o, rfl, -⟩⟩ := h
        · omega
        · exact ⟨b, o, rfl⟩
      obtain ⟨b', o', rfl⟩ : ∃ b o, a' = some ⟨b, o, none⟩ := by
        obtain ⟨-, h9, -, ⟨rfl, hc⟩ | ⟨b, o, rfl, -⟩⟩ := h'
        · omega
        · exact ⟨b, o, rfl⟩
      obtain ⟨rv, hfv, hrg⟩ := (h.gb0 g1).at j hjf
      obtain ⟨rv', hfv', hrg'⟩ := (h'.gb0 g1).at j hjf
      generalize frAt fs j = f at *
      obtain ⟨kd, sm, of, cd, fin, d, rg⟩ := f
      obtain ⟨hf1, hf2, ra, rc, rfl, hrs⟩ := hfv
      obtain ⟨-, -, ra', rc', rfl, hrs'⟩ := hfv'
      simp only at hrs hrs' hrg hrg'
      obtain ⟨O1, hO1⟩ : ∃ O : Obj, O = .cells #[.int .i64 kd, .int .i64 sm, .int .u64 of, .int .u64 cd, .bool fin, .string d, .slice ra rg.length rc] 46 := ⟨_, rfl⟩
      obtain ⟨O2, hO2⟩ : ∃ O : Obj, O = .cells #[.int .i64 kd, .int .i64 sm, .int .u64 of, .int .u64 cd, .bool fin, .string d, .slice ra' rg.length rc'] 46 := ⟨_, rfl⟩
      have ga : wr.grownBy (wr.alloc O1) none := World.grownBy_alloc _ _ _
      have gb : wr.grownBy ((wr.alloc O1).alloc O2) none := gb_alloc ga _
      have k1 : ((wr.alloc O1).alloc O2).heap[wr.heap.size]? = some O1 := keepH (heap_alloc_new wr O1) (World.grownBy_alloc _ _ _)
      have k2 : ((wr.alloc O1).alloc O2).heap[wr.heap.size + 1]? = some O2 := by
        have h9 := heap_alloc_new (wr.alloc O1) O2
        rwa [World.size_alloc] at h9
      have hra := hrg'.gb0' ga
      have hs1 := hrs.gb0 gb
      have hs2 := hrs'.gb0 gb
      subst hO1 hO2
      have hS := hide (sameRanges_eq _ ra ra' rg.length rc rc' rg hs1 hs2)
      replace k1 := hide k1
      replace k2 := hide k2
      replace hra := hide hra
      replace hrg := hide hrg
      replace hrg' := hide hrg'
      replace hf1 := hide hf1
      replace h := hide h
      replace h' := hide h'
      replace hs1 := hide hs1
      replace hs2 := hide hs2
      replace hrs := hide hrs
      replace hrs' := hide hrs'
      have i1 : (0 : Int) ≤ (j : Int) := by omega
      have i2 : (j : Int) < (n : Int) := by omega
      have hif := hide info_fr
      go_upto_region 8 with (first | (refine wpList_load_mid (by rfl) 46 _ (by rfl) b (o + j * 7) (by rfl) (fcs ⟨kd, sm, of, cd, fin, d, rg⟩ (.slice ra rg.length rc)) _ (unhide hrg) Tryd.underlying46 (by rfl) (unhide hif) ?_; simp only [fcs]) | (refine wpList_load_mid (by rfl) 46 _ (by rfl) b' (o' + j * 7) (by rfl) (fcs ⟨kd, sm, of, cd, fin, d, rg⟩ (.slice ra' rg.length rc')) _ (unhide hra) Tryd.underlying46 (by rfl) (unhide hif) ?_; simp only [fcs]))
      obtain ⟨W, hW⟩ : ∃ W, W = (wr.alloc (.cells #[.int .i64 kd, .int .i64 sm, .int .u64 of, .int .u64 cd, .bool fin, .string d, .slice ra rg.length rc] 46)).alloc (.cells #[.int .i64 kd, .int .i64 sm, .int .u64 of, .int .u64 cd, .bool fin, .string d, .slice ra' rg.length rc'] 46) := ⟨_, rfl⟩
      rw [← hW] at k1 k2 hS gb ⊢
      replace hW := hide hW
      obtain ⟨p0, p1, p2, p3, p4, p5, p6⟩ := cells7 (unhide k1)
      obtain ⟨q0, q1, q2, q3, q4, q5, q6⟩ := cells7 (unhide k2)
      go_wp2_with fail
      refine (unhide hS).mono ?_
      rintro e w5 ⟨rfl, k, rfl⟩
      go_wp2_with fail
      refine ⟨⟨j + 1, by omega, by simp, gb_drewN (gb_trans g1 gb) _⟩, ?_⟩
      simp [intOf]
      omega
    · obtain rfl : j = n := by omega
      go_wp2_with fail
      go_ret
      exact ⟨rfl, g1⟩
end Go.Proofs.YtjnmokmchdfchaaDoor
