import Derived.Test.YtjnmokmchdfchaaDoorZRSeal2
import Derived.Deep.RegionHeld3
namespace Go.Proofs.YtjnmokmchdfchaaDoor
open Go.RowKit
attribute [local go_sem ↓] Go.wp_at_zero Go.wp_at_succ

set_option maxRecDepth 100000 in
theorem opening_any (s u n : Int) (w : World) (hs : W8 s) (hu : W8 u) (hn : W64 n) : Calls Tryd.prog 87 #[.int .u8 s, .int .u8 u, .int .u64 n] w fun e w' =>
    ∃ a' c', e = .returned (.slice a' 10 c') ∧ OwnB w' w.heap.size (.slice a' 10 c') (opn s u n) ∧ w.grownBy w' none := by
  go_enter Tryd.func87, Tryd.ntmps87
  go_wp2_with fail
  refine (wordOf_any n _ hn).mono ?_
  rintro e w1 ⟨rfl, g1⟩
  rw [bytes8]
  have hz1 := g1.size
  have o2 := own_two (w1.alloc (.cells (bv (highB n)).toArray 117)) s u hs hu
  have hbk := heap_alloc_new w1 (.cells (bv (highB n)).toArray 117)
  have hbk2 : ((w1.alloc (.cells (bv (highB n)).toArray 117)).alloc (.cells #[.int .u8 s, .int .u8 u] 5)).heap[w1.heap.size]? = some (.cells (bv (highB n)).toArray 117 (0, 0)) := by
    rw [Below.heap_alloc _ _ _ (by simp)]; exact hbk
  have bs2 : BSv ((w1.alloc (.cells (bv (highB n)).toArray 117)).alloc (.cells #[.int .u8 s, .int .u8 u] 5)) (some ⟨w1.heap.size, 0, none⟩) 8 8 (highB n) := by
    refine ⟨highB_w n, rfl, by simp, by simp [maxLen], .inr ⟨_, _, rfl, ?_⟩⟩
    have := bs_block hbk2 (highB_w n) 0
    rwa [List.drop_zero] at this
  rw [World.size_alloc] at o2
  rw [bytes8] at o2 bs2
  replace o2 := hide o2
  replace bs2 := hide bs2
  clear hbk hbk2
  go_wp2_with (at_builtin; refine wpList_appendB (by rfl) _ _ (by rfl) (w1.heap.size + 1) _ [s, u] (by rfl) (unhide o2) _ _ _ (highB n) (by rfl) (unhide bs2) ?_ ?_ ?_; (simp [highB_len]); (simp); intro a3 c3 w3 o3 g3 _)
  go_ret
  refine ⟨a3, c3, rfl, o3.lower (by omega), ?_⟩
  have b0 : Below w.heap.size w w1 := gb_below g1
  exact gb_of_below (below_append ((b0.alloc hz1 _).alloc (by simp; omega) _) (unhide o2) g3 (by simp; omega) (by omega))

/-- What a tag's making keeps. -/
def TS (key : List Int) (W0 : World) (N : Nat) (w' : World) : Prop := w'.rangeAt N 0 (bv key) ∧ W0.grownBy w' (some (N + 1))
theorem ts_set {key : List Int} {W0 w' : World} {N : Nat} (h : w'.rangeAt N 0 (bv key) ∧ W0.grownBy w' (some (N + 1))) (o : Nat) (v : Value) : (w'.setCell ⟨N + 1, o, none⟩ v).rangeAt N 0 (bv key) ∧ W0.grownBy (w'.setCell ⟨N + 1, o, none⟩ v) (some (N + 1)) :=
  ⟨range_set h.1 _ _ (by simp), gb_set h.2 _ _ (.inr rfl)⟩
theorem ts_none {key : List Int} {W0 w1 w2 : World} {N : Nat} (h : w1.rangeAt N 0 (bv key) ∧ W0.grownBy w1 (some (N + 1))) (g : w1.grownBy w2 none) : w2.rangeAt N 0 (bv key) ∧ W0.grownBy w2 (some (N + 1)) :=
  ⟨range_gb h.1 g (by simp), gb_trans' h.2 g (fun j e => by cases e)⟩
theorem ts_app {key : List Int} {W0 w1 w2 : World} {N base : Nat} {v : Value} {l : List Int} (h : w1.rangeAt N 0 (bv key) ∧ W0.grownBy w1 (some (N + 1))) (o : OwnB w1 base v l) (hb : W0.heap.size ≤ base) (hN : N < base) (g : w1.grownBy w2 v.ownBlock) : w2.rangeAt N 0 (bv key) ∧ W0.grownBy w2 (some (N + 1)) :=
  ⟨range_gb h.1 g (fun e => by have := (o.lt _ e).1; omega), gb_trans' h.2 g (fun j e => .inl (Nat.le_trans hb (o.lt _ e).1))⟩
theorem bsv_drew {w : World} {a : Option Addr} {n c : Nat} {l : List Int} (h : BSv w a n c l) : BSv w.drew a n c l := h.gb0 (gb_drew (World.grownBy.refl w none))

set_option maxRecDepth 100000 in
set_option maxHeartbeats 400000 in
theorem tagOf_any (key : List Int) (s n : Int) (a : Option Addr) (m cap : Nat) (l : List Int) (w : World) (hk : KeyOk key) (hs : W8 s) (hn : W64 n) (hb : BSv w a m cap l) (hl : l.length ≤ 60000000) :
    Calls Tryd.prog 71 #[.agg (keyA key), .int .u8 s, .int .u64 n, .slice a m cap] w fun e w' =>
      e = .returned (.agg (bv (tagL key s n l)).toArray) ∧ w.grownBy w' none := by
  have hsz := keyA_size hk
  have hkl : (Tryd.prog.info? 32).map (·.size) = some (bv key).length := by rw [bv_len, hk.1]; exact Tryd.info32
  have hund := Tryd.underlying32
  have hml := hb.2.1
  subst hml
  obtain ⟨W0, hW0⟩ : ∃ W, W = (w.alloc (.cells (keyA key) 32)).alloc (.cells #[.int .u8 0, .int .u8 0, .int .u8 0, .int .u8 0, .int .u8 0, .int .u8 0, .int .u8 0, .int .u8 0] 117) := ⟨_, rfl⟩
  have gW : w.grownBy W0 none := by rw [hW0]; exact gb_alloc (gb_alloc (World.grownBy.refl w none) _) _
  have hzW : W0.heap.size = w.heap.size + 2 := by rw [hW0]; simp
  have hblk : W0.heap[w.heap.size + 1]? = some (.cells #[.int .u8 0, .int .u8 0, .int .u8 0, .int .u8 0, .int .u8 0, .int .u8 0, .int .u8 0, .int .u8 0] 117 (0, 0)) := by
    have := heap_alloc_new (w.alloc (.cells (keyA key) 32)) (.cells #[.int .u8 0, .int .u8 0, .int .u8 0, .int .u8 0, .int .u8 0, .int .u8 0, .int .u8 0, .int .u8 0] 117)
    rw [World.size_alloc] at this
    rw [hW0]; exact this
  have hr0 : W0.drew.rangeAt w.heap.size 0 (bv key) ∧ W0.grownBy W0.drew (some (w.heap.size + 1)) := by
    refine ⟨?_, gb_drew (World.grownBy.refl _ _)⟩
    have : W0.heap[w.heap.size]? = some (.cells (bv key).toArray 32 (0, 0)) := by rw [hW0, Below.heap_alloc _ _ _ (by simp)]; exact heap_alloc_new _ _
    exact range_block (w := W0.drew) this
  have hb0 := hide (bsv_drew (hb.gb0 gW))
  have hSum := hide (fun (a : Option Addr) (n cap : Nat) (l : List Int) (W : World) => sum_any key a n cap l W hk)
  have hop := hide (fun W => opening_any s 2 n W hs (by unfold W8; omega) hn)
  clear hb
  go_enter Tryd.func71, Tryd.ntmps71
  go_wp2_with fail
  rw [← hW0]
  replace gW := hide gW
  replace hzW := hide hzW
  replace hblk := hide hblk
  clear hW0
  go_region_held3 (fun w' => w'.rangeAt w.heap.size 0 (bv key) ∧ W0.grownBy w' (some (w.heap.size + 1)))
    (first | with_reducible exact hr5 | with_reducible exact hr4 | with_reducible exact hr3 | with_reducible exact hr1 | with_reducible exact hr0 | with_reducible exact ts_set (ts_set (ts_set (ts_set (ts_set (ts_set (ts_set (ts_set hr5 _ _) _ _) _ _) _ _) _ _) _ _) _ _) _ _)
    (first
      | (go_at_call 87; refine (unhide hop _).mono ?_; rintro e w1 ⟨a1, c1, rfl, o1, g1⟩; have hr1 := ts_none hr0 g1; have hb1 := hide ((unhide hb0).gb0 g1); have hz1 : w.heap.size + 2 ≤ w1.heap.size := (by have h1 := g1.size; have h2 := unhide hzW; have h3 : W0.drew.heap.size = W0.heap.size := rfl; omega); have hq1 := hide ((g1.block (w.heap.size + 1) (by have h2 := unhide hzW; have h3 : W0.drew.heap.size = W0.heap.size := rfl; omega) (by simp)).trans (unhide hblk)))
      | (refine step_appendB (by rfl) _ _ (by rfl) W0.drew.heap.size _ (opn s 2 n) (by rfl) o1 _ _ _ l (by rfl) (unhide hb1) (by rw [opn_len]; omega) g1.size ?_; intro a3 c3 w3 o3 g3 _; have hr3 := ts_app hr1 o1 (Nat.le_refl _) (by have h2 := unhide hzW; have h3 : W0.drew.heap.size = W0.heap.size := rfl; omega) g3; have hz3 := g3.size; have hq3 := hide ((g3.block (w.heap.size + 1) (by omega) (fun e => by have h1 := (o1.lt _ e.symm).1; have h2 := unhide hzW; have h3 : W0.drew.heap.size = W0.heap.size := rfl; omega)).trans (unhide hq1)))
      | (go_at_call 29; refine (unhide hSum _ _ _ (opn s 2 n ++ l) _ o3.bsv (by rw [List.length_append, opn_len]; omega)).mono ?_; rintro e w4 ⟨rfl, g4⟩; have hr4 := ts_none hr3 g4; have hz4 := g4.size; have hq4 := hide ((g4.block (w.heap.size + 1) (by omega) (by simp)).trans (unhide hq3)))
      | (go_at_call 68; refine (wordOf_any _ _ (hashN_w key _ hk o3.1)).mono ?_; rintro e w5 ⟨rfl, g5⟩; rw [bytes8]; have hr5 := ts_none hr4 g5; have hq5 := cells8 ((g5.block (w.heap.size + 1) (by omega) (by simp)).trans (unhide hq4)); obtain ⟨⟨z0, z1, z2, z3, z4, z5, z6, z7⟩, zf⟩ := hq5))
  go_wp2_with fail
  refine bodyPost_ret (v := .agg (bv (tagL key s n l)).toArray) ?_ rfl ⟨rfl, ?_⟩
  · unfold tagL
    rw [bytes8]
    simp [results, Tryd.results71, go_sem, *]
  · have g5' : w.grownBy w5 none := gb_new (gb_trans' (gb_none (unhide gW) (some (w.heap.size + 1))) hr5.2 (fun j e => .inr rfl)) (by omega)
    iterate 8 (refine gb_set ?_ _ _ (.inl (Nat.le_succ _)))
    exact g5'
end Go.Proofs.YtjnmokmchdfchaaDoor
