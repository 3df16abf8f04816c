import Derived.Test.YtjnmokmchdfchaaDoorRSeal
import Derived.Deep.QuietTactic
import Derived.BigQuiet
namespace Go.Proofs.YtjnmokmchdfchaaDoor
open Go.RowKit
attribute [local go_sem ↓] Go.wp_at_zero Go.wp_at_succ

theorem own_apart {w w0 : World} {base base' : Nat} {v v' : Value} {l l' : List Int} (o : OwnB w base v l) (o' : OwnB w0 base' v' l') (h : w0.heap.size ≤ base) : v.ownBlock = none ∨ v.ownBlock ≠ v'.ownBlock := by
  cases hv : v.ownBlock with
  | none => exact .inl rfl
  | some k =>
    right
    intro e
    have h1 := (o.lt k hv).1
    have h2 := (o'.lt k e.symm).2
    omega
theorem OwnB.lower {w : World} {base base' : Nat} {v : Value} {l : List Int} (o : OwnB w base v l) (h : base' ≤ base) : OwnB w base' v l := by
  refine ⟨o.1, o.2.1, ?_⟩
  rcases o.2.2 with h2 | ⟨g, cap, cur, e1, e2, e3⟩
  · exact .inl h2
  · exact .inr ⟨g, cap, cur, e1, by omega, e3⟩
theorem maskL_len (key : List Int) (s n : Int) (l : List Int) : (maskL key s n l).length = l.length := mkL_len _ _ _ _ _
theorem tagL_len (key : List Int) (s n : Int) (l : List Int) : (tagL key s n l).length = 8 := rfl
theorem sealL_len (key : List Int) (s n : Int) (l : List Int) : (sealL key s n l).length = l.length + 16 := by simp [sealL, maskL_len, tagL_len, highB_len]; omega

set_option maxRecDepth 100000 in
set_option maxHeartbeats 1000000 in
theorem refSeal_any (key : List Int) (s n : Int) (a : Option Addr) (m cap : Nat) (l : List Int) (w : World) (hk : KeyOk key) (hs : W8 s) (hn : W64 n) (hb : BSv w a m cap l) (hl : l.length ≤ 90000) :
    Calls Tryd.prog 14 #[.agg (keyA key), .int .i64 s, .int .u64 n, .slice a m cap] w fun e w' =>
      ∃ a' c', e = .returned (.slice a' (l.length + 16) c') ∧ OwnB w' w.heap.size (.slice a' (l.length + 16) c') (sealL key s n l) ∧ w.grownBy w' none := by
  have hsz := keyA_size hk
  have hT := fun (a : Option Addr) (m cap : Nat) (l : List Int) (W : World) => tag_any key s n a m cap l W hk hs hn
  have hM := fun (a : Option Addr) (m cap : Nat) (l : List Int) (W : World) => masked_any key s n a m cap l W hk hs hn
  obtain ⟨K, hKe⟩ : ∃ K, K = keyA key := ⟨_, rfl⟩
  rw [← hKe]
  simp only [← hKe] at hT hM hsz
  clear hKe
  replace hT := hide hT
  replace hM := hide hM
  go_enter Tryd.func14, Tryd.ntmps14
  go_wp2_with fail
  refine (high_any (w.heap.size + 1) none 0 [] n _ (OwnB.nil _ _) hn (by simp) (by simp)).mono ?_
  rintro e w1 ⟨a1, c1, rfl, o1, b1⟩
  replace o1 : OwnB w1 (w.heap.size + 1) (.slice a1 8 c1) (highB n) := o1
  have hz1 := b1.size
  rw [World.size_alloc] at hz1
  have hg1 := hide (key_below (heap_alloc_new w (.cells K 32)) b1 (by omega))
  have bw1 : Below w.heap.size w w1 := ((Below.refl _ w).alloc (Nat.le_refl _) _).trans (b1.mono (by omega))
  have hb1 := hb.gb0 (gb_of_below bw1)
  go_wp2_with (refine wpList_loadKey _ (by rfl) (by rfl) _ (by rfl) K ?_ hsz ?_; exact unhide hg1)
  refine (unhide hM _ _ _ _ _ hb1 (by omega)).mono ?_
  rintro e w2 ⟨a2, c2, rfl, o2, g2⟩
  have hz2 := g2.size
  have o1' := hide (o1.gb0 g2)
  have hg2 := hide ((g2.block w.heap.size (by omega) (by simp)).trans (unhide hg1))
  have bw2 : Below w.heap.size w w2 := bw1.grown g2 bw1.size (fun k e => by cases e)
  have bs2 := hide o2.bsv
  have hl2 := maskL_len key s n l
  replace o2 := hide o2
  go_wp2_with (first | (at_builtin; refine wpList_appendB (by rfl) _ _ (by rfl) (w.heap.size + 1) _ (highB n) (by rfl) (unhide o1') _ _ _ (maskL key s n l) (by rfl) (unhide bs2) ?_ ?_ ?_; (rw [highB_len, hl2]; omega); omega; rw [highB_len, hl2]; intro a3 c3 w3 o3 g3 _; have hg3 := hide ((g3.block w.heap.size (by omega) (fun e => by have := ((unhide o1').lt _ e.symm).1; omega)).trans (unhide hg2))) | (refine wpList_loadKey _ (by rfl) (by rfl) _ (by rfl) K ?_ hsz ?_; exact unhide hg3))
  have oc3 := (unhide o2).gb g3 (own_apart (unhide o2) o1 (Nat.le_refl _))
  have bw3 := below_append bw2 (unhide o1') g3 (by omega) (by omega)
  have hz3 := g3.size
  refine (unhide hT _ _ _ _ _ oc3.bsv (by omega)).mono ?_
  rintro e w4 ⟨a4, c4, rfl, o4, g4⟩
  have o3' := hide (o3.gb0 g4)
  have bs4 := hide o4.bsv
  have bw4 : Below w.heap.size w w4 := bw3.grown g4 bw3.size (fun k e => by cases e)
  have hz4 := g4.size
  have hl3 : (highB n ++ maskL key s n l).length = 8 + l.length := by simp [highB_len, hl2]
  have ht3 : (tagL key s n (maskL key s n l)).length = 8 := rfl
  go_wp2_with (at_builtin; refine wpList_appendB (by rfl) _ _ (by rfl) (w.heap.size + 1) _ (highB n ++ maskL key s n l) (by rfl) (unhide o3') _ _ _ (tagL key s n (maskL key s n l)) (by rfl) (unhide bs4) ?_ ?_ ?_; (rw [hl3, ht3]; omega); omega; rw [hl3, ht3]; intro a5 c5 w5 o5 g5 _)
  go_ret
  have he : 8 + l.length + 8 = l.length + 16 := by omega
  rw [he] at o5
  exact ⟨a5, c5, by simp only [he]; rfl, o5.lower (by omega), gb_of_below (below_append bw4 (unhide o3') g5 (by omega) (by omega))⟩
end Go.Proofs.YtjnmokmchdfchaaDoor
