import Derived.Test.YtjnmokmchdfchaaDoorRefHash2
import Derived.Deep.RegionWith
import Derived.Deep.QuietTactic
import Derived.BigQuiet
namespace Go.Proofs.YtjnmokmchdfchaaDoor
open Go.RowKit
attribute [local go_sem ↓] Go.wp_at_zero Go.wp_at_succ

set_option maxRecDepth 100000 in
theorem begin_any (key : List Int) (w : World) (hk : KeyOk key) : Calls Tryd.prog 47 #[.agg (keyA key)] w fun e w' =>
    e = .returned (.agg #[.int .u64 (beginS key).a, .int .u64 (beginS key).b, .int .u64 (beginS key).c, .int .u64 (beginS key).d]) ∧ w.grownBy w' none := by
  have hsz := keyA_size hk
  obtain ⟨k1, k2⟩ := hk
  have hbl : (w.alloc (.cells (keyA key) 32)).heap[w.heap.size]? = some (.cells (keyA key) 32 (0, 0)) := heap_alloc_new w _
  have b1 : ∀ W : World, W.heap[w.heap.size]? = some (.cells (keyA key) 32 (0, 0)) → BS W w.heap.size 0 (key.take 8) := fun W h => by
    have := (bs_block h k2 0).take 8
    rwa [List.drop_zero] at this
  have b2 : ∀ W : World, W.heap[w.heap.size]? = some (.cells (keyA key) 32 (0, 0)) → BS W w.heap.size 8 (key.drop 8) := fun W h => bs_block h k2 8
  have hW : (((w.alloc (.cells (keyA key) 32)).alloc (.cells #[.int .u64 0, .int .u64 0, .int .u64 0, .int .u64 0] 85))).heap[w.heap.size]? = some (.cells (keyA key) 32 (0, 0)) := by
    rw [Below.heap_alloc _ _ _ (by simp)]; exact hbl
  obtain ⟨K, hKe⟩ : ∃ K, K = keyA key := ⟨_, rfl⟩
  rw [← hKe] at hsz b1 b2 hW ⊢
  clear hbl hKe
  replace hW := hide hW
  replace b1 := hide b1
  replace b2 := hide b2
  go_enter Tryd.func47, Tryd.ntmps47
  go_wp2_with fail
  go_region_with (first
    | (go_at_call_of 49 (Value.slice (some ⟨w.heap.size, 0, none⟩) 8 16); refine (lowestFirst_any _ _ _ (key.take 8) _ ?_ (by simp [k1]) (by decide)).mono ?_; exact unhide b1 _ (unhide hW); rintro e w' ⟨rfl, rfl⟩)
    | (go_at_call_of 49 (Value.slice (some ⟨w.heap.size, 8, none⟩) 8 8); refine (lowestFirst_any _ _ _ (key.drop 8) _ ?_ (by simp [k1]) (by decide)).mono ?_; exact unhide b2 _ (unhide hW); rintro e w' ⟨rfl, rfl⟩))
  all_goals
    go_wp2
    refine bodyPost_ret (v := .agg #[.int .u64 (beginS key).a, .int .u64 (beginS key).b, .int .u64 (beginS key).c, .int .u64 (beginS key).d]) ?_ rfl ⟨rfl, ?_⟩
    · simp [results, Tryd.results47, go_sem, beginS, xo]
    · first | exact gb_drew (gb_alloc (gb_alloc (World.grownBy.refl _ _) _) _) | exact gb_alloc (gb_alloc (World.grownBy.refl _ _) _) _

theorem pad_take (l : List Int) (n : Int) (k : Nat) (h : 8 * k + 8 ≤ l.length) : ((padTo l n).drop (8 * k)).take 8 = (l.drop (8 * k)).take 8 := by
  simp only [padTo, List.append_assoc]
  rw [List.drop_append_of_le_length (by omega), List.take_append_of_le_length (by simp; omega)]
theorem pad_last (l : List Int) (n : Int) : ((padTo l n).drop (8 * (l.length / 8))).take 8 = splice [0, 0, 0, 0, 0, 0, 0, n % 256] 0 ((l.drop (8 * (l.length / 8))).take 8) := by
  have hr : (l.drop (8 * (l.length / 8))).length = l.length % 8 := by simp; omega
  simp only [padTo, List.append_assoc]
  rw [List.drop_append_of_le_length (by omega)]
  generalize l.drop (8 * (l.length / 8)) = r at *
  have h8 : r.length < 8 := by omega
  rw [← hr]
  have e : r.take 8 = r := List.take_of_length_le (by omega)
  rw [e, splice, List.take_zero, List.nil_append, Nat.zero_add]
  rw [List.take_of_length_le (by simp; omega)]
  congr 1
  rcases r with _ | ⟨_, _ | ⟨_, _ | ⟨_, _ | ⟨_, _ | ⟨_, _ | ⟨_, _ | ⟨_, _ | ⟨_, r⟩⟩⟩⟩⟩⟩⟩⟩ <;> first | rfl | (simp at h8; omega)

/-- A place, d further. -/
def shA (d : Nat) : Option Addr → Option Addr
  | none => none
  | some x => some ⟨x.block, x.off + d, x.spot⟩
theorem BSv.adv {w : World} {a : Option Addr} {n cap : Nat} {l : List Int} (h : BSv w a n cap l) (d : Nat) (hd : d ≤ n) : BSv w (shA d a) (n - d) (cap - d) (l.drop d) := by
  obtain ⟨h1, h2, h3, h4, h5⟩ := h
  refine ⟨fun x hx => h1 x (List.mem_of_mem_drop hx), by rw [List.length_drop, h2], by omega, by omega, ?_⟩
  rcases h5 with ⟨rfl, rfl⟩ | ⟨b, o, rfl, h5⟩
  · exact .inl ⟨rfl, by omega⟩
  · exact .inr ⟨b, o + d, rfl, h5.drop d⟩

theorem bsv_cut {W : World} {bb o o' n c : Nat} {L : List Int} (hw : ∀ x ∈ L, W8 x) (h1 : n = (L.drop 8).length) (h2 : n ≤ c) (h3 : c ≤ maxLen) (hb : BS W bb o L) (h : o' = o + 8 ∨ (L.drop 8).length = 0) : BSv W (some ⟨bb, o', none⟩) n c (L.drop 8) := by
  refine ⟨fun x hx => hw x (List.mem_of_mem_drop hx), h1, h2, h3, .inr ⟨bb, o', rfl, ?_⟩⟩
  rcases h with rfl | h
  · exact hb.drop 8
  · rw [List.eq_nil_of_length_eq_zero h]; exact BS.nil _ _ _
theorem slice_eq {a b : Option Addr} {n m c d : Nat} (h1 : a = b) (h2 : n = m) (h3 : c = d) : Value.slice a n c = .slice b m d := by rw [h1, h2, h3]
set_option maxHeartbeats 1000000 in
set_option maxRecDepth 100000 in
theorem sum_any (key : List Int) (a : Option Addr) (n cap : Nat) (l : List Int) (w : World) (hk : KeyOk key) (hb : BSv w a n cap l) (_hl : l.length ≤ 100000000) : Calls Tryd.prog 29 #[.agg (keyA key), .slice a n cap] w fun e w' =>
    e = .returned (.int .u64 (hashN key l)) ∧ w.grownBy w' none := by
  have hsz := keyA_size hk
  have hbeg := fun W => begin_any key W hk
  have hK : KeyOk key := hk
  obtain ⟨K, hKe⟩ : ∃ K, K = keyA key := ⟨_, rfl⟩
  rw [← hKe]
  simp only [← hKe] at hbeg hsz
  clear hKe
  replace hbeg := hide hbeg
  have hnl : n = l.length := hb.2.1
  subst hnl
  go_enter Tryd.func29, Tryd.ntmps29
  go_wp2_with (refine wpList_loadKey _ (by rfl) (by rfl) _ (by rfl) K ?_ hsz ?_; exact heap_alloc_new _ _)
  refine (unhide hbeg _).mono ?_
  rintro e w1 ⟨rfl, g1⟩
  go_wp2_with fail
  obtain ⟨W2, hW2⟩ : ∃ W, W = (w1.alloc (.cells #[.int .u64 (beginS key).a, .int .u64 (beginS key).b, .int .u64 (beginS key).c, .int .u64 (beginS key).d] 85)).alloc (.cells #[.int .u8 0, .int .u8 0, .int .u8 0, .int .u8 0, .int .u8 0, .int .u8 0, .int .u8 0, .int .u8 ((l.length : Int) % 256)] 87) := ⟨_, rfl⟩
  have gW : w.grownBy W2 none := by rw [hW2]; exact gb_alloc (gb_alloc (gb_trans (gb_alloc (World.grownBy.refl w none) _) g1) _) _
  have hSt : StS w1.heap.size (beginS key) W2 W2 := by
    refine ⟨?_, World.grownBy.refl _ _⟩
    rw [hW2, Below.heap_alloc _ _ _ (by simp)]; exact heap_alloc_new _ _
  have hlast : W2.heap[w1.heap.size + 1]? = some (.cells (bv [0, 0, 0, 0, 0, 0, 0, (l.length : Int) % 256]).toArray 87 (0, 0)) := by
    have := heap_alloc_new (w1.alloc (.cells #[.int .u64 (beginS key).a, .int .u64 (beginS key).b, .int .u64 (beginS key).c, .int .u64 (beginS key).d] 85)) (.cells #[.int .u8 0, .int .u8 0, .int .u8 0, .int .u8 0, .int .u8 0, .int .u8 0, .int .u8 0, .int .u8 ((l.length : Int) % 256)] 87)
    rw [World.size_alloc] at this
    rw [hW2]; exact this
  have hw1 : w.heap.size < w1.heap.size := by have := g1.size; rw [World.size_alloc] at this; omega
  have hbW := hb.gb0 gW
  rw [← hW2]
  clear hW2 g1
  have hok0 := beginS_ok hK
  have hPw := padTo_w hb.1 (l.length : Int)
  have hfin : Hid (hashN key l = endS (mixAll (beginS key) (l.length / 8 + 1) (padTo l l.length))) := rfl
  have hpt := pad_take l (l.length : Int)
  have hpl := pad_last l (l.length : Int)
  obtain ⟨P, hP⟩ : ∃ P, P = padTo l (l.length : Int) := ⟨_, rfl⟩
  rw [← hP] at hPw hfin hpl
  simp only [← hP] at hpt
  replace hpl := hide hpl
  replace hpt := hide hpt
  clear hP
  obtain ⟨q, hq⟩ : ∃ q, q = l.length / 8 := ⟨_, rfl⟩
  rw [← hq] at hfin hpl
  have q1 : 8 * q ≤ l.length := by omega
  have q2 : l.length < 8 * q + 8 := by omega
  clear hq
  replace hbW := hide hbW
  replace hlast := hide hlast
  have hbl : ∀ x, a = some x → l ≠ [] → x.block < w.heap.size := fun x e hne => by
    rcases hb.2.2.2.2 with ⟨h, _⟩ | ⟨b, o, h, hbs⟩
    · rw [h] at e; cases e
    · rw [h] at e; cases e; exact hbs.lt hne
  replace hbl := hide hbl
  have hcp := hb.2.2.1
  have hcm := hb.2.2.2.1
  unfold maxLen at hcm
  go_loopw [1] (fun v wr => ∃ (k : Nat) (a' : Option Addr), k ≤ q ∧ v = .slice a' (l.length - 8 * k) (cap - 8 * k) ∧ BSv W2 a' (l.length - 8 * k) (cap - 8 * k) (l.drop (8 * k)) ∧ (∀ x, a' = some x → l.drop (8 * k) ≠ [] → x.block < w.heap.size) ∧ StS w1.heap.size (mixAll (beginS key) k P) W2 wr) (fun v _ => lenV v)
  case atStart => exact ⟨0, a, by omega, rfl, by simpa using unhide hbW, by simpa using unhide hbl, hSt⟩
  case round =>
    obtain ⟨k, a', hk, rfl, hb', hl', hS⟩ := hrel
    replace hl' := hide hl'
    by_cases hlt : k < q
    · have hne : l.drop (8 * k) ≠ [] := by intro e; have := congrArg List.length e; simp at this; omega
      obtain ⟨hw', -, hcc, hcm', h5⟩ := hb'
      rcases h5 with ⟨rfl, h0⟩ | ⟨bb, o, rfl, hbs⟩
      · omega
      · have hbb := unhide hl' _ rfl hne
        have hbr : BS wr bb o (l.drop (8 * k)) := hbs.gb hS.2 (by intro e; cases e; dsimp only at hbb; omega)
        have hb8 := hide (hbr.take 8)
        have h8 : ((l.drop (8 * k)).take 8).length = 8 := by simp; omega
        have hm := hide (mixAll_succ (beginS key) k P)
        have hok := mixAll_ok hok0 hPw k
        have wm := lowN_w (unhide hb8).2 (by omega)
        have hdd : Hid (l.drop (8 * (k + 1)) = (l.drop (8 * k)).drop 8) := by
          show _ = _
          rw [List.drop_drop]; rfl
        replace hbs := hide hbs
        clear hbr
        go_wp2_with fail
        refine (lowestFirst_any _ _ _ _ _ (unhide hb8) h8 (by omega)).mono ?_
        rintro e w4 ⟨rfl, rfl⟩
        go_wp2_with fail
        refine (mix_any _ _ _ _ _ hS hok wm).mono ?_
        rintro e w5 ⟨rfl, hS5⟩
        go_wp2_with fail
        all_goals go_roundw
        all_goals first
          | (show _ < _; simp [lenV]; omega)
          | (refine ⟨k + 1, _, by omega, slice_eq rfl (by omega) (by omega), ?_, ?_, by rw [unhide hm, unhide hpt k (by omega)]; exact hS5⟩ <;> rw [unhide hdd] <;> skip)
        · split
          · exact bsv_cut hw' (by simp; omega) (by omega) (by omega) (unhide hbs) (.inr (by simp; omega))
          · exact bsv_cut hw' (by simp; omega) (by omega) (by omega) (unhide hbs) (.inl rfl)
        · intro x e _
          split at e <;> (cases e; exact hbb)
    · obtain rfl : k = q := by omega
      have hbw : BSv wr a' (l.length - 8 * k) (cap - 8 * k) (l.drop (8 * k)) :=
        hb'.gb hS.2 (fun j e => by
          cases e; right
          by_cases hl : l.drop (8 * k) = []
          · exact .inl hl
          · right; intro x e; have := unhide hl' x e hl; omega)
      have hl8 : wr.heap[w1.heap.size + 1]? = some (.cells (bv [0, 0, 0, 0, 0, 0, 0, (l.length : Int) % 256]).toArray 87 (0, 0)) := (hS.2.block _ (Array.getElem?_eq_some_iff.1 (unhide hlast)).1 (by simp)).trans (unhide hlast)
      replace hbw := hide hbw
      replace hl8 := hide hl8
      have hok := mixAll_ok hok0 hPw k
      clear hb'
      go_wp2_with (refine wpList_copyB _ _ (by rfl) (by rfl) (w1.heap.size + 1) 0 8 8 (by rfl) _ _ _ (by rfl) (l.drop (8 * k)) (unhide hbw) [0, 0, 0, 0, 0, 0, 0, (l.length : Int) % 256] _ (unhide hl8) ?_ ?_; (simp; omega); intro w6 hl6 g6)
      have hS6 : StS w1.heap.size (mixAll (beginS key) k P) w6 w6 := ⟨(g6.block _ (Array.getElem?_eq_some_iff.1 hS.1).1 (by simp)).trans hS.1, World.grownBy.refl _ _⟩
      have hb8 : BS w6 (w1.heap.size + 1) 0 ((P.drop (8 * k)).take 8) := by
        have hw8 : ∀ x ∈ (P.drop (8 * k)).take 8, W8 x := fun x hx => hPw x (List.mem_of_mem_drop (List.mem_of_mem_take hx))
        rw [unhide hpl] at hw8 ⊢
        have := bs_block hl6 hw8 0
        rwa [List.drop_zero] at this
      have h8 : ((P.drop (8 * k)).take 8).length = 8 := by rw [unhide hpl, length_splice] <;> simp <;> omega
      have hm := hide (mixAll_succ (beginS key) k P)
      have wm := lowN_w hb8.2 (by omega)
      replace hb8 := hide hb8
      replace hl6 := hide hl6
      go_wp2_with fail
      refine (lowestFirst_any _ _ _ _ _ (unhide hb8) h8 (by omega)).mono ?_
      rintro e w7 ⟨rfl, rfl⟩
      go_wp2_with fail
      refine (mix_any _ _ _ _ _ hS6 hok wm).mono ?_
      rintro e w8 ⟨rfl, hS8⟩
      rw [← unhide hm] at hS8
      go_wp2_with fail
      refine (end_any _ _ _ _ hS8 (mixAll_ok hok0 hPw _)).mono ?_
      rintro e w9 ⟨rfl, g9⟩
      go_wp2
      go_ret
      refine ⟨by rw [unhide hfin]; rfl, ?_⟩
      have b1 : Below w.heap.size w wr := (gb_below gW).grown hS.2 gW.size (fun j e => by cases e; omega)
      have b2 := b1.grown g6 b1.size (fun j e => by cases e; omega)
      exact gb_of_below (b2.grown g9 b2.size (fun j e => by cases e; omega))
end Go.Proofs.YtjnmokmchdfchaaDoor
