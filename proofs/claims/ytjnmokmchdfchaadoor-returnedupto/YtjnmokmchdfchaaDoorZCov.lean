import Derived.Test.YtjnmokmchdfchaaDoorZPSeal
import Derived.RangeFuncNested
import Derived.RangeFuncBound
import Derived.RangeFuncCalls
import Derived.RangeFuncLeaves
import Derived.Shelf.Abstract
import Derived.Shelf.RegionOpen
import Derived.OwnWalkIn
import Derived.TacticsInMore
import Derived.LoopNIn
import Derived.LoopIn
import Derived.Deep.LoopGhost
namespace Go.Proofs.YtjnmokmchdfchaaDoor
open Go.RowKit
attribute [local go_sem] Oper.semAt_some

theorem mask_any (K : Array Value) (s n : Int) (w : World) (_hK : K.size = 16) : Calls Tryd.prog 86 #[.agg K, .int .u8 s, .int .u64 n] w fun e w' =>
    e = .returned (.func (.func 102) #[] #[.pointer (some ⟨w.heap.size, 0, none⟩), .pointer (some ⟨w.heap.size + 1, 0, none⟩), .pointer (some ⟨w.heap.size + 2, 0, none⟩)]) ∧
    w' = ((w.alloc (.cells K 32)).alloc (.cells #[.int .u8 s] 5)).alloc (.cells #[.int .u64 n] 33) := by
  go_enter Tryd.func86, Tryd.ntmps86
  go_wp2
  go_ret
  exact ⟨rfl, rfl⟩
theorem ms_gb {key : List Int} {s n : Int} {kb sb nb : Nat} {wr w1 w2 : World} (h : (w1.rangeAt kb 0 (bv key) ∧ w1.cell? ⟨sb, 0, none⟩ = some (.int .u8 s) ∧ w1.cell? ⟨nb, 0, none⟩ = some (.int .u64 n) ∧ wr.grownBy w1 none)) (g : w1.grownBy w2 none) : (w2.rangeAt kb 0 (bv key) ∧ w2.cell? ⟨sb, 0, none⟩ = some (.int .u8 s) ∧ w2.cell? ⟨nb, 0, none⟩ = some (.int .u64 n) ∧ wr.grownBy w2 none) :=
  ⟨range_gb h.1 g (by simp), g.cell h.2.1 (by simp), g.cell h.2.2.1 (by simp), gb_trans h.2.2.2 g⟩
theorem ms_app {key : List Int} {s n : Int} {kb sb nb base : Nat} {wr w1 w2 : World} {v : Value} {l : List Int} (h : (w1.rangeAt kb 0 (bv key) ∧ w1.cell? ⟨sb, 0, none⟩ = some (.int .u8 s) ∧ w1.cell? ⟨nb, 0, none⟩ = some (.int .u64 n) ∧ wr.grownBy w1 none)) (o : OwnB w1 base v l) (hb : wr.heap.size ≤ base) (h1 : kb < wr.heap.size) (h2 : sb < wr.heap.size) (h3 : nb < wr.heap.size) (g : w1.grownBy w2 v.ownBlock) : (w2.rangeAt kb 0 (bv key) ∧ w2.cell? ⟨sb, 0, none⟩ = some (.int .u8 s) ∧ w2.cell? ⟨nb, 0, none⟩ = some (.int .u64 n) ∧ wr.grownBy w2 none) :=
  ⟨range_gb h.1 g (fun e => by have := (o.lt _ e).1; omega), g.cell h.2.1 (fun e => by have := (o.lt _ e.symm).1; dsimp only at this; omega), g.cell h.2.2.1 (fun e => by have := (o.lt _ e.symm).1; dsimp only at this; omega), gb_of_below (below_append (gb_below h.2.2.2) o g h.2.2.2.size hb)⟩
theorem ms_open {key : List Int} {s n : Int} {kb sb nb : Nat} {wr w1 w2 : World} {v : Value} {l : List Int} (h : (w1.rangeAt kb 0 (bv key) ∧ w1.cell? ⟨sb, 0, none⟩ = some (.int .u8 s) ∧ w1.cell? ⟨nb, 0, none⟩ = some (.int .u64 n) ∧ wr.grownBy w1 none)) (o : OwnB w2 w1.heap.size v l) (g : w1.grownBy w2 none) : (w2.rangeAt kb 0 (bv key) ∧ w2.cell? ⟨sb, 0, none⟩ = some (.int .u8 s) ∧ w2.cell? ⟨nb, 0, none⟩ = some (.int .u64 n) ∧ wr.grownBy w2 none) ∧ OwnB w2 wr.heap.size v l ∧ wr.heap.size ≤ w2.heap.size :=
  ⟨ms_gb h g, o.lower h.2.2.2.size, Nat.le_trans h.2.2.2.size g.size⟩
set_option maxRecDepth 100000 in
set_option maxHeartbeats 2000000 in
theorem mask1_any (key : List Int) (s n : Int) (l kb sb nb L : Nat) (J : Nat → World → Prop) (Jx : World → Prop) (hk : KeyOk key) (hs : W8 s) (hn : W64 n)
    (hJ : ∀ k W W', J k W → W.grownBy W' none → J k W')
    (hJc : ∀ k W, J k W → (W.heap[kb]? = some (.cells (keyA key) 32 (0, 0)) ∧ W.cell? ⟨sb, 0, none⟩ = some (.int .u8 s) ∧ W.cell? ⟨nb, 0, none⟩ = some (.int .u64 n)) ∧ k ≤ L)
    (hY : ∀ k W, J k W → YieldAt Fence.wide 1 Tryd.prog l #[.int .u8 (maskB key s n k)] W fun e W' => (e = .returned (.bool true) ∧ J (k + 1) W') ∨ (e = .returned (.bool false) ∧ Jx W'))
    (W : World) (h0 : J 0 W) :
    CallsIn Fence.wide 2 Tryd.prog 102 #[.func (.yield l) #[] #[], .pointer (some ⟨kb, 0, none⟩), .pointer (some ⟨sb, 0, none⟩), .pointer (some ⟨nb, 0, none⟩)] W fun e W' => (∃ v, e = .returned v) ∧ Jx W' := by
  have hkl : (Tryd.prog.info? 32).map (·.size) = some (bv key).length := by rw [bv_len, hk.1]; exact Tryd.info32
  have hund := Tryd.underlying32
  refine callsIn_wide.2 ?_
  replace hJ := hide hJ
  replace hJc := hide hJc
  replace hY := hide hY
  go_enter Tryd.func102, Tryd.ntmps102
  go_wp2_with fail
  go_loopg [5] (L + 8) (fun g i wr => ∃ ii : Nat, g = L + 8 - 8 * ii ∧ i = .int .u8 ((ii : Int) % 256) ∧ J (8 * ii) wr)
  case atStart => exact ⟨0, by omega, rfl, h0⟩
  case round =>
    obtain ⟨ii, rfl, rfl, hj⟩ := hrel
    obtain ⟨⟨c1, c2, c3⟩, hL⟩ := unhide hJc _ _ hj
    have hi8 : W8 ((ii : Int) % 256) := by unfold W8; omega
    have l1 : kb < wr.heap.size := (Array.getElem?_eq_some_iff.1 c1).1
    have l2 : sb < wr.heap.size := World.block_lt_of_cell? wr _ c2
    have l3 : nb < wr.heap.size := World.block_lt_of_cell? wr _ c3
    have hr0 : (wr.rangeAt kb 0 (bv key) ∧ wr.cell? ⟨sb, 0, none⟩ = some (.int .u8 s) ∧ wr.cell? ⟨nb, 0, none⟩ = some (.int .u64 n) ∧ wr.grownBy wr none) := ⟨range_block c1, c2, c3, World.grownBy.refl _ _⟩
    have hSum := hide (fun (a : Option Addr) (n cap : Nat) (l : List Int) (W : World) => sum_any key a n cap l W hk)
    have hop := hide (fun W => opening_any s 1 n W hs (by unfold W8; omega) hn)
    have bz := hide (fun (W : World) => one_new W ((ii : Int) % 256) hi8)
    clear c1
    go_upto_region 2 with fail
    go_cut [6] (fun v wx => v = .int .u64 (hashN key (opn s 1 n ++ [(ii : Int) % 256])) ∧ wr.grownBy wx none)
    case first =>
      go_region_held3 (fun w' => (w'.rangeAt kb 0 (bv key) ∧ w'.cell? ⟨sb, 0, none⟩ = some (.int .u8 s) ∧ w'.cell? ⟨nb, 0, none⟩ = some (.int .u64 n) ∧ wr.grownBy w' none))
        (first | with_reducible exact hr4 | with_reducible exact hr3 | with_reducible exact hr1 | with_reducible exact ms_gb hr1 (World.grownBy_alloc _ _ none) | with_reducible exact ms_gb hr0 (gb_drew (World.grownBy_alloc _ _ none)) | with_reducible exact ms_gb hr0 (gb_drew (World.grownBy.refl _ none)))
        (first
          | (go_at_call 87; refine (unhide hop _).mono ?_; rintro e w1 ⟨a1, c1, rfl, o1, g1⟩; obtain ⟨hr1, o1', hz1⟩ := ms_open (wr := wr) (by assumption) o1 g1)
          | (refine step_appendB (by rfl) _ _ (by rfl) wr.heap.size _ (opn s 1 n) (by rfl) (o1'.gb0 (World.grownBy_alloc _ _ none)) _ _ _ [(ii : Int) % 256] (by rfl) (unhide bz _) (by rw [opn_len]; simp) (by simp; omega) ?_; intro a3 c3 w3 o3 g3 _; have hr3 := ms_app (ms_gb hr1 (World.grownBy_alloc _ _ none)) (o1'.gb0 (World.grownBy_alloc _ _ none)) (Nat.le_refl _) l1 l2 l3 g3)
          | (refine step_appendB (by rfl) _ _ (by rfl) wr.heap.size _ (opn s 1 n) (by rfl) o1' _ _ _ [(ii : Int) % 256] (by rfl) ((unhide bz wr).gb0 (gb_trans (gb_drew (World.grownBy.refl _ none)) g1)) (by rw [opn_len]; simp) (by omega) ?_; intro a3 c3 w3 o3 g3 _; have hr3 := ms_app hr1 o1' (Nat.le_refl _) l1 l2 l3 g3)
          | (go_at_call 29; refine (unhide hSum _ _ _ (opn s 1 n ++ [(ii : Int) % 256]) _ o3.bsv (by rw [List.length_append, opn_len]; simp)).mono ?_; rintro e w4 ⟨rfl, g4⟩; have hr4 := ms_gb hr3 g4))
      all_goals
        go_wp2_with fail
        go_meet
        exact ⟨rfl, hr4.2.2.2⟩
    case rest =>
      obtain ⟨rfl, hgx⟩ := hcut
      have hjc := unhide hJ _ _ _ hj hgx
      have hhw : W64 (hashN key (opn s 1 n ++ [(ii : Int) % 256])) := hashN_w key _ hk (fun x hx => (List.mem_append.1 hx).elim (opn_w hs (by unfold W8; omega) x) (fun h => by rw [List.mem_singleton.1 h]; exact hi8))
      have hidx : ∀ (j : Nat) (W : World), j < 8 → (Instr.index 117 (.agg (bv (highB (hashN key (opn s 1 n ++ [(ii : Int) % 256])))).toArray) (.int .i64 (j : Int))).run Tryd.prog W = .ok (.int .u8 (maskB key s n (8 * ii + j))) W := by
        intro j W hj8
        have e : maskB key s n (8 * ii + j) = (highB (hashN key (opn s 1 n ++ [(ii : Int) % 256]))).getD j 0 := by
          unfold maskB
          rw [show (8 * ii + j) / 8 = ii by omega, show (8 * ii + j) % 8 = j by omega]
          generalize hashN key (opn s 1 n ++ [(ii : Int) % 256]) = h
          have e : j = 0 ∨ j = 1 ∨ j = 2 ∨ j = 3 ∨ j = 4 ∨ j = 5 ∨ j = 6 ∨ j = 7 := by omega
          rcases e with rfl | rfl | rfl | rfl | rfl | rfl | rfl | rfl <;> rfl
        rw [e]
        exact idx8 _ _ _ _ _ _ _ _ j hj8 W
      obtain ⟨h, hh⟩ : ∃ h, h = hashN key (opn s 1 n ++ [(ii : Int) % 256]) := ⟨_, rfl⟩
      rw [← hh] at hhw hidx ⊢
      clear hh hr0 c2 c3 hSum hop bz hi8
      obtain ⟨K8, hK8⟩ : ∃ K8, K8 = (bv (highB h)).toArray := ⟨_, rfl⟩
      rw [← hK8] at hidx
      have hwo := fun W => wordOf_any h W hhw
      simp only [← hK8] at hwo
      replace hwo := hide hwo
      replace hidx := hide hidx
      clear hK8
      go_wp2_with (go_at_call 68; refine (unhide hwo _).mono ?_; rintro e w5 ⟨rfl, g5⟩)
      have hj5 := unhide hJ _ _ _ hjc g5
      clear hjc g5 hgx hj
      go_loopg [21] 8 (fun g j wr2 => ∃ jj : Nat, jj ≤ 8 ∧ g = 8 - jj ∧ j = .int .i64 (jj : Int) ∧ J (8 * ii + jj) wr2)
      case atStart => exact ⟨0, by omega, by omega, rfl, hj5⟩
      case round =>
        obtain ⟨jj, hjj, rfl, rfl, hj6⟩ := hrel
        by_cases hlt : jj < 8
        · have hi1 := fun W => unhide hidx jj W hlt
          obtain ⟨fn, tmps, assign, body, hy, hR⟩ := unhide hY _ _ hj6
          go_upto_region 6 with fail
          refine (wpIn_wide (n := 2)).1 ?_
          gi_wp2
          refine hR.mono ?_
          clear hy hR
          rintro e W3 (⟨rfl, hj7⟩ | ⟨rfl, hx⟩)
          · gi_wp2
            go_wp2
            go_roundg (8 - (jj + 1))
            case measure => omega
            case rel => exact ⟨jj + 1, by omega, rfl, by go_num, hj7⟩
          · gi_wp2
            go_wp2
            refine bodyPost_ret (results_none rfl _ _ _) rfl ?_
            exact ⟨⟨_, rfl⟩, hx⟩
        · obtain rfl : jj = 8 := by omega
          have hL8 := (unhide hJc _ _ hj6).2
          go_wp2
          go_roundg (L + 8 - 8 * (ii + 1))
          case measure => omega
          case rel => exact ⟨ii + 1, rfl, by simp, hj6⟩
end Go.Proofs.YtjnmokmchdfchaaDoor
