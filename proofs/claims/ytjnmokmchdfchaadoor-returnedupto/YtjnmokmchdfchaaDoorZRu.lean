import Derived.Test.YtjnmokmchdfchaaDoorZRSeal2
import Derived.Test.YtjnmokmchdfchaaDoorZPW
namespace Go.Proofs.YtjnmokmchdfchaaDoor
open Go.RowKit

/-! ### what was sealed is opened -/
theorem x8_back {a b : Int} (ha : W8 a) (hb : W8 b) : x8 (x8 a b) b = a := by
  have hx := x8_w ha hb
  have e : x8 a b = ((a.toNat ^^^ b.toNat : Nat) : Int) := by unfold x8; rw [u8_xor a b ha.1 ha.2 hb.1 hb.2]
  rw [e] at hx ⊢
  unfold x8
  rw [u8_xor _ b hx.1 hx.2 hb.1 hb.2, Int.toNat_natCast, Nat.xor_assoc, Nat.xor_self, Nat.xor_zero]
  have := ha.1
  omega
theorem maskB_w (key : List Int) (s n : Int) (i : Nat) : W8 (maskB key s n i) := hb_w _ _
theorem maskL_at (key : List Int) (s n : Int) (l : List Int) (i : Nat) (h : i < l.length) : (maskL key s n l).getD i 0 = x8 (l.getD i 0) (maskB key s n i) := by
  simp [maskL, mkL, List.getD, h]
theorem maskL_back (key : List Int) (s n : Int) (l : List Int) (hl : ∀ x ∈ l, W8 x) : maskL key s n (maskL key s n l) = l := by
  apply List.ext_getElem
  · rw [maskL_len, maskL_len]
  · intro i h1 h2
    have h3 : i < (maskL key s n l).length := by rw [maskL_len]; exact h2
    have e1 := maskL_at key s n (maskL key s n l) i h3
    rw [maskL_at key s n l i h2, x8_back (getD_w8 hl i) (maskB_w key s n i)] at e1
    simpa [List.getD, h1, h2] using e1
theorem beN_high {n : Int} (h : W64 n) : beN (highB n) = n := by
  unfold W64 at h
  simp only [beN, highB, hb, List.foldl_cons, List.foldl_nil, Nat.reduceMul, Nat.reduceSub, Int.reducePow]
  omega
theorem high_beN {l : List Int} (hl : l.length = 8) (hw : ∀ x ∈ l, W8 x) : highB (beN l) = l := by
  obtain ⟨x0, x1, x2, x3, x4, x5, x6, x7, rfl⟩ := list8 hl
  simp only [List.mem_cons, List.not_mem_nil, or_false, forall_eq_or_imp, forall_eq, W8] at hw
  obtain ⟨h0, h1, h2, h3, h4, h5, h6, h7⟩ := hw
  simp only [beN, highB, hb, List.foldl_cons, List.foldl_nil, Nat.reduceMul, Nat.reduceSub, Int.reducePow, List.cons.injEq, and_true]
  refine ⟨?_, ?_, ?_, ?_, ?_, ?_, ?_, ?_⟩ <;> omega
theorem seal_num {key : List Int} {s n : Int} {l : List Int} (h : W64 n) : numP (sealL key s n l) = n := by
  unfold numP sealL
  rw [List.append_assoc, List.take_left' (highB_len n)]
  exact beN_high h
theorem seal_body (key : List Int) (s n : Int) (l : List Int) : bodyP (sealL key s n l) = maskL key s n l := by
  unfold bodyP
  rw [sealL_len, sealL, List.append_assoc, List.drop_left' (highB_len n), Nat.add_sub_cancel, List.take_left' (maskL_len _ _ _ _)]
theorem seal_tag (key : List Int) (s n : Int) (l : List Int) : tagP (sealL key s n l) = tagL key s n (maskL key s n l) := by
  unfold tagP
  rw [sealL_len, sealL, List.drop_left' (by simp [highB_len, maskL_len]; omega)]
theorem seal_ok {key : List Int} {s n : Int} {l : List Int} (h : W64 n) : okP key s (sealL key s n l) ↔ l.length + 16 ≤ 300 ∧ n ≤ 4611686018427387903 := by
  unfold okP
  rw [seal_num h, seal_body, seal_tag, sealL_len]
  simp
/-- The eight bytes ahead of the tag's, as they lie. -/
theorem front_eq {p : List Int} (hp : 16 ≤ p.length) (hw : ∀ x ∈ p, W8 x) : highB (numP p) ++ bodyP p = p.take (p.length - 8) := by
  unfold numP bodyP
  rw [high_beN (by simp; omega) (fun x hx => hw x (List.mem_of_mem_take hx))]
  have : p.take (p.length - 8) = p.take 8 ++ (p.drop 8).take (p.length - 8 - 8) := by
    rw [← List.take_add]; congr 1; omega
  rw [this, show p.length - 8 - 8 = p.length - 16 by omega]
end Go.Proofs.YtjnmokmchdfchaaDoor
namespace Go.Proofs.YtjnmokmchdfchaaDoor
open Go.RowKit
attribute [local go_sem ↓] Go.wp_at_zero Go.wp_at_succ

def tagEq (key : List Int) (s : Int) (p : List Int) (m : Nat) : Prop := highB (hashN key (s :: 2 :: p.take (m - 8))) = p.drop (m - 8)
instance (key : List Int) (s : Int) (p : List Int) (m : Nat) : Decidable (tagEq key s p m) := by unfold tagEq; infer_instance
theorem high_at {n : Int} {j : Nat} (h : j < 8) : (highB n).getD j 0 = hb n j := by
  match j, h with
  | 0, _ | 1, _ | 2, _ | 3, _ | 4, _ | 5, _ | 6, _ | 7, _ => rfl
theorem hb_eq (n : Int) (j : Nat) : hb n j = n / 2 ^ (56 - 8 * j) % 256 := rfl
theorem eq_of_getD {l r : List Int} (hl : l.length = 8) (hr : r.length = 8) (h : ∀ i, i < 8 → l.getD i 0 = r.getD i 0) : l = r := by
  apply List.ext_getElem (by omega)
  intro i h1 h2
  have := h i (by omega)
  simpa [List.getD, h1, h2] using this

set_option maxRecDepth 100000 in
set_option maxHeartbeats 600000 in
theorem tagged_any (key : List Int) (f : Bool) (pb po m cap : Nat) (p : List Int) (w : World) (hk : KeyOk key) (hbp : BSv w (some ⟨pb, po, none⟩) m cap p) (h1 : 16 ≤ m) (h2 : m ≤ 300) :
    Calls Tryd.prog 37 #[.agg (keyA key), .bool f, .slice (some ⟨pb, po, none⟩) m cap] w fun e w' =>
      e = .returned (.bool (decide (tagEq key (sd f) p m))) ∧ w.grownBy w' none := by
  have hsz := keyA_size hk
  have hm : m = p.length := hbp.2.1
  have hkc := heap_alloc_new w (.cells (keyA key) 32)
  have hH := hide (fun (a : Option Addr) (n cap : Nat) (l : List Int) (W : World) => hash_any key a n cap l W hk)
  obtain ⟨K, hK⟩ : ∃ K, K = keyA key := ⟨_, rfl⟩
  rw [← hK] at hH hkc hsz ⊢
  clear hK
  have hcp := hbp.2.2.1
  have hcm := hbp.2.2.2.1
  unfold maxLen at hcm
  have hpw := hbp.1
  have hn8 : ∃ n : Nat, n = m - 8 := ⟨_, rfl⟩
  obtain ⟨n, hn⟩ := hn8
  have o1 := own_two (w.alloc (.cells K 32)) (sd f) 2 (sd_w f) (by unfold W8; omega)
  rw [World.size_alloc] at o1
  have g2 : w.grownBy ((w.alloc (.cells K 32)).alloc (.cells #[.int .u8 (sd f), .int .u8 2] 5)) none := gb_alloc (gb_alloc (World.grownBy.refl _ _) _) _
  have hk2 := hide (keep_gb hkc (World.grownBy_alloc _ (.cells #[.int .u8 (sd f), .int .u8 2] 5) none))
  have hb2 := hbp.gb0 g2
  have hb1 : BSv ((w.alloc (.cells K 32)).alloc (.cells #[.int .u8 (sd f), .int .u8 2] 5)) (some ⟨pb, po, none⟩) n cap (p.take n) := by
    obtain ⟨k1, k2, k3, k4, ⟨h, -⟩ | ⟨b', o', h, k5⟩⟩ := hb2
    · cases h
    · cases h
      exact ⟨fun x hx => k1 x (List.mem_of_mem_take hx), by rw [List.length_take]; omega, by omega, k4, .inr ⟨_, _, rfl, k5.take _⟩⟩
  have hlT : (p.take n).length = n := by rw [List.length_take]; omega
  have hnw : IntKind.i64.wrap ((m : Int) - 8) = (n : Int) := by simp [IntKind.wrap, IntKind.bits, IntKind.signed]; omega
  have hmn : (m : Int) - 8 = (n : Int) := by omega
  have hnc : (n : Int) ≤ (cap : Int) := by omega
  have hn3 : n ≤ 300 := by omega
  have hpc : Hid (∀ W, w.grownBy W none → ∀ i, i < 8 → W.cell? ⟨pb, po + (n + i), none⟩ = some (.int .u8 (p.getD (n + i) 0))) := hide (fun W g i hi => by
    obtain ⟨-, -, -, -, ⟨h, -⟩ | ⟨b', o', h, k5⟩⟩ := hbp.gb0 g
    · cases h
    · cases h
      exact k5.1 (n + i) (by omega))
  have hpw2 : Hid (∀ i, W8 (p.getD i 0)) := hide (fun i => getD_w8 hpw i)
  have hT0 : Hid (tagEq key (sd f) p m ↔ ∀ i, i < 8 → p.getD (n + i) 0 = hb (hashN key (sd f :: 2 :: p.take n)) i) := hide (by
    have hpd : (p.drop n).length = 8 := by rw [List.length_drop]; omega
    have hgd : ∀ i, (p.drop n).getD i 0 = p.getD (n + i) 0 := fun i => by simp [List.getD]
    unfold tagEq
    rw [← hn]
    constructor
    · intro e i hi
      rw [← hgd, ← e]
      exact high_at hi
    · intro e
      refine eq_of_getD (highB_len _) hpd (fun i hi => ?_)
      rw [hgd, e i hi]
      exact high_at hi)
  obtain ⟨R, hR⟩ : ∃ R, R = tagEq key (sd f) p m := ⟨_, rfl⟩
  replace o1 := hide o1
  replace g2 := hide g2
  replace hb1 := hide hb1
  replace hlT := hide hlT
  replace hm := hide hm
  replace hn := hide hn
  cases f
  · simp only [sd, Bool.false_eq_true, if_false] at o1 hb1 hk2 hT0 g2 ⊢
    go_enter Tryd.func37, Tryd.ntmps37
    go_wp2_with (first | (at_builtin; refine wpList_appendB (by rfl) _ _ (by rfl) (w.heap.size + 1) _ [1, 2] (by rfl) (unhide o1) _ _ _ (p.take n) (by rfl) (unhide hb1) ?_ ?_ ?_; (rw [unhide hlT]; simp; omega); (simp); rw [unhide hlT]; intro a3 c3 w3 o3 g3 _; have hg3 := (hide ((g3.block w.heap.size (by simp; omega) (fun e => by have := ((unhide o1).lt _ e.symm).1; omega)).trans (unhide hk2)))) | (refine wpList_loadKey _ (by rfl) (by rfl) _ (by rfl) K ?_ hsz ?_; exact unhide hg3))
    have hlen3 : ([1, 2] ++ p.take n : List Int).length ≤ 100000000 := by simp; omega
    have gw3 : w.grownBy w3 none := gb_trans' (unhide g2) g3 (fun j e => .inl (by have := ((unhide o1).lt _ e).1; omega))
    refine (unhide hH _ _ _ ([1, 2] ++ p.take n) _ o3.bsv hlen3).mono ?_
    rintro e w5 ⟨rfl, g5⟩
    have gw5 := gb_trans gw3 g5
    have hw64 : W64 (hashN key ([1, 2] ++ p.take n)) := hashN_w key _ hk o3.1
    obtain ⟨h, hh⟩ : ∃ h, h = hashN key ([1, 2] ++ p.take n) := ⟨_, rfl⟩
    rw [← hh] at hw64 ⊢
    simp only [List.cons_append, List.nil_append] at hh
    replace hh := hide hh
    clear o3 g3 g5 hg3 hk2 gw3
    obtain ⟨x0, x1⟩ := hw64
    go_wp2_with fail
    go_loopw [11] (fun i wr => ∃ j : Nat, j ≤ 8 ∧ i = .int .i64 (j : Int) ∧ (∀ i, i < j → p.getD (n + i) 0 = hb h i) ∧ w.grownBy wr none) (fun i _ => 8 - (intOf i).toNat)
    case atStart => exact ⟨0, by omega, rfl, fun i hi => by omega, gw5⟩
    case round =>
      obtain ⟨j, hj, rfl, hall, g6⟩ := hrel
      replace hall := hide hall
      by_cases hlt : j < 8
      · have hc := unhide hpc wr g6 j hlt
        have hx := unhide hpw2 (n + j)
        obtain ⟨y, hy⟩ : ∃ y, y = p.getD (n + j) 0 := ⟨_, rfl⟩
        rw [← hy] at hc hx
        replace hy := hide hy
        obtain ⟨y0, y1⟩ := hx
        by_cases he : y = h / 2 ^ (56 - 8 * j) % 256
        · have hne : (y != h / 2 ^ (56 - 8 * j) % 256) = false := by simp [he]
          replace he := hide he
          go_wp2_with fail
          go_roundw
          case rel =>
            refine ⟨j + 1, by omega, by go_num, fun i hi => ?_, g6⟩
            rcases Nat.lt_succ_iff_lt_or_eq.1 hi with h7 | rfl
            · exact unhide hall i h7
            · rw [← unhide hy, hb_eq]; exact unhide he
          case measure => simp [intOf]; omega
        · have hne : (y != h / 2 ^ (56 - 8 * j) % 256) = true := by simp [he]
          replace he := hide he
          go_wp2_with fail
          go_ret
          refine ⟨?_, g6⟩
          have hF : ¬ tagEq key 1 p m := fun ht => by
            have := (unhide hT0).1 ht j hlt
            rw [← unhide hy, ← unhide hh, hb_eq] at this
            exact unhide he this
          rw [decide_eq_false hF]
          rfl
      · obtain rfl : j = 8 := by omega
        go_wp2_with fail
        go_ret
        refine ⟨?_, g6⟩
        have hF : tagEq key 1 p m := (unhide hT0).2 (fun i hi => by
          rw [unhide hall i hi, unhide hh])
        rw [decide_eq_true hF]
        rfl
  · simp only [sd, if_true] at o1 hb1 hk2 hT0 g2 ⊢
    go_enter Tryd.func37, Tryd.ntmps37
    go_wp2_with (first | (at_builtin; refine wpList_appendB (by rfl) _ _ (by rfl) (w.heap.size + 1) _ [0, 2] (by rfl) (unhide o1) _ _ _ (p.take n) (by rfl) (unhide hb1) ?_ ?_ ?_; (rw [unhide hlT]; simp; omega); (simp); rw [unhide hlT]; intro a3 c3 w3 o3 g3 _; have hg3 := (hide ((g3.block w.heap.size (by simp; omega) (fun e => by have := ((unhide o1).lt _ e.symm).1; omega)).trans (unhide hk2)))) | (refine wpList_loadKey _ (by rfl) (by rfl) _ (by rfl) K ?_ hsz ?_; exact unhide hg3))
    have hlen3 : ([0, 2] ++ p.take n : List Int).length ≤ 100000000 := by simp; omega
    have gw3 : w.grownBy w3 none := gb_trans' (unhide g2) g3 (fun j e => .inl (by have := ((unhide o1).lt _ e).1; omega))
    refine (unhide hH _ _ _ ([0, 2] ++ p.take n) _ o3.bsv hlen3).mono ?_
    rintro e w5 ⟨rfl, g5⟩
    have gw5 := gb_trans gw3 g5
    have hw64 : W64 (hashN key ([0, 2] ++ p.take n)) := hashN_w key _ hk o3.1
    obtain ⟨h, hh⟩ : ∃ h, h = hashN key ([0, 2] ++ p.take n) := ⟨_, rfl⟩
    rw [← hh] at hw64 ⊢
    simp only [List.cons_append, List.nil_append] at hh
    replace hh := hide hh
    clear o3 g3 g5 hg3 hk2 gw3
    obtain ⟨x0, x1⟩ := hw64
    go_wp2_with fail
    go_loopw [11] (fun i wr => ∃ j : Nat, j ≤ 8 ∧ i = .int .i64 (j : Int) ∧ (∀ i, i < j → p.getD (n + i) 0 = hb h i) ∧ w.grownBy wr none) (fun i _ => 8 - (intOf i).toNat)
    case atStart => exact ⟨0, by omega, rfl, fun i hi => by omega, gw5⟩
    case round =>
      obtain ⟨j, hj, rfl, hall, g6⟩ := hrel
      replace hall := hide hall
      by_cases hlt : j < 8
      · have hc := unhide hpc wr g6 j hlt
        have hx := unhide hpw2 (n + j)
        obtain ⟨y, hy⟩ : ∃ y, y = p.getD (n + j) 0 := ⟨_, rfl⟩
        rw [← hy] at hc hx
        replace hy := hide hy
        obtain ⟨y0, y1⟩ := hx
        by_cases he : y = h / 2 ^ (56 - 8 * j) % 256
        · have hne : (y != h / 2 ^ (56 - 8 * j) % 256) = false := by simp [he]
          replace he := hide he
          go_wp2_with fail
          go_roundw
          case rel =>
            refine ⟨j + 1, by omega, by go_num, fun i hi => ?_, g6⟩
            rcases Nat.lt_succ_iff_lt_or_eq.1 hi with h7 | rfl
            · exact unhide hall i h7
            · rw [← unhide hy, hb_eq]; exact unhide he
          case measure => simp [intOf]; omega
        · have hne : (y != h / 2 ^ (56 - 8 * j) % 256) = true := by simp [he]
          replace he := hide he
          go_wp2_with fail
          go_ret
          refine ⟨?_, g6⟩
          have hF : ¬ tagEq key 0 p m := fun ht => by
            have := (unhide hT0).1 ht j hlt
            rw [← unhide hy, ← unhide hh, hb_eq] at this
            exact unhide he this
          rw [decide_eq_false hF]
          rfl
      · obtain rfl : j = 8 := by omega
        go_wp2_with fail
        go_ret
        refine ⟨?_, g6⟩
        have hF : tagEq key 0 p m := (unhide hT0).2 (fun i hi => by
          rw [unhide hall i hi, unhide hh])
        rw [decide_eq_true hF]
        rfl
set_option maxRecDepth 100000 in
theorem kpick_any (c n : Int) (w : World) (h1 : -9223372036854775808 ≤ c) (h2 : c ≤ 9223372036854775807) (hn : 0 < n) (hn2 : n ≤ 100000) :
    Calls Tryd.prog 18 #[.int .i64 c, .int .i64 n] w fun e w' => (∃ i : Nat, e = .returned (.int .i64 (i : Int)) ∧ (i : Int) < n) ∧ w' = w := by
  have hw1 : ∀ x : Int, -9223372036854775808 ≤ x → x ≤ 9223372036854775807 → IntKind.i64.wrap x = x := fun x h1 h2 => by simp [IntKind.wrap, IntKind.bits, IntKind.signed]; omega
  replace hw1 := hide hw1
  have hnz : (n == 0) = false := by simp; omega
  have key : ∀ x : Int, 0 ≤ x → ∃ i : Nat, x.tmod n = (i : Int) ∧ (i : Int) < n := fun x hx => by
    rw [Int.tmod_eq_emod_of_nonneg hx]
    exact ⟨(x % n).toNat, by have := Int.emod_nonneg x (show n ≠ 0 by omega); omega, by have := Int.emod_lt_of_pos x hn; have := Int.emod_nonneg x (show n ≠ 0 by omega); omega⟩
  replace key := hide key
  by_cases hc : c < 0
  · have hcd : decide (c < 0) = true := by simp [hc]
    have e1 := unhide hw1 (c + 1) (by omega) (by omega)
    have e2 := unhide hw1 (-(c + 1)) (by omega) (by omega)
    have e2' := unhide hw1 (-1 + -c) (by omega) (by omega)
    go_enter Tryd.func18, Tryd.ntmps18
    go_wp2_with fail
    go_ret
    obtain ⟨i, hi, hlt⟩ := unhide key (-(c + 1)) (by omega)
    rw [Int.neg_tmod] at hi
    exact ⟨⟨i, by rw [hi]; rfl, hlt⟩, rfl⟩
  · have hcd : decide (c < 0) = false := by simp [hc]
    go_enter Tryd.func18, Tryd.ntmps18
    go_wp2_with fail
    go_ret
    obtain ⟨i, hi, hlt⟩ := unhide key c (by omega)
    rw [Int.tmod_eq_emod_of_nonneg (by omega)] at hi
    exact ⟨⟨i, by rw [hi]; rfl, hlt⟩, rfl⟩
theorem okP_iff {key : List Int} {s : Int} {p : List Int} {m : Nat} (hm : m = p.length) (h1 : 16 ≤ m) (h2 : m ≤ 300) (hw : ∀ x ∈ p, W8 x) (hn : numP p ≤ 4611686018427387903) : okP key s p ↔ tagEq key s p m := by
  subst hm
  have e : opn s 2 (numP p) ++ bodyP p = s :: 2 :: p.take (p.length - 8) := by
    rw [← front_eq h1 hw]; rfl
  unfold okP tagEq tagL tagP
  rw [e]
  exact ⟨fun h => h.2.2.1, fun h => ⟨h1, h2, h, hn⟩⟩
set_option maxRecDepth 100000 in
set_option maxHeartbeats 600000 in
theorem opens_any (key : List Int) (f : Bool) (pb po m cap : Nat) (p : List Int) (w : World) (hk : KeyOk key) (hL : Laid w) (hbp : BSv w (some ⟨pb, po, none⟩) m cap p) (h1 : 16 ≤ m) (h2 : m ≤ 300) (hn : numP p ≤ 4611686018427387903) :
    Calls Tryd.prog 19 #[.agg (keyA key), .bool f, .slice (some ⟨pb, po, none⟩) m cap] w fun e w' => e = .returned (.bool true) ∧ w.grownBy w' none := by
  have hsz := keyA_size hk
  have hm : m = p.length := hbp.2.1
  have hiff := hide (okP_iff (key := key) (s := sd f) hm h1 h2 hbp.1 hn)
  obtain ⟨W1, hW1⟩ : ∃ W, W = w.alloc (.cells (keyA key) 32) := ⟨_, rfl⟩
  have g1 : w.grownBy W1 none := by rw [hW1]; exact World.grownBy_alloc _ _ _
  have hkc : W1.heap[w.heap.size]? = some (.cells (keyA key) 32 (0, 0)) := by rw [hW1]; exact heap_alloc_new _ _
  have hU := hide (plainUnseal_mid key f _ m cap p W1 hk (hL.gb g1 (by simp)) (hbp.gb0 g1) (by omega) (by omega))
  have hT := hide (fun (W : World) (g : W1.grownBy W none) => tagged_any key f pb po m cap p W hk (hbp.gb0 (gb_trans g1 g)) h1 h2)
  obtain ⟨K, hK⟩ : ∃ K, K = keyA key := ⟨_, rfl⟩
  rw [← hK] at hU hT hkc hW1 hsz ⊢
  clear hK
  replace hkc := hide hkc
  replace hm := hide hm
  clear hbp hL
  subst hW1
  go_enter Tryd.func19, Tryd.ntmps19
  go_wp2_with (refine wpList_loadKey _ (by rfl) (by rfl) _ (by rfl) K ?_ hsz ?_; exact unhide hkc)
  refine (unhide hU).mono ?_
  rintro e w2 ⟨⟨hok, a2, c2, rfl, -, -, -⟩ | ⟨hok, rfl⟩, g2⟩
  · have hkc2 := hide (keep_gb (unhide hkc) g2)
    have hd := decide_eq_true ((unhide hiff).1 hok)
    clear hok
    go_wp2_with (refine wpList_loadKey _ (by rfl) (by rfl) _ (by rfl) K ?_ hsz ?_; exact unhide hkc2)
    refine (unhide hT _ g2).mono ?_
    rintro e w3 ⟨rfl, g3⟩
    rw [hd]
    go_wp2_with fail
    go_ret
    exact ⟨rfl, gb_trans g1 (gb_trans g2 g3)⟩
  · have hkc2 := hide (keep_gb (unhide hkc) g2)
    have hd := decide_eq_false (fun h => hok ((unhide hiff).2 h))
    clear hok
    go_wp2_with (refine wpList_loadKey _ (by rfl) (by rfl) _ (by rfl) K ?_ hsz ?_; exact unhide hkc2)
    refine (unhide hT _ g2).mono ?_
    rintro e w3 ⟨rfl, g3⟩
    rw [hd]
    go_wp2_with fail
    go_ret
    exact ⟨rfl, gb_trans g1 (gb_trans g2 g3)⟩
end Go.Proofs.YtjnmokmchdfchaaDoor
