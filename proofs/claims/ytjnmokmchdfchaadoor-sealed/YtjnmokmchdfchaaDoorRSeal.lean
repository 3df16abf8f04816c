import Derived.Test.YtjnmokmchdfchaaDoorWd
import Derived.Test.YtjnmokmchdfchaaDoorStr
import Derived.Deep.RegionLaw
namespace Go.Proofs.YtjnmokmchdfchaaDoor
open Go.RowKit
attribute [local go_sem ↓] Go.wp_at_zero Go.wp_at_succ

def opn (s u n : Int) : List Int := s :: u :: highB n
def maskB (key : List Int) (s n : Int) (i : Nat) : Int := hb (hashN key (opn s 1 n ++ [((i / 8 : Nat) : Int) % 256])) (i % 8)
def x8 (a b : Int) : Int := bits .xor .u8 a b
def mkL (key : List Int) (s n : Int) (l : List Int) (j : Nat) : List Int := (List.range j).map fun i => x8 (l.getD i 0) (maskB key s n i)
def maskL (key : List Int) (s n : Int) (l : List Int) : List Int := mkL key s n l l.length
def tagL (key : List Int) (s n : Int) (c : List Int) : List Int := highB (hashN key (opn s 2 n ++ c))
def sealL (key : List Int) (s n : Int) (l : List Int) : List Int := highB n ++ maskL key s n l ++ tagL key s n (maskL key s n l)
theorem mkL_succ (key : List Int) (s n : Int) (l : List Int) (j : Nat) : mkL key s n l (j + 1) = mkL key s n l j ++ [x8 (l.getD j 0) (maskB key s n j)] := by simp [mkL, List.range_succ]
theorem mkL_len (key : List Int) (s n : Int) (l : List Int) (j : Nat) : (mkL key s n l j).length = j := by simp [mkL]
theorem x8_w {a b : Int} (ha : W8 a) (hb : W8 b) : W8 (x8 a b) := by
  unfold x8; rw [u8_xor a b ha.1 ha.2 hb.1 hb.2]
  have := Nat.xor_lt_two_pow (n := 8) (x := a.toNat) (y := b.toNat) (by have := ha.2; have := ha.1; omega) (by have := hb.2; have := hb.1; omega)
  unfold W8; omega
theorem opn_w {s u n : Int} (hs : W8 s) (hu : W8 u) : ∀ x ∈ opn s u n, W8 x := by
  intro x hx
  simp only [opn, List.mem_cons] at hx
  rcases hx with rfl | rfl | hx
  · exact hs
  · exact hu
  · exact highB_w n x hx
theorem opn_len (s u n : Int) : (opn s u n).length = 10 := rfl
theorem hashN_w (key l : List Int) (hk : KeyOk key) (hl : ∀ x ∈ l, W8 x) : W64 (hashN key l) := endS_w (mixAll_ok (beginS_ok hk) (padTo_w hl _) _)
theorem key_below {w w' : World} {g : Nat} {K : Array Value} {B : Nat} (h : w.heap[g]? = some (.cells K 32 (0, 0))) (b : Below B w w') (hg : g < B) : w'.heap[g]? = some (.cells K 32 (0, 0)) := (b.block g hg).trans h
theorem own_two (w : World) (x y : Int) (hx : W8 x) (hy : W8 y) : OwnB (w.alloc (.cells #[.int .u8 x, .int .u8 y] 5)) w.heap.size (.slice (some ⟨w.heap.size, 0, none⟩) [x, y].length 2) [x, y] :=
  own_new w [x, y] (fun z hz => by simp only [List.mem_cons, List.not_mem_nil, or_false] at hz; rcases hz with rfl | rfl; exact hx; exact hy) (by simp) _ (Nat.le_refl _)

set_option maxRecDepth 100000 in
set_option maxHeartbeats 1000000 in
theorem tag_any (key : List Int) (s n : Int) (a : Option Addr) (m cap : Nat) (l : List Int) (w : World) (hk : KeyOk key) (hs : W8 s) (hn : W64 n) (hb : BSv w a m cap l) (hl : l.length ≤ 100000) :
    Calls Tryd.prog 35 #[.agg (keyA key), .int .i64 s, .int .u64 n, .slice a m cap] w fun e w' =>
      ∃ a' c', e = .returned (.slice a' 8 c') ∧ OwnB w' w.heap.size (.slice a' 8 c') (tagL key s n l) ∧ w.grownBy w' none := by
  have hsz := keyA_size hk
  have hH := fun (a : Option Addr) (n cap : Nat) (l : List Int) (W : World) => refHash_any key a n cap l W hk
  obtain ⟨K, hKe⟩ : ∃ K, K = keyA key := ⟨_, rfl⟩
  rw [← hKe]
  simp only [← hKe] at hH hsz
  clear hKe
  replace hH := hide hH
  have o1 := own_two (w.alloc (.cells K 32)) s 2 hs (by unfold W8; omega)
  rw [World.size_alloc] at o1
  obtain ⟨s0, s1⟩ := hs
  go_enter Tryd.func35, Tryd.ntmps35
  go_wp2_with fail
  refine (high_any (w.heap.size + 1) _ 2 [s, 2] n _ o1 hn (by simp) (by simp)).mono ?_
  rintro e w1 ⟨a1, c1, rfl, o2, b2⟩
  replace o2 : OwnB w1 (w.heap.size + 1) (.slice a1 10 c1) (opn s 2 n) := o2
  have bw : Below w.heap.size w w1 := (((Below.refl _ w).alloc (Nat.le_refl _) _).alloc (by simp) _).trans (b2.mono (by omega))
  have hg1 : w1.heap[w.heap.size]? = some (.cells K 32 (0, 0)) := key_below (by rw [Below.heap_alloc _ _ _ (by simp)]; exact heap_alloc_new _ _) b2 (by omega)
  have hb1 := hb.gb0 (gb_of_below bw)
  have hz := b2.size
  rw [World.size_alloc, World.size_alloc] at hz
  replace hg1 := hide hg1
  replace hb1 := hide hb1
  replace o2 := hide o2
  clear b2 o1
  go_wp2_with (first | (at_builtin; refine wpList_appendB (by rfl) _ _ (by rfl) (w.heap.size + 1) _ (opn s 2 n) (by rfl) (unhide o2) _ _ _ l (by rfl) (unhide hb1) ?_ ?_ ?_; (rw [opn_len]; omega); omega; rw [opn_len]; intro a3 c3 w3 o3 g3 _; have hg3 := (hide ((g3.block w.heap.size (by omega) (fun e => by have := ((unhide o2).lt _ e.symm).1; omega)).trans (unhide hg1)))) | (refine wpList_loadKey _ (by rfl) (by rfl) _ (by rfl) K ?_ hsz ?_; exact unhide hg3))
  have hlen : (opn s 2 n ++ l).length = 10 + l.length := by simp [opn_len]
  have hw2 : ∀ x ∈ opn s 2 n ++ l, W8 x := o3.1
  have b3 := below_append bw (unhide o2) g3 (by omega) (by omega)
  refine (unhide hH _ _ _ (opn s 2 n ++ l) _ o3.bsv (by omega)).mono ?_
  rintro e w5 ⟨rfl, g5⟩
  have b5 : Below w.heap.size w w5 := b3.grown g5 b3.size (fun k e => by cases e)
  have hz5 := b5.size
  clear o3 g3 hg3 hg1 hb1 o2
  go_wp2_with fail
  refine (high_any w.heap.size none 0 [] _ _ (OwnB.nil _ _) (hashN_w key _ hk hw2) hz5 (by simp)).mono ?_
  rintro e w6 ⟨a6, c6, rfl, o6, b6⟩
  go_wp2_with fail
  go_ret
  exact ⟨a6, c6, rfl, o6, gb_of_below (b5.trans b6)⟩

set_option maxRecDepth 100000 in
set_option maxHeartbeats 2000000 in
theorem masked_any (key : List Int) (s n : Int) (a : Option Addr) (m cap : Nat) (l : List Int) (w : World) (hk : KeyOk key) (hs : W8 s) (hn : W64 n) (hb : BSv w a m cap l) (hl : l.length ≤ 100000) :
    Calls Tryd.prog 34 #[.agg (keyA key), .int .i64 s, .int .u64 n, .slice a m cap] w fun e w' =>
      ∃ a' c', e = .returned (.slice a' l.length c') ∧ OwnB w' w.heap.size (.slice a' l.length c') (maskL key s n l) ∧ w.grownBy w' none := by
  have hsz := keyA_size hk
  have hH := fun (a : Option Addr) (n cap : Nat) (l : List Int) (W : World) => refHash_any key a n cap l W hk
  obtain ⟨K, hKe⟩ : ∃ K, K = keyA key := ⟨_, rfl⟩
  rw [← hKe]
  simp only [← hKe] at hH hsz
  clear hKe
  replace hH := hide hH
  have hml : m = l.length := hb.2.1
  subst hml
  have s8 := hs
  obtain ⟨s0, s1⟩ := hs
  have hcp := hb.2.2.1
  have hcm := hb.2.2.2.1
  unfold maxLen at hcm
  go_enter Tryd.func34, Tryd.ntmps34
  go_wp2_with fail
  go_loopw [9, 10] (fun v i wr => ∃ (j : Nat) (a' : Option Addr) (c' : Nat), j ≤ l.length ∧ i = .int .i64 (j : Int) ∧ v = .slice a' j c' ∧ OwnB wr (w.heap.size + 1) v (mkL key s n l j) ∧ Below (w.heap.size + 1) (w.alloc (.cells K 32)) wr) (fun _ i _ => l.length - (intOf i).toNat)
  case atStart => exact ⟨0, none, 0, by omega, rfl, rfl, OwnB.nil _ _, Below.refl _ _⟩
  case round =>
    obtain ⟨j, a', c', hj, rfl, rfl, o1, b1⟩ := hrel
    have hz1 := b1.size
    rw [World.size_alloc] at hz1
    by_cases hlt : j < l.length
    · have o2 := own_two wr s 1 s8 (by unfold W8; omega)
      have bw : Below w.heap.size w wr := ((Below.refl _ w).alloc (Nat.le_refl _) _).trans (b1.mono (by omega))
      have hg1 := hide (key_below (heap_alloc_new w _) b1 (by omega))
      have hb1 := hb.gb0 (gb_of_below bw)
      obtain ⟨hw8, -, -, -, h5⟩ := hb1
      rcases h5 with ⟨rfl, rfl⟩ | ⟨bb, o, rfl, hbs⟩
      · omega
      · replace o1 := hide o1
        go_wp2_with fail
        refine (high_any wr.heap.size _ 2 [s, 1] n _ o2 hn (by simp) (by simp)).mono ?_
        rintro e w2 ⟨a2, c2, rfl, o3, b3⟩
        replace o3 : OwnB w2 wr.heap.size (.slice a2 10 c2) (opn s 1 n) := o3
        have bA : Below wr.heap.size wr w2 := ((Below.refl _ wr).alloc (Nat.le_refl _) _).trans b3
        have hzA := bA.size
        have hj8 : W8 ((j : Int) / 8 % 256) := by unfold W8; omega
        have bz := hide (one_new w2 _ hj8)
        have o3' := hide (o3.gb0 (World.grownBy_alloc w2 (.cells #[.int .u8 ((j : Int) / 8 % 256)] 5) none))
        have hg2 := hide (key_below (unhide hg1) bA (by omega))
        clear b3 o2
        go_wp2_with (first | (at_builtin; refine wpList_appendB (by rfl) _ _ (by rfl) wr.heap.size _ (opn s 1 n) (by rfl) (unhide o3') _ _ _ [(j : Int) / 8 % 256] (by rfl) (unhide bz) ?_ ?_ ?_; (rw [opn_len]; simp); (simp; omega); rw [opn_len]; intro a4 c4 w4 o4 g4 _; have b4 := below_append (bA.alloc hzA _) (unhide o3') g4 (by simp; omega) (Nat.le_refl _); have hg4 := hide (key_below (unhide hg1) b4 (by omega))) | (refine wpList_loadKey _ (by rfl) (by rfl) _ (by rfl) K ?_ hsz ?_; exact unhide hg4))
        have hw4 := o4.1
        refine (unhide hH _ _ _ _ _ o4.bsv (by simp [opn_len])).mono ?_
        rintro e w5 ⟨rfl, g5⟩
        have b5 : Below wr.heap.size wr w5 := b4.grown g5 b4.size (fun k e => by cases e)
        have hz5 := b5.size
        have hhw := hashN_w key _ hk hw4
        clear o4 g4 hg4 hg2 bz o3' o3 g5 b4 bA
        go_wp2_with fail
        refine (high_any w5.heap.size none 0 [] _ _ (OwnB.nil _ _) hhw (Nat.le_refl _) (by simp)).mono ?_
        rintro e w6 ⟨a6, c6, rfl, o6, b6⟩
        have b6' := b5.trans (b6.mono hz5)
        obtain ⟨g, c, hv, hgb, hgl, hbs6, hcap, hcm6⟩ := own_some o6 (by simp [highB_len])
        simp only [List.length_nil, List.nil_append, Nat.zero_add, Value.slice.injEq] at hv
        obtain ⟨rfl, -, rfl⟩ := hv
        have hmb : Hid ((highB (hashN key (opn s 1 n ++ [(j : Int) / 8 % 256]))).getD (j % 8) 0 = maskB key s n j) := by
          show _ = Go.Proofs.YtjnmokmchdfchaaDoor.hb _ _
          have : j % 8 < 8 := Nat.mod_lt _ (by decide)
          rw [show ((j / 8 : Nat) : Int) = (j : Int) / 8 from rfl]
          generalize hashN key (opn s 1 n ++ [(j : Int) / 8 % 256]) = h
          have e : j % 8 = 0 ∨ j % 8 = 1 ∨ j % 8 = 2 ∨ j % 8 = 3 ∨ j % 8 = 4 ∨ j % 8 = 5 ∨ j % 8 = 6 ∨ j % 8 = 7 := by omega
          rcases e with e | e | e | e | e | e | e | e <;> rw [e] <;> rfl
        have q2 := hbs6.1 (j % 8) (by simp [highB_len]; omega)
        rw [List.nil_append, unhide hmb, Nat.zero_add] at q2
        have q1 : w6.cell? ⟨bb, o + j, none⟩ = some (.int .u8 (l.getD j 0)) := by
          have hlt6 := World.block_lt_of_cell? wr _ (hbs.1 j hlt)
          rw [b6'.cell (p := ⟨bb, o + j, none⟩) hlt6]; exact hbs.1 j hlt
        have hx8 : W8 (x8 (l.getD j 0) (maskB key s n j)) := x8_w (getD_w8 hw8 j) (hb_w _ _)
        have o1' := hide ((unhide o1).below b6' (Nat.le_refl _))
        have bz := hide (one_new w6 _ hx8)
        have hsu := hide (mkL_succ key s n l j)
        unfold x8 at hx8 bz hsu
        generalize l.getD j 0 = x at *
        generalize maskB key s n j = y at *
        have hz6 := b6'.size
        have i1 : (j : Int) < (l.length : Int) := by omega
        obtain ⟨r, hr⟩ : ∃ r : Nat, r = j % 8 := ⟨_, rfl⟩
        have i2 : (j : Int).tmod 8 = (r : Int) := by rw [Int.tmod_eq_emod_of_nonneg (by omega), hr]; rfl
        have i3 : r < 8 := by omega
        have i5 : (0 : Int) ≤ (r : Int) := by omega
        have i6 : (r : Int) < 8 := by omega
        rw [← hr] at q2
        clear hr
        clear hbs6 hbs hmb o6 b6 hhw hw4 hb
        go_wp2_with fail
        go_region_law ((refine step_appendB (by rfl) _ _ (by rfl) (w.heap.size + 1) _ (mkL key s n l j) (by rfl) ((unhide o1').gb0 (gb_drew (World.grownBy_alloc _ _ _))) _ _ _ [bits .xor .u8 x y] (by rfl) ((unhide bz).gb0 (gb_drew (World.grownBy.refl _ _))) (by rw [mkL_len]; simp; omega) (by simp; omega) ?_; intro a7 c7 w7 o7 g7 _))
        all_goals (go_wp2_with fail)
        all_goals
          refine ⟨⟨j + 1, a7, c7, by omega, by go_num, by rw [mkL_len], ?_, ?_⟩, by simp [intOf]; omega⟩
          · rw [unhide hsu]; exact o7
          · exact below_append ((((b1.trans (b6'.mono hz1)).alloc (by omega) _)).drew) ((unhide o1').gb0 (gb_drew (World.grownBy_alloc _ _ _))) g7 (by simp; omega) (Nat.le_refl _)
    · obtain rfl : j = l.length := by omega
      go_wp2_with fail
      go_ret
      refine ⟨a', c', rfl, ⟨o1.1, ?_⟩, ?_⟩
      · obtain ⟨h1, h2⟩ := o1.2
        refine ⟨h1, ?_⟩
        rcases h2 with h2 | ⟨g, cap, cur, e1, e2, e3⟩
        · exact .inl h2
        · exact .inr ⟨g, cap, cur, e1, by omega, e3⟩
      · exact gb_of_below (((Below.refl _ w).alloc (Nat.le_refl _) _).trans (b1.mono (by omega)))
end Go.Proofs.YtjnmokmchdfchaaDoor
