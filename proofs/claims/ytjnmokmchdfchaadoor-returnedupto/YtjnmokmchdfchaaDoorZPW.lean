import Derived.Test.YtjnmokmchdfchaaDoorZPU
import Derived.Test.YtjnmokmchdfchaaDoorZRefHash2
import Derived.Test.YtjnmokmchdfchaaDoorZRSeal2
import Derived.Test.YtjnmokmchdfchaaDoorZErr3
namespace Go.Proofs.YtjnmokmchdfchaaDoor
open Go.RowKit
attribute [local go_sem ↓] Go.wp_at_zero Go.wp_at_succ

theorem hash_any (key : List Int) (a : Option Addr) (n cap : Nat) (l : List Int) (w : World) (hk : KeyOk key) (hb : BSv w a n cap l) (hl : l.length ≤ 100000000) : Calls Tryd.prog 11 #[.agg (keyA key), .slice a n cap] w fun e w' =>
    e = .returned (.int .u64 (hashN key l)) ∧ w.grownBy w' none := by
  have hsz := keyA_size hk
  have hgK := heap_alloc_new w (.cells (keyA key) 32)
  have hS := hide (sum_any key a n cap l (w.alloc (.cells (keyA key) 32)) hk (hb.gb0 (World.grownBy_alloc _ _ _)) hl)
  generalize keyA key = K at *
  replace hgK := hide hgK
  go_enter Tryd.func11, Tryd.ntmps11
  go_wp2_with (refine wpList_loadKey _ (by rfl) (by rfl) _ (by rfl) K ?_ hsz ?_; exact unhide hgK)
  refine (unhide hS).mono ?_
  rintro e w1 ⟨rfl, g1⟩
  go_wp2_with fail
  go_ret
  exact ⟨rfl, gb_trans (World.grownBy_alloc _ _ _) g1⟩

theorem sSeal_any (key : List Int) (f : Bool) (n : Int) (a : Option Addr) (m cap : Nat) (l : List Int) (w : World) (hk : KeyOk key) (hn : W64 n) (hb : BSv w a m cap l) (hl : l.length ≤ 50000000) :
    Calls Tryd.prog 32 #[.agg (keyA key), .bool f, .int .u64 n, .slice a m cap] w fun e w' =>
      ∃ g, e = .returned (.slice (some ⟨g, 0, none⟩) (l.length + 16) (l.length + 16)) ∧ w.heap.size ≤ g ∧ w'.heap[g]? = some (.cells (bv (sealL key (sd f) n l)).toArray 5 (0, 0)) ∧ w.grownBy w' none := by
  have hsz := keyA_size hk
  have hgK := heap_alloc_new w (.cells (keyA key) 32)
  have hS := hide (pSeal_any key f n a m cap l (w.alloc (.cells (keyA key) 32)) hk hn (hb.gb0 (World.grownBy_alloc _ _ _)) hl)
  generalize keyA key = K at *
  replace hgK := hide hgK
  go_enter Tryd.func32, Tryd.ntmps32
  go_wp2_with (refine wpList_loadKey _ (by rfl) (by rfl) _ (by rfl) K ?_ hsz ?_; exact unhide hgK)
  refine (unhide hS).mono ?_
  rintro e w1 ⟨g, rfl, hg, hp, g1⟩
  go_wp2_with fail
  go_ret
  exact ⟨g, rfl, by rw [World.size_alloc] at hg; omega, hp, gb_trans (World.grownBy_alloc _ _ _) g1⟩

theorem sUnseal_len (key : List Int) (f : Bool) (a : Option Addr) (m cap : Nat) (l : List Int) (w : World) (hk : KeyOk key) (hb : BSv w a m cap l) (hl : l.length < 16 ∨ 300 < l.length) :
    Calls Tryd.prog 36 #[.agg (keyA key), .bool f, .slice a m cap] w fun e w' => e = .returned (.tuple #[.int .u64 0, .slice none 0 0, .iface 24 (.int .i64 4)]) ∧ w.grownBy w' none := by
  have hsz := keyA_size hk
  have hgK := heap_alloc_new w (.cells (keyA key) 32)
  have hS := hide (pUnseal_len key f a m cap l (w.alloc (.cells (keyA key) 32)) (hb.gb0 (World.grownBy_alloc _ _ _)) hl)
  generalize keyA key = K at *
  replace hgK := hide hgK
  go_enter Tryd.func36, Tryd.ntmps36
  go_wp2_with (refine wpList_loadKey _ (by rfl) (by rfl) _ (by rfl) K ?_ hsz ?_; exact unhide hgK)
  refine (unhide hS).mono ?_
  rintro e w1 ⟨rfl, g1⟩
  go_wp2_with fail
  go_ret3
  exact ⟨rfl, gb_trans (World.grownBy_alloc _ _ _) g1⟩

/-- What Unseal answers to 16 up to 300 bytes. -/
def UAns (key : List Int) (f : Bool) (l : List Int) (base : Nat) (bad good : Value) (e : Ending) (w' : World) : Prop :=
  (okP key (sd f) l ∧ ∃ a' c', e = .returned (.tuple #[.int .u64 (numP l), .slice a' (l.length - 16) c', good]) ∧ BSv w' a' (l.length - 16) c' (maskL key (sd f) (numP l) (bodyP l)) ∧ (∀ x, a' = some x → base ≤ x.block) ∧ (l.length = 16 → a' = none)) ∨
    (¬ okP key (sd f) l ∧ e = .returned (.tuple #[.int .u64 0, .slice none 0 0, bad]))

theorem sUnseal_mid (key : List Int) (f : Bool) (a : Option Addr) (m cap : Nat) (l : List Int) (w : World) (hk : KeyOk key) (hb : BSv w a m cap l) (hl1 : 16 ≤ l.length) (hl2 : l.length ≤ 300) :
    Calls Tryd.prog 36 #[.agg (keyA key), .bool f, .slice a m cap] w fun e w' => UAns key f l w.heap.size (.iface 24 (.int .i64 4)) .nilIface e w' ∧ w.grownBy w' none := by
  have hsz := keyA_size hk
  have hgK := heap_alloc_new w (.cells (keyA key) 32)
  have hS := hide (pUnseal_mid key f a m cap l (w.alloc (.cells (keyA key) 32)) hk (hb.gb0 (World.grownBy_alloc _ _ _)) hl1 hl2)
  generalize keyA key = K at *
  replace hgK := hide hgK
  go_enter Tryd.func36, Tryd.ntmps36
  go_wp2_with (refine wpList_loadKey _ (by rfl) (by rfl) _ (by rfl) K ?_ hsz ?_; exact unhide hgK)
  refine (unhide hS).mono ?_
  rintro e w1 ⟨⟨hok, a', c', rfl, hb', ha', h16⟩ | ⟨hok, rfl⟩, g1⟩
  · have hok' := hide hok
    clear hok
    replace hb' := hide hb'
    replace h16 := hide h16
    go_wp2_with fail
    go_ret3
    exact ⟨.inl ⟨unhide hok', a', c', rfl, unhide hb', fun x hx => (by have := ha' x hx; rw [World.size_alloc] at this; omega), unhide h16⟩, gb_trans (World.grownBy_alloc _ _ _) g1⟩
  · have hok' := hide hok
    clear hok
    go_wp2_with fail
    go_ret3
    exact ⟨.inr ⟨unhide hok', rfl⟩, gb_trans (World.grownBy_alloc _ _ _) g1⟩


theorem plainSeal_any (key : List Int) (f : Bool) (n : Int) (a : Option Addr) (m cap : Nat) (l : List Int) (w : World) (hk : KeyOk key) (hn : W64 n) (hb : BSv w a m cap l) (hl : l.length ≤ 50000000) :
    Calls Tryd.prog 13 #[.agg (keyA key), .bool f, .int .u64 n, .slice a m cap] w fun e w' =>
      ∃ g, e = .returned (.slice (some ⟨g, 0, none⟩) (l.length + 16) (l.length + 16)) ∧ w.heap.size ≤ g ∧ w'.heap[g]? = some (.cells (bv (sealL key (sd f) n l)).toArray 5 (0, 0)) ∧ w.grownBy w' none := by
  have hsz := keyA_size hk
  obtain ⟨W1, hW1⟩ : ∃ W, W = w.alloc (.cells (keyA key) 32) := ⟨_, rfl⟩
  have g1 : w.grownBy W1 none := by rw [hW1]; exact World.grownBy_alloc _ _ _
  have hk1 : W1.heap[w.heap.size]? = some (.cells (keyA key) 32 (0, 0)) := by rw [hW1]; exact heap_alloc_new _ _
  have hb1 := hide (hb.gb0 g1)
  replace hk1 := hide hk1
  have hS := hide (fun (a : Option Addr) (m cap : Nat) (W : World) (hb : BSv W a m cap l) => sSeal_any key f n a m cap l W hk hn hb hl)
  generalize keyA key = K at *
  clear hb
  go_enter Tryd.func13, Tryd.ntmps13
  go_upto_region 1 with fail
  rw [← hW1]
  clear hW1
  go_wp2_with (first | (refine wpList_cloneB (by rfl) _ (by rfl) _ _ _ l (by rfl) (unhide hb1) (by omega) ?_; intro a2 c2 w2 o2 g2; replace o2 := hide o2) | (refine wpList_loadKey _ (by rfl) (by rfl) _ (by rfl) K ?_ hsz ?_; exact keep_gb (unhide hk1) g2))
  refine (unhide hS _ _ _ _ (unhide o2).bsv).mono ?_
  rintro e w3 ⟨g, rfl, hg, hp, g3⟩
  replace hp := hide hp
  have o3 := hide ((unhide o2).gb0 g3)
  go_wp2_with fail
  refine (scribble_any _ _ _ l _ _ (unhide o3) (by omega)).mono ?_
  rintro e w4 ⟨rfl, g4⟩
  go_wp2_with fail
  go_ret
  have hz1 := g1.size
  have hz2 := g2.size
  have hlt := (unhide o2).lt
  have hgl := (Array.getElem?_eq_some_iff.1 (unhide hp)).1
  refine ⟨g, rfl, by omega, ?_, ?_⟩
  · exact (g4.block g hgl (fun e => by have := hlt _ e.symm; omega)).trans (unhide hp)
  · exact gb_trans' (gb_trans (gb_trans g1 g2) g3) g4 (fun j e => .inl (by have := hlt _ e; omega))

theorem plainUnseal_len (key : List Int) (f : Bool) (a : Option Addr) (m cap : Nat) (l : List Int) (w : World) (hk : KeyOk key) (hL : Laid w) (hb : BSv w a m cap l) (hl : l.length < 16 ∨ 300 < l.length) (hl2 : l.length ≤ 50000000) :
    Calls Tryd.prog 16 #[.agg (keyA key), .bool f, .slice a m cap] w fun e w' => e = .returned (.tuple #[.int .u64 0, .slice none 0 0, .int .i64 4]) ∧ w.grownBy w' none := by
  have hsz := keyA_size hk
  obtain ⟨W1, hW1⟩ : ∃ W, W = w.alloc (.cells (keyA key) 32) := ⟨_, rfl⟩
  have g1 : w.grownBy W1 none := by rw [hW1]; exact World.grownBy_alloc _ _ _
  have hk1 : W1.heap[w.heap.size]? = some (.cells (keyA key) 32 (0, 0)) := by rw [hW1]; exact heap_alloc_new _ _
  have hb1 := hide (hb.gb0 g1)
  replace hk1 := hide hk1
  have hS := hide (fun (a : Option Addr) (m cap : Nat) (W : World) (hb : BSv W a m cap l) => sUnseal_len key f a m cap l W hk hb hl)
  generalize keyA key = K at *
  clear hb hl
  have hL1 := hide (hL.gb g1 (by simp))
  have hLt := hL.lt
  clear hL
  go_enter Tryd.func16, Tryd.ntmps16
  go_upto_region 1 with fail
  rw [← hW1]
  clear hW1
  go_wp2_with (first | (refine wpList_cloneB (by rfl) _ (by rfl) _ _ _ l (by rfl) (unhide hb1) (by omega) ?_; intro a2 c2 w2 o2 g2; replace o2 := hide o2) | (refine wpList_loadKey _ (by rfl) (by rfl) _ (by rfl) K ?_ hsz ?_; exact keep_gb (unhide hk1) g2))
  refine (unhide hS _ _ _ _ (unhide o2).bsv).mono ?_
  rintro e w3 ⟨rfl, g3⟩
  have o3 := hide ((unhide o2).gb0 g3)
  go_wp2_with fail
  refine (scribble_any _ _ _ l _ _ (unhide o3) (by omega)).mono ?_
  rintro e w4 ⟨rfl, g4⟩
  have hz1 := g1.size
  have hlt := hide (unhide o2).lt
  have hL4 : Laid w4 := (((unhide hL1).gb g2 (by simp)).gb g3 (by simp)).gb g4 (fun e => by have := unhide hlt _ e; omega)
  replace hL4 := hide hL4
  go_wp2_with fail
  refine (number_errno 4 _ (unhide hL4)).mono ?_
  rintro e w5 ⟨rfl, g5⟩
  go_wp2_with fail
  go_ret3
  exact ⟨rfl, gb_trans (gb_trans' (gb_trans (gb_trans g1 g2) g3) g4 (fun j e => .inl (by have := unhide hlt _ e; omega))) g5⟩
theorem plainUnseal_mid (key : List Int) (f : Bool) (a : Option Addr) (m cap : Nat) (l : List Int) (w : World) (hk : KeyOk key) (hL : Laid w) (hb : BSv w a m cap l) (hl1 : 16 ≤ l.length) (hl2 : l.length ≤ 300) :
    Calls Tryd.prog 16 #[.agg (keyA key), .bool f, .slice a m cap] w fun e w' => UAns key f l w.heap.size (.int .i64 4) (.int .i64 0) e w' ∧ w.grownBy w' none := by
  have hsz := keyA_size hk
  obtain ⟨W1, hW1⟩ : ∃ W, W = w.alloc (.cells (keyA key) 32) := ⟨_, rfl⟩
  have g1 : w.grownBy W1 none := by rw [hW1]; exact World.grownBy_alloc _ _ _
  have hk1 : W1.heap[w.heap.size]? = some (.cells (keyA key) 32 (0, 0)) := by rw [hW1]; exact heap_alloc_new _ _
  have hb1 := hide (hb.gb0 g1)
  replace hk1 := hide hk1
  have hS := hide (fun (a : Option Addr) (m cap : Nat) (W : World) (hb : BSv W a m cap l) => sUnseal_mid key f a m cap l W hk hb hl1 hl2)
  generalize keyA key = K at *
  clear hb
  have hL1 := hide (hL.gb g1 (by simp))
  have hLt := hL.lt
  clear hL
  go_enter Tryd.func16, Tryd.ntmps16
  go_upto_region 1 with fail
  rw [← hW1]
  clear hW1
  go_wp2_with (first | (refine wpList_cloneB (by rfl) _ (by rfl) _ _ _ l (by rfl) (unhide hb1) (by omega) ?_; intro a2 c2 w2 o2 g2; replace o2 := hide o2) | (refine wpList_loadKey _ (by rfl) (by rfl) _ (by rfl) K ?_ hsz ?_; exact keep_gb (unhide hk1) g2))
  refine (unhide hS _ _ _ _ (unhide o2).bsv).mono ?_
  rintro e w3 ⟨⟨hok, a', c', rfl, hb', ha', h16⟩ | ⟨hok, rfl⟩, g3⟩
  · have hok' := hide hok
    clear hok
    replace hb' := hide hb'
    replace h16 := hide h16
    have o3 := hide ((unhide o2).gb0 g3)
    go_wp2_with fail
    refine (scribble_any _ _ _ l _ _ (unhide o3) (by omega)).mono ?_
    rintro e w4 ⟨rfl, g4⟩
    have hz1 := g1.size
    have hlt := hide (unhide o2).lt
    have hL4 : Laid w4 := (((unhide hL1).gb g2 (by simp)).gb g3 (by simp)).gb g4 (fun e => by have := unhide hlt _ e; omega)
    replace hL4 := hide hL4
    go_wp2_with fail
    refine (number_nil _).mono ?_
    rintro e w5 ⟨rfl, g5⟩
    go_wp2_with fail
    go_ret3
    have b3 := (unhide hb').gb g4 (fun j e => .inr (.inr (fun x hx => by have h1 := ha' x hx; have h2 := unhide hlt _ e; have h3 := g2.size; omega)))
    exact ⟨.inl ⟨unhide hok', a', c', rfl, b3.gb0 g5, fun x hx => (by have := ha' x hx; have h3 := g2.size; omega), unhide h16⟩, gb_trans (gb_trans' (gb_trans (gb_trans g1 g2) g3) g4 (fun j e => .inl (by have := unhide hlt _ e; omega))) g5⟩
  · have hok' := hide hok
    clear hok
    have o3 := hide ((unhide o2).gb0 g3)
    go_wp2_with fail
    refine (scribble_any _ _ _ l _ _ (unhide o3) (by omega)).mono ?_
    rintro e w4 ⟨rfl, g4⟩
    have hz1 := g1.size
    have hlt := hide (unhide o2).lt
    have hL4 : Laid w4 := (((unhide hL1).gb g2 (by simp)).gb g3 (by simp)).gb g4 (fun e => by have := unhide hlt _ e; omega)
    replace hL4 := hide hL4
    go_wp2_with fail
    refine (number_errno 4 _ (unhide hL4)).mono ?_
    rintro e w5 ⟨rfl, g5⟩
    go_wp2_with fail
    go_ret3
    exact ⟨.inr ⟨unhide hok', rfl⟩, gb_trans (gb_trans' (gb_trans (gb_trans g1 g2) g3) g4 (fun j e => .inl (by have := unhide hlt _ e; omega))) g5⟩

set_option maxRecDepth 100000 in
theorem pick_any (c n : Int) (w : World) (h1 : -9223372036854775808 ≤ c) (h2 : c ≤ 9223372036854775807) (hn : 0 < n) (hn2 : n ≤ 100000) :
    Calls Tryd.prog 15 #[.int .i64 c, .int .i64 n] w fun e w' => (∃ i : Nat, e = .returned (.int .i64 (i : Int)) ∧ (i : Int) < n) ∧ w' = w := by
  have hw1 : ∀ x : Int, -9223372036854775808 ≤ x → x ≤ 9223372036854775807 → IntKind.i64.wrap x = x := fun x h1 h2 => by simp [IntKind.wrap, IntKind.bits, IntKind.signed]; omega
  replace hw1 := hide hw1
  have hnz : (n == 0) = false := by simp; omega
  have key : ∀ x : Int, 0 ≤ x → ∃ i : Nat, x.tmod n = (i : Int) ∧ (i : Int) < n := fun x hx => by
    rw [Int.tmod_eq_emod_of_nonneg hx]
    exact ⟨(x % n).toNat, by have := Int.emod_nonneg x (show n ≠ 0 by omega); omega, by have := Int.emod_lt_of_pos x hn; have := Int.emod_nonneg x (show n ≠ 0 by omega); omega⟩
  replace key := hide key
  by_cases hc : c < 0
  · have hcd : decide (c < 0) = true := by simp [hc]
    have e1 := unhide hw1 (c + 1) (by omega) (by omega)
    have e2 := unhide hw1 (-(c + 1)) (by omega) (by omega)
    have e2' := unhide hw1 (-1 + -c) (by omega) (by omega)
    go_enter Tryd.func15, Tryd.ntmps15
    go_wp2_with fail
    go_ret
    obtain ⟨i, hi, hlt⟩ := unhide key (-(c + 1)) (by omega)
    rw [Int.neg_tmod] at hi
    exact ⟨⟨i, by rw [hi]; rfl, hlt⟩, rfl⟩
  · have hcd : decide (c < 0) = false := by simp [hc]
    go_enter Tryd.func15, Tryd.ntmps15
    go_wp2_with fail
    go_ret
    obtain ⟨i, hi, hlt⟩ := unhide key c (by omega)
    rw [Int.tmod_eq_emod_of_nonneg (by omega)] at hi
    exact ⟨⟨i, by rw [hi]; rfl, hlt⟩, rfl⟩
end Go.Proofs.YtjnmokmchdfchaaDoor
