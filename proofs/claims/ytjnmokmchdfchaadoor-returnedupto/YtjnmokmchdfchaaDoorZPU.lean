import Derived.Test.YtjnmokmchdfchaaDoorZPS2
import Derived.Test.YtjnmokmchdfchaaDoorZRSeal2
import Derived.Test.YtjnmokmchdfchaaDoorZEqW
import Derived.BigQuiet
namespace Go.Proofs.YtjnmokmchdfchaaDoor
open Go.RowKit
attribute [local go_sem ↓] Go.wp_at_zero Go.wp_at_succ

set_option maxRecDepth 100000 in
theorem pUnseal_len (key : List Int) (f : Bool) (a : Option Addr) (m cap : Nat) (l : List Int) (w : World) (hb : BSv w a m cap l) (hl : l.length < 16 ∨ 300 < l.length) :
    Calls Tryd.prog 53 #[.agg (keyA key), .bool f, .slice a m cap] w fun e w' => e = .returned (.tuple #[.int .u64 0, .slice none 0 0, .iface 24 (.int .i64 4)]) ∧ w.grownBy w' none := by
  generalize keyA key = K at *
  have hml : m = l.length := hb.2.1
  subst hml
  clear hb
  have hz : ∀ W, W = w.alloc (.cells K 32) → w.grownBy W none := by rintro W rfl; exact World.grownBy_alloc _ _ _
  replace hz := hide hz
  rcases hl with hl | hl
  · have h1 : decide ((l.length : Int) < 16) = true := by simp; omega
    go_enter Tryd.func53, Tryd.ntmps53
    go_wp2_with fail
    go_ret3
    exact ⟨rfl, unhide hz _ rfl⟩
  · have h1 : decide ((l.length : Int) < 16) = false := by simp; omega
    have h2 : decide (300 < (l.length : Int)) = true := by simp; omega
    go_enter Tryd.func53, Tryd.ntmps53
    go_wp2_with fail
    go_ret3
    exact ⟨rfl, unhide hz _ rfl⟩
theorem blk_drew {w w' : World} {ob : Obj} (g : (w.drew.alloc ob).grownBy w' none) : w'.heap[w.heap.size]? = some ob := blk_gb (heap_alloc_new w.drew ob) g
theorem blk_drew2 {w w' : World} {ob : Obj} (g : (w.alloc ob).drew.grownBy w' none) : w'.heap[w.heap.size]? = some ob := blk_gb (w := (w.alloc ob).drew) (heap_alloc_new w ob) g
theorem gb_alloc_drew {W w : World} (g : W.grownBy w.drew none) (ob : Obj) : W.grownBy (w.alloc ob).drew none := gb_trans g (World.grownBy_alloc w.drew ob none)
theorem blk_new {w w' : World} {ob : Obj} (g : (w.alloc ob).grownBy w' none) : w'.heap[w.heap.size]? = some ob := blk_gb (heap_alloc_new w ob) g
theorem gb_set8 {W w : World} {b : Nat} (g : W.grownBy w none) (hb : W.heap.size ≤ b) (u0 u1 u2 u3 u4 u5 u6 u7 : Value) : W.grownBy ((((((((w.setCell ⟨b, 0, none⟩ u0).setCell ⟨b, 1, none⟩ u1).setCell ⟨b, 2, none⟩ u2).setCell ⟨b, 3, none⟩ u3).setCell ⟨b, 4, none⟩ u4).setCell ⟨b, 5, none⟩ u5).setCell ⟨b, 6, none⟩ u6).setCell ⟨b, 7, none⟩ u7) none :=
  gb_set (gb_set (gb_set (gb_set (gb_set (gb_set (gb_set (gb_set g _ _ (.inl hb)) _ _ (.inl hb)) _ _ (.inl hb)) _ _ (.inl hb)) _ _ (.inl hb)) _ _ (.inl hb)) _ _ (.inl hb)) _ _ (.inl hb)
theorem spl_all (n : Nat) (m : List Int) (h : m.length = n) : splice (List.replicate n 0) 0 m = m := by
  unfold splice
  rw [List.take_zero, List.nil_append, Nat.zero_add, List.drop_of_length_le (by simp; omega), List.append_nil]
theorem spl_same (m k : List Int) (h : m.length = k.length) : splice m 0 k = k := by
  unfold splice
  rw [List.take_zero, List.nil_append, Nat.zero_add, List.drop_of_length_le (by omega), List.append_nil]
theorem s5 {wc w1 w2 : World} {kb tb : Nat} {cs : List Value} {v0 v1 v2 v3 v4 v5 v6 v7 : Value} (h : w1.rangeAt kb 0 cs ∧ (w1.cell? ⟨tb, 0, none⟩ = some v0 ∧ w1.cell? ⟨tb, 1, none⟩ = some v1 ∧ w1.cell? ⟨tb, 2, none⟩ = some v2 ∧ w1.cell? ⟨tb, 3, none⟩ = some v3 ∧ w1.cell? ⟨tb, 4, none⟩ = some v4 ∧ w1.cell? ⟨tb, 5, none⟩ = some v5 ∧ w1.cell? ⟨tb, 6, none⟩ = some v6 ∧ w1.cell? ⟨tb, 7, none⟩ = some v7) ∧ wc.grownBy w1 none) (g : w1.grownBy w2 none) :
    w2.rangeAt kb 0 cs ∧ (w2.cell? ⟨tb, 0, none⟩ = some v0 ∧ w2.cell? ⟨tb, 1, none⟩ = some v1 ∧ w2.cell? ⟨tb, 2, none⟩ = some v2 ∧ w2.cell? ⟨tb, 3, none⟩ = some v3 ∧ w2.cell? ⟨tb, 4, none⟩ = some v4 ∧ w2.cell? ⟨tb, 5, none⟩ = some v5 ∧ w2.cell? ⟨tb, 6, none⟩ = some v6 ∧ w2.cell? ⟨tb, 7, none⟩ = some v7) ∧ wc.grownBy w2 none := by
  obtain ⟨h1, ⟨c0, c1, c2, c3, c4, c5, c6, c7⟩, h3⟩ := h
  exact ⟨range_gb h1 g (by simp), ⟨g.cell c0 (by simp), g.cell c1 (by simp), g.cell c2 (by simp), g.cell c3 (by simp), g.cell c4 (by simp), g.cell c5 (by simp), g.cell c6 (by simp), g.cell c7 (by simp)⟩, gb_trans h3 g⟩
set_option maxRecDepth 100000 in
set_option maxHeartbeats 2000000 in
theorem pUnseal_mid (key : List Int) (f : Bool) (a : Option Addr) (m cap : Nat) (l : List Int) (w : World) (hk : KeyOk key) (hb : BSv w a m cap l) (hl1 : 16 ≤ l.length) (hl2 : l.length ≤ 300) :
    Calls Tryd.prog 53 #[.agg (keyA key), .bool f, .slice a m cap] w fun e w' =>
      ((okP key (sd f) l ∧ ∃ a' c', e = .returned (.tuple #[.int .u64 (numP l), .slice a' (l.length - 16) c', .nilIface]) ∧ BSv w' a' (l.length - 16) c' (maskL key (sd f) (numP l) (bodyP l)) ∧ (∀ x, a' = some x → w.heap.size ≤ x.block) ∧ (l.length = 16 → a' = none)) ∨
        (¬ okP key (sd f) l ∧ e = .returned (.tuple #[.int .u64 0, .slice none 0 0, .iface 24 (.int .i64 4)]))) ∧ w.grownBy w' none := by
  have hkl : (Tryd.prog.info? 32).map (·.size) = some (bv key).length := by rw [bv_len, hk.1]; exact Tryd.info32
  have hund := Tryd.underlying32
  have hml : m = l.length := hb.2.1
  subst hml
  have hcp := hb.2.2.1
  have hcm := hb.2.2.2.1
  unfold maxLen at hcm
  have hlw := hb.1
  obtain ⟨-, -, -, -, h5⟩ := hb
  rcases h5 with ⟨rfl, rfl⟩ | ⟨bb, o, rfl, hbs⟩
  · omega
  have h1 : decide ((l.length : Int) < 16) = false := by simp; omega
  have h2 : decide (300 < (l.length : Int)) = false := by simp; omega
  obtain ⟨W1, hW1⟩ : ∃ W, W = w.alloc (.cells (keyA key) 32) := ⟨_, rfl⟩
  have g1 : w.grownBy W1 none := by rw [hW1]; exact World.grownBy_alloc _ _ _
  have hk1 : W1.heap[w.heap.size]? = some (.cells (keyA key) 32 (0, 0)) := by rw [hW1]; exact heap_alloc_new _ _
  have hbs1 := hbs.gb g1 (by simp)
  have hA : Hid (∀ W : World, W1.grownBy W none → Calls Tryd.prog 72 #[.slice (some ⟨bb, o, none⟩) l.length cap] W fun e w' => e = .returned (.agg (bv (l.take 8)).toArray) ∧ W.grownBy w' none) := hide (fun W g =>
    wordAt_any _ _ _ l W ⟨hlw, rfl, hcp, by simp [maxLen]; omega, .inr ⟨bb, o, rfl, hbs1.gb g (by simp)⟩⟩ (by omega))
  have hN : Hid (∀ W : World, Calls Tryd.prog 73 #[.agg (bv (l.take 8)).toArray] W fun e w' => e = .returned (.int .u64 (numP l)) ∧ W.grownBy w' none) := hide (fun W =>
    number_any _ W (by simp; omega) (fun x hx => hlw x (List.mem_of_mem_take hx)))
  have htl : (tagP l).length = 8 := by simp [tagP]; omega
  obtain ⟨x0, x1, x2, x3, x4, x5, x6, x7, hx⟩ := list8 htl
  have hB : Hid (∀ W : World, W1.grownBy W none → Calls Tryd.prog 72 #[.slice (some ⟨bb, o + (l.length - 8), none⟩) (l.length - (l.length - 8)) (cap - (l.length - 8))] W fun e w' => e = .returned (.agg #[.int .u8 x0, .int .u8 x1, .int .u8 x2, .int .u8 x3, .int .u8 x4, .int .u8 x5, .int .u8 x6, .int .u8 x7]) ∧ W.grownBy w' none) := hide (fun W g => by
    have := wordAt_any (some ⟨bb, o + (l.length - 8), none⟩) (l.length - (l.length - 8)) (cap - (l.length - 8)) (tagP l) W ⟨fun x hx => hlw x (List.mem_of_mem_drop hx), by rw [htl]; omega, by omega, by simp [maxLen]; omega, .inr ⟨bb, _, rfl, (hbs1.gb g (by simp)).drop _⟩⟩ (by omega)
    rw [List.take_of_length_le (by omega), hx] at this
    exact this)
  have hsl : ∀ W, (Instr.slice 23 (.slice (some ⟨bb, o, none⟩) l.length cap) (some (.int .i64 ((l.length : Int) - 8))) none none).run Tryd.prog W = .ok (.slice (some ⟨bb, o + (l.length - 8), none⟩) (l.length - (l.length - 8)) (cap - (l.length - 8))) W := fun W => by
    have := slice_l bb o l.length cap (l.length - 8) (by omega) (by omega) W
    rwa [show ((l.length - 8 : Nat) : Int) = (l.length : Int) - 8 by omega] at this
  have hwr : IntKind.i64.wrap ((l.length : Int) - 8) = (l.length : Int) - 8 := by simp [IntKind.wrap, IntKind.bits, IntKind.signed]; omega
  have hi1 : (0 : Int) ≤ (l.length : Int) - 8 := by omega
  have hi2 : (8 : Int) ≤ (l.length : Int) - 8 := by omega
  have hi3 : (l.length : Int) - 8 ≤ (cap : Int) := by omega
  have hi4 : (l.length : Int) - 8 ≤ (l.length : Int) := by omega
  have htn : ((l.length : Int) - 8).toNat = l.length - 8 := by omega
  have hif : (cap = l.length - 8) = False := by simp; omega
  have hif8 : (cap = 8) = False := by simp; omega
  replace hx := hide hx
  replace hlw := hide hlw
  replace htl := hide htl
  replace hbs1 := hide hbs1
  replace hk1 := hide hk1
  clear hbs
  have hx1 : W1.grownBy W1.drew none := gb_drew (World.grownBy.refl _ _)
  go_enter Tryd.func53, Tryd.ntmps53
  go_upto_region 4 with fail
  rw [← hW1]
  replace hW1 := hide hW1
  go_cut [10, 11, 12] (fun v10 v11 v12 wx => ∃ tb : Nat, v10 = .int .u64 (numP l) ∧ v11 = .slice (some ⟨bb, o + 8, none⟩) (l.length - 16) (cap - 8) ∧ v12 = .pointer (some ⟨tb, 0, none⟩) ∧ W1.heap.size ≤ tb ∧ wx.heap[tb]? = some (.cells #[.int .u8 x0, .int .u8 x1, .int .u8 x2, .int .u8 x3, .int .u8 x4, .int .u8 x5, .int .u8 x6, .int .u8 x7] 117 (0, 0)) ∧ W1.grownBy wx none)
  case first =>
    go_region_held3 (fun w' => W1.grownBy w' none)
      (first | with_reducible exact hx4 | with_reducible exact hx3 | with_reducible exact hx2 | with_reducible exact hx1 | with_reducible exact gb_set8 hx4 htb _ _ _ _ _ _ _ _ | with_reducible exact gb_alloc hx4 _ | with_reducible exact gb_alloc hx3 _ | with_reducible exact gb_alloc hx2 _ | with_reducible exact gb_alloc hx1 _ | with_reducible exact gb_alloc_drew hx1 _)
      (first
        | (go_at_call 73; refine (unhide hN _).mono ?_; rintro e w3 ⟨rfl, g3⟩; have hx3 := gb_trans (a := W1) (by assumption) g3; first | (have hq := hide (blk_drew2 g3); have htb : W1.heap.size ≤ W1.heap.size := Nat.le_refl _) | (have hq := hide (blk_drew g3); have htb : W1.heap.size ≤ W1.heap.size := Nat.le_refl _) | (have hq := hide (blk_new g3); have htb := hx2.size) | (have hq := hide (blk_gb (unhide hq) g3)) | skip)
        | (go_at_call 72; refine (unhide hA _ (by assumption)).mono ?_; rintro e w2 ⟨rfl, g2⟩; have hx2 := gb_trans (a := W1) (by assumption) g2; first | (have hq := hide (blk_drew2 g2); have htb : W1.heap.size ≤ W1.heap.size := Nat.le_refl _) | (have hq := hide (blk_drew g2); have htb : W1.heap.size ≤ W1.heap.size := Nat.le_refl _) | skip)
        | (go_at_call 72; refine (unhide hB _ (by assumption)).mono ?_; rintro e w4 ⟨rfl, g4⟩; have hx4 := gb_trans (a := W1) (by assumption) g4; first | (have hq := blk_new g4; have htb := hx3.size; obtain ⟨⟨z0, z1, z2, z3, z4, z5, z6, z7⟩, zf⟩ := cells8 hq; replace hq := hide hq) | (have hq := blk_gb (unhide hq) g4; obtain ⟨⟨z0, z1, z2, z3, z4, z5, z6, z7⟩, zf⟩ := cells8 hq; replace hq := hide hq) | skip))
    all_goals
      go_wp2_with fail
      go_meet
      refine ⟨_, rfl, by rw [Nat.sub_sub], rfl, ?_, ?_, ?_⟩
      · first | with_reducible exact htb | with_reducible exact hx4.size
      · first | with_reducible exact set8 _ _ _ _ _ _ _ _ (unhide hq) | with_reducible exact heap_alloc_new _ _
      · first | with_reducible exact gb_set8 hx4 htb _ _ _ _ _ _ _ _ | with_reducible exact gb_alloc hx4 _
  case rest =>
    obtain ⟨tb, rfl, rfl, rfl, htb, hq, gc⟩ := hcut
    have hc8 := cells8 hq
    obtain ⟨⟨z0, z1, z2, z3, z4, z5, z6, z7⟩, -⟩ := hc8
    have hkc := keep_gb (unhide hk1) gc
    have hr0 : wc.drew.rangeAt w.heap.size 0 (bv key) ∧ (wc.drew.cell? ⟨tb, 0, none⟩ = some (.int .u8 x0) ∧ wc.drew.cell? ⟨tb, 1, none⟩ = some (.int .u8 x1) ∧ wc.drew.cell? ⟨tb, 2, none⟩ = some (.int .u8 x2) ∧ wc.drew.cell? ⟨tb, 3, none⟩ = some (.int .u8 x3) ∧ wc.drew.cell? ⟨tb, 4, none⟩ = some (.int .u8 x4) ∧ wc.drew.cell? ⟨tb, 5, none⟩ = some (.int .u8 x5) ∧ wc.drew.cell? ⟨tb, 6, none⟩ = some (.int .u8 x6) ∧ wc.drew.cell? ⟨tb, 7, none⟩ = some (.int .u8 x7)) ∧ wc.grownBy wc.drew none :=
      ⟨range_block (w := wc.drew) hkc, ⟨z0, z1, z2, z3, z4, z5, z6, z7⟩, gb_drew (World.grownBy.refl _ _)⟩
    replace hkc := hide hkc
    replace hq := hide hq
    clear z0 z1 z2 z3 z4 z5 z6 z7 hsl hA hN hB hx1
    have hbl : (bodyP l).length = l.length - 16 := by simp [bodyP]; omega
    have hbc : Hid (BSv wc (some ⟨bb, o + 8, none⟩) (l.length - 16) (cap - 8) (bodyP l)) :=
      hide ⟨fun x hx => (unhide hlw) x (List.mem_of_mem_drop (List.mem_of_mem_take hx)), hbl.symm, by omega, by simp only [maxLen]; omega, .inr ⟨bb, o + 8, rfl, (((unhide hbs1).gb gc (by simp)).drop 8).take _⟩⟩
    have hN64 : W64 (numP l) := by
      have h8 := beN_lt l (unhide hlw) 8 (by omega)
      exact ⟨h8.1, by have := h8.2; unfold numP; omega⟩
    have hT : Hid (∀ W : World, (W.rangeAt w.heap.size 0 (bv key) ∧ (W.cell? ⟨tb, 0, none⟩ = some (.int .u8 x0) ∧ W.cell? ⟨tb, 1, none⟩ = some (.int .u8 x1) ∧ W.cell? ⟨tb, 2, none⟩ = some (.int .u8 x2) ∧ W.cell? ⟨tb, 3, none⟩ = some (.int .u8 x3) ∧ W.cell? ⟨tb, 4, none⟩ = some (.int .u8 x4) ∧ W.cell? ⟨tb, 5, none⟩ = some (.int .u8 x5) ∧ W.cell? ⟨tb, 6, none⟩ = some (.int .u8 x6) ∧ W.cell? ⟨tb, 7, none⟩ = some (.int .u8 x7)) ∧ wc.grownBy W none) → Calls Tryd.prog 71 #[.agg (bv key).toArray, .int .u8 (sd f), .int .u64 (numP l), .slice (some ⟨bb, o + 8, none⟩) (l.length - 16) (cap - 8)] W fun e w' => e = .returned (.agg (bv (tagL key (sd f) (numP l) (bodyP l))).toArray) ∧ W.grownBy w' none) := hide (fun W h =>
      tagOf_any key (sd f) (numP l) _ _ _ (bodyP l) W hk (sd_w f) hN64 ((unhide hbc).gb0 h.2.2) (by omega))
    replace hbl := hide hbl
    by_cases hn : numP l ≤ 4611686018427387903
    · have hnd : decide (4611686018427387903 < numP l) = false := by simp; omega
      obtain ⟨N, hNe⟩ : ∃ N, N = numP l := ⟨_, rfl⟩
      have hEq := eqW x0 x1 x2 x3 x4 x5 x6 x7 (Go.Proofs.YtjnmokmchdfchaaDoor.hb (hashN key (opn (sd f) 2 N ++ bodyP l)) 0) (Go.Proofs.YtjnmokmchdfchaaDoor.hb (hashN key (opn (sd f) 2 N ++ bodyP l)) 1) (Go.Proofs.YtjnmokmchdfchaaDoor.hb (hashN key (opn (sd f) 2 N ++ bodyP l)) 2) (Go.Proofs.YtjnmokmchdfchaaDoor.hb (hashN key (opn (sd f) 2 N ++ bodyP l)) 3) (Go.Proofs.YtjnmokmchdfchaaDoor.hb (hashN key (opn (sd f) 2 N ++ bodyP l)) 4) (Go.Proofs.YtjnmokmchdfchaaDoor.hb (hashN key (opn (sd f) 2 N ++ bodyP l)) 5) (Go.Proofs.YtjnmokmchdfchaaDoor.hb (hashN key (opn (sd f) 2 N ++ bodyP l)) 6) (Go.Proofs.YtjnmokmchdfchaaDoor.hb (hashN key (opn (sd f) 2 N ++ bodyP l)) 7)
      have hTL : ([x0, x1, x2, x3, x4, x5, x6, x7] = [Go.Proofs.YtjnmokmchdfchaaDoor.hb (hashN key (opn (sd f) 2 N ++ bodyP l)) 0, Go.Proofs.YtjnmokmchdfchaaDoor.hb (hashN key (opn (sd f) 2 N ++ bodyP l)) 1, Go.Proofs.YtjnmokmchdfchaaDoor.hb (hashN key (opn (sd f) 2 N ++ bodyP l)) 2, Go.Proofs.YtjnmokmchdfchaaDoor.hb (hashN key (opn (sd f) 2 N ++ bodyP l)) 3, Go.Proofs.YtjnmokmchdfchaaDoor.hb (hashN key (opn (sd f) 2 N ++ bodyP l)) 4, Go.Proofs.YtjnmokmchdfchaaDoor.hb (hashN key (opn (sd f) 2 N ++ bodyP l)) 5, Go.Proofs.YtjnmokmchdfchaaDoor.hb (hashN key (opn (sd f) 2 N ++ bodyP l)) 6, Go.Proofs.YtjnmokmchdfchaaDoor.hb (hashN key (opn (sd f) 2 N ++ bodyP l)) 7]) = (tagL key (sd f) (numP l) (bodyP l) = tagP l) := by
        rw [unhide hx, ← hNe]
        exact propext ⟨fun h => h.symm, fun h => h.symm⟩
      have hNW : W64 N := by rw [hNe]; exact hN64
      rw [← hNe] at hT hnd ⊢
      replace hNe := hide hNe
      by_cases ht : tagL key (sd f) (numP l) (bodyP l) = tagP l
      · have hEq1 : ∀ W, (Op.equalIn 10000 117 (.agg #[.int .u8 x0, .int .u8 x1, .int .u8 x2, .int .u8 x3, .int .u8 x4, .int .u8 x5, .int .u8 x6, .int .u8 x7]) (.agg #[.int .u8 (Go.Proofs.YtjnmokmchdfchaaDoor.hb (hashN key (opn (sd f) 2 N ++ bodyP l)) 0), .int .u8 (Go.Proofs.YtjnmokmchdfchaaDoor.hb (hashN key (opn (sd f) 2 N ++ bodyP l)) 1), .int .u8 (Go.Proofs.YtjnmokmchdfchaaDoor.hb (hashN key (opn (sd f) 2 N ++ bodyP l)) 2), .int .u8 (Go.Proofs.YtjnmokmchdfchaaDoor.hb (hashN key (opn (sd f) 2 N ++ bodyP l)) 3), .int .u8 (Go.Proofs.YtjnmokmchdfchaaDoor.hb (hashN key (opn (sd f) 2 N ++ bodyP l)) 4), .int .u8 (Go.Proofs.YtjnmokmchdfchaaDoor.hb (hashN key (opn (sd f) 2 N ++ bodyP l)) 5), .int .u8 (Go.Proofs.YtjnmokmchdfchaaDoor.hb (hashN key (opn (sd f) 2 N ++ bodyP l)) 6), .int .u8 (Go.Proofs.YtjnmokmchdfchaaDoor.hb (hashN key (opn (sd f) 2 N ++ bodyP l)) 7)])).run Tryd.prog W = .ok true W := fun W => by
          rw [hEq W]; simp only [hTL, ht, decide_true]
        have hok : okP key (sd f) l := ⟨hl1, hl2, ht, hn⟩
        clear hEq hTL
        replace ht := hide ht
        replace hok := hide hok
        obtain ⟨n, hnn⟩ : ∃ n, n = l.length - 16 := ⟨_, rfl⟩
        rw [← hnn]
        rw [← hnn] at hT hbc
        replace hnn := hide hnn
        go_wp2_with fail
        go_region_held3 (fun w' => w'.rangeAt w.heap.size 0 (bv key) ∧ (w'.cell? ⟨tb, 0, none⟩ = some (.int .u8 x0) ∧ w'.cell? ⟨tb, 1, none⟩ = some (.int .u8 x1) ∧ w'.cell? ⟨tb, 2, none⟩ = some (.int .u8 x2) ∧ w'.cell? ⟨tb, 3, none⟩ = some (.int .u8 x3) ∧ w'.cell? ⟨tb, 4, none⟩ = some (.int .u8 x4) ∧ w'.cell? ⟨tb, 5, none⟩ = some (.int .u8 x5) ∧ w'.cell? ⟨tb, 6, none⟩ = some (.int .u8 x6) ∧ w'.cell? ⟨tb, 7, none⟩ = some (.int .u8 x7)) ∧ wc.grownBy w' none)
        (first | with_reducible exact hr7 | with_reducible exact hr0)
        (first
          | (go_at_call 70; refine (sideByte_any f _).mono ?_; rintro e w' ⟨rfl, rfl⟩)
          | (go_at_call 71; refine (unhide hT _ (by assumption)).mono ?_; rintro e w7 ⟨rfl, g7⟩; rw [tag_arr]; have hr7 := s5 (wc := wc) (by assumption) g7))
        clear hEq1
        by_cases hn0 : n = 0
        · have hz : ((n : Int) == 0) = true := by simp [hn0]
          have hz2 : (n == 0) = true := by simp [hn0]
          go_wp2_with fail
          go_ret3
          refine ⟨.inl ⟨unhide hok, none, 0, ?_, ?_, fun x hx => (by cases hx), fun _ => rfl⟩, gb_trans g1 (gb_trans gc hr7.2.2)⟩
          · rw [unhide hNe, ← unhide hnn, hn0]
            rfl
          · have hb0 : bodyP l = [] := by rw [← List.length_eq_zero_iff, unhide hbl, ← unhide hnn, hn0]
            rw [← unhide hnn, hn0, hb0]
            exact ⟨fun x hx => (by cases hx), rfl, Nat.le_refl _, by simp [maxLen], .inl ⟨rfl, rfl⟩⟩
        · have hz : ((n : Int) == 0) = false := by simp [hn0]
          have hz2 : (n == 0) = false := by simp [hn0]
          have hne0 := hide hn0
          clear hn0
          have hn3 : n ≤ 300 := by have := unhide hnn; omega
          have hbn : (bodyP l).length = n := by rw [unhide hbl, unhide hnn]
          have htk : Hid ((bodyP l).take n = bodyP l) := hide (List.take_of_length_le (by omega))
          have hft : Hid (0 + (bodyP l).length ≤ (List.replicate n (0 : Int)).length) := hide (by simp; omega)
          have hbw := hide (unhide hbc).1
          replace hbn := hide hbn
          go_wp2_with (first | (at_make; refine wpList_makeB _ _ (by rfl) (by rfl) _ n (by rfl) (by rfl) (by omega) (by omega) ?_; intro w8 hp8 g8; replace hp8 := hide hp8) | (refine wpList_copyB _ _ (by rfl) (by rfl) w7.heap.size 0 n n (by rfl) (some ⟨bb, o + 8, none⟩) n (cap - 8) (by rfl) (bodyP l) ((unhide hbc).gb0 (gb_trans hr7.2.2 g8)) (List.replicate n 0) 5 (unhide hp8) ?_ ?_; (rw [unhide htk]; exact unhide hft); (rw [unhide htk]; intro w9 hp9 g9; rw [spl_all n _ (unhide hbn)] at hp9; replace hp9 := hide hp9)))
          have hr9 : w9.drew.rangeAt w.heap.size 0 (bv key) := by
            have h7 := hr7.2.2.size
            have h8 := (Array.getElem?_eq_some_iff.1 (unhide hkc)).1
            exact range_gb (range_gb hr7.1 g8 (by simp)) (gb_drew g9) (fun e => by have := Option.some.inj e; omega)
          have hp9' : Hid (w9.drew.heap[w7.heap.size]? = some (.cells (bv (bodyP l)).toArray 5 (0, 0))) := hide (unhide hp9)
          go_region_held3 (fun w' => w'.rangeAt w.heap.size 0 (bv key))
            (first | with_reducible exact hr10 | with_reducible exact hr9)
            (first
              | (go_at_call 70; refine (sideByte_any f _).mono ?_; rintro e w' ⟨rfl, rfl⟩)
              | (go_at_call 69; refine (cover_any key (sd f) N w7.heap.size 0 n n (bodyP l) 5 _ hk (sd_w f) hNW (unhide hbw) (by have := unhide hbn; omega) (by omega) (by simp [maxLen]; omega) (unhide hp9')).mono ?_; rintro e w10 ⟨rfl, hp10, g10⟩; have hr10 := range_gb hr9 g10 (fun e => by have h6 := Option.some.inj e; have h7 := hr7.2.2.size; have h8 := (Array.getElem?_eq_some_iff.1 (unhide hkc)).1; omega); replace hp10 := hide hp10; replace g10 := hide g10))
          go_wp2_with fail
          go_ret3
          have h10 := unhide hp10
          rw [List.drop_zero, unhide htk, spl_same _ _ (by rw [maskL_len])] at h10
          have hlm : (maskL key (sd f) N (bodyP l)).length = n := by rw [maskL_len, unhide hbn]
          have b10 := bsv_block h10 (maskL_w (unhide hbw)) 0 n n (by omega) (Nat.le_refl _) (by simp [maxLen]; omega)
          rw [List.drop_zero, List.take_of_length_le (by omega)] at b10
          have g7w : w.grownBy w7 none := gb_trans g1 (gb_trans gc hr7.2.2)
          refine ⟨.inl ⟨unhide hok, some ⟨w7.heap.size, 0, none⟩, n, ?_, ?_, fun x hx => (by cases hx; exact g7w.size), fun h16 => absurd (show n = 0 by have := unhide hnn; omega) (unhide hne0)⟩, ?_⟩
          · rw [unhide hNe, ← unhide hnn]
            rfl
          · rw [← unhide hnn, ← unhide hNe]
            exact b10
          · exact gb_new (gb_trans' (gb_none (gb_trans g7w g8) (some w7.heap.size)) (gb_trans (gb_drew g9) (unhide g10)) (fun j e => .inr rfl)) g7w.size
      · have hEq1 : ∀ W, (Op.equalIn 10000 117 (.agg #[.int .u8 x0, .int .u8 x1, .int .u8 x2, .int .u8 x3, .int .u8 x4, .int .u8 x5, .int .u8 x6, .int .u8 x7]) (.agg #[.int .u8 (Go.Proofs.YtjnmokmchdfchaaDoor.hb (hashN key (opn (sd f) 2 N ++ bodyP l)) 0), .int .u8 (Go.Proofs.YtjnmokmchdfchaaDoor.hb (hashN key (opn (sd f) 2 N ++ bodyP l)) 1), .int .u8 (Go.Proofs.YtjnmokmchdfchaaDoor.hb (hashN key (opn (sd f) 2 N ++ bodyP l)) 2), .int .u8 (Go.Proofs.YtjnmokmchdfchaaDoor.hb (hashN key (opn (sd f) 2 N ++ bodyP l)) 3), .int .u8 (Go.Proofs.YtjnmokmchdfchaaDoor.hb (hashN key (opn (sd f) 2 N ++ bodyP l)) 4), .int .u8 (Go.Proofs.YtjnmokmchdfchaaDoor.hb (hashN key (opn (sd f) 2 N ++ bodyP l)) 5), .int .u8 (Go.Proofs.YtjnmokmchdfchaaDoor.hb (hashN key (opn (sd f) 2 N ++ bodyP l)) 6), .int .u8 (Go.Proofs.YtjnmokmchdfchaaDoor.hb (hashN key (opn (sd f) 2 N ++ bodyP l)) 7)])).run Tryd.prog W = .ok false W := fun W => by
          rw [hEq W]; simp only [hTL, ht, decide_false]
        have hok : ¬ okP key (sd f) l := fun h => ht h.2.2.1
        clear hEq hTL ht
        replace hok := hide hok
        go_wp2_with fail
        go_region_held3 (fun w' => w'.rangeAt w.heap.size 0 (bv key) ∧ (w'.cell? ⟨tb, 0, none⟩ = some (.int .u8 x0) ∧ w'.cell? ⟨tb, 1, none⟩ = some (.int .u8 x1) ∧ w'.cell? ⟨tb, 2, none⟩ = some (.int .u8 x2) ∧ w'.cell? ⟨tb, 3, none⟩ = some (.int .u8 x3) ∧ w'.cell? ⟨tb, 4, none⟩ = some (.int .u8 x4) ∧ w'.cell? ⟨tb, 5, none⟩ = some (.int .u8 x5) ∧ w'.cell? ⟨tb, 6, none⟩ = some (.int .u8 x6) ∧ w'.cell? ⟨tb, 7, none⟩ = some (.int .u8 x7)) ∧ wc.grownBy w' none)
        (first | with_reducible exact hr7 | with_reducible exact hr0)
        (first
          | (go_at_call 70; refine (sideByte_any f _).mono ?_; rintro e w' ⟨rfl, rfl⟩)
          | (go_at_call 71; refine (unhide hT _ (by assumption)).mono ?_; rintro e w7 ⟨rfl, g7⟩; rw [tag_arr]; have hr7 := s5 (wc := wc) (by assumption) g7))
        go_wp2_with fail
        go_ret3
        exact ⟨.inr ⟨unhide hok, rfl⟩, gb_trans g1 (gb_trans gc hr7.2.2)⟩
    · have hnd : decide (4611686018427387903 < numP l) = true := by simp; omega
      have hok : ¬ okP key (sd f) l := fun h => hn h.2.2.2
      replace hok := hide hok
      clear hn
      go_wp2_with fail
      go_quiet (fail)
      go_wp2_with fail
      go_ret3
      exact ⟨.inr ⟨unhide hok, rfl⟩, gb_trans g1 (gb_trans gc (gb_drewN (World.grownBy.refl _ _) _))⟩
end Go.Proofs.YtjnmokmchdfchaaDoor
