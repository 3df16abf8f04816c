import Derived.Test.YtjnmokmchdfchaaDoorZWd
import Derived.Deep.QuietTactic
import Derived.BigQuiet
import Derived.Laws.BytesArg
import Derived.Lib.ConvBytes
namespace Go.Proofs.YtjnmokmchdfchaaDoor
open Go.RowKit
attribute [local go_sem ↓] Go.wp_at_zero Go.wp_at_succ

theorem own_apart {w w0 : World} {base base' : Nat} {v v' : Value} {l l' : List Int} (o : OwnB w base v l) (o' : OwnB w0 base' v' l') (h : w0.heap.size ≤ base) : v.ownBlock = none ∨ v.ownBlock ≠ v'.ownBlock := by
  cases hv : v.ownBlock with
  | none => exact .inl rfl
  | some k =>
    right
    intro e
    have h1 := (o.lt k hv).1
    have h2 := (o'.lt k e.symm).2
    omega
theorem OwnB.lower {w : World} {base base' : Nat} {v : Value} {l : List Int} (o : OwnB w base v l) (h : base' ≤ base) : OwnB w base' v l := by
  refine ⟨o.1, o.2.1, ?_⟩
  rcases o.2.2 with h2 | ⟨g, cap, cur, e1, e2, e3⟩
  · exact .inl h2
  · exact .inr ⟨g, cap, cur, e1, by omega, e3⟩
theorem maskL_len (key : List Int) (s n : Int) (l : List Int) : (maskL key s n l).length = l.length := mkL_len _ _ _ _ _
theorem tagL_len (key : List Int) (s n : Int) (l : List Int) : (tagL key s n l).length = 8 := rfl
theorem sealL_len (key : List Int) (s n : Int) (l : List Int) : (sealL key s n l).length = l.length + 16 := by simp [sealL, maskL_len, tagL_len, highB_len]; omega

set_option maxRecDepth 100000 in
set_option maxHeartbeats 1000000 in
theorem refSeal_any (key : List Int) (s n : Int) (a : Option Addr) (m cap : Nat) (l : List Int) (w : World) (hk : KeyOk key) (hs : W8 s) (hn : W64 n) (hb : BSv w a m cap l) (hl : l.length ≤ 90000) :
    Calls Tryd.prog 14 #[.agg (keyA key), .int .i64 s, .int .u64 n, .slice a m cap] w fun e w' =>
      ∃ a' c', e = .returned (.slice a' (l.length + 16) c') ∧ OwnB w' w.heap.size (.slice a' (l.length + 16) c') (sealL key s n l) ∧ w.grownBy w' none := by
  have hsz := keyA_size hk
  have hT := fun (a : Option Addr) (m cap : Nat) (l : List Int) (W : World) => tag_any key s n a m cap l W hk hs hn
  have hM := fun (a : Option Addr) (m cap : Nat) (l : List Int) (W : World) => masked_any key s n a m cap l W hk hs hn
  obtain ⟨K, hKe⟩ : ∃ K, K = keyA key := ⟨_, rfl⟩
  rw [← hKe]
  simp only [← hKe] at hT hM hsz
  clear hKe
  replace hT := hide hT
  replace hM := hide hM
  go_enter Tryd.func14, Tryd.ntmps14
  go_wp2_with fail
  refine (high_any (w.heap.size + 1) none 0 [] n _ (OwnB.nil _ _) hn (by simp) (by simp)).mono ?_
  rintro e w1 ⟨a1, c1, rfl, o1, b1⟩
  replace o1 : OwnB w1 (w.heap.size + 1) (.slice a1 8 c1) (highB n) := o1
  have hz1 := b1.size
  rw [World.size_alloc] at hz1
  have hg1 := hide (key_below (heap_alloc_new w (.cells K 32)) b1 (by omega))
  have bw1 : Below w.heap.size w w1 := ((Below.refl _ w).alloc (Nat.le_refl _) _).trans (b1.mono (by omega))
  have hb1 := hb.gb0 (gb_of_below bw1)
  go_wp2_with (refine wpList_loadKey _ (by rfl) (by rfl) _ (by rfl) K ?_ hsz ?_; exact unhide hg1)
  refine (unhide hM _ _ _ _ _ hb1 (by omega)).mono ?_
  rintro e w2 ⟨a2, c2, rfl, o2, g2⟩
  have hz2 := g2.size
  have o1' := hide (o1.gb0 g2)
  have hg2 := hide ((g2.block w.heap.size (by omega) (by simp)).trans (unhide hg1))
  have bw2 : Below w.heap.size w w2 := bw1.grown g2 bw1.size (fun k e => by cases e)
  have bs2 := hide o2.bsv
  have hl2 := maskL_len key s n l
  replace o2 := hide o2
  go_wp2_with (first | (at_builtin; refine wpList_appendB (by rfl) _ _ (by rfl) (w.heap.size + 1) _ (highB n) (by rfl) (unhide o1') _ _ _ (maskL key s n l) (by rfl) (unhide bs2) ?_ ?_ ?_; (rw [highB_len, hl2]; omega); omega; rw [highB_len, hl2]; intro a3 c3 w3 o3 g3 _; have hg3 := hide ((g3.block w.heap.size (by omega) (fun e => by have := ((unhide o1').lt _ e.symm).1; omega)).trans (unhide hg2))) | (refine wpList_loadKey _ (by rfl) (by rfl) _ (by rfl) K ?_ hsz ?_; exact unhide hg3))
  have oc3 := (unhide o2).gb g3 (own_apart (unhide o2) o1 (Nat.le_refl _))
  have bw3 := below_append bw2 (unhide o1') g3 (by omega) (by omega)
  have hz3 := g3.size
  refine (unhide hT _ _ _ _ _ oc3.bsv (by omega)).mono ?_
  rintro e w4 ⟨a4, c4, rfl, o4, g4⟩
  have o3' := hide (o3.gb0 g4)
  have bs4 := hide o4.bsv
  have bw4 : Below w.heap.size w w4 := bw3.grown g4 bw3.size (fun k e => by cases e)
  have hz4 := g4.size
  have hl3 : (highB n ++ maskL key s n l).length = 8 + l.length := by simp [highB_len, hl2]
  have ht3 : (tagL key s n (maskL key s n l)).length = 8 := rfl
  go_wp2_with (at_builtin; refine wpList_appendB (by rfl) _ _ (by rfl) (w.heap.size + 1) _ (highB n ++ maskL key s n l) (by rfl) (unhide o3') _ _ _ (tagL key s n (maskL key s n l)) (by rfl) (unhide bs4) ?_ ?_ ?_; (rw [hl3, ht3]; omega); omega; rw [hl3, ht3]; intro a5 c5 w5 o5 g5 _)
  go_ret
  have he : 8 + l.length + 8 = l.length + 16 := by omega
  rw [he] at o5
  exact ⟨a5, c5, by simp only [he]; rfl, o5.lower (by omega), gb_of_below (below_append bw4 (unhide o3') g5 (by omega) (by omega))⟩
end Go.Proofs.YtjnmokmchdfchaaDoor
namespace Go.Proofs.YtjnmokmchdfchaaDoor
open Go.RowKit
attribute [local go_sem ↓] Go.wp_at_zero Go.wp_at_succ

def numP (p : List Int) : Int := beN (p.take 8)
def bodyP (p : List Int) : List Int := (p.drop 8).take (p.length - 16)
def tagP (p : List Int) : List Int := p.drop (p.length - 8)
theorem size5 (W : World) : (sizeOf 5).run Tryd.prog W = .ok 1 W := by kernel_rfl
theorem elem23 : Tryd.prog.elem 23 = 5 := by kernel_rfl
theorem slice_l (b o n c t : Nat) (h : t ≤ n) (hc : t < c) (W : World) : (Instr.slice 23 (.slice (some ⟨b, o, none⟩) n c) (some (.int .i64 (t : Int))) none none).run Tryd.prog W = .ok (.slice (some ⟨b, o + t, none⟩) (n - t) (c - t)) W := by
  have h0 : (0 : Int) ≤ (t : Int) := by omega
  have h1 : (t : Int) ≤ (n : Int) := by omega
  rw [run_slice_l W 23 (some ⟨b, o, none⟩) n c (by rw [elem23]; exact Tryd.underlying23) .i64 (t : Int) h0 h1, elem23, size5]
  simp only [Result.andThen_ok, sliced, Int.toNat_natCast, Nat.mul_one, Option.map_some]
  rw [if_neg (by omega), Addr.add_lit]
/-- What of a packet is opened. -/
def okP (key : List Int) (s : Int) (p : List Int) : Prop := 16 ≤ p.length ∧ p.length ≤ 300 ∧ tagL key s (numP p) (bodyP p) = tagP p ∧ numP p ≤ 4611686018427387903

set_option maxRecDepth 100000 in
theorem refUnseal_len (key : List Int) (s : Int) (a : Option Addr) (m cap : Nat) (l : List Int) (w : World) (hk : KeyOk key) (hb : BSv w a m cap l) (hl : l.length < 16 ∨ 300 < l.length) :
    Calls Tryd.prog 17 #[.agg (keyA key), .int .i64 s, .slice a m cap] w fun e w' => e = .returned (.tuple #[.int .u64 0, .slice none 0 0, .bool false]) ∧ w.grownBy w' none := by
  have hsz := keyA_size hk
  generalize keyA key = K at *
  have hml : m = l.length := hb.2.1
  subst hml
  have hcp := hb.2.2.1
  have hcm := hb.2.2.2.1
  unfold maxLen at hcm
  rcases hl with hl | hl
  · have h1 : decide ((l.length : Int) < 16) = true := by simp; omega
    go_enter Tryd.func17, Tryd.ntmps17
    go_wp2
    go_ret3
    exact ⟨rfl, gb_alloc (World.grownBy.refl _ _) _⟩
  · have h1 : decide ((l.length : Int) < 16) = false := by simp; omega
    have h2 : decide (300 < (l.length : Int)) = true := by simp; omega
    go_enter Tryd.func17, Tryd.ntmps17
    go_wp2
    go_ret3
    exact ⟨rfl, gb_alloc (World.grownBy.refl _ _) _⟩

set_option maxRecDepth 100000 in
set_option maxHeartbeats 1000000 in
theorem refUnseal_mid (key : List Int) (s : Int) (a : Option Addr) (m cap : Nat) (l : List Int) (w : World) (hk : KeyOk key) (hs : W8 s) (hb : BSv w a m cap l) (hl1 : 16 ≤ l.length) (hl2 : l.length ≤ 300) :
    Calls Tryd.prog 17 #[.agg (keyA key), .int .i64 s, .slice a m cap] w fun e w' =>
      ((okP key s l ∧ ∃ a' c', e = .returned (.tuple #[.int .u64 (numP l), .slice a' (l.length - 16) c', .bool true]) ∧ OwnB w' w.heap.size (.slice a' (l.length - 16) c') (maskL key s (numP l) (bodyP l))) ∨ (¬ okP key s l ∧ e = .returned (.tuple #[.int .u64 0, .slice none 0 0, .bool false]))) ∧ w.grownBy w' none := by
  have hsz := keyA_size hk
  have hM := fun (n : Int) (hn : W64 n) (a : Option Addr) (m cap : Nat) (l : List Int) (W : World) => masked_any key s n a m cap l W hk hs hn
  have hT := fun (n : Int) (hn : W64 n) (a : Option Addr) (m cap : Nat) (l : List Int) (W : World) => tag_any key s n a m cap l W hk hs hn
  obtain ⟨K, hKe⟩ : ∃ K, K = keyA key := ⟨_, rfl⟩
  rw [← hKe]
  simp only [← hKe] at hT hM hsz
  clear hKe
  replace hM := hide hM
  replace hT := hide hT
  have hml : m = l.length := hb.2.1
  subst hml
  have hcp := hb.2.2.1
  have hcm := hb.2.2.2.1
  unfold maxLen at hcm
  have hlw := hb.1
  obtain ⟨-, -, -, -, h5⟩ := hb
  rcases h5 with ⟨rfl, rfl⟩ | ⟨bb, o, rfl, hbs⟩
  · omega
  · have h1 : decide ((l.length : Int) < 16) = false := by simp; omega
    have h2 : decide (300 < (l.length : Int)) = false := by simp; omega
    have hbs1 := hbs.gb (World.grownBy_alloc w (.cells K 32) none) (by simp)
    clear hbs
    go_enter Tryd.func17, Tryd.ntmps17
    go_wp2_with fail
    go_loop [9, 10] (fun v i => ∃ j : Nat, j ≤ 8 ∧ i = .int .i64 (j : Int) ∧ v = .int .u64 (beN (l.take j))) (fun _ i => 8 - (intOf i).toNat)
    case atStart => exact ⟨0, by omega, rfl, rfl⟩
    case round =>
      obtain ⟨j, hj, rfl, rfl⟩ := hrel
      by_cases hlt : j < 8
      · have hx := getD_w8 hlw j
        have h3 := beN_lt l hlw j (by omega)
        have h4 := hide (beN_take l j (by omega))
        have hc := hbs1.1 j (by omega)
        have hp : (256 : Int) ^ j ≤ 72057594037927936 := by
          have : (256 : Nat) ^ j ≤ 256 ^ 7 := Nat.pow_le_pow_right (by decide) (by omega)
          have e : (256 : Int) ^ j = ((256 ^ j : Nat) : Int) := by simp
          rw [e]; omega
        obtain ⟨x0, x1⟩ := hx
        obtain ⟨m0, m1⟩ := h3
        have hjl : j < l.length := by omega
        generalize l.getD j 0 = x at *
        generalize beN (l.take j) = mm at *
        have m2 : mm < 72057594037927936 := by omega
        clear m1 hp
        go_wp2
        go_round
        case rel => exact ⟨j + 1, by omega, by go_num, by rw [unhide h4]⟩
        case measure => simp [intOf]; omega
      · obtain rfl : j = 8 := by omega
        have h8 := beN_lt l hlw 8 (by omega)
        have hW : W64 (beN (l.take 8)) := ⟨h8.1, by have := h8.2; omega⟩
        have hgK := heap_alloc_new w (.cells K 32)
        go_wp2_with (refine wpList_loadKey _ (by rfl) (by rfl) _ (by rfl) K ?_ hsz ?_; exact hgK)
        have hbd : BSv (w.alloc (.cells K 32)) (some ⟨bb, o + 8, none⟩) (l.length - 8 - 8) (cap - 8) (bodyP l) := by
          refine ⟨fun x hx => hlw x (List.mem_of_mem_drop (List.mem_of_mem_take hx)), by simp [bodyP]; omega, by omega, by simp only [maxLen]; omega, .inr ⟨bb, o + 8, rfl, (hbs1.drop 8).take _⟩⟩
        have hbl : (bodyP l).length = l.length - 16 := by simp [bodyP]; omega
        refine (unhide hT _ hW _ _ _ (bodyP l) _ hbd (by omega)).mono ?_
        rintro e w2 ⟨a2, c2, rfl, o2, g2⟩
        have hbs2 := hbs1.gb g2 (by simp)
        obtain ⟨t, ht⟩ : ∃ t : Nat, t = l.length - 8 := ⟨_, rfl⟩
        have ht2 : BSv w2 (some ⟨bb, o + t, none⟩) (l.length - t) (cap - t) (tagP l) := by
          rw [ht]
          refine ⟨fun x hx => hlw x (List.mem_of_mem_drop hx), by simp [tagP], by omega, by simp only [maxLen]; omega, .inr ⟨bb, o + (l.length - 8), rfl, hbs2.drop _⟩⟩
        have e49 : (l.length : Int) - 8 = (t : Int) := by omega
        have t1 : (t : Int) ≤ (l.length : Int) := by omega
        have t2 : ¬ cap = t := by omega
        have t3 : ¬ cap - t = 0 := by omega
        have t4 : ¬ cap ≤ t := by omega
        have hsl := fun W => slice_l bb o l.length cap t (by omega) (by omega) W
        have hwt : IntKind.i64.wrap (t : Int) = (t : Int) := by simp [IntKind.wrap, IntKind.bits, IntKind.signed]; omega
        clear ht
        have cv1 := fun k => conv_str (o2.bsv.gb0 (gb_drewN (World.grownBy.refl w2 none) k))
        have cv2 := fun k => conv_str (ht2.gb0 (gb_drewN (World.grownBy.refl w2 none) k))
        have hgK2 := hide ((g2.block w.heap.size (by simp) (by simp)).trans hgK)
        have gw2 : w.grownBy w2 none := gb_trans (gb_alloc (World.grownBy.refl w none) _) g2
        have hbd2 := hide (hbd.gb0 g2)
        have hz2 := g2.size
        rw [World.size_alloc] at hz2
        clear hgK g2 hbd o2 ht2 hbs1
        replace hW := hide hW
        have hlt16 : (8 : Int) ≤ (l.length : Int) := by omega
        by_cases htag : tagL key s (beN (l.take 8)) (bodyP l) = tagP l
        · have he : ((strOfNums (tagL key s (beN (l.take 8)) (bodyP l))).toList == (strOfNums (tagP l)).toList) = true := by rw [htag]; simp
          by_cases hnum : beN (l.take 8) ≤ 4611686018427387903
          · have hd : decide ((4611686018427387903 : Int) < beN (l.take 8)) = false := by simp; omega
            have hok : okP key s l := ⟨hl1, hl2, htag, hnum⟩
            replace htag := hide htag
            replace hok := hide hok
            have he' : (!((strOfNums (tagL key s (beN (l.take 8)) (bodyP l))).toList == (strOfNums (tagP l)).toList)) = false := by rw [he]; rfl
            clear he
            go_wp2_with fail
            go_quiet (fail)
            go_wp2_with (refine wpList_loadKey _ (by rfl) (by rfl) _ (by rfl) K ?_ hsz ?_; exact unhide hgK2)
            refine (unhide hM _ (unhide hW) _ _ _ (bodyP l) _ ((unhide hbd2).gb0 (gb_drewN (World.grownBy.refl w2 none) _)) (by omega)).mono ?_
            rintro e w3 ⟨a3, c3, rfl, o3, g3⟩
            go_wp2_with fail
            go_ret3
            rw [hbl] at o3
            refine ⟨.inl ⟨unhide hok, a3, c3, ?_, o3.lower (by show w.heap.size ≤ w2.heap.size; omega)⟩, gb_trans (gb_drewN gw2 _) g3⟩
            first | rfl | (simp only [hbl]; rfl) | (rw [hbl]; rfl)
          · have hno : ¬ okP key s l := fun h => hnum h.2.2.2
            have hd : decide ((4611686018427387903 : Int) < beN (l.take 8)) = true := by simp; omega
            have he' : (!((strOfNums (tagL key s (beN (l.take 8)) (bodyP l))).toList == (strOfNums (tagP l)).toList)) = false := by rw [he]; rfl
            replace hno := hide hno
            clear he htag
            go_wp2_with fail
            go_quiet (fail)
            go_wp2_with fail
            go_ret3
            exact ⟨.inr ⟨unhide hno, rfl⟩, gb_drewN gw2 _⟩
        · have hno : ¬ okP key s l := fun h => htag h.2.2.1
          have he' : (!((strOfNums (tagL key s (beN (l.take 8)) (bodyP l))).toList == (strOfNums (tagP l)).toList)) = true := by
            rw [Bool.not_eq_true', beq_eq_false_iff_ne, ByteArray.toList_eq, ByteArray.toList_eq]
            intro e
            have e2 : strOfNums (tagL key s (beN (l.take 8)) (bodyP l)) = strOfNums (tagP l) := ByteArray.ext (Array.toList_inj.1 e)
            exact htag (strOfNums_inj (highB_w _) (fun x hx => hlw x (List.mem_of_mem_drop hx)) e2)
          replace hno := hide hno
          replace htag := hide htag
          go_wp2_with fail
          go_quiet (fail)
          go_wp2_with fail
          go_ret3
          exact ⟨.inr ⟨unhide hno, rfl⟩, gb_drewN gw2 _⟩
end Go.Proofs.YtjnmokmchdfchaaDoor
