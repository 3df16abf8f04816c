import Derived.Test.YtjnmokmchdfchaaDoorZPW
import Derived.Lib.ConvBytes
import Derived.Lib.LazyBuf
namespace Go.Proofs.YtjnmokmchdfchaaDoor
open Go.RowKit
attribute [local go_sem ↓] Go.wp_at_zero Go.wp_at_succ

theorem eql_nil_nil (w : World) {t e : TypeId} (ht : Tryd.prog.underlying t = some (.slice e)) : (binOp .eql t (.slice none 0 0) (.slice none 0 0)).run Tryd.prog w = .ok (.bool true) w := by
  have h : ∀ d : Nat, (Op.equalIn (d + 1) t (.slice none 0 0) (.slice none 0 0)).run Tryd.prog w = .ok true w := fun d => by
    simp [Op.equalIn, run_underlying ht]
  simp only [binOp]
  simp [Op.equal, Op.maxDepth, h 9999]
theorem bsv_set {w : World} {g n c : Nat} {l : List Int} {cs : Array Value} {t : TypeId} (h : BSv w (some ⟨g, 0, none⟩) n c l) (hb : w.heap[g]? = some (.cells cs t (0, 0))) {j : Nat} {v : Int} (hj : j < l.length) (hv : W8 v) :
    BSv (w.setCell ⟨g, j, none⟩ (.int .u8 v)) (some ⟨g, 0, none⟩) n c (l.set j v) := by
  obtain ⟨h1, h2, h3, h4, ⟨h, -⟩ | ⟨b', o', h, h5⟩⟩ := h
  · cases h
  · cases h
    have hw : ∀ x ∈ l.set j v, W8 x := fun x hx => by
      rcases List.mem_or_eq_of_mem_set hx with h | rfl
      · exact h1 x h
      · exact hv
    refine ⟨hw, by rw [List.length_set]; exact h2, h3, h4, .inr ⟨g, 0, rfl, fun i hi => ?_, hw⟩⟩
    rw [List.length_set] at hi
    have hc := h5.1 i hi
    have hcj := h5.1 j hj
    have hb' := heap_set (o := j) hb (.int .u8 v)
    simp only [World.cell?, hb, hb', Nat.zero_add] at hc hcj ⊢
    rw [Array.getElem?_setIfInBounds]
    by_cases e : j = i
    · subst e
      have hs := (Array.getElem?_eq_some_iff.1 hcj).1
      rw [if_pos rfl, if_pos hs, List.getD, List.getElem?_set_self hj]
      rfl
    · rw [if_neg e, hc, List.getD, List.getD, List.getElem?_set_ne e]

set_option maxRecDepth 100000 in
theorem law_long (K : Array Value) (f : Bool) (n : Int) (b : ByteArray) (k : Int) (w : World) (hb : 2000 < b.size) :
    Calls Tryd.prog 4 #[.agg K, .bool f, .int .u64 n, .string b, .int .i64 k] w fun e w' => e = .returned (.bool true) ∧ w.grownBy w' none := by
  have h1 : decide (2000 < (b.size : Int)) = true := by simp; omega
  go_enter Tryd.func4, Tryd.ntmps4
  go_wp2_with fail
  go_ret
  exact ⟨rfl, World.grownBy_alloc _ _ _⟩

set_option maxRecDepth 100000 in
set_option maxHeartbeats 2000000 in
theorem law_short (key : List Int) (f : Bool) (n : Int) (b : ByteArray) (k : Int) (w : World) (hk : KeyOk key) (hn : W64 n) (hk1 : -9223372036854775808 ≤ k) (hk2 : k ≤ 9223372036854775807) (hL : Laid w) (hb : b.size ≤ 2000) :
    Calls Tryd.prog 4 #[.agg (keyA key), .bool f, .int .u64 n, .string b, .int .i64 k] w fun e w' => e = .returned (.bool true) ∧ w.grownBy w' none := by
  have h1 : decide (2000 < (b.size : Int)) = false := by simp; omega
  have hsz := keyA_size hk
  obtain ⟨W1, hW1⟩ : ∃ W, W = w.alloc (.cells (keyA key) 32) := ⟨_, rfl⟩
  have g1 : w.grownBy W1 none := by rw [hW1]; exact World.grownBy_alloc _ _ _
  have hkc : W1.heap[w.heap.size]? = some (.cells (keyA key) 32 (0, 0)) := by rw [hW1]; exact heap_alloc_new _ _
  have hcv := conv_bytes b
  have hlb := bl_len b
  have hH := hide (fun (W : World) => hash_any key _ _ _ (bl b) _ hk (conv_bsv W b hb) (by omega))
  have hR := hide (fun (W : World) => refHash_any key _ _ _ (bl b) _ hk (conv_bsv W b hb) (by omega))
  have hS := hide (fun (W : World) => plainSeal_any key f n _ _ _ (bl b) _ hk hn (conv_bsv W b hb) (by omega))
  have hT := hide (fun (W : World) => refSeal_any key (sd f) n _ _ _ (bl b) _ hk (sd_w f) hn (conv_bsv W b hb) (by omega))
  obtain ⟨m, hm⟩ : ∃ m, m = (bl b).length + 16 := ⟨_, rfl⟩
  have hm1 : 16 ≤ m := by omega
  have hm2 : m ≤ 2016 := by omega
  rw [← hm] at hS hT
  replace hm := hide hm
  obtain ⟨K, hK⟩ : ∃ K, K = keyA key := ⟨_, rfl⟩
  rw [← hK] at hH hR hS hT hkc hW1 hsz ⊢
  replace hK := hide hK
  replace hkc := hide hkc
  replace hlb := hide hlb
  go_enter Tryd.func4, Tryd.ntmps4
  go_upto_region 3 with fail
  rw [← hW1]
  clear hW1
  go_wp2_with (refine wpList_loadKey _ (by rfl) (by rfl) _ (by rfl) K ?_ hsz ?_; exact unhide hkc)
  refine (unhide hH _).mono ?_
  rintro e w2 ⟨rfl, g2⟩
  have gg2 := gb_trans (conv_gb W1 b) g2
  have hkc2 := hide (keep_gb (unhide hkc) gg2)
  go_wp2_with (refine wpList_loadKey _ (by rfl) (by rfl) _ (by rfl) K ?_ hsz ?_; exact unhide hkc2)
  refine (unhide hR _).mono ?_
  rintro e w3 ⟨rfl, g3⟩
  have gg3 := gb_trans gg2 (gb_trans (conv_gb w2 b) g3)
  have hkc3 := hide (keep_gb (unhide hkc) gg3)
  clear hkc2 g2 g3 gg2
  go_upto_if 34 with fail
  go_cut [13] (fun v wx => v = .int .i64 (sd f) ∧ wx = w3)
  case first =>
    cases f <;> (go_wp2_with fail; go_meet; exact ⟨rfl, rfl⟩)
  case rest =>
    obtain ⟨rfl, rfl⟩ := hcut
    go_wp2_with (refine wpList_loadKey _ (by rfl) (by rfl) _ (by rfl) K ?_ hsz ?_; exact unhide hkc3)
    refine (unhide hS _).mono ?_
    rintro e w4 ⟨gp, rfl, hgp, hp4, g4⟩
    have gg4 := gb_trans gg3 (gb_trans (conv_gb _ b) g4)
    have hkc4 := hide (keep_gb (unhide hkc) gg4)
    replace hp4 := hide hp4
    clear hkc3 gg3 g4
    go_wp2_with (refine wpList_loadKey _ (by rfl) (by rfl) _ (by rfl) K ?_ hsz ?_; exact unhide hkc4)
    refine (unhide hT _).mono ?_
    rintro e w5 ⟨aq, cq, rfl, oq, g5⟩
    have g45 := gb_trans (conv_gb w4 b) g5
    have gg5 := gb_trans gg4 g45
    have hz4 : W1.heap.size ≤ (Lib.bytesWorld w4 5 b).heap.size := Nat.le_trans gg4.size (conv_gb w4 b).size
    have hkc5 := hide (keep_gb (unhide hkc) gg5)
    have hp5 := keep_gb (unhide hp4) g45
    have hSL : (sealL key (sd f) n (bl b)).length = m := by rw [sealL_len, unhide hm]
    have bp := bsv_block hp5 oq.1 0 m m (by omega) (Nat.le_refl _) (by simp [maxLen]; omega)
    rw [List.drop_zero, List.take_of_length_le (by omega)] at bp
    have hs1 := conv_str bp
    have hs2 := conv_str oq.bsv
    clear bp hp5 hp4 hkc4 gg4 g5
    obtain ⟨gq, cs, rfl, hgq, hbq, hnq⟩ : ∃ g cs, aq = some ⟨g, 0, none⟩ ∧ _ ∧ _ ∧ _ := by
      rcases own_block oq with ⟨h1, h2⟩ | h
      · omega
      · exact h
    have hgW : W1.heap.size ≤ gq := Nat.le_trans hz4 hgq
    have hbs : BSv w5 (some ⟨gq, 0, none⟩) m cq (sealL key (sd f) n (bl b)) := oq.bsv
    generalize sealL key (sd f) n (bl b) = S at *
    replace hbs := hide hbs
    replace hSL := hide hSL
    replace hbq := hide hbq
    clear oq
    have hw9 : IntKind.i64.wrap (9 * (m : Int)) = 9 * (m : Int) := by simp [IntKind.wrap, IntKind.bits, IntKind.signed]; omega
    have hw8 : IntKind.i64.wrap (8 * (m : Int)) = 8 * (m : Int) := by simp [IntKind.wrap, IntKind.bits, IntKind.signed]; omega
    go_wp2_with fail
    refine (pick_any k (9 * (m : Int)) _ hk1 hk2 (by omega) (by omega)).mono ?_
    rintro e w6 ⟨⟨i, rfl, hi⟩, rfl⟩
    clear hs1 hs2 hw9
    go_upto_if 66 with fail
    go_cut [] (fun wx => ∃ Q : List Int, Q.length = m ∧ BSv wx (some ⟨gq, 0, none⟩) m cq Q ∧ w6.grownBy wx (some gq))
    case first =>
      by_cases hi8 : (i : Int) < 8 * (m : Int)
      · have hd8 : decide ((i : Int) < 8 * (m : Int)) = true := by simp [hi8]
        have hj : i / 8 < m := by omega
        have hq1 : w6.cell? ⟨gq, i / 8, none⟩ = some (.int .u8 (S.getD (i / 8) 0)) := by
          obtain ⟨-, -, -, -, ⟨h, -⟩ | ⟨b', o', h, hbs'⟩⟩ := unhide hbs
          · cases h
          · cases h
            have := hbs'.1 (i / 8) (by rw [unhide hSL]; exact hj)
            rwa [Nat.zero_add] at this
        have hq2 : w6.frozen? ⟨gq, i / 8, none⟩ = false := by simp [World.frozen?, unhide hbq]
        have hx := getD_w8 (unhide hbs).1 (i / 8)
        generalize S.getD (i / 8) 0 = x at *
        obtain ⟨hx0, hx1⟩ := hx
        go_wp2_with fail
        go_meet
        exact ⟨S.set (i / 8) _, by rw [List.length_set]; exact unhide hSL, bsv_set (unhide hbs) (unhide hbq) (by rw [unhide hSL]; exact hj) (x8_w ⟨hx0, hx1⟩ (by unfold W8; omega)), gb_set (World.grownBy.refl _ _) _ _ (.inr rfl)⟩
      · have hd8 : decide ((i : Int) < 8 * (m : Int)) = false := by simp [hi8]
        go_wp2_with fail
        go_meet
        exact ⟨S, unhide hSL, unhide hbs, World.grownBy.refl _ _⟩
    case rest =>
      obtain ⟨Q, hQl, hbQ, g6⟩ := hcut
      clear hbs hSL hbq hi hw8 hcv h1 hH hR hS hT hkc5
      have g06 : W1.grownBy wc none := gb_new (gb_trans' (gb_none gg5 (some gq)) g6 (fun j e => .inr rfl)) hgW
      have hkc6 := hide (keep_gb (unhide hkc) g06)
      have hL6 : Laid wc := (hL.gb g1 (by simp)).gb g06 (by simp)
      have g0 : w.grownBy wc none := gb_trans g1 g06
      clear gg5 g6 g45 hL hz4 hgW hgq
      have hnn : ∀ W, (binOp .eql 23 (.slice none 0 0) (.slice none 0 0)).run Tryd.prog W = .ok (.bool true) W := fun W => eql_nil_nil W Tryd.underlying23
      have hsd : IntKind.i64.wrap (1 - sd f) = sd (!f) := by cases f <;> rfl
      by_cases hq : m ≤ 300
      · have hU := fun (W : World) (g : wc.grownBy W none) (f : Bool) => plainUnseal_mid key f (some ⟨gq, 0, none⟩) m cq Q W hk (hL6.gb g (by simp)) (hbQ.gb0 g) (by omega) (by omega)
        have hV := fun (W : World) (g : wc.grownBy W none) (f : Bool) => refUnseal_mid key (sd f) (some ⟨gq, 0, none⟩) m cq Q W hk (sd_w f) (hbQ.gb0 g) (by omega) (by omega)
        unfold UAns at hU
        obtain ⟨r, hr⟩ : ∃ r, r = m - 16 := ⟨_, rfl⟩
        have hr0 : (m = 16) = (r = 0) := by rw [eq_iff_iff]; omega
        simp only [hQl, ← hr, hr0] at hU hV
        rw [← unhide hK] at hU hV
        replace hr := hide hr
        clear hr0
        replace hU := hide hU
        replace hV := hide hV
        replace hQl := hide hQl
        replace hbQ := hide hbQ
        go_wp2_with (refine wpList_loadKey _ (by rfl) (by rfl) _ (by rfl) K ?_ hsz ?_; exact unhide hkc6)
        refine (unhide hU _ (World.grownBy.refl _ _) f).mono ?_
        rintro e w7 ⟨⟨hok, a', c', rfl, hb7, hge, h16⟩ | ⟨hok, rfl⟩, g7⟩
        · have hok' := hide hok
          clear hok
          replace hb7 := hide hb7
          replace h16 := hide h16
          have hkc7 := hide (keep_gb (unhide hkc6) g7)
          go_wp2_with (refine wpList_loadKey _ (by rfl) (by rfl) _ (by rfl) K ?_ hsz ?_; exact unhide hkc7)
          refine (unhide hV _ g7 f).mono ?_
          rintro e w8 ⟨⟨hok2, a8, c8, rfl, o8⟩ | ⟨hok2, rfl⟩, g8⟩
          · clear hok2
            have hs3 := conv_str ((unhide hb7).gb0 g8)
            have hs4 := conv_str o8.bsv
            have hne : ∀ W, (binOp .neq 23 (.slice a' r c') (.slice none 0 0)).run Tryd.prog W = .ok (.bool (!a'.isNone)) W := fun W => run_neq_slice_nil W _ _ _ _ _ Tryd.underlying23
            have hkc8 := hide (keep_gb (unhide hkc7) g8)
            have g78 := gb_trans g7 g8
            clear hnn
            replace o8 := hide o8
            by_cases h0 : r = 0
            · obtain rfl := unhide h16 h0
              subst h0
              go_wp2_with (refine wpList_loadKey _ (by rfl) (by rfl) _ (by rfl) K ?_ hsz ?_; exact unhide hkc8)
              refine (unhide hU _ g78 (!f)).mono ?_
              rintro e w9 ⟨⟨hok3, a9, c9, rfl, hb9, hge9, h169⟩ | ⟨hok3, rfl⟩, g9⟩
              · have hok' := hide hok3
                clear hok3 hb9 hge9 h169
                have hkc9 := hide (keep_gb (unhide hkc8) g9)
                go_wp2_with (refine wpList_loadKey _ (by rfl) (by rfl) _ (by rfl) K ?_ hsz ?_; exact unhide hkc9)
                refine (unhide hV _ (gb_trans g78 g9) (!f)).mono ?_
                rintro e w10 ⟨⟨hok2, a10, c10, rfl, o10⟩ | ⟨hok2, rfl⟩, g10⟩
                · clear hok2 o10
                  go_wp2_with fail
                  go_ret
                  exact ⟨rfl, gb_trans g0 (gb_trans g78 (gb_trans g9 g10))⟩
                · exact absurd (unhide hok') hok2
              · have hok' := hide hok3
                clear hok3
                have hkc9 := hide (keep_gb (unhide hkc8) g9)
                go_wp2_with (refine wpList_loadKey _ (by rfl) (by rfl) _ (by rfl) K ?_ hsz ?_; exact unhide hkc9)
                refine (unhide hV _ (gb_trans g78 g9) (!f)).mono ?_
                rintro e w10 ⟨⟨hok2, a10, c10, rfl, o10⟩ | ⟨hok2, rfl⟩, g10⟩
                · exact absurd hok2 (unhide hok')
                · clear hok2
                  go_wp2_with fail
                  go_ret
                  exact ⟨rfl, gb_trans g0 (gb_trans g78 (gb_trans g9 g10))⟩
            · have hz : ((r : Int) == 0) = false := by simp [h0]
              go_wp2_with (refine wpList_loadKey _ (by rfl) (by rfl) _ (by rfl) K ?_ hsz ?_; exact unhide hkc8)
              refine (unhide hU _ g78 (!f)).mono ?_
              rintro e w9 ⟨⟨hok3, a9, c9, rfl, hb9, hge9, h169⟩ | ⟨hok3, rfl⟩, g9⟩
              · have hok' := hide hok3
                clear hok3 hb9 hge9 h169
                have hkc9 := hide (keep_gb (unhide hkc8) g9)
                go_wp2_with (refine wpList_loadKey _ (by rfl) (by rfl) _ (by rfl) K ?_ hsz ?_; exact unhide hkc9)
                refine (unhide hV _ (gb_trans g78 g9) (!f)).mono ?_
                rintro e w10 ⟨⟨hok2, a10, c10, rfl, o10⟩ | ⟨hok2, rfl⟩, g10⟩
                · clear hok2 o10
                  go_wp2_with fail
                  go_ret
                  exact ⟨rfl, gb_trans g0 (gb_trans g78 (gb_trans g9 g10))⟩
                · exact absurd (unhide hok') hok2
              · have hok' := hide hok3
                clear hok3
                have hkc9 := hide (keep_gb (unhide hkc8) g9)
                go_wp2_with (refine wpList_loadKey _ (by rfl) (by rfl) _ (by rfl) K ?_ hsz ?_; exact unhide hkc9)
                refine (unhide hV _ (gb_trans g78 g9) (!f)).mono ?_
                rintro e w10 ⟨⟨hok2, a10, c10, rfl, o10⟩ | ⟨hok2, rfl⟩, g10⟩
                · exact absurd hok2 (unhide hok')
                · clear hok2
                  go_wp2_with fail
                  go_ret
                  exact ⟨rfl, gb_trans g0 (gb_trans g78 (gb_trans g9 g10))⟩
          · exact absurd (unhide hok') hok2
        · have hok' := hide hok
          clear hok
          have hkc7 := hide (keep_gb (unhide hkc6) g7)
          go_wp2_with (refine wpList_loadKey _ (by rfl) (by rfl) _ (by rfl) K ?_ hsz ?_; exact unhide hkc7)
          refine (unhide hV _ g7 f).mono ?_
          rintro e w8 ⟨⟨hok2, a8, c8, rfl, o8⟩ | ⟨hok2, rfl⟩, g8⟩
          · exact absurd hok2 (unhide hok')
          · clear hok2
            go_wp2_with fail
            go_ret
            exact ⟨rfl, gb_trans g0 (gb_trans g7 g8)⟩
      · have hU := plainUnseal_len key f (some ⟨gq, 0, none⟩) m cq Q wc hk hL6 hbQ (.inr (by omega)) (by omega)
        have hV := fun (W : World) (g : wc.grownBy W none) => refUnseal_len key (sd f) (some ⟨gq, 0, none⟩) m cq Q W hk (hbQ.gb0 g) (.inr (by omega))
        rw [← unhide hK] at hU hV
        replace hU := hide hU
        replace hV := hide hV
        replace hQl := hide hQl
        replace hbQ := hide hbQ
        go_wp2_with (refine wpList_loadKey _ (by rfl) (by rfl) _ (by rfl) K ?_ hsz ?_; exact unhide hkc6)
        refine (unhide hU).mono ?_
        rintro e w7 ⟨rfl, g7⟩
        have hkc7 := hide (keep_gb (unhide hkc6) g7)
        go_wp2_with (refine wpList_loadKey _ (by rfl) (by rfl) _ (by rfl) K ?_ hsz ?_; exact unhide hkc7)
        refine (unhide hV _ g7).mono ?_
        rintro e w8 ⟨rfl, g8⟩
        go_wp2_with fail
        go_ret
        exact ⟨rfl, gb_trans g0 (gb_trans g7 g8)⟩
end Go.Proofs.YtjnmokmchdfchaaDoor
