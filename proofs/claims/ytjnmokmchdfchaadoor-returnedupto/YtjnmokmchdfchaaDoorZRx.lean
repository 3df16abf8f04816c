import Derived.Test.YtjnmokmchdfchaaDoorZRu
import Derived.Test.YtjnmokmchdfchaaDoorZRt
import Derived.Test.YtjnmokmchdfchaaDoorZPe
import Derived.Test.YtjnmokmchdfchaaDoorZLW
import Derived.Deep.WholeRow
namespace Go.Proofs.YtjnmokmchdfchaaDoor
open Go.RowKit
attribute [local go_sem ↓] Go.wp_at_zero Go.wp_at_succ

def ab : ByteArray := ⟨#[97, 98]⟩
def fr0 : Fr := ⟨5, 1, 5, 0, true, ab, []⟩
theorem enc0 : encL [fr0] = [9, 1, 5, 2, 97, 98] := by decide
theorem encOk0 : EncOk [fr0] := by
  refine ⟨by simp, fun i hi => ?_⟩
  obtain rfl : i = 0 := by simp at hi; omega
  refine ⟨by simp [baseP, frAt, fr0], ⟨fun h => ?_, fun h => ?_⟩, ?_⟩
  · simp [frAt, fr0] at h
  · simp [frAt, fr0, ab, ByteArray.size]
  · simp [frAt, fr0]
theorem fsv0 {w : World} {b : Nat} (h : w.heap[b]? = some (.cells #[.int .i64 5, .int .i64 1, .int .u64 5, .int .u64 0, .bool true, .string ab, .slice none 0 0] 46 (0, 0))) : FSv w (some ⟨b, 0, none⟩) 1 1 [fr0] := by
  refine ⟨rfl, Nat.le_refl _, by simp [maxLen], .inr ⟨b, 0, rfl, fun i hi => ?_⟩⟩
  obtain rfl : i = 0 := by simp at hi; omega
  refine ⟨.slice none 0 0, ⟨⟨by simp [I64, frAt, fr0], by simp [I64, frAt, fr0], by simp [W64, frAt, fr0], by simp [W64, frAt, fr0], by simp [frAt, fr0]⟩, by simp [frAt, fr0, ab, ByteArray.size], none, 0, rfl, ⟨by simp [frAt, fr0], rfl, Nat.le_refl _, by simp [maxLen], .inl rfl⟩⟩, fun j v hj => ?_⟩
  simp only [World.cell?, h]
  match j, hj with
  | 0, hj | 1, hj | 2, hj | 3, hj | 4, hj | 5, hj | 6, hj => simpa [fcs, frAt, fr0] using hj

theorem seal7 (key : List Int) (s : Int) (l : List Int) : (sealL key s 70 l)[7]? = some 70 := by
  simp [sealL, highB, hb]
theorem bulk0 : bulkL [fr0] ≤ 30000000 := by simp [bulkL, bulkF, fr0, ab, ByteArray.size]
theorem sealL_w {key : List Int} {s n : Int} {l : List Int} (_hk : KeyOk key) (hl : ∀ x ∈ l, W8 x) : ∀ x ∈ sealL key s n l, W8 x := by
  intro x hx
  simp only [sealL, List.mem_append] at hx
  rcases hx with (hx | hx) | hx
  · exact highB_w _ x hx
  · exact maskL_w hl x hx
  · exact highB_w _ x hx
theorem one_key (key : List Int) : (keyA key).all (·.oneCell') = true :=
  all_oneCell_toArray (cs := bv key) (fun v hv => by
    simp only [bv, List.mem_map] at hv
    obtain ⟨x, -, rfl⟩ := hv
    rfl)
theorem keyA_at {key : List Int} (h : KeyOk key) {j : Nat} (hj : j < 16) : (keyA key)[j]? = some (.int .u8 (key.getD j 0)) := by
  have : j < key.length := by rw [h.1]; exact hj
  simp [keyA, bv, List.getD, this]
theorem key_set {key : List Int} (h : KeyOk key) {j : Nat} {y : Int} (hy : W8 y) : KeyOk (key.set j y) :=
  ⟨by rw [List.length_set]; exact h.1, fun x hx => by
    rcases List.mem_or_eq_of_mem_set hx with h1 | rfl
    · exact h.2 x h1
    · exact hy⟩
theorem keyA_set (key : List Int) (j : Nat) (y : Int) : (keyA key).setIfInBounds j (.int .u8 y) = keyA (key.set j y) := by
  simp [keyA, bv, List.map_set]
theorem num_first {p : List Int} (h8 : 8 ≤ p.length) (hw : ∀ x ∈ p, W8 x) (h0 : p.getD 0 0 ≤ 63) : numP p ≤ 4611686018427387903 := by
  unfold numP
  have hl : (p.take 8).length = 8 := by rw [List.length_take]; omega
  have hw' : ∀ x ∈ p.take 8, W8 x := fun x hx => hw x (List.mem_of_mem_take hx)
  have h0' : (p.take 8).getD 0 0 ≤ 63 := by
    rw [List.getD, List.getElem?_take, if_pos (by omega)]; exact h0
  generalize p.take 8 = q at *
  obtain ⟨x0, x1, x2, x3, x4, x5, x6, x7, rfl⟩ := list8 hl
  simp only [List.mem_cons, List.not_mem_nil, or_false, forall_eq_or_imp, forall_eq, W8] at hw'
  simp only [List.getD_cons_zero] at h0'
  simp only [beN, List.foldl_cons, List.foldl_nil]
  omega
set_option maxRecDepth 10000 in
theorem arr16 {K : Array Value} (h : K.size = 16) : ∃ u0 u1 u2 u3 u4 u5 u6 u7 u8 u9 u10 u11 u12 u13 u14 u15, K = #[u0, u1, u2, u3, u4, u5, u6, u7, u8, u9, u10, u11, u12, u13, u14, u15] := by
  obtain ⟨l⟩ := K
  match l, h with
  | [u0, u1, u2, u3, u4, u5, u6, u7, u8, u9, u10, u11, u12, u13, u14, u15], _ => exact ⟨u0, u1, u2, u3, u4, u5, u6, u7, u8, u9, u10, u11, u12, u13, u14, u15, rfl⟩
theorem bulk_mem {f : Fr} {fs : List Fr} (h : f ∈ fs) : bulkF f ≤ bulkL fs := by
  induction fs with
  | nil => cases h
  | cons g r ih =>
    simp only [bulkL]
    rcases List.mem_cons.1 h with rfl | h
    · omega
    · have := ih h; omega
theorem frames_all {w : World} {a : Option Addr} {n cap : Nat} {fs : List Fr} (h : FSv w a n cap fs) (hok : EncOk fs) (hbk : bulkL fs ≤ 30000000) : ∀ f ∈ fs, f.ok ∧ soundP f ∧ (f.ranges.length : Int) ≤ 4611686018427387903 := by
  intro f hf
  obtain ⟨i, hi, rfl⟩ := List.mem_iff_getElem.1 hf
  have hb := bulk_mem hf
  have hs := hok.2 i hi
  rw [frAt_eq hi] at hs
  obtain ⟨h1, h2, -, ⟨-, rfl⟩ | ⟨b, o, -, h4⟩⟩ := h
  · omega
  · obtain ⟨rv, h5, -⟩ := h4 i hi
    rw [frAt_eq hi] at h5
    refine ⟨h5.1, hs, ?_⟩
    unfold bulkF at hb
    omega
theorem encOk_norm {fs : List Fr} (h : EncOk fs) : EncOk (fs.map normF) := by
  refine ⟨by rw [List.length_map]; exact h.1, fun i hi => ?_⟩
  rw [List.length_map] at hi
  have := h.2 i hi
  rw [frAt_eq hi] at this
  rw [frAt_eq (by rw [List.length_map]; exact hi), List.getElem_map]
  exact (normF_same this).2.1
set_option maxRecDepth 100000 in
set_option maxHeartbeats 1000000 in
theorem law_returned (w : World) (a : Option Addr) (n cap : Nat) (fs : List Fr) (key : List Int) (f : Bool) (num k : Int) (hFS : FSv w a n cap fs) (hbk : bulkL fs ≤ 30000000) (hL : Laid w) (hk : KeyOk key) (hnum : W64 num) (hk1 : -9223372036854775808 ≤ k) (hk2 : k ≤ 9223372036854775807) :
    Calls Tryd.prog 5 #[.slice a n cap, .agg (keyA key), .bool f, .int .u64 num, .int .i64 k] w fun e w' => e = .returned (.bool true) ∧ w.grownBy w' none := by
  have hsz := keyA_size hk
  obtain ⟨K, hK⟩ : ∃ K, K = keyA key := ⟨_, rfl⟩
  obtain ⟨W2, hW2⟩ : ∃ W, W = (w.alloc (.cells K 32)).alloc (.cells #[.int .i64 5, .int .i64 1, .int .u64 5, .int .u64 0, .bool true, .string ab, .slice none 0 0] 46) := ⟨_, rfl⟩
  have g2 : w.grownBy W2 none := by rw [hW2]; exact gb_alloc (gb_alloc (World.grownBy.refl _ _) _) _
  have hkc2 : W2.heap[w.heap.size]? = some (.cells K 32 (0, 0)) := by rw [hW2, Below.heap_alloc _ _ _ (by simp)]; exact heap_alloc_new _ _
  have hfb : W2.heap[w.heap.size + 1]? = some (.cells #[.int .i64 5, .int .i64 1, .int .u64 5, .int .u64 0, .bool true, .string ab, .slice none 0 0] 46 (0, 0)) := by
    have := heap_alloc_new (w.alloc (.cells K 32)) (.cells #[.int .i64 5, .int .i64 1, .int .u64 5, .int .u64 0, .bool true, .string ab, .slice none 0 0] 46)
    rw [World.size_alloc] at this
    rw [hW2]; exact this
  have hE0 := hide (plainEncode_any W2 _ 1 1 [fr0] (fsv0 hfb) bulk0 (by simp) (hL.gb g2 (by simp)))
  have hS := hide (fun (W : World) (a : Option Addr) (m cap : Nat) (l : List Int) (n : Int) => plainSeal_any key f n a m cap l W hk)
  rw [← hK] at hsz hS ⊢
  replace hK := hide hK
  replace hkc2 := hide hkc2
  replace hnum := hide hnum
  clear hfb
  have hn0 := hFS.1
  have hn1 := hFS.2.1
  have hn2 := hFS.2.2.1
  unfold maxLen at hn2
  replace hFS := hide hFS
  replace hn0 := hide hn0
  go_enter Tryd.func5, Tryd.ntmps5
  go_wp2_with fail
  change Calls Tryd.prog 6 _ ((w.alloc (.cells K 32)).alloc (.cells #[.int .i64 5, .int .i64 1, .int .u64 5, .int .u64 0, .bool true, .string ab, .slice none 0 0] 46)) _
  rw [← hW2]
  clear hW2
  refine (unhide hE0).mono ?_
  rintro e w3 ⟨⟨-, a1, n1, c1, rfl, o1⟩ | ⟨hbad, -⟩, g3⟩
  · rw [enc0] at o1
    obtain rfl : n1 = 6 := by have := o1.bsv.2.1; simpa using this
    have gg3 := gb_trans g2 g3
    have hkc3 := hide (keep_gb (unhide hkc2) g3)
    have hb1 := hide o1.bsv
    clear o1 hE0 hkc2
    go_wp2_with (refine wpList_loadKey _ (by rfl) (by rfl) _ (by rfl) K ?_ hsz ?_; exact unhide hkc3)
    refine (unhide hS _ _ _ _ [9, 1, 5, 2, 97, 98] 70 (by simp [W64]) (unhide hb1) (by simp)).mono ?_
    rintro e w4 ⟨gp, rfl, hgp, hp4, g4⟩
    have gg4 := gb_trans gg3 g4
    have hkc4 := hide (keep_gb (unhide hkc3) g4)
    have h7 : w4.cell? ⟨gp, 7, none⟩ = some (.int .u8 70) := by
      simp only [World.cell?, hp4]
      simp [bv, seal7]
    clear hp4 g4 hkc3 hb1 hgp g3 gg3 g2
    by_cases q1 : 1000 < n
    · have d1 : decide (1000 < (n : Int)) = true := decide_eq_true (by omega)
      go_wp2_with fail
      go_ret
      exact ⟨rfl, gg4⟩
    have d1 : decide (1000 < (n : Int)) = false := decide_eq_false (by omega)
    by_cases q2 : 4611686018427387903 < num
    · have d2 : decide (4611686018427387903 < num) = true := decide_eq_true q2
      go_wp2_with fail
      go_ret
      exact ⟨rfl, gg4⟩
    have d2 : decide (4611686018427387903 < num) = false := decide_eq_false q2
    have hfl : fs.length = n := (unhide hn0).symm
    have hE := hide (plainEncode_any w4 a n cap fs ((unhide hFS).gb0 gg4) hbk (by omega) (hL.gb gg4 (by simp)))
    replace hfl := hide hfl
    go_wp2_with fail
    refine (unhide hE).mono ?_
    rintro e w5 ⟨⟨hok, a5, n5, c5, rfl, o5⟩ | ⟨-, rfl⟩, g5⟩
    · have gg5 := gb_trans gg4 g5
      have hkc5 := hide (keep_gb (unhide hkc4) g5)
      have hfr := hide (frames_all (unhide hFS) hok hbk)
      have hne : fs ≠ [] := List.length_pos_iff.1 hok.1
      have hdec := hide (decR_read (unhide hfr) hne)
      have hnl := normL_same fs (fun x hx => (unhide hfr x hx).2.1)
      have hLl := encL_len fs
      have hb5 := o5.bsv
      have hok2 := hide (encOk_norm hok)
      obtain ⟨L, hLe⟩ : ∃ L, L = encL fs := ⟨_, rfl⟩
      rw [← hLe] at hb5 hdec hnl hLl
      replace hLe := hide hLe
      have h5n : n5 = L.length := hb5.2.1
      have hL5 : L.length ≤ 30000000 := by omega
      clear hok o5 hE hkc4 g5
      have hD := hide (plainDecode_any w5 a5 n5 c5 L hb5 (by omega) (hL.gb gg5 (by simp)))
      replace hb5 := hide hb5
      replace h5n := hide h5n
      replace hnl := hide hnl
      replace hLl := hide hLl
      go_wp2_with fail
      refine (unhide hD).mono ?_
      rintro e w6 ⟨g6, ⟨its, a6, n6, c6, hd6, rfl, o6⟩ | ⟨p, hd6, -⟩⟩
      · have hits : its.map (·.1) = fs.map normF := by
          rw [unhide hdec] at hd6
          simp only [Prod.mk.injEq, Option.some.injEq, and_true] at hd6
          exact hd6.symm
        have h6 := o6.fsv
        rw [hits] at h6
        obtain rfl : n6 = n := by rw [h6.1, List.length_map]; exact unhide hfl
        have gg6 := gb_trans gg5 g6
        have hkc6 := hide (keep_gb (unhide hkc5) g6)
        have hE2 := hide (plainEncode_any w6 a6 n6 c6 (fs.map normF) h6 (by have := (unhide hnl).2; omega) (by rw [List.length_map, unhide hfl]; omega) (hL.gb gg6 (by simp)))
        clear h6 o6 hd6 hits hD hkc5
        go_wp2_with fail
        refine (unhide hE2).mono ?_
        rintro e w7 ⟨⟨-, a7, n7, c7, rfl, o7⟩ | ⟨hbad, -⟩, g7⟩
        · have hb7 := o7.bsv
          rw [(unhide hnl).1] at hb7
          have g57 := gb_trans g6 g7
          have gg7 := gb_trans gg5 g57
          have hkc7 := hide (keep_gb (unhide hkc6) g7)
          have hlt7 : w.heap.size < w7.heap.size := (Array.getElem?_eq_some_iff.1 (unhide hkc7)).1
          have hs1 := conv_str hb7
          have hs2 := conv_str ((unhide hb5).gb0 g57)
          have hb57 := hide ((unhide hb5).gb0 g57)
          clear hE2 o7 hb7 hkc6
          go_wp2_with (refine wpList_loadKey _ (by rfl) (by rfl) _ (by rfl) K ?_ hsz ?_; exact unhide hkc7)
          refine (unhide hS _ _ _ _ L num (unhide hnum) (unhide hb57) (by omega)).mono ?_
          rintro e w8 ⟨gq, rfl, hgq, hp8, g8⟩
          have hgz : w.heap.size < gq := Nat.lt_of_lt_of_le hlt7 hgq
          clear hlt7 hgq
          have g58 := gb_trans g57 g8
          have gg8 := gb_trans gg7 g8
          have hkc8 := hide (keep_gb (unhide hkc7) g8)
          have hb8 := hide ((unhide hb5).gb0 g58)
          obtain ⟨m, hm⟩ : ∃ m, m = L.length + 16 := ⟨_, rfl⟩
          have hm1 : 16 ≤ m := by omega
          have hm2 : m ≤ 30000016 := by omega
          have hSL : (sealL key (sd f) num L).length = m := by rw [sealL_len, hm]
          have hLw : ∀ x ∈ L, W8 x := (unhide hb5).1
          have hbS : BSv w8 (some ⟨gq, 0, none⟩) m m (sealL key (sd f) num L) := by
            have hSw : ∀ x ∈ sealL key (sd f) num L, W8 x := sealL_w hk hLw
            have := bsv_block hp8 hSw 0 m m (by omega) (Nat.le_refl _) (by simp [maxLen]; omega)
            rwa [List.drop_zero, List.take_of_length_le (by omega)] at this
          rw [← hm]
          have hml : L.length = m - 16 := by omega
          clear hs1 hs2 hb57 hkc7 hm
          by_cases q3 : 300 < m
          · have d3 : decide (300 < (m : Int)) = true := decide_eq_true (by omega)
            have hU := plainUnseal_len key f (some ⟨gq, 0, none⟩) m m _ w8 hk (hL.gb gg8 (by simp)) hbS (.inr (by omega)) (by omega)
            rw [← unhide hK] at hU
            replace hU := hide hU
            go_wp2_with (refine wpList_loadKey _ (by rfl) (by rfl) _ (by rfl) K ?_ hsz ?_; exact unhide hkc8)
            refine (unhide hU).mono ?_
            rintro e w9 ⟨rfl, g9⟩
            go_wp2_with fail
            go_ret
            exact ⟨rfl, gb_trans gg8 g9⟩
          · have d3 : decide (300 < (m : Int)) = false := decide_eq_false (by omega)
            have hU := plainUnseal_mid key f (some ⟨gq, 0, none⟩) m m _ w8 hk (hL.gb gg8 (by simp)) hbS (by omega) (by omega)
            rw [← unhide hK] at hU
            unfold UAns at hU
            simp only [hSL, seal_num (unhide hnum), seal_body, maskL_back key (sd f) num L hLw] at hU
            have hokS : okP key (sd f) (sealL key (sd f) num L) := (seal_ok (unhide hnum)).2 ⟨by omega, by omega⟩
            replace hU := hide hU
            go_wp2_with (refine wpList_loadKey _ (by rfl) (by rfl) _ (by rfl) K ?_ hsz ?_; exact unhide hkc8)
            refine (unhide hU).mono ?_
            rintro e w9 ⟨⟨-, a9, c9, rfl, hb9, -, -⟩ | ⟨hbad, -⟩, g9⟩
            · have hs3 := conv_str hb9
              have hs4 := conv_str ((unhide hb8).gb0 g9)
              have gg9 := gb_trans gg8 g9
              have hkc9 := hide (keep_gb (unhide hkc8) g9)
              have hbS9 := hide (hbS.gb0 g9)
              have hq9 := hide (keep_gb hp8 g9)
              clear hU hokS hbS hp8 hb8 hb9 hkc8
              have hsc := run_storeCells_new (P := Tryd.prog) w9 32 #[.int .u8 0, .int .u8 0, .int .u8 0, .int .u8 0, .int .u8 0, .int .u8 0, .int .u8 0, .int .u8 0, .int .u8 0, .int .u8 0, .int .u8 0, .int .u8 0, .int .u8 0, .int .u8 0, .int .u8 0, .int .u8 0] K (by rw [hsz]; exact Tryd.info32) (by rw [hsz]; rfl) (by rw [unhide hK]; exact one_key key)
              have hkcA := hide (keep_gb (unhide hkc9) (World.grownBy_alloc w9 (.cells #[.int .u8 0, .int .u8 0, .int .u8 0, .int .u8 0, .int .u8 0, .int .u8 0, .int .u8 0, .int .u8 0, .int .u8 0, .int .u8 0, .int .u8 0, .int .u8 0, .int .u8 0, .int .u8 0, .int .u8 0, .int .u8 0] 32) none))
              go_wp2_with (refine wpList_loadKey _ (by rfl) (by rfl) _ (by rfl) K ?_ hsz ?_; first | exact unhide hkc9 | exact unhide hkcA)
              refine (kpick_any k 128 _ hk1 hk2 (by omega) (by omega)).mono ?_
              rintro e w10 ⟨⟨i, rfl, hi⟩, hw10⟩
              have gA : w9.grownBy w10 none := by rw [hw10]; exact World.grownBy_alloc _ _ _
              have hA : w10.heap[w9.heap.size]? = some (.cells K 32 (0, 0)) := by rw [hw10]; exact heap_alloc_new _ _
              have hj : i / 8 < 16 := by omega
              have hq1 : w10.cell? ⟨w9.heap.size, i / 8, none⟩ = some (.int .u8 (key.getD (i / 8) 0)) := by
                simp only [World.cell?, hA, unhide hK]
                exact keyA_at hk hj
              have hq2 : w10.frozen? ⟨w9.heap.size, i / 8, none⟩ = false := by simp [World.frozen?, hA]
              have hx := getD_w8 hk.2 (i / 8)
              generalize hxe : key.getD (i / 8) 0 = x at *
              obtain ⟨hx0, hx1⟩ := hx
              clear hw10 hsc hs3 hs4 hxe hkcA
              obtain ⟨y, hy⟩ : ∃ y, y = bits .xor .u8 x (2 ^ (i % 8) % 256) := ⟨_, rfl⟩
              have hyw : W8 y := by rw [hy]; exact x8_w ⟨hx0, hx1⟩ (by unfold W8; omega)
              have hk2' := key_set hk (j := i / 8) hyw
              obtain ⟨W11, hW11⟩ : ∃ W, W = w10.setCell ⟨w9.heap.size, i / 8, none⟩ (.int .u8 y) := ⟨_, rfl⟩
              obtain ⟨K2, hK2⟩ : ∃ K2, K2 = keyA (key.set (i / 8) y) := ⟨_, rfl⟩
              have hA2 : W11.heap[w9.heap.size]? = some (.cells K2 32 (0, 0)) := by
                rw [hW11, heap_set hA, hK2, unhide hK, keyA_set]
              have hsz2 : K2.size = 16 := by rw [hK2]; exact keyA_size hk2'
              have g11 : w9.grownBy W11 none := by rw [hW11]; exact gb_set gA _ _ (.inl (Nat.le_refl _))
              have gg11 := gb_trans gg9 g11
              have hnS : numP (sealL key (sd f) num L) = num := seal_num (unhide hnum)
              generalize sealL key (sd f) num L = S at *
              have hO1 := hide (opens_any (key.set (i / 8) y) f gq 0 m m S W11 hk2' (hL.gb gg11 (by simp)) ((unhide hbS9).gb0 g11) hm1 (by omega) (by rw [hnS]; omega))
              have hO2 := hide (fun (f : Bool) (W : World) (g : w9.grownBy W none) => opens_any key f gq 0 m m S W hk (hL.gb (gb_trans gg9 g) (by simp)) ((unhide hbS9).gb0 g) hm1 (by omega) (by rw [hnS]; omega))
              rw [← hK2] at hO1
              rw [← unhide hK] at hO2
              have hkc11 := hide (keep_gb (unhide hkc9) g11)
              have hw8 : IntKind.i64.wrap (8 * (m : Int)) = 8 * (m : Int) := by simp [IntKind.wrap, IntKind.bits, IntKind.signed]; omega
              replace hA2 := hide hA2
              replace hy := hide hy
              replace hW11 := hide hW11
              replace hSL := hide hSL
              clear hK2 hA hk2' gA
              go_wp2_with (first | (refine wpList_loadKey _ (by rfl) (by rfl) _ (by rfl) K2 ?_ hsz2 ?_; (rw [← unhide hy, ← unhide hW11]; exact unhide hA2)))
              rw [← unhide hy, ← unhide hW11]
              refine (unhide hO1).mono ?_
              rintro e w12 ⟨rfl, g12⟩
              have g912 := gb_trans g11 g12
              have hkc12 := hide (keep_gb (unhide hkc11) g12)
              clear hO1 hA2 hq1 hq2 hkc11
              go_wp2_with (refine wpList_loadKey _ (by rfl) (by rfl) _ (by rfl) K ?_ hsz ?_; exact unhide hkc12)
              refine (unhide hO2 (!f) _ g912).mono ?_
              rintro e w13 ⟨rfl, g13⟩
              have g913 := gb_trans g912 g13
              have hkc13 := hide (keep_gb (unhide hkc12) g13)
              have hq13 := keep_gb (unhide hq9) g913
              have hbS13 := (unhide hbS9).gb0 g913
              clear hO2 hkc12
              go_wp2_with fail
              refine (kpick_any k (8 * (m : Int)) _ hk1 hk2 (by omega) (by omega)).mono ?_
              rintro e w14 ⟨⟨t, rfl, ht⟩, rfl⟩
              have ht8 : t / 8 < m := by omega
              have hc1 : w14.cell? ⟨gq, t / 8, none⟩ = some (.int .u8 (S.getD (t / 8) 0)) := by
                obtain ⟨-, -, -, -, ⟨h, -⟩ | ⟨b', o', h, hbs'⟩⟩ := hbS13
                · cases h
                · cases h
                  have := hbs'.1 (t / 8) (by rw [unhide hSL]; exact ht8)
                  rwa [Nat.zero_add] at this
              have hc2 : w14.frozen? ⟨gq, t / 8, none⟩ = false := by simp [World.frozen?, hq13]
              have hz := getD_w8 hbS13.1 (t / 8)
              obtain ⟨z, hze⟩ : ∃ z, z = S.getD (t / 8) 0 := ⟨_, rfl⟩
              rw [← hze] at hc1 hz
              clear hze
              obtain ⟨hz0, hz1⟩ := hz
              obtain ⟨v, hv⟩ : ∃ v, v = bits .xor .u8 z (2 ^ (t % 8) % 256) := ⟨_, rfl⟩
              have hvw : W8 v := by rw [hv]; exact x8_w ⟨hz0, hz1⟩ (by unfold W8; omega)
              have hbQ := bsv_set hbS13 hq13 (j := t / 8) (v := v) (by rw [unhide hSL]; exact ht8) hvw
              have g15 := gb_set (gb_trans gg9 g913) ⟨gq, t / 8, none⟩ (.int .u8 v) (.inl (Nat.le_of_lt hgz))
              have hkc15 : (w14.setCell ⟨gq, t / 8, none⟩ (.int .u8 v)).heap[w.heap.size]? = some (.cells K 32 (0, 0)) := by
                rw [Below.heap_setCell _ _ _ _ (by show w.heap.size ≠ gq; omega)]; exact unhide hkc13
              obtain ⟨W15, hW15⟩ : ∃ W, W = w14.setCell ⟨gq, t / 8, none⟩ (.int .u8 v) := ⟨_, rfl⟩
              rw [← hW15] at hbQ g15 hkc15
              have hQ0 : W15.cell? ⟨gq, 0, none⟩ = some (.int .u8 ((S.set (t / 8) v).getD 0 0)) := by
                obtain ⟨-, -, -, -, ⟨h, -⟩ | ⟨b', o', h, hbs'⟩⟩ := hbQ
                · cases h
                · cases h
                  have := hbs'.1 0 (by rw [List.length_set, unhide hSL]; omega)
                  simpa using this
              have hO3 := hide (fun hn : numP (S.set (t / 8) v) ≤ 4611686018427387903 => opens_any key f gq 0 m m (S.set (t / 8) v) W15 hk (hL.gb g15 (by simp)) hbQ hm1 (by omega) hn)
              rw [← unhide hK] at hO3
              have hnf := hide (num_first (p := S.set (t / 8) v) (by rw [List.length_set, unhide hSL]; omega) hbQ.1)
              have hq0w := getD_w8 hbQ.1 0
              obtain ⟨q0, hq0⟩ : ∃ q0, q0 = (S.set (t / 8) v).getD 0 0 := ⟨_, rfl⟩
              rw [← hq0] at hQ0 hnf hq0w
              obtain ⟨hq00, hq01⟩ := hq0w
              replace hq0 := hide hq0
              replace hkc15 := hide hkc15
              replace hW15 := hide hW15
              replace hv := hide hv
              clear hbQ hbS13 hq13 hvw
              by_cases q4 : 63 < q0
              · have d4 : decide (63 < q0) = true := decide_eq_true q4
                go_wp2_with (first | rw [← unhide hv, ← unhide hW15])
                go_ret
                exact ⟨rfl, g15⟩
              · have d4 : decide (63 < q0) = false := decide_eq_false q4
                obtain ⟨u0, u1, u2, u3, u4, u5, u6, u7, u8, u9, u10, u11, u12, u13, u14, u15, hKu⟩ := arr16 hsz
                rw [hKu] at hkc15 hO3
                have k0 : W15.cell? ⟨w.heap.size, 0, none⟩ = some u0 := by simp [World.cell?, unhide hkc15]
                have k1 : W15.cell? ⟨w.heap.size, 1, none⟩ = some u1 := by simp [World.cell?, unhide hkc15]
                have k2 : W15.cell? ⟨w.heap.size, 2, none⟩ = some u2 := by simp [World.cell?, unhide hkc15]
                have k3 : W15.cell? ⟨w.heap.size, 3, none⟩ = some u3 := by simp [World.cell?, unhide hkc15]
                have k4 : W15.cell? ⟨w.heap.size, 4, none⟩ = some u4 := by simp [World.cell?, unhide hkc15]
                have k5 : W15.cell? ⟨w.heap.size, 5, none⟩ = some u5 := by simp [World.cell?, unhide hkc15]
                have k6 : W15.cell? ⟨w.heap.size, 6, none⟩ = some u6 := by simp [World.cell?, unhide hkc15]
                have k7 : W15.cell? ⟨w.heap.size, 7, none⟩ = some u7 := by simp [World.cell?, unhide hkc15]
                have k8 : W15.cell? ⟨w.heap.size, 8, none⟩ = some u8 := by simp [World.cell?, unhide hkc15]
                have k9 : W15.cell? ⟨w.heap.size, 9, none⟩ = some u9 := by simp [World.cell?, unhide hkc15]
                have k10 : W15.cell? ⟨w.heap.size, 10, none⟩ = some u10 := by simp [World.cell?, unhide hkc15]
                have k11 : W15.cell? ⟨w.heap.size, 11, none⟩ = some u11 := by simp [World.cell?, unhide hkc15]
                have k12 : W15.cell? ⟨w.heap.size, 12, none⟩ = some u12 := by simp [World.cell?, unhide hkc15]
                have k13 : W15.cell? ⟨w.heap.size, 13, none⟩ = some u13 := by simp [World.cell?, unhide hkc15]
                have k14 : W15.cell? ⟨w.heap.size, 14, none⟩ = some u14 := by simp [World.cell?, unhide hkc15]
                have k15 : W15.cell? ⟨w.heap.size, 15, none⟩ = some u15 := by simp [World.cell?, unhide hkc15]
                replace hKu := hide hKu
                go_wp2_with (first | rw [← unhide hv, ← unhide hW15])
                refine (unhide hO3 (unhide hnf (by omega))).mono ?_
                rintro e w16 ⟨rfl, g16⟩
                go_wp2_with fail
                go_ret
                exact ⟨rfl, gb_trans g15 g16⟩
            · exact absurd hokS hbad
        · exact absurd (unhide hok2) hbad
      · rw [unhide hdec] at hd6
        cases hd6
    · have gg5 := gb_trans gg4 g5
      have hnn : ∀ W, (binOp .eql 23 (.slice none 0 0) (.slice none 0 0)).run Tryd.prog W = .ok (.bool true) W := fun W => eql_nil_nil W Tryd.underlying23
      go_wp2_with fail
      go_ret
      exact ⟨rfl, gg5⟩
  · exact absurd encOk0 hbad
end Go.Proofs.YtjnmokmchdfchaaDoor
