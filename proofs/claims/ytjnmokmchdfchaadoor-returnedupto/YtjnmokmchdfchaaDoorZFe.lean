import Derived.Test.YtjnmokmchdfchaaDoorZFo
namespace Go.Proofs.YtjnmokmchdfchaaDoor
open Go.RowKit
attribute [local go_sem ↓] Go.wp_at_zero Go.wp_at_succ

def EncOk (fs : List Fr) : Prop := 0 < fs.length ∧ ∀ i, i < fs.length → soundP (frAt fs i)
/-- What Encode answers. -/
def EncAns (w : World) (fs : List Fr) (bad : Value) (good : Value → Value) (e : Ending) (w' : World) : Prop :=
  ((EncOk fs ∧ ∃ a' n' c', e = .returned (good (.slice a' n' c')) ∧ OwnB w' w.heap.size (.slice a' n' c') (encL fs)) ∨ (¬ EncOk fs ∧ e = .returned bad)) ∧ w.grownBy w' none
theorem OwnB.lower' {w : World} {b1 b2 : Nat} {v : Value} {l : List Int} (h : OwnB w b1 v l) (hb : b2 ≤ b1) : OwnB w b2 v l := by
  obtain ⟨h1, h2, h3⟩ := h
  refine ⟨h1, h2, ?_⟩
  rcases h3 with h3 | ⟨g, cap, cur, e1, e2, e3⟩
  · exact .inl h3
  · exact .inr ⟨g, cap, cur, e1, by omega, e3⟩
theorem info_fr : (Tryd.prog.info? 46).map (·.size) = some 7 := by kernel_rfl
theorem info_sh : (Tryd.prog.info? 94).map (·.size) = some 4 := by kernel_rfl
set_option maxRecDepth 100000 in
set_option maxHeartbeats 4000000 in
theorem encode_any (w : World) (a : Option Addr) (n cap : Nat) (fs : List Fr) (h : FSv w a n cap fs) (hbk : bulkL fs ≤ 30000000) :
    Calls Tryd.prog 38 #[.slice a n cap] w (EncAns w fs (.tuple #[.slice none 0 0, .iface 24 (.int .i64 5)]) (fun v => .tuple #[v, .nilIface])) := by
  have hn := h.1
  have hcap := h.2.1
  have hmax := h.2.2.1
  unfold maxLen at hmax
  by_cases h0 : n = 0
  · have e0 : ((n : Int) == 0) = true := by simp [h0]
    have hbad : ¬ EncOk fs := fun hk => by have := hk.1; omega
    replace hbad := hide hbad
    clear h h0
    go_enter Tryd.func38, Tryd.ntmps38
    go_wp2_with fail
    go_ret2
    exact ⟨.inr ⟨unhide hbad, rfl⟩, World.grownBy.refl _ _⟩
  · have e0 : ((n : Int) == 0) = false := by simp [h0]
    obtain ⟨b, o, rfl⟩ : ∃ b o, a = some ⟨b, o, none⟩ := by
      obtain ⟨-, -, -, ⟨rfl, hc⟩ | ⟨b, o, rfl, -⟩⟩ := h
      · omega
      · exact ⟨b, o, rfl⟩
    replace hn := hide hn
    go_enter Tryd.func38, Tryd.ntmps38
    go_wp2_with fail
    refine (shapes_any w).mono ?_
    rintro e w1 ⟨T, P2, P3, P4, P5, P6, Bo, Bc, rfl, hT, g1⟩
    have h1 := h.gb0 g1
    go_wp2_with fail
    go_loopw [4, 17] (fun v i wr => ∃ (j : Nat) (a' : Option Addr) (n' c' : Nat), j ≤ n ∧ i = .int .i64 (j : Int) ∧ v = .slice a' n' c' ∧ Grew w1 w1.heap.size (.slice none 0 0) wr v (encL (fs.take j)) ∧ ∀ i, i < j → soundP (frAt fs i)) (fun _ i _ => n - (intOf i).toNat)
    case atStart => exact ⟨0, none, 0, 0, by omega, rfl, rfl, Grew.refl (OwnB.nil _ _), fun i hi => by omega⟩
    case round =>
      obtain ⟨j, a', n', c', hj, rfl, rfl, Gj, hall⟩ := hrel
      have gj := Gj.old (World.grownBy.refl _ _) (OwnB.nil _ _) (Nat.le_refl _)
      by_cases hlt : j < n
      · obtain ⟨rv, hfv, hrg⟩ := h1.at j (by have := unhide hn; omega)
        have hrj := range_gb hrg gj (by simp)
        obtain ⟨f, hf⟩ : ∃ f, f = frAt fs j := ⟨_, rfl⟩
        rw [← hf] at hfv hrj
        clear hrg
        obtain ⟨-, -, ra, rcap, hrv, -⟩ := id hfv
        generalize hlr : f.ranges.length = rl at hrv
        subst hrv
        have hSO := fun W (g : w1.grownBy W none) => shapeOf_any W T P2 P3 P4 P5 P6 Bo Bc (hT.gb0 g) f (.slice ra rl rcap)
        have hAL := fun W (g : w1.grownBy W none) => allowed_any f (.slice ra rl rcap) W (hfv.gb0 g)
        have hWR := fun (chs : List (List Int)) (k0 : Int) (fin0 : Bool) (t : Int) (pv : Value) => shapeWrite_any w1 f (.slice ra rl rcap) pv chs k0 fin0 t
        have hpt := fun (hs : soundP f) (i : Nat) (hi : i < 7) => shape_parts hT hfv hs hi
        have hkd := fun (i : Nat) (hi : i < 7) => some_shape (f := f) (P2 := P2) (P3 := P3) (P4 := P4) (P5 := P5) (P6 := P6) hi
        have hnk := no_shape (f := f) (P2 := P2) (P3 := P3) (P4 := P4) (P5 := P5) (P6 := P6)
        have hbj : bulkL (fs.take j) + bulkF f ≤ bulkL fs := by rw [hf]; exact bulk_at (by have := unhide hn; omega)
        have hwl := writtenL_len f
        have hel := encL_len (fs.take j)
        have hbf : bulkF f = 25 + 16 * f.ranges.length + f.data.size := rfl
        have hwr : encL (fs.take (j + 1)) = encL (fs.take j) ++ writtenL f := by rw [encL_take fs j (by have := unhide hn; omega), hf, frAt_eq (by have := unhide hn; omega)]
        generalize shs P2 P3 P4 P5 P6 = L at *
        clear hT hfv hlr
        obtain ⟨k, s, ofs, cd, fin, d, rg⟩ := f
        have c0 : wr.cell? ⟨b, o + j * 7, none⟩ = some (.int .i64 k) := hrj 0 _ rfl
        have c1 : wr.cell? ⟨b, o + j * 7 + 1, none⟩ = some (.int .i64 s) := hrj 1 _ rfl
        have c2 : wr.cell? ⟨b, o + j * 7 + 2, none⟩ = some (.int .u64 ofs) := hrj 2 _ rfl
        have c3 : wr.cell? ⟨b, o + j * 7 + 3, none⟩ = some (.int .u64 cd) := hrj 3 _ rfl
        have c4 : wr.cell? ⟨b, o + j * 7 + 4, none⟩ = some (.bool fin) := hrj 4 _ rfl
        have c5 : wr.cell? ⟨b, o + j * 7 + 5, none⟩ = some (.string d) := hrj 5 _ rfl
        have c6 : wr.cell? ⟨b, o + j * 7 + 6, none⟩ = some (.slice ra rl rcap) := hrj 6 _ rfl
        clear hrj
        simp only [frA] at hSO hAL hWR
        have i1 : (0 : Int) ≤ (j : Int) := by omega
        have i2 : (j : Int) < (n : Int) := by omega
        have hbox : Hid ((wr.alloc (.cells #[.int .i64 k, .int .i64 s, .int .u64 ofs, .int .u64 cd, .bool fin, .string d, .slice ra rl rcap] 46)).heap[wr.heap.size]? = some (.cells #[.int .i64 k, .int .i64 s, .int .u64 ofs, .int .u64 cd, .bool fin, .string d, .slice ra rl rcap] 46 (0, 0))) := hide (heap_alloc_new _ _)
        have hbk' := hide hbk
        replace hSO := hide hSO
        replace hAL := hide hAL
        replace hWR := hide hWR
        replace hpt := hide hpt
        replace hkd := hide hkd
        replace hnk := hide hnk
        replace hall := hide hall
        replace Gj := hide Gj
        replace gj := hide gj
        replace hf := hide hf
        replace hbj := hide hbj
        replace hwl := hide hwl
        replace hel := hide hel
        replace hbf := hide hbf
        replace hwr := hide hwr
        replace h1 := hide h1
        replace h := hide h
        have hif := hide info_fr
        have his := hide info_sh
        obtain ⟨WB, hWB⟩ : ∃ W, W = wr.alloc (.cells #[.int .i64 k, .int .i64 s, .int .u64 ofs, .int .u64 cd, .bool fin, .string d, .slice ra rl rcap] 46) := ⟨_, rfl⟩
        have gWB : Hid (wr.grownBy WB none) := hide (by rw [hWB]; exact World.grownBy_alloc _ _ _)
        have hszB : WB.heap.size = wr.heap.size + 1 := by rw [hWB]; simp
        rw [← hWB] at hbox
        go_wp2_with fail
        rw [← hWB]
        replace hWB := hide hWB
        clear c0 c1 c2 c3 c4 c5 c6
        refine (unhide hSO WB (gb_trans (unhide gj) (unhide gWB))).mono ?_
        rintro e w3 ⟨⟨i, hi, hk, hq, rfl⟩ | ⟨hno, rfl⟩, g3⟩
        · have hp := fun hs => unhide hpt hs i hi hk hq
          have hk16 := unhide hkd i hi hk
          generalize shAt L i = S at *
          obtain ⟨K, FN, TT, PA, PN⟩ := S
          simp only at hk hq hp hk16
          obtain ⟨W4, hW4⟩ : ∃ W, W = w3.alloc (.cells #[.int .i64 K, .bool FN, .int .u8 TT, .slice PA PN PN] 94) := ⟨_, rfl⟩
          have g4 : w3.grownBy W4 none := by rw [hW4]; exact World.grownBy_alloc _ _ _
          have hsh : W4.heap[w3.heap.size]? = some (.cells #[.int .i64 K, .bool FN, .int .u8 TT, .slice PA PN PN] 94 (0, 0)) := by rw [hW4]; exact heap_alloc_new _ _
          have hsz4 : W4.heap.size = w3.heap.size + 1 := by rw [hW4]; simp
          have gB4 := gb_trans g3 g4
          have hb4 := (gB4.block wr.heap.size (by omega) (by simp)).trans (unhide hbox)
          have g14 := gb_trans (gb_trans (unhide gj) (unhide gWB)) gB4
          obtain ⟨d0, d1, d2, d3, d4, d5, d6⟩ := cells7 hb4
          rw [hW4] at d0 d1 d2 d3 d4 d5 d6
          have hs3 := g3.size
          replace hp := hide hp
          replace hk16 := hide hk16
          replace hk := hide hk
          replace hq := hide hq
          replace hsh := hide hsh
          replace hb4 := hide hb4
          go_wp2_with fail
          rw [← hW4]
          replace hW4 := hide hW4
          clear d0 d1 d2 d3 d4 d5 d6
          refine (unhide hAL W4 g14).mono ?_
          rintro e w5 ⟨⟨bo, rfl, hbo⟩, g5⟩
          have hsh5 := hide ((g5.block w3.heap.size (by omega) (by simp)).trans (unhide hsh))
          have hb5 := hide ((g5.block wr.heap.size (by omega) (by simp)).trans (unhide hb4))
          replace hbo := hide hbo
          cases bo
          · go_wp2_with fail
            go_ret2
            refine ⟨.inr ⟨fun hk => ?_, rfl⟩, gb_trans g1 (gb_trans g14 g5)⟩
            have h8 := hk.2 j (by have := unhide hn; omega)
            rw [← unhide hf] at h8
            have := (unhide hbo).2 ⟨h8.1, h8.2.1⟩
            cases this
          · have hsd : soundP ⟨k, s, ofs, cd, fin, d, rg⟩ := ⟨((unhide hbo).1 rfl).1, ((unhide hbo).1 rfl).2, unhide hk16⟩
            obtain ⟨chs, hP, hwt, ht8⟩ := unhide hp hsd
            have hC := unhide hWR chs K FN TT (.slice PA PN PN) ht8 hP w5 w1.heap.size a' n' c' (encL (fs.take j)) (gb_trans g14 g5) (Nat.le_refl _) (gb_trans g14 g5).size ((unhide Gj).still (gb_trans (unhide gWB) (gb_trans gB4 g5))).own (by
              have q1 := unhide hbj
              have q2 := unhide hwl
              have q3 := unhide hel
              have q4 := unhide hbf
              rw [hwt, List.length_cons] at q2
              try dsimp only at q4
              try dsimp only
              have q5 := unhide hbk'
              omega)
            replace hC := hide hC
            replace hwt := hide hwt
            replace hsd := hide hsd
            replace hP := hide hP
            go_wp2_with (first
              | (refine wpList_load_row (by rfl) 94 _ (by rfl) w3.heap.size (by rfl) 94 _ (0, 0) _ (unhide hsh5) Tryd.underlying94 (by rfl) (unhide his) ?_)
              | (refine wpList_load_row (by rfl) 46 _ (by rfl) wr.heap.size (by rfl) 46 _ (0, 0) _ (unhide hb5) Tryd.underlying46 (by rfl) (unhide hif) ?_))
            refine (unhide hC).mono ?_
            rintro e w6 ⟨a6, n6, c6, rfl, G6⟩
            go_wp2_with fail
            go_roundw
            case rel =>
              refine ⟨j + 1, a6, n6, c6, by omega, by simp, rfl, ?_, fun i hi => ?_⟩
              · rw [unhide hwr, unhide hwt]
                exact ((unhide Gj).still (gb_trans (unhide gWB) (gb_trans gB4 g5))).trans G6
              · rcases Nat.lt_succ_iff_lt_or_eq.1 hi with h9 | rfl
                · exact unhide hall i h9
                · rw [← unhide hf]; exact unhide hsd
            case measure => simp [intOf]; omega
        · have hno2 := hide (unhide hnk hno)
          clear hno
          go_wp2_with fail
          go_ret2
          refine ⟨.inr ⟨fun hk => ?_, rfl⟩, gb_trans g1 (gb_trans (gb_trans (unhide gj) (unhide gWB)) (gb_alloc g3 _))⟩
          have h8 := hk.2 j (by have := unhide hn; omega)
          rw [← unhide hf] at h8
          exact unhide hno2 h8.2.2
      · obtain rfl : j = n := by omega
        go_wp2_with fail
        go_ret2
        refine ⟨.inl ⟨⟨by have := unhide hn; omega, fun i hi => hall i (by have := unhide hn; omega)⟩, a', n', c', rfl, ?_⟩, gb_trans g1 gj⟩
        rw [List.take_of_length_le (by have := unhide hn; omega)] at Gj
        exact Gj.own.lower' g1.size
end Go.Proofs.YtjnmokmchdfchaaDoor
