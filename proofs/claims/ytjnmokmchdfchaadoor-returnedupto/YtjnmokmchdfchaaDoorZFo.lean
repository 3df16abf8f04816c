import Derived.Test.YtjnmokmchdfchaaDoorZFd
namespace Go.Proofs.YtjnmokmchdfchaaDoor
open Go.RowKit
attribute [local go_sem ↓] Go.wp_at_zero Go.wp_at_succ

structure Sh where
  k : Int
  fin : Bool
  t : Int
  pa : Option Addr
  n : Nat
def shs (P2 P3 P4 P5 P6 : Nat) : List Sh :=
  [⟨1, false, 0, none, 0⟩, ⟨2, false, 1, none, 0⟩, ⟨3, false, 2, some ⟨P2, 0, none⟩, 1⟩, ⟨4, false, 4, some ⟨P3, 0, none⟩, 3⟩, ⟨5, false, 8, some ⟨P4, 0, none⟩, 3⟩, ⟨5, true, 9, some ⟨P5, 0, none⟩, 3⟩, ⟨6, false, 28, some ⟨P6, 0, none⟩, 1⟩]
def shAt (l : List Sh) (j : Nat) : Sh := l.getD j ⟨0, false, 0, none, 0⟩
theorem lt7 {j : Nat} (h : j < 7) : j = 0 ∨ j = 1 ∨ j = 2 ∨ j = 3 ∨ j = 4 ∨ j = 5 ∨ j = 6 := by omega
theorem Tab.at {W : World} {T P2 P3 P4 P5 P6 Bo Bc : Nat} (h : Tab W T P2 P3 P4 P5 P6 Bo Bc) (j : Nat) (hj : j < 7) :
    W.cell? ⟨T, j * 4, none⟩ = some (.int .i64 (shAt (shs P2 P3 P4 P5 P6) j).k) ∧ W.cell? ⟨T, j * 4 + 1, none⟩ = some (.bool (shAt (shs P2 P3 P4 P5 P6) j).fin) ∧ W.cell? ⟨T, j * 4 + 2, none⟩ = some (.int .u8 (shAt (shs P2 P3 P4 P5 P6) j).t) ∧ W.cell? ⟨T, j * 4 + 3, none⟩ = some (.slice (shAt (shs P2 P3 P4 P5 P6) j).pa (shAt (shs P2 P3 P4 P5 P6) j).n (shAt (shs P2 P3 P4 P5 P6) j).n) := by
  have hc := fun (i : Nat) (v : Value) (e : (tabCells P2 P3 P4 P5 P6)[i]? = some v) => h.tab i v e
  simp only [Nat.zero_add] at hc
  rcases lt7 hj with rfl | rfl | rfl | rfl | rfl | rfl | rfl <;> exact ⟨hc _ _ rfl, hc _ _ rfl, hc _ _ rfl, hc _ _ rfl⟩
theorem cells4 {w : World} {b : Nat} {t : TypeId} {v0 v1 v2 v3 : Value} (h : w.heap[b]? = some (.cells #[v0, v1, v2, v3] t (0, 0))) : w.cell? ⟨b, 0, none⟩ = some v0 ∧ w.cell? ⟨b, 1, none⟩ = some v1 ∧ w.cell? ⟨b, 2, none⟩ = some v2 ∧ w.cell? ⟨b, 3, none⟩ = some v3 ∧ ∀ o, w.frozen? ⟨b, o, none⟩ = false := by
  simp [World.cell?, World.frozen?, h]
set_option maxRecDepth 100000 in
set_option maxHeartbeats 2000000 in
theorem shapeOf_any (w : World) (T P2 P3 P4 P5 P6 Bo Bc : Nat) (hT : Tab w T P2 P3 P4 P5 P6 Bo Bc) (f : Fr) (rv : Value) :
    Calls Tryd.prog 55 #[.slice (some ⟨T, 0, none⟩) 7 7, .agg (frA f rv)] w fun e w' =>
      ((∃ j, j < 7 ∧ (shAt (shs P2 P3 P4 P5 P6) j).k = f.kind ∧ (shAt (shs P2 P3 P4 P5 P6) j).fin = (f.fin && decide (f.kind = 5)) ∧ e = .returned (.tuple #[.agg #[.int .i64 (shAt (shs P2 P3 P4 P5 P6) j).k, .bool (shAt (shs P2 P3 P4 P5 P6) j).fin, .int .u8 (shAt (shs P2 P3 P4 P5 P6) j).t, .slice (shAt (shs P2 P3 P4 P5 P6) j).pa (shAt (shs P2 P3 P4 P5 P6) j).n (shAt (shs P2 P3 P4 P5 P6) j).n], .bool true])) ∨
        ((∀ j, j < 7 → ¬ ((shAt (shs P2 P3 P4 P5 P6) j).k = f.kind ∧ (shAt (shs P2 P3 P4 P5 P6) j).fin = (f.fin && decide (f.kind = 5)))) ∧ e = .returned (.tuple #[.agg #[.int .i64 0, .bool false, .int .u8 0, .slice none 0 0], .bool false]))) ∧ w.grownBy w' none := by
  have hat := fun (W : World) (g : w.grownBy W none) => (hT.gb0 g).at
  generalize shs P2 P3 P4 P5 P6 = L at *
  clear hT
  obtain ⟨k, s, o, cd, fin, d, rg⟩ := f
  obtain ⟨R, hR⟩ : ∃ R : Ending → World → Prop, R = fun e w' => ((∃ j, j < 7 ∧ (shAt L j).k = k ∧ (shAt L j).fin = (fin && decide (k = 5)) ∧ e = .returned (.tuple #[.agg #[.int .i64 (shAt L j).k, .bool (shAt L j).fin, .int .u8 (shAt L j).t, .slice (shAt L j).pa (shAt L j).n (shAt L j).n], .bool true])) ∨
        ((∀ j, j < 7 → ¬ ((shAt L j).k = k ∧ (shAt L j).fin = (fin && decide (k = 5)))) ∧ e = .returned (.tuple #[.agg #[.int .i64 0, .bool false, .int .u8 0, .slice none 0 0], .bool false]))) ∧ w.grownBy w' none := ⟨_, rfl⟩
  show Calls Tryd.prog 55 #[.slice (some ⟨T, 0, none⟩) 7 7, .agg #[.int .i64 k, .int .i64 s, .int .u64 o, .int .u64 cd, .bool fin, .string d, rv]] w (fun e w' => ((∃ j, j < 7 ∧ (shAt L j).k = k ∧ (shAt L j).fin = (fin && decide (k = 5)) ∧ e = .returned (.tuple #[.agg #[.int .i64 (shAt L j).k, .bool (shAt L j).fin, .int .u8 (shAt L j).t, .slice (shAt L j).pa (shAt L j).n (shAt L j).n], .bool true])) ∨
        ((∀ j, j < 7 → ¬ ((shAt L j).k = k ∧ (shAt L j).fin = (fin && decide (k = 5)))) ∧ e = .returned (.tuple #[.agg #[.int .i64 0, .bool false, .int .u8 0, .slice none 0 0], .bool false]))) ∧ w.grownBy w' none)
  rw [← hR]
  obtain ⟨q, hq⟩ : ∃ q : Bool, q = (fin && decide (k = 5)) := ⟨_, rfl⟩
  rw [← hq] at hR
  replace hR := hide hR
  replace hat := hide hat
  have hbx : ∀ W : World, (((w.alloc (.cells #[.int .i64 k, .int .i64 s, .int .u64 o, .int .u64 cd, .bool fin, .string d, rv] 46)).alloc (.cells #[.int .i64 0, .bool false, .int .u8 0, .slice none 0 0] 94))).grownBy W none → W.heap[w.heap.size]? = some (.cells #[.int .i64 k, .int .i64 s, .int .u64 o, .int .u64 cd, .bool fin, .string d, rv] 46 (0, 0)) ∧ W.heap[w.heap.size + 1]? = some (.cells #[.int .i64 0, .bool false, .int .u8 0, .slice none 0 0] 94 (0, 0)) ∧ w.grownBy W none := fun W g =>
    ⟨(g.block _ (by simp; omega) (by simp)).trans (by rw [Below.heap_alloc _ _ _ (by simp)]; exact heap_alloc_new _ _), (g.block _ (by simp) (by simp)).trans (by rw [← World.size_alloc w (.cells #[.int .i64 k, .int .i64 s, .int .u64 o, .int .u64 cd, .bool fin, .string d, rv] 46)]; exact heap_alloc_new _ _), gb_trans (gb_alloc (World.grownBy_alloc _ _ _) _) g⟩
  replace hbx := hide hbx
  obtain ⟨W0, hW0⟩ : ∃ W0, W0 = (w.alloc (.cells #[.int .i64 k, .int .i64 s, .int .u64 o, .int .u64 cd, .bool fin, .string d, rv] 46)).alloc (.cells #[.int .i64 0, .bool false, .int .u8 0, .slice none 0 0] 94) := ⟨_, rfl⟩
  rw [← hW0] at hbx
  obtain ⟨NM, hNM⟩ : ∃ NM : Nat → Prop, NM = fun j => ¬ ((shAt L j).k = k ∧ (shAt L j).fin = q) := ⟨_, rfl⟩
  have hcase : (fin = false ∧ q = false) ∨ (fin = true ∧ (k == 5) = true ∧ q = true) ∨ (fin = true ∧ (k == 5) = false ∧ q = false) := by
    rw [hq]
    cases fin
    · simp
    · by_cases h5 : k = 5 <;> simp [h5]
  clear hq
  replace hNM := hide hNM
  rcases hcase with ⟨rfl, rfl⟩ | ⟨rfl, e5, rfl⟩ | ⟨rfl, e5, rfl⟩
  all_goals
    go_enter Tryd.func55, Tryd.ntmps55
    go_wp2_with fail
    try clear e5
    rw [← hW0]
    replace hW0 := hide hW0
    go_loopw [18] (fun i wr => ∃ j : Nat, j ≤ 7 ∧ i = .int .i64 (j : Int) ∧ (∀ i, i < j → NM i) ∧ W0.grownBy wr none) (fun i _ => 7 - (intOf i).toNat)
    case atStart => exact ⟨0, by omega, rfl, fun i hi => by omega, World.grownBy.refl _ _⟩
    case round =>
      obtain ⟨j, hj, rfl, hall, g1⟩ := hrel
      obtain ⟨b1, b2, gw⟩ := unhide hbx wr g1
      by_cases hlt : j < 7
      · obtain ⟨c1, c2, c3, c4⟩ := unhide hat wr gw j hlt
        obtain ⟨S, hS⟩ : ∃ S, S = shAt L j := ⟨_, rfl⟩
        rw [← hS] at c1 c2 c3 c4
        obtain ⟨K, FN, TT, PA, PN⟩ := S
        simp only at c1 c2 c3 c4
        have hstep : Hid (¬ (K = k ∧ FN = _) → ∀ i, i < j + 1 → NM i) := hide (fun hn i hi => by
          rcases Nat.lt_succ_iff_lt_or_eq.1 hi with h1 | rfl
          · exact hall i h1
          · rw [unhide hNM]; simp only [← hS]; exact hn)
        replace hall := hide hall
        replace hS := hide hS
        have i1 : (0 : Int) ≤ (j : Int) := by omega
        have i2 : (j : Int) < 7 := by omega
        have d0 : (wr.alloc (.cells #[.int .i64 K, .bool FN, .int .u8 TT, .slice PA PN PN] 94)).cell? ⟨w.heap.size, 0, none⟩ = some (.int .i64 k) := by
          rw [World.cell?_alloc_past _ _ _ (Array.getElem?_eq_some_iff.1 b1).1]; simp [World.cell?, b1]
        replace b1 := hide b1
        by_cases hK : K = k
        · have eK : (K == k) = true := by simp [hK]
          replace hK := hide hK
          have hb2 : (wr.alloc (.cells #[.int .i64 K, .bool FN, .int .u8 TT, .slice PA PN PN] 94)).heap[w.heap.size + 1]? = some (.cells #[.int .i64 0, .bool false, .int .u8 0, .slice none 0 0] 94 (0, 0)) := (Below.heap_alloc _ _ _ (Array.getElem?_eq_some_iff.1 b2).1).trans b2
          have z0 := (cells4 hb2).1
          have z1 := (cells4 hb2).2.1
          have z2 := (cells4 hb2).2.2.1
          have z3 := (cells4 hb2).2.2.2.1
          have zf := (cells4 hb2).2.2.2.2
          replace hb2 := hide hb2
          replace b2 := hide b2
          cases FN
          all_goals
            first
            | (go_wp2_with fail
               go_roundw
               case rel => exact ⟨j + 1, by omega, by simp, unhide hstep (fun h => by have := h.2; revert this; decide), gb_alloc g1 _⟩
               case measure => simp [intOf]; omega)
            | (go_wp2_with fail
               first
                 | (refine bodyPost_ret (v := .tuple #[.agg #[.int .i64 K, .bool false, .int .u8 TT, .slice PA PN PN], .bool true]) ?_ rfl ?_
                    · simp [results, Tryd.results55, go_sem, z0, z1, z2, z3]
                    · rw [unhide hR]
                      exact ⟨.inl ⟨j, hlt, by rw [← unhide hS]; exact unhide hK, by rw [← unhide hS], by rw [← unhide hS]⟩, gb_set (gb_set (gb_set (gb_set (gb_alloc gw _) _ _ (.inl (Nat.le_succ _))) _ _ (.inl (Nat.le_succ _))) _ _ (.inl (Nat.le_succ _))) _ _ (.inl (Nat.le_succ _))⟩)
                 | (refine bodyPost_ret (v := .tuple #[.agg #[.int .i64 K, .bool true, .int .u8 TT, .slice PA PN PN], .bool true]) ?_ rfl ?_
                    · simp [results, Tryd.results55, go_sem, z0, z1, z2, z3]
                    · rw [unhide hR]
                      exact ⟨.inl ⟨j, hlt, by rw [← unhide hS]; exact unhide hK, by rw [← unhide hS], by rw [← unhide hS]⟩, gb_set (gb_set (gb_set (gb_set (gb_alloc gw _) _ _ (.inl (Nat.le_succ _))) _ _ (.inl (Nat.le_succ _))) _ _ (.inl (Nat.le_succ _))) _ _ (.inl (Nat.le_succ _))⟩))
        · have eK : (K == k) = false := by simp [hK]
          replace b2 := hide b2
          go_wp2_with fail
          go_roundw
          case rel => exact ⟨j + 1, by omega, by simp, unhide hstep (fun h => hK h.1), gb_alloc g1 _⟩
          case measure => simp [intOf]; omega
      · obtain rfl : j = 7 := by omega
        have z0 := (cells4 b2).1
        have z1 := (cells4 b2).2.1
        have z2 := (cells4 b2).2.2.1
        have z3 := (cells4 b2).2.2.2.1
        have zf := (cells4 b2).2.2.2.2
        replace b1 := hide b1
        replace b2 := hide b2
        replace hall := hide hall
        go_wp2_with fail
        refine bodyPost_ret (v := .tuple #[.agg #[.int .i64 0, .bool false, .int .u8 0, .slice none 0 0], .bool false]) ?_ rfl ?_
        · simp [results, Tryd.results55, go_sem, z0, z1, z2, z3]
        · rw [unhide hR]
          refine ⟨.inr ⟨fun i hi => ?_, rfl⟩, gb_set (gb_set (gb_set (gb_set gw _ _ (.inl (Nat.le_succ _))) _ _ (.inl (Nat.le_succ _))) _ _ (.inl (Nat.le_succ _))) _ _ (.inl (Nat.le_succ _))⟩
          have := unhide hall i hi
          rw [unhide hNM] at this
          exact this
end Go.Proofs.YtjnmokmchdfchaaDoor
namespace Go.Proofs.YtjnmokmchdfchaaDoor
open Go.RowKit

/-! ### slices of frames -/
def frAt (l : List Fr) (i : Nat) : Fr := l.getD i (frZ 0 false)
def FSv (w : World) (a : Option Addr) (n cap : Nat) (fs : List Fr) : Prop :=
  n = fs.length ∧ n ≤ cap ∧ cap ≤ maxLen ∧ ((a = none ∧ cap = 0) ∨ ∃ b o, a = some ⟨b, o, none⟩ ∧ ∀ i, i < fs.length → ∃ rv, FrV w (frAt fs i) rv ∧ w.rangeAt b (o + i * 7) (fcs (frAt fs i) rv))
theorem FSv.gb0 {w w' : World} {a : Option Addr} {n cap : Nat} {fs : List Fr} (h : FSv w a n cap fs) (g : w.grownBy w' none) : FSv w' a n cap fs := by
  obtain ⟨h1, h2, h3, h4⟩ := h
  refine ⟨h1, h2, h3, ?_⟩
  rcases h4 with h4 | ⟨b, o, rfl, h4⟩
  · exact .inl h4
  · refine .inr ⟨b, o, rfl, fun i hi => ?_⟩
    obtain ⟨rv, h5, h6⟩ := h4 i hi
    exact ⟨rv, h5.gb0 g, range_gb h6 g (by simp)⟩
theorem FSv.at {w : World} {b o n cap : Nat} {fs : List Fr} (h : FSv w (some ⟨b, o, none⟩) n cap fs) (i : Nat) (hi : i < fs.length) : ∃ rv, FrV w (frAt fs i) rv ∧ w.rangeAt b (o + i * 7) (fcs (frAt fs i) rv) := by
  obtain ⟨-, -, -, ⟨h, -⟩ | ⟨b', o', e, h⟩⟩ := h
  · cases h
  · cases e; exact h i hi
theorem frAt_eq {l : List Fr} {j : Nat} (h : j < l.length) : frAt l j = l[j] := by unfold frAt; rw [List.getD, List.getElem?_eq_getElem h]; rfl
theorem bulkL_append (l r : List Fr) : bulkL (l ++ r) = bulkL l + bulkL r := by
  induction l with
  | nil => simp [bulkL]
  | cons f l ih => simp only [List.cons_append, bulkL, ih]; omega
theorem bulk_at {l : List Fr} {j : Nat} (h : j < l.length) : bulkL (l.take j) + bulkF (frAt l j) ≤ bulkL l := by
  have h1 := congrArg bulkL (List.take_append_drop (j + 1) l)
  rw [bulkL_append, List.take_succ_eq_append_getElem h, bulkL_append] at h1
  simp only [bulkL] at h1
  rw [frAt_eq h]
  omega
theorem bulk_take (l : List Fr) (j : Nat) : bulkL (l.take j) ≤ bulkL l := by
  have h1 := congrArg bulkL (List.take_append_drop j l)
  rw [bulkL_append] at h1
  omega

/-! ### which shape a frame has -/
theorem no_shape {P2 P3 P4 P5 P6 : Nat} {f : Fr} (h : ∀ j, j < 7 → ¬ ((shAt (shs P2 P3 P4 P5 P6) j).k = f.kind ∧ (shAt (shs P2 P3 P4 P5 P6) j).fin = (f.fin && decide (f.kind = 5)))) : ¬ (1 ≤ f.kind ∧ f.kind ≤ 6) := by
  intro hk
  have e : f.kind = 1 ∨ f.kind = 2 ∨ f.kind = 3 ∨ f.kind = 4 ∨ f.kind = 5 ∨ f.kind = 6 := by omega
  rcases e with e | e | e | e | e | e
  · exact h 0 (by omega) (by rw [e]; simp [shAt, shs])
  · exact h 1 (by omega) (by rw [e]; simp [shAt, shs])
  · exact h 2 (by omega) (by rw [e]; simp [shAt, shs])
  · exact h 3 (by omega) (by rw [e]; simp [shAt, shs])
  · cases hf : f.fin
    · exact h 4 (by omega) (by rw [e, hf]; simp [shAt, shs])
    · exact h 5 (by omega) (by rw [e, hf]; simp [shAt, shs])
  · exact h 6 (by omega) (by rw [e]; simp [shAt, shs])
theorem some_shape {P2 P3 P4 P5 P6 : Nat} {f : Fr} {j : Nat} (hj : j < 7) (hk : (shAt (shs P2 P3 P4 P5 P6) j).k = f.kind) : 1 ≤ f.kind ∧ f.kind ≤ 6 := by
  rw [← hk]
  rcases lt7 hj with rfl | rfl | rfl | rfl | rfl | rfl | rfl <;> simp [shAt, shs]
theorem shape_parts {W : World} {T P2 P3 P4 P5 P6 Bo Bc : Nat} (h : Tab W T P2 P3 P4 P5 P6 Bo Bc) {f : Fr} {rv : Value} (hf : FrV W f rv) (hs : soundP f) {j : Nat} (hj : j < 7) (hk : (shAt (shs P2 P3 P4 P5 P6) j).k = f.kind) (hq : (shAt (shs P2 P3 P4 P5 P6) j).fin = (f.fin && decide (f.kind = 5))) :
    ∃ chs, Parts W f rv (.slice (shAt (shs P2 P3 P4 P5 P6) j).pa (shAt (shs P2 P3 P4 P5 P6) j).n (shAt (shs P2 P3 P4 P5 P6) j).n) chs ∧ writtenL f = (shAt (shs P2 P3 P4 P5 P6) j).t :: joinL chs ∧ W8 (shAt (shs P2 P3 P4 P5 P6) j).t := by
  obtain ⟨⟨b1, b2, b3, b4⟩, ⟨r1, r2⟩, -, -⟩ := hs
  have vo : V62 f.offset := ⟨hf.1.2.2.1.1, b1⟩
  have vc : V62 f.code := ⟨hf.1.2.2.2.1.1, b2⟩
  rcases lt7 hj with rfl | rfl | rfl | rfl | rfl | rfl | rfl
  · have k : f.kind = 1 := hk.symm
    exact ⟨[], ⟨none, 0, rfl, by simp, by simp, .inl rfl⟩, by simp [writtenL, k, joinL, shAt, shs], by simp [W8, shAt, shs]⟩
  · have k : f.kind = 2 := hk.symm
    exact ⟨[], ⟨none, 0, rfl, by simp, by simp, .inl rfl⟩, by simp [writtenL, k, joinL, shAt, shs], by simp [W8, shAt, shs]⟩
  · have k : f.kind = 3 := hk.symm
    refine ⟨[rangesL f.ranges], ⟨some ⟨P2, 0, none⟩, 1, rfl, by simp, by simp, .inr ⟨P2, rfl, fun i hi => ?_⟩⟩, by simp [writtenL, k, joinL, shAt, shs], by simp [W8, shAt, shs]⟩
    obtain rfl : i = 0 := by simpa using hi
    exact ⟨rW, _, _, h.p2 0 _ rfl, h.p2 1 _ rfl, wr_ranges W f rv hf (r1 k)⟩
  · have k : f.kind = 4 := hk.symm
    refine ⟨[varL f.stream, varL f.code, varL f.offset], ⟨some ⟨P3, 0, none⟩, 3, rfl, by simp, by simp, .inr ⟨P3, rfl, fun i hi => ?_⟩⟩, by simp [writtenL, k, joinL, shAt, shs], by simp [W8, shAt, shs]⟩
    have e : i = 0 ∨ i = 1 ∨ i = 2 := by simp at hi; omega
    rcases e with rfl | rfl | rfl
    · exact ⟨sW, _, _, h.p3 0 _ rfl, h.p3 1 _ rfl, wr_stream W f rv b3 b4⟩
    · exact ⟨nW Bc, _, _, h.p3 2 _ rfl, h.p3 3 _ rfl, wr_code W f rv Bc h.bc vc⟩
    · exact ⟨nW Bo, _, _, h.p3 4 _ rfl, h.p3 5 _ rfl, wr_off W f rv Bo h.bo vo⟩
  · have k : f.kind = 5 := hk.symm
    have q : f.fin = false := by rw [k] at hq; simpa [shAt, shs] using hq.symm
    refine ⟨[varL f.stream, varL f.offset, varL f.data.size ++ bl f.data], ⟨some ⟨P4, 0, none⟩, 3, rfl, by simp, by simp, .inr ⟨P4, rfl, fun i hi => ?_⟩⟩, by simp [writtenL, k, q, joinL, shAt, shs], by simp [W8, shAt, shs]⟩
    have e : i = 0 ∨ i = 1 ∨ i = 2 := by simp at hi; omega
    rcases e with rfl | rfl | rfl
    · exact ⟨sW, _, _, h.p4 0 _ rfl, h.p4 1 _ rfl, wr_stream W f rv b3 b4⟩
    · exact ⟨nW Bo, _, _, h.p4 2 _ rfl, h.p4 3 _ rfl, wr_off W f rv Bo h.bo vo⟩
    · exact ⟨bW, _, _, h.p4 4 _ rfl, h.p4 5 _ rfl, wr_bytes W f rv⟩
  · have k : f.kind = 5 := hk.symm
    have q : f.fin = true := by rw [k] at hq; simpa [shAt, shs] using hq.symm
    refine ⟨[varL f.stream, varL f.offset, varL f.data.size ++ bl f.data], ⟨some ⟨P5, 0, none⟩, 3, rfl, by simp, by simp, .inr ⟨P5, rfl, fun i hi => ?_⟩⟩, by simp [writtenL, k, q, joinL, shAt, shs], by simp [W8, shAt, shs]⟩
    have e : i = 0 ∨ i = 1 ∨ i = 2 := by simp at hi; omega
    rcases e with rfl | rfl | rfl
    · exact ⟨sW, _, _, h.p5 0 _ rfl, h.p5 1 _ rfl, wr_stream W f rv b3 b4⟩
    · exact ⟨nW Bo, _, _, h.p5 2 _ rfl, h.p5 3 _ rfl, wr_off W f rv Bo h.bo vo⟩
    · exact ⟨bW, _, _, h.p5 4 _ rfl, h.p5 5 _ rfl, wr_bytes W f rv⟩
  · have k : f.kind = 6 := hk.symm
    refine ⟨[varL f.code], ⟨some ⟨P6, 0, none⟩, 1, rfl, by simp, by simp, .inr ⟨P6, rfl, fun i hi => ?_⟩⟩, by simp [writtenL, k, joinL, shAt, shs], by simp [W8, shAt, shs]⟩
    obtain rfl : i = 0 := by simpa using hi
    exact ⟨nW Bc, _, _, h.p6 0 _ rfl, h.p6 1 _ rfl, wr_code W f rv Bc h.bc vc⟩
end Go.Proofs.YtjnmokmchdfchaaDoor
