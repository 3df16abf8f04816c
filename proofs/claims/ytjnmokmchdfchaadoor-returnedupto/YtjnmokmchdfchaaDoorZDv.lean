import Derived.Test.YtjnmokmchdfchaaDoorZFo
import Derived.Test.YtjnmokmchdfchaaDoorZDt
namespace Go.Proofs.YtjnmokmchdfchaaDoor
open Go.RowKit
attribute [local go_sem ↓] Go.wp_at_zero Go.wp_at_succ

def ShA (w : World) (L : List Sh) (t : Int) (e : Ending) (w' : World) : Prop :=
  ((∃ j, j < 7 ∧ (shAt L j).t = t ∧ e = .returned (.tuple #[.agg #[.int .i64 (shAt L j).k, .bool (shAt L j).fin, .int .u8 (shAt L j).t, .slice (shAt L j).pa (shAt L j).n (shAt L j).n], .bool true])) ∨
    ((∀ j, j < 7 → ¬ (shAt L j).t = t) ∧ e = .returned (.tuple #[.agg #[.int .i64 0, .bool false, .int .u8 0, .slice none 0 0], .bool false]))) ∧ w.grownBy w' none
set_option maxRecDepth 100000 in
set_option maxHeartbeats 2000000 in
theorem shapeAt_any (w : World) (T P2 P3 P4 P5 P6 Bo Bc : Nat) (hT : Tab w T P2 P3 P4 P5 P6 Bo Bc) (t : Int) :
    Calls Tryd.prog 81 #[.slice (some ⟨T, 0, none⟩) 7 7, .int .u8 t] w (ShA w (shs P2 P3 P4 P5 P6) t) := by
  have hat := fun (W : World) (g : w.grownBy W none) => (hT.gb0 g).at
  generalize shs P2 P3 P4 P5 P6 = L at *
  clear hT
  obtain ⟨W0, hW0⟩ : ∃ W0, W0 = w.alloc (.cells #[.int .i64 0, .bool false, .int .u8 0, .slice none 0 0] 94) := ⟨_, rfl⟩
  have hbx : ∀ W : World, W0.grownBy W none → W.heap[w.heap.size]? = some (.cells #[.int .i64 0, .bool false, .int .u8 0, .slice none 0 0] 94 (0, 0)) ∧ w.grownBy W none := fun W g =>
    ⟨(g.block _ (by rw [hW0]; simp) (by simp)).trans (by rw [hW0]; exact heap_alloc_new _ _), gb_trans (by rw [hW0]; exact World.grownBy_alloc _ _ _) g⟩
  replace hbx := hide hbx
  replace hat := hide hat
  go_enter Tryd.func81, Tryd.ntmps81
  go_wp2_with fail
  rw [← hW0]
  replace hW0 := hide hW0
  go_loopw [10] (fun i wr => ∃ j : Nat, j ≤ 7 ∧ i = .int .i64 (j : Int) ∧ (∀ i, i < j → ¬ (shAt L i).t = t) ∧ W0.grownBy wr none) (fun i _ => 7 - (intOf i).toNat)
  case atStart => exact ⟨0, by omega, rfl, fun i hi => by omega, World.grownBy.refl _ _⟩
  case round =>
    obtain ⟨j, hj, rfl, hall, g1⟩ := hrel
    obtain ⟨b2, gw⟩ := unhide hbx wr g1
    by_cases hlt : j < 7
    · obtain ⟨c1, c2, c3, c4⟩ := unhide hat wr gw j hlt
      obtain ⟨S, hS⟩ : ∃ S, S = shAt L j := ⟨_, rfl⟩
      rw [← hS] at c1 c2 c3 c4
      obtain ⟨K, FN, TT, PA, PN⟩ := S
      simp only at c1 c2 c3 c4
      have hstep : Hid (¬ TT = t → ∀ i, i < j + 1 → ¬ (shAt L i).t = t) := hide (fun hn i hi => by
        rcases Nat.lt_succ_iff_lt_or_eq.1 hi with h1 | rfl
        · exact hall i h1
        · rw [← hS]; exact hn)
      replace hall := hide hall
      replace hS := hide hS
      have i1 : (0 : Int) ≤ (j : Int) := by omega
      have i2 : (j : Int) < 7 := by omega
      by_cases hK : TT = t
      · have eK : (TT == t) = true := by simp [hK]
        replace hK := hide hK
        have hb2 : (wr.alloc (.cells #[.int .i64 K, .bool FN, .int .u8 TT, .slice PA PN PN] 94)).heap[w.heap.size]? = some (.cells #[.int .i64 0, .bool false, .int .u8 0, .slice none 0 0] 94 (0, 0)) := (Below.heap_alloc _ _ _ (Array.getElem?_eq_some_iff.1 b2).1).trans b2
        have z0 := (cells4 hb2).1
        have z1 := (cells4 hb2).2.1
        have z2 := (cells4 hb2).2.2.1
        have z3 := (cells4 hb2).2.2.2.1
        have zf := (cells4 hb2).2.2.2.2
        replace hb2 := hide hb2
        replace b2 := hide b2
        go_wp2_with fail
        refine bodyPost_ret (v := .tuple #[.agg #[.int .i64 K, .bool FN, .int .u8 TT, .slice PA PN PN], .bool true]) ?_ rfl ?_
        · simp [results, Tryd.results81, go_sem, z0, z1, z2, z3]
        · exact ⟨.inl ⟨j, hlt, by rw [← unhide hS]; exact unhide hK, by rw [← unhide hS]⟩, gb_set (gb_set (gb_set (gb_set (gb_alloc gw _) _ _ (.inl (Nat.le_refl _))) _ _ (.inl (Nat.le_refl _))) _ _ (.inl (Nat.le_refl _))) _ _ (.inl (Nat.le_refl _))⟩
      · have eK : (TT == t) = false := by simp [hK]
        replace b2 := hide b2
        go_wp2_with fail
        go_roundw
        case rel => exact ⟨j + 1, by omega, by simp, unhide hstep hK, gb_alloc g1 _⟩
        case measure => simp [intOf]; omega
    · obtain rfl : j = 7 := by omega
      have z0 := (cells4 b2).1
      have z1 := (cells4 b2).2.1
      have z2 := (cells4 b2).2.2.1
      have z3 := (cells4 b2).2.2.2.1
      have zf := (cells4 b2).2.2.2.2
      replace b2 := hide b2
      replace hall := hide hall
      go_wp2_with fail
      refine bodyPost_ret (v := .tuple #[.agg #[.int .i64 0, .bool false, .int .u8 0, .slice none 0 0], .bool false]) ?_ rfl ?_
      · simp [results, Tryd.results81, go_sem, z0, z1, z2, z3]
      · exact ⟨.inr ⟨unhide hall, rfl⟩, gb_set (gb_set (gb_set (gb_set gw _ _ (.inl (Nat.le_refl _))) _ _ (.inl (Nat.le_refl _))) _ _ (.inl (Nat.le_refl _))) _ _ (.inl (Nat.le_refl _))⟩
end Go.Proofs.YtjnmokmchdfchaaDoor
namespace Go.Proofs.YtjnmokmchdfchaaDoor
open Go.RowKit
attribute [local go_sem ↓] Go.wp_at_zero Go.wp_at_succ

abbrev Stp := Fr → Nat → Option (Fr × Nat)
def chainR : List Stp → Fr → Nat → Option (Fr × Nat)
  | [], f, p => some (f, p)
  | s :: r, f, p => (s f p).bind fun x => chainR r x.1 x.2
/-- The steps of a shape. -/
def stepsOf (l : List Int) (j : Nat) : List Stp :=
  if j = 2 then [stRanges l] else if j = 3 then [stStream l, stCode l, stOff l] else if j = 4 ∨ j = 5 then [stStream l, stOff l, stData l] else if j = 6 then [stCode l] else []
theorem raw_chain (l : List Int) (P2 P3 P4 P5 P6 : Nat) (p : Nat) {j : Nat} (hj : j < 7) : rawR l (shAt (shs P2 P3 P4 P5 P6) j).t p = chainR (stepsOf l j) (frZ (shAt (shs P2 P3 P4 P5 P6) j).k (shAt (shs P2 P3 P4 P5 P6) j).fin) p := by
  rcases lt7 hj with rfl | rfl | rfl | rfl | rfl | rfl | rfl
  · simp [rawR, shAt, shs, stepsOf, chainR]
  · simp [rawR, shAt, shs, stepsOf, chainR]
  · show rawR l 2 p = (stRanges l (frZ 3 false) p).bind fun x => some (x.1, x.2)
    unfold rawR stRanges
    rw [if_neg (by decide), if_neg (by decide), if_pos rfl]
    cases rangesR l p <;> rfl
  · show rawR l 4 p = (stStream l (frZ 4 false) p).bind fun x => (stCode l x.1 x.2).bind fun x => (stOff l x.1 x.2).bind fun x => some (x.1, x.2)
    unfold rawR stStream stCode stOff
    rw [if_neg (by decide), if_neg (by decide), if_neg (by decide), if_pos rfl]
    cases streamR l p with
    | none => rfl
    | some x =>
      simp only [Option.bind_some]
      cases numR l x.2 with
      | none => rfl
      | some y =>
        simp only [Option.bind_some]
        cases numR l y.2 <;> rfl
  · show rawR l 8 p = (stStream l (frZ 5 false) p).bind fun x => (stOff l x.1 x.2).bind fun x => (stData l x.1 x.2).bind fun x => some (x.1, x.2)
    unfold rawR stStream stOff stData
    rw [if_neg (by decide), if_neg (by decide), if_neg (by decide), if_neg (by decide), if_pos (by decide)]
    cases streamR l p with
    | none => rfl
    | some x =>
      simp only [Option.bind_some]
      cases numR l x.2 with
      | none => rfl
      | some y =>
        simp only [Option.bind_some]
        cases textR l y.2 <;> rfl
  · show rawR l 9 p = (stStream l (frZ 5 true) p).bind fun x => (stOff l x.1 x.2).bind fun x => (stData l x.1 x.2).bind fun x => some (x.1, x.2)
    unfold rawR stStream stOff stData
    rw [if_neg (by decide), if_neg (by decide), if_neg (by decide), if_neg (by decide), if_pos (by decide)]
    cases streamR l p with
    | none => rfl
    | some x =>
      simp only [Option.bind_some]
      cases numR l x.2 with
      | none => rfl
      | some y =>
        simp only [Option.bind_some]
        cases textR l y.2 <;> rfl
  · show rawR l 28 p = (stCode l (frZ 6 false) p).bind fun x => some (x.1, x.2)
    unfold rawR stCode
    rw [if_neg (by decide), if_neg (by decide), if_neg (by decide), if_neg (by decide), if_neg (by decide), if_pos rfl]
    cases numR l p <;> rfl
theorem raw_none (l : List Int) {P2 P3 P4 P5 P6 : Nat} {t : Int} (p : Nat) (h : ∀ j, j < 7 → ¬ (shAt (shs P2 P3 P4 P5 P6) j).t = t) : rawR l t p = none := by
  have h0 := h 0 (by omega)
  have h1 := h 1 (by omega)
  have h2 := h 2 (by omega)
  have h3 := h 3 (by omega)
  have h4 := h 4 (by omega)
  have h5 := h 5 (by omega)
  have h6 := h 6 (by omega)
  simp only [shAt, shs, List.getD_cons_zero, List.getD_cons_succ] at h0 h1 h2 h3 h4 h5 h6
  unfold rawR
  rw [if_neg (fun e => h0 e.symm), if_neg (fun e => h1 e.symm), if_neg (fun e => h2 e.symm), if_neg (fun e => h3 e.symm), if_neg (fun e => e.elim (fun e => h4 e.symm) (fun e => h5 e.symm)), if_neg (fun e => h6 e.symm)]
theorem st_kind {l : List Int} {j i : Nat} {f f' : Fr} {p q : Nat} (hj : j < 7) (hi : i < (stepsOf l j).length) (h : (stepsOf l j)[i] f p = some (f', q)) : f'.kind = f.kind := by
  have hb : ∀ {α : Type} (o : Option (α × Nat)) (g : α × Nat → Fr × Nat), (∀ x, (g x).1.kind = f.kind) → (o.bind fun x => some (g x)) = some (f', q) → f'.kind = f.kind := by
    intro α o g hg e
    cases o with
    | none => cases e
    | some x => simp only [Option.bind_some, Option.some.injEq] at e; have := hg x; rw [e] at this; exact this
  rcases lt7 hj with rfl | rfl | rfl | rfl | rfl | rfl | rfl
  · simp [stepsOf] at hi
  · simp [stepsOf] at hi
  · have e : i = 0 := by simp [stepsOf] at hi; omega
    subst e
    exact hb _ _ (fun _ => rfl) h
  · have e : i = 0 ∨ i = 1 ∨ i = 2 := by simp [stepsOf] at hi; omega
    rcases e with rfl | rfl | rfl <;> exact hb _ _ (fun _ => rfl) h
  · have e : i = 0 ∨ i = 1 ∨ i = 2 := by simp [stepsOf] at hi; omega
    rcases e with rfl | rfl | rfl <;> exact hb _ _ (fun _ => rfl) h
  · have e : i = 0 ∨ i = 1 ∨ i = 2 := by simp [stepsOf] at hi; omega
    rcases e with rfl | rfl | rfl <;> exact hb _ _ (fun _ => rfl) h
  · have e : i = 0 := by simp [stepsOf] at hi; omega
    subst e
    exact hb _ _ (fun _ => rfl) h
/-- The table lies apart from the reader. -/
theorem Tab.ne {W : World} {T P2 P3 P4 P5 P6 Bo Bc : Nat} (h : Tab W T P2 P3 P4 P5 P6 Bo Bc) {X : Nat} {a : Option Addr} {n c : Nat} (hX : W.cell? ⟨X, 0, none⟩ = some (.slice a n c)) : T ≠ X ∧ P2 ≠ X ∧ P3 ≠ X ∧ P4 ≠ X ∧ P5 ≠ X ∧ P6 ≠ X ∧ Bo ≠ X ∧ Bc ≠ X := by
  have h1 := h.tab 0 _ rfl
  have h2 := h.p2 0 _ rfl
  have h3 := h.p3 0 _ rfl
  have h4 := h.p4 0 _ rfl
  have h5 := h.p5 0 _ rfl
  have h6 := h.p6 0 _ rfl
  have h7 := h.bo
  have h8 := h.bc
  rw [Nat.zero_add] at h1 h2 h3 h4 h5 h6
  refine ⟨?_, ?_, ?_, ?_, ?_, ?_, ?_, ?_⟩
  · rintro rfl; rw [hX] at h1; cases h1
  · rintro rfl; rw [hX] at h2; cases h2
  · rintro rfl; rw [hX] at h3; cases h3
  · rintro rfl; rw [hX] at h4; cases h4
  · rintro rfl; rw [hX] at h5; cases h5
  · rintro rfl; rw [hX] at h6; cases h6
  · rintro rfl; rw [hX] at h7; cases h7
  · rintro rfl; rw [hX] at h8; cases h8
theorem range_gx {w w' : World} {X Y b o : Nat} {cs : List Value} (h : w.rangeAt b o cs) (g : Gx w w' X Y) (h1 : b ≠ X) (h2 : b ≠ Y) : w'.rangeAt b o cs := fun j v hj => g.cell (h j v hj) h1 h2
theorem Tab.gx {w w' : World} {X Y T P2 P3 P4 P5 P6 Bo Bc : Nat} (h : Tab w T P2 P3 P4 P5 P6 Bo Bc) (g : Gx w w' X Y) (hX : T ≠ X ∧ P2 ≠ X ∧ P3 ≠ X ∧ P4 ≠ X ∧ P5 ≠ X ∧ P6 ≠ X ∧ Bo ≠ X ∧ Bc ≠ X) (hY : T ≠ Y ∧ P2 ≠ Y ∧ P3 ≠ Y ∧ P4 ≠ Y ∧ P5 ≠ Y ∧ P6 ≠ Y ∧ Bo ≠ Y ∧ Bc ≠ Y) : Tab w' T P2 P3 P4 P5 P6 Bo Bc := by
  obtain ⟨x1, x2, x3, x4, x5, x6, x7, x8⟩ := hX
  obtain ⟨y1, y2, y3, y4, y5, y6, y7, y8⟩ := hY
  exact ⟨range_gx h.tab g x1 y1, range_gx h.p2 g x2 y2, range_gx h.p3 g x3 y3, range_gx h.p4 g x4 y4, range_gx h.p5 g x5 y5, range_gx h.p6 g x6 y6, g.cell h.bo x7 y7, g.cell h.bc x8 y8⟩
/-- A block beyond what is there. -/
theorem Tab.lt {W : World} {T P2 P3 P4 P5 P6 Bo Bc : Nat} (h : Tab W T P2 P3 P4 P5 P6 Bo Bc) {Y : Nat} (hY : W.heap.size ≤ Y) : T ≠ Y ∧ P2 ≠ Y ∧ P3 ≠ Y ∧ P4 ≠ Y ∧ P5 ≠ Y ∧ P6 ≠ Y ∧ Bo ≠ Y ∧ Bc ≠ Y := by
  have h1 := World.block_lt_of_cell? W _ (h.tab 0 _ rfl)
  have h2 := World.block_lt_of_cell? W _ (h.p2 0 _ rfl)
  have h3 := World.block_lt_of_cell? W _ (h.p3 0 _ rfl)
  have h4 := World.block_lt_of_cell? W _ (h.p4 0 _ rfl)
  have h5 := World.block_lt_of_cell? W _ (h.p5 0 _ rfl)
  have h6 := World.block_lt_of_cell? W _ (h.p6 0 _ rfl)
  have h7 := World.block_lt_of_cell? W _ h.bo
  have h8 := World.block_lt_of_cell? W _ h.bc
  simp only at h1 h2 h3 h4 h5 h6 h7 h8
  omega
/-- A closure that reads a part. -/
def Rd (W5 : World) (X Y bb o n cap : Nat) (l : List Int) (st : Nat) (rk : Bool) (rv : Value) (s : Stp) : Prop :=
  ∃ R rcap, rv = .func (.func R) #[] rcap ∧ (∀ args w, (callFunc R args).run Tryd.prog w = .ok (.enter R args) w) ∧ ∀ (w : World) (p : Nat) (f : Fr), Gx W5 w X Y → RC w X Y bb o n cap l p st f →
    Calls Tryd.prog R (#[.pointer (some ⟨X, 0, none⟩), .pointer (some ⟨Y, 0, none⟩)] ++ rcap) w (RAns rk w X Y (.slice (some ⟨bb, o, none⟩) n cap) st l.length (s f p))
theorem enterN2 (args : Array Value) (w : World) : (callFunc 100 args).run Tryd.prog w = .ok (.enter 100 args) w := by kernel_rfl
theorem enterS2 (args : Array Value) (w : World) : (callFunc 90 args).run Tryd.prog w = .ok (.enter 90 args) w := by kernel_rfl
theorem enterB2 (args : Array Value) (w : World) : (callFunc 97 args).run Tryd.prog w = .ok (.enter 97 args) w := by kernel_rfl
theorem enterR2 (args : Array Value) (w : World) : (callFunc 94 args).run Tryd.prog w = .ok (.enter 94 args) w := by kernel_rfl
/-- The parts of a shape that are read. -/
theorem shape_reads {W : World} {T P2 P3 P4 P5 P6 Bo Bc : Nat} (h : Tab W T P2 P3 P4 P5 P6 Bo Bc) (X Y bb o n cap : Nat) (l : List Int) (st : Nat) (hX : T ≠ X ∧ P2 ≠ X ∧ P3 ≠ X ∧ P4 ≠ X ∧ P5 ≠ X ∧ P6 ≠ X ∧ Bo ≠ X ∧ Bc ≠ X) (hY : T ≠ Y ∧ P2 ≠ Y ∧ P3 ≠ Y ∧ P4 ≠ Y ∧ P5 ≠ Y ∧ P6 ≠ Y ∧ Bo ≠ Y ∧ Bc ≠ Y) (hYl : Y < W.heap.size) {j : Nat} (hj : j < 7) :
    (shAt (shs P2 P3 P4 P5 P6) j).n = (stepsOf l j).length ∧ (stepsOf l j).length ≤ 3 ∧ ((stepsOf l j).length = 0 ∨ ∃ P, (shAt (shs P2 P3 P4 P5 P6) j).pa = some ⟨P, 0, none⟩ ∧ P ≠ X ∧ P ≠ Y ∧ ∀ i (hi : i < (stepsOf l j).length), ∃ wf wc rd, W.cell? ⟨P, i * 2, none⟩ = some (.func (.func wf) #[] wc) ∧ W.cell? ⟨P, i * 2 + 1, none⟩ = some rd ∧ Rd W X Y bb o n cap l st (decide (j = 2)) rd (stepsOf l j)[i]) := by
  obtain ⟨-, x2, x3, x4, x5, x6, x7, x8⟩ := hX
  obtain ⟨-, y2, y3, y4, y5, y6, y7, y8⟩ := hY
  have hO : Rd W X Y bb o n cap l st false (nR Bo) (stOff l) := ⟨_, _, rfl, enterN2, fun w p f g r => rd_off w X Y bb o n cap l p st f r Bo (g.cell h.bo x7 y7)⟩
  have hC : Rd W X Y bb o n cap l st false (nR Bc) (stCode l) := ⟨_, _, rfl, enterN2, fun w p f g r => rd_code w X Y bb o n cap l p st f r Bc (g.cell h.bc x8 y8)⟩
  have hS : Rd W X Y bb o n cap l st false sR (stStream l) := ⟨_, _, rfl, enterS2, fun w p f _ r => rd_stream w X Y bb o n cap l p st f r⟩
  have hB : Rd W X Y bb o n cap l st false bR (stData l) := ⟨_, _, rfl, enterB2, fun w p f _ r => rd_bytes w X Y bb o n cap l p st f r⟩
  have hR : Rd W X Y bb o n cap l st true rR (stRanges l) := ⟨_, _, rfl, enterR2, fun w p f g r => rd_ranges w X Y bb o n cap l p st f r (Nat.lt_of_lt_of_le hYl g.size)⟩
  rcases lt7 hj with rfl | rfl | rfl | rfl | rfl | rfl | rfl
  · exact ⟨rfl, by simp [stepsOf], .inl rfl⟩
  · exact ⟨rfl, by simp [stepsOf], .inl rfl⟩
  · refine ⟨rfl, by simp [stepsOf], .inr ⟨P2, rfl, x2, y2, fun i hi => ?_⟩⟩
    have e : i = 0 := by simp [stepsOf] at hi; omega
    subst e
    exact ⟨_, _, rR, h.p2 0 _ rfl, h.p2 1 _ rfl, hR⟩
  · refine ⟨rfl, by simp [stepsOf], .inr ⟨P3, rfl, x3, y3, fun i hi => ?_⟩⟩
    have e : i = 0 ∨ i = 1 ∨ i = 2 := by simp [stepsOf] at hi; omega
    rcases e with rfl | rfl | rfl
    · exact ⟨_, _, sR, h.p3 0 _ rfl, h.p3 1 _ rfl, hS⟩
    · exact ⟨_, _, nR Bc, h.p3 2 _ rfl, h.p3 3 _ rfl, hC⟩
    · exact ⟨_, _, nR Bo, h.p3 4 _ rfl, h.p3 5 _ rfl, hO⟩
  · refine ⟨rfl, by simp [stepsOf], .inr ⟨P4, rfl, x4, y4, fun i hi => ?_⟩⟩
    have e : i = 0 ∨ i = 1 ∨ i = 2 := by simp [stepsOf] at hi; omega
    rcases e with rfl | rfl | rfl
    · exact ⟨_, _, sR, h.p4 0 _ rfl, h.p4 1 _ rfl, hS⟩
    · exact ⟨_, _, nR Bo, h.p4 2 _ rfl, h.p4 3 _ rfl, hO⟩
    · exact ⟨_, _, bR, h.p4 4 _ rfl, h.p4 5 _ rfl, hB⟩
  · refine ⟨rfl, by simp [stepsOf], .inr ⟨P5, rfl, x5, y5, fun i hi => ?_⟩⟩
    have e : i = 0 ∨ i = 1 ∨ i = 2 := by simp [stepsOf] at hi; omega
    rcases e with rfl | rfl | rfl
    · exact ⟨_, _, sR, h.p5 0 _ rfl, h.p5 1 _ rfl, hS⟩
    · exact ⟨_, _, nR Bo, h.p5 2 _ rfl, h.p5 3 _ rfl, hO⟩
    · exact ⟨_, _, bR, h.p5 4 _ rfl, h.p5 5 _ rfl, hB⟩
  · refine ⟨rfl, by simp [stepsOf], .inr ⟨P6, rfl, x6, y6, fun i hi => ?_⟩⟩
    have e : i = 0 := by simp [stepsOf] at hi; omega
    subst e
    exact ⟨_, _, nR Bc, h.p6 0 _ rfl, h.p6 1 _ rfl, hC⟩
end Go.Proofs.YtjnmokmchdfchaaDoor
