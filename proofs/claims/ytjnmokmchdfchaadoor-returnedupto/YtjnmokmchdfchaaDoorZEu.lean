import Derived.Test.YtjnmokmchdfchaaDoorZEs
import Derived.Test.YtjnmokmchdfchaaDoorZRs
import Derived.Test.YtjnmokmchdfchaaDoorZDz
import Derived.Deep.CutBlock
namespace Go.Proofs.YtjnmokmchdfchaaDoor
open Go.RowKit
attribute [local go_sem ↓] Go.wp_at_zero Go.wp_at_succ

/-- The document's reader and its frame. -/
structure ST (w : World) (X Y bb o n cap : Nat) (l : List Int) (W : World) (q : Nat) (bad : Bool) (v0 v1 v2 v3 v4 v5 v6 : Value) : Prop where
  rc : RC2 W X bb o n cap l q bad
  y : W.heap[Y]? = some (.cells #[v0, v1, v2, v3, v4, v5, v6] 46 (0, 0))
  g : w.grownBy W (some X)
  r : W.heap[w.heap.size]? = some (.cells #[.int .i64 0, .int .i64 0, .int .u64 0, .int .u64 0, .bool false, .string { data := #[] }, .slice none 0 0] 46 (0, 0))
  xy : X < w.heap.size
  wy : w.heap.size < Y
  by' : bb < w.heap.size
section
variable {w : World} {X Y bb o n cap : Nat} {l : List Int} {W W' : World} {q q' : Nat} {bad bad' : Bool} {v0 v1 v2 v3 v4 v5 v6 : Value}
theorem ST.call (h : ST w X Y bb o n cap l W q bad v0 v1 v2 v3 v4 v5 v6) (g : W.grownBy W' (some X)) (hx : RfS W' X (.slice (some ⟨bb, o, none⟩) n cap) q' bad') (hq : q' ≤ l.length) : ST w X Y bb o n cap l W' q' bad' v0 v1 v2 v3 v4 v5 v6 :=
  ⟨h.rc.next g hx hq, (g.block Y (Array.getElem?_eq_some_iff.1 h.y).1 (fun e => by have := Option.some.inj e; have := h.xy; have := h.wy; omega)).trans h.y, gb_trans h.g g, (g.block _ (Array.getElem?_eq_some_iff.1 h.r).1 (fun e => by have := Option.some.inj e; have := h.xy; omega)).trans h.r, h.xy, h.wy, h.by'⟩
theorem ST.setY (h : ST w X Y bb o n cap l W q bad v0 v1 v2 v3 v4 v5 v6) (i : Nat) (v : Value) {u0 u1 u2 u3 u4 u5 u6 : Value} (e : #[v0, v1, v2, v3, v4, v5, v6].setIfInBounds i v = #[u0, u1, u2, u3, u4, u5, u6]) : ST w X Y bb o n cap l (W.setCell ⟨Y, i, none⟩ v) q bad u0 u1 u2 u3 u4 u5 u6 := by
  have h1 := h.xy
  have h2 := h.wy
  have h3 := h.by'
  have g1 : W.grownBy (W.setCell ⟨Y, i, none⟩ v) (some Y) := gb_set (World.grownBy.refl _ _) _ _ (.inr rfl)
  refine ⟨⟨(Below.heap_setCell _ _ _ _ (by show X ≠ Y; omega)).trans h.rc.x, h.rc.b.gb g1 (fun j e => .inr (.inr (fun x hx => by cases hx; cases e; show bb ≠ Y; omega))), h.rc.xb, h.rc.hp, h.rc.hl⟩, ?_, gb_set h.g _ _ (.inl (by show _ ≤ Y; omega)), (Below.heap_setCell _ _ _ _ (by show w.heap.size ≠ Y; omega)).trans h.r, h1, h2, h3⟩
  rw [heap_set h.y, e]
theorem ST.fx (h : ST w X Y bb o n cap l W q bad v0 v1 v2 v3 v4 v5 v6) : (W.cell? ⟨Y, 0, none⟩ = some v0 ∧ W.cell? ⟨Y, 1, none⟩ = some v1 ∧ W.cell? ⟨Y, 2, none⟩ = some v2 ∧ W.cell? ⟨Y, 3, none⟩ = some v3 ∧ W.cell? ⟨Y, 4, none⟩ = some v4 ∧ W.cell? ⟨Y, 5, none⟩ = some v5 ∧ W.cell? ⟨Y, 6, none⟩ = some v6) ∧ ∀ i, W.frozen? ⟨Y, i, none⟩ = false := ⟨cells7 h.y, cells7f h.y⟩
theorem ST.num (h : ST w X Y bb o n cap l W q bad v0 v1 v2 v3 v4 v5 v6) : Calls Tryd.prog 45 #[.pointer (some ⟨X, 0, none⟩)] W fun e W' => (∃ v q', numR l q = some (v, q') ∧ V62 v ∧ q < q' ∧ e = .returned (.int .u64 v) ∧ ST w X Y bb o n cap l W' q' bad v0 v1 v2 v3 v4 v5 v6) ∨ (numR l q = none ∧ e = .returned (.int .u64 0) ∧ ST w X Y bb o n cap l W' q true v0 v1 v2 v3 v4 v5 v6) := by
  refine h.rc.num.mono ?_
  rintro e W' ⟨g, ⟨v, q', hr, rfl, hx⟩ | ⟨hr, rfl, hx⟩⟩
  · obtain ⟨h1, h2, h3⟩ := numR_some h.rc.b.1 hr
    exact .inl ⟨v, q', hr, h1, h2, rfl, h.call g hx h3⟩
  · exact .inr ⟨hr, rfl, h.call g hx h.rc.hp⟩
theorem ST.numB (h : ST w X Y bb o n cap l W q true v0 v1 v2 v3 v4 v5 v6) : Calls Tryd.prog 45 #[.pointer (some ⟨X, 0, none⟩)] W fun e W' => ∃ v q', e = .returned (.int .u64 v) ∧ ST w X Y bb o n cap l W' q' true v0 v1 v2 v3 v4 v5 v6 := by
  refine h.num.mono ?_
  rintro e W' (⟨v, q', -, -, -, rfl, hs⟩ | ⟨-, rfl, hs⟩)
  · exact ⟨v, q', rfl, hs⟩
  · exact ⟨0, q, rfl, hs⟩
theorem ST.stm (h : ST w X Y bb o n cap l W q bad v0 v1 v2 v3 v4 v5 v6) : Calls Tryd.prog 44 #[.pointer (some ⟨X, 0, none⟩)] W fun e W' => (∃ v q', streamR l q = some (v, q') ∧ (0 ≤ v ∧ v < 4) ∧ e = .returned (.int .i64 v) ∧ ST w X Y bb o n cap l W' q' bad v0 v1 v2 v3 v4 v5 v6) ∨ (streamR l q = none ∧ ∃ q', e = .returned (.int .i64 0) ∧ ST w X Y bb o n cap l W' q' true v0 v1 v2 v3 v4 v5 v6) := by
  refine (rStream_any X bb o n cap l q bad W h.rc).mono ?_
  rintro e W' (⟨g, v, q', hr, rfl, hx⟩ | ⟨hr, rfl, g, q', hq, hx⟩)
  · have hv : (0 ≤ v ∧ v < 4) ∧ q' ≤ l.length := by
      have hr2 := hr
      unfold streamR at hr2
      cases hn : numR l q with
      | none => rw [hn] at hr2; cases hr2
      | some x =>
        rw [hn] at hr2
        simp only [Option.bind_some] at hr2
        split at hr2
        · cases hr2
          have := numR_some (q := q') (n := v) h.rc.b.1 hn
          unfold V62 at this
          omega
        · cases hr2
    exact .inl ⟨v, q', hr, hv.1, rfl, h.call g hx hv.2⟩
  · exact .inr ⟨hr, q', rfl, h.call g hx hq⟩
theorem ST.txt (h : ST w X Y bb o n cap l W q false v0 v1 v2 v3 v4 v5 v6) : Calls Tryd.prog 46 #[.pointer (some ⟨X, 0, none⟩)] W fun e W' => (∃ v q', textR l q = some (v, q') ∧ v.size ≤ 9223372036854775807 ∧ e = .returned (.string v) ∧ ST w X Y bb o n cap l W' q' false v0 v1 v2 v3 v4 v5 v6) ∨ (textR l q = none ∧ ∃ v q', e = .returned (.string v) ∧ ST w X Y bb o n cap l W' q' true v0 v1 v2 v3 v4 v5 v6) := by
  refine (rText_any X bb o n cap l q W h.rc).mono ?_
  rintro e W' (⟨g, v, q', hr, rfl, hx⟩ | ⟨hr, rfl, g, q', hq, hx⟩)
  · have hv : v.size ≤ 9223372036854775807 ∧ q' ≤ l.length := by
      have hr2 := hr
      unfold textR at hr2
      have hl := h.rc.hl
      cases hn : numR l q with
      | none => rw [hn] at hr2; cases hr2
      | some x =>
        rw [hn] at hr2
        simp only [Option.bind_some] at hr2
        have h9 := numR_some (q := x.2) (n := x.1) h.rc.b.1 hn
        unfold V62 at h9
        split at hr2
        · cases hr2
          rw [strOfNums_size]
          simp
          omega
        · cases hr2
    exact .inl ⟨v, q', hr, hv.1, rfl, h.call g hx hv.2⟩
  · exact .inr ⟨hr, _, q', rfl, h.call g hx hq⟩
theorem ST.txtB (h : ST w X Y bb o n cap l W q true v0 v1 v2 v3 v4 v5 v6) : Calls Tryd.prog 46 #[.pointer (some ⟨X, 0, none⟩)] W fun e W' => ∃ v q', e = .returned (.string v) ∧ ST w X Y bb o n cap l W' q' true v0 v1 v2 v3 v4 v5 v6 := by
  refine (rText_bad X bb o n cap l q W h.rc).mono ?_
  rintro e W' ⟨rfl, g, q', hq, hx⟩
  exact ⟨_, q', rfl, h.call g hx hq⟩
end
end Go.Proofs.YtjnmokmchdfchaaDoor
namespace Go.Proofs.YtjnmokmchdfchaaDoor
open Go.RowKit
attribute [local go_sem ↓] Go.wp_at_zero Go.wp_at_succ

theorem RfS.setO {w : World} {X B i : Nat} {sl v : Value} {p : Nat} {bad : Bool} (h : RfS w X sl p bad) (hxy : X ≠ B) : RfS (w.setCell ⟨B, i, none⟩ v) X sl p bad :=
  (Below.heap_setCell _ _ _ _ hxy).trans h
theorem seven {w W : World} {X : Nat} {sl : Value} {q : Nat} {bad : Bool} (g : w.grownBy W (some X)) (hx : RfS W X sl q bad) (hX : X ≠ w.heap.size) (v0 v1 v2 v3 v4 v5 v6 : Value) :
    w.grownBy (((((((W.setCell ⟨w.heap.size, 0, none⟩ v0).setCell ⟨w.heap.size, 1, none⟩ v1).setCell ⟨w.heap.size, 2, none⟩ v2).setCell ⟨w.heap.size, 3, none⟩ v3).setCell ⟨w.heap.size, 4, none⟩ v4).setCell ⟨w.heap.size, 5, none⟩ v5).setCell ⟨w.heap.size, 6, none⟩ v6) (some X) ∧
    RfS (((((((W.setCell ⟨w.heap.size, 0, none⟩ v0).setCell ⟨w.heap.size, 1, none⟩ v1).setCell ⟨w.heap.size, 2, none⟩ v2).setCell ⟨w.heap.size, 3, none⟩ v3).setCell ⟨w.heap.size, 4, none⟩ v4).setCell ⟨w.heap.size, 5, none⟩ v5).setCell ⟨w.heap.size, 6, none⟩ v6) X sl q bad :=
  ⟨gb_set (gb_set (gb_set (gb_set (gb_set (gb_set (gb_set g _ _ (.inl (Nat.le_refl _))) _ _ (.inl (Nat.le_refl _))) _ _ (.inl (Nat.le_refl _))) _ _ (.inl (Nat.le_refl _))) _ _ (.inl (Nat.le_refl _))) _ _ (.inl (Nat.le_refl _))) _ _ (.inl (Nat.le_refl _)),
    RfS.setO (RfS.setO (RfS.setO (RfS.setO (RfS.setO (RfS.setO (RfS.setO hx hX) hX) hX) hX) hX) hX) hX⟩
/-- What is known behind the switch. -/
def Cut (w : World) (X Y bb o n cap : Nat) (l : List Int) (t : Int) (p : Nat) (W : World) : Prop :=
  (∃ (f : Fr) (q : Nat) (A : Option Addr) (NN C : Nat), rawR l t (p + 1) = some (f, q) ∧ ST w X Y bb o n cap l W q false (.int .i64 f.kind) (.int .i64 f.stream) (.int .u64 f.offset) (.int .u64 f.code) (.bool f.fin) (.string f.data) (.slice A NN C) ∧ FrV W f (.slice A NN C) ∧ (∀ x, A = some x → Y < x.block)) ∨
  (rawR l t (p + 1) = none ∧ ∃ (q : Nat) (k0 k1 k2 k3 : Int) (k4 : Bool) (k5 : ByteArray) (A : Option Addr) (NN C : Nat), ST w X Y bb o n cap l W q true (.int .i64 k0) (.int .i64 k1) (.int .u64 k2) (.int .u64 k3) (.bool k4) (.string k5) (.slice A NN C))
def RFrm (w : World) (X : Nat) (sl : Value) (_p len : Nat) (r : Option (Fr × Nat)) (e : Ending) (w' : World) : Prop :=
  w.grownBy w' (some X) ∧ ((∃ f q A NN C, r = some (f, q) ∧ e = .returned (.agg (frA f (.slice A NN C))) ∧ FrV w' f (.slice A NN C) ∧ (∀ x, A = some x → w.heap.size < x.block) ∧ RfS w' X sl q false ∧ q ≤ len) ∨
    (r = none ∧ ∃ (q : Nat) (k0 k1 k2 k3 : Int) (k4 : Bool) (k5 : ByteArray) (A : Option Addr) (NN C : Nat), e = .returned (.agg #[.int .i64 k0, .int .i64 k1, .int .u64 k2, .int .u64 k3, .bool k4, .string k5, .slice A NN C]) ∧ RfS w' X sl q true ∧ q ≤ len))
set_option maxRecDepth 100000 in
set_option maxHeartbeats 8000000 in
theorem rFrame_any (X bb o n cap : Nat) (l : List Int) (p : Nat) (w : World) (h : RC2 w X bb o n cap l p false) (hp : p < l.length) :
    Calls Tryd.prog 27 #[.pointer (some ⟨X, 0, none⟩)] w (RFrm w X (.slice (some ⟨bb, o, none⟩) n cap) p l.length (frameR l p)) := by
  have h8 := h.b.1
  have hn : n = l.length := h.b.2.1
  have hl := h.hl
  have hXl := h.x.lt
  obtain ⟨x0, x1, x2, xf⟩ := cells3 h.x
  obtain ⟨b1, o1, hbe, hc⟩ := bs_one h.b (by omega)
  cases hbe
  have hbl : bb < w.heap.size := World.block_lt_of_cell? w _ (hc 0 (by omega))
  have y1 := hc p (by omega)
  obtain ⟨t, ht⟩ : ∃ t, t = l.getD p 0 := ⟨_, rfl⟩
  rw [← ht] at y1
  have hfr : frameR l p = (rawR l t (p + 1)).bind fun x => by classical exact if soundP x.1 then some x else none := by rw [ht]; rfl
  have i1 : (0 : Int) ≤ (p : Int) := by omega
  have i2 : (p : Int) < (n : Int) := by omega
  have hpw : IntKind.i64.wrap ((p : Int) + 1) = (p : Int) + 1 := by simp [IntKind.wrap, IntKind.bits, IntKind.signed]; omega
  replace ht := hide ht
  replace hfr := hide hfr
  replace hc := hide hc
  replace hn := hide hn
  go_enter Tryd.func27, Tryd.ntmps27
  go_wp2_with fail
  go_quiet (fail)
  go_upto_block 0 with fail
  go_cut [] (fun wx => Cut w X (w.heap.size + 1) bb o n cap l t p wx)
  case first =>
    have hS0 : ∀ W0 : World, w.grownBy W0 (some X) → RfS W0 X (.slice (some ⟨bb, o, none⟩) n cap) (p + 1) false → W0.heap[w.heap.size]? = some (.cells #[.int .i64 0, .int .i64 0, .int .u64 0, .int .u64 0, .bool false, .string { data := #[] }, .slice none 0 0] 46 (0, 0)) → W0.heap[w.heap.size + 1]? = some (.cells #[.int .i64 0, .int .i64 0, .int .u64 0, .int .u64 0, .bool false, .string { data := #[] }, .slice none 0 0] 46 (0, 0)) → ST w X (w.heap.size + 1) bb o n cap l W0 (p + 1) false (.int .i64 0) (.int .i64 0) (.int .u64 0) (.int .u64 0) (.bool false) (.string { data := #[] }) (.slice none 0 0) :=
      fun W0 g hx hr hy => ⟨⟨hx, h.b.gb g (fun j e => .inr (.inr (fun x hx => by cases hx; cases e; exact h.xb))), h.xb, by omega, hl⟩, hy, g, hr, hXl, by omega, hbl⟩
    obtain ⟨W0, hW0⟩ : ∃ W, W = (((w.alloc (.cells #[.int .i64 0, .int .i64 0, .int .u64 0, .int .u64 0, .bool false, .string { data := #[] }, .slice none 0 0] 46)).drewN nq).setCell ⟨X, 1, none⟩ (.int .i64 ((p : Int) + 1))).alloc (.cells #[.int .i64 0, .int .i64 0, .int .u64 0, .int .u64 0, .bool false, .string { data := #[] }, .slice none 0 0] 46) := ⟨_, rfl⟩
    have hST : ST w X (w.heap.size + 1) bb o n cap l W0 (p + 1) false (.int .i64 0) (.int .i64 0) (.int .u64 0) (.int .u64 0) (.bool false) (.string { data := #[] }) (.slice none 0 0) := by
      have hxa : RfS ((w.alloc (.cells #[.int .i64 0, .int .i64 0, .int .u64 0, .int .u64 0, .bool false, .string { data := #[] }, .slice none 0 0] 46)).drewN nq) X (.slice (some ⟨bb, o, none⟩) n cap) p false := h.x.gb (gb_drewN (World.grownBy_alloc _ _ none) _) (by simp)
      have hxb := hxa.setAt (p + 1)
      have hga : w.grownBy (((w.alloc (.cells #[.int .i64 0, .int .i64 0, .int .u64 0, .int .u64 0, .bool false, .string { data := #[] }, .slice none 0 0] 46)).drewN nq).setCell ⟨X, 1, none⟩ (.int .i64 ((p + 1 : Nat) : Int))) (some X) := gb_set (gb_none (gb_drewN (World.grownBy_alloc _ _ none) _) _) _ _ (.inr rfl)
      have hra : ((w.alloc (.cells #[.int .i64 0, .int .i64 0, .int .u64 0, .int .u64 0, .bool false, .string { data := #[] }, .slice none 0 0] 46)).drewN nq).heap[w.heap.size]? = some (.cells #[.int .i64 0, .int .i64 0, .int .u64 0, .int .u64 0, .bool false, .string { data := #[] }, .slice none 0 0] 46 (0, 0)) := heap_alloc_new w _
      have hrb := (Below.heap_setCell ((w.alloc (.cells #[.int .i64 0, .int .i64 0, .int .u64 0, .int .u64 0, .bool false, .string { data := #[] }, .slice none 0 0] 46)).drewN nq) ⟨X, 1, none⟩ (.int .i64 ((p + 1 : Nat) : Int)) w.heap.size (by show w.heap.size ≠ X; omega)).trans hra
      have hsz : (((w.alloc (.cells #[.int .i64 0, .int .i64 0, .int .u64 0, .int .u64 0, .bool false, .string { data := #[] }, .slice none 0 0] 46)).drewN nq).setCell ⟨X, 1, none⟩ (.int .i64 ((p + 1 : Nat) : Int))).heap.size = w.heap.size + 1 := by simp [World.setCell, World.drewN]
      have e1 : ((p + 1 : Nat) : Int) = (p : Int) + 1 := by omega
      rw [e1] at hxb hga hrb hsz
      refine hS0 W0 (by rw [hW0]; exact gb_alloc hga _) (by rw [hW0]; exact hxb.gb (World.grownBy_alloc _ _ none) (by simp)) ?_ ?_
      · rw [hW0, Below.heap_alloc _ _ _ (by rw [hsz]; omega)]; exact hrb
      · rw [hW0]
        have := heap_alloc_new (((w.alloc (.cells #[.int .i64 0, .int .i64 0, .int .u64 0, .int .u64 0, .bool false, .string { data := #[] }, .slice none 0 0] 46)).drewN nq).setCell ⟨X, 1, none⟩ (.int .i64 ((p : Int) + 1))) (.cells #[.int .i64 0, .int .i64 0, .int .u64 0, .int .u64 0, .bool false, .string { data := #[] }, .slice none 0 0] 46)
        rwa [hsz] at this
    rw [← hW0]
    replace hW0 := hide hW0
    replace hS0 := hide hS0
    clear x0 x1 x2 xf y1
    obtain ⟨⟨c0, c1, c2, c3, c4, c5, c6⟩, cf⟩ := hST.fx
    have okz : ∀ (k s of cd : Int) (b : Bool) (d : ByteArray), (1 ≤ k ∧ k ≤ 6) → (0 ≤ s ∧ s < 4) → V62 of → V62 cd → Fr.ok ⟨k, s, of, cd, b, d, []⟩ := fun k s of cd b d hk hs ho hc => ⟨⟨by simp; omega, by simp; omega⟩, ⟨by simp; omega, by simp; omega⟩, ⟨ho.1, by have := ho.2; simp; omega⟩, ⟨hc.1, by have := hc.2; simp; omega⟩, fun r hr => by simp at hr⟩
    have v0 : V62 0 := by simp [V62]
    replace okz := hide okz
    have hcs : t = 0 ∨ t = 1 ∨ t = 2 ∨ t = 4 ∨ (t = 8 ∨ t = 9) ∨ t = 28 ∨ (¬ t = 0 ∧ ¬ t = 1 ∧ ¬ t = 2 ∧ ¬ t = 4 ∧ ¬ t = 8 ∧ ¬ t = 9 ∧ ¬ t = 28) := by omega
    rcases hcs with rfl | rfl | rfl | rfl | ht89 | rfl | ⟨n0, n1, n2, n4, n8, n9, n28⟩
    · have hr : rawR l 0 (p + 1) = some (frZ 1 false, p + 1) := by simp [rawR]
      replace hr := hide hr
      go_wp2_with fail
      go_meet
      exact .inl ⟨frZ 1 false, p + 1, none, 0, 0, unhide hr, hST.setY 0 _ rfl, FrV.nil _ _ (unhide okz _ _ _ _ _ _ (by omega) (by omega) v0 v0) rfl (by simp [frZ]), fun x hx => by cases hx⟩
    · have hr : rawR l 1 (p + 1) = some (frZ 2 false, p + 1) := by simp [rawR]
      replace hr := hide hr
      go_wp2_with fail
      go_meet
      exact .inl ⟨frZ 2 false, p + 1, none, 0, 0, unhide hr, hST.setY 0 _ rfl, FrV.nil _ _ (unhide okz _ _ _ _ _ _ (by omega) (by omega) v0 v0) rfl (by simp [frZ]), fun x hx => by cases hx⟩
    · have hraw : rawR l 2 (p + 1) = (rangesR l (p + 1)).bind fun x => some ({ frZ 3 false with ranges := x.1 }, x.2) := by
        unfold rawR
        rw [if_neg (by decide), if_neg (by decide), if_pos rfl]
      replace hraw := hide hraw
      have hS1 := hST.setY 0 (.int .i64 3) (u0 := .int .i64 3) rfl
      go_wp2_with fail
      refine (rRanges_any X bb o n cap l (p + 1) _ hS1.rc).mono ?_
      rintro e w5 (⟨g5, rs, q, a5, n5, c5, hr, rfl, hrs, hnw, hX5⟩ | ⟨hr, rfl, g5, q, hq, hX5⟩)
      · have hS5 := hS1.call g5 hX5 (rangesR_le h8 hr)
        obtain ⟨⟨c0, c1, c2, c3, c4, c5', c6⟩, cf⟩ := hS5.fx
        replace hr := hide hr
        replace hrs := hide hrs
        go_wp2_with fail
        go_meet
        have hlen : n5 = rs.length := (unhide hrs).2.1
        have hYs : w.heap.size + 1 < (W0.setCell ⟨w.heap.size + 1, 0, none⟩ (.int .i64 3)).heap.size := (Array.getElem?_eq_some_iff.1 hS1.y).1
        refine .inl ⟨{ frZ 3 false with ranges := rs }, q, a5, n5, c5, by rw [unhide hraw, unhide hr]; rfl, hS5.setY 6 _ rfl, ?_, fun x hx => Nat.lt_of_lt_of_le hYs (hnw x hx)⟩
        have hv5 : FrV w5 { frZ 3 false with ranges := rs } (.slice a5 n5 c5) := ⟨⟨⟨by simp [frZ], by simp [frZ]⟩, ⟨by simp [frZ], by simp [frZ]⟩, ⟨by simp [frZ], by simp [frZ]⟩, ⟨by simp [frZ], by simp [frZ]⟩, (unhide hrs).1⟩, by simp [frZ], a5, c5, by rw [hlen], by rw [← hlen]; exact unhide hrs⟩
        exact hv5.set 6 _ (fun x hx => by have := Nat.lt_of_lt_of_le hYs (hnw x hx); omega)
      · have hS5 := hS1.call g5 hX5 hq
        obtain ⟨⟨c0, c1, c2, c3, c4, c5', c6⟩, cf⟩ := hS5.fx
        replace hr := hide hr
        go_wp2_with fail
        go_meet
        exact .inr ⟨by rw [unhide hraw, unhide hr]; rfl, q, _, _, _, _, _, _, _, _, _, hS5.setY 6 _ rfl⟩
    · have hraw : rawR l 4 (p + 1) = (streamR l (p + 1)).bind fun x => (numR l x.2).bind fun y => (numR l y.2).bind fun z => some ({ frZ 4 false with stream := x.1, code := y.1, offset := z.1 }, z.2) := by
        unfold rawR
        rw [if_neg (by decide), if_neg (by decide), if_neg (by decide), if_pos rfl]
      replace hraw := hide hraw
      have hS1 := hST.setY 0 (.int .i64 4) (u0 := .int .i64 4) rfl
      go_wp2_with fail
      refine hS1.stm.mono ?_
      rintro e w5 (⟨sv, q5, hr5, hsv, rfl, hS5⟩ | ⟨hr5, q5, rfl, hS5⟩)
      · obtain ⟨⟨c0, c1, c2, c3, c4, c5, c6⟩, cf⟩ := hS5.fx
        have hS6 := hS5.setY 1 (.int .i64 sv) (u1 := .int .i64 sv) rfl
        replace hr5 := hide hr5
        go_wp2_with fail
        refine hS6.num.mono ?_
        rintro e w7 (⟨cv, q7, hr7, hcv, -, rfl, hS7⟩ | ⟨hr7, rfl, hS7⟩)
        · obtain ⟨⟨c0, c1, c2, c3, c4, c5, c6⟩, cf⟩ := hS7.fx
          have hS8 := hS7.setY 3 (.int .u64 cv) (u3 := .int .u64 cv) rfl
          replace hr7 := hide hr7
          go_wp2_with fail
          refine hS8.num.mono ?_
          rintro e w9 (⟨ov, q9, hr9, hov, -, rfl, hS9⟩ | ⟨hr9, rfl, hS9⟩)
          · obtain ⟨⟨c0, c1, c2, c3, c4, c5, c6⟩, cf⟩ := hS9.fx
            replace hr9 := hide hr9
            go_wp2_with fail
            go_meet
            exact .inl ⟨{ frZ 4 false with stream := sv, code := cv, offset := ov }, q9, none, 0, 0, by rw [unhide hraw, unhide hr5]; simp [unhide hr7, unhide hr9], hS9.setY 2 _ rfl, FrV.nil _ _ (unhide okz _ _ _ _ _ _ (by simp [frZ]) hsv hov hcv) rfl (by simp [frZ]), fun x hx => by cases hx⟩
          · obtain ⟨⟨c0, c1, c2, c3, c4, c5, c6⟩, cf⟩ := hS9.fx
            replace hr9 := hide hr9
            go_wp2_with fail
            go_meet
            exact .inr ⟨by rw [unhide hraw, unhide hr5]; simp [unhide hr7, unhide hr9], _, _, _, _, _, _, _, _, _, _, hS9.setY 2 _ rfl⟩
        · obtain ⟨⟨c0, c1, c2, c3, c4, c5, c6⟩, cf⟩ := hS7.fx
          have hS8 := hS7.setY 3 (.int .u64 0) (u3 := .int .u64 0) rfl
          replace hr7 := hide hr7
          go_wp2_with fail
          refine hS8.numB.mono ?_
          rintro e w9 ⟨ov, q9, rfl, hS9⟩
          obtain ⟨⟨c0, c1, c2, c3, c4, c5, c6⟩, cf⟩ := hS9.fx
          go_wp2_with fail
          go_meet
          exact .inr ⟨by rw [unhide hraw, unhide hr5]; simp [unhide hr7], _, _, _, _, _, _, _, _, _, _, hS9.setY 2 _ rfl⟩
      · obtain ⟨⟨c0, c1, c2, c3, c4, c5, c6⟩, cf⟩ := hS5.fx
        have hS6 := hS5.setY 1 (.int .i64 0) (u1 := .int .i64 0) rfl
        replace hr5 := hide hr5
        go_wp2_with fail
        refine hS6.numB.mono ?_
        rintro e w7 ⟨cv, q7, rfl, hS7⟩
        obtain ⟨⟨c0, c1, c2, c3, c4, c5, c6⟩, cf⟩ := hS7.fx
        have hS8 := hS7.setY 3 (.int .u64 cv) (u3 := .int .u64 cv) rfl
        go_wp2_with fail
        refine hS8.numB.mono ?_
        rintro e w9 ⟨ov, q9, rfl, hS9⟩
        obtain ⟨⟨c0, c1, c2, c3, c4, c5, c6⟩, cf⟩ := hS9.fx
        go_wp2_with fail
        go_meet
        exact .inr ⟨by rw [unhide hraw, unhide hr5]; rfl, _, _, _, _, _, _, _, _, _, _, hS9.setY 2 _ rfl⟩
    · rcases ht89 with rfl | rfl
      · have hraw : rawR l 8 (p + 1) = (streamR l (p + 1)).bind fun x => (numR l x.2).bind fun y => (textR l y.2).bind fun z => some ({ frZ 5 false with stream := x.1, offset := y.1, data := z.1 }, z.2) := by
          unfold rawR
          rw [if_neg (by decide), if_neg (by decide), if_neg (by decide), if_neg (by decide), if_pos (by decide)]
          rfl
        replace hraw := hide hraw
        have hS1 := (hST.setY 0 (.int .i64 5) (u0 := .int .i64 5) rfl).setY 4 (.bool false) (u4 := .bool false) rfl
        go_wp2_with fail
        refine hS1.stm.mono ?_
        rintro e w5 (⟨sv, q5, hr5, hsv, rfl, hS5⟩ | ⟨hr5, q5, rfl, hS5⟩)
        · obtain ⟨⟨c0, c1, c2, c3, c4, c5, c6⟩, cf⟩ := hS5.fx
          have hS6 := hS5.setY 1 (.int .i64 sv) (u1 := .int .i64 sv) rfl
          replace hr5 := hide hr5
          go_wp2_with fail
          refine hS6.num.mono ?_
          rintro e w7 (⟨ov, q7, hr7, hov, -, rfl, hS7⟩ | ⟨hr7, rfl, hS7⟩)
          · obtain ⟨⟨c0, c1, c2, c3, c4, c5, c6⟩, cf⟩ := hS7.fx
            have hS8 := hS7.setY 2 (.int .u64 ov) (u2 := .int .u64 ov) rfl
            replace hr7 := hide hr7
            go_wp2_with fail
            refine hS8.txt.mono ?_
            rintro e w9 (⟨dv, q9, hr9, hdv, rfl, hS9⟩ | ⟨hr9, dv, q9, rfl, hS9⟩)
            · obtain ⟨⟨c0, c1, c2, c3, c4, c5, c6⟩, cf⟩ := hS9.fx
              replace hr9 := hide hr9
              go_wp2_with fail
              go_meet
              exact .inl ⟨{ frZ 5 false with stream := sv, offset := ov, data := dv }, q9, none, 0, 0, by rw [unhide hraw, unhide hr5]; simp [unhide hr7, unhide hr9], hS9.setY 5 _ rfl, FrV.nil _ _ (unhide okz _ _ _ _ _ _ (by simp [frZ]) hsv hov v0) rfl hdv, fun x hx => by cases hx⟩
            · obtain ⟨⟨c0, c1, c2, c3, c4, c5, c6⟩, cf⟩ := hS9.fx
              replace hr9 := hide hr9
              go_wp2_with fail
              go_meet
              exact .inr ⟨by rw [unhide hraw, unhide hr5]; simp [unhide hr7, unhide hr9], _, _, _, _, _, _, _, _, _, _, hS9.setY 5 _ rfl⟩
          · obtain ⟨⟨c0, c1, c2, c3, c4, c5, c6⟩, cf⟩ := hS7.fx
            have hS8 := hS7.setY 2 (.int .u64 0) (u2 := .int .u64 0) rfl
            replace hr7 := hide hr7
            go_wp2_with fail
            refine hS8.txtB.mono ?_
            rintro e w9 ⟨dv, q9, rfl, hS9⟩
            obtain ⟨⟨c0, c1, c2, c3, c4, c5, c6⟩, cf⟩ := hS9.fx
            go_wp2_with fail
            go_meet
            exact .inr ⟨by rw [unhide hraw, unhide hr5]; simp [unhide hr7], _, _, _, _, _, _, _, _, _, _, hS9.setY 5 _ rfl⟩
        · obtain ⟨⟨c0, c1, c2, c3, c4, c5, c6⟩, cf⟩ := hS5.fx
          have hS6 := hS5.setY 1 (.int .i64 0) (u1 := .int .i64 0) rfl
          replace hr5 := hide hr5
          go_wp2_with fail
          refine hS6.numB.mono ?_
          rintro e w7 ⟨ov, q7, rfl, hS7⟩
          obtain ⟨⟨c0, c1, c2, c3, c4, c5, c6⟩, cf⟩ := hS7.fx
          have hS8 := hS7.setY 2 (.int .u64 ov) (u2 := .int .u64 ov) rfl
          go_wp2_with fail
          refine hS8.txtB.mono ?_
          rintro e w9 ⟨dv, q9, rfl, hS9⟩
          obtain ⟨⟨c0, c1, c2, c3, c4, c5, c6⟩, cf⟩ := hS9.fx
          go_wp2_with fail
          go_meet
          exact .inr ⟨by rw [unhide hraw, unhide hr5]; rfl, _, _, _, _, _, _, _, _, _, _, hS9.setY 5 _ rfl⟩
      · have hraw : rawR l 9 (p + 1) = (streamR l (p + 1)).bind fun x => (numR l x.2).bind fun y => (textR l y.2).bind fun z => some ({ frZ 5 true with stream := x.1, offset := y.1, data := z.1 }, z.2) := by
          unfold rawR
          rw [if_neg (by decide), if_neg (by decide), if_neg (by decide), if_neg (by decide), if_pos (by decide)]
          rfl
        replace hraw := hide hraw
        have hS1 := (hST.setY 0 (.int .i64 5) (u0 := .int .i64 5) rfl).setY 4 (.bool true) (u4 := .bool true) rfl
        go_wp2_with fail
        refine hS1.stm.mono ?_
        rintro e w5 (⟨sv, q5, hr5, hsv, rfl, hS5⟩ | ⟨hr5, q5, rfl, hS5⟩)
        · obtain ⟨⟨c0, c1, c2, c3, c4, c5, c6⟩, cf⟩ := hS5.fx
          have hS6 := hS5.setY 1 (.int .i64 sv) (u1 := .int .i64 sv) rfl
          replace hr5 := hide hr5
          go_wp2_with fail
          refine hS6.num.mono ?_
          rintro e w7 (⟨ov, q7, hr7, hov, -, rfl, hS7⟩ | ⟨hr7, rfl, hS7⟩)
          · obtain ⟨⟨c0, c1, c2, c3, c4, c5, c6⟩, cf⟩ := hS7.fx
            have hS8 := hS7.setY 2 (.int .u64 ov) (u2 := .int .u64 ov) rfl
            replace hr7 := hide hr7
            go_wp2_with fail
            refine hS8.txt.mono ?_
            rintro e w9 (⟨dv, q9, hr9, hdv, rfl, hS9⟩ | ⟨hr9, dv, q9, rfl, hS9⟩)
            · obtain ⟨⟨c0, c1, c2, c3, c4, c5, c6⟩, cf⟩ := hS9.fx
              replace hr9 := hide hr9
              go_wp2_with fail
              go_meet
              exact .inl ⟨{ frZ 5 true with stream := sv, offset := ov, data := dv }, q9, none, 0, 0, by rw [unhide hraw, unhide hr5]; simp [unhide hr7, unhide hr9], hS9.setY 5 _ rfl, FrV.nil _ _ (unhide okz _ _ _ _ _ _ (by simp [frZ]) hsv hov v0) rfl hdv, fun x hx => by cases hx⟩
            · obtain ⟨⟨c0, c1, c2, c3, c4, c5, c6⟩, cf⟩ := hS9.fx
              replace hr9 := hide hr9
              go_wp2_with fail
              go_meet
              exact .inr ⟨by rw [unhide hraw, unhide hr5]; simp [unhide hr7, unhide hr9], _, _, _, _, _, _, _, _, _, _, hS9.setY 5 _ rfl⟩
          · obtain ⟨⟨c0, c1, c2, c3, c4, c5, c6⟩, cf⟩ := hS7.fx
            have hS8 := hS7.setY 2 (.int .u64 0) (u2 := .int .u64 0) rfl
            replace hr7 := hide hr7
            go_wp2_with fail
            refine hS8.txtB.mono ?_
            rintro e w9 ⟨dv, q9, rfl, hS9⟩
            obtain ⟨⟨c0, c1, c2, c3, c4, c5, c6⟩, cf⟩ := hS9.fx
            go_wp2_with fail
            go_meet
            exact .inr ⟨by rw [unhide hraw, unhide hr5]; simp [unhide hr7], _, _, _, _, _, _, _, _, _, _, hS9.setY 5 _ rfl⟩
        · obtain ⟨⟨c0, c1, c2, c3, c4, c5, c6⟩, cf⟩ := hS5.fx
          have hS6 := hS5.setY 1 (.int .i64 0) (u1 := .int .i64 0) rfl
          replace hr5 := hide hr5
          go_wp2_with fail
          refine hS6.numB.mono ?_
          rintro e w7 ⟨ov, q7, rfl, hS7⟩
          obtain ⟨⟨c0, c1, c2, c3, c4, c5, c6⟩, cf⟩ := hS7.fx
          have hS8 := hS7.setY 2 (.int .u64 ov) (u2 := .int .u64 ov) rfl
          go_wp2_with fail
          refine hS8.txtB.mono ?_
          rintro e w9 ⟨dv, q9, rfl, hS9⟩
          obtain ⟨⟨c0, c1, c2, c3, c4, c5, c6⟩, cf⟩ := hS9.fx
          go_wp2_with fail
          go_meet
          exact .inr ⟨by rw [unhide hraw, unhide hr5]; rfl, _, _, _, _, _, _, _, _, _, _, hS9.setY 5 _ rfl⟩
    · have hraw : rawR l 28 (p + 1) = (numR l (p + 1)).bind fun x => some ({ frZ 6 false with code := x.1 }, x.2) := by
        unfold rawR
        rw [if_neg (by decide), if_neg (by decide), if_neg (by decide), if_neg (by decide), if_neg (by decide), if_pos rfl]
      replace hraw := hide hraw
      have hS1 := hST.setY 0 (.int .i64 6) (u0 := .int .i64 6) rfl
      go_wp2_with fail
      refine hS1.num.mono ?_
      rintro e w7 (⟨cv, q7, hr7, hcv, -, rfl, hS7⟩ | ⟨hr7, rfl, hS7⟩)
      · obtain ⟨⟨c0, c1, c2, c3, c4, c5, c6⟩, cf⟩ := hS7.fx
        replace hr7 := hide hr7
        go_wp2_with fail
        go_meet
        exact .inl ⟨{ frZ 6 false with code := cv }, q7, none, 0, 0, by rw [unhide hraw, unhide hr7]; rfl, hS7.setY 3 _ rfl, FrV.nil _ _ (unhide okz _ _ _ _ _ _ (by simp [frZ]) (by simp [frZ]) v0 hcv) rfl (by simp [frZ]), fun x hx => by cases hx⟩
      · obtain ⟨⟨c0, c1, c2, c3, c4, c5, c6⟩, cf⟩ := hS7.fx
        replace hr7 := hide hr7
        go_wp2_with fail
        go_meet
        exact .inr ⟨by rw [unhide hraw, unhide hr7]; rfl, _, _, _, _, _, _, _, _, _, _, hS7.setY 3 _ rfl⟩
    · have hr : rawR l t (p + 1) = none := by
        unfold rawR
        rw [if_neg n0, if_neg n1, if_neg n2, if_neg n4, if_neg (fun e => e.elim n8 n9), if_neg n28]
      replace hr := hide hr
      obtain ⟨x0, x1, x2, xf⟩ := cells3 hST.rc.x
      have f0 : (t == 0) = false := by simp [n0]
      have f1 : (t == 1) = false := by simp [n1]
      have f2 : (t == 2) = false := by simp [n2]
      have f4 : (t == 4) = false := by simp [n4]
      have f8 : (t == 8) = false := by simp [n8]
      have f9 : (t == 9) = false := by simp [n9]
      have f28 : (t == 28) = false := by simp [n28]
      go_wp2_with fail
      go_meet
      exact .inr ⟨unhide hr, p + 1, _, _, _, _, _, _, _, _, _, hST.call (gb_set (World.grownBy.refl _ _) ⟨X, 2, none⟩ (.bool true) (.inr rfl)) (hST.rc.x.setBad true) hST.rc.hp⟩
  case rest =>
    clear x0 x1 x2 xf y1
    have hif := hide info_fr
    rcases hcut with ⟨f, q, A, NN, C, hraw, hS, hfv, hnew⟩ | ⟨hraw, q, k0, k1, k2, k3, k4, k5, A, NN, C, hS⟩
    · have hfr2 := unhide hfr
      rw [hraw] at hfr2
      simp only [Option.bind_some] at hfr2
      obtain ⟨x0, x1, x2, xf⟩ := cells3 hS.rc.x
      have hSD := sound_any f (.slice A NN C) wc hfv
      have hq := hS.rc.hp
      obtain ⟨kd, sm, of, cd, fin, d, rg⟩ := f
      have hY := hS.y
      simp only [frA] at hSD hY
      replace hSD := hide hSD
      replace hY := hide hY
      replace hfr2 := hide hfr2
      replace hraw := hide hraw
      replace hfv := hide hfv
      go_wp2_with (refine wpList_load_row (by rfl) 46 _ (by rfl) (w.heap.size + 1) (by rfl) 46 _ (0, 0) _ (unhide hY) Tryd.underlying46 (by rfl) (unhide hif) ?_)
      refine (unhide hSD).mono ?_
      rintro e w8 ⟨⟨bo, rfl, hbo⟩, g8⟩
      have hS8 := hS.call (gb_none g8 _) (hS.rc.x.gb g8 (by simp)) hq
      obtain ⟨z0, z1, z2, zf⟩ := cells3 hS8.rc.x
      obtain ⟨⟨r0, r1, r2, r3, r4, r5, r6⟩, rf⟩ := And.intro (cells7 hS8.r) (cells7f hS8.r)
      obtain ⟨⟨s0, s1, s2, s3, s4, s5, s6⟩, sf⟩ := hS8.fx
      have hfv8 := (unhide hfv).gb0 g8
      have hXne : X ≠ w.heap.size + 1 := by omega
      have hXne2 : X ≠ w.heap.size := by omega
      replace hfv8 := hide hfv8
      cases bo
      · have hnone : frameR l p = none := by
          rw [unhide hfr2]
          exact if_neg (fun h => by have := hbo.2 h; cases this)
        replace hnone := hide hnone
        replace hbo := hide hbo
        go_wp2_with fail
        refine bodyPost_ret (v := .agg #[.int .i64 kd, .int .i64 sm, .int .u64 of, .int .u64 cd, .bool fin, .string d, .slice A NN C]) ?_ rfl ?_
        · simp [results, Tryd.results27, go_sem, r0, r1, r2, r3, r4, r5, r6]
        · have h7 := seven (gb_set hS8.g ⟨X, 2, none⟩ (.bool true) (.inr rfl)) (hS8.rc.x.setBad true) hXne2 (.int .i64 kd) (.int .i64 sm) (.int .u64 of) (.int .u64 cd) (.bool fin) (.string d) (.slice A NN C)
          exact ⟨h7.1, .inr ⟨unhide hnone, q, kd, sm, of, cd, fin, d, A, NN, C, rfl, h7.2, hq⟩⟩
      · have hsome : frameR l p = some (⟨kd, sm, of, cd, fin, d, rg⟩, q) := by
          rw [unhide hfr2]
          exact if_pos (hbo.1 rfl)
        replace hsome := hide hsome
        replace hbo := hide hbo
        go_wp2_with fail
        refine bodyPost_ret (v := .agg #[.int .i64 kd, .int .i64 sm, .int .u64 of, .int .u64 cd, .bool fin, .string d, .slice A NN C]) ?_ rfl ?_
        · simp [results, Tryd.results27, go_sem, r0, r1, r2, r3, r4, r5, r6]
        · have h7 := seven (gb_set hS8.g ⟨X, 2, none⟩ (.bool false) (.inr rfl)) (hS8.rc.x.setBad false) hXne2 (.int .i64 kd) (.int .i64 sm) (.int .u64 of) (.int .u64 cd) (.bool fin) (.string d) (.slice A NN C)
          have hn1 : ∀ x, A = some x → x.block ≠ w.heap.size := fun x hx => by have := hnew x hx; omega
          have hn2 : ∀ x, A = some x → x.block ≠ X := fun x hx => by have := hnew x hx; omega
          exact ⟨h7.1, .inl ⟨_, q, A, NN, C, unhide hsome, rfl, FrV.set (FrV.set (FrV.set (FrV.set (FrV.set (FrV.set (FrV.set (FrV.set (unhide hfv8) _ _ hn2) _ _ hn1) _ _ hn1) _ _ hn1) _ _ hn1) _ _ hn1) _ _ hn1) _ _ hn1, fun x hx => by have := hnew x hx; omega, h7.2, hq⟩⟩
    · have hnone : frameR l p = none := by rw [unhide hfr, hraw]; rfl
      replace hnone := hide hnone
      replace hraw := hide hraw
      obtain ⟨z0, z1, z2, zf⟩ := cells3 hS.rc.x
      obtain ⟨⟨r0, r1, r2, r3, r4, r5, r6⟩, rf⟩ := And.intro (cells7 hS.r) (cells7f hS.r)
      obtain ⟨⟨s0, s1, s2, s3, s4, s5, s6⟩, sf⟩ := hS.fx
      have hXne2 : X ≠ w.heap.size := by omega
      go_wp2_with fail
      refine bodyPost_ret (v := .agg #[.int .i64 k0, .int .i64 k1, .int .u64 k2, .int .u64 k3, .bool k4, .string k5, .slice A NN C]) ?_ rfl ?_
      · simp [results, Tryd.results27, go_sem, r0, r1, r2, r3, r4, r5, r6]
      · have h7 := seven hS.g hS.rc.x hXne2 (.int .i64 k0) (.int .i64 k1) (.int .u64 k2) (.int .u64 k3) (.bool k4) (.string k5) (.slice A NN C)
        exact ⟨h7.1, .inr ⟨unhide hnone, q, k0, k1, k2, k3, k4, k5, A, NN, C, rfl, h7.2, hS.rc.hp⟩⟩
end Go.Proofs.YtjnmokmchdfchaaDoor
