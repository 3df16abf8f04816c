import Derived.Test.YtjnmokmchdfchaaDoorEt
import Derived.Test.YtjnmokmchdfchaaDoorRs
import Derived.Test.YtjnmokmchdfchaaDoorDz
namespace Go.Proofs.YtjnmokmchdfchaaDoor
open Go.RowKit
attribute [local go_sem ↓] Go.wp_at_zero Go.wp_at_succ

/-- The document's reader and its frame. -/
structure ST (w : World) (X Y bb o n cap : Nat) (l : List Int) (W : World) (q : Nat) (bad : Bool) (v0 v1 v2 v3 v4 v5 v6 : Value) : Prop where
  rc : RC2 W X bb o n cap l q bad
  y : W.heap[Y]? = some (.cells #[v0, v1, v2, v3, v4, v5, v6] 46 (0, 0))
  g : w.grownBy W (some X)
  r : W.heap[w.heap.size]? = some (.cells #[.int .i64 0, .int .i64 0, .int .u64 0, .int .u64 0, .bool false, .string { data := #[] }, .slice none 0 0] 46 (0, 0))
  xy : X < w.heap.size
  wy : w.heap.size < Y
  by' : bb < w.heap.size
section
variable {w : World} {X Y bb o n cap : Nat} {l : List Int} {W W' : World} {q q' : Nat} {bad bad' : Bool} {v0 v1 v2 v3 v4 v5 v6 : Value}
theorem ST.call (h : ST w X Y bb o n cap l W q bad v0 v1 v2 v3 v4 v5 v6) (g : W.grownBy W' (some X)) (hx : RfS W' X (.slice (some ⟨bb, o, none⟩) n cap) q' bad') (hq : q' ≤ l.length) : ST w X Y bb o n cap l W' q' bad' v0 v1 v2 v3 v4 v5 v6 :=
  ⟨h.rc.next g hx hq, (g.block Y (Array.getElem?_eq_some_iff.1 h.y).1 (fun e => by have := Option.some.inj e; have := h.xy; have := h.wy; omega)).trans h.y, gb_trans h.g g, (g.block _ (Array.getElem?_eq_some_iff.1 h.r).1 (fun e => by have := Option.some.inj e; have := h.xy; omega)).trans h.r, h.xy, h.wy, h.by'⟩
theorem ST.setY (h : ST w X Y bb o n cap l W q bad v0 v1 v2 v3 v4 v5 v6) (i : Nat) (v : Value) {u0 u1 u2 u3 u4 u5 u6 : Value} (e : #[v0, v1, v2, v3, v4, v5, v6].setIfInBounds i v = #[u0, u1, u2, u3, u4, u5, u6]) : ST w X Y bb o n cap l (W.setCell ⟨Y, i, none⟩ v) q bad u0 u1 u2 u3 u4 u5 u6 := by
  have h1 := h.xy
  have h2 := h.wy
  have h3 := h.by'
  have g1 : W.grownBy (W.setCell ⟨Y, i, none⟩ v) (some Y) := gb_set (World.grownBy.refl _ _) _ _ (.inr rfl)
  refine ⟨⟨(Below.heap_setCell _ _ _ _ (by show X ≠ Y; omega)).trans h.rc.x, h.rc.b.gb g1 (fun j e => .inr (.inr (fun x hx => by cases hx; cases e; show bb ≠ Y; omega))), h.rc.xb, h.rc.hp, h.rc.hl⟩, ?_, gb_set h.g _ _ (.inl (by show _ ≤ Y; omega)), (Below.heap_setCell _ _ _ _ (by show w.heap.size ≠ Y; omega)).trans h.r, h1, h2, h3⟩
  rw [heap_set h.y, e]
theorem ST.fx (h : ST w X Y bb o n cap l W q bad v0 v1 v2 v3 v4 v5 v6) : (W.cell? ⟨Y, 0, none⟩ = some v0 ∧ W.cell? ⟨Y, 1, none⟩ = some v1 ∧ W.cell? ⟨Y, 2, none⟩ = some v2 ∧ W.cell? ⟨Y, 3, none⟩ = some v3 ∧ W.cell? ⟨Y, 4, none⟩ = some v4 ∧ W.cell? ⟨Y, 5, none⟩ = some v5 ∧ W.cell? ⟨Y, 6, none⟩ = some v6) ∧ ∀ i, W.frozen? ⟨Y, i, none⟩ = false := ⟨cells7 h.y, cells7f h.y⟩
theorem ST.num (h : ST w X Y bb o n cap l W q bad v0 v1 v2 v3 v4 v5 v6) : Calls Tryd.prog 45 #[.pointer (some ⟨X, 0, none⟩)] W fun e W' => (∃ v q', numR l q = some (v, q') ∧ V62 v ∧ q < q' ∧ e = .returned (.int .u64 v) ∧ ST w X Y bb o n cap l W' q' bad v0 v1 v2 v3 v4 v5 v6) ∨ (numR l q = none ∧ e = .returned (.int .u64 0) ∧ ST w X Y bb o n cap l W' q true v0 v1 v2 v3 v4 v5 v6) := by
  refine h.rc.num.mono ?_
  rintro e W' ⟨g, ⟨v, q', hr, rfl, hx⟩ | ⟨hr, rfl, hx⟩⟩
  · obtain ⟨h1, h2, h3⟩ := numR_some h.rc.b.1 hr
    exact .inl ⟨v, q', hr, h1, h2, rfl, h.call g hx h3⟩
  · exact .inr ⟨hr, rfl, h.call g hx h.rc.hp⟩
theorem ST.numB (h : ST w X Y bb o n cap l W q true v0 v1 v2 v3 v4 v5 v6) : Calls Tryd.prog 45 #[.pointer (some ⟨X, 0, none⟩)] W fun e W' => ∃ v q', e = .returned (.int .u64 v) ∧ ST w X Y bb o n cap l W' q' true v0 v1 v2 v3 v4 v5 v6 := by
  refine h.num.mono ?_
  rintro e W' (⟨v, q', -, -, -, rfl, hs⟩ | ⟨-, rfl, hs⟩)
  · exact ⟨v, q', rfl, hs⟩
  · exact ⟨0, q, rfl, hs⟩
theorem ST.stm (h : ST w X Y bb o n cap l W q bad v0 v1 v2 v3 v4 v5 v6) : Calls Tryd.prog 44 #[.pointer (some ⟨X, 0, none⟩)] W fun e W' => (∃ v q', streamR l q = some (v, q') ∧ (0 ≤ v ∧ v < 4) ∧ e = .returned (.int .i64 v) ∧ ST w X Y bb o n cap l W' q' bad v0 v1 v2 v3 v4 v5 v6) ∨ (streamR l q = none ∧ ∃ q', e = .returned (.int .i64 0) ∧ ST w X Y bb o n cap l W' q' true v0 v1 v2 v3 v4 v5 v6) := by
  refine (rStream_any X bb o n cap l q bad W h.rc).mono ?_
  rintro e W' (⟨g, v, q', hr, rfl, hx⟩ | ⟨hr, rfl, g, q', hq, hx⟩)
  · have hv : (0 ≤ v ∧ v < 4) ∧ q' ≤ l.length := by
      have hr2 := hr
      unfold streamR at hr2
      cases hn : numR l q with
      | none => rw [hn] at hr2; cases hr2
      | some x =>
        rw [hn] at hr2
        simp only [Option.bind_some] at hr2
        split at hr2
        · cases hr2
          have := numR_some (q := q') (n := v) h.rc.b.1 hn
          unfold V62 at this
          omega
        · cases hr2
    exact .inl ⟨v, q', hr, hv.1, rfl, h.call g hx hv.2⟩
  · exact .inr ⟨hr, q', rfl, h.call g hx hq⟩
theorem ST.txt (h : ST w X Y bb o n cap l W q false v0 v1 v2 v3 v4 v5 v6) : Calls Tryd.prog 46 #[.pointer (some ⟨X, 0, none⟩)] W fun e W' => (∃ v q', textR l q = some (v, q') ∧ v.size ≤ 9223372036854775807 ∧ e = .returned (.string v) ∧ ST w X Y bb o n cap l W' q' false v0 v1 v2 v3 v4 v5 v6) ∨ (textR l q = none ∧ ∃ v q', e = .returned (.string v) ∧ ST w X Y bb o n cap l W' q' true v0 v1 v2 v3 v4 v5 v6) := by
  refine (rText_any X bb o n cap l q W h.rc).mono ?_
  rintro e W' (⟨g, v, q', hr, rfl, hx⟩ | ⟨hr, rfl, g, q', hq, hx⟩)
  · have hv : v.size ≤ 9223372036854775807 ∧ q' ≤ l.length := by
      have hr2 := hr
      unfold textR at hr2
      have hl := h.rc.hl
      cases hn : numR l q with
      | none => rw [hn] at hr2; cases hr2
      | some x =>
        rw [hn] at hr2
        simp only [Option.bind_some] at hr2
        have h9 := numR_some (q := x.2) (n := x.1) h.rc.b.1 hn
        unfold V62 at h9
        split at hr2
        · cases hr2
          rw [strOfNums_size]
          simp
          omega
        · cases hr2
    exact .inl ⟨v, q', hr, hv.1, rfl, h.call g hx hv.2⟩
  · exact .inr ⟨hr, _, q', rfl, h.call g hx hq⟩
theorem ST.txtB (h : ST w X Y bb o n cap l W q true v0 v1 v2 v3 v4 v5 v6) : Calls Tryd.prog 46 #[.pointer (some ⟨X, 0, none⟩)] W fun e W' => ∃ v q', e = .returned (.string v) ∧ ST w X Y bb o n cap l W' q' true v0 v1 v2 v3 v4 v5 v6 := by
  refine (rText_bad X bb o n cap l q W h.rc).mono ?_
  rintro e W' ⟨rfl, g, q', hq, hx⟩
  exact ⟨_, q', rfl, h.call g hx hq⟩
end
end Go.Proofs.YtjnmokmchdfchaaDoor
