import Derived.Test.YtjnmokmchdfchaaDoorStr
import Derived.Lib.AppendStr
namespace Go.Proofs.YtjnmokmchdfchaaDoor
open Go.RowKit

theorem strCells_bl (s : ByteArray) : Lib.strCells s = bv (bl s) := by
  unfold Lib.strCells bv bl
  rw [List.map_map]
  rfl
theorem run_appendS {w : World} (ty : TypeId) (base : Nat) (v : Value) (l : List Int) (hown : OwnB w base v l) (s : ByteArray) (hlen : l.length + s.size ≤ 100000000) (hbase : base ≤ w.heap.size) :
    ∃ a' n' cap' w', (Builtin.append_ #[23, 9] ty #[v, .string s]).run Tryd.prog w = .ok (.slice a' n' cap') w' ∧ OwnB w' base (.slice a' n' cap') (l ++ bl s) ∧ w.grownBy w' v.ownBlock ∧ ((Value.slice a' n' cap').ownBlock = v.ownBlock ∨ (Value.slice a' n' cap').ownBlock = some w.heap.size) := by
  obtain ⟨i0, hi, hz0, hz1, hz2⟩ := info_parts Tryd.info5
  obtain ⟨v', w', hr, h2, h3, h4⟩ := Lib.run_append_own_string (P := Tryd.prog) w base 23 9 ty 5 i0 Tryd.underlying23 Tryd.underlying9 hi hz0 hz1 hz2 v l.length (bv l) hown.2 s (by simp [maxLen]; omega) (by omega) hbase
  have hb : v'.ownBlock = v.ownBlock ∨ v'.ownBlock = some w.heap.size := by
    obtain ⟨-, hl, ⟨rfl, hn⟩ | ⟨g, cap, cur, rfl, hbg, hg, hnc, hcm, hcs, htake⟩⟩ := id hown
    · by_cases hm : s.size = 0
      · rw [h4.2 ⟨rfl, hm⟩]; exact .inl rfl
      · have hr2 := run_append_nil_string (P := Tryd.prog) w 23 9 ty 5 i0 _ Tryd.underlying23 Tryd.underlying9 hi hz0 s (by omega) (by omega) (by rw [hz2]; omega)
        rw [hr] at hr2
        simp only [Result.ok.injEq] at hr2
        rw [hr2.1]; exact .inr rfl
    · by_cases hroom : l.length + s.size ≤ cap
      · have hr2 := Lib.run_append_room_string (P := Tryd.prog) w 23 9 ty 5 i0 Tryd.underlying23 Tryd.underlying9 hi hz1 g l.length cap cur hg s hroom (by rw [hcs]; omega)
        rw [hr] at hr2
        simp only [Result.ok.injEq] at hr2
        rw [hr2.1]; exact .inl rfl
      · have hr2 := Lib.run_append_grow_string (P := Tryd.prog) w 23 9 ty 5 i0 _ Tryd.underlying23 Tryd.underlying9 hi hz0 ⟨g, 0, none⟩ l.length cap (bv l) (by rw [hz1, bv_len]; omega) (hown.2.cells (g := g) rfl) s (by omega) (by omega) (by rw [hz2]; exact growslice_fits (by omega) (by omega))
        rw [hr] at hr2
        simp only [Result.ok.injEq] at hr2
        rw [hr2.1]; exact .inr rfl
  have hO : OwnB w' base v' (l ++ bl s) := by
    refine ⟨fun y hy => (List.mem_append.1 hy).elim (hown.1 y) (bl_w s y), ?_⟩
    rw [strCells_bl] at h2
    rw [List.length_append, bl_len]
    simpa [bv] using h2
  obtain ⟨a', cap', hv, _⟩ := hO.bs
  rw [hv] at hr hO hb
  exact ⟨a', _, cap', w', hr, hO, h3, hb⟩
theorem wp_appendS {w : World} {o : Oper} {a : Act} {K : Act → World → Prop} {Q : Exit → Act → World → Prop} (s x : Operand)
    (ho : o.op = .call { callee := .builtin .append, args := #[s, x], argTypes := #[23, 9] })
    (base : Nat) (v : Value) (l : List Int) (hs : a.eval s = v) (hown : OwnB w base v l) (d : ByteArray) (hx : a.eval x = .string d) (hlen : l.length + d.size ≤ 100000000) (hbase : base ≤ w.heap.size)
    (h : ∀ a' n' cap' w', OwnB w' base (.slice a' n' cap') (l ++ bl d) → w.grownBy w' v.ownBlock → ((Value.slice a' n' cap').ownBlock = v.ownBlock ∨ (Value.slice a' n' cap').ownBlock = some w.heap.size) →
      K (a.put o.dst (.slice a' n' cap')) w') : Oper.wp Tryd.prog o a w K Q := by
  obtain ⟨a', n', cap', w', hr, h2, h3, h4⟩ := run_appendS (w := w) o.type base v l hown d hlen hbase
  unfold Oper.wp execOp
  simp only [ho, resolve, invoke, builtin, Sem.run_bind, Sem.run_pure, Result.andThen_ok, List.map_toArray, List.map_cons, List.map_nil, hs, hx, hr]
  exact h a' n' cap' w' h2 h3 h4
/-- append(b, s...) of a string. -/
theorem wpList_appendS {w : World} {ops : Array Oper} {rest : List Oper} {o : Oper} {a : Act} {Q : Exit → Act → World → Prop} (hgd : o.guard = none) (s x : Operand)
    (ho : o.op = .call { callee := .builtin .append, args := #[s, x], argTypes := #[23, 9] })
    (base : Nat) (v : Value) (l : List Int) (hs : a.eval s = v) (hown : OwnB w base v l) (d : ByteArray) (hx : a.eval x = .string d) (hlen : l.length + d.size ≤ 100000000) (hbase : base ≤ w.heap.size)
    (h : ∀ a' n' cap' w', OwnB w' base (.slice a' n' cap') (l ++ bl d) → w.grownBy w' v.ownBlock → ((Value.slice a' n' cap').ownBlock = v.ownBlock ∨ (Value.slice a' n' cap').ownBlock = some w.heap.size) →
      wpList Tryd.prog ops Q rest (a.put o.dst (.slice a' n' cap')) w') : wpList Tryd.prog ops Q (o :: rest) a w :=
  wpList_plain hgd fun _ hK => wp_appendS s x ho base v l hs hown d hx hlen hbase fun a' n' cap' w' h1 h2 h3 => hK _ _ (h a' n' cap' w' h1 h2 h3)
theorem step_appendS {w : World} {ops : Array Oper} {o : Oper} {a : Act} {K : Act → World → Prop} {Q : Exit → Act → World → Prop} {E : Prop} (hgd : o.guard = none) (s x : Operand)
    (ho : o.op = .call { callee := .builtin .append, args := #[s, x], argTypes := #[23, 9] })
    (base : Nat) (v : Value) (l : List Int) (hs : a.eval s = v) (hown : OwnB w base v l) (d : ByteArray) (hx : a.eval x = .string d) (hlen : l.length + d.size ≤ 100000000) (hbase : base ≤ w.heap.size)
    (h : ∀ a' n' cap' w', OwnB w' base (.slice a' n' cap') (l ++ bl d) → w.grownBy w' v.ownBlock → ((Value.slice a' n' cap').ownBlock = v.ownBlock ∨ (Value.slice a' n' cap').ownBlock = some w.heap.size) →
      K (a.put o.dst (.slice a' n' cap')) w') : if Region.wanted o (yielded ops a.tmps) = true then Oper.wp Tryd.prog o a w K Q else E := by
  have hw : Region.wanted o (yielded ops a.tmps) = true := by simp [Region.wanted, hgd]
  rw [if_pos hw]
  exact wp_appendS s x ho base v l hs hown d hx hlen hbase h
end Go.Proofs.YtjnmokmchdfchaaDoor
