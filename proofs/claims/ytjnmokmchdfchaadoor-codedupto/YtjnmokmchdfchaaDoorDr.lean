import Derived.Test.YtjnmokmchdfchaaDoorDp
namespace Go.Proofs.YtjnmokmchdfchaaDoor
open Go.RowKit
attribute [local go_sem ↓] Go.wp_at_zero Go.wp_at_succ

/-! ### ranges that are appended -/
def OwnR (w : World) (base : Nat) (v : Value) (l : List Rg) : Prop := (∀ r ∈ l, r.ok) ∧ w.ownsRow base 54 2 v l.length (rcs l)
theorem OwnR.lt {w : World} {base : Nat} {v : Value} {l : List Rg} (h : OwnR w base v l) : ∀ k, v.ownBlock = some k → base ≤ k ∧ k < w.heap.size := h.2.lt
theorem OwnR.gb {w w' : World} {base : Nat} {v : Value} {l : List Rg} {r : Option Nat} (h : OwnR w base v l) (g : w.grownBy w' r) (hr : v.ownBlock = none ∨ v.ownBlock ≠ r) : OwnR w' base v l := ⟨h.1, h.2.kept g hr⟩
theorem OwnR.gb0 {w w' : World} {base : Nat} {v : Value} {l : List Rg} (h : OwnR w base v l) (g : w.grownBy w' none) : OwnR w' base v l := h.gb g (by cases v.ownBlock <;> simp)
theorem OwnR.rsv {w : World} {base : Nat} {a : Option Addr} {n c : Nat} {l : List Rg} (h : OwnR w base (.slice a n c) l) : RSv w a n c l ∧ ∀ x, a = some x → base ≤ x.block := by
  obtain ⟨h1, h2, h3⟩ := h
  rcases h3 with ⟨e, hn⟩ | ⟨g, cap, cur, e, hb, hg, hc, hm, hs, ht⟩
  · cases e
    exact ⟨⟨h1, hn.symm, by simp, by simp [maxLen], .inl rfl⟩, fun x hx => by cases hx⟩
  · cases e
    refine ⟨⟨h1, rfl, hc, hm, .inr ⟨g, 0, rfl, fun j v hj => ?_⟩⟩, fun x hx => by cases hx; exact hb⟩
    have hlt : j < (rcs l).length := (List.getElem?_eq_some_iff.1 hj).1
    rw [← ht, List.getElem?_take, if_pos (by rw [h2] at hlt; exact hlt)] at hj
    simp only [World.cell?, hg, Nat.zero_add]
    simpa using hj
theorem Tryd.infoR : (Tryd.prog.info? 54).map (fun i => (i.zero, i.size, i.bytes)) = some (some (.agg #[.int .u64 0, .int .u64 0]), 2, 16) := by kernel_rfl
theorem rcs_append (l m : List Rg) : rcs (l ++ m) = rcs l ++ rcs m := by simp [rcs]
theorem ownR_one (w : World) (r : Rg) (hr : r.ok) (base : Nat) (hb : base ≤ w.heap.size) : OwnR (w.alloc (.cells #[.int .u64 r.lo, .int .u64 r.hi] 54)) base (.slice (some ⟨w.heap.size, 0, none⟩) 1 1) [r] :=
  ⟨fun x hx => by rw [List.mem_singleton.1 hx]; exact hr, by simp [rcs], .inr ⟨w.heap.size, 1, #[.int .u64 r.lo, .int .u64 r.hi], rfl, hb, heap_alloc_new w _, Nat.le_refl _, by simp [maxLen], by simp, by simp [rcs]⟩⟩
theorem run_appendR {w : World} (ty : TypeId) (base : Nat) (v : Value) (l : List Rg) (hown : OwnR w base v l) (b o c : Nat) (r : Rg) (hr : r.ok) (h0 : w.cell? ⟨b, o, none⟩ = some (.int .u64 r.lo)) (h1 : w.cell? ⟨b, o + 1, none⟩ = some (.int .u64 r.hi)) (hlen : l.length ≤ 100000000) (hbase : base ≤ w.heap.size) :
    ∃ a' n' cap' w', (Builtin.append_ #[44, 44] ty #[v, .slice (some ⟨b, o, none⟩) 1 c]).run Tryd.prog w = .ok (.slice a' n' cap') w' ∧ OwnR w' base (.slice a' n' cap') (l ++ [r]) ∧ w.grownBy w' v.ownBlock ∧ ((Value.slice a' n' cap').ownBlock = v.ownBlock ∨ (Value.slice a' n' cap').ownBlock = some w.heap.size) := by
  obtain ⟨i0, hi, hz0, hz1, hz2⟩ := info_parts Tryd.infoR
  obtain ⟨v', w', hr2, h2, h3, _, h4⟩ := run_append_own_at (P := Tryd.prog) w base 44 ty 54 i0 (.agg #[.int .u64 0, .int .u64 0]) 2 16 Tryd.underlying44 hi hz0 hz1 hz2 rfl (by decide) v l.length (rcs l) hown.2 ⟨b, o, none⟩ 1 c (rcs [r]) rfl (by
      intro j u hj
      rw [Addr.add_mid]
      match j, hj with
      | 0, hj => simp [rcs] at hj; rw [← hj]; exact h0
      | 1, hj => simp [rcs] at hj; rw [← hj]; exact h1) (by
      intro u hu
      simp [rcs] at hu
      rcases hu with rfl | rfl <;> rfl) (by simp [maxLen]; omega) (by omega) hbase
  have hO : OwnR w' base v' (l ++ [r]) := ⟨fun y hy => (List.mem_append.1 hy).elim (hown.1 y) (fun h => by rw [List.mem_singleton.1 h]; exact hr), by rw [List.length_append, rcs_append]; exact h2⟩
  obtain ⟨-, -, ⟨rfl, e2⟩ | ⟨g, cap, cur, rfl, _⟩⟩ := id hO
  · exact ⟨_, _, _, w', hr2, hO, h3, h4⟩
  · exact ⟨_, _, _, w', hr2, hO, h3, h4⟩
theorem wpList_appendR {w : World} {ops : Array Oper} {rest : List Oper} {o : Oper} {a : Act} {Q : Exit → Act → World → Prop} (hgd : o.guard = none) (s x : Operand)
    (ho : o.op = .call { callee := .builtin .append, args := #[s, x], argTypes := #[44, 44] })
    (base : Nat) (v : Value) (l : List Rg) (hs : a.eval s = v) (hown : OwnR w base v l) (b f c : Nat) (r : Rg) (hr : r.ok) (hx : a.eval x = .slice (some ⟨b, f, none⟩) 1 c) (h0 : w.cell? ⟨b, f, none⟩ = some (.int .u64 r.lo)) (h1 : w.cell? ⟨b, f + 1, none⟩ = some (.int .u64 r.hi)) (hlen : l.length ≤ 100000000) (hbase : base ≤ w.heap.size)
    (h : ∀ a' n' cap' w', OwnR w' base (.slice a' n' cap') (l ++ [r]) → w.grownBy w' v.ownBlock → ((Value.slice a' n' cap').ownBlock = v.ownBlock ∨ (Value.slice a' n' cap').ownBlock = some w.heap.size) →
      wpList Tryd.prog ops Q rest (a.put o.dst (.slice a' n' cap')) w') : wpList Tryd.prog ops Q (o :: rest) a w :=
  wpList_plain hgd fun _ hK => by
    obtain ⟨a', n', cap', w', hr2, h2, h3, h4⟩ := run_appendR (w := w) o.type base v l hown b f c r hr h0 h1 hlen hbase
    unfold Oper.wp execOp
    simp only [ho, resolve, invoke, builtin, Sem.run_bind, Sem.run_pure, Result.andThen_ok, List.map_toArray, List.map_cons, List.map_nil, hs, hx, hr2]
    exact hK _ _ (h a' n' cap' w' h2 h3 h4)

/-! ### streams, differences -/
def StrA (w : World) (X : Nat) (sl : Value) (st : Nat) (r : Option (Int × Nat)) (e : Ending) (w' : World) : Prop :=
  w.grownBy w' (some X) ∧ ((∃ v q, r = some (v, q) ∧ e = .returned (.int .i64 v) ∧ RdS w' X sl q st) ∨ (r = none ∧ e = PN ∧ ∃ p', RdS w' X sl p' st))
set_option maxRecDepth 100000 in
theorem pStream_any (X bb o n cap : Nat) (l : List Int) (p st : Nat) (w : World) (hX : RdS w X (.slice (some ⟨bb, o, none⟩) n cap) p st) (hb : BSv w (some ⟨bb, o, none⟩) n cap l) (hXb : bb ≠ X) (hp : p ≤ l.length) (hl : l.length ≤ 100000000) :
    Calls Tryd.prog 91 #[.pointer (some ⟨X, 0, none⟩)] w (StrA w X (.slice (some ⟨bb, o, none⟩) n cap) st (streamR l p)) := by
  have h8 := hb.1
  go_enter Tryd.func91, Tryd.ntmps91
  go_wp2_with fail
  refine (pNumber_any X bb o n cap l p st w hX hb hXb hp hl).mono ?_
  rintro e w1 ⟨g1, ⟨v, q, hr, rfl, hX1⟩ | ⟨hr, rfl, hX1⟩⟩
  · have hv := numR_some h8 hr
    obtain ⟨⟨v0, v1⟩, -⟩ := hv
    replace hr := hide hr
    by_cases h4 : 4 ≤ v
    · have hnone : streamR l p = none := by unfold streamR; rw [unhide hr]; simp; omega
      replace hnone := hide hnone
      go_wp2_with (go_at_call 59; refine (refuse_any X _).mono ?_; rintro e w' ⟨rfl, rfl⟩)
      exact ⟨rfl, g1, .inr ⟨unhide hnone, rfl, q, hX1⟩⟩
    · have hsome : streamR l p = some (v, q) := by unfold streamR; rw [unhide hr]; simp; omega
      replace hsome := hide hsome
      have hwv : IntKind.i64.wrap v = v := by simp [IntKind.wrap, IntKind.bits, IntKind.signed]; omega
      go_wp2_with fail
      go_ret
      exact ⟨g1, .inl ⟨v, q, unhide hsome, rfl, hX1⟩⟩
  · have hnone : streamR l p = none := by unfold streamR; rw [hr]; rfl
    exact ⟨rfl, g1, .inr ⟨hnone, rfl, hX1⟩⟩
def LessA (x y : Int) (w : World) (e : Ending) (w' : World) : Prop := w' = w ∧ ((y ≤ x ∧ e = .returned (.int .u64 (x - y))) ∨ (x < y ∧ e = PN))
set_option maxRecDepth 100000 in
theorem less_any (X : Nat) (x y : Int) (w : World) (hx : W64 x) (hy : W64 y) : Calls Tryd.prog 104 #[.pointer (some ⟨X, 0, none⟩), .int .u64 x, .int .u64 y] w (LessA x y w) := by
  unfold W64 at hx hy
  by_cases h : x < y
  · go_enter Tryd.func104, Tryd.ntmps104
    go_wp2_with (go_at_call 59; refine (refuse_any X _).mono ?_; rintro e w' ⟨rfl, rfl⟩)
    exact ⟨rfl, rfl, .inr ⟨h, rfl⟩⟩
  · have hw := sub64 (x := x) (y := y) (by omega) (by omega)
    go_enter Tryd.func104, Tryd.ntmps104
    go_wp2_with fail
    go_ret
    exact ⟨rfl, .inl ⟨by omega, rfl⟩⟩
end Go.Proofs.YtjnmokmchdfchaaDoor
