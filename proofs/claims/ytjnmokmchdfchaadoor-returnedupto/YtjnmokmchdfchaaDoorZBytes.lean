import Derived.Test.YtjnmokmchdfchaaDoorZBase
import Derived.Maps.AppendAt
import Derived.Laws.AppendOwnNone
import Derived.Laws.CopyOwn
import Derived.Laws.BytesArg
import Derived.Lib.ConvBytes
import Derived.Lib.LazyBuf
import Derived.Deep.LoopGhost
import Derived.Deep.MidRow
namespace Go.Proofs.YtjnmokmchdfchaaDoor
open Go.RowKit

def bv (l : List Int) : List Value := l.map (Value.int .u8)
/-- A slice value with these bytes, nil or not. -/
def BSv (w : World) (a : Option Addr) (n cap : Nat) (l : List Int) : Prop :=
  (∀ x ∈ l, W8 x) ∧ n = l.length ∧ n ≤ cap ∧ cap ≤ maxLen ∧ ((a = none ∧ cap = 0) ∨ ∃ b o, a = some ⟨b, o, none⟩ ∧ BS w b o l)
def OwnB (w : World) (base : Nat) (v : Value) (l : List Int) : Prop := (∀ x ∈ l, W8 x) ∧ w.ownsRow base 5 1 v l.length (bv l)

theorem BS.gb {w w' : World} {b o : Nat} {l : List Int} {r : Option Nat} (h : BS w b o l) (g : w.grownBy w' r) (hr : r ≠ some b) : BS w' b o l :=
  ⟨fun i hi => g.cell (h.1 i hi) (fun e => hr e.symm), h.2⟩
theorem BS.lt {w : World} {b o : Nat} {l : List Int} (h : BS w b o l) (hl : l ≠ []) : b < w.heap.size :=
  World.block_lt_of_cell? w _ (h.1 0 (List.length_pos_iff.2 hl))
theorem BS.nil (w : World) (b o : Nat) : BS w b o [] := ⟨fun i hi => by simp at hi, fun x hx => by simp at hx⟩
theorem BSv.gb {w w' : World} {a : Option Addr} {n cap : Nat} {l : List Int} {r : Option Nat} (h : BSv w a n cap l) (g : w.grownBy w' r) (hr : ∀ j, r = some j → w.heap.size ≤ j ∨ l = [] ∨ ∀ x, a = some x → x.block ≠ j) : BSv w' a n cap l := by
  obtain ⟨h1, h2, h3, h4, h5⟩ := h
  refine ⟨h1, h2, h3, h4, ?_⟩
  rcases h5 with h5 | ⟨b, o, rfl, h5⟩
  · exact .inl h5
  · refine .inr ⟨b, o, rfl, ?_⟩
    by_cases hl : l = []
    · subst hl; exact BS.nil _ _ _
    · have := h5.lt hl
      refine h5.gb g (fun e => ?_)
      rcases hr b e with e | e | e
      · omega
      · exact hl e
      · exact e _ rfl rfl
theorem BSv.gb0 {w w' : World} {a : Option Addr} {n cap : Nat} {l : List Int} (h : BSv w a n cap l) (g : w.grownBy w' none) : BSv w' a n cap l := h.gb g (fun _ e => by cases e)

theorem BSv.below {w w' : World} {B : Nat} {a : Option Addr} {n cap : Nat} {l : List Int} (h : BSv w a n cap l) (g : Below B w w') (ha : ∀ x, a = some x → x.block < B ∨ w.heap.size ≤ B) : BSv w' a n cap l := by
  obtain ⟨h1, h2, h3, h4, h5⟩ := h
  refine ⟨h1, h2, h3, h4, ?_⟩
  rcases h5 with h5 | ⟨b, o, rfl, h5⟩
  · exact .inl h5
  · refine .inr ⟨b, o, rfl, fun i hi => ?_, h5.2⟩
    have hlt := World.block_lt_of_cell? w _ (h5.1 i hi)
    have hB : b < B := by rcases ha _ rfl with e | e; exact e; exact Nat.lt_of_lt_of_le hlt e
    exact (g.cell (p := ⟨b, o + i, none⟩) hB).trans (h5.1 i hi)
theorem OwnB.lt {w : World} {base : Nat} {v : Value} {l : List Int} (h : OwnB w base v l) : ∀ k, v.ownBlock = some k → base ≤ k ∧ k < w.heap.size := h.2.lt
theorem getD_bv (l : List Int) (i : Nat) (h : i < l.length) : (bv l)[i]? = some (.int .u8 (l.getD i 0)) := by
  simp [bv, List.getElem?_eq_getElem h]
/-- What the call owns is a slice of bytes. -/
theorem OwnB.bs {w : World} {base : Nat} {v : Value} {l : List Int} (h : OwnB w base v l) : ∃ a cap, v = .slice a l.length cap ∧ BSv w a l.length cap l ∧ (∀ x, a = some x → base ≤ x.block ∧ x.block < w.heap.size ∧ x.off = 0) ∧ (l ≠ [] → a ≠ none) := by
  obtain ⟨h1, h2, h3⟩ := h
  rcases h3 with ⟨rfl, hn⟩ | ⟨g, cap, cur, rfl, hb, hg, hc, hm, hs, ht⟩
  · have : l = [] := List.eq_nil_of_length_eq_zero hn
    subst this
    exact ⟨none, 0, rfl, ⟨h1, rfl, Nat.le_refl _, by simp [maxLen], .inl ⟨rfl, rfl⟩⟩, (fun _ e => by cases e), (fun e => absurd rfl e)⟩
  · refine ⟨some ⟨g, 0, none⟩, cap, rfl, ⟨h1, rfl, hc, hm, .inr ⟨g, 0, rfl, ?_, h1⟩⟩, (fun x e => by cases e; exact ⟨hb, (Array.getElem?_eq_some_iff.1 hg).1, rfl⟩), (fun _ e => by cases e)⟩
    intro i hi
    have e1 : (bv l)[i]? = cur.toList[i]? := by rw [← ht, List.getElem?_take, if_pos (by omega)]
    rw [getD_bv l i hi] at e1
    simp only [World.cell?, hg, Nat.zero_add]
    simpa using e1.symm
theorem OwnB.nil (w : World) (base : Nat) : OwnB w base (.slice none 0 0) [] := ⟨fun x hx => by simp at hx, World.ownsRow_nil _ _ _ _⟩
theorem OwnB.gb {w w' : World} {base : Nat} {v : Value} {l : List Int} {r : Option Nat} (h : OwnB w base v l) (g : w.grownBy w' r) (hr : v.ownBlock = none ∨ v.ownBlock ≠ r) : OwnB w' base v l := ⟨h.1, h.2.kept g hr⟩
theorem OwnB.gb0 {w w' : World} {base : Nat} {v : Value} {l : List Int} (h : OwnB w base v l) (g : w.grownBy w' none) : OwnB w' base v l := h.gb g (by cases v.ownBlock <;> simp)

theorem OwnB.below {w w' : World} {base B : Nat} {v : Value} {l : List Int} (h : OwnB w base v l) (g : Below B w w') (hB : w.heap.size ≤ B) : OwnB w' base v l :=
  h.gb (r := none) ⟨g.os, g.tape, g.output, g.size, fun k hk _ => g.block k (by omega)⟩ (by cases v.ownBlock <;> simp)
theorem below_append {B : Nat} {a w w' : World} {base : Nat} {v : Value} {l : List Int} (h : Below B a w) (o : OwnB w base v l) (hg : w.grownBy w' v.ownBlock) (hB : B ≤ w.heap.size) (hb : B ≤ base) : Below B a w' :=
  h.grown hg hB (fun k e => Nat.le_trans hb (o.lt k e).1)
theorem one_new (w : World) (x : Int) (hx : W8 x) : BSv (w.alloc (.cells #[.int .u8 x] 5)) (some ⟨w.heap.size, 0, none⟩) 1 1 [x] := by
  have hm : ∀ y ∈ [x], W8 y := fun y hy => by rw [List.mem_singleton.1 hy]; exact hx
  refine ⟨hm, rfl, by simp, by simp [maxLen], .inr ⟨_, _, rfl, ?_, hm⟩⟩
  intro i hi
  obtain rfl : i = 0 := by simpa using hi
  simp
theorem Tryd.info5 : (Tryd.prog.info? 5).map (fun i => (i.zero, i.size, i.bytes)) = some (some (.int .u8 0), 1, 1) := by kernel_rfl

theorem run_appendB {w : World} (ty : TypeId) (base : Nat) (v : Value) (l : List Int) (hown : OwnB w base v l)
    (ax : Option Addr) (nx cx : Nat) (m : List Int) (hm : BSv w ax nx cx m) (hlen : l.length + m.length ≤ 100000000) (hbase : base ≤ w.heap.size) :
    ∃ a' cap' w', (Builtin.append_ #[23, 23] ty #[v, .slice ax nx cx]).run Tryd.prog w = .ok (.slice a' (l.length + m.length) cap') w' ∧ OwnB w' base (.slice a' (l.length + m.length) cap') (l ++ m) ∧ w.grownBy w' v.ownBlock ∧ ((Value.slice a' (l.length + m.length) cap').ownBlock = v.ownBlock ∨ (Value.slice a' (l.length + m.length) cap').ownBlock = some w.heap.size) := by
  obtain ⟨i0, hi, hz0, hz1, hz2⟩ := info_parts Tryd.info5
  obtain ⟨m1, rfl, m3, m4, m5⟩ := hm
  rcases m5 with ⟨rfl, rfl⟩ | ⟨b, off, rfl, m5⟩
  · have : m = [] := List.eq_nil_of_length_eq_zero (by omega)
    subst this
    have hr := run_append_owned_none (P := Tryd.prog) (w := w) base 23 ty 5 i0 1 Tryd.underlying23 hi v _ _ hown.2
    obtain ⟨a', cap', rfl, hf⟩ := hown.bs
    exact ⟨a', cap', w, hr, by simpa using hown, World.grownBy.refl _ _, .inl rfl⟩
  · obtain ⟨v', w', hr, h1, h2, _, h4⟩ := run_append_own_at (P := Tryd.prog) w base 23 ty 5 i0 (.int .u8 0) 1 1 Tryd.underlying23 hi hz0 hz1 hz2 rfl (by decide) v l.length (bv l) hown.2 ⟨b, off, none⟩ m.length cx (bv m) (by simp [bv]) (by
        intro j u hj
        have hlt : j < m.length := by
          have := (List.getElem?_eq_some_iff.1 hj).1
          simpa [bv] using this
        rw [getD_bv m j hlt] at hj
        obtain rfl := Option.some.inj hj
        rw [Addr.add_lit]
        exact m5.1 j hlt) (by
        intro u hu
        obtain ⟨y, _, rfl⟩ := List.mem_map.1 hu
        rfl) (by simp [maxLen]; omega) (by omega) hbase
    have hO : OwnB w' base v' (l ++ m) := ⟨fun y hy => (List.mem_append.1 hy).elim (hown.1 y) (m1 y), by simpa [bv] using h1⟩
    obtain ⟨a', cap', hv, _⟩ := hO.bs
    rw [List.length_append] at hv
    subst hv
    exact ⟨a', cap', w', hr, hO, h2, h4⟩
theorem wp_appendB {w : World} {o : Oper} {a : Act} {K : Act → World → Prop} {Q : Exit → Act → World → Prop} (s x : Operand)
    (ho : o.op = .call { callee := .builtin .append, args := #[s, x], argTypes := #[23, 23] })
    (base : Nat) (v : Value) (l : List Int) (hs : a.eval s = v) (hown : OwnB w base v l)
    (ax : Option Addr) (nx cx : Nat) (m : List Int) (hx : a.eval x = .slice ax nx cx) (hm : BSv w ax nx cx m) (hlen : l.length + m.length ≤ 100000000) (hbase : base ≤ w.heap.size)
    (h : ∀ a' cap' w', OwnB w' base (.slice a' (l.length + m.length) cap') (l ++ m) → w.grownBy w' v.ownBlock → ((Value.slice a' (l.length + m.length) cap').ownBlock = v.ownBlock ∨ (Value.slice a' (l.length + m.length) cap').ownBlock = some w.heap.size) →
      K (a.put o.dst (.slice a' (l.length + m.length) cap')) w') : Oper.wp Tryd.prog o a w K Q := by
  obtain ⟨a', cap', w', hr, h2, h3, h4⟩ := run_appendB (w := w) o.type base v l hown ax nx cx m hm hlen hbase
  unfold Oper.wp execOp
  simp only [ho, resolve, invoke, builtin, Sem.run_bind, Sem.run_pure, Result.andThen_ok, List.map_toArray, List.map_cons, List.map_nil, hs, hx, hr]
  exact h a' cap' w' h2 h3 h4
theorem wpList_appendB {w : World} {ops : Array Oper} {rest : List Oper} {o : Oper} {a : Act} {Q : Exit → Act → World → Prop} (hgd : o.guard = none) (s x : Operand)
    (ho : o.op = .call { callee := .builtin .append, args := #[s, x], argTypes := #[23, 23] })
    (base : Nat) (v : Value) (l : List Int) (hs : a.eval s = v) (hown : OwnB w base v l)
    (ax : Option Addr) (nx cx : Nat) (m : List Int) (hx : a.eval x = .slice ax nx cx) (hm : BSv w ax nx cx m) (hlen : l.length + m.length ≤ 100000000) (hbase : base ≤ w.heap.size)
    (h : ∀ a' cap' w', OwnB w' base (.slice a' (l.length + m.length) cap') (l ++ m) → w.grownBy w' v.ownBlock → ((Value.slice a' (l.length + m.length) cap').ownBlock = v.ownBlock ∨ (Value.slice a' (l.length + m.length) cap').ownBlock = some w.heap.size) →
      wpList Tryd.prog ops Q rest (a.put o.dst (.slice a' (l.length + m.length) cap')) w') : wpList Tryd.prog ops Q (o :: rest) a w :=
  wpList_plain hgd fun _ hK => wp_appendB s x ho base v l hs hown ax nx cx m hx hm hlen hbase fun a' cap' w' h1 h2 h3 => hK _ _ (h a' cap' w' h1 h2 h3)
/-- The same as a step of a region that draws its order. -/
theorem step_appendB {w : World} {ops : Array Oper} {o : Oper} {a : Act} {K : Act → World → Prop} {Q : Exit → Act → World → Prop} {E : Prop} (hgd : o.guard = none) (s x : Operand)
    (ho : o.op = .call { callee := .builtin .append, args := #[s, x], argTypes := #[23, 23] })
    (base : Nat) (v : Value) (l : List Int) (hs : a.eval s = v) (hown : OwnB w base v l)
    (ax : Option Addr) (nx cx : Nat) (m : List Int) (hx : a.eval x = .slice ax nx cx) (hm : BSv w ax nx cx m) (hlen : l.length + m.length ≤ 100000000) (hbase : base ≤ w.heap.size)
    (h : ∀ a' cap' w', OwnB w' base (.slice a' (l.length + m.length) cap') (l ++ m) → w.grownBy w' v.ownBlock → ((Value.slice a' (l.length + m.length) cap').ownBlock = v.ownBlock ∨ (Value.slice a' (l.length + m.length) cap').ownBlock = some w.heap.size) →
      K (a.put o.dst (.slice a' (l.length + m.length) cap')) w') : if Region.wanted o (yielded ops a.tmps) = true then Oper.wp Tryd.prog o a w K Q else E := by
  have hw : Region.wanted o (yielded ops a.tmps) = true := by simp [Region.wanted, hgd]
  rw [if_pos hw]
  exact wp_appendB s x ho base v l hs hown ax nx cx m hx hm hlen hbase h

theorem Tryd.info5s : (Tryd.prog.info? 5).map (·.size) = some 1 := by kernel_rfl
theorem gb_setRow (w : World) (g : Nat) (cs : Array Value) : w.grownBy (w.setRow g cs) (some g) :=
  ⟨rfl, rfl, rfl, by simp [World.setRow], fun k _ hne => setRow_other w g k cs (fun e => hne (by rw [e]))⟩
theorem bv_len (l : List Int) : (bv l).length = l.length := by simp [bv]
theorem bv_splice (l : List Int) (o : Nat) (m : List Int) : bv (splice l o m) = splice (bv l) o (bv m) := by simp [bv, splice]
theorem run_copyB {w : World} (ty : TypeId) (g off dLen dCap : Nat) (sp : Option Addr) (sLen sCap : Nat) (m : List Int) (hm : BSv w sp sLen sCap m)
    (cur : List Int) (t : TypeId) (hg : w.heap[g]? = some (.cells (bv cur).toArray t (0, 0))) (hfit : off + (m.take dLen).length ≤ cur.length) :
    ∃ w', (Builtin.copy_ #[23, 23] ty #[.slice (some ⟨g, off, none⟩) dLen dCap, .slice sp sLen sCap]).run Tryd.prog w = .ok (goInt (m.take dLen).length) w' ∧ w'.heap[g]? = some (.cells (bv (splice cur off (m.take dLen))).toArray t (0, 0)) ∧ w.grownBy w' (some g) := by
  obtain ⟨m1, rfl, m3, m4, m5⟩ := hm
  by_cases h0 : (m.take dLen).length = 0
  · have hn : m.take dLen = [] := List.eq_nil_of_length_eq_zero h0
    have hr := run_copy_none (P := Tryd.prog) w 23 23 ty 5 (some ⟨g, off, none⟩) sp dLen dCap m.length sCap Tryd.underlying23 Tryd.info5s (by rw [List.length_take, Nat.min_comm] at h0; exact h0)
    exact ⟨w, by rw [h0]; exact hr, by rw [hn]; simpa [splice] using hg, World.grownBy.refl _ _⟩
  · rcases m5 with ⟨rfl, rfl⟩ | ⟨b, o', rfl, m5⟩
    · have : m = [] := List.eq_nil_of_length_eq_zero (by omega)
      subst this
      simp at h0
    · have hl : (bv (m.take dLen)).length = (m.take dLen).length := bv_len _
      have hr := run_copy_row (P := Tryd.prog) w 23 23 ty 5 g off dLen dCap ⟨b, o', none⟩ m.length sCap (bv cur).toArray t (bv (m.take dLen)) Tryd.underlying23 Tryd.info5s hg (by rw [hl, List.length_take, Nat.min_comm]) (by
        intro j u hj
        have hlt : j < (m.take dLen).length := by
          have := (List.getElem?_eq_some_iff.1 hj).1
          rwa [bv_len] at this
        rw [getD_bv _ j hlt] at hj
        obtain rfl := Option.some.inj hj
        rw [Addr.add_lit]
        rw [List.length_take] at hlt
        rw [m5.1 j (by omega)]
        simp [show j < dLen by omega]) (by rw [hl]; simpa [bv] using hfit) (by
        intro u hu
        obtain ⟨y, _, rfl⟩ := List.mem_map.1 hu
        rfl)
      refine ⟨_, by rw [hr, hl], ?_, gb_setRow _ _ _⟩
      rw [setRow_heap w g _ _ t _ hg, bv_splice]
      simp [splice, bv_len]
theorem wp_copyB {w : World} {o : Oper} {a : Act} {K : Act → World → Prop} {Q : Exit → Act → World → Prop} (d s : Operand)
    (ho : o.op = .call { callee := .builtin .copy, args := #[d, s], argTypes := #[23, 23] })
    (g off dLen dCap : Nat) (hd : a.eval d = .slice (some ⟨g, off, none⟩) dLen dCap) (sp : Option Addr) (sLen sCap : Nat) (hs : a.eval s = .slice sp sLen sCap) (m : List Int) (hm : BSv w sp sLen sCap m)
    (cur : List Int) (t : TypeId) (hg : w.heap[g]? = some (.cells (bv cur).toArray t (0, 0))) (hfit : off + (m.take dLen).length ≤ cur.length)
    (h : ∀ w', w'.heap[g]? = some (.cells (bv (splice cur off (m.take dLen))).toArray t (0, 0)) → w.grownBy w' (some g) → K (a.put o.dst (goInt (m.take dLen).length)) w') : Oper.wp Tryd.prog o a w K Q := by
  obtain ⟨w', hr, h2, h3⟩ := run_copyB (w := w) o.type g off dLen dCap sp sLen sCap m hm cur t hg hfit
  unfold Oper.wp execOp
  simp only [ho, resolve, invoke, builtin, Sem.run_bind, Sem.run_pure, Result.andThen_ok, List.map_toArray, List.map_cons, List.map_nil, hd, hs, hr]
  exact h w' h2 h3
/-- copy(d, s) into a block of bytes. -/
theorem wpList_copyB {w : World} {ops : Array Oper} {rest : List Oper} {o : Oper} {a : Act} {Q : Exit → Act → World → Prop} (d s : Operand)
    (ho : o.op = .call { callee := .builtin .copy, args := #[d, s], argTypes := #[23, 23] }) (hgd : o.guard = none)
    (g off dLen dCap : Nat) (hd : a.eval d = .slice (some ⟨g, off, none⟩) dLen dCap) (sp : Option Addr) (sLen sCap : Nat) (hs : a.eval s = .slice sp sLen sCap) (m : List Int) (hm : BSv w sp sLen sCap m)
    (cur : List Int) (t : TypeId) (hg : w.heap[g]? = some (.cells (bv cur).toArray t (0, 0))) (hfit : off + (m.take dLen).length ≤ cur.length)
    (h : ∀ w', w'.heap[g]? = some (.cells (bv (splice cur off (m.take dLen))).toArray t (0, 0)) → w.grownBy w' (some g) → wpList Tryd.prog ops Q rest (a.put o.dst (goInt (m.take dLen).length)) w') :
    wpList Tryd.prog ops Q (o :: rest) a w :=
  wpList_plain hgd fun _ hK => wp_copyB d s ho g off dLen dCap hd sp sLen sCap hs m hm cur t hg hfit fun w' h1 h2 => hK _ _ (h w' h1 h2)
theorem step_copyB {w : World} {ops : Array Oper} {o : Oper} {a : Act} {K : Act → World → Prop} {Q : Exit → Act → World → Prop} {E : Prop} (d s : Operand)
    (ho : o.op = .call { callee := .builtin .copy, args := #[d, s], argTypes := #[23, 23] }) (hgd : o.guard = none)
    (g off dLen dCap : Nat) (hd : a.eval d = .slice (some ⟨g, off, none⟩) dLen dCap) (sp : Option Addr) (sLen sCap : Nat) (hs : a.eval s = .slice sp sLen sCap) (m : List Int) (hm : BSv w sp sLen sCap m)
    (cur : List Int) (t : TypeId) (hg : w.heap[g]? = some (.cells (bv cur).toArray t (0, 0))) (hfit : off + (m.take dLen).length ≤ cur.length)
    (h : ∀ w', w'.heap[g]? = some (.cells (bv (splice cur off (m.take dLen))).toArray t (0, 0)) → w.grownBy w' (some g) → K (a.put o.dst (goInt (m.take dLen).length)) w') :
    if Region.wanted o (yielded ops a.tmps) = true then Oper.wp Tryd.prog o a w K Q else E := by
  have hw : Region.wanted o (yielded ops a.tmps) = true := by simp [Region.wanted, hgd]
  rw [if_pos hw]
  exact wp_copyB d s ho g off dLen dCap hd sp sLen sCap hs m hm cur t hg hfit h
theorem Tryd.info32 : (Tryd.prog.info? 32).map (·.size) = some 16 := by kernel_rfl
/-- A key is loaded out of its own block. -/
theorem wpList_loadKey {w : World} {ops : Array Oper} {rest : List Oper} {o : Oper} {a : Act} {Q : Exit → Act → World → Prop} (x : Operand) (ho : o.op = .load 32 x) (hgd : o.guard = none)
    (g : Nat) (hx : a.eval x = .pointer (some ⟨g, 0, none⟩)) (K : Array Value) (hg : w.heap[g]? = some (.cells K 32 (0, 0))) (hK : K.size = 16)
    (h : wpList Tryd.prog ops Q rest (a.put o.dst (.agg K)) w) : wpList Tryd.prog ops Q (o :: rest) a w :=
  wpList_load_row hgd _ x ho g hx _ K _ _ hg Tryd.underlying32 rfl (by rw [hK]; exact Tryd.info32) h
end Go.Proofs.YtjnmokmchdfchaaDoor
namespace Go.Proofs.YtjnmokmchdfchaaDoor
open Go.RowKit
attribute [local go_sem ↓] Go.wp_at_zero Go.wp_at_succ

theorem strOfNums_inj {l l' : List Int} (h : ∀ x ∈ l, W8 x) (h' : ∀ x ∈ l', W8 x) (e : strOfNums l = strOfNums l') : l = l' := by
  have e2 : (strOfNums l).data.toList = (strOfNums l').data.toList := by rw [e]
  rw [strOfNums_data, strOfNums_data] at e2
  clear e
  induction l generalizing l' with
  | nil => cases l' with
    | nil => rfl
    | cons y r => simp at e2
  | cons x r ih => cases l' with
    | nil => simp at e2
    | cons y r' =>
      simp only [List.map_cons, List.cons.injEq] at e2
      have hx := h x (List.mem_cons_self ..)
      have hy := h' y (List.mem_cons_self ..)
      unfold W8 at hx hy
      have e3 : x = y := by
        have := congrArg UInt8.toNat e2.1
        simp only [UInt8.toNat_ofNat'] at this
        omega
      rw [e3, ih (fun z hz => h z (List.mem_cons_of_mem _ hz)) (fun z hz => h' z (List.mem_cons_of_mem _ hz)) e2.2]
theorem conv_str {w : World} {a : Option Addr} {n c : Nat} {l : List Int} (h : BSv w a n c l) : (convert 23 9 (.slice a n c)).run Tryd.prog w = .ok (.string (strOfNums l)) w := by
  obtain ⟨h1, h2, h3, h4, h5⟩ := h
  rcases h5 with ⟨rfl, rfl⟩ | ⟨b, o, rfl, h5⟩
  · have : l = [] := List.eq_nil_of_length_eq_zero (by omega)
    subst this
    exact run_convert_bytes_nil w _ _ Tryd.underlying23 Tryd.underlying5 n 0 _ Tryd.underlying9
  · exact run_convert_bytes_arg w _ _ Tryd.underlying23 Tryd.underlying5 b o n c l h2.symm (fun i hi => h5.1 i (by omega)) _ Tryd.underlying9

/-- A string's bytes as numbers. -/
def bl (s : ByteArray) : List Int := s.data.toList.map fun x => (x.toNat : Int)
theorem bl_len (s : ByteArray) : (bl s).length = s.size := by unfold bl; rw [List.length_map, Array.length_toList]; rfl
theorem bl_w (s : ByteArray) : ∀ x ∈ bl s, W8 x := by
  intro x hx
  obtain ⟨y, _, rfl⟩ := List.mem_map.1 hx
  have := y.toNat_lt
  unfold W8; omega
theorem conv_bytes (s : ByteArray) (w : World) : (convert 9 23 (.string s)).run Tryd.prog w = .ok (.slice (some ⟨w.heap.size, 0, none⟩) s.size (grownCap w s.size 0 5)) (Lib.bytesWorld w 5 s) :=
  Lib.run_convert_string_bytes w _ _ _ s Tryd.underlying9 Tryd.underlying23 Tryd.underlying5
theorem conv_gb (w : World) (s : ByteArray) : w.grownBy (Lib.bytesWorld w 5 s) none :=
  ⟨rfl, rfl, rfl, by rw [Lib.bytesWorld_size]; omega, fun i hi _ => Lib.bytesWorld_at_old w _ s i hi⟩
theorem conv_bsvL (w : World) (s : ByteArray) (hs : s.size ≤ 100000000) : BSv (Lib.bytesWorld w 5 s) (some ⟨w.heap.size, 0, none⟩) s.size (grownCap w s.size 0 5) (bl s) := by
  refine ⟨bl_w s, (bl_len s).symm, grownCap_ge _ _ _ _, grownCap_le_maxLen _ _ _ _ (by simp [maxLen]; omega), .inr ⟨_, 0, rfl, ?_⟩⟩
  refine ⟨fun i hi => ?_, bl_w s⟩
  rw [bl_len] at hi
  have hi' : i < s.data.toList.length := by rw [Array.length_toList]; exact hi
  have e1 : s.data.toList.getD i 0 = s.data.toList[i] := by rw [List.getD, List.getElem?_eq_getElem hi']; rfl
  have e2 : (bl s).getD i 0 = (s.data.toList[i].toNat : Int) := by unfold bl; rw [List.getD, List.getElem?_map, List.getElem?_eq_getElem hi']; rfl
  rw [Nat.zero_add, Lib.bytesWorld_cell w _ s i hi, e1, e2]

theorem OwnB.bsv {w : World} {base : Nat} {a : Option Addr} {n c : Nat} {l : List Int} (h : OwnB w base (.slice a n c) l) : BSv w a n c l := by
  obtain ⟨a', c', e, hb, _⟩ := h.bs
  simp only [Value.slice.injEq] at e
  obtain ⟨rfl, rfl, rfl⟩ := e
  exact hb
theorem own_block {w : World} {base : Nat} {a : Option Addr} {n c : Nat} {l : List Int} (h : OwnB w base (.slice a n c) l) : (a = none ∧ n = 0) ∨ ∃ g cs, a = some ⟨g, 0, none⟩ ∧ base ≤ g ∧ w.heap[g]? = some (.cells cs 5 (0, 0)) ∧ n ≤ cs.size := by
  obtain ⟨h1, h2, h3⟩ := h
  rcases h3 with ⟨e, hn⟩ | ⟨g, cap, cur, e, hb, hg, hc, hm, hs, ht⟩
  · cases e; exact .inl ⟨rfl, rfl⟩
  · cases e; exact .inr ⟨g, cur, rfl, hb, hg, by omega⟩

theorem scribble_any (a : Option Addr) (n c : Nat) (l : List Int) (w : World) (base : Nat) (ho : OwnB w base (.slice a n c) l) (hn : n ≤ 100000000) :
    Calls Tryd.prog 25 #[.slice a n c] w fun e w' => e = .returned (.tuple #[]) ∧ w.grownBy w' (Value.slice a n c).ownBlock := by
  rcases own_block ho with ⟨rfl, rfl⟩ | ⟨g, cs, rfl, hg, hb, hs⟩
  · go_enter Tryd.func25, Tryd.ntmps25
    go_wp2
    go_loopg [5] 0 (fun gh i wr => gh = 0 ∧ i = .int .i64 0 ∧ wr = w)
    case atStart => exact ⟨rfl, rfl, rfl⟩
    case round =>
      obtain ⟨rfl, rfl, rfl⟩ := hrel
      go_wp2
      refine bodyPost_end (results_none rfl _ _ _) rfl ?_
      exact ⟨rfl, World.grownBy.refl _ _⟩
  · have eo : (Value.slice (some ⟨g, 0, none⟩) n c).ownBlock = some g := rfl
    rw [eo]
    clear ho eo
    go_enter Tryd.func25, Tryd.ntmps25
    go_wp2
    go_loopg [5] n (fun gh i wr => ∃ j : Nat, j ≤ n ∧ gh = n - j ∧ i = .int .i64 (j : Int) ∧ w.grownBy wr (some g) ∧ ∃ cs', wr.heap[g]? = some (.cells cs' 5 (0, 0)) ∧ n ≤ cs'.size)
    case atStart => exact ⟨0, by omega, by omega, rfl, World.grownBy.refl _ _, cs, hb, hs⟩
    case round =>
      obtain ⟨j, hj, rfl, rfl, hgr, cs', hb', hs'⟩ := hrel
      by_cases hlt : j < n
      · have hc : wr.cell? ⟨g, j, none⟩ = some (cs'.getD j undef) := by simp [World.cell?, hb', Array.getD, show j < cs'.size by omega]
        have hf : wr.frozen? ⟨g, j, none⟩ = false := by simp [World.frozen?, hb']
        replace hb' := hide hb'
        go_wp2
        go_roundg (n - (j + 1))
        case measure => omega
        case rel => exact ⟨j + 1, by omega, rfl, by go_num, gb_set hgr _ _ (.inr rfl), _, heap_set (unhide hb') _, by simpa using hs'⟩
      · go_wp2
        refine bodyPost_end (results_none rfl _ _ _) rfl ?_
        exact ⟨rfl, hgr⟩
theorem wpList_cloneB {w : World} {ops : Array Oper} {rest : List Oper} {o : Oper} {a : Act} {Q : Exit → Act → World → Prop} (hgd : o.guard = none) (x : Operand)
    (ho : o.op = .call { callee := .builtin .append, args := #[.const (.slice none 0 0), x], argTypes := #[23, 23] })
    (ax : Option Addr) (nx cx : Nat) (m : List Int) (hx : a.eval x = .slice ax nx cx) (hm : BSv w ax nx cx m) (hlen : m.length ≤ 100000000)
    (h : ∀ a' cap' w', OwnB w' w.heap.size (.slice a' m.length cap') m → w.grownBy w' none → wpList Tryd.prog ops Q rest (a.put o.dst (.slice a' m.length cap')) w') : wpList Tryd.prog ops Q (o :: rest) a w := by
  refine wpList_appendB hgd (.const (.slice none 0 0)) x ho w.heap.size (.slice none 0 0) [] rfl (OwnB.nil _ _) ax nx cx m hx hm (by simpa using hlen) (Nat.le_refl _) ?_
  intro a' cap' w' h1 h2 _
  rw [List.length_nil, Nat.zero_add] at h1 ⊢
  rw [List.nil_append] at h1
  exact h a' cap' w' h1 h2
theorem own_blk_lt {w : World} {base : Nat} {v : Value} {l : List Int} (h : OwnB w base v l) {r : Option Nat} (e : r = v.ownBlock) : ∀ j, r = some j → base ≤ j ∧ j < w.heap.size := fun j hj => h.lt j (by rw [← e]; exact hj)
theorem conv_bsv (w : World) (s : ByteArray) (hs : s.size ≤ 2000) : BSv (Lib.bytesWorld w 5 s) (some ⟨w.heap.size, 0, none⟩) s.size (grownCap w s.size 0 5) (bl s) := conv_bsvL w s (by omega)
theorem range_gb {w w' : World} {b o : Nat} {cs : List Value} {r : Option Nat} (h : w.rangeAt b o cs) (g : w.grownBy w' r) (hr : r ≠ some b) : w'.rangeAt b o cs :=
  fun j v hj => g.cell (h j v hj) (fun e => hr e.symm)
theorem range_set {w : World} {b o : Nat} {cs : List Value} (h : w.rangeAt b o cs) (p : Addr) (v : Value) (hp : p.block ≠ b) : (w.setCell p v).rangeAt b o cs := fun j u hj => by
  rw [World.cell?_of_block (w := w) (Below.heap_setCell _ _ _ _ (Ne.symm hp))]; exact h j u hj
theorem range_block {w : World} {b : Nat} {t : TypeId} {fr : Nat × Nat} {cs : List Value} (h : w.heap[b]? = some (.cells cs.toArray t fr)) : w.rangeAt b 0 cs := fun j v hj => by
  simp only [World.cell?, h, Nat.zero_add]; simpa using hj
end Go.Proofs.YtjnmokmchdfchaaDoor
