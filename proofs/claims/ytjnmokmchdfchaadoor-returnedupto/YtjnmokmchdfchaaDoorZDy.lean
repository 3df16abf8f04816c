import Derived.Test.YtjnmokmchdfchaaDoorZDx
import Derived.Test.YtjnmokmchdfchaaDoorZFs
namespace Go.Proofs.YtjnmokmchdfchaaDoor
open Go.RowKit
attribute [local go_sem ↓] Go.wp_at_zero Go.wp_at_succ

/-! ### frames that are appended -/
abbrev Itm := Fr × Value
def fcl (l : List Itm) : List Value := l.flatMap fun x => fcs x.1 x.2
theorem fcl_append (l m : List Itm) : fcl (l ++ m) = fcl l ++ fcl m := by simp [fcl]
theorem fcl_len (l : List Itm) : (fcl l).length = l.length * 7 := by
  induction l with
  | nil => rfl
  | cons r l ih => simp only [fcl, List.flatMap_cons, List.length_append, List.length_cons, fcs, List.length_nil] at *; omega
theorem fcl_at (l : List Itm) (i : Nat) (h : i < l.length) (j : Nat) (v : Value) (hj : (fcs l[i].1 l[i].2)[j]? = some v) : (fcl l)[i * 7 + j]? = some v := by
  induction l generalizing i with
  | nil => simp at h
  | cons r l ih =>
    have hj7 : j < 7 := by
      have := (List.getElem?_eq_some_iff.1 hj).1
      simpa [fcs] using this
    cases i with
    | zero =>
      simp only [fcl, List.flatMap_cons, Nat.zero_mul, Nat.zero_add]
      rw [List.getElem?_append_left (by simp [fcs]; omega)]
      exact hj
    | succ i =>
      simp only [fcl, List.flatMap_cons]
      rw [List.getElem?_append_right (by simp [fcs]; omega)]
      have e : (i + 1) * 7 + j - (fcs r.1 r.2).length = i * 7 + j := by simp [fcs]; omega
      rw [e]
      exact ih i (by simpa using h) (by simpa using hj)
def OwnF (w : World) (base : Nat) (v : Value) (l : List Itm) : Prop :=
  w.ownsRow base 46 7 v l.length (fcl l) ∧ ∀ x ∈ l, FrV w x.1 x.2 ∧ (x.1.ranges ≠ [] → ∀ y n c, x.2 = .slice (some y) n c → base ≤ y.block ∧ v.ownBlock ≠ some y.block)
theorem FrV.keep {w w' : World} {f : Fr} {rv : Value} (h : FrV w f rv) (hk : f.ranges ≠ [] → ∀ y n c, rv = .slice (some y) n c → y.block < w.heap.size → w'.heap[y.block]? = w.heap[y.block]?) : FrV w' f rv := by
  obtain ⟨h1, h2, ra, cap, rfl, h4⟩ := h
  refine ⟨h1, h2, ra, cap, rfl, h4.keep (fun hl x hx => ?_)⟩
  subst hx
  exact hk hl x _ _ rfl (h4.lt hl)
theorem FrV.ylt {w : World} {f : Fr} {y : Addr} {n c : Nat} (h : FrV w f (.slice (some y) n c)) (hl : f.ranges ≠ []) : y.block < w.heap.size := by
  obtain ⟨h1, h2, ra, cap, e, h4⟩ := h
  cases e
  exact h4.lt hl
theorem OwnF.lt {w : World} {base : Nat} {v : Value} {l : List Itm} (h : OwnF w base v l) : ∀ k, v.ownBlock = some k → base ≤ k ∧ k < w.heap.size := h.1.lt
/-- What is written lies apart. -/
theorem OwnF.gb {w w' : World} {base : Nat} {v : Value} {l : List Itm} {r : Option Nat} (h : OwnF w base v l) (g : w.grownBy w' r) (hr : ∀ k, r = some k → k < base) : OwnF w' base v l := by
  refine ⟨h.1.kept g ?_, fun x hx => ?_⟩
  · cases hv : v.ownBlock with
    | none => exact .inl rfl
    | some k => exact .inr (fun e => by have := hr k e.symm; have := (h.lt k hv).1; omega)
  · have hx2 := h.2 x hx
    refine ⟨hx2.1.keep (fun hl y n c e hy => ?_), hx2.2⟩
    exact g.block y.block hy (fun e2 => by have := hr _ e2.symm; have := (hx2.2 hl y n c e).1; omega)
theorem OwnF.nil (w : World) (base : Nat) : OwnF w base (.slice none 0 0) [] := ⟨World.ownsRow_nil _ _ _ _, fun x hx => by simp at hx⟩
theorem OwnF.fsv {w : World} {base : Nat} {a : Option Addr} {n c : Nat} {l : List Itm} (h : OwnF w base (.slice a n c) l) : FSv w a n c (l.map (·.1)) := by
  obtain ⟨⟨h2, h3⟩, hx⟩ := h
  rcases h3 with ⟨e, hn⟩ | ⟨g, cap, cur, e, hb, hg, hc, hm, hs, ht⟩
  · cases e
    exact ⟨by simp; omega, by simp, by simp [maxLen], .inl ⟨rfl, rfl⟩⟩
  · cases e
    refine ⟨by simp, hc, hm, .inr ⟨g, 0, rfl, fun i hi => ?_⟩⟩
    have hi' : i < l.length := by simpa using hi
    have ef : frAt (l.map (·.1)) i = l[i].1 := by rw [frAt_eq hi]; simp
    rw [ef]
    refine ⟨l[i].2, (hx _ (List.getElem_mem hi')).1, fun j v hj => ?_⟩
    have h7 := fcl_at l i hi' j v hj
    have hlt : i * 7 + j < l.length * 7 := by
      have := (List.getElem?_eq_some_iff.1 h7).1
      rwa [fcl_len] at this
    rw [← ht, List.getElem?_take, if_pos hlt] at h7
    simp only [World.cell?, hg, Nat.zero_add]
    simpa using h7
theorem Tryd.infoF : (Tryd.prog.info? 46).map (fun i => (i.zero, i.size, i.bytes)) = some (some (.agg #[.int .i64 0, .int .i64 0, .int .u64 0, .int .u64 0, .bool false, .string ByteArray.empty, .slice none 0 0]), 7, 80) := by kernel_rfl
theorem run_appendF {w : World} (ty : TypeId) (base : Nat) (v : Value) (l : List Itm) (hown : OwnF w base v l) (b c : Nat) (x : Itm) (hx : FrV w x.1 x.2) (hxn : x.1.ranges ≠ [] → ∀ y n c, x.2 = .slice (some y) n c → base ≤ y.block ∧ v.ownBlock ≠ some y.block) (hone : x.2.oneCell' = true) (h0 : w.rangeAt b 0 (fcs x.1 x.2)) (hlen : l.length ≤ 100000000) (hbase : base ≤ w.heap.size) :
    ∃ a' n' cap' w', (Builtin.append_ #[22, 22] ty #[v, .slice (some ⟨b, 0, none⟩) 1 c]).run Tryd.prog w = .ok (.slice a' n' cap') w' ∧ OwnF w' base (.slice a' n' cap') (l ++ [x]) ∧ w.grownBy w' v.ownBlock ∧ ((Value.slice a' n' cap').ownBlock = v.ownBlock ∨ (Value.slice a' n' cap').ownBlock = some w.heap.size) := by
  obtain ⟨i0, hi, hz0, hz1, hz2⟩ := info_parts Tryd.infoF
  obtain ⟨v', w', hr2, h2, h3, _, h4⟩ := run_append_own_at (P := Tryd.prog) w base 22 ty 46 i0 _ 7 80 Tryd.underlying22 hi hz0 hz1 hz2 rfl (by decide) v l.length (fcl l) hown.1 ⟨b, 0, none⟩ 1 c (fcl [x]) (by simp [fcl, fcs]) (by
      intro j u hj
      rw [Addr.add_mid]
      exact h0 j u (by simpa [fcl] using hj)) (by
      intro u hu
      simp [fcl, fcs] at hu
      rcases hu with rfl | rfl | rfl | rfl | rfl | rfl | rfl <;> first | rfl | exact hone) (by simp [maxLen]; omega) (by omega) hbase
  have hO : OwnF w' base v' (l ++ [x]) := by
    refine ⟨by rw [List.length_append, fcl_append]; exact h2, fun z hz => ?_⟩
    have hz2 : FrV w z.1 z.2 ∧ (z.1.ranges ≠ [] → ∀ y n c, z.2 = .slice (some y) n c → base ≤ y.block ∧ v.ownBlock ≠ some y.block) := by
      rcases List.mem_append.1 hz with h | h
      · exact hown.2 z h
      · rw [List.mem_singleton.1 h]; exact ⟨hx, hxn⟩
    refine ⟨hz2.1.keep (fun hl y n c e hy => h3.block y.block hy (fun e2 => (hz2.2 hl y n c e).2 e2.symm)), fun hl y n c e => ⟨(hz2.2 hl y n c e).1, ?_⟩⟩
    rcases h4 with e4 | e4
    · rw [e4]; exact (hz2.2 hl y n c e).2
    · rw [e4]
      have hzf := hz2.1
      rw [e] at hzf
      have := hzf.ylt hl
      exact fun e5 => by have := Option.some.inj e5; omega
  obtain ⟨⟨-, ⟨rfl, e2⟩ | ⟨g, cap, cur, rfl, _⟩⟩, -⟩ := id hO
  · exact ⟨_, _, _, w', hr2, hO, h3, h4⟩
  · exact ⟨_, _, _, w', hr2, hO, h3, h4⟩
theorem step_appendF {w : World} {ops : Array Oper} {o : Oper} {a : Act} {K : Act → World → Prop} {Q : Exit → Act → World → Prop} {E : Prop} (hgd : o.guard = none) (s x : Operand)
    (ho : o.op = .call { callee := .builtin .append, args := #[s, x], argTypes := #[22, 22] })
    (base : Nat) (v : Value) (l : List Itm) (hs : a.eval s = v) (hown : OwnF w base v l) (b c : Nat) (it : Itm) (hit : FrV w it.1 it.2) (hxn : it.1.ranges ≠ [] → ∀ y n c, it.2 = .slice (some y) n c → base ≤ y.block ∧ v.ownBlock ≠ some y.block) (hone : it.2.oneCell' = true) (hx : a.eval x = .slice (some ⟨b, 0, none⟩) 1 c) (h0 : w.rangeAt b 0 (fcs it.1 it.2)) (hlen : l.length ≤ 100000000) (hbase : base ≤ w.heap.size)
    (h : ∀ a' n' cap' w', OwnF w' base (.slice a' n' cap') (l ++ [it]) → w.grownBy w' v.ownBlock → ((Value.slice a' n' cap').ownBlock = v.ownBlock ∨ (Value.slice a' n' cap').ownBlock = some w.heap.size) →
      K (a.put o.dst (.slice a' n' cap')) w') : if Region.wanted o (yielded ops a.tmps) = true then Oper.wp Tryd.prog o a w K Q else E := by
  have hw : Region.wanted o (yielded ops a.tmps) = true := by simp [Region.wanted, hgd]
  rw [if_pos hw]
  obtain ⟨a', n', cap', w', hr2, h2, h3, h4⟩ := run_appendF (w := w) o.type base v l hown b c it hit hxn hone h0 hlen hbase
  unfold Oper.wp execOp
  simp only [ho, resolve, invoke, builtin, Sem.run_bind, Sem.run_pure, Result.andThen_ok, List.map_toArray, List.map_cons, List.map_nil, hs, hx, hr2]
  exact h a' n' cap' w' h2 h3 h4

/-! ### the fault that is caught -/
theorem cells1 {w : World} {b : Nat} {t : TypeId} {v0 : Value} (h : w.heap[b]? = some (.cells #[v0] t (0, 0))) : w.cell? ⟨b, 0, none⟩ = some v0 ∧ w.frozen? ⟨b, 0, none⟩ = false := by
  simp [World.cell?, World.frozen?, h]
theorem catch_panicking (X LB EB : Nat) (st : Int) (lv ev : Value) (older : List PanicEntry) (w : World) (hX : w.cell? ⟨X, 2, none⟩ = some (.int .i64 st)) (hL : w.heap[LB]? = some (.cells #[lv] 22 (0, 0))) (hE : w.heap[EB]? = some (.cells #[ev] 50 (0, 0))) (_hLE : LB ≠ EB) :
    CallsD Tryd.prog 58 #[.pointer (some ⟨X, 0, none⟩), .pointer (some ⟨LB, 0, none⟩), .pointer (some ⟨EB, 0, none⟩)] (.panicking ({ v := .iface 24 (.int .i64 5), recovered := false } :: older)) w fun e u' w' =>
      e = .returned (.tuple #[]) ∧ u' = .panicking ({ v := .iface 24 (.int .i64 5), recovered := true } :: older) ∧ w' = ((w.alloc (.cells #[.int .i64 5, .int .i64 st] 79)).setCell ⟨LB, 0, none⟩ (.slice none 0 0)).setCell ⟨EB, 0, none⟩ (.iface 74 (.pointer (some ⟨w.heap.size, 0, none⟩))) := by
  refine callsD_of_wpS Tryd.func58 rfl fun c₀ cs hu => ?_
  apply wpS_seq
  apply wpS_region
  simp [wpOpsS, go_sem, recoverD, hu, Tryd.ntmps58, Exit.thenS]
  refine wpS_cond (t := true) (by simp [Act.eval, Array.replicate]) ?_
  simp only [if_true]
  have l1 := cells1 ((Below.heap_alloc w (.cells #[.int .i64 5, .int .i64 st] 79) LB (Array.getElem?_eq_some_iff.1 hL).1).trans hL)
  have l2 := cells1 ((Below.heap_alloc w (.cells #[.int .i64 5, .int .i64 st] 79) EB (Array.getElem?_eq_some_iff.1 hE).1).trans hE)
  apply wpS_region
  simp [wpOpsS, go_sem, hX, l1.1, l1.2, l2.1, l2.2, bodyPostS, results, Tryd.results58]
theorem catch_idle (X LB EB : Nat) (w : World) :
    CallsD Tryd.prog 58 #[.pointer (some ⟨X, 0, none⟩), .pointer (some ⟨LB, 0, none⟩), .pointer (some ⟨EB, 0, none⟩)] .returning w fun e u' w' => e = .returned (.tuple #[]) ∧ u' = .returning ∧ w' = w := by
  refine callsD_of_wpS Tryd.func58 rfl fun c₀ cs hu => ?_
  apply wpS_seq
  apply wpS_region
  simp [wpOpsS, go_sem, recoverD, hu, Tryd.ntmps58, Exit.thenS]
  refine wpS_cond (t := false) (by simp [Act.eval, Array.replicate]) ?_
  simp only [Bool.false_eq_true, if_false]
  refine wpS_of_wp (wp_skip ?_)
  cases c₀
  simp_all [bodyPostS, results, Tryd.results58]
end Go.Proofs.YtjnmokmchdfchaaDoor
