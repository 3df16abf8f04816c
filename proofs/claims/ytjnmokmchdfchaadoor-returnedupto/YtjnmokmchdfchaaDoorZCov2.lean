import Derived.Test.YtjnmokmchdfchaaDoorZCov
namespace Go.Proofs.YtjnmokmchdfchaaDoor
open Go.RowKit
attribute [local go_sem] Oper.semAt_some

theorem keep_gb {W W' : World} {i : Nat} {o : Obj} (h : W.heap[i]? = some o) (g : W.grownBy W' none) : W'.heap[i]? = some o := (g.block i (Array.getElem?_eq_some_iff.1 h).1 (by simp)).trans h
theorem cell_one {W : World} {i : Nat} {v : Value} {t : TypeId} (h : W.heap[i]? = some (.cells #[v] t (0, 0))) : W.cell? ⟨i, 0, none⟩ = some v ∧ W.frozen? ⟨i, 0, none⟩ = false := by simp [World.cell?, World.frozen?, h]
theorem splice_get (cur m : List Int) (o : Nat) (h : o + m.length < cur.length) : (splice cur o m).getD (o + m.length) 0 = cur.getD (o + m.length) 0 := by
  simp only [splice, List.getD_eq_getElem?_getD]
  rw [List.getElem?_append_right (by simp; omega), List.getElem?_append_right (by simp; omega)]
  simp only [List.length_take, List.getElem?_drop]
  congr 2
  omega
theorem splice_set (cur m : List Int) (o : Nat) (y : Int) (h : o + m.length < cur.length) : (bv (splice cur o m)).toArray.setIfInBounds (o + m.length) (.int .u8 y) = (bv (splice cur o (m ++ [y]))).toArray := by
  rw [List.setIfInBounds_toArray]
  congr 1
  have hlt : (cur.take o).length = o := by simp; omega
  simp only [bv, splice, List.map_append]
  rw [List.set_append_right _ _ (by simp; omega)]
  congr 1
  simp only [List.length_map, hlt]
  rw [List.set_append_right _ _ (by simp)]
  simp only [List.length_map, List.length_append, List.append_assoc]
  congr 1
  rw [show o + m.length - o - m.length = 0 by omega]
  rw [List.drop_eq_getElem_cons (l := cur) (i := o + m.length) h]
  simp [Nat.add_assoc]
theorem splice_len (cur m : List Int) (o : Nat) (h : o + m.length ≤ cur.length) : (splice cur o m).length = cur.length := length_splice _ _ _ h
theorem splice_w {cur m : List Int} {o : Nat} (h : ∀ x ∈ cur, W8 x) (hm : ∀ x ∈ m, W8 x) : ∀ x ∈ splice cur o m, W8 x := by
  intro x hx
  simp only [splice, List.mem_append] at hx
  rcases hx with hx | hx | hx
  · exact h x (List.mem_of_mem_take hx)
  · exact hm x hx
  · exact h x (List.mem_of_mem_drop hx)
theorem splice_nil (cur : List Int) (o : Nat) : splice cur o [] = cur := by simp [splice]
theorem alloc6 (w : World) (o0 o1 o2 o3 o4 o5 : Obj) : ((((((w.alloc o0).alloc o1).alloc o2).alloc o3).alloc o4).alloc o5).heap[w.heap.size]? = some o0 ∧ ((((((w.alloc o0).alloc o1).alloc o2).alloc o3).alloc o4).alloc o5).heap[w.heap.size + 1 + 1]? = some o2 ∧
    ((((((w.alloc o0).alloc o1).alloc o2).alloc o3).alloc o4).alloc o5).heap[w.heap.size + 1 + 1 + 1]? = some o3 ∧ ((((((w.alloc o0).alloc o1).alloc o2).alloc o3).alloc o4).alloc o5).heap[w.heap.size + 1 + 1 + 1 + 1]? = some o4 ∧ ((((((w.alloc o0).alloc o1).alloc o2).alloc o3).alloc o4).alloc o5).heap[w.heap.size + 1 + 1 + 1 + 2]? = some o5 := by
  have at_ : ∀ (W : World) (o : Obj) (i : Nat), i = W.heap.size → (W.alloc o).heap[i]? = some o := fun W o i e => by rw [e]; exact heap_alloc_new W o
  refine ⟨?_, ?_, ?_, ?_, ?_⟩
  · iterate 5 rw [Below.heap_alloc _ _ _ (by simp; try omega)]
    exact at_ _ _ _ rfl
  · iterate 3 rw [Below.heap_alloc _ _ _ (by simp; try omega)]
    exact at_ _ _ _ (by simp)
  · iterate 2 rw [Below.heap_alloc _ _ _ (by simp; try omega)]
    exact at_ _ _ _ (by simp)
  · iterate 1 rw [Below.heap_alloc _ _ _ (by simp; try omega)]
    exact at_ _ _ _ (by simp)
  · exact at_ _ _ _ (by simp)
/-- A range over a function that is a closure. -/
theorem range_enter {g : Operand} {ps : Array Tmp} {assign body : Code} {Q : Exit → Act → World → Prop} {a : Act} {w : World} {gf : Nat} {lb : Array Value} (hg : a.eval g = .func (.func gf) #[] lb) (eg : ∀ args w, (callFunc gf args).run Tryd.prog w = .ok (.enter gf args) w)
    (h : ∀ fn, CallsIn Fence.wide 2 Tryd.prog gf (#[.func (.yield (w.heap.size + 1)) #[] #[]] ++ lb) ((w.alloc (.deferred (some []))).alloc (.loop { state := .ready, pending := none, fn, tmps := a.tmps, params := ps, assign, body, defers := w.heap.size }))
      (rangePost Fence.wide 3 Tryd.prog (w.heap.size + 1) Q { a with defers := [{ target := .collected w.heap.size, args := #[] }] ++ a.defers })) :
    (Code.rangeFunc g ps assign body).wpIn Fence.wide 3 Tryd.prog Q a w := by
  refine wpIn_rangeFunc fun fn _ => ?_
  refine ⟨w.heap.size + 1, [{ target := .collected w.heap.size, args := #[] }], (w.alloc (.deferred (some []))).alloc (.loop { state := .ready, pending := none, fn, tmps := a.tmps, params := ps, assign, body, defers := w.heap.size }), { target := .fn (.func gf) lb, args := #[.func (.yield (w.heap.size + 1)) #[] #[]] }, (w.alloc (.deferred (some []))).alloc (.loop { state := .ready, pending := none, fn, tmps := a.tmps, params := ps, assign, body, defers := w.heap.size }), gf, #[.func (.yield (w.heap.size + 1)) #[] #[]] ++ lb, (w.alloc (.deferred (some []))).alloc (.loop { state := .ready, pending := none, fn, tmps := a.tmps, params := ps, assign, body, defers := w.heap.size }), ?_, ?_, ?_, ?_, ?_, ?_⟩
  · exact run_enterLoop_outer _ _ _ _ _
  · simp only [resolve, hg]
    simp [go_sem]
  · exact fun _ _ => trivial
  · simp [invoke, go_sem, eg]
  · exact fun _ => by omega
  · exact h fn
/-- What holds between two rounds of cover: k bytes are covered. -/
structure Inv (key : List Int) (s n : Int) (w : World) (bb bo L cap : Nat) (cur l0 : List Int) (t : TypeId) (D : Nat) (r : Loop) (k : Nat) (W : World) : Prop where
  kL : k ≤ L
  i : W.heap[w.heap.size + 1 + 1]? = some (.cells #[.int .i64 (k : Int)] 3 (0, 0))
  b : W.heap[w.heap.size]? = some (.cells #[.slice (some ⟨bb, bo, none⟩) L cap] 23 (0, 0))
  by_ : W.heap[bb]? = some (.cells (bv (splice cur bo (mkL key s n l0 k))).toArray t (0, 0))
  key_ : W.heap[w.heap.size + 1 + 1 + 1]? = some (.cells (keyA key) 32 (0, 0))
  s_ : W.heap[w.heap.size + 1 + 1 + 1 + 1]? = some (.cells #[.int .u8 s] 5 (0, 0))
  n_ : W.heap[w.heap.size + 1 + 1 + 1 + 2]? = some (.cells #[.int .u64 n] 33 (0, 0))
  gb : w.grownBy W (some bb)
  rec_ : W.heap[D + 1]? = some (.loop r)
  def_ : W.heap[D]? = some (.deferred (some []))
theorem Inv.keep {key : List Int} {s n : Int} {w : World} {bb bo L cap : Nat} {cur l0 : List Int} {t : TypeId} {D : Nat} {r : Loop} {k : Nat} {W W' : World} (h : Inv key s n w bb bo L cap cur l0 t D r k W) (g : W.grownBy W' none) : Inv key s n w bb bo L cap cur l0 t D r k W' :=
  ⟨h.kL, keep_gb h.i g, keep_gb h.b g, keep_gb h.by_ g, keep_gb h.key_ g, keep_gb h.s_ g, keep_gb h.n_ g, gb_trans' h.gb g (fun j e => by cases e), keep_gb h.rec_ g, keep_gb h.def_ g⟩

set_option maxRecDepth 100000 in
set_option maxHeartbeats 2000000 in
theorem cover_in (key : List Int) (s n : Int) (bb bo L cap : Nat) (cur : List Int) (t : TypeId) (w : World) (hk : KeyOk key) (hs : W8 s) (hn : W64 n) (_hc : ∀ x ∈ cur, W8 x) (hfit : bo + L ≤ cur.length) (hcap : L ≤ cap) (hcm : cap ≤ maxLen) (hblk : w.heap[bb]? = some (.cells (bv cur).toArray t (0, 0))) :
    CallsIn Fence.wide 3 Tryd.prog 69 #[.slice (some ⟨bb, bo, none⟩) L cap, .agg (keyA key), .int .u8 s, .int .u64 n] w fun e w' =>
      e = .returned (.tuple #[]) ∧ w'.heap[bb]? = some (.cells (bv (splice cur bo (maskL key s n ((cur.drop bo).take L)))).toArray t (0, 0)) ∧ w.grownBy w' (some bb) := by
  have hKs := keyA_size hk
  have hbl : bb < w.heap.size := (Array.getElem?_eq_some_iff.1 hblk).1
  obtain ⟨K, hKe⟩ : ∃ K, K = keyA key := ⟨_, rfl⟩
  rw [← hKe] at hKs ⊢
  replace hKe := hide hKe
  refine callsIn_of_wp_marks Tryd.func69 rfl trivial ?_ rfl
  simp only [Tryd.ntmps69, List.size_toArray, List.length_cons, List.length_nil, Nat.reduceAdd, Nat.reduceSub, Array.replicate_succ, Array.replicate_zero, List.push_toArray, List.append_toArray, List.nil_append, List.cons_append]
  have hkW := heap_alloc_new (w.alloc (.cells #[.slice (some ⟨bb, bo, none⟩) L cap] 23)) (.cells K 32)
  rw [World.size_alloc] at hkW
  have hkW2 : (((w.alloc (.cells #[.slice (some ⟨bb, bo, none⟩) L cap] 23)).alloc (.cells K 32)).alloc (.cells #[.int .i64 0] 3)).heap[w.heap.size + 1]? = some (.cells K 32 (0, 0)) := by
    rw [Below.heap_alloc _ _ _ (by simp)]; exact hkW
  replace hkW2 := hide hkW2
  clear hkW
  refine wpIn_wide.2 ?_
  go_wp2_with (first | (refine wpList_loadKey _ (by rfl) (by rfl) _ (by rfl) K ?_ hKs ?_; exact unhide hkW2) | (go_at_call 86; refine (mask_any K s n _ hKs).mono ?_; rintro e w' ⟨rfl, rfl⟩))
  obtain ⟨W6, hW6⟩ : ∃ W, W = (((((w.alloc (.cells #[.slice (some ⟨bb, bo, none⟩) L cap] 23)).alloc (.cells K 32)).alloc (.cells #[.int .i64 0] 3)).alloc (.cells K 32)).alloc (.cells #[.int .u8 s] 5)).alloc (.cells #[.int .u64 n] 33) := ⟨_, rfl⟩
  rw [← hW6]
  have g6 : w.grownBy W6 none := by rw [hW6]; exact gb_alloc (gb_alloc (gb_alloc (gb_alloc (gb_alloc (gb_alloc (World.grownBy.refl w none) _) _) _) _) _) _
  have z6 : W6.heap.size = w.heap.size + 6 := by rw [hW6]; simp
  have f6 := alloc6 w (.cells #[.slice (some ⟨bb, bo, none⟩) L cap] 23) (.cells K 32) (.cells #[.int .i64 0] 3) (.cells K 32) (.cells #[.int .u8 s] 5) (.cells #[.int .u64 n] 33)
  rw [← hW6] at f6
  rw [unhide hKe] at f6
  obtain ⟨f0, f1, f2, f3, f4⟩ := f6
  have hb6 : W6.heap[bb]? = some (.cells (bv cur).toArray t (0, 0)) := keep_gb hblk g6
  clear hW6 hkW2 hblk
  obtain ⟨l0, hl0⟩ : ∃ l0, l0 = (cur.drop bo).take L := ⟨_, rfl⟩
  have hl0l : l0.length = L := by rw [hl0]; simp; omega
  replace hl0 := hide hl0
  refine (wpIn_wide (n := 3)).1 ?_
  refine range_enter (gf := 102) rfl (enters_of Tryd.func102 (by kernel_rfl) rfl) ?_
  intro fn
  generalize hrec : Loop.mk _ _ _ _ _ _ _ _ = r0
  have g8 : W6.grownBy ((W6.alloc (.deferred (some []))).alloc (.loop r0)) none := gb_alloc (gb_alloc (World.grownBy.refl W6 none) _) _
  have hr8 : ((W6.alloc (.deferred (some []))).alloc (.loop r0)).heap[W6.heap.size + 1]? = some (.loop r0) := by
    have := heap_alloc_new (W6.alloc (.deferred (some []))) (.loop r0)
    rwa [World.size_alloc] at this
  have hd8 : ((W6.alloc (.deferred (some []))).alloc (.loop r0)).heap[W6.heap.size]? = some (.deferred (some [])) := by
    rw [Below.heap_alloc _ _ _ (by simp)]; exact heap_alloc_new _ _
  generalize (W6.alloc (.deferred (some []))).alloc (.loop r0) = W8 at *
  generalize W6.heap.size = D at *
  have zD : w.heap.size + 6 ≤ D := by omega
  clear z6
  have hget : ∀ k, k < L → (bv (splice cur bo (mkL key s n l0 k))).toArray[bo + k]? = some (.int .u8 (l0.getD k 0)) := by
    intro k hkL
    have h1 := splice_get cur (mkL key s n l0 k) bo (by rw [mkL_len]; omega)
    rw [mkL_len] at h1
    have h2 := getD_bv (splice cur bo (mkL key s n l0 k)) (bo + k) (by rw [splice_len _ _ _ (by rw [mkL_len]; omega)]; omega)
    rw [h1] at h2
    have h3 : l0.getD k 0 = cur.getD (bo + k) 0 := by
      rw [unhide hl0, List.getD_eq_getElem?_getD, List.getD_eq_getElem?_getD, List.getElem?_take, if_pos hkL, List.getElem?_drop]
    rw [h3]
    simpa using h2
  have hset : ∀ k, k < L → (bv (splice cur bo (mkL key s n l0 k))).toArray.setIfInBounds (bo + k) (.int .u8 (x8 (l0.getD k 0) (maskB key s n k))) = (bv (splice cur bo (mkL key s n l0 (k + 1)))).toArray := by
    intro k hkL
    have := splice_set cur (mkL key s n l0 k) bo (x8 (l0.getD k 0) (maskB key s n k)) (by rw [mkL_len]; omega)
    rw [mkL_len] at this
    rw [this, mkL_succ]
  refine (mask1_any key s n (D + 1) (w.heap.size + 1 + 1 + 1) (w.heap.size + 1 + 1 + 1 + 1) (w.heap.size + 1 + 1 + 1 + 2) L (Inv key s n w bb bo L cap cur l0 t D r0)
    (fun W' => W'.heap[bb]? = some (.cells (bv (splice cur bo (mkL key s n l0 L))).toArray t (0, 0)) ∧ w.grownBy W' (some bb) ∧ W'.heap[D + 1]? = some (.loop { r0 with state := .done, pending := some (.exit 0) }) ∧ W'.heap[D]? = some (.deferred (some [])))
    hk hs hn (fun k W W' h g => h.keep g) (fun k W h => ⟨⟨h.key_, (cell_one h.s_).1, (cell_one h.n_).1⟩, h.kL⟩) ?hY _ ?h0).mono ?post
  case h0 =>
    refine ⟨by omega, keep_gb f1 g8, keep_gb f0 g8, ?_, keep_gb f2 g8, keep_gb f3 g8, keep_gb f4 g8, gb_none (gb_trans g6 g8) _, hr8, hd8⟩
    rw [show mkL key s n l0 0 = [] from rfl, splice_nil]; exact keep_gb hb6 g8
  case post =>
    clear hget hset
    rintro e W3 ⟨⟨v, rfl⟩, hby, hg, hr, hd⟩
    have hlr : D + 1 < W3.heap.size := (Array.getElem?_eq_some_iff.1 hr).1
    refine ⟨some (.exit 0), _, run_endLoop hr (by simp), ?_⟩
    have hd4 : (W3.putObj (D + 1) (.loop { { r0 with state := .done, pending := some (.exit 0) } with state := .exhausted })).heap[D]? = some (.deferred (some [])) := by rw [World.putObj_heap_other (by omega)]; exact hd
    replace hby := hide hby
    replace hr := hide hr
    replace hd := hide hd
    replace hg := hide hg
    replace hrec := hide hrec
    clear f0 f1 f2 f3 f4 hb6 g6 g8 hr8 hd8
    dsimp only
    gi_wp2
    refine ⟨by simp, .inl ⟨_, _, rfl, run_takeDeferred hd4, ?_⟩⟩
    refine ⟨_, results_none rfl _ _ _, rfl, ?_, ?_⟩
    · rw [World.putObj_heap_other (by omega), World.putObj_heap_other (by omega), ← unhide hl0]
      rw [show maskL key s n l0 = mkL key s n l0 L by unfold maskL; rw [hl0l]]
      exact unhide hby
    · exact gb_trans' (gb_trans' (unhide hg) (grownBy_putObj' _ (D + 1) _) (fun j e => by cases e; left; omega)) (grownBy_putObj' _ D _) (fun j e => by cases e; left; omega)
  case hY =>
    clear f0 f1 f2 f3 f4 hb6 g6 g8 hr8 hd8
    intro k W h
    suffices hgoal : ∀ R : Ending → World → Prop, (∀ W', Inv key s n w bb bo L cap cur l0 t D r0 (k + 1) W' → R (.returned (.bool true)) W') →
        (∀ W', (W'.heap[bb]? = some (.cells (bv (splice cur bo (mkL key s n l0 L))).toArray t (0, 0)) ∧ w.grownBy W' (some bb) ∧ W'.heap[D + 1]? = some (.loop { r0 with state := .done, pending := some (.exit 0) }) ∧ W'.heap[D]? = some (.deferred (some []))) → R (.returned (.bool false)) W') →
        YieldAt Fence.wide 1 Tryd.prog (D + 1) #[.int .u8 (maskB key s n k)] W R from hgoal _ (fun W' h => .inl ⟨rfl, h⟩) (fun W' h => .inr ⟨rfl, h⟩)
    intro R hR1 hR2
    replace hR1 := hide hR1
    replace hR2 := hide hR2
    refine ⟨r0.fn, _, r0.assign, r0.body, run_yield h.rec_ (by rw [← hrec]; rfl), roundIn_of_wpIn trivial ?_⟩
    obtain ⟨r1, hr1⟩ : ∃ r1, r1 = r0 := ⟨_, rfl⟩
    have hst : r1.state = .ready := by rw [hr1, ← hrec]
    rw [← hr1] at h
    have hreq : Hid (r1 = r0) := hr1
    rw [← hrec]
    dsimp only
    clear hr1
    replace hrec := hide hrec
    gi_wp2
    refine ⟨_, run_beginRound h.rec_ hst, ?_⟩
    have hlr : D + 1 < W.heap.size := (Array.getElem?_eq_some_iff.1 h.rec_).1
    obtain ⟨Wb, hWb⟩ : ∃ Wb, Wb = W.putObj (D + 1) (.loop { r1 with state := .busy }) := ⟨_, rfl⟩
    rw [← hWb]
    have hoth : ∀ i, i ≠ D + 1 → Wb.heap[i]? = W.heap[i]? := fun i hi => by rw [hWb]; exact World.putObj_heap_other hi
    have hrb : Wb.heap[D + 1]? = some (.loop { r1 with state := .busy }) := by rw [hWb]; exact World.putObj_heap_same hlr
    have gWb : W.grownBy Wb (some (D + 1)) := by rw [hWb]; exact grownBy_putObj' W (D + 1) _
    clear hWb
    have hi_ := (hoth (w.heap.size + 1 + 1) (by omega)).trans h.i
    have hb_ := (hoth w.heap.size (by omega)).trans h.b
    have hy_ := (hoth bb (by omega)).trans h.by_
    have hdb := (hoth D (by omega)).trans h.def_
    obtain ⟨ci, fi⟩ := cell_one hi_
    obtain ⟨cb, fb⟩ := cell_one hb_
    replace hoth := hide hoth
    replace hrb := hide hrb
    replace hdb := hide hdb
    replace hi_ := hide hi_
    replace hb_ := hide hb_
    by_cases hlt : k < L
    · have he : ((k : Int) == (L : Int)) = false := by simp; omega
      have hkm : (k : Int) + 1 ≤ 9223372036854775807 := by unfold maxLen at hcm; omega
      have cy : Wb.cell? ⟨bb, bo + k, none⟩ = some (.int .u8 (l0.getD k 0)) := by
        simp only [World.cell?, hy_]; simpa using hget k hlt
      have fy : Wb.frozen? ⟨bb, bo + k, none⟩ = false := by simp [World.frozen?, hy_]
      have hse := hide (hset k hlt)
      replace hy_ := hide hy_
      generalize l0.getD k 0 = x at *
      replace hget := hide hget
      replace hset := hide hset
      have h' := h
      replace h := hide h
      clear h'
      gi_wp2
      have hW3 : ((Wb.setCell ⟨bb, bo + k, none⟩ (.int .u8 (bits .xor .u8 x (maskB key s n k)))).setCell ⟨w.heap.size + 1 + 1, 0, none⟩ (.int .i64 ((k : Int) + 1))).heap[D + 1]? = some (.loop { r1 with state := .busy }) := by
        rw [Below.heap_setCell _ _ _ _ (by simp <;> omega), Below.heap_setCell _ _ _ _ (by simp <;> omega)]; exact unhide hrb
      refine ⟨_, _, run_endRound none hW3, unhide hR1 _ ?_⟩
      have hh := unhide h
      have hl3 : D + 1 < ((Wb.setCell ⟨bb, bo + k, none⟩ (.int .u8 (bits .xor .u8 x (maskB key s n k)))).setCell ⟨w.heap.size + 1 + 1, 0, none⟩ (.int .i64 ((k : Int) + 1))).heap.size := (Array.getElem?_eq_some_iff.1 hW3).1
      refine ⟨by omega, ?_, ?_, ?_, ?_, ?_, ?_, ?_, ?_, ?_⟩
      · rw [World.putObj_heap_other (by omega)]
        have := heap_set (o := 0) (B := w.heap.size + 1 + 1) (w := Wb.setCell ⟨bb, bo + k, none⟩ (.int .u8 (bits .xor .u8 x (maskB key s n k)))) (by rw [Below.heap_setCell _ _ _ _ (by simp <;> omega)]; exact unhide hi_) (.int .i64 ((k : Int) + 1))
        exact this
      · rw [World.putObj_heap_other (by omega), Below.heap_setCell _ _ _ _ (by simp <;> omega), Below.heap_setCell _ _ _ _ (by simp <;> omega)]; exact unhide hb_
      · rw [World.putObj_heap_other (by omega), Below.heap_setCell _ _ _ _ (by simp <;> omega)]
        have := heap_set (o := bo + k) (unhide hy_) (.int .u8 (bits .xor .u8 x (maskB key s n k)))
        rw [this]
        exact congrArg (fun z => some (Obj.cells z t (0, 0))) (unhide hse)
      · rw [World.putObj_heap_other (by omega), Below.heap_setCell _ _ _ _ (by simp <;> omega), Below.heap_setCell _ _ _ _ (by simp <;> omega), unhide hoth _ (by omega)]; exact hh.key_
      · rw [World.putObj_heap_other (by omega), Below.heap_setCell _ _ _ _ (by simp <;> omega), Below.heap_setCell _ _ _ _ (by simp <;> omega), unhide hoth _ (by omega)]; exact hh.s_
      · rw [World.putObj_heap_other (by omega), Below.heap_setCell _ _ _ _ (by simp <;> omega), Below.heap_setCell _ _ _ _ (by simp <;> omega), unhide hoth _ (by omega)]; exact hh.n_
      · refine gb_trans' (gb_set (gb_set (gb_trans' hh.gb gWb (fun j e => by cases e; left; omega)) _ _ (.inr rfl)) _ _ (.inl (by simp <;> omega))) (grownBy_putObj' _ (D + 1) _) (fun j e => by cases e; left; omega)
      · rw [World.putObj_heap_same hl3]
        rw [unhide hreq, ← unhide hrec]
        rfl
      · rw [World.putObj_heap_other (by omega), Below.heap_setCell _ _ _ _ (by simp <;> omega), Below.heap_setCell _ _ _ _ (by simp <;> omega)]; exact unhide hdb
    · obtain rfl : k = L := by have := h.kL; omega
      have he : ((k : Int) == (k : Int)) = true := by simp
      replace h := hide h
      replace hy_ := hide hy_
      replace hget := hide hget
      replace hset := hide hset
      gi_wp2
      refine ⟨_, _, run_endRound (some (.exit 0)) (unhide hrb), unhide hR2 _ ?_⟩
      have hh := unhide h
      have hl3 : D + 1 < Wb.heap.size := (Array.getElem?_eq_some_iff.1 (unhide hrb)).1
      refine ⟨?_, ?_, ?_, ?_⟩
      · rw [World.putObj_heap_other (by omega)]; exact unhide hy_
      · exact gb_trans' (gb_trans' hh.gb gWb (fun j e => by cases e; left; omega)) (grownBy_putObj' _ (D + 1) _) (fun j e => by cases e; left; omega)
      · rw [World.putObj_heap_same hl3, unhide hreq, ← unhide hrec]; rfl
      · rw [World.putObj_heap_other (by omega)]; exact unhide hdb

theorem cover_any (key : List Int) (s n : Int) (bb bo L cap : Nat) (cur : List Int) (t : TypeId) (w : World) (hk : KeyOk key) (hs : W8 s) (hn : W64 n) (hc : ∀ x ∈ cur, W8 x) (hfit : bo + L ≤ cur.length) (hcap : L ≤ cap) (hcm : cap ≤ maxLen) (hblk : w.heap[bb]? = some (.cells (bv cur).toArray t (0, 0))) :
    Calls Tryd.prog 69 #[.slice (some ⟨bb, bo, none⟩) L cap, .agg (keyA key), .int .u8 s, .int .u64 n] w fun e w' =>
      e = .returned (.tuple #[]) ∧ w'.heap[bb]? = some (.cells (bv (splice cur bo (maskL key s n ((cur.drop bo).take L)))).toArray t (0, 0)) ∧ w.grownBy w' (some bb) :=
  callsIn_wide.1 (cover_in key s n bb bo L cap cur t w hk hs hn hc hfit hcap hcm hblk)
end Go.Proofs.YtjnmokmchdfchaaDoor
