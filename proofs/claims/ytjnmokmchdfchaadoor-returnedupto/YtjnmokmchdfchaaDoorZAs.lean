import Derived.Test.YtjnmokmchdfchaaDoorZBytes
import Derived.Lib.AppendStr
import Derived.Test.YtjnmokmchdfchaaDoorZVn2
namespace Go.Proofs.YtjnmokmchdfchaaDoor
open Go.RowKit

theorem strCells_bl (s : ByteArray) : Lib.strCells s = bv (bl s) := by
  unfold Lib.strCells bv bl
  rw [List.map_map]
  rfl
theorem run_appendS {w : World} (ty : TypeId) (base : Nat) (v : Value) (l : List Int) (hown : OwnB w base v l) (s : ByteArray) (hlen : l.length + s.size ≤ 100000000) (hbase : base ≤ w.heap.size) :
    ∃ a' n' cap' w', (Builtin.append_ #[23, 9] ty #[v, .string s]).run Tryd.prog w = .ok (.slice a' n' cap') w' ∧ OwnB w' base (.slice a' n' cap') (l ++ bl s) ∧ w.grownBy w' v.ownBlock ∧ ((Value.slice a' n' cap').ownBlock = v.ownBlock ∨ (Value.slice a' n' cap').ownBlock = some w.heap.size) := by
  obtain ⟨i0, hi, hz0, hz1, hz2⟩ := info_parts Tryd.info5
  obtain ⟨v', w', hr, h2, h3, h4⟩ := Lib.run_append_own_string (P := Tryd.prog) w base 23 9 ty 5 i0 Tryd.underlying23 Tryd.underlying9 hi hz0 hz1 hz2 v l.length (bv l) hown.2 s (by simp [maxLen]; omega) (by omega) hbase
  have hb : v'.ownBlock = v.ownBlock ∨ v'.ownBlock = some w.heap.size := by
    obtain ⟨-, hl, ⟨rfl, hn⟩ | ⟨g, cap, cur, rfl, hbg, hg, hnc, hcm, hcs, htake⟩⟩ := id hown
    · by_cases hm : s.size = 0
      · rw [h4.2 ⟨rfl, hm⟩]; exact .inl rfl
      · have hr2 := run_append_nil_string (P := Tryd.prog) w 23 9 ty 5 i0 _ Tryd.underlying23 Tryd.underlying9 hi hz0 s (by omega) (by omega) (by rw [hz2]; omega)
        rw [hr] at hr2
        simp only [Result.ok.injEq] at hr2
        rw [hr2.1]; exact .inr rfl
    · by_cases hroom : l.length + s.size ≤ cap
      · have hr2 := Lib.run_append_room_string (P := Tryd.prog) w 23 9 ty 5 i0 Tryd.underlying23 Tryd.underlying9 hi hz1 g l.length cap cur hg s hroom (by rw [hcs]; omega)
        rw [hr] at hr2
        simp only [Result.ok.injEq] at hr2
        rw [hr2.1]; exact .inl rfl
      · have hr2 := Lib.run_append_grow_string (P := Tryd.prog) w 23 9 ty 5 i0 _ Tryd.underlying23 Tryd.underlying9 hi hz0 ⟨g, 0, none⟩ l.length cap (bv l) (by rw [hz1, bv_len]; omega) (hown.2.cells (g := g) rfl) s (by omega) (by omega) (by rw [hz2]; exact growslice_fits (by omega) (by omega))
        rw [hr] at hr2
        simp only [Result.ok.injEq] at hr2
        rw [hr2.1]; exact .inr rfl
  have hO : OwnB w' base v' (l ++ bl s) := by
    refine ⟨fun y hy => (List.mem_append.1 hy).elim (hown.1 y) (bl_w s y), ?_⟩
    rw [strCells_bl] at h2
    rw [List.length_append, bl_len]
    simpa [bv] using h2
  obtain ⟨a', cap', hv, _⟩ := hO.bs
  rw [hv] at hr hO hb
  exact ⟨a', _, cap', w', hr, hO, h3, hb⟩
theorem wp_appendS {w : World} {o : Oper} {a : Act} {K : Act → World → Prop} {Q : Exit → Act → World → Prop} (s x : Operand)
    (ho : o.op = .call { callee := .builtin .append, args := #[s, x], argTypes := #[23, 9] })
    (base : Nat) (v : Value) (l : List Int) (hs : a.eval s = v) (hown : OwnB w base v l) (d : ByteArray) (hx : a.eval x = .string d) (hlen : l.length + d.size ≤ 100000000) (hbase : base ≤ w.heap.size)
    (h : ∀ a' n' cap' w', OwnB w' base (.slice a' n' cap') (l ++ bl d) → w.grownBy w' v.ownBlock → ((Value.slice a' n' cap').ownBlock = v.ownBlock ∨ (Value.slice a' n' cap').ownBlock = some w.heap.size) →
      K (a.put o.dst (.slice a' n' cap')) w') : Oper.wp Tryd.prog o a w K Q := by
  obtain ⟨a', n', cap', w', hr, h2, h3, h4⟩ := run_appendS (w := w) o.type base v l hown d hlen hbase
  unfold Oper.wp execOp
  simp only [ho, resolve, invoke, builtin, Sem.run_bind, Sem.run_pure, Result.andThen_ok, List.map_toArray, List.map_cons, List.map_nil, hs, hx, hr]
  exact h a' n' cap' w' h2 h3 h4
/-- append(b, s...) of a string. -/
theorem wpList_appendS {w : World} {ops : Array Oper} {rest : List Oper} {o : Oper} {a : Act} {Q : Exit → Act → World → Prop} (hgd : o.guard = none) (s x : Operand)
    (ho : o.op = .call { callee := .builtin .append, args := #[s, x], argTypes := #[23, 9] })
    (base : Nat) (v : Value) (l : List Int) (hs : a.eval s = v) (hown : OwnB w base v l) (d : ByteArray) (hx : a.eval x = .string d) (hlen : l.length + d.size ≤ 100000000) (hbase : base ≤ w.heap.size)
    (h : ∀ a' n' cap' w', OwnB w' base (.slice a' n' cap') (l ++ bl d) → w.grownBy w' v.ownBlock → ((Value.slice a' n' cap').ownBlock = v.ownBlock ∨ (Value.slice a' n' cap').ownBlock = some w.heap.size) →
      wpList Tryd.prog ops Q rest (a.put o.dst (.slice a' n' cap')) w') : wpList Tryd.prog ops Q (o :: rest) a w :=
  wpList_plain hgd fun _ hK => wp_appendS s x ho base v l hs hown d hx hlen hbase fun a' n' cap' w' h1 h2 h3 => hK _ _ (h a' n' cap' w' h1 h2 h3)
theorem step_appendS {w : World} {ops : Array Oper} {o : Oper} {a : Act} {K : Act → World → Prop} {Q : Exit → Act → World → Prop} {E : Prop} (hgd : o.guard = none) (s x : Operand)
    (ho : o.op = .call { callee := .builtin .append, args := #[s, x], argTypes := #[23, 9] })
    (base : Nat) (v : Value) (l : List Int) (hs : a.eval s = v) (hown : OwnB w base v l) (d : ByteArray) (hx : a.eval x = .string d) (hlen : l.length + d.size ≤ 100000000) (hbase : base ≤ w.heap.size)
    (h : ∀ a' n' cap' w', OwnB w' base (.slice a' n' cap') (l ++ bl d) → w.grownBy w' v.ownBlock → ((Value.slice a' n' cap').ownBlock = v.ownBlock ∨ (Value.slice a' n' cap').ownBlock = some w.heap.size) →
      K (a.put o.dst (.slice a' n' cap')) w') : if Region.wanted o (yielded ops a.tmps) = true then Oper.wp Tryd.prog o a w K Q else E := by
  have hw : Region.wanted o (yielded ops a.tmps) = true := by simp [Region.wanted, hgd]
  rw [if_pos hw]
  exact wp_appendS s x ho base v l hs hown d hx hlen hbase h
end Go.Proofs.YtjnmokmchdfchaaDoor
namespace Go.Proofs.YtjnmokmchdfchaaDoor
open Go.RowKit
attribute [local go_sem ↓] Go.wp_at_zero Go.wp_at_succ

/-- A closure that writes a part of a frame. -/
def Wr (W0 : World) (f : Fr) (rv wv : Value) (ch : List Int) : Prop :=
  ∃ F cap, wv = .func (.func F) #[] cap ∧ (∀ args w, (callFunc F args).run Tryd.prog w = .ok (.enter F args) w) ∧ ∀ (w : World) (base : Nat) (a : Option Addr) (n c : Nat) (m : List Int), W0.grownBy w none → W0.heap.size ≤ base → base ≤ w.heap.size → OwnB w base (.slice a n c) m → m.length + 16 * f.ranges.length + f.data.size ≤ 79000000 →
    Calls Tryd.prog F (#[.slice a n c, .agg (frA f rv)] ++ cap) w fun e w' => ∃ a' n' c', e = .returned (.slice a' n' c') ∧ Grew w base (.slice a n c) w' (.slice a' n' c') (m ++ ch)
theorem enter_bytesPart (args : Array Value) (w : World) : (callFunc 96 args).run Tryd.prog w = .ok (.enter 96 args) w := by kernel_rfl
theorem enter_numberPart (args : Array Value) (w : World) : (callFunc 99 args).run Tryd.prog w = .ok (.enter 99 args) w := by kernel_rfl
theorem enter_rangesPart (args : Array Value) (w : World) : (callFunc 92 args).run Tryd.prog w = .ok (.enter 92 args) w := by kernel_rfl
theorem enter_streamPart (args : Array Value) (w : World) : (callFunc 88 args).run Tryd.prog w = .ok (.enter 88 args) w := by kernel_rfl
set_option maxRecDepth 100000 in
theorem field_off (X : Nat) (w : World) : Calls Tryd.prog 78 #[.pointer (some ⟨X, 0, none⟩)] w fun e w' => e = .returned (.pointer (some ⟨X, 2, none⟩)) ∧ w' = w := by
  go_enter Tryd.func78, Tryd.ntmps78
  go_wp2_with fail
  go_ret
  exact ⟨rfl, rfl⟩
set_option maxRecDepth 100000 in
theorem field_code (X : Nat) (w : World) : Calls Tryd.prog 79 #[.pointer (some ⟨X, 0, none⟩)] w fun e w' => e = .returned (.pointer (some ⟨X, 3, none⟩)) ∧ w' = w := by
  go_enter Tryd.func79, Tryd.ntmps79
  go_wp2_with fail
  go_ret
  exact ⟨rfl, rfl⟩
set_option maxRecDepth 100000 in
theorem wr_off (W0 : World) (f : Fr) (rv : Value) (B : Nat) (hB : W0.cell? ⟨B, 0, none⟩ = some (.func (.func 78) #[] #[])) (hv : V62 f.offset) :
    Wr W0 f rv (.func (.func 99) #[] #[.pointer (some ⟨B, 0, none⟩)]) (varL f.offset) := by
  refine ⟨_, _, rfl, enter_numberPart, fun w base a n c m g0 hb0 hbase ho hl => ?_⟩
  obtain ⟨k, s, o, cd, fin, d, rg⟩ := f
  have hB1 : (w.alloc (.cells #[.int .i64 k, .int .i64 s, .int .u64 o, .int .u64 cd, .bool fin, .string d, rv] 46)).cell? ⟨B, 0, none⟩ = some (.func (.func 78) #[] #[]) := (World.grownBy_alloc w _ none).cell (g0.cell hB (by simp)) (by simp)
  have G := fun ob => (Grew.refl ho).still (World.grownBy_alloc w ob none)
  simp only [frA] at *
  replace G := hide G
  clear hB
  go_enter Tryd.func99, Tryd.ntmps99
  go_wp2_with fail
  refine (field_off _ _).mono ?_
  rintro e w' ⟨rfl, rfl⟩
  go_wp2_with fail
  refine (appN (unhide G _) hv hbase (by omega)).mono ?_
  rintro e w2 ⟨a2, n2, c2, rfl, G2, -⟩
  go_wp2_with fail
  go_ret
  exact ⟨a2, n2, c2, rfl, G2⟩
set_option maxRecDepth 100000 in
theorem wr_code (W0 : World) (f : Fr) (rv : Value) (B : Nat) (hB : W0.cell? ⟨B, 0, none⟩ = some (.func (.func 79) #[] #[])) (hv : V62 f.code) :
    Wr W0 f rv (.func (.func 99) #[] #[.pointer (some ⟨B, 0, none⟩)]) (varL f.code) := by
  refine ⟨_, _, rfl, enter_numberPart, fun w base a n c m g0 hb0 hbase ho hl => ?_⟩
  obtain ⟨k, s, o, cd, fin, d, rg⟩ := f
  have hB1 : (w.alloc (.cells #[.int .i64 k, .int .i64 s, .int .u64 o, .int .u64 cd, .bool fin, .string d, rv] 46)).cell? ⟨B, 0, none⟩ = some (.func (.func 79) #[] #[]) := (World.grownBy_alloc w _ none).cell (g0.cell hB (by simp)) (by simp)
  have G := fun ob => (Grew.refl ho).still (World.grownBy_alloc w ob none)
  simp only [frA] at *
  replace G := hide G
  clear hB
  go_enter Tryd.func99, Tryd.ntmps99
  go_wp2_with fail
  refine (field_code _ _).mono ?_
  rintro e w' ⟨rfl, rfl⟩
  go_wp2_with fail
  refine (appN (unhide G _) hv hbase (by omega)).mono ?_
  rintro e w2 ⟨a2, n2, c2, rfl, G2, -⟩
  go_wp2_with fail
  go_ret
  exact ⟨a2, n2, c2, rfl, G2⟩
set_option maxRecDepth 100000 in
theorem wr_stream (W0 : World) (f : Fr) (rv : Value) (hv0 : 0 ≤ f.stream) (hv1 : f.stream < 4) :
    Wr W0 f rv (.func (.func 88) #[] #[]) (varL f.stream) := by
  refine ⟨_, _, rfl, enter_streamPart, fun w base a n c m g0 hb0 hbase ho hl => ?_⟩
  obtain ⟨k, s, o, cd, fin, d, rg⟩ := f
  have G := fun ob => (Grew.refl ho).still (World.grownBy_alloc w ob none)
  simp only [frA] at *
  replace G := hide G
  have hw : IntKind.u64.wrap s = s := by rw [IntKind.wrap_u64]; omega
  go_enter Tryd.func88, Tryd.ntmps88
  go_wp2_with fail
  refine (appN (unhide G _) ⟨by omega, by omega⟩ hbase (by omega)).mono ?_
  rintro e w2 ⟨a2, n2, c2, rfl, G2, -⟩
  go_wp2_with fail
  go_ret
  exact ⟨a2, n2, c2, rfl, G2⟩
set_option maxRecDepth 100000 in
theorem wr_ranges (W0 : World) (f : Fr) (rv : Value) (h : FrV W0 f rv) (hf : fallP f.ranges) :
    Wr W0 f rv (.func (.func 92) #[] #[]) (rangesL f.ranges) := by
  obtain ⟨-, -, ra, cap, rfl, hrs⟩ := h
  refine ⟨_, _, rfl, enter_rangesPart, fun w base a n c m g0 hb0 hbase ho hl => ?_⟩
  obtain ⟨k, s, o, cd, fin, d, rg⟩ := f
  have hn : n = m.length := ho.bsv.2.1
  subst hn
  have hl2 : m.length + 16 * rg.length + d.size ≤ 79000000 := hl
  have hC := hide (fun ob => appendRanges_any W0 (w.alloc ob) base a c m ra rg.length cap rg (ho.gb0 (World.grownBy_alloc w ob none)) (gb_alloc g0 ob) hb0 hrs hf (by simp; omega) (by omega))
  have G := hide (fun ob => (Grew.refl ho).still (World.grownBy_alloc w ob none))
  simp only [frA] at *
  go_enter Tryd.func92, Tryd.ntmps92
  go_wp2_with fail
  refine (unhide hC _).mono ?_
  rintro e w2 ⟨a2, n2, c2, rfl, G2⟩
  go_wp2_with fail
  go_ret
  exact ⟨a2, n2, c2, rfl, (unhide G _).trans G2⟩
set_option maxRecDepth 100000 in
set_option maxHeartbeats 1000000 in
theorem wr_bytes (W0 : World) (f : Fr) (rv : Value) :
    Wr W0 f rv (.func (.func 96) #[] #[]) (varL f.data.size ++ bl f.data) := by
  refine ⟨_, _, rfl, enter_bytesPart, fun w base a n c m g0 hb0 hbase ho hl => ?_⟩
  obtain ⟨k, s, o, cd, fin, d, rg⟩ := f
  have G := fun ob => (Grew.refl ho).still (World.grownBy_alloc w ob none)
  simp only [frA] at *
  have hw : IntKind.u64.wrap (d.size : Int) = (d.size : Int) := by rw [IntKind.wrap_u64]; omega
  obtain ⟨W1, hW1⟩ : ∃ W, W = w.alloc (.cells #[.int .i64 k, .int .i64 s, .int .u64 o, .int .u64 cd, .bool fin, .string d, rv] 46) := ⟨_, rfl⟩
  have hbox : W1.heap[w.heap.size]? = some (.cells #[.int .i64 k, .int .i64 s, .int .u64 o, .int .u64 cd, .bool fin, .string d, rv] 46 (0, 0)) := by rw [hW1]; exact heap_alloc_new _ _
  have hsz : W1.heap.size = w.heap.size + 1 := by rw [hW1]; simp
  have hc0 : ∀ W : World, W.heap[w.heap.size]? = W1.heap[w.heap.size]? → W.cell? ⟨w.heap.size, 5, none⟩ = some (.string d) := fun W h => by
    rw [cell_same h]; simp [World.cell?, hbox]
  have hS1 : W1.drew.cell? ⟨w.heap.size, 5, none⟩ = some (.string d) := hc0 W1.drew rfl
  have hvl := varL_len (d.size : Int)
  replace G := G (.cells #[.int .i64 k, .int .i64 s, .int .u64 o, .int .u64 cd, .bool fin, .string d, rv] 46)
  rw [← hW1] at G
  replace G := hide G
  replace hc0 := hide hc0
  replace hbox := hide hbox
  replace hsz := hide hsz
  replace ho := hide ho
  go_enter Tryd.func96, Tryd.ntmps96
  go_wp2_with fail
  rw [← hW1]
  replace hW1 := hide hW1
  go_region_held3 (fun w' => w'.cell? ⟨w.heap.size, 5, none⟩ = some (.string d)) (first | with_reducible exact hS3 | with_reducible exact hS2 | with_reducible exact hS1)
    (first
      | (go_at_call 89; refine (appN ((unhide G).still (gb_drew (World.grownBy.refl _ _))) ⟨by omega, by omega⟩ hbase (by omega)).mono ?_; rintro e w2 ⟨a2, n2, c2, rfl, G2, L2⟩; have hb2 := L2.box (unhide ho) (by have := unhide hsz; show _ < W1.heap.size; omega); have hS2 := unhide hc0 w2 hb2.1; replace hb2 := hide hb2; replace L2 := hide L2; replace G2 := hide G2)
      | (refine step_appendS (by rfl) _ _ (by rfl) base _ (m ++ varL (d.size : Int)) (by rfl) (unhide G2).own d (by rfl) (by rw [List.length_append]; omega) (Nat.le_trans hbase (unhide G2).size) ?_; intro a3 n3 c3 w3 o3 g3 g4; have hS3 := unhide hc0 w3 ((g3.block w.heap.size (by have := (unhide L2).size; have := unhide hsz; have : W1.drew.heap.size = W1.heap.size := rfl; omega) (fun e => (unhide hb2).2 e.symm)).trans (unhide hb2).1); replace g3 := hide g3; replace o3 := hide o3))
  go_wp2_with fail
  go_ret
  exact ⟨a3, n3, c3, rfl, by rw [← List.append_assoc]; exact (unhide G2).app (World.grownBy.refl _ _) (unhide o3) (unhide g3) g4⟩
end Go.Proofs.YtjnmokmchdfchaaDoor
