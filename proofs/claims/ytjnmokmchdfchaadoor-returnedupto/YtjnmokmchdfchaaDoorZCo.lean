import Derived.Test.YtjnmokmchdfchaaDoorZFo
import Derived.Test.YtjnmokmchdfchaaDoorZErr3
import Derived.Test.YtjnmokmchdfchaaDoorRows
import Derived.ChangeSame
import Derived.Deep.SlicePairs
import Derived.ChangeVars
import Derived.ChangeMaps5
import Derived.JoinedOf
import Derived.RowKit
import Derived.RowKitTokens
import Derived.OpenShut
import Derived.LaidLaws
import Derived.LaidHandle
import Derived.Stop.Joined
namespace Go.Proofs.YtjnmokmchdfchaaDoor
open Go.ChangeShapes Go.WideShapes Go.RowKit Go.Deep

theorem own_knob : ownKnob Tryd.prog.godebug = none := by kernel_rfl
theorem et_at : Tryd.prog.globalNamed "errors.errorType" = some 0 := by kernel_rfl
theorem rt_at : (Tryd.prog.cutTypes.find? (·.1 == "internal/reflectlite.rtype")).map (·.2) = some 136 := by kernel_rfl
theorem one_row : ((List.range (287 - 100)).filter fun t => Tryd.prog.rowNamed t [101, 114, 114, 111, 114]) = [50] := by kernel_rfl
theorem types_n : Tryd.prog.types.size = 287 - 100 := by kernel_rfl

/-- What the row's list gives: the variable's one cell. -/
theorem laid_of {W : World} (h : laidMetH Tryd.prog [("errors.errorType", Rows.laid_errors_errorType)] W) : Laid W := by
  have h' : laidMet Tryd.prog [] W ∧ handlesMet Tryd.prog [("errors.errorType", Rows.laid_errors_errorType)] W := h
  obtain ⟨name, u, ty, e1, e2, e3, e4, e5⟩ := h'.2 _ (List.mem_singleton.2 rfl)
  have en : name = [101, 114, 114, 111, 114] := (Option.some.inj e1).symm
  subst en
  obtain rfl := Option.some.inj (rt_at.symm.trans e2)
  have hm : ty ∈ (List.range (287 - 100)).filter fun t => Tryd.prog.rowNamed t [101, 114, 114, 111, 114] := List.mem_filter.2 ⟨List.mem_range.2 (by rw [← types_n]; exact e3), e4⟩
  rw [one_row] at hm
  obtain rfl := List.mem_singleton.1 hm
  have hh : typeHandle Tryd.prog 50 = .pointer (some ⟨1, 50, none⟩) := by kernel_rfl
  rw [hh] at e5
  have := World.var?_cell et_at e5 0
  simpa [Laid] using this

/-- A world that meets the condition. -/
noncomputable def laidWorld (os : Os) : World :=
  let w0 := World.holding Tryd.prog os ⟨#[], #[], []⟩
  { w0 with heap := w0.heap.modify 0 fun
      | .cells _ t frozen => .cells #[.iface 136 (.agg #[.pointer (some ⟨1, 50, none⟩)])] t frozen
      | o => o }
theorem laidWorld_met (os : Os) (args : Array Value) : laidMetH Tryd.prog [("errors.errorType", Rows.laid_errors_errorType)] ((laidWorld os).forCall (fun _ _ => 0) ⟨#[], args, []⟩).memory :=
  laidMetH_of_parts (laidMet_nil _ _) (by kernel_rfl)
theorem kept_of_gb {w w' : World} (g : w.grownBy w' none) (may : MemPlace → Prop) : w.keptBut w' may := by
  refine ⟨g.os, g.output, fun i hi => ?_⟩
  rw [g.block i hi (by simp)]
  cases h : w.heap[i]? with
  | none => rfl
  | some o => cases o <;> simp
theorem shut_str {H : Type} {enc : TypeId × Value → H} {P : Program} {w : World} {base : Nat} {spare : Nat → Bool} {held : Bool} {t : TypeId} (ht : P.underlying t = some .string) {s : ByteArray} (hs : s.size ≤ maxLen) : DataW.Trod enc P w base spare held t (.string s) (.lit (.string s.data.toList)) [] :=
  ⟨1, by simp [DataW.trod, Value.cells, ht, hs]⟩


def ivOf : Value → Int
  | .int _ z => z
  | _ => 0
section
variable {H : Type} {enc : TypeId × Value → H} {w : World}

theorem bulk_one (d : DataW H) : 1 ≤ Rows.uptoBulk d := by
  cases d with
  | lit l => cases l <;> simp [Rows.uptoBulk]
  | nil => simp [Rows.uptoBulk]
  | ptr d => simp [Rows.uptoBulk]
  | slice elems spare => simp [Rows.uptoBulk]
  | agg parts => simp [Rows.uptoBulk]
  | iface t d => simp [Rows.uptoBulk]
  | map entries => simp [Rows.uptoBulk]
  | held h => simp [Rows.uptoBulk]
theorem bulk_len (l : List (DataW H)) : l.length ≤ Rows.uptoBulkAll l := by
  induction l with
  | nil => simp [Rows.uptoBulkAll]
  | cons x r ih => have := bulk_one x; simp only [Rows.uptoBulkAll, List.length_cons]; omega

theorem rcs_get {l : List Rg} {j : Nat} {v : Value} (h : (rcs l)[j]? = some v) : ∃ i, i < l.length ∧ ((j = i * 2 ∧ v = .int .u64 (rgAt l i).lo) ∨ (j = i * 2 + 1 ∧ v = .int .u64 (rgAt l i).hi)) := by
  have hlt : j < (rcs l).length := (List.getElem?_eq_some_iff.1 h).1
  rw [rcs_len] at hlt
  refine ⟨j / 2, by omega, ?_⟩
  have h2 := rcs_at l (j / 2) (by omega)
  rcases Nat.mod_two_eq_zero_or_one j with e | e
  · left
    have ej : j = j / 2 * 2 := by omega
    rw [← ej, h] at h2
    exact ⟨ej, Option.some.inj h2.1⟩
  · right
    have ej : j = j / 2 * 2 + 1 := by omega
    rw [← ej, h] at h2
    exact ⟨ej, Option.some.inj h2.2⟩
theorem spot_of {a : Addr} {v : Value} (h : w.cell? a = some v) : a = ⟨a.block, a.off, none⟩ := by
  obtain ⟨b, o, s⟩ := a
  cases s with
  | none => rfl
  | some k =>
    unfold World.cell? at h
    split at h <;> simp at h
theorem u64_of {z : Int} (h : (Lit.int .u64 z).wf = true) : W64 z := by
  simp [Lit.wf, IntKind.min, IntKind.max, IntKind.bits, IntKind.signed] at h
  unfold W64; omega
theorem i64_of {z : Int} (h : (Lit.int .i64 z).wf = true) : I64 z := by
  simp [Lit.wf, IntKind.min, IntKind.max, IntKind.bits, IntKind.signed] at h
  unfold I64; omega

/-- A slice of ranges, opened. -/
theorem open_ranges {fuel : Nat} {v : Value} {x : DataW H × List MemPlace} (h : DataW.trod enc Tryd.prog w 0 (fun _ => true) true fuel 44 [v] = some x) :
    ∃ ra cap l, v = .slice ra (List.length l) cap ∧ RSv w ra (List.length l) cap l ∧ l.length + 1 ≤ Rows.uptoBulk x.1 := by
  rcases open_slice_pairs Tryd.underlying44 Tryd.underlying54 (by kernel_rfl) rfl rfl (by kernel_rfl) (by kernel_rfl) h with ⟨e, rfl⟩ | ⟨a, len, cap, m, n, V0, V1, D0, D1, P0, P1, e, -, hl, hm, hmm, rfl, hx⟩
  · simp only [List.cons.injEq, and_true] at e
    subst e
    exact ⟨none, 0, [], rfl, ⟨fun r hr => by simp at hr, rfl, Nat.le_refl _, by simp [maxLen], .inl rfl⟩, by simp [Rows.uptoBulk]⟩
  · simp only [List.cons.injEq, and_true] at e
    subst e
    simp only [if_true] at hmm
    subst hmm
    have hv : ∀ i, i < m → ∃ lo hi, V0 i = .int .u64 lo ∧ V1 i = .int .u64 hi ∧ W64 lo ∧ W64 hi := fun i hi => by
      obtain ⟨-, -, h3, h4⟩ := hx i hi
      obtain ⟨z0, e0, -, k0⟩ := DataW.trod_int Tryd.underlying33 h3
      obtain ⟨z1, e1, -, k1⟩ := DataW.trod_int Tryd.underlying33 h4
      simp only [List.cons.injEq, and_true] at e0 e1
      exact ⟨z0, z1, e0, e1, u64_of k0, u64_of k1⟩
    have hll : ((List.range len).map fun i => (⟨ivOf (V0 i), ivOf (V1 i)⟩ : Rg)).length = len := by simp
    have hat : ∀ i, i < len → rgAt ((List.range len).map fun i => (⟨ivOf (V0 i), ivOf (V1 i)⟩ : Rg)) i = ⟨ivOf (V0 i), ivOf (V1 i)⟩ := fun i hi => by
      simp [rgAt, List.getD, hi]
    refine ⟨some a, m, (List.range len).map fun i => ⟨ivOf (V0 i), ivOf (V1 i)⟩, by rw [hll], ?_, ?_⟩
    · refine ⟨?_, rfl, by rw [hll]; exact hl, hm, ?_⟩
      · intro r hr
        obtain ⟨i, hi, rfl⟩ := List.mem_map.1 hr
        obtain ⟨lo, hi', e0, e1, k0, k1⟩ := hv i (by have := List.mem_range.1 hi; omega)
        simp only [e0, e1, ivOf]
        exact ⟨k0, k1⟩
      · by_cases h0 : m = 0
        · exact .inl h0
        · right
          obtain ⟨c0, -⟩ := hx 0 (by omega)
          have ea : a = ⟨a.block, a.off, none⟩ := spot_of (by simpa [Addr.add] using c0)
          rw [ea] at hx ⊢
          refine ⟨_, _, rfl, fun j v hj => ?_⟩
          obtain ⟨i, hi, ⟨rfl, rfl⟩ | ⟨rfl, rfl⟩⟩ := rcs_get hj
          · rw [hll] at hi
            obtain ⟨c1, -⟩ := hx i (by omega)
            obtain ⟨lo, hi', e0, e1, -⟩ := hv i (by omega)
            rw [hat i hi, e0]
            rw [add_plain, e0] at c1
            exact c1
          · rw [hll] at hi
            obtain ⟨-, c1, -⟩ := hx i (by omega)
            obtain ⟨lo, hi', e0, e1, -⟩ := hv i (by omega)
            rw [hat i hi, e1]
            rw [add_plain, e1] at c1
            exact c1
    · have h1 := bulk_len (H := H) ((List.range len).map fun i => .agg [D0 i, D1 i])
      simp only [List.length_map, List.length_range] at h1 ⊢
      simp only [Rows.uptoBulk]
      omega
theorem c_int : Tryd.prog.cellsOf 3 = 1 := by kernel_rfl
theorem c_u64 : Tryd.prog.cellsOf 33 = 1 := by kernel_rfl
theorem c_bool : Tryd.prog.cellsOf 4 = 1 := by kernel_rfl
theorem c_str : Tryd.prog.cellsOf 9 = 1 := by kernel_rfl
theorem c_rgs : Tryd.prog.cellsOf 44 = 1 := by kernel_rfl
theorem c_fr : Tryd.prog.cellsOf 46 = 7 := by kernel_rfl
theorem list7 {α : Type} {l : List α} (h : l.length = 7) : ∃ x0 x1 x2 x3 x4 x5 x6, l = [x0, x1, x2, x3, x4, x5, x6] := by
  match l, h with
  | [x0, x1, x2, x3, x4, x5, x6], _ => exact ⟨x0, x1, x2, x3, x4, x5, x6, rfl⟩
set_option maxRecDepth 10000 in
/-- A frame's seven cells, opened. -/
theorem open_frame {fuel : Nat} {cs : List Value} {x : DataW H × List MemPlace} (h : DataW.trod enc Tryd.prog w 0 (fun _ => true) true fuel 46 cs = some x) :
    ∃ (f : Fr) (rv : Value), cs = fcs f rv ∧ FrV w f rv ∧ bulkF f ≤ 25 * Rows.uptoBulk x.1 := by
  obtain ⟨xs, n, -, rfl, hlen, hxl, hf⟩ := DataW.trod_struct Tryd.underlying46 h
  rw [c_fr] at hlen
  obtain ⟨v0, v1, v2, v3, v4, v5, v6, rfl⟩ := list7 hlen
  obtain ⟨y0, y1, y2, y3, y4, y5, y6, rfl⟩ := list7 hxl
  have g0 := hf 0 _ rfl
  have g1 := hf 1 _ rfl
  have g2 := hf 2 _ rfl
  have g3 := hf 3 _ rfl
  have g4 := hf 4 _ rfl
  have g5 := hf 5 _ rfl
  have g6 := hf 6 _ rfl
  simp [c_int, c_u64, c_bool, c_str, c_rgs] at g0 g1 g2 g3 g4 g5 g6
  obtain ⟨z0, e0, -, k0⟩ := DataW.trod_int Tryd.underlying3 g0
  obtain ⟨z1, e1, -, k1⟩ := DataW.trod_int Tryd.underlying3 g1
  obtain ⟨z2, e2, -, k2⟩ := DataW.trod_int Tryd.underlying33 g2
  obtain ⟨z3, e3, -, k3⟩ := DataW.trod_int Tryd.underlying33 g3
  obtain ⟨z4, e4, -⟩ := DataW.trod_bool Tryd.underlying4 g4
  obtain ⟨z5, e5, rfl, k5⟩ := DataW.trod_string Tryd.underlying9 g5
  obtain ⟨ra, cap, l, e6, k6, k7⟩ := open_ranges g6
  simp only [List.cons.injEq, and_true] at e0 e1 e2 e3 e4 e5
  subst e0 e1 e2 e3 e4 e5 e6
  refine ⟨⟨z0, z1, z2, z3, z4, z5, l⟩, _, rfl, ⟨⟨i64_of k0, i64_of k1, u64_of k2, u64_of k3, k6.1⟩, ?_, ra, cap, rfl, k6⟩, ?_⟩
  · unfold maxLen at k5
    show z5.size ≤ _
    omega
  · have b0 := bulk_one y0.1
    have b5 : Rows.uptoBulk (DataW.lit (H := H) (.string z5.data.toList)) = z5.size + 1 := by simp [Rows.uptoBulk]
    simp only [bulkF, List.map_cons, List.map_nil, Rows.uptoBulk, Rows.uptoBulkAll] at b5 ⊢
    omega
theorem bulkL_le {F : Nat → Fr} {D : Nat → DataW H} (L : List Nat) (h : ∀ i ∈ L, bulkF (F i) ≤ 25 * Rows.uptoBulk (D i)) : bulkL (L.map F) ≤ 25 * Rows.uptoBulkAll (L.map D) := by
  induction L with
  | nil => simp [bulkL]
  | cons i L ih =>
    have h1 := h i (by simp)
    have h2 := ih (fun j hj => h j (by simp [hj]))
    simp only [List.map_cons, bulkL, Rows.uptoBulkAll]
    omega
instance : Inhabited (Fr × Value) := ⟨(⟨0, 0, 0, 0, false, ByteArray.empty, []⟩, .nilIface)⟩
/-- A slice of frames, opened. -/
theorem open_frames {fuel : Nat} {a : Option Addr} {n cap : Nat} {x : DataW H × List MemPlace} (ha : ∀ y, a = some y → y.spot = none) (h : DataW.trod enc Tryd.prog w 0 (fun _ => true) true fuel 22 [.slice a n cap] = some x) :
    ∃ fs, FSv w a n cap fs ∧ bulkL fs ≤ 25 * Rows.uptoBulk x.1 := by
  rcases open_slice Tryd.underlying22 h with ⟨e, rfl⟩ | ⟨b, len, cap', m, n', D, Pl, e, -, hl, hm, hmm, rfl, hx⟩
  · simp only [List.cons.injEq, and_true, Value.slice.injEq] at e
    obtain ⟨rfl, rfl, rfl⟩ := e
    exact ⟨[], ⟨rfl, Nat.le_refl _, by simp [maxLen], .inl ⟨rfl, rfl⟩⟩, by simp [bulkL]⟩
  · simp only [List.cons.injEq, and_true, Value.slice.injEq] at e
    obtain ⟨rfl, rfl, rfl⟩ := e
    simp only [if_true] at hmm
    subst hmm
    have hb : b = ⟨b.block, b.off, none⟩ := by
      obtain ⟨b1, b2, b3⟩ := b
      obtain rfl : b3 = none := ha _ rfl
      rfl
    rw [c_fr] at hx
    have each : ∀ i, i < n → ∃ q : Fr × Value, w.rangeAt b.block (b.off + i * 7) (fcs q.1 q.2) ∧ FrV w q.1 q.2 ∧ bulkF q.1 ≤ 25 * Rows.uptoBulk (D i) := fun i hi => by
      obtain ⟨cs', h1, h2⟩ := hx i (by omega)
      obtain ⟨f, rv, rfl, hv, hk⟩ := open_frame h2
      obtain ⟨-, hlen, hcell⟩ := World.cells?_some h1
      refine ⟨(f, rv), fun j v hj => ?_, hv, hk⟩
      have hj7 : j < 7 := by have := (List.getElem?_eq_some_iff.1 hj).1; simpa [fcs] using this
      have := hcell j hj7
      rw [hb, add_add, add_plain, hj] at this
      rw [Nat.add_assoc]
      exact this
    obtain ⟨q, hq⟩ := choose_lt each
    have hat : ∀ i, i < n → frAt ((List.range n).map fun i => (q i).1) i = (q i).1 := fun i hi => by
      simp [frAt, List.getD, hi]
    refine ⟨(List.range n).map fun i => (q i).1, ⟨by simp, hl, hm, .inr ⟨b.block, b.off, congrArg some hb, fun i hi => ?_⟩⟩, ?_⟩
    · simp only [List.length_map, List.length_range] at hi
      rw [hat i hi]
      exact ⟨_, (hq i hi).2.1, (hq i hi).1⟩
    · have := bulkL_le (F := fun i => (q i).1) (D := D) (List.range n) (fun i hi => (hq i (List.mem_range.1 hi)).2.2)
      simp only [Rows.uptoBulk]
      omega
end
end Go.Proofs.YtjnmokmchdfchaaDoor
