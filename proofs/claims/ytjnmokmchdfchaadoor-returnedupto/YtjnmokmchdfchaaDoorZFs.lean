import Derived.Test.YtjnmokmchdfchaaDoorZFm
import Derived.Deep.RegionHeld3
import Derived.BigQuiet
namespace Go.Proofs.YtjnmokmchdfchaaDoor
open Go.RowKit
attribute [local go_sem ↓] Go.wp_at_zero Go.wp_at_succ

/-- A call that says whether. -/
def Says (p : Prop) (e : Ending) : Prop := ∃ b : Bool, e = .returned (.bool b) ∧ (b = true ↔ p)
theorem says_t {p : Prop} (h : p) : Says p (.returned (.bool true)) := ⟨true, rfl, by simp [h]⟩
theorem says_f {p : Prop} (h : ¬ p) : Says p (.returned (.bool false)) := ⟨false, rfl, by simp [h]⟩
theorem says_d {p q : Prop} [Decidable q] (h : q ↔ p) : Says p (.returned (.bool (decide q))) := ⟨_, rfl, by simp [h]⟩

/-! ### ranges and frames in memory -/
def rcs (l : List Rg) : List Value := l.flatMap fun r => [.int .u64 r.lo, .int .u64 r.hi]
/-- A slice with these ranges. -/
def RSv (w : World) (a : Option Addr) (n cap : Nat) (l : List Rg) : Prop :=
  (∀ r ∈ l, r.ok) ∧ n = l.length ∧ n ≤ cap ∧ cap ≤ maxLen ∧ (cap = 0 ∨ ∃ b o, a = some ⟨b, o, none⟩ ∧ w.rangeAt b o (rcs l))
theorem rcs_len (l : List Rg) : (rcs l).length = l.length * 2 := by
  induction l with
  | nil => rfl
  | cons r l ih => simp only [rcs, List.flatMap_cons, List.length_append, List.length_cons, List.length_nil] at *; omega
theorem rcs_at (l : List Rg) (i : Nat) (h : i < l.length) : (rcs l)[i * 2]? = some (.int .u64 (rgAt l i).lo) ∧ (rcs l)[i * 2 + 1]? = some (.int .u64 (rgAt l i).hi) := by
  induction l generalizing i with
  | nil => simp at h
  | cons r l ih =>
    cases i with
    | zero => simp [rcs, rgAt]
    | succ i =>
      have := ih i (by simpa using h)
      have e1 : (i + 1) * 2 = i * 2 + 1 + 1 := by omega
      have e2 : (i + 1) * 2 + 1 = i * 2 + 1 + 1 + 1 := by omega
      rw [e2, e1]
      simp only [rcs, List.flatMap_cons, List.cons_append, List.nil_append, List.getElem?_cons_succ, rgAt, List.getD_cons_succ] at this ⊢
      exact this
theorem rgAt_ok {l : List Rg} (h : ∀ r ∈ l, r.ok) (i : Nat) : (rgAt l i).ok := by
  unfold rgAt
  by_cases hi : i < l.length
  · rw [List.getD, List.getElem?_eq_getElem hi]; exact h _ (List.getElem_mem hi)
  · rw [List.getD, List.getElem?_eq_none (by omega)]; exact ⟨by simp [W64], by simp [W64]⟩
theorem RSv.gb0 {w w' : World} {a : Option Addr} {n cap : Nat} {l : List Rg} (h : RSv w a n cap l) (g : w.grownBy w' none) : RSv w' a n cap l := by
  obtain ⟨h1, h2, h3, h4, h5⟩ := h
  refine ⟨h1, h2, h3, h4, ?_⟩
  rcases h5 with h5 | ⟨b, o, rfl, h5⟩
  · exact .inl h5
  · exact .inr ⟨b, o, rfl, range_gb h5 g (by simp)⟩
theorem RSv.cell {w : World} {b o n cap : Nat} {l : List Rg} (h : RSv w (some ⟨b, o, none⟩) n cap l) (i : Nat) (hi : i < l.length) : w.cell? ⟨b, o + i * 2, none⟩ = some (.int .u64 (rgAt l i).lo) ∧ w.cell? ⟨b, o + i * 2 + 1, none⟩ = some (.int .u64 (rgAt l i).hi) := by
  obtain ⟨-, h2, h3, -, h | ⟨b', o', e, h5⟩⟩ := h
  · omega
  · cases e
    have := rcs_at l i hi
    refine ⟨h5 _ _ this.1, ?_⟩
    have h2 := h5 _ _ this.2
    rwa [← Nat.add_assoc] at h2
theorem fall_step {l : List Rg} {j : Nat} (h : ∀ i, i < j → fallAt l i) (hj : fallAt l j) : ∀ i, i < j + 1 → fallAt l i := fun i hi => by
  rcases Nat.lt_succ_iff_lt_or_eq.1 hi with h1 | rfl
  · exact h i h1
  · exact hj
set_option maxRecDepth 100000 in
set_option maxHeartbeats 1000000 in
theorem falling_any (a : Option Addr) (n cap : Nat) (l : List Rg) (w : World) (h : RSv w a n cap l) :
    Calls Tryd.prog 80 #[.slice a n cap] w fun e w' => Says (fallP l) e ∧ w.grownBy w' none := by
  have hn : n = l.length := h.2.1
  subst hn
  have hcap := h.2.2.1
  have hmax := h.2.2.2.1
  unfold maxLen at hmax
  go_enter Tryd.func80, Tryd.ntmps80
  go_wp2_with fail
  go_loopw [7] (fun i wr => ∃ j : Nat, j ≤ l.length ∧ i = .int .i64 (j : Int) ∧ (∀ i, i < j → fallAt l i) ∧ w.grownBy wr none) (fun i _ => l.length - (intOf i).toNat)
  case atStart => exact ⟨0, by omega, rfl, fun i hi => by omega, World.grownBy.refl _ _⟩
  case round =>
    obtain ⟨j, hj, rfl, hall, g1⟩ := hrel
    by_cases hlt : j < l.length
    · have h1 := h.gb0 g1
      obtain ⟨-, -, -, -, h0 | ⟨b, o, rfl, -⟩⟩ := id h1
      · omega
      · obtain ⟨c1, c2⟩ := h1.cell j hlt
        have hok := rgAt_ok h.1 j
        obtain ⟨⟨k1, k2⟩, k3, k4⟩ := hok
        obtain ⟨lo, hlo⟩ : ∃ x, x = (rgAt l j).lo := ⟨_, rfl⟩
        obtain ⟨hi, hhi⟩ : ∃ x, x = (rgAt l j).hi := ⟨_, rfl⟩
        rw [← hlo] at c1 k1 k2
        rw [← hhi] at c2 k3 k4
        replace hlo := hide hlo
        replace hhi := hide hhi
        replace hall := hide hall
        have hl0 : Hid (0 < l.length) := hide (by omega)
        by_cases q1 : hi < lo
        · go_wp2_with fail
          go_ret
          exact ⟨says_f (fun hf => by have := (hf.2 j hlt).1; rw [← unhide hlo, ← unhide hhi] at this; omega), gb_alloc g1 _⟩
        by_cases q2 : 4611686018427387903 < hi
        · go_wp2_with fail
          go_ret
          exact ⟨says_f (fun hf => by have := (hf.2 j hlt).2.1; rw [← unhide hhi] at this; omega), gb_alloc g1 _⟩
        rcases j with _ | i
        · rw [Nat.zero_mul, Nat.add_zero] at c1 c2
          have hd0 : decide ((0 : Int) < 0) = false := by simp
          go_wp2_with fail
          go_quiet (fail)
          go_wp2_with fail
          go_roundw
          case rel => exact ⟨1, by omega, by simp, fun i hi => by
            obtain rfl : i = 0 := by omega
            exact ⟨by rw [← unhide hlo, ← unhide hhi]; omega, by rw [← unhide hhi]; omega, fun h => by omega⟩, gb_drewN (gb_alloc g1 _) _⟩
          case measure => simp [intOf]; omega
        · obtain ⟨c3, -⟩ := (h1.gb0 (World.grownBy_alloc wr (.cells #[.int .u64 lo, .int .u64 hi] 54) none)).cell i (by omega)
          have hok := rgAt_ok h.1 i
          obtain ⟨⟨k5, k6⟩, -⟩ := hok
          obtain ⟨lp, hlp⟩ : ∃ x, x = (rgAt l i).lo := ⟨_, rfl⟩
          rw [← hlp] at c3 k5 k6
          replace hlp := hide hlp
          have hwi : IntKind.i64.wrap (i : Int) = (i : Int) := by simp [IntKind.wrap, IntKind.bits, IntKind.signed]; omega
          have hwh : IntKind.u64.wrap (hi + 1) = hi + 1 := by rw [IntKind.wrap_u64]; omega
          have i1 : (0 : Int) ≤ (i : Int) := by omega
          have i2 : (i : Int) < (l.length : Int) := by omega
          by_cases q3 : lp ≤ hi + 1
          · have q4 : decide (lp ≤ hi + 1) = true := by simp [q3]
            go_wp2_with fail
            go_quiet (fail)
            go_wp2_with fail
            go_ret
            exact ⟨says_f (fun hf => by have := (hf.2 (i + 1) hlt).2.2 (by omega); rw [Nat.add_sub_cancel, ← unhide hhi, ← unhide hlp] at this; omega), gb_drewN (gb_alloc g1 _) _⟩
          · have q4 : decide (lp ≤ hi + 1) = false := by simp [q3]
            go_wp2_with fail
            go_quiet (fail)
            go_wp2_with fail
            go_roundw
            case rel =>
              refine ⟨i + 1 + 1, by omega, by simp, fall_step (unhide hall) ⟨by rw [← unhide hlo, ← unhide hhi]; omega, by rw [← unhide hhi]; omega, fun _ => ?_⟩, gb_drewN (gb_alloc g1 _) _⟩
              rw [Nat.add_sub_cancel, ← unhide hhi, ← unhide hlp]; omega
            case measure => simp [intOf]; omega
    · obtain rfl : j = l.length := by omega
      go_wp2_with fail
      go_ret
      refine ⟨says_d ⟨fun hp => ⟨by omega, hall⟩, fun hp => by have := hp.1; omega⟩, g1⟩
end Go.Proofs.YtjnmokmchdfchaaDoor
namespace Go.Proofs.YtjnmokmchdfchaaDoor
open Go.RowKit

theorem RSv.keep {w w' : World} {a : Option Addr} {n c : Nat} {l : List Rg} (h : RSv w a n c l) (hk : l ≠ [] → ∀ x, a = some x → w'.heap[x.block]? = w.heap[x.block]?) : RSv w' a n c l := by
  obtain ⟨h1, h2, h3, h4, h5⟩ := h
  refine ⟨h1, h2, h3, h4, ?_⟩
  rcases h5 with h5 | ⟨b, o, rfl, h5⟩
  · exact .inl h5
  · refine .inr ⟨b, o, rfl, ?_⟩
    by_cases hl : l = []
    · subst hl; intro j v hj; simp [rcs] at hj
    · intro j v hj; exact (World.cell?_of_block (w := w) (a := ⟨b, o + j, none⟩) (hk hl ⟨b, o, none⟩ rfl)).trans (h5 j v hj)
theorem RSv.lt {w : World} {x : Addr} {n c : Nat} {l : List Rg} (h : RSv w (some x) n c l) (hl : l ≠ []) : x.block < w.heap.size := by
  obtain ⟨h1, h2, h3, h4, h5 | ⟨b, o, e, h5⟩⟩ := h
  · have := List.length_pos_iff.2 hl
    omega
  · cases e
    exact World.block_lt_of_cell? w _ (h5 0 _ (by have := (rcs_at l 0 (List.length_pos_iff.2 hl)).1; simpa using this))
end Go.Proofs.YtjnmokmchdfchaaDoor
namespace Go.Proofs.YtjnmokmchdfchaaDoor
open Go.RowKit
attribute [local go_sem ↓] Go.wp_at_zero Go.wp_at_succ

/-- A frame's cells; rv: its ranges' slice. -/
def fcs (f : Fr) (rv : Value) : List Value := [.int .i64 f.kind, .int .i64 f.stream, .int .u64 f.offset, .int .u64 f.code, .bool f.fin, .string f.data, rv]
def frA (f : Fr) (rv : Value) : Array Value := #[.int .i64 f.kind, .int .i64 f.stream, .int .u64 f.offset, .int .u64 f.code, .bool f.fin, .string f.data, rv]
def FrV (w : World) (f : Fr) (rv : Value) : Prop := f.ok ∧ f.data.size ≤ 9223372036854775807 ∧ ∃ ra cap, rv = .slice ra f.ranges.length cap ∧ RSv w ra f.ranges.length cap f.ranges
theorem cells7 {w : World} {b : Nat} {t : TypeId} {v0 v1 v2 v3 v4 v5 v6 : Value} (h : w.heap[b]? = some (.cells #[v0, v1, v2, v3, v4, v5, v6] t (0, 0))) : w.cell? ⟨b, 0, none⟩ = some v0 ∧ w.cell? ⟨b, 1, none⟩ = some v1 ∧ w.cell? ⟨b, 2, none⟩ = some v2 ∧ w.cell? ⟨b, 3, none⟩ = some v3 ∧ w.cell? ⟨b, 4, none⟩ = some v4 ∧ w.cell? ⟨b, 5, none⟩ = some v5 ∧ w.cell? ⟨b, 6, none⟩ = some v6 := by
  simp [World.cell?, h]
theorem FrV.gb0 {w w' : World} {f : Fr} {rv : Value} (h : FrV w f rv) (g : w.grownBy w' none) : FrV w' f rv := by
  obtain ⟨h1, h0, ra, cap, h2, h3⟩ := h
  exact ⟨h1, h0, ra, cap, h2, h3.gb0 g⟩
set_option maxRecDepth 100000 in
set_option maxHeartbeats 1000000 in
theorem allowed_any (f : Fr) (rv : Value) (w : World) (h : FrV w f rv) :
    Calls Tryd.prog 56 #[.agg (frA f rv)] w fun e w' => Says (baseP f ∧ restP f) e ∧ w.grownBy w' none := by
  obtain ⟨⟨⟨k0, k1⟩, ⟨s0, s1⟩, ⟨o0, o1⟩, ⟨c0, c1⟩, hr⟩, hds, ra, cap, rfl, hrs⟩ := h
  obtain ⟨k, s, o, c, fin, d, rg⟩ := f
  obtain ⟨R, hR⟩ : ∃ R : Prop, R = ((o ≤ 4611686018427387903 ∧ c ≤ 4611686018427387903 ∧ 0 ≤ s ∧ s < 4) ∧ (k = 3 → fallP rg) ∧ (k = 5 → (d.size : Int) ≤ 4611686018427387903 - o)) := ⟨_, rfl⟩
  have hE : (baseP ⟨k, s, o, c, fin, d, rg⟩ ∧ restP ⟨k, s, o, c, fin, d, rg⟩) = R := hR.symm
  rw [hE]
  clear hE
  simp only [frA] at *
  replace hR := hide hR
  by_cases q1 : 4611686018427387903 < o
  · go_enter Tryd.func56, Tryd.ntmps56
    go_wp2_with fail
    go_ret
    exact ⟨says_f (fun hp => by rw [unhide hR] at hp; have := hp.1.1; omega), World.grownBy_alloc _ _ _⟩
  by_cases q2 : 4611686018427387903 < c
  · go_enter Tryd.func56, Tryd.ntmps56
    go_wp2_with fail
    go_ret
    exact ⟨says_f (fun hp => by rw [unhide hR] at hp; have := hp.1.2.1; omega), World.grownBy_alloc _ _ _⟩
  by_cases q3 : s < 0
  · go_enter Tryd.func56, Tryd.ntmps56
    go_wp2_with fail
    go_ret
    exact ⟨says_f (fun hp => by rw [unhide hR] at hp; have := hp.1.2.2.1; omega), World.grownBy_alloc _ _ _⟩
  by_cases q4 : 4 ≤ s
  · go_enter Tryd.func56, Tryd.ntmps56
    go_wp2_with fail
    go_ret
    exact ⟨says_f (fun hp => by rw [unhide hR] at hp; have := hp.1.2.2.2; omega), World.grownBy_alloc _ _ _⟩
  have hb : o ≤ 4611686018427387903 ∧ c ≤ 4611686018427387903 ∧ 0 ≤ s ∧ s < 4 := by omega
  replace hb := hide hb
  by_cases k3 : k = 3
  · subst k3
    have hrs1 := hide (fun ob => hrs.gb0 (World.grownBy_alloc w ob none))
    go_enter Tryd.func56, Tryd.ntmps56
    go_wp2_with (go_at_call 80; refine (falling_any _ _ _ _ _ (unhide hrs1 _)).mono ?_; rintro e w2 ⟨⟨b, rfl, hb2⟩, g2⟩; replace hb2 := hide hb2)
    go_ret
    refine ⟨⟨b, rfl, (unhide hb2).trans (by have hb' := unhide hb; rw [unhide hR]; simp [hb'])⟩, gb_trans (World.grownBy_alloc _ _ _) g2⟩
  by_cases k5 : k = 5
  · subst k5
    have hw1 : IntKind.u64.wrap (4611686018427387903 - o) = 4611686018427387903 - o := by rw [IntKind.wrap_u64]; omega
    have hw2 : IntKind.u64.wrap (d.size : Int) = (d.size : Int) := by rw [IntKind.wrap_u64]; omega
    go_enter Tryd.func56, Tryd.ntmps56
    go_wp2_with fail
    go_ret
    refine ⟨says_d (by have hb' := unhide hb; rw [unhide hR]; simp [hb']), World.grownBy_alloc _ _ _⟩
  · go_enter Tryd.func56, Tryd.ntmps56
    go_wp2_with fail
    go_ret
    exact ⟨says_t (by rw [unhide hR]; exact ⟨unhide hb, fun h => absurd h k3, fun h => absurd h k5⟩), World.grownBy_alloc _ _ _⟩
end Go.Proofs.YtjnmokmchdfchaaDoor
