import Derived.Test.YtjnmokmchdfchaaDoorFs
namespace Go.Proofs.YtjnmokmchdfchaaDoor
open Go.RowKit
attribute [local go_sem ↓] Go.wp_at_zero Go.wp_at_succ

/-- A frame's cells; rv: its ranges' slice. -/
def fcs (f : Fr) (rv : Value) : List Value := [.int .i64 f.kind, .int .i64 f.stream, .int .u64 f.offset, .int .u64 f.code, .bool f.fin, .string f.data, rv]
def frA (f : Fr) (rv : Value) : Array Value := #[.int .i64 f.kind, .int .i64 f.stream, .int .u64 f.offset, .int .u64 f.code, .bool f.fin, .string f.data, rv]
def FrV (w : World) (f : Fr) (rv : Value) : Prop := f.ok ∧ f.data.size ≤ 9223372036854775807 ∧ ∃ ra cap, rv = .slice ra f.ranges.length cap ∧ RSv w ra f.ranges.length cap f.ranges
theorem cells7 {w : World} {b : Nat} {t : TypeId} {v0 v1 v2 v3 v4 v5 v6 : Value} (h : w.heap[b]? = some (.cells #[v0, v1, v2, v3, v4, v5, v6] t (0, 0))) : w.cell? ⟨b, 0, none⟩ = some v0 ∧ w.cell? ⟨b, 1, none⟩ = some v1 ∧ w.cell? ⟨b, 2, none⟩ = some v2 ∧ w.cell? ⟨b, 3, none⟩ = some v3 ∧ w.cell? ⟨b, 4, none⟩ = some v4 ∧ w.cell? ⟨b, 5, none⟩ = some v5 ∧ w.cell? ⟨b, 6, none⟩ = some v6 := by
  simp [World.cell?, h]
theorem FrV.gb0 {w w' : World} {f : Fr} {rv : Value} (h : FrV w f rv) (g : w.grownBy w' none) : FrV w' f rv := by
  obtain ⟨h1, h0, ra, cap, h2, h3⟩ := h
  exact ⟨h1, h0, ra, cap, h2, h3.gb0 g⟩
set_option maxRecDepth 100000 in
set_option maxHeartbeats 1000000 in
theorem allowed_any (f : Fr) (rv : Value) (w : World) (h : FrV w f rv) :
    Calls Tryd.prog 56 #[.agg (frA f rv)] w fun e w' => Says (baseP f ∧ restP f) e ∧ w.grownBy w' none := by
  obtain ⟨⟨⟨k0, k1⟩, ⟨s0, s1⟩, ⟨o0, o1⟩, ⟨c0, c1⟩, hr⟩, hds, ra, cap, rfl, hrs⟩ := h
  obtain ⟨k, s, o, c, fin, d, rg⟩ := f
  obtain ⟨R, hR⟩ : ∃ R : Prop, R = ((o ≤ 4611686018427387903 ∧ c ≤ 4611686018427387903 ∧ 0 ≤ s ∧ s < 4) ∧ (k = 3 → fallP rg) ∧ (k = 5 → (d.size : Int) ≤ 4611686018427387903 - o)) := ⟨_, rfl⟩
  have hE : (baseP ⟨k, s, o, c, fin, d, rg⟩ ∧ restP ⟨k, s, o, c, fin, d, rg⟩) = R := hR.symm
  rw [hE]
  clear hE
  simp only [frA] at *
  replace hR := hide hR
  by_cases q1 : 4611686018427387903 < o
  · go_enter Tryd.func56, Tryd.ntmps56
    go_wp2_with fail
    go_ret
    exact ⟨says_f (fun hp => by rw [unhide hR] at hp; have := hp.1.1; omega), World.grownBy_alloc _ _ _⟩
  by_cases q2 : 4611686018427387903 < c
  · go_enter Tryd.func56, Tryd.ntmps56
    go_wp2_with fail
    go_ret
    exact ⟨says_f (fun hp => by rw [unhide hR] at hp; have := hp.1.2.1; omega), World.grownBy_alloc _ _ _⟩
  by_cases q3 : s < 0
  · go_enter Tryd.func56, Tryd.ntmps56
    go_wp2_with fail
    go_ret
    exact ⟨says_f (fun hp => by rw [unhide hR] at hp; have := hp.1.2.2.1; omega), World.grownBy_alloc _ _ _⟩
  by_cases q4 : 4 ≤ s
  · go_enter Tryd.func56, Tryd.ntmps56
    go_wp2_with fail
    go_ret
    exact ⟨says_f (fun hp => by rw [unhide hR] at hp; have := hp.1.2.2.2; omega), World.grownBy_alloc _ _ _⟩
  have hb : o ≤ 4611686018427387903 ∧ c ≤ 4611686018427387903 ∧ 0 ≤ s ∧ s < 4 := by omega
  replace hb := hide hb
  by_cases k3 : k = 3
  · subst k3
    have hrs1 := hide (fun ob => hrs.gb0 (World.grownBy_alloc w ob none))
    go_enter Tryd.func56, Tryd.ntmps56
    go_wp2_with (go_at_call 80; refine (falling_any _ _ _ _ _ (unhide hrs1 _)).mono ?_; rintro e w2 ⟨⟨b, rfl, hb2⟩, g2⟩; replace hb2 := hide hb2)
    go_ret
    refine ⟨⟨b, rfl, (unhide hb2).trans (by have hb' := unhide hb; rw [unhide hR]; simp [hb'])⟩, gb_trans (World.grownBy_alloc _ _ _) g2⟩
  by_cases k5 : k = 5
  · subst k5
    have hw1 : IntKind.u64.wrap (4611686018427387903 - o) = 4611686018427387903 - o := by rw [IntKind.wrap_u64]; omega
    have hw2 : IntKind.u64.wrap (d.size : Int) = (d.size : Int) := by rw [IntKind.wrap_u64]; omega
    go_enter Tryd.func56, Tryd.ntmps56
    go_wp2_with fail
    go_ret
    refine ⟨says_d (by have hb' := unhide hb; rw [unhide hR]; simp [hb']), World.grownBy_alloc _ _ _⟩
  · go_enter Tryd.func56, Tryd.ntmps56
    go_wp2_with fail
    go_ret
    exact ⟨says_t (by rw [unhide hR]; exact ⟨unhide hb, fun h => absurd h k3, fun h => absurd h k5⟩), World.grownBy_alloc _ _ _⟩
end Go.Proofs.YtjnmokmchdfchaaDoor
