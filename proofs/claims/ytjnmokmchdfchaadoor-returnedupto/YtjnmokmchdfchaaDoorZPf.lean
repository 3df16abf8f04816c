import Derived.Test.YtjnmokmchdfchaaDoorZPd
import Derived.Deep.Upon
namespace Go.Proofs.YtjnmokmchdfchaaDoor
open Go.RowKit

/-- What lies outside the blocks B0 to B1 is as it was. -/
structure Scr (B0 B1 : Nat) (w w' : World) : Prop where
  os : w'.os = w.os
  tape : w'.tape = w.tape
  output : w'.output = w.output
  size : w'.heap.size = w.heap.size
  block : ∀ k, (k < B0 ∨ B1 ≤ k) → w'.heap[k]? = w.heap[k]?
theorem Scr.refl (B0 B1 : Nat) (w : World) : Scr B0 B1 w w := ⟨rfl, rfl, rfl, rfl, fun _ _ => rfl⟩
theorem Scr.set {B0 B1 : Nat} {w w' : World} (h : Scr B0 B1 w w') (p : Addr) (v : Value) (h0 : B0 ≤ p.block) (h1 : p.block < B1) : Scr B0 B1 w (w'.setCell p v) :=
  ⟨h.os, h.tape, h.output, by simpa [World.setCell] using h.size, fun k hk => by
    rw [Below.heap_setCell _ _ _ _ (by omega)]
    exact h.block k hk⟩
theorem Scr.sets {B0 B1 b : Nat} (h0 : B0 ≤ b) (h1 : b < B1) : ∀ (vs : List Value) (o : Nat) {w w' : World}, Scr B0 B1 w w' → Scr B0 B1 w (w'.setCells b o vs)
  | [], _, _, _, h => h
  | v :: r, o, _, _, h => Scr.sets h0 h1 r (o + 1) (h.set ⟨b, o, none⟩ v h0 h1)
theorem Scr.gb {B1 : Nat} {w w1 w2 : World} (g : w.grownBy w1 none) (h : Scr w.heap.size B1 w1 w2) : w.grownBy w2 none :=
  ⟨h.os.trans g.os, h.tape.trans g.tape, h.output.trans g.output, by rw [h.size]; exact g.size, fun k hk hr => (h.block k (.inl hk)).trans (g.block k hk hr)⟩
theorem Scr.own {B0 B1 : Nat} {w w' : World} {v : Value} {l : List Int} (h : Scr B0 B1 w w') (o : OwnB w B1 v l) : OwnB w' B1 v l := by
  obtain ⟨h1, h2, h3⟩ := o
  refine ⟨h1, h2, ?_⟩
  rcases h3 with h3 | ⟨g, cap, cur, e1, e2, e3, e4⟩
  · exact .inl h3
  · exact .inr ⟨g, cap, cur, e1, e2, (h.block g (.inr e2)).trans e3, e4⟩
theorem there_cells {w : World} {b m : Nat} {cs : Array Value} {t : TypeId} (h : w.heap[b]? = some (.cells cs t (0, 0))) (hm : m ≤ cs.size) : w.there b 0 m := fun j hj => by
  simp [World.cell?, World.frozen?, h]
  omega
theorem there_sub {w : World} {b m o n : Nat} (h : w.there b 0 m) (hm : o + n ≤ m) : w.there b o n := fun j hj => by
  have := h (o + j) (by omega)
  simpa using this
/-- The copies of the frames, from the k-th on. -/
structure Cop (B0 B1 g : Nat) (its : List Itm) (w2 : World) (k : Nat) (w : World) : Prop where
  scr : Scr B0 B1 w2 w
  row : ∀ j (hj : j < its.length), k ≤ j → w.rangeAt g (j * 7 + 6) [its[j].2]
  ok : w.there g 0 (its.length * 7)
  rgs : ∀ x ∈ its, x.1.ranges ≠ [] → ∃ y c, x.2 = .slice (some ⟨y, 0, none⟩) x.1.ranges.length c ∧ B0 ≤ y ∧ y < B1 ∧ y ≠ g ∧ x.1.ranges.length ≤ c ∧ w.there y 0 (x.1.ranges.length * 2)
theorem Cop.start {B0 : Nat} {w1 w2 : World} {a : Option Addr} {n c : Nat} {its : List Itm} (hO : OwnF w1 B0 (.slice a n c) its) (hR : ∀ x ∈ its, x.1.ranges ≠ [] → OwnR w1 B0 x.2 x.1.ranges) (g2 : w1.grownBy w2 none) :
    ∃ g, (0 < its.length → a = some ⟨g, 0, none⟩ ∧ B0 ≤ g ∧ g < w1.heap.size) ∧ Cop B0 w1.heap.size g its w2 0 w2 := by
  obtain ⟨⟨h2, h3⟩, hx⟩ := hO
  rcases h3 with ⟨e, hn⟩ | ⟨g, cap, cur, e, hb, hg, hc, hm, hs, ht⟩
  · obtain rfl : its = [] := List.eq_nil_of_length_eq_zero hn
    exact ⟨0, fun h => by simp at h, Scr.refl _ _ _, fun j hj => by simp at hj, fun j hj => by simp at hj, fun x hx => by simp at hx⟩
  · cases e
    have hgl : g < w1.heap.size := (Array.getElem?_eq_some_iff.1 hg).1
    have hg2 : w2.heap[g]? = some (.cells cur 46 (0, 0)) := (g2.block g hgl (by simp)).trans hg
    refine ⟨g, fun _ => ⟨rfl, hb, hgl⟩, Scr.refl _ _ _, fun j hj _ => ?_, there_cells hg2 (by rw [hs]; exact Nat.mul_le_mul_right 7 hc), fun x hx2 hne => ?_⟩
    · intro q v hq
      match q, hq with
      | 0, hq =>
        have hq' : its[j].2 = v := by simpa using hq
        subst hq'
        have h7 := fcl_at its j hj 6 its[j].2 (by simp [fcs])
        have hlt : j * 7 + 6 < its.length * 7 := by omega
        rw [← ht, List.getElem?_take, if_pos hlt] at h7
        simp only [World.cell?, hg2, Nat.add_zero]
        simpa using h7
    · have hr := hR x hx2 hne
      obtain ⟨-, -, ⟨-, e2⟩ | ⟨y, cap', cur', e2, hb', hg', hc', -, hs', -⟩⟩ := hr
      · exact absurd (List.eq_nil_of_length_eq_zero e2) hne
      · have hyl : y < w1.heap.size := (Array.getElem?_eq_some_iff.1 hg').1
        refine ⟨y, cap', e2, hb', hyl, fun e3 => ?_, hc', there_cells ((g2.block y hyl (by simp)).trans hg') (by rw [hs']; exact Nat.mul_le_mul_right 2 hc')⟩
        exact ((hx x hx2).2 hne _ _ _ e2).2 (by rw [e3]; rfl)
theorem Cop.setR {B0 B1 g k : Nat} {its : List Itm} {w2 w : World} (h : Cop B0 B1 g its w2 k w) {y : Nat} (h0 : B0 ≤ y) (h1 : y < B1) (hne : y ≠ g) (o : Nat) (vs : List Value) : Cop B0 B1 g its w2 k (w.setCells y o vs) :=
  ⟨Scr.sets h0 h1 vs o h.scr, fun j hj hk => World.rangeAt_setCells_apart (h.row j hj hk) y o vs (.inl (Ne.symm hne)), World.there_setCells h.ok y o vs, fun x hx hr => by
    obtain ⟨y', c, e, e0, e1, e2, e3, e4⟩ := h.rgs x hx hr
    exact ⟨y', c, e, e0, e1, e2, e3, World.there_setCells e4 y o vs⟩⟩
theorem Cop.setF {B0 B1 g k : Nat} {its : List Itm} {w2 w : World} (h : Cop B0 B1 g its w2 k w) (h0 : B0 ≤ g) (h1 : g < B1) (vs : List Value) (hv : vs.length = 7) : Cop B0 B1 g its w2 (k + 1) (w.setCells g (k * 7) vs) :=
  ⟨Scr.sets h0 h1 vs (k * 7) h.scr, fun j hj hk => World.rangeAt_setCells_apart (h.row j hj (by omega)) g (k * 7) vs (.inr (.inr (by omega))), World.there_setCells h.ok g (k * 7) vs, fun x hx hr => by
    obtain ⟨y', c, e, e0, e1, e2, e3, e4⟩ := h.rgs x hx hr
    exact ⟨y', c, e, e0, e1, e2, e3, World.there_setCells e4 g (k * 7) vs⟩⟩
end Go.Proofs.YtjnmokmchdfchaaDoor
