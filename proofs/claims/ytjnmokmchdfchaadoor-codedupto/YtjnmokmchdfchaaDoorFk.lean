import Derived.Test.YtjnmokmchdfchaaDoorFs
namespace Go.Proofs.YtjnmokmchdfchaaDoor
open Go.RowKit

theorem RSv.keep {w w' : World} {a : Option Addr} {n c : Nat} {l : List Rg} (h : RSv w a n c l) (hk : l ≠ [] → ∀ x, a = some x → w'.heap[x.block]? = w.heap[x.block]?) : RSv w' a n c l := by
  obtain ⟨h1, h2, h3, h4, h5⟩ := h
  refine ⟨h1, h2, h3, h4, ?_⟩
  rcases h5 with h5 | ⟨b, o, rfl, h5⟩
  · exact .inl h5
  · refine .inr ⟨b, o, rfl, ?_⟩
    by_cases hl : l = []
    · subst hl; intro j v hj; simp [rcs] at hj
    · intro j v hj; exact (World.cell?_of_block (w := w) (a := ⟨b, o + j, none⟩) (hk hl ⟨b, o, none⟩ rfl)).trans (h5 j v hj)
theorem RSv.lt {w : World} {x : Addr} {n c : Nat} {l : List Rg} (h : RSv w (some x) n c l) (hl : l ≠ []) : x.block < w.heap.size := by
  obtain ⟨h1, h2, h3, h4, h5 | ⟨b, o, e, h5⟩⟩ := h
  · have := List.length_pos_iff.2 hl
    omega
  · cases e
    exact World.block_lt_of_cell? w _ (h5 0 _ (by have := (rcs_at l 0 (List.length_pos_iff.2 hl)).1; simpa using this))
end Go.Proofs.YtjnmokmchdfchaaDoor
