import Derived.Test.YtjnmokmchdfchaaDoorFo
namespace Go.Proofs.YtjnmokmchdfchaaDoor
open Go.RowKit

/-! ### slices of frames -/
def frAt (l : List Fr) (i : Nat) : Fr := l.getD i (frZ 0 false)
def FSv (w : World) (a : Option Addr) (n cap : Nat) (fs : List Fr) : Prop :=
  n = fs.length ∧ n ≤ cap ∧ cap ≤ maxLen ∧ ((a = none ∧ cap = 0) ∨ ∃ b o, a = some ⟨b, o, none⟩ ∧ ∀ i, i < fs.length → ∃ rv, FrV w (frAt fs i) rv ∧ w.rangeAt b (o + i * 7) (fcs (frAt fs i) rv))
theorem FSv.gb0 {w w' : World} {a : Option Addr} {n cap : Nat} {fs : List Fr} (h : FSv w a n cap fs) (g : w.grownBy w' none) : FSv w' a n cap fs := by
  obtain ⟨h1, h2, h3, h4⟩ := h
  refine ⟨h1, h2, h3, ?_⟩
  rcases h4 with h4 | ⟨b, o, rfl, h4⟩
  · exact .inl h4
  · refine .inr ⟨b, o, rfl, fun i hi => ?_⟩
    obtain ⟨rv, h5, h6⟩ := h4 i hi
    exact ⟨rv, h5.gb0 g, range_gb h6 g (by simp)⟩
theorem FSv.at {w : World} {b o n cap : Nat} {fs : List Fr} (h : FSv w (some ⟨b, o, none⟩) n cap fs) (i : Nat) (hi : i < fs.length) : ∃ rv, FrV w (frAt fs i) rv ∧ w.rangeAt b (o + i * 7) (fcs (frAt fs i) rv) := by
  obtain ⟨-, -, -, ⟨h, -⟩ | ⟨b', o', e, h⟩⟩ := h
  · cases h
  · cases e; exact h i hi
theorem frAt_eq {l : List Fr} {j : Nat} (h : j < l.length) : frAt l j = l[j] := by unfold frAt; rw [List.getD, List.getElem?_eq_getElem h]; rfl
theorem bulkL_append (l r : List Fr) : bulkL (l ++ r) = bulkL l + bulkL r := by
  induction l with
  | nil => simp [bulkL]
  | cons f l ih => simp only [List.cons_append, bulkL, ih]; omega
theorem bulk_at {l : List Fr} {j : Nat} (h : j < l.length) : bulkL (l.take j) + bulkF (frAt l j) ≤ bulkL l := by
  have h1 := congrArg bulkL (List.take_append_drop (j + 1) l)
  rw [bulkL_append, List.take_succ_eq_append_getElem h, bulkL_append] at h1
  simp only [bulkL] at h1
  rw [frAt_eq h]
  omega
theorem bulk_take (l : List Fr) (j : Nat) : bulkL (l.take j) ≤ bulkL l := by
  have h1 := congrArg bulkL (List.take_append_drop j l)
  rw [bulkL_append] at h1
  omega

/-! ### which shape a frame has -/
theorem no_shape {P2 P3 P4 P5 P6 : Nat} {f : Fr} (h : ∀ j, j < 7 → ¬ ((shAt (shs P2 P3 P4 P5 P6) j).k = f.kind ∧ (shAt (shs P2 P3 P4 P5 P6) j).fin = (f.fin && decide (f.kind = 5)))) : ¬ (1 ≤ f.kind ∧ f.kind ≤ 6) := by
  intro hk
  have e : f.kind = 1 ∨ f.kind = 2 ∨ f.kind = 3 ∨ f.kind = 4 ∨ f.kind = 5 ∨ f.kind = 6 := by omega
  rcases e with e | e | e | e | e | e
  · exact h 0 (by omega) (by rw [e]; simp [shAt, shs])
  · exact h 1 (by omega) (by rw [e]; simp [shAt, shs])
  · exact h 2 (by omega) (by rw [e]; simp [shAt, shs])
  · exact h 3 (by omega) (by rw [e]; simp [shAt, shs])
  · cases hf : f.fin
    · exact h 4 (by omega) (by rw [e, hf]; simp [shAt, shs])
    · exact h 5 (by omega) (by rw [e, hf]; simp [shAt, shs])
  · exact h 6 (by omega) (by rw [e]; simp [shAt, shs])
theorem some_shape {P2 P3 P4 P5 P6 : Nat} {f : Fr} {j : Nat} (hj : j < 7) (hk : (shAt (shs P2 P3 P4 P5 P6) j).k = f.kind) : 1 ≤ f.kind ∧ f.kind ≤ 6 := by
  rw [← hk]
  rcases lt7 hj with rfl | rfl | rfl | rfl | rfl | rfl | rfl <;> simp [shAt, shs]
theorem shape_parts {W : World} {T P2 P3 P4 P5 P6 Bo Bc : Nat} (h : Tab W T P2 P3 P4 P5 P6 Bo Bc) {f : Fr} {rv : Value} (hf : FrV W f rv) (hs : soundP f) {j : Nat} (hj : j < 7) (hk : (shAt (shs P2 P3 P4 P5 P6) j).k = f.kind) (hq : (shAt (shs P2 P3 P4 P5 P6) j).fin = (f.fin && decide (f.kind = 5))) :
    ∃ chs, Parts W f rv (.slice (shAt (shs P2 P3 P4 P5 P6) j).pa (shAt (shs P2 P3 P4 P5 P6) j).n (shAt (shs P2 P3 P4 P5 P6) j).n) chs ∧ writtenL f = (shAt (shs P2 P3 P4 P5 P6) j).t :: joinL chs ∧ W8 (shAt (shs P2 P3 P4 P5 P6) j).t := by
  obtain ⟨⟨b1, b2, b3, b4⟩, ⟨r1, r2⟩, -, -⟩ := hs
  have vo : V62 f.offset := ⟨hf.1.2.2.1.1, b1⟩
  have vc : V62 f.code := ⟨hf.1.2.2.2.1.1, b2⟩
  rcases lt7 hj with rfl | rfl | rfl | rfl | rfl | rfl | rfl
  · have k : f.kind = 1 := hk.symm
    exact ⟨[], ⟨none, 0, rfl, by simp, by simp, .inl rfl⟩, by simp [writtenL, k, joinL, shAt, shs], by simp [W8, shAt, shs]⟩
  · have k : f.kind = 2 := hk.symm
    exact ⟨[], ⟨none, 0, rfl, by simp, by simp, .inl rfl⟩, by simp [writtenL, k, joinL, shAt, shs], by simp [W8, shAt, shs]⟩
  · have k : f.kind = 3 := hk.symm
    refine ⟨[rangesL f.ranges], ⟨some ⟨P2, 0, none⟩, 1, rfl, by simp, by simp, .inr ⟨P2, rfl, fun i hi => ?_⟩⟩, by simp [writtenL, k, joinL, shAt, shs], by simp [W8, shAt, shs]⟩
    obtain rfl : i = 0 := by simpa using hi
    exact ⟨rW, _, _, h.p2 0 _ rfl, h.p2 1 _ rfl, wr_ranges W f rv hf (r1 k)⟩
  · have k : f.kind = 4 := hk.symm
    refine ⟨[varL f.stream, varL f.code, varL f.offset], ⟨some ⟨P3, 0, none⟩, 3, rfl, by simp, by simp, .inr ⟨P3, rfl, fun i hi => ?_⟩⟩, by simp [writtenL, k, joinL, shAt, shs], by simp [W8, shAt, shs]⟩
    have e : i = 0 ∨ i = 1 ∨ i = 2 := by simp at hi; omega
    rcases e with rfl | rfl | rfl
    · exact ⟨sW, _, _, h.p3 0 _ rfl, h.p3 1 _ rfl, wr_stream W f rv b3 b4⟩
    · exact ⟨nW Bc, _, _, h.p3 2 _ rfl, h.p3 3 _ rfl, wr_code W f rv Bc h.bc vc⟩
    · exact ⟨nW Bo, _, _, h.p3 4 _ rfl, h.p3 5 _ rfl, wr_off W f rv Bo h.bo vo⟩
  · have k : f.kind = 5 := hk.symm
    have q : f.fin = false := by rw [k] at hq; simpa [shAt, shs] using hq.symm
    refine ⟨[varL f.stream, varL f.offset, varL f.data.size ++ bl f.data], ⟨some ⟨P4, 0, none⟩, 3, rfl, by simp, by simp, .inr ⟨P4, rfl, fun i hi => ?_⟩⟩, by simp [writtenL, k, q, joinL, shAt, shs], by simp [W8, shAt, shs]⟩
    have e : i = 0 ∨ i = 1 ∨ i = 2 := by simp at hi; omega
    rcases e with rfl | rfl | rfl
    · exact ⟨sW, _, _, h.p4 0 _ rfl, h.p4 1 _ rfl, wr_stream W f rv b3 b4⟩
    · exact ⟨nW Bo, _, _, h.p4 2 _ rfl, h.p4 3 _ rfl, wr_off W f rv Bo h.bo vo⟩
    · exact ⟨bW, _, _, h.p4 4 _ rfl, h.p4 5 _ rfl, wr_bytes W f rv⟩
  · have k : f.kind = 5 := hk.symm
    have q : f.fin = true := by rw [k] at hq; simpa [shAt, shs] using hq.symm
    refine ⟨[varL f.stream, varL f.offset, varL f.data.size ++ bl f.data], ⟨some ⟨P5, 0, none⟩, 3, rfl, by simp, by simp, .inr ⟨P5, rfl, fun i hi => ?_⟩⟩, by simp [writtenL, k, q, joinL, shAt, shs], by simp [W8, shAt, shs]⟩
    have e : i = 0 ∨ i = 1 ∨ i = 2 := by simp at hi; omega
    rcases e with rfl | rfl | rfl
    · exact ⟨sW, _, _, h.p5 0 _ rfl, h.p5 1 _ rfl, wr_stream W f rv b3 b4⟩
    · exact ⟨nW Bo, _, _, h.p5 2 _ rfl, h.p5 3 _ rfl, wr_off W f rv Bo h.bo vo⟩
    · exact ⟨bW, _, _, h.p5 4 _ rfl, h.p5 5 _ rfl, wr_bytes W f rv⟩
  · have k : f.kind = 6 := hk.symm
    refine ⟨[varL f.code], ⟨some ⟨P6, 0, none⟩, 1, rfl, by simp, by simp, .inr ⟨P6, rfl, fun i hi => ?_⟩⟩, by simp [writtenL, k, joinL, shAt, shs], by simp [W8, shAt, shs]⟩
    obtain rfl : i = 0 := by simpa using hi
    exact ⟨nW Bc, _, _, h.p6 0 _ rfl, h.p6 1 _ rfl, wr_code W f rv Bc h.bc vc⟩
end Go.Proofs.YtjnmokmchdfchaaDoor
