import Derived.Test.YtjnmokmchdfchaaDoorZFm
namespace Go.Proofs.YtjnmokmchdfchaaDoor
open Go.RowKit

/-! ### what is written is read as it was -/
theorem getD_app (A C : List Int) (k : Nat) : (A ++ C).getD (A.length + k) 0 = C.getD k 0 := by
  simp [List.getD, List.getElem?_append_right]
theorem getD_app0 (A C : List Int) : (A ++ C).getD A.length 0 = C.getD 0 0 := getD_app A C 0
theorem num_var (A B : List Int) {n : Int} (h : V62 n) : numR (A ++ (varL n ++ B)) A.length = some (n, A.length + (varL n).length) := by
  unfold V62 at h
  unfold numR
  by_cases h1 : n < 64
  · have hv : varL n = [n] := by simp [varL, h1]
    rw [hv, getD_app0]
    have hs : szOf (([n] ++ B).getD 0 0) = 1 := by
      simp only [szOf, List.cons_append, List.getD_cons_zero]
      rw [if_pos (by omega)]
    rw [hs, if_pos (by simp)]
    simp only [numV, Nat.sub_self, getD_app0]
    simp
    omega
  by_cases h2 : n < 16384
  · have hv : varL n = [n / 256 + 64, n % 256] := by simp [varL, h1, h2]
    rw [hv, getD_app0]
    have hs : szOf (([n / 256 + 64, n % 256] ++ B).getD 0 0) = 2 := by
      simp only [szOf, List.cons_append, List.getD_cons_zero]
      rw [if_neg (by omega), if_pos (by omega)]
    rw [hs, if_pos (by simp)]
    simp only [numV, Nat.add_assoc, Nat.reduceAdd, Nat.reduceSub, getD_app, getD_app0]
    simp
    omega
  by_cases h3 : n < 1073741824
  · have hv : varL n = [n / 16777216 + 128, n / 65536 % 256, n / 256 % 256, n % 256] := by simp [varL, h1, h2, h3]
    rw [hv, getD_app0]
    have hs : szOf (([n / 16777216 + 128, n / 65536 % 256, n / 256 % 256, n % 256] ++ B).getD 0 0) = 4 := by
      simp only [szOf, List.cons_append, List.getD_cons_zero]
      rw [if_neg (by omega), if_neg (by omega), if_pos (by omega)]
    rw [hs, if_pos (by simp)]
    simp only [numV, Nat.add_assoc, Nat.reduceAdd, Nat.reduceSub, getD_app, getD_app0]
    simp
    omega
  · have hv : varL n = [n / 72057594037927936 + 192, n / 281474976710656 % 256, n / 1099511627776 % 256, n / 4294967296 % 256, n / 16777216 % 256, n / 65536 % 256, n / 256 % 256, n % 256] := by simp [varL, h1, h2, h3]
    rw [hv, getD_app0]
    have hs : szOf (([n / 72057594037927936 + 192, n / 281474976710656 % 256, n / 1099511627776 % 256, n / 4294967296 % 256, n / 16777216 % 256, n / 65536 % 256, n / 256 % 256, n % 256] ++ B).getD 0 0) = 8 := by
      simp only [szOf, List.cons_append, List.getD_cons_zero]
      rw [if_neg (by omega), if_neg (by omega), if_neg (by omega)]
    rw [hs, if_pos (by simp)]
    simp only [numV, Nat.add_assoc, Nat.reduceAdd, Nat.reduceSub, getD_app, getD_app0]
    simp
    omega
/-- The same, the list written otherwise. -/
theorem num_at {L A B : List Int} {n : Int} {p : Nat} (hL : L = A ++ (varL n ++ B)) (hp : p = A.length) (h : V62 n) : numR L p = some (n, p + (varL n).length) := by
  subst hL hp; exact num_var A B h

def gapsFrom (l : List Rg) : Nat → Nat → List Int
  | _, 0 => []
  | j, k + 1 => gapL l j ++ gapsFrom l (j + 1) k
theorem gapsL_from (l : List Rg) (k : Nat) : ∀ j, gapsL l (j + k) = gapsL l j ++ gapsFrom l j k := by
  induction k with
  | zero => intro j; simp [gapsFrom]
  | succ k ih =>
    intro j
    rw [show j + (k + 1) = (j + 1) + k by omega, ih (j + 1)]
    simp [gapsL, gapsFrom]
theorem rgAt_get {l : List Rg} {i : Nat} (h : i < l.length) : rgAt l i = l[i] := by
  simp [rgAt, List.getD, h]
theorem rgLoop_read {l : List Rg} (hok : ∀ r ∈ l, r.ok) (hf : fallP l) (B : List Int) (k : Nat) : ∀ (j : Nat) (A : List Int), j + 1 + k = l.length →
    rgLoop (A ++ (gapsFrom l j k ++ B)) k A.length (rgAt l j).lo (l.take (j + 1)) = some (l, A.length + (gapsFrom l j k).length) := by
  induction k with
  | zero =>
    intro j A hj
    simp only [rgLoop, gapsFrom, List.length_nil, Nat.add_zero, Option.some.injEq, Prod.mk.injEq, and_true]
    exact List.take_of_length_le (by omega)
  | succ k ih =>
    intro j A hj
    have a := fall_lt hok hf j (by omega)
    have b := fall_lt hok hf (j + 1) (by omega)
    have c := hf.2 (j + 1) (by omega)
    unfold fallAt at c
    simp only [Nat.add_sub_cancel] at c
    unfold V62 at a b
    obtain ⟨x, hx⟩ : ∃ x, x = (rgAt l j).lo - (rgAt l (j + 1)).hi - 2 := ⟨_, rfl⟩
    obtain ⟨y, hy⟩ : ∃ y, y = (rgAt l (j + 1)).hi - (rgAt l (j + 1)).lo := ⟨_, rfl⟩
    have hg : gapsFrom l j (k + 1) = varL x ++ (varL y ++ gapsFrom l (j + 1) k) := by simp [gapsFrom, gapL, hx, hy]
    have hx2 : V62 x := by unfold V62; omega
    have hy2 : V62 y := by unfold V62; omega
    have n1 : numR (A ++ (gapsFrom l j (k + 1) ++ B)) A.length = some (x, A.length + (varL x).length) := num_at (B := varL y ++ gapsFrom l (j + 1) k ++ B) (by rw [hg]; simp) rfl hx2
    have n2 : numR (A ++ (gapsFrom l j (k + 1) ++ B)) (A.length + (varL x).length) = some (y, A.length + (varL x).length + (varL y).length) := num_at (A := A ++ varL x) (B := gapsFrom l (j + 1) k ++ B) (by rw [hg]; simp) (by simp) hy2
    have e1 : (rgAt l j).lo - 2 - x = (rgAt l (j + 1)).hi := by omega
    have e2 : (rgAt l (j + 1)).hi - y = (rgAt l (j + 1)).lo := by omega
    have e3 : A ++ (gapsFrom l j (k + 1) ++ B) = (A ++ varL x ++ varL y) ++ (gapsFrom l (j + 1) k ++ B) := by rw [hg]; simp
    have hj1 : j + 1 < l.length := by omega
    have e4 : l.take (j + 1) ++ [rgAt l (j + 1)] = l.take (j + 1 + 1) := by rw [List.take_succ_eq_append_getElem hj1, rgAt_get hj1]
    simp only [rgLoop, n1, n2, Option.bind_some, e1, e2]
    rw [if_pos (by omega)]
    have := ih (j + 1) (A ++ varL x ++ varL y) (by omega)
    rw [← e3] at this
    rw [e4]
    simp only [List.length_append] at this
    rw [this, hg]
    simp only [List.length_append]
    congr 2
    omega
theorem ranges_read {l : List Rg} (hok : ∀ r ∈ l, r.ok) (hf : fallP l) (hl : (l.length : Int) ≤ 4611686018427387903) {L A B : List Int} {p : Nat} (hL : L = A ++ (rangesL l ++ B)) (hp : p = A.length) : rangesR L p = some (l, p + (rangesL l).length) := by
  subst hp
  have hpos := hf.1
  have a := fall_lt hok hf 0 hpos
  have c := (hf.2 0 hpos).1
  unfold V62 at a
  obtain ⟨x, hx⟩ : ∃ x, x = (rgAt l 0).hi := ⟨_, rfl⟩
  obtain ⟨y, hy⟩ : ∃ y : Int, y = (l.length : Int) - 1 := ⟨_, rfl⟩
  obtain ⟨z, hz⟩ : ∃ z, z = (rgAt l 0).hi - (rgAt l 0).lo := ⟨_, rfl⟩
  have hr : rangesL l = varL x ++ (varL y ++ (varL z ++ gapsFrom l 0 (l.length - 1))) := by
    have := gapsL_from l (l.length - 1) 0
    simp only [Nat.zero_add, gapsL, List.nil_append] at this
    simp [rangesL, rgHead, this, hx, hy, hz]
  have n1 : numR L A.length = some (x, A.length + (varL x).length) := num_at (A := A) (B := varL y ++ (varL z ++ gapsFrom l 0 (l.length - 1)) ++ B) (by rw [hL, hr]; simp) rfl (by unfold V62; omega)
  have n2 : numR L (A.length + (varL x).length) = some (y, A.length + (varL x).length + (varL y).length) := num_at (A := A ++ varL x) (B := varL z ++ gapsFrom l 0 (l.length - 1) ++ B) (by rw [hL, hr]; simp) (by simp) (by unfold V62; omega)
  have n3 : numR L (A.length + (varL x).length + (varL y).length) = some (z, A.length + (varL x).length + (varL y).length + (varL z).length) := num_at (A := A ++ varL x ++ varL y) (B := gapsFrom l 0 (l.length - 1) ++ B) (by rw [hL, hr]; simp) (by simp; omega) (by unfold V62; omega)
  have e1 : x - z = (rgAt l 0).lo := by omega
  have e2 : y.toNat = l.length - 1 := by omega
  have e3 : L = (A ++ varL x ++ varL y ++ varL z) ++ (gapsFrom l 0 (l.length - 1) ++ B) := by rw [hL, hr]; simp
  have e4 : [(⟨(rgAt l 0).lo, x⟩ : Rg)] = l.take (0 + 1) := by
    rw [List.take_succ_eq_append_getElem (by omega), hx, rgAt_get hpos]; simp
  simp only [rangesR, n1, n2, n3, Option.bind_some, e1, e2, e4]
  rw [if_pos (by omega)]
  have := rgLoop_read hok hf B (l.length - 1) 0 (A ++ varL x ++ varL y ++ varL z) (by omega)
  rw [← e3] at this
  simp only [List.length_append] at this
  rw [show A.length + (varL x).length + (varL y).length + (varL z).length = A.length + (varL x).length + (varL y).length + (varL z).length from rfl, this, hr]
  simp only [List.length_append]
  congr 2
  omega

/-- What its kind does not name is zero. -/
def normF (f : Fr) : Fr :=
  if f.kind = 1 then frZ 1 false else if f.kind = 2 then frZ 2 false else if f.kind = 3 then { frZ 3 false with ranges := f.ranges }
  else if f.kind = 4 then { frZ 4 false with stream := f.stream, code := f.code, offset := f.offset }
  else if f.kind = 5 then { frZ 5 f.fin with stream := f.stream, offset := f.offset, data := f.data }
  else { frZ 6 false with code := f.code }
theorem bl_back (d : ByteArray) : strOfNums (bl d) = d := by
  apply ByteArray.ext
  apply Array.toList_inj.1
  rw [strOfNums_data, bl, List.map_map]
  refine (List.map_congr_left (g := id) fun x _ => ?_).trans (List.map_id _)
  simp
theorem stream_at {L A B : List Int} {n : Int} {p : Nat} (hL : L = A ++ (varL n ++ B)) (hp : p = A.length) (h0 : 0 ≤ n) (h4 : n < 4) : streamR L p = some (n, p + (varL n).length) := by
  unfold streamR
  rw [num_at hL hp ⟨h0, by omega⟩]
  simp [h4]
theorem text_at {L A B : List Int} {d : ByteArray} {p : Nat} (hL : L = A ++ (varL d.size ++ (bl d ++ B))) (hp : p = A.length) (hd : (d.size : Int) ≤ 4611686018427387903) : textR L p = some (d, p + (varL d.size).length + d.size) := by
  unfold textR
  rw [num_at (n := d.size) hL hp ⟨by omega, hd⟩]
  simp only [Option.bind_some]
  have hlen : L.length = A.length + (varL d.size).length + d.size + B.length := by rw [hL]; simp [bl_len]; omega
  rw [if_pos (by rw [hlen, hp]; push_cast; omega)]
  have e : (L.drop (p + (varL d.size).length)).take d.size = bl d := by
    rw [hL, show A ++ (varL (d.size : Int) ++ (bl d ++ B)) = (A ++ varL (d.size : Int)) ++ (bl d ++ B) by simp, show p + (varL (d.size : Int)).length = (A ++ varL (d.size : Int)).length by simp [hp], List.drop_left, ← bl_len d, List.take_left]
  simp only [Int.toNat_natCast, e, bl_back]
theorem frame_read {f : Fr} (hok : f.ok) (hs : soundP f) (hl : (f.ranges.length : Int) ≤ 4611686018427387903) {L A B : List Int} (hL : L = A ++ (writtenL f ++ B)) : frameR L A.length = some (normF f, A.length + (writtenL f).length) := by
  obtain ⟨⟨b1, b2, b3, b4⟩, ⟨r1, r2⟩, k1, k6⟩ := id hs
  obtain ⟨o1, o2, ⟨o3, -⟩, ⟨o4, -⟩, o5⟩ := hok
  have hk : f.kind = 1 ∨ f.kind = 2 ∨ f.kind = 3 ∨ f.kind = 4 ∨ f.kind = 5 ∨ f.kind = 6 := by omega
  have e0 : L.getD A.length 0 = (writtenL f ++ B).getD 0 0 := by rw [hL]; exact getD_app0 A _
  unfold frameR
  rw [e0]
  rcases hk with hk | hk | hk | hk | hk | hk
  · have hw : writtenL f = [0] := by simp [writtenL, hk]
    have hn : normF f = frZ 1 false := by simp [normF, hk]
    rw [hw, hn]
    have hs2 : soundP (frZ 1 false) := by simp [soundP, baseP, restP, frZ]
    simp [rawR, hs2]
  · have hw : writtenL f = [1] := by simp [writtenL, hk]
    have hn : normF f = frZ 2 false := by simp [normF, hk]
    rw [hw, hn]
    have hs2 : soundP (frZ 2 false) := by simp [soundP, baseP, restP, frZ]
    simp [rawR, hs2]
  · have hw : writtenL f = 2 :: rangesL f.ranges := by simp [writtenL, hk]
    have hn : normF f = { frZ 3 false with ranges := f.ranges } := by simp [normF, hk]
    have hr : rangesR L (A.length + 1) = some (f.ranges, A.length + 1 + (rangesL f.ranges).length) := ranges_read (A := A ++ [2]) (B := B) o5 (r1 hk) hl (by rw [hL, hw]; simp) (by simp)
    rw [hw, hn]
    have hs2 : soundP { frZ 3 false with ranges := f.ranges } := by
      refine ⟨?_, ⟨fun _ => r1 hk, fun h => ?_⟩, ?_⟩ <;> simp [baseP, frZ] at *
    simp [rawR, hr, hs2]
    omega
  · have hw : writtenL f = 4 :: (varL f.stream ++ varL f.code ++ varL f.offset) := by simp [writtenL, hk]
    have hn : normF f = { frZ 4 false with stream := f.stream, code := f.code, offset := f.offset } := by simp [normF, hk]
    have n1 := stream_at (L := L) (A := A ++ [4]) (B := varL f.code ++ (varL f.offset ++ B)) (n := f.stream) (p := A.length + 1) (by rw [hL, hw]; simp) (by simp) b3 b4
    have n2 := num_at (L := L) (A := A ++ [4] ++ varL f.stream) (B := varL f.offset ++ B) (n := f.code) (p := A.length + 1 + (varL f.stream).length) (by rw [hL, hw]; simp) (by simp; omega) ⟨o4, b2⟩
    have n3 := num_at (L := L) (A := A ++ [4] ++ varL f.stream ++ varL f.code) (B := B) (n := f.offset) (p := A.length + 1 + (varL f.stream).length + (varL f.code).length) (by rw [hL, hw]; simp) (by simp; omega) ⟨o3, b1⟩
    rw [hw, hn]
    have hs2 : soundP { frZ 4 false with stream := f.stream, code := f.code, offset := f.offset } := by
      refine ⟨⟨b1, b2, b3, b4⟩, ⟨fun h => ?_, fun h => ?_⟩, ?_⟩ <;> simp [frZ] at *
    simp [rawR, n1, n2, n3, hs2]
    omega
  · have hd := r2 hk
    have n1 := fun t : Int => fun hw : writtenL f = t :: (varL f.stream ++ varL f.offset ++ varL f.data.size ++ bl f.data) => stream_at (L := L) (A := A ++ [t]) (B := varL f.offset ++ (varL f.data.size ++ (bl f.data ++ B))) (n := f.stream) (p := A.length + 1) (by rw [hL, hw]; simp) (by simp) b3 b4
    have n2 := fun t : Int => fun hw : writtenL f = t :: (varL f.stream ++ varL f.offset ++ varL f.data.size ++ bl f.data) => num_at (L := L) (A := A ++ [t] ++ varL f.stream) (B := varL f.data.size ++ (bl f.data ++ B)) (n := f.offset) (p := A.length + 1 + (varL f.stream).length) (by rw [hL, hw]; simp) (by simp; omega) ⟨o3, b1⟩
    have n3 := fun t : Int => fun hw : writtenL f = t :: (varL f.stream ++ varL f.offset ++ varL f.data.size ++ bl f.data) => text_at (L := L) (A := A ++ [t] ++ varL f.stream ++ varL f.offset) (B := B) (d := f.data) (p := A.length + 1 + (varL f.stream).length + (varL f.offset).length) (by rw [hL, hw]; simp) (by simp; omega) (by omega)
    have hs2 : ∀ b, soundP { frZ 5 b with stream := f.stream, offset := f.offset, data := f.data } := fun b => by
      refine ⟨⟨b1, by simp [frZ], b3, b4⟩, ⟨fun h => ?_, fun h => hd⟩, ?_⟩ <;> simp [frZ] at *
    cases hfin : f.fin with
    | true =>
      have hw : writtenL f = 9 :: (varL f.stream ++ varL f.offset ++ varL f.data.size ++ bl f.data) := by simp [writtenL, hk, hfin]
      have hn : normF f = { frZ 5 true with stream := f.stream, offset := f.offset, data := f.data } := by simp [normF, hk, hfin]
      replace n1 := n1 9 hw
      replace n2 := n2 9 hw
      replace n3 := n3 9 hw
      replace hs2 := hs2 true
      rw [hw, hn]
      simp [rawR, n1, n2, n3, hs2, bl_len]
      omega
    | false =>
      have hw : writtenL f = 8 :: (varL f.stream ++ varL f.offset ++ varL f.data.size ++ bl f.data) := by simp [writtenL, hk, hfin]
      have hn : normF f = { frZ 5 false with stream := f.stream, offset := f.offset, data := f.data } := by simp [normF, hk, hfin]
      replace n1 := n1 8 hw
      replace n2 := n2 8 hw
      replace n3 := n3 8 hw
      replace hs2 := hs2 false
      rw [hw, hn]
      simp [rawR, n1, n2, n3, hs2, bl_len]
      omega
  · have hw : writtenL f = 28 :: varL f.code := by simp [writtenL, hk]
    have hn : normF f = { frZ 6 false with code := f.code } := by simp [normF, hk]
    have n1 := num_at (L := L) (A := A ++ [28]) (B := B) (n := f.code) (p := A.length + 1) (by rw [hL, hw]; simp) (by simp) ⟨o4, b2⟩
    rw [hw, hn]
    have hs2 : soundP { frZ 6 false with code := f.code } := by
      refine ⟨⟨by simp [frZ], b2, by simp [frZ], by simp [frZ]⟩, ⟨fun h => ?_, fun h => ?_⟩, ?_⟩ <;> simp [frZ] at *
    simp [rawR, n1, hs2]
    omega
theorem decF_read (fs : List Fr) : ∀ (A : List Int) (k : Nat) (acc : List Fr), (∀ f ∈ fs, f.ok ∧ soundP f ∧ (f.ranges.length : Int) ≤ 4611686018427387903) → fs.length < k → decF (A ++ encL fs) k A.length acc = (some (acc ++ fs.map normF), -1) := by
  induction fs with
  | nil =>
    intro A k acc _ hk
    obtain ⟨k, rfl⟩ : ∃ m, k = m + 1 := ⟨k - 1, by simp at hk; omega⟩
    simp [decF, encL]
  | cons f r ih =>
    intro A k acc h hk
    obtain ⟨k, rfl⟩ : ∃ m, k = m + 1 := ⟨k - 1, by simp at hk; omega⟩
    obtain ⟨h1, h2, h3⟩ := h f (by simp)
    have hr := frame_read h1 h2 h3 (L := A ++ encL (f :: r)) (A := A) (B := encL r) rfl
    have hw := (writtenL_len f).1
    have hlt : A.length < (A ++ encL (f :: r)).length := by simp [encL]; omega
    simp only [decF, if_pos hlt, hr]
    have := ih (A ++ writtenL f) k (acc ++ [normF f]) (fun g hg => h g (by simp [hg])) (by simp at hk; omega)
    simp only [List.length_append] at this
    rw [show A ++ encL (f :: r) = A ++ writtenL f ++ encL r by simp [encL], this]
    simp
theorem encL_long (fs : List Fr) : fs.length ≤ (encL fs).length := by
  induction fs with
  | nil => simp [encL]
  | cons f r ih => have := (writtenL_len f).1; simp [encL]; omega
theorem decR_read {fs : List Fr} (h : ∀ f ∈ fs, f.ok ∧ soundP f ∧ (f.ranges.length : Int) ≤ 4611686018427387903) (h0 : fs ≠ []) : decR (encL fs) = (some (fs.map normF), -1) := by
  have hl := encL_long fs
  have hp := List.length_pos_iff.2 h0
  unfold decR
  rw [if_neg (by omega)]
  have := decF_read fs [] ((encL fs).length + 1) [] h (by omega)
  simpa using this
theorem normF_same {f : Fr} (hs : soundP f) : writtenL (normF f) = writtenL f ∧ soundP (normF f) ∧ bulkF (normF f) ≤ bulkF f ∧ (f.ok → (normF f).ok) := by
  obtain ⟨⟨b1, b2, b3, b4⟩, ⟨r1, r2⟩, k1, k6⟩ := id hs
  have hk : f.kind = 1 ∨ f.kind = 2 ∨ f.kind = 3 ∨ f.kind = 4 ∨ f.kind = 5 ∨ f.kind = 6 := by omega
  have hz : W64 0 := by simp [W64]
  rcases hk with hk | hk | hk | hk | hk | hk
  · have hn : normF f = frZ 1 false := by simp [normF, hk]
    rw [hn]
    refine ⟨by simp [writtenL, hk, frZ], by simp [soundP, baseP, restP, frZ], by simp [bulkF, frZ]; omega, fun h => ⟨by simp [I64, frZ], by simp [I64, frZ], hz, hz, by simp [frZ]⟩⟩
  · have hn : normF f = frZ 2 false := by simp [normF, hk]
    rw [hn]
    refine ⟨by simp [writtenL, hk, frZ], by simp [soundP, baseP, restP, frZ], by simp [bulkF, frZ]; omega, fun h => ⟨by simp [I64, frZ], by simp [I64, frZ], hz, hz, by simp [frZ]⟩⟩
  · have hn : normF f = { frZ 3 false with ranges := f.ranges } := by simp [normF, hk]
    rw [hn]
    refine ⟨by simp [writtenL, hk, frZ], ?_, by simp [bulkF, frZ], fun h => ⟨by simp [I64, frZ], by simp [I64, frZ], hz, hz, h.2.2.2.2⟩⟩
    refine ⟨?_, ⟨fun _ => r1 hk, fun h => ?_⟩, ?_⟩ <;> simp [baseP, frZ] at *
  · have hn : normF f = { frZ 4 false with stream := f.stream, code := f.code, offset := f.offset } := by simp [normF, hk]
    rw [hn]
    refine ⟨by simp [writtenL, hk, frZ], ?_, by simp [bulkF, frZ]; omega, fun h => ⟨by simp [I64, frZ], h.2.1, h.2.2.1, h.2.2.2.1, by simp [frZ]⟩⟩
    refine ⟨⟨b1, b2, b3, b4⟩, ⟨fun h => ?_, fun h => ?_⟩, ?_⟩ <;> simp [frZ] at *
  · have hd := r2 hk
    have hn : normF f = { frZ 5 f.fin with stream := f.stream, offset := f.offset, data := f.data } := by simp [normF, hk]
    rw [hn]
    refine ⟨by simp [writtenL, hk, frZ]; rfl, ?_, by simp [bulkF, frZ], fun h => ⟨by simp [I64, frZ], h.2.1, h.2.2.1, hz, by simp [frZ]⟩⟩
    refine ⟨⟨b1, by simp [frZ], b3, b4⟩, ⟨fun h => ?_, fun h => hd⟩, ?_⟩ <;> simp [frZ] at *
  · have hn : normF f = { frZ 6 false with code := f.code } := by simp [normF, hk]
    rw [hn]
    refine ⟨by simp [writtenL, hk, frZ], ?_, by simp [bulkF, frZ]; omega, fun h => ⟨by simp [I64, frZ], by simp [I64, frZ], hz, h.2.2.2.1, by simp [frZ]⟩⟩
    refine ⟨⟨by simp [frZ], b2, by simp [frZ], by simp [frZ]⟩, ⟨fun h => ?_, fun h => ?_⟩, ?_⟩ <;> simp [frZ] at *
theorem normL_same (fs : List Fr) (h : ∀ f ∈ fs, soundP f) : encL (fs.map normF) = encL fs ∧ bulkL (fs.map normF) ≤ bulkL fs := by
  induction fs with
  | nil => simp [encL, bulkL]
  | cons f r ih =>
    have h1 := ih (fun g hg => h g (by simp [hg]))
    have h2 := normF_same (h f (by simp))
    simp only [List.map_cons, encL, bulkL]
    exact ⟨by rw [h1.1, h2.1], by omega⟩
end Go.Proofs.YtjnmokmchdfchaaDoor
