import Derived.Test.YtjnmokmchdfchaaDoorZBytes
import Derived.Outline
namespace Go.Proofs.YtjnmokmchdfchaaDoor
open Go.RowKit

structure Rg where
  lo : Int
  hi : Int
structure Fr where
  kind : Int
  stream : Int
  offset : Int
  code : Int
  fin : Bool
  data : ByteArray
  ranges : List Rg
def Rg.ok (r : Rg) : Prop := W64 r.lo ∧ W64 r.hi
def I64 (x : Int) : Prop := -9223372036854775808 ≤ x ∧ x ≤ 9223372036854775807
def Fr.ok (f : Fr) : Prop := I64 f.kind ∧ I64 f.stream ∧ W64 f.offset ∧ W64 f.code ∧ ∀ r ∈ f.ranges, r.ok

/-! ### numbers as bytes -/
/-- A number as short as can be. -/
def varL (n : Int) : List Int :=
  if n < 64 then [n] else if n < 16384 then [n / 256 + 64, n % 256]
  else if n < 1073741824 then [n / 16777216 + 128, n / 65536 % 256, n / 256 % 256, n % 256]
  else [n / 72057594037927936 + 192, n / 281474976710656 % 256, n / 1099511627776 % 256, n / 4294967296 % 256, n / 16777216 % 256, n / 65536 % 256, n / 256 % 256, n % 256]
def V62 (n : Int) : Prop := 0 ≤ n ∧ n ≤ 4611686018427387903
theorem varL_w {n : Int} (h : V62 n) : ∀ x ∈ varL n, W8 x := by
  unfold V62 at h
  intro x hx
  unfold varL at hx
  unfold W8
  split at hx
  · simp only [List.mem_singleton] at hx; omega
  · split at hx
    · simp only [List.mem_cons, List.not_mem_nil, or_false] at hx; omega
    · split at hx
      · simp only [List.mem_cons, List.not_mem_nil, or_false] at hx; omega
      · simp only [List.mem_cons, List.not_mem_nil, or_false] at hx; omega
theorem varL_len (n : Int) : 1 ≤ (varL n).length ∧ (varL n).length ≤ 8 := by
  unfold varL
  repeat' split
  all_goals simp

/-! ### which frames may be written -/
def rgAt (l : List Rg) (i : Nat) : Rg := l.getD i ⟨0, 0⟩
def fallAt (l : List Rg) (i : Nat) : Prop := (rgAt l i).lo ≤ (rgAt l i).hi ∧ (rgAt l i).hi ≤ 4611686018427387903 ∧ (0 < i → (rgAt l i).hi + 2 ≤ (rgAt l (i - 1)).lo)
def fallP (l : List Rg) : Prop := 0 < l.length ∧ ∀ i, i < l.length → fallAt l i
def baseP (f : Fr) : Prop := f.offset ≤ 4611686018427387903 ∧ f.code ≤ 4611686018427387903 ∧ 0 ≤ f.stream ∧ f.stream < 4
def restP (f : Fr) : Prop := (f.kind = 3 → fallP f.ranges) ∧ (f.kind = 5 → (f.data.size : Int) ≤ 4611686018427387903 - f.offset)
def soundP (f : Fr) : Prop := baseP f ∧ restP f ∧ 1 ≤ f.kind ∧ f.kind ≤ 6

/-! ### frames as bytes -/
def gapL (l : List Rg) (i : Nat) : List Int := varL ((rgAt l i).lo - (rgAt l (i + 1)).hi - 2) ++ varL ((rgAt l (i + 1)).hi - (rgAt l (i + 1)).lo)
def gapsL (l : List Rg) : Nat → List Int
  | 0 => []
  | j + 1 => gapsL l j ++ gapL l j
def rgHead (l : List Rg) : List Int := varL (rgAt l 0).hi ++ varL ((l.length : Int) - 1) ++ varL ((rgAt l 0).hi - (rgAt l 0).lo)
def rangesL (l : List Rg) : List Int := rgHead l ++ gapsL l (l.length - 1)
def writtenL (f : Fr) : List Int :=
  if f.kind = 1 then [0] else if f.kind = 2 then [1] else if f.kind = 3 then 2 :: rangesL f.ranges
  else if f.kind = 4 then 4 :: (varL f.stream ++ varL f.code ++ varL f.offset)
  else if f.kind = 5 then (if f.fin then 9 else 8) :: (varL f.stream ++ varL f.offset ++ varL f.data.size ++ bl f.data)
  else 28 :: varL f.code
def encL : List Fr → List Int
  | [] => []
  | f :: r => writtenL f ++ encL r
theorem encL_append (l r : List Fr) : encL (l ++ r) = encL l ++ encL r := by
  induction l with
  | nil => rfl
  | cons f l ih => simp [encL, ih]
theorem encL_take (l : List Fr) (j : Nat) (h : j < l.length) : encL (l.take (j + 1)) = encL (l.take j) ++ writtenL l[j] := by
  rw [List.take_succ_eq_append_getElem h, encL_append]
  simp [encL]
/-- How much a frame may come to. -/
def bulkF (f : Fr) : Nat := 25 + 16 * f.ranges.length + f.data.size
def bulkL : List Fr → Nat
  | [] => 0
  | f :: r => bulkF f + bulkL r
theorem gapsL_len (l : List Rg) (j : Nat) : (gapsL l j).length ≤ 16 * j := by
  induction j with
  | zero => simp [gapsL]
  | succ j ih =>
    have h1 := varL_len ((rgAt l j).lo - (rgAt l (j + 1)).hi - 2)
    have h2 := varL_len ((rgAt l (j + 1)).hi - (rgAt l (j + 1)).lo)
    simp only [gapsL, gapL, List.length_append]; omega
theorem writtenL_len (f : Fr) : 1 ≤ (writtenL f).length ∧ (writtenL f).length ≤ bulkF f := by
  have a1 := varL_len f.stream
  have a2 := varL_len f.code
  have a3 := varL_len f.offset
  have a4 := varL_len f.data.size
  have a5 := bl_len f.data
  have a6 := gapsL_len f.ranges (f.ranges.length - 1)
  have a7 := varL_len (rgAt f.ranges 0).hi
  have a8 := varL_len ((f.ranges.length : Int) - 1)
  have a9 := varL_len ((rgAt f.ranges 0).hi - (rgAt f.ranges 0).lo)
  unfold writtenL bulkF
  repeat' split
  all_goals simp only [rangesL, rgHead, List.length_cons, List.length_append, List.length_nil]; omega
theorem encL_len (l : List Fr) : (encL l).length ≤ bulkL l := by
  induction l with
  | nil => simp [encL, bulkL]
  | cons f r ih => have := writtenL_len f; simp only [encL, bulkL, List.length_append]; omega
theorem fall_lt {l : List Rg} (hok : ∀ r ∈ l, r.ok) (h : fallP l) (i : Nat) (hi : i < l.length) : V62 (rgAt l i).lo ∧ V62 (rgAt l i).hi := by
  have h1 := h.2 i hi
  have h2 : (rgAt l i).ok := hok _ (by unfold rgAt; rw [List.getD, List.getElem?_eq_getElem hi]; exact List.getElem_mem hi)
  unfold Rg.ok W64 at h2
  unfold fallAt at h1
  unfold V62
  omega
theorem gapsL_w {l : List Rg} (hok : ∀ r ∈ l, r.ok) (h : fallP l) : ∀ j, j < l.length → ∀ x ∈ gapsL l j, W8 x
  | 0, _ => by intro x hx; simp [gapsL] at hx
  | j + 1, hj => by
    intro x hx
    have a := fall_lt hok h j (by omega)
    have b := fall_lt hok h (j + 1) hj
    have c := h.2 (j + 1) hj
    unfold fallAt at c
    simp only [Nat.add_sub_cancel] at c
    unfold V62 at a b
    simp only [gapsL, gapL, List.mem_append] at hx
    rcases hx with hx | hx | hx
    · exact gapsL_w hok h j (by omega) x hx
    · exact varL_w (by unfold V62; omega) x hx
    · exact varL_w (by unfold V62; omega) x hx
theorem rgHead_w {l : List Rg} (hok : ∀ r ∈ l, r.ok) (h : fallP l) (hl : (l.length : Int) ≤ 4611686018427387903) : ∀ x ∈ rgHead l, W8 x := by
  have a := fall_lt hok h 0 h.1
  have c := (h.2 0 h.1).1
  have d := h.1
  unfold V62 at a
  intro x hx
  simp only [rgHead, List.mem_append] at hx
  rcases hx with (hx | hx) | hx
  · exact varL_w (by unfold V62; omega) x hx
  · exact varL_w (by unfold V62; omega) x hx
  · exact varL_w (by unfold V62; omega) x hx

/-! ### bytes as frames -/
def szOf (x : Int) : Nat := if x < 64 then 1 else if x < 128 then 2 else if x < 192 then 4 else 8
def numV (b : List Int) (p : Nat) : Nat → Int
  | 0 => b.getD p 0 % 64
  | k + 1 => numV b p k * 256 + b.getD (p + k + 1) 0
def numR (b : List Int) (p : Nat) : Option (Int × Nat) :=
  if p + szOf (b.getD p 0) ≤ b.length then some (numV b p (szOf (b.getD p 0) - 1), p + szOf (b.getD p 0)) else none
theorem szOf_pos (x : Int) : 1 ≤ szOf x ∧ szOf x ≤ 8 := by
  unfold szOf
  repeat' split
  all_goals omega
theorem numV_lt {b : List Int} (hb : ∀ x ∈ b, W8 x) (p : Nat) : ∀ k, 0 ≤ numV b p k ∧ numV b p k < 64 * 256 ^ k
  | 0 => by simp only [numV]; omega
  | k + 1 => by
    have ih := numV_lt hb p k
    have hx := getD_w8 hb (p + k + 1)
    unfold W8 at hx
    simp only [numV, Int.pow_succ]
    generalize (256 : Int) ^ k = q at *
    omega
theorem numR_some {b : List Int} {p : Nat} {n : Int} {q : Nat} (hb : ∀ x ∈ b, W8 x) (h : numR b p = some (n, q)) : V62 n ∧ p < q ∧ q ≤ b.length := by
  unfold numR at h
  split at h
  · simp only [Option.some.injEq, Prod.mk.injEq] at h
    obtain ⟨rfl, rfl⟩ := h
    have := szOf_pos (b.getD p 0)
    have h2 := numV_lt hb p (szOf (b.getD p 0) - 1)
    have h3 : (256 : Int) ^ (szOf (b.getD p 0) - 1) ≤ 256 ^ 7 := by
      have : (256 : Nat) ^ (szOf (b.getD p 0) - 1) ≤ 256 ^ 7 := Nat.pow_le_pow_right (by decide) (by omega)
      have e : ∀ k : Nat, (256 : Int) ^ k = ((256 ^ k : Nat) : Int) := fun k => by simp
      rw [e, e]; omega
    unfold V62
    omega
  · cases h
def streamR (b : List Int) (p : Nat) : Option (Int × Nat) := (numR b p).bind fun x => if x.1 < 4 then some x else none
def textR (b : List Int) (p : Nat) : Option (ByteArray × Nat) :=
  (numR b p).bind fun x => if x.1 ≤ (b.length : Int) - (x.2 : Int) then some (strOfNums ((b.drop x.2).take x.1.toNat), x.2 + x.1.toNat) else none
def rgLoop (b : List Int) : Nat → Nat → Int → List Rg → Option (List Rg × Nat)
  | 0, p, _, acc => some (acc, p)
  | k + 1, p, lo, acc => (numR b p).bind fun x => (numR b x.2).bind fun y =>
      if x.1 + 2 ≤ lo ∧ y.1 ≤ lo - 2 - x.1 then rgLoop b k y.2 (lo - 2 - x.1 - y.1) (acc ++ [⟨lo - 2 - x.1 - y.1, lo - 2 - x.1⟩]) else none
def rangesR (b : List Int) (p : Nat) : Option (List Rg × Nat) :=
  (numR b p).bind fun x => (numR b x.2).bind fun y => (numR b y.2).bind fun z =>
    if z.1 ≤ x.1 then rgLoop b y.1.toNat z.2 (x.1 - z.1) [⟨x.1 - z.1, x.1⟩] else none
def frZ (k : Int) (fin : Bool) : Fr := ⟨k, 0, 0, 0, fin, ByteArray.empty, []⟩
def rawR (b : List Int) (t : Int) (p : Nat) : Option (Fr × Nat) :=
  if t = 0 then some (frZ 1 false, p) else if t = 1 then some (frZ 2 false, p)
  else if t = 2 then (rangesR b p).bind fun x => some ({ frZ 3 false with ranges := x.1 }, x.2)
  else if t = 4 then (streamR b p).bind fun x => (numR b x.2).bind fun y => (numR b y.2).bind fun z => some ({ frZ 4 false with stream := x.1, code := y.1, offset := z.1 }, z.2)
  else if t = 8 ∨ t = 9 then (streamR b p).bind fun x => (numR b x.2).bind fun y => (textR b y.2).bind fun z => some ({ frZ 5 (decide (t = 9)) with stream := x.1, offset := y.1, data := z.1 }, z.2)
  else if t = 28 then (numR b p).bind fun x => some ({ frZ 6 false with code := x.1 }, x.2)
  else none
open Classical in
noncomputable def frameR (b : List Int) (p : Nat) : Option (Fr × Nat) := (rawR b (b.getD p 0) (p + 1)).bind fun x => if soundP x.1 then some x else none
/-- What is read: the frames; or none, and where the frame lies that is none. -/
noncomputable def decF (b : List Int) : Nat → Nat → List Fr → Option (List Fr) × Int
  | 0, p, _ => (none, p)
  | k + 1, p, acc => if p < b.length then (match frameR b p with
    | none => (none, p)
    | some (f, q) => decF b k q (acc ++ [f])) else (some acc, -1)
noncomputable def decR (b : List Int) : Option (List Fr) × Int := if b.length = 0 then (none, 0) else decF b (b.length + 1) 0 []
end Go.Proofs.YtjnmokmchdfchaaDoor
namespace Go.Proofs.YtjnmokmchdfchaaDoor
open Go.RowKit
attribute [local go_sem ↓] Go.wp_at_zero Go.wp_at_succ

/-- A slice of bytes that was appended to: nothing else turned. -/
structure Grew (w : World) (base : Nat) (v : Value) (w' : World) (v' : Value) (m : List Int) : Prop where
  own : OwnB w' base v' m
  gb : w.grownBy w' v.ownBlock
  blk : v'.ownBlock = v.ownBlock ∨ ∃ k, v'.ownBlock = some k ∧ w.heap.size ≤ k
theorem Grew.refl {w : World} {base : Nat} {v : Value} {l : List Int} (h : OwnB w base v l) : Grew w base v w v l := ⟨h, World.grownBy.refl _ _, .inl rfl⟩
theorem Grew.still {w w1 w2 : World} {base : Nat} {v v1 : Value} {m : List Int} (h : Grew w base v w1 v1 m) (g : w1.grownBy w2 none) : Grew w base v w2 v1 m :=
  ⟨h.own.gb0 g, gb_trans' h.gb g (fun _ e => by cases e), h.blk⟩
theorem Grew.trans {w w1 w2 : World} {base : Nat} {v v1 v2 : Value} {m1 m2 : List Int} (h : Grew w base v w1 v1 m1) (k : Grew w1 base v1 w2 v2 m2) : Grew w base v w2 v2 m2 :=
  ⟨k.own, gb_trans' h.gb k.gb (fun j e => by
    rcases h.blk with hb | ⟨k', hk, hle⟩
    · exact .inr hb
    · rw [hk] at e; cases e; exact .inl hle), by
    have hs := h.gb.size
    rcases k.blk with kb | ⟨k', hk, hle⟩
    · rw [kb]; exact h.blk
    · exact .inr ⟨k', hk, by omega⟩⟩
theorem Grew.app {w w1 w2 w3 : World} {base : Nat} {v v1 v3 : Value} {m m3 : List Int} (h : Grew w base v w1 v1 m) (g : w1.grownBy w2 none) (o3 : OwnB w3 base v3 m3) (g3 : w2.grownBy w3 v1.ownBlock) (h4 : v3.ownBlock = v1.ownBlock ∨ v3.ownBlock = some w2.heap.size) : Grew w base v w3 v3 m3 :=
  (h.still g).trans ⟨o3, g3, by
    rcases h4 with e | e
    · exact .inl e
    · exact .inr ⟨_, e, Nat.le_refl _⟩⟩
/-- A block that was there, and was not the slice's, is as it was, and is not the slice's. -/
theorem Grew.apart {w w' : World} {base : Nat} {v v' : Value} {m : List Int} (h : Grew w base v w' v' m) {B : Nat} (hB : B < w.heap.size) (hv : v.ownBlock ≠ some B) : w'.heap[B]? = w.heap[B]? ∧ v'.ownBlock ≠ some B := by
  refine ⟨h.gb.block B hB (fun e => hv e.symm), fun e => ?_⟩
  rcases h.blk with hb | ⟨k, hk, hle⟩
  · exact hv (hb.symm.trans e)
  · rw [hk] at e; cases e; omega
theorem Grew.size {w w' : World} {base : Nat} {v v' : Value} {m : List Int} (h : Grew w base v w' v' m) : w.heap.size ≤ w'.heap.size := h.gb.size
theorem Grew.bsv {w w' : World} {base : Nat} {v : Value} {a : Option Addr} {n c : Nat} {m : List Int} (h : Grew w base v w' (.slice a n c) m) : BSv w' a n c m := h.own.bsv

/-! ### numbers -/
def pw (n : Int) : Int := if n < 64 then 0 else if n < 16384 then 1 else if n < 1073741824 then 2 else 3
set_option maxRecDepth 100000 in
theorem powerOf_any (n : Int) (w : World) : Calls Tryd.prog 103 #[.int .u64 n] w fun e w' => e = .returned (.int .i64 (pw n)) ∧ w' = w := by
  unfold pw
  by_cases h1 : n < 64
  · have e1 : decide (n < 64) = true := by simp [h1]
    go_enter Tryd.func103, Tryd.ntmps103
    go_wp2_with fail
    go_ret
    exact ⟨by simp, rfl⟩
  · have e1 : decide (n < 64) = false := by simp [h1]
    by_cases h2 : n < 16384
    · have e2 : decide (n < 16384) = true := by simp [h2]
      go_enter Tryd.func103, Tryd.ntmps103
      go_wp2_with fail
      go_ret
      exact ⟨by simp, rfl⟩
    · have e2 : decide (n < 16384) = false := by simp [h2]
      by_cases h3 : n < 1073741824
      · have e3 : decide (n < 1073741824) = true := by simp [h3]
        go_enter Tryd.func103, Tryd.ntmps103
        go_wp2_with fail
        go_ret
        exact ⟨by simp, rfl⟩
      · have e3 : decide (n < 1073741824) = false := by simp [h3]
        go_enter Tryd.func103, Tryd.ntmps103
        go_wp2_with fail
        go_ret
        exact ⟨by simp, rfl⟩

/-- A number's lowest bytes, the highest first. -/
def vbs (m : Int) (k : Nat) : List Int := (List.range k).map fun i => m / 2 ^ (8 * (k - 1) - 8 * i) % 256
theorem vbs_len (m : Int) (k : Nat) : (vbs m k).length = k := by simp [vbs]
theorem vbs_take (m : Int) (k j : Nat) (h : j < k) : (vbs m k).take (j + 1) = (vbs m k).take j ++ [m / 2 ^ (8 * (k - 1) - 8 * j) % 256] := by
  have hl : j < (vbs m k).length := by rw [vbs_len]; exact h
  rw [List.take_succ_eq_append_getElem hl]
  simp [vbs]
theorem orH (n : Int) (p k : Nat) (h0 : 0 ≤ n) (h1 : n < (2 ^ k : Nat)) (h2 : p * 2 ^ k + 2 ^ k ≤ 18446744073709551616) : bits .or .u64 n ((p * 2 ^ k : Nat) : Int) = n + ((p * 2 ^ k : Nat) : Int) := by
  obtain ⟨m, rfl⟩ := Int.eq_ofNat_of_zero_le h0
  have hm : m < 2 ^ k := by omega
  rw [u64_or_nat _ _ (by omega) (by omega)]
  have := Nat.shiftLeft_add_eq_or_of_lt hm p
  rw [Nat.shiftLeft_eq] at this
  rw [Nat.or_comm, ← this]
  omega
theorem var1 {n : Int} (h : n < 64) (h0 : 0 ≤ n) : varL n = vbs n 1 := by
  simp [varL, vbs, h]; omega
theorem var2 {n : Int} (h : ¬ n < 64) (h2 : n < 16384) : varL n = vbs (n + 16384) 2 := by
  simp [varL, vbs, h, h2, List.range_succ]; omega
theorem var4 {n : Int} (h : ¬ n < 64) (h2 : ¬ n < 16384) (h3 : n < 1073741824) : varL n = vbs (n + 2147483648) 4 := by
  simp [varL, vbs, h, h2, h3, List.range_succ]; omega
theorem var8 {n : Int} (h : ¬ n < 64) (h2 : ¬ n < 16384) (h3 : ¬ n < 1073741824) (h4 : V62 n) : varL n = vbs (n + 13835058055282163712) 8 := by
  unfold V62 at h4
  simp [varL, vbs, h, h2, h3, List.range_succ]; omega
end Go.Proofs.YtjnmokmchdfchaaDoor
