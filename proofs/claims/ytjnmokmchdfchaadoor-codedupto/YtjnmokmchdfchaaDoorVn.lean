import Derived.Test.YtjnmokmchdfchaaDoorFm
import Derived.Outline
namespace Go.Proofs.YtjnmokmchdfchaaDoor
open Go.RowKit
attribute [local go_sem ↓] Go.wp_at_zero Go.wp_at_succ

/-- A slice of bytes that was appended to: nothing else turned. -/
structure Grew (w : World) (base : Nat) (v : Value) (w' : World) (v' : Value) (m : List Int) : Prop where
  own : OwnB w' base v' m
  gb : w.grownBy w' v.ownBlock
  blk : v'.ownBlock = v.ownBlock ∨ ∃ k, v'.ownBlock = some k ∧ w.heap.size ≤ k
theorem Grew.refl {w : World} {base : Nat} {v : Value} {l : List Int} (h : OwnB w base v l) : Grew w base v w v l := ⟨h, World.grownBy.refl _ _, .inl rfl⟩
theorem Grew.still {w w1 w2 : World} {base : Nat} {v v1 : Value} {m : List Int} (h : Grew w base v w1 v1 m) (g : w1.grownBy w2 none) : Grew w base v w2 v1 m :=
  ⟨h.own.gb0 g, gb_trans' h.gb g (fun _ e => by cases e), h.blk⟩
theorem Grew.trans {w w1 w2 : World} {base : Nat} {v v1 v2 : Value} {m1 m2 : List Int} (h : Grew w base v w1 v1 m1) (k : Grew w1 base v1 w2 v2 m2) : Grew w base v w2 v2 m2 :=
  ⟨k.own, gb_trans' h.gb k.gb (fun j e => by
    rcases h.blk with hb | ⟨k', hk, hle⟩
    · exact .inr hb
    · rw [hk] at e; cases e; exact .inl hle), by
    have hs := h.gb.size
    rcases k.blk with kb | ⟨k', hk, hle⟩
    · rw [kb]; exact h.blk
    · exact .inr ⟨k', hk, by omega⟩⟩
theorem Grew.app {w w1 w2 w3 : World} {base : Nat} {v v1 v3 : Value} {m m3 : List Int} (h : Grew w base v w1 v1 m) (g : w1.grownBy w2 none) (o3 : OwnB w3 base v3 m3) (g3 : w2.grownBy w3 v1.ownBlock) (h4 : v3.ownBlock = v1.ownBlock ∨ v3.ownBlock = some w2.heap.size) : Grew w base v w3 v3 m3 :=
  (h.still g).trans ⟨o3, g3, by
    rcases h4 with e | e
    · exact .inl e
    · exact .inr ⟨_, e, Nat.le_refl _⟩⟩
/-- A block that was there, and was not the slice's, is as it was, and is not the slice's. -/
theorem Grew.apart {w w' : World} {base : Nat} {v v' : Value} {m : List Int} (h : Grew w base v w' v' m) {B : Nat} (hB : B < w.heap.size) (hv : v.ownBlock ≠ some B) : w'.heap[B]? = w.heap[B]? ∧ v'.ownBlock ≠ some B := by
  refine ⟨h.gb.block B hB (fun e => hv e.symm), fun e => ?_⟩
  rcases h.blk with hb | ⟨k, hk, hle⟩
  · exact hv (hb.symm.trans e)
  · rw [hk] at e; cases e; omega
theorem Grew.size {w w' : World} {base : Nat} {v v' : Value} {m : List Int} (h : Grew w base v w' v' m) : w.heap.size ≤ w'.heap.size := h.gb.size
theorem Grew.bsv {w w' : World} {base : Nat} {v : Value} {a : Option Addr} {n c : Nat} {m : List Int} (h : Grew w base v w' (.slice a n c) m) : BSv w' a n c m := h.own.bsv

/-! ### numbers -/
def pw (n : Int) : Int := if n < 64 then 0 else if n < 16384 then 1 else if n < 1073741824 then 2 else 3
set_option maxRecDepth 100000 in
theorem powerOf_any (n : Int) (w : World) : Calls Tryd.prog 103 #[.int .u64 n] w fun e w' => e = .returned (.int .i64 (pw n)) ∧ w' = w := by
  unfold pw
  by_cases h1 : n < 64
  · have e1 : decide (n < 64) = true := by simp [h1]
    go_enter Tryd.func103, Tryd.ntmps103
    go_wp2_with fail
    go_ret
    exact ⟨by simp, rfl⟩
  · have e1 : decide (n < 64) = false := by simp [h1]
    by_cases h2 : n < 16384
    · have e2 : decide (n < 16384) = true := by simp [h2]
      go_enter Tryd.func103, Tryd.ntmps103
      go_wp2_with fail
      go_ret
      exact ⟨by simp, rfl⟩
    · have e2 : decide (n < 16384) = false := by simp [h2]
      by_cases h3 : n < 1073741824
      · have e3 : decide (n < 1073741824) = true := by simp [h3]
        go_enter Tryd.func103, Tryd.ntmps103
        go_wp2_with fail
        go_ret
        exact ⟨by simp, rfl⟩
      · have e3 : decide (n < 1073741824) = false := by simp [h3]
        go_enter Tryd.func103, Tryd.ntmps103
        go_wp2_with fail
        go_ret
        exact ⟨by simp, rfl⟩

/-- A number's lowest bytes, the highest first. -/
def vbs (m : Int) (k : Nat) : List Int := (List.range k).map fun i => m / 2 ^ (8 * (k - 1) - 8 * i) % 256
theorem vbs_len (m : Int) (k : Nat) : (vbs m k).length = k := by simp [vbs]
theorem vbs_take (m : Int) (k j : Nat) (h : j < k) : (vbs m k).take (j + 1) = (vbs m k).take j ++ [m / 2 ^ (8 * (k - 1) - 8 * j) % 256] := by
  have hl : j < (vbs m k).length := by rw [vbs_len]; exact h
  rw [List.take_succ_eq_append_getElem hl]
  simp [vbs]
theorem orH (n : Int) (p k : Nat) (h0 : 0 ≤ n) (h1 : n < (2 ^ k : Nat)) (h2 : p * 2 ^ k + 2 ^ k ≤ 18446744073709551616) : bits .or .u64 n ((p * 2 ^ k : Nat) : Int) = n + ((p * 2 ^ k : Nat) : Int) := by
  obtain ⟨m, rfl⟩ := Int.eq_ofNat_of_zero_le h0
  have hm : m < 2 ^ k := by omega
  rw [u64_or_nat _ _ (by omega) (by omega)]
  have := Nat.shiftLeft_add_eq_or_of_lt hm p
  rw [Nat.shiftLeft_eq] at this
  rw [Nat.or_comm, ← this]
  omega
theorem var1 {n : Int} (h : n < 64) (h0 : 0 ≤ n) : varL n = vbs n 1 := by
  simp [varL, vbs, h]; omega
theorem var2 {n : Int} (h : ¬ n < 64) (h2 : n < 16384) : varL n = vbs (n + 16384) 2 := by
  simp [varL, vbs, h, h2, List.range_succ]; omega
theorem var4 {n : Int} (h : ¬ n < 64) (h2 : ¬ n < 16384) (h3 : n < 1073741824) : varL n = vbs (n + 2147483648) 4 := by
  simp [varL, vbs, h, h2, h3, List.range_succ]; omega
theorem var8 {n : Int} (h : ¬ n < 64) (h2 : ¬ n < 16384) (h3 : ¬ n < 1073741824) (h4 : V62 n) : varL n = vbs (n + 13835058055282163712) 8 := by
  unfold V62 at h4
  simp [varL, vbs, h, h2, h3, List.range_succ]; omega
end Go.Proofs.YtjnmokmchdfchaaDoor
