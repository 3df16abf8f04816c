import Derived.WalkKit
import Derived.Laws.BitsAllLaws
import Derived.Laws.AppendOwn
import Derived.OwnWalk
import Derived.Deep.Draws
import Derived.Test.YtjnmokmchdfchaaDoorProg
import Derived.WalkSpells
import Derived.WalkLawsBesides
import Derived.Outline
import Derived.Deep.DrawnRows
import Derived.Deep.DeepCutAuto
import Derived.Deep.RegionWith
import Derived.BigRegion
namespace Go.Proofs.YtjnmokmchdfchaaDoor
open Go.RowKit

theorem hide {p : Prop} (h : p) : Hid p := h
theorem unhide {p : Prop} (h : Hid p) : p := h
/-- An unsigned number of 64 bits. -/
def W64 (x : Int) : Prop := 0 ≤ x ∧ x < 18446744073709551616
/-- A byte. -/
def W8 (x : Int) : Prop := 0 ≤ x ∧ x < 256

/-! ### worlds: old blocks but one are as they were -/
theorem gb_trans {a b c : World} {r : Option Nat} (h : a.grownBy b r) (k : b.grownBy c r) : a.grownBy c r :=
  ⟨k.os.trans h.os, k.tape.trans h.tape, k.output.trans h.output, Nat.le_trans h.size k.size, fun i hi hr => (k.block i (Nat.lt_of_lt_of_le hi h.size) hr).trans (h.block i hi hr)⟩
/-- What is written behind is a block that came in between, or the same. -/
theorem gb_trans' {a b c : World} {r q : Option Nat} (h : a.grownBy b r) (k : b.grownBy c q) (hq : ∀ j, q = some j → a.heap.size ≤ j ∨ q = r) : a.grownBy c r :=
  ⟨k.os.trans h.os, k.tape.trans h.tape, k.output.trans h.output, Nat.le_trans h.size k.size, fun i hi hr => (k.block i (Nat.lt_of_lt_of_le hi h.size) (fun e => by
    rcases hq i e.symm with g | g
    · omega
    · exact hr (e.trans g))).trans (h.block i hi hr)⟩
theorem gb_drew {a b : World} {r : Option Nat} (h : a.grownBy b r) : a.grownBy b.drew r := ⟨h.os, h.tape, h.output, h.size, h.block⟩
theorem gb_drewN {a b : World} {r : Option Nat} (h : a.grownBy b r) (n : Nat) : a.grownBy (b.drewN n) r := ⟨h.os, h.tape, h.output, h.size, h.block⟩
theorem gb_alloc {a b : World} {r : Option Nat} (h : a.grownBy b r) (o : Obj) : a.grownBy (b.alloc o) r := gb_trans h (World.grownBy_alloc b o r)
theorem gb_set {a b : World} {r : Option Nat} (h : a.grownBy b r) (p : Addr) (v : Value) (e : a.heap.size ≤ p.block ∨ some p.block = r) : a.grownBy (b.setCell p v) r :=
  ⟨h.os, h.tape, h.output, by simpa [World.setCell] using h.size, fun k hk hne => by
    rw [Below.heap_setCell _ _ _ _ (by rintro rfl; rcases e with e | e <;> first | omega | exact hne e)]; exact h.block k hk hne⟩
theorem gb_none {a b : World} (h : a.grownBy b none) (r : Option Nat) : a.grownBy b r := ⟨h.os, h.tape, h.output, h.size, fun k hk _ => h.block k hk (by simp)⟩
theorem gb_below {a b : World} (h : a.grownBy b none) : Below a.heap.size a b := ⟨h.os, h.tape, h.output, h.size, fun k hk => h.block k hk (by simp)⟩
theorem gb_of_below {a b : World} (h : Below a.heap.size a b) : a.grownBy b none := ⟨h.os, h.tape, h.output, h.size, fun k hk _ => h.block k hk⟩
/-- The row that was written lies beyond what was there. -/
theorem gb_new {a b : World} {j : Nat} (h : a.grownBy b (some j)) (hj : a.heap.size ≤ j) : a.grownBy b none :=
  ⟨h.os, h.tape, h.output, h.size, fun k hk _ => h.block k hk (by intro e; cases e; omega)⟩
theorem heap_set {B o : Nat} {w : World} {cs : Array Value} {t : TypeId} (h : w.heap[B]? = some (.cells cs t (0,0))) (v : Value) : (w.setCell ⟨B, o, none⟩ v).heap[B]? = some (.cells (cs.setIfInBounds o v) t (0,0)) := by
  simp [World.setCell, Array.getElem?_modify, h]

/-! ### turning -/
def turn1 (x : Int) : Int := (x % 9223372036854775808) * 2 + x / 9223372036854775808
def rotl (x : Int) : Nat → Int
  | 0 => x
  | k + 1 => turn1 (rotl x k)
theorem turn1_w {x : Int} (h : W64 x) : W64 (turn1 x) := by unfold W64 turn1 at *; omega
theorem rotl_w {x : Int} (h : W64 x) (k : Nat) : W64 (rotl x k) := by
  induction k with
  | zero => exact h
  | succ k ih => exact turn1_w ih
theorem turn1_walk {y : Int} (h : W64 y) : IntKind.u64.wrap (IntKind.u64.wrap (y * 2) + y / 9223372036854775808) = turn1 y := by
  unfold W64 at h
  rw [IntKind.wrap_u64, IntKind.wrap_u64]
  unfold turn1
  omega
theorem rotl_step (x N M : Nat) (h : N * M = 9223372036854775808) (hx : x < 2 * N * M) (hN : 0 < N) :
    turn1 (((x % (2 * N)) * M + x / (2 * N) : Nat) : Int) = (((x % N) * (2 * M) + x / N : Nat) : Int) := by
  have hq : x / (2 * N) < M := Nat.div_lt_of_lt_mul (by rw [Nat.mul_comm 2 N, Nat.mul_assoc, Nat.mul_comm 2 M, ← Nat.mul_assoc] at *; rw [Nat.mul_assoc] at *; omega)
  have e1 : x % (2 * N) = N * (x / N % 2) + x % N := by
    rw [Nat.mul_comm 2 N, Nat.mod_mul]; omega
  have e2 : x / (2 * N) = x / N / 2 := by rw [Nat.mul_comm 2 N, Nat.div_div_eq_div_mul]
  generalize hs : x % N = s at *
  generalize hz : x / N = z at *
  have hsN : s < N := by rw [← hs]; exact Nat.mod_lt _ hN
  have hsM : s * M + z / 2 < N * M := by
    have : (s + 1) * M ≤ N * M := Nat.mul_le_mul_right _ hsN
    rw [Nat.add_mul] at this; rw [e2] at hq; omega
  have e3 : (x % (2 * N)) * M + x / (2 * N) = 9223372036854775808 * (z % 2) + (s * M + z / 2) := by
    rw [e1, e2, Nat.add_mul, Nat.mul_right_comm, h]; omega
  rw [e3]
  rw [h] at hsM
  have e4 : s * (2 * M) = 2 * (s * M) := by rw [Nat.mul_left_comm]
  rw [e4]
  generalize s * M = p at *
  unfold turn1
  omega
theorem rotl_eq (x : Nat) (hx : x < 18446744073709551616) : ∀ k, k ≤ 63 → rotl x k = ((x % 2 ^ (64 - k)) * 2 ^ k + x / 2 ^ (64 - k) : Nat)
  | 0, _ => by
    show (x : Int) = _
    have : x % 2 ^ (64 - 0) = x := Nat.mod_eq_of_lt (by simpa using hx)
    rw [this]
    have : x / 2 ^ (64 - 0) = 0 := Nat.div_eq_of_lt (by simpa using hx)
    rw [this]; simp
  | k + 1, h => by
    show turn1 (rotl x k) = _
    rw [rotl_eq x hx k (by omega)]
    have e1 : 2 ^ (64 - k) = 2 * 2 ^ (64 - (k + 1)) := by rw [show 64 - k = (64 - (k + 1)) + 1 by omega, Nat.pow_succ, Nat.mul_comm]
    have e2 : 2 ^ (64 - (k + 1)) * 2 ^ k = 9223372036854775808 := by rw [← Nat.pow_add, show 64 - (k + 1) + k = 63 by omega]
    have e3 : 2 ^ (k + 1) = 2 * 2 ^ k := by rw [Nat.pow_succ, Nat.mul_comm]
    rw [e1, e3]
    exact rotl_step x _ _ e2 (by rw [Nat.mul_assoc, e2]; omega) (Nat.two_pow_pos _)
/-- 'x<<k | x>>(64-k)'. -/
theorem rotl_walk {x : Int} (h : W64 x) (k : Nat) (hk : k ≤ 63) (h0 : 0 < k) : bits .or .u64 (IntKind.u64.wrap (x * (2 ^ k : Nat))) (x / (2 ^ (64 - k) : Nat)) = rotl x k := by
  obtain ⟨h1, h2⟩ := h
  obtain ⟨n, rfl⟩ := Int.eq_ofNat_of_zero_le h1
  have hn : n < 18446744073709551616 := by omega
  rw [rotl_eq n hn k hk, IntKind.wrap_u64]
  have hm : 2 ^ (64 - k) * 2 ^ k = 18446744073709551616 := by rw [← Nat.pow_add, show 64 - k + k = 64 by omega]
  have e1 : ((n : Int) * (2 ^ k : Nat)) % 18446744073709551616 = (((n % 2 ^ (64 - k)) * 2 ^ k : Nat) : Int) := by
    have : n * 2 ^ k % 18446744073709551616 = (n % 2 ^ (64 - k)) * 2 ^ k := by rw [← hm, Nat.mul_mod_mul_right]
    rw [← this, Int.natCast_emod, Int.natCast_mul]; rfl
  have e2 : (n : Int) / (2 ^ (64 - k) : Nat) = ((n / 2 ^ (64 - k) : Nat) : Int) := by rw [Int.natCast_ediv]
  rw [e1, e2, u64_or_nat]
  · congr 1
    have hlt : n / 2 ^ (64 - k) < 2 ^ k := Nat.div_lt_of_lt_mul (by rw [hm]; exact hn)
    have := Nat.shiftLeft_add_eq_or_of_lt hlt (n % 2 ^ (64 - k))
    rw [Nat.shiftLeft_eq] at this
    omega
  · have : n % 2 ^ (64 - k) < 2 ^ (64 - k) := Nat.mod_lt _ (Nat.two_pow_pos _)
    rw [← hm]; exact Nat.mul_lt_mul_of_pos_right this (Nat.two_pow_pos _)
  · exact Nat.lt_of_le_of_lt (Nat.div_le_self _ _) hn

def xo (a b : Int) : Int := bits .xor .u64 a b
def ad (a b : Int) : Int := IntKind.u64.wrap (a + b)
theorem ad_w (a b : Int) : W64 (ad a b) := by unfold ad W64; rw [IntKind.wrap_u64]; omega
theorem xo_w {a b : Int} (ha : W64 a) (hb : W64 b) : W64 (xo a b) := by
  unfold xo; rw [u64_xor a b ha.1 ha.2 hb.1 hb.2]
  have := Nat.xor_lt_two_pow (n := 64) (x := a.toNat) (y := b.toNat) (by have := ha.2; have := ha.1; omega) (by have := hb.2; have := hb.1; omega)
  unfold W64; omega

/-! ### the hash -/
structure S4 where
  a : Int
  b : Int
  c : Int
  d : Int
def S4.ok (s : S4) : Prop := W64 s.a ∧ W64 s.b ∧ W64 s.c ∧ W64 s.d
def rnd (s : S4) : S4 :=
  let v0 := ad s.a s.b
  let v1 := xo (rotl s.b 13) v0
  let v0' := rotl v0 32
  let v2 := ad s.c s.d
  let v3 := xo (rotl s.d 16) v2
  let v0'' := ad v0' v3
  let v3' := xo (rotl v3 21) v0''
  let v2' := ad v2 v1
  let v1' := xo (rotl v1 17) v2'
  ⟨v0'', v1', rotl v2' 32, v3'⟩
theorem rnd_ok {s : S4} (h : s.ok) : (rnd s).ok := by
  obtain ⟨h1, h2, h3, h4⟩ := h
  have v1 := xo_w (rotl_w h2 13) (ad_w s.a s.b)
  have v3 := xo_w (rotl_w h4 16) (ad_w s.c s.d)
  exact ⟨ad_w _ _, xo_w (rotl_w v1 17) (ad_w _ _), rotl_w (ad_w _ _) 32, xo_w (rotl_w v3 21) (ad_w _ _)⟩
def mixS (s : S4) (m : Int) : S4 :=
  let t := rnd (rnd ⟨s.a, s.b, s.c, xo s.d m⟩)
  ⟨xo t.a m, t.b, t.c, t.d⟩
theorem mixS_ok {s : S4} (h : s.ok) {m : Int} (hm : W64 m) : (mixS s m).ok := by
  obtain ⟨h1, h2, h3, h4⟩ := h
  have t := rnd_ok (rnd_ok (s := ⟨s.a, s.b, s.c, xo s.d m⟩) ⟨h1, h2, h3, xo_w h4 hm⟩)
  exact ⟨xo_w t.1 hm, t.2.1, t.2.2.1, t.2.2.2⟩
def endS (s : S4) : Int :=
  let t := rnd (rnd (rnd (rnd ⟨s.a, s.b, xo s.c 255, s.d⟩)))
  xo (xo (xo t.a t.b) t.c) t.d
theorem endS_w {s : S4} (h : s.ok) : W64 (endS s) := by
  obtain ⟨h1, h2, h3, h4⟩ := h
  have t := rnd_ok (rnd_ok (rnd_ok (rnd_ok (s := ⟨s.a, s.b, xo s.c 255, s.d⟩) ⟨h1, h2, xo_w h3 (by unfold W64; omega), h4⟩)))
  exact xo_w (xo_w (xo_w t.1 t.2.1) t.2.2.1) t.2.2.2
/-- Bytes as a number, the lowest first. -/
def lowN : List Int → Int
  | [] => 0
  | x :: r => x + 256 * lowN r
theorem lowN_lt : ∀ (l : List Int), (∀ x ∈ l, W8 x) → 0 ≤ lowN l ∧ lowN l < 256 ^ l.length
  | [], _ => by simp [lowN]
  | x :: r, h => by
    have := lowN_lt r (fun y hy => h y (List.mem_cons_of_mem _ hy))
    have hx := h x (List.mem_cons_self ..)
    unfold W8 at hx
    simp only [lowN, List.length_cons, Int.pow_succ]
    omega
def beginS (key : List Int) : S4 :=
  ⟨xo (lowN (key.take 8)) 8317987319222330741, xo (lowN (key.drop 8)) 7237128888997146477, xo (lowN (key.take 8)) 7816392313619706465, xo (lowN (key.drop 8)) 8387220255154660723⟩
/-- The bytes filled up to a multiple of eight. -/
def padTo (l : List Int) (n : Int) : List Int := l ++ List.replicate (7 - l.length % 8) 0 ++ [n % 256]
def mixAll (s : S4) : Nat → List Int → S4
  | 0, _ => s
  | k + 1, l => mixAll (mixS s (lowN (l.take 8))) k (l.drop 8)
def hashN (key l : List Int) : Int := endS (mixAll (beginS key) (l.length / 8 + 1) (padTo l l.length))
end Go.Proofs.YtjnmokmchdfchaaDoor
namespace Go.Proofs.YtjnmokmchdfchaaDoor
open Go.RowKit
attribute [local go_sem ↓] Go.wp_at_zero Go.wp_at_succ

/-- A slice of bytes: l, from (b, o) on. -/
def BS (w : World) (b o : Nat) (l : List Int) : Prop := (∀ i, i < l.length → w.cell? ⟨b, o + i, none⟩ = some (.int .u8 (l.getD i 0))) ∧ ∀ x ∈ l, W8 x

theorem lowN_take (l : List Int) : ∀ k, k < l.length → lowN (l.take (k + 1)) = lowN (l.take k) + 256 ^ k * l.getD k 0 := by
  induction l with
  | nil => intro k h; simp at h
  | cons x r ih =>
    intro k h
    cases k with
    | zero => simp [lowN]
    | succ k =>
      simp only [List.take_succ_cons, lowN, List.getD_cons_succ]
      rw [ih k (by simpa using h), Int.mul_add, Int.pow_succ, Int.mul_comm (256 ^ k) 256, Int.mul_assoc]
      omega
theorem getD_w8 {l : List Int} (h : ∀ x ∈ l, W8 x) (k : Nat) : W8 (l.getD k 0) := by
  rw [List.getD_eq_getElem?_getD]
  rcases hk : l[k]? with _ | x
  · simp [W8]
  · exact h x (List.mem_of_getElem? hk)
theorem or_shift (a x : Int) (k : Nat) (hk : k ≤ 7) (h0 : 0 ≤ a) (h1 : a < 256 ^ k) (hx : W8 x) : bits .or .u64 a (IntKind.u64.wrap (x * 2 ^ (8 * k))) = a + 256 ^ k * x := by
  obtain ⟨x0, x1⟩ := hx
  obtain ⟨n, rfl⟩ := Int.eq_ofNat_of_zero_le h0
  obtain ⟨y, rfl⟩ := Int.eq_ofNat_of_zero_le x0
  have e0 : (256 : Nat) ^ k = 2 ^ (8 * k) := by rw [Nat.pow_mul]
  have e0' : (256 : Int) ^ k = ((2 ^ (8 * k) : Nat) : Int) := by rw [← e0]; simp
  have e1 : ((y : Int) * 2 ^ (8 * k)) = ((y * 2 ^ (8 * k) : Nat) : Int) := by simp
  have hp : 2 ^ (8 * k) ≤ 2 ^ 56 := Nat.pow_le_pow_right (by decide) (by omega)
  have hy : y * 2 ^ (8 * k) ≤ 255 * 2 ^ 56 := Nat.mul_le_mul (by omega) hp
  rw [e0'] at h1
  rw [e1, IntKind.wrap_u64, e0']
  have hn : n < 2 ^ (8 * k) := by omega
  have e2 : (((y * 2 ^ (8 * k) : Nat) : Int)) % 18446744073709551616 = ((y * 2 ^ (8 * k) : Nat) : Int) := by omega
  rw [e2, u64_or_nat _ _ (by omega) (by omega)]
  have := Nat.shiftLeft_add_eq_or_of_lt hn y
  rw [Nat.shiftLeft_eq] at this
  rw [Nat.or_comm, ← this, Int.natCast_add, Int.natCast_mul, Int.mul_comm]
  omega
theorem take_lt {l : List Int} (h : ∀ x ∈ l, W8 x) (k : Nat) (hk : k ≤ l.length) : 0 ≤ lowN (l.take k) ∧ lowN (l.take k) < 256 ^ k := by
  have := lowN_lt (l.take k) (fun x hx => h x (List.mem_of_mem_take hx))
  rwa [List.length_take, Nat.min_eq_left hk] at this
theorem pow256_le (k : Nat) (h : k ≤ 8) : (256 : Int) ^ k ≤ 18446744073709551616 := by
  have : (256 : Nat) ^ k ≤ 256 ^ 8 := Nat.pow_le_pow_right (by decide) h
  have e : (256 : Int) ^ k = ((256 ^ k : Nat) : Int) := by simp
  rw [e]; omega

theorem lowestFirst_any (b o cap : Nat) (l : List Int) (w : World) (h : BS w b o l) (hl : l.length = 8) (_hc : 8 ≤ cap) :
    Calls Tryd.prog 49 #[.slice (some ⟨b, o, none⟩) 8 cap] w fun e w' => e = .returned (.int .u64 (lowN l)) ∧ w' = w := by
  obtain ⟨hcell, hw⟩ := h
  go_enter Tryd.func49, Tryd.ntmps49
  go_wp2
  go_loop [3, 8] (fun a i => ∃ k : Nat, k ≤ 8 ∧ i = .int .i64 k ∧ a = .int .u64 (lowN (l.take k))) (fun _ i => 8 - (intOf i).toNat)
  case atStart => exact ⟨0, by omega, rfl, rfl⟩
  case round =>
    obtain ⟨k, hk, rfl, rfl⟩ := hrel
    have ht := take_lt hw k (by omega)
    have hp := pow256_le k hk
    by_cases hlt : k < 8
    · have hcell1 := hcell k (by omega)
      clear hcell
      have hx := getD_w8 hw k
      have HO := hide (or_shift _ _ k (by omega) ht.1 ht.2 hx)
      have HT := hide (lowN_take l k (by omega))
      obtain ⟨t0, t1⟩ := ht
      obtain ⟨x0, x1⟩ := hx
      generalize l.getD k 0 = x at *
      generalize lowN (l.take k) = m at *
      have hb : (8 : Int) * k ≤ 1000 := by omega
      go_wp2
      go_round
      case rel => exact ⟨k + 1, by omega, by go_num, by rw [unhide HO, ← unhide HT]⟩
      case measure => simp [intOf]; omega
    · go_wp2
      go_ret
      exact ⟨congrArg (fun z => Ending.returned (.int .u64 z)) (by rw [List.take_of_length_le (by omega)]), rfl⟩
theorem lowN_drop (l : List Int) (k : Nat) (h : k < l.length) : lowN (l.drop k) = l.getD k 0 + 256 * lowN (l.drop (k + 1)) := by
  rw [List.drop_eq_getElem_cons h, lowN, List.getD_eq_getElem?_getD, List.getElem?_eq_getElem h]; rfl
theorem drop_lt {l : List Int} (h : ∀ x ∈ l, W8 x) (k : Nat) : 0 ≤ lowN (l.drop k) ∧ lowN (l.drop k) < 256 ^ (l.length - k) := by
  have := lowN_lt (l.drop k) (fun x hx => h x (List.mem_of_mem_drop hx))
  rwa [List.length_drop] at this
theorem low_any (b o n cap : Nat) (l : List Int) (w : World) (h : BS w b o l) (hl : l.length = 8) (hn : 8 ≤ n) (_hc : n ≤ cap) (_hm : cap ≤ maxLen) :
    Calls Tryd.prog 30 #[.slice (some ⟨b, o, none⟩) n cap] w fun e w' => e = .returned (.int .u64 (lowN l)) ∧ w' = w := by
  obtain ⟨hcell, hw⟩ := h
  unfold maxLen at _hm
  go_enter Tryd.func30, Tryd.ntmps30
  go_wp2
  go_loop [3, 4] (fun a i => ∃ k : Nat, k ≤ 8 ∧ i = .int .i64 (k - 1) ∧ a = .int .u64 (lowN (l.drop k))) (fun _ i => (intOf i + 1).toNat)
  case atStart => exact ⟨8, by omega, rfl, by rw [List.drop_of_length_le (by omega)]; rfl⟩
  case round =>
    obtain ⟨k, hk, rfl, rfl⟩ := hrel
    have ht := drop_lt hw k
    have hp := pow256_le (8 - k) (by omega)
    rw [hl] at ht
    cases k with
    | succ j =>
      have hcell1 := hcell j (by omega)
      clear hcell
      have hjn : j < n := by omega
      have hj8 : j ≤ 8 := by omega
      have hx := getD_w8 hw j
      have HT := hide (lowN_drop l j (by omega))
      have hd := drop_lt hw j
      have hp' := pow256_le (8 - j) (by omega)
      rw [hl] at hd
      rw [unhide HT] at hd
      generalize l.getD j 0 = x at *
      generalize lowN (l.drop (j + 1)) = m at *
      obtain ⟨x0, x1⟩ := hx
      obtain ⟨t0, t1⟩ := ht
      obtain ⟨d0, d1⟩ := hd
      have m0 : 0 ≤ m * 256 := by omega
      have m1 : m * 256 < 18446744073709551616 := by omega
      have m2 : m * 256 + x < 18446744073709551616 := by omega
      have ej : ((j + 1 : Nat) : Int) - 1 = j := by omega
      rw [ej]
      clear ej hp hp' t1 d1 hk
      go_wp2
      go_round
      case rel => exact ⟨j, hj8, rfl, by rw [unhide HT]; exact congrArg (Value.int IntKind.u64) (by omega)⟩
      case measure => simp [intOf]
    | zero =>
      go_wp2
      go_ret
      exact ⟨congrArg (fun z => Ending.returned (.int .u64 z)) rfl, rfl⟩
end Go.Proofs.YtjnmokmchdfchaaDoor
