import Derived.Test.YtjnmokmchdfchaaDoorProg
import Derived.Test.YtjnmokmchdfchaaDoorBase
import Derived.WalkKit
import Derived.WalkSpells
import Derived.WalkLawsBesides
import Derived.Outline
import Derived.Deep.DrawnRows
import Derived.Deep.DeepCutAuto
import Derived.Deep.RegionWith
import Derived.BigRegion
namespace Go.Proofs.YtjnmokmchdfchaaDoor
open Go.RowKit
attribute [local go_sem ↓] Go.wp_at_zero Go.wp_at_succ

/-- A slice of bytes: l, from (b, o) on. -/
def BS (w : World) (b o : Nat) (l : List Int) : Prop := (∀ i, i < l.length → w.cell? ⟨b, o + i, none⟩ = some (.int .u8 (l.getD i 0))) ∧ ∀ x ∈ l, W8 x

theorem lowN_take (l : List Int) : ∀ k, k < l.length → lowN (l.take (k + 1)) = lowN (l.take k) + 256 ^ k * l.getD k 0 := by
  induction l with
  | nil => intro k h; simp at h
  | cons x r ih =>
    intro k h
    cases k with
    | zero => simp [lowN]
    | succ k =>
      simp only [List.take_succ_cons, lowN, List.getD_cons_succ]
      rw [ih k (by simpa using h), Int.mul_add, Int.pow_succ, Int.mul_comm (256 ^ k) 256, Int.mul_assoc]
      omega
theorem getD_w8 {l : List Int} (h : ∀ x ∈ l, W8 x) (k : Nat) : W8 (l.getD k 0) := by
  rw [List.getD_eq_getElem?_getD]
  rcases hk : l[k]? with _ | x
  · simp [W8]
  · exact h x (List.mem_of_getElem? hk)
theorem or_shift (a x : Int) (k : Nat) (hk : k ≤ 7) (h0 : 0 ≤ a) (h1 : a < 256 ^ k) (hx : W8 x) : bits .or .u64 a (IntKind.u64.wrap (x * 2 ^ (8 * k))) = a + 256 ^ k * x := by
  obtain ⟨x0, x1⟩ := hx
  obtain ⟨n, rfl⟩ := Int.eq_ofNat_of_zero_le h0
  obtain ⟨y, rfl⟩ := Int.eq_ofNat_of_zero_le x0
  have e0 : (256 : Nat) ^ k = 2 ^ (8 * k) := by rw [Nat.pow_mul]
  have e0' : (256 : Int) ^ k = ((2 ^ (8 * k) : Nat) : Int) := by rw [← e0]; simp
  have e1 : ((y : Int) * 2 ^ (8 * k)) = ((y * 2 ^ (8 * k) : Nat) : Int) := by simp
  have hp : 2 ^ (8 * k) ≤ 2 ^ 56 := Nat.pow_le_pow_right (by decide) (by omega)
  have hy : y * 2 ^ (8 * k) ≤ 255 * 2 ^ 56 := Nat.mul_le_mul (by omega) hp
  rw [e0'] at h1
  rw [e1, IntKind.wrap_u64, e0']
  have hn : n < 2 ^ (8 * k) := by omega
  have e2 : (((y * 2 ^ (8 * k) : Nat) : Int)) % 18446744073709551616 = ((y * 2 ^ (8 * k) : Nat) : Int) := by omega
  rw [e2, u64_or_nat _ _ (by omega) (by omega)]
  have := Nat.shiftLeft_add_eq_or_of_lt hn y
  rw [Nat.shiftLeft_eq] at this
  rw [Nat.or_comm, ← this, Int.natCast_add, Int.natCast_mul, Int.mul_comm]
  omega
theorem take_lt {l : List Int} (h : ∀ x ∈ l, W8 x) (k : Nat) (hk : k ≤ l.length) : 0 ≤ lowN (l.take k) ∧ lowN (l.take k) < 256 ^ k := by
  have := lowN_lt (l.take k) (fun x hx => h x (List.mem_of_mem_take hx))
  rwa [List.length_take, Nat.min_eq_left hk] at this
theorem pow256_le (k : Nat) (h : k ≤ 8) : (256 : Int) ^ k ≤ 18446744073709551616 := by
  have : (256 : Nat) ^ k ≤ 256 ^ 8 := Nat.pow_le_pow_right (by decide) h
  have e : (256 : Int) ^ k = ((256 ^ k : Nat) : Int) := by simp
  rw [e]; omega

theorem lowestFirst_any (b o cap : Nat) (l : List Int) (w : World) (h : BS w b o l) (hl : l.length = 8) (_hc : 8 ≤ cap) :
    Calls Tryd.prog 49 #[.slice (some ⟨b, o, none⟩) 8 cap] w fun e w' => e = .returned (.int .u64 (lowN l)) ∧ w' = w := by
  obtain ⟨hcell, hw⟩ := h
  go_enter Tryd.func49, Tryd.ntmps49
  go_wp2
  go_loop [3, 8] (fun a i => ∃ k : Nat, k ≤ 8 ∧ i = .int .i64 k ∧ a = .int .u64 (lowN (l.take k))) (fun _ i => 8 - (intOf i).toNat)
  case atStart => exact ⟨0, by omega, rfl, rfl⟩
  case round =>
    obtain ⟨k, hk, rfl, rfl⟩ := hrel
    have ht := take_lt hw k (by omega)
    have hp := pow256_le k hk
    by_cases hlt : k < 8
    · have hcell1 := hcell k (by omega)
      clear hcell
      have hx := getD_w8 hw k
      have HO := hide (or_shift _ _ k (by omega) ht.1 ht.2 hx)
      have HT := hide (lowN_take l k (by omega))
      obtain ⟨t0, t1⟩ := ht
      obtain ⟨x0, x1⟩ := hx
      generalize l.getD k 0 = x at *
      generalize lowN (l.take k) = m at *
      have hb : (8 : Int) * k ≤ 1000 := by omega
      go_wp2
      go_round
      case rel => exact ⟨k + 1, by omega, by go_num, by rw [unhide HO, ← unhide HT]⟩
      case measure => simp [intOf]; omega
    · go_wp2
      go_ret
      exact ⟨congrArg (fun z => Ending.returned (.int .u64 z)) (by rw [List.take_of_length_le (by omega)]), rfl⟩
theorem lowN_drop (l : List Int) (k : Nat) (h : k < l.length) : lowN (l.drop k) = l.getD k 0 + 256 * lowN (l.drop (k + 1)) := by
  rw [List.drop_eq_getElem_cons h, lowN, List.getD_eq_getElem?_getD, List.getElem?_eq_getElem h]; rfl
theorem drop_lt {l : List Int} (h : ∀ x ∈ l, W8 x) (k : Nat) : 0 ≤ lowN (l.drop k) ∧ lowN (l.drop k) < 256 ^ (l.length - k) := by
  have := lowN_lt (l.drop k) (fun x hx => h x (List.mem_of_mem_drop hx))
  rwa [List.length_drop] at this
theorem low_any (b o n cap : Nat) (l : List Int) (w : World) (h : BS w b o l) (hl : l.length = 8) (hn : 8 ≤ n) (_hc : n ≤ cap) (_hm : cap ≤ maxLen) :
    Calls Tryd.prog 30 #[.slice (some ⟨b, o, none⟩) n cap] w fun e w' => e = .returned (.int .u64 (lowN l)) ∧ w' = w := by
  obtain ⟨hcell, hw⟩ := h
  unfold maxLen at _hm
  go_enter Tryd.func30, Tryd.ntmps30
  go_wp2
  go_loop [3, 4] (fun a i => ∃ k : Nat, k ≤ 8 ∧ i = .int .i64 (k - 1) ∧ a = .int .u64 (lowN (l.drop k))) (fun _ i => (intOf i + 1).toNat)
  case atStart => exact ⟨8, by omega, rfl, by rw [List.drop_of_length_le (by omega)]; rfl⟩
  case round =>
    obtain ⟨k, hk, rfl, rfl⟩ := hrel
    have ht := drop_lt hw k
    have hp := pow256_le (8 - k) (by omega)
    rw [hl] at ht
    cases k with
    | succ j =>
      have hcell1 := hcell j (by omega)
      clear hcell
      have hjn : j < n := by omega
      have hj8 : j ≤ 8 := by omega
      have hx := getD_w8 hw j
      have HT := hide (lowN_drop l j (by omega))
      have hd := drop_lt hw j
      have hp' := pow256_le (8 - j) (by omega)
      rw [hl] at hd
      rw [unhide HT] at hd
      generalize l.getD j 0 = x at *
      generalize lowN (l.drop (j + 1)) = m at *
      obtain ⟨x0, x1⟩ := hx
      obtain ⟨t0, t1⟩ := ht
      obtain ⟨d0, d1⟩ := hd
      have m0 : 0 ≤ m * 256 := by omega
      have m1 : m * 256 < 18446744073709551616 := by omega
      have m2 : m * 256 + x < 18446744073709551616 := by omega
      have ej : ((j + 1 : Nat) : Int) - 1 = j := by omega
      rw [ej]
      clear ej hp hp' t1 d1 hk
      go_wp2
      go_round
      case rel => exact ⟨j, hj8, rfl, by rw [unhide HT]; exact congrArg (Value.int IntKind.u64) (by omega)⟩
      case measure => simp [intOf]
    | zero =>
      go_wp2
      go_ret
      exact ⟨congrArg (fun z => Ending.returned (.int .u64 z)) rfl, rfl⟩
end Go.Proofs.YtjnmokmchdfchaaDoor
