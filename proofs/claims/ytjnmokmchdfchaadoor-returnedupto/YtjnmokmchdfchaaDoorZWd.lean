import Derived.Test.YtjnmokmchdfchaaDoorZRefHash2
import Derived.Outline
import Derived.Test.YtjnmokmchdfchaaDoorZBytes
import Derived.Deep.RegionLaw
namespace Go.Proofs.YtjnmokmchdfchaaDoor
open Go.RowKit

/-- A number as eight bytes, the highest first. -/
def hb (n : Int) (i : Nat) : Int := n / 2 ^ (56 - 8 * i) % 256
def highB (n : Int) : List Int := [hb n 0, hb n 1, hb n 2, hb n 3, hb n 4, hb n 5, hb n 6, hb n 7]
theorem hb_w (n : Int) (i : Nat) : W8 (hb n i) := by unfold hb W8; omega
theorem highB_w (n : Int) : ∀ x ∈ highB n, W8 x := by
  intro x hx
  simp only [highB, List.mem_cons, List.not_mem_nil, or_false] at hx
  rcases hx with rfl | rfl | rfl | rfl | rfl | rfl | rfl | rfl <;> exact hb_w _ _
theorem highB_len (n : Int) : (highB n).length = 8 := rfl
theorem highB_take (n : Int) (j : Nat) (h : j < 8) : (highB n).take (j + 1) = (highB n).take j ++ [hb n j] := by
  match j, h with
  | 0, _ | 1, _ | 2, _ | 3, _ | 4, _ | 5, _ | 6, _ | 7, _ => rfl

set_option maxRecDepth 100000 in
theorem high_any (base : Nat) (a : Option Addr) (c : Nat) (l : List Int) (n : Int) (w : World) (ho : OwnB w base (.slice a l.length c) l) (hn : W64 n) (hbase : base ≤ w.heap.size) (hl : l.length ≤ 10000000) :
    Calls Tryd.prog 33 #[.slice a l.length c, .int .u64 n] w fun e w' =>
      ∃ a' c', e = .returned (.slice a' (l.length + 8) c') ∧ OwnB w' base (.slice a' (l.length + 8) c') (l ++ highB n) ∧ Below base w w' := by
  obtain ⟨n0, n1⟩ := hn
  go_enter Tryd.func33, Tryd.ntmps33
  go_wp2_with fail
  go_loopw [0, 5] (fun v i wr => ∃ (j : Nat) (a' : Option Addr) (c' : Nat), j ≤ 8 ∧ i = .int .i64 (56 - 8 * (j : Int)) ∧ v = .slice a' (l.length + j) c' ∧ OwnB wr base v (l ++ (highB n).take j) ∧ Below base w wr) (fun _ i _ => (intOf i + 8).toNat)
  case atStart => exact ⟨0, a, c, by omega, rfl, rfl, by simpa using ho, Below.refl _ _⟩
  case round =>
    obtain ⟨j, a', c', hj, rfl, rfl, o1, b1⟩ := hrel
    by_cases hlt : j < 8
    · have hd : hb n j = n / 2 ^ (56 - 8 * j) % 256 := rfl
      have hs := b1.size
      have bz := one_new wr _ (hb_w n j)
      have o2 : OwnB (wr.alloc (.cells #[.int .u8 (hb n j)] 5)) base (.slice a' (l.length + j) c') (l ++ (highB n).take j) := o1.gb0 (World.grownBy_alloc _ _ _)
      have ht := hide (highB_take n j hlt)
      rw [hd] at bz o2
      clear hd
      replace bz := hide bz
      replace o2 := hide o2
      have hlen : (l ++ (highB n).take j).length = l.length + j := by simp [highB_len]; omega
      replace hlen := hide hlen
      go_wp2_with (at_builtin; refine wpList_appendB (by rfl) _ _ (by rfl) base _ (l ++ (highB n).take j) (by rfl) (unhide o2) _ _ _ [n / 2 ^ (56 - 8 * j) % 256] (by rfl) (unhide bz) ?_ ?_ ?_; (rw [unhide hlen]; simp; omega); (simp; omega); rw [unhide hlen]; intro a3 c3 w3 o3 g3 _)
      go_roundw
      case rel =>
        refine ⟨j + 1, a3, c3, by omega, by simp; omega, rfl, ?_, ?_⟩
        · rw [unhide ht, ← List.append_assoc]; exact o3
        · exact below_append (b1.alloc (by omega) _) (unhide o2) g3 (by simp; omega) (Nat.le_refl _)
      case measure => simp [intOf]; omega
    · obtain rfl : j = 8 := by omega
      go_wp2_with fail
      go_ret
      exact ⟨a', c', rfl, o1, b1⟩
/-- A slice literal of bytes. -/
theorem own_new (w : World) (l : List Int) (hl : ∀ x ∈ l, W8 x) (hn : l.length ≤ 1000) (base : Nat) (hb : base ≤ w.heap.size) : OwnB (w.alloc (.cells (bv l).toArray 5)) base (.slice (some ⟨w.heap.size, 0, none⟩) l.length l.length) l := by
  refine ⟨hl, by simp [bv], .inr ⟨w.heap.size, l.length, (bv l).toArray, rfl, hb, heap_alloc_new w _, Nat.le_refl _, by simp [maxLen]; omega, by simp [bv], ?_⟩⟩
  exact List.take_of_length_le (by simp [bv])

theorem bytes8 (n : Int) : (bv (highB n)).toArray = #[.int .u8 (hb n 0), .int .u8 (hb n 1), .int .u8 (hb n 2), .int .u8 (hb n 3), .int .u8 (hb n 4), .int .u8 (hb n 5), .int .u8 (hb n 6), .int .u8 (hb n 7)] := rfl
def zero8 : Array Value := #[.int .u8 0, .int .u8 0, .int .u8 0, .int .u8 0, .int .u8 0, .int .u8 0, .int .u8 0, .int .u8 0]
set_option maxRecDepth 100000 in
set_option maxHeartbeats 1000000 in
theorem wordOf_any (n : Int) (w : World) (hn : W64 n) : Calls Tryd.prog 68 #[.int .u64 n] w fun e w' => e = .returned (.agg (bv (highB n)).toArray) ∧ w.grownBy w' none := by
  obtain ⟨n0, n1⟩ := hn
  rw [bytes8]
  go_enter Tryd.func68, Tryd.ntmps68
  go_wp2_with fail
  refine wp_loop_rounds 9 ?_
  iterate 8 (rw [rounds_succ]; go_wp2_with fail)
  rw [rounds_succ]
  go_wp2_with fail
  refine bodyPost_ret (v := .agg #[.int .u8 (hb n 0), .int .u8 (hb n 1), .int .u8 (hb n 2), .int .u8 (hb n 3), .int .u8 (hb n 4), .int .u8 (hb n 5), .int .u8 (hb n 6), .int .u8 (hb n 7)]) ?_ rfl ⟨rfl, ?_⟩
  · simp [results, Tryd.results68, go_sem, hb]; omega
  · exact gb_alloc (gb_alloc (World.grownBy.refl _ _) _) _

theorem cells8 {w : World} {b : Nat} {t : TypeId} {v0 v1 v2 v3 v4 v5 v6 v7 : Value} (h : w.heap[b]? = some (.cells #[v0, v1, v2, v3, v4, v5, v6, v7] t (0, 0))) : (w.cell? ⟨b, 0, none⟩ = some v0 ∧ w.cell? ⟨b, 1, none⟩ = some v1 ∧ w.cell? ⟨b, 2, none⟩ = some v2 ∧ w.cell? ⟨b, 3, none⟩ = some v3 ∧ w.cell? ⟨b, 4, none⟩ = some v4 ∧ w.cell? ⟨b, 5, none⟩ = some v5 ∧ w.cell? ⟨b, 6, none⟩ = some v6 ∧ w.cell? ⟨b, 7, none⟩ = some v7) ∧ ∀ o, w.frozen? ⟨b, o, none⟩ = false := by
  simp [World.cell?, World.frozen?, h]
theorem list8 {l : List Int} (h : l.length = 8) : ∃ x0 x1 x2 x3 x4 x5 x6 x7, l = [x0, x1, x2, x3, x4, x5, x6, x7] := by
  match l, h with
  | [x0, x1, x2, x3, x4, x5, x6, x7], _ => exact ⟨x0, x1, x2, x3, x4, x5, x6, x7, rfl⟩
theorem wAt_zero {w w6 : World} (g6 : ((w.alloc (.cells #[.int .u8 0, .int .u8 0, .int .u8 0, .int .u8 0, .int .u8 0, .int .u8 0, .int .u8 0, .int .u8 0] 117)).alloc (.cells #[.int .u8 0, .int .u8 0, .int .u8 0, .int .u8 0, .int .u8 0, .int .u8 0, .int .u8 0, .int .u8 0] 117)).grownBy w6 (some (w.heap.size + 1))) :
    w6.heap[w.heap.size]? = some (.cells #[.int .u8 0, .int .u8 0, .int .u8 0, .int .u8 0, .int .u8 0, .int .u8 0, .int .u8 0, .int .u8 0] 117 (0, 0)) := by
  refine (g6.block w.heap.size (by simp; omega) (by simp)).trans ?_
  rw [Below.heap_alloc _ _ _ (by simp)]; exact heap_alloc_new _ _
set_option maxRecDepth 100000 in
theorem wordAt_any (a : Option Addr) (n c : Nat) (l : List Int) (w : World) (hb : BSv w a n c l) (hl : 8 ≤ l.length) : Calls Tryd.prog 72 #[.slice a n c] w fun e w' => e = .returned (.agg (bv (l.take 8)).toArray) ∧ w.grownBy w' none := by
  have hb1 := hide (hb.gb0 (gb_alloc (gb_alloc (World.grownBy.refl w none) (.cells zero8 117)) (.cells zero8 117)))
  have hz := heap_alloc_new (w.alloc (.cells zero8 117)) (.cells zero8 117)
  rw [World.size_alloc] at hz
  have hz' : ((w.alloc (.cells zero8 117)).alloc (.cells zero8 117)).heap[w.heap.size + 1]? = some (.cells (bv [0,0,0,0,0,0,0,0]).toArray 117 (0, 0)) := hz
  replace hz' := hide hz'
  clear hz
  have h8 : (l.take 8).length = 8 := by simp; omega
  obtain ⟨x0, x1, x2, x3, x4, x5, x6, x7, hx⟩ := list8 h8
  rw [hx]
  clear h8
  replace hx := hide hx
  go_enter Tryd.func72, Tryd.ntmps72
  go_wp2_with (refine wpList_copyB _ _ (by rfl) (by rfl) (w.heap.size + 1) 0 8 8 (by rfl) _ _ _ (by rfl) l (unhide hb1) [0,0,0,0,0,0,0,0] _ (unhide hz') ?_ ?_; (rw [unhide hx]; simp); (rw [unhide hx]; intro w6 hl6 g6; replace hl6 : w6.heap[w.heap.size + 1]? = some (.cells #[.int .u8 x0, .int .u8 x1, .int .u8 x2, .int .u8 x3, .int .u8 x4, .int .u8 x5, .int .u8 x6, .int .u8 x7] 117 (0, 0)) := hl6; replace hl6 := cells8 hl6; have hz6 := cells8 (wAt_zero g6); obtain ⟨⟨k0, k1, k2, k3, k4, k5, k6, k7⟩, kf⟩ := hl6; obtain ⟨⟨z0, z1, z2, z3, z4, z5, z6, z7⟩, zf⟩ := hz6))
  refine bodyPost_ret (v := .agg #[.int .u8 x0, .int .u8 x1, .int .u8 x2, .int .u8 x3, .int .u8 x4, .int .u8 x5, .int .u8 x6, .int .u8 x7]) ?_ rfl ⟨rfl, ?_⟩
  · simp [results, Tryd.results72, go_sem, *]
  · have g0 : w.grownBy w6 none := gb_trans' (gb_alloc (gb_alloc (World.grownBy.refl w none) _) _) g6 (fun j e => by cases e; left; omega)
    repeat (refine gb_set ?_ _ _ (.inl (Nat.le_refl _)))
    exact g0

/-- Bytes as a number, the highest first. -/
def beN (l : List Int) : Int := l.foldl (fun n x => n * 256 + x) 0
theorem beN_snoc (l : List Int) (x : Int) : beN (l ++ [x]) = beN l * 256 + x := by simp [beN]
theorem beN_take (l : List Int) (j : Nat) (h : j < l.length) : beN (l.take (j + 1)) = beN (l.take j) * 256 + l.getD j 0 := by
  rw [List.take_succ_eq_append_getElem h, beN_snoc, List.getD_eq_getElem?_getD, List.getElem?_eq_getElem h]; rfl
theorem beN_lt (l : List Int) (h : ∀ x ∈ l, W8 x) : ∀ j, j ≤ l.length → 0 ≤ beN (l.take j) ∧ beN (l.take j) < 256 ^ j
  | 0, _ => by simp [beN]
  | j + 1, hj => by
    have ih := beN_lt l h j (by omega)
    have hx := getD_w8 h j
    unfold W8 at hx
    rw [beN_take l j (by omega), Int.pow_succ]
    generalize (256 : Int) ^ j = p at *
    omega
theorem or8 (n x : Int) (h0 : 0 ≤ n) (h1 : n < 72057594037927936) (hx : W8 x) : bits .or .u64 (n * 256) x = n * 256 + x := by
  obtain ⟨x0, x1⟩ := hx
  obtain ⟨m, rfl⟩ := Int.eq_ofNat_of_zero_le h0
  obtain ⟨y, rfl⟩ := Int.eq_ofNat_of_zero_le x0
  have e : ((m : Int) * 256) = ((m * 256 : Nat) : Int) := by omega
  rw [e, u64_or_nat _ _ (by omega) (by omega)]
  have := Nat.shiftLeft_add_eq_or_of_lt (i := 8) (b := y) (by omega) m
  rw [Nat.shiftLeft_eq] at this
  rw [show m * 256 = m * 2 ^ 8 from rfl, ← this]
  omega
theorem idx8_0 (x0 x1 x2 x3 x4 x5 x6 x7 : Int) (w : World) : (Instr.index 117 (.agg #[.int .u8 x0, .int .u8 x1, .int .u8 x2, .int .u8 x3, .int .u8 x4, .int .u8 x5, .int .u8 x6, .int .u8 x7]) (.int .i64 0)).run Tryd.prog w = .ok (.int .u8 x0) w := by kernel_rfl
theorem idx8_1 (x0 x1 x2 x3 x4 x5 x6 x7 : Int) (w : World) : (Instr.index 117 (.agg #[.int .u8 x0, .int .u8 x1, .int .u8 x2, .int .u8 x3, .int .u8 x4, .int .u8 x5, .int .u8 x6, .int .u8 x7]) (.int .i64 1)).run Tryd.prog w = .ok (.int .u8 x1) w := by kernel_rfl
theorem idx8_2 (x0 x1 x2 x3 x4 x5 x6 x7 : Int) (w : World) : (Instr.index 117 (.agg #[.int .u8 x0, .int .u8 x1, .int .u8 x2, .int .u8 x3, .int .u8 x4, .int .u8 x5, .int .u8 x6, .int .u8 x7]) (.int .i64 2)).run Tryd.prog w = .ok (.int .u8 x2) w := by kernel_rfl
theorem idx8_3 (x0 x1 x2 x3 x4 x5 x6 x7 : Int) (w : World) : (Instr.index 117 (.agg #[.int .u8 x0, .int .u8 x1, .int .u8 x2, .int .u8 x3, .int .u8 x4, .int .u8 x5, .int .u8 x6, .int .u8 x7]) (.int .i64 3)).run Tryd.prog w = .ok (.int .u8 x3) w := by kernel_rfl
theorem idx8_4 (x0 x1 x2 x3 x4 x5 x6 x7 : Int) (w : World) : (Instr.index 117 (.agg #[.int .u8 x0, .int .u8 x1, .int .u8 x2, .int .u8 x3, .int .u8 x4, .int .u8 x5, .int .u8 x6, .int .u8 x7]) (.int .i64 4)).run Tryd.prog w = .ok (.int .u8 x4) w := by kernel_rfl
theorem idx8_5 (x0 x1 x2 x3 x4 x5 x6 x7 : Int) (w : World) : (Instr.index 117 (.agg #[.int .u8 x0, .int .u8 x1, .int .u8 x2, .int .u8 x3, .int .u8 x4, .int .u8 x5, .int .u8 x6, .int .u8 x7]) (.int .i64 5)).run Tryd.prog w = .ok (.int .u8 x5) w := by kernel_rfl
theorem idx8_6 (x0 x1 x2 x3 x4 x5 x6 x7 : Int) (w : World) : (Instr.index 117 (.agg #[.int .u8 x0, .int .u8 x1, .int .u8 x2, .int .u8 x3, .int .u8 x4, .int .u8 x5, .int .u8 x6, .int .u8 x7]) (.int .i64 6)).run Tryd.prog w = .ok (.int .u8 x6) w := by kernel_rfl
theorem idx8_7 (x0 x1 x2 x3 x4 x5 x6 x7 : Int) (w : World) : (Instr.index 117 (.agg #[.int .u8 x0, .int .u8 x1, .int .u8 x2, .int .u8 x3, .int .u8 x4, .int .u8 x5, .int .u8 x6, .int .u8 x7]) (.int .i64 7)).run Tryd.prog w = .ok (.int .u8 x7) w := by kernel_rfl
theorem idx8 (x0 x1 x2 x3 x4 x5 x6 x7 : Int) (j : Nat) (hj : j < 8) (w : World) : (Instr.index 117 (.agg #[.int .u8 x0, .int .u8 x1, .int .u8 x2, .int .u8 x3, .int .u8 x4, .int .u8 x5, .int .u8 x6, .int .u8 x7]) (.int .i64 j)).run Tryd.prog w = .ok (.int .u8 ([x0, x1, x2, x3, x4, x5, x6, x7].getD j 0)) w := by
  have : j = 0 ∨ j = 1 ∨ j = 2 ∨ j = 3 ∨ j = 4 ∨ j = 5 ∨ j = 6 ∨ j = 7 := by omega
  rcases this with rfl | rfl | rfl | rfl | rfl | rfl | rfl | rfl
  · exact idx8_0 _ _ _ _ _ _ _ _ w
  · exact idx8_1 _ _ _ _ _ _ _ _ w
  · exact idx8_2 _ _ _ _ _ _ _ _ w
  · exact idx8_3 _ _ _ _ _ _ _ _ w
  · exact idx8_4 _ _ _ _ _ _ _ _ w
  · exact idx8_5 _ _ _ _ _ _ _ _ w
  · exact idx8_6 _ _ _ _ _ _ _ _ w
  · exact idx8_7 _ _ _ _ _ _ _ _ w
set_option maxRecDepth 100000 in
theorem number_any (l : List Int) (w : World) (h8 : l.length = 8) (hw : ∀ x ∈ l, W8 x) : Calls Tryd.prog 73 #[.agg (bv l).toArray] w fun e w' => e = .returned (.int .u64 (beN l)) ∧ w.grownBy w' none := by
  have hi : ∀ (j : Nat) (w : World), j < 8 → (Instr.index 117 (.agg (bv l).toArray) (.int .i64 j)).run Tryd.prog w = .ok (.int .u8 (l.getD j 0)) w := by
    obtain ⟨x0, x1, x2, x3, x4, x5, x6, x7, rfl⟩ := list8 h8
    exact fun j w hj => idx8 _ _ _ _ _ _ _ _ j hj w
  have hlt := beN_lt l hw
  have hst := beN_take l
  have hend : beN l = beN (l.take 8) := by rw [List.take_of_length_le (by omega)]
  have hg := getD_w8 hw
  have hsz : (bv l).toArray.size = 8 := by simp [bv, h8]
  obtain ⟨K, hK⟩ : ∃ K, K = (bv l).toArray := ⟨_, rfl⟩
  rw [← hK] at hsz ⊢
  simp only [← hK] at hi
  clear hK
  replace hend := hide hend
  replace hst := hide hst
  replace hlt := hide hlt
  replace hg := hide hg
  replace hi := hide hi
  go_enter Tryd.func73, Tryd.ntmps73
  go_wp2_with (refine wpList_load_row (by rfl) 117 _ (by rfl) w.heap.size (by rfl) 117 K (0, 0) _ ?_ Tryd.underlying117 (by rfl) ?_ ?_; exact heap_alloc_new _ _; (rw [hsz]; kernel_rfl))
  go_loop [3, 7] (fun n i => ∃ j : Nat, j ≤ 8 ∧ i = .int .i64 (j : Int) ∧ n = .int .u64 (beN (l.take j))) (fun _ i => 8 - (intOf i).toNat)
  case atStart => exact ⟨0, by omega, rfl, rfl⟩
  case round =>
    obtain ⟨j, hj, rfl, rfl⟩ := hrel
    by_cases hjl : j < 8
    · have hi1 := fun W => unhide hi j W hjl
      have hx := unhide hg j
      have h1 := unhide hlt j (by omega)
      have h2 := hide (unhide hst j (by omega))
      have hp : (256 : Int) ^ j ≤ 72057594037927936 := by
        have : (256 : Nat) ^ j ≤ 256 ^ 7 := Nat.pow_le_pow_right (by decide) (by omega)
        have e : (256 : Int) ^ j = ((256 ^ j : Nat) : Int) := by simp
        rw [e]; omega
      have ho := hide (or8 _ _ h1.1 (by omega) hx)
      obtain ⟨x0, x1⟩ := hx
      obtain ⟨m0, m1⟩ := h1
      generalize l.getD j 0 = x at *
      generalize beN (l.take j) = m at *
      go_wp2
      go_round
      case rel => exact ⟨j + 1, by omega, by go_num, by rw [unhide ho, ← unhide h2]⟩
      case measure => simp [intOf]; omega
    · obtain rfl : j = 8 := by omega
      go_wp2
      go_ret
      exact ⟨by rw [unhide hend]; rfl, gb_alloc (World.grownBy.refl _ _) _⟩
end Go.Proofs.YtjnmokmchdfchaaDoor
namespace Go.Proofs.YtjnmokmchdfchaaDoor
open Go.RowKit
attribute [local go_sem ↓] Go.wp_at_zero Go.wp_at_succ

def opn (s u n : Int) : List Int := s :: u :: highB n
def maskB (key : List Int) (s n : Int) (i : Nat) : Int := hb (hashN key (opn s 1 n ++ [((i / 8 : Nat) : Int) % 256])) (i % 8)
def x8 (a b : Int) : Int := bits .xor .u8 a b
def mkL (key : List Int) (s n : Int) (l : List Int) (j : Nat) : List Int := (List.range j).map fun i => x8 (l.getD i 0) (maskB key s n i)
def maskL (key : List Int) (s n : Int) (l : List Int) : List Int := mkL key s n l l.length
def tagL (key : List Int) (s n : Int) (c : List Int) : List Int := highB (hashN key (opn s 2 n ++ c))
def sealL (key : List Int) (s n : Int) (l : List Int) : List Int := highB n ++ maskL key s n l ++ tagL key s n (maskL key s n l)
theorem mkL_succ (key : List Int) (s n : Int) (l : List Int) (j : Nat) : mkL key s n l (j + 1) = mkL key s n l j ++ [x8 (l.getD j 0) (maskB key s n j)] := by simp [mkL, List.range_succ]
theorem mkL_len (key : List Int) (s n : Int) (l : List Int) (j : Nat) : (mkL key s n l j).length = j := by simp [mkL]
theorem x8_w {a b : Int} (ha : W8 a) (hb : W8 b) : W8 (x8 a b) := by
  unfold x8; rw [u8_xor a b ha.1 ha.2 hb.1 hb.2]
  have := Nat.xor_lt_two_pow (n := 8) (x := a.toNat) (y := b.toNat) (by have := ha.2; have := ha.1; omega) (by have := hb.2; have := hb.1; omega)
  unfold W8; omega
theorem opn_w {s u n : Int} (hs : W8 s) (hu : W8 u) : ∀ x ∈ opn s u n, W8 x := by
  intro x hx
  simp only [opn, List.mem_cons] at hx
  rcases hx with rfl | rfl | hx
  · exact hs
  · exact hu
  · exact highB_w n x hx
theorem opn_len (s u n : Int) : (opn s u n).length = 10 := rfl
theorem hashN_w (key l : List Int) (hk : KeyOk key) (hl : ∀ x ∈ l, W8 x) : W64 (hashN key l) := endS_w (mixAll_ok (beginS_ok hk) (padTo_w hl _) _)
theorem key_below {w w' : World} {g : Nat} {K : Array Value} {B : Nat} (h : w.heap[g]? = some (.cells K 32 (0, 0))) (b : Below B w w') (hg : g < B) : w'.heap[g]? = some (.cells K 32 (0, 0)) := (b.block g hg).trans h
theorem own_two (w : World) (x y : Int) (hx : W8 x) (hy : W8 y) : OwnB (w.alloc (.cells #[.int .u8 x, .int .u8 y] 5)) w.heap.size (.slice (some ⟨w.heap.size, 0, none⟩) [x, y].length 2) [x, y] :=
  own_new w [x, y] (fun z hz => by simp only [List.mem_cons, List.not_mem_nil, or_false] at hz; rcases hz with rfl | rfl; exact hx; exact hy) (by simp) _ (Nat.le_refl _)

set_option maxRecDepth 100000 in
set_option maxHeartbeats 1000000 in
theorem tag_any (key : List Int) (s n : Int) (a : Option Addr) (m cap : Nat) (l : List Int) (w : World) (hk : KeyOk key) (hs : W8 s) (hn : W64 n) (hb : BSv w a m cap l) (hl : l.length ≤ 100000) :
    Calls Tryd.prog 35 #[.agg (keyA key), .int .i64 s, .int .u64 n, .slice a m cap] w fun e w' =>
      ∃ a' c', e = .returned (.slice a' 8 c') ∧ OwnB w' w.heap.size (.slice a' 8 c') (tagL key s n l) ∧ w.grownBy w' none := by
  have hsz := keyA_size hk
  have hH := fun (a : Option Addr) (n cap : Nat) (l : List Int) (W : World) => refHash_any key a n cap l W hk
  obtain ⟨K, hKe⟩ : ∃ K, K = keyA key := ⟨_, rfl⟩
  rw [← hKe]
  simp only [← hKe] at hH hsz
  clear hKe
  replace hH := hide hH
  have o1 := own_two (w.alloc (.cells K 32)) s 2 hs (by unfold W8; omega)
  rw [World.size_alloc] at o1
  obtain ⟨s0, s1⟩ := hs
  go_enter Tryd.func35, Tryd.ntmps35
  go_wp2_with fail
  refine (high_any (w.heap.size + 1) _ 2 [s, 2] n _ o1 hn (by simp) (by simp)).mono ?_
  rintro e w1 ⟨a1, c1, rfl, o2, b2⟩
  replace o2 : OwnB w1 (w.heap.size + 1) (.slice a1 10 c1) (opn s 2 n) := o2
  have bw : Below w.heap.size w w1 := (((Below.refl _ w).alloc (Nat.le_refl _) _).alloc (by simp) _).trans (b2.mono (by omega))
  have hg1 : w1.heap[w.heap.size]? = some (.cells K 32 (0, 0)) := key_below (by rw [Below.heap_alloc _ _ _ (by simp)]; exact heap_alloc_new _ _) b2 (by omega)
  have hb1 := hb.gb0 (gb_of_below bw)
  have hz := b2.size
  rw [World.size_alloc, World.size_alloc] at hz
  replace hg1 := hide hg1
  replace hb1 := hide hb1
  replace o2 := hide o2
  clear b2 o1
  go_wp2_with (first | (at_builtin; refine wpList_appendB (by rfl) _ _ (by rfl) (w.heap.size + 1) _ (opn s 2 n) (by rfl) (unhide o2) _ _ _ l (by rfl) (unhide hb1) ?_ ?_ ?_; (rw [opn_len]; omega); omega; rw [opn_len]; intro a3 c3 w3 o3 g3 _; have hg3 := (hide ((g3.block w.heap.size (by omega) (fun e => by have := ((unhide o2).lt _ e.symm).1; omega)).trans (unhide hg1)))) | (refine wpList_loadKey _ (by rfl) (by rfl) _ (by rfl) K ?_ hsz ?_; exact unhide hg3))
  have hlen : (opn s 2 n ++ l).length = 10 + l.length := by simp [opn_len]
  have hw2 : ∀ x ∈ opn s 2 n ++ l, W8 x := o3.1
  have b3 := below_append bw (unhide o2) g3 (by omega) (by omega)
  refine (unhide hH _ _ _ (opn s 2 n ++ l) _ o3.bsv (by omega)).mono ?_
  rintro e w5 ⟨rfl, g5⟩
  have b5 : Below w.heap.size w w5 := b3.grown g5 b3.size (fun k e => by cases e)
  have hz5 := b5.size
  clear o3 g3 hg3 hg1 hb1 o2
  go_wp2_with fail
  refine (high_any w.heap.size none 0 [] _ _ (OwnB.nil _ _) (hashN_w key _ hk hw2) hz5 (by simp)).mono ?_
  rintro e w6 ⟨a6, c6, rfl, o6, b6⟩
  go_wp2_with fail
  go_ret
  exact ⟨a6, c6, rfl, o6, gb_of_below (b5.trans b6)⟩

set_option maxRecDepth 100000 in
set_option maxHeartbeats 2000000 in
theorem masked_any (key : List Int) (s n : Int) (a : Option Addr) (m cap : Nat) (l : List Int) (w : World) (hk : KeyOk key) (hs : W8 s) (hn : W64 n) (hb : BSv w a m cap l) (hl : l.length ≤ 100000) :
    Calls Tryd.prog 34 #[.agg (keyA key), .int .i64 s, .int .u64 n, .slice a m cap] w fun e w' =>
      ∃ a' c', e = .returned (.slice a' l.length c') ∧ OwnB w' w.heap.size (.slice a' l.length c') (maskL key s n l) ∧ w.grownBy w' none := by
  have hsz := keyA_size hk
  have hH := fun (a : Option Addr) (n cap : Nat) (l : List Int) (W : World) => refHash_any key a n cap l W hk
  obtain ⟨K, hKe⟩ : ∃ K, K = keyA key := ⟨_, rfl⟩
  rw [← hKe]
  simp only [← hKe] at hH hsz
  clear hKe
  replace hH := hide hH
  have hml : m = l.length := hb.2.1
  subst hml
  have s8 := hs
  obtain ⟨s0, s1⟩ := hs
  have hcp := hb.2.2.1
  have hcm := hb.2.2.2.1
  unfold maxLen at hcm
  go_enter Tryd.func34, Tryd.ntmps34
  go_wp2_with fail
  go_loopw [9, 10] (fun v i wr => ∃ (j : Nat) (a' : Option Addr) (c' : Nat), j ≤ l.length ∧ i = .int .i64 (j : Int) ∧ v = .slice a' j c' ∧ OwnB wr (w.heap.size + 1) v (mkL key s n l j) ∧ Below (w.heap.size + 1) (w.alloc (.cells K 32)) wr) (fun _ i _ => l.length - (intOf i).toNat)
  case atStart => exact ⟨0, none, 0, by omega, rfl, rfl, OwnB.nil _ _, Below.refl _ _⟩
  case round =>
    obtain ⟨j, a', c', hj, rfl, rfl, o1, b1⟩ := hrel
    have hz1 := b1.size
    rw [World.size_alloc] at hz1
    by_cases hlt : j < l.length
    · have o2 := own_two wr s 1 s8 (by unfold W8; omega)
      have bw : Below w.heap.size w wr := ((Below.refl _ w).alloc (Nat.le_refl _) _).trans (b1.mono (by omega))
      have hg1 := hide (key_below (heap_alloc_new w _) b1 (by omega))
      have hb1 := hb.gb0 (gb_of_below bw)
      obtain ⟨hw8, -, -, -, h5⟩ := hb1
      rcases h5 with ⟨rfl, rfl⟩ | ⟨bb, o, rfl, hbs⟩
      · omega
      · replace o1 := hide o1
        go_wp2_with fail
        refine (high_any wr.heap.size _ 2 [s, 1] n _ o2 hn (by simp) (by simp)).mono ?_
        rintro e w2 ⟨a2, c2, rfl, o3, b3⟩
        replace o3 : OwnB w2 wr.heap.size (.slice a2 10 c2) (opn s 1 n) := o3
        have bA : Below wr.heap.size wr w2 := ((Below.refl _ wr).alloc (Nat.le_refl _) _).trans b3
        have hzA := bA.size
        have hj8 : W8 ((j : Int) / 8 % 256) := by unfold W8; omega
        have bz := hide (one_new w2 _ hj8)
        have o3' := hide (o3.gb0 (World.grownBy_alloc w2 (.cells #[.int .u8 ((j : Int) / 8 % 256)] 5) none))
        have hg2 := hide (key_below (unhide hg1) bA (by omega))
        clear b3 o2
        go_wp2_with (first | (at_builtin; refine wpList_appendB (by rfl) _ _ (by rfl) wr.heap.size _ (opn s 1 n) (by rfl) (unhide o3') _ _ _ [(j : Int) / 8 % 256] (by rfl) (unhide bz) ?_ ?_ ?_; (rw [opn_len]; simp); (simp; omega); rw [opn_len]; intro a4 c4 w4 o4 g4 _; have b4 := below_append (bA.alloc hzA _) (unhide o3') g4 (by simp; omega) (Nat.le_refl _); have hg4 := hide (key_below (unhide hg1) b4 (by omega))) | (refine wpList_loadKey _ (by rfl) (by rfl) _ (by rfl) K ?_ hsz ?_; exact unhide hg4))
        have hw4 := o4.1
        refine (unhide hH _ _ _ _ _ o4.bsv (by simp [opn_len])).mono ?_
        rintro e w5 ⟨rfl, g5⟩
        have b5 : Below wr.heap.size wr w5 := b4.grown g5 b4.size (fun k e => by cases e)
        have hz5 := b5.size
        have hhw := hashN_w key _ hk hw4
        clear o4 g4 hg4 hg2 bz o3' o3 g5 b4 bA
        go_wp2_with fail
        refine (high_any w5.heap.size none 0 [] _ _ (OwnB.nil _ _) hhw (Nat.le_refl _) (by simp)).mono ?_
        rintro e w6 ⟨a6, c6, rfl, o6, b6⟩
        have b6' := b5.trans (b6.mono hz5)
        obtain ⟨g, c, hv, hgb, hgl, hbs6, hcap, hcm6⟩ := own_some o6 (by simp [highB_len])
        simp only [List.length_nil, List.nil_append, Nat.zero_add, Value.slice.injEq] at hv
        obtain ⟨rfl, -, rfl⟩ := hv
        have hmb : Hid ((highB (hashN key (opn s 1 n ++ [(j : Int) / 8 % 256]))).getD (j % 8) 0 = maskB key s n j) := by
          show _ = Go.Proofs.YtjnmokmchdfchaaDoor.hb _ _
          have : j % 8 < 8 := Nat.mod_lt _ (by decide)
          rw [show ((j / 8 : Nat) : Int) = (j : Int) / 8 from rfl]
          generalize hashN key (opn s 1 n ++ [(j : Int) / 8 % 256]) = h
          have e : j % 8 = 0 ∨ j % 8 = 1 ∨ j % 8 = 2 ∨ j % 8 = 3 ∨ j % 8 = 4 ∨ j % 8 = 5 ∨ j % 8 = 6 ∨ j % 8 = 7 := by omega
          rcases e with e | e | e | e | e | e | e | e <;> rw [e] <;> rfl
        have q2 := hbs6.1 (j % 8) (by simp [highB_len]; omega)
        rw [List.nil_append, unhide hmb, Nat.zero_add] at q2
        have q1 : w6.cell? ⟨bb, o + j, none⟩ = some (.int .u8 (l.getD j 0)) := by
          have hlt6 := World.block_lt_of_cell? wr _ (hbs.1 j hlt)
          rw [b6'.cell (p := ⟨bb, o + j, none⟩) hlt6]; exact hbs.1 j hlt
        have hx8 : W8 (x8 (l.getD j 0) (maskB key s n j)) := x8_w (getD_w8 hw8 j) (hb_w _ _)
        have o1' := hide ((unhide o1).below b6' (Nat.le_refl _))
        have bz := hide (one_new w6 _ hx8)
        have hsu := hide (mkL_succ key s n l j)
        unfold x8 at hx8 bz hsu
        generalize l.getD j 0 = x at *
        generalize maskB key s n j = y at *
        have hz6 := b6'.size
        have i1 : (j : Int) < (l.length : Int) := by omega
        obtain ⟨r, hr⟩ : ∃ r : Nat, r = j % 8 := ⟨_, rfl⟩
        have i2 : (j : Int).tmod 8 = (r : Int) := by rw [Int.tmod_eq_emod_of_nonneg (by omega), hr]; rfl
        have i3 : r < 8 := by omega
        have i5 : (0 : Int) ≤ (r : Int) := by omega
        have i6 : (r : Int) < 8 := by omega
        rw [← hr] at q2
        clear hr
        clear hbs6 hbs hmb o6 b6 hhw hw4 hb
        go_wp2_with fail
        go_region_law ((refine step_appendB (by rfl) _ _ (by rfl) (w.heap.size + 1) _ (mkL key s n l j) (by rfl) ((unhide o1').gb0 (gb_drew (World.grownBy_alloc _ _ _))) _ _ _ [bits .xor .u8 x y] (by rfl) ((unhide bz).gb0 (gb_drew (World.grownBy.refl _ _))) (by rw [mkL_len]; simp; omega) (by simp; omega) ?_; intro a7 c7 w7 o7 g7 _))
        all_goals (go_wp2_with fail)
        all_goals
          refine ⟨⟨j + 1, a7, c7, by omega, by go_num, by rw [mkL_len], ?_, ?_⟩, by simp [intOf]; omega⟩
          · rw [unhide hsu]; exact o7
          · exact below_append ((((b1.trans (b6'.mono hz1)).alloc (by omega) _)).drew) ((unhide o1').gb0 (gb_drew (World.grownBy_alloc _ _ _))) g7 (by simp; omega) (Nat.le_refl _)
    · obtain rfl : j = l.length := by omega
      go_wp2_with fail
      go_ret
      refine ⟨a', c', rfl, ⟨o1.1, ?_⟩, ?_⟩
      · obtain ⟨h1, h2⟩ := o1.2
        refine ⟨h1, ?_⟩
        rcases h2 with h2 | ⟨g, cap, cur, e1, e2, e3⟩
        · exact .inl h2
        · exact .inr ⟨g, cap, cur, e1, by omega, e3⟩
      · exact gb_of_below (((Below.refl _ w).alloc (Nat.le_refl _) _).trans (b1.mono (by omega)))
end Go.Proofs.YtjnmokmchdfchaaDoor
