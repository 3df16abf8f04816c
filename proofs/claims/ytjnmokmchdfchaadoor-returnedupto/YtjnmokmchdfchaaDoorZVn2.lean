import Derived.Test.YtjnmokmchdfchaaDoorZFm
import Derived.Test.YtjnmokmchdfchaaDoorZFs
namespace Go.Proofs.YtjnmokmchdfchaaDoor
open Go.RowKit
attribute [local go_sem ↓] Go.wp_at_zero Go.wp_at_succ

set_option maxRecDepth 100000 in
set_option maxHeartbeats 1000000 in
theorem appendNumber_any (base : Nat) (a : Option Addr) (c : Nat) (l : List Int) (n : Int) (w : World) (ho : OwnB w base (.slice a l.length c) l) (hn : V62 n) (hbase : base ≤ w.heap.size) (hl : l.length ≤ 90000000) :
    Calls Tryd.prog 89 #[.slice a l.length c, .int .u64 n] w fun e w' =>
      ∃ a' c', e = .returned (.slice a' (l.length + (varL n).length) c') ∧ Grew w base (.slice a l.length c) w' (.slice a' (l.length + (varL n).length) c') (l ++ varL n) := by
  have hn' := hn
  obtain ⟨n0, n1⟩ := hn
  obtain ⟨k, p, H, hv, hk, hp, hor, h8⟩ : ∃ (k p : Nat) (H : Int), varL n = vbs (n + H) k ∧ ((k = 1 ∧ p = 0 ∧ H = 0) ∨ (k = 2 ∧ p = 1 ∧ H = 16384) ∨ (k = 4 ∧ p = 2 ∧ H = 2147483648) ∨ (k = 8 ∧ p = 3 ∧ H = 13835058055282163712)) ∧ pw n = (p : Int) ∧ bits .or .u64 n H = n + H ∧ 0 ≤ n + H ∧ n + H < 18446744073709551616 := by
    by_cases h1 : n < 64
    · refine ⟨1, 0, 0, by rw [Int.add_zero]; exact var1 h1 n0, .inl ⟨rfl, rfl, rfl⟩, by simp [pw, h1], ?_, by omega⟩
      have := orH n 0 6 n0 (by simpa using h1) (by decide)
      simpa using this
    · by_cases h2 : n < 16384
      · exact ⟨2, 1, 16384, var2 h1 h2, .inr (.inl ⟨rfl, rfl, rfl⟩), by simp [pw, h1, h2], by simpa using orH n 1 14 n0 (by simpa using h2) (by decide), by omega⟩
      · by_cases h3 : n < 1073741824
        · exact ⟨4, 2, 2147483648, var4 h1 h2 h3, .inr (.inr (.inl ⟨rfl, rfl, rfl⟩)), by simp [pw, h1, h2, h3], by simpa using orH n 2 30 n0 (by simpa using h3) (by decide), by omega⟩
        · exact ⟨8, 3, 13835058055282163712, var8 h1 h2 h3 hn', .inr (.inr (.inr ⟨rfl, rfl, rfl⟩)), by simp [pw, h1, h2, h3], by simpa using orH n 3 62 n0 (by simp; omega) (by decide), by omega⟩
  have hlen := vbs_len (n + H) k
  have htk := vbs_take (n + H) k
  rw [hv]
  rw [hlen]
  clear hv
  replace hlen := hide hlen
  replace htk := hide htk
  have hk1 : 1 ≤ k ∧ k ≤ 8 := by omega
  obtain ⟨S, hS2⟩ : ∃ S : Int, S = 8 * (k : Int) - 8 := ⟨_, rfl⟩
  replace hS2 := hide hS2
  obtain ⟨M, hM⟩ : ∃ M, M = n + H := ⟨_, rfl⟩
  rw [← hM] at hor h8 htk hlen ⊢
  replace hM := hide hM
  rcases hk with ⟨hk, rfl, rfl⟩ | ⟨hk, rfl, rfl⟩ | ⟨hk, rfl, rfl⟩ | ⟨hk, rfl, rfl⟩
  all_goals
    replace hk := hide hk
    go_enter Tryd.func89, Tryd.ntmps89
    go_wp2_with (go_at_call 103; refine (powerOf_any n _).mono ?_; rintro e w' ⟨rfl, rfl⟩; rw [hp])
    go_loopw [0, 7] (fun v i wr => ∃ (j : Nat) (a' : Option Addr) (c' : Nat), j ≤ k ∧ i = .int .i64 (S - 8 * (j : Int)) ∧ v = .slice a' (l.length + j) c' ∧ Grew w' base (.slice a l.length c) wr v (l ++ (vbs M k).take j)) (fun _ i _ => (intOf i + 8).toNat)
    case atStart => exact ⟨0, a, c, by omega, congrArg (Value.int .i64) (by have := unhide hk; have := unhide hS2; omega), rfl, by simpa using Grew.refl ho⟩
    case round =>
      obtain ⟨j, a', c', hj, rfl, rfl, o1⟩ := hrel
      by_cases hlt : j < k
      · obtain ⟨s, hs⟩ : ∃ s : Nat, (s : Int) = S - 8 * (j : Int) := ⟨8 * (k - 1) - 8 * j, by have := unhide hS2; omega⟩
        have hs8 : s = 8 * (k - 1) - 8 * j := by have := unhide hS2; omega
        have hs64 : s < 64 := by omega
        rw [← hs]
        replace hs := hide hs
        have ht := unhide htk j hlt
        rw [← hs8] at ht
        replace ht := hide ht
        clear hs8
        have hsz := o1.size
        have hw8 : W8 (M / 2 ^ s % 256) := by unfold W8; omega
        have bz := hide (one_new wr _ hw8)
        have o2 := hide (o1.still (World.grownBy_alloc wr (.cells #[.int .u8 (M / 2 ^ s % 256)] 5) none)).own
        have hlen2 : (l ++ (vbs M k).take j).length = l.length + j := by simp [unhide hlen]; omega
        replace hlen2 := hide hlen2
        replace o1 := hide o1
        obtain ⟨h80, h81⟩ := h8
        go_wp2_with (at_builtin; refine wpList_appendB (by rfl) _ _ (by rfl) base _ (l ++ (vbs M k).take j) (by rfl) (unhide o2) _ _ _ [M / 2 ^ s % 256] (by rfl) (unhide bz) ?_ ?_ ?_; (rw [unhide hlen2]; simp; omega); (simp; omega); rw [unhide hlen2]; intro a3 c3 w3 o3 g3 g4)
        go_roundw
        case rel =>
          refine ⟨j + 1, a3, c3, by omega, by have := unhide hs; simp; omega, rfl, ?_⟩
          rw [unhide ht, ← List.append_assoc]
          exact (unhide o1).app (World.grownBy_alloc _ _ _) o3 g3 g4
        case measure => have := unhide hs; simp [intOf]; omega
      · obtain rfl : j = k := by omega
        have hneg : ¬ (0 : Int) ≤ S - 8 * (j : Int) := by have := unhide hS2; omega
        go_wp2_with fail
        go_ret
        refine ⟨a', c', rfl, ?_⟩
        rw [List.take_of_length_le (by rw [unhide hlen]; exact Nat.le_refl _)] at o1
        exact o1
end Go.Proofs.YtjnmokmchdfchaaDoor
namespace Go.Proofs.YtjnmokmchdfchaaDoor
open Go.RowKit
attribute [local go_sem ↓] Go.wp_at_zero Go.wp_at_succ

theorem Grew.old {w0 w w' : World} {base : Nat} {v v' : Value} {l m : List Int} (h : Grew w base v w' v' m) (g0 : w0.grownBy w none) (ho : OwnB w base v l) (hb : w0.heap.size ≤ base) : w0.grownBy w' none :=
  gb_trans' g0 h.gb (fun j e => .inl (Nat.le_trans hb (ho.lt j e).1))
theorem appN {w w1 : World} {base : Nat} {v : Value} {a1 : Option Addr} {n1 c1 : Nat} {m1 : List Int} (h : Grew w base v w1 (.slice a1 n1 c1) m1) {n : Int} (hn : V62 n) (hbase : base ≤ w.heap.size) (hl : m1.length ≤ 90000000) :
    Calls Tryd.prog 89 #[.slice a1 n1 c1, .int .u64 n] w1 fun e w' => ∃ a' n' c', e = .returned (.slice a' n' c') ∧ Grew w base v w' (.slice a' n' c') (m1 ++ varL n) ∧ Grew w1 base (.slice a1 n1 c1) w' (.slice a' n' c') (m1 ++ varL n) := by
  have e1 : n1 = m1.length := h.own.bsv.2.1
  subst e1
  refine (appendNumber_any base a1 c1 m1 n w1 h.own hn (Nat.le_trans hbase h.size) hl).mono ?_
  rintro e w2 ⟨a2, c2, rfl, g2⟩
  exact ⟨a2, _, c2, rfl, h.trans g2, g2⟩
/-- A box that was made behind the slice stays as it is. -/
theorem Grew.box {wr w1 w' : World} {base : Nat} {v v' : Value} {l m : List Int} (h : Grew w1 base v w' v' m) (ho : OwnB wr base v l) (hlt : wr.heap.size < w1.heap.size) : w'.heap[wr.heap.size]? = w1.heap[wr.heap.size]? ∧ v'.ownBlock ≠ some wr.heap.size :=
  h.apart hlt (fun e => by have := (ho.lt _ e).2; omega)
theorem cell_same {w w' : World} {B : Nat} (h : w'.heap[B]? = w.heap[B]?) (i : Nat) : w'.cell? ⟨B, i, none⟩ = w.cell? ⟨B, i, none⟩ := World.cell?_of_block (w := w) h
theorem sub64 {x y : Int} (h0 : 0 ≤ x - y) (h1 : x - y < 18446744073709551616) : IntKind.u64.wrap (x - y) = x - y := by rw [IntKind.wrap_u64]; omega
set_option maxRecDepth 100000 in
set_option maxHeartbeats 2000000 in
theorem appendRanges_any (w0 w : World) (base : Nat) (a : Option Addr) (c : Nat) (l : List Int) (ra : Option Addr) (n cap : Nat) (rg : List Rg) (ho : OwnB w base (.slice a l.length c) l) (g0 : w0.grownBy w none) (hb0 : w0.heap.size ≤ base) (hr : RSv w0 ra n cap rg) (hf : fallP rg) (hbase : base ≤ w.heap.size) (hl : l.length + 16 * rg.length ≤ 80000000) :
    Calls Tryd.prog 93 #[.slice a l.length c, .slice ra n cap] w fun e w' => ∃ a' n' c', e = .returned (.slice a' n' c') ∧ Grew w base (.slice a l.length c) w' (.slice a' n' c') (l ++ rangesL rg) := by
  have hn : n = rg.length := hr.2.1
  have hcap := hr.2.2.1
  have hmax := hr.2.2.2.1
  unfold maxLen at hmax
  have hpos := hf.1
  obtain ⟨-, -, -, -, h0 | ⟨b, o, rfl, -⟩⟩ := id hr
  · omega
  have hz : ∀ W, w0.grownBy W none → W.cell? ⟨b, o, none⟩ = some (.int .u64 (rgAt rg 0).lo) ∧ W.cell? ⟨b, o + 1, none⟩ = some (.int .u64 (rgAt rg 0).hi) := fun W g => by
    have := (hr.gb0 g).cell 0 hpos
    rwa [Nat.zero_mul, Nat.add_zero] at this
  have hv0 := fall_lt hr.1 hf 0 hpos
  have hle0 := (hf.2 0 hpos).1
  obtain ⟨lo0, hlo0⟩ : ∃ x, x = (rgAt rg 0).lo := ⟨_, rfl⟩
  obtain ⟨hi0, hhi0⟩ : ∃ x, x = (rgAt rg 0).hi := ⟨_, rfl⟩
  have hhead : rgHead rg = varL hi0 ++ varL ((n : Int) - 1) ++ varL (hi0 - lo0) := by rw [hlo0, hhi0, hn]; rfl
  simp only [← hlo0, ← hhi0] at hz hv0 hle0
  obtain ⟨⟨v1, v2⟩, v3, v4⟩ := hv0
  have hw1 := sub64 (x := hi0) (y := lo0) (by omega) (by omega)
  have i0 : (0 : Int) < (n : Int) := by omega
  have i00 : 0 < n := by omega
  have hl2 : l.length + 16 * n ≤ 80000000 := by omega
  replace hl := hide hl
  replace hn := hide hn
  replace hlo0 := hide hlo0
  replace hhi0 := hide hhi0
  replace hhead := hide hhead
  replace hz := hide hz
  replace hpos := hide hpos
  have G0 := Grew.refl ho
  obtain ⟨z1, z2⟩ := unhide hz w g0
  go_enter Tryd.func93, Tryd.ntmps93
  go_wp2_with fail
  refine (appN G0 ⟨v3, v4⟩ hbase (by omega)).mono ?_
  rintro e w1 ⟨a1, n1, c1, rfl, G1, -⟩
  clear z1 z2
  have hwl : IntKind.u64.wrap ((n : Int) - 1) = (n : Int) - 1 := sub64 (by omega) (by omega)
  go_wp2_with fail
  refine (appN G1 ⟨by omega, by omega⟩ hbase (by have := varL_len hi0; simp; omega)).mono ?_
  rintro e w2 ⟨a2, n2, c2, rfl, G2, -⟩
  have hS2 : w2.drew.cell? ⟨b, o, none⟩ = some (.int .u64 lo0) ∧ w2.drew.cell? ⟨b, o + 1, none⟩ = some (.int .u64 hi0) := unhide hz w2 (G2.old g0 ho hb0)
  replace G2 := hide G2
  replace G0 := hide G0
  replace G1 := hide G1
  go_wp2_with fail
  go_region_held3 (fun w' => w'.cell? ⟨b, o, none⟩ = some (.int .u64 lo0) ∧ w'.cell? ⟨b, o + 1, none⟩ = some (.int .u64 hi0)) (first | with_reducible exact hS3 | with_reducible exact hS2)
    (first | (go_at_call 89; refine (appN ((unhide G2).still (gb_drew (World.grownBy.refl _ _))) ⟨by omega, by omega⟩ hbase (by have := varL_len hi0; have := varL_len ((n : Int) - 1); simp; omega)).mono ?_; rintro e w3 ⟨a3, n3, c3, rfl, G3, -⟩; have hS3 := unhide hz w3 (G3.old g0 ho hb0); replace G3 := hide G3))
  clear hS2
  have hG3 : Hid (Grew w base (.slice a l.length c) w3 (.slice a3 n3 c3) (l ++ rgHead rg)) := hide (by rw [unhide hhead, ← List.append_assoc, ← List.append_assoc]; exact unhide G3)
  clear G3
  by_cases hc1 : cap = 1
  · obtain rfl : n = 1 := by omega
    subst hc1
    go_wp2_with fail
    go_loopw [0, 33] (fun v i wr => v = .slice a3 n3 c3 ∧ i = .int .i64 0 ∧ wr = w3) (fun _ _ _ => 0)
    case atStart => exact ⟨rfl, rfl, rfl⟩
    case round =>
      obtain ⟨rfl, rfl, rfl⟩ := hrel
      go_wp2_with fail
      go_ret
      refine ⟨a3, n3, c3, rfl, ?_⟩
      have : rangesL rg = rgHead rg := by unfold rangesL; rw [← unhide hn]; simp [gapsL]
      rw [this]
      exact unhide hG3
  · go_wp2_with fail
    clear hS3
    obtain ⟨N, hN⟩ : ∃ N, N = n - 1 := ⟨_, rfl⟩
    rw [← hN]
    go_loopw [0, 33] (fun v i wr => ∃ (j : Nat) (a' : Option Addr) (n' c' : Nat), j ≤ N ∧ i = .int .i64 (j : Int) ∧ v = .slice a' n' c' ∧ Grew w base (.slice a l.length c) wr v (l ++ rgHead rg ++ gapsL rg j)) (fun _ i _ => N - (intOf i).toNat)
    case atStart => exact ⟨0, a3, n3, c3, by omega, rfl, rfl, by simpa [gapsL] using unhide hG3⟩
    case round =>
      obtain ⟨j, a', n', c', hj, rfl, rfl, Gj⟩ := hrel
      have gj := Gj.old g0 ho hb0
      by_cases hlt : j < N
      · obtain ⟨p1, -⟩ := (hr.gb0 gj).cell j (by have := unhide hn; omega)
        obtain ⟨p2, p3⟩ := (hr.gb0 gj).cell (j + 1) (by have := unhide hn; omega)
        have eo : o + (j + 1) * 2 = o + 2 + j * 2 := by omega
        rw [eo] at p2 p3
        clear eo
        have f1 := fall_lt hr.1 hf j (by have := unhide hn; omega)
        have f2 := fall_lt hr.1 hf (j + 1) (by have := unhide hn; omega)
        have f3 := hf.2 (j + 1) (by have := unhide hn; omega)
        unfold fallAt at f3
        rw [Nat.add_sub_cancel] at f3
        replace f3 := f3.2.2 (by omega)
        have f4 := (hf.2 (j + 1) (by have := unhide hn; omega)).1
        have hgap : gapsL rg (j + 1) = gapsL rg j ++ (varL ((rgAt rg j).lo - (rgAt rg (j + 1)).hi - 2) ++ varL ((rgAt rg (j + 1)).hi - (rgAt rg (j + 1)).lo)) := rfl
        have hcj := fun W (g : w0.grownBy W none) => ((hr.gb0 g).cell j (by have := unhide hn; omega)).1
        generalize (rgAt rg j).lo = x at *
        generalize (rgAt rg (j + 1)).lo = lo1 at *
        generalize (rgAt rg (j + 1)).hi = hi1 at *
        obtain ⟨⟨f10, f11⟩, -⟩ := f1
        obtain ⟨⟨f20, f21⟩, f22, f23⟩ := f2
        have hw2 := sub64 (x := x) (y := hi1) (by omega) (by omega)
        have hw3 := sub64 (x := x - hi1) (y := 2) (by omega) (by omega)
        have hw4 := sub64 (x := hi1) (y := lo1) (by omega) (by omega)
        have i1 : (0 : Int) ≤ (j : Int) := by omega
        have i2 : (j : Int) < (n : Int) := by omega
        obtain ⟨W1, hW1⟩ : ∃ W, W = wr.alloc (.cells #[.int .u64 lo1, .int .u64 hi1] 54) := ⟨_, rfl⟩
        have hsz : W1.heap.size = wr.heap.size + 1 := by rw [hW1]; simp
        have gW : wr.grownBy W1 none := by rw [hW1]; exact World.grownBy_alloc _ _ _
        have hbox : W1.heap[wr.heap.size]? = some (.cells #[.int .u64 lo1, .int .u64 hi1] 54 (0, 0)) := by rw [hW1]; exact heap_alloc_new _ _
        have hc0 : ∀ W : World, W.heap[wr.heap.size]? = W1.heap[wr.heap.size]? → W.cell? ⟨wr.heap.size, 0, none⟩ = some (.int .u64 lo1) ∧ W.cell? ⟨wr.heap.size, 1, none⟩ = some (.int .u64 hi1) := fun W h => by
          rw [cell_same h, cell_same h]; simp [World.cell?, hbox]
        have p4 : W1.drew.cell? ⟨b, o + j * 2, none⟩ = some (.int .u64 x) := gW.cell p1 (by simp)
        have hS4 : W1.drew.cell? ⟨b, o + j * 2, none⟩ = some (.int .u64 x) ∧ W1.drew.cell? ⟨wr.heap.size, 1, none⟩ = some (.int .u64 hi1) := ⟨p4, (hc0 W1.drew rfl).2⟩
        clear p4
        have hol := Gj.own
        have hlen : ∀ k, k ≤ N → (l ++ rgHead rg ++ gapsL rg k).length ≤ 85000000 := fun k hk => by
          have q1 := gapsL_len rg k
          have q2 : (rgHead rg).length ≤ 24 := by
            have a7 := varL_len (rgAt rg 0).hi
            have a8 := varL_len ((rg.length : Int) - 1)
            have a9 := varL_len ((rgAt rg 0).hi - (rgAt rg 0).lo)
            simp only [rgHead, List.length_append]; omega
          simp only [List.length_append]; omega
        replace Gj := hide Gj
        replace hol := hide hol
        replace hc0 := hide hc0
        replace hbox := hide hbox
        replace hgap := hide hgap
        replace hcj := hide hcj
        replace hlen := hide hlen
        replace hN := hide hN
        replace gW := hide gW
        replace hsz := hide hsz
        clear hG3
        go_wp2_with fail
        rw [← hW1]
        replace hW1 := hide hW1
        go_region_held3 (fun w' => w'.cell? ⟨b, o + j * 2, none⟩ = some (.int .u64 x) ∧ w'.cell? ⟨wr.heap.size, 1, none⟩ = some (.int .u64 hi1)) (first | with_reducible exact hS5 | with_reducible exact hS4)
          (first | (go_at_call 89; refine (appN ((unhide Gj).still (gb_drew (unhide gW))) ⟨by omega, by omega⟩ hbase (by have := unhide hlen j (by omega); omega)).mono ?_; rintro e w5 ⟨a5, n5, c5, rfl, G5, L5⟩; have hb5 := L5.box (unhide hol) (by have := unhide hsz; show _ < W1.heap.size; omega); have hS5 : w5.cell? ⟨b, o + j * 2, none⟩ = some (.int .u64 x) ∧ w5.cell? ⟨wr.heap.size, 1, none⟩ = some (.int .u64 hi1) := ⟨unhide hcj w5 (G5.old g0 ho hb0), (unhide hc0 w5 hb5.1).2⟩; replace hb5 := hide hb5; replace L5 := hide L5; replace G5 := hide G5))
        obtain ⟨-, y2⟩ := hS5
        have y1 := (unhide hc0 w5 (unhide hb5).1).1
        clear hS4 p1 p2 p3
        go_wp2_with fail
        refine (appN (unhide G5) ⟨by omega, by omega⟩ hbase (by have := unhide hlen j (by omega); have := varL_len (x - hi1 - 2); rw [List.length_append]; omega)).mono ?_
        rintro e w6 ⟨a6, n6, c6, rfl, G6, -⟩
        go_wp2_with fail
        go_roundw
        case rel =>
          refine ⟨j + 1, a6, n6, c6, by omega, by simp, rfl, ?_⟩
          rw [unhide hgap, ← List.append_assoc, ← List.append_assoc]
          exact G6
        case measure => simp [intOf]; omega
      · obtain rfl : j = N := by omega
        go_wp2_with fail
        go_ret
        refine ⟨a', n', c', rfl, ?_⟩
        unfold rangesL
        rw [← List.append_assoc, ← unhide hn, ← hN]
        exact Gj
end Go.Proofs.YtjnmokmchdfchaaDoor
