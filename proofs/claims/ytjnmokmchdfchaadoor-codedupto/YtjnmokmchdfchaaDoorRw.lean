import Derived.Test.YtjnmokmchdfchaaDoorVr
import Derived.Test.YtjnmokmchdfchaaDoorFw
import Derived.Test.YtjnmokmchdfchaaDoorAs
namespace Go.Proofs.YtjnmokmchdfchaaDoor
open Go.RowKit
attribute [local go_sem ↓] Go.wp_at_zero Go.wp_at_succ

theorem varN {w w1 : World} {base : Nat} {v : Value} {a1 : Option Addr} {n1 c1 : Nat} {m1 : List Int} (h : Grew w base v w1 (.slice a1 n1 c1) m1) {n : Int} (hn : V62 n) (hbase : base ≤ w.heap.size) (hl : m1.length ≤ 90000000) :
    Calls Tryd.prog 39 #[.slice a1 n1 c1, .int .u64 n] w1 fun e w' => ∃ a' n' c', e = .returned (.slice a' n' c') ∧ Grew w base v w' (.slice a' n' c') (m1 ++ varL n) := by
  have e1 : n1 = m1.length := h.own.bsv.2.1
  subst e1
  refine (varint_any base a1 c1 m1 n w1 h.own hn (Nat.le_trans hbase h.size) hl).mono ?_
  rintro e w2 ⟨a2, c2, rfl, g2⟩
  exact ⟨a2, _, c2, rfl, h.trans g2⟩
theorem own_slice {w : World} {base : Nat} {a : Option Addr} {n c : Nat} {l : List Int} (h : OwnB w base (.slice a n c) l) : n = l.length := h.bsv.2.1
/-- The frame's box, apart from the slice that grows. -/
theorem Grew.keep {w w' : World} {base : Nat} {v v' : Value} {l m : List Int} {ob : Obj} (h : Grew (w.alloc ob) base v w' v' m) (ho : OwnB w base v l) : w'.heap[w.heap.size]? = some ob :=
  (h.apart (B := w.heap.size) (by simp) (fun e => by have := (ho.lt _ e).2; omega)).1.trans (heap_alloc_new _ _)
set_option maxRecDepth 100000 in
set_option maxHeartbeats 4000000 in
theorem written_any (f : Fr) (rv : Value) (w : World) (hfv : FrV w f rv) (hs : soundP f) (base : Nat) (a : Option Addr) (c : Nat) (l : List Int) (ho : OwnB w base (.slice a l.length c) l) (hbase : base ≤ w.heap.size) (hl : l.length + bulkF f ≤ 70000000) (w0 : World) (hv0 : FrV w0 f rv) (g0 : w0.grownBy w none) (hb0 : w0.heap.size ≤ base) :
    Calls Tryd.prog 23 #[.slice a l.length c, .agg (frA f rv)] w fun e w' => ∃ a' n' c', e = .returned (.slice a' n' c') ∧ Grew w base (.slice a l.length c) w' (.slice a' n' c') (l ++ writtenL f) := by
  obtain ⟨⟨⟨k0, k1⟩, ⟨s0, s1⟩, ⟨o0, o1⟩, ⟨c0, c1⟩, hr⟩, hds, ra, cap, rfl, hrs⟩ := hv0
  obtain ⟨⟨p1, p2, p3, p4⟩, ⟨p5, p6⟩, p7, p8⟩ := hs
  obtain ⟨k, s, o, cd, fin, d, rg⟩ := f
  simp only [frA, bulkF] at *
  have G0 := fun (ob : Obj) => Grew.refl (ho.gb0 (World.grownBy_alloc w ob none))
  have GE := fun (ob : Obj) (W : World) (v' : Value) (m : List Int) (G : Grew (w.alloc ob) base (.slice a l.length c) W v' m) => ((Grew.refl ho).still (World.grownBy_alloc w ob none)).trans G
  have bz := fun (ob : Obj) (x : Int) (hx : W8 x) => (by have := one_new (w.alloc ob) x hx; rwa [World.size_alloc] at this : BSv ((w.alloc ob).alloc (.cells #[.int .u8 x] 5)) (some ⟨w.heap.size + 1, 0, none⟩) 1 1 [x])
  have O1 := fun (ob : Obj) (x : Int) => ((G0 ob).still (World.grownBy_alloc (w.alloc ob) (.cells #[.int .u8 x] 5) none)).own
  have hkp := fun (ob : Obj) (W : World) (v' : Value) (m : List Int) (G : Grew (w.alloc ob) base (.slice a l.length c) W v' m) => G.keep ho
  have hold := fun (ob : Obj) (W : World) (v' : Value) (m : List Int) (G : Grew (w.alloc ob) base (.slice a l.length c) W v' m) => G.old (gb_alloc g0 ob) (ho.gb0 (World.grownBy_alloc w ob none)) hb0
  have hbase2 : ∀ ob, base ≤ (w.alloc ob).heap.size := fun ob => by simp; omega
  replace G0 := hide G0
  replace GE := hide GE
  replace bz := hide bz
  replace O1 := hide O1
  replace hkp := hide hkp
  replace hold := hide hold
  replace hbase2 := hide hbase2
  have hkind : k = 1 ∨ k = 2 ∨ k = 3 ∨ k = 4 ∨ k = 5 ∨ k = 6 := by omega
  rcases hkind with rfl | rfl | rfl | rfl | rfl | rfl
  · have hW : writtenL ⟨1, s, o, cd, fin, d, rg⟩ = [0] := by simp [writtenL]
    rw [hW]
    replace hW := hide hW
    go_enter Tryd.func23, Tryd.ntmps23
    go_wp2_with (at_builtin; refine wpList_appendB (by rfl) _ _ (by rfl) base _ l (by rfl) (unhide O1 _ _) _ _ _ [0] (by rfl) (unhide bz _ _ (by simp [W8])) ?_ ?_ ?_; (simp; omega); (simp; omega); intro a1 c1 w1 o2 g1 g2; have G1 := (unhide G0 _).app (World.grownBy_alloc _ _ _) o2 g1 g2; have B1 := unhide hkp _ _ _ _ G1; obtain ⟨d0, d1, d2, d3, d4, d5, d6⟩ := cells7 B1; replace G1 := hide G1; replace o2 := hide o2; replace g1 := hide g1; replace B1 := hide B1)
    go_ret
    exact ⟨a1, _, c1, rfl, unhide GE _ _ _ _ (unhide G1)⟩
  · have hW : writtenL ⟨2, s, o, cd, fin, d, rg⟩ = [1] := by simp [writtenL]
    rw [hW]
    replace hW := hide hW
    go_enter Tryd.func23, Tryd.ntmps23
    go_wp2_with (at_builtin; refine wpList_appendB (by rfl) _ _ (by rfl) base _ l (by rfl) (unhide O1 _ _) _ _ _ [1] (by rfl) (unhide bz _ _ (by simp [W8])) ?_ ?_ ?_; (simp; omega); (simp; omega); intro a1 c1 w1 o2 g1 g2; have G1 := (unhide G0 _).app (World.grownBy_alloc _ _ _) o2 g1 g2; have B1 := unhide hkp _ _ _ _ G1; obtain ⟨d0, d1, d2, d3, d4, d5, d6⟩ := cells7 B1; replace G1 := hide G1; replace o2 := hide o2; replace g1 := hide g1; replace B1 := hide B1)
    go_ret
    exact ⟨a1, _, c1, rfl, unhide GE _ _ _ _ (unhide G1)⟩
  · have hf : fallP rg := p5 rfl
    have hW : writtenL ⟨3, s, o, cd, fin, d, rg⟩ = 2 :: rangesL rg := by simp [writtenL]
    rw [hW]
    replace hW := hide hW
    obtain ⟨n, hn⟩ : ∃ n, n = rg.length := ⟨_, rfl⟩
    rw [← hn] at hrs hl
    have hpos := hf.1
    have hcap := hrs.2.2.1
    have hmax := hrs.2.2.2.1
    unfold maxLen at hmax
    obtain ⟨-, -, -, -, ⟨rfl, h0⟩ | ⟨b, q, rfl, -⟩⟩ := id hrs
    · omega
    have hz : ∀ W, w0.grownBy W none → W.cell? ⟨b, q, none⟩ = some (.int .u64 (rgAt rg 0).lo) ∧ W.cell? ⟨b, q + 1, none⟩ = some (.int .u64 (rgAt rg 0).hi) := fun W g => by
      have := (hrs.gb0 g).cell 0 hpos
      rwa [Nat.zero_mul, Nat.add_zero] at this
    have hv0 := fall_lt hrs.1 hf 0 hpos
    have hle0 := (hf.2 0 hpos).1
    obtain ⟨lo0, hlo0⟩ : ∃ x, x = (rgAt rg 0).lo := ⟨_, rfl⟩
    obtain ⟨hi0, hhi0⟩ : ∃ x, x = (rgAt rg 0).hi := ⟨_, rfl⟩
    have hhead : rgHead rg = varL hi0 ++ varL ((n : Int) - 1) ++ varL (hi0 - lo0) := by rw [hlo0, hhi0, hn]; rfl
    simp only [← hlo0, ← hhi0] at hz hv0 hle0
    obtain ⟨⟨v1, v2⟩, v3, v4⟩ := hv0
    have hw1 := sub64 (x := hi0) (y := lo0) (by omega) (by omega)
    have hwl : IntKind.u64.wrap ((n : Int) - 1) = (n : Int) - 1 := sub64 (by omega) (by omega)
    have i0 : (0 : Int) < (n : Int) := by omega
    have i00 : 0 < n := by omega
    have x1 := varL_len hi0
    have x2 := varL_len ((n : Int) - 1)
    have x3 := varL_len (hi0 - lo0)
    rw [← hn]
    replace hlo0 := hide hlo0
    replace hhi0 := hide hhi0
    replace hhead := hide hhead
    replace hz := hide hz
    replace hpos := hide hpos
    replace hn := hide hn
    go_enter Tryd.func23, Tryd.ntmps23
    go_wp2_with (first | (at_builtin; refine wpList_appendB (by rfl) _ _ (by rfl) base _ l (by rfl) (unhide O1 _ _) _ _ _ [2] (by rfl) (unhide bz _ _ (by simp [W8])) ?_ ?_ ?_; (simp; omega); (simp; omega); intro a1 c1 w1 o2 g1 g2; have G1 := (unhide G0 _).app (World.grownBy_alloc _ _ _) o2 g1 g2; have B1 := unhide hkp _ _ _ _ G1; obtain ⟨d0, d1, d2, d3, d4, d5, d6⟩ := cells7 B1; obtain ⟨z1, z2⟩ := unhide hz w1 (unhide hold _ _ _ _ G1); replace G1 := hide G1; replace o2 := hide o2; replace g1 := hide g1; replace B1 := hide B1))
    refine (varN (unhide G1) (n := hi0) ⟨by omega, by omega⟩ (unhide hbase2 _) (by simp only [List.length_append, List.length_cons, List.length_nil]; omega)).mono ?_
    rintro e w2 ⟨a2, n2, c2, rfl, G2⟩
    have B2 := unhide hkp _ _ _ _ G2
    clear d0 d1 d2 d3 d4 d5 d6 z1 z2
    obtain ⟨d0, d1, d2, d3, d4, d5, d6⟩ := cells7 B2
    replace G2 := hide G2
    replace B2 := hide B2
    go_wp2_with fail
    refine (varN (unhide G2) (n := (n : Int) - 1) ⟨by omega, by omega⟩ (unhide hbase2 _) (by simp only [List.length_append, List.length_cons, List.length_nil]; omega)).mono ?_
    rintro e w3 ⟨a3, n3, c3, rfl, G3⟩
    clear d0 d1 d2 d3 d4 d5 d6
    have hS3 : w3.drew.cell? ⟨w.heap.size, 6, none⟩ = some (.slice (some ⟨b, q, none⟩) n cap) ∧ w3.drew.cell? ⟨b, q, none⟩ = some (.int .u64 lo0) ∧ w3.drew.cell? ⟨b, q + 1, none⟩ = some (.int .u64 hi0) := ⟨(cells7 (unhide hkp _ _ _ _ G3)).2.2.2.2.2.2, unhide hz w3 (unhide hold _ _ _ _ G3)⟩
    replace G3 := hide G3
    go_wp2_with fail
    go_region_held3 (fun w' => w'.cell? ⟨w.heap.size, 6, none⟩ = some (.slice (some ⟨b, q, none⟩) n cap) ∧ w'.cell? ⟨b, q, none⟩ = some (.int .u64 lo0) ∧ w'.cell? ⟨b, q + 1, none⟩ = some (.int .u64 hi0)) (first | with_reducible exact hS4 | with_reducible exact hS3)
      (first | (go_at_call 39; refine (varN ((unhide G3).still (gb_drew (World.grownBy.refl _ _))) (n := hi0 - lo0) ⟨by omega, by omega⟩ (unhide hbase2 _) (by simp only [List.length_append, List.length_cons, List.length_nil]; omega)).mono ?_; rintro e w4 ⟨a4, n4, c4, rfl, G4⟩; have hS4 : w4.cell? ⟨w.heap.size, 6, none⟩ = some (.slice (some ⟨b, q, none⟩) n cap) ∧ w4.cell? ⟨b, q, none⟩ = some (.int .u64 lo0) ∧ w4.cell? ⟨b, q + 1, none⟩ = some (.int .u64 hi0) := ⟨(cells7 (unhide hkp _ _ _ _ G4)).2.2.2.2.2.2, unhide hz w4 (unhide hold _ _ _ _ G4)⟩; replace G4 := hide G4))
    clear hS3 hS4
    go_wp2_with fail
    obtain ⟨ob, hob⟩ : ∃ ob : Obj, ob = .cells #[.int .i64 3, .int .i64 s, .int .u64 o, .int .u64 cd, .bool fin, .string d, .slice (some ⟨b, q, none⟩) n cap] 46 := ⟨_, rfl⟩
    have hG4 : Hid (Grew (w.alloc ob) base (.slice a l.length c) w4 (.slice a4 n4 c4) (l ++ [2] ++ rgHead rg)) := hide (by rw [hob, unhide hhead]; simpa [List.append_assoc] using unhide G4)
    have hx6 : Hid (∀ W : World, W.heap[w.heap.size]? = some ob → W.cell? ⟨w.heap.size, 6, none⟩ = some (.slice (some ⟨b, q, none⟩) n cap)) := hide (fun W hW => by rw [hob] at hW; exact (cells7 hW).2.2.2.2.2.2)
    replace hob := hide hob
    clear G1 G2 G3 G4 o2 g1 g2 B1 B2
    go_loopw [0, 5] (fun v i wr => ∃ (j : Nat) (a' : Option Addr) (n' c' : Nat), j + 1 ≤ n ∧ i = .int .i64 ((j : Int) + 1) ∧ v = .slice a' n' c' ∧ Grew (w.alloc ob) base (.slice a l.length c) wr v (l ++ [2] ++ rgHead rg ++ gapsL rg j)) (fun _ i _ => n - (intOf i).toNat)
    case atStart => exact ⟨0, a4, n4, c4, by omega, rfl, rfl, by simpa [gapsL] using unhide hG4⟩
    case round =>
      obtain ⟨j, a', n', c', hj, rfl, rfl, Gj⟩ := hrel
      have gj := unhide hold _ _ _ _ Gj
      have y6 := unhide hx6 _ (unhide hkp _ _ _ _ Gj)
      by_cases hlt : j + 1 < n
      · obtain ⟨f1, -⟩ := fall_lt hrs.1 hf j (by have := unhide hn; omega)
        obtain ⟨f2, f3⟩ := fall_lt hrs.1 hf (j + 1) (by have := unhide hn; omega)
        have f4 := hf.2 (j + 1) (by have := unhide hn; omega)
        unfold fallAt at f4
        rw [Nat.add_sub_cancel] at f4
        replace f4 := f4.2.2 (by omega)
        have f5 := (hf.2 (j + 1) (by have := unhide hn; omega)).1
        have hcj := fun W (g : w0.grownBy W none) => And.intro ((hrs.gb0 g).cell j (by have := unhide hn; omega)).1 ((hrs.gb0 g).cell (j + 1) (by have := unhide hn; omega))
        have hgap : gapsL rg (j + 1) = gapsL rg j ++ (varL ((rgAt rg j).lo - (rgAt rg (j + 1)).hi - 2) ++ varL ((rgAt rg (j + 1)).hi - (rgAt rg (j + 1)).lo)) := rfl
        generalize (rgAt rg j).lo = x at *
        generalize (rgAt rg (j + 1)).lo = lo1 at *
        generalize (rgAt rg (j + 1)).hi = hi1 at *
        obtain ⟨f10, f11⟩ := f1
        obtain ⟨f20, f21⟩ := f2
        obtain ⟨f22, f23⟩ := f3
        have hw2 := sub64 (x := x) (y := hi1) (by omega) (by omega)
        have hw3 := sub64 (x := x - hi1) (y := 2) (by omega) (by omega)
        have hw4 := sub64 (x := hi1) (y := lo1) (by omega) (by omega)
        have hwi : IntKind.i64.wrap (j : Int) = (j : Int) := by simp [IntKind.wrap, IntKind.bits, IntKind.signed]; omega
        have i1 : (0 : Int) ≤ (j : Int) := by omega
        have i2 : (j : Int) < (n : Int) := by omega
        have i3 : (0 : Int) ≤ (j : Int) + 1 := by omega
        have i4 : (j : Int) + 1 < (n : Int) := by omega
        have x4 := varL_len (x - hi1 - 2)
        have x5 := varL_len (hi1 - lo1)
        have hlen : (l ++ [2] ++ rgHead rg ++ gapsL rg j).length ≤ 85000000 := by
          have q1 := gapsL_len rg j
          rw [unhide hhead]
          simp only [List.length_append, List.length_cons, List.length_nil]; omega
        have hS5 : wr.drew.cell? ⟨w.heap.size, 6, none⟩ = some (.slice (some ⟨b, q, none⟩) n cap) ∧ wr.drew.cell? ⟨b, q + j * 2, none⟩ = some (.int .u64 x) ∧ wr.drew.cell? ⟨b, q + (j + 1) * 2, none⟩ = some (.int .u64 lo1) ∧ wr.drew.cell? ⟨b, q + (j + 1) * 2 + 1, none⟩ = some (.int .u64 hi1) := ⟨y6, (hcj wr gj).1, (hcj wr gj).2⟩
        replace hcj := hide hcj
        replace hgap := hide hgap
        replace hlen := hide hlen
        replace Gj := hide Gj
        clear hG4
        go_wp2_with fail
        clear y6
        go_region_held3 (fun w' => w'.cell? ⟨w.heap.size, 6, none⟩ = some (.slice (some ⟨b, q, none⟩) n cap) ∧ w'.cell? ⟨b, q + j * 2, none⟩ = some (.int .u64 x) ∧ w'.cell? ⟨b, q + (j + 1) * 2, none⟩ = some (.int .u64 lo1) ∧ w'.cell? ⟨b, q + (j + 1) * 2 + 1, none⟩ = some (.int .u64 hi1)) (first | with_reducible exact hS6 | with_reducible exact hS5)
          (first | (go_at_call 39; refine (varN ((unhide Gj).still (gb_drew (World.grownBy.refl _ _))) (n := x - hi1 - 2) ⟨by omega, by omega⟩ (unhide hbase2 _) (by have := unhide hlen; omega)).mono ?_; rintro e w6 ⟨a6, n6, c6, rfl, G6⟩; have hS6 : w6.cell? ⟨w.heap.size, 6, none⟩ = some (.slice (some ⟨b, q, none⟩) n cap) ∧ w6.cell? ⟨b, q + j * 2, none⟩ = some (.int .u64 x) ∧ w6.cell? ⟨b, q + (j + 1) * 2, none⟩ = some (.int .u64 lo1) ∧ w6.cell? ⟨b, q + (j + 1) * 2 + 1, none⟩ = some (.int .u64 hi1) := ⟨unhide hx6 _ (unhide hkp _ _ _ _ G6), (unhide hcj w6 (unhide hold _ _ _ _ G6)).1, (unhide hcj w6 (unhide hold _ _ _ _ G6)).2⟩; replace G6 := hide G6))
        have hS7 : w6.drew.cell? ⟨w.heap.size, 6, none⟩ = some (.slice (some ⟨b, q, none⟩) n cap) ∧ w6.drew.cell? ⟨b, q + (j + 1) * 2, none⟩ = some (.int .u64 lo1) ∧ w6.drew.cell? ⟨b, q + (j + 1) * 2 + 1, none⟩ = some (.int .u64 hi1) := ⟨hS6.1, hS6.2.2⟩
        clear hS5 hS6
        go_wp2_with fail
        go_region_held3 (fun w' => w'.cell? ⟨w.heap.size, 6, none⟩ = some (.slice (some ⟨b, q, none⟩) n cap) ∧ w'.cell? ⟨b, q + (j + 1) * 2, none⟩ = some (.int .u64 lo1) ∧ w'.cell? ⟨b, q + (j + 1) * 2 + 1, none⟩ = some (.int .u64 hi1)) (first | with_reducible exact hS8 | with_reducible exact hS7)
          (first | (go_at_call 39; refine (varN ((unhide G6).still (gb_drew (World.grownBy.refl _ _))) (n := hi1 - lo1) ⟨by omega, by omega⟩ (unhide hbase2 _) (by have := unhide hlen; rw [List.length_append]; omega)).mono ?_; rintro e w8 ⟨a8, n8, c8, rfl, G8⟩; have hS8 : w8.cell? ⟨w.heap.size, 6, none⟩ = some (.slice (some ⟨b, q, none⟩) n cap) ∧ w8.cell? ⟨b, q + (j + 1) * 2, none⟩ = some (.int .u64 lo1) ∧ w8.cell? ⟨b, q + (j + 1) * 2 + 1, none⟩ = some (.int .u64 hi1) := ⟨unhide hx6 _ (unhide hkp _ _ _ _ G8), (unhide hcj w8 (unhide hold _ _ _ _ G8)).2⟩; replace G8 := hide G8))
        clear hS7 hS8
        go_wp2_with fail
        refine ⟨⟨j + 1, a8, n8, c8, by omega, by simp, rfl, ?_⟩, by simp [intOf]; omega⟩
        rw [unhide hgap, ← List.append_assoc, ← List.append_assoc]
        exact unhide G8
      · go_wp2_with fail
        go_ret
        refine ⟨a', n', c', rfl, ?_⟩
        have := unhide GE _ _ _ _ Gj
        have e : j = rg.length - 1 := by have := unhide hn; omega
        rw [e] at this
        simpa [rangesL, List.append_assoc] using this
  · have hW : writtenL ⟨4, s, o, cd, fin, d, rg⟩ = 4 :: (varL s ++ varL cd ++ varL o) := by simp [writtenL]
    rw [hW]
    replace hW := hide hW
    have hws : IntKind.u64.wrap s = s := by rw [IntKind.wrap_u64]; omega
    have v1 := varL_len s
    have v2 := varL_len cd
    have v3 := varL_len o
    go_enter Tryd.func23, Tryd.ntmps23
    go_wp2_with (at_builtin; refine wpList_appendB (by rfl) _ _ (by rfl) base _ l (by rfl) (unhide O1 _ _) _ _ _ [4] (by rfl) (unhide bz _ _ (by simp [W8])) ?_ ?_ ?_; (simp; omega); (simp; omega); intro a1 c1 w1 o2 g1 g2; have G1 := (unhide G0 _).app (World.grownBy_alloc _ _ _) o2 g1 g2; have B1 := unhide hkp _ _ _ _ G1; obtain ⟨d0, d1, d2, d3, d4, d5, d6⟩ := cells7 B1; replace G1 := hide G1; replace o2 := hide o2; replace g1 := hide g1; replace B1 := hide B1)
    refine (varN (unhide G1) (n := s) ⟨by omega, by omega⟩ (unhide hbase2 _) (by simp only [List.length_append, List.length_cons, List.length_nil]; omega)).mono ?_
    rintro e w2 ⟨a2, n2, c2, rfl, G2⟩
    have B2 := unhide hkp _ _ _ _ G2
    obtain ⟨d0, d1, d2, d3, d4, d5, d6⟩ := cells7 B2
    replace G2 := hide G2
    replace B2 := hide B2
    go_wp2_with fail
    refine (varN (unhide G2) (n := cd) ⟨by omega, by omega⟩ (unhide hbase2 _) (by simp only [List.length_append, List.length_cons, List.length_nil]; omega)).mono ?_
    rintro e w3 ⟨a3, n3, c3, rfl, G3⟩
    have B3 := unhide hkp _ _ _ _ G3
    obtain ⟨d0, d1, d2, d3, d4, d5, d6⟩ := cells7 B3
    replace G3 := hide G3
    replace B3 := hide B3
    go_wp2_with fail
    refine (varN (unhide G3) (n := o) ⟨by omega, by omega⟩ (unhide hbase2 _) (by simp only [List.length_append, List.length_cons, List.length_nil]; omega)).mono ?_
    rintro e w4 ⟨a4, n4, c4, rfl, G4⟩
    have B4 := unhide hkp _ _ _ _ G4
    obtain ⟨d0, d1, d2, d3, d4, d5, d6⟩ := cells7 B4
    replace G4 := hide G4
    replace B4 := hide B4
    go_wp2_with fail
    go_ret
    exact ⟨a4, n4, c4, rfl, by have := unhide GE _ _ _ _ (unhide G4); simpa [List.append_assoc] using this⟩
  · have hws : IntKind.u64.wrap s = s := by rw [IntKind.wrap_u64]; omega
    have hwd : IntKind.u64.wrap (d.size : Int) = (d.size : Int) := by rw [IntKind.wrap_u64]; omega
    have v1 := varL_len s
    have v2 := varL_len o
    have v3 := varL_len (d.size : Int)
    cases fin
    · have hW : writtenL ⟨5, s, o, cd, false, d, rg⟩ = 8 :: (varL s ++ varL o ++ varL d.size ++ bl d) := by simp [writtenL]
      rw [hW]
      replace hW := hide hW
      go_enter Tryd.func23, Tryd.ntmps23
      go_wp2_with (at_builtin; refine wpList_appendB (by rfl) _ _ (by rfl) base _ l (by rfl) (unhide O1 _ _) _ _ _ [8] (by rfl) (unhide bz _ _ (by simp [W8])) ?_ ?_ ?_; (simp; omega); (simp; omega); intro a1 c1 w1 o2 g1 g2; have G1 := (unhide G0 _).app (World.grownBy_alloc _ _ _) o2 g1 g2; have B1 := unhide hkp _ _ _ _ G1; obtain ⟨d0, d1, d2, d3, d4, d5, d6⟩ := cells7 B1; replace G1 := hide G1; replace o2 := hide o2; replace g1 := hide g1; replace B1 := hide B1)
      refine (varN (unhide G1) (n := s) ⟨by omega, by omega⟩ (unhide hbase2 _) (by simp only [List.length_append, List.length_cons, List.length_nil]; omega)).mono ?_
      rintro e w2 ⟨a2, n2, c2, rfl, G2⟩
      have B2 := unhide hkp _ _ _ _ G2
      obtain ⟨d0, d1, d2, d3, d4, d5, d6⟩ := cells7 B2
      replace G2 := hide G2
      replace B2 := hide B2
      go_wp2_with fail
      refine (varN (unhide G2) (n := o) ⟨by omega, by omega⟩ (unhide hbase2 _) (by simp only [List.length_append, List.length_cons, List.length_nil]; omega)).mono ?_
      rintro e w3 ⟨a3, n3, c3, rfl, G3⟩
      have B3 := unhide hkp _ _ _ _ G3
      obtain ⟨d0, d1, d2, d3, d4, d5, d6⟩ := cells7 B3
      replace G3 := hide G3
      replace B3 := hide B3
      go_wp2_with fail
      refine (varN (unhide G3) (n := (d.size : Int)) ⟨by omega, by omega⟩ (unhide hbase2 _) (by simp only [List.length_append, List.length_cons, List.length_nil]; omega)).mono ?_
      rintro e w4 ⟨a4, n4, c4, rfl, G4⟩
      have B4 := unhide hkp _ _ _ _ G4
      obtain ⟨d0, d1, d2, d3, d4, d5, d6⟩ := cells7 B4
      replace G4 := hide G4
      replace B4 := hide B4
      go_wp2_with (refine wpList_appendS (by rfl) _ _ (by rfl) base _ _ (by rfl) (unhide G4).own d (by rfl) (by simp only [List.length_append, List.length_cons, List.length_nil]; omega) (Nat.le_trans (unhide hbase2 _) (unhide G4).size) ?_; intro a5 n5 c5 w5 o5 g5 g6)
      go_ret
      exact ⟨a5, n5, c5, rfl, by have := unhide GE _ _ _ _ ((unhide G4).app (World.grownBy.refl _ _) o5 g5 g6); simpa [List.append_assoc] using this⟩
    · have hW : writtenL ⟨5, s, o, cd, true, d, rg⟩ = 9 :: (varL s ++ varL o ++ varL d.size ++ bl d) := by simp [writtenL]
      rw [hW]
      replace hW := hide hW
      go_enter Tryd.func23, Tryd.ntmps23
      go_wp2_with (at_builtin; refine wpList_appendB (by rfl) _ _ (by rfl) base _ l (by rfl) (unhide O1 _ _) _ _ _ [9] (by rfl) (unhide bz _ _ (by simp [W8])) ?_ ?_ ?_; (simp; omega); (simp; omega); intro a1 c1 w1 o2 g1 g2; have G1 := (unhide G0 _).app (World.grownBy_alloc _ _ _) o2 g1 g2; have B1 := unhide hkp _ _ _ _ G1; obtain ⟨d0, d1, d2, d3, d4, d5, d6⟩ := cells7 B1; replace G1 := hide G1; replace o2 := hide o2; replace g1 := hide g1; replace B1 := hide B1)
      refine (varN (unhide G1) (n := s) ⟨by omega, by omega⟩ (unhide hbase2 _) (by simp only [List.length_append, List.length_cons, List.length_nil]; omega)).mono ?_
      rintro e w2 ⟨a2, n2, c2, rfl, G2⟩
      have B2 := unhide hkp _ _ _ _ G2
      obtain ⟨d0, d1, d2, d3, d4, d5, d6⟩ := cells7 B2
      replace G2 := hide G2
      replace B2 := hide B2
      go_wp2_with fail
      refine (varN (unhide G2) (n := o) ⟨by omega, by omega⟩ (unhide hbase2 _) (by simp only [List.length_append, List.length_cons, List.length_nil]; omega)).mono ?_
      rintro e w3 ⟨a3, n3, c3, rfl, G3⟩
      have B3 := unhide hkp _ _ _ _ G3
      obtain ⟨d0, d1, d2, d3, d4, d5, d6⟩ := cells7 B3
      replace G3 := hide G3
      replace B3 := hide B3
      go_wp2_with fail
      refine (varN (unhide G3) (n := (d.size : Int)) ⟨by omega, by omega⟩ (unhide hbase2 _) (by simp only [List.length_append, List.length_cons, List.length_nil]; omega)).mono ?_
      rintro e w4 ⟨a4, n4, c4, rfl, G4⟩
      have B4 := unhide hkp _ _ _ _ G4
      obtain ⟨d0, d1, d2, d3, d4, d5, d6⟩ := cells7 B4
      replace G4 := hide G4
      replace B4 := hide B4
      go_wp2_with (refine wpList_appendS (by rfl) _ _ (by rfl) base _ _ (by rfl) (unhide G4).own d (by rfl) (by simp only [List.length_append, List.length_cons, List.length_nil]; omega) (Nat.le_trans (unhide hbase2 _) (unhide G4).size) ?_; intro a5 n5 c5 w5 o5 g5 g6)
      go_ret
      exact ⟨a5, n5, c5, rfl, by have := unhide GE _ _ _ _ ((unhide G4).app (World.grownBy.refl _ _) o5 g5 g6); simpa [List.append_assoc] using this⟩
  · have hW : writtenL ⟨6, s, o, cd, fin, d, rg⟩ = 28 :: varL cd := by simp [writtenL]
    rw [hW]
    replace hW := hide hW
    go_enter Tryd.func23, Tryd.ntmps23
    go_wp2_with (at_builtin; refine wpList_appendB (by rfl) _ _ (by rfl) base _ l (by rfl) (unhide O1 _ _) _ _ _ [28] (by rfl) (unhide bz _ _ (by simp [W8])) ?_ ?_ ?_; (simp; omega); (simp; omega); intro a1 c1 w1 o2 g1 g2; have G1 := (unhide G0 _).app (World.grownBy_alloc _ _ _) o2 g1 g2; have B1 := unhide hkp _ _ _ _ G1; obtain ⟨d0, d1, d2, d3, d4, d5, d6⟩ := cells7 B1; replace G1 := hide G1; replace o2 := hide o2; replace g1 := hide g1; replace B1 := hide B1)
    refine (varN (unhide G1) (n := cd) ⟨by omega, by omega⟩ (unhide hbase2 _) (by simp only [List.length_append, List.length_cons, List.length_nil]; omega)).mono ?_
    rintro e w2 ⟨a2, n2, c2, rfl, G2⟩
    have B2 := unhide hkp _ _ _ _ G2
    obtain ⟨d0, d1, d2, d3, d4, d5, d6⟩ := cells7 B2
    replace G2 := hide G2
    replace B2 := hide B2
    go_wp2_with fail
    go_ret
    exact ⟨a2, n2, c2, rfl, by have := unhide GE _ _ _ _ (unhide G2); simpa [List.append_assoc] using this⟩
end Go.Proofs.YtjnmokmchdfchaaDoor
