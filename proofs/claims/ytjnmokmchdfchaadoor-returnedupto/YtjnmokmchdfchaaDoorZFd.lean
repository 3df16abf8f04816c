import Derived.Test.YtjnmokmchdfchaaDoorZAs
import Derived.Laws.EntriesVeiled
namespace Go.Proofs.YtjnmokmchdfchaaDoor
open Go.RowKit
attribute [local go_sem ↓] Go.wp_at_zero Go.wp_at_succ

/-- What the parts of a frame write, one behind the other. -/
def joinL : List (List Int) → List Int
  | [] => []
  | x :: r => x ++ joinL r
theorem joinL_append (l r : List (List Int)) : joinL (l ++ r) = joinL l ++ joinL r := by
  induction l with
  | nil => rfl
  | cons x l ih => simp [joinL, ih]
theorem joinL_take (l : List (List Int)) (j : Nat) (h : j < l.length) : joinL (l.take (j + 1)) = joinL (l.take j) ++ l.getD j [] := by
  rw [List.take_succ_eq_append_getElem h, joinL_append, List.getD, List.getElem?_eq_getElem h]
  simp [joinL]
theorem joinL_le (l : List (List Int)) (j : Nat) : (joinL (l.take j)).length ≤ (joinL l).length := by
  have h := congrArg List.length (congrArg joinL (List.take_append_drop j l))
  rw [joinL_append, List.length_append] at h
  omega
/-- The parts of a shape in memory, with what they write of this frame. -/
def Parts (W0 : World) (f : Fr) (rv pv : Value) (chs : List (List Int)) : Prop :=
  ∃ pa pc, pv = .slice pa chs.length pc ∧ chs.length ≤ 3 ∧ chs.length ≤ pc ∧ (chs = [] ∨ ∃ P, pa = some ⟨P, 0, none⟩ ∧ ∀ i, i < chs.length → ∃ wv R rcap, W0.cell? ⟨P, i * 2, none⟩ = some wv ∧ W0.cell? ⟨P, i * 2 + 1, none⟩ = some (.func (.func R) #[] rcap) ∧ Wr W0 f rv wv (chs.getD i []))
theorem boxes2 {w w3 : World} {r : Option Nat} {o1 o2 o3 : Obj} (g3 : (((w.alloc o1).alloc o2).alloc o3).grownBy w3 r) (hr : ∀ j, r = some j → j < w.heap.size) : w3.heap[w.heap.size]? = some o1 ∧ w3.heap[w.heap.size + 1]? = some o2 := by
  constructor
  · rw [g3.block w.heap.size (by simp; omega) (fun e => by have := hr _ e.symm; omega), Below.heap_alloc _ _ _ (by simp; omega), Below.heap_alloc _ _ _ (by simp)]
    exact heap_alloc_new _ _
  · rw [g3.block (w.heap.size + 1) (by simp) (fun e => by have := hr _ e.symm; omega), Below.heap_alloc _ _ _ (by simp), ← World.size_alloc w o1]
    exact heap_alloc_new _ _
set_option maxRecDepth 100000 in
set_option maxHeartbeats 2000000 in
theorem shapeWrite_any (W0 : World) (f : Fr) (rv pv : Value) (chs : List (List Int)) (k0 : Int) (fin0 : Bool) (t : Int) (ht : W8 t) (hp : Parts W0 f rv pv chs)
    (w : World) (base : Nat) (a : Option Addr) (n c : Nat) (m : List Int) (g0 : W0.grownBy w none) (hb0 : W0.heap.size ≤ base) (hbase : base ≤ w.heap.size) (ho : OwnB w base (.slice a n c) m) (hl : m.length + 1 + (joinL chs).length + 16 * f.ranges.length + f.data.size ≤ 79000000) :
    Calls Tryd.prog 57 #[.agg #[.int .i64 k0, .bool fin0, .int .u8 t, pv], .slice a n c, .agg (frA f rv)] w fun e w' => ∃ a' n' c', e = .returned (.slice a' n' c') ∧ Grew w base (.slice a n c) w' (.slice a' n' c') (m ++ (t :: joinL chs)) := by
  obtain ⟨pa, pc, rfl, hc3, hcp, hcs⟩ := hp
  obtain ⟨k, s, o, cd, fin, d, rg⟩ := f
  have hl2 : m.length + 1 + (joinL chs).length + 16 * rg.length + d.size ≤ 79000000 := hl
  have hn : n = m.length := ho.bsv.2.1
  subst hn
  simp only [frA] at *
  have gW : w.grownBy ((w.alloc (.cells #[.int .i64 k0, .bool fin0, .int .u8 t, .slice pa chs.length pc] 94)).alloc (.cells #[.int .i64 k, .int .i64 s, .int .u64 o, .int .u64 cd, .bool fin, .string d, rv] 46)) none := gb_alloc (gb_alloc (World.grownBy.refl _ _) _) _
  have bz := one_new ((w.alloc (.cells #[.int .i64 k0, .bool fin0, .int .u8 t, .slice pa chs.length pc] 94)).alloc (.cells #[.int .i64 k, .int .i64 s, .int .u64 o, .int .u64 cd, .bool fin, .string d, rv] 46)) t ht
  have G1 := ((Grew.refl ho).still gW).still (World.grownBy_alloc _ (.cells #[.int .u8 t] 5) none)
  rw [World.size_alloc, World.size_alloc] at bz
  have o1 := hide G1.own
  replace G1 := hide G1
  replace bz := hide bz
  have hol := hide (fun j (e : (Value.slice a m.length c).ownBlock = some j) => (ho.lt j e).2)
  go_enter Tryd.func57, Tryd.ntmps57
  go_wp2_with (at_builtin; refine wpList_appendB (by rfl) _ _ (by rfl) base _ m (by rfl) (unhide o1) _ _ _ [t] (by rfl) (unhide bz) ?_ ?_ ?_; (simp; omega); (simp; omega); intro a3 c3 w3 o3 g3 g4; obtain ⟨hbs, hbf⟩ := boxes2 g3 (unhide hol); replace hbs : w3.cell? ⟨w.heap.size, 3, none⟩ = some (.slice pa chs.length pc) := (by simp [World.cell?, hbs]); replace o3 := hide o3; replace g3 := hide g3; replace g4 := hide g4; replace hbf := hide hbf)
  clear hbs bz o1
  have hG3 : Hid (Grew w base (.slice a m.length c) w3 (.slice a3 (m.length + 1) c3) (m ++ [t])) := hide ((unhide G1).app (World.grownBy.refl _ _) (unhide o3) (unhide g3) (unhide g4))
  have hne3 : Hid ((Value.slice a3 (m.length + 1) c3).ownBlock ≠ some (w.heap.size + 1)) := hide (by
    have g5 : (Value.slice a3 (m.length + 1) c3).ownBlock = (Value.slice a m.length c).ownBlock ∨ (Value.slice a3 (m.length + 1) c3).ownBlock = some (((w.alloc _).alloc _).alloc _).heap.size := unhide g4
    rcases g5 with e | e
    · rw [e]; exact fun h => by have := unhide hol _ h; omega
    · rw [e]; simp; omega)
  clear o3 g3 g4 G1
  obtain ⟨N, hN⟩ : ∃ N, N = chs.length := ⟨_, rfl⟩
  rw [← hN]
  rw [← hN] at hc3 hcp
  replace hN := hide hN
  go_loopw [1, 17] (fun v i wr => ∃ (j : Nat) (a' : Option Addr) (n' c' : Nat), j ≤ N ∧ i = .int .i64 (j : Int) ∧ v = .slice a' n' c' ∧ Grew w base (.slice a m.length c) wr v (m ++ t :: joinL (chs.take j)) ∧ v.ownBlock ≠ some (w.heap.size + 1) ∧ wr.heap[w.heap.size + 1]? = some (.cells #[.int .i64 k, .int .i64 s, .int .u64 o, .int .u64 cd, .bool fin, .string d, rv] 46 (0, 0))) (fun _ i _ => N - (intOf i).toNat)
  case atStart => exact ⟨0, a3, _, c3, by omega, rfl, rfl, by simpa [joinL] using unhide hG3, unhide hne3, unhide hbf⟩
  case round =>
    obtain ⟨j, a', n', c', hj, rfl, rfl, Gj, hne, hbx⟩ := hrel
    by_cases hlt : j < N
    · rcases hcs with rfl | ⟨P, rfl, hcs⟩
      · have := unhide hN; simp at this; omega
      · obtain ⟨wv, R, rcap, q1, q2, F, cap, rfl, hE, hF⟩ := hcs j (by have := unhide hN; omega)
        have gj := Gj.old g0 ho hb0
        replace q1 := gj.cell q1 (by simp)
        replace q2 := gj.cell q2 (by simp)
        have hbx1 : ∀ ob, (wr.alloc ob).heap[w.heap.size + 1]? = some (.cells #[.int .i64 k, .int .i64 s, .int .u64 o, .int .u64 cd, .bool fin, .string d, rv] 46 (0, 0)) := fun ob => by
          rw [Below.heap_alloc _ _ _ (Array.getElem?_eq_some_iff.1 hbx).1]; exact hbx
        replace hbx1 := hbx1 (.cells #[.func (.func F) #[] cap, .func (.func R) #[] rcap] 125)
        have r0 : (wr.alloc (.cells #[.func (.func F) #[] cap, .func (.func R) #[] rcap] 125)).cell? ⟨w.heap.size + 1, 0, none⟩ = some (.int .i64 k) := by simp only [World.cell?, hbx1]; rfl
        have r1 : (wr.alloc (.cells #[.func (.func F) #[] cap, .func (.func R) #[] rcap] 125)).cell? ⟨w.heap.size + 1, 1, none⟩ = some (.int .i64 s) := by simp only [World.cell?, hbx1]; rfl
        have r2 : (wr.alloc (.cells #[.func (.func F) #[] cap, .func (.func R) #[] rcap] 125)).cell? ⟨w.heap.size + 1, 2, none⟩ = some (.int .u64 o) := by simp only [World.cell?, hbx1]; rfl
        have r3 : (wr.alloc (.cells #[.func (.func F) #[] cap, .func (.func R) #[] rcap] 125)).cell? ⟨w.heap.size + 1, 3, none⟩ = some (.int .u64 cd) := by simp only [World.cell?, hbx1]; rfl
        have r4 : (wr.alloc (.cells #[.func (.func F) #[] cap, .func (.func R) #[] rcap] 125)).cell? ⟨w.heap.size + 1, 4, none⟩ = some (.bool fin) := by simp only [World.cell?, hbx1]; rfl
        have r5 : (wr.alloc (.cells #[.func (.func F) #[] cap, .func (.func R) #[] rcap] 125)).cell? ⟨w.heap.size + 1, 5, none⟩ = some (.string d) := by simp only [World.cell?, hbx1]; rfl
        have r6 : (wr.alloc (.cells #[.func (.func F) #[] cap, .func (.func R) #[] rcap] 125)).cell? ⟨w.heap.size + 1, 6, none⟩ = some rv := by simp only [World.cell?, hbx1]; rfl
        have i1 : (0 : Int) ≤ (j : Int) := by omega
        have i2 : (j : Int) < (N : Int) := by omega
        replace hbx := hide hbx
        replace hbx1 := hide hbx1
        replace hF := hide hF
        replace Gj := hide Gj
        replace gj := hide gj
        replace hne := hide hne
        clear hcs
        go_wp2_with fail
        refine (unhide hF (wr.alloc (.cells #[.func (.func F) #[] cap, .func (.func R) #[] rcap] 125)) base a' n' c' _ (gb_alloc (unhide gj) _) hb0 ?_ ((unhide Gj).still (World.grownBy_alloc _ _ _)).own ?_).mono ?_
        · have := (unhide Gj).size; simp; omega
        · have := joinL_le chs j; simp only [List.length_append, List.length_cons]; omega
        rintro e w5 ⟨a5, n5, c5, rfl, G5⟩
        have hx5 := G5.apart (B := w.heap.size + 1) (by have := (Array.getElem?_eq_some_iff.1 (unhide hbx)).1; simp; omega) (unhide hne)
        go_wp2_with fail
        go_roundw
        case rel =>
          refine ⟨j + 1, a5, n5, c5, by omega, by simp, rfl, ?_, hx5.2, hx5.1.trans (unhide hbx1)⟩
          rw [joinL_take chs j (by have := unhide hN; omega)]
          have := ((unhide Gj).still (World.grownBy_alloc _ _ _)).trans G5
          simpa [List.append_assoc] using this
        case measure => simp [intOf]; omega
    · obtain rfl : j = N := by omega
      go_wp2_with fail
      go_ret
      refine ⟨a', n', c', rfl, ?_⟩
      rw [List.take_of_length_le (by rw [← unhide hN]; exact Nat.le_refl _)] at Gj
      exact Gj
end Go.Proofs.YtjnmokmchdfchaaDoor
namespace Go.Proofs.YtjnmokmchdfchaaDoor
open Go.RowKit
attribute [local go_sem ↓] Go.wp_at_zero Go.wp_at_succ

def fnV (n : Nat) (cap : Array Value) : Value := .func (.func n) #[] cap
def sW : Value := .func (.func 88) #[] #[]
def sR : Value := .func (.func 90) #[] #[]
def rW : Value := .func (.func 92) #[] #[]
def rR : Value := .func (.func 94) #[] #[]
def bW : Value := .func (.func 96) #[] #[]
def bR : Value := .func (.func 97) #[] #[]
def nW (B : Nat) : Value := .func (.func 99) #[] #[.pointer (some ⟨B, 0, none⟩)]
def nR (B : Nat) : Value := .func (.func 100) #[] #[.pointer (some ⟨B, 0, none⟩)]
theorem mkf (fn : Fn) (first cap : Array Value) (w : World) : (Instr.makeFunc fn first cap).run Tryd.prog w = .ok (.func fn first cap) w := rfl
set_option maxRecDepth 100000 in
theorem streamPart_any (w : World) : Calls Tryd.prog 74 #[] w fun e w' => e = .returned (.agg #[.func (.func 88) #[] #[], .func (.func 90) #[] #[]]) ∧ w.grownBy w' none := by
  have hmf := mkf
  go_enter Tryd.func74, Tryd.ntmps74
  go_wp2_with fail
  refine bodyPost_ret (v := .agg #[.func (.func 88) #[] #[], .func (.func 90) #[] #[]]) ?_ rfl ⟨rfl, ?_⟩
  · simp [results, Tryd.results74, go_sem]
  · exact World.grownBy_alloc _ _ _
set_option maxRecDepth 100000 in
theorem rangesPart_any (w : World) : Calls Tryd.prog 75 #[] w fun e w' => e = .returned (.agg #[.func (.func 92) #[] #[], .func (.func 94) #[] #[]]) ∧ w.grownBy w' none := by
  have hmf := mkf
  go_enter Tryd.func75, Tryd.ntmps75
  go_wp2_with fail
  refine bodyPost_ret (v := .agg #[.func (.func 92) #[] #[], .func (.func 94) #[] #[]]) ?_ rfl ⟨rfl, ?_⟩
  · simp [results, Tryd.results75, go_sem]
  · exact World.grownBy_alloc _ _ _
set_option maxRecDepth 100000 in
theorem bytesPart_any (w : World) : Calls Tryd.prog 76 #[] w fun e w' => e = .returned (.agg #[.func (.func 96) #[] #[], .func (.func 97) #[] #[]]) ∧ w.grownBy w' none := by
  have hmf := mkf
  go_enter Tryd.func76, Tryd.ntmps76
  go_wp2_with fail
  refine bodyPost_ret (v := .agg #[.func (.func 96) #[] #[], .func (.func 97) #[] #[]]) ?_ rfl ⟨rfl, ?_⟩
  · simp [results, Tryd.results76, go_sem]
  · exact World.grownBy_alloc _ _ _
set_option maxRecDepth 100000 in
theorem numberPart_any (F B : Nat) (w : World) (hB : B = w.heap.size) : Calls Tryd.prog 77 #[.func (.func F) #[] #[]] w fun e w' => e = .returned (.agg #[.func (.func 99) #[] #[.pointer (some ⟨B, 0, none⟩)], .func (.func 100) #[] #[.pointer (some ⟨B, 0, none⟩)]]) ∧ w'.cell? ⟨B, 0, none⟩ = some (.func (.func F) #[] #[]) ∧ w.grownBy w' none := by
  subst hB
  have hmf := mkf
  go_enter Tryd.func77, Tryd.ntmps77
  go_wp2_with fail
  refine bodyPost_ret (v := .agg #[.func (.func 99) #[] #[.pointer (some ⟨w.heap.size, 0, none⟩)], .func (.func 100) #[] #[.pointer (some ⟨w.heap.size, 0, none⟩)]]) ?_ rfl ⟨rfl, ?_, ?_⟩
  · simp [results, Tryd.results77, go_sem]
  · simp
  · exact gb_alloc (World.grownBy_alloc _ _ _) _
def tabCells (P2 P3 P4 P5 P6 : Nat) : List Value :=
  [.int .i64 1, .bool false, .int .u8 0, .slice none 0 0,
   .int .i64 2, .bool false, .int .u8 1, .slice none 0 0,
   .int .i64 3, .bool false, .int .u8 2, .slice (some ⟨P2, 0, none⟩) 1 1,
   .int .i64 4, .bool false, .int .u8 4, .slice (some ⟨P3, 0, none⟩) 3 3,
   .int .i64 5, .bool false, .int .u8 8, .slice (some ⟨P4, 0, none⟩) 3 3,
   .int .i64 5, .bool true, .int .u8 9, .slice (some ⟨P5, 0, none⟩) 3 3,
   .int .i64 6, .bool false, .int .u8 28, .slice (some ⟨P6, 0, none⟩) 1 1]
/-- The table of shapes in memory. -/
structure Tab (W : World) (T P2 P3 P4 P5 P6 Bo Bc : Nat) : Prop where
  tab : W.rangeAt T 0 (tabCells P2 P3 P4 P5 P6)
  p2 : W.rangeAt P2 0 [rW, rR]
  p3 : W.rangeAt P3 0 [sW, sR, nW Bc, nR Bc, nW Bo, nR Bo]
  p4 : W.rangeAt P4 0 [sW, sR, nW Bo, nR Bo, bW, bR]
  p5 : W.rangeAt P5 0 [sW, sR, nW Bo, nR Bo, bW, bR]
  p6 : W.rangeAt P6 0 [nW Bc, nR Bc]
  bo : W.cell? ⟨Bo, 0, none⟩ = some (.func (.func 78) #[] #[])
  bc : W.cell? ⟨Bc, 0, none⟩ = some (.func (.func 79) #[] #[])
theorem Tab.gb0 {w w' : World} {T P2 P3 P4 P5 P6 Bo Bc : Nat} (h : Tab w T P2 P3 P4 P5 P6 Bo Bc) (g : w.grownBy w' none) : Tab w' T P2 P3 P4 P5 P6 Bo Bc :=
  ⟨range_gb h.tab g (by simp), range_gb h.p2 g (by simp), range_gb h.p3 g (by simp), range_gb h.p4 g (by simp), range_gb h.p5 g (by simp), range_gb h.p6 g (by simp), g.cell h.bo (by simp), g.cell h.bc (by simp)⟩
theorem al7 (w : World) (o0 o1 o2 o3 o4 o5 o6 : Obj) (W : World) (h : W = ((((((w.alloc o0).alloc o1).alloc o2).alloc o3).alloc o4).alloc o5).alloc o6) :
    W.heap[w.heap.size + 1]? = some o1 ∧ W.heap[w.heap.size + 1 + 1]? = some o2 ∧ W.heap[w.heap.size + 1 + 1 + 1]? = some o3 ∧ W.heap[w.heap.size + 1 + 1 + 1 + 1]? = some o4 ∧ W.heap[w.heap.size + 1 + 1 + 1 + 1 + 1]? = some o5 ∧ W.heap[w.heap.size + 1 + 1 + 1 + 1 + 1 + 1]? = some o6 ∧ w.grownBy W none := by
  subst h
  refine ⟨?_, ?_, ?_, ?_, ?_, ?_, gb_alloc (gb_alloc (gb_alloc (gb_alloc (gb_alloc (gb_alloc (World.grownBy_alloc _ _ _) _) _) _) _) _) _⟩
  all_goals
    simp only [World.alloc, Array.getElem?_push, Array.size_push]
    repeat (first | rw [if_pos trivial] | rw [if_pos (by omega)] | rw [if_neg (by omega)])
set_option maxRecDepth 100000 in
set_option maxHeartbeats 2000000 in
theorem shapes_any (w : World) : Calls Tryd.prog 54 #[] w fun e w' => ∃ T P2 P3 P4 P5 P6 Bo Bc, e = .returned (.slice (some ⟨T, 0, none⟩) 7 7) ∧ Tab w' T P2 P3 P4 P5 P6 Bo Bc ∧ w.grownBy w' none := by
  go_enter Tryd.func54, Tryd.ntmps54
  go_wp2_with fail
  refine (streamPart_any _).mono ?_
  rintro e w1 ⟨rfl, g1⟩
  go_wp2_with fail
  refine (rangesPart_any _).mono ?_
  rintro e w2 ⟨rfl, g2⟩
  go_wp2_with fail
  refine (bytesPart_any _).mono ?_
  rintro e w3 ⟨rfl, g3⟩
  go_wp2_with fail
  obtain ⟨A, hA⟩ : ∃ A, A = w3.heap.size := ⟨_, rfl⟩
  obtain ⟨W3, hW3⟩ : ∃ W, W = (((w3.alloc (.cells #[.func (.func 88) #[] #[], .func (.func 90) #[] #[]] 125)).alloc (.cells #[.func (.func 92) #[] #[], .func (.func 94) #[] #[]] 125)).alloc (.cells #[.func (.func 96) #[] #[], .func (.func 97) #[] #[]] 125)) := ⟨_, rfl⟩
  have hx : W3.heap[A]? = some (.cells #[.func (.func 88) #[] #[], .func (.func 90) #[] #[]] 125 (0, 0)) ∧ W3.heap[A + 1]? = some (.cells #[.func (.func 92) #[] #[], .func (.func 94) #[] #[]] 125 (0, 0)) ∧ W3.heap[A + 1 + 1]? = some (.cells #[.func (.func 96) #[] #[], .func (.func 97) #[] #[]] 125 (0, 0)) := by
    rw [hW3, hA]
    refine ⟨?_, ?_, ?_⟩
    · rw [Below.heap_alloc _ _ _ (by simp; omega), Below.heap_alloc _ _ _ (by simp)]; exact heap_alloc_new _ _
    · rw [Below.heap_alloc _ _ _ (by simp), ← World.size_alloc w3 (.cells #[.func (.func 88) #[] #[], .func (.func 90) #[] #[]] 125)]; exact heap_alloc_new _ _
    · have := heap_alloc_new ((w3.alloc (.cells #[.func (.func 88) #[] #[], .func (.func 90) #[] #[]] 125)).alloc (.cells #[.func (.func 92) #[] #[], .func (.func 94) #[] #[]] 125)) (.cells #[.func (.func 96) #[] #[], .func (.func 97) #[] #[]] 125)
      rwa [World.size_alloc, World.size_alloc] at this
  have hs3 : W3.heap.size = A + 3 := by rw [hW3, hA]; simp
  have gW3 : w.grownBy W3 none := by rw [hW3]; exact gb_alloc (gb_alloc (gb_alloc (gb_trans (gb_trans g1 g2) g3) _) _) _
  rw [← hW3]
  simp only [← hA]
  replace hW3 := hide hW3
  replace hA := hide hA
  replace hx := hide hx
  clear g1 g2 g3
  refine (numberPart_any 78 (A + 3) W3 hs3.symm).mono ?_
  rintro e w4 ⟨rfl, c4, g4⟩
  have hs4 := g4.size
  replace c4 := hide c4
  go_wp2_with fail
  obtain ⟨W4, hW4⟩ : ∃ W, W = w4.alloc (.cells #[.func (.func 99) #[] #[.pointer (some ⟨A + 3, 0, none⟩)], .func (.func 100) #[] #[.pointer (some ⟨A + 3, 0, none⟩)]] 125) := ⟨_, rfl⟩
  have hx4 : W4.heap[w4.heap.size]? = some (.cells #[.func (.func 99) #[] #[.pointer (some ⟨A + 3, 0, none⟩)], .func (.func 100) #[] #[.pointer (some ⟨A + 3, 0, none⟩)]] 125 (0, 0)) := by rw [hW4]; exact heap_alloc_new _ _
  have gW4 : w4.grownBy W4 none := by rw [hW4]; exact World.grownBy_alloc _ _ _
  have hsW4 : W4.heap.size = w4.heap.size + 1 := by rw [hW4]; simp
  rw [← hW4]
  replace hW4 := hide hW4
  replace hx4 := hide hx4
  refine (numberPart_any 79 (w4.heap.size + 1) W4 hsW4.symm).mono ?_
  rintro e w5 ⟨rfl, c5, g5⟩
  have hs5 := g5.size
  replace c5 := hide c5
  obtain ⟨D, hD⟩ : ∃ D, D = w4.heap.size := ⟨_, rfl⟩
  simp only [← hD] at *
  have hH : Hid (∀ W, w5.grownBy W none → W.heap[A]? = some (.cells #[.func (.func 88) #[] #[], .func (.func 90) #[] #[]] 125 (0, 0)) ∧ W.heap[A + 1]? = some (.cells #[.func (.func 92) #[] #[], .func (.func 94) #[] #[]] 125 (0, 0)) ∧ W.heap[A + 1 + 1]? = some (.cells #[.func (.func 96) #[] #[], .func (.func 97) #[] #[]] 125 (0, 0)) ∧ W.heap[D]? = some (.cells #[.func (.func 99) #[] #[.pointer (some ⟨A + 3, 0, none⟩)], .func (.func 100) #[] #[.pointer (some ⟨A + 3, 0, none⟩)]] 125 (0, 0)) ∧ W.cell? ⟨A + 3, 0, none⟩ = some (.func (.func 78) #[] #[]) ∧ W.cell? ⟨D + 1, 0, none⟩ = some (.func (.func 79) #[] #[])) := hide (fun W g => by
    have q := gb_trans (gb_trans (gb_trans g4 gW4) g5) g
    have q2 := gb_trans g5 g
    obtain ⟨y1, y2, y3⟩ := unhide hx
    exact ⟨(q.block A (by omega) (by simp)).trans y1, (q.block (A + 1) (by omega) (by simp)).trans y2, (q.block (A + 1 + 1) (by omega) (by simp)).trans y3, (q2.block D (by omega) (by simp)).trans (unhide hx4), (gb_trans (gb_trans gW4 g5) g).cell (unhide c4) (by simp), g.cell (unhide c5) (by simp)⟩)
  have gw5 : w.grownBy w5 none := gb_trans (gb_trans (gb_trans gW3 g4) gW4) g5
  clear hx hx4 c4 c5 g4 gW4 g5 gW3
  replace gw5 := hide gw5
  have hH5 : Hid (∀ W, (w5.alloc (.cells #[.func (.func 99) #[] #[.pointer (some ⟨D + 1, 0, none⟩)], .func (.func 100) #[] #[.pointer (some ⟨D + 1, 0, none⟩)]] 125)).grownBy W none → W.heap[w5.heap.size]? = some (.cells #[.func (.func 99) #[] #[.pointer (some ⟨D + 1, 0, none⟩)], .func (.func 100) #[] #[.pointer (some ⟨D + 1, 0, none⟩)]] 125 (0, 0))) := hide (fun W g => (g.block w5.heap.size (by simp) (by simp)).trans (heap_alloc_new _ _))
  have hip : Hid ((Tryd.prog.info? 125).map (·.size) = some 2) := hide (by kernel_rfl)
  go_wp2_with (first
    | (refine wpList_load_row (by rfl) 125 _ (by rfl) A (by rfl) 125 _ (0, 0) _ ((unhide hH _ ?_).1) Tryd.underlying125 (by rfl) (unhide hip) ?_; (repeat (first | exact World.grownBy.refl _ _ | refine gb_alloc ?_ _)))
    | (refine wpList_load_row (by rfl) 125 _ (by rfl) (A + 1) (by rfl) 125 _ (0, 0) _ ((unhide hH _ ?_).2.1) Tryd.underlying125 (by rfl) (unhide hip) ?_; (repeat (first | exact World.grownBy.refl _ _ | refine gb_alloc ?_ _)))
    | (refine wpList_load_row (by rfl) 125 _ (by rfl) (A + 1 + 1) (by rfl) 125 _ (0, 0) _ ((unhide hH _ ?_).2.2.1) Tryd.underlying125 (by rfl) (unhide hip) ?_; (repeat (first | exact World.grownBy.refl _ _ | refine gb_alloc ?_ _)))
    | (refine wpList_load_row (by rfl) 125 _ (by rfl) D (by rfl) 125 _ (0, 0) _ ((unhide hH _ ?_).2.2.2.1) Tryd.underlying125 (by rfl) (unhide hip) ?_; (repeat (first | exact World.grownBy.refl _ _ | refine gb_alloc ?_ _)))
    | (refine wpList_load_row (by rfl) 125 _ (by rfl) w5.heap.size (by rfl) 125 _ (0, 0) _ (unhide hH5 _ ?_) Tryd.underlying125 (by rfl) (unhide hip) ?_; (repeat (first | exact World.grownBy.refl _ _ | refine gb_alloc ?_ _))))
  go_ret
  obtain ⟨h1, h2, h3, h4, h5, h6, hg⟩ := al7 w5 _ _ _ _ _ _ _ _ rfl
  obtain ⟨-, -, -, -, hbo, hbc⟩ := unhide hH _ hg
  exact ⟨_, w5.heap.size + 1, w5.heap.size + 1 + 1, w5.heap.size + 1 + 1 + 1, w5.heap.size + 1 + 1 + 1 + 1, w5.heap.size + 1 + 1 + 1 + 1 + 1, A + 3, D + 1, rfl, ⟨range_block h6, range_block h1, range_block h2, range_block h3, range_block h4, range_block h5, hbo, hbc⟩, gb_trans (unhide gw5) hg⟩
end Go.Proofs.YtjnmokmchdfchaaDoor
