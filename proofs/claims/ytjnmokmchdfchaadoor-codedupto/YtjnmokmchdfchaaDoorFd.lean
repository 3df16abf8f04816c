import Derived.Test.YtjnmokmchdfchaaDoorFc
import Derived.Laws.EntriesVeiled
namespace Go.Proofs.YtjnmokmchdfchaaDoor
open Go.RowKit
attribute [local go_sem ↓] Go.wp_at_zero Go.wp_at_succ

/-- What the parts of a frame write, one behind the other. -/
def joinL : List (List Int) → List Int
  | [] => []
  | x :: r => x ++ joinL r
theorem joinL_append (l r : List (List Int)) : joinL (l ++ r) = joinL l ++ joinL r := by
  induction l with
  | nil => rfl
  | cons x l ih => simp [joinL, ih]
theorem joinL_take (l : List (List Int)) (j : Nat) (h : j < l.length) : joinL (l.take (j + 1)) = joinL (l.take j) ++ l.getD j [] := by
  rw [List.take_succ_eq_append_getElem h, joinL_append, List.getD, List.getElem?_eq_getElem h]
  simp [joinL]
theorem joinL_le (l : List (List Int)) (j : Nat) : (joinL (l.take j)).length ≤ (joinL l).length := by
  have h := congrArg List.length (congrArg joinL (List.take_append_drop j l))
  rw [joinL_append, List.length_append] at h
  omega
/-- The parts of a shape in memory, with what they write of this frame. -/
def Parts (W0 : World) (f : Fr) (rv pv : Value) (chs : List (List Int)) : Prop :=
  ∃ pa pc, pv = .slice pa chs.length pc ∧ chs.length ≤ 3 ∧ chs.length ≤ pc ∧ (chs = [] ∨ ∃ P, pa = some ⟨P, 0, none⟩ ∧ ∀ i, i < chs.length → ∃ wv R rcap, W0.cell? ⟨P, i * 2, none⟩ = some wv ∧ W0.cell? ⟨P, i * 2 + 1, none⟩ = some (.func (.func R) #[] rcap) ∧ Wr W0 f rv wv (chs.getD i []))
theorem boxes2 {w w3 : World} {r : Option Nat} {o1 o2 o3 : Obj} (g3 : (((w.alloc o1).alloc o2).alloc o3).grownBy w3 r) (hr : ∀ j, r = some j → j < w.heap.size) : w3.heap[w.heap.size]? = some o1 ∧ w3.heap[w.heap.size + 1]? = some o2 := by
  constructor
  · rw [g3.block w.heap.size (by simp; omega) (fun e => by have := hr _ e.symm; omega), Below.heap_alloc _ _ _ (by simp; omega), Below.heap_alloc _ _ _ (by simp)]
    exact heap_alloc_new _ _
  · rw [g3.block (w.heap.size + 1) (by simp) (fun e => by have := hr _ e.symm; omega), Below.heap_alloc _ _ _ (by simp), ← World.size_alloc w o1]
    exact heap_alloc_new _ _
set_option maxRecDepth 100000 in
set_option maxHeartbeats 2000000 in
theorem shapeWrite_any (W0 : World) (f : Fr) (rv pv : Value) (chs : List (List Int)) (k0 : Int) (fin0 : Bool) (t : Int) (ht : W8 t) (hp : Parts W0 f rv pv chs)
    (w : World) (base : Nat) (a : Option Addr) (n c : Nat) (m : List Int) (g0 : W0.grownBy w none) (hb0 : W0.heap.size ≤ base) (hbase : base ≤ w.heap.size) (ho : OwnB w base (.slice a n c) m) (hl : m.length + 1 + (joinL chs).length + 16 * f.ranges.length + f.data.size ≤ 79000000) :
    Calls Tryd.prog 57 #[.agg #[.int .i64 k0, .bool fin0, .int .u8 t, pv], .slice a n c, .agg (frA f rv)] w fun e w' => ∃ a' n' c', e = .returned (.slice a' n' c') ∧ Grew w base (.slice a n c) w' (.slice a' n' c') (m ++ (t :: joinL chs)) := by
  obtain ⟨pa, pc, rfl, hc3, hcp, hcs⟩ := hp
  obtain ⟨k, s, o, cd, fin, d, rg⟩ := f
  have hl2 : m.length + 1 + (joinL chs).length + 16 * rg.length + d.size ≤ 79000000 := hl
  have hn : n = m.length := ho.bsv.2.1
  subst hn
  simp only [frA] at *
  have gW : w.grownBy ((w.alloc (.cells #[.int .i64 k0, .bool fin0, .int .u8 t, .slice pa chs.length pc] 94)).alloc (.cells #[.int .i64 k, .int .i64 s, .int .u64 o, .int .u64 cd, .bool fin, .string d, rv] 46)) none := gb_alloc (gb_alloc (World.grownBy.refl _ _) _) _
  have bz := one_new ((w.alloc (.cells #[.int .i64 k0, .bool fin0, .int .u8 t, .slice pa chs.length pc] 94)).alloc (.cells #[.int .i64 k, .int .i64 s, .int .u64 o, .int .u64 cd, .bool fin, .string d, rv] 46)) t ht
  have G1 := ((Grew.refl ho).still gW).still (World.grownBy_alloc _ (.cells #[.int .u8 t] 5) none)
  rw [World.size_alloc, World.size_alloc] at bz
  have o1 := hide G1.own
  replace G1 := hide G1
  replace bz := hide bz
  have hol := hide (fun j (e : (Value.slice a m.length c).ownBlock = some j) => (ho.lt j e).2)
  go_enter Tryd.func57, Tryd.ntmps57
  go_wp2_with (at_builtin; refine wpList_appendB (by rfl) _ _ (by rfl) base _ m (by rfl) (unhide o1) _ _ _ [t] (by rfl) (unhide bz) ?_ ?_ ?_; (simp; omega); (simp; omega); intro a3 c3 w3 o3 g3 g4; obtain ⟨hbs, hbf⟩ := boxes2 g3 (unhide hol); replace hbs : w3.cell? ⟨w.heap.size, 3, none⟩ = some (.slice pa chs.length pc) := (by simp [World.cell?, hbs]); replace o3 := hide o3; replace g3 := hide g3; replace g4 := hide g4; replace hbf := hide hbf)
  clear hbs bz o1
  have hG3 : Hid (Grew w base (.slice a m.length c) w3 (.slice a3 (m.length + 1) c3) (m ++ [t])) := hide ((unhide G1).app (World.grownBy.refl _ _) (unhide o3) (unhide g3) (unhide g4))
  have hne3 : Hid ((Value.slice a3 (m.length + 1) c3).ownBlock ≠ some (w.heap.size + 1)) := hide (by
    have g5 : (Value.slice a3 (m.length + 1) c3).ownBlock = (Value.slice a m.length c).ownBlock ∨ (Value.slice a3 (m.length + 1) c3).ownBlock = some (((w.alloc _).alloc _).alloc _).heap.size := unhide g4
    rcases g5 with e | e
    · rw [e]; exact fun h => by have := unhide hol _ h; omega
    · rw [e]; simp; omega)
  clear o3 g3 g4 G1
  obtain ⟨N, hN⟩ : ∃ N, N = chs.length := ⟨_, rfl⟩
  rw [← hN]
  rw [← hN] at hc3 hcp
  replace hN := hide hN
  go_loopw [1, 17] (fun v i wr => ∃ (j : Nat) (a' : Option Addr) (n' c' : Nat), j ≤ N ∧ i = .int .i64 (j : Int) ∧ v = .slice a' n' c' ∧ Grew w base (.slice a m.length c) wr v (m ++ t :: joinL (chs.take j)) ∧ v.ownBlock ≠ some (w.heap.size + 1) ∧ wr.heap[w.heap.size + 1]? = some (.cells #[.int .i64 k, .int .i64 s, .int .u64 o, .int .u64 cd, .bool fin, .string d, rv] 46 (0, 0))) (fun _ i _ => N - (intOf i).toNat)
  case atStart => exact ⟨0, a3, _, c3, by omega, rfl, rfl, by simpa [joinL] using unhide hG3, unhide hne3, unhide hbf⟩
  case round =>
    obtain ⟨j, a', n', c', hj, rfl, rfl, Gj, hne, hbx⟩ := hrel
    by_cases hlt : j < N
    · rcases hcs with rfl | ⟨P, rfl, hcs⟩
      · have := unhide hN; simp at this; omega
      · obtain ⟨wv, R, rcap, q1, q2, F, cap, rfl, hE, hF⟩ := hcs j (by have := unhide hN; omega)
        have gj := Gj.old g0 ho hb0
        replace q1 := gj.cell q1 (by simp)
        replace q2 := gj.cell q2 (by simp)
        have hbx1 : ∀ ob, (wr.alloc ob).heap[w.heap.size + 1]? = some (.cells #[.int .i64 k, .int .i64 s, .int .u64 o, .int .u64 cd, .bool fin, .string d, rv] 46 (0, 0)) := fun ob => by
          rw [Below.heap_alloc _ _ _ (Array.getElem?_eq_some_iff.1 hbx).1]; exact hbx
        replace hbx1 := hbx1 (.cells #[.func (.func F) #[] cap, .func (.func R) #[] rcap] 125)
        have r0 : (wr.alloc (.cells #[.func (.func F) #[] cap, .func (.func R) #[] rcap] 125)).cell? ⟨w.heap.size + 1, 0, none⟩ = some (.int .i64 k) := by simp only [World.cell?, hbx1]; rfl
        have r1 : (wr.alloc (.cells #[.func (.func F) #[] cap, .func (.func R) #[] rcap] 125)).cell? ⟨w.heap.size + 1, 1, none⟩ = some (.int .i64 s) := by simp only [World.cell?, hbx1]; rfl
        have r2 : (wr.alloc (.cells #[.func (.func F) #[] cap, .func (.func R) #[] rcap] 125)).cell? ⟨w.heap.size + 1, 2, none⟩ = some (.int .u64 o) := by simp only [World.cell?, hbx1]; rfl
        have r3 : (wr.alloc (.cells #[.func (.func F) #[] cap, .func (.func R) #[] rcap] 125)).cell? ⟨w.heap.size + 1, 3, none⟩ = some (.int .u64 cd) := by simp only [World.cell?, hbx1]; rfl
        have r4 : (wr.alloc (.cells #[.func (.func F) #[] cap, .func (.func R) #[] rcap] 125)).cell? ⟨w.heap.size + 1, 4, none⟩ = some (.bool fin) := by simp only [World.cell?, hbx1]; rfl
        have r5 : (wr.alloc (.cells #[.func (.func F) #[] cap, .func (.func R) #[] rcap] 125)).cell? ⟨w.heap.size + 1, 5, none⟩ = some (.string d) := by simp only [World.cell?, hbx1]; rfl
        have r6 : (wr.alloc (.cells #[.func (.func F) #[] cap, .func (.func R) #[] rcap] 125)).cell? ⟨w.heap.size + 1, 6, none⟩ = some rv := by simp only [World.cell?, hbx1]; rfl
        have i1 : (0 : Int) ≤ (j : Int) := by omega
        have i2 : (j : Int) < (N : Int) := by omega
        replace hbx := hide hbx
        replace hbx1 := hide hbx1
        replace hF := hide hF
        replace Gj := hide Gj
        replace gj := hide gj
        replace hne := hide hne
        clear hcs
        go_wp2_with fail
        refine (unhide hF (wr.alloc (.cells #[.func (.func F) #[] cap, .func (.func R) #[] rcap] 125)) base a' n' c' _ (gb_alloc (unhide gj) _) hb0 ?_ ((unhide Gj).still (World.grownBy_alloc _ _ _)).own ?_).mono ?_
        · have := (unhide Gj).size; simp; omega
        · have := joinL_le chs j; simp only [List.length_append, List.length_cons]; omega
        rintro e w5 ⟨a5, n5, c5, rfl, G5⟩
        have hx5 := G5.apart (B := w.heap.size + 1) (by have := (Array.getElem?_eq_some_iff.1 (unhide hbx)).1; simp; omega) (unhide hne)
        go_wp2_with fail
        go_roundw
        case rel =>
          refine ⟨j + 1, a5, n5, c5, by omega, by simp, rfl, ?_, hx5.2, hx5.1.trans (unhide hbx1)⟩
          rw [joinL_take chs j (by have := unhide hN; omega)]
          have := ((unhide Gj).still (World.grownBy_alloc _ _ _)).trans G5
          simpa [List.append_assoc] using this
        case measure => simp [intOf]; omega
    · obtain rfl : j = N := by omega
      go_wp2_with fail
      go_ret
      refine ⟨a', n', c', rfl, ?_⟩
      rw [List.take_of_length_le (by rw [← unhide hN]; exact Nat.le_refl _)] at Gj
      exact Gj
end Go.Proofs.YtjnmokmchdfchaaDoor
