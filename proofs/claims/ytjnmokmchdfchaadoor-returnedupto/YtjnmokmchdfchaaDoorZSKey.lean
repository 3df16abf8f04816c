import Derived.Test.YtjnmokmchdfchaaDoorZLW
import Derived.WideKeyArr2
namespace Go.Proofs.YtjnmokmchdfchaaDoor
open Go.ChangeShapes Go.WideShapes Go.RowKit

theorem sizeT : Tryd.prog.types.size = 287 - 101 + 1 := by kernel_rfl
theorem sizeT' : ∃ m, Tryd.prog.types.size = m + 1 := ⟨_, sizeT⟩
theorem arrKey : Go.WideMaps.ArrKey Tryd.prog 32 5 16 := ⟨Tryd.underlying32, by kernel_rfl, by kernel_rfl, by kernel_rfl⟩

section
variable {H : Type} {enc : TypeId × Value → H} {P : Program}
theorem trod_int_same {e : TypeId} {q : IntKind} (he : P.underlying e = some (.int q)) {W W' : World} {b b' : Nat} {sp sp' : Nat → Bool} {hd hd' : Bool} (m : Nat) (cs : List Value) :
    DataW.trod enc P W b sp hd m e cs = DataW.trod enc P W' b' sp' hd' m e cs := by
  cases m with
  | zero => simp [DataW.trod]
  | succ n =>
    rw [DataW.trod_step, DataW.trod_step]
    unfold DataW.trodStep
    rw [he]
    match cs with
    | [] => rfl
    | [v] => cases v <;> rfl
    | v :: _ :: _ => cases v <;> rfl
theorem mapM_mem {α β : Type} {f : α → Option β} : ∀ {l : List α} {ys : List β}, l.mapM f = some ys → ∀ x ∈ l, ∃ y, f x = some y
  | [], _, _, x, hx => by cases hx
  | a :: l, ys, h, x, hx => by
    rw [List.mapM_cons] at h
    simp only [bind, Option.bind_eq_some_iff, pure, Option.some.injEq] at h
    obtain ⟨y, hy, ys', hys, rfl⟩ := h
    rcases List.mem_cons.1 hx with rfl | hx
    · exact ⟨y, hy⟩
    · exact mapM_mem hys x hx
end
def vi : Value → Int
  | .int _ a => a
  | _ => 0
set_option maxRecDepth 100000 in
theorem open_key {H : Type} {enc : TypeId × Value → H} {W : World} {r : Reach} {b0 base : Nat} {sp : Nat → Bool} {held : Bool} {v : Value} {d : DataW H} {ps : List MemPlace} (hval : Value.okWide Tryd.prog W r b0 32 v) (hd : DataW.Trod enc Tryd.prog W base sp held 32 v d ps) :
    ∃ key, KeyOk key ∧ v = .agg (keyA key) ∧ ps = [] ∧ ∀ (W' : World) (base' : Nat) (sp' : Nat → Bool) (held' : Bool), DataW.Trod enc Tryd.prog W' base' sp' held' 32 v d [] := by
  obtain ⟨xs, rfl, hn⟩ := Go.WideMaps.okWide_arr arrKey hval
  obtain ⟨ls, rfl, rfl, -⟩ := Go.WideMaps.open_arr arrKey Tryd.underlying5 sizeT' hn hd
  obtain ⟨fuel, hf⟩ := hd
  cases fuel with
  | zero => simp [DataW.trod] at hf
  | succ m =>
    have hsame : ∀ (W' : World) (base' : Nat) (sp' : Nat → Bool) (held' : Bool), DataW.Trod enc Tryd.prog W' base' sp' held' 32 (.agg xs) (.agg (ls.map .lit)) [] := fun W' base' sp' held' => ⟨m + 1, by
      rw [← hf, DataW.trod_step, DataW.trod_step]
      unfold DataW.trodStep
      simp only [arrKey.hu]
      rw [show (fun i => DataW.trod enc Tryd.prog W' base' sp' held' m 5 (((Value.agg xs).cells.toList.drop (i * Tryd.prog.cellsOf 5)).take (Tryd.prog.cellsOf 5))) = fun i => DataW.trod enc Tryd.prog W base sp held m 5 (((Value.agg xs).cells.toList.drop (i * Tryd.prog.cellsOf 5)).take (Tryd.prog.cellsOf 5)) from funext fun i => trod_int_same Tryd.underlying5 _ _]⟩
    rw [DataW.trod_step] at hf
    unfold DataW.trodStep at hf
    simp only [arrKey.hu, Value.cells] at hf
    rw [if_pos (by rw [arrKey.size]; simpa using hn)] at hf
    simp only [Option.map_eq_some_iff] at hf
    obtain ⟨ys, hy, e1⟩ := hf
    have hel : ∀ i, i < 16 → ∃ a, xs.toList[i]? = some (.int .u8 a) ∧ W8 a := fun i hi => by
      obtain ⟨y, h⟩ := mapM_mem hy i (List.mem_range.2 hi)
      obtain ⟨a, ea, -, wa⟩ := DataW.trod_int Tryd.underlying5 h
      rw [arrKey.one, Nat.mul_one] at ea
      refine ⟨a, ?_, ?_⟩
      · have : ((xs.toList.drop i).take 1)[0]? = some (.int .u8 a) := by rw [ea]; rfl
        simpa using this
      · simp [Lit.wf, IntKind.min, IntKind.max, IntKind.bits, IntKind.signed] at wa
        unfold W8; omega
    have hm : ∀ v ∈ xs.toList, ∃ a, v = .int .u8 a ∧ W8 a := fun v hv => by
      obtain ⟨i, hi, rfl⟩ := List.getElem_of_mem hv
      obtain ⟨a, h1, h2⟩ := hel i (by rw [Array.length_toList, hn] at hi; exact hi)
      rw [List.getElem?_eq_getElem hi] at h1
      exact ⟨a, Option.some.inj h1, h2⟩
    refine ⟨xs.toList.map vi, ⟨by rw [List.length_map, Array.length_toList, hn], fun x hx => ?_⟩, ?_, rfl, hsame⟩
    · obtain ⟨v, hv, rfl⟩ := List.mem_map.1 hx
      obtain ⟨a, rfl, h⟩ := hm v hv
      exact h
    · unfold keyA bv
      rw [List.map_map]
      have : xs.toList.map (Value.int .u8 ∘ vi) = xs.toList := by
        rw [show xs.toList = xs.toList.map id by simp]
        rw [List.map_map]
        exact List.map_congr_left fun v hv => by obtain ⟨a, rfl, _⟩ := hm v hv; rfl
      rw [this]
end Go.Proofs.YtjnmokmchdfchaaDoor
