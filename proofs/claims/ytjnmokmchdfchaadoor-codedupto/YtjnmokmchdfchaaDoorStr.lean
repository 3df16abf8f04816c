import Derived.Test.YtjnmokmchdfchaaDoorBytes
import Derived.Laws.BytesArg
import Derived.Lib.ConvBytes
import Derived.Lib.LazyBuf
import Derived.Deep.LoopGhost
import Derived.Deep.MidRow
namespace Go.Proofs.YtjnmokmchdfchaaDoor
open Go.RowKit
attribute [local go_sem ↓] Go.wp_at_zero Go.wp_at_succ

theorem strOfNums_inj {l l' : List Int} (h : ∀ x ∈ l, W8 x) (h' : ∀ x ∈ l', W8 x) (e : strOfNums l = strOfNums l') : l = l' := by
  have e2 : (strOfNums l).data.toList = (strOfNums l').data.toList := by rw [e]
  rw [strOfNums_data, strOfNums_data] at e2
  clear e
  induction l generalizing l' with
  | nil => cases l' with
    | nil => rfl
    | cons y r => simp at e2
  | cons x r ih => cases l' with
    | nil => simp at e2
    | cons y r' =>
      simp only [List.map_cons, List.cons.injEq] at e2
      have hx := h x (List.mem_cons_self ..)
      have hy := h' y (List.mem_cons_self ..)
      unfold W8 at hx hy
      have e3 : x = y := by
        have := congrArg UInt8.toNat e2.1
        simp only [UInt8.toNat_ofNat'] at this
        omega
      rw [e3, ih (fun z hz => h z (List.mem_cons_of_mem _ hz)) (fun z hz => h' z (List.mem_cons_of_mem _ hz)) e2.2]
theorem conv_str {w : World} {a : Option Addr} {n c : Nat} {l : List Int} (h : BSv w a n c l) : (convert 23 9 (.slice a n c)).run Tryd.prog w = .ok (.string (strOfNums l)) w := by
  obtain ⟨h1, h2, h3, h4, h5⟩ := h
  rcases h5 with ⟨rfl, rfl⟩ | ⟨b, o, rfl, h5⟩
  · have : l = [] := List.eq_nil_of_length_eq_zero (by omega)
    subst this
    exact run_convert_bytes_nil w _ _ Tryd.underlying23 Tryd.underlying5 n 0 _ Tryd.underlying9
  · exact run_convert_bytes_arg w _ _ Tryd.underlying23 Tryd.underlying5 b o n c l h2.symm (fun i hi => h5.1 i (by omega)) _ Tryd.underlying9

/-- A string's bytes as numbers. -/
def bl (s : ByteArray) : List Int := s.data.toList.map fun x => (x.toNat : Int)
theorem bl_len (s : ByteArray) : (bl s).length = s.size := by unfold bl; rw [List.length_map, Array.length_toList]; rfl
theorem bl_w (s : ByteArray) : ∀ x ∈ bl s, W8 x := by
  intro x hx
  obtain ⟨y, _, rfl⟩ := List.mem_map.1 hx
  have := y.toNat_lt
  unfold W8; omega
theorem conv_bytes (s : ByteArray) (w : World) : (convert 9 23 (.string s)).run Tryd.prog w = .ok (.slice (some ⟨w.heap.size, 0, none⟩) s.size (grownCap w s.size 0 5)) (Lib.bytesWorld w 5 s) :=
  Lib.run_convert_string_bytes w _ _ _ s Tryd.underlying9 Tryd.underlying23 Tryd.underlying5
theorem conv_gb (w : World) (s : ByteArray) : w.grownBy (Lib.bytesWorld w 5 s) none :=
  ⟨rfl, rfl, rfl, by rw [Lib.bytesWorld_size]; omega, fun i hi _ => Lib.bytesWorld_at_old w _ s i hi⟩
theorem conv_bsvL (w : World) (s : ByteArray) (hs : s.size ≤ 100000000) : BSv (Lib.bytesWorld w 5 s) (some ⟨w.heap.size, 0, none⟩) s.size (grownCap w s.size 0 5) (bl s) := by
  refine ⟨bl_w s, (bl_len s).symm, grownCap_ge _ _ _ _, grownCap_le_maxLen _ _ _ _ (by simp [maxLen]; omega), .inr ⟨_, 0, rfl, ?_⟩⟩
  refine ⟨fun i hi => ?_, bl_w s⟩
  rw [bl_len] at hi
  have hi' : i < s.data.toList.length := by rw [Array.length_toList]; exact hi
  have e1 : s.data.toList.getD i 0 = s.data.toList[i] := by rw [List.getD, List.getElem?_eq_getElem hi']; rfl
  have e2 : (bl s).getD i 0 = (s.data.toList[i].toNat : Int) := by unfold bl; rw [List.getD, List.getElem?_map, List.getElem?_eq_getElem hi']; rfl
  rw [Nat.zero_add, Lib.bytesWorld_cell w _ s i hi, e1, e2]

theorem OwnB.bsv {w : World} {base : Nat} {a : Option Addr} {n c : Nat} {l : List Int} (h : OwnB w base (.slice a n c) l) : BSv w a n c l := by
  obtain ⟨a', c', e, hb, _⟩ := h.bs
  simp only [Value.slice.injEq] at e
  obtain ⟨rfl, rfl, rfl⟩ := e
  exact hb
theorem own_block {w : World} {base : Nat} {a : Option Addr} {n c : Nat} {l : List Int} (h : OwnB w base (.slice a n c) l) : (a = none ∧ n = 0) ∨ ∃ g cs, a = some ⟨g, 0, none⟩ ∧ base ≤ g ∧ w.heap[g]? = some (.cells cs 5 (0, 0)) ∧ n ≤ cs.size := by
  obtain ⟨h1, h2, h3⟩ := h
  rcases h3 with ⟨e, hn⟩ | ⟨g, cap, cur, e, hb, hg, hc, hm, hs, ht⟩
  · cases e; exact .inl ⟨rfl, rfl⟩
  · cases e; exact .inr ⟨g, cur, rfl, hb, hg, by omega⟩

theorem scribble_any (a : Option Addr) (n c : Nat) (l : List Int) (w : World) (base : Nat) (ho : OwnB w base (.slice a n c) l) (hn : n ≤ 100000000) :
    Calls Tryd.prog 25 #[.slice a n c] w fun e w' => e = .returned (.tuple #[]) ∧ w.grownBy w' (Value.slice a n c).ownBlock := by
  rcases own_block ho with ⟨rfl, rfl⟩ | ⟨g, cs, rfl, hg, hb, hs⟩
  · go_enter Tryd.func25, Tryd.ntmps25
    go_wp2
    go_loopg [5] 0 (fun gh i wr => gh = 0 ∧ i = .int .i64 0 ∧ wr = w)
    case atStart => exact ⟨rfl, rfl, rfl⟩
    case round =>
      obtain ⟨rfl, rfl, rfl⟩ := hrel
      go_wp2
      refine bodyPost_end (results_none rfl _ _ _) rfl ?_
      exact ⟨rfl, World.grownBy.refl _ _⟩
  · have eo : (Value.slice (some ⟨g, 0, none⟩) n c).ownBlock = some g := rfl
    rw [eo]
    clear ho eo
    go_enter Tryd.func25, Tryd.ntmps25
    go_wp2
    go_loopg [5] n (fun gh i wr => ∃ j : Nat, j ≤ n ∧ gh = n - j ∧ i = .int .i64 (j : Int) ∧ w.grownBy wr (some g) ∧ ∃ cs', wr.heap[g]? = some (.cells cs' 5 (0, 0)) ∧ n ≤ cs'.size)
    case atStart => exact ⟨0, by omega, by omega, rfl, World.grownBy.refl _ _, cs, hb, hs⟩
    case round =>
      obtain ⟨j, hj, rfl, rfl, hgr, cs', hb', hs'⟩ := hrel
      by_cases hlt : j < n
      · have hc : wr.cell? ⟨g, j, none⟩ = some (cs'.getD j undef) := by simp [World.cell?, hb', Array.getD, show j < cs'.size by omega]
        have hf : wr.frozen? ⟨g, j, none⟩ = false := by simp [World.frozen?, hb']
        replace hb' := hide hb'
        go_wp2
        go_roundg (n - (j + 1))
        case measure => omega
        case rel => exact ⟨j + 1, by omega, rfl, by go_num, gb_set hgr _ _ (.inr rfl), _, heap_set (unhide hb') _, by simpa using hs'⟩
      · go_wp2
        refine bodyPost_end (results_none rfl _ _ _) rfl ?_
        exact ⟨rfl, hgr⟩
theorem wpList_cloneB {w : World} {ops : Array Oper} {rest : List Oper} {o : Oper} {a : Act} {Q : Exit → Act → World → Prop} (hgd : o.guard = none) (x : Operand)
    (ho : o.op = .call { callee := .builtin .append, args := #[.const (.slice none 0 0), x], argTypes := #[23, 23] })
    (ax : Option Addr) (nx cx : Nat) (m : List Int) (hx : a.eval x = .slice ax nx cx) (hm : BSv w ax nx cx m) (hlen : m.length ≤ 100000000)
    (h : ∀ a' cap' w', OwnB w' w.heap.size (.slice a' m.length cap') m → w.grownBy w' none → wpList Tryd.prog ops Q rest (a.put o.dst (.slice a' m.length cap')) w') : wpList Tryd.prog ops Q (o :: rest) a w := by
  refine wpList_appendB hgd (.const (.slice none 0 0)) x ho w.heap.size (.slice none 0 0) [] rfl (OwnB.nil _ _) ax nx cx m hx hm (by simpa using hlen) (Nat.le_refl _) ?_
  intro a' cap' w' h1 h2 _
  rw [List.length_nil, Nat.zero_add] at h1 ⊢
  rw [List.nil_append] at h1
  exact h a' cap' w' h1 h2
theorem own_blk_lt {w : World} {base : Nat} {v : Value} {l : List Int} (h : OwnB w base v l) {r : Option Nat} (e : r = v.ownBlock) : ∀ j, r = some j → base ≤ j ∧ j < w.heap.size := fun j hj => h.lt j (by rw [← e]; exact hj)
theorem conv_bsv (w : World) (s : ByteArray) (hs : s.size ≤ 2000) : BSv (Lib.bytesWorld w 5 s) (some ⟨w.heap.size, 0, none⟩) s.size (grownCap w s.size 0 5) (bl s) := conv_bsvL w s (by omega)
theorem range_gb {w w' : World} {b o : Nat} {cs : List Value} {r : Option Nat} (h : w.rangeAt b o cs) (g : w.grownBy w' r) (hr : r ≠ some b) : w'.rangeAt b o cs :=
  fun j v hj => g.cell (h j v hj) (fun e => hr e.symm)
theorem range_set {w : World} {b o : Nat} {cs : List Value} (h : w.rangeAt b o cs) (p : Addr) (v : Value) (hp : p.block ≠ b) : (w.setCell p v).rangeAt b o cs := fun j u hj => by
  rw [World.cell?_of_block (w := w) (Below.heap_setCell _ _ _ _ (Ne.symm hp))]; exact h j u hj
theorem range_block {w : World} {b : Nat} {t : TypeId} {fr : Nat × Nat} {cs : List Value} (h : w.heap[b]? = some (.cells cs.toArray t fr)) : w.rangeAt b 0 cs := fun j v hj => by
  simp only [World.cell?, h, Nat.zero_add]; simpa using hj
end Go.Proofs.YtjnmokmchdfchaaDoor
