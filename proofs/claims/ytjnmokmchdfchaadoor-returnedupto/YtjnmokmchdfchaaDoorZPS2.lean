import Derived.Test.YtjnmokmchdfchaaDoorZCov2
import Derived.Deep.RegionHeld3
import Derived.Deep.RegionLaw
namespace Go.Proofs.YtjnmokmchdfchaaDoor
open Go.RowKit
attribute [local go_sem ↓] Go.wp_at_zero Go.wp_at_succ

theorem made_bytes (n : Nat) : (madeCells (Value.cells (.int .u8 0)) (n * 1)).toList = bv (List.replicate n 0) := by
  simp only [madeCells, bv, Value.cells, Array.toList_map, Array.toList_range, Nat.mul_one, List.map_replicate]
  rw [show (fun x => #[Value.int IntKind.u8 0][x % #[Value.int IntKind.u8 0].size]!) = fun _ => Value.int IntKind.u8 0 from funext fun x => by
    rw [show #[Value.int IntKind.u8 0].size = 1 from rfl, Nat.mod_one]; rfl]
  exact List.eq_replicate_iff.2 ⟨by simp, by simp⟩
theorem wpList_makeB {w : World} {ops : Array Oper} {rest : List Oper} {o : Oper} {a : Act} {Q : Exit → Act → World → Prop} (l c : Operand) (hop : o.op = Op.makeSlice 23 l c) (hg : o.guard = none)
    (L : Int) (n : Nat) (hl : a.eval l = .int .i64 L) (hc : a.eval c = .int .i64 L) (hL : L = (n : Int)) (hn : n ≤ 100000000)
    (hK : ∀ w', w'.heap[w.heap.size]? = some (.cells (bv (List.replicate n 0)).toArray 5 (0, 0)) → w.grownBy w' none → wpList Tryd.prog ops Q rest (a.put o.dst (.slice (some ⟨w.heap.size, 0, none⟩) n n)) w') : wpList Tryd.prog ops Q (o :: rest) a w := by
  obtain ⟨i0, hi, hz0, hz1, hz2⟩ := info_parts Tryd.info5
  refine wpList_make_full w hg l c _ hop w.heap.size 5 i0 (.int .u8 0) 1 Tryd.underlying23 hi hz0 hz1 .i64 .i64 L L n hl hc hL hL (by rw [hz2]; omega) (by simp [maxLen]; omega) (Nat.le_refl _) ?_
  intro w' ho g
  refine hK w' ?_ g
  obtain ⟨h1, h2⟩ := ho
  rcases h2 with ⟨h2, _⟩ | ⟨g', cap, cur, e1, e2, e3, e4, e5, e6, e7⟩
  · cases h2
  · simp only [Value.slice.injEq, Option.some.injEq, Addr.mk.injEq, and_true, true_and] at e1
    obtain ⟨rfl, rfl⟩ := e1
    rw [e3]
    rw [made_bytes, Nat.mul_one] at e7
    rw [Nat.mul_one] at e6
    have : cur.toList = bv (List.replicate n 0) := by rw [← e7, List.take_of_length_le (by simp [e6])]
    rw [← this]

/-- The side byte. -/
def sd (f : Bool) : Int := if f then 0 else 1
theorem sd_w (f : Bool) : W8 (sd f) := by cases f <;> simp [sd, W8]
theorem sideByte_any (f : Bool) (w : World) : Calls Tryd.prog 70 #[.bool f] w fun e w' => e = .returned (.int .u8 (sd f)) ∧ w' = w := by
  cases f
  · go_enter Tryd.func70, Tryd.ntmps70
    go_wp2
    go_ret
    exact ⟨rfl, rfl⟩
  · go_enter Tryd.func70, Tryd.ntmps70
    go_wp2
    go_ret
    exact ⟨rfl, rfl⟩
theorem tag_arr (key : List Int) (s n : Int) (l : List Int) : (bv (tagL key s n l)).toArray = #[.int .u8 (hb (hashN key (opn s 2 n ++ l)) 0), .int .u8 (hb (hashN key (opn s 2 n ++ l)) 1), .int .u8 (hb (hashN key (opn s 2 n ++ l)) 2), .int .u8 (hb (hashN key (opn s 2 n ++ l)) 3), .int .u8 (hb (hashN key (opn s 2 n ++ l)) 4), .int .u8 (hb (hashN key (opn s 2 n ++ l)) 5), .int .u8 (hb (hashN key (opn s 2 n ++ l)) 6), .int .u8 (hb (hashN key (opn s 2 n ++ l)) 7)] := rfl
theorem bsv_block {w : World} {b : Nat} {t : TypeId} {l : List Int} (h : w.heap[b]? = some (.cells (bv l).toArray t (0, 0))) (hl : ∀ x ∈ l, W8 x) (o n c : Nat) (hn : o + n ≤ l.length) (hc : n ≤ c) (hm : c ≤ maxLen) : BSv w (some ⟨b, o, none⟩) n c ((l.drop o).take n) :=
  ⟨fun x hx => hl x (List.mem_of_mem_drop (List.mem_of_mem_take hx)), by simp; omega, hc, hm, .inr ⟨b, o, rfl, (bs_block h hl o).take n⟩⟩

theorem sp1 (H R l : List Int) (hH : H.length = 8) : splice (splice R 0 H) 8 l = H ++ (l ++ R.drop (l.length + 8)) := by
  have e : splice R 0 H = H ++ R.drop 8 := by simp [splice, hH]
  have e2 : 8 + (8 + l.length - 8) = l.length + 8 := by omega
  rw [e]
  unfold splice
  rw [List.take_append_of_le_length (by omega), List.take_of_length_le (by omega), List.drop_append, hH, List.drop_of_length_le (by omega), List.nil_append, List.drop_drop, e2]
theorem sp2 (H l m Z : List Int) (hH : H.length = 8) (hm : m.length = l.length) : splice (H ++ (l ++ Z)) 8 m = H ++ (m ++ Z) := by
  have e2 : 8 + m.length - 8 = l.length := by omega
  unfold splice
  rw [List.take_append_of_le_length (by omega), List.take_of_length_le (by omega), List.drop_append, hH, List.drop_of_length_le (by omega), List.nil_append, e2, List.drop_append, List.drop_of_length_le (by omega), List.nil_append, Nat.sub_self, List.drop_zero]
theorem sp3 (H m Z T : List Int) (hH : H.length = 8) (hT : T.length = Z.length) : splice (H ++ (m ++ Z)) (8 + m.length) T = H ++ (m ++ T) := by
  have e : (H ++ m).length = 8 + m.length := by rw [List.length_append, hH]
  unfold splice
  rw [← List.append_assoc H m Z, List.take_append_of_le_length (by omega), List.take_of_length_le (by omega), List.drop_append, List.drop_of_length_le (by omega), List.nil_append, List.drop_of_length_le (by omega), List.append_nil, List.append_assoc]
theorem mid8 (H l Z : List Int) (hH : H.length = 8) : ((H ++ (l ++ Z)).drop 8).take l.length = l := by
  rw [List.drop_append, hH, List.drop_of_length_le (by omega), List.nil_append, Nat.sub_self, List.drop_zero, List.take_append_of_le_length (Nat.le_refl _), List.take_of_length_le (Nat.le_refl _)]
theorem maskL_w {key : List Int} {s n : Int} {l : List Int} (hl : ∀ x ∈ l, W8 x) : ∀ x ∈ maskL key s n l, W8 x := by
  intro x hx
  obtain ⟨i, _, rfl⟩ := List.mem_map.1 hx
  exact x8_w (getD_w8 hl i) (hb_w _ _)
theorem cur_w {n : Int} {M : List Int} (hM : ∀ x ∈ M, W8 x) : ∀ x ∈ highB n ++ (M ++ List.replicate 8 0), W8 x := by
  intro x hx
  rcases List.mem_append.1 hx with h | h
  · exact highB_w n x h
  rcases List.mem_append.1 h with h | h
  · exact hM x h
  · rw [(List.mem_replicate.1 h).2]; unfold W8; omega
theorem set8 {w : World} {b : Nat} {t : TypeId} {v0 v1 v2 v3 v4 v5 v6 v7 : Value} (u0 u1 u2 u3 u4 u5 u6 u7 : Value) (h : w.heap[b]? = some (.cells #[v0, v1, v2, v3, v4, v5, v6, v7] t (0, 0))) :
    ((((((((w.setCell ⟨b, 0, none⟩ u0).setCell ⟨b, 1, none⟩ u1).setCell ⟨b, 2, none⟩ u2).setCell ⟨b, 3, none⟩ u3).setCell ⟨b, 4, none⟩ u4).setCell ⟨b, 5, none⟩ u5).setCell ⟨b, 6, none⟩ u6).setCell ⟨b, 7, none⟩ u7).heap[b]? = some (.cells #[u0, u1, u2, u3, u4, u5, u6, u7] t (0, 0)) := by
  have h0 : (w.setCell ⟨b, 0, none⟩ u0).heap[b]? = some (.cells #[u0, v1, v2, v3, v4, v5, v6, v7] t (0, 0)) := heap_set h u0
  have h1 : ((w.setCell ⟨b, 0, none⟩ u0).setCell ⟨b, 1, none⟩ u1).heap[b]? = some (.cells #[u0, u1, v2, v3, v4, v5, v6, v7] t (0, 0)) := heap_set h0 u1
  have h2 : (((w.setCell ⟨b, 0, none⟩ u0).setCell ⟨b, 1, none⟩ u1).setCell ⟨b, 2, none⟩ u2).heap[b]? = some (.cells #[u0, u1, u2, v3, v4, v5, v6, v7] t (0, 0)) := heap_set h1 u2
  have h3 : ((((w.setCell ⟨b, 0, none⟩ u0).setCell ⟨b, 1, none⟩ u1).setCell ⟨b, 2, none⟩ u2).setCell ⟨b, 3, none⟩ u3).heap[b]? = some (.cells #[u0, u1, u2, u3, v4, v5, v6, v7] t (0, 0)) := heap_set h2 u3
  have h4 : (((((w.setCell ⟨b, 0, none⟩ u0).setCell ⟨b, 1, none⟩ u1).setCell ⟨b, 2, none⟩ u2).setCell ⟨b, 3, none⟩ u3).setCell ⟨b, 4, none⟩ u4).heap[b]? = some (.cells #[u0, u1, u2, u3, u4, v5, v6, v7] t (0, 0)) := heap_set h3 u4
  have h5 : ((((((w.setCell ⟨b, 0, none⟩ u0).setCell ⟨b, 1, none⟩ u1).setCell ⟨b, 2, none⟩ u2).setCell ⟨b, 3, none⟩ u3).setCell ⟨b, 4, none⟩ u4).setCell ⟨b, 5, none⟩ u5).heap[b]? = some (.cells #[u0, u1, u2, u3, u4, u5, v6, v7] t (0, 0)) := heap_set h4 u5
  have h6 : (((((((w.setCell ⟨b, 0, none⟩ u0).setCell ⟨b, 1, none⟩ u1).setCell ⟨b, 2, none⟩ u2).setCell ⟨b, 3, none⟩ u3).setCell ⟨b, 4, none⟩ u4).setCell ⟨b, 5, none⟩ u5).setCell ⟨b, 6, none⟩ u6).heap[b]? = some (.cells #[u0, u1, u2, u3, u4, u5, u6, v7] t (0, 0)) := heap_set h5 u6
  have h7 : ((((((((w.setCell ⟨b, 0, none⟩ u0).setCell ⟨b, 1, none⟩ u1).setCell ⟨b, 2, none⟩ u2).setCell ⟨b, 3, none⟩ u3).setCell ⟨b, 4, none⟩ u4).setCell ⟨b, 5, none⟩ u5).setCell ⟨b, 6, none⟩ u6).setCell ⟨b, 7, none⟩ u7).heap[b]? = some (.cells #[u0, u1, u2, u3, u4, u5, u6, u7] t (0, 0)) := heap_set h6 u7
  exact h7
theorem s7 {w6 w1 w2 : World} {kb : Nat} {cs : List Value} (h : w1.rangeAt kb 0 cs ∧ w6.grownBy w1 none) (g : w1.grownBy w2 none) : w2.rangeAt kb 0 cs ∧ w6.grownBy w2 none :=
  ⟨range_gb h.1 g (by simp), gb_trans h.2 g⟩
theorem s7_set {w6 w1 : World} {kb b : Nat} {cs : List Value} (h : w1.rangeAt kb 0 cs ∧ w6.grownBy w1 none) (hb : w6.heap.size ≤ b) (hk : kb < w6.heap.size) (o : Nat) (v : Value) : (w1.setCell ⟨b, o, none⟩ v).rangeAt kb 0 cs ∧ w6.grownBy (w1.setCell ⟨b, o, none⟩ v) none :=
  ⟨range_set h.1 _ _ (by dsimp only; omega), gb_set h.2 _ _ (.inl hb)⟩
theorem blk_gb {w w' : World} {b : Nat} {x : Obj} (h : w.heap[b]? = some x) (g : w.grownBy w' none) : w'.heap[b]? = some x := keep_gb h g
set_option maxRecDepth 100000 in
set_option maxHeartbeats 4000000 in
theorem pSeal_any (key : List Int) (f : Bool) (n : Int) (a : Option Addr) (m cap : Nat) (l : List Int) (w : World) (hk : KeyOk key) (hn : W64 n) (hb : BSv w a m cap l) (hl : l.length ≤ 50000000) :
    Calls Tryd.prog 52 #[.agg (keyA key), .bool f, .int .u64 n, .slice a m cap] w fun e w' =>
      ∃ g, e = .returned (.slice (some ⟨g, 0, none⟩) (l.length + 16) (l.length + 16)) ∧ w.heap.size ≤ g ∧ w'.heap[g]? = some (.cells (bv (sealL key (sd f) n l)).toArray 5 (0, 0)) ∧ w.grownBy w' none := by
  have hml := hb.2.1
  subst hml
  have hcp := hb.2.2.1
  have hcm := hb.2.2.2.1
  unfold maxLen at hcm
  have hlw := hb.1
  have hkl : (Tryd.prog.info? 32).map (·.size) = some (bv key).length := by rw [bv_len, hk.1]; exact Tryd.info32
  have hund := Tryd.underlying32
  go_enter Tryd.func52, Tryd.ntmps52
  go_wp2_with (at_make; refine wpList_makeB _ _ (by rfl) (by rfl) _ (l.length + 16) (by rfl) (by rfl) (by omega) (by omega) ?_; intro w1 hp1 g1)
  have bw1 : Below w.heap.size w w1 := ((Below.refl _ w).alloc (Nat.le_refl _) _).grown g1 (by simp) (fun k e => by cases e)
  have hz1 := g1.size
  rw [World.size_alloc] at hz1 hp1
  have hlp1 : w.heap.size + 1 < w1.heap.size := (Array.getElem?_eq_some_iff.1 hp1).1
  have hk1 : w1.heap[w.heap.size]? = some (.cells (keyA key) 32 (0, 0)) := keep_gb (heap_alloc_new _ _) g1
  refine (wordOf_any n _ hn).mono ?_
  rintro e w2 ⟨rfl, g2⟩
  rw [bytes8]
  obtain ⟨W3, hW3⟩ : ∃ W, W = w2.alloc (.cells #[.int .u8 (Go.Proofs.YtjnmokmchdfchaaDoor.hb n 0), .int .u8 (Go.Proofs.YtjnmokmchdfchaaDoor.hb n 1), .int .u8 (Go.Proofs.YtjnmokmchdfchaaDoor.hb n 2), .int .u8 (Go.Proofs.YtjnmokmchdfchaaDoor.hb n 3), .int .u8 (Go.Proofs.YtjnmokmchdfchaaDoor.hb n 4), .int .u8 (Go.Proofs.YtjnmokmchdfchaaDoor.hb n 5), .int .u8 (Go.Proofs.YtjnmokmchdfchaaDoor.hb n 6), .int .u8 (Go.Proofs.YtjnmokmchdfchaaDoor.hb n 7)] 117) := ⟨_, rfl⟩
  have g3 : w1.grownBy W3 none := by rw [hW3]; exact gb_alloc g2 _
  have hh3 : W3.heap[w2.heap.size]? = some (.cells (bv (highB n)).toArray 117 (0, 0)) := by rw [hW3]; exact heap_alloc_new _ _
  have hp3 := keep_gb hp1 g3
  have hk3 := keep_gb hk1 g3
  have bw3 : Below w.heap.size w W3 := bw1.grown g3 bw1.size (fun k e => by cases e)
  have hz2 := g2.size
  have bh3 := bsv_block hh3 (highB_w n) 0 8 8 (by simp [highB_len]) (by omega) (by simp [maxLen])
  rw [List.drop_zero, List.take_of_length_le (by simp [highB_len])] at bh3
  have hb3 := hb.gb0 (gb_of_below bw3)
  have e1 : (highB n).take (l.length + 16) = highB n := List.take_of_length_le (by simp [highB_len])
  have e2 : l.take (8 + l.length - 8) = l := List.take_of_length_le (by omega)
  have hne : ∀ W' : World, W3.grownBy W' (some (w.heap.size + 1)) → BSv W' a l.length cap l := fun W' g => hb3.gb g (fun j e => by
    cases e
    by_cases hl0 : l = []
    · exact .inr (.inl hl0)
    · right; right; intro x ex
      rcases hb.2.2.2.2 with ⟨h, _⟩ | ⟨b, o, h, hbs⟩
      · rw [h] at ex; cases ex
      · rw [h] at ex; cases ex
        have := hbs.lt hl0
        dsimp only
        omega)
  replace bh3 := hide bh3
  replace hp3 := hide hp3
  replace e1 := hide e1
  replace e2 := hide e2
  replace hne := hide hne
  clear hb3 hp1 hh3 hk1
  replace hb := hide hb
  go_wp2_with (first | (refine wpList_copyB _ _ (by rfl) (by rfl) (w.heap.size + 1) 0 (l.length + 16) (l.length + 16) (by rfl) (some ⟨w2.heap.size, 0, none⟩) 8 8 (by rfl) (highB n) ?_ (List.replicate (l.length + 16) 0) 5 ?_ ?_ ?_; (rw [← hW3]; exact unhide bh3); (rw [← hW3]; exact unhide hp3); (rw [unhide e1]; simp [highB_len]); (rw [unhide e1, ← hW3]; intro w4 hp4 g4)) | (refine wpList_copyB _ _ (by rfl) (by rfl) (w.heap.size + 1) 8 (8 + l.length - 8) (l.length + 8) (by rfl) _ _ _ (by rfl) l (unhide hne _ g4) (splice (List.replicate (l.length + 16) 0) 0 (highB n)) 5 hp4 ?_ ?_; (rw [unhide e2, length_splice _ _ _ (by simp [highB_len])]; simp; omega); (rw [unhide e2]; intro w5 hp5 g5)))
  have hk5 : w5.heap[w.heap.size]? = some (.cells (keyA key) 32 (0, 0)) := by
    have hz4 := g4.size
    have h3 : w.heap.size < W3.heap.size := (Array.getElem?_eq_some_iff.1 hk3).1
    exact (g5.block _ (by omega) (by simp)).trans ((g4.block _ h3 (by simp)).trans hk3)
  have hr5 : w5.drew.rangeAt w.heap.size 0 (bv key) := range_block (w := w5.drew) hk5
  have bw5 : Below w.heap.size w w5 := (bw3.grown g4 bw3.size (fun k e => by cases e; omega)).grown g5 (by have := bw3.size; have := g4.size; omega) (fun k e => by cases e; omega)
  obtain ⟨cur2, hcur2⟩ : ∃ c, c = highB n ++ (l ++ List.replicate 8 0) := ⟨_, rfl⟩
  rw [sp1 _ _ _ (highB_len n), List.drop_replicate, show l.length + 16 - (l.length + 8) = 8 by omega] at hp5
  have hlen2 : cur2.length = l.length + 16 := by rw [hcur2]; simp [highB_len]; omega
  have hw2 : ∀ x ∈ cur2, W8 x := by
    rw [hcur2]
    intro x hx
    rcases List.mem_append.1 hx with h | h
    · exact highB_w n x h
    rcases List.mem_append.1 h with h | h
    · exact hlw x h
    · rw [(List.mem_replicate.1 h).2]; unfold W8; omega
  have hmid : splice cur2 8 (maskL key (sd f) n ((cur2.drop 8).take l.length)) = highB n ++ (maskL key (sd f) n l ++ List.replicate 8 0) := by
    rw [hcur2, mid8 _ _ _ (highB_len n), sp2 _ _ _ _ (highB_len n) (maskL_len _ _ _ _)]
  rw [← hcur2] at hp5
  have hp5' : w5.drew.heap[w.heap.size + 1]? = some (.cells (bv cur2).toArray 5 (0, 0)) := hp5
  replace hp5' := hide hp5'
  replace hk5 := hide hk5
  clear hp5 hp4 hk3
  have hz5 := bw5.size
  have hlb : 8 + l.length ≤ cur2.length := by omega
  replace hcur2 := hide hcur2
  replace hlen2 := hide hlen2
  replace hw2 := hide hw2
  replace hlb := hide hlb
  replace hmid := hide hmid
  clear hW3 hne e1 e2 bh3
  go_region_held3 (fun w' => w'.rangeAt w.heap.size 0 (bv key))
    (first | with_reducible exact hr6 | with_reducible exact hr5)
    (first
      | (go_at_call 70; refine (sideByte_any f _).mono ?_; rintro e w' ⟨rfl, rfl⟩)
      | (go_at_call 69; refine (cover_any key (sd f) n (w.heap.size + 1) 8 l.length (l.length + 8) cur2 5 _ hk (sd_w f) hn (unhide hw2) (unhide hlb) (by omega) (by simp [maxLen]; omega) (unhide hp5')).mono ?_; rintro e w6 ⟨rfl, hp6, g6⟩; rw [unhide hmid] at hp6; have hr6 := range_gb hr5 g6 (by simp); replace hp6 := hide hp6; replace g6 := hide g6))
  go_wp2_with fail
  have hp6' := unhide hp6
  have g6' := unhide g6
  clear hp6
  replace g6 := hide g6'
  have hz6 := g6'.size
  have hlk : w.heap.size < w6.heap.size := by
    have h5 : w5.drew.heap.size = w5.heap.size := rfl
    have h6 := (Array.getElem?_eq_some_iff.1 (unhide hk5)).1
    omega
  obtain ⟨M, hM⟩ : ∃ M, M = maskL key (sd f) n l := ⟨_, rfl⟩
  rw [← hM] at hp6'
  have hMl : M.length = l.length := by rw [hM]; exact maskL_len _ _ _ _
  have hMw : ∀ x ∈ M, W8 x := by rw [hM]; exact maskL_w hlw
  have bM := bsv_block hp6' (cur_w hMw) 8 M.length (l.length + 8) (by simp [highB_len]) (by omega) (by simp [maxLen]; omega)
  rw [mid8 _ _ _ (highB_len n)] at bM
  have hT : Hid (∀ W : World, (W.rangeAt w.heap.size 0 (bv key) ∧ w6.grownBy W none) → Calls Tryd.prog 71 #[.agg (bv key).toArray, .int .u8 (sd f), .int .u64 n, .slice (some ⟨w.heap.size + 1, 8, none⟩) l.length (l.length + 8)] W fun e w' => e = .returned (.agg (bv (tagL key (sd f) n M)).toArray) ∧ W.grownBy w' none) := hide (fun W h => by
    have := tagOf_any key (sd f) n _ _ _ M W hk (sd_w f) hn (bM.gb0 h.2) (by omega)
    rw [hMl] at this
    exact this)
  have hr60 : w6.drew.rangeAt w.heap.size 0 (bv key) ∧ w6.grownBy w6.drew none := ⟨fun j v h => hr6 j v h, gb_drew (World.grownBy.refl _ _)⟩
  replace hp6' := hide hp6'
  replace hM := hide hM
  replace hMl := hide hMl
  replace hMw := hide hMw
  clear bM
  go_cut [12] (fun v wx => ∃ tb : Nat, v = .pointer (some ⟨tb, 0, none⟩) ∧ w6.heap.size ≤ tb ∧ wx.heap[tb]? = some (.cells (bv (tagL key (sd f) n M)).toArray 117 (0, 0)) ∧ w6.grownBy wx none)
  case first =>
    go_region_held3 (fun w' => w'.rangeAt w.heap.size 0 (bv key) ∧ w6.grownBy w' none)
      (first | with_reducible exact hr7 | with_reducible exact hr60 | (with_reducible exact (s7_set (s7_set (s7_set (s7_set (s7_set (s7_set (s7_set (s7_set hr7 (Nat.le_refl _) hlk _ _) (Nat.le_refl _) hlk _ _) (Nat.le_refl _) hlk _ _) (Nat.le_refl _) hlk _ _) (Nat.le_refl _) hlk _ _) (Nat.le_refl _) hlk _ _) (Nat.le_refl _) hlk _ _) (Nat.le_refl _) hlk _ _)) | with_reducible exact s7 hr7 (World.grownBy_alloc _ _ none) | with_reducible exact s7 hr60 (World.grownBy_alloc _ _ none))
      (first
        | (go_at_call 70; refine (sideByte_any f _).mono ?_; rintro e w' ⟨rfl, rfl⟩)
        | (go_at_call 71; refine (unhide hT _ (by assumption)).mono ?_; rintro e w7 ⟨rfl, g7⟩; rw [tag_arr]; have hr7 := s7 (w6 := w6) (by assumption) g7; first | (have hq7 : w7.heap[w6.heap.size]? = some (.cells #[.int .u8 0, .int .u8 0, .int .u8 0, .int .u8 0, .int .u8 0, .int .u8 0, .int .u8 0, .int .u8 0] 117 (0, 0)) := blk_gb (heap_alloc_new w6.drew _) g7; have hc7 := cells8 hq7; replace hq7 := hide hq7; obtain ⟨⟨z0, z1, z2, z3, z4, z5, z6, z7⟩, zf⟩ := hc7) | skip))
    all_goals
      go_wp2_with fail
      go_meet
      refine ⟨_, rfl, ?_, ?_, ?_⟩
      · first | with_reducible exact Nat.le_refl _ | with_reducible exact hr7.2.size
      · rw [tag_arr]
        first | with_reducible exact set8 _ _ _ _ _ _ _ _ (unhide hq7) | with_reducible exact heap_alloc_new _ _
      · first | with_reducible exact (s7_set (s7_set (s7_set (s7_set (s7_set (s7_set (s7_set (s7_set hr7 (Nat.le_refl _) hlk _ _) (Nat.le_refl _) hlk _ _) (Nat.le_refl _) hlk _ _) (Nat.le_refl _) hlk _ _) (Nat.le_refl _) hlk _ _) (Nat.le_refl _) hlk _ _) (Nat.le_refl _) hlk _ _) (Nat.le_refl _) hlk _ _).2 | with_reducible exact gb_alloc hr7.2 _
  case rest =>
    obtain ⟨tb, rfl, htb, hq8, g8⟩ := hcut
    rename_i wx
    have hp8 := hide (keep_gb (unhide hp6') g8)
    have bt := bsv_block hq8 (highB_w _) 0 8 8 (by simp [tagL, highB_len]) (by omega) (by simp [maxLen])
    rw [List.drop_zero, List.take_of_length_le (by simp [tagL, highB_len])] at bt
    replace bt := hide bt
    replace hq8 := hide hq8
    go_wp2_with fail
    have hwr : IntKind.i64.wrap (8 + (l.length : Int)) = 8 + (l.length : Int) := by simp [IntKind.wrap, IntKind.bits, IntKind.signed]; omega
    have hi1 : (0 : Int) ≤ 8 + (l.length : Int) := by omega
    have hi2 : 8 + (l.length : Int) ≤ (l.length : Int) + 16 := by omega
    have htn : (8 + (l.length : Int)).toNat = 8 + l.length := by omega
    have hif : (l.length + 16 = 8 + l.length) = False := by simp; omega
    have hsub : l.length + 16 - (8 + l.length) = 8 := by omega
    have htk : Hid ((tagL key (sd f) n M).take 8 = tagL key (sd f) n M) := hide (List.take_of_length_le (by simp [tagL, highB_len]))
    have hft : Hid (8 + l.length + (tagL key (sd f) n M).length ≤ (highB n ++ (M ++ List.replicate 8 (0 : Int))).length) := hide (by
      have h1 : (tagL key (sd f) n M).length = 8 := by simp [tagL, highB_len]
      have h2 := unhide hMl
      have h3 := highB_len n
      simp only [List.length_append, List.length_replicate]
      omega)
    go_region_held3 (fun _ => True) (trivial) ((refine step_copyB _ _ (by rfl) (by rfl) (w.heap.size + 1) (8 + l.length) 8 8 (by rfl) (some ⟨tb, 0, none⟩) 8 8 (by rfl) (tagL key (sd f) n M) (bsv_drew (unhide bt)) (highB n ++ (M ++ List.replicate 8 0)) 5 (unhide hp8) ?_ ?_; (rw [unhide htk]; exact unhide hft); (rw [unhide htk]; intro w9 hp9 g9; replace hp9 := hide hp9)))
    go_wp2_with fail
    go_ret
    refine ⟨w.heap.size + 1, rfl, by omega, ?_, ?_⟩
    · have h9 := unhide hp9
      rw [← unhide hMl, sp3 _ _ _ _ (highB_len n) (by simp [tagL, highB_len]), unhide hM] at h9
      unfold sealL
      rw [List.append_assoc]
      exact h9
    · have b6 : Below w.heap.size w w6 := (bw5.grown (gb_drew (World.grownBy.refl w5 none)) bw5.size (fun k e => by cases e)).grown g6' bw5.size (fun k e => by cases e; omega)
      have b8 : Below w.heap.size w wc := b6.grown g8 b6.size (fun k e => by cases e)
      exact gb_of_below ((b8.grown (gb_drew (World.grownBy.refl wc none)) b8.size (fun k e => by cases e)).grown g9 b8.size (fun k e => by cases e; omega))
end Go.Proofs.YtjnmokmchdfchaaDoor
