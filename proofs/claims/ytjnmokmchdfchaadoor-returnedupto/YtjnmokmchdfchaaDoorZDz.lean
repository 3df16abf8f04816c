import Derived.Test.YtjnmokmchdfchaaDoorZDy
import Derived.RegionDies
namespace Go.Proofs.YtjnmokmchdfchaaDoor
open Go.RowKit
attribute [local go_sem ↓] Go.wp_at_zero Go.wp_at_succ

def DecA (w : World) (l : List Int) (e : Ending) (w' : World) : Prop :=
  w.grownBy w' none ∧ ((∃ its a n c, decR l = (some (its.map (·.1)), -1) ∧ e = .returned (.tuple #[.slice a n c, .nilIface]) ∧ OwnF w' w.heap.size (.slice a n c) its) ∨
    (∃ (p F : Nat), decR l = (none, (p : Int)) ∧ e = .returned (.tuple #[.slice none 0 0, .iface 74 (.pointer (some ⟨F, 0, none⟩))]) ∧ w'.heap[F]? = some (.cells #[.int .i64 5, .int .i64 (p : Int)] 79 (0, 0)) ∧ w.heap.size ≤ F))
theorem FA.isNone {w : World} {X : Nat} {sl : Value} {p len : Nat} {e : Ending} {w' : World} (h : FA w X sl p len none e w') : w.grownBy w' (some X) ∧ e = PN ∧ ∃ p', RdS w' X sl p' p := by
  obtain ⟨g, ⟨f, q, rv, hr, -⟩ | ⟨-, h1, h2⟩⟩ := h
  · cases hr
  · exact ⟨g, h1, h2⟩
theorem FA.isSome {w : World} {X : Nat} {sl : Value} {p len : Nat} {f : Fr} {q : Nat} {e : Ending} {w' : World} (h : FA w X sl p len (some (f, q)) e w') : w.grownBy w' (some X) ∧ ∃ A n c, e = .returned (.agg (frA f (.slice A n c))) ∧ FrV w' f (.slice A n c) ∧ ((Value.slice A n c) = .slice none 0 0 ∨ ∃ x n' c', (Value.slice A n c) = .slice (some x) n' c' ∧ w.heap.size ≤ x.block) ∧ RdS w' X sl q p ∧ p < q ∧ q ≤ len := by
  obtain ⟨g, ⟨f', q', rv, hr, h1, h2, h3, h4, h5, h6⟩ | ⟨hr, -, -⟩⟩ := h
  · cases hr
    obtain ⟨A, n, c, rfl⟩ : ∃ A n c, rv = .slice A n c := by
      rcases h3 with h | ⟨x, n, c, h, -⟩
      · exact ⟨_, _, _, h⟩
      · exact ⟨_, _, _, h⟩
    exact ⟨g, A, n, c, h1, h2, h3, h4, h5, h6⟩
  · cases hr
theorem OwnF.lower {w : World} {b1 b2 : Nat} {v : Value} {l : List Itm} (h : OwnF w b1 v l) (hb : b2 ≤ b1) : OwnF w b2 v l := by
  obtain ⟨⟨h2, h3⟩, h4⟩ := h
  refine ⟨⟨h2, ?_⟩, fun x hx => ⟨(h4 x hx).1, fun hl y n c e => ⟨Nat.le_trans hb ((h4 x hx).2 hl y n c e).1, ((h4 x hx).2 hl y n c e).2⟩⟩⟩
  rcases h3 with h3 | ⟨g, cap, cur, e1, e2, e3⟩
  · exact .inl h3
  · exact .inr ⟨g, cap, cur, e1, by omega, e3⟩
theorem Gx.gbn {w w' : World} {X Y : Nat} (h : Gx w w' X Y) (hX : w.heap.size ≤ X) (hY : w.heap.size ≤ Y) : w.grownBy w' none :=
  ⟨h.os, h.tape, h.output, h.size, fun k hk _ => h.block k hk (by omega) (by omega)⟩
theorem al3 (w : World) (o0 o1 o2 : Obj) (W : World) (h : W = ((w.alloc o0).alloc o1).alloc o2) :
    W.heap[w.heap.size]? = some o0 ∧ W.heap[w.heap.size + 1]? = some o1 ∧ W.heap[w.heap.size + 1 + 1]? = some o2 ∧ w.grownBy W none := by
  subst h
  refine ⟨?_, ?_, ?_, gb_alloc (gb_alloc (World.grownBy_alloc _ _ _) _) _⟩
  all_goals
    simp only [World.alloc, Array.getElem?_push, Array.size_push]
    repeat (first | rw [if_pos trivial] | rw [if_pos (by omega)] | rw [if_neg (by omega)])
theorem res_dec (tmps : Array Value) (W : World) (LB EB : Nat) (lv ev : Value) (h2 : tmps.getD 2 undef = .pointer (some ⟨LB, 0, none⟩)) (h3 : tmps.getD 3 undef = .pointer (some ⟨EB, 0, none⟩)) (hL : W.cell? ⟨LB, 0, none⟩ = some lv) (hE : W.cell? ⟨EB, 0, none⟩ = some ev) :
    (results Tryd.f40 tmps).run Tryd.prog W = .ok (.tuple #[lv, ev]) W := by
  rw [Array.getD_eq_getD_getElem?] at h2 h3
  simp [results, Tryd.results40, go_sem, h2, h3, hL, hE]
theorem door_panic (w0 W : World) (l : List Int) (tmps : Array Value) (X LB EB : Nat) (sl lv ev : Value) (q st : Nat) (hX : RdS W X sl q st) (hL : W.heap[LB]? = some (.cells #[lv] 22 (0, 0))) (hE : W.heap[EB]? = some (.cells #[ev] 50 (0, 0))) (hLE : LB ≠ EB) (g0 : w0.grownBy W none) (hLl : w0.heap.size ≤ LB) (hEl : w0.heap.size ≤ EB) (hd : decR l = (none, (st : Int)))
    (h2 : tmps.getD 2 undef = .pointer (some ⟨LB, 0, none⟩)) (h3 : tmps.getD 3 undef = .pointer (some ⟨EB, 0, none⟩)) :
    Leaves Tryd.prog Tryd.f40 tmps (DecA w0 l) [{ target := .fn (.func 58) #[.pointer (some ⟨X, 0, none⟩), .pointer (some ⟨LB, 0, none⟩), .pointer (some ⟨EB, 0, none⟩)], args := #[] }] (.panicking [{ v := .iface 24 (.int .i64 5), recovered := false }]) W := by
  refine leaves_cons (f := 58) (args := #[.pointer (some ⟨X, 0, none⟩), .pointer (some ⟨LB, 0, none⟩), .pointer (some ⟨EB, 0, none⟩)]) (by simp) (by simp [go_sem]) ?_
  refine (catch_panicking X LB EB st lv ev [] W (cells3 hX).2.2.1 hL hE hLE).mono ?_
  rintro e u' w'' ⟨rfl, rfl, rfl⟩
  have hLb := (Array.getElem?_eq_some_iff.1 hL).1
  have hEb := (Array.getElem?_eq_some_iff.1 hE).1
  have l1 := (Below.heap_alloc W (.cells #[.int .i64 5, .int .i64 (st : Int)] 79) LB hLb).trans hL
  have l2 := (Below.heap_alloc W (.cells #[.int .i64 5, .int .i64 (st : Int)] 79) EB hEb).trans hE
  have l3 := heap_set (o := 0) l1 (.slice none 0 0)
  have l4 := (Below.heap_setCell (W.alloc (.cells #[.int .i64 5, .int .i64 (st : Int)] 79)) ⟨LB, 0, none⟩ (.slice none 0 0) EB (Ne.symm hLE)).trans l2
  have l5 := heap_set (o := 0) l4 (.iface 74 (.pointer (some ⟨W.heap.size, 0, none⟩)))
  have l6 := (Below.heap_setCell ((W.alloc (.cells #[.int .i64 5, .int .i64 (st : Int)] 79)).setCell ⟨LB, 0, none⟩ (.slice none 0 0)) ⟨EB, 0, none⟩ (.iface 74 (.pointer (some ⟨W.heap.size, 0, none⟩))) LB hLE).trans l3
  have hr := res_dec tmps _ LB EB _ _ h2 h3 (cells1 l6).1 (cells1 l5).1
  refine ⟨_, hr, gb_set (gb_set (gb_alloc g0 _) _ _ (.inl hLl)) _ _ (.inl hEl), .inr ⟨st, W.heap.size, hd, rfl, ?_, g0.size⟩⟩
  rw [Below.heap_setCell _ _ _ _ (by simp; omega), Below.heap_setCell _ _ _ _ (by simp; omega)]
  exact heap_alloc_new _ _
set_option maxRecDepth 100000 in
set_option maxHeartbeats 4000000 in
theorem decode_nil (w : World) (a : Option Addr) (n cap : Nat) (hb : BSv w a n cap []) :
    Calls Tryd.prog 40 #[.slice a n cap] w (DecA w []) := by
  have hmf := mkf
  have hn : n = 0 := hb.2.1
  subst hn
  clear hb
  go_enter_defers Tryd.func40, Tryd.ntmps40
  go_wp2_with (go_at_call 59; refine (refuse_any _ _).mono ?_; rintro e w' ⟨rfl, rfl⟩)
  have h3 := al3 w (.cells #[.slice none 0 0] 22) (.cells #[.nilIface] 50) (.cells #[.slice a 0 cap, .int .i64 0, .int .i64 0] 98) _ rfl
  exact door_panic w _ [] _ (w.heap.size + 1 + 1) w.heap.size (w.heap.size + 1) _ _ _ 0 0 h3.2.2.1 h3.1 h3.2.1 (by omega) h3.2.2.2 (Nat.le_refl _) (by omega) (by simp [decR]) rfl rfl
set_option maxRecDepth 100000 in
set_option maxHeartbeats 4000000 in
theorem decode_some (w : World) (bb o n cap : Nat) (l : List Int) (hb : BSv w (some ⟨bb, o, none⟩) n cap l) (h0 : 0 < l.length) (hl : l.length ≤ 100000000) :
    Calls Tryd.prog 40 #[.slice (some ⟨bb, o, none⟩) n cap] w (DecA w l) := by
  have hmf := mkf
  have hn : n = l.length := hb.2.1
  have e0 : ((n : Int) == 0) = false := by simp; omega
  have hbl : bb < w.heap.size := by
    obtain ⟨b1, o1, e1, h1⟩ := bs_one hb (by omega)
    cases e1
    exact World.block_lt_of_cell? w _ (h1 0 (by omega))
  replace hn := hide hn
  go_enter_defers Tryd.func40, Tryd.ntmps40
  go_wp2_with fail
  obtain ⟨W3, hW3⟩ : ∃ W, W = (((w.alloc (.cells #[.slice none 0 0] 22)).alloc (.cells #[.nilIface] 50)).alloc (.cells #[.slice (some ⟨bb, o, none⟩) n cap, .int .i64 0, .int .i64 0] 98)) := ⟨_, rfl⟩
  obtain ⟨hL3, hE3, hX3, g3⟩ := al3 w _ _ _ _ hW3
  have hs3 : W3.heap.size = w.heap.size + 3 := by rw [hW3]; simp
  rw [← hW3]
  replace hW3 := hide hW3
  obtain ⟨LB, hLB⟩ : ∃ x, x = w.heap.size := ⟨_, rfl⟩
  obtain ⟨EB, hEB⟩ : ∃ x, x = w.heap.size + 1 := ⟨_, rfl⟩
  obtain ⟨X, hXB⟩ : ∃ x, x = w.heap.size + 1 + 1 := ⟨_, rfl⟩
  simp only [← hXB] at hX3 ⊢
  simp only [← hEB] at hE3 ⊢
  simp only [← hLB] at hL3 ⊢
  have hord : Hid (w.heap.size = LB ∧ EB = LB + 1 ∧ X = LB + 2) := hide (by omega)
  replace hX3 : RdS W3 X (.slice (some ⟨bb, o, none⟩) n cap) 0 0 := hX3
  clear hLB hEB hXB
  refine (shapes_any W3).mono ?_
  rintro e w1 ⟨T, P2, P3, P4, P5, P6, Bo, Bc, rfl, hT, g1⟩
  have hL1 := (g1.block LB (by have := unhide hord; omega) (by simp)).trans hL3
  have hE1 := (g1.block EB (by have := unhide hord; omega) (by simp)).trans hE3
  have hX1 := hX3.gb g1 (by simp)
  have gw1 := gb_trans g3 g1
  have hs1 := g1.size
  have hdec : decR l = decF l (l.length + 1) 0 ([] : List Itm).unzip.1 := by unfold decR; rw [if_neg (by omega)]; rfl
  have hTX := hT.ne (cells3 hX1).1
  have hTL := hT.ne (cells1 hL1).1
  replace hL3 := hide hL3
  replace hE3 := hide hE3
  replace hX3 := hide hX3
  replace hL1 := hide hL1
  replace hE1 := hide hE1
  replace hX1 := hide hX1
  replace hdec := hide hdec
  go_wp2_with fail
  go_loopg [15] l.length (fun gh _ wr => ∃ (q st k : Nat) (its : List Itm) (a : Option Addr) (m c : Nat), gh = l.length - q ∧ q ≤ l.length ∧ its.length ≤ q ∧ RdS wr X (.slice (some ⟨bb, o, none⟩) n cap) q st ∧ wr.heap[LB]? = some (.cells #[.slice a m c] 22 (0, 0)) ∧ wr.heap[EB]? = some (.cells #[.nilIface] 50 (0, 0)) ∧ OwnF wr w1.heap.size (.slice a m c) its ∧ Gx w1 wr X LB ∧ decR l = decF l k q (its.map (·.1)) ∧ l.length - q < k)
  case atStart => exact ⟨0, 0, l.length + 1, [], none, 0, 0, by omega, by omega, by simp, unhide hX1, unhide hL1, unhide hE1, OwnF.nil _ _, Gx.refl _ _ _, unhide hdec, by omega⟩
  case round =>
    obtain ⟨q, st, k, its, a, m, c, rfl, hq, hit, hXr, hLr, hEr, hOr, gr, hdr, hk⟩ := hrel
    obtain ⟨y0, y1, y2, yf⟩ := cells3 hXr
    have gwr : w.grownBy wr none := ((Gx.of (X := X) (Y := LB) gw1 (fun k e => by cases e)).trans gr).gbn (by have := unhide hord; omega) (by have := unhide hord; omega)
    by_cases hlt : q < l.length
    · have hqn : (q : Int) < (n : Int) := by have := unhide hn; omega
      have hTr := hT.gx gr hTX hTL
      have hbr := hb.gb0 gwr
      have hF := pFrame_any wr X T P2 P3 P4 P5 P6 Bo Bc bb o n cap l q st hTr hXr hbr (by have := unhide hord; omega) hlt hl
      have hF2 := pFrame_any wr.drew X T P2 P3 P4 P5 P6 Bo Bc bb o n cap l q st (hTr.gb0 (gb_drew (World.grownBy.refl _ _))) hXr (hbr.gb0 (gb_drew (World.grownBy.refl _ _))) (by have := unhide hord; omega) hlt hl
      obtain ⟨z0, zf⟩ := cells1 hLr
      obtain ⟨k', rfl⟩ : ∃ k', k = k' + 1 := ⟨k - 1, by omega⟩
      have hPanic : Hid (∀ (W : World) (p' : Nat) (tmps : Array Value), wr.grownBy W (some X) → RdS W X (.slice (some ⟨bb, o, none⟩) n cap) p' q → frameR l q = none → tmps.getD 2 undef = .pointer (some ⟨LB, 0, none⟩) → tmps.getD 3 undef = .pointer (some ⟨EB, 0, none⟩) → Leaves Tryd.prog Tryd.f40 tmps (DecA w l) [{ target := .fn (.func 58) #[.pointer (some ⟨X, 0, none⟩), .pointer (some ⟨LB, 0, none⟩), .pointer (some ⟨EB, 0, none⟩)], args := #[] }] (.panicking [{ v := .iface 24 (.int .i64 5), recovered := false }]) W) := hide (fun W p' tmps g hX hf h2 h3 => by
        refine door_panic w W l tmps X LB EB _ _ _ p' q hX ((g.block LB (Array.getElem?_eq_some_iff.1 hLr).1 (fun e => by have := Option.some.inj e; have := unhide hord; omega)).trans hLr) ((g.block EB (Array.getElem?_eq_some_iff.1 hEr).1 (fun e => by have := Option.some.inj e; have := unhide hord; omega)).trans hEr) (by have := unhide hord; omega) (gb_trans' gwr g (fun j e => .inl (by cases e; have := unhide hord; omega))) (by have := unhide hord; omega) (by have := unhide hord; omega) ?_ h2 h3
        rw [hdr]
        simp only [decF]
        rw [if_pos hlt, hf])
      have hApp : Hid (∀ (W w5 : World) (f : Fr) (q' : Nat) (A : Option Addr) (NN C : Nat), wr.grownBy W none → W.heap.size = wr.heap.size → W.grownBy w5 (some X) → FrV w5 f (.slice A NN C) → ((Value.slice A NN C) = .slice none 0 0 ∨ ∃ x n c, (Value.slice A NN C) = .slice (some x) n c ∧ W.heap.size ≤ x.block) → OwnF w5 w1.heap.size (.slice a m c) its ∧ (f.ranges ≠ [] → ∀ y n' c', Value.slice A NN C = .slice (some y) n' c' → w1.heap.size ≤ y.block ∧ (Value.slice a m c).ownBlock ≠ some y.block) ∧ w5.heap[LB]? = some (.cells #[.slice a m c] 22 (0, 0)) ∧ w5.heap[EB]? = some (.cells #[.nilIface] 50 (0, 0)) ∧ w1.heap.size ≤ w5.heap.size ∧ Gx w1 w5 X LB) := hide (fun W w5 f q' A NN C gW hWs g5 hv hn => by
        have gA : wr.grownBy w5 (some X) := gb_trans' (gb_none gW (some X)) g5 (fun j e => .inr rfl)
        have hz := gr.size
        refine ⟨hOr.gb gA (fun j e => by cases e; have := unhide hord; omega), fun hne y n' c' e => ?_, (gA.block LB (Array.getElem?_eq_some_iff.1 hLr).1 (fun e => by have := Option.some.inj e; have := unhide hord; omega)).trans hLr, (gA.block EB (Array.getElem?_eq_some_iff.1 hEr).1 (fun e => by have := Option.some.inj e; have := unhide hord; omega)).trans hEr, Nat.le_trans hz gA.size, gr.trans (Gx.of gA (fun j e => .inl (Option.some.inj e).symm))⟩
        rcases hn with h | ⟨x, n2, c2, h, hx⟩
        · rw [h] at e; cases e
        · rw [h] at e; cases e
          exact ⟨by omega, fun e2 => by have := (hOr.lt _ e2).2; omega⟩)
      cases hfq : frameR l q with
      | none =>
        rw [hfq] at hF2
        have hF4 := hF2.mono (fun e W (h : FA _ _ _ _ _ none e W) => h.isNone)
        replace hfq := hide hfq
        replace hF4 := hide hF4
        replace hXr := hide hXr
        replace hLr := hide hLr
        replace hEr := hide hEr
        replace hOr := hide hOr
        replace hdr := hide hdr
        clear hF hF2 hApp
        go_wp2_with fail
        refine wp_region_any (by kernel_rfl) ?_
        try (change wpAny _ _ _ _ _ _ _ (World.drew _))
        refine wpAny_ready (rs := [0, 1]) (by kernel_rfl) (by simp) ?_
        refine AllReady.cons rfl (fun K hK => ?_) (AllReady.cons rfl (fun K hK => ?_) AllReady.nil)
        · go_simp
          refine hK _ _ ?_
          clear hK K
          refine wpAny_ready (rs := [1]) (by kernel_rfl) (by simp) ?_
          refine AllReady.cons rfl (fun K hK => ?_) AllReady.nil
          go_simp
          refine hK _ _ ?_
          clear hK K
          refine wpAny_ready (rs := [2]) (by kernel_rfl) (by simp) ?_
          refine AllReady.cons rfl (fun K hK => ?_) AllReady.nil
          go_simp
          refine (unhide hF4).mono ?_
          rintro e w5 ⟨g5, rfl, p', hX5⟩
          exact unhide hPanic _ _ _ (gb_trans' (gb_none (gb_drew (World.grownBy.refl _ _)) _) g5 (fun j e => .inr rfl)) hX5 (unhide hfq) rfl rfl
        · go_simp
          refine hK _ _ ?_
          clear hK K
          refine wpAny_ready (rs := [0, 2]) (by kernel_rfl) (by simp) ?_
          refine AllReady.cons rfl (fun K hK => ?_) (AllReady.cons rfl (fun K hK => ?_) AllReady.nil)
          · go_simp
            refine hK _ _ ?_
            clear hK K
            refine wpAny_ready (rs := [2]) (by kernel_rfl) (by simp) ?_
            refine AllReady.cons rfl (fun K hK => ?_) AllReady.nil
            go_simp
            refine (unhide hF4).mono ?_
            rintro e w5 ⟨g5, rfl, p', hX5⟩
            exact unhide hPanic _ _ _ (gb_trans' (gb_none (gb_drew (World.grownBy.refl _ _)) _) g5 (fun j e => .inr rfl)) hX5 (unhide hfq) rfl rfl
          · go_simp
            refine (unhide hF4).mono ?_
            rintro e w5 ⟨g5, rfl, p', hX5⟩
            exact unhide hPanic _ _ _ (gb_trans' (gb_none (gb_drew (World.grownBy.refl _ _)) _) g5 (fun j e => .inr rfl)) hX5 (unhide hfq) rfl rfl
      | some fq =>
        obtain ⟨⟨kd, sm, of, cd, fin, d, rg⟩, q'⟩ := fq
        rw [hfq] at hF2
        have hF4 := hF2.mono (fun e W (h : FA _ _ _ _ _ (some _) e W) => h.isSome)
        simp only [frA] at hF4
        have hdr2 : decR l = decF l k' q' (its.map (·.1) ++ [⟨kd, sm, of, cd, fin, d, rg⟩]) := by
          rw [hdr]
          simp only [decF]
          rw [if_pos hlt, hfq]
        have hEnd : Hid (∀ (w5 w7 : World) (ob : Obj) (it : Itm) (a7 : Option Addr) (n7 c7 q' : Nat), RdS w5 X (.slice (some ⟨bb, o, none⟩) n cap) q' q → w5.heap[LB]? = some (.cells #[.slice a m c] 22 (0, 0)) → w5.heap[EB]? = some (.cells #[.nilIface] 50 (0, 0)) → Gx w1 w5 X LB → OwnF (w5.alloc ob) w1.heap.size (.slice a m c) its → (w5.alloc ob).grownBy w7 (Value.slice a m c).ownBlock → OwnF w7 w1.heap.size (.slice a7 n7 c7) (its ++ [it]) →
            w7.heap[LB]? = some (.cells #[.slice a m c] 22 (0, 0)) ∧ RdS (w7.setCell ⟨LB, 0, none⟩ (.slice a7 n7 c7)) X (.slice (some ⟨bb, o, none⟩) n cap) q' q ∧ (w7.setCell ⟨LB, 0, none⟩ (.slice a7 n7 c7)).heap[LB]? = some (.cells #[.slice a7 n7 c7] 22 (0, 0)) ∧ (w7.setCell ⟨LB, 0, none⟩ (.slice a7 n7 c7)).heap[EB]? = some (.cells #[.nilIface] 50 (0, 0)) ∧ OwnF (w7.setCell ⟨LB, 0, none⟩ (.slice a7 n7 c7)) w1.heap.size (.slice a7 n7 c7) (its ++ [it]) ∧ Gx w1 (w7.setCell ⟨LB, 0, none⟩ (.slice a7 n7 c7)) X LB) := hide (fun w5 w7 ob it a7 n7 c7 q' hx hl he gx hA g7 o7 => by
          have h1 := unhide hord
          have hb7 : ∀ B, B < w1.heap.size → B < w5.heap.size → w7.heap[B]? = w5.heap[B]? := fun B hB hB5 => (g7.block B (by simp; omega) (fun e => by have := (hA.lt B e.symm).1; omega)).trans (Below.heap_alloc _ _ _ hB5)
          have hs5 := gx.size
          have hL7 := (hb7 LB (by omega) (by omega)).trans hl
          have hE7 := (hb7 EB (by omega) (by omega)).trans he
          have hX7 : RdS w7 X (.slice (some ⟨bb, o, none⟩) n cap) q' q := (hb7 X (by omega) (by omega)).trans hx
          have gx7 : Gx w1 w7 X LB := ⟨g7.os.trans gx.os, g7.tape.trans gx.tape, g7.output.trans gx.output, Nat.le_trans hs5 (Nat.le_trans (by simp) g7.size), fun k hk h2 h3 => (hb7 k hk (by omega)).trans (gx.block k hk h2 h3)⟩
          refine ⟨hL7, hX7.setY (by omega), heap_set hL7 _, (Below.heap_setCell _ _ _ _ (by show EB ≠ LB; omega)).trans hE7, o7.gb (gb_set (World.grownBy.refl _ _) _ _ (.inr rfl)) (fun k e => by cases e; show LB < w1.heap.size; omega), gx7.set _ _ (.inr (.inl rfl))⟩)
        replace hfq := hide hfq
        replace hF4 := hide hF4
        replace hXr := hide hXr
        replace hLr := hide hLr
        replace hEr := hide hEr
        replace hOr := hide hOr
        replace hdr := hide hdr
        replace hdr2 := hide hdr2
        clear hF hF2 hPanic
        go_wp2_with fail
        refine wp_region_any (by kernel_rfl) ?_
        try (change wpAny _ _ _ _ _ _ _ (World.drew _))
        refine wpAny_ready (rs := [0, 1]) (by kernel_rfl) (by simp) ?_
        refine AllReady.cons rfl (fun K hK => ?_) (AllReady.cons rfl (fun K hK => ?_) AllReady.nil)
        · go_simp
          refine hK _ _ ?_
          clear hK K
          refine wpAny_ready (rs := [1]) (by kernel_rfl) (by simp) ?_
          refine AllReady.cons rfl (fun K hK => ?_) AllReady.nil
          go_simp
          refine hK _ _ ?_
          clear hK K
          refine wpAny_ready (rs := [2]) (by kernel_rfl) (by simp) ?_
          refine AllReady.cons rfl (fun K hK => ?_) AllReady.nil
          go_simp
          refine (unhide hF4).mono ?_
          rintro e w5 ⟨g5, A, NN, C, rfl, hv5, hn5, hX5, hq1, hq2⟩
          obtain ⟨o5, on5, l5, e5, s5, x5⟩ := unhide hApp _ w5 _ q' A NN C (gb_drew (World.grownBy.refl _ _)) rfl g5 hv5 hn5
          obtain ⟨l5c, l5f⟩ := cells1 l5
          have l5lt := (Array.getElem?_eq_some_iff.1 l5).1
          replace l5 := hide l5
          replace e5 := hide e5
          replace o5 := hide o5
          replace on5 := hide on5
          replace hv5 := hide hv5
          replace hX5 := hide hX5
          replace hn5 := hide hn5
          refine hK _ _ ?_
          clear hK K
          refine wpAny_ready (rs := [3]) (by kernel_rfl) (by simp) ?_
          refine AllReady.cons rfl (fun K hK => ?_) AllReady.nil
          go_simp
          refine hK _ _ ?_
          clear hK K
          refine wpAny_ready (rs := [4]) (by kernel_rfl) (by simp) ?_
          refine AllReady.cons rfl (fun K hK => ?_) AllReady.nil
          refine step_appendF (by rfl) _ _ (by rfl) w1.heap.size _ its (by rfl) ((unhide o5).gb (World.grownBy_alloc _ _ none) (fun k e => by cases e)) w5.heap.size 1 (⟨kd, sm, of, cd, fin, d, rg⟩, .slice A NN C) ((unhide hv5).gb0 (World.grownBy_alloc _ _ none)) (unhide on5) (by rfl) (by rfl) (range_block (heap_alloc_new _ _)) (by omega) (by simp; omega) ?_
          intro a7 n7 c7 w7 o7 g7 b7
          have hA5 := (unhide o5).gb (World.grownBy_alloc w5 (.cells #[.int .i64 kd, .int .i64 sm, .int .u64 of, .int .u64 cd, .bool fin, .string d, .slice A NN C] 46) none) (fun k e => by cases e)
          have hfin := unhide hEnd w5 w7 _ _ a7 n7 c7 q' (unhide hX5) (unhide l5) (unhide e5) x5 hA5 g7 o7
          obtain ⟨l7c, l7f⟩ := cells1 hfin.1
          replace hfin := hide hfin
          replace o7 := hide o7
          refine hK _ _ ?_
          clear hK K
          refine wpAny_ready (rs := [5]) (by kernel_rfl) (by simp) ?_
          refine AllReady.cons rfl (fun K hK => ?_) AllReady.nil
          go_simp
          refine hK _ _ ?_
          clear hK K
          refine wpAny_done (by kernel_rfl) ?_ _
          go_wp2_with fail
          go_roundg (l.length - q')
          case measure => omega
          case rel => exact ⟨q', q, k', its ++ [(⟨kd, sm, of, cd, fin, d, rg⟩, .slice A NN C)], a7, n7, c7, rfl, hq2, by simp; omega, (unhide hfin).2.1, (unhide hfin).2.2.1, (unhide hfin).2.2.2.1, (unhide hfin).2.2.2.2.1, (unhide hfin).2.2.2.2.2, by rw [unhide hdr2]; simp, by omega⟩
        · go_simp
          refine hK _ _ ?_
          clear hK K
          refine wpAny_ready (rs := [0, 2]) (by kernel_rfl) (by simp) ?_
          refine AllReady.cons rfl (fun K hK => ?_) (AllReady.cons rfl (fun K hK => ?_) AllReady.nil)
          · go_simp
            refine hK _ _ ?_
            clear hK K
            refine wpAny_ready (rs := [2]) (by kernel_rfl) (by simp) ?_
            refine AllReady.cons rfl (fun K hK => ?_) AllReady.nil
            go_simp
            refine (unhide hF4).mono ?_
            rintro e w5 ⟨g5, A, NN, C, rfl, hv5, hn5, hX5, hq1, hq2⟩
            obtain ⟨o5, on5, l5, e5, s5, x5⟩ := unhide hApp _ w5 _ q' A NN C (gb_drew (World.grownBy.refl _ _)) rfl g5 hv5 hn5
            obtain ⟨l5c, l5f⟩ := cells1 l5
            have l5lt := (Array.getElem?_eq_some_iff.1 l5).1
            replace l5 := hide l5
            replace e5 := hide e5
            replace o5 := hide o5
            replace on5 := hide on5
            replace hv5 := hide hv5
            replace hX5 := hide hX5
            replace hn5 := hide hn5
            refine hK _ _ ?_
            clear hK K
            refine wpAny_ready (rs := [3]) (by kernel_rfl) (by simp) ?_
            refine AllReady.cons rfl (fun K hK => ?_) AllReady.nil
            go_simp
            refine hK _ _ ?_
            clear hK K
            refine wpAny_ready (rs := [4]) (by kernel_rfl) (by simp) ?_
            refine AllReady.cons rfl (fun K hK => ?_) AllReady.nil
            refine step_appendF (by rfl) _ _ (by rfl) w1.heap.size _ its (by rfl) ((unhide o5).gb (World.grownBy_alloc _ _ none) (fun k e => by cases e)) w5.heap.size 1 (⟨kd, sm, of, cd, fin, d, rg⟩, .slice A NN C) ((unhide hv5).gb0 (World.grownBy_alloc _ _ none)) (unhide on5) (by rfl) (by rfl) (range_block (heap_alloc_new _ _)) (by omega) (by simp; omega) ?_
            intro a7 n7 c7 w7 o7 g7 b7
            have hA5 := (unhide o5).gb (World.grownBy_alloc w5 (.cells #[.int .i64 kd, .int .i64 sm, .int .u64 of, .int .u64 cd, .bool fin, .string d, .slice A NN C] 46) none) (fun k e => by cases e)
            have hfin := unhide hEnd w5 w7 _ _ a7 n7 c7 q' (unhide hX5) (unhide l5) (unhide e5) x5 hA5 g7 o7
            obtain ⟨l7c, l7f⟩ := cells1 hfin.1
            replace hfin := hide hfin
            replace o7 := hide o7
            refine hK _ _ ?_
            clear hK K
            refine wpAny_ready (rs := [5]) (by kernel_rfl) (by simp) ?_
            refine AllReady.cons rfl (fun K hK => ?_) AllReady.nil
            go_simp
            refine hK _ _ ?_
            clear hK K
            refine wpAny_done (by kernel_rfl) ?_ _
            go_wp2_with fail
            go_roundg (l.length - q')
            case measure => omega
            case rel => exact ⟨q', q, k', its ++ [(⟨kd, sm, of, cd, fin, d, rg⟩, .slice A NN C)], a7, n7, c7, rfl, hq2, by simp; omega, (unhide hfin).2.1, (unhide hfin).2.2.1, (unhide hfin).2.2.2.1, (unhide hfin).2.2.2.2.1, (unhide hfin).2.2.2.2.2, by rw [unhide hdr2]; simp, by omega⟩
          · go_simp
            refine (unhide hF4).mono ?_
            rintro e w5 ⟨g5, A, NN, C, rfl, hv5, hn5, hX5, hq1, hq2⟩
            obtain ⟨o5, on5, l5, e5, s5, x5⟩ := unhide hApp _ w5 _ q' A NN C (gb_drew (World.grownBy.refl _ _)) rfl g5 hv5 hn5
            obtain ⟨l5c, l5f⟩ := cells1 l5
            have l5lt := (Array.getElem?_eq_some_iff.1 l5).1
            replace l5 := hide l5
            replace e5 := hide e5
            replace o5 := hide o5
            replace on5 := hide on5
            replace hv5 := hide hv5
            replace hX5 := hide hX5
            replace hn5 := hide hn5
            refine hK _ _ ?_
            clear hK K
            refine wpAny_ready (rs := [0, 3]) (by kernel_rfl) (by simp) ?_
            refine AllReady.cons rfl (fun K hK => ?_) (AllReady.cons rfl (fun K hK => ?_) AllReady.nil)
            · go_simp
              refine hK _ _ ?_
              clear hK K
              refine wpAny_ready (rs := [3]) (by kernel_rfl) (by simp) ?_
              refine AllReady.cons rfl (fun K hK => ?_) AllReady.nil
              go_simp
              refine hK _ _ ?_
              clear hK K
              refine wpAny_ready (rs := [4]) (by kernel_rfl) (by simp) ?_
              refine AllReady.cons rfl (fun K hK => ?_) AllReady.nil
              refine step_appendF (by rfl) _ _ (by rfl) w1.heap.size _ its (by rfl) ((unhide o5).gb (World.grownBy_alloc _ _ none) (fun k e => by cases e)) w5.heap.size 1 (⟨kd, sm, of, cd, fin, d, rg⟩, .slice A NN C) ((unhide hv5).gb0 (World.grownBy_alloc _ _ none)) (unhide on5) (by rfl) (by rfl) (range_block (heap_alloc_new _ _)) (by omega) (by simp; omega) ?_
              intro a7 n7 c7 w7 o7 g7 b7
              have hA5 := (unhide o5).gb (World.grownBy_alloc w5 (.cells #[.int .i64 kd, .int .i64 sm, .int .u64 of, .int .u64 cd, .bool fin, .string d, .slice A NN C] 46) none) (fun k e => by cases e)
              have hfin := unhide hEnd w5 w7 _ _ a7 n7 c7 q' (unhide hX5) (unhide l5) (unhide e5) x5 hA5 g7 o7
              obtain ⟨l7c, l7f⟩ := cells1 hfin.1
              replace hfin := hide hfin
              replace o7 := hide o7
              refine hK _ _ ?_
              clear hK K
              refine wpAny_ready (rs := [5]) (by kernel_rfl) (by simp) ?_
              refine AllReady.cons rfl (fun K hK => ?_) AllReady.nil
              go_simp
              refine hK _ _ ?_
              clear hK K
              refine wpAny_done (by kernel_rfl) ?_ _
              go_wp2_with fail
              go_roundg (l.length - q')
              case measure => omega
              case rel => exact ⟨q', q, k', its ++ [(⟨kd, sm, of, cd, fin, d, rg⟩, .slice A NN C)], a7, n7, c7, rfl, hq2, by simp; omega, (unhide hfin).2.1, (unhide hfin).2.2.1, (unhide hfin).2.2.2.1, (unhide hfin).2.2.2.2.1, (unhide hfin).2.2.2.2.2, by rw [unhide hdr2]; simp, by omega⟩
            · go_simp
              refine hK _ _ ?_
              clear hK K
              refine wpAny_ready (rs := [0]) (by kernel_rfl) (by simp) ?_
              refine AllReady.cons rfl (fun K hK => ?_) AllReady.nil
              go_simp
              refine hK _ _ ?_
              clear hK K
              refine wpAny_ready (rs := [4]) (by kernel_rfl) (by simp) ?_
              refine AllReady.cons rfl (fun K hK => ?_) AllReady.nil
              refine step_appendF (by rfl) _ _ (by rfl) w1.heap.size _ its (by rfl) ((unhide o5).gb (World.grownBy_alloc _ _ none) (fun k e => by cases e)) w5.heap.size 1 (⟨kd, sm, of, cd, fin, d, rg⟩, .slice A NN C) ((unhide hv5).gb0 (World.grownBy_alloc _ _ none)) (unhide on5) (by rfl) (by rfl) (range_block (heap_alloc_new _ _)) (by omega) (by simp; omega) ?_
              intro a7 n7 c7 w7 o7 g7 b7
              have hA5 := (unhide o5).gb (World.grownBy_alloc w5 (.cells #[.int .i64 kd, .int .i64 sm, .int .u64 of, .int .u64 cd, .bool fin, .string d, .slice A NN C] 46) none) (fun k e => by cases e)
              have hfin := unhide hEnd w5 w7 _ _ a7 n7 c7 q' (unhide hX5) (unhide l5) (unhide e5) x5 hA5 g7 o7
              obtain ⟨l7c, l7f⟩ := cells1 hfin.1
              replace hfin := hide hfin
              replace o7 := hide o7
              refine hK _ _ ?_
              clear hK K
              refine wpAny_ready (rs := [5]) (by kernel_rfl) (by simp) ?_
              refine AllReady.cons rfl (fun K hK => ?_) AllReady.nil
              go_simp
              refine hK _ _ ?_
              clear hK K
              refine wpAny_done (by kernel_rfl) ?_ _
              go_wp2_with fail
              go_roundg (l.length - q')
              case measure => omega
              case rel => exact ⟨q', q, k', its ++ [(⟨kd, sm, of, cd, fin, d, rg⟩, .slice A NN C)], a7, n7, c7, rfl, hq2, by simp; omega, (unhide hfin).2.1, (unhide hfin).2.2.1, (unhide hfin).2.2.2.1, (unhide hfin).2.2.2.2.1, (unhide hfin).2.2.2.2.2, by rw [unhide hdr2]; simp, by omega⟩
    · obtain rfl : q = l.length := by omega
      have hqn : ¬ (l.length : Int) < (n : Int) := by have := unhide hn; omega
      obtain ⟨z0, zf⟩ := cells1 hLr
      obtain ⟨z1, zg⟩ := cells1 hEr
      obtain ⟨k', rfl⟩ : ∃ k', k = k' + 1 := ⟨k - 1, by omega⟩
      have hdr2 : decR l = (some (its.map (·.1)), -1) := by
        rw [hdr]
        simp only [decF]
        rw [if_neg (by omega)]
      have hLE : LB ≠ EB := by have := unhide hord; omega
      have hLw := hide (unhide hord)
      replace hdr2 := hide hdr2
      replace hdr := hide hdr
      replace hXr := hide hXr
      replace hLr := hide hLr
      replace hEr := hide hEr
      replace hOr := hide hOr
      go_wp2_with fail
      have l1 := heap_set (o := 0) (unhide hLr) (.slice a m c)
      have l2 := (Below.heap_setCell wr ⟨LB, 0, none⟩ (.slice a m c) EB (by show EB ≠ LB; omega)).trans (unhide hEr)
      have l3 := heap_set (o := 0) l2 .nilIface
      have l4 := (Below.heap_setCell (wr.setCell ⟨LB, 0, none⟩ (.slice a m c)) ⟨EB, 0, none⟩ .nilIface LB (by show LB ≠ EB; omega)).trans l1
      refine leaves_cons (f := 58) (args := #[.pointer (some ⟨X, 0, none⟩), .pointer (some ⟨LB, 0, none⟩), .pointer (some ⟨EB, 0, none⟩)]) (by simp) (by simp [go_sem]) ?_
      refine (catch_idle X LB EB _).mono ?_
      rintro e u' w'' ⟨rfl, rfl, rfl⟩
      have hO := ((unhide hOr).gb (gb_set (World.grownBy.refl wr _) ⟨LB, 0, none⟩ (.slice a m c) (.inr rfl)) (fun k e => by cases e; show LB < w1.heap.size; have := unhide hord; omega)).gb (gb_set (World.grownBy.refl _ _) ⟨EB, 0, none⟩ .nilIface (.inr rfl)) (fun k e => by cases e; show EB < w1.heap.size; have := unhide hord; omega)
      refine ⟨_, res_dec _ _ LB EB (.slice a m c) .nilIface rfl rfl (cells1 l4).1 (cells1 l3).1, gb_set (gb_set gwr _ _ (.inl (by show w.heap.size ≤ LB; have := unhide hord; omega))) _ _ (.inl (by show w.heap.size ≤ EB; have := unhide hord; omega)), .inl ⟨its, a, m, c, unhide hdr2, rfl, hO.lower gw1.size⟩⟩
end Go.Proofs.YtjnmokmchdfchaaDoor
