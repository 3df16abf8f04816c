import Derived.Test.YtjnmokmchdfchaaDoorZDv
namespace Go.Proofs.YtjnmokmchdfchaaDoor
open Go.RowKit
attribute [local go_sem ↓] Go.wp_at_zero Go.wp_at_succ

theorem num_mono {l : List Int} {p : Nat} {x : Int × Nat} (h : numR l p = some x) : p < x.2 := by
  unfold numR at h
  split at h
  · cases h; have := szOf_pos (l.getD p 0); simp only; omega
  · cases h
theorem rgLoop_mono {l : List Int} : ∀ (k p : Nat) (lo : Int) (acc rs : List Rg) (q : Nat), rgLoop l k p lo acc = some (rs, q) → p ≤ q
  | 0, p, lo, acc, rs, q, h => by
    simp only [rgLoop, Option.some.injEq, Prod.mk.injEq] at h
    omega
  | k + 1, p, lo, acc, rs, q, h => by
    simp only [rgLoop] at h
    cases h1 : numR l p with
    | none => rw [h1] at h; cases h
    | some x =>
      rw [h1] at h
      simp only [Option.bind_some] at h
      have m1 := num_mono h1
      cases h2 : numR l x.2 with
      | none => rw [h2] at h; cases h
      | some y =>
        rw [h2] at h
        simp only [Option.bind_some] at h
        have m2 := num_mono h2
        split at h
        · have := rgLoop_mono k _ _ _ _ _ h; omega
        · cases h
theorem ranges_mono {l : List Int} {p : Nat} {x : List Rg × Nat} (h : rangesR l p = some x) : p ≤ x.2 := by
  unfold rangesR at h
  cases h1 : numR l p with
  | none => rw [h1] at h; cases h
  | some x1 =>
    rw [h1] at h
    simp only [Option.bind_some] at h
    have m1 := num_mono h1
    cases h2 : numR l x1.2 with
    | none => rw [h2] at h; cases h
    | some y =>
      rw [h2] at h
      simp only [Option.bind_some] at h
      have m2 := num_mono h2
      cases h3 : numR l y.2 with
      | none => rw [h3] at h; cases h
      | some z =>
        rw [h3] at h
        simp only [Option.bind_some] at h
        have m3 := num_mono h3
        split at h
        · have := rgLoop_mono _ _ _ _ x.1 x.2 h; omega
        · cases h
theorem stream_mono {l : List Int} {p : Nat} {x : Int × Nat} (h : streamR l p = some x) : p ≤ x.2 := by
  unfold streamR at h
  cases h1 : numR l p with
  | none => rw [h1] at h; cases h
  | some y =>
    rw [h1] at h
    simp only [Option.bind_some] at h
    have := num_mono h1
    split at h
    · cases h; omega
    · cases h
theorem text_mono {l : List Int} {p : Nat} {x : ByteArray × Nat} (h : textR l p = some x) : p ≤ x.2 := by
  unfold textR at h
  cases h1 : numR l p with
  | none => rw [h1] at h; cases h
  | some y =>
    rw [h1] at h
    simp only [Option.bind_some] at h
    have := num_mono h1
    split at h
    · cases h; simp only; omega
    · cases h
theorem bind_mono {α : Type} {o : Option (α × Nat)} {g : α × Nat → Fr} {p : Nat} {f : Fr} {q : Nat} (ho : ∀ x, o = some x → p ≤ x.2) (h : (o.bind fun x => some (g x, x.2)) = some (f, q)) : p ≤ q := by
  cases o with
  | none => cases h
  | some x => simp only [Option.bind_some, Option.some.injEq, Prod.mk.injEq] at h; have := ho x rfl; omega
theorem chain_mono {l : List Int} {j : Nat} (hj : j < 7) : ∀ s ∈ stepsOf l j, ∀ (f : Fr) (p : Nat) (f' : Fr) (q : Nat), s f p = some (f', q) → p ≤ q := by
  have h1 : ∀ (f : Fr) (p : Nat) (f' : Fr) (q : Nat), stOff l f p = some (f', q) → p ≤ q := fun f p f' q h => bind_mono (fun x hx => Nat.le_of_lt (num_mono hx)) h
  have h2 : ∀ (f : Fr) (p : Nat) (f' : Fr) (q : Nat), stCode l f p = some (f', q) → p ≤ q := fun f p f' q h => bind_mono (fun x hx => Nat.le_of_lt (num_mono hx)) h
  have h3 : ∀ (f : Fr) (p : Nat) (f' : Fr) (q : Nat), stStream l f p = some (f', q) → p ≤ q := fun f p f' q h => bind_mono (fun x hx => stream_mono hx) h
  have h4 : ∀ (f : Fr) (p : Nat) (f' : Fr) (q : Nat), stData l f p = some (f', q) → p ≤ q := fun f p f' q h => bind_mono (fun x hx => text_mono hx) h
  have h5 : ∀ (f : Fr) (p : Nat) (f' : Fr) (q : Nat), stRanges l f p = some (f', q) → p ≤ q := fun f p f' q h => bind_mono (fun x hx => ranges_mono hx) h
  intro s hs
  rcases lt7 hj with rfl | rfl | rfl | rfl | rfl | rfl | rfl <;> simp [stepsOf] at hs
  · subst hs; exact h5
  · rcases hs with rfl | rfl | rfl
    · exact h3
    · exact h2
    · exact h1
  · rcases hs with rfl | rfl | rfl
    · exact h3
    · exact h1
    · exact h4
  · rcases hs with rfl | rfl | rfl
    · exact h3
    · exact h1
    · exact h4
  · subst hs; exact h2
def FA (w : World) (X : Nat) (sl : Value) (p len : Nat) (r : Option (Fr × Nat)) (e : Ending) (w' : World) : Prop :=
  w.grownBy w' (some X) ∧ ((∃ f q rv, r = some (f, q) ∧ e = .returned (.agg (frA f rv)) ∧ FrV w' f rv ∧ (rv = .slice none 0 0 ∨ ∃ x n c, rv = .slice (some x) n c ∧ w.heap.size ≤ x.block) ∧ RdS w' X sl q p ∧ p < q ∧ q ≤ len) ∨ (r = none ∧ e = PN ∧ ∃ p', RdS w' X sl p' p))
theorem FrV.set {w : World} {f : Fr} {A : Option Addr} {n c B : Nat} (h : FrV w f (.slice A n c)) (i : Nat) (v : Value) (hne : ∀ x, A = some x → x.block ≠ B) : FrV (w.setCell ⟨B, i, none⟩ v) f (.slice A n c) := by
  obtain ⟨h1, h2, ra, cap, h3, h4⟩ := h
  refine ⟨h1, h2, ra, cap, h3, ?_⟩
  cases h3
  obtain ⟨k1, k2, k3, k4, k5⟩ := h4
  refine ⟨k1, k2, k3, k4, ?_⟩
  rcases k5 with k5 | ⟨b', o', rfl, k5⟩
  · exact .inl k5
  · exact .inr ⟨b', o', rfl, range_set k5 _ _ (fun e => hne _ rfl e.symm)⟩
set_option maxRecDepth 100000 in
set_option maxHeartbeats 4000000 in
theorem pFrame_any (w : World) (X T P2 P3 P4 P5 P6 Bo Bc bb o n cap : Nat) (l : List Int) (p st : Nat) (hT : Tab w T P2 P3 P4 P5 P6 Bo Bc) (hX : RdS w X (.slice (some ⟨bb, o, none⟩) n cap) p st) (hb : BSv w (some ⟨bb, o, none⟩) n cap l) (xb : bb ≠ X) (hp : p < l.length) (hl : l.length ≤ 100000000) :
    Calls Tryd.prog 60 #[.pointer (some ⟨X, 0, none⟩), .slice (some ⟨T, 0, none⟩) 7 7] w (FA w X (.slice (some ⟨bb, o, none⟩) n cap) p l.length (frameR l p)) := by
  have hXl := hX.lt
  have h8 := hb.1
  obtain ⟨x0, x1, x2, xf⟩ := cells3 hX
  have hTX := hT.ne x0
  have hbl : bb < w.heap.size := by
    obtain ⟨b1, o1, e1, h1⟩ := bs_one hb (by have := hb.2.1; omega)
    cases e1
    exact World.block_lt_of_cell? w _ (h1 0 (by have := hb.2.1; omega))
  go_enter Tryd.func60, Tryd.ntmps60
  go_wp2_with fail
  obtain ⟨W1, hW1⟩ : ∃ W, W = (w.setCell ⟨X, 2, none⟩ (.int .i64 (p : Int))).alloc (.cells #[.int .i64 0, .int .i64 0, .int .u64 0, .int .u64 0, .bool false, .string { data := #[] }, .slice none 0 0] 46) := ⟨_, rfl⟩
  have hX1 : RdS W1 X (.slice (some ⟨bb, o, none⟩) n cap) p p := by
    rw [hW1]
    unfold RdS at hX ⊢
    rw [Below.heap_alloc _ _ _ (by simpa [World.setCell] using hXl), heap_set hX]; rfl
  have g1 : w.grownBy W1 (some X) := by rw [hW1]; exact gb_alloc (gb_set (World.grownBy.refl _ _) _ _ (.inr rfl)) _
  have hR1 : W1.heap[w.heap.size]? = some (.cells #[.int .i64 0, .int .i64 0, .int .u64 0, .int .u64 0, .bool false, .string { data := #[] }, .slice none 0 0] 46 (0, 0)) := by
    have := heap_alloc_new (w.setCell ⟨X, 2, none⟩ (.int .i64 (p : Int))) (.cells #[.int .i64 0, .int .i64 0, .int .u64 0, .int .u64 0, .bool false, .string { data := #[] }, .slice none 0 0] 46)
    rw [hW1]
    simpa [World.setCell] using this
  have hs1 : W1.heap.size = w.heap.size + 1 := by rw [hW1]; simp [World.setCell]
  have hbg : ∀ W, w.grownBy W (some X) → BSv W (some ⟨bb, o, none⟩) n cap l := fun W g => hb.gb g (fun j e => .inr (.inr (fun x hx => by cases hx; cases e; exact xb)))
  rw [← hW1]
  replace hW1 := hide hW1
  clear x0 x1 x2 xf hX
  refine (take_any X bb o n cap l p p 1 1 rfl W1 hX1 (hbg W1 g1) xb (by omega) hl (by omega)).mono ?_
  rintro e w2 ⟨g2, ⟨hs, rfl, hX2⟩ | ⟨hs, a2, c2, rfl, hb2, hX2⟩⟩
  · omega
  obtain ⟨b2, o2, rfl, hc2⟩ := bs_one hb2 (by omega)
  have x1 := hc2 0 (by omega)
  rw [getD_dt _ _ _ _ (by omega), Nat.add_zero, Nat.add_zero] at x1
  obtain ⟨t, ht⟩ : ∃ t, t = l.getD p 0 := ⟨_, rfl⟩
  rw [← ht] at x1
  have hfr : frameR l p = (rawR l t (p + 1)).bind fun x => by classical exact if soundP x.1 then some x else none := by rw [ht]; rfl
  replace ht := hide ht
  replace hfr := hide hfr
  replace hb2 := hide hb2
  have g12 := gb_trans g1 g2
  have hT2 := hT.gx (Gx.of (Y := X) g12 (fun k e => .inl (Option.some.inj e).symm)) hTX hTX
  clear hc2
  go_wp2_with fail
  refine (shapeAt_any w2 T P2 P3 P4 P5 P6 Bo Bc hT2 t).mono ?_
  rintro e w3 ⟨⟨j, hj, hjt, rfl⟩ | ⟨hno, rfl⟩, g3⟩
  rotate_left
  · have hnone : frameR l p = none := by rw [unhide hfr, raw_none l (p + 1) hno]; rfl
    replace hnone := hide hnone
    have hX3 := hide (hX2.gb g3 (by simp))
    clear hno x1
    go_wp2_with (go_at_call 59; refine (refuse_any X _).mono ?_; rintro e w' ⟨rfl, rfl⟩)
    exact ⟨rfl, gb_trans' g12 (gb_alloc g3 _) (fun k e => by cases e), .inr ⟨unhide hnone, rfl, _, (unhide hX3).gb (World.grownBy_alloc _ _ none) (by simp)⟩⟩
  have hraw := raw_chain l P2 P3 P4 P5 P6 (p + 1) hj
  rw [hjt] at hraw
  have hsr := fun (W : World) (hTW : Tab W T P2 P3 P4 P5 P6 Bo Bc) (Y : Nat) (hY : T ≠ Y ∧ P2 ≠ Y ∧ P3 ≠ Y ∧ P4 ≠ Y ∧ P5 ≠ Y ∧ P6 ≠ Y ∧ Bo ≠ Y ∧ Bc ≠ Y) (hYl : Y < W.heap.size) => shape_reads hTW X Y bb o n cap l p hTX hY hYl hj
  have hk16 : 1 ≤ (shAt (shs P2 P3 P4 P5 P6) j).k ∧ (shAt (shs P2 P3 P4 P5 P6) j).k ≤ 6 := by
    rcases lt7 hj with rfl | rfl | rfl | rfl | rfl | rfl | rfl <;> simp [shAt, shs]
  have hT3 := hT2.gb0 g3
  have hmono := chain_mono (l := l) hj
  have hkd := fun (i : Nat) (hi : i < (stepsOf l j).length) (f f' : Fr) (p q : Nat) => st_kind (l := l) (f := f) (f' := f') (p := p) (q := q) hj hi
  have hj2 : j = 2 → (stepsOf l j).length = 1 := fun e => by rw [e]; rfl
  generalize shAt (shs P2 P3 P4 P5 P6) j = S at *
  obtain ⟨K, FN, TT, PA, PN'⟩ := S
  simp only at hraw hsr hk16 hjt
  obtain ⟨Y, hYe⟩ : ∃ Y, Y = w3.heap.size + 1 := ⟨_, rfl⟩
  have hYT := hT3.lt (Y := Y) (by omega)
  obtain ⟨W5, hW5⟩ : ∃ W, W = (w3.alloc (.cells #[.int .i64 K, .bool FN, .int .u8 TT, .slice PA PN' PN'] 94)).alloc (.cells #[.int .i64 K, .int .i64 0, .int .u64 0, .int .u64 0, .bool FN, .string { data := #[] }, .slice none 0 0] 46) := ⟨_, rfl⟩
  have g5 : w3.grownBy W5 none := by rw [hW5]; exact gb_alloc (World.grownBy_alloc _ _ _) _
  have hs5 : W5.heap.size = w3.heap.size + 2 := by rw [hW5]; simp
  have hY5 : W5.heap[Y]? = some (.cells (frA (frZ K FN) (.slice none 0 0)) 46 (0, 0)) := by
    rw [hW5, hYe, ← World.size_alloc w3 (.cells #[.int .i64 K, .bool FN, .int .u8 TT, .slice PA PN' PN'] 94)]; exact heap_alloc_new _ _
  have hT5 := hT3.gb0 g5
  obtain ⟨hPN, hN3, hparts⟩ := hsr W5 hT5 Y hYT (by omega)
  have g15 : w.grownBy W5 (some X) := gb_trans' g12 (gb_trans g3 g5) (fun k e => by cases e)
  have hX5 := hX2.gb (gb_trans g3 g5) (by simp)
  have hR5 : W5.heap[w.heap.size]? = some (.cells #[.int .i64 0, .int .i64 0, .int .u64 0, .int .u64 0, .bool false, .string { data := #[] }, .slice none 0 0] 46 (0, 0)) := by
    have e1 := (gb_trans' g2 (gb_trans g3 g5) (fun k e => by cases e)).block w.heap.size (by omega) (fun e => by have := Option.some.inj e; omega)
    exact e1.trans hR1
  have hsz3 := g3.size
  have hsz2 := g2.size
  replace hsr := hide hsr
  replace hY5 := hide hY5
  replace hR5 := hide hR5
  replace hraw := hide hraw
  replace hparts := hide hparts
  replace hmono := hide hmono
  replace hkd := hide hkd
  replace hj2 := hide hj2
  replace hX5 := hide hX5
  replace hbg := hide hbg
  clear x1 hR1 hX1
  have hPN3 : PN' ≤ 3 := by omega
  replace hjt := hide hjt
  replace hPN := hide hPN
  replace hYe := hide hYe
  go_wp2_with fail
  rw [← hW5]
  simp only [← unhide hYe]
  replace hW5 := hide hW5
  have hif := hide info_fr
  have hYw : w.heap.size ≤ Y := by have := unhide hYe; omega
  go_loopw [38] (fun i wr => ∃ (k q : Nat) (f : Fr) (rv : Value), k ≤ PN' ∧ i = .int .i64 (k : Int) ∧ rawR l t (p + 1) = chainR ((stepsOf l j).drop k) f q ∧ RdS wr X (.slice (some ⟨bb, o, none⟩) n cap) q p ∧ wr.heap[Y]? = some (.cells (frA f rv) 46 (0, 0)) ∧ FrV wr f rv ∧ (rv = .slice none 0 0 ∨ ∃ x n c, rv = .slice (some x) n c ∧ w.heap.size < x.block) ∧ (k < PN' → f.ranges = [] ∧ rv = .slice none 0 0) ∧ Gx W5 wr X Y ∧ p + 1 ≤ q ∧ q ≤ l.length ∧ f.kind = K) (fun i _ => PN' - (intOf i).toNat)
  case atStart => exact ⟨0, p + 1, frZ K FN, _, by omega, rfl, unhide hraw, unhide hX5, unhide hY5, FrV.nil _ _ ⟨⟨by simp [frZ]; omega, by simp [frZ]; omega⟩, ⟨by simp [frZ], by simp [frZ]⟩, ⟨by simp [frZ], by simp [frZ]⟩, ⟨by simp [frZ], by simp [frZ]⟩, fun r hr => by simp [frZ] at hr⟩ rfl (by simp [frZ]), .inl rfl, fun _ => ⟨rfl, rfl⟩, Gx.refl _ _ _, by omega, by omega, rfl⟩
  case round =>
    obtain ⟨k, q, f, rv, hk, rfl, hrk, hXk, hYk, hfv, hnew, hnil, gk, hq1, hq2, hfk⟩ := hrel
    have gwk : w.grownBy wr (some X) := ((Gx.of (Y := Y) g15 (fun k e => .inl (Option.some.inj e).symm)).trans gk).gb hYw
    by_cases hlt : k < PN'
    · obtain ⟨hrg, rfl⟩ := hnil hlt
      rcases unhide hparts with h0 | ⟨P, hPA, hPX, hPY, hpi⟩
      · have := unhide hPN; omega
      obtain ⟨wf, wc, rd, y1, y2, R, rcap, rfl, hE, hRd⟩ := hpi k (by have := unhide hPN; omega)
      subst hPA
      replace y1 := gk.cell y1 hPX hPY
      replace y2 := gk.cell y2 hPX hPY
      have gal := World.grownBy_alloc wr (.cells #[.func (.func wf) #[] wc, .func (.func R) #[] rcap] 125) none
      have hYb : Y < wr.heap.size := (Array.getElem?_eq_some_iff.1 hYk).1
      have hRC : RC (wr.alloc (.cells #[.func (.func wf) #[] wc, .func (.func R) #[] rcap] 125)) X Y bb o n cap l q p f :=
        ⟨hXk.gb gal (by simp), (Below.heap_alloc _ _ _ hYb).trans hYk, unhide hbg _ (gb_trans' gwk gal (fun k e => by cases e)), xb, by omega, by omega, hq2, hl, hfv.1, hrg, hfv.2.1⟩
      have hC := hRd _ q f (gk.trans (Gx.of gal (fun k e => by cases e))) hRC
      have hmem : (stepsOf l j)[k]'(by have := unhide hPN; omega) ∈ stepsOf l j := List.getElem_mem _
      have hdr : (stepsOf l j).drop k = (stepsOf l j)[k]'(by have := unhide hPN; omega) :: (stepsOf l j).drop (k + 1) := List.drop_eq_getElem_cons _
      rw [hdr] at hrk
      have hmk := unhide hmono _ hmem f q
      have hkk := unhide hkd k (by have := unhide hPN; omega) f
      generalize (stepsOf l j)[k]'(by have := unhide hPN; omega) = s at *
      have i1 : (0 : Int) ≤ (k : Int) := by omega
      have i2 : (k : Int) < (PN' : Int) := by omega
      have hszk := hide gk.size
      replace hrk := hide hrk
      replace hYk := hide hYk
      replace hfv := hide hfv
      replace hC := hide hC
      replace hRC := hide hRC
      replace hmk := hide hmk
      replace hkk := hide hkk
      replace hfk := hide hfk
      replace hrg := hide hrg
      replace hdr := hide hdr
      clear hpi hnil hRd
      go_wp2_with fail
      refine (unhide hC).mono ?_
      rintro e w6 ⟨g6, ⟨f', q', rv', hs, rfl, hX6, hY6, ⟨hv6, hn6⟩, hq6⟩ | ⟨hs, rfl, hX6⟩⟩
      · replace hs := hide hs
        go_wp2_with fail
        go_roundw
        case rel =>
          refine ⟨k + 1, q', f', rv', by omega, by simp, ?_, hX6, hY6, hv6, ?_, ?_, (gk.trans (Gx.of gal (fun k e => by cases e))).trans g6, ?_, hq6, ?_⟩
          · rw [unhide hrk]; simp only [chainR, unhide hs, Option.bind_some]
          · rcases hn6 with ⟨-, h⟩ | ⟨-, x, n, c, h, hx⟩
            · exact .inl h
            · exact .inr ⟨x, n, c, h, by have := gwk.size; simp at hx; omega⟩
          · intro hk2
            rcases hn6 with h | ⟨h, -⟩
            · exact h
            · have := unhide hj2 (by simpa using h); have := unhide hPN; omega
          · have := unhide hmk f' q' (unhide hs); omega
          · rw [unhide hkk f' q q' (unhide hs)]; exact unhide hfk
        case measure => simp [intOf]; omega
      · refine ⟨rfl, ?_, .inr ⟨?_, rfl, hX6⟩⟩
        · exact (((Gx.of (Y := Y) g15 (fun k e => .inl (Option.some.inj e).symm)).trans (gk.trans (Gx.of gal (fun k e => by cases e)))).trans g6).gb hYw
        · rw [unhide hfr, unhide hrk]; simp only [chainR, hs]; rfl
    · obtain rfl : k = PN' := by omega
      rw [List.drop_of_length_le (by have := unhide hPN; omega)] at hrk
      have hfr2 := unhide hfr
      rw [hrk] at hfr2
      simp only [chainR, Option.bind_some] at hfr2
      have hAL := allowed_any f rv wr hfv
      obtain ⟨A, NN, C, rfl⟩ : ∃ A NN C, rv = .slice A NN C := by
        rcases hnew with h | ⟨x, n, c, h, -⟩
        · exact ⟨_, _, _, h⟩
        · exact ⟨_, _, _, h⟩
      have hRk : wr.heap[w.heap.size]? = some (.cells #[.int .i64 0, .int .i64 0, .int .u64 0, .int .u64 0, .bool false, .string { data := #[] }, .slice none 0 0] 46 (0, 0)) := (gk.block w.heap.size (by omega) (by omega) (by have := unhide hYe; omega)).trans (unhide hR5)
      have hsd : soundP f ↔ baseP f ∧ restP f := ⟨fun h => ⟨h.1, h.2.1⟩, fun h => ⟨h.1, h.2, by rw [hfk]; exact hk16⟩⟩
      have hYlt : Y < wr.heap.size := (Array.getElem?_eq_some_iff.1 hYk).1
      have hRlt : w.heap.size < wr.heap.size := (Array.getElem?_eq_some_iff.1 hRk).1
      obtain ⟨kd, sm, of, cd, fin, d, rg⟩ := f
      simp only [frA] at hYk hAL
      replace hrk := hide hrk
      replace hfr2 := hide hfr2
      replace hAL := hide hAL
      replace hRk := hide hRk
      replace hsd := hide hsd
      replace hYk := hide hYk
      replace hfv := hide hfv
      replace hfk := hide hfk
      clear hnil
      go_wp2_with (refine wpList_load_row (by rfl) 46 _ (by rfl) Y (by rfl) 46 _ (0, 0) _ (unhide hYk) Tryd.underlying46 (by rfl) (unhide hif) ?_)
      refine (unhide hAL).mono ?_
      rintro e w7 ⟨⟨bo, rfl, hbo⟩, g7⟩
      have hX7 := hXk.gb g7 (by simp)
      have gw7 : w.grownBy w7 (some X) := gb_trans' gwk g7 (fun k e => by cases e)
      cases bo
      · have hnone : frameR l p = none := by
          rw [unhide hfr2]
          exact if_neg (fun h => by have := hbo.2 ((unhide hsd).1 h); cases this)
        replace hnone := hide hnone
        replace hbo := hide hbo
        go_wp2_with (go_at_call 59; refine (refuse_any X _).mono ?_; rintro e w' ⟨rfl, rfl⟩)
        exact ⟨rfl, gw7, .inr ⟨unhide hnone, rfl, q, hX7⟩⟩
      · have hsome : frameR l p = some (⟨kd, sm, of, cd, fin, d, rg⟩, q) := by
          rw [unhide hfr2]
          exact if_pos ((unhide hsd).2 (hbo.1 rfl))
        have hY7 := (g7.block Y hYlt (by simp)).trans (unhide hYk)
        have hR7 := (g7.block w.heap.size hRlt (by simp)).trans (unhide hRk)
        obtain ⟨r0, r1, r2, r3, r4, r5, r6⟩ := cells7 hR7
        have rf := cells7f hR7
        have hv7 := (unhide hfv).gb0 g7
        replace hsome := hide hsome
        replace hbo := hide hbo
        replace hY7 := hide hY7
        replace hR7 := hide hR7
        replace hv7 := hide hv7
        go_wp2_with (refine wpList_load_row (by rfl) 46 _ (by rfl) Y (by rfl) 46 _ (0, 0) _ (unhide hY7) Tryd.underlying46 (by rfl) (unhide hif) ?_)
        refine bodyPost_ret (v := .agg #[.int .i64 kd, .int .i64 sm, .int .u64 of, .int .u64 cd, .bool fin, .string d, .slice A NN C]) ?_ rfl ?_
        · simp [results, Tryd.results60, go_sem, r0, r1, r2, r3, r4, r5, r6]
        · have hne : ∀ x, A = some x → x.block ≠ w.heap.size := fun x hx => by
            rcases hnew with h | ⟨y, n, c, h, hy⟩
            · cases h; cases hx
            · cases h; cases hx; omega
          exact ⟨gb_set (gb_set (gb_set (gb_set (gb_set (gb_set (gb_set gw7 _ _ (.inl (Nat.le_refl _))) _ _ (.inl (Nat.le_refl _))) _ _ (.inl (Nat.le_refl _))) _ _ (.inl (Nat.le_refl _))) _ _ (.inl (Nat.le_refl _))) _ _ (.inl (Nat.le_refl _))) _ _ (.inl (Nat.le_refl _)), .inl ⟨_, q, _, unhide hsome, rfl,
            FrV.set (FrV.set (FrV.set (FrV.set (FrV.set (FrV.set (FrV.set (unhide hv7) _ _ hne) _ _ hne) _ _ hne) _ _ hne) _ _ hne) _ _ hne) _ _ hne,
            hnew.imp id (fun ⟨x, n, c, h, hx⟩ => ⟨x, n, c, h, Nat.le_of_lt hx⟩),
            RdS.setY (RdS.setY (RdS.setY (RdS.setY (RdS.setY (RdS.setY (RdS.setY hX7 (by omega)) (by omega)) (by omega)) (by omega)) (by omega)) (by omega)) (by omega), by omega, hq2⟩⟩
end Go.Proofs.YtjnmokmchdfchaaDoor
