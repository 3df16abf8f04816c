import Derived.Test.YtjnmokmchdfchaaDoorZDs
namespace Go.Proofs.YtjnmokmchdfchaaDoor
open Go.RowKit
attribute [local go_sem ↓] Go.wp_at_zero Go.wp_at_succ

/-! ### all but two blocks are as they were -/
structure Gx (w w' : World) (X Y : Nat) : Prop where
  os : w'.os = w.os
  tape : w'.tape = w.tape
  output : w'.output = w.output
  size : w.heap.size ≤ w'.heap.size
  block : ∀ k, k < w.heap.size → k ≠ X → k ≠ Y → w'.heap[k]? = w.heap[k]?
theorem Gx.refl (w : World) (X Y : Nat) : Gx w w X Y := ⟨rfl, rfl, rfl, Nat.le_refl _, fun _ _ _ _ => rfl⟩
theorem Gx.trans {a b c : World} {X Y : Nat} (h : Gx a b X Y) (k : Gx b c X Y) : Gx a c X Y :=
  ⟨k.os.trans h.os, k.tape.trans h.tape, k.output.trans h.output, Nat.le_trans h.size k.size, fun i hi h1 h2 => (k.block i (Nat.lt_of_lt_of_le hi h.size) h1 h2).trans (h.block i hi h1 h2)⟩
theorem Gx.of {w w' : World} {X Y : Nat} {r : Option Nat} (g : w.grownBy w' r) (hr : ∀ k, r = some k → k = X ∨ k = Y ∨ w.heap.size ≤ k) : Gx w w' X Y :=
  ⟨g.os, g.tape, g.output, g.size, fun k hk h1 h2 => g.block k hk (fun e => by rcases hr k e.symm with h | h | h; exact h1 h; exact h2 h; omega)⟩
theorem Gx.set {w w' : World} {X Y : Nat} (h : Gx w w' X Y) (p : Addr) (v : Value) (e : p.block = X ∨ p.block = Y ∨ w.heap.size ≤ p.block) : Gx w (w'.setCell p v) X Y :=
  ⟨h.os, h.tape, h.output, by simpa [World.setCell] using h.size, fun k hk h1 h2 => by
    rw [Below.heap_setCell _ _ _ _ (by rintro rfl; rcases e with e | e | e <;> first | exact h1 e | exact h2 e | omega)]; exact h.block k hk h1 h2⟩
/-- The second block is new. -/
theorem Gx.gb {w w' : World} {X Y : Nat} (h : Gx w w' X Y) (hY : w.heap.size ≤ Y) : w.grownBy w' (some X) :=
  ⟨h.os, h.tape, h.output, h.size, fun k hk hne => h.block k hk (fun e => hne (by rw [e])) (by omega)⟩
theorem Gx.cell {w w' : World} {X Y : Nat} (h : Gx w w' X Y) {b i : Nat} {v : Value} (hv : w.cell? ⟨b, i, none⟩ = some v) (h1 : b ≠ X) (h2 : b ≠ Y) : w'.cell? ⟨b, i, none⟩ = some v :=
  (cell_same (h.block b (World.block_lt_of_cell? w ⟨b, i, none⟩ hv) h1 h2) i).trans hv

/-! ### the parts that are read -/
def stOff (l : List Int) (f : Fr) (p : Nat) : Option (Fr × Nat) := (numR l p).bind fun x => some ({ f with offset := x.1 }, x.2)
def stCode (l : List Int) (f : Fr) (p : Nat) : Option (Fr × Nat) := (numR l p).bind fun x => some ({ f with code := x.1 }, x.2)
def stStream (l : List Int) (f : Fr) (p : Nat) : Option (Fr × Nat) := (streamR l p).bind fun x => some ({ f with stream := x.1 }, x.2)
def stData (l : List Int) (f : Fr) (p : Nat) : Option (Fr × Nat) := (textR l p).bind fun x => some ({ f with data := x.1 }, x.2)
def stRanges (l : List Int) (f : Fr) (p : Nat) : Option (Fr × Nat) := (rangesR l p).bind fun x => some ({ f with ranges := x.1 }, x.2)
structure RC (w : World) (X Y bb o n cap : Nat) (l : List Int) (p st : Nat) (f : Fr) : Prop where
  x : RdS w X (.slice (some ⟨bb, o, none⟩) n cap) p st
  y : w.heap[Y]? = some (.cells (frA f (.slice none 0 0)) 46 (0, 0))
  b : BSv w (some ⟨bb, o, none⟩) n cap l
  xb : bb ≠ X
  yb : bb ≠ Y
  xy : X ≠ Y
  hp : p ≤ l.length
  hl : l.length ≤ 100000000
  ok : f.ok
  rg : f.ranges = []
  dt : f.data.size ≤ 9223372036854775807
def FrN (rk : Bool) (w w' : World) (f : Fr) (rv : Value) : Prop := FrV w' f rv ∧ ((f.ranges = [] ∧ rv = .slice none 0 0) ∨ (rk = true ∧ ∃ x n c, rv = .slice (some x) n c ∧ w.heap.size ≤ x.block))
def RAns (rk : Bool) (w : World) (X Y : Nat) (sl : Value) (st len : Nat) (r : Option (Fr × Nat)) (e : Ending) (w' : World) : Prop :=
  Gx w w' X Y ∧ ((∃ f' q rv', r = some (f', q) ∧ e = .returned (.tuple #[]) ∧ RdS w' X sl q st ∧ w'.heap[Y]? = some (.cells (frA f' rv') 46 (0, 0)) ∧ FrN rk w w' f' rv' ∧ q ≤ len) ∨ (r = none ∧ e = PN ∧ ∃ p', RdS w' X sl p' st))
theorem FrV.nil (w : World) (f : Fr) (h : f.ok) (hr : f.ranges = []) (hd : f.data.size ≤ 9223372036854775807) : FrV w f (.slice none 0 0) :=
  ⟨h, hd, none, 0, by rw [hr]; rfl, by rw [hr]; exact ⟨fun r hr => by simp at hr, rfl, by simp, by simp [maxLen], .inl rfl⟩⟩
theorem RdS.setY {w : World} {X Y i : Nat} {sl v : Value} {p st : Nat} (h : RdS w X sl p st) (hxy : X ≠ Y) : RdS (w.setCell ⟨Y, i, none⟩ v) X sl p st :=
  (Below.heap_setCell _ _ _ _ hxy).trans h
theorem cells7f {w : World} {b : Nat} {t : TypeId} {v0 v1 v2 v3 v4 v5 v6 : Value} (h : w.heap[b]? = some (.cells #[v0, v1, v2, v3, v4, v5, v6] t (0, 0))) : ∀ o, w.frozen? ⟨b, o, none⟩ = false := by
  simp [World.frozen?, h]
set_option maxRecDepth 100000 in
theorem rd_off (w : World) (X Y bb o n cap : Nat) (l : List Int) (p st : Nat) (f : Fr) (h : RC w X Y bb o n cap l p st f) (B : Nat) (hB : w.cell? ⟨B, 0, none⟩ = some (.func (.func 78) #[] #[])) :
    Calls Tryd.prog 100 #[.pointer (some ⟨X, 0, none⟩), .pointer (some ⟨Y, 0, none⟩), .pointer (some ⟨B, 0, none⟩)] w (RAns false w X Y (.slice (some ⟨bb, o, none⟩) n cap) st l.length (stOff l f p)) := by
  obtain ⟨hx, hy, hb, xb, yb, xy, hp, hl, hok, hrg, hdt⟩ := h
  have h8 := hb.1
  replace hx := hide hx
  replace hb := hide hb
  replace hok := hide hok
  go_enter Tryd.func100, Tryd.ntmps100
  go_wp2_with fail
  refine (field_off Y w).mono ?_
  rintro e w' ⟨rfl, rfl⟩
  obtain ⟨w, rfl⟩ : ∃ x, x = w' := ⟨_, rfl⟩
  go_wp2_with fail
  refine (pNumber_any X bb o n cap l p st w (unhide hx) (unhide hb) xb hp hl).mono ?_
  rintro e w1 ⟨g1, ⟨v, q, hr, rfl, hX1⟩ | ⟨hr, rfl, hX1⟩⟩
  · obtain ⟨⟨v0, v1⟩, v2, v3⟩ := numR_some h8 hr
    have hy1 := (g1.block Y (Array.getElem?_eq_some_iff.1 hy).1 (fun e => xy (Option.some.inj e).symm)).trans hy
    have y2 := (cells7 hy1).2.2.1
    have yf := cells7f hy1
    have hr2 : stOff l f p = some ({ f with offset := v }, q) := by unfold stOff; rw [hr]; rfl
    replace hr2 := hide hr2
    replace hr := hide hr
    replace hy1 := hide hy1
    replace hX1 := hide hX1
    go_wp2_with fail
    refine bodyPost_end (results_none rfl _ _ _) rfl ?_
    refine ⟨(Gx.of g1 (fun k e => .inl (Option.some.inj e).symm)).set _ _ (.inr (.inl rfl)), .inl ⟨_, _, _, unhide hr2, rfl, (unhide hX1).setY xy, (heap_set (unhide hy1) _).trans rfl, ⟨FrV.nil _ _ ?_ hrg hdt, .inl ⟨hrg, rfl⟩⟩, v3⟩⟩
    have h9 := unhide hok
    exact ⟨h9.1, h9.2.1, ⟨v0, by simp; omega⟩, h9.2.2.2⟩
  · exact ⟨rfl, Gx.of g1 (fun k e => .inl (Option.some.inj e).symm), .inr ⟨by unfold stOff; rw [hr]; rfl, rfl, hX1⟩⟩
set_option maxRecDepth 100000 in
theorem rd_code (w : World) (X Y bb o n cap : Nat) (l : List Int) (p st : Nat) (f : Fr) (h : RC w X Y bb o n cap l p st f) (B : Nat) (hB : w.cell? ⟨B, 0, none⟩ = some (.func (.func 79) #[] #[])) :
    Calls Tryd.prog 100 #[.pointer (some ⟨X, 0, none⟩), .pointer (some ⟨Y, 0, none⟩), .pointer (some ⟨B, 0, none⟩)] w (RAns false w X Y (.slice (some ⟨bb, o, none⟩) n cap) st l.length (stCode l f p)) := by
  obtain ⟨hx, hy, hb, xb, yb, xy, hp, hl, hok, hrg, hdt⟩ := h
  have h8 := hb.1
  replace hx := hide hx
  replace hb := hide hb
  replace hok := hide hok
  go_enter Tryd.func100, Tryd.ntmps100
  go_wp2_with fail
  refine (field_code Y w).mono ?_
  rintro e w' ⟨rfl, rfl⟩
  obtain ⟨w, rfl⟩ : ∃ x, x = w' := ⟨_, rfl⟩
  go_wp2_with fail
  refine (pNumber_any X bb o n cap l p st w (unhide hx) (unhide hb) xb hp hl).mono ?_
  rintro e w1 ⟨g1, ⟨v, q, hr, rfl, hX1⟩ | ⟨hr, rfl, hX1⟩⟩
  · obtain ⟨⟨v0, v1⟩, v2, v3⟩ := numR_some h8 hr
    have hy1 := (g1.block Y (Array.getElem?_eq_some_iff.1 hy).1 (fun e => xy (Option.some.inj e).symm)).trans hy
    have y2 := (cells7 hy1).2.2.2.1
    have yf := cells7f hy1
    have hr2 : stCode l f p = some ({ f with code := v }, q) := by unfold stCode; rw [hr]; rfl
    replace hr2 := hide hr2
    replace hr := hide hr
    replace hy1 := hide hy1
    replace hX1 := hide hX1
    go_wp2_with fail
    refine bodyPost_end (results_none rfl _ _ _) rfl ?_
    refine ⟨(Gx.of g1 (fun k e => .inl (Option.some.inj e).symm)).set _ _ (.inr (.inl rfl)), .inl ⟨_, _, _, unhide hr2, rfl, (unhide hX1).setY xy, (heap_set (unhide hy1) _).trans rfl, ⟨FrV.nil _ _ ?_ hrg hdt, .inl ⟨hrg, rfl⟩⟩, v3⟩⟩
    have h9 := unhide hok
    exact ⟨h9.1, h9.2.1, h9.2.2.1, ⟨v0, by simp; omega⟩, h9.2.2.2.2⟩
  · exact ⟨rfl, Gx.of g1 (fun k e => .inl (Option.some.inj e).symm), .inr ⟨by unfold stCode; rw [hr]; rfl, rfl, hX1⟩⟩
set_option maxRecDepth 100000 in
theorem rd_stream (w : World) (X Y bb o n cap : Nat) (l : List Int) (p st : Nat) (f : Fr) (h : RC w X Y bb o n cap l p st f) :
    Calls Tryd.prog 90 #[.pointer (some ⟨X, 0, none⟩), .pointer (some ⟨Y, 0, none⟩)] w (RAns false w X Y (.slice (some ⟨bb, o, none⟩) n cap) st l.length (stStream l f p)) := by
  obtain ⟨hx, hy, hb, xb, yb, xy, hp, hl, hok, hrg, hdt⟩ := h
  have h8 := hb.1
  replace hx := hide hx
  replace hb := hide hb
  replace hok := hide hok
  go_enter Tryd.func90, Tryd.ntmps90
  go_wp2_with fail
  refine (pStream_any X bb o n cap l p st w (unhide hx) (unhide hb) xb hp hl).mono ?_
  rintro e w1 ⟨g1, ⟨v, q, hr, rfl, hX1⟩ | ⟨hr, rfl, hX1⟩⟩
  · have hv : 0 ≤ v ∧ v < 4 ∧ q ≤ l.length := by
      unfold streamR at hr
      cases hn : numR l p with
      | none => rw [hn] at hr; cases hr
      | some x =>
        rw [hn] at hr
        simp only [Option.bind_some] at hr
        split at hr
        · cases hr
          have := numR_some (q := q) (n := v) h8 hn
          unfold V62 at this
          omega
        · cases hr
    obtain ⟨v0, v1, v3⟩ := hv
    have hy1 := (g1.block Y (Array.getElem?_eq_some_iff.1 hy).1 (fun e => xy (Option.some.inj e).symm)).trans hy
    have y2 := (cells7 hy1).2.1
    have yf := cells7f hy1
    have hr2 : stStream l f p = some ({ f with stream := v }, q) := by unfold stStream; rw [hr]; rfl
    replace hr2 := hide hr2
    replace hr := hide hr
    replace hy1 := hide hy1
    replace hX1 := hide hX1
    go_wp2_with fail
    refine bodyPost_end (results_none rfl _ _ _) rfl ?_
    refine ⟨(Gx.of g1 (fun k e => .inl (Option.some.inj e).symm)).set _ _ (.inr (.inl rfl)), .inl ⟨_, _, _, unhide hr2, rfl, (unhide hX1).setY xy, (heap_set (unhide hy1) _).trans rfl, ⟨FrV.nil _ _ ?_ hrg hdt, .inl ⟨hrg, rfl⟩⟩, v3⟩⟩
    have h9 := unhide hok
    exact ⟨h9.1, ⟨by simp; omega, by simp; omega⟩, h9.2.2⟩
  · exact ⟨rfl, Gx.of g1 (fun k e => .inl (Option.some.inj e).symm), .inr ⟨by unfold stStream; rw [hr]; rfl, rfl, hX1⟩⟩
end Go.Proofs.YtjnmokmchdfchaaDoor
namespace Go.Proofs.YtjnmokmchdfchaaDoor
open Go.RowKit
attribute [local go_sem ↓] Go.wp_at_zero Go.wp_at_succ

theorem strOfNums_size (l : List Int) : (strOfNums l).size = l.length := by
  have h := congrArg List.length (strOfNums_data l)
  rw [List.length_map, Array.length_toList] at h
  exact h
theorem rgLoop_le {l : List Int} (h8 : ∀ x ∈ l, W8 x) : ∀ (k p : Nat) (lo : Int) (acc rs : List Rg) (q : Nat), p ≤ l.length → rgLoop l k p lo acc = some (rs, q) → q ≤ l.length
  | 0, p, lo, acc, rs, q, hp, h => by
    simp only [rgLoop, Option.some.injEq, Prod.mk.injEq] at h
    omega
  | k + 1, p, lo, acc, rs, q, hp, h => by
    simp only [rgLoop] at h
    cases h1 : numR l p with
    | none => rw [h1] at h; cases h
    | some x =>
      rw [h1] at h
      simp only [Option.bind_some] at h
      cases h2 : numR l x.2 with
      | none => rw [h2] at h; cases h
      | some y =>
        rw [h2] at h
        simp only [Option.bind_some] at h
        split at h
        · exact rgLoop_le h8 k _ _ _ _ _ (numR_some (n := y.1) (q := y.2) h8 h2).2.2 h
        · cases h
theorem rangesR_le {l : List Int} (h8 : ∀ x ∈ l, W8 x) {p : Nat} {rs : List Rg} {q : Nat} (h : rangesR l p = some (rs, q)) : q ≤ l.length := by
  unfold rangesR at h
  cases h1 : numR l p with
  | none => rw [h1] at h; cases h
  | some x =>
    rw [h1] at h
    simp only [Option.bind_some] at h
    cases h2 : numR l x.2 with
    | none => rw [h2] at h; cases h
    | some y =>
      rw [h2] at h
      simp only [Option.bind_some] at h
      cases h3 : numR l y.2 with
      | none => rw [h3] at h; cases h
      | some z =>
        rw [h3] at h
        simp only [Option.bind_some] at h
        split at h
        · exact rgLoop_le h8 _ _ _ _ _ _ (numR_some (n := z.1) (q := z.2) h8 h3).2.2 h
        · cases h
set_option maxRecDepth 100000 in
set_option maxHeartbeats 1000000 in
theorem rd_bytes (w : World) (X Y bb o n cap : Nat) (l : List Int) (p st : Nat) (f : Fr) (h : RC w X Y bb o n cap l p st f) :
    Calls Tryd.prog 97 #[.pointer (some ⟨X, 0, none⟩), .pointer (some ⟨Y, 0, none⟩)] w (RAns false w X Y (.slice (some ⟨bb, o, none⟩) n cap) st l.length (stData l f p)) := by
  obtain ⟨hx, hy, hb, xb, yb, xy, hp, hl, hok, hrg, hdt⟩ := h
  have h8 := hb.1
  have hbg : Hid (∀ W, w.grownBy W (some X) → BSv W (some ⟨bb, o, none⟩) n cap l) := hide (fun W g => hb.gb g (fun j e => .inr (.inr (fun x hx => by cases hx; cases e; exact xb))))
  replace hx := hide hx
  replace hb := hide hb
  replace hok := hide hok
  go_enter Tryd.func97, Tryd.ntmps97
  go_wp2_with fail
  refine (pNumber_any X bb o n cap l p st w (unhide hx) (unhide hb) xb hp hl).mono ?_
  rintro e w1 ⟨g1, ⟨v, q, hr, rfl, hX1⟩ | ⟨hr, rfl, hX1⟩⟩
  rotate_left
  · exact ⟨rfl, Gx.of g1 (fun k e => .inl (Option.some.inj e).symm), .inr ⟨by unfold stData textR; rw [hr]; rfl, rfl, hX1⟩⟩
  obtain ⟨⟨v0, v1⟩, v2, v3⟩ := numR_some h8 hr
  obtain ⟨k, hk⟩ : ∃ k : Nat, v = (k : Int) := ⟨v.toNat, by omega⟩
  subst hk
  replace hr := hide hr
  go_wp2_with fail
  refine (take_any X bb o n cap l q st k _ rfl w1 hX1 (unhide hbg w1 g1) xb v3 hl (by omega)).mono ?_
  rintro e w2 ⟨g2, ⟨hs, rfl, hX2⟩ | ⟨hs, a2, c2, rfl, hb2, hX2⟩⟩
  · refine ⟨rfl, (Gx.of g1 (fun k e => .inl (Option.some.inj e).symm)).trans (Gx.of g2 (fun k e => .inl (Option.some.inj e).symm)), .inr ⟨?_, rfl, q, hX2⟩⟩
    unfold stData textR
    rw [unhide hr]
    simp only [Option.bind_some]
    rw [if_neg (by omega)]; rfl
  · have hr2 : stData l f p = some ({ f with data := strOfNums ((l.drop q).take k) }, q + k) := by
      unfold stData textR
      rw [unhide hr]
      simp only [Option.bind_some]
      rw [if_pos (by omega)]
      simp
    have g12 := gb_trans g1 g2
    have hy1 := (g12.block Y (Array.getElem?_eq_some_iff.1 hy).1 (fun e => xy (Option.some.inj e).symm)).trans hy
    have y2 := (cells7 hy1).2.2.2.2.2.1
    have yf := cells7f hy1
    have hcv := conv_str hb2
    have hsz : (strOfNums ((l.drop q).take k)).size ≤ 9223372036854775807 := by rw [strOfNums_size]; simp; omega
    replace hr2 := hide hr2
    replace hy1 := hide hy1
    replace hX2 := hide hX2
    replace hb2 := hide hb2
    replace hsz := hide hsz
    go_wp2_with fail
    refine bodyPost_end (results_none rfl _ _ _) rfl ?_
    exact ⟨(Gx.of g12 (fun k e => .inl (Option.some.inj e).symm)).set _ _ (.inr (.inl rfl)), .inl ⟨_, _, _, unhide hr2, rfl, (unhide hX2).setY xy, (heap_set (unhide hy1) _).trans rfl, ⟨FrV.nil _ _ (unhide hok) hrg (unhide hsz), .inl ⟨hrg, rfl⟩⟩, by omega⟩⟩
set_option maxRecDepth 100000 in
set_option maxHeartbeats 1000000 in
theorem rd_ranges (w : World) (X Y bb o n cap : Nat) (l : List Int) (p st : Nat) (f : Fr) (h : RC w X Y bb o n cap l p st f) (hYl : Y < w.heap.size) :
    Calls Tryd.prog 94 #[.pointer (some ⟨X, 0, none⟩), .pointer (some ⟨Y, 0, none⟩)] w (RAns true w X Y (.slice (some ⟨bb, o, none⟩) n cap) st l.length (stRanges l f p)) := by
  obtain ⟨hx, hy, hb, xb, yb, xy, hp, hl, hok, hrg, hdt⟩ := h
  have h8 := hb.1
  replace hx := hide hx
  replace hb := hide hb
  replace hok := hide hok
  go_enter Tryd.func94, Tryd.ntmps94
  go_wp2_with fail
  refine (pRanges_any X bb o n cap l p st w (unhide hx) (unhide hb) xb hp hl).mono ?_
  rintro e w1 ⟨g1, ⟨rs, q, a1, n1, c1, hr, rfl, hrs, hnew, hX1⟩ | ⟨hr, rfl, hX1⟩⟩
  · have hq : q ≤ l.length := rangesR_le h8 hr
    have hy1 := (g1.block Y (Array.getElem?_eq_some_iff.1 hy).1 (fun e => xy (Option.some.inj e).symm)).trans hy
    have y2 := (cells7 hy1).2.2.2.2.2.2
    have yf := cells7f hy1
    have hr2 : stRanges l f p = some ({ f with ranges := rs }, q) := by unfold stRanges; rw [hr]; rfl
    replace hr2 := hide hr2
    replace hr := hide hr
    replace hy1 := hide hy1
    replace hX1 := hide hX1
    replace hrs := hide hrs
    go_wp2_with fail
    refine bodyPost_end (results_none rfl _ _ _) rfl ?_
    have h9 := unhide hok
    have hrs2 := unhide hrs
    have hlen : n1 = rs.length := hrs2.2.1
    refine ⟨(Gx.of g1 (fun k e => .inl (Option.some.inj e).symm)).set _ _ (.inr (.inl rfl)), .inl ⟨_, _, _, unhide hr2, rfl, (unhide hX1).setY xy, (heap_set (unhide hy1) _).trans rfl, ⟨⟨⟨h9.1, h9.2.1, h9.2.2.1, h9.2.2.2.1, hrs2.1⟩, hdt, a1, c1, by rw [hlen], ?_⟩, ?_⟩, hq⟩⟩
    · rw [← hlen]
      obtain ⟨k1, k2, k3, k4, k5⟩ := hrs2
      refine ⟨k1, k2, k3, k4, ?_⟩
      rcases k5 with k5 | ⟨b', o', rfl, k5⟩
      · exact .inl k5
      · exact .inr ⟨b', o', rfl, range_set k5 _ _ (by have := hnew _ rfl; simp at this ⊢; omega)⟩
    · obtain ⟨k1, k2, k3, k4, k5 | ⟨b', o', rfl, k5⟩⟩ := hrs2
      · rcases a1 with _ | x
        · left
          have : rs = [] := List.eq_nil_of_length_eq_zero (by omega)
          subst this
          refine ⟨rfl, ?_⟩
          rw [hlen, k5]; rfl
        · exact .inr ⟨rfl, _, _, _, rfl, hnew _ rfl⟩
      · exact .inr ⟨rfl, _, _, _, rfl, hnew _ rfl⟩
  · exact ⟨rfl, Gx.of g1 (fun k e => .inl (Option.some.inj e).symm), .inr ⟨by unfold stRanges; rw [hr]; rfl, rfl, hX1⟩⟩
end Go.Proofs.YtjnmokmchdfchaaDoor
