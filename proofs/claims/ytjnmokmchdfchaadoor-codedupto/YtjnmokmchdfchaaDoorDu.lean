import Derived.Test.YtjnmokmchdfchaaDoorDt
namespace Go.Proofs.YtjnmokmchdfchaaDoor
open Go.RowKit
attribute [local go_sem ↓] Go.wp_at_zero Go.wp_at_succ

theorem strOfNums_size (l : List Int) : (strOfNums l).size = l.length := by
  have h := congrArg List.length (strOfNums_data l)
  rw [List.length_map, Array.length_toList] at h
  exact h
theorem rgLoop_le {l : List Int} (h8 : ∀ x ∈ l, W8 x) : ∀ (k p : Nat) (lo : Int) (acc rs : List Rg) (q : Nat), p ≤ l.length → rgLoop l k p lo acc = some (rs, q) → q ≤ l.length
  | 0, p, lo, acc, rs, q, hp, h => by
    simp only [rgLoop, Option.some.injEq, Prod.mk.injEq] at h
    omega
  | k + 1, p, lo, acc, rs, q, hp, h => by
    simp only [rgLoop] at h
    cases h1 : numR l p with
    | none => rw [h1] at h; cases h
    | some x =>
      rw [h1] at h
      simp only [Option.bind_some] at h
      cases h2 : numR l x.2 with
      | none => rw [h2] at h; cases h
      | some y =>
        rw [h2] at h
        simp only [Option.bind_some] at h
        split at h
        · exact rgLoop_le h8 k _ _ _ _ _ (numR_some (n := y.1) (q := y.2) h8 h2).2.2 h
        · cases h
theorem rangesR_le {l : List Int} (h8 : ∀ x ∈ l, W8 x) {p : Nat} {rs : List Rg} {q : Nat} (h : rangesR l p = some (rs, q)) : q ≤ l.length := by
  unfold rangesR at h
  cases h1 : numR l p with
  | none => rw [h1] at h; cases h
  | some x =>
    rw [h1] at h
    simp only [Option.bind_some] at h
    cases h2 : numR l x.2 with
    | none => rw [h2] at h; cases h
    | some y =>
      rw [h2] at h
      simp only [Option.bind_some] at h
      cases h3 : numR l y.2 with
      | none => rw [h3] at h; cases h
      | some z =>
        rw [h3] at h
        simp only [Option.bind_some] at h
        split at h
        · exact rgLoop_le h8 _ _ _ _ _ _ (numR_some (n := z.1) (q := z.2) h8 h3).2.2 h
        · cases h
set_option maxRecDepth 100000 in
set_option maxHeartbeats 1000000 in
theorem rd_bytes (w : World) (X Y bb o n cap : Nat) (l : List Int) (p st : Nat) (f : Fr) (h : RC w X Y bb o n cap l p st f) :
    Calls Tryd.prog 97 #[.pointer (some ⟨X, 0, none⟩), .pointer (some ⟨Y, 0, none⟩)] w (RAns false w X Y (.slice (some ⟨bb, o, none⟩) n cap) st l.length (stData l f p)) := by
  obtain ⟨hx, hy, hb, xb, yb, xy, hp, hl, hok, hrg, hdt⟩ := h
  have h8 := hb.1
  have hbg : Hid (∀ W, w.grownBy W (some X) → BSv W (some ⟨bb, o, none⟩) n cap l) := hide (fun W g => hb.gb g (fun j e => .inr (.inr (fun x hx => by cases hx; cases e; exact xb))))
  replace hx := hide hx
  replace hb := hide hb
  replace hok := hide hok
  go_enter Tryd.func97, Tryd.ntmps97
  go_wp2_with fail
  refine (pNumber_any X bb o n cap l p st w (unhide hx) (unhide hb) xb hp hl).mono ?_
  rintro e w1 ⟨g1, ⟨v, q, hr, rfl, hX1⟩ | ⟨hr, rfl, hX1⟩⟩
  rotate_left
  · exact ⟨rfl, Gx.of g1 (fun k e => .inl (Option.some.inj e).symm), .inr ⟨by unfold stData textR; rw [hr]; rfl, rfl, hX1⟩⟩
  obtain ⟨⟨v0, v1⟩, v2, v3⟩ := numR_some h8 hr
  obtain ⟨k, hk⟩ : ∃ k : Nat, v = (k : Int) := ⟨v.toNat, by omega⟩
  subst hk
  replace hr := hide hr
  go_wp2_with fail
  refine (take_any X bb o n cap l q st k _ rfl w1 hX1 (unhide hbg w1 g1) xb v3 hl (by omega)).mono ?_
  rintro e w2 ⟨g2, ⟨hs, rfl, hX2⟩ | ⟨hs, a2, c2, rfl, hb2, hX2⟩⟩
  · refine ⟨rfl, (Gx.of g1 (fun k e => .inl (Option.some.inj e).symm)).trans (Gx.of g2 (fun k e => .inl (Option.some.inj e).symm)), .inr ⟨?_, rfl, q, hX2⟩⟩
    unfold stData textR
    rw [unhide hr]
    simp only [Option.bind_some]
    rw [if_neg (by omega)]; rfl
  · have hr2 : stData l f p = some ({ f with data := strOfNums ((l.drop q).take k) }, q + k) := by
      unfold stData textR
      rw [unhide hr]
      simp only [Option.bind_some]
      rw [if_pos (by omega)]
      simp
    have g12 := gb_trans g1 g2
    have hy1 := (g12.block Y (Array.getElem?_eq_some_iff.1 hy).1 (fun e => xy (Option.some.inj e).symm)).trans hy
    have y2 := (cells7 hy1).2.2.2.2.2.1
    have yf := cells7f hy1
    have hcv := conv_str hb2
    have hsz : (strOfNums ((l.drop q).take k)).size ≤ 9223372036854775807 := by rw [strOfNums_size]; simp; omega
    replace hr2 := hide hr2
    replace hy1 := hide hy1
    replace hX2 := hide hX2
    replace hb2 := hide hb2
    replace hsz := hide hsz
    go_wp2_with fail
    refine bodyPost_end (results_none rfl _ _ _) rfl ?_
    exact ⟨(Gx.of g12 (fun k e => .inl (Option.some.inj e).symm)).set _ _ (.inr (.inl rfl)), .inl ⟨_, _, _, unhide hr2, rfl, (unhide hX2).setY xy, (heap_set (unhide hy1) _).trans rfl, ⟨FrV.nil _ _ (unhide hok) hrg (unhide hsz), .inl ⟨hrg, rfl⟩⟩, by omega⟩⟩
set_option maxRecDepth 100000 in
set_option maxHeartbeats 1000000 in
theorem rd_ranges (w : World) (X Y bb o n cap : Nat) (l : List Int) (p st : Nat) (f : Fr) (h : RC w X Y bb o n cap l p st f) (hYl : Y < w.heap.size) :
    Calls Tryd.prog 94 #[.pointer (some ⟨X, 0, none⟩), .pointer (some ⟨Y, 0, none⟩)] w (RAns true w X Y (.slice (some ⟨bb, o, none⟩) n cap) st l.length (stRanges l f p)) := by
  obtain ⟨hx, hy, hb, xb, yb, xy, hp, hl, hok, hrg, hdt⟩ := h
  have h8 := hb.1
  replace hx := hide hx
  replace hb := hide hb
  replace hok := hide hok
  go_enter Tryd.func94, Tryd.ntmps94
  go_wp2_with fail
  refine (pRanges_any X bb o n cap l p st w (unhide hx) (unhide hb) xb hp hl).mono ?_
  rintro e w1 ⟨g1, ⟨rs, q, a1, n1, c1, hr, rfl, hrs, hnew, hX1⟩ | ⟨hr, rfl, hX1⟩⟩
  · have hq : q ≤ l.length := rangesR_le h8 hr
    have hy1 := (g1.block Y (Array.getElem?_eq_some_iff.1 hy).1 (fun e => xy (Option.some.inj e).symm)).trans hy
    have y2 := (cells7 hy1).2.2.2.2.2.2
    have yf := cells7f hy1
    have hr2 : stRanges l f p = some ({ f with ranges := rs }, q) := by unfold stRanges; rw [hr]; rfl
    replace hr2 := hide hr2
    replace hr := hide hr
    replace hy1 := hide hy1
    replace hX1 := hide hX1
    replace hrs := hide hrs
    go_wp2_with fail
    refine bodyPost_end (results_none rfl _ _ _) rfl ?_
    have h9 := unhide hok
    have hrs2 := unhide hrs
    have hlen : n1 = rs.length := hrs2.2.1
    refine ⟨(Gx.of g1 (fun k e => .inl (Option.some.inj e).symm)).set _ _ (.inr (.inl rfl)), .inl ⟨_, _, _, unhide hr2, rfl, (unhide hX1).setY xy, (heap_set (unhide hy1) _).trans rfl, ⟨⟨⟨h9.1, h9.2.1, h9.2.2.1, h9.2.2.2.1, hrs2.1⟩, hdt, a1, c1, by rw [hlen], ?_⟩, ?_⟩, hq⟩⟩
    · rw [← hlen]
      obtain ⟨k1, k2, k3, k4, k5⟩ := hrs2
      refine ⟨k1, k2, k3, k4, ?_⟩
      rcases k5 with k5 | ⟨b', o', rfl, k5⟩
      · exact .inl k5
      · exact .inr ⟨b', o', rfl, range_set k5 _ _ (by have := hnew _ rfl; simp at this ⊢; omega)⟩
    · obtain ⟨k1, k2, k3, k4, k5 | ⟨b', o', rfl, k5⟩⟩ := hrs2
      · rcases a1 with _ | x
        · left
          have : rs = [] := List.eq_nil_of_length_eq_zero (by omega)
          subst this
          refine ⟨rfl, ?_⟩
          rw [hlen, k5]; rfl
        · exact .inr ⟨rfl, _, _, _, rfl, hnew _ rfl⟩
      · exact .inr ⟨rfl, _, _, _, rfl, hnew _ rfl⟩
  · exact ⟨rfl, Gx.of g1 (fun k e => .inl (Option.some.inj e).symm), .inr ⟨by unfold stRanges; rw [hr]; rfl, rfl, hX1⟩⟩
end Go.Proofs.YtjnmokmchdfchaaDoor
