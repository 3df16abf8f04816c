import Derived.Test.YtjnmokmchdfchaaDoorZFe
import Derived.Recover
namespace Go.Proofs.YtjnmokmchdfchaaDoor
open Go.RowKit
attribute [local go_sem ↓] Go.wp_at_zero Go.wp_at_succ

/-- The fault that a reading throws. -/
abbrev PN : Ending := .panicked [{ v := .iface 24 (.int .i64 5), recovered := false }]
/-- The reader in memory: its bytes, where it is, where its frame begins. -/
def RdS (w : World) (X : Nat) (sl : Value) (p st : Nat) : Prop := w.heap[X]? = some (.cells #[sl, .int .i64 (p : Int), .int .i64 (st : Int)] 98 (0, 0))
theorem cells3 {w : World} {b : Nat} {t : TypeId} {v0 v1 v2 : Value} (h : w.heap[b]? = some (.cells #[v0, v1, v2] t (0, 0))) : w.cell? ⟨b, 0, none⟩ = some v0 ∧ w.cell? ⟨b, 1, none⟩ = some v1 ∧ w.cell? ⟨b, 2, none⟩ = some v2 ∧ ∀ o, w.frozen? ⟨b, o, none⟩ = false := by
  simp [World.cell?, World.frozen?, h]
theorem RdS.set {w : World} {X : Nat} {sl : Value} {p st : Nat} (h : RdS w X sl p st) (q : Nat) : RdS (w.setCell ⟨X, 1, none⟩ (.int .i64 (q : Int))) X sl q st := by
  unfold RdS at *
  rw [heap_set h]; rfl
theorem BS.takeD {w : World} {b o : Nat} {l : List Int} (h : BS w b o l) (n : Nat) : BS w b o (l.take n) := by
  refine ⟨fun i hi => ?_, fun x hx => h.2 x (List.mem_of_mem_take hx)⟩
  rw [List.length_take] at hi
  rw [h.1 i (by omega)]
  simp [show i < n by omega]
theorem BS.dropD {w : World} {b o : Nat} {l : List Int} (h : BS w b o l) (n : Nat) : BS w b (o + n) (l.drop n) := by
  refine ⟨fun i hi => ?_, fun x hx => h.2 x (List.mem_of_mem_drop hx)⟩
  rw [List.length_drop] at hi
  have := h.1 (n + i) (by omega)
  rw [show o + n + i = o + (n + i) by omega, this]
  simp [List.getElem?_drop]
theorem or8D (n x : Int) (h0 : 0 ≤ n) (h1 : n < 72057594037927936) (hx : W8 x) : bits .or .u64 (n * 256) x = n * 256 + x := by
  obtain ⟨x0, x1⟩ := hx
  obtain ⟨m, rfl⟩ := Int.eq_ofNat_of_zero_le h0
  obtain ⟨y, rfl⟩ := Int.eq_ofNat_of_zero_le x0
  have e : ((m : Int) * 256) = ((m * 256 : Nat) : Int) := by omega
  rw [e, u64_or_nat _ _ (by omega) (by omega)]
  have := Nat.shiftLeft_add_eq_or_of_lt (i := 8) (b := y) (by omega) m
  rw [Nat.shiftLeft_eq] at this
  rw [show m * 256 = m * 2 ^ 8 from rfl, ← this]
  omega
set_option maxRecDepth 100000 in
theorem refuse_any (X : Nat) (w : World) : Calls Tryd.prog 59 #[.pointer (some ⟨X, 0, none⟩)] w fun e w' => e = PN ∧ w' = w := by
  go_enter Tryd.func59, Tryd.ntmps59
  go_wp2_with fail
  exact ⟨rfl, rfl, rfl⟩
set_option maxRecDepth 100000 in
set_option maxHeartbeats 1000000 in
theorem take_any (X bb o n cap : Nat) (l : List Int) (p st : Nat) (k : Nat) (kI : Int) (hkI : kI = (k : Int)) (w : World) (hX : RdS w X (.slice (some ⟨bb, o, none⟩) n cap) p st) (hb : BSv w (some ⟨bb, o, none⟩) n cap l) (hXb : bb ≠ X) (hp : p ≤ l.length) (hl : l.length ≤ 100000000) (hk : k < 4611686018427387904) :
    Calls Tryd.prog 82 #[.pointer (some ⟨X, 0, none⟩), .int .u64 kI] w fun e w' =>
      w.grownBy w' (some X) ∧ ((l.length - p < k ∧ e = PN ∧ RdS w' X (.slice (some ⟨bb, o, none⟩) n cap) p st) ∨ (k ≤ l.length - p ∧ ∃ a' c', e = .returned (.slice a' k c') ∧ BSv w' a' k c' ((l.drop p).take k) ∧ RdS w' X (.slice (some ⟨bb, o, none⟩) n cap) (p + k) st)) := by
  subst hkI
  obtain ⟨x0, x1, x2, xf⟩ := cells3 hX
  have hn : n = l.length := hb.2.1
  have hcap := hb.2.2.1
  have hmax := hb.2.2.2.1
  unfold maxLen at hmax
  have hw1 : IntKind.i64.wrap ((n : Int) - (p : Int)) = (n : Int) - (p : Int) := by simp [IntKind.wrap, IntKind.bits, IntKind.signed]; omega
  have hw2 : IntKind.u64.wrap ((n : Int) - (p : Int)) = (n : Int) - (p : Int) := by rw [IntKind.wrap_u64]; omega
  have hw3 : IntKind.i64.wrap (k : Int) = (k : Int) := by simp [IntKind.wrap, IntKind.bits, IntKind.signed]; omega
  replace hn := hide hn
  by_cases hkl : l.length - p < k
  · have e1 : decide ((n : Int) - (p : Int) < (k : Int)) = true := decide_eq_true (by have := unhide hn; omega)
    replace hkl := hide hkl
    go_enter Tryd.func82, Tryd.ntmps82
    go_wp2_with fail
    go_quiet (fail)
    go_wp2_with (go_at_call 59; refine (refuse_any X _).mono ?_; rintro e w' ⟨rfl, rfl⟩)
    exact ⟨rfl, gb_none (gb_drewN (World.grownBy.refl _ _) _) _, .inl ⟨unhide hkl, rfl, hX⟩⟩
  · have e1 : decide ((n : Int) - (p : Int) < (k : Int)) = false := decide_eq_false (by have := unhide hn; omega)
    have i1 : (0 : Int) ≤ (p : Int) := by omega
    have i2 : (p : Int) ≤ (p : Int) + (k : Int) := by omega
    have i3 : (p : Int) + (k : Int) ≤ (cap : Int) := by have := unhide hn; omega
    have hw4 : IntKind.i64.wrap ((p : Int) + (k : Int)) = (p : Int) + (k : Int) := by simp [IntKind.wrap, IntKind.bits, IntKind.signed]; omega
    replace hkl := hide hkl
    by_cases hcp : cap = p
    · subst hcp
      go_enter Tryd.func82, Tryd.ntmps82
      go_wp2_with fail
      go_quiet (fail)
      go_wp2_with fail
      go_quiet (fail)
      go_wp2_with fail
      go_ret
      obtain rfl : k = 0 := by have := unhide hkl; have := unhide hn; omega
      refine ⟨gb_drewN (gb_set (gb_none (gb_drewN (World.grownBy.refl _ _) _) _) _ _ (.inr rfl)) _, .inr ⟨by omega, some ⟨bb, o, none⟩, 0, rfl, ?_, ?_⟩⟩
      · exact ⟨fun x hx => by simp at hx, by simp, Nat.le_refl _, by simp [maxLen], .inr ⟨_, _, rfl, by simpa using BS.nil _ _ _⟩⟩
      · exact RdS.set (w := w.drewN _) hX (cap + 0)
    · have hcp2 : (cap = p) = False := by simp [hcp]
      clear hcp
      have key : Hid (∀ W' : World, w.grownBy W' (some X) → BSv W' (some ⟨bb, o + p, none⟩) k (cap - p) ((l.drop p).take k)) := hide (fun W' g => by
        obtain ⟨h1, -, -, -, ⟨h5, -⟩ | ⟨b', o', h5, h6⟩⟩ := hb
        · cases h5
        · cases h5
          have h7 := (h6.gb g (fun e => hXb (Option.some.inj e).symm)).dropD p
          exact ⟨fun x hx => h1 x (List.mem_of_mem_drop (List.mem_of_mem_take hx)), by have := unhide hkl; simp; omega, by have := unhide hn; have := unhide hkl; omega, by simp [maxLen]; omega, .inr ⟨_, _, rfl, h7.takeD k⟩⟩)
      go_enter Tryd.func82, Tryd.ntmps82
      go_wp2_with fail
      go_quiet (fail)
      go_wp2_with fail
      go_quiet (fail)
      go_wp2_with fail
      go_ret
      refine ⟨gb_drewN (gb_set (gb_none (gb_drewN (World.grownBy.refl _ _) _) _) _ _ (.inr rfl)) _, .inr ⟨by have := unhide hkl; omega, some ⟨bb, o + p, none⟩, cap - p, (by show Ending.returned (.slice (some ⟨bb, o + p, none⟩) (p + k - p) (cap - p)) = _; rw [Nat.add_sub_cancel_left]), ?_, ?_⟩⟩
      · exact unhide key _ (gb_drewN (gb_set (gb_none (gb_drewN (World.grownBy.refl _ _) _) _) _ _ (.inr rfl)) _)
      · exact RdS.set (w := w.drewN _) hX (p + k)
theorem szOf_k {t : Int} (h : W8 t) : (szOf t = 1 ∧ t / 64 = 0) ∨ (szOf t = 2 ∧ t / 64 = 1) ∨ (szOf t = 4 ∧ t / 64 = 2) ∨ (szOf t = 8 ∧ t / 64 = 3) := by
  unfold W8 at h
  unfold szOf
  by_cases h1 : t < 64
  · left; simp [h1]; omega
  · by_cases h2 : t < 128
    · right; left; simp [h1, h2]; omega
    · by_cases h3 : t < 192
      · right; right; left; simp [h1, h2, h3]; omega
      · right; right; right; simp [h1, h2, h3]; omega
theorem and63d {t : Int} (h : W8 t) : bits .and .u8 t 63 = t % 64 := by
  obtain ⟨h0, h1⟩ := h
  obtain ⟨m, rfl⟩ := Int.eq_ofNat_of_zero_le h0
  have e : (63 : Int) = ((63 : Nat) : Int) := rfl
  rw [e, u8_and_nat _ _ (by omega) (by omega)]
  have := Nat.and_two_pow_sub_one_eq_mod m 6
  simp only [Nat.reducePow, Nat.reduceSub] at this
  rw [this]; rfl
/-- What a reading of a number answers. -/
def NumA (w : World) (X : Nat) (sl : Value) (st : Nat) (r : Option (Int × Nat)) (e : Ending) (w' : World) : Prop :=
  w.grownBy w' (some X) ∧ ((∃ v q, r = some (v, q) ∧ e = .returned (.int .u64 v) ∧ RdS w' X sl q st) ∨ (r = none ∧ e = PN ∧ ∃ p', RdS w' X sl p' st))
theorem bs_one {w : World} {a : Option Addr} {n c : Nat} {l : List Int} (h : BSv w a n c l) (hn : 0 < n) : ∃ b o, a = some ⟨b, o, none⟩ ∧ ∀ i, i < n → w.cell? ⟨b, o + i, none⟩ = some (.int .u8 (l.getD i 0)) := by
  obtain ⟨-, h2, h3, -, ⟨rfl, h5⟩ | ⟨b, o, rfl, h5⟩⟩ := h
  · omega
  · exact ⟨b, o, rfl, fun i hi => h5.1 i (by omega)⟩
theorem getD_dt (l : List Int) (p k i : Nat) (h : i < k) : ((l.drop p).take k).getD i 0 = l.getD (p + i) 0 := by
  simp [List.getD, List.getElem?_drop, h]
theorem numR_none {l : List Int} {p : Nat} (h : l.length < p + szOf (l.getD p 0)) : numR l p = none := by unfold numR; rw [if_neg (by omega)]
theorem numR_at {l : List Int} {p : Nat} (h : p + szOf (l.getD p 0) ≤ l.length) : numR l p = some (numV l p (szOf (l.getD p 0) - 1), p + szOf (l.getD p 0)) := by unfold numR; rw [if_pos h]
set_option maxRecDepth 100000 in
set_option maxHeartbeats 2000000 in
theorem pNumber_any (X bb o n cap : Nat) (l : List Int) (p st : Nat) (w : World) (hX : RdS w X (.slice (some ⟨bb, o, none⟩) n cap) p st) (hb : BSv w (some ⟨bb, o, none⟩) n cap l) (hXb : bb ≠ X) (hp : p ≤ l.length) (hl : l.length ≤ 100000000) :
    Calls Tryd.prog 98 #[.pointer (some ⟨X, 0, none⟩)] w (NumA w X (.slice (some ⟨bb, o, none⟩) n cap) st (numR l p)) := by
  have h8 := hb.1
  have hbg : Hid (∀ W, w.grownBy W (some X) → BSv W (some ⟨bb, o, none⟩) n cap l) := hide (fun W g => hb.gb g (fun j e => .inr (.inr (fun x hx => by cases hx; cases e; exact hXb))))
  go_enter Tryd.func98, Tryd.ntmps98
  go_wp2_with fail
  refine (take_any X bb o n cap l p st 1 1 rfl w hX hb hXb hp hl (by omega)).mono ?_
  rintro e w1 ⟨g1, ⟨hs, rfl, hX1⟩ | ⟨hs, a1, c1, rfl, hb1, hX1⟩⟩
  · exact ⟨rfl, g1, .inr ⟨numR_none (by have := szOf_pos (l.getD p 0); omega), rfl, p, hX1⟩⟩
  · obtain ⟨b1, o1, rfl, hc1⟩ := bs_one hb1 (by omega)
    have x1 := hc1 0 (by omega)
    rw [getD_dt _ _ _ _ (by omega), Nat.add_zero, Nat.add_zero] at x1
    have ht8 := getD_w8 h8 p
    have hk := szOf_k ht8
    have ha := and63d ht8
    obtain ⟨t, ht⟩ : ∃ t, t = l.getD p 0 := ⟨_, rfl⟩
    rw [← ht] at x1 ht8 hk ha
    have hv0 : numV l p 0 = t % 64 := by rw [ht]; rfl
    have hnone : Hid (l.length < p + szOf t → numR l p = none) := hide (fun h => numR_none (by rw [← ht]; exact h))
    have hsome : Hid (p + szOf t ≤ l.length → numR l p = some (numV l p (szOf t - 1), p + szOf t)) := hide (fun h => by rw [ht] at h ⊢; exact numR_at h)
    obtain ⟨t0, t1⟩ := ht8
    replace ht := hide ht
    replace hc1 := hide hc1
    replace hb1 := hide hb1
    replace hv0 := hide hv0
    obtain ⟨K, hK⟩ : ∃ K, K = szOf t - 1 := ⟨_, rfl⟩
    have hK7 : K ≤ 7 := by have := szOf_pos t; omega
    have hszK : Hid (szOf t = K + 1) := hide (by have := szOf_pos t; omega)
    rw [unhide hszK, Nat.add_sub_cancel] at hsome
    rw [unhide hszK] at hnone
    have hvl := numV_lt h8 p
    replace hvl := hide hvl
    rcases hk with ⟨hk, hd⟩ | ⟨hk, hd⟩ | ⟨hk, hd⟩ | ⟨hk, hd⟩
    all_goals
      rw [hk] at hK
      replace hK := hide hK
      replace hk := hide hk
      go_wp2_with fail
      refine (take_any X bb o n cap l (p + 1) st K _ (by have := unhide hK; omega) w1 hX1 (unhide hbg w1 g1) hXb (by omega) hl (by omega)).mono ?_
      rintro e w2 ⟨g2, ⟨hs2, rfl, hX2⟩ | ⟨hs2, a2, c2, rfl, hb2, hX2⟩⟩
      · exact ⟨rfl, gb_trans g1 g2, .inr ⟨unhide hnone (by omega), rfl, p + 1, hX2⟩⟩
      · have hc2 : Hid (∀ j, j < K → ∃ b2 o2, a2 = some ⟨b2, o2, none⟩ ∧ w2.cell? ⟨b2, o2 + j, none⟩ = some (.int .u8 (l.getD (p + 1 + j) 0))) := hide (fun j hj => by
          obtain ⟨b2, o2, h1, h2⟩ := bs_one hb2 (by omega)
          exact ⟨b2, o2, h1, by rw [h2 j hj, getD_dt _ _ _ _ hj]⟩)
        have hKc : K ≤ c2 := hb2.2.2.1
        have hcm := hb2.2.2.2.1
        unfold maxLen at hcm
        have hs3 := hide (unhide hsome (by omega))
        replace hb2 := hide hb2
        clear x1 ha hd
        go_wp2_with fail
        go_loop [4, 21] (fun v i => ∃ j : Nat, j ≤ K ∧ i = .int .i64 (j : Int) ∧ v = .int .u64 (numV l p j)) (fun _ i => K - (intOf i).toNat)
        case atStart => exact ⟨0, by omega, rfl, by rw [unhide hv0]⟩
        case round =>
          obtain ⟨j, hj, rfl, rfl⟩ := hrel
          by_cases hlt : j < K
          · obtain ⟨b2, o2, rfl, x2⟩ := unhide hc2 j hlt
            have hx8 := getD_w8 h8 (p + 1 + j)
            have hst : numV l p (j + 1) = numV l p j * 256 + l.getD (p + 1 + j) 0 := by
              show numV l p j * 256 + l.getD (p + j + 1) 0 = _
              rw [show p + j + 1 = p + 1 + j by omega]
            have hv := unhide hvl j
            have hpw : (256 : Int) ^ j ≤ 256 ^ 6 := by
              have : (256 : Nat) ^ j ≤ 256 ^ 6 := Nat.pow_le_pow_right (by decide) (by omega)
              have e : ∀ k : Nat, (256 : Int) ^ k = ((256 ^ k : Nat) : Int) := fun k => by simp
              rw [e, e]; omega
            have ho := or8D (numV l p j) (l.getD (p + 1 + j) 0) hv.1 (by omega) hx8
            have hv2 : numV l p j < 72057594037927936 := by omega
            obtain ⟨hv1, -⟩ := hv
            replace hst := hide hst
            generalize numV l p j = v at *
            generalize l.getD (p + 1 + j) 0 = x at *
            obtain ⟨x0, x9⟩ := hx8
            have hwv : IntKind.u64.wrap (v * 256) = v * 256 := by rw [IntKind.wrap_u64]; omega
            have i1 : (0 : Int) ≤ (j : Int) := by omega
            have i2 : (j : Int) < (K : Int) := by omega
            go_wp2_with fail
            go_round
            case rel => exact ⟨j + 1, by omega, by simp, by rw [unhide hst]⟩
            case measure => simp [intOf]; omega
          · obtain rfl : j = K := by omega
            go_wp2_with fail
            go_ret
            exact ⟨gb_trans g1 g2, .inl ⟨numV l p j, p + (j + 1), unhide hs3, rfl, by rw [show p + (j + 1) = p + 1 + j by omega]; exact hX2⟩⟩
end Go.Proofs.YtjnmokmchdfchaaDoor
namespace Go.Proofs.YtjnmokmchdfchaaDoor
open Go.RowKit
attribute [local go_sem ↓] Go.wp_at_zero Go.wp_at_succ

/-! ### ranges that are appended -/
def OwnR (w : World) (base : Nat) (v : Value) (l : List Rg) : Prop := (∀ r ∈ l, r.ok) ∧ w.ownsRow base 54 2 v l.length (rcs l)
theorem OwnR.lt {w : World} {base : Nat} {v : Value} {l : List Rg} (h : OwnR w base v l) : ∀ k, v.ownBlock = some k → base ≤ k ∧ k < w.heap.size := h.2.lt
theorem OwnR.gb {w w' : World} {base : Nat} {v : Value} {l : List Rg} {r : Option Nat} (h : OwnR w base v l) (g : w.grownBy w' r) (hr : v.ownBlock = none ∨ v.ownBlock ≠ r) : OwnR w' base v l := ⟨h.1, h.2.kept g hr⟩
theorem OwnR.gb0 {w w' : World} {base : Nat} {v : Value} {l : List Rg} (h : OwnR w base v l) (g : w.grownBy w' none) : OwnR w' base v l := h.gb g (by cases v.ownBlock <;> simp)
theorem OwnR.rsv {w : World} {base : Nat} {a : Option Addr} {n c : Nat} {l : List Rg} (h : OwnR w base (.slice a n c) l) : RSv w a n c l ∧ ∀ x, a = some x → base ≤ x.block := by
  obtain ⟨h1, h2, h3⟩ := h
  rcases h3 with ⟨e, hn⟩ | ⟨g, cap, cur, e, hb, hg, hc, hm, hs, ht⟩
  · cases e
    exact ⟨⟨h1, hn.symm, by simp, by simp [maxLen], .inl rfl⟩, fun x hx => by cases hx⟩
  · cases e
    refine ⟨⟨h1, rfl, hc, hm, .inr ⟨g, 0, rfl, fun j v hj => ?_⟩⟩, fun x hx => by cases hx; exact hb⟩
    have hlt : j < (rcs l).length := (List.getElem?_eq_some_iff.1 hj).1
    rw [← ht, List.getElem?_take, if_pos (by rw [h2] at hlt; exact hlt)] at hj
    simp only [World.cell?, hg, Nat.zero_add]
    simpa using hj
theorem Tryd.infoR : (Tryd.prog.info? 54).map (fun i => (i.zero, i.size, i.bytes)) = some (some (.agg #[.int .u64 0, .int .u64 0]), 2, 16) := by kernel_rfl
theorem rcs_append (l m : List Rg) : rcs (l ++ m) = rcs l ++ rcs m := by simp [rcs]
theorem ownR_one (w : World) (r : Rg) (hr : r.ok) (base : Nat) (hb : base ≤ w.heap.size) : OwnR (w.alloc (.cells #[.int .u64 r.lo, .int .u64 r.hi] 54)) base (.slice (some ⟨w.heap.size, 0, none⟩) 1 1) [r] :=
  ⟨fun x hx => by rw [List.mem_singleton.1 hx]; exact hr, by simp [rcs], .inr ⟨w.heap.size, 1, #[.int .u64 r.lo, .int .u64 r.hi], rfl, hb, heap_alloc_new w _, Nat.le_refl _, by simp [maxLen], by simp, by simp [rcs]⟩⟩
theorem run_appendR {w : World} (ty : TypeId) (base : Nat) (v : Value) (l : List Rg) (hown : OwnR w base v l) (b o c : Nat) (r : Rg) (hr : r.ok) (h0 : w.cell? ⟨b, o, none⟩ = some (.int .u64 r.lo)) (h1 : w.cell? ⟨b, o + 1, none⟩ = some (.int .u64 r.hi)) (hlen : l.length ≤ 100000000) (hbase : base ≤ w.heap.size) :
    ∃ a' n' cap' w', (Builtin.append_ #[44, 44] ty #[v, .slice (some ⟨b, o, none⟩) 1 c]).run Tryd.prog w = .ok (.slice a' n' cap') w' ∧ OwnR w' base (.slice a' n' cap') (l ++ [r]) ∧ w.grownBy w' v.ownBlock ∧ ((Value.slice a' n' cap').ownBlock = v.ownBlock ∨ (Value.slice a' n' cap').ownBlock = some w.heap.size) := by
  obtain ⟨i0, hi, hz0, hz1, hz2⟩ := info_parts Tryd.infoR
  obtain ⟨v', w', hr2, h2, h3, _, h4⟩ := run_append_own_at (P := Tryd.prog) w base 44 ty 54 i0 (.agg #[.int .u64 0, .int .u64 0]) 2 16 Tryd.underlying44 hi hz0 hz1 hz2 rfl (by decide) v l.length (rcs l) hown.2 ⟨b, o, none⟩ 1 c (rcs [r]) rfl (by
      intro j u hj
      rw [Addr.add_mid]
      match j, hj with
      | 0, hj => simp [rcs] at hj; rw [← hj]; exact h0
      | 1, hj => simp [rcs] at hj; rw [← hj]; exact h1) (by
      intro u hu
      simp [rcs] at hu
      rcases hu with rfl | rfl <;> rfl) (by simp [maxLen]; omega) (by omega) hbase
  have hO : OwnR w' base v' (l ++ [r]) := ⟨fun y hy => (List.mem_append.1 hy).elim (hown.1 y) (fun h => by rw [List.mem_singleton.1 h]; exact hr), by rw [List.length_append, rcs_append]; exact h2⟩
  obtain ⟨-, -, ⟨rfl, e2⟩ | ⟨g, cap, cur, rfl, _⟩⟩ := id hO
  · exact ⟨_, _, _, w', hr2, hO, h3, h4⟩
  · exact ⟨_, _, _, w', hr2, hO, h3, h4⟩
theorem wpList_appendR {w : World} {ops : Array Oper} {rest : List Oper} {o : Oper} {a : Act} {Q : Exit → Act → World → Prop} (hgd : o.guard = none) (s x : Operand)
    (ho : o.op = .call { callee := .builtin .append, args := #[s, x], argTypes := #[44, 44] })
    (base : Nat) (v : Value) (l : List Rg) (hs : a.eval s = v) (hown : OwnR w base v l) (b f c : Nat) (r : Rg) (hr : r.ok) (hx : a.eval x = .slice (some ⟨b, f, none⟩) 1 c) (h0 : w.cell? ⟨b, f, none⟩ = some (.int .u64 r.lo)) (h1 : w.cell? ⟨b, f + 1, none⟩ = some (.int .u64 r.hi)) (hlen : l.length ≤ 100000000) (hbase : base ≤ w.heap.size)
    (h : ∀ a' n' cap' w', OwnR w' base (.slice a' n' cap') (l ++ [r]) → w.grownBy w' v.ownBlock → ((Value.slice a' n' cap').ownBlock = v.ownBlock ∨ (Value.slice a' n' cap').ownBlock = some w.heap.size) →
      wpList Tryd.prog ops Q rest (a.put o.dst (.slice a' n' cap')) w') : wpList Tryd.prog ops Q (o :: rest) a w :=
  wpList_plain hgd fun _ hK => by
    obtain ⟨a', n', cap', w', hr2, h2, h3, h4⟩ := run_appendR (w := w) o.type base v l hown b f c r hr h0 h1 hlen hbase
    unfold Oper.wp execOp
    simp only [ho, resolve, invoke, builtin, Sem.run_bind, Sem.run_pure, Result.andThen_ok, List.map_toArray, List.map_cons, List.map_nil, hs, hx, hr2]
    exact hK _ _ (h a' n' cap' w' h2 h3 h4)

/-! ### streams, differences -/
def StrA (w : World) (X : Nat) (sl : Value) (st : Nat) (r : Option (Int × Nat)) (e : Ending) (w' : World) : Prop :=
  w.grownBy w' (some X) ∧ ((∃ v q, r = some (v, q) ∧ e = .returned (.int .i64 v) ∧ RdS w' X sl q st) ∨ (r = none ∧ e = PN ∧ ∃ p', RdS w' X sl p' st))
set_option maxRecDepth 100000 in
theorem pStream_any (X bb o n cap : Nat) (l : List Int) (p st : Nat) (w : World) (hX : RdS w X (.slice (some ⟨bb, o, none⟩) n cap) p st) (hb : BSv w (some ⟨bb, o, none⟩) n cap l) (hXb : bb ≠ X) (hp : p ≤ l.length) (hl : l.length ≤ 100000000) :
    Calls Tryd.prog 91 #[.pointer (some ⟨X, 0, none⟩)] w (StrA w X (.slice (some ⟨bb, o, none⟩) n cap) st (streamR l p)) := by
  have h8 := hb.1
  go_enter Tryd.func91, Tryd.ntmps91
  go_wp2_with fail
  refine (pNumber_any X bb o n cap l p st w hX hb hXb hp hl).mono ?_
  rintro e w1 ⟨g1, ⟨v, q, hr, rfl, hX1⟩ | ⟨hr, rfl, hX1⟩⟩
  · have hv := numR_some h8 hr
    obtain ⟨⟨v0, v1⟩, -⟩ := hv
    replace hr := hide hr
    by_cases h4 : 4 ≤ v
    · have hnone : streamR l p = none := by unfold streamR; rw [unhide hr]; simp; omega
      replace hnone := hide hnone
      go_wp2_with (go_at_call 59; refine (refuse_any X _).mono ?_; rintro e w' ⟨rfl, rfl⟩)
      exact ⟨rfl, g1, .inr ⟨unhide hnone, rfl, q, hX1⟩⟩
    · have hsome : streamR l p = some (v, q) := by unfold streamR; rw [unhide hr]; simp; omega
      replace hsome := hide hsome
      have hwv : IntKind.i64.wrap v = v := by simp [IntKind.wrap, IntKind.bits, IntKind.signed]; omega
      go_wp2_with fail
      go_ret
      exact ⟨g1, .inl ⟨v, q, unhide hsome, rfl, hX1⟩⟩
  · have hnone : streamR l p = none := by unfold streamR; rw [hr]; rfl
    exact ⟨rfl, g1, .inr ⟨hnone, rfl, hX1⟩⟩
def LessA (x y : Int) (w : World) (e : Ending) (w' : World) : Prop := w' = w ∧ ((y ≤ x ∧ e = .returned (.int .u64 (x - y))) ∨ (x < y ∧ e = PN))
set_option maxRecDepth 100000 in
theorem less_any (X : Nat) (x y : Int) (w : World) (hx : W64 x) (hy : W64 y) : Calls Tryd.prog 104 #[.pointer (some ⟨X, 0, none⟩), .int .u64 x, .int .u64 y] w (LessA x y w) := by
  unfold W64 at hx hy
  by_cases h : x < y
  · go_enter Tryd.func104, Tryd.ntmps104
    go_wp2_with (go_at_call 59; refine (refuse_any X _).mono ?_; rintro e w' ⟨rfl, rfl⟩)
    exact ⟨rfl, rfl, .inr ⟨h, rfl⟩⟩
  · have hw := sub64 (x := x) (y := y) (by omega) (by omega)
    go_enter Tryd.func104, Tryd.ntmps104
    go_wp2_with fail
    go_ret
    exact ⟨rfl, .inl ⟨by omega, rfl⟩⟩
end Go.Proofs.YtjnmokmchdfchaaDoor
