import Derived.Test.YtjnmokmchdfchaaDoorZEr
import Derived.Test.YtjnmokmchdfchaaDoorZDx
namespace Go.Proofs.YtjnmokmchdfchaaDoor
open Go.RowKit
attribute [local go_sem ↓] Go.wp_at_zero Go.wp_at_succ

/-- A reading that goes on behind a fault. -/
def RBad (w : World) (X : Nat) (sl : Value) (len : Nat) (w' : World) : Prop := w.grownBy w' (some X) ∧ ∃ q, q ≤ len ∧ RfS w' X sl q true
theorem RNum.bad {w : World} {X : Nat} {sl : Value} {l : List Int} {p : Nat} {e : Ending} {w' : World} (h8 : ∀ x ∈ l, W8 x) (hp : p ≤ l.length) (h : RNum w X sl p true (numR l p) e w') : (∃ v, e = .returned (.int .u64 v) ∧ V62 v) ∧ RBad w X sl l.length w' := by
  obtain ⟨g, ⟨v, q, hr, rfl, hx⟩ | ⟨hr, rfl, hx⟩⟩ := h
  · have := numR_some h8 hr
    exact ⟨⟨v, rfl, this.1⟩, g, q, this.2.2, hx⟩
  · exact ⟨⟨0, rfl, by simp [V62]⟩, g, p, hp, hx⟩
structure RC2 (w : World) (X bb o n cap : Nat) (l : List Int) (p : Nat) (bad : Bool) : Prop where
  x : RfS w X (.slice (some ⟨bb, o, none⟩) n cap) p bad
  b : BSv w (some ⟨bb, o, none⟩) n cap l
  xb : bb ≠ X
  hp : p ≤ l.length
  hl : l.length ≤ 100000000
theorem RC2.next {w w' : World} {X bb o n cap : Nat} {l : List Int} {p q : Nat} {bad bad' : Bool} (h : RC2 w X bb o n cap l p bad) (g : w.grownBy w' (some X)) (hx : RfS w' X (.slice (some ⟨bb, o, none⟩) n cap) q bad') (hq : q ≤ l.length) : RC2 w' X bb o n cap l q bad' :=
  ⟨hx, h.b.gb g (fun j e => .inr (.inr (fun x hx => by cases hx; cases e; exact h.xb))), h.xb, hq, h.hl⟩
theorem RC2.num {w : World} {X bb o n cap : Nat} {l : List Int} {p : Nat} {bad : Bool} (h : RC2 w X bb o n cap l p bad) : Calls Tryd.prog 45 #[.pointer (some ⟨X, 0, none⟩)] w (RNum w X (.slice (some ⟨bb, o, none⟩) n cap) p bad (numR l p)) :=
  rNumber_any X bb o n cap l p bad w h.x h.b h.hp h.hl
def RStr (w : World) (X : Nat) (sl : Value) (len : Nat) (bad : Bool) (r : Option (Int × Nat)) (e : Ending) (w' : World) : Prop :=
  (w.grownBy w' (some X) ∧ ∃ v q, r = some (v, q) ∧ e = .returned (.int .i64 v) ∧ RfS w' X sl q bad) ∨ (r = none ∧ e = .returned (.int .i64 0) ∧ RBad w X sl len w')
set_option maxRecDepth 100000 in
theorem rStream_any (X bb o n cap : Nat) (l : List Int) (p : Nat) (bad : Bool) (w : World) (h : RC2 w X bb o n cap l p bad) :
    Calls Tryd.prog 44 #[.pointer (some ⟨X, 0, none⟩)] w (RStr w X (.slice (some ⟨bb, o, none⟩) n cap) l.length bad (streamR l p)) := by
  have h8 := h.b.1
  go_enter Tryd.func44, Tryd.ntmps44
  go_wp2_with fail
  refine h.num.mono ?_
  rintro e w1 ⟨g1, ⟨v, q, hr, rfl, hX1⟩ | ⟨hr, rfl, hX1⟩⟩
  · obtain ⟨⟨v0, v1⟩, v2, v3⟩ := numR_some h8 hr
    obtain ⟨x0, x1, x2, xf⟩ := cells3 hX1
    replace hr := hide hr
    by_cases h4 : 4 ≤ v
    · have hnone : streamR l p = none := by unfold streamR; rw [unhide hr]; simp; omega
      replace hnone := hide hnone
      go_wp2_with fail
      go_ret
      exact .inr ⟨unhide hnone, rfl, gb_set g1 _ _ (.inr rfl), q, v3, hX1.setBad true⟩
    · have hsome : streamR l p = some (v, q) := by unfold streamR; rw [unhide hr]; simp; omega
      replace hsome := hide hsome
      have hwv : IntKind.i64.wrap v = v := by simp [IntKind.wrap, IntKind.bits, IntKind.signed]; omega
      go_wp2_with fail
      go_ret
      exact .inl ⟨g1, v, q, unhide hsome, rfl, hX1⟩
  · have hnone : streamR l p = none := by unfold streamR; rw [hr]; rfl
    replace hnone := hide hnone
    replace hr := hide hr
    go_wp2_with fail
    go_ret
    exact .inr ⟨unhide hnone, rfl, g1, p, h.hp, hX1⟩
def RTxt (w : World) (X : Nat) (sl : Value) (len : Nat) (r : Option (ByteArray × Nat)) (e : Ending) (w' : World) : Prop :=
  (w.grownBy w' (some X) ∧ ∃ v q, r = some (v, q) ∧ e = .returned (.string v) ∧ RfS w' X sl q false) ∨ (r = none ∧ e = .returned (.string { data := #[] }) ∧ RBad w X sl len w')
set_option maxRecDepth 100000 in
theorem rText_bad (X bb o n cap : Nat) (l : List Int) (p : Nat) (w : World) (h : RC2 w X bb o n cap l p true) :
    Calls Tryd.prog 46 #[.pointer (some ⟨X, 0, none⟩)] w fun e w' => e = .returned (.string { data := #[] }) ∧ RBad w X (.slice (some ⟨bb, o, none⟩) n cap) l.length w' := by
  have h8 := h.b.1
  go_enter Tryd.func46, Tryd.ntmps46
  go_wp2_with fail
  refine h.num.mono ?_
  intro e w1 hr
  obtain ⟨⟨v, rfl, hv⟩, g1, q, hq, hX1⟩ := hr.bad h8 h.hp
  obtain ⟨x0, x1, x2, xf⟩ := cells3 hX1
  go_wp2_with fail
  go_quiet (fail)
  go_wp2_with fail
  go_ret
  exact ⟨rfl, gb_set (gb_drewN g1 _) _ _ (.inr rfl), q, hq, RfS.setBad (w := w1.drewN _) hX1 true⟩
set_option maxRecDepth 100000 in
set_option maxHeartbeats 2000000 in
theorem rText_any (X bb o n cap : Nat) (l : List Int) (p : Nat) (w : World) (h : RC2 w X bb o n cap l p false) :
    Calls Tryd.prog 46 #[.pointer (some ⟨X, 0, none⟩)] w (RTxt w X (.slice (some ⟨bb, o, none⟩) n cap) l.length (textR l p)) := by
  have h8 := h.b.1
  have hn : n = l.length := h.b.2.1
  have hl := h.hl
  have hcap := h.b.2.2.1
  have hmax := h.b.2.2.2.1
  unfold maxLen at hmax
  go_enter Tryd.func46, Tryd.ntmps46
  go_wp2_with fail
  refine h.num.mono ?_
  rintro e w1 ⟨g1, ⟨v, q, hr, rfl, hX1⟩ | ⟨hr, rfl, hX1⟩⟩
  · obtain ⟨⟨v0, v1⟩, v2, v3⟩ := numR_some h8 hr
    obtain ⟨k, hk⟩ : ∃ k : Nat, v = (k : Int) := ⟨v.toNat, by omega⟩
    subst hk
    obtain ⟨x0, x1, x2, xf⟩ := cells3 hX1
    have hw1 : IntKind.i64.wrap ((n : Int) - (q : Int)) = (n : Int) - (q : Int) := by simp [IntKind.wrap, IntKind.bits, IntKind.signed]; omega
    have hw2 : IntKind.u64.wrap ((n : Int) - (q : Int)) = (n : Int) - (q : Int) := by rw [IntKind.wrap_u64]; omega
    have hw3 : IntKind.i64.wrap (k : Int) = (k : Int) := by simp [IntKind.wrap, IntKind.bits, IntKind.signed]; omega
    replace hn := hide hn
    replace hr := hide hr
    by_cases hkl : l.length - q < k
    · have e1 : decide ((n : Int) - (q : Int) < (k : Int)) = true := decide_eq_true (by have := unhide hn; omega)
      have hnone : textR l p = none := by
        unfold textR
        rw [unhide hr]
        simp only [Option.bind_some]
        rw [if_neg (by omega)]
      replace hnone := hide hnone
      go_wp2_with fail
      go_quiet (fail)
      go_wp2_with fail
      go_ret
      exact .inr ⟨unhide hnone, rfl, gb_set (gb_drewN g1 _) _ _ (.inr rfl), q, v3, RfS.setBad (w := w1.drewN _) hX1 true⟩
    · have e1 : decide ((n : Int) - (q : Int) < (k : Int)) = false := decide_eq_false (by have := unhide hn; omega)
      have hsome : textR l p = some (strOfNums ((l.drop q).take k), q + k) := by
        unfold textR
        rw [unhide hr]
        simp only [Option.bind_some]
        rw [if_pos (by omega)]
        simp
      have i1 : (0 : Int) ≤ (q : Int) := by omega
      have i2 : (q : Int) ≤ (q : Int) + (k : Int) := by omega
      have i3 : (q : Int) + (k : Int) ≤ (cap : Int) := by have := unhide hn; omega
      have hw4 : IntKind.i64.wrap ((q : Int) + (k : Int)) = (q : Int) + (k : Int) := by simp [IntKind.wrap, IntKind.bits, IntKind.signed]; omega
      have h1 := h.next g1 hX1 v3
      have hBS : ∀ W : World, w1.grownBy W none → ∀ a' c', (a' = some ⟨bb, o + q, none⟩ ∧ k ≤ c' ∧ c' ≤ cap ∨ (k = 0 ∧ a' = some ⟨bb, o, none⟩ ∧ c' = 0)) → BSv W a' k c' ((l.drop q).take k) := fun W g a' c' hac => by
        obtain ⟨k1, -, -, k4, ⟨h5, -⟩ | ⟨b', o', h5, h6⟩⟩ := h1.b.gb0 g
        · cases h5
        · cases h5
          refine ⟨fun x hx => k1 x (List.mem_of_mem_drop (List.mem_of_mem_take hx)), by simp; omega, ?_, ?_, ?_⟩
          · rcases hac with ⟨-, h, -⟩ | ⟨h, -, h'⟩ <;> omega
          · rcases hac with ⟨-, -, h⟩ | ⟨-, -, h'⟩ <;> omega
          · rcases hac with ⟨rfl, -, -⟩ | ⟨h, rfl, -⟩
            · exact .inr ⟨_, _, rfl, (h6.dropD q).takeD k⟩
            · subst h; exact .inr ⟨_, _, rfl, by simpa using BS.nil _ _ _⟩
      replace hsome := hide hsome
      by_cases hcq : cap = q
      · obtain rfl : k = 0 := by have := unhide hn; omega
        have hcv := fun m => conv_str (hBS (w1.drewN m) (gb_drewN (World.grownBy.refl _ _) _) (some ⟨bb, o, none⟩) 0 (.inr ⟨rfl, rfl, rfl⟩))
        have e1z : decide ((n : Int) - (q : Int) < 0) = false := decide_eq_false (by have := unhide hn; omega)
        have hw5 : IntKind.i64.wrap (q : Int) = (q : Int) := by simp [IntKind.wrap, IntKind.bits, IntKind.signed]; omega
        have i5 : (q : Int) ≤ (cap : Int) := by omega
        have i6 : (q : Int) ≤ (q : Int) := by omega
        go_wp2_with fail
        go_quiet (fail)
        go_wp2_with fail
        go_quiet (fail)
        go_wp2_with fail
        go_ret
        exact .inl ⟨gb_set (gb_drewN g1 _) _ _ (.inr rfl), _, q + 0, unhide hsome, rfl, RfS.setAt (w := w1.drewN _) hX1 (q + 0)⟩
      · have hcq2 : (cap = q) = False := by simp [hcq]
        have hcv := fun m => conv_str (hBS (w1.drewN m) (gb_drewN (World.grownBy.refl _ _) _) (some ⟨bb, o + q, none⟩) (cap - q) (.inl ⟨rfl, by have := unhide hn; omega, by omega⟩))
        go_wp2_with fail
        go_quiet (fail)
        go_wp2_with fail
        go_quiet (fail)
        go_wp2_with fail
        go_ret
        exact .inl ⟨gb_set (gb_drewN g1 _) _ _ (.inr rfl), _, q + k, unhide hsome, rfl, RfS.setAt (w := w1.drewN _) hX1 (q + k)⟩
  · have hnone : textR l p = none := by unfold textR; rw [hr]; rfl
    obtain ⟨x0, x1, x2, xf⟩ := cells3 hX1
    replace hnone := hide hnone
    replace hr := hide hr
    go_wp2_with fail
    go_quiet (fail)
    go_wp2_with fail
    go_ret
    exact .inr ⟨unhide hnone, rfl, gb_set (gb_drewN g1 _) _ _ (.inr rfl), p, h.hp, RfS.setBad (w := w1.drewN _) hX1 true⟩
end Go.Proofs.YtjnmokmchdfchaaDoor
namespace Go.Proofs.YtjnmokmchdfchaaDoor
open Go.RowKit
attribute [local go_sem ↓] Go.wp_at_zero Go.wp_at_succ

def RRng (w : World) (X : Nat) (sl : Value) (len : Nat) (r : Option (List Rg × Nat)) (e : Ending) (w' : World) : Prop :=
  (w.grownBy w' (some X) ∧ ∃ rs q a n c, r = some (rs, q) ∧ e = .returned (.slice a n c) ∧ RSv w' a n c rs ∧ (∀ x, a = some x → w.heap.size ≤ x.block) ∧ RfS w' X sl q false) ∨ (r = none ∧ e = .returned (.slice none 0 0) ∧ RBad w X sl len w')
set_option maxRecDepth 100000 in
set_option maxHeartbeats 8000000 in
theorem rRanges_any (X bb o n cap : Nat) (l : List Int) (p : Nat) (w : World) (h : RC2 w X bb o n cap l p false) :
    Calls Tryd.prog 43 #[.pointer (some ⟨X, 0, none⟩)] w (RRng w X (.slice (some ⟨bb, o, none⟩) n cap) l.length (rangesR l p)) := by
  have h8 := h.b.1
  have hXl := h.x.lt
  have hl := h.hl
  go_enter Tryd.func43, Tryd.ntmps43
  go_wp2_with fail
  refine h.num.mono ?_
  rintro e w1 ⟨g1, ⟨hi, q1, hr1, rfl, hX1⟩ | ⟨hr1, rfl, hX1⟩⟩
  rotate_left
  · have hnone : Hid (rangesR l p = none) := hide (by unfold rangesR; rw [hr1]; rfl)
    replace hr1 := hide hr1
    have h1 := h.next g1 hX1 h.hp
    go_wp2_with fail
    refine h1.num.mono ?_
    intro e w2 hq
    obtain ⟨⟨v2, rfl, -⟩, g2, p2, hp2, hX2⟩ := hq.bad h8 h1.hp
    have h2 := h1.next g2 hX2 hp2
    go_wp2_with fail
    refine h2.num.mono ?_
    intro e w3 hq
    obtain ⟨⟨v3, rfl, -⟩, g3, p3, hp3, hX3⟩ := hq.bad h8 h2.hp
    obtain ⟨x0, x1, x2, xf⟩ := cells3 hX3
    go_wp2_with fail
    go_ret
    exact .inr ⟨unhide hnone, rfl, gb_set (gb_trans (gb_trans g1 g2) g3) _ _ (.inr rfl), p3, hp3, hX3.setBad true⟩
  obtain ⟨⟨a0, a1⟩, a2, a3⟩ := numR_some h8 hr1
  have h1 := h.next g1 hX1 a3
  replace hr1 := hide hr1
  go_wp2_with fail
  refine h1.num.mono ?_
  rintro e w2 ⟨g2, ⟨more, q2, hr2, rfl, hX2⟩ | ⟨hr2, rfl, hX2⟩⟩
  rotate_left
  · have hnone : Hid (rangesR l p = none) := hide (by unfold rangesR; rw [unhide hr1]; simp [hr2])
    replace hr2 := hide hr2
    have h2 := h1.next g2 hX2 h1.hp
    go_wp2_with fail
    refine h2.num.mono ?_
    intro e w3 hq
    obtain ⟨⟨v3, rfl, -⟩, g3, p3, hp3, hX3⟩ := hq.bad h8 h2.hp
    obtain ⟨x0, x1, x2, xf⟩ := cells3 hX3
    go_wp2_with fail
    go_ret
    exact .inr ⟨unhide hnone, rfl, gb_set (gb_trans (gb_trans g1 g2) g3) _ _ (.inr rfl), p3, hp3, hX3.setBad true⟩
  obtain ⟨⟨b0, b1⟩, b2, b3⟩ := numR_some h8 hr2
  have h2 := h1.next g2 hX2 b3
  replace hr2 := hide hr2
  replace g2 := gb_trans g1 g2
  go_wp2_with fail
  refine h2.num.mono ?_
  rintro e w3 ⟨g3, ⟨sz, q3, hr3, rfl, hX3⟩ | ⟨hr3, rfl, hX3⟩⟩
  rotate_left
  · have hnone : Hid (rangesR l p = none) := hide (by unfold rangesR; rw [unhide hr1]; simp [unhide hr2, hr3])
    replace hr3 := hide hr3
    obtain ⟨x0, x1, x2, xf⟩ := cells3 hX3
    go_wp2_with fail
    go_ret
    exact .inr ⟨unhide hnone, rfl, gb_set (gb_trans g2 g3) _ _ (.inr rfl), q2, b3, hX3.setBad true⟩
  obtain ⟨⟨c0, c1⟩, c2, c3⟩ := numR_some h8 hr3
  have h3 := h2.next g3 hX3 c3
  replace hr3 := hide hr3
  replace g3 := gb_trans g2 g3
  obtain ⟨x0, x1, x2, xf⟩ := cells3 hX3
  by_cases hsz : hi < sz
  · have hnone : Hid (rangesR l p = none) := hide (by unfold rangesR; rw [unhide hr1]; simp [unhide hr2, unhide hr3]; omega)
    have e1 : decide (hi < sz) = true := decide_eq_true hsz
    go_wp2_with fail
    go_ret
    exact .inr ⟨unhide hnone, rfl, gb_set g3 _ _ (.inr rfl), q3, c3, hX3.setBad true⟩
  have e1 : decide (hi < sz) = false := decide_eq_false hsz
  obtain ⟨M, hM⟩ : ∃ M : Nat, (M : Int) = more := ⟨more.toNat, by omega⟩
  have hrg : rangesR l p = rgLoop l M q3 (hi - sz) [⟨hi - sz, hi⟩] := by
    unfold rangesR
    rw [unhide hr1]
    simp only [Option.bind_some, unhide hr2, unhide hr3, show sz ≤ hi by omega, if_true]
    rw [← hM, Int.toNat_natCast]
  have hO := ownR_one w3 ⟨hi - sz, hi⟩ ⟨⟨by simp; omega, by simp; omega⟩, by simp; omega, by simp; omega⟩ w.heap.size g3.size
  have hsz3 := g3.size
  have hws := sub64 (x := hi) (y := sz) (by omega) (by omega)
  have hMw : (M : Int) ≤ 4611686018427387903 := by omega
  rw [← hM]
  replace hM := hide hM
  replace hrg := hide hrg
  replace hO := hide hO
  have gal := World.grownBy_alloc w3 (.cells #[.int .u64 (hi - sz), .int .u64 hi] 54) none
  have hX3' := hide (hX3.gb gal (by simp))
  have g3' := hide (gb_trans' g3 gal (fun j e => by cases e))
  go_wp2_with fail
  go_loopw [5, 6, 7] (fun _ v cv wr => ∃ (j q : Nat) (lo : Int) (acc : List Rg) (a' : Option Addr) (c' L : Nat), j ≤ M ∧ cv = .int .u64 (j : Int) ∧ v = .slice a' (L + 1) c' ∧ OwnR wr w.heap.size v acc ∧ acc.length = L + 1 ∧ (rgAt acc L).lo = lo ∧ RfS wr X (.slice (some ⟨bb, o, none⟩) n cap) q false ∧ w.grownBy wr (some X) ∧ acc.length ≤ q ∧ q ≤ l.length ∧ 0 ≤ lo ∧ lo ≤ 4611686018427387903 ∧ rangesR l p = rgLoop l (M - j) q lo acc) (fun _ _ cv _ => M - (intOf cv).toNat)
  case atStart => exact ⟨0, q3, hi - sz, _, _, _, 0, by omega, rfl, rfl, unhide hO, rfl, rfl, unhide hX3', unhide g3', by simp; omega, c3, by omega, by omega, unhide hrg⟩
  case round =>
    obtain ⟨j, q, lo, acc, a', c', L, hj, rfl, rfl, hOj, hL, hlo, hXj, gj, hacc, hq, lo0, lo1, hrj⟩ := hrel
    clear hO hX3' g3' hrg x0 x1 x2 xf e1
    obtain ⟨x0, x1, x2, xf⟩ := cells3 hXj
    by_cases hlt : j < M
    · obtain ⟨m, hm⟩ : ∃ m, M - j = m + 1 := ⟨M - j - 1, by omega⟩
      rw [hm] at hrj
      have hm2 : m = M - (j + 1) := by omega
      have hjr := h.next gj hXj hq
      replace hrj := hide hrj
      replace hm := hide hm
      replace hm2 := hide hm2
      obtain ⟨bR, oR, rfl⟩ : ∃ b o, a' = some ⟨b, o, none⟩ := by
        obtain ⟨-, -, -, -, hc | ⟨b, o, rfl, -⟩⟩ := hOj.rsv.1
        · have := hOj.rsv.1.2.2.1; omega
        · exact ⟨b, o, rfl⟩
      have hLc := hOj.rsv.1.2.2.1
      have hLm := hOj.rsv.1.2.2.2.1
      unfold maxLen at hLm
      have hcell : ∀ W, OwnR W w.heap.size (.slice (some ⟨bR, oR, none⟩) (L + 1) c') acc → W.cell? ⟨bR, oR + L * 2, none⟩ = some (.int .u64 lo) := fun W hW => by
        have := (hW.rsv.1.cell L (by omega)).1
        rwa [hlo] at this
      have hOX : ∀ W W', OwnR W w.heap.size (.slice (some ⟨bR, oR, none⟩) (L + 1) c') acc → W.grownBy W' (some X) → OwnR W' w.heap.size (.slice (some ⟨bR, oR, none⟩) (L + 1) c') acc := fun W W' hW g => hW.gb g (.inr (fun e => by have := (hW.lt X e).1; omega))
      have i1 : (0 : Int) ≤ (L : Int) := by omega
      have i2 : (L : Int) < (L : Int) + 1 := by omega
      replace hOj := hide hOj
      replace hcell := hide hcell
      replace hOX := hide hOX
      replace hlo := hide hlo
      replace hL := hide hL
      go_wp2_with fail
      refine hjr.num.mono ?_
      rintro e w4 ⟨g4, ⟨gap, q4, hr4, rfl, hX4⟩ | ⟨hr4, rfl, hX4⟩⟩
      rotate_left
      · have hnone : Hid (rangesR l p = none) := hide (by rw [unhide hrj]; simp [rgLoop, hr4])
        replace hr4 := hide hr4
        have h4 := hjr.next g4 hX4 hq
        have hO4 := unhide hOX _ _ (unhide hOj) g4
        replace hO4 := hide hO4
        go_wp2_with fail
        refine h4.num.mono ?_
        intro e w5 hq5
        obtain ⟨⟨v5, rfl, -⟩, g5, p5, hp5, hX5⟩ := hq5.bad h8 h4.hp
        have y5 := unhide hcell _ (unhide hOX _ _ (unhide hO4) g5)
        obtain ⟨z0, z1, z2, zf⟩ := cells3 hX5
        go_wp2_with fail
        go_ret
        exact .inr ⟨unhide hnone, rfl, gb_set (gb_trans (gb_trans gj g4) g5) _ _ (.inr rfl), p5, hp5, hX5.setBad true⟩
      obtain ⟨⟨d0, d1⟩, d2, d3⟩ := numR_some h8 hr4
      have h4 := hjr.next g4 hX4 d3
      have hO4 := hide (unhide hOX _ _ (unhide hOj) g4)
      replace hr4 := hide hr4
      go_wp2_with fail
      refine h4.num.mono ?_
      rintro e w5 ⟨g5, ⟨size, q5, hr5, rfl, hX5⟩ | ⟨hr5, rfl, hX5⟩⟩
      rotate_left
      · have hnone : Hid (rangesR l p = none) := hide (by rw [unhide hrj]; simp [rgLoop, unhide hr4, hr5])
        replace hr5 := hide hr5
        have y5 := unhide hcell _ (unhide hOX _ _ (unhide hO4) g5)
        obtain ⟨z0, z1, z2, zf⟩ := cells3 hX5
        go_wp2_with fail
        go_ret
        exact .inr ⟨unhide hnone, rfl, gb_set (gb_trans (gb_trans gj g4) g5) _ _ (.inr rfl), q4, d3, hX5.setBad true⟩
      obtain ⟨⟨e0, e1⟩, e2, e3⟩ := numR_some h8 hr5
      have hO5 := unhide hOX _ _ (unhide hO4) g5
      have y5 := unhide hcell _ hO5
      obtain ⟨z0, z1, z2, zf⟩ := cells3 hX5
      have g45 := gb_trans (gb_trans gj g4) g5
      replace hr5 := hide hr5
      by_cases hbad : lo < 2 ∨ lo - 2 < gap ∨ lo - 2 - gap < size
      · have hnone : Hid (rangesR l p = none) := hide (by
          rw [unhide hrj]
          simp only [rgLoop, unhide hr4, unhide hr5, Option.bind_some]
          rw [if_neg (by omega)])
        replace hO5 := hide hO5
        by_cases k1 : lo < 2
        · go_wp2_with fail
          go_ret
          exact .inr ⟨unhide hnone, rfl, gb_set g45 _ _ (.inr rfl), q5, e3, hX5.setBad true⟩
        have hw2 := sub64 (x := lo) (y := 2) (by omega) (by omega)
        by_cases k2 : lo - 2 < gap
        · go_wp2_with fail
          go_ret
          exact .inr ⟨unhide hnone, rfl, gb_set g45 _ _ (.inr rfl), q5, e3, hX5.setBad true⟩
        have hw3 := sub64 (x := lo - 2) (y := gap) (by omega) (by omega)
        have k3 : lo - 2 - gap < size := by omega
        go_wp2_with fail
        go_ret
        exact .inr ⟨unhide hnone, rfl, gb_set g45 _ _ (.inr rfl), q5, e3, hX5.setBad true⟩
      · have k1 : ¬ lo < 2 := by omega
        have k2 : ¬ lo - 2 < gap := by omega
        have k3 : ¬ lo - 2 - gap < size := by omega
        have hw2 := sub64 (x := lo) (y := 2) (by omega) (by omega)
        have hw3 := sub64 (x := lo - 2) (y := gap) (by omega) (by omega)
        have hw4 := sub64 (x := lo - 2 - gap) (y := size) (by omega) (by omega)
        clear hbad
        have hstep : rangesR l p = rgLoop l (M - (j + 1)) q5 (lo - 2 - gap - size) (acc ++ [⟨lo - 2 - gap - size, lo - 2 - gap⟩]) := by
          rw [unhide hrj]
          simp only [rgLoop, unhide hr4, unhide hr5, Option.bind_some]
          rw [if_pos (by omega), ← unhide hm2]
        replace hstep := hide hstep
        have gal5 := World.grownBy_alloc w5 (.cells #[.int .u64 (lo - 2 - gap - size), .int .u64 (lo - 2 - gap)] 54) none
        have hO6 := hide (hO5.gb0 gal5)
        have hX6 := hide (hX5.gb gal5 (by simp))
        have g6 := hide (gb_trans' g45 gal5 (fun j e => by cases e))
        have hz5 := g45.size
        replace hO5 := hide hO5
        go_wp2_with (at_builtin; refine wpList_appendR (by rfl) _ _ (by rfl) w.heap.size _ acc (by rfl) (unhide hO6) w5.heap.size 0 1 ⟨lo - 2 - gap - size, lo - 2 - gap⟩ ⟨⟨by simp; omega, by simp; omega⟩, by simp; omega, by simp; omega⟩ (by rfl) (by simp) (by simp) (by omega) (by simp; omega) ?_; intro a7 n7 c7 w7 o7 g7 b7)
        go_roundw
        case rel =>
          have hn7 : n7 = L + 1 + 1 := by
            have := o7.rsv.1.2.1
            have h9 := unhide hL
            simp at this
            omega
          refine ⟨j + 1, q5, lo - 2 - gap - size, acc ++ [⟨lo - 2 - gap - size, lo - 2 - gap⟩], a7, c7, L + 1, by omega, by simp, by rw [hn7], o7, by have := unhide hL; simp; omega, ?_, ?_, ?_, by simp; omega, e3, by omega, by omega, unhide hstep⟩
          · unfold rgAt
            rw [List.getD, List.getElem?_append_right (by have := unhide hL; omega)]
            have := unhide hL
            simp [show L + 1 - acc.length = 0 by omega]
          · exact (unhide hX6).gb g7 (fun e => by have := ((unhide hO6).lt X e).1; omega)
          · exact gb_trans' (unhide g6) g7 (fun k e => .inl ((unhide hO6).lt k e).1)
        case measure => simp [intOf]; omega
    · obtain rfl : j = M := by omega
      go_wp2_with fail
      go_ret
      have hrs := hOj.rsv
      exact .inl ⟨gj, acc, q, a', _, c', by rw [hrj, Nat.sub_self]; rfl, rfl, hrs.1, hrs.2, hXj⟩
end Go.Proofs.YtjnmokmchdfchaaDoor
