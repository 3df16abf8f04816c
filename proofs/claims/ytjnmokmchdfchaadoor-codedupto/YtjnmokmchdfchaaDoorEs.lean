import Derived.Test.YtjnmokmchdfchaaDoorEr
import Derived.Test.YtjnmokmchdfchaaDoorDx
namespace Go.Proofs.YtjnmokmchdfchaaDoor
open Go.RowKit
attribute [local go_sem ↓] Go.wp_at_zero Go.wp_at_succ

/-- A reading that goes on behind a fault. -/
def RBad (w : World) (X : Nat) (sl : Value) (len : Nat) (w' : World) : Prop := w.grownBy w' (some X) ∧ ∃ q, q ≤ len ∧ RfS w' X sl q true
theorem RNum.bad {w : World} {X : Nat} {sl : Value} {l : List Int} {p : Nat} {e : Ending} {w' : World} (h8 : ∀ x ∈ l, W8 x) (hp : p ≤ l.length) (h : RNum w X sl p true (numR l p) e w') : (∃ v, e = .returned (.int .u64 v) ∧ V62 v) ∧ RBad w X sl l.length w' := by
  obtain ⟨g, ⟨v, q, hr, rfl, hx⟩ | ⟨hr, rfl, hx⟩⟩ := h
  · have := numR_some h8 hr
    exact ⟨⟨v, rfl, this.1⟩, g, q, this.2.2, hx⟩
  · exact ⟨⟨0, rfl, by simp [V62]⟩, g, p, hp, hx⟩
structure RC2 (w : World) (X bb o n cap : Nat) (l : List Int) (p : Nat) (bad : Bool) : Prop where
  x : RfS w X (.slice (some ⟨bb, o, none⟩) n cap) p bad
  b : BSv w (some ⟨bb, o, none⟩) n cap l
  xb : bb ≠ X
  hp : p ≤ l.length
  hl : l.length ≤ 100000000
theorem RC2.next {w w' : World} {X bb o n cap : Nat} {l : List Int} {p q : Nat} {bad bad' : Bool} (h : RC2 w X bb o n cap l p bad) (g : w.grownBy w' (some X)) (hx : RfS w' X (.slice (some ⟨bb, o, none⟩) n cap) q bad') (hq : q ≤ l.length) : RC2 w' X bb o n cap l q bad' :=
  ⟨hx, h.b.gb g (fun j e => .inr (.inr (fun x hx => by cases hx; cases e; exact h.xb))), h.xb, hq, h.hl⟩
theorem RC2.num {w : World} {X bb o n cap : Nat} {l : List Int} {p : Nat} {bad : Bool} (h : RC2 w X bb o n cap l p bad) : Calls Tryd.prog 45 #[.pointer (some ⟨X, 0, none⟩)] w (RNum w X (.slice (some ⟨bb, o, none⟩) n cap) p bad (numR l p)) :=
  rNumber_any X bb o n cap l p bad w h.x h.b h.hp h.hl
def RStr (w : World) (X : Nat) (sl : Value) (len : Nat) (bad : Bool) (r : Option (Int × Nat)) (e : Ending) (w' : World) : Prop :=
  (w.grownBy w' (some X) ∧ ∃ v q, r = some (v, q) ∧ e = .returned (.int .i64 v) ∧ RfS w' X sl q bad) ∨ (r = none ∧ e = .returned (.int .i64 0) ∧ RBad w X sl len w')
set_option maxRecDepth 100000 in
theorem rStream_any (X bb o n cap : Nat) (l : List Int) (p : Nat) (bad : Bool) (w : World) (h : RC2 w X bb o n cap l p bad) :
    Calls Tryd.prog 44 #[.pointer (some ⟨X, 0, none⟩)] w (RStr w X (.slice (some ⟨bb, o, none⟩) n cap) l.length bad (streamR l p)) := by
  have h8 := h.b.1
  go_enter Tryd.func44, Tryd.ntmps44
  go_wp2_with fail
  refine h.num.mono ?_
  rintro e w1 ⟨g1, ⟨v, q, hr, rfl, hX1⟩ | ⟨hr, rfl, hX1⟩⟩
  · obtain ⟨⟨v0, v1⟩, v2, v3⟩ := numR_some h8 hr
    obtain ⟨x0, x1, x2, xf⟩ := cells3 hX1
    replace hr := hide hr
    by_cases h4 : 4 ≤ v
    · have hnone : streamR l p = none := by unfold streamR; rw [unhide hr]; simp; omega
      replace hnone := hide hnone
      go_wp2_with fail
      go_ret
      exact .inr ⟨unhide hnone, rfl, gb_set g1 _ _ (.inr rfl), q, v3, hX1.setBad true⟩
    · have hsome : streamR l p = some (v, q) := by unfold streamR; rw [unhide hr]; simp; omega
      replace hsome := hide hsome
      have hwv : IntKind.i64.wrap v = v := by simp [IntKind.wrap, IntKind.bits, IntKind.signed]; omega
      go_wp2_with fail
      go_ret
      exact .inl ⟨g1, v, q, unhide hsome, rfl, hX1⟩
  · have hnone : streamR l p = none := by unfold streamR; rw [hr]; rfl
    replace hnone := hide hnone
    replace hr := hide hr
    go_wp2_with fail
    go_ret
    exact .inr ⟨unhide hnone, rfl, g1, p, h.hp, hX1⟩
def RTxt (w : World) (X : Nat) (sl : Value) (len : Nat) (r : Option (ByteArray × Nat)) (e : Ending) (w' : World) : Prop :=
  (w.grownBy w' (some X) ∧ ∃ v q, r = some (v, q) ∧ e = .returned (.string v) ∧ RfS w' X sl q false) ∨ (r = none ∧ e = .returned (.string { data := #[] }) ∧ RBad w X sl len w')
set_option maxRecDepth 100000 in
theorem rText_bad (X bb o n cap : Nat) (l : List Int) (p : Nat) (w : World) (h : RC2 w X bb o n cap l p true) :
    Calls Tryd.prog 46 #[.pointer (some ⟨X, 0, none⟩)] w fun e w' => e = .returned (.string { data := #[] }) ∧ RBad w X (.slice (some ⟨bb, o, none⟩) n cap) l.length w' := by
  have h8 := h.b.1
  go_enter Tryd.func46, Tryd.ntmps46
  go_wp2_with fail
  refine h.num.mono ?_
  intro e w1 hr
  obtain ⟨⟨v, rfl, hv⟩, g1, q, hq, hX1⟩ := hr.bad h8 h.hp
  obtain ⟨x0, x1, x2, xf⟩ := cells3 hX1
  go_wp2_with fail
  go_quiet (fail)
  go_wp2_with fail
  go_ret
  exact ⟨rfl, gb_set (gb_drewN g1 _) _ _ (.inr rfl), q, hq, RfS.setBad (w := w1.drewN _) hX1 true⟩
set_option maxRecDepth 100000 in
set_option maxHeartbeats 2000000 in
theorem rText_any (X bb o n cap : Nat) (l : List Int) (p : Nat) (w : World) (h : RC2 w X bb o n cap l p false) :
    Calls Tryd.prog 46 #[.pointer (some ⟨X, 0, none⟩)] w (RTxt w X (.slice (some ⟨bb, o, none⟩) n cap) l.length (textR l p)) := by
  have h8 := h.b.1
  have hn : n = l.length := h.b.2.1
  have hl := h.hl
  have hcap := h.b.2.2.1
  have hmax := h.b.2.2.2.1
  unfold maxLen at hmax
  go_enter Tryd.func46, Tryd.ntmps46
  go_wp2_with fail
  refine h.num.mono ?_
  rintro e w1 ⟨g1, ⟨v, q, hr, rfl, hX1⟩ | ⟨hr, rfl, hX1⟩⟩
  · obtain ⟨⟨v0, v1⟩, v2, v3⟩ := numR_some h8 hr
    obtain ⟨k, hk⟩ : ∃ k : Nat, v = (k : Int) := ⟨v.toNat, by omega⟩
    subst hk
    obtain ⟨x0, x1, x2, xf⟩ := cells3 hX1
    have hw1 : IntKind.i64.wrap ((n : Int) - (q : Int)) = (n : Int) - (q : Int) := by simp [IntKind.wrap, IntKind.bits, IntKind.signed]; omega
    have hw2 : IntKind.u64.wrap ((n : Int) - (q : Int)) = (n : Int) - (q : Int) := by rw [IntKind.wrap_u64]; omega
    have hw3 : IntKind.i64.wrap (k : Int) = (k : Int) := by simp [IntKind.wrap, IntKind.bits, IntKind.signed]; omega
    replace hn := hide hn
    replace hr := hide hr
    by_cases hkl : l.length - q < k
    · have e1 : decide ((n : Int) - (q : Int) < (k : Int)) = true := decide_eq_true (by have := unhide hn; omega)
      have hnone : textR l p = none := by
        unfold textR
        rw [unhide hr]
        simp only [Option.bind_some]
        rw [if_neg (by omega)]
      replace hnone := hide hnone
      go_wp2_with fail
      go_quiet (fail)
      go_wp2_with fail
      go_ret
      exact .inr ⟨unhide hnone, rfl, gb_set (gb_drewN g1 _) _ _ (.inr rfl), q, v3, RfS.setBad (w := w1.drewN _) hX1 true⟩
    · have e1 : decide ((n : Int) - (q : Int) < (k : Int)) = false := decide_eq_false (by have := unhide hn; omega)
      have hsome : textR l p = some (strOfNums ((l.drop q).take k), q + k) := by
        unfold textR
        rw [unhide hr]
        simp only [Option.bind_some]
        rw [if_pos (by omega)]
        simp
      have i1 : (0 : Int) ≤ (q : Int) := by omega
      have i2 : (q : Int) ≤ (q : Int) + (k : Int) := by omega
      have i3 : (q : Int) + (k : Int) ≤ (cap : Int) := by have := unhide hn; omega
      have hw4 : IntKind.i64.wrap ((q : Int) + (k : Int)) = (q : Int) + (k : Int) := by simp [IntKind.wrap, IntKind.bits, IntKind.signed]; omega
      have h1 := h.next g1 hX1 v3
      have hBS : ∀ W : World, w1.grownBy W none → ∀ a' c', (a' = some ⟨bb, o + q, none⟩ ∧ k ≤ c' ∧ c' ≤ cap ∨ (k = 0 ∧ a' = some ⟨bb, o, none⟩ ∧ c' = 0)) → BSv W a' k c' ((l.drop q).take k) := fun W g a' c' hac => by
        obtain ⟨k1, -, -, k4, ⟨h5, -⟩ | ⟨b', o', h5, h6⟩⟩ := h1.b.gb0 g
        · cases h5
        · cases h5
          refine ⟨fun x hx => k1 x (List.mem_of_mem_drop (List.mem_of_mem_take hx)), by simp; omega, ?_, ?_, ?_⟩
          · rcases hac with ⟨-, h, -⟩ | ⟨h, -, h'⟩ <;> omega
          · rcases hac with ⟨-, -, h⟩ | ⟨-, -, h'⟩ <;> omega
          · rcases hac with ⟨rfl, -, -⟩ | ⟨h, rfl, -⟩
            · exact .inr ⟨_, _, rfl, (h6.dropD q).takeD k⟩
            · subst h; exact .inr ⟨_, _, rfl, by simpa using BS.nil _ _ _⟩
      replace hsome := hide hsome
      by_cases hcq : cap = q
      · obtain rfl : k = 0 := by have := unhide hn; omega
        have hcv := fun m => conv_str (hBS (w1.drewN m) (gb_drewN (World.grownBy.refl _ _) _) (some ⟨bb, o, none⟩) 0 (.inr ⟨rfl, rfl, rfl⟩))
        have e1z : decide ((n : Int) - (q : Int) < 0) = false := decide_eq_false (by have := unhide hn; omega)
        have hw5 : IntKind.i64.wrap (q : Int) = (q : Int) := by simp [IntKind.wrap, IntKind.bits, IntKind.signed]; omega
        have i5 : (q : Int) ≤ (cap : Int) := by omega
        have i6 : (q : Int) ≤ (q : Int) := by omega
        go_wp2_with fail
        go_quiet (fail)
        go_wp2_with fail
        go_quiet (fail)
        go_wp2_with fail
        go_ret
        exact .inl ⟨gb_set (gb_drewN g1 _) _ _ (.inr rfl), _, q + 0, unhide hsome, rfl, RfS.setAt (w := w1.drewN _) hX1 (q + 0)⟩
      · have hcq2 : (cap = q) = False := by simp [hcq]
        have hcv := fun m => conv_str (hBS (w1.drewN m) (gb_drewN (World.grownBy.refl _ _) _) (some ⟨bb, o + q, none⟩) (cap - q) (.inl ⟨rfl, by have := unhide hn; omega, by omega⟩))
        go_wp2_with fail
        go_quiet (fail)
        go_wp2_with fail
        go_quiet (fail)
        go_wp2_with fail
        go_ret
        exact .inl ⟨gb_set (gb_drewN g1 _) _ _ (.inr rfl), _, q + k, unhide hsome, rfl, RfS.setAt (w := w1.drewN _) hX1 (q + k)⟩
  · have hnone : textR l p = none := by unfold textR; rw [hr]; rfl
    obtain ⟨x0, x1, x2, xf⟩ := cells3 hX1
    replace hnone := hide hnone
    replace hr := hide hr
    go_wp2_with fail
    go_quiet (fail)
    go_wp2_with fail
    go_ret
    exact .inr ⟨unhide hnone, rfl, gb_set (gb_drewN g1 _) _ _ (.inr rfl), p, h.hp, RfS.setBad (w := w1.drewN _) hX1 true⟩
end Go.Proofs.YtjnmokmchdfchaaDoor
