import Derived.Test.YtjnmokmchdfchaaDoorZErr5
import Derived.Test.YtjnmokmchdfchaaDoorZEw
import Derived.Test.YtjnmokmchdfchaaDoorZBytes
namespace Go.Proofs.YtjnmokmchdfchaaDoor
open Go.RowKit
attribute [local go_sem ↓] Go.wp_at_zero Go.wp_at_succ

theorem sEncode_any (w : World) (a : Option Addr) (n cap : Nat) (fs : List Fr) (h : FSv w a n cap fs) (hbk : bulkL fs ≤ 30000000) :
    Calls Tryd.prog 20 #[.slice a n cap] w (EncAns w fs (.tuple #[.slice none 0 0, .iface 24 (.int .i64 5)]) (fun v => .tuple #[v, .nilIface])) := by
  have hE := hide (encode_any w a n cap fs h hbk)
  clear h hbk
  obtain ⟨R, hR⟩ : ∃ R, R = EncAns w fs (.tuple #[.slice none 0 0, .iface 24 (.int .i64 5)]) (fun v => .tuple #[v, .nilIface]) := ⟨_, rfl⟩
  rw [← hR] at hE ⊢
  replace hR := hide hR
  go_enter Tryd.func20, Tryd.ntmps20
  go_wp2_with fail
  refine (unhide hE).mono ?_
  intro e w1 h1
  have hR' := unhide hR
  subst hR'
  obtain ⟨⟨hk, a', n', c', rfl, ho⟩ | ⟨hk, rfl⟩, g⟩ := h1
  · replace hk := hide hk
    replace ho := hide ho
    go_wp2_with fail
    go_ret2
    exact ⟨.inl ⟨unhide hk, a', n', c', rfl, unhide ho⟩, g⟩
  · replace hk := hide hk
    go_wp2_with fail
    go_ret2
    exact ⟨.inr ⟨unhide hk, rfl⟩, g⟩
theorem decode_any (w : World) (a : Option Addr) (n cap : Nat) (l : List Int) (hb : BSv w a n cap l) (hl : l.length ≤ 100000000) :
    Calls Tryd.prog 40 #[.slice a n cap] w (DecA w l) := by
  cases l with
  | nil => exact decode_nil w a n cap hb
  | cons x l =>
    obtain ⟨-, h2, h3, -, h4⟩ := id hb
    rcases h4 with ⟨h4, h5⟩ | ⟨b, o, rfl, h4⟩
    · simp only [List.length_cons] at h2; omega
    · exact decode_some w b o n cap _ hb (by simp) hl
theorem sDecode_any (w : World) (a : Option Addr) (n cap : Nat) (l : List Int) (hb : BSv w a n cap l) (hl : l.length ≤ 100000000) :
    Calls Tryd.prog 24 #[.slice a n cap] w (DecA w l) := by
  have hE := hide (decode_any w a n cap l hb hl)
  clear hb hl
  obtain ⟨R, hR⟩ : ∃ R, R = DecA w l := ⟨_, rfl⟩
  rw [← hR] at hE ⊢
  replace hR := hide hR
  go_enter Tryd.func24, Tryd.ntmps24
  go_wp2_with fail
  refine (unhide hE).mono ?_
  intro e w1 h1
  have hR' := unhide hR
  subst hR'
  obtain ⟨g, ⟨its, a', n', c', hk, rfl, ho⟩ | ⟨p, F, hk, rfl, hF, hlt⟩⟩ := h1
  · replace hk := hide hk
    replace ho := hide ho
    go_wp2_with fail
    go_ret2
    exact ⟨g, .inl ⟨its, a', n', c', unhide hk, rfl, unhide ho⟩⟩
  · replace hk := hide hk
    replace hF := hide hF
    go_wp2_with fail
    go_ret2
    exact ⟨g, .inr ⟨p, F, unhide hk, rfl, unhide hF, hlt⟩⟩
set_option maxHeartbeats 1000000 in
theorem plainDecode_any (w : World) (a : Option Addr) (n cap : Nat) (l : List Int) (hb : BSv w a n cap l) (hl : l.length ≤ 90000000) (hL : Laid w) :
    Calls Tryd.prog 8 #[.slice a n cap] w (RDec w l) := by
  have hS := hide (fun (a : Option Addr) (n cap : Nat) (W : World) (hb : BSv W a n cap l) => sDecode_any W a n cap l hb (by omega))
  have hb1 := hide hb
  have hnl : n = l.length := hb.2.1
  replace hnl := hide hnl
  clear hb
  have hL1 := hide hL
  have hLt := hL.lt
  clear hL
  obtain ⟨R, hR⟩ : ∃ R, R = RDec w l := ⟨_, rfl⟩
  rw [← hR]
  replace hR := hide hR
  go_enter Tryd.func8, Tryd.ntmps8
  go_wp2_with (refine wpList_cloneB (by rfl) _ (by rfl) _ _ _ l (by rfl) (unhide hb1) (by omega) ?_; intro a2 c2 w2 o2 g2; replace o2 := hide o2)
  refine (unhide hS _ _ _ _ (unhide o2).bsv).mono ?_
  have hlt := hide (unhide o2).lt
  rintro e w3 ⟨g3, ⟨its, a', n', c', hk, rfl, ho⟩ | ⟨p, F, hk, rfl, hF, hFl⟩⟩
  · replace hk := hide hk
    replace ho := hide ho
    have o3 := hide ((unhide o2).gb0 g3)
    go_wp2_with fail
    refine (scribble_any _ _ _ l _ _ (unhide o3) (by omega)).mono ?_
    rintro e w4 ⟨rfl, g4⟩
    have ho4 := hide ((unhide ho).gb g4 (fun k e => (unhide hlt k e).2))
    go_wp2_with fail
    refine (told_nil _).mono ?_
    rintro e w5 ⟨rfl, g5⟩
    go_wp2_with fail
    go_ret3
    have hR' := unhide hR
    subst hR'
    have g24 := g2.size
    exact ⟨gb_trans (gb_trans' (gb_trans g2 g3) g4 (fun j e => .inl (by have := unhide hlt _ e; omega))) g5, .inl ⟨its, a', n', c', unhide hk, rfl, ((unhide ho4).gb g5 (fun k e => by cases e)).lower g24⟩⟩
  · replace hk := hide hk
    replace hF := hide hF
    have o3 := hide ((unhide o2).gb0 g3)
    go_wp2_with fail
    refine (scribble_any _ _ _ l _ _ (unhide o3) (by omega)).mono ?_
    rintro e w4 ⟨rfl, g4⟩
    have hL4 : Laid w4 := (((unhide hL1).gb g2 (by simp)).gb g3 (by simp)).gb g4 (fun e => by have := unhide hlt _ e; omega)
    replace hL4 := hide hL4
    have hF3 : F < w3.heap.size := (Array.getElem?_eq_some_iff.1 (unhide hF)).1
    have hF4 : w4.heap[F]? = some (.cells #[.int .i64 5, .int .i64 (p : Int)] 79 (0, 0)) := by
      rw [g4.block F hF3 (fun e => by have := unhide hlt _ e.symm; omega)]
      exact unhide hF
    replace hF4 := hide hF4
    go_wp2_with fail
    refine (told_fault F 5 p _ (unhide hL4) (unhide hF4)).mono ?_
    rintro e w5 ⟨rfl, g5⟩
    go_wp2_with fail
    go_ret3
    have hR' := unhide hR
    subst hR'
    exact ⟨gb_trans (gb_trans' (gb_trans g2 g3) g4 (fun j e => .inl (by have := unhide hlt _ e; omega))) g5, .inr ⟨p, unhide hk, rfl⟩⟩
end Go.Proofs.YtjnmokmchdfchaaDoor
