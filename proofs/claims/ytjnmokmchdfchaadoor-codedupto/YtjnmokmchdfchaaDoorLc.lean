import Derived.Test.YtjnmokmchdfchaaDoorLb
namespace Go.Proofs.YtjnmokmchdfchaaDoor
open Go.RowKit
attribute [local go_sem ↓] Go.wp_at_zero Go.wp_at_succ

theorem refDecode_any (w : World) (a : Option Addr) (n cap : Nat) (l : List Int) (hb : BSv w a n cap l) (hl : l.length ≤ 100000000) :
    Calls Tryd.prog 9 #[.slice a n cap] w (RDec w l) := by
  cases l with
  | nil => exact refDecode_nil w a n cap hb
  | cons x l =>
    obtain ⟨-, h2, h3, -, h4⟩ := id hb
    rcases h4 with ⟨h4, h5⟩ | ⟨b, o, rfl, h4⟩
    · simp only [List.length_cons] at h2; omega
    · exact refDecode_some w b o n cap _ hb (by simp) hl
theorem varL_pos (n : Int) : 0 < (varL n).length := by
  unfold varL
  repeat' split
  all_goals simp
theorem writtenL_pos (f : Fr) : 0 < (writtenL f).length := by
  unfold writtenL
  repeat' split
  all_goals simp
theorem encL_pos {fs : List Fr} (h : EncOk fs) : 0 < (encL fs).length := by
  cases fs with
  | nil => have := h.1; simp at this
  | cons f fs =>
    have := writtenL_pos f
    simp only [encL, List.length_append]
    omega
end Go.Proofs.YtjnmokmchdfchaaDoor
