import Derived.Test.YtjnmokmchdfchaaDoorSRow
import Derived.Test.YtjnmokmchdfchaaDoorTie
import Derived.Test.YtjnmokmchdfchaaDoorCards
import Derived.SevenTiedAt
namespace Go.Proofs.YtjnmokmchdfchaaDoor
open Go

theorem sealed_plain (f : FuncId) (fn : Func) (hf : Tryd.pinned.checked.prog.funcNamed "sealstream/sealstreamlaw.Sealed" = some f) (hfn : Tryd.pinned.checked.prog.funcs[f]? = some fn) :
    true = Tryd.pinned.checked.prog.looks [] ∧ ∀ (j : Nat) t, fn.params[j]? = some t → Tryd.pinned.checked.prog.wantsStandIn t = false := by
  obtain rfl : f = 4 := Option.some.inj ((show Tryd.prog.funcNamed "sealstream/sealstreamlaw.Sealed" = some 4 by kernel_rfl).symm.trans hf) |>.symm
  obtain rfl : fn = Tryd.f4 := (Option.some.inj (Tryd.func4.symm.trans hfn)).symm
  refine ⟨by kernel_rfl, fun j t ht => ?_⟩
  rw [Tryd.params4] at ht
  have h := Array.mem_of_getElem? ht
  simp only [List.mem_toArray, List.mem_cons, List.not_mem_nil, or_false] at h
  rcases h with rfl | rfl | rfl | rfl | rfl
  · exact (show Tryd.prog.wantsStandIn 32 = false by kernel_rfl)
  · exact (show Tryd.prog.wantsStandIn 4 = false by kernel_rfl)
  · exact (show Tryd.prog.wantsStandIn 33 = false by kernel_rfl)
  · exact (show Tryd.prog.wantsStandIn 9 = false by kernel_rfl)
  · exact (show Tryd.prog.wantsStandIn 3 = false by kernel_rfl)

theorem sealed_holds : Rows.SealedCardSaid :=
  Claim7.holds_tied_plain_at .later [] _ _ _ _ sealed_said (fun _ h => by cases h) (by kernel_rfl) (fun _ h => by cases h) sealed_row_tie rfl ⟨rfl, rfl⟩ (by kernel_rfl) rfl sealed_plain (by kernel_rfl)
end Go.Proofs.YtjnmokmchdfchaaDoor
