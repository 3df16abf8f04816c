import Derived.Test.YtjnmokmchdfchaaDoorCo
import Derived.Test.YtjnmokmchdfchaaDoorLe
import Derived.Test.YtjnmokmchdfchaaDoorTie
import Derived.Test.YtjnmokmchdfchaaDoorCards
import Derived.SevenTiedAt
import Derived.Carry
import Derived.Deep.DeepHandedRow
namespace Go.Proofs.YtjnmokmchdfchaaDoor
open Go.ChangeShapes Go.WideShapes Go.RowKit

theorem laidOutP : laidOutB Tryd.prog = true := by kernel_rfl
theorem reads_coded (os : Os) {H : Type} (enc : TypeId × Value → H) : ∃ places, DataW.whole enc Tryd.prog ((laidWorld os).forCall (fun _ _ => 0) ⟨#[], #[.slice none 0 0, .string ByteArray.empty], []⟩).memory Tryd.f3.params.toList Rows.codedSpec.vars false #[Value.slice none 0 0, .string ByteArray.empty].toList 8 = some ([.nil, .lit (.string [])], [], places) :=
  ⟨[], by kernel_rfl⟩
theorem below_of_gb {W W' : World} (g : W.grownBy W' none) : Below W.heap.size W W' := (Below.refl _ W).grown g (Nat.le_refl _) (fun k h => by cases h)

set_option maxRecDepth 100000 in
theorem coded_lifted (os : Os) (started : os.Started) (H : Type) (enc : TypeId × Value → H) (F : Stop.Interp) :
    ReturnsInHanded {} Tryd.checked os 3 .any ((Rows.OpenSpec.upto Rows.codedSpec).preRow enc Tryd.prog Tryd.f3 Rows.codedUptoRow.domain false Rows.codedUptoRow.laid)
      (((Rows.OpenSpec.upto Rows.codedSpec).at F).post enc Tryd.prog Tryd.f3 false true false false) := by
  obtain ⟨places, hx⟩ := reads_coded os enc
  refine returnsInHanded_of_row (C := Tryd.checked) (s := Rows.OpenSpec.upto Rows.codedSpec) own_knob started (by kernel_rfl) Tryd.func3
    (witness_row_at (enc := enc) (C := Tryd.checked) false (laidWorld os) #[.slice none 0 0, .string ByteArray.empty] rfl (by kernel_rfl) (by kernel_rfl) (by kernel_rfl)
      (OpenSpec.preRow_of_cond 8 hx (by kernel_rfl) (fun k hk => by cases hk; kernel_rfl) (by kernel_rfl) (laidWorld_met os _))) ?_
  intro W base args ds gs before hval0 hW _ hcond _ hL _ _
  have hval : ∀ (j : Nat) t v, Tryd.f3.params[j]? = some t → args[j]? = some v → Value.okWide Tryd.prog W .any base t v := hval0
  have hW' := hW
  obtain ⟨p, q, hA0, hV0, rfl, hfz, hnd⟩ := hW
  have hA : DataW.TrodAll enc Tryd.prog W 0 (fun _ => true) true Tryd.f3.params.toList args.toList ds p := hA0
  have hV : DataW.TrodVars enc Tryd.prog W (fun _ => true) [] gs q := hV0
  rw [Tryd.params3] at hA hval
  obtain ⟨v0, vs0, d0, ds0, p0, q0, hargs0, rfl, rfl, h0, r0⟩ := trodAll_cons hA
  obtain ⟨v1, vs1, d1, ds1, p1, q1, rfl, rfl, rfl, h1, r1⟩ := trodAll_cons r0
  obtain ⟨rfl, rfl, rfl⟩ := trodAll_nil r1
  obtain rfl : args = #[v0, v1] := by cases args; simp_all
  obtain ⟨rfl, rfl⟩ := trodVars_none hV
  have hk0 := hcond _ rfl
  have hk : Rows.uptoBulkAll ([d0, d1] ++ []) ≤ 1048576 := of_decide_eq_true hk0
  clear hk0 hcond
  have v0ok := hval 0 _ v0 rfl rfl
  obtain ⟨a, n, cap, rfl⟩ := okWide_slice Tryd.underlying22 v0ok
  obtain ⟨b, rfl, rfl, rfl, wb⟩ := Go.ChangeMaps.open_string Tryd.underlying9 (hval 1 _ v1 rfl rfl) h1
  have hspot : ∀ y, a = some y → y.spot = none := fun y hy => by
    subst hy
    simp only [Value.okWide, Cell.okWide, Cell.ok] at v0ok
    exact v0ok.2.2.2.1
  obtain ⟨fuel, hf⟩ := id h0
  obtain ⟨fs, hFS, hbk⟩ := open_frames hspot (by simpa [Value.cells] using hf)
  have hbk2 : bulkL fs ≤ 30000000 := by
    simp only [List.append_nil, Rows.uptoBulkAll] at hk
    have : Rows.uptoBulk (d0, p0).1 = Rows.uptoBulk d0 := rfl
    omega
  have hlt : ∀ x ∈ p0, x.block < W.heap.size := fun x hx => by simpa using hW'.lt x (by simp [hx])
  have hn63 : n ≤ 9223372036854775807 := by have := hFS.2.1; have := hFS.2.2.1; unfold maxLen at this; omega
  have walk : Calls Tryd.prog 3 #[.slice a n cap, .string b] W fun e w' => e = .returned (.bool true) ∧ W.grownBy w' none := by
    by_cases hb : b.size ≤ 16384 ∧ n ≤ 1000
    · exact law_coded W a n cap fs b hFS hbk2 (laid_of hL) hb.2 hb.1
    · refine (law_codedBig W a n cap b hn63 (by omega)).mono ?_
      rintro e w' ⟨rfl, rfl⟩
      exact ⟨rfl, World.grownBy.refl _ _⟩
  refine walk.mono fun e W' ⟨he, hg⟩ => ?_
  subst he
  refine ⟨_, rfl, _, _, _, [], p0, [], hW', ?_, ?_, ?_, kept_of_gb hg _, fun h => by cases h⟩
  · exact trodAll_cons_mk (shut_bool Tryd.underlying4 true) trodAll_mk0
  · have := trodAll_cons_mk (p := p0) (Below.trod laidOutP (by kernel_rfl) (of_decide_eq_true (by kernel_rfl)) h0 (below_of_gb hg) hlt) (trodAll_cons_mk (p := []) (shut_str Tryd.underlying9 wb) trodAll_mk0)
    simp only [List.append_nil] at this
    exact this
  · rfl

theorem coded_said : Rows.CodedUptoSaid :=
  OpenClaim.holds_of_cond 3 Tryd.f3 rfl rfl rfl rfl rfl rfl rfl ⟨rfl, rfl, rfl, rfl, rfl⟩ rfl rfl rfl rfl rfl (by kernel_rfl) Tryd.func3 (by kernel_rfl)
    (of_decide_eq_true (by kernel_rfl)) (by unfold Func.isWrapper; rw [if_neg (of_decide_eq_false (by kernel_rfl))]; exact ⟨rfl, rfl⟩)
    (fun os started H enc _ F => by rw [OpenClaim.pre_eq_preRow]; exact coded_lifted os started H enc F)

theorem coded_plain (f : FuncId) (fn : Func) (hf : Tryd.pinned.checked.prog.funcNamed "sealstream/sealstreamlaw.Coded" = some f) (hfn : Tryd.pinned.checked.prog.funcs[f]? = some fn) :
    true = Tryd.pinned.checked.prog.looks [] ∧ ∀ (j : Nat) t, fn.params[j]? = some t → Tryd.pinned.checked.prog.wantsStandIn t = false := by
  obtain rfl : f = 3 := Option.some.inj ((show Tryd.prog.funcNamed "sealstream/sealstreamlaw.Coded" = some 3 by kernel_rfl).symm.trans hf) |>.symm
  obtain rfl : fn = Tryd.f3 := (Option.some.inj (Tryd.func3.symm.trans hfn)).symm
  refine ⟨by kernel_rfl, fun j t ht => ?_⟩
  rw [Tryd.params3] at ht
  have h := Array.mem_of_getElem? ht
  simp only [List.mem_toArray, List.mem_cons, List.not_mem_nil, or_false] at h
  rcases h with rfl | rfl
  · exact (show Tryd.prog.wantsStandIn 22 = false by kernel_rfl)
  · exact (show Tryd.prog.wantsStandIn 9 = false by kernel_rfl)

theorem codedUpto_holds : Rows.CodedUptoCardSaid :=
  Claim7.holds_tied_plain_at .later [] _ _ _ _ coded_said (fun _ h => by cases h) (by kernel_rfl) (fun _ h => by cases h) codedUpto_row_tie rfl ⟨rfl, rfl⟩ (by kernel_rfl) rfl coded_plain (by kernel_rfl)
end Go.Proofs.YtjnmokmchdfchaaDoor
