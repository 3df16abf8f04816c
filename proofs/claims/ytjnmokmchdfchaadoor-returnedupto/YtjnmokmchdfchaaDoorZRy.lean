import Derived.Test.YtjnmokmchdfchaaDoorZCo
import Derived.Test.YtjnmokmchdfchaaDoorZRx
import Derived.Test.YtjnmokmchdfchaaDoorZSKey
import Derived.Test.YtjnmokmchdfchaaDoorTie
import Derived.Test.YtjnmokmchdfchaaDoorCards
import Derived.SevenTiedAt
import Derived.Carry
import Derived.Deep.DeepHandedRow
namespace Go.Proofs.YtjnmokmchdfchaaDoor
open Go.ChangeShapes Go.WideShapes Go.RowKit

theorem laidOutP : laidOutB Tryd.prog = true := by kernel_rfl
def zeroKey : Array Value := #[.int .u8 0, .int .u8 0, .int .u8 0, .int .u8 0, .int .u8 0, .int .u8 0, .int .u8 0, .int .u8 0, .int .u8 0, .int .u8 0, .int .u8 0, .int .u8 0, .int .u8 0, .int .u8 0, .int .u8 0, .int .u8 0]
theorem reads_returned (os : Os) {H : Type} (enc : TypeId × Value → H) : ∃ ds places, DataW.whole enc Tryd.prog ((laidWorld os).forCall (fun _ _ => 0) ⟨#[], #[.slice none 0 0, .agg zeroKey, .bool true, .int .u64 0, .int .i64 0], []⟩).memory Tryd.f5.params.toList Rows.returnedSpec.vars false #[Value.slice none 0 0, .agg zeroKey, .bool true, .int .u64 0, .int .i64 0].toList 8 = some (ds, [], places) ∧ Rows.uptoSmall H (ds ++ []) = true :=
  ⟨[.nil, .agg [.lit (.int .u8 0), .lit (.int .u8 0), .lit (.int .u8 0), .lit (.int .u8 0), .lit (.int .u8 0), .lit (.int .u8 0), .lit (.int .u8 0), .lit (.int .u8 0), .lit (.int .u8 0), .lit (.int .u8 0), .lit (.int .u8 0), .lit (.int .u8 0), .lit (.int .u8 0), .lit (.int .u8 0), .lit (.int .u8 0), .lit (.int .u8 0)], .lit (.bool true), .lit (.int .u64 0), .lit (.int .i64 0)], [], by kernel_rfl, by kernel_rfl⟩
theorem below_of_gb {W W' : World} (g : W.grownBy W' none) : Below W.heap.size W W' := (Below.refl _ W).grown g (Nat.le_refl _) (fun k h => by cases h)

set_option maxRecDepth 100000 in
theorem returned_lifted (os : Os) (started : os.Started) (H : Type) (enc : TypeId × Value → H) (F : Stop.Interp) :
    ReturnsInHanded {} Tryd.checked os 5 .any ((Rows.OpenSpec.upto Rows.returnedSpec).preRow enc Tryd.prog Tryd.f5 Rows.returnedUptoRow.domain false Rows.returnedUptoRow.laid)
      (((Rows.OpenSpec.upto Rows.returnedSpec).at F).post enc Tryd.prog Tryd.f5 false true false false) := by
  obtain ⟨ds, places, hx, hsm⟩ := reads_returned os enc
  refine returnsInHanded_of_row (C := Tryd.checked) (s := Rows.OpenSpec.upto Rows.returnedSpec) own_knob started (by kernel_rfl) Tryd.func5
    (witness_row_at (enc := enc) (C := Tryd.checked) false (laidWorld os) #[.slice none 0 0, .agg zeroKey, .bool true, .int .u64 0, .int .i64 0] rfl (by kernel_rfl) (by kernel_rfl) (by kernel_rfl)
      (OpenSpec.preRow_of_cond 8 hx (by kernel_rfl) (fun k hk => by cases hk; exact hsm) (by kernel_rfl) (laidWorld_met os _))) ?_
  clear hx hsm ds places
  intro W base args ds gs before hval0 hW _ hcond _ hL _ _
  have hval : ∀ (j : Nat) t v, Tryd.f5.params[j]? = some t → args[j]? = some v → Value.okWide Tryd.prog W .any base t v := hval0
  have hW' := hW
  obtain ⟨p, q, hA0, hV0, rfl, hfz, hnd⟩ := hW
  have hA : DataW.TrodAll enc Tryd.prog W 0 (fun _ => true) true Tryd.f5.params.toList args.toList ds p := hA0
  have hV : DataW.TrodVars enc Tryd.prog W (fun _ => true) [] gs q := hV0
  rw [Tryd.params5] at hA hval
  obtain ⟨v0, vs0, d0, ds0, p0, q0, hargs0, rfl, rfl, h0, r0⟩ := trodAll_cons hA
  obtain ⟨v1, vs1, d1, ds1, p1, q1, rfl, rfl, rfl, h1, r1⟩ := trodAll_cons r0
  obtain ⟨v2, vs2, d2, ds2, p2, q2, rfl, rfl, rfl, h2, r2⟩ := trodAll_cons r1
  obtain ⟨v3, vs3, d3, ds3, p3, q3, rfl, rfl, rfl, h3, r3⟩ := trodAll_cons r2
  obtain ⟨v4, vs4, d4, ds4, p4, q4, rfl, rfl, rfl, h4, r4⟩ := trodAll_cons r3
  obtain ⟨rfl, rfl, rfl⟩ := trodAll_nil r4
  obtain rfl : args = #[v0, v1, v2, v3, v4] := by cases args; simp_all
  obtain ⟨rfl, rfl⟩ := trodVars_none hV
  have hk0 := hcond _ rfl
  have hk : Rows.uptoBulkAll ([d0, d1, d2, d3, d4] ++ []) ≤ 1048576 := of_decide_eq_true hk0
  clear hk0 hcond
  have v0ok := hval 0 _ v0 rfl rfl
  obtain ⟨a, n, cap, rfl⟩ := okWide_slice Tryd.underlying22 v0ok
  obtain ⟨key, hkey, rfl, rfl, sk⟩ := open_key (hval 1 _ v1 rfl rfl) h1
  obtain ⟨f, rfl, rfl, rfl⟩ := open_bool Tryd.underlying4 (hval 2 _ v2 rfl rfl) h2
  obtain ⟨num, rfl, rfl, rfl, wn⟩ := open_int Tryd.underlying33 (hval 3 _ v3 rfl rfl) h3
  obtain ⟨k, rfl, rfl, rfl, wk⟩ := open_int Tryd.underlying3 (hval 4 _ v4 rfl rfl) h4
  have hspot : ∀ y, a = some y → y.spot = none := fun y hy => by
    subst hy
    simp only [Value.okWide, Cell.okWide, Cell.ok] at v0ok
    exact v0ok.2.2.2.1
  obtain ⟨fuel, hf⟩ := id h0
  obtain ⟨fs, hFS, hbk⟩ := open_frames hspot (by simpa [Value.cells] using hf)
  have hbk2 : bulkL fs ≤ 30000000 := by
    simp only [List.append_nil, Rows.uptoBulkAll] at hk
    have : Rows.uptoBulk (d0, p0).1 = Rows.uptoBulk d0 := rfl
    omega
  have hlt : ∀ x ∈ p0, x.block < W.heap.size := fun x hx => by simpa using hW'.lt x (by simp [hx])
  have walk := law_returned W a n cap fs key f num k hFS hbk2 (laid_of hL) hkey (u64_of wn) (i64_of wk).1 (i64_of wk).2
  refine walk.mono fun e W' ⟨he, hg⟩ => ?_
  subst he
  refine ⟨_, rfl, _, _, _, [], p0, [], hW', ?_, ?_, ?_, kept_of_gb hg _, fun h => by cases h⟩
  · exact trodAll_cons_mk (shut_bool Tryd.underlying4 true) trodAll_mk0
  · have := trodAll_cons_mk (p := p0) (Below.trod laidOutP (by kernel_rfl) (of_decide_eq_true (by kernel_rfl)) h0 (below_of_gb hg) hlt) (trodAll_cons_mk (p := []) (sk _ _ _ _) (trodAll_cons_mk (p := []) (shut_bool Tryd.underlying4 f) (trodAll_cons_mk (p := []) (shut_int Tryd.underlying33 wn) (trodAll_cons_mk (p := []) (shut_int Tryd.underlying3 wk) trodAll_mk0))))
    simp only [List.append_nil] at this
    exact this
  · rfl

theorem returned_said : Rows.ReturnedUptoSaid :=
  OpenClaim.holds_of_cond 5 Tryd.f5 rfl rfl rfl rfl rfl rfl rfl ⟨rfl, rfl, rfl, rfl, rfl⟩ rfl rfl rfl rfl rfl (by kernel_rfl) Tryd.func5 (by kernel_rfl)
    (of_decide_eq_true (by kernel_rfl)) (by unfold Func.isWrapper; rw [if_neg (of_decide_eq_false (by kernel_rfl))]; exact ⟨rfl, rfl⟩)
    (fun os started H enc _ F => by rw [OpenClaim.pre_eq_preRow]; exact returned_lifted os started H enc F)

theorem returned_plain (f : FuncId) (fn : Func) (hf : Tryd.pinned.checked.prog.funcNamed "sealstream/sealstreamkeep.Returned" = some f) (hfn : Tryd.pinned.checked.prog.funcs[f]? = some fn) :
    true = Tryd.pinned.checked.prog.looks [] ∧ ∀ (j : Nat) t, fn.params[j]? = some t → Tryd.pinned.checked.prog.wantsStandIn t = false := by
  obtain rfl : f = 5 := Option.some.inj ((show Tryd.prog.funcNamed "sealstream/sealstreamkeep.Returned" = some 5 by kernel_rfl).symm.trans hf) |>.symm
  obtain rfl : fn = Tryd.f5 := (Option.some.inj (Tryd.func5.symm.trans hfn)).symm
  refine ⟨by kernel_rfl, fun j t ht => ?_⟩
  rw [Tryd.params5] at ht
  have h := Array.mem_of_getElem? ht
  simp only [List.mem_toArray, List.mem_cons, List.not_mem_nil, or_false] at h
  rcases h with rfl | rfl | rfl | rfl | rfl
  · exact (show Tryd.prog.wantsStandIn 22 = false by kernel_rfl)
  · exact (show Tryd.prog.wantsStandIn 32 = false by kernel_rfl)
  · exact (show Tryd.prog.wantsStandIn 4 = false by kernel_rfl)
  · exact (show Tryd.prog.wantsStandIn 33 = false by kernel_rfl)
  · exact (show Tryd.prog.wantsStandIn 3 = false by kernel_rfl)

theorem returnedUpto_holds : Rows.ReturnedUptoCardSaid :=
  Claim7.holds_tied_plain_at .later [] _ _ _ _ returned_said (fun _ h => by cases h) (by kernel_rfl) (fun _ h => by cases h) returnedUpto_row_tie rfl ⟨rfl, rfl⟩ (by kernel_rfl) rfl returned_plain (by kernel_rfl)
end Go.Proofs.YtjnmokmchdfchaaDoor
