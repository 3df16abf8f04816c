import Derived.Test.YtjnmokmchdfchaaDoorZSip
import Derived.Test.YtjnmokmchdfchaaDoorZBase
namespace Go.Proofs.YtjnmokmchdfchaaDoor
open Go.RowKit

set_option maxHeartbeats 1000000 in
set_option maxRecDepth 100000 in
theorem refRound_any (a b c d : Int) (w : World) (_wa : W64 a) (wb : W64 b) (_wc : W64 c) (wd : W64 d) : Calls Tryd.prog 31 #[.agg #[.int .u64 a, .int .u64 b, .int .u64 c, .int .u64 d]] w fun e w' =>
    e = .returned (.agg #[.int .u64 (rnd ⟨a, b, c, d⟩).a, .int .u64 (rnd ⟨a, b, c, d⟩).b, .int .u64 (rnd ⟨a, b, c, d⟩).c, .int .u64 (rnd ⟨a, b, c, d⟩).d]) ∧ w.grownBy w' none := by
  go_enter Tryd.func31, Tryd.ntmps31
  go_wp2_with fail
  refine (turn_any _ 13 _ wb (by decide)).mono ?_
  rintro e w' ⟨rfl, rfl⟩
  go_wp2_with fail
  refine (turn_any _ 32 _ (ad_w _ _) (by decide)).mono ?_
  rintro e w' ⟨rfl, rfl⟩
  go_wp2_with fail
  refine (turn_any _ 16 _ wd (by decide)).mono ?_
  rintro e w' ⟨rfl, rfl⟩
  have w3 := xo_w (rotl_w wd 16) (ad_w c d)
  go_wp2_with fail
  refine (turn_any _ 21 _ w3 (by decide)).mono ?_
  rintro e w' ⟨rfl, rfl⟩
  have w1 := xo_w (rotl_w wb 13) (ad_w a b)
  go_wp2_with fail
  refine (turn_any _ 17 _ w1 (by decide)).mono ?_
  rintro e w' ⟨rfl, rfl⟩
  go_wp2_with fail
  refine (turn_any _ 32 _ (ad_w _ _) (by decide)).mono ?_
  rintro e w' ⟨rfl, rfl⟩
  go_wp2_with fail
  refine bodyPost_ret (v := .agg #[.int .u64 (rnd ⟨a, b, c, d⟩).a, .int .u64 (rnd ⟨a, b, c, d⟩).b, .int .u64 (rnd ⟨a, b, c, d⟩).c, .int .u64 (rnd ⟨a, b, c, d⟩).d]) ?_ rfl ⟨rfl, ?_⟩
  · simp [results, Tryd.results31, go_sem, rnd, ad, xo]
  · exact gb_alloc (gb_alloc (World.grownBy.refl _ _) _) _
end Go.Proofs.YtjnmokmchdfchaaDoor
