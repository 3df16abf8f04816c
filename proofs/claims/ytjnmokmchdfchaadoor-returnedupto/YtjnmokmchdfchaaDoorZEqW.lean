import Derived.Test.YtjnmokmchdfchaaDoorZPS2
import Derived.Test.YtjnmokmchdfchaaDoorZRSeal2
import Derived.Laws.StructEq
namespace Go.Proofs.YtjnmokmchdfchaaDoor
open Go.RowKit
theorem eqW (x0 x1 x2 x3 x4 x5 x6 x7 y0 y1 y2 y3 y4 y5 y6 y7 : Int) (w : World) : (Op.equalIn 10000 117 (.agg #[.int .u8 x0, .int .u8 x1, .int .u8 x2, .int .u8 x3, .int .u8 x4, .int .u8 x5, .int .u8 x6, .int .u8 x7]) (.agg #[.int .u8 y0, .int .u8 y1, .int .u8 y2, .int .u8 y3, .int .u8 y4, .int .u8 y5, .int .u8 y6, .int .u8 y7])).run Tryd.prog w = .ok (decide ([x0, x1, x2, x3, x4, x5, x6, x7] = [y0, y1, y2, y3, y4, y5, y6, y7])) w := by
  have u3 := Tryd.underlying5
  have a3 := Tryd.isAgg5
  have z3 := Tryd.sizeOf5
  rw [show (10000 : Nat) = 9999 + 1 from rfl, Op.equalIn]
  simp only [Sem.run_bind, run_underlying Tryd.underlying117, Result.andThen_ok]
  simp only [Std.Legacy.Range.forIn_eq_forIn_range', Std.Legacy.Range.size, Nat.sub_zero, Nat.add_sub_cancel, Nat.div_one, List.range'_succ, List.range'_zero, List.forIn_cons, List.forIn_nil]
  by_cases h0 : x0 = y0
  case neg => go_simp
  by_cases h1 : x1 = y1
  case neg => go_simp
  by_cases h2 : x2 = y2
  case neg => go_simp
  by_cases h3 : x3 = y3
  case neg => go_simp
  by_cases h4 : x4 = y4
  case neg => go_simp
  by_cases h5 : x5 = y5
  case neg => go_simp
  by_cases h6 : x6 = y6
  case neg => go_simp
  by_cases h7 : x7 = y7
  case neg => go_simp
  subst h0 h1 h2 h3 h4 h5 h6 h7
  go_simp
end Go.Proofs.YtjnmokmchdfchaaDoor
