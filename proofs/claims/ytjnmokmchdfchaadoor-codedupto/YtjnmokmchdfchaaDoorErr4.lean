import Derived.Test.YtjnmokmchdfchaaDoorErr3
import Derived.Lib.IfaceEq
namespace Go.Proofs.YtjnmokmchdfchaaDoor
open Go.RowKit Go.Extern.Stop Go.Stop Go.Extern
theorem comparableE (w : World) : (ReflectliteType.method (fun t => do Rtype.noPackHeld "Comparable" t; (fun a => Value.bool a.comparable) <$> typeInfo t) #[.agg #[.pointer (some ⟨1, 24, none⟩)]]).run Tryd.prog w = .ok (.bool true) w := by kernel_rfl
theorem cmpE : (Tryd.prog.info? 24).map (·.comparable) = some true := by kernel_rfl
theorem eqlE (a b : Int) (w : World) : (binOp .eql 50 (.iface 24 (.int .i64 a)) (.iface 24 (.int .i64 b))).run Tryd.prog w = .ok (.bool (a == b)) w :=
  Lib.run_eql_iface_int w a b Tryd.underlying50 cmpE Tryd.underlying24
set_option maxRecDepth 100000 in
set_option maxHeartbeats 4000000 in
theorem isE (n : Int) (w : World) :
    Calls Tryd.prog 42 #[.iface 24 (.int .i64 n), .iface 24 (.int .i64 n)] w fun ev w' => ev = .returned (.bool true) ∧ w' = w := by
  have h10 := @run_callFunc_extern Tryd.prog 65 _ (ReflectliteType.typeOf) Tryd.func65 (by kernel_rfl) (by kernel_rfl) (by kernel_rfl) (by kernel_rfl)
  have hc := @run_callFunc_extern Tryd.prog 130 _ (ReflectliteType.method (fun t => do Rtype.noPackHeld "Comparable" t; pure (.bool (← typeInfo t).comparable))) Tryd.func130 (by kernel_rfl) (by kernel_rfl) (by kernel_rfl) (by kernel_rfl)
  have f1 := typeOfE
  have f2 := methodComparable
  have f3 := comparableE
  have f4 := eqlE n n
  simp only [beq_self_eq_true] at f4
  go_enter Tryd.func42, Tryd.ntmps42
  go_wp2
  refine wp_loop_rounds 1 ?_
  rw [rounds_succ]
  go_wp2
  go_ret
  exact ⟨rfl, rfl⟩
theorem told_nil (w : World) : Calls Tryd.prog 26 #[.nilIface] w fun ev w' => ev = .returned (.tuple #[.int .i64 0, .int .i64 (-1)]) ∧ w.grownBy w' none := by
  go_enter Tryd.func26, Tryd.ntmps26
  go_wp2
  go_ret2
  exact ⟨rfl, gb_alloc (gb_alloc (World.grownBy.refl _ _) _) _⟩
set_option maxRecDepth 100000 in
set_option maxHeartbeats 1000000 in
theorem told_errno (n : Int) (w : World) (hg : Laid w) : Calls Tryd.prog 26 #[.iface 24 (.int .i64 n)] w fun ev w' => ev = .returned (.tuple #[.int .i64 n, .int .i64 (-1)]) ∧ w.grownBy w' none := by
  go_enter Tryd.func26, Tryd.ntmps26
  go_wp2_with fail
  refine (as_missE n _ _ ((hg.alloc _).alloc _)).mono ?_
  rintro e w1 ⟨rfl, g1⟩
  have c1 : w1.cell? ⟨w.heap.size + 1, 0, none⟩ = some (.int .i64 0) := g1.cell (by simp) (by simp)
  have z1 : w1.frozen? ⟨w.heap.size + 1, 0, none⟩ = false := by rw [World.frozen?_of_block (w := (w.alloc (.cells #[.pointer none] 74)).alloc (.cells #[.int .i64 0] 24)) (g1.block _ (by simp) (by simp))]; simp
  go_wp2_with fail
  refine (as_hitE n _ _ _ (((hg.alloc _).alloc _).gb g1 (by simp)) c1 z1).mono ?_
  rintro e w2 ⟨rfl, c2, g2⟩
  go_wp2_with fail
  refine (isE n _).mono ?_
  rintro e w3 ⟨rfl, rfl⟩
  go_wp2
  go_ret2
  refine ⟨rfl, ?_⟩
  have g0 : w.grownBy w1 none := gb_trans (gb_alloc (gb_alloc (World.grownBy.refl w none) _) _) g1
  exact gb_trans' g0 g2 (fun j e => by cases e; left; simp)
theorem number_nil (w : World) : Calls Tryd.prog 21 #[.nilIface] w fun ev w' => ev = .returned (.int .i64 0) ∧ w.grownBy w' none := by
  go_enter Tryd.func21, Tryd.ntmps21
  go_wp2_with fail
  refine (told_nil _).mono ?_
  rintro e w1 ⟨rfl, g1⟩
  go_wp2
  go_ret
  exact ⟨rfl, g1⟩
theorem number_errno (n : Int) (w : World) (hg : Laid w) : Calls Tryd.prog 21 #[.iface 24 (.int .i64 n)] w fun ev w' => ev = .returned (.int .i64 n) ∧ w.grownBy w' none := by
  go_enter Tryd.func21, Tryd.ntmps21
  go_wp2_with fail
  refine (told_errno n _ hg).mono ?_
  rintro e w1 ⟨rfl, g1⟩
  go_wp2
  go_ret
  exact ⟨rfl, g1⟩
end Go.Proofs.YtjnmokmchdfchaaDoor
