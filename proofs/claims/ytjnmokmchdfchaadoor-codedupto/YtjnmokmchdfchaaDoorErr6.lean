import Derived.Test.YtjnmokmchdfchaaDoorErr5
import Derived.Deep.QuietTactic
namespace Go.Proofs.YtjnmokmchdfchaaDoor
open Go.RowKit Go.Extern.Stop Go.Stop Go.Extern
theorem noIsF (v : Value) (xT : TypeId) (w : World) : (Instr.typeAssert (.iface 74 v) xT 148 true).run Tryd.prog w = .ok (.tuple #[.nilIface, .bool false]) w := run_typeAssert_lacksB Tryd.underlying148 (by kernel_rfl) (by kernel_rfl) v xT w
theorem hasUnF (v : Value) (xT : TypeId) (w : World) : (Instr.typeAssert (.iface 74 v) xT 143 true).run Tryd.prog w = .ok (.tuple #[.iface 74 v, .bool true]) w := run_typeAssert_hasB Tryd.underlying143 (by kernel_rfl) v xT w
theorem methodUn (v : Value) (w : World) : (Go.method 287 74 v "Unwrap").run Tryd.prog w = .ok (124, v) w := by kernel_rfl
set_option maxRecDepth 100000 in
set_option maxHeartbeats 4000000 in
theorem isF (F : Nat) (n : Int) (w : World) (hF : w.cell? ⟨F, 0, none⟩ = some (.int .i64 n)) :
    Calls Tryd.prog 42 #[.iface 74 (.pointer (some ⟨F, 0, none⟩)), .iface 24 (.int .i64 n)] w fun ev w' => ev = .returned (.bool true) ∧ w' = w := by
  have h10 := @run_callFunc_extern Tryd.prog 65 _ (ReflectliteType.typeOf) Tryd.func65 (by kernel_rfl) (by kernel_rfl) (by kernel_rfl) (by kernel_rfl)
  have hc := @run_callFunc_extern Tryd.prog 130 _ (ReflectliteType.method (fun t => do Rtype.noPackHeld "Comparable" t; pure (.bool (← typeInfo t).comparable))) Tryd.func130 (by kernel_rfl) (by kernel_rfl) (by kernel_rfl) (by kernel_rfl)
  have f1 := typeOfE
  have f2 := methodComparable
  have f3 := comparableE
  have f4 := eqlE n n
  simp only [beq_self_eq_true] at f4
  have hty := run_eql_iface_types (P := Tryd.prog) 74 24 (.pointer (some ⟨F, 0, none⟩)) (.int .i64 n) Tryd.underlying50 (by decide) w
  have g1 := noIsF
  have g2 := hasUnF
  have g3 := methodUn
  go_enter Tryd.func42, Tryd.ntmps42
  go_wp2
  refine wp_loop_rounds 2 ?_
  rw [rounds_succ]
  go_wp2
  rw [rounds_succ]
  go_wp2
  go_ret
  exact ⟨rfl, rfl⟩
set_option maxRecDepth 100000 in
set_option maxHeartbeats 1000000 in
theorem told_fault (F : Nat) (n p : Int) (w : World) (hg : Laid w) (hF : w.heap[F]? = some (.cells #[.int .i64 n, .int .i64 p] 79 (0, 0))) :
    Calls Tryd.prog 26 #[.iface 74 (.pointer (some ⟨F, 0, none⟩))] w fun ev w' => ev = .returned (.tuple #[.int .i64 n, .int .i64 p]) ∧ w.grownBy w' none := by
  have hFl : F < w.heap.size := (Array.getElem?_eq_some_iff.1 hF).1
  go_enter Tryd.func26, Tryd.ntmps26
  go_wp2_with fail
  refine (as_hitF _ _ (.pointer none) _ ((hg.alloc _).alloc _) (by rw [World.cell?_alloc_lt _ _ ⟨w.heap.size, 0, none⟩ (by simp)]; simp) (by rw [World.frozen?_alloc_old _ _ ⟨w.heap.size, 0, none⟩ (by simp)]; simp)).mono ?_
  rintro e w1 ⟨rfl, c1, g1⟩
  have hF1 : w1.heap[F]? = some (.cells #[.int .i64 n, .int .i64 p] 79 (0, 0)) := by
    rw [g1.block F (by simp; omega) (by simp; omega)]
    exact ((gb_alloc (gb_alloc (World.grownBy.refl w none) _) _).block F hFl (by simp)).trans hF
  have c0 : w1.cell? ⟨F, 0, none⟩ = some (.int .i64 n) := by simp [World.cell?, hF1]
  have c2 : w1.cell? ⟨F, 1, none⟩ = some (.int .i64 p) := by simp [World.cell?, hF1]
  go_wp2_with fail
  refine (isF F n _ c0).mono ?_
  rintro e w3 ⟨rfl, rfl⟩
  go_wp2_with fail
  go_quiet (fail)
  go_wp2_with fail
  go_ret2
  refine ⟨rfl, ?_⟩
  have g0 : w.grownBy ((w.alloc (.cells #[.pointer none] 74)).alloc (.cells #[.int .i64 0] 24)) none := gb_alloc (gb_alloc (World.grownBy.refl w none) _) _
  exact gb_drewN (gb_trans' g0 g1 (fun j e => by cases e; left; simp)) _
end Go.Proofs.YtjnmokmchdfchaaDoor
