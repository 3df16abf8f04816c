import Derived.ChangeMaps5
import Derived.ChangeSame
import Derived.ChangeVars
import Derived.Deep.SlicePairs
import Derived.JoinedOf
import Derived.LaidHandle
import Derived.LaidLaws
import Derived.OpenShut
import Derived.RowKit
import Derived.Stop.Joined
import Derived.Test.YtjnmokmchdfchaaGreatDoorRows
import Derived.Test.YtjnmokmchdfchaaGreatDoorZWs
set_option maxRecDepth 1000000
set_option maxHeartbeats 0
set_option linter.all false
namespace Go.Proofs.YtjnmokmchdfchaaGreatDoor
open Go.ChangeShapes Go.WideShapes Go.RowKit Go.Deep Tryz Go.Proofs.Tryz
theorem Nc:ownKnob prog.godebug=none:=by kernel_rfl
theorem Nd:prog.globalNamed "errors.errorType" =some 0:=by kernel_rfl
theorem Nf:(prog.cutTypes.find? (·.1== "internal/reflectlite.rtype")).map (·.2)=some 273:=by kernel_rfl
theorem Ng:((List.range (543-100)).filter λt=>prog.rowNamed t [101,114,114,111,114])=[97]:=by kernel_rfl
theorem Nh:prog.types.size=543-100:=by kernel_rfl
theorem Ni{W:World}(h:laidMetH prog [("errors.errorType",Rows.laid_errors_errorType)] W):Laid W:=by
 have c:laidMet prog [] W/\handlesMet prog [("errors.errorType",Rows.laid_errors_errorType)] W:=h;obtain⟨name,u,ty,e1,e2,d,e,a⟩:=c.2 _ (dB.2 rfl);have en:name=[101,114,114,111,114]:=(aJ e1).symm;subst en;obtain rfl:=aJ (Nf.symm.trans e2);have b:ty∈(List.range (543-100)).filter λt=>prog.rowNamed t [101,114,114,111,114]:=jR.2 ⟨mJ.2 (by rw[<-Nh];exact d),e⟩
 rw[Ng]at b;obtain rfl:=dB.1 b;have f:typeHandle prog 97=.pointer (some ⟨1,97,none⟩):=by kernel_rfl
 rw[f]at a;have:=World.var?_cell Nd a 0;simpa [Laid]using this
theorem Nj(os:Os)(args:Array Value):laidMetH prog [("errors.errorType",Rows.laid_errors_errorType)] (({World.holding prog os ⟨#[],#[],[]⟩with heap:=(World.holding prog os ⟨#[],#[],[]⟩).heap.modify 0 λ|.cells _ t frozen=>.cells #[.iface 273 (.agg #[.pointer (some ⟨1,97,none⟩)])] t frozen|o=>o}:World).forCall (λ_ _=>0) ⟨#[],args,[]⟩).memory:=
 laidMetH_of_parts (laidMet_nil _ _) (by kernel_rfl)
theorem Nk{w a:World}(g:w.grownBy a none)(may:MemPlace->Prop):w.keptBut a may:=by
 refine⟨g.os,g.output,λi hi=>?_⟩
 rw[g.block i hi (by simp)];cases h:w.heap[i]? with
 |none=>rfl
 |some o=>cases o<;>simp
theorem tm{z:Int}(h:(Lit.int .i64 z).wf=true):gC z:=by
 simp[Lit.wf,IntKind.min,IntKind.max,IntKind.bits,IntKind.signed]at h;unfold gC;omega
theorem Nl:prog.cellsOf 3=1:=by kernel_rfl
theorem Nm:prog.cellsOf 9=1:=by kernel_rfl
section
variable {H:Type} {enc:TypeId×Value->H} {w:World}
theorem Nn{e:TypeId}{d:DataW H}{a:Nat}(i:a∈d.weights prog e):∀{l:List (DataW H)},d∈l->a∈DataW.weightsAll prog e l:=by
 intro l;induction l with
 |nil=>intro h;cases h
 |cons c l b=>
  intro h;simp only[DataW.weightsAll,List.mem_append]
  obtain rfl|h:=eJ.1 h
  exact .inl i;exact .inr (b h)
end
