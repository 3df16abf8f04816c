import Derived.BigQuiet
import Derived.BigRegion
import Derived.Deep.DeepCutAuto
import Derived.Deep.DrawnRows
import Derived.Deep.Draws
import Derived.Deep.LoopGhost
import Derived.Deep.MidRow
import Derived.Deep.RegionHeld3
import Derived.Deep.RegionWith
import Derived.Laws.AppendOwn
import Derived.Laws.AppendOwnNone
import Derived.Laws.BitsAllLaws
import Derived.Laws.BytesArg
import Derived.Laws.CopyOwn
import Derived.Lib.ConvBytes
import Derived.Lib.LazyBuf
import Derived.Maps.AppendAt
import Derived.Outline
import Derived.OwnWalk
import Derived.Test.YtjnmokmchdfchaaGreatDoorProg
import Derived.WalkKit
import Derived.WalkLawsBesides
import Derived.WalkSpells
set_option maxRecDepth 1000000
set_option maxHeartbeats 0
set_option linter.all false
namespace Go.Proofs.YtjnmokmchdfchaaGreatDoor
open Go.RowKit Tryz
open Go.Value renaming int→ι,slice→σ,bool→β,pointer→π,agg→ε,string→ς,tuple→τ
open Go.IntKind renaming i64→δ,u64→η,u8→Δ
open Go.Ending renaming returned→ξ
open Go.Obj renaming cells→ο
open Or renaming inl→φ,inr→ψ
open Option renaming some→μ,none→ν
open Bool renaming true→ρ,false→θ
open Go renaming World→ω,Value→υ
open Go.World renaming grownBy→γ,cell?→κ,frozen?→χ,setCell→ζ
attribute[local go_sem↓]Go.wp_at_zero Go.wp_at_succ
variable{H:Act}{c:Array Value}{u:Exit->Act->World->Prop}{p q:Int}{K L:List Int}{b i j k n o:Nat}{U:Oper}{O a:Option Addr}{N:Option Nat}{T:TypeId}{x y z:Value}{V W v w:World}
def bD{A B:Prop}(a:A)(b:B):Hid A/\Hid B:=⟨a,b⟩
def cz{A B C:Prop}(a:A)(b:B)(c:C):Hid A/\Hid B/\Hid C:=⟨a,b,c⟩
def fE{A B C D:Prop}(a:A)(b:B)(c:C)(d:D):Hid A/\Hid B/\Hid C/\Hid D:=⟨a,b,c,d⟩
def fF{A B C D E:Prop}(a:A)(b:B)(c:C)(d:D)(e:E):Hid A/\Hid B/\Hid C/\Hid D/\Hid E:=⟨a,b,c,d,e⟩
def pH{A B C D E F:Prop}(a:A)(b:B)(c:C)(d:D)(e:E)(f:F):Hid A/\Hid B/\Hid C/\Hid D/\Hid E/\Hid F:=⟨a,b,c,d,e,f⟩
def iU{A B C D E F G:Prop}(a:A)(b:B)(c:C)(d:D)(e:E)(f:F)(g:G):Hid A/\Hid B/\Hid C/\Hid D/\Hid E/\Hid F/\Hid G:=⟨a,b,c,d,e,f,g⟩
def qT{A B C D E F G H:Prop}(a:A)(b:B)(c:C)(d:D)(e:E)(f:F)(g:G)(h:H):Hid A/\Hid B/\Hid C/\Hid D/\Hid E/\Hid F/\Hid G/\Hid H:=⟨a,b,c,d,e,f,g,h⟩
def qU{A B C D E F G H I:Prop}(a:A)(b:B)(c:C)(d:D)(e:E)(f:F)(g:G)(h:H)(i:I):Hid A/\Hid B/\Hid C/\Hid D/\Hid E/\Hid F/\Hid G/\Hid H/\Hid I:=⟨a,b,c,d,e,f,g,h,i⟩
def exq{α:Sort _}(e:α):∃a,a=e:=⟨_,rfl⟩
def fZ_{w:World}{b o:Nat}{c:Array Value}{t:TypeId}(h:w.heap[b]?=some (.cells c t (0,0))):w.frozen? ⟨b,o,none⟩=false:=by simp[World.frozen?,h]
def gC_{w W:World}{r:Option Nat}(g:w.grownBy W r){a:Addr}{v:Value}(h:w.cell? a=some v)(q:some a.block≠r:=by simp):W.cell? a=some v:=g.cell h q
def dT_{p:Prop}[Decidable p](h:p:=by omega):decide p=true:=decide_eq_true h
def dF_{p:Prop}[Decidable p](h:¬p:=by omega):decide p=false:=decide_eq_false h
def iP_{c:Prop}{i:Decidable c}(h:c:=by omega){α:Sort _}{a b:α}:ite c a b=a:=if_pos h
def iN_{c:Prop}{i:Decidable c}(h:¬c:=by omega){α:Sort _}{a b:α}:ite c a b=b:=if_neg h
def aN_{α:Type _}{c:Array α}{i j:Nat}{x:α}(h:i≠j:=by omega):(c.setIfInBounds i x)[j]?=c[j]? :=Array.getElem?_setIfInBounds_ne h
def tL_{α:Type _}{l:List α}{i:Nat}(h:l.length<=i:=by omega):l.take i=l:=List.take_of_length_le h
def dL_{α:Type _}{l:List α}{i:Nat}(h:l.length<=i:=by omega):l.drop i=[]:=List.drop_of_length_le h
def eN_{α:Type _}{l:List α}(h:l.length=0:=by omega):l=[]:=List.eq_nil_of_length_eq_zero h
def gR_{α:Type _}{l m:List α}{i:Nat}(h:l.length<=i:=by omega):(l++m)[i]?=m[i-l.length]? :=List.getElem?_append_right h
def wI_{x:Int}(h: -9223372036854775808<=x/\x<9223372036854775808:=by omega):IntKind.i64.wrap x=x:=by simp[IntKind.wrap,IntKind.bits,IntKind.signed];omega
def wU_{x:Int}(h:0<=x/\x<18446744073709551616:=by omega):IntKind.u64.wrap x=x:=by simp[IntKind.wrap,IntKind.bits,IntKind.signed];omega
def aB:type_of% @if_neg:=@if_neg
def aD:type_of% @World.grownBy.refl:=@World.grownBy.refl
def aG:type_of% @if_pos:=@if_pos
def aJ:type_of% @World.grownBy_alloc:=@World.grownBy_alloc
def aO:type_of% @heap_alloc_new:=@heap_alloc_new
def aP:type_of% @Nat.le_refl:=@Nat.le_refl
def aQ:type_of% @Option.some.inj:=@Option.some.inj
def bg:type_of% @Array.getElem?_eq_some_iff:=@Array.getElem?_eq_some_iff
def bF:type_of% @List.length_append:=@List.length_append
def bK:type_of% @Nat.le_trans:=@Nat.le_trans
def bL:type_of% @List.mem_append:=@List.mem_append
def cf:type_of% @Nat.le_succ:=@Nat.le_succ
def ct:type_of% @List.length_take:=@List.length_take
def cu:type_of% @Nat.lt_of_lt_of_le:=@Nat.lt_of_lt_of_le
def cA:type_of% @List.mem_singleton:=@List.mem_singleton
def cE:type_of% @Int.le_refl:=@Int.le_refl
def cS:type_of% @List.length_cons:=@List.length_cons
def dd:type_of% @List.length_map:=@List.length_map
def df:type_of% @bodyPost_ret:=@bodyPost_ret
def dC:type_of% @if_true:=@if_true
def dK:type_of% @Below.heap_setCell:=@Below.heap_setCell
def dO:type_of% @List.length_drop:=@List.length_drop
def dT:type_of% @List.getElem?_eq_getElem:=@List.getElem?_eq_getElem
def dY:type_of% @List.mem_cons:=@List.mem_cons
def eh:type_of% @World.size_alloc:=@World.size_alloc
def ep:type_of% @Nat.zero_add:=@Nat.zero_add
def eA:type_of% @if_false:=@if_false
def eN:type_of% @Bool.false_eq_true:=@Bool.false_eq_true
def eO:type_of% @List.mem_filter:=@List.mem_filter
def eT:type_of% @decide_eq_true:=@decide_eq_true
def eU:type_of% @List.mem_map:=@List.mem_map
def eZ:type_of% @World.block_lt_of_cell?:=@World.block_lt_of_cell?
def fc:type_of% @decide_eq_false:=@decide_eq_false
def fe:type_of% @results_none:=@results_none
def fm:type_of% @List.append_assoc:=@List.append_assoc
def fC:type_of% @List.mem_append_left:=@List.mem_append_left
def fD:type_of% @congrArg:=@congrArg
def fL:type_of% @Option.bind_some:=@Option.bind_some
def fM:type_of% @List.length_nil:=@List.length_nil
def fS:type_of% @Below.heap_alloc:=@Below.heap_alloc
def fW:type_of% @IntKind.wrap_u64:=@IntKind.wrap_u64
def gD:type_of% @bodyPost_end:=@bodyPost_end
def gQ:type_of% @AllReady.cons:=@AllReady.cons
def ir:type_of% @List.mem_append_right:=@List.mem_append_right
def iu:type_of% @Bool.and_eq_true:=@Bool.and_eq_true
def iH:type_of% @List.mem_of_mem_drop:=@List.mem_of_mem_drop
def jg:type_of% @List.mem_of_mem_take:=@List.mem_of_mem_take
def jh:type_of% @Result.andThen_ok:=@Result.andThen_ok
def ji:type_of% @AllReady.nil:=@AllReady.nil
def jk:type_of% @wpAny_ready:=@wpAny_ready
def jl:type_of% @Prod.mk.inj:=@Prod.mk.inj
def jm:type_of% @Nat.zero_le:=@Nat.zero_le
def jx:type_of% @List.take_of_length_le:=@List.take_of_length_le
def jy:type_of% @Value.slice.inj:=@Value.slice.inj
def jK:type_of% @List.getElem?_take:=@List.getElem?_take
def jL:type_of% @List.nil_append:=@List.nil_append
def j8:type_of% @List.mem_iff_getElem:=@List.mem_iff_getElem
def j9:type_of% @run_callFunc_extern:=@run_callFunc_extern
def ka:type_of% @Sem.run_bind:=@Sem.run_bind
def kJ:type_of% @List.eq_nil_of_length_eq_zero:=@List.eq_nil_of_length_eq_zero
def kK:type_of% @List.pairwise_cons:=@List.pairwise_cons
def kM:type_of% @List.map_cons:=@List.map_cons
def lz:type_of% @Array.getElem?_setIfInBounds:=@Array.getElem?_setIfInBounds
def lA:type_of% @List.getElem?_eq_some_iff:=@List.getElem?_eq_some_iff
def lC:type_of% @List.getElem?_drop:=@List.getElem?_drop
def lD:type_of% @List.foldl_cons:=@List.foldl_cons
def lT:type_of% @List.setIfInBounds_toArray:=@List.setIfInBounds_toArray
def lU:type_of% @info_parts:=@info_parts
def mm:type_of% @List.getElem?_append_left:=@List.getElem?_append_left
def mn:type_of% @World.cell?_of_block:=@World.cell?_of_block
def mq:type_of% @List.set_cons_zero:=@List.set_cons_zero
def mr:type_of% @List.set_cons_succ:=@List.set_cons_succ
def mu:type_of% @decide_eq_true_eq:=@decide_eq_true_eq
def mU:type_of% @List.getElem?_append_right:=@List.getElem?_append_right
def mV:type_of% @List.map_append:=@List.map_append
def mW:type_of% @List.append_nil:=@List.append_nil
def mX:type_of% @Sem.run_pure:=@Sem.run_pure
def nG:type_of% @List.getElem?_eq_none:=@List.getElem?_eq_none
def nH:type_of% @Option.some.injEq:=@Option.some.injEq
def nI:type_of% @List.map_nil:=@List.map_nil
def oy:type_of% @List.getD_eq_getElem?_getD:=@List.getD_eq_getElem?_getD
def oC:type_of% @List.length_filter_le:=@List.length_filter_le
def oD:type_of% @Bool.or_eq_false_iff:=@Bool.or_eq_false_iff
def oE:type_of% @Int.toNat_natCast:=@Int.toNat_natCast
def oF:type_of% @List.map_toArray:=@List.map_toArray
def oG:type_of% @List.any_eq_true:=@List.any_eq_true
def oH:type_of% @Nat.zero_mul:=@Nat.zero_mul
def pf:type_of% @List.mem_map_of_mem:=@List.mem_map_of_mem
def pq:type_of% @List.length_pos_iff:=@List.length_pos_iff
def pr:type_of% @World.ownsRow_nil:=@World.ownsRow_nil
def pt:type_of% @List.take_length:=@List.take_length
def px:type_of% @Nat.add_zero:=@Nat.add_zero
def pR:type_of% @List.take_append_drop:=@List.take_append_drop
def pS:type_of% @List.take_add_one:=@List.take_add_one
def pT:type_of% @List.cons_append:=@List.cons_append
def pU:type_of% @wpList_load_row:=@wpList_load_row
def pV:type_of% @List.map_map:=@List.map_map
def qC:type_of% @Nat.lt_succ_iff_lt_or_eq:=@Nat.lt_succ_iff_lt_or_eq
def qD:type_of% @decide_eq_false_iff_not:=@decide_eq_false_iff_not
def qE:type_of% @Int.eq_ofNat_of_zero_le:=@Int.eq_ofNat_of_zero_le
def qF:type_of% @Array.getElem?_toList:=@Array.getElem?_toList
def qG:type_of% @Array.length_toList:=@Array.length_toList
def qH:type_of% @Bool.not_eq_true':=@Bool.not_eq_true'
def qI:type_of% @List.drop_zero:=@List.drop_zero
def qJ:type_of% @Nat.add_assoc:=@Nat.add_assoc
def rG:type_of% @Option.bind_eq_some_iff:=@Option.bind_eq_some_iff
def rH:type_of% @World.cell?_alloc_lt:=@World.cell?_alloc_lt
def rI:type_of% @List.flatMap_cons:=@List.flatMap_cons
def rJ:type_of% @Prod.mk.injEq:=@Prod.mk.injEq
def rK:type_of% @List.map_id:=@List.map_id
def sH:type_of% @List.take_succ_eq_append_getElem:=@List.take_succ_eq_append_getElem
def sI:type_of% @ByteArray.size_extract:=@ByteArray.size_extract
def sJ:type_of% @Nat.lt_or_eq_of_le:=@Nat.lt_or_eq_of_le
def sK:type_of% @Nat.add_sub_cancel:=@Nat.add_sub_cancel
def sL:type_of% @List.not_mem_nil:=@List.not_mem_nil
def sM:type_of% @List.mem_flatMap:=@List.mem_flatMap
def sN:type_of% @Option.map_some:=@Option.map_some
def sO:type_of% @Bool.true_and:=@Bool.true_and
def sP:type_of% @Nat.sub_self:=@Nat.sub_self
def uh:type_of% @Nat.add_sub_cancel_left:=@Nat.add_sub_cancel_left
def ui:type_of% @List.getElem?_toArray:=@List.getElem?_toArray
def uj:type_of% @List.pairwise_append:=@List.pairwise_append
def uk:type_of% @List.size_toArray:=@List.size_toArray
def uo:type_of% @List.getElem?_map:=@List.getElem?_map
def uq:type_of% @Bool.eq_false_iff:=@Bool.eq_false_iff
def uu:type_of% @List.getElem_mem:=@List.getElem_mem
def uv:type_of% @List.drop_drop:=@List.drop_drop
def uw:type_of% @Bool.or_false:=@Bool.or_false
def ux:type_of% @Bool.false_or:=@Bool.false_or
def uy:type_of% @wpList_plain:=@wpList_plain
def uz:type_of% @callsIn_wide:=@callsIn_wide
def wj:type_of% @List.take_append_of_le_length:=@List.take_append_of_le_length
def wu:type_of% @List.pairwise_singleton:=@List.pairwise_singleton
def wA:type_of% @List.drop_eq_nil_of_le:=@List.drop_eq_nil_of_le
def wB:type_of% @List.length_singleton:=@List.length_singleton
def wC:type_of% @List.length_replicate:=@List.length_replicate
def wD:type_of% @List.map_congr_left:=@List.map_congr_left
def wF:type_of% @List.flatMap_append:=@List.flatMap_append
def wG:type_of% @List.getElem_take:=@List.getElem_take
def wH:type_of% @List.getElem_drop:=@List.getElem_drop
def wI:type_of% @List.range_succ:=@List.range_succ
def wJ:type_of% @Bool.or_eq_true:=@Bool.or_eq_true
def wK:type_of% @run_underlying:=@run_underlying
def yQ:type_of% @Nat.shiftLeft_add_eq_or_of_lt:=@Nat.shiftLeft_add_eq_or_of_lt
def yR:type_of% @List.getElem?_replicate:=@List.getElem?_replicate
def yS:type_of% @ByteArray.data_extract:=@ByteArray.data_extract
def yT:type_of% @Nat.pow_le_pow_right:=@Nat.pow_le_pow_right
def yU:type_of% @List.mem_of_getElem?:=@List.mem_of_getElem?
def yV:type_of% @List.getD_cons_zero:=@List.getD_cons_zero
def Br:type_of% @List.drop_append_of_le_length:=@List.drop_append_of_le_length
def Bt:type_of% @List.drop_eq_getElem_cons:=@List.drop_eq_getElem_cons
def Bu:type_of% @Classical.byContradiction:=@Classical.byContradiction
def J{p:Prop}(h:p):Hid p:=h
def Z{p:Prop}(h:Hid p):p:=h
def aW(x:Int):Prop:=0<=x/\x<18446744073709551616
def W8(x:Int):Prop:=0<=x/\x<256
def aq(h:γ w W N)(k:γ W v N):γ w v N:=
 ⟨k.os.trans h.os,k.tape.trans h.tape,k.output.trans h.output,bK h.size k.size,λi hi a=>(k.block i (cu hi h.size) a).trans (h.block i hi a)⟩
def cT{q:Option Nat}(h:γ w W N)(k:γ W v q)(b:∀j,q=μ j->w.heap.size<=j\/q=N):γ w v N:=
 ⟨k.os.trans h.os,k.tape.trans h.tape,k.output.trans h.output,bK h.size k.size,λi hi a=>(k.block i (cu hi h.size) (λe=>by
  obtain g|g:=b i e.symm
  omega
  ·exact a (e.trans g))).trans (h.block i hi a)⟩
def aY(h:γ w W N):γ w W.drew N:=⟨h.os,h.tape,h.output,h.size,h.block⟩
def dv(h:γ w W N)(n:Nat):γ w (W.drewN n) N:=⟨h.os,h.tape,h.output,h.size,h.block⟩
def bk(h:γ w W N)(o:Obj):γ w (W.alloc o) N:=aq h (aJ W o N)
def aM(h:γ w W N)(p:Addr)(v:υ)(e:w.heap.size<=p.block\/μ p.block=N):γ w (ζ W p v) N:=
 ⟨h.os,h.tape,h.output,by simpa [World.setCell]using h.size,λk b a=>by
  rw[dK _ _ _ _ (by rintro rfl;obtain e|e:=e<;>first|omega|exact a e)];exact h.block k b a⟩
def dy(h:γ w W ν)(r:Option Nat):γ w W r:=⟨h.os,h.tape,h.output,h.size,λk a _=>h.block k a (by simp)⟩
def yW(h:γ w W ν):Below w.heap.size w W:=⟨h.os,h.tape,h.output,h.size,λk a=>h.block k a (by simp)⟩
def uA(h:Below w.heap.size w W):γ w W ν:=⟨h.os,h.tape,h.output,h.size,λk a _=>h.block k a⟩
def qK(h:γ w W (μ j))(b:w.heap.size<=j:=by omega):γ w W ν:=
 ⟨h.os,h.tape,h.output,h.size,λk a _=>h.block k a (by intro e;cases e;omega)⟩
def heap_set(h:w.heap[n]?=μ (ο c T (0,0)))(v:υ):(ζ w ⟨n,o,ν⟩ v).heap[n]?=μ (ο (c.setIfInBounds o v) T (0,0)):=by
 simp[World.setCell,Array.getElem?_modify,h]
def pW(x:Int):Int:=(x %9223372036854775808)*2+x/9223372036854775808
def rotl(x:Int):Nat->Int
 |0=>x
 |k+1=>pW (rotl x k)
def GI(h:aW p):aW (pW p):=by unfold aW pW at *;omega
def py(h:aW p)(k:Nat):aW (rotl p k):=by
 induction k with
 |zero=>exact h
 |succ k a=>exact GI a
def GJ(x N M:Nat)(h:N*M=9223372036854775808)(g:x<2*N*M)(a:0<N):
 pW (((x %(2*N))*M+x/(2*N):Nat):Int)=(((x %N)*(2*M)+x/N:Nat):Int):=by
 have b:x/(2*N)<M:=Nat.div_lt_of_lt_mul (by rw[Nat.mul_comm 2 N,Nat.mul_assoc,Nat.mul_comm 2 M,<-Nat.mul_assoc]at *;rw[Nat.mul_assoc]at *;omega);have e1:x %(2*N)=N*(x/N %2)+x %N:=by
  rw[Nat.mul_comm 2 N,Nat.mod_mul];omega
 have e2:x/(2*N)=x/N/2:=by rw[Nat.mul_comm 2 N,Nat.div_div_eq_div_mul]
 generalize hs:x %N=s at *;generalize i:x/N=z at *;have c:s<N:=by rw[<-hs];exact Nat.mod_lt _ a
 have d:s*M+z/2<N*M:=by
  have:(s+1)*M<=N*M:=Nat.mul_le_mul_right _ c;rw[Nat.add_mul]at this;rw[e2]at b;omega
 have e:(x %(2*N))*M+x/(2*N)=9223372036854775808*(z %2)+(s*M+z/2):=by
  rw[e1,e2,Nat.add_mul,Nat.mul_right_comm,h];omega
 rw[e];rw[h]at d;have f:s*(2*M)=2*(s*M):=by rw[Nat.mul_left_comm]
 rw[f];generalize s*M=p at *;unfold pW;omega
def Bv(x:Nat)(a:x<18446744073709551616):∀k,k<=63->rotl x k=((x %2^(64-k))*2^k+x/2^(64-k):Nat)
 |0,_=>by
  show(x:Int)=_;have:x %2^(64-0)=x:=Nat.mod_eq_of_lt (by simpa using a);rw[this];have:x/2^(64-0)=0:=Nat.div_eq_of_lt (by simpa using a);rw[this];simp
 |k+1,h=>by
  show pW (rotl x k)=_;rw[Bv x a k (by omega)];have e1:2^(64-k)=2*2^(64-(k+1)):=by rw[show 64-k=(64-(k+1))+1 by omega,Nat.pow_succ,Nat.mul_comm]
  have e2:2^(64-(k+1))*2^k=9223372036854775808:=by rw[<-Nat.pow_add,show 64-(k+1)+k=63 by omega]
  have b:2^(k+1)=2*2^k:=by rw[Nat.pow_succ,Nat.mul_comm]
  rw[e1,b];exact GJ x _ _ e2 (by rw[Nat.mul_assoc,e2];omega) (Nat.two_pow_pos _)
def GK(h:aW p)(k:Nat)(c:k<=63)(h0:0<k):bits .or η (IntKind.u64.wrap (p*(2^k:Nat))) (p/(2^(64-k):Nat))=rotl p k:=by
 obtain⟨d,f⟩:=h;obtain⟨n,rfl⟩:=qE d;have a:n<18446744073709551616:=by omega
 rw[Bv n a k c,fW];have b:2^(64-k)*2^k=18446744073709551616:=by rw[<-Nat.pow_add,show 64-k+k=64 by omega]
 have e1:((n:Int)*(2^k:Nat)) %18446744073709551616=(((n %2^(64-k))*2^k:Nat):Int):=by
  have:n*2^k %18446744073709551616=(n %2^(64-k))*2^k:=by rw[<-b,Nat.mul_mod_mul_right]
  rw[<-this,Int.natCast_emod,Int.natCast_mul];rfl
 have e2:(n:Int)/(2^(64-k):Nat)=((n/2^(64-k):Nat):Int):=by rw[Int.natCast_ediv]
 rw[e1,e2,u64_or_nat];congr 1;have e:n/2^(64-k)<2^k:=Nat.div_lt_of_lt_mul (by rw[b];exact a);have:=yQ e (n %2^(64-k));rw[Nat.shiftLeft_eq]at this;omega;have:n %2^(64-k)<2^(64-k):=Nat.mod_lt _ (Nat.two_pow_pos _);rw[<-b];exact Nat.mul_lt_mul_of_pos_right this (Nat.two_pow_pos _);exact Nat.lt_of_le_of_lt (Nat.div_le_self _ _) a
def xo(a b:Int):Int:=bits .xor η a b
def ad(a b:Int):Int:=IntKind.u64.wrap (a+b)
def pB(a b:Int):aW (ad a b):=by unfold ad aW;rw[fW];omega
def jz(a:aW p)(b:aW q):aW (xo p q):=by
 unfold xo;rw[u64_xor p q a.1 a.2 b.1 b.2];have:=Nat.xor_lt_two_pow (n:=64) (x:=p.toNat) (y:=q.toNat) (by have:=a.2;have:=a.1;omega) (by have:=b.2;have:=b.1;omega);unfold aW;omega
structure S4 where
 a:Int
 b:Int
 c:Int
 d:Int
def S4.ok(s:S4):Prop:=aW s.a/\aW s.b/\aW s.c/\aW s.d
def pC(s:S4):S4:=
 let e:=ad s.a s.b
 let f:=xo (rotl s.b 13) e
 let k:=rotl e 32
 let g:=ad s.c s.d
 let h:=xo (rotl s.d 16) g
 let i:=ad k h
 let l:=xo (rotl h 21) i
 let j:=ad g f
 let m:=xo (rotl f 17) j
 ⟨i,m,rotl j 32,l⟩
def rL{s:S4}(h:s.ok):(pC s).ok:=by
 obtain⟨j,e,k,f⟩:=h;have g:=jz (py e 13) (pB s.a s.b);have i:=jz (py f 16) (pB s.c s.d);exact⟨pB _ _,jz (py g 17) (pB _ _),py (pB _ _) 32,jz (py i 21) (pB _ _)⟩
def sQ(s:S4)(m:Int):S4:=
 let t:=pC (pC ⟨s.a,s.b,s.c,xo s.d m⟩)
 ⟨xo t.a m,t.b,t.c,t.d⟩
def GL{s:S4}(h:s.ok)(e:aW p):(sQ s p).ok:=by
 obtain⟨f,g,i,j⟩:=h;have t:=rL (rL (s:=⟨s.a,s.b,s.c,xo s.d p⟩) ⟨f,g,i,jz j e⟩);exact⟨jz t.1 e,t.2.1,t.2.2.1,t.2.2.2⟩
def uB(s:S4):Int:=
 let t:=pC (pC (pC (pC ⟨s.a,s.b,xo s.c 255,s.d⟩)))
 xo (xo (xo t.a t.b) t.c) t.d
def GM{s:S4}(h:s.ok):aW (uB s):=by
 obtain⟨e,f,g,i⟩:=h;have t:=rL (rL (rL (rL (s:=⟨s.a,s.b,xo s.c 255,s.d⟩) ⟨e,f,jz g (by unfold aW;omega),i⟩)));exact jz (jz (jz t.1 t.2.1) t.2.2.1) t.2.2.2
def iw:List Int->Int
 |[]=>0
 |x::r=>x+256*iw r
def yX:∀(l:List Int),(∀x∈l,W8 x)->0<=iw l/\iw l<256^l.length
 |[],_=>by simp[iw]
 |x::r,h=>by
  have:=yX r (λy a=>h y (List.mem_cons_of_mem _ a));have b:=h x (List.mem_cons_self ..);unfold W8 at b;simp only[iw,cS,Int.pow_succ]
  omega
def gY(key:List Int):S4:=
 ⟨xo (iw (key.take 8)) 8317987319222330741,xo (iw (key.drop 8)) 7237128888997146477,xo (iw (key.take 8)) 7816392313619706465,xo (iw (key.drop 8)) 8387220255154660723⟩
def pX(l:List Int)(n:Int):List Int:=l++List.replicate (7-l.length %8) 0++[n %256]
def mY(s:S4):Nat->List Int->S4
 |0,_=>s
 |k+1,l=>mY (sQ s (iw (l.take 8))) k (l.drop 8)
def dh(key l:List Int):Int:=uB (mY (gY key) (l.length/8+1) (pX l l.length))
def BS(w:ω)(b o:Nat)(l:List Int):Prop:=(∀i,i<l.length->κ w ⟨b,o+i,ν⟩=μ (ι Δ (l.getD i 0)))/\∀x∈l,W8 x
def GN(l:List Int):∀k,k<l.length->iw (l.take (k+1))=iw (l.take k)+256^k*l.getD k 0:=by
 induction l with
 |nil=>intro k h;simp at h
 |cons x r a=>
  intro k h;cases k with
  |zero=>simp[iw]
  |succ k=>
   simp only[List.take_succ_cons,iw,List.getD_cons_succ]
   rw[a k (by simpa using h),Int.mul_add,Int.pow_succ,Int.mul_comm (256^k) 256,Int.mul_assoc];omega
def qL(h:∀x∈L,W8 x)(k:Nat):W8 (L.getD k 0):=by
 rw[oy];rcases a:L[k]? with _|x
 simp[W8];exact h x (yU a)
def GO(a x:Int)(k:Nat)(g:k<=7)(h0:0<=a)(c:a<256^k)(d:W8 x):bits .or η a (IntKind.u64.wrap (x*2^(8*k)))=a+256^k*x:=by
 obtain⟨e,h⟩:=d;obtain⟨n,rfl⟩:=qE h0;obtain⟨y,rfl⟩:=qE e;have e0:(256:Nat)^k=2^(8*k):=by rw[Nat.pow_mul]
 have b:(256:Int)^k=((2^(8*k):Nat):Int):=by rw[<-e0];simp
 have e1:((y:Int)*2^(8*k))=((y*2^(8*k):Nat):Int):=by simp
 have hp:2^(8*k)<=2^56:=yT (by decide) (by omega);have i:y*2^(8*k)<=255*2^56:=Nat.mul_le_mul (by omega) hp;rw[b]at c;rw[e1,fW,b];have f:n<2^(8*k):=by omega
 have e2:(((y*2^(8*k):Nat):Int)) %18446744073709551616=((y*2^(8*k):Nat):Int):=by omega
 rw[e2,u64_or_nat _ _ (by omega) (by omega)];have:=yQ f y;rw[Nat.shiftLeft_eq]at this;rw[Nat.or_comm,<-this,Int.natCast_add,Int.natCast_mul,Int.mul_comm];omega
def GP(h:∀x∈L,W8 x)(k:Nat)(a:k<=L.length):0<=iw (L.take k)/\iw (L.take k)<256^k:=by
 have:=yX (L.take k) (λx b=>h x (jg b));rwa[ct,Nat.min_eq_left a]at this
def Bw(k:Nat)(h:k<=8):(256:Int)^k<=18446744073709551616:=by
 have:(256:Nat)^k<=256^8:=yT (by decide) h;have e:(256:Int)^k=((256^k:Nat):Int):=by simp
 rw[e];omega
def wL(b o cap:Nat)(l:List Int)(w:ω)(h:BS w b o l)(hl:l.length=8)(r:8<=cap):
 Calls prog 262 #[σ (μ ⟨b,o,ν⟩) 8 cap] w λe j=>e=ξ (ι η (iw l))/\j=w:=by
 obtain⟨d,f⟩:=h;go_enter func262,ntmps262;go_wp2;go_loop [3,8] (λa i=>∃k:Nat,k<=8/\i=ι δ k/\a=ι η (iw (l.take k))) (λ_ i=>8-(intOf i).toNat);case atStart=>exact⟨0,by omega,rfl,rfl⟩
 case round=>
  obtain⟨k,n,rfl,rfl⟩:=hrel;have c:=GP f k (by omega);have hp:=Bw k n;by_cases s:k<8
  ·have t:=d k (by omega);clear d;have g:=qL f k;have p:=J (GO _ _ k (by omega) c.1 c.2 g);have q:=J (GN l k (by omega));obtain⟨t0,t1⟩:=c;obtain⟨u,v⟩:=g;generalize l.getD k 0=x at *;generalize iw (l.take k)=m at *;have y:(8:Int)*k<=1000:=by omega
   go_wp2;go_round;case rel=>exact⟨k+1,by omega,by go_num,by rw[Z p,<-Z q]⟩
   case measure=>simp[intOf];omega
  go_wp2;go_ret;exact⟨fD (λz=>Ending.returned (ι η z)) (by rw[tL_]),rfl⟩
def bv(l:List Int):List υ:=l.map (Value.int Δ)
def bN(w:ω)(a:Option Addr)(n cap:Nat)(l:List Int):Prop:=
 (∀x∈l,W8 x)/\n=l.length/\n<=cap/\cap<=maxLen/\((a=ν/\cap=0)\/∃b o,a=μ ⟨b,o,ν⟩/\BS w b o l)
def bn(w:ω)(a:Nat)(v:υ)(l:List Int):Prop:=(∀x∈l,W8 x)/\w.ownsRow a 5 1 v l.length (bv l)
def BS.gb(h:BS w b o L)(g:γ w W N)(a:N≠μ b:=by simp):BS W b o L:=
 ⟨λi hi=>g.cell (h.1 i hi) (λe=>a e.symm),h.2⟩
def BS.lt(h:BS w b o L)(hl:L≠[]):b<w.heap.size:=
 eZ w _ (h.1 0 (pq.2 hl))
def BS.nil(w:ω)(b o:Nat):BS w b o []:=⟨λi hi=>by simp at hi,λx a=>by simp at a⟩
def bN.gb(h:bN w a n k L)(g:γ w W N)(d:∀j,N=μ j->w.heap.size<=j\/L=[]\/∀x,a=μ x->x.block≠j:=by simp):bN W a n k L:=by
 obtain⟨f,i,l,m,c⟩:=h;refine⟨f,i,l,m,?_⟩
 obtain c|⟨b,o,rfl,c⟩:=c
 exact φ c;refine ψ ⟨b,o,rfl,?_⟩;by_cases hl:L=[]
 subst hl;exact BS.nil _ _ _;have:=c.lt hl;refine c.gb g (λe=>?_);obtain e|e|e:=d b e
 omega;exact hl e;exact e _ rfl rfl
def bN.au(h:bN w a n k L)(g:γ w W ν):bN W a n k L:=h.gb g (λ_ e=>by cases e)
def bn.lt(h:bn w n x L):∀k,x.ownBlock=μ k->n<=k/\k<w.heap.size:=h.2.lt
def uC(l:List Int)(i:Nat)(h:i<l.length):(bv l)[i]?=μ (ι Δ (l.getD i 0)):=by
 simp[bv,dT h]
def bn.bs(h:bn w n y L):∃a cap,y=σ a L.length cap/\bN w a L.length cap L/\(∀x,a=μ x->n<=x.block/\x.block<w.heap.size/\x.off=0)/\(L≠[]->a≠ν):=by
 obtain⟨b,l,d⟩:=h;obtain⟨rfl,f⟩|⟨g,cap,cur,rfl,aa,c,j,hm,hs,k⟩:=d
 have:L=[]:=kJ f;subst this;exact⟨ν,0,rfl,⟨b,rfl,aP _,by simp[maxLen],φ ⟨rfl,rfl⟩⟩,(λ_ e=>by cases e),(λe=>absurd rfl e)⟩
 refine⟨μ ⟨g,0,ν⟩,cap,rfl,⟨b,rfl,j,hm,ψ ⟨g,0,rfl,?_,b⟩⟩,(λx e=>by cases e;exact⟨aa,(bg.1 c).1,rfl⟩),(λ_ e=>by cases e)⟩
 intro i hi;have e1:(bv L)[i]?=cur.toList[i]? :=by rw[<-k,jK,iP_]
 rw[uC L i hi]at e1;simp only[World.cell?,c,ep]
 simpa using e1.symm
def bn.nil(w:ω)(a:Nat):bn w a (σ ν 0 0) []:=⟨λx b=>by simp at b,pr _ _ _ _⟩
def bn.gb(h:bn w n x L)(g:γ w W N)(a:x.ownBlock=ν\/x.ownBlock≠N:=by simp):bn W n x L:=⟨h.1,h.2.kept g a⟩
def bn.au(h:bn w n x L)(g:γ w W ν):bn W n x L:=h.gb g (by cases x.ownBlock<;>simp)
def By(h:Below n W w)(o:bn w i x L)(a:γ w V x.ownBlock)(b:n<=w.heap.size:=by omega)(c:n<=i:=by omega):Below n W V:=
 h.grown a b (λk e=>bK c (o.lt k e).1)
def wO(w:ω)(x:Int)(b:W8 x):bN (w.alloc (ο #[ι Δ x] 5)) (μ ⟨w.heap.size,0,ν⟩) 1 1 [x]:=by
 have a:∀y∈[x],W8 y:=λy c=>by rw[cA.1 c];exact b
 refine⟨a,rfl,by simp,by simp[maxLen],ψ ⟨_,_,rfl,?_,a⟩⟩
 intro i hi;obtain rfl:i=0:=by simpa using hi
 simp
def yY:(prog.info? 5).map (λi=>(i.zero,i.size,i.bytes))=μ (μ (ι Δ 0),1,1):=by kernel_rfl
def Bz(ty:TypeId)(d:Nat)(v:υ)(l:List Int)(f:bn w d v l)
 (n:Option Addr) (nx g:Nat) (m:List Int) (t:bN w n nx g m) (I:l.length+m.length<=100000000) (x:d<=w.heap.size):
 ∃a c e,(Builtin.append_ #[112,112] ty #[v,σ n nx g]).run prog w=.ok (σ a (l.length+m.length) c) e/\bn e d (σ a (l.length+m.length) c) (l++m)/\γ w e v.ownBlock/\((Value.slice a (l.length+m.length) c).ownBlock=v.ownBlock\/(Value.slice a (l.length+m.length) c).ownBlock=μ w.heap.size):=by
 obtain⟨p,hi,z,A,B⟩:=lU yY;obtain⟨m1,rfl,K,L,h⟩:=t;obtain⟨rfl,rfl⟩|⟨b,off,rfl,h⟩:=h
 have:m=[]:=eN_;subst this;have i:=run_append_owned_none (P:=prog) (w:=w) d 112 ty 5 p 1 underlying112 hi v _ _ f.2;obtain⟨a,c,rfl,M⟩:=f.bs;exact⟨a,c,w,i,by simpa using f,aD _ _,φ rfl⟩
 obtain⟨C,e,i,D,E,_,F⟩:=run_append_own_at (P:=prog) w d 112 ty 5 p (ι Δ 0) 1 1 underlying112 hi z A B rfl (by decide) v l.length (bv l) f.2 ⟨b,off,ν⟩ m.length g (bv m) (by simp[bv]) (by
  intro j u k;have q:j<m.length:=by
   have:=(lA.1 k).1;simpa [bv]using this
  rw[uC m j q]at k;obtain rfl:=aQ k;rw[Addr.add_lit];exact h.1 j q) (by
  intro u G;obtain⟨y,_,rfl⟩:=eU.1 G;rfl) (by simp[maxLen];omega) (by omega) x
 have r:bn e d C (l++m):=⟨λy H=>(bL.1 H).elim (f.1 y) (m1 y),by simpa [bv]using D⟩
 obtain⟨a,c,s,_⟩:=r.bs;rw[bF]at s;subst s;exact⟨a,c,e,i,r,E,F⟩
def BA{K:Act->ω->Prop}(s x:Operand)
 (ho:U.op=.call {callee:=.builtin .append,args:= #[s,x],argTypes:= #[112,112]})
 (d:Nat) (v:υ) (l:List Int) (hs:H.eval s=v) (g:bn w d v l)
 (e:Option Addr) (nx f:Nat) (m:List Int) (i:H.eval x=σ e nx f) (j:bN w e nx f m) (k:l.length+m.length<=100000000) (n:d<=w.heap.size)
 (h:∀a b c,bn c d (σ a (l.length+m.length) b) (l++m)->γ w c v.ownBlock->((Value.slice a (l.length+m.length) b).ownBlock=v.ownBlock\/(Value.slice a (l.length+m.length) b).ownBlock=μ w.heap.size)->
   K (H.put U.dst (σ a (l.length+m.length) b)) c):Oper.wp prog U H w K u:=by
 obtain⟨a,b,c,p,q,r,t⟩:=Bz (w:=w) U.type d v l g e nx f m j k n;unfold Oper.wp execOp;simp only[ho,resolve,invoke,builtin,ka,mX,jh,oF,kM,nI,hs,i,p]
 exact h a b c q r t
def sS{g:Array Oper}{rest:List Oper}(i:U.guard=ν)(s x:Operand)
 (ho:U.op=.call {callee:=.builtin .append,args:= #[s,x],argTypes:= #[112,112]})
 (d:Nat) (v:υ) (l:List Int) (hs:H.eval s=v) (j:bn w d v l)
 (e:Option Addr) (nx f:Nat) (m:List Int) (k:H.eval x=σ e nx f) (n:bN w e nx f m) (p:l.length+m.length<=100000000) (q:d<=w.heap.size)
 (h:∀a b c,bn c d (σ a (l.length+m.length) b) (l++m)->γ w c v.ownBlock->((Value.slice a (l.length+m.length) b).ownBlock=v.ownBlock\/(Value.slice a (l.length+m.length) b).ownBlock=μ w.heap.size)->
   wpList prog g u rest (H.put U.dst (σ a (l.length+m.length) b)) c):wpList prog g u (U::rest) H w:=
 uy i λ_ r=>BA s x ho d v l hs j e nx f m k n p q λa b c t y z=>r _ _ (h a b c t y z)
def wQ{g:Array Oper}{K:Act->ω->Prop}{E:Prop}(i:U.guard=ν)(s x:Operand)
 (ho:U.op=.call {callee:=.builtin .append,args:= #[s,x],argTypes:= #[112,112]})
 (a:Nat) (v:υ) (l:List Int) (hs:H.eval s=v) (j:bn w a v l)
 (d:Option Addr) (nx e:Nat) (m:List Int) (k:H.eval x=σ d nx e) (n:bN w d nx e m) (p:l.length+m.length<=100000000) (q:a<=w.heap.size)
 (h:∀b c f,bn f a (σ b (l.length+m.length) c) (l++m)->γ w f v.ownBlock->((Value.slice b (l.length+m.length) c).ownBlock=v.ownBlock\/(Value.slice b (l.length+m.length) c).ownBlock=μ w.heap.size)->
   K (H.put U.dst (σ b (l.length+m.length) c)) f):if Region.wanted U (yielded g H.tmps)=ρ then Oper.wp prog U H w K u else E:=by
 have r:Region.wanted U (yielded g H.tmps)=ρ:=by simp[Region.wanted,i]
 rw[aG r];exact BA s x ho a v l hs j d nx e m k n p q h
def BB:(prog.info? 5).map (·.size)=μ 1:=by kernel_rfl
def wR(w:ω)(g:Nat)(cs:Array υ):γ w (w.setRow g cs) (μ g):=
 ⟨rfl,rfl,rfl,by simp[World.setRow],λk _ a=>setRow_other w g k cs (λe=>a (by rw[e]))⟩
def fX(l:List Int):(bv l).length=l.length:=by simp[bv]
def BD(l:List Int)(o:Nat)(m:List Int):bv (splice l o m)=splice (bv l) o (bv m):=by simp[bv,splice]
def GQ(ty:TypeId)(g off a e:Nat)(sp:Option Addr)(n c:Nat)(m:List Int)(q:bN w sp n c m)
 (d:List Int) (t:TypeId) (f:w.heap[g]?=μ (ο (bv d).toArray t (0,0))) (r:off+(m.take a).length<=d.length):
 ∃h,(Builtin.copy_ #[112,112] ty #[σ (μ ⟨g,off,ν⟩) a e,σ sp n c]).run prog w=.ok (goInt (m.take a).length) h/\h.heap[g]?=μ (ο (bv (splice d off (m.take a))).toArray t (0,0))/\γ w h (μ g):=by
 obtain⟨m1,rfl,z,A,i⟩:=q;by_cases h0:(m.take a).length=0;have s:m.take a=[]:=kJ h0;have k:=run_copy_none (P:=prog) w 112 112 ty 5 (μ ⟨g,off,ν⟩) sp a e m.length c underlying112 BB (by rw[ct,Nat.min_comm]at h0;exact h0);exact⟨w,by rw[h0];exact k,by rw[s];simpa [splice]using f,aD _ _⟩
 obtain⟨rfl,rfl⟩|⟨b,v,rfl,i⟩:=i
 have:m=[]:=eN_;subst this;simp at h0;have hl:(bv (m.take a)).length=(m.take a).length:=fX _;have k:=run_copy_row (P:=prog) w 112 112 ty 5 g off a e ⟨b,v,ν⟩ m.length c (bv d).toArray t (bv (m.take a)) underlying112 BB f (by rw[hl,ct,Nat.min_comm]) (by
  intro j u l;have p:j<(m.take a).length:=by
   have:=(lA.1 l).1;rwa[fX]at this
  rw[uC _ j p]at l;obtain rfl:=aQ l;rw[Addr.add_lit];rw[ct]at p;rw[i.1 j (by omega)];simp[show j<a by omega]) (by rw[hl];simpa [bv]using r) (by
  intro u x;obtain⟨y,_,rfl⟩:=eU.1 x;rfl)
 refine⟨_,by rw[k,hl],?_,wR _ _ _⟩
 rw[setRow_heap w g _ _ t _ f,BD];simp[splice,fX]
def BF{K:Act->ω->Prop}(d s:Operand)
 (ho:U.op=.call {callee:=.builtin .copy,args:= #[d,s],argTypes:= #[112,112]})
 (g off a i:Nat) (hd:H.eval d=σ (μ ⟨g,off,ν⟩) a i) (sp:Option Addr) (e f:Nat) (hs:H.eval s=σ sp e f) (m:List Int) (j:bN w sp e f m)
 (c:List Int) (t:TypeId) (k:w.heap[g]?=μ (ο (bv c).toArray t (0,0))) (l:off+(m.take a).length<=c.length)
 (h:∀b,b.heap[g]?=μ (ο (bv (splice c off (m.take a))).toArray t (0,0))->γ w b (μ g)->K (H.put U.dst (goInt (m.take a).length)) b):Oper.wp prog U H w K u:=by
 obtain⟨b,n,p,q⟩:=GQ (w:=w) U.type g off a i sp e f m j c t k l;unfold Oper.wp execOp;simp only[ho,resolve,invoke,builtin,ka,mX,jh,oF,kM,nI,hd,hs,n]
 exact h b p q
def uD{i:Array Oper}{rest:List Oper}(d s:Operand)
 (ho:U.op=.call {callee:=.builtin .copy,args:= #[d,s],argTypes:= #[112,112]}) (k:U.guard=ν)
 (g off a j:Nat) (hd:H.eval d=σ (μ ⟨g,off,ν⟩) a j) (sp:Option Addr) (e f:Nat) (hs:H.eval s=σ sp e f) (m:List Int) (l:bN w sp e f m)
 (c:List Int) (t:TypeId) (n:w.heap[g]?=μ (ο (bv c).toArray t (0,0))) (p:off+(m.take a).length<=c.length)
 (h:∀b,b.heap[g]?=μ (ο (bv (splice c off (m.take a))).toArray t (0,0))->γ w b (μ g)->wpList prog i u rest (H.put U.dst (goInt (m.take a).length)) b):
 wpList prog i u (U::rest) H w:=
 uy k λ_ q=>BF d s ho g off a j hd sp e f hs m l c t n p λb r v=>q _ _ (h b r v)
def GR{i:Array Oper}{K:Act->ω->Prop}{E:Prop}(d s:Operand)
 (ho:U.op=.call {callee:=.builtin .copy,args:= #[d,s],argTypes:= #[112,112]}) (k:U.guard=ν)
 (g off a j:Nat) (hd:H.eval d=σ (μ ⟨g,off,ν⟩) a j) (sp:Option Addr) (c e:Nat) (hs:H.eval s=σ sp c e) (m:List Int) (l:bN w sp c e m)
 (b:List Int) (t:TypeId) (n:w.heap[g]?=μ (ο (bv b).toArray t (0,0))) (p:off+(m.take a).length<=b.length)
 (h:∀f,f.heap[g]?=μ (ο (bv (splice b off (m.take a))).toArray t (0,0))->γ w f (μ g)->K (H.put U.dst (goInt (m.take a).length)) f):
 if Region.wanted U (yielded i H.tmps)=ρ then Oper.wp prog U H w K u else E:=by
 have q:Region.wanted U (yielded i H.tmps)=ρ:=by simp[Region.wanted,k]
 rw[aG q];exact BF d s ho g off a j hd sp c e hs m l b t n p h
def nJ:(prog.info? 24).map (·.size)=μ 16:=by kernel_rfl
def rM{a:Array Oper}{rest:List Oper}(x:Operand)(ho:U.op=.load 24 x)(b:U.guard=ν)
 (g:Nat) (c:H.eval x=π (μ ⟨g,0,ν⟩)) (K:Array υ) (d:w.heap[g]?=μ (ο K 24 (0,0))) (e:K.size=16)
 (h:wpList prog a u rest (H.put U.dst (ε K)) w):wpList prog a u (U::rest) H w:=
 pU b _ x ho g c _ K _ _ d underlying24 rfl (by rw[e];exact nJ) h
def uF(h:bN w a n k L):(convert 112 9 (σ a n k)).run prog w=.ok (ς (strOfNums L)) w:=by
 obtain⟨e,d,f,g,c⟩:=h;obtain⟨rfl,rfl⟩|⟨b,o,rfl,c⟩:=c
 have:L=[]:=eN_;subst this;exact run_convert_bytes_nil w _ _ underlying112 underlying5 n 0 _ underlying9;exact run_convert_bytes_arg w _ _ underlying112 underlying5 b o n k L d.symm (λi hi=>c.1 i (by omega)) _ underlying9
def aI(s:ByteArray):List Int:=s.data.toList.map λx=>(x.toNat:Int)
def fN(s:ByteArray):(aI s).length=s.size:=by unfold aI;rw[dd,qG];rfl
def qM(s:ByteArray):∀x∈aI s,W8 x:=by
 intro x a;obtain⟨y,_,rfl⟩:=eU.1 a;have:=y.toNat_lt;unfold W8;omega
def pD(s:ByteArray)(w:ω):(convert 9 112 (ς s)).run prog w=.ok (σ (μ ⟨w.heap.size,0,ν⟩) s.size (grownCap w s.size 0 5)) (Lib.bytesWorld w 5 s):=
 Lib.run_convert_string_bytes w _ _ _ s underlying9 underlying112 underlying5
def wT(w:ω)(s:ByteArray):γ w (Lib.bytesWorld w 5 s) ν:=
 ⟨rfl,rfl,rfl,by rw[Lib.bytesWorld_size];omega,λi hi _=>Lib.bytesWorld_at_old w _ s i hi⟩
def yZ(w:ω)(s:ByteArray)(hs:s.size<=100000000:=by omega):bN (Lib.bytesWorld w 5 s) (μ ⟨w.heap.size,0,ν⟩) s.size (grownCap w s.size 0 5) (aI s):=by
 refine⟨qM s,(fN s).symm,grownCap_ge _ _ _ _,grownCap_le_maxLen _ _ _ _ (by simp[maxLen];omega),ψ ⟨_,0,rfl,?_⟩⟩
 refine⟨λi hi=>?_,qM s⟩
 rw[fN]at hi;have a:i<s.data.toList.length:=by rw[qG];exact hi
 have e1:s.data.toList.getD i 0=s.data.toList[i]:=by rw[List.getD,dT a];rfl
 have e2:(aI s).getD i 0=(s.data.toList[i].toNat:Int):=by unfold aI;rw[List.getD,uo,dT a];rfl
 rw[ep,Lib.bytesWorld_cell w _ s i hi,e1,e2]
def bn.iy(h:bn w k (σ a n i) L):bN w a n i L:=by
 obtain⟨c,d,e,b,_⟩:=h.bs;simp only[Value.slice.injEq]at e;obtain⟨rfl,rfl,rfl⟩:=e;exact b
def BG(h:bn w k (σ a n i) L):(a=ν/\n=0)\/∃g cs,a=μ ⟨g,0,ν⟩/\k<=g/\w.heap[g]?=μ (ο cs 5 (0,0))/\n<=cs.size:=by
 obtain⟨d,f,b⟩:=h;obtain⟨e,j⟩|⟨g,cap,cur,e,aa,c,l,hm,hs,m⟩:=b
 cases e;exact φ ⟨rfl,rfl⟩;cases e;exact ψ ⟨g,cur,rfl,aa,c,by omega⟩
def wU(a:Option Addr)(n c:Nat)(l:List Int)(w:ω)(m:Nat)(ho:bn w m (σ a n c) l)(r:n<=100000000):
 Calls prog 97 #[σ a n c] w λe p=>e=ξ (τ #[])/\γ w p (Value.slice a n c).ownBlock:=by
 obtain⟨rfl,rfl⟩|⟨g,cs,rfl,s,aa,hs⟩:=BG ho
 ·go_enter func97,ntmps97;go_wp2;go_loopg [5] 0 (λf i wr=>f=0/\i=ι δ 0/\wr=w);case atStart=>exact⟨rfl,rfl,rfl⟩
  case round=>
   obtain⟨rfl,rfl,rfl⟩:=hrel;go_wp2;refine gD (fe rfl _ _ _) rfl ?_;exact⟨rfl,aD _ _⟩
 have h:(Value.slice (μ ⟨g,0,ν⟩) n c).ownBlock=μ g:=rfl;rw[h];clear ho h;go_enter func97,ntmps97;go_wp2;go_loopg [5] n (λf i wr=>∃j:Nat,j<=n/\f=n-j/\i=ι δ j/\γ w wr (μ g)/\∃b,wr.heap[g]?=μ (ο b 5 (0,0))/\n<=b.size);case atStart=>exact⟨0,by omega,by omega,rfl,aD _ _,cs,aa,hs⟩
 case round=>
  obtain⟨j,t,rfl,rfl,k,b,d,q⟩:=hrel;by_cases u:j<n
  ·have v:κ wr ⟨g,j,ν⟩=μ (b.getD j undef):=by simp[World.cell?,d,Array.getD,show j<b.size by omega]
   have x:χ wr ⟨g,j,ν⟩=θ:=fZ_ d;replace d:=J d;go_wp2;go_roundg (n-(j+1));case measure=>omega
   case rel=>exact⟨j+1,by omega,rfl,by go_num,aM k _ _ (ψ rfl),_,heap_set (Z d) _,by simpa using q⟩
  go_wp2;refine gD (fe rfl _ _ _) rfl ?_;exact⟨rfl,k⟩
def BH{g:Array Oper}{rest:List Oper}(i:U.guard=ν)(x:Operand)
 (ho:U.op=.call {callee:=.builtin .append,args:= #[.const (σ ν 0 0),x],argTypes:= #[112,112]})
 (d:Option Addr) (nx e:Nat) (m:List Int) (j:H.eval x=σ d nx e) (k:bN w d nx e m) (l:m.length<=100000000)
 (h:∀b c a,bn a w.heap.size (σ b m.length c) m->γ w a ν->wpList prog g u rest (H.put U.dst (σ b m.length c)) a):wpList prog g u (U::rest) H w:=by
 refine sS i (.const (σ ν 0 0)) x ho w.heap.size (σ ν 0 0) [] rfl (bn.nil _ _) d nx e m j k (by simpa using l) (aP _) ?_;intro b c a f n _;rw[fM,ep]at f⊢;rw[jL]at f;exact h b c a f n
def jn{cs:List υ}(h:w.rangeAt b o cs)(g:γ w W N)(a:N≠μ b):W.rangeAt b o cs:=
 λj v c=>g.cell (h j v c) (λe=>a e.symm)
def wV{cs:List υ}(h:w.rangeAt b o cs)(p:Addr)(v:υ)(hp:p.block≠b):(ζ w p v).rangeAt b o cs:=λj u a=>by
 rw[mn (w:=w) (dK _ _ _ _ (Ne.symm hp))];exact h j u a
def kN{fr:Nat×Nat}{cs:List υ}(h:w.heap[b]?=μ (ο cs.toArray T fr)):w.rangeAt b 0 cs:=λj v a=>by
 simp only[World.cell?,h,ep];simpa using a
structure Rg where
 lo:Int
 hi:Int
structure Fr where
 kind:Int
 stream:Int
 offset:Int
 code:Int
 fin:Bool
 data:ByteArray
 ranges:List Rg
def Rg.ok(r:Rg):Prop:=aW r.lo/\aW r.hi
def dD(x:Int):Prop:= -9223372036854775808<=x/\x<=9223372036854775807
def Fr.ok(f:Fr):Prop:=dD f.kind/\dD f.stream/\aW f.offset/\aW f.code/\∀r∈f.ranges,r.ok
def aS(n:Int):List Int:=
 if n<64 then[n]else if n<16384 then[n/256+64,n %256]
 else if n<1073741824 then[n/16777216+128,n/65536 %256,n/256 %256,n %256]
 else[n/72057594037927936+192,n/281474976710656 %256,n/1099511627776 %256,n/4294967296 %256,n/16777216 %256,n/65536 %256,n/256 %256,n %256]
def eB(n:Int):Prop:=0<=n/\n<=4611686018427387903
def nK{n:Int}(h:eB n):∀x∈aS n,W8 x:=by
 unfold eB at h;intro x a;unfold aS at a;unfold W8;split at a;simp only[cA]at a;omega;split at a;simp only[dY,sL,or_false]at a;omega;split at a;simp only[dY,sL,or_false]at a;omega;simp only[dY,sL,or_false]at a;omega
def iI(n:Int):1<=(aS n).length/\(aS n).length<=8:=by
 unfold aS;repeat' split
 all_goals simp
def ao(l:List Rg)(i:Nat):Rg:=l.getD i ⟨0,0⟩
def nL(l:List Rg)(i:Nat):Prop:=(ao l i).lo<=(ao l i).hi/\(ao l i).hi<=4611686018427387903/\(0<i->(ao l i).hi+2<=(ao l (i-1)).lo)
def iT(l:List Rg):Prop:=0<l.length/\∀i,i<l.length->nL l i
def pY(f:Fr):Prop:=f.offset<=4611686018427387903/\f.code<=4611686018427387903/\0<=f.stream/\f.stream<4
def qN(f:Fr):Prop:=(f.kind=3->iT f.ranges)/\(f.kind=5->(f.data.size:Int)<=4611686018427387903-f.offset)
def cO(f:Fr):Prop:=pY f/\qN f/\1<=f.kind/\f.kind<=6
def uH(l:List Rg)(i:Nat):List Int:=aS ((ao l i).lo-(ao l (i+1)).hi-2)++aS ((ao l (i+1)).hi-(ao l (i+1)).lo)
def jM(l:List Rg):Nat->List Int
 |0=>[]
 |j+1=>jM l j++uH l j
def my(l:List Rg):List Int:=aS (ao l 0).hi++aS ((l.length:Int)-1)++aS ((ao l 0).hi-(ao l 0).lo)
def gJ(l:List Rg):List Int:=my l++jM l (l.length-1)
def dm(f:Fr):List Int:=
 if f.kind=1 then[0]else if f.kind=2 then[1]else if f.kind=3 then 2::gJ f.ranges
 else if f.kind=4 then 4::(aS f.stream++aS f.code++aS f.offset)
 else if f.kind=5 then(if f.fin then 9 else 8)::(aS f.stream++aS f.offset++aS f.data.size++aI f.data)
 else 28::aS f.code
def bA:List Fr->List Int
 |[]=>[]
 |f::r=>dm f++bA r
def GS(l r:List Fr):bA (l++r)=bA l++bA r:=by
 induction l with
 |nil=>rfl
 |cons f l a=>simp[bA,a]
def GU(l:List Fr)(j:Nat)(h:j<l.length):bA (l.take (j+1))=bA (l.take j)++dm l[j]:=by
 rw[sH h,GS];simp[bA]
def mZ(f:Fr):Nat:=25+16*f.ranges.length+f.data.size
def gN:List Fr->Nat
 |[]=>0
 |f::r=>mZ f+gN r
def y9(l:List Rg)(j:Nat):(jM l j).length<=16*j:=by
 induction j with
 |zero=>simp[jM]
 |succ j a=>
  have b:=iI ((ao l j).lo-(ao l (j+1)).hi-2);have c:=iI ((ao l (j+1)).hi-(ao l (j+1)).lo);simp only[jM,uH,bF];omega
def wW(f:Fr):1<=(dm f).length/\(dm f).length<=mZ f:=by
 have a:=iI f.stream;have b:=iI f.code;have c:=iI f.offset;have d:=iI f.data.size;have a5:=fN f.data;have a6:=y9 f.ranges (f.ranges.length-1);have a7:=iI (ao f.ranges 0).hi;have e:=iI ((f.ranges.length:Int)-1);have g:=iI ((ao f.ranges 0).hi-(ao f.ranges 0).lo);unfold dm mZ;repeat' split
 all_goals simp only[gJ,my,cS,bF,fM];omega
def GV(l:List Fr):(bA l).length<=gN l:=by
 induction l with
 |nil=>simp[bA,gN]
 |cons f r a=>have:=wW f;simp only[bA,gN,bF];omega
def pZ{l:List Rg}(a:∀r∈l,r.ok)(h:iT l)(i:Nat)(hi:i<l.length:=by omega):eB (ao l i).lo/\eB (ao l i).hi:=by
 have b:=h.2 i hi;have c:(ao l i).ok:=a _ (by unfold ao;rw[List.getD,dT hi];exact uu hi);unfold Rg.ok aW at c;unfold nL at b;unfold eB;omega
def BI{l:List Rg}(e:∀r∈l,r.ok)(h:iT l):∀j,j<l.length->∀x∈jM l j,W8 x
 |0,_=>by intro x d;simp[jM]at d
 |j+1,f=>by
  intro x d;have a:=pZ e h j;have b:=pZ e h (j+1) f;have c:=h.2 (j+1) f;unfold nL at c;simp only[sK]at c;unfold eB at a b;simp only[jM,uH,bL]at d;obtain d|d|d:=d
  exact BI e h j (by omega) x d;exact nK (by unfold eB;omega) x d;exact nK (by unfold eB;omega) x d
def GW{l:List Rg}(e:∀r∈l,r.ok)(h:iT l)(hl:(l.length:Int)<=4611686018427387903):∀x∈my l,W8 x:=by
 have a:=pZ e h 0 h.1;have c:=(h.2 0 h.1).1;have d:=h.1;unfold eB at a;intro x b;simp only[my,bL]at b;obtain(b|b)|b:=b
 exact nK (by unfold eB;omega) x b;exact nK (by unfold eB;omega) x b;exact nK (by unfold eB;omega) x b
def fO(x:Int):Nat:=if x<64 then 1 else if x<128 then 2 else if x<192 then 4 else 8
def jo(b:List Int)(p:Nat):Nat->Int
 |0=>b.getD p 0 %64
 |k+1=>jo b p k*256+b.getD (p+k+1) 0
def cZ(b:List Int)(p:Nat):Option (Int×Nat):=
 if p+fO (b.getD p 0)<=b.length then μ (jo b p (fO (b.getD p 0)-1),p+fO (b.getD p 0))else ν
def uI(x:Int):1<=fO x/\fO x<=8:=by
 unfold fO;repeat' split
 all_goals omega
def zd{b:List Int}(a:∀x∈b,W8 x)(p:Nat):∀k,0<=jo b p k/\jo b p k<64*256^k
 |0=>by simp only[jo];omega
 |k+1=>by
  have d:=zd a p k;have c:=qL a (p+k+1);unfold W8 at c;simp only[jo,Int.pow_succ]
  generalize (256:Int)^k=q at *;omega
def lE{b:List Int}{p:Nat}{n:Int}{q:Nat}(a:∀x∈b,W8 x)(h:cZ b p=μ (n,q)):eB n/\p<q/\q<=b.length:=by
 unfold cZ at h;split at h;simp only[nH,rJ]at h;obtain⟨rfl,rfl⟩:=h;have:=uI (b.getD p 0);have c:=zd a p (fO (b.getD p 0)-1);have d:(256:Int)^(fO (b.getD p 0)-1)<=256^7:=by
  have:(256:Nat)^(fO (b.getD p 0)-1)<=256^7:=yT (by decide) (by omega);have e:∀k:Nat,(256:Int)^k=((256^k:Nat):Int):=λk=>by simp
  rw[e,e];omega
 unfold eB;omega;cases h
def ke(b:List Int)(p:Nat):Option (Int×Nat):=(cZ b p).bind λx=>if x.1<4 then μ x else ν
def oI(b:List Int)(p:Nat):Option (ByteArray×Nat):=
 (cZ b p).bind λx=>if x.1<=(b.length:Int)-(x.2:Int)then μ (strOfNums ((b.drop x.2).take x.1.toNat),x.2+x.1.toNat)else ν
def jN(b:List Int):Nat->Nat->Int->List Rg->Option (List Rg×Nat)
 |0,p,_,acc=>μ (acc,p)
 |k+1,p,lo,acc=>(cZ b p).bind λx=>(cZ b x.2).bind λy=>
  if x.1+2<=lo/\y.1<=lo-2-x.1 then jN b k y.2 (lo-2-x.1-y.1) (acc++[⟨lo-2-x.1-y.1,lo-2-x.1⟩])else ν
def jO(b:List Int)(p:Nat):Option (List Rg×Nat):=
 (cZ b p).bind λx=>(cZ b x.2).bind λy=>(cZ b y.2).bind λz=>
   if z.1<=x.1 then jN b y.1.toNat z.2 (x.1-z.1) [⟨x.1-z.1,x.1⟩]else ν
def cB(k:Int)(fin:Bool):Fr:=⟨k,0,0,0,fin,ByteArray.empty,[]⟩
def fY(b:List Int)(t:Int)(p:Nat):Option (Fr×Nat):=
 if t=0 then μ (cB 1 θ,p)else if t=1 then μ (cB 2 θ,p)
 else if t=2 then(jO b p).bind λx=>μ ({cB 3 θ with ranges:=x.1},x.2)
 else if t=4 then(ke b p).bind λx=>(cZ b x.2).bind λy=>(cZ b y.2).bind λz=>μ ({cB 4 θ with stream:=x.1,code:=y.1,offset:=z.1},z.2)
 else if t=8\/t=9 then(ke b p).bind λx=>(cZ b x.2).bind λy=>(oI b y.2).bind λz=>μ ({cB 5 (decide (t=9))with stream:=x.1,offset:=y.1,data:=z.1},z.2)
 else if t=28 then(cZ b p).bind λx=>μ ({cB 6 θ with code:=x.1},x.2)
 else ν
open Classical in
noncomputable def nM(b:List Int)(p:Nat):Option (Fr×Nat):=(fY b (b.getD p 0) (p+1)).bind λx=>if cO x.1 then μ x else ν
noncomputable def iJ(b:List Int):Nat->Nat->List Fr->Option (List Fr)×Int
 |0,p,_=>(ν,p)
 |k+1,p,acc=>if p<b.length then(match nM b p with
  |none=>(ν,p)
  |some (f,q)=>iJ b k q (acc++[f]))else(μ acc,-1)
noncomputable def fu(b:List Int):Option (List Fr)×Int:=if b.length=0 then(ν,0)else iJ b (b.length+1) 0 []
variable{Y:List Rg}
def Sm(l:List Rg)(n:Int):Prop:=∃r∈l,r.lo<=n/\n<r.hi
def aU(l:List Rg):Prop:=l.Pairwise (λa b=>a.hi<b.lo)/\∀r∈l,r.lo<r.hi
def aU.nil:aU []:=⟨List.Pairwise.nil,λr h=>by cases h⟩
def fP(n:Int):¬Sm [] n:=λ⟨r,h,_⟩=>by cases h
def dH(r:Rg)(l:List Rg)(n:Int):Sm (r::l) n↔(r.lo<=n/\n<r.hi)\/Sm l n:=by
 constructor;rintro⟨x,a,h⟩;obtain rfl|a:=dY.1 a
 exact φ h;exact ψ ⟨x,a,h⟩;rintro(h|⟨x,a,h⟩);exact⟨r,by simp,h⟩
 exact⟨x,by simp[a],h⟩
def sT(l r:List Rg)(n:Int):Sm (l++r) n↔Sm l n\/Sm r n:=by
 induction l with
 |nil=>simp[fP]
 |cons x l a=>rw[pT,dH,dH,a,or_assoc]
def aU.tail{r:Rg}(h:aU (r::Y)):aU Y:=⟨(kK.1 h.1).2,λx a=>h.2 x (by simp[a])⟩
def aU.behind{r:Rg}(h:aU (r::Y))(a:Sm Y p):r.hi<p:=by
 obtain⟨x,b,c,d⟩:=a;have:=(kK.1 h.1).1 x b;omega
def aU.append{r:List Rg}(c:aU Y)(d:aU r)(h:∀a∈Y,∀b∈r,a.hi<b.lo):aU (Y++r):=
 ⟨uj.2 ⟨c.1,d.1,h⟩,λx e=>(bL.1 e).elim (c.2 x) (d.2 x)⟩
def aU.one{x:Rg}(h:x.lo<x.hi):aU [x]:=⟨wu _ _,λy a=>by simp at a;subst a;exact h⟩
def aU.sub{r:List Rg}(h:aU Y)(hs:r.Sublist Y):aU r:=⟨h.1.sublist hs,λx a=>h.2 x (hs.subset a)⟩
def aU.unique{r:List Rg}(c:aU Y)(e:aU r)(h:∀n,Sm Y n↔Sm r n):Y=r:=by
 induction Y generalizing r with
 |nil=>
  cases r with
  |nil=>rfl
  |cons y r=>
   have:=(h y.lo).2 ⟨y,by simp,cE _,e.2 y (by simp)⟩;exact absurd this (fP _)
 |cons x Y k=>
  cases r with
  |nil=>
   have:=(h x.lo).1 ⟨x,by simp,cE _,c.2 x (by simp)⟩;exact absurd this (fP _)
  |cons y r=>
   have l:=c.2 x (by simp);have m:=e.2 y (by simp);have g:=(dH y r x.lo).1 ((h x.lo).1 ⟨x,by simp,cE _,l⟩);have b:=(dH x Y y.lo).1 ((h y.lo).2 ⟨y,by simp,cE _,m⟩);have i:x.lo=y.lo:=by
    obtain g|g:=g
    obtain b|b:=b
    omega;have:=c.behind b;omega;have:=e.behind g;obtain b|b:=b
    omega;have:=c.behind b;omega
   have b1:¬Sm (x::Y) x.hi:=λa=>by
    obtain a|a:=(dH _ _ _).1 a
    omega;have:=c.behind a;omega
   have b2:¬Sm (y::r) y.hi:=λa=>by
    obtain a|a:=(dH _ _ _).1 a
    omega;have:=e.behind a;omega
   have j:x.hi=y.hi:=by
    obtain p|he|q:=Int.lt_trichotomy x.hi y.hi
    exact absurd ((h x.hi).2 ⟨y,by simp,by omega,p⟩) b1;exact he;exact absurd ((h y.hi).1 ⟨x,by simp,by omega,q⟩) b2
   obtain⟨s,t⟩:=x;obtain⟨u,v⟩:=y;simp only at i j;subst i j;congr 1;refine k c.tail e.tail (λn=>?_);have a:=h n;rw[dH,dH]at a;constructor;intro f;have:=c.behind f;obtain d|d:=a.1 (ψ f)
   simp only at this d;omega;exact d;intro f;have:=e.behind f;obtain d|d:=a.2 (ψ f)
   simp only at this d;omega;exact d
def kh(h:i<Y.length):ao Y i∈Y:=by
 unfold ao;rw[List.getD,dT h];exact uu h
def zh{r:Rg}(h:r∈Y.take i):∃k,k<i/\k<Y.length/\r=ao Y k:=by
 obtain⟨k,a,rfl⟩:=j8.1 h;rw[ct]at a;refine⟨k,by omega,by omega,?_⟩
 rw[wG,ao,List.getD,dT (by omega)];rfl
def sU{r:Rg}(h:r∈Y.drop i):∃k,i<=k/\k<Y.length/\r=ao Y k:=by
 obtain⟨k,a,rfl⟩:=j8.1 h;rw[dO]at a;refine⟨i+k,by omega,by omega,?_⟩
 rw[wH,ao,List.getD,dT (by omega)];rfl
def aU.lt(h:aU Y){i k:Nat}(b:i<k)(a:k<Y.length):(ao Y i).hi<(ao Y k).lo:=by
 have:=List.pairwise_iff_getElem.1 h.1 i k (by omega) a b;simpa [ao,List.getD,dT a,dT (show i<Y.length by omega)]using this
def aU.pos(h:aU Y)(hi:i<Y.length):(ao Y i).lo<(ao Y i).hi:=h.2 _ (kh hi)
def mz(n k:Nat)(p:Nat->Prop):Prop:=k<=n/\(∀i,i<k->¬p i)/\∀i,k<=i->i<n->p i
def GX(h:aU Y)(e:p<q)(hi:mz Y.length i (λk=>p<=(ao Y k).hi))(a:mz Y.length j (λk=>q<(ao Y k).lo)):i<=j:=by
 obtain⟨f,b,g⟩:=hi;obtain⟨l,m,c⟩:=a;by_cases d:i<=j;exact d;have n:=b j (by omega);have r:=c j (aP _) (by omega);have s:=h.pos (i:=j) (by omega);omega
def wX(l:List Rg)(x:Rg)(i j:Nat):List Rg:=
 l.take i++((if i<j then⟨min x.lo (ao l i).lo,max x.hi (ao l (j-1)).hi⟩else x)::l.drop j)
def GY{x:Rg}(h:aU Y)(I:x.lo<x.hi)(hi:mz Y.length i (λk=>x.lo<=(ao Y k).hi))(v:mz Y.length j (λk=>x.hi<(ao Y k).lo)):
 aU (wX Y x i j)/\∀n,Sm (wX Y x i j) n↔Sm Y n\/(x.lo<=n/\n<x.hi):=by
 obtain⟨K,s,w⟩:=hi;obtain⟨L,z,t⟩:=v;have M:i<=j:=by
  by_cases A:i<=j;exact A;have N:=s j (by omega);have O:=t j (aP _) (by omega);have P:=h.pos (i:=j) (by omega);omega
 obtain⟨y,d⟩:∃y:Rg,y=(if i<j then⟨min x.lo (ao Y i).lo,max x.hi (ao Y (j-1)).hi⟩else x):=⟨_,rfl⟩
 have Q:y.lo<=x.lo/\x.hi<=y.hi:=by
  rw[d];split;simp only;omega;omega
 have B:∀k,k<i->(ao Y k).hi<y.lo:=λk f=>by
  have a:=s k f;rw[d];split;have:=h.lt f (show i<Y.length by omega);simp only;omega;omega
 have C:∀k,j<=k->k<Y.length->y.hi<(ao Y k).lo:=λk f u=>by
  have a:=t k f u;rw[d];split;have:=h.lt (show j-1<k by omega) u;simp only;omega;omega
 have D:wX Y x i j=Y.take i++(y::Y.drop j):=by rw[d];rfl
 rw[D];constructor;refine(h.sub (List.take_sublist i Y)).append ⟨kK.2 ⟨λb g=>?_,(h.sub (List.drop_sublist j Y)).1⟩,λr c=>?_⟩ (λa E b g=>?_);obtain⟨k,l,q,rfl⟩:=sU g;exact C k l q;obtain rfl|c:=dY.1 c
 omega;exact h.2 r (iH c);obtain⟨k,l,q,rfl⟩:=zh E;have e1:=B k l;obtain rfl|g:=dY.1 g
 exact e1;obtain⟨m,m1,F,rfl⟩:=sU g;exact h.lt (by omega) F;intro n;rw[sT,dH];have hl:Y=Y.take i++((Y.drop i).take (j-i)++Y.drop j):=by
  have e:Y.drop j=(Y.drop i).drop (j-i):=by rw[uv];congr 1;omega
  rw[e,pR,pR]
 have G:∀r∈(Y.drop i).take (j-i),∃k,i<=k/\k<j/\r=ao Y k:=λr c=>by
  obtain⟨k,f,rfl⟩:=j8.1 c;rw[ct,dO]at f;refine⟨i+k,by omega,by omega,?_⟩
  rw[wG,wH,ao,List.getD,dT (by omega)];rfl
 have jq:Sm Y n↔Sm (Y.take i) n\/Sm ((Y.drop i).take (j-i)) n\/Sm (Y.drop j) n:=by
  rw[hl];simp only[sT]
  rw[<-hl]
 rw[jq];constructor;rintro(a|a|a);exact φ (φ a);by_cases H:x.lo<=n/\n<x.hi;exact ψ H;left;right;left;rw[d]at a;split at a;rename_i p;simp only at a;by_cases R:n<x.lo;exact⟨ao Y i,by
  rw[j8];refine⟨0,by rw[ct,dO];omega,?_⟩
  rw[wG,wH,ao,List.getD,dT (by omega)];rfl,by omega,by have:=w i (aP _) (by omega);omega⟩
 exact⟨ao Y (j-1),by
  rw[j8];refine⟨j-1-i,by rw[ct,dO];omega,?_⟩
  rw[wG,wH,ao,List.getD,dT (by omega)];simp only[Option.getD_some]
  congr 1;omega,by have:=z (j-1) (by omega);omega,by omega⟩
 omega;exact φ (ψ (ψ a));rintro((a|⟨r,c,a⟩|a)|a);exact φ a;right;left;obtain⟨k,l,q,rfl⟩:=G r c;rw[d,iP_];simp only
 have e1:(ao Y i).lo<=(ao Y k).lo:=by
  obtain p|rfl:=sJ l
  have:=h.lt p (by omega);have:=h.pos (i:=i) (by omega);omega;omega
 have e2:(ao Y k).hi<=(ao Y (j-1)).hi:=by
  obtain p|he:=sJ (show k<=j-1 by omega)
  have:=h.lt p (by omega);have:=h.pos (i:=j-1) (by omega);omega;rw[he];omega
 omega;exact ψ (ψ a);right;left;omega
def GZ{r:Rg}:r∈(Y.drop i).take (j-i)->∃k,i<=k/\k<j/\k<Y.length/\r=ao Y k:=λa=>by
 obtain⟨k,b,rfl⟩:=j8.1 a;rw[ct,dO]at b;refine⟨i+k,by omega,by omega,by omega,?_⟩
 rw[wG,wH,ao,List.getD,dT (by omega)];rfl
def G4(l:List Rg)(a:i<=j)(n:Int):Sm l n↔Sm (l.take i) n\/Sm ((l.drop i).take (j-i)) n\/Sm (l.drop j) n:=by
 have hl:l=l.take i++((l.drop i).take (j-i)++l.drop j):=by
  have e:l.drop j=(l.drop i).drop (j-i):=by rw[uv];congr 1;omega
  rw[e,pR,pR]
 have:Sm (l.take i++((l.drop i).take (j-i)++l.drop j)) n↔Sm (l.take i) n\/Sm ((l.drop i).take (j-i)) n\/Sm (l.drop j) n:=by simp only[sT]
 rwa[<-hl]at this
def BJ(b:i<=k)(c:k<j)(a:k<Y.length:=by omega):ao Y k∈(Y.drop i).take (j-i):=by
 rw[j8];refine⟨k-i,by rw[ct,dO];omega,?_⟩
 rw[wG,wH,ao,List.getD,dT a];simp only[Option.getD_some]
 congr 1;omega
def wY(l:List Rg)(x:Rg)(i j:Nat):List Rg:=
 l.take i++((if(ao l i).lo<x.lo then[⟨(ao l i).lo,x.lo⟩]else[])++((if x.hi<(ao l (j-1)).hi then[⟨x.hi,(ao l (j-1)).hi⟩]else[])++l.drop j))
def G7{x:Rg}(h:aU Y)(L:x.lo<x.hi)(u:i<j)(hi:mz Y.length i (λk=>x.lo<(ao Y k).hi))(y:mz Y.length j (λk=>x.hi<=(ao Y k).lo)):
 aU (wY Y x i j)/\∀n,Sm (wY Y x i j) n↔Sm Y n/\¬(x.lo<=n/\n<x.hi):=by
 obtain⟨M,z,A⟩:=hi;obtain⟨N,B,C⟩:=y;have O:=h.pos (i:=i) (by omega);have P:=h.pos (i:=j-1) (by omega);have ci:=A i (aP _) (by omega);have Q:=B (j-1) (by omega);have D:∀k,k<i->(ao Y k).hi<(ao Y i).lo:=λk f=>h.lt f (by omega)
 have v:∀k,k<i->(ao Y k).hi<=x.lo:=λk f=>by have:=z k f;omega
 have E:∀k,j<=k->k<Y.length->(ao Y (j-1)).hi<(ao Y k).lo:=λk f s=>h.lt (by omega) s
 have w:∀k,j<=k->k<Y.length->x.hi<=(ao Y k).lo:=λk f s=>C k f s
 have F:aU (if(ao Y i).lo<x.lo then[⟨(ao Y i).lo,x.lo⟩]else[]):=by
  split;exact aU.one (by assumption);exact aU.nil
 have G:aU (if x.hi<(ao Y (j-1)).hi then[⟨x.hi,(ao Y (j-1)).hi⟩]else[]):=by
  split;exact aU.one (by assumption);exact aU.nil
 have t:∀r∈(if(ao Y i).lo<x.lo then[(⟨(ao Y i).lo,x.lo⟩:Rg)]else[]),r.lo=(ao Y i).lo/\r.hi=x.lo/\(ao Y i).lo<x.lo:=λr c=>by
  split at c;simp only[cA]at c;subst c;exact⟨rfl,rfl,by assumption⟩
  cases c
 have q:∀r∈(if x.hi<(ao Y (j-1)).hi then[(⟨x.hi,(ao Y (j-1)).hi⟩:Rg)]else[]),r.lo=x.hi/\r.hi=(ao Y (j-1)).hi/\x.hi<(ao Y (j-1)).hi:=λr c=>by
  split at c;simp only[cA]at c;subst c;exact⟨rfl,rfl,by assumption⟩
  cases c
 constructor;refine(h.sub (List.take_sublist i Y)).append (F.append (G.append (h.sub (List.drop_sublist j Y)) (λa p b d=>?_)) (λa p b d=>?_)) (λa p b d=>?_);obtain⟨k,g,l,rfl⟩:=sU d;have:=q a p;have:=E k g l;omega;have m1:=t a p;obtain d|d:=bL.1 d
 have:=q b d;omega;obtain⟨k,g,l,rfl⟩:=sU d;have:=w k g l;omega;obtain⟨k,g,l,rfl⟩:=zh p;have e1:=D k g;have e2:=v k g;obtain d|d:=bL.1 d
 have:=t b d;omega;obtain d|d:=bL.1 d
 have:=q b d;omega;obtain⟨m,m1,H,rfl⟩:=sU d;exact h.lt (by omega) H;intro n;rw[G4 Y (Nat.le_of_lt u) n];unfold wY;simp only[sT]
 have tk:Sm (Y.take i) n->n<x.lo:=λ⟨r,c,a⟩=>by
  obtain⟨k,g,l,rfl⟩:=zh c;have:=v k g;omega
 have I:Sm (Y.drop j) n->x.hi<=n:=λ⟨r,c,a⟩=>by
  obtain⟨k,g,l,rfl⟩:=sU c;have:=w k g l;omega
 constructor;rintro(a|⟨r,c,a⟩|⟨r,c,a⟩|a);exact⟨φ a,by have:=tk a;omega⟩
 have m1:=t r c;exact⟨ψ (φ ⟨ao Y i,BJ (aP _) u,by omega,by omega⟩),by omega⟩
 have m1:=q r c;exact⟨ψ (φ ⟨ao Y (j-1),BJ (by omega) (by omega),by omega,by omega⟩),by omega⟩
 exact⟨ψ (ψ a),by have:=I a;omega⟩
 rintro⟨a|⟨r,c,a⟩|a,R⟩;exact φ a;obtain⟨k,g,l,k3,rfl⟩:=GZ c;by_cases K:n<x.lo;right;left;have e:k=i:=by
  obtain f|f:=sJ g
  have:=h.lt f k3;omega;exact f.symm
 subst e;rw[iP_];exact⟨_,cA.2 rfl,a.1,K⟩
 right;right;left;have e:k=j-1:=by
  obtain f|f:=sJ (show k<=j-1 by omega)
  have:=h.lt f (by omega);omega;exact f
 subst e;rw[iP_];exact⟨_,cA.2 rfl,by show x.hi<=n;omega,a.2⟩
 exact ψ (ψ (ψ a))
def G9{x:Rg}(h:aU Y)(j:x.lo<x.hi):(∃r∈Y,r.lo<=x.lo/\x.hi<=r.hi)↔∀n,x.lo<=n->n<x.hi->Sm Y n:=by
 constructor;rintro⟨r,c,e,k⟩ n l m;exact⟨r,c,by omega,by omega⟩
 intro f;obtain⟨r,c,e,k⟩:=f x.lo (cE _) j;refine⟨r,c,e,?_⟩
 by_cases p:x.hi<=r.hi;exact p;obtain⟨s,hs,l,m⟩:=f r.hi (by omega) (by omega);obtain⟨a,g,rfl⟩:=j8.1 c;obtain⟨b,i,rfl⟩:=j8.1 hs;obtain d|rfl|d:=Nat.lt_trichotomy a b
 have:=List.pairwise_iff_getElem.1 h.1 a b g i d;omega;omega;have:=List.pairwise_iff_getElem.1 h.1 b a i g d;have:=h.2 _ c;omega
structure dP(w:ω)(c:Nat)(v:υ)(b:ω)(a:υ)(m:List Int):Prop where
 own:bn b c a m
 gb:γ w b v.ownBlock
 aV:a.ownBlock=v.ownBlock\/∃k,a.ownBlock=μ k/\w.heap.size<=k
def dP.refl(h:bn w n x L):dP w n x w x L:=⟨h,aD _ _,φ rfl⟩
def dP.still(h:dP w n x W y L)(g:γ W V ν):dP w n x V y L:=
 ⟨h.own.au g,cT h.gb g (λ_ e=>by cases e),h.aV⟩
def dP.trans(h:dP w n x W y L)(k:dP W n y V z K):dP w n x V z K:=
 ⟨k.own,cT h.gb k.gb (λj e=>by
  obtain aa|⟨b,a,hle⟩:=h.aV
  exact ψ aa
  ·rw[a]at e;cases e;exact φ hle),by
  have hs:=h.gb.size;obtain c|⟨b,a,hle⟩:=k.aV
  rw[c];exact h.aV
  ·exact ψ ⟨b,a,by omega⟩⟩
def dP.app{a:ω}(h:dP w n x W y L)(g:γ W V ν)(b:bn a n z K)(c:γ V a y.ownBlock)(d:z.ownBlock=y.ownBlock\/z.ownBlock=μ V.heap.size):dP w n x a z K:=
 (h.still g).trans ⟨b,c,by
   obtain e|e:=d
   exact φ e
   ·exact ψ ⟨_,e,aP _⟩⟩
def dP.apart(h:dP w n x W y L){B:Nat}(b:B<w.heap.size)(a:x.ownBlock≠μ B):W.heap[B]?=w.heap[B]? /\y.ownBlock≠μ B:=by
 refine⟨h.gb.block B b (λe=>a e.symm),λe=>?_⟩
 obtain aa|⟨k,c,hle⟩:=h.aV
 exact a (aa.symm.trans e);rw[c]at e;cases e;omega
def dP.size(h:dP w n x W y L):w.heap.size<=W.heap.size:=h.gb.size
def dP.iy(h:dP w k x W (σ a n i) L):bN W a n i L:=h.own.iy
def pw(n:Int):Int:=if n<64 then 0 else if n<16384 then 1 else if n<1073741824 then 2 else 3
def BK(n:Int)(w:ω):Calls prog 295 #[ι η n] w λe d=>e=ξ (ι δ (pw n))/\d=w:=by
 unfold pw;by_cases a:n<64
 ·have e1:decide (n<64)=ρ:=by simp[a]
  go_enter func295,ntmps295;go_wp2;go_ret;exact⟨by simp,rfl⟩
 have e1:decide (n<64)=θ:=by simp[a]
 by_cases b:n<16384
 ·have e2:decide (n<16384)=ρ:=by simp[b]
  go_enter func295,ntmps295;go_wp2;go_ret;exact⟨by simp,rfl⟩
 have e2:decide (n<16384)=θ:=by simp[b]
 by_cases c:n<1073741824
 ·have f:decide (n<1073741824)=ρ:=by simp[c]
  go_enter func295,ntmps295;go_wp2;go_ret;exact⟨by simp,rfl⟩
 have f:decide (n<1073741824)=θ:=by simp[c]
 go_enter func295,ntmps295;go_wp2;go_ret;exact⟨by simp,rfl⟩
def ki(m:Int)(k:Nat):List Int:=(List.range k).map λi=>m/2^(8*(k-1)-8*i) %256
def BL(m:Int)(k:Nat):(ki m k).length=k:=by simp[ki]
def Ha(m:Int)(k j:Nat)(h:j<k):(ki m k).take (j+1)=(ki m k).take j++[m/2^(8*(k-1)-8*j) %256]:=by
 have hl:j<(ki m k).length:=by rw[BL];exact h
 rw[sH hl];simp[ki]
def wZ(n:Int)(p k:Nat)(h0:0<=n)(b:n<(2^k:Nat))(c:p*2^k+2^k<=18446744073709551616):bits .or η n ((p*2^k:Nat):Int)=n+((p*2^k:Nat):Int):=by
 obtain⟨m,rfl⟩:=qE h0;have a:m<2^k:=by omega
 rw[u64_or_nat _ _ (by omega) (by omega)];have:=yQ a p;rw[Nat.shiftLeft_eq]at this;rw[Nat.or_comm,<-this];omega
def Hb(h:p<64)(h0:0<=p):aS p=ki p 1:=by
 simp[aS,ki,h];omega
def Hc(h:¬p<64)(a:p<16384):aS p=ki (p+16384) 2:=by
 simp[aS,ki,h,a,wI];omega
def He(h:¬p<64)(a:¬p<16384)(b:p<1073741824):aS p=ki (p+2147483648) 4:=by
 simp[aS,ki,h,a,b,wI];omega
def Hf(h:¬p<64)(a:¬p<16384)(b:¬p<1073741824)(c:eB p):aS p=ki (p+13835058055282163712) 8:=by
 unfold eB at c;simp[aS,ki,h,a,b,wI];omega
def dU(p:Prop)(e:Ending):Prop:=∃b:Bool,e=ξ (β b)/\(b=ρ↔p)
def sV{p:Prop}(h:p):dU p (ξ (β ρ)):=⟨ρ,rfl,by simp[h]⟩
def mC{p:Prop}(h:¬p):dU p (ξ (β θ)):=⟨θ,rfl,by simp[h]⟩
def oJ{p q:Prop} [Decidable q](h:q↔p):dU p (ξ (β (decide q))):=⟨_,rfl,by simp[h]⟩
def cF(l:List Rg):List υ:=l.flatMap λr=>[ι η r.lo,ι η r.hi]
def bq(w:ω)(a:Option Addr)(n cap:Nat)(l:List Rg):Prop:=
 (∀r∈l,r.ok)/\n=l.length/\n<=cap/\cap<=maxLen/\(cap=0\/∃b o,a=μ ⟨b,o,ν⟩/\w.rangeAt b o (cF l))
def rN(l:List Rg):(cF l).length=l.length*2:=by
 induction l with
 |nil=>rfl
 |cons r l a=>simp only[cF,rI,bF,cS,fM]at *;omega
def BM(l:List Rg)(i:Nat)(h:i<l.length):(cF l)[i*2]?=μ (ι η (ao l i).lo)/\(cF l)[i*2+1]?=μ (ι η (ao l i).hi):=by
 induction l generalizing i with
 |nil=>simp at h
 |cons r l a=>
  cases i with
  |zero=>simp[cF,ao]
  |succ i=>
   have:=a i (by simpa using h);have e1:(i+1)*2=i*2+1+1:=by omega
   have e2:(i+1)*2+1=i*2+1+1+1:=by omega
   rw[e2,e1];simp only[cF,rI,pT,jL,List.getElem?_cons_succ,ao,List.getD_cons_succ]at this⊢;exact this
def pF(h:∀r∈Y,r.ok)(i:Nat):(ao Y i).ok:=by
 unfold ao;by_cases hi:i<Y.length;rw[List.getD,dT hi];exact h _ (uu hi);rw[List.getD,nG (by omega)];exact⟨by simp[aW],by simp[aW]⟩
def bq.au(h:bq w a n k Y)(g:γ w W ν):bq W a n k Y:=by
 obtain⟨d,e,f,i,c⟩:=h;refine⟨d,e,f,i,?_⟩
 obtain c|⟨b,o,rfl,c⟩:=c
 exact φ c;exact ψ ⟨b,o,rfl,jn c g (by simp)⟩
def bq.cell(h:bq w (μ ⟨b,o,ν⟩) n k Y)(i:Nat)(hi:i<Y.length):κ w ⟨b,o+i*2,ν⟩=μ (ι η (ao Y i).lo)/\κ w ⟨b,o+i*2+1,ν⟩=μ (ι η (ao Y i).hi):=by
 obtain⟨-,a,d,-,h|⟨f,g,e,c⟩⟩:=h;omega;cases e;have:=BM Y i hi;refine⟨c _ _ this.1,?_⟩
 have a:=c _ _ this.2;rwa[<-qJ]at a
def Hg(h:∀i,i<j->nL Y i)(a:nL Y j):∀i,i<j+1->nL Y i:=λi hi=>by
 obtain b|rfl:=qC.1 hi
 exact h i b;exact a
def Hh(a:Option Addr)(n cap:Nat)(l:List Rg)(w:ω)(h:bq w a n cap l):
 Calls prog 234 #[σ a n cap] w λe u=>dU (iT l) e/\γ w u ν:=by
 have v:n=l.length:=h.2.1;subst v;have C:=h.2.2.1;have x:=h.2.2.2.1;unfold maxLen at x;go_enter func234,ntmps234;go_wp2;go_loopw [7] (λi wr=>∃j:Nat,j<=l.length/\i=ι δ j/\(∀i,i<j->nL l i)/\γ w wr ν) (λi _=>l.length-(intOf i).toNat);case atStart=>exact⟨0,by omega,rfl,λi hi=>by omega,aD _ _⟩
 case round=>
  obtain⟨j,D,rfl,m,d⟩:=hrel;by_cases p:j<l.length
  ·have q:=h.au d;obtain⟨-,-,-,-,h0|⟨b,o,rfl,-⟩⟩:=id q;omega;obtain⟨c1,c2⟩:=q.cell j p;have r:=pF h.1 j;obtain⟨⟨y,z⟩,k3,k4⟩:=r;obtain⟨lo,f⟩:=exq ((ao l j).lo);obtain⟨hi,c⟩:=exq ((ao l j).hi);rw[<-f]at c1 y z;rw[<-c]at c2 k3 k4;replace⟨f,c,m⟩:=cz f c m;have E:Hid (0<l.length):=J (by omega);by_cases F:hi<lo
   ·go_wp2_with fail;go_ret;exact⟨mC (λg=>by have:=(g.2 j p).1;rw[<-Z f,<-Z c]at this;omega),bk d _⟩
   by_cases G:4611686018427387903<hi
   ·go_wp2_with fail;go_ret;exact⟨mC (λg=>by have:=(g.2 j p).2.1;rw[<-Z c]at this;omega),bk d _⟩
   obtain _|i:=j
   ·rw[oH,px]at c1 c2;have H:decide ((0:Int)<0)=θ:=by simp
    go_wp2_with fail;go_quiet (fail);go_wp2;go_roundw;case rel=>exact⟨1,by omega,by simp,λi hi=>by
     obtain rfl:i=0:=by omega
     exact⟨by rw[<-Z f,<-Z c];omega,by rw[<-Z c];omega,λh=>by omega⟩,dv (bk d _) _⟩
    case measure=>simp[intOf];omega
   obtain⟨c3,-⟩:=(q.au (aJ wr (ο #[ι η lo,ι η hi] 200) ν)).cell i (by omega);have r:=pF h.1 i;obtain⟨⟨k5,A⟩,-⟩:=r;obtain⟨s,k⟩:=exq ((ao l i).lo);rw[<-k]at c3 k5 A;replace k:=J k;have I:IntKind.i64.wrap (i:Int)=(i:Int):=by simp[IntKind.wrap,IntKind.bits,IntKind.signed];omega
   have K:IntKind.u64.wrap (hi+1)=hi+1:=by rw[fW];omega
   have L:(0:Int)<=i:=by omega
   have M:(i:Int)<l.length:=by omega
   by_cases t:s<=hi+1
   ·have B:decide (s<=hi+1)=ρ:=by simp[t]
    go_wp2_with fail;go_quiet (fail);go_wp2;go_ret;exact⟨mC (λg=>by have:=(g.2 (i+1) p).2.2 (by omega);rw[sK,<-Z c,<-Z k]at this;omega),dv (bk d _) _⟩
   have B:decide (s<=hi+1)=θ:=by simp[t]
   go_wp2_with fail;go_quiet (fail);go_wp2;go_roundw;case rel=>
    refine⟨i+1+1,by omega,by simp,Hg (Z m) ⟨by rw[<-Z f,<-Z c];omega,by rw[<-Z c];omega,λ_=>?_⟩,dv (bk d _) _⟩
    rw[sK,<-Z c,<-Z k];omega
   case measure=>simp[intOf];omega
  obtain rfl:j=l.length:=by omega
  go_wp2;go_ret;refine⟨oJ ⟨λhp=>⟨by omega,m⟩,λhp=>by have:=hp.1;omega⟩,d⟩
def xd(n f:Nat)(lb:Array υ)(w:ω)(p:Nat->Prop)(K:n<=4611686018427387903)(l:∀i j,i<=j->j<n->p i->p j)
 (eg:∀args w,(callFunc f args).run prog w=.ok (.enter f args) w)
 (r:∀(W:ω)(h:Nat),γ w W ν->h<n->Calls prog f (#[ι δ h]++lb) W (λe B=>dU (p h) e/\γ W B ν)):
 Calls prog 248 #[ι δ n,.func (.func f) #[] lb] w λe a=>(∃k:Nat,e=ξ (ι δ k)/\mz n k p)/\γ w a ν:=by
 obtain⟨R,s⟩:∃R:Ending->Prop,R=λe=>∃k:Nat,e=ξ (ι δ k)/\mz n k p:=⟨_,rfl⟩
 have t:∀k:Nat,mz n k p->R (ξ (ι δ k)):=λk h=>by rw[s];exact⟨k,rfl,h⟩
 have y:(λe a=>(∃k:Nat,e=ξ (ι δ k)/\mz n k p)/\γ w a ν)=λe a=>R e/\γ w a ν:=by rw[s]
 rw[y];clear y s;replace⟨t,r,l⟩:=cz t r l;go_enter func248,ntmps248;go_wp2;go_loopw [5,6] (λu v wr=>∃i j:Nat,i<=j/\j<=n/\u=ι δ i/\v=ι δ j/\(∀m,m<i->¬p m)/\(∀m,j<=m->m<n->p m)/\γ w wr ν) (λu v _=>(intOf v-intOf u).toNat);case atStart=>exact⟨0,n,by omega,aP _,rfl,rfl,λm C=>by omega,λm c d=>by omega,aD _ _⟩
 case round=>
  obtain⟨i,j,L,D,rfl,rfl,c,d,g⟩:=hrel;replace⟨c,d⟩:=bD c d;by_cases M:i<j
  ·have d1:decide ((i:Int)<j)=ρ:=dT_;obtain⟨h,E⟩:∃h:Nat,h=(i+j)/2:=⟨_,rfl⟩
   have N:((i:Int)+j)/2=(h:Int):=by omega
   have F:i<=h:=by omega
   have O:h<j:=by omega
   clear E;go_wp2_with fail;apply(Z r wr h g (by omega)).mono;rintro e P⟨⟨b,rfl,q⟩,G⟩;have z:=aq g G;cases b
   ·have H:Hid (¬p h):=J (λhp=>by cases q.2 hp);clear q;go_wp2;go_roundw;case rel=>
     refine⟨h+1,j,by omega,D,by simp,rfl,λm C hp=>?_,Z d,z⟩
     exact Z H (Z l m h (by omega) (by omega) hp)
    case measure=>simp[intOf];omega
   have I:Hid (p h):=J (q.1 rfl);clear q;go_wp2;go_roundw;case rel=>
    refine⟨i,h,F,by omega,rfl,rfl,Z c,λm A x=>?_,z⟩
    exact Z l h m A x (Z I)
   case measure=>simp[intOf];omega
  have d1:decide ((i:Int)<j)=θ:=dF_;go_wp2;go_ret;exact⟨Z t i ⟨by omega,Z c,λm A x=>Z d m (by omega) x⟩,g⟩
def p7(W:ω)(bs b:Nat)(a:Option Addr)(n cap:Nat)(l:List Rg)(x:Rg):Prop:=
 κ W ⟨bs,0,ν⟩=μ (σ a n cap)/\κ W ⟨b,0,ν⟩=μ (ι η x.lo)/\κ W ⟨b,1,ν⟩=μ (ι η x.hi)/\bq W a n cap l/\x.ok
def p7.au{x:Rg}(h:p7 W k i a n j Y x)(g:γ W w ν):p7 w k i a n j Y x:=
 ⟨gC_ g h.1,gC_ g h.2.1,gC_ g h.2.2.1,h.2.2.2.1.au g,h.2.2.2.2⟩
def Hi(W:ω)(bs g i n cap:Nat)(a:Option Addr)(l:List Rg)(x:Rg)(h:p7 W bs g a n cap l x)(hi:i<n):
 Calls prog 249 #[ι δ i,π (μ ⟨bs,0,ν⟩),π (μ ⟨g,0,ν⟩)] W λe k=>dU (x.lo<=(ao l i).hi) e/\γ W k ν:=by
 obtain⟨s,m,p,c,t⟩:=h;have j:n=l.length:=c.2.1;have u:=c.2.2.1;have r:=c.2.2.2.1;unfold maxLen at r;obtain⟨-,-,-,-,h0|⟨b,o,rfl,-⟩⟩:=id c;omega;obtain⟨c1,c2⟩:=c.cell i (by omega);replace j:=J j;obtain⟨q,d⟩:=exq ((ao l i).hi);rw[<-d]at c2⊢;replace d:=J d;obtain⟨y,f⟩:=exq x.lo;rw[<-f]at m⊢;replace f:=J f;have v:(i:Int)<n:=by omega
 clear c1 p;go_enter func249,ntmps249;go_wp2_with fail;go_quiet (fail);go_wp2;go_ret;exact⟨oJ (by simp),dv (aD _ _) _⟩
def Hj(W:ω)(bs g i n cap:Nat)(a:Option Addr)(l:List Rg)(x:Rg)(h:p7 W bs g a n cap l x)(hi:i<n):
 Calls prog 250 #[ι δ i,π (μ ⟨bs,0,ν⟩),π (μ ⟨g,0,ν⟩)] W λe k=>dU (x.hi<(ao l i).lo) e/\γ W k ν:=by
 obtain⟨s,m,p,c,t⟩:=h;have j:n=l.length:=c.2.1;have u:=c.2.2.1;have r:=c.2.2.2.1;unfold maxLen at r;obtain⟨-,-,-,-,h0|⟨b,o,rfl,-⟩⟩:=id c;omega;obtain⟨c1,c2⟩:=c.cell i (by omega);replace j:=J j;obtain⟨q,d⟩:=exq ((ao l i).lo);rw[<-d]at c1⊢;replace d:=J d;obtain⟨y,f⟩:=exq x.hi;rw[<-f]at p⊢;replace f:=J f;have v:(i:Int)<n:=by omega
 clear c2 m;go_enter func250,ntmps250;go_wp2_with fail;go_quiet (fail);go_wp2;go_ret;exact⟨oJ (by simp),dv (aD _ _) _⟩
def Hk(W:ω)(bs g i n cap:Nat)(a:Option Addr)(l:List Rg)(x:Rg)(h:p7 W bs g a n cap l x)(hi:i<n):
 Calls prog 297 #[ι δ i,π (μ ⟨bs,0,ν⟩),π (μ ⟨g,0,ν⟩)] W λe k=>dU (x.lo<(ao l i).hi) e/\γ W k ν:=by
 obtain⟨s,m,p,c,t⟩:=h;have j:n=l.length:=c.2.1;have u:=c.2.2.1;have r:=c.2.2.2.1;unfold maxLen at r;obtain⟨-,-,-,-,h0|⟨b,o,rfl,-⟩⟩:=id c;omega;obtain⟨c1,c2⟩:=c.cell i (by omega);replace j:=J j;obtain⟨q,d⟩:=exq ((ao l i).hi);rw[<-d]at c2⊢;replace d:=J d;obtain⟨y,f⟩:=exq x.lo;rw[<-f]at m⊢;replace f:=J f;have v:(i:Int)<n:=by omega
 clear c1 p;go_enter func297,ntmps297;go_wp2_with fail;go_quiet (fail);go_wp2;go_ret;exact⟨oJ (by simp),dv (aD _ _) _⟩
def Hl(W:ω)(bs g i n cap:Nat)(a:Option Addr)(l:List Rg)(x:Rg)(h:p7 W bs g a n cap l x)(hi:i<n):
 Calls prog 298 #[ι δ i,π (μ ⟨bs,0,ν⟩),π (μ ⟨g,0,ν⟩)] W λe k=>dU (x.hi<=(ao l i).lo) e/\γ W k ν:=by
 obtain⟨s,m,p,c,t⟩:=h;have j:n=l.length:=c.2.1;have u:=c.2.2.1;have r:=c.2.2.2.1;unfold maxLen at r;obtain⟨-,-,-,-,h0|⟨b,o,rfl,-⟩⟩:=id c;omega;obtain⟨c1,c2⟩:=c.cell i (by omega);replace j:=J j;obtain⟨q,d⟩:=exq ((ao l i).lo);rw[<-d]at c1⊢;replace d:=J d;obtain⟨y,f⟩:=exq x.hi;rw[<-f]at p⊢;replace f:=J f;have v:(i:Int)<n:=by omega
 clear c2 m;go_enter func298,ntmps298;go_wp2_with fail;go_quiet (fail);go_wp2;go_ret;exact⟨oJ (by simp),dv (aD _ _) _⟩
def BN{P:Program}(w:ω)(t ty e:TypeId)(i:TypeInfo)(z:υ)(size bytes:Nat)(q:P.underlying t=μ (.slice e))(hi:P.info? e=μ i)(r:i.zero=μ z)
 (s:i.size=size) (x:i.bytes=bytes) (A:z.cells.size=size) (E:0<size) (v:υ) (n:Nat) (d:List υ) (g:d.length=n*size)
 (F:(v=σ ν 0 0/\n=0)\/∃y,v=σ (μ y) n n/\∀j u,d[j]?=μ u->κ w (y.add j)=μ u)
 (a:Addr) (m c:Nat) (b:List υ) (Q:0<m) (hl:b.length=m*size) (B:∀j u,b[j]?=μ u->κ w (a.add j)=μ u) (G:∀u∈b,u.oneCell'=ρ)
 (l:n+m<=maxLen) (C:(n+m)*bytes<=140737488355328):
 ∃h f,(Builtin.append_ #[t,t] ty #[v,σ (μ a) m c]).run P w=.ok h f/\f.ownsRow w.heap.size e size h (n+m) (d++b)/\γ w f ν:=by
 obtain⟨rfl,rfl⟩|⟨y,rfl,H⟩:=F
 have I:d=[]:=kJ (by simpa using g);subst I;obtain⟨h,f,p,K,L,-,-⟩:=run_append_own_at (P:=P) w w.heap.size t ty e i z size bytes q hi r s x A E (σ ν 0 0) 0 [] (pr _ _ _ _) a m c b hl B G l C (aP _);exact⟨h,f,p,K,L⟩
 subst s;subst x;have R:n+m<=9223372036854775807:=by simp only[maxLen]at l;omega
 have p:=run_append_grow (P:=P) w t ty e i z q hi r y n n d g H a m c b hl B (by omega) (by omega) (growslice_fits (by omega) C);have D:(d++b).length=(n+m)*i.size:=by rw[bF,g,hl,Nat.add_mul]
 have M:=grownCap_ge w (n+m) n e;have N:grownCap w (n+m) n e<=maxLen:=grownCap_le_maxLen w (n+m) n e l;refine⟨_,_,p,⟨D,ψ ⟨w.heap.size,_,_,rfl,aP _,aO w.drew _,M,N,?_,?_⟩⟩,⟨rfl,rfl,rfl,by simp,λk O _=>fS w.drew _ k O⟩⟩
 simp only[Array.size_append,uk,size_zeroCells,A,g,hl,<-Nat.add_mul]
 congr 1;omega;simp only[Array.toList_append,fm]
 rw[<-fm,<-D];exact List.take_left
def dp(w:ω)(a:Nat)(v:υ)(l:List Rg):Prop:=(∀r∈l,r.ok)/\w.ownsRow a 341 2 v l.length (cF l)
def dp.gb(h:dp w n x Y)(g:γ w W N)(a:x.ownBlock=ν\/x.ownBlock≠N:=by simp):dp W n x Y:=⟨h.1,h.2.kept g a⟩
def dp.au(h:dp w n x Y)(g:γ w W ν):dp W n x Y:=h.gb g (by cases x.ownBlock<;>simp)
def dp.nN(h:dp w k (σ a n i) Y):bq w a n i Y/\∀x,a=μ x->k<=x.block:=by
 obtain⟨d,l,m⟩:=h;obtain⟨e,p⟩|⟨g,cap,cur,e,aa,q,r,hm,hs,s⟩:=m
 cases e;exact⟨⟨d,p.symm,by simp,by simp[maxLen],φ rfl⟩,λx b=>by cases b⟩
 cases e;refine⟨⟨d,rfl,r,hm,ψ ⟨g,0,rfl,λj v c=>?_⟩⟩,λx b=>by cases b;exact aa⟩
 have f:j<(cF Y).length:=(lA.1 c).1;rw[<-s,jK,aG (by rw[l]at f;exact f)]at c;simp only[World.cell?,q,ep]
 simpa using c
def uJ:(prog.info? 341).map (λi=>(i.zero,i.size,i.bytes))=μ (μ (ε #[ι η 0,ι η 0]),2,16):=by kernel_rfl
def uK(l m:List Rg):cF (l++m)=cF l++cF m:=by simp[cF]
def xi(l:List Rg):∀u∈cF l,u.oneCell'=ρ:=by
 intro u a;simp only[cF,sM,dY,sL,or_false]at a;obtain⟨y,-,rfl|rfl⟩:=a<;>rfl
def bq.front(h:bq w a n k Y)(i:Nat)(hi:i<=n):bq w a i i (Y.take i):=by
 obtain⟨f,l,m,p,c⟩:=h;refine⟨λr g=>f r (jg g),by rw[ct];omega,aP _,by omega,?_⟩
 obtain c|⟨b,o,rfl,c⟩:=c
 exact φ (by omega);refine ψ ⟨b,o,rfl,λj v d=>c j v ?_⟩;have e:cF Y=cF (Y.take i)++cF (Y.drop i):=by rw[<-uK,pR]
 rw[e,mm (lA.1 d).1];exact d
def Hm(ty:TypeId)(a:Option Addr)(n:Nat)(l:List Rg)(hs:bq w a n n l)(b o c:Nat)(r:Rg)(v:r.ok)(h0:κ w ⟨b,o,ν⟩=μ (ι η r.lo))(x:κ w ⟨b,o+1,ν⟩=μ (ι η r.hi))(G:n<=100000000):
 ∃k m p e,(Builtin.append_ #[227,227] ty #[σ a n n,σ (μ ⟨b,o,ν⟩) 1 c]).run prog w=.ok (σ k m p) e/\dp e w.heap.size (σ k m p) (l++[r])/\γ w e ν:=by
 obtain⟨z,hi,A,B,C⟩:=lU uJ;have q:n=l.length:=hs.2.1;obtain⟨D,e,s,E,t⟩:=BN (P:=prog) w 227 ty 341 z (ε #[ι η 0,ι η 0]) 2 16 underlying227 hi A B C rfl (by decide) (σ a n n) n (cF l) (by rw[rN,q]) (by
  obtain⟨-,-,-,-,f|⟨H,I,rfl,f⟩⟩:=hs;cases a with
  |none=>exact φ ⟨by rw[f],f⟩
  |some y=>
   refine ψ ⟨y,rfl,λj u d=>?_⟩;have:l=[]:=eN_;subst this;simp[cF]at d
  exact ψ ⟨_,rfl,λj u d=>by rw[Addr.add_mid];exact f j u d⟩) ⟨b,o,ν⟩ 1 c (cF [r]) (by decide) rfl (by
  intro j u d;rw[Addr.add_mid];match j,d with
  |0,d=>simp[cF]at d;rw[<-d];exact h0
  |1,d=>simp[cF]at d;rw[<-d];exact x) (xi _) (by simp[maxLen];omega) (by omega)
 have i:dp e w.heap.size D (l++[r]):=⟨λy F=>(bL.1 F).elim (hs.1 y) (λh=>by rw[cA.1 h];exact v),by rw[bF,uK,<-q];exact E⟩
 obtain⟨-,-,⟨rfl,e2⟩|⟨g,cap,K,rfl,_⟩⟩:=id i;exact⟨_,_,_,e,s,i,t⟩
 exact⟨_,_,_,e,s,i,t⟩
def BO(ty:TypeId)(f:Nat)(v:υ)(l:List Rg)(h:dp w f v l)(i:Option Addr)(nx k:Nat)(m:List Rg)(C:bq w i nx k m)(M:l.length+m.length<=100000000)(D:f<=w.heap.size):
 ∃c d e a,(Builtin.append_ #[227,227] ty #[v,σ i nx k]).run prog w=.ok (σ c d e) a/\dp a f (σ c d e) (l++m)/\γ w a v.ownBlock/\((Value.slice c d e).ownBlock=v.ownBlock\/(Value.slice c d e).ownBlock=μ w.heap.size):=by
 obtain⟨t,hi,E,F,G⟩:=lU uJ;obtain⟨m1,n,N,O,p⟩:=C;have key:∀y:Addr,i=μ y->(∀j u,(cF m)[j]?=μ u->κ w (y.add j)=μ u)->∃c d e a,(Builtin.append_ #[227,227] ty #[v,σ i nx k]).run prog w=.ok (σ c d e) a/\dp a f (σ c d e) (l++m)/\γ w a v.ownBlock/\((Value.slice c d e).ownBlock=v.ownBlock\/(Value.slice c d e).ownBlock=μ w.heap.size):=λy q H=>by
  subst q;obtain⟨I,a,x,K,z,_,A⟩:=run_append_own_at (P:=prog) w f 227 ty 341 t (ε #[ι η 0,ι η 0]) 2 16 underlying227 hi E F G rfl (by decide) v l.length (cF l) h.2 y nx k (cF m) (by rw[rN,n]) H (xi _) (by simp[maxLen];omega) (by omega) D;have r:dp a f I (l++m):=⟨λy q=>(bL.1 q).elim (h.1 y) (m1 y),by rw[bF,uK,<-n];exact K⟩
  obtain⟨-,-,⟨rfl,e2⟩|⟨g,cap,L,rfl,_⟩⟩:=id r;exact⟨_,_,_,a,x,r,z,A⟩
  exact⟨_,_,_,a,x,r,z,A⟩
 obtain rfl|⟨b,o,rfl,p⟩:=p
 have:m=[]:=eN_;subst this;obtain rfl:nx=0:=by simpa using n
 cases i with
 |some y=>exact key y rfl (λj u s=>by simp[cF]at s)
 |none=>
  have B:=run_append_owned_none (P:=prog) (w:=w) f 227 ty 341 t 2 underlying227 hi v _ _ h.2;rw[mW];obtain⟨-,-,⟨rfl,e2⟩|⟨g,cap,L,rfl,_⟩⟩:=id h;exact⟨_,_,_,w,B,h,aD _ _,φ rfl⟩
  exact⟨_,_,_,w,B,h,aD _ _,φ rfl⟩
 exact key _ rfl (λj u s=>by rw[Addr.add_mid];exact p j u s)
def Hn(w:ω)(ty:TypeId)(a:Option Addr)(n:Nat)(b:Option Addr)(c:Nat):(Builtin.append_ #[227,227] ty #[σ a n n,σ b 0 c]).run prog w=.ok (σ a n n) w:=by
 obtain⟨d,hi,e,f,g⟩:=lU uJ;cases a<;>cases b<;>simp[Builtin.append_,wK underlying227,sizeOf,typeInfo,hi,Builtin.lenOf,Builtin.firstCells,loadCells,loadCellsFrom,storeCells]
def BP{K:Act->ω->Prop}(s x:Operand)
 (ho:U.op=.call {callee:=.builtin .append,args:= #[s,x],argTypes:= #[227,227]})
 (i:Option Addr) (n:Nat) (l:List Rg) (hs:H.eval s=σ i n n) (hl:bq w i n n l) (b f c:Nat) (r:Rg) (j:r.ok) (k:H.eval x=σ (μ ⟨b,f,ν⟩) 1 c) (h0:κ w ⟨b,f,ν⟩=μ (ι η r.lo)) (m:κ w ⟨b,f+1,ν⟩=μ (ι η r.hi)) (p:n<=100000000)
 (h:∀d e g a,dp a w.heap.size (σ d e g) (l++[r])->γ w a ν->K (H.put U.dst (σ d e g)) a):Oper.wp prog U H w K u:=by
 obtain⟨d,e,g,a,q,t,v⟩:=Hm (w:=w) U.type i n l hl b f c r j h0 m p;unfold Oper.wp execOp;simp only[ho,resolve,invoke,builtin,ka,mX,jh,oF,kM,nI,hs,k,q]
 exact h d e g a t v
def Ho{e:Array Oper}{K:Act->ω->Prop}{E:Prop}(k:U.guard=ν)(s x:Operand)
 (ho:U.op=.call {callee:=.builtin .append,args:= #[s,x],argTypes:= #[227,227]})
 (a:Option Addr) (n:Nat) (l:List Rg) (hs:H.eval s=σ a n n) (hl:bq w a n n l) (b f c:Nat) (r:Rg) (m:r.ok) (p:H.eval x=σ (μ ⟨b,f,ν⟩) 1 c) (h0:κ w ⟨b,f,ν⟩=μ (ι η r.lo)) (q:κ w ⟨b,f+1,ν⟩=μ (ι η r.hi)) (t:n<=100000000)
 (h:∀g i j d,dp d w.heap.size (σ g i j) (l++[r])->γ w d ν->K (H.put U.dst (σ g i j)) d):if Region.wanted U (yielded e H.tmps)=ρ then Oper.wp prog U H w K u else E:=by
 have v:Region.wanted U (yielded e H.tmps)=ρ:=by simp[Region.wanted,k]
 rw[aG v];exact BP s x ho a n l hs hl b f c r m p h0 q t h
def BQ{K:Act->ω->Prop}(s x:Operand)
 (ho:U.op=.call {callee:=.builtin .append,args:= #[s,x],argTypes:= #[227,227]})
 (b:Nat) (v:υ) (l:List Rg) (hs:H.eval s=v) (i:dp w b v l) (f:Option Addr) (nx g:Nat) (m:List Rg) (j:H.eval x=σ f nx g) (k:bq w f nx g m) (n:l.length+m.length<=100000000) (p:b<=w.heap.size)
 (h:∀c d e a,dp a b (σ c d e) (l++m)->γ w a v.ownBlock->K (H.put U.dst (σ c d e)) a):Oper.wp prog U H w K u:=by
 obtain⟨c,d,e,a,q,r,t,-⟩:=BO (w:=w) U.type b v l i f nx g m k n p;unfold Oper.wp execOp;simp only[ho,resolve,invoke,builtin,ka,mX,jh,oF,kM,nI,hs,j,q]
 exact h c d e a r t
def Hp{e:Array Oper}{K:Act->ω->Prop}{E:Prop}(j:U.guard=ν)(s x:Operand)
 (ho:U.op=.call {callee:=.builtin .append,args:= #[s,x],argTypes:= #[227,227]})
 (a:Nat) (v:υ) (l:List Rg) (hs:H.eval s=v) (k:dp w a v l) (b:Option Addr) (nx c:Nat) (m:List Rg) (n:H.eval x=σ b nx c) (p:bq w b nx c m) (q:l.length+m.length<=100000000) (r:a<=w.heap.size)
 (h:∀f g i d,dp d a (σ f g i) (l++m)->γ w d v.ownBlock->K (H.put U.dst (σ f g i)) d):if Region.wanted U (yielded e H.tmps)=ρ then Oper.wp prog U H w K u else E:=by
 have t:Region.wanted U (yielded e H.tmps)=ρ:=by simp[Region.wanted,j]
 rw[aG t];exact BQ s x ho a v l hs k b nx c m n p q r h
def Hs{k:Array Oper}{rest:List Oper}(m:U.guard=ν)(s x:Operand)
 (ho:U.op=.call {callee:=.builtin .append,args:= #[s,x],argTypes:= #[227,227]})
 (i:Option Addr) (n:Nat) (l:List Rg) (hs:H.eval s=σ i n n) (hl:bq w i n n l) (b f c:Nat) (r:Rg) (p:r.ok) (q:H.eval x=σ (μ ⟨b,f,ν⟩) 1 c) (h0:κ w ⟨b,f,ν⟩=μ (ι η r.lo)) (j:κ w ⟨b,f+1,ν⟩=μ (ι η r.hi)) (t:n<=100000000)
 (h:∀d e g a,dp a w.heap.size (σ d e g) (l++[r])->γ w a ν->wpList prog k u rest (H.put U.dst (σ d e g)) a):wpList prog k u (U::rest) H w:=
 uy m λ_ v=>BP s x ho i n l hs hl b f c r p q h0 j t λd e g a j y=>v _ _ (h d e g a j y)
def Ht{i:Array Oper}{rest:List Oper}(j:U.guard=ν)(s x:Operand)
 (ho:U.op=.call {callee:=.builtin .append,args:= #[s,x],argTypes:= #[227,227]})
 (b:Nat) (v:υ) (l:List Rg) (hs:H.eval s=v) (k:dp w b v l) (f:Option Addr) (nx g:Nat) (m:List Rg) (n:H.eval x=σ f nx g) (p:bq w f nx g m) (q:l.length+m.length<=100000000) (r:b<=w.heap.size)
 (h:∀c d e a,dp a b (σ c d e) (l++m)->γ w a v.ownBlock->wpList prog i u rest (H.put U.dst (σ c d e)) a):wpList prog i u (U::rest) H w:=
 uy j λ_ t=>BQ s x ho b v l hs k f nx g m n p q r λc d e a y z=>t _ _ (h c d e a y z)
def Kept(w:ω)(b:Nat)(a:Option Addr)(v:υ)(l:List Rg):Prop:=(∃n,v=σ a n n/\bq w a n n l)\/dp w b v l
def Hu(ty:TypeId)(s:Nat)(a:Option Addr)(v:υ)(l:List Rg)(L:Kept w s a v l)(p:Option Addr)(nx q:Nat)(m:List Rg)(E:bq w p nx q m)(M:l.length+m.length<=100000000)(F:s<=w.heap.size):
 ∃c d f i,(Builtin.append_ #[227,227] ty #[v,σ p nx q]).run prog w=.ok (σ c d f) i/\bq i c d f (l++m)/\(c=a\/∀y,c=μ y->s<=y.block)/\∃r,γ w i r/\∀k,r=μ k->s<=k:=by
 obtain⟨n,rfl,hl⟩|G:=L
 obtain⟨N,hi,O,Q,R⟩:=lU uJ;obtain⟨m1,H,V,W,S⟩:=id E;have I:n=l.length:=hl.2.1;by_cases h0:nx=0;subst h0;have:m=[]:=eN_;subst this;have T:(Builtin.append_ #[227,227] ty #[σ a n n,σ p 0 q]).run prog w=.ok (σ a n n) w:=Hn w ty a n p q;exact⟨a,n,n,w,T,by rw[mW];exact hl,φ rfl,ν,aD _ _,λk e=>by cases e⟩
 obtain⟨b,o,rfl,U⟩:∃b o,p=μ ⟨b,o,ν⟩/\w.rangeAt b o (cF m):=by
  obtain h|h:=S
  omega;exact h
 obtain⟨K,i,A,x,B⟩:=BN (P:=prog) w 227 ty 341 N (ε #[ι η 0,ι η 0]) 2 16 underlying227 hi O Q R rfl (by decide) (σ a n n) n (cF l) (by rw[rN,I]) (by
  obtain⟨-,-,-,-,z|⟨X,Y,rfl,z⟩⟩:=hl;cases a with
  |none=>exact φ ⟨by rw[z],z⟩
  |some y=>
   refine ψ ⟨y,rfl,λj u t=>?_⟩;have:l=[]:=eN_;subst this;simp[cF]at t
  ·exact ψ ⟨_,rfl,λj u t=>by rw[Addr.add_mid];exact z j u t⟩) ⟨b,o,ν⟩ nx q (cF m) (by omega) (by rw[rN,H]) (λj u t=>by rw[Addr.add_mid];exact U j u t) (xi _) (by simp[maxLen];omega) (by omega)
 have C:dp i w.heap.size K (l++m):=⟨λy D=>(bL.1 D).elim (hl.1 y) (m1 y),by rw[bF,uK,<-I,<-H];exact x⟩
 have key:∃c d f,K=σ c d f:=by
  obtain⟨-,-,⟨rfl,e2⟩|⟨g,cap,al,rfl,_⟩⟩:=id C;exact⟨_,_,_,rfl⟩
  exact⟨_,_,_,rfl⟩
 obtain⟨c,d,f,rfl⟩:=key;exact⟨c,d,f,i,A,C.nN.1,ψ (λy D=>bK F (C.nN.2 y D)),ν,B,λk e=>by cases e⟩
 obtain⟨c,d,f,i,A,x,B,-⟩:=BO (w:=w) ty s v l G p nx q m E M F;exact⟨c,d,f,i,A,x.nN.1,ψ x.nN.2,_,B,λk e=>(G.2.lt k e).1⟩
def bq.back(h:bq w a n i Y)(j:Nat)(m:j<=n)(d:i-j=0\/∃b o,a=μ ⟨b,o,ν⟩/\O=μ ⟨b,o+j*2,ν⟩):bq w O (n-j) (i-j) (Y.drop j):=by
 obtain⟨f,p,q,s,c⟩:=h;refine⟨λr g=>f r (iH g),by rw[dO];omega,by omega,by omega,?_⟩
 obtain d|⟨t,u,rfl,rfl⟩:=d
 exact φ d;obtain c|⟨b,o,e,c⟩:=c
 exact φ (by omega);cases e;refine ψ ⟨_,_,rfl,λk v l=>?_⟩;have e:cF Y=cF (Y.take j)++cF (Y.drop j):=by rw[<-uK,pR]
 have hl:(cF (Y.take j)).length=j*2:=by rw[rN,ct];congr 1;omega
 rw[qJ];refine c (j*2+k) v ?_;rw[e,gR_,hl,uh];exact l
def lF:List Rg->Rg->List Rg
 |[],x=>[x]
 |r::l,x=>if r.hi<x.lo then r::lF l x else if x.hi<r.lo then x::r::l else lF l ⟨min r.lo x.lo,max r.hi x.hi⟩
def cD(l:List Rg)(x:Rg):List Rg:=if x.lo<x.hi then lF l x else l
def B9(l:List Rg)(x:Rg)(h:aU l)(c:x.lo<x.hi)(n:Int):Sm (lF l x) n↔Sm l n\/(x.lo<=n/\n<x.hi):=by
 induction l generalizing x with
 |nil=>simp only[lF,dH];exact or_comm
 |cons r l b=>
  have e:=h.2 r (by simp);unfold lF;split;rw[dH,b x h.tail c,dH,or_assoc];split;rw[dH];exact or_comm;rw[b _ h.tail (by simp only;omega),dH];simp only
  constructor;rintro(a|a);exact φ (ψ a);by_cases d:r.lo<=n/\n<r.hi;exact φ (φ d);exact ψ (by omega);rintro((a|a)|a);exact ψ (by omega);exact φ a;exact ψ (by omega)
def HU(l:List Rg)(x:Rg)(h:aU l)(d:x.lo<x.hi):aU (lF l x):=by
 induction l generalizing x with
 |nil=>exact aU.one d
 |cons r l f=>
  have i:=h.2 r (by simp);unfold lF;split;have e:=f x h.tail d;refine⟨kK.2 ⟨λb c=>?_,e.1⟩,λy a=>?_⟩
  have:=(B9 l x h.tail d b.lo).1 ⟨b,c,cE _,e.2 b c⟩;obtain g|g:=this
  exact h.behind g;omega;obtain rfl|a:=dY.1 a
  exact i;exact e.2 y a;split;refine⟨kK.2 ⟨λb c=>?_,h.1⟩,λy a=>?_⟩
  obtain rfl|c:=dY.1 c
  assumption;have:=(kK.1 h.1).1 b c;omega;obtain rfl|a:=dY.1 a
  exact d;exact h.2 y a;exact f _ h.tail (by simp only;omega)
def lV(x:Rg)(h:aU Y):aU (cD Y x):=by
 unfold cD;split;exact HU Y x h (by assumption);exact h
def iK(x:Rg)(h:aU Y)(n:Int):Sm (cD Y x) n↔Sm Y n\/(x.lo<=n/\n<x.hi):=by
 unfold cD;split;exact B9 Y x h (by assumption) n;exact⟨φ,λh=>h.elim id (λh=>by omega)⟩
def xu{a:List Rg}{x:Rg}(h:aU Y)(b:aU a)(e:∀n,Sm a n↔Sm Y n\/(x.lo<=n/\n<x.hi)):a=cD Y x:=
 b.unique (lV x h) (λn=>(e n).trans (iK x h n).symm)
def HX(l:List Rg)(x:Rg):(lF l x).length<=l.length+1:=by
 induction l generalizing x with
 |nil=>simp[lF]
 |cons r l a=>
  unfold lF;split;simp only[cS];have:=a x;omega;split;simp;have:=a ⟨min r.lo x.lo,max r.hi x.hi⟩;simp only[cS];omega
def uM(l:List Rg)(x:Rg):(cD l x).length<=l.length+1:=by
 unfold cD;split;exact HX l x;omega
def mD(l:List Rg)(x:Rg):List Rg:=l.flatMap λr=>(if r.lo<min r.hi x.lo then[⟨r.lo,min r.hi x.lo⟩]else[])++(if max r.lo x.hi<r.hi then[⟨max r.lo x.hi,r.hi⟩]else[])
def jP(l:List Rg)(x:Rg):List Rg:=if x.lo<x.hi then mD l x else l
def Ca(l:List Rg)(x:Rg)(n:Int):Sm (mD l x) n↔Sm l n/\¬(x.lo<=n/\n<x.hi):=by
 induction l with
 |nil=>exact⟨λh=>absurd h (fP n),λh=>absurd h.1 (fP n)⟩
 |cons r l a=>
  have e:mD (r::l) x=((if r.lo<min r.hi x.lo then[⟨r.lo,min r.hi x.lo⟩]else[])++(if max r.lo x.hi<r.hi then[⟨max r.lo x.hi,r.hi⟩]else[]))++mD l x:=rfl;rw[e,sT,sT,a,dH];have e1:Sm (if r.lo<min r.hi x.lo then[(⟨r.lo,min r.hi x.lo⟩:Rg)]else[]) n↔r.lo<=n/\n<r.hi/\n<x.lo:=by
   split;rw[dH];simp only[fP,or_false];omega;simp only[fP,false_iff];omega
  have e2:Sm (if max r.lo x.hi<r.hi then[(⟨max r.lo x.hi,r.hi⟩:Rg)]else[]) n↔r.lo<=n/\n<r.hi/\x.hi<=n:=by
   split;rw[dH];simp only[fP,or_false];omega;simp only[fP,false_iff];omega
  rw[e1,e2];constructor;rintro((h|h)|h);exact⟨φ (by omega),by omega⟩
  exact⟨φ (by omega),by omega⟩
  exact⟨ψ h.1,h.2⟩
  rintro⟨h|h,b⟩;by_cases c:n<x.lo;exact φ (φ (by omega));exact φ (ψ (by omega));exact ψ ⟨h,b⟩
def HY(l:List Rg)(x:Rg)(h:aU l)(k:x.lo<x.hi):aU (mD l x):=by
 induction l with
 |nil=>exact aU.nil
 |cons r l j=>
  have m:=h.2 r (by simp);have e:mD (r::l) x=((if r.lo<min r.hi x.lo then[⟨r.lo,min r.hi x.lo⟩]else[])++(if max r.lo x.hi<r.hi then[⟨max r.lo x.hi,r.hi⟩]else[]))++mD l x:=rfl;rw[e];have g:=j h.tail;have m1:∀y∈(if r.lo<min r.hi x.lo then[(⟨r.lo,min r.hi x.lo⟩:Rg)]else[]),y.lo<y.hi/\y.hi<=r.hi/\y.hi<=x.lo:=λy c=>by
   split at c;simp only[cA]at c;subst c;simp only;omega;cases c
  have i:∀y∈(if max r.lo x.hi<r.hi then[(⟨max r.lo x.hi,r.hi⟩:Rg)]else[]),y.lo<y.hi/\y.hi<=r.hi/\x.hi<=y.lo:=λy c=>by
   split at c;simp only[cA]at c;subst c;simp only;omega;cases c
  refine aU.append (aU.append ?_ ?_ (λa d b f=>?_)) g (λa d b f=>?_);split;exact aU.one (by simp only;assumption);exact aU.nil;split;exact aU.one (by simp only;assumption);exact aU.nil;have:=m1 a d;have:=i b f;omega;have n:a.hi<=r.hi:=by
   obtain d|d:=bL.1 d
   exact(m1 a d).2.1;exact(i a d).2.1
  have p:=h.behind (((Ca l x b.lo).1 ⟨b,f,cE _,g.2 b f⟩).1);omega
def qO(x:Rg)(h:aU Y):aU (jP Y x):=by
 unfold jP;split;exact HY Y x h (by assumption);exact h
def rO(x:Rg)(n:Int):Sm (jP Y x) n↔Sm Y n/\¬(x.lo<=n/\n<x.hi):=by
 unfold jP;split;exact Ca Y x n;exact⟨λh=>⟨h,by omega⟩,λh=>h.1⟩
def HZ{a:List Rg}{x:Rg}(h:aU Y)(b:aU a)(e:∀n,Sm a n↔Sm Y n/\¬(x.lo<=n/\n<x.hi)):a=jP Y x:=
 b.unique (qO x h) (λn=>(e n).trans (rO x n).symm)
def iA(af:List Rg)(x:Rg):List Rg:=af.foldl jP (cD [] x)
def H0(af:List Rg):∀l,aU l->aU (af.foldl jP l):=by
 induction af with
 |nil=>exact λl h=>h
 |cons r c a=>exact λl h=>a _ (qO r h)
def H5(af:List Rg):∀l n,Sm (af.foldl jP l) n↔Sm l n/\¬Sm af n:=by
 induction af with
 |nil=>exact λl n=>⟨λh=>⟨h,fP n⟩,λh=>h.1⟩
 |cons r c a=>
  intro l n;rw[lD,a,rO,dH,and_assoc,<-not_or]
def uN(af:List Rg)(x:Rg):aU (iA af x):=H0 af _ (lV x aU.nil)
def nP(af:List Rg)(x:Rg)(n:Int):Sm (iA af x) n↔(x.lo<=n/\n<x.hi)/\¬Sm af n:=by
 unfold iA;rw[H5,iK x aU.nil];simp only[fP,false_or]
def Cb{l:List Rg}{x:Rg}(h:aU l)(e:∀n,Sm l n↔(x.lo<=n/\n<x.hi)/\¬Sm Y n):l=iA Y x:=
 h.unique (uN Y x) (λn=>(e n).trans (nP Y x n).symm)
def nQ(fr:Int)(b:List Int)(x:Rg):List Int:=b++List.replicate ((x.hi-fr).toNat-b.length) 0
def mE(fr off:Int)(d:List Int)(b:List Int)(x:Rg):List Int:=splice (nQ fr b x) (x.lo-fr).toNat ((d.drop (x.lo-off).toNat).take (x.hi-x.lo).toNat)
def hb(fr off:Int)(d:List Int)(M:List Rg)(b:List Int):List Int:=M.foldl (mE fr off d) b
def xv(fr:Int)(b:List Int)(x:Rg):(nQ fr b x).length=max b.length (x.hi-fr).toNat:=by
 simp only[nQ,bF,wC];omega
def Cc{x:Rg}(a:p<=x.lo)(b:q<=x.lo)(c:x.lo<=x.hi)(d:x.hi<=q+L.length):(mE p q L K x).length=max K.length (x.hi-p).toNat:=by
 unfold mE;rw[length_splice,xv];rw[xv,ct,dO];omega
def H7(fr off:Int)(d:List Int)(M:List Rg)(b:List Int)(j:Nat)(a:j<M.length):hb fr off d (M.take (j+1)) b=mE fr off d (hb fr off d (M.take j) b) (ao M j):=by
 unfold hb;rw[sH a,List.foldl_append];simp[ao,List.getD,a]
