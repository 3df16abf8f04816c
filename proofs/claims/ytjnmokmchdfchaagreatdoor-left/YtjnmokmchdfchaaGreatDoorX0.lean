import Derived.BigQuiet
import Derived.BigRegion
import Derived.Deep.DeepCutAuto
import Derived.Deep.DrawnRows
import Derived.Deep.Draws
import Derived.Deep.LoopGhost
import Derived.Deep.MidRow
import Derived.Deep.RegionHeld3
import Derived.Deep.RegionWith
import Derived.Laws.AppendOwn
import Derived.Laws.AppendOwnNone
import Derived.Laws.BitsAllLaws
import Derived.Laws.BytesArg
import Derived.Laws.CopyOwn
import Derived.Lib.ConvBytes
import Derived.Lib.LazyBuf
import Derived.Maps.AppendAt
import Derived.Outline
import Derived.OwnWalk
import Derived.Test.YtjnmokmchdfchaaGreatDoorProg
import Derived.WalkKit
import Derived.WalkLawsBesides
import Derived.WalkSpells
set_option maxRecDepth 1000000
set_option maxHeartbeats 0
set_option linter.all false
namespace Go.Proofs.YtjnmokmchdfchaaGreatDoor
open Go.RowKit Tryz
attribute[local go_sem↓]Go.wp_at_zero Go.wp_at_succ
variable{F:Act}{c:Array Value}{H:Exit->Act->World->Prop}{p q:Int}{K L:List Int}{b i j k n o:Nat}{u:Oper}{O a:Option Addr}{N:Option Nat}{T:TypeId}{x y z:Value}{V W v w:World}
def bA{A B:Prop}(a:A)(b:B):Hid A/\Hid B:=⟨a,b⟩
def cg{A B C:Prop}(a:A)(b:B)(c:C):Hid A/\Hid B/\Hid C:=⟨a,b,c⟩
def eV{A B C D:Prop}(a:A)(b:B)(c:C)(d:D):Hid A/\Hid B/\Hid C/\Hid D:=⟨a,b,c,d⟩
def eR{A B C D E:Prop}(a:A)(b:B)(c:C)(d:D)(e:E):Hid A/\Hid B/\Hid C/\Hid D/\Hid E:=⟨a,b,c,d,e⟩
def nZ{A B C D E F:Prop}(a:A)(b:B)(c:C)(d:D)(e:E)(f:F):Hid A/\Hid B/\Hid C/\Hid D/\Hid E/\Hid F:=⟨a,b,c,d,e,f⟩
def iR{A B C D E F G:Prop}(a:A)(b:B)(c:C)(d:D)(e:E)(f:F)(g:G):Hid A/\Hid B/\Hid C/\Hid D/\Hid E/\Hid F/\Hid G:=⟨a,b,c,d,e,f,g⟩
def qG{A B C D E F G H:Prop}(a:A)(b:B)(c:C)(d:D)(e:E)(f:F)(g:G)(h:H):Hid A/\Hid B/\Hid C/\Hid D/\Hid E/\Hid F/\Hid G/\Hid H:=⟨a,b,c,d,e,f,g,h⟩
def pT{A B C D E F G H I:Prop}(a:A)(b:B)(c:C)(d:D)(e:E)(f:F)(g:G)(h:H)(i:I):Hid A/\Hid B/\Hid C/\Hid D/\Hid E/\Hid F/\Hid G/\Hid H/\Hid I:=⟨a,b,c,d,e,f,g,h,i⟩
def exq{α:Sort _}(e:α):∃a,a=e:=⟨_,rfl⟩
def fZ_{w:World}{b o:Nat}{c:Array Value}{t:TypeId}(h:w.heap[b]?=some (.cells c t (0,0))):w.frozen? ⟨b,o,none⟩=false:=by simp[World.frozen?,h]
def gC_{w W:World}{r:Option Nat}(g:w.grownBy W r){a:Addr}{v:Value}(h:w.cell? a=some v)(q:some a.block≠r:=by simp):W.cell? a=some v:=g.cell h q
def dT_{p:Prop}[Decidable p](h:p:=by omega):decide p=true:=decide_eq_true h
def dF_{p:Prop}[Decidable p](h:¬p:=by omega):decide p=false:=decide_eq_false h
def iP_{c:Prop}{i:Decidable c}(h:c:=by omega){α:Sort _}{a b:α}:ite c a b=a:=if_pos h
def iN_{c:Prop}{i:Decidable c}(h:¬c:=by omega){α:Sort _}{a b:α}:ite c a b=b:=if_neg h
def aN_{α:Type _}{c:Array α}{i j:Nat}{x:α}(h:i≠j:=by omega):(c.setIfInBounds i x)[j]?=c[j]? :=Array.getElem?_setIfInBounds_ne h
def tL_{α:Type _}{l:List α}{i:Nat}(h:l.length<=i:=by omega):l.take i=l:=List.take_of_length_le h
def dL_{α:Type _}{l:List α}{i:Nat}(h:l.length<=i:=by omega):l.drop i=[]:=List.drop_of_length_le h
def eN_{α:Type _}{l:List α}(h:l.length=0:=by omega):l=[]:=List.eq_nil_of_length_eq_zero h
def gR_{α:Type _}{l m:List α}{i:Nat}(h:l.length<=i:=by omega):(l++m)[i]?=m[i-l.length]? :=List.getElem?_append_right h
def wI_{x:Int}(h: -9223372036854775808<=x/\x<9223372036854775808:=by omega):IntKind.i64.wrap x=x:=by simp[IntKind.wrap,IntKind.bits,IntKind.signed];omega
def wU_{x:Int}(h:0<=x/\x<18446744073709551616:=by omega):IntKind.u64.wrap x=x:=by simp[IntKind.wrap,IntKind.bits,IntKind.signed];omega
def az:type_of% @if_neg:=@if_neg
def aB:type_of% @World.grownBy.refl:=@World.grownBy.refl
def aD:type_of% @if_pos:=@if_pos
def aH:type_of% @World.grownBy_alloc:=@World.grownBy_alloc
def aO:type_of% @heap_alloc_new:=@heap_alloc_new
def aQ:type_of% @Option.some.inj:=@Option.some.inj
def aR:type_of% @Nat.le_refl:=@Nat.le_refl
def aZ:type_of% @Array.getElem?_eq_some_iff:=@Array.getElem?_eq_some_iff
def bD:type_of% @Nat.le_trans:=@Nat.le_trans
def bH:type_of% @List.length_append:=@List.length_append
def bQ:type_of% @List.mem_append:=@List.mem_append
def bX:type_of% @Nat.lt_of_lt_of_le:=@Nat.lt_of_lt_of_le
def bZ:type_of% @Nat.le_succ:=@Nat.le_succ
def ct:type_of% @List.length_take:=@List.length_take
def cF:type_of% @bodyPost_ret:=@bodyPost_ret
def cL:type_of% @List.mem_singleton:=@List.mem_singleton
def cS:type_of% @Int.le_refl:=@Int.le_refl
def dc:type_of% @List.length_cons:=@List.length_cons
def dF:type_of% @Below.heap_setCell:=@Below.heap_setCell
def dH:type_of% @List.length_map:=@List.length_map
def dL:type_of% @World.size_alloc:=@World.size_alloc
def dM:type_of% @List.length_drop:=@List.length_drop
def dO:type_of% @decide_eq_true:=@decide_eq_true
def dX:type_of% @run_callFunc_extern:=@run_callFunc_extern
def dY:type_of% @Nat.zero_add:=@Nat.zero_add
def eE:type_of% @World.block_lt_of_cell?:=@World.block_lt_of_cell?
def eF:type_of% @results_none:=@results_none
def eI:type_of% @List.getElem?_eq_getElem:=@List.getElem?_eq_getElem
def eQ:type_of% @decide_eq_false:=@decide_eq_false
def fe:type_of% @List.length_nil:=@List.length_nil
def fg:type_of% @List.mem_map:=@List.mem_map
def fk:type_of% @Option.bind_some:=@Option.bind_some
def fm:type_of% @bodyPost_end:=@bodyPost_end
def fu:type_of% @if_true:=@if_true
def fC:type_of% @List.append_assoc:=@List.append_assoc
def fD:type_of% @IntKind.wrap_u64:=@IntKind.wrap_u64
def fE:type_of% @Below.heap_alloc:=@Below.heap_alloc
def fF:type_of% @List.mem_cons:=@List.mem_cons
def fG:type_of% @congrArg:=@congrArg
def fS:type_of% @World.cell?_alloc_lt:=@World.cell?_alloc_lt
def gm:type_of% @if_false:=@if_false
def gI:type_of% @Bool.false_eq_true:=@Bool.false_eq_true
def gP:type_of% @AllReady.cons:=@AllReady.cons
def iG:type_of% @List.mem_filter:=@List.mem_filter
def iN:type_of% @List.mem_of_mem_drop:=@List.mem_of_mem_drop
def iO:type_of% @List.mem_append_left:=@List.mem_append_left
def iP:type_of% @Nat.zero_le:=@Nat.zero_le
def jc:type_of% @List.mem_of_mem_take:=@List.mem_of_mem_take
def jd:type_of% @Result.andThen_ok:=@Result.andThen_ok
def je:type_of% @Sem.run_bind:=@Sem.run_bind
def jf:type_of% @AllReady.nil:=@AllReady.nil
def jg:type_of% @wpAny_ready:=@wpAny_ready
def js:type_of% @Value.slice.inj:=@Value.slice.inj
def jI:type_of% @List.getElem?_take:=@List.getElem?_take
def jW:type_of% @List.mem_append_right:=@List.mem_append_right
def jX:type_of% @World.cell?_of_block:=@World.cell?_of_block
def jY:type_of% @List.mem_iff_getElem:=@List.mem_iff_getElem
def jZ:type_of% @List.nil_append:=@List.nil_append
def ky:type_of% @List.map_cons:=@List.map_cons
def kP:type_of% @Array.getElem?_setIfInBounds:=@Array.getElem?_setIfInBounds
def kQ:type_of% @List.getElem?_eq_some_iff:=@List.getElem?_eq_some_iff
def kR:type_of% @List.getElem?_drop:=@List.getElem?_drop
def lA:type_of% @List.setIfInBounds_toArray:=@List.setIfInBounds_toArray
def lC:type_of% @List.take_of_length_le:=@List.take_of_length_le
def lD:type_of% @info_parts:=@info_parts
def lO:type_of% @List.set_cons_zero:=@List.set_cons_zero
def lP:type_of% @List.set_cons_succ:=@List.set_cons_succ
def lQ:type_of% @Bool.and_eq_true:=@Bool.and_eq_true
def mm:type_of% @List.getElem?_append_left:=@List.getElem?_append_left
def mn:type_of% @Option.some.injEq:=@Option.some.injEq
def mq:type_of% @List.foldl_cons:=@List.foldl_cons
def mr:type_of% @Sem.run_pure:=@Sem.run_pure
def mW:type_of% @List.getElem?_append_right:=@List.getElem?_append_right
def mX:type_of% @decide_eq_true_eq:=@decide_eq_true_eq
def mY:type_of% @List.map_append:=@List.map_append
def mZ:type_of% @List.map_nil:=@List.map_nil
def nM:type_of% @List.eq_nil_of_length_eq_zero:=@List.eq_nil_of_length_eq_zero
def nN:type_of% @World.frozen?_alloc_old:=@World.frozen?_alloc_old
def nP:type_of% @List.length_filter_le:=@List.length_filter_le
def nQ:type_of% @List.getElem?_eq_none:=@List.getElem?_eq_none
def nT:type_of% @Int.toNat_natCast:=@Int.toNat_natCast
def nU:type_of% @List.map_toArray:=@List.map_toArray
def nV:type_of% @Nat.zero_mul:=@Nat.zero_mul
def oH:type_of% @Bool.or_eq_false_iff:=@Bool.or_eq_false_iff
def oI:type_of% @List.length_pos_iff:=@List.length_pos_iff
def oJ:type_of% @World.ownsRow_nil:=@World.ownsRow_nil
def oK:type_of% @List.take_length:=@List.take_length
def oL:type_of% @List.append_nil:=@List.append_nil
def oM:type_of% @Nat.add_zero:=@Nat.add_zero
def pr:type_of% @List.take_append_drop:=@List.take_append_drop
def pt:type_of% @List.mem_map_of_mem:=@List.mem_map_of_mem
def px:type_of% @wpList_load_row:=@wpList_load_row
def py:type_of% @or_false:=@or_false
def ql:type_of% @List.getD_eq_getElem?_getD:=@List.getD_eq_getElem?_getD
def qm:type_of% @Nat.lt_succ_iff_lt_or_eq:=@Nat.lt_succ_iff_lt_or_eq
def qp:type_of% @Int.eq_ofNat_of_zero_le:=@Int.eq_ofNat_of_zero_le
def qq:type_of% @Array.getElem?_toList:=@Array.getElem?_toList
def qt:type_of% @Array.length_toList:=@Array.length_toList
def qu:type_of% @List.pairwise_cons:=@List.pairwise_cons
def qv:type_of% @List.cons_append:=@List.cons_append
def qw:type_of% @List.drop_zero:=@List.drop_zero
def qx:type_of% @Nat.add_assoc:=@Nat.add_assoc
def qy:type_of% @rounds_succ:=@rounds_succ
def qV:type_of% @Option.bind_eq_some_iff:=@Option.bind_eq_some_iff
def qW:type_of% @List.take_add_one:=@List.take_add_one
def qX:type_of% @List.not_mem_nil:=@List.not_mem_nil
def qY:type_of% @List.any_eq_true:=@List.any_eq_true
def qZ:type_of% @Prod.mk.injEq:=@Prod.mk.injEq
def rP:type_of% @List.take_succ_eq_append_getElem:=@List.take_succ_eq_append_getElem
def rQ:type_of% @ByteArray.size_extract:=@ByteArray.size_extract
def rS:type_of% @Nat.lt_or_eq_of_le:=@Nat.lt_or_eq_of_le
def rT:type_of% @Nat.add_sub_cancel:=@Nat.add_sub_cancel
def rU:type_of% @List.flatMap_cons:=@List.flatMap_cons
def rV:type_of% @Option.map_some:=@Option.map_some
def rX:type_of% @Nat.sub_self:=@Nat.sub_self
def tq:type_of% @decide_eq_false_iff_not:=@decide_eq_false_iff_not
def tr:type_of% @Nat.add_sub_cancel_left:=@Nat.add_sub_cancel_left
def ts:type_of% @List.getElem?_toArray:=@List.getElem?_toArray
def tt:type_of% @List.size_toArray:=@List.size_toArray
def tu:type_of% @List.getElem_mem:=@List.getElem_mem
def tw:type_of% @wp_loop_rounds:=@wp_loop_rounds
def tz:type_of% @List.drop_drop:=@List.drop_drop
def tA:type_of% @Bool.or_false:=@Bool.or_false
def tB:type_of% @Bool.false_or:=@Bool.false_or
def tC:type_of% @wpList_plain:=@wpList_plain
def tD:type_of% @decide_false:=@decide_false
def tF:type_of% @callsIn_wide:=@callsIn_wide
def tH:type_of% @List.map_map:=@List.map_map
def uX:type_of% @List.take_append_of_le_length:=@List.take_append_of_le_length
def uY:type_of% @List.getElem_cons_zero:=@List.getElem_cons_zero
def uZ:type_of% @List.drop_eq_nil_of_le:=@List.drop_eq_nil_of_le
def vh:type_of% @List.length_replicate:=@List.length_replicate
def vk:type_of% @List.getElem_toArray:=@List.getElem_toArray
def vp:type_of% @not_true_eq_false:=@not_true_eq_false
def vq:type_of% @List.getElem_take:=@List.getElem_take
def vs:type_of% @List.getElem_drop:=@List.getElem_drop
def vu:type_of% @List.mem_flatMap:=@List.mem_flatMap
def vy:type_of% @List.range_succ:=@List.range_succ
def vz:type_of% @run_underlying:=@run_underlying
def xL:type_of% @Nat.shiftLeft_add_eq_or_of_lt:=@Nat.shiftLeft_add_eq_or_of_lt
def xM:type_of% @List.getElem?_replicate:=@List.getElem?_replicate
def xN:type_of% @ByteArray.data_extract:=@ByteArray.data_extract
def xO:type_of% @Nat.pow_le_pow_right:=@Nat.pow_le_pow_right
def xP:type_of% @List.mem_of_getElem?:=@List.mem_of_getElem?
def xQ:type_of% @List.map_congr_left:=@List.map_congr_left
def xR:type_of% @List.getD_cons_zero:=@List.getD_cons_zero
def Ar:type_of% @List.drop_eq_getElem_cons:=@List.drop_eq_getElem_cons
def As:type_of% @Classical.byContradiction:=@Classical.byContradiction
def J{p:Prop}(h:p):Hid p:=h
def Z{p:Prop}(h:Hid p):p:=h
def aS(x:Int):Prop:=0<=x/\x<18446744073709551616
def W8(x:Int):Prop:=0<=x/\x<256
def aq(h:w.grownBy W N)(k:W.grownBy v N):w.grownBy v N:=
 ⟨k.os.trans h.os,k.tape.trans h.tape,k.output.trans h.output,bD h.size k.size,λi hi a=>(k.block i (bX hi h.size) a).trans (h.block i hi a)⟩
def cJ{q:Option Nat}(h:w.grownBy W N)(k:W.grownBy v q)(b:∀j,q=some j->w.heap.size<=j\/q=N):w.grownBy v N:=
 ⟨k.os.trans h.os,k.tape.trans h.tape,k.output.trans h.output,bD h.size k.size,λi hi a=>(k.block i (bX hi h.size) (λe=>by
  obtain g|g:=b i e.symm
  omega
  ·exact a (e.trans g))).trans (h.block i hi a)⟩
def aV(h:w.grownBy W N):w.grownBy W.drew N:=⟨h.os,h.tape,h.output,h.size,h.block⟩
def dy(h:w.grownBy W N)(n:Nat):w.grownBy (W.drewN n) N:=⟨h.os,h.tape,h.output,h.size,h.block⟩
def aY(h:w.grownBy W N)(o:Obj):w.grownBy (W.alloc o) N:=aq h (aH W o N)
def aK(h:w.grownBy W N)(p:Addr)(v:Value)(e:w.heap.size<=p.block\/some p.block=N):w.grownBy (W.setCell p v) N:=
 ⟨h.os,h.tape,h.output,by simpa [World.setCell]using h.size,λk b a=>by
  rw[dF _ _ _ _ (by rintro rfl;obtain e|e:=e<;>first|omega|exact a e)];exact h.block k b a⟩
def dd(h:w.grownBy W none)(r:Option Nat):w.grownBy W r:=⟨h.os,h.tape,h.output,h.size,λk a _=>h.block k a (by simp)⟩
def xS(h:w.grownBy W none):Below w.heap.size w W:=⟨h.os,h.tape,h.output,h.size,λk a=>h.block k a (by simp)⟩
def tI(h:Below w.heap.size w W):w.grownBy W none:=⟨h.os,h.tape,h.output,h.size,λk a _=>h.block k a⟩
def pB(h:w.grownBy W (some j))(b:w.heap.size<=j:=by omega):w.grownBy W none:=
 ⟨h.os,h.tape,h.output,h.size,λk a _=>h.block k a (by intro e;cases e;omega)⟩
def heap_set(h:w.heap[n]?=some (.cells c T (0,0)))(v:Value):(w.setCell ⟨n,o,none⟩ v).heap[n]?=some (.cells (c.setIfInBounds o v) T (0,0)):=by
 simp[World.setCell,Array.getElem?_modify,h]
def pC(x:Int):Int:=(x %9223372036854775808)*2+x/9223372036854775808
def rotl(x:Int):Nat->Int
 |0=>x
 |k+1=>pC (rotl x k)
def FL(h:aS p):aS (pC p):=by unfold aS pC at *;omega
def oN(h:aS p)(k:Nat):aS (rotl p k):=by
 induction k with
 |zero=>exact h
 |succ k a=>exact FL a
def FM(x N M:Nat)(h:N*M=9223372036854775808)(g:x<2*N*M)(a:0<N):
 pC (((x %(2*N))*M+x/(2*N):Nat):Int)=(((x %N)*(2*M)+x/N:Nat):Int):=by
 have b:x/(2*N)<M:=Nat.div_lt_of_lt_mul (by rw[Nat.mul_comm 2 N,Nat.mul_assoc,Nat.mul_comm 2 M,<-Nat.mul_assoc]at *;rw[Nat.mul_assoc]at *;omega);have e1:x %(2*N)=N*(x/N %2)+x %N:=by
  rw[Nat.mul_comm 2 N,Nat.mod_mul];omega
 have e2:x/(2*N)=x/N/2:=by rw[Nat.mul_comm 2 N,Nat.div_div_eq_div_mul]
 generalize hs:x %N=s at *;generalize i:x/N=z at *;have c:s<N:=by rw[<-hs];exact Nat.mod_lt _ a
 have d:s*M+z/2<N*M:=by
  have:(s+1)*M<=N*M:=Nat.mul_le_mul_right _ c;rw[Nat.add_mul]at this;rw[e2]at b;omega
 have e:(x %(2*N))*M+x/(2*N)=9223372036854775808*(z %2)+(s*M+z/2):=by
  rw[e1,e2,Nat.add_mul,Nat.mul_right_comm,h];omega
 rw[e];rw[h]at d;have f:s*(2*M)=2*(s*M):=by rw[Nat.mul_left_comm]
 rw[f];generalize s*M=p at *;unfold pC;omega
def At(x:Nat)(a:x<18446744073709551616):∀k,k<=63->rotl x k=((x %2^(64-k))*2^k+x/2^(64-k):Nat)
 |0,_=>by
  show(x:Int)=_;have:x %2^(64-0)=x:=Nat.mod_eq_of_lt (by simpa using a);rw[this];have:x/2^(64-0)=0:=Nat.div_eq_of_lt (by simpa using a);rw[this];simp
 |k+1,h=>by
  show pC (rotl x k)=_;rw[At x a k (by omega)];have e1:2^(64-k)=2*2^(64-(k+1)):=by rw[show 64-k=(64-(k+1))+1 by omega,Nat.pow_succ,Nat.mul_comm]
  have e2:2^(64-(k+1))*2^k=9223372036854775808:=by rw[<-Nat.pow_add,show 64-(k+1)+k=63 by omega]
  have b:2^(k+1)=2*2^k:=by rw[Nat.pow_succ,Nat.mul_comm]
  rw[e1,b];exact FM x _ _ e2 (by rw[Nat.mul_assoc,e2];omega) (Nat.two_pow_pos _)
def FO(h:aS p)(k:Nat)(c:k<=63)(h0:0<k):bits .or .u64 (IntKind.u64.wrap (p*(2^k:Nat))) (p/(2^(64-k):Nat))=rotl p k:=by
 obtain⟨d,f⟩:=h;obtain⟨n,rfl⟩:=qp d;have a:n<18446744073709551616:=by omega
 rw[At n a k c,fD];have b:2^(64-k)*2^k=18446744073709551616:=by rw[<-Nat.pow_add,show 64-k+k=64 by omega]
 have e1:((n:Int)*(2^k:Nat)) %18446744073709551616=(((n %2^(64-k))*2^k:Nat):Int):=by
  have:n*2^k %18446744073709551616=(n %2^(64-k))*2^k:=by rw[<-b,Nat.mul_mod_mul_right]
  rw[<-this,Int.natCast_emod,Int.natCast_mul];rfl
 have e2:(n:Int)/(2^(64-k):Nat)=((n/2^(64-k):Nat):Int):=by rw[Int.natCast_ediv]
 rw[e1,e2,u64_or_nat];congr 1;have e:n/2^(64-k)<2^k:=Nat.div_lt_of_lt_mul (by rw[b];exact a);have:=xL e (n %2^(64-k));rw[Nat.shiftLeft_eq]at this;omega;have:n %2^(64-k)<2^(64-k):=Nat.mod_lt _ (Nat.two_pow_pos _);rw[<-b];exact Nat.mul_lt_mul_of_pos_right this (Nat.two_pow_pos _);exact Nat.lt_of_le_of_lt (Nat.div_le_self _ _) a
def xo(a b:Int):Int:=bits .xor .u64 a b
def ad(a b:Int):Int:=IntKind.u64.wrap (a+b)
def oO(a b:Int):aS (ad a b):=by unfold ad aS;rw[fD];omega
def jt(a:aS p)(b:aS q):aS (xo p q):=by
 unfold xo;rw[u64_xor p q a.1 a.2 b.1 b.2];have:=Nat.xor_lt_two_pow (n:=64) (x:=p.toNat) (y:=q.toNat) (by have:=a.2;have:=a.1;omega) (by have:=b.2;have:=b.1;omega);unfold aS;omega
structure S4 where
 a:Int
 b:Int
 c:Int
 d:Int
def S4.ok(s:S4):Prop:=aS s.a/\aS s.b/\aS s.c/\aS s.d
def oP(s:S4):S4:=
 let e:=ad s.a s.b
 let f:=xo (rotl s.b 13) e
 let k:=rotl e 32
 let g:=ad s.c s.d
 let h:=xo (rotl s.d 16) g
 let i:=ad k h
 let l:=xo (rotl h 21) i
 let j:=ad g f
 let m:=xo (rotl f 17) j
 ⟨i,m,rotl j 32,l⟩
def rh{s:S4}(h:s.ok):(oP s).ok:=by
 obtain⟨j,e,k,f⟩:=h;have g:=jt (oN e 13) (oO s.a s.b);have i:=jt (oN f 16) (oO s.c s.d);exact⟨oO _ _,jt (oN g 17) (oO _ _),oN (oO _ _) 32,jt (oN i 21) (oO _ _)⟩
def rY(s:S4)(m:Int):S4:=
 let t:=oP (oP ⟨s.a,s.b,s.c,xo s.d m⟩)
 ⟨xo t.a m,t.b,t.c,t.d⟩
def FP{s:S4}(h:s.ok)(e:aS p):(rY s p).ok:=by
 obtain⟨f,g,i,j⟩:=h;have t:=rh (rh (s:=⟨s.a,s.b,s.c,xo s.d p⟩) ⟨f,g,i,jt j e⟩);exact⟨jt t.1 e,t.2.1,t.2.2.1,t.2.2.2⟩
def tJ(s:S4):Int:=
 let t:=oP (oP (oP (oP ⟨s.a,s.b,xo s.c 255,s.d⟩)))
 xo (xo (xo t.a t.b) t.c) t.d
def FQ{s:S4}(h:s.ok):aS (tJ s):=by
 obtain⟨e,f,g,i⟩:=h;have t:=rh (rh (rh (rh (s:=⟨s.a,s.b,xo s.c 255,s.d⟩) ⟨e,f,jt g (by unfold aS;omega),i⟩)));exact jt (jt (jt t.1 t.2.1) t.2.2.1) t.2.2.2
def im:List Int->Int
 |[]=>0
 |x::r=>x+256*im r
def xU:∀(l:List Int),(∀x∈l,W8 x)->0<=im l/\im l<256^l.length
 |[],_=>by simp[im]
 |x::r,h=>by
  have:=xU r (λy a=>h y (List.mem_cons_of_mem _ a));have b:=h x (List.mem_cons_self ..);unfold W8 at b;simp only[im,dc,Int.pow_succ]
  omega
def gS(key:List Int):S4:=
 ⟨xo (im (key.take 8)) 8317987319222330741,xo (im (key.drop 8)) 7237128888997146477,xo (im (key.take 8)) 7816392313619706465,xo (im (key.drop 8)) 8387220255154660723⟩
def pD(l:List Int)(n:Int):List Int:=l++List.replicate (7-l.length %8) 0++[n %256]
def mu(s:S4):Nat->List Int->S4
 |0,_=>s
 |k+1,l=>mu (rY s (im (l.take 8))) k (l.drop 8)
def cZ(key l:List Int):Int:=tJ (mu (gS key) (l.length/8+1) (pD l l.length))
def BS(w:World)(b o:Nat)(l:List Int):Prop:=(∀i,i<l.length->w.cell? ⟨b,o+i,none⟩=some (.int .u8 (l.getD i 0)))/\∀x∈l,W8 x
def FR(l:List Int):∀k,k<l.length->im (l.take (k+1))=im (l.take k)+256^k*l.getD k 0:=by
 induction l with
 |nil=>intro k h;simp at h
 |cons x r a=>
  intro k h;cases k with
  |zero=>simp[im]
  |succ k=>
   simp only[List.take_succ_cons,im,List.getD_cons_succ]
   rw[a k (by simpa using h),Int.mul_add,Int.pow_succ,Int.mul_comm (256^k) 256,Int.mul_assoc];omega
def qz(h:∀x∈L,W8 x)(k:Nat):W8 (L.getD k 0):=by
 rw[ql];rcases a:L[k]? with _|x
 simp[W8];exact h x (xP a)
def FU(a x:Int)(k:Nat)(g:k<=7)(h0:0<=a)(c:a<256^k)(d:W8 x):bits .or .u64 a (IntKind.u64.wrap (x*2^(8*k)))=a+256^k*x:=by
 obtain⟨e,h⟩:=d;obtain⟨n,rfl⟩:=qp h0;obtain⟨y,rfl⟩:=qp e;have e0:(256:Nat)^k=2^(8*k):=by rw[Nat.pow_mul]
 have b:(256:Int)^k=((2^(8*k):Nat):Int):=by rw[<-e0];simp
 have e1:((y:Int)*2^(8*k))=((y*2^(8*k):Nat):Int):=by simp
 have hp:2^(8*k)<=2^56:=xO (by decide) (by omega);have i:y*2^(8*k)<=255*2^56:=Nat.mul_le_mul (by omega) hp;rw[b]at c;rw[e1,fD,b];have f:n<2^(8*k):=by omega
 have e2:(((y*2^(8*k):Nat):Int)) %18446744073709551616=((y*2^(8*k):Nat):Int):=by omega
 rw[e2,u64_or_nat _ _ (by omega) (by omega)];have:=xL f y;rw[Nat.shiftLeft_eq]at this;rw[Nat.or_comm,<-this,Int.natCast_add,Int.natCast_mul,Int.mul_comm];omega
def FV(h:∀x∈L,W8 x)(k:Nat)(a:k<=L.length):0<=im (L.take k)/\im (L.take k)<256^k:=by
 have:=xU (L.take k) (λx b=>h x (jc b));rwa[ct,Nat.min_eq_left a]at this
def Au(k:Nat)(h:k<=8):(256:Int)^k<=18446744073709551616:=by
 have:(256:Nat)^k<=256^8:=xO (by decide) h;have e:(256:Int)^k=((256^k:Nat):Int):=by simp
 rw[e];omega
def vA(b o cap:Nat)(l:List Int)(w:World)(h:BS w b o l)(hl:l.length=8)(r:8<=cap):
 Calls prog 262 #[.slice (some ⟨b,o,none⟩) 8 cap] w λe j=>e=.returned (.int .u64 (im l))/\j=w:=by
 obtain⟨d,f⟩:=h;go_enter func262,ntmps262;go_wp2;go_loop [3,8] (λa i=>∃k:Nat,k<=8/\i=.int .i64 k/\a=.int .u64 (im (l.take k))) (λ_ i=>8-(intOf i).toNat);case atStart=>exact⟨0,by omega,rfl,rfl⟩
 case round=>
  obtain⟨k,n,rfl,rfl⟩:=hrel;have c:=FV f k (by omega);have hp:=Au k n;by_cases s:k<8
  ·have t:=d k (by omega);clear d;have g:=qz f k;have p:=J (FU _ _ k (by omega) c.1 c.2 g);have q:=J (FR l k (by omega));obtain⟨t0,t1⟩:=c;obtain⟨u,v⟩:=g;generalize l.getD k 0=x at *;generalize im (l.take k)=m at *;have y:(8:Int)*k<=1000:=by omega
   go_wp2;go_round;case rel=>exact⟨k+1,by omega,by go_num,by rw[Z p,<-Z q]⟩
   case measure=>simp[intOf];omega
  go_wp2;go_ret;exact⟨fG (λz=>Ending.returned (.int .u64 z)) (by rw[tL_]),rfl⟩
def bv(l:List Int):List Value:=l.map (Value.int .u8)
def bI(w:World)(a:Option Addr)(n cap:Nat)(l:List Int):Prop:=
 (∀x∈l,W8 x)/\n=l.length/\n<=cap/\cap<=maxLen/\((a=none/\cap=0)\/∃b o,a=some ⟨b,o,none⟩/\BS w b o l)
def bn(w:World)(a:Nat)(v:Value)(l:List Int):Prop:=(∀x∈l,W8 x)/\w.ownsRow a 5 1 v l.length (bv l)
def BS.gb(h:BS w b o L)(g:w.grownBy W N)(a:N≠some b:=by simp):BS W b o L:=
 ⟨λi hi=>g.cell (h.1 i hi) (λe=>a e.symm),h.2⟩
def BS.lt(h:BS w b o L)(hl:L≠[]):b<w.heap.size:=
 eE w _ (h.1 0 (oI.2 hl))
def BS.nil(w:World)(b o:Nat):BS w b o []:=⟨λi hi=>by simp at hi,λx a=>by simp at a⟩
def bI.gb(h:bI w a n k L)(g:w.grownBy W N)(d:∀j,N=some j->w.heap.size<=j\/L=[]\/∀x,a=some x->x.block≠j:=by simp):bI W a n k L:=by
 obtain⟨f,i,l,m,c⟩:=h;refine⟨f,i,l,m,?_⟩
 obtain c|⟨b,o,rfl,c⟩:=c
 exact .inl c;refine .inr ⟨b,o,rfl,?_⟩;by_cases hl:L=[]
 subst hl;exact BS.nil _ _ _;have:=c.lt hl;refine c.gb g (λe=>?_);obtain e|e|e:=d b e
 omega;exact hl e;exact e _ rfl rfl
def bI.an(h:bI w a n k L)(g:w.grownBy W none):bI W a n k L:=h.gb g (λ_ e=>by cases e)
def bn.lt(h:bn w n x L):∀k,x.ownBlock=some k->n<=k/\k<w.heap.size:=h.2.lt
def tK(l:List Int)(i:Nat)(h:i<l.length):(bv l)[i]?=some (.int .u8 (l.getD i 0)):=by
 simp[bv,eI h]
def bn.bs(h:bn w n y L):∃a cap,y=.slice a L.length cap/\bI w a L.length cap L/\(∀x,a=some x->n<=x.block/\x.block<w.heap.size/\x.off=0)/\(L≠[]->a≠none):=by
 obtain⟨b,l,d⟩:=h;obtain⟨rfl,f⟩|⟨g,cap,cur,rfl,aa,c,j,hm,hs,k⟩:=d
 have:L=[]:=nM f;subst this;exact⟨none,0,rfl,⟨b,rfl,aR _,by simp[maxLen],.inl ⟨rfl,rfl⟩⟩,(λ_ e=>by cases e),(λe=>absurd rfl e)⟩
 refine⟨some ⟨g,0,none⟩,cap,rfl,⟨b,rfl,j,hm,.inr ⟨g,0,rfl,?_,b⟩⟩,(λx e=>by cases e;exact⟨aa,(aZ.1 c).1,rfl⟩),(λ_ e=>by cases e)⟩
 intro i hi;have e1:(bv L)[i]?=cur.toList[i]? :=by rw[<-k,jI,iP_]
 rw[tK L i hi]at e1;simp only[World.cell?,c,dY]
 simpa using e1.symm
def bn.nil(w:World)(a:Nat):bn w a (.slice none 0 0) []:=⟨λx b=>by simp at b,oJ _ _ _ _⟩
def bn.gb(h:bn w n x L)(g:w.grownBy W N)(a:x.ownBlock=none\/x.ownBlock≠N:=by simp):bn W n x L:=⟨h.1,h.2.kept g a⟩
def bn.an(h:bn w n x L)(g:w.grownBy W none):bn W n x L:=h.gb g (by cases x.ownBlock<;>simp)
def Av(h:Below n W w)(o:bn w i x L)(a:w.grownBy V x.ownBlock)(b:n<=w.heap.size:=by omega)(c:n<=i:=by omega):Below n W V:=
 h.grown a b (λk e=>bD c (o.lt k e).1)
def vB(w:World)(x:Int)(b:W8 x):bI (w.alloc (.cells #[.int .u8 x] 5)) (some ⟨w.heap.size,0,none⟩) 1 1 [x]:=by
 have a:∀y∈[x],W8 y:=λy c=>by rw[cL.1 c];exact b
 refine⟨a,rfl,by simp,by simp[maxLen],.inr ⟨_,_,rfl,?_,a⟩⟩
 intro i hi;obtain rfl:i=0:=by simpa using hi
 simp
def xV:(prog.info? 5).map (λi=>(i.zero,i.size,i.bytes))=some (some (.int .u8 0),1,1):=by kernel_rfl
def Aw(ty:TypeId)(d:Nat)(v:Value)(l:List Int)(f:bn w d v l)
 (n:Option Addr) (nx g:Nat) (m:List Int) (t:bI w n nx g m) (I:l.length+m.length<=100000000) (x:d<=w.heap.size):
 ∃a c e,(Builtin.append_ #[112,112] ty #[v,.slice n nx g]).run prog w=.ok (.slice a (l.length+m.length) c) e/\bn e d (.slice a (l.length+m.length) c) (l++m)/\w.grownBy e v.ownBlock/\((Value.slice a (l.length+m.length) c).ownBlock=v.ownBlock\/(Value.slice a (l.length+m.length) c).ownBlock=some w.heap.size):=by
 obtain⟨p,hi,z,A,B⟩:=lD xV;obtain⟨m1,rfl,K,L,h⟩:=t;obtain⟨rfl,rfl⟩|⟨b,off,rfl,h⟩:=h
 have:m=[]:=eN_;subst this;have i:=run_append_owned_none (P:=prog) (w:=w) d 112 ty 5 p 1 underlying112 hi v _ _ f.2;obtain⟨a,c,rfl,M⟩:=f.bs;exact⟨a,c,w,i,by simpa using f,aB _ _,.inl rfl⟩
 obtain⟨C,e,i,D,E,_,F⟩:=run_append_own_at (P:=prog) w d 112 ty 5 p (.int .u8 0) 1 1 underlying112 hi z A B rfl (by decide) v l.length (bv l) f.2 ⟨b,off,none⟩ m.length g (bv m) (by simp[bv]) (by
  intro j u k;have q:j<m.length:=by
   have:=(kQ.1 k).1;simpa [bv]using this
  rw[tK m j q]at k;obtain rfl:=aQ k;rw[Addr.add_lit];exact h.1 j q) (by
  intro u G;obtain⟨y,_,rfl⟩:=fg.1 G;rfl) (by simp[maxLen];omega) (by omega) x
 have r:bn e d C (l++m):=⟨λy H=>(bQ.1 H).elim (f.1 y) (m1 y),by simpa [bv]using D⟩
 obtain⟨a,c,s,_⟩:=r.bs;rw[bH]at s;subst s;exact⟨a,c,e,i,r,E,F⟩
def Ax{K:Act->World->Prop}(s x:Operand)
 (ho:u.op=.call {callee:=.builtin .append,args:= #[s,x],argTypes:= #[112,112]})
 (d:Nat) (v:Value) (l:List Int) (hs:F.eval s=v) (g:bn w d v l)
 (e:Option Addr) (nx f:Nat) (m:List Int) (i:F.eval x=.slice e nx f) (j:bI w e nx f m) (k:l.length+m.length<=100000000) (n:d<=w.heap.size)
 (h:∀a b c,bn c d (.slice a (l.length+m.length) b) (l++m)->w.grownBy c v.ownBlock->((Value.slice a (l.length+m.length) b).ownBlock=v.ownBlock\/(Value.slice a (l.length+m.length) b).ownBlock=some w.heap.size)->
   K (F.put u.dst (.slice a (l.length+m.length) b)) c):Oper.wp prog u F w K H:=by
 obtain⟨a,b,c,p,q,r,t⟩:=Aw (w:=w) u.type d v l g e nx f m j k n;unfold Oper.wp execOp;simp only[ho,resolve,invoke,builtin,je,mr,jd,nU,ky,mZ,hs,i,p]
 exact h a b c q r t
def rZ{g:Array Oper}{rest:List Oper}(i:u.guard=none)(s x:Operand)
 (ho:u.op=.call {callee:=.builtin .append,args:= #[s,x],argTypes:= #[112,112]})
 (d:Nat) (v:Value) (l:List Int) (hs:F.eval s=v) (j:bn w d v l)
 (e:Option Addr) (nx f:Nat) (m:List Int) (k:F.eval x=.slice e nx f) (n:bI w e nx f m) (p:l.length+m.length<=100000000) (q:d<=w.heap.size)
 (h:∀a b c,bn c d (.slice a (l.length+m.length) b) (l++m)->w.grownBy c v.ownBlock->((Value.slice a (l.length+m.length) b).ownBlock=v.ownBlock\/(Value.slice a (l.length+m.length) b).ownBlock=some w.heap.size)->
   wpList prog g H rest (F.put u.dst (.slice a (l.length+m.length) b)) c):wpList prog g H (u::rest) F w:=
 tC i λ_ r=>Ax s x ho d v l hs j e nx f m k n p q λa b c t y z=>r _ _ (h a b c t y z)
def vC{g:Array Oper}{K:Act->World->Prop}{E:Prop}(i:u.guard=none)(s x:Operand)
 (ho:u.op=.call {callee:=.builtin .append,args:= #[s,x],argTypes:= #[112,112]})
 (a:Nat) (v:Value) (l:List Int) (hs:F.eval s=v) (j:bn w a v l)
 (d:Option Addr) (nx e:Nat) (m:List Int) (k:F.eval x=.slice d nx e) (n:bI w d nx e m) (p:l.length+m.length<=100000000) (q:a<=w.heap.size)
 (h:∀b c f,bn f a (.slice b (l.length+m.length) c) (l++m)->w.grownBy f v.ownBlock->((Value.slice b (l.length+m.length) c).ownBlock=v.ownBlock\/(Value.slice b (l.length+m.length) c).ownBlock=some w.heap.size)->
   K (F.put u.dst (.slice b (l.length+m.length) c)) f):if Region.wanted u (yielded g F.tmps)=true then Oper.wp prog u F w K H else E:=by
 have r:Region.wanted u (yielded g F.tmps)=true:=by simp[Region.wanted,i]
 rw[aD r];exact Ax s x ho a v l hs j d nx e m k n p q h
def Ay:(prog.info? 5).map (·.size)=some 1:=by kernel_rfl
def vD(w:World)(g:Nat)(cs:Array Value):w.grownBy (w.setRow g cs) (some g):=
 ⟨rfl,rfl,rfl,by simp[World.setRow],λk _ a=>setRow_other w g k cs (λe=>a (by rw[e]))⟩
def fL(l:List Int):(bv l).length=l.length:=by simp[bv]
def Az(l:List Int)(o:Nat)(m:List Int):bv (splice l o m)=splice (bv l) o (bv m):=by simp[bv,splice]
def FW(ty:TypeId)(g off a e:Nat)(sp:Option Addr)(n c:Nat)(m:List Int)(q:bI w sp n c m)
 (d:List Int) (t:TypeId) (f:w.heap[g]?=some (.cells (bv d).toArray t (0,0))) (r:off+(m.take a).length<=d.length):
 ∃h,(Builtin.copy_ #[112,112] ty #[.slice (some ⟨g,off,none⟩) a e,.slice sp n c]).run prog w=.ok (goInt (m.take a).length) h/\h.heap[g]?=some (.cells (bv (splice d off (m.take a))).toArray t (0,0))/\w.grownBy h (some g):=by
 obtain⟨m1,rfl,z,A,i⟩:=q;by_cases h0:(m.take a).length=0;have s:m.take a=[]:=nM h0;have k:=run_copy_none (P:=prog) w 112 112 ty 5 (some ⟨g,off,none⟩) sp a e m.length c underlying112 Ay (by rw[ct,Nat.min_comm]at h0;exact h0);exact⟨w,by rw[h0];exact k,by rw[s];simpa [splice]using f,aB _ _⟩
 obtain⟨rfl,rfl⟩|⟨b,v,rfl,i⟩:=i
 have:m=[]:=eN_;subst this;simp at h0;have hl:(bv (m.take a)).length=(m.take a).length:=fL _;have k:=run_copy_row (P:=prog) w 112 112 ty 5 g off a e ⟨b,v,none⟩ m.length c (bv d).toArray t (bv (m.take a)) underlying112 Ay f (by rw[hl,ct,Nat.min_comm]) (by
  intro j u l;have p:j<(m.take a).length:=by
   have:=(kQ.1 l).1;rwa[fL]at this
  rw[tK _ j p]at l;obtain rfl:=aQ l;rw[Addr.add_lit];rw[ct]at p;rw[i.1 j (by omega)];simp[show j<a by omega]) (by rw[hl];simpa [bv]using r) (by
  intro u x;obtain⟨y,_,rfl⟩:=fg.1 x;rfl)
 refine⟨_,by rw[k,hl],?_,vD _ _ _⟩
 rw[setRow_heap w g _ _ t _ f,Az];simp[splice,fL]
def AA{K:Act->World->Prop}(d s:Operand)
 (ho:u.op=.call {callee:=.builtin .copy,args:= #[d,s],argTypes:= #[112,112]})
 (g off a i:Nat) (hd:F.eval d=.slice (some ⟨g,off,none⟩) a i) (sp:Option Addr) (e f:Nat) (hs:F.eval s=.slice sp e f) (m:List Int) (j:bI w sp e f m)
 (c:List Int) (t:TypeId) (k:w.heap[g]?=some (.cells (bv c).toArray t (0,0))) (l:off+(m.take a).length<=c.length)
 (h:∀b,b.heap[g]?=some (.cells (bv (splice c off (m.take a))).toArray t (0,0))->w.grownBy b (some g)->K (F.put u.dst (goInt (m.take a).length)) b):Oper.wp prog u F w K H:=by
 obtain⟨b,n,p,q⟩:=FW (w:=w) u.type g off a i sp e f m j c t k l;unfold Oper.wp execOp;simp only[ho,resolve,invoke,builtin,je,mr,jd,nU,ky,mZ,hd,hs,n]
 exact h b p q
def tL{i:Array Oper}{rest:List Oper}(d s:Operand)
 (ho:u.op=.call {callee:=.builtin .copy,args:= #[d,s],argTypes:= #[112,112]}) (k:u.guard=none)
 (g off a j:Nat) (hd:F.eval d=.slice (some ⟨g,off,none⟩) a j) (sp:Option Addr) (e f:Nat) (hs:F.eval s=.slice sp e f) (m:List Int) (l:bI w sp e f m)
 (c:List Int) (t:TypeId) (n:w.heap[g]?=some (.cells (bv c).toArray t (0,0))) (p:off+(m.take a).length<=c.length)
 (h:∀b,b.heap[g]?=some (.cells (bv (splice c off (m.take a))).toArray t (0,0))->w.grownBy b (some g)->wpList prog i H rest (F.put u.dst (goInt (m.take a).length)) b):
 wpList prog i H (u::rest) F w:=
 tC k λ_ q=>AA d s ho g off a j hd sp e f hs m l c t n p λb r v=>q _ _ (h b r v)
def FX{i:Array Oper}{K:Act->World->Prop}{E:Prop}(d s:Operand)
 (ho:u.op=.call {callee:=.builtin .copy,args:= #[d,s],argTypes:= #[112,112]}) (k:u.guard=none)
 (g off a j:Nat) (hd:F.eval d=.slice (some ⟨g,off,none⟩) a j) (sp:Option Addr) (c e:Nat) (hs:F.eval s=.slice sp c e) (m:List Int) (l:bI w sp c e m)
 (b:List Int) (t:TypeId) (n:w.heap[g]?=some (.cells (bv b).toArray t (0,0))) (p:off+(m.take a).length<=b.length)
 (h:∀f,f.heap[g]?=some (.cells (bv (splice b off (m.take a))).toArray t (0,0))->w.grownBy f (some g)->K (F.put u.dst (goInt (m.take a).length)) f):
 if Region.wanted u (yielded i F.tmps)=true then Oper.wp prog u F w K H else E:=by
 have q:Region.wanted u (yielded i F.tmps)=true:=by simp[Region.wanted,k]
 rw[aD q];exact AA d s ho g off a j hd sp c e hs m l b t n p h
def m8:(prog.info? 24).map (·.size)=some 16:=by kernel_rfl
def rj{a:Array Oper}{rest:List Oper}(x:Operand)(ho:u.op=.load 24 x)(b:u.guard=none)
 (g:Nat) (c:F.eval x=.pointer (some ⟨g,0,none⟩)) (K:Array Value) (d:w.heap[g]?=some (.cells K 24 (0,0))) (e:K.size=16)
 (h:wpList prog a H rest (F.put u.dst (.agg K)) w):wpList prog a H (u::rest) F w:=
 px b _ x ho g c _ K _ _ d underlying24 rfl (by rw[e];exact m8) h
def tM(h:bI w a n k L):(convert 112 9 (.slice a n k)).run prog w=.ok (.string (strOfNums L)) w:=by
 obtain⟨e,d,f,g,c⟩:=h;obtain⟨rfl,rfl⟩|⟨b,o,rfl,c⟩:=c
 have:L=[]:=eN_;subst this;exact run_convert_bytes_nil w _ _ underlying112 underlying5 n 0 _ underlying9;exact run_convert_bytes_arg w _ _ underlying112 underlying5 b o n k L d.symm (λi hi=>c.1 i (by omega)) _ underlying9
def aG(s:ByteArray):List Int:=s.data.toList.map λx=>(x.toNat:Int)
def fH(s:ByteArray):(aG s).length=s.size:=by unfold aG;rw[dH,qt];rfl
def qA(s:ByteArray):∀x∈aG s,W8 x:=by
 intro x a;obtain⟨y,_,rfl⟩:=fg.1 a;have:=y.toNat_lt;unfold W8;omega
def m9(s:ByteArray)(w:World):(convert 9 112 (.string s)).run prog w=.ok (.slice (some ⟨w.heap.size,0,none⟩) s.size (grownCap w s.size 0 5)) (Lib.bytesWorld w 5 s):=
 Lib.run_convert_string_bytes w _ _ _ s underlying9 underlying112 underlying5
def vE(w:World)(s:ByteArray):w.grownBy (Lib.bytesWorld w 5 s) none:=
 ⟨rfl,rfl,rfl,by rw[Lib.bytesWorld_size];omega,λi hi _=>Lib.bytesWorld_at_old w _ s i hi⟩
def xW(w:World)(s:ByteArray)(hs:s.size<=100000000:=by omega):bI (Lib.bytesWorld w 5 s) (some ⟨w.heap.size,0,none⟩) s.size (grownCap w s.size 0 5) (aG s):=by
 refine⟨qA s,(fH s).symm,grownCap_ge _ _ _ _,grownCap_le_maxLen _ _ _ _ (by simp[maxLen];omega),.inr ⟨_,0,rfl,?_⟩⟩
 refine⟨λi hi=>?_,qA s⟩
 rw[fH]at hi;have a:i<s.data.toList.length:=by rw[qt];exact hi
 have e1:s.data.toList.getD i 0=s.data.toList[i]:=by rw[List.getD,eI a];rfl
 have e2:(aG s).getD i 0=(s.data.toList[i].toNat:Int):=by unfold aG;rw[List.getD,List.getElem?_map,eI a];rfl
 rw[dY,Lib.bytesWorld_cell w _ s i hi,e1,e2]
def bn.gT(h:bn w k (.slice a n i) L):bI w a n i L:=by
 obtain⟨c,d,e,b,_⟩:=h.bs;simp only[Value.slice.injEq]at e;obtain⟨rfl,rfl,rfl⟩:=e;exact b
def AB(h:bn w k (.slice a n i) L):(a=none/\n=0)\/∃g cs,a=some ⟨g,0,none⟩/\k<=g/\w.heap[g]?=some (.cells cs 5 (0,0))/\n<=cs.size:=by
 obtain⟨d,f,b⟩:=h;obtain⟨e,j⟩|⟨g,cap,cur,e,aa,c,l,hm,hs,m⟩:=b
 cases e;exact .inl ⟨rfl,rfl⟩;cases e;exact .inr ⟨g,cur,rfl,aa,c,by omega⟩
def vF(a:Option Addr)(n c:Nat)(l:List Int)(w:World)(m:Nat)(ho:bn w m (.slice a n c) l)(r:n<=100000000):
 Calls prog 97 #[.slice a n c] w λe p=>e=.returned (.tuple #[])/\w.grownBy p (Value.slice a n c).ownBlock:=by
 obtain⟨rfl,rfl⟩|⟨g,cs,rfl,s,aa,hs⟩:=AB ho
 ·go_enter func97,ntmps97;go_wp2;go_loopg [5] 0 (λf i wr=>f=0/\i=.int .i64 0/\wr=w);case atStart=>exact⟨rfl,rfl,rfl⟩
  case round=>
   obtain⟨rfl,rfl,rfl⟩:=hrel;go_wp2;refine fm (eF rfl _ _ _) rfl ?_;exact⟨rfl,aB _ _⟩
 have h:(Value.slice (some ⟨g,0,none⟩) n c).ownBlock=some g:=rfl;rw[h];clear ho h;go_enter func97,ntmps97;go_wp2;go_loopg [5] n (λf i wr=>∃j:Nat,j<=n/\f=n-j/\i=.int .i64 j/\w.grownBy wr (some g)/\∃b,wr.heap[g]?=some (.cells b 5 (0,0))/\n<=b.size);case atStart=>exact⟨0,by omega,by omega,rfl,aB _ _,cs,aa,hs⟩
 case round=>
  obtain⟨j,t,rfl,rfl,k,b,d,q⟩:=hrel;by_cases u:j<n
  ·have v:wr.cell? ⟨g,j,none⟩=some (b.getD j undef):=by simp[World.cell?,d,Array.getD,show j<b.size by omega]
   have x:wr.frozen? ⟨g,j,none⟩=false:=fZ_ d;replace d:=J d;go_wp2;go_roundg (n-(j+1));case measure=>omega
   case rel=>exact⟨j+1,by omega,rfl,by go_num,aK k _ _ (.inr rfl),_,heap_set (Z d) _,by simpa using q⟩
  go_wp2;refine fm (eF rfl _ _ _) rfl ?_;exact⟨rfl,k⟩
def AD{g:Array Oper}{rest:List Oper}(i:u.guard=none)(x:Operand)
 (ho:u.op=.call {callee:=.builtin .append,args:= #[.const (.slice none 0 0),x],argTypes:= #[112,112]})
 (d:Option Addr) (nx e:Nat) (m:List Int) (j:F.eval x=.slice d nx e) (k:bI w d nx e m) (l:m.length<=100000000)
 (h:∀b c a,bn a w.heap.size (.slice b m.length c) m->w.grownBy a none->wpList prog g H rest (F.put u.dst (.slice b m.length c)) a):wpList prog g H (u::rest) F w:=by
 refine rZ i (.const (.slice none 0 0)) x ho w.heap.size (.slice none 0 0) [] rfl (bn.nil _ _) d nx e m j k (by simpa using l) (aR _) ?_;intro b c a f n _;rw[fe,dY]at f⊢;rw[jZ]at f;exact h b c a f n
def jh{cs:List Value}(h:w.rangeAt b o cs)(g:w.grownBy W N)(a:N≠some b):W.rangeAt b o cs:=
 λj v c=>g.cell (h j v c) (λe=>a e.symm)
def vG{cs:List Value}(h:w.rangeAt b o cs)(p:Addr)(v:Value)(hp:p.block≠b):(w.setCell p v).rangeAt b o cs:=λj u a=>by
 rw[jX (w:=w) (dF _ _ _ _ (Ne.symm hp))];exact h j u a
def kz{fr:Nat×Nat}{cs:List Value}(h:w.heap[b]?=some (.cells cs.toArray T fr)):w.rangeAt b 0 cs:=λj v a=>by
 simp only[World.cell?,h,dY];simpa using a
structure Rg where
 lo:Int
 hi:Int
structure Fr where
 kind:Int
 stream:Int
 offset:Int
 code:Int
 fin:Bool
 data:ByteArray
 ranges:List Rg
def Rg.ok(r:Rg):Prop:=aS r.lo/\aS r.hi
def dq(x:Int):Prop:= -9223372036854775808<=x/\x<=9223372036854775807
def Fr.ok(f:Fr):Prop:=dq f.kind/\dq f.stream/\aS f.offset/\aS f.code/\∀r∈f.ranges,r.ok
def aU(n:Int):List Int:=
 if n<64 then[n]else if n<16384 then[n/256+64,n %256]
 else if n<1073741824 then[n/16777216+128,n/65536 %256,n/256 %256,n %256]
 else[n/72057594037927936+192,n/281474976710656 %256,n/1099511627776 %256,n/4294967296 %256,n/16777216 %256,n/65536 %256,n/256 %256,n %256]
def dZ(n:Int):Prop:=0<=n/\n<=4611686018427387903
def nd{n:Int}(h:dZ n):∀x∈aU n,W8 x:=by
 unfold dZ at h;intro x a;unfold aU at a;unfold W8;split at a;simp only[cL]at a;omega;split at a;simp only[fF,qX,py]at a;omega;split at a;simp only[fF,qX,py]at a;omega;simp only[fF,qX,py]at a;omega
def gQ(n:Int):1<=(aU n).length/\(aU n).length<=8:=by
 unfold aU;repeat' split
 all_goals simp
def au(l:List Rg)(i:Nat):Rg:=l.getD i ⟨0,0⟩
def ng(l:List Rg)(i:Nat):Prop:=(au l i).lo<=(au l i).hi/\(au l i).hi<=4611686018427387903/\(0<i->(au l i).hi+2<=(au l (i-1)).lo)
def iQ(l:List Rg):Prop:=0<l.length/\∀i,i<l.length->ng l i
def pF(f:Fr):Prop:=f.offset<=4611686018427387903/\f.code<=4611686018427387903/\0<=f.stream/\f.stream<4
def qB(f:Fr):Prop:=(f.kind=3->iQ f.ranges)/\(f.kind=5->(f.data.size:Int)<=4611686018427387903-f.offset)
def cT(f:Fr):Prop:=pF f/\qB f/\1<=f.kind/\f.kind<=6
def tN(l:List Rg)(i:Nat):List Int:=aU ((au l i).lo-(au l (i+1)).hi-2)++aU ((au l (i+1)).hi-(au l (i+1)).lo)
def jJ(l:List Rg):Nat->List Int
 |0=>[]
 |j+1=>jJ l j++tN l j
def lR(l:List Rg):List Int:=aU (au l 0).hi++aU ((l.length:Int)-1)++aU ((au l 0).hi-(au l 0).lo)
def gp(l:List Rg):List Int:=lR l++jJ l (l.length-1)
def df(f:Fr):List Int:=
 if f.kind=1 then[0]else if f.kind=2 then[1]else if f.kind=3 then 2::gp f.ranges
 else if f.kind=4 then 4::(aU f.stream++aU f.code++aU f.offset)
 else if f.kind=5 then(if f.fin then 9 else 8)::(aU f.stream++aU f.offset++aU f.data.size++aG f.data)
 else 28::aU f.code
def bp:List Fr->List Int
 |[]=>[]
 |f::r=>df f++bp r
def FY(l r:List Fr):bp (l++r)=bp l++bp r:=by
 induction l with
 |nil=>rfl
 |cons f l a=>simp[bp,a]
def FZ(l:List Fr)(j:Nat)(h:j<l.length):bp (l.take (j+1))=bp (l.take j)++df l[j]:=by
 rw[rP h,FY];simp[bp]
def lS(f:Fr):Nat:=25+16*f.ranges.length+f.data.size
def fT:List Fr->Nat
 |[]=>0
 |f::r=>lS f+fT r
def xX(l:List Rg)(j:Nat):(jJ l j).length<=16*j:=by
 induction j with
 |zero=>simp[jJ]
 |succ j a=>
  have b:=gQ ((au l j).lo-(au l (j+1)).hi-2);have c:=gQ ((au l (j+1)).hi-(au l (j+1)).lo);simp only[jJ,tN,bH];omega
def vH(f:Fr):1<=(df f).length/\(df f).length<=lS f:=by
 have a:=gQ f.stream;have b:=gQ f.code;have c:=gQ f.offset;have d:=gQ f.data.size;have a5:=fH f.data;have a6:=xX f.ranges (f.ranges.length-1);have a7:=gQ (au f.ranges 0).hi;have e:=gQ ((f.ranges.length:Int)-1);have g:=gQ ((au f.ranges 0).hi-(au f.ranges 0).lo);unfold df lS;repeat' split
 all_goals simp only[gp,lR,dc,bH,fe];omega
def F5(l:List Fr):(bp l).length<=fT l:=by
 induction l with
 |nil=>simp[bp,fT]
 |cons f r a=>have:=vH f;simp only[bp,fT,bH];omega
def pH{l:List Rg}(a:∀r∈l,r.ok)(h:iQ l)(i:Nat)(hi:i<l.length:=by omega):dZ (au l i).lo/\dZ (au l i).hi:=by
 have b:=h.2 i hi;have c:(au l i).ok:=a _ (by unfold au;rw[List.getD,eI hi];exact tu hi);unfold Rg.ok aS at c;unfold ng at b;unfold dZ;omega
def AE{l:List Rg}(e:∀r∈l,r.ok)(h:iQ l):∀j,j<l.length->∀x∈jJ l j,W8 x
 |0,_=>by intro x d;simp[jJ]at d
 |j+1,f=>by
  intro x d;have a:=pH e h j;have b:=pH e h (j+1) f;have c:=h.2 (j+1) f;unfold ng at c;simp only[rT]at c;unfold dZ at a b;simp only[jJ,tN,bQ]at d;obtain d|d|d:=d
  exact AE e h j (by omega) x d;exact nd (by unfold dZ;omega) x d;exact nd (by unfold dZ;omega) x d
def F6{l:List Rg}(e:∀r∈l,r.ok)(h:iQ l)(hl:(l.length:Int)<=4611686018427387903):∀x∈lR l,W8 x:=by
 have a:=pH e h 0 h.1;have c:=(h.2 0 h.1).1;have d:=h.1;unfold dZ at a;intro x b;simp only[lR,bQ]at b;obtain(b|b)|b:=b
 exact nd (by unfold dZ;omega) x b;exact nd (by unfold dZ;omega) x b;exact nd (by unfold dZ;omega) x b
def fv(x:Int):Nat:=if x<64 then 1 else if x<128 then 2 else if x<192 then 4 else 8
def ji(b:List Int)(p:Nat):Nat->Int
 |0=>b.getD p 0 %64
 |k+1=>ji b p k*256+b.getD (p+k+1) 0
def cU(b:List Int)(p:Nat):Option (Int×Nat):=
 if p+fv (b.getD p 0)<=b.length then some (ji b p (fv (b.getD p 0)-1),p+fv (b.getD p 0))else none
def tO(x:Int):1<=fv x/\fv x<=8:=by
 unfold fv;repeat' split
 all_goals omega
def xY{b:List Int}(a:∀x∈b,W8 x)(p:Nat):∀k,0<=ji b p k/\ji b p k<64*256^k
 |0=>by simp only[ji];omega
 |k+1=>by
  have d:=xY a p k;have c:=qz a (p+k+1);unfold W8 at c;simp only[ji,Int.pow_succ]
  generalize (256:Int)^k=q at *;omega
def kS{b:List Int}{p:Nat}{n:Int}{q:Nat}(a:∀x∈b,W8 x)(h:cU b p=some (n,q)):dZ n/\p<q/\q<=b.length:=by
 unfold cU at h;split at h;simp only[mn,qZ]at h;obtain⟨rfl,rfl⟩:=h;have:=tO (b.getD p 0);have c:=xY a p (fv (b.getD p 0)-1);have d:(256:Int)^(fv (b.getD p 0)-1)<=256^7:=by
  have:(256:Nat)^(fv (b.getD p 0)-1)<=256^7:=xO (by decide) (by omega);have e:∀k:Nat,(256:Int)^k=((256^k:Nat):Int):=λk=>by simp
  rw[e,e];omega
 unfold dZ;omega;cases h
def j6(b:List Int)(p:Nat):Option (Int×Nat):=(cU b p).bind λx=>if x.1<4 then some x else none
def nX(b:List Int)(p:Nat):Option (ByteArray×Nat):=
 (cU b p).bind λx=>if x.1<=(b.length:Int)-(x.2:Int)then some (strOfNums ((b.drop x.2).take x.1.toNat),x.2+x.1.toNat)else none
def jK(b:List Int):Nat->Nat->Int->List Rg->Option (List Rg×Nat)
 |0,p,_,acc=>some (acc,p)
 |k+1,p,lo,acc=>(cU b p).bind λx=>(cU b x.2).bind λy=>
  if x.1+2<=lo/\y.1<=lo-2-x.1 then jK b k y.2 (lo-2-x.1-y.1) (acc++[⟨lo-2-x.1-y.1,lo-2-x.1⟩])else none
def jL(b:List Int)(p:Nat):Option (List Rg×Nat):=
 (cU b p).bind λx=>(cU b x.2).bind λy=>(cU b y.2).bind λz=>
   if z.1<=x.1 then jK b y.1.toNat z.2 (x.1-z.1) [⟨x.1-z.1,x.1⟩]else none
def cu(k:Int)(fin:Bool):Fr:=⟨k,0,0,0,fin,ByteArray.empty,[]⟩
def fM(b:List Int)(t:Int)(p:Nat):Option (Fr×Nat):=
 if t=0 then some (cu 1 false,p)else if t=1 then some (cu 2 false,p)
 else if t=2 then(jL b p).bind λx=>some ({cu 3 false with ranges:=x.1},x.2)
 else if t=4 then(j6 b p).bind λx=>(cU b x.2).bind λy=>(cU b y.2).bind λz=>some ({cu 4 false with stream:=x.1,code:=y.1,offset:=z.1},z.2)
 else if t=8\/t=9 then(j6 b p).bind λx=>(cU b x.2).bind λy=>(nX b y.2).bind λz=>some ({cu 5 (decide (t=9))with stream:=x.1,offset:=y.1,data:=z.1},z.2)
 else if t=28 then(cU b p).bind λx=>some ({cu 6 false with code:=x.1},x.2)
 else none
open Classical in
noncomputable def nh(b:List Int)(p:Nat):Option (Fr×Nat):=(fM b (b.getD p 0) (p+1)).bind λx=>if cT x.1 then some x else none
noncomputable def iH(b:List Int):Nat->Nat->List Fr->Option (List Fr)×Int
 |0,p,_=>(none,p)
 |k+1,p,acc=>if p<b.length then(match nh b p with
  |none=>(none,p)
  |some (f,q)=>iH b k q (acc++[f]))else(some acc,-1)
noncomputable def fN(b:List Int):Option (List Fr)×Int:=if b.length=0 then(none,0)else iH b (b.length+1) 0 []
variable{D:List Rg}
def Sm(l:List Rg)(n:Int):Prop:=∃r∈l,r.lo<=n/\n<r.hi
def bl(l:List Rg):Prop:=l.Pairwise (λa b=>a.hi<b.lo)/\∀r∈l,r.lo<r.hi
def bl.nil:bl []:=⟨List.Pairwise.nil,λr h=>by cases h⟩
def fU(n:Int):¬Sm [] n:=λ⟨r,h,_⟩=>by cases h
def eB(r:Rg)(l:List Rg)(n:Int):Sm (r::l) n↔(r.lo<=n/\n<r.hi)\/Sm l n:=by
 constructor;rintro⟨x,a,h⟩;obtain rfl|a:=fF.1 a
 exact .inl h;exact .inr ⟨x,a,h⟩;rintro(h|⟨x,a,h⟩);exact⟨r,by simp,h⟩
 exact⟨x,by simp[a],h⟩
def r9(l r:List Rg)(n:Int):Sm (l++r) n↔Sm l n\/Sm r n:=by
 induction l with
 |nil=>simp[fU]
 |cons x l a=>rw[qv,eB,eB,a,or_assoc]
def bl.tail{r:Rg}(h:bl (r::D)):bl D:=⟨(qu.1 h.1).2,λx a=>h.2 x (by simp[a])⟩
def bl.behind{r:Rg}(h:bl (r::D))(a:Sm D p):r.hi<p:=by
 obtain⟨x,b,c,d⟩:=a;have:=(qu.1 h.1).1 x b;omega
def bl.append{r:List Rg}(c:bl D)(d:bl r)(h:∀a∈D,∀b∈r,a.hi<b.lo):bl (D++r):=
 ⟨List.pairwise_append.2 ⟨c.1,d.1,h⟩,λx e=>(bQ.1 e).elim (c.2 x) (d.2 x)⟩
def bl.one{x:Rg}(h:x.lo<x.hi):bl [x]:=⟨List.pairwise_singleton _ _,λy a=>by simp at a;subst a;exact h⟩
def bl.sub{r:List Rg}(h:bl D)(hs:r.Sublist D):bl r:=⟨h.1.sublist hs,λx a=>h.2 x (hs.subset a)⟩
def bl.unique{r:List Rg}(c:bl D)(e:bl r)(h:∀n,Sm D n↔Sm r n):D=r:=by
 induction D generalizing r with
 |nil=>
  cases r with
  |nil=>rfl
  |cons y r=>
   have:=(h y.lo).2 ⟨y,by simp,cS _,e.2 y (by simp)⟩;exact absurd this (fU _)
 |cons x D k=>
  cases r with
  |nil=>
   have:=(h x.lo).1 ⟨x,by simp,cS _,c.2 x (by simp)⟩;exact absurd this (fU _)
  |cons y r=>
   have l:=c.2 x (by simp);have m:=e.2 y (by simp);have g:=(eB y r x.lo).1 ((h x.lo).1 ⟨x,by simp,cS _,l⟩);have b:=(eB x D y.lo).1 ((h y.lo).2 ⟨y,by simp,cS _,m⟩);have i:x.lo=y.lo:=by
    obtain g|g:=g
    obtain b|b:=b
    omega;have:=c.behind b;omega;have:=e.behind g;obtain b|b:=b
    omega;have:=c.behind b;omega
   have b1:¬Sm (x::D) x.hi:=λa=>by
    obtain a|a:=(eB _ _ _).1 a
    omega;have:=c.behind a;omega
   have b2:¬Sm (y::r) y.hi:=λa=>by
    obtain a|a:=(eB _ _ _).1 a
    omega;have:=e.behind a;omega
   have j:x.hi=y.hi:=by
    obtain p|he|q:=Int.lt_trichotomy x.hi y.hi
    exact absurd ((h x.hi).2 ⟨y,by simp,by omega,p⟩) b1;exact he;exact absurd ((h y.hi).1 ⟨x,by simp,by omega,q⟩) b2
   obtain⟨s,t⟩:=x;obtain⟨u,v⟩:=y;simp only at i j;subst i j;congr 1;refine k c.tail e.tail (λn=>?_);have a:=h n;rw[eB,eB]at a;constructor;intro f;have:=c.behind f;obtain d|d:=a.1 (.inr f)
   simp only at this d;omega;exact d;intro f;have:=e.behind f;obtain d|d:=a.2 (.inr f)
   simp only at this d;omega;exact d
def pI(h:i<D.length):au D i∈D:=by
 unfold au;rw[List.getD,eI h];exact tu h
def xZ{r:Rg}(h:r∈D.take i):∃k,k<i/\k<D.length/\r=au D k:=by
 obtain⟨k,a,rfl⟩:=jY.1 h;rw[ct]at a;refine⟨k,by omega,by omega,?_⟩
 rw[vq,au,List.getD,eI (by omega)];rfl
def sc{r:Rg}(h:r∈D.drop i):∃k,i<=k/\k<D.length/\r=au D k:=by
 obtain⟨k,a,rfl⟩:=jY.1 h;rw[dM]at a;refine⟨i+k,by omega,by omega,?_⟩
 rw[vs,au,List.getD,eI (by omega)];rfl
def bl.lt(h:bl D){i k:Nat}(b:i<k)(a:k<D.length):(au D i).hi<(au D k).lo:=by
 have:=List.pairwise_iff_getElem.1 h.1 i k (by omega) a b;simpa [au,List.getD,eI a,eI (show i<D.length by omega)]using this
def bl.pos(h:bl D)(hi:i<D.length):(au D i).lo<(au D i).hi:=h.2 _ (pI hi)
def lT(n k:Nat)(p:Nat->Prop):Prop:=k<=n/\(∀i,i<k->¬p i)/\∀i,k<=i->i<n->p i
def F7(h:bl D)(e:p<q)(hi:lT D.length i (λk=>p<=(au D k).hi))(a:lT D.length j (λk=>q<(au D k).lo)):i<=j:=by
 obtain⟨f,b,g⟩:=hi;obtain⟨l,m,c⟩:=a;by_cases d:i<=j;exact d;have n:=b j (by omega);have r:=c j (aR _) (by omega);have s:=h.pos (i:=j) (by omega);omega
def vI(l:List Rg)(x:Rg)(i j:Nat):List Rg:=
 l.take i++((if i<j then⟨min x.lo (au l i).lo,max x.hi (au l (j-1)).hi⟩else x)::l.drop j)
def F8{x:Rg}(h:bl D)(K:x.lo<x.hi)(hi:lT D.length i (λk=>x.lo<=(au D k).hi))(v:lT D.length j (λk=>x.hi<(au D k).lo)):
 bl (vI D x i j)/\∀n,Sm (vI D x i j) n↔Sm D n\/(x.lo<=n/\n<x.hi):=by
 obtain⟨L,s,w⟩:=hi;obtain⟨M,z,t⟩:=v;have N:i<=j:=by
  by_cases A:i<=j;exact A;have O:=s j (by omega);have P:=t j (aR _) (by omega);have Q:=h.pos (i:=j) (by omega);omega
 obtain⟨y,d⟩:∃y:Rg,y=(if i<j then⟨min x.lo (au D i).lo,max x.hi (au D (j-1)).hi⟩else x):=⟨_,rfl⟩
 have R:y.lo<=x.lo/\x.hi<=y.hi:=by
  rw[d];split;simp only;omega;omega
 have B:∀k,k<i->(au D k).hi<y.lo:=λk f=>by
  have a:=s k f;rw[d];split;have:=h.lt f (show i<D.length by omega);simp only;omega;omega
 have C:∀k,j<=k->k<D.length->y.hi<(au D k).lo:=λk f u=>by
  have a:=t k f u;rw[d];split;have:=h.lt (show j-1<k by omega) u;simp only;omega;omega
 have E:vI D x i j=D.take i++(y::D.drop j):=by rw[d];rfl
 rw[E];constructor;refine(h.sub (List.take_sublist i D)).append ⟨qu.2 ⟨λb g=>?_,(h.sub (List.drop_sublist j D)).1⟩,λr c=>?_⟩ (λa F b g=>?_);obtain⟨k,l,q,rfl⟩:=sc g;exact C k l q;obtain rfl|c:=fF.1 c
 omega;exact h.2 r (iN c);obtain⟨k,l,q,rfl⟩:=xZ F;have e1:=B k l;obtain rfl|g:=fF.1 g
 exact e1;obtain⟨m,m1,G,rfl⟩:=sc g;exact h.lt (by omega) G;intro n;rw[r9,eB];have hl:D=D.take i++((D.drop i).take (j-i)++D.drop j):=by
  have e:D.drop j=(D.drop i).drop (j-i):=by rw[tz];congr 1;omega
  rw[e,pr,pr]
 have H:∀r∈(D.drop i).take (j-i),∃k,i<=k/\k<j/\r=au D k:=λr c=>by
  obtain⟨k,f,rfl⟩:=jY.1 c;rw[ct,dM]at f;refine⟨i+k,by omega,by omega,?_⟩
  rw[vq,vs,au,List.getD,eI (by omega)];rfl
 have jk:Sm D n↔Sm (D.take i) n\/Sm ((D.drop i).take (j-i)) n\/Sm (D.drop j) n:=by
  rw[hl];simp only[r9]
  rw[<-hl]
 rw[jk];constructor;rintro(a|a|a);exact .inl (.inl a);by_cases I:x.lo<=n/\n<x.hi;exact .inr I;left;right;left;rw[d]at a;split at a;rename_i p;simp only at a;by_cases S:n<x.lo;exact⟨au D i,by
  rw[jY];refine⟨0,by rw[ct,dM];omega,?_⟩
  rw[vq,vs,au,List.getD,eI (by omega)];rfl,by omega,by have:=w i (aR _) (by omega);omega⟩
 exact⟨au D (j-1),by
  rw[jY];refine⟨j-1-i,by rw[ct,dM];omega,?_⟩
  rw[vq,vs,au,List.getD,eI (by omega)];simp only[Option.getD_some]
  congr 1;omega,by have:=z (j-1) (by omega);omega,by omega⟩
 omega;exact .inl (.inr (.inr a));rintro((a|⟨r,c,a⟩|a)|a);exact .inl a;right;left;obtain⟨k,l,q,rfl⟩:=H r c;rw[d,iP_];simp only
 have e1:(au D i).lo<=(au D k).lo:=by
  obtain p|rfl:=rS l
  have:=h.lt p (by omega);have:=h.pos (i:=i) (by omega);omega;omega
 have e2:(au D k).hi<=(au D (j-1)).hi:=by
  obtain p|he:=rS (show k<=j-1 by omega)
  have:=h.lt p (by omega);have:=h.pos (i:=j-1) (by omega);omega;rw[he];omega
 omega;exact .inr (.inr a);right;left;omega
def Ga{r:Rg}:r∈(D.drop i).take (j-i)->∃k,i<=k/\k<j/\k<D.length/\r=au D k:=λa=>by
 obtain⟨k,b,rfl⟩:=jY.1 a;rw[ct,dM]at b;refine⟨i+k,by omega,by omega,by omega,?_⟩
 rw[vq,vs,au,List.getD,eI (by omega)];rfl
def Gb(l:List Rg)(a:i<=j)(n:Int):Sm l n↔Sm (l.take i) n\/Sm ((l.drop i).take (j-i)) n\/Sm (l.drop j) n:=by
 have hl:l=l.take i++((l.drop i).take (j-i)++l.drop j):=by
  have e:l.drop j=(l.drop i).drop (j-i):=by rw[tz];congr 1;omega
  rw[e,pr,pr]
 have:Sm (l.take i++((l.drop i).take (j-i)++l.drop j)) n↔Sm (l.take i) n\/Sm ((l.drop i).take (j-i)) n\/Sm (l.drop j) n:=by simp only[r9]
 rwa[<-hl]at this
def AF(b:i<=k)(c:k<j)(a:k<D.length:=by omega):au D k∈(D.drop i).take (j-i):=by
 rw[jY];refine⟨k-i,by rw[ct,dM];omega,?_⟩
 rw[vq,vs,au,List.getD,eI a];simp only[Option.getD_some]
 congr 1;omega
def vJ(l:List Rg)(x:Rg)(i j:Nat):List Rg:=
 l.take i++((if(au l i).lo<x.lo then[⟨(au l i).lo,x.lo⟩]else[])++((if x.hi<(au l (j-1)).hi then[⟨x.hi,(au l (j-1)).hi⟩]else[])++l.drop j))
def Gc{x:Rg}(h:bl D)(M:x.lo<x.hi)(u:i<j)(hi:lT D.length i (λk=>x.lo<(au D k).hi))(y:lT D.length j (λk=>x.hi<=(au D k).lo)):
 bl (vJ D x i j)/\∀n,Sm (vJ D x i j) n↔Sm D n/\¬(x.lo<=n/\n<x.hi):=by
 obtain⟨N,z,A⟩:=hi;obtain⟨O,B,C⟩:=y;have P:=h.pos (i:=i) (by omega);have Q:=h.pos (i:=j-1) (by omega);have ci:=A i (aR _) (by omega);have R:=B (j-1) (by omega);have E:∀k,k<i->(au D k).hi<(au D i).lo:=λk f=>h.lt f (by omega)
 have v:∀k,k<i->(au D k).hi<=x.lo:=λk f=>by have:=z k f;omega
 have F:∀k,j<=k->k<D.length->(au D (j-1)).hi<(au D k).lo:=λk f s=>h.lt (by omega) s
 have w:∀k,j<=k->k<D.length->x.hi<=(au D k).lo:=λk f s=>C k f s
 have G:bl (if(au D i).lo<x.lo then[⟨(au D i).lo,x.lo⟩]else[]):=by
  split;exact bl.one (by assumption);exact bl.nil
 have H:bl (if x.hi<(au D (j-1)).hi then[⟨x.hi,(au D (j-1)).hi⟩]else[]):=by
  split;exact bl.one (by assumption);exact bl.nil
 have t:∀r∈(if(au D i).lo<x.lo then[(⟨(au D i).lo,x.lo⟩:Rg)]else[]),r.lo=(au D i).lo/\r.hi=x.lo/\(au D i).lo<x.lo:=λr c=>by
  split at c;simp only[cL]at c;subst c;exact⟨rfl,rfl,by assumption⟩
  cases c
 have q:∀r∈(if x.hi<(au D (j-1)).hi then[(⟨x.hi,(au D (j-1)).hi⟩:Rg)]else[]),r.lo=x.hi/\r.hi=(au D (j-1)).hi/\x.hi<(au D (j-1)).hi:=λr c=>by
  split at c;simp only[cL]at c;subst c;exact⟨rfl,rfl,by assumption⟩
  cases c
 constructor;refine(h.sub (List.take_sublist i D)).append (G.append (H.append (h.sub (List.drop_sublist j D)) (λa p b d=>?_)) (λa p b d=>?_)) (λa p b d=>?_);obtain⟨k,g,l,rfl⟩:=sc d;have:=q a p;have:=F k g l;omega;have m1:=t a p;obtain d|d:=bQ.1 d
 have:=q b d;omega;obtain⟨k,g,l,rfl⟩:=sc d;have:=w k g l;omega;obtain⟨k,g,l,rfl⟩:=xZ p;have e1:=E k g;have e2:=v k g;obtain d|d:=bQ.1 d
 have:=t b d;omega;obtain d|d:=bQ.1 d
 have:=q b d;omega;obtain⟨m,m1,I,rfl⟩:=sc d;exact h.lt (by omega) I;intro n;rw[Gb D (Nat.le_of_lt u) n];unfold vJ;simp only[r9]
 have tk:Sm (D.take i) n->n<x.lo:=λ⟨r,c,a⟩=>by
  obtain⟨k,g,l,rfl⟩:=xZ c;have:=v k g;omega
 have K:Sm (D.drop j) n->x.hi<=n:=λ⟨r,c,a⟩=>by
  obtain⟨k,g,l,rfl⟩:=sc c;have:=w k g l;omega
 constructor;rintro(a|⟨r,c,a⟩|⟨r,c,a⟩|a);exact⟨.inl a,by have:=tk a;omega⟩
 have m1:=t r c;exact⟨.inr (.inl ⟨au D i,AF (aR _) u,by omega,by omega⟩),by omega⟩
 have m1:=q r c;exact⟨.inr (.inl ⟨au D (j-1),AF (by omega) (by omega),by omega,by omega⟩),by omega⟩
 exact⟨.inr (.inr a),by have:=K a;omega⟩
 rintro⟨a|⟨r,c,a⟩|a,S⟩;exact .inl a;obtain⟨k,g,l,k3,rfl⟩:=Ga c;by_cases L:n<x.lo;right;left;have e:k=i:=by
  obtain f|f:=rS g
  have:=h.lt f k3;omega;exact f.symm
 subst e;rw[iP_];exact⟨_,cL.2 rfl,a.1,L⟩
 right;right;left;have e:k=j-1:=by
  obtain f|f:=rS (show k<=j-1 by omega)
  have:=h.lt f (by omega);omega;exact f
 subst e;rw[iP_];exact⟨_,cL.2 rfl,by show x.hi<=n;omega,a.2⟩
 exact .inr (.inr (.inr a))
def Gd{x:Rg}(h:bl D)(j:x.lo<x.hi):(∃r∈D,r.lo<=x.lo/\x.hi<=r.hi)↔∀n,x.lo<=n->n<x.hi->Sm D n:=by
 constructor;rintro⟨r,c,e,k⟩ n l m;exact⟨r,c,by omega,by omega⟩
 intro f;obtain⟨r,c,e,k⟩:=f x.lo (cS _) j;refine⟨r,c,e,?_⟩
 by_cases p:x.hi<=r.hi;exact p;obtain⟨s,hs,l,m⟩:=f r.hi (by omega) (by omega);obtain⟨a,g,rfl⟩:=jY.1 c;obtain⟨b,i,rfl⟩:=jY.1 hs;obtain d|rfl|d:=Nat.lt_trichotomy a b
 have:=List.pairwise_iff_getElem.1 h.1 a b g i d;omega;omega;have:=List.pairwise_iff_getElem.1 h.1 b a i g d;have:=h.2 _ c;omega
structure dI(w:World)(c:Nat)(v:Value)(b:World)(a:Value)(m:List Int):Prop where
 own:bn b c a m
 gb:w.grownBy b v.ownBlock
 aP:a.ownBlock=v.ownBlock\/∃k,a.ownBlock=some k/\w.heap.size<=k
def dI.refl(h:bn w n x L):dI w n x w x L:=⟨h,aB _ _,.inl rfl⟩
def dI.still(h:dI w n x W y L)(g:W.grownBy V none):dI w n x V y L:=
 ⟨h.own.an g,cJ h.gb g (λ_ e=>by cases e),h.aP⟩
def dI.trans(h:dI w n x W y L)(k:dI W n y V z K):dI w n x V z K:=
 ⟨k.own,cJ h.gb k.gb (λj e=>by
  obtain aa|⟨b,a,hle⟩:=h.aP
  exact .inr aa
  ·rw[a]at e;cases e;exact .inl hle),by
  have hs:=h.gb.size;obtain c|⟨b,a,hle⟩:=k.aP
  rw[c];exact h.aP
  ·exact .inr ⟨b,a,by omega⟩⟩
def dI.app{a:World}(h:dI w n x W y L)(g:W.grownBy V none)(b:bn a n z K)(c:V.grownBy a y.ownBlock)(d:z.ownBlock=y.ownBlock\/z.ownBlock=some V.heap.size):dI w n x a z K:=
 (h.still g).trans ⟨b,c,by
   obtain e|e:=d
   exact .inl e
   ·exact .inr ⟨_,e,aR _⟩⟩
def dI.apart(h:dI w n x W y L){B:Nat}(b:B<w.heap.size)(a:x.ownBlock≠some B):W.heap[B]?=w.heap[B]? /\y.ownBlock≠some B:=by
 refine⟨h.gb.block B b (λe=>a e.symm),λe=>?_⟩
 obtain aa|⟨k,c,hle⟩:=h.aP
 exact a (aa.symm.trans e);rw[c]at e;cases e;omega
def dI.size(h:dI w n x W y L):w.heap.size<=W.heap.size:=h.gb.size
def dI.gT(h:dI w k x W (.slice a n i) L):bI W a n i L:=h.own.gT
def pw(n:Int):Int:=if n<64 then 0 else if n<16384 then 1 else if n<1073741824 then 2 else 3
def AG(n:Int)(w:World):Calls prog 295 #[.int .u64 n] w λe d=>e=.returned (.int .i64 (pw n))/\d=w:=by
 unfold pw;by_cases a:n<64
 ·have e1:decide (n<64)=true:=by simp[a]
  go_enter func295,ntmps295;go_wp2;go_ret;exact⟨by simp,rfl⟩
 have e1:decide (n<64)=false:=by simp[a]
 by_cases b:n<16384
 ·have e2:decide (n<16384)=true:=by simp[b]
  go_enter func295,ntmps295;go_wp2;go_ret;exact⟨by simp,rfl⟩
 have e2:decide (n<16384)=false:=by simp[b]
 by_cases c:n<1073741824
 ·have f:decide (n<1073741824)=true:=by simp[c]
  go_enter func295,ntmps295;go_wp2;go_ret;exact⟨by simp,rfl⟩
 have f:decide (n<1073741824)=false:=by simp[c]
 go_enter func295,ntmps295;go_wp2;go_ret;exact⟨by simp,rfl⟩
def j7(m:Int)(k:Nat):List Int:=(List.range k).map λi=>m/2^(8*(k-1)-8*i) %256
def AH(m:Int)(k:Nat):(j7 m k).length=k:=by simp[j7]
def Ge(m:Int)(k j:Nat)(h:j<k):(j7 m k).take (j+1)=(j7 m k).take j++[m/2^(8*(k-1)-8*j) %256]:=by
 have hl:j<(j7 m k).length:=by rw[AH];exact h
 rw[rP hl];simp[j7]
def vK(n:Int)(p k:Nat)(h0:0<=n)(b:n<(2^k:Nat))(c:p*2^k+2^k<=18446744073709551616):bits .or .u64 n ((p*2^k:Nat):Int)=n+((p*2^k:Nat):Int):=by
 obtain⟨m,rfl⟩:=qp h0;have a:m<2^k:=by omega
 rw[u64_or_nat _ _ (by omega) (by omega)];have:=xL a p;rw[Nat.shiftLeft_eq]at this;rw[Nat.or_comm,<-this];omega
def Gf(h:p<64)(h0:0<=p):aU p=j7 p 1:=by
 simp[aU,j7,h];omega
def Gg(h:¬p<64)(a:p<16384):aU p=j7 (p+16384) 2:=by
 simp[aU,j7,h,a,vy];omega
def Gh(h:¬p<64)(a:¬p<16384)(b:p<1073741824):aU p=j7 (p+2147483648) 4:=by
 simp[aU,j7,h,a,b,vy];omega
def Gi(h:¬p<64)(a:¬p<16384)(b:¬p<1073741824)(c:dZ p):aU p=j7 (p+13835058055282163712) 8:=by
 unfold dZ at c;simp[aU,j7,h,a,b,vy];omega
def dP(p:Prop)(e:Ending):Prop:=∃b:Bool,e=.returned (.bool b)/\(b=true↔p)
def sd{p:Prop}(h:p):dP p (.returned (.bool true)):=⟨true,rfl,by simp[h]⟩
def lU{p:Prop}(h:¬p):dP p (.returned (.bool false)):=⟨false,rfl,by simp[h]⟩
def nY{p q:Prop} [Decidable q](h:q↔p):dP p (.returned (.bool (decide q))):=⟨_,rfl,by simp[h]⟩
def cE(l:List Rg):List Value:=l.flatMap λr=>[.int .u64 r.lo,.int .u64 r.hi]
def bw(w:World)(a:Option Addr)(n cap:Nat)(l:List Rg):Prop:=
 (∀r∈l,r.ok)/\n=l.length/\n<=cap/\cap<=maxLen/\(cap=0\/∃b o,a=some ⟨b,o,none⟩/\w.rangeAt b o (cE l))
def rm(l:List Rg):(cE l).length=l.length*2:=by
 induction l with
 |nil=>rfl
 |cons r l a=>simp only[cE,rU,bH,dc,fe]at *;omega
def AI(l:List Rg)(i:Nat)(h:i<l.length):(cE l)[i*2]?=some (.int .u64 (au l i).lo)/\(cE l)[i*2+1]?=some (.int .u64 (au l i).hi):=by
 induction l generalizing i with
 |nil=>simp at h
 |cons r l a=>
  cases i with
  |zero=>simp[cE,au]
  |succ i=>
   have:=a i (by simpa using h);have e1:(i+1)*2=i*2+1+1:=by omega
   have e2:(i+1)*2+1=i*2+1+1+1:=by omega
   rw[e2,e1];simp only[cE,rU,qv,jZ,List.getElem?_cons_succ,au,List.getD_cons_succ]at this⊢;exact this
def oQ(h:∀r∈D,r.ok)(i:Nat):(au D i).ok:=by
 unfold au;by_cases hi:i<D.length;rw[List.getD,eI hi];exact h _ (tu hi);rw[List.getD,nQ (by omega)];exact⟨by simp[aS],by simp[aS]⟩
def bw.an(h:bw w a n k D)(g:w.grownBy W none):bw W a n k D:=by
 obtain⟨d,e,f,i,c⟩:=h;refine⟨d,e,f,i,?_⟩
 obtain c|⟨b,o,rfl,c⟩:=c
 exact .inl c;exact .inr ⟨b,o,rfl,jh c g (by simp)⟩
def bw.cell(h:bw w (some ⟨b,o,none⟩) n k D)(i:Nat)(hi:i<D.length):w.cell? ⟨b,o+i*2,none⟩=some (.int .u64 (au D i).lo)/\w.cell? ⟨b,o+i*2+1,none⟩=some (.int .u64 (au D i).hi):=by
 obtain⟨-,a,d,-,h|⟨f,g,e,c⟩⟩:=h;omega;cases e;have:=AI D i hi;refine⟨c _ _ this.1,?_⟩
 have a:=c _ _ this.2;rwa[<-qx]at a
def Gk(h:∀i,i<j->ng D i)(a:ng D j):∀i,i<j+1->ng D i:=λi hi=>by
 obtain b|rfl:=qm.1 hi
 exact h i b;exact a
def Gl(a:Option Addr)(n cap:Nat)(l:List Rg)(w:World)(h:bw w a n cap l):
 Calls prog 234 #[.slice a n cap] w λe u=>dP (iQ l) e/\w.grownBy u none:=by
 have v:n=l.length:=h.2.1;subst v;have C:=h.2.2.1;have x:=h.2.2.2.1;unfold maxLen at x;go_enter func234,ntmps234;go_wp2;go_loopw [7] (λi wr=>∃j:Nat,j<=l.length/\i=.int .i64 j/\(∀i,i<j->ng l i)/\w.grownBy wr none) (λi _=>l.length-(intOf i).toNat);case atStart=>exact⟨0,by omega,rfl,λi hi=>by omega,aB _ _⟩
 case round=>
  obtain⟨j,D,rfl,m,d⟩:=hrel;by_cases p:j<l.length
  ·have q:=h.an d;obtain⟨-,-,-,-,h0|⟨b,o,rfl,-⟩⟩:=id q;omega;obtain⟨c1,c2⟩:=q.cell j p;have r:=oQ h.1 j;obtain⟨⟨y,z⟩,k3,k4⟩:=r;obtain⟨lo,f⟩:=exq ((au l j).lo);obtain⟨hi,c⟩:=exq ((au l j).hi);rw[<-f]at c1 y z;rw[<-c]at c2 k3 k4;replace⟨f,c,m⟩:=cg f c m;have E:Hid (0<l.length):=J (by omega);by_cases F:hi<lo
   ·go_wp2_with fail;go_ret;exact⟨lU (λg=>by have:=(g.2 j p).1;rw[<-Z f,<-Z c]at this;omega),aY d _⟩
   by_cases G:4611686018427387903<hi
   ·go_wp2_with fail;go_ret;exact⟨lU (λg=>by have:=(g.2 j p).2.1;rw[<-Z c]at this;omega),aY d _⟩
   obtain _|i:=j
   ·rw[nV,oM]at c1 c2;have H:decide ((0:Int)<0)=false:=by simp
    go_wp2_with fail;go_quiet (fail);go_wp2;go_roundw;case rel=>exact⟨1,by omega,by simp,λi hi=>by
     obtain rfl:i=0:=by omega
     exact⟨by rw[<-Z f,<-Z c];omega,by rw[<-Z c];omega,λh=>by omega⟩,dy (aY d _) _⟩
    case measure=>simp[intOf];omega
   obtain⟨c3,-⟩:=(q.an (aH wr (.cells #[.int .u64 lo,.int .u64 hi] 200) none)).cell i (by omega);have r:=oQ h.1 i;obtain⟨⟨k5,A⟩,-⟩:=r;obtain⟨s,k⟩:=exq ((au l i).lo);rw[<-k]at c3 k5 A;replace k:=J k;have I:IntKind.i64.wrap (i:Int)=(i:Int):=by simp[IntKind.wrap,IntKind.bits,IntKind.signed];omega
   have K:IntKind.u64.wrap (hi+1)=hi+1:=by rw[fD];omega
   have L:(0:Int)<=i:=by omega
   have M:(i:Int)<l.length:=by omega
   by_cases t:s<=hi+1
   ·have B:decide (s<=hi+1)=true:=by simp[t]
    go_wp2_with fail;go_quiet (fail);go_wp2;go_ret;exact⟨lU (λg=>by have:=(g.2 (i+1) p).2.2 (by omega);rw[rT,<-Z c,<-Z k]at this;omega),dy (aY d _) _⟩
   have B:decide (s<=hi+1)=false:=by simp[t]
   go_wp2_with fail;go_quiet (fail);go_wp2;go_roundw;case rel=>
    refine⟨i+1+1,by omega,by simp,Gk (Z m) ⟨by rw[<-Z f,<-Z c];omega,by rw[<-Z c];omega,λ_=>?_⟩,dy (aY d _) _⟩
    rw[rT,<-Z c,<-Z k];omega
   case measure=>simp[intOf];omega
  obtain rfl:j=l.length:=by omega
  go_wp2;go_ret;refine⟨nY ⟨λhp=>⟨by omega,m⟩,λhp=>by have:=hp.1;omega⟩,d⟩
def vL(n f:Nat)(lb:Array Value)(w:World)(p:Nat->Prop)(K:n<=4611686018427387903)(l:∀i j,i<=j->j<n->p i->p j)
 (L:∀args w,(callFunc f args).run prog w=.ok (.enter f args) w)
 (r:∀(W:World)(h:Nat),w.grownBy W none->h<n->Calls prog f (#[.int .i64 h]++lb) W (λe B=>dP (p h) e/\W.grownBy B none)):
 Calls prog 248 #[.int .i64 n,.func (.func f) #[] lb] w λe a=>(∃k:Nat,e=.returned (.int .i64 k)/\lT n k p)/\w.grownBy a none:=by
 obtain⟨R,s⟩:∃R:Ending->Prop,R=λe=>∃k:Nat,e=.returned (.int .i64 k)/\lT n k p:=⟨_,rfl⟩
 have t:∀k:Nat,lT n k p->R (.returned (.int .i64 k)):=λk h=>by rw[s];exact⟨k,rfl,h⟩
 have y:(λe a=>(∃k:Nat,e=.returned (.int .i64 k)/\lT n k p)/\w.grownBy a none)=λe a=>R e/\w.grownBy a none:=by rw[s]
 rw[y];clear y s;replace⟨t,r,l⟩:=cg t r l;go_enter func248,ntmps248;go_wp2;go_loopw [5,6] (λu v wr=>∃i j:Nat,i<=j/\j<=n/\u=.int .i64 i/\v=.int .i64 j/\(∀m,m<i->¬p m)/\(∀m,j<=m->m<n->p m)/\w.grownBy wr none) (λu v _=>(intOf v-intOf u).toNat);case atStart=>exact⟨0,n,by omega,aR _,rfl,rfl,λm C=>by omega,λm c d=>by omega,aB _ _⟩
 case round=>
  obtain⟨i,j,M,D,rfl,rfl,c,d,g⟩:=hrel;replace⟨c,d⟩:=bA c d;by_cases N:i<j
  ·have d1:decide ((i:Int)<j)=true:=dT_;obtain⟨h,E⟩:∃h:Nat,h=(i+j)/2:=⟨_,rfl⟩
   have O:((i:Int)+j)/2=(h:Int):=by omega
   have F:i<=h:=by omega
   have P:h<j:=by omega
   clear E;go_wp2_with fail;apply(Z r wr h g (by omega)).mono;rintro e Q⟨⟨b,rfl,q⟩,G⟩;have z:=aq g G;cases b
   ·have H:Hid (¬p h):=J (λhp=>by cases q.2 hp);clear q;go_wp2;go_roundw;case rel=>
     refine⟨h+1,j,by omega,D,by simp,rfl,λm C hp=>?_,Z d,z⟩
     exact Z H (Z l m h (by omega) (by omega) hp)
    case measure=>simp[intOf];omega
   have I:Hid (p h):=J (q.1 rfl);clear q;go_wp2;go_roundw;case rel=>
    refine⟨i,h,F,by omega,rfl,rfl,Z c,λm A x=>?_,z⟩
    exact Z l h m A x (Z I)
   case measure=>simp[intOf];omega
  have d1:decide ((i:Int)<j)=false:=dF_;go_wp2;go_ret;exact⟨Z t i ⟨by omega,Z c,λm A x=>Z d m (by omega) x⟩,g⟩
def pJ(W:World)(bs b:Nat)(a:Option Addr)(n cap:Nat)(l:List Rg)(x:Rg):Prop:=
 W.cell? ⟨bs,0,none⟩=some (.slice a n cap)/\W.cell? ⟨b,0,none⟩=some (.int .u64 x.lo)/\W.cell? ⟨b,1,none⟩=some (.int .u64 x.hi)/\bw W a n cap l/\x.ok
def pJ.an{x:Rg}(h:pJ W k i a n j D x)(g:W.grownBy w none):pJ w k i a n j D x:=
 ⟨gC_ g h.1,gC_ g h.2.1,gC_ g h.2.2.1,h.2.2.2.1.an g,h.2.2.2.2⟩
def Gm(W:World)(bs g i n cap:Nat)(a:Option Addr)(l:List Rg)(x:Rg)(h:pJ W bs g a n cap l x)(hi:i<n):
 Calls prog 249 #[.int .i64 i,.pointer (some ⟨bs,0,none⟩),.pointer (some ⟨g,0,none⟩)] W λe k=>dP (x.lo<=(au l i).hi) e/\W.grownBy k none:=by
 obtain⟨s,m,p,c,t⟩:=h;have j:n=l.length:=c.2.1;have u:=c.2.2.1;have r:=c.2.2.2.1;unfold maxLen at r;obtain⟨-,-,-,-,h0|⟨b,o,rfl,-⟩⟩:=id c;omega;obtain⟨c1,c2⟩:=c.cell i (by omega);replace j:=J j;obtain⟨q,d⟩:=exq ((au l i).hi);rw[<-d]at c2⊢;replace d:=J d;obtain⟨y,f⟩:=exq x.lo;rw[<-f]at m⊢;replace f:=J f;have v:(i:Int)<n:=by omega
 clear c1 p;go_enter func249,ntmps249;go_wp2_with fail;go_quiet (fail);go_wp2;go_ret;exact⟨nY (by simp),dy (aB _ _) _⟩
def Gn(W:World)(bs g i n cap:Nat)(a:Option Addr)(l:List Rg)(x:Rg)(h:pJ W bs g a n cap l x)(hi:i<n):
 Calls prog 250 #[.int .i64 i,.pointer (some ⟨bs,0,none⟩),.pointer (some ⟨g,0,none⟩)] W λe k=>dP (x.hi<(au l i).lo) e/\W.grownBy k none:=by
 obtain⟨s,m,p,c,t⟩:=h;have j:n=l.length:=c.2.1;have u:=c.2.2.1;have r:=c.2.2.2.1;unfold maxLen at r;obtain⟨-,-,-,-,h0|⟨b,o,rfl,-⟩⟩:=id c;omega;obtain⟨c1,c2⟩:=c.cell i (by omega);replace j:=J j;obtain⟨q,d⟩:=exq ((au l i).lo);rw[<-d]at c1⊢;replace d:=J d;obtain⟨y,f⟩:=exq x.hi;rw[<-f]at p⊢;replace f:=J f;have v:(i:Int)<n:=by omega
 clear c2 m;go_enter func250,ntmps250;go_wp2_with fail;go_quiet (fail);go_wp2;go_ret;exact⟨nY (by simp),dy (aB _ _) _⟩
def Gp(W:World)(bs g i n cap:Nat)(a:Option Addr)(l:List Rg)(x:Rg)(h:pJ W bs g a n cap l x)(hi:i<n):
 Calls prog 297 #[.int .i64 i,.pointer (some ⟨bs,0,none⟩),.pointer (some ⟨g,0,none⟩)] W λe k=>dP (x.lo<(au l i).hi) e/\W.grownBy k none:=by
 obtain⟨s,m,p,c,t⟩:=h;have j:n=l.length:=c.2.1;have u:=c.2.2.1;have r:=c.2.2.2.1;unfold maxLen at r;obtain⟨-,-,-,-,h0|⟨b,o,rfl,-⟩⟩:=id c;omega;obtain⟨c1,c2⟩:=c.cell i (by omega);replace j:=J j;obtain⟨q,d⟩:=exq ((au l i).hi);rw[<-d]at c2⊢;replace d:=J d;obtain⟨y,f⟩:=exq x.lo;rw[<-f]at m⊢;replace f:=J f;have v:(i:Int)<n:=by omega
 clear c1 p;go_enter func297,ntmps297;go_wp2_with fail;go_quiet (fail);go_wp2;go_ret;exact⟨nY (by simp),dy (aB _ _) _⟩
def Gq(W:World)(bs g i n cap:Nat)(a:Option Addr)(l:List Rg)(x:Rg)(h:pJ W bs g a n cap l x)(hi:i<n):
 Calls prog 298 #[.int .i64 i,.pointer (some ⟨bs,0,none⟩),.pointer (some ⟨g,0,none⟩)] W λe k=>dP (x.hi<=(au l i).lo) e/\W.grownBy k none:=by
 obtain⟨s,m,p,c,t⟩:=h;have j:n=l.length:=c.2.1;have u:=c.2.2.1;have r:=c.2.2.2.1;unfold maxLen at r;obtain⟨-,-,-,-,h0|⟨b,o,rfl,-⟩⟩:=id c;omega;obtain⟨c1,c2⟩:=c.cell i (by omega);replace j:=J j;obtain⟨q,d⟩:=exq ((au l i).lo);rw[<-d]at c1⊢;replace d:=J d;obtain⟨y,f⟩:=exq x.hi;rw[<-f]at p⊢;replace f:=J f;have v:(i:Int)<n:=by omega
 clear c2 m;go_enter func298,ntmps298;go_wp2_with fail;go_quiet (fail);go_wp2;go_ret;exact⟨nY (by simp),dy (aB _ _) _⟩
def AJ{P:Program}(w:World)(t ty e:TypeId)(i:TypeInfo)(z:Value)(size bytes:Nat)(q:P.underlying t=some (.slice e))(hi:P.info? e=some i)(r:i.zero=some z)
 (s:i.size=size) (x:i.bytes=bytes) (A:z.cells.size=size) (E:0<size) (v:Value) (n:Nat) (d:List Value) (g:d.length=n*size)
 (F:(v=.slice none 0 0/\n=0)\/∃y,v=.slice (some y) n n/\∀j u,d[j]?=some u->w.cell? (y.add j)=some u)
 (a:Addr) (m c:Nat) (b:List Value) (Q:0<m) (hl:b.length=m*size) (B:∀j u,b[j]?=some u->w.cell? (a.add j)=some u) (G:∀u∈b,u.oneCell'=true)
 (l:n+m<=maxLen) (C:(n+m)*bytes<=140737488355328):
 ∃h f,(Builtin.append_ #[t,t] ty #[v,.slice (some a) m c]).run P w=.ok h f/\f.ownsRow w.heap.size e size h (n+m) (d++b)/\w.grownBy f none:=by
 obtain⟨rfl,rfl⟩|⟨y,rfl,H⟩:=F
 have I:d=[]:=nM (by simpa using g);subst I;obtain⟨h,f,p,K,L,-,-⟩:=run_append_own_at (P:=P) w w.heap.size t ty e i z size bytes q hi r s x A E (.slice none 0 0) 0 [] (oJ _ _ _ _) a m c b hl B G l C (aR _);exact⟨h,f,p,K,L⟩
 subst s;subst x;have R:n+m<=9223372036854775807:=by simp only[maxLen]at l;omega
 have p:=run_append_grow (P:=P) w t ty e i z q hi r y n n d g H a m c b hl B (by omega) (by omega) (growslice_fits (by omega) C);have D:(d++b).length=(n+m)*i.size:=by rw[bH,g,hl,Nat.add_mul]
 have M:=grownCap_ge w (n+m) n e;have N:grownCap w (n+m) n e<=maxLen:=grownCap_le_maxLen w (n+m) n e l;refine⟨_,_,p,⟨D,.inr ⟨w.heap.size,_,_,rfl,aR _,aO w.drew _,M,N,?_,?_⟩⟩,⟨rfl,rfl,rfl,by simp,λk O _=>fE w.drew _ k O⟩⟩
 simp only[Array.size_append,tt,size_zeroCells,A,g,hl,<-Nat.add_mul]
 congr 1;omega;simp only[Array.toList_append,fC]
 rw[<-fC,<-D];exact List.take_left
def dj(w:World)(a:Nat)(v:Value)(l:List Rg):Prop:=(∀r∈l,r.ok)/\w.ownsRow a 341 2 v l.length (cE l)
def dj.gb(h:dj w n x D)(g:w.grownBy W N)(a:x.ownBlock=none\/x.ownBlock≠N:=by simp):dj W n x D:=⟨h.1,h.2.kept g a⟩
def dj.an(h:dj w n x D)(g:w.grownBy W none):dj W n x D:=h.gb g (by cases x.ownBlock<;>simp)
def dj.ni(h:dj w k (.slice a n i) D):bw w a n i D/\∀x,a=some x->k<=x.block:=by
 obtain⟨d,l,m⟩:=h;obtain⟨e,p⟩|⟨g,cap,cur,e,aa,q,r,hm,hs,s⟩:=m
 cases e;exact⟨⟨d,p.symm,by simp,by simp[maxLen],.inl rfl⟩,λx b=>by cases b⟩
 cases e;refine⟨⟨d,rfl,r,hm,.inr ⟨g,0,rfl,λj v c=>?_⟩⟩,λx b=>by cases b;exact aa⟩
 have f:j<(cE D).length:=(kQ.1 c).1;rw[<-s,jI,aD (by rw[l]at f;exact f)]at c;simp only[World.cell?,q,dY]
 simpa using c
def tP:(prog.info? 341).map (λi=>(i.zero,i.size,i.bytes))=some (some (.agg #[.int .u64 0,.int .u64 0]),2,16):=by kernel_rfl
def tQ(l m:List Rg):cE (l++m)=cE l++cE m:=by simp[cE]
def vM(l:List Rg):∀u∈cE l,u.oneCell'=true:=by
 intro u a;simp only[cE,vu,fF,qX,py]at a;obtain⟨y,-,rfl|rfl⟩:=a<;>rfl
def bw.front(h:bw w a n k D)(i:Nat)(hi:i<=n):bw w a i i (D.take i):=by
 obtain⟨f,l,m,p,c⟩:=h;refine⟨λr g=>f r (jc g),by rw[ct];omega,aR _,by omega,?_⟩
 obtain c|⟨b,o,rfl,c⟩:=c
 exact .inl (by omega);refine .inr ⟨b,o,rfl,λj v d=>c j v ?_⟩;have e:cE D=cE (D.take i)++cE (D.drop i):=by rw[<-tQ,pr]
 rw[e,mm (kQ.1 d).1];exact d
def Gr(ty:TypeId)(a:Option Addr)(n:Nat)(l:List Rg)(hs:bw w a n n l)(b o c:Nat)(r:Rg)(v:r.ok)(h0:w.cell? ⟨b,o,none⟩=some (.int .u64 r.lo))(x:w.cell? ⟨b,o+1,none⟩=some (.int .u64 r.hi))(G:n<=100000000):
 ∃k m p e,(Builtin.append_ #[227,227] ty #[.slice a n n,.slice (some ⟨b,o,none⟩) 1 c]).run prog w=.ok (.slice k m p) e/\dj e w.heap.size (.slice k m p) (l++[r])/\w.grownBy e none:=by
 obtain⟨z,hi,A,B,C⟩:=lD tP;have q:n=l.length:=hs.2.1;obtain⟨D,e,s,E,t⟩:=AJ (P:=prog) w 227 ty 341 z (.agg #[.int .u64 0,.int .u64 0]) 2 16 underlying227 hi A B C rfl (by decide) (.slice a n n) n (cE l) (by rw[rm,q]) (by
  obtain⟨-,-,-,-,f|⟨H,I,rfl,f⟩⟩:=hs;cases a with
  |none=>exact .inl ⟨by rw[f],f⟩
  |some y=>
   refine .inr ⟨y,rfl,λj u d=>?_⟩;have:l=[]:=eN_;subst this;simp[cE]at d
  exact .inr ⟨_,rfl,λj u d=>by rw[Addr.add_mid];exact f j u d⟩) ⟨b,o,none⟩ 1 c (cE [r]) (by decide) rfl (by
  intro j u d;rw[Addr.add_mid];match j,d with
  |0,d=>simp[cE]at d;rw[<-d];exact h0
  |1,d=>simp[cE]at d;rw[<-d];exact x) (vM _) (by simp[maxLen];omega) (by omega)
 have i:dj e w.heap.size D (l++[r]):=⟨λy F=>(bQ.1 F).elim (hs.1 y) (λh=>by rw[cL.1 h];exact v),by rw[bH,tQ,<-q];exact E⟩
 obtain⟨-,-,⟨rfl,e2⟩|⟨g,cap,K,rfl,_⟩⟩:=id i;exact⟨_,_,_,e,s,i,t⟩
 exact⟨_,_,_,e,s,i,t⟩
def AK(ty:TypeId)(f:Nat)(v:Value)(l:List Rg)(h:dj w f v l)(i:Option Addr)(nx k:Nat)(m:List Rg)(C:bw w i nx k m)(M:l.length+m.length<=100000000)(D:f<=w.heap.size):
 ∃c d e a,(Builtin.append_ #[227,227] ty #[v,.slice i nx k]).run prog w=.ok (.slice c d e) a/\dj a f (.slice c d e) (l++m)/\w.grownBy a v.ownBlock/\((Value.slice c d e).ownBlock=v.ownBlock\/(Value.slice c d e).ownBlock=some w.heap.size):=by
 obtain⟨t,hi,E,F,G⟩:=lD tP;obtain⟨m1,n,N,O,p⟩:=C;have key:∀y:Addr,i=some y->(∀j u,(cE m)[j]?=some u->w.cell? (y.add j)=some u)->∃c d e a,(Builtin.append_ #[227,227] ty #[v,.slice i nx k]).run prog w=.ok (.slice c d e) a/\dj a f (.slice c d e) (l++m)/\w.grownBy a v.ownBlock/\((Value.slice c d e).ownBlock=v.ownBlock\/(Value.slice c d e).ownBlock=some w.heap.size):=λy q H=>by
  subst q;obtain⟨I,a,x,K,z,_,A⟩:=run_append_own_at (P:=prog) w f 227 ty 341 t (.agg #[.int .u64 0,.int .u64 0]) 2 16 underlying227 hi E F G rfl (by decide) v l.length (cE l) h.2 y nx k (cE m) (by rw[rm,n]) H (vM _) (by simp[maxLen];omega) (by omega) D;have r:dj a f I (l++m):=⟨λy q=>(bQ.1 q).elim (h.1 y) (m1 y),by rw[bH,tQ,<-n];exact K⟩
  obtain⟨-,-,⟨rfl,e2⟩|⟨g,cap,L,rfl,_⟩⟩:=id r;exact⟨_,_,_,a,x,r,z,A⟩
  exact⟨_,_,_,a,x,r,z,A⟩
 obtain rfl|⟨b,o,rfl,p⟩:=p
 have:m=[]:=eN_;subst this;obtain rfl:nx=0:=by simpa using n
 cases i with
 |some y=>exact key y rfl (λj u s=>by simp[cE]at s)
 |none=>
  have B:=run_append_owned_none (P:=prog) (w:=w) f 227 ty 341 t 2 underlying227 hi v _ _ h.2;rw[oL];obtain⟨-,-,⟨rfl,e2⟩|⟨g,cap,L,rfl,_⟩⟩:=id h;exact⟨_,_,_,w,B,h,aB _ _,.inl rfl⟩
  exact⟨_,_,_,w,B,h,aB _ _,.inl rfl⟩
 exact key _ rfl (λj u s=>by rw[Addr.add_mid];exact p j u s)
def Gs(w:World)(ty:TypeId)(a:Option Addr)(n:Nat)(b:Option Addr)(c:Nat):(Builtin.append_ #[227,227] ty #[.slice a n n,.slice b 0 c]).run prog w=.ok (.slice a n n) w:=by
 obtain⟨d,hi,e,f,g⟩:=lD tP;cases a<;>cases b<;>simp[Builtin.append_,vz underlying227,sizeOf,typeInfo,hi,Builtin.lenOf,Builtin.firstCells,loadCells,loadCellsFrom,storeCells]
def AL{K:Act->World->Prop}(s x:Operand)
 (ho:u.op=.call {callee:=.builtin .append,args:= #[s,x],argTypes:= #[227,227]})
 (i:Option Addr) (n:Nat) (l:List Rg) (hs:F.eval s=.slice i n n) (hl:bw w i n n l) (b f c:Nat) (r:Rg) (j:r.ok) (k:F.eval x=.slice (some ⟨b,f,none⟩) 1 c) (h0:w.cell? ⟨b,f,none⟩=some (.int .u64 r.lo)) (m:w.cell? ⟨b,f+1,none⟩=some (.int .u64 r.hi)) (p:n<=100000000)
 (h:∀d e g a,dj a w.heap.size (.slice d e g) (l++[r])->w.grownBy a none->K (F.put u.dst (.slice d e g)) a):Oper.wp prog u F w K H:=by
 obtain⟨d,e,g,a,q,t,v⟩:=Gr (w:=w) u.type i n l hl b f c r j h0 m p;unfold Oper.wp execOp;simp only[ho,resolve,invoke,builtin,je,mr,jd,nU,ky,mZ,hs,k,q]
 exact h d e g a t v
def Gt{e:Array Oper}{K:Act->World->Prop}{E:Prop}(k:u.guard=none)(s x:Operand)
 (ho:u.op=.call {callee:=.builtin .append,args:= #[s,x],argTypes:= #[227,227]})
 (a:Option Addr) (n:Nat) (l:List Rg) (hs:F.eval s=.slice a n n) (hl:bw w a n n l) (b f c:Nat) (r:Rg) (m:r.ok) (p:F.eval x=.slice (some ⟨b,f,none⟩) 1 c) (h0:w.cell? ⟨b,f,none⟩=some (.int .u64 r.lo)) (q:w.cell? ⟨b,f+1,none⟩=some (.int .u64 r.hi)) (t:n<=100000000)
 (h:∀g i j d,dj d w.heap.size (.slice g i j) (l++[r])->w.grownBy d none->K (F.put u.dst (.slice g i j)) d):if Region.wanted u (yielded e F.tmps)=true then Oper.wp prog u F w K H else E:=by
 have v:Region.wanted u (yielded e F.tmps)=true:=by simp[Region.wanted,k]
 rw[aD v];exact AL s x ho a n l hs hl b f c r m p h0 q t h
def AM{K:Act->World->Prop}(s x:Operand)
 (ho:u.op=.call {callee:=.builtin .append,args:= #[s,x],argTypes:= #[227,227]})
 (b:Nat) (v:Value) (l:List Rg) (hs:F.eval s=v) (i:dj w b v l) (f:Option Addr) (nx g:Nat) (m:List Rg) (j:F.eval x=.slice f nx g) (k:bw w f nx g m) (n:l.length+m.length<=100000000) (p:b<=w.heap.size)
 (h:∀c d e a,dj a b (.slice c d e) (l++m)->w.grownBy a v.ownBlock->K (F.put u.dst (.slice c d e)) a):Oper.wp prog u F w K H:=by
 obtain⟨c,d,e,a,q,r,t,-⟩:=AK (w:=w) u.type b v l i f nx g m k n p;unfold Oper.wp execOp;simp only[ho,resolve,invoke,builtin,je,mr,jd,nU,ky,mZ,hs,j,q]
 exact h c d e a r t
def Gu{e:Array Oper}{K:Act->World->Prop}{E:Prop}(j:u.guard=none)(s x:Operand)
 (ho:u.op=.call {callee:=.builtin .append,args:= #[s,x],argTypes:= #[227,227]})
 (a:Nat) (v:Value) (l:List Rg) (hs:F.eval s=v) (k:dj w a v l) (b:Option Addr) (nx c:Nat) (m:List Rg) (n:F.eval x=.slice b nx c) (p:bw w b nx c m) (q:l.length+m.length<=100000000) (r:a<=w.heap.size)
 (h:∀f g i d,dj d a (.slice f g i) (l++m)->w.grownBy d v.ownBlock->K (F.put u.dst (.slice f g i)) d):if Region.wanted u (yielded e F.tmps)=true then Oper.wp prog u F w K H else E:=by
 have t:Region.wanted u (yielded e F.tmps)=true:=by simp[Region.wanted,j]
 rw[aD t];exact AM s x ho a v l hs k b nx c m n p q r h
def Gv{k:Array Oper}{rest:List Oper}(m:u.guard=none)(s x:Operand)
 (ho:u.op=.call {callee:=.builtin .append,args:= #[s,x],argTypes:= #[227,227]})
 (i:Option Addr) (n:Nat) (l:List Rg) (hs:F.eval s=.slice i n n) (hl:bw w i n n l) (b f c:Nat) (r:Rg) (p:r.ok) (q:F.eval x=.slice (some ⟨b,f,none⟩) 1 c) (h0:w.cell? ⟨b,f,none⟩=some (.int .u64 r.lo)) (j:w.cell? ⟨b,f+1,none⟩=some (.int .u64 r.hi)) (t:n<=100000000)
 (h:∀d e g a,dj a w.heap.size (.slice d e g) (l++[r])->w.grownBy a none->wpList prog k H rest (F.put u.dst (.slice d e g)) a):wpList prog k H (u::rest) F w:=
 tC m λ_ v=>AL s x ho i n l hs hl b f c r p q h0 j t λd e g a j y=>v _ _ (h d e g a j y)
def Gw{i:Array Oper}{rest:List Oper}(j:u.guard=none)(s x:Operand)
 (ho:u.op=.call {callee:=.builtin .append,args:= #[s,x],argTypes:= #[227,227]})
 (b:Nat) (v:Value) (l:List Rg) (hs:F.eval s=v) (k:dj w b v l) (f:Option Addr) (nx g:Nat) (m:List Rg) (n:F.eval x=.slice f nx g) (p:bw w f nx g m) (q:l.length+m.length<=100000000) (r:b<=w.heap.size)
 (h:∀c d e a,dj a b (.slice c d e) (l++m)->w.grownBy a v.ownBlock->wpList prog i H rest (F.put u.dst (.slice c d e)) a):wpList prog i H (u::rest) F w:=
 tC j λ_ t=>AM s x ho b v l hs k f nx g m n p q r λc d e a y z=>t _ _ (h c d e a y z)
def Kept(w:World)(b:Nat)(a:Option Addr)(v:Value)(l:List Rg):Prop:=(∃n,v=.slice a n n/\bw w a n n l)\/dj w b v l
def Gy(ty:TypeId)(s:Nat)(a:Option Addr)(v:Value)(l:List Rg)(L:Kept w s a v l)(p:Option Addr)(nx q:Nat)(m:List Rg)(E:bw w p nx q m)(M:l.length+m.length<=100000000)(F:s<=w.heap.size):
 ∃c d f i,(Builtin.append_ #[227,227] ty #[v,.slice p nx q]).run prog w=.ok (.slice c d f) i/\bw i c d f (l++m)/\(c=a\/∀y,c=some y->s<=y.block)/\∃r,w.grownBy i r/\∀k,r=some k->s<=k:=by
 obtain⟨n,rfl,hl⟩|G:=L
 obtain⟨N,hi,O,Q,R⟩:=lD tP;obtain⟨m1,H,V,W,S⟩:=id E;have I:n=l.length:=hl.2.1;by_cases h0:nx=0;subst h0;have:m=[]:=eN_;subst this;have T:(Builtin.append_ #[227,227] ty #[.slice a n n,.slice p 0 q]).run prog w=.ok (.slice a n n) w:=Gs w ty a n p q;exact⟨a,n,n,w,T,by rw[oL];exact hl,.inl rfl,none,aB _ _,λk e=>by cases e⟩
 obtain⟨b,o,rfl,U⟩:∃b o,p=some ⟨b,o,none⟩/\w.rangeAt b o (cE m):=by
  obtain h|h:=S
  omega;exact h
 obtain⟨K,i,A,x,B⟩:=AJ (P:=prog) w 227 ty 341 N (.agg #[.int .u64 0,.int .u64 0]) 2 16 underlying227 hi O Q R rfl (by decide) (.slice a n n) n (cE l) (by rw[rm,I]) (by
  obtain⟨-,-,-,-,z|⟨X,Y,rfl,z⟩⟩:=hl;cases a with
  |none=>exact .inl ⟨by rw[z],z⟩
  |some y=>
   refine .inr ⟨y,rfl,λj u t=>?_⟩;have:l=[]:=eN_;subst this;simp[cE]at t
  ·exact .inr ⟨_,rfl,λj u t=>by rw[Addr.add_mid];exact z j u t⟩) ⟨b,o,none⟩ nx q (cE m) (by omega) (by rw[rm,H]) (λj u t=>by rw[Addr.add_mid];exact U j u t) (vM _) (by simp[maxLen];omega) (by omega)
 have C:dj i w.heap.size K (l++m):=⟨λy D=>(bQ.1 D).elim (hl.1 y) (m1 y),by rw[bH,tQ,<-I,<-H];exact x⟩
 have key:∃c d f,K=.slice c d f:=by
  obtain⟨-,-,⟨rfl,e2⟩|⟨g,cap,al,rfl,_⟩⟩:=id C;exact⟨_,_,_,rfl⟩
  exact⟨_,_,_,rfl⟩
 obtain⟨c,d,f,rfl⟩:=key;exact⟨c,d,f,i,A,C.ni.1,.inr (λy D=>bD F (C.ni.2 y D)),none,B,λk e=>by cases e⟩
 obtain⟨c,d,f,i,A,x,B,-⟩:=AK (w:=w) ty s v l G p nx q m E M F;exact⟨c,d,f,i,A,x.ni.1,.inr x.ni.2,_,B,λk e=>(G.2.lt k e).1⟩
def bw.back(h:bw w a n i D)(j:Nat)(m:j<=n)(d:i-j=0\/∃b o,a=some ⟨b,o,none⟩/\O=some ⟨b,o+j*2,none⟩):bw w O (n-j) (i-j) (D.drop j):=by
 obtain⟨f,p,q,s,c⟩:=h;refine⟨λr g=>f r (iN g),by rw[dM];omega,by omega,by omega,?_⟩
 obtain d|⟨t,u,rfl,rfl⟩:=d
 exact .inl d;obtain c|⟨b,o,e,c⟩:=c
 exact .inl (by omega);cases e;refine .inr ⟨_,_,rfl,λk v l=>?_⟩;have e:cE D=cE (D.take j)++cE (D.drop j):=by rw[<-tQ,pr]
 have hl:(cE (D.take j)).length=j*2:=by rw[rm,ct];congr 1;omega
 rw[qx];refine c (j*2+k) v ?_;rw[e,gR_,hl,tr];exact l
def kT:List Rg->Rg->List Rg
 |[],x=>[x]
 |r::l,x=>if r.hi<x.lo then r::kT l x else if x.hi<r.lo then x::r::l else kT l ⟨min r.lo x.lo,max r.hi x.hi⟩
def dB(l:List Rg)(x:Rg):List Rg:=if x.lo<x.hi then kT l x else l
def AZ(l:List Rg)(x:Rg)(h:bl l)(c:x.lo<x.hi)(n:Int):Sm (kT l x) n↔Sm l n\/(x.lo<=n/\n<x.hi):=by
 induction l generalizing x with
 |nil=>simp only[kT,eB];exact or_comm
 |cons r l b=>
  have e:=h.2 r (by simp);unfold kT;split;rw[eB,b x h.tail c,eB,or_assoc];split;rw[eB];exact or_comm;rw[b _ h.tail (by simp only;omega),eB];simp only
  constructor;rintro(a|a);exact .inl (.inr a);by_cases d:r.lo<=n/\n<r.hi;exact .inl (.inl d);exact .inr (by omega);rintro((a|a)|a);exact .inr (by omega);exact .inl a;exact .inr (by omega)
def GP(l:List Rg)(x:Rg)(h:bl l)(d:x.lo<x.hi):bl (kT l x):=by
 induction l generalizing x with
 |nil=>exact bl.one d
 |cons r l f=>
  have i:=h.2 r (by simp);unfold kT;split;have e:=f x h.tail d;refine⟨qu.2 ⟨λb c=>?_,e.1⟩,λy a=>?_⟩
  have:=(AZ l x h.tail d b.lo).1 ⟨b,c,cS _,e.2 b c⟩;obtain g|g:=this
  exact h.behind g;omega;obtain rfl|a:=fF.1 a
  exact i;exact e.2 y a;split;refine⟨qu.2 ⟨λb c=>?_,h.1⟩,λy a=>?_⟩
  obtain rfl|c:=fF.1 c
  assumption;have:=(qu.1 h.1).1 b c;omega;obtain rfl|a:=fF.1 a
  exact d;exact h.2 y a;exact f _ h.tail (by simp only;omega)
def nj(x:Rg)(h:bl D):bl (dB D x):=by
 unfold dB;split;exact GP D x h (by assumption);exact h
def jM(x:Rg)(h:bl D)(n:Int):Sm (dB D x) n↔Sm D n\/(x.lo<=n/\n<x.hi):=by
 unfold dB;split;exact AZ D x h (by assumption) n;exact⟨.inl,λh=>h.elim id (λh=>by omega)⟩
def vS{a:List Rg}{x:Rg}(h:bl D)(b:bl a)(e:∀n,Sm a n↔Sm D n\/(x.lo<=n/\n<x.hi)):a=dB D x:=
 b.unique (nj x h) (λn=>(e n).trans (jM x h n).symm)
def GQ(l:List Rg)(x:Rg):(kT l x).length<=l.length+1:=by
 induction l generalizing x with
 |nil=>simp[kT]
 |cons r l a=>
  unfold kT;split;simp only[dc];have:=a x;omega;split;simp;have:=a ⟨min r.lo x.lo,max r.hi x.hi⟩;simp only[dc];omega
def tS(l:List Rg)(x:Rg):(dB l x).length<=l.length+1:=by
 unfold dB;split;exact GQ l x;omega
def lV(l:List Rg)(x:Rg):List Rg:=l.flatMap λr=>(if r.lo<min r.hi x.lo then[⟨r.lo,min r.hi x.lo⟩]else[])++(if max r.lo x.hi<r.hi then[⟨max r.lo x.hi,r.hi⟩]else[])
def lW(l:List Rg)(x:Rg):List Rg:=if x.lo<x.hi then lV l x else l
def A7(l:List Rg)(x:Rg)(n:Int):Sm (lV l x) n↔Sm l n/\¬(x.lo<=n/\n<x.hi):=by
 induction l with
 |nil=>exact⟨λh=>absurd h (fU n),λh=>absurd h.1 (fU n)⟩
 |cons r l a=>
  have e:lV (r::l) x=((if r.lo<min r.hi x.lo then[⟨r.lo,min r.hi x.lo⟩]else[])++(if max r.lo x.hi<r.hi then[⟨max r.lo x.hi,r.hi⟩]else[]))++lV l x:=rfl;rw[e,r9,r9,a,eB];have e1:Sm (if r.lo<min r.hi x.lo then[(⟨r.lo,min r.hi x.lo⟩:Rg)]else[]) n↔r.lo<=n/\n<r.hi/\n<x.lo:=by
   split;rw[eB];simp only[fU,py];omega;simp only[fU,false_iff];omega
  have e2:Sm (if max r.lo x.hi<r.hi then[(⟨max r.lo x.hi,r.hi⟩:Rg)]else[]) n↔r.lo<=n/\n<r.hi/\x.hi<=n:=by
   split;rw[eB];simp only[fU,py];omega;simp only[fU,false_iff];omega
  rw[e1,e2];constructor;rintro((h|h)|h);exact⟨.inl (by omega),by omega⟩
  exact⟨.inl (by omega),by omega⟩
  exact⟨.inr h.1,h.2⟩
  rintro⟨h|h,b⟩;by_cases c:n<x.lo;exact .inl (.inl (by omega));exact .inl (.inr (by omega));exact .inr ⟨h,b⟩
def GR(l:List Rg)(x:Rg)(h:bl l)(k:x.lo<x.hi):bl (lV l x):=by
 induction l with
 |nil=>exact bl.nil
 |cons r l j=>
  have m:=h.2 r (by simp);have e:lV (r::l) x=((if r.lo<min r.hi x.lo then[⟨r.lo,min r.hi x.lo⟩]else[])++(if max r.lo x.hi<r.hi then[⟨max r.lo x.hi,r.hi⟩]else[]))++lV l x:=rfl;rw[e];have g:=j h.tail;have m1:∀y∈(if r.lo<min r.hi x.lo then[(⟨r.lo,min r.hi x.lo⟩:Rg)]else[]),y.lo<y.hi/\y.hi<=r.hi/\y.hi<=x.lo:=λy c=>by
   split at c;simp only[cL]at c;subst c;simp only;omega;cases c
  have i:∀y∈(if max r.lo x.hi<r.hi then[(⟨max r.lo x.hi,r.hi⟩:Rg)]else[]),y.lo<y.hi/\y.hi<=r.hi/\x.hi<=y.lo:=λy c=>by
   split at c;simp only[cL]at c;subst c;simp only;omega;cases c
  refine bl.append (bl.append ?_ ?_ (λa d b f=>?_)) g (λa d b f=>?_);split;exact bl.one (by simp only;assumption);exact bl.nil;split;exact bl.one (by simp only;assumption);exact bl.nil;have:=m1 a d;have:=i b f;omega;have n:a.hi<=r.hi:=by
   obtain d|d:=bQ.1 d
   exact(m1 a d).2.1;exact(i a d).2.1
  have p:=h.behind (((A7 l x b.lo).1 ⟨b,f,cS _,g.2 b f⟩).1);omega
def tT(x:Rg)(h:bl D):bl (lW D x):=by
 unfold lW;split;exact GR D x h (by assumption);exact h
def yk(x:Rg)(n:Int):Sm (lW D x) n↔Sm D n/\¬(x.lo<=n/\n<x.hi):=by
 unfold lW;split;exact A7 D x n;exact⟨λh=>⟨h,by omega⟩,λh=>h.1⟩
def GS{a:List Rg}{x:Rg}(h:bl D)(b:bl a)(e:∀n,Sm a n↔Sm D n/\¬(x.lo<=n/\n<x.hi)):a=lW D x:=
 b.unique (tT x h) (λn=>(e n).trans (yk x n).symm)
def ju(af:List Rg)(x:Rg):List Rg:=af.foldl lW (dB [] x)
def GU(af:List Rg):∀l,bl l->bl (af.foldl lW l):=by
 induction af with
 |nil=>exact λl h=>h
 |cons r c a=>exact λl h=>a _ (tT r h)
def GV(af:List Rg):∀l n,Sm (af.foldl lW l) n↔Sm l n/\¬Sm af n:=by
 induction af with
 |nil=>exact λl n=>⟨λh=>⟨h,fU n⟩,λh=>h.1⟩
 |cons r c a=>
  intro l n;rw[mq,a,yk,eB,and_assoc,<-not_or]
def tU(af:List Rg)(x:Rg):bl (ju af x):=GU af _ (nj x bl.nil)
def qC(af:List Rg)(x:Rg)(n:Int):Sm (ju af x) n↔(x.lo<=n/\n<x.hi)/\¬Sm af n:=by
 unfold ju;rw[GV,jM x bl.nil];simp only[fU,false_or]
def A9{l:List Rg}{x:Rg}(h:bl l)(e:∀n,Sm l n↔(x.lo<=n/\n<x.hi)/\¬Sm D n):l=ju D x:=
 h.unique (tU D x) (λn=>(e n).trans (qC D x n).symm)
def nk(fr:Int)(b:List Int)(x:Rg):List Int:=b++List.replicate ((x.hi-fr).toNat-b.length) 0
def lY(fr off:Int)(d:List Int)(b:List Int)(x:Rg):List Int:=splice (nk fr b x) (x.lo-fr).toNat ((d.drop (x.lo-off).toNat).take (x.hi-x.lo).toNat)
def gY(fr off:Int)(d:List Int)(M:List Rg)(b:List Int):List Int:=M.foldl (lY fr off d) b
def vT(fr:Int)(b:List Int)(x:Rg):(nk fr b x).length=max b.length (x.hi-fr).toNat:=by
 simp only[nk,bH,vh];omega
def Ba{x:Rg}(a:p<=x.lo)(b:q<=x.lo)(c:x.lo<=x.hi)(d:x.hi<=q+L.length):(lY p q L K x).length=max K.length (x.hi-p).toNat:=by
 unfold lY;rw[length_splice,vT];rw[vT,ct,dM];omega
def GW(fr off:Int)(d:List Int)(M:List Rg)(b:List Int)(j:Nat)(a:j<M.length):gY fr off d (M.take (j+1)) b=lY fr off d (gY fr off d (M.take j) b) (au M j):=by
 unfold gY;rw[rP a,List.foldl_append];simp[au,List.getD,a]
