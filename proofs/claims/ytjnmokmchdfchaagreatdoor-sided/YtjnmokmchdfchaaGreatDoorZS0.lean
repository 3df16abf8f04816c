import Derived.BigQuiet
import Derived.BigRegion
import Derived.Deep.DeepCutAuto
import Derived.Deep.DrawnRows
import Derived.Deep.Draws
import Derived.Deep.LoopGhost
import Derived.Deep.MidRow
import Derived.Deep.QuietTactic
import Derived.Deep.RegionHeld3
import Derived.Deep.RegionWith
import Derived.Laws.AppendOwn
import Derived.Laws.AppendOwnNone
import Derived.Laws.BitsAllLaws
import Derived.Laws.BytesArg
import Derived.Laws.CopyOwn
import Derived.Laws.CopyRow
import Derived.Laws.EntriesVeiled
import Derived.Lib.AppendStr
import Derived.Lib.ConvBytes
import Derived.Lib.LazyBuf
import Derived.Maps.AppendAt
import Derived.Outline
import Derived.OwnWalk
import Derived.Test.YtjnmokmchdfchaaGreatDoorProg
import Derived.WalkKit
import Derived.WalkLawsBesides
import Derived.WalkSpells
set_option maxRecDepth 1000000
set_option maxHeartbeats 0
set_option linter.all false
namespace Go.Proofs.YtjnmokmchdfchaaGreatDoor
open Go.RowKit Tryz
open Go.Value renaming int→I,slice→Y,bool→β,pointer→π,agg→ε,string→ς,tuple→τ
open Go.IntKind renaming i64→X,u64→U,u8→Δ
open Go.Ending renaming returned→ξ
open Go.Obj renaming cells→ο
open Or renaming inl→φ,inr→ψ
open Option renaming some→E,none→N
open Bool renaming true→ρ,false→θ
open Go renaming World→D,Value→υ
open Go.World renaming grownBy→G,cell?→κ,frozen?→χ,setCell→ζ
attribute[local go_sem↓]Go.wp_at_zero Go.wp_at_succ
variable{c:Array Value}{p q:Int}{K L M:List Int}{b i j k l m n o:Nat}{a:Option Addr}{e:Option Nat}{T:TypeId}{x y z:Value}{V W v w:World}{R:World->Prop}
theorem Q{α:Sort _}{a:α}:a=a:=rfl
def aT{A B:Prop}(a:A)(b:B):Hid A/\Hid B:=⟨a,b⟩
def cA{A B C:Prop}(a:A)(b:B)(c:C):Hid A/\Hid B/\Hid C:=⟨a,b,c⟩
def fB{A B C D:Prop}(a:A)(b:B)(c:C)(d:D):Hid A/\Hid B/\Hid C/\Hid D:=⟨a,b,c,d⟩
def gT{A B C D E:Prop}(a:A)(b:B)(c:C)(d:D)(e:E):Hid A/\Hid B/\Hid C/\Hid D/\Hid E:=⟨a,b,c,d,e⟩
def mY{A B C D E F:Prop}(a:A)(b:B)(c:C)(d:D)(e:E)(f:F):Hid A/\Hid B/\Hid C/\Hid D/\Hid E/\Hid F:=⟨a,b,c,d,e,f⟩
def mX{A B C D E F G:Prop}(a:A)(b:B)(c:C)(d:D)(e:E)(f:F)(g:G):Hid A/\Hid B/\Hid C/\Hid D/\Hid E/\Hid F/\Hid G:=⟨a,b,c,d,e,f,g⟩
def xQ{A B C D E F G H:Prop}(a:A)(b:B)(c:C)(d:D)(e:E)(f:F)(g:G)(h:H):Hid A/\Hid B/\Hid C/\Hid D/\Hid E/\Hid F/\Hid G/\Hid H:=⟨a,b,c,d,e,f,g,h⟩
def rC{A B C D E F G H I:Prop}(a:A)(b:B)(c:C)(d:D)(e:E)(f:F)(g:G)(h:H)(i:I):Hid A/\Hid B/\Hid C/\Hid D/\Hid E/\Hid F/\Hid G/\Hid H/\Hid I:=⟨a,b,c,d,e,f,g,h,i⟩
def í{α:Sort _}(e:α):∃a,a=e:=⟨_,Q⟩
def ç{w:World}{b o:Nat}{c:Array Value}{t:TypeId}(h:w.heap[b]?=some (.cells c t (0,0))):w.frozen? ⟨b,o,none⟩=false:=by simp[World.frozen?,h]
def ì{w W:World}{r:Option Nat}(g:w.grownBy W r){a:Addr}{v:Value}(h:w.cell? a=some v)(q:some a.block≠r:=by simp):W.cell? a=some v:=g.cell h q
def α{p:Prop}[Decidable p](h:p:=by omega):decide p=true:=decide_eq_true h
def é{p:Prop}[Decidable p](h:¬p:=by omega):decide p=false:=decide_eq_false h
def è{c:Prop}{i:Decidable c}(h:c:=by omega){α:Sort _}{a b:α}:ite c a b=a:=if_pos h
def ê{c:Prop}{i:Decidable c}(h:¬c:=by omega){α:Sort _}{a b:α}:ite c a b=b:=if_neg h
def ë{α:Type _}{c:Array α}{i j:Nat}{x:α}(h:i≠j:=by omega):(c.setIfInBounds i x)[j]?=c[j]? :=Array.getElem?_setIfInBounds_ne h
def à{α:Type _}{l:List α}{i:Nat}(h:l.length<=i:=by omega):l.take i=l:=List.take_of_length_le h
def á{α:Type _}{l:List α}{i:Nat}(h:l.length<=i:=by omega):l.drop i=[]:=List.drop_of_length_le h
def â{α:Type _}{l:List α}(h:l.length=0:=by omega):l=[]:=List.eq_nil_of_length_eq_zero h
def ã{α:Type _}{l m:List α}{i:Nat}(h:l.length<=i:=by omega):(l++m)[i]?=m[i-l.length]? :=List.getElem?_append_right h
def ä{x:Int}(h: -9223372036854775808<=x/\x<9223372036854775808:=by omega):IntKind.i64.wrap x=x:=by simp[IntKind.wrap,IntKind.bits,IntKind.signed];omega
def O{p:Prop}(h:p:=by omega):p:=h
def Γ{p:Prop}(h:p:=by simp):p:=h
def Θ{p:Prop}(h:p:=by decide):p:=h
def Ξ{p:Prop}(h:p:=by rfl):p:=h
def Φ{p:Prop}(h:p:=by kernel_rfl):p:=h
def Ψ{p:Prop}(h:p:=by simp;omega):p:=h
def Ω{p:Prop}(h:p:=by assumption):p:=h
def au:type_of% @World.grownBy.refl:=@World.grownBy.refl
def aC:type_of% @World.grownBy_alloc:=@World.grownBy_alloc
def aE:type_of% @if_neg:=@if_neg
def aH:type_of% @if_pos:=@if_pos
def aM:type_of% @heap_alloc_new:=@heap_alloc_new
def aP:type_of% @Nat.le_refl:=@Nat.le_refl
def aR:type_of% @Option.some.inj:=@Option.some.inj
def aV:type_of% @Array.getElem?_eq_some_iff:=@Array.getElem?_eq_some_iff
def bG:type_of% @Nat.le_trans:=@Nat.le_trans
def bS:type_of% @List.length_append:=@List.length_append
def bT:type_of% @decide_eq_false:=@decide_eq_false
def bU:type_of% @decide_eq_true:=@decide_eq_true
def bX:type_of% @Nat.lt_of_lt_of_le:=@Nat.lt_of_lt_of_le
def b9:type_of% @List.mem_append:=@List.mem_append
def cC:type_of% @bodyPost_ret:=@bodyPost_ret
def cZ:type_of% @IntKind.wrap_u64:=@IntKind.wrap_u64
def dr:type_of% @Below.heap_setCell:=@Below.heap_setCell
def dw:type_of% @Nat.le_succ:=@Nat.le_succ
def dB:type_of% @List.getElem?_eq_getElem:=@List.getElem?_eq_getElem
def dJ:type_of% @World.size_alloc:=@World.size_alloc
def dK:type_of% @List.length_take:=@List.length_take
def dV:type_of% @results_none:=@results_none
def dX:type_of% @Option.bind_some:=@Option.bind_some
def dY:type_of% @List.length_cons:=@List.length_cons
def eE:type_of% @List.mem_singleton:=@List.mem_singleton
def eF:type_of% @List.append_assoc:=@List.append_assoc
def eI:type_of% @World.block_lt_of_cell?:=@World.block_lt_of_cell?
def eJ:type_of% @List.length_nil:=@List.length_nil
def eM:type_of% @Nat.zero_add:=@Nat.zero_add
def eP:type_of% @bodyPost_end:=@bodyPost_end
def fu:type_of% @List.mem_map:=@List.mem_map
def fv:type_of% @Int.le_refl:=@Int.le_refl
def fw:type_of% @if_true:=@if_true
def fD:type_of% @List.length_drop:=@List.length_drop
def fE:type_of% @Below.heap_alloc:=@Below.heap_alloc
def fF:type_of% @List.length_map:=@List.length_map
def fR:type_of% @congrArg:=@congrArg
def gp:type_of% @World.cell?_alloc_lt:=@World.cell?_alloc_lt
def iB:type_of% @World.cell?_of_block:=@World.cell?_of_block
def iC:type_of% @List.mem_of_mem_drop:=@List.mem_of_mem_drop
def iD:type_of% @List.mem_cons:=@List.mem_cons
def iJ:type_of% @if_false:=@if_false
def iV:type_of% @Bool.false_eq_true:=@Bool.false_eq_true
def jr:type_of% @List.mem_of_mem_take:=@List.mem_of_mem_take
def jC:type_of% @Result.andThen_ok:=@Result.andThen_ok
def jK:type_of% @List.mem_append_left:=@List.mem_append_left
def jL:type_of% @Sem.run_bind:=@Sem.run_bind
def jV:type_of% @List.mem_filter:=@List.mem_filter
def ko:type_of% @List.mem_iff_getElem:=@List.mem_iff_getElem
def kB:type_of% @List.mem_append_right:=@List.mem_append_right
def kC:type_of% @List.take_length:=@List.take_length
def kD:type_of% @List.map_cons:=@List.map_cons
def kU:type_of% @List.getElem?_map:=@List.getElem?_map
def kV:type_of% @info_parts:=@info_parts
def lH:type_of% @List.setIfInBounds_toArray:=@List.setIfInBounds_toArray
def lI:type_of% @World.ownsRow_nil:=@World.ownsRow_nil
def lJ:type_of% @Value.slice.inj:=@Value.slice.inj
def mf:type_of% @Int.toNat_natCast:=@Int.toNat_natCast
def mg:type_of% @List.nil_append:=@List.nil_append
def mN:type_of% @List.set_cons_zero:=@List.set_cons_zero
def mO:type_of% @List.set_cons_succ:=@List.set_cons_succ
def mP:type_of% @Nat.zero_le:=@Nat.zero_le
def nw:type_of% @AllReady.cons:=@AllReady.cons
def ny:type_of% @Sem.run_pure:=@Sem.run_pure
def nz:type_of% @Nat.zero_mul:=@Nat.zero_mul
def nA:type_of% @Nat.add_zero:=@Nat.add_zero
def oa:type_of% @List.take_succ_eq_append_getElem:=@List.take_succ_eq_append_getElem
def oe:type_of% @List.take_of_length_le:=@List.take_of_length_le
def og:type_of% @run_callFunc_extern:=@run_callFunc_extern
def oh:type_of% @List.map_toArray:=@List.map_toArray
def oj:type_of% @List.map_append:=@List.map_append
def om:type_of% @DataW.trod_int:=@DataW.trod_int
def oq:type_of% @List.map_nil:=@List.map_nil
def oV:type_of% @List.eq_nil_of_length_eq_zero:=@List.eq_nil_of_length_eq_zero
def oW:type_of% @Array.getElem?_setIfInBounds:=@Array.getElem?_setIfInBounds
def oX:type_of% @Bool.eq_false_or_eq_true:=@Bool.eq_false_or_eq_true
def oY:type_of% @World.frozen?_alloc_old:=@World.frozen?_alloc_old
def oZ:type_of% @Nat.add_sub_cancel:=@Nat.add_sub_cancel
def pd:type_of% @List.foldl_cons:=@List.foldl_cons
def pQ:type_of% @List.getElem?_append_right:=@List.getElem?_append_right
def pR:type_of% @wpList_load_row:=@wpList_load_row
def pS:type_of% @Nat.add_assoc:=@Nat.add_assoc
def pT:type_of% @AllReady.nil:=@AllReady.nil
def pU:type_of% @wpAny_ready:=@wpAny_ready
def qo:type_of% @List.getElem?_append_left:=@List.getElem?_append_left
def qp:type_of% @List.take_append_drop:=@List.take_append_drop
def qq:type_of% @List.mem_map_of_mem:=@List.mem_map_of_mem
def qt:type_of% @List.length_pos_iff:=@List.length_pos_iff
def qu:type_of% @Option.some.injEq:=@Option.some.injEq
def qv:type_of% @and_true:=@and_true
def qU:type_of% @Option.bind_eq_some_iff:=@Option.bind_eq_some_iff
def qV:type_of% @Int.eq_ofNat_of_zero_le:=@Int.eq_ofNat_of_zero_le
def qW:type_of% @List.pairwise_cons:=@List.pairwise_cons
def qX:type_of% @List.cons.injEq:=@List.cons.injEq
def qY:type_of% @List.append_nil:=@List.append_nil
def qZ:type_of% @List.drop_zero:=@List.drop_zero
def rj:type_of% @rounds_succ:=@rounds_succ
def rm:type_of% @Below.refl:=@Below.refl
def rS:type_of% @List.getElem?_eq_some_iff:=@List.getElem?_eq_some_iff
def rT:type_of% @List.getElem?_eq_none:=@List.getElem?_eq_none
def rU:type_of% @List.cons_append:=@List.cons_append
def rV:type_of% @List.range_succ:=@List.range_succ
def rX:type_of% @strOfNums_data:=@strOfNums_data
def rY:type_of% @wpList_plain:=@wpList_plain
def rZ:type_of% @List.map_map:=@List.map_map
def sY:type_of% @Nat.lt_succ_iff_lt_or_eq:=@Nat.lt_succ_iff_lt_or_eq
def sZ:type_of% @Nat.add_sub_cancel_left:=@Nat.add_sub_cancel_left
def tf:type_of% @List.getElem?_toArray:=@List.getElem?_toArray
def tg:type_of% @Nat.lt_or_eq_of_le:=@Nat.lt_or_eq_of_le
def tn:type_of% @List.getElem?_take:=@List.getElem?_take
def tp:type_of% @List.getElem?_drop:=@List.getElem?_drop
def tq:type_of% @List.take_add_one:=@List.take_add_one
def tt:type_of% @List.getElem_mem:=@List.getElem_mem
def tu:type_of% @List.any_eq_true:=@List.any_eq_true
def tv:type_of% @Option.map_some:=@Option.map_some
def tw:type_of% @Nat.sub_self:=@Nat.sub_self
def tx:type_of% @Nat.mul_one:=@Nat.mul_one
def uH:type_of% @List.getD_eq_getElem?_getD:=@List.getD_eq_getElem?_getD
def uI:type_of% @decide_eq_false_iff_not:=@decide_eq_false_iff_not
def uJ:type_of% @Nat.pow_le_pow_right:=@Nat.pow_le_pow_right
def uK:type_of% @List.mem_of_getElem?:=@List.mem_of_getElem?
def uL:type_of% @Bool.or_eq_false_iff:=@Bool.or_eq_false_iff
def uM:type_of% @Array.length_toList:=@Array.length_toList
def uN:type_of% @List.not_mem_nil:=@List.not_mem_nil
def uO:type_of% @IntKind.wrap_i64:=@IntKind.wrap_i64
def uP:type_of% @Bool.and_eq_true:=@Bool.and_eq_true
def uQ:type_of% @wp_loop_rounds:=@wp_loop_rounds
def uR:type_of% @List.drop_drop:=@List.drop_drop
def uS:type_of% @Prod.mk.injEq:=@Prod.mk.injEq
def uT:type_of% @decide_false:=@decide_false
def uU:type_of% @callsIn_wide:=@callsIn_wide
def uV:type_of% @Nat.le_of_lt:=@Nat.le_of_lt
def wH:type_of% @List.drop_eq_getElem_cons:=@List.drop_eq_getElem_cons
def wI:type_of% @List.getElem_cons_zero:=@List.getElem_cons_zero
def wJ:type_of% @List.drop_eq_nil_of_le:=@List.drop_eq_nil_of_le
def wK:type_of% @List.length_singleton:=@List.length_singleton
def wL:type_of% @List.length_filter_le:=@List.length_filter_le
def wM:type_of% @List.getElem_toArray:=@List.getElem_toArray
def wN:type_of% @List.map_congr_left:=@List.map_congr_left
def wO:type_of% @not_true_eq_false:=@not_true_eq_false
def wP:type_of% @decide_eq_true_eq:=@decide_eq_true_eq
def wQ:type_of% @Value.slice.injEq:=@Value.slice.injEq
def wR:type_of% @List.size_toArray:=@List.size_toArray
def wS:type_of% @List.getElem_take:=@List.getElem_take
def wT:type_of% @List.getElem_drop:=@List.getElem_drop
def wU:type_of% @List.foldl_append:=@List.foldl_append
def wV:type_of% @Nat.not_lt_zero:=@Nat.not_lt_zero
def wW:type_of% @List.mem_range:=@List.mem_range
def zd:type_of% @Nat.shiftLeft_add_eq_or_of_lt:=@Nat.shiftLeft_add_eq_or_of_lt
def ze:type_of% @beq_eq_false_iff_ne:=@beq_eq_false_iff_ne
def zh:type_of% @List.getD_cons_zero:=@List.getD_cons_zero
def BE:type_of% @Classical.byContradiction:=@Classical.byContradiction
def J{p:Prop}(h:p):Hid p:=h
def Z{p:Prop}(h:Hid p):p:=h
def aZ(x:Int):Prop:=0<=x/\x<18446744073709551616
def W8(x:Int):Prop:=0<=x/\x<256
def aq(h:G w W e)(k:G W v e):G w v e:=
 ⟨k.os.trans h.os,k.tape.trans h.tape,k.output.trans h.output,bG h.size k.size,λi hi a=>(k.block i (bX hi h.size) a).trans (h.block i hi a)⟩
def cO{q:Option Nat}(h:G w W e)(k:G W v q)(c:∀j,q=E j->w.heap.size<=j\/q=e):G w v e:=
 ⟨k.os.trans h.os,k.tape.trans h.tape,k.output.trans h.output,bG h.size k.size,λi hi a=>(k.block i (bX hi h.size) (λb=>by
  obtain g|g:=c i b.symm
  omega
  .exact a (b.trans g))).trans (h.block i hi a)⟩
def aK(h:G w W e):G w W.drew e:=⟨h.os,h.tape,h.output,h.size,h.block⟩
def cu(h:G w W e)(n:Nat):G w (W.drewN n) e:=⟨h.os,h.tape,h.output,h.size,h.block⟩
def aW(h:G w W e)(o:Obj):G w (W.alloc o) e:=aq h (aC W o e)
def aD(h:G w W e)(p:Addr)(v:υ)(a:w.heap.size<=p.block\/E p.block=e):G w (ζ W p v) e:=
 ⟨h.os,h.tape,h.output,by simpa [ζ]using h.size,λk c b=>by
  rw[dr _ _ _ _ (by rintro rfl;obtain a|a:=a<;>first|omega|exact b a)];exact h.block k c b⟩
def cK(h:G w W N)(r:Option Nat):G w W r:=⟨h.os,h.tape,h.output,h.size,λk a _=>h.block k a Γ⟩
def wX(h:G w W N):Below w.heap.size w W:=⟨h.os,h.tape,h.output,h.size,λk a=>h.block k a Γ⟩
def ot(h:Below w.heap.size w W):G w W N:=⟨h.os,h.tape,h.output,h.size,λk a _=>h.block k a⟩
def nB(h:G w W (E j))(b:w.heap.size<=j):G w W N:=
 ⟨h.os,h.tape,h.output,h.size,λk a _=>h.block k a (by intro e;cases e;omega)⟩
def heap_set(h:w.heap[n]?=E (ο c T (0,0)))(v:υ):(ζ w ⟨n,o,N⟩ v).heap[n]?=E (ο (c.setIfInBounds o v) T (0,0)):=by
 simp[ζ,Array.getElem?_modify,h]
def pf(x:Int):Int:=(x %9223372036854775808)*2+x/9223372036854775808
def rotl(x:Int):Nat->Int
 |0=>x
 |k+1=>pf (rotl x k)
def Hu(h:aZ p):aZ (pf p):=by unfold aZ pf at *;omega
def nC(h:aZ p)(k:Nat):aZ (rotl p k):=by
 induction k with
 |zero=>exact h
 |succ k a=>exact Hu a
def Hv(h:aZ p):U.wrap (U.wrap (p*2)+p/9223372036854775808)=pf p:=by
 unfold aZ at h;rw[cZ,cZ];unfold pf;omega
def Hw(x a M:Nat)(h:a*M=9223372036854775808)(g:x<2*a*M)(b:0<a):
 pf (((x %(2*a))*M+x/(2*a):Nat):Int)=(((x %a)*(2*M)+x/a:Nat):Int):=by
 have i:=Nat.div_lt_of_lt_mul O;have e1:x %(2*a)=a*(x/a %2)+x %a:=by
  rw[Nat.mul_comm 2 a,Nat.mod_mul];omega
 have e2:x/(2*a)=x/a/2:=by rw[Nat.mul_comm 2 a,Nat.div_div_eq_div_mul]
 generalize hs:x %a=s at *;generalize j:x/a=z at *;have c:s<a:=by rw[<-hs];exact Nat.mod_lt _ b
 have d:s*M+z/2<a*M:=by
  have:(s+1)*M<=a*M:=Nat.mul_le_mul_right _ c;grind
 have e:(x %(2*a))*M+x/(2*a)=9223372036854775808*(z %2)+(s*M+z/2):=by
  grind
 rw[e];rw[h]at d;have f:s*(2*M)=2*(s*M):=by grind
 rw[f];generalize s*M=p at *;unfold pf;omega
def BF(x:Nat)(a:x<18446744073709551616):∀k,k<=63->rotl x k=((x %2^(64-k))*2^k+x/2^(64-k):Nat)
 |0,_=>by
  show(x:Int)=_;have:x %2^(64-0)=x:=Nat.mod_eq_of_lt O;rw[this];have:x/2^(64-0)=0:=Nat.div_eq_of_lt O;rw[this];simp
 |k+1,h=>by
  show pf (rotl x k)=_;rw[BF x a k O];have e1:2^(64-k)=2*2^(64-(k+1)):=by rw[show 64-k=(64-(k+1))+1 by omega,Nat.pow_succ,Nat.mul_comm]
  have e2:2^(64-(k+1))*2^k=9223372036854775808:=by rw[<-Nat.pow_add,show 64-(k+1)+k=63 by omega]
  have b:2^(k+1)=2*2^k:=O;rw[e1,b];exact Hw x _ _ e2 (by grind) (Nat.two_pow_pos _)
def Hy(h:aZ p)(k:Nat)(b:k<=63)(h0:0<k):bits .or U (U.wrap (p*(2^k:Nat))) (p/(2^(64-k):Nat))=rotl p k:=by
 let⟨c,f⟩:=h
 obtain⟨n,rfl⟩:=qV c;have a:n<18446744073709551616:=O;rw[BF n a k b,cZ];have d:2^(64-k)*2^k=18446744073709551616:=by rw[<-Nat.pow_add,show 64-k+k=64 by omega]
 have e1:((n:Int)*(2^k:Nat)) %18446744073709551616=(((n %2^(64-k))*2^k:Nat):Int):=by
  have:n*2^k %18446744073709551616=(n %2^(64-k))*2^k:=by rw[<-d,Nat.mul_mod_mul_right]
  omega
 have e2:(n:Int)/(2^(64-k):Nat)=((n/2^(64-k):Nat):Int):=O;rw[e1,e2,u64_or_nat];congr 1;have e:n/2^(64-k)<2^k:=Nat.div_lt_of_lt_mul O;have:=zd e (n %2^(64-k));rw[Nat.shiftLeft_eq]at this;omega;omega;exact Nat.lt_of_le_of_lt (Nat.div_le_self _ _) a
def xo(a b:Int):Int:=bits .xor U a b
def ad(a b:Int):Int:=U.wrap (a+b)
def mQ(a b:Int):aZ (ad a b):=by unfold ad aZ;rw[cZ];omega
def iK(a:aZ p)(b:aZ q):aZ (xo p q):=by
 unfold xo;rw[u64_xor p q a.1 a.2 b.1 b.2];have:=Nat.xor_lt_two_pow (n:=64) (x:=p.toNat) (y:=q.toNat) (by have:=a.2;have:=a.1;omega) (by have:=b.2;have:=b.1;omega);unfold aZ;omega
structure S4 where
 a:Int
 b:Int
 c:Int
 d:Int
def S4.ok(s:S4):Prop:=aZ s.a/\aZ s.b/\aZ s.c/\aZ s.d
def jD(s:S4):S4:=
 let e:=ad s.a s.b
 let f:=xo (rotl s.b 13) e
 let k:=rotl e 32
 let g:=ad s.c s.d
 let h:=xo (rotl s.d 16) g
 let i:=ad k h
 let l:=xo (rotl h 21) i
 let j:=ad g f
 let m:=xo (rotl f 17) j
 ⟨i,m,rotl j 32,l⟩
def rp{s:S4}(h:s.ok):(jD s).ok:=by
 let⟨j,e,k,f⟩:=h
 have g:=iK (nC e 13) (mQ s.a s.b);have i:=iK (nC f 16) (mQ s.c s.d);exact⟨mQ _ _,iK (nC g 17) (mQ _ _),nC (mQ _ _) 32,iK (nC i 21) (mQ _ _)⟩
def tz(s:S4)(m:Int):S4:=
 let t:=jD (jD ⟨s.a,s.b,s.c,xo s.d m⟩)
 ⟨xo t.a m,t.b,t.c,t.d⟩
def Hz{s:S4}(h:s.ok)(d:aZ p):(tz s p).ok:=by
 let⟨e,f,g,i⟩:=h
 have t:=rp (rp (s:=⟨s.a,s.b,s.c,xo _ p⟩) ⟨e,f,g,iK i d⟩);exact⟨iK t.1 d,t.2.1,t.2.2.1,t.2.2.2⟩
def tA(s:S4):Int:=
 let t:=jD (jD (jD (jD ⟨s.a,s.b,xo s.c 255,s.d⟩)))
 xo (xo (xo t.a t.b) t.c) t.d
def HB{s:S4}(h:s.ok):aZ (tA s):=by
 let⟨c,e,f,g⟩:=h
 have t:=rp (rp (rp (rp (s:=⟨s.a,s.b,xo _ 255,s.d⟩) ⟨c,e,iK f (by unfold aZ;omega),g⟩)));exact iK (iK (iK t.1 t.2.1) t.2.2.1) t.2.2.2
def fG:List Int->Int
 |[]=>0
 |x::r=>x+256*fG r
def wY:∀(l:List Int),(∀x∈l,W8 x)->0<=fG l/\fG l<256^l.length
 |[],_=>by simp[fG]
 |x::r,h=>by
  have:=wY r (λy a=>h y (List.mem_cons_of_mem _ a));have b:=h x (List.mem_cons_self ..);unfold W8 at b;simp only[fG,dY,Int.pow_succ]
  omega
def eU(key:List Int):S4:=
 ⟨xo (fG (key.take 8)) 8317987319222330741,xo (fG (key.drop 8)) 7237128888997146477,xo (fG (key.take 8)) 7816392313619706465,xo (fG (key.drop 8)) 8387220255154660723⟩
def nE(l:List Int)(n:Int):List Int:=l++List.replicate (7-l.length %8) 0++[n %256]
def kW(s:S4):Nat->List Int->S4
 |0,_=>s
 |k+1,l=>kW (tz s (fG (l.take 8))) k (l.drop 8)
def cQ(key l:List Int):Int:=tA (kW (eU key) (l.length/8+1) (nE l l.length))
def fL{p:Program}{f:FuncId}{P:Ending->D->Prop}(h:∀R,R=P->Calls p f c w R):Calls p f c w P:=h P Q
def js{p:Program}{f:FuncId}{V:Ending}(h:∀b,b=R->Calls p f c w λe a=>e=V/\b a):Calls p f c w λe a=>e=V/\R a:=h R Q
def r8{α:Type}{p:Program}{f:FuncId}{V:Ending}(P:α->D->Prop)(x:α)(h:∀R,R=P->Calls p f c w λe a=>e=V/\R x a):Calls p f c w λe a=>e=V/\P x a:=h P Q
def BS(w:D)(b o:Nat)(l:List Int):Prop:=(∀i,i<l.length->κ w ⟨b,o+i,N⟩=E (I Δ (l.getD i 0)))/\∀x∈l,W8 x
def HC(l:List Int):∀k,k<l.length->fG (l.take (k+1))=fG (l.take k)+256^k*l.getD k 0:=by
 induction l with
 |nil=>intro k h;simp at h
 |cons x r a=>
  intro k h;cases k with
  |zero=>simp[fG]
  |succ k=>
   simp only[List.take_succ_cons,fG,List.getD_cons_succ]
   grind
def mR(h:∀x∈L,W8 x)(k:Nat):W8 (L.getD k 0):=by
 rw[uH];rcases a:L[k]? with _|x
 simp[W8];grind
def HE(a x:Int)(k:Nat)(g:k<=7)(h0:0<=a)(c:a<256^k)(d:W8 x):bits .or U a (U.wrap (x*2^(8*k)))=a+256^k*x:=by
 let⟨e,h⟩:=d
 obtain⟨n,rfl⟩:=qV h0;obtain⟨y,rfl⟩:=qV e;have e0:(256:Nat)^k=2^(8*k):=by rw[Nat.pow_mul]
 have b:(256:Int)^k=((2^(8*k):Nat):Int):=by grind
 have e1:((y:Int)*2^(8*k))=((y*2^(8*k):Nat):Int):=Γ;have hp:2^(8*k)<=2^56:=uJ Θ O;have i:y*2^(8*k)<=255*2^56:=Nat.mul_le_mul O hp;rw[b]at c;rw[e1,cZ,b];have f:n<2^(8*k):=O;have e2:(((y*2^(8*k):Nat):Int)) %18446744073709551616=((y*2^(8*k):Nat):Int):=O;rw[e2,u64_or_nat _ _ O O];have:=zd f y;rw[Nat.shiftLeft_eq]at this;grind
def HG(h:∀x∈L,W8 x)(k:Nat)(b:k<=L.length):0<=fG (L.take k)/\fG (L.take k)<256^k:=by
 have:=wY (L.take k) (λx a=>h x (jr a));grind
def BG(k:Nat)(h:k<=8):(256:Int)^k<=18446744073709551616:=by
 have:(256:Nat)^k<=256^8:=uJ Θ h;grind
def wZ(b o c:Nat)(l:List Int)(w:D)(h:BS w b o l)(hl:l.length=8)(r:8<=c):
 Calls prog 262 #[Y (E ⟨b,o,N⟩) 8 c] w λe n=>e=ξ (I U (fG l))/\n=w:=by
 let⟨d,f⟩:=h
 go_enter func262,ntmps262;go_wp2;go_loop [3,8] (λa i=>∃k:Nat,k<=8/\i=I X k/\a=I U (fG (l.take k))) (λ_ i=>8-(intOf i).toNat);case atStart=>exact⟨0,O,Q,Q⟩
 case round=>
  obtain⟨k,s,rfl,rfl⟩:=hrel;have g:=HG f k O;by_cases t:k<8
  .have u:=d k O;clear d;have j:=mR f k;have p:=J (HE _ _ k O g.1 g.2 j);have q:=J (HC l k O);let⟨v,y⟩:=j
   generalize l.getD k 0=x at *;generalize fG (l.take k)=m at *;go_wp2;go_round;case rel=>exact⟨k+1,O,by go_num,by rw[Z p,<-Z q]⟩
   case measure=>simp[intOf];omega
  go_wp2;go_ret;exact⟨fR (λz=>ξ (I U z)) (by rw[à]),Q⟩
def HH(l:List Int)(k:Nat)(h:k<l.length):fG (l.drop k)=l.getD k 0+256*fG (l.drop (k+1)):=by
 rw[wH h,fG,uH,dB h];rfl
def BH(h:∀x∈L,W8 x)(k:Nat):0<=fG (L.drop k)/\fG (L.drop k)<256^(L.length-k):=by
 have:=wY (L.drop k) (λx a=>h x (iC a));grind
def zi(b o n c:Nat)(l:List Int)(w:D)(h:BS w b o l)(hl:l.length=8)(u:8<=n)(v:n<=c)(g:c<=maxLen):
 Calls prog 175 #[Y (E ⟨b,o,N⟩) n c] w λe p=>e=ξ (I U (fG l))/\p=w:=by
 let⟨q,d⟩:=h
 unfold maxLen at g;go_enter func175,ntmps175;go_wp2;go_loop [3,4] (λa i=>∃k:Nat,k<=8/\i=I X (k-1)/\a=I U (fG (l.drop k))) (λ_ i=>(intOf i+1).toNat);case atStart=>exact⟨8,O,Q,by rw[á];rfl⟩
 case round=>
  obtain⟨k,y,rfl,rfl⟩:=hrel;have r:=BH d k;rw[hl]at r;cases k with
  |succ j=>
   have A:=q j O;have s:=mR d j;have f:=J (HH l j O);have hd:=BH d j;have B:=BG (8-j) O;rw[hl]at hd;rw[Z f]at hd;generalize l.getD j 0=x at *;generalize fG (l.drop (j+1))=m at *;let⟨C,F⟩:=s
   have t:((j+1:Nat):Int)-1=j:=O;rw[t];go_wp2;go_round;case rel=>exact⟨j,O,Q,by rw[Z f];exact fR (I IntKind.u64) O⟩
   case measure=>simp[intOf]
  |zero=>
   go_wp2;go_ret;exact⟨fR (λz=>ξ (I U z)) Q,Q⟩
def bv(l:List Int):List υ:=l.map (I Δ)
def bD(w:D)(a:Option Addr)(n c:Nat)(l:List Int):Prop:=
 (∀x∈l,W8 x)/\n=l.length/\n<=c/\c<=maxLen/\((a=N/\c=0)\/∃b o,a=E ⟨b,o,N⟩/\BS w b o l)
def aS(w:D)(a:Nat)(v:υ)(l:List Int):Prop:=(∀x∈l,W8 x)/\w.ownsRow a 5 1 v l.length (bv l)
def BS.gb{w:D}{r:Option Nat}(h:BS w b o L)(g:G w W r)(a:r≠E b:=by simp):BS W b o L:=
 ⟨λi hi=>g.cell (h.1 i hi) (λe=>a e.symm),h.2⟩
def BS.lt(h:BS w b o L)(hl:L≠[]):b<w.heap.size:=
 eI w _ (h.1 0 (qt.2 hl))
def BS.nil(w:D)(b o:Nat):BS w b o []:=⟨λi hi=>by simp at hi,λx a=>by simp at a⟩
def bD.gb{w:D}{r:Option Nat}(h:bD w a n k L)(g:G w W r)(d:∀j,r=E j->w.heap.size<=j\/L=[]\/∀x,a=E x->x.block≠j:=by simp):bD W a n k L:=by
 let⟨f,i,l,m,c⟩:=h
 refine⟨f,i,l,m,?_⟩
 obtain c|⟨b,o,rfl,c⟩:=c
 simp_all;refine ψ ⟨b,o,Q,?_⟩;by_cases hl:L=[]
 subst hl;exact BS.nil _ _ _;have:=c.lt hl;refine c.gb g (λe=>?_);obtain e|e|e:=d b e
 omega;exact hl e;simp_all
def bD.ag(h:bD w a n k L)(g:G w W N):bD W a n k L:=h.gb g (nofun)
def aS.lt(h:aS w n x L):∀k,x.ownBlock=E k->n<=k/\k<w.heap.size:=h.2.lt
def uW(l:List Int)(i:Nat)(h:i<l.length):(bv l)[i]?=E (I Δ (l.getD i 0)):=by
 simp[bv,dB h]
def aS.bs(h:aS w n y L):∃a b,y=Y a L.length b/\bD w a L.length b L/\(∀x,a=E x->n<=x.block/\x.block<w.heap.size/\x.off=0)/\(L≠[]->a≠N):=by
 let⟨c,l,f⟩:=h
 obtain⟨rfl,j⟩|⟨g,b,cur,rfl,aa,d,k,hm,hs,m⟩:=f
 have:L=[]:=oV j;subst this;exact⟨_,0,Q,⟨c,Q,aP _,by simp[maxLen],φ ⟨Q,Q⟩⟩,(nofun),(λe=>absurd Q e)⟩
 refine⟨E ⟨g,0,N⟩,b,Q,⟨c,Q,k,hm,ψ ⟨g,0,Q,?_,c⟩⟩,(λx e=>by cases e;exact⟨aa,(aV.1 d).1,Q⟩),(nofun)⟩
 intro i hi;have e1:(bv L)[i]?=cur.toList[i]? :=by grind
 rw[uW L i hi]at e1;simp only[κ,d,eM]
 simpa using e1.symm
def aS.nil(w:D)(a:Nat):aS w a (Y N 0 0) []:=⟨λx b=>by simp at b,lI _ _ _ _⟩
def aS.gb{w:D}{r:Option Nat}(h:aS w n x L)(g:G w W r)(a:x.ownBlock=N\/x.ownBlock≠r:=by simp):aS W n x L:=⟨h.1,h.2.kept g a⟩
def aS.ag(h:aS w n x L)(g:G w W N):aS W n x L:=h.gb g (by cases x.ownBlock<;>simp)
def aS.below(h:aS w n x L)(g:Below i w W)(a:w.heap.size<=i):aS W n x L:=
 h.gb (r:=N) ⟨g.os,g.tape,g.output,g.size,λk b _=>g.block k O⟩ (by cases x.ownBlock<;>simp)
def pV(h:Below n W w)(o:aS w i x L)(a:G w V x.ownBlock)(b:n<=w.heap.size)(c:n<=i):Below n W V:=
 h.grown a b (λk e=>bG c (o.lt k e).1)
def ph(w:D)(x:Int)(b:W8 x):bD (w.alloc (ο #[I Δ x] 5)) (E ⟨w.heap.size,0,N⟩) 1 1 [x]:=by
 have a:∀y∈[x],W8 y:=λy c=>by rw[eE.1 c];exact b
 refine⟨a,Q,Γ,by simp[maxLen],ψ ⟨_,_,Q,?_,a⟩⟩
 intro i hi;obtain rfl:i=0:=by simpa using hi
 simp
def zj:(prog.info? 5).map (λi=>(i.zero,i.size,i.bytes))=E (E (I Δ 0),1,1):=Φ
def BI(ty:TypeId)(e:Nat)(v:υ)(l:List Int)(f:aS w e v l)
 (n:Option Addr) (nx g:Nat) (m:List Int) (t:bD w n nx g m) (S:l.length+m.length<=100000000) (x:e<=w.heap.size):
 ∃a c d,(Builtin.append_ #[112,112] ty #[v,Y n nx g]).run prog w=.ok (Y a (l.length+m.length) c) d/\aS d e (Y a (l.length+m.length) c) (l++m)/\G w d v.ownBlock/\((Y a (l.length+m.length) c).ownBlock=v.ownBlock\/(Y a (l.length+m.length) c).ownBlock=E w.heap.size):=by
 let⟨p,hi,z,A,B⟩:=kV zj
 obtain⟨C,rfl,T,V,h⟩:=t;obtain⟨rfl,rfl⟩|⟨b,off,rfl,h⟩:=h
 have:m=[]:=â;subst this;have i:=run_append_owned_none (P:=prog) _ _ 112 ty 5 p 1 underlying112 hi v _ _ f.2;obtain⟨a,c,rfl,W⟩:=f.bs;exact⟨a,_,w,i,by simpa using f,au _ _,φ Q⟩
 let⟨F,d,i,H,K,_,L⟩:=run_append_own_at (P:=prog) w e 112 ty 5 p (I Δ 0) 1 1 underlying112 hi z A B Q Θ v l.length (bv l) f.2 ⟨b,off,N⟩ m.length g (bv m) (by simp[bv]) (by
  intro j u k;have q:j<m.length:=by
   have:=(rS.1 k).1;simpa [bv]using this
  rw[uW m j q]at k;obtain rfl:=aR k;rw[Addr.add_lit];exact h.1 j q) (by
  intro u M;obtain⟨y,_,rfl⟩:=fu.1 M;rfl) (by simp[maxLen];omega) O x
 have r:aS d e F (l++m):=⟨λy R=>(b9.1 R).elim (f.1 y) (C y),by simpa [bv]using H⟩
 let⟨a,c,s,_⟩:=r.bs
 rw[bS]at s;subst s;exact⟨a,_,d,i,r,K,L⟩
def BJ{o:Oper}{a:Act}{K:Act->D->Prop}{i:Exit->Act->D->Prop}(s x:Operand)
 (j:o.op=.call {callee:=.builtin .append,args:= #[s,x],argTypes:= #[112,112]})
 (e:Nat) (v:υ) (l:List Int) (hs:a.eval s=v) (k:aS w e v l)
 (f:Option Addr) (nx g:Nat) (m:List Int) (n:a.eval x=Y f nx g) (p:bD w f nx g m) (q:l.length+m.length<=100000000) (r:e<=w.heap.size)
 (h:∀b c d,aS d e (Y b (l.length+m.length) c) (l++m)->G w d v.ownBlock->((Y b (l.length+m.length) c).ownBlock=v.ownBlock\/(Y b (l.length+m.length) c).ownBlock=E w.heap.size)->
   K (a.put o.dst (Y b (l.length+m.length) c)) d):Oper.wp prog o a w K i:=by
 let⟨b,c,d,t,u,y,z⟩:=BI (w:=w) o.type _ v l k f nx g m p q r
 unfold Oper.wp execOp;simp only[j,resolve,invoke,builtin,jL,ny,jC,oh,kD,oq,hs,n,t]
 exact h b _ d u y z
def jt{i:Array Oper}{rest:List Oper}{o:Oper}{a:Act}{j:Exit->Act->D->Prop}(k:o.guard=N)(s x:Operand)
 (n:o.op=.call {callee:=.builtin .append,args:= #[s,x],argTypes:= #[112,112]})
 (e:Nat) (v:υ) (l:List Int) (hs:a.eval s=v) (p:aS w e v l)
 (f:Option Addr) (nx g:Nat) (m:List Int) (q:a.eval x=Y f nx g) (r:bD w f nx g m) (t:l.length+m.length<=100000000) (u:e<=w.heap.size)
 (h:∀b c d,aS d e (Y b (l.length+m.length) c) (l++m)->G w d v.ownBlock->((Y b (l.length+m.length) c).ownBlock=v.ownBlock\/(Y b (l.length+m.length) c).ownBlock=E w.heap.size)->
   wpList prog i j rest (a.put o.dst (Y b (l.length+m.length) c)) d):wpList prog i j (o::rest) a w:=
 rY k λ_ y=>BJ s x n e v l hs p f nx g m q r t u λb c d z A B=>y _ _ (h b c d z A B)
def uX{i:Array Oper}{o:Oper}{a:Act}{K:Act->D->Prop}{j:Exit->Act->D->Prop}{k:Prop}(n:o.guard=N)(s x:Operand)
 (p:o.op=.call {callee:=.builtin .append,args:= #[s,x],argTypes:= #[112,112]})
 (d:Nat) (v:υ) (l:List Int) (hs:a.eval s=v) (q:aS w d v l)
 (e:Option Addr) (nx f:Nat) (m:List Int) (r:a.eval x=Y e nx f) (t:bD w e nx f m) (u:l.length+m.length<=100000000) (y:d<=w.heap.size)
 (h:∀b c g,aS g d (Y b (l.length+m.length) c) (l++m)->G w g v.ownBlock->((Y b (l.length+m.length) c).ownBlock=v.ownBlock\/(Y b (l.length+m.length) c).ownBlock=E w.heap.size)->
   K (a.put o.dst (Y b (l.length+m.length) c)) g):if Region.wanted o (yielded i a.tmps)=ρ then Oper.wp prog o a w K j else k:=by
 have z:Region.wanted o (yielded i a.tmps)=ρ:=by simp[Region.wanted,n]
 rw[aH z];exact BJ s x p _ v l hs q e nx f m r t u y h
def BK:(prog.info? 5).map (·.size)=E 1:=Φ
def xj(w:D)(g:Nat)(a:Array υ):G w (w.setRow g a) (E g):=
 ⟨Q,Q,Q,by simp[World.setRow],λk _ b=>setRow_other w g k a (λe=>b (by rw[e]))⟩
def gy(l:List Int):(bv l).length=l.length:=by simp[bv]
def BL(l:List Int)(o:Nat)(m:List Int):bv (splice l o m)=splice (bv l) o (bv m):=by simp[bv,splice]
def HI(ty:TypeId)(g off a e:Nat)(sp:Option Addr)(l c:Nat)(m:List Int)(q:bD w sp l c m)
 (d:List Int) (t:TypeId) (f:w.heap[g]?=E (ο (bv d).toArray t (0,0))) (r:off+(m.take a).length<=d.length):
 ∃h,(Builtin.copy_ #[112,112] ty #[Y (E ⟨g,off,N⟩) a e,Y sp l c]).run prog w=.ok (goInt (m.take a).length) h/\h.heap[g]?=E (ο (bv (splice d off (m.take a))).toArray t (0,0))/\G w h (E g):=by
 obtain⟨z,rfl,A,B,i⟩:=q;by_cases h0:(m.take a).length=0;have s:=oV h0;have k:=run_copy_none (P:=prog) w 112 112 ty 5 (E ⟨g,off,N⟩) sp a e m.length c underlying112 BK (by grind);exact⟨w,by rw[h0];exact k,by rw[s];simpa [splice]using f,au _ _⟩
 obtain⟨rfl,rfl⟩|⟨b,v,rfl,i⟩:=i
 simp_all;have hl:(bv (m.take a)).length=(m.take a).length:=gy _;have k:=run_copy_row (P:=prog) w 112 112 ty 5 g off a e ⟨b,v,N⟩ m.length c (bv d).toArray t (bv (m.take a)) underlying112 BK f (by grind) (by
  intro j u n;have p:j<(m.take a).length:=by grind
  rw[uW _ j p]at n;obtain rfl:=aR n;rw[Addr.add_lit];rw[dK]at p;rw[i.1 j O];simp[show j<a by omega]) (by rw[hl];simpa [bv]using r) (by
  intro u x;obtain⟨y,_,rfl⟩:=fu.1 x;rfl)
 refine⟨_,by rw[k,hl],?_,xj _ _ _⟩
 rw[setRow_heap w g _ _ t _ f,BL];simp[splice,gy]
def BM{o:Oper}{a:Act}{K:Act->D->Prop}{k:Exit->Act->D->Prop}(d s:Operand)
 (l:o.op=.call {callee:=.builtin .copy,args:= #[d,s],argTypes:= #[112,112]})
 (g off c f:Nat) (hd:a.eval d=Y (E ⟨g,off,N⟩) c f) (sp:Option Addr) (i j:Nat) (hs:a.eval s=Y sp i j) (m:List Int) (n:bD w sp i j m)
 (e:List Int) (t:TypeId) (p:w.heap[g]?=E (ο (bv e).toArray t (0,0))) (q:off+(m.take c).length<=e.length)
 (h:∀b,b.heap[g]?=E (ο (bv (splice e off (m.take c))).toArray t (0,0))->G w b (E g)->K (a.put o.dst (goInt (m.take c).length)) b):Oper.wp prog o a w K k:=by
 let⟨b,r,u,v⟩:=HI (w:=w) o.type g _ _ f sp _ _ m n _ t p q
 unfold Oper.wp execOp;simp only[l,resolve,invoke,builtin,jL,ny,jC,oh,kD,oq,hd,hs,r]
 exact h b u v
def uY{j:Array Oper}{rest:List Oper}{o:Oper}{a:Act}{k:Exit->Act->D->Prop}(d s:Operand)
 (n:o.op=.call {callee:=.builtin .copy,args:= #[d,s],argTypes:= #[112,112]}) (p:o.guard=N)
 (g off b l:Nat) (hd:a.eval d=Y (E ⟨g,off,N⟩) b l) (sp:Option Addr) (f i:Nat) (hs:a.eval s=Y sp f i) (m:List Int) (q:bD w sp f i m)
 (e:List Int) (t:TypeId) (r:w.heap[g]?=E (ο (bv e).toArray t (0,0))) (u:off+(m.take b).length<=e.length)
 (h:∀c,c.heap[g]?=E (ο (bv (splice e off (m.take b))).toArray t (0,0))->G w c (E g)->wpList prog j k rest (a.put o.dst (goInt (m.take b).length)) c):
 wpList prog j k (o::rest) a w:=
 rY p λ_ v=>BM d s n g off b l hd sp f i hs m q e t r u λc x y=>v _ _ (h c x y)
def HJ{f:Array Oper}{o:Oper}{a:Act}{K:Act->D->Prop}{k:Exit->Act->D->Prop}{l:Prop}(d s:Operand)
 (n:o.op=.call {callee:=.builtin .copy,args:= #[d,s],argTypes:= #[112,112]}) (p:o.guard=N)
 (g off b q:Nat) (hd:a.eval d=Y (E ⟨g,off,N⟩) b q) (sp:Option Addr) (i j:Nat) (hs:a.eval s=Y sp i j) (m:List Int) (r:bD w sp i j m)
 (c:List Int) (t:TypeId) (u:w.heap[g]?=E (ο (bv c).toArray t (0,0))) (v:off+(m.take b).length<=c.length)
 (h:∀e,e.heap[g]?=E (ο (bv (splice c off (m.take b))).toArray t (0,0))->G w e (E g)->K (a.put o.dst (goInt (m.take b).length)) e):
 if Region.wanted o (yielded f a.tmps)=ρ then Oper.wp prog o a w K k else l:=by
 have x:Region.wanted o (yielded f a.tmps)=ρ:=by simp[Region.wanted,p]
 rw[aH x];exact BM d s n g _ _ _ hd sp _ _ hs m r _ t u v h
def mh:(prog.info? 24).map (·.size)=E 16:=Φ
def lK{b:Array Oper}{rest:List Oper}{o:Oper}{a:Act}{c:Exit->Act->D->Prop}(x:Operand)(d:o.op=.load 24 x)(e:o.guard=N)
 (g:Nat) (f:a.eval x=π (E ⟨g,0,N⟩)) (K:Array υ) (i:w.heap[g]?=E (ο K 24 (0,0))) (j:K.size=16)
 (h:wpList prog b c rest (a.put o.dst (ε K)) w):wpList prog b c (o::rest) a w:=
 pR e _ x d g f _ K _ _ i underlying24 Q (by rw[j];exact mh) h
def HK(h:∀x∈L,W8 x)(a:∀x∈K,W8 x)(e:strOfNums L=strOfNums K):L=K:=by
 have e2:(strOfNums L).data.toList=(strOfNums K).data.toList:=by rw[e]
 rw[rX,rX]at e2;clear e;induction L generalizing K with
 |nil=>cases K with
  |nil=>rfl
  |cons y r=>simp at e2
 |cons x r d=>cases K with
  |nil=>simp at e2
  |cons y f=>
   simp only[kD,qX]at e2
   have b:=h x (List.mem_cons_self ..)
   have c:=a y (List.mem_cons_self ..)
   unfold W8 at b c
   have g:x=y:=by
    have:=fR UInt8.toNat e2.1;simp only[UInt8.toNat_ofNat']at this;omega
   grind
def nG(h:bD w a n k L):(convert 112 9 (Y a n k)).run prog w=.ok (ς (strOfNums L)) w:=by
 let⟨e,d,f,g,c⟩:=h
 obtain⟨rfl,rfl⟩|⟨b,o,rfl,c⟩:=c
 have:L=[]:=â;subst this;exact run_convert_bytes_nil w _ _ underlying112 underlying5 n 0 _ underlying9;exact run_convert_bytes_arg w _ _ underlying112 underlying5 b o n k L d.symm (λi hi=>c.1 i O) _ underlying9
def bl(s:ByteArray):List Int:=s.data.toList.map λx=>(x.toNat:Int)
def iE(s:ByteArray):(bl s).length=s.size:=by unfold bl;rw[fF,uM];rfl
def qw(s:ByteArray):∀x∈bl s,W8 x:=by
 intro x a;obtain⟨y,_,rfl⟩:=fu.1 a;have:=y.toNat_lt;unfold W8;omega
def rq(s:ByteArray)(w:D):(convert 9 112 (ς s)).run prog w=.ok (Y (E ⟨w.heap.size,0,N⟩) s.size (grownCap w s.size 0 5)) (Lib.bytesWorld w 5 s):=
 Lib.run_convert_string_bytes w _ _ _ s underlying9 underlying112 underlying5
def r9(w:D)(s:ByteArray):G w (Lib.bytesWorld w 5 s) N:=
 ⟨Q,Q,Q,by rw[Lib.bytesWorld_size];omega,λi hi _=>Lib.bytesWorld_at_old w _ s i hi⟩
def tB(w:D)(s:ByteArray)(hs:s.size<=100000000:=by omega):bD (Lib.bytesWorld w 5 s) (E ⟨w.heap.size,0,N⟩) s.size (grownCap w s.size 0 5) (bl s):=by
 refine⟨qw s,(iE s).symm,grownCap_ge _ _ _ _,grownCap_le_maxLen _ _ _ _ (by simp[maxLen];omega),ψ ⟨_,0,Q,?_⟩⟩
 refine⟨λi hi=>?_,qw s⟩
 rw[iE]at hi;have a:i<s.data.toList.length:=by simp_all
 have e1:s.data.toList.getD i 0=s.data.toList[i]:=by simp_all
 have e2:(bl s).getD i 0=(s.data.toList[i].toNat:Int):=by unfold bl;rw[List.getD,kU,dB a];rfl
 rw[eM,Lib.bytesWorld_cell w _ s i hi,e1,e2]
def aS.eV(h:aS w k (Y a n i) L):bD w a n i L:=by
 let⟨b,c,e,d,_⟩:=h.bs
 grind
def BN(h:aS w k (Y a n i) L):(a=N/\n=0)\/∃g b,a=E ⟨g,0,N⟩/\k<=g/\w.heap[g]?=E (ο b 5 (0,0))/\n<=b.size:=by
 let⟨c,d,e⟩:=h
 grind
def BO(a:Option Addr)(n c:Nat)(l:List Int)(w:D)(k:Nat)(m:aS w k (Y a n c) l)(s:n<=100000000):
 Calls prog 97 #[Y a n c] w λe p=>e=ξ (τ #[])/\G w p (Y a n c).ownBlock:=by
 obtain⟨rfl,rfl⟩|⟨g,cs,rfl,t,aa,hs⟩:=BN m
 .go_enter func97,ntmps97;go_wp2;go_loopg [5] 0 (λd i wr=>d=0/\i=I X 0/\wr=w);case atStart=>exact⟨Q,Q,Q⟩
  case round=>
   obtain⟨rfl,rfl,rfl⟩:=hrel;go_wp2;apply eP (dV Q _ _ _) Q;exact⟨Q,au _ _⟩
 have q:(Y (E ⟨g,0,N⟩) n c).ownBlock=E g:=rfl;rw[q];go_enter func97,ntmps97;go_wp2;go_loopg [5] n (λd i wr=>∃j:Nat,j<=n/\d=n-j/\i=I X j/\G w wr (E g)/\∃b,wr.heap[g]?=E (ο b 5 (0,0))/\n<=b.size);case atStart=>exact⟨0,O,O,Q,au _ _,cs,aa,hs⟩
 case round=>
  obtain⟨j,u,rfl,rfl,h,b,f,r⟩:=hrel;by_cases v:j<n
  .have x:κ wr ⟨g,j,N⟩=E (b.getD j undef):=by simp[κ,f,Array.getD,show j<b.size by omega]
   have y:χ wr ⟨g,j,N⟩=θ:=ç f;go_wp2;go_roundg (n-(j+1));case measure=>omega
   case rel=>exact⟨j+1,O,Q,by go_num,aD h _ _ (ψ Q),_,heap_set (Z f) _,by simpa using r⟩
  go_wp2;apply eP (dV Q _ _ _) Q;exact⟨Q,h⟩
def HM{i:Array Oper}{rest:List Oper}{o:Oper}{a:Act}{j:Exit->Act->D->Prop}(k:o.guard=N)(x:Operand)
 (l:o.op=.call {callee:=.builtin .append,args:= #[.const (Y N 0 0),x],argTypes:= #[112,112]})
 (d:Option Addr) (nx e:Nat) (m:List Int) (n:a.eval x=Y d nx e) (p:bD w d nx e m) (r:m.length<=100000000)
 (h:∀c f b,aS b w.heap.size (Y c m.length f) m->G w b N->wpList prog i j rest (a.put o.dst (Y c m.length f)) b):wpList prog i j (o::rest) a w:=by
 apply jt k (.const (Y N 0 0)) x l w.heap.size (Y N 0 0) [] Q (aS.nil _ _) d nx e m n p (by grind) (aP _);intro c f b g q _;rw[eJ,eM]at g⊢;rw[mg]at g;exact h c _ b g q
def jE{a:List υ}(h:w.rangeAt b o a)(g:G w W e)(c:e≠E b):W.rangeAt b o a:=
 λj v d=>g.cell (h j v d) (λf=>c f.symm)
def xk{a:List υ}(h:w.rangeAt b o a)(p:Addr)(v:υ)(hp:p.block≠b):(ζ w p v).rangeAt b o a:=λj u c=>by
 rw[iB (w:=w) (dr _ _ _ _ (Ne.symm hp))];exact h j u c
def mj{fr:Nat×Nat}{a:List υ}(h:w.heap[b]?=E (ο a.toArray T fr)):w.rangeAt b 0 a:=λj v c=>by
 simp only[κ,h,eM];simpa using c
structure Rg where
 lo:Int
 hi:Int
structure Fr where
 kind:Int
 stream:Int
 offset:Int
 code:Int
 fin:Bool
 data:ByteArray
 ranges:List Rg
def Rg.ok(r:Rg):Prop:=aZ r.lo/\aZ r.hi
def ie(x:Int):Prop:= -9223372036854775808<=x/\x<=9223372036854775807
def Fr.ok(f:Fr):Prop:=ie f.kind/\ie f.stream/\aZ f.offset/\aZ f.code/\∀r∈f.ranges,r.ok
def aN(n:Int):List Int:=
 if n<64 then[n]else if n<16384 then[n/256+64,n %256]
 else if n<1073741824 then[n/16777216+128,n/65536 %256,n/256 %256,n %256]
 else[n/72057594037927936+192,n/281474976710656 %256,n/1099511627776 %256,n/4294967296 %256,n/16777216 %256,n/65536 %256,n/256 %256,n %256]
def cR(n:Int):Prop:=0<=n/\n<=4611686018427387903
def ou{n:Int}(h:cR n):∀x∈aN n,W8 x:=by
 unfold cR at h;intro x a;unfold aN at a;unfold W8;split at a;grind;split at a;grind;split at a;grind;simp only[iD,uN,or_false]at a;omega
def eQ(n:Int):1<=(aN n).length/\(aN n).length<=8:=by
 unfold aN;repeat' split
 all_goals simp
def an(l:List Rg)(i:Nat):Rg:=l.getD i ⟨0,0⟩
def mS(l:List Rg)(i:Nat):Prop:=(an l i).lo<=(an l i).hi/\(an l i).hi<=4611686018427387903/\(0<i->(an l i).hi+2<=(an l (i-1)).lo)
def gP(l:List Rg):Prop:=0<l.length/\∀i,i<l.length->mS l i
def qx(f:Fr):Prop:=f.offset<=4611686018427387903/\f.code<=4611686018427387903/\0<=f.stream/\f.stream<4
def ru(f:Fr):Prop:=(f.kind=3->gP f.ranges)/\(f.kind=5->(f.data.size:Int)<=4611686018427387903-f.offset)
def cT(f:Fr):Prop:=qx f/\ru f/\1<=f.kind/\f.kind<=6
def uZ(l:List Rg)(i:Nat):List Int:=aN ((an l i).lo-(an l (i+1)).hi-2)++aN ((an l (i+1)).hi-(an l (i+1)).lo)
def iW(l:List Rg):Nat->List Int
 |0=>[]
 |j+1=>iW l j++uZ l j
def kE(l:List Rg):List Int:=aN (an l 0).hi++aN ((l.length:Int)-1)++aN ((an l 0).hi-(an l 0).lo)
def fS(l:List Rg):List Int:=kE l++iW l (l.length-1)
def cH(f:Fr):List Int:=
 if f.kind=1 then[0]else if f.kind=2 then[1]else if f.kind=3 then 2::fS f.ranges
 else if f.kind=4 then 4::(aN f.stream++aN f.code++aN f.offset)
 else if f.kind=5 then(if f.fin then 9 else 8)::(aN f.stream++aN f.offset++aN f.data.size++bl f.data)
 else 28::aN f.code
def bE:List Fr->List Int
 |[]=>[]
 |f::r=>cH f++bE r
def HP(l r:List Fr):bE (l++r)=bE l++bE r:=by
 induction l with
 |nil=>rfl
 |cons f l a=>simp[bE,a]
def BP(l:List Fr)(j:Nat)(h:j<l.length):bE (l.take (j+1))=bE (l.take j)++cH l[j]:=by
 rw[oa h,HP];simp[bE]
def kX(f:Fr):Nat:=25+16*f.ranges.length+f.data.size
def fh:List Fr->Nat
 |[]=>0
 |f::r=>kX f+fh r
def xm(l:List Rg)(j:Nat):(iW l j).length<=16*j:=by
 induction j with
 |zero=>simp[iW]
 |succ j a=>
  have b:=eQ ((an l j).lo-(an l (j+1)).hi-2);have c:=eQ ((an l (j+1)).hi-(an l (j+1)).lo);simp only[iW,uZ,bS];omega
def xp(f:Fr):1<=(cH f).length/\(cH f).length<=kX f:=by
 have a:=eQ f.stream;have b:=eQ f.code;have c:=eQ f.offset;have d:=eQ f.data.size;have a5:=iE f.data;have a6:=xm f.ranges (f.ranges.length-1);have a7:=eQ (an f.ranges 0).hi;have e:=eQ ((f.ranges.length:Int)-1);have g:=eQ ((an f.ranges 0).hi-(an f.ranges 0).lo);unfold cH kX;repeat' split
 all_goals simp only[fS,kE,dY,bS,eJ];omega
def zk(l:List Fr):(bE l).length<=fh l:=by
 induction l with
 |nil=>simp[bE,fh]
 |cons f r a=>have:=xp f;simp only[bE,fh,bS];omega
def ox{l:List Rg}(a:∀r∈l,r.ok)(h:gP l)(i:Nat)(hi:i<l.length):cR (an l i).lo/\cR (an l i).hi:=by
 have b:=h.2 i hi;have c:(an l i).ok:=a _ (by unfold an;rw[List.getD,dB hi];exact tt hi);unfold Rg.ok aZ at c;unfold mS at b;unfold cR;omega
def BQ{l:List Rg}(e:∀r∈l,r.ok)(h:gP l):∀j,j<l.length->∀x∈iW l j,W8 x
 |0,_=>by intro x d;simp[iW]at d
 |j+1,f=>by
  intro x d;have a:=ox e h j O;have b:=ox e h (j+1) f;have c:=h.2 (j+1) f;unfold mS at c;simp only[oZ]at c;unfold cR at a b;simp only[iW,uZ,b9]at d;obtain d|d|d:=d
  exact BQ e h j O x d;exact ou (by unfold cR;omega) x d;exact ou (by unfold cR;omega) x d
def HQ{l:List Rg}(e:∀r∈l,r.ok)(h:gP l)(hl:(l.length:Int)<=4611686018427387903):∀x∈kE l,W8 x:=by
 have a:=ox e h 0 h.1;have c:=(h.2 0 h.1).1;have d:=h.1;unfold cR at a;intro x b;simp only[kE,b9]at b;obtain(b|b)|b:=b
 exact ou (by unfold cR;omega) x b;exact ou (by unfold cR;omega) x b;exact ou (by unfold cR;omega) x b
def fM(x:Int):Nat:=if x<64 then 1 else if x<128 then 2 else if x<192 then 4 else 8
def gQ(b:List Int)(p:Nat):Nat->Int
 |0=>b.getD p 0 %64
 |k+1=>gQ b p k*256+b.getD (p+k+1) 0
def cE(b:List Int)(p:Nat):Option (Int×Nat):=
 if p+fM (b.getD p 0)<=b.length then E (gQ b p (fM (b.getD p 0)-1),p+fM (b.getD p 0))else N
def tC(x:Int):1<=fM x/\fM x<=8:=by
 unfold fM;grind
def xq{b:List Int}(a:∀x∈b,W8 x)(p:Nat):∀k,0<=gQ b p k/\gQ b p k<64*256^k
 |0=>by simp only[gQ];omega
 |k+1=>by
  have d:=xq a p k;have c:=mR a (p+k+1);unfold W8 at c;simp only[gQ,Int.pow_succ]
  generalize (256:Int)^k=q at *;omega
def ig{b:List Int}{p:Nat}{n:Int}{q:Nat}(a:∀x∈b,W8 x)(h:cE b p=E (n,q)):cR n/\p<q/\q<=b.length:=by
 unfold cE at h;split at h;simp only[qu,uS]at h;have:=tC (b.getD p 0);have c:=xq a p (fM (b.getD p 0)-1);have d:(256:Int)^(fM (b.getD p 0)-1)<=256^7:=by
  have:(256:Nat)^(fM (b.getD p 0)-1)<=256^7:=uJ Θ O;grind
 unfold cR;omega;cases h
def fH(b:List Int)(p:Nat):Option (Int×Nat):=(cE b p).bind λx=>if x.1<4 then E x else N
def ju(b:List Int)(p:Nat):Option (ByteArray×Nat):=
 (cE b p).bind λx=>if x.1<=(b.length:Int)-(x.2:Int)then E (strOfNums ((b.drop x.2).take x.1.toNat),x.2+x.1.toNat)else N
def iF(b:List Int):Nat->Nat->Int->List Rg->Option (List Rg×Nat)
 |0,p,_,acc=>E (acc,p)
 |k+1,p,lo,acc=>(cE b p).bind λx=>(cE b x.2).bind λy=>
  if x.1+2<=lo/\y.1<=lo-2-x.1 then iF b k y.2 (lo-2-x.1-y.1) (acc++[⟨lo-2-x.1-y.1,lo-2-x.1⟩])else N
def eW(b:List Int)(p:Nat):Option (List Rg×Nat):=
 (cE b p).bind λx=>(cE b x.2).bind λy=>(cE b y.2).bind λz=>
   if z.1<=x.1 then iF b y.1.toNat z.2 (x.1-z.1) [⟨x.1-z.1,x.1⟩]else N
def bL(k:Int)(fin:Bool):Fr:=⟨k,0,0,0,fin,ByteArray.empty,[]⟩
def dy(b:List Int)(t:Int)(p:Nat):Option (Fr×Nat):=
 if t=0 then E (bL 1 θ,p)else if t=1 then E (bL 2 θ,p)
 else if t=2 then(eW b p).bind λx=>E ({bL 3 θ with ranges:=x.1},x.2)
 else if t=4 then(fH b p).bind λx=>(cE b x.2).bind λy=>(cE b y.2).bind λz=>E ({bL 4 θ with stream:=x.1,code:=y.1,offset:=z.1},z.2)
 else if t=8\/t=9 then(fH b p).bind λx=>(cE b x.2).bind λy=>(ju b y.2).bind λz=>E ({bL 5 (decide (t=9))with stream:=x.1,offset:=y.1,data:=z.1},z.2)
 else if t=28 then(cE b p).bind λx=>E ({bL 6 θ with code:=x.1},x.2)
 else N
open Classical in
noncomputable def kG(b:List Int)(p:Nat):Option (Fr×Nat):=(dy b (b.getD p 0) (p+1)).bind λx=>if cT x.1 then E x else N
noncomputable def gz(b:List Int):Nat->Nat->List Fr->Option (List Fr)×Int
 |0,p,_=>(N,p)
 |k+1,p,acc=>if p<b.length then(match kG b p with
  |none=>(N,p)
  |some (f,q)=>gz b k q (acc++[f]))else(E acc,-1)
noncomputable def eX(b:List Int):Option (List Fr)×Int:=if b.length=0 then(N,0)else gz b (b.length+1) 0 []
variable{u:Fr}{s:List Rg}
def Sm(l:List Rg)(n:Int):Prop:=∃r∈l,r.lo<=n/\n<r.hi
def bk(l:List Rg):Prop:=l.Pairwise (λa b=>a.hi<b.lo)/\∀r∈l,r.lo<r.hi
def bk.nil:bk []:=⟨List.Pairwise.nil,nofun⟩
def ij(n:Int):¬Sm [] n:=λ⟨r,h,_⟩=>by cases h
def eG(r:Rg)(l:List Rg)(n:Int):Sm (r::l) n↔(r.lo<=n/\n<r.hi)\/Sm l n:=by
 constructor;rintro⟨x,a,h⟩;obtain rfl|a:=iD.1 a
 omega;exact ψ ⟨x,a,h⟩;rintro(h|⟨x,a,h⟩);exact⟨r,Γ,h⟩
 exact⟨x,by simp[a],h⟩
def tD(l r:List Rg)(n:Int):Sm (l++r) n↔Sm l n\/Sm r n:=by
 induction l with
 |nil=>simp[ij]
 |cons x l a=>rw[rU,eG,eG,a,or_assoc]
def bk.tail{r:Rg}(h:bk (r::s)):bk s:=⟨(qW.1 h.1).2,λx a=>h.2 x (by simp[a])⟩
def bk.behind{r:Rg}(h:bk (r::s))(a:Sm s p):r.hi<p:=by
 let⟨x,b,c,d⟩:=a
 have:=(qW.1 h.1).1 x b;omega
def bk.append{r:List Rg}(c:bk s)(d:bk r)(h:∀a∈s,∀b∈r,a.hi<b.lo):bk (s++r):=
 ⟨List.pairwise_append.2 ⟨c.1,d.1,h⟩,λx e=>(b9.1 e).elim (c.2 x) (d.2 x)⟩
def bk.one{x:Rg}(h:x.lo<x.hi):bk [x]:=⟨List.pairwise_singleton _ _,λy a=>by simp at a;subst a;exact h⟩
def bk.sub{r:List Rg}(h:bk s)(hs:r.Sublist s):bk r:=⟨h.1.sublist hs,λx a=>h.2 x (hs.subset a)⟩
def bk.unique{r:List Rg}(c:bk s)(d:bk r)(h:∀n,Sm s n↔Sm r n):s=r:=by
 induction s generalizing r with
 |nil=>
  cases r with
  |nil=>rfl
  |cons y r=>
   have:=(h y.lo).2 ⟨y,Γ,fv _,d.2 y Γ⟩;exact absurd this (ij _)
 |cons x s g=>
  cases r with
  |nil=>
   have:=(h x.lo).1 ⟨x,Γ,fv _,c.2 x Γ⟩;exact absurd this (ij _)
  |cons y r=>
   have i:=c.2 x Γ;have j:=d.2 y Γ;have e:=(eG y r _).1 ((h _).1 ⟨x,Γ,fv _,i⟩);have b:=(eG x s _).1 ((h _).2 ⟨y,Γ,fv _,j⟩);have k:x.lo=y.lo:=by
    obtain e|e:=e
    obtain b|b:=b
    omega;have:=c.behind b;omega;have:=d.behind e;obtain b|b:=b
    omega;have:=c.behind b;omega
   have b1:¬Sm (x::s) x.hi:=λa=>by
    obtain a|a:=(eG _ _ _).1 a
    omega;have:=c.behind a;omega
   have b2:¬Sm (y::r) y.hi:=λa=>by
    obtain a|a:=(eG _ _ _).1 a
    omega;have:=d.behind a;omega
   have l:x.hi=y.hi:=by
    obtain m|he|p:=Int.lt_trichotomy x.hi y.hi
    exact absurd ((h _).2 ⟨y,Γ,O,m⟩) b1;exact he;exact absurd ((h _).1 ⟨x,Γ,O,p⟩) b2
   let⟨q,t⟩:=x
   subst k l;congr 1;refine g c.tail d.tail (λn=>?_);have a:=h n;rw[eG,eG]at a;constructor;intro f;have:=c.behind f;grind;intro f;have:=d.behind f;grind
def lL(h:i<s.length):an s i∈s:=by
 unfold an;rw[List.getD,dB h];exact tt h
def zl{r:Rg}(h:r∈s.take i):∃k,k<i/\k<s.length/\r=an s k:=by
 obtain⟨k,a,rfl⟩:=ko.1 h;rw[dK]at a;refine⟨k,O,O,?_⟩
 rw[wS,an,List.getD,dB O];rfl
def tF{r:Rg}(h:r∈s.drop i):∃k,i<=k/\k<s.length/\r=an s k:=by
 obtain⟨k,a,rfl⟩:=ko.1 h;rw[fD]at a;refine⟨i+k,O,O,?_⟩
 rw[wT,an,List.getD,dB O];rfl
def bk.lt(h:bk s){i k:Nat}(b:i<k)(a:k<s.length):(an s i).hi<(an s k).lo:=by
 have:=List.pairwise_iff_getElem.1 h.1 i k O a b;simpa [an,List.getD,dB a,dB (O:i<s.length)]using this
def bk.pos(h:bk s)(hi:i<s.length):(an s i).lo<(an s i).hi:=h.2 _ (lL hi)
def mT(n k:Nat)(p:Nat->Prop):Prop:=k<=n/\(∀i,i<k->¬p i)/\∀i,k<=i->i<n->p i
def HU(h:bk s)(e:p<q)(hi:mT s.length i (λk=>p<=(an s k).hi))(a:mT s.length j (λk=>q<(an s k).lo)):i<=j:=by
 let⟨f,b,g⟩:=hi
 let⟨l,m,c⟩:=a
 by_cases d:i<=j;exact d;have n:=b j O;have r:=c j (aP _) O;have t:=h.pos (i:=j) O;omega
def xr(l:List Rg)(x:Rg)(i j:Nat):List Rg:=
 l.take i++((if i<j then⟨min x.lo (an l i).lo,max x.hi (an l (j-1)).hi⟩else x)::l.drop j)
def HX{x:Rg}(h:bk s)(P:x.lo<x.hi)(hi:mT s.length i (λk=>x.lo<=(an s k).hi))(w:mT s.length j (λk=>x.hi<(an s k).lo)):
 bk (xr s x i j)/\∀n,Sm (xr s x i j) n↔Sm s n\/(x.lo<=n/\n<x.hi):=by
 let⟨R,q,z⟩:=hi
 let⟨S,A,t⟩:=w
 have T:i<=j:=by
  by_cases B:i<=j;exact B;have V:=q j O;have W:=t j (aP _) O;have h3:=h.pos (i:=j) O;omega
 obtain⟨y,f⟩:∃y:Rg,y=(if i<j then⟨min x.lo (an s i).lo,max x.hi (an s (j-1)).hi⟩else x):=⟨_,Q⟩
 have ak:y.lo<=x.lo/\x.hi<=y.hi:=by
  grind
 have C:∀k,k<i->(an s k).hi<y.lo:=λk d=>by
  have a:=q k d;rw[f];split;have:=h.lt d (O:i<s.length);simp only;omega;omega
 have al:∀k,j<=k->k<s.length->y.hi<(an s k).lo:=λk d u=>by
  have a:=t k d u;rw[f];split;have:=h.lt (O:j-1<k) u;simp only;omega;omega
 have F:xr s x i j=s.take i++(y::s.drop j):=by rw[f];rfl
 rw[F];constructor;refine(h.sub (List.take_sublist i s)).append ⟨qW.2 ⟨λb g=>?_,(h.sub (List.drop_sublist j s)).1⟩,λr c=>?_⟩ (λa H b g=>?_);obtain⟨k,l,v,rfl⟩:=tF g;grind;obtain rfl|c:=iD.1 c
 omega;exact h.2 r (iC c);obtain⟨k,l,v,rfl⟩:=zl H;have e1:=C k l;obtain rfl|g:=iD.1 g
 exact e1;obtain⟨m,m1,K,rfl⟩:=tF g;exact h.lt O K;intro n;rw[tD,eG];have hl:s=s.take i++((s.drop i).take (j-i)++s.drop j):=by
  have e:s.drop j=(s.drop i).drop (j-i):=by rw[uR];congr 1;omega
  rw[e,qp,qp]
 have L:∀r∈(s.drop i).take (j-i),∃k,i<=k/\k<j/\r=an s k:=λr c=>by
  obtain⟨k,d,rfl⟩:=ko.1 c;rw[dK,fD]at d;refine⟨i+k,O,O,?_⟩
  rw[wS,wT,an,List.getD,dB O];rfl
 have fj:Sm s n↔Sm (s.take i) n\/Sm ((s.drop i).take (j-i)) n\/Sm (s.drop j) n:=by
  rw[hl];simp only[tD]
  rw[<-hl]
 rw[fj];constructor;rintro(a|a|a);exact φ (φ a);by_cases M:x.lo<=n/\n<x.hi;exact ψ M;left;right;left;rw[f]at a;split at a;rename_i p;simp only at a;by_cases ax:n<x.lo;exact⟨an s i,by
  rw[ko];refine⟨0,by rw[dK,fD];omega,?_⟩
  rw[wS,wT,an,List.getD,dB O];rfl,O,by have:=z i (aP _) O;omega⟩
 exact⟨an s (j-1),by
  rw[ko];refine⟨j-1-i,by rw[dK,fD];omega,?_⟩
  rw[wS,wT,an,List.getD,dB O];simp only[Option.getD_some]
  congr 1;omega,by have:=A (j-1) O;omega,O⟩
 omega;exact φ (ψ (ψ a));rintro((a|⟨r,c,a⟩|a)|a);exact φ a;right;left;obtain⟨k,l,v,rfl⟩:=L r c;rw[f,è];simp only
 have e1:(an s i).lo<=(an s k).lo:=by
  obtain p|rfl:=tg l
  have:=h.lt p O;have:=h.pos (i:=i) O;omega;omega
 have e2:(an s k).hi<=(an s (j-1)).hi:=by
  obtain p|he:=tg (O:k<=j-1)
  have:=h.lt p O;have:=h.pos (i:=j-1) O;omega;rw[he];omega
 omega;exact ψ (ψ a);right;left;omega
def HY{r:Rg}:r∈(s.drop i).take (j-i)->∃k,i<=k/\k<j/\k<s.length/\r=an s k:=λa=>by
 obtain⟨k,b,rfl⟩:=ko.1 a;rw[dK,fD]at b;refine⟨i+k,O,O,O,?_⟩
 rw[wS,wT,an,List.getD,dB O];rfl
def HZ(l:List Rg)(a:i<=j)(n:Int):Sm l n↔Sm (l.take i) n\/Sm ((l.drop i).take (j-i)) n\/Sm (l.drop j) n:=by
 have hl:l=l.take i++((l.drop i).take (j-i)++l.drop j):=by
  have e:l.drop j=(l.drop i).drop (j-i):=by simp_all
  rw[e,qp,qp]
 have:Sm (l.take i++((l.drop i).take (j-i)++l.drop j)) n↔Sm (l.take i) n\/Sm ((l.drop i).take (j-i)) n\/Sm (l.drop j) n:=by simp only[tD]
 grind
def BR(b:i<=k)(c:k<j)(a:k<s.length):an s k∈(s.drop i).take (j-i):=by
 rw[ko];refine⟨k-i,by rw[dK,fD];omega,?_⟩
 rw[wS,wT,an,List.getD,dB a];grind
def xt(l:List Rg)(x:Rg)(i j:Nat):List Rg:=
 l.take i++((if(an l i).lo<x.lo then[⟨(an l i).lo,x.lo⟩]else[])++((if x.hi<(an l (j-1)).hi then[⟨x.hi,(an l (j-1)).hi⟩]else[])++l.drop j))
def H0{x:Rg}(h:bk s)(V:x.lo<x.hi)(w:i<j)(hi:mT s.length i (λk=>x.lo<(an s k).hi))(A:mT s.length j (λk=>x.hi<=(an s k).lo)):
 bk (xt s x i j)/\∀n,Sm (xt s x i j) n↔Sm s n/\¬(x.lo<=n/\n<x.hi):=by
 let⟨W,B,C⟩:=hi
 let⟨j1,F,H⟩:=A
 have ci:=C i (aP _) O;have cj:=F (j-1) O;have K:∀k,k<i->(an s k).hi<(an s i).lo:=λk d=>h.lt d O
 have y:∀k,k<i->(an s k).hi<=x.lo:=λk d=>by have:=B k d;omega
 have L:∀k,j<=k->k<s.length->(an s (j-1)).hi<(an s k).lo:=λk d t=>h.lt O t
 have z:∀k,j<=k->k<s.length->x.hi<=(an s k).lo:=λk d t=>H k d t
 have M:bk (if(an s i).lo<x.lo then[⟨(an s i).lo,x.lo⟩]else[]):=by
  split;exact bk.one Ω;exact bk.nil
 have P:bk (if x.hi<(an s (j-1)).hi then[⟨x.hi,(an s (j-1)).hi⟩]else[]):=by
  split;exact bk.one Ω;exact bk.nil
 have u:∀r∈(if(an s i).lo<x.lo then[(⟨(an s i).lo,x.lo⟩:Rg)]else[]),r.lo=(an s i).lo/\r.hi=x.lo/\(an s i).lo<x.lo:=λr g=>by
  grind
 have q:∀r∈(if x.hi<(an s (j-1)).hi then[(⟨x.hi,(an s (j-1)).hi⟩:Rg)]else[]),r.lo=x.hi/\r.hi=(an s (j-1)).hi/\x.hi<(an s (j-1)).hi:=λr g=>by
  grind
 constructor;refine(h.sub (List.take_sublist i s)).append (M.append (P.append (h.sub (List.drop_sublist j s)) (λa p b c=>?_)) (λa p b c=>?_)) (λa p b c=>?_);obtain⟨k,f,l,rfl⟩:=tF c;have:=q a p;have:=L k f l;omega;have v:=u a p;obtain c|c:=b9.1 c
 have:=q b c;omega;obtain⟨k,f,l,rfl⟩:=tF c;have:=z k f l;omega;obtain⟨k,f,l,rfl⟩:=zl p;have e1:=K k f;have e2:=y k f;obtain c|c:=b9.1 c
 have:=u b c;omega;obtain c|c:=b9.1 c
 have:=q b c;omega;obtain⟨m,v,R,rfl⟩:=tF c;exact h.lt O R;intro n;rw[HZ s (uV w) n];unfold xt;simp only[tD]
 have tk:Sm (s.take i) n->n<x.lo:=λ⟨r,g,a⟩=>by
  obtain⟨k,f,l,rfl⟩:=zl g;have:=y k f;omega
 have S:Sm (s.drop j) n->x.hi<=n:=λ⟨r,g,a⟩=>by
  obtain⟨k,f,l,rfl⟩:=tF g;have:=z k f l;omega
 constructor;rintro(a|⟨r,g,a⟩|⟨r,g,a⟩|a);exact⟨φ a,by have:=tk a;omega⟩
 have v:=u r g;exact⟨ψ (φ ⟨_,BR (aP _) w O,O,O⟩),O⟩
 have v:=q r g;exact⟨ψ (φ ⟨an s (j-1),BR O O O,O,O⟩),O⟩
 exact⟨ψ (ψ a),by have:=S a;omega⟩
 rintro⟨a|⟨r,g,a⟩|a,hn⟩;exact φ a;obtain⟨k,f,l,k3,rfl⟩:=HY g;by_cases T:n<x.lo;right;left;have e:k=i:=by
  obtain d|d:=tg f
  have:=h.lt d k3;omega;exact d.symm
 subst e;rw[è];exact⟨_,eE.2 Q,a.1,T⟩
 right;right;left;have e:k=j-1:=by
  obtain d|d:=tg (O:k<=j-1)
  have:=h.lt d O;omega;exact d
 subst e;rw[è];exact⟨_,eE.2 Q,by show x.hi<=n;omega,a.2⟩
 exact ψ (ψ (ψ a))
def H5{x:Rg}(h:bk s)(j:x.lo<x.hi):(∃r∈s,r.lo<=x.lo/\x.hi<=r.hi)↔∀n,x.lo<=n->n<x.hi->Sm s n:=by
 constructor;rintro⟨r,c,e,k⟩ n l m;exact⟨r,c,O,O⟩
 intro f;let⟨r,c,e,k⟩:=f _ (fv _) j
 refine⟨r,c,e,?_⟩
 by_cases p:x.hi<=r.hi;exact p;let⟨q,hs,l,m⟩:=f r.hi O O
 obtain⟨a,g,rfl⟩:=ko.1 c;obtain⟨b,i,rfl⟩:=ko.1 hs;obtain d|rfl|d:=Nat.lt_trichotomy a b
 have:=List.pairwise_iff_getElem.1 h.1 a b g i d;omega;omega;have:=List.pairwise_iff_getElem.1 h.1 b a i g d;grind
def gR(p:Prop)(e:Ending):Prop:=∃b:Bool,e=ξ (β b)/\(b=ρ↔p)
def xv{p:Prop}(h:p):gR p (ξ (β ρ)):=⟨ρ,Q,by simp[h]⟩
def jM{p:Prop}(h:¬p):gR p (ξ (β θ)):=⟨θ,Q,by simp[h]⟩
def oy{p q:Prop} [Decidable q](h:q↔p):gR p (ξ (β (decide q))):=⟨_,Q,by simp[h]⟩
def cY(l:List Rg):List υ:=l.flatMap λr=>[I U r.lo,I U r.hi]
def bq(w:D)(a:Option Addr)(n c:Nat)(l:List Rg):Prop:=
 (∀r∈l,r.ok)/\n=l.length/\n<=c/\c<=maxLen/\(c=0\/∃b o,a=E ⟨b,o,N⟩/\w.rangeAt b o (cY l))
def sd(l:List Rg):(cY l).length=l.length*2:=by
 induction l with
 |nil=>rfl
 |cons r l a=>simp only[cY,List.flatMap_cons,bS,dY,eJ]at *;omega
def zm(l:List Rg)(i:Nat)(h:i<l.length):(cY l)[i*2]?=E (I U (an l i).lo)/\(cY l)[i*2+1]?=E (I U (an l i).hi):=by
 induction l generalizing i with
 |nil=>simp at h
 |cons r l a=>
  cases i with
  |zero=>simp[cY,an]
  |succ i=>
   have:=a i (by grind);have e1:(i+1)*2=i*2+1+1:=O;have e2:(i+1)*2+1=i*2+1+1+1:=O;rw[e2,e1];exact this
def oC(h:∀r∈s,r.ok)(i:Nat):(an s i).ok:=by
 unfold an;by_cases hi:i<s.length;simp_all;rw[List.getD,rT O];exact⟨by simp[aZ],by simp[aZ]⟩
def bq.ag(h:bq w a n k s)(g:G w W N):bq W a n k s:=by
 let⟨d,e,f,i,c⟩:=h
 refine⟨d,e,f,i,?_⟩
 obtain c|⟨b,o,rfl,c⟩:=c
 omega;exact ψ ⟨b,o,Q,jE c g Γ⟩
def bq.cell(h:bq w (E ⟨b,o,N⟩) n k s)(i:Nat)(hi:i<s.length):κ w ⟨b,o+i*2,N⟩=E (I U (an s i).lo)/\κ w ⟨b,o+i*2+1,N⟩=E (I U (an s i).hi):=by
 obtain⟨-,c,d,-,h|⟨f,g,e,a⟩⟩:=h;omega;cases e;have:=zm s i hi;refine⟨a _ _ this.1,?_⟩
 have c:=a _ _ this.2;grind
def BV(h:∀i,i<j->mS s i)(a:mS s j):∀i,i<j+1->mS s i:=λi hi=>by
 obtain b|rfl:=sY.1 hi
 exact h i b;exact a
def Ij(a:Option Addr)(n s:Nat)(l:List Rg)(w:D)(h:bq w a n s l):
 Calls prog 234 #[Y a n s] w λe u=>gR (gP l) e/\G w u N:=by
 have v:=h.2.1;subst v;have F:=h.2.2.1;have x:=h.2.2.2.1;unfold maxLen at x;go_enter func234,ntmps234;go_wp2;go_loopw [7] (λi wr=>∃j:Nat,j<=l.length/\i=I X j/\(∀i,i<j->mS l i)/\G w wr N) (λi _=>l.length-(intOf i).toNat);case atStart=>exact⟨0,O,Q,λi hi=>by omega,au _ _⟩
 case round=>
  obtain⟨j,H,rfl,m,d⟩:=hrel;by_cases p:j<l.length
  .have q:=h.ag d;obtain⟨-,-,-,-,h0|⟨b,o,rfl,-⟩⟩:=id q;omega;let⟨c1,c2⟩:=q.cell j p
   have y:=oC h.1 j;let⟨⟨z,A⟩,k3,k4⟩:=y
   obtain⟨lo,f⟩:=í ((an l j).lo);obtain⟨hi,c⟩:=í ((an l j).hi);rw[<-f]at c1 z A;rw[<-c]at c2 k3 k4;replace⟨f,c,m⟩:=cA f c m;by_cases K:hi<lo
   .go_wp2_with fail;go_ret;exact⟨jM (λg=>by have:=(g.2 j p).1;rw[<-Z f,<-Z c]at this;omega),aW d _⟩
   by_cases L:4611686018427387903<hi
   .go_wp2_with fail;go_ret;exact⟨jM (λg=>by have:=(g.2 j p).2.1;rw[<-Z c]at this;omega),aW d _⟩
   obtain _|i:=j
   .rw[nz,nA]at c1 c2;go_wp2_with fail;go_quiet (fail);go_wp2;go_roundw;case rel=>exact⟨1,O,Γ,λi hi=>by
     obtain rfl:i=0:=O;exact⟨by rw[<-Z f,<-Z c];omega,by rw[<-Z c];omega,λh=>O⟩,cu (aW d _) _⟩
    case measure=>simp[intOf];omega
   obtain⟨c3,-⟩:=(q.ag (aC wr (ο #[I U lo,I U hi] 200) N)).cell i O;obtain⟨⟨k5,B⟩,-⟩:=oC h.1 i;obtain⟨r,k⟩:=í ((an l i).lo);rw[<-k]at c3 k5 B;replace k:=J k;by_cases t:r<=hi+1
   .have C:decide (r<=hi+1)=ρ:=by simp[t]
    go_wp2_with fail;go_quiet (fail);go_wp2;go_ret;exact⟨jM (λg=>by have:=(g.2 (i+1) p).2.2 O;rw[oZ,<-Z c,<-Z k]at this;omega),cu (aW d _) _⟩
   have C:decide (r<=hi+1)=θ:=by simp[t]
   go_wp2_with fail;go_quiet (fail);go_wp2;go_roundw;case rel=>
    refine⟨i+1+1,O,Γ,BV (Z m) ⟨by rw[<-Z f,<-Z c];omega,by rw[<-Z c];omega,λ_=>?_⟩,cu (aW d _) _⟩
    rw[oZ,<-Z c,<-Z k];omega
   case measure=>simp[intOf];omega
  obtain rfl:j=l.length:=O;go_wp2;go_ret;refine⟨oy ⟨λhp=>⟨O,m⟩,λhp=>by have:=hp.1;omega⟩,d⟩
def BW{P:Program}(w:D)(t ty e:TypeId)(i:TypeInfo)(z:υ)(size bytes:Nat)(l:P.underlying t=E (.slice e))(hi:P.info? e=E i)(p:i.zero=E z)
 (q:i.size=size) (r:i.bytes=bytes) (s:z.cells.size=size) (C:0<size) (v:υ) (n:Nat) (b:List υ) (x:b.length=n*size)
 (F:(v=Y N 0 0/\n=0)\/∃y,v=Y (E y) n n/\∀j u,b[j]?=E u->κ w (y.add j)=E u)
 (a:Addr) (m c:Nat) (d:List υ) (hm:0<m) (hl:d.length=m*size) (A:∀j u,d[j]?=E u->κ w (a.add j)=E u) (H:∀u∈d,u.oneCell'=ρ)
 (h:n+m<=maxLen) (B:(n+m)*bytes<=140737488355328):
 ∃g f,(Builtin.append_ #[t,t] ty #[v,Y (E a) m c]).run P w=.ok g f/\f.ownsRow w.heap.size e size g (n+m) (b++d)/\G w f N:=by
 obtain⟨rfl,rfl⟩|⟨y,rfl,K⟩:=F
 have L:b=[]:=â;subst L;obtain⟨g,f,M,R,S,-,-⟩:=run_append_own_at (P:=P) w _ t ty e i z _ _ l hi p q r s C _ 0 [] (lI _ _ _ _) a m c _ hl A H h B (aP _);exact⟨g,f,M,R,S⟩
 subst q;subst r;have ak:n+m<=9223372036854775807:=by simp only[maxLen]at h;omega
 have T:(b++d).length=(n+m)*i.size:=by grind
 have V:=grownCap_ge w (n+m) n e;refine⟨_,_,(run_append_grow (P:=P) w t ty e i z l hi p y n n b x K a m c d hl A O O (growslice_fits O B)),⟨T,ψ ⟨_,_,_,Q,aP _,aM _ _,V,(grownCap_le_maxLen w _ n e h),?_,?_⟩⟩,⟨Q,Q,Q,Γ,λk W _=>fE _ _ k W⟩⟩
 simp only[Array.size_append,wR,size_zeroCells,s,x,hl,<-Nat.add_mul]
 congr 1;omega;grind
def dN(w:D)(a:Nat)(v:υ)(l:List Rg):Prop:=(∀r∈l,r.ok)/\w.ownsRow a 341 2 v l.length (cY l)
def dN.gb{w:D}{r:Option Nat}(h:dN w n x s)(g:G w W r)(a:x.ownBlock=N\/x.ownBlock≠r:=by simp):dN W n x s:=⟨h.1,h.2.kept g a⟩
def dN.ag(h:dN w n x s)(g:G w W N):dN W n x s:=h.gb g (by cases x.ownBlock<;>simp)
def dN.iL(h:dN w k (Y a n i) s):bq w a n i s/\∀x,a=E x->k<=x.block:=by
 let⟨d,r,f⟩:=h
 obtain⟨e,l⟩|⟨g,cap,cur,e,aa,m,p,hm,hs,q⟩:=f
 cases e;exact⟨⟨d,l.symm,Γ,by simp[maxLen],φ Q⟩,nofun⟩
 cases e;refine⟨⟨d,Q,p,hm,ψ ⟨g,0,Q,λj v c=>?_⟩⟩,λx b=>by cases b;exact aa⟩
 have t:=(rS.1 c).1;rw[<-q,tn,è]at c;simp only[κ,m,eM]
 simpa using c
def vh:(prog.info? 341).map (λi=>(i.zero,i.size,i.bytes))=E (E (ε #[I U 0,I U 0]),2,16):=Φ
def vn(l m:List Rg):cY (l++m)=cY l++cY m:=by simp[cY]
def xx(l:List Rg):∀u∈cY l,u.oneCell'=ρ:=by
 intro u a;simp only[cY,List.mem_flatMap,iD,uN,or_false]at a;obtain⟨y,-,rfl|rfl⟩:=a<;>rfl
def bq.front(h:bq w a n k s)(i:Nat)(hi:i<=n):bq w a i i (s.take i):=by
 let⟨f,l,m,p,c⟩:=h
 refine⟨λr g=>f r (jr g),by rw[dK];omega,aP _,O,?_⟩
 obtain c|⟨b,o,rfl,c⟩:=c
 omega;refine ψ ⟨b,o,Q,λj v d=>c j v ?_⟩;have e:cY s=cY (s.take i)++cY (s.drop i):=by rw[<-vn,qp]
 rw[e,qo (rS.1 d).1];exact d
def Ip(ty:TypeId)(a:Option Addr)(n:Nat)(l:List Rg)(hs:bq w a n n l)(b o c:Nat)(r:Rg)(q:r.ok)(h0:κ w ⟨b,o,N⟩=E (I U r.lo))(s:κ w ⟨b,o+1,N⟩=E (I U r.hi))(H:n<=100000000):
 ∃i k m e,(Builtin.append_ #[227,227] ty #[Y a n n,Y (E ⟨b,o,N⟩) 1 c]).run prog w=.ok (Y i k m) e/\dN e w.heap.size (Y i k m) (l++[r])/\G w e N:=by
 let⟨t,hi,v,x,z⟩:=kV vh
 have p:=hs.2.1;let⟨A,e,K,B,L⟩:=BW (P:=prog) w 227 ty 341 t (ε #[I U 0,I U 0]) 2 16 underlying227 hi v x z Q Θ (Y a n n) n (cY l) (by rw[sd,p]) (by
  obtain⟨-,-,-,-,f|⟨M,R,rfl,f⟩⟩:=hs;cases a with
  |none=>exact φ ⟨by rw[f],f⟩
  |some y=>
   refine ψ ⟨y,Q,λj u d=>?_⟩;have:l=[]:=â;subst this;simp[cY]at d
  exact ψ ⟨_,Q,λj u d=>by rw[Addr.add_mid];exact f j u d⟩) ⟨b,o,N⟩ 1 c (cY [r]) Θ Q (by
  intro j u d;rw[Addr.add_mid];match j,d with
  |0,d=>simp[cY]at d;rw[<-d];exact h0
  |1,d=>simp[cY]at d;rw[<-d];exact s) (xx _) (by simp[maxLen];omega) O
 have C:dN e w.heap.size A (l++[r]):=⟨λy F=>(b9.1 F).elim (hs.1 y) (λh=>by rw[eE.1 h];exact q),by rw[bS,vn,<-p];exact B⟩
 obtain⟨-,-,⟨rfl,e2⟩|⟨g,S,T,rfl,_⟩⟩:=id C;simp_all;grind
def BX(ty:TypeId)(h:Nat)(v:υ)(l:List Rg)(f:dN w h v l)(i:Option Addr)(nx k:Nat)(m:List Rg)(x:bq w i nx k m)(T:l.length+m.length<=100000000)(z:h<=w.heap.size):
 ∃a c d e,(Builtin.append_ #[227,227] ty #[v,Y i nx k]).run prog w=.ok (Y a c d) e/\dN e h (Y a c d) (l++m)/\G w e v.ownBlock/\((Y a c d).ownBlock=v.ownBlock\/(Y a c d).ownBlock=E w.heap.size):=by
 let⟨s,hi,A,B,C⟩:=kV vh
 let⟨F,n,V,W,p⟩:=x
 have key:∀y:Addr,i=E y->(∀j u,(cY m)[j]?=E u->κ w (y.add j)=E u)->∃a c d e,(Builtin.append_ #[227,227] ty #[v,Y i nx k]).run prog w=.ok (Y a c d) e/\dN e h (Y a c d) (l++m)/\G w e v.ownBlock/\((Y a c d).ownBlock=v.ownBlock\/(Y a c d).ownBlock=E w.heap.size):=λy q H=>by
  subst q;let⟨K,e,ai,L,h3,_,h4⟩:=run_append_own_at (P:=prog) w _ 227 ty 341 s _ 2 16 underlying227 hi A B C Q Θ v _ _ f.2 y nx k _ (by rw[sd,n]) H (xx _) (by simp[maxLen];omega) O z
  have M:dN e h K (l++m):=⟨λy q=>(b9.1 q).elim (f.1 y) (F y),by rw[bS,vn,<-n];exact L⟩
  obtain⟨-,-,⟨rfl,e2⟩|⟨g,R,S,rfl,_⟩⟩:=id M;grind;grind
 obtain rfl|⟨b,o,rfl,p⟩:=p
 have:m=[]:=â;subst this;obtain rfl:nx=0:=by simpa using n
 cases i with
 |some y=>exact key y Q (λj u r=>by simp[cY]at r)
 |none=>
  have t:=run_append_owned_none (P:=prog) _ _ 227 ty _ s 2 underlying227 hi v _ _ f.2;rw[qY];obtain⟨-,-,⟨rfl,e2⟩|⟨g,R,S,rfl,_⟩⟩:=id f;exact⟨_,_,_,w,t,f,au _ _,φ Q⟩
  exact⟨_,_,_,w,t,f,au _ _,φ Q⟩
 exact key _ Q (λj u r=>by rw[Addr.add_mid];exact p j u r)
def Iq(w:D)(ty:TypeId)(a:Option Addr)(n:Nat)(b:Option Addr)(c:Nat):(Builtin.append_ #[227,227] ty #[Y a n n,Y b 0 c]).run prog w=.ok (Y a n n) w:=by
 let⟨d,hi,e,f,g⟩:=kV vh
 cases a<;>cases b<;>simp[Builtin.append_,run_underlying underlying227,sizeOf,typeInfo,hi,Builtin.lenOf,Builtin.firstCells,loadCells,loadCellsFrom,storeCells]
def BY{o:Oper}{a:Act}{K:Act->D->Prop}{k:Exit->Act->D->Prop}(s x:Operand)
 (m:o.op=.call {callee:=.builtin .append,args:= #[s,x],argTypes:= #[227,227]})
 (j:Option Addr) (n:Nat) (l:List Rg) (hs:a.eval s=Y j n n) (hl:bq w j n n l) (b f c:Nat) (r:Rg) (p:r.ok) (q:a.eval x=Y (E ⟨b,f,N⟩) 1 c) (h0:κ w ⟨b,f,N⟩=E (I U r.lo)) (t:κ w ⟨b,f+1,N⟩=E (I U r.hi)) (u:n<=100000000)
 (h:∀e g i d,dN d w.heap.size (Y e g i) (l++[r])->G w d N->K (a.put o.dst (Y e g i)) d):Oper.wp prog o a w K k:=by
 let⟨e,g,i,d,v,y,z⟩:=Ip (w:=w) o.type j n l hl b f c r p h0 t u
 unfold Oper.wp execOp;simp only[m,resolve,invoke,builtin,jL,ny,jC,oh,kD,oq,hs,q,v]
 exact h e g i d y z
def Ir{g:Array Oper}{o:Oper}{a:Act}{K:Act->D->Prop}{m:Exit->Act->D->Prop}{p:Prop}(q:o.guard=N)(s x:Operand)
 (t:o.op=.call {callee:=.builtin .append,args:= #[s,x],argTypes:= #[227,227]})
 (d:Option Addr) (n:Nat) (l:List Rg) (hs:a.eval s=Y d n n) (hl:bq w d n n l) (b f c:Nat) (r:Rg) (u:r.ok) (v:a.eval x=Y (E ⟨b,f,N⟩) 1 c) (h0:κ w ⟨b,f,N⟩=E (I U r.lo)) (y:κ w ⟨b,f+1,N⟩=E (I U r.hi)) (z:n<=100000000)
 (h:∀i j k e,dN e w.heap.size (Y i j k) (l++[r])->G w e N->K (a.put o.dst (Y i j k)) e):if Region.wanted o (yielded g a.tmps)=ρ then Oper.wp prog o a w K m else p:=by
 have A:Region.wanted o (yielded g a.tmps)=ρ:=by simp[Region.wanted,q]
 rw[aH A];exact BY s x t d n l hs hl b f c r u v h0 y z h
def BZ{o:Oper}{a:Act}{K:Act->D->Prop}{j:Exit->Act->D->Prop}(s x:Operand)
 (k:o.op=.call {callee:=.builtin .append,args:= #[s,x],argTypes:= #[227,227]})
 (f:Nat) (v:υ) (l:List Rg) (hs:a.eval s=v) (n:dN w f v l) (g:Option Addr) (nx i:Nat) (m:List Rg) (p:a.eval x=Y g nx i) (q:bq w g nx i m) (r:l.length+m.length<=100000000) (t:f<=w.heap.size)
 (h:∀c d e b,dN b f (Y c d e) (l++m)->G w b v.ownBlock->K (a.put o.dst (Y c d e)) b):Oper.wp prog o a w K j:=by
 obtain⟨c,d,e,b,u,y,z,-⟩:=BX (w:=w) o.type _ v l n g nx i m q r t;unfold Oper.wp execOp;simp only[k,resolve,invoke,builtin,jL,ny,jC,oh,kD,oq,hs,p,u]
 exact h c d e b y z
def Is{f:Array Oper}{o:Oper}{a:Act}{K:Act->D->Prop}{k:Exit->Act->D->Prop}{n:Prop}(p:o.guard=N)(s x:Operand)
 (q:o.op=.call {callee:=.builtin .append,args:= #[s,x],argTypes:= #[227,227]})
 (b:Nat) (v:υ) (l:List Rg) (hs:a.eval s=v) (r:dN w b v l) (c:Option Addr) (nx d:Nat) (m:List Rg) (t:a.eval x=Y c nx d) (u:bq w c nx d m) (y:l.length+m.length<=100000000) (z:b<=w.heap.size)
 (h:∀g i j e,dN e b (Y g i j) (l++m)->G w e v.ownBlock->K (a.put o.dst (Y g i j)) e):if Region.wanted o (yielded f a.tmps)=ρ then Oper.wp prog o a w K k else n:=by
 have A:Region.wanted o (yielded f a.tmps)=ρ:=by simp[Region.wanted,p]
 rw[aH A];exact BZ s x q _ v l hs r c nx d m t u y z h
def Iu{m:Array Oper}{rest:List Oper}{o:Oper}{a:Act}{p:Exit->Act->D->Prop}(q:o.guard=N)(s x:Operand)
 (t:o.op=.call {callee:=.builtin .append,args:= #[s,x],argTypes:= #[227,227]})
 (j:Option Addr) (n:Nat) (l:List Rg) (hs:a.eval s=Y j n n) (hl:bq w j n n l) (b f c:Nat) (r:Rg) (u:r.ok) (v:a.eval x=Y (E ⟨b,f,N⟩) 1 c) (h0:κ w ⟨b,f,N⟩=E (I U r.lo)) (k:κ w ⟨b,f+1,N⟩=E (I U r.hi)) (y:n<=100000000)
 (h:∀e g i d,dN d w.heap.size (Y e g i) (l++[r])->G w d N->wpList prog m p rest (a.put o.dst (Y e g i)) d):wpList prog m p (o::rest) a w:=
 rY q λ_ z=>BY s x t j n l hs hl b f c r u v h0 k y λe g i d k A=>z _ _ (h e g i d k A)
def Iv{j:Array Oper}{rest:List Oper}{o:Oper}{a:Act}{k:Exit->Act->D->Prop}(n:o.guard=N)(s x:Operand)
 (p:o.op=.call {callee:=.builtin .append,args:= #[s,x],argTypes:= #[227,227]})
 (c:Nat) (v:υ) (l:List Rg) (hs:a.eval s=v) (q:dN w c v l) (g:Option Addr) (nx i:Nat) (m:List Rg) (r:a.eval x=Y g nx i) (t:bq w g nx i m) (u:l.length+m.length<=100000000) (y:c<=w.heap.size)
 (h:∀d e f b,dN b c (Y d e f) (l++m)->G w b v.ownBlock->wpList prog j k rest (a.put o.dst (Y d e f)) b):wpList prog j k (o::rest) a w:=
 rY n λ_ z=>BZ s x p c v l hs q g nx i m r t u y λd e f b A B=>z _ _ (h d e f b A B)
def Kept(w:D)(b:Nat)(a:Option Addr)(v:υ)(l:List Rg):Prop:=(∃n,v=Y a n n/\bq w a n n l)\/dN w b v l
def Iw(ty:TypeId)(t:Nat)(a:Option Addr)(v:υ)(l:List Rg)(T:Kept w t a v l)(p:Option Addr)(nx q:Nat)(m:List Rg)(H:bq w p nx q m)(V:l.length+m.length<=100000000)(K:t<=w.heap.size):
 ∃c d f i,(Builtin.append_ #[227,227] ty #[v,Y p nx q]).run prog w=.ok (Y c d f) i/\bq i c d f (l++m)/\(c=a\/∀y,c=E y->t<=y.block)/\∃r,G w i r/\∀k,r=E k->t<=k:=by
 obtain⟨n,rfl,hl⟩|L:=T
 let⟨W,hi,ai,ak,al⟩:=kV vh
 let⟨m1,M,m3,m4,m5⟩:=id H
 have R:=hl.2.1;by_cases h0:nx=0;subst h0;have:m=[]:=â;subst this;exact⟨a,n,n,w,(Iq w ty a n p q),by rw[qY];exact hl,φ Q,N,au _ _,nofun⟩
 obtain⟨b,o,rfl,m6⟩:∃b o,p=E ⟨b,o,N⟩/\w.rangeAt b o (cY m):=by
  obtain h|h:=m5
  omega;exact h
 let⟨S,i,A,x,B⟩:=BW (P:=prog) w 227 ty 341 W (ε #[I U 0,I U 0]) 2 16 underlying227 hi ai ak al Q Θ (Y a n n) n (cY l) (by rw[sd,R]) (by
  obtain⟨-,-,-,-,z|⟨b',o',rfl,z⟩⟩:=hl;cases a with
  |none=>exact φ ⟨by rw[z],z⟩
  |some y=>
   refine ψ ⟨y,Q,λj u s=>?_⟩;have:l=[]:=â;subst this;simp[cY]at s
  .exact ψ ⟨_,Q,λj u s=>by rw[Addr.add_mid];exact z j u s⟩) ⟨b,o,N⟩ nx q (cY m) O (by rw[sd,M]) (λj u s=>by rw[Addr.add_mid];exact m6 j u s) (xx _) (by simp[maxLen];omega) O
 have C:dN i w.heap.size S (l++m):=⟨λy F=>(b9.1 F).elim (hl.1 y) (m1 y),by rw[bS,vn,<-R,<-M];exact x⟩
 have key:∃c d f,S=Y c d f:=by
  obtain⟨-,-,⟨rfl,e2⟩|⟨g,a8,a9,rfl,_⟩⟩:=id C;simp_all;simp_all
 obtain⟨c,d,f,rfl⟩:=key;exact⟨c,d,f,i,A,C.iL.1,ψ (λy F=>bG K (C.iL.2 y F)),N,B,nofun⟩
 obtain⟨c,d,f,i,A,x,B,-⟩:=BX (w:=w) ty _ v l L p nx q m H V K;exact⟨c,d,f,i,A,x.iL.1,ψ x.iL.2,_,B,λk e=>(L.2.lt k e).1⟩
def bq.back{d:Option Addr}(h:bq w a n i s)(j:Nat)(p:j<=n)(f:i-j=0\/∃b o,a=E ⟨b,o,N⟩/\d=E ⟨b,o+j*2,N⟩):bq w d (n-j) (i-j) (s.drop j):=by
 let⟨g,q,t,u,c⟩:=h
 refine⟨λr l=>g r (iC l),by rw[fD];omega,O,O,?_⟩
 obtain f|⟨x,y,rfl,rfl⟩:=f
 omega;obtain c|⟨b,o,e,c⟩:=c
 omega;cases e;refine ψ ⟨_,_,Q,λk v m=>?_⟩;have e:cY s=cY (s.take j)++cY (s.drop j):=by rw[<-vn,qp]
 have hl:(cY (s.take j)).length=j*2:=by rw[sd,dK];congr 1;omega
 rw[pS];apply c (j*2+k) v;rw[e,ã,hl,sZ];exact m
def IJ(s:ByteArray)(n:Nat):((s.extract 0 n).data.map λb=>I Δ (b.toNat:Int))=(bv ((bl s).take n)).toArray:=by
 apply Array.ext';simp[bv,bl,ByteArray.data_extract,Function.comp_def]
def IK(s:ByteArray)(k:Nat):bl (s.extract k s.size)=(bl s).drop k:=by
 unfold bl;rw[ByteArray.data_extract,Array.toList_extract,List.extract_eq_take_drop,oe Γ,List.map_drop]
def IL{α:Type}(a b m:List α)(off n:Nat)(h:a.take n=b)(d:off+m.length<=n)(e:off<=a.length):(a.take off++(m++a.drop (off+m.length))).take n=splice b off m:=by
 subst h;unfold splice;have e1:(a.take off).length=off:=by rw[dK];omega
 have e2:(a.take off).take n=a.take off:=oe (by rw[e1];omega);have c:m.take (n-off)=m:=à;rw[List.take_take,Nat.min_eq_left O,List.drop_take,List.take_append,e2,e1,List.take_append,c,Nat.sub_sub]
def IM(ty:TypeId)(h g off n c a j:Nat)(l:List Int)(k:aS w h (Y (E ⟨g,0,N⟩) n c) l)(s:ByteArray)(B:off+((bl s).take a).length<=n):
 ∃d,(Builtin.copy_ #[112,9] ty #[Y (E ⟨g,off,N⟩) a j,ς s]).run prog w=.ok (goInt ((bl s).take a).length) d/\aS d h (Y (E ⟨g,0,N⟩) n c) (splice l off ((bl s).take a))/\G w d (E g):=by
 obtain⟨m,C,⟨h0,-⟩|⟨F,H,e,p,q,i,r,t,K,v⟩⟩:=k;cases h0;cases p;have L:Nat.min s.size a=((bl s).take a).length:=by rw[dK,iE,Nat.min_comm]
 have z:(bl s).take (Nat.min s.size a)=(bl s).take a:=by
  grind
 have M:=run_storeCells_at prog g off 5 (bv ((bl s).take a)) 0 e w i (by rw[gy];omega) (by
  intro u A;obtain⟨y,_,rfl⟩:=fu.1 A;rfl)
 have f:=length_splice _ _ _ O;refine⟨w.setRow g (e.toList.take (off+0)++bv ((bl s).take a)++e.toList.drop (off+0+(bv ((bl s).take a)).length)).toArray,?_,⟨?_,?_⟩,xj _ _ _⟩
 simp only[Builtin.copy_,Builtin.lenOf,Builtin.firstCells,IJ]
 have e1:bv ((bl s).take (min a (bl s).length))=bv ((bl s).take a):=by rw[<-z,iE,Nat.min_comm]
 simp_all;intro x b;unfold splice at b;obtain b|b:=b9.1 b
 exact m x (jr b);obtain b|b:=b9.1 b
 exact qw s x (jr b);grind;refine⟨by rw[gy,tx],ψ ⟨g,c,_,by rw[f],q,setRow_heap w g _ _ _ _ i,by rw[f];exact r,t,?_,?_⟩⟩
 simp only[wR,bS,dK,fD,uM,gy]
 grind;rw[f,BL,eF];exact IL _ _ _ _ _ v (by rw[gy];omega) (by rw[uM];omega)
def IN{i:Array Oper}{o:Oper}{a:Act}{K:Act->D->Prop}{k:Exit->Act->D->Prop}{m:Prop}(d s:Operand)
 (p:o.op=.call {callee:=.builtin .copy,args:= #[d,s],argTypes:= #[112,9]}) (q:o.guard=N)
 (f g off n c b j:Nat) (hd:a.eval d=Y (E ⟨g,off,N⟩) b j) (str:ByteArray) (hs:a.eval s=ς str)
 (l:List Int) (r:aS w f (Y (E ⟨g,0,N⟩) n c) l) (t:off+((bl str).take b).length<=n)
 (h:∀e,aS e f (Y (E ⟨g,0,N⟩) n c) (splice l off ((bl str).take b))->G w e (E g)->K (a.put o.dst (goInt ((bl str).take b).length)) e):
 if Region.wanted o (yielded i a.tmps)=ρ then Oper.wp prog o a w K k else m:=by
 have u:Region.wanted o (yielded i a.tmps)=ρ:=by simp[Region.wanted,q]
 rw[aH u];let⟨e,v,x,y⟩:=IM (w:=w) o.type f g off n c b j l r str t
 unfold Oper.wp execOp;simp only[p,resolve,invoke,builtin,jL,ny,jC,oh,kD,oq,hd,hs,v]
 exact h e x y
def lM:List Rg->Rg->List Rg
 |[],x=>[x]
 |r::l,x=>if r.hi<x.lo then r::lM l x else if x.hi<r.lo then x::r::l else lM l ⟨min r.lo x.lo,max r.hi x.hi⟩
def eu(l:List Rg)(x:Rg):List Rg:=if x.lo<x.hi then lM l x else l
def Cl(l:List Rg)(x:Rg)(h:bk l)(b:x.lo<x.hi)(n:Int):Sm (lM l x) n↔Sm l n\/(x.lo<=n/\n<x.hi):=by
 induction l generalizing x with
 |nil=>simp only[lM,eG];exact or_comm
 |cons r l a=>
  unfold lM;split;rw[eG,a x h.tail b,eG,or_assoc];split;rw[eG];exact or_comm;rw[a _ h.tail (by grind),eG];grind
def IP(l:List Rg)(x:Rg)(h:bk l)(d:x.lo<x.hi):bk (lM l x):=by
 induction l generalizing x with
 |nil=>exact bk.one d
 |cons r l f=>
  have i:=h.2 r Γ;unfold lM;split;have e:=f x h.tail d;refine⟨qW.2 ⟨λb c=>?_,e.1⟩,λy a=>?_⟩
  have:=(Cl l x h.tail d b.lo).1 ⟨b,c,fv _,e.2 b c⟩;obtain g|g:=this
  exact h.behind g;omega;obtain rfl|a:=iD.1 a
  exact i;exact e.2 y a;split;refine⟨qW.2 ⟨λb c=>?_,h.1⟩,λy a=>?_⟩
  obtain rfl|c:=iD.1 c
  assumption;have:=(qW.1 h.1).1 b c;omega;obtain rfl|a:=iD.1 a
  exact d;exact h.2 y a;exact f _ h.tail (by grind)
def oD(x:Rg)(h:bk s):bk (eu s x):=by
 unfold eu;split;exact IP s x h O;exact h
def kJ(x:Rg)(h:bk s)(n:Int):Sm (eu s x) n↔Sm s n\/(x.lo<=n/\n<x.hi):=by
 unfold eu;split;exact Cl s x h O n;grind
def xE{a:List Rg}{x:Rg}(h:bk s)(b:bk a)(e:∀n,Sm a n↔Sm s n\/(x.lo<=n/\n<x.hi)):a=eu s x:=
 b.unique (oD x h) (λn=>(e n).trans (kJ x h n).symm)
def IQ(l:List Rg)(x:Rg):(lM l x).length<=l.length+1:=by
 induction l generalizing x with
 |nil=>simp[lM]
 |cons r l a=>
  unfold lM;grind
def xF(l:List Rg)(x:Rg):(eu l x).length<=l.length+1:=by
 unfold eu;split;exact IQ l x;omega
def mU(l:List Rg)(x:Rg):List Rg:=l.flatMap λr=>(if r.lo<min r.hi x.lo then[⟨r.lo,min r.hi x.lo⟩]else[])++(if max r.lo x.hi<r.hi then[⟨max r.lo x.hi,r.hi⟩]else[])
def mV(l:List Rg)(x:Rg):List Rg:=if x.lo<x.hi then mU l x else l
def Cn(l:List Rg)(x:Rg)(n:Int):Sm (mU l x) n↔Sm l n/\¬(x.lo<=n/\n<x.hi):=by
 induction l with
 |nil=>exact⟨λh=>absurd h (ij n),λh=>absurd h.1 (ij n)⟩
 |cons r l a=>
  have e:mU (r::l) x=((if r.lo<min r.hi x.lo then[⟨r.lo,min r.hi x.lo⟩]else[])++(if max r.lo x.hi<r.hi then[⟨max r.lo x.hi,r.hi⟩]else[]))++mU l x:=rfl;rw[e,tD,tD,a,eG];have e1:Sm (if r.lo<min r.hi x.lo then[(⟨r.lo,min r.hi x.lo⟩:Rg)]else[]) n↔r.lo<=n/\n<r.hi/\n<x.lo:=by
   split;rw[eG];simp only[ij,or_false];omega;simp only[ij,false_iff];omega
  have e2:Sm (if max r.lo x.hi<r.hi then[(⟨max r.lo x.hi,r.hi⟩:Rg)]else[]) n↔r.lo<=n/\n<r.hi/\x.hi<=n:=by
   split;rw[eG];simp only[ij,or_false];omega;simp only[ij,false_iff];omega
  grind
def IS(l:List Rg)(x:Rg)(h:bk l)(m:x.lo<x.hi):bk (mU l x):=by
 induction l with
 |nil=>exact bk.nil
 |cons r l g=>
  have e:mU (r::l) x=((if r.lo<min r.hi x.lo then[⟨r.lo,min r.hi x.lo⟩]else[])++(if max r.lo x.hi<r.hi then[⟨max r.lo x.hi,r.hi⟩]else[]))++mU l x:=rfl;rw[e];have d:=g h.tail;have i:∀y∈(if r.lo<min r.hi x.lo then[(⟨r.lo,min r.hi x.lo⟩:Rg)]else[]),y.lo<y.hi/\y.hi<=r.hi/\y.hi<=x.lo:=λy j=>by
   grind
  have k:∀y∈(if max r.lo x.hi<r.hi then[(⟨max r.lo x.hi,r.hi⟩:Rg)]else[]),y.lo<y.hi/\y.hi<=r.hi/\x.hi<=y.lo:=λy j=>by
   grind
  refine bk.append (bk.append ?_ ?_ (λa f b c=>?_)) d (λa f b c=>?_);split;exact bk.one (by simp only;assumption);exact bk.nil;split;exact bk.one (by simp only;assumption);exact bk.nil;have:=i a f;have:=k b c;omega;have n:a.hi<=r.hi:=by
   grind
  have p:=h.behind (((Cn l x b.lo).1 ⟨b,c,fv _,d.2 b c⟩).1);omega
def vq(x:Rg)(h:bk s):bk (mV s x):=by
 unfold mV;split;exact IS s x h O;exact h
def zu(x:Rg)(n:Int):Sm (mV s x) n↔Sm s n/\¬(x.lo<=n/\n<x.hi):=by
 unfold mV;split;exact Cn s x n;grind
def IT{a:List Rg}{x:Rg}(h:bk s)(b:bk a)(e:∀n,Sm a n↔Sm s n/\¬(x.lo<=n/\n<x.hi)):a=mV s x:=
 b.unique (vq x h) (λn=>(e n).trans (zu x n).symm)
def kK(af:List Rg)(x:Rg):List Rg:=af.foldl mV (eu [] x)
def IU(af:List Rg):∀l,bk l->bk (af.foldl mV l):=by
 induction af with
 |nil=>exact λl h=>h
 |cons r c a=>exact λl h=>a _ (vq r h)
def IV(af:List Rg):∀l n,Sm (af.foldl mV l) n↔Sm l n/\¬Sm af n:=by
 induction af with
 |nil=>exact λl n=>⟨λh=>⟨h,ij n⟩,λh=>h.1⟩
 |cons r c a=>
  intro l n;rw[pd,a,zu,eG,and_assoc,<-not_or]
def vr(af:List Rg)(x:Rg):bk (kK af x):=IU af _ (oD x bk.nil)
def ry(af:List Rg)(x:Rg)(n:Int):Sm (kK af x) n↔(x.lo<=n/\n<x.hi)/\¬Sm af n:=by
 unfold kK;rw[IV,kJ x bk.nil];simp only[ij,false_or]
def Co{l:List Rg}{x:Rg}(h:bk l)(e:∀n,Sm l n↔(x.lo<=n/\n<x.hi)/\¬Sm s n):l=kK s x:=
 h.unique (vr s x) (λn=>(e n).trans (ry s x n).symm)
def pj(fr:Int)(b:List Int)(x:Rg):List Int:=b++List.replicate ((x.hi-fr).toNat-b.length) 0
def mW(fr off:Int)(d:List Int)(b:List Int)(x:Rg):List Int:=splice (pj fr b x) (x.lo-fr).toNat ((d.drop (x.lo-off).toNat).take (x.hi-x.lo).toNat)
def iP(fr off:Int)(d:List Int)(M:List Rg)(b:List Int):List Int:=M.foldl (mW fr off d) b
def xG(fr:Int)(b:List Int)(x:Rg):(pj fr b x).length=max b.length (x.hi-fr).toNat:=by
 simp only[pj,bS,List.length_replicate];omega
def Cp{x:Rg}(a:p<=x.lo)(b:q<=x.lo)(c:x.lo<=x.hi)(d:x.hi<=q+L.length):(mW p q L K x).length=max K.length (x.hi-p).toNat:=by
 unfold mW;rw[length_splice,xG];rw[xG,dK,fD];omega
def IW(fr off:Int)(d:List Int)(M:List Rg)(b:List Int)(j:Nat)(a:j<M.length):iP fr off d (M.take (j+1)) b=mW fr off d (iP fr off d (M.take j) b) (an M j):=by
 unfold iP;rw[oa a,wU];simp[an,List.getD,a]
def Kv(s:ByteArray):Lib.strCells s=bv (bl s):=by
 unfold Lib.strCells bv bl;simp_all
def Kw(ty:TypeId)(e:Nat)(v:υ)(l:List Int)(f:aS w e v l)(s:ByteArray)(H:l.length+s.size<=100000000)(t:e<=w.heap.size):
 ∃b h c d,(Builtin.append_ #[112,9] ty #[v,ς s]).run prog w=.ok (Y b h c) d/\aS d e (Y b h c) (l++bl s)/\G w d v.ownBlock/\((Y b h c).ownBlock=v.ownBlock\/(Y b h c).ownBlock=E w.heap.size):=by
 let⟨i,hi,j,k,m⟩:=kV zj
 let⟨n,d,p,q,K,u⟩:=Lib.run_append_own_string (P:=prog) w _ 112 9 ty 5 i underlying112 underlying9 hi j k m v _ _ f.2 s (by simp[maxLen];omega) O t
 have L:n.ownBlock=v.ownBlock\/n.ownBlock=E w.heap.size:=by
  obtain⟨-,hl,⟨rfl,M⟩|⟨g,r,R,rfl,S,x,T,V,z,W⟩⟩:=id f;by_cases A:s.size=0;rw[u.2 ⟨Q,A⟩];exact φ Q;have a:=run_append_nil_string (P:=prog) w 112 9 ty 5 i _ underlying112 underlying9 hi j s O O (by rw[m];omega);rw[p]at a;simp only[Result.ok.injEq]at a;rw[a.1];exact ψ Q;by_cases B:l.length+s.size<=r;have a:=Lib.run_append_room_string (P:=prog) w 112 9 ty 5 i underlying112 underlying9 hi k g _ _ _ x s B (by rw[z];omega);rw[p]at a;simp only[Result.ok.injEq]at a;rw[a.1];exact φ Q;have a:=Lib.run_append_grow_string (P:=prog) w 112 9 ty 5 i _ underlying112 underlying9 hi j _ l.length r _ (by rw[k,gy];omega) (f.2.cells (g:=g) Q) s O O (by rw[m];exact growslice_fits O O);rw[p]at a;simp only[Result.ok.injEq]at a;rw[a.1];exact ψ Q
 have C:aS d e n (l++bl s):=by
  refine⟨λy F=>(b9.1 F).elim (f.1 y) (qw s y),?_⟩
  rw[Kv]at q;rw[bS,iE];simpa [bv]using q
 let⟨b,c,hv,_⟩:=C.bs
 grind
def Db{o:Oper}{a:Act}{K:Act->D->Prop}{i:Exit->Act->D->Prop}(s x:Operand)
 (j:o.op=.call {callee:=.builtin .append,args:= #[s,x],argTypes:= #[112,9]})
 (g:Nat) (v:υ) (l:List Int) (hs:a.eval s=v) (k:aS w g v l) (d:ByteArray) (m:a.eval x=ς d) (n:l.length+d.size<=100000000) (p:g<=w.heap.size)
 (h:∀b c e f,aS f g (Y b c e) (l++bl d)->G w f v.ownBlock->((Y b c e).ownBlock=v.ownBlock\/(Y b c e).ownBlock=E w.heap.size)->
   K (a.put o.dst (Y b c e)) f):Oper.wp prog o a w K i:=by
 let⟨b,c,e,f,q,r,t,u⟩:=Kw (w:=w) o.type _ v l k d n p
 unfold Oper.wp execOp;simp only[j,resolve,invoke,builtin,jL,ny,jC,oh,kD,oq,hs,m,q]
 exact h b c _ f r t u
def Dc{i:Array Oper}{rest:List Oper}{o:Oper}{a:Act}{j:Exit->Act->D->Prop}(k:o.guard=N)(s x:Operand)
 (m:o.op=.call {callee:=.builtin .append,args:= #[s,x],argTypes:= #[112,9]})
 (g:Nat) (v:υ) (l:List Int) (hs:a.eval s=v) (n:aS w g v l) (d:ByteArray) (p:a.eval x=ς d) (q:l.length+d.size<=100000000) (r:g<=w.heap.size)
 (h:∀b c e f,aS f g (Y b c e) (l++bl d)->G w f v.ownBlock->((Y b c e).ownBlock=v.ownBlock\/(Y b c e).ownBlock=E w.heap.size)->
   wpList prog i j rest (a.put o.dst (Y b c e)) f):wpList prog i j (o::rest) a w:=
 rY k λ_ t=>Db s x m g v l hs n d p q r λb c e f u y z=>t _ _ (h b c e f u y z)
def Kx{i:Array Oper}{o:Oper}{a:Act}{K:Act->D->Prop}{j:Exit->Act->D->Prop}{k:Prop}(m:o.guard=N)(s x:Operand)
 (n:o.op=.call {callee:=.builtin .append,args:= #[s,x],argTypes:= #[112,9]})
 (f:Nat) (v:υ) (l:List Int) (hs:a.eval s=v) (p:aS w f v l) (d:ByteArray) (q:a.eval x=ς d) (r:l.length+d.size<=100000000) (t:f<=w.heap.size)
 (h:∀b c e g,aS g f (Y b c e) (l++bl d)->G w g v.ownBlock->((Y b c e).ownBlock=v.ownBlock\/(Y b c e).ownBlock=E w.heap.size)->
   K (a.put o.dst (Y b c e)) g):if Region.wanted o (yielded i a.tmps)=ρ then Oper.wp prog o a w K j else k:=by
 have u:Region.wanted o (yielded i a.tmps)=ρ:=by simp[Region.wanted,m]
 rw[aH u];exact Db s x n _ v l hs p d q r t h
def sW:υ:=.func (.func 265) #[] #[]
def sR:υ:=.func (.func 267) #[] #[]
def rW:υ:=.func (.func 269) #[] #[]
def rR:υ:=.func (.func 270) #[] #[]
def bW:υ:=.func (.func 272) #[] #[]
def bR:υ:=.func (.func 273) #[] #[]
def nW(B:Nat):υ:=.func (.func 275) #[] #[π (E ⟨B,0,N⟩)]
def nR(B:Nat):υ:=.func (.func 276) #[] #[π (E ⟨B,0,N⟩)]
def vD(a:Fn)(first b:Array υ)(w:D):(Instr.makeFunc a first b).run prog w=.ok (.func a first b) w:=rfl
def KG(w:D):Calls prog 226 #[] w λe a=>e=ξ (ε #[.func (.func 265) #[] #[],.func (.func 267) #[] #[]])/\G w a N:=by
 have b:=vD;go_enter func226,ntmps226;go_wp2_with fail;refine cC (v:=ε #[.func (.func 265) #[] #[],.func (.func 267) #[] #[]]) ?_ Q ⟨Q,?_⟩
 .simp[results,results226,go_sem]
 exact aC _ _ _
def KH(w:D):Calls prog 227 #[] w λe a=>e=ξ (ε #[.func (.func 269) #[] #[],.func (.func 270) #[] #[]])/\G w a N:=by
 have b:=vD;go_enter func227,ntmps227;go_wp2_with fail;refine cC (v:=ε #[.func (.func 269) #[] #[],.func (.func 270) #[] #[]]) ?_ Q ⟨Q,?_⟩
 .simp[results,results227,go_sem]
 exact aC _ _ _
def KI(w:D):Calls prog 228 #[] w λe a=>e=ξ (ε #[.func (.func 272) #[] #[],.func (.func 273) #[] #[]])/\G w a N:=by
 have b:=vD;go_enter func228,ntmps228;go_wp2_with fail;refine cC (v:=ε #[.func (.func 272) #[] #[],.func (.func 273) #[] #[]]) ?_ Q ⟨Q,?_⟩
 .simp[results,results228,go_sem]
 exact aC _ _ _
def Dk(F B:Nat)(w:D)(b:B=w.heap.size):Calls prog 229 #[.func (.func F) #[] #[]] w λe a=>e=ξ (ε #[.func (.func 275) #[] #[π (E ⟨B,0,N⟩)],.func (.func 276) #[] #[π (E ⟨B,0,N⟩)]])/\κ a ⟨B,0,N⟩=E (.func (.func F) #[] #[])/\G w a N:=by
 subst b;have c:=vD;go_enter func229,ntmps229;go_wp2_with fail;refine cC (v:=ε #[.func (.func 275) #[] #[π (E ⟨w.heap.size,0,N⟩)],.func (.func 276) #[] #[π (E ⟨w.heap.size,0,N⟩)]]) ?_ Q ⟨Q,?_,?_⟩
 .simp[results,results229,go_sem]
 simp;exact aW (aC _ _ _) _
def Dl(a b c d e:Nat):List υ:=
 [I X 1,β θ,I Δ 0,Y N 0 0,I X 2,β θ,I Δ 1,Y N 0 0,I X 3,β θ,I Δ 2,Y (E ⟨a,0,N⟩) 1 1,I X 4,β θ,I Δ 4,Y (E ⟨b,0,N⟩) 3 3,I X 5,β θ,I Δ 8,Y (E ⟨c,0,N⟩) 3 3,I X 5,β ρ,I Δ 9,Y (E ⟨d,0,N⟩) 3 3,I X 6,β θ,I Δ 28,Y (E ⟨e,0,N⟩) 1 1]
structure kr(W:D)(T c d e f g a b:Nat):Prop where
 tab:W.rangeAt T 0 (Dl c d e f g)
 p2:W.rangeAt c 0 [rW,rR]
 p3:W.rangeAt d 0 [sW,sR,nW b,nR b,nW a,nR a]
 p4:W.rangeAt e 0 [sW,sR,nW a,nR a,bW,bR]
 p5:W.rangeAt f 0 [sW,sR,nW a,nR a,bW,bR]
 p6:W.rangeAt g 0 [nW b,nR b]
 bo:κ W ⟨a,0,N⟩=E (.func (.func 230) #[] #[])
 bc:κ W ⟨b,0,N⟩=E (.func (.func 231) #[] #[])
def kr.ag(h:kr w n k i j l m o b)(g:G w W N):kr W n k i j l m o b:=
 ⟨jE h.tab g Γ,jE h.p2 g Γ,jE h.p3 g Γ,jE h.p4 g Γ,jE h.p5 g Γ,jE h.p6 g Γ,ì g h.bo,ì g h.bc⟩
def KJ(w:D)(g a b c d e f:Obj)(W:D)(h:W=((((((w.alloc g).alloc a).alloc b).alloc c).alloc d).alloc e).alloc f):
 W.heap[w.heap.size+1]?=E a/\W.heap[w.heap.size+1+1]?=E b/\W.heap[w.heap.size+1+1+1]?=E c/\W.heap[w.heap.size+1+1+1+1]?=E d/\W.heap[w.heap.size+1+1+1+1+1]?=E e/\W.heap[w.heap.size+1+1+1+1+1+1]?=E f/\G w W N:=by
 subst h;refine⟨?_,?_,?_,?_,?_,?_,aW (aW (aW (aW (aW (aW (aC _ _ _) _) _) _) _) _) _⟩
 all_goals
  simp only[World.alloc,Array.getElem?_push,Array.size_push]
  repeat(first|rw[aH trivial]|rw[è]|rw[ê])
def Dm(w:D):Calls prog 189 #[] w λe v=>∃T F H K L M P R,e=ξ (Y (E ⟨T,0,N⟩) 7 7)/\kr v T F H K L M P R/\G w v N:=by
 go_enter func189,ntmps189;go_wp2_with fail;apply(KG _).mono;rintro e w1⟨rfl,x⟩;go_wp2_with fail;apply(KH _).mono;rintro e w2⟨rfl,y⟩;go_wp2_with fail;apply(KI _).mono;rintro e m⟨rfl,z⟩;go_wp2_with fail;obtain⟨A,j⟩:=í m.heap.size;obtain⟨c,d⟩:=í ((((m.alloc (ο #[.func (.func 265) #[] #[],.func (.func 267) #[] #[]] 356)).alloc (ο #[.func (.func 269) #[] #[],.func (.func 270) #[] #[]] 356)).alloc (ο #[.func (.func 272) #[] #[],.func (.func 273) #[] #[]] 356)));have n:c.heap[A]?=E (ο #[.func (.func 265) #[] #[],.func (.func 267) #[] #[]] 356 (0,0))/\c.heap[A+1]?=E (ο #[.func (.func 269) #[] #[],.func (.func 270) #[] #[]] 356 (0,0))/\c.heap[A+1+1]?=E (ο #[.func (.func 272) #[] #[],.func (.func 273) #[] #[]] 356 (0,0)):=by
  rw[d,j];refine⟨?_,?_,?_⟩
  rw[fE _ _ _ Ψ,fE _ _ _ Γ];exact aM _ _;rw[fE _ _ _ Γ,<-dJ m (ο #[.func (.func 265) #[] #[],.func (.func 267) #[] #[]] 356)];exact aM _ _;have:=aM ((m.alloc (ο #[.func (.func 265) #[] #[],.func (.func 267) #[] #[]] 356)).alloc (ο #[.func (.func 269) #[] #[],.func (.func 270) #[] #[]] 356)) (ο #[.func (.func 272) #[] #[],.func (.func 273) #[] #[]] 356);rwa[dJ,dJ]at this
 have S:c.heap.size=A+3:=by rw[d,j];simp
 have B:G w c N:=by rw[d];exact aW (aW (aW (aq (aq x y) z) _) _) _
 rw[<-d];simp only[<-j]
 replace⟨d,j,n⟩:=cA d j n;clear x y z;apply(Dk 230 (A+3) c S.symm).mono;rintro e f⟨rfl,c4,p⟩;have bw:=p.size;replace c4:=J c4;go_wp2_with fail;obtain⟨r,h⟩:=í (f.alloc (ο #[.func (.func 275) #[] #[π (E ⟨A+3,0,N⟩)],.func (.func 276) #[] #[π (E ⟨A+3,0,N⟩)]] 356));have s:r.heap[f.heap.size]?=E (ο #[.func (.func 275) #[] #[π (E ⟨A+3,0,N⟩)],.func (.func 276) #[] #[π (E ⟨A+3,0,N⟩)]] 356 (0,0)):=by rw[h];exact aM _ _
 have t:G f r N:=by rw[h];exact aC _ _ _
 have V:r.heap.size=f.heap.size+1:=by rw[h];simp
 rw[<-h];replace⟨h,s⟩:=aT h s;apply(Dk 231 (f.heap.size+1) r V.symm).mono;rintro e a⟨rfl,c5,i⟩;have bx:=i.size;replace c5:=J c5;obtain⟨b,hD⟩:=í f.heap.size;simp only[<-hD]at *;have k:Hid (∀W,G a W N->W.heap[A]?=E (ο #[.func (.func 265) #[] #[],.func (.func 267) #[] #[]] 356 (0,0))/\W.heap[A+1]?=E (ο #[.func (.func 269) #[] #[],.func (.func 270) #[] #[]] 356 (0,0))/\W.heap[A+1+1]?=E (ο #[.func (.func 272) #[] #[],.func (.func 273) #[] #[]] 356 (0,0))/\W.heap[b]?=E (ο #[.func (.func 275) #[] #[π (E ⟨A+3,0,N⟩)],.func (.func 276) #[] #[π (E ⟨A+3,0,N⟩)]] 356 (0,0))/\κ W ⟨A+3,0,N⟩=E (.func (.func 230) #[] #[])/\κ W ⟨b+1,0,N⟩=E (.func (.func 231) #[] #[])):=J (λW g=>by
  have q:=aq (aq (aq p t) i) g;have q2:=aq i g;obtain⟨y1,y2,y3⟩:=Z n;exact⟨(q.block A O Γ).trans y1,(q.block (A+1) O Γ).trans y2,(q.block (A+1+1) O Γ).trans y3,(q2.block b O Γ).trans (Z s),(aq (aq t i) g).cell (Z c4) Γ,ì g (Z c5)⟩)
 have u:G w a N:=aq (aq (aq B p) t) i;clear n s c4 c5 p t i B;replace u:=J u;have a0:Hid (∀W,(a.alloc (ο #[.func (.func 275) #[] #[π (E ⟨b+1,0,N⟩)],.func (.func 276) #[] #[π (E ⟨b+1,0,N⟩)]] 356)).grownBy W N->W.heap[a.heap.size]?=E (ο #[.func (.func 275) #[] #[π (E ⟨b+1,0,N⟩)],.func (.func 276) #[] #[π (E ⟨b+1,0,N⟩)]] 356 (0,0))):=J (λW g=>(g.block a.heap.size Γ Γ).trans (aM _ _));have l:Hid ((prog.info? 356).map (·.size)=E 2):=J Φ;go_wp2_with (first
  |(refine pR Ξ 356 _ Ξ A Ξ 356 _ (0,0) _ ((Z k _ ?_).1) underlying356 Ξ (Z l) ?_;(repeat(first|exact au _ _|refine aW ?_ _)))
  |(refine pR Ξ 356 _ Ξ (A+1) Ξ 356 _ (0,0) _ ((Z k _ ?_).2.1) underlying356 Ξ (Z l) ?_;(repeat(first|exact au _ _|refine aW ?_ _)))
  |(refine pR Ξ 356 _ Ξ (A+1+1) Ξ 356 _ (0,0) _ ((Z k _ ?_).2.2.1) underlying356 Ξ (Z l) ?_;(repeat(first|exact au _ _|refine aW ?_ _)))
  |(refine pR Ξ 356 _ Ξ b Ξ 356 _ (0,0) _ ((Z k _ ?_).2.2.2.1) underlying356 Ξ (Z l) ?_;(repeat(first|exact au _ _|refine aW ?_ _)))
  |(refine pR Ξ 356 _ Ξ a.heap.size Ξ 356 _ (0,0) _ (Z a0 _ ?_) underlying356 Ξ (Z l) ?_;(repeat(first|exact au _ _|refine aW ?_ _))))
 go_ret;obtain⟨h1,h2,h3,h4,h5,h6,C⟩:=KJ a _ _ _ _ _ _ _ _ Q;obtain⟨-,-,-,-,bb,bj⟩:=Z k _ C;exact⟨_,a.heap.size+1,a.heap.size+1+1,a.heap.size+1+1+1,a.heap.size+1+1+1+1,a.heap.size+1+1+1+1+1,A+3,b+1,Q,⟨mj h6,mj h1,mj h2,mj h3,mj h4,mj h5,bb,bj⟩,aq (Z u) C⟩
def aa(n:Int)(i:Nat):Int:=n/2^(56-8*i) %256
def eA(n:Int):List Int:=[aa n 0,aa n 1,aa n 2,aa n 3,aa n 4,aa n 5,aa n 6,aa n 7]
def vK(n:Int)(i:Nat):W8 (aa n i):=by unfold aa W8;omega
def qc(n:Int):∀x∈eA n,W8 x:=by
 intro x a;simp only[eA,iD,uN,or_false]at a;obtain rfl|rfl|rfl|rfl|rfl|rfl|rfl|rfl:=a<;>exact vK _ _
def gF(n:Int):(eA n).length=8:=rfl
def LP(n:Int)(j:Nat)(h:j<8):(eA n).take (j+1)=(eA n).take j++[aa n j]:=by
 match j,h with
 |0,_|1,_|2,_|3,_|4,_|5,_|6,_|7,_=>rfl
def vL(b:Nat)(a:Option Addr)(c:Nat)(l:List Int)(n:Int)(w:D)(q:aS w b (Y a l.length c) l)(r:aZ n)(z:b<=w.heap.size)(hl:l.length<=10000000):
 Calls prog 109 #[Y a l.length c,I U n] w λe m=>
  ∃d f,e=ξ (Y d (l.length+8) f)/\aS m b (Y d (l.length+8) f) (l++eA n)/\Below b w m:=by
 let⟨n0,A⟩:=r
 go_enter func109,ntmps109;go_wp2;go_loopw [0,5] (λv i wr=>∃(j:Nat)(d:Option Addr)(f:Nat),j<=8/\i=I X (56-8*(j:Int))/\v=Y d (l.length+j) f/\aS wr b v (l++(eA n).take j)/\Below b w wr) (λ_ i _=>(intOf i+8).toNat);case atStart=>exact⟨0,a,c,O,Q,Q,by simpa using q,rm _ _⟩
 case round=>
  obtain⟨j,d,f,B,rfl,rfl,p,b1⟩:=hrel;by_cases s:j<8
  .have hd:aa n j=n/2^(56-8*j) %256:=rfl;have hs:=b1.size;have h:=ph wr _ (vK n j);have g:aS (wr.alloc (ο #[I Δ (aa n j)] 5)) b (Y d (l.length+j) f) (l++(eA n).take j):=p.ag (aC _ _ _);have t:=J (LP n j s);rw[hd]at h g;replace⟨h,g⟩:=aT h g;have k:(l++(eA n).take j).length=l.length+j:=by simp[gF];omega
   replace k:=J k;go_wp2_with (at_builtin;refine jt Ξ _ _ Ξ b _ (l++(eA n).take j) Ξ (Z g) _ _ _ [n/2^(56-8*j) %256] Ξ (Z h) ?_ ?_ ?_;(rw[Z k];simp;omega);(simp;omega);rw[Z k];intro u c3 C x y _);go_roundw;case rel=>
    refine⟨j+1,u,c3,O,Ψ,Q,?_,?_⟩
    rw[Z t,<-eF];exact x;exact pV (b1.alloc O _) (Z g) y Ψ (aP _)
   case measure=>simp[intOf];omega
  obtain rfl:j=8:=O;go_wp2;go_ret;exact⟨d,f,Q,p,b1⟩
def LQ(w:D)(l:List Int)(hl:∀x∈l,W8 x)(c:l.length<=1000)(a:Nat)(b:a<=w.heap.size):aS (w.alloc (ο (bv l).toArray 5)) a (Y (E ⟨w.heap.size,0,N⟩) l.length l.length) l:=by
 refine⟨hl,by simp[bv],ψ ⟨w.heap.size,l.length,(bv l).toArray,Q,b,aM w _,aP _,by simp[maxLen];omega,by simp[bv],?_⟩⟩
 exact oe (by simp[bv])
def tZ(n:Int):(bv (eA n)).toArray= #[I Δ (aa n 0),I Δ (aa n 1),I Δ (aa n 2),I Δ (aa n 3),I Δ (aa n 4),I Δ (aa n 5),I Δ (aa n 6),I Δ (aa n 7)]:=rfl
def ua:Array υ:= #[I Δ 0,I Δ 0,I Δ 0,I Δ 0,I Δ 0,I Δ 0,I Δ 0,I Δ 0]
def yd(n:Int)(w:D)(a:aZ n):Calls prog 194 #[I U n] w λe b=>e=ξ (ε (bv (eA n)).toArray)/\G w b N:=by
 let⟨n0,c⟩:=a
 rw[tZ];go_enter func194,ntmps194;go_wp2_with fail;apply uQ 9;iterate 8 (rw[rj];go_wp2_with fail)
 rw[rj];go_wp2_with fail;refine cC (v:=ε #[I Δ (aa n 0),I Δ (aa n 1),I Δ (aa n 2),I Δ (aa n 3),I Δ (aa n 4),I Δ (aa n 5),I Δ (aa n 6),I Δ (aa n 7)]) ?_ Q ⟨Q,?_⟩
 .simp[results,results194,go_sem,aa];omega
 exact aW (aW (au _ _) _) _
def sw{a c d e f:υ}(h:w.heap[b]?=E (ο #[x,y,z,a,c,d,e,f] T (0,0))):(κ w ⟨b,0,N⟩=E x/\κ w ⟨b,1,N⟩=E y/\κ w ⟨b,2,N⟩=E z/\κ w ⟨b,3,N⟩=E a/\κ w ⟨b,4,N⟩=E c/\κ w ⟨b,5,N⟩=E d/\κ w ⟨b,6,N⟩=E e/\κ w ⟨b,7,N⟩=E f)/\∀o,χ w ⟨b,o,N⟩=θ:=by
 simp[κ,χ,h]
def Ap(h:L.length=8):∃a b c d e f g i,L=[a,b,c,d,e,f,g,i]:=by
 match L,h with
 |[a,b,c,d,e,f,g,i],_=>exact⟨a,b,c,d,e,f,g,i,Q⟩
def LR(a:((w.alloc (ο #[I Δ 0,I Δ 0,I Δ 0,I Δ 0,I Δ 0,I Δ 0,I Δ 0,I Δ 0] 300)).alloc (ο #[I Δ 0,I Δ 0,I Δ 0,I Δ 0,I Δ 0,I Δ 0,I Δ 0,I Δ 0] 300)).grownBy W (E (w.heap.size+1))):
 W.heap[w.heap.size]?=E (ο #[I Δ 0,I Δ 0,I Δ 0,I Δ 0,I Δ 0,I Δ 0,I Δ 0,I Δ 0] 300 (0,0)):=by
 refine(a.block w.heap.size Ψ Γ).trans ?_;rw[fE _ _ _ Γ];exact aM _ _
def DY(a:Option Addr)(n c:Nat)(l:List Int)(w:D)(t:bD w a n c l)(hl:8<=l.length):Calls prog 170 #[Y a n c] w λe u=>e=ξ (ε (bv (l.take 8)).toArray)/\G w u N:=by
 have f:=aM (w.alloc (ο ua 300)) (ο ua 300);rw[dJ]at f;have x:((w.alloc (ο ua 300)).alloc (ο ua 300)).heap[w.heap.size+1]?=E (ο (bv [0,0,0,0,0,0,0,0]).toArray 300 (0,0)):=f;have y:(l.take 8).length=8:=Ψ;let⟨g,h,i,k,m,p,q,r,b⟩:=Ap y
 rw[b];replace b:=J b;go_enter func170,ntmps170;go_wp2_with (refine uY _ _ Ξ Ξ (w.heap.size+1) 0 8 8 Ξ _ _ _ Ξ l (Z (J (t.ag (aW (aW (au w N) (ο ua 300)) (ο ua 300))))) [0,0,0,0,0,0,0,0] _ (Z x) ?_ ?_;(rw[Z b];simp);(rw[Z b];intro z d s;replace d:z.heap[w.heap.size+1]?=E (ο #[I Δ g,I Δ h,I Δ i,I Δ k,I Δ m,I Δ p,I Δ q,I Δ r] 300 (0,0)):=d;replace d:=sw d;have A:=sw (LR s);let⟨⟨C,F,H,k3,k4,k5,K,L⟩,M⟩:=d;let⟨⟨P,R,z2,S,T,V,W,z7⟩,zf⟩:=A));refine cC (v:=ε #[I Δ g,I Δ h,I Δ i,I Δ k,I Δ m,I Δ p,I Δ q,I Δ r]) ?_ Q ⟨Q,?_⟩
 .simp[results,results170,go_sem, *]
 have B:=cO (aW (aW (au w N) _) _) s (λj e=>by cases e;left;omega);repeat(refine aD ?_ _ _ (φ (aP _)))
 exact B
def iu(l:List Int):Int:=l.foldl (λn x=>n*256+x) 0
def LS(l:List Int)(x:Int):iu (l++[x])=iu l*256+x:=by simp[iu]
def Aq(l:List Int)(j:Nat)(h:j<l.length):iu (l.take (j+1))=iu (l.take j)*256+l.getD j 0:=by
 rw[oa h,LS,uH,dB h];rfl
def sx(l:List Int)(h:∀x∈l,W8 x):∀j,j<=l.length->0<=iu (l.take j)/\iu (l.take j)<256^j
 |0,_=>by simp[iu]
 |j+1,b=>by
  have c:=sx l h j O;have a:=mR h j;unfold W8 at a;rw[Aq l j O,Int.pow_succ];generalize (256:Int)^j=p at *;omega
def LU(n x:Int)(h0:0<=n)(d:n<72057594037927936)(a:W8 x):bits .or U (n*256) x=n*256+x:=by
 let⟨c,f⟩:=a
 obtain⟨m,rfl⟩:=qV h0;obtain⟨y,rfl⟩:=qV c;have e:((m:Int)*256)=((m*256:Nat):Int):=O;rw[e,u64_or_nat _ _ O O];have:=zd (i:=8) (b:=y) O m;rw[Nat.shiftLeft_eq]at this;grind
def LV(a b c d e f g h:Int)(w:D):(Instr.index 300 (ε #[I Δ a,I Δ b,I Δ c,I Δ d,I Δ e,I Δ f,I Δ g,I Δ h]) (I X 0)).run prog w=.ok (I Δ a) w:=Φ
def LW(b a c d e f g h:Int)(w:D):(Instr.index 300 (ε #[I Δ b,I Δ a,I Δ c,I Δ d,I Δ e,I Δ f,I Δ g,I Δ h]) (I X 1)).run prog w=.ok (I Δ a) w:=Φ
def LY(b c a d e f g h:Int)(w:D):(Instr.index 300 (ε #[I Δ b,I Δ c,I Δ a,I Δ d,I Δ e,I Δ f,I Δ g,I Δ h]) (I X 2)).run prog w=.ok (I Δ a) w:=Φ
def LZ(b c d a e f g h:Int)(w:D):(Instr.index 300 (ε #[I Δ b,I Δ c,I Δ d,I Δ a,I Δ e,I Δ f,I Δ g,I Δ h]) (I X 3)).run prog w=.ok (I Δ a) w:=Φ
def L3(b c d e a f g h:Int)(w:D):(Instr.index 300 (ε #[I Δ b,I Δ c,I Δ d,I Δ e,I Δ a,I Δ f,I Δ g,I Δ h]) (I X 4)).run prog w=.ok (I Δ a) w:=Φ
def L6(b c d e f a g h:Int)(w:D):(Instr.index 300 (ε #[I Δ b,I Δ c,I Δ d,I Δ e,I Δ f,I Δ a,I Δ g,I Δ h]) (I X 5)).run prog w=.ok (I Δ a) w:=Φ
def L8(b c d e f g a h:Int)(w:D):(Instr.index 300 (ε #[I Δ b,I Δ c,I Δ d,I Δ e,I Δ f,I Δ g,I Δ a,I Δ h]) (I X 6)).run prog w=.ok (I Δ a) w:=Φ
def L9(b c d e f g h a:Int)(w:D):(Instr.index 300 (ε #[I Δ b,I Δ c,I Δ d,I Δ e,I Δ f,I Δ g,I Δ h,I Δ a]) (I X 7)).run prog w=.ok (I Δ a) w:=Φ
def DZ(a b c d e f g h:Int)(j:Nat)(i:j<8)(w:D):(Instr.index 300 (ε #[I Δ a,I Δ b,I Δ c,I Δ d,I Δ e,I Δ f,I Δ g,I Δ h]) (I X j)).run prog w=.ok (I Δ ([a,b,c,d,e,f,g,h].getD j 0)) w:=by
 have:j=0\/j=1\/j=2\/j=3\/j=4\/j=5\/j=6\/j=7:=O;obtain rfl|rfl|rfl|rfl|rfl|rfl|rfl|rfl:=this
 exact LV _ _ _ _ _ _ _ _ w;exact LW _ _ _ _ _ _ _ _ w;exact LY _ _ _ _ _ _ _ _ w;exact LZ _ _ _ _ _ _ _ _ w;exact L3 _ _ _ _ _ _ _ _ w;exact L6 _ _ _ _ _ _ _ _ w;exact L8 _ _ _ _ _ _ _ _ w;exact L9 _ _ _ _ _ _ _ _ w
def Ma(l:List Int)(w:D)(g:l.length=8)(h:∀x∈l,W8 x):Calls prog 171 #[ε (bv l).toArray] w λe s=>e=ξ (I U (iu l))/\G w s N:=by
 have hi:∀(j:Nat)(w:D),j<8->(Instr.index 300 (ε (bv l).toArray) (I X j)).run prog w=.ok (I Δ (l.getD j 0)) w:=by
  obtain⟨t,u,A,B,C,F,H,L,rfl⟩:=Ap g;exact λj w k=>DZ _ _ _ _ _ _ _ _ j k w
 have a:=sx l h;have b:=Aq l;have c:iu l=iu (l.take 8):=by rw[à]
 have d:=mR h;have p:(bv l).toArray.size=8:=by simp[bv,g]
 obtain⟨K,f⟩:=í ((bv l).toArray);rw[<-f]at p⊢;simp only[<-f]at hi;clear f;replace⟨c,b,a,d,hi⟩:=gT c b a d hi;go_enter func171,ntmps171;go_wp2_with (refine pR Ξ 300 _ Ξ w.heap.size Ξ 300 K (0,0) _ ?_ underlying300 Ξ ?_ ?_;exact aM _ _;(rw[p];kernel_rfl));go_loop [3,7] (λn i=>∃j:Nat,j<=8/\i=I X j/\n=I U (iu (l.take j))) (λ_ i=>8-(intOf i).toNat);case atStart=>exact⟨0,O,Q,Q⟩
 case round=>
  obtain⟨j,k,rfl,rfl⟩:=hrel;by_cases v:j<8
  .have M:=λW=>Z hi j W v
   have q:=Z d j;have r:=Z a j O;have y:=J (Z b j O);have hp:(256:Int)^j<=72057594037927936:=by
    have:(256:Nat)^j<=256^7:=uJ Θ O;have e:(256:Int)^j=((256^j:Nat):Int):=Γ;rw[e];omega
   have z:=J (LU _ _ r.1 O q);let⟨t,u⟩:=q
   let⟨P,R⟩:=r
   generalize l.getD j 0=x at *;generalize iu (l.take j)=m at *;go_wp2;go_round;case rel=>exact⟨j+1,O,by go_num,by rw[Z z,<-Z y]⟩
   case measure=>simp[intOf];omega
  obtain rfl:j=8:=O;go_wp2;go_ret;exact⟨by rw[Z c];rfl,aW (au _ _) _⟩
def yX(A C:List Int)(k:Nat):(A++C).getD (A.length+k) 0=C.getD k 0:=by grind
def qR(A C:List Int):(A++C).getD A.length 0=C.getD 0 0:=yX A C 0
def Sy(A B:List Int)(h:cR p):cE (A++(aN p++B)) A.length=E (p,A.length+(aN p).length):=by
 unfold cR at h;unfold cE;by_cases b:p<64;have a:aN p=[p]:=by simp[aN,b]
 rw[a,qR];have hs:fM (([p]++B).getD 0 0)=1:=by
  simp only[fM,rU,zh]
  rw[è]
 rw[hs,aH Γ];simp only[gQ,tw,qR]
 simp;omega;by_cases c:p<16384;have a:aN p=[p/256+64,p %256]:=by simp[aN,b,c]
 rw[a,qR];have hs:fM (([p/256+64,p %256]++B).getD 0 0)=2:=by
  simp only[fM,rU,zh]
  rw[ê,è]
 rw[hs,aH Γ];simp only[gQ,pS,Nat.reduceAdd,Nat.reduceSub,yX,qR]
 simp;omega;by_cases d:p<1073741824;have a:aN p=[p/16777216+128,p/65536 %256,p/256 %256,p %256]:=by simp[aN,b,c,d]
 rw[a,qR];have hs:fM (([p/16777216+128,p/65536 %256,p/256 %256,p %256]++B).getD 0 0)=4:=by
  simp only[fM,rU,zh]
  rw[ê,ê,è]
 rw[hs,aH Γ];simp only[gQ,pS,Nat.reduceAdd,Nat.reduceSub,yX,qR]
 simp;omega;have a:aN p=[p/72057594037927936+192,p/281474976710656 %256,p/1099511627776 %256,p/4294967296 %256,p/16777216 %256,p/65536 %256,p/256 %256,p %256]:=by simp[aN,b,c,d]
 rw[a,qR];have hs:fM (([p/72057594037927936+192,p/281474976710656 %256,p/1099511627776 %256,p/4294967296 %256,p/16777216 %256,p/65536 %256,p/256 %256,p %256]++B).getD 0 0)=8:=by
  simp only[fM,rU,zh]
  rw[ê,ê,ê]
 rw[hs,aH Γ];simp only[gQ,pS,Nat.reduceAdd,Nat.reduceSub,yX,qR]
 simp;omega
def pP(a:L=K++(aN q++M))(hp:k=K.length)(h:cR q):cE L k=E (q,k+(aN q).length):=by
 subst a hp;exact Sy K M h
def jT(l:List Rg):Nat->Nat->List Int
 |_,0=>[]
 |j,k+1=>uZ l j++jT l (j+1) k
def Sz(l:List Rg)(k:Nat):∀j,iW l (j+k)=iW l j++jT l j k:=by
 induction k with
 |zero=>intro j;simp[jT]
 |succ k a=>
  intro j;rw[show j+(k+1)=(j+1)+k by omega,a (j+1)];simp[iW,jT]
def GK(h:i<s.length):an s i=s[i]:=by
 simp[an,List.getD,h]
def SA(e:∀r∈s,r.ok)(d:gP s)(B:List Int)(k:Nat):∀(j:Nat)(A:List Int),j+1+k=s.length->
 iF (A++(jT s j k++B)) k A.length (an s j).lo (s.take (j+1))=E (s,A.length+(jT s j k).length):=by
 induction k with
 |zero=>
  intro j A g;simp only[iF,jT,eJ,nA,qu,uS,qv]
  exact à
 |succ k h=>
  intro j A g;have a:=ox e d j O;have b:=ox e d (j+1) O;have c:=d.2 (j+1) O;unfold mS at c;simp only[oZ]at c;unfold cR at a b;obtain⟨x,i⟩:=í ((an s j).lo-(an s (j+1)).hi-2);obtain⟨y,l⟩:=í ((an s (j+1)).hi-(an s (j+1)).lo);have m:jT s j (k+1)=aN x++(aN y++jT s (j+1) k):=by simp[jT,uZ,i,l]
  have n:cR x:=by unfold cR;omega
  have p:cR y:=by unfold cR;omega
  have q:cE (A++(jT s j (k+1)++B)) A.length=E (x,A.length+(aN x).length):=pP (M:=aN y++jT s (j+1) k++B) (by grind) Q n;have n2:cE (A++(jT s j (k+1)++B)) (A.length+(aN x).length)=E (y,A.length+(aN x).length+(aN y).length):=pP (K:=A++aN x) (M:=jT s (j+1) k++B) (by grind) Γ p;have e1:(an s j).lo-2-x=(an s (j+1)).hi:=O;have e2:(an s (j+1)).hi-y=(an s (j+1)).lo:=O;have t:A++(jT s j (k+1)++B)=(A++aN x++aN y)++(jT s (j+1) k++B):=by simp_all
  have f:j+1<s.length:=O;have u:s.take (j+1)++[an s (j+1)]=s.take (j+1+1):=by rw[oa f,GK f]
  simp only[iF,q,n2,dX,e1,e2]
  rw[è];have:=h (j+1) (A++aN x++aN y) O;rw[<-t]at this;rw[u];simp only[bS]at this;rw[this,m];simp only[bS]
  congr 2;omega
def SB(e:∀r∈s,r.ok)(b:gP s)(hl:(s.length:Int)<=4611686018427387903)(p:L=K++(fS s++M))(hp:n=K.length):eW L n=E (s,n+(fS s).length):=by
 subst hp;have d:=b.1;have a:=ox e b 0 d;have c:=(b.2 0 d).1;unfold cR at a;obtain⟨x,f⟩:=í ((an s 0).hi);obtain⟨y,g⟩:∃y:Int,y=(s.length:Int)-1:=⟨_,Q⟩
 obtain⟨z,h⟩:=í ((an s 0).hi-(an s 0).lo);have i:fS s=aN x++(aN y++(aN z++jT s 0 (s.length-1))):=by
  have:=Sz s (s.length-1) 0;simp only[eM,iW,mg]at this;simp[fS,kE,this,f,g,h]
 have j:cE L K.length=E (x,K.length+(aN x).length):=pP (K:=K) (M:=aN y++(aN z++jT s 0 (s.length-1))++M) (by grind) Q (by unfold cR;omega);have n2:cE L (K.length+(aN x).length)=E (y,K.length+(aN x).length+(aN y).length):=pP (K:=K++aN x) (M:=aN z++jT s 0 (s.length-1)++M) (by grind) Γ (by unfold cR;omega);have k:cE L (K.length+(aN x).length+(aN y).length)=E (z,K.length+(aN x).length+(aN y).length+(aN z).length):=pP (K:=K++aN x++aN y) (M:=jT s 0 (s.length-1)++M) (by grind) Ψ (by unfold cR;omega);have e1:x-z=(an s 0).lo:=O;have e2:y.toNat=s.length-1:=O;have l:L=(K++aN x++aN y++aN z)++(jT s 0 (s.length-1)++M):=by simp_all
 have m:[(⟨(an s 0).lo,x⟩:Rg)]=s.take (0+1):=by
  rw[oa O,f,GK d];simp
 simp only[eW,j,n2,k,dX,e1,e2,m]
 rw[è];have:=SA e b M (s.length-1) 0 (K++aN x++aN y++aN z) O;rw[<-l]at this;simp only[bS]at this;rw[show K.length+(aN x).length+(aN y).length+(aN z).length=K.length+(aN x).length+(aN y).length+(aN z).length from Q,this,i];simp only[bS]
 congr 2;omega
def iU(f:Fr):Fr:=
 if f.kind=1 then bL 1 θ else if f.kind=2 then bL 2 θ else if f.kind=3 then{bL 3 θ with ranges:=f.ranges}
 else if f.kind=4 then{bL 4 θ with stream:=f.stream,code:=f.code,offset:=f.offset}
 else if f.kind=5 then{bL 5 f.fin with stream:=f.stream,offset:=f.offset,data:=f.data}
 else{bL 6 θ with code:=f.code}
def Bu(d:ByteArray):strOfNums (bl d)=d:=by
 apply ByteArray.ext;apply Array.toList_inj.1;rw[rX,bl,rZ];refine(wN (g:=id) λx _=>?_).trans (List.map_id _);simp
def GL(a:L=K++(aN q++M))(hp:k=K.length)(h0:0<=q)(b:q<4):fH L k=E (q,k+(aN q).length):=by
 unfold fH;rw[pP a hp ⟨h0,O⟩];simp[b]
def SC{d:ByteArray}(a:L=K++(aN d.size++(bl d++M)))(hp:k=K.length)(hd:(d.size:Int)<=4611686018427387903):ju L k=E (d,k+(aN d.size).length+d.size):=by
 unfold ju;rw[pP (q:=d.size) a hp ⟨O,hd⟩];simp only[dX]
 have b:L.length=K.length+(aN d.size).length+d.size+M.length:=by rw[a];simp[iE];omega
 rw[è];have e:(L.drop (k+(aN d.size).length)).take d.size=bl d:=by
  rw[a,show K++(aN (d.size:Int)++(bl d++M))=(K++aN (d.size:Int))++(bl d++M) by simp,show k+(aN (d.size:Int)).length=(K++aN (d.size:Int)).length by simp[hp],List.drop_left,<-iE d,List.take_left]
 simp only[mf,e,Bu]
def SD(v:u.ok)(hs:cT u)(hl:(u.ranges.length:Int)<=4611686018427387903)(i:L=K++(cH u++M)):kG L K.length=E (iU u,K.length+(cH u).length):=by
 obtain⟨⟨b1,b2,k,l⟩,⟨q,w⟩,z,A⟩:=id hs;obtain⟨B,C,⟨r,-⟩,⟨s,-⟩,x⟩:=v;have c:u.kind=1\/u.kind=2\/u.kind=3\/u.kind=4\/u.kind=5\/u.kind=6:=O;have e0:L.getD K.length 0=(cH u++M).getD 0 0:=by rw[i];exact qR K _
 unfold kG;rw[e0];obtain c|c|c|c|c|c:=c
 have a:cH u=[0]:=by simp[cH,c]
 have e:iU u=bL 1 θ:=by simp[iU,c]
 rw[a,e];have f:cT (bL 1 θ):=by simp[cT,qx,ru,bL]
 simp[dy,f];have a:cH u=[1]:=by simp[cH,c]
 have e:iU u=bL 2 θ:=by simp[iU,c]
 rw[a,e];have f:cT (bL 2 θ):=by simp[cT,qx,ru,bL]
 simp[dy,f];have a:cH u=2::fS u.ranges:=by simp[cH,c]
 have e:iU u={bL 3 θ with ranges:=u.ranges}:=by simp[iU,c]
 have y:eW L (K.length+1)=E (u.ranges,K.length+1+(fS u.ranges).length):=SB (K:=K++[2]) (M:=M) x (q c) hl (by rw[i,a];simp) Γ;rw[a,e];have f:cT {bL 3 θ with ranges:=u.ranges}:=by
  refine⟨?_,⟨λ_=>q c,λh=>?_⟩,?_⟩<;>simp[qx,bL]at *
 simp[dy,y,f];omega;have a:cH u=4::(aN u.stream++aN u.code++aN u.offset):=by simp[cH,c]
 have e:iU u={bL 4 θ with stream:=u.stream,code:=u.code,offset:=u.offset}:=by simp[iU,c]
 have g:=GL (L:=L) (K:=K++[4]) (M:=aN u.code++(aN u.offset++M)) (q:=u.stream) (k:=K.length+1) (by rw[i,a];simp) Γ k l;have n2:=pP (L:=L) (K:=K++[4]++aN u.stream) (M:=aN u.offset++M) (q:=u.code) (k:=K.length+1+(aN u.stream).length) (by rw[i,a];simp) Ψ ⟨s,b2⟩;have j:=pP (L:=L) (K:=K++[4]++aN u.stream++aN u.code) (M:=M) (q:=u.offset) (k:=K.length+1+(aN u.stream).length+(aN u.code).length) (by rw[i,a];simp) Ψ ⟨r,b1⟩;rw[a,e];have f:cT {bL 4 θ with stream:=u.stream,code:=u.code,offset:=u.offset}:=by
  refine⟨⟨b1,b2,k,l⟩,⟨λh=>?_,λh=>?_⟩,?_⟩<;>simp[bL]at *
 simp[dy,g,n2,j,f];omega;have hd:=w c;have g:=λt:Int=>λa:cH u=t::(aN u.stream++aN u.offset++aN u.data.size++bl u.data)=>GL (L:=L) (K:=K++[t]) (M:=aN u.offset++(aN u.data.size++(bl u.data++M))) (q:=u.stream) (k:=K.length+1) (by rw[i,a];simp) Γ k l
 have n2:=λt:Int=>λa:cH u=t::(aN u.stream++aN u.offset++aN u.data.size++bl u.data)=>pP (L:=L) (K:=K++[t]++aN u.stream) (M:=aN u.data.size++(bl u.data++M)) (q:=u.offset) (k:=K.length+1+(aN u.stream).length) (by rw[i,a];simp) Ψ ⟨r,b1⟩
 have j:=λt:Int=>λa:cH u=t::(aN u.stream++aN u.offset++aN u.data.size++bl u.data)=>SC (L:=L) (K:=K++[t]++aN u.stream++aN u.offset) (M:=M) (d:=u.data) (k:=K.length+1+(aN u.stream).length+(aN u.offset).length) (by rw[i,a];simp) Ψ O
 have f:∀b,cT {bL 5 b with stream:=u.stream,offset:=u.offset,data:=u.data}:=λb=>by
  refine⟨⟨b1,by simp[bL],k,l⟩,⟨λh=>?_,λh=>hd⟩,?_⟩<;>simp[bL]at *
 cases m:u.fin with
 |true=>
  have a:cH u=9::(aN u.stream++aN u.offset++aN u.data.size++bl u.data):=by simp[cH,c,m]
  have e:iU u={bL 5 ρ with stream:=u.stream,offset:=u.offset,data:=u.data}:=by simp[iU,c,m]
  replace g:=g 9 a;replace n2:=n2 9 a;replace j:=j 9 a;rw[a,e];simp[dy,g,n2,j,f,iE];omega
 |false=>
  have a:cH u=8::(aN u.stream++aN u.offset++aN u.data.size++bl u.data):=by simp[cH,c,m]
  have e:iU u={bL 5 θ with stream:=u.stream,offset:=u.offset,data:=u.data}:=by simp[iU,c,m]
  replace g:=g 8 a;replace n2:=n2 8 a;replace j:=j 8 a;rw[a,e];simp[dy,g,n2,j,f,iE];omega
 have a:cH u=28::aN u.code:=by simp[cH,c]
 have e:iU u={bL 6 θ with code:=u.code}:=by simp[iU,c]
 have g:=pP (L:=L) (K:=K++[28]) (M:=M) (q:=u.code) (k:=K.length+1) (by rw[i,a];simp) Γ ⟨s,b2⟩;rw[a,e];have f:cT {bL 6 θ with code:=u.code}:=by
  refine⟨⟨by simp[bL],b2,by simp[bL],by simp[bL]⟩,⟨λh=>?_,λh=>?_⟩,?_⟩<;>simp[bL]at *
 simp[dy,g,f];omega
def SE(fs:List Fr):∀(A:List Int)(k:Nat)(a:List Fr),(∀f∈fs,f.ok/\cT f/\(f.ranges.length:Int)<=4611686018427387903)->fs.length<k->gz (A++bE fs) k A.length a=(E (a++fs.map iU),-1):=by
 induction fs with
 |nil=>
  intro A k a _ b;obtain⟨k,rfl⟩:∃m,k=m+1:=⟨k-1,by simp at b;omega⟩
  simp[gz,bE]
 |cons f r c=>
  intro A k a h b;obtain⟨k,rfl⟩:∃m,k=m+1:=⟨k-1,by simp at b;omega⟩
  obtain⟨d,e,i⟩:=h f Γ;have j:=SD d e i (L:=A++bE (f::r)) (K:=A) (M:=bE r) Q;have p:=(xp f).1;have l:A.length<(A++bE (f::r)).length:=by simp[bE];omega
  simp only[gz,aH l,j]
  have:=c (A++cH f) k (a++[iU f]) (λg n=>h g (by simp[n])) (by grind);simp only[bS]at this;rw[show A++bE (f::r)=A++cH f++bE r by simp[bE],this];simp
def SF(fs:List Fr):fs.length<=(bE fs).length:=by
 induction fs with
 |nil=>simp[bE]
 |cons f r a=>have:=(xp f).1;simp[bE];omega
def SG{fs:List Fr}(h:∀f∈fs,f.ok/\cT f/\(f.ranges.length:Int)<=4611686018427387903)(h0:fs≠[]):eX (bE fs)=(E (fs.map iU),-1):=by
 have hl:=SF fs;have hp:=qt.2 h0;unfold eX;rw[ê];have:=SE fs [] ((bE fs).length+1) [] h O;simpa using this
