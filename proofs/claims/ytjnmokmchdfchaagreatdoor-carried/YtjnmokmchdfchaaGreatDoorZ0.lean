import Derived.BigQuiet
import Derived.BigRegion
import Derived.Deep.DeepCutAuto
import Derived.Deep.DrawnRows
import Derived.Deep.Draws
import Derived.Deep.LoopGhost
import Derived.Deep.MidRow
import Derived.Deep.RegionHeld3
import Derived.Deep.RegionWith
import Derived.Laws.AppendOwn
import Derived.Laws.AppendOwnNone
import Derived.Laws.BitsAllLaws
import Derived.Laws.BytesArg
import Derived.Laws.CopyOwn
import Derived.Lib.ConvBytes
import Derived.Lib.LazyBuf
import Derived.Maps.AppendAt
import Derived.Outline
import Derived.OwnWalk
import Derived.Test.YtjnmokmchdfchaaGreatDoorProg
import Derived.WalkKit
import Derived.WalkLawsBesides
import Derived.WalkSpells
set_option maxRecDepth 1000000
set_option maxHeartbeats 8000000
set_option linter.all false
namespace Go.Proofs.YtjnmokmchdfchaaGreatDoor
open Go.RowKit Tryz
attribute[local go_sem↓]Go.wp_at_zero Go.wp_at_succ
variable{I:Act}{c:Array Value}{F:Exit->Act->World->Prop}{p q:Int}{K L:List Int}{b i j k l m n o:Nat}{H:Oper}{O a:Option Addr}{N:Option Nat}{T:TypeId}{x y z:Value}{V W v w:World}
theorem exq{α:Sort _}(e:α):∃a,a=e:=⟨_,rfl⟩
theorem ah:type_of% @if_neg:=@if_neg
theorem az:type_of% @if_pos:=@if_pos
theorem aB:type_of% @World.grownBy.refl:=@World.grownBy.refl
theorem aH:type_of% @World.grownBy_alloc:=@World.grownBy_alloc
theorem aM:type_of% @heap_alloc_new:=@heap_alloc_new
theorem aO:type_of% @Option.some.inj:=@Option.some.inj
theorem aP:type_of% @Nat.le_refl:=@Nat.le_refl
theorem aY:type_of% @Array.getElem?_eq_some_iff:=@Array.getElem?_eq_some_iff
theorem bg:type_of% @Array.getElem?_setIfInBounds_ne:=@Array.getElem?_setIfInBounds_ne
theorem bD:type_of% @Nat.le_trans:=@Nat.le_trans
theorem bH:type_of% @List.length_append:=@List.length_append
theorem bI:type_of% @decide_eq_false:=@decide_eq_false
theorem bK:type_of% @decide_eq_true:=@decide_eq_true
theorem bQ:type_of% @List.mem_append:=@List.mem_append
theorem bY:type_of% @Nat.lt_of_lt_of_le:=@Nat.lt_of_lt_of_le
theorem b9:type_of% @Nat.le_succ:=@Nat.le_succ
theorem ct:type_of% @List.length_take:=@List.length_take
theorem cA:type_of% @bodyPost_ret:=@bodyPost_ret
theorem cS:type_of% @List.mem_singleton:=@List.mem_singleton
theorem cW:type_of% @Int.le_refl:=@Int.le_refl
theorem dq:type_of% @List.length_cons:=@List.length_cons
theorem dy:type_of% @Below.heap_setCell:=@Below.heap_setCell
theorem dA:type_of% @List.length_map:=@List.length_map
theorem dF:type_of% @List.length_drop:=@List.length_drop
theorem dP:type_of% @run_callFunc_extern:=@run_callFunc_extern
theorem dQ:type_of% @World.size_alloc:=@World.size_alloc
theorem dR:type_of% @Nat.zero_add:=@Nat.zero_add
theorem ep:type_of% @World.block_lt_of_cell?:=@World.block_lt_of_cell?
theorem et:type_of% @results_none:=@results_none
theorem eD:type_of% @List.getElem?_eq_getElem:=@List.getElem?_eq_getElem
theorem eQ:type_of% @List.mem_map:=@List.mem_map
theorem eV:type_of% @Option.bind_some:=@Option.bind_some
theorem eW:type_of% @bodyPost_end:=@bodyPost_end
theorem eX:type_of% @if_true:=@if_true
theorem fg:type_of% @List.append_assoc:=@List.append_assoc
theorem fh:type_of% @IntKind.wrap_u64:=@IntKind.wrap_u64
theorem fj:type_of% @Below.heap_alloc:=@Below.heap_alloc
theorem fk:type_of% @List.mem_cons:=@List.mem_cons
theorem fm:type_of% @congrArg:=@congrArg
theorem fB:type_of% @List.length_nil:=@List.length_nil
theorem fJ:type_of% @List.take_of_length_le:=@List.take_of_length_le
theorem fK:type_of% @World.cell?_alloc_lt:=@World.cell?_alloc_lt
theorem fR:type_of% @if_false:=@if_false
theorem gm:type_of% @Bool.false_eq_true:=@Bool.false_eq_true
theorem gF:type_of% @AllReady.cons:=@AllReady.cons
theorem iy:type_of% @List.mem_filter:=@List.mem_filter
theorem iF:type_of% @List.eq_nil_of_length_eq_zero:=@List.eq_nil_of_length_eq_zero
theorem iG:type_of% @List.mem_of_mem_drop:=@List.mem_of_mem_drop
theorem iH:type_of% @List.mem_append_left:=@List.mem_append_left
theorem iS:type_of% @List.mem_of_mem_take:=@List.mem_of_mem_take
theorem iT:type_of% @Result.andThen_ok:=@Result.andThen_ok
theorem iU:type_of% @Sem.run_bind:=@Sem.run_bind
theorem iV:type_of% @AllReady.nil:=@AllReady.nil
theorem iW:type_of% @wpAny_ready:=@wpAny_ready
theorem jg:type_of% @Value.slice.inj:=@Value.slice.inj
theorem jh:type_of% @Nat.zero_le:=@Nat.zero_le
theorem jz:type_of% @List.getElem?_append_right:=@List.getElem?_append_right
theorem jA:type_of% @List.getElem?_take:=@List.getElem?_take
theorem jO:type_of% @List.mem_append_right:=@List.mem_append_right
theorem jP:type_of% @List.mem_iff_getElem:=@List.mem_iff_getElem
theorem jQ:type_of% @List.nil_append:=@List.nil_append
theorem ki:type_of% @List.map_cons:=@List.map_cons
theorem kE:type_of% @Array.getElem?_setIfInBounds:=@Array.getElem?_setIfInBounds
theorem kF:type_of% @List.getElem?_eq_some_iff:=@List.getElem?_eq_some_iff
theorem kG:type_of% @List.getElem?_drop:=@List.getElem?_drop
theorem kZ:type_of% @List.setIfInBounds_toArray:=@List.setIfInBounds_toArray
theorem lg:type_of% @info_parts:=@info_parts
theorem lH:type_of% @World.cell?_of_block:=@World.cell?_of_block
theorem lI:type_of% @List.set_cons_zero:=@List.set_cons_zero
theorem lJ:type_of% @List.set_cons_succ:=@List.set_cons_succ
theorem mc:type_of% @List.getElem?_append_left:=@List.getElem?_append_left
theorem mf:type_of% @Option.some.injEq:=@Option.some.injEq
theorem mg:type_of% @Bool.and_eq_true:=@Bool.and_eq_true
theorem mh:type_of% @List.foldl_cons:=@List.foldl_cons
theorem mi:type_of% @Sem.run_pure:=@Sem.run_pure
theorem mO:type_of% @List.map_append:=@List.map_append
theorem mP:type_of% @List.map_nil:=@List.map_nil
theorem nw:type_of% @World.frozen?_alloc_old:=@World.frozen?_alloc_old
theorem ny:type_of% @List.length_filter_le:=@List.length_filter_le
theorem nz:type_of% @List.getElem?_eq_none:=@List.getElem?_eq_none
theorem nA:type_of% @decide_eq_true_eq:=@decide_eq_true_eq
theorem nE:type_of% @Int.toNat_natCast:=@Int.toNat_natCast
theorem nF:type_of% @List.map_toArray:=@List.map_toArray
theorem nG:type_of% @Nat.zero_mul:=@Nat.zero_mul
theorem oh:type_of% @Bool.or_eq_false_iff:=@Bool.or_eq_false_iff
theorem oj:type_of% @List.length_pos_iff:=@List.length_pos_iff
theorem om:type_of% @World.ownsRow_nil:=@World.ownsRow_nil
theorem oq:type_of% @List.take_length:=@List.take_length
theorem ot:type_of% @List.append_nil:=@List.append_nil
theorem ou:type_of% @Nat.add_zero:=@Nat.add_zero
theorem oQ:type_of% @List.take_append_drop:=@List.take_append_drop
theorem oR:type_of% @List.mem_map_of_mem:=@List.mem_map_of_mem
theorem oS:type_of% @wpList_load_row:=@wpList_load_row
theorem oT:type_of% @or_false:=@or_false
theorem pW:type_of% @List.getD_eq_getElem?_getD:=@List.getD_eq_getElem?_getD
theorem pX:type_of% @Nat.lt_succ_iff_lt_or_eq:=@Nat.lt_succ_iff_lt_or_eq
theorem pY:type_of% @Int.eq_ofNat_of_zero_le:=@Int.eq_ofNat_of_zero_le
theorem pZ:type_of% @Array.getElem?_toList:=@Array.getElem?_toList
theorem p7:type_of% @Array.length_toList:=@Array.length_toList
theorem p8:type_of% @List.pairwise_cons:=@List.pairwise_cons
theorem qa:type_of% @List.cons_append:=@List.cons_append
theorem qb:type_of% @List.drop_zero:=@List.drop_zero
theorem qc:type_of% @Nat.add_assoc:=@Nat.add_assoc
theorem qd:type_of% @rounds_succ:=@rounds_succ
theorem qD:type_of% @Option.bind_eq_some_iff:=@Option.bind_eq_some_iff
theorem qE:type_of% @List.drop_of_length_le:=@List.drop_of_length_le
theorem qF:type_of% @List.take_add_one:=@List.take_add_one
theorem qG:type_of% @List.not_mem_nil:=@List.not_mem_nil
theorem qH:type_of% @List.any_eq_true:=@List.any_eq_true
theorem qI:type_of% @Prod.mk.injEq:=@Prod.mk.injEq
theorem ry:type_of% @List.take_succ_eq_append_getElem:=@List.take_succ_eq_append_getElem
theorem rz:type_of% @ByteArray.size_extract:=@ByteArray.size_extract
theorem rA:type_of% @Nat.lt_or_eq_of_le:=@Nat.lt_or_eq_of_le
theorem rB:type_of% @Nat.add_sub_cancel:=@Nat.add_sub_cancel
theorem rC:type_of% @List.flatMap_cons:=@List.flatMap_cons
theorem rD:type_of% @Option.map_some:=@Option.map_some
theorem rE:type_of% @Nat.sub_self:=@Nat.sub_self
theorem sP:type_of% @decide_eq_false_iff_not:=@decide_eq_false_iff_not
theorem sQ:type_of% @Nat.add_sub_cancel_left:=@Nat.add_sub_cancel_left
theorem sS:type_of% @List.getElem?_toArray:=@List.getElem?_toArray
theorem sT:type_of% @List.size_toArray:=@List.size_toArray
theorem sU:type_of% @List.getElem_mem:=@List.getElem_mem
theorem sV:type_of% @wp_loop_rounds:=@wp_loop_rounds
theorem sX:type_of% @List.drop_drop:=@List.drop_drop
theorem sY:type_of% @Bool.or_false:=@Bool.or_false
theorem sZ:type_of% @wpList_plain:=@wpList_plain
theorem s6:type_of% @decide_false:=@decide_false
theorem s8:type_of% @callsIn_wide:=@callsIn_wide
theorem s9:type_of% @List.map_map:=@List.map_map
theorem uy:type_of% @List.take_append_of_le_length:=@List.take_append_of_le_length
theorem uz:type_of% @List.getElem_cons_zero:=@List.getElem_cons_zero
theorem uA:type_of% @List.drop_eq_nil_of_le:=@List.drop_eq_nil_of_le
theorem uB:type_of% @List.length_replicate:=@List.length_replicate
theorem uC:type_of% @List.getElem_toArray:=@List.getElem_toArray
theorem uD:type_of% @not_true_eq_false:=@not_true_eq_false
theorem uF:type_of% @List.getElem_take:=@List.getElem_take
theorem uH:type_of% @List.getElem_drop:=@List.getElem_drop
theorem uI:type_of% @List.mem_flatMap:=@List.mem_flatMap
theorem uJ:type_of% @List.range_succ:=@List.range_succ
theorem uK:type_of% @run_underlying:=@run_underlying
theorem wW:type_of% @Nat.shiftLeft_add_eq_or_of_lt:=@Nat.shiftLeft_add_eq_or_of_lt
theorem wX:type_of% @List.getElem?_replicate:=@List.getElem?_replicate
theorem wY:type_of% @ByteArray.data_extract:=@ByteArray.data_extract
theorem wZ:type_of% @Nat.pow_le_pow_right:=@Nat.pow_le_pow_right
theorem xd:type_of% @List.mem_of_getElem?:=@List.mem_of_getElem?
theorem xi:type_of% @List.map_congr_left:=@List.map_congr_left
theorem xj:type_of% @List.getD_cons_zero:=@List.getD_cons_zero
theorem zG:type_of% @List.drop_eq_getElem_cons:=@List.drop_eq_getElem_cons
theorem zH:type_of% @Classical.byContradiction:=@Classical.byContradiction
theorem J{p:Prop}(h:p):Hid p:=h
theorem Z{p:Prop}(h:Hid p):p:=h
def aV(x:Int):Prop:=0<=x/\x<18446744073709551616
def W8(x:Int):Prop:=0<=x/\x<256
theorem aq(h:w.grownBy W N)(k:W.grownBy v N):w.grownBy v N:=
 ⟨k.os.trans h.os,k.tape.trans h.tape,k.output.trans h.output,bD h.size k.size,λi hi a=>(k.block i (bY hi h.size) a).trans (h.block i hi a)⟩
theorem cF{q:Option Nat}(h:w.grownBy W N)(k:W.grownBy v q)(b:∀j,q=some j->w.heap.size<=j\/q=N):w.grownBy v N:=
 ⟨k.os.trans h.os,k.tape.trans h.tape,k.output.trans h.output,bD h.size k.size,λi hi a=>(k.block i (bY hi h.size) (λe=>by
  obtain g|g:=b i e.symm
  omega
  ·exact a (e.trans g))).trans (h.block i hi a)⟩
theorem aW(h:w.grownBy W N):w.grownBy W.drew N:=⟨h.os,h.tape,h.output,h.size,h.block⟩
theorem di(h:w.grownBy W N)(n:Nat):w.grownBy (W.drewN n) N:=⟨h.os,h.tape,h.output,h.size,h.block⟩
theorem ba(h:w.grownBy W N)(o:Obj):w.grownBy (W.alloc o) N:=aq h (aH W o N)
theorem aI(h:w.grownBy W N)(p:Addr)(v:Value)(e:w.heap.size<=p.block\/some p.block=N):w.grownBy (W.setCell p v) N:=
 ⟨h.os,h.tape,h.output,by simpa [World.setCell]using h.size,λk b a=>by
  rw[dy _ _ _ _ (by rintro rfl;obtain e|e:=e<;>first|omega|exact a e)];exact h.block k b a⟩
theorem cX(h:w.grownBy W none)(r:Option Nat):w.grownBy W r:=⟨h.os,h.tape,h.output,h.size,λk a _=>h.block k a (by simp)⟩
theorem xk(h:w.grownBy W none):Below w.heap.size w W:=⟨h.os,h.tape,h.output,h.size,λk a=>h.block k a (by simp)⟩
theorem tc(h:Below w.heap.size w W):w.grownBy W none:=⟨h.os,h.tape,h.output,h.size,λk a _=>h.block k a⟩
theorem oU(h:w.grownBy W (some j))(b:w.heap.size<=j):w.grownBy W none:=
 ⟨h.os,h.tape,h.output,h.size,λk a _=>h.block k a (by intro e;cases e;omega)⟩
theorem heap_set(h:w.heap[n]?=some (.cells c T (0,0)))(v:Value):(w.setCell ⟨n,o,none⟩ v).heap[n]?=some (.cells (c.setIfInBounds o v) T (0,0)):=by
 simp[World.setCell,Array.getElem?_modify,h]
def oV(x:Int):Int:=(x %9223372036854775808)*2+x/9223372036854775808
def rotl(x:Int):Nat->Int
 |0=>x
 |k+1=>oV (rotl x k)
theorem E3(h:aV p):aV (oV p):=by unfold aV oV at *;omega
theorem ox(h:aV p)(k:Nat):aV (rotl p k):=by
 induction k with
 |zero=>exact h
 |succ k a=>exact E3 a
theorem E4(x N M:Nat)(h:N*M=9223372036854775808)(g:x<2*N*M)(a:0<N):
 oV (((x %(2*N))*M+x/(2*N):Nat):Int)=(((x %N)*(2*M)+x/N:Nat):Int):=by
 have b:x/(2*N)<M:=Nat.div_lt_of_lt_mul (by rw[Nat.mul_comm 2 N,Nat.mul_assoc,Nat.mul_comm 2 M,<-Nat.mul_assoc]at *;rw[Nat.mul_assoc]at *;omega);have e1:x %(2*N)=N*(x/N %2)+x %N:=by
  rw[Nat.mul_comm 2 N,Nat.mod_mul];omega
 have e2:x/(2*N)=x/N/2:=by rw[Nat.mul_comm 2 N,Nat.div_div_eq_div_mul]
 generalize hs:x %N=s at *;generalize i:x/N=z at *;have c:s<N:=by rw[<-hs];exact Nat.mod_lt _ a
 have d:s*M+z/2<N*M:=by
  have:(s+1)*M<=N*M:=Nat.mul_le_mul_right _ c;rw[Nat.add_mul]at this;rw[e2]at b;omega
 have e:(x %(2*N))*M+x/(2*N)=9223372036854775808*(z %2)+(s*M+z/2):=by
  rw[e1,e2,Nat.add_mul,Nat.mul_right_comm,h];omega
 rw[e];rw[h]at d;have f:s*(2*M)=2*(s*M):=by rw[Nat.mul_left_comm]
 rw[f];generalize s*M=p at *;unfold oV;omega
theorem zJ(x:Nat)(a:x<18446744073709551616):∀k,k<=63->rotl x k=((x %2^(64-k))*2^k+x/2^(64-k):Nat)
 |0,_=>by
  show(x:Int)=_;have:x %2^(64-0)=x:=Nat.mod_eq_of_lt (by simpa using a);rw[this];have:x/2^(64-0)=0:=Nat.div_eq_of_lt (by simpa using a);rw[this];simp
 |k+1,h=>by
  show oV (rotl x k)=_;rw[zJ x a k (by omega)];have e1:2^(64-k)=2*2^(64-(k+1)):=by rw[show 64-k=(64-(k+1))+1 by omega,Nat.pow_succ,Nat.mul_comm]
  have e2:2^(64-(k+1))*2^k=9223372036854775808:=by rw[<-Nat.pow_add,show 64-(k+1)+k=63 by omega]
  have b:2^(k+1)=2*2^k:=by rw[Nat.pow_succ,Nat.mul_comm]
  rw[e1,b];exact E4 x _ _ e2 (by rw[Nat.mul_assoc,e2];omega) (Nat.two_pow_pos _)
theorem E5(h:aV p)(k:Nat)(c:k<=63)(h0:0<k):bits .or .u64 (IntKind.u64.wrap (p*(2^k:Nat))) (p/(2^(64-k):Nat))=rotl p k:=by
 obtain⟨d,f⟩:=h;obtain⟨n,rfl⟩:=pY d;have a:n<18446744073709551616:=by omega
 rw[zJ n a k c,fh];have b:2^(64-k)*2^k=18446744073709551616:=by rw[<-Nat.pow_add,show 64-k+k=64 by omega]
 have e1:((n:Int)*(2^k:Nat)) %18446744073709551616=(((n %2^(64-k))*2^k:Nat):Int):=by
  have:n*2^k %18446744073709551616=(n %2^(64-k))*2^k:=by rw[<-b,Nat.mul_mod_mul_right]
  rw[<-this,Int.natCast_emod,Int.natCast_mul];rfl
 have e2:(n:Int)/(2^(64-k):Nat)=((n/2^(64-k):Nat):Int):=by rw[Int.natCast_ediv]
 rw[e1,e2,u64_or_nat];congr 1;have e:n/2^(64-k)<2^k:=Nat.div_lt_of_lt_mul (by rw[b];exact a);have:=wW e (n %2^(64-k));rw[Nat.shiftLeft_eq]at this;omega;have:n %2^(64-k)<2^(64-k):=Nat.mod_lt _ (Nat.two_pow_pos _);rw[<-b];exact Nat.mul_lt_mul_of_pos_right this (Nat.two_pow_pos _);exact Nat.lt_of_le_of_lt (Nat.div_le_self _ _) a
def xo(a b:Int):Int:=bits .xor .u64 a b
def ad(a b:Int):Int:=IntKind.u64.wrap (a+b)
theorem oy(a b:Int):aV (ad a b):=by unfold ad aV;rw[fh];omega
theorem ji(a:aV p)(b:aV q):aV (xo p q):=by
 unfold xo;rw[u64_xor p q a.1 a.2 b.1 b.2];have:=Nat.xor_lt_two_pow (n:=64) (x:=p.toNat) (y:=q.toNat) (by have:=a.2;have:=a.1;omega) (by have:=b.2;have:=b.1;omega);unfold aV;omega
structure S4 where
 a:Int
 b:Int
 c:Int
 d:Int
def S4.ok(s:S4):Prop:=aV s.a/\aV s.b/\aV s.c/\aV s.d
def oC(s:S4):S4:=
 let e:=ad s.a s.b
 let f:=xo (rotl s.b 13) e
 let k:=rotl e 32
 let g:=ad s.c s.d
 let h:=xo (rotl s.d 16) g
 let i:=ad k h
 let l:=xo (rotl h 21) i
 let j:=ad g f
 let m:=xo (rotl f 17) j
 ⟨i,m,rotl j 32,l⟩
theorem qJ{s:S4}(h:s.ok):(oC s).ok:=by
 obtain⟨j,e,k,f⟩:=h;have g:=ji (ox e 13) (oy s.a s.b);have i:=ji (ox f 16) (oy s.c s.d);exact⟨oy _ _,ji (ox g 17) (oy _ _),ox (oy _ _) 32,ji (ox i 21) (oy _ _)⟩
def rF(s:S4)(m:Int):S4:=
 let t:=oC (oC ⟨s.a,s.b,s.c,xo s.d m⟩)
 ⟨xo t.a m,t.b,t.c,t.d⟩
theorem E6{s:S4}(h:s.ok)(e:aV p):(rF s p).ok:=by
 obtain⟨f,g,i,j⟩:=h;have t:=qJ (qJ (s:=⟨s.a,s.b,s.c,xo s.d p⟩) ⟨f,g,i,ji j e⟩);exact⟨ji t.1 e,t.2.1,t.2.2.1,t.2.2.2⟩
def td(s:S4):Int:=
 let t:=oC (oC (oC (oC ⟨s.a,s.b,xo s.c 255,s.d⟩)))
 xo (xo (xo t.a t.b) t.c) t.d
theorem E7{s:S4}(h:s.ok):aV (td s):=by
 obtain⟨e,f,g,i⟩:=h;have t:=qJ (qJ (qJ (qJ (s:=⟨s.a,s.b,xo s.c 255,s.d⟩) ⟨e,f,ji g (by unfold aV;omega),i⟩)));exact ji (ji (ji t.1 t.2.1) t.2.2.1) t.2.2.2
def gY:List Int->Int
 |[]=>0
 |x::r=>x+256*gY r
theorem xm:∀(l:List Int),(∀x∈l,W8 x)->0<=gY l/\gY l<256^l.length
 |[],_=>by simp[gY]
 |x::r,h=>by
  have:=xm r (λy a=>h y (List.mem_cons_of_mem _ a));have b:=h x (List.mem_cons_self ..);unfold W8 at b;simp only[gY,dq,Int.pow_succ]
  omega
def gH(key:List Int):S4:=
 ⟨xo (gY (key.take 8)) 8317987319222330741,xo (gY (key.drop 8)) 7237128888997146477,xo (gY (key.take 8)) 7816392313619706465,xo (gY (key.drop 8)) 8387220255154660723⟩
def oW(l:List Int)(n:Int):List Int:=l++List.replicate (7-l.length %8) 0++[n %256]
def mj(s:S4):Nat->List Int->S4
 |0,_=>s
 |k+1,l=>mj (rF s (gY (l.take 8))) k (l.drop 8)
def cT(key l:List Int):Int:=td (mj (gH key) (l.length/8+1) (oW l l.length))
def BS(w:World)(b o:Nat)(l:List Int):Prop:=(∀i,i<l.length->w.cell? ⟨b,o+i,none⟩=some (.int .u8 (l.getD i 0)))/\∀x∈l,W8 x
theorem E8(l:List Int):∀k,k<l.length->gY (l.take (k+1))=gY (l.take k)+256^k*l.getD k 0:=by
 induction l with
 |nil=>intro k h;simp at h
 |cons x r a=>
  intro k h;cases k with
  |zero=>simp[gY]
  |succ k=>
   simp only[List.take_succ_cons,gY,List.getD_cons_succ]
   rw[a k (by simpa using h),Int.mul_add,Int.pow_succ,Int.mul_comm (256^k) 256,Int.mul_assoc];omega
theorem qe(h:∀x∈L,W8 x)(k:Nat):W8 (L.getD k 0):=by
 rw[pW];rcases a:L[k]? with _|x
 simp[W8];exact h x (xd a)
theorem E9(a x:Int)(k:Nat)(g:k<=7)(h0:0<=a)(c:a<256^k)(d:W8 x):bits .or .u64 a (IntKind.u64.wrap (x*2^(8*k)))=a+256^k*x:=by
 obtain⟨e,h⟩:=d;obtain⟨n,rfl⟩:=pY h0;obtain⟨y,rfl⟩:=pY e;have e0:(256:Nat)^k=2^(8*k):=by rw[Nat.pow_mul]
 have b:(256:Int)^k=((2^(8*k):Nat):Int):=by rw[<-e0];simp
 have e1:((y:Int)*2^(8*k))=((y*2^(8*k):Nat):Int):=by simp
 have hp:2^(8*k)<=2^56:=wZ (by decide) (by omega);have i:y*2^(8*k)<=255*2^56:=Nat.mul_le_mul (by omega) hp;rw[b]at c;rw[e1,fh,b];have f:n<2^(8*k):=by omega
 have e2:(((y*2^(8*k):Nat):Int)) %18446744073709551616=((y*2^(8*k):Nat):Int):=by omega
 rw[e2,u64_or_nat _ _ (by omega) (by omega)];have:=wW f y;rw[Nat.shiftLeft_eq]at this;rw[Nat.or_comm,<-this,Int.natCast_add,Int.natCast_mul,Int.mul_comm];omega
theorem Fc(h:∀x∈L,W8 x)(k:Nat)(a:k<=L.length):0<=gY (L.take k)/\gY (L.take k)<256^k:=by
 have:=xm (L.take k) (λx b=>h x (iS b));rwa[ct,Nat.min_eq_left a]at this
theorem zK(k:Nat)(h:k<=8):(256:Int)^k<=18446744073709551616:=by
 have:(256:Nat)^k<=256^8:=wZ (by decide) h;have e:(256:Int)^k=((256^k:Nat):Int):=by simp
 rw[e];omega
theorem uL(b o cap:Nat)(l:List Int)(w:World)(h:BS w b o l)(hl:l.length=8)(r:8<=cap):
 Calls prog 262 #[.slice (some ⟨b,o,none⟩) 8 cap] w λe j=>e=.returned (.int .u64 (gY l))/\j=w:=by
 obtain⟨d,f⟩:=h;go_enter func262,ntmps262;go_wp2;go_loop [3,8] (λa i=>∃k:Nat,k<=8/\i=.int .i64 k/\a=.int .u64 (gY (l.take k))) (λ_ i=>8-(intOf i).toNat);case atStart=>exact⟨0,by omega,rfl,rfl⟩
 case round=>
  obtain⟨k,n,rfl,rfl⟩:=hrel;have c:=Fc f k (by omega);have hp:=zK k n;by_cases s:k<8
  ·have t:=d k (by omega);clear d;have g:=qe f k;have p:=J (E9 _ _ k (by omega) c.1 c.2 g);have q:=J (E8 l k (by omega));obtain⟨t0,t1⟩:=c;obtain⟨u,v⟩:=g;generalize l.getD k 0=x at *;generalize gY (l.take k)=m at *;have y:(8:Int)*k<=1000:=by omega
   go_wp2;go_round;case rel=>exact⟨k+1,by omega,by go_num,by rw[Z p,<-Z q]⟩
   case measure=>simp[intOf];omega
  go_wp2;go_ret;exact⟨fm (λz=>Ending.returned (.int .u64 z)) (by rw[fJ (by omega)]),rfl⟩
def bv(l:List Int):List Value:=l.map (Value.int .u8)
def bF(w:World)(a:Option Addr)(n cap:Nat)(l:List Int):Prop:=
 (∀x∈l,W8 x)/\n=l.length/\n<=cap/\cap<=maxLen/\((a=none/\cap=0)\/∃b o,a=some ⟨b,o,none⟩/\BS w b o l)
def bm(w:World)(a:Nat)(v:Value)(l:List Int):Prop:=(∀x∈l,W8 x)/\w.ownsRow a 5 1 v l.length (bv l)
theorem BS.gb(h:BS w b o L)(g:w.grownBy W N)(a:N≠some b):BS W b o L:=
 ⟨λi hi=>g.cell (h.1 i hi) (λe=>a e.symm),h.2⟩
theorem BS.lt(h:BS w b o L)(hl:L≠[]):b<w.heap.size:=
 ep w _ (h.1 0 (oj.2 hl))
theorem BS.nil(w:World)(b o:Nat):BS w b o []:=⟨λi hi=>by simp at hi,λx a=>by simp at a⟩
theorem bF.gb(h:bF w a n k L)(g:w.grownBy W N)(d:∀j,N=some j->w.heap.size<=j\/L=[]\/∀x,a=some x->x.block≠j):bF W a n k L:=by
 obtain⟨f,i,l,m,c⟩:=h;refine⟨f,i,l,m,?_⟩
 obtain c|⟨b,o,rfl,c⟩:=c
 exact .inl c;refine .inr ⟨b,o,rfl,?_⟩;by_cases hl:L=[]
 subst hl;exact BS.nil _ _ _;have:=c.lt hl;refine c.gb g (λe=>?_);obtain e|e|e:=d b e
 omega;exact hl e;exact e _ rfl rfl
theorem bF.ao(h:bF w a n k L)(g:w.grownBy W none):bF W a n k L:=h.gb g (λ_ e=>by cases e)
theorem bm.lt(h:bm w n x L):∀k,x.ownBlock=some k->n<=k/\k<w.heap.size:=h.2.lt
theorem tf(l:List Int)(i:Nat)(h:i<l.length):(bv l)[i]?=some (.int .u8 (l.getD i 0)):=by
 simp[bv,eD h]
theorem bm.bs(h:bm w n y L):∃a cap,y=.slice a L.length cap/\bF w a L.length cap L/\(∀x,a=some x->n<=x.block/\x.block<w.heap.size/\x.off=0)/\(L≠[]->a≠none):=by
 obtain⟨b,l,d⟩:=h;obtain⟨rfl,f⟩|⟨g,cap,cur,rfl,aa,c,j,hm,hs,k⟩:=d
 have:L=[]:=iF f;subst this;exact⟨none,0,rfl,⟨b,rfl,aP _,by simp[maxLen],.inl ⟨rfl,rfl⟩⟩,(λ_ e=>by cases e),(λe=>absurd rfl e)⟩
 refine⟨some ⟨g,0,none⟩,cap,rfl,⟨b,rfl,j,hm,.inr ⟨g,0,rfl,?_,b⟩⟩,(λx e=>by cases e;exact⟨aa,(aY.1 c).1,rfl⟩),(λ_ e=>by cases e)⟩
 intro i hi;have e1:(bv L)[i]?=cur.toList[i]? :=by rw[<-k,jA,az (by omega)]
 rw[tf L i hi]at e1;simp only[World.cell?,c,dR]
 simpa using e1.symm
theorem bm.nil(w:World)(a:Nat):bm w a (.slice none 0 0) []:=⟨λx b=>by simp at b,om _ _ _ _⟩
theorem bm.gb(h:bm w n x L)(g:w.grownBy W N)(a:x.ownBlock=none\/x.ownBlock≠N):bm W n x L:=⟨h.1,h.2.kept g a⟩
theorem bm.ao(h:bm w n x L)(g:w.grownBy W none):bm W n x L:=h.gb g (by cases x.ownBlock<;>simp)
theorem zL(h:Below n W w)(o:bm w i x L)(a:w.grownBy V x.ownBlock)(b:n<=w.heap.size)(c:n<=i):Below n W V:=
 h.grown a b (λk e=>bD c (o.lt k e).1)
theorem uM(w:World)(x:Int)(b:W8 x):bF (w.alloc (.cells #[.int .u8 x] 5)) (some ⟨w.heap.size,0,none⟩) 1 1 [x]:=by
 have a:∀y∈[x],W8 y:=λy c=>by rw[cS.1 c];exact b
 refine⟨a,rfl,by simp,by simp[maxLen],.inr ⟨_,_,rfl,?_,a⟩⟩
 intro i hi;obtain rfl:i=0:=by simpa using hi
 simp
theorem xp:(prog.info? 5).map (λi=>(i.zero,i.size,i.bytes))=some (some (.int .u8 0),1,1):=by kernel_rfl
theorem zM(ty:TypeId)(d:Nat)(v:Value)(l:List Int)(f:bm w d v l)
 (n:Option Addr) (nx g:Nat) (m:List Int) (t:bF w n nx g m) (I:l.length+m.length<=100000000) (x:d<=w.heap.size):
 ∃a c e,(Builtin.append_ #[112,112] ty #[v,.slice n nx g]).run prog w=.ok (.slice a (l.length+m.length) c) e/\bm e d (.slice a (l.length+m.length) c) (l++m)/\w.grownBy e v.ownBlock/\((Value.slice a (l.length+m.length) c).ownBlock=v.ownBlock\/(Value.slice a (l.length+m.length) c).ownBlock=some w.heap.size):=by
 obtain⟨p,hi,z,A,B⟩:=lg xp;obtain⟨m1,rfl,K,L,h⟩:=t;obtain⟨rfl,rfl⟩|⟨b,off,rfl,h⟩:=h
 have:m=[]:=iF (by omega);subst this;have i:=run_append_owned_none (P:=prog) (w:=w) d 112 ty 5 p 1 underlying112 hi v _ _ f.2;obtain⟨a,c,rfl,M⟩:=f.bs;exact⟨a,c,w,i,by simpa using f,aB _ _,.inl rfl⟩
 obtain⟨C,e,i,D,E,_,F⟩:=run_append_own_at (P:=prog) w d 112 ty 5 p (.int .u8 0) 1 1 underlying112 hi z A B rfl (by decide) v l.length (bv l) f.2 ⟨b,off,none⟩ m.length g (bv m) (by simp[bv]) (by
  intro j u k;have q:j<m.length:=by
   have:=(kF.1 k).1;simpa [bv]using this
  rw[tf m j q]at k;obtain rfl:=aO k;rw[Addr.add_lit];exact h.1 j q) (by
  intro u G;obtain⟨y,_,rfl⟩:=eQ.1 G;rfl) (by simp[maxLen];omega) (by omega) x
 have r:bm e d C (l++m):=⟨λy H=>(bQ.1 H).elim (f.1 y) (m1 y),by simpa [bv]using D⟩
 obtain⟨a,c,s,_⟩:=r.bs;rw[bH]at s;subst s;exact⟨a,c,e,i,r,E,F⟩
theorem zN{K:Act->World->Prop}(s x:Operand)
 (ho:H.op=.call {callee:=.builtin .append,args:= #[s,x],argTypes:= #[112,112]})
 (d:Nat) (v:Value) (l:List Int) (hs:I.eval s=v) (g:bm w d v l)
 (e:Option Addr) (nx f:Nat) (m:List Int) (i:I.eval x=.slice e nx f) (j:bF w e nx f m) (k:l.length+m.length<=100000000) (n:d<=w.heap.size)
 (h:∀a b c,bm c d (.slice a (l.length+m.length) b) (l++m)->w.grownBy c v.ownBlock->((Value.slice a (l.length+m.length) b).ownBlock=v.ownBlock\/(Value.slice a (l.length+m.length) b).ownBlock=some w.heap.size)->
   K (I.put H.dst (.slice a (l.length+m.length) b)) c):Oper.wp prog H I w K F:=by
 obtain⟨a,b,c,p,q,r,t⟩:=zM (w:=w) H.type d v l g e nx f m j k n;unfold Oper.wp execOp;simp only[ho,resolve,invoke,builtin,iU,mi,iT,nF,ki,mP,hs,i,p]
 exact h a b c q r t
theorem rG{g:Array Oper}{rest:List Oper}(i:H.guard=none)(s x:Operand)
 (ho:H.op=.call {callee:=.builtin .append,args:= #[s,x],argTypes:= #[112,112]})
 (d:Nat) (v:Value) (l:List Int) (hs:I.eval s=v) (j:bm w d v l)
 (e:Option Addr) (nx f:Nat) (m:List Int) (k:I.eval x=.slice e nx f) (n:bF w e nx f m) (p:l.length+m.length<=100000000) (q:d<=w.heap.size)
 (h:∀a b c,bm c d (.slice a (l.length+m.length) b) (l++m)->w.grownBy c v.ownBlock->((Value.slice a (l.length+m.length) b).ownBlock=v.ownBlock\/(Value.slice a (l.length+m.length) b).ownBlock=some w.heap.size)->
   wpList prog g F rest (I.put H.dst (.slice a (l.length+m.length) b)) c):wpList prog g F (H::rest) I w:=
 sZ i λ_ r=>zN s x ho d v l hs j e nx f m k n p q λa b c t u y=>r _ _ (h a b c t u y)
theorem uN{g:Array Oper}{K:Act->World->Prop}{E:Prop}(i:H.guard=none)(s x:Operand)
 (ho:H.op=.call {callee:=.builtin .append,args:= #[s,x],argTypes:= #[112,112]})
 (a:Nat) (v:Value) (l:List Int) (hs:I.eval s=v) (j:bm w a v l)
 (d:Option Addr) (nx e:Nat) (m:List Int) (k:I.eval x=.slice d nx e) (n:bF w d nx e m) (p:l.length+m.length<=100000000) (q:a<=w.heap.size)
 (h:∀b c f,bm f a (.slice b (l.length+m.length) c) (l++m)->w.grownBy f v.ownBlock->((Value.slice b (l.length+m.length) c).ownBlock=v.ownBlock\/(Value.slice b (l.length+m.length) c).ownBlock=some w.heap.size)->
   K (I.put H.dst (.slice b (l.length+m.length) c)) f):if Region.wanted H (yielded g I.tmps)=true then Oper.wp prog H I w K F else E:=by
 have r:Region.wanted H (yielded g I.tmps)=true:=by simp[Region.wanted,i]
 rw[az r];exact zN s x ho a v l hs j d nx e m k n p q h
theorem zP:(prog.info? 5).map (·.size)=some 1:=by kernel_rfl
theorem uO(w:World)(g:Nat)(cs:Array Value):w.grownBy (w.setRow g cs) (some g):=
 ⟨rfl,rfl,rfl,by simp[World.setRow],λk _ a=>setRow_other w g k cs (λe=>a (by rw[e]))⟩
theorem fC(l:List Int):(bv l).length=l.length:=by simp[bv]
theorem zQ(l:List Int)(o:Nat)(m:List Int):bv (splice l o m)=splice (bv l) o (bv m):=by simp[bv,splice]
theorem Fe(ty:TypeId)(g off a e:Nat)(sp:Option Addr)(n c:Nat)(m:List Int)(q:bF w sp n c m)
 (d:List Int) (t:TypeId) (f:w.heap[g]?=some (.cells (bv d).toArray t (0,0))) (r:off+(m.take a).length<=d.length):
 ∃h,(Builtin.copy_ #[112,112] ty #[.slice (some ⟨g,off,none⟩) a e,.slice sp n c]).run prog w=.ok (goInt (m.take a).length) h/\h.heap[g]?=some (.cells (bv (splice d off (m.take a))).toArray t (0,0))/\w.grownBy h (some g):=by
 obtain⟨m1,rfl,z,A,i⟩:=q;by_cases h0:(m.take a).length=0;have s:m.take a=[]:=iF h0;have k:=run_copy_none (P:=prog) w 112 112 ty 5 (some ⟨g,off,none⟩) sp a e m.length c underlying112 zP (by rw[ct,Nat.min_comm]at h0;exact h0);exact⟨w,by rw[h0];exact k,by rw[s];simpa [splice]using f,aB _ _⟩
 obtain⟨rfl,rfl⟩|⟨b,v,rfl,i⟩:=i
 have:m=[]:=iF (by omega);subst this;simp at h0;have hl:(bv (m.take a)).length=(m.take a).length:=fC _;have k:=run_copy_row (P:=prog) w 112 112 ty 5 g off a e ⟨b,v,none⟩ m.length c (bv d).toArray t (bv (m.take a)) underlying112 zP f (by rw[hl,ct,Nat.min_comm]) (by
  intro j u l;have p:j<(m.take a).length:=by
   have:=(kF.1 l).1;rwa[fC]at this
  rw[tf _ j p]at l;obtain rfl:=aO l;rw[Addr.add_lit];rw[ct]at p;rw[i.1 j (by omega)];simp[show j<a by omega]) (by rw[hl];simpa [bv]using r) (by
  intro u x;obtain⟨y,_,rfl⟩:=eQ.1 x;rfl)
 refine⟨_,by rw[k,hl],?_,uO _ _ _⟩
 rw[setRow_heap w g _ _ t _ f,zQ];simp[splice,fC]
theorem zS{K:Act->World->Prop}(d s:Operand)
 (ho:H.op=.call {callee:=.builtin .copy,args:= #[d,s],argTypes:= #[112,112]})
 (g off a i:Nat) (hd:I.eval d=.slice (some ⟨g,off,none⟩) a i) (sp:Option Addr) (e f:Nat) (hs:I.eval s=.slice sp e f) (m:List Int) (j:bF w sp e f m)
 (c:List Int) (t:TypeId) (k:w.heap[g]?=some (.cells (bv c).toArray t (0,0))) (l:off+(m.take a).length<=c.length)
 (h:∀b,b.heap[g]?=some (.cells (bv (splice c off (m.take a))).toArray t (0,0))->w.grownBy b (some g)->K (I.put H.dst (goInt (m.take a).length)) b):Oper.wp prog H I w K F:=by
 obtain⟨b,n,p,q⟩:=Fe (w:=w) H.type g off a i sp e f m j c t k l;unfold Oper.wp execOp;simp only[ho,resolve,invoke,builtin,iU,mi,iT,nF,ki,mP,hd,hs,n]
 exact h b p q
theorem ti{i:Array Oper}{rest:List Oper}(d s:Operand)
 (ho:H.op=.call {callee:=.builtin .copy,args:= #[d,s],argTypes:= #[112,112]}) (k:H.guard=none)
 (g off a j:Nat) (hd:I.eval d=.slice (some ⟨g,off,none⟩) a j) (sp:Option Addr) (e f:Nat) (hs:I.eval s=.slice sp e f) (m:List Int) (l:bF w sp e f m)
 (c:List Int) (t:TypeId) (n:w.heap[g]?=some (.cells (bv c).toArray t (0,0))) (p:off+(m.take a).length<=c.length)
 (h:∀b,b.heap[g]?=some (.cells (bv (splice c off (m.take a))).toArray t (0,0))->w.grownBy b (some g)->wpList prog i F rest (I.put H.dst (goInt (m.take a).length)) b):
 wpList prog i F (H::rest) I w:=
 sZ k λ_ q=>zS d s ho g off a j hd sp e f hs m l c t n p λb r u=>q _ _ (h b r u)
theorem Ff{i:Array Oper}{K:Act->World->Prop}{E:Prop}(d s:Operand)
 (ho:H.op=.call {callee:=.builtin .copy,args:= #[d,s],argTypes:= #[112,112]}) (k:H.guard=none)
 (g off a j:Nat) (hd:I.eval d=.slice (some ⟨g,off,none⟩) a j) (sp:Option Addr) (c e:Nat) (hs:I.eval s=.slice sp c e) (m:List Int) (l:bF w sp c e m)
 (b:List Int) (t:TypeId) (n:w.heap[g]?=some (.cells (bv b).toArray t (0,0))) (p:off+(m.take a).length<=b.length)
 (h:∀f,f.heap[g]?=some (.cells (bv (splice b off (m.take a))).toArray t (0,0))->w.grownBy f (some g)->K (I.put H.dst (goInt (m.take a).length)) f):
 if Region.wanted H (yielded i I.tmps)=true then Oper.wp prog H I w K F else E:=by
 have q:Region.wanted H (yielded i I.tmps)=true:=by simp[Region.wanted,k]
 rw[az q];exact zS d s ho g off a j hd sp c e hs m l b t n p h
theorem mQ:(prog.info? 24).map (·.size)=some 16:=by kernel_rfl
theorem qK{a:Array Oper}{rest:List Oper}(x:Operand)(ho:H.op=.load 24 x)(b:H.guard=none)
 (g:Nat) (c:I.eval x=.pointer (some ⟨g,0,none⟩)) (K:Array Value) (d:w.heap[g]?=some (.cells K 24 (0,0))) (e:K.size=16)
 (h:wpList prog a F rest (I.put H.dst (.agg K)) w):wpList prog a F (H::rest) I w:=
 oS b _ x ho g c _ K _ _ d underlying24 rfl (by rw[e];exact mQ) h
theorem tj(h:bF w a n k L):(convert 112 9 (.slice a n k)).run prog w=.ok (.string (strOfNums L)) w:=by
 obtain⟨e,d,f,g,c⟩:=h;obtain⟨rfl,rfl⟩|⟨b,o,rfl,c⟩:=c
 have:L=[]:=iF (by omega);subst this;exact run_convert_bytes_nil w _ _ underlying112 underlying5 n 0 _ underlying9;exact run_convert_bytes_arg w _ _ underlying112 underlying5 b o n k L d.symm (λi hi=>c.1 i (by omega)) _ underlying9
def aG(s:ByteArray):List Int:=s.data.toList.map λx=>(x.toNat:Int)
theorem fu(s:ByteArray):(aG s).length=s.size:=by unfold aG;rw[dA,p7];rfl
theorem qg(s:ByteArray):∀x∈aG s,W8 x:=by
 intro x a;obtain⟨y,_,rfl⟩:=eQ.1 a;have:=y.toNat_lt;unfold W8;omega
theorem mR(s:ByteArray)(w:World):(convert 9 112 (.string s)).run prog w=.ok (.slice (some ⟨w.heap.size,0,none⟩) s.size (grownCap w s.size 0 5)) (Lib.bytesWorld w 5 s):=
 Lib.run_convert_string_bytes w _ _ _ s underlying9 underlying112 underlying5
theorem uP(w:World)(s:ByteArray):w.grownBy (Lib.bytesWorld w 5 s) none:=
 ⟨rfl,rfl,rfl,by rw[Lib.bytesWorld_size];omega,λi hi _=>Lib.bytesWorld_at_old w _ s i hi⟩
theorem xq(w:World)(s:ByteArray)(hs:s.size<=100000000):bF (Lib.bytesWorld w 5 s) (some ⟨w.heap.size,0,none⟩) s.size (grownCap w s.size 0 5) (aG s):=by
 refine⟨qg s,(fu s).symm,grownCap_ge _ _ _ _,grownCap_le_maxLen _ _ _ _ (by simp[maxLen];omega),.inr ⟨_,0,rfl,?_⟩⟩
 refine⟨λi hi=>?_,qg s⟩
 rw[fu]at hi;have a:i<s.data.toList.length:=by rw[p7];exact hi
 have e1:s.data.toList.getD i 0=s.data.toList[i]:=by rw[List.getD,eD a];rfl
 have e2:(aG s).getD i 0=(s.data.toList[i].toNat:Int):=by unfold aG;rw[List.getD,List.getElem?_map,eD a];rfl
 rw[dR,Lib.bytesWorld_cell w _ s i hi,e1,e2]
theorem bm.gI(h:bm w k (.slice a n i) L):bF w a n i L:=by
 obtain⟨c,d,e,b,_⟩:=h.bs;simp only[Value.slice.injEq]at e;obtain⟨rfl,rfl,rfl⟩:=e;exact b
theorem zT(h:bm w k (.slice a n i) L):(a=none/\n=0)\/∃g cs,a=some ⟨g,0,none⟩/\k<=g/\w.heap[g]?=some (.cells cs 5 (0,0))/\n<=cs.size:=by
 obtain⟨d,f,b⟩:=h;obtain⟨e,j⟩|⟨g,cap,cur,e,aa,c,l,hm,hs,m⟩:=b
 cases e;exact .inl ⟨rfl,rfl⟩;cases e;exact .inr ⟨g,cur,rfl,aa,c,by omega⟩
theorem uQ(a:Option Addr)(n c:Nat)(l:List Int)(w:World)(m:Nat)(ho:bm w m (.slice a n c) l)(r:n<=100000000):
 Calls prog 97 #[.slice a n c] w λe p=>e=.returned (.tuple #[])/\w.grownBy p (Value.slice a n c).ownBlock:=by
 obtain⟨rfl,rfl⟩|⟨g,cs,rfl,s,aa,hs⟩:=zT ho
 ·go_enter func97,ntmps97;go_wp2;go_loopg [5] 0 (λf i wr=>f=0/\i=.int .i64 0/\wr=w);case atStart=>exact⟨rfl,rfl,rfl⟩
  case round=>
   obtain⟨rfl,rfl,rfl⟩:=hrel;go_wp2;refine eW (et rfl _ _ _) rfl ?_;exact⟨rfl,aB _ _⟩
 have h:(Value.slice (some ⟨g,0,none⟩) n c).ownBlock=some g:=rfl;rw[h];clear ho h;go_enter func97,ntmps97;go_wp2;go_loopg [5] n (λf i wr=>∃j:Nat,j<=n/\f=n-j/\i=.int .i64 (j:Int)/\w.grownBy wr (some g)/\∃b,wr.heap[g]?=some (.cells b 5 (0,0))/\n<=b.size);case atStart=>exact⟨0,by omega,by omega,rfl,aB _ _,cs,aa,hs⟩
 case round=>
  obtain⟨j,t,rfl,rfl,k,b,d,q⟩:=hrel;by_cases u:j<n
  ·have v:wr.cell? ⟨g,j,none⟩=some (b.getD j undef):=by simp[World.cell?,d,Array.getD,show j<b.size by omega]
   have x:wr.frozen? ⟨g,j,none⟩=false:=by simp[World.frozen?,d]
   replace d:=J d;go_wp2;go_roundg (n-(j+1));case measure=>omega
   case rel=>exact⟨j+1,by omega,rfl,by go_num,aI k _ _ (.inr rfl),_,heap_set (Z d) _,by simpa using q⟩
  go_wp2;refine eW (et rfl _ _ _) rfl ?_;exact⟨rfl,k⟩
theorem zU{g:Array Oper}{rest:List Oper}(i:H.guard=none)(x:Operand)
 (ho:H.op=.call {callee:=.builtin .append,args:= #[.const (.slice none 0 0),x],argTypes:= #[112,112]})
 (d:Option Addr) (nx e:Nat) (m:List Int) (j:I.eval x=.slice d nx e) (k:bF w d nx e m) (l:m.length<=100000000)
 (h:∀b c a,bm a w.heap.size (.slice b m.length c) m->w.grownBy a none->wpList prog g F rest (I.put H.dst (.slice b m.length c)) a):wpList prog g F (H::rest) I w:=by
 refine rG i (.const (.slice none 0 0)) x ho w.heap.size (.slice none 0 0) [] rfl (bm.nil _ _) d nx e m j k (by simpa using l) (aP _) ?_;intro b c a f n _;rw[fB,dR]at f⊢;rw[jQ]at f;exact h b c a f n
theorem iX{cs:List Value}(h:w.rangeAt b o cs)(g:w.grownBy W N)(a:N≠some b):W.rangeAt b o cs:=
 λj v c=>g.cell (h j v c) (λe=>a e.symm)
theorem uR{cs:List Value}(h:w.rangeAt b o cs)(p:Addr)(v:Value)(hp:p.block≠b):(w.setCell p v).rangeAt b o cs:=λj u a=>by
 rw[lH (w:=w) (dy _ _ _ _ (Ne.symm hp))];exact h j u a
theorem kj{fr:Nat×Nat}{cs:List Value}(h:w.heap[b]?=some (.cells cs.toArray T fr)):w.rangeAt b 0 cs:=λj v a=>by
 simp only[World.cell?,h,dR];simpa using a
structure Rg where
 lo:Int
 hi:Int
structure Fr where
 kind:Int
 stream:Int
 offset:Int
 code:Int
 fin:Bool
 data:ByteArray
 ranges:List Rg
def Rg.ok(r:Rg):Prop:=aV r.lo/\aV r.hi
def dz(x:Int):Prop:= -9223372036854775808<=x/\x<=9223372036854775807
def Fr.ok(f:Fr):Prop:=dz f.kind/\dz f.stream/\aV f.offset/\aV f.code/\∀r∈f.ranges,r.ok
def aR(n:Int):List Int:=
 if n<64 then[n]else if n<16384 then[n/256+64,n %256]
 else if n<1073741824 then[n/16777216+128,n/65536 %256,n/256 %256,n %256]
 else[n/72057594037927936+192,n/281474976710656 %256,n/1099511627776 %256,n/4294967296 %256,n/16777216 %256,n/65536 %256,n/256 %256,n %256]
def dS(n:Int):Prop:=0<=n/\n<=4611686018427387903
theorem mS{n:Int}(h:dS n):∀x∈aR n,W8 x:=by
 unfold dS at h;intro x a;unfold aR at a;unfold W8;split at a;simp only[cS]at a;omega;split at a;simp only[fk,qG,oT]at a;omega;split at a;simp only[fk,qG,oT]at a;omega;simp only[fk,qG,oT]at a;omega
theorem gJ(n:Int):1<=(aR n).length/\(aR n).length<=8:=by
 unfold aR;repeat' split
 all_goals simp
def au(l:List Rg)(i:Nat):Rg:=l.getD i ⟨0,0⟩
def mT(l:List Rg)(i:Nat):Prop:=(au l i).lo<=(au l i).hi/\(au l i).hi<=4611686018427387903/\(0<i->(au l i).hi+2<=(au l (i-1)).lo)
def iI(l:List Rg):Prop:=0<l.length/\∀i,i<l.length->mT l i
def oX(f:Fr):Prop:=f.offset<=4611686018427387903/\f.code<=4611686018427387903/\0<=f.stream/\f.stream<4
def qh(f:Fr):Prop:=(f.kind=3->iI f.ranges)/\(f.kind=5->(f.data.size:Int)<=4611686018427387903-f.offset)
def cU(f:Fr):Prop:=oX f/\qh f/\1<=f.kind/\f.kind<=6
def tm(l:List Rg)(i:Nat):List Int:=aR ((au l i).lo-(au l (i+1)).hi-2)++aR ((au l (i+1)).hi-(au l (i+1)).lo)
def jB(l:List Rg):Nat->List Int
 |0=>[]
 |j+1=>jB l j++tm l j
def lK(l:List Rg):List Int:=aR (au l 0).hi++aR ((l.length:Int)-1)++aR ((au l 0).hi-(au l 0).lo)
def fS(l:List Rg):List Int:=lK l++jB l (l.length-1)
def da(f:Fr):List Int:=
 if f.kind=1 then[0]else if f.kind=2 then[1]else if f.kind=3 then 2::fS f.ranges
 else if f.kind=4 then 4::(aR f.stream++aR f.code++aR f.offset)
 else if f.kind=5 then(if f.fin then 9 else 8)::(aR f.stream++aR f.offset++aR f.data.size++aG f.data)
 else 28::aR f.code
def bw:List Fr->List Int
 |[]=>[]
 |f::r=>da f++bw r
theorem Fg(l r:List Fr):bw (l++r)=bw l++bw r:=by
 induction l with
 |nil=>rfl
 |cons f l a=>simp[bw,a]
theorem Fh(l:List Fr)(j:Nat)(h:j<l.length):bw (l.take (j+1))=bw (l.take j)++da l[j]:=by
 rw[ry h,Fg];simp[bw]
def lL(f:Fr):Nat:=25+16*f.ranges.length+f.data.size
def fL:List Fr->Nat
 |[]=>0
 |f::r=>lL f+fL r
theorem xu(l:List Rg)(j:Nat):(jB l j).length<=16*j:=by
 induction j with
 |zero=>simp[jB]
 |succ j a=>
  have b:=gJ ((au l j).lo-(au l (j+1)).hi-2);have c:=gJ ((au l (j+1)).hi-(au l (j+1)).lo);simp only[jB,tm,bH];omega
theorem uS(f:Fr):1<=(da f).length/\(da f).length<=lL f:=by
 have a:=gJ f.stream;have b:=gJ f.code;have c:=gJ f.offset;have d:=gJ f.data.size;have a5:=fu f.data;have a6:=xu f.ranges (f.ranges.length-1);have a7:=gJ (au f.ranges 0).hi;have e:=gJ ((f.ranges.length:Int)-1);have g:=gJ ((au f.ranges 0).hi-(au f.ranges 0).lo);unfold da lL;repeat' split
 all_goals simp only[fS,lK,dq,bH,fB];omega
theorem Fi(l:List Fr):(bw l).length<=fL l:=by
 induction l with
 |nil=>simp[bw,fL]
 |cons f r a=>have:=uS f;simp only[bw,fL,bH];omega
theorem oY{l:List Rg}(a:∀r∈l,r.ok)(h:iI l)(i:Nat)(hi:i<l.length):dS (au l i).lo/\dS (au l i).hi:=by
 have b:=h.2 i hi;have c:(au l i).ok:=a _ (by unfold au;rw[List.getD,eD hi];exact sU hi);unfold Rg.ok aV at c;unfold mT at b;unfold dS;omega
theorem zV{l:List Rg}(e:∀r∈l,r.ok)(h:iI l):∀j,j<l.length->∀x∈jB l j,W8 x
 |0,_=>by intro x d;simp[jB]at d
 |j+1,f=>by
  intro x d;have a:=oY e h j (by omega);have b:=oY e h (j+1) f;have c:=h.2 (j+1) f;unfold mT at c;simp only[rB]at c;unfold dS at a b;simp only[jB,tm,bQ]at d;obtain d|d|d:=d
  exact zV e h j (by omega) x d;exact mS (by unfold dS;omega) x d;exact mS (by unfold dS;omega) x d
theorem Fj{l:List Rg}(e:∀r∈l,r.ok)(h:iI l)(hl:(l.length:Int)<=4611686018427387903):∀x∈lK l,W8 x:=by
 have a:=oY e h 0 h.1;have c:=(h.2 0 h.1).1;have d:=h.1;unfold dS at a;intro x b;simp only[lK,bQ]at b;obtain(b|b)|b:=b
 exact mS (by unfold dS;omega) x b;exact mS (by unfold dS;omega) x b;exact mS (by unfold dS;omega) x b
def eY(x:Int):Nat:=if x<64 then 1 else if x<128 then 2 else if x<192 then 4 else 8
def iY(b:List Int)(p:Nat):Nat->Int
 |0=>b.getD p 0 %64
 |k+1=>iY b p k*256+b.getD (p+k+1) 0
def cN(b:List Int)(p:Nat):Option (Int×Nat):=
 if p+eY (b.getD p 0)<=b.length then some (iY b p (eY (b.getD p 0)-1),p+eY (b.getD p 0))else none
theorem tp(x:Int):1<=eY x/\eY x<=8:=by
 unfold eY;repeat' split
 all_goals omega
theorem xv{b:List Int}(a:∀x∈b,W8 x)(p:Nat):∀k,0<=iY b p k/\iY b p k<64*256^k
 |0=>by simp only[iY];omega
 |k+1=>by
  have d:=xv a p k;have c:=qe a (p+k+1);unfold W8 at c;simp only[iY,Int.pow_succ]
  generalize (256:Int)^k=q at *;omega
theorem kH{b:List Int}{p:Nat}{n:Int}{q:Nat}(a:∀x∈b,W8 x)(h:cN b p=some (n,q)):dS n/\p<q/\q<=b.length:=by
 unfold cN at h;split at h;simp only[mf,qI]at h;obtain⟨rfl,rfl⟩:=h;have:=tp (b.getD p 0);have c:=xv a p (eY (b.getD p 0)-1);have d:(256:Int)^(eY (b.getD p 0)-1)<=256^7:=by
  have:(256:Nat)^(eY (b.getD p 0)-1)<=256^7:=wZ (by decide) (by omega);have e:∀k:Nat,(256:Int)^k=((256^k:Nat):Int):=λk=>by simp
  rw[e,e];omega
 unfold dS;omega;cases h
def jR(b:List Int)(p:Nat):Option (Int×Nat):=(cN b p).bind λx=>if x.1<4 then some x else none
def nH(b:List Int)(p:Nat):Option (ByteArray×Nat):=
 (cN b p).bind λx=>if x.1<=(b.length:Int)-(x.2:Int)then some (strOfNums ((b.drop x.2).take x.1.toNat),x.2+x.1.toNat)else none
def jC(b:List Int):Nat->Nat->Int->List Rg->Option (List Rg×Nat)
 |0,p,_,acc=>some (acc,p)
 |k+1,p,lo,acc=>(cN b p).bind λx=>(cN b x.2).bind λy=>
  if x.1+2<=lo/\y.1<=lo-2-x.1 then jC b k y.2 (lo-2-x.1-y.1) (acc++[⟨lo-2-x.1-y.1,lo-2-x.1⟩])else none
def jD(b:List Int)(p:Nat):Option (List Rg×Nat):=
 (cN b p).bind λx=>(cN b x.2).bind λy=>(cN b y.2).bind λz=>
   if z.1<=x.1 then jC b y.1.toNat z.2 (x.1-z.1) [⟨x.1-z.1,x.1⟩]else none
def cu(k:Int)(fin:Bool):Fr:=⟨k,0,0,0,fin,ByteArray.empty,[]⟩
def fD(b:List Int)(t:Int)(p:Nat):Option (Fr×Nat):=
 if t=0 then some (cu 1 false,p)else if t=1 then some (cu 2 false,p)
 else if t=2 then(jD b p).bind λx=>some ({cu 3 false with ranges:=x.1},x.2)
 else if t=4 then(jR b p).bind λx=>(cN b x.2).bind λy=>(cN b y.2).bind λz=>some ({cu 4 false with stream:=x.1,code:=y.1,offset:=z.1},z.2)
 else if t=8\/t=9 then(jR b p).bind λx=>(cN b x.2).bind λy=>(nH b y.2).bind λz=>some ({cu 5 (decide (t=9))with stream:=x.1,offset:=y.1,data:=z.1},z.2)
 else if t=28 then(cN b p).bind λx=>some ({cu 6 false with code:=x.1},x.2)
 else none
open Classical in
noncomputable def mU(b:List Int)(p:Nat):Option (Fr×Nat):=(fD b (b.getD p 0) (p+1)).bind λx=>if cU x.1 then some x else none
noncomputable def iz(b:List Int):Nat->Nat->List Fr->Option (List Fr)×Int
 |0,p,_=>(none,p)
 |k+1,p,acc=>if p<b.length then(match mU b p with
  |none=>(none,p)
  |some (f,q)=>iz b k q (acc++[f]))else(some acc,-1)
noncomputable def fE(b:List Int):Option (List Fr)×Int:=if b.length=0 then(none,0)else iz b (b.length+1) 0 []
variable{X:List Rg}
def Sm(l:List Rg)(n:Int):Prop:=∃r∈l,r.lo<=n/\n<r.hi
def bh(l:List Rg):Prop:=l.Pairwise (λa b=>a.hi<b.lo)/\∀r∈l,r.lo<r.hi
theorem bh.nil:bh []:=⟨List.Pairwise.nil,λr h=>by cases h⟩
theorem fM(n:Int):¬Sm [] n:=λ⟨r,h,_⟩=>by cases h
theorem eu(r:Rg)(l:List Rg)(n:Int):Sm (r::l) n↔(r.lo<=n/\n<r.hi)\/Sm l n:=by
 constructor;rintro⟨x,a,h⟩;obtain rfl|a:=fk.1 a
 exact .inl h;exact .inr ⟨x,a,h⟩;rintro(h|⟨x,a,h⟩);exact⟨r,by simp,h⟩
 exact⟨x,by simp[a],h⟩
theorem rH(l r:List Rg)(n:Int):Sm (l++r) n↔Sm l n\/Sm r n:=by
 induction l with
 |nil=>simp[fM]
 |cons x l a=>rw[qa,eu,eu,a,or_assoc]
theorem bh.tail{r:Rg}(h:bh (r::X)):bh X:=⟨(p8.1 h.1).2,λx a=>h.2 x (by simp[a])⟩
theorem bh.behind{r:Rg}(h:bh (r::X))(a:Sm X p):r.hi<p:=by
 obtain⟨x,b,c,d⟩:=a;have:=(p8.1 h.1).1 x b;omega
theorem bh.append{r:List Rg}(c:bh X)(d:bh r)(h:∀a∈X,∀b∈r,a.hi<b.lo):bh (X++r):=
 ⟨List.pairwise_append.2 ⟨c.1,d.1,h⟩,λx e=>(bQ.1 e).elim (c.2 x) (d.2 x)⟩
theorem bh.one{x:Rg}(h:x.lo<x.hi):bh [x]:=⟨List.pairwise_singleton _ _,λy a=>by simp at a;subst a;exact h⟩
theorem bh.sub{r:List Rg}(h:bh X)(hs:r.Sublist X):bh r:=⟨h.1.sublist hs,λx a=>h.2 x (hs.subset a)⟩
theorem bh.unique{r:List Rg}(c:bh X)(e:bh r)(h:∀n,Sm X n↔Sm r n):X=r:=by
 induction X generalizing r with
 |nil=>
  cases r with
  |nil=>rfl
  |cons y r=>
   have:=(h y.lo).2 ⟨y,by simp,cW _,e.2 y (by simp)⟩;exact absurd this (fM _)
 |cons x X k=>
  cases r with
  |nil=>
   have:=(h x.lo).1 ⟨x,by simp,cW _,c.2 x (by simp)⟩;exact absurd this (fM _)
  |cons y r=>
   have l:=c.2 x (by simp);have m:=e.2 y (by simp);have g:=(eu y r x.lo).1 ((h x.lo).1 ⟨x,by simp,cW _,l⟩);have b:=(eu x X y.lo).1 ((h y.lo).2 ⟨y,by simp,cW _,m⟩);have i:x.lo=y.lo:=by
    obtain g|g:=g
    obtain b|b:=b
    omega;have:=c.behind b;omega;have:=e.behind g;obtain b|b:=b
    omega;have:=c.behind b;omega
   have b1:¬Sm (x::X) x.hi:=λa=>by
    obtain a|a:=(eu _ _ _).1 a
    omega;have:=c.behind a;omega
   have b2:¬Sm (y::r) y.hi:=λa=>by
    obtain a|a:=(eu _ _ _).1 a
    omega;have:=e.behind a;omega
   have j:x.hi=y.hi:=by
    obtain p|he|q:=Int.lt_trichotomy x.hi y.hi
    exact absurd ((h x.hi).2 ⟨y,by simp,by omega,p⟩) b1;exact he;exact absurd ((h y.hi).1 ⟨x,by simp,by omega,q⟩) b2
   obtain⟨s,t⟩:=x;obtain⟨u,v⟩:=y;simp only at i j;subst i j;congr 1;refine k c.tail e.tail (λn=>?_);have a:=h n;rw[eu,eu]at a;constructor;intro f;have:=c.behind f;obtain d|d:=a.1 (.inr f)
   simp only at this d;omega;exact d;intro f;have:=e.behind f;obtain d|d:=a.2 (.inr f)
   simp only at this d;omega;exact d
theorem oZ(h:i<X.length):au X i∈X:=by
 unfold au;rw[List.getD,eD h];exact sU h
theorem xw{r:Rg}(h:r∈X.take i):∃k,k<i/\k<X.length/\r=au X k:=by
 obtain⟨k,a,rfl⟩:=jP.1 h;rw[ct]at a;refine⟨k,by omega,by omega,?_⟩
 rw[uF,au,List.getD,eD (by omega)];rfl
theorem rI{r:Rg}(h:r∈X.drop i):∃k,i<=k/\k<X.length/\r=au X k:=by
 obtain⟨k,a,rfl⟩:=jP.1 h;rw[dF]at a;refine⟨i+k,by omega,by omega,?_⟩
 rw[uH,au,List.getD,eD (by omega)];rfl
theorem bh.lt(h:bh X){i k:Nat}(b:i<k)(a:k<X.length):(au X i).hi<(au X k).lo:=by
 have:=List.pairwise_iff_getElem.1 h.1 i k (by omega) a b;simpa [au,List.getD,eD a,eD (show i<X.length by omega)]using this
theorem bh.pos(h:bh X)(hi:i<X.length):(au X i).lo<(au X i).hi:=h.2 _ (oZ hi)
def lM(n k:Nat)(p:Nat->Prop):Prop:=k<=n/\(∀i,i<k->¬p i)/\∀i,k<=i->i<n->p i
theorem Fk(h:bh X)(e:p<q)(hi:lM X.length i (λk=>p<=(au X k).hi))(a:lM X.length j (λk=>q<(au X k).lo)):i<=j:=by
 obtain⟨f,b,g⟩:=hi;obtain⟨l,m,c⟩:=a;by_cases d:i<=j;exact d;have n:=b j (by omega);have r:=c j (aP _) (by omega);have s:=h.pos (i:=j) (by omega);omega
def uT(l:List Rg)(x:Rg)(i j:Nat):List Rg:=
 l.take i++((if i<j then⟨min x.lo (au l i).lo,max x.hi (au l (j-1)).hi⟩else x)::l.drop j)
theorem Fl{x:Rg}(h:bh X)(I:x.lo<x.hi)(hi:lM X.length i (λk=>x.lo<=(au X k).hi))(v:lM X.length j (λk=>x.hi<(au X k).lo)):
 bh (uT X x i j)/\∀n,Sm (uT X x i j) n↔Sm X n\/(x.lo<=n/\n<x.hi):=by
 obtain⟨K,s,w⟩:=hi;obtain⟨L,z,t⟩:=v;have M:i<=j:=by
  by_cases A:i<=j;exact A;have N:=s j (by omega);have O:=t j (aP _) (by omega);have P:=h.pos (i:=j) (by omega);omega
 obtain⟨y,d⟩:∃y:Rg,y=(if i<j then⟨min x.lo (au X i).lo,max x.hi (au X (j-1)).hi⟩else x):=⟨_,rfl⟩
 have Q:y.lo<=x.lo/\x.hi<=y.hi:=by
  rw[d];split;simp only;omega;omega
 have B:∀k,k<i->(au X k).hi<y.lo:=λk f=>by
  have a:=s k f;rw[d];split;have:=h.lt f (show i<X.length by omega);simp only;omega;omega
 have C:∀k,j<=k->k<X.length->y.hi<(au X k).lo:=λk f u=>by
  have a:=t k f u;rw[d];split;have:=h.lt (show j-1<k by omega) u;simp only;omega;omega
 have D:uT X x i j=X.take i++(y::X.drop j):=by rw[d];rfl
 rw[D];constructor;refine(h.sub (List.take_sublist i X)).append ⟨p8.2 ⟨λb g=>?_,(h.sub (List.drop_sublist j X)).1⟩,λr c=>?_⟩ (λa E b g=>?_);obtain⟨k,l,q,rfl⟩:=rI g;exact C k l q;obtain rfl|c:=fk.1 c
 omega;exact h.2 r (iG c);obtain⟨k,l,q,rfl⟩:=xw E;have e1:=B k l;obtain rfl|g:=fk.1 g
 exact e1;obtain⟨m,m1,F,rfl⟩:=rI g;exact h.lt (by omega) F;intro n;rw[rH,eu];have hl:X=X.take i++((X.drop i).take (j-i)++X.drop j):=by
  have e:X.drop j=(X.drop i).drop (j-i):=by rw[sX];congr 1;omega
  rw[e,oQ,oQ]
 have G:∀r∈(X.drop i).take (j-i),∃k,i<=k/\k<j/\r=au X k:=λr c=>by
  obtain⟨k,f,rfl⟩:=jP.1 c;rw[ct,dF]at f;refine⟨i+k,by omega,by omega,?_⟩
  rw[uF,uH,au,List.getD,eD (by omega)];rfl
 have iZ:Sm X n↔Sm (X.take i) n\/Sm ((X.drop i).take (j-i)) n\/Sm (X.drop j) n:=by
  rw[hl];simp only[rH]
  rw[<-hl]
 rw[iZ];constructor;rintro(a|a|a);exact .inl (.inl a);by_cases H:x.lo<=n/\n<x.hi;exact .inr H;left;right;left;rw[d]at a;split at a;rename_i p;simp only at a;by_cases R:n<x.lo;exact⟨au X i,by
  rw[jP];refine⟨0,by rw[ct,dF];omega,?_⟩
  rw[uF,uH,au,List.getD,eD (by omega)];rfl,by omega,by have:=w i (aP _) (by omega);omega⟩
 exact⟨au X (j-1),by
  rw[jP];refine⟨j-1-i,by rw[ct,dF];omega,?_⟩
  rw[uF,uH,au,List.getD,eD (by omega)];simp only[Option.getD_some]
  congr 1;omega,by have:=z (j-1) (by omega);omega,by omega⟩
 omega;exact .inl (.inr (.inr a));rintro((a|⟨r,c,a⟩|a)|a);exact .inl a;right;left;obtain⟨k,l,q,rfl⟩:=G r c;rw[d,az (by omega)];simp only
 have e1:(au X i).lo<=(au X k).lo:=by
  obtain p|rfl:=rA l
  have:=h.lt p (by omega);have:=h.pos (i:=i) (by omega);omega;omega
 have e2:(au X k).hi<=(au X (j-1)).hi:=by
  obtain p|he:=rA (show k<=j-1 by omega)
  have:=h.lt p (by omega);have:=h.pos (i:=j-1) (by omega);omega;rw[he];omega
 omega;exact .inr (.inr a);right;left;omega
theorem Fm{r:Rg}:r∈(X.drop i).take (j-i)->∃k,i<=k/\k<j/\k<X.length/\r=au X k:=λa=>by
 obtain⟨k,b,rfl⟩:=jP.1 a;rw[ct,dF]at b;refine⟨i+k,by omega,by omega,by omega,?_⟩
 rw[uF,uH,au,List.getD,eD (by omega)];rfl
theorem Fo(l:List Rg)(a:i<=j)(n:Int):Sm l n↔Sm (l.take i) n\/Sm ((l.drop i).take (j-i)) n\/Sm (l.drop j) n:=by
 have hl:l=l.take i++((l.drop i).take (j-i)++l.drop j):=by
  have e:l.drop j=(l.drop i).drop (j-i):=by rw[sX];congr 1;omega
  rw[e,oQ,oQ]
 have:Sm (l.take i++((l.drop i).take (j-i)++l.drop j)) n↔Sm (l.take i) n\/Sm ((l.drop i).take (j-i)) n\/Sm (l.drop j) n:=by simp only[rH]
 rwa[<-hl]at this
theorem zW(b:i<=k)(c:k<j)(a:k<X.length):au X k∈(X.drop i).take (j-i):=by
 rw[jP];refine⟨k-i,by rw[ct,dF];omega,?_⟩
 rw[uF,uH,au,List.getD,eD a];simp only[Option.getD_some]
 congr 1;omega
def uU(l:List Rg)(x:Rg)(i j:Nat):List Rg:=
 l.take i++((if(au l i).lo<x.lo then[⟨(au l i).lo,x.lo⟩]else[])++((if x.hi<(au l (j-1)).hi then[⟨x.hi,(au l (j-1)).hi⟩]else[])++l.drop j))
theorem Fp{x:Rg}(h:bh X)(L:x.lo<x.hi)(u:i<j)(hi:lM X.length i (λk=>x.lo<(au X k).hi))(y:lM X.length j (λk=>x.hi<=(au X k).lo)):
 bh (uU X x i j)/\∀n,Sm (uU X x i j) n↔Sm X n/\¬(x.lo<=n/\n<x.hi):=by
 obtain⟨M,z,A⟩:=hi;obtain⟨N,B,C⟩:=y;have O:=h.pos (i:=i) (by omega);have P:=h.pos (i:=j-1) (by omega);have ci:=A i (aP _) (by omega);have Q:=B (j-1) (by omega);have D:∀k,k<i->(au X k).hi<(au X i).lo:=λk f=>h.lt f (by omega)
 have v:∀k,k<i->(au X k).hi<=x.lo:=λk f=>by have:=z k f;omega
 have E:∀k,j<=k->k<X.length->(au X (j-1)).hi<(au X k).lo:=λk f s=>h.lt (by omega) s
 have w:∀k,j<=k->k<X.length->x.hi<=(au X k).lo:=λk f s=>C k f s
 have F:bh (if(au X i).lo<x.lo then[⟨(au X i).lo,x.lo⟩]else[]):=by
  split;exact bh.one (by assumption);exact bh.nil
 have G:bh (if x.hi<(au X (j-1)).hi then[⟨x.hi,(au X (j-1)).hi⟩]else[]):=by
  split;exact bh.one (by assumption);exact bh.nil
 have t:∀r∈(if(au X i).lo<x.lo then[(⟨(au X i).lo,x.lo⟩:Rg)]else[]),r.lo=(au X i).lo/\r.hi=x.lo/\(au X i).lo<x.lo:=λr c=>by
  split at c;simp only[cS]at c;subst c;exact⟨rfl,rfl,by assumption⟩
  cases c
 have q:∀r∈(if x.hi<(au X (j-1)).hi then[(⟨x.hi,(au X (j-1)).hi⟩:Rg)]else[]),r.lo=x.hi/\r.hi=(au X (j-1)).hi/\x.hi<(au X (j-1)).hi:=λr c=>by
  split at c;simp only[cS]at c;subst c;exact⟨rfl,rfl,by assumption⟩
  cases c
 constructor;refine(h.sub (List.take_sublist i X)).append (F.append (G.append (h.sub (List.drop_sublist j X)) (λa p b d=>?_)) (λa p b d=>?_)) (λa p b d=>?_);obtain⟨k,g,l,rfl⟩:=rI d;have:=q a p;have:=E k g l;omega;have m1:=t a p;obtain d|d:=bQ.1 d
 have:=q b d;omega;obtain⟨k,g,l,rfl⟩:=rI d;have:=w k g l;omega;obtain⟨k,g,l,rfl⟩:=xw p;have e1:=D k g;have e2:=v k g;obtain d|d:=bQ.1 d
 have:=t b d;omega;obtain d|d:=bQ.1 d
 have:=q b d;omega;obtain⟨m,m1,H,rfl⟩:=rI d;exact h.lt (by omega) H;intro n;rw[Fo X (Nat.le_of_lt u) n];unfold uU;simp only[rH]
 have tk:Sm (X.take i) n->n<x.lo:=λ⟨r,c,a⟩=>by
  obtain⟨k,g,l,rfl⟩:=xw c;have:=v k g;omega
 have I:Sm (X.drop j) n->x.hi<=n:=λ⟨r,c,a⟩=>by
  obtain⟨k,g,l,rfl⟩:=rI c;have:=w k g l;omega
 constructor;rintro(a|⟨r,c,a⟩|⟨r,c,a⟩|a);exact⟨.inl a,by have:=tk a;omega⟩
 have m1:=t r c;exact⟨.inr (.inl ⟨au X i,zW (aP _) u (by omega),by omega,by omega⟩),by omega⟩
 have m1:=q r c;exact⟨.inr (.inl ⟨au X (j-1),zW (by omega) (by omega) (by omega),by omega,by omega⟩),by omega⟩
 exact⟨.inr (.inr a),by have:=I a;omega⟩
 rintro⟨a|⟨r,c,a⟩|a,R⟩;exact .inl a;obtain⟨k,g,l,k3,rfl⟩:=Fm c;by_cases K:n<x.lo;right;left;have e:k=i:=by
  obtain f|f:=rA g
  have:=h.lt f k3;omega;exact f.symm
 subst e;rw[az (by omega)];exact⟨_,cS.2 rfl,a.1,K⟩
 right;right;left;have e:k=j-1:=by
  obtain f|f:=rA (show k<=j-1 by omega)
  have:=h.lt f (by omega);omega;exact f
 subst e;rw[az (by omega)];exact⟨_,cS.2 rfl,by show x.hi<=n;omega,a.2⟩
 exact .inr (.inr (.inr a))
theorem Fq{x:Rg}(h:bh X)(j:x.lo<x.hi):(∃r∈X,r.lo<=x.lo/\x.hi<=r.hi)↔∀n,x.lo<=n->n<x.hi->Sm X n:=by
 constructor;rintro⟨r,c,e,k⟩ n l m;exact⟨r,c,by omega,by omega⟩
 intro f;obtain⟨r,c,e,k⟩:=f x.lo (cW _) j;refine⟨r,c,e,?_⟩
 by_cases p:x.hi<=r.hi;exact p;obtain⟨s,hs,l,m⟩:=f r.hi (by omega) (by omega);obtain⟨a,g,rfl⟩:=jP.1 c;obtain⟨b,i,rfl⟩:=jP.1 hs;obtain d|rfl|d:=Nat.lt_trichotomy a b
 have:=List.pairwise_iff_getElem.1 h.1 a b g i d;omega;omega;have:=List.pairwise_iff_getElem.1 h.1 b a i g d;have:=h.2 _ c;omega
structure dB(w:World)(c:Nat)(v:Value)(b:World)(a:Value)(m:List Int):Prop where
 own:bm b c a m
 gb:w.grownBy b v.ownBlock
 aN:a.ownBlock=v.ownBlock\/∃k,a.ownBlock=some k/\w.heap.size<=k
theorem dB.refl(h:bm w n x L):dB w n x w x L:=⟨h,aB _ _,.inl rfl⟩
theorem dB.still(h:dB w n x W y L)(g:W.grownBy V none):dB w n x V y L:=
 ⟨h.own.ao g,cF h.gb g (λ_ e=>by cases e),h.aN⟩
theorem dB.trans(h:dB w n x W y L)(k:dB W n y V z K):dB w n x V z K:=
 ⟨k.own,cF h.gb k.gb (λj e=>by
  obtain aa|⟨b,a,hle⟩:=h.aN
  exact .inr aa
  ·rw[a]at e;cases e;exact .inl hle),by
  have hs:=h.gb.size;obtain c|⟨b,a,hle⟩:=k.aN
  rw[c];exact h.aN
  ·exact .inr ⟨b,a,by omega⟩⟩
theorem dB.app{a:World}(h:dB w n x W y L)(g:W.grownBy V none)(b:bm a n z K)(c:V.grownBy a y.ownBlock)(d:z.ownBlock=y.ownBlock\/z.ownBlock=some V.heap.size):dB w n x a z K:=
 (h.still g).trans ⟨b,c,by
   obtain e|e:=d
   exact .inl e
   ·exact .inr ⟨_,e,aP _⟩⟩
theorem dB.apart(h:dB w n x W y L){B:Nat}(b:B<w.heap.size)(a:x.ownBlock≠some B):W.heap[B]?=w.heap[B]? /\y.ownBlock≠some B:=by
 refine⟨h.gb.block B b (λe=>a e.symm),λe=>?_⟩
 obtain aa|⟨k,c,hle⟩:=h.aN
 exact a (aa.symm.trans e);rw[c]at e;cases e;omega
theorem dB.size(h:dB w n x W y L):w.heap.size<=W.heap.size:=h.gb.size
theorem dB.gI(h:dB w k x W (.slice a n i) L):bF W a n i L:=h.own.gI
def pw(n:Int):Int:=if n<64 then 0 else if n<16384 then 1 else if n<1073741824 then 2 else 3
theorem zX(n:Int)(w:World):Calls prog 295 #[.int .u64 n] w λe d=>e=.returned (.int .i64 (pw n))/\d=w:=by
 unfold pw;by_cases a:n<64
 ·have e1:decide (n<64)=true:=by simp[a]
  go_enter func295,ntmps295;go_wp2_with fail;go_ret;exact⟨by simp,rfl⟩
 have e1:decide (n<64)=false:=by simp[a]
 by_cases b:n<16384
 ·have e2:decide (n<16384)=true:=by simp[b]
  go_enter func295,ntmps295;go_wp2_with fail;go_ret;exact⟨by simp,rfl⟩
 have e2:decide (n<16384)=false:=by simp[b]
 by_cases c:n<1073741824
 ·have f:decide (n<1073741824)=true:=by simp[c]
  go_enter func295,ntmps295;go_wp2_with fail;go_ret;exact⟨by simp,rfl⟩
 have f:decide (n<1073741824)=false:=by simp[c]
 go_enter func295,ntmps295;go_wp2_with fail;go_ret;exact⟨by simp,rfl⟩
def jS(m:Int)(k:Nat):List Int:=(List.range k).map λi=>m/2^(8*(k-1)-8*i) %256
theorem zY(m:Int)(k:Nat):(jS m k).length=k:=by simp[jS]
theorem Fs(m:Int)(k j:Nat)(h:j<k):(jS m k).take (j+1)=(jS m k).take j++[m/2^(8*(k-1)-8*j) %256]:=by
 have hl:j<(jS m k).length:=by rw[zY];exact h
 rw[ry hl];simp[jS]
theorem uV(n:Int)(p k:Nat)(h0:0<=n)(b:n<(2^k:Nat))(c:p*2^k+2^k<=18446744073709551616):bits .or .u64 n ((p*2^k:Nat):Int)=n+((p*2^k:Nat):Int):=by
 obtain⟨m,rfl⟩:=pY h0;have a:m<2^k:=by omega
 rw[u64_or_nat _ _ (by omega) (by omega)];have:=wW a p;rw[Nat.shiftLeft_eq]at this;rw[Nat.or_comm,<-this];omega
theorem Ft(h:p<64)(h0:0<=p):aR p=jS p 1:=by
 simp[aR,jS,h];omega
theorem Fu(h:¬p<64)(a:p<16384):aR p=jS (p+16384) 2:=by
 simp[aR,jS,h,a,uJ];omega
theorem Fv(h:¬p<64)(a:¬p<16384)(b:p<1073741824):aR p=jS (p+2147483648) 4:=by
 simp[aR,jS,h,a,b,uJ];omega
theorem Fw(h:¬p<64)(a:¬p<16384)(b:¬p<1073741824)(c:dS p):aR p=jS (p+13835058055282163712) 8:=by
 unfold dS at c;simp[aR,jS,h,a,b,uJ];omega
def dJ(p:Prop)(e:Ending):Prop:=∃b:Bool,e=.returned (.bool b)/\(b=true↔p)
theorem rJ{p:Prop}(h:p):dJ p (.returned (.bool true)):=⟨true,rfl,by simp[h]⟩
theorem lN{p:Prop}(h:¬p):dJ p (.returned (.bool false)):=⟨false,rfl,by simp[h]⟩
theorem nI{p q:Prop} [Decidable q](h:q↔p):dJ p (.returned (.bool (decide q))):=⟨_,rfl,by simp[h]⟩
def cz(l:List Rg):List Value:=l.flatMap λr=>[.int .u64 r.lo,.int .u64 r.hi]
def bu(w:World)(a:Option Addr)(n cap:Nat)(l:List Rg):Prop:=
 (∀r∈l,r.ok)/\n=l.length/\n<=cap/\cap<=maxLen/\(cap=0\/∃b o,a=some ⟨b,o,none⟩/\w.rangeAt b o (cz l))
theorem qL(l:List Rg):(cz l).length=l.length*2:=by
 induction l with
 |nil=>rfl
 |cons r l a=>simp only[cz,rC,bH,dq,fB]at *;omega
theorem zZ(l:List Rg)(i:Nat)(h:i<l.length):(cz l)[i*2]?=some (.int .u64 (au l i).lo)/\(cz l)[i*2+1]?=some (.int .u64 (au l i).hi):=by
 induction l generalizing i with
 |nil=>simp at h
 |cons r l a=>
  cases i with
  |zero=>simp[cz,au]
  |succ i=>
   have:=a i (by simpa using h);have e1:(i+1)*2=i*2+1+1:=by omega
   have e2:(i+1)*2+1=i*2+1+1+1:=by omega
   rw[e2,e1];simp only[cz,rC,qa,jQ,List.getElem?_cons_succ,au,List.getD_cons_succ]at this⊢;exact this
theorem oD(h:∀r∈X,r.ok)(i:Nat):(au X i).ok:=by
 unfold au;by_cases hi:i<X.length;rw[List.getD,eD hi];exact h _ (sU hi);rw[List.getD,nz (by omega)];exact⟨by simp[aV],by simp[aV]⟩
theorem bu.ao(h:bu w a n k X)(g:w.grownBy W none):bu W a n k X:=by
 obtain⟨d,e,f,i,c⟩:=h;refine⟨d,e,f,i,?_⟩
 obtain c|⟨b,o,rfl,c⟩:=c
 exact .inl c;exact .inr ⟨b,o,rfl,iX c g (by simp)⟩
theorem bu.cell(h:bu w (some ⟨b,o,none⟩) n k X)(i:Nat)(hi:i<X.length):w.cell? ⟨b,o+i*2,none⟩=some (.int .u64 (au X i).lo)/\w.cell? ⟨b,o+i*2+1,none⟩=some (.int .u64 (au X i).hi):=by
 obtain⟨-,a,d,-,h|⟨f,g,e,c⟩⟩:=h;omega;cases e;have:=zZ X i hi;refine⟨c _ _ this.1,?_⟩
 have a:=c _ _ this.2;rwa[<-qc]at a
theorem Fx(h:∀i,i<j->mT X i)(a:mT X j):∀i,i<j+1->mT X i:=λi hi=>by
 obtain b|rfl:=pX.1 hi
 exact h i b;exact a
theorem Fy(a:Option Addr)(n cap:Nat)(l:List Rg)(w:World)(h:bu w a n cap l):
 Calls prog 234 #[.slice a n cap] w λe u=>dJ (iI l) e/\w.grownBy u none:=by
 have v:n=l.length:=h.2.1;subst v;have C:=h.2.2.1;have x:=h.2.2.2.1;unfold maxLen at x;go_enter func234,ntmps234;go_wp2_with fail;go_loopw [7] (λi wr=>∃j:Nat,j<=l.length/\i=.int .i64 (j:Int)/\(∀i,i<j->mT l i)/\w.grownBy wr none) (λi _=>l.length-(intOf i).toNat);case atStart=>exact⟨0,by omega,rfl,λi hi=>by omega,aB _ _⟩
 case round=>
  obtain⟨j,D,rfl,m,d⟩:=hrel;by_cases p:j<l.length
  ·have q:=h.ao d;obtain⟨-,-,-,-,h0|⟨b,o,rfl,-⟩⟩:=id q;omega;obtain⟨c1,c2⟩:=q.cell j p;have r:=oD h.1 j;obtain⟨⟨y,z⟩,k3,k4⟩:=r;obtain⟨lo,f⟩:=exq ((au l j).lo);obtain⟨hi,c⟩:=exq ((au l j).hi);rw[<-f]at c1 y z;rw[<-c]at c2 k3 k4;replace f:=J f;replace c:=J c;replace m:=J m;have E:Hid (0<l.length):=J (by omega);by_cases F:hi<lo
   ·go_wp2_with fail;go_ret;exact⟨lN (λg=>by have:=(g.2 j p).1;rw[<-Z f,<-Z c]at this;omega),ba d _⟩
   by_cases G:4611686018427387903<hi
   ·go_wp2_with fail;go_ret;exact⟨lN (λg=>by have:=(g.2 j p).2.1;rw[<-Z c]at this;omega),ba d _⟩
   obtain _|i:=j
   ·rw[nG,ou]at c1 c2;have H:decide ((0:Int)<0)=false:=by simp
    go_wp2_with fail;go_quiet (fail);go_wp2_with fail;go_roundw;case rel=>exact⟨1,by omega,by simp,λi hi=>by
     obtain rfl:i=0:=by omega
     exact⟨by rw[<-Z f,<-Z c];omega,by rw[<-Z c];omega,λh=>by omega⟩,di (ba d _) _⟩
    case measure=>simp[intOf];omega
   obtain⟨c3,-⟩:=(q.ao (aH wr (.cells #[.int .u64 lo,.int .u64 hi] 200) none)).cell i (by omega);have r:=oD h.1 i;obtain⟨⟨k5,A⟩,-⟩:=r;obtain⟨s,k⟩:=exq ((au l i).lo);rw[<-k]at c3 k5 A;replace k:=J k;have I:IntKind.i64.wrap (i:Int)=(i:Int):=by simp[IntKind.wrap,IntKind.bits,IntKind.signed];omega
   have K:IntKind.u64.wrap (hi+1)=hi+1:=by rw[fh];omega
   have L:(0:Int)<=(i:Int):=by omega
   have M:(i:Int)<(l.length:Int):=by omega
   by_cases t:s<=hi+1
   ·have B:decide (s<=hi+1)=true:=by simp[t]
    go_wp2_with fail;go_quiet (fail);go_wp2_with fail;go_ret;exact⟨lN (λg=>by have:=(g.2 (i+1) p).2.2 (by omega);rw[rB,<-Z c,<-Z k]at this;omega),di (ba d _) _⟩
   have B:decide (s<=hi+1)=false:=by simp[t]
   go_wp2_with fail;go_quiet (fail);go_wp2_with fail;go_roundw;case rel=>
    refine⟨i+1+1,by omega,by simp,Fx (Z m) ⟨by rw[<-Z f,<-Z c];omega,by rw[<-Z c];omega,λ_=>?_⟩,di (ba d _) _⟩
    rw[rB,<-Z c,<-Z k];omega
   case measure=>simp[intOf];omega
  obtain rfl:j=l.length:=by omega
  go_wp2_with fail;go_ret;refine⟨nI ⟨λhp=>⟨by omega,m⟩,λhp=>by have:=hp.1;omega⟩,d⟩
theorem uW(n f:Nat)(lb:Array Value)(w:World)(p:Nat->Prop)(K:n<=4611686018427387903)(l:∀i j,i<=j->j<n->p i->p j)
 (L:∀args w,(callFunc f args).run prog w=.ok (.enter f args) w)
 (r:∀(W:World)(h:Nat),w.grownBy W none->h<n->Calls prog f (#[.int .i64 (h:Int)]++lb) W (λe B=>dJ (p h) e/\W.grownBy B none)):
 Calls prog 248 #[.int .i64 (n:Int),.func (.func f) #[] lb] w λe a=>(∃k:Nat,e=.returned (.int .i64 (k:Int))/\lM n k p)/\w.grownBy a none:=by
 obtain⟨R,s⟩:∃R:Ending->Prop,R=λe=>∃k:Nat,e=.returned (.int .i64 (k:Int))/\lM n k p:=⟨_,rfl⟩
 have t:∀k:Nat,lM n k p->R (.returned (.int .i64 (k:Int))):=λk h=>by rw[s];exact⟨k,rfl,h⟩
 have y:(λe a=>(∃k:Nat,e=.returned (.int .i64 (k:Int))/\lM n k p)/\w.grownBy a none)=λe a=>R e/\w.grownBy a none:=by rw[s]
 rw[y];clear y s;replace t:=J t;replace r:=J r;replace l:=J l;go_enter func248,ntmps248;go_wp2_with fail;go_loopw [5,6] (λu v wr=>∃i j:Nat,i<=j/\j<=n/\u=.int .i64 (i:Int)/\v=.int .i64 (j:Int)/\(∀m,m<i->¬p m)/\(∀m,j<=m->m<n->p m)/\w.grownBy wr none) (λu v _=>(intOf v-intOf u).toNat);case atStart=>exact⟨0,n,by omega,aP _,rfl,rfl,λm C=>by omega,λm c d=>by omega,aB _ _⟩
 case round=>
  obtain⟨i,j,M,D,rfl,rfl,c,d,g⟩:=hrel;replace c:=J c;replace d:=J d;by_cases N:i<j
  ·have d1:decide ((i:Int)<(j:Int))=true:=bK (by omega);obtain⟨h,E⟩:∃h:Nat,h=(i+j)/2:=⟨_,rfl⟩
   have O:((i:Int)+(j:Int))/2=(h:Int):=by omega
   have F:i<=h:=by omega
   have P:h<j:=by omega
   clear E;go_wp2_with fail;refine(Z r wr h g (by omega)).mono ?_;rintro e Q⟨⟨b,rfl,q⟩,G⟩;have z:=aq g G;cases b
   ·have H:Hid (¬p h):=J (λhp=>by cases q.2 hp);clear q;go_wp2_with fail;go_roundw;case rel=>
     refine⟨h+1,j,by omega,D,by simp,rfl,λm C hp=>?_,Z d,z⟩
     exact Z H (Z l m h (by omega) (by omega) hp)
    case measure=>simp[intOf];omega
   have I:Hid (p h):=J (q.1 rfl);clear q;go_wp2_with fail;go_roundw;case rel=>
    refine⟨i,h,F,by omega,rfl,rfl,Z c,λm A x=>?_,z⟩
    exact Z l h m A x (Z I)
   case measure=>simp[intOf];omega
  have d1:decide ((i:Int)<(j:Int))=false:=bI (by omega);go_wp2_with fail;go_ret;exact⟨Z t i ⟨by omega,Z c,λm A x=>Z d m (by omega) x⟩,g⟩
def pd(W:World)(bs b:Nat)(a:Option Addr)(n cap:Nat)(l:List Rg)(x:Rg):Prop:=
 W.cell? ⟨bs,0,none⟩=some (.slice a n cap)/\W.cell? ⟨b,0,none⟩=some (.int .u64 x.lo)/\W.cell? ⟨b,1,none⟩=some (.int .u64 x.hi)/\bu W a n cap l/\x.ok
theorem pd.ao{x:Rg}(h:pd W k i a n j X x)(g:W.grownBy w none):pd w k i a n j X x:=
 ⟨g.cell h.1 (by simp),g.cell h.2.1 (by simp),g.cell h.2.2.1 (by simp),h.2.2.2.1.ao g,h.2.2.2.2⟩
theorem Fz(W:World)(bs g i n cap:Nat)(a:Option Addr)(l:List Rg)(x:Rg)(h:pd W bs g a n cap l x)(hi:i<n):
 Calls prog 249 #[.int .i64 (i:Int),.pointer (some ⟨bs,0,none⟩),.pointer (some ⟨g,0,none⟩)] W λe k=>dJ (x.lo<=(au l i).hi) e/\W.grownBy k none:=by
 obtain⟨s,m,p,c,t⟩:=h;have j:n=l.length:=c.2.1;have u:=c.2.2.1;have r:=c.2.2.2.1;unfold maxLen at r;obtain⟨-,-,-,-,h0|⟨b,o,rfl,-⟩⟩:=id c;omega;obtain⟨c1,c2⟩:=c.cell i (by omega);replace j:=J j;obtain⟨q,d⟩:=exq ((au l i).hi);rw[<-d]at c2⊢;replace d:=J d;obtain⟨y,f⟩:=exq x.lo;rw[<-f]at m⊢;replace f:=J f;have v:(i:Int)<(n:Int):=by omega
 clear c1 p;go_enter func249,ntmps249;go_wp2_with fail;go_quiet (fail);go_wp2_with fail;go_ret;exact⟨nI (by simp),di (aB _ _) _⟩
theorem FC(W:World)(bs g i n cap:Nat)(a:Option Addr)(l:List Rg)(x:Rg)(h:pd W bs g a n cap l x)(hi:i<n):
 Calls prog 250 #[.int .i64 (i:Int),.pointer (some ⟨bs,0,none⟩),.pointer (some ⟨g,0,none⟩)] W λe k=>dJ (x.hi<(au l i).lo) e/\W.grownBy k none:=by
 obtain⟨s,m,p,c,t⟩:=h;have j:n=l.length:=c.2.1;have u:=c.2.2.1;have r:=c.2.2.2.1;unfold maxLen at r;obtain⟨-,-,-,-,h0|⟨b,o,rfl,-⟩⟩:=id c;omega;obtain⟨c1,c2⟩:=c.cell i (by omega);replace j:=J j;obtain⟨q,d⟩:=exq ((au l i).lo);rw[<-d]at c1⊢;replace d:=J d;obtain⟨y,f⟩:=exq x.hi;rw[<-f]at p⊢;replace f:=J f;have v:(i:Int)<(n:Int):=by omega
 clear c2 m;go_enter func250,ntmps250;go_wp2_with fail;go_quiet (fail);go_wp2_with fail;go_ret;exact⟨nI (by simp),di (aB _ _) _⟩
theorem FD(W:World)(bs g i n cap:Nat)(a:Option Addr)(l:List Rg)(x:Rg)(h:pd W bs g a n cap l x)(hi:i<n):
 Calls prog 297 #[.int .i64 (i:Int),.pointer (some ⟨bs,0,none⟩),.pointer (some ⟨g,0,none⟩)] W λe k=>dJ (x.lo<(au l i).hi) e/\W.grownBy k none:=by
 obtain⟨s,m,p,c,t⟩:=h;have j:n=l.length:=c.2.1;have u:=c.2.2.1;have r:=c.2.2.2.1;unfold maxLen at r;obtain⟨-,-,-,-,h0|⟨b,o,rfl,-⟩⟩:=id c;omega;obtain⟨c1,c2⟩:=c.cell i (by omega);replace j:=J j;obtain⟨q,d⟩:=exq ((au l i).hi);rw[<-d]at c2⊢;replace d:=J d;obtain⟨y,f⟩:=exq x.lo;rw[<-f]at m⊢;replace f:=J f;have v:(i:Int)<(n:Int):=by omega
 clear c1 p;go_enter func297,ntmps297;go_wp2_with fail;go_quiet (fail);go_wp2_with fail;go_ret;exact⟨nI (by simp),di (aB _ _) _⟩
theorem FF(W:World)(bs g i n cap:Nat)(a:Option Addr)(l:List Rg)(x:Rg)(h:pd W bs g a n cap l x)(hi:i<n):
 Calls prog 298 #[.int .i64 (i:Int),.pointer (some ⟨bs,0,none⟩),.pointer (some ⟨g,0,none⟩)] W λe k=>dJ (x.hi<=(au l i).lo) e/\W.grownBy k none:=by
 obtain⟨s,m,p,c,t⟩:=h;have j:n=l.length:=c.2.1;have u:=c.2.2.1;have r:=c.2.2.2.1;unfold maxLen at r;obtain⟨-,-,-,-,h0|⟨b,o,rfl,-⟩⟩:=id c;omega;obtain⟨c1,c2⟩:=c.cell i (by omega);replace j:=J j;obtain⟨q,d⟩:=exq ((au l i).lo);rw[<-d]at c1⊢;replace d:=J d;obtain⟨y,f⟩:=exq x.hi;rw[<-f]at p⊢;replace f:=J f;have v:(i:Int)<(n:Int):=by omega
 clear c2 m;go_enter func298,ntmps298;go_wp2_with fail;go_quiet (fail);go_wp2_with fail;go_ret;exact⟨nI (by simp),di (aB _ _) _⟩
theorem z9{P:Program}(w:World)(t ty e:TypeId)(i:TypeInfo)(z:Value)(size bytes:Nat)(q:P.underlying t=some (.slice e))(hi:P.info? e=some i)(r:i.zero=some z)
 (s:i.size=size) (x:i.bytes=bytes) (A:z.cells.size=size) (E:0<size) (v:Value) (n:Nat) (d:List Value) (g:d.length=n*size)
 (F:(v=.slice none 0 0/\n=0)\/∃y,v=.slice (some y) n n/\∀j u,d[j]?=some u->w.cell? (y.add j)=some u)
 (a:Addr) (m c:Nat) (b:List Value) (Q:0<m) (hl:b.length=m*size) (B:∀j u,b[j]?=some u->w.cell? (a.add j)=some u) (G:∀u∈b,u.oneCell'=true)
 (l:n+m<=maxLen) (C:(n+m)*bytes<=140737488355328):
 ∃h f,(Builtin.append_ #[t,t] ty #[v,.slice (some a) m c]).run P w=.ok h f/\f.ownsRow w.heap.size e size h (n+m) (d++b)/\w.grownBy f none:=by
 obtain⟨rfl,rfl⟩|⟨y,rfl,H⟩:=F
 have I:d=[]:=iF (by simpa using g);subst I;obtain⟨h,f,p,K,L,-,-⟩:=run_append_own_at (P:=P) w w.heap.size t ty e i z size bytes q hi r s x A E (.slice none 0 0) 0 [] (om _ _ _ _) a m c b hl B G l C (aP _);exact⟨h,f,p,K,L⟩
 subst s;subst x;have R:n+m<=9223372036854775807:=by simp only[maxLen]at l;omega
 have p:=run_append_grow (P:=P) w t ty e i z q hi r y n n d g H a m c b hl B (by omega) (by omega) (growslice_fits (by omega) C);have D:(d++b).length=(n+m)*i.size:=by rw[bH,g,hl,Nat.add_mul]
 have M:=grownCap_ge w (n+m) n e;have N:grownCap w (n+m) n e<=maxLen:=grownCap_le_maxLen w (n+m) n e l;refine⟨_,_,p,⟨D,.inr ⟨w.heap.size,_,_,rfl,aP _,aM w.drew _,M,N,?_,?_⟩⟩,⟨rfl,rfl,rfl,by simp,λk O _=>fj w.drew _ k O⟩⟩
 simp only[Array.size_append,sT,size_zeroCells,A,g,hl,<-Nat.add_mul]
 congr 1;omega;simp only[Array.toList_append,fg]
 rw[<-fg,<-D];exact List.take_left
def dc(w:World)(a:Nat)(v:Value)(l:List Rg):Prop:=(∀r∈l,r.ok)/\w.ownsRow a 341 2 v l.length (cz l)
theorem dc.gb(h:dc w n x X)(g:w.grownBy W N)(a:x.ownBlock=none\/x.ownBlock≠N):dc W n x X:=⟨h.1,h.2.kept g a⟩
theorem dc.ao(h:dc w n x X)(g:w.grownBy W none):dc W n x X:=h.gb g (by cases x.ownBlock<;>simp)
theorem dc.mV(h:dc w k (.slice a n i) X):bu w a n i X/\∀x,a=some x->k<=x.block:=by
 obtain⟨d,l,m⟩:=h;obtain⟨e,p⟩|⟨g,cap,cur,e,aa,q,r,hm,hs,s⟩:=m
 cases e;exact⟨⟨d,p.symm,by simp,by simp[maxLen],.inl rfl⟩,λx b=>by cases b⟩
 cases e;refine⟨⟨d,rfl,r,hm,.inr ⟨g,0,rfl,λj v c=>?_⟩⟩,λx b=>by cases b;exact aa⟩
 have f:j<(cz X).length:=(kF.1 c).1;rw[<-s,jA,az (by rw[l]at f;exact f)]at c;simp only[World.cell?,q,dR]
 simpa using c
theorem tq:(prog.info? 341).map (λi=>(i.zero,i.size,i.bytes))=some (some (.agg #[.int .u64 0,.int .u64 0]),2,16):=by kernel_rfl
theorem tr(l m:List Rg):cz (l++m)=cz l++cz m:=by simp[cz]
theorem uX(l:List Rg):∀u∈cz l,u.oneCell'=true:=by
 intro u a;simp only[cz,uI,fk,qG,oT]at a;obtain⟨y,-,rfl|rfl⟩:=a<;>rfl
theorem bu.front(h:bu w a n k X)(i:Nat)(hi:i<=n):bu w a i i (X.take i):=by
 obtain⟨f,l,m,p,c⟩:=h;refine⟨λr g=>f r (iS g),by rw[ct];omega,aP _,by omega,?_⟩
 obtain c|⟨b,o,rfl,c⟩:=c
 exact .inl (by omega);refine .inr ⟨b,o,rfl,λj v d=>c j v ?_⟩;have e:cz X=cz (X.take i)++cz (X.drop i):=by rw[<-tr,oQ]
 rw[e,mc (kF.1 d).1];exact d
theorem FG(ty:TypeId)(a:Option Addr)(n:Nat)(l:List Rg)(hs:bu w a n n l)(b o c:Nat)(r:Rg)(v:r.ok)(h0:w.cell? ⟨b,o,none⟩=some (.int .u64 r.lo))(x:w.cell? ⟨b,o+1,none⟩=some (.int .u64 r.hi))(G:n<=100000000):
 ∃k m p e,(Builtin.append_ #[227,227] ty #[.slice a n n,.slice (some ⟨b,o,none⟩) 1 c]).run prog w=.ok (.slice k m p) e/\dc e w.heap.size (.slice k m p) (l++[r])/\w.grownBy e none:=by
 obtain⟨z,hi,A,B,C⟩:=lg tq;have q:n=l.length:=hs.2.1;obtain⟨D,e,s,E,t⟩:=z9 (P:=prog) w 227 ty 341 z (.agg #[.int .u64 0,.int .u64 0]) 2 16 underlying227 hi A B C rfl (by decide) (.slice a n n) n (cz l) (by rw[qL,q]) (by
  obtain⟨-,-,-,-,f|⟨H,I,rfl,f⟩⟩:=hs;cases a with
  |none=>exact .inl ⟨by rw[f],f⟩
  |some y=>
   refine .inr ⟨y,rfl,λj u d=>?_⟩;have:l=[]:=iF (by omega);subst this;simp[cz]at d
  exact .inr ⟨_,rfl,λj u d=>by rw[Addr.add_mid];exact f j u d⟩) ⟨b,o,none⟩ 1 c (cz [r]) (by decide) rfl (by
  intro j u d;rw[Addr.add_mid];match j,d with
  |0,d=>simp[cz]at d;rw[<-d];exact h0
  |1,d=>simp[cz]at d;rw[<-d];exact x) (uX _) (by simp[maxLen];omega) (by omega)
 have i:dc e w.heap.size D (l++[r]):=⟨λy F=>(bQ.1 F).elim (hs.1 y) (λh=>by rw[cS.1 h];exact v),by rw[bH,tr,<-q];exact E⟩
 obtain⟨-,-,⟨rfl,e2⟩|⟨g,cap,K,rfl,_⟩⟩:=id i;exact⟨_,_,_,e,s,i,t⟩
 exact⟨_,_,_,e,s,i,t⟩
theorem Aa(ty:TypeId)(f:Nat)(v:Value)(l:List Rg)(h:dc w f v l)(i:Option Addr)(nx k:Nat)(m:List Rg)(C:bu w i nx k m)(M:l.length+m.length<=100000000)(D:f<=w.heap.size):
 ∃c d e a,(Builtin.append_ #[227,227] ty #[v,.slice i nx k]).run prog w=.ok (.slice c d e) a/\dc a f (.slice c d e) (l++m)/\w.grownBy a v.ownBlock/\((Value.slice c d e).ownBlock=v.ownBlock\/(Value.slice c d e).ownBlock=some w.heap.size):=by
 obtain⟨t,hi,E,F,G⟩:=lg tq;obtain⟨m1,n,N,O,p⟩:=C;have key:∀y:Addr,i=some y->(∀j u,(cz m)[j]?=some u->w.cell? (y.add j)=some u)->∃c d e a,(Builtin.append_ #[227,227] ty #[v,.slice i nx k]).run prog w=.ok (.slice c d e) a/\dc a f (.slice c d e) (l++m)/\w.grownBy a v.ownBlock/\((Value.slice c d e).ownBlock=v.ownBlock\/(Value.slice c d e).ownBlock=some w.heap.size):=λy q H=>by
  subst q;obtain⟨I,a,x,K,z,_,A⟩:=run_append_own_at (P:=prog) w f 227 ty 341 t (.agg #[.int .u64 0,.int .u64 0]) 2 16 underlying227 hi E F G rfl (by decide) v l.length (cz l) h.2 y nx k (cz m) (by rw[qL,n]) H (uX _) (by simp[maxLen];omega) (by omega) D;have r:dc a f I (l++m):=⟨λy q=>(bQ.1 q).elim (h.1 y) (m1 y),by rw[bH,tr,<-n];exact K⟩
  obtain⟨-,-,⟨rfl,e2⟩|⟨g,cap,L,rfl,_⟩⟩:=id r;exact⟨_,_,_,a,x,r,z,A⟩
  exact⟨_,_,_,a,x,r,z,A⟩
 obtain rfl|⟨b,o,rfl,p⟩:=p
 have:m=[]:=iF (by omega);subst this;obtain rfl:nx=0:=by simpa using n
 cases i with
 |some y=>exact key y rfl (λj u s=>by simp[cz]at s)
 |none=>
  have B:=run_append_owned_none (P:=prog) (w:=w) f 227 ty 341 t 2 underlying227 hi v _ _ h.2;rw[ot];obtain⟨-,-,⟨rfl,e2⟩|⟨g,cap,L,rfl,_⟩⟩:=id h;exact⟨_,_,_,w,B,h,aB _ _,.inl rfl⟩
  exact⟨_,_,_,w,B,h,aB _ _,.inl rfl⟩
 exact key _ rfl (λj u s=>by rw[Addr.add_mid];exact p j u s)
theorem FH(w:World)(ty:TypeId)(a:Option Addr)(n:Nat)(b:Option Addr)(c:Nat):(Builtin.append_ #[227,227] ty #[.slice a n n,.slice b 0 c]).run prog w=.ok (.slice a n n) w:=by
 obtain⟨d,hi,e,f,g⟩:=lg tq;cases a<;>cases b<;>simp[Builtin.append_,uK underlying227,sizeOf,typeInfo,hi,Builtin.lenOf,Builtin.firstCells,loadCells,loadCellsFrom,storeCells]
theorem Ab{K:Act->World->Prop}(s x:Operand)
 (ho:H.op=.call {callee:=.builtin .append,args:= #[s,x],argTypes:= #[227,227]})
 (i:Option Addr) (n:Nat) (l:List Rg) (hs:I.eval s=.slice i n n) (hl:bu w i n n l) (b f c:Nat) (r:Rg) (j:r.ok) (k:I.eval x=.slice (some ⟨b,f,none⟩) 1 c) (h0:w.cell? ⟨b,f,none⟩=some (.int .u64 r.lo)) (m:w.cell? ⟨b,f+1,none⟩=some (.int .u64 r.hi)) (p:n<=100000000)
 (h:∀d e g a,dc a w.heap.size (.slice d e g) (l++[r])->w.grownBy a none->K (I.put H.dst (.slice d e g)) a):Oper.wp prog H I w K F:=by
 obtain⟨d,e,g,a,q,t,u⟩:=FG (w:=w) H.type i n l hl b f c r j h0 m p;unfold Oper.wp execOp;simp only[ho,resolve,invoke,builtin,iU,mi,iT,nF,ki,mP,hs,k,q]
 exact h d e g a t u
theorem FI{e:Array Oper}{K:Act->World->Prop}{E:Prop}(k:H.guard=none)(s x:Operand)
 (ho:H.op=.call {callee:=.builtin .append,args:= #[s,x],argTypes:= #[227,227]})
 (a:Option Addr) (n:Nat) (l:List Rg) (hs:I.eval s=.slice a n n) (hl:bu w a n n l) (b f c:Nat) (r:Rg) (m:r.ok) (p:I.eval x=.slice (some ⟨b,f,none⟩) 1 c) (h0:w.cell? ⟨b,f,none⟩=some (.int .u64 r.lo)) (q:w.cell? ⟨b,f+1,none⟩=some (.int .u64 r.hi)) (t:n<=100000000)
 (h:∀g i j d,dc d w.heap.size (.slice g i j) (l++[r])->w.grownBy d none->K (I.put H.dst (.slice g i j)) d):if Region.wanted H (yielded e I.tmps)=true then Oper.wp prog H I w K F else E:=by
 have u:Region.wanted H (yielded e I.tmps)=true:=by simp[Region.wanted,k]
 rw[az u];exact Ab s x ho a n l hs hl b f c r m p h0 q t h
theorem Ac{K:Act->World->Prop}(s x:Operand)
 (ho:H.op=.call {callee:=.builtin .append,args:= #[s,x],argTypes:= #[227,227]})
 (b:Nat) (v:Value) (l:List Rg) (hs:I.eval s=v) (i:dc w b v l) (f:Option Addr) (nx g:Nat) (m:List Rg) (j:I.eval x=.slice f nx g) (k:bu w f nx g m) (n:l.length+m.length<=100000000) (p:b<=w.heap.size)
 (h:∀c d e a,dc a b (.slice c d e) (l++m)->w.grownBy a v.ownBlock->K (I.put H.dst (.slice c d e)) a):Oper.wp prog H I w K F:=by
 obtain⟨c,d,e,a,q,r,t,-⟩:=Aa (w:=w) H.type b v l i f nx g m k n p;unfold Oper.wp execOp;simp only[ho,resolve,invoke,builtin,iU,mi,iT,nF,ki,mP,hs,j,q]
 exact h c d e a r t
theorem FJ{e:Array Oper}{K:Act->World->Prop}{E:Prop}(j:H.guard=none)(s x:Operand)
 (ho:H.op=.call {callee:=.builtin .append,args:= #[s,x],argTypes:= #[227,227]})
 (a:Nat) (v:Value) (l:List Rg) (hs:I.eval s=v) (k:dc w a v l) (b:Option Addr) (nx c:Nat) (m:List Rg) (n:I.eval x=.slice b nx c) (p:bu w b nx c m) (q:l.length+m.length<=100000000) (r:a<=w.heap.size)
 (h:∀f g i d,dc d a (.slice f g i) (l++m)->w.grownBy d v.ownBlock->K (I.put H.dst (.slice f g i)) d):if Region.wanted H (yielded e I.tmps)=true then Oper.wp prog H I w K F else E:=by
 have t:Region.wanted H (yielded e I.tmps)=true:=by simp[Region.wanted,j]
 rw[az t];exact Ac s x ho a v l hs k b nx c m n p q r h
theorem FK{k:Array Oper}{rest:List Oper}(m:H.guard=none)(s x:Operand)
 (ho:H.op=.call {callee:=.builtin .append,args:= #[s,x],argTypes:= #[227,227]})
 (i:Option Addr) (n:Nat) (l:List Rg) (hs:I.eval s=.slice i n n) (hl:bu w i n n l) (b f c:Nat) (r:Rg) (p:r.ok) (q:I.eval x=.slice (some ⟨b,f,none⟩) 1 c) (h0:w.cell? ⟨b,f,none⟩=some (.int .u64 r.lo)) (j:w.cell? ⟨b,f+1,none⟩=some (.int .u64 r.hi)) (t:n<=100000000)
 (h:∀d e g a,dc a w.heap.size (.slice d e g) (l++[r])->w.grownBy a none->wpList prog k F rest (I.put H.dst (.slice d e g)) a):wpList prog k F (H::rest) I w:=
 sZ m λ_ u=>Ab s x ho i n l hs hl b f c r p q h0 j t λd e g a j v=>u _ _ (h d e g a j v)
theorem FL{i:Array Oper}{rest:List Oper}(j:H.guard=none)(s x:Operand)
 (ho:H.op=.call {callee:=.builtin .append,args:= #[s,x],argTypes:= #[227,227]})
 (b:Nat) (v:Value) (l:List Rg) (hs:I.eval s=v) (k:dc w b v l) (f:Option Addr) (nx g:Nat) (m:List Rg) (n:I.eval x=.slice f nx g) (p:bu w f nx g m) (q:l.length+m.length<=100000000) (r:b<=w.heap.size)
 (h:∀c d e a,dc a b (.slice c d e) (l++m)->w.grownBy a v.ownBlock->wpList prog i F rest (I.put H.dst (.slice c d e)) a):wpList prog i F (H::rest) I w:=
 sZ j λ_ t=>Ac s x ho b v l hs k f nx g m n p q r λc d e a u y=>t _ _ (h c d e a u y)
def Kept(w:World)(b:Nat)(a:Option Addr)(v:Value)(l:List Rg):Prop:=(∃n,v=.slice a n n/\bu w a n n l)\/dc w b v l
theorem FM(ty:TypeId)(s:Nat)(a:Option Addr)(v:Value)(l:List Rg)(L:Kept w s a v l)(p:Option Addr)(nx q:Nat)(m:List Rg)(E:bu w p nx q m)(M:l.length+m.length<=100000000)(F:s<=w.heap.size):
 ∃c d f i,(Builtin.append_ #[227,227] ty #[v,.slice p nx q]).run prog w=.ok (.slice c d f) i/\bu i c d f (l++m)/\(c=a\/∀y,c=some y->s<=y.block)/\∃r,w.grownBy i r/\∀k,r=some k->s<=k:=by
 obtain⟨n,rfl,hl⟩|G:=L
 obtain⟨N,hi,O,Q,R⟩:=lg tq;obtain⟨m1,H,V,W,S⟩:=id E;have I:n=l.length:=hl.2.1;by_cases h0:nx=0;subst h0;have:m=[]:=iF (by omega);subst this;have T:(Builtin.append_ #[227,227] ty #[.slice a n n,.slice p 0 q]).run prog w=.ok (.slice a n n) w:=FH w ty a n p q;exact⟨a,n,n,w,T,by rw[ot];exact hl,.inl rfl,none,aB _ _,λk e=>by cases e⟩
 obtain⟨b,o,rfl,U⟩:∃b o,p=some ⟨b,o,none⟩/\w.rangeAt b o (cz m):=by
  obtain h|h:=S
  omega;exact h
 obtain⟨K,i,A,x,B⟩:=z9 (P:=prog) w 227 ty 341 N (.agg #[.int .u64 0,.int .u64 0]) 2 16 underlying227 hi O Q R rfl (by decide) (.slice a n n) n (cz l) (by rw[qL,I]) (by
  obtain⟨-,-,-,-,z|⟨X,Y,rfl,z⟩⟩:=hl;cases a with
  |none=>exact .inl ⟨by rw[z],z⟩
  |some y=>
   refine .inr ⟨y,rfl,λj u t=>?_⟩;have:l=[]:=iF (by omega);subst this;simp[cz]at t
  ·exact .inr ⟨_,rfl,λj u t=>by rw[Addr.add_mid];exact z j u t⟩) ⟨b,o,none⟩ nx q (cz m) (by omega) (by rw[qL,H]) (λj u t=>by rw[Addr.add_mid];exact U j u t) (uX _) (by simp[maxLen];omega) (by omega)
 have C:dc i w.heap.size K (l++m):=⟨λy D=>(bQ.1 D).elim (hl.1 y) (m1 y),by rw[bH,tr,<-I,<-H];exact x⟩
 have key:∃c d f,K=.slice c d f:=by
  obtain⟨-,-,⟨rfl,e2⟩|⟨g,cap,al,rfl,_⟩⟩:=id C;exact⟨_,_,_,rfl⟩
  exact⟨_,_,_,rfl⟩
 obtain⟨c,d,f,rfl⟩:=key;exact⟨c,d,f,i,A,C.mV.1,.inr (λy D=>bD F (C.mV.2 y D)),none,B,λk e=>by cases e⟩
 obtain⟨c,d,f,i,A,x,B,-⟩:=Aa (w:=w) ty s v l G p nx q m E M F;exact⟨c,d,f,i,A,x.mV.1,.inr x.mV.2,_,B,λk e=>(G.2.lt k e).1⟩
theorem bu.back(h:bu w a n i X)(j:Nat)(m:j<=n)(d:i-j=0\/∃b o,a=some ⟨b,o,none⟩/\O=some ⟨b,o+j*2,none⟩):bu w O (n-j) (i-j) (X.drop j):=by
 obtain⟨f,p,q,s,c⟩:=h;refine⟨λr g=>f r (iG g),by rw[dF];omega,by omega,by omega,?_⟩
 obtain d|⟨t,u,rfl,rfl⟩:=d
 exact .inl d;obtain c|⟨b,o,e,c⟩:=c
 exact .inl (by omega);cases e;refine .inr ⟨_,_,rfl,λk v l=>?_⟩;have e:cz X=cz (X.take j)++cz (X.drop j):=by rw[<-tr,oQ]
 have hl:(cz (X.take j)).length=j*2:=by rw[qL,ct];congr 1;omega
 rw[qc];refine c (j*2+k) v ?_;rw[e,jz (by omega),hl,sQ];exact l
theorem uY(x:Rg)(w:World):Calls prog 244 #[.agg #[.int .u64 x.lo,.int .u64 x.hi]] w λe a=>e=.returned (.bool (decide (x.hi<=x.lo)))/\w.grownBy a none:=by
 go_enter func244,ntmps244;go_wp2_with fail;first
  |go_quiet (fail)
  |skip
 go_wp2_with fail;go_ret;exact⟨rfl,by repeat(first|exact aB _ _|apply di|apply aW|apply ba)⟩
theorem bA{o:Obj}(h:W.heap[i]?=some o)(g:W.grownBy w none):w.heap[i]?=some o:=(g.block i (aY.1 h).1 (by simp)).trans h
theorem uZ:prog.elem 227=341:=by kernel_rfl
theorem Ad(W:World):(sizeOf 341).run prog W=.ok 2 W:=by kernel_rfl
theorem Ae(a:Option Addr)(n cap i:Nat)(h:i<=cap)(W:World):(Instr.slice 227 (.slice a n cap) none (some (.int .i64 (i:Int))) (some (.int .i64 (i:Int)))).run prog W=.ok (.slice a i i) W:=by
 rw[run_slice_hm W 227 a n cap (by rw[uZ];exact underlying227) .i64 .i64 (i:Int) (i:Int) (by omega) (cW _) (by omega),uZ,Ad];simp only[iT,sliced,nE,nG,Nat.sub_zero]
 congr 1;cases a with
 |none=>simp
 |some y=>simp[Addr.add]
theorem Af(a:Option Addr)(n cap j:Nat)(h:j<=n)(W:World):(Instr.slice 227 (.slice a n cap) (some (.int .i64 (j:Int))) none none).run prog W=.ok (.slice (if cap=j then a else a.map (·.add (j*2))) (n-j) (cap-j)) W:=by
 rw[run_slice_l W 227 a n cap (by rw[uZ];exact underlying227) .i64 (j:Int) (by omega) (by omega),uZ,Ad];simp only[iT,sliced,nE]
theorem xx{wc:World}{a b:Value}(h:w.cell? ⟨k,0,none⟩=some z/\w.cell? ⟨i,0,none⟩=some a/\w.cell? ⟨i,1,none⟩=some b/\wc.grownBy w (some n))(g:w.grownBy W none):W.cell? ⟨k,0,none⟩=some z/\W.cell? ⟨i,0,none⟩=some a/\W.cell? ⟨i,1,none⟩=some b/\wc.grownBy W (some n):=
 ⟨g.cell h.1 (by simp),g.cell h.2.1 (by simp),g.cell h.2.2.1 (by simp),aq h.2.2.2 (cX g _)⟩
theorem dc.lt(h:dc w n x X):∀k,x.ownBlock=some k->n<=k/\k<w.heap.size:=h.2.lt
theorem Ag{wc:World}(h:wc.grownBy w none)(o:dc w n x X)(a:wc.heap.size<=n)(g:w.grownBy W x.ownBlock):wc.grownBy W none:=cF h g (λj e=>.inl (bD a (o.lt _ e).1))
theorem FO{wc:World}{a b c:Value}(h:w.cell? ⟨k,0,none⟩=some z/\w.cell? ⟨i,0,none⟩=some a/\w.cell? ⟨i,1,none⟩=some b/\wc.grownBy w (some n))(o:dc w m c X)(d:wc.heap.size<=m)(f:k<m)(l:i<m)(g:w.grownBy W c.ownBlock):W.cell? ⟨k,0,none⟩=some z/\W.cell? ⟨i,0,none⟩=some a/\W.cell? ⟨i,1,none⟩=some b/\wc.grownBy W (some n):=
 ⟨g.cell h.1 (λe=>by have:m<=k:=(o.lt _ e.symm).1;omega),g.cell h.2.1 (λe=>by have:m<=i:=(o.lt _ e.symm).1;omega),g.cell h.2.2.1 (λe=>by have:m<=i:=(o.lt _ e.symm).1;omega),cF h.2.2.2 g (λj e=>.inl (bD d (o.lt _ e).1))⟩
theorem FP{wc:World}{a b u:Value}(h:W.cell? ⟨i,0,none⟩=some z/\W.cell? ⟨j,0,none⟩=some a/\W.cell? ⟨j,1,none⟩=some b/\wc.grownBy W (some n))(d:i≠n)(c:j≠n):(W.setCell ⟨n,k,none⟩ u).cell? ⟨i,0,none⟩=some z/\(W.setCell ⟨n,k,none⟩ u).cell? ⟨j,0,none⟩=some a/\(W.setCell ⟨n,k,none⟩ u).cell? ⟨j,1,none⟩=some b/\wc.grownBy (W.setCell ⟨n,k,none⟩ u) (some n):=
 ⟨(lH (w:=W) (dy _ _ _ _ d)).trans h.1,(lH (w:=W) (dy _ _ _ _ c)).trans h.2.1,(lH (w:=W) (dy _ _ _ _ c)).trans h.2.2.1,aI h.2.2.2 _ _ (.inr rfl)⟩
theorem bu.ai{sb:Nat}(h:bu w a n k X)(d:∀z,a=some z->z.block≠sb)(so:Nat)(v:Value):bu (w.setCell ⟨sb,so,none⟩ v) a n k X:=by
 obtain⟨e,f,g,i,c⟩:=h;refine⟨e,f,g,i,?_⟩
 obtain c|⟨b,o,rfl,c⟩:=c
 exact .inl c;exact .inr ⟨b,o,rfl,λj u l=>(lH (w:=w) (a:=⟨b,o+j,none⟩) (dy _ _ _ _ (d _ rfl))).trans (c j u l)⟩
def xz(w a:World)(sb so:Nat)(v:Value):Prop:=
 w.grownBy a (some sb)/\∀cs t,w.heap[sb]?=some (.cells cs t (0,0))->a.heap[sb]?=some (.cells (cs.setIfInBounds so v) t (0,0))
def pf(w d:World)(sb so:Nat)(a:Option Addr)(q:List Rg->Prop):Prop:=
 ∃b e f c,xz w d sb so (.slice b e f)/\bu d b e f c/\(b=a\/∀y,b=some y->w.heap.size<=y.block)/\bh c/\q c
def ts(w d:World)(sb so:Nat)(a:Option Addr)(n cap:Nat)(l:List Rg)(q:List Rg->Prop):Prop:=
 ∃b e f c,xz w d sb so (.slice b e f)/\bu d b e f c/\((b=a/\e=n/\f=cap/\c=l)\/∀y,b=some y->w.heap.size<=y.block/\y.block<d.heap.size)/\bh c/\q c
theorem ts.set{w:World}{q:List Rg->Prop}(h:ts w W k i a n j X q):pf w W k i a q:=by
 obtain⟨b,c,d,e,f,g,l,m⟩:=h;exact⟨b,c,d,e,f,g,l.imp (λh=>h.1) (λh y p=>(h y p).1),m⟩
def xA(w f:World)(sb so:Nat)(a:Option Addr)(n cap:Nat)(l:List Rg)(q:List Rg->Prop):Prop:=
 ∃c d e b,xz w f sb so (.slice c d e)/\bu f c d e b/\((c=a/\d=n/\e=cap/\b=l)\/dc f w.heap.size (.slice c d e) b)/\bh b/\q b
theorem xA.to{q:List Rg->Prop}(h:xA w W k i a n j X q):ts w W k i a n j X q:=by
 obtain⟨b,c,d,e,f,g,l,m⟩:=h;refine⟨b,c,d,e,f,g,l.imp id (λh y p=>?_),m⟩
 subst p;exact h.lt y.block rfl
theorem Ah(w:World)(sb so:Nat)(cs:Array Value)(t:TypeId)(a:Option Addr)(n cap:Nat)(l:List Rg)(x:Rg)(N:w.heap[sb]?=some (.cells cs t (0,0)))(O:cs[so]?=some (.slice a n cap))(hs:bu w a n cap l)(ea:∀y,a=some y->y.block≠sb)(r:bh l)(P:x.ok)(hn:n<=1000000):
 Calls prog 215 #[.pointer (some ⟨sb,so,none⟩),.agg #[.int .u64 x.lo,.int .u64 x.hi]] w λe C=>e=.returned (.tuple #[])/\xA w C sb so a n cap l (λl'=>l'.length<=l.length+1/\∀m,Sm l' m↔Sm l m\/(x.lo<=m/\m<x.hi)):=by
 obtain⟨c,d⟩:=x;have Q:w.cell? ⟨sb,so,none⟩=some (.slice a n cap):=by simp[World.cell?,N,O]
 by_cases he:d<=c
 ·have hd:decide (d<=c)=true:=bK he;go_enter func215,ntmps215;go_wp2_with fail;refine(uY ⟨c,d⟩ _).mono ?_;rintro e f⟨rfl,R⟩;have S:decide ((⟨c,d⟩:Rg).hi<=(⟨c,d⟩:Rg).lo)=true:=hd;rw[S];have A:w.grownBy f none:=aq (aH _ _ _) R;replace hs:=J hs;replace r:=J r;go_wp2_with fail;refine cA (et rfl _ _ _) rfl ⟨rfl,a,n,cap,l,⟨cX A _,λb0 t' h=>?_⟩,(Z hs).ao A,.inl ⟨rfl,rfl,rfl,rfl⟩,Z r,by omega,λm=>⟨λh=>.inl h,λh=>h.elim id (λh=>by omega)⟩⟩;rw[bA h A];obtain⟨rfl,rfl⟩:b0=cs/\t'=t:=by rw[N]at h;cases h;exact⟨rfl,rfl⟩
  congr 2;obtain⟨h1,h2⟩:=aY.1 O;rw[Array.setIfInBounds,dif_pos h1,<-h2,Array.set_getElem_self]
 have hd:decide (d<=c)=false:=bI he;go_enter func215,ntmps215;go_wp2_with fail;refine(uY ⟨c,d⟩ _).mono ?_;rintro e f⟨rfl,R⟩;have S:decide ((⟨c,d⟩:Rg).hi<=(⟨c,d⟩:Rg).lo)=false:=hd;rw[S];have A:w.grownBy f none:=aq (aH _ _ _) R;have cx:=A.cell Q (by simp);have T:f.heap[w.heap.size]?=some (.cells #[.int .u64 c,.int .u64 d] 341 (0,0)):=(R.block w.heap.size (by simp) (by simp)).trans (aM _ _);have x0:f.cell? ⟨w.heap.size,0,none⟩=some (.int .u64 c):=by simp[World.cell?,T]
 have x1:f.cell? ⟨w.heap.size,1,none⟩=some (.int .u64 d):=by simp[World.cell?,T]
 have ee:=(aY.1 T).1;obtain⟨H,aC⟩:=exq (f.alloc (.cells #[.slice a n cap] 227));have I:f.grownBy H none:=by rw[aC];exact aH _ _ _
 have b3:H.heap[f.heap.size]?=some (.cells #[.slice a n cap] 227 (0,0)):=by rw[aC];exact aM _ _
 have K:pd H f.heap.size w.heap.size a n cap l ⟨c,d⟩:=⟨by simp[World.cell?,b3],I.cell x0 (by simp),I.cell x1 (by simp),hs.ao (aq A I),P⟩
 have B:n=l.length:=hs.2.1;have b4:=J (uW n 249 #[.pointer (some ⟨f.heap.size,0,none⟩),.pointer (some ⟨w.heap.size,0,none⟩)] H (λk=>c<=(au l k).hi) (by omega) (λi j D hj hp=>by
  obtain h|rfl:=rA D
  have:=r.lt h (by omega);have:=r.pos (i:=j) (by omega);show c<=_;omega
  ·exact hp) (λ_ _=>by kernel_rfl) (λW h g hh=>Fz W _ _ h n cap a l ⟨c,d⟩ (K.ao g) hh))
 have b5:=J (λW(gW:H.grownBy W none)=>uW n 250 #[.pointer (some ⟨f.heap.size,0,none⟩),.pointer (some ⟨w.heap.size,0,none⟩)] W (λk=>d<(au l k).lo) (by omega) (λi j D hj hp=>by
  obtain h|rfl:=rA D
  have:=r.lt h (by omega);have:=r.pos (i:=i) (by omega);show d<_;omega
  ·exact hp) (λ_ _=>by kernel_rfl) (λW' h g hh=>FC W' _ _ h n cap a l ⟨c,d⟩ (K.ao (aq gW g)) hh))
 clear hd S;replace B:=J B;replace K:=J K;replace r:=J r;replace hs:=J hs;go_wp2_with fail;rw[<-aC];refine(Z b4).mono ?_;rintro e w3⟨⟨i,rfl,a0⟩,s⟩;have a8:=(Z K).ao s;have cy:=a8.1;clear b4;go_wp2_with fail;refine(Z b5 _ s).mono ?_;rintro e E⟨⟨j,rfl,a9⟩,U⟩;have b6:=a8.ao U;obtain⟨k1,k2,k3,k4,-⟩:=id b6;have b7:w.grownBy E none:=aq A (aq I (aq s U));have cC:=b7.cell Q (by simp);have c9:i<=n:=a0.1;have db:j<=n:=a9.1;have V:lM l.length i (λk=>c<=(au l k).hi):=by rw[<-Z B];exact a0
 have X:lM l.length j (λk=>d<(au l k).lo):=by rw[<-Z B];exact a9
 have L:E.heap[w.heap.size]?=some (.cells #[.int .u64 c,.int .u64 d] 341 (0,0)):=bA T (aq I (aq s U));have bb:E.heap[f.heap.size]?=some (.cells #[.slice a n cap] 227 (0,0)):=bA b3 (aq s U);have bj:=J (Fl (Z r) (x:=⟨c,d⟩) (show c<d by omega) V X);have de:i<=j:=Fk (Z r) (show c<d by omega) V X;have dg:Hid ((l.take i).length+((l.drop j).length+1)<=l.length+1):=J (by rw[ct,dF];have:=V.1;have:=X.1;omega);clear b5 a8 cy x0 x1 cx a0 a9 V X de;have eg:n<=cap:=(Z hs).2.2.1;have dk:=(Z hs).2.2.2.1;unfold maxLen at dk;obtain⟨y,F⟩:∃y:Rg,y=(if i<j then⟨min c (au l i).lo,max d (au l (j-1)).hi⟩else⟨c,d⟩):=⟨_,rfl⟩
 have b8:uT l ⟨c,d⟩ i j=l.take i++(y::l.drop j):=by rw[F];rfl
 rw[b8]at bj;clear b8;replace F:=J F;go_upto_if 22 with fail;go_cut [] (λwx=>wx.heap[w.heap.size]?=some (.cells #[.int .u64 y.lo,.int .u64 y.hi] 341 (0,0))/\E.grownBy wx (some w.heap.size));case first=>
  by_cases D:i<j
  ·obtain⟨b,o,rfl⟩:∃b o,a=some ⟨b,o,none⟩:=by
    obtain⟨-,-,-,-,h0|⟨b,o,rfl,-⟩⟩:=Z hs;omega;exact⟨b,o,rfl⟩
   obtain⟨y0,-⟩:=k4.cell i (by have:=Z B;omega);obtain⟨-,y1⟩:=k4.cell (j-1) (by have:=Z B;omega);obtain⟨p,hp⟩:=exq ((au l i).lo);obtain⟨q,Y⟩:=exq ((au l (j-1)).hi);rw[<-hp]at y0;rw[<-Y]at y1;have br:Hid (y=⟨min c p,max d q⟩):=J (by rw[Z F,az D,<-hp,<-Y]);have d1:decide ((i:Int)<(j:Int))=true:=bK (by omega);have e1:(j:Int)-1=((j-1:Nat):Int):=by omega
   have e2:IntKind.i64.wrap ((j:Int)-1)=((j-1:Nat):Int):=by simp[IntKind.wrap,IntKind.bits,IntKind.signed];omega
   have i1:(i:Int)<(n:Int):=by omega
   have i2:((j-1:Nat):Int)<(n:Int):=by omega
   replace hp:=J hp;replace Y:=J Y;have f0:E.frozen? ⟨w.heap.size,0,none⟩=false:=by simp[World.frozen?,L]
   have f1:E.frozen? ⟨w.heap.size,1,none⟩=false:=by simp[World.frozen?,L]
   go_wp2_with fail;go_region;all_goals go_wp2_with fail
   all_goals go_meet
   all_goals
    refine⟨Eq.trans (heap_set (heap_set L _) _) ?_,aW (aI (aI (aB _ _) _ _ (.inr rfl)) _ _ (.inr rfl))⟩
    rw[Z br]
    simp
    omega
  have d1:decide ((i:Int)<(j:Int))=false:=bI (by omega);have br:y=⟨c,d⟩:=by rw[Z F,ah D]
  go_wp2_with fail;go_meet;rw[br];exact⟨L,aB _ _⟩
 case rest=>
  obtain⟨ca,gc⟩:=hcut;have bt:w.grownBy wc none:=oU (cF (cX b7 (some w.heap.size)) gc (λj e=>.inr rfl)) (aP _);have bx:bu wc a n cap l:=(Z hs).ao bt;have ch:wc.heap[f.heap.size]?=some (.cells #[.slice a n cap] 227 (0,0)):=(gc.block _ (aY.1 bb).1 (by simp;omega)).trans bb;have c1:wc.cell? ⟨f.heap.size,0,none⟩=some (.slice a n cap):=by simp[World.cell?,ch]
  have c2:wc.cell? ⟨w.heap.size,0,none⟩=some (.int .u64 y.lo):=by simp[World.cell?,ca]
  have c3:wc.cell? ⟨w.heap.size,1,none⟩=some (.int .u64 y.hi):=by simp[World.cell?,ca]
  have c4:=bt.cell Q (by simp);have dn:y.ok:=by
   rw[Z F];split;have a1:=P.1;have a2:=P.2;have a3:=(oD (Z hs).1 i).1;have a4:=(oD (Z hs).1 (j-1)).2;simp only[Rg.ok,aV]at a1 a2 a3 a4⊢;omega;exact P
  clear k1 k2 k3 k4 cC L bb b6;obtain⟨a2,al⟩:=exq ((if cap=j then a else a.map (·.add (j*2))));have ei:∀W,(Instr.slice 227 (.slice a n cap) none (some (.int .i64 (i:Int))) (some (.int .i64 (i:Int)))).run prog W=.ok (.slice a i i) W:=λW=>Ae a n cap i (by omega) W
  have ej:∀W,(Instr.slice 227 (.slice a n cap) (some (.int .i64 (j:Int))) none none).run prog W=.ok (.slice a2 (n-j) (cap-j)) W:=λW=>by rw[al];exact Af a n cap j (by omega) W
  have ds:=J (bx.front i c9);have du:=J (bx.back (O:=a2) j db (by
   obtain⟨-,-,-,-,h0|⟨b,o,rfl,-⟩⟩:=bx;left;omega
   ·by_cases O:cap=j;left;omega
    ·right;rw[al,ah O];exact⟨b,o,rfl,by simp only[rD,Addr.add_mid]⟩))
  have dx:Hid ((l.take i++[y]).length+(l.drop j).length<=100000000):=J (by have:=Z B;simp;omega);have v:wc.grownBy (wc.alloc (.cells #[.int .u64 y.lo,.int .u64 y.hi] 341)).drew none:=aW (aH _ _ _);have ek:=(aY.1 N).1;have eo:f.heap.size<wc.heap.size:=(aY.1 ch).1;have ew:w.heap.size<wc.heap.size:=by omega
  have bz:wc.cell? ⟨f.heap.size,0,none⟩=some (.slice a n cap)/\wc.cell? ⟨w.heap.size,0,none⟩=some (.int .u64 y.lo)/\wc.cell? ⟨w.heap.size,1,none⟩=some (.int .u64 y.hi)/\wc.grownBy wc (some sb):=⟨c1,c2,c3,aB _ _⟩
  have dE:=xx bz (aW (aB wc none));have cj:=xx bz v;have bM:(wc.alloc (.cells #[.int .u64 y.lo,.int .u64 y.hi] 341)).drew.heap[wc.heap.size]?=some (.cells #[.int .u64 y.lo,.int .u64 y.hi] 341 (0,0)):=aM wc _;have q0:(wc.alloc (.cells #[.int .u64 y.lo,.int .u64 y.hi] 341)).drew.cell? ⟨wc.heap.size,0,none⟩=some (.int .u64 y.lo):=by simp only[World.cell?,bM];rfl
  have M:(wc.alloc (.cells #[.int .u64 y.lo,.int .u64 y.hi] 341)).drew.cell? ⟨wc.heap.size,0+1,none⟩=some (.int .u64 y.hi):=by simp only[World.cell?,bM];rfl
  replace al:=J al;clear bM bz;replace q0:=J q0;replace M:=J M;clear c1 c2 c3;go_wp2_with fail;go_region_held3 (λC=>C.cell? ⟨f.heap.size,0,none⟩=some (.slice a n cap)/\C.cell? ⟨w.heap.size,0,none⟩=some (.int .u64 y.lo)/\C.cell? ⟨w.heap.size,1,none⟩=some (.int .u64 y.hi)/\wc.grownBy C (some sb))
   (first|with_reducible exact dG|with_reducible exact cv|with_reducible exact cw|with_reducible exact cj|with_reducible exact dE)
   (first
     |(refine FI (by rfl) _ _ (by rfl) _ i (l.take i) (by rfl) ((Z ds).ao v) wc.heap.size 0 1 y dn (by rfl) (Z q0) (Z M) (by omega) ?_;intro a3 n3 c3 w3 o3 s;have cw:=xx cj s)
     |(refine FJ (by rfl) _ _ (by rfl) (wc.alloc (.cells #[.int .u64 y.lo,.int .u64 y.hi] 341)).drew.heap.size _ (l.take i++[y]) (by rfl) o3 _ _ _ (l.drop j) (by rfl) ((Z du).ao (aq v s)) (Z dx) s.size ?_;intro a5 n5 c5 w5 o5 g5;have cv:=FO cw o3 v.size (by show f.heap.size<_;have:=v.size;omega) (by show w.heap.size<_;have:=v.size;omega) g5;have ax:w.grownBy w5 none:=(aq bt (Ag (aq v s) o3 v.size g5));have ey:=ax.cell Q (by simp);have f5:w5.frozen? ⟨sb,so,none⟩=false:=(by simp[World.frozen?,bA N ax]);have dG:=FP (k:=so) (u:=.slice a5 n5 c5) cv (by omega) (by omega)))
  refine eW (et rfl _ _ _) rfl ⟨rfl,a5,n5,c5,l.take i++y::l.drop j,⟨aI (cX ax _) _ _ (.inr rfl),λb0 t' h=>heap_set (bA h ax) _⟩,?_,.inr ?_,(Z bj).1,by rw[bH,dq];exact Z dg,(Z bj).2⟩;have G:=o5.mV.1;rw[fg,List.singleton_append]at G;refine G.ai (λz hz=>?_) so _;have:=o5.mV.2 z hz;have:=v.size;omega;have h2:=v.size;have G:=o5.gb (aI (aB w5 (some sb)) ⟨sb,so,none⟩ (.slice a5 n5 c5) (.inr rfl)) (.inr (λe=>by have:=(o5.lt _ e).1;omega));rw[fg,List.singleton_append]at G;refine⟨G.1,?_⟩
  obtain⟨e1,e2⟩:=G.2;refine⟨e1,?_⟩
  obtain e2|⟨g,cp,cur,M,q2,q3⟩:=e2
  exact .inl e2;exact .inr ⟨g,cp,cur,M,by omega,q3⟩
theorem xB(w:World)(sb so:Nat)(cs:Array Value)(t:TypeId)(a:Option Addr)(n cap:Nat)(l:List Rg)(x:Rg)(c:w.heap[sb]?=some (.cells cs t (0,0)))(d:cs[so]?=some (.slice a n cap))(hs:bu w a n cap l)(f:∀y,a=some y->y.block≠sb)(g:bh l)(i:x.ok)(j:n<=1000000):
 Calls prog 215 #[.pointer (some ⟨sb,so,none⟩),.agg #[.int .u64 x.lo,.int .u64 x.hi]] w λe k=>e=.returned (.tuple #[])/\ts w k sb so a n cap l (λb=>b.length<=l.length+1/\∀m,Sm b m↔Sm l m\/(x.lo<=m/\m<x.hi)):=
 (Ah w sb so cs t a n cap l x c d hs f g i j).mono (λ_ _ h=>⟨h.1,h.2.to⟩)
theorem FQ(w:World)(sb so:Nat)(cs:Array Value)(t:TypeId)(a:Option Addr)(n cap:Nat)(l:List Rg)(x:Rg)(c:w.heap[sb]?=some (.cells cs t (0,0)))(d:cs[so]?=some (.slice a n cap))(hs:bu w a n cap l)(f:∀y,a=some y->y.block≠sb)(g:bh l)(i:x.ok)(j:n<=1000000):
 Calls prog 215 #[.pointer (some ⟨sb,so,none⟩),.agg #[.int .u64 x.lo,.int .u64 x.hi]] w λe k=>e=.returned (.tuple #[])/\pf w k sb so a (λb=>b.length<=l.length+1/\∀m,Sm b m↔Sm l m\/(x.lo<=m/\m<x.hi)):=
 (xB w sb so cs t a n cap l x c d hs f g i j).mono (λ_ _ h=>⟨h.1,h.2.set⟩)
theorem vh{x:Rg}(h:x.hi<=x.lo)(w:World):Calls prog 244 #[.agg #[.int .u64 x.lo,.int .u64 x.hi]] w λe a=>e=.returned (.bool true)/\w.grownBy a none:=
 (uY x w).mono λe a ⟨b,c⟩=>⟨by rw[b,bK h],c⟩
theorem vk{x:Rg}(h:¬x.hi<=x.lo)(w:World):Calls prog 244 #[.agg #[.int .u64 x.lo,.int .u64 x.hi]] w λe a=>e=.returned (.bool false)/\w.grownBy a none:=
 (uY x w).mono λe a ⟨b,c⟩=>⟨by rw[b,bI h],c⟩
theorem pf.same{q:List Rg->Prop}(b:w.heap[k]?=some (.cells c T (0,0)))(d:c[i]?=some (.slice a n j))(hs:bu w a n j X)(e:bh X)(g:w.grownBy W none)(f:q X):pf w W k i a q:=by
 refine⟨a,n,j,X,⟨cX g _,λl m h=>?_⟩,hs.ao g,.inl rfl,e,f⟩
 rw[bA h g];obtain⟨rfl,rfl⟩:l=c/\m=T:=by rw[b]at h;cases h;exact⟨rfl,rfl⟩
 congr 2;obtain⟨p,r⟩:=aY.1 d;rw[Array.setIfInBounds,dif_pos p,<-r,Array.set_getElem_self]
theorem dc.mono(h:dc w n x X)(e:k<=n):dc w k x X:=by
 obtain⟨b,c,a⟩:=h;refine⟨b,c,?_⟩
 obtain a|⟨g,cap,cur,e1,e2,d⟩:=a
 exact .inl a;exact .inr ⟨g,cap,cur,e1,by omega,d⟩
theorem Kept.ao(h:Kept w k a x X)(g:w.grownBy W none):Kept W k a x X:=by
 obtain⟨n,rfl,h⟩|h:=h
 exact .inl ⟨n,rfl,h.ao g⟩;exact .inr (h.ao g)
theorem Ai{t:Array Oper}{rest:List Oper}(z:H.guard=none)(s x:Operand)
 (ho:H.op=.call {callee:=.builtin .append,args:= #[s,x],argTypes:= #[227,227]})
 (w0:World) (p:Option Addr) (v:Value) (l:List Rg) (hs:I.eval s=v) (E:Kept w w0.heap.size p v l) (m:w0.grownBy w none) (b f c:Nat) (r:Rg) (A:r.ok) (B:I.eval x=.slice (some ⟨b,f,none⟩) 1 c) (h0:w.cell? ⟨b,f,none⟩=some (.int .u64 r.lo)) (C:w.cell? ⟨b,f+1,none⟩=some (.int .u64 r.hi)) (M:l.length<=2000000) (G:1<=c) (N:c<=10)
 (h:∀e i k a,Kept a w0.heap.size p (.slice e i k) (l++[r])->w0.grownBy a none->wpList prog t F rest (I.put H.dst (.slice e i k)) a):wpList prog t F (H::rest) I w:=by
 obtain⟨n,rfl,hl⟩|D:=E
 have O:n=l.length:=hl.2.1;exact FK z s x ho p n l hs hl b f c r A B h0 C (by omega) (λe i k a q g=>h e i k a (.inr (q.mono m.size)) (aq m g));have K:bu w (some ⟨b,f,none⟩) 1 c [r]:=by
  refine⟨λy L=>by rw[cS.1 L];exact A,rfl,G,by simp only[maxLen];omega,.inr ⟨b,f,rfl,λj u d=>?_⟩⟩
  match j,d with
  |0,d=>simp[cz]at d;rw[<-d];exact h0
  |1,d=>simp[cz]at d;rw[<-d];exact C
 exact FL z s x ho w0.heap.size v l hs D (some ⟨b,f,none⟩) 1 c [r] B K (by simp;omega) m.size (λe i k a q g=>h e i k a (.inr q) (Ag m D (aP _) g))
theorem FR(p r s q:Value)(W:World):(Instr.index 410 (.agg #[p,r,s,q]) (.int .i64 0)).run prog W=.ok (.agg #[p,r]) W:=by kernel_rfl
theorem FU(p r s q:Value)(W:World):(Instr.index 410 (.agg #[p,r,s,q]) (.int .i64 1)).run prog W=.ok (.agg #[s,q]) W:=by kernel_rfl
theorem FV{j:Array Oper}{rest:List Oper}(n:H.guard=none)(s x:Operand)
 (ho:H.op=.call {callee:=.builtin .append,args:= #[s,x],argTypes:= #[227,227]})
 (b:Nat) (f:Option Addr) (v:Value) (l:List Rg) (hs:I.eval s=v) (p:Kept w b f v l) (g:Option Addr) (nx i:Nat) (m:List Rg) (q:I.eval x=.slice g nx i) (t:bu w g nx i m) (u:l.length+m.length<=100000000) (z:b<=w.heap.size)
 (h:∀a d e c,bu c a d e (l++m)->(a=f\/∀y,a=some y->b<=y.block)->(∃r,w.grownBy c r/\∀k,r=some k->b<=k)->wpList prog j F rest (I.put H.dst (.slice a d e)) c):wpList prog j F (H::rest) I w:=
 sZ n λ_ A=>by
  obtain⟨a,d,e,c,B,C,D,E⟩:=FM (w:=w) H.type b f v l p g nx i m t u z;unfold Oper.wp execOp;simp only[ho,resolve,invoke,builtin,iU,mi,iT,nF,ki,mP,hs,q,B]
  exact A _ _ (h a d e c C D E)
def gZ(p a b q:Int):Nat->List Rg
 |0=>[]
 |1=>if p<a then[⟨p,a⟩]else[]
 |_=>(if p<a then[⟨p,a⟩]else[])++(if b<q then[⟨b,q⟩]else[])
theorem vp(p a b q:Int)(c:Nat):(gZ p a b q c).length<=2:=by
 unfold gZ;split;simp;split<;>simp;split<;>split<;>simp
theorem Aj(w:World)(sb so:Nat)(cs:Array Value)(t:TypeId)(a:Option Addr)(n cap:Nat)(l:List Rg)(x:Rg)(S:w.heap[sb]?=some (.cells cs t (0,0)))(T:cs[so]?=some (.slice a n cap))(hs:bu w a n cap l)(a9:l≠[]->∀y,a=some y->y.block≠sb)(C:bh l)(hx:x.ok)(hn:n<=1000000):
 Calls prog 281 #[.pointer (some ⟨sb,so,none⟩),.agg #[.int .u64 x.lo,.int .u64 x.hi]] w λe w'=>e=.returned (.tuple #[])/\pf w w' sb so a (λl'=>l'.length<=l.length+1/\∀m,Sm l' m↔Sm l m/\¬(x.lo<=m/\m<x.hi)):=by
 obtain⟨d,f⟩:=x;have b8:w.cell? ⟨sb,so,none⟩=some (.slice a n cap):=by simp[World.cell?,S,T]
 obtain⟨D,U⟩:=exq (w.alloc (.cells #[.int .u64 d,.int .u64 f] 341));have b0:w.grownBy D none:=by rw[U];exact aH _ _ _
 have b3:D.heap[w.heap.size]?=some (.cells #[.int .u64 d,.int .u64 f] 341 (0,0)):=by rw[U];exact aM _ _
 have ca:D.heap.size=w.heap.size+1:=by rw[U];simp
 have x0:D.cell? ⟨w.heap.size,0,none⟩=some (.int .u64 d):=by simp[World.cell?,b3]
 have x1:D.cell? ⟨w.heap.size,1,none⟩=some (.int .u64 f):=by simp[World.cell?,b3]
 obtain⟨V,ax⟩:=exq (D.alloc (.cells #[.slice a n cap] 227));have g2:D.grownBy V none:=by rw[ax];exact aH _ _ _
 have b4:V.heap[D.heap.size]?=some (.cells #[.slice a n cap] 227 (0,0)):=by rw[ax];exact aM _ _
 have Q:pd V D.heap.size w.heap.size a n cap l ⟨d,f⟩:=⟨by simp[World.cell?,b4],g2.cell x0 (by simp),g2.cell x1 (by simp),hs.ao (aq b0 g2),hx⟩
 rw[ca]at Q b4;have F:n=l.length:=hs.2.1;have b5:=J (uW n 297 #[.pointer (some ⟨w.heap.size+1,0,none⟩),.pointer (some ⟨w.heap.size,0,none⟩)] V (λk=>d<(au l k).hi) (by omega) (λi j X hj hp=>by
  obtain h|rfl:=rA X
  have:=C.lt h (by omega);have:=C.pos (i:=j) (by omega);show d<_;omega
  ·exact hp) (λ_ _=>by kernel_rfl) (λW h g hh=>FD W _ _ h n cap a l ⟨d,f⟩ (Q.ao g) hh))
 have b6:=J (λW(gW:V.grownBy W none)=>uW n 298 #[.pointer (some ⟨w.heap.size+1,0,none⟩),.pointer (some ⟨w.heap.size,0,none⟩)] W (λk=>f<=(au l k).lo) (by omega) (λi j X hj hp=>by
  obtain h|rfl:=rA X
  have:=C.lt h (by omega);have:=C.pos (i:=i) (by omega);show f<=_;omega
  ·exact hp) (λ_ _=>by kernel_rfl) (λW' h g hh=>FF W' _ _ h n cap a l ⟨d,f⟩ (Q.ao (aq gW g)) hh))
 have du:sb<w.heap.size:=(aY.1 S).1;replace F:=J F;replace Q:=J Q;replace C:=J C;replace hs:=J hs;rw[U]at ax;clear U x0 x1;go_enter func281,ntmps281;go_wp2_with fail;rw[<-ax];refine(Z b5).mono ?_;rintro e w3⟨⟨i,rfl,bb⟩,g3⟩;have bj:=(Z Q).ao g3;have ch:=bj.1;clear b5;go_wp2_with fail;refine(Z b6 _ g3).mono ?_;rintro e w4⟨⟨j,rfl,br⟩,g4⟩;have R:=bj.ao g4;obtain⟨k1,k2,k3,k4,-⟩:=id R;have bt:w.grownBy w4 none:=aq b0 (aq g2 (aq g3 g4));have cj:i<=n:=bb.1;have cp:j<=n:=br.1;have aC:lM l.length i (λk=>d<(au l k).hi):=by rw[<-Z F];exact bb
 have a0:lM l.length j (λk=>f<=(au l k).lo):=by rw[<-Z F];exact br
 have dx:n<=cap:=(Z hs).2.2.1;have cw:=(Z hs).2.2.2.1;unfold maxLen at cw;clear b6 bj ch;by_cases he:f<=d
 ·have hE:=J (λW=>vh (x:=⟨d,f⟩) he W);go_wp2_with fail;refine(Z hE _).mono ?_;rintro e I⟨rfl,G⟩;go_wp2_with fail;exact cA (et rfl _ _ _) rfl ⟨rfl,pf.same S T (Z hs) (Z C) (aq bt G) ⟨by omega,λm=>⟨λh=>⟨h,by omega⟩,λh=>h.1⟩⟩⟩
 have hE:=J (λW=>vk (x:=⟨d,f⟩) he W);by_cases X:i<j
 ·replace a9:=a9 (λe=>by have:=Z F;rw[e]at this;simp at this;omega);have cx:decide ((j:Int)<=(i:Int))=false:=bI (by omega);have dE:decide (j<=i)=false:=bI (by omega);have hcut:=J (Fp (Z C) (x:=⟨d,f⟩) (show d<f by omega) X aC a0);have cy:Hid ((l.take i).length+(l.drop j).length+1<=l.length):=J (by rw[ct,dF];have:=aC.1;have:=a0.1;omega);clear bb br aC a0;obtain⟨b,o,rfl⟩:∃b o,a=some ⟨b,o,none⟩:=by
   obtain⟨-,-,-,-,h0|⟨b,o,rfl,-⟩⟩:=Z hs;omega;exact⟨b,o,rfl⟩
  go_wp2_with fail;refine(Z hE _).mono ?_;rintro e I⟨rfl,G⟩;have a1:=aq bt G;obtain⟨k1,k2,k3,k4,-⟩:=R.ao G;obtain⟨y0,-⟩:=k4.cell i (by have:=Z F;omega);obtain⟨-,y1⟩:=k4.cell (j-1) (by have:=Z F;omega);have Y:=oD (Z hs).1 i;have o1:=oD (Z hs).1 (j-1);unfold uU at hcut;obtain⟨p,hp⟩:=exq ((au l i).lo);obtain⟨q,hq⟩:=exq ((au l (j-1)).hi);rw[<-hp]at y0 hcut;rw[<-hq]at y1 hcut;replace Y:aV p:=by rw[hp];exact Y.1
  replace o1:aV q:=by rw[hq];exact o1.2
  clear hp hq;have e1:(j:Int)-1=((j-1:Nat):Int):=by omega
  have e2:IntKind.i64.wrap ((j:Int)-1)=((j-1:Nat):Int):=by simp[IntKind.wrap,IntKind.bits,IntKind.signed];omega
  have i1:(i:Int)<(n:Int):=by omega
  have i2:((j-1:Nat):Int)<(n:Int):=by omega
  have dG:∀W,(Instr.slice 227 (.slice (some ⟨b,o,none⟩) n cap) none (some (.int .i64 (i:Int))) (some (.int .i64 (i:Int)))).run prog W=.ok (.slice (some ⟨b,o,none⟩) i i) W:=λW=>Ae _ n cap i (by omega) W
  replace Y:=J Y;replace o1:=J o1;go_wp2_with fail;go_quiet (fail);go_wp2_with fail;have cC:=(R.ao G).2.2.2.1.front i cj;have ea:l.length<=1000000:=by have:=Z F;omega
  replace R:=J R;clear k1 k2 k3 k4 y0 y1;go_loopw [7,50] (λv cv wr=>∃c:Nat,c<=2/\cv=.int .i64 (c:Int)/\Kept wr I.heap.size (some ⟨b,o,none⟩) v (l.take i++gZ p d f q c)/\I.grownBy wr none) (λ_ cv _=>2-(intOf cv).toNat);case atStart=>exact⟨0,by omega,rfl,.inl ⟨i,rfl,by rw[show gZ p d f q 0=[]from rfl,ot];exact cC.ao (di (aB _ _) _)⟩,di (aB _ _) _⟩
  case round=>
   obtain⟨c,c9,rfl,A,K⟩:=hrel;have db:=FR (.int .u64 p) (.int .u64 d) (.int .u64 f) (.int .u64 q);have de:=FU (.int .u64 p) (.int .u64 d) (.int .u64 f) (.int .u64 q);match c,c9 with
   |0,_=>
    by_cases hp:p<d
    ·have L:=J (λW=>vk (x:=⟨p,d⟩) (show¬d<=p by omega) W);have u:gZ p d f q 1=gZ p d f q 0++[⟨p,d⟩]:=by simp[gZ,hp]
     replace u:=J u;go_wp2_with fail;refine(Z L _).mono ?_;rintro e s⟨rfl,E⟩;have B:wr.grownBy s none:=aq (aH _ _ _) E;have M:s.heap[wr.heap.size]?=some (.cells #[.int .u64 p,.int .u64 d] 341 (0,0)):=(E.block wr.heap.size (by simp) (by simp)).trans (aM _ _);have r0:s.cell? ⟨wr.heap.size,0,none⟩=some (.int .u64 p):=by simp[World.cell?,M]
     have r1:s.cell? ⟨wr.heap.size,1,none⟩=some (.int .u64 d):=by simp[World.cell?,M]
     have N:=aH s (.cells #[.int .u64 p,.int .u64 d] 341) none;have bx:=J (A.ao (aq B N));have bz:=J (aq K (aq B N));have O:(s.alloc (.cells #[.int .u64 p,.int .u64 d] 341)).heap[s.heap.size]?=some (.cells #[.int .u64 p,.int .u64 d] 341 (0,0)):=aM s _;have s0:Hid ((s.alloc (.cells #[.int .u64 p,.int .u64 d] 341)).cell? ⟨s.heap.size,0,none⟩=some (.int .u64 p)):=J (by simp only[World.cell?,O];rfl);have s1:Hid ((s.alloc (.cells #[.int .u64 p,.int .u64 d] 341)).cell? ⟨s.heap.size,0+1,none⟩=some (.int .u64 d)):=J (by simp only[World.cell?,O];rfl);have bM:Hid ((⟨p,d⟩:Rg).ok):=J ⟨Z Y,hx.1⟩;have al:Hid ((l.take i++gZ p d f q 0).length<=2000000):=J (by have:=vp p d f q 0;simp;omega);clear M N O;go_wp2_with (at_builtin;refine Ai (by rfl) _ _ (by rfl) I (some ⟨b,o,none⟩) _ (l.take i++gZ p d f q 0) (by rfl) (Z bx) (Z bz) s.heap.size 0 1 ⟨p,d⟩ (Z bM) (by rfl) (Z s0) (Z s1) (Z al) (by decide) (by decide) ?_;intro a7 n7 c7 w7 P H);go_roundw;case rel=>exact⟨1,by omega,rfl,by rw[Z u,<-fg];exact P,H⟩
     case measure=>simp[intOf]
    have L:=J (λW=>vh (x:=⟨p,d⟩) (show d<=p by omega) W);have u:gZ p d f q 1=gZ p d f q 0:=by simp[gZ,hp]
    replace u:=J u;replace A:=J A;go_wp2_with fail;refine(Z L _).mono ?_;rintro e s⟨rfl,E⟩;have B:wr.grownBy s none:=aq (aH _ _ _) E;go_wp2_with fail;go_roundw;case rel=>exact⟨1,by omega,rfl,by rw[Z u];exact(Z A).ao B,aq K B⟩
    case measure=>simp[intOf]
   |1,_=>
    by_cases hp:f<q
    ·have L:=J (λW=>vk (x:=⟨f,q⟩) (show¬q<=f by omega) W);have u:gZ p d f q 2=gZ p d f q 1++[⟨f,q⟩]:=by simp[gZ,hp]
     replace u:=J u;go_wp2_with fail;refine(Z L _).mono ?_;rintro e s⟨rfl,E⟩;have B:wr.grownBy s none:=aq (aH _ _ _) E;have M:s.heap[wr.heap.size]?=some (.cells #[.int .u64 f,.int .u64 q] 341 (0,0)):=(E.block wr.heap.size (by simp) (by simp)).trans (aM _ _);have r0:s.cell? ⟨wr.heap.size,0,none⟩=some (.int .u64 f):=by simp[World.cell?,M]
     have r1:s.cell? ⟨wr.heap.size,1,none⟩=some (.int .u64 q):=by simp[World.cell?,M]
     have N:=aH s (.cells #[.int .u64 f,.int .u64 q] 341) none;have bx:=J (A.ao (aq B N));have bz:=J (aq K (aq B N));have O:(s.alloc (.cells #[.int .u64 f,.int .u64 q] 341)).heap[s.heap.size]?=some (.cells #[.int .u64 f,.int .u64 q] 341 (0,0)):=aM s _;have s0:Hid ((s.alloc (.cells #[.int .u64 f,.int .u64 q] 341)).cell? ⟨s.heap.size,0,none⟩=some (.int .u64 f)):=J (by simp only[World.cell?,O];rfl);have s1:Hid ((s.alloc (.cells #[.int .u64 f,.int .u64 q] 341)).cell? ⟨s.heap.size,0+1,none⟩=some (.int .u64 q)):=J (by simp only[World.cell?,O];rfl);have bM:Hid ((⟨f,q⟩:Rg).ok):=J ⟨hx.2,Z o1⟩;have al:Hid ((l.take i++gZ p d f q 1).length<=2000000):=J (by have:=vp p d f q 1;simp;omega);clear M N O;go_wp2_with (at_builtin;refine Ai (by rfl) _ _ (by rfl) I (some ⟨b,o,none⟩) _ (l.take i++gZ p d f q 1) (by rfl) (Z bx) (Z bz) s.heap.size 0 1 ⟨f,q⟩ (Z bM) (by rfl) (Z s0) (Z s1) (Z al) (by decide) (by decide) ?_;intro a7 n7 c7 w7 P H);go_roundw;case rel=>exact⟨2,by omega,rfl,by rw[Z u,<-fg];exact P,H⟩
     case measure=>simp[intOf]
    have L:=J (λW=>vh (x:=⟨f,q⟩) (show q<=f by omega) W);have u:gZ p d f q 2=gZ p d f q 1:=by simp[gZ,hp]
    replace u:=J u;replace A:=J A;go_wp2_with fail;refine(Z L _).mono ?_;rintro e s⟨rfl,E⟩;have B:wr.grownBy s none:=aq (aH _ _ _) E;go_wp2_with fail;go_roundw;case rel=>exact⟨2,by omega,rfl,by rw[Z u];exact(Z A).ao B,aq K B⟩
    case measure=>simp[intOf]
   |2,_=>
    clear db de;have a3:=(Z R).ao (aq G K);have c1:=a3.1;obtain⟨a2,a4⟩:=exq ((if cap=j then some (⟨b,o,none⟩:Addr)else(some (⟨b,o,none⟩:Addr)).map (·.add (j*2))));have ee:∀W,(Instr.slice 227 (.slice (some ⟨b,o,none⟩) n cap) (some (.int .i64 (j:Int))) none none).run prog W=.ok (.slice a2 (n-j) (cap-j)) W:=λW=>by rw[a4];exact Af _ n cap j (by omega) W
    have dg:=J (a3.2.2.2.1.back (O:=a2) j cp (by
     by_cases T:cap=j;left;omega
     ·right;rw[a4,ah T];exact⟨b,o,rfl,by simp only[rD,Addr.add_mid]⟩))
    have al:Hid ((l.take i++gZ p d f q 2).length+(l.drop j).length<=100000000):=J (by have:=vp p d f q 2;simp;omega);have dk:=aq a1 K;have dn:=K.size;replace a4:=J a4;replace A:=J A;replace a3:=J a3;have b7:Hid (l.take i++gZ p d f q 2++l.drop j=l.take i++((if p<d then[⟨p,d⟩]else[])++((if f<q then[⟨f,q⟩]else[])++l.drop j))):=J (by simp[gZ]);go_wp2_with (at_builtin;refine FV (by rfl) _ _ (by rfl) I.heap.size (some ⟨b,o,none⟩) _ (l.take i++gZ p d f q 2) (by rfl) (Z A) _ _ _ (l.drop j) (by rfl) (Z dg) (Z al) dn ?_;intro a7 n7 c7 w7 P f7 H;have a8:w.grownBy w7 none:=(by obtain⟨r7,H,h7⟩:=H;exact cF dk H (λk e=>.inl (bD a1.size (h7 k e))));clear H;replace P:=J P;replace f7:=J f7;have eg:=a8.cell b8 (by simp);have ei:w7.frozen? ⟨sb,so,none⟩=false:=(by simp[World.frozen?,bA S a8]));refine eW (et rfl _ _ _) rfl ⟨rfl,a7,n7,c7,_,⟨aI (cX a8 _) _ _ (.inr rfl),λej t' h=>heap_set (bA h a8) _⟩,?_,?_,(Z hcut).1,?_,(Z hcut).2⟩;have h5:=Z P;rw[Z b7]at h5;refine h5.ai (λz hz=>?_) so _;obtain rfl|hf:=Z f7
    exact a9 z hz;have:=hf z hz;have:=a1.size;omega;obtain rfl|hf:=Z f7
    exact .inl rfl;exact .inr (λz hz=>bD a1.size (hf z hz));rw[<-Z b7,bH,bH];have:=vp p d f q 2;have:=Z cy;omega
 have cx:decide ((j:Int)<=(i:Int))=true:=bK (by omega);go_wp2_with fail;refine(Z hE _).mono ?_;rintro e I⟨rfl,G⟩;go_wp2_with fail;refine cA (et rfl _ _ _) rfl ⟨rfl,pf.same S T (Z hs) (Z C) (aq bt G) ⟨by omega,λm=>⟨λh=>⟨h,?_⟩,λh=>h.1⟩⟩⟩;obtain⟨r,hr,h1,h2⟩:=h;obtain⟨k,hk,rfl⟩:=jP.1 hr;have er:au l k=l[k]:=by simp[au,List.getD,hk]
 by_cases ds:k<i;have:¬d<(au l k).hi:=aC.2.1 k ds;rw[er]at this;omega;have:f<=(au l k).lo:=a0.2.2 k (by omega) hk;rw[er]at this;omega
theorem FW(a:Option Addr)(n cap f:Nat)(lb:Array Value)(l:List Rg)(w:World)(p:Nat->Prop)(hs:bu w a n cap l)
 (L:∀args w,(callFunc f args).run prog w=.ok (.enter f args) w)
 (s:∀(W:World)(h:Nat),w.grownBy W none->h<n->Calls prog f (#[.agg #[.int .u64 (au l h).lo,.int .u64 (au l h).hi]]++lb) W (λe F=>dJ (p h) e/\W.grownBy F none)):
 Calls prog 286 #[.slice a n cap,.func (.func f) #[] lb] w λe d=>(∃k:Int,e=.returned (.int .i64 k)/\((0<=k/\k<n)↔∃i,i<n/\p i)/\(k= -1\/0<=k/\k<n))/\w.grownBy d none:=by
 obtain⟨R,m⟩:∃R:Ending->Prop,R=λe=>∃k:Int,e=.returned (.int .i64 k)/\((0<=k/\k<n)↔∃i,i<n/\p i)/\(k= -1\/0<=k/\k<n):=⟨_,rfl⟩
 have u:∀k:Nat,k<n->p k->R (.returned (.int .i64 (k:Int))):=λk c v=>by rw[m];exact⟨k,rfl,⟨λ_=>⟨k,c,v⟩,λ_=>by omega⟩,.inr (by omega)⟩
 have x:(∀i,i<n->¬p i)->R (.returned (.int .i64 (-1))):=λh=>by rw[m];exact⟨-1,rfl,⟨λh=>by omega,λ⟨i,c,v⟩=>absurd v (h i c)⟩,.inl rfl⟩
 have A:(λe d=>(∃k:Int,e=.returned (.int .i64 k)/\((0<=k/\k<n)↔∃i,i<n/\p i)/\(k= -1\/0<=k/\k<n))/\w.grownBy d none)=λe d=>R e/\w.grownBy d none:=by rw[m]
 rw[A];clear A m;have y:=hs.2.1;have M:=hs.2.2.1;have G:=hs.2.2.2.1;unfold maxLen at G;replace y:=J y;replace u:=J u;replace x:=J x;replace s:=J s;go_enter func286,ntmps286;go_wp2_with fail;go_loopw [8] (λz wr=>∃j:Nat,j<=n/\z=.int .i64 (j:Int)/\(∀i,i<j->¬p i)/\w.grownBy wr none) (λz _=>n-(intOf z).toNat);case atStart=>exact⟨0,by omega,rfl,λi hi=>by omega,aB _ _⟩
 case round=>
  obtain⟨j,N,rfl,q,g⟩:=hrel;replace q:=J q;by_cases B:j<n
  ·have d1:decide ((j:Int)<(n:Int))=true:=bK (by omega);have c:=hs.ao g;obtain⟨-,-,-,-,h0|⟨b,o,rfl,-⟩⟩:=id c;omega;obtain⟨c1,c2⟩:=c.cell j (by have:=Z y;omega);have hF:=Z s wr j g B;obtain⟨lo,C⟩:=exq ((au l j).lo);obtain⟨hi,D⟩:=exq ((au l j).hi);rw[<-C]at c1 hF;rw[<-D]at c2 hF;replace hF:=J hF;clear C D;have O:(j:Int)<(n:Int):=by omega
   go_wp2_with fail;refine(Z hF).mono ?_;rintro e P⟨⟨t,rfl,r⟩,E⟩;cases t
   ·have H:Hid (¬p j):=J (λhp=>by cases r.2 hp);clear r;go_wp2_with fail;go_roundw;case rel=>
     refine⟨j+1,by omega,by simp,λi I=>?_,aq g E⟩
     obtain h|rfl:=pX.1 I
     exact Z q i h;exact Z H
    case measure=>simp[intOf];omega
   have K:Hid (p j):=J (r.1 rfl);clear r;go_wp2_with fail;go_ret;exact⟨Z u j B (Z K),aq g E⟩
  have d1:decide ((j:Int)<(n:Int))=false:=bI (by omega);go_wp2_with fail;go_ret;exact⟨Z x (λi hi=>Z q i (by omega)),g⟩
theorem FX(W:World)(d:Nat)(y x:Rg)(h0:W.cell? ⟨d,0,none⟩=some (.int .u64 x.lo))(l:W.cell? ⟨d,1,none⟩=some (.int .u64 x.hi)):
 Calls prog 246 #[.agg #[.int .u64 y.lo,.int .u64 y.hi],.pointer (some ⟨d,0,none⟩)] W λe k=>dJ (y.lo<=x.lo/\x.hi<=y.hi) e/\W.grownBy k none:=by
 obtain⟨a,f⟩:=y;obtain⟨b,g⟩:=x;have m:d<W.heap.size:=ep W _ h0;obtain⟨R,c⟩:∃R:Prop,R=(a<=b/\g<=f):=⟨_,rfl⟩
 have j:((⟨a,f⟩:Rg).lo<=(⟨b,g⟩:Rg).lo/\(⟨b,g⟩:Rg).hi<=(⟨a,f⟩:Rg).hi)=R:=c.symm;rw[j];clear j;replace c:=J c;go_enter func246,ntmps246;by_cases i:a<=b
 ·have d1:decide (a<=b)=true:=bK i;go_wp2_with fail;go_ret;exact⟨nI (by rw[Z c];exact⟨λh=>⟨i,h⟩,λh=>h.2⟩),aH _ _ _⟩
 have d1:decide (a<=b)=false:=bI i;go_wp2_with fail;go_ret;exact⟨lN (by rw[Z c];exact λh=>by have:=h.1;omega),aH _ _ _⟩
theorem FY(a:Option Addr)(n cap b:Nat)(lb:Array Value)(l:List Rg)(w:World)(p:Nat->Prop)(hs:bu w a n cap l)
 (j:∀args w,(callFunc b args).run prog w=.ok (.enter b args) w)
 (f:∀(W:World)(h:Nat),w.grownBy W none->h<n->Calls prog b (#[.agg #[.int .u64 (au l h).lo,.int .u64 (au l h).hi]]++lb) W (λe m=>dJ (p h) e/\W.grownBy m none)):
 Calls prog 245 #[.slice a n cap,.func (.func b) #[] lb] w λe q=>dJ (∃i,i<n/\p i) e/\w.grownBy q none:=by
 have r:=J (FW a n cap b lb l w p hs j f);obtain⟨R,c⟩:∃R:Prop,R=(∃i,i<n/\p i):=⟨_,rfl⟩
 rw[<-c];replace c:=J c;clear f hs;go_enter func245,ntmps245;go_wp2_with fail;refine(Z r).mono ?_;rintro e u⟨⟨k,rfl,g,s⟩,t⟩;have d:R↔0<=k:=by rw[Z c,<-g];omega
 replace d:=J d;clear g s;go_wp2_with fail;go_ret;exact⟨nI (Z d).symm,t⟩
theorem Al(a:Option Addr)(n cap:Nat)(l:List Rg)(x:Rg)(w:World)(hs:bu w a n cap l):
 Calls prog 211 #[.slice a n cap,.agg #[.int .u64 x.lo,.int .u64 x.hi]] w λe y=>dJ (x.hi<=x.lo\/∃r∈l,r.lo<=x.lo/\x.hi<=r.hi) e/\w.grownBy y none:=by
 obtain⟨R,f⟩:∃R:Prop,R=(x.hi<=x.lo\/∃r∈l,r.lo<=x.lo/\x.hi<=r.hi):=⟨_,rfl⟩
 rw[<-f];have j:(∃i,i<n/\((au l i).lo<=x.lo/\x.hi<=(au l i).hi))↔∃r∈l,r.lo<=x.lo/\x.hi<=r.hi:=by
  rw[hs.2.1];constructor;rintro⟨i,hi,h⟩;exact⟨_,oZ hi,h⟩
  rintro⟨r,z,h⟩;obtain⟨i,hi,rfl⟩:=jP.1 z;exact⟨i,hi,by simpa [au,List.getD,hi]using h⟩
 replace f:=J f;replace j:=J j;obtain⟨b,c⟩:=x;have k:w.grownBy (w.alloc (.cells #[.int .u64 b,.int .u64 c] 341)) none:=aH _ _ _;have m:(w.alloc (.cells #[.int .u64 b,.int .u64 c] 341)).heap[w.heap.size]?=some (.cells #[.int .u64 b,.int .u64 c] 341 (0,0)):=aM _ _;have A:Hid ((w.alloc (.cells #[.int .u64 b,.int .u64 c] 341)).cell? ⟨w.heap.size,0,none⟩=some (.int .u64 b)):=J (by simp only[World.cell?,m];rfl);have B:Hid ((w.alloc (.cells #[.int .u64 b,.int .u64 c] 341)).cell? ⟨w.heap.size,1,none⟩=some (.int .u64 c)):=J (by simp only[World.cell?,m];rfl);replace hs:=J hs;clear m;by_cases p:c<=b
 ·have q:=J (λW=>vh (x:=⟨b,c⟩) p W);go_enter func211,ntmps211;go_wp2_with fail;refine(Z q _).mono ?_;rintro e u⟨rfl,d⟩;go_wp2_with fail;go_ret;exact⟨rJ (by rw[Z f];exact .inl p),aq k d⟩
 have q:=J (λW=>vk (x:=⟨b,c⟩) p W);go_enter func211,ntmps211;go_wp2_with fail;refine(Z q _).mono ?_;rintro e u⟨rfl,d⟩;have C:=J (FY a n cap 246 #[.pointer (some ⟨w.heap.size,0,none⟩)] l u (λi=>(au l i).lo<=b/\c<=(au l i).hi) ((Z hs).ao (aq k d)) (λ_ _=>by kernel_rfl) (λW h g _=>FX W w.heap.size (au l h) ⟨b,c⟩ ((aq d g).cell (Z A) (by simp)) ((aq d g).cell (Z B) (by simp))));go_wp2_with fail;refine(Z C).mono ?_;rintro e E⟨⟨t,rfl,v⟩,D⟩;have s:t=true↔R:=by
  rw[v,Z f,Z j];constructor;exact .inr;rintro(h|h);omega;exact h
 replace s:=J s;clear v;go_wp2_with fail;go_ret;exact⟨⟨t,rfl,Z s⟩,aq k (aq d D)⟩
structure Hd where
 fr:Int
 bytes:List Int
 af:List Rg
def Hd.nice(h:Hd):Prop:=0<=h.fr/\h.fr+h.bytes.length<=4611686018427387903/\bh h.af/\h.bytes.length<=1000000/\h.af.length<=100000
def gK(w:World)(sb ho:Nat)(ab:Option Addr)(nb cb:Nat)(ac:Option Addr)(nc cc:Nat)(h:Hd):Prop:=
 w.cell? ⟨sb,ho,none⟩=some (.int .u64 h.fr)/\w.cell? ⟨sb,ho+1,none⟩=some (.slice ab nb cb)/\w.cell? ⟨sb,ho+2,none⟩=some (.slice ac nc cc)/\bF w ab nb cb h.bytes/\bu w ac nc cc h.af/\h.nice
theorem gK.ao{ac:Option Addr}{h:Hd}(H:gK w n k a i j ac l m h)(g:w.grownBy W none):gK W n k a i j ac l m h:=
 ⟨g.cell H.1 (by simp),g.cell H.2.1 (by simp),g.cell H.2.2.1 (by simp),H.2.2.2.1.ao g,H.2.2.2.2.1.ao g,H.2.2.2.2.2⟩
theorem Am(w:World)(sb ho:Nat)(ab:Option Addr)(nb cb:Nat)(ac:Option Addr)(nc cc:Nat)(h:Hd)(H:gK w sb ho ab nb cb ac nc cc h):
 Calls prog 196 #[.pointer (some ⟨sb,ho,none⟩)] w λe c=>e=.returned (.int .u64 (h.fr+h.bytes.length))/\w.grownBy c none:=by
 obtain⟨c0,c1,c2,a,-,⟨f,d,-,k3,-⟩⟩:=H;obtain⟨fr,bytes,af⟩:=h;simp only at *;have b:nb=bytes.length:=a.2.1;rw[<-b]at d k3⊢;clear b a;have g:IntKind.u64.wrap (fr+(nb:Int))=fr+(nb:Int):=by rw[fh];omega
 go_enter func196,ntmps196;go_wp2_with fail;first
  |go_quiet (fail)
  |skip
 go_wp2_with fail;go_ret;exact⟨rfl,by repeat(first|exact aB _ _|apply di|apply aW|apply ba)⟩
def cO(h:Hd):Int:=if h.af.length=0\/0<(au h.af 0).lo then 0 else(au h.af 0).hi-h.fr
theorem An(w:World)(sb ho:Nat)(ab:Option Addr)(nb cb:Nat)(ac:Option Addr)(nc cc:Nat)(h:Hd)(H:gK w sb ho ab nb cb ac nc cc h)(c:0<=cO h/\cO h<=4611686018427387903):
 Calls prog 220 #[.pointer (some ⟨sb,ho,none⟩)] w λe j=>e=.returned (.int .i64 (cO h))/\w.grownBy j none:=by
 obtain⟨c0,c1,c2,-,a,⟨p,q,-,k3,-⟩⟩:=H;obtain⟨fr,bytes,af⟩:=h;simp only at *;have d:nc=af.length:=a.2.1;have r:=a.2.2.1;have k:=a.2.2.2.1;unfold maxLen at k;by_cases f:nc=0
 ·have g:cO ⟨fr,bytes,af⟩=0:=by unfold cO;rw[az];left;simp only;omega
  rw[g];subst f;clear g c d;go_enter func220,ntmps220;go_wp2_with fail;first
   |go_quiet (fail)
   |skip
  go_wp2_with fail;go_ret;exact⟨rfl,by repeat(first|exact aB _ _|apply di|apply aW|apply ba)⟩
 obtain⟨b,o,rfl⟩:∃b o,ac=some ⟨b,o,none⟩:=by
  obtain⟨-,-,-,-,h0|⟨b,o,rfl,-⟩⟩:=a;omega;exact⟨b,o,rfl⟩
 obtain⟨l,m⟩:=a.cell 0 (by omega);have n:=oD a.1 0;obtain⟨⟨s,t⟩,u,v⟩:=n;have i:cO ⟨fr,bytes,af⟩=if 0<(au af 0).lo then 0 else(au af 0).hi-fr:=by
  unfold cO;by_cases h0:0<(au af 0).lo;rw[az (.inr h0),az h0];rw[ah (by simp only;omega),ah h0]
 rw[i]at c⊢;clear i;generalize (au af 0).lo=lo at *;generalize (au af 0).hi=hi at *;rw[nG,ou]at l m;clear a d;have x:((nc:Int)==0)=false:=by simp[f]
 have y:(0:Int)<(nc:Int):=by omega
 by_cases h0:0<lo
 ·have d0:decide (0<lo)=true:=bK h0;rw[az h0];clear c;go_enter func220,ntmps220;go_wp2_with fail;first
   |go_quiet (fail)
   |skip
  go_wp2_with fail;go_ret;exact⟨rfl,by repeat(first|exact aB _ _|apply di|apply aW|apply ba)⟩
 have d0:decide (0<lo)=false:=bI h0;rw[ah h0]at c⊢;have z:IntKind.u64.wrap (hi-fr)=hi-fr:=by rw[fh];omega
 have A:IntKind.i64.wrap (hi-fr)=hi-fr:=by simp[IntKind.wrap,IntKind.bits,IntKind.signed];omega
 go_enter func220,ntmps220;go_wp2_with fail;first
  |go_quiet (fail)
  |skip
 go_wp2_with fail;first
  |go_quiet (fail)
  |skip
 go_wp2_with fail;go_ret;exact⟨rfl,by repeat(first|exact aB _ _|apply di|apply aW|apply ba)⟩
def kJ:List Rg->Rg->List Rg
 |[],x=>[x]
 |r::l,x=>if r.hi<x.lo then r::kJ l x else if x.hi<r.lo then x::r::l else kJ l ⟨min r.lo x.lo,max r.hi x.hi⟩
def dv(l:List Rg)(x:Rg):List Rg:=if x.lo<x.hi then kJ l x else l
theorem Aq(l:List Rg)(x:Rg)(h:bh l)(c:x.lo<x.hi)(n:Int):Sm (kJ l x) n↔Sm l n\/(x.lo<=n/\n<x.hi):=by
 induction l generalizing x with
 |nil=>simp only[kJ,eu];exact or_comm
 |cons r l b=>
  have e:=h.2 r (by simp);unfold kJ;split;rw[eu,b x h.tail c,eu,or_assoc];split;rw[eu];exact or_comm;rw[b _ h.tail (by simp only;omega),eu];simp only
  constructor;rintro(a|a);exact .inl (.inr a);by_cases d:r.lo<=n/\n<r.hi;exact .inl (.inl d);exact .inr (by omega);rintro((a|a)|a);exact .inr (by omega);exact .inl a;exact .inr (by omega)
theorem Gb(l:List Rg)(x:Rg)(h:bh l)(d:x.lo<x.hi):bh (kJ l x):=by
 induction l generalizing x with
 |nil=>exact bh.one d
 |cons r l f=>
  have i:=h.2 r (by simp);unfold kJ;split;have e:=f x h.tail d;refine⟨p8.2 ⟨λb c=>?_,e.1⟩,λy a=>?_⟩
  have:=(Aq l x h.tail d b.lo).1 ⟨b,c,cW _,e.2 b c⟩;obtain g|g:=this
  exact h.behind g;omega;obtain rfl|a:=fk.1 a
  exact i;exact e.2 y a;split;refine⟨p8.2 ⟨λb c=>?_,h.1⟩,λy a=>?_⟩
  obtain rfl|c:=fk.1 c
  assumption;have:=(p8.1 h.1).1 b c;omega;obtain rfl|a:=fk.1 a
  exact d;exact h.2 y a;exact f _ h.tail (by simp only;omega)
theorem mW(x:Rg)(h:bh X):bh (dv X x):=by
 unfold dv;split;exact Gb X x h (by assumption);exact h
theorem jE(x:Rg)(h:bh X)(n:Int):Sm (dv X x) n↔Sm X n\/(x.lo<=n/\n<x.hi):=by
 unfold dv;split;exact Aq X x h (by assumption) n;exact⟨.inl,λh=>h.elim id (λh=>by omega)⟩
theorem vq{a:List Rg}{x:Rg}(h:bh X)(b:bh a)(e:∀n,Sm a n↔Sm X n\/(x.lo<=n/\n<x.hi)):a=dv X x:=
 b.unique (mW x h) (λn=>(e n).trans (jE x h n).symm)
theorem Gc(l:List Rg)(x:Rg):(kJ l x).length<=l.length+1:=by
 induction l generalizing x with
 |nil=>simp[kJ]
 |cons r l a=>
  unfold kJ;split;simp only[dq];have:=a x;omega;split;simp;have:=a ⟨min r.lo x.lo,max r.hi x.hi⟩;simp only[dq];omega
theorem tt(l:List Rg)(x:Rg):(dv l x).length<=l.length+1:=by
 unfold dv;split;exact Gc l x;omega
def lO(l:List Rg)(x:Rg):List Rg:=l.flatMap λr=>(if r.lo<min r.hi x.lo then[⟨r.lo,min r.hi x.lo⟩]else[])++(if max r.lo x.hi<r.hi then[⟨max r.lo x.hi,r.hi⟩]else[])
def lP(l:List Rg)(x:Rg):List Rg:=if x.lo<x.hi then lO l x else l
theorem Ar(l:List Rg)(x:Rg)(n:Int):Sm (lO l x) n↔Sm l n/\¬(x.lo<=n/\n<x.hi):=by
 induction l with
 |nil=>exact⟨λh=>absurd h (fM n),λh=>absurd h.1 (fM n)⟩
 |cons r l a=>
  have e:lO (r::l) x=((if r.lo<min r.hi x.lo then[⟨r.lo,min r.hi x.lo⟩]else[])++(if max r.lo x.hi<r.hi then[⟨max r.lo x.hi,r.hi⟩]else[]))++lO l x:=rfl;rw[e,rH,rH,a,eu];have e1:Sm (if r.lo<min r.hi x.lo then[(⟨r.lo,min r.hi x.lo⟩:Rg)]else[]) n↔r.lo<=n/\n<r.hi/\n<x.lo:=by
   split;rw[eu];simp only[fM,oT];omega;simp only[fM,false_iff];omega
  have e2:Sm (if max r.lo x.hi<r.hi then[(⟨max r.lo x.hi,r.hi⟩:Rg)]else[]) n↔r.lo<=n/\n<r.hi/\x.hi<=n:=by
   split;rw[eu];simp only[fM,oT];omega;simp only[fM,false_iff];omega
  rw[e1,e2];constructor;rintro((h|h)|h);exact⟨.inl (by omega),by omega⟩
  exact⟨.inl (by omega),by omega⟩
  exact⟨.inr h.1,h.2⟩
  rintro⟨h|h,b⟩;by_cases c:n<x.lo;exact .inl (.inl (by omega));exact .inl (.inr (by omega));exact .inr ⟨h,b⟩
theorem Gd(l:List Rg)(x:Rg)(h:bh l)(k:x.lo<x.hi):bh (lO l x):=by
 induction l with
 |nil=>exact bh.nil
 |cons r l j=>
  have m:=h.2 r (by simp);have e:lO (r::l) x=((if r.lo<min r.hi x.lo then[⟨r.lo,min r.hi x.lo⟩]else[])++(if max r.lo x.hi<r.hi then[⟨max r.lo x.hi,r.hi⟩]else[]))++lO l x:=rfl;rw[e];have g:=j h.tail;have m1:∀y∈(if r.lo<min r.hi x.lo then[(⟨r.lo,min r.hi x.lo⟩:Rg)]else[]),y.lo<y.hi/\y.hi<=r.hi/\y.hi<=x.lo:=λy c=>by
   split at c;simp only[cS]at c;subst c;simp only;omega;cases c
  have i:∀y∈(if max r.lo x.hi<r.hi then[(⟨max r.lo x.hi,r.hi⟩:Rg)]else[]),y.lo<y.hi/\y.hi<=r.hi/\x.hi<=y.lo:=λy c=>by
   split at c;simp only[cS]at c;subst c;simp only;omega;cases c
  refine bh.append (bh.append ?_ ?_ (λa d b f=>?_)) g (λa d b f=>?_);split;exact bh.one (by simp only;assumption);exact bh.nil;split;exact bh.one (by simp only;assumption);exact bh.nil;have:=m1 a d;have:=i b f;omega;have n:a.hi<=r.hi:=by
   obtain d|d:=bQ.1 d
   exact(m1 a d).2.1;exact(i a d).2.1
  have p:=h.behind (((Ar l x b.lo).1 ⟨b,f,cW _,g.2 b f⟩).1);omega
theorem tu(x:Rg)(h:bh X):bh (lP X x):=by
 unfold lP;split;exact Gd X x h (by assumption);exact h
theorem xD(x:Rg)(n:Int):Sm (lP X x) n↔Sm X n/\¬(x.lo<=n/\n<x.hi):=by
 unfold lP;split;exact Ar X x n;exact⟨λh=>⟨h,by omega⟩,λh=>h.1⟩
theorem Ge{a:List Rg}{x:Rg}(h:bh X)(b:bh a)(e:∀n,Sm a n↔Sm X n/\¬(x.lo<=n/\n<x.hi)):a=lP X x:=
 b.unique (tu x h) (λn=>(e n).trans (xD x n).symm)
def jk(af:List Rg)(x:Rg):List Rg:=af.foldl lP (dv [] x)
theorem Gf(af:List Rg):∀l,bh l->bh (af.foldl lP l):=by
 induction af with
 |nil=>exact λl h=>h
 |cons r c a=>exact λl h=>a _ (tu r h)
theorem Gg(af:List Rg):∀l n,Sm (af.foldl lP l) n↔Sm l n/\¬Sm af n:=by
 induction af with
 |nil=>exact λl n=>⟨λh=>⟨h,fM n⟩,λh=>h.1⟩
 |cons r c a=>
  intro l n;rw[mh,a,xD,eu,and_assoc,<-not_or]
theorem tw(af:List Rg)(x:Rg):bh (jk af x):=Gf af _ (mW x bh.nil)
theorem qi(af:List Rg)(x:Rg)(n:Int):Sm (jk af x) n↔(x.lo<=n/\n<x.hi)/\¬Sm af n:=by
 unfold jk;rw[Gg,jE x bh.nil];simp only[fM,false_or]
theorem As{l:List Rg}{x:Rg}(h:bh l)(e:∀n,Sm l n↔(x.lo<=n/\n<x.hi)/\¬Sm X n):l=jk X x:=
 h.unique (tw X x) (λn=>(e n).trans (qi X x n).symm)
def mX(fr:Int)(b:List Int)(x:Rg):List Int:=b++List.replicate ((x.hi-fr).toNat-b.length) 0
def lQ(fr off:Int)(d:List Int)(b:List Int)(x:Rg):List Int:=splice (mX fr b x) (x.lo-fr).toNat ((d.drop (x.lo-off).toNat).take (x.hi-x.lo).toNat)
def gL(fr off:Int)(d:List Int)(M:List Rg)(b:List Int):List Int:=M.foldl (lQ fr off d) b
theorem vs(fr:Int)(b:List Int)(x:Rg):(mX fr b x).length=max b.length (x.hi-fr).toNat:=by
 simp only[mX,bH,uB];omega
theorem At{x:Rg}(a:p<=x.lo)(b:q<=x.lo)(c:x.lo<=x.hi)(d:x.hi<=q+L.length):(lQ p q L K x).length=max K.length (x.hi-p).toNat:=by
 unfold lQ;rw[length_splice,vs];rw[vs,ct,dF];omega
theorem Gh(fr off:Int)(d:List Int)(M:List Rg)(b:List Int)(j:Nat)(a:j<M.length):gL fr off d (M.take (j+1)) b=lQ fr off d (gL fr off d (M.take j) b) (au M j):=by
 unfold gL;rw[ry a,List.foldl_append];simp[au,List.getD,a]
def OwnSet(w0 w:World)(N:Nat)(l:List Rg):Prop:=
 ∃a n c,w.heap[N]?=some (.cells #[.slice a n c] 227 (0,0))/\bu w a n c l/\bh l/\(∀y,a=some y->w0.heap.size<=y.block/\y.block≠N)
theorem OwnSet.ao(h:OwnSet W w k X)(g:w.grownBy v none):OwnSet W v k X:=by
 obtain⟨a,n,c,b,d,e,f⟩:=h;exact⟨a,n,c,bA b g,d.ao g,e,f⟩
theorem OwnSet.of{w0:World}{q:List Rg->Prop}(d:w.heap[k]?=some (.cells #[.slice a n i] 227 (0,0)))(f:∀y,a=some y->w0.heap.size<=y.block/\y.block≠k)(u:w0.heap.size<=w.heap.size)(h:pf w W k 0 a q):∃b,OwnSet w0 W k b/\q b:=by
 obtain⟨j,l,m,b,⟨g,p⟩,r,c,s,t⟩:=h;have v:=(aY.1 d).1;refine⟨b,⟨j,l,m,(p _ _ d).trans rfl,r,s,λy e=>?_⟩,t⟩
 obtain rfl|c:=c
 exact f y e;have:=c y e;omega
theorem Au(w:World)(sb ho:Nat)(ab:Option Addr)(nb cb:Nat)(ac:Option Addr)(nc cc:Nat)(h:Hd)(H:gK w sb ho ab nb cb ac nc cc h)(x:Rg)(hx:x.ok):
 Calls prog 278 #[.pointer (some ⟨sb,ho,none⟩),.agg #[.int .u64 x.lo,.int .u64 x.hi]] w λe p=>(∃a n c l,e=.returned (.slice a n c)/\bu p a n c l/\bh l/\(∀y,a=some y->w.heap.size<=y.block)/\l.length<=h.af.length+1/\∀m,Sm l m↔(x.lo<=m/\m<x.hi)/\¬Sm h.af m)/\w.grownBy p none:=by
 obtain⟨c0,c1,c2,-,d,⟨-,-,ax,-,cj⟩⟩:=H;obtain⟨fr,bytes,af⟩:=h;simp only at *;obtain⟨R,D⟩:∃R:Ending->World->Prop,R=λe p=>(∃a n c l,e=.returned (.slice a n c)/\bu p a n c l/\bh l/\(∀y,a=some y->w.heap.size<=y.block)/\l.length<=af.length+1/\∀m,Sm l m↔(x.lo<=m/\m<x.hi)/\¬Sm af m)/\w.grownBy p none:=⟨_,rfl⟩
 rw[<-D];replace D:=J D;obtain⟨E,F⟩:=x;have s:nc=af.length:=d.2.1;have cp:=d.2.2.1;have a3:=d.2.2.2.1;unfold maxLen at a3;have cv:=ep w _ c0;replace d:=J d;replace ax:=J ax;replace s:=J s;go_enter func278,ntmps278;obtain⟨N,G⟩:=exq ((w.alloc (.cells #[.int .u64 E,.int .u64 F] 341)).alloc (.cells #[.slice none 0 0] 227));have g1:w.grownBy N none:=by rw[G];exact ba (ba (aB _ _) _) _
 have B:N.heap[w.heap.size+1]?=some (.cells #[.slice none 0 0] 227 (0,0)):=by
  have:=aM (w.alloc (.cells #[.int .u64 E,.int .u64 F] 341)) (.cells #[.slice none 0 0] 227);rw[dQ]at this;rw[G];exact this
 have hA:=J (FQ N (w.heap.size+1) 0 #[.slice none 0 0] 227 none 0 0 [] ⟨E,F⟩ B rfl ⟨λr d=>by simp at d,rfl,aP _,by simp[maxLen],.inl rfl⟩ (λy t=>by cases t) bh.nil hx (by omega));replace B:=J B;go_wp2_with fail;rw[<-G];clear G;refine(Z hA).mono ?_;rintro e w2⟨rfl,u⟩;have g2:w.grownBy w2 none:=by
  obtain⟨a',n',c',f,⟨g,-⟩,-⟩:=u;exact oU (cF (cX g1 (some (w.heap.size+1))) g (λk e=>.inr rfl)) (by omega)
 obtain⟨l1,O,P,Q⟩:=OwnSet.of (w0:=w) (Z B) (λy t=>by cases t) g1.size u;replace O:=J O;replace Q:=J Q;replace P:=J P;have d2:=g2.cell c2 (by simp);clear hA u B;go_wp2_with fail;go_loopw [15] (λS wr=>∃(j:Nat)(f:List Rg),j<=nc/\S=.int .i64 (j:Int)/\OwnSet w wr (w.heap.size+1) f/\f.length<=j+1/\(∀m,Sm f m↔(E<=m/\m<F)/\∀i,i<j->¬((au af i).lo<=m/\m<(au af i).hi))/\w.grownBy wr none) (λS _=>nc-(intOf S).toNat);case atStart=>exact⟨0,l1,by omega,rfl,Z O,Z P,λm=>by rw[Z Q m];exact⟨λh=>h.elim (λh=>absurd h (fM m)) (λh=>⟨h,λi hi=>by omega⟩),λh=>.inr h.1⟩,g2⟩
 case round=>
  obtain⟨j,f,hj,rfl,T,cx,C,g⟩:=hrel;by_cases cy:j<nc
  ·have d1:decide ((j:Int)<(nc:Int))=true:=bK (by omega);have I:=(Z d).ao g;obtain⟨-,-,-,-,h0|⟨b,o,rfl,-⟩⟩:=id I;omega;obtain⟨y0,y1⟩:=I.cell j (by have:=Z s;omega);have K:=oD I.1 j;have bx:Hid (∀m,((au af j).lo<=m/\m<(au af j).hi)↔((au af j).lo<=m/\m<(au af j).hi)):=J (λm=>Iff.rfl);obtain⟨r,L⟩:=exq (au af j);rw[<-L]at y0 y1 K;have U:=aH wr (.cells #[.int .u64 r.lo,.int .u64 r.hi] 341) none;obtain⟨v,z,c3,A,p2,p3,p4⟩:=T.ao U;have hC:=J (Aj (wr.alloc (.cells #[.int .u64 r.lo,.int .u64 r.hi] 341)) (w.heap.size+1) 0 #[.slice v z c3] 227 v z c3 f r A rfl p2 (λ_ y t=>(p4 y t).2) p3 K (by have:=p2.2.1;have:=Z s;omega));have bM:=J (λp(q:List Rg->Prop)(b0:pf (wr.alloc (.cells #[.int .u64 r.lo,.int .u64 r.hi] 341)) p (w.heap.size+1) 0 v q)=>OwnSet.of (w0:=w) A p4 (bD g.size U.size) b0);have i1:(j:Int)<(nc:Int):=by omega
   replace L:=J L;replace C:=J C;replace K:=J K;clear A p2 p3 p4 T I bx;go_wp2_with fail;refine(Z hC).mono ?_;rintro e w4⟨rfl,u⟩;have g4:w.grownBy w4 none:=by
    obtain⟨a',n',c',f,⟨g5,-⟩,-⟩:=u;exact oU (cF (cX (aq g U) (some (w.heap.size+1))) g5 (λk e=>.inr rfl)) (by omega)
   obtain⟨l4,V,c9,W⟩:=Z bM _ _ u;replace W:=J W;replace V:=J V;clear u;go_wp2_with fail;go_roundw;case rel=>
    refine⟨j+1,l4,by omega,by simp,Z V,by omega,λm=>?_,g4⟩
    rw[Z W m,Z C m,Z L];constructor;rintro⟨⟨X,M⟩,h7⟩;refine⟨X,λi hi=>?_⟩
    obtain h8|rfl:=pX.1 hi
    exact M i h8;exact h7;rintro⟨X,M⟩;exact⟨⟨X,λi hi=>M i (by omega)⟩,M j (by omega)⟩
   case measure=>simp[intOf];omega
  have d1:decide ((j:Int)<(nc:Int))=false:=bI (by omega);obtain rfl:j=nc:=by omega
  obtain⟨v,z,c3,A,p2,p3,p4⟩:=T;have s0:wr.cell? ⟨w.heap.size+1,0,none⟩=some (.slice v z c3):=by simp[World.cell?,A]
  have Y:R (.returned (.slice v z c3)) wr:=by
   rw[Z D];refine⟨⟨v,z,c3,f,rfl,p2,p3,λy t=>(p4 y t).1,by have:=Z s;omega,λm=>?_⟩,g⟩
   rw[C m];refine and_congr_right λ_=>⟨λh ⟨r,ca,h3⟩=>?_,λh i hi h3=>h ⟨_,oZ (by have:=Z s;omega),h3⟩⟩
   obtain⟨k,hk,rfl⟩:=jP.1 ca;have er:au af k=af[k]:=by simp[au,List.getD,hk]
   exact h k (by have:=Z s;omega) (by rw[er];exact h3)
  replace Y:=J Y;clear A p2 p3 p4 C;go_wp2_with fail;exact Z Y
