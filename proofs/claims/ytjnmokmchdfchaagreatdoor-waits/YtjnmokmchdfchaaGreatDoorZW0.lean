import Derived.BigQuiet
import Derived.BigRegion
import Derived.Deep.DeepCutAuto
import Derived.Deep.DrawnRows
import Derived.Deep.Draws
import Derived.Deep.LoopGhost
import Derived.Deep.MidRow
import Derived.Deep.RegionHeld3
import Derived.Deep.RegionWith
import Derived.Laws.AppendOwn
import Derived.Laws.AppendOwnNone
import Derived.Laws.BitsAllLaws
import Derived.Laws.BytesArg
import Derived.Laws.CopyOwn
import Derived.Lib.ConvBytes
import Derived.Lib.LazyBuf
import Derived.Maps.AppendAt
import Derived.Outline
import Derived.OwnWalk
import Derived.Test.YtjnmokmchdfchaaGreatDoorProg
import Derived.WalkKit
import Derived.WalkLawsBesides
import Derived.WalkSpells
set_option maxRecDepth 1000000
set_option maxHeartbeats 0
set_option linter.all false
namespace Go.Proofs.YtjnmokmchdfchaaGreatDoor
open Go.RowKit Tryz
attribute[local go_sem↓]Go.wp_at_zero Go.wp_at_succ
variable{f:Act}{F:Array Oper}{c:Array Value}{G:Exit->Act->World->Prop}{p q:Int}{K L:List Int}{b i j k n o:Nat}{I:Oper}{O a:Option Addr}{N:Option Nat}{u:Prop}{T:TypeId}{x y z:Value}{V W v w:World}
theorem exq{α:Sort _}(e:α):∃a,a=e:=⟨_,rfl⟩
theorem av:type_of% @World.grownBy.refl:=@World.grownBy.refl
theorem ay:type_of% @if_neg:=@if_neg
theorem aC:type_of% @World.grownBy_alloc:=@World.grownBy_alloc
theorem aH:type_of% @heap_alloc_new:=@heap_alloc_new
theorem aI:type_of% @Nat.le_refl:=@Nat.le_refl
theorem aJ:type_of% @Option.some.inj:=@Option.some.inj
theorem aM:type_of% @if_pos:=@if_pos
theorem aO:type_of% @Array.getElem?_eq_some_iff:=@Array.getElem?_eq_some_iff
theorem aW:type_of% @Array.getElem?_setIfInBounds_ne:=@Array.getElem?_setIfInBounds_ne
theorem bp:type_of% @decide_eq_true:=@decide_eq_true
theorem bB:type_of% @decide_eq_false:=@decide_eq_false
theorem bC:type_of% @Nat.le_trans:=@Nat.le_trans
theorem bG:type_of% @List.length_append:=@List.length_append
theorem bK:type_of% @Nat.lt_of_lt_of_le:=@Nat.lt_of_lt_of_le
theorem ck:type_of% @List.mem_append:=@List.mem_append
theorem cz:type_of% @bodyPost_ret:=@bodyPost_ret
theorem cC:type_of% @List.length_take:=@List.length_take
theorem cY:type_of% @Below.heap_setCell:=@Below.heap_setCell
theorem df:type_of% @Nat.le_succ:=@Nat.le_succ
theorem dj:type_of% @results_none:=@results_none
theorem dv:type_of% @Nat.zero_add:=@Nat.zero_add
theorem dB:type_of% @List.mem_singleton:=@List.mem_singleton
theorem dC:type_of% @World.size_alloc:=@World.size_alloc
theorem dF:type_of% @run_callFunc_extern:=@run_callFunc_extern
theorem dJ:type_of% @List.length_cons:=@List.length_cons
theorem dN:type_of% @World.block_lt_of_cell?:=@World.block_lt_of_cell?
theorem dO:type_of% @List.length_drop:=@List.length_drop
theorem dP:type_of% @bodyPost_end:=@bodyPost_end
theorem dY:type_of% @List.length_map:=@List.length_map
theorem eA:type_of% @List.append_assoc:=@List.append_assoc
theorem eB:type_of% @Option.bind_some:=@Option.bind_some
theorem eF:type_of% @List.getElem?_eq_getElem:=@List.getElem?_eq_getElem
theorem eG:type_of% @List.take_of_length_le:=@List.take_of_length_le
theorem eH:type_of% @IntKind.wrap_u64:=@IntKind.wrap_u64
theorem eI:type_of% @Below.heap_alloc:=@Below.heap_alloc
theorem eJ:type_of% @List.mem_cons:=@List.mem_cons
theorem fg:type_of% @World.cell?_alloc_lt:=@World.cell?_alloc_lt
theorem fh:type_of% @List.mem_map:=@List.mem_map
theorem fj:type_of% @congrArg:=@congrArg
theorem fH:type_of% @List.length_nil:=@List.length_nil
theorem fI:type_of% @Int.le_refl:=@Int.le_refl
theorem fJ:type_of% @if_true:=@if_true
theorem fR:type_of% @List.eq_nil_of_length_eq_zero:=@List.eq_nil_of_length_eq_zero
theorem fS:type_of% @Value.slice.inj:=@Value.slice.inj
theorem fT:type_of% @AllReady.cons:=@AllReady.cons
theorem gp:type_of% @if_false:=@if_false
theorem gM:type_of% @Bool.false_eq_true:=@Bool.false_eq_true
theorem ic:type_of% @Result.andThen_ok:=@Result.andThen_ok
theorem ie:type_of% @Sem.run_bind:=@Sem.run_bind
theorem iH:type_of% @AllReady.nil:=@AllReady.nil
theorem iI:type_of% @wpAny_ready:=@wpAny_ready
theorem iX:type_of% @List.getElem?_eq_some_iff:=@List.getElem?_eq_some_iff
theorem iY:type_of% @List.mem_of_mem_take:=@List.mem_of_mem_take
theorem iZ:type_of% @List.mem_of_mem_drop:=@List.mem_of_mem_drop
theorem ja:type_of% @Bool.and_eq_true:=@Bool.and_eq_true
theorem jO:type_of% @List.getElem?_take:=@List.getElem?_take
theorem jP:type_of% @Int.toNat_natCast:=@Int.toNat_natCast
theorem jQ:type_of% @List.nil_append:=@List.nil_append
theorem jR:type_of% @List.mem_filter:=@List.mem_filter
theorem ke:type_of% @List.setIfInBounds_toArray:=@List.setIfInBounds_toArray
theorem kh:type_of% @decide_eq_true_eq:=@decide_eq_true_eq
theorem ki:type_of% @List.map_cons:=@List.map_cons
theorem kj:type_of% @info_parts:=@info_parts
theorem kH:type_of% @Array.getElem?_setIfInBounds:=@Array.getElem?_setIfInBounds
theorem kJ:type_of% @List.set_cons_zero:=@List.set_cons_zero
theorem kK:type_of% @List.set_cons_succ:=@List.set_cons_succ
theorem kM:type_of% @Option.some.injEq:=@Option.some.injEq
theorem kN:type_of% @Sem.run_pure:=@Sem.run_pure
theorem kO:type_of% @List.map_nil:=@List.map_nil
theorem kZ:type_of% @List.getElem?_append_right:=@List.getElem?_append_right
theorem lg:type_of% @World.cell?_of_block:=@World.cell?_of_block
theorem lh:type_of% @List.take_length:=@List.take_length
theorem lL:type_of% @List.mem_iff_getElem:=@List.mem_iff_getElem
theorem lM:type_of% @List.mem_map_of_mem:=@List.mem_map_of_mem
theorem lN:type_of% @List.map_toArray:=@List.map_toArray
theorem lO:type_of% @Nat.add_zero:=@Nat.add_zero
theorem lQ:type_of% @or_false:=@or_false
theorem mf:type_of% @List.map_append:=@List.map_append
theorem mg:type_of% @Nat.zero_le:=@Nat.zero_le
theorem mH:type_of% @World.frozen?_alloc_old:=@World.frozen?_alloc_old
theorem mI:type_of% @World.ownsRow_nil:=@World.ownsRow_nil
theorem mJ:type_of% @List.mem_range:=@List.mem_range
theorem mK:type_of% @Nat.zero_mul:=@Nat.zero_mul
theorem nk:type_of% @List.getElem?_append_left:=@List.getElem?_append_left
theorem np:type_of% @List.length_pos_iff:=@List.length_pos_iff
theorem nr:type_of% @List.take_add_one:=@List.take_add_one
theorem ns:type_of% @List.not_mem_nil:=@List.not_mem_nil
theorem nt:type_of% @List.getElem_mem:=@List.getElem_mem
theorem nu:type_of% @List.cons_append:=@List.cons_append
theorem nw:type_of% @List.append_nil:=@List.append_nil
theorem nZ:type_of% @List.take_append_drop:=@List.take_append_drop
theorem oa:type_of% @List.length_filter_le:=@List.length_filter_le
theorem od:type_of% @List.getElem?_toArray:=@List.getElem?_toArray
theorem oe:type_of% @List.mem_append_left:=@List.mem_append_left
theorem og:type_of% @List.mem_flatMap:=@List.mem_flatMap
theorem oh:type_of% @List.any_eq_true:=@List.any_eq_true
theorem oj:type_of% @wpList_load_row:=@wpList_load_row
theorem om:type_of% @List.drop_zero:=@List.drop_zero
theorem oq:type_of% @Nat.add_assoc:=@Nat.add_assoc
theorem pq:type_of% @Nat.lt_succ_iff_lt_or_eq:=@Nat.lt_succ_iff_lt_or_eq
theorem pr:type_of% @Int.eq_ofNat_of_zero_le:=@Int.eq_ofNat_of_zero_le
theorem px:type_of% @List.mem_append_right:=@List.mem_append_right
theorem py:type_of% @Array.getElem?_toList:=@Array.getElem?_toList
theorem pB:type_of% @Array.length_toList:=@Array.length_toList
theorem pC:type_of% @List.flatMap_cons:=@List.flatMap_cons
theorem pD:type_of% @List.range_succ:=@List.range_succ
theorem pF:type_of% @List.map_map:=@List.map_map
theorem pH:type_of% @rounds_succ:=@rounds_succ
theorem qc:type_of% @List.take_succ_eq_append_getElem:=@List.take_succ_eq_append_getElem
theorem qd:type_of% @Classical.byContradiction:=@Classical.byContradiction
theorem qe:type_of% @Option.bind_eq_some_iff:=@Option.bind_eq_some_iff
theorem qf:type_of% @List.drop_of_length_le:=@List.drop_of_length_le
theorem qg:type_of% @List.getElem?_drop:=@List.getElem?_drop
theorem qh:type_of% @Bool.or_eq_true:=@Bool.or_eq_true
theorem qi:type_of% @Prod.mk.injEq:=@Prod.mk.injEq
theorem qk:type_of% @wpList_plain:=@wpList_plain
theorem qK:type_of% @Nat.lt_or_eq_of_le:=@Nat.lt_or_eq_of_le
theorem qL:type_of% @Nat.add_sub_cancel:=@Nat.add_sub_cancel
theorem qM:type_of% @List.pairwise_cons:=@List.pairwise_cons
theorem qN:type_of% @Option.map_some:=@Option.map_some
theorem qO:type_of% @Nat.sub_self:=@Nat.sub_self
theorem rZ:type_of% @Nat.add_sub_cancel_left:=@Nat.add_sub_cancel_left
theorem r8:type_of% @List.getElem?_eq_none:=@List.getElem?_eq_none
theorem r9:type_of% @List.map_congr_left:=@List.map_congr_left
theorem sa:type_of% @List.size_toArray:=@List.size_toArray
theorem sc:type_of% @wp_loop_rounds:=@wp_loop_rounds
theorem se:type_of% @decide_false:=@decide_false
theorem sg:type_of% @callsIn_wide:=@callsIn_wide
theorem tB:type_of% @List.take_append_of_le_length:=@List.take_append_of_le_length
theorem tC:type_of% @List.getD_eq_getElem?_getD:=@List.getD_eq_getElem?_getD
theorem tD:type_of% @List.getElem_cons_zero:=@List.getElem_cons_zero
theorem tH:type_of% @List.drop_eq_nil_of_le:=@List.drop_eq_nil_of_le
theorem tI:type_of% @List.getElem_toArray:=@List.getElem_toArray
theorem tJ:type_of% @not_true_eq_false:=@not_true_eq_false
theorem tK:type_of% @List.getElem_take:=@List.getElem_take
theorem tL:type_of% @List.getElem_drop:=@List.getElem_drop
theorem tM:type_of% @run_underlying:=@run_underlying
theorem tN:type_of% @List.take_zero:=@List.take_zero
theorem vN:type_of% @Nat.shiftLeft_add_eq_or_of_lt:=@Nat.shiftLeft_add_eq_or_of_lt
theorem vO:type_of% @decide_eq_false_iff_not:=@decide_eq_false_iff_not
theorem vP:type_of% @Nat.pow_le_pow_right:=@Nat.pow_le_pow_right
theorem vQ:type_of% @List.mem_of_getElem?:=@List.mem_of_getElem?
theorem vR:type_of% @List.getD_cons_zero:=@List.getD_cons_zero
theorem vS:type_of% @List.flatMap_append:=@List.flatMap_append
theorem yE:type_of% @List.drop_eq_getElem_cons:=@List.drop_eq_getElem_cons
theorem J(h:u):Hid u:=h
theorem Z(h:Hid u):u:=h
def aR(x:Int):Prop:=0<=x/\x<18446744073709551616
def W8(x:Int):Prop:=0<=x/\x<256
theorem aj(h:w.grownBy W N)(k:W.grownBy v N):w.grownBy v N:=
 ⟨k.os.trans h.os,k.tape.trans h.tape,k.output.trans h.output,bC h.size k.size,λi hi a=>(k.block i (bK hi h.size) a).trans (h.block i hi a)⟩
theorem cA{q:Option Nat}(h:w.grownBy W N)(k:W.grownBy v q)(b:∀j,q=some j->w.heap.size<=j\/q=N):w.grownBy v N:=
 ⟨k.os.trans h.os,k.tape.trans h.tape,k.output.trans h.output,bC h.size k.size,λi hi a=>(k.block i (bK hi h.size) (λe=>by
  obtain g|g:=b i e.symm
  omega
  ·exact a (e.trans g))).trans (h.block i hi a)⟩
theorem aP(h:w.grownBy W N):w.grownBy W.drew N:=⟨h.os,h.tape,h.output,h.size,h.block⟩
theorem dh(h:w.grownBy W N)(n:Nat):w.grownBy (W.drewN n) N:=⟨h.os,h.tape,h.output,h.size,h.block⟩
theorem aS(h:w.grownBy W N)(o:Obj):w.grownBy (W.alloc o) N:=aj h (aC W o N)
theorem aD(h:w.grownBy W N)(p:Addr)(v:Value)(e:w.heap.size<=p.block\/some p.block=N):w.grownBy (W.setCell p v) N:=
 ⟨h.os,h.tape,h.output,by simpa [World.setCell]using h.size,λk b a=>by
  rw[cY _ _ _ _ (by rintro rfl;obtain e|e:=e<;>first|omega|exact a e)];exact h.block k b a⟩
theorem cO(h:w.grownBy W none)(r:Option Nat):w.grownBy W r:=⟨h.os,h.tape,h.output,h.size,λk a _=>h.block k a (by simp)⟩
theorem vT(h:w.grownBy W none):Below w.heap.size w W:=⟨h.os,h.tape,h.output,h.size,λk a=>h.block k a (by simp)⟩
theorem sh(h:Below w.heap.size w W):w.grownBy W none:=⟨h.os,h.tape,h.output,h.size,λk a _=>h.block k a⟩
theorem ot(h:w.grownBy W (some j))(b:w.heap.size<=j):w.grownBy W none:=
 ⟨h.os,h.tape,h.output,h.size,λk a _=>h.block k a (by intro e;cases e;omega)⟩
theorem heap_set(h:w.heap[n]?=some (.cells c T (0,0)))(v:Value):(w.setCell ⟨n,o,none⟩ v).heap[n]?=some (.cells (c.setIfInBounds o v) T (0,0)):=by
 simp[World.setCell,Array.getElem?_modify,h]
def ou(x:Int):Int:=(x %9223372036854775808)*2+x/9223372036854775808
def rotl(x:Int):Nat->Int
 |0=>x
 |k+1=>ou (rotl x k)
theorem DR(h:aR p):aR (ou p):=by unfold aR ou at *;omega
theorem ny(h:aR p)(k:Nat):aR (rotl p k):=by
 induction k with
 |zero=>exact h
 |succ k a=>exact DR a
theorem DS(x N M:Nat)(h:N*M=9223372036854775808)(g:x<2*N*M)(a:0<N):
 ou (((x %(2*N))*M+x/(2*N):Nat):Int)=(((x %N)*(2*M)+x/N:Nat):Int):=by
 have b:x/(2*N)<M:=Nat.div_lt_of_lt_mul (by rw[Nat.mul_comm 2 N,Nat.mul_assoc,Nat.mul_comm 2 M,<-Nat.mul_assoc]at *;rw[Nat.mul_assoc]at *;omega);have e1:x %(2*N)=N*(x/N %2)+x %N:=by
  rw[Nat.mul_comm 2 N,Nat.mod_mul];omega
 have e2:x/(2*N)=x/N/2:=by rw[Nat.mul_comm 2 N,Nat.div_div_eq_div_mul]
 generalize hs:x %N=s at *;generalize i:x/N=z at *;have c:s<N:=by rw[<-hs];exact Nat.mod_lt _ a
 have d:s*M+z/2<N*M:=by
  have:(s+1)*M<=N*M:=Nat.mul_le_mul_right _ c;rw[Nat.add_mul]at this;rw[e2]at b;omega
 have e:(x %(2*N))*M+x/(2*N)=9223372036854775808*(z %2)+(s*M+z/2):=by
  rw[e1,e2,Nat.add_mul,Nat.mul_right_comm,h];omega
 rw[e];rw[h]at d;have f:s*(2*M)=2*(s*M):=by rw[Nat.mul_left_comm]
 rw[f];generalize s*M=p at *;unfold ou;omega
theorem yF(x:Nat)(a:x<18446744073709551616):∀k,k<=63->rotl x k=((x %2^(64-k))*2^k+x/2^(64-k):Nat)
 |0,_=>by
  show(x:Int)=_;have:x %2^(64-0)=x:=Nat.mod_eq_of_lt (by simpa using a);rw[this];have:x/2^(64-0)=0:=Nat.div_eq_of_lt (by simpa using a);rw[this];simp
 |k+1,h=>by
  show ou (rotl x k)=_;rw[yF x a k (by omega)];have e1:2^(64-k)=2*2^(64-(k+1)):=by rw[show 64-k=(64-(k+1))+1 by omega,Nat.pow_succ,Nat.mul_comm]
  have e2:2^(64-(k+1))*2^k=9223372036854775808:=by rw[<-Nat.pow_add,show 64-(k+1)+k=63 by omega]
  have b:2^(k+1)=2*2^k:=by rw[Nat.pow_succ,Nat.mul_comm]
  rw[e1,b];exact DS x _ _ e2 (by rw[Nat.mul_assoc,e2];omega) (Nat.two_pow_pos _)
theorem DT(h:aR p)(k:Nat)(c:k<=63)(h0:0<k):bits .or .u64 (IntKind.u64.wrap (p*(2^k:Nat))) (p/(2^(64-k):Nat))=rotl p k:=by
 obtain⟨d,f⟩:=h;obtain⟨n,rfl⟩:=pr d;have a:n<18446744073709551616:=by omega
 rw[yF n a k c,eH];have b:2^(64-k)*2^k=18446744073709551616:=by rw[<-Nat.pow_add,show 64-k+k=64 by omega]
 have e1:((n:Int)*(2^k:Nat)) %18446744073709551616=(((n %2^(64-k))*2^k:Nat):Int):=by
  have:n*2^k %18446744073709551616=(n %2^(64-k))*2^k:=by rw[<-b,Nat.mul_mod_mul_right]
  rw[<-this,Int.natCast_emod,Int.natCast_mul];rfl
 have e2:(n:Int)/(2^(64-k):Nat)=((n/2^(64-k):Nat):Int):=by rw[Int.natCast_ediv]
 rw[e1,e2,u64_or_nat];congr 1;have e:n/2^(64-k)<2^k:=Nat.div_lt_of_lt_mul (by rw[b];exact a);have:=vN e (n %2^(64-k));rw[Nat.shiftLeft_eq]at this;omega;have:n %2^(64-k)<2^(64-k):=Nat.mod_lt _ (Nat.two_pow_pos _);rw[<-b];exact Nat.mul_lt_mul_of_pos_right this (Nat.two_pow_pos _);exact Nat.lt_of_le_of_lt (Nat.div_le_self _ _) a
def xo(a b:Int):Int:=bits .xor .u64 a b
def ad(a b:Int):Int:=IntKind.u64.wrap (a+b)
theorem nz(a b:Int):aR (ad a b):=by unfold ad aR;rw[eH];omega
theorem jb(a:aR p)(b:aR q):aR (xo p q):=by
 unfold xo;rw[u64_xor p q a.1 a.2 b.1 b.2];have:=Nat.xor_lt_two_pow (n:=64) (x:=p.toNat) (y:=q.toNat) (by have:=a.2;have:=a.1;omega) (by have:=b.2;have:=b.1;omega);unfold aR;omega
structure S4 where
 a:Int
 b:Int
 c:Int
 d:Int
def S4.ok(s:S4):Prop:=aR s.a/\aR s.b/\aR s.c/\aR s.d
def nA(s:S4):S4:=
 let e:=ad s.a s.b
 let f:=xo (rotl s.b 13) e
 let k:=rotl e 32
 let g:=ad s.c s.d
 let h:=xo (rotl s.d 16) g
 let i:=ad k h
 let l:=xo (rotl h 21) i
 let j:=ad g f
 let m:=xo (rotl f 17) j
 ⟨i,m,rotl j 32,l⟩
theorem ql{s:S4}(h:s.ok):(nA s).ok:=by
 obtain⟨j,e,k,f⟩:=h;have g:=jb (ny e 13) (nz s.a s.b);have i:=jb (ny f 16) (nz s.c s.d);exact⟨nz _ _,jb (ny g 17) (nz _ _),ny (nz _ _) 32,jb (ny i 21) (nz _ _)⟩
def qP(s:S4)(m:Int):S4:=
 let t:=nA (nA ⟨s.a,s.b,s.c,xo s.d m⟩)
 ⟨xo t.a m,t.b,t.c,t.d⟩
theorem DU{s:S4}(h:s.ok)(e:aR p):(qP s p).ok:=by
 obtain⟨f,g,i,j⟩:=h;have t:=ql (ql (s:=⟨s.a,s.b,s.c,xo s.d p⟩) ⟨f,g,i,jb j e⟩);exact⟨jb t.1 e,t.2.1,t.2.2.1,t.2.2.2⟩
def si(s:S4):Int:=
 let t:=nA (nA (nA (nA ⟨s.a,s.b,xo s.c 255,s.d⟩)))
 xo (xo (xo t.a t.b) t.c) t.d
theorem DV{s:S4}(h:s.ok):aR (si s):=by
 obtain⟨e,f,g,i⟩:=h;have t:=ql (ql (ql (ql (s:=⟨s.a,s.b,xo s.c 255,s.d⟩) ⟨e,f,jb g (by unfold aR;omega),i⟩)));exact jb (jb (jb t.1 t.2.1) t.2.2.1) t.2.2.2
def gN:List Int->Int
 |[]=>0
 |x::r=>x+256*gN r
theorem vU:∀(l:List Int),(∀x∈l,W8 x)->0<=gN l/\gN l<256^l.length
 |[],_=>by simp[gN]
 |x::r,h=>by
  have:=vU r (λy a=>h y (List.mem_cons_of_mem _ a));have b:=h x (List.mem_cons_self ..);unfold W8 at b;simp only[gN,dJ,Int.pow_succ]
  omega
def gy(key:List Int):S4:=
 ⟨xo (gN (key.take 8)) 8317987319222330741,xo (gN (key.drop 8)) 7237128888997146477,xo (gN (key.take 8)) 7816392313619706465,xo (gN (key.drop 8)) 8387220255154660723⟩
def ox(l:List Int)(n:Int):List Int:=l++List.replicate (7-l.length %8) 0++[n %256]
def lR(s:S4):Nat->List Int->S4
 |0,_=>s
 |k+1,l=>lR (qP s (gN (l.take 8))) k (l.drop 8)
def cN(key l:List Int):Int:=si (lR (gy key) (l.length/8+1) (ox l l.length))
def BS(w:World)(b o:Nat)(l:List Int):Prop:=(∀i,i<l.length->w.cell? ⟨b,o+i,none⟩=some (.int .u8 (l.getD i 0)))/\∀x∈l,W8 x
theorem DW(l:List Int):∀k,k<l.length->gN (l.take (k+1))=gN (l.take k)+256^k*l.getD k 0:=by
 induction l with
 |nil=>intro k h;simp at h
 |cons x r a=>
  intro k h;cases k with
  |zero=>simp[gN]
  |succ k=>
   simp only[List.take_succ_cons,gN,List.getD_cons_succ]
   rw[a k (by simpa using h),Int.mul_add,Int.pow_succ,Int.mul_comm (256^k) 256,Int.mul_assoc];omega
theorem pI(h:∀x∈L,W8 x)(k:Nat):W8 (L.getD k 0):=by
 rw[tC];rcases a:L[k]? with _|x
 simp[W8];exact h x (vQ a)
theorem DX(a x:Int)(k:Nat)(g:k<=7)(h0:0<=a)(c:a<256^k)(d:W8 x):bits .or .u64 a (IntKind.u64.wrap (x*2^(8*k)))=a+256^k*x:=by
 obtain⟨e,h⟩:=d;obtain⟨n,rfl⟩:=pr h0;obtain⟨y,rfl⟩:=pr e;have e0:(256:Nat)^k=2^(8*k):=by rw[Nat.pow_mul]
 have b:(256:Int)^k=((2^(8*k):Nat):Int):=by rw[<-e0];simp
 have e1:((y:Int)*2^(8*k))=((y*2^(8*k):Nat):Int):=by simp
 have hp:2^(8*k)<=2^56:=vP (by decide) (by omega);have i:y*2^(8*k)<=255*2^56:=Nat.mul_le_mul (by omega) hp;rw[b]at c;rw[e1,eH,b];have f:n<2^(8*k):=by omega
 have e2:(((y*2^(8*k):Nat):Int)) %18446744073709551616=((y*2^(8*k):Nat):Int):=by omega
 rw[e2,u64_or_nat _ _ (by omega) (by omega)];have:=vN f y;rw[Nat.shiftLeft_eq]at this;rw[Nat.or_comm,<-this,Int.natCast_add,Int.natCast_mul,Int.mul_comm];omega
theorem DY(h:∀x∈L,W8 x)(k:Nat)(a:k<=L.length):0<=gN (L.take k)/\gN (L.take k)<256^k:=by
 have:=vU (L.take k) (λx b=>h x (iY b));rwa[cC,Nat.min_eq_left a]at this
theorem yG(k:Nat)(h:k<=8):(256:Int)^k<=18446744073709551616:=by
 have:(256:Nat)^k<=256^8:=vP (by decide) h;have e:(256:Int)^k=((256^k:Nat):Int):=by simp
 rw[e];omega
theorem tQ(b o cap:Nat)(l:List Int)(w:World)(h:BS w b o l)(hl:l.length=8)(r:8<=cap):
 Calls prog 262 #[.slice (some ⟨b,o,none⟩) 8 cap] w λe j=>e=.returned (.int .u64 (gN l))/\j=w:=by
 obtain⟨d,f⟩:=h;go_enter func262,ntmps262;go_wp2;go_loop [3,8] (λa i=>∃k:Nat,k<=8/\i=.int .i64 k/\a=.int .u64 (gN (l.take k))) (λ_ i=>8-(intOf i).toNat);case atStart=>exact⟨0,by omega,rfl,rfl⟩
 case round=>
  obtain⟨k,n,rfl,rfl⟩:=hrel;have c:=DY f k (by omega);have hp:=yG k n;by_cases s:k<8
  ·have t:=d k (by omega);clear d;have g:=pI f k;have p:=J (DX _ _ k (by omega) c.1 c.2 g);have q:=J (DW l k (by omega));obtain⟨t0,t1⟩:=c;obtain⟨u,v⟩:=g;generalize l.getD k 0=x at *;generalize gN (l.take k)=m at *;have y:(8:Int)*k<=1000:=by omega
   go_wp2;go_round;case rel=>exact⟨k+1,by omega,by go_num,by rw[Z p,<-Z q]⟩
   case measure=>simp[intOf];omega
  go_wp2;go_ret;exact⟨fj (λz=>Ending.returned (.int .u64 z)) (by rw[eG (by omega)]),rfl⟩
def bv(l:List Int):List Value:=l.map (Value.int .u8)
def bh(w:World)(a:Option Addr)(n cap:Nat)(l:List Int):Prop:=
 (∀x∈l,W8 x)/\n=l.length/\n<=cap/\cap<=maxLen/\((a=none/\cap=0)\/∃b o,a=some ⟨b,o,none⟩/\BS w b o l)
def aX(w:World)(a:Nat)(v:Value)(l:List Int):Prop:=(∀x∈l,W8 x)/\w.ownsRow a 5 1 v l.length (bv l)
theorem BS.gb(h:BS w b o L)(g:w.grownBy W N)(a:N≠some b):BS W b o L:=
 ⟨λi hi=>g.cell (h.1 i hi) (λe=>a e.symm),h.2⟩
theorem BS.lt(h:BS w b o L)(hl:L≠[]):b<w.heap.size:=
 dN w _ (h.1 0 (np.2 hl))
theorem BS.nil(w:World)(b o:Nat):BS w b o []:=⟨λi hi=>by simp at hi,λx a=>by simp at a⟩
theorem bh.gb(h:bh w a n k L)(g:w.grownBy W N)(d:∀j,N=some j->w.heap.size<=j\/L=[]\/∀x,a=some x->x.block≠j):bh W a n k L:=by
 obtain⟨f,i,l,m,c⟩:=h;refine⟨f,i,l,m,?_⟩
 obtain c|⟨b,o,rfl,c⟩:=c
 exact .inl c;refine .inr ⟨b,o,rfl,?_⟩;by_cases hl:L=[]
 subst hl;exact BS.nil _ _ _;have:=c.lt hl;refine c.gb g (λe=>?_);obtain e|e|e:=d b e
 omega;exact hl e;exact e _ rfl rfl
theorem bh.ah(h:bh w a n k L)(g:w.grownBy W none):bh W a n k L:=h.gb g (λ_ e=>by cases e)
theorem aX.lt(h:aX w n x L):∀k,x.ownBlock=some k->n<=k/\k<w.heap.size:=h.2.lt
theorem sk(l:List Int)(i:Nat)(h:i<l.length):(bv l)[i]?=some (.int .u8 (l.getD i 0)):=by
 simp[bv,eF h]
theorem aX.bs(h:aX w n y L):∃a cap,y=.slice a L.length cap/\bh w a L.length cap L/\(∀x,a=some x->n<=x.block/\x.block<w.heap.size/\x.off=0)/\(L≠[]->a≠none):=by
 obtain⟨b,l,d⟩:=h;obtain⟨rfl,f⟩|⟨g,cap,cur,rfl,aa,c,j,hm,hs,k⟩:=d
 have:L=[]:=fR f;subst this;exact⟨none,0,rfl,⟨b,rfl,aI _,by simp[maxLen],.inl ⟨rfl,rfl⟩⟩,(λ_ e=>by cases e),(λe=>absurd rfl e)⟩
 refine⟨some ⟨g,0,none⟩,cap,rfl,⟨b,rfl,j,hm,.inr ⟨g,0,rfl,?_,b⟩⟩,(λx e=>by cases e;exact⟨aa,(aO.1 c).1,rfl⟩),(λ_ e=>by cases e)⟩
 intro i hi;have e1:(bv L)[i]?=cur.toList[i]? :=by rw[<-k,jO,aM (by omega)]
 rw[sk L i hi]at e1;simp only[World.cell?,c,dv]
 simpa using e1.symm
theorem aX.nil(w:World)(a:Nat):aX w a (.slice none 0 0) []:=⟨λx b=>by simp at b,mI _ _ _ _⟩
theorem aX.gb(h:aX w n x L)(g:w.grownBy W N)(a:x.ownBlock=none\/x.ownBlock≠N):aX W n x L:=⟨h.1,h.2.kept g a⟩
theorem aX.ah(h:aX w n x L)(g:w.grownBy W none):aX W n x L:=h.gb g (by cases x.ownBlock<;>simp)
theorem yH(h:Below n W w)(o:aX w i x L)(a:w.grownBy V x.ownBlock)(b:n<=w.heap.size)(c:n<=i):Below n W V:=
 h.grown a b (λk e=>bC c (o.lt k e).1)
theorem tT(w:World)(x:Int)(b:W8 x):bh (w.alloc (.cells #[.int .u8 x] 5)) (some ⟨w.heap.size,0,none⟩) 1 1 [x]:=by
 have a:∀y∈[x],W8 y:=λy c=>by rw[dB.1 c];exact b
 refine⟨a,rfl,by simp,by simp[maxLen],.inr ⟨_,_,rfl,?_,a⟩⟩
 intro i hi;obtain rfl:i=0:=by simpa using hi
 simp
theorem vV:(prog.info? 5).map (λi=>(i.zero,i.size,i.bytes))=some (some (.int .u8 0),1,1):=by kernel_rfl
theorem yI(ty:TypeId)(d:Nat)(v:Value)(l:List Int)(f:aX w d v l)
 (n:Option Addr) (nx g:Nat) (m:List Int) (t:bh w n nx g m) (I:l.length+m.length<=100000000) (x:d<=w.heap.size):
 ∃a c e,(Builtin.append_ #[112,112] ty #[v,.slice n nx g]).run prog w=.ok (.slice a (l.length+m.length) c) e/\aX e d (.slice a (l.length+m.length) c) (l++m)/\w.grownBy e v.ownBlock/\((Value.slice a (l.length+m.length) c).ownBlock=v.ownBlock\/(Value.slice a (l.length+m.length) c).ownBlock=some w.heap.size):=by
 obtain⟨p,hi,z,A,B⟩:=kj vV;obtain⟨m1,rfl,K,L,h⟩:=t;obtain⟨rfl,rfl⟩|⟨b,off,rfl,h⟩:=h
 have:m=[]:=fR (by omega);subst this;have i:=run_append_owned_none (P:=prog) (w:=w) d 112 ty 5 p 1 underlying112 hi v _ _ f.2;obtain⟨a,c,rfl,M⟩:=f.bs;exact⟨a,c,w,i,by simpa using f,av _ _,.inl rfl⟩
 obtain⟨C,e,i,D,E,_,F⟩:=run_append_own_at (P:=prog) w d 112 ty 5 p (.int .u8 0) 1 1 underlying112 hi z A B rfl (by decide) v l.length (bv l) f.2 ⟨b,off,none⟩ m.length g (bv m) (by simp[bv]) (by
  intro j u k;have q:j<m.length:=by
   have:=(iX.1 k).1;simpa [bv]using this
  rw[sk m j q]at k;obtain rfl:=aJ k;rw[Addr.add_lit];exact h.1 j q) (by
  intro u G;obtain⟨y,_,rfl⟩:=fh.1 G;rfl) (by simp[maxLen];omega) (by omega) x
 have r:aX e d C (l++m):=⟨λy H=>(ck.1 H).elim (f.1 y) (m1 y),by simpa [bv]using D⟩
 obtain⟨a,c,s,_⟩:=r.bs;rw[bG]at s;subst s;exact⟨a,c,e,i,r,E,F⟩
theorem yJ{K:Act->World->Prop}(s x:Operand)
 (ho:I.op=.call {callee:=.builtin .append,args:= #[s,x],argTypes:= #[112,112]})
 (d:Nat) (v:Value) (l:List Int) (hs:f.eval s=v) (i:aX w d v l)
 (e:Option Addr) (nx g:Nat) (m:List Int) (j:f.eval x=.slice e nx g) (k:bh w e nx g m) (n:l.length+m.length<=100000000) (p:d<=w.heap.size)
 (h:∀a b c,aX c d (.slice a (l.length+m.length) b) (l++m)->w.grownBy c v.ownBlock->((Value.slice a (l.length+m.length) b).ownBlock=v.ownBlock\/(Value.slice a (l.length+m.length) b).ownBlock=some w.heap.size)->
   K (f.put I.dst (.slice a (l.length+m.length) b)) c):Oper.wp prog I f w K G:=by
 obtain⟨a,b,c,q,r,t,u⟩:=yI (w:=w) I.type d v l i e nx g m k n p;unfold Oper.wp execOp;simp only[ho,resolve,invoke,builtin,ie,kN,ic,lN,ki,kO,hs,j,q]
 exact h a b c r t u
theorem qQ{rest:List Oper}(i:I.guard=none)(s x:Operand)
 (ho:I.op=.call {callee:=.builtin .append,args:= #[s,x],argTypes:= #[112,112]})
 (d:Nat) (v:Value) (l:List Int) (hs:f.eval s=v) (j:aX w d v l)
 (e:Option Addr) (nx g:Nat) (m:List Int) (k:f.eval x=.slice e nx g) (n:bh w e nx g m) (p:l.length+m.length<=100000000) (q:d<=w.heap.size)
 (h:∀a b c,aX c d (.slice a (l.length+m.length) b) (l++m)->w.grownBy c v.ownBlock->((Value.slice a (l.length+m.length) b).ownBlock=v.ownBlock\/(Value.slice a (l.length+m.length) b).ownBlock=some w.heap.size)->
   wpList prog F G rest (f.put I.dst (.slice a (l.length+m.length) b)) c):wpList prog F G (I::rest) f w:=
 qk i λ_ r=>yJ s x ho d v l hs j e nx g m k n p q λa b c t u y=>r _ _ (h a b c t u y)
theorem tW{K:Act->World->Prop}(i:I.guard=none)(s x:Operand)
 (ho:I.op=.call {callee:=.builtin .append,args:= #[s,x],argTypes:= #[112,112]})
 (a:Nat) (v:Value) (l:List Int) (hs:f.eval s=v) (j:aX w a v l)
 (d:Option Addr) (nx e:Nat) (m:List Int) (k:f.eval x=.slice d nx e) (n:bh w d nx e m) (p:l.length+m.length<=100000000) (q:a<=w.heap.size)
 (h:∀b c g,aX g a (.slice b (l.length+m.length) c) (l++m)->w.grownBy g v.ownBlock->((Value.slice b (l.length+m.length) c).ownBlock=v.ownBlock\/(Value.slice b (l.length+m.length) c).ownBlock=some w.heap.size)->
   K (f.put I.dst (.slice b (l.length+m.length) c)) g):if Region.wanted I (yielded F f.tmps)=true then Oper.wp prog I f w K G else u:=by
 have r:Region.wanted I (yielded F f.tmps)=true:=by simp[Region.wanted,i]
 rw[aM r];exact yJ s x ho a v l hs j d nx e m k n p q h
theorem yK:(prog.info? 5).map (·.size)=some 1:=by kernel_rfl
theorem tX(w:World)(g:Nat)(cs:Array Value):w.grownBy (w.setRow g cs) (some g):=
 ⟨rfl,rfl,rfl,by simp[World.setRow],λk _ a=>setRow_other w g k cs (λe=>a (by rw[e]))⟩
theorem fK(l:List Int):(bv l).length=l.length:=by simp[bv]
theorem yL(l:List Int)(o:Nat)(m:List Int):bv (splice l o m)=splice (bv l) o (bv m):=by simp[bv,splice]
theorem DZ(ty:TypeId)(g off a e:Nat)(sp:Option Addr)(n c:Nat)(m:List Int)(q:bh w sp n c m)
 (d:List Int) (t:TypeId) (f:w.heap[g]?=some (.cells (bv d).toArray t (0,0))) (r:off+(m.take a).length<=d.length):
 ∃h,(Builtin.copy_ #[112,112] ty #[.slice (some ⟨g,off,none⟩) a e,.slice sp n c]).run prog w=.ok (goInt (m.take a).length) h/\h.heap[g]?=some (.cells (bv (splice d off (m.take a))).toArray t (0,0))/\w.grownBy h (some g):=by
 obtain⟨m1,rfl,z,A,i⟩:=q;by_cases h0:(m.take a).length=0;have s:m.take a=[]:=fR h0;have k:=run_copy_none (P:=prog) w 112 112 ty 5 (some ⟨g,off,none⟩) sp a e m.length c underlying112 yK (by rw[cC,Nat.min_comm]at h0;exact h0);exact⟨w,by rw[h0];exact k,by rw[s];simpa [splice]using f,av _ _⟩
 obtain⟨rfl,rfl⟩|⟨b,v,rfl,i⟩:=i
 have:m=[]:=fR (by omega);subst this;simp at h0;have hl:(bv (m.take a)).length=(m.take a).length:=fK _;have k:=run_copy_row (P:=prog) w 112 112 ty 5 g off a e ⟨b,v,none⟩ m.length c (bv d).toArray t (bv (m.take a)) underlying112 yK f (by rw[hl,cC,Nat.min_comm]) (by
  intro j u l;have p:j<(m.take a).length:=by
   have:=(iX.1 l).1;rwa[fK]at this
  rw[sk _ j p]at l;obtain rfl:=aJ l;rw[Addr.add_lit];rw[cC]at p;rw[i.1 j (by omega)];simp[show j<a by omega]) (by rw[hl];simpa [bv]using r) (by
  intro u x;obtain⟨y,_,rfl⟩:=fh.1 x;rfl)
 refine⟨_,by rw[k,hl],?_,tX _ _ _⟩
 rw[setRow_heap w g _ _ t _ f,yL];simp[splice,fK]
theorem yM{K:Act->World->Prop}(d s:Operand)
 (ho:I.op=.call {callee:=.builtin .copy,args:= #[d,s],argTypes:= #[112,112]})
 (g off a j:Nat) (hd:f.eval d=.slice (some ⟨g,off,none⟩) a j) (sp:Option Addr) (e i:Nat) (hs:f.eval s=.slice sp e i) (m:List Int) (k:bh w sp e i m)
 (c:List Int) (t:TypeId) (l:w.heap[g]?=some (.cells (bv c).toArray t (0,0))) (n:off+(m.take a).length<=c.length)
 (h:∀b,b.heap[g]?=some (.cells (bv (splice c off (m.take a))).toArray t (0,0))->w.grownBy b (some g)->K (f.put I.dst (goInt (m.take a).length)) b):Oper.wp prog I f w K G:=by
 obtain⟨b,p,q,r⟩:=DZ (w:=w) I.type g off a j sp e i m k c t l n;unfold Oper.wp execOp;simp only[ho,resolve,invoke,builtin,ie,kN,ic,lN,ki,kO,hd,hs,p]
 exact h b q r
theorem sn{rest:List Oper}(d s:Operand)
 (ho:I.op=.call {callee:=.builtin .copy,args:= #[d,s],argTypes:= #[112,112]}) (k:I.guard=none)
 (g off a j:Nat) (hd:f.eval d=.slice (some ⟨g,off,none⟩) a j) (sp:Option Addr) (e i:Nat) (hs:f.eval s=.slice sp e i) (m:List Int) (l:bh w sp e i m)
 (c:List Int) (t:TypeId) (n:w.heap[g]?=some (.cells (bv c).toArray t (0,0))) (p:off+(m.take a).length<=c.length)
 (h:∀b,b.heap[g]?=some (.cells (bv (splice c off (m.take a))).toArray t (0,0))->w.grownBy b (some g)->wpList prog F G rest (f.put I.dst (goInt (m.take a).length)) b):
 wpList prog F G (I::rest) f w:=
 qk k λ_ q=>yM d s ho g off a j hd sp e i hs m l c t n p λb r u=>q _ _ (h b r u)
theorem D0{K:Act->World->Prop}(d s:Operand)
 (ho:I.op=.call {callee:=.builtin .copy,args:= #[d,s],argTypes:= #[112,112]}) (k:I.guard=none)
 (g off a j:Nat) (hd:f.eval d=.slice (some ⟨g,off,none⟩) a j) (sp:Option Addr) (c e:Nat) (hs:f.eval s=.slice sp c e) (m:List Int) (l:bh w sp c e m)
 (b:List Int) (t:TypeId) (n:w.heap[g]?=some (.cells (bv b).toArray t (0,0))) (p:off+(m.take a).length<=b.length)
 (h:∀i,i.heap[g]?=some (.cells (bv (splice b off (m.take a))).toArray t (0,0))->w.grownBy i (some g)->K (f.put I.dst (goInt (m.take a).length)) i):
 if Region.wanted I (yielded F f.tmps)=true then Oper.wp prog I f w K G else u:=by
 have q:Region.wanted I (yielded F f.tmps)=true:=by simp[Region.wanted,k]
 rw[aM q];exact yM d s ho g off a j hd sp c e hs m l b t n p h
theorem mh:(prog.info? 24).map (·.size)=some 16:=by kernel_rfl
theorem oy{rest:List Oper}(x:Operand)(ho:I.op=.load 24 x)(a:I.guard=none)
 (g:Nat) (b:f.eval x=.pointer (some ⟨g,0,none⟩)) (K:Array Value) (c:w.heap[g]?=some (.cells K 24 (0,0))) (d:K.size=16)
 (h:wpList prog F G rest (f.put I.dst (.agg K)) w):wpList prog F G (I::rest) f w:=
 oj a _ x ho g b _ K _ _ c underlying24 rfl (by rw[d];exact mh) h
theorem sq(h:bh w a n k L):(convert 112 9 (.slice a n k)).run prog w=.ok (.string (strOfNums L)) w:=by
 obtain⟨e,d,f,g,c⟩:=h;obtain⟨rfl,rfl⟩|⟨b,o,rfl,c⟩:=c
 have:L=[]:=fR (by omega);subst this;exact run_convert_bytes_nil w _ _ underlying112 underlying5 n 0 _ underlying9;exact run_convert_bytes_arg w _ _ underlying112 underlying5 b o n k L d.symm (λi hi=>c.1 i (by omega)) _ underlying9
def bl(s:ByteArray):List Int:=s.data.toList.map λx=>(x.toNat:Int)
theorem iJ(s:ByteArray):(bl s).length=s.size:=by unfold bl;rw[dY,pB];rfl
theorem qR(s:ByteArray):∀x∈bl s,W8 x:=by
 intro x a;obtain⟨y,_,rfl⟩:=fh.1 a;have:=y.toNat_lt;unfold W8;omega
theorem mM(s:ByteArray)(w:World):(convert 9 112 (.string s)).run prog w=.ok (.slice (some ⟨w.heap.size,0,none⟩) s.size (grownCap w s.size 0 5)) (Lib.bytesWorld w 5 s):=
 Lib.run_convert_string_bytes w _ _ _ s underlying9 underlying112 underlying5
theorem vW(w:World)(s:ByteArray):w.grownBy (Lib.bytesWorld w 5 s) none:=
 ⟨rfl,rfl,rfl,by rw[Lib.bytesWorld_size];omega,λi hi _=>Lib.bytesWorld_at_old w _ s i hi⟩
theorem yN(w:World)(s:ByteArray)(hs:s.size<=100000000):bh (Lib.bytesWorld w 5 s) (some ⟨w.heap.size,0,none⟩) s.size (grownCap w s.size 0 5) (bl s):=by
 refine⟨qR s,(iJ s).symm,grownCap_ge _ _ _ _,grownCap_le_maxLen _ _ _ _ (by simp[maxLen];omega),.inr ⟨_,0,rfl,?_⟩⟩
 refine⟨λi hi=>?_,qR s⟩
 rw[iJ]at hi;have a:i<s.data.toList.length:=by rw[pB];exact hi
 have e1:s.data.toList.getD i 0=s.data.toList[i]:=by rw[List.getD,eF a];rfl
 have e2:(bl s).getD i 0=(s.data.toList[i].toNat:Int):=by unfold bl;rw[List.getD,List.getElem?_map,eF a];rfl
 rw[dv,Lib.bytesWorld_cell w _ s i hi,e1,e2]
theorem aX.fB(h:aX w k (.slice a n i) L):bh w a n i L:=by
 obtain⟨c,d,e,b,_⟩:=h.bs;simp only[Value.slice.injEq]at e;obtain⟨rfl,rfl,rfl⟩:=e;exact b
theorem yO(h:aX w k (.slice a n i) L):(a=none/\n=0)\/∃g cs,a=some ⟨g,0,none⟩/\k<=g/\w.heap[g]?=some (.cells cs 5 (0,0))/\n<=cs.size:=by
 obtain⟨d,f,b⟩:=h;obtain⟨e,j⟩|⟨g,cap,cur,e,aa,c,l,hm,hs,m⟩:=b
 cases e;exact .inl ⟨rfl,rfl⟩;cases e;exact .inr ⟨g,cur,rfl,aa,c,by omega⟩
theorem qm(a:Option Addr)(n c:Nat)(l:List Int)(w:World)(m:Nat)(ho:aX w m (.slice a n c) l)(r:n<=100000000):
 Calls prog 97 #[.slice a n c] w λe p=>e=.returned (.tuple #[])/\w.grownBy p (Value.slice a n c).ownBlock:=by
 obtain⟨rfl,rfl⟩|⟨g,cs,rfl,s,aa,hs⟩:=yO ho
 ·go_enter func97,ntmps97;go_wp2;go_loopg [5] 0 (λf i wr=>f=0/\i=.int .i64 0/\wr=w);case atStart=>exact⟨rfl,rfl,rfl⟩
  case round=>
   obtain⟨rfl,rfl,rfl⟩:=hrel;go_wp2;refine dP (dj rfl _ _ _) rfl ?_;exact⟨rfl,av _ _⟩
 have h:(Value.slice (some ⟨g,0,none⟩) n c).ownBlock=some g:=rfl;rw[h];clear ho h;go_enter func97,ntmps97;go_wp2;go_loopg [5] n (λf i wr=>∃j:Nat,j<=n/\f=n-j/\i=.int .i64 (j:Int)/\w.grownBy wr (some g)/\∃b,wr.heap[g]?=some (.cells b 5 (0,0))/\n<=b.size);case atStart=>exact⟨0,by omega,by omega,rfl,av _ _,cs,aa,hs⟩
 case round=>
  obtain⟨j,t,rfl,rfl,k,b,d,q⟩:=hrel;by_cases u:j<n
  ·have v:wr.cell? ⟨g,j,none⟩=some (b.getD j undef):=by simp[World.cell?,d,Array.getD,show j<b.size by omega]
   have x:wr.frozen? ⟨g,j,none⟩=false:=by simp[World.frozen?,d]
   replace d:=J d;go_wp2;go_roundg (n-(j+1));case measure=>omega
   case rel=>exact⟨j+1,by omega,rfl,by go_num,aD k _ _ (.inr rfl),_,heap_set (Z d) _,by simpa using q⟩
  go_wp2;refine dP (dj rfl _ _ _) rfl ?_;exact⟨rfl,k⟩
theorem tY{rest:List Oper}(i:I.guard=none)(x:Operand)
 (ho:I.op=.call {callee:=.builtin .append,args:= #[.const (.slice none 0 0),x],argTypes:= #[112,112]})
 (d:Option Addr) (nx e:Nat) (m:List Int) (j:f.eval x=.slice d nx e) (k:bh w d nx e m) (l:m.length<=100000000)
 (h:∀b c a,aX a w.heap.size (.slice b m.length c) m->w.grownBy a none->wpList prog F G rest (f.put I.dst (.slice b m.length c)) a):wpList prog F G (I::rest) f w:=by
 refine qQ i (.const (.slice none 0 0)) x ho w.heap.size (.slice none 0 0) [] rfl (aX.nil _ _) d nx e m j k (by simpa using l) (aI _) ?_;intro b c a g n _;rw[fH,dv]at g⊢;rw[jQ]at g;exact h b c a g n
theorem iK{cs:List Value}(h:w.rangeAt b o cs)(g:w.grownBy W N)(a:N≠some b):W.rangeAt b o cs:=
 λj v c=>g.cell (h j v c) (λe=>a e.symm)
theorem tZ{cs:List Value}(h:w.rangeAt b o cs)(p:Addr)(v:Value)(hp:p.block≠b):(w.setCell p v).rangeAt b o cs:=λj u a=>by
 rw[lg (w:=w) (cY _ _ _ _ (Ne.symm hp))];exact h j u a
theorem jm{fr:Nat×Nat}{cs:List Value}(h:w.heap[b]?=some (.cells cs.toArray T fr)):w.rangeAt b 0 cs:=λj v a=>by
 simp only[World.cell?,h,dv];simpa using a
structure Rg where
 lo:Int
 hi:Int
structure Fr where
 kind:Int
 stream:Int
 offset:Int
 code:Int
 fin:Bool
 data:ByteArray
 ranges:List Rg
def Rg.ok(r:Rg):Prop:=aR r.lo/\aR r.hi
def gC(x:Int):Prop:= -9223372036854775808<=x/\x<=9223372036854775807
def Fr.ok(f:Fr):Prop:=gC f.kind/\gC f.stream/\aR f.offset/\aR f.code/\∀r∈f.ranges,r.ok
def aN(n:Int):List Int:=
 if n<64 then[n]else if n<16384 then[n/256+64,n %256]
 else if n<1073741824 then[n/16777216+128,n/65536 %256,n/256 %256,n %256]
 else[n/72057594037927936+192,n/281474976710656 %256,n/1099511627776 %256,n/4294967296 %256,n/16777216 %256,n/65536 %256,n/256 %256,n %256]
def dH(n:Int):Prop:=0<=n/\n<=4611686018427387903
theorem mi{n:Int}(h:dH n):∀x∈aN n,W8 x:=by
 unfold dH at h;intro x a;unfold aN at a;unfold W8;split at a;simp only[dB]at a;omega;split at a;simp only[eJ,ns,lQ]at a;omega;split at a;simp only[eJ,ns,lQ]at a;omega;simp only[eJ,ns,lQ]at a;omega
theorem gD(n:Int):1<=(aN n).length/\(aN n).length<=8:=by
 unfold aN;repeat' split
 all_goals simp
def au(l:List Rg)(i:Nat):Rg:=l.getD i ⟨0,0⟩
def mj(l:List Rg)(i:Nat):Prop:=(au l i).lo<=(au l i).hi/\(au l i).hi<=4611686018427387903/\(0<i->(au l i).hi+2<=(au l (i-1)).lo)
def iL(l:List Rg):Prop:=0<l.length/\∀i,i<l.length->mj l i
def oC(f:Fr):Prop:=f.offset<=4611686018427387903/\f.code<=4611686018427387903/\0<=f.stream/\f.stream<4
def pJ(f:Fr):Prop:=(f.kind=3->iL f.ranges)/\(f.kind=5->(f.data.size:Int)<=4611686018427387903-f.offset)
def dm(f:Fr):Prop:=oC f/\pJ f/\1<=f.kind/\f.kind<=6
def sr(l:List Rg)(i:Nat):List Int:=aN ((au l i).lo-(au l (i+1)).hi-2)++aN ((au l (i+1)).hi-(au l (i+1)).lo)
def jn(l:List Rg):Nat->List Int
 |0=>[]
 |j+1=>jn l j++sr l j
def lq(l:List Rg):List Int:=aN (au l 0).hi++aN ((l.length:Int)-1)++aN ((au l 0).hi-(au l 0).lo)
def fC(l:List Rg):List Int:=lq l++jn l (l.length-1)
def cZ(f:Fr):List Int:=
 if f.kind=1 then[0]else if f.kind=2 then[1]else if f.kind=3 then 2::fC f.ranges
 else if f.kind=4 then 4::(aN f.stream++aN f.code++aN f.offset)
 else if f.kind=5 then(if f.fin then 9 else 8)::(aN f.stream++aN f.offset++aN f.data.size++bl f.data)
 else 28::aN f.code
def bu:List Fr->List Int
 |[]=>[]
 |f::r=>cZ f++bu r
theorem D1(l r:List Fr):bu (l++r)=bu l++bu r:=by
 induction l with
 |nil=>rfl
 |cons f l a=>simp[bu,a]
theorem D2(l:List Fr)(j:Nat)(h:j<l.length):bu (l.take (j+1))=bu (l.take j)++cZ l[j]:=by
 rw[qc h,D1];simp[bu]
def lS(f:Fr):Nat:=25+16*f.ranges.length+f.data.size
def fk:List Fr->Nat
 |[]=>0
 |f::r=>lS f+fk r
theorem vX(l:List Rg)(j:Nat):(jn l j).length<=16*j:=by
 induction j with
 |zero=>simp[jn]
 |succ j a=>
  have b:=gD ((au l j).lo-(au l (j+1)).hi-2);have c:=gD ((au l (j+1)).hi-(au l (j+1)).lo);simp only[jn,sr,bG];omega
theorem ud(f:Fr):1<=(cZ f).length/\(cZ f).length<=lS f:=by
 have a:=gD f.stream;have b:=gD f.code;have c:=gD f.offset;have d:=gD f.data.size;have a5:=iJ f.data;have a6:=vX f.ranges (f.ranges.length-1);have a7:=gD (au f.ranges 0).hi;have e:=gD ((f.ranges.length:Int)-1);have g:=gD ((au f.ranges 0).hi-(au f.ranges 0).lo);unfold cZ lS;repeat' split
 all_goals simp only[fC,lq,dJ,bG,fH];omega
theorem yP(l:List Fr):(bu l).length<=fk l:=by
 induction l with
 |nil=>simp[bu,fk]
 |cons f r a=>have:=ud f;simp only[bu,fk,bG];omega
theorem oD{l:List Rg}(a:∀r∈l,r.ok)(h:iL l)(i:Nat)(hi:i<l.length):dH (au l i).lo/\dH (au l i).hi:=by
 have b:=h.2 i hi;have c:(au l i).ok:=a _ (by unfold au;rw[List.getD,eF hi];exact nt hi);unfold Rg.ok aR at c;unfold mj at b;unfold dH;omega
theorem yQ{l:List Rg}(e:∀r∈l,r.ok)(h:iL l):∀j,j<l.length->∀x∈jn l j,W8 x
 |0,_=>by intro x d;simp[jn]at d
 |j+1,f=>by
  intro x d;have a:=oD e h j (by omega);have b:=oD e h (j+1) f;have c:=h.2 (j+1) f;unfold mj at c;simp only[qL]at c;unfold dH at a b;simp only[jn,sr,ck]at d;obtain d|d|d:=d
  exact yQ e h j (by omega) x d;exact mi (by unfold dH;omega) x d;exact mi (by unfold dH;omega) x d
theorem D3{l:List Rg}(e:∀r∈l,r.ok)(h:iL l)(hl:(l.length:Int)<=4611686018427387903):∀x∈lq l,W8 x:=by
 have a:=oD e h 0 h.1;have c:=(h.2 0 h.1).1;have d:=h.1;unfold dH at a;intro x b;simp only[lq,ck]at b;obtain(b|b)|b:=b
 exact mi (by unfold dH;omega) x b;exact mi (by unfold dH;omega) x b;exact mi (by unfold dH;omega) x b
def eC(x:Int):Nat:=if x<64 then 1 else if x<128 then 2 else if x<192 then 4 else 8
def iM(b:List Int)(p:Nat):Nat->Int
 |0=>b.getD p 0 %64
 |k+1=>iM b p k*256+b.getD (p+k+1) 0
def cK(b:List Int)(p:Nat):Option (Int×Nat):=
 if p+eC (b.getD p 0)<=b.length then some (iM b p (eC (b.getD p 0)-1),p+eC (b.getD p 0))else none
theorem su(x:Int):1<=eC x/\eC x<=8:=by
 unfold eC;repeat' split
 all_goals omega
theorem vY{b:List Int}(a:∀x∈b,W8 x)(p:Nat):∀k,0<=iM b p k/\iM b p k<64*256^k
 |0=>by simp only[iM];omega
 |k+1=>by
  have d:=vY a p k;have c:=pI a (p+k+1);unfold W8 at c;simp only[iM,Int.pow_succ]
  generalize (256:Int)^k=q at *;omega
theorem kk{b:List Int}{p:Nat}{n:Int}{q:Nat}(a:∀x∈b,W8 x)(h:cK b p=some (n,q)):dH n/\p<q/\q<=b.length:=by
 unfold cK at h;split at h;simp only[kM,qi]at h;obtain⟨rfl,rfl⟩:=h;have:=su (b.getD p 0);have c:=vY a p (eC (b.getD p 0)-1);have d:(256:Int)^(eC (b.getD p 0)-1)<=256^7:=by
  have:(256:Nat)^(eC (b.getD p 0)-1)<=256^7:=vP (by decide) (by omega);have e:∀k:Nat,(256:Int)^k=((256^k:Nat):Int):=λk=>by simp
  rw[e,e];omega
 unfold dH;omega;cases h
def jx(b:List Int)(p:Nat):Option (Int×Nat):=(cK b p).bind λx=>if x.1<4 then some x else none
def mN(b:List Int)(p:Nat):Option (ByteArray×Nat):=
 (cK b p).bind λx=>if x.1<=(b.length:Int)-(x.2:Int)then some (strOfNums ((b.drop x.2).take x.1.toNat),x.2+x.1.toNat)else none
def jo(b:List Int):Nat->Nat->Int->List Rg->Option (List Rg×Nat)
 |0,p,_,acc=>some (acc,p)
 |k+1,p,lo,acc=>(cK b p).bind λx=>(cK b x.2).bind λy=>
  if x.1+2<=lo/\y.1<=lo-2-x.1 then jo b k y.2 (lo-2-x.1-y.1) (acc++[⟨lo-2-x.1-y.1,lo-2-x.1⟩])else none
def jq(b:List Int)(p:Nat):Option (List Rg×Nat):=
 (cK b p).bind λx=>(cK b x.2).bind λy=>(cK b y.2).bind λz=>
   if z.1<=x.1 then jo b y.1.toNat z.2 (x.1-z.1) [⟨x.1-z.1,x.1⟩]else none
def bX(k:Int)(fin:Bool):Fr:=⟨k,0,0,0,fin,ByteArray.empty,[]⟩
def eR(b:List Int)(t:Int)(p:Nat):Option (Fr×Nat):=
 if t=0 then some (bX 1 false,p)else if t=1 then some (bX 2 false,p)
 else if t=2 then(jq b p).bind λx=>some ({bX 3 false with ranges:=x.1},x.2)
 else if t=4 then(jx b p).bind λx=>(cK b x.2).bind λy=>(cK b y.2).bind λz=>some ({bX 4 false with stream:=x.1,code:=y.1,offset:=z.1},z.2)
 else if t=8\/t=9 then(jx b p).bind λx=>(cK b x.2).bind λy=>(mN b y.2).bind λz=>some ({bX 5 (decide (t=9))with stream:=x.1,offset:=y.1,data:=z.1},z.2)
 else if t=28 then(cK b p).bind λx=>some ({bX 6 false with code:=x.1},x.2)
 else none
open Classical in
noncomputable def ml(b:List Int)(p:Nat):Option (Fr×Nat):=(eR b (b.getD p 0) (p+1)).bind λx=>if dm x.1 then some x else none
noncomputable def ig(b:List Int):Nat->Nat->List Fr->Option (List Fr)×Int
 |0,p,_=>(none,p)
 |k+1,p,acc=>if p<b.length then(match ml b p with
  |none=>(none,p)
  |some (f,q)=>ig b k q (acc++[f]))else(some acc,-1)
noncomputable def fU(b:List Int):Option (List Fr)×Int:=if b.length=0 then(none,0)else ig b (b.length+1) 0 []
variable{Y:List Rg}{U:Rg}
def Sm(l:List Rg)(n:Int):Prop:=∃r∈l,r.lo<=n/\n<r.hi
def aZ(l:List Rg):Prop:=l.Pairwise (λa b=>a.hi<b.lo)/\∀r∈l,r.lo<r.hi
theorem aZ.nil:aZ []:=⟨List.Pairwise.nil,λr h=>by cases h⟩
theorem ij(n:Int):¬Sm [] n:=λ⟨r,h,_⟩=>by cases h
theorem fD(r:Rg)(l:List Rg)(n:Int):Sm (r::l) n↔(r.lo<=n/\n<r.hi)\/Sm l n:=by
 constructor;rintro⟨x,a,h⟩;obtain rfl|a:=eJ.1 a
 exact .inl h;exact .inr ⟨x,a,h⟩;rintro(h|⟨x,a,h⟩);exact⟨r,by simp,h⟩
 exact⟨x,by simp[a],h⟩
theorem qS(l r:List Rg)(n:Int):Sm (l++r) n↔Sm l n\/Sm r n:=by
 induction l with
 |nil=>simp[ij]
 |cons x l a=>rw[nu,fD,fD,a,or_assoc]
theorem aZ.tail(h:aZ (U::Y)):aZ Y:=⟨(qM.1 h.1).2,λx a=>h.2 x (by simp[a])⟩
theorem aZ.behind(h:aZ (U::Y))(a:Sm Y p):U.hi<p:=by
 obtain⟨x,b,c,d⟩:=a;have:=(qM.1 h.1).1 x b;omega
theorem aZ.append{r:List Rg}(c:aZ Y)(d:aZ r)(h:∀a∈Y,∀b∈r,a.hi<b.lo):aZ (Y++r):=
 ⟨List.pairwise_append.2 ⟨c.1,d.1,h⟩,λx e=>(ck.1 e).elim (c.2 x) (d.2 x)⟩
theorem aZ.one(h:U.lo<U.hi):aZ [U]:=⟨List.pairwise_singleton _ _,λy a=>by simp at a;subst a;exact h⟩
theorem aZ.sub{r:List Rg}(h:aZ Y)(hs:r.Sublist Y):aZ r:=⟨h.1.sublist hs,λx a=>h.2 x (hs.subset a)⟩
theorem aZ.unique{r:List Rg}(c:aZ Y)(e:aZ r)(h:∀n,Sm Y n↔Sm r n):Y=r:=by
 induction Y generalizing r with
 |nil=>
  cases r with
  |nil=>rfl
  |cons y r=>
   have:=(h y.lo).2 ⟨y,by simp,fI _,e.2 y (by simp)⟩;exact absurd this (ij _)
 |cons x Y k=>
  cases r with
  |nil=>
   have:=(h x.lo).1 ⟨x,by simp,fI _,c.2 x (by simp)⟩;exact absurd this (ij _)
  |cons y r=>
   have l:=c.2 x (by simp);have m:=e.2 y (by simp);have g:=(fD y r x.lo).1 ((h x.lo).1 ⟨x,by simp,fI _,l⟩);have b:=(fD x Y y.lo).1 ((h y.lo).2 ⟨y,by simp,fI _,m⟩);have i:x.lo=y.lo:=by
    obtain g|g:=g
    obtain b|b:=b
    omega;have:=c.behind b;omega;have:=e.behind g;obtain b|b:=b
    omega;have:=c.behind b;omega
   have b1:¬Sm (x::Y) x.hi:=λa=>by
    obtain a|a:=(fD _ _ _).1 a
    omega;have:=c.behind a;omega
   have b2:¬Sm (y::r) y.hi:=λa=>by
    obtain a|a:=(fD _ _ _).1 a
    omega;have:=e.behind a;omega
   have j:x.hi=y.hi:=by
    obtain p|he|q:=Int.lt_trichotomy x.hi y.hi
    exact absurd ((h x.hi).2 ⟨y,by simp,by omega,p⟩) b1;exact he;exact absurd ((h y.hi).1 ⟨x,by simp,by omega,q⟩) b2
   obtain⟨s,t⟩:=x;obtain⟨u,v⟩:=y;simp only at i j;subst i j;congr 1;refine k c.tail e.tail (λn=>?_);have a:=h n;rw[fD,fD]at a;constructor;intro f;have:=c.behind f;obtain d|d:=a.1 (.inr f)
   simp only at this d;omega;exact d;intro f;have:=e.behind f;obtain d|d:=a.2 (.inr f)
   simp only at this d;omega;exact d
theorem mm(h:i<Y.length):au Y i∈Y:=by
 unfold au;rw[List.getD,eF h];exact nt h
theorem vZ(h:U∈Y.take i):∃k,k<i/\k<Y.length/\U=au Y k:=by
 obtain⟨k,a,rfl⟩:=lL.1 h;rw[cC]at a;refine⟨k,by omega,by omega,?_⟩
 rw[tK,au,List.getD,eF (by omega)];rfl
theorem qT(h:U∈Y.drop i):∃k,i<=k/\k<Y.length/\U=au Y k:=by
 obtain⟨k,a,rfl⟩:=lL.1 h;rw[dO]at a;refine⟨i+k,by omega,by omega,?_⟩
 rw[tL,au,List.getD,eF (by omega)];rfl
theorem aZ.lt(h:aZ Y){i k:Nat}(b:i<k)(a:k<Y.length):(au Y i).hi<(au Y k).lo:=by
 have:=List.pairwise_iff_getElem.1 h.1 i k (by omega) a b;simpa [au,List.getD,eF a,eF (show i<Y.length by omega)]using this
theorem aZ.pos(h:aZ Y)(hi:i<Y.length):(au Y i).lo<(au Y i).hi:=h.2 _ (mm hi)
def lr(n k:Nat)(p:Nat->Prop):Prop:=k<=n/\(∀i,i<k->¬p i)/\∀i,k<=i->i<n->p i
theorem D4(h:aZ Y)(e:p<q)(hi:lr Y.length i (λk=>p<=(au Y k).hi))(a:lr Y.length j (λk=>q<(au Y k).lo)):i<=j:=by
 obtain⟨f,b,g⟩:=hi;obtain⟨l,m,c⟩:=a;by_cases d:i<=j;exact d;have n:=b j (by omega);have r:=c j (aI _) (by omega);have s:=h.pos (i:=j) (by omega);omega
def ue(l:List Rg)(x:Rg)(i j:Nat):List Rg:=
 l.take i++((if i<j then⟨min x.lo (au l i).lo,max x.hi (au l (j-1)).hi⟩else x)::l.drop j)
theorem D5(h:aZ Y)(H:U.lo<U.hi)(hi:lr Y.length i (λk=>U.lo<=(au Y k).hi))(v:lr Y.length j (λk=>U.hi<(au Y k).lo)):
 aZ (ue Y U i j)/\∀n,Sm (ue Y U i j) n↔Sm Y n\/(U.lo<=n/\n<U.hi):=by
 obtain⟨I,s,w⟩:=hi;obtain⟨K,x,t⟩:=v;have L:i<=j:=by
  by_cases z:i<=j;exact z;have M:=s j (by omega);have N:=t j (aI _) (by omega);have O:=h.pos (i:=j) (by omega);omega
 obtain⟨y,d⟩:∃y:Rg,y=(if i<j then⟨min U.lo (au Y i).lo,max U.hi (au Y (j-1)).hi⟩else U):=⟨_,rfl⟩
 have P:y.lo<=U.lo/\U.hi<=y.hi:=by
  rw[d];split;simp only;omega;omega
 have A:∀k,k<i->(au Y k).hi<y.lo:=λk f=>by
  have a:=s k f;rw[d];split;have:=h.lt f (show i<Y.length by omega);simp only;omega;omega
 have B:∀k,j<=k->k<Y.length->y.hi<(au Y k).lo:=λk f u=>by
  have a:=t k f u;rw[d];split;have:=h.lt (show j-1<k by omega) u;simp only;omega;omega
 have C:ue Y U i j=Y.take i++(y::Y.drop j):=by rw[d];rfl
 rw[C];constructor;refine(h.sub (List.take_sublist i Y)).append ⟨qM.2 ⟨λb g=>?_,(h.sub (List.drop_sublist j Y)).1⟩,λr c=>?_⟩ (λa D b g=>?_);obtain⟨k,l,q,rfl⟩:=qT g;exact B k l q;obtain rfl|c:=eJ.1 c
 omega;exact h.2 r (iZ c);obtain⟨k,l,q,rfl⟩:=vZ D;have e1:=A k l;obtain rfl|g:=eJ.1 g
 exact e1;obtain⟨m,m1,E,rfl⟩:=qT g;exact h.lt (by omega) E;intro n;rw[qS,fD];have hl:Y=Y.take i++((Y.drop i).take (j-i)++Y.drop j):=by
  have e:Y.drop j=(Y.drop i).drop (j-i):=by rw[List.drop_drop];congr 1;omega
  rw[e,nZ,nZ]
 have F:∀r∈(Y.drop i).take (j-i),∃k,i<=k/\k<j/\r=au Y k:=λr c=>by
  obtain⟨k,f,rfl⟩:=lL.1 c;rw[cC,dO]at f;refine⟨i+k,by omega,by omega,?_⟩
  rw[tK,tL,au,List.getD,eF (by omega)];rfl
 have eS:Sm Y n↔Sm (Y.take i) n\/Sm ((Y.drop i).take (j-i)) n\/Sm (Y.drop j) n:=by
  rw[hl];simp only[qS]
  rw[<-hl]
 rw[eS];constructor;rintro(a|a|a);exact .inl (.inl a);by_cases G:U.lo<=n/\n<U.hi;exact .inr G;left;right;left;rw[d]at a;split at a;rename_i p;simp only at a;by_cases Q:n<U.lo;exact⟨au Y i,by
  rw[lL];refine⟨0,by rw[cC,dO];omega,?_⟩
  rw[tK,tL,au,List.getD,eF (by omega)];rfl,by omega,by have:=w i (aI _) (by omega);omega⟩
 exact⟨au Y (j-1),by
  rw[lL];refine⟨j-1-i,by rw[cC,dO];omega,?_⟩
  rw[tK,tL,au,List.getD,eF (by omega)];simp only[Option.getD_some]
  congr 1;omega,by have:=x (j-1) (by omega);omega,by omega⟩
 omega;exact .inl (.inr (.inr a));rintro((a|⟨r,c,a⟩|a)|a);exact .inl a;right;left;obtain⟨k,l,q,rfl⟩:=F r c;rw[d,aM (by omega)];simp only
 have e1:(au Y i).lo<=(au Y k).lo:=by
  obtain p|rfl:=qK l
  have:=h.lt p (by omega);have:=h.pos (i:=i) (by omega);omega;omega
 have e2:(au Y k).hi<=(au Y (j-1)).hi:=by
  obtain p|he:=qK (show k<=j-1 by omega)
  have:=h.lt p (by omega);have:=h.pos (i:=j-1) (by omega);omega;rw[he];omega
 omega;exact .inr (.inr a);right;left;omega
theorem D6:U∈(Y.drop i).take (j-i)->∃k,i<=k/\k<j/\k<Y.length/\U=au Y k:=λa=>by
 obtain⟨k,b,rfl⟩:=lL.1 a;rw[cC,dO]at b;refine⟨i+k,by omega,by omega,by omega,?_⟩
 rw[tK,tL,au,List.getD,eF (by omega)];rfl
theorem D7(l:List Rg)(a:i<=j)(n:Int):Sm l n↔Sm (l.take i) n\/Sm ((l.drop i).take (j-i)) n\/Sm (l.drop j) n:=by
 have hl:l=l.take i++((l.drop i).take (j-i)++l.drop j):=by
  have e:l.drop j=(l.drop i).drop (j-i):=by rw[List.drop_drop];congr 1;omega
  rw[e,nZ,nZ]
 have:Sm (l.take i++((l.drop i).take (j-i)++l.drop j)) n↔Sm (l.take i) n\/Sm ((l.drop i).take (j-i)) n\/Sm (l.drop j) n:=by simp only[qS]
 rwa[<-hl]at this
theorem yR(b:i<=k)(c:k<j)(a:k<Y.length):au Y k∈(Y.drop i).take (j-i):=by
 rw[lL];refine⟨k-i,by rw[cC,dO];omega,?_⟩
 rw[tK,tL,au,List.getD,eF a];simp only[Option.getD_some]
 congr 1;omega
def uf(l:List Rg)(x:Rg)(i j:Nat):List Rg:=
 l.take i++((if(au l i).lo<x.lo then[⟨(au l i).lo,x.lo⟩]else[])++((if x.hi<(au l (j-1)).hi then[⟨x.hi,(au l (j-1)).hi⟩]else[])++l.drop j))
theorem D8(h:aZ Y)(K:U.lo<U.hi)(u:i<j)(hi:lr Y.length i (λk=>U.lo<(au Y k).hi))(x:lr Y.length j (λk=>U.hi<=(au Y k).lo)):
 aZ (uf Y U i j)/\∀n,Sm (uf Y U i j) n↔Sm Y n/\¬(U.lo<=n/\n<U.hi):=by
 obtain⟨L,y,z⟩:=hi;obtain⟨M,A,B⟩:=x;have N:=h.pos (i:=i) (by omega);have O:=h.pos (i:=j-1) (by omega);have ci:=z i (aI _) (by omega);have P:=A (j-1) (by omega);have C:∀k,k<i->(au Y k).hi<(au Y i).lo:=λk f=>h.lt f (by omega)
 have v:∀k,k<i->(au Y k).hi<=U.lo:=λk f=>by have:=y k f;omega
 have D:∀k,j<=k->k<Y.length->(au Y (j-1)).hi<(au Y k).lo:=λk f s=>h.lt (by omega) s
 have w:∀k,j<=k->k<Y.length->U.hi<=(au Y k).lo:=λk f s=>B k f s
 have E:aZ (if(au Y i).lo<U.lo then[⟨(au Y i).lo,U.lo⟩]else[]):=by
  split;exact aZ.one (by assumption);exact aZ.nil
 have F:aZ (if U.hi<(au Y (j-1)).hi then[⟨U.hi,(au Y (j-1)).hi⟩]else[]):=by
  split;exact aZ.one (by assumption);exact aZ.nil
 have t:∀r∈(if(au Y i).lo<U.lo then[(⟨(au Y i).lo,U.lo⟩:Rg)]else[]),r.lo=(au Y i).lo/\r.hi=U.lo/\(au Y i).lo<U.lo:=λr c=>by
  split at c;simp only[dB]at c;subst c;exact⟨rfl,rfl,by assumption⟩
  cases c
 have q:∀r∈(if U.hi<(au Y (j-1)).hi then[(⟨U.hi,(au Y (j-1)).hi⟩:Rg)]else[]),r.lo=U.hi/\r.hi=(au Y (j-1)).hi/\U.hi<(au Y (j-1)).hi:=λr c=>by
  split at c;simp only[dB]at c;subst c;exact⟨rfl,rfl,by assumption⟩
  cases c
 constructor;refine(h.sub (List.take_sublist i Y)).append (E.append (F.append (h.sub (List.drop_sublist j Y)) (λa p b d=>?_)) (λa p b d=>?_)) (λa p b d=>?_);obtain⟨k,g,l,rfl⟩:=qT d;have:=q a p;have:=D k g l;omega;have m1:=t a p;obtain d|d:=ck.1 d
 have:=q b d;omega;obtain⟨k,g,l,rfl⟩:=qT d;have:=w k g l;omega;obtain⟨k,g,l,rfl⟩:=vZ p;have e1:=C k g;have e2:=v k g;obtain d|d:=ck.1 d
 have:=t b d;omega;obtain d|d:=ck.1 d
 have:=q b d;omega;obtain⟨m,m1,G,rfl⟩:=qT d;exact h.lt (by omega) G;intro n;rw[D7 Y (Nat.le_of_lt u) n];unfold uf;simp only[qS]
 have tk:Sm (Y.take i) n->n<U.lo:=λ⟨r,c,a⟩=>by
  obtain⟨k,g,l,rfl⟩:=vZ c;have:=v k g;omega
 have H:Sm (Y.drop j) n->U.hi<=n:=λ⟨r,c,a⟩=>by
  obtain⟨k,g,l,rfl⟩:=qT c;have:=w k g l;omega
 constructor;rintro(a|⟨r,c,a⟩|⟨r,c,a⟩|a);exact⟨.inl a,by have:=tk a;omega⟩
 have m1:=t r c;exact⟨.inr (.inl ⟨au Y i,yR (aI _) u (by omega),by omega,by omega⟩),by omega⟩
 have m1:=q r c;exact⟨.inr (.inl ⟨au Y (j-1),yR (by omega) (by omega) (by omega),by omega,by omega⟩),by omega⟩
 exact⟨.inr (.inr a),by have:=H a;omega⟩
 rintro⟨a|⟨r,c,a⟩|a,Q⟩;exact .inl a;obtain⟨k,g,l,k3,rfl⟩:=D6 c;by_cases I:n<U.lo;right;left;have e:k=i:=by
  obtain f|f:=qK g
  have:=h.lt f k3;omega;exact f.symm
 subst e;rw[aM (by omega)];exact⟨_,dB.2 rfl,a.1,I⟩
 right;right;left;have e:k=j-1:=by
  obtain f|f:=qK (show k<=j-1 by omega)
  have:=h.lt f (by omega);omega;exact f
 subst e;rw[aM (by omega)];exact⟨_,dB.2 rfl,by show U.hi<=n;omega,a.2⟩
 exact .inr (.inr (.inr a))
structure dp(w:World)(c:Nat)(v:Value)(b:World)(a:Value)(m:List Int):Prop where
 own:aX b c a m
 gb:w.grownBy b v.ownBlock
 aG:a.ownBlock=v.ownBlock\/∃k,a.ownBlock=some k/\w.heap.size<=k
theorem dp.refl(h:aX w n x L):dp w n x w x L:=⟨h,av _ _,.inl rfl⟩
theorem dp.still(h:dp w n x W y L)(g:W.grownBy V none):dp w n x V y L:=
 ⟨h.own.ah g,cA h.gb g (λ_ e=>by cases e),h.aG⟩
theorem dp.trans(h:dp w n x W y L)(k:dp W n y V z K):dp w n x V z K:=
 ⟨k.own,cA h.gb k.gb (λj e=>by
  obtain aa|⟨b,a,hle⟩:=h.aG
  exact .inr aa
  ·rw[a]at e;cases e;exact .inl hle),by
  have hs:=h.gb.size;obtain c|⟨b,a,hle⟩:=k.aG
  rw[c];exact h.aG
  ·exact .inr ⟨b,a,by omega⟩⟩
theorem dp.app{a:World}(h:dp w n x W y L)(g:W.grownBy V none)(b:aX a n z K)(c:V.grownBy a y.ownBlock)(d:z.ownBlock=y.ownBlock\/z.ownBlock=some V.heap.size):dp w n x a z K:=
 (h.still g).trans ⟨b,c,by
   obtain e|e:=d
   exact .inl e
   ·exact .inr ⟨_,e,aI _⟩⟩
theorem dp.apart(h:dp w n x W y L){B:Nat}(b:B<w.heap.size)(a:x.ownBlock≠some B):W.heap[B]?=w.heap[B]? /\y.ownBlock≠some B:=by
 refine⟨h.gb.block B b (λe=>a e.symm),λe=>?_⟩
 obtain aa|⟨k,c,hle⟩:=h.aG
 exact a (aa.symm.trans e);rw[c]at e;cases e;omega
theorem dp.size(h:dp w n x W y L):w.heap.size<=W.heap.size:=h.gb.size
theorem dp.fB(h:dp w k x W (.slice a n i) L):bh W a n i L:=h.own.fB
def pw(n:Int):Int:=if n<64 then 0 else if n<16384 then 1 else if n<1073741824 then 2 else 3
theorem yS(n:Int)(w:World):Calls prog 295 #[.int .u64 n] w λe d=>e=.returned (.int .i64 (pw n))/\d=w:=by
 unfold pw;by_cases a:n<64
 ·have e1:decide (n<64)=true:=by simp[a]
  go_enter func295,ntmps295;go_wp2_with fail;go_ret;exact⟨by simp,rfl⟩
 have e1:decide (n<64)=false:=by simp[a]
 by_cases b:n<16384
 ·have e2:decide (n<16384)=true:=by simp[b]
  go_enter func295,ntmps295;go_wp2_with fail;go_ret;exact⟨by simp,rfl⟩
 have e2:decide (n<16384)=false:=by simp[b]
 by_cases c:n<1073741824
 ·have f:decide (n<1073741824)=true:=by simp[c]
  go_enter func295,ntmps295;go_wp2_with fail;go_ret;exact⟨by simp,rfl⟩
 have f:decide (n<1073741824)=false:=by simp[c]
 go_enter func295,ntmps295;go_wp2_with fail;go_ret;exact⟨by simp,rfl⟩
def jy(m:Int)(k:Nat):List Int:=(List.range k).map λi=>m/2^(8*(k-1)-8*i) %256
theorem yT(m:Int)(k:Nat):(jy m k).length=k:=by simp[jy]
theorem D9(m:Int)(k j:Nat)(h:j<k):(jy m k).take (j+1)=(jy m k).take j++[m/2^(8*(k-1)-8*j) %256]:=by
 have hl:j<(jy m k).length:=by rw[yT];exact h
 rw[qc hl];simp[jy]
theorem ug(n:Int)(p k:Nat)(h0:0<=n)(b:n<(2^k:Nat))(c:p*2^k+2^k<=18446744073709551616):bits .or .u64 n ((p*2^k:Nat):Int)=n+((p*2^k:Nat):Int):=by
 obtain⟨m,rfl⟩:=pr h0;have a:m<2^k:=by omega
 rw[u64_or_nat _ _ (by omega) (by omega)];have:=vN a p;rw[Nat.shiftLeft_eq]at this;rw[Nat.or_comm,<-this];omega
theorem Ea(h:p<64)(h0:0<=p):aN p=jy p 1:=by
 simp[aN,jy,h];omega
theorem Eb(h:¬p<64)(a:p<16384):aN p=jy (p+16384) 2:=by
 simp[aN,jy,h,a,pD];omega
theorem Ec(h:¬p<64)(a:¬p<16384)(b:p<1073741824):aN p=jy (p+2147483648) 4:=by
 simp[aN,jy,h,a,b,pD];omega
theorem Ed(h:¬p<64)(a:¬p<16384)(b:¬p<1073741824)(c:dH p):aN p=jy (p+13835058055282163712) 8:=by
 unfold dH at c;simp[aN,jy,h,a,b,pD];omega
def dw(p:Prop)(e:Ending):Prop:=∃b:Bool,e=.returned (.bool b)/\(b=true↔p)
theorem qU(h:u):dw u (.returned (.bool true)):=⟨true,rfl,by simp[h]⟩
theorem lu(h:¬u):dw u (.returned (.bool false)):=⟨false,rfl,by simp[h]⟩
theorem mO{q:Prop} [Decidable q](h:q↔u):dw u (.returned (.bool (decide q))):=⟨_,rfl,by simp[h]⟩
def bY(l:List Rg):List Value:=l.flatMap λr=>[.int .u64 r.lo,.int .u64 r.hi]
def ba(w:World)(a:Option Addr)(n cap:Nat)(l:List Rg):Prop:=
 (∀r∈l,r.ok)/\n=l.length/\n<=cap/\cap<=maxLen/\(cap=0\/∃b o,a=some ⟨b,o,none⟩/\w.rangeAt b o (bY l))
theorem pK(l:List Rg):(bY l).length=l.length*2:=by
 induction l with
 |nil=>rfl
 |cons r l a=>simp only[bY,pC,bG,dJ,fH]at *;omega
theorem yU(l:List Rg)(i:Nat)(h:i<l.length):(bY l)[i*2]?=some (.int .u64 (au l i).lo)/\(bY l)[i*2+1]?=some (.int .u64 (au l i).hi):=by
 induction l generalizing i with
 |nil=>simp at h
 |cons r l a=>
  cases i with
  |zero=>simp[bY,au]
  |succ i=>
   have:=a i (by simpa using h);have e1:(i+1)*2=i*2+1+1:=by omega
   have e2:(i+1)*2+1=i*2+1+1+1:=by omega
   rw[e2,e1];simp only[bY,pC,nu,jQ,List.getElem?_cons_succ,au,List.getD_cons_succ]at this⊢;exact this
theorem nB(h:∀r∈Y,r.ok)(i:Nat):(au Y i).ok:=by
 unfold au;by_cases hi:i<Y.length;rw[List.getD,eF hi];exact h _ (nt hi);rw[List.getD,r8 (by omega)];exact⟨by simp[aR],by simp[aR]⟩
theorem ba.ah(h:ba w a n k Y)(g:w.grownBy W none):ba W a n k Y:=by
 obtain⟨d,e,f,i,c⟩:=h;refine⟨d,e,f,i,?_⟩
 obtain c|⟨b,o,rfl,c⟩:=c
 exact .inl c;exact .inr ⟨b,o,rfl,iK c g (by simp)⟩
theorem ba.cell(h:ba w (some ⟨b,o,none⟩) n k Y)(i:Nat)(hi:i<Y.length):w.cell? ⟨b,o+i*2,none⟩=some (.int .u64 (au Y i).lo)/\w.cell? ⟨b,o+i*2+1,none⟩=some (.int .u64 (au Y i).hi):=by
 obtain⟨-,a,d,-,h|⟨f,g,e,c⟩⟩:=h;omega;cases e;have:=yU Y i hi;refine⟨c _ _ this.1,?_⟩
 have a:=c _ _ this.2;rwa[<-oq]at a
theorem Ee(h:∀i,i<j->mj Y i)(a:mj Y j):∀i,i<j+1->mj Y i:=λi hi=>by
 obtain b|rfl:=pq.1 hi
 exact h i b;exact a
theorem Ef(a:Option Addr)(n cap:Nat)(l:List Rg)(w:World)(h:ba w a n cap l):
 Calls prog 234 #[.slice a n cap] w λe u=>dw (iL l) e/\w.grownBy u none:=by
 have v:n=l.length:=h.2.1;subst v;have C:=h.2.2.1;have x:=h.2.2.2.1;unfold maxLen at x;go_enter func234,ntmps234;go_wp2_with fail;go_loopw [7] (λi wr=>∃j:Nat,j<=l.length/\i=.int .i64 (j:Int)/\(∀i,i<j->mj l i)/\w.grownBy wr none) (λi _=>l.length-(intOf i).toNat);case atStart=>exact⟨0,by omega,rfl,λi hi=>by omega,av _ _⟩
 case round=>
  obtain⟨j,D,rfl,m,d⟩:=hrel;by_cases p:j<l.length
  ·have q:=h.ah d;obtain⟨-,-,-,-,h0|⟨b,o,rfl,-⟩⟩:=id q;omega;obtain⟨c1,c2⟩:=q.cell j p;have r:=nB h.1 j;obtain⟨⟨y,z⟩,k3,k4⟩:=r;obtain⟨lo,f⟩:=exq ((au l j).lo);obtain⟨hi,c⟩:=exq ((au l j).hi);rw[<-f]at c1 y z;rw[<-c]at c2 k3 k4;replace f:=J f;replace c:=J c;replace m:=J m;have E:Hid (0<l.length):=J (by omega);by_cases F:hi<lo
   ·go_wp2_with fail;go_ret;exact⟨lu (λg=>by have:=(g.2 j p).1;rw[<-Z f,<-Z c]at this;omega),aS d _⟩
   by_cases G:4611686018427387903<hi
   ·go_wp2_with fail;go_ret;exact⟨lu (λg=>by have:=(g.2 j p).2.1;rw[<-Z c]at this;omega),aS d _⟩
   obtain _|i:=j
   ·rw[mK,lO]at c1 c2;have H:decide ((0:Int)<0)=false:=by simp
    go_wp2_with fail;go_quiet (fail);go_wp2_with fail;go_roundw;case rel=>exact⟨1,by omega,by simp,λi hi=>by
     obtain rfl:i=0:=by omega
     exact⟨by rw[<-Z f,<-Z c];omega,by rw[<-Z c];omega,λh=>by omega⟩,dh (aS d _) _⟩
    case measure=>simp[intOf];omega
   obtain⟨c3,-⟩:=(q.ah (aC wr (.cells #[.int .u64 lo,.int .u64 hi] 200) none)).cell i (by omega);have r:=nB h.1 i;obtain⟨⟨k5,A⟩,-⟩:=r;obtain⟨s,k⟩:=exq ((au l i).lo);rw[<-k]at c3 k5 A;replace k:=J k;have I:IntKind.i64.wrap (i:Int)=(i:Int):=by simp[IntKind.wrap,IntKind.bits,IntKind.signed];omega
   have K:IntKind.u64.wrap (hi+1)=hi+1:=by rw[eH];omega
   have L:(0:Int)<=(i:Int):=by omega
   have M:(i:Int)<(l.length:Int):=by omega
   by_cases t:s<=hi+1
   ·have B:decide (s<=hi+1)=true:=by simp[t]
    go_wp2_with fail;go_quiet (fail);go_wp2_with fail;go_ret;exact⟨lu (λg=>by have:=(g.2 (i+1) p).2.2 (by omega);rw[qL,<-Z c,<-Z k]at this;omega),dh (aS d _) _⟩
   have B:decide (s<=hi+1)=false:=by simp[t]
   go_wp2_with fail;go_quiet (fail);go_wp2_with fail;go_roundw;case rel=>
    refine⟨i+1+1,by omega,by simp,Ee (Z m) ⟨by rw[<-Z f,<-Z c];omega,by rw[<-Z c];omega,λ_=>?_⟩,dh (aS d _) _⟩
    rw[qL,<-Z c,<-Z k];omega
   case measure=>simp[intOf];omega
  obtain rfl:j=l.length:=by omega
  go_wp2_with fail;go_ret;refine⟨mO ⟨λhp=>⟨by omega,m⟩,λhp=>by have:=hp.1;omega⟩,d⟩
theorem uh(n f:Nat)(lb:Array Value)(w:World)(p:Nat->Prop)(K:n<=4611686018427387903)(l:∀i j,i<=j->j<n->p i->p j)
 (L:∀args w,(callFunc f args).run prog w=.ok (.enter f args) w)
 (r:∀(W:World)(h:Nat),w.grownBy W none->h<n->Calls prog f (#[.int .i64 (h:Int)]++lb) W (λe B=>dw (p h) e/\W.grownBy B none)):
 Calls prog 248 #[.int .i64 (n:Int),.func (.func f) #[] lb] w λe a=>(∃k:Nat,e=.returned (.int .i64 (k:Int))/\lr n k p)/\w.grownBy a none:=by
 obtain⟨R,s⟩:∃R:Ending->Prop,R=λe=>∃k:Nat,e=.returned (.int .i64 (k:Int))/\lr n k p:=⟨_,rfl⟩
 have t:∀k:Nat,lr n k p->R (.returned (.int .i64 (k:Int))):=λk h=>by rw[s];exact⟨k,rfl,h⟩
 have y:(λe a=>(∃k:Nat,e=.returned (.int .i64 (k:Int))/\lr n k p)/\w.grownBy a none)=λe a=>R e/\w.grownBy a none:=by rw[s]
 rw[y];clear y s;replace t:=J t;replace r:=J r;replace l:=J l;go_enter func248,ntmps248;go_wp2_with fail;go_loopw [5,6] (λu v wr=>∃i j:Nat,i<=j/\j<=n/\u=.int .i64 (i:Int)/\v=.int .i64 (j:Int)/\(∀m,m<i->¬p m)/\(∀m,j<=m->m<n->p m)/\w.grownBy wr none) (λu v _=>(intOf v-intOf u).toNat);case atStart=>exact⟨0,n,by omega,aI _,rfl,rfl,λm C=>by omega,λm c d=>by omega,av _ _⟩
 case round=>
  obtain⟨i,j,M,D,rfl,rfl,c,d,g⟩:=hrel;replace c:=J c;replace d:=J d;by_cases N:i<j
  ·have d1:decide ((i:Int)<(j:Int))=true:=bp (by omega);obtain⟨h,E⟩:∃h:Nat,h=(i+j)/2:=⟨_,rfl⟩
   have O:((i:Int)+(j:Int))/2=(h:Int):=by omega
   have F:i<=h:=by omega
   have P:h<j:=by omega
   clear E;go_wp2_with fail;refine(Z r wr h g (by omega)).mono ?_;rintro e Q⟨⟨b,rfl,q⟩,G⟩;have z:=aj g G;cases b
   ·have H:Hid (¬p h):=J (λhp=>by cases q.2 hp);clear q;go_wp2_with fail;go_roundw;case rel=>
     refine⟨h+1,j,by omega,D,by simp,rfl,λm C hp=>?_,Z d,z⟩
     exact Z H (Z l m h (by omega) (by omega) hp)
    case measure=>simp[intOf];omega
   have I:Hid (p h):=J (q.1 rfl);clear q;go_wp2_with fail;go_roundw;case rel=>
    refine⟨i,h,F,by omega,rfl,rfl,Z c,λm A x=>?_,z⟩
    exact Z l h m A x (Z I)
   case measure=>simp[intOf];omega
  have d1:decide ((i:Int)<(j:Int))=false:=bB (by omega);go_wp2_with fail;go_ret;exact⟨Z t i ⟨by omega,Z c,λm A x=>Z d m (by omega) x⟩,g⟩
def oE(W:World)(bs b:Nat)(a:Option Addr)(n cap:Nat)(l:List Rg)(x:Rg):Prop:=
 W.cell? ⟨bs,0,none⟩=some (.slice a n cap)/\W.cell? ⟨b,0,none⟩=some (.int .u64 x.lo)/\W.cell? ⟨b,1,none⟩=some (.int .u64 x.hi)/\ba W a n cap l/\x.ok
theorem oE.ah(h:oE W k i a n j Y U)(g:W.grownBy w none):oE w k i a n j Y U:=
 ⟨g.cell h.1 (by simp),g.cell h.2.1 (by simp),g.cell h.2.2.1 (by simp),h.2.2.2.1.ah g,h.2.2.2.2⟩
theorem Eg(W:World)(bs g i n cap:Nat)(a:Option Addr)(l:List Rg)(x:Rg)(h:oE W bs g a n cap l x)(hi:i<n):
 Calls prog 249 #[.int .i64 (i:Int),.pointer (some ⟨bs,0,none⟩),.pointer (some ⟨g,0,none⟩)] W λe k=>dw (x.lo<=(au l i).hi) e/\W.grownBy k none:=by
 obtain⟨s,m,p,c,t⟩:=h;have j:n=l.length:=c.2.1;have u:=c.2.2.1;have r:=c.2.2.2.1;unfold maxLen at r;obtain⟨-,-,-,-,h0|⟨b,o,rfl,-⟩⟩:=id c;omega;obtain⟨c1,c2⟩:=c.cell i (by omega);replace j:=J j;obtain⟨q,d⟩:=exq ((au l i).hi);rw[<-d]at c2⊢;replace d:=J d;obtain⟨y,f⟩:=exq x.lo;rw[<-f]at m⊢;replace f:=J f;have v:(i:Int)<(n:Int):=by omega
 clear c1 p;go_enter func249,ntmps249;go_wp2_with fail;go_quiet (fail);go_wp2_with fail;go_ret;exact⟨mO (by simp),dh (av _ _) _⟩
theorem Eh(W:World)(bs g i n cap:Nat)(a:Option Addr)(l:List Rg)(x:Rg)(h:oE W bs g a n cap l x)(hi:i<n):
 Calls prog 250 #[.int .i64 (i:Int),.pointer (some ⟨bs,0,none⟩),.pointer (some ⟨g,0,none⟩)] W λe k=>dw (x.hi<(au l i).lo) e/\W.grownBy k none:=by
 obtain⟨s,m,p,c,t⟩:=h;have j:n=l.length:=c.2.1;have u:=c.2.2.1;have r:=c.2.2.2.1;unfold maxLen at r;obtain⟨-,-,-,-,h0|⟨b,o,rfl,-⟩⟩:=id c;omega;obtain⟨c1,c2⟩:=c.cell i (by omega);replace j:=J j;obtain⟨q,d⟩:=exq ((au l i).lo);rw[<-d]at c1⊢;replace d:=J d;obtain⟨y,f⟩:=exq x.hi;rw[<-f]at p⊢;replace f:=J f;have v:(i:Int)<(n:Int):=by omega
 clear c2 m;go_enter func250,ntmps250;go_wp2_with fail;go_quiet (fail);go_wp2_with fail;go_ret;exact⟨mO (by simp),dh (av _ _) _⟩
theorem Ei(W:World)(bs g i n cap:Nat)(a:Option Addr)(l:List Rg)(x:Rg)(h:oE W bs g a n cap l x)(hi:i<n):
 Calls prog 297 #[.int .i64 (i:Int),.pointer (some ⟨bs,0,none⟩),.pointer (some ⟨g,0,none⟩)] W λe k=>dw (x.lo<(au l i).hi) e/\W.grownBy k none:=by
 obtain⟨s,m,p,c,t⟩:=h;have j:n=l.length:=c.2.1;have u:=c.2.2.1;have r:=c.2.2.2.1;unfold maxLen at r;obtain⟨-,-,-,-,h0|⟨b,o,rfl,-⟩⟩:=id c;omega;obtain⟨c1,c2⟩:=c.cell i (by omega);replace j:=J j;obtain⟨q,d⟩:=exq ((au l i).hi);rw[<-d]at c2⊢;replace d:=J d;obtain⟨y,f⟩:=exq x.lo;rw[<-f]at m⊢;replace f:=J f;have v:(i:Int)<(n:Int):=by omega
 clear c1 p;go_enter func297,ntmps297;go_wp2_with fail;go_quiet (fail);go_wp2_with fail;go_ret;exact⟨mO (by simp),dh (av _ _) _⟩
theorem Ej(W:World)(bs g i n cap:Nat)(a:Option Addr)(l:List Rg)(x:Rg)(h:oE W bs g a n cap l x)(hi:i<n):
 Calls prog 298 #[.int .i64 (i:Int),.pointer (some ⟨bs,0,none⟩),.pointer (some ⟨g,0,none⟩)] W λe k=>dw (x.hi<=(au l i).lo) e/\W.grownBy k none:=by
 obtain⟨s,m,p,c,t⟩:=h;have j:n=l.length:=c.2.1;have u:=c.2.2.1;have r:=c.2.2.2.1;unfold maxLen at r;obtain⟨-,-,-,-,h0|⟨b,o,rfl,-⟩⟩:=id c;omega;obtain⟨c1,c2⟩:=c.cell i (by omega);replace j:=J j;obtain⟨q,d⟩:=exq ((au l i).lo);rw[<-d]at c1⊢;replace d:=J d;obtain⟨y,f⟩:=exq x.hi;rw[<-f]at p⊢;replace f:=J f;have v:(i:Int)<(n:Int):=by omega
 clear c2 m;go_enter func298,ntmps298;go_wp2_with fail;go_quiet (fail);go_wp2_with fail;go_ret;exact⟨mO (by simp),dh (av _ _) _⟩
theorem yV{P:Program}(w:World)(t ty e:TypeId)(i:TypeInfo)(z:Value)(size bytes:Nat)(p:P.underlying t=some (.slice e))(hi:P.info? e=some i)(q:i.zero=some z)
 (r:i.size=size) (s:i.bytes=bytes) (x:z.cells.size=size) (D:0<size) (v:Value) (n:Nat) (xs:List Value) (f:xs.length=n*size)
 (E:(v=.slice none 0 0/\n=0)\/∃y,v=.slice (some y) n n/\∀j u,xs[j]?=some u->w.cell? (y.add j)=some u)
 (a:Addr) (m c:Nat) (b:List Value) (O:0<m) (hl:b.length=m*size) (A:∀j u,b[j]?=some u->w.cell? (a.add j)=some u) (F:∀u∈b,u.oneCell'=true)
 (h:n+m<=maxLen) (B:(n+m)*bytes<=140737488355328):
 ∃g d,(Builtin.append_ #[t,t] ty #[v,.slice (some a) m c]).run P w=.ok g d/\d.ownsRow w.heap.size e size g (n+m) (xs++b)/\w.grownBy d none:=by
 obtain⟨rfl,rfl⟩|⟨y,rfl,G⟩:=E
 have H:xs=[]:=fR (by simpa using f);subst H;obtain⟨g,d,l,I,K,-,-⟩:=run_append_own_at (P:=P) w w.heap.size t ty e i z size bytes p hi q r s x D (.slice none 0 0) 0 [] (mI _ _ _ _) a m c b hl A F h B (aI _);exact⟨g,d,l,I,K⟩
 subst r;subst s;have Q:n+m<=9223372036854775807:=by simp only[maxLen]at h;omega
 have l:=run_append_grow (P:=P) w t ty e i z p hi q y n n xs f G a m c b hl A (by omega) (by omega) (growslice_fits (by omega) B);have C:(xs++b).length=(n+m)*i.size:=by rw[bG,f,hl,Nat.add_mul]
 have L:=grownCap_ge w (n+m) n e;have M:grownCap w (n+m) n e<=maxLen:=grownCap_le_maxLen w (n+m) n e h;refine⟨_,_,l,⟨C,.inr ⟨w.heap.size,_,_,rfl,aI _,aH w.drew _,L,M,?_,?_⟩⟩,⟨rfl,rfl,rfl,by simp,λk N _=>eI w.drew _ k N⟩⟩
 simp only[Array.size_append,sa,size_zeroCells,x,f,hl,<-Nat.add_mul]
 congr 1;omega;simp only[Array.toList_append,eA]
 rw[<-eA,<-C];exact List.take_left
def cS(w:World)(a:Nat)(v:Value)(l:List Rg):Prop:=(∀r∈l,r.ok)/\w.ownsRow a 341 2 v l.length (bY l)
theorem cS.gb(h:cS w n x Y)(g:w.grownBy W N)(a:x.ownBlock=none\/x.ownBlock≠N):cS W n x Y:=⟨h.1,h.2.kept g a⟩
theorem cS.ah(h:cS w n x Y)(g:w.grownBy W none):cS W n x Y:=h.gb g (by cases x.ownBlock<;>simp)
theorem cS.km(h:cS w k (.slice a n i) Y):ba w a n i Y/\∀x,a=some x->k<=x.block:=by
 obtain⟨d,l,m⟩:=h;obtain⟨e,p⟩|⟨g,cap,cur,e,aa,q,r,hm,hs,s⟩:=m
 cases e;exact⟨⟨d,p.symm,by simp,by simp[maxLen],.inl rfl⟩,λx b=>by cases b⟩
 cases e;refine⟨⟨d,rfl,r,hm,.inr ⟨g,0,rfl,λj v c=>?_⟩⟩,λx b=>by cases b;exact aa⟩
 have f:j<(bY Y).length:=(iX.1 c).1;rw[<-s,jO,aM (by rw[l]at f;exact f)]at c;simp only[World.cell?,q,dv]
 simpa using c
theorem sw:(prog.info? 341).map (λi=>(i.zero,i.size,i.bytes))=some (some (.agg #[.int .u64 0,.int .u64 0]),2,16):=by kernel_rfl
theorem sx(l m:List Rg):bY (l++m)=bY l++bY m:=by simp[bY]
theorem ui(l:List Rg):∀u∈bY l,u.oneCell'=true:=by
 intro u a;simp only[bY,og,eJ,ns,lQ]at a;obtain⟨y,-,rfl|rfl⟩:=a<;>rfl
theorem ba.front(h:ba w a n k Y)(i:Nat)(hi:i<=n):ba w a i i (Y.take i):=by
 obtain⟨f,l,m,p,c⟩:=h;refine⟨λr g=>f r (iY g),by rw[cC];omega,aI _,by omega,?_⟩
 obtain c|⟨b,o,rfl,c⟩:=c
 exact .inl (by omega);refine .inr ⟨b,o,rfl,λj v d=>c j v ?_⟩;have e:bY Y=bY (Y.take i)++bY (Y.drop i):=by rw[<-sx,nZ]
 rw[e,nk (iX.1 d).1];exact d
theorem Ek(ty:TypeId)(a:Option Addr)(n:Nat)(l:List Rg)(hs:ba w a n n l)(b o c:Nat)(r:Rg)(v:r.ok)(h0:w.cell? ⟨b,o,none⟩=some (.int .u64 r.lo))(x:w.cell? ⟨b,o+1,none⟩=some (.int .u64 r.hi))(G:n<=100000000):
 ∃k m p e,(Builtin.append_ #[227,227] ty #[.slice a n n,.slice (some ⟨b,o,none⟩) 1 c]).run prog w=.ok (.slice k m p) e/\cS e w.heap.size (.slice k m p) (l++[r])/\w.grownBy e none:=by
 obtain⟨z,hi,A,B,C⟩:=kj sw;have q:n=l.length:=hs.2.1;obtain⟨D,e,s,E,t⟩:=yV (P:=prog) w 227 ty 341 z (.agg #[.int .u64 0,.int .u64 0]) 2 16 underlying227 hi A B C rfl (by decide) (.slice a n n) n (bY l) (by rw[pK,q]) (by
  obtain⟨-,-,-,-,f|⟨H,I,rfl,f⟩⟩:=hs;cases a with
  |none=>exact .inl ⟨by rw[f],f⟩
  |some y=>
   refine .inr ⟨y,rfl,λj u d=>?_⟩;have:l=[]:=fR (by omega);subst this;simp[bY]at d
  exact .inr ⟨_,rfl,λj u d=>by rw[Addr.add_mid];exact f j u d⟩) ⟨b,o,none⟩ 1 c (bY [r]) (by decide) rfl (by
  intro j u d;rw[Addr.add_mid];match j,d with
  |0,d=>simp[bY]at d;rw[<-d];exact h0
  |1,d=>simp[bY]at d;rw[<-d];exact x) (ui _) (by simp[maxLen];omega) (by omega)
 have i:cS e w.heap.size D (l++[r]):=⟨λy F=>(ck.1 F).elim (hs.1 y) (λh=>by rw[dB.1 h];exact v),by rw[bG,sx,<-q];exact E⟩
 obtain⟨-,-,⟨rfl,e2⟩|⟨g,cap,K,rfl,_⟩⟩:=id i;exact⟨_,_,_,e,s,i,t⟩
 exact⟨_,_,_,e,s,i,t⟩
theorem yW(ty:TypeId)(f:Nat)(v:Value)(l:List Rg)(h:cS w f v l)(i:Option Addr)(nx k:Nat)(m:List Rg)(C:ba w i nx k m)(M:l.length+m.length<=100000000)(D:f<=w.heap.size):
 ∃c d e a,(Builtin.append_ #[227,227] ty #[v,.slice i nx k]).run prog w=.ok (.slice c d e) a/\cS a f (.slice c d e) (l++m)/\w.grownBy a v.ownBlock/\((Value.slice c d e).ownBlock=v.ownBlock\/(Value.slice c d e).ownBlock=some w.heap.size):=by
 obtain⟨t,hi,E,F,G⟩:=kj sw;obtain⟨m1,n,N,O,p⟩:=C;have key:∀y:Addr,i=some y->(∀j u,(bY m)[j]?=some u->w.cell? (y.add j)=some u)->∃c d e a,(Builtin.append_ #[227,227] ty #[v,.slice i nx k]).run prog w=.ok (.slice c d e) a/\cS a f (.slice c d e) (l++m)/\w.grownBy a v.ownBlock/\((Value.slice c d e).ownBlock=v.ownBlock\/(Value.slice c d e).ownBlock=some w.heap.size):=λy q H=>by
  subst q;obtain⟨I,a,x,K,z,_,A⟩:=run_append_own_at (P:=prog) w f 227 ty 341 t (.agg #[.int .u64 0,.int .u64 0]) 2 16 underlying227 hi E F G rfl (by decide) v l.length (bY l) h.2 y nx k (bY m) (by rw[pK,n]) H (ui _) (by simp[maxLen];omega) (by omega) D;have r:cS a f I (l++m):=⟨λy q=>(ck.1 q).elim (h.1 y) (m1 y),by rw[bG,sx,<-n];exact K⟩
  obtain⟨-,-,⟨rfl,e2⟩|⟨g,cap,L,rfl,_⟩⟩:=id r;exact⟨_,_,_,a,x,r,z,A⟩
  exact⟨_,_,_,a,x,r,z,A⟩
 obtain rfl|⟨b,o,rfl,p⟩:=p
 have:m=[]:=fR (by omega);subst this;obtain rfl:nx=0:=by simpa using n
 cases i with
 |some y=>exact key y rfl (λj u s=>by simp[bY]at s)
 |none=>
  have B:=run_append_owned_none (P:=prog) (w:=w) f 227 ty 341 t 2 underlying227 hi v _ _ h.2;rw[nw];obtain⟨-,-,⟨rfl,e2⟩|⟨g,cap,L,rfl,_⟩⟩:=id h;exact⟨_,_,_,w,B,h,av _ _,.inl rfl⟩
  exact⟨_,_,_,w,B,h,av _ _,.inl rfl⟩
 exact key _ rfl (λj u s=>by rw[Addr.add_mid];exact p j u s)
theorem Em(w:World)(ty:TypeId)(a:Option Addr)(n:Nat)(b:Option Addr)(c:Nat):(Builtin.append_ #[227,227] ty #[.slice a n n,.slice b 0 c]).run prog w=.ok (.slice a n n) w:=by
 obtain⟨d,hi,e,f,g⟩:=kj sw;cases a<;>cases b<;>simp[Builtin.append_,tM underlying227,sizeOf,typeInfo,hi,Builtin.lenOf,Builtin.firstCells,loadCells,loadCellsFrom,storeCells]
theorem yX{K:Act->World->Prop}(s x:Operand)
 (ho:I.op=.call {callee:=.builtin .append,args:= #[s,x],argTypes:= #[227,227]})
 (j:Option Addr) (n:Nat) (l:List Rg) (hs:f.eval s=.slice j n n) (hl:ba w j n n l) (b d c:Nat) (r:Rg) (k:r.ok) (m:f.eval x=.slice (some ⟨b,d,none⟩) 1 c) (h0:w.cell? ⟨b,d,none⟩=some (.int .u64 r.lo)) (p:w.cell? ⟨b,d+1,none⟩=some (.int .u64 r.hi)) (q:n<=100000000)
 (h:∀e g i a,cS a w.heap.size (.slice e g i) (l++[r])->w.grownBy a none->K (f.put I.dst (.slice e g i)) a):Oper.wp prog I f w K G:=by
 obtain⟨e,g,i,a,t,u,v⟩:=Ek (w:=w) I.type j n l hl b d c r k h0 p q;unfold Oper.wp execOp;simp only[ho,resolve,invoke,builtin,ie,kN,ic,lN,ki,kO,hs,m,t]
 exact h e g i a u v
theorem En{K:Act->World->Prop}(k:I.guard=none)(s x:Operand)
 (ho:I.op=.call {callee:=.builtin .append,args:= #[s,x],argTypes:= #[227,227]})
 (d:Option Addr) (n:Nat) (l:List Rg) (hs:f.eval s=.slice d n n) (hl:ba w d n n l) (b a c:Nat) (r:Rg) (m:r.ok) (p:f.eval x=.slice (some ⟨b,a,none⟩) 1 c) (h0:w.cell? ⟨b,a,none⟩=some (.int .u64 r.lo)) (q:w.cell? ⟨b,a+1,none⟩=some (.int .u64 r.hi)) (t:n<=100000000)
 (h:∀g i j e,cS e w.heap.size (.slice g i j) (l++[r])->w.grownBy e none->K (f.put I.dst (.slice g i j)) e):if Region.wanted I (yielded F f.tmps)=true then Oper.wp prog I f w K G else u:=by
 have v:Region.wanted I (yielded F f.tmps)=true:=by simp[Region.wanted,k]
 rw[aM v];exact yX s x ho d n l hs hl b a c r m p h0 q t h
theorem yY{K:Act->World->Prop}(s x:Operand)
 (ho:I.op=.call {callee:=.builtin .append,args:= #[s,x],argTypes:= #[227,227]})
 (b:Nat) (v:Value) (l:List Rg) (hs:f.eval s=v) (j:cS w b v l) (g:Option Addr) (nx i:Nat) (m:List Rg) (k:f.eval x=.slice g nx i) (n:ba w g nx i m) (p:l.length+m.length<=100000000) (q:b<=w.heap.size)
 (h:∀c d e a,cS a b (.slice c d e) (l++m)->w.grownBy a v.ownBlock->K (f.put I.dst (.slice c d e)) a):Oper.wp prog I f w K G:=by
 obtain⟨c,d,e,a,r,t,u,-⟩:=yW (w:=w) I.type b v l j g nx i m n p q;unfold Oper.wp execOp;simp only[ho,resolve,invoke,builtin,ie,kN,ic,lN,ki,kO,hs,k,r]
 exact h c d e a t u
theorem Eo{K:Act->World->Prop}(j:I.guard=none)(s x:Operand)
 (ho:I.op=.call {callee:=.builtin .append,args:= #[s,x],argTypes:= #[227,227]})
 (a:Nat) (v:Value) (l:List Rg) (hs:f.eval s=v) (k:cS w a v l) (b:Option Addr) (nx c:Nat) (m:List Rg) (n:f.eval x=.slice b nx c) (p:ba w b nx c m) (q:l.length+m.length<=100000000) (r:a<=w.heap.size)
 (h:∀e g i d,cS d a (.slice e g i) (l++m)->w.grownBy d v.ownBlock->K (f.put I.dst (.slice e g i)) d):if Region.wanted I (yielded F f.tmps)=true then Oper.wp prog I f w K G else u:=by
 have t:Region.wanted I (yielded F f.tmps)=true:=by simp[Region.wanted,j]
 rw[aM t];exact yY s x ho a v l hs k b nx c m n p q r h
theorem Ep{rest:List Oper}(m:I.guard=none)(s x:Operand)
 (ho:I.op=.call {callee:=.builtin .append,args:= #[s,x],argTypes:= #[227,227]})
 (j:Option Addr) (n:Nat) (l:List Rg) (hs:f.eval s=.slice j n n) (hl:ba w j n n l) (b d c:Nat) (r:Rg) (p:r.ok) (q:f.eval x=.slice (some ⟨b,d,none⟩) 1 c) (h0:w.cell? ⟨b,d,none⟩=some (.int .u64 r.lo)) (k:w.cell? ⟨b,d+1,none⟩=some (.int .u64 r.hi)) (t:n<=100000000)
 (h:∀e g i a,cS a w.heap.size (.slice e g i) (l++[r])->w.grownBy a none->wpList prog F G rest (f.put I.dst (.slice e g i)) a):wpList prog F G (I::rest) f w:=
 qk m λ_ u=>yX s x ho j n l hs hl b d c r p q h0 k t λe g i a k v=>u _ _ (h e g i a k v)
theorem Er{rest:List Oper}(j:I.guard=none)(s x:Operand)
 (ho:I.op=.call {callee:=.builtin .append,args:= #[s,x],argTypes:= #[227,227]})
 (b:Nat) (v:Value) (l:List Rg) (hs:f.eval s=v) (k:cS w b v l) (g:Option Addr) (nx i:Nat) (m:List Rg) (n:f.eval x=.slice g nx i) (p:ba w g nx i m) (q:l.length+m.length<=100000000) (r:b<=w.heap.size)
 (h:∀c d e a,cS a b (.slice c d e) (l++m)->w.grownBy a v.ownBlock->wpList prog F G rest (f.put I.dst (.slice c d e)) a):wpList prog F G (I::rest) f w:=
 qk j λ_ t=>yY s x ho b v l hs k g nx i m n p q r λc d e a u y=>t _ _ (h c d e a u y)
def Kept(w:World)(b:Nat)(a:Option Addr)(v:Value)(l:List Rg):Prop:=(∃n,v=.slice a n n/\ba w a n n l)\/cS w b v l
theorem Es(ty:TypeId)(s:Nat)(a:Option Addr)(v:Value)(l:List Rg)(L:Kept w s a v l)(p:Option Addr)(nx q:Nat)(m:List Rg)(E:ba w p nx q m)(M:l.length+m.length<=100000000)(F:s<=w.heap.size):
 ∃c d f i,(Builtin.append_ #[227,227] ty #[v,.slice p nx q]).run prog w=.ok (.slice c d f) i/\ba i c d f (l++m)/\(c=a\/∀y,c=some y->s<=y.block)/\∃r,w.grownBy i r/\∀k,r=some k->s<=k:=by
 obtain⟨n,rfl,hl⟩|G:=L
 obtain⟨N,hi,O,Q,R⟩:=kj sw;obtain⟨m1,H,V,W,S⟩:=id E;have I:n=l.length:=hl.2.1;by_cases h0:nx=0;subst h0;have:m=[]:=fR (by omega);subst this;have T:(Builtin.append_ #[227,227] ty #[.slice a n n,.slice p 0 q]).run prog w=.ok (.slice a n n) w:=Em w ty a n p q;exact⟨a,n,n,w,T,by rw[nw];exact hl,.inl rfl,none,av _ _,λk e=>by cases e⟩
 obtain⟨b,o,rfl,U⟩:∃b o,p=some ⟨b,o,none⟩/\w.rangeAt b o (bY m):=by
  obtain h|h:=S
  omega;exact h
 obtain⟨K,i,A,x,B⟩:=yV (P:=prog) w 227 ty 341 N (.agg #[.int .u64 0,.int .u64 0]) 2 16 underlying227 hi O Q R rfl (by decide) (.slice a n n) n (bY l) (by rw[pK,I]) (by
  obtain⟨-,-,-,-,z|⟨X,Y,rfl,z⟩⟩:=hl;cases a with
  |none=>exact .inl ⟨by rw[z],z⟩
  |some y=>
   refine .inr ⟨y,rfl,λj u t=>?_⟩;have:l=[]:=fR (by omega);subst this;simp[bY]at t
  ·exact .inr ⟨_,rfl,λj u t=>by rw[Addr.add_mid];exact z j u t⟩) ⟨b,o,none⟩ nx q (bY m) (by omega) (by rw[pK,H]) (λj u t=>by rw[Addr.add_mid];exact U j u t) (ui _) (by simp[maxLen];omega) (by omega)
 have C:cS i w.heap.size K (l++m):=⟨λy D=>(ck.1 D).elim (hl.1 y) (m1 y),by rw[bG,sx,<-I,<-H];exact x⟩
 have key:∃c d f,K=.slice c d f:=by
  obtain⟨-,-,⟨rfl,e2⟩|⟨g,cap,al,rfl,_⟩⟩:=id C;exact⟨_,_,_,rfl⟩
  exact⟨_,_,_,rfl⟩
 obtain⟨c,d,f,rfl⟩:=key;exact⟨c,d,f,i,A,C.km.1,.inr (λy D=>bC F (C.km.2 y D)),none,B,λk e=>by cases e⟩
 obtain⟨c,d,f,i,A,x,B,-⟩:=yW (w:=w) ty s v l G p nx q m E M F;exact⟨c,d,f,i,A,x.km.1,.inr x.km.2,_,B,λk e=>(G.2.lt k e).1⟩
theorem ba.back(h:ba w a n i Y)(j:Nat)(m:j<=n)(d:i-j=0\/∃b o,a=some ⟨b,o,none⟩/\O=some ⟨b,o+j*2,none⟩):ba w O (n-j) (i-j) (Y.drop j):=by
 obtain⟨f,p,q,s,c⟩:=h;refine⟨λr g=>f r (iZ g),by rw[dO];omega,by omega,by omega,?_⟩
 obtain d|⟨t,u,rfl,rfl⟩:=d
 exact .inl d;obtain c|⟨b,o,e,c⟩:=c
 exact .inl (by omega);cases e;refine .inr ⟨_,_,rfl,λk v l=>?_⟩;have e:bY Y=bY (Y.take j)++bY (Y.drop j):=by rw[<-sx,nZ]
 have hl:(bY (Y.take j)).length=j*2:=by rw[pK,cC];congr 1;omega
 rw[oq];refine c (j*2+k) v ?_;rw[e,kZ (by omega),hl,rZ];exact l
def mP:List Rg->Rg->List Rg
 |[],x=>[x]
 |r::l,x=>if r.hi<x.lo then r::mP l x else if x.hi<r.lo then x::r::l else mP l ⟨min r.lo x.lo,max r.hi x.hi⟩
def dT(l:List Rg)(x:Rg):List Rg:=if x.lo<x.hi then mP l x else l
theorem zp(l:List Rg)(x:Rg)(h:aZ l)(c:x.lo<x.hi)(n:Int):Sm (mP l x) n↔Sm l n\/(x.lo<=n/\n<x.hi):=by
 induction l generalizing x with
 |nil=>simp only[mP,fD];exact or_comm
 |cons r l b=>
  have e:=h.2 r (by simp);unfold mP;split;rw[fD,b x h.tail c,fD,or_assoc];split;rw[fD];exact or_comm;rw[b _ h.tail (by simp only;omega),fD];simp only
  constructor;rintro(a|a);exact .inl (.inr a);by_cases d:r.lo<=n/\n<r.hi;exact .inl (.inl d);exact .inr (by omega);rintro((a|a)|a);exact .inr (by omega);exact .inl a;exact .inr (by omega)
theorem EJ(l:List Rg)(x:Rg)(h:aZ l)(d:x.lo<x.hi):aZ (mP l x):=by
 induction l generalizing x with
 |nil=>exact aZ.one d
 |cons r l f=>
  have i:=h.2 r (by simp);unfold mP;split;have e:=f x h.tail d;refine⟨qM.2 ⟨λb c=>?_,e.1⟩,λy a=>?_⟩
  have:=(zp l x h.tail d b.lo).1 ⟨b,c,fI _,e.2 b c⟩;obtain g|g:=this
  exact h.behind g;omega;obtain rfl|a:=eJ.1 a
  exact i;exact e.2 y a;split;refine⟨qM.2 ⟨λb c=>?_,h.1⟩,λy a=>?_⟩
  obtain rfl|c:=eJ.1 c
  assumption;have:=(qM.1 h.1).1 b c;omega;obtain rfl|a:=eJ.1 a
  exact d;exact h.2 y a;exact f _ h.tail (by simp only;omega)
theorem oG(x:Rg)(h:aZ Y):aZ (dT Y x):=by
 unfold dT;split;exact EJ Y x h (by assumption);exact h
theorem lT(x:Rg)(h:aZ Y)(n:Int):Sm (dT Y x) n↔Sm Y n\/(x.lo<=n/\n<x.hi):=by
 unfold dT;split;exact zp Y x h (by assumption) n;exact⟨.inl,λh=>h.elim id (λh=>by omega)⟩
theorem ur{a:List Rg}(h:aZ Y)(b:aZ a)(e:∀n,Sm a n↔Sm Y n\/(U.lo<=n/\n<U.hi)):a=dT Y U:=
 b.unique (oG U h) (λn=>(e n).trans (lT U h n).symm)
theorem EK(l:List Rg)(x:Rg):(mP l x).length<=l.length+1:=by
 induction l generalizing x with
 |nil=>simp[mP]
 |cons r l a=>
  unfold mP;split;simp only[dJ];have:=a x;omega;split;simp;have:=a ⟨min r.lo x.lo,max r.hi x.hi⟩;simp only[dJ];omega
theorem zq(l:List Rg)(x:Rg):(dT l x).length<=l.length+1:=by
 unfold dT;split;exact EK l x;omega
def ly(l:List Rg)(x:Rg):List Rg:=l.flatMap λr=>(if r.lo<min r.hi x.lo then[⟨r.lo,min r.hi x.lo⟩]else[])++(if max r.lo x.hi<r.hi then[⟨max r.lo x.hi,r.hi⟩]else[])
def kP(l:List Rg)(x:Rg):List Rg:=if x.lo<x.hi then ly l x else l
theorem zr(l:List Rg)(x:Rg)(n:Int):Sm (ly l x) n↔Sm l n/\¬(x.lo<=n/\n<x.hi):=by
 induction l with
 |nil=>exact⟨λh=>absurd h (ij n),λh=>absurd h.1 (ij n)⟩
 |cons r l a=>
  have e:ly (r::l) x=((if r.lo<min r.hi x.lo then[⟨r.lo,min r.hi x.lo⟩]else[])++(if max r.lo x.hi<r.hi then[⟨max r.lo x.hi,r.hi⟩]else[]))++ly l x:=rfl;rw[e,qS,qS,a,fD];have e1:Sm (if r.lo<min r.hi x.lo then[(⟨r.lo,min r.hi x.lo⟩:Rg)]else[]) n↔r.lo<=n/\n<r.hi/\n<x.lo:=by
   split;rw[fD];simp only[ij,lQ];omega;simp only[ij,false_iff];omega
  have e2:Sm (if max r.lo x.hi<r.hi then[(⟨max r.lo x.hi,r.hi⟩:Rg)]else[]) n↔r.lo<=n/\n<r.hi/\x.hi<=n:=by
   split;rw[fD];simp only[ij,lQ];omega;simp only[ij,false_iff];omega
  rw[e1,e2];constructor;rintro((h|h)|h);exact⟨.inl (by omega),by omega⟩
  exact⟨.inl (by omega),by omega⟩
  exact⟨.inr h.1,h.2⟩
  rintro⟨h|h,b⟩;by_cases c:n<x.lo;exact .inl (.inl (by omega));exact .inl (.inr (by omega));exact .inr ⟨h,b⟩
theorem EL(l:List Rg)(x:Rg)(h:aZ l)(k:x.lo<x.hi):aZ (ly l x):=by
 induction l with
 |nil=>exact aZ.nil
 |cons r l j=>
  have m:=h.2 r (by simp);have e:ly (r::l) x=((if r.lo<min r.hi x.lo then[⟨r.lo,min r.hi x.lo⟩]else[])++(if max r.lo x.hi<r.hi then[⟨max r.lo x.hi,r.hi⟩]else[]))++ly l x:=rfl;rw[e];have g:=j h.tail;have m1:∀y∈(if r.lo<min r.hi x.lo then[(⟨r.lo,min r.hi x.lo⟩:Rg)]else[]),y.lo<y.hi/\y.hi<=r.hi/\y.hi<=x.lo:=λy c=>by
   split at c;simp only[dB]at c;subst c;simp only;omega;cases c
  have i:∀y∈(if max r.lo x.hi<r.hi then[(⟨max r.lo x.hi,r.hi⟩:Rg)]else[]),y.lo<y.hi/\y.hi<=r.hi/\x.hi<=y.lo:=λy c=>by
   split at c;simp only[dB]at c;subst c;simp only;omega;cases c
  refine aZ.append (aZ.append ?_ ?_ (λa d b f=>?_)) g (λa d b f=>?_);split;exact aZ.one (by simp only;assumption);exact aZ.nil;split;exact aZ.one (by simp only;assumption);exact aZ.nil;have:=m1 a d;have:=i b f;omega;have n:a.hi<=r.hi:=by
   obtain d|d:=ck.1 d
   exact(m1 a d).2.1;exact(i a d).2.1
  have p:=h.behind (((zr l x b.lo).1 ⟨b,f,fI _,g.2 b f⟩).1);omega
theorem sA(x:Rg)(h:aZ Y):aZ (kP Y x):=by
 unfold kP;split;exact EL Y x h (by assumption);exact h
theorem uw(x:Rg)(n:Int):Sm (kP Y x) n↔Sm Y n/\¬(x.lo<=n/\n<x.hi):=by
 unfold kP;split;exact zr Y x n;exact⟨λh=>⟨h,by omega⟩,λh=>h.1⟩
theorem EM{a:List Rg}(h:aZ Y)(b:aZ a)(e:∀n,Sm a n↔Sm Y n/\¬(U.lo<=n/\n<U.hi)):a=kP Y U:=
 b.unique (sA U h) (λn=>(e n).trans (uw U n).symm)
def jz(ag:List Rg)(x:Rg):List Rg:=ag.foldl kP (dT [] x)
theorem EN(ag:List Rg):∀l,aZ l->aZ (ag.foldl kP l):=by
 induction ag with
 |nil=>exact λl h=>h
 |cons r c a=>exact λl h=>a _ (sA r h)
theorem EO(ag:List Rg):∀l n,Sm (ag.foldl kP l) n↔Sm l n/\¬Sm ag n:=by
 induction ag with
 |nil=>exact λl n=>⟨λh=>⟨h,ij n⟩,λh=>h.1⟩
 |cons r c a=>
  intro l n;rw[List.foldl_cons,a,uw,fD,and_assoc,<-not_or]
theorem ux(ag:List Rg)(x:Rg):aZ (jz ag x):=EN ag _ (oG x aZ.nil)
theorem qW(ag:List Rg)(x:Rg)(n:Int):Sm (jz ag x) n↔(x.lo<=n/\n<x.hi)/\¬Sm ag n:=by
 unfold jz;rw[EO,lT x aZ.nil];simp only[ij,false_or]
theorem zt{l:List Rg}(h:aZ l)(e:∀n,Sm l n↔(U.lo<=n/\n<U.hi)/\¬Sm Y n):l=jz Y U:=
 h.unique (ux Y U) (λn=>(e n).trans (qW Y U n).symm)
def nC(fr:Int)(b:List Int)(x:Rg):List Int:=b++List.replicate ((x.hi-fr).toNat-b.length) 0
def nE(fr off:Int)(d:List Int)(b:List Int)(x:Rg):List Int:=splice (nC fr b x) (x.lo-fr).toNat ((d.drop (x.lo-off).toNat).take (x.hi-x.lo).toNat)
def jc(fr off:Int)(d:List Int)(M:List Rg)(b:List Int):List Int:=M.foldl (nE fr off d) b
theorem wA(fr:Int)(b:List Int)(x:Rg):(nC fr b x).length=max b.length (x.hi-fr).toNat:=by
 simp only[nC,bG,List.length_replicate];omega
theorem zu(a:p<=U.lo)(b:q<=U.lo)(c:U.lo<=U.hi)(d:U.hi<=q+L.length):(nE p q L K U).length=max K.length (U.hi-p).toNat:=by
 unfold nE;rw[length_splice,wA];rw[wA,cC,dO];omega
theorem EP(fr off:Int)(d:List Int)(M:List Rg)(b:List Int)(j:Nat)(a:j<M.length):jc fr off d (M.take (j+1)) b=nE fr off d (jc fr off d (M.take j) b) (au M j):=by
 unfold jc;rw[qc a,List.foldl_append];simp[au,List.getD,a]
