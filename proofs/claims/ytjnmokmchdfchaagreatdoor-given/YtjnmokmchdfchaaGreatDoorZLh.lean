import Derived.LaidEql
import Derived.Lib.IfaceEq
import Derived.RowKitTokens
import Derived.Stop.Asserts
import Derived.Test.YtjnmokmchdfchaaGreatDoorZL0
set_option maxRecDepth 1000000
set_option maxHeartbeats 0
set_option linter.all false
namespace Go.Proofs.YtjnmokmchdfchaaGreatDoor
open Go.RowKit Tryz Go.Extern.Stop Go.Stop Go.Extern
open Go.Value renaming int→ι,slice→σ,bool→β,pointer→π,agg→ε,string→ς,tuple→τ
open Go.IntKind renaming i64→δ,u64→η,u8→Δ
open Go.Ending renaming returned→ξ
open Go.Obj renaming cells→ο
open Or renaming inl→φ,inr→ψ
open Option renaming some→μ,none→ν
open Bool renaming true→ρ,false→θ
open Go renaming World→ω,Value→υ
open Go.World renaming grownBy→γ,cell?→κ,frozen?→χ,setCell→ζ
variable{N:Option Nat}{W w:ω}
def Mj(t:Addr)(w:ω):(ReflectliteValue.unpack (.iface 179 (π (μ t)))).run prog w
 =.ok (ε #[π (μ ⟨1,179,ν⟩),π (μ ⟨w.heap.size,0,ν⟩),ι η 150]) (w.alloc (ο #[π (μ t)] 179)):=by kernel_rfl
def Mk(a:Addr)(w:ω):(ReflectliteValue.methodAny (ReflectliteValue.valueError "reflectlite.Value.Type" 0) (λt _ _ _=>ReflectliteType.toType t) #[ε #[π (μ ⟨1,179,ν⟩),π (μ a),ι η 150]]).run prog w
 =.ok (.iface 273 (ε #[π (μ ⟨1,179,ν⟩)])) w:=by kernel_rfl
def Ml(a:Addr)(w:ω):(ReflectliteValue.parts (ε #[π (μ ⟨1,179,ν⟩),π (μ a),ι η 150])).run prog w=.ok (μ (179,a,150)) w:=by kernel_rfl
def Mm(a p:Addr)(W:ω)(b:κ W a=μ (π (μ p))):
 (ReflectliteValue.method (ReflectliteValue.valueError "reflectlite.Value.IsNil" 0) ReflectliteValue.isNil #[ε #[π (μ ⟨1,179,ν⟩),π (μ a),ι η 150]]).run prog W=.ok (β θ) W:=by
 refine(ka ..).trans ?_;simp only[Array.getLit,List.getElem_toArray,List.getElem_cons_zero,Ml,Result.andThen]
 simp[ReflectliteValue.isNil,loadVar,isAgg,underlying,underlying179,b,Result.andThen]
def Mn(t:Addr)(w:ω):(ReflectliteValue.unpack (.iface 183 (π (μ t)))).run prog w
 =.ok (ε #[π (μ ⟨1,183,ν⟩),π (μ ⟨w.heap.size,0,ν⟩),ι η 150]) (w.alloc (ο #[π (μ t)] 183)):=by kernel_rfl
def Mo(a:Addr)(w:ω):(ReflectliteValue.methodAny (ReflectliteValue.valueError "reflectlite.Value.Type" 0) (λt _ _ _=>ReflectliteType.toType t) #[ε #[π (μ ⟨1,183,ν⟩),π (μ a),ι η 150]]).run prog w
 =.ok (.iface 273 (ε #[π (μ ⟨1,183,ν⟩)])) w:=by kernel_rfl
def D4(a:Addr)(w:ω):(ReflectliteValue.parts (ε #[π (μ ⟨1,183,ν⟩),π (μ a),ι η 150])).run prog w=.ok (μ (183,a,150)) w:=by kernel_rfl
def Mp(a p:Addr)(W:ω)(b:κ W a=μ (π (μ p))):
 (ReflectliteValue.method (ReflectliteValue.valueError "reflectlite.Value.IsNil" 0) ReflectliteValue.isNil #[ε #[π (μ ⟨1,183,ν⟩),π (μ a),ι η 150]]).run prog W=.ok (β θ) W:=by
 refine(ka ..).trans ?_;simp only[Array.getLit,List.getElem_toArray,List.getElem_cons_zero,D4,Result.andThen]
 simp[ReflectliteValue.isNil,loadVar,isAgg,underlying,underlying183,b,Result.andThen]
def Mq(w:ω):((ReflectliteType.abiMethod λt=>(λa:Nat=>Value.int IntKind.u8 (a:Int))<$>Rtype.kind t) #[π (μ ⟨1,179,ν⟩)]).run prog w=.ok (ι Δ 22) w:=by kernel_rfl
def Mr(w:ω):((ReflectliteType.abiMethod λt=>(λa:Nat=>Value.int IntKind.u8 (a:Int))<$>Rtype.kind t) #[π (μ ⟨1,177,ν⟩)]).run prog w=.ok (ι Δ 22) w:=by kernel_rfl
def Ms(w:ω):((ReflectliteType.abiMethod λt=>(λa:Nat=>Value.int IntKind.u8 (a:Int))<$>Rtype.kind t) #[π (μ ⟨1,183,ν⟩)]).run prog w=.ok (ι Δ 22) w:=by kernel_rfl
def Mt(w:ω):((ReflectliteType.abiMethod λt=>(λa:Nat=>Value.int IntKind.u8 (a:Int))<$>Rtype.kind t) #[π (μ ⟨1,34,ν⟩)]).run prog w=.ok (ι Δ 2) w:=by kernel_rfl
def D5(h:υ)(w:ω):(Go.method 543 273 (ε #[h]) "Kind").run prog w=.ok (321,h) w:=by kernel_rfl
def D6(h:υ)(w:ω):(Go.method 543 273 (ε #[h]) "Elem").run prog w=.ok (333,ε #[h]) w:=by kernel_rfl
def D7(h:υ)(w:ω):(Go.method 543 273 (ε #[h]) "Implements").run prog w=.ok (334,ε #[h]) w:=by kernel_rfl
def D8(h:υ)(w:ω):(Go.method 543 273 (ε #[h]) "AssignableTo").run prog w=.ok (331,ε #[h]) w:=by kernel_rfl
def Mu(h:υ)(w:ω):(Go.method 543 273 (ε #[h]) "Comparable").run prog w=.ok (332,ε #[h]) w:=by kernel_rfl
def Mv(w:ω):(ReflectliteType.method ReflectliteType.elem #[ε #[π (μ ⟨1,179,ν⟩)]]).run prog w=.ok (.iface 273 (ε #[π (μ ⟨1,177,ν⟩)])) w:=by kernel_rfl
def Mw(w:ω):(ReflectliteType.method ReflectliteType.elem #[ε #[π (μ ⟨1,183,ν⟩)]]).run prog w=.ok (.iface 273 (ε #[π (μ ⟨1,34,ν⟩)])) w:=by kernel_rfl
def Mx(w:ω):(ReflectliteType.relation "Implements" ReflectliteType.implements_ #[ε #[π (μ ⟨1,177,ν⟩)],.iface 273 (ε #[π (μ ⟨1,97,ν⟩)])]).run prog w=.ok (β ρ) w:=by kernel_rfl
def My(w:ω):(ReflectliteType.relation "Implements" ReflectliteType.implements_ #[ε #[π (μ ⟨1,34,ν⟩)],.iface 273 (ε #[π (μ ⟨1,97,ν⟩)])]).run prog w=.ok (β ρ) w:=by kernel_rfl
def Ah(v:υ)(w:ω):(ReflectliteType.typeOf #[.iface 34 v]).run prog w=.ok (.iface 273 (ε #[π (μ ⟨1,34,ν⟩)])) w:=by kernel_rfl
def Mz(w:ω):(ReflectliteType.relation "AssignableTo" ReflectliteType.assignableTo #[ε #[π (μ ⟨1,34,ν⟩)],.iface 273 (ε #[π (μ ⟨1,177,ν⟩)])]).run prog w=.ok (β θ) w:=by kernel_rfl
def MA(w:ω):(ReflectliteType.relation "AssignableTo" ReflectliteType.assignableTo #[ε #[π (μ ⟨1,34,ν⟩)],.iface 273 (ε #[π (μ ⟨1,34,ν⟩)])]).run prog w=.ok (β ρ) w:=by kernel_rfl
def MB(e:Int)(w:ω):(ReflectliteValue.unpack (.iface 34 (ι δ e))).run prog w
 =.ok (ε #[π (μ ⟨1,34,ν⟩),π (μ ⟨w.heap.size,0,ν⟩),ι η 130]) (w.alloc (ο #[ι δ e] 34)):=by kernel_rfl
def MC(w:ω):(Rtype.elem? 183).run prog w=.ok (μ 34) w:=by kernel_rfl
def MD(p:Addr)(w:ω):(ReflectliteValue.mk 34 p ReflectliteValue.flagAddr).run prog w=.ok (ε #[π (μ ⟨1,34,ν⟩),π (μ p),ι η 386]) w:=by kernel_rfl
def Laid(w:ω):Prop:=κ w ⟨0,0,ν⟩=μ (.iface 273 (ε #[π (μ ⟨1,97,ν⟩)]))
def Laid.lt(h:Laid w):0<w.heap.size:=by
 obtain h0|a:=Nat.eq_zero_or_pos w.heap.size
 simp[Laid,World.cell?,h0]at h;exact a
def Laid.gb(h:Laid w)(g:γ w W N)(a:N≠μ 0:=by simp):Laid W:=(mn (g.block 0 h.lt (λe=>a e.symm))).trans h
def Laid.alloc(h:Laid w)(o:Obj):Laid (w.alloc o):=h.gb (aJ w o ν)
def ME(v:υ)(a:TypeId)(w:ω):(Instr.typeAssert (.iface 34 v) a 277 ρ).run prog w=.ok (τ #[.nilIface,β θ]) w:=run_typeAssert_lacksB underlying277 (by kernel_rfl) (by kernel_rfl) v a w
def MF(v:υ)(a:TypeId)(w:ω):(Instr.typeAssert (.iface 34 v) a 280 ρ).run prog w=.ok (τ #[.nilIface,β θ]) w:=run_typeAssert_lacksB underlying280 (by kernel_rfl) (by kernel_rfl) v a w
def MG(v:υ)(a:TypeId)(w:ω):(Instr.typeAssert (.iface 34 v) a 281 ρ).run prog w=.ok (τ #[.nilIface,β θ]) w:=run_typeAssert_lacksB underlying281 (by kernel_rfl) (by kernel_rfl) v a w
def MH(n:Int)(t:Addr)(w:ω)(a:Laid w):
 Calls prog 73 #[.iface 34 (ι δ n),.iface 179 (π (μ t))] w λev b=>ev=ξ (β θ)/\γ w b ν:=by
 have c:= @j9 prog 113 _ (λargs=>ReflectliteValue.unpack (args.getD 0 (τ #[]))) func113 (by kernel_rfl) (by kernel_rfl) (by kernel_rfl) (by kernel_rfl);have d:= @j9 prog 114 _ (ReflectliteValue.methodAny (ReflectliteValue.valueError "reflectlite.Value.Type" 0) (λt _ _ _=>ReflectliteType.toType t)) func114 (by kernel_rfl) (by kernel_rfl) (by kernel_rfl) (by kernel_rfl);have e:= @j9 prog 115 _ (ReflectliteValue.method (ReflectliteValue.valueError "reflectlite.Value.IsNil" 0) ReflectliteValue.isNil) func115 (by kernel_rfl) (by kernel_rfl) (by kernel_rfl) (by kernel_rfl);have f:= @j9 prog 321 _ (ReflectliteType.abiMethod λt=>do pure (ι Δ (<-Rtype.kind t))) func321 (by kernel_rfl) (by kernel_rfl) (by kernel_rfl) (by kernel_rfl);have g:= @j9 prog 333 _ (ReflectliteType.method ReflectliteType.elem) func333 (by kernel_rfl) (by kernel_rfl) (by kernel_rfl) (by kernel_rfl);have h:= @j9 prog 334 _ (ReflectliteType.relation "Implements" ReflectliteType.implements_) func334 (by kernel_rfl) (by kernel_rfl) (by kernel_rfl) (by kernel_rfl);have i:= @j9 prog 117 _ (ReflectliteType.typeOf) func117 (by kernel_rfl) (by kernel_rfl) (by kernel_rfl) (by kernel_rfl);have j:= @j9 prog 331 _ (ReflectliteType.relation "AssignableTo" ReflectliteType.assignableTo) func331 (by kernel_rfl) (by kernel_rfl) (by kernel_rfl) (by kernel_rfl);have f1:=Mj;have f2:=Mk;have f3:=D5;have f4:=Mq;have f5:=Mm ⟨w.heap.size,0,ν⟩ t ((w.alloc (ο #[π (μ t)] 179)).alloc (ο #[π (μ ⟨1,179,ν⟩),π (μ ⟨w.heap.size,0,ν⟩),ι η 150] 247)) (by simp);have f6:=D6;have f7:=Mv;have f8:=Mr;have f9:=D7;have f10:=Mx;have f11:=Ah;have f12:=D8;have f13:=Mz;have f14:=ME;have f15:=MF;have f16:=MG;have k:((w.alloc (ο #[π (μ t)] 179)).alloc (ο #[π (μ ⟨1,179,ν⟩),π (μ ⟨w.heap.size,0,ν⟩),ι η 150] 247)).cell? ⟨0,0,ν⟩=μ (.iface 273 (ε #[π (μ ⟨1,97,ν⟩)])):=(a.alloc _).alloc _;clear a;go_enter func73,ntmps73;go_wp2;refine wp_loop_rounds 1 ?_;rw[rounds_succ];go_wp2;go_ret;exact⟨rfl,bk (bk (bk (aD _ _) _) _) _⟩
def MI(a p:Addr)(W:ω)(b:κ W a=μ (π (μ p))):
 (ReflectliteValue.method (ReflectliteValue.valueError "reflectlite.Value.Elem" 0) ReflectliteValue.elem #[ε #[π (μ ⟨1,183,ν⟩),π (μ a),ι η 150]]).run prog W
   =.ok (ε #[π (μ ⟨1,34,ν⟩),π (μ p),ι η 386]) W:=by
 refine(ka ..).trans ?_;simp only[Array.getLit,List.getElem_toArray,List.getElem_cons_zero,D4,Result.andThen]
 simp[ReflectliteValue.elem,loadVar,isAgg,underlying,underlying183,b,Result.andThen,MC,MD]
def MJ(a:Addr)(w:ω):(ReflectliteValue.parts (ε #[π (μ ⟨1,34,ν⟩),π (μ a),ι η 386])).run prog w=.ok (μ (34,a,386)) w:=by kernel_rfl
def MK(a:Addr)(w:ω):(ReflectliteValue.parts (ε #[π (μ ⟨1,34,ν⟩),π (μ a),ι η 130])).run prog w=.ok (μ (34,a,130)) w:=by kernel_rfl
def ML(w:ω):(Rtype.directlyAssignable 34 34).run prog w=.ok ρ w:=by kernel_rfl
def Ai(a b:Addr)(e:Int)(nX:υ)(W:ω)(c:κ W b=μ (ι δ e))(d:κ W a=μ nX)(f:χ W a=θ):
 (ReflectliteValue.set #[ε #[π (μ ⟨1,34,ν⟩),π (μ a),ι η 386],ε #[π (μ ⟨1,34,ν⟩),π (μ b),ι η 130]]).run prog W
   =.ok (τ #[]) (ζ W a (ι δ e)):=by
 refine(ka ..).trans ?_;simp only[Array.getLit,List.getElem_toArray,List.getElem_cons_zero,List.getElem_cons_succ,ka,MJ,MK,Result.andThen]
 simp[ReflectliteValue.flagAddr,loadVar,isAgg,underlying,underlying34,c,Result.andThen,ML,storeVar,Value.cells,storeCells,Addr.add];rw[run_store prog W a _ _ (by rfl)];simp[d,f]
def MM(n:Int)(t:Addr)(nX:υ)(w:ω)(d:Laid w)(a:κ w t=μ nX)(f:χ w t=θ):
 Calls prog 73 #[.iface 34 (ι δ n),.iface 183 (π (μ t))] w λev e=>ev=ξ (β ρ)/\κ e t=μ (ι δ n)/\γ w e (μ t.block):=by
 have g:= @j9 prog 113 _ (λargs=>ReflectliteValue.unpack (args.getD 0 (τ #[]))) func113 (by kernel_rfl) (by kernel_rfl) (by kernel_rfl) (by kernel_rfl);have h:= @j9 prog 114 _ (ReflectliteValue.methodAny (ReflectliteValue.valueError "reflectlite.Value.Type" 0) (λt _ _ _=>ReflectliteType.toType t)) func114 (by kernel_rfl) (by kernel_rfl) (by kernel_rfl) (by kernel_rfl);have i:= @j9 prog 115 _ (ReflectliteValue.method (ReflectliteValue.valueError "reflectlite.Value.IsNil" 0) ReflectliteValue.isNil) func115 (by kernel_rfl) (by kernel_rfl) (by kernel_rfl) (by kernel_rfl);have j:= @j9 prog 321 _ (ReflectliteType.abiMethod λt=>do pure (ι Δ (<-Rtype.kind t))) func321 (by kernel_rfl) (by kernel_rfl) (by kernel_rfl) (by kernel_rfl);have k:= @j9 prog 333 _ (ReflectliteType.method ReflectliteType.elem) func333 (by kernel_rfl) (by kernel_rfl) (by kernel_rfl) (by kernel_rfl);have l:= @j9 prog 334 _ (ReflectliteType.relation "Implements" ReflectliteType.implements_) func334 (by kernel_rfl) (by kernel_rfl) (by kernel_rfl) (by kernel_rfl);have m:= @j9 prog 117 _ (ReflectliteType.typeOf) func117 (by kernel_rfl) (by kernel_rfl) (by kernel_rfl) (by kernel_rfl);have p:= @j9 prog 331 _ (ReflectliteType.relation "AssignableTo" ReflectliteType.assignableTo) func331 (by kernel_rfl) (by kernel_rfl) (by kernel_rfl) (by kernel_rfl);have q:= @j9 prog 144 _ (ReflectliteValue.method (ReflectliteValue.valueError "reflectlite.Value.Elem" 0) ReflectliteValue.elem) func144 (by kernel_rfl) (by kernel_rfl) (by kernel_rfl) (by kernel_rfl);have r:= @j9 prog 145 _ (ReflectliteValue.set) func145 (by kernel_rfl) (by kernel_rfl) (by kernel_rfl) (by kernel_rfl);have f1:=Mn;have f2:=Mo;have f3:=D5;have f4:=Ms;have f5:=Mp ⟨w.heap.size,0,ν⟩ t ((w.alloc (ο #[π (μ t)] 183)).alloc (ο #[π (μ ⟨1,183,ν⟩),π (μ ⟨w.heap.size,0,ν⟩),ι η 150] 247)) (by simp);have f6:=D6;have f7:=Mw;have f8:=Mt;have f9:=D7;have f10:=My;have f11:=Ah;have f12:=D8;have f13:=MA;have f14:=MB;have s:((w.alloc (ο #[π (μ t)] 183)).alloc (ο #[π (μ ⟨1,183,ν⟩),π (μ ⟨w.heap.size,0,ν⟩),ι η 150] 247)).cell? ⟨0,0,ν⟩=μ (.iface 273 (ε #[π (μ ⟨1,97,ν⟩)])):=(d.alloc _).alloc _;clear d;have b:t.block<w.heap.size:=eZ w t a;have el:=MI ⟨w.heap.size,0,ν⟩ t (((w.alloc (ο #[π (μ t)] 183)).alloc (ο #[π (μ ⟨1,183,ν⟩),π (μ ⟨w.heap.size,0,ν⟩),ι η 150] 247)).alloc (ο #[π (μ ⟨1,183,ν⟩),π (μ ⟨w.heap.size,0,ν⟩),ι η 150] 247)) (by rw[rH _ _ ⟨w.heap.size,0,ν⟩ (by simp;omega)];simp);have st:=Ai t ⟨w.heap.size+1+1+1,0,ν⟩ n nX ((((w.alloc (ο #[π (μ t)] 183)).alloc (ο #[π (μ ⟨1,183,ν⟩),π (μ ⟨w.heap.size,0,ν⟩),ι η 150] 247)).alloc (ο #[π (μ ⟨1,183,ν⟩),π (μ ⟨w.heap.size,0,ν⟩),ι η 150] 247)).alloc (ο #[ι δ n] 34))
  (by rw[World.cell?_alloc_at _ _ _ _ (by simp)];rfl)
  (by rw[rH _ _ t (by simp;omega),rH _ _ t (by simp;omega),rH _ _ t (by simp;omega),rH _ _ t b];exact a)
  (by rw[World.frozen?_alloc_old _ _ t (by simp;omega),World.frozen?_alloc_old _ _ t (by simp;omega),World.frozen?_alloc_old _ _ t (by simp;omega),World.frozen?_alloc_old _ _ t (Nat.ne_of_lt b)];exact f)
 have c:((((w.alloc (ο #[π (μ t)] 183)).alloc (ο #[π (μ ⟨1,183,ν⟩),π (μ ⟨w.heap.size,0,ν⟩),ι η 150] 247)).alloc (ο #[π (μ ⟨1,183,ν⟩),π (μ ⟨w.heap.size,0,ν⟩),ι η 150] 247)).alloc (ο #[ι δ n] 34)).cell? t=μ nX:=by rw[rH _ _ t (by simp;omega),rH _ _ t (by simp;omega),rH _ _ t (by simp;omega),rH _ _ t b];exact a
 replace c:=J c;go_enter func73,ntmps73;go_wp2;refine wp_loop_rounds 1 ?_;rw[rounds_succ];go_wp2;go_ret;refine⟨rfl,?_,aM (bk (bk (bk (bk (aD _ _) _) _) _) _) _ _ (ψ rfl)⟩
 exact World.cell?_setCell_same' _ _ _ (by rw[Z c];rfl)
def MN(w:ω):(ReflectliteType.method (λt=>do Rtype.noPackHeld "Comparable" t;(λa=>Value.bool a.comparable)<$>typeInfo t) #[ε #[π (μ ⟨1,34,ν⟩)]]).run prog w=.ok (β ρ) w:=by kernel_rfl
def MO:(prog.info? 34).map (·.comparable)=μ ρ:=by kernel_rfl
def MP(a b:Int)(w:ω):(binOp .eql 97 (.iface 34 (ι δ a)) (.iface 34 (ι δ b))).run prog w=.ok (β (a==b)) w:=
 Lib.run_eql_iface_int w a b underlying97 MO underlying34
def MQ(n:Int)(w:ω):
 Calls prog 74 #[.iface 34 (ι δ n),.iface 34 (ι δ n)] w λev a=>ev=ξ (β ρ)/\a=w:=by
 have b:= @j9 prog 117 _ (ReflectliteType.typeOf) func117 (by kernel_rfl) (by kernel_rfl) (by kernel_rfl) (by kernel_rfl);have c:= @j9 prog 332 _ (ReflectliteType.method (λt=>do Rtype.noPackHeld "Comparable" t;pure (β (<-typeInfo t).comparable))) func332 (by kernel_rfl) (by kernel_rfl) (by kernel_rfl) (by kernel_rfl);have f1:=Ah;have f2:=Mu;have f3:=MN;have f4:=MP n n;simp only[beq_self_eq_true]at f4;go_enter func74,ntmps74;go_wp2;refine wp_loop_rounds 1 ?_;rw[rounds_succ];go_wp2;go_ret;exact⟨rfl,rfl⟩
def Aj(w:ω):Calls prog 39 #[.nilIface] w λev a=>ev=ξ (τ #[ι δ 0,ι δ (-1)])/\γ w a ν:=by
 go_enter func39,ntmps39;go_wp2;go_ret2;exact⟨rfl,bk (bk (aD _ _) _) _⟩
def D9(n:Int)(w:ω)(c:Laid w):Calls prog 39 #[.iface 34 (ι δ n)] w λev d=>ev=ξ (τ #[ι δ n,ι δ (-1)])/\γ w d ν:=by
 go_enter func39,ntmps39;go_wp2_with fail;apply(MH n _ _ ((c.alloc _).alloc _)).mono;rintro e b⟨rfl,a⟩;have c1:κ b ⟨w.heap.size+1,0,ν⟩=μ (ι δ 0):=gC_ a (by simp);have f:χ b ⟨w.heap.size+1,0,ν⟩=θ:=by rw[World.frozen?_of_block (w:=(w.alloc (ο #[π ν] 177)).alloc (ο #[ι δ 0] 34)) (a.block _ (by simp) (by simp))];simp
 go_wp2_with fail;apply(MM n _ _ _ (((c.alloc _).alloc _).gb a) c1 f).mono;rintro e i⟨rfl,c2,g⟩;go_wp2_with fail;apply(MQ n _).mono;rintro e k⟨rfl,rfl⟩;go_wp2;go_ret2;refine⟨rfl,?_⟩
 have h:γ w b ν:=aq (bk (bk (aD w ν) _) _) a;exact cT h g (λj e=>by cases e;left;simp)
def Al(w:ω):Calls prog 35 #[.nilIface] w λev a=>ev=ξ (ι δ 0)/\γ w a ν:=by
 go_enter func35,ntmps35;go_wp2_with fail;apply(Aj _).mono;rintro e c⟨rfl,b⟩;go_wp2;go_ret;exact⟨rfl,b⟩
def Ea(n:Int)(w:ω)(a:Laid w):Calls prog 35 #[.iface 34 (ι δ n)] w λev b=>ev=ξ (ι δ n)/\γ w b ν:=by
 go_enter func35,ntmps35;go_wp2_with fail;apply(D9 n _ a).mono;rintro e d⟨rfl,c⟩;go_wp2;go_ret;exact⟨rfl,c⟩
