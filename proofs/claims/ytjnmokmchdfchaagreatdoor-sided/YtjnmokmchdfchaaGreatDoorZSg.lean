import Derived.LaidEql
import Derived.Lib.IfaceEq
import Derived.RowKitTokens
import Derived.Stop.Asserts
import Derived.Test.YtjnmokmchdfchaaGreatDoorZS0
set_option maxRecDepth 1000000
set_option maxHeartbeats 0
set_option linter.all false
namespace Go.Proofs.YtjnmokmchdfchaaGreatDoor
open Go.RowKit Tryz Go.Extern.Stop Go.Stop Go.Extern
open Go.Value renaming int→I,slice→Y,bool→β,pointer→π,agg→ε,string→ς,tuple→τ
open Go.IntKind renaming i64→X,u64→U,u8→Δ
open Go.Ending renaming returned→ξ
open Go.Obj renaming cells→ο
open Or renaming inl→φ,inr→ψ
open Option renaming some→E,none→N
open Bool renaming true→ρ,false→θ
open Go renaming World→D,Value→υ
open Go.World renaming grownBy→G,cell?→κ,frozen?→χ,setCell→ζ
variable{W w:D}
def Et(t:Addr)(w:D):(ReflectliteValue.unpack (.iface 179 (π (E t)))).run prog w
 =.ok (ε #[π (E ⟨1,179,N⟩),π (E ⟨w.heap.size,0,N⟩),I U 150]) (w.alloc (ο #[π (E t)] 179)):=Φ
def Eu(a:Addr)(w:D):(ReflectliteValue.methodAny (ReflectliteValue.valueError "reflectlite.Value.Type" 0) (λt _ _ _=>ReflectliteType.toType t) #[ε #[π (E ⟨1,179,N⟩),π (E a),I U 150]]).run prog w
 =.ok (.iface 273 (ε #[π (E ⟨1,179,N⟩)])) w:=Φ
def Ev(a:Addr)(w:D):(ReflectliteValue.parts (ε #[π (E ⟨1,179,N⟩),π (E a),I U 150])).run prog w=.ok (E (179,a,150)) w:=Φ
def Ew(a p:Addr)(W:D)(b:κ W a=E (π (E p))):
 (ReflectliteValue.method (ReflectliteValue.valueError "reflectlite.Value.IsNil" 0) ReflectliteValue.isNil #[ε #[π (E ⟨1,179,N⟩),π (E a),I U 150]]).run prog W=.ok (β θ) W:=by
 refine(jL ..).trans ?_;simp only[Array.getLit,wM,wI,Ev,Result.andThen]
 simp[ReflectliteValue.isNil,loadVar,isAgg,underlying,underlying179,b,Result.andThen]
def Ex(t:Addr)(w:D):(ReflectliteValue.unpack (.iface 183 (π (E t)))).run prog w
 =.ok (ε #[π (E ⟨1,183,N⟩),π (E ⟨w.heap.size,0,N⟩),I U 150]) (w.alloc (ο #[π (E t)] 183)):=Φ
def Ey(a:Addr)(w:D):(ReflectliteValue.methodAny (ReflectliteValue.valueError "reflectlite.Value.Type" 0) (λt _ _ _=>ReflectliteType.toType t) #[ε #[π (E ⟨1,183,N⟩),π (E a),I U 150]]).run prog w
 =.ok (.iface 273 (ε #[π (E ⟨1,183,N⟩)])) w:=Φ
def Ez(a:Addr)(w:D):(ReflectliteValue.parts (ε #[π (E ⟨1,183,N⟩),π (E a),I U 150])).run prog w=.ok (E (183,a,150)) w:=Φ
def EA(a p:Addr)(W:D)(b:κ W a=E (π (E p))):
 (ReflectliteValue.method (ReflectliteValue.valueError "reflectlite.Value.IsNil" 0) ReflectliteValue.isNil #[ε #[π (E ⟨1,183,N⟩),π (E a),I U 150]]).run prog W=.ok (β θ) W:=by
 refine(jL ..).trans ?_;simp only[Array.getLit,wM,wI,Ez,Result.andThen]
 simp[ReflectliteValue.isNil,loadVar,isAgg,underlying,underlying183,b,Result.andThen]
def EC(w:D):((ReflectliteType.abiMethod λt=>(λa:Nat=>I IntKind.u8 (a:Int))<$>Rtype.kind t) #[π (E ⟨1,179,N⟩)]).run prog w=.ok (I Δ 22) w:=Φ
def ED(w:D):((ReflectliteType.abiMethod λt=>(λa:Nat=>I IntKind.u8 (a:Int))<$>Rtype.kind t) #[π (E ⟨1,177,N⟩)]).run prog w=.ok (I Δ 22) w:=Φ
def EE(w:D):((ReflectliteType.abiMethod λt=>(λa:Nat=>I IntKind.u8 (a:Int))<$>Rtype.kind t) #[π (E ⟨1,183,N⟩)]).run prog w=.ok (I Δ 22) w:=Φ
def EF(w:D):((ReflectliteType.abiMethod λt=>(λa:Nat=>I IntKind.u8 (a:Int))<$>Rtype.kind t) #[π (E ⟨1,34,N⟩)]).run prog w=.ok (I Δ 2) w:=Φ
def yu(h:υ)(w:D):(Go.method 543 273 (ε #[h]) "Kind").run prog w=.ok (321,h) w:=Φ
def yv(h:υ)(w:D):(Go.method 543 273 (ε #[h]) "Elem").run prog w=.ok (333,ε #[h]) w:=Φ
def yw(h:υ)(w:D):(Go.method 543 273 (ε #[h]) "Implements").run prog w=.ok (334,ε #[h]) w:=Φ
def yx(h:υ)(w:D):(Go.method 543 273 (ε #[h]) "AssignableTo").run prog w=.ok (331,ε #[h]) w:=Φ
def EG(h:υ)(w:D):(Go.method 543 273 (ε #[h]) "Comparable").run prog w=.ok (332,ε #[h]) w:=Φ
def EH(w:D):(ReflectliteType.method ReflectliteType.elem #[ε #[π (E ⟨1,179,N⟩)]]).run prog w=.ok (.iface 273 (ε #[π (E ⟨1,177,N⟩)])) w:=Φ
def EI(w:D):(ReflectliteType.method ReflectliteType.elem #[ε #[π (E ⟨1,183,N⟩)]]).run prog w=.ok (.iface 273 (ε #[π (E ⟨1,34,N⟩)])) w:=Φ
def EJ(w:D):(ReflectliteType.relation "Implements" ReflectliteType.implements_ #[ε #[π (E ⟨1,177,N⟩)],.iface 273 (ε #[π (E ⟨1,97,N⟩)])]).run prog w=.ok (β ρ) w:=Φ
def EK(v:υ)(w:D):(ReflectliteType.typeOf #[.iface 177 v]).run prog w=.ok (.iface 273 (ε #[π (E ⟨1,177,N⟩)])) w:=Φ
def EL(w:D):(ReflectliteType.relation "Implements" ReflectliteType.implements_ #[ε #[π (E ⟨1,34,N⟩)],.iface 273 (ε #[π (E ⟨1,97,N⟩)])]).run prog w=.ok (β ρ) w:=Φ
def vP(v:υ)(w:D):(ReflectliteType.typeOf #[.iface 34 v]).run prog w=.ok (.iface 273 (ε #[π (E ⟨1,34,N⟩)])) w:=Φ
def MO(w:D):(ReflectliteType.relation "AssignableTo" ReflectliteType.assignableTo #[ε #[π (E ⟨1,177,N⟩)],.iface 273 (ε #[π (E ⟨1,177,N⟩)])]).run prog w=.ok (β ρ) w:=Φ
def MP(w:D):(ReflectliteType.relation "AssignableTo" ReflectliteType.assignableTo #[ε #[π (E ⟨1,177,N⟩)],.iface 273 (ε #[π (E ⟨1,34,N⟩)])]).run prog w=.ok (β θ) w:=Φ
def MQ(w:D):(ReflectliteType.relation "AssignableTo" ReflectliteType.assignableTo #[ε #[π (E ⟨1,34,N⟩)],.iface 273 (ε #[π (E ⟨1,177,N⟩)])]).run prog w=.ok (β θ) w:=Φ
def EM(w:D):(ReflectliteType.relation "AssignableTo" ReflectliteType.assignableTo #[ε #[π (E ⟨1,34,N⟩)],.iface 273 (ε #[π (E ⟨1,34,N⟩)])]).run prog w=.ok (β ρ) w:=Φ
def MR(e:Addr)(w:D):(ReflectliteValue.unpack (.iface 177 (π (E e)))).run prog w
 =.ok (ε #[π (E ⟨1,177,N⟩),π (E ⟨w.heap.size,0,N⟩),I U 150]) (w.alloc (ο #[π (E e)] 177)):=Φ
def MS(w:D):(Rtype.elem? 179).run prog w=.ok (E 177) w:=Φ
def MT(p:Addr)(w:D):(ReflectliteValue.mk 177 p ReflectliteValue.flagAddr).run prog w=.ok (ε #[π (E ⟨1,177,N⟩),π (E p),I U 406]) w:=Φ
def EN(e:Int)(w:D):(ReflectliteValue.unpack (.iface 34 (I X e))).run prog w
 =.ok (ε #[π (E ⟨1,34,N⟩),π (E ⟨w.heap.size,0,N⟩),I U 130]) (w.alloc (ο #[I X e] 34)):=Φ
def MU(w:D):(Rtype.elem? 183).run prog w=.ok (E 34) w:=Φ
def MV(p:Addr)(w:D):(ReflectliteValue.mk 34 p ReflectliteValue.flagAddr).run prog w=.ok (ε #[π (E ⟨1,34,N⟩),π (E p),I U 386]) w:=Φ
def Laid(w:D):Prop:=κ w ⟨0,0,N⟩=E (.iface 273 (ε #[π (E ⟨1,97,N⟩)]))
def Laid.lt(h:Laid w):0<w.heap.size:=by
 obtain h0|a:=Nat.eq_zero_or_pos w.heap.size
 simp[Laid,κ,h0]at h;exact a
def Laid.gb{w:D}{r:Option Nat}(h:Laid w)(g:G w W r)(a:r≠E 0:=by simp):Laid W:=(iB (g.block 0 h.lt (λe=>a e.symm))).trans h
def Laid.alloc(h:Laid w)(o:Obj):Laid (w.alloc o):=h.gb (aC w o N)
def MW(v:υ)(a:TypeId)(w:D):(Instr.typeAssert (.iface 34 v) a 277 ρ).run prog w=.ok (τ #[.nilIface,β θ]) w:=run_typeAssert_lacksB underlying277 Φ Φ v a w
def MX(v:υ)(a:TypeId)(w:D):(Instr.typeAssert (.iface 34 v) a 280 ρ).run prog w=.ok (τ #[.nilIface,β θ]) w:=run_typeAssert_lacksB underlying280 Φ Φ v a w
def MY(v:υ)(a:TypeId)(w:D):(Instr.typeAssert (.iface 34 v) a 281 ρ).run prog w=.ok (τ #[.nilIface,β θ]) w:=run_typeAssert_lacksB underlying281 Φ Φ v a w
def yy:=And.intro (@og prog 113 _ (λargs=>ReflectliteValue.unpack (args.getD 0 (τ #[]))) func113 Φ Φ Φ Φ)<|And.intro (@og prog 114 _ (ReflectliteValue.methodAny (ReflectliteValue.valueError "reflectlite.Value.Type" 0) (λt _ _ _=>ReflectliteType.toType t)) func114 Φ Φ Φ Φ)<|And.intro (@og prog 115 _ (ReflectliteValue.method (ReflectliteValue.valueError "reflectlite.Value.IsNil" 0) ReflectliteValue.isNil) func115 Φ Φ Φ Φ)<|And.intro (@og prog 321 _ (ReflectliteType.abiMethod λt=>do pure (I Δ (<-Rtype.kind t))) func321 Φ Φ Φ Φ)<|And.intro (@og prog 333 _ (ReflectliteType.method ReflectliteType.elem) func333 Φ Φ Φ Φ)<|And.intro (@og prog 334 _ (ReflectliteType.relation "Implements" ReflectliteType.implements_) func334 Φ Φ Φ Φ)<|And.intro (@og prog 117 _ (ReflectliteType.typeOf) func117 Φ Φ Φ Φ)<|And.intro (@og prog 331 _ (ReflectliteType.relation "AssignableTo" ReflectliteType.assignableTo) func331 Φ Φ Φ Φ)<|And.intro (@og prog 144 _ (ReflectliteValue.method (ReflectliteValue.valueError "reflectlite.Value.Elem" 0) ReflectliteValue.elem) func144 Φ Φ Φ Φ)<| @og prog 145 _ (ReflectliteValue.set) func145 Φ Φ Φ Φ
def MZ(n:Int)(t:Addr)(w:D)(a:Laid w):
 Calls prog 73 #[.iface 34 (I X n),.iface 179 (π (E t))] w λb c=>b=ξ (β θ)/\G w c N:=by
 obtain⟨d,e,f,g,h,i,j,k,l,m⟩:=yy;have f1:=Et;have f2:=Eu;have f3:=yu;have f4:=EC;have f5:=Ew ⟨w.heap.size,0,N⟩ t ((w.alloc (ο #[π (E t)] 179)).alloc (ο #[π (E ⟨1,179,N⟩),π (E ⟨w.heap.size,0,N⟩),I U 150] 247)) Γ;have f6:=yv;have f7:=EH;have f8:=ED;have f9:=yw;have f10:=EJ;have f11:=vP;have f12:=yx;have f13:=MQ;have f14:=MW;have f15:=MX;have f16:=MY;have p:((w.alloc (ο #[π (E t)] 179)).alloc (ο #[π (E ⟨1,179,N⟩),π (E ⟨w.heap.size,0,N⟩),I U 150] 247)).cell? ⟨0,0,N⟩=E (.iface 273 (ε #[π (E ⟨1,97,N⟩)])):=(a.alloc _).alloc _;go_enter func73,ntmps73;go_wp2;refine uQ 1 ?_;rw[rj];go_wp2;go_ret;exact⟨Q,aW (aW (aW (au _ _) _) _) _⟩
def EO(a p:Addr)(W:D)(b:κ W a=E (π (E p))):
 (ReflectliteValue.method (ReflectliteValue.valueError "reflectlite.Value.Elem" 0) ReflectliteValue.elem #[ε #[π (E ⟨1,183,N⟩),π (E a),I U 150]]).run prog W
   =.ok (ε #[π (E ⟨1,34,N⟩),π (E p),I U 386]) W:=by
 refine(jL ..).trans ?_;simp only[Array.getLit,wM,wI,Ez,Result.andThen]
 simp[ReflectliteValue.elem,loadVar,isAgg,underlying,underlying183,b,Result.andThen,MU,MV]
def M0(a:Addr)(w:D):(ReflectliteValue.parts (ε #[π (E ⟨1,34,N⟩),π (E a),I U 386])).run prog w=.ok (E (34,a,386)) w:=Φ
def M1(a:Addr)(w:D):(ReflectliteValue.parts (ε #[π (E ⟨1,34,N⟩),π (E a),I U 130])).run prog w=.ok (E (34,a,130)) w:=Φ
def M3(w:D):(Rtype.directlyAssignable 34 34).run prog w=.ok ρ w:=Φ
def EP(a b:Addr)(e:Int)(jc:υ)(W:D)(c:κ W b=E (I X e))(d:κ W a=E jc)(f:χ W a=θ):
 (ReflectliteValue.set #[ε #[π (E ⟨1,34,N⟩),π (E a),I U 386],ε #[π (E ⟨1,34,N⟩),π (E b),I U 130]]).run prog W
   =.ok (τ #[]) (ζ W a (I X e)):=by
 refine(jL ..).trans ?_;simp only[Array.getLit,wM,wI,List.getElem_cons_succ,jL,M0,M1,Result.andThen]
 simp[ReflectliteValue.flagAddr,loadVar,isAgg,underlying,underlying34,c,Result.andThen,M3,storeVar,Value.cells,storeCells,Addr.add];rw[run_store prog W a _ _ Ξ];simp[d,f]
def ER(n:Int)(t:Addr)(jc:υ)(w:D)(d:Laid w)(a:κ w t=E jc)(f:χ w t=θ):
 Calls prog 73 #[.iface 34 (I X n),.iface 183 (π (E t))] w λg e=>g=ξ (β ρ)/\κ e t=E (I X n)/\G w e (E t.block):=by
 obtain⟨h,i,j,k,l,m,p,q,r,s⟩:=yy;have f1:=Ex;have f2:=Ey;have f3:=yu;have f4:=EE;have f5:=EA ⟨w.heap.size,0,N⟩ t ((w.alloc (ο #[π (E t)] 183)).alloc (ο #[π (E ⟨1,183,N⟩),π (E ⟨w.heap.size,0,N⟩),I U 150] 247)) Γ;have f6:=yv;have f7:=EI;have f8:=EF;have f9:=yw;have f10:=EL;have f11:=vP;have f12:=yx;have f13:=EM;have f14:=EN;have u:((w.alloc (ο #[π (E t)] 183)).alloc (ο #[π (E ⟨1,183,N⟩),π (E ⟨w.heap.size,0,N⟩),I U 150] 247)).cell? ⟨0,0,N⟩=E (.iface 273 (ε #[π (E ⟨1,97,N⟩)])):=(d.alloc _).alloc _;clear d;have b:t.block<w.heap.size:=eI w t a;have el:=EO ⟨w.heap.size,0,N⟩ t (((w.alloc (ο #[π (E t)] 183)).alloc (ο #[π (E ⟨1,183,N⟩),π (E ⟨w.heap.size,0,N⟩),I U 150] 247)).alloc (ο #[π (E ⟨1,183,N⟩),π (E ⟨w.heap.size,0,N⟩),I U 150] 247)) (by rw[gp _ _ ⟨w.heap.size,0,N⟩ Ψ];simp);have st:=EP t ⟨w.heap.size+1+1+1,0,N⟩ n jc ((((w.alloc (ο #[π (E t)] 183)).alloc (ο #[π (E ⟨1,183,N⟩),π (E ⟨w.heap.size,0,N⟩),I U 150] 247)).alloc (ο #[π (E ⟨1,183,N⟩),π (E ⟨w.heap.size,0,N⟩),I U 150] 247)).alloc (ο #[I X n] 34))
  (by rw[World.cell?_alloc_at _ _ _ _ Γ];rfl)
  (by rw[gp _ _ t Ψ,gp _ _ t Ψ,gp _ _ t Ψ,gp _ _ t b];exact a)
  (by rw[oY _ _ t Ψ,oY _ _ t Ψ,oY _ _ t Ψ,oY _ _ t (Nat.ne_of_lt b)];exact f)
 have c:((((w.alloc (ο #[π (E t)] 183)).alloc (ο #[π (E ⟨1,183,N⟩),π (E ⟨w.heap.size,0,N⟩),I U 150] 247)).alloc (ο #[π (E ⟨1,183,N⟩),π (E ⟨w.heap.size,0,N⟩),I U 150] 247)).alloc (ο #[I X n] 34)).cell? t=E jc:=by rw[gp _ _ t Ψ,gp _ _ t Ψ,gp _ _ t Ψ,gp _ _ t b];exact a
 replace c:=J c;go_enter func73,ntmps73;go_wp2;refine uQ 1 ?_;rw[rj];go_wp2;go_ret;refine⟨Q,?_,aD (aW (aW (aW (aW (au _ _) _) _) _) _) _ _ (ψ Q)⟩
 exact World.cell?_setCell_same' _ _ _ (by rw[Z c];rfl)
def ES(w:D):(ReflectliteType.method (λt=>do Rtype.noPackHeld "Comparable" t;(λa=>β a.comparable)<$>typeInfo t) #[ε #[π (E ⟨1,34,N⟩)]]).run prog w=.ok (β ρ) w:=Φ
def M4:(prog.info? 34).map (·.comparable)=E ρ:=Φ
def ET(a b:Int)(w:D):(binOp .eql 97 (.iface 34 (I X a)) (.iface 34 (I X b))).run prog w=.ok (β (a==b)) w:=
 Lib.run_eql_iface_int w a b underlying97 M4 underlying34
def M5(n:Int)(w:D):
 Calls prog 74 #[.iface 34 (I X n),.iface 34 (I X n)] w λa b=>a=ξ (β ρ)/\b=w:=by
 have c:= @og prog 117 _ (ReflectliteType.typeOf) func117 Φ Φ Φ Φ;have d:= @og prog 332 _ (ReflectliteType.method (λt=>do Rtype.noPackHeld "Comparable" t;pure (β (<-typeInfo t).comparable))) func332 Φ Φ Φ Φ;have f1:=vP;have f2:=EG;have f3:=ES;have f4:=ET n n;simp only[beq_self_eq_true]at f4;go_enter func74,ntmps74;go_wp2;refine uQ 1 ?_;rw[rj];go_wp2;go_ret;exact⟨Q,Q⟩
def AB(w:D):Calls prog 39 #[.nilIface] w λa b=>a=ξ (τ #[I X 0,I X (-1)])/\G w b N:=by
 go_enter func39,ntmps39;go_wp2;go_ret2;exact⟨Q,aW (aW (au _ _) _) _⟩
def EU(n:Int)(w:D)(c:Laid w):Calls prog 39 #[.iface 34 (I X n)] w λd f=>d=ξ (τ #[I X n,I X (-1)])/\G w f N:=by
 go_enter func39,ntmps39;go_wp2_with fail;apply(MZ n _ _ ((c.alloc _).alloc _)).mono;rintro e b⟨rfl,a⟩;have c1:κ b ⟨w.heap.size+1,0,N⟩=E (I X 0):=ì a Γ;have g:χ b ⟨w.heap.size+1,0,N⟩=θ:=by rw[World.frozen?_of_block (w:=(w.alloc (ο #[π N] 177)).alloc (ο #[I X 0] 34)) (a.block _ Γ Γ)];simp
 go_wp2_with fail;apply(ER n _ _ _ (((c.alloc _).alloc _).gb a) c1 g).mono;rintro e k⟨rfl,c2,h⟩;go_wp2_with fail;apply(M5 n _).mono;rintro e l⟨rfl,rfl⟩;go_wp2;go_ret2;refine⟨Q,?_⟩
 have i:G w b N:=aq (aW (aW (au w N) _) _) a;exact cO i h (λj e=>by cases e;left;simp)
def EV(w:D):Calls prog 35 #[.nilIface] w λa b=>a=ξ (I X 0)/\G w b N:=by
 go_enter func35,ntmps35;go_wp2_with fail;apply(AB _).mono;rintro e d⟨rfl,c⟩;go_wp2;go_ret;exact⟨Q,c⟩
def M6(n:Int)(w:D)(a:Laid w):Calls prog 35 #[.iface 34 (I X n)] w λb c=>b=ξ (I X n)/\G w c N:=by
 go_enter func35,ntmps35;go_wp2_with fail;apply(EU n _ a).mono;rintro e f⟨rfl,d⟩;go_wp2;go_ret;exact⟨Q,d⟩
def M7(a p:Addr)(W:D)(b:κ W a=E (π (E p))):
 (ReflectliteValue.method (ReflectliteValue.valueError "reflectlite.Value.Elem" 0) ReflectliteValue.elem #[ε #[π (E ⟨1,179,N⟩),π (E a),I U 150]]).run prog W
   =.ok (ε #[π (E ⟨1,177,N⟩),π (E p),I U 406]) W:=by
 refine(jL ..).trans ?_;simp only[Array.getLit,wM,wI,Ev,Result.andThen]
 simp[ReflectliteValue.elem,loadVar,isAgg,underlying,underlying179,b,Result.andThen,MS,MT]
def M8(a:Addr)(w:D):(ReflectliteValue.parts (ε #[π (E ⟨1,177,N⟩),π (E a),I U 406])).run prog w=.ok (E (177,a,406)) w:=Φ
def Na(a:Addr)(w:D):(ReflectliteValue.parts (ε #[π (E ⟨1,177,N⟩),π (E a),I U 150])).run prog w=.ok (E (177,a,150)) w:=Φ
def Nb(w:D):(Rtype.directlyAssignable 177 177).run prog w=.ok ρ w:=Φ
def Nc(a b:Addr)(e:Addr)(jc:υ)(W:D)(c:κ W b=E (π (E e)))(d:κ W a=E jc)(f:χ W a=θ):
 (ReflectliteValue.set #[ε #[π (E ⟨1,177,N⟩),π (E a),I U 406],ε #[π (E ⟨1,177,N⟩),π (E b),I U 150]]).run prog W
   =.ok (τ #[]) (ζ W a (π (E e))):=by
 refine(jL ..).trans ?_;simp only[Array.getLit,wM,wI,List.getElem_cons_succ,jL,M8,Na,Result.andThen]
 simp[ReflectliteValue.flagAddr,loadVar,isAgg,underlying,underlying177,c,Result.andThen,Nb,storeVar,Value.cells,storeCells,Addr.add];rw[run_store prog W a _ _ Ξ];simp[d,f]
def Nd(n:Addr)(t:Addr)(jc:υ)(w:D)(d:Laid w)(a:κ w t=E jc)(f:χ w t=θ):
 Calls prog 73 #[.iface 177 (π (E n)),.iface 179 (π (E t))] w λg e=>g=ξ (β ρ)/\κ e t=E (π (E n))/\G w e (E t.block):=by
 obtain⟨h,i,j,k,l,m,p,q,r,s⟩:=yy;have f1:=Et;have f2:=Eu;have f3:=yu;have f4:=EC;have f5:=Ew ⟨w.heap.size,0,N⟩ t ((w.alloc (ο #[π (E t)] 179)).alloc (ο #[π (E ⟨1,179,N⟩),π (E ⟨w.heap.size,0,N⟩),I U 150] 247)) Γ;have f6:=yv;have f7:=EH;have f8:=ED;have f9:=yw;have f10:=EJ;have f11:=EK;have f12:=yx;have f13:=MO;have f14:=MR;have u:((w.alloc (ο #[π (E t)] 179)).alloc (ο #[π (E ⟨1,179,N⟩),π (E ⟨w.heap.size,0,N⟩),I U 150] 247)).cell? ⟨0,0,N⟩=E (.iface 273 (ε #[π (E ⟨1,97,N⟩)])):=(d.alloc _).alloc _;clear d;have b:t.block<w.heap.size:=eI w t a;have el:=M7 ⟨w.heap.size,0,N⟩ t (((w.alloc (ο #[π (E t)] 179)).alloc (ο #[π (E ⟨1,179,N⟩),π (E ⟨w.heap.size,0,N⟩),I U 150] 247)).alloc (ο #[π (E ⟨1,179,N⟩),π (E ⟨w.heap.size,0,N⟩),I U 150] 247)) (by rw[gp _ _ ⟨w.heap.size,0,N⟩ Ψ];simp);have st:=Nc t ⟨w.heap.size+1+1+1,0,N⟩ n jc ((((w.alloc (ο #[π (E t)] 179)).alloc (ο #[π (E ⟨1,179,N⟩),π (E ⟨w.heap.size,0,N⟩),I U 150] 247)).alloc (ο #[π (E ⟨1,179,N⟩),π (E ⟨w.heap.size,0,N⟩),I U 150] 247)).alloc (ο #[π (E n)] 177))
  (by rw[World.cell?_alloc_at _ _ _ _ Γ];rfl)
  (by rw[gp _ _ t Ψ,gp _ _ t Ψ,gp _ _ t Ψ,gp _ _ t b];exact a)
  (by rw[oY _ _ t Ψ,oY _ _ t Ψ,oY _ _ t Ψ,oY _ _ t (Nat.ne_of_lt b)];exact f)
 have c:((((w.alloc (ο #[π (E t)] 179)).alloc (ο #[π (E ⟨1,179,N⟩),π (E ⟨w.heap.size,0,N⟩),I U 150] 247)).alloc (ο #[π (E ⟨1,179,N⟩),π (E ⟨w.heap.size,0,N⟩),I U 150] 247)).alloc (ο #[π (E n)] 177)).cell? t=E jc:=by rw[gp _ _ t Ψ,gp _ _ t Ψ,gp _ _ t Ψ,gp _ _ t b];exact a
 replace c:=J c;go_enter func73,ntmps73;go_wp2;refine uQ 1 ?_;rw[rj];go_wp2;go_ret;refine⟨Q,?_,aD (aW (aW (aW (aW (au _ _) _) _) _) _) _ _ (ψ Q)⟩
 exact World.cell?_setCell_same' _ _ _ (by rw[Z c];rfl)
def Nf(v:υ)(a:TypeId)(w:D):(Instr.typeAssert (.iface 177 v) a 284 ρ).run prog w=.ok (τ #[.nilIface,β θ]) w:=run_typeAssert_lacksB underlying284 Φ Φ v a w
def EW(v:υ)(a:TypeId)(w:D):(Instr.typeAssert (.iface 177 v) a 280 ρ).run prog w=.ok (τ #[.iface 177 v,β ρ]) w:=run_typeAssert_hasB underlying280 Φ v a w
def EX(v:υ)(w:D):(Go.method 543 177 v "Unwrap").run prog w=.ok (326,v) w:=Φ
def Ng(F:Nat)(n:Int)(w:D)(hF:κ w ⟨F,0,N⟩=E (I X n)):
 Calls prog 74 #[.iface 177 (π (E ⟨F,0,N⟩)),.iface 34 (I X n)] w λa b=>a=ξ (β ρ)/\b=w:=by
 have c:= @og prog 117 _ (ReflectliteType.typeOf) func117 Φ Φ Φ Φ;have d:= @og prog 332 _ (ReflectliteType.method (λt=>do Rtype.noPackHeld "Comparable" t;pure (β (<-typeInfo t).comparable))) func332 Φ Φ Φ Φ;have f1:=vP;have f2:=EG;have f3:=ES;have f4:=ET n n;simp only[beq_self_eq_true]at f4;have e:=run_eql_iface_types (P:=prog) 177 34 (π (E ⟨F,0,N⟩)) (I X n) underlying97 Θ w;have f:=Nf;have g:=EW;have h:=EX;go_enter func74,ntmps74;go_wp2;refine uQ 2 ?_;rw[rj];go_wp2;rw[rj];go_wp2;go_ret;exact⟨Q,Q⟩
def Nh(F:Nat)(n p:Int)(w:D)(d:Laid w)(hF:w.heap[F]?=E (ο #[I X n,I X p] 182 (0,0))):
 Calls prog 39 #[.iface 177 (π (E ⟨F,0,N⟩))] w λf g=>f=ξ (τ #[I X n,I X p])/\G w g N:=by
 have h:F<w.heap.size:=(aV.1 hF).1;go_enter func39,ntmps39;go_wp2_with fail;refine(Nd _ _ (π N) _ ((d.alloc _).alloc _) (by rw[gp _ _ ⟨w.heap.size,0,N⟩ Γ];simp) (by rw[oY _ _ ⟨w.heap.size,0,N⟩ Γ];simp)).mono ?_;rintro e a⟨rfl,c1,b⟩;have c:a.heap[F]?=E (ο #[I X n,I X p] 182 (0,0)):=by
  rw[b.block F Ψ Ψ];exact((aW (aW (au w N) _) _).block F h Γ).trans hF
 have c0:κ a ⟨F,0,N⟩=E (I X n):=by simp[κ,c]
 have c2:κ a ⟨F,1,N⟩=E (I X p):=by simp[κ,c]
 go_wp2_with fail;apply(Ng F n _ c0).mono;rintro e k⟨rfl,rfl⟩;go_wp2_with fail;go_quiet (fail);go_wp2;go_ret2;refine⟨Q,?_⟩
 have i:G w ((w.alloc (ο #[π N] 177)).alloc (ο #[I X 0] 34)) N:=aW (aW (au w N) _) _;exact cu (cO i b (λj e=>by cases e;left;simp)) _
def Ni(v:υ)(a:TypeId)(w:D):(Instr.typeAssert (.iface 177 v) a 277 ρ).run prog w=.ok (τ #[.nilIface,β θ]) w:=run_typeAssert_lacksB underlying277 Φ Φ v a w
def Nj(F:Nat)(n:Int)(t:Addr)(jc:υ)(w:D)(e:Laid w)(hF:κ w ⟨F,0,N⟩=E (I X n))(a:κ w t=E jc)(f:χ w t=θ):
 Calls prog 73 #[.iface 177 (π (E ⟨F,0,N⟩)),.iface 183 (π (E t))] w λg d=>g=ξ (β ρ)/\κ d t=E (I X n)/\G w d (E t.block):=by
 obtain⟨i,j,k,l,m,p,q,r,s,u⟩:=yy;have f1:=Ex;have f2:=Ey;have f3:=yu;have f4:=EE;have f5:=EA ⟨w.heap.size,0,N⟩ t ((w.alloc (ο #[π (E t)] 183)).alloc (ο #[π (E ⟨1,183,N⟩),π (E ⟨w.heap.size,0,N⟩),I U 150] 247)) Γ;have f6:=yv;have f7:=EI;have f8:=EF;have f9:=yw;have f10:=EL;have f11:=vP;have f12:=yx;have f13:=EM;have f14:=EN;have f15:=EK;have f16:=MP;have f17:=Ni;have f18:=EW;have f19:=EX;have h:F<w.heap.size:=eI w _ hF;have v:((w.alloc (ο #[π (E t)] 183)).alloc (ο #[π (E ⟨1,183,N⟩),π (E ⟨w.heap.size,0,N⟩),I U 150] 247)).cell? ⟨0,0,N⟩=E (.iface 273 (ε #[π (E ⟨1,97,N⟩)])):=(e.alloc _).alloc _;have b:t.block<w.heap.size:=eI w t a;have el:=EO ⟨w.heap.size,0,N⟩ t (((w.alloc (ο #[π (E t)] 183)).alloc (ο #[π (E ⟨1,183,N⟩),π (E ⟨w.heap.size,0,N⟩),I U 150] 247)).alloc (ο #[π (E ⟨1,183,N⟩),π (E ⟨w.heap.size,0,N⟩),I U 150] 247)) (by rw[gp _ _ ⟨w.heap.size,0,N⟩ Ψ];simp);have st:=EP t ⟨w.heap.size+1+1+1,0,N⟩ n jc ((((w.alloc (ο #[π (E t)] 183)).alloc (ο #[π (E ⟨1,183,N⟩),π (E ⟨w.heap.size,0,N⟩),I U 150] 247)).alloc (ο #[π (E ⟨1,183,N⟩),π (E ⟨w.heap.size,0,N⟩),I U 150] 247)).alloc (ο #[I X n] 34))
  (by rw[World.cell?_alloc_at _ _ _ _ Γ];rfl)
  (by rw[gp _ _ t Ψ,gp _ _ t Ψ,gp _ _ t Ψ,gp _ _ t b];exact a)
  (by rw[oY _ _ t Ψ,oY _ _ t Ψ,oY _ _ t Ψ,oY _ _ t (Nat.ne_of_lt b)];exact f)
 have c:((((w.alloc (ο #[π (E t)] 183)).alloc (ο #[π (E ⟨1,183,N⟩),π (E ⟨w.heap.size,0,N⟩),I U 150] 247)).alloc (ο #[π (E ⟨1,183,N⟩),π (E ⟨w.heap.size,0,N⟩),I U 150] 247)).alloc (ο #[I X n] 34)).cell? t=E jc:=by rw[gp _ _ t Ψ,gp _ _ t Ψ,gp _ _ t Ψ,gp _ _ t b];exact a
 replace c:=J c;have x:(((w.alloc (ο #[π (E t)] 183)).alloc (ο #[π (E ⟨1,183,N⟩),π (E ⟨w.heap.size,0,N⟩),I U 150] 247)).alloc (ο #[π (E ⟨1,183,N⟩),π (E ⟨w.heap.size,0,N⟩),I U 150] 247)).cell? ⟨F,0,N⟩=E (I X n):=by rw[gp _ _ ⟨F,0,N⟩ Ψ,gp _ _ ⟨F,0,N⟩ Ψ,gp _ _ ⟨F,0,N⟩ h];exact hF
 go_enter func73,ntmps73;go_wp2;refine uQ 2 ?_;rw[rj];go_wp2;rw[rj];go_wp2;go_ret;refine⟨Q,?_,aD (aW (aW (aW (aW (au _ _) _) _) _) _) _ _ (ψ Q)⟩
 exact World.cell?_setCell_same' _ _ _ (by rw[Z c];rfl)
