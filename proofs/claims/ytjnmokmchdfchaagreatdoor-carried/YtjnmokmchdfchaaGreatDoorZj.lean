import Derived.Carry
import Derived.ChangeMaps5
import Derived.ChangeSame
import Derived.ChangeVars
import Derived.Deep.DeepHandedRow
import Derived.Deep.SlicePairs
import Derived.JoinedOf
import Derived.LaidHandle
import Derived.LaidLaws
import Derived.OpenShut
import Derived.RowKit
import Derived.SevenTiedAt
import Derived.Stop.Joined
import Derived.Test.YtjnmokmchdfchaaGreatDoorCards
import Derived.Test.YtjnmokmchdfchaaGreatDoorRows
import Derived.Test.YtjnmokmchdfchaaGreatDoorTie
import Derived.Test.YtjnmokmchdfchaaGreatDoorZi
set_option maxRecDepth 1000000
set_option maxHeartbeats 8000000
set_option linter.all false
namespace Go.Proofs.YtjnmokmchdfchaaGreatDoor
open Go.ChangeShapes Go.WideShapes Go.RowKit Go.Deep Tryz Go.Proofs.Tryz
variable{W w:World}
theorem Q5:ownKnob prog.godebug=none:=by kernel_rfl
theorem Q6:prog.globalNamed "errors.errorType" =some 0:=by kernel_rfl
theorem Q7:(prog.cutTypes.find? (·.1== "internal/reflectlite.rtype")).map (·.2)=some 273:=by kernel_rfl
theorem Q8:((List.range (543-100)).filter λt=>prog.rowNamed t [101,114,114,111,114])=[97]:=by kernel_rfl
theorem Q9:prog.types.size=543-100:=by kernel_rfl
theorem Ra{W:World}(h:laidMetH prog [("errors.errorType",Rows.laid_errors_errorType)] W):Laid W:=by
 have c:laidMet prog [] W/\handlesMet prog [("errors.errorType",Rows.laid_errors_errorType)] W:=h;obtain⟨name,u,ty,e1,e2,d,e,a⟩:=c.2 _ (cS.2 rfl);have en:name=[101,114,114,111,114]:=(aO e1).symm;subst en;obtain rfl:=aO (Q7.symm.trans e2);have b:ty∈(List.range (543-100)).filter λt=>prog.rowNamed t [101,114,114,111,114]:=iy.2 ⟨List.mem_range.2 (by rw[<-Q9];exact d),e⟩
 rw[Q8]at b;obtain rfl:=cS.1 b;have f:typeHandle prog 97=.pointer (some ⟨1,97,none⟩):=by kernel_rfl
 rw[f]at a;have:=World.var?_cell Q6 a 0;simpa [Laid]using this
theorem Rb(os:Os)(args:Array Value):laidMetH prog [("errors.errorType",Rows.laid_errors_errorType)] (({World.holding prog os ⟨#[],#[],[]⟩with heap:=(World.holding prog os ⟨#[],#[],[]⟩).heap.modify 0 λ|.cells _ t frozen=>.cells #[.iface 273 (.agg #[.pointer (some ⟨1,97,none⟩)])] t frozen|o=>o}:World).forCall (λ_ _=>0) ⟨#[],args,[]⟩).memory:=
 laidMetH_of_parts (laidMet_nil _ _) (by kernel_rfl)
theorem Rc{w a:World}(g:w.grownBy a none)(may:MemPlace->Prop):w.keptBut a may:=by
 refine⟨g.os,g.output,λi hi=>?_⟩
 rw[g.block i hi (by simp)];cases h:w.heap[i]? with
 |none=>rfl
 |some o=>cases o<;>simp
theorem sO{z:Int}(h:(Lit.int .i64 z).wf=true):dz z:=by
 simp[Lit.wf,IntKind.min,IntKind.max,IntKind.bits,IntKind.signed]at h;unfold dz;omega
theorem Re:prog.cellsOf 3=1:=by kernel_rfl
theorem Rf:prog.cellsOf 9=1:=by kernel_rfl
section
variable {H:Type} {enc:TypeId×Value->H} {w:World}
theorem E0:prog.cellsOf 137=5:=by kernel_rfl
theorem E1{α:Type}{l:List α}(h:l.length=5):∃a b c d e,l=[a,b,c,d,e]:=by
 match l,h with
 |[a,b,c,d,e],_=>exact⟨a,b,c,d,e,rfl⟩
theorem Rh{l:Nat}{cs:List Value}{x:DataW H×List MemPlace}(h:DataW.trod enc prog w 0 (λ_=>true) true l 137 cs=some x):
 ∃s:cR,cs=(cZ s).toList/\((∀a∈x.1.weights prog 137,a<=reachBytes)->uw s):=by
 obtain⟨A,n,-,rfl,c,m,a⟩:=DataW.trod_struct underlying137 h;rw[E0]at c;obtain⟨B,C,D,E,F,rfl⟩:=E1 c;obtain⟨G,I,K,L,M,rfl⟩:=E1 m;have d:=a 0 _ rfl;have e:=a 1 _ rfl;have f:=a 2 _ rfl;have g:=a 3 _ rfl;have i:=a 4 _ rfl;simp[Re,Rf]at d e f g i;obtain⟨p,e0,-,q⟩:=DataW.trod_int underlying3 d;obtain⟨r,e1,-,t⟩:=DataW.trod_int underlying3 e;obtain⟨z2,e2,-,u⟩:=DataW.trod_int underlying3 f;obtain⟨v,j,-,k3⟩:=DataW.trod_int underlying3 g;obtain⟨b,k,rfl,-⟩:=DataW.trod_string underlying9 i;simp only[List.cons.injEq,and_true]at e0 e1 e2 j k;subst e0 e1 e2 j k;refine⟨⟨p,r,z2,v,b⟩,rfl,λy=>⟨sO q,sO t,sO u,sO k3,y _ (by simp[DataW.weights,DataW.weightsEach,underlying137])⟩⟩
theorem Ri{e:TypeId}{d:DataW H}{a:Nat}(i:a∈d.weights prog e):∀{l:List (DataW H)},d∈l->a∈DataW.weightsAll prog e l:=by
 intro l;induction l with
 |nil=>intro h;cases h
 |cons c l b=>
  intro h;simp only[DataW.weightsAll,List.mem_append]
  obtain rfl|h:=fk.1 h
  exact .inl i;exact .inr (b h)
theorem Rj{p:Nat}{a:Option Addr}{n cap:Nat}{x:DataW H×List MemPlace}(r:∀y,a=some y->y.spot=none)(h:DataW.trod enc prog w 0 (λ_=>true) true p 51 [.slice a n cap]=some x)(t:∀a∈x.1.weights prog 51,a<=reachBytes):
 ∃u,pV w a n cap u:=by
 obtain⟨e,rfl⟩|⟨b,len,G,m,I,D,K,e,-,hl,hm,d,rfl,f⟩:=open_slice underlying51 h
 simp only[List.cons.injEq,and_true,Value.slice.injEq]at e;obtain⟨rfl,rfl,rfl⟩:=e;exact⟨[],rfl,aP _,by simp[maxLen],λs hs=>(by cases hs),.inl rfl⟩
 simp only[List.cons.injEq,and_true,Value.slice.injEq]at e;obtain⟨rfl,rfl,rfl⟩:=e;simp only[eX]at d;subst d;have g:b=⟨b.block,b.off,none⟩:=by
  obtain⟨b1,b2,z⟩:=b;obtain rfl:z=none:=r _ rfl;rfl
 rw[E0]at f;have each:∀i,i<n->∃q:cR,w.rangeAt b.block (b.off+i*5) (cZ q).toList/\uw q:=λi hi=>by
  obtain⟨L,A,B⟩:=f i (by omega);obtain⟨s,rfl,c⟩:=Rh B;replace c:=c λa ha=>t a (by simp only[DataW.weights,underlying51,List.mem_cons,List.mem_append];exact .inr (.inl (Ri ha (eQ.2 ⟨i,List.mem_range.2 hi,rfl⟩))))
  obtain⟨-,M,C⟩:=World.cells?_some A;refine⟨s,λj v k=>?_,c⟩
  have E:j<5:=by have:=(kF.1 k).1;simpa [cZ]using this
  have:=C j E;rw[g,add_add,add_plain,k]at this;rw[qc];exact this
 have:Inhabited cR:=⟨⟨0,0,0,0,ByteArray.empty⟩⟩
 obtain⟨q,l⟩:=choose_lt each;have F:∀i,i<n->jN ((List.range n).map λi=>q i) i=q i:=λi hi=>by
  simp[jN,List.getD,hi]
 refine⟨(List.range n).map λi=>q i,by simp,hl,hm,λs hs=>?_,.inr ⟨b.block,b.off,fm some g,λi hi=>?_⟩⟩
 obtain⟨i,hi,rfl⟩:=eQ.1 hs;exact(l i (List.mem_range.1 hi)).2;simp only[dA,List.length_range]at hi;rw[F i hi];exact(l i hi).1
end
theorem Rk:laidOutB prog=true:=by kernel_rfl
theorem Rl(g:W.grownBy w none):Below W.heap.size W w:=(Below.refl _ W).grown g (aP _) (λk h=>by cases h)
theorem Rm(os:Os){H:Type}(enc:TypeId×Value->H):∃a,DataW.whole enc prog (({World.holding prog os ⟨#[],#[],[]⟩with heap:=(World.holding prog os ⟨#[],#[],[]⟩).heap.modify 0 λ|.cells _ t frozen=>.cells #[.iface 273 (.agg #[.pointer (some ⟨1,97,none⟩)])] t frozen|o=>o}:World).forCall (λ_ _=>0) ⟨#[],#[.slice none 0 0,.int .i64 0,.int .i64 0],[]⟩).memory f6.params.toList Rows.carriedSpec.vars false #[Value.slice none 0 0,.int .i64 0,.int .i64 0].toList 8=some ([.nil,.lit (.int .i64 0),.lit (.int .i64 0)],[],a):=
 ⟨[],by kernel_rfl⟩
theorem Rn(os:Os)(G:os.Started)(H:Type)(enc:TypeId×Value->H)(F:Stop.Interp):
 ReturnsInHanded {} checked os 6 .any ((OpenSpec.ofChange Rows.carriedSpec).preRow enc prog f6 Rows.carriedRow.domain false Rows.carriedRow.laid)
  (((OpenSpec.ofChange Rows.carriedSpec).at F).post enc prog f6 false true false false):=by
 obtain⟨a2,d⟩:=Rm os enc;refine returnsInHanded_of_row (C:=checked) (s:=OpenSpec.ofChange Rows.carriedSpec) Q5 G (by kernel_rfl) func6
  (witness_row_at (enc:=enc) (C:=checked) false ({World.holding prog os ⟨#[],#[],[]⟩with heap:=(World.holding prog os ⟨#[],#[],[]⟩).heap.modify 0 λ|.cells _ t frozen=>.cells #[.iface 273 (.agg #[.pointer (some ⟨1,97,none⟩)])] t frozen|o=>o}:World) #[.slice none 0 0,.int .i64 0,.int .i64 0] rfl (by kernel_rfl) (by kernel_rfl) (by kernel_rfl)
    (OpenSpec.preRow_of_cond 8 d (by kernel_rfl) (λk f=>by cases f) (by kernel_rfl) (Rb os _))) ?_
 intro W I args K L a3 M i _ _ l N _ _;have c:∀(j:Nat) t v,f6.params[j]?=some t->args[j]?=some v->Value.okWide prog W .any I t v:=M;have m:=i;obtain⟨p,q,O,P,rfl,a4,a8⟩:=i;have r:DataW.TrodAll enc prog W 0 (λ_=>true) true f6.params.toList args.toList K p:=O;have Q:DataW.TrodVars enc prog W (λ_=>true) [] L q:=P;rw[params6]at r c;obtain⟨u,a9,d0,bb,p0,q0,br,rfl,rfl,h0,R⟩:=trodAll_cons r;obtain⟨w,bt,d1,bx,p1,q1,rfl,rfl,rfl,S,T⟩:=trodAll_cons R;obtain⟨z,b0,d2,b3,p2,q2,rfl,rfl,rfl,U,V⟩:=trodAll_cons T;obtain⟨rfl,rfl,rfl⟩:=trodAll_nil V;obtain rfl:args= #[u,w,z]:=by cases args;simp_all
 obtain⟨rfl,rfl⟩:=trodVars_none Q;have f:∀a∈d0.weights checked.prog 51,a<=reachBytes:=λa ha=>of_decide_eq_true (List.all_eq_true.1 l a (by rw[params6];simp[DataW.weightsEach,ha]));clear l;have g:=c 0 _ u rfl rfl;obtain⟨a,n,cap,rfl⟩:=okWide_slice underlying51 g;obtain⟨b,rfl,rfl,rfl,B⟩:=open_int underlying3 (c 1 _ w rfl rfl) S;obtain⟨k,rfl,rfl,rfl,D⟩:=open_int underlying3 (c 2 _ z rfl rfl) U;have X:∀y,a=some y->y.spot=none:=λy Y=>by
  subst Y;simp only[Value.okWide,Cell.okWide,Cell.ok]at g;exact g.2.2.2.1
 obtain⟨b5,hf⟩:=id h0;obtain⟨ss,aC⟩:=Rj X (by simpa [Value.cells]using hf) (by exact f)
 have a0:∀x∈p0,x.block<W.heap.size:=λx d=>by simpa using m.lt x (by simp[d])
 refine(Q4 W (Ra N) a n cap ss aC b k (sO B) (sO D)).mono λe W' ⟨he,E⟩=>?_
 subst he;refine⟨_,rfl,_,_,_,[],p0,[],m,?_,?_,?_,Rc E _,λh=>by cases h⟩
 exact trodAll_cons_mk (shut_bool underlying4 true) trodAll_mk0;have:=trodAll_cons_mk (p:=p0) (Below.trod Rk (by kernel_rfl) (of_decide_eq_true (by kernel_rfl)) h0 (Rl E) a0) (trodAll_cons_mk (p:=[]) (shut_int underlying3 B) (trodAll_cons_mk (p:=[]) (shut_int underlying3 D) trodAll_mk0));simp only[ot]at this;exact this;rfl
theorem Ro:prog.inPlace 6=Rows.carriedRow.inPlace:=by kernel_rfl
theorem Rp:prog.unfollowed 6=true:=by kernel_rfl
theorem Rq:prog.recurses 6=true:=by kernel_rfl
theorem Rr:prog.varsNamed 6=Rows.carriedRow.named:=by kernel_rfl
theorem Rt:joinedFacts prog 6 f6 (OpenSpec.ofChange Rows.carriedSpec).bare Rows.carriedRow=true:=by
 unfold joinedFacts;rw[Ro,Rp,Rq,Rr];kernel_rfl
theorem Ru:Rows.CarriedSaid:=
 OpenClaim.holds_of_cond 6 f6 rfl rfl rfl rfl rfl rfl rfl ⟨rfl,rfl,rfl,rfl,rfl⟩ rfl rfl rfl rfl rfl (by kernel_rfl) func6 Rt
  (of_decide_eq_true (by kernel_rfl)) (by unfold Func.isWrapper;rw[ah (of_decide_eq_false (by kernel_rfl))];exact⟨rfl,rfl⟩)
  (λos a H enc _ F=>by rw[OpenClaim.pre_eq_preRow];exact Rn os a H enc F)
theorem Rv(f:FuncId)(a:Func)(c:pinned.checked.prog.funcNamed "sealstream/sealstreamkeep.Carried" =some f)(d:pinned.checked.prog.funcs[f]?=some a):
 true=pinned.checked.prog.looks []/\∀(j:Nat) t,a.params[j]?=some t->pinned.checked.prog.wantsStandIn t=false:=by
 obtain rfl:f=6:=aO ((show prog.funcNamed "sealstream/sealstreamkeep.Carried" =some 6 by kernel_rfl).symm.trans c)|>.symm;obtain rfl:a=f6:=(aO (func6.symm.trans d)).symm;refine⟨by kernel_rfl,λj t b=>?_⟩
 rw[params6]at b;have h:=Array.mem_of_getElem? b;simp only[List.mem_toArray,fk,qG,oT]at h;obtain rfl|rfl|rfl:=h
 exact(show prog.wantsStandIn 51=false by kernel_rfl)
 exact(show prog.wantsStandIn 3=false by kernel_rfl)
 exact(show prog.wantsStandIn 3=false by kernel_rfl)
theorem carried_holds:Rows.CarriedCardSaid:=
 ⟨Claim7.tied_new_at .later [.handle] true (Claim7.new_of_sixth Ru Rows.carriedCard.stood.harness true rfl ⟨rfl,rfl⟩ (by kernel_rfl) rfl Rv) (by kernel_rfl),λ_ h=>(by cases h),carried_row_tie,λh=>(by cases h),by kernel_rfl⟩
