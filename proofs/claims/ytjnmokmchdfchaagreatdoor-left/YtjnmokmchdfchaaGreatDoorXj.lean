import Derived.Carry
import Derived.ChangeMaps5
import Derived.ChangeSame
import Derived.ChangeVars
import Derived.Deep.DeepHandedRow
import Derived.Deep.SlicePairs
import Derived.JoinedOf
import Derived.LaidHandle
import Derived.LaidLaws
import Derived.OpenShut
import Derived.RowKit
import Derived.SevenTiedAt
import Derived.Stop.Joined
import Derived.Test.YtjnmokmchdfchaaGreatDoorCards
import Derived.Test.YtjnmokmchdfchaaGreatDoorRows
import Derived.Test.YtjnmokmchdfchaaGreatDoorTie
import Derived.Test.YtjnmokmchdfchaaGreatDoorXi
set_option maxRecDepth 1000000
set_option maxHeartbeats 0
set_option linter.all false
namespace Go.Proofs.YtjnmokmchdfchaaGreatDoor
open Go.ChangeShapes Go.WideShapes Go.RowKit Go.Deep Tryz Go.Proofs.Tryz
variable{W w:World}
def RO:ownKnob prog.godebug=none:=by kernel_rfl
def RP:prog.globalNamed "errors.errorType" =some 0:=by kernel_rfl
def RQ:(prog.cutTypes.find? (·.1== "internal/reflectlite.rtype")).map (·.2)=some 273:=by kernel_rfl
def RR:((List.range (543-100)).filter λt=>prog.rowNamed t [101,114,114,111,114])=[97]:=by kernel_rfl
def RS:prog.types.size=543-100:=by kernel_rfl
def RT{W:World}(h:laidMetH prog [("errors.errorType",Rows.laid_errors_errorType)] W):Laid W:=by
 have c:laidMet prog [] W/\handlesMet prog [("errors.errorType",Rows.laid_errors_errorType)] W:=h;obtain⟨name,u,ty,e1,e2,d,e,a⟩:=c.2 _ (cL.2 rfl);have en:name=[101,114,114,111,114]:=(aQ e1).symm;subst en;obtain rfl:=aQ (RQ.symm.trans e2);have b:ty∈(List.range (543-100)).filter λt=>prog.rowNamed t [101,114,114,111,114]:=iG.2 ⟨List.mem_range.2 (by rw[<-RS];exact d),e⟩
 rw[RR]at b;obtain rfl:=cL.1 b;have f:typeHandle prog 97=.pointer (some ⟨1,97,none⟩):=by kernel_rfl
 rw[f]at a;have:=World.var?_cell RP a 0;simpa [Laid]using this
def RU(os:Os)(args:Array Value):laidMetH prog [("errors.errorType",Rows.laid_errors_errorType)] (({World.holding prog os ⟨#[],#[],[]⟩with heap:=(World.holding prog os ⟨#[],#[],[]⟩).heap.modify 0 λ|.cells _ t frozen=>.cells #[.iface 273 (.agg #[.pointer (some ⟨1,97,none⟩)])] t frozen|o=>o}:World).forCall (λ_ _=>0) ⟨#[],args,[]⟩).memory:=
 laidMetH_of_parts (laidMet_nil _ _) (by kernel_rfl)
def RV{w a:World}(g:w.grownBy a none)(may:MemPlace->Prop):w.keptBut a may:=by
 refine⟨g.os,g.output,λi hi=>?_⟩
 rw[g.block i hi (by simp)];cases h:w.heap[i]? with
 |none=>rfl
 |some o=>cases o<;>simp
def rO{z:Int}(h:(Lit.int .i64 z).wf=true):dq z:=by
 simp[Lit.wf,IntKind.min,IntKind.max,IntKind.bits,IntKind.signed]at h;unfold dq;omega
def RW:prog.cellsOf 3=1:=by kernel_rfl
def RX:prog.cellsOf 9=1:=by kernel_rfl
section
variable {H:Type} {enc:TypeId×Value->H} {w:World}
def FC:prog.cellsOf 137=5:=by kernel_rfl
def FD{α:Type}{l:List α}(h:l.length=5):∃a b c d e,l=[a,b,c,d,e]:=by
 match l,h with
 |[a,b,c,d,e],_=>exact⟨a,b,c,d,e,rfl⟩
def RY{l:Nat}{cs:List Value}{x:DataW H×List MemPlace}(h:DataW.trod enc prog w 0 (λ_=>true) true l 137 cs=some x):
 ∃s:cY,cs=(di s).toList/\((∀a∈x.1.weights prog 137,a<=reachBytes)->uV s):=by
 obtain⟨A,n,-,rfl,c,m,a⟩:=DataW.trod_struct underlying137 h;rw[FC]at c;obtain⟨B,C,D,E,F,rfl⟩:=FD c;obtain⟨G,I,K,L,M,rfl⟩:=FD m;have d:=a 0 _ rfl;have e:=a 1 _ rfl;have f:=a 2 _ rfl;have g:=a 3 _ rfl;have i:=a 4 _ rfl;simp[RW,RX]at d e f g i;obtain⟨p,e0,-,q⟩:=DataW.trod_int underlying3 d;obtain⟨r,e1,-,t⟩:=DataW.trod_int underlying3 e;obtain⟨z2,e2,-,u⟩:=DataW.trod_int underlying3 f;obtain⟨v,j,-,k3⟩:=DataW.trod_int underlying3 g;obtain⟨b,k,rfl,-⟩:=DataW.trod_string underlying9 i;simp only[List.cons.injEq,and_true]at e0 e1 e2 j k;subst e0 e1 e2 j k;refine⟨⟨p,r,z2,v,b⟩,rfl,λy=>⟨rO q,rO t,rO u,rO k3,y _ (by simp[DataW.weights,DataW.weightsEach,underlying137])⟩⟩
def RZ{e:TypeId}{d:DataW H}{a:Nat}(i:a∈d.weights prog e):∀{l:List (DataW H)},d∈l->a∈DataW.weightsAll prog e l:=by
 intro l;induction l with
 |nil=>intro h;cases h
 |cons c l b=>
  intro h;simp only[DataW.weightsAll,List.mem_append]
  obtain rfl|h:=fF.1 h
  exact .inl i;exact .inr (b h)
def R3{p:Nat}{a:Option Addr}{n cap:Nat}{x:DataW H×List MemPlace}(r:∀y,a=some y->y.spot=none)(h:DataW.trod enc prog w 0 (λ_=>true) true p 51 [.slice a n cap]=some x)(t:∀a∈x.1.weights prog 51,a<=reachBytes):
 ∃u,qi w a n cap u:=by
 obtain⟨e,rfl⟩|⟨b,len,G,m,I,D,K,e,-,hl,hm,d,rfl,f⟩:=open_slice underlying51 h
 simp only[List.cons.injEq,and_true,Value.slice.injEq]at e;obtain⟨rfl,rfl,rfl⟩:=e;exact⟨[],rfl,aR _,by simp[maxLen],λs hs=>(by cases hs),.inl rfl⟩
 simp only[List.cons.injEq,and_true,Value.slice.injEq]at e;obtain⟨rfl,rfl,rfl⟩:=e;simp only[fu]at d;subst d;have g:b=⟨b.block,b.off,none⟩:=by
  obtain⟨b1,b2,z⟩:=b;obtain rfl:z=none:=r _ rfl;rfl
 rw[FC]at f;have each:∀i,i<n->∃q:cY,w.rangeAt b.block (b.off+i*5) (di q).toList/\uV q:=λi hi=>by
  obtain⟨L,A,B⟩:=f i (by omega);obtain⟨s,rfl,c⟩:=RY B;replace c:=c λa ha=>t a (by simp only[DataW.weights,underlying51,List.mem_cons,List.mem_append];exact .inr (.inl (RZ ha (fg.2 ⟨i,List.mem_range.2 hi,rfl⟩))))
  obtain⟨-,M,C⟩:=World.cells?_some A;refine⟨s,λj v k=>?_,c⟩
  have E:j<5:=by have:=(kQ.1 k).1;simpa [di]using this
  have:=C j E;rw[g,add_add,add_plain,k]at this;rw[qx];exact this
 have:Inhabited cY:=⟨⟨0,0,0,0,ByteArray.empty⟩⟩
 obtain⟨q,l⟩:=choose_lt each;have F:∀i,i<n->jU ((List.range n).map λi=>q i) i=q i:=λi hi=>by
  simp[jU,List.getD,hi]
 refine⟨(List.range n).map λi=>q i,by simp,hl,hm,λs hs=>?_,.inr ⟨b.block,b.off,fG some g,λi hi=>?_⟩⟩
 obtain⟨i,hi,rfl⟩:=fg.1 hs;exact(l i (List.mem_range.1 hi)).2;simp only[dH,List.length_range]at hi;rw[F i hi];exact(l i hi).1
end
def Si:laidOutB prog=true:=by kernel_rfl
def Sj(g:W.grownBy w none):Below W.heap.size W w:=(Below.refl _ W).grown g (aR _) (λk h=>by cases h)
def Sk(os:Os){H:Type}(enc:TypeId×Value->H):∃a,DataW.whole enc prog (({World.holding prog os ⟨#[],#[],[]⟩with heap:=(World.holding prog os ⟨#[],#[],[]⟩).heap.modify 0 λ|.cells _ t frozen=>.cells #[.iface 273 (.agg #[.pointer (some ⟨1,97,none⟩)])] t frozen|o=>o}:World).forCall (λ_ _=>0) ⟨#[],#[.slice none 0 0,.int .i64 0,.int .i64 0,.int .i64 0,.bool false],[]⟩).memory f10.params.toList Rows.leftSpec.vars false #[Value.slice none 0 0,.int .i64 0,.int .i64 0,.int .i64 0,.bool false].toList 8=some ([.nil,.lit (.int .i64 0),.lit (.int .i64 0),.lit (.int .i64 0),.lit (.bool false)],[],a):=
 ⟨[],by kernel_rfl⟩
def Sl(os:Os)(L:os.Started)(H:Type)(enc:TypeId×Value->H)(F:Stop.Interp):
 ReturnsInHanded {} checked os 10 .any ((OpenSpec.ofChange Rows.leftSpec).preRow enc prog f10 Rows.leftRow.domain false Rows.leftRow.laid)
  (((OpenSpec.ofChange Rows.leftSpec).at F).post enc prog f10 false true false false):=by
 obtain⟨br,d⟩:=Sk os enc;refine returnsInHanded_of_row (C:=checked) (s:=OpenSpec.ofChange Rows.leftSpec) RO L (by kernel_rfl) func10
  (witness_row_at (enc:=enc) (C:=checked) false ({World.holding prog os ⟨#[],#[],[]⟩with heap:=(World.holding prog os ⟨#[],#[],[]⟩).heap.modify 0 λ|.cells _ t frozen=>.cells #[.iface 273 (.agg #[.pointer (some ⟨1,97,none⟩)])] t frozen|o=>o}:World) #[.slice none 0 0,.int .i64 0,.int .i64 0,.int .i64 0,.bool false] rfl (by kernel_rfl) (by kernel_rfl) (by kernel_rfl)
    (OpenSpec.preRow_of_cond 8 d (by kernel_rfl) (λk f=>by cases f) (by kernel_rfl) (RU os _))) ?_
 intro W M args N O bt P i _ _ l Q _ _;have c:∀(j:Nat) t v,f10.params[j]?=some t->args[j]?=some v->Value.okWide prog W .any M t v:=P;have m:=i;obtain⟨p,q,R,S,rfl,bx,bz⟩:=i;have r:DataW.TrodAll enc prog W 0 (λ_=>true) true f10.params.toList args.toList N p:=R;have T:DataW.TrodVars enc prog W (λ_=>true) [] O q:=S;rw[params10]at r c;obtain⟨u,bM,d0,b0,p0,q0,b4,rfl,rfl,h0,U⟩:=trodAll_cons r;obtain⟨w,b5,d1,b6,p1,q1,rfl,rfl,rfl,V,X⟩:=trodAll_cons U;obtain⟨z,ca,d2,ch,p2,q2,rfl,rfl,rfl,Y,r2⟩:=trodAll_cons X;obtain⟨A,cp,d3,cv,p3,q3,rfl,rfl,rfl,h3,r3⟩:=trodAll_cons r2;obtain⟨B,cx,d4,cy,p4,q4,rfl,rfl,rfl,h4,r4⟩:=trodAll_cons r3;obtain⟨rfl,rfl,rfl⟩:=trodAll_nil r4;obtain rfl:args= #[u,w,z,A,B]:=by cases args;simp_all
 obtain⟨rfl,rfl⟩:=trodVars_none T;have f:∀a∈d0.weights checked.prog 51,a<=reachBytes:=λa ha=>of_decide_eq_true (List.all_eq_true.1 l a (by rw[params10];simp[DataW.weightsEach,ha]));clear l;have g:=c 0 _ u rfl rfl;obtain⟨a,n,cap,rfl⟩:=okWide_slice underlying51 g;obtain⟨b,rfl,rfl,rfl,E⟩:=open_int underlying3 (c 1 _ w rfl rfl) V;obtain⟨k,rfl,rfl,rfl,G⟩:=open_int underlying3 (c 2 _ z rfl rfl) Y;obtain⟨co,rfl,rfl,rfl,I⟩:=open_int underlying3 (c 3 _ A rfl rfl) h3;obtain⟨cm,rfl,rfl,rfl⟩:=open_bool underlying4 (c 4 _ B rfl rfl) h4;have a2:∀y,a=some y->y.spot=none:=λy hy=>by
  subst hy;simp only[Value.okWide,Cell.okWide,Cell.ok]at g;exact g.2.2.2.1
 obtain⟨cB,hf⟩:=id h0;obtain⟨ss,a9⟩:=R3 a2 (by simpa [Value.cells]using hf) (by exact f)
 have bb:∀x∈p0,x.block<W.heap.size:=λx d=>by simpa using m.lt x (by simp[d])
 refine(Sg W (RT Q) a n cap ss a9 b k co (rO E) (rO G) (rO I) cm).mono λe W' ⟨he,K⟩=>?_
 subst he;refine⟨_,rfl,_,_,_,[],p0,[],m,?_,?_,?_,RV K _,λh=>by cases h⟩
 exact trodAll_cons_mk (shut_bool underlying4 true) trodAll_mk0;have:=trodAll_cons_mk (p:=p0) (Below.trod Si (by kernel_rfl) (of_decide_eq_true (by kernel_rfl)) h0 (Sj K) bb) (trodAll_cons_mk (p:=[]) (shut_int underlying3 E) (trodAll_cons_mk (p:=[]) (shut_int underlying3 G) (trodAll_cons_mk (p:=[]) (shut_int underlying3 I) (trodAll_cons_mk (p:=[]) (shut_bool underlying4 cm) trodAll_mk0))));simp only[oL]at this;exact this;rfl
def Sn:prog.inPlace 10=Rows.leftRow.inPlace:=by kernel_rfl
def So:prog.unfollowed 10=true:=by kernel_rfl
def Sp:prog.recurses 10=true:=by kernel_rfl
def Sq:prog.varsNamed 10=Rows.leftRow.named:=by kernel_rfl
def Sr:joinedFacts prog 10 f10 (OpenSpec.ofChange Rows.leftSpec).bare Rows.leftRow=true:=by
 unfold joinedFacts;rw[Sn,So,Sp,Sq];kernel_rfl
def Ss:Rows.LeftSaid:=
 OpenClaim.holds_of_cond 10 f10 rfl rfl rfl rfl rfl rfl rfl ⟨rfl,rfl,rfl,rfl,rfl⟩ rfl rfl rfl rfl rfl (by kernel_rfl) func10 Sr
  (of_decide_eq_true (by kernel_rfl)) (by unfold Func.isWrapper;rw[az (of_decide_eq_false (by kernel_rfl))];exact⟨rfl,rfl⟩)
  (λos a H enc _ F=>by rw[OpenClaim.pre_eq_preRow];exact Sl os a H enc F)
def Su(f:FuncId)(a:Func)(c:pinned.checked.prog.funcNamed "sealstream/sealstreamkeep.Left" =some f)(d:pinned.checked.prog.funcs[f]?=some a):
 true=pinned.checked.prog.looks []/\∀(j:Nat) t,a.params[j]?=some t->pinned.checked.prog.wantsStandIn t=false:=by
 obtain rfl:f=10:=aQ ((show prog.funcNamed "sealstream/sealstreamkeep.Left" =some 10 by kernel_rfl).symm.trans c)|>.symm;obtain rfl:a=f10:=(aQ (func10.symm.trans d)).symm;refine⟨by kernel_rfl,λj t b=>?_⟩
 rw[params10]at b;have h:=Array.mem_of_getElem? b;simp only[List.mem_toArray,fF,qX,py]at h;obtain rfl|rfl|rfl|rfl|rfl:=h
 exact(show prog.wantsStandIn 51=false by kernel_rfl)
 exact(show prog.wantsStandIn 3=false by kernel_rfl)
 exact(show prog.wantsStandIn 3=false by kernel_rfl)
 exact(show prog.wantsStandIn 3=false by kernel_rfl)
 exact(show prog.wantsStandIn 4=false by kernel_rfl)
theorem left_holds:Rows.LeftCardSaid:=
 ⟨Claim7.tied_new_at .later [.handle] true (Claim7.new_of_sixth Ss Rows.leftCard.stood.harness true rfl ⟨rfl,rfl⟩ (by kernel_rfl) rfl Su) (by kernel_rfl),λ_ h=>(by cases h),left_row_tie,λh=>(by cases h),by kernel_rfl⟩
