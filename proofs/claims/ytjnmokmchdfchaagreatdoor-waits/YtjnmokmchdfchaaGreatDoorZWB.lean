import Derived.Carry
import Derived.Deep.DeepHandedRow
import Derived.SevenTiedAt
import Derived.Test.YtjnmokmchdfchaaGreatDoorCards
import Derived.Test.YtjnmokmchdfchaaGreatDoorTie
import Derived.Test.YtjnmokmchdfchaaGreatDoorZWt
import Derived.Test.YtjnmokmchdfchaaGreatDoorZWA
set_option maxRecDepth 1000000
set_option maxHeartbeats 0
set_option linter.all false
namespace Go.Proofs.YtjnmokmchdfchaaGreatDoor
open Go.ChangeShapes Go.WideShapes Go.RowKit Go.Deep Tryz Go.Proofs.Tryz
section
variable {H:Type} {enc:TypeId×Value->H} {w:World}
theorem DP{α:Type}{l:List α}(h:l.length=4):∃a b c d,l=[a,b,c,d]:=by
 match l,h with
 |[a,b,c,d],_=>exact⟨a,b,c,d,rfl⟩
theorem DQ:prog.cellsOf 72=4:=by kernel_rfl
theorem PX{j:Nat}{cs:List Value}{x:DataW H×List MemPlace}(h:DataW.trod enc prog w 0 (λ_=>true) true j 72 cs=some x):
 ∃s:Bt,cs=(fQ s).toList/\((∀a∈x.1.weights prog 72,a<=reachBytes)->yD s):=by
 obtain⟨xs,n,-,rfl,c,k,a⟩:=DataW.trod_struct underlying72 h;rw[DQ]at c;obtain⟨u,v,y,z,rfl⟩:=DP c;obtain⟨A,B,C,D,rfl⟩:=DP k;have d:=a 0 _ rfl;have e:=a 1 _ rfl;have f:=a 2 _ rfl;have g:=a 3 _ rfl;simp[Nl,Nm]at d e f g;obtain⟨z0,e0,-,l⟩:=DataW.trod_int underlying3 d;obtain⟨m,e1,-,p⟩:=DataW.trod_int underlying3 e;obtain⟨z2,e2,-,q⟩:=DataW.trod_int underlying3 f;obtain⟨b,i,rfl,-⟩:=DataW.trod_string underlying9 g;simp only[List.cons.injEq,and_true]at e0 e1 e2 i;subst e0 e1 e2 i;refine⟨⟨z0,m,z2,b⟩,rfl,λr=>⟨tm l,tm p,tm q,r _ (by simp[DataW.weights,DataW.weightsEach,underlying72])⟩⟩
theorem PY{p:Nat}{a:Option Addr}{n cap:Nat}{x:DataW H×List MemPlace}(r:∀y,a=some y->y.spot=none)(h:DataW.trod enc prog w 0 (λ_=>true) true p 58 [.slice a n cap]=some x)(t:∀a∈x.1.weights prog 58,a<=reachBytes):
 ∃u,qJ w a n cap u:=by
 obtain⟨e,rfl⟩|⟨b,len,G,m,I,D,K,e,-,hl,hm,d,rfl,f⟩:=open_slice underlying58 h
 simp only[List.cons.injEq,and_true,Value.slice.injEq]at e;obtain⟨rfl,rfl,rfl⟩:=e;exact⟨[],rfl,aI _,by simp[maxLen],λs hs=>(by cases hs),.inl rfl⟩
 simp only[List.cons.injEq,and_true,Value.slice.injEq]at e;obtain⟨rfl,rfl,rfl⟩:=e;simp only[fJ]at d;subst d;have g:b=⟨b.block,b.off,none⟩:=by
  obtain⟨b1,b2,z⟩:=b;obtain rfl:z=none:=r _ rfl;rfl
 rw[DQ]at f;have each:∀i,i<n->∃q:Bt,w.rangeAt b.block (b.off+i*4) (fQ q).toList/\yD q:=λi hi=>by
  obtain⟨L,A,B⟩:=f i (by omega);obtain⟨s,rfl,c⟩:=PX B;replace c:=c λa ha=>t a (by simp only[DataW.weights,underlying58,List.mem_cons,List.mem_append];exact .inr (.inl (Nn ha (fh.2 ⟨i,mJ.2 hi,rfl⟩))))
  obtain⟨-,M,C⟩:=World.cells?_some A;refine⟨s,λj v k=>?_,c⟩
  have E:j<4:=by have:=(iX.1 k).1;simpa [fQ]using this
  have:=C j E;rw[g,add_add,add_plain,k]at this;rw[oq];exact this
 have:Inhabited Bt:=⟨⟨0,0,0,ByteArray.empty⟩⟩
 obtain⟨q,l⟩:=choose_lt each;have F:∀i,i<n->ka ((List.range n).map λi=>q i) i=q i:=λi hi=>by
  simp[ka,List.getD,hi]
 refine⟨(List.range n).map λi=>q i,by simp,hl,hm,λs hs=>?_,.inr ⟨b.block,b.off,fj some g,λi hi=>?_⟩⟩
 obtain⟨i,hi,rfl⟩:=fh.1 hs;exact(l i (mJ.1 hi)).2;simp only[dY,List.length_range]at hi;rw[F i hi];exact(l i hi).1
end
theorem PZ:laidOutB prog=true:=by kernel_rfl
theorem P7{W a:World}(g:W.grownBy a none):Below W.heap.size W a:=(Below.refl _ W).grown g (aI _) (λk h=>by cases h)
theorem Qa(os:Os){H:Type}(enc:TypeId×Value->H):∃a,DataW.whole enc prog (({World.holding prog os ⟨#[],#[],[]⟩with heap:=(World.holding prog os ⟨#[],#[],[]⟩).heap.modify 0 λ|.cells _ t frozen=>.cells #[.iface 273 (.agg #[.pointer (some ⟨1,97,none⟩)])] t frozen|o=>o}:World).forCall (λ_ _=>0) ⟨#[],#[.slice none 0 0,.int .i64 0,.int .i64 0],[]⟩).memory f8.params.toList Rows.waitsSpec.vars false #[Value.slice none 0 0,.int .i64 0,.int .i64 0].toList 8=some ([.nil,.lit (.int .i64 0),.lit (.int .i64 0)],[],a):=
 ⟨[],by kernel_rfl⟩
theorem Qb(os:Os)(E:os.Started)(H:Type)(enc:TypeId×Value->H)(F:Stop.Interp):
 ReturnsInHanded {} checked os 8 .any ((OpenSpec.ofChange Rows.waitsSpec).preRow enc prog f8 Rows.waitsRow.domain false Rows.waitsRow.laid)
  (((OpenSpec.ofChange Rows.waitsSpec).at F).post enc prog f8 false true false false):=by
 obtain⟨a2,d⟩:=Qa os enc;refine returnsInHanded_of_row (C:=checked) (s:=OpenSpec.ofChange Rows.waitsSpec) Nc E (by kernel_rfl) func8
  (witness_row_at (enc:=enc) (C:=checked) false ({World.holding prog os ⟨#[],#[],[]⟩with heap:=(World.holding prog os ⟨#[],#[],[]⟩).heap.modify 0 λ|.cells _ t frozen=>.cells #[.iface 273 (.agg #[.pointer (some ⟨1,97,none⟩)])] t frozen|o=>o}:World) #[.slice none 0 0,.int .i64 0,.int .i64 0] rfl (by kernel_rfl) (by kernel_rfl) (by kernel_rfl)
    (OpenSpec.preRow_of_cond 8 d (by kernel_rfl) (λk f=>by cases f) (by kernel_rfl) (Nj os _))) ?_
 intro W G args I K a3 L i _ _ l M _ _;have c:∀(j:Nat) t v,f8.params[j]?=some t->args[j]?=some v->Value.okWide prog W .any G t v:=L;have m:=i;obtain⟨p,q,N,O,rfl,a4,a8⟩:=i;have r:DataW.TrodAll enc prog W 0 (λ_=>true) true f8.params.toList args.toList I p:=N;have P:DataW.TrodVars enc prog W (λ_=>true) [] K q:=O;rw[params8]at r c;obtain⟨u,a9,d0,bb,p0,q0,br,rfl,rfl,h0,Q⟩:=trodAll_cons r;obtain⟨w,bt,d1,bx,p1,q1,rfl,rfl,rfl,R,S⟩:=trodAll_cons Q;obtain⟨z,bM,d2,bP,p2,q2,rfl,rfl,rfl,T,U⟩:=trodAll_cons S;obtain⟨rfl,rfl,rfl⟩:=trodAll_nil U;obtain rfl:args= #[u,w,z]:=by cases args;simp_all
 obtain⟨rfl,rfl⟩:=trodVars_none P;have f:∀a∈d0.weights checked.prog 58,a<=reachBytes:=λa ha=>of_decide_eq_true (List.all_eq_true.1 l a (by rw[params8];simp[DataW.weightsEach,ha]));clear l;have g:=c 0 _ u rfl rfl;obtain⟨a,n,cap,rfl⟩:=okWide_slice underlying58 g;obtain⟨b,rfl,rfl,rfl,wb⟩:=open_int underlying3 (c 1 _ w rfl rfl) R;obtain⟨k,rfl,rfl,rfl,B⟩:=open_int underlying3 (c 2 _ z rfl rfl) T;have V:∀y,a=some y->y.spot=none:=λy X=>by
  subst X;simp only[Value.okWide,Cell.okWide,Cell.ok]at g;exact g.2.2.2.1
 obtain⟨b0,Y⟩:=id h0;obtain⟨ss,ax⟩:=PY V (by simpa [Value.cells]using Y) (by exact f)
 have a0:∀x∈p0,x.block<W.heap.size:=λx d=>by simpa using m.lt x (by simp[d])
 refine(PW W (Ni M) a n cap ss ax b k (tm wb) (tm B)).mono λe W' ⟨he,D⟩=>?_
 subst he;refine⟨_,rfl,_,_,_,[],p0,[],m,?_,?_,?_,Nk D _,λh=>by cases h⟩
 exact trodAll_cons_mk (shut_bool underlying4 true) trodAll_mk0;have:=trodAll_cons_mk (p:=p0) (Below.trod PZ (by kernel_rfl) (of_decide_eq_true (by kernel_rfl)) h0 (P7 D) a0) (trodAll_cons_mk (p:=[]) (shut_int underlying3 wb) (trodAll_cons_mk (p:=[]) (shut_int underlying3 B) trodAll_mk0));simp only[nw]at this;exact this;rfl
theorem Qc:prog.inPlace 8=Rows.waitsRow.inPlace:=by kernel_rfl
theorem Qd:prog.unfollowed 8=true:=by kernel_rfl
theorem Qe:prog.recurses 8=true:=by kernel_rfl
theorem Qf:prog.varsNamed 8=Rows.waitsRow.named:=by kernel_rfl
theorem Qg:joinedFacts prog 8 f8 (OpenSpec.ofChange Rows.waitsSpec).bare Rows.waitsRow=true:=by
 unfold joinedFacts;rw[Qc,Qd,Qe,Qf];kernel_rfl
theorem Qh:Rows.WaitsSaid:=
 OpenClaim.holds_of_cond 8 f8 rfl rfl rfl rfl rfl rfl rfl ⟨rfl,rfl,rfl,rfl,rfl⟩ rfl rfl rfl rfl rfl (by kernel_rfl) func8 Qg
  (of_decide_eq_true (by kernel_rfl)) (by unfold Func.isWrapper;rw[ay (of_decide_eq_false (by kernel_rfl))];exact⟨rfl,rfl⟩)
  (λos a H enc _ F=>by rw[OpenClaim.pre_eq_preRow];exact Qb os a H enc F)
theorem Qi(f:FuncId)(a:Func)(c:pinned.checked.prog.funcNamed "sealstream/sealstreamkeep.Waits" =some f)(d:pinned.checked.prog.funcs[f]?=some a):
 true=pinned.checked.prog.looks []/\∀(j:Nat) t,a.params[j]?=some t->pinned.checked.prog.wantsStandIn t=false:=by
 obtain rfl:f=8:=aJ ((show prog.funcNamed "sealstream/sealstreamkeep.Waits" =some 8 by kernel_rfl).symm.trans c)|>.symm;obtain rfl:a=f8:=(aJ (func8.symm.trans d)).symm;refine⟨by kernel_rfl,λj t b=>?_⟩
 rw[params8]at b;have h:=Array.mem_of_getElem? b;simp only[List.mem_toArray,eJ,ns,lQ]at h;obtain rfl|rfl|rfl:=h
 exact(show prog.wantsStandIn 58=false by kernel_rfl)
 exact(show prog.wantsStandIn 3=false by kernel_rfl)
 exact(show prog.wantsStandIn 3=false by kernel_rfl)
theorem waits_holds:Rows.WaitsCardSaid:=
 ⟨Claim7.tied_new_at .later [.handle] true (Claim7.new_of_sixth Qh Rows.waitsCard.stood.harness true rfl ⟨rfl,rfl⟩ (by kernel_rfl) rfl Qi) (by kernel_rfl),λ_ h=>(by cases h),waits_row_tie,λh=>(by cases h),by kernel_rfl⟩
