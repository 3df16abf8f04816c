import Derived.Test.YtjnmokmchdfchaaGreatDoorZLj
set_option maxRecDepth 1000000
set_option maxHeartbeats 0
set_option linter.all false
namespace Go.Proofs.YtjnmokmchdfchaaGreatDoor
open Go.RowKit Tryz
open Go.Value renaming int→ι,slice→σ,bool→β,pointer→π,agg→ε,string→ς,tuple→τ
open Go.IntKind renaming i64→δ,u64→η,u8→Δ
open Go.Ending renaming returned→ξ
open Go.Obj renaming cells→ο
open Or renaming inl→φ,inr→ψ
open Option renaming some→μ,none→ν
open Bool renaming true→ρ,false→θ
open Go renaming World→ω,Value→υ
open Go.World renaming grownBy→γ,cell?→κ,frozen?→χ,setCell→ζ
attribute[local go_sem↓]Go.wp_at_zero Go.wp_at_succ
variable{B:Bool}{I:Fr}{p q r t:Int}{E:It}{L:List Int}{Y:List Rg}{b i j k l m n:Nat}{P S:Nat->Prop}{a:Option Addr}{G:Ot}{s:Sd}{T:TypeId}{x y:υ}{V W v w:ω}
structure gy where
 op:Int
 stream:Int
 n:Int
 code:Int
 data:ByteArray
def dB(q:gy):Array υ:= #[ι δ q.op,ι δ q.stream,ι δ q.n,ι η q.code,ς q.data]
structure Rs where
 e:Int
 at_:Int
 n:Int
 code:Int
 data:List Int
 bB:List (List Int)
noncomputable def aE.do(st:aE)(q:gy):Rs×aE:=
 if q.op=1 then(⟨(st.write q.stream (aI q.data)).2.1,-1,(st.write q.stream (aI q.data)).1,0,[],[]⟩,(st.write q.stream (aI q.data)).2.2)
 else if q.op=2 then(⟨(st.finish q.stream).1,-1,0,0,[],[]⟩,(st.finish q.stream).2)
 else if q.op=3 then(⟨(st.giveUp q.stream q.code).1,-1,0,0,[],[]⟩,(st.giveUp q.stream q.code).2)
 else if q.op=4 then(⟨0,-1,0,0,[],[]⟩,st.tick)
 else if q.op=5 then(⟨0,-1,0,0,[],st.bB.2⟩,st.bB.1)
 else if q.op=6 then(⟨(st.recv (aI q.data)).1,(st.recv (aI q.data)).2.1,0,0,[],[]⟩,(st.recv (aI q.data)).2.2)
 else if q.op=7 then(⟨(st.read q.stream q.n).2.2.2.1,-1,(st.read q.stream q.n).2.1,(st.read q.stream q.n).2.2.1,(st.read q.stream q.n).1,[]⟩,(st.read q.stream q.n).2.2.2.2)
 else if q.op=8 then(⟨(st.close q.code).1,-1,0,0,[],[]⟩,(st.close q.code).2)
 else if q.op=9 then(⟨(st.af q.stream).2,-1,(st.af q.stream).1,0,[],[]⟩,st)
 else(⟨0,-1,0,0,[],[]⟩,st)
def gH(w:ω)(a:Nat)(v:υ)(l:List (List Int)):Prop:=w.ownsRow a 9 1 v l.length (l.map λp=>ς (strOfNums p))
def gH.nil(w:ω)(a:Nat):gH w a (σ ν 0 0) []:=pr _ _ _ _
def kC(w:ω)(xb sb:Nat)(A:Nat->Prop)(r:Rs×aE)(e:Ending)(b:ω):Prop:=
 ∃a n c,e=ξ (τ #[ι δ r.1.e,ι δ r.1.at_,ι δ r.1.n,ι η r.1.code,ς (strOfNums r.1.data),σ a n c])/\gH b w.heap.size (σ a n c) r.1.bB/\∃d,cI b xb sb r.2 d/\(∀k,d k->A k\/w.heap.size<=k)/\ay w b A/\∀j,(Value.slice a n c).ownBlock=μ j->¬d j
def qu:strOfNums []=⟨#[]⟩:=rfl
structure js(w:ω)(q:gy)(c a:ω):Prop where
 e1:c=w.alloc (ο (dB q) 32)
 e2:a=Lib.bytesWorld c 5 q.data
 g:γ w a ν
 z:c.heap.size=w.heap.size+1
 z2:a.heap.size=w.heap.size+2
 b:a.heap[w.heap.size]?=μ (ο (dB q) 32 (0,0))
def js.mk'(w:ω)(q:gy):∃a b,js w q a b:=by
 refine⟨_,_,rfl,rfl,aq (aJ _ _ _) (wT _ _),eh _ _,by rw[Lib.bytesWorld_size,eh],bE (aO _ _) (wT _ _)⟩
def js.fin{a b:ω}{q:gy}(D:js w q W v){st:aE}(c:∀k,S k->k<w.heap.size)(T:dF v.heap.size v n i S st V)(d:γ V a (μ (w.heap.size+1)))(f:γ a b ν):dF w.heap.size w n i S st b:=by
 have l:=D.z2;have h:dF v.heap.size w n i S st a:=(T.pre D.g).other (ay.of d) (λk _ e=>by
  have:=aQ e;exact⟨λj=>by have:=c k j;omega,by omega,by omega⟩)
 exact(h.au f).mono (by omega)
def js.post{q:gy}(f:js w q W v){r:Rs×aE}(hd:r.1.data=[])(hp:r.1.bB=[])(T:dF w.heap.size w k i S r.2 V):kC w k i S r (ξ (τ #[ι δ r.1.e,ι δ r.1.at_,ι δ r.1.n,ι η r.1.code,ς ⟨#[]⟩,σ ν 0 0])) V:=by
 obtain⟨a,b,c,d⟩:=T;exact⟨ν,0,0,by rw[hd];rfl,by rw[hp];exact gH.nil _ _,a,b,c,d,λj e=>by cases e⟩
def js.ru{q:gy}(D:js w q W v)(a:∀k,S k->k<w.heap.size)(C:ay v V S)(hd:q.data.size<=1000000)(c:Nat):
 Calls prog 97 #[σ (μ ⟨w.heap.size+1,0,ν⟩) q.data.size c] V λe b=>e=ξ (τ #[])/\γ V b (μ (w.heap.size+1)):=by
 have:=Oi W V q.data (by omega) (by rw[C.block _ (by rw[D.z,D.z2];omega) (λd=>by have:=a _ d;rw[D.z]at this;omega),D.e2]) c;rw[D.z]at this;exact this
def js.bs{q:gy}(D:js w q W v)(hd:q.data.size<=1000000):bN v (μ ⟨w.heap.size+1,0,ν⟩) q.data.size (grownCap W q.data.size 0 5) (aI q.data):=by
 have:=yZ W q.data;rw[D.z,<-D.e2]at this;exact this
def js.told{a:ω}{q:gy}(D:js w q W v)(h0:¬S 0)(b:Laid w)(C:ay v V S)(c:γ V a (μ (w.heap.size+1))){ev:υ}{n p:Int}(d:vD ev n p):
 Calls prog 39 #[ev] a λe f=>e=ξ (τ #[ι δ n,ι δ p])/\γ a f ν:=by
 exact Oj a ev n p (((b.gb D.g).aA C h0).gb c) d
def OM(w:ω)(xb sb:Nat)(st:aE)(A:Nat->Prop)(n:Nat)(h:cI w xb sb st A)(M:fh n st)(N:n<=100000)(m:Laid w)(q:gy)(x:aW q.code)(y:q.op=2)(hd:q.data.size<=1000000)(G:¬(q.stream<0\/4<=q.stream)):
 Calls prog 60 #[π (μ ⟨xb,0,ν⟩),ε (dB q)] w (kC w xb sb A (st.do q)):=by
 obtain⟨R,j⟩:=exq (kC w xb sb A (st.do q));rw[<-j];obtain⟨H,a,D⟩:=js.mk' w q;have k:=J (Oz a xb sb st A (h.au D.g) q.stream G);have s:=J (λ(c:ω)(T:dF a.heap.size a xb sb A ((st.finish q.stream).2) c)=>D.ru h.lt T.choose_spec.2.2 hd);have l:=J (λ(c d:ω)(T:dF a.heap.size a xb sb A ((st.finish q.stream).2) c)(f:γ c d (μ (w.heap.size+1)))=>D.told h.n0 m T.choose_spec.2.2 f (ev:=cH ((st.finish q.stream).1)) (n:=(st.finish q.stream).1) (p:= -1) ⟨rfl,rfl⟩);have t:=J (λ(c d i:ω)(T:dF a.heap.size a xb sb A ((st.finish q.stream).2) c)(f:γ c d (μ (w.heap.size+1)))(u:γ d i ν)=>(show R (ξ (τ #[ι δ ((st.finish q.stream).1),ι δ (-1),ι δ (0),ι η 0,ς ⟨#[]⟩,σ ν 0 0])) i by
  have e:st.do q=(⟨(st.finish q.stream).1,-1,0,0,[],[]⟩,(st.finish q.stream).2):=by unfold aE.do;rw[iN_,aG y]
  rw[j,e];exact D.post (r:=(⟨(st.finish q.stream).1,-1,0,0,[],[]⟩,(st.finish q.stream).2)) rfl rfl (D.fin h.lt T f u)))
 have O:=pD q.data;obtain⟨r,B⟩:=exq (st.finish q.stream);rw[<-B]at k s l t;clear B;obtain⟨re,P⟩:=r;simp only at k s l t;obtain⟨d0,d1,d2,d3,d4⟩:κ a ⟨w.heap.size,0,ν⟩=μ (ι δ q.op)/\κ a ⟨w.heap.size,1,ν⟩=μ (ι δ q.stream)/\κ a ⟨w.heap.size,2,ν⟩=μ (ι δ q.n)/\κ a ⟨w.heap.size,3,ν⟩=μ (ι η q.code)/\κ a ⟨w.heap.size,4,ν⟩=μ (ς q.data):=by simp[World.cell?,D.b,dB]
 have C:=D.e1;have E:=D.e2;have Q:=D.z;replace⟨D,j,h,m,x⟩:=fF D j h m x;unfold dB at *;obtain⟨op,stream,S,code,data⟩:=q;simp only at *;subst y;generalize cH re=ev at k l;go_enter func60,ntmps60;go_upto_region 3 with fail;rw[<-C,<-E];generalize grownCap H data.size 0 5=cap at *;clear C E;go_wp2_with fail;apply(Z k).mono;rintro e c⟨rfl,T⟩;have I:=J (Z s c T cap);have K:=J (λd=>Z l c d T);have L:=J (λd i=>Z t c d i T);clear T;go_wp2_with fail;apply(Z I).mono;rintro e d⟨rfl,f⟩;go_wp2_with fail;apply(Z K _ f).mono;rintro e i⟨rfl,u⟩;have F:=J (Z L _ _ f u);go_wp2_with fail;first|exact Z F|exact df (v:=τ #[ι δ re,ι δ (-1),ι δ 0,ι η 0,ς ⟨#[]⟩,σ ν 0 0]) (by simp[results,results60,go_sem]) rfl (Z F)
def ON(w:ω)(xb sb:Nat)(st:aE)(A:Nat->Prop)(n:Nat)(h:cI w xb sb st A)(M:fh n st)(N:n<=100000)(m:Laid w)(q:gy)(s:aW q.code)(y:q.op=3)(hd:q.data.size<=1000000)(G:¬(q.stream<0\/4<=q.stream)):
 Calls prog 60 #[π (μ ⟨xb,0,ν⟩),ε (dB q)] w (kC w xb sb A (st.do q)):=by
 obtain⟨R,j⟩:=exq (kC w xb sb A (st.do q));rw[<-j];obtain⟨H,a,D⟩:=js.mk' w q;have k:=J (OA a xb sb st A (h.au D.g) q.stream q.code G s);have t:=J (λ(c:ω)(T:dF a.heap.size a xb sb A ((st.giveUp q.stream q.code).2) c)=>D.ru h.lt T.choose_spec.2.2 hd);have l:=J (λ(c d:ω)(T:dF a.heap.size a xb sb A ((st.giveUp q.stream q.code).2) c)(f:γ c d (μ (w.heap.size+1)))=>D.told h.n0 m T.choose_spec.2.2 f (ev:=cH ((st.giveUp q.stream q.code).1)) (n:=(st.giveUp q.stream q.code).1) (p:= -1) ⟨rfl,rfl⟩);have u:=J (λ(c d i:ω)(T:dF a.heap.size a xb sb A ((st.giveUp q.stream q.code).2) c)(f:γ c d (μ (w.heap.size+1)))(x:γ d i ν)=>(show R (ξ (τ #[ι δ ((st.giveUp q.stream q.code).1),ι δ (-1),ι δ (0),ι η 0,ς ⟨#[]⟩,σ ν 0 0])) i by
  have e:st.do q=(⟨(st.giveUp q.stream q.code).1,-1,0,0,[],[]⟩,(st.giveUp q.stream q.code).2):=by unfold aE.do;rw[iN_,iN_,aG y]
  rw[j,e];exact D.post (r:=(⟨(st.giveUp q.stream q.code).1,-1,0,0,[],[]⟩,(st.giveUp q.stream q.code).2)) rfl rfl (D.fin h.lt T f x)))
 have O:=pD q.data;obtain⟨r,B⟩:=exq (st.giveUp q.stream q.code);rw[<-B]at k t l u;clear B;obtain⟨re,P⟩:=r;simp only at k t l u;obtain⟨d0,d1,d2,d3,d4⟩:κ a ⟨w.heap.size,0,ν⟩=μ (ι δ q.op)/\κ a ⟨w.heap.size,1,ν⟩=μ (ι δ q.stream)/\κ a ⟨w.heap.size,2,ν⟩=μ (ι δ q.n)/\κ a ⟨w.heap.size,3,ν⟩=μ (ι η q.code)/\κ a ⟨w.heap.size,4,ν⟩=μ (ς q.data):=by simp[World.cell?,D.b,dB]
 have C:=D.e1;have E:=D.e2;have Q:=D.z;replace⟨D,j,h,m,s⟩:=fF D j h m s;unfold dB at *;obtain⟨op,stream,S,code,data⟩:=q;simp only at *;subst y;generalize cH re=ev at k l;go_enter func60,ntmps60;go_upto_region 3 with fail;rw[<-C,<-E];generalize grownCap H data.size 0 5=cap at *;clear C E;go_wp2_with fail;apply(Z k).mono;rintro e c⟨rfl,T⟩;have I:=J (Z t c T cap);have K:=J (λd=>Z l c d T);have L:=J (λd i=>Z u c d i T);clear T;go_wp2_with fail;apply(Z I).mono;rintro e d⟨rfl,f⟩;go_wp2_with fail;apply(Z K _ f).mono;rintro e i⟨rfl,x⟩;have F:=J (Z L _ _ f x);go_wp2_with fail;first|exact Z F|exact df (v:=τ #[ι δ re,ι δ (-1),ι δ 0,ι η 0,ς ⟨#[]⟩,σ ν 0 0]) (by simp[results,results60,go_sem]) rfl (Z F)
def OO(w:ω)(xb sb:Nat)(st:aE)(A:Nat->Prop)(n:Nat)(h:cI w xb sb st A)(H:fh n st)(O:n<=100000)(m:Laid w)(q:gy)(x:aW q.code)(y:q.op=1)(hd:q.data.size<=1000000)(I:¬(q.stream<0\/4<=q.stream)):
 Calls prog 60 #[π (μ ⟨xb,0,ν⟩),ε (dB q)] w (kC w xb sb A (st.do q)):=by
 obtain⟨R,j⟩:=exq (kC w xb sb A (st.do q));rw[<-j];obtain⟨B,a,D⟩:=js.mk' w q;have k:=J (Oy a xb sb st A n (h.au D.g) H q.stream I (μ ⟨w.heap.size+1,0,ν⟩) q.data.size (grownCap B q.data.size 0 5) (aI q.data) (D.bs hd));have s:=J (λ(c:ω)(T:dF a.heap.size a xb sb A ((st.write q.stream (aI q.data)).2.2) c)=>D.ru h.lt T.choose_spec.2.2 hd);have l:=J (λ(c d:ω)(T:dF a.heap.size a xb sb A ((st.write q.stream (aI q.data)).2.2) c)(f:γ c d (μ (w.heap.size+1)))=>D.told h.n0 m T.choose_spec.2.2 f (ev:=cH ((st.write q.stream (aI q.data)).2.1)) (n:=(st.write q.stream (aI q.data)).2.1) (p:= -1) ⟨rfl,rfl⟩);have t:=J (λ(c d i:ω)(T:dF a.heap.size a xb sb A ((st.write q.stream (aI q.data)).2.2) c)(f:γ c d (μ (w.heap.size+1)))(u:γ d i ν)=>(show R (ξ (τ #[ι δ ((st.write q.stream (aI q.data)).2.1),ι δ (-1),ι δ ((st.write q.stream (aI q.data)).1),ι η 0,ς ⟨#[]⟩,σ ν 0 0])) i by
  have e:st.do q=(⟨(st.write q.stream (aI q.data)).2.1,-1,(st.write q.stream (aI q.data)).1,0,[],[]⟩,(st.write q.stream (aI q.data)).2.2):=by unfold aE.do;rw[aG y]
  rw[j,e];exact D.post (r:=(⟨(st.write q.stream (aI q.data)).2.1,-1,(st.write q.stream (aI q.data)).1,0,[],[]⟩,(st.write q.stream (aI q.data)).2.2)) rfl rfl (D.fin h.lt T f u)))
 have P:=pD q.data;obtain⟨r,C⟩:=exq (st.write q.stream (aI q.data));rw[<-C]at k s l t;clear C;obtain⟨K,re,Q⟩:=r;simp only at k s l t;obtain⟨d0,d1,d2,d3,d4⟩:κ a ⟨w.heap.size,0,ν⟩=μ (ι δ q.op)/\κ a ⟨w.heap.size,1,ν⟩=μ (ι δ q.stream)/\κ a ⟨w.heap.size,2,ν⟩=μ (ι δ q.n)/\κ a ⟨w.heap.size,3,ν⟩=μ (ι η q.code)/\κ a ⟨w.heap.size,4,ν⟩=μ (ς q.data):=by simp[World.cell?,D.b,dB]
 have E:=D.e1;have F:=D.e2;have S:=D.z;replace⟨D,j,h,m,x⟩:=fF D j h m x;unfold dB at *;obtain⟨op,stream,U,code,data⟩:=q;simp only at *;subst y;generalize cH re=ev at k l;go_enter func60,ntmps60;go_upto_region 3 with fail;rw[<-E,<-F];generalize grownCap B data.size 0 5=cap at *;clear E F;go_wp2_with fail;apply(Z k).mono;rintro e c⟨rfl,T⟩;have L:=J (Z s c T cap);have M:=J (λd=>Z l c d T);have N:=J (λd i=>Z t c d i T);clear T;go_wp2_with fail;apply(Z L).mono;rintro e d⟨rfl,f⟩;go_wp2_with fail;apply(Z M _ f).mono;rintro e i⟨rfl,u⟩;have G:=J (Z N _ _ f u);go_wp2_with fail;first|exact Z G|exact df (v:=τ #[ι δ re,ι δ (-1),ι δ K,ι η 0,ς ⟨#[]⟩,σ ν 0 0]) (by simp[results,results60,go_sem]) rfl (Z G)
def OP(w:ω)(xb sb:Nat)(st:aE)(A:Nat->Prop)(n:Nat)(h:cI w xb sb st A)(G:fh n st)(Q:n<=100000)(m:Laid w)(q:gy)(u:aW q.code)(x:q.op=9)(hd:q.data.size<=1000000)(H:¬(q.stream<0\/4<=q.stream)):
 Calls prog 60 #[π (μ ⟨xb,0,ν⟩),ε (dB q)] w (kC w xb sb A (st.do q)):=by
 obtain⟨R,j⟩:=exq (kC w xb sb A (st.do q));rw[<-j];obtain⟨I,a,D⟩:=js.mk' w q;have k:=J ((OB a xb sb st A n (h.au D.g) G q.stream H).mono (λe K y=>(show e=ξ (τ #[ι δ (st.af q.stream).1,cH (st.af q.stream).2])/\dF a.heap.size a xb sb A st K from⟨y.1,(h.au D.g).to y.2⟩)));have L:=J (λ(c:ω)(T:dF a.heap.size a xb sb A (st) c)=>D.ru h.lt T.choose_spec.2.2 hd);have l:=J (λ(c d:ω)(T:dF a.heap.size a xb sb A (st) c)(f:γ c d (μ (w.heap.size+1)))=>D.told h.n0 m T.choose_spec.2.2 f (ev:=cH ((st.af q.stream).2)) (n:=(st.af q.stream).2) (p:= -1) ⟨rfl,rfl⟩);have s:=J (λ(c d i:ω)(T:dF a.heap.size a xb sb A (st) c)(f:γ c d (μ (w.heap.size+1)))(t:γ d i ν)=>(show R (ξ (τ #[ι δ ((st.af q.stream).2),ι δ (-1),ι δ ((st.af q.stream).1),ι η 0,ς ⟨#[]⟩,σ ν 0 0])) i by
  have e:st.do q=(⟨(st.af q.stream).2,-1,(st.af q.stream).1,0,[],[]⟩,st):=by unfold aE.do;rw[iN_,iN_,iN_,iN_,iN_,iN_,iN_,iN_,aG x]
  rw[j,e];exact D.post (r:=(⟨(st.af q.stream).2,-1,(st.af q.stream).1,0,[],[]⟩,st)) rfl rfl (D.fin h.lt T f t)))
 have S:=pD q.data;obtain⟨r,B⟩:=exq (st.af q.stream);rw[<-B]at k l s;clear B;obtain⟨M,re⟩:=r;simp only at k l s;obtain⟨d0,d1,d2,d3,d4⟩:κ a ⟨w.heap.size,0,ν⟩=μ (ι δ q.op)/\κ a ⟨w.heap.size,1,ν⟩=μ (ι δ q.stream)/\κ a ⟨w.heap.size,2,ν⟩=μ (ι δ q.n)/\κ a ⟨w.heap.size,3,ν⟩=μ (ι η q.code)/\κ a ⟨w.heap.size,4,ν⟩=μ (ς q.data):=by simp[World.cell?,D.b,dB]
 have C:=D.e1;have E:=D.e2;have U:=D.z;replace⟨D,j,h,m,u⟩:=fF D j h m u;unfold dB at *;obtain⟨op,stream,V,code,data⟩:=q;simp only at *;subst x;generalize cH re=ev at k l;go_enter func60,ntmps60;go_upto_region 3 with fail;rw[<-C,<-E];generalize grownCap I data.size 0 5=cap at *;clear C E;go_wp2_with fail;apply(Z k).mono;rintro e c⟨rfl,T⟩;have N:=J (Z L c T cap);have O:=J (λd=>Z l c d T);have P:=J (λd i=>Z s c d i T);clear T;go_wp2_with fail;apply(Z N).mono;rintro e d⟨rfl,f⟩;go_wp2_with fail;apply(Z O _ f).mono;rintro e i⟨rfl,t⟩;have F:=J (Z P _ _ f t);go_wp2_with fail;first|exact Z F|exact df (v:=τ #[ι δ re,ι δ (-1),ι δ M,ι η 0,ς ⟨#[]⟩,σ ν 0 0]) (by simp[results,results60,go_sem]) rfl (Z F)
def OQ(w:ω)(xb sb:Nat)(st:aE)(A:Nat->Prop)(n:Nat)(h:cI w xb sb st A)(B:fh n st)(C:n<=100000)(k:Laid w)(q:gy)(m:aW q.code)(s:q.op=4)(hd:q.data.size<=1000000):
 Calls prog 60 #[π (μ ⟨xb,0,ν⟩),ε (dB q)] w (kC w xb sb A (st.do q)):=by
 obtain⟨R,j⟩:=exq (kC w xb sb A (st.do q));rw[<-j];obtain⟨E,a,D⟩:=js.mk' w q;have F:=J (OC a xb sb st A n (h.au D.g) B C);have G:=J (λ(c:ω)(T:dF a.heap.size a xb sb A ((st.tick)) c)=>D.ru h.lt T.choose_spec.2.2 hd);have t:=J (λ(c d:ω)(T:dF a.heap.size a xb sb A ((st.tick)) c)(f:γ c d (μ (w.heap.size+1)))=>D.told h.n0 k T.choose_spec.2.2 f (ev:=cH (0)) (n:=0) (p:= -1) ⟨rfl,rfl⟩);have H:=J (λ(c d i:ω)(T:dF a.heap.size a xb sb A ((st.tick)) c)(f:γ c d (μ (w.heap.size+1)))(l:γ d i ν)=>(show R (ξ (τ #[ι δ (0),ι δ (-1),ι δ (0),ι η 0,ς ⟨#[]⟩,σ ν 0 0])) i by
  have e:st.do q=(⟨0,-1,0,0,[],[]⟩,(st.tick)):=by unfold aE.do;rw[iN_,iN_,iN_,aG s]
  rw[j,e];exact D.post (r:=(⟨0,-1,0,0,[],[]⟩,(st.tick))) rfl rfl (D.fin h.lt T f l)))
 have M:=pD q.data;obtain⟨d0,d1,d2,d3,d4⟩:κ a ⟨w.heap.size,0,ν⟩=μ (ι δ q.op)/\κ a ⟨w.heap.size,1,ν⟩=μ (ι δ q.stream)/\κ a ⟨w.heap.size,2,ν⟩=μ (ι δ q.n)/\κ a ⟨w.heap.size,3,ν⟩=μ (ι η q.code)/\κ a ⟨w.heap.size,4,ν⟩=μ (ς q.data):=by simp[World.cell?,D.b,dB]
 have u:=D.e1;have x:=D.e2;have N:=D.z;replace⟨D,j,h,k,m⟩:=fF D j h k m;unfold dB at *;obtain⟨op,stream,O,code,data⟩:=q;simp only at *;subst s;rw[show cH 0=.nilIface from rfl]at t;go_enter func60,ntmps60;go_upto_region 3 with fail;rw[<-u,<-x];generalize grownCap E data.size 0 5=cap at *;clear u x;go_wp2_with fail;apply(Z F).mono;rintro e c⟨rfl,T⟩;have I:=J (Z G c T cap);have K:=J (λd=>Z t c d T);have L:=J (λd i=>Z H c d i T);clear T;go_wp2_with fail;apply(Z I).mono;rintro e d⟨rfl,f⟩;go_wp2_with fail;apply(Z K _ f).mono;rintro e i⟨rfl,l⟩;have y:=J (Z L _ _ f l);go_wp2_with fail;first|exact Z y|exact df (v:=τ #[ι δ 0,ι δ (-1),ι δ 0,ι η 0,ς ⟨#[]⟩,σ ν 0 0]) (by simp[results,results60,go_sem]) rfl (Z y)
def OR(w:ω)(xb sb:Nat)(st:aE)(A:Nat->Prop)(n:Nat)(h:cI w xb sb st A)(I:fh n st)(K:n<=100000)(j:Laid w)(q:gy)(y:aW q.code)(B:q.op=6)(hd:q.data.size<=1000000)(ho:∀cQ l,(st.recv (aI q.data)).2.2≠.shut cQ l):
 Calls prog 60 #[π (μ ⟨xb,0,ν⟩),ε (dB q)] w (kC w xb sb A (st.do q)):=by
 obtain⟨R,k⟩:=exq (kC w xb sb A (st.do q));rw[<-k];obtain⟨C,a,D⟩:=js.mk' w q;have p:=J (OJ a xb sb st A n (h.au D.g) I K (j.gb D.g) (μ ⟨w.heap.size+1,0,ν⟩) q.data.size (grownCap C q.data.size 0 5) (aI q.data) (D.bs hd) ho);have s:=J (λ(c:ω)(T:dF a.heap.size a xb sb A (st.recv (aI q.data)).2.2 c)=>D.ru h.lt T.choose_spec.2.2 hd);have t:=J (λ(c d:ω)(T:dF a.heap.size a xb sb A (st.recv (aI q.data)).2.2 c)(ev:υ)(m:vD ev (st.recv (aI q.data)).1 (st.recv (aI q.data)).2.1)(f:γ c d (μ (w.heap.size+1)))=>D.told h.n0 j T.choose_spec.2.2 f m);have u:=J (λ(c d i:ω)(T:dF a.heap.size a xb sb A (st.recv (aI q.data)).2.2 c)(f:γ c d (μ (w.heap.size+1)))(x:γ d i ν)=>(show R (ξ (τ #[ι δ (st.recv (aI q.data)).1,ι δ (st.recv (aI q.data)).2.1,ι δ 0,ι η 0,ς ⟨#[]⟩,σ ν 0 0])) i by
  have e:st.do q=(⟨(st.recv (aI q.data)).1,(st.recv (aI q.data)).2.1,0,0,[],[]⟩,(st.recv (aI q.data)).2.2):=by unfold aE.do;rw[iN_,iN_,iN_,iN_,iN_,aG B]
  rw[k,e];exact D.post (r:=(⟨(st.recv (aI q.data)).1,(st.recv (aI q.data)).2.1,0,0,[],[]⟩,(st.recv (aI q.data)).2.2)) rfl rfl (D.fin h.lt T f x)))
 have P:=pD q.data;obtain⟨r,E⟩:=exq (st.recv (aI q.data));rw[<-E]at p s t u;clear E;obtain⟨re,L,Q⟩:=r;simp only at p s t u;obtain⟨d0,d1,d2,d3,d4⟩:κ a ⟨w.heap.size,0,ν⟩=μ (ι δ q.op)/\κ a ⟨w.heap.size,1,ν⟩=μ (ι δ q.stream)/\κ a ⟨w.heap.size,2,ν⟩=μ (ι δ q.n)/\κ a ⟨w.heap.size,3,ν⟩=μ (ι η q.code)/\κ a ⟨w.heap.size,4,ν⟩=μ (ς q.data):=by simp[World.cell?,D.b,dB]
 have F:=D.e1;have G:=D.e2;have S:=D.z;replace⟨D,k,h,j,y⟩:=fF D k h j y;unfold dB at *;obtain⟨op,stream,U,code,data⟩:=q;simp only at *;subst B;go_enter func60,ntmps60;go_upto_region 3 with fail;rw[<-F,<-G];generalize grownCap C data.size 0 5=cap at *;clear F G;go_wp2_with fail;apply(Z p).mono;rintro e c⟨ev,rfl,m,T⟩;have M:=J (Z s c T cap);have N:=J (λd=>Z t c d T ev m);have O:=J (λd i=>Z u c d i T);clear T m;go_wp2_with fail;apply(Z M).mono;rintro e d⟨rfl,f⟩;go_wp2_with fail;apply(Z N _ f).mono;rintro e i⟨rfl,x⟩;have H:=J (Z O _ _ f x);go_wp2_with fail;first|exact Z H|exact df (v:=τ #[ι δ re,ι δ L,ι δ 0,ι η 0,ς ⟨#[]⟩,σ ν 0 0]) (by simp[results,results60,go_sem]) rfl (Z H)
def vG(w:ω)(xb sb:Nat)(A:Nat->Prop)(r:List Int×Int×Int×Int×aE)(a:Option Addr)(m c:Nat)(b:ω):Prop:=bn b w.heap.size (σ a m c) r.1/\∃d,cI b xb sb r.2.2.2.2 d/\(∀k,d k->A k\/w.heap.size<=k)/\ay w b A/\∀j,(Value.slice a m c).ownBlock=μ j->¬d j
def vG.fin{r:List Int×Int×Int×Int×aE}(h:vG w n i S r a m j W)(g:γ W v (Value.slice a m j).ownBlock):dF w.heap.size w n i S r.2.2.2.2 v:=by
 obtain⟨b,c,d,f,l,p⟩:=h;refine⟨c,d.other (ay.of g) (λk _ e=>p k e),f,?_⟩
 refine((l.trans (ay.of g))).mono (λk q e=>e.elim id (λe=>?_));have:=(b.lt k e).1;omega
def OS(w:ω)(xb sb:Nat)(st:aE)(A:Nat->Prop)(n:Nat)(h:cI w xb sb st A)(B:fh n st)(hn:n<=100000)(C:Laid w)(q:gy)(I:aW q.code)(K:q.op=7)(hd:q.data.size<=1000000)(L:¬(q.stream<0\/4<=q.stream)):
 Calls prog 60 #[π (μ ⟨xb,0,ν⟩),ε (dB q)] w (kC w xb sb A (st.do q)):=by
 obtain⟨R,t⟩:=exq (kC w xb sb A (st.do q));rw[<-t];obtain⟨X,f,D⟩:=js.mk' w q;have u:=J ((OD f xb sb st A n (h.au D.g) B q.stream q.n L).mono (λe Y hh=>(show∃a m c,e=ξ (τ #[σ a m c,ι δ (st.read q.stream q.n).2.1,ι η (st.read q.stream q.n).2.2.1,cH (st.read q.stream q.n).2.2.2.1])/\vG f xb sb A (st.read q.stream q.n) a m c Y from hh)));have M:Hid ((st.read q.stream q.n).1.length<=100000000):=J (by
  unfold aE.read;cases st with
  |shut _ _=>simp
  |ai s=>
   simp only
   split;simp
   ·rename_i L;have hI:=B.aF q.stream.toNat (by omega);have:=hI.len;have:=B.ag;have N:((s.aF q.stream.toNat).out q.n).length<=(s.aF q.stream.toNat).h.bytes.length:=by
     unfold It.out;split;simp;rw[ct];omega
    simp only;omega)
 have O:=J (λ(a:Option Addr)(m c:Nat)(d:ω)(T:vG f xb sb A (st.read q.stream q.n) a m c d)=>wU a m c _ d _ T.1 (by rw[T.1.iy.2.1];exact Z M));have P:=J (λ(a:Option Addr)(m c:Nat)(d:ω)(T:vG f xb sb A (st.read q.stream q.n) a m c d)=>uF T.1.iy);have E:=J (λ(d:ω)(T:dF f.heap.size f xb sb A (st.read q.stream q.n).2.2.2.2 d)=>D.ru h.lt T.choose_spec.2.2 hd);have x:=J (λ(d i:ω)(T:dF f.heap.size f xb sb A (st.read q.stream q.n).2.2.2.2 d)(l:γ d i (μ (w.heap.size+1)))=>D.told h.n0 C T.choose_spec.2.2 l (ev:=cH (st.read q.stream q.n).2.2.2.1) (n:=(st.read q.stream q.n).2.2.2.1) (p:= -1) ⟨rfl,rfl⟩);have F:=J (λ(d i k:ω)(T:dF f.heap.size f xb sb A (st.read q.stream q.n).2.2.2.2 d)(l:γ d i (μ (w.heap.size+1)))(y:γ i k ν)=>(show R (ξ (τ #[ι δ (st.read q.stream q.n).2.2.2.1,ι δ (-1),ι δ (st.read q.stream q.n).2.1,ι η (st.read q.stream q.n).2.2.1,ς (strOfNums (st.read q.stream q.n).1),σ ν 0 0])) k by
  have e:st.do q=(⟨(st.read q.stream q.n).2.2.2.1,-1,(st.read q.stream q.n).2.1,(st.read q.stream q.n).2.2.1,(st.read q.stream q.n).1,[]⟩,(st.read q.stream q.n).2.2.2.2):=by unfold aE.do;rw[iN_,iN_,iN_,iN_,iN_,iN_,aG K]
  rw[t,e];obtain⟨A',N,h2,h3⟩:=D.fin h.lt T l y;exact⟨ν,0,0,rfl,gH.nil _ _,A',N,h2,h3,λj e=>by cases e⟩))
 have bt:=pD q.data;obtain⟨r,Q⟩:=exq (st.read q.stream q.n);rw[<-Q]at u E x F O P M;clear Q;obtain⟨rl,rs,rc,re,bx⟩:=r;simp only at u E x F;obtain⟨d0,d1,d2,d3,d4⟩:κ f ⟨w.heap.size,0,ν⟩=μ (ι δ q.op)/\κ f ⟨w.heap.size,1,ν⟩=μ (ι δ q.stream)/\κ f ⟨w.heap.size,2,ν⟩=μ (ι δ q.n)/\κ f ⟨w.heap.size,3,ν⟩=μ (ι η q.code)/\κ f ⟨w.heap.size,4,ν⟩=μ (ς q.data):=by simp[World.cell?,D.b,dB]
 have S:=D.e1;have U:=D.e2;have bz:=D.z;replace⟨D,t,h,C,I⟩:=fF D t h C I;unfold dB at *;obtain⟨op,stream,qn,code,data⟩:=q;simp only at *;subst K;generalize cH re=ev at u x;go_enter func60,ntmps60;go_upto_region 3 with fail;rw[<-S,<-U];generalize grownCap X data.size 0 5=cap at *;clear S U;go_wp2_with fail;apply(Z u).mono;rintro e d⟨G,H,c3,rfl,T⟩;have a2:=Z P G H c3 d T;have a3:=J (Z O G H c3 d T);have a4:=J (λi(g:γ d i (Value.slice G H c3).ownBlock)=>T.fin g);clear T;go_wp2_with fail;apply(Z a3).mono;rintro e i⟨rfl,l⟩;have T:=Z a4 i l;have a8:=J (Z E i T cap);have a9:=J (λk=>Z x i k T);have bb:=J (λk V=>Z F i k V T);clear T l a2;go_wp2_with fail;apply(Z a8).mono;rintro e k⟨rfl,y⟩;go_wp2_with fail;apply(Z a9 _ y).mono;rintro e V⟨rfl,g6⟩;have W:=J (Z bb _ _ y g6);go_wp2_with fail;first|exact Z W|exact df (v:=τ #[ι δ re,ι δ (-1),ι δ rs,ι η rc,ς (strOfNums rl),σ ν 0 0]) (by simp[results,results60,go_sem]) rfl (Z W)
def ns(o:Ot)(k:Nat)(p:Pc)(f:Fr):Prop:=
 (o.sG=ρ/\p.g=ρ/\p.x=⟨0,0⟩/\f=⟨4,k,o.av,o.code,θ,⟨#[]⟩,[]⟩)\/
 (o.sG=θ/\p.g=θ/\o.h.fr<=p.x.lo/\p.x.lo<=p.x.hi/\p.x.hi<=o.en/\p.e=(o.sE&&p.x.hi==o.en)/\(p.x.lo<p.x.hi\/p.e=ρ)/\
   f=⟨5,k,p.x.lo,0,p.e,strOfNums ((o.h.bytes.drop (p.x.lo-o.h.fr).toNat).take (p.x.hi-p.x.lo).toNat),[]⟩)
abbrev Told:=List (Pc×Fr)
def nu(m:Int)(L:Told):Int:=L.foldl (λm y=>max m y.1.x.hi) m
def dr(o:Ot)(m:Int)(L:Told):Int:=if o.sG then m else nu m L
def OT(d:Du)(L:Told):Du:=L.foldl (λd y=>d.leave y.1) d
def OU{o:Ot}{d:Du}(ho:o={G with av:=o.av})(hs:G.sG=ρ->o.av=G.av)(h:fv o d)(j:q<=1000)(a:(o.next d q).2=ρ)(m:0<=o.h.fr):ns G k (o.next d q).1 (o.cK k (o.next d q).1)/\(o.iP (o.next d q).1).av=dr G o.av [((o.next d q).1,o.cK k (o.next d q).1)]:=by
 have e1:o.sG=G.sG:=by rw[ho]
 have e2:o.sE=G.sE:=by rw[ho]
 have c:o.h=G.h:=by rw[ho]
 have n:o.code=G.code:=by rw[ho]
 have g:o.en=G.en:=by unfold Ot.en;rw[c]
 unfold Ot.next at a⊢;cases b:o.sG;rw[b]at a;simp only[eN,eA]at a⊢;obtain⟨r,s,t,f,-⟩:=tA h j a m;have i:(o.dQ d.l d.e q).1.e=(o.sE&&(o.dQ d.l d.e q).1.x.hi==o.en)/\((o.dQ d.l d.e q).1.x.lo<(o.dQ d.l d.e q).1.x.hi\/(o.dQ d.l d.e q).1.e=ρ):=by
  unfold Ot.dQ at a⊢;split at a;simp at a;rename_i u;rw[aB u];refine⟨rfl,?_⟩
  simp only[wJ,mu,iu]at a;obtain a|a:=a
  exact φ a;right;simp only[iu]
  exact a.1
 generalize (o.dQ d.l d.e q).1=p at *;refine⟨ψ ⟨by rw[<-e1];exact b,f,by rw[<-c];exact r,s,by rw[<-g];exact t,by rw[i.1,e2,g],i.2,?_⟩,?_⟩
 unfold Ot.cK;rw[f,c];simp;unfold Ot.iP dr nu;rw[f,<-e1,b];simp;rw[b]at a;simp only[dC]at a⊢;simp only[iu]at a;refine⟨φ ⟨by rw[<-e1];exact b,a.1,rfl,?_⟩,?_⟩
 unfold Ot.cK;simp only[a.1,dC]
 rw[hs (by rw[<-e1];exact b),n];unfold Ot.iP dr;simp only[a.1,dC];rw[<-e1,b];simp
def OV{d0:Du}(l:k<4)(n:q<=1000)(c:0<=G.h.fr)(r:G.en<=4096):∀(m:Nat)(x:Ld),nY G d0 q x->x.o={G with av:=x.o.av}->(G.sG=ρ->x.o.av=G.av)->
 ∃L:Told,(fg k q m x).fr=x.fr++bA (L.map (·.2))/\(fg k q m x).ps=x.ps++L.map (·.1)/\(∀y∈L,ns G k y.1 y.2)/\(fg k q m x).o.av=dr G x.o.av L/\(fg k q m x).d=OT x.d L:=by
 intro m;induction m with
 |zero=>exact λx e f b=>⟨[],by simp[fg,bA],by simp[fg],λy a=>(by cases a),by simp[fg,dr,nu],rfl⟩
 |succ m s=>
  intro x H ho hs;unfold fg;cases g:(x.o.next x.d (q-x.fr.length)).2;simp only[eN,eA]
  exact⟨[],by simp[bA],by simp,λy a=>(by cases a),by simp[dr,nu],rfl⟩
  simp only[dC]
  have u:0<=x.o.h.fr:=by rw[H.h];exact c
  obtain⟨e,f⟩:=OU (k:=k) ho hs H.ku (q:=q-x.fr.length) (by omega) g u;have v:=(H.step k l n c r g).1;generalize (x.o.next x.d (q-x.fr.length)).1=p at *;have w:(x.step k p).o={G with av:=(x.step k p).o.av}:=by
   show x.o.iP p={G with av:=(x.o.iP p).av}
   have b:=EA x.o p;generalize (x.o.iP p).av=t at b⊢;rw[b,ho]
  have i:(x.step k p).o.av=dr G x.o.av [(p,x.o.cK k p)]:=f;obtain⟨L,z,A,B,C,D⟩:=s (x.step k p) v w (λj=>by rw[i];unfold dr;rw[aG j];exact hs j);refine⟨(p,x.o.cK k p)::L,?_,?_,λy a=>?_,?_,?_⟩
  rw[z];show(x.fr++bA [x.o.cK k p])++_=_;simp[bA];rw[A];show(x.ps++[p])++_=_;simp;obtain rfl|a:=dY.1 a
  exact e;exact B y a;rw[C,i];unfold dr nu;cases G.sG<;>simp;rw[D];rfl
def gI(key:List Int)(s:Int):Int->List (List Fr)->List (List Int)
 |_,[]=>[]
 |n,f::r=>dq key s n (bA f)::gI key s (n+1) r
def lO(tick:Int)(k:Int):Int->List (List Pc)->List Pk
 |_,[]=>[]
 |n,p::r=>⟨n,tick,k,p⟩::lO tick k (n+1) r
def EF(key:List Int)(s:Int)(a b:List (List Fr)):∀n,gI key s n (a++b)=gI key s n a++gI key s (n+a.length) b:=by
 induction a with
 |nil=>intro n;simp[gI]
 |cons f a c=>intro n;simp only[pT,gI,c,cS];congr 2;congr 1;omega
def As(key:List Int)(s:Int)(a:List (List Fr)):∀n,(gI key s n a).length=a.length:=by
 induction a with
 |nil=>intro n;rfl
 |cons f a b=>intro n;simp[gI,b]
def EG{a:List (List Fr)}:∀{n:Int}{p:List Int},p∈gI L q n a->∃f∈a,∃m,p=dq L q m (bA f):=by
 induction a with
 |nil=>intro n p h;cases h
 |cons f a b=>
  intro n p h;obtain h|h:=dY.1 h
  exact⟨f,by simp,n,h⟩
  obtain⟨g,c,m,e⟩:=b h;exact⟨g,by simp[c],m,e⟩
structure yp(s:Sd)(k:Nat)(x y:Pz)(E:List Told):Prop where
 l:y.l=x.l++gI s.key (aK s.first) x.s.count (E.map (·.map (·.2)))
 aw:y.s.aw=x.s.aw++lO s.tick k x.s.count (E.map (·.map (·.1)))
 count:y.s.count=x.s.count+E.length
 fr:∀L∈E,L≠[]/\((bA (L.map (·.2))).length:Int)<=s.aj-16/\∀z∈L,ns (s.out k) k z.1 z.2
 av:(y.s.out k).av=dr (s.out k) (x.s.out k).av E.flatten
def At(o:Ot)(m:Int)(a b:Told):dr o (dr o m a) b=dr o m (a++b):=by
 unfold dr nu;cases o.sG<;>simp
def EH(i:k<4)(t:16<=s.aj/\s.aj<=1000)(j:0<=(s.out k).h.fr)(n:(s.out k).en<=4096):∀(m:Nat)(x:Pz),ma s k x->x.s.out k={s.out k with av:=(x.s.out k).av}->((s.out k).sG=ρ->(x.s.out k).av=(s.out k).av)->x.s.first=s.first->x.s.tick=s.tick->∃E,yp s k x (ik k m x) E:=by
 intro m;induction m with
 |zero=>exact λx a K M N O=>⟨[],by simp[ik,gI],by simp[ik,lO],by simp[ik],λL b=>(by cases b),by simp[ik,dr,nu]⟩
 |succ m z=>
  intro x hP ho hs u v;have A:=hP.ld i t j n;have p:=hP.aj;have B:=hP.key;have C:=hP.h;obtain⟨L,g,c,D,f,-⟩:=OV (G:=s.out k) (d0:=x.d) (q:=x.s.aj-16) i (by rw[p];omega) j n ((x.s.aj-16).toNat+1) ⟨x.s.out k,x.d,[],[]⟩ ⟨C,hP.sG,hP.code,hP.av,hP.ku,by simp,by rw[p];simp;omega,by simp⟩ ho hs;have g:(x.load k).fr=bA (L.map (·.2)):=g.trans (by simp);have c:(x.load k).ps=L.map (·.1):=c.trans (by simp);have f:(x.load k).o.av=dr (s.out k) (x.s.out k).av L:=f;have F:(x.load k).o={x.s.out k with av:=(x.load k).o.av}:=yk k (x.s.aj-16) ((x.s.aj-16).toNat+1) ⟨x.s.out k,x.d,[],[]⟩;unfold ik;split;exact⟨[],by simp[gI],by simp[lO],by simp,λL b=>(by cases b),by simp[dr,nu]⟩
  split;rename_i G h0;have H:L=[]:=by rw[c,dd]at h0;exact kJ h0
  subst H;refine⟨[],by simp[gI,Pz.stay],by simp[lO,Pz.stay],by simp[Pz.stay],λL b=>(by cases b),?_⟩
  show(ah x.s.out k (x.load k).o k).av=_;rw[aR,f];rfl;rename_i G h0;have w:(x.gp k).s.out k={s.out k with av:=(x.load k).o.av}:=by
   show ah x.s.out k (x.load k).o k=_;rw[aR,F,ho]
  have q:((x.gp k).s.out k).av=(x.load k).o.av:=by rw[w]
  obtain⟨E,a⟩:=z (x.gp k) (hP.gp i t j n (by omega)) (by rw[q];exact w) (λy=>by rw[q,f];unfold dr;rw[aG y];exact hs y) u v;refine⟨L::E,?_,?_,?_,λI r=>?_,?_⟩
  rw[a.l];show(x.l++[dq x.s.key (aK x.s.first) x.s.count (x.load k).fr])++gI s.key (aK s.first) (x.s.count+1) _=_;rw[g,u,B];simp[gI];rw[a.aw];show(x.s.aw++[⟨x.s.count,x.s.tick,k,(x.load k).ps⟩])++lO s.tick k (x.s.count+1) _=_;rw[c,v];simp[lO];rw[a.count];show x.s.count+1+_=_;simp;omega;obtain rfl|r:=dY.1 r
  refine⟨λe=>h0 (by rw[c,e];rfl),?_,D⟩
  rw[<-g];have:=A.fl;rw[p]at this;exact this;exact a.fr I r;rw[a.av,q,f,At];rfl
def OW(h:bO s n)(f:n<=100000)(k:Nat)(a:k<4):∃E,yp s k ⟨s,s.due k,[]⟩ (s.pieces k) E:=by
 have b:=h.ba;have c:=h.tR;obtain⟨g,i,d⟩:=c.p0 k a ⟨b.1,by omega⟩ (s.aw.map (λx=>(x,Value.slice ν 0 0))) (by rw[pV];show _=List.map id _;rw[rK]);have ho:=h.yn a;have e:=h.fl;have j:=h.aj;exact EH a (by omega) ho.nice.1 ho.en 11 ⟨s,s.due k,[]⟩ ⟨rfl,rfl,rfl,rfl,rfl,ho.av,d,by simp only;omega,e,by simp only;omega,by simp⟩ rfl (λ_=>rfl) rfl rfl
def OX(l:List Rg)(a:Int)(h0:0<l.length)(e:40<=a):∀m,1<=m->1<=ky l a m/\1+((gJ (l.take (ky l a m))).length:Int)<=a:=by
 intro m;induction m with
 |zero=>omega
 |succ m c=>
  intro _;unfold ky;split;rename_i b;by_cases d:1<=m;exact c d;have:m=0:=by omega
  subst this;have:=DX l h0;simp only[ep]at b;omega;rename_i b;exact⟨by omega,by omega⟩
def OY(l:List Rg):bA [bw l]=2::gJ l:=by simp[bA,dm,bw]
def OZ(y:56<=q):∀(m:Nat)(x:Ak),x.rest.length<=m->x.s.aj=q->x.s.key=L->aK x.s.first=p->(x.rest≠[]->iT x.rest)->
 ∃C:List (List Rg),(ng m x).l=x.l++gI L p x.s.count (C.map λc=>[bw c])/\(ng m x).s={x.s with count:=x.s.count+C.length}/\C.flatten=x.rest/\∀c∈C,iT c/\((bA [bw c]).length:Int)<=q-16:=by
 intro m;induction m with
 |zero=>
  intro x h0 g b d h;have:x.rest=[]:=eN_;exact⟨[],by simp[ng,gI],by simp[ng],by rw[this];rfl,λc a=>(by cases a)⟩
 |succ m k=>
  intro x h0 g b d h;unfold ng;split;rename_i f;have:x.rest=[]:=kJ f;exact⟨[],by simp[gI],by simp,by rw[this];rfl,λc a=>(by cases a)⟩
  rename_i f;have r:x.rest≠[]:=λe=>f (by rw[e];rfl)
  have t:0<x.rest.length:=by omega
  obtain⟨u,v⟩:=OX x.rest (x.s.aj-16) t (by omega) x.rest.length (by omega);have i:=Me x.rest (x.s.aj-16) x.rest.length;have en:x.n=ky x.rest (x.s.aj-16) x.rest.length:=rfl;rw[<-en]at u v i;have j:=h r;obtain⟨C,c1,c2,c3,c4⟩:=k x.step (by show(x.rest.drop x.n).length<=m;rw[dO];omega) g b d (λw=>DY j x.n (by
   have:(x.rest.drop x.n).length≠0:=λe=>w (kJ e)
   rw[dO]at this;omega))
  refine⟨x.rest.take x.n::C,?_,?_,?_,λc a=>?_⟩
  rw[c1];show(x.l++[dq x.s.key (aK x.s.first) x.s.count (bA [bw (x.rest.take x.n)])])++gI L p (x.s.count+1) _=_;rw[b,d];simp[gI];rw[c2];show({x.s with count:=x.s.count+1+_}:Sd)=_;congr 1;simp;omega;rw[List.flatten_cons,c3];exact pR _ _;obtain rfl|a:=dY.1 a
  refine⟨Af j _ (by omega) i,?_⟩
  rw[OY,cS];push_cast;omega;exact c4 c a
structure sd(s:Sd)(C:List (List Rg)):Prop where
 l:s.eY.l=gI s.key (aK s.first) s.count (C.map λc=>[bw c])
 st:s.eY.s={s with bQ:=θ,count:=s.count+C.length}
 all:s.bQ=ρ->C.flatten=eX s.af s.af.length
 no:s.bQ=θ->C=[]
 fr:∀c∈C,iT c/\((bA [bw c]).length:Int)<=s.aj-16
def EI(h:bO s n):∃C,sd s C:=by
 cases ho:s.bQ;refine⟨[],?_,?_,λe=>(by rw[ho]at e;cases e),λ_=>rfl,λc a=>(by cases a)⟩
 unfold Sd.eY;rw[ho];simp[gI];unfold Sd.eY;rw[aB (by rw[ho];decide)];simp only[fM];rw[<-ho];simp;have d:=h.c8;have f:=h.aj;obtain⟨C,c1,c2,c3,c4⟩:=OZ (L:=s.key) (p:=aK s.first) (q:=s.aj) (by omega) 10 ⟨{s with bQ:=θ},eX s.af s.af.length,[]⟩ (by simp only[lZ];omega) rfl rfl rfl (λb=>D0 s.af h.kY (by
  have:(eX s.af s.af.length).length≠0:=λe=>b (kJ e)
  rw[lZ]at this;omega) h.cr)
 refine⟨C,?_,?_,λ_=>c3,λe=>(by rw[ho]at e;cases e),c4⟩
 unfold Sd.eY;rw[ho];simpa using c1;unfold Sd.eY;rw[ho];simpa using c2
def bO.mono(h:bO s n)(b:n<=m):bO s m:=
 {h with num:=λx a=>(by have:=h.num x a;omega),tick:=(by have:=h.tick;omega),ba:=(by have:=h.ba;omega),ll:=(by have:=h.ll;omega)}
def fG.same{a:Ot}(h:fG G)(e:a.h=G.h):fG a:=⟨by rw[e];exact h.ok,by rw[e];exact h.lK,by rw[e];exact h.fr,by rw[e];exact h.low,by rw[e];exact h.hole,by unfold Ot.en;rw[e];exact h.en⟩
def ns.ok{p:Pc}(h:ns G k p I)(ho:fG G):jQ p:=by
 have a:=ho.fr;have b:=ho.en;obtain⟨-,-,e,-⟩|⟨-,-,c,d,f,-⟩:=h
 unfold jQ;rw[e];simp;unfold jQ;omega
def O0{a:List (List Pc)}:∀{n:Int}{x:Pk},x∈lO p q n a->x.tick=p/\x.st=q/\x.ps∈a/\n<=x.num/\x.num<n+a.length:=by
 induction a with
 |nil=>intro n x h;cases h
 |cons f a b=>
  intro n x h;obtain rfl|h:=dY.1 h
  exact⟨rfl,rfl,by simp,cE _,by simp;omega⟩
  obtain⟨c,d,e,g,i⟩:=b h;exact⟨c,d,by simp[e],by omega,by simp;omega⟩
def EJ(tick k:Int)(a:List (List Pc)):∀n,(lO tick k n a).length=a.length:=by
 induction a with
 |nil=>intro n;rfl
 |cons f a b=>intro n;simp[lO,b]
def yq(h:bO s n)(c:n<=100001)(k:Nat)(a:k<4):vE s k (s.pieces k).s/\(s.pieces k).l.length<=10:=by
 have b:=h.ba;exact Aq h.tR k a ⟨b.1,by omega⟩ (s.aw.map (λx=>(x,Value.slice ν 0 0))) (by rw[pV];show _=List.map id _;rw[rK])
def EK(h:bO s n)(F:n<=100001)(w:s.count+10<=100*n)(hl:s.lost.length+s.aw.length+10<=100*n)(k:Nat)(i:k<4):bO (s.pieces k).s n/\∃E,yp s k ⟨s,s.due k,[]⟩ (s.pieces k) E/\E.length<=10:=by
 obtain⟨R,P⟩:=yq h F k i;have g:∃E,yp s k ⟨s,s.due k,[]⟩ (s.pieces k) E:=by
  have w:=h.ba;have G:=h.tR;obtain⟨c,l,m⟩:=G.p0 k i ⟨w.1,by omega⟩ (s.aw.map (λx=>(x,Value.slice ν 0 0))) (by rw[pV];show _=List.map id _;rw[rK]);have ho:=h.yn i;have z:=h.fl;have Q:=h.aj;exact EH i (by omega) ho.nice.1 ho.en 11 ⟨s,s.due k,[]⟩ ⟨rfl,rfl,rfl,rfl,rfl,ho.av,m,by simp only;omega,z,by simp only;omega,by simp⟩ rfl (λ_=>rfl) rfl rfl
 obtain⟨E,g⟩:=g;have A:=g.count;have H:E.length<=10:=by have:=R.ba;simp only at A;omega
 have q:=g.aw;simp only at q;have r:∀x∈(s.pieces k).s.aw,x∈s.aw\/(x.tick=s.tick/\x.st=(k:Int)/\(∃L∈E,x.ps=L.map (·.1))/\s.count<=x.num/\x.num<s.count+E.length):=λx a=>by
  rw[q]at a;obtain a|a:=bL.1 a
  exact φ a;obtain⟨c,l,m,B,C⟩:=O0 a;obtain⟨L,t,e⟩:=eU.1 m;rw[dd]at C;exact ψ ⟨c,l,⟨L,t,e.symm⟩,B,C⟩
 have S:=h.ba;have u:∀j,j<4->((s.pieces k).s.out j).h=(s.out j).h/\((s.pieces k).s.out j).code=(s.out j).code:=λj _=>by
  rw[R.eq];by_cases e:j=k;subst e;simp only[aR];exact⟨trivial,trivial⟩
  simp only[aX _ _ e];exact⟨trivial,trivial⟩
 refine⟨?_,E,g,H⟩
 have d:∀{α:Type}(f:Sd->α),f (s.pieces k).s=f {s with out:=ah s.out k {s.out k with av:=((s.pieces k).s.out k).av},aw:=(s.pieces k).s.aw,count:=(s.pieces k).s.count}:=λf=>fD f R.eq
 have I:(s.pieces k).s.key=s.key:=d (·.key);have K:(s.pieces k).s.aj=s.aj:=d (·.aj);have k3:(s.pieces k).s.ag=s.ag:=d (·.ag);have k4:(s.pieces k).s.aF=s.aF:=d (·.aF);have k5:(s.pieces k).s.lost=s.lost:=d (·.lost);have D:(s.pieces k).s.tick=s.tick:=d (·.tick);have M:(s.pieces k).s.wait=s.wait:=d (·.wait);have v:(s.pieces k).s.af=s.af:=d (·.af);have N:∀x∈(s.pieces k).s.aw,0<=x.st/\x.st<4/\∀p∈x.ps,jQ p:=λx a=>by
  obtain c|⟨-,l,⟨L,t,e⟩,-⟩:=r x a
  exact h.pk x (fC _ c);refine⟨by omega,by omega,λp hp=>?_⟩
  rw[e]at hp;obtain⟨y,O,rfl⟩:=eU.1 hp;exact((g.fr L t).2.2 y O).ok (h.out k i)
 simp only at A;have z:(s.pieces k).s.aw.length=s.aw.length+E.length:=by rw[q,bF,EJ,dd]
 refine⟨by rw[I];exact h.key,by rw[K];exact h.aj,by rw[k3];exact h.ag,λj b=>(h.out j b).same (u j b).1,λj b=>by rw[(u j b).1,k3];exact h.og j b,λj b=>?_,λj b=>by rw[(u j b).2];exact h.code j b,by rw[k3,k4];exact h.aF,λx a=>?_,λx a=>?_,R.fl,R.fp,λx a=>?_,by rw[D];exact h.tick,by rw[M];exact h.wait,by omega,by rw[k5];omega,by rw[v];exact h.kY,by rw[v];exact h.c8,by rw[v];exact h.cr⟩
 by_cases e:j=k;subst e;exact R.av;have:((s.pieces k).s.out j).av=(s.out j).av:=by rw[R.eq];simp only[aX _ _ e]
 rw[this];exact h.av j b;obtain a|a:=bL.1 a
 exact N x a;rw[k5]at a;exact h.pk x (ir _ a);obtain c|⟨-,-,-,m,B⟩:=r x a
 exact h.num x c;omega;rw[D];obtain c|⟨l,-⟩:=r x a
 exact h.ft x c;have:=h.tick;omega
def EL(h:bO s n)(d:s.count+10<=100*n):bO s.eY.s n/\∃C,sd s C/\C.length<=10:=by
 obtain⟨C,a⟩:=EI h;obtain⟨c,e,f,g,b⟩:=vF s;have hl:C.length<=10:=by rw[a.l,As,dd]at b;exact b
 refine⟨?_,C,a,hl⟩
 rw[a.st];have:=h.ba;exact⟨h.key,h.aj,h.ag,h.out,h.og,h.av,h.code,h.aF,h.pk,h.num,h.fl,h.fp,h.ft,h.tick,h.wait,by simp only;omega,h.ll,h.kY,h.c8,h.cr⟩
def vH(h:bO s n)(z:n<=100000):∀k,k<=4->bO (bY s k).1 (n+1)/\(bY s k).1.count<=100*n+10+10*k/\(bY s k).1.lost.length+(bY s k).1.aw.length<=100*n+10*k/\(bY s k).1.aj=s.aj/\(bY s k).2.length<=10+10*k/\∀p∈(bY s k).2,(p.length:Int)<=s.aj:=by
 intro k;induction k with
 |zero=>
  intro _;have t:=h.mono (cf n);have A:=h.ba;obtain⟨d,C,a,hl⟩:=EL t (by omega);have B:=h.ll;refine⟨d,?_,?_,?_,?_,λp hp=>?_⟩
  show s.eY.s.count<=_;rw[a.st];simp only;omega;show s.eY.s.lost.length+s.eY.s.aw.length<=_;rw[a.st];simp only;omega;show s.eY.s.aj=_;rw[a.st];show s.eY.l.length<=_;rw[a.l,As,dd];omega;have hp:p∈s.eY.l:=hp;rw[a.l]at hp;obtain⟨f,g,m,e⟩:=EG hp;obtain⟨c,u,rfl⟩:=eU.1 g;have:=(a.fr c u).2;rw[e,qX];push_cast;omega
 |succ k v=>
  intro D;obtain⟨i,F,G,j,H,w⟩:=v (by omega);obtain⟨d,E,b,hl⟩:=EK i (by omega) (by push_cast;omega) (by omega) k (by omega);have x:=b.count;have q:=b.aw;simp only at x q;have I:((bY s k).1.pieces k).s.aw.length=(bY s k).1.aw.length+E.length:=by rw[q,bF,EJ,dd]
  have R:=(yq i (by omega) k (by omega)).1;have e1:((bY s k).1.pieces k).s.lost=(bY s k).1.lost:=by rw[R.eq]
  have e2:((bY s k).1.pieces k).s.aj=(bY s k).1.aj:=by rw[R.eq]
  have r:((bY s k).1.pieces k).l=gI (bY s k).1.key (aK (bY s k).1.first) (bY s k).1.count (E.map (·.map (·.2))):=by rw[b.l];rfl
  refine⟨d,?_,?_,?_,?_,λp hp=>?_⟩
  show((bY s k).1.pieces k).s.count<=_;omega;show((bY s k).1.pieces k).s.lost.length+((bY s k).1.pieces k).s.aw.length<=_;rw[e1];omega;show((bY s k).1.pieces k).s.aj=_;rw[e2];exact j;show((bY s k).2++((bY s k).1.pieces k).l).length<=_;rw[bF,r,As,dd];omega;have hp:p∈(bY s k).2++((bY s k).1.pieces k).l:=hp;obtain hp|hp:=bL.1 hp
  exact w p hp;rw[r]at hp;obtain⟨f,g,m,e⟩:=EG hp;obtain⟨L,y,rfl⟩:=eU.1 g;have:=(b.fr L y).2.1;rw[e,qX];push_cast;rw[<-j];omega
def EM(h:bO s n)(a:n<=100000):bO s.bB.1 (n+1)/\s.bB.2.length<=50/\∀p∈s.bB.2,(p.length:Int)<=300:=by
 obtain⟨b,-,-,-,c,d⟩:=vH h a 4 (aP _);exact⟨b,by have:s.bB.2.length<=10+10*4:=c;omega,λp hp=>by have:=d p hp;have:=h.aj;omega⟩
def O1:(prog.info? 9).map (λi=>(i.zero,i.size,i.bytes))=μ (μ (ς ⟨#[]⟩),1,16):=by kernel_rfl
def gH.lt{l:List (List Int)}(h:gH w n x l):∀k,x.ownBlock=μ k->n<=k/\k<w.heap.size:=World.ownsRow.lt h
def gH.aA{l:List (List Int)}(h:gH w n x l)(C:ay w W S)(c:∀k,x.ownBlock=μ k->¬S k):gH W n x l:=by
 obtain⟨d,a⟩:=h;refine⟨d,?_⟩
 obtain a|⟨g,cap,cur,e1,e2,b,e⟩:=a
 exact φ a;exact ψ ⟨g,cap,cur,e1,e2,(C.block g (bg.1 b).1 (c g (by rw[e1];rfl))).trans b,e⟩
def gH.low{b2:Nat}{l:List (List Int)}(h:gH w n x l)(d:b2<=n):gH w b2 x l:=by
 obtain⟨b,a⟩:=h;refine⟨b,?_⟩
 obtain a|⟨g,cap,cur,e1,e2,c⟩:=a
 exact φ a;exact ψ ⟨g,cap,cur,e1,by omega,c⟩
def gH.gR{l:List (List Int)}(h:gH w n x l):∃a cap,x=σ a l.length cap:=by
 obtain⟨c,⟨b,h0⟩|⟨g,d,e,e1,-⟩⟩:=h;exact⟨ν,0,by rw[h0];exact b⟩
 exact⟨_,_,e1⟩
def O2(ty:TypeId)(d:Nat)(v:υ)(l:List (List Int))(r:gH w d v l)(b c:Nat)(p:List Int)(h0:κ w ⟨b,0,ν⟩=μ (ς (strOfNums p)))(D:l.length<=1000000)(s:d<=w.heap.size):
 ∃i k m a,(Builtin.append_ #[44,44] ty #[v,σ (μ ⟨b,0,ν⟩) 1 c]).run prog w=.ok (σ i k m) a/\gH a d (σ i k m) (l++[p])/\γ w a v.ownBlock:=by
 obtain⟨t,hi,x,y,z⟩:=lU O1;obtain⟨A,a,n,B,q,_,E⟩:=run_append_own_at (P:=prog) w d 44 ty 9 t _ 1 16 underlying44 hi x y z rfl (by decide) v l.length (l.map λp=>ς (strOfNums p)) r ⟨b,0,ν⟩ 1 c ([p].map λp=>ς (strOfNums p)) (by simp) (by
  intro j u f;rw[Addr.add_mid];have:j=0:=by
   have:=(lA.1 f).1;simp at this;exact this
  subst this;simp at f;subst f;exact h0) (λu C=>by
  obtain⟨e,-,rfl⟩:=eU.1 C;rfl) (by simp[maxLen];omega) (by omega) s
 have h:gH a d A (l++[p]):=by
  unfold gH;rw[bF,mV];exact B
 obtain⟨-,⟨rfl,e2⟩|⟨g,cap,F,rfl,_⟩⟩:=id h;exact⟨_,_,_,a,n,h,q⟩
 exact⟨_,_,_,a,n,h,q⟩
def fw(l:List El)(i:Nat):El:=l.getD i (0,[])
def yr{l:List El}(h:i<l.length):l[i]?=μ (fw l i):=by simp[fw,List.getD,h]
def Au{l:List El}(h:i<l.length):fw l i∈l:=yU (yr h)
def Av{l:List El}(h:j<l.length):l.take (j+1)=l.take j++[fw l j]:=by
 rw[pS,yr h];rfl
def O3(h:∀x∈L,W8 x)(a:w.heap[n]?=μ (ο (bv L).toArray 5 (0,0)))(hl:L.length<=1000000):bn w 0 (ks (n,L)) L:=by
 have e:=fX L;refine⟨h,by omega,ψ ⟨n,L.length,(bv L).toArray,rfl,jm _,a,aP _,by simp[maxLen];omega,by simp[e],?_⟩⟩
 rw[jx (by simp[e])]
structure mf(a:ω)(b:List El)(j:Nat)(c:υ)(wr:ω):Prop where
 own:gH wr a.heap.size c ((b.take j).map (·.2))
 aA:ay a wr (λk=>∃e∈b.take j,e.1=k)
def mf.el{wr:ω}{a:List El}(h:mf w a j x wr)(c:jS w 0 a)(b:j<a.length)(hl:∀e∈a,e.2.length<=1000000):bn wr 0 (ks (fw a j)) (fw a j).2:=by
 have d:=Au b;obtain⟨-,f,g⟩:=c.at_ _ d;have i:wr.heap[(fw a j).1]?=μ (ο (bv (fw a j).2).toArray 5 (0,0)):=by
  rw[h.aA.block _ (c.lt d) ?_];exact g;rintro⟨e,k,e2⟩;have hs:=c.sep;rw[<-pR j a]at hs;have hd:fw a j∈a.drop j:=by
   rw[Bt b];have:a[j]=fw a j:=by have:=yr b;rw[dT b]at this;exact aQ this
   rw[this];simp
  exact(uj.1 hs).2.2 e k _ hd e2
 have:=hl _ d;exact O3 f i this
def mf.row{wr:ω}{b:List El}(h:mf w b j y wr)(c:gK w 0 (σ a n i) b)(d:∀e∈b,(Value.slice a n i).ownBlock≠μ e.1):gK wr 0 (σ a n i) b:=c.aA h.aA (λk e ⟨x,f,e2⟩=>d x (jg f) (by rw[e2];exact e))
def mf.step{wr:ω}{b:List El}(h:mf w b j x wr)(f:j<b.length)(gb:γ wr W ν)(g:gH v w.heap.size (σ a n i) ((b.take j).map (·.2)++[(fw b j).2]))(c:γ W v x.ownBlock)(d:γ v V (μ (fw b j).1))(q:(fw b j).1<w.heap.size):mf w b (j+1) (σ a n i) V:=by
 refine⟨?_,?_⟩
 have e:(b.take (j+1)).map (·.2)=(b.take j).map (·.2)++[(fw b j).2]:=by rw[Av f];simp
 rw[e];refine g.aA (ay.of d) (λk e1 e2=>?_);have:=(g.lt k e1).1;have:=aQ e2;omega;refine⟨d.os.trans (c.os.trans (gb.os.trans h.aA.os)),d.tape.trans (c.tape.trans (gb.tape.trans h.aA.tape)),d.output.trans (c.output.trans (gb.output.trans h.aA.output)),bK h.aA.size (bK gb.size (bK c.size d.size)),λk m l=>?_⟩
 have r:=h.aA.size;have z2:=gb.size;have s:=c.size;rw[d.block k (by omega) (λe=>l ⟨fw b j,by rw[Av f];simp,(aQ e).symm▸rfl⟩),c.block k (by omega) (λe=>by have:=(h.own.lt k e.symm).1;omega),gb.block k (by omega) (by simp)];refine h.aA.block k m (λ⟨e,p,e2⟩=>l ⟨e,?_,e2⟩);rw[Av f];exact fC _ p
def aE.EN{st:aE}(a:fh n st)(b:n<=100000):st.bB.2.length<=50/\∀p∈st.bB.2,(p.length:Int)<=300:=by
 cases st with
 |ai s=>exact(EM a b).2
 |shut cQ l=>exact False.elim a
def mf.done{wr f m:ω}{q:gy}(D:js w q W v){st:aE}{b:List El}(E:∀k,S k->k<w.heap.size)(T:mf V b b.length x wr)(z:cI V i l st P)(A:∀k,P k->S k\/v.heap.size<=k)(C:ay v V S)(B:∀e∈b,¬P e.1/\(S e.1\/v.heap.size<=e.1))(p:γ wr f (μ (w.heap.size+1)))(r:γ f m ν):
 ∃a n c,x=σ a n c/\gH m w.heap.size x (b.map (·.2))/\cI m i l st P/\(∀k,P k->S k\/w.heap.size<=k)/\ay w m S/\∀j,x.ownBlock=μ j->¬P j:=by
 have O:=D.z2;have Q:=C.size;have R:=T.aA.size;have d:=T.own;rw[pt]at d;obtain⟨a,cap,F⟩:=d.gR;have G:¬P (w.heap.size+1):=λh=>by
  obtain s|s:=A _ h
  have:=E _ s;omega;omega
 have H:cI wr i l st P:=z.other T.aA (λk _ ⟨e,t,e2⟩ u=>(B e (jg t)).1 (e2▸u));have I:cI f i l st P:=H.other (ay.of p) (λk _ e u=>G (by have:=aQ e;rw[this];exact u));refine⟨a,_,cap,F,?_,I.au r,λk y=>(A k y).imp id (λh=>by omega),?_,λj e K=>?_⟩
 have L:gH f V.heap.size x (b.map (·.2)):=d.aA (ay.of p) (λk e e2=>by have:=(d.lt k e).1;have:=aQ e2;omega);exact(L.aA (ay.of r) (λk _ e=>by cases e)).low (by omega);have M:ay v wr S:=(C.trans T.aA).mono (λk y h=>h.elim id (λ⟨e,t,e2⟩=>(B e (jg t)).2.elim (λh=>e2▸h) (λh=>by omega)));have N:=((ay.of D.g).trans M).trans ((ay.of p).trans (ay.of r));refine N.mono (λk y h=>?_);obtain(h|h)|(h|h):=h
 cases h;exact h;have:=aQ h;omega;cases h;have s:=(d.lt j e).1;have U:=z.lt j K;omega
def O4(w:ω)(xb sb:Nat)(st:aE)(A:Nat->Prop)(n:Nat)(h:cI w xb sb st A)(al:fh n st)(hn:n<=100000)(hL:Laid w)(q:gy)(ax:aW q.code)(hq:q.op=5)(hd:q.data.size<=1000000):
 Calls prog 60 #[π (μ ⟨xb,0,ν⟩),ε (dB q)] w (kC w xb sb A (st.do q)):=by
 obtain⟨R,K⟩:=exq (kC w xb sb A (st.do q));rw[<-K];obtain⟨W1,p,D⟩:=js.mk' w q;obtain⟨cC,b0⟩:=aE.EN al hn;have L:=J (OG p xb sb st A n (h.au D.g) al hn);have aC:=J (λ(f:ω)(C:ay p f A)=>D.ru h.lt C hd);have a0:=J (λ(f wr t i:ω)(F:Nat->Prop)(d:List El)(r:υ)(T:mf f d d.length r wr)(L:cI f xb sb st.bB.1 F)(M:∀k,F k->A k\/p.heap.size<=k) (C:ay p f A) (s:∀e∈d,¬F e.1/\(A e.1\/p.heap.size<=e.1)) (u:d.map (·.2)=st.bB.2) (P:γ wr t (μ (w.heap.size+1))) (B:γ t i ν)=>(show R (ξ (τ #[ι δ 0,ι δ (-1),ι δ 0,ι η 0,ς ⟨#[]⟩,r])) i by
  have e:st.do q=(⟨0,-1,0,0,[],st.bB.2⟩,st.bB.1):=by unfold aE.do;rw[iN_,iN_,iN_,iN_,aG hq]
  rw[K,e];obtain⟨a,m,c,rfl,Q,h2,h3,h4,h5⟩:=mf.done D h.lt T L M C s P B;exact⟨a,m,c,rfl,u▸Q,F,h2,h3,h4,h5⟩))
 have db:=pD q.data;have b3:=J Aj;obtain⟨d0,d1,d2,d3,d4⟩:κ p ⟨w.heap.size,0,ν⟩=μ (ι δ q.op)/\κ p ⟨w.heap.size,1,ν⟩=μ (ι δ q.stream)/\κ p ⟨w.heap.size,2,ν⟩=μ (ι δ q.n)/\κ p ⟨w.heap.size,3,ν⟩=μ (ι η q.code)/\κ p ⟨w.heap.size,4,ν⟩=μ (ς q.data):=by simp[World.cell?,D.b,dB]
 have a1:=D.e1;have a2:=D.e2;have de:=D.z;replace⟨D,K,h,hL,ax⟩:=fF D K h hL ax;unfold dB at *;obtain⟨op,stream,qn,code,data⟩:=q;simp only at *;subst hq;go_enter func60,ntmps60;go_upto_region 3 with fail;rw[<-a1,<-a2];generalize grownCap W1 data.size 0 5=cap at *;clear a1 a2;go_wp2_with fail;apply(Z L).mono;rintro e f⟨a3,n3,c3,d,F,rfl,H,N,u,I,M,S,G⟩;have dg:d.length<=50:=by have:=fD List.length u;rw[dd]at this;omega
 have a4:∀e∈d,e.2.length<=1000000:=λe s=>by
  have:=b0 e.2 (by rw[<-u];exact pf s);omega
 obtain⟨a',c',ev,dk,b4,-,a8⟩:=H.gR;obtain⟨e1,e2,e3⟩:=jy ev;subst e1 e2 e3;have hF:=J (λ(wr t i:ω)(r:υ)(T:mf f d d.length r wr)=>Z a0 f wr t i F d r T I M S (λe s=>⟨(G e s).1,(G e s).2.2⟩) u);have b5:=J (λ(wr:ω) r(T:mf f d d.length r wr)=>Z aC wr ((S.trans T.aA).mono (λk hk h=>h.elim id (λ⟨e,b6,e2⟩=>(G e (jg b6)).2.2.elim (λh=>e2▸h) (λh=>by omega)))) cap);have b7:Hid (mf f d 0 (σ ν 0 0) f):=J ⟨by simpa using gH.nil _ _,(ay.of (aD f ν)).mono (λk _ e=>by cases e)⟩;have dn:0<f.heap.size:=by
  have:=I.lt xb I.oR;omega
 replace⟨I,N,H,G,u,a8⟩:=pH I N H G u a8;clear L aC a0 M S;unfold maxLen at b4;go_upto_region 14 with fail;go_loopg [9,53] (d.length+1) (λg r b8 wr=>∃(j:Nat),j<=d.length/\b8=ι δ j/\g=d.length+1-j/\mf f d j r wr);case atStart=>exact⟨0,by omega,rfl,by omega,Z b7⟩
 case round=>
  obtain⟨j,hj,rfl,rfl,l⟩:=hrel;obtain⟨a9,c9,rfl⟩:=l.own.gR;by_cases E:j<d.length
  ·have i1:(j:Int)<d.length:=by omega
   have i0:(0:Int)<=j:=by omega
   obtain⟨y,rfl⟩:∃y,a3=μ y:=by
    cases a3 with
    |some y=>exact⟨y,rfl⟩
    |none=>
     obtain⟨a',c',ev,-,-,h0,-⟩:=(Z H).gR;obtain⟨e1,-,-⟩:=jy ev;have:=(h0 e1.symm).1;rw[this]at E;simp at E
   have bb:=l.row (Z H) (λe s=>(Z G e s).2.1);obtain⟨a',c',ev,-,-,-,bj⟩:=bb.gR;obtain⟨e1,-,-⟩:=jy ev;obtain⟨-,ey,U⟩:=bj y e1.symm;obtain⟨yb,ca⟩:=exq y.block;rw[<-ca]at ey U;subst ey;have ds:κ wr ⟨yb,j,ν⟩=μ (ks (fw d j)):=by
    have:=U j (ks (fw d j)) (by rw[uo,yr E];rfl);rwa[ep]at this
   have V:=l.el (Z N) E a4;have dx:=uF V.iy;have br:=J (λ(i:ω)(B:γ wr i ν\/True)(ho:bn i 0 (ks (fw d j)) (fw d j).2)=>wU (μ ⟨(fw d j).1,0,ν⟩) (fw d j).2.length (fw d j).2.length (fw d j).2 i 0 ho (by have:=a4 _ (Au E);omega));obtain⟨W,X⟩:=exq (wr.alloc (ο #[ς (strOfNums (fw d j).2)] 9));have O:γ wr W ν:=by rw[X];exact aJ _ _ _
   have bt:κ W ⟨wr.heap.size,0,ν⟩=μ (ς (strOfNums (fw d j).2)):=by
    have:=aO wr (ο #[ς (strOfNums (fw d j).2)] 9);rw[<-X]at this;simp[World.cell?,this]
   have bx:=l.own.aA (ay.of O) (λk _ e=>by cases e);obtain⟨a5,n5,c5,i,Y,bz,B⟩:=O2 (w:=W) 44 f.heap.size _ _ bx wr.heap.size 1 (fw d j).2 bt (by simp;omega) (bK l.aA.size O.size);have ch:(fw d j).1<f.heap.size:=(Z N).lt (Au E);have bM:bn i 0 (ks (fw d j)) (fw d j).2:=by
    refine(V.au O).gb B (ψ (λe=>?_));have Q:(ks (fw d j)).ownBlock=μ (fw d j).1:=rfl;rw[Q]at e;have:=(l.own.lt _ e.symm).1;omega
   have cj:=J (Z br i (ψ trivial) bM);have cp:=J (λw6(g6:γ i w6 (μ (fw d j).1))=>l.step E O bz B g6 ch);generalize dE:fw d j=el at *;obtain⟨eb,dG⟩:=el;unfold ks at *;simp only at *;replace⟨l,Y⟩:=bD l Y;clear V bb bj U bt bx bz bM br;go_upto_region 16 with fail;go_wp2_with (at_builtin;rw[<-X];refine ql (by rfl) 44 44 (by rfl) _ _ (by rfl) _ _ _ (by rfl) (by rfl) (Z Y) ?_);apply(Z cj).mono;rintro e w6⟨rfl,g6⟩;have cv:=J (Z cp w6 g6);go_wp2;go_roundg (d.length+1-(j+1));case measure=>omega
   case rel=>exact⟨j+1,by omega,by push_cast;rfl,rfl,Z cv⟩
  have cw:j=d.length:=by omega
  subst cw;have cx:=J (Z b5 wr _ l);have cy:=J (λt i=>Z hF wr t i _ l);have i1:¬((d.length:Int)<d.length):=by omega
  replace l:=J l;go_wp2_with fail;apply(Z cx).mono;rintro e t⟨rfl,P⟩;go_wp2_with fail;apply(Z b3 _).mono;rintro e i⟨rfl,B⟩;have hf:=J (Z cy _ _ P B);go_wp2_with fail;first|exact Z hf|exact df (v:=τ #[ι δ 0,ι δ (-1),ι δ 0,ι η 0,ς ⟨#[]⟩,σ a9 (List.map (λx=>x.2) (List.take d.length d)).length c9]) (by simp[results,results60,go_sem]) rfl (Z hf)
def Aw(q:gy)(a:aE):Prop:=(1<=q.op/\q.op<=9/\q.op≠8)/\(0<=q.stream/\q.stream<4)/\(q.op=6->∃s,a=.ai s)
def O5(w:ω)(xb sb:Nat)(st:aE)(A:Nat->Prop)(n:Nat)(h:cI w xb sb st A)(a:fh n st)(b:n<=100000)(c:Laid w)(q:gy)(d:aW q.code)(hd:q.data.size<=1000000)(j:Aw q (st.do q).2):
 Calls prog 60 #[π (μ ⟨xb,0,ν⟩),ε (dB q)] w (kC w xb sb A (st.do q)):=by
 obtain⟨⟨x,y,z⟩,B,k⟩:=j;have f:¬(q.stream<0\/4<=q.stream):=by omega
 by_cases m:q.op=1;exact OO w xb sb st A n h a b c q d m hd f;by_cases p:q.op=2;exact OM w xb sb st A n h a b c q d p hd f;by_cases r:q.op=3;exact ON w xb sb st A n h a b c q d r hd f;by_cases t:q.op=4;exact OQ w xb sb st A n h a b c q d t hd;by_cases u:q.op=5;exact O4 w xb sb st A n h a b c q d u hd;by_cases i:q.op=6;refine OR w xb sb st A n h a b c q d i hd (λcQ l e=>?_);obtain⟨s,g⟩:=k i;unfold aE.do at g;rw[iN_,iN_,iN_,iN_,iN_,aG i]at g;cases e.symm.trans g;by_cases v:q.op=7;exact OS w xb sb st A n h a b c q d v hd f;exact OP w xb sb st A n h a b c q d (by omega) hd f
def bO.sf(h:bO s n)(k:Nat)(o:Ot)(f:k<4->fG o)(g:k<4->(o.h.bytes.length:Int)<=s.ag)(i:k<4->0<=o.av/\o.av<=4096)(l:k<4->0<=o.code/\o.code<=4611686018427387903):bO {s with out:=ah s.out k o} n:=by
 have c:∀(P:Nat->Ot->Prop),(k<4->P k o)->(∀j,j<4->P j (s.out j))->∀j,j<4->P j (ah s.out k o j):=λP a b j d=>by
  by_cases e:j=k;subst e;rw[aR];exact a d;rw[aX _ _ e];exact b j d
 exact{h with out:=c (λ_ o=>fG o) f h.out,og:=c (λ_ o=>(o.h.bytes.length:Int)<=s.ag) g h.og,av:=c (λ_ o=>0<=o.av/\o.av<=4096) i h.av,code:=c (λ_ o=>0<=o.code/\o.code<=4611686018427387903) l h.code}
def bO.oh(h:bO s n)(k:Nat)(i:It)(b:k<4->iq s.ag i):bO {s with aF:=ah s.aF k i} n:=by
 have c:∀j,j<4->iq s.ag (ah s.aF k i j):=λj a=>by
  by_cases e:j=k;subst e;rw[aR];exact b a;rw[aX _ _ e];exact h.aF j a
 exact{h with aF:=c}
def O6(h:bO s n)(a:k<4)(l:List Int):bO (s.write k l).2.2 n:=by
 unfold Sd.write;split;exact h;have b:=h.out k a;have d:=b.en;have hl:=h.og k a;unfold Ot.en at d;have c:(((s.out k).wrote l s.ag).h.bytes.length:Int)<=s.ag/\(s.out k).h.fr+((s.out k).wrote l s.ag).h.bytes.length<=4096:=by
  unfold Ot.wrote Ot.fT;simp only[bF,ct]
  omega
 refine h.sf k _ (λ_=>⟨b.ok,b.lK,b.fr,b.low,b.hole,?_⟩) (λ_=>c.1) (λa=>h.av k a) (λa=>h.code k a);exact c.2
def O7(h:bO s n)(a:k<4):bO (s.finish k).2 n:=by
 unfold Sd.finish;split;exact h;exact h.sf k _ (λa=>(h.out k a).same rfl) (λa=>h.og k a) (λa=>h.av k a) (λa=>h.code k a)
def O8(h:bO s n)(b:k<4)(c:aW p):bO (s.giveUp k p).2 n:=by
 unfold Sd.giveUp;split;exact h;rename_i d;have a:=h.out k b;have g:=h.ag;have f:=a.en;unfold Ot.en at f;refine h.sf k _ (λ_=>⟨a.ok,a.lK,a.fr,a.low,a.hole,?_⟩) (λ_=>by unfold Ot.giveUp;simp;omega) (λb=>h.av k b) (λ_=>⟨c.1,?_⟩);unfold Ot.giveUp Ot.en;simp;omega;show p<=_;have:¬(4611686018427387903<p):=λe=>d (ψ e)
 omega
def O9(h:bO s n):bO s.bC (n+1):=by
 have b:=h.mono (cf n);have c:=h.tick;have d:=h.wait;unfold Sd.bC;split;exact{b with
  pk:=λx a=>h.pk x (by simp at a;simp;exact a.symm),num:=λx a=>(by cases a),fl:=(by simp),fp:=λx a=>(by cases a),ft:=λx a=>(by cases a),tick:=(by simp only;omega),wait:=(by simp only;omega),ll:=(by have:=h.ll;simp only[bF,fM];omega)}
 exact{b with ft:=λx a=>(by have:=h.ft x a;simp only;omega),tick:=(by simp only;omega)}
def EO(i:It)(aH:Int)(h:0<=cL i.h/\cL i.h<=i.h.bytes.length):(i.iW aH:Int)<=cL i.h:=by
 unfold It.iW;omega
def iq.read(h:iq p E)(j:0<=p)(aH:Int):iq p (E.read aH):=by
 unfold It.read;split;exact h;have f:=h.whole;have a:=EO E aH f;have k:=h.fr;have l:=h.len;have n:=h.en;refine⟨h.ok,by simp only;omega,λm c=>?_,λm c=>?_,λd m h0 e=>?_,?_,?_,λd=>?_⟩
 have:=h.lK m c;simp only;omega;have:=h.mc m c;simp only[dO];omega;simp only at e;by_cases hl:m<E.h.fr;exact h.low d m h0 hl;unfold cL at a f;split at a;omega;rename_i b;cases g:E.h.af with
 |nil=>rw[g]at b;simp at b
 |cons r t=>
  rw[g]at b a;have e0:ao (r::t) 0=r:=rfl;rw[e0]at b a;exact⟨r,by simp,by omega,by omega⟩
 simp only[dO];omega;simp only[dO];omega;obtain⟨e,i⟩:=h.tO d;exact⟨e,by simp[i]⟩
def Pb(h:bO s n)(k:Nat)(aH:Int):bO {s with aF:=ah s.aF k ((s.aF k).read aH)} n:=
 h.oh k _ (λa=>(h.aF k a).read (by have:=h.ag;omega) aH)
def Pd(h:aU Y)(l:Y.length<=8)(f:∀r∈Y,0<=r.lo/\r.hi<=4611686018427387904)(m:0<=q/\q<=4611686018427387903):aU (eJ Y p q).1/\(eJ Y p q).1.length<=8/\∀r∈(eJ Y p q).1,0<=r.lo/\r.hi<=4611686018427387904:=by
 have b:=lV ⟨q,q+1⟩ h;have hl:=uM Y ⟨q,q+1⟩;have g:∀r∈cD Y ⟨q,q+1⟩,0<=r.lo/\r.hi<=4611686018427387904:=λr a=>by
  have i:=b.2 r a;have c:=(iK ⟨q,q+1⟩ h r.lo).1 ⟨r,a,cE _,i⟩;have d:=(iK ⟨q,q+1⟩ h (r.hi-1)).1 ⟨r,a,by omega,by omega⟩;refine⟨?_,?_⟩
  obtain⟨x,e,j,k⟩|c:=c
  have:=f x e;omega;simp only at c;omega;obtain⟨x,e,j,k⟩|d:=d
  have:=f x e;omega;simp only at d;omega
 unfold eJ;split;refine⟨⟨b.1.sublist (List.drop_sublist _ _),λr a=>b.2 r (iH a)⟩,by simp;omega,λr a=>g r (iH a)⟩
 refine⟨b,?_,g⟩
 show(cD Y ⟨q,q+1⟩).length<=8;omega
def Pe(l:List (Int×Pc)):∀(out:Nat->Ot)(k:Nat),(cP out l k).av=(out k).av/\(cP out l k).code=(out k).code/\(cP out l k).h.bytes.length<=(out k).h.bytes.length:=by
 induction l with
 |nil=>intro out k;exact⟨rfl,rfl,aP _⟩
 |cons x l f=>
  intro out k;have e:cP out (x::l)=cP (ah out x.1.toNat ((out x.1.toNat).eG x.2)) l:=rfl;rw[e];obtain⟨b,c,a⟩:=f (ah out x.1.toNat ((out x.1.toNat).eG x.2)) k;by_cases d:k=x.1.toNat;rw[b,c];rw[<-d]at a⊢;rw[aR]at a⊢;refine⟨rfl,rfl,bK a ?_⟩
  unfold Ot.eG;simp only[dO];omega;rw[aX _ _ d]at b c a;exact⟨b,c,a⟩
def Pf{α:Type}(l:List α)(p:α->Bool):(l.filter p).length+(l.filter (λx=> !p x)).length=l.length:=by
 induction l with
 |nil=>rfl
 |cons a l b=>cases h:p a<;>simp[h]<;>omega
def Pg(h:bO s n)(f:n<=100000)(l:List Rg):bO (s.bT l) n:=by
 have e:=(h.EE f).bT l;obtain⟨i,j⟩:=Er s l;have m:=h.fl;have c:=Pe (iZ (λx=>bp l x.num) s.aw++iZ (λx=>bp l x.num) s.lost) s.out;have d:∀x∈(s.bT l).aw,x∈s.aw:=λx a=>by
  have a:x∈(s.aw.filter (λx=> !bp l x.num)).filter (λx=> !decide (x.num+3<=(ao l 0).hi)):=a;exact(eO.1 (eO.1 a).1).1
 have p:(s.bT l).lost.length+(s.bT l).aw.length<=s.lost.length+s.aw.length:=by
  have e1:(s.bT l).aw=(s.aw.filter (λx=> !bp l x.num)).filter (λx=> !decide (x.num+3<=(ao l 0).hi)):=rfl;have e2:(s.bT l).lost=(s.cg l).lost.filter (λx=> !x.ps.all (kq ((s.cg l).out x.st.toNat))):=rfl;have q:(s.cg l).lost.length=(s.lost.filter (λx=> !bp l x.num)).length+((s.aw.filter (λx=> !bp l x.num)).filter (λx=>decide (x.num+3<=(ao l 0).hi))).length:=by unfold Sd.cg;simp only[bF]
  have b1:=oC (λx:Pk=> !x.ps.all (kq ((s.cg l).out x.st.toNat))) (s.cg l).lost;have b2:=Pf (s.aw.filter (λx=> !bp l x.num)) (λx=>decide (x.num+3<=(ao l 0).hi));have r:=oC (λx:Pk=> !bp l x.num) s.aw;have t:=oC (λx:Pk=> !bp l x.num) s.lost;rw[e1,e2];omega
 have g:0<=(s.bT l).wait/\(s.bT l).wait<=32:=by
  show 0<=(if s.aw.any (λx=>bp l x.num)then(4:Int)else s.wait)/\(if s.aw.any (λx=>bp l x.num)then(4:Int)else s.wait)<=32;have:=h.wait;split<;>omega
 have u:=h.ll;exact⟨h.key,h.aj,h.ag,e.out,λk b=>Int.le_trans (by have:=(c k).2.2;exact Int.ofNat_le.2 this) (h.og k b),λk b=>by show 0<=(cP _ _ k).av/\(cP _ _ k).av<=4096;rw[(c k).1];exact h.av k b,λk b=>by show 0<=(cP _ _ k).code/\(cP _ _ k).code<=_;rw[(c k).2.1];exact h.code k b,h.aF,e.pk,λx a=>h.num x (d x a),by omega,λx a=>h.fp x (d x a),λx a=>h.ft x (d x a),h.tick,g,h.ba,by omega,h.kY,h.c8,h.cr⟩
def Ax(h:bO s n)(c:n<=100000)(hs:cO I)(ho:0<=I.offset)(d:nr s I):bO (s.take I).2 n:=by
 have e:=hs.st;unfold Sd.take;split;split;exact h;exact Pg h c _;split;split;exact h;exact h.oh _ _ (λa=>(h.aF _ a).reset I);split;rename_i b;split;exact h;exact h.oh _ _ (λa=>(h.aF _ a).data I ho (hs.en b) (d b));split<;>exact h
def EP{n:Nat}(a:n<=100000):∀(b:List Fr)(s:Sd),bO s n->(∀f∈b,cO f/\0<=f.offset/\nr s f)->bO (di s b).2 n
 |[],s,h,_=>h
 |f::r,s,h,c=>by
  obtain⟨d,e,i⟩:=c f (by simp);rw[r9];split;exact EP a r _ (Ax h a d e i) (λg j=>by
   obtain⟨k,l,k3⟩:=c g (by simp[j]);exact⟨k,l,k3.same (take_same s f)⟩)
  exact Ax h a d e i
def Ph(a:∀x∈L,W8 x){x:Fr×Nat}(h:fY L t n=μ x):0<=x.1.offset/\0<=x.1.code:=by
 unfold fY at h;split at h;cases h;simp[cB];split at h;cases h;simp[cB];split at h;obtain⟨y,-,h⟩:=rG.1 h;cases h;simp[cB];split at h;obtain⟨y,-,h⟩:=rG.1 h;obtain⟨z,b,h⟩:=rG.1 h;obtain⟨u,c,h⟩:=rG.1 h;cases h;exact⟨(lE a c).1.1,(lE a b).1.1⟩
 split at h;obtain⟨y,-,h⟩:=rG.1 h;obtain⟨z,b,h⟩:=rG.1 h;obtain⟨u,c,h⟩:=rG.1 h;cases h;exact⟨(lE a b).1.1,by simp[cB]⟩
 split at h;obtain⟨y,d,h⟩:=rG.1 h;cases h;exact⟨by simp[cB],(lE a d).1.1⟩
 cases h
def Pm(i:∀x∈L,W8 x):∀(k p:Nat)(c d:List Fr),iJ L k p c=(μ d,-1)->(∀f∈c,0<=f.offset/\0<=f.code)->∀f∈d,0<=f.offset/\0<=f.code:=by
 intro k;induction k with
 |zero=>intro p c d h;simp[iJ]at h
 |succ k j=>
  intro p c d h e;unfold iJ at h;split at h;split at h;simp at h;rename_i f q a;refine j _ _ _ h (λg b=>?_);obtain b|b:=bL.1 b
  exact e g b;rw[cA.1 b];unfold nM at a;obtain⟨x,l,a⟩:=rG.1 a;split at a;cases a;exact Ph i l;cases a;simp only[rJ,nH]at h;rw[<-h.1];exact e
def ER(b:∀x∈L,W8 x){a:List Fr}(h:fu L=(μ a,-1)):∀f∈a,0<=f.offset/\0<=f.code:=by
 unfold fu at h;split at h;simp at h;exact Pm b _ _ _ _ h (λf c=>(by cases c))
def ES(hp:∀x∈L,W8 x):∀x∈bX L,W8 x:=λx a=>hp x (iH (jg a))
def ET(hp:∀x∈L,W8 x):0<=bm L:=by
 have h:=vu L hp;unfold bm;by_cases hl:8<=L.length;exact(h 8 hl).1;rw[tL_];have:=(h L.length (aP _)).1;rwa[pt]at this
def EU(h:bO s n)(a:0<=p/\p<=4611686018427387903)(b:List Fr):bO (s.dM p b) n:=by
 obtain⟨c,d,e⟩:=Pd (p:=s.floor) h.kY h.c8 h.cr a;exact{h with kY:=c,c8:=d,cr:=e}
def Pn(h:bO s n)(d:n<=100000)(hp:∀x∈L,W8 x):∀a,(s.recv L).2.2=.ai a->bO a n:=by
 unfold Sd.recv;split;exact λa e=>aE.ai.inj e▸h
 rename_i g;split;exact λa e=>aE.ai.inj e▸h
 split;exact λa e=>(by cases e)
 rename_i b q hd;have:=Ar hd;subst this;have hs:=yd hd;have ho:=ER (vB (ES hp)) hd;split;exact λa e=>aE.ai.inj e▸h
 rename_i i;have j:b.any s.fH=θ:=by simpa using i
 have k:eH s.key (aK (!s.first)) L:=by simpa using g
 have l:=EP d b _ (EU h ⟨ET hp,k.2.2.2⟩ b) (λf c=>⟨hs f c,(ho f c).1,Ez j _ f c⟩);split;exact λa e=>aE.ai.inj e▸l
 exact λa e=>(by cases e)
def Po{st:aE}(h:fh n st)(d:n<=100000)(q:gy)(f:aW q.code):∀a,(st.do q).2=.ai a->bO a (n+1):=by
 cases st with
 |shut cQ l=>exact False.elim h
 |ai s=>
  have c:=h.mono (cf n);have b:∀a,aE.ai s=.ai a->bO a (n+1):=λa e=>aE.ai.inj e▸c
  unfold aE.do;split;unfold aE.write;simp only;split;exact b;exact λa e=>aE.ai.inj e▸O6 c (by omega) _
  split;unfold aE.finish;simp only;split;exact b;exact λa e=>aE.ai.inj e▸O7 c (by omega)
  split;unfold aE.giveUp;simp only;split;exact b;exact λa e=>aE.ai.inj e▸O8 c (by omega) f
  split;exact λa e=>aE.ai.inj e▸O9 h
  split;exact λa e=>aE.ai.inj e▸(EM h d).1
  split;exact λa e=>(Pn h d (qM q.data) a e).mono (cf n)
  split;unfold aE.read;simp only;split;exact b;exact λa e=>aE.ai.inj e▸Pb c _ _
  split;unfold aE.close;simp only;split;exact b;exact λa e=>(by cases e)
  split;exact b;exact b
def EV{st:aE}(h:fh n st)(c:n<=100000)(q:gy)(d:aW q.code)(ho:∀cQ l,(st.do q).2≠.shut cQ l):fh (n+1) (st.do q).2:=by
 obtain⟨r,a⟩:=exq ((st.do q).2);have e:∀b,r=.ai b->bO b (n+1):=by
  rw[a];exact Po h c q d
 rw[<-a]at ho⊢;cases r with
 |ai s=>exact e s rfl
 |shut cQ l=>exact absurd rfl (ho cQ l)
def Pp(h:jT p q)(d:eP L)(n:Nat):bO (Sd.new p q L B) n:=by
 have f:fG Ot.new:=⟨aU.nil,λm b=>absurd b (fP m),by simp[Ot.new],λm h0 c=>by simp[Ot.new]at c;omega,fP _,by simp[Ot.new,Ot.en]⟩
 have g:iq q It.new:=⟨aU.nil,by simp[It.new],λm b=>absurd b (fP m),λm b=>absurd b (fP m),λ_ m h0 c=>by simp[It.new]at c;omega,by simp[It.new];unfold jT at h;omega,by simp[It.new],λe=>by simp[It.new]at e⟩
 unfold jT at h;exact⟨d,⟨h.1,h.2.1⟩,h.2.2,λ_ _=>f,λ_ _=>by simp[Sd.new,Ot.new];omega,λ_ _=>by simp[Sd.new,Ot.new],λ_ _=>by simp[Sd.new,Ot.new],λ_ _=>g,λx a=>(by cases a),λx a=>(by cases a),by simp[Sd.new],λx a=>(by cases a),λx a=>(by cases a),by simp[Sd.new],by simp[Sd.new],by simp[Sd.new];omega,by simp[Sd.new],aU.nil,by simp[Sd.new],λr i=>(by cases i)⟩
def kZ(l:List Rg):Int:=l.foldr (λr n=>r.hi-r.lo+n) 0
def Pq(h:aU Y):0<=kZ Y/\(Y≠[]->1<=kZ Y):=by
 induction Y with
 |nil=>exact⟨cE _,λe=>absurd rfl e⟩
 |cons r t a=>
  have c:=h.2 r (by simp);have d:=(a ⟨(kK.1 h.1).2,λx b=>h.2 x (by simp[b])⟩).1;have e:kZ (r::t)=r.hi-r.lo+kZ t:=rfl;exact⟨by omega,λ_=>by omega⟩
def Pr{r:Rg}(h:aU (r::Y))(g:r.lo<=p)(i:p<=r.hi):kZ (jP (r::Y) ⟨r.lo,p⟩)=kZ (r::Y)-(p-r.lo):=by
 have d:aU Y:=⟨(kK.1 h.1).2,λx a=>h.2 x (by simp[a])⟩
 have e0:kZ (r::Y)=r.hi-r.lo+kZ Y:=rfl;have j:=h.2 r (by simp);have c:∀x∈Y,r.hi<x.lo:=λx a=>by have:=(kK.1 h.1).1 x a;omega
 by_cases e:p=r.hi;have:jP (r::Y) ⟨r.lo,p⟩=Y:=by
  refine aU.unique (qO _ h) d (λm=>?_);rw[rO _ m,dH];constructor;rintro⟨q|q,b⟩;exact absurd ⟨q.1,by simp only;omega⟩ b;exact q;rintro⟨x,a,q⟩;exact⟨ψ ⟨x,a,q⟩,λb=>by have:=c x a;simp only at b;omega⟩
 rw[this];omega;have f:aU (⟨p,r.hi⟩::Y):=⟨kK.2 ⟨λx a=>(kK.1 h.1).1 x a,(kK.1 h.1).2⟩,λx a=>by
  obtain q|q:=dY.1 a
  subst q;show p<r.hi;omega
  ·exact h.2 x (by simp[q])⟩
 have:jP (r::Y) ⟨r.lo,p⟩=⟨p,r.hi⟩::Y:=by
  refine aU.unique (qO _ h) f (λm=>?_);rw[rO _ m,dH,dH];constructor;rintro⟨q|q,b⟩;exact φ ⟨by have:¬(r.lo<=m/\m<p):=b;simp only;omega,q.2⟩;exact ψ q;rintro(q|⟨x,a,q⟩);simp only at q;exact⟨φ ⟨by omega,q.2⟩,λb=>by simp only at b;omega⟩
  exact⟨ψ ⟨x,a,q⟩,λb=>by have:=c x a;simp only at b;omega⟩
 rw[this];show r.hi-p+kZ Y=_;omega
def Du.jt(o:Ot)(d:Du):Prop:=if o.sG then d.g=θ else d.l=[]/\d.e=θ
def Du.wt(o:Ot)(d:Du):Int:=if o.sG then(if d.g then 1 else 0)else kZ d.l+(if d.e then 1 else 0)
def Du.vI{d:Du}(h:fv G d):0<=d.wt G/\(¬d.jt G->1<=d.wt G):=by
 have b:=Pq h.1;unfold Du.wt Du.jt;cases G.sG;simp only[eN,eA]
 refine⟨by split<;>omega,λa=>?_⟩
 by_cases e:d.l=[]
 have:d.e=ρ:=by cases q:d.e with
  |true=>rfl
  |false=>exact absurd ⟨e,q⟩ a
 rw[this];simp only[dC];omega;have:=b.2 e;split<;>omega;simp only[dC]
 refine⟨by split<;>omega,λa=>?_⟩
 cases q:d.g with
 |true=>simp
 |false=>exact absurd q a
def Ps(n:Int):1<=bZ n/\bZ n<=8:=by unfold bZ;split<;>(try split)<;>(try split)<;>omega
def ys(h:p<=4096):bZ p<=2:=by unfold bZ;split<;>(try split)<;>omega
def Pt{d:Du}(h:fv G d)(r:14<=p)(s:0<=G.h.fr)(k:G.en<=4096)(hs:G.av<=4096)(m:d.e=ρ->G.sE=ρ)(a:(G.next d p).2=θ):d.jt G:=by
 unfold Ot.next at a;unfold Du.jt;cases g:G.sG;rw[g]at a;simp only[eN,eA]at a⊢;have n:0<=G.en:=by unfold Ot.en;omega
 have q:0<=(G.eE d.l).lo/\(G.eE d.l).lo<=4096:=by
  unfold Ot.eE;split;exact⟨n,k⟩
  rename_i h0;have:=h.mem (kh (Y:=d.l) (i:=0) (by omega));omega
 have t:=ys q.2;have f:1<=iY (p-(2+bZ (G.eE d.l).lo)):=by unfold iY;split<;>(try split)<;>omega
 unfold Ot.dQ at a;rw[iN_]at a;simp only[oD,qD]at a;obtain⟨j,b⟩:=a;by_cases h0:d.l.length=0;refine⟨kJ h0,?_⟩
 have c:G.eE d.l=⟨G.en,G.en⟩:=by unfold Ot.eE;rw[aG h0]
 rw[c]at b;cases e:d.e with
 |false=>rfl
 |true=>
  rw[e,m e]at b;have:min G.en (G.en+iY (p-(2+bZ G.en)))=G.en:=by rw[c]at f;simp only at f;omega
  simp only at b;rw[this]at b;simp at b
 have c:G.eE d.l=ao d.l 0:=by unfold Ot.eE;rw[aB h0]
 have:=h.mem (kh (Y:=d.l) (i:=0) (by omega));rw[c]at j f;omega;rw[g]at a;simp only[dC]at a⊢;have j:=Ps G.code;have b:=ys hs;rw[eT (by omega:2+bZ G.code+bZ G.av<=p),Bool.and_true]at a;exact a
def Pu(x:Rg):jP [] x=[]:=by
 refine aU.unique (qO _ aU.nil) aU.nil (λm=>?_);rw[rO];exact⟨λq=>q.1,λq=>absurd q (fP m)⟩
def Pv{d:Du}(k:Nat)(K:k<4)(h:fv G d)(u:p<=1000)(v:0<=G.h.fr)(L:G.en<=4096)(a:(G.next d p).2=ρ):
 (d.leave (G.next d p).1).wt G+1<=d.wt G/\(G.sG=θ->((bA [G.cK k (G.next d p).1]).length:Int)<=7*(d.wt G-(d.leave (G.next d p).1).wt G))/\(G.sG=ρ->(d.leave (G.next d p).1).jt G):=by
 cases b:G.sG;have e:G.next d p=G.dQ d.l d.e p:=by unfold Ot.next;rw[b];simp
 have w:=xO h u a v;rw[e]at a w;obtain⟨M,c,N,z,O⟩:=tA h u a v;rw[e];have P:((bA [G.cK k (G.dQ d.l d.e p).1]).length:Int)<=6+((G.dQ d.l d.e p).1.x.hi-(G.dQ d.l d.e p).1.x.lo):=by
  have A:=xP k w z;have ef:(G.cK k (G.dQ d.l d.e p).1).kind=5/\(G.cK k (G.dQ d.l d.e p).1).stream=k/\(G.cK k (G.dQ d.l d.e p).1).offset=(G.dQ d.l d.e p).1.x.lo:=by unfold Ot.cK;rw[z];simp
  have el:∀f,bA [f]=dm f:=λf=>by simp[bA]
  have s1:((aS (k:Int)).length:Int)=1:=by rw[xw];unfold bZ;rw[iP_]
  have s2:=xw (G.dQ d.l d.e p).1.x.lo;have s3:=xw ((G.cK k (G.dQ d.l d.e p).1).data.size:Int);have D:(aI (G.cK k (G.dQ d.l d.e p).1).data).length=(G.cK k (G.dQ d.l d.e p).1).data.size:=fN _;rw[A]at s3;have m:=ys (show(G.dQ d.l d.e p).1.x.lo<=4096 by omega);have n:=ys (show(G.dQ d.l d.e p).1.x.hi-(G.dQ d.l d.e p).1.x.lo<=4096 by omega);rw[el];unfold dm;rw[iN_,iN_,iN_,iN_,aG ef.1,ef.2.1,ef.2.2];simp only[cS,bF,D,A]
  omega
 have Q:(d.leave (G.dQ d.l d.e p).1).wt G+max 1 ((G.dQ d.l d.e p).1.x.hi-(G.dQ d.l d.e p).1.x.lo)<=d.wt G:=by
  unfold Du.wt Du.leave;rw[b];simp only[eN,eA]
  unfold Ot.dQ at a c⊢;split at a;cases a;rename_i j;rw[aB j]at c⊢;simp only[wJ,mu,iu,beq_iff_eq]at a c⊢;by_cases h0:d.l.length=0;have el:=kJ h0;have s:G.eE d.l=⟨G.en,G.en⟩:=by unfold Ot.eE;rw[aG h0]
  rw[s]at a j⊢;simp only at a j⊢;rw[el,Pu];obtain q|⟨⟨B,m⟩,n⟩:=a
  omega;rw[m,B,n];simp;omega;have s:G.eE d.l=ao d.l 0:=by unfold Ot.eE;rw[aB h0]
  have E:=h.mem (kh (Y:=d.l) (i:=0) (by omega));rw[s]at a j c⊢;generalize F:min (ao d.l 0).hi ((ao d.l 0).lo+iY (p-(2+bZ (ao d.l 0).lo)))=y at *;have H:(ao d.l 0).lo<y:=by
   obtain q|⟨⟨B,m⟩,n⟩:=a
   exact q;omega
  cases hl:d.l with
  |nil=>rw[hl]at h0;exact absurd rfl h0
  |cons r t=>
   have er:ao d.l 0=r:=by rw[hl];rfl
   have C:=h.1;rw[hl]at C;rw[er]at H E F;have I:ao (r::t) 0=r:=rfl;rw[I,show(⟨r.lo,y⟩:Rg)=⟨r.lo,y⟩from rfl,Pr C (by omega) (by omega)];cases d.e<;>cases G.sE<;>simp<;>(try split)<;>omega
 refine⟨by omega,λ_=>?_,λq=>by cases q⟩
 omega;have e:(G.next d p).1=⟨⟨0,0⟩,d.e,d.g⟩:=by unfold Ot.next;rw[b];simp
 have eg:d.g=ρ:=by
  unfold Ot.next at a;rw[b]at a;simp only[dC,iu]at a;exact a.1
 rw[e];unfold Du.wt Du.jt Du.leave;rw[b,eg];simp
def Ay(k:Nat)(a:Int):∀(m:Nat)(x:Ld),∃l,(fg k a m x).ps=x.ps++l/\(fg k a m x).d=l.foldl Du.leave x.d:=by
 intro m;induction m with
 |zero=>intro x;exact⟨[],by simp[fg],rfl⟩
 |succ m b=>
  intro x;unfold fg;split;obtain⟨l,c,e⟩:=b (x.step k (x.o.next x.d (a-x.fr.length)).1);refine⟨(x.o.next x.d (a-x.fr.length)).1::l,?_,?_⟩
  rw[c];simp[Ld.step];rw[e];rfl;exact⟨[],by simp,rfl⟩
def Pw{d0:Du}(c:k<4)(n:r<=1000)(e:0<=G.h.fr)(a:G.en<=4096):∀(m:Nat)(x:Ld),nY G d0 r x->
 (fg k r m x).d.wt x.o+((fg k r m x).ps.length:Int)<=x.d.wt x.o+(x.ps.length:Int)/\
 (x.o.sG=θ->((fg k r m x).fr.length:Int)-(x.fr.length:Int)<=7*(x.d.wt x.o-(fg k r m x).d.wt x.o))/\
 (r<(x.ps.length:Int)+m->((fg k r m x).o.next (fg k r m x).d (r-(fg k r m x).fr.length)).2=θ):=by
 intro m;induction m with
 |zero=>
  intro x h;refine⟨cE _,λ_=>?_,λq=>?_⟩
  show(x.fr.length:Int)-x.fr.length<=7*(x.d.wt x.o-x.d.wt x.o);omega;have:=h.pl;have:=h.fl;simp only[Int.natCast_zero]at q;omega
 |succ m s=>
  intro x h;have t:0<=x.o.h.fr:=by rw[h.h];exact e
  have u:x.o.en<=4096:=by unfold Ot.en at a⊢;rw[h.h];exact a
  unfold fg;cases b:(x.o.next x.d (r-x.fr.length)).2;simp only[eN,eA]
  exact⟨cE _,λ_=>by omega,λ_=>b⟩
  simp only[dC]
  obtain⟨z,v,-⟩:=Pv k c h.ku (p:=r-x.fr.length) (by omega) t u b;have hs:=h.step k c n e a b;obtain⟨w,f,g⟩:=s _ hs.1;clear hs;generalize (x.o.next x.d (r-x.fr.length)).1=p at *;have e1:∀d:Du,d.wt (x.step k p).o=d.wt x.o:=λd=>by
   show d.wt (x.o.iP p)=d.wt x.o;rw[EA];rfl
  have e2:(x.step k p).o.sG=x.o.sG:=by show(x.o.iP p).sG=x.o.sG;rw[EA]
  have i:(x.step k p).d=x.d.leave p:=rfl;have j:(x.step k p).ps.length=x.ps.length+1:=by simp[Ld.step]
  have y:((x.step k p).fr.length:Int)=x.fr.length+((bA [x.o.cK k p]).length:Int):=by simp[Ld.step]
  rw[e1,e1,i,j]at w;rw[e1,e1,e2,i,y]at f;rw[j]at g;refine⟨by omega,λl=>?_,λq=>g (by push_cast at q⊢;omega)⟩
  have:=v l;have:=f l;omega
def Du.yt{d:Du}(h:fv G d):d.jt G↔d.wt G=0:=by
 constructor;intro q;unfold Du.jt at q;unfold Du.wt;cases a:G.sG;rw[a]at q;simp only[eN,eA]at q⊢;rw[q.1,q.2];rfl;rw[a]at q;simp only[dC]at q⊢;rw[q];rfl;intro q;by_cases e:d.jt G;exact e;have:=(Du.vI h).2 e;omega
def Du.ph(o:Ot)(d:Du):Int:=if 1<=d.wt o then d.wt o+4 else 0
def PB(s:Sd)(k:Nat):(s.due k).e=ρ->(s.out k).sE=ρ:=by
 have key:∀(l:List Pc)(d:Du),(l.foldl Du.leave d).e=ρ->d.e=ρ:=by
  intro l;induction l with
  |nil=>intro d h;exact h
  |cons c l b=>
   intro d h;have:=b _ h;unfold Du.leave at this;simp only[iu]at this;exact this.1
 intro h;have f:=key _ _ h;have a:(s.out k).uE=ρ:=f;unfold Ot.uE at a;simp only[iu]at a;exact a.1
def PC{s0:Sd}(p:k<4)(R:64<=s0.aj/\s0.aj<=300)(r:0<=(s0.out k).h.fr)(t:(s0.out k).en<=4096){x:Pz}(H:ma s0 k x)(E:x.d.e=ρ->(x.s.out k).sE=ρ):
 ((x.load k).ps.length=0->x.d.jt (x.s.out k))/\((x.load k).ps.length≠0->(x.load k).d.ph (x.s.out k)+5<=x.d.ph (x.s.out k)):=by
 have e:(x.s.out k).en=(s0.out k).en:=by unfold Ot.en;rw[H.h]
 have G:nY (x.s.out k) x.d (x.s.aj-16) ⟨x.s.out k,x.d,[],[]⟩:=⟨rfl,rfl,rfl,H.av,H.ku,by simp,by rw[H.aj];simp;omega,by simp⟩
 have S:=H.aj;have u:0<=(x.s.out k).h.fr:=by rw[H.h];exact r
 have v:(x.s.out k).en<=4096:=by rw[e];exact t
 obtain⟨i,a,I⟩:=Pw p (by omega:x.s.aj-16<=1000) u v ((x.s.aj-16).toNat+1) _ G;have b:=H.ld p (by omega) r t;obtain⟨l,w,f⟩:=Ay k (x.s.aj-16) ((x.s.aj-16).toNat+1) ⟨x.s.out k,x.d,[],[]⟩;have y:=I (by simp;omega);have lo:(x.load k).o={x.s.out k with av:=(x.load k).o.av}:=yk k (x.s.aj-16) ((x.s.aj-16).toNat+1) ⟨x.s.out k,x.d,[],[]⟩;change (x.load k).d.wt (x.s.out k)+((x.load k).ps.length:Int)<=x.d.wt (x.s.out k)+((([]:List Pc).length:Nat):Int)at i;change (x.s.out k).sG=θ->((x.load k).fr.length:Int)-((([]:List Int).length:Nat):Int)<=7*(x.d.wt (x.s.out k)-(x.load k).d.wt (x.s.out k))at a;change ((x.load k).o.next (x.load k).d (x.s.aj-16-(x.load k).fr.length)).2=θ at y;change (x.load k).ps=[]++l at w;change (x.load k).d=l.foldl Du.leave x.d at f;have j:fv (x.s.out k) (x.load k).d:=by
  have:=b.ku;rw[lo]at this;exact this
 have K:(x.load k).o.en<=4096:=by rw[lo];exact v
 have L:=(Du.vI j).1;have M:(x.load k).d.e=ρ->(x.load k).o.sE=ρ:=λq=>by
  have:∀(l:List Pc)(d:Du),(l.foldl Du.leave d).e=ρ->d.e=ρ:=by
   intro l;induction l with
   |nil=>intro d h;exact h
   |cons c l N=>
    intro d h;have:=N _ h;unfold Du.leave at this;simp only[iu]at this;exact this.1
  rw[f]at q;rw[lo];exact E (this _ _ q)
 have z:14<=x.s.aj-16-((x.load k).fr.length:Int)->(x.load k).d.wt (x.s.out k)=0:=λq=>by
  have:=Pt b.ku q (by rw[b.h];exact u) K b.av.2 M y;rw[lo]at this;exact(Du.yt j).1 this
 simp only[fM,Int.natCast_zero]at i a;refine⟨λh0=>?_,λh0=>?_⟩
 have el:l=[]:=by
  have:l.length=0:=by rw[w]at h0;simpa using h0
  exact kJ this
 rw[el]at f;have ed:(x.load k).d=x.d:=f;have T:(x.load k).fr.length=0:=by
  have:(x.load k).fr=[]:=by
   show(fg k (x.s.aj-16) ((x.s.aj-16).toNat+1) ⟨x.s.out k,x.d,[],[]⟩).fr=[]
   have g:(fg k (x.s.aj-16) ((x.s.aj-16).toNat+1) ⟨x.s.out k,x.d,[],[]⟩).ps.length=0:=h0;unfold fg at g⊢;split at g;obtain⟨U,O,-⟩:=Ay k (x.s.aj-16) (x.s.aj-16).toNat (Ld.step ⟨x.s.out k,x.d,[],[]⟩ k ((x.s.out k).next x.d (x.s.aj-16-(([]:List Int).length:Nat))).1);rw[O]at g;simp[Ld.step]at g;rename_i q;rw[aB q]
  rw[this];rfl
 rw[<-ed];exact(Du.yt j).2 (z (by omega));have hp:1<=(x.load k).ps.length:=by omega
 unfold Du.ph;rw[aG (show 1<=x.d.wt (x.s.out k) by omega)];by_cases C:(x.load k).d.wt (x.s.out k)=0;rw[aB (show¬1<=(x.load k).d.wt (x.s.out k) by omega)];omega;rw[aG (show 1<=(x.load k).d.wt (x.s.out k) by omega)];have P:¬(14<=x.s.aj-16-((x.load k).fr.length:Int)):=λq=>C (z q)
 obtain⟨A,m⟩:=exq (x.d.wt (x.s.out k));obtain⟨B,n⟩:=exq ((x.load k).d.wt (x.s.out k));obtain⟨F,hF⟩:∃F:Int,F=((x.load k).fr.length:Int):=⟨_,rfl⟩
 have Q:(x.s.out k).sG=ρ->A<=1:=λq=>by rw[m];unfold Du.wt;rw[q];simp only[dC];split<;>omega
 rw[<-m,<-n]at i a;rw[<-hF]at a P;rw[<-n]at C L;rw[<-m,<-n];cases D:(x.s.out k).sG;have:=a D;omega;have:=Q D;omega
structure cW where
 l:List Rg
 floor:Int
 aH:Int
def cW.has(s:cW)(n:Int):Bool:=decide (n<s.floor)||s.l.any (λr=>decide (r.lo<=n)&&decide (n<=r.hi))
structure jU where
 lo:Int
 hi:Int
 out:List Rg
 done:Bool
def jU.step(x:jU)(r:Rg):jU:=
 if r.hi<x.lo/\1<x.lo-r.hi then{x with out:=x.out++[r]}
 else if x.hi<r.lo/\1<r.lo-x.hi then(if x.done then{x with out:=x.out++[r]}else{x with out:=x.out++[⟨x.lo,x.hi⟩]++[r],done:=ρ})
 else{x with lo:=min x.lo r.lo,hi:=max x.hi r.hi}
def jU.end_(x:jU):List Rg:=if x.done then x.out else x.out++[⟨x.lo,x.hi⟩]
def qv(lo hi:Int)(l:List Rg):jU:=l.foldl jU.step ⟨lo,hi,[],θ⟩
def cW.put(s:cW)(l:List Rg):cW:=if s.aH<(l.length:Int)then⟨l.drop 1,(ao l 0).hi+1,s.aH⟩else{s with l:=l}
def cW.add(s:cW)(lo hi:Int):cW:=if hi<max lo s.floor then s else s.put (qv (max lo s.floor) hi s.l).end_
def Ty(w:ω)(b:Nat)(t:TypeId):Prop:=∃cs fr,w.heap[b]?=μ (ο cs t fr)
def Ty.ne{u:TypeId}(h:Ty w n T)(k:Ty w b u)(a:T≠u):n≠b:=by
 rintro rfl;obtain⟨cs,fr,h⟩:=h;obtain⟨c,d,k⟩:=k;rw[h]at k;simp only[nH,Obj.cells.injEq]at k;exact a k.2.1
def Ty.lt(h:Ty w b T):b<w.heap.size:=by
 obtain⟨cs,fr,h⟩:=h;exact(bg.1 h).1
def Ty.aA(h:Ty w b T)(C:ay w W S)(a:¬S b):Ty W b T:=by
 have hl:=h.lt;obtain⟨cs,fr,h⟩:=h;exact⟨cs,fr,(C.block b hl a).trans h⟩
def lg{l:List υ}(h:w.ownsRow i T j x n l)(C:ay w W S)(c:∀k,x.ownBlock=μ k->¬S k):W.ownsRow i T j x n l:=by
 obtain⟨d,a⟩:=h;refine⟨d,?_⟩
 obtain a|⟨g,cap,cur,e1,e2,b,e⟩:=a
 exact φ a;exact ψ ⟨g,cap,cur,e1,e2,(C.block g (bg.1 b).1 (c g (by rw[e1];rfl))).trans b,e⟩
def jc{l:List υ}(h:w.ownsRow i T j x n l):∀k,x.ownBlock=μ k->Ty w k T:=by
 obtain⟨-,⟨e,-⟩|⟨g,cap,b,e1,e2,c,-⟩⟩:=h;rw[e];intro k a;cases a;rw[e1];intro k a;cases a;exact⟨b,_,c⟩
def sh{l:List υ}(h:w.ownsRow k T i x n l):∃a c,x=σ a n c/\n<=c/\c<=maxLen/\(a=ν->n=0/\c=0)/\∀y,a=μ y->y=⟨y.block,0,ν⟩/\w.rangeAt y.block 0 l:=by
 obtain⟨f,⟨e,h0⟩|⟨g,cap,m,e1,e2,p,q,r,v,s⟩⟩:=h;exact⟨ν,0,by rw[h0];exact e,by omega,by simp[maxLen],λ_=>⟨h0,rfl⟩,λy b=>by cases b⟩
 refine⟨_,cap,e1,q,r,λe=>(by cases e),λy b=>?_⟩
 cases b;refine⟨rfl,λj u d=>?_⟩
 rw[ep,aZ p];have t:j<n*i:=by rw[<-f];exact(lA.1 d).1
 have:m.toList[j]?=l[j]? :=by rw[<-s,jK,aG t]
 rw[qF]at this;rw[this];exact d
structure da where
 data:ByteArray
 af:cW
 finished:Bool
 given:Bool
 code:Int
 end_:Int
 high:Int
structure aL where
 data:List Int
 there:List Bool
 high:Int
 end_:Int
 ended:Bool
 given:Bool
 code:Int
 read:Int
 state:Int
structure an where
 aj:Int
 ag:Int
 key:List Int
 me:Int
 closed:Int
 code:Int
 said:Bool
 next:Int
 dN:cW
 bG:cW
 due:List Int
 outs:Nat->da
 ins:Nat->aL
 av:List (Int×List Fr)
structure PL where
 dN:Nat
 bG:Nat
 ro:Nat
 ri:Nat
 co:Nat
 ci:Nat
 ob:Nat->Nat
 cb:Nat->Nat
 ib:Nat->Nat
 vg:υ
 ve:υ
 vc:Nat->υ
 vd:Nat->υ
 vt:Nat->υ
 PM:υ
 PO:υ
 az:List (υ×List eQ)
def mL(s:an)(l:PL):List υ:=
 [ι δ s.aj,ι δ s.ag]++bv s.key++[ι δ s.me,ι δ s.closed,ι η s.code,β s.said,ι η s.next,π (μ ⟨l.dN,0,ν⟩),π (μ ⟨l.bG,0,ν⟩),l.PM,σ (μ ⟨l.ro,0,ν⟩) 4 l.co,σ (μ ⟨l.ri,0,ν⟩) 4 l.ci,l.PO]
def an.of(s:an)(k:Int):Int:=if s.closed≠0 then 9 else if k<0\/4<=k then 2 else 0
def an.close(s:an)(code:Int):Int×an:=if s.closed≠0 then(9,s)else if 4611686018427387903<code then(3,s)else(0,{s with closed:=9,code:=code})
def cW.eR(s:cW):Int:=if s.l.length=0\/0<(ao s.l 0).lo then 0 else(ao s.l 0).hi+1
def an.af(s:an)(k:Int):Int×Int:=if s.of k≠0 then(0,s.of k)else((s.outs k.toNat).af.eR,0)
def an.finish(s:an)(k:Int):Int×an:=
 if s.of k≠0 then(s.of k,s)else if(s.outs k.toNat).finished||(s.outs k.toNat).given then(3,s)else(0,{s with outs:=ah s.outs k.toNat {s.outs k.toNat with finished:=ρ}})
def an.giveUp(s:an)(k code:Int):Int×an:=
 if s.of k≠0 then(s.of k,s)else if(s.outs k.toNat).given=ρ\/4611686018427387903<code then(3,s)else(0,{s with outs:=ah s.outs k.toNat {s.outs k.toNat with given:=ρ,code:=code,end_:=(s.outs k.toNat).high}})
def an.fT(s:an)(k:Nat)(m:Nat):Int:=min (min (s.ag-((s.outs k).data.size-(s.outs k).af.eR)) (4096-(s.outs k).data.size)) m
def an.write(s:an)(k:Int)(d:ByteArray):Int×Int×an:=
 if s.of k≠0 then(0,s.of k,s)else if(s.outs k.toNat).finished||(s.outs k.toNat).given then(0,3,s)
 else(s.fT k.toNat d.size,0,{s with outs:=ah s.outs k.toNat {s.outs k.toNat with data:=(s.outs k.toNat).data++d.extract 0 (s.fT k.toNat d.size).toNat}})
def lh(off:Nat)(d:List Int)(x:List Int×List Bool):Nat->List Int×List Bool
 |0=>x
 |n+1=>if(lh off d x n).2.getD (off+n) θ then lh off d x n else((lh off d x n).1.set (off+n) (d.getD n 0),(lh off d x n).2.set (off+n) ρ)
def Az(off:Nat)(d:List Int)(x:List Int×List Bool)(n:Nat):(lh off d x n).1.length=x.1.length/\(lh off d x n).2.length=x.2.length:=by
 induction n with
 |zero=>exact⟨rfl,rfl⟩
 |succ n a=>
  unfold lh;split;exact a;simp only[List.length_set];exact a
def aL.bad(i:aL)(f:Fr):Bool:=(i.ended&&(decide (i.end_<aT f)||(f.fin&&(aT f !=i.end_))))||(f.fin&&decide (aT f<i.high))
def aL.grow(i:aL)(f:Fr):aL:={i with high:=max i.high (aT f),ended:=i.ended||f.fin,end_:=if f.fin then aT f else i.end_}
def aL.pad(i:aL)(m:Nat):aL:={i with data:=i.data++List.replicate m 0,there:=i.there++List.replicate m θ}
def aL.fill(i:aL)(f:Fr)(n:Nat):aL:={i with data:=(lh f.offset.toNat (aI f.data) (i.data,i.there) n).1,there:=(lh f.offset.toNat (aI f.data) (i.data,i.there) n).2}
def aL.bytes(i:aL)(f:Fr):Int×aL:=
 if i.bad f then(7,i)else if i.given then(0,i)else(0,((i.grow f).pad ((max i.high (aT f)).toNat-i.data.length)).fill f f.data.size)
structure gz(i:aL):Prop where
 dl:(i.data.length:Int)=i.high
 tl:i.there.length=i.data.length
 hi:i.high<=100000000
 e0:0<=i.end_/\i.end_<=4611686018427387904
 rd:0<=i.read/\i.read<=i.high
def aL.start(i:aL):aL:=if i.given=ρ/\i.state=0 then{i with state:=2}else i
def aL.iF(i:aL):Nat:=((i.there.drop i.read.toNat).takeWhile id).length
def aL.ba(i:aL)(aH:Int):Nat:=if i.state=0 then min aH.toNat i.iF else 0
def aL.lq(i:aL)(n:Nat):aL:={i with read:=i.read+n}
def aL.stop(i:aL):aL:=if i.ended=ρ/\i.read=i.end_/\i.state=0 then{i with state:=1}else i
def aL.cR(i:aL)(aH:Int):aL:=(i.start.lq (i.start.ba aH)).stop
def aL.text(i:aL)(aH:Int):List Int:=(i.data.drop i.read.toNat).take (i.start.ba aH)
def aL.jB(i:aL):Int:=if i.state=2 then i.code else 0
def an.read(s:an)(k aH:Int):List Int×Int×Int×Int×an:=
 if s.of k≠0 then([],0,0,s.of k,s)else((s.ins k.toNat).text aH,((s.ins k.toNat).cR aH).state,((s.ins k.toNat).cR aH).jB,0,{s with ins:=ah s.ins k.toNat ((s.ins k.toNat).cR aH)})
def PQ(l:List Bool)(j:Nat)(h:j<(l.takeWhile id).length):l[j]?=μ ρ:=by
 induction l generalizing j with
 |nil=>simp at h
 |cons x l a=>
  cases x with
  |false=>simp at h
  |true=>
   cases j with
   |zero=>rfl
   |succ j=>simp only[List.takeWhile_cons,id,dC,cS]at h;simpa using a j (by omega)
def PR(l:List Bool)(h:(l.takeWhile id).length<l.length):l[(l.takeWhile id).length]?=μ θ:=by
 induction l with
 |nil=>simp at h
 |cons x l a=>
  cases x with
  |false=>rfl
  |true=>
   simp only[List.takeWhile_cons,id,dC,cS]at h⊢;simpa using a (by omega)
def AA(i:aL):i.iF<=i.there.length-i.read.toNat:=by
 unfold aL.iF;have h:∀l:List Bool,(l.takeWhile id).length<=l.length:=λl=>by
  induction l with
  |nil=>simp
  |cons x l a=>
   rw[List.takeWhile_cons];split;simp only[cS];omega;simp
 have:=h (i.there.drop i.read.toNat);rwa[dO]at this
def E4(i:aL)(j:Nat)(h:j<i.iF):i.there[i.read.toNat+j]?=μ ρ:=by
 have:=PQ _ _ h;rwa[lC]at this
def E5(i:aL)(h:i.read.toNat+i.iF<i.there.length):i.there[i.read.toNat+i.iF]?=μ θ:=by
 have:=PR (i.there.drop i.read.toNat) (by rw[dO];unfold aL.iF at h;omega);rwa[lC]at this
def PS{i:aL}(hi:gz i)(h:j<i.ba p):i.state=0/\(j:Int)<p/\i.read+j<i.high/\i.there[i.read.toNat+j]?=μ ρ:=by
 unfold aL.ba at h;split at h;rename_i h0;have a:j<i.iF:=by omega
 have:=AA i;have:=hi.rd;have:=hi.dl;have:=hi.tl;exact⟨h0,by omega,by omega,E4 i j a⟩
 omega
def AB{i:aL}(hi:gz i):i.read+i.ba p<=i.high:=by
 unfold aL.ba;have:=AA i;have:=hi.rd;have:=hi.dl;have:=hi.tl;split<;>omega
def cX(r:Rg):Rg:=⟨r.lo,r.hi+1⟩
def cW.sp(s:cW):List Rg:=s.l.map cX
def step_done(l:List Rg):∀(x:jU),x.done=ρ->(∀r∈l,x.hi+1<r.lo)->x.lo<=x.hi->(∀r∈l,r.lo<=r.hi)->(l.foldl jU.step x).end_=x.out++l:=by
 induction l with
 |nil=>intro x h _ _ _;simp[jU.end_,h]
 |cons r l d=>
  intro x h b hl c;have f:=b r (by simp);have g:=c r (by simp);have e:x.step r={x with out:=x.out++[r]}:=by
   unfold jU.step;rw[iN_,iP_,aG h]
  have k:=d {x with out:=x.out++[r]} h (λq a=>b q (by simp[a])) hl (λq a=>c q (by simp[a]));rw[lD,e];refine k.trans ?_;simp
def PT(l:List Rg):∀(lo hi:Int)(out:List Rg),lo<=hi->aU (l.map cX)->(l.foldl jU.step ⟨lo,hi,out,θ⟩).end_.map cX=out.map cX++lF (l.map cX) ⟨lo,hi+1⟩:=by
 induction l with
 |nil=>intro lo hi out h _;simp[jU.end_,lF,cX]
 |cons r l b=>
  intro lo hi out h hs;have hp:r.lo<r.hi+1:=hs.2 (cX r) (by simp);rw[lD,kM];have c:lF (cX r::l.map cX) ⟨lo,hi+1⟩=if r.hi+1<lo then cX r::lF (l.map cX) ⟨lo,hi+1⟩else if hi+1<r.lo then⟨lo,hi+1⟩::cX r::l.map cX else lF (l.map cX) ⟨min r.lo lo,max (r.hi+1) (hi+1)⟩:=rfl
  rw[c];by_cases c1:r.hi<lo/\1<lo-r.hi;have e:jU.step ⟨lo,hi,out,θ⟩ r=⟨lo,hi,out++[r],θ⟩:=by unfold jU.step;rw[aG c1]
  rw[e,b lo hi _ h hs.tail,iP_];simp[cX];by_cases c2:hi<r.lo/\1<r.lo-hi;have e:jU.step ⟨lo,hi,out,θ⟩ r=⟨lo,hi,out++[⟨lo,hi⟩]++[r],ρ⟩:=by unfold jU.step;rw[aB c1,aG c2];rfl
  have d:∀q∈l,r.hi+1<q.lo:=λq a=>(kK.1 hs.1).1 (cX q) (by simp;exact⟨q,a,rfl⟩)
  rw[e,step_done l _ rfl (λq a=>by have:=d q a;simp only;omega) h (λq a=>by have:=hs.2 (cX q) (by simp;exact ψ ⟨q,a,rfl⟩);unfold cX at this;simp only at this;omega),iN_,iP_];simp[cX];have e:jU.step ⟨lo,hi,out,θ⟩ r=⟨min lo r.lo,max hi r.hi,out,θ⟩:=by unfold jU.step;rw[aB c1,aB c2]
  rw[e,b _ _ _ (by omega) hs.tail,iN_,iN_];have:max hi r.hi+1=max (r.hi+1) (hi+1):=by omega
  have:min lo r.lo=min r.lo lo:=by omega
  simp only[*]
def yw(h:p<=q)(hs:aU (Y.map cX)):(qv p q Y).end_.map cX=cD (Y.map cX) ⟨p,q+1⟩:=by
 unfold qv;rw[PT Y p q [] h hs];unfold cD;rw[aG (by simp only;omega)];rfl
