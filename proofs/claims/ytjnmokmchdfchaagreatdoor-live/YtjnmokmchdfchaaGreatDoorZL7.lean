import Derived.Test.YtjnmokmchdfchaaGreatDoorZL4
set_option maxRecDepth 1000000
set_option maxHeartbeats 0
set_option linter.all false
namespace Go.Proofs.YtjnmokmchdfchaaGreatDoor
open Go.RowKit Tryz
open Go.Value renaming int→ι,slice→σ,bool→β,pointer→π,agg→ε,string→ς,tuple→τ
open Go.IntKind renaming i64→δ,u64→η,u8→Δ
open Go.Ending renaming returned→ξ
open Go.Obj renaming cells→ο
open Or renaming inl→φ,inr→ψ
open Option renaming some→μ,none→ν
open Bool renaming true→ρ,false→θ
open Go renaming World→ω,Value→υ
open Go.World renaming grownBy→γ,cell?→κ,frozen?→χ,setCell→ζ
attribute[local go_sem↓]Go.wp_at_zero Go.wp_at_succ
variable{H:Act}{c:Array υ}{B:Bool}{u:Exit->Act->ω->Prop}{p q r:Int}{b i j k l m n o:Nat}{U:Oper}{N:Option Nat}{T:TypeId}{x y z:υ}{V W v w:ω}
def mG{a:υ}(h:w.heap[b]?=μ (ο #[x,y,z,a] T (0,0))):κ w ⟨b,0,ν⟩=μ x/\κ w ⟨b,1,ν⟩=μ y/\κ w ⟨b,2,ν⟩=μ z/\κ w ⟨b,3,ν⟩=μ a:=by
 simp[World.cell?,h]
def Cu(h:w.heap[n]?=μ (ο c T (0,0)))(a b d e:υ):γ w ((((ζ w ⟨n,o,ν⟩ a).setCell ⟨n,o+1,ν⟩ b).setCell ⟨n,o+2,ν⟩ d).setCell ⟨n,o+3,ν⟩ e) (μ n)/\((((ζ w ⟨n,o,ν⟩ a).setCell ⟨n,o+1,ν⟩ b).setCell ⟨n,o+2,ν⟩ d).setCell ⟨n,o+3,ν⟩ e).heap[n]?=μ (ο ((((c.setIfInBounds o a).setIfInBounds (o+1) b).setIfInBounds (o+2) d).setIfInBounds (o+3) e) T (0,0)):=
 ⟨aM (aM (aM (aM (aD w (μ n)) ⟨n,o,ν⟩ a (ψ rfl)) ⟨n,o+1,ν⟩ b (ψ rfl)) ⟨n,o+2,ν⟩ d (ψ rfl)) ⟨n,o+3,ν⟩ e (ψ rfl),heap_set (heap_set (heap_set (heap_set h a) b) d) e⟩
def kA(x:Kt):Array υ:= #[ι η x.1.num,ι δ x.1.tick,ι δ x.1.st,x.2]
def zG(g n cap ax y sb:Nat)(lb:Array υ)(az:List Kt)(w:ω)(q:Nat->Bool)(Inv:Nat->ω->Prop)(F:Array υ)
 (a8:ax<=g) (b:n=az.length) (a9:n<=cap/\cap<=maxLen) (jq:∀x∈az,∃a n c,x.2=σ a n c) (h0:jr w g cap az [] 0 F) (c9:sb<w.heap.size) (bb:sb≠g)
 (eg:∀args w,(callFunc y args).run prog w=.ok (.enter y args) w) (hI:Inv 0 w)
 (G:∀(W m:ω)(h:Nat),Inv h W->γ W m (μ g)->Inv h m)
 (Q:∀(W:ω)(h:Nat),Inv h W->h<n->Calls prog y (#[ε (kA (bP az h))]++lb) W (λe m=>e=ξ (β (q h))/\Inv (h+1) m/\γ W m (μ sb))):
 Calls prog 236 #[σ (μ ⟨g,0,ν⟩) n cap,.func (.func y) #[] lb] w λe H=>e=ξ (σ (μ ⟨g,0,ν⟩) (kp az q n).length cap)/\cq H ax (σ (μ ⟨g,0,ν⟩) (kp az q n).length cap) (kp az q n)/\Inv n H:=by
 obtain⟨R,I⟩:∃R:Ending->ω->Prop,R=λe H=>e=ξ (σ (μ ⟨g,0,ν⟩) (kp az q n).length cap)/\cq H ax (σ (μ ⟨g,0,ν⟩) (kp az q n).length cap) (kp az q n)/\Inv n H:=⟨_,rfl⟩
 rw[<-I];replace I:=J I;have b4:g<w.heap.size:=(bg.1 h0.aV).1;have hX:=J (zE (μ ⟨g,0,ν⟩) g 0 n cap y #[] lb w (λh=>q h=ρ) (λh=>ι η (bP az h).1.num) (λh=>ι δ (bP az h).1.tick) (λh=>ι δ (bP az h).1.st) (λh=>(bP az h).2) (λh W=>Inv h W/\jr W g cap az [] 0 F/\w.heap.size<=W.heap.size) (λ_=>rfl) a9 eg ⟨hI,h0,aP _⟩
  (λW h z hh=>by
    have hm:=z.2.1;have K:∀i,i<4->κ W ⟨g,h*4+i,ν⟩=(kQ (bP az h))[i]? :=λi hi=>by
     rw[aZ hm.aV,hm.rest _ (by omega) (by omega)];exact s6 kQ (λ_=>rfl) az h i _ (oK) hi
    refine⟨?_,?_,?_,?_⟩
    rw[ep];exact K 0 (by omega);rw[ep];exact K 1 (by omega);rw[ep];exact K 2 (by omega)
    ·rw[ep];exact K 3 (by omega))
  (λW h z hh=>(by rw[Array.empty_append];exact Q W h z.1 hh:Calls prog y (#[]++ #[ε (kA (bP az h))]++lb) W (λe m=>e=ξ (β (q h))/\Inv (h+1) m/\γ W m (μ sb))).mono (λe m ⟨he,hi,hg⟩=>⟨⟨q h,he,Iff.rfl⟩,hi,z.2.1.same (hg.block g (cu b4 z.2.2) (λe=>bb (aQ e).symm)),bK z.2.2 hg.size⟩)))
 replace⟨hI,h0,Q,G,b⟩:=fF hI h0 Q G b;obtain⟨db,b5⟩:=a9;unfold maxLen at b5;go_enter func236,ntmps236;go_wp2_with fail;apply(Z hX).mono;rintro e w1(⟨k,hk,rfl,bj,L,t,p,br⟩|⟨rfl,L,t,p,br⟩)
 ·have b6:((k:Int)== -1)=θ:=by rw[beq_eq_false_iff_ne];omega
  have b7:k<=az.length:=by have:=Z b;omega
  have l:kp az q (k+1)=az.take k:=by
   unfold kp;rw[aG bj,Ct az q k b7 (λi hi=>by have:=L i hi;simpa using this)]
  have A:jr w1 g cap az (kp az q (k+1)) (k+1) F:=by
   rw[l];refine⟨p.aV,p.sz,by rw[ct];omega,λx B=>?_,λx h1 h2=>p.rest x (by omega) h2⟩
   rw[ct]at B;rw[IZ _ _ _ (by omega)];exact p.rest x (by omega) (by omega)
  have S:(kp az q (k+1)).length=k:=by rw[l,ct];omega
  replace⟨A,t⟩:=bD A t;clear p L bj l;go_wp2;go_loopw [5,6] (λiv jv wr=>∃(j:Nat)(d:Array υ),k+1<=j/\j<=n/\iv=ι δ ((kp az q j).length:Int)/\jv=ι δ j/\(kp az q j).length<j/\Inv j wr/\jr wr g cap az (kp az q j) j d/\w.heap.size<=wr.heap.size) (λ_ jv _=>n-(intOf jv).toNat);case atStart=>exact⟨k+1,F,aP _,by omega,by rw[S],by simp,by rw[S];omega,Z t,Z A,br⟩
  case round=>
   obtain⟨j,d,de,dg,rfl,rfl,bt,C,f,dk⟩:=hrel;obtain⟨M,N⟩:=exq (kp az q j);rw[<-N]at bt f⊢;obtain⟨i,hi⟩:=exq M.length;rw[<-hi]at bt⊢;replace⟨N,hi⟩:=bD N hi;by_cases b8:j<n
   ·have d1:decide ((j:Int)<n)=ρ:=dT_;have i1:(j:Int)<n:=by omega
    have i2:(i:Int)<n:=by omega
    have i3:i<n:=by omega
    obtain⟨y0,y1,y2,y3⟩:=f.at (by have:=Z b;omega);have hF:=J (λW(g1:γ wr W ν)=>Z Q W j (Z G _ _ _ C (dy g1 _)) b8);obtain⟨pa,D,E,aC⟩:=jq _ (pI (i:=j) (by have:=Z b;omega));obtain⟨kt,l⟩:=exq (bP az j);rw[<-l]at y0 y1 y2 y3 hF aC;obtain⟨⟨num,tick,st,ps⟩,sv⟩:=kt;simp only at y0 y1 y2 y3 aC;subst aC;unfold kA at hF;simp only at hF;obtain⟨qj,a0⟩:=exq (q j);rw[<-a0]at hF;have bx:Hid (kp az q (j+1)=if qj then M else M++[(⟨num,tick,st,ps⟩,σ pa D E)]):=J (by rw[kp,<-a0,l,Z N]);clear a0;replace l:=J l;obtain⟨T,U⟩:=exq (wr.alloc (ο #[ι η num,ι δ tick,ι δ st,σ pa D E] 325));have g3:γ wr T ν:=by rw[U];exact aJ _ _ _
    have O:T.heap[wr.heap.size]?=μ (ο #[ι η num,ι δ tick,ι δ st,σ pa D E] 325 (0,0)):=by rw[U];exact aO _ _
    have ca:wr.heap.size<T.heap.size:=(bg.1 O).1;obtain⟨b0,b1,b2,b3⟩:=mG O;have bz:=J (Z hF T g3);replace⟨C,O⟩:=bD C O;clear hF;go_wp2_with fail;rw[<-U];clear U;go_wp2_with fail;apply(Z bz).mono;rintro e s⟨rfl,V,g4⟩;have r:jr s g cap az M j d:=f.same ((g4.block g (by omega) (λe=>bb (aQ e).symm)).trans (g3.block g (by omega) (by simp)));have a1:=(g4.block wr.heap.size ca (λe=>by have:=aQ e;omega)).trans (Z O);have ch:w.heap.size<=s.heap.size:=by have:=g4.size;omega
    replace V:=J V;clear y0 y1 y2 y3 b0 b1 b2 b3 f bz;cases qj
    ·obtain⟨b0,b1,b2,b3⟩:=mG a1;have dn:d.size=cap*4:=r.sz;have P:∀c,c<4->∃u,κ s ⟨g,i*4+c,ν⟩=μ u:=λc K=>by
      rw[aZ r.aV];exact⟨d[i*4+c]'(by omega),Array.getElem?_eq_getElem (by omega)⟩
     obtain⟨u0,z0⟩:=P 0 (by omega);obtain⟨u1,z1⟩:=P 1 (by omega);obtain⟨u2,z2⟩:=P 2 (by omega);obtain⟨u3,z3⟩:=P 3 (by omega);rw[px]at z0;have f0:χ s ⟨g,i*4,ν⟩=θ:=by simp[World.frozen?,r.aV]
     have f1:χ s ⟨g,i*4+1,ν⟩=θ:=by simp[World.frozen?,r.aV]
     have f2:χ s ⟨g,i*4+2,ν⟩=θ:=by simp[World.frozen?,r.aV]
     have f3:χ s ⟨g,i*4+3,ν⟩=θ:=by simp[World.frozen?,r.aV]
     obtain⟨W5,X⟩:=exq ((((ζ s ⟨g,i*4,ν⟩ (ι η num)).setCell ⟨g,i*4+1,ν⟩ (ι δ tick)).setCell ⟨g,i*4+2,ν⟩ (ι δ st)).setCell ⟨g,i*4+3,ν⟩ (σ pa D E));have bM:=Cu (o:=i*4) r.aV (ι η num) (ι δ tick) (ι δ st) (σ pa D E);rw[<-X]at bM;obtain⟨g5,a2⟩:=bM;rw[Z hi]at a2;have cj:=J (r.put (W':=W5) (by have:=Z hi;omega) (by have:=Z b;omega) (by have:=Z b;omega) (⟨num,tick,st,ps⟩,σ pa D E) a2);clear a2;replace X:=J X;have cp:=J (Z G _ _ _ (Z V) g5);have ds:=g5.size;clear P r;replace a1:=J a1;go_wp2_with fail;rw[<-Z X];obtain⟨cv,Y⟩:=Z cj;have v:=Z bx;simp only[eN,eA]at v;have a3:(kp az q (j+1)).length=i+1:=by rw[v,bF,wB,<-Z hi]
     exact⟨⟨j+1,cv,by omega,by omega,by rw[a3];simp,by simp,by omega,Z cp,by rw[v];exact Y,by omega⟩,by simp[intOf];omega⟩
    go_wp2_with fail;go_roundw;case measure=>simp[intOf];omega
    case rel=>
     have v:=Z bx;simp only[dC]at v;have a3:(kp az q (j+1)).length=i:=by rw[v,<-Z hi]
     exact⟨j+1,d,by omega,by omega,by rw[a3],by simp,by omega,Z V,by rw[v];exact r.skip rfl,ch⟩
   have d1:decide ((j:Int)<n)=θ:=dF_;obtain rfl:j=n:=by omega
   have dx:¬cap=i:=by omega
   have i2:(i:Int)<=j:=by omega
   have i3:(i:Int)<=cap:=by omega
   have i4:i<=j:=by omega
   have cw:i*4+(j-i)*4<=d.size:=by rw[f.sz];omega
   have cx:=J f.aV;have dE:g<wr.heap.size:=by omega
   replace C:=J C;obtain⟨zs,dG,cy⟩:=Cs (w:=wr) 0 222 325 _ 4 (by omega) underlying222 IY (by rfl) (by simp[Value.cells];exact⟨rfl,rfl,rfl⟩) g (i*4) (j-i) (cap-i) d _ (Z cx) (by omega) cw;obtain⟨W6,al⟩:=exq (wr.setRow g (d.toList.take (i*4)++zs++d.toList.drop (i*4+(j-i)*4)).toArray);rw[<-al]at cy;have g6:γ wr W6 (μ g):=by rw[al];exact wR _ _ _
   have Y:jr W6 g cap az M j (d.toList.take (i*4)++zs++d.toList.drop (i*4+(j-i)*4)).toArray:=by
    have hs:=f.sz;refine⟨by rw[al];exact setRow_heap wr g _ _ _ _ f.aV,?_,f.le,λx B=>?_,λx h1 h2=>?_⟩
    simp only[uk,bF,ct,dO,qG];omega;have cC:x<i*4:=by rw[Z hi];exact B
    rw[<-f.ahead x B,ui,fm,mm (by rw[ct,qG];omega),jK,aG cC,qF];have:=Z b;omega
   have a4:Hid (R (ξ (σ (μ ⟨g,0,ν⟩) i cap)) W6):=J (by
    have S:=Z N;rw[Z I,<-S];refine⟨by rw[Z hi],?_,Z G _ _ _ (Z C) g6⟩
    exact Y.own a8 ⟨by have:=Z hi;omega,by unfold maxLen;omega⟩)
   clear al Y;replace f:=J f;go_wp2_with fail;exact Z a4
 have b6:((-1:Int)== -1)=ρ:=rfl;have l:kp az q n=az:=by
  rw[Z b,Ct az q az.length (aP _) (λi hi=>by have:=L i (by have:=Z b;omega);simpa using this),pt]
 have A:jr w1 g cap az az n F:=⟨p.aV,p.sz,by rw[Z b];exact aP _,λx B=>p.rest x (by omega) B,λx h1 h2=>by have:=Z b;omega⟩
 have a4:Hid (R (ξ (σ (μ ⟨g,0,ν⟩) n cap)) w1):=J (by
  rw[Z I,l];refine⟨by rw[Z b],?_,t⟩
  exact A.own a8 ⟨by have:=Z b;omega,by unfold maxLen;omega⟩)
 clear p A L l;replace t:=J t;go_wp2_with fail;exact Z a4
def I3:(prog.info? 325).map (λi=>(i.zero,i.size,i.bytes))=μ (μ (ε #[ι η 0,ι δ 0,ι δ 0,σ ν 0 0]),4,48):=by kernel_rfl
def I4(ty:TypeId)(e:Nat)(v:υ)(l:List Kt)(s:cq w e v l)(b c:Nat)(x:Kt)(t:∃a n c,x.2=σ a n c)(h0:w.rangeAt b 0 (kQ x))(H:l.length<=100000000)(y:e<=w.heap.size):
 ∃f h i d,(Builtin.append_ #[222,222] ty #[v,σ (μ ⟨b,0,ν⟩) 1 c]).run prog w=.ok (σ f h i) d/\cq d e (σ f h i) (l++[x])/\γ w d v.ownBlock/\((Value.slice f h i).ownBlock=v.ownBlock\/(Value.slice f h i).ownBlock=μ w.heap.size):=by
 obtain⟨z,hi,A,B,C⟩:=lU I3;obtain⟨I,K,xc,D⟩:=t;obtain⟨E,d,m,F,p,_,q⟩:=run_append_own_at (P:=prog) w e 222 ty 325 z _ 4 48 underlying222 hi A B C rfl (by decide) v l.length (iX l) s ⟨b,0,ν⟩ 1 c (iX [x]) (by simp[iX,kQ]) (by
  intro j u G;rw[Addr.add_mid];exact h0 j u (by simpa [iX]using G)) (by
  intro u r;simp[iX,kQ,D]at r;obtain rfl|rfl|rfl|rfl:=r<;>rfl) (by simp[maxLen];omega) (by omega) y
 have k:cq d e E (l++[x]):=by
  unfold cq;rw[bF,show iX (l++[x])=iX l++iX [x] by simp[iX]];exact F
 obtain⟨-,⟨rfl,e2⟩|⟨g,cap,L,rfl,_⟩⟩:=id k;exact⟨_,_,_,d,m,k,p,q⟩
 exact⟨_,_,_,d,m,k,p,q⟩
def Cv{j:Array Oper}{K:Act->ω->Prop}{E:Prop}(k:U.guard=ν)(s x:Operand)
 (ho:U.op=.call {callee:=.builtin .append,args:= #[s,x],argTypes:= #[222,222]})
 (g:Nat) (v:υ) (l:List Kt) (hs:H.eval s=v) (m:cq w g v l) (b c:Nat) (i:Kt) (p:∃H n c,i.2=σ H n c) (q:H.eval x=σ (μ ⟨b,0,ν⟩) 1 c) (h0:w.rangeAt b 0 (kQ i)) (r:l.length<=100000000) (t:g<=w.heap.size)
 (h:∀a d e f,cq f g (σ a d e) (l++[i])->γ w f v.ownBlock->((Value.slice a d e).ownBlock=v.ownBlock\/(Value.slice a d e).ownBlock=μ w.heap.size)->
   K (H.put U.dst (σ a d e)) f):if Region.wanted U (yielded j H.tmps)=ρ then Oper.wp prog U H w K u else E:=by
 have y:Region.wanted U (yielded j H.tmps)=ρ:=by simp[Region.wanted,k]
 rw[aG y];obtain⟨a,d,e,f,z,A,B,C⟩:=I4 (w:=w) U.type g v l m b c i p h0 r t;unfold Oper.wp execOp;simp only[ho,resolve,invoke,builtin,ka,mX,jh,oF,kM,nI,hs,q,z]
 exact h a d e f A B C
structure iL(w:ω)(b:Nat)(cs:Array υ)(a:Nat)(c d:υ)(lf ll:List Kt)(count tick wait:Int):Prop where
 c0:cs[a]?=μ (ι η count)
 c1:cs[a+1]?=μ (ι δ tick)
 c2:cs[a+2]?=μ (ι δ wait)
 c3:cs[a+3]?=μ c
 c4:cs[a+4]?=μ d
 of:cq w b c lf
 ol:cq w b d ll
def I5(w:ω)(sb b c:Nat)(v:υ)(lf:List Kt)(c3:κ w ⟨sb,b+3,ν⟩=μ v)(of:cq w c v lf):Calls prog 208 #[π (μ ⟨sb,b,ν⟩)] w λr d=>r=ξ (β (decide (10<=(lf.length:Int))))/\d=w:=by
 obtain⟨a,cap,rfl,-⟩:=of.gR;go_enter func208,ntmps208;go_wp2;go_ret;exact⟨rfl,rfl⟩
def Cw(w:ω)(sb a:Nat)(cs:Array υ)(t:TypeId)(count:Int)(b:w.heap[sb]?=μ (ο cs t (0,0)))(c0:cs[a]?=μ (ι η count))(d:0<=count/\count<=4611686018427387903):Calls prog 205 #[π (μ ⟨sb,a,ν⟩)] w λr c=>r=ξ (ι η count)/\γ w c (μ sb)/\c.heap[sb]?=μ (ο (cs.setIfInBounds a (ι η (count+1))) t (0,0)):=by
 have d0:=(aZ b a).trans c0;have f0:χ w ⟨sb,a,ν⟩=θ:=fZ_ b;have e:IntKind.u64.wrap (count+1)=count+1:=by rw[fW];omega
 have f:IntKind.u64.wrap (count+1-1)=count:=by rw[fW];omega
 go_enter func205,ntmps205;go_wp2;go_ret;refine⟨?_,aM (aD _ _) _ _ (ψ rfl),heap_set b _⟩
 congr 2
def I6(w:ω)(sb b:Nat)(tick wait:Int)(c1:κ w ⟨sb,b+1,ν⟩=μ (ι δ tick))(c2:κ w ⟨sb,b+2,ν⟩=μ (ι δ wait))(x:Kt)(h:0<=tick/\tick<=1000000000000)(i:0<=x.1.tick/\x.1.tick<=1000000000000):
 Calls prog 198 #[π (μ ⟨sb,b,ν⟩),ε (kA x)] w λr g=>r=ξ (β (decide (wait<=tick-x.1.tick)))/\γ w g ν:=by
 obtain⟨⟨num,tk,st,ps⟩,e⟩:=x;unfold kA at *;simp only at *;obtain⟨f,a⟩:=exq (w.alloc (ο #[ι η num,ι δ tk,ι δ st,e] 325));have c:γ w f ν:=by rw[a];exact aJ _ _ _
 have d:f.heap[w.heap.size]?=μ (ο #[ι η num,ι δ tk,ι δ st,e] 325 (0,0)):=by rw[a];exact aO _ _
 obtain⟨-,j,-,-⟩:=mG d;have d1:=gC_ c c1;have d2:=gC_ c c2;have k:IntKind.i64.wrap (tick-tk)=tick-tk:=wI_;replace d:=J d;go_enter func198,ntmps198;go_wp2_with fail;rw[<-a];clear a;go_quiet (fail);go_wp2;go_ret;exact⟨rfl,dv c _⟩
def I7(w:ω)(x:Kt):Calls prog 200 #[ε (kA x)] w λr a=>r=ξ (β ρ)/\γ w a ν:=by
 unfold kA;go_enter func200,ntmps200;go_wp2;go_ret;exact⟨rfl,by repeat(first|exact aD _ _|apply dv|apply aY|apply bk)⟩
def cq.gb{l:List Kt}(h:cq w n x l)(g:γ w W N)(a:x.ownBlock=ν\/x.ownBlock≠N:=by simp):cq W n x l:=World.ownsRow.kept h g a
def cq.au{l:List Kt}(h:cq w n x l)(g:γ w W ν):cq W n x l:=h.gb g (by cases x.ownBlock<;>simp)
def I8(w:ω)(sb c l:Nat)(cs:Array υ)(t:TypeId)(n N:υ)(lf ll:List Kt)(count tick wait:Int)(G:w.heap[sb]?=μ (ο cs t (0,0)))(H:iL w l cs c n N lf ll count tick wait)(X:l<=w.heap.size)(z:n.ownBlock≠μ sb)(O:0<=count/\count<=4611686018427387903)(Y:lf.length<=1000000)(k:Int)(pa:Option Addr)(d f:Nat)(ps:List Pc):
 Calls prog 210 #[π (μ ⟨sb,c,ν⟩),ι δ k,σ pa d f] w λr A=>r=ξ (ι η count)/\∃p,A.heap[sb]?=μ (ο ((cs.setIfInBounds c (ι η (count+1))).setIfInBounds (c+3) p) t (0,0))/\cq A l p (lf++[(⟨count,tick,k,ps⟩,σ pa d f)])/\ay w A (λi=>i=sb\/n.ownBlock=μ i)/\(p.ownBlock=n.ownBlock\/∀i,p.ownBlock=μ i->w.heap.size<=i):=by
 obtain⟨c0,c1,c2,c3,c4,of,ol⟩:=H;have P:=J (Cw w sb c cs t count G c0 O);have al:sb<w.heap.size:=(bg.1 G).1;obtain⟨B,C,rfl,ax,aC⟩:=of.gR;go_enter func210,ntmps210;go_wp2_with fail;apply(Z P).mono;rintro e b⟨rfl,D,h⟩;have d1:κ b ⟨sb,c+1,ν⟩=μ (ι δ tick):=by rw[aZ h,aN_];exact c1
 have d3:κ b ⟨sb,c+3,ν⟩=μ (σ B lf.length C):=by rw[aZ h,aN_];exact c3
 have f3:χ b ⟨sb,c+3,ν⟩=θ:=fZ_ h;have o1:cq b l (σ B lf.length C) lf:=of.gb D (ψ z);have a0:=D.size;obtain⟨I,j⟩:=exq ((b.alloc (ο #[ι η count,ι δ tick,ι δ k,σ pa d f] 325)).drew);have q:γ b I ν:=by rw[j];exact aY (aJ _ _ _)
 have E:I.heap[b.heap.size]?=μ (ο #[ι η count,ι δ tick,ι δ k,σ pa d f] 325 (0,0)):=by rw[j];exact aO b _
 have K:=J (kN (cs:=kQ (⟨count,tick,k,ps⟩,σ pa d f)) E);have L:=J (o1.au q);have s:=bE h q;have Q:=q.size;rw[j]at K L s;have R:l<=(b.alloc (ο #[ι η count,ι δ tick,ι δ k,σ pa d f] 325)).drew.heap.size:=by rw[<-j];omega
 have S:sb<(b.alloc (ο #[ι η count,ι δ tick,ι δ k,σ pa d f] 325)).drew.heap.size:=by rw[<-j];omega
 replace⟨E,h,s⟩:=cz E h s;have T:=J d3;have M:Hid (b.heap.size<=(b.alloc (ο #[ι η count,ι δ tick,ι δ k,σ pa d f] 325)).drew.heap.size):=J (by rw[<-j];omega);clear q j Q;have a1:sb<b.heap.size:=by omega
 go_wp2_with fail;go_region_law ((refine Cv (by rfl) _ _ (by rfl) l _ lf (by rfl) (Z L) _ _ (⟨count,tick,k,ps⟩,σ pa d f) ⟨_,_,_,rfl⟩ (by rfl) (Z K) (by omega) R ?_;intro a7 u c7 v F x y;replace F:=J F;replace y:=J y;have m:=(x.block sb S (λe=>z e.symm)).trans (Z s);have a2:κ v ⟨sb,c+3,ν⟩=μ (σ B lf.length C):=((mn (w:=b) (a:=⟨sb,c+3,ν⟩) (m.trans (Z h).symm)).trans (Z T));have f7:χ v ⟨sb,c+3,ν⟩=θ:=(by simp[World.frozen?,m]);replace m:=J m;replace x:=J x));all_goals go_wp2_with fail
 all_goals
  go_ret
  have U:(Value.slice a7 u c7).ownBlock≠μ sb:=by
   obtain e|e:=Z y
   rw[e];exact z;rw[e];intro e2;have V:=aQ e2;have:=Z M;omega
  refine⟨rfl,σ a7 u c7,heap_set (Z m) _,(Z F).gb (aM (aD v (μ sb)) ⟨sb,c+3,ν⟩ (σ a7 u c7) (ψ rfl)) (ψ U),?_,?_⟩
  have W:ay b (b.alloc (ο #[ι η count,ι δ tick,ι δ k,σ pa d f] 325)).drew (λ_=>False):=(ay.of (aY (aJ b _ ν))).mono (λk _ e=>by cases e)
  refine((((ay.of D).trans W).trans (ay.of (Z x))).trans (ay.of (aM (aD v (μ sb)) ⟨sb,c+3,ν⟩ (σ a7 u c7) (ψ rfl)))).mono (λi _ g=>?_)
  obtain((g|g)|g)|g:=g
  exact φ (aQ g).symm
  exact g.elim
  exact ψ g
  exact φ (aQ g).symm
  obtain e|e:=Z y
  exact φ e
  refine ψ (λi hi=>?_)
  rw[e]at hi
  have V:=aQ hi
  have:=Z M
  omega
def zH(a:Option Addr)(cap b:Nat)(lb:Array υ)(w:ω)(c:cap<=maxLen)(eg:∀args w,(callFunc b args).run prog w=.ok (.enter b args) w):
 Calls prog 236 #[σ a 0 cap,.func (.func b) #[] lb] w λe d=>e=ξ (σ a 0 cap)/\d=w:=by
 have f:=J (zE a 0 0 0 cap b #[] lb w (λ_=>False) (λ_=>undef) (λ_=>undef) (λ_=>undef) (λ_=>undef) (λ_ W=>W=w) (λh=>by omega) ⟨by omega,c⟩ eg rfl (λW h _ g=>by omega) (λW h _ g=>by omega));go_enter func236,ntmps236;go_wp2_with fail;apply(Z f).mono;rintro e i(⟨k,j,-⟩|⟨rfl,-,rfl⟩);omega;go_wp2_with fail;go_ret;exact⟨rfl,rfl⟩
def FT(sb:Nat)(a b:υ)(k:Nat):Prop:=k=sb\/a.ownBlock=μ k\/b.ownBlock=μ k
def cq.mid{l:List Kt}(h:cq w k (σ (μ ⟨i,0,ν⟩) n j) l):k<=i/\∃a,jr w i j l [] 0 a:=by
 obtain⟨g,⟨c,h0⟩|⟨m,p,a,e1,e2,d,q,r,e,f⟩⟩:=h;cases c;cases e1;refine⟨e2,a,d,e,aP _,λx b=>by simp at b,λx _ b=>?_⟩
 rw[<-f,jK,aG b,qF]
def I9(l:List Kt)(Q:Kt->Bool)(j:Nat)(a:j<l.length):(l.take (j+1)).filter Q=(l.take j).filter Q++(if Q (bP l j)then[bP l j]else[]):=by
 rw[pS,oK a,Option.toList_some,List.filter_append];cases h:Q (bP l j)<;>simp[h]
structure oL(w:ω)(sb e b:Nat)(cs:Array υ)(t:TypeId)(c d:υ)(lf f:List Kt)(a:υ)(W:ω):Prop where
 aV:W.heap[sb]?=μ (ο (cs.setIfInBounds (e+4) a) t (0,0))
 of:cq W b c lf
 ol:cq W b a f
 aA:ay w W (FT sb c d)
 new:a.ownBlock=d.ownBlock\/∀k,a.ownBlock=μ k->w.heap.size<=k
def oL.gb{lf a:List Kt}(h:oL w n k i c T x y lf a z W)(g:γ W v ν):oL w n k i c T x y lf a z v:=
 ⟨bE h.aV g,h.of.au g,h.ol.au g,h.aA.grow g,h.new⟩
def oL.apart{lf a:List Kt}(h:oL w n i j c T x y lf a z W)(l:n<w.heap.size)(b:y.ownBlock≠μ n)(d:∀k,x.ownBlock=μ k->y.ownBlock≠μ k)(f:∀k,x.ownBlock=μ k->k<w.heap.size):z.ownBlock≠μ n/\∀k,x.ownBlock=μ k->z.ownBlock≠μ k:=by
 obtain e|e:=h.new
 rw[e];exact⟨b,d⟩
 exact⟨λe2=>by have:=e _ e2;omega,λk g e2=>by have:=e _ e2;have:=f k g;omega⟩
def oL.app{lf t p:List Kt}{b:υ}(h:oL w n i j c T x y lf t z W)(g:γ W v ν)(u:cq V j b p)(f:γ v V z.ownBlock)(q:b.ownBlock=z.ownBlock\/b.ownBlock=μ v.heap.size)(r:n<w.heap.size)(A:y.ownBlock≠μ n)(B:x.ownBlock≠μ n)(C:∀k,x.ownBlock=μ k->y.ownBlock≠μ k)(D:∀k,x.ownBlock=μ k->k<w.heap.size):oL w n i j c T x y lf p b (ζ V ⟨n,i+4,ν⟩ b):=by
 have d:=h.gb g;obtain⟨s,E⟩:=h.apart r A C D;have F:n<v.heap.size:=cu r d.aA.size;have G:V.heap[n]?=μ (ο (c.setIfInBounds (i+4) z) T (0,0)):=(f.block n F (λe=>s e.symm)).trans d.aV;have l:=aM (aD V (μ n)) ⟨n,i+4,ν⟩ b (ψ rfl);have H:b.ownBlock≠μ n:=by
  obtain e|e:=q
  rw[e];exact s;rw[e];intro e2;have:=aQ e2;omega
 refine⟨by rw[heap_set G];simp,?_,u.gb l (ψ H),?_,?_⟩
 have o1:cq V j x lf:=d.of.gb f (by
  cases I:x.ownBlock with
  |none=>exact φ rfl
  |some k=>exact ψ (λe=>E k I e.symm))
 exact o1.gb l (ψ B);refine((d.aA.trans (ay.of f)).trans (ay.of l)).mono (λk m a=>?_);obtain(a|a)|a:=a
 exact a;obtain e|e:=h.new
 exact ψ (ψ (e▸a));have:=e k a;omega;exact φ (aQ a).symm;obtain e|e:=q
 rw[e];exact h.new;exact ψ (λk m=>by rw[e]at m;have:=aQ m;have:=d.aA.size;omega)
def Cz(w:ω)(sb f m N:Nat)(lb:Array υ)(cs:Array υ)(t:TypeId)(y p:υ)(lf ll:List Kt)(count tick wait:Int)(Q:Kt->Bool)(U:w.heap[sb]?=μ (ο cs t (0,0)))(H:iL w m cs f y p lf ll count tick wait)(ek:m<=w.heap.size)(V:y.ownBlock≠μ sb)(a9:p.ownBlock≠μ sb)(ax:∀k,y.ownBlock=μ k->p.ownBlock≠μ k)(eo:lf.length<=1000000/\ll.length<=50000000)(jq:∀x∈lf,∃a n c,x.2=σ a n c)
 (eg:∀args w,(callFunc N args).run prog w=.ok (.enter N args) w)
 (X:∀(W:ω)(h:Nat),ay w W (FT sb y p)->h<lf.length->Calls prog N (#[ε (kA (bP lf h))]++lb) W (λe W'=>e=ξ (β (Q (bP lf h)))/\γ W W' ν)):
 Calls prog 199 #[π (μ ⟨sb,f,ν⟩),.func (.func N) #[] lb] w λr q=>r=ξ (τ #[])/\∃z d,q.heap[sb]?=μ (ο ((cs.setIfInBounds (f+4) d).setIfInBounds (f+3) z) t (0,0))/\cq q m z (lf.filter (λx=> !Q x))/\cq q m d (ll++lf.filter Q)/\ay w q (FT sb y p)/\z.ownBlock=y.ownBlock/\(d.ownBlock=p.ownBlock\/∀k,d.ownBlock=μ k->w.heap.size<=k):=by
 obtain⟨R,O⟩:=exq (λq:ω=>∃z d,q.heap[sb]?=μ (ο ((cs.setIfInBounds (f+4) d).setIfInBounds (f+3) z) t (0,0))/\cq q m z (lf.filter (λx=> !Q x))/\cq q m d (ll++lf.filter Q)/\ay w q (FT sb y p)/\z.ownBlock=y.ownBlock/\(d.ownBlock=p.ownBlock\/∀k,d.ownBlock=μ k->w.heap.size<=k));have bz:(λr q=>r=Ending.returned (τ #[])/\∃z d,q.heap[sb]?=μ (ο ((cs.setIfInBounds (f+4) d).setIfInBounds (f+3) z) t (0,0))/\cq q m z (lf.filter (λx=> !Q x))/\cq q m d (ll++lf.filter Q)/\ay w q (FT sb y p)/\z.ownBlock=y.ownBlock/\(d.ownBlock=p.ownBlock\/∀k,d.ownBlock=μ k->w.heap.size<=k))=λr q=>r=Ending.returned (τ #[])/\R q:=by rw[O]
 rw[bz];clear bz;replace O:=J O;obtain⟨c0,c1,c2,c3,c4,of,ol⟩:=H;have bb:sb<w.heap.size:=(bg.1 U).1;have d3:=(aZ U _).trans c3;have aC:oL w sb f m cs t y p lf (ll++(lf.take 0).filter Q) p w:=⟨by rw[uP c4];exact U,of,by simpa using ol,ay.rfl' _ _,φ rfl⟩
 obtain⟨G,l,rfl,dg,dk⟩:=of.gR;unfold maxLen at dk;replace⟨aC,X,U⟩:=cz aC X U;have et:=ia c3;have bM:=ia c4;obtain⟨n,B⟩:=exq lf.length;rw[<-B]at d3 aC X dg ax V of O;replace B:=J B;clear c0 c1 c2;go_enter func199,ntmps199;go_wp2;go_loopw [11] (λjv wr=>∃(j:Nat)(d:υ),j<=n/\jv=ι δ j/\oL w sb f m cs t (σ G n l) p lf (ll++(lf.take j).filter Q) d wr) (λjv _=>n-(intOf jv).toNat);case atStart=>exact⟨0,p,by omega,rfl,Z aC⟩
 case round=>
  obtain⟨j,d,hj,rfl,b⟩:=hrel;by_cases dn:j<n
  ·have d1:decide ((j:Int)<n)=ρ:=dT_;have i1:(j:Int)<n:=by omega
   have bj:j<lf.length:=by have:=Z B;omega
   obtain⟨g,rfl,b4⟩:=b.of.cell (by omega);obtain⟨y0,y1,y2,y3⟩:=b4 j bj;clear b4;rw[ep]at y0 y1 y2 y3;obtain⟨pa,D,E,br⟩:=jq _ (pI bj);have Y:Hid (ll++(lf.take (j+1)).filter Q=(ll++(lf.take j).filter Q)++(if Q (bP lf j)then[bP lf j]else[])):=J (by rw[I9 lf Q j bj,fm]);have hF:=J (λW(g1:γ wr W ν)=>Z X W j (b.aA.grow g1) dn);have b5:Hid ((ll++(lf.take j).filter Q).length<=60000000):=J (by
    have F:=oC Q (lf.take j);rw[ct]at F;rw[bF];omega)
   obtain⟨kt,b6⟩:=exq (bP lf j);obtain⟨qj,b7⟩:=exq (Q (bP lf j));rw[<-b7]at hF Y;rw[<-b6]at y0 y1 y2 y3 hF br Y;clear b6 b7;obtain⟨lj,b8⟩:=exq (ll++(lf.take j).filter Q);rw[<-b8]at b b5 Y;clear b8;obtain⟨⟨num,tk,st,ps⟩,sv⟩:=kt;simp only at y0 y1 y2 y3 br;subst br;unfold kA at hF;simp only at hF;obtain⟨W3,a0⟩:=exq (wr.alloc (ο #[ι η num,ι δ tk,ι δ st,σ pa D E] 325));have g3:γ wr W3 ν:=by rw[a0];exact aJ _ _ _
   have a1:W3.heap[wr.heap.size]?=μ (ο #[ι η num,ι δ tk,ι δ st,σ pa D E] 325 (0,0)):=by rw[a0];exact aO _ _
   obtain⟨b0,b1,b2,b3⟩:=mG a1;have ca:=J (Z hF W3 g3);replace a1:=J a1;clear hF;go_wp2_with fail;rw[<-a0];clear a0;go_wp2_with fail;apply(Z ca).mono;rintro e C⟨rfl,g4⟩;have ds:=aq g3 g4;have s:=b.gb ds;have a2:=bE (Z a1) g4;clear y0 y1 y2 y3 b0 b1 b2 b3 ca;cases qj
   ·have I:=Z Y;simp only[eN,eA,mW]at I;replace⟨I,s,b⟩:=cz I s b;go_wp2;go_roundw;case measure=>simp[intOf];omega
    case rel=>exact⟨j+1,d,by omega,by simp,by rw[Z I];exact Z s⟩
   obtain⟨b0,b1,b2,b3⟩:=mG a2;have a3:∀k,(Value.slice (μ ⟨g,0,ν⟩) n l).ownBlock=μ k->k<w.heap.size:=λk hk=>(of.lt k hk).2
   obtain⟨la,eu,dx,-⟩:=s.ol.gR;have ew:w.heap.size<=C.heap.size:=s.aA.size;have ey:sb<C.heap.size:=by omega
   have ez:wr.heap.size<C.heap.size:=(bg.1 a2).1;obtain⟨K,a4⟩:=exq ((C.alloc (ο #[ι η num,ι δ tk,ι δ st,σ pa D E] 325)).drew);have P:γ C K ν:=by rw[a4];exact aY (aJ _ _ _)
   have S:K.heap[C.heap.size]?=μ (ο #[ι η num,ι δ tk,ι δ st,σ pa D E] 325 (0,0)):=by rw[a4];exact aO C _
   have ch:=J (kN (cs:=kQ (⟨num,tk,st,ps⟩,σ pa D E)) S);have o5:=J (s.ol.au P);have cj:m<=K.heap.size:=by have:=P.size;omega
   have cp:sb<K.heap.size:=by have:=P.size;omega
   have e4:κ C ⟨sb,f+4,ν⟩=μ d:=by rw[aZ s.aV];exact cJ bM
   have f4:χ C ⟨sb,f+4,ν⟩=θ:=by simp[World.frozen?,s.aV]
   have cv:=J (bE s.aV P);have al:=s.apart bb a9 ax a3;have cw:Hid (∀(u:ω)(T:υ),cq u m T (lj++[(⟨num,tk,st,ps⟩,σ pa D E)])->γ K u d.ownBlock->(T.ownBlock=d.ownBlock\/T.ownBlock=μ K.heap.size)->oL w sb f m cs t (σ (μ ⟨g,0,ν⟩) n l) p lf (lj++[(⟨num,tk,st,ps⟩,σ pa D E)]) T (ζ u ⟨sb,f+4,ν⟩ T)):=J (λu T F A h3=>s.app P F A h3 bb a9 V ax a3);have cx:Hid (∀u,γ K u d.ownBlock->κ u ⟨sb,f+4,ν⟩=μ d/\χ u ⟨sb,f+4,ν⟩=θ):=J (λu g7=>by
    have cy:=(g7.block sb cp (λe=>al.1 e.symm)).trans (Z cv);exact⟨by rw[aZ cy];exact cJ bM,by simp[World.frozen?,cy]⟩)
   subst dx;rw[a4]at ch o5 cj cw cx;clear a4 P S cp cv;replace⟨s,b,a2⟩:=cz s b a2;go_upto_region 4 with fail;go_region_law ((refine Cv (by rfl) _ _ (by rfl) m _ lj (by rfl) (Z o5) _ _ (⟨num,tk,st,ps⟩,σ pa D E) ⟨_,_,_,rfl⟩ (by rfl) (Z ch) (by have:=Z b5;omega) cj ?_;intro a7 n7 c7 u o7 g7 h7;have dE:=J (Z cw u _ o7 g7 h7);obtain⟨z7,y7⟩:=Z cx u g7;clear o7 g7 h7));all_goals
    go_wp2_with fail
    have I:=Z Y
    simp only[dC]at I
    exact⟨⟨j+1,_,by omega,by simp,by rw[I];exact Z dE⟩,by simp[intOf];omega⟩
  have d1:decide ((j:Int)<n)=θ:=dF_;obtain rfl:j=n:=by omega
  have cC:lf.take j=lf:=by rw[Z B,pt]
  rw[cC]at b;have a3:∀k,(Value.slice G j l).ownBlock=μ k->k<w.heap.size:=λk hk=>(of.lt k hk).2
  have al:=b.apart bb a9 ax a3;have e3:κ wr ⟨sb,f+3,ν⟩=μ (σ G j l):=by
   rw[aZ b.aV,aN_,Z B];exact c3
  have f3:χ wr ⟨sb,f+3,ν⟩=θ:=by simp[World.frozen?,b.aV]
  have eC:w.heap.size<=wr.heap.size:=b.aA.size;by_cases hz:j=0
  ·subst hz;have dG:lf=[]:=kJ (Z B).symm;have hD:=J (zH G l N lb wr (by unfold maxLen;omega) eg);have a8:Hid (R (ζ wr ⟨sb,f+3,ν⟩ (σ G 0 l))):=J (by
    rw[Z O];have L:=aM (aD wr (μ sb)) ⟨sb,f+3,ν⟩ (σ G 0 l) (ψ rfl);refine⟨σ G 0 l,d,heap_set b.aV _,?_,b.ol.gb L (ψ al.1),(b.aA.trans (ay.of L)).mono (λk _ M=>M.elim id (λe=>φ (aQ e).symm)),rfl,b.new⟩
    have F:=b.of.gb L (ψ V);rw[dG]at F⊢;exact F)
   replace b:=J b;go_wp2_with fail;apply(Z hD).mono;rintro e v⟨rfl,rfl⟩;go_wp2_with fail;exact gD (fe rfl _ _ _) rfl ⟨rfl,Z a8⟩
  obtain⟨g,rfl,-⟩:=b.of.cell (by omega);obtain⟨ea,ee,bt⟩:=b.of.mid;have c9:sb≠g:=λe=>V (by rw[e];rfl)
  have ei:d.ownBlock≠μ g:=al.2 g rfl;have ej:j<=l/\l<=maxLen:=⟨by omega,by unfold maxLen;omega⟩
  have hD:=J (zG g j l m N sb lb lf wr (λh=>Q (bP lf h)) (λ_ W=>W.heap[sb]?=wr.heap[sb]? /\cq W m d (ll++lf.filter Q)/\ay w W (FT sb (σ (μ ⟨g,0,ν⟩) j l) p)/\wr.heap.size<=W.heap.size) ee ea (Z B) ej jq bt (by omega) c9 eg ⟨rfl,b.ol,b.aA,aP _⟩
   (λW W' h hi gg=>⟨(gg.block sb (by omega) (λe=>c9 (aQ e))).trans hi.1,hi.2.1.gb gg (ψ ei),(hi.2.2.1.trans (ay.of gg)).mono (λk _ M=>M.elim id (λe=>ψ (φ e))),bK hi.2.2.2 gg.size⟩)
   (λW h hi M=>(Z X W h hi.2.2.1 M).mono (λe W' A=>⟨A.1,⟨(A.2.block sb (by omega) (by simp)).trans hi.1,hi.2.1.au A.2,hi.2.2.1.grow A.2,bK hi.2.2.2 A.2.size⟩,dy A.2 _⟩)))
  have db:kp lf (λh=>Q (bP lf h)) j=lf.filter (λx=> !Q x):=by
   rw[zF lf _ Q (λi _=>rfl) j (by have:=Z B;omega),cC]
  rw[db]at hD;have a8:Hid (∀v,cq v m (σ (μ ⟨g,0,ν⟩) (lf.filter (λx=> !Q x)).length l) (lf.filter (λx=> !Q x))->v.heap[sb]?=wr.heap[sb]? ->cq v m d (ll++lf.filter Q)->ay w v (FT sb (σ (μ ⟨g,0,ν⟩) j l) p)->R (ζ v ⟨sb,f+3,ν⟩ (σ (μ ⟨g,0,ν⟩) (lf.filter (λx=> !Q x)).length l))/\κ v ⟨sb,f+3,ν⟩=μ (σ (μ ⟨g,0,ν⟩) j l)/\χ v ⟨sb,f+3,ν⟩=θ):=J (λv F A h3 h4=>by
   have S:=A.trans b.aV;have L:=aM (aD v (μ sb)) ⟨sb,f+3,ν⟩ (σ (μ ⟨g,0,ν⟩) (lf.filter (λx=> !Q x)).length l) (ψ rfl);refine⟨?_,by rw[aZ S,<-aZ b.aV];exact e3,by simp[World.frozen?,S]⟩
   rw[Z O];exact⟨σ (μ ⟨g,0,ν⟩) (lf.filter (λx=> !Q x)).length l,d,heap_set S _,F.gb L (ψ V),h3.gb L (ψ al.1),(h4.trans (ay.of L)).mono (λk _ M=>M.elim id (λe=>φ (aQ e).symm)),rfl,b.new⟩)
  replace⟨b,bt⟩:=bD b bt;obtain⟨lk,de⟩:=exq (lf.filter (λx=> !Q x));rw[<-de]at hD a8;clear db de;go_wp2_with fail;apply(Z hD).mono;rintro e v⟨rfl,o5,h5,l5,C5,-⟩;obtain⟨bx,e5,f5⟩:=Z a8 v o5 h5 l5 C5;replace bx:=J bx;clear o5 h5 l5 C5;go_wp2_with fail;exact gD (fe rfl _ _ _) rfl ⟨rfl,Z bx⟩
structure rT(w b:ω)(sb:Nat)(t:TypeId)(cs a:Array υ)(c:Nat)(d e f g:υ):Prop where
 aV:b.heap[sb]?=μ (ο a t (0,0))
 sz:a.size=cs.size
 out:∀i,i<c\/c+5<=i->a[i]?=cs[i]?
 aA:ay w b (FT sb d e)
 Ja:f.ownBlock=d.ownBlock\/∀k,f.ownBlock=μ k->w.heap.size<=k
 CA:g.ownBlock=e.ownBlock\/∀k,g.ownBlock=μ k->w.heap.size<=k
def qP(w b:ω)(sb:Nat)(t:TypeId)(cs:Array υ)(c g:Nat)(d h:υ)(lf ll:List Kt)(count tick wait:Int):Prop:=
 ∃e a f,rT w b sb t cs e c d h a f/\iL b g e c a f lf ll count tick wait/\a.ownBlock=d.ownBlock
def qb(sb:Nat)(a b:υ):Prop:=a.ownBlock≠μ sb/\b.ownBlock≠μ sb/\∀k,a.ownBlock=μ k->b.ownBlock≠μ k
def Jb(w:ω)(sb d p:Nat)(cs:Array υ)(t:TypeId)(s l:υ)(lf ll:List Kt)(count tick wait:Int)(y:w.heap[sb]?=μ (ο cs t (0,0)))(H:iL w p cs d s l lf ll count tick wait)(de:p<=w.heap.size)(b0:qb sb s l)(b3:lf.length<=1000000/\ll.length<=50000000)(jq:∀x∈lf,∃a n c,x.2=σ a n c)(ht:0<=tick/\tick<1000000000000)(S:∀x∈lf,0<=x.1.tick/\x.1.tick<=1000000000000)(hw:0<=wait/\wait<=1000):
 Calls prog 156 #[π (μ ⟨sb,d,ν⟩)] w λr q=>r=ξ (τ #[])/\(((∃x∈lf,wait<=tick+1-x.1.tick)/\qP w q sb t cs d p s l [] (ll++lf) count (tick+1) (min (2*wait) 32))\/((¬∃x∈lf,wait<=tick+1-x.1.tick)/\qP w q sb t cs d p s l lf ll count (tick+1) wait)):=by
 obtain⟨R,T⟩:=exq (λq:ω=>(((∃x∈lf,wait<=tick+1-x.1.tick)/\qP w q sb t cs d p s l [] (ll++lf) count (tick+1) (min (2*wait) 32))\/((¬∃x∈lf,wait<=tick+1-x.1.tick)/\qP w q sb t cs d p s l lf ll count (tick+1) wait)));have a2:(λ(r:Ending) q=>r=ξ (τ #[])/\(((∃x∈lf,wait<=tick+1-x.1.tick)/\qP w q sb t cs d p s l [] (ll++lf) count (tick+1) (min (2*wait) 32))\/((¬∃x∈lf,wait<=tick+1-x.1.tick)/\qP w q sb t cs d p s l lf ll count (tick+1) wait)))=λr q=>r=ξ (τ #[])/\R q:=by rw[T]
 rw[a2];clear a2;obtain⟨c0,c1,c2,c3,c4,of,ol⟩:=H;obtain⟨U,V,b4⟩:=b0;have dn:sb<w.heap.size:=(bg.1 y).1;obtain⟨j,D⟩:=exq (ζ w ⟨sb,d+1,ν⟩ (ι δ (tick+1)));have E:γ w j (μ sb):=by rw[D];exact aM (aD _ _) _ _ (ψ rfl)
 have u:j.heap[sb]?=μ (ο (cs.setIfInBounds (d+1) (ι δ (tick+1))) t (0,0)):=by rw[D];exact heap_set y _
 obtain⟨v,L⟩:=exq (cs.setIfInBounds (d+1) (ι δ (tick+1)));rw[<-L]at u;have z:∀i,i≠d+1->v[i]?=cs[i]? :=λi h=>by rw[L,aN_]
 have f:iL j p v d s l lf ll count (tick+1) wait:=⟨by rw[z _ (by omega)];exact c0,by rw[L];exact cJ (ia c1),by rw[z _ (by omega)];exact c2,by rw[z _ (by omega)];exact c3,by rw[z _ (by omega)];exact c4,of.gb E (ψ U),ol.gb E (ψ V)⟩
 have a3:v.size=cs.size:=by rw[L];simp
 have ds:w.heap.size<=j.heap.size:=E.size;have e1:=(aZ u _).trans f.c1;have e2:=(aZ u _).trans f.c2;have e3:=(aZ u _).trans f.c3;obtain⟨A,M,rfl,b5,b6⟩:=of.gR;have hC:=J (λb(ha:0<lf.length->A=μ ⟨b,0,ν⟩)(b8:∀i,i<lf.length->κ j ⟨b,0+i*4,ν⟩=μ (ι η (bP lf i).1.num)/\κ j ⟨b,0+i*4+1,ν⟩=μ (ι δ (bP lf i).1.tick)/\κ j ⟨b,0+i*4+2,ν⟩=μ (ι δ (bP lf i).1.st)/\κ j ⟨b,0+i*4+3,ν⟩=μ (bP lf i).2)=>Cp A b 0 lf.length M 198 #[π (μ ⟨sb,d,ν⟩)] #[] j (λi=>wait<=tick+1-(bP lf i).1.tick) (λi=>ι η (bP lf i).1.num) (λi=>ι δ (bP lf i).1.tick) (λi=>ι δ (bP lf i).1.st) (λi=>(bP lf i).2) ha ⟨b5,b6⟩ (λ_ _=>by kernel_rfl)
  (λW i g hi=>by obtain⟨p0,p1,p2,p3⟩:=b8 i hi;exact⟨gC_ g p0,gC_ g p1,gC_ g p2,gC_ g p3⟩)
  (λW i g hi=>by
    apply(I6 W sb d (tick+1) wait (gC_ g e1) (gC_ g e2) (bP lf i) (by omega) (S _ (pI hi))).mono;rintro e W'⟨rfl,g'⟩;exact⟨oJ Iff.rfl,g'⟩))
 obtain⟨cb,a8,a9⟩:∃b,(0<lf.length->A=μ ⟨b,0,ν⟩)/\(∀i,i<lf.length->κ j ⟨b,0+i*4,ν⟩=μ (ι η (bP lf i).1.num)/\κ j ⟨b,0+i*4+1,ν⟩=μ (ι δ (bP lf i).1.tick)/\κ j ⟨b,0+i*4+2,ν⟩=μ (ι δ (bP lf i).1.st)/\κ j ⟨b,0+i*4+3,ν⟩=μ (bP lf i).2):=by
  by_cases hz:0<lf.length;obtain⟨b,e,h⟩:=f.of.cell hz;exact⟨b,λ_=>e,h⟩
  exact⟨0,λh=>absurd h hz,λi hi=>by omega⟩
 have cj:=J (Z hC cb a8 a9);clear hC a8 a9;have bj:Hid ((∃i,i<lf.length/\wait<=tick+1-(bP lf i).1.tick)↔∃x∈lf,wait<=tick+1-x.1.tick):=J (by
  constructor;rintro⟨i,hi,h⟩;exact⟨_,pI hi,h⟩
  ·rintro⟨x,S,h⟩;obtain⟨i,hi,rfl⟩:=j8.1 S;exact⟨i,hi,by simpa [bP,List.getD,hi]using h⟩)
 have cp:=J (λW(g:γ j W ν)=>Cz W sb d p 200 #[] v t (σ A lf.length M) l lf ll count (tick+1) wait (λ_=>ρ) (bE u g) ⟨f.c0,f.c1,f.c2,f.c3,f.c4,f.of.au g,f.ol.au g⟩ (by have:=g.size;omega) U V b4 b3 jq (λ_ _=>by kernel_rfl) (λW h _ _=>by rw[Array.append_empty];exact I7 W _));have dG:IntKind.i64.wrap (tick+1)=tick+1:=wI_;have d1:=(aZ y _).trans c1;have f1:χ w ⟨sb,d+1,ν⟩=θ:=fZ_ y;have cv:Hid (∀W,γ j W ν->(¬∃x∈lf,wait<=tick+1-x.1.tick)->R W):=J (λW g N=>by
  rw[T];refine ψ ⟨N,v,σ A lf.length M,l,⟨bE u g,a3,λi hi=>z i (by omega),((ay.of E).trans (ay.of g)).mono (λk _ m=>m.elim (λe=>φ (aQ e).symm) (λe=>by cases e)),φ rfl,φ rfl⟩,⟨f.c0,f.c1,f.c2,f.c3,f.c4,f.of.au g,f.ol.au g⟩,rfl⟩)
 replace⟨u,y,D⟩:=cz u y D;go_enter func156,ntmps156;go_upto_region 1 with fail;rw[<-Z D];go_wp2_with fail;apply(Z cj).mono;rintro e X⟨⟨b,rfl,O⟩,F⟩;cases b
 ·have N:¬∃x∈lf,wait<=tick+1-x.1.tick:=λh=>by have:=O.2 ((Z bj).2 h);cases this
  have G:=J (Z cv X F N);clear O N;go_wp2_with fail;exact df (fe rfl _ _ _) rfl ⟨rfl,Z G⟩
 have cw:Hid (∃x∈lf,wait<=tick+1-x.1.tick):=J ((Z bj).1 (O.1 rfl));clear O;go_wp2_with fail;apply(Z cp X F).mono;rintro e P⟨rfl,br,Y,B,al,ax,C3,Q,aC⟩;have bx:lf.filter (λ_=> !ρ)=[]:=by simp
 have bz:lf.filter (λ_=>ρ)=lf:=by simp
 rw[bx]at al;rw[bz]at ax;obtain⟨a0,C⟩:=exq ((v.setIfInBounds (d+4) Y).setIfInBounds (d+3) br);rw[<-C]at B;have I:∀i,i≠d+3->i≠d+4->a0[i]?=v[i]? :=λi h1 h2=>by rw[C,aN_,aN_]
 have k2:κ P ⟨sb,d+2,ν⟩=μ (ι δ wait):=by rw[aZ B,I _ (by omega) (by omega)];exact f.c2
 have f2:χ P ⟨sb,d+2,ν⟩=θ:=fZ_ B;have ej:IntKind.i64.wrap (2*wait)=2*wait:=wI_;have cx:v.size=a0.size:=by rw[C];simp
 have cy:=ia f.c4;have ek:=ia f.c3;have G:Hid (R (ζ P ⟨sb,d+2,ν⟩ (ι δ (min (2*wait) 32)))):=J (by
  rw[T];have gs:=aM (aD P (μ sb)) ⟨sb,d+2,ν⟩ (ι δ (min (2*wait) 32)) (ψ rfl);have cC:ay w X (FT sb (σ A lf.length M) l):=((ay.of E).trans (ay.of F)).mono (λk _ m=>m.elim (λe=>φ (aQ e).symm) (λe=>by cases e));have c9:Y.ownBlock≠μ sb:=by
   obtain e|e:=aC
   rw[e];exact V;intro e2;have:=e _ e2;have:=F.size;omega
  refine φ ⟨Z cw,a0.setIfInBounds (d+2) (ι δ (min (2*wait) 32)),br,Y,⟨heap_set B _,by simp[<-cx,a3],λi hi=>?_,?_,φ Q,?_⟩,⟨?_,?_,?_,?_,?_,al.gb gs (ψ (by rw[Q];exact U)),ax.gb gs (ψ c9)⟩,Q⟩;rw[aN_,I _ (by omega) (by omega),z _ (by omega)];refine((cC.trans C3).trans (ay.of gs)).mono (λk _ m=>?_);obtain(m|m)|m:=m
  exact m;exact m;exact φ (aQ m).symm;exact aC.imp id (λe k hk=>by have:=e k hk;have:=F.size;omega);rw[aN_,I _ (by omega) (by omega)];exact f.c0;rw[aN_,I _ (by omega) (by omega)];exact f.c1;exact cJ;rw[aN_,C];exact cJ (by simp;omega)
  ·rw[aN_,C,aN_];exact cJ cy)
 obtain⟨mw,K⟩:=exq (min (2*wait) 32);rw[<-K]at G;replace K:=J K;clear I C al ax C3 Q aC bx bz;replace B:=J B;by_cases eo:32<2*wait
 ·obtain rfl:mw=32:=by rw[Z K];omega
  go_wp2_with fail;exact gD (fe rfl _ _ _) rfl ⟨rfl,Z G⟩
 obtain rfl:mw=2*wait:=by rw[Z K];omega
 go_wp2_with fail;exact gD (fe rfl _ _ _) rfl ⟨rfl,Z G⟩
def bp(l:List Rg)(n:Int):Bool:=l.any (λr=>decide (r.lo<=n)&&decide (n<=r.hi))
def xB(l:List Rg)(n:Int):bp l n=ρ↔∃i,i<l.length/\(ao l i).lo<=n/\n<=(ao l i).hi:=by
 unfold bp;rw[oG];constructor;rintro⟨r,a,h⟩;obtain⟨i,hi,rfl⟩:=j8.1 a;refine⟨i,hi,?_⟩
 simpa [ao,List.getD,hi]using h;rintro⟨i,hi,h⟩;exact⟨_,kh hi,by simpa using h⟩
def s8{p:Prop}{e:Ending}(h:dU p e)(a:B=ρ↔p):e=ξ (β B):=by
 obtain⟨c,rfl,b⟩:=h;have:c=B:=by rw[Bool.eq_iff_iff,b,a]
 rw[this]
def Jc(W:ω)(c:Nat)(y:Rg)(n:Int)(h0:κ W ⟨c,0,ν⟩=μ (ι η n)):
 Calls prog 301 #[ε #[ι η y.lo,ι η y.hi],π (μ ⟨c,0,ν⟩)] W λe i=>dU (y.lo<=n/\n<=y.hi) e/\γ W i ν:=by
 obtain⟨a,d⟩:=y;have j:c<W.heap.size:=eZ W _ h0;obtain⟨R,b⟩:∃R:Prop,R=(a<=n/\n<=d):=⟨_,rfl⟩
 have g:((⟨a,d⟩:Rg).lo<=n/\n<=(⟨a,d⟩:Rg).hi)=R:=b.symm;rw[g];clear g;replace b:=J b;go_enter func301,ntmps301;by_cases f:a<=n
 ·have d1:decide (a<=n)=ρ:=eT f;go_wp2;go_ret;exact⟨oJ (by rw[Z b];exact⟨λh=>⟨f,h⟩,λh=>h.2⟩),aJ _ _ _⟩
 have d1:decide (a<=n)=θ:=fc f;go_wp2;go_ret;exact⟨mC (by rw[Z b];exact λh=>by have:=h.1;omega),aJ _ _ _⟩
def Jd(a:Option Addr)(n cap:Nat)(l:List Rg)(num:Int)(w:ω)(hs:bq w a n cap l):
 Calls prog 288 #[σ a n cap,ι η num] w λe u=>e=ξ (β (bp l num))/\γ w u ν:=by
 obtain⟨c,d⟩:=exq (w.alloc (ο #[ι η num] 30));have k:γ w c ν:=by rw[d];exact aJ _ _ _
 have f:c.heap[w.heap.size]?=μ (ο #[ι η num] 30 (0,0)):=by rw[d];exact aO _ _
 have v:κ c ⟨w.heap.size,0,ν⟩=μ (ι η num):=by simp[World.cell?,f]
 have m:=hs.au k;obtain⟨b,o,j⟩:∃b o,0<n->a=μ ⟨b,o,ν⟩:=by
  by_cases x:0<n;obtain⟨-,A,B,-,C|⟨b,o,rfl,-⟩⟩:=id hs;omega;exact⟨b,o,λ_=>rfl⟩
  exact⟨0,0,λh=>absurd h x⟩
 have p:n=l.length:=hs.2.1;have y:=J (IW a b o n cap 301 #[] #[π (μ ⟨w.heap.size,0,ν⟩)] c (λi=>(ao l i).lo<=num/\num<=(ao l i).hi) (λi=>ι η (ao l i).lo) (λi=>ι η (ao l i).hi) j ⟨hs.2.2.1,hs.2.2.2.1⟩ (λ_ _=>by kernel_rfl)
  (λW i g hi=>by
    have q:=m.au g;rw[j (by omega)]at q;exact q.cell i (by omega))
  (λW i g hi=>Jc W w.heap.size (ao l i) num (gC_ g v)))
 have r:Hid (bp l num=ρ↔∃i,i<n/\(ao l i).lo<=num/\num<=(ao l i).hi):=J (by rw[p];exact xB l num);obtain⟨nb,s⟩:=exq (bp l num);rw[<-s]at r⊢;clear s p hs m j;replace f:=J f;go_enter func288,ntmps288;go_wp2_with fail;rw[<-d];clear d;apply(Z y).mono;rintro e D⟨t,z⟩;obtain rfl:=s8 t (Z r);clear t;go_wp2;go_ret;exact⟨rfl,aq k z⟩
def CB(w:ω)(B:Nat)(a:Option Addr)(n cap:Nat)(l:List Rg)(x:Kt)(h0:κ w ⟨B,0,ν⟩=μ (σ a n cap))(hs:bq w a n cap l):
 Calls prog 287 #[ε (kA x),π (μ ⟨B,0,ν⟩)] w λe h=>e=ξ (β (bp l x.1.num))/\γ w h ν:=by
 obtain⟨⟨num,tk,st,ps⟩,i⟩:=x;unfold kA;simp only
 have k:B<w.heap.size:=eZ w _ h0;obtain⟨c,b⟩:=exq (w.alloc (ο #[ι η num,ι δ tk,ι δ st,i] 325));have d:γ w c ν:=by rw[b];exact aJ _ _ _
 have f:=J (Jd a n cap l num c (hs.au d));obtain⟨nb,g⟩:=exq (bp l num);rw[<-g]at f⊢;clear g;go_enter func287,ntmps287;go_wp2_with fail;rw[<-b];clear b;apply(Z f).mono;rintro e m⟨rfl,j⟩;go_wp2;go_ret;exact⟨rfl,aq d j⟩
def Je(w:ω)(B:Nat)(high:Int)(x:Kt)(h0:κ w ⟨B,0,ν⟩=μ (ι η high))(b:0<=x.1.num/\x.1.num<=4611686018427387903):
 Calls prog 290 #[ε (kA x),π (μ ⟨B,0,ν⟩)] w λe a=>e=ξ (β (decide (x.1.num+3<=high)))/\γ w a ν:=by
 obtain⟨⟨num,tk,st,ps⟩,c⟩:=x;unfold kA;simp only at *;have d:B<w.heap.size:=eZ w _ h0;have f:IntKind.u64.wrap (num+3)=num+3:=by rw[fW];omega
 go_enter func290,ntmps290;go_wp2;go_ret;exact⟨rfl,by repeat(first|exact aD _ _|apply dv|apply aY|apply bk)⟩
def pA(p:Pc):Array υ:= #[ι η p.x.lo,ι η p.x.hi,β p.e,β p.g]
def Jf(w:ω)(sb n k r s:Nat)(Q lc:Array υ)(x:Kt)(q:Bool)(St:List (Int×Pc)->ω->Prop)(l:List (Int×Pc))(pa:Option Addr)(c t:Nat)(S:x.2=σ pa c t)(hp:kP w pa c t x.1.ps)(a0:∀y,pa=μ y->y.block≠sb)(bb:sb<w.heap.size)
 (T:κ w ⟨n,0,ν⟩=μ (.func (.func r) #[] Q)) (U:κ w ⟨k,0,ν⟩=μ (.func (.func s) #[] lc)) (bj:n≠sb) (a1:k≠sb)
 (en:∀args w,(callFunc r args).run prog w=.ok (.enter r args) w) (ec:∀args w,(callFunc s args).run prog w=.ok (.enter s args) w)
 (V:∀W,γ w W ν->Calls prog r (#[ε (kA x)]++Q) W (λe h=>e=ξ (β q)/\γ W h ν))
 (u:∀(W h:ω)(a:List (Int×Pc)),St a W->γ W h ν->St a h) (h0:St l w)
 (v:∀(W:ω)(a:List (Int×Pc))(p:Pc),St a W->p∈x.1.ps->q=ρ->Calls prog s (#[ι δ x.1.st,ε (pA p)]++lc) W (λe h=>e=ξ (τ #[])/\St (a++[(x.1.st,p)]) h/\γ W h (μ sb))):
 Calls prog 302 #[ε (kA x),π (μ ⟨n,0,ν⟩),π (μ ⟨k,0,ν⟩)] w λe d=>e=ξ (β q)/\St (l++if q then x.1.ps.map (λp=>(x.1.st,p))else[]) d/\γ w d (μ sb):=by
 obtain⟨R,j⟩:∃R:Bool->ω->Prop,R=λb d=>St (l++if b then x.1.ps.map (λp=>(x.1.st,p))else[]) d/\γ w d (μ sb):=⟨_,rfl⟩
 have X:(λ(e:Ending) d=>e=ξ (β q)/\St (l++if q then x.1.ps.map (λp=>(x.1.st,p))else[]) d/\γ w d (μ sb))=λe d=>e=ξ (β q)/\R q d:=by rw[j]
 rw[X];clear X;replace j:=J j;obtain⟨⟨num,tk,st,ps⟩,sv⟩:=x;simp only at S hp v j;subst S;unfold kA at *;simp only at *;have br:n<w.heap.size:=eZ w _ T;have bt:k<w.heap.size:=eZ w _ U;obtain⟨K,z⟩:=exq (w.alloc (ο #[ι η num,ι δ tk,ι δ st,σ pa c t] 325));have A:γ w K ν:=by rw[z];exact aJ _ _ _
 have B:K.heap[w.heap.size]?=μ (ο #[ι η num,ι δ tk,ι δ st,σ pa c t] 325 (0,0)):=by rw[z];exact aO _ _
 obtain⟨b0,b1,b2,b3⟩:=mG B;have Y:=gC_ A T;have m1:=gC_ A U;have a2:=J (V K A);replace⟨B,u,h0,v⟩:=fE B u h0 v;clear V;go_enter func302,ntmps302;go_upto_region 1 with fail;rw[<-z];clear z;go_wp2_with fail;apply(Z a2).mono;rintro e L⟨rfl,C⟩;have D:=aq A C;have al:=J (Z u _ _ _ (Z h0) D);cases q
 ·have M:Hid (R θ L):=J (by rw[Z j];exact⟨by simpa using Z al,dy D _⟩);go_wp2;go_ret;exact⟨rfl,Z M⟩
 have E:=bE (Z B) C;have bx:w.heap.size<L.heap.size:=(bg.1 E).1;obtain⟨d0,d1,d2,d3⟩:=mG E;have F:=hp.au D;have n0:=gC_ C Y;have n1:=gC_ C m1;have G:c=ps.length:=hp.2.1;have bz:=hp.2.2.1;have a3:=hp.2.2.2.1;unfold maxLen at a3;have a4:w.heap.size≠sb:=by omega
 replace⟨E,G⟩:=bD E G;clear b0 b1 b2 b3 Y m1 hp;replace F:=J F;go_wp2;go_loopw [14] (λN wr=>∃i:Nat,i<=c/\N=ι δ i/\St (l++(ps.take i).map (λp=>(st,p))) wr/\γ L wr (μ sb)) (λN _=>c-(intOf N).toNat);case atStart=>exact⟨0,by omega,rfl,by simpa using Z al,aD _ _⟩
 case round=>
  obtain⟨i,hi,rfl,m,f⟩:=hrel;by_cases bM:i<c
  ·have dl:decide ((i:Int)<c)=ρ:=dT_;have i1:(i:Int)<c:=by omega
   have O:i<ps.length:=by have:=Z G;omega
   obtain⟨-,-,-,-,hz|⟨b,o,rfl,-⟩⟩:=id (Z F);omega;have H:b≠sb:=a0 ⟨b,o,ν⟩ rfl;obtain⟨y0,y1,y2,y3⟩:=(Z F).cell i O;have k0:=f.cell y0 (λe=>H (aQ e));have k1:=f.cell y1 (λe=>H (aQ e));have k2:=f.cell y2 (λe=>H (aQ e));have k3:=f.cell y3 (λe=>H (aQ e));have e2:=f.cell d2 (λe=>a4 (aQ e));have e1:=f.cell n1 (λe=>a1 (aQ e));have b4:=f.size;have b5:k<wr.heap.size:=by omega
   have b6:w.heap.size<wr.heap.size:=by omega
   have ax:Hid ((ps.take (i+1)).map (λp=>(st,p))=(ps.take i).map (λp=>(st,p))++[(st,fZ ps i)]):=J (by rw[pS,xz O];simp);have I:=J (λW(g:γ wr W ν)=>Z v W _ (fZ ps i) (Z u _ _ _ m g) (xA O) (by trivial));obtain⟨p,aC⟩:=exq (fZ ps i);rw[<-aC]at k0 k1 k2 k3 I ax;clear aC;obtain⟨⟨xl,xh⟩,pe,pg⟩:=p;simp only at k0 k1 k2 k3;unfold pA at I;simp only at I;clear y0 y1 y2 y3;replace m:=J m;have gx:=aJ wr (ο #[ι η xl,ι η xh,β pe,β pg] 377) ν;have a8:=J (Z I _ gx);go_wp2_with fail;apply(Z a8).mono;rintro e w4⟨rfl,P,g4⟩;replace P:=J P;have a9:=aq f (aq (dy gx _) g4);go_wp2;go_roundw;case measure=>simp[intOf];omega
   case rel=>exact⟨i+1,by omega,by simp,by rw[Z ax,<-fm];exact Z P,a9⟩
  have dl:decide ((i:Int)<c)=θ:=dF_;obtain rfl:i=c:=by omega
  have M:Hid (R ρ wr):=J (by
   rw[Z j];rw[Z G,pt]at m;exact⟨by simpa using m,aq (dy D _) f⟩)
  go_wp2;go_ret;exact⟨rfl,Z M⟩
def lI(Q:Kt->Bool)(l:List Kt):List (Int×Pc):=l.flatMap (λx=>if Q x then x.1.ps.map (λp=>(x.1.st,p))else[])
def Jg(Q:Kt->Bool)(l:List Kt)(j:Nat)(a:j<l.length):lI Q (l.take (j+1))=lI Q (l.take j)++(if Q (bP l j)then(bP l j).1.ps.map (λp=>((bP l j).1.st,p))else[]):=by
 unfold lI;rw[pS,oK a,Option.toList_some,wF];simp
def LT(sb:Nat)(v:υ)(k:Nat):Prop:=k=sb\/v.ownBlock=μ k
def Jh(w:ω)(sb G m q:Nat)(t lc:Array υ)(az:List Kt)(Q:Kt->Bool)(St:List (Int×Pc)->ω->Prop)(z:List (Int×Pc))(v:υ)(A:cq w G v az)(cC:sb<w.heap.size)(a9:v.ownBlock≠μ sb)(S:Nat->Prop)(U:∀k,LT sb v k->S k)(M:nV w S az)
 (en:∀args w,(callFunc m args).run prog w=.ok (.enter m args) w) (ec:∀args w,(callFunc q args).run prog w=.ok (.enter q args) w)
 (V:∀(W:ω)(x:Kt),ay w W (LT sb v)->x∈az->Calls prog m (#[ε (kA x)]++t) W (λe b=>e=ξ (β (Q x))/\γ W b ν))
 (B:∀(W b:ω)(a:List (Int×Pc))(r:Option Nat),St a W->γ W b r->(r=ν\/r=v.ownBlock)->St a b) (h0:St z w)
 (X:∀(W:ω)(a:List (Int×Pc))(x:Kt)(p:Pc),St a W->x∈az->p∈x.1.ps->Q x=ρ->Calls prog q (#[ι δ x.1.st,ε (pA p)]++lc) W (λe b=>e=ξ (τ #[])/\St (a++[(x.1.st,p)]) b/\γ W b (μ sb))):
 Calls prog 289 #[v,.func (.func m) #[] t,.func (.func q) #[] lc] w λe j=>∃d,e=ξ d/\cq j G d (az.filter (λx=> !Q x))/\St (z++lI Q az) j/\d.ownBlock=v.ownBlock/\ay w j (LT sb v):=by
 obtain⟨R,u⟩:∃R:Ending->ω->Prop,R=λe j=>∃d,e=ξ d/\cq j G d (az.filter (λx=> !Q x))/\St (z++lI Q az) j/\d.ownBlock=v.ownBlock/\ay w j (LT sb v):=⟨_,rfl⟩
 rw[<-u];obtain⟨l,C⟩:=exq ((w.alloc (ο #[.func (.func m) #[] t] 326)).alloc (ο #[.func (.func q) #[] lc] 386));have s:γ w l ν:=by rw[C];exact bk (aJ _ _ _) _
 have bb:(w.alloc (ο #[.func (.func m) #[] t] 326)).heap.size=w.heap.size+1:=by simp
 have N:l.heap[w.heap.size]?=μ (ο #[.func (.func m) #[] t] 326 (0,0)):=by
  rw[C];exact bE (aO _ _) (aJ _ _ ν)
 have H:l.heap[w.heap.size+1]?=μ (ο #[.func (.func q) #[] lc] 386 (0,0)):=by
  rw[C,<-bb];exact aO _ _
 have Y:w.heap.size+1<l.heap.size:=(bg.1 H).1;have bj:∀k,v.ownBlock=μ k->k<w.heap.size:=λk e=>(A.lt k e).2
 have al:∀k,w.heap.size<=k->¬LT sb v k:=λk hk h=>by
  obtain h|h:=h
  omega;have:=bj k h;omega
 obtain⟨va,D,ax,bt,aC⟩:=A.gR;have O:Hid (Calls prog 236 #[v,.func (.func 302) #[] #[π (μ ⟨w.heap.size,0,ν⟩),π (μ ⟨w.heap.size+1,0,ν⟩)]] l R):=by
  subst ax;by_cases hz:az=[]
  subst hz;refine J ((zH va D _ _ l aC (λ_ _=>by kernel_rfl)).mono ?_);rintro e j⟨rfl,rfl⟩;rw[u];exact⟨_,rfl,A.au s,by simpa [lI]using B _ _ _ ν h0 s (φ rfl),rfl,(ay.of s).mono (λk _ e=>by cases e)⟩
  have bx:=pq.2 hz;obtain⟨g,rfl,-⟩:=A.cell bx;obtain⟨bz,bM,b0⟩:=(A.au s).mid;have b3:sb≠g:=λe=>a9 (by rw[e];rfl)
  have O:=zG g az.length D G 302 sb #[π (μ ⟨w.heap.size,0,ν⟩),π (μ ⟨w.heap.size+1,0,ν⟩)] az l (λh=>Q (bP az h)) (λh W=>St (z++lI Q (az.take h)) W/\ay l W (LT sb (σ (μ ⟨g,0,ν⟩) az.length D))) bM bz rfl ⟨bt,aC⟩ (λx hx=>by obtain⟨a,n,c,e,-⟩:=M x hx;exact⟨a,n,c,e⟩) b0 (by omega) b3 (λ_ _=>by kernel_rfl) ⟨by simpa [lI]using B _ _ _ ν h0 s (φ rfl),ay.rfl' _ _⟩
   (λW b h hi I=>⟨B _ _ _ _ hi.1 I (ψ rfl),(hi.2.trans (ay.of I)).mono (λk _ f=>f.elim id (λe=>ψ e))⟩)
   (λW h hi f=>by
     have P:=pI f;obtain⟨pa,pn,pp,b5,b6,T⟩:=M _ P;have a3:ay w W (LT sb (σ (μ ⟨g,0,ν⟩) az.length D)):=((ay.of s).trans hi.2).mono (λk _ f=>f.elim (λe=>by cases e) id);have b7:kP W pa pn pp (bP az h).1.ps:=b6.cM (λ_ y K=>a3.block _ (T y K).2 (λht=>(T y K).1 (U _ ht)));have db:w.heap.size+1<W.heap.size:=cu Y hi.2.size;have ca:=(hi.2.block w.heap.size (by omega) (al _ (aP _))).trans N;have ch:=(hi.2.block (w.heap.size+1) Y (al _ (by omega))).trans H;refine(Jf W sb w.heap.size (w.heap.size+1) m q t lc (bP az h) (Q (bP az h)) (λa b=>St a b/\ay l b (LT sb (σ (μ ⟨g,0,ν⟩) az.length D))) (z++lI Q (az.take h)) pa pn pp b5 b7 (λy K=>λe=>(T y K).1 (U _ (φ e))) (by omega) (by simp[World.cell?,ca]) (by simp[World.cell?,ch]) (by omega) (by omega) en ec
      (λb g'=>V b _ (a3.grow g') P) (λWa Wb a E a8=>⟨B _ _ _ ν E.1 a8 (φ rfl),E.2.grow a8⟩) hi
      (λWa a p E cv hq=>(X Wa a _ p E.1 P cv hq).mono (λe Wb L=>⟨L.1,⟨L.2.1,(E.2.trans (ay.of L.2.2)).mono (λk _ f=>f.elim id (λe=>φ (aQ e).symm))⟩,L.2.2⟩))).mono ?_
     rintro e b⟨rfl,hs,I⟩;exact⟨rfl,⟨by rw[Jg Q az h f,<-fm];exact hs.1,hs.2⟩,I⟩)
  refine J (O.mono ?_);have cx:kp az (λh=>Q (bP az h)) az.length=az.filter (λx=> !Q x):=by
   rw[zF az _ Q (λi _=>rfl) _ (aP _),pt]
  rw[cx];rintro e j⟨rfl,ho,hs,cy⟩;rw[pt]at hs;rw[u];exact⟨_,rfl,ho,hs,rfl,((ay.of s).trans cy).mono (λk _ f=>f.elim (λe=>by cases e) id)⟩
 clear V B X h0 M;replace u:=J u;subst ax;replace⟨N,H⟩:=bD N H;go_enter func289,ntmps289;go_wp2_with fail;rw[<-C];clear C;apply(Z O).mono;rintro e w2 F;obtain⟨d,rfl⟩:∃d,e=ξ d:=by rw[Z u]at F;obtain⟨d,h,-⟩:=F;exact⟨d,h⟩
 replace F:=J F;go_wp2_with fail;exact Z F
def lW(W c:ω)(sb b:Nat):Prop:=∀cs t,W.heap[sb]?=μ (ο cs t (0,0))->∃a,c.heap[sb]?=μ (ο a t (0,0))/\a.size=cs.size/\∀i,i<b\/b+5<=i->a[i]?=cs[i]?
def lY(W c:ω)(sb b:Nat):Prop:=∀cs t,W.heap[sb]?=μ (ο cs t (0,0))->∃a,c.heap[sb]?=μ (ο a t (0,0))/\a.size=cs.size/\∀i,b<=i->i<b+5->a[i]?=cs[i]?
def lW.of(h:w.heap[n]?=W.heap[n]?):lW W w n k:=λcs t a=>⟨cs,h.trans a,rfl,λ_ _=>rfl⟩
structure kR(w W:ω)(sb e f:Nat)(t:TypeId)(a b c d:υ)(lf ll:List Kt)(count tick wait:Int)(St:List (Int×Pc)->ω->Prop)(g:List (Int×Pc)):Prop where
 fl:∃cs,W.heap[sb]?=μ (ο cs t (0,0))/\iL W f cs e c d lf ll count tick wait
 st:St g W
 aA:ay w W (FT sb a b)
 ef:c.ownBlock=a.ownBlock
 el:d.ownBlock=b.ownBlock
def iL.au{lf ll:List Kt}(h:iL w n c k x y lf ll p q r)(g:γ w W ν):iL W n c k x y lf ll p q r:=
 ⟨h.c0,h.c1,h.c2,h.c3,h.c4,h.of.au g,h.ol.au g⟩
def kR.set{w:ω}{g:υ}{lf ll:List Kt}{St:List (Int×Pc)->ω->Prop}{m:List (Int×Pc)}(h:kR w W n j l T x y z g lf ll p q r St m)(s:qb n x y)
 (u:∀(W c:ω)(a:List (Int×Pc)),St a W->ay W c (FT n x y)->lW W c n j->St a c) (b:Int):kR w (ζ W ⟨n,j+2,ν⟩ (ι δ b)) n j l T x y z g lf ll p q b St m:=by
 obtain⟨cs,d,H⟩:=h.fl;have f:=aM (aD W (μ n)) ⟨n,j+2,ν⟩ (ι δ b) (ψ rfl);have C:ay W (ζ W ⟨n,j+2,ν⟩ (ι δ b)) (FT n x y):=(ay.of f).mono (λk _ e=>φ (aQ e).symm);refine⟨⟨_,heap_set d _,?_⟩,u _ _ _ h.st C ?_,(h.aA.trans C).mono (λk _ v=>v.elim id id),h.ef,h.el⟩
 refine⟨?_,?_,cJ (ia H.c2),?_,?_,H.of.gb f (ψ (by rw[h.ef];exact s.1)),H.ol.gb f (ψ (by rw[h.el];exact s.2.1))⟩
 rw[aN_];exact H.c0;rw[aN_];exact H.c1;rw[aN_];exact H.c3;rw[aN_];exact H.c4;intro A t2 t;rw[d]at t;cases t;exact⟨_,heap_set d _,by simp,λi hi=>by rw[aN_]⟩
def CC{Q:υ}{lf ll:List Kt}{St:List (Int×Pc)->ω->Prop}{G:List (Int×Pc)}(h:kR w W j m o T z x y Q lf ll q p r St G)(R:qb j z x)(cj:j<w.heap.size)
 (a3:∀(W b:ω)(a:List (Int×Pc)),St a W->ay W b (FT j z x)->lW W b j m->St a b)
 (S:Nat->Prop) (hS:∀k,FT j z x k->S k) (az:List Kt) (v:υ) (U:(az=lf/\v=y)\/(az=ll/\v=Q)) (a8:nV W S az)
 (B:Nat) (a:Option Addr) (n cap:Nat) (l:List Rg) (a9:κ W ⟨B,0,ν⟩=μ (σ a n cap)) (hB:¬FT j z x B) (hs:bq W a n cap l) (V:l≠[]->∀f,a=μ f->¬FT j z x f.block/\f.block<W.heap.size)
 (g:Nat) (lc:Array υ) (ec:∀args w,(callFunc g args).run prog w=.ok (.enter g args) w)
 (hC:∀(W:ω)(a:List (Int×Pc))(c:Kt)(s:Pc),St a W->c∈az->s∈c.1.ps->bp l c.1.num=ρ->Calls prog g (#[ι δ c.1.st,ε (pA s)]++lc) W (λe b=>e=ξ (τ #[])/\St (a++[(c.1.st,s)]) b/\γ W b (μ j)/\lY W b j m)):
 Calls prog 289 #[v,.func (.func 287) #[] #[π (μ ⟨B,0,ν⟩)],.func (.func g) #[] lc] W λe b=>∃t,e=ξ t/\cq b o t (az.filter (λc=> !bp l c.1.num))/\t.ownBlock=v.ownBlock/\St (G++lI (λc=>bp l c.1.num) az) b/\ay W b (LT j v)/\lY W b j m:=by
 obtain⟨cp,br,H⟩:=h.fl;have cv:=h.aA.size;have X:v.ownBlock=z.ownBlock\/v.ownBlock=x.ownBlock:=by
  obtain⟨-,rfl⟩|⟨-,rfl⟩:=U
  exact φ h.ef;exact ψ h.el
 have A:∀k,LT j v k->FT j z x k:=λk d=>by
  obtain d|d:=d
  exact φ d;obtain e|e:=X
  exact ψ (φ (e▸d));exact ψ (ψ (e▸d))
 have bt:cq W o v az:=by
  obtain⟨rfl,rfl⟩|⟨rfl,rfl⟩:=U
  exact H.of;exact H.ol
 have Y:v.ownBlock≠μ j:=by
  obtain e|e:=X
  rw[e];exact R.1;rw[e];exact R.2.1
 refine(Jh W j o 287 g #[π (μ ⟨B,0,ν⟩)] lc az (λc=>bp l c.1.num) (λC b=>St C b/\lY W b j m) G v bt (by omega) Y S (λk d=>hS k (A k d)) a8 (λ_ _=>by kernel_rfl) ec ?_ ?_ ⟨h.st,λcs T u=>⟨cs,u,rfl,λ_ _ _=>rfl⟩⟩ ?_).mono ?_;intro b c D hx;exact CB b B a n cap l c (D.cell a9 (λI=>hB (A _ I))) (hs.cM (λhl f ey=>D.block _ (V hl f ey).2 (λI=>(V hl f ey).1 (A _ I))));rintro K Wb C bx⟨L,E⟩ F hr;have bz:∀k,bx=μ k->k≠j:=λk e=>by
  obtain rfl|rfl:=hr
  cases e;rintro rfl;exact Y e
 obtain⟨cw,bM,-,-⟩:=E _ _ br;have a1:Wb.heap[j]?=K.heap[j]? :=F.block j (bg.1 bM).1 (λe=>bz j e.symm rfl);refine⟨a3 _ _ _ L ((ay.of F).mono (λk _ e=>?_)) (lW.of a1),λcs T u=>?_⟩
 obtain rfl|rfl:=hr
 cases e;exact A k (ψ e);obtain⟨b0,M,N,O⟩:=E cs T u;exact⟨b0,a1.trans M,N,O⟩
 rintro K C c s⟨L,E⟩ hx hp hq;apply(hC K C c s L hx hp hq).mono;rintro e Wb⟨P,b4,F,d⟩;refine⟨P,⟨b4,λcs T u=>?_⟩,F⟩
 obtain⟨b5,M,N,O⟩:=E cs T u;obtain⟨b6,k1,k2,k3⟩:=d b5 T M;exact⟨b6,k1,k2.trans N,λi hi hj=>(k3 i hi hj).trans (O i hi hj)⟩
 rintro e b⟨t,P,ho,⟨ca,d⟩,ch,D⟩;exact⟨t,P,ho,ch,ca,D,d⟩
def kR.aw{t c:υ}{lf ll A:List Kt}{St:List (Int×Pc)->ω->Prop}{I B:List (Int×Pc)}(h:kR w W n j l T x y z t lf ll p q r St I)(g:qb n x y)
 (L:∀(W v:ω)(a:List (Int×Pc)),St a W->ay W v (FT n x y)->lW W v n j->St a v)
 (ho:cq v l c A) (D:c.ownBlock=z.ownBlock) (hs:St B v) (C:ay W v (LT n z)) (K:lY W v n j):
 kR w (ζ v ⟨n,j+3,ν⟩ c) n j l T x y c t A ll p q r St B/\κ v ⟨n,j+3,ν⟩=μ z/\χ v ⟨n,j+3,ν⟩=θ:=by
 obtain⟨cs,M,H⟩:=h.fl;obtain⟨N,d,O,f⟩:=K cs T M;have u:=aM (aD v (μ n)) ⟨n,j+3,ν⟩ c (ψ rfl);have m:=h.ef;have s:=h.el;have E:ay v (ζ v ⟨n,j+3,ν⟩ c) (FT n x y):=(ay.of u).mono (λk _ e=>φ (aQ e).symm);have Q:j+4<N.size:=by rw[O];exact ia H.c4
 have P:cq v l t ll:=H.ol.aA C (λk F b=>by
  obtain b|b:=b
  exact g.2.1 (by rw[<-s,F,b])
  ·exact g.2.2 k (m▸b) (s▸F))
 refine⟨⟨⟨_,heap_set d _,?_⟩,L _ _ _ hs E ?_,((h.aA.trans C).trans E).mono (λk _ b=>?_),D.trans m,s⟩,?_,by simp[World.frozen?,d]⟩
 refine⟨?_,?_,?_,cJ,?_,ho.gb u (ψ (by rw[D,m];exact g.1)),P.gb u (ψ (by rw[s];exact g.2.1))⟩
 rw[aN_,f _ (by omega) (by omega)];exact H.c0;rw[aN_,f _ (by omega) (by omega)];exact H.c1;rw[aN_,f _ (by omega) (by omega)];exact H.c2;rw[aN_,f _ (by omega) (by omega)];exact H.c4;intro R t2 G;rw[d]at G;cases G;exact⟨_,heap_set d _,by simp,λi hi=>by rw[aN_]⟩
 obtain(b|b|b)|b:=b
 exact b;exact φ b;exact ψ (φ (m▸b));exact b;rw[aZ d,f _ (by omega) (by omega)];exact H.c3
def kR.Ji{g c:υ}{lf ll A:List Kt}{St:List (Int×Pc)->ω->Prop}{I B:List (Int×Pc)}(h:kR w W n j l T x y z g lf ll p q r St I)(m:qb n x y)
 (L:∀(W v:ω)(a:List (Int×Pc)),St a W->ay W v (FT n x y)->lW W v n j->St a v)
 (ho:cq v l c A) (D:c.ownBlock=g.ownBlock) (hs:St B v) (C:ay W v (LT n g)) (K:lY W v n j):
 kR w (ζ v ⟨n,j+4,ν⟩ c) n j l T x y z c lf A p q r St B/\κ v ⟨n,j+4,ν⟩=μ g/\χ v ⟨n,j+4,ν⟩=θ:=by
 obtain⟨cs,M,H⟩:=h.fl;obtain⟨N,d,O,f⟩:=K cs T M;have u:=aM (aD v (μ n)) ⟨n,j+4,ν⟩ c (ψ rfl);have s:=h.ef;have t:=h.el;have E:ay v (ζ v ⟨n,j+4,ν⟩ c) (FT n x y):=(ay.of u).mono (λk _ e=>φ (aQ e).symm);have Q:j+4<N.size:=by rw[O];exact ia H.c4
 have P:cq v l z lf:=H.of.aA C (λk F b=>by
  obtain b|b:=b
  exact m.1 (by rw[<-s,F,b])
  ·exact m.2.2 k (s▸F) (t▸b))
 refine⟨⟨⟨_,heap_set d _,?_⟩,L _ _ _ hs E ?_,((h.aA.trans C).trans E).mono (λk _ b=>?_),s,D.trans t⟩,?_,by simp[World.frozen?,d]⟩
 refine⟨?_,?_,?_,?_,cJ,P.gb u (ψ (by rw[s];exact m.1)),ho.gb u (ψ (by rw[D,t];exact m.2.1))⟩
 rw[aN_,f _ (by omega) (by omega)];exact H.c0;rw[aN_,f _ (by omega) (by omega)];exact H.c1;rw[aN_,f _ (by omega) (by omega)];exact H.c2;rw[aN_,f _ (by omega) (by omega)];exact H.c3;intro R t2 G;rw[d]at G;cases G;exact⟨_,heap_set d _,by simp,λi hi=>by rw[aN_]⟩
 obtain(b|b|b)|b:=b
 exact b;exact φ b;exact ψ (ψ (t▸b));exact b;rw[aZ d,f _ (by omega) (by omega)];exact H.c4
def kR.gb{c:υ}{lf ll:List Kt}{St:List (Int×Pc)->ω->Prop}{d:List (Int×Pc)}(h:kR w W n i j T x y z c lf ll p q r St d)
 (f:∀(W v:ω)(a:List (Int×Pc)),St a W->ay W v (FT n x y)->lW W v n i->St a v) (g:γ W v ν):kR w v n i j T x y z c lf ll p q r St d:=by
 obtain⟨cs,b,H⟩:=h.fl;exact⟨⟨cs,bE b g,H.au g⟩,f _ _ _ h.st ((ay.of g).mono (λk _ e=>by cases e)) (lW.of ((bE b g).trans b.symm)),h.aA.grow g,h.ef,h.el⟩
def zJ(w a:ω)(sb f i:Nat)(t:TypeId)(e c:υ)(lf ll:List Kt)(count tick wait:Int)(St:List (Int×Pc)->ω->Prop)(l:List Rg):Prop:=
 ∃g h b,a.heap[sb]?=μ (ο g t (0,0))/\
  iL a i g f h b ((lf.filter (λx=> !bp l x.1.num)).filter (λx=> !decide (x.1.num+3<=(ao l 0).hi))) (ll.filter (λx=> !bp l x.1.num)++(lf.filter (λx=> !bp l x.1.num)).filter (λx=>decide (x.1.num+3<=(ao l 0).hi))) count tick (if lf.any (λx=>bp l x.1.num)then 4 else wait)/\
  (∃d,St (lI (λx=>bp l x.1.num) lf++lI (λx=>bp l x.1.num) ll) d/\ay d a (FT sb e c)/\lW d a sb f/\(b.ownBlock=c.ownBlock\/∀k,b.ownBlock=μ k->d.heap.size<=k))/\ay w a (FT sb e c)/\h.ownBlock=e.ownBlock/\(b.ownBlock=c.ownBlock\/∀k,b.ownBlock=μ k->w.heap.size<=k)
def kR.Jj{g:υ}{lf ll:List Kt}{St:List (Int×Pc)->ω->Prop}{u:List (Int×Pc)}(h:kR w W n j l T x y z g lf ll p q r St u)
 (O:∀(W t:ω)(a:List (Int×Pc)),St a W->ay W t (FT n x y)->lW W t n j->St a t) (I:W.heap[n]?=μ (ο c T (0,0))) (H:iL W l c j z g lf ll p q r) {m f:υ} {A B:List Kt}
 (D:v.heap[n]?=μ (ο ((c.setIfInBounds (j+4) f).setIfInBounds (j+3) m) T (0,0))) (K:cq v l m A) (L:cq v l f B) (C:ay W v (FT n z g)) (nf:m.ownBlock=z.ownBlock) (nl:f.ownBlock=g.ownBlock\/∀k,f.ownBlock=μ k->W.heap.size<=k):
 ∃E a b,v.heap[n]?=μ (ο E T (0,0))/\iL v l E j a b A B p q r/\(∃s,St u s/\ay s v (FT n x y)/\lW s v n j/\(b.ownBlock=y.ownBlock\/∀k,b.ownBlock=μ k->s.heap.size<=k))/\ay w v (FT n x y)/\a.ownBlock=x.ownBlock/\(b.ownBlock=y.ownBlock\/∀k,b.ownBlock=μ k->w.heap.size<=k):=by
 have F:ay W v (FT n x y):=C.mono (λk _ d=>by
  obtain d|d|d:=d
  exact φ d;exact ψ (φ (h.ef▸d))
  ·exact ψ (ψ (h.el▸d)))
 have P:=ia H.c3;have M:=ia H.c4;refine⟨_,m,f,D,⟨?_,?_,?_,cJ (by simp;omega),?_,K,L⟩,⟨W,h.st,F,?_,nl.imp (λe=>e.trans h.el) id⟩,(h.aA.trans F).mono (λk _ d=>d.elim id id),nf.trans h.ef,?_⟩
 rw[aN_,aN_];exact H.c0;rw[aN_,aN_];exact H.c1;rw[aN_,aN_];exact H.c2;rw[aN_];exact cJ M;intro Q t2 G;rw[I]at G;cases G;exact⟨_,D,by simp,λi hi=>by rw[aN_,aN_]⟩
 obtain e|e:=nl
 exact φ (e.trans h.el);exact ψ (λk N=>bK h.aA.size (e k N))
def Jk(lf:List Kt)(Q:Kt->Bool):lf.any Q=ρ↔∃i,i<lf.length/\Q (bP lf i)=ρ:=by
 rw[oG];constructor;rintro⟨x,a,h⟩;obtain⟨i,hi,rfl⟩:=j8.1 a;exact⟨i,hi,by simpa [bP,List.getD,hi]using h⟩
 rintro⟨i,hi,h⟩;exact⟨_,pI hi,h⟩
def Jl(w:ω)(sb f r:Nat)(cs:Array υ)(t:TypeId)(j m:υ)(lf ll:List Kt)(count tick wait:Int)(I:w.heap[sb]?=μ (ο cs t (0,0)))(H:iL w r cs f j m lf ll count tick wait)(fa:r<=w.heap.size)(v:qb sb j m)(fb:lf.length<=1000000/\ll.length<=50000000)
 (S:Nat->Prop) (hS:∀k,FT sb j m k->S k) (bb:nV w S (lf++ll)) (a:Option Addr) (n cap:Nat) (l:List Rg) (hs:bq w a n cap l) (hl:0<l.length) (a0:∀y,a=μ y->¬FT sb j m y.block/\y.block<w.heap.size) (db:∀x∈lf,0<=x.1.num/\x.1.num<=4611686018427387903)
 (K:Nat) (lc:Array υ) (ec:∀args w,(callFunc K args).run prog w=.ok (.enter K args) w) (St:List (Int×Pc)->ω->Prop) (h0:St [] w)
 (z:∀(W A:ω)(a:List (Int×Pc)),St a W->ay W A (FT sb j m)->lW W A sb f->St a A)
 (hC:∀(W:ω)(a:List (Int×Pc))(x:Kt)(p:Pc),St a W->x∈lf++ll->p∈x.1.ps->bp l x.1.num=ρ->Calls prog K (#[ι δ x.1.st,ε (pA p)]++lc) W (λe A=>e=ξ (τ #[])/\St (a++[(x.1.st,p)]) A/\γ W A (μ sb)/\lY W A sb f)):
 Calls prog 253 #[π (μ ⟨sb,f,ν⟩),σ a n cap,.func (.func K) #[] lc] w λe q=>(count<=(ao l 0).hi/\e=ξ (.iface 34 (ι δ 8))/\γ w q ν)\/((ao l 0).hi<count/\e=ξ .nilIface/\zJ w q sb f r t j m lf ll count tick wait St l):=by
 obtain⟨R,T⟩:∃R:Ending->ω->Prop,R=λe q=>(count<=(ao l 0).hi/\e=ξ (.iface 34 (ι δ 8))/\γ w q ν)\/((ao l 0).hi<count/\e=ξ .nilIface/\zJ w q sb f r t j m lf ll count tick wait St l):=⟨_,rfl⟩
 rw[<-T];replace T:=J T;have b6:sb<w.heap.size:=(bg.1 I).1;have hn:n=l.length:=hs.2.1;have ff:=hs.2.2.1;have de:=hs.2.2.2.1;unfold maxLen at de;obtain⟨b,o,rfl⟩:∃b o,a=μ ⟨b,o,ν⟩:=by
  obtain⟨-,h2,h3,-,h5|⟨b,o,rfl,-⟩⟩:=id hs;omega;exact⟨b,o,rfl⟩
 have y1:=(hs.cell 0 hl).2;rw[oH,px]at y1;obtain⟨hi,L⟩:=exq ((ao l 0).hi);rw[<-L]at y1;have i0:(0:Int)<n:=by omega
 have lb:b<w.heap.size:=eZ w _ y1;have c0:=(aZ I _).trans H.c0;have c3:=(aZ I _).trans H.c3;obtain⟨E,U⟩:=exq ((w.alloc (ο #[σ (μ ⟨b,o,ν⟩) n cap] 133)).alloc (ο #[ι η hi] 30));have g1:γ w E ν:=by rw[U];exact bk (aJ _ _ _) _
 have dk:(w.alloc (ο #[σ (μ ⟨b,o,ν⟩) n cap] 133)).heap.size=w.heap.size+1:=by simp
 have bj:E.heap[w.heap.size]?=μ (ο #[σ (μ ⟨b,o,ν⟩) n cap] 133 (0,0)):=by
  rw[U];exact bE (aO _ _) (aJ _ _ ν)
 have br:E.heap[w.heap.size+1]?=μ (ο #[ι η hi] 30 (0,0)):=by
  rw[U,<-dk];exact aO _ _
 have p0:κ E ⟨w.heap.size,0,ν⟩=μ (σ (μ ⟨b,o,ν⟩) n cap):=by simp[World.cell?,bj]
 have p1:κ E ⟨w.heap.size+1,0,ν⟩=μ (ι η hi):=by simp[World.cell?,br]
 have d0:=gC_ g1 c0;have d3:=gC_ g1 c3;have A0:kR w w sb f r t j m j m lf ll count tick wait St []:=⟨⟨cs,I,H⟩,h0,ay.rfl' _ _,rfl,rfl⟩
 have b7:∀k,w.heap.size<=k->¬FT sb j m k:=λk M h=>by
  obtain h|h|h:=h
  omega;have:=(H.of.lt k h).2;omega;have:=(H.ol.lt k h).2;omega
 have e1:Hid (count<=hi->∀W,γ w W ν->R (ξ (.iface 34 (ι δ 8))) W):=J (λh W g=>by rw[Z T];exact φ ⟨by rw[<-L];exact h,rfl,g⟩);replace⟨L,hn,bj,br,I⟩:=fF L hn bj br I;go_enter func253,ntmps253;go_upto_region 2 with fail;rw[<-U];clear U;by_cases bt:count<=hi
 ·have dg:decide (count<=hi)=ρ:=eT bt;go_quiet (fail);go_wp2_with fail;exact Z e1 bt _ (dv g1 _)
 have dg:decide (count<=hi)=θ:=fc bt;go_quiet (fail);obtain⟨N,bx⟩:=exq (E.drewN nq);have V:γ E N ν:=by rw[bx];exact dv (aD _ _) nq
 have bz:=aq g1 V;have A2:=A0.gb z bz;have q0:=gC_ V p0;have q1:=gC_ V p1;have q3:=gC_ V d3;have jq:∀x∈lf,∃a n c,x.2=σ a n c:=λx F=>by obtain⟨a,n,c,e,-⟩:=bb x (by simp[F]);exact⟨a,n,c,e⟩
 have dn:=hs.au bz;obtain⟨B,G,X,ds,dx⟩:=H.of.gR;obtain⟨cb,b8,ca⟩:∃b,(0<lf.length->B=μ ⟨b,0,ν⟩)/\(∀i,i<lf.length->κ N ⟨b,0+i*4,ν⟩=μ (ι η (bP lf i).1.num)/\κ N ⟨b,0+i*4+1,ν⟩=μ (ι δ (bP lf i).1.tick)/\κ N ⟨b,0+i*4+2,ν⟩=μ (ι δ (bP lf i).1.st)/\κ N ⟨b,0+i*4+3,ν⟩=μ (bP lf i).2):=by
  by_cases hz:0<lf.length;have ho:=H.of.au bz;rw[X]at ho;obtain⟨b,e,h⟩:=ho.cell hz;exact⟨b,λ_=>e,h⟩
  exact⟨0,λh=>absurd h hz,λi hi=>by omega⟩
 have dE:=J (Cp B cb 0 lf.length G 287 #[] #[π (μ ⟨w.heap.size,0,ν⟩)] N (λi=>bp l (bP lf i).1.num=ρ) (λi=>ι η (bP lf i).1.num) (λi=>ι δ (bP lf i).1.tick) (λi=>ι δ (bP lf i).1.st) (λi=>(bP lf i).2) b8 ⟨ds,dx⟩ (λ_ _=>by kernel_rfl)
  (λW i g hi=>by obtain⟨p0,p1,p2,p3⟩:=ca i hi;exact⟨gC_ g p0,gC_ g p1,gC_ g p2,gC_ g p3⟩)
  (λW i g hi=>by
    apply(CB W w.heap.size (μ ⟨b,o,ν⟩) n cap l (bP lf i) (gC_ g q0) (dn.au g)).mono;rintro e A⟨rfl,g'⟩;exact⟨⟨_,rfl,Iff.rfl⟩,g'⟩))
 clear b8 ca;obtain⟨a1,a2⟩:=exq (lf.any (λx=>bp l x.1.num));have dG:Hid (a1=ρ↔∃i,i<lf.length/\bp l (bP lf i).1.num=ρ):=J (by rw[a2];exact Jk lf _);replace⟨a2,A0,A2⟩:=cz a2 A0 A2;rw[X]at q3;replace X:=J X;go_upto_region 5 with fail;rw[<-bx];clear bx;go_wp2_with fail;apply(Z dE).mono;rintro e w3⟨ch,g3⟩;obtain rfl:=s8 ch (Z dG);clear ch;have Y:=(Z A2).gb z g3;have fo:=aq V g3;have r0:=gC_ g3 q0;have r1:=gC_ g3 q1;obtain⟨fq,a3,HA⟩:=Y.fl;have k2:=(aZ a3 _).trans HA.c2;have f2:χ w3 ⟨sb,f+2,ν⟩=θ:=fZ_ a3;replace⟨a3,Y⟩:=bD a3 Y;go_upto_if 26 with fail;go_cut [] (λwx=>kR w wx sb f r t j m j m lf ll count tick (if a1 then 4 else wait) St []/\γ w3 wx (μ sb));case first=>
  cases a1
  ·go_wp2_with fail;go_meet;exact⟨by simpa using Z Y,aD _ _⟩
  go_wp2_with fail;go_meet;exact⟨by simpa using (Z Y).set v z 4,aM (aD _ _) _ _ (ψ rfl)⟩
 case rest=>
  rename ω=>w4
  obtain⟨s,cj⟩:=hcut;obtain⟨la,O,ea,-⟩:=H.ol.gR;have ee:=Z X;subst ee;subst ea;obtain⟨Q,hQ⟩:∃Q:Kt->Bool,Q=λx=>bp l x.1.num:=⟨_,rfl⟩
  obtain⟨wt,cp⟩:=exq ((if a1 then 4 else wait));rw[<-cp]at s;have bM:w.heap.size≠sb:=by omega
  have P:w.heap.size+1≠sb:=by omega
  have s0:=cj.cell r0 (λe=>bM (aQ e));have s1:=cj.cell r1 (λe=>P (aQ e));have b0:¬FT sb (σ B lf.length G) (σ la ll.length O) w.heap.size:=b7 _ (aP _);have a4:¬FT sb (σ B lf.length G) (σ la ll.length O) (w.heap.size+1):=b7 _ (by omega);have cv:∀W,ay w W (FT sb (σ B lf.length G) (σ la ll.length O))->bq W (μ ⟨b,o,ν⟩) n cap l:=λW C=>hs.cM (λ_ y ey=>C.block _ (a0 y ey).2 (a0 y ey).1)
  have cw:∀W,ay w W (FT sb (σ B lf.length G) (σ la ll.length O))->l≠[]->∀y,μ (⟨b,o,ν⟩:Addr)=μ y->¬FT sb (σ B lf.length G) (σ la ll.length O) y.block/\y.block<W.heap.size:=λW C _ y ey=>⟨(a0 y ey).1,cu (a0 y ey).2 C.size⟩
  have b3:=J (CC s v b6 z S hS lf _ (φ ⟨rfl,rfl⟩) ((bb.sub (λx F=>by simp[F])).aA s.aA (λk _ M=>hS k M)) w.heap.size _ n cap l s0 b0 (cv _ s.aA) (cw _ s.aA) K lc ec (λW a x p h1 h2 h3 h4=>hC W a x p h1 (by simp[h2]) h3 h4));have e3:κ w4 ⟨sb,f+3,ν⟩=μ (σ B lf.length G):=by
   obtain⟨c4,ei,H4⟩:=s.fl;rw[aZ ei];exact H4.c3
  rw[jL]at b3;replace s:=J s;clear r0 r1 q0 q1 q3 k2 f2 p0 p1 d0 d3 c0 c3;go_upto_region 7 with fail;go_wp2_with fail;apply(Z b3).mono;rintro e w5⟨v5,rfl,o5,h5,cx,C5,K5⟩;obtain⟨a5,c5,rfl,-⟩:=o5.gR;obtain⟨u,z3,z4⟩:=(Z s).aw v z o5 h5 cx C5 K5;have ej:=C5.cell s0 (λd=>by obtain d|d:=d;exact bM d;exact b0 (ψ (φ d)));have ek:=C5.cell s1 (λd=>by obtain d|d:=d;exact P d;exact a4 (ψ (φ d)));obtain⟨W6,al⟩:=exq (ζ w5 ⟨sb,f+3,ν⟩ (σ a5 (lf.filter (λx=> !bp l x.1.num)).length c5));rw[<-al]at u;have g6:γ w5 W6 (μ sb):=by rw[al];exact aM (aD _ _) _ _ (ψ rfl)
  have eo:=g6.cell ej (λe=>bM (aQ e));have et:=g6.cell ek (λe=>P (aQ e));have cy:=J (CC u v b6 z S hS ll _ (ψ ⟨rfl,rfl⟩) ((bb.sub (λx F=>by simp[F])).aA u.aA (λk _ M=>hS k M)) w.heap.size _ n cap l eo b0 (cv _ u.aA) (cw _ u.aA) K lc ec (λW a x p h1 h2 h3 h4=>hC W a x p h1 (by simp[h2]) h3 h4));have e4:κ W6 ⟨sb,f+4,ν⟩=μ (σ la ll.length O):=by
   obtain⟨c6,eu,H6⟩:=u.fl;rw[aZ eu];exact H6.c4
  replace⟨u,al⟩:=bD u al;clear o5 cx C5 K5 h5 b3 e3;go_upto_region 8 with fail;rw[<-Z al];go_wp2_with fail;apply(Z cy).mono;rintro e w7⟨v7,rfl,o7,h7,cC,C7,K7⟩;obtain⟨a7,c7,rfl,-⟩:=o7.gR;obtain⟨D,z7,z8⟩:=(Z u).Ji v z o7 h7 cC C7 K7;have ew:=C7.cell et (λd=>by obtain d|d:=d;exact P d;exact a4 (ψ (ψ d)));obtain⟨W8,ax⟩:=exq (ζ w7 ⟨sb,f+4,ν⟩ (σ a7 (ll.filter (λx=> !bp l x.1.num)).length c7));rw[<-ax]at D;have g8:γ w7 W8 (μ sb):=by rw[ax];exact aM (aD _ _) _ _ (ψ rfl)
  have ez:=g8.cell ew (λe=>P (aQ e));obtain⟨c9,a8,H8⟩:=D.fl;have b4:=D.ef;have b5:=D.el;have fs:=oC (λx:Kt=> !bp l x.1.num) lf;have fy:=oC (λx:Kt=> !bp l x.1.num) ll;have fA:=D.aA.size;have eC:=J (Cz W8 sb f r 290 #[π (μ ⟨w.heap.size+1,0,ν⟩)] c9 t _ _ _ _ count tick wt (λx=>decide (x.1.num+3<=hi)) a8 H8 (by omega) (by rw[b4];exact v.1) (by rw[b5];exact v.2.1) (λk M=>by rw[b5];exact v.2.2 k (b4▸M)) (by omega) (λx F=>jq x ((eO.1 F).1)) (λ_ _=>by kernel_rfl)
   (λW i C eD=>Je W (w.heap.size+1) hi _ (C.cell ez (λd=>by
     obtain d|d|d:=d
     exact P d;exact a4 (ψ (φ (b4▸d)))
     ·exact a4 (ψ (ψ (b5▸d))))) (db _ (eO.1 (pI eD)).1)))
  have eK:Hid (∀q,(∃a9 aC,q.heap[sb]?=μ (ο ((c9.setIfInBounds (f+4) aC).setIfInBounds (f+3) a9) t (0,0))/\cq q r a9 ((lf.filter (λx=> !bp l x.1.num)).filter (λx=> !decide (x.1.num+3<=hi)))/\cq q r aC (ll.filter (λx=> !bp l x.1.num)++(lf.filter (λx=> !bp l x.1.num)).filter (λx=>decide (x.1.num+3<=hi)))/\ay W8 q (FT sb (σ a5 (lf.filter (λx=> !bp l x.1.num)).length c5) (σ a7 (ll.filter (λx=> !bp l x.1.num)).length c7))/\a9.ownBlock=(Value.slice a5 (lf.filter (λx=> !bp l x.1.num)).length c5).ownBlock/\(aC.ownBlock=(Value.slice a7 (ll.filter (λx=> !bp l x.1.num)).length c7).ownBlock\/∀k,aC.ownBlock=μ k->W8.heap.size<=k))->R (ξ .nilIface) q):=J (by
   rintro q⟨a9,aC,eL,eS,e5,C',e6,e7⟩;rw[Z T];refine ψ ⟨by rw[<-Z L];omega,rfl,?_⟩;have e8:=D.Jj z a8 H8 eL eS e5 C' e6 e7;unfold zJ;rw[<-Z a2,<-cp,<-Z L];exact e8)
  replace⟨D,ax,a8⟩:=cz D ax a8;clear o7 cC C7 K7 h7 cy e4 H8;go_upto_region 9 with fail;rw[<-Z ax];go_wp2_with fail;apply(Z eC).mono;rintro e w9⟨rfl,h9⟩;have e9:=J (Z eK w9 h9);clear h9;go_wp2_with fail;exact Z e9
def Jm(w:ω)(b c a:Nat)(ls:Array υ)(st:Int)(p:Pc)(q:Bool)(h0:κ w ⟨b,0,ν⟩=μ (.func (.func a) #[] ls))(i:κ w ⟨c,2,ν⟩=μ (ι δ st))(u:∀args w,(callFunc a args).run prog w=.ok (.enter a args) w)
 (f:∀W,γ w W ν->Calls prog a (#[ι δ st,ε (pA p)]++ls) W (λe j=>e=ξ (β q)/\γ W j ν)):
 Calls prog 293 #[ε (pA p),π (μ ⟨b,0,ν⟩),π (μ ⟨c,0,ν⟩)] w λe k=>e=ξ (β !q)/\γ w k ν:=by
 obtain⟨⟨l,m⟩,n,r⟩:=p;unfold pA at *;simp only at *;have v:b<w.heap.size:=eZ w _ h0;have x:c<w.heap.size:=eZ w _ i;obtain⟨g,d⟩:=exq (w.alloc (ο #[ι η l,ι η m,β n,β r] 377));have h:γ w g ν:=by rw[d];exact aJ _ _ _
 have s:=J (f g h);clear f;go_enter func293,ntmps293;go_wp2_with fail;rw[<-d];clear d;apply(Z s).mono;rintro e y⟨rfl,t⟩;go_wp2;go_ret;exact⟨rfl,aq h t⟩
def Jn(w:ω)(c d:Nat)(ls:Array υ)(x:Kt)(T:Int->Pc->Bool)(pa:Option Addr)(a f:Nat)(B:x.2=σ pa a f)(hp:kP w pa a f x.1.ps)(h0:κ w ⟨c,0,ν⟩=μ (.func (.func d) #[] ls))(C:∀args w,(callFunc d args).run prog w=.ok (.enter d args) w)
 (s:∀W p,γ w W ν->p∈x.1.ps->Calls prog d (#[ι δ x.1.st,ε (pA p)]++ls) W (λe j=>e=ξ (β (T x.1.st p))/\γ W j ν)):
 Calls prog 291 #[ε (kA x),π (μ ⟨c,0,ν⟩)] w λe D=>e=ξ (β (x.1.ps.all (T x.1.st)))/\γ w D ν:=by
 obtain⟨⟨num,tk,st,ps⟩,O⟩:=x;simp only at *;subst B;unfold kA;simp only
 have P:c<w.heap.size:=eZ w _ h0;obtain⟨m,k⟩:=exq (w.alloc (ο #[ι η num,ι δ tk,ι δ st,σ pa a f] 325));have l:γ w m ν:=by rw[k];exact aJ _ _ _
 have n:m.heap[w.heap.size]?=μ (ο #[ι η num,ι δ tk,ι δ st,σ pa a f] 325 (0,0)):=by rw[k];exact aO _ _
 obtain⟨-,-,b2,-⟩:=mG n;have E:=gC_ l h0;have t:=hp.au l;obtain⟨b,o,q⟩:∃b o,0<a->pa=μ ⟨b,o,ν⟩:=by
  by_cases F:0<a;obtain⟨-,Q,R,-,S|⟨b,o,rfl,-⟩⟩:=id hp;omega;exact⟨b,o,λ_=>rfl⟩
  exact⟨0,0,λh=>absurd h F⟩
 have u:a=ps.length:=hp.2.1;have G:=J (IS pa b o a f 293 #[] #[π (μ ⟨c,0,ν⟩),π (μ ⟨w.heap.size,0,ν⟩)] m (λi=>(!T st (fZ ps i))=ρ) (λi=>ι η (fZ ps i).x.lo) (λi=>ι η (fZ ps i).x.hi) (λi=>β (fZ ps i).e) (λi=>β (fZ ps i).g) q ⟨hp.2.2.1,hp.2.2.2.1⟩ (λ_ _=>by kernel_rfl)
  (λW i g hi=>by
    have v:=t.au g;rw[q (by omega)]at v;exact v.cell i (by omega))
  (λW i g hi=>by
    apply(Jm W c w.heap.size d ls st (fZ ps i) (T st (fZ ps i)) (gC_ g E) (gC_ g b2) C (λj r=>s j _ (aq l (aq g r)) (xA (by omega)))).mono;rintro e j⟨rfl,r⟩;exact⟨⟨_,rfl,Iff.rfl⟩,r⟩))
 have y:Hid ((!ps.all (T st))=ρ↔∃i,i<a/\(!T st (fZ ps i))=ρ):=J (by
  rw[u,qH,<-Bool.not_eq_true,List.all_eq_true];constructor;intro h;apply Bu;intro H;apply h;intro p I;obtain⟨i,hi,rfl⟩:=j8.1 I;have K:fZ ps i=ps[i]:=by simp[fZ,List.getD,hi]
  cases L:T st ps[i];exact absurd ⟨i,hi,by rw[K,L];rfl⟩ H;rfl
  ·rintro⟨i,hi,h⟩ M;have:=M _ (xA hi);rw[this]at h;cases h)
 obtain⟨U,z⟩:=exq (ps.all (T st));rw[<-z]at y⊢;clear z u hp t q s;replace n:=J n;go_enter func291,ntmps291;go_wp2_with fail;rw[<-k];clear k;apply(Z G).mono;rintro e V⟨A,N⟩;obtain rfl:=s8 A (Z y);clear A;go_wp2;go_ret;exact⟨by simp,aq l N⟩
def Jo(w:ω)(sb m s:Nat)(cs:Array υ)(t:TypeId)(G d:υ)(lf ll:List Kt)(count tick wait:Int)(z:w.heap[sb]?=μ (ο cs t (0,0)))(H:iL w s cs m G d lf ll count tick wait)(I:qb sb G d)(S:Nat->Prop)(bb:∀k,FT sb G d k->S k)(K:nV w S ll)(l:Nat)(ls:Array υ)(T:Int->Pc->Bool)(es:∀args w,(callFunc l args).run prog w=.ok (.enter l args) w)
 (P:∀(W:ω)(x:Kt)(p:Pc),ay w W (λk=>d.ownBlock=μ k)->x∈ll->p∈x.1.ps->Calls prog l (#[ι δ x.1.st,ε (pA p)]++ls) W (λe A=>e=ξ (β (T x.1.st p))/\γ W A ν)):
 Calls prog 254 #[π (μ ⟨sb,m,ν⟩),.func (.func l) #[] ls] w λe b=>e=ξ (τ #[])/\∃j,b.heap[sb]?=μ (ο (cs.setIfInBounds (m+4) j) t (0,0))/\cq b s j (ll.filter (λx=> !x.1.ps.all (T x.1.st)))/\j.ownBlock=d.ownBlock/\ay w b (λk=>k=sb\/d.ownBlock=μ k):=by
 obtain⟨R,B⟩:=exq (λb:ω=>∃j,b.heap[sb]?=μ (ο (cs.setIfInBounds (m+4) j) t (0,0))/\cq b s j (ll.filter (λx=> !x.1.ps.all (T x.1.st)))/\j.ownBlock=d.ownBlock/\ay w b (λk=>k=sb\/d.ownBlock=μ k));have Q:(λ(e:Ending) b=>e=ξ (τ #[])/\∃j,b.heap[sb]?=μ (ο (cs.setIfInBounds (m+4) j) t (0,0))/\cq b s j (ll.filter (λx=> !x.1.ps.all (T x.1.st)))/\j.ownBlock=d.ownBlock/\ay w b (λk=>k=sb\/d.ownBlock=μ k))=λe b=>e=ξ (τ #[])/\R b:=by rw[B]
 rw[Q];clear Q;replace B:=J B;have c9:sb<w.heap.size:=(bg.1 z).1;have c4:=(aZ z _).trans H.c4;have db:=ia H.c4;obtain⟨q,C⟩:=exq (w.alloc (ο #[.func (.func l) #[] ls] 390));have u:γ w q ν:=by rw[C];exact aJ _ _ _
 have D:q.heap[w.heap.size]?=μ (ο #[.func (.func l) #[] ls] 390 (0,0)):=by rw[C];exact aO _ _
 have br:w.heap.size<q.heap.size:=(bg.1 D).1;have L:=bE z u;obtain⟨va,E,U,bx,V⟩:=H.ol.gR;have bz:∀k,d.ownBlock=μ k->k<w.heap.size:=λk e=>(H.ol.lt k e).2
 have M:Hid (Calls prog 236 #[d,.func (.func 291) #[] #[π (μ ⟨w.heap.size,0,ν⟩)]] q (λe b=>∃a n c,e=ξ (σ a n c)/\cq b s (σ a n c) (ll.filter (λx=> !x.1.ps.all (T x.1.st)))/\(Value.slice a n c).ownBlock=d.ownBlock/\ay q b (λk=>d.ownBlock=μ k))):=by
  subst U;by_cases X:ll=[]
  subst X;refine J ((zH va E _ _ q V (λ_ _=>by kernel_rfl)).mono ?_);rintro e b⟨rfl,rfl⟩;exact⟨_,_,_,rfl,H.ol.au u,rfl,ay.rfl' _ _⟩
  have bM:=pq.2 X;obtain⟨g,rfl,-⟩:=H.ol.cell bM;obtain⟨b0,b3,b4⟩:=(H.ol.au u).mid;have b5:sb≠g:=λe=>I.2.1 (by rw[e];rfl)
  have M:=zG g ll.length E s 291 sb #[π (μ ⟨w.heap.size,0,ν⟩)] ll q (λh=>(bP ll h).1.ps.all (T (bP ll h).1.st)) (λ_ W=>ay q W (λk=>(Value.slice (μ ⟨g,0,ν⟩) ll.length E).ownBlock=μ k)) b3 b0 rfl ⟨bx,V⟩ (λx hx=>by obtain⟨a,n,c,e,-⟩:=K x hx;exact⟨a,n,c,e⟩) b4 (by omega) b5 (λ_ _=>by kernel_rfl) (ay.rfl' _ _)
   (λW A h hi gg=>(hi.trans (ay.of gg)).mono (λk _ f=>f.elim id id))
   (λW h hi f=>by
     have Y:=pI f;obtain⟨pa,pn,pp,b8,ca,aC⟩:=K _ Y;have a0:ay w W (λk=>(Value.slice (μ ⟨g,0,ν⟩) ll.length E).ownBlock=μ k):=((ay.of u).trans hi).mono (λk _ f=>f.elim (λe=>by cases e) id);have ch:kP W pa pn pp (bP ll h).1.ps:=ca.cM (λ_ y ey=>a0.block _ (aC y ey).2 (λht=>(aC y ey).1 (bb _ (ψ (ψ ht)))));have cp:=(hi.block w.heap.size br (λe=>by have:=bz _ e;omega)).trans D;apply(Jn W w.heap.size l ls (bP ll h) T pa pn pp b8 ch (by simp[World.cell?,cp]) es (λA p F cv=>P A _ p (a0.grow F) Y cv)).mono;rintro e A⟨rfl,F⟩;exact⟨rfl,hi.grow F,dy F _⟩)
  refine J (M.mono ?_);have cw:kp ll (λh=>(bP ll h).1.ps.all (T (bP ll h).1.st)) ll.length=ll.filter (λx=> !x.1.ps.all (T x.1.st)):=by
   rw[zF ll _ (λx=>x.1.ps.all (T x.1.st)) (λi _=>rfl) _ (aP _),pt]
  rw[cw];rintro e b⟨rfl,ho,cx⟩;exact⟨_,_,_,rfl,ho,rfl,cx⟩
 have cy:Hid (∀(r:ω)(v:υ),cq r s v (ll.filter (λx=> !x.1.ps.all (T x.1.st)))->v.ownBlock=d.ownBlock->ay q r (λk=>d.ownBlock=μ k)->R (ζ r ⟨sb,m+4,ν⟩ v)/\κ r ⟨sb,m+4,ν⟩=μ d/\χ r ⟨sb,m+4,ν⟩=θ):=J (λr v h1 h2 h3=>by
  have N:=(h3.block sb (by omega) (λe=>I.2.1 e)).trans L;have l:=aM (aD r (μ sb)) ⟨sb,m+4,ν⟩ v (ψ rfl);refine⟨?_,by rw[aZ N];exact H.c4,by simp[World.frozen?,N]⟩
  rw[Z B];refine⟨v,heap_set N _,h1.gb l (ψ (by rw[h2];exact I.2.1)),h2,(((ay.of u).trans h3).trans (ay.of l)).mono (λk _ f=>?_)⟩
  obtain(f|f)|f:=f
  cases f;exact ψ f
  ·exact φ (aQ f).symm)
 have d4:=gC_ u c4;clear P K H c4;subst U;replace⟨D,L,z⟩:=cz D L z;go_enter func254,ntmps254;go_upto_region 1 with fail;rw[<-C];clear C;go_wp2_with fail;apply(Z M).mono;rintro e r⟨a5,n5,c5,rfl,o5,e5,C5⟩;obtain⟨O,z5,f5⟩:=Z cy r _ o5 e5 C5;replace O:=J O;clear o5 e5 C5;go_wp2_with fail;exact gD (fe rfl _ _ _) rfl ⟨rfl,Z O⟩
