import Derived.Laws.StructEq
import Derived.Test.YtjnmokmchdfchaaGreatDoorZLb
set_option maxRecDepth 1000000
set_option maxHeartbeats 0
set_option linter.all false
namespace Go.Proofs.YtjnmokmchdfchaaGreatDoor
open Go.RowKit Tryz
open Go.Value renaming int→ι,slice→σ,bool→β,pointer→π,agg→ε,string→ς,tuple→τ
open Go.IntKind renaming i64→δ,u64→η,u8→Δ
open Go.Ending renaming returned→ξ
open Go.Obj renaming cells→ο
open Or renaming inl→φ,inr→ψ
open Option renaming some→μ,none→ν
open Bool renaming true→ρ,false→θ
open Go renaming World→ω,Value→υ
open Go.World renaming grownBy→γ,cell?→κ,frozen?→χ,setCell→ζ
attribute[local go_sem↓]Go.wp_at_zero Go.wp_at_succ
variable{H:Act}{u:Exit->Act->ω->Prop}{p q:Int}{K L M:List Int}{b k n:Nat}{U:Oper}{T:TypeId}{x y z:υ}{W v w:ω}
def LM(n:Nat):(madeCells (Value.cells (ι Δ 0)) (n*1)).toList=bv (List.replicate n 0):=by
 simp only[madeCells,bv,Value.cells,Array.toList_map,Array.toList_range,Nat.mul_one,List.map_replicate]
 rw[show(λx=> #[Value.int IntKind.u8 0][x % #[Value.int IntKind.u8 0].size]!)=λ_=>Value.int IntKind.u8 0 from funext λx=>by
  rw[show #[Value.int IntKind.u8 0].size=1 from rfl,Nat.mod_one];rfl]
 exact List.eq_replicate_iff.2 ⟨by simp,by simp⟩
def DS{d:Array Oper}{rest:List Oper}(l c:Operand)(i:U.op=Op.makeSlice 112 l c)(j:U.guard=ν)
 (L:Int) (n:Nat) (hl:H.eval l=ι δ L) (k:H.eval c=ι δ L) (e:L=(n:Int)) (v:n<=100000000)
 (m:∀a,a.heap[w.heap.size]?=μ (ο (bv (List.replicate n 0)).toArray 5 (0,0))->γ w a ν->wpList prog d u rest (H.put U.dst (σ (μ ⟨w.heap.size,0,ν⟩) n n)) a):wpList prog d u (U::rest) H w:=by
 obtain⟨p,hi,q,r,s⟩:=lU yY;refine wpList_make_full w j l c _ i w.heap.size 5 p (ι Δ 0) 1 underlying112 hi q r δ δ L L n hl k e e (by rw[s];omega) (by simp[maxLen];omega) (aP _) ?_;intro a ho g;refine m a ?_ g;obtain⟨x,b⟩:=ho;obtain⟨b,_⟩|⟨y,cap,cur,e1,e2,t,z,A,f,h⟩:=b
 cases b;simp only[Value.slice.injEq,nH,Addr.mk.injEq,and_true,true_and]at e1;obtain⟨rfl,rfl⟩:=e1;rw[t];rw[LM,Nat.mul_one]at h;rw[Nat.mul_one]at f;have:cur.toList=bv (List.replicate n 0):=by rw[<-h,jx (by simp[f])]
 rw[<-this]
def aK(f:Bool):Int:=if f then 0 else 1
def xU(f:Bool):W8 (aK f):=by cases f<;>simp[aK,W8]
def vA(f:Bool)(w:ω):Calls prog 173 #[β f] w λe a=>e=ξ (ι Δ (aK f))/\a=w:=by
 cases f
 ·go_enter func173,ntmps173;go_wp2;go_ret;exact⟨rfl,rfl⟩
 go_enter func173,ntmps173;go_wp2;go_ret;exact⟨rfl,rfl⟩
def xV(key:List Int)(s n:Int)(l:List Int):(bv (iR key s n l)).toArray= #[ι Δ (aa (dh key (ai s 2 n++l)) 0),ι Δ (aa (dh key (ai s 2 n++l)) 1),ι Δ (aa (dh key (ai s 2 n++l)) 2),ι Δ (aa (dh key (ai s 2 n++l)) 3),ι Δ (aa (dh key (ai s 2 n++l)) 4),ι Δ (aa (dh key (ai s 2 n++l)) 5),ι Δ (aa (dh key (ai s 2 n++l)) 6),ι Δ (aa (dh key (ai s 2 n++l)) 7)]:=rfl
def xW(h:w.heap[b]?=μ (ο (bv L).toArray T (0,0)))(hl:∀x∈L,W8 x)(o n c:Nat)(f:o+n<=L.length)(a:n<=c)(d:c<=maxLen):bN w (μ ⟨b,o,ν⟩) n c ((L.drop o).take n):=
 ⟨λx e=>hl x (iH (jg e)),by simp;omega,a,d,ψ ⟨b,o,rfl,(vq h hl o).take n⟩⟩
def LN(H R l:List Int)(a:H.length=8):splice (splice R 0 H) 8 l=H++(l++R.drop (l.length+8)):=by
 have e:splice R 0 H=H++R.drop 8:=by simp[splice,a]
 have e2:8+(8+l.length-8)=l.length+8:=by omega
 rw[e];unfold splice;rw[wj (by omega),tL_,List.drop_append,a,dL_,jL,uv,e2]
def LO(H l m a:List Int)(b:H.length=8)(c:m.length=l.length):splice (H++(l++a)) 8 m=H++(m++a):=by
 have e2:8+m.length-8=l.length:=by omega
 unfold splice;rw[wj (by omega),tL_,List.drop_append,b,dL_,jL,e2,List.drop_append,dL_,jL,sP,qI]
def LQ(H m a T:List Int)(b:H.length=8)(c:T.length=a.length):splice (H++(m++a)) (8+m.length) T=H++(m++T):=by
 have e:(H++m).length=8+m.length:=by rw[bF,b]
 unfold splice;rw[<-fm H m a,wj (by omega),tL_,List.drop_append,dL_,jL,dL_,mW,fm]
def DT(H l a:List Int)(b:H.length=8):((H++(l++a)).drop 8).take l.length=l:=by
 rw[List.drop_append,b,dL_,jL,sP,qI,wj (aP _),jx (aP _)]
def vB(hl:∀x∈K,W8 x):∀x∈dJ L p q K,W8 x:=by
 intro x a;obtain⟨i,_,rfl⟩:=eU.1 a;exact DK (qL hl i) (Ab _ _)
def LR(a:∀x∈M,W8 x):∀x∈gl p++(M++List.replicate 8 0),W8 x:=by
 intro x b;obtain h|h:=bL.1 b
 exact qo p x h;obtain h|h:=bL.1 h
 exact a x h;rw[(List.mem_replicate.1 h).2];unfold W8;omega
def DU{f e d c a:υ}(u0 u1 u2 u3 u4 u5 u6 u7:υ)(h:w.heap[b]?=μ (ο #[x,y,z,f,e,d,c,a] T (0,0))):
 ((((((((ζ w ⟨b,0,ν⟩ u0).setCell ⟨b,1,ν⟩ u1).setCell ⟨b,2,ν⟩ u2).setCell ⟨b,3,ν⟩ u3).setCell ⟨b,4,ν⟩ u4).setCell ⟨b,5,ν⟩ u5).setCell ⟨b,6,ν⟩ u6).setCell ⟨b,7,ν⟩ u7).heap[b]?=μ (ο #[u0,u1,u2,u3,u4,u5,u6,u7] T (0,0)):=by
 have h0:(ζ w ⟨b,0,ν⟩ u0).heap[b]?=μ (ο #[u0,y,z,f,e,d,c,a] T (0,0)):=heap_set h u0;have g:((ζ w ⟨b,0,ν⟩ u0).setCell ⟨b,1,ν⟩ u1).heap[b]?=μ (ο #[u0,u1,z,f,e,d,c,a] T (0,0)):=heap_set h0 u1;have i:(((ζ w ⟨b,0,ν⟩ u0).setCell ⟨b,1,ν⟩ u1).setCell ⟨b,2,ν⟩ u2).heap[b]?=μ (ο #[u0,u1,u2,f,e,d,c,a] T (0,0)):=heap_set g u2;have j:((((ζ w ⟨b,0,ν⟩ u0).setCell ⟨b,1,ν⟩ u1).setCell ⟨b,2,ν⟩ u2).setCell ⟨b,3,ν⟩ u3).heap[b]?=μ (ο #[u0,u1,u2,u3,e,d,c,a] T (0,0)):=heap_set i u3;have k:(((((ζ w ⟨b,0,ν⟩ u0).setCell ⟨b,1,ν⟩ u1).setCell ⟨b,2,ν⟩ u2).setCell ⟨b,3,ν⟩ u3).setCell ⟨b,4,ν⟩ u4).heap[b]?=μ (ο #[u0,u1,u2,u3,u4,d,c,a] T (0,0)):=heap_set j u4;have l:((((((ζ w ⟨b,0,ν⟩ u0).setCell ⟨b,1,ν⟩ u1).setCell ⟨b,2,ν⟩ u2).setCell ⟨b,3,ν⟩ u3).setCell ⟨b,4,ν⟩ u4).setCell ⟨b,5,ν⟩ u5).heap[b]?=μ (ο #[u0,u1,u2,u3,u4,u5,c,a] T (0,0)):=heap_set k u5;have m:(((((((ζ w ⟨b,0,ν⟩ u0).setCell ⟨b,1,ν⟩ u1).setCell ⟨b,2,ν⟩ u2).setCell ⟨b,3,ν⟩ u3).setCell ⟨b,4,ν⟩ u4).setCell ⟨b,5,ν⟩ u5).setCell ⟨b,6,ν⟩ u6).heap[b]?=μ (ο #[u0,u1,u2,u3,u4,u5,u6,a] T (0,0)):=heap_set l u6;have n:((((((((ζ w ⟨b,0,ν⟩ u0).setCell ⟨b,1,ν⟩ u1).setCell ⟨b,2,ν⟩ u2).setCell ⟨b,3,ν⟩ u3).setCell ⟨b,4,ν⟩ u4).setCell ⟨b,5,ν⟩ u5).setCell ⟨b,6,ν⟩ u6).setCell ⟨b,7,ν⟩ u7).heap[b]?=μ (ο #[u0,u1,u2,u3,u4,u5,u6,u7] T (0,0)):=heap_set m u7;exact n
def s7{cs:List υ}(h:W.rangeAt n 0 cs/\γ w W ν)(g:γ W v ν):v.rangeAt n 0 cs/\γ w v ν:=
 ⟨jn h.1 g (by simp),aq h.2 g⟩
def lN{cs:List υ}(h:W.rangeAt n 0 cs/\γ w W ν)(a:w.heap.size<=b)(c:n<w.heap.size)(o:Nat)(v:υ):(ζ W ⟨b,o,ν⟩ v).rangeAt n 0 cs/\γ w (ζ W ⟨b,o,ν⟩ v) ν:=
 ⟨wV h.1 _ _ (by dsimp only;omega),aM h.2 _ _ (φ a)⟩
def tI{x:Obj}(h:w.heap[b]?=μ x)(g:γ w W ν):W.heap[b]?=μ x:=ja h g
def LS(key:List Int)(f:Bool)(n:Int)(a:Option Addr)(m cap:Nat)(l:List Int)(w:ω)(T:eP key)(U:aW n)(p:bN w a m cap l)(hl:l.length<=50000000):
 Calls prog 148 #[ε (cV key),β f,ι η n,σ a m cap] w λe i=>
  ∃g,e=ξ (σ (μ ⟨g,0,ν⟩) (l.length+16) (l.length+16))/\w.heap.size<=g/\i.heap[g]?=μ (ο (bv (dq key (aK f) n l)).toArray 5 (0,0))/\γ w i ν:=by
 have ch:=p.2.1;subst ch;have cC:=p.2.2.1;have cj:=p.2.2.2.1;unfold maxLen at cj;have bb:=p.1;have c9:(prog.info? 24).map (·.size)=μ (bv key).length:=by rw[fX,T.1];exact nJ
 have db:=underlying24;go_enter func148,ntmps148;go_wp2_with (at_make;refine DS _ _ (by rfl) (by rfl) _ (l.length+16) (by rfl) (by rfl) (by omega) (by omega) ?_;intro H I V);have bj:Below w.heap.size w H:=((Below.refl _ w).alloc (aP _) _).grown V (by simp) (λk e=>by cases e);have cp:=V.size;rw[eh]at cp I;have de:w.heap.size+1<H.heap.size:=(bg.1 I).1;have br:H.heap[w.heap.size]?=μ (ο (cV key) 24 (0,0)):=ja (aO _ _) V;apply(xR n _ U).mono;rintro e X⟨rfl,g2⟩;rw[tC];obtain⟨z,s⟩:=exq (X.alloc (ο #[ι Δ (aa n 0),ι Δ (aa n 1),ι Δ (aa n 2),ι Δ (aa n 3),ι Δ (aa n 4),ι Δ (aa n 5),ι Δ (aa n 6),ι Δ (aa n 7)] 300));have Y:γ H z ν:=by rw[s];exact bk g2 _
 have bt:z.heap[X.heap.size]?=μ (ο (bv (gl n)).toArray 300 (0,0)):=by rw[s];exact aO _ _
 have al:=ja I Y;have ax:=ja br Y;have K:Below w.heap.size w z:=bj.grown Y bj.size (λk e=>by cases e);have dg:=g2.size;have A:=xW bt (qo n) 0 8 8 (by simp[iQ]) (by omega) (by simp[maxLen]);rw[qI,jx (by simp[iQ])]at A;have bx:=p.au (uA K);have e1:(gl n).take (l.length+16)=gl n:=jx (by simp[iQ]);have e2:l.take (8+l.length-8)=l:=tL_;have L:∀W':ω,γ z W' (μ (w.heap.size+1))->bN W' a l.length cap l:=λW' g=>bx.gb g (λj e=>by
  cases e;by_cases bz:l=[]
  exact ψ (φ bz)
  ·right;right;intro x N;obtain⟨h,_⟩|⟨b,o,h,cv⟩:=p.2.2.2.2
   rw[h]at N;cases N
   ·rw[h]at N;cases N;have:=cv.lt bz;dsimp only
    omega)
 replace⟨A,al,e1,e2,L⟩:=fF A al e1 e2 L;clear bx I bt br;replace p:=J p;go_wp2_with (first|(refine uD _ _ (by rfl) (by rfl) (w.heap.size+1) 0 (l.length+16) (l.length+16) (by rfl) (μ ⟨X.heap.size,0,ν⟩) 8 8 (by rfl) (gl n) ?_ (List.replicate (l.length+16) 0) 5 ?_ ?_ ?_;(rw[<-s];exact Z A);(rw[<-s];exact Z al);(rw[Z e1];simp[iQ]);(rw[Z e1,<-s];intro w4 b0 B))|(refine uD _ _ (by rfl) (by rfl) (w.heap.size+1) 8 (8+l.length-8) (l.length+8) (by rfl) _ _ _ (by rfl) l (Z L _ B) (splice (List.replicate (l.length+16) 0) 0 (gl n)) 5 b0 ?_ ?_;(rw[Z e2,length_splice _ _ _ (by simp[iQ])];simp;omega);(rw[Z e2];intro q O g5)));have P:q.heap[w.heap.size]?=μ (ο (cV key) 24 (0,0)):=by
  have dk:=B.size;have h3:w.heap.size<z.heap.size:=(bg.1 ax).1;exact(g5.block _ (by omega) (by simp)).trans ((B.block _ h3 (by simp)).trans ax)
 have b3:q.drew.rangeAt w.heap.size 0 (bv key):=kN (w:=q.drew) P;have Q:Below w.heap.size w q:=(K.grown B K.size (λk e=>by cases e;omega)).grown g5 (by have:=K.size;have:=B.size;omega) (λk e=>by cases e;omega);obtain⟨r,t⟩:=exq (gl n++(l++List.replicate 8 0));rw[LN _ _ _ (iQ n),List.drop_replicate,show l.length+16-(l.length+8)=8 by omega]at O;have b4:r.length=l.length+16:=by rw[t];simp[iQ];omega
 have aC:∀x∈r,W8 x:=by
  rw[t];intro x hx;obtain h|h:=bL.1 hx
  exact qo n x h;obtain h|h:=bL.1 h
  exact bb x h;rw[(List.mem_replicate.1 h).2];unfold W8;omega
 have a0:splice r 8 (dJ key (aK f) n ((r.drop 8).take l.length))=gl n++(dJ key (aK f) n l++List.replicate 8 0):=by
  rw[t,DT _ _ _ (iQ n),LO _ _ _ _ (iQ n) (oa _ _ _ _)]
 rw[<-t]at O;have a1:q.drew.heap[w.heap.size+1]?=μ (ο (bv r).toArray 5 (0,0)):=O;replace⟨a1,P⟩:=bD a1 P;clear O b0 ax;have dn:=Q.size;have a2:8+l.length<=r.length:=by omega
 replace⟨t,b4,aC,a2,a0⟩:=fF t b4 aC a2 a0;clear s L e1 e2 A;go_region_held3 (λi=>i.rangeAt w.heap.size 0 (bv key))
  (with_reducible first|exact b5|exact b3)
  (first
    |(go_at_call 173;apply(vA f _).mono;rintro e i⟨rfl,rfl⟩)
    |(go_at_call 174;refine(DR key (aK f) n (w.heap.size+1) 8 l.length (l.length+8) r 5 _ T (xU f) U (Z aC) (Z a2) (by omega) (by simp[maxLen];omega) (Z a1)).mono ?_;rintro e d⟨rfl,C,D⟩;rw[Z a0]at C;have b5:=jn b3 D (by simp);replace C:=J C;replace D:=J D))
 go_wp2_with fail;have E:=Z C;have a3:=Z D;clear C;replace D:=J a3;have ds:=a3.size;have c:w.heap.size<d.heap.size:=by
  have h5:q.drew.heap.size=q.heap.size:=rfl;have h6:=(bg.1 (Z P)).1;omega
 obtain⟨M,u⟩:=exq (dJ key (aK f) n l);rw[<-u]at E;have F:M.length=l.length:=by rw[u];exact oa _ _ _ _
 have a4:∀x∈M,W8 x:=by rw[u];exact vB bb
 have bM:=xW E (LR a4) 8 M.length (l.length+8) (by simp[iQ]) (by omega) (by simp[maxLen];omega);rw[DT _ _ _ (iQ n)]at bM;have hT:Hid (∀W:ω,(W.rangeAt w.heap.size 0 (bv key)/\γ d W ν)->Calls prog 172 #[ε (bv key).toArray,ι Δ (aK f),ι η n,σ (μ ⟨w.heap.size+1,8,ν⟩) l.length (l.length+8)] W λe i=>e=ξ (ε (bv (iR key (aK f) n M)).toArray)/\γ W i ν):=J (λW h=>by
  have:=DP key (aK f) n _ _ _ M W T (xU f) U (bM.au h.2) (by omega);rw[F]at this;exact this)
 have b7:d.drew.rangeAt w.heap.size 0 (bv key)/\γ d d.drew ν:=⟨λj v h=>b5 j v h,aY (aD _ _)⟩
 replace⟨E,u,F,a4⟩:=fE E u F a4;clear bM;go_cut [12] (λv wx=>∃G:Nat,v=π (μ ⟨G,0,ν⟩)/\d.heap.size<=G/\wx.heap[G]?=μ (ο (bv (iR key (aK f) n M)).toArray 300 (0,0))/\γ d wx ν);case first=>
  go_region_held3 (λi=>i.rangeAt w.heap.size 0 (bv key)/\γ d i ν)
   (first|with_reducible exact y|with_reducible exact b7|(with_reducible exact(lN (lN (lN (lN (lN (lN (lN (lN y (aP _) c _ _) (aP _) c _ _) (aP _) c _ _) (aP _) c _ _) (aP _) c _ _) (aP _) c _ _) (aP _) c _ _) (aP _) c _ _))|with_reducible exact s7 y (aJ _ _ ν)|with_reducible exact s7 b7 (aJ _ _ ν))
   (first
     |(go_at_call 173;apply(vA f _).mono;rintro e i⟨rfl,rfl⟩)
     |(go_at_call 172;apply(Z hT _ (by assumption)).mono;rintro e w7⟨rfl,g7⟩;rw[xV];have y:=s7 (w:=d) (by assumption) g7;first|(have R:w7.heap[d.heap.size]?=μ (ο #[ι Δ 0,ι Δ 0,ι Δ 0,ι Δ 0,ι Δ 0,ι Δ 0,ι Δ 0,ι Δ 0] 300 (0,0)):=tI (aO d.drew _) g7;have cw:=rX R;replace R:=J R;obtain⟨⟨z0,z1,z2,z3,z4,z5,z6,z7⟩,zf⟩:=cw)|skip))
  all_goals
   go_wp2
   go_meet
   refine⟨_,rfl,?_,?_,?_⟩
   first|with_reducible exact aP _|with_reducible exact y.2.size
   rw[xV]
   first|with_reducible exact DU _ _ _ _ _ _ _ _ (Z R)|with_reducible exact aO _ _
   first|with_reducible exact(lN (lN (lN (lN (lN (lN (lN (lN y (aP _) c _ _) (aP _) c _ _) (aP _) c _ _) (aP _) c _ _) (aP _) c _ _) (aP _) c _ _) (aP _) c _ _) (aP _) c _ _).2|with_reducible exact bk y.2 _
 case rest=>
  obtain⟨G,rfl,dx,a8,g8⟩:=hcut;rename_i wx;have cx:=J (ja (Z E) g8);have S:=xW a8 (qo _) 0 8 8 (by simp[iR,iQ]) (by omega) (by simp[maxLen]);rw[qI,jx (by simp[iR,iQ])]at S;replace⟨S,a8⟩:=bD S a8;go_wp2_with fail;have dE:IntKind.i64.wrap (8+(l.length:Int))=8+(l.length:Int):=wI_;have dG:(0:Int)<=8+(l.length:Int):=by omega
  have ea:8+(l.length:Int)<=(l.length:Int)+16:=by omega
  have ee:(8+(l.length:Int)).toNat=8+l.length:=by omega
  have ei:(l.length+16=8+l.length)=False:=by simp;omega
  have ej:l.length+16-(8+l.length)=8:=by omega
  have ca:Hid ((iR key (aK f) n M).take 8=iR key (aK f) n M):=J (jx (by simp[iR,iQ]));have cy:Hid (8+l.length+(iR key (aK f) n M).length<=(gl n++(M++List.replicate 8 (0:Int))).length):=J (by
   have h1:(iR key (aK f) n M).length=8:=by simp[iR,iQ]
   have h2:=Z F;have h3:=iQ n;simp only[bF,wC]
   omega)
  go_region_held3 (λ_=>True) (trivial) ((refine GR _ _ (by rfl) (by rfl) (w.heap.size+1) (8+l.length) 8 8 (by rfl) (μ ⟨G,0,ν⟩) 8 8 (by rfl) (iR key (aK f) n M) (DO (Z S)) (gl n++(M++List.replicate 8 0)) 5 (Z cx) ?_ ?_;(rw[Z ca];exact Z cy);(rw[Z ca];intro w9 a9 g9;replace a9:=J a9)));go_wp2;go_ret;refine⟨w.heap.size+1,rfl,by omega,?_,?_⟩
  have h9:=Z a9;rw[<-Z F,LQ _ _ _ _ (iQ n) (by simp[iR,iQ]),Z u]at h9;unfold dq;rw[fm];exact h9;have b6:Below w.heap.size w d:=(Q.grown (aY (aD q ν)) Q.size (λk e=>by cases e)).grown a3 Q.size (λk e=>by cases e;omega);have b8:Below w.heap.size w wc:=b6.grown g8 b6.size (λk e=>by cases e);exact uA ((b8.grown (aY (aD wc ν)) b8.size (λk e=>by cases e)).grown g9 b8.size (λk e=>by cases e;omega))
def Np(a b c d e f g h i j k l m n p q:Int)(w:ω):(Op.equalIn 10000 300 (ε #[ι Δ a,ι Δ b,ι Δ c,ι Δ d,ι Δ e,ι Δ f,ι Δ g,ι Δ h]) (ε #[ι Δ i,ι Δ j,ι Δ k,ι Δ l,ι Δ m,ι Δ n,ι Δ p,ι Δ q])).run prog w=.ok (decide ([a,b,c,d,e,f,g,h]=[i,j,k,l,m,n,p,q])) w:=by
 have u3:=underlying5;have z:=isAgg5;have A:=sizeOf5;rw[show(10000:Nat)=9999+1 from rfl,Op.equalIn];simp only[ka,wK underlying300,jh]
 simp only[Std.Legacy.Range.forIn_eq_forIn_range',Std.Legacy.Range.size,Nat.sub_zero,sK,Nat.div_one,List.range'_succ,List.range'_zero,List.forIn_cons,List.forIn_nil]
 by_cases h0:a=i;case neg=>go_simp
 by_cases r:b=j;case neg=>go_simp
 by_cases s:c=k;case neg=>go_simp
 by_cases t:d=l;case neg=>go_simp
 by_cases u:e=m;case neg=>go_simp
 by_cases v:f=n;case neg=>go_simp
 by_cases x:g=p;case neg=>go_simp
 by_cases y:h=q;case neg=>go_simp
 subst h0 r s t u v x y;go_simp
def Ei(key:List Int)(f:Bool)(a:Option Addr)(m cap:Nat)(l:List Int)(w:ω)(c:bN w a m cap l)(hl:l.length<16\/300<l.length):
 Calls prog 135 #[ε (cV key),β f,σ a m cap] w λe d=>e=ξ (τ #[ι η 0,σ ν 0 0,.iface 34 (ι δ 4)])/\γ w d ν:=by
 generalize cV key=K at *;have g:m=l.length:=c.2.1;subst g;clear c;have b:∀W,W=w.alloc (ο K 24)->γ w W ν:=by rintro W rfl;exact aJ _ _ _
 replace b:=J b;obtain hl|hl:=hl
 ·have h:decide ((l.length:Int)<16)=ρ:=by simp;omega
  go_enter func135,ntmps135;go_wp2;go_ret3;exact⟨rfl,Z b _ rfl⟩
 have h:decide ((l.length:Int)<16)=θ:=by simp;omega
 have i:decide (300<(l.length:Int))=ρ:=by simp;omega
 go_enter func135,ntmps135;go_wp2;go_ret3;exact⟨rfl,Z b _ rfl⟩
def Ej{ob:Obj}(g:(w.drew.alloc ob).grownBy W ν):W.heap[w.heap.size]?=μ ob:=tI (aO w.drew ob) g
def Ek{ob:Obj}(g:(w.alloc ob).drew.grownBy W ν):W.heap[w.heap.size]?=μ ob:=tI (w:=(w.alloc ob).drew) (aO w ob) g
def Nq(g:γ W w.drew ν)(ob:Obj):γ W (w.alloc ob).drew ν:=aq g (aJ w.drew ob ν)
def Em{ob:Obj}(g:(w.alloc ob).grownBy W ν):W.heap[w.heap.size]?=μ ob:=tI (aO w ob) g
def En(g:γ W w ν)(a:W.heap.size<=b)(u0 u1 u2 u3 u4 u5 u6 u7:υ):γ W ((((((((ζ w ⟨b,0,ν⟩ u0).setCell ⟨b,1,ν⟩ u1).setCell ⟨b,2,ν⟩ u2).setCell ⟨b,3,ν⟩ u3).setCell ⟨b,4,ν⟩ u4).setCell ⟨b,5,ν⟩ u5).setCell ⟨b,6,ν⟩ u6).setCell ⟨b,7,ν⟩ u7) ν:=
 aM (aM (aM (aM (aM (aM (aM (aM g _ _ (φ a)) _ _ (φ a)) _ _ (φ a)) _ _ (φ a)) _ _ (φ a)) _ _ (φ a)) _ _ (φ a)) _ _ (φ a)
def Nr(n:Nat)(m:List Int)(h:m.length=n):splice (List.replicate n 0) 0 m=m:=by
 unfold splice;rw[List.take_zero,jL,ep,List.drop_of_length_le (by simp;omega),mW]
def Nt(m k:List Int)(h:m.length=k.length):splice m 0 k=k:=by
 unfold splice;rw[List.take_zero,jL,ep,dL_,mW]
def s5{wc:ω}{cs:List υ}{a b c d e:υ}(h:w.rangeAt n 0 cs/\(κ w ⟨k,0,ν⟩=μ x/\κ w ⟨k,1,ν⟩=μ y/\κ w ⟨k,2,ν⟩=μ z/\κ w ⟨k,3,ν⟩=μ a/\κ w ⟨k,4,ν⟩=μ b/\κ w ⟨k,5,ν⟩=μ c/\κ w ⟨k,6,ν⟩=μ d/\κ w ⟨k,7,ν⟩=μ e)/\γ wc w ν)(g:γ w W ν):
 W.rangeAt n 0 cs/\(κ W ⟨k,0,ν⟩=μ x/\κ W ⟨k,1,ν⟩=μ y/\κ W ⟨k,2,ν⟩=μ z/\κ W ⟨k,3,ν⟩=μ a/\κ W ⟨k,4,ν⟩=μ b/\κ W ⟨k,5,ν⟩=μ c/\κ W ⟨k,6,ν⟩=μ d/\κ W ⟨k,7,ν⟩=μ e)/\γ wc W ν:=by
 obtain⟨f,⟨c0,c1,c2,c3,c4,c5,c6,c7⟩,i⟩:=h;exact⟨jn f g (by simp),⟨gC_ g c0,gC_ g c1,gC_ g c2,gC_ g c3,gC_ g c4,gC_ g c5,gC_ g c6,gC_ g c7⟩,aq i g⟩
def Eo(key:List Int)(f:Bool)(a:Option Addr)(m cap:Nat)(l:List Int)(w:ω)(hk:eP key)(M:bN w a m cap l)(dG:16<=l.length:=by omega)(ea:l.length<=300:=by omega):
 Calls prog 135 #[ε (cV key),β f,σ a m cap] w λe b=>
  ((eH key (aK f) l/\∃V c',e=ξ (τ #[ι η (bm l),σ V (l.length-16) c',.nilIface])/\bN b V (l.length-16) c' (dJ key (aK f) (bm l) (bX l))/\(∀x,V=μ x->w.heap.size<=x.block)/\(l.length=16->V=ν))\/
    (¬eH key (aK f) l/\e=ξ (τ #[ι η 0,σ ν 0 0,.iface 34 (ι δ 4)])))/\γ w b ν:=by
 have e6:(prog.info? 24).map (·.size)=μ (bv key).length:=by rw[fX,hk.1];exact nJ
 have e7:=underlying24;have ee:m=l.length:=M.2.1;subst ee;have ei:=M.2.2.1;have ej:=M.2.2.2.1;unfold maxLen at ej;have G:=M.1;obtain⟨-,-,-,-,h5⟩:=M;obtain⟨rfl,rfl⟩|⟨p,o,rfl,cv⟩:=h5
 omega;have h1:decide ((l.length:Int)<16)=θ:=by simp;omega
 have h2:decide (300<(l.length:Int))=θ:=by simp;omega
 obtain⟨d,O⟩:=exq (w.alloc (ο (cV key) 24));have P:γ w d ν:=by rw[O];exact aJ _ _ _
 have bz:d.heap[w.heap.size]?=μ (ο (cV key) 24 (0,0)):=by rw[O];exact aO _ _
 have Q:=cv.gb P;have hA:Hid (∀W:ω,γ d W ν->Calls prog 170 #[σ (μ ⟨p,o,ν⟩) l.length cap] W λe b=>e=ξ (ε (bv (l.take 8)).toArray)/\γ W b ν):=J (λW g=>
  DH _ _ _ l W ⟨G,rfl,ei,by simp[maxLen];omega,ψ ⟨p,o,rfl,Q.gb g⟩⟩ (by omega))
 have hN:Hid (∀W:ω,Calls prog 171 #[ε (bv (l.take 8)).toArray] W λe b=>e=ξ (ι η (bm l))/\γ W b ν):=J (λW=>
  Lq _ W (by simp;omega) (λx k=>G x (jg k)))
 have X:(qY l).length=8:=by simp[qY];omega
 obtain⟨s,t,u,v,y,z,A,B,k⟩:=Ac X;have hB:Hid (∀W:ω,γ d W ν->Calls prog 170 #[σ (μ ⟨p,o+(l.length-8),ν⟩) (l.length-(l.length-8)) (cap-(l.length-8))] W λe b=>e=ξ (ε #[ι Δ s,ι Δ t,ι Δ u,ι Δ v,ι Δ y,ι Δ z,ι Δ A,ι Δ B])/\γ W b ν):=J (λW g=>by
  have:=DH (μ ⟨p,o+(l.length-8),ν⟩) (l.length-(l.length-8)) (cap-(l.length-8)) (qY l) W ⟨λx k=>G x (iH k),by rw[X];omega,by omega,by simp[maxLen];omega,ψ ⟨p,_,rfl,(Q.gb g).drop _⟩⟩ (by omega);rw[tL_,k]at this;exact this)
 have jq:∀W,(Instr.slice 112 (σ (μ ⟨p,o,ν⟩) l.length cap) (μ (ι δ ((l.length:Int)-8))) ν ν).run prog W=.ok (σ (μ ⟨p,o+(l.length-8),ν⟩) (l.length-(l.length-8)) (cap-(l.length-8))) W:=λW=>by
  have:=Lx p o l.length cap (l.length-8) (by omega) (by omega) W;rwa[show((l.length-8:Nat):Int)=(l.length:Int)-8 by omega]at this
 have fa:IntKind.i64.wrap ((l.length:Int)-8)=(l.length:Int)-8:=wI_;have fb:(0:Int)<=l.length-8:=by omega
 have ff:(8:Int)<=l.length-8:=by omega
 have fo:(l.length:Int)-8<=(cap:Int):=by omega
 have fq:(l.length:Int)-8<=(l.length:Int):=by omega
 have fs:((l.length:Int)-8).toNat=l.length-8:=by omega
 have fy:(cap=l.length-8)=False:=by simp;omega
 have fA:(cap=8)=False:=by simp;omega
 replace⟨k,G,X,Q,bz⟩:=fF k G X Q bz;clear cv;have Y:γ d d.drew ν:=aY (aD _ _);go_enter func135,ntmps135;go_upto_region 4 with fail;rw[<-O];replace O:=J O;go_cut [10,11,12] (λeo et eu wx=>∃c:Nat,eo=ι η (bm l)/\et=σ (μ ⟨p,o+8,ν⟩) (l.length-16) (cap-8)/\eu=π (μ ⟨c,0,ν⟩)/\d.heap.size<=c/\wx.heap[c]?=μ (ο #[ι Δ s,ι Δ t,ι Δ u,ι Δ v,ι Δ y,ι Δ z,ι Δ A,ι Δ B] 300 (0,0))/\γ d wx ν);case first=>
  go_region_held3 (λb=>γ d b ν)
   (with_reducible first|exact K|exact bM|exact b0|exact Y|exact En K D _ _ _ _ _ _ _ _|exact bk K _|exact bk bM _|exact bk b0 _|exact bk Y _|exact Nq Y _)
   (first
     |(go_at_call 171;apply(Z hN _).mono;rintro e w3⟨rfl,R⟩;have bM:=aq (w:=d) (by assumption) R;first|(have i:=J (Ek R);have D:d.heap.size<=d.heap.size:=aP _)|(have i:=J (Ej R);have D:d.heap.size<=d.heap.size:=aP _)|(have i:=J (Em R);have D:=b0.size)|(have i:=J (tI (Z i) R))|skip)
     |(go_at_call 170;apply(Z hA _ (by assumption)).mono;rintro e w2⟨rfl,g2⟩;have b0:=aq (w:=d) (by assumption) g2;first|(have i:=J (Ek g2);have D:d.heap.size<=d.heap.size:=aP _)|(have i:=J (Ej g2);have D:d.heap.size<=d.heap.size:=aP _)|skip)
     |(go_at_call 170;apply(Z hB _ (by assumption)).mono;rintro e w4⟨rfl,g4⟩;have K:=aq (w:=d) (by assumption) g4;first|(have i:=Em g4;have D:=bM.size;obtain⟨⟨z0,z1,z2,z3,z4,z5,z6,z7⟩,zf⟩:=rX i;replace i:=J i)|(have i:=tI (Z i) g4;obtain⟨⟨z0,z1,z2,z3,z4,z5,z6,z7⟩,zf⟩:=rX i;replace i:=J i)|skip))
  all_goals
   go_wp2
   go_meet
   refine⟨_,rfl,by rw[Nat.sub_sub],rfl,?_,?_,?_⟩
   first|with_reducible exact D|with_reducible exact K.size
   first|with_reducible exact DU _ _ _ _ _ _ _ _ (Z i)|with_reducible exact aO _ _
   first|with_reducible exact En K D _ _ _ _ _ _ _ _|with_reducible exact bk K _
 case rest=>
  obtain⟨c,rfl,rfl,rfl,D,i,L⟩:=hcut;have ey:=rX i;obtain⟨⟨z0,z1,z2,z3,z4,z5,z6,z7⟩,-⟩:=ey;have S:=ja (Z bz) L;have cC:wc.drew.rangeAt w.heap.size 0 (bv key)/\(wc.drew.cell? ⟨c,0,ν⟩=μ (ι Δ s)/\wc.drew.cell? ⟨c,1,ν⟩=μ (ι Δ t)/\wc.drew.cell? ⟨c,2,ν⟩=μ (ι Δ u)/\wc.drew.cell? ⟨c,3,ν⟩=μ (ι Δ v)/\wc.drew.cell? ⟨c,4,ν⟩=μ (ι Δ y)/\wc.drew.cell? ⟨c,5,ν⟩=μ (ι Δ z)/\wc.drew.cell? ⟨c,6,ν⟩=μ (ι Δ A)/\wc.drew.cell? ⟨c,7,ν⟩=μ (ι Δ B))/\γ wc wc.drew ν:=
   ⟨kN (w:=wc.drew) S,⟨z0,z1,z2,z3,z4,z5,z6,z7⟩,aY (aD _ _)⟩
  replace⟨S,i⟩:=bD S i;clear z0 z1 z2 z3 z4 z5 z6 z7 jq hA hN hB Y;have T:(bX l).length=l.length-16:=by simp[bX];omega
  have a4:Hid (bN wc (μ ⟨p,o+8,ν⟩) (l.length-16) (cap-8) (bX l)):=
   J ⟨λx k=>(Z G) x (iH (jg k)),T.symm,by omega,by simp only[maxLen];omega,ψ ⟨p,o+8,rfl,(((Z Q).gb L).drop 8).take _⟩⟩
  have c9:aW (bm l):=by
   have h8:=vu l (Z G) 8 (by omega);exact⟨h8.1,by have:=h8.2;unfold bm;omega⟩
  have hT:Hid (∀W:ω,(W.rangeAt w.heap.size 0 (bv key)/\(κ W ⟨c,0,ν⟩=μ (ι Δ s)/\κ W ⟨c,1,ν⟩=μ (ι Δ t)/\κ W ⟨c,2,ν⟩=μ (ι Δ u)/\κ W ⟨c,3,ν⟩=μ (ι Δ v)/\κ W ⟨c,4,ν⟩=μ (ι Δ y)/\κ W ⟨c,5,ν⟩=μ (ι Δ z)/\κ W ⟨c,6,ν⟩=μ (ι Δ A)/\κ W ⟨c,7,ν⟩=μ (ι Δ B))/\γ wc W ν)->Calls prog 172 #[ε (bv key).toArray,ι Δ (aK f),ι η (bm l),σ (μ ⟨p,o+8,ν⟩) (l.length-16) (cap-8)] W λe b=>e=ξ (ε (bv (iR key (aK f) (bm l) (bX l))).toArray)/\γ W b ν):=J (λW h=>
   DP key (aK f) (bm l) _ _ _ (bX l) W hk (xU f) c9 ((Z a4).au h.2.2) (by omega))
  replace T:=J T;by_cases hn:bm l<=4611686018427387903
  ·have db:decide (4611686018427387903<bm l)=θ:=by simp;omega
   obtain⟨N,F⟩:=exq (bm l);have bb:=Np s t u v y z A B (aa (dh key (ai (aK f) 2 N++bX l)) 0) (aa (dh key (ai (aK f) 2 N++bX l)) 1) (aa (dh key (ai (aK f) 2 N++bX l)) 2) (aa (dh key (ai (aK f) 2 N++bX l)) 3) (aa (dh key (ai (aK f) 2 N++bX l)) 4) (aa (dh key (ai (aK f) 2 N++bX l)) 5) (aa (dh key (ai (aK f) 2 N++bX l)) 6) (aa (dh key (ai (aK f) 2 N++bX l)) 7);have bj:([s,t,u,v,y,z,A,B]=[aa (dh key (ai (aK f) 2 N++bX l)) 0,aa (dh key (ai (aK f) 2 N++bX l)) 1,aa (dh key (ai (aK f) 2 N++bX l)) 2,aa (dh key (ai (aK f) 2 N++bX l)) 3,aa (dh key (ai (aK f) 2 N++bX l)) 4,aa (dh key (ai (aK f) 2 N++bX l)) 5,aa (dh key (ai (aK f) 2 N++bX l)) 6,aa (dh key (ai (aK f) 2 N++bX l)) 7])=(iR key (aK f) (bm l) (bX l)=qY l):=by
    rw[Z k,<-F];exact propext ⟨λh=>h.symm,λh=>h.symm⟩
   have ez:aW N:=by rw[F];exact c9
   rw[<-F]at hT db⊢;replace F:=J F;by_cases H:iR key (aK f) (bm l) (bX l)=qY l
   ·have de:∀W,(Op.equalIn 10000 300 (ε #[ι Δ s,ι Δ t,ι Δ u,ι Δ v,ι Δ y,ι Δ z,ι Δ A,ι Δ B]) (ε #[ι Δ (aa (dh key (ai (aK f) 2 N++bX l)) 0),ι Δ (aa (dh key (ai (aK f) 2 N++bX l)) 1),ι Δ (aa (dh key (ai (aK f) 2 N++bX l)) 2),ι Δ (aa (dh key (ai (aK f) 2 N++bX l)) 3),ι Δ (aa (dh key (ai (aK f) 2 N++bX l)) 4),ι Δ (aa (dh key (ai (aK f) 2 N++bX l)) 5),ι Δ (aa (dh key (ai (aK f) 2 N++bX l)) 6),ι Δ (aa (dh key (ai (aK f) 2 N++bX l)) 7)])).run prog W=.ok ρ W:=λW=>by
     rw[bb W];simp only[bj,H,decide_true]
    have q:eH key (aK f) l:=⟨dG,ea,H,hn⟩
    clear bb bj;replace⟨H,q⟩:=bD H q;obtain⟨n,r⟩:=exq (l.length-16);rw[<-r];rw[<-r]at hT a4;replace r:=J r;go_wp2_with fail;go_region_held3 (λb=>b.rangeAt w.heap.size 0 (bv key)/\(κ b ⟨c,0,ν⟩=μ (ι Δ s)/\κ b ⟨c,1,ν⟩=μ (ι Δ t)/\κ b ⟨c,2,ν⟩=μ (ι Δ u)/\κ b ⟨c,3,ν⟩=μ (ι Δ v)/\κ b ⟨c,4,ν⟩=μ (ι Δ y)/\κ b ⟨c,5,ν⟩=μ (ι Δ z)/\κ b ⟨c,6,ν⟩=μ (ι Δ A)/\κ b ⟨c,7,ν⟩=μ (ι Δ B))/\γ wc b ν)
    (with_reducible first|exact C|exact cC)
    (first
      |(go_at_call 173;apply(vA f _).mono;rintro e b⟨rfl,rfl⟩)
      |(go_at_call 172;apply(Z hT _ (by assumption)).mono;rintro e I⟨rfl,g7⟩;rw[xV];have C:=s5 (wc:=wc) (by assumption) g7))
    clear de;by_cases E:n=0
    ·have hz:((n:Int)==0)=ρ:=by simp[E]
     have eD:(n==0)=ρ:=by simp[E]
     go_wp2;go_ret3;refine⟨φ ⟨Z q,ν,0,?_,?_,λx k=>(by cases k),λ_=>rfl⟩,aq P (aq L C.2.2)⟩
     rw[Z F,<-Z r,E];rfl;have eK:bX l=[]:=by rw[<-List.length_eq_zero_iff,Z T,<-Z r,E]
     rw[<-Z r,E,eK];exact⟨λx k=>(by cases k),rfl,aP _,by simp[maxLen],φ ⟨rfl,rfl⟩⟩
    have hz:((n:Int)==0)=θ:=by simp[E]
    have eD:(n==0)=θ:=by simp[E]
    have eL:=J E;clear E;have gh:n<=300:=by have:=Z r;omega
    have U:(bX l).length=n:=by rw[Z T,Z r]
    have b7:Hid ((bX l).take n=bX l):=J (tL_);have eS:Hid (0+(bX l).length<=(List.replicate n (0:Int)).length):=J (by simp;omega);have dg:=J (Z a4).1;replace U:=J U;go_wp2_with (first|(at_make;refine DS _ _ (by rfl) (by rfl) _ n (by rfl) (by rfl) (by omega) (by omega) ?_;intro w8 b8 g8;replace b8:=J b8)|(refine uD _ _ (by rfl) (by rfl) I.heap.size 0 n n (by rfl) (μ ⟨p,o+8,ν⟩) n (cap-8) (by rfl) (bX l) ((Z a4).au (aq C.2.2 g8)) (List.replicate n 0) 5 (Z b8) ?_ ?_;(rw[Z b7];exact Z eS);(rw[Z b7];intro w9 br g9;rw[Nr n _ (Z U)]at br;replace br:=J br)));have ds:w9.drew.rangeAt w.heap.size 0 (bv key):=by
     have h7:=C.2.2.size;have h8:=(bg.1 (Z S)).1;exact jn (jn C.1 g8 (by simp)) (aY g9) (λe=>by have:=aQ e;omega)
    have e4:Hid (w9.drew.heap[I.heap.size]?=μ (ο (bv (bX l)).toArray 5 (0,0))):=J (Z br);go_region_held3 (λb=>b.rangeAt w.heap.size 0 (bv key))
     (with_reducible first|exact e5|exact ds)
     (first
       |(go_at_call 173;apply(vA f _).mono;rintro e b⟨rfl,rfl⟩)
       |(go_at_call 174;refine(DR key (aK f) N I.heap.size 0 n n (bX l) 5 _ hk (xU f) ez (Z dg) (by have:=Z U;omega) (by omega) (by simp[maxLen];omega) (Z e4)).mono ?_;rintro e gj⟨rfl,ch,bt⟩;have e5:=jn ds bt (λe=>by have h6:=aQ e;have h7:=C.2.2.size;have h8:=(bg.1 (Z S)).1;omega);replace ch:=J ch;replace bt:=J bt))
    go_wp2;go_ret3;have dx:=Z ch;rw[qI,Z b7,Nt _ _ (by rw[oa])]at dx;have gq:(dJ key (aK f) N (bX l)).length=n:=by rw[oa,Z U]
    have dE:=xW dx (vB (Z dg)) 0 n n (by omega) (aP _) (by simp[maxLen];omega);rw[qI,tL_]at dE;have cj:γ w I ν:=aq P (aq L C.2.2);refine⟨φ ⟨Z q,μ ⟨I.heap.size,0,ν⟩,n,?_,?_,λx k=>(by cases k;exact cj.size),λgr=>absurd (show n=0 by have:=Z r;omega) (Z eL)⟩,?_⟩
    rw[Z F,<-Z r];rfl;rw[<-Z r,<-Z F];exact dE;exact qK (cT (dy (aq cj g8) (μ I.heap.size)) (aq (aY g9) (Z bt)) (λj e=>ψ rfl)) cj.size
   have de:∀W,(Op.equalIn 10000 300 (ε #[ι Δ s,ι Δ t,ι Δ u,ι Δ v,ι Δ y,ι Δ z,ι Δ A,ι Δ B]) (ε #[ι Δ (aa (dh key (ai (aK f) 2 N++bX l)) 0),ι Δ (aa (dh key (ai (aK f) 2 N++bX l)) 1),ι Δ (aa (dh key (ai (aK f) 2 N++bX l)) 2),ι Δ (aa (dh key (ai (aK f) 2 N++bX l)) 3),ι Δ (aa (dh key (ai (aK f) 2 N++bX l)) 4),ι Δ (aa (dh key (ai (aK f) 2 N++bX l)) 5),ι Δ (aa (dh key (ai (aK f) 2 N++bX l)) 6),ι Δ (aa (dh key (ai (aK f) 2 N++bX l)) 7)])).run prog W=.ok θ W:=λW=>by
    rw[bb W];simp only[bj,H,decide_false]
   have q:¬eH key (aK f) l:=λh=>H h.2.2.1
   clear bb bj H;replace q:=J q;go_wp2_with fail;go_region_held3 (λb=>b.rangeAt w.heap.size 0 (bv key)/\(κ b ⟨c,0,ν⟩=μ (ι Δ s)/\κ b ⟨c,1,ν⟩=μ (ι Δ t)/\κ b ⟨c,2,ν⟩=μ (ι Δ u)/\κ b ⟨c,3,ν⟩=μ (ι Δ v)/\κ b ⟨c,4,ν⟩=μ (ι Δ y)/\κ b ⟨c,5,ν⟩=μ (ι Δ z)/\κ b ⟨c,6,ν⟩=μ (ι Δ A)/\κ b ⟨c,7,ν⟩=μ (ι Δ B))/\γ wc b ν)
   (with_reducible first|exact C|exact cC)
   (first
     |(go_at_call 173;apply(vA f _).mono;rintro e b⟨rfl,rfl⟩)
     |(go_at_call 172;apply(Z hT _ (by assumption)).mono;rintro e I⟨rfl,g7⟩;rw[xV];have C:=s5 (wc:=wc) (by assumption) g7))
   go_wp2;go_ret3;exact⟨ψ ⟨Z q,rfl⟩,aq P (aq L C.2.2)⟩
  have db:decide (4611686018427387903<bm l)=ρ:=by simp;omega
  have q:¬eH key (aK f) l:=λh=>hn h.2.2.2
  replace q:=J q;clear hn;go_wp2_with fail;go_quiet (fail);go_wp2;go_ret3;exact⟨ψ ⟨Z q,rfl⟩,aq P (aq L (dv (aD _ _) _))⟩
