import Derived.Test.YtjnmokmchdfchaaGreatDoorZS2
import Derived.Test.YtjnmokmchdfchaaGreatDoorZS4
import Derived.Test.YtjnmokmchdfchaaGreatDoorZSb
set_option maxRecDepth 1000000
set_option maxHeartbeats 0
set_option linter.all false
namespace Go.Proofs.YtjnmokmchdfchaaGreatDoor
open Go.RowKit Tryz
open Go.Value renaming int→I,slice→Y,bool→β,pointer→π,agg→ε,string→ς,tuple→τ
open Go.IntKind renaming i64→X,u64→U,u8→Δ
open Go.Ending renaming returned→ξ
open Go.Obj renaming cells→ο
open Or renaming inl→φ,inr→ψ
open Option renaming some→E,none→N
open Bool renaming true→ρ,false→θ
open Go renaming World→D,Value→υ
open Go.World renaming grownBy→G,cell?→κ,frozen?→χ,setCell→ζ
attribute[local go_sem↓]Go.wp_at_zero Go.wp_at_succ
variable{p q:Int}{K L M:List Int}{b k n o:Nat}{T:TypeId}{x y z:υ}{V W v w:D}
def Kj(w:D)(sb d:Nat)(V:Array υ)(t:TypeId)(ab:Option Addr)(nb cb:Nat)(ac:Option Addr)(nc cc:Nat)(o:Ot)(u:w.heap[sb]?=E (ο V t (0,0)))(H:iM w sb d ab nb cb ac nc cc o.h)(T:kM w sb d o)(k:Int)(x:Rg)(m:Bool)(i j:Nat)(hi:i<=j)(hj:j<=o.h.bytes.length)(C:x.lo=o.h.fr+i)(F:x.hi=o.h.fr+j)(br:∀y,ab=E y->y.block≠sb)(bt:∀y,ac=E y->y.block≠sb):
 Calls prog 243 #[π (E ⟨sb,d,N⟩),I X k,ε #[I U x.lo,I U x.hi,β m,β θ]] w λe w'=>e=ξ (ε #[I X 5,I X k,I U x.lo,I U 0,β m,ς (strOfNums ((o.h.bytes.drop i).take (j-i))),Y N 0 0])/\G w w' (E sb)/\w'.heap[sb]?=E (ο (V.setIfInBounds (d+3) (I U (max o.ay x.hi))) t (0,0)):=by
 have bw:sb<w.heap.size:=(aV.1 u).1;obtain⟨c3,c4,c5,c6,c7,c8,-,-⟩:=T;obtain⟨n,f⟩:=x;simp only at C F⊢;obtain⟨p,z⟩:=í (w.alloc (ο #[I U n,I U f,β m,β θ] 377));have g1:G w p N:=by rw[z];exact aC _ _ _
 have K:p.heap[w.heap.size]?=E (ο #[I U n,I U f,β m,β θ] 377 (0,0)):=by rw[z];exact aM _ _
 have p3:κ p ⟨w.heap.size,3,N⟩=E (β θ):=by simp[κ,K]
 have ai:p.heap.size=w.heap.size+1:=by rw[z];simp
 obtain⟨A,L⟩:=í (p.alloc (ο #[I X 0,I X 0,I U 0,I U 0,β θ,ς ⟨#[]⟩,Y N 0 0] 158));have M:G p A N:=by rw[L];exact aC _ _ _
 have ak:A.heap[w.heap.size+1]?=E (ο #[I X 0,I X 0,I U 0,I U 0,β θ,ς ⟨#[]⟩,Y N 0 0] 158 (0,0)):=by rw[L,<-ai];exact aM _ _
 have P:=bp K M;have p1:κ A ⟨w.heap.size,1,N⟩=E (I U f):=by simp[κ,P]
 have R:=bp (bp u g1) M;have d3:=M.cell (ì g1 c3) Γ;have f3:χ A ⟨sb,d+3,N⟩=θ:=ç R;clear c3 c4 c5 c6 c7 c8;replace⟨C,F,K,ak,P,R,u,ai⟩:=xQ C F K ak P R u ai;go_enter func243,ntmps243;go_wp2_with fail;rw[<-z];clear z;go_wp2_with fail;rw[<-L];clear L;go_region;obtain⟨mx,al⟩:=í (if o.ay<f then f else o.ay);rw[<-al];have ao:max o.ay f=mx:=by rw[al];split<;>omega
 replace ao:=J ao;obtain⟨c,q⟩:=í ((ζ A ⟨sb,d+3,N⟩ (I U mx)).drew);rw[<-q];have ax:G w c (E sb):=by rw[q];exact aK (aD (aq (cK g1 _) (cK M _)) _ _ (ψ Q))
 have r:c.heap[sb]?=E (ο (V.setIfInBounds (d+3) (I U mx)) t (0,0)):=by rw[q];exact heap_set (Z R) _
 have B:c.heap[w.heap.size]?=E (ο #[I U n,I U f,β m,β θ] 377 (0,0)):=by rw[q];exact(dr _ _ _ _ (by show w.heap.size≠sb;omega)).trans (Z P)
 have a8:c.heap[w.heap.size+1]?=E (ο #[I X 0,I X 0,I U 0,I U 0,β θ,ς ⟨#[]⟩,Y N 0 0] 158 (0,0)):=by rw[q];exact(dr _ _ _ _ (by show w.heap.size+1≠sb;omega)).trans (Z ak)
 have H3:iM c sb d ab nb cb ac nc cc o.h:=by
  obtain⟨a0,a1,a2,a3,a4,a5⟩:=H;rw[ba (Z u)]at a0 a1 a2;refine⟨?_,?_,?_,a3.gb ax (λj e=>ψ (ψ (λy ey=>by cases e;exact br y ey))),a4.gb ax (λy e e'=>bt y e (by cases e';rfl)),a5⟩
  rw[ba r];simpa [oW]using a0;rw[ba r];simpa [oW]using a1;rw[ba r];simpa [oW]using a2
 clear al q H d3 f3 p1;have bb:=J (λW(g:G c W N)=>Cz W sb d ab nb cb ac nc cc o.h (H3.ag g) i j hi hj n f (Z C) (Z F));obtain⟨l,hl⟩:=í ((o.h.bytes.drop i).take (j-i));rw[<-hl]at bb;have q0:κ c ⟨w.heap.size,0,N⟩=E (I U n):=by simp[κ,B]
 have q1:κ c ⟨w.heap.size,1,N⟩=E (I U f):=by simp[κ,B]
 have q2:κ c ⟨w.heap.size,2,N⟩=E (β m):=by simp[κ,B]
 replace⟨B,a8,r,hl⟩:=fB B a8 r hl;go_wp2_with fail;go_region_with (first|(go_at_call 285;apply(Z bb c.drew (aK (au _ _))).mono;rintro e b⟨a5,rfl,a9,bj,S⟩;have s:G c b N:=aq (aK (au _ _)) S;have a:=bp (Z a8) s;have bx:=nG (a9.ag S);have r0:=ì s q0;have r1:=ì s q1;have r2:=ì s q2;have m0:κ b ⟨w.heap.size+1,0,N⟩=E (I X 0):=(by simp[κ,a]);have z0:χ b ⟨w.heap.size+1,0,N⟩=θ:=(by simp[χ,a]);have m1:κ b ⟨w.heap.size+1,1,N⟩=E (I X 0):=(by simp[κ,a]);have z1:χ b ⟨w.heap.size+1,1,N⟩=θ:=(by simp[χ,a]);have m2:κ b ⟨w.heap.size+1,2,N⟩=E (I U 0):=(by simp[κ,a]);have z2:χ b ⟨w.heap.size+1,2,N⟩=θ:=(by simp[χ,a]);have m3:κ b ⟨w.heap.size+1,3,N⟩=E (I U 0):=(by simp[κ,a]);have z3:χ b ⟨w.heap.size+1,3,N⟩=θ:=(by simp[χ,a]);have m4:κ b ⟨w.heap.size+1,4,N⟩=E (β θ):=(by simp[κ,a]);have z4:χ b ⟨w.heap.size+1,4,N⟩=θ:=(by simp[χ,a]);have m5:κ b ⟨w.heap.size+1,5,N⟩=E (ς ⟨#[]⟩):=(by simp[κ,a]);have z5:χ b ⟨w.heap.size+1,5,N⟩=θ:=(by simp[χ,a]);have m6:κ b ⟨w.heap.size+1,6,N⟩=E (Y N 0 0):=(by simp[κ,a]);have z6:χ b ⟨w.heap.size+1,6,N⟩=θ:=(by simp[χ,a]);replace a:=J a;replace S:=J S;replace bj:=J bj;replace a9:=J a9));all_goals go_wp2_with fail
 all_goals
  rw[Z ao,<-Z hl]
  refine cC (v:=ε #[I X 5,I X k,I U n,I U 0,β m,ς (strOfNums l),Y N 0 0]) ?_ Q ⟨Q,(aD (aD (aD (aD (aD (aD (aD (aq ax (cK s _)) _ _ (φ (dw _))) _ _ (φ (dw _))) _ _ (φ (dw _))) _ _ (φ (dw _))) _ _ (φ (dw _))) _ _ (φ (dw _))) _ _ (φ (dw _))),(dr _ _ _ _ (by show sb≠w.heap.size+1;omega)).trans ((dr _ _ _ _ (by show sb≠w.heap.size+1;omega)).trans ((dr _ _ _ _ (by show sb≠w.heap.size+1;omega)).trans ((dr _ _ _ _ (by show sb≠w.heap.size+1;omega)).trans ((dr _ _ _ _ (by show sb≠w.heap.size+1;omega)).trans ((dr _ _ _ _ (by show sb≠w.heap.size+1;omega)).trans ((dr _ _ _ _ (by show sb≠w.heap.size+1;omega)).trans (bp (Z r) s)))))))⟩
  simp[results,results243,go_sem, *]
def Ms(n:Nat):(madeCells (Value.cells (I Δ 0)) (n*1)).toList=bv (List.replicate n 0):=by
 simp only[madeCells,bv,Value.cells,Array.toList_map,Array.toList_range,tx,List.map_replicate]
 rw[show(λx=> #[I IntKind.u8 0][x % #[I IntKind.u8 0].size]!)=λ_=>I IntKind.u8 0 from funext λx=>by
  rw[show #[I IntKind.u8 0].size=1 from Q,Nat.mod_one];rfl]
 exact List.eq_replicate_iff.2 ⟨Γ,Γ⟩
def Ed{e:Array Oper}{rest:List Oper}{o:Oper}{a:Act}{f:Exit->Act->D->Prop}(l c:Operand)(k:o.op=Op.makeSlice 112 l c)(m:o.guard=N)
 (L:Int) (n:Nat) (hl:a.eval l=I X L) (p:a.eval c=I X L) (h:L=(n:Int)) (x:n<=100000000)
 (q:∀b,b.heap[w.heap.size]?=E (ο (bv (List.replicate n 0)).toArray 5 (0,0))->G w b N->wpList prog e f rest (a.put o.dst (Y (E ⟨w.heap.size,0,N⟩) n n)) b):wpList prog e f (o::rest) a w:=by
 let⟨r,hi,s,t,y⟩:=kV zj
 refine wpList_make_full w m l c _ k w.heap.size 5 r (I Δ 0) 1 underlying112 hi s t X X L L n hl p h h (by grind) (by simp[maxLen];omega) (aP _) ?_;intro b u g;refine q b ?_ g;let⟨z,d⟩:=u
 obtain⟨d,_⟩|⟨A,cap,cur,e1,e2,v,B,C,i,j⟩:=d
 cases d;simp only[wQ,qu,Addr.mk.injEq,qv,true_and]at e1;obtain⟨rfl,rfl⟩:=e1;rw[v];rw[Ms,tx]at j;rw[tx]at i;have:cur.toList=bv (List.replicate n 0):=by rw[<-j,oe (by simp[i])]
 rw[<-this]
def bf(f:Bool):Int:=if f then 0 else 1
def yj(f:Bool):W8 (bf f):=by cases f<;>simp[bf,W8]
def vN(f:Bool)(w:D):Calls prog 173 #[β f] w λe a=>e=ξ (I Δ (bf f))/\a=w:=by
 cases f
 .go_enter func173,ntmps173;go_wp2;go_ret;exact⟨Q,Q⟩
 go_enter func173,ntmps173;go_wp2;go_ret;exact⟨Q,Q⟩
def yk(key:List Int)(s n:Int)(l:List Int):(bv (fV key s n l)).toArray= #[I Δ (aa (cQ key (bh s 2 n++l)) 0),I Δ (aa (cQ key (bh s 2 n++l)) 1),I Δ (aa (cQ key (bh s 2 n++l)) 2),I Δ (aa (cQ key (bh s 2 n++l)) 3),I Δ (aa (cQ key (bh s 2 n++l)) 4),I Δ (aa (cQ key (bh s 2 n++l)) 5),I Δ (aa (cQ key (bh s 2 n++l)) 6),I Δ (aa (cQ key (bh s 2 n++l)) 7)]:=rfl
def ym(h:w.heap[b]?=E (ο (bv L).toArray T (0,0)))(hl:∀x∈L,W8 x)(o n c:Nat)(f:o+n<=L.length)(a:n<=c)(d:c<=maxLen):bD w (E ⟨b,o,N⟩) n c ((L.drop o).take n):=
 ⟨λx e=>hl x (iC (jr e)),Ψ,a,d,ψ ⟨b,o,Q,(su h hl o).take n⟩⟩
def Mt(H R l:List Int)(a:H.length=8):splice (splice R 0 H) 8 l=H++(l++R.drop (l.length+8)):=by
 have e:splice R 0 H=H++R.drop 8:=by simp[splice,a]
 have e2:8+(8+l.length-8)=l.length+8:=O;rw[e];unfold splice;rw[List.take_append_of_le_length O,à,List.drop_append,a,á,mg,uR,e2]
def Mu(H l m a:List Int)(b:H.length=8)(c:m.length=l.length):splice (H++(l++a)) 8 m=H++(m++a):=by
 have e2:8+m.length-8=l.length:=O;unfold splice;rw[List.take_append_of_le_length O,à,List.drop_append,b,á,mg,e2,List.drop_append,á,mg,tw,qZ]
def Mv(H m a T:List Int)(b:H.length=8)(c:T.length=a.length):splice (H++(m++a)) (8+m.length) T=H++(m++T):=by
 have e:(H++m).length=8+m.length:=by simp_all
 unfold splice;rw[<-eF H m a,List.take_append_of_le_length O,à,List.drop_append,á,mg,á,qY,eF]
def Ee(H l a:List Int)(b:H.length=8):((H++(l++a)).drop 8).take l.length=l:=by grind
def vO(hl:∀x∈K,W8 x):∀x∈cV L p q K,W8 x:=by
 intro x a;obtain⟨i,_,rfl⟩:=fu.1 a;exact Ar (mR hl i) (vK _ _)
def Mw(b:∀x∈M,W8 x):∀x∈eA p++(M++List.replicate 8 0),W8 x:=by
 intro x a;obtain h|h:=b9.1 a
 exact qc p x h;obtain h|h:=b9.1 h
 simp_all;rw[(List.mem_replicate.1 h).2];unfold W8;omega
def Ef{f e d c a:υ}(u0 u1 u2 u3 u4 u5 u6 u7:υ)(h:w.heap[b]?=E (ο #[x,y,z,f,e,d,c,a] T (0,0))):
 ((((((((ζ w ⟨b,0,N⟩ u0).setCell ⟨b,1,N⟩ u1).setCell ⟨b,2,N⟩ u2).setCell ⟨b,3,N⟩ u3).setCell ⟨b,4,N⟩ u4).setCell ⟨b,5,N⟩ u5).setCell ⟨b,6,N⟩ u6).setCell ⟨b,7,N⟩ u7).heap[b]?=E (ο #[u0,u1,u2,u3,u4,u5,u6,u7] T (0,0)):=by
 have h0:(ζ w ⟨b,0,N⟩ u0).heap[b]?=E (ο #[u0,y,z,f,e,d,c,a] T (0,0)):=heap_set h u0;have g:((ζ w ⟨b,0,N⟩ u0).setCell ⟨b,1,N⟩ u1).heap[b]?=E (ο #[u0,u1,z,f,e,d,c,a] T (0,0)):=heap_set h0 u1;have i:(((ζ w ⟨b,0,N⟩ u0).setCell ⟨b,1,N⟩ u1).setCell ⟨b,2,N⟩ u2).heap[b]?=E (ο #[u0,u1,u2,f,e,d,c,a] T (0,0)):=heap_set g u2;have j:((((ζ w ⟨b,0,N⟩ u0).setCell ⟨b,1,N⟩ u1).setCell ⟨b,2,N⟩ u2).setCell ⟨b,3,N⟩ u3).heap[b]?=E (ο #[u0,u1,u2,u3,e,d,c,a] T (0,0)):=heap_set i u3;have k:(((((ζ w ⟨b,0,N⟩ u0).setCell ⟨b,1,N⟩ u1).setCell ⟨b,2,N⟩ u2).setCell ⟨b,3,N⟩ u3).setCell ⟨b,4,N⟩ u4).heap[b]?=E (ο #[u0,u1,u2,u3,u4,d,c,a] T (0,0)):=heap_set j u4;have l:((((((ζ w ⟨b,0,N⟩ u0).setCell ⟨b,1,N⟩ u1).setCell ⟨b,2,N⟩ u2).setCell ⟨b,3,N⟩ u3).setCell ⟨b,4,N⟩ u4).setCell ⟨b,5,N⟩ u5).heap[b]?=E (ο #[u0,u1,u2,u3,u4,u5,c,a] T (0,0)):=heap_set k u5;have m:(((((((ζ w ⟨b,0,N⟩ u0).setCell ⟨b,1,N⟩ u1).setCell ⟨b,2,N⟩ u2).setCell ⟨b,3,N⟩ u3).setCell ⟨b,4,N⟩ u4).setCell ⟨b,5,N⟩ u5).setCell ⟨b,6,N⟩ u6).heap[b]?=E (ο #[u0,u1,u2,u3,u4,u5,u6,a] T (0,0)):=heap_set l u6;have n:((((((((ζ w ⟨b,0,N⟩ u0).setCell ⟨b,1,N⟩ u1).setCell ⟨b,2,N⟩ u2).setCell ⟨b,3,N⟩ u3).setCell ⟨b,4,N⟩ u4).setCell ⟨b,5,N⟩ u5).setCell ⟨b,6,N⟩ u6).setCell ⟨b,7,N⟩ u7).heap[b]?=E (ο #[u0,u1,u2,u3,u4,u5,u6,u7] T (0,0)):=heap_set m u7;exact n
def s7{a:List υ}(h:W.rangeAt n 0 a/\G w W N)(g:G W v N):v.rangeAt n 0 a/\G w v N:=
 ⟨jE h.1 g Γ,aq h.2 g⟩
def lU{a:List υ}(h:W.rangeAt n 0 a/\G w W N)(c:w.heap.size<=b)(d:n<w.heap.size)(o:Nat)(v:υ):(ζ W ⟨b,o,N⟩ v).rangeAt n 0 a/\G w (ζ W ⟨b,o,N⟩ v) N:=
 ⟨xk h.1 _ _ (by dsimp only;omega),aD h.2 _ _ (φ c)⟩
def ud{x:Obj}(h:w.heap[b]?=E x)(g:G w W N):W.heap[b]?=E x:=jO h g
def Mx(key:List Int)(f:Bool)(n:Int)(a:Option Addr)(m ai:Nat)(l:List Int)(w:D)(hk:cI key)(hn:aZ n)(p:bD w a m ai l)(hl:l.length<=50000000):
 Calls prog 148 #[ε (bY key),β f,I U n,Y a m ai] w λe i=>
  ∃g,e=ξ (Y (E ⟨g,0,N⟩) (l.length+16) (l.length+16))/\w.heap.size<=g/\i.heap[g]?=E (ο (bv (dC key (bf f) n l)).toArray 5 (0,0))/\G w i N:=by
 have b5:=p.2.1;subst b5;have cw:=p.2.2.1;have b7:=p.2.2.2.1;unfold maxLen at b7;have bj:=p.1;have cx:(prog.info? 24).map (·.size)=E (bv key).length:=by rw[gy,hk.1];exact mh
 have cy:=underlying24;go_enter func148,ntmps148;go_wp2_with (at_make;refine Ed _ _ Ξ Ξ _ (l.length+16) Ξ Ξ O O ?_;intro w1 ak g1);have br:=((rm _ w).alloc (aP _) _).grown g1 Γ (nofun);have ca:=g1.size;rw[dJ]at ca ak;have c9:=(aV.1 ak).1;have cc:w1.heap[w.heap.size]?=E (ο (bY key) 24 (0,0)):=jO (aM _ _) g1;apply(yd n _ hn).mono;rintro e w2⟨rfl,g2⟩;rw[tZ];obtain⟨W3,y⟩:=í (w2.alloc (ο #[I Δ (aa n 0),I Δ (aa n 1),I Δ (aa n 2),I Δ (aa n 3),I Δ (aa n 4),I Δ (aa n 5),I Δ (aa n 6),I Δ (aa n 7)] 300));have g3:G w1 W3 N:=by rw[y];exact aW g2 _
 have cf:W3.heap[w2.heap.size]?=E (ο (bv (eA n)).toArray 300 (0,0)):=by rw[y];exact aM _ _
 have al:=jO ak g3;have bt:=jO cc g3;have H:=br.grown g3 br.size (nofun);have da:=g2.size;have K:=ym cf (qc n) 0 8 8 (by simp[gF]) O (by simp[maxLen]);rw[qZ,oe (by simp[gF])]at K;have e1:(eA n).take (l.length+16)=eA n:=oe (by simp[gF]);have e2:l.take (8+l.length-8)=l:=à;have ao:∀W':D,G W3 W' (E (w.heap.size+1))->bD W' a l.length ai l:=λW' g=>(p.ag (ot H)).gb g (λj e=>by
  cases e;by_cases bw:l=[]
  exact ψ (φ bw)
  .right;right;intro x L;obtain⟨h,_⟩|⟨b,o,h,ch⟩:=p.2.2.2.2
   rw[h]at L;cases L
   .rw[h]at L;cases L;have:=ch.lt bw;dsimp only
    omega)
 replace⟨K,al,e1,e2,ao,p⟩:=mY K al e1 e2 ao p;go_wp2_with (first|(refine uY _ _ Ξ Ξ (w.heap.size+1) 0 (l.length+16) (l.length+16) Ξ (E ⟨w2.heap.size,0,N⟩) 8 8 Ξ (eA n) ?_ (List.replicate (l.length+16) 0) 5 ?_ ?_ ?_;(rw[<-y];exact Z K);(rw[<-y];exact Z al);(rw[Z e1];simp[gF]);(rw[Z e1,<-y];intro w4 cm z))|(refine uY _ _ Ξ Ξ (w.heap.size+1) 8 (8+l.length-8) (l.length+8) Ξ _ _ _ Ξ l (Z ao _ z) (splice (List.replicate (l.length+16) 0) 0 (eA n)) 5 cm ?_ ?_;(rw[Z e2,length_splice _ _ _ (by simp[gF])];simp;omega);(rw[Z e2];intro r ax g5)));have P:r.heap[w.heap.size]?=E (ο (bY key) 24 (0,0)):=by
  have db:=z.size;have h3:=(aV.1 bt).1;exact(g5.block _ O Γ).trans ((z.block _ h3 Γ).trans bt)
 have bx:=mj (w:=r.drew) P;have R:=(H.grown z H.size (λk e=>by cases e;omega)).grown g5 (by have:=H.size;have:=z.size;omega) (λk e=>by cases e;omega);obtain⟨q,s⟩:=í (eA n++(l++List.replicate 8 0));rw[Mt _ _ _ (gF n),List.drop_replicate,show l.length+16-(l.length+8)=8 by omega]at ax;have bz:q.length=l.length+16:=by rw[s];simp[gF];omega
 have a0:∀x∈q,W8 x:=by
  rw[s];intro x hx;obtain h|h:=b9.1 hx
  exact qc n x h;obtain h|h:=b9.1 h
  exact bj x h;rw[(List.mem_replicate.1 h).2];unfold W8;omega
 have a1:splice q 8 (cV key (bf f) n ((q.drop 8).take l.length))=eA n++(cV key (bf f) n l++List.replicate 8 0):=by
  rw[s,Ee _ _ _ (gF n),Mu _ _ _ _ (gF n) (nI _ _ _ _)]
 rw[<-s]at ax;have a2:r.drew.heap[w.heap.size+1]?=E (ο (bv q).toArray 5 (0,0)):=ax;replace⟨a2,P⟩:=aT a2 P;have dc:=R.size;have a3:8+l.length<=q.length:=O;replace⟨s,bz,a0,a3,a1⟩:=gT s bz a0 a3 a1;go_region_held3 (λi=>i.rangeAt w.heap.size 0 (bv key))
  (with_reducible first|exact bA|exact bx)
  (first
    |(go_at_call 173;apply(vN f _).mono;rintro e i⟨rfl,rfl⟩)
    |(go_at_call 174;refine(Ec key (bf f) n (w.heap.size+1) 8 l.length (l.length+8) q 5 _ hk (yj f) hn (Z a0) (Z a3) O (by simp[maxLen];omega) (Z a2)).mono ?_;rintro e d⟨rfl,S,A⟩;rw[Z a1]at S;have bA:=jE bx A Γ;replace S:=J S;replace A:=J A))
 go_wp2_with fail;have B:=Z S;have a4:=Z A;replace A:=J a4;have de:=a4.size;have c:w.heap.size<d.heap.size:=by
  have h5:r.drew.heap.size=r.heap.size:=rfl;have h6:=(aV.1 (Z P)).1;omega
 obtain⟨M,t⟩:=í (cV key (bf f) n l);rw[<-t]at B;have C:M.length=l.length:=by rw[t];exact nI _ _ _ _
 have a8:∀x∈M,W8 x:=by rw[t];exact vO bj
 have bM:=ym B (Mw a8) 8 M.length (l.length+8) (by simp[gF]) O (by simp[maxLen];omega);rw[Ee _ _ _ (gF n)]at bM;have hT:Hid (∀W:D,(W.rangeAt w.heap.size 0 (bv key)/\G d W N)->Calls prog 172 #[ε (bv key).toArray,I Δ (bf f),I U n,Y (E ⟨w.heap.size+1,8,N⟩) l.length (l.length+8)] W λe i=>e=ξ (ε (bv (fV key (bf f) n M)).toArray)/\G W i N):=J (λW h=>by
  have:=Ea key (bf f) n _ _ _ M W hk (yj f) hn (bM.ag h.2) O;rw[C]at this;exact this)
 have b3:d.drew.rangeAt w.heap.size 0 (bv key)/\G d d.drew N:=⟨λj v h=>bA j v h,aK (au _ _)⟩
 replace⟨B,t,C,a8⟩:=fB B t C a8;go_cut [12] (λv wx=>∃F:Nat,v=π (E ⟨F,0,N⟩)/\d.heap.size<=F/\wx.heap[F]?=E (ο (bv (fV key (bf f) n M)).toArray 300 (0,0))/\G d wx N);case first=>
  go_region_held3 (λi=>i.rangeAt w.heap.size 0 (bv key)/\G d i N)
   (first|with_reducible exact u|with_reducible exact b3|(with_reducible exact(lU (lU (lU (lU (lU (lU (lU (lU u (aP _) c _ _) (aP _) c _ _) (aP _) c _ _) (aP _) c _ _) (aP _) c _ _) (aP _) c _ _) (aP _) c _ _) (aP _) c _ _))|with_reducible exact s7 u (aC _ _ N)|with_reducible exact s7 b3 (aC _ _ N))
   (first
     |(go_at_call 173;apply(vN f _).mono;rintro e i⟨rfl,rfl⟩)
     |(go_at_call 172;apply(Z hT _ Ω).mono;rintro e w7⟨rfl,g7⟩;rw[yk];have u:=s7 (w:=d) Ω g7;first|(have T:w7.heap[d.heap.size]?=E (ο #[I Δ 0,I Δ 0,I Δ 0,I Δ 0,I Δ 0,I Δ 0,I Δ 0,I Δ 0] 300 (0,0)):=ud (aM d.drew _) g7;have cp:=sw T;replace T:=J T;let⟨⟨z0,z1,z2,z3,z4,z5,z6,z7⟩,zf⟩:=cp)|skip))
  all_goals
   go_wp2
   go_meet
   refine⟨_,Q,?_,?_,?_⟩
   first|with_reducible exact aP _|with_reducible exact u.2.size
   rw[yk]
   first|with_reducible exact Ef _ _ _ _ _ _ _ _ (Z T)|with_reducible exact aM _ _
   first|with_reducible exact(lU (lU (lU (lU (lU (lU (lU (lU u (aP _) c _ _) (aP _) c _ _) (aP _) c _ _) (aP _) c _ _) (aP _) c _ _) (aP _) c _ _) (aP _) c _ _) (aP _) c _ _).2|with_reducible exact aW u.2 _
 case rest=>
  obtain⟨F,rfl,dg,a9,g8⟩:=hcut;rename_i wx;have ct:=J (jO (Z B) g8);have V:=ym a9 (qc _) 0 8 8 (by simp[fV,gF]) O (by simp[maxLen]);rw[qZ,oe (by simp[fV,gF])]at V;replace⟨V,a9⟩:=aT V a9;go_wp2_with fail;have dk:X.wrap (8+(l.length:Int))=8+(l.length:Int):=ä;have dm:(0:Int)<=8+(l.length:Int):=O;have dn:8+(l.length:Int)<=(l.length:Int)+16:=O;have du:(8+(l.length:Int)).toNat=8+l.length:=O;have dv:(l.length+16=8+l.length)=False:=Ψ;have dx:l.length+16-(8+l.length)=8:=O;have b4:Hid ((fV key (bf f) n M).take 8=fV key (bf f) n M):=J (oe (by simp[fV,gF]));have cv:Hid (8+l.length+(fV key (bf f) n M).length<=(eA n++(M++List.replicate 8 (0:Int))).length):=J (by
   have h1:(fV key (bf f) n M).length=8:=by simp[fV,gF]
   have h2:=Z C;have h3:=gF n;simp only[bS,List.length_replicate]
   omega)
  go_region_held3 (λ_=>True) (trivial) ((refine HJ _ _ Ξ Ξ (w.heap.size+1) (8+l.length) 8 8 Ξ (E ⟨F,0,N⟩) 8 8 Ξ (fV key (bf f) n M) (D9 (Z V)) (eA n++(M++List.replicate 8 0)) 5 (Z ct) ?_ ?_;(rw[Z b4];exact Z cv);(rw[Z b4];intro w9 bb g9;replace bb:=J bb)));go_wp2;go_ret;refine⟨w.heap.size+1,Q,O,?_,?_⟩
  have h9:=Z bb;rw[<-Z C,Mv _ _ _ _ (gF n) (by simp[fV,gF]),Z t]at h9;unfold dC;rw[eF];exact h9;have b6:=(R.grown (aK (au r N)) R.size (nofun)).grown a4 R.size (λk e=>by cases e;omega);have b8:=b6.grown g8 b6.size (nofun);exact ot ((b8.grown (aK (au wc N)) b8.size (nofun)).grown g9 b8.size (λk e=>by cases e;omega))
def dT{l:List υ}(h:W.rangeAt n o l/\G w W N)(g:G W V N):V.rangeAt n o l/\G w V N:=⟨λj v a=>ì g (h.1 j v a),aq h.2 g⟩
def Av(w:D)(sb:Nat)(key:List Int)(f:Bool)(i:cI key)(j:w.rangeAt sb 2 (bv key))(fI:κ w ⟨sb,18,N⟩=E (β f))(n:Int)(s:aZ n)(a:Option Addr)(m c:Nat)(l:List Int)(k:bD w a m c l)(hl:l.length<=50000000):
 Calls prog 204 #[π (E ⟨sb,0,N⟩),I U n,Y a m c] w λe b=>
  ∃g,e=ξ (Y (E ⟨g,0,N⟩) (l.length+16) (l.length+16))/\w.heap.size<=g/\b.heap[g]?=E (ο (bv (dC key (bf f) n l)).toArray 5 (0,0))/\G w b N:=by
 refine fL λR d=>?_
 replace d:=J d;have t:=J (λW(g:G w W N)=>Mx key f n a m c l W i s (k.ag g) hl);have y:(prog.info? 24).map (·.size)=E (bv key).length:=by rw[gy,i.1];exact mh
 have z:=underlying24;have A:=kc fI;have h:w.rangeAt sb 2 (bv key)/\G w w N:=⟨j,au _ _⟩
 clear fI j k;go_enter func204,ntmps204;go_wp2_with fail;go_region_held3 (λb=>b.rangeAt sb 2 (bv key)/\G w b N)
  (with_reducible first|exact p|exact h|exact dT h (aK (au _ N)))
  (first|(go_at_call 148;apply(Z t _ (aK (au _ N))).mono;rintro e u⟨g,rfl,q,r,v⟩;have p:=dT (dT h (aK (au _ N))) v;have x:Hid (R (ξ (Y (E ⟨g,0,N⟩) (l.length+16) (l.length+16))) u):=J (by rw[Z d];exact⟨g,Q,q,r,p.2⟩);clear q r))
 go_wp2_with fail;exact Z x
def NW(key:List Int)(f:Bool)(a:Option Addr)(m c:Nat)(l:List Int)(w:D)(d:bD w a m c l)(hl:l.length<16\/300<l.length):
 Calls prog 135 #[ε (bY key),β f,Y a m c] w λe g=>e=ξ (τ #[I U 0,Y N 0 0,.iface 34 (I X 4)])/\G w g N:=by
 generalize bY key=K at *;have h:m=l.length:=d.2.1;subst h;have b:∀W,W=w.alloc (ο K 24)->G w W N:=by rintro W rfl;exact aC _ _ _
 replace b:=J b;obtain hl|hl:=hl
 .have i:decide ((l.length:Int)<16)=ρ:=Ψ;go_enter func135,ntmps135;go_wp2;go_ret3;exact⟨Q,Z b _ Q⟩
 have i:decide ((l.length:Int)<16)=θ:=Ψ;go_enter func135,ntmps135;go_wp2;go_ret3;exact⟨Q,Z b _ Q⟩
def Fe{ob:Obj}(g:(w.drew.alloc ob).grownBy W N):W.heap[w.heap.size]?=E ob:=ud (aM w.drew ob) g
def Ff{ob:Obj}(g:(w.alloc ob).drew.grownBy W N):W.heap[w.heap.size]?=E ob:=ud (w:=(w.alloc ob).drew) (aM w ob) g
def NX(g:G W w.drew N)(ob:Obj):G W (w.alloc ob).drew N:=aq g (aC w.drew ob N)
def Fg{ob:Obj}(g:(w.alloc ob).grownBy W N):W.heap[w.heap.size]?=E ob:=ud (aM w ob) g
def Fh(g:G W w N)(a:W.heap.size<=b)(u0 u1 u2 u3 u4 u5 u6 u7:υ):G W ((((((((ζ w ⟨b,0,N⟩ u0).setCell ⟨b,1,N⟩ u1).setCell ⟨b,2,N⟩ u2).setCell ⟨b,3,N⟩ u3).setCell ⟨b,4,N⟩ u4).setCell ⟨b,5,N⟩ u5).setCell ⟨b,6,N⟩ u6).setCell ⟨b,7,N⟩ u7) N:=
 aD (aD (aD (aD (aD (aD (aD (aD g _ _ (φ a)) _ _ (φ a)) _ _ (φ a)) _ _ (φ a)) _ _ (φ a)) _ _ (φ a)) _ _ (φ a)) _ _ (φ a)
def NY(n:Nat)(m:List Int)(h:m.length=n):splice (List.replicate n 0) 0 m=m:=by
 unfold splice;grind
def NZ(m k:List Int)(h:m.length=k.length):splice m 0 k=k:=by
 unfold splice;grind
def s5{wc:D}{a:List υ}{b c d e f:υ}(h:w.rangeAt n 0 a/\(κ w ⟨k,0,N⟩=E x/\κ w ⟨k,1,N⟩=E y/\κ w ⟨k,2,N⟩=E z/\κ w ⟨k,3,N⟩=E b/\κ w ⟨k,4,N⟩=E c/\κ w ⟨k,5,N⟩=E d/\κ w ⟨k,6,N⟩=E e/\κ w ⟨k,7,N⟩=E f)/\G wc w N)(g:G w W N):
 W.rangeAt n 0 a/\(κ W ⟨k,0,N⟩=E x/\κ W ⟨k,1,N⟩=E y/\κ W ⟨k,2,N⟩=E z/\κ W ⟨k,3,N⟩=E b/\κ W ⟨k,4,N⟩=E c/\κ W ⟨k,5,N⟩=E d/\κ W ⟨k,6,N⟩=E e/\κ W ⟨k,7,N⟩=E f)/\G wc W N:=by
 obtain⟨i,⟨c0,c1,c2,c3,c4,c5,c6,c7⟩,j⟩:=h;exact⟨jE i g Γ,⟨ì g c0,ì g c1,ì g c2,ì g c3,ì g c4,ì g c5,ì g c6,ì g c7⟩,aq j g⟩
def N4(key:List Int)(f:Bool)(a:Option Addr)(m q:Nat)(l:List Int)(w:D)(hk:cI key)(hb:bD w a m q l)(ed:16<=l.length)(ee:l.length<=300):
 Calls prog 135 #[ε (bY key),β f,Y a m q] w λe b=>
  ((dZ key (bf f) l/\∃a' c',e=ξ (τ #[I U (bu l),Y a' (l.length-16) c',.nilIface])/\bD b a' (l.length-16) c' (cV key (bf f) (bu l) (bO l))/\(∀x,a'=E x->w.heap.size<=x.block)/\(l.length=16->a'=N))\/
    (¬dZ key (bf f) l/\e=ξ (τ #[I U 0,Y N 0 0,.iface 34 (I X 4)])))/\G w b N:=by
 have e9:(prog.info? 24).map (·.size)=E (bv key).length:=by rw[gy,hk.1];exact mh
 have fa:=underlying24;have ei:m=l.length:=hb.2.1;subst ei;have ej:=hb.2.2.1;have ek:=hb.2.2.2.1;unfold maxLen at ek;have P:=hb.1;obtain⟨-,-,-,-,h5⟩:=hb;obtain⟨rfl,rfl⟩|⟨r,o,rfl,da⟩:=h5
 omega;have h1:decide ((l.length:Int)<16)=θ:=Ψ;have h2:decide (300<(l.length:Int))=θ:=Ψ;obtain⟨i,ak⟩:=í (w.alloc (ο (bY key) 24));have g1:G w i N:=by rw[ak];exact aC _ _ _
 have b8:i.heap[w.heap.size]?=E (ο (bY key) 24 (0,0)):=by rw[ak];exact aM _ _
 have ao:=da.gb g1;have hA:Hid (∀W:D,G i W N->Calls prog 170 #[Y (E ⟨r,o,N⟩) l.length q] W λe b=>e=ξ (ε (bv (l.take 8)).toArray)/\G W b N):=J (λW g=>
  DY _ _ _ l W ⟨P,Q,ej,by simp[maxLen];omega,ψ ⟨r,o,Q,ao.gb g⟩⟩ O)
 have hN:Hid (∀W:D,Calls prog 171 #[ε (bv (l.take 8)).toArray] W λe b=>e=ξ (I U (bu l))/\G W b N):=J (λW=>
  Ma _ W Ψ (λx p=>P x (jr p)))
 have a4:(my l).length=8:=by simp[my];omega
 obtain⟨u,v,y,z,A,B,C,F,p⟩:=Ap a4;have hB:Hid (∀W:D,G i W N->Calls prog 170 #[Y (E ⟨r,o+(l.length-8),N⟩) (l.length-(l.length-8)) (q-(l.length-8))] W λe b=>e=ξ (ε #[I Δ u,I Δ v,I Δ y,I Δ z,I Δ A,I Δ B,I Δ C,I Δ F])/\G W b N):=J (λW g=>by
  have:=DY (E ⟨r,o+(l.length-8),N⟩) (l.length-(l.length-8)) (q-(l.length-8)) (my l) W ⟨λx p=>P x (iC p),by rw[a4];omega,O,by simp[maxLen];omega,ψ ⟨r,_,Q,(ao.gb g).drop _⟩⟩ O;rw[à,p]at this;exact this)
 have fj:∀W,(Instr.slice 112 (Y (E ⟨r,o,N⟩) l.length q) (E (I X ((l.length:Int)-8))) N N).run prog W=.ok (Y (E ⟨r,o+(l.length-8),N⟩) (l.length-(l.length-8)) (q-(l.length-8))) W:=λW=>by
  have:=D7 r o l.length q (l.length-8) O O W;rwa[show((l.length-8:Nat):Int)=(l.length:Int)-8 by omega]at this
 have ff:X.wrap ((l.length:Int)-8)=(l.length:Int)-8:=ä;have fi:(0:Int)<=l.length-8:=O;have fo:(8:Int)<=l.length-8:=O;have fy:(l.length:Int)-8<=(q:Int):=O;have fA:(l.length:Int)-8<=(l.length:Int):=O;have ga:((l.length:Int)-8).toNat=l.length-8:=O;have gd:(q=l.length-8)=False:=Ψ;have gf:(q=8)=False:=Ψ;replace⟨p,P,a4,ao,b8⟩:=gT p P a4 ao b8;clear da;have a8:G i i.drew N:=aK (au _ _);go_enter func135,ntmps135;go_upto_region 4 with fail;rw[<-ak];replace ak:=J ak;go_cut [10,11,12] (λer et ev wx=>∃c:Nat,er=I U (bu l)/\et=Y (E ⟨r,o+8,N⟩) (l.length-16) (q-8)/\ev=π (E ⟨c,0,N⟩)/\i.heap.size<=c/\wx.heap[c]?=E (ο #[I Δ u,I Δ v,I Δ y,I Δ z,I Δ A,I Δ B,I Δ C,I Δ F] 300 (0,0))/\G i wx N);case first=>
  go_region_held3 (λb=>G i b N)
   (with_reducible first|exact T|exact ca|exact cc|exact a8|exact Fh T K _ _ _ _ _ _ _ _|exact aW T _|exact aW ca _|exact aW cc _|exact aW a8 _|exact NX a8 _)
   (first
     |(go_at_call 171;apply(Z hN _).mono;rintro e w3⟨rfl,g3⟩;have ca:=aq (w:=i) Ω g3;first|(have k:=J (Ff g3);have K:i.heap.size<=i.heap.size:=aP _)|(have k:=J (Fe g3);have K:i.heap.size<=i.heap.size:=aP _)|(have k:=J (Fg g3);have K:=cc.size)|(have k:=J (ud (Z k) g3))|skip)
     |(go_at_call 170;apply(Z hA _ Ω).mono;rintro e w2⟨rfl,g2⟩;have cc:=aq (w:=i) Ω g2;first|(have k:=J (Ff g2);have K:i.heap.size<=i.heap.size:=aP _)|(have k:=J (Fe g2);have K:i.heap.size<=i.heap.size:=aP _)|skip)
     |(go_at_call 170;apply(Z hB _ Ω).mono;rintro e w4⟨rfl,g4⟩;have T:=aq (w:=i) Ω g4;first|(have k:=Fg g4;have K:=ca.size;obtain⟨⟨z0,z1,z2,z3,z4,z5,z6,z7⟩,zf⟩:=sw k;replace k:=J k)|(have k:=ud (Z k) g4;obtain⟨⟨z0,z1,z2,z3,z4,z5,z6,z7⟩,zf⟩:=sw k;replace k:=J k)|skip))
  all_goals
   go_wp2
   go_meet
   refine⟨_,Q,by rw[Nat.sub_sub],Q,?_,?_,?_⟩
   first|with_reducible exact K|with_reducible exact T.size
   first|with_reducible exact Ef _ _ _ _ _ _ _ _ (Z k)|with_reducible exact aM _ _
   first|with_reducible exact Fh T K _ _ _ _ _ _ _ _|with_reducible exact aW T _
 case rest=>
  obtain⟨c,rfl,rfl,rfl,K,k,V⟩:=hcut;have ez:=sw k;obtain⟨⟨z0,z1,z2,z3,z4,z5,z6,z7⟩,-⟩:=ez;have a0:=jO (Z b8) V;have dg:wc.drew.rangeAt w.heap.size 0 (bv key)/\(wc.drew.cell? ⟨c,0,N⟩=E (I Δ u)/\wc.drew.cell? ⟨c,1,N⟩=E (I Δ v)/\wc.drew.cell? ⟨c,2,N⟩=E (I Δ y)/\wc.drew.cell? ⟨c,3,N⟩=E (I Δ z)/\wc.drew.cell? ⟨c,4,N⟩=E (I Δ A)/\wc.drew.cell? ⟨c,5,N⟩=E (I Δ B)/\wc.drew.cell? ⟨c,6,N⟩=E (I Δ C)/\wc.drew.cell? ⟨c,7,N⟩=E (I Δ F))/\G wc wc.drew N:=
   ⟨mj (w:=wc.drew) a0,⟨z0,z1,z2,z3,z4,z5,z6,z7⟩,aK (au _ _)⟩
  replace⟨a0,k⟩:=aT a0 k;clear z0 z1 z2 z3 z4 z5 z6 z7 fj hA hN hB a8;have a1:(bO l).length=l.length-16:=by simp[bO];omega
  have bz:Hid (bD wc (E ⟨r,o+8,N⟩) (l.length-16) (q-8) (bO l)):=
   J ⟨λx p=>(Z P) x (iC (jr p)),a1.symm,O,by simp only[maxLen];omega,ψ ⟨r,o+8,Q,(((Z ao).gb V).drop 8).take _⟩⟩
  have dk:aZ (bu l):=by
   have h8:=sx l (Z P) 8 O;exact⟨h8.1,by have:=h8.2;unfold bu;omega⟩
  have hT:Hid (∀W:D,(W.rangeAt w.heap.size 0 (bv key)/\(κ W ⟨c,0,N⟩=E (I Δ u)/\κ W ⟨c,1,N⟩=E (I Δ v)/\κ W ⟨c,2,N⟩=E (I Δ y)/\κ W ⟨c,3,N⟩=E (I Δ z)/\κ W ⟨c,4,N⟩=E (I Δ A)/\κ W ⟨c,5,N⟩=E (I Δ B)/\κ W ⟨c,6,N⟩=E (I Δ C)/\κ W ⟨c,7,N⟩=E (I Δ F))/\G wc W N)->Calls prog 172 #[ε (bv key).toArray,I Δ (bf f),I U (bu l),Y (E ⟨r,o+8,N⟩) (l.length-16) (q-8)] W λe b=>e=ξ (ε (bv (fV key (bf f) (bu l) (bO l))).toArray)/\G W b N):=J (λW h=>
   Ea key (bf f) (bu l) _ _ _ (bO l) W hk (yj f) dk ((Z bz).ag h.2.2) O)
  replace a1:=J a1;by_cases hn:bu l<=4611686018427387903
  .have dm:decide (4611686018427387903<bu l)=θ:=Ψ;obtain⟨d,M⟩:=í (bu l);have b3:=NV u v y z A B C F (aa (cQ key (bh (bf f) 2 d++bO l)) 0) (aa (cQ key (bh (bf f) 2 d++bO l)) 1) (aa (cQ key (bh (bf f) 2 d++bO l)) 2) (aa (cQ key (bh (bf f) 2 d++bO l)) 3) (aa (cQ key (bh (bf f) 2 d++bO l)) 4) (aa (cQ key (bh (bf f) 2 d++bO l)) 5) (aa (cQ key (bh (bf f) 2 d++bO l)) 6) (aa (cQ key (bh (bf f) 2 d++bO l)) 7);have b4:([u,v,y,z,A,B,C,F]=[aa (cQ key (bh (bf f) 2 d++bO l)) 0,aa (cQ key (bh (bf f) 2 d++bO l)) 1,aa (cQ key (bh (bf f) 2 d++bO l)) 2,aa (cQ key (bh (bf f) 2 d++bO l)) 3,aa (cQ key (bh (bf f) 2 d++bO l)) 4,aa (cQ key (bh (bf f) 2 d++bO l)) 5,aa (cQ key (bh (bf f) 2 d++bO l)) 6,aa (cQ key (bh (bf f) 2 d++bO l)) 7])=(fV key (bf f) (bu l) (bO l)=my l):=by
    rw[Z p,<-M];exact propext ⟨λh=>h.symm,λh=>h.symm⟩
   have eK:aZ d:=by rw[M];exact dk
   rw[<-M]at hT dm⊢;replace M:=J M;by_cases R:fV key (bf f) (bu l) (bO l)=my l
   .have dn:∀W,(Op.equalIn 10000 300 (ε #[I Δ u,I Δ v,I Δ y,I Δ z,I Δ A,I Δ B,I Δ C,I Δ F]) (ε #[I Δ (aa (cQ key (bh (bf f) 2 d++bO l)) 0),I Δ (aa (cQ key (bh (bf f) 2 d++bO l)) 1),I Δ (aa (cQ key (bh (bf f) 2 d++bO l)) 2),I Δ (aa (cQ key (bh (bf f) 2 d++bO l)) 3),I Δ (aa (cQ key (bh (bf f) 2 d++bO l)) 4),I Δ (aa (cQ key (bh (bf f) 2 d++bO l)) 5),I Δ (aa (cQ key (bh (bf f) 2 d++bO l)) 6),I Δ (aa (cQ key (bh (bf f) 2 d++bO l)) 7)])).run prog W=.ok ρ W:=λW=>by
     rw[b3 W];simp only[b4,R,decide_true]
    have s:dZ key (bf f) l:=⟨ed,ee,R,hn⟩
    clear b3 b4;replace⟨R,s⟩:=aT R s;obtain⟨n,t⟩:=í (l.length-16);rw[<-t];rw[<-t]at hT bz;replace t:=J t;go_wp2_with fail;go_region_held3 (λb=>b.rangeAt w.heap.size 0 (bv key)/\(κ b ⟨c,0,N⟩=E (I Δ u)/\κ b ⟨c,1,N⟩=E (I Δ v)/\κ b ⟨c,2,N⟩=E (I Δ y)/\κ b ⟨c,3,N⟩=E (I Δ z)/\κ b ⟨c,4,N⟩=E (I Δ A)/\κ b ⟨c,5,N⟩=E (I Δ B)/\κ b ⟨c,6,N⟩=E (I Δ C)/\κ b ⟨c,7,N⟩=E (I Δ F))/\G wc b N)
    (with_reducible first|exact H|exact dg)
    (first
      |(go_at_call 173;apply(vN f _).mono;rintro e b⟨rfl,rfl⟩)
      |(go_at_call 172;apply(Z hT _ Ω).mono;rintro e S⟨rfl,g7⟩;rw[yk];have H:=s5 (wc:=wc) Ω g7))
    clear dn;by_cases L:n=0
    .have hz:((n:Int)==0)=ρ:=by simp[L]
     have eS:(n==0)=ρ:=by simp[L]
     go_wp2;go_ret3;refine⟨φ ⟨Z s,N,0,?_,?_,λx p=>(by cases p),λ_=>rfl⟩,aq g1 (aq V H.2.2)⟩
     rw[Z M,<-Z t,L];rfl;have e3:bO l=[]:=by rw[<-List.length_eq_zero_iff,Z a1,<-Z t,L]
     rw[<-Z t,L,e3];exact⟨λx p=>(by cases p),Q,aP _,by simp[maxLen],φ ⟨Q,Q⟩⟩
    have hz:((n:Int)==0)=θ:=by simp[L]
    have eS:(n==0)=θ:=by simp[L]
    have e4:=J L;clear L;have gj:n<=300:=by have:=Z t;omega
    have a2:(bO l).length=n:=by rw[Z a1,Z t]
    have ct:Hid ((bO l).take n=bO l):=J (à);have e5:Hid (0+(bO l).length<=(List.replicate n (0:Int)).length):=J Ψ;have du:=J (Z bz).1;replace a2:=J a2;go_wp2_with (first|(at_make;refine Ed _ _ Ξ Ξ _ n Ξ Ξ O O ?_;intro w8 cv g8;replace cv:=J cv)|(refine uY _ _ Ξ Ξ S.heap.size 0 n n Ξ (E ⟨r,o+8,N⟩) n (q-8) Ξ (bO l) ((Z bz).ag (aq H.2.2 g8)) (List.replicate n 0) 5 (Z cv) ?_ ?_;(rw[Z ct];exact Z e5);(rw[Z ct];intro w9 b5 g9;rw[NY n _ (Z a2)]at b5;replace b5:=J b5)));have ea:w9.drew.rangeAt w.heap.size 0 (bv key):=by
     have h7:=H.2.2.size;have h8:=(aV.1 (Z a0)).1;exact jE (jE H.1 g8 Γ) (aK g9) (λe=>by have:=aR e;omega)
    have e7:Hid (w9.drew.heap[S.heap.size]?=E (ο (bv (bO l)).toArray 5 (0,0))):=J (Z b5);go_region_held3 (λb=>b.rangeAt w.heap.size 0 (bv key))
     (with_reducible first|exact e8|exact ea)
     (first
       |(go_at_call 173;apply(vN f _).mono;rintro e b⟨rfl,rfl⟩)
       |(go_at_call 174;refine(Ec key (bf f) d S.heap.size 0 n n (bO l) 5 _ hk (yj f) eK (Z du) (by have:=Z a2;omega) O (by simp[maxLen];omega) (Z e7)).mono ?_;rintro e gm⟨rfl,cx,b6⟩;have e8:=jE ea b6 (λe=>by have h6:=aR e;have h7:=H.2.2.size;have h8:=(aV.1 (Z a0)).1;omega);replace cx:=J cx;replace b6:=J b6))
    go_wp2;go_ret3;have eb:=Z cx;rw[qZ,Z ct,NZ _ _ (by rw[nI])]at eb;have gq:(cV key (bf f) d (bO l)).length=n:=by rw[nI,Z a2]
    have ec:=ym eb (vO (Z du)) 0 n n O (aP _) (by simp[maxLen];omega);rw[qZ,à]at ec;have cy:G w S N:=aq g1 (aq V H.2.2);refine⟨φ ⟨Z s,E ⟨S.heap.size,0,N⟩,n,?_,?_,λx p=>(by cases p;exact cy.size),λgr=>absurd (show n=0 by have:=Z t;omega) (Z e4)⟩,?_⟩
    rw[Z M,<-Z t];rfl;rw[<-Z t,<-Z M];exact ec;exact nB (cO (cK (aq cy g8) (E S.heap.size)) (aq (aK g9) (Z b6)) (λj e=>ψ Q)) cy.size
   have dn:∀W,(Op.equalIn 10000 300 (ε #[I Δ u,I Δ v,I Δ y,I Δ z,I Δ A,I Δ B,I Δ C,I Δ F]) (ε #[I Δ (aa (cQ key (bh (bf f) 2 d++bO l)) 0),I Δ (aa (cQ key (bh (bf f) 2 d++bO l)) 1),I Δ (aa (cQ key (bh (bf f) 2 d++bO l)) 2),I Δ (aa (cQ key (bh (bf f) 2 d++bO l)) 3),I Δ (aa (cQ key (bh (bf f) 2 d++bO l)) 4),I Δ (aa (cQ key (bh (bf f) 2 d++bO l)) 5),I Δ (aa (cQ key (bh (bf f) 2 d++bO l)) 6),I Δ (aa (cQ key (bh (bf f) 2 d++bO l)) 7)])).run prog W=.ok θ W:=λW=>by
    rw[b3 W];simp only[b4,R,uT]
   have s:¬dZ key (bf f) l:=λh=>R h.2.2.1
   clear b3 b4 R;replace s:=J s;go_wp2_with fail;go_region_held3 (λb=>b.rangeAt w.heap.size 0 (bv key)/\(κ b ⟨c,0,N⟩=E (I Δ u)/\κ b ⟨c,1,N⟩=E (I Δ v)/\κ b ⟨c,2,N⟩=E (I Δ y)/\κ b ⟨c,3,N⟩=E (I Δ z)/\κ b ⟨c,4,N⟩=E (I Δ A)/\κ b ⟨c,5,N⟩=E (I Δ B)/\κ b ⟨c,6,N⟩=E (I Δ C)/\κ b ⟨c,7,N⟩=E (I Δ F))/\G wc b N)
   (with_reducible first|exact H|exact dg)
   (first
     |(go_at_call 173;apply(vN f _).mono;rintro e b⟨rfl,rfl⟩)
     |(go_at_call 172;apply(Z hT _ Ω).mono;rintro e S⟨rfl,g7⟩;rw[yk];have H:=s5 (wc:=wc) Ω g7))
   go_wp2;go_ret3;exact⟨ψ ⟨Z s,Q⟩,aq g1 (aq V H.2.2)⟩
  have dm:decide (4611686018427387903<bu l)=ρ:=Ψ;have s:¬dZ key (bf f) l:=λh=>hn h.2.2.2
  replace s:=J s;clear hn;go_wp2_with fail;go_quiet (fail);go_wp2;go_ret3;exact⟨ψ ⟨Z s,Q⟩,aq g1 (aq V (cu (au _ _) _))⟩
