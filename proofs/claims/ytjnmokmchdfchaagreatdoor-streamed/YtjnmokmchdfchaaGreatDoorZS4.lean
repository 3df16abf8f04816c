import Derived.LaidEql
import Derived.Laws.OwnMore
import Derived.Laws.StructEq
import Derived.Lib.IfaceEq
import Derived.LoopIn
import Derived.LoopNIn
import Derived.OwnWalkIn
import Derived.RangeFuncBound
import Derived.RangeFuncCalls
import Derived.RangeFuncLeaves
import Derived.RangeFuncNested
import Derived.RegionDies
import Derived.RowKitTokens
import Derived.Shelf.Abstract
import Derived.Shelf.RegionOpen
import Derived.Stop.Asserts
import Derived.TacticsInMore
import Derived.Test.YtjnmokmchdfchaaGreatDoorZS1
set_option maxRecDepth 1000000
set_option maxHeartbeats 0
set_option linter.all false
namespace Go.Proofs.YtjnmokmchdfchaaGreatDoor
open Go.RowKit Tryz
open Go.Value renaming int→I,slice→Y,bool→β,pointer→π,agg→ε,string→ς,tuple→τ
open Go.IntKind renaming i64→X,u64→U,u8→Δ
open Go.Ending renaming returned→ξ
open Go.Obj renaming cells→ο
open Or renaming inl→φ,inr→ψ
open Option renaming some→E,none→N
open Bool renaming true→ρ,false→θ
open Go renaming World→D,Value→υ
open Go.World renaming grownBy→G,cell?→κ,frozen?→χ,setCell→ζ
attribute[local go_sem↓]Go.wp_at_zero Go.wp_at_succ
variable{b i j l m o:Nat}{T:TypeId}{x y z:υ}{W w:D}
abbrev R4(a c d e:Nat->υ)(b o h:Nat)(W:D):Prop:=κ W ⟨b,o+h*4,N⟩=E (a h)/\κ W ⟨b,o+h*4+1,N⟩=E (c h)/\κ W ⟨b,o+h*4+2,N⟩=E (d h)/\κ W ⟨b,o+h*4+3,N⟩=E (e h)
abbrev R7(a c d e f g i:Nat->υ)(b o h:Nat)(W:D):Prop:=κ W ⟨b,o+h*7,N⟩=E (a h)/\κ W ⟨b,o+h*7+1,N⟩=E (c h)/\κ W ⟨b,o+h*7+2,N⟩=E (d h)/\κ W ⟨b,o+h*7+3,N⟩=E (e h)/\κ W ⟨b,o+h*7+4,N⟩=E (f h)/\κ W ⟨b,o+h*7+5,N⟩=E (g h)/\κ W ⟨b,o+h*7+6,N⟩=E (i h)
abbrev R2(a c:Nat->υ)(b o h:Nat)(W:D):Prop:=κ W ⟨b,o+h*2,N⟩=E (a h)/\κ W ⟨b,o+h*2+1,N⟩=E (c h)
def Ix(f:Nat)(row:Nat->Nat->Nat->D->Prop)(v:Nat->Array υ):Prop:=
 ∀(a:Option Addr)(b o n d c:Nat)(la g:Array υ)(w:D)(p:Nat->Prop)(Inv:Nat->D->Prop),(0<n->a=E ⟨b,o,N⟩)->n<=d/\d<=maxLen->(∀args w,(callFunc c args).run prog w=.ok (.enter c args) w)->Inv 0 w->
  (∀(W:D)(h:Nat),Inv h W->h<n->row b o h W)->
  (∀(W:D)(h:Nat),Inv h W->h<n->Calls prog c (la++ #[ε (v h)]++g) W (λe l=>gR (p h) e/\Inv (h+1) l))->
  Calls prog f #[Y a n d,.func (.func c) la g] w λe j=>(∃k:Nat,k<n/\e=ξ (I X k)/\p k/\(∀i,i<k->¬p i)/\Inv (k+1) j)\/(e=ξ (I X (-1))/\(∀i,i<n->¬p i)/\Inv n j)
def zL:(∀c d f g,Ix 235 (R4 c d f g) (λh=> #[c h,d h,f h,g h])/\Ix 303 (R4 c d f g) (λh=> #[c h,d h,f h,g h]))/\(∀c d f g r s u,Ix 213 (R7 c d f g r s u) (λh=> #[c h,d h,f h,g h,r h,s h,u h]))/\∀c d,Ix 305 (R2 c d) (λh=> #[c h,d h]):=by
 refine⟨λc d f g=>⟨?_,?_⟩,λc d f g r s u=>?_,λc d=>?_⟩
 all_goals
  intro a b o n ak gf la lb w p Inv K ⟨ax,L⟩ eg h0 v x
  refine fL λR m=>?_
  unfold maxLen at L
  replace⟨m,x,v,h0⟩:=fB m x v h0
  first|go_enter func235,ntmps235|go_enter func303,ntmps303|go_enter func213,ntmps213|go_enter func305,ntmps305
  go_wp2
  go_loopw [8] (λz wr=>∃j:Nat,j<=n/\z=I X j/\(∀i,i<j->¬p i)/\Inv j wr) (λz _=>n-(intOf z).toNat)
  case atStart=>exact⟨0,O,Q,λi hi=>by omega,Z h0⟩
  case round=>
   obtain⟨j,hj,rfl,k,l⟩:=hrel
   replace k:=J k
   by_cases A:j<n
   .have d1:decide ((j:Int)<n)=ρ:=α;have y:=Z v wr j l A;first|obtain⟨C,F,M,P,y4,y5,y6⟩:=y|obtain⟨C,F,M,P⟩:=y|obtain⟨C,F⟩:=y
    have hF:=J (Z x wr j l A);have S:=K O;subst S;replace l:=J l;go_wp2_with fail;apply(Z hF).mono;rintro e T⟨⟨t,rfl,H⟩,q⟩;replace q:=J q;cases t
    .have V:Hid (¬p j):=J (λhp=>by cases H.2 hp);go_wp2;go_roundw;case rel=>
      refine⟨j+1,O,Γ,λi W=>?_,Z q⟩
      obtain h|rfl:=sY.1 W
      exact Z k i h;exact Z V
     case measure=>simp[intOf];omega
    have ai:Hid (p j):=J (H.1 Q);have B:Hid (R (ξ (I X j)) T):=J (by rw[Z m];exact φ ⟨j,A,Q,Z ai,Z k,Z q⟩);go_wp2_with fail;exact Z B
   have d1:decide ((j:Int)<n)=θ:=é
   obtain rfl:j=n:=O
   have B:Hid (R (ξ (I X (-1))) wr):=J (by rw[Z m];exact ψ ⟨Q,Z k,l⟩)
   go_wp2_with fail
   exact Z B
def Cx(f:Nat)(row:Nat->Nat->Nat->D->Prop)(v:Nat->Array υ):Prop:=
 ∀(a:Option Addr)(b o n d c:Nat)(la g:Array υ)(w:D)(p:Nat->Prop),(0<n->a=E ⟨b,o,N⟩)->n<=d/\d<=maxLen->(∀args w,(callFunc c args).run prog w=.ok (.enter c args) w)->
  (∀(W:D)(h:Nat),G w W N->h<n->row b o h W)->
  (∀(W:D)(h:Nat),G w W N->h<n->Calls prog c (la++ #[ε (v h)]++g) W (λe j=>gR (p h) e/\G W j N))->
  Calls prog f #[Y a n d,.func (.func c) la g] w λe k=>gR (∃i,i<n/\p i) e/\G w k N
def vz:(∀c d f j,Cx 197 (R4 c d f j) (λh=> #[c h,d h,f h,j h])/\Cx 292 (R4 c d f j) (λh=> #[c h,d h,f h,j h]))/\(∀c d f j q r s,Cx 162 (R7 c d f j q r s) (λh=> #[c h,d h,f h,j h,q h,r h,s h]))/\∀c d,Cx 300 (R2 c d) (λh=> #[c h,d h]):=by
 obtain⟨u,y,z⟩:=zL;refine⟨λc d f j=>⟨?_,?_⟩,λc d f j q r s=>?_,λc d=>?_⟩
 have l:=J (u c d f j).1;rotate_left
 have l:=J (u c d f j).2;rotate_left
 have l:=J (y c d f j q r s);rotate_left
 have l:=J (z c d);all_goals
  clear u y z
  intro a b o n A B la C w p F H eg K L
  replace l:=J (Z l a b o n A B la C w p (λ_ W=>G w W N) F H eg (au _ _) K (λW h g M=>(L W h g M).mono (λ_ _ t=>⟨t.1,aq g t.2⟩)))
  obtain⟨R,m⟩:∃R:Prop,R=(∃i,i<n/\p i):=⟨_,Q⟩
  rw[<-m]
  replace m:=J m
  first|go_enter func197,ntmps197|go_enter func292,ntmps292|go_enter func162,ntmps162|go_enter func300,ntmps300
  go_wp2_with fail
  apply(Z l).mono
  rintro e T(⟨k,P,rfl,hp,-,v⟩|⟨rfl,hp,v⟩)
  .have hd:decide (0<=(k:Int))=ρ:=α;have x:Hid (gR R (ξ (β ρ))):=J (xv (by rw[Z m];exact⟨k,P,hp⟩));go_wp2;go_ret;exact⟨Z x,v⟩
  have x:Hid (gR R (ξ (β θ))):=J (jM (by rw[Z m];rintro⟨i,S,t⟩;exact hp i S t))
  go_wp2
  go_ret
  exact⟨Z x,v⟩
structure Sh where
 k:Int
 fin:Bool
 t:Int
 pa:Option Addr
 n:Nat
def cG(a b c d e:Nat):List Sh:=
 [⟨1,θ,0,N,0⟩,⟨2,θ,1,N,0⟩,⟨3,θ,2,E ⟨a,0,N⟩,1⟩,⟨4,θ,4,E ⟨b,0,N⟩,3⟩,⟨5,θ,8,E ⟨c,0,N⟩,3⟩,⟨5,ρ,9,E ⟨d,0,N⟩,3⟩,⟨6,θ,28,E ⟨e,0,N⟩,1⟩]
def bJ(l:List Sh)(j:Nat):Sh:=l.getD j ⟨0,θ,0,N,0⟩
def rD(h:j<7):j=0\/j=1\/j=2\/j=3\/j=4\/j=5\/j=6:=O
def kr.at{f g:Nat}(h:kr W l m o b i j f g)(a:Nat)(p:a<7):
 κ W ⟨l,a*4,N⟩=E (I X (bJ (cG m o b i j) a).k)/\κ W ⟨l,a*4+1,N⟩=E (β (bJ (cG m o b i j) a).fin)/\κ W ⟨l,a*4+2,N⟩=E (I Δ (bJ (cG m o b i j) a).t)/\κ W ⟨l,a*4+3,N⟩=E (Y (bJ (cG m o b i j) a).pa (bJ (cG m o b i j) a).n (bJ (cG m o b i j) a).n):=by
 have c:=λ(d:Nat)(v:υ)(e:(Dl m o b i j)[d]?=E v)=>h.tab d v e
 simp only[eM]at c;obtain rfl|rfl|rfl|rfl|rfl|rfl|rfl:=rD p<;>exact⟨c _ _ Q,c _ _ Q,c _ _ Q,c _ _ Q⟩
def jZ{a:υ}(h:w.heap[b]?=E (ο #[x,y,z,a] T (0,0))):κ w ⟨b,0,N⟩=E x/\κ w ⟨b,1,N⟩=E y/\κ w ⟨b,2,N⟩=E z/\κ w ⟨b,3,N⟩=E a/\∀o,χ w ⟨b,o,N⟩=θ:=by
 simp[κ,χ,h]
def KK(w:D)(T a b c l m Bo Bc:Nat)(hT:kr w T a b c l m Bo Bc)(f:Fr)(y:υ):
 Calls prog 191 #[Y (E ⟨T,0,N⟩) 7 7,ε (bC f y)] w λe A=>
  ((∃j,j<7/\(bJ (cG a b c l m) j).k=f.kind/\(bJ (cG a b c l m) j).fin=(f.fin&&decide (f.kind=5))/\e=ξ (τ #[ε #[I X (bJ (cG a b c l m) j).k,β (bJ (cG a b c l m) j).fin,I Δ (bJ (cG a b c l m) j).t,Y (bJ (cG a b c l m) j).pa (bJ (cG a b c l m) j).n (bJ (cG a b c l m) j).n],β ρ]))\/
    ((∀j,j<7->¬((bJ (cG a b c l m) j).k=f.kind/\(bJ (cG a b c l m) j).fin=(f.fin&&decide (f.kind=5))))/\e=ξ (τ #[ε #[I X 0,β θ,I Δ 0,Y N 0 0],β θ])))/\G w A N:=by
 have ax:=λ(W:D)(g:G w W N)=>(hT.ag g).at
 generalize cG a b c l m=L at *;clear hT;obtain⟨k,s,o,cd,fin,d,rg⟩:=f;obtain⟨R,r⟩:∃R:Ending->D->Prop,R=λe A=>((∃j,j<7/\(bJ L j).k=k/\(bJ L j).fin=(fin&&decide (k=5))/\e=ξ (τ #[ε #[I X (bJ L j).k,β (bJ L j).fin,I Δ (bJ L j).t,Y (bJ L j).pa (bJ L j).n (bJ L j).n],β ρ]))\/
  ((∀j,j<7->¬((bJ L j).k=k/\(bJ L j).fin=(fin&&decide (k=5))))/\e=ξ (τ #[ε #[I X 0,β θ,I Δ 0,Y N 0 0],β θ])))/\G w A N:=⟨_,Q⟩
 show Calls prog 191 #[Y (E ⟨T,0,N⟩) 7 7,ε #[I X k,I X s,I U o,I U cd,β fin,ς d,y]] w (λe A=>((∃j,j<7/\(bJ L j).k=k/\(bJ L j).fin=(fin&&decide (k=5))/\e=ξ (τ #[ε #[I X (bJ L j).k,β (bJ L j).fin,I Δ (bJ L j).t,Y (bJ L j).pa (bJ L j).n (bJ L j).n],β ρ]))\/
  ((∀j,j<7->¬((bJ L j).k=k/\(bJ L j).fin=(fin&&decide (k=5))))/\e=ξ (τ #[ε #[I X 0,β θ,I Δ 0,Y N 0 0],β θ])))/\G w A N)
 rw[<-r];obtain⟨q,hq⟩:∃q:Bool,q=(fin&&decide (k=5)):=⟨_,Q⟩
 rw[<-hq]at r;replace⟨r,ax⟩:=aT r ax;have B:∀W:D,(((w.alloc (ο #[I X k,I X s,I U o,I U cd,β fin,ς d,y] 158)).alloc (ο #[I X 0,β θ,I Δ 0,Y N 0 0] 317))).grownBy W N->W.heap[w.heap.size]?=E (ο #[I X k,I X s,I U o,I U cd,β fin,ς d,y] 158 (0,0))/\W.heap[w.heap.size+1]?=E (ο #[I X 0,β θ,I Δ 0,Y N 0 0] 317 (0,0))/\G w W N:=λW g=>
  ⟨(g.block _ Ψ Γ).trans (by rw[fE _ _ _ Γ];exact aM _ _),(g.block _ Γ Γ).trans (by rw[<-dJ w (ο #[I X k,I X s,I U o,I U cd,β fin,ς d,y] 158)];exact aM _ _),aq (aW (aC _ _ _) _) g⟩
 replace B:=J B;obtain⟨W0,C⟩:=í ((w.alloc (ο #[I X k,I X s,I U o,I U cd,β fin,ς d,y] 158)).alloc (ο #[I X 0,β θ,I Δ 0,Y N 0 0] 317));rw[<-C]at B;obtain⟨F,H⟩:∃F:Nat->Prop,F=λj=>¬((bJ L j).k=k/\(bJ L j).fin=q):=⟨_,Q⟩
 have br:(fin=θ/\q=θ)\/(fin=ρ/\(k==5)=ρ/\q=ρ)\/(fin=ρ/\(k==5)=θ/\q=θ):=by
  rw[hq];cases fin;simp;by_cases h5:k=5<;>simp[h5]
 clear hq;replace H:=J H;obtain⟨rfl,rfl⟩|⟨rfl,e5,rfl⟩|⟨rfl,e5,rfl⟩:=br
 all_goals
  go_enter func191,ntmps191
  go_wp2_with fail
  try clear e5
  rw[<-C]
  replace C:=J C
  go_loopw [18] (λi wr=>∃j:Nat,j<=7/\i=I X j/\(∀i,i<j->F i)/\G W0 wr N) (λi _=>7-(intOf i).toNat)
  case atStart=>exact⟨0,O,Q,λi hi=>by omega,au _ _⟩
  case round=>
   obtain⟨j,hj,rfl,z,g1⟩:=hrel
   obtain⟨b1,b2,M⟩:=Z B wr g1
   by_cases a2:j<7
   .obtain⟨c1,c2,c3,c4⟩:=Z ax wr M j a2;obtain⟨S,p⟩:=í (bJ L j);rw[<-p]at c1 c2 c3 c4;obtain⟨K,P,V,PA,PN⟩:=S;simp only at c1 c2 c3 c4;have a8:Hid (¬(K=k/\P=_)->∀i,i<j+1->F i):=J (λhn i hi=>by
     obtain h1|rfl:=sY.1 hi
     exact z i h1
     .rw[Z H];simp only[<-p];exact hn)
    replace⟨z,p⟩:=aT z p;have i1:(0:Int)<=j:=O;have i2:(j:Int)<7:=O;have d0:(wr.alloc (ο #[I X K,β P,I Δ V,Y PA PN PN] 317)).cell? ⟨w.heap.size,0,N⟩=E (I X k):=by
     rw[World.cell?_alloc_past _ _ _ (aV.1 b1).1];simp[κ,b1]
    replace b1:=J b1;by_cases u:K=k
    .have eK:(K==k)=ρ:=by simp[u]
     replace u:=J u;have x:(wr.alloc (ο #[I X K,β P,I Δ V,Y PA PN PN] 317)).heap[w.heap.size+1]?=E (ο #[I X 0,β θ,I Δ 0,Y N 0 0] 317 (0,0)):=(fE _ _ _ (aV.1 b2).1).trans b2;have z0:=(jZ x).1;have z1:=(jZ x).2.1;have z2:=(jZ x).2.2.1;have z3:=(jZ x).2.2.2.1;have zf:=(jZ x).2.2.2.2;replace⟨x,b2⟩:=aT x b2;cases P;all_goals
      first
      |(go_wp2_with fail
        go_roundw
        case rel=>exact⟨j+1,O,Γ,Z a8 (λh=>by have:=h.2;revert this;decide),aW g1 _⟩
        case measure=>simp[intOf];omega)
      |(go_wp2_with fail
        first
         |(refine cC (v:=τ #[ε #[I X K,β θ,I Δ V,Y PA PN PN],β ρ]) ?_ Q ?_
           .simp[results,results191,go_sem,z0,z1,z2,z3]
           .rw[Z r];exact⟨φ ⟨j,a2,by rw[<-Z p];exact Z u,by rw[<-Z p],by rw[<-Z p]⟩,aD (aD (aD (aD (aW M _) _ _ (φ (dw _))) _ _ (φ (dw _))) _ _ (φ (dw _))) _ _ (φ (dw _))⟩)
         |(refine cC (v:=τ #[ε #[I X K,β ρ,I Δ V,Y PA PN PN],β ρ]) ?_ Q ?_
           .simp[results,results191,go_sem,z0,z1,z2,z3]
           .rw[Z r];exact⟨φ ⟨j,a2,by rw[<-Z p];exact Z u,by rw[<-Z p],by rw[<-Z p]⟩,aD (aD (aD (aD (aW M _) _ _ (φ (dw _))) _ _ (φ (dw _))) _ _ (φ (dw _))) _ _ (φ (dw _))⟩))
    have eK:(K==k)=θ:=by simp[u]
    replace b2:=J b2;go_wp2;go_roundw;case rel=>exact⟨j+1,O,Γ,Z a8 (λh=>u h.1),aW g1 _⟩
    case measure=>simp[intOf];omega
   obtain rfl:j=7:=O
   have z0:=(jZ b2).1
   have z1:=(jZ b2).2.1
   have z2:=(jZ b2).2.2.1
   have z3:=(jZ b2).2.2.2.1
   have zf:=(jZ b2).2.2.2.2
   replace⟨b1,b2,z⟩:=cA b1 b2 z
   go_wp2_with fail
   refine cC (v:=τ #[ε #[I X 0,β θ,I Δ 0,Y N 0 0],β θ]) ?_ Q ?_
   .simp[results,results191,go_sem,z0,z1,z2,z3]
   rw[Z r]
   refine⟨ψ ⟨λi hi=>?_,Q⟩,aD (aD (aD (aD M _ _ (φ (dw _))) _ _ (φ (dw _))) _ _ (φ (dw _))) _ _ (φ (dw _))⟩
   have:=Z z i hi
   rw[Z H]at this
   exact this
def NA(w:D)(L:List Sh)(t:Int)(e:Ending)(a:D):Prop:=
 ((∃j,j<7/\(bJ L j).t=t/\e=ξ (τ #[ε #[I X (bJ L j).k,β (bJ L j).fin,I Δ (bJ L j).t,Y (bJ L j).pa (bJ L j).n (bJ L j).n],β ρ]))\/
   ((∀j,j<7->¬(bJ L j).t=t)/\e=ξ (τ #[ε #[I X 0,β θ,I Δ 0,Y N 0 0],β θ])))/\G w a N
def NB(w:D)(T h k l m n F H:Nat)(M:kr w T h k l m n F H)(t:Int):
 Calls prog 232 #[Y (E ⟨T,0,N⟩) 7 7,I Δ t] w (NA w (cG h k l m n) t):=by
 have p:=λ(W:D)(g:G w W N)=>(M.ag g).at
 generalize cG h k l m n=L at *;obtain⟨y,f⟩:=í (w.alloc (ο #[I X 0,β θ,I Δ 0,Y N 0 0] 317));have q:∀W:D,G y W N->W.heap[w.heap.size]?=E (ο #[I X 0,β θ,I Δ 0,Y N 0 0] 317 (0,0))/\G w W N:=λW g=>
  ⟨(g.block _ (by rw[f];simp) Γ).trans (by rw[f];exact aM _ _),aq (by rw[f];exact aC _ _ _) g⟩
 replace⟨q,p⟩:=aT q p;go_enter func232,ntmps232;go_wp2_with fail;rw[<-f];go_loopw [10] (λi wr=>∃j:Nat,j<=7/\i=I X j/\(∀i,i<j->¬(bJ L i).t=t)/\G y wr N) (λi _=>7-(intOf i).toNat);case atStart=>exact⟨0,O,Q,λi hi=>by omega,au _ _⟩
 case round=>
  obtain⟨j,hj,rfl,a,z⟩:=hrel;obtain⟨b2,r⟩:=Z q wr z;by_cases A:j<7
  .obtain⟨c1,c2,c3,c4⟩:=Z p wr r j A;obtain⟨S,b⟩:=í (bJ L j);rw[<-b]at c1 c2 c3 c4;obtain⟨K,B,c,C,PN⟩:=S;simp only at c1 c2 c3 c4;have P:Hid (¬c=t->∀i,i<j+1->¬(bJ L i).t=t):=J (λR i hi=>by
    obtain V|rfl:=sY.1 hi
    exact a i V
    .rw[<-b];exact R)
   replace⟨a,b⟩:=aT a b;by_cases d:c=t
   .have eK:(c==t)=ρ:=by simp[d]
    replace d:=J d;have e:(wr.alloc (ο #[I X K,β B,I Δ c,Y C PN PN] 317)).heap[w.heap.size]?=E (ο #[I X 0,β θ,I Δ 0,Y N 0 0] 317 (0,0)):=(fE _ _ _ (aV.1 b2).1).trans b2;have s:=(jZ e).1;have u:=(jZ e).2.1;have z2:=(jZ e).2.2.1;have x:=(jZ e).2.2.2.1;have zf:=(jZ e).2.2.2.2;replace b2:=J b2;go_wp2_with fail;refine cC (v:=τ #[ε #[I X K,β B,I Δ c,Y C PN PN],β ρ]) ?_ Q ?_
    .simp[results,results232,go_sem,s,u,z2,x]
    exact⟨φ ⟨j,A,by rw[<-Z b];exact Z d,by rw[<-Z b]⟩,aD (aD (aD (aD (aW r _) _ _ (φ (aP _))) _ _ (φ (aP _))) _ _ (φ (aP _))) _ _ (φ (aP _))⟩
   have eK:(c==t)=θ:=by simp[d]
   replace b2:=J b2;go_wp2;go_roundw;case rel=>exact⟨j+1,O,Γ,Z P d,aW z _⟩
   case measure=>simp[intOf];omega
  obtain rfl:j=7:=O;have s:=(jZ b2).1;have u:=(jZ b2).2.1;have z2:=(jZ b2).2.2.1;have x:=(jZ b2).2.2.2.1;have zf:=(jZ b2).2.2.2.2;replace a:=J a;go_wp2_with fail;refine cC (v:=τ #[ε #[I X 0,β θ,I Δ 0,Y N 0 0],β θ]) ?_ Q ?_
  .simp[results,results232,go_sem,s,u,z2,x]
  exact⟨ψ ⟨Z a,Q⟩,aD (aD (aD (aD r _ _ (φ (aP _))) _ _ (φ (aP _))) _ _ (φ (aP _))) _ _ (φ (aP _))⟩
def NV(a b c d e f g h i j k l m n p q:Int)(w:D):(Op.equalIn 10000 300 (ε #[I Δ a,I Δ b,I Δ c,I Δ d,I Δ e,I Δ f,I Δ g,I Δ h]) (ε #[I Δ i,I Δ j,I Δ k,I Δ l,I Δ m,I Δ n,I Δ p,I Δ q])).run prog w=.ok (decide ([a,b,c,d,e,f,g,h]=[i,j,k,l,m,n,p,q])) w:=by
 have u3:=underlying5;have z:=isAgg5;have A:=sizeOf5;rw[show(10000:Nat)=9999+1 from Q,Op.equalIn];simp only[jL,run_underlying underlying300,jC]
 simp only[Std.Legacy.Range.forIn_eq_forIn_range',Std.Legacy.Range.size,Nat.sub_zero,oZ,Nat.div_one,List.range'_succ,List.range'_zero,List.forIn_cons,List.forIn_nil]
 by_cases h0:a=i;case neg=>go_simp
 by_cases r:b=j;case neg=>go_simp
 by_cases s:c=k;case neg=>go_simp
 by_cases t:d=l;case neg=>go_simp
 by_cases u:e=m;case neg=>go_simp
 by_cases v:f=n;case neg=>go_simp
 by_cases x:g=p;case neg=>go_simp
 by_cases y:h=q;case neg=>go_simp
 subst h0 r s t u v x y;go_simp
def qe(w:D)(xb sb:Nat)(c:κ w ⟨xb,0,N⟩=E (π (E ⟨sb,0,N⟩))):
 Calls prog 72 #[π (E ⟨xb,0,N⟩)] w λe a=>e=ξ (π (E ⟨sb,0,N⟩))/\a=w:=by
 go_enter func72,ntmps72;go_wp2;go_ret;exact⟨Q,Q⟩
def OF(w:D)(xb sb:Nat)(c:κ w ⟨xb,0,N⟩=E (π (E ⟨sb,0,N⟩)))(k:Int)(g:υ)(d:Ending->D->Prop)(hs:∀e i,d e i->∃a b,e=ξ (τ #[a,b]))(f:Calls prog 126 #[π (E ⟨sb,0,N⟩),I X k,g] w d):
 Calls prog 92 #[π (E ⟨xb,0,N⟩),I X k,g] w d:=by
 replace f:=J f;go_enter func92,ntmps92;go_wp2_with fail;apply(Z (J (qe w xb sb c))).mono;rintro e j⟨rfl,rfl⟩;go_wp2_with fail;apply(Z f).mono;rintro e l h;obtain⟨a,b,rfl⟩:=hs _ _ h;replace h:=J h;go_wp2_with fail;first|exact Z h|exact cC (v:=τ #[a,b]) (by simp[results,results92,go_sem]) Q (Z h)
def OG(w:D)(xb sb:Nat)(c:κ w ⟨xb,0,N⟩=E (π (E ⟨sb,0,N⟩)))(k:Int)(a:Ending->D->Prop)(hs:∀e d,a e d->∃v,e=ξ v)(b:Calls prog 127 #[π (E ⟨sb,0,N⟩),I X k] w a):
 Calls prog 93 #[π (E ⟨xb,0,N⟩),I X k] w a:=by
 replace b:=J b;go_enter func93,ntmps93;go_wp2_with fail;apply(Z (J (qe w xb sb c))).mono;rintro e f⟨rfl,rfl⟩;go_wp2_with fail;apply(Z b).mono;rintro e g h;obtain⟨v,rfl⟩:=hs _ _ h;replace h:=J h;go_wp2_with fail;exact Z h
def OH(w:D)(xb sb:Nat)(c:κ w ⟨xb,0,N⟩=E (π (E ⟨sb,0,N⟩)))(k:Int)(code:Int)(a:Ending->D->Prop)(hs:∀e d,a e d->∃v,e=ξ v)(b:Calls prog 128 #[π (E ⟨sb,0,N⟩),I X k,I U code] w a):
 Calls prog 94 #[π (E ⟨xb,0,N⟩),I X k,I U code] w a:=by
 replace b:=J b;go_enter func94,ntmps94;go_wp2_with fail;apply(Z (J (qe w xb sb c))).mono;rintro e f⟨rfl,rfl⟩;go_wp2_with fail;apply(Z b).mono;rintro e g h;obtain⟨v,rfl⟩:=hs _ _ h;replace h:=J h;go_wp2_with fail;exact Z h
def OI(w:D)(xb sb:Nat)(c:κ w ⟨xb,0,N⟩=E (π (E ⟨sb,0,N⟩)))(k:Int)(d:Ending->D->Prop)(hs:∀e g,d e g->∃a b,e=ξ (τ #[a,b]))(f:Calls prog 134 #[π (E ⟨sb,0,N⟩),I X k] w d):
 Calls prog 101 #[π (E ⟨xb,0,N⟩),I X k] w d:=by
 replace f:=J f;go_enter func101,ntmps101;go_wp2_with fail;apply(Z (J (qe w xb sb c))).mono;rintro e i⟨rfl,rfl⟩;go_wp2_with fail;apply(Z f).mono;rintro e j h;obtain⟨a,b,rfl⟩:=hs _ _ h;replace h:=J h;go_wp2_with fail;first|exact Z h|exact cC (v:=τ #[a,b]) (by simp[results,results101,go_sem]) Q (Z h)
def OJ(w:D)(xb sb:Nat)(c:κ w ⟨xb,0,N⟩=E (π (E ⟨sb,0,N⟩)))(a:Ending->D->Prop)(hs:∀e d,a e d->e=ξ (τ #[]))(b:Calls prog 129 #[π (E ⟨sb,0,N⟩)] w a):
 Calls prog 95 #[π (E ⟨xb,0,N⟩)] w a:=by
 replace b:=J b;go_enter func95,ntmps95;go_wp2_with fail;apply(Z (J (qe w xb sb c))).mono;rintro e f⟨rfl,rfl⟩;go_wp2_with fail;apply(Z b).mono;rintro e g h;obtain rfl:=hs _ _ h;replace h:=J h;go_wp2_with fail;first|exact Z h|exact eP (dV Q _ _ _) Q (Z h)
def OK(w:D)(xb sb:Nat)(c:κ w ⟨xb,0,N⟩=E (π (E ⟨sb,0,N⟩)))(a:Ending->D->Prop)(hs:∀e d,a e d->∃v,e=ξ v)(b:Calls prog 130 #[π (E ⟨sb,0,N⟩)] w a):
 Calls prog 96 #[π (E ⟨xb,0,N⟩)] w a:=by
 replace b:=J b;go_enter func96,ntmps96;go_wp2_with fail;apply(Z (J (qe w xb sb c))).mono;rintro e f⟨rfl,rfl⟩;go_wp2_with fail;apply(Z b).mono;rintro e g h;obtain⟨v,rfl⟩:=hs _ _ h;replace h:=J h;go_wp2_with fail;exact Z h
def OL(w:D)(xb sb:Nat)(c:κ w ⟨xb,0,N⟩=E (π (E ⟨sb,0,N⟩)))(d:υ)(a:Ending->D->Prop)(hs:∀e f,a e f->∃v,e=ξ v)(b:Calls prog 131 #[π (E ⟨sb,0,N⟩),d] w a):
 Calls prog 98 #[π (E ⟨xb,0,N⟩),d] w a:=by
 replace b:=J b;go_enter func98,ntmps98;go_wp2_with fail;apply(Z (J (qe w xb sb c))).mono;rintro e g⟨rfl,rfl⟩;go_wp2_with fail;apply(Z b).mono;rintro e i h;obtain⟨v,rfl⟩:=hs _ _ h;replace h:=J h;go_wp2_with fail;exact Z h
def OM(w:D)(xb sb:Nat)(c:κ w ⟨xb,0,N⟩=E (π (E ⟨sb,0,N⟩)))(k:Int)(aJ:Int)(g:Ending->D->Prop)(hs:∀e j,g e j->∃a n c b d f,e=ξ (τ #[Y a n c,b,d,f]))(i:Calls prog 132 #[π (E ⟨sb,0,N⟩),I X k,I X aJ] w g):
 Calls prog 99 #[π (E ⟨xb,0,N⟩),I X k,I X aJ] w g:=by
 replace i:=J i;go_enter func99,ntmps99;go_wp2_with fail;apply(Z (J (qe w xb sb c))).mono;rintro e l⟨rfl,rfl⟩;go_wp2_with fail;apply(Z i).mono;rintro e m h;obtain⟨a,n,c,b,d,f,rfl⟩:=hs _ _ h;replace h:=J h;go_wp2_with fail;first|exact Z h|exact cC (v:=τ #[Y a n c,b,d,f]) (by simp[results,results99,go_sem]) Q (Z h)
def ON(w:D)(xb sb:Nat)(c:κ w ⟨xb,0,N⟩=E (π (E ⟨sb,0,N⟩)))(code:Int)(a:Ending->D->Prop)(hs:∀e d,a e d->∃v,e=ξ v)(b:Calls prog 133 #[π (E ⟨sb,0,N⟩),I U code] w a):
 Calls prog 100 #[π (E ⟨xb,0,N⟩),I U code] w a:=by
 replace b:=J b;go_enter func100,ntmps100;go_wp2_with fail;apply(Z (J (qe w xb sb c))).mono;rintro e f⟨rfl,rfl⟩;go_wp2_with fail;apply(Z b).mono;rintro e g h;obtain⟨v,rfl⟩:=hs _ _ h;replace h:=J h;go_wp2_with fail;exact Z h
def OO(w:D)(xb sb:Nat)(c:κ w ⟨xb,0,N⟩=E (π (E ⟨sb,0,N⟩)))(a:Ending->D->Prop)(hs:∀e d,a e d->∃v,e=ξ v)(b:Calls prog 103 #[π (E ⟨sb,0,N⟩)] w a):
 Calls prog 62 #[π (E ⟨xb,0,N⟩)] w a:=by
 replace b:=J b;go_enter func62,ntmps62;go_wp2_with fail;apply(Z (J (qe w xb sb c))).mono;rintro e f⟨rfl,rfl⟩;go_wp2_with fail;apply(Z b).mono;rintro e g h;obtain⟨v,rfl⟩:=hs _ _ h;replace h:=J h;go_wp2_with fail;exact Z h
def Gh(f:Fr)(S:υ)(w:D)(h:cD w f S):
 Calls prog 107 #[ε (bC f S)] w λe w'=>gR (cT f) e/\G w w' N:=by
 obtain⟨⟨⟨k0,k1⟩,⟨s0,s1⟩,⟨o0,o1⟩,⟨c0,c1⟩,hr⟩,b8,ra,C,rfl,v⟩:=h;obtain⟨k,s,o,c,fin,d,rg⟩:=f;obtain⟨R,l⟩:∃R:Prop,R=((o<=4611686018427387903/\c<=4611686018427387903/\0<=s/\s<4)/\((k=3->gP rg)/\(k=5->(d.size:Int)<=4611686018427387903-o))/\1<=k/\k<=6):=⟨_,Q⟩
 have T:cT ⟨k,s,o,c,fin,d,rg⟩=R:=l.symm;rw[T];clear T;simp only[bC]at *;replace l:=J l;by_cases q1:4611686018427387903<o
 .go_enter func107,ntmps107;go_wp2;go_ret;exact⟨jM (λhp=>by rw[Z l]at hp;have:=hp.1.1;omega),aC _ _ _⟩
 by_cases q2:4611686018427387903<c
 .go_enter func107,ntmps107;go_wp2;go_ret;exact⟨jM (λhp=>by rw[Z l]at hp;have:=hp.1.2.1;omega),aC _ _ _⟩
 by_cases q3:s<0
 .go_enter func107,ntmps107;go_wp2;go_ret;exact⟨jM (λhp=>by rw[Z l]at hp;have:=hp.1.2.2.1;omega),aC _ _ _⟩
 by_cases q4:4<=s
 .go_enter func107,ntmps107;go_wp2;go_ret;exact⟨jM (λhp=>by rw[Z l]at hp;have:=hp.1.2.2.2;omega),aC _ _ _⟩
 have A:o<=4611686018427387903/\c<=4611686018427387903/\0<=s/\s<4:=O;replace A:=J A;by_cases k3:k=3
 .subst k3;obtain⟨n,m⟩:=í rg.length;rw[<-m]at v⊢;have cm:=v.2.2.1;have a2:=v.2.2.2.1;unfold maxLen at a2;have t:¬gP rg->¬R:=λa hp=>by rw[Z l]at hp;exact a (hp.2.1.1 Q)
  have K:gP rg->R:=λa=>by rw[Z l];exact⟨Z A,⟨λ_=>a,nofun⟩,Θ,Θ⟩
  replace⟨t,K,m⟩:=cA t K m;clear l;obtain⟨F,B⟩:=í (w.alloc (ο #[I X 3,I X s,I U o,I U c,β fin,ς d,Y ra n C] 158));have a3:G w F N:=by rw[B];exact aC _ _ _
  have V:Hid (∀W,G F W N->κ W ⟨w.heap.size,6,N⟩=E (Y ra n C)):=J (λW g=>g.cell (show κ F ⟨w.heap.size,6,N⟩=E (Y ra n C) by rw[B];simp) Γ);go_enter func107,ntmps107;go_wp2_with fail;rw[<-B];replace B:=J B;go_loopw [3] (λi wr=>∃j:Nat,j<=n/\i=I X j/\(∀i,i<j->mS rg i)/\G F wr N) (λi _=>n-(intOf i).toNat);case atStart=>exact⟨0,O,Q,λi hi=>by omega,au _ _⟩
  case round=>
   obtain⟨j,hj,rfl,x,u⟩:=hrel;have x1:=Z V wr u;have L:=aq a3 u;by_cases cv:j<n
   .have M:=v.ag L;obtain⟨-,-,-,-,h0|⟨b,p,rfl,-⟩⟩:=id M;omega;obtain⟨y1,y2⟩:=M.cell j (by have:=Z m;omega);have P:=oC v.1 j;obtain⟨⟨l1,l2⟩,l3,l4⟩:=P;obtain⟨lo,y⟩:=í ((an rg j).lo);obtain⟨hi,q⟩:=í ((an rg j).hi);rw[<-y]at y1 l1 l2;rw[<-q]at y2 l3 l4;replace⟨y,q,x⟩:=cA y q x;have x2:(wr.alloc (ο #[I U lo,I U hi] 200)).cell? ⟨w.heap.size,6,N⟩=E (Y (E ⟨b,p,N⟩) n C):=Z V _ (aW u _);have H:=J (aW L (ο #[I U lo,I U hi] 200));have i1:(0:Int)<=j:=O;have i2:(j:Int)<n:=O;by_cases r1:hi<lo
    .have e1:decide (hi<lo)=ρ:=by simp[r1]
     go_wp2_with fail;go_quiet (fail);go_wp2;go_ret;exact⟨jM (Z t (λa=>by have:=(a.2 j (by have:=Z m;omega)).1;rw[<-Z y,<-Z q]at this;omega)),cu (Z H) _⟩
    have e1:decide (hi<lo)=θ:=by simp[r1]
    by_cases r2:4611686018427387903<hi
    .have e2:decide (4611686018427387903<hi)=ρ:=by simp[r2]
     go_wp2_with fail;go_quiet (fail);go_wp2;go_ret;exact⟨jM (Z t (λa=>by have:=(a.2 j (by have:=Z m;omega)).2.1;rw[<-Z q]at this;omega)),cu (Z H) _⟩
    have e2:decide (4611686018427387903<hi)=θ:=by simp[r2]
    obtain _|i:=j
    .rw[nz,nA]at y1 y2;have e3:decide ((0:Int)<0)=θ:=Γ;go_wp2_with fail;go_quiet (fail);go_wp2;go_roundw;case rel=>exact⟨1,O,Γ,λi hi=>by
      obtain rfl:i=0:=O;exact⟨by rw[<-Z y,<-Z q];omega,by rw[<-Z q];omega,λh=>O⟩,cu (aW u _) _⟩
     case measure=>simp[intOf];omega
    obtain⟨y3,-⟩:=(M.ag (aC wr (ο #[I U lo,I U hi] 200) N)).cell i (by have:=Z m;omega);have P:=oC v.1 i;obtain⟨⟨l5,l6⟩,-⟩:=P;obtain⟨r,z⟩:=í ((an rg i).lo);rw[<-z]at y3 l5 l6;replace z:=J z;have c9:X.wrap (i:Int)=(i:Int):=by simp[IntKind.wrap,IntKind.bits,IntKind.signed];omega
    have e3:decide ((0:Int)<i+1)=ρ:=α;have i3:(0:Int)<=i:=O;have i4:(i:Int)<n:=O;by_cases r3:r<2
    .have e4:decide (r<2)=ρ:=by simp[r3]
     go_wp2_with fail;go_quiet (fail);go_wp2;go_ret;exact⟨jM (Z t (λa=>by have:=(a.2 (i+1) (by have:=Z m;omega)).2.2 O;rw[oZ,<-Z q,<-Z z]at this;omega)),cu (Z H) _⟩
    have e4:decide (r<2)=θ:=by simp[r3]
    have dc:U.wrap (r-2)=r-2:=by rw[cZ];omega
    by_cases r4:r-2<hi
    .have e5:decide (r-2<hi)=ρ:=by simp[r4]
     go_wp2_with fail;go_quiet (fail);go_wp2;go_ret;exact⟨jM (Z t (λa=>by have:=(a.2 (i+1) (by have:=Z m;omega)).2.2 O;rw[oZ,<-Z q,<-Z z]at this;omega)),cu (Z H) _⟩
    have e5:decide (r-2<hi)=θ:=by simp[r4]
    go_wp2_with fail;go_quiet (fail);go_wp2;go_roundw;case rel=>
     refine⟨i+1+1,O,Γ,BV (Z x) ⟨by rw[<-Z y,<-Z q];omega,by rw[<-Z q];omega,λ_=>?_⟩,cu (aW u _) _⟩
     rw[oZ,<-Z q,<-Z z];omega
    case measure=>simp[intOf];omega
   obtain rfl:j=n:=O;replace x:=J x;go_wp2;go_ret;refine⟨⟨_,Q,?_⟩,L⟩
   by_cases h0:0<j;have a:gP rg:=⟨by have:=Z m;omega,λi hi=>Z x i (by have:=Z m;omega)⟩
   simp[h0,Z K a];have a:¬gP rg:=λa=>by have:=a.1;have:=Z m;omega
   simp[h0,Z t a]
 by_cases k5:k=5
 .subst k5;have de:U.wrap (4611686018427387903-o)=4611686018427387903-o:=by rw[cZ];omega
  have dg:U.wrap (d.size:Int)=(d.size:Int):=by rw[cZ];omega
  go_enter func107,ntmps107;go_wp2;go_ret;refine⟨oy (by have bA:=Z A;rw[Z l];simp[bA]),aC _ _ _⟩
 by_cases u:1<=k
 .by_cases g2:k<=6
  .go_enter func107,ntmps107;go_wp2;go_ret;exact⟨xv (by rw[Z l];exact⟨Z A,⟨λh=>absurd h k3,λh=>absurd h k5⟩,u,g2⟩),aC _ _ _⟩
  go_enter func107,ntmps107;go_wp2;go_ret;exact⟨jM (λhp=>by rw[Z l]at hp;have:=hp.2.2.2;omega),aC _ _ _⟩
 go_enter func107,ntmps107;go_wp2;go_ret;exact⟨jM (λhp=>by rw[Z l]at hp;have:=hp.2.2.1;omega),aC _ _ _⟩
