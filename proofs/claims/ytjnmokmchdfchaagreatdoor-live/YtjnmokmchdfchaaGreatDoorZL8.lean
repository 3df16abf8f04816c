import Derived.Test.YtjnmokmchdfchaaGreatDoorZL5
import Derived.Test.YtjnmokmchdfchaaGreatDoorZL6
import Derived.Test.YtjnmokmchdfchaaGreatDoorZL7
set_option maxRecDepth 1000000
set_option maxHeartbeats 0
set_option linter.all false
namespace Go.Proofs.YtjnmokmchdfchaaGreatDoor
open Go.RowKit Tryz
open Go.Value renaming int→ι,slice→σ,bool→β,pointer→π,agg→ε,string→ς,tuple→τ
open Go.IntKind renaming i64→δ,u64→η,u8→Δ
open Go.Ending renaming returned→ξ
open Go.Obj renaming cells→ο
open Or renaming inl→φ,inr→ψ
open Option renaming some→μ,none→ν
open Bool renaming true→ρ,false→θ
open Go renaming World→ω,Value→υ
open Go.World renaming grownBy→γ,cell?→κ,frozen?→χ,setCell→ζ
attribute[local go_sem↓]Go.wp_at_zero Go.wp_at_succ
variable{C c:Array υ}{p q r:Int}{E:It}{L:List Int}{Y:List Rg}{b i j k l m n o:Nat}{S:Nat->Prop}{O:Option Addr}{G:Ot}{T:TypeId}{x y z:υ}{V W w:ω}
def iY(r:Int):Int:=if r<=64 then r-1 else if r=65 then 63 else r-2
def Jp(h:zC r p)(l:r<=1000):p=iY r:=by
 obtain⟨m,i,j,f,d⟩:=h;unfold iY;by_cases a:r-1<=0;rw[iP_];exact i a;have n:=j (by omega);by_cases b:r<=64;rw[aG b];apply Bu;intro g;have:=d (r-1) (by omega) (cE _);unfold bZ at this;rw[iP_]at this;omega;rw[aB b];by_cases c:r=65;subst c;rw[aG rfl];have k:p≠64:=λe=>by
  subst e;have:=f (by omega);unfold bZ at this;simp at this
 apply Bu;intro g;have:=d 63 (by omega) (by omega);unfold bZ at this;simp at this;rw[aB c];have k:p≠r-1:=λe=>by
  have:=f (by omega);unfold bZ at this;rw[iN_,iP_]at this;omega
 apply Bu;intro g;have:=d (r-2) (by omega) (by omega);unfold bZ at this;rw[iN_,iP_]at this;omega
def Ot.en(o:Ot):Int:=o.h.fr+o.h.bytes.length
def Ot.eE(o:Ot)(d:List Rg):Rg:=if d.length=0 then⟨o.en,o.en⟩else ao d 0
def Ot.dQ(o:Ot)(d:List Rg)(b:Bool)(a:Int):Pc×Bool:=
 if iY (a-(2+bZ (o.eE d).lo))<0 then(⟨⟨0,0⟩,θ,θ⟩,θ)
 else(⟨⟨(o.eE d).lo,min (o.eE d).hi ((o.eE d).lo+iY (a-(2+bZ (o.eE d).lo)))⟩,o.sE&&(min (o.eE d).hi ((o.eE d).lo+iY (a-(2+bZ (o.eE d).lo)))==o.en),θ⟩,decide ((o.eE d).lo<min (o.eE d).hi ((o.eE d).lo+iY (a-(2+bZ (o.eE d).lo))))||((o.sE&&(min (o.eE d).hi ((o.eE d).lo+iY (a-(2+bZ (o.eE d).lo)))==o.en))&&b))
def Jq(w:ω)(sb oo:Nat)(ab:Option Addr)(nb cb:Nat)(ac:Option Addr)(nc cc:Nat)(o:Ot)(H:gZ w sb oo ab nb cb ac nc cc o.h)(T:kn w sb oo o)(hG:o.sG=θ)(a:Option Addr)(n cap:Nat)(d:List Rg)(hs:bq w a n cap d)(t dG:Bool)(p:Int)(eL: -1000<=p/\p<=1000)(hd:∀r∈d,0<=r.lo/\r.lo<=r.hi/\r.hi<=4611686018427387903):
 Calls prog 242 #[π (μ ⟨sb,oo,ν⟩),ε #[σ a n cap,β t,β dG],ι δ p] w λr O=>r=ξ (τ #[ε (pA (o.dQ d t p).1),β (o.dQ d t p).2])/\γ w O ν:=by
 have bx:=J (λW(g:γ w W ν)=>zt W sb oo o (T.au g));rw[hG]at bx;have C:=J (λW(g:γ w W ν)=>B1 W sb oo ab nb cb ac nc cc o.h (H.au g));have et:=H.2.2.2.2.2;have cx:0<=(o.eE d).lo/\(o.eE d).lo<=(o.eE d).hi/\(o.eE d).hi<=4611686018427387903:=by
  unfold Ot.eE Ot.en;split;obtain⟨k0,k1,-⟩:=et;simp only;omega;exact hd _ (kh (by omega))
 obtain⟨c3,c4,c5,c6,c7,c8,-,-⟩:=T;obtain⟨en,a8⟩:=exq o.en;have cy:o.h.fr+(o.h.bytes.length:Int)=en:=a8.symm;rw[cy]at C;have a9:=J (λW=>IM (o.eE d).lo p W (by omega));obtain⟨X,hX⟩:=exq (o.eE d);obtain⟨res,bz⟩:=exq (o.dQ d t p);have P:Hid (res=if iY (p-(2+bZ X.lo))<0 then(⟨⟨0,0⟩,θ,θ⟩,θ)
  else(⟨⟨X.lo,min X.hi (X.lo+iY (p-(2+bZ X.lo)))⟩,o.sE&&(min X.hi (X.lo+iY (p-(2+bZ X.lo)))==en),θ⟩,decide (X.lo<min X.hi (X.lo+iY (p-(2+bZ X.lo))))||((o.sE&&(min X.hi (X.lo+iY (p-(2+bZ X.lo)))==en))&&t))):=J (by rw[bz,hX,a8];rfl)
 rw[<-hX]at a9 cx;rw[<-bz];have cC:Hid (X=if n=0 then⟨en,en⟩else ao d 0):=J (by rw[hX,a8,hs.2.1];rfl);obtain⟨c,Q⟩:=X;simp only at a9 cx P;clear bz hX a8 cy;obtain⟨R,S⟩:=exq (w.alloc (ο #[σ a n cap,β t,β dG] 332));have g1:γ w R ν:=by rw[S];exact aJ _ _ _
 have bM:R.heap[w.heap.size]?=μ (ο #[σ a n cap,β t,β dG] 332 (0,0)):=by rw[S];exact aO _ _
 have b0:R.heap.size=w.heap.size+1:=by rw[S];simp
 obtain⟨W2,bb⟩:=exq (R.alloc (ο #[ι η 0,ι η 0,β θ,β θ] 377));have g2:γ R W2 ν:=by rw[bb];exact aJ _ _ _
 have c9:W2.heap[w.heap.size+1]?=μ (ο #[ι η 0,ι η 0,β θ,β θ] 377 (0,0)):=by rw[bb,<-b0];exact aO _ _
 have db:=bE bM g2;have de:=aq g1 g2;replace⟨bM,b0⟩:=bD bM b0;have eS:sb<w.heap.size:=eZ w _ c3;go_enter func242,ntmps242;go_upto_region 1 with fail;rw[<-S,<-bb];clear S bb;go_wp2_with fail;apply(Z bx _ de).mono;rintro e l⟨rfl,g3⟩;have M:=aq de g3;have b3:=J (bE c9 g3);have dg:=J (bE db g3);clear c9 db;have U:γ l l.drew ν:=aY (aD _ _);go_upto_region 3 with fail;go_cut [8] (λv wx=>∃B:Nat,v=π (μ ⟨B,0,ν⟩)/\l.heap.size<=B/\wx.heap[B]?=μ (ο #[ι η en,ι η en] 341 (0,0))/\γ l wx ν);case first=>
  go_region_held3 (λO=>γ l O ν)
   (with_reducible first|exact u|exact q|exact U|exact aY (bk (aD _ _) _)|exact bk U _|exact bk q _|exact bk u _|exact aM (aM u _ _ (φ (aP _))) _ _ (φ (aP _))|exact aM (aM u _ _ (φ q.size)) _ _ (φ q.size))
   (first
     |(go_at_call 196;apply(Z C l.drew (aq M U)).mono;rintro e s⟨rfl,x⟩;have q:γ l s ν:=aq U x)
     |(go_at_call 196;apply(Z C (l.alloc (ο #[ι η 0,ι η 0] 341)).drew (aq M (aY (aJ _ _ _)))).mono;rintro e s⟨rfl,x⟩;have q:γ l s ν:=aq (aY (aJ _ _ _)) x;have eu:=J (zy x))
     |(go_at_call 196;apply(Z C (s.alloc (ο #[ι η 0,ι η 0] 341)) (aq M (bk q _))).mono;rintro e y⟨rfl,E⟩;have u:γ l y ν:=aq (bk q _) E;have A:=bE (aO s _) E;obtain⟨⟨k0,k1⟩,z0,z1⟩:=qa A;replace A:=J A)
     |(go_at_call 196;apply(Z C s (aq M q)).mono;rintro e y⟨rfl,E⟩;have u:γ l y ν:=aq q E;have A:=bE (Z eu) E;obtain⟨⟨k0,k1⟩,z0,z1⟩:=qa A;replace A:=J A)
     |(go_at_call 196;apply(Z C s (aq M q)).mono;rintro e y⟨rfl,E⟩;have u:γ l y ν:=aq q E))
  ·go_wp2_with fail;go_meet;exact⟨_,rfl,u.size,aO _ _,bk u _⟩
  ·go_wp2_with fail;go_meet;exact⟨_,rfl,q.size,heap_set (heap_set (Z A) _) _,aM (aM u ⟨s.heap.size,0,ν⟩ _ (φ q.size)) ⟨s.heap.size,1,ν⟩ _ (φ q.size)⟩
  go_wp2_with fail;go_meet;exact⟨_,rfl,aP _,heap_set (heap_set (Z A) _) _,aM (aM u ⟨l.heap.size,0,ν⟩ _ (φ (aP _))) ⟨l.heap.size,1,ν⟩ _ (φ (aP _))⟩
 case rest=>
  rename ω=>w4
  obtain⟨B,rfl,hB,V,F⟩:=hcut;have dk:=aq M F;have bj:=bE (Z dg) F;have b4:=bE (Z b3) F;have ew:w.heap.size+1<l.heap.size:=(bg.1 (Z b3)).1;obtain⟨⟨t0,t1,t2⟩,-,-,-⟩:=rP bj;obtain⟨⟨u0,u1⟩,v0,v1⟩:=qa V;have al:=hs.au dk;have e3:=hs.2.2.1;have ey:=hs.2.2.2.1;unfold maxLen at ey;have ds:B≠w.heap.size:=by omega
  have dE:B≠w.heap.size+1:=by omega
  have e5:B≠sb:=by omega
  replace⟨bj,b4,V⟩:=cz bj b4 V;clear U dg b3;go_upto_if 44 with fail;go_cut [] (λwx=>wx.heap[B]?=μ (ο #[ι η c,ι η Q] 341 (0,0))/\γ w4 wx (μ B));case first=>
   by_cases hz:n=0
   ·subst hz;have N:=Z cC;simp only[dC]at N;cases N;go_wp2;go_meet;exact⟨Z V,aD _ _⟩
   obtain⟨b,ob,rfl⟩:∃b o,a=μ ⟨b,o,ν⟩:=by
    obtain⟨-,h2,h3,-,h5|⟨b,o,rfl,-⟩⟩:=id hs;omega;exact⟨b,o,rfl⟩
   have N:=Z cC;rw[aB hz]at N;obtain⟨y0,y1⟩:=al.cell 0 (by have:=hs.2.1;omega);rw[<-N,oH,px]at y0 y1;simp only at y0 y1;clear N;have i0:(0:Int)<n:=by omega
   go_wp2;go_meet;exact⟨heap_set (heap_set (Z V) _) _,aM (aM (aD w4 (μ B)) ⟨B,0,ν⟩ _ (ψ rfl)) ⟨B,1,ν⟩ _ (ψ rfl)⟩
  case rest=>
   rename ω=>s
   obtain⟨ax,x⟩:=hcut;have b5:=(x.block w.heap.size (cu (by omega) F.size) (λe=>ds (aQ e).symm)).trans (Z bj);have aC:=(x.block (w.heap.size+1) (cu ew F.size) (λe=>dE (aQ e).symm)).trans (Z b4);obtain⟨⟨u0,u1⟩,v0,v1⟩:=qa ax;clear t0 t1 t2 al;have b6:γ w s ν:=qK (aq (dy dk (μ B)) x);obtain⟨m,hm⟩:=exq (iY (p-(2+bZ c)));have e6:=uQ c;have e7: -1100<=m/\m<=1000:=by
    rw[hm];unfold iY;split;omega;split<;>omega
   rw[<-hm]at P;have ez:Hid (∀j,zC (p-(2+bZ c)) j->j=m):=J (λj h=>by rw[hm];exact Jp h (by omega));clear hm;replace⟨ax,aC,b5⟩:=cz ax aC b5;go_upto_region 6 with fail;go_wp2_with fail;apply(Z a9 _).mono;rintro e y⟨j,rfl,ea,rfl⟩;obtain rfl:=Z ez j ea;clear ea;by_cases br:j<0
   ·have dn:decide (j<0)=ρ:=eT br;have G:Hid (res=(⟨⟨0,0⟩,θ,θ⟩,θ)):=J (by rw[Z P,aG br]);obtain⟨r0,r1,r2,r3⟩:=mG (Z aC);have a0:∀i,χ y ⟨w.heap.size+1,i,ν⟩=θ:=λi=>by simp[World.frozen?,Z aC]
    have z0:=a0 0;have z1:=a0 1;have z2:=a0 2;have z3:=a0 3;clear a0;go_wp2_with fail;refine df (v:=τ #[ε #[ι η 0,ι η 0,β θ,β θ],β θ]) ?_ rfl ⟨by rw[Z G];rfl,aM (aM (aM (aM b6 ⟨w.heap.size+1,0,ν⟩ _ (φ (cf _))) ⟨w.heap.size+1,1,ν⟩ _ (φ (cf _))) ⟨w.heap.size+1,2,ν⟩ _ (φ (cf _))) ⟨w.heap.size+1,3,ν⟩ _ (φ (cf _))⟩;simp[results,results242,go_sem, *]
   have dn:decide (j<0)=θ:=fc br;obtain⟨h,hh⟩:=exq (min Q (c+j));have G:Hid (res=(⟨⟨c,h⟩,o.sE&&(h==en),θ⟩,decide (c<h)||((o.sE&&(h==en))&&t))):=J (by rw[Z P,aB br,hh]);have e8:IntKind.u64.wrap j=j:=by rw[fW];omega
   have e9:IntKind.u64.wrap (c+j)=c+j:=by rw[fW];omega
   have ee:Hid (h=if c+j<Q then c+j else Q):=J (by rw[hh];split<;>omega);clear hh P;go_upto_region 9 with fail;go_cut [] (λwx=>wx.heap[B]?=μ (ο #[ι η c,ι η h] 341 (0,0))/\γ y wx (μ B));case first=>
    by_cases ei:c+j<Q
    ·have a1:=Z ee;rw[aG ei]at a1;subst a1;go_wp2;go_meet;exact⟨heap_set (Z ax) _,aM (aD y (μ B)) ⟨B,1,ν⟩ _ (ψ rfl)⟩
    have a1:=Z ee;rw[aB ei]at a1;subst a1;go_wp2;go_meet;exact⟨heap_set (Z ax) _,aM (aD y (μ B)) ⟨B,1,ν⟩ _ (ψ rfl)⟩
   case rest=>
    rename ω=>f
    obtain⟨b7,g7⟩:=hcut;have fa:=b6.size;have b8:=(g7.block w.heap.size (by have:=F.size;have:=x.size;omega) (λe=>ds (aQ e).symm)).trans (Z b5);have ca:=(g7.block (w.heap.size+1) (by have:=F.size;have:=x.size;omega) (λe=>dE (aQ e).symm)).trans (Z aC);have ch:γ w f ν:=qK (aq (dy b6 (μ B)) g7);obtain⟨⟨u0,u1⟩,-,-⟩:=qa b7;have eC:=kc u0;have eD:=kc u1;have e4:=gC_ ch c4;have ej:=kc e4;have fb:B<f.heap.size:=eZ f _ u0;have ff:sb<f.heap.size:=eZ f _ e4;have bt:γ f f.drew ν:=aY (aD _ _);have cj:=J (λW(g:γ f W ν)=>Z C W (aq ch g));obtain⟨sE,ek⟩:=exq o.sE;rw[<-ek]at e4 ej G;clear ek;obtain⟨I,a2⟩:=exq ((sE&&(h==en)));rw[<-a2]at G;replace⟨a2,b7,ca,b8⟩:=fE a2 b7 ca b8;clear v0 v1;go_upto_region 10 with fail;go_cut [10] (λv wx=>∃Y:Nat,v=π (μ ⟨Y,0,ν⟩)/\f.heap.size<=Y/\wx.heap[Y]?=μ (ο #[ι η c,ι η h,β I,β θ] 377 (0,0))/\γ f wx ν);case first=>
     cases sE
     ·have cp:I=θ:=by rw[Z a2];rfl
      subst cp;go_big_region;all_goals
       go_wp2
       go_meet
       exact⟨_,rfl,aP _,aO f _,aY (bk (aD _ _) _)⟩
     have cp:I=(h==en):=by rw[Z a2];rfl
     subst cp;clear u0 u1 e4;go_region_held3 (λO=>γ f O ν)
      (with_reducible first|exact K|exact bt|exact aY (bk (aD _ _) _)|exact bk bt _|exact bk K _|exact aM (aM (aM (aM K ⟨f.heap.size,0,ν⟩ _ (φ (aP _))) ⟨f.heap.size,1,ν⟩ _ (φ (aP _))) ⟨f.heap.size,2,ν⟩ _ (φ (aP _))) ⟨f.heap.size,3,ν⟩ _ (φ (aP _)))
      (first
        |(go_at_call 196;apply(Z cj f.drew bt).mono;rintro e k⟨rfl,z⟩;have K:γ f k ν:=aq bt z)
        |(go_at_call 196;apply(Z cj (f.alloc (ο #[ι η 0,ι η 0,β θ,β θ] 377)).drew (aY (aJ _ _ _))).mono;rintro e k⟨rfl,z⟩;have K:γ f k ν:=aq (aY (aJ _ _ _)) z;have D:=zy z;obtain⟨k0,k1,k2,k3⟩:=mG D;have z0:χ k ⟨f.heap.size,0,ν⟩=θ:=(by simp[World.frozen?,D]);have z1:χ k ⟨f.heap.size,1,ν⟩=θ:=(by simp[World.frozen?,D]);have z2:χ k ⟨f.heap.size,2,ν⟩=θ:=(by simp[World.frozen?,D]);have z3:χ k ⟨f.heap.size,3,ν⟩=θ:=(by simp[World.frozen?,D]);replace D:=J D))
     ·go_wp2_with fail;go_meet;exact⟨_,rfl,K.size,aO _ _,bk K _⟩
     go_wp2_with fail;go_meet;have al:=Cu (o:=0) (Z D) (ι η c) (ι η h) (β (h==en)) (β θ);exact⟨_,rfl,aP _,al.2,qK (aq (dy K _) al.1) (aP _)⟩
    case rest=>
     rename ω=>k
     obtain⟨Y,rfl,hY,cv,z⟩:=hcut;have eK:=aq ch z;have L:=bE (Z ca) z;have cw:=bE (Z b8) z;obtain⟨r0,r1,r2,r3⟩:=mG L;obtain⟨k0,k1,k2,k3⟩:=mG cv;obtain⟨⟨t0,t1,t2⟩,-,-,-⟩:=rP cw;have x0:=gC_ z u0;have x1:=gC_ z u1;have z0:χ k ⟨w.heap.size+1,0,ν⟩=θ:=fZ_ L;have z1:χ k ⟨w.heap.size+1,1,ν⟩=θ:=fZ_ L;have z2:χ k ⟨w.heap.size+1,2,ν⟩=θ:=fZ_ L;have z3:χ k ⟨w.heap.size+1,3,ν⟩=θ:=fZ_ L;have fo:Y≠w.heap.size+1:=by omega
     have a3:∀W,γ k W ν->γ w ((((ζ W ⟨w.heap.size+1,0,ν⟩ (ι η c)).setCell ⟨w.heap.size+1,1,ν⟩ (ι η h)).setCell ⟨w.heap.size+1,2,ν⟩ (β I)).setCell ⟨w.heap.size+1,3,ν⟩ (β θ)) ν:=λW g=>aM (aM (aM (aM (aq eK g) ⟨w.heap.size+1,0,ν⟩ _ (φ (cf _))) ⟨w.heap.size+1,1,ν⟩ _ (φ (cf _))) ⟨w.heap.size+1,2,ν⟩ _ (φ (cf _))) ⟨w.heap.size+1,3,ν⟩ _ (φ (cf _))
     replace⟨a3,L,cw,cv⟩:=fE a3 L cw cv;clear u0 u1 eC eD e4 ej cj C bx a9;go_upto_region 11 with fail;by_cases eo:c<h
     ·have dx:decide (c<h)=ρ:=eT eo;have a4:Hid (res=(⟨⟨c,h⟩,I,θ⟩,ρ)):=J (by rw[Z G,dx];rfl);go_big_region;go_wp2_with fail;refine df (v:=τ #[ε #[ι η c,ι η h,β I,β θ],β ρ]) ?_ rfl ⟨by rw[Z a4];rfl,aY (Z a3 k (aD _ _))⟩;simp[results,results242,go_sem, *]
     have dx:decide (c<h)=θ:=fc eo;cases I
     ·have a4:Hid (res=(⟨⟨c,h⟩,θ,θ⟩,θ)):=J (by rw[Z G,dx];rfl);go_big_region;go_wp2_with fail;refine df (v:=τ #[ε #[ι η c,ι η h,β θ,β θ],β θ]) ?_ rfl ⟨by rw[Z a4];rfl,aY (Z a3 k (aD _ _))⟩;simp[results,results242,go_sem, *]
     have a4:Hid (res=(⟨⟨c,h⟩,ρ,θ⟩,t)):=J (by rw[Z G,dx];simp);go_big_region;go_wp2_with fail;refine df (v:=τ #[ε #[ι η c,ι η h,β ρ,β θ],β t]) ?_ rfl ⟨by rw[Z a4];rfl,aY (Z a3 k (aD _ _))⟩;simp[results,results242,go_sem, *]
structure gP(w:ω)(b:Nat)(cs:Array υ)(oo:Nat)(vb vc:υ)(o:Ot):Prop where
 c0:cs[oo]?=μ (ι η o.h.fr)
 c1:cs[oo+1]?=μ vb
 c2:cs[oo+2]?=μ vc
 c3:cs[oo+3]?=μ (ι η o.av)
 c4:cs[oo+4]?=μ (β o.sE)
 c5:cs[oo+5]?=μ (β o.sG)
 c6:cs[oo+6]?=μ (β o.tE)
 c7:cs[oo+7]?=μ (β o.tG)
 c8:cs[oo+8]?=μ (ι η o.code)
 own:bn w b vb o.h.bytes
 set:∃a n c,vc=σ a n c/\bq w a n c o.h.af
 qc:aW o.av/\aW o.code
def oM(w a:ω)(sb:Nat)(t:TypeId)(cs:Array υ)(oo e:Nat)(vb vc:υ)(o:Ot):Prop:=
 ∃c b d,sZ w a sb t cs c oo 9 vb b/\gP a e c oo b d o/\zA w a b vc d
def gP.tail(h:gP w k c i x y G)(a:w.heap[n]?=μ (ο c T (0,0))):kn w n i G:=
 ⟨(aZ a _).trans h.c3,(aZ a _).trans h.c4,(aZ a _).trans h.c5,(aZ a _).trans h.c6,(aZ a _).trans h.c7,(aZ a _).trans h.c8,h.qc⟩
def gP.nT(h:gP w k C i x y G):∃ab nb cb ac nc cc,x=σ ab nb cb/\y=σ ac nc cc:=by
 obtain⟨a,n,c,e,-⟩:=h.set;obtain⟨d,f,b,-⟩:=h.own.bs;exact⟨_,_,_,_,_,_,b,e⟩
def gP.hd{ac:Option Addr}(h:gP w i C j (σ O l m) (σ ac b n) G)(d:w.heap[k]?=μ (ο C T (0,0)))(f:G.h.nice):gZ w k j O l m ac b n G.h:=by
 refine⟨(aZ d _).trans h.c0,(aZ d _).trans h.c1,(aZ d _).trans h.c2,h.own.iy,?_,f⟩
 obtain⟨a,p,c,e,g⟩:=h.set;cases e;exact g
def gP.au(h:gP w k C i x y G)(g:γ w W ν):gP W k C i x y G:=
 ⟨h.c0,h.c1,h.c2,h.c3,h.c4,h.c5,h.c6,h.c7,h.c8,h.own.au g,by obtain⟨a,n,c,e,b⟩:=h.set;exact⟨a,n,c,e,b.au g⟩,h.qc⟩
def bH(h:i≠j:=by omega):(c.setIfInBounds i x)[j]?=c[j]? :=Array.getElem?_setIfInBounds_ne h
def xC{ac:Option Addr}(h:∃a n c,Value.slice ac k i=σ a n c/\bq w a n c Y):bq w ac k i Y:=by
 obtain⟨a,n,c,e,b⟩:=h;cases e;exact b
def xD(a:w.heap[n]?=μ (ο c T (0,0)))(H:gP w l c j x z G)(b:kO w n x z):
 Calls prog 151 #[π (μ ⟨n,j,ν⟩)] w λr d=>r=ξ (τ #[])/\oM w d n T c j l x z {G with sE:=ρ}:=by
 apply(Il w n j c T G a (H.tail a)).mono;rintro r d⟨rfl,g,f⟩;obtain⟨ab,nb,cb,ac,nc,cc,rfl,rfl⟩:=H.nT;refine⟨rfl,_,_,_,⟨f,by simp,λi hi=>bH,(ay.of g).mono (λk _ e=>φ (aQ e).symm),φ rfl⟩,⟨?_,?_,?_,?_,cJ (ia H.c4),?_,?_,?_,?_,H.own.gb g (ψ b.1),⟨ac,nc,cc,rfl,(xC H.set).gb g (λy e e2=>(b.2 y nc cc (by rw[e])).1 (aQ e2).symm)⟩,H.qc⟩,φ rfl⟩
 rw[bH];exact H.c0;rw[bH];exact H.c1;rw[bH];exact H.c2;rw[bH];exact H.c3;rw[bH];exact H.c5;rw[bH];exact H.c6;rw[bH];exact H.c7;rw[bH];exact H.c8
def Jr(a:w.heap[n]?=μ (ο c T (0,0)))(H:gP w l c j x z G)(d:kO w n x z)(code:Int)(f:aW code):
 Calls prog 154 #[π (μ ⟨n,j,ν⟩),ι η code] w λr b=>r=ξ (τ #[])/\oM w b n T c j l x z {G with sE:=θ,sG:=ρ,code:=code,h:={G.h with bytes:=[]}}:=by
 obtain⟨ab,nb,cb,ac,nc,cc,rfl,rfl⟩:=H.nT;apply(Im w n j c T ab nb cb G code a ((aZ a _).trans H.c1) (H.tail a)).mono;rintro r b⟨rfl,g,m⟩;have p:=ia H.c8;refine⟨rfl,_,σ ν 0 0,σ ac nc cc,⟨m,by simp,λi hi=>?_,(ay.of g).mono (λk _ e=>φ (aQ e).symm),ψ (λk e=>by cases e)⟩,⟨?_,cJ (by simp;omega),?_,?_,?_,?_,?_,?_,?_,bn.nil _ _,⟨ac,nc,cc,rfl,(xC H.set).gb g (λy e e2=>(d.2 y nc cc (by rw[e])).1 (aQ e2).symm)⟩,⟨H.qc.1,f⟩⟩,φ rfl⟩
 rw[bH,bH,bH,bH];rw[bH,bH,bH,bH];exact H.c0;rw[bH,bH,bH,bH];exact H.c2;rw[bH,bH,bH,bH];exact H.c3;rw[bH,bH,bH];exact cJ;rw[bH,bH];exact cJ (by simp;omega);rw[bH,bH,bH,bH];exact H.c6;rw[bH,bH,bH,bH];exact H.c7;rw[bH];exact cJ (by simp;omega)
def Ot.fT(o:Ot)(n:Nat)(ag:Int):Nat:=(min (min (n:Int) (ag-o.h.bytes.length)) (4096-(o.h.fr+o.h.bytes.length))).toNat
def Js(g:w.heap[n]?=μ (ο c T (0,0)))(H:gP w j c k x z G)(p:G.h.nice)(q:j<=w.heap.size)(a:kO w n x z)(b:Option Addr)(nx d:Nat)(l:List Int)(hl:bN w b nx d l)(ag:Int)(s:(G.h.bytes.length:Int)<=ag/\ag<=1000000)(t:G.h.fr+G.h.bytes.length<=4096):
 Calls prog 150 #[π (μ ⟨n,k,ν⟩),σ b nx d,ι δ ag] w λr m=>r=ξ (ι δ (G.fT l.length ag))/\oM w m n T c k j x z {G with h:={G.h with bytes:=G.h.bytes++l.take (G.fT l.length ag)}}:=by
 obtain⟨ab,nb,cb,ac,nc,cc,rfl,rfl⟩:=H.nT;refine(Iq w n k j c T ab nb cb ac nc cc G.h g (H.hd g p) H.own q (λy e e2=>a.1 (by rw[e,<-e2];rfl)) b nx d l hl ag s t (G.fT l.length ag) (by unfold Ot.fT;omega)).mono ?_;rintro r m⟨rfl,u,v,A,ho,C,B,D⟩;have E:=xC H.set;refine⟨rfl,_,σ u v A,σ ac nc cc,⟨B,by simp,λi hi=>bH,C,D⟩,⟨?_,cJ (ia H.c1),?_,?_,?_,?_,?_,?_,?_,ho,⟨ac,nc,cc,rfl,E.cM (λhl y f=>C.block _ (a.2 y nc cc (by rw[f])).2.2 (λF=>F.elim (a.2 y nc cc (by rw[f])).1 (a.2 y nc cc (by rw[f])).2.1))⟩,H.qc⟩,φ rfl⟩
 rw[bH];exact H.c0;rw[bH];exact H.c2;rw[bH];exact H.c3;rw[bH];exact H.c4;rw[bH];exact H.c5;rw[bH];exact H.c6;rw[bH];exact H.c7;rw[bH];exact H.c8
def ah{α:Type}(f:Nat->α)(k:Nat)(x:α):Nat->α:=λi=>if i=k then x else f i
def aR{α:Type}(f:Nat->α)(k:Nat)(x:α):ah f k x k=x:=by simp[ah]
def aX{α:Type}(f:Nat->α)(x:α)(h:i≠k:=by omega):ah f k x i=f i:=by simp[ah,h]
def m8{α:Type}(f:Nat->α)(k:Nat):ah f k (f k)=f:=by
 funext i;unfold ah;split;rename_i h;rw[h];rfl
def bn.aA(h:bn w n x L)(C:ay w W S)(c:∀k,x.ownBlock=μ k->¬S k):bn W n x L:=by
 obtain⟨h0,d,a⟩:=h;refine⟨h0,d,?_⟩
 obtain a|⟨g,cap,cur,e1,e2,b,e⟩:=a
 exact φ a;exact ψ ⟨g,cap,cur,e1,e2,(C.block g (bg.1 b).1 (c g (by rw[e1];rfl))).trans b,e⟩
def qd(h:∃a n c,x=σ a n c/\bq w a n c Y)(C:ay w W S)(hs:∀y n c,x=σ (μ y) n c->¬S y.block/\y.block<w.heap.size):∃a n c,x=σ a n c/\bq W a n c Y:=by
 obtain⟨a,n,c,e,b⟩:=h;refine⟨a,n,c,e,b.cM (λ_ y d=>?_)⟩
 have:=hs y n c (by rw[e,d]);exact C.block _ this.2 this.1
def gP.frame{cs':Array υ}(h:gP w j c l x z G)(C:ay w W S)(a:∀i,l<=i->i<l+9->cs'[i]?=c[i]?)(b:∀k,x.ownBlock=μ k->¬S k)(hs:∀y n d,z=σ (μ y) n d->¬S y.block/\y.block<w.heap.size):gP W j cs' l x z G:=
 ⟨(a _ (by omega) (by omega)).trans h.c0,(a _ (by omega) (by omega)).trans h.c1,(a _ (by omega) (by omega)).trans h.c2,(a _ (by omega) (by omega)).trans h.c3,(a _ (by omega) (by omega)).trans h.c4,(a _ (by omega) (by omega)).trans h.c5,(a _ (by omega) (by omega)).trans h.c6,(a _ (by omega) (by omega)).trans h.c7,(a _ (by omega) (by omega)).trans h.c8,h.own.aA C b,qd h.set C hs,h.qc⟩
def iB.frame{cs':Array υ}(h:iB w j c l x z E)(C:ay w W S)(a:∀i,l<=i->i<l+9->cs'[i]?=c[i]?)(b:∀k,x.ownBlock=μ k->¬S k)(hs:∀y n d,z=σ (μ y) n d->¬S y.block/\y.block<w.heap.size):iB W j cs' l x z E:=
 ⟨(a _ (by omega) (by omega)).trans h.c0,(a _ (by omega) (by omega)).trans h.c1,(a _ (by omega) (by omega)).trans h.c2,(a _ (by omega) (by omega)).trans h.c3,(a _ (by omega) (by omega)).trans h.c4,(a _ (by omega) (by omega)).trans h.c5,(a _ (by omega) (by omega)).trans h.c6,(a _ (by omega) (by omega)).trans h.c7,(a _ (by omega) (by omega)).trans h.c8,h.own.aA C b,qd h.set C hs⟩
def iL.frame{cs':Array υ}{lf ll:List Kt}(h:iL w n c j x y lf ll p q r)(C:ay w W S)(a:∀i,j<=i->i<j+5->cs'[i]?=c[i]?)(b:∀k,x.ownBlock=μ k->¬S k)(hl:∀k,y.ownBlock=μ k->¬S k):iL W n cs' j x y lf ll p q r:=
 ⟨(a _ (by omega) (by omega)).trans h.c0,(a _ (by omega) (by omega)).trans h.c1,(a _ (by omega) (by omega)).trans h.c2,(a _ (by omega) (by omega)).trans h.c3,(a _ (by omega) (by omega)).trans h.c4,h.of.aA C b,h.ol.aA C hl⟩
structure bf where
 own:Nat->υ
 set:Nat->υ
 lf:List Kt
 ll:List Kt
def cG(sb:Nat)(v:bf)(k:Nat):Prop:=k=sb\/∃i,i<10/\(v.own i).ownBlock=μ k
def eV(sb:Nat)(v:bf)(k:Nat):Prop:=cG sb v k\/(∃i y n c,i<9/\v.set i=σ (μ y) n c/\y.block=k)\/∃x∈v.lf++v.ll,∃y n c,x.2=σ (μ y) n c/\y.block=k
structure jC(w:ω)(sb:Nat)(v:bf):Prop where
 iM:sb<w.heap.size
 lt:∀i,i<10->∀k,(v.own i).ownBlock=μ k->k<w.heap.size
 ij:∀i,i<10->(v.own i).ownBlock≠μ sb
 sep:∀i j,i<10->j<10->i≠j->∀k,(v.own i).ownBlock=μ k->(v.own j).ownBlock≠μ k
 dV:∀i,i<9->∀y n c,v.set i=σ (μ y) n c->¬cG sb v y.block/\y.block<w.heap.size
 gF:nV w (cG sb v) (v.lf++v.ll)
structure dz(N:Nat)(w b:ω)(sb:Nat)(v a:bf):Prop where
 aA:ay w b (cG sb v)
 ft:∀k,cG sb a k->cG sb v k\/w.heap.size<=k
 ar:∀k,eV sb a k->eV sb v k\/N<=k
def qQ{v:bf}(G:jC w n v)(h:cG n v k):k<w.heap.size:=by
 obtain rfl|⟨i,hi,h⟩:=h
 exact G.iM;exact G.lt i hi k h
def oN{v:bf}(G:jC w j v)(h:eV j v k):k<w.heap.size:=by
 obtain h|⟨i,y,n,c,hi,e,rfl⟩|⟨x,d,y,n,c,e,rfl⟩:=h
 exact qQ G h;exact(G.dV i hi y n c e).2;obtain⟨a,g,l,b,-,f⟩:=G.gF x d;rw[e]at b;exact(f y (jy b).1.symm).2
def dz.mono{v a:bf}(h:dz n w W j v a)(b:i<=n):dz i w W j v a:=⟨h.aA,h.ft,λk c=>(h.ar k c).imp id (λe=>bK b e)⟩
def dz.rfl'(N:Nat)(w:ω)(sb:Nat)(v:bf):dz N w w sb v v:=⟨ay.rfl' _ _,λ_ h=>φ h,λ_ h=>φ h⟩
def dz.trans{u v x:bf}(h:dz n w W j u v)(k:dz n W V j v x):dz n w V j u x:=by
 refine⟨⟨k.aA.os.trans h.aA.os,k.aA.tape.trans h.aA.tape,k.aA.output.trans h.aA.output,bK h.aA.size k.aA.size,λi hi b=>?_⟩,λi hi=>?_,λi hi=>?_⟩
 rw[k.aA.block i (cu hi h.aA.size) (λc=>(h.ft i c).elim b (by omega))];exact h.aA.block i hi b;obtain a|a:=k.ft i hi
 exact h.ft i a;exact ψ (bK h.aA.size a);obtain a|a:=k.ar i hi
 exact h.ar i a;exact ψ a
def jC.au{v:bf}(G:jC w j v)(g:γ w W ν):jC W j v:=
 ⟨cu G.iM g.size,λi hi k e=>cu (G.lt i hi k e) g.size,G.ij,G.sep,λi hi y n c e=>⟨(G.dV i hi y n c e).1,cu (G.dV i hi y n c e).2 g.size⟩,G.gF.aA (ay.of g) (λk _ e=>by cases e)⟩
def dz.au{v:bf}(g:γ w W ν):dz n w W i v v:=⟨(ay.of g).mono (λk _ e=>by cases e),λ_ h=>φ h,λ_ h=>φ h⟩
def jC.other{v:bf}(G:jC w j v)(C:ay w W S)(g:∀k,k<w.heap.size->S k->¬eV j v k):jC W j v:=by
 refine⟨cu G.iM C.size,λi hi k e=>cu (G.lt i hi k e) C.size,G.ij,G.sep,λi hi y n c e=>⟨(G.dV i hi y n c e).1,cu (G.dV i hi y n c e).2 C.size⟩,λx f=>?_⟩
 obtain⟨a,n,c,e,hp,d⟩:=G.gF x f;refine⟨a,n,c,e,hp.cM (λ_ y b=>C.block _ (d y b).2 (λh=>g _ (d y b).2 h (ψ (ψ ⟨x,f,y,n,c,by rw[e,b],rfl⟩)))),λy b=>⟨(d y b).1,cu (d y b).2 C.size⟩⟩
def jC.pW{v:bf}(G:jC w l v)(i:Nat)(hi:i<8)(m r:υ)(C:ay w W (λk=>k=l\/(v.own i).ownBlock=μ k))(z:m.ownBlock=(v.own i).ownBlock\/∀k,m.ownBlock=μ k->w.heap.size<=k)(K:∀k,m.ownBlock=μ k->k<W.heap.size)(F:zA w W m (v.set i) r):
 jC W l {v with own:=ah v.own i m,set:=ah v.set i r}/\dz w.heap.size w W l v {v with own:=ah v.own i m,set:=ah v.set i r}:=by
 have A:∀k,cG l {v with own:=ah v.own i m,set:=ah v.set i r} k->cG l v k\/w.heap.size<=k:=λk h=>by
  obtain rfl|⟨j,d,h⟩:=h
  exact φ (φ rfl);simp only at h;by_cases e:j=i;subst e;rw[aR]at h;obtain b|b:=z
  exact φ (ψ ⟨j,d,by rw[<-b];exact h⟩);exact ψ (b k h);rw[aX _ _ e]at h;exact φ (ψ ⟨j,d,h⟩)
 have E:∀j,j<9->∀y n c,(ah v.set i r) j=σ (μ y) n c->(¬cG l {v with own:=ah v.own i m,set:=ah v.set i r} y.block/\y.block<W.heap.size)/\(v.set j=σ (μ y) n c\/w.heap.size<=y.block):=λj d y n c e=>by
  have H:v.set j=σ (μ y) n c->(¬cG l {v with own:=ah v.own i m,set:=ah v.set i r} y.block/\y.block<W.heap.size)/\(v.set j=σ (μ y) n c\/w.heap.size<=y.block):=λe=>by
   obtain⟨g,f⟩:=G.dV j d y n c e;exact⟨⟨λh=>(A _ h).elim g (by omega),cu f C.size⟩,φ e⟩
  by_cases I:j=i;subst I;rw[aR]at e;obtain rfl|F:=F
  exact H e;obtain⟨g,f,L⟩:=F y n c e;refine⟨⟨λh=>?_,f⟩,ψ g⟩
  obtain h|⟨q,s,h⟩:=h
  have:=G.iM;omega;simp only at h;by_cases eq:q=j;subst eq;rw[aR]at h;exact L h;rw[aX _ _ eq]at h;have:=G.lt q s _ h;omega;rw[aX _ _ I]at e;exact H e
 refine⟨⟨cu G.iM C.size,λj d k h=>?_,λj d h=>?_,λp q hp s B k g f=>?_,λj d y n c e=>(E j d y n c e).1,λx D=>?_⟩,⟨C.mono (λk _ h=>h.elim φ (λh=>ψ ⟨i,by omega,h⟩)),A,λk h=>?_⟩⟩
 simp only at h;by_cases e:j=i;subst e;rw[aR]at h;exact K k h;rw[aX _ _ e]at h;exact cu (G.lt j d k h) C.size;simp only at h;by_cases e:j=i;subst e;rw[aR]at h;obtain b|b:=z
 rw[b]at h;exact G.ij j d h;have:=b _ h;have:=G.iM;omega;rw[aX _ _ e]at h;exact G.ij j d h;simp only at g f;by_cases e1:p=i;have e2:q≠i:=by omega
 subst e1;rw[aR]at g;rw[aX _ _ e2]at f;obtain b|b:=z
 rw[b]at g;exact G.sep p q hp s B k g f;have:=b _ g;have:=G.lt q s k f;omega;rw[aX _ _ e1]at g;by_cases e2:q=i;subst e2;rw[aR]at f;obtain b|b:=z
 rw[b]at f;exact G.sep p q hp s B k g f;have:=b _ f;have:=G.lt p hp k g;omega;rw[aX _ _ e2]at f;exact G.sep p q hp s B k g f;obtain⟨a,n,c,e,hp,u⟩:=G.gF x D;exact⟨a,n,c,e,hp.cM (λ_ y t=>C.block _ (u y t).2 (λM=>(u y t).1 (M.elim φ (λh=>ψ ⟨i,by omega,h⟩)))),λy t=>⟨λh=>(A _ h).elim (u y t).1 (by have:=(u y t).2;omega),cu (u y t).2 C.size⟩⟩
 obtain h|⟨j,y,n,c,d,e,rfl⟩|⟨x,D,y,n,c,e,rfl⟩:=h
 exact(A k h).imp φ id;simp only at e;obtain e2|e2:=(E j d y n c e).2
 exact φ (ψ (φ ⟨j,y,n,c,d,e2,rfl⟩));exact ψ e2;exact φ (ψ (ψ ⟨x,D,y,n,c,e,rfl⟩))
def jC.Jt{v:bf}(U:i<=w.heap.size)(G:jC w l v)(m r:υ)(E F:List Kt)(C:ay w W (FT l (v.own 8) (v.own 9)))(I:m.ownBlock=(v.own 8).ownBlock\/∀k,m.ownBlock=μ k->w.heap.size<=k)(K:r.ownBlock=(v.own 9).ownBlock\/∀k,r.ownBlock=μ k->w.heap.size<=k)(M:∀k,m.ownBlock=μ k->r.ownBlock≠μ k)(V:∀k,m.ownBlock=μ k->k<W.heap.size)(X:∀k,r.ownBlock=μ k->k<W.heap.size)
 (N:∀x∈E++F,x∈v.lf++v.ll\/∃a n c,x.2=σ a n c/\kP W a n c x.1.ps/\∀y,a=μ y->(i<=y.block/\y.block<W.heap.size/\¬cG l v y.block/\m.ownBlock≠μ y.block/\r.ownBlock≠μ y.block)):
 jC W l ⟨ah (ah v.own 8 m) 9 r,v.set,E,F⟩/\dz i w W l v ⟨ah (ah v.own 8 m) 9 r,v.set,E,F⟩:=by
 have z:ah (ah v.own 8 m) 9 r 8=m:=by rw[aX _ _,aR]
 have A:ah (ah v.own 8 m) 9 r 9=r:=aR _ _ _;have s:∀j,j<8->ah (ah v.own 8 m) 9 r j=v.own j:=λj d=>by rw[aX _ _,aX _ _]
 have D:∀j,j<10->j<8\/j=8\/j=9:=λj d=>by omega
 have H:∀k,cG l ⟨ah (ah v.own 8 m) 9 r,v.set,E,F⟩ k->cG l v k\/w.heap.size<=k:=λk h=>by
  obtain rfl|⟨j,d,h⟩:=h
  exact φ (φ rfl);simp only at h;obtain e|rfl|rfl:=D j d
  rw[s j e]at h;exact φ (ψ ⟨j,d,h⟩);rw[z]at h;obtain f|f:=I
  exact φ (ψ ⟨8,d,by rw[<-f];exact h⟩);exact ψ (f k h);rw[A]at h;obtain f|f:=K
  exact φ (ψ ⟨9,d,by rw[<-f];exact h⟩);exact ψ (f k h)
 have O:∀k,FT l (v.own 8) (v.own 9) k->cG l v k:=λk h=>by
  obtain rfl|h|h:=h
  exact φ rfl;exact ψ ⟨8,by omega,h⟩;exact ψ ⟨9,by omega,h⟩
 have P:∀j,j<8->∀k,(v.own j).ownBlock=μ k->m.ownBlock≠μ k:=λj d k g b=>by
  obtain f|f:=I
  rw[f]at b;exact G.sep j 8 (by omega) (by omega) (by omega) k g b;have:=f _ b;have:=G.lt j (by omega) k g;omega
 have Q:∀j,j<8->∀k,(v.own j).ownBlock=μ k->r.ownBlock≠μ k:=λj d k g b=>by
  obtain f|f:=K
  rw[f]at b;exact G.sep j 9 (by omega) (by omega) (by omega) k g b;have:=f _ b;have:=G.lt j (by omega) k g;omega
 refine⟨⟨cu G.iM C.size,λj d k h=>?_,λj d h=>?_,λp q hp R L k g b=>?_,λj d y n c e=>?_,λx B=>?_⟩,⟨C.mono (λk _ h=>O k h),H,λk h=>?_⟩⟩
 simp only at h;obtain e|rfl|rfl:=D j d
 rw[s j e]at h;exact cu (G.lt j d k h) C.size;rw[z]at h;exact V k h;rw[A]at h;exact X k h;simp only at h;obtain e|rfl|rfl:=D j d
 rw[s j e]at h;exact G.ij j d h;rw[z]at h;obtain f|f:=I
 rw[f]at h;exact G.ij 8 d h;have:=f _ h;have:=G.iM;omega;rw[A]at h;obtain f|f:=K
 rw[f]at h;exact G.ij 9 d h;have:=f _ h;have:=G.iM;omega;simp only at g b;obtain e1|rfl|rfl:=D p hp<;>rcases D q R with e2|rfl|rfl
 rw[s p e1]at g;rw[s q e2]at b;exact G.sep p q hp R L k g b;rw[s p e1]at g;rw[z]at b;exact P p e1 k g b;rw[s p e1]at g;rw[A]at b;exact Q p e1 k g b;rw[z]at g;rw[s q e2]at b;exact P q e2 k b g;exact L rfl;rw[z]at g;rw[A]at b;exact M k g b;rw[A]at g;rw[s q e2]at b;exact Q q e2 k b g;rw[A]at g;rw[z]at b;exact M k b g;exact L rfl;obtain⟨g,b⟩:=G.dV j d y n c e;exact⟨λh=>(H _ h).elim g (by omega),cu b C.size⟩
 obtain B|⟨a,n,c,e,hp,t⟩:=N x B
 obtain⟨a,n,c,e,hp,t⟩:=G.gF x B;exact⟨a,n,c,e,hp.cM (λ_ y u=>C.block _ (t y u).2 (λY=>(t y u).1 (O _ Y))),λy u=>⟨λh=>(H _ h).elim (t y u).1 (by have:=(t y u).2;omega),cu (t y u).2 C.size⟩⟩
 refine⟨a,n,c,e,hp,λy u=>⟨λh=>?_,(t y u).2.1⟩⟩
 obtain⟨y1,y2,S,y3,y4⟩:=t y u;obtain h|⟨j,d,h⟩:=h
 exact S (φ h);simp only at h;obtain e|rfl|rfl:=D j d
 rw[s j e]at h;exact S (ψ ⟨j,d,h⟩);rw[z]at h;exact y3 h;rw[A]at h;exact y4 h;obtain h|⟨j,y,n,c,d,e,rfl⟩|⟨x,B,y,n,c,e,rfl⟩:=h
 exact(H k h).imp φ (λe=>bK U e);exact φ (ψ (φ ⟨j,y,n,c,d,e,rfl⟩));obtain B|⟨a,n',c',T,hp,t⟩:=N x B
 exact φ (ψ (ψ ⟨x,B,y,n,c,e,rfl⟩));rw[e]at T;exact ψ (t y (jy T).1.symm).1
def jC.Ju{v:bf}(G:jC w l v)(i:Nat)(hi:i<9)(d:υ)(C:ay w W (λk=>k=l))(F:d=v.set i\/∀y n c,d=σ (μ y) n c->w.heap.size<=y.block/\y.block<W.heap.size):
 jC W l {v with set:=ah v.set i d}/\dz w.heap.size w W l v {v with set:=ah v.set i d}:=by
 have r:∀j,j<9->∀y n c,(ah v.set i d) j=σ (μ y) n c->(¬cG l {v with set:=ah v.set i d} y.block/\y.block<W.heap.size)/\(v.set j=σ (μ y) n c\/w.heap.size<=y.block):=λj b y n c e=>by
  have s:v.set j=σ (μ y) n c->(¬cG l {v with set:=ah v.set i d} y.block/\y.block<W.heap.size)/\(v.set j=σ (μ y) n c\/w.heap.size<=y.block):=λe=>by
   obtain⟨m,p⟩:=G.dV j b y n c e;exact⟨⟨m,cu p C.size⟩,φ e⟩
  by_cases t:j=i;subst t;rw[aR]at e;obtain rfl|F:=F
  exact s e;obtain⟨m,p⟩:=F y n c e;exact⟨⟨λh=>by have:=qQ G h;omega,p⟩,ψ m⟩
  rw[aX _ _ t]at e;exact s e
 refine⟨⟨cu G.iM C.size,λj b k h=>cu (G.lt j b k h) C.size,G.ij,G.sep,λj b y n c e=>(r j b y n c e).1,λx q=>?_⟩,⟨C.mono (λk _ h=>φ h),λk h=>φ h,λk h=>?_⟩⟩
 obtain⟨a,n,c,e,hp,g⟩:=G.gF x q;exact⟨a,n,c,e,hp.cM (λ_ y f=>C.block _ (g y f).2 (λu=>(g y f).1 (φ u))),λy f=>⟨(g y f).1,cu (g y f).2 C.size⟩⟩
 obtain h|⟨j,y,n,c,b,e,rfl⟩|⟨x,q,y,n,c,e,rfl⟩:=h
 exact φ (φ h);simp only at e;obtain e2|e2:=(r j b y n c e).2
 exact φ (ψ (φ ⟨j,y,n,c,b,e2,rfl⟩));exact ψ e2;exact φ (ψ (ψ ⟨x,q,y,n,c,e,rfl⟩))
variable{d:bf}
structure Sd where
 aj:Int
 ag:Int
 key:List Int
 first:Bool
 out:Nat->Ot
 aF:Nat->It
 aw:List Pk
 lost:List Pk
 count:Int
 tick:Int
 wait:Int
 af:List Rg
 floor:Int
 bQ:Bool
structure bI(w:ω)(b sb:Nat)(cs:Array υ)(v:bf)(s:Sd):Prop where
 aV:w.heap[sb]?=μ (ο cs 241 (0,0))
 sz:cs.size=101
 c0:cs[0]?=μ (ι δ s.aj)
 c1:cs[1]?=μ (ι δ s.ag)
 key:∀i,i<16->cs[2+i]?=(bv s.key)[i]?
 iN:cs[18]?=μ (β s.first)
 out:∀k,k<4->gP w b cs (19+9*k) (v.own k) (v.set k) (s.out k)
 aF:∀k,k<4->iB w b cs (55+9*k) (v.own (4+k)) (v.set (4+k)) (s.aF k)
 fl:iL w b cs 91 (v.own 8) (v.own 9) v.lf v.ll s.count s.tick s.wait
 aw:s.aw=v.lf.map (·.1)
 lost:s.lost=v.ll.map (·.1)
 oO:cs[96]?=μ (v.set 8)
 oP:∃a n c,v.set 8=σ a n c/\bq w a n c s.af
 pJ:cs[97]?=μ (ι η s.floor)
 lJ:cs[98]?=μ (β s.bQ)
 mH:cs[99]?=μ (ι δ 0)
 qR:cs[100]?=μ (σ ν 0 0)
 bu:jC w sb v
 aI:b<=w.heap.size
def eF(N:Nat)(w:ω)(c sb:Nat)(v:bf)(d:Sd)(a:ω):Prop:=∃e b,bI a c sb e b d/\dz N w a sb v b
def bI.au{s:Sd}(H:bI w i j C d s)(g:γ w W ν):bI W i j C d s:=
 ⟨bE H.aV g,H.sz,H.c0,H.c1,H.key,H.iN,λk b=>(H.out k b).au g,λk b=>(H.aF k b).au g,H.fl.au g,H.aw,H.lost,H.oO,by obtain⟨a,n,c,e,h⟩:=H.oP;exact⟨a,n,c,e,h.au g⟩,H.pJ,H.lJ,H.mH,H.qR,H.bu.au g,bK H.aI g.size⟩
def bI.to{s:Sd}(H:bI w n k c d s)(g:γ w W ν){N:Nat}:eF N w n k d s W:=⟨c,d,H.au g,dz.au g⟩
def eF.mono{s:Sd}(H:eF n w j l d s W)(h:i<=n):eF i w j l d s W:=by
 obtain⟨cs,a,b,k⟩:=H;exact⟨cs,a,b,k.mono h⟩
def eF.pre{N:Nat}{a:bf}{s:Sd}(b:dz N w V i d a)(H:eF N V n i a s W):eF N w n i d s W:=by
 obtain⟨cs,c,h,k⟩:=H;exact⟨cs,c,h,b.trans k⟩
def bI.xE{s:Sd}(H:bI w i j C d s)(k:Nat)(a:k<4):kO w j (d.own k) (d.set k):=
 ⟨H.bu.ij k (by omega),λy n c e=>⟨λh=>(H.bu.dV k (by omega) y n c e).1 (φ h),λh=>(H.bu.dV k (by omega) y n c e).1 (ψ ⟨k,by omega,h⟩),(H.bu.dV k (by omega) y n c e).2⟩⟩
def bI.zK{s:Sd}(H:bI w i j C d s)(k:Nat)(a:k<4):kO w j (d.own (4+k)) (d.set (4+k)):=
 ⟨H.bu.ij _ (by omega),λy n c e=>⟨λh=>(H.bu.dV _ (by omega) y n c e).1 (φ h),λh=>(H.bu.dV _ (by omega) y n c e).1 (ψ ⟨4+k,by omega,h⟩),(H.bu.dV _ (by omega) y n c e).2⟩⟩
def bI.s9{s:Sd}(H:bI w n k c d s):qb k (d.own 8) (d.own 9):=
 ⟨H.bu.ij 8 (by omega),H.bu.ij 9 (by omega),H.bu.sep 8 9 (by omega) (by omega) (by omega)⟩
def bI.uR{s:Sd}(H:bI w l m c d s)(b:ay w W S)(f:∀k,S k->cG m d k)(j:Nat)(g:j<4)(p:∀i,19+9*j<=i->i<19+9*j+9->C[i]?=c[i]?)(q:∀k,(d.own j).ownBlock=μ k->¬S k):gP W l C (19+9*j) (d.own j) (d.set j) (s.out j):=
 (H.out j g).frame b p q (λy n a e=>⟨λh=>(H.bu.dV j (by omega) y n a e).1 (f _ h),(H.bu.dV j (by omega) y n a e).2⟩)
def bI.uS{s:Sd}(H:bI w l m c d s)(b:ay w W S)(f:∀k,S k->cG m d k)(j:Nat)(g:j<4)(p:∀i,55+9*j<=i->i<55+9*j+9->C[i]?=c[i]?)(q:∀k,(d.own (4+j)).ownBlock=μ k->¬S k):iB W l C (55+9*j) (d.own (4+j)) (d.set (4+j)) (s.aF j):=
 (H.aF j g).frame b p q (λy n a e=>⟨λh=>(H.bu.dV (4+j) (by omega) y n a e).1 (f _ h),(H.bu.dV (4+j) (by omega) y n a e).2⟩)
def bI.qS{s:Sd}(H:bI w n l c d s)(i j:Nat)(hi:i<10)(b:j<10)(e:j≠i):∀k,(d.own j).ownBlock=μ k->¬(k=l\/(d.own i).ownBlock=μ k):=λk h a=>by
 obtain rfl|a:=a
 exact H.bu.ij j b h;exact H.bu.sep j i b hi e k h a
def bI.xF{s:Sd}(H:bI w l m C d s)(k:Nat)(x:k<4)(o:Ot)(h:oM w W m 241 C (19+9*k) l (d.own k) (d.set k) o):eF w.heap.size w l m d {s with out:=ah s.out k o} W:=by
 obtain⟨t,f,g,T,p,F⟩:=h;obtain⟨u,v⟩:=H.bu.pW k (by omega) f g T.aA T.new (λj e=>(p.own.lt j e).2) F;have a:∀j,(j=m\/(d.own k).ownBlock=μ j)->cG m d j:=λj h=>h.elim φ (λh=>ψ ⟨k,by omega,h⟩)
 refine⟨t,{d with own:=ah d.own k f,set:=ah d.set k g},⟨T.aV,T.sz.trans H.sz,(T.out 0 (by omega)).trans H.c0,(T.out 1 (by omega)).trans H.c1,λi hi=>(T.out _ (by omega)).trans (H.key i hi),(T.out 18 (by omega)).trans H.iN,λj b=>?_,λj b=>?_,?_,H.aw,H.lost,?_,?_,(T.out 97 (by omega)).trans H.pJ,(T.out 98 (by omega)).trans H.lJ,(T.out 99 (by omega)).trans H.mH,(T.out 100 (by omega)).trans H.qR,u,bK H.aI T.aA.size⟩,v⟩
 by_cases e:j=k;subst e;simp only[aR];exact p;simp only[aX _ _ e]
 exact H.uR T.aA a j b (λi q r=>T.out i (by omega)) (H.qS k j (by omega) (by omega) e);simp only[aX _ _ (show 4+j≠k by omega)]
 exact H.uS T.aA a j b (λi q r=>T.out i (by omega)) (H.qS k (4+j) (by omega) (by omega) (by omega));simp only[aX _ _ (show 8≠k by omega),aX _ _ (show 9≠k by omega)]
 exact H.fl.frame T.aA (λi q r=>T.out i (by omega)) (H.qS k 8 (by omega) (by omega) (by omega)) (H.qS k 9 (by omega) (by omega) (by omega));simp only[aX _ _ (show 8≠k by omega)];exact(T.out 96 (by omega)).trans H.oO;simp only[aX _ _ (show 8≠k by omega)]
 exact qd H.oP T.aA (λy n c e=>⟨λh=>(H.bu.dV 8 (by omega) y n c e).1 (a _ h),(H.bu.dV 8 (by omega) y n c e).2⟩)
def bI.zL{s:Sd}(H:bI w l m C d s)(k:Nat)(x:k<4)(o:It)(h:nU w W m 241 C (55+9*k) l (d.own (4+k)) (d.set (4+k)) o):eF w.heap.size w l m d {s with aF:=ah s.aF k o} W:=by
 obtain⟨t,f,g,T,p,F⟩:=h;obtain⟨u,v⟩:=H.bu.pW (4+k) (by omega) f g T.aA T.new (λj e=>(p.own.lt j e).2) F;have a:∀j,(j=m\/(d.own (4+k)).ownBlock=μ j)->cG m d j:=λj h=>h.elim φ (λh=>ψ ⟨4+k,by omega,h⟩)
 refine⟨t,{d with own:=ah d.own (4+k) f,set:=ah d.set (4+k) g},⟨T.aV,T.sz.trans H.sz,(T.out 0 (by omega)).trans H.c0,(T.out 1 (by omega)).trans H.c1,λi hi=>(T.out _ (by omega)).trans (H.key i hi),(T.out 18 (by omega)).trans H.iN,λj b=>?_,λj b=>?_,?_,H.aw,H.lost,?_,?_,(T.out 97 (by omega)).trans H.pJ,(T.out 98 (by omega)).trans H.lJ,(T.out 99 (by omega)).trans H.mH,(T.out 100 (by omega)).trans H.qR,u,bK H.aI T.aA.size⟩,v⟩
 simp only[aX _ _ (show j≠4+k by omega)]
 exact H.uR T.aA a j b (λi q r=>T.out i (by omega)) (H.qS (4+k) j (by omega) (by omega) (by omega));by_cases e:j=k;subst e;simp only[aR];exact p;simp only[aX _ _ (show 4+j≠4+k by omega),aX _ _ e]
 exact H.uS T.aA a j b (λi q r=>T.out i (by omega)) (H.qS (4+k) (4+j) (by omega) (by omega) (by omega));simp only[aX _ _ (show 8≠4+k by omega),aX _ _ (show 9≠4+k by omega)]
 exact H.fl.frame T.aA (λi q r=>T.out i (by omega)) (H.qS (4+k) 8 (by omega) (by omega) (by omega)) (H.qS (4+k) 9 (by omega) (by omega) (by omega));simp only[aX _ _ (show 8≠4+k by omega)];exact(T.out 96 (by omega)).trans H.oO;simp only[aX _ _ (show 8≠4+k by omega)]
 exact qd H.oP T.aA (λy n c e=>⟨λh=>(H.bu.dV 8 (by omega) y n c e).1 (a _ h),(H.bu.dV 8 (by omega) y n c e).2⟩)
def bI.zM{s:Sd}(H:bI w m o C d s)(z:l<=w.heap.size)(b f:υ)(g p:List Kt)(count tick wait:Int)(T:rT w W o 241 C c 91 (d.own 8) (d.own 9) b f)(r:iL W m c 91 b f g p count tick wait)(A:∀k,b.ownBlock=μ k->f.ownBlock≠μ k)
 (B:∀x∈g++p,x∈d.lf++d.ll\/∃a n q,x.2=σ a n q/\kP W a n q x.1.ps/\∀y,a=μ y->(l<=y.block/\y.block<W.heap.size/\¬cG o d y.block/\b.ownBlock≠μ y.block/\f.ownBlock≠μ y.block)):
 bI W m o c ⟨ah (ah d.own 8 b) 9 f,d.set,g,p⟩ {s with aw:=g.map (·.1),lost:=p.map (·.1),count:=count,tick:=tick,wait:=wait}/\dz l w W o d ⟨ah (ah d.own 8 b) 9 f,d.set,g,p⟩:=by
 obtain⟨D,E⟩:=H.bu.Jt z b f g p T.aA T.Ja T.CA A (λk e=>(r.of.lt k e).2) (λk e=>(r.ol.lt k e).2) B;have t:∀j,FT o (d.own 8) (d.own 9) j->cG o d j:=λj h=>by
  obtain h|h|h:=h
  exact φ h;exact ψ ⟨8,by omega,h⟩;exact ψ ⟨9,by omega,h⟩
 have v:∀i,i<8->∀k,(d.own i).ownBlock=μ k->¬FT o (d.own 8) (d.own 9) k:=λi hi k e h=>by
  obtain rfl|h|h:=h
  exact H.bu.ij i (by omega) e;exact H.bu.sep i 8 (by omega) (by omega) (by omega) k e h;exact H.bu.sep i 9 (by omega) (by omega) (by omega) k e h
 refine⟨⟨T.aV,T.sz.trans H.sz,(T.out 0 (by omega)).trans H.c0,(T.out 1 (by omega)).trans H.c1,λi hi=>(T.out _ (by omega)).trans (H.key i hi),(T.out 18 (by omega)).trans H.iN,λj u=>?_,λj u=>?_,?_,rfl,rfl,(T.out 96 (by omega)).trans H.oO,?_,(T.out 97 (by omega)).trans H.pJ,(T.out 98 (by omega)).trans H.lJ,(T.out 99 (by omega)).trans H.mH,(T.out 100 (by omega)).trans H.qR,D,bK H.aI T.aA.size⟩,E⟩
 simp only[aX _ _ (show j≠8 by omega),aX _ _ (show j≠9 by omega)]
 exact H.uR T.aA t j u (λi F G=>T.out i (by omega)) (v j (by omega));simp only[aX _ _ (show 4+j≠8 by omega),aX _ _ (show 4+j≠9 by omega)]
 exact H.uS T.aA t j u (λi F G=>T.out i (by omega)) (v (4+j) (by omega));simp only[aX _ _ (show 8≠9 by omega),aR];exact r;exact qd H.oP T.aA (λy n q e=>⟨λh=>(H.bu.dV 8 (by omega) y n q e).1 (t _ h),(H.bu.dV 8 (by omega) y n q e).2⟩)
def bI.zN{s:Sd}(H:bI w j l C d s)(h:i<=w.heap.size)(b e:υ)(f g:List Kt)(count tick wait:Int)(T:rT w W l 241 C c 91 (d.own 8) (d.own 9) b e)(m:iL W j c 91 b e f g count tick wait)(p:∀k,b.ownBlock=μ k->e.ownBlock≠μ k)
 (q:∀x∈f++g,x∈d.lf++d.ll\/∃a n r,x.2=σ a n r/\kP W a n r x.1.ps/\∀y,a=μ y->(i<=y.block/\y.block<W.heap.size/\¬cG l d y.block/\b.ownBlock≠μ y.block/\e.ownBlock≠μ y.block)):
 eF i w j l d {s with aw:=f.map (·.1),lost:=g.map (·.1),count:=count,tick:=tick,wait:=wait} W:=⟨c,_,(H.zM h b e f g count tick wait T m p q).1,(H.zM h b e f g count tick wait T m p q).2⟩
def bI.CD{s:Sd}(H:bI w l m c d s)(vc:υ)(af:List Rg)(floor:Int)(bQ:Bool)(t:W.heap[m]?=μ (ο C 241 (0,0)))(u:C.size=c.size)(ho:∀i,i<96\/99<=i->C[i]?=c[i]?)(v:C[96]?=μ vc)(x:C[97]?=μ (ι η floor))(z:C[98]?=μ (β bQ))(b:ay w W (λk=>k=m))(hs:∃a n f,vc=σ a n f/\bq W a n f af)(F:vc=d.set 8\/∀y n f,vc=σ (μ y) n f->w.heap.size<=y.block/\y.block<W.heap.size):
 eF w.heap.size w l m d {s with af:=af,floor:=floor,bQ:=bQ} W:=by
 obtain⟨A,B⟩:=H.bu.Ju 8 (by omega) vc b F;have p:∀j,j=m->cG m d j:=λj h=>φ h
 refine⟨C,{d with set:=ah d.set 8 vc},⟨t,u.trans H.sz,(ho 0 (by omega)).trans H.c0,(ho 1 (by omega)).trans H.c1,λi hi=>(ho _ (by omega)).trans (H.key i hi),(ho 18 (by omega)).trans H.iN,λj g=>?_,λj g=>?_,?_,H.aw,H.lost,?_,?_,x,z,(ho 99 (by omega)).trans H.mH,(ho 100 (by omega)).trans H.qR,A,bK H.aI b.size⟩,B⟩
 simp only[aX _ _ (show j≠8 by omega)]
 exact H.uR b p j g (λi q r=>ho i (by omega)) (λk e h=>H.bu.ij j (by omega) (h▸e));simp only[aX _ _ (show 4+j≠8 by omega)]
 exact H.uS b p j g (λi q r=>ho i (by omega)) (λk e h=>H.bu.ij (4+j) (by omega) (h▸e));exact H.fl.frame b (λi q r=>ho i (by omega)) (λk e h=>H.bu.ij 8 (by omega) (h▸e)) (λk e h=>H.bu.ij 9 (by omega) (h▸e));simp only[aR];exact v;simp only[aR];exact hs
def bI.other{s:Sd}(H:bI w j l c d s)(C:ay w W S)(b:∀k,k<w.heap.size->S k->¬eV l d k):bI W j l c d s:=by
 have f:∀i,i<10->∀k,(d.own i).ownBlock=μ k->¬S k:=λi hi k e h=>b k (H.bu.lt i hi k e) h (φ (ψ ⟨i,hi,e⟩))
 have hs:∀i,i<9->∀y n a,d.set i=σ (μ y) n a->¬S y.block/\y.block<w.heap.size:=λi hi y n a e=>⟨λh=>b _ (H.bu.dV i hi y n a e).2 h (ψ (φ ⟨i,y,n,a,hi,e,rfl⟩)),(H.bu.dV i hi y n a e).2⟩
 exact⟨(C.block l H.bu.iM (λh=>b l H.bu.iM h (φ (φ rfl)))).trans H.aV,H.sz,H.c0,H.c1,H.key,H.iN,λk g=>(H.out k g).frame C (λ_ _ _=>rfl) (f k (by omega)) (hs k (by omega)),λk g=>(H.aF k g).frame C (λ_ _ _=>rfl) (f _ (by omega)) (hs _ (by omega)),H.fl.frame C (λ_ _ _=>rfl) (f 8 (by omega)) (f 9 (by omega)),H.aw,H.lost,H.oO,qd H.oP C (hs 8 (by omega)),H.pJ,H.lJ,H.mH,H.qR,H.bu.other C b,bK H.aI C.size⟩
