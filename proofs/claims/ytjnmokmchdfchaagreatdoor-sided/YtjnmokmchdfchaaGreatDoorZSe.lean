import Derived.Test.YtjnmokmchdfchaaGreatDoorZSc
import Derived.Test.YtjnmokmchdfchaaGreatDoorZSd
set_option maxRecDepth 1000000
set_option maxHeartbeats 0
set_option linter.all false
namespace Go.Proofs.YtjnmokmchdfchaaGreatDoor
open Go.RowKit Tryz
open Go.Value renaming int→I,slice→Y,bool→β,pointer→π,agg→ε,string→ς,tuple→τ
open Go.IntKind renaming i64→X,u64→U,u8→Δ
open Go.Ending renaming returned→ξ
open Go.Obj renaming cells→ο
open Or renaming inl→φ,inr→ψ
open Option renaming some→E,none→N
open Bool renaming true→ρ,false→θ
open Go renaming World→D,Value→υ
open Go.World renaming grownBy→G,cell?→κ,frozen?→χ,setCell→ζ
attribute[local go_sem↓]Go.wp_at_zero Go.wp_at_succ
section
variable{C c:Array υ}{p r:Int}{L:List Int}{b i j k l m n:Nat}{P S:Nat->Prop}{a:Option Addr}{e:Option Nat}{H:Ot}{T:TypeId}{x y z:υ}{V W w:D}{F:aY}
def kN(r:Int):Int:=if r<=64 then r-1 else if r=65 then 63 else r-2
def J4(h:zK r p)(l:r<=1000):p=kN r:=by
 obtain⟨m,i,j,f,d⟩:=h;unfold kN;by_cases a:r-1<=0;rw[è];exact i a;have n:=j O;by_cases b:r<=64;rw[aH b];apply BE;intro g;have:=d (r-1) O (fv _);unfold cP at this;rw[è]at this;omega;rw[aE b];by_cases c:r=65;subst c;rw[aH rfl];have k:p≠64:=λe=>by
  subst e;have:=f O;unfold cP at this;simp at this
 apply BE;intro g;have:=d 63 O O;unfold cP at this;simp at this;rw[aE c];have k:p≠r-1:=λe=>by
  have:=f O;unfold cP at this;rw[ê,è]at this;omega
 apply BE;intro g;have:=d (r-2) O O;unfold cP at this;rw[ê,è]at this;omega
def Ot.en(o:Ot):Int:=o.h.fr+o.h.bytes.length
def Ot.gV(o:Ot)(d:List Rg):Rg:=if d.length=0 then⟨o.en,o.en⟩else an d 0
def Ot.ja(o:Ot)(d:List Rg)(b:Bool)(a:Int):Pc×Bool:=
 if kN (a-(2+cP (o.gV d).lo))<0 then(⟨⟨0,0⟩,θ,θ⟩,θ)
 else(⟨⟨(o.gV d).lo,min (o.gV d).hi ((o.gV d).lo+kN (a-(2+cP (o.gV d).lo)))⟩,o.sE&&(min (o.gV d).hi ((o.gV d).lo+kN (a-(2+cP (o.gV d).lo)))==o.en),θ⟩,decide ((o.gV d).lo<min (o.gV d).hi ((o.gV d).lo+kN (a-(2+cP (o.gV d).lo))))||((o.sE&&(min (o.gV d).hi ((o.gV d).lo+kN (a-(2+cP (o.gV d).lo)))==o.en))&&b))
def J5(w:D)(sb oo:Nat)(ab:Option Addr)(nb cb:Nat)(ac:Option Addr)(nc cc:Nat)(o:Ot)(H:iM w sb oo ab nb cb ac nc cc o.h)(T:kM w sb oo o)(hG:o.sG=θ)(a:Option Addr)(n br:Nat)(d:List Rg)(hs:bq w a n br d)(u dG:Bool)(q:Int)(eK: -1000<=q/\q<=1000)(hd:∀r∈d,0<=r.lo/\r.lo<=r.hi/\r.hi<=4611686018427387903):
 Calls prog 242 #[π (E ⟨sb,oo,N⟩),ε #[Y a n br,β u,β dG],I X q] w λr w'=>r=ξ (τ #[ε (pA (o.ja d u q).1),β (o.ja d u q).2])/\G w w' N:=by
 have b3:=J (λW(g:G w W N)=>zx W sb oo o (T.ag g));rw[hG]at b3;have F:=J (λW(g:G w W N)=>Cg W sb oo ab nb cb ac nc cc o.h (H.ag g));have ej:=H.2.2.2.2.2;have c9:0<=(o.gV d).lo/\(o.gV d).lo<=(o.gV d).hi/\(o.gV d).hi<=4611686018427387903:=by
  unfold Ot.gV Ot.en;split;obtain⟨k0,k1,-⟩:=ej;simp only;omega;exact hd _ (lL O)
 obtain⟨c3,c4,c5,c6,c7,c8,-,-⟩:=T;obtain⟨en,bt⟩:=í o.en;have da:o.h.fr+(o.h.bytes.length:Int)=en:=bt.symm;rw[da]at F;have bw:=J (λW=>JA (o.gV d).lo q W O);obtain⟨j,hX⟩:=í (o.gV d);obtain⟨res,b4⟩:=í (o.ja d u q);have al:Hid (res=if kN (q-(2+cP j.lo))<0 then(⟨⟨0,0⟩,θ,θ⟩,θ)
  else(⟨⟨j.lo,min j.hi (j.lo+kN (q-(2+cP j.lo)))⟩,o.sE&&(min j.hi (j.lo+kN (q-(2+cP j.lo)))==en),θ⟩,decide (j.lo<min j.hi (j.lo+kN (q-(2+cP j.lo))))||((o.sE&&(min j.hi (j.lo+kN (q-(2+cP j.lo)))==en))&&u))):=J (by rw[b4,hX,bt];rfl)
 rw[<-hX]at bw c9;rw[<-b4];have db:Hid (j=if n=0 then⟨en,en⟩else an d 0):=J (by rw[hX,bt,hs.2.1];rfl);obtain⟨c,xh⟩:=j;simp only at bw c9 al;clear b4 hX bt da;obtain⟨W1,ao⟩:=í (w.alloc (ο #[Y a n br,β u,β dG] 332));have g1:G w W1 N:=by rw[ao];exact aC _ _ _
 have b5:W1.heap[w.heap.size]?=E (ο #[Y a n br,β u,β dG] 332 (0,0)):=by rw[ao];exact aM _ _
 have b6:W1.heap.size=w.heap.size+1:=by rw[ao];simp
 obtain⟨W2,bx⟩:=í (W1.alloc (ο #[I U 0,I U 0,β θ,β θ] 377));have g2:G W1 W2 N:=by rw[bx];exact aC _ _ _
 have dc:W2.heap[w.heap.size+1]?=E (ο #[I U 0,I U 0,β θ,β θ] 377 (0,0)):=by rw[bx,<-b6];exact aM _ _
 have de:=bp b5 g2;have dg:=aq g1 g2;replace⟨b5,b6⟩:=aT b5 b6;have eL:sb<w.heap.size:=eI w _ c3;go_enter func242,ntmps242;go_upto_region 1 with fail;rw[<-ao,<-bx];clear ao bx;go_wp2_with fail;apply(Z b3 _ dg).mono;rintro e p⟨rfl,g3⟩;have ai:=aq dg g3;have b7:=J (bp dc g3);have dk:=J (bp de g3);clear dc de;have gr:G p p.drew N:=aK (au _ _);go_upto_region 3 with fail;go_cut [8] (λv wx=>∃B:Nat,v=π (E ⟨B,0,N⟩)/\p.heap.size<=B/\wx.heap[B]?=E (ο #[I U en,I U en] 341 (0,0))/\G p wx N);case first=>
  go_region_held3 (λw'=>G p w' N)
   (with_reducible first|exact x|exact s|exact gr|exact aK (aW (au _ _) _)|exact aW gr _|exact aW s _|exact aW x _|exact aD (aD x _ _ (φ (aP _))) _ _ (φ (aP _))|exact aD (aD x _ _ (φ s.size)) _ _ (φ s.size))
   (first
     |(go_at_call 196;apply(Z F p.drew (aq ai gr)).mono;rintro e t⟨rfl,y⟩;have s:G p t N:=aq gr y)
     |(go_at_call 196;apply(Z F (p.alloc (ο #[I U 0,I U 0] 341)).drew (aq ai (aK (aC _ _ _)))).mono;rintro e t⟨rfl,y⟩;have s:G p t N:=aq (aK (aC _ _ _)) y;have ek:=J (zG y))
     |(go_at_call 196;apply(Z F (t.alloc (ο #[I U 0,I U 0] 341)) (aq ai (aW s _))).mono;rintro e z⟨rfl,L⟩;have x:G p z N:=aq (aW s _) L;have C:=bp (aM t _) L;obtain⟨⟨k0,k1⟩,z0,z1⟩:=qA C;replace C:=J C)
     |(go_at_call 196;apply(Z F t (aq ai s)).mono;rintro e z⟨rfl,L⟩;have x:G p z N:=aq s L;have C:=bp (Z ek) L;obtain⟨⟨k0,k1⟩,z0,z1⟩:=qA C;replace C:=J C)
     |(go_at_call 196;apply(Z F t (aq ai s)).mono;rintro e z⟨rfl,L⟩;have x:G p z N:=aq s L))
  .go_wp2_with fail;go_meet;exact⟨_,Q,x.size,aM _ _,aW x _⟩
  .go_wp2_with fail;go_meet;exact⟨_,Q,s.size,heap_set (heap_set (Z C) _) _,aD (aD x ⟨t.heap.size,0,N⟩ _ (φ s.size)) ⟨t.heap.size,1,N⟩ _ (φ s.size)⟩
  go_wp2_with fail;go_meet;exact⟨_,Q,aP _,heap_set (heap_set (Z C) _) _,aD (aD x ⟨p.heap.size,0,N⟩ _ (φ (aP _))) ⟨p.heap.size,1,N⟩ _ (φ (aP _))⟩
 case rest=>
  rename D=>w4
  obtain⟨B,rfl,hB,ax,M⟩:=hcut;have dm:=aq ai M;have bz:=bp (Z dk) M;have b8:=bp (Z b7) M;have eo:w.heap.size+1<p.heap.size:=(aV.1 (Z b7)).1;obtain⟨⟨t0,t1,t2⟩,-,-,-⟩:=sh bz;obtain⟨⟨u0,u1⟩,v0,v1⟩:=qA ax;have a0:=hs.ag dm;have eS:=hs.2.2.1;have er:=hs.2.2.2.1;unfold maxLen at er;have du:B≠w.heap.size:=O;have dv:B≠w.heap.size+1:=O;have e3:B≠sb:=O;replace⟨bz,b8,ax⟩:=cA bz b8 ax;clear gr dk b7;go_upto_if 44 with fail;go_cut [] (λwx=>wx.heap[B]?=E (ο #[I U c,I U xh] 341 (0,0))/\G w4 wx (E B));case first=>
   by_cases hz:n=0
   .subst hz;have ak:=Z db;simp only[fw]at ak;cases ak;go_wp2;go_meet;exact⟨Z ax,au _ _⟩
   obtain⟨b,ob,rfl⟩:∃b o,a=E ⟨b,o,N⟩:=by
    obtain⟨-,h2,h3,-,h5|⟨b,o,rfl,-⟩⟩:=id hs;omega;exact⟨b,o,Q⟩
   have ak:=Z db;rw[aE hz]at ak;obtain⟨y0,y1⟩:=a0.cell 0 (by have:=hs.2.1;omega);rw[<-ak,nz,nA]at y0 y1;simp only at y0 y1;clear ak;have i0:(0:Int)<n:=O;go_wp2;go_meet;exact⟨heap_set (heap_set (Z ax) _) _,aD (aD (au w4 (E B)) ⟨B,0,N⟩ _ (ψ Q)) ⟨B,1,N⟩ _ (ψ Q)⟩
  case rest=>
   rename D=>t
   obtain⟨a1,y⟩:=hcut;have ca:=(y.block w.heap.size (bX O M.size) (λe=>du (aR e).symm)).trans (Z bz);have a2:=(y.block (w.heap.size+1) (bX eo M.size) (λe=>dv (aR e).symm)).trans (Z b8);obtain⟨⟨u0,u1⟩,v0,v1⟩:=qA a1;clear t0 t1 t2 a0;have cf:G w t N:=nB (aq (cK dm (E B)) y) O;obtain⟨m,hm⟩:=í (kN (q-(2+cP c)));have e5:=vy c;have e6: -1100<=m/\m<=1000:=by
    rw[hm];unfold kN;split;omega;split<;>omega
   rw[<-hm]at al;have et:Hid (∀k,zK (q-(2+cP c)) k->k=m):=J (λk h=>by rw[hm];exact J4 h O);clear hm;replace⟨a1,a2,ca⟩:=cA a1 a2 ca;go_upto_region 6 with fail;go_wp2_with fail;apply(Z bw _).mono;rintro e z⟨k,rfl,ea,rfl⟩;obtain rfl:=Z et k ea;clear ea;by_cases bA:k<0
   .have dn:decide (k<0)=ρ:=bU bA;have P:Hid (res=(⟨⟨0,0⟩,θ,θ⟩,θ)):=J (by rw[Z al,aH bA]);obtain⟨r0,r1,r2,r3⟩:=m8 (Z a2);have a3:∀i,χ z ⟨w.heap.size+1,i,N⟩=θ:=λi=>by simp[χ,Z a2]
    have z0:=a3 0;have z1:=a3 1;have z2:=a3 2;have z3:=a3 3;clear a3;go_wp2_with fail;refine cC (v:=τ #[ε #[I U 0,I U 0,β θ,β θ],β θ]) ?_ Q ⟨by rw[Z P];rfl,aD (aD (aD (aD cf ⟨w.heap.size+1,0,N⟩ _ (φ (dw _))) ⟨w.heap.size+1,1,N⟩ _ (φ (dw _))) ⟨w.heap.size+1,2,N⟩ _ (φ (dw _))) ⟨w.heap.size+1,3,N⟩ _ (φ (dw _))⟩;simp[results,results242,go_sem, *]
   have dn:decide (k<0)=θ:=bT bA;obtain⟨h,hh⟩:=í (min xh (c+k));have P:Hid (res=(⟨⟨c,h⟩,o.sE&&(h==en),θ⟩,decide (c<h)||((o.sE&&(h==en))&&u))):=J (by rw[Z al,aE bA,hh]);have e7:U.wrap k=k:=by rw[cZ];omega
   have e8:U.wrap (c+k)=c+k:=by rw[cZ];omega
   have eb:Hid (h=if c+k<xh then c+k else xh):=J (by rw[hh];split<;>omega);clear hh al;go_upto_region 9 with fail;go_cut [] (λwx=>wx.heap[B]?=E (ο #[I U c,I U h] 341 (0,0))/\G z wx (E B));case first=>
    by_cases ec:c+k<xh
    .have a4:=Z eb;rw[aH ec]at a4;subst a4;go_wp2;go_meet;exact⟨heap_set (Z a1) _,aD (au z (E B)) ⟨B,1,N⟩ _ (ψ Q)⟩
    have a4:=Z eb;rw[aE ec]at a4;subst a4;go_wp2;go_meet;exact⟨heap_set (Z a1) _,aD (au z (E B)) ⟨B,1,N⟩ _ (ψ Q)⟩
   case rest=>
    rename D=>f
    obtain⟨ch,g7⟩:=hcut;have e9:=cf.size;have cm:=(g7.block w.heap.size (by have:=M.size;have:=y.size;omega) (λe=>du (aR e).symm)).trans (Z ca);have cp:=(g7.block (w.heap.size+1) (by have:=M.size;have:=y.size;omega) (λe=>dv (aR e).symm)).trans (Z a2);have ct:G w f N:=nB (aq (cK cf (E B)) g7) O;obtain⟨⟨u0,u1⟩,-,-⟩:=qA ch;have ev:=kc u0;have ey:=kc u1;have e4:=ì ct c4;have ed:=kc e4;have fa:B<f.heap.size:=eI f _ u0;have fb:sb<f.heap.size:=eI f _ e4;have bM:G f f.drew N:=aK (au _ _);have cv:=J (λW(g:G f W N)=>Z F W (aq ct g));obtain⟨sE,ee⟩:=í o.sE;rw[<-ee]at e4 ed P;clear ee;obtain⟨R,a8⟩:=í ((sE&&(h==en)));rw[<-a8]at P;replace⟨a8,ch,cp,cm⟩:=fB a8 ch cp cm;clear v0 v1;go_upto_region 10 with fail;go_cut [10] (λv wx=>∃a9:Nat,v=π (E ⟨a9,0,N⟩)/\f.heap.size<=a9/\wx.heap[a9]?=E (ο #[I U c,I U h,β R,β θ] 377 (0,0))/\G f wx N);case first=>
     cases sE
     .have cw:R=θ:=by rw[Z a8];rfl
      subst cw;go_big_region;all_goals
       go_wp2
       go_meet
       exact⟨_,Q,aP _,aM f _,aK (aW (au _ _) _)⟩
     have cw:R=(h==en):=by rw[Z a8];rfl
     subst cw;clear u0 u1 e4;go_region_held3 (λw'=>G f w' N)
      (with_reducible first|exact S|exact bM|exact aK (aW (au _ _) _)|exact aW bM _|exact aW S _|exact aD (aD (aD (aD S ⟨f.heap.size,0,N⟩ _ (φ (aP _))) ⟨f.heap.size,1,N⟩ _ (φ (aP _))) ⟨f.heap.size,2,N⟩ _ (φ (aP _))) ⟨f.heap.size,3,N⟩ _ (φ (aP _)))
      (first
        |(go_at_call 196;apply(Z cv f.drew bM).mono;rintro e l⟨rfl,A⟩;have S:G f l N:=aq bM A)
        |(go_at_call 196;apply(Z cv (f.alloc (ο #[I U 0,I U 0,β θ,β θ] 377)).drew (aK (aC _ _ _))).mono;rintro e l⟨rfl,A⟩;have S:G f l N:=aq (aK (aC _ _ _)) A;have K:=zG A;obtain⟨k0,k1,k2,k3⟩:=m8 K;have z0:χ l ⟨f.heap.size,0,N⟩=θ:=(by simp[χ,K]);have z1:χ l ⟨f.heap.size,1,N⟩=θ:=(by simp[χ,K]);have z2:χ l ⟨f.heap.size,2,N⟩=θ:=(by simp[χ,K]);have z3:χ l ⟨f.heap.size,3,N⟩=θ:=(by simp[χ,K]);replace K:=J K))
     .go_wp2_with fail;go_meet;exact⟨_,Q,S.size,aM _ _,aW S _⟩
     go_wp2_with fail;go_meet;have a0:=CE (o:=0) (Z K) (I U c) (I U h) (β (h==en)) (β θ);exact⟨_,Q,aP _,a0.2,nB (aq (cK S _) a0.1) (aP _)⟩
    case rest=>
     rename D=>l
     obtain⟨a9,rfl,hY,cx,A⟩:=hcut;have ez:=aq ct A;have V:=bp (Z cp) A;have cy:=bp (Z cm) A;obtain⟨r0,r1,r2,r3⟩:=m8 V;obtain⟨k0,k1,k2,k3⟩:=m8 cx;obtain⟨⟨t0,t1,t2⟩,-,-,-⟩:=sh cy;have x0:=ì A u0;have x1:=ì A u1;have z0:χ l ⟨w.heap.size+1,0,N⟩=θ:=ç V;have z1:χ l ⟨w.heap.size+1,1,N⟩=θ:=ç V;have z2:χ l ⟨w.heap.size+1,2,N⟩=θ:=ç V;have z3:χ l ⟨w.heap.size+1,3,N⟩=θ:=ç V;have fc:a9≠w.heap.size+1:=O;have bb:∀W,G l W N->G w ((((ζ W ⟨w.heap.size+1,0,N⟩ (I U c)).setCell ⟨w.heap.size+1,1,N⟩ (I U h)).setCell ⟨w.heap.size+1,2,N⟩ (β R)).setCell ⟨w.heap.size+1,3,N⟩ (β θ)) N:=λW g=>aD (aD (aD (aD (aq ez g) ⟨w.heap.size+1,0,N⟩ _ (φ (dw _))) ⟨w.heap.size+1,1,N⟩ _ (φ (dw _))) ⟨w.heap.size+1,2,N⟩ _ (φ (dw _))) ⟨w.heap.size+1,3,N⟩ _ (φ (dw _))
     replace⟨bb,V,cy,cx⟩:=fB bb V cy cx;clear u0 u1 ev ey e4 ed cv F b3 bw;go_upto_region 11 with fail;by_cases ei:c<h
     .have dx:decide (c<h)=ρ:=bU ei;have bj:Hid (res=(⟨⟨c,h⟩,R,θ⟩,ρ)):=J (by rw[Z P,dx];rfl);go_big_region;go_wp2_with fail;refine cC (v:=τ #[ε #[I U c,I U h,β R,β θ],β ρ]) ?_ Q ⟨by rw[Z bj];rfl,aK (Z bb l (au _ _))⟩;simp[results,results242,go_sem, *]
     have dx:decide (c<h)=θ:=bT ei;cases R
     .have bj:Hid (res=(⟨⟨c,h⟩,θ,θ⟩,θ)):=J (by rw[Z P,dx];rfl);go_big_region;go_wp2_with fail;refine cC (v:=τ #[ε #[I U c,I U h,β θ,β θ],β θ]) ?_ Q ⟨by rw[Z bj];rfl,aK (Z bb l (au _ _))⟩;simp[results,results242,go_sem, *]
     have bj:Hid (res=(⟨⟨c,h⟩,ρ,θ⟩,u)):=J (by rw[Z P,dx];simp);go_big_region;go_wp2_with fail;refine cC (v:=τ #[ε #[I U c,I U h,β ρ,β θ],β u]) ?_ Q ⟨by rw[Z bj];rfl,aK (Z bb l (au _ _))⟩;simp[results,results242,go_sem, *]
def Kk(p:w.heap[l]?=E (ο C T (0,0)))(a:il w n C b z x H)(F:H.h.nice)(K:n<=w.heap.size)(v:kY w l z x)(d:Rg)(q s:Bool)(L:d.ok)(M:zE H.h d)(P:H.h.af.length<100000):
 Calls prog 252 #[π (E ⟨l,b,N⟩),ε #[I U d.lo,I U d.hi,β q,β s]] w λr t=>r=ξ (τ #[])/\
  ∃(f:List Rg)(k:Nat),(k:Int)=dL ⟨H.h.fr,H.h.bytes,f⟩/\bk f/\f.length<=H.h.af.length+1/\(∀m,Sm f m↔Sm H.h.af m\/(d.lo<=m/\m<d.hi))/\pt w t l T C b n z x {H with tE:=H.tE||q,tG:=H.tG||s,h:=⟨H.h.fr+k,H.h.bytes.drop k,f⟩}/\G w t (E l):=by
 obtain⟨ab,R,cb,ac,nc,A,rfl,rfl⟩:=a.oE;refine(Jh w l b C T ab R cb ac nc A H p (a.hd p F) (a.tail p) d q s L (λy e e2=>v.1 (by rw[e,<-e2];rfl)) (λy e=>(v.2 y nc A (by rw[e])).1) M P).mono ?_;rintro r t⟨rfl,S,V,W,f,b',d',k,hk,ao,ax,hm,g,hb,B,hr,u⟩;have z8:=jw a.c8;refine⟨Q,f,k,hk,ao,ax,hm,⟨_,Y b' (H.h.bytes.drop k).length d',Y S V W,⟨hb,Γ,λi hi=>?_,(aj.of g).mono (λk _ e=>φ (aR e).symm),ψ (λj e=>?_)⟩,⟨?_,?_,?_,?_,?_,?_,?_,?_,?_,B.low K,⟨_,_,_,Q,hr⟩,a.qC⟩,?_⟩,g⟩
 rw[bH,bH,bH,bH,bH];exact(B.lt j e).1;rw[bH,bH,bH];exact cU Ψ;rw[bH,bH];exact cU Ψ;rw[bH,bH,bH,bH];exact cU;rw[bH,bH,bH,bH,bH];exact a.c3;rw[bH,bH,bH,bH,bH];exact a.c4;rw[bH,bH,bH,bH,bH];exact a.c5;rw[bH];exact cU Ψ;exact cU Ψ;rw[bH,bH,bH,bH,bH];exact a.c8;obtain⟨rfl,rfl,rfl⟩|u:=u
 exact φ Q;refine ψ (λy a4 c e=>?_);exact u y ((lJ e).1)
def Kl(p:w.heap[n]?=E (ο c T (0,0)))(a:il w m c l z x H)(t:H.h.nice)(d:kY w n z x)(k:Int)(b:Rg)(q:Bool)(i j:Nat)(hi:i<=j)(u:j<=H.h.bytes.length)(v:b.lo=H.h.fr+i)(A:b.hi=H.h.fr+j)(K:aZ b.hi):
 Calls prog 243 #[π (E ⟨n,l,N⟩),I X k,ε #[I U b.lo,I U b.hi,β q,β θ]] w λe s=>e=ξ (ε #[I X 5,I X k,I U b.lo,I U 0,β q,ς (strOfNums ((H.h.bytes.drop i).take (j-i))),Y N 0 0])/\pt w s n T c l m z x {H with ay:=max H.ay b.hi}:=by
 obtain⟨ab,B,cb,ac,nc,f,rfl,rfl⟩:=a.oE;refine(Kj w n l c T ab B cb ac nc f H p (a.hd p t) (a.tail p) k b q i j hi u v A (λy e e2=>d.1 (by rw[e,<-e2];rfl)) (λy e=>(d.2 y nc f (by rw[e])).1)).mono ?_;rintro r s⟨rfl,g,C⟩;have F:aZ (max H.ay b.hi):=by
  obtain h|h:=Int.le_total H.ay b.hi
  grind;rw[Int.max_eq_left h];exact a.qC.1
 refine⟨Q,_,_,_,⟨C,Γ,λi hi=>bH,(aj.of g).mono (λk _ e=>φ (aR e).symm),φ Q⟩,⟨?_,?_,?_,cU (jw a.c3),?_,?_,?_,?_,?_,a.own.gb g (ψ d.1),⟨ac,nc,f,Q,(xM a.set).gb g (λy e e2=>(d.2 y nc f (by rw[e])).1 (aR e2).symm)⟩,⟨F,a.qC.2⟩⟩,φ Q⟩
 rw[bH];exact a.c0;rw[bH];exact a.c1;rw[bH];exact a.c2;rw[bH];exact a.c4;rw[bH];exact a.c5;rw[bH];exact a.c6;rw[bH];exact a.c7;rw[bH];exact a.c8
def Ot.next(o:Ot)(d:Du)(a:Int):Pc×Bool:=
 if o.sG then(⟨⟨0,0⟩,d.e,d.g⟩,d.g&&decide (2+cP o.code+cP o.ay<=a))else o.ja d.l d.e a
def Ot.dO(o:Ot)(k:Nat)(p:Pc):Fr:=
 if p.g then⟨4,k,o.ay,o.code,θ,⟨#[]⟩,[]⟩
 else⟨5,k,p.x.lo,0,p.e,strOfNums ((o.h.bytes.drop (p.x.lo-o.h.fr).toNat).take (p.x.hi-p.x.lo).toNat),[]⟩
def Ot.lu(o:Ot)(p:Pc):Ot:=if p.g then o else{o with ay:=max o.ay p.x.hi}
structure Ld where
 o:Ot
 d:Du
 fr:List Int
 ps:List Pc
def Ld.step(x:Ld)(k:Nat)(p:Pc):Ld:=⟨x.o.lu p,x.d.leave p,x.fr++bE [x.o.dO k p],x.ps++[p]⟩
def ka(k:Nat)(a:Int):Nat->Ld->Ld
 |0,x=>x
 |n+1,x=>if(x.o.next x.d (a-x.fr.length)).2 then ka k a n (x.step k (x.o.next x.d (a-x.fr.length)).1)else x
def ks(o:Ot)(d:Du):Prop:=bk d.l/\∀m,Sm d.l m->o.h.fr<=m/\m<o.en
def ks.mem{d:Du}(h:ks H d){r:Rg}(a:r∈d.l):H.h.fr<=r.lo/\r.lo<r.hi/\r.hi<=H.en:=by
 have b:=h.1.2 r a;have c:=h.2 _ ⟨r,a,fv _,b⟩;have e:=h.2 (r.hi-1) ⟨r,a,O,O⟩;omega
def ks.leave{d:Du}(h:ks H d)(p:Pc):ks H (d.leave p):=⟨vq _ h.1,λm a=>h.2 m ((zu _ m).1 a).1⟩
def Ls(h0:0<=p)(h:p<=kN r)(a:r<=1000):cP p+p<=r:=by
 unfold kN at h;unfold cP;grind
def vI{d:Du}(h:ks H d)(c:p<=1000)(a:(H.ja d.l d.e p).2=ρ)(f:0<=H.h.fr):
 H.h.fr<=(H.ja d.l d.e p).1.x.lo/\(H.ja d.l d.e p).1.x.lo<=(H.ja d.l d.e p).1.x.hi/\(H.ja d.l d.e p).1.x.hi<=H.en/\(H.ja d.l d.e p).1.g=θ/\
  2+cP (H.ja d.l d.e p).1.x.lo+cP ((H.ja d.l d.e p).1.x.hi-(H.ja d.l d.e p).1.x.lo)+((H.ja d.l d.e p).1.x.hi-(H.ja d.l d.e p).1.x.lo)<=p:=by
 have j:H.h.fr<=(H.gV d.l).lo/\(H.gV d.l).lo<=(H.gV d.l).hi/\(H.gV d.l).hi<=H.en:=by
  unfold Ot.gV;split;simp only;unfold Ot.en;omega;rename_i h0;have:=h.mem (lL (s:=d.l) (i:=0) O);omega
 unfold Ot.ja at a⊢;generalize H.gV d.l=x at *;have hs:0<cP x.lo:=by unfold cP;split<;>(try split)<;>(try split)<;>omega
 by_cases b:kN (p-(2+cP x.lo))<0;simp_all;rw[aE b]at a⊢;have:=Ls (r:=p-(2+cP x.lo)) (p:=min x.hi (x.lo+kN (p-(2+cP x.lo)))-x.lo) O O O;grind
def Lt(w:D)(sb c:Nat)(ab:Option Addr)(i cb:Nat)(ac:Option Addr)(nc j:Nat)(o:Ot)(H:iM w sb c ab i cb ac nc j o.h)(T:kM w sb c o)(a:Option Addr)(n f:Nat)(d:Du)(hs:bq w a n f d.l)(b:Int)(m: -1000<=b/\b<=1000)(hd:ks o d)(s:0<=o.h.fr/\o.en<=4611686018427387903):
 Calls prog 242 #[π (E ⟨sb,c,N⟩),ε #[Y a n f,β d.e,β d.g],I X b] w λr p=>r=ξ (τ #[ε (pA (o.next d b).1),β (o.next d b).2])/\G w p N:=by
 unfold Ot.next;cases k:o.sG;simp only[iV,iJ]
 exact J5 w sb c ab i cb ac nc j o H T k a n f d.l hs d.e d.g b m (λr q=>by have:=hd.mem q;omega);simp only[fw]
 exact JC w sb c o T k _ _ _ _
structure Wx(b:Nat)(w c:D)(sb:Nat)(v a:aY)(d:Nat->Prop):Prop where
 aA:aj w c (λk=>cM sb v k\/d k)
 ft:∀k,cM sb a k->cM sb v k\/w.heap.size<=k
 ar:∀k,bn sb a k->bn sb v k\/b<=k
def Wx.of{a:aY}(h:dz n w W k F a)(X:Nat->Prop):Wx n w W k F a X:=⟨h.aA.mono (λ_ _ h=>φ h),h.ft,h.ar⟩
def Wx.rfl'(a:Nat)(w:D)(sb:Nat)(v:aY)(b:Nat->Prop):Wx a w w sb v v b:=⟨aj.rfl' _ _,λ_ h=>φ h,λ_ h=>φ h⟩
def Wx.trans{v x:aY}(h:Wx n w W j F v S)(k:Wx n W V j v x S):Wx n w V j F x S:=by
 refine⟨⟨k.aA.os.trans h.aA.os,k.aA.tape.trans h.aA.tape,k.aA.output.trans h.aA.output,bG h.aA.size k.aA.size,λi hi b=>?_⟩,λi hi=>?_,λi hi=>?_⟩
 rw[k.aA.block i (bX hi h.aA.size) (λc=>c.elim (λc=>(h.ft i c).elim (λe=>b (φ e)) O) (λe=>b (ψ e)))];exact h.aA.block i hi b;obtain a|a:=k.ft i hi
 exact h.ft i a;exact ψ (bG h.aA.size a);obtain a|a:=k.ar i hi
 exact h.ar i a;grind
def Wx.own{v:aY}(h:Wx n w W j F v S)(g:G W V e)(b:∀k,k<w.heap.size->e=E k->S k):Wx n w V j F v S:=by
 refine⟨⟨g.os.trans h.aA.os,g.tape.trans h.aA.tape,g.output.trans h.aA.output,bG h.aA.size g.size,λi hi a=>?_⟩,h.ft,h.ar⟩
 rw[g.block i (bX hi h.aA.size) (λc=>a (ψ (b i hi c.symm)))];exact h.aA.block i hi a
def Wx.ew{v c:aY}(h:dz n W w l F v)(k:Wx n w V l v c S)(f:∀j,S j->W.heap.size<=j):dz n W V l F c:=by
 refine⟨⟨k.aA.os.trans h.aA.os,k.aA.tape.trans h.aA.tape,k.aA.output.trans h.aA.output,bG h.aA.size k.aA.size,λi hi d=>?_⟩,λi hi=>?_,λi hi=>?_⟩
 rw[k.aA.block i (bX hi h.aA.size) (λb=>b.elim (λb=>(h.ft i b).elim d O) (λe=>by have:=f i e;omega))];exact h.aA.block i hi d;obtain a|a:=k.ft i hi
 exact h.ft i a;exact ψ (bG h.aA.size a);obtain a|a:=k.ar i hi
 exact h.ar i a;grind
def gD.DK{d:Du}(h:gD W i j S d)(g:∀k,k<W.heap.size->P k->S k):gD W i j P d:=by
 let⟨a,n,c,l,e,f⟩:=h
 exact⟨a,n,c,l,e,λhl y b=>⟨(f hl y b).1,λm=>(f hl y b).2 (g _ (by subst b;exact e.lt hl) m)⟩⟩
def vJ(o:Ot)(p:Pc):Prop:=p.g=ρ\/(p.g=θ/\o.h.fr<=p.x.lo/\p.x.lo<=p.x.hi/\p.x.hi<=o.en)
def Ah{d:Du}(h:ks H d)(c:p<=1000)(a:(H.next d p).2=ρ)(e:0<=H.h.fr):vJ H (H.next d p).1:=by
 unfold Ot.next at a⊢;cases b:H.sG;rw[b]at a;obtain⟨f,g,i,j,-⟩:=vI h c a e;exact ψ ⟨j,f,g,i⟩;rw[b]at a;simp only[fw,uP]at a⊢;exact φ a.1
def Lu(l:List Int):(strOfNums l).size=l.length:=by
 have:=fR List.length (rX l);simp_all
def Ai{p:Pc}(k:Nat)(hp:vJ H p)(a:p.g=θ):((H.dO k p).data.size:Int)=p.x.hi-p.x.lo:=by
 unfold Ot.dO;rw[a];simp only[iV,iJ,Lu,dK,fD]
 obtain h|⟨-,c,d,b⟩:=hp
 simp_all;unfold Ot.en at b;omega
def DL{p:Pc}(k:Nat)(b:k<4)(hp:vJ H p)(c:0<=H.h.fr/\H.en<=4096)(hs:0<=H.ay/\H.ay<=4096)(d:0<=H.code/\H.code<=4611686018427387903):cT (H.dO k p):=by
 cases a:p.g;have f:=Ai k hp a;obtain h|⟨-,i,j,l⟩:=hp
 simp_all;unfold cT qx ru;have e:(H.dO k p).offset=p.x.lo/\(H.dO k p).code=0/\(H.dO k p).stream=k/\(H.dO k p).kind=5:=by unfold Ot.dO;rw[a];simp
 grind;have e:(H.dO k p).offset=H.ay/\(H.dO k p).code=H.code/\(H.dO k p).stream=k/\(H.dO k p).kind=4:=by unfold Ot.dO;rw[a];simp
 unfold cT qx ru;grind
def Lv(w:D){p:Pc}(k:Nat)(f:k<4)(hp:vJ H p)(i:0<=H.h.fr/\H.en<=4096)(hs:0<=H.ay/\H.ay<=4096)(j:0<=H.code/\H.code<=4611686018427387903):cD w (H.dO k p) (Y N 0 0)/\fh [H.dO k p]<=30000000:=by
 have a:(H.dO k p).ranges=[]:=by unfold Ot.dO;split<;>rfl
 have l:(H.dO k p).data.size<=4096:=by
  cases b:p.g;have l:=Ai k hp b;obtain h|⟨-,c,d,e⟩:=hp
  simp_all;omega;unfold Ot.dO;rw[b];simp only[fw];decide
 refine⟨⟨?_,O,_,0,by rw[a];rfl,by rw[a];exact⟨λr h=>(by cases h),Q,aP _,by simp[maxLen],φ Q⟩⟩,?_⟩
 obtain⟨⟨c,d,e,m⟩,-,n,q⟩:=DL k f hp i hs j;have s:0<=(H.dO k p).offset/\0<=(H.dO k p).code:=by
  unfold Ot.dO;cases b:p.g;obtain h|⟨-,c,d,e⟩:=hp
  simp_all;simp;omega;grind
 exact⟨by unfold ie;omega,by unfold ie;omega,by unfold aZ;omega,by unfold aZ;omega,λr h=>by rw[a]at h;cases h⟩
 simp only[fh,kX,a,eJ];omega
def Lx{d:Du}(k:Nat)(w:k<4)(h:ks H d)(i:p<=1000)(a:(H.next d p).2=ρ)(j:0<=H.h.fr):1<=(bE [H.dO k (H.next d p).1]).length/\((bE [H.dO k (H.next d p).1]).length:Int)<=p:=by
 have y:cP (k:Int)=1:=by unfold cP;rw[è]
 have el:∀f,bE [f]=cH f:=λf=>by simp[bE]
 rw[el];have c:=λn=>Jw n
 have s1:=c (k:Int);cases b:(H.next d p).1.g;have s:=Ai k (Ah h i a j) b;have m:H.sG=θ:=by
  unfold Ot.next at a b;grind
 have e:(H.next d p)=H.ja d.l d.e p:=by unfold Ot.next;rw[m];simp
 rw[e]at a;let⟨t,u,v,q,r⟩:=vI h i a j
 rw[<-e]at t u v q r;have ef:(H.dO k (H.next d p).1).kind=5/\(H.dO k (H.next d p).1).stream=k/\(H.dO k (H.next d p).1).offset=(H.next d p).1.x.lo:=by unfold Ot.dO;rw[b];simp
 unfold cH;rw[ê,ê,ê,ê,aH ef.1,ef.2.1,ef.2.2];have s2:=c (H.next d p).1.x.lo;have s3:=c ((H.dO k (H.next d p).1).data.size:Int);rw[s]at s3;have z:(bl (H.dO k (H.next d p).1).data).length=(H.dO k (H.next d p).1).data.size:=iE _;grind;have m:H.sG=ρ:=by
  unfold Ot.next at a b;cases h:H.sG;rw[h]at a b;simp only[iV,iJ]at a b;obtain⟨-,-,-,q,-⟩:=vI Ω i a j;grind;rfl
 have r:2+cP H.code+cP H.ay<=p:=by
  unfold Ot.next at a;grind
 have ef:(H.dO k (H.next d p).1).kind=4/\(H.dO k (H.next d p).1).stream=k/\(H.dO k (H.next d p).1).offset=H.ay/\(H.dO k (H.next d p).1).code=H.code:=by unfold Ot.dO;rw[b];simp
 unfold cH;rw[ê,ê,ê,aH ef.1,ef.2.1,ef.2.2.1,ef.2.2.2];have s2:=c H.code;have s3:=c H.ay;simp only[dY,bS]
 omega
def Ly(a:w.heap[n]?=E (ο c T (0,0)))(b:il w j c i y z H)(f:H.h.nice)(q:kY w n y z)(k:Nat)(p:Pc)(hp:vJ H p):
 Calls prog 243 #[π (E ⟨n,i,N⟩),I X k,ε (pA p)] w λe d=>e=ξ (ε (bC (H.dO k p) (Y N 0 0)))/\pt w d n T c i j y z (H.lu p):=by
 let⟨x,l,s⟩:=p
 cases s;obtain h|⟨-,t,u,m⟩:=hp
 cases h;simp only at t u m;unfold Ot.en at m;have v:=f;unfold Hd.nice at v;refine(Kl a b f q _ x l (x.lo-H.h.fr).toNat ((x.lo-H.h.fr).toNat+(x.hi-x.lo).toNat) O O O O (by unfold aZ;omega)).mono ?_;rintro r d⟨rfl,h⟩;refine⟨?_,h⟩
 unfold Ot.dO bC;grind;apply(Ki w n i H (b.tail a) (k:Int) x l).mono;rintro r d⟨rfl,g⟩;exact⟨Q,c,y,z,tI.tJ a g _ _ _,b.ag g,φ Q⟩
def xZ{α:Type}(f:Nat->α)(k:Nat)(x y:α):aB (aB f k x) k y=aB f k y:=by
 funext i;unfold aB;split<;>rfl
structure jh(w:World)(base sb D k:Nat)(v:aY)(s:Sd)(o:Ot)(fr:List Int)(ps:List Pc)(v6 v7:υ)(W:World)(cs':Array υ)(v':aY):Prop where
 side:bF W base sb cs' v' {s with out:=aB s.out k o}
 wx:Wx w.heap.size w W sb v v' (λj=>j=D)
 a6:∀j,v6.ownBlock=E j->¬bn sb v' j
 a7:∀j,v7.ownBlock=E j->¬bn sb v' j
 sep:∀j,v6.ownBlock=E j->v7.ownBlock≠E j
 fr:aS W w.heap.size v6 fr
 ps:je W w.heap.size v7 ps
def LX(Y:Nat->Prop)(D:Nat)(v6 v7:υ)(sb:Nat)(v':aY)(j:Nat):Prop:=j=D\/v6.ownBlock=E j\/v7.ownBlock=E j\/cM sb v' j\/Y j
def gD.step{W W':World}{D i:Nat}{g j S:Nat->Prop}{d:Du}(h:gD W D i g d)(C:aj W W' S)(p:¬S D)(q:∀k,k<W.heap.size->S k->g k)(r:∀k,j k->g k\/W.heap.size<=k):gD W' D i j d:=by
 let⟨a,n,c,l,f,m⟩:=h
 refine⟨a,n,c,(C.block D (aV.1 l).1 p).trans l,f.dR (λhl y b=>C.block _ (by subst b;exact f.lt hl) (λe=>(m hl y b).2 (q _ (by subst b;exact f.lt hl) e))),λhl y b=>⟨(m hl y b).1,λs=>?_⟩⟩
 have t:y.block<W.heap.size:=by subst b;exact f.lt hl
 grind
section
variable {w:World} {base sb D k:Nat} {v:aY} {s:Sd} {o:Ot} {fr:List Int} {ps:List Pc} {v6 v7:υ} {W W':World} {cs':Array υ} {v':aY} {Y:Nat->Prop}
def jh.lx(h:jh w base sb D k v s o fr ps v6 v7 W cs' v')(b:D<w.heap.size)(hY:∀j,Y j->j<w.heap.size):∀j,LX Y D v6 v7 sb v' j->j<W.heap.size:=λj a=>by
 have:=h.wx.aA.size;obtain rfl|e|e|e|e:=a
 omega;exact(h.fr.lt j e).2;exact(h.ps.lt j e).2;exact qE h.side.bB e;have:=hY j e;omega
def jh.Aj(h:jh w base sb D k v s o fr ps v6 v7 W cs' v')(b:D<w.heap.size)(a:¬bn sb v D):¬bn sb v' D:=λe=>(h.wx.ar D e).elim a O
def jh.gb(h:jh w base sb D k v s o fr ps v6 v7 W cs' v')(g:G W W' N):jh w base sb D k v s o fr ps v6 v7 W' cs' v':=
 ⟨h.side.ag g,h.wx.own g (λ_ _ e=>by cases e),h.a6,h.a7,h.sep,h.fr.ag g,h.ps.ag g⟩
def jh.left(h:jh w base sb D k v s o fr ps v6 v7 W cs' v')(a:D<w.heap.size)(b:¬bn sb v D)(g:G W W' (E D)):jh w base sb D k v s o fr ps v6 v7 W' cs' v':=
 ⟨h.side.other (aj.of g) (λj _ e=>by cases e;exact h.Aj a b),h.wx.own g (λj _ e=>(aR e).symm),h.a6,h.a7,h.sep,h.fr.gb g (ψ (λe=>by have:=(h.fr.lt D e).1;omega)),h.ps.aA (aj.of g) (λj e e2=>by have:=(h.ps.lt j e).1;have:D=j:=aR e2;omega)⟩
def jh.ay(h:jh w base sb D k v s o fr ps v6 v7 W cs' v')(g:Ot)(p:k<4)(q:pt W W' sb 241 cs' (19+9*k) base (v'.own k) (v'.set k) g){m:Nat}{d:Du}(r:D<w.heap.size)(t:¬bn sb v D)(hd:gD W D m (LX Y D v6 v7 sb v') d):∃i f,jh w base sb D k v s g fr ps v6 v7 W' i f/\gD W' D m (LX Y D v6 v7 sb f) d/\aj W W' (cM sb v'):=by
 let⟨i,f,n,a⟩:=h.side.xO k p g q
 simp only[xZ]at n;have u:=h.wx.aA.size;refine⟨i,f,⟨n,h.wx.trans (Wx.of (a.mono u) _),λj e l=>?_,λj e l=>?_,h.sep,h.fr.aA a.aA (λj e c=>h.a6 j e (φ c)),h.ps.aA a.aA (λj e c=>h.a7 j e (φ c))⟩,hd.step a.aA (λc=>h.Aj r t (φ c)) (λj _ c=>ψ (ψ (ψ (φ c)))) (λj x=>?_),a.aA⟩
 obtain b|b:=a.ar j l
 exact h.a6 j e b;have:=(h.fr.lt j e).2;omega;obtain b|b:=a.ar j l
 exact h.a7 j e b;have:=(h.ps.lt j e).2;omega;obtain e|e|e|e|e:=x
 exact φ (φ e);exact φ (ψ (φ e));exact φ (ψ (ψ (φ e)));obtain b|b:=a.ft j e
 exact φ (ψ (ψ (ψ (φ b))));grind;exact φ (ψ (ψ (ψ (ψ e))))
def jh.LA(h:jh w base sb D k v s o fr ps v6 v7 W cs' v'){c:List Int}{b:υ}(g:G W W' v6.ownBlock)(n:aS W' w.heap.size b c)(a:b.ownBlock=v6.ownBlock\/b.ownBlock=E W.heap.size)(p:D<w.heap.size){f:Nat}{d:Du}(hd:gD W D f (LX Y D v6 v7 sb v') d):jh w base sb D k v s o c ps b v7 W' cs' v'/\gD W' D f (LX Y D b v7 sb v') d:=by
 refine⟨⟨h.side.other (aj.of g) (λj _ e=>h.a6 j e),h.wx.own g (λj i e=>by have:=(h.fr.lt j e).1;omega),λj e l=>?_,h.a7,λj e m=>?_,n,h.ps.aA (aj.of g) (λj e e2=>h.sep j e2 e)⟩,hd.step (aj.of g) (λe=>by have:=(h.fr.lt D e).1;omega) (λj _ e=>ψ (φ e)) (λj i=>?_)⟩
 obtain a|a:=a
 rw[a]at e;exact h.a6 j e l;rw[a]at e;have:=aR e;have:=px h.side.bB l;omega;obtain a|a:=a
 rw[a]at e;exact h.sep j e m;rw[a]at e;have:=aR e;have:=(h.ps.lt j m).2;omega;obtain e|e|e|e|e:=i
 exact φ (φ e);obtain a|a:=a
 rw[a]at e;exact φ (ψ (φ e));grind;exact φ (ψ (ψ (φ e)));exact φ (ψ (ψ (ψ (φ e))));exact φ (ψ (ψ (ψ (ψ e))))
def jh.LC(h:jh w base sb D k v s o fr ps v6 v7 W cs' v'){f:List Pc}{b:υ}(g:G W W' v7.ownBlock)(n:je W' w.heap.size b f)(a:b.ownBlock=v7.ownBlock\/b.ownBlock=E W.heap.size)(p:D<w.heap.size){i:Nat}{d:Du}(hd:gD W D i (LX Y D v6 v7 sb v') d):jh w base sb D k v s o fr f v6 b W' cs' v'/\gD W' D i (LX Y D v6 b sb v') d:=by
 refine⟨⟨h.side.other (aj.of g) (λj _ e=>h.a7 j e),h.wx.own g (λj l e=>by have:=(h.ps.lt j e).1;omega),h.a6,λj e m=>?_,λj e c=>?_,h.fr.aA (aj.of g) (λj e e2=>h.sep j e e2),n⟩,hd.step (aj.of g) (λe=>by have:=(h.ps.lt D e).1;omega) (λj _ e=>ψ (ψ (φ e))) (λj l=>?_)⟩
 obtain a|a:=a
 rw[a]at e;exact h.a7 j e m;rw[a]at e;have:=aR e;have:=px h.side.bB m;omega;obtain a|a:=a
 rw[a]at c;exact h.sep j e c;rw[a]at c;have:=aR c;have:=(h.fr.lt j e).2;omega;obtain e|e|e|e|e:=l
 exact φ (φ e);exact φ (ψ (φ e));obtain a|a:=a
 rw[a]at e;exact φ (ψ (ψ (φ e)));grind;exact φ (ψ (ψ (ψ (φ e))));exact φ (ψ (ψ (ψ (ψ e))))
end
structure qb(a:Ot)(d0:Du)(b:Int)(x:Ld):Prop where
 h:x.o.h=a.h
 sG:x.o.sG=a.sG
 code:x.o.code=a.code
 ay:0<=x.o.ay/\x.o.ay<=4096
 nj:ks x.o x.d
 dl:x.d.l.length<=d0.l.length+x.fr.length
 fl:(x.fr.length:Int)<=b
 pl:x.ps.length<=x.fr.length
def qb.step{b:Ot}{d0:Du}{a:Int}{x:Ld}(H:qb b d0 a x)(k:Nat)(g:k<4)(l:a<=1000)(i:0<=b.h.fr)(m:b.en<=4096)(e:(x.o.next x.d (a-x.fr.length)).2=ρ):qb b d0 a (x.step k (x.o.next x.d (a-x.fr.length)).1)/\x.fr.length<(x.step k (x.o.next x.d (a-x.fr.length)).1).fr.length:=by
 have f:0<=x.o.h.fr:=by rw[H.h];exact i
 let⟨n,q⟩:=Lx k g H.nj (p:=a-x.fr.length) O e f
 have j:=Ah H.nj (p:=a-x.fr.length) O e f;generalize (x.o.next x.d (a-x.fr.length)).1=p at *;have c:(x.o.lu p).h=x.o.h/\(x.o.lu p).sG=x.o.sG/\(x.o.lu p).code=x.o.code/\0<=(x.o.lu p).ay/\(x.o.lu p).ay<=4096:=by
  have r:=H.ay;unfold Ot.lu;split;simp_all;refine⟨Q,Q,Q,?_⟩
  obtain h|⟨-,s,t,u⟩:=j
  simp_all;have:x.o.en=b.en:=by unfold Ot.en;rw[H.h]
  grind
 have v:=Ac p.x H.nj.1;have w:=H.dl;have y:=H.pl;refine⟨⟨c.1.trans H.h,c.2.1.trans H.sG,c.2.2.1.trans H.code,c.2.2.2,?_,?_,?_,?_⟩,?_⟩
 have:=H.nj.leave p;unfold ks Ot.en at this⊢;unfold Ld.step;grind;unfold Ld.step Du.leave;grind;unfold Ld.step;grind;unfold Ld.step;grind;unfold Ld.step;grind
def LD(w:D)(h:Nat->Prop)(i sb a j k:Nat)(v:aY)(s:Sd)(r:Ld)(e:Ending)(f:D):Prop:=
 ∃a6 b c6 a7 c c7 l g,e=ξ (τ #[Y a6 b c6,Y a7 c c7])/\jh w i sb a k v s r.o r.fr r.ps (Y a6 b c6) (Y a7 c c7) f l g/\gD f a j (LX h a (Y a6 b c6) (Y a7 c c7) sb g) r.d
def LF{d:Du}(h:ks H d)(b:p<=1000)(a:(H.next d p).2=ρ)(c:0<=H.h.fr)(f:H.en<=4096):(H.next d p).1.x.ok:=by
 unfold Ot.next at a⊢;cases e:H.sG;rw[e]at a;simp only[iV,iJ]at a⊢;obtain⟨g,i,j,k,-⟩:=vI h b a c;constructor<;>(unfold aZ;omega);simp only[fw]
 exact⟨⟨fv 0,Θ⟩,⟨fv 0,Θ⟩⟩
def DN(g:G w W N)(h:w.heap.size<=b)(a c d f:υ):G w ((((ζ W ⟨b,0,N⟩ a).setCell ⟨b,1,N⟩ c).setCell ⟨b,2,N⟩ d).setCell ⟨b,3,N⟩ f) N:=
 cO g (aD (aD (aD (aD (au W (E b)) ⟨b,0,N⟩ a (ψ Q)) ⟨b,1,N⟩ c (ψ Q)) ⟨b,2,N⟩ d (ψ Q)) ⟨b,3,N⟩ f (ψ Q)) (λj e=>φ (by cases e;exact h))
def LG{u3:υ}(h:W.heap[b]?=E (ο #[x,y,z,u3] T (0,0)))(a c d e:υ):((((ζ W ⟨b,0,N⟩ a).setCell ⟨b,1,N⟩ c).setCell ⟨b,2,N⟩ d).setCell ⟨b,3,N⟩ e).heap[b]?=E (ο #[a,c,d,e] T (0,0)):=
 heap_set (o:=3) (heap_set (o:=2) (heap_set (o:=1) (heap_set (o:=0) h a) c) d) e
def DO{a:υ}(h:W.heap[i]?=E (ο #[x,y,z,a] T (0,0))):χ W ⟨i,0,N⟩=θ/\χ W ⟨i,0+1,N⟩=θ/\χ W ⟨i,0+1+1,N⟩=θ/\χ W ⟨i,0+1+1+1,N⟩=θ:=by simp[χ,h]
def aS.slice(h:aS w n x L):∃a c,x=Y a L.length c:=by
 obtain⟨a,c,e,-⟩:=h.bs;grind
def je.slice{l:List Pc}(h:je w n x l):∃a c,x=Y a l.length c:=by
 obtain⟨a,c,e,-⟩:=h.DH;grind
def LH(w:D)(T:Nat->Prop)(hY:∀j,T j->j<w.heap.size)(V sb p ai k:Nat)(cs:Array υ)(v:aY)(s:Sd)(d:Du)(H:bF w V sb cs v s)(hk:k<4)(hD:p<w.heap.size)(de:¬bn sb v p)(gg:ai<=w.heap.size)(bM:gD w p ai (λj=>j=p\/cM sb v j\/T j) d)(b3:ks (s.out k) d)(gh:d.l.length<=900000)
 (hn:(s.out k).h.nice) (ej:(s.out k).en<=4096) (ek:0<=(s.out k).ay/\(s.out k).ay<=4096) (b4:0<=(s.out k).code/\(s.out k).code<=4611686018427387903) (gi:16<=s.az/\s.az<=1000) (r:Ld) (hr:r=ka k (s.az-16) ((s.az-16).toNat+1) ⟨s.out k,d,[],[]⟩):
 Calls prog 209 #[π (E ⟨sb,0,N⟩),I X k,π (E ⟨p,0,N⟩)] w (LD w T V sb p ai k v s r):=by
 refine fL λR hR=>?_
 replace hR:=J hR;have i1:(k:Int)<4:=O;have d1:decide ((k:Int)<4)=ρ:=bU i1;have eo:Hid (jh w V sb p k v s (s.out k) [] [] (Y N 0 0) (Y N 0 0) w cs v):=J ⟨by rw[sq];exact H,Wx.rfl' _ _ _ _ _,λj e=>(by cases e),λj e=>(by cases e),λj e=>(by cases e),aS.nil _ _,je.nil _ _⟩;have er:Hid (gD w p ai (LX T p (Y N 0 0) (Y N 0 0) sb v) d):=J (bM.DK (λj _ hj=>by
  obtain e|e|e|e:=hj
  exact φ e;cases e;cases e
  .exact ψ e))
 have dg:Hid (qb (s.out k) d (s.az-16) ⟨s.out k,d,[],[]⟩):=J ⟨Q,Q,Q,ek,b3,Γ,Ψ,Γ⟩;obtain⟨i,ax⟩:=í (s.az-16);rw[<-ax]at dg hr;have a0:0<=i/\i<=1000:=O;have dk:=hn.1;replace⟨hr,ax,H,bM,b3,hn,b4⟩:=mX hr ax H bM b3 hn b4;go_enter func209,ntmps209;go_upto_region 2 with fail;go_loopg [6,7] (i.toNat+1) (λg v6 v7 wr=>∃(x:Ld)(m:Nat)(a1:Array υ)(u:aY),qb (s.out k) d i x/\jh w V sb p k v s x.o x.fr x.ps v6 v7 wr a1 u/\gD wr p ai (LX T p v6 v7 sb u) x.d/\g=(i-x.fr.length).toNat+1/\(i-x.fr.length).toNat+1<=m/\ka k i m x=r);case atStart=>exact⟨_,_,cs,v,Z dg,Z eo,Z er,Γ,aP _,by simpa using (Z hr).symm⟩
 case round=>
  obtain⟨x,m,a1,u,q,t,bj,rfl,hm,hl⟩:=hrel;obtain⟨a6,c6,rfl⟩:=t.fr.slice;obtain⟨a7,c7,rfl⟩:=t.ps.slice;have hO:il wr V a1 (19+9*k) (u.own k) (u.set k) x.o:=by have:=t.side.out k hk;simpa only[bN]using this
  let⟨ab,nb,cb,ac,nc,cc,et,ev⟩:=hO.oE
  have a2:=hO;rw[et,ev]at a2;have dm:x.o.h.nice:=by rw[q.h];exact Z hn
  have gj:x.o.en=(s.out k).en:=by unfold Ot.en;rw[q.h]
  have dn:0<=x.o.h.fr:=by rw[q.h];exact dk
  have b5:=q.fl;let⟨a,n,c,q1,q2,q3⟩:=id bj
  obtain⟨⟨p0,p1,p2⟩,-⟩:=sh q1;have b6:=J (λW(g:G wr W N)=>DJ W sb s.az (g.cell ((ba t.side.aG _).trans t.side.c0) Γ) (by have:=Z ax;omega));rw[<-Z ax]at b6;have ak:=J (λW(g:G wr W N)=>Lt W sb (19+9*k) ab nb cb ac nc cc x.o ((a2.ag g).hd (bp t.side.aG g) dm) ((a2.ag g).tail (bp t.side.aG g)) a n c x.d (q2.ag g) (i-x.fr.length) O q.nj O);rw[<-qG]at ak;have b8:=J (λh=>q.step k hk a0.2 dk ej h);have ca:=J (λh=>Ah q.nj (p:=i-x.fr.length) O h dn);have cf:=J (λh=>LF q.nj (p:=i-x.fr.length) O h dn O);obtain⟨pm,du⟩:=í (x.o.next x.d (i-x.fr.length));rw[<-du]at ak b8 ca cf;have dv:Hid (∀L,m=L+1->ka k i m x=if pm.2 then ka k i L (x.step k pm.1)else x):=J (λL e=>by rw[e,du];rfl);let⟨⟨⟨A,B⟩,C,F⟩,more⟩:=pm
  unfold pA at ak;simp only at ak b8 ca dv cf;have hw:X.wrap (i-(x.fr.length:Int))=i-(x.fr.length:Int):=ä;have gr:G wr wr.drew N:=aK (au _ N);have gA:G wr (wr.alloc (ο #[I U 0,I U 0,β θ,β θ] 377)).drew N:=aK (aC _ _ N);have hA:Hid ((wr.alloc (ο #[I U 0,I U 0,β θ,β θ] 377)).drew.heap[wr.heap.size]?=E (ο #[I U 0,I U 0,β θ,β θ] 377 (0,0))):=J (aM wr _);have ey:Hid (x.ps.length<=100000000):=J (by have:=q.pl;omega);replace p0:=kc p0;replace p1:=kc p1;replace p2:=kc p2;replace⟨q,t,bj,hO,a2,q1,q2,q3,hl⟩:=rC q t bj hO a2 q1 q2 q3 hl;replace⟨hm,b5,a0⟩:=cA hm b5 a0;go_upto_region 2 with fail;go_cut [9,10] (λv9 ez wx=>(∃b,v9=π (E ⟨b,0,N⟩)/\wr.heap.size<=b/\wx.heap[b]?=E (ο #[I U A,I U B,β C,β F] 377 (0,0)))/\ez=β more/\G wr wx N);case first=>
   go_region_held3 (λw'=>G wr w' N)
    (with_reducible first|exact DN M br _ _ _ _|exact M|exact aW M _|exact y|exact aW y _|exact gr|exact gA)
    (first
      |(go_at_call 203;apply(Z b6 _ gA).mono;rintro e w5⟨rfl,g5⟩;have y:=aq gA g5;have a3:=bp (Z hA) g5)
      |(go_at_call 203;apply(Z b6 _ gr).mono;rintro e w5⟨rfl,g5⟩;have y:=aq gr g5)
      |(go_at_call 242;apply(Z ak _ y).mono;rintro e w6⟨rfl,z⟩;have M:=aq y z;have K:=bp a3 z;have br:wr.heap.size<=wr.heap.size:=aP _;let⟨y0,y1,y2,y3⟩:=qJ K;let⟨z0,z1,z2,z3⟩:=DO K;have dx:=K)
      |(go_at_call 242;apply(Z ak _ (aW y _)).mono;rintro e w6⟨rfl,z⟩;have M:=aq (aW y _) z;have K:=bp (aM _ _) z;have br:=y.size;let⟨y0,y1,y2,y3⟩:=qJ K;let⟨z0,z1,z2,z3⟩:=DO K;have dx:=K)
      |(go_at_call 242;apply(Z ak _ y).mono;rintro e w6⟨rfl,z⟩;have M:=aq y z))
   all_goals go_wp2_with fail
   all_goals go_meet
   all_goals first|exact⟨⟨_,Q,br,LG dx _ _ _ _⟩,Q,DN M br _ _ _ _⟩|exact⟨⟨_,Q,M.size,aM _ _⟩,Q,aW M _⟩
  case rest=>
   obtain⟨⟨b,rfl,gl,a8⟩,rfl,gx⟩:=hcut;obtain⟨L,eK⟩:∃L,m=L+1:=⟨m-1,by have:=Z hm;omega⟩
   have al:=(Z dv L eK).symm.trans (Z hl);have bt:=J ((Z t).gb gx);have ea:=J ((Z bj).ag gx);cases more
   .simp only[iV,iJ]at al;have eL:Hid (R (ξ (τ #[Y a6 x.fr.length c6,Y a7 x.ps.length c7])) wc):=J (by
     rw[Z hR,<-al];exact⟨a6,_,c6,a7,_,c7,a1,u,Q,Z bt,Z ea⟩)
    go_wp2_with fail;exact Z eL
   simp only[fw]at al;have a9:=Z ca Q;have P:=Z b8 Q;have bw:=Z cf Q;have gm:=(Z bt).wx.aA.size;have ch:=J (DG wc p ai (LX T p (Y a6 x.fr.length c6) (Y a7 x.ps.length c7) sb u) x.d ⟨⟨A,B⟩,C,F⟩ (Z ea) (φ Q) ((Z bt).lx hD hY) O (Z q).nj.1 bw (by have:=(Z q).dl;have:=Z b5;have:=Z a0;omega));let⟨y0,y1,y2,y3⟩:=qJ a8
   unfold pA at ch;simp only at ch;replace⟨a9,P,bw,al,a8⟩:=gT a9 P bw al a8;go_upto_region 5 with fail;go_wp2_with fail;apply(Z ch).mono;rintro e w2⟨rfl,cm,g2⟩;have ao:=(Z bt).left hD de g2;have eS:b≠p:=by have:=(Z t).wx.aA.size;omega
   have bb:=(g2.block b (aV.1 (Z a8)).1 (λe=>eS (aR e))).trans (Z a8);have cp:il w2 V a1 (19+9*k) (u.own k) (u.set k) x.o:=by have:=ao.side.out k hk;simpa only[bN]using this
   have bx:=J (Ly ao.side.aG cp dm (ao.side.xN k hk) k ⟨⟨A,B⟩,C,F⟩ (Z a9));rw[<-qG]at bx;unfold pA at bx;simp only at bx;let⟨y0,y1,y2,y3⟩:=qJ bb
   have e3:Hid (¬cM sb u b):=J (λe=>by have:=qE (Z t).side.bB e;omega);have e4:Hid ((Y a6 x.fr.length c6).ownBlock≠E b/\(Y a7 x.ps.length c7).ownBlock≠E b):=J ⟨λe=>by have:=((Z t).fr.lt b e).2;omega,λe=>by have:=((Z t).ps.lt b e).2;omega⟩;replace⟨ao,cm,bb,cp⟩:=fB ao cm bb cp;go_wp2_with fail;apply(Z bx).mono;rintro e w3⟨rfl,hT⟩;rw[qG]at hT;let⟨e5,v3,ct,cv,C3⟩:=(Z ao).ay _ hk hT hD de (Z cm)
   have cw:=(C3.block b (aV.1 (Z bb)).1 (Z e3)).trans (Z bb);have eb:0<=x.o.code/\x.o.code<=4611686018427387903:=by rw[(Z q).code];exact Z b4
   have ec:=Lv w3 k hk (Z a9) O (Z q).ay eb;have e6:=DL k hk (Z a9) O (Z q).ay eb;have cx:=J (Ag w3 _ _ ec.1 e6 ec.2);obtain⟨f,hf⟩:=í (x.o.dO k ⟨⟨A,B⟩,C,F⟩);rw[<-hf]at cx;rw[<-hf];obtain⟨fA,bz⟩:=í (bC f (Y N 0 0));rw[<-bz]at cx;rw[<-bz];replace⟨hf,bz,ct,cv,cw⟩:=gT hf bz ct cv cw;go_wp2_with fail;apply(Z cx).mono;rintro e w4⟨⟨a4,n4,c4,rfl,o4⟩,g4⟩;have cy:=(Z ct).gb g4;have e7:=(Z cv).ag g4;have ed:=bp (Z cw) g4;have e8:=cy.wx.aA.size;have c9:x.fr.length+(bE [f]).length<=100000000:=by
    have h1:=(Z P).1.fl;unfold Ld.step at h1;simp only[bS,<-Z hf]at h1;have:=Z a0;omega
   let⟨a5,c5,w5,da,o5,g5,e9⟩:=BI (w:=w4) 112 w.heap.size _ x.fr cy.fr a4 n4 c4 (bE [f]) o4.eV c9 e8
   let⟨fa,fb⟩:=cy.LA g5 o5 e9 hD e7
   have a3:=(g5.block b (aV.1 ed).1 (λe=>(Z e4).1 e.symm)).trans ed;let⟨y0,y1,y2,y3⟩:=qJ a3
   obtain⟨W6,db⟩:=í (w5.alloc (ο #[I U A,I U B,β C,β F] 377));have z:G w5 W6 N:=by rw[db];exact aC _ _ _
   have K:W6.heap[w5.heap.size]?=E (ο #[I U A,I U B,β C,β F] 377 (0,0)):=by rw[db];exact aM _ _
   have dc:=fa.gb z;have fc:=fb.ag z;have ff:=Z ey;let⟨b7,n7,ee,w7,bA,o7,g7,fi⟩:=Lp (w:=W6) 323 w.heap.size _ x.ps dc.ps w5.heap.size 1 ⟨⟨A,B⟩,C,F⟩ (Z bw) (mj (a:=tK ⟨⟨A,B⟩,C,F⟩) K) ff dc.wx.aA.size
   let⟨fo,fy⟩:=dc.LC g7 o7 fi hD fc
   have hrel:Hid (∃(S:Ld)(m2:Nat)(ga:Array υ)(ei:aY),qb (s.out k) d i S/\jh w V sb p k v s S.o S.fr S.ps (Y a5 (x.fr.length+(bE [f]).length) c5) (Y b7 n7 ee) w7 ga ei/\gD w7 p ai (LX T p (Y a5 (x.fr.length+(bE [f]).length) c5) (Y b7 n7 ee) sb ei) S.d/\(i-(x.fr.length+(bE [f]).length:Nat)).toNat+1=(i-S.fr.length).toNat+1/\(i-S.fr.length).toNat+1<=m2/\ka k i m2 S=r):=J (by
    have gd:=Z hf;subst gd;refine⟨x.step k ⟨⟨A,B⟩,C,F⟩,L,e5,v3,(Z P).1,fo,fy,?_,?_,Z al⟩
    unfold Ld.step;simp only[bS]
    .have h1:=Z hm;have h2:=(Z P).2;have h3:=(Z P).1.fl;omega)
   have gf:Hid ((i-(x.fr.length+(bE [f]).length:Nat)).toNat+1<(i-x.fr.length).toNat+1):=J (by
    have h2:=(Z P).2;have h3:=(Z P).1.fl;unfold Ld.step at h2 h3;simp only[bS,<-Z hf]at h2 h3;omega)
   rw[db]at bA;replace⟨da,bA,a3,c9⟩:=fB da bA a3 c9;go_wp2_with (at_builtin;first|(refine jN Ξ 112 112 Ξ _ _ Ξ _ _ _ Ξ Ξ (Z da) ?_)|(refine jN Ξ 323 323 Ξ _ _ Ξ _ _ _ Ξ Ξ (Z bA) ?_));go_roundg ((i-(x.fr.length+(bE [f]).length:Nat)).toNat+1);case measure=>exact Z gf
   case rel=>exact Z hrel
def Aw{key:List Int}{s n:Int}{l:List Int}(hl:∀x∈l,W8 x):∀x∈dC key s n l,W8 x:=by
 intro x a;simp only[dC,b9]at a;obtain(a|a)|a:=a
 exact qc _ x a;exact vO hl x a;exact qc _ x a
structure Pz where
 s:Sd
 d:Du
 l:List (List Int)
def Pz.load(x:Pz)(k:Nat):Ld:=ka k (x.s.az-16) ((x.s.az-16).toNat+1) ⟨x.s.out k,x.d,[],[]⟩
def Pz.stay(x:Pz)(k:Nat):Pz:=⟨{x.s with out:=aB x.s.out k (x.load k).o},(x.load k).d,x.l⟩
def Pz.kx(x:Pz)(k:Nat):Pz:=
 ⟨{x.s with out:=aB x.s.out k (x.load k).o,aO:=x.s.aO++[⟨x.s.count,x.s.tick,k,(x.load k).ps⟩],count:=x.s.count+1},(x.load k).d,x.l++[dC x.s.key (bf x.s.first) x.s.count (x.load k).fr]⟩
def mz(k:Nat):Nat->Pz->Pz
 |0,x=>x
 |n+1,x=>if 10<=x.s.aO.length then x else if(x.load k).ps.length=0 then x.stay k else mz k n (x.kx k)
def Sd.pieces(s:Sd)(k:Nat):Pz:=mz k 11 ⟨s,s.due k,[]⟩
def Mz{b:Ot}{d0:Du}{a:Int}{k:Nat}(c:k<4)(e:a<=1000)(f:0<=b.h.fr)(g:b.en<=4096):∀(m:Nat)(x:Ld),qb b d0 a x->qb b d0 a (ka k a m x):=by
 intro m;induction m with
 |zero=>exact λx h=>h
 |succ m i=>
  intro x h;unfold ka;cases j:(x.o.next x.d (a-x.fr.length)).2;simp_all;simp only[fw];exact i _ (h.step k c e f g j).1
structure oI(s0:Sd)(k:Nat)(x:Pz):Prop where
 az:x.s.az=s0.az
 key:x.s.key=s0.key
 h:(x.s.out k).h=(s0.out k).h
 sG:(x.s.out k).sG=(s0.out k).sG
 code:(x.s.out k).code=(s0.out k).code
 ay:0<=(x.s.out k).ay/\(x.s.out k).ay<=4096
 nj:ks (x.s.out k) x.d
 dl:x.d.l.length+1000*(10-x.s.aO.length)<=900000
 fl:x.s.aO.length<=10
 aQ:0<=x.s.count/\x.s.count+10-x.s.aO.length<=4611686018427387000
 lf:x.l.length<=x.s.aO.length
def oI.ll{s0:Sd}{k:Nat}{x:Pz}(H:oI s0 k x):x.l.length<=1000:=by have:=H.lf;have:=H.fl;omega
def oI.ld{s0:Sd}{k:Nat}{x:Pz}(H:oI s0 k x)(a:k<4)(c:16<=s0.az/\s0.az<=1000)(b:0<=(s0.out k).h.fr)(f:(s0.out k).en<=4096):qb (x.s.out k) x.d (x.s.az-16) (x.load k):=by
 have e:(x.s.out k).en=(s0.out k).en:=by unfold Ot.en;rw[H.h]
 refine Mz a (by rw[H.az];omega) (by rw[H.h];exact b) O _ _ ⟨Q,Q,Q,H.ay,H.nj,Γ,by rw[H.az];simp;omega,Γ⟩
def oI.kx{s0:Sd}{k:Nat}{x:Pz}(H:oI s0 k x)(a:k<4)(b:16<=s0.az/\s0.az<=1000)(c:0<=(s0.out k).h.fr)(d:(s0.out k).en<=4096)(e:x.s.aO.length<10):oI s0 k (x.kx k):=by
 have L:=H.ld a b c d;unfold Pz.kx;have f:=L.dl;have g:=L.fl;have i:=H.dl;have j:=H.aQ;have l:=H.az;have m:=H.lf;refine⟨H.az,H.key,?_,?_,?_,?_,?_,?_,?_,?_,?_⟩
 simp only[bN];exact L.h.trans H.h;simp only[bN];exact L.sG.trans H.sG;simp only[bN];exact L.code.trans H.code;simp only[bN];exact L.ay;simp only[bN];exact L.nj;grind;grind;grind;grind
structure lC(w0:World)(base sb D:Nat)(v0:aY)(x:Pz)(v5:υ)(W:World)(cs:Array υ)(v:aY)(els:List El):Prop where
 side:bF W base sb cs v x.s
 ew:dz w0.heap.size w0 W sb v0 v
 due:gD W D w0.heap.size (λj=>j=D\/cM sb v j\/v5.ownBlock=E j) x.d
 nD:¬bn sb v D
 dl:D<W.heap.size
 ls:gG W w0.heap.size sb v els v5
 n5:v5.ownBlock≠E D
 ne:∀e∈els,e.1≠D
 el:els.map (·.2)=x.l
section
variable {w0:World} {base sb D k:Nat} {v0:aY} {x:Pz} {v5:υ} {W W':World} {cs:Array υ} {v:aY} {els:List El}
def lC.gb(h:lC w0 base sb D v0 x v5 W cs v els)(g:G W W' N):lC w0 base sb D v0 x v5 W' cs v els:=
 ⟨h.side.ag g,h.ew.trans (dz.ag g),h.due.ag g,h.nD,bX h.dl g.size,h.ls.gb g,h.n5,h.ne,h.el⟩
def lC.MA(h:lC w0 base sb D v0 x v5 W cs v els)(q:w0.heap.size<=D){r:Ld}{f g:υ}{i:Array υ}{b:aY}{c:World}(a:jh W base sb D k v x.s r.o r.fr r.ps f g c i b)(hd:gD c D w0.heap.size (LX (λj=>v5.ownBlock=E j) D f g sb b) r.d):lC w0 base sb D v0 ⟨{x.s with out:=aB x.s.out k r.o},r.d,x.l⟩ v5 c i b els:=by
 have t:=h.ew.aA.size;have m:Wx w0.heap.size W c sb v b (λj=>j=D):=⟨a.wx.aA,a.wx.ft,λj e=>(a.wx.ar j e).imp id (λe=>O)⟩
 refine⟨a.side,m.ew h.ew (λj e=>O),hd.DK (λj _ n=>n.elim φ (λe=>ψ (ψ (ψ e)))),a.Aj h.dl h.nD,bX h.dl a.wx.aA.size,h.ls.next a.wx.aA (λj e e2=>h.n5 (by grind)) (λe p e2=>h.ne e p e2) a.wx.ar,h.n5,h.ne,h.el⟩
def lC.MB(h:lC w0 base sb D v0 x v5 W cs v els){k:Sd}{l:Array υ}{b:aY}{g:World}(m:bF g base sb l b k)(c:dz w0.heap.size W g sb v b)(i:∀j,bn sb b j->bn sb v j\/W.heap.size<=j\/(v5.ownBlock≠E j/\j≠D/\∀e∈els,e.1≠j)):lC w0 base sb D v0 {x with s:=k} v5 g l b els:=by
 have n:∀j,bn sb b j->v5.ownBlock=E j->False:=λj d e=>by
  obtain a|a|a:=i j d
  exact h.ls.a5 j e a;have:=(h.ls.own.lt j e).2;omega;grind
 have p:∀e∈els,¬bn sb b e.1:=λe f d=>by
  obtain a|a|a:=i _ d
  exact h.ls.ae e f a;have:=h.ls.at_.lt f;omega;grind
 refine⟨m,h.ew.trans c,h.due.step c.aA (λe=>h.nD (φ e)) (λj _ e=>ψ (φ e)) (λj q=>?_),λe=>?_,bX h.dl c.aA.size,⟨h.ls.own.aA c.aA (λj e e2=>h.ls.a5 j e (φ e2)),h.ls.at_.aA c.aA (λe f e2=>h.ls.ae e f (φ e2)),λj e d=>n j d e,p,h.ls.s5⟩,h.n5,h.ne,h.el⟩
 obtain e|e|e:=q
 omega;obtain e|e:=c.ft j e
 simp_all;grind;grind;obtain a|a|a:=i D e
 exact h.nD a;have:=h.dl;omega;grind
def lC.app(h:lC w0 base sb D v0 x v5 W cs v els){d m:World}(p:G W d N){e:El}(w:W.heap.size<=e.1)(q:d.heap[e.1]?=E (ο (bv e.2).toArray 5 (0,0)))(r:∀y∈e.2,W8 y){k:υ}(s:fC m w0.heap.size k (els++[e]))(g:G d m v5.ownBlock)(f:k.ownBlock=v5.ownBlock\/k.ownBlock=E d.heap.size):lC w0 base sb D v0 {x with l:=x.l++[e.2]} k m cs v (els++[e]):=by
 have b:=h.gb p;have z:=h.ew.aA.size;have A:=h.dl;have t:jg d w0.heap.size [e]:=⟨λy c=>by rw[eE.1 c];exact⟨O,r,q⟩,List.pairwise_singleton _ _⟩
 have u:=b.ls.app t (λi=>by have:=px h.side.bB i;omega) (λe1=>by have:=(h.ls.own.lt _ e1).2;omega) (λa i e1=>by have:=h.ls.at_.lt i;omega) (λj i=>px b.side.bB i) s g f;refine⟨b.side.other (aj.of g) (λj _ e1=>b.ls.a5 j e1),⟨?_,b.ew.ft,b.ew.ar⟩,b.due.step (aj.of g) (λe1=>b.n5 e1) (λj n e1=>ψ (ψ e1)) (λj n=>?_),b.nD,bX b.dl g.size,u,λe1=>?_,λy c=>?_,by rw[oj,h.el];rfl⟩
 exact(b.ew.aA.trans (aj.of g)).mono (λj n e1=>e1.elim id (λe1=>by have:=(b.ls.own.lt j e1).1;omega));grind;obtain f|f:=f
 rw[f]at e1;exact h.n5 e1;grind;obtain c|c:=b9.1 c
 exact h.ne y c;grind
end
def je.low{b2:Nat}{l:List Pc}(h:je w n x l)(d:b2<=n):je w b2 x l:=by
 let⟨h0,b,a⟩:=h
 refine⟨h0,b,?_⟩
 obtain a|⟨g,cap,cur,e1,e2,c⟩:=a
 simp_all;exact ψ ⟨g,cap,cur,e1,O,c⟩
def Ax(w:D)(g sb:Nat)(v:aY)(r:Pz)(e:Ending)(b:D):Prop:=
 ∃a n c h d f,e=ξ (Y a n c)/\bF b g sb h d r.s/\dz w.heap.size w b sb v d/\gG b w.heap.size sb d f (Y a n c)/\f.map (·.2)=r.l
def gG.slice{b:List El}(h:gG W n k F b x):∃a c,x=Y a b.length c:=by
 obtain⟨a,c,e,-⟩:=h.own.fU;grind
def lC.post{x:Pz}{v:aY}{b:List El}(h:lC w k i j F x (Y a n l) W C v b):Ax w k i F x (ξ (Y a n l)) W:=⟨a,n,l,C,v,b,Q,h.side,h.ew,h.ls,h.el⟩
def MD(w:World)(p sb k:Nat)(cs:Array υ)(v:aY)(s:Sd)(H:bF w p sb cs v s)(hk:k<4)(cf:cI s.key)
 (T:(s.out k).h.nice) (bM:(s.out k).en<=4096) (ch:0<=(s.out k).ay/\(s.out k).ay<=4096) (cm:0<=(s.out k).code/\(s.out k).code<=4611686018427387903) (a2:16<=s.az/\s.az<=1000) (cp:s.aO.length<=10) (eo:0<=s.count/\s.count<=4611686018427386000) (er:(s.out k).h.af.length+(eB v.lf k).length<=100000) (a3:ks (s.out k) (s.due k)) (b3:(s.due k).l.length<=800000):
 Calls prog 159 #[π (E ⟨sb,0,N⟩),I X k] w (Ax w p sb v (s.pieces k)):=by
 obtain⟨r,hr⟩:=í (s.pieces k);rw[<-hr];refine fL λR hR=>?_
 replace⟨hR,hr⟩:=aT hR hr;have a4:=J (Lm w p sb cs v s H k hk T O);have b4:=T.1;have ct:Hid (oI s k ⟨s,s.due k,[]⟩):=J ⟨Q,Q,Q,Q,Q,ch,a3,by simp only;omega,cp,by simp only;omega,Γ⟩;obtain⟨du,C⟩:=í (s.due k);rw[<-C]at a4;obtain⟨de,al⟩:=í du.e;obtain⟨dg,ao⟩:=í du.g;rw[<-al,<-ao]at a4;replace⟨C,al,ao,a3,b3,T,H⟩:=mX C al ao a3 b3 T H;go_enter func159,ntmps159;go_wp2_with fail;apply(Z a4).mono;rintro e F⟨⟨a,n,c,rfl,q1,q2⟩,g1⟩;obtain⟨W2,a8⟩:=í (F.alloc (ο #[Y a n c,β de,β dg] 332));have g2:G F W2 N:=by rw[a8];exact aC _ _ _
 have b5:W2.heap[F.heap.size]?=E (ο #[Y a n c,β de,β dg] 332 (0,0)):=by rw[a8];exact aM _ _
 have b6:=aq g1 g2;have cv:Hid (lC w p sb F.heap.size v ⟨s,s.due k,[]⟩ (Y N 0 0) W2 cs v []):=J (by
  have hz:=g1.size;have cw:=(aV.1 b5).1;refine⟨(Z H).ag b6,dz.ag b6,⟨a,n,c,by rw[<-Z C,<-Z al,<-Z ao];exact b5,by rw[<-Z C];exact q1.ag g2,λhl y ey=>?_⟩,λha=>by have:=px (Z H).bB ha;omega,cw,gG.nil _ _ _ _,λe=>(by cases e),λe he=>(by cases he),Q⟩
  rw[<-Z C]at hl;have h1:=q2 hl y ey;have h2:y.block<F.heap.size:=by subst ey;exact q1.lt hl
  refine⟨h1,λK=>?_⟩
  obtain K|K|K:=K
  omega;have:=qE (Z H).bB K;omega
  .cases K)
 have cx:=g1.size;go_upto_region 3 with fail;rw[<-a8];generalize F.heap.size=D at *;go_loopg [5] (11-s.aO.length) (λg v5 wr=>∃(x:Pz)(m:Nat)(V:Array υ)(t:aY)(q:List El),oI s k x/\lC w p sb D v x v5 wr V t q/\g=11-x.s.aO.length/\11-x.s.aO.length<=m/\mz k m x=r);case atStart=>exact⟨_,11,cs,v,[],Z ct,Z cv,Q,O,(Z hr).symm⟩
 case round=>
  obtain⟨x,m,V,t,q,f,b,rfl,hm,hl⟩:=hrel;obtain⟨a5,c5,rfl⟩:=b.ls.slice;have W:t.lf.length=x.s.aO.length:=by have:=fR List.length b.side.aO;rw[fF]at this;exact this.symm
  have ai:=J (JJ wr sb 91 p (t.own 8) t.lf ((ba b.side.aG _).trans b.side.fl.c3) b.side.fl.of);rw[W]at ai;obtain⟨m',cy⟩:∃m',m=m'+1:=⟨m-1,by have:=f.fl;omega⟩
  have A:(if 10<=x.s.aO.length then x else if(x.load k).ps.length=0 then x.stay k else mz k m' (x.kx k))=r:=by rw[<-hl,cy];rfl
  have c9:=J f.ll;by_cases b7:10<=x.s.aO.length
  .have d1:decide (10<=(x.s.aO.length:Int))=ρ:=α;rw[aH b7]at A;rw[d1]at ai;have a9:Hid (R (ξ (Y a5 q.length c5)) wr):=J (by rw[Z hR,<-A];exact b.post);replace⟨f,b,W⟩:=cA f b W;go_wp2_with fail;apply(Z ai).mono;rintro e w2⟨rfl,rfl⟩;go_wp2_with fail;exact Z a9
  have d1:decide (10<=(x.s.aO.length:Int))=θ:=é;rw[aE b7]at A;rw[d1]at ai;have et:(x.s.out k).en=(s.out k).en:=by unfold Ot.en;rw[f.h]
  have da:=J (LH wr (λj=>(Y a5 q.length c5).ownBlock=E j) (λj e=>(b.ls.own.lt j e).2) p sb D w.heap.size k V t x.s x.d b.side hk b.dl b.nD b.ew.aA.size b.due f.nj (by have:=f.dl;omega) (by rw[f.h];exact Z T) O f.ay (by rw[f.code];exact cm) (by rw[f.az];exact a2) (x.load k) Q);replace⟨f,b,W,A,hm⟩:=gT f b W A hm;go_wp2_with fail;apply(Z ai).mono;rintro e w2⟨rfl,rfl⟩;go_wp2_with fail;apply(Z da).mono;rintro e w3⟨a6,n6,c6,a7,n7,c7,db,v3,rfl,i,bb⟩;have z:=(Z b).MA cx i bb;have M:n7=(x.load k).ps.length:=by
   let⟨a',c',e'⟩:=i.ps.slice
   exact(lJ e').2.1
  by_cases h0:(x.load k).ps.length=0
  .have B:=Z A;rw[aH h0]at B;have e0:((n7:Int)==0)=ρ:=by rw[M,h0];rfl
   have a9:Hid (R (ξ (Y a5 q.length c5)) w3):=J (by rw[Z hR,<-B];exact z.post);replace⟨i,z,M,h0⟩:=fB i z M h0;go_wp2_with fail;exact Z a9
  have B:=Z A;rw[aE h0]at B;have e0:((n7:Int)==0)=θ:=by rw[M];simpa using h0
  have bj:=(Z f).aQ;have dc:=J ((Z f).kx hk a2 b4 bM O);have dk:=J (My w3 p sb w.heap.size k db v3 _ z.side z.ew.aA.size a7 n7 c7 (x.load k).ps (i.ps.low (Z b).ew.aA.size) i.a7 (by simp only;omega) (by have:=(Z f).fl;simp only;omega));replace⟨B,i,bb,z,M,h0,bj⟩:=mX B i bb z M h0 bj;go_wp2_with fail;apply(Z dk).mono;rintro e w4⟨rfl,dm,v4,P,ax,br⟩;have ak:=(Z z).MB P ax (λj ha=>by
   obtain h|h|h:=br j ha
   exact φ h;exact ψ (φ h)
   .have h1:=((Z i).ps.lt j h).1;refine ψ (ψ ⟨λe=>by have:=((Z b).ls.own.lt j e).2;omega,by have:=(Z b).dl;omega,λe he e2=>by have:=(Z b).ls.at_.lt he;omega⟩))
  have bt:=((Z i).fr.aA ax.aA (λj e h=>(Z i).a6 j e (φ h))).eV;have bw:=(Z i).fr.1;have bx:=(Z f).ld hk a2 b4 bM;have ev:(x.load k).fr.length<=1000:=by have:=bx.fl;have:=(Z f).az;omega
  have a0:cI x.s.key:=by rw[(Z f).key];exact cf
  have dn:=J (Av w4 sb x.s.key x.s.first a0 (P.rH a0) ((ba P.aG _).trans P.fI) x.s.count (by have:=Z bj;unfold aZ;omega) a6 n6 c6 (x.load k).fr bt O);replace⟨P,ax,br,ak,bt,bx,bw,a0⟩:=xQ P ax br ak bt bx bw a0;go_wp2_with fail;apply(Z dn).mono;rintro e w5⟨g,rfl,hg,b8,g5⟩;obtain⟨L,hL⟩:=í ((x.load k).fr.length+16);rw[<-hL];obtain⟨bs,S⟩:=í (dC x.s.key (bf x.s.first) x.s.count (x.load k).fr);rw[<-S]at b8;have bz:bs.length=L:=by rw[S,mu,hL]
  have dv:∀y∈bs,W8 y:=by rw[S];exact Aw (Z bw)
  obtain⟨W6,bA⟩:=í (w5.alloc (ο #[Y (E ⟨g,0,N⟩) L L] 112));have g6:G w5 W6 N:=by rw[bA];exact aC _ _ _
  have dx:W6.heap[w5.heap.size]?=E (ο #[Y (E ⟨g,0,N⟩) L L] 112 (0,0)):=by rw[bA];exact aM _ _
  have ca:=aq g5 g6;have cc:=(Z ak).gb ca;have ea:q.length+[(g,bs)].length<=100000000:=by
   have h1:q.length=x.l.length:=by have:=fR List.length (Z ak).el;rw[fF]at this;exact this
   have h2:=Z c9;simp only[dY,eJ]
   omega
  let⟨eb,ec,ed,w7,a1,o7,g7,ee⟩:=Af (w:=W6) 206 w.heap.size _ q cc.ls.own ⟨w5.heap.size,0,N⟩ 1 [(g,bs)] (λj u hj=>by
   have ei:j=0:=by have:=(rS.1 hj).1;simpa using this
   subst ei;have hu:u=lr (g,bs):=by simpa using hj.symm
   subst hu;rw[Addr.add_mid];unfold lr;simp only[bz]
   simp[κ,dx]) ea cc.ew.aA.size
  have ej:=(Z ak).app (e:=(g,bs)) ca hg (bp b8 g6) dv o7 g7 ee;have hrel:Hid (∃(x':Pz)(m2:Nat)(V:Array υ)(t:aY)(ek:List El),oI s k x'/\lC w p sb D v x' (Y eb ec ed) w7 V t ek/\11-(x.s.aO.length+1)=11-x'.s.aO.length/\11-x'.s.aO.length<=m2/\mz k m2 x'=r):=J (by
   refine⟨x.kx k,m',dm,v4,q++[(g,bs)],Z dc,?_,?_,?_,Z B⟩
   unfold Pz.kx;rw[<-S];exact ej;unfold Pz.kx;simp
   .have:=Z hm;unfold Pz.kx;simp;omega)
  rw[bA]at a1;replace⟨a1,bz,S,hL⟩:=fB a1 bz S hL;go_wp2_with (at_builtin;refine jN Ξ 206 206 Ξ _ _ Ξ _ _ _ Ξ Ξ (Z a1) ?_);go_roundg (11-(x.s.aO.length+1));case measure=>omega
  case rel=>exact Z hrel
end
section
variable{A:Addr}{s:List Rg}{i k m:Nat}{a:Option Addr}{w:D}
def MF(a:Option Addr)(n b i:Nat)(h:i<=b)(W:D):(Instr.slice 133 (Y a n b) N (E (I X i)) (E (I X i))).run prog W=.ok (Y a i i) W:=by
 rw[run_slice_hm W 133 a n b (by rw[yn];exact underlying133) X X (i:Int) (i:Int) O (fv _) O,yn,Eg];simp only[jC,sliced,mf,nz,Nat.sub_zero]
 congr 1;cases a with
 |none=>simp
 |some y=>simp[Addr.add]
def Ei(a:Option Addr)(n b j:Nat)(h:j<=n)(W:D):(Instr.slice 133 (Y a n b) (E (I X j)) N N).run prog W=.ok (Y (if b=j then a else a.map (·.add (j*2))) (n-j) (b-j)) W:=by
 rw[run_slice_l W 133 a n b (by rw[yn];exact underlying133) X (j:Int) O O,yn,Eg];simp only[jC,sliced,mf]
def bq.MG(h:bq w a k i s)(m:Nat)(b:m<=k):bq w a m m (s.take m):=by
 let⟨c,d,e,f,g⟩:=h.head m b
 refine⟨c,d,aP _,O,?_⟩
 grind
def bq.rest(h:bq w a k i s)(m:Nat)(c:m<=k):bq w (if i=m then a else a.map (·.add (m*2))) (k-m) (i-m) (s.drop m):=by
 apply h.back m c;by_cases d:i=m;omega;right;obtain⟨-,-,e,-,f|⟨b,o,rfl,-⟩⟩:=h;omega;exact⟨b,o,Q,by rw[aE d];simp[Addr.add_mid]⟩
def Az(h:(if k=m then a else a.map (·.add (m*2)))=E A):∃z,a=E z/\z.block=A.block:=by
 split at h;simp_all;cases a with
 |none=>cases h
 |some z=>
  refine⟨z,Q,?_⟩
  simp only[tv,qu]at h;rw[<-h];unfold Addr.add;split<;>rfl
def Ej(h:gP s)(m:Nat)(b:m<s.length):gP (s.drop m):=by
 have e:∀i,an (s.drop m) i=an s (m+i):=λi=>by simp[an,List.getD,tp]
 refine⟨by rw[fD];omega,λi hi=>?_⟩
 rw[fD]at hi;have a:=h.2 (m+i) O;unfold mS at a⊢;grind
def Ek(L:List Rg)(k i:Nat)(b:k<=L.length)(hi:i<k):an (ir L k) i=⟨(an L (L.length-1-i)).lo,(an L (L.length-1-i)).hi-1⟩:=by
 induction k with
 |zero=>omega
 |succ k a=>
  unfold ir;by_cases h:i<k;rw[<-a O h];simp only[an,List.getD]
  rw[qo (by rw[ng];exact h)];obtain rfl:i=k:=O;simp only[an,List.getD]
  rw[pQ (by rw[ng];omega),ng,tw];rfl
def Em(L:List Rg)(h:bk L)(h0:0<L.length)(b:∀r∈L,0<=r.lo/\r.hi<=4611686018427387904):gP (ir L L.length):=by
 refine⟨by rw[ng];exact h0,λi hi=>?_⟩
 rw[ng]at hi;have a:=lL (s:=L) (i:=L.length-1-i) O;have c:=h.2 _ a;have d:=b _ a;unfold mS;rw[Ek L _ i (aP _) hi];simp only
 refine⟨O,O,λe=>?_⟩
 rw[Ek L _ (i-1) (aP _) O];simp only
 have f:=h.lt (i:=L.length-1-i) (k:=L.length-1-(i-1)) O O;omega
def En(w:D)(p sb:Nat)(d:Array υ)(v:aY)(s:Sd)(H:bF w p sb d v s)(q:0<=s.count/\s.count<=4611686018427387903):
 Calls prog 205 #[π (E ⟨sb,91,N⟩)] w λr f=>r=ξ (I U s.count)/\G w f (E sb)/\bF f p sb (d.setIfInBounds 91 (I U (s.count+1))) v {s with count:=s.count+1}:=by
 apply(CG w sb 91 d _ _ H.aG H.fl.c0 q).mono;rintro r f⟨rfl,g,t⟩;refine⟨Q,g,?_⟩
 have z:(95:Nat)<d.size:=by rw[H.sz];omega
 have a:∀i,i≠91->(d.setIfInBounds 91 (I U (s.count+1)))[i]?=d[i]? :=λi h=>bH
 have C:=(aj.of g).mono (λk _ e=>(aR e).symm);have l:∀j,j=sb->cM sb v j:=λj h=>φ h
 refine⟨t,by simp[H.sz],(a 0 O).trans H.c0,(a 1 O).trans H.c1,λi hi=>(a _ O).trans (H.key i hi),(a 18 O).trans H.fI,λj m=>?_,λj m=>?_,?_,H.aO,H.lost,(a 96 O).trans H.py,?_,(a 97 O).trans H.pY,(a 98 O).trans H.lQ,(a 99 O).trans H.dS,(a 100 O).trans H.qF,?_,bG H.bl g.size⟩
 exact H.vA C l j m (λi u x=>a i O) (λk e h=>H.bB.iR j O (h▸e));exact H.vB C l j m (λi u x=>a i O) (λk e h=>H.bB.iR _ O (h▸e));exact⟨cU,(a _ O).trans H.fl.c1,(a _ O).trans H.fl.c2,(a _ O).trans H.fl.c3,(a _ O).trans H.fl.c4,H.fl.of.aA C (λk e h=>H.bB.iR 8 O (h▸e)),H.fl.ol.aA C (λk e h=>H.bB.iR 9 O (h▸e))⟩
 exact qD H.pB C (λy n c e=>⟨λh=>(H.bB.cq 8 O y n c e).1 (l _ h),(H.bB.cq 8 O y n c e).2⟩);have b:=H.bB;refine⟨bX b.jy C.size,λi hi k e=>bX (b.lt i hi k e) C.size,b.iR,b.sep,λi hi y n c e=>⟨(b.cq i hi y n c e).1,bX (b.cq i hi y n c e).2 C.size⟩,b.iG.aA C (λk _ e=>φ e)⟩
structure Ak where
 s:Sd
 rest:List Rg
 l:List (List Int)
def cB(l:List Rg):Fr:=⟨3,0,0,0,θ,⟨#[]⟩,l⟩
def Ak.n(x:Ak):Nat:=kO x.rest (x.s.az-16) x.rest.length
def Ak.step(x:Ak):Ak:=⟨{x.s with count:=x.s.count+1},x.rest.drop x.n,x.l++[dC x.s.key (bf x.s.first) x.s.count (bE [cB (x.rest.take x.n)])]⟩
def nJ:Nat->Ak->Ak
 |0,x=>x
 |m+1,x=>if x.rest.length=0 then x else nJ m x.step
def Sd.gZ(s:Sd):Ak:=if s.eY then nJ 10 ⟨{s with eY:=θ},ir s.af s.af.length,[]⟩else⟨s,[],[]⟩
structure jk(w0:D)(base sb:Nat)(v0 v:aY)(x:Ak)(v3:υ)(a:Option Addr)(n c:Nat)(W:D)(cs:Array υ)(els:List El):Prop where
 side:bF W base sb cs v x.s
 ew:dz w0.heap.size w0 W sb v0 v
 ls:gG W w0.heap.size sb v els v3
 el:els.map (·.2)=x.l
 rs:bq W a n c x.rest
 ra:x.rest≠[]->∀y,a=E y->w0.heap.size<=y.block/\v3.ownBlock≠E y.block
section
variable {w0:D} {base sb:Nat} {v0 v:aY} {x:Ak} {v3:υ} {a:Option Addr} {n c:Nat} {W W':D} {cs:Array υ} {els:List El}
def jk.gb(h:jk w0 base sb v0 v x v3 a n c W cs els)(g:G W W' N):jk w0 base sb v0 v x v3 a n c W' cs els:=
 ⟨h.side.ag g,h.ew.trans (dz.ag g),h.ls.gb g,h.el,h.rs.ag g,h.ra⟩
def jk.num(h:jk w0 base sb v0 v x v3 a n c W cs els)(j:sb<w0.heap.size){b:Sd}{d:Array υ}(i:bF W' base sb d v b)(g:G W W' (E sb)):jk w0 base sb v0 v {x with s:=b} v3 a n c W' d els:=by
 have C:aj W W' (cM sb v):=(aj.of g).mono (λk _ e=>φ (aR e).symm);refine⟨i,h.ew.trans ⟨C,λ_ h=>φ h,λ_ h=>φ h⟩,h.ls.next (X:=λ_=>False) (C.mono (λ_ _ h=>φ h)) (λ_ _=>id) (λ_ _=>id) (λ_ h=>φ h),h.el,h.rs.dR (λhl y f=>g.block _ (by subst f;exact h.rs.lt hl) (λe=>by have:=(h.ra hl y f).1;have:=aR e;omega)),h.ra⟩
def jk.app(h:jk w0 base sb v0 v x v3 a n c W cs els){d p:D}(q:G W d N){e:El}(A:W.heap.size<=e.1)(r:d.heap[e.1]?=E (ο (bv e.2).toArray 5 (0,0)))(s:∀y∈e.2,W8 y){m:υ}(t:fC p w0.heap.size m (els++[e]))(g:G d p v3.ownBlock)(f:m.ownBlock=v3.ownBlock\/m.ownBlock=E d.heap.size):jk w0 base sb v0 v {x with l:=x.l++[e.2]} m a n c p cs (els++[e]):=by
 have b:=h.gb q;have B:=h.ew.aA.size;have u:jg d w0.heap.size [e]:=⟨λy w=>by rw[eE.1 w];exact⟨O,s,r⟩,List.pairwise_singleton _ _⟩
 have z:=b.ls.app u (λk=>by have:=px h.side.bB k;omega) (λe1=>by have:=(h.ls.own.lt _ e1).2;omega) (λa k e1=>by have:=h.ls.at_.lt k;omega) (λj k=>px b.side.bB k) t g f;refine⟨b.side.other (aj.of g) (λj _ e1=>b.ls.a5 j e1),⟨?_,b.ew.ft,b.ew.ar⟩,z,by rw[oj,h.el];rfl,b.rs.dR (λhl y i=>g.block _ (by subst i;exact b.rs.lt hl) (λe1=>(b.ra hl y i).2 e1.symm)),λhl y i=>⟨(b.ra hl y i).1,λe1=>?_⟩⟩
 exact(b.ew.aA.trans (aj.of g)).mono (λj C e1=>e1.elim id (λe1=>by have:=(b.ls.own.lt j e1).1;omega));obtain f|f:=f
 rw[f]at e1;exact(b.ra hl y i).2 e1;rw[f]at e1;have:=aR e1;have:y.block<d.heap.size:=by subst i;exact b.rs.lt hl
 omega
def jk.cut(h:jk w0 base sb v0 v x v3 a n c W cs els)(m:Nat)(b:m<=n):jk w0 base sb v0 v {x with rest:=x.rest.drop m} v3 (if c=m then a else a.map (·.add (m*2))) (n-m) (c-m) W cs els:=
 ⟨h.side,h.ew,h.ls,h.el,h.rs.rest m b,λhl y d=>by
  obtain⟨z,f,e⟩:=Az d;rw[<-e];exact h.ra (λe0=>hl (by simp only;rw[e0,List.drop_nil])) z f⟩
end
def yp(w0:D)(base sb:Nat)(v0 v:aY)(x:Ak)(a:Option Addr)(n c:Nat)(v3:υ)(W:D):Prop:=∃cs els,jk w0 base sb v0 v x v3 a n c W cs els
def Eo{w0:D}{base sb:Nat}{v0 v:aY}{x:Ak}{v3:υ}{a:Option Addr}{n c:Nat}{p m b:D}{cs:Array υ}{els:List El}(q:jk w0 base sb v0 v x v3 a n c p cs els){l:List Int}{num:Int}{key:List Int}{f:Bool}(r:G p m N)(B:G m b N){g:Nat}(C:m.heap.size<=g)(F:b.heap[g]?=E (ο (bv (dC key (bf f) num l)).toArray 5 (0,0)))(H:∀y∈l,W8 y)(hl:els.length<=1000):
 ∃h i k d,(Builtin.append_ #[206,206] 206 #[v3,Y (E ⟨b.heap.size,0,N⟩) 1 1]).run prog (b.alloc (ο #[Y (E ⟨g,0,N⟩) (l.length+16) (l.length+16)] 112))=.ok (Y h i k) d/\yp w0 base sb v0 v {x with l:=x.l++[dC key (bf f) num l]} a n c (Y h i k) d/\(b.alloc (ο #[Y (E ⟨g,0,N⟩) (l.length+16) (l.length+16)] 112)).grownBy d v3.ownBlock:=by
 have K:(b.alloc (ο #[Y (E ⟨g,0,N⟩) (l.length+16) (l.length+16)] 112)).heap[b.heap.size]?=E (ο #[Y (E ⟨g,0,N⟩) (l.length+16) (l.length+16)] 112 (0,0)):=aM _ _;have s:G b (b.alloc (ο #[Y (E ⟨g,0,N⟩) (l.length+16) (l.length+16)] 112)) N:=aC _ _ _;generalize b.alloc (ο #[Y (E ⟨g,0,N⟩) (l.length+16) (l.length+16)] 112)=L at *;have t:=aq r (aq B s);have z:=q.gb t;obtain⟨h,i,k,d,M,o,A,P⟩:=Af (w:=L) 206 w0.heap.size v3 els z.ls.own ⟨b.heap.size,0,N⟩ 1 [(g,dC key (bf f) num l)] (λj u T=>by
  have R:j=0:=by grind
  subst R;have S:u=lr (g,dC key (bf f) num l):=by simp_all
  subst S;rw[Addr.add_mid];unfold lr;simp only[mu]
  simp[κ,K]) (by grind) z.ew.aA.size
 exact⟨h,i,k,d,M,⟨_,_,q.app (e:=(g,dC key (bf f) num l)) t (bG r.size C) (bp F s) (Aw H) o A P⟩,A⟩
structure yq(s0:Sd)(x:Ak):Prop where
 az:x.s.az=s0.az
 key:x.s.key=s0.key
 ue:x.rest≠[]->gP x.rest
 rl:x.rest.length<=8
 aQ:0<=x.s.count/\x.s.count+x.rest.length<=4611686018427387000
 ll:x.l.length+x.rest.length<=8
def MH(l:List Rg)(a:Int)(m:Nat):kO l a m<=m:=by
 induction m with
 |zero=>exact aP _
 |succ m b=>unfold kO;split<;>omega
def MI(w:D)(base sb:Nat)(v:aY)(r:Ak)(e:Ending)(b:D):Prop:=
 ∃a n c f d els,e=ξ (Y a n c)/\bF b base sb f d r.s/\dz w.heap.size w b sb v d/\gG b w.heap.size sb d els (Y a n c)/\els.map (·.2)=r.l
def MJ{w:D}{a:Option Addr}{n c:Nat}{l:List Rg}(h:bq w a n c l)(b:gP l)(hl:l.length<=8):cD w (cB l) (Y a n c)/\cT (cB l)/\fh [cB l]<=30000000:=by
 have d:=h.2.1;subst d;refine⟨⟨⟨by simp[ie,cB],by simp[ie,cB],by simp[aZ,cB],by simp[aZ,cB],h.1⟩,by simp[cB,ByteArray.size],a,c,Q,h⟩,⟨⟨by simp[cB],by simp[cB],by simp[cB],by simp[cB]⟩,⟨λ_=>b,λe=>by simp[cB]at e⟩,by simp[cB],by simp[cB]⟩,?_⟩
 simp[fh,kX,cB,ByteArray.size];omega
def MK(w:D)(base sb:Nat)(cs:Array υ)(v:aY)(s:Sd)(H:bF w base sb cs v s)(et:cI s.key)(ff:56<=s.az/\s.az<=1000)(fi:0<=s.count/\s.count<=4611686018427386000)(ev:s.af.length<=8)(al:bk s.af)(hm:∀r∈s.af,0<=r.lo/\r.hi<=4611686018427387904):
 Calls prog 158 #[π (E ⟨sb,0,N⟩)] w (MI w base sb v s.gZ):=by
 obtain⟨r,d⟩:=í s.gZ;rw[<-d];refine fL λR hR=>?_
 replace hR:=J hR;have d98:=(ba H.aG _).trans H.lQ;unfold Sd.gZ at d;cases ho:s.eY
 .rw[ho]at d98 d;simp only[iV,iJ]at d;have bA:Hid (R (ξ (Y N 0 0)) w):=J (by
   rw[Z hR,d];exact⟨N,0,0,cs,v,[],Q,H,dz.rfl' _ _ _ _,gG.nil _ _ _ _,Q⟩)
  replace H:=J H;go_enter func158,ntmps158;go_wp2_with fail;exact Z bA
 rw[ho]at d98 d;simp only[fw]at d;have f98:χ w ⟨sb,98,N⟩=θ:=by simp[χ,H.aG]
 obtain⟨W1,ao⟩:=í (ζ w ⟨sb,98,N⟩ (β θ));have g1:G w W1 (E sb):=by rw[ao];exact aD (au _ _) _ _ (ψ Q)
 have bM:W1.heap[sb]?=E (ο (cs.setIfInBounds 98 (β θ)) 241 (0,0)):=by rw[ao];exact heap_set H.aG _
 have ez:(98:Nat)<cs.size:=by rw[H.sz];omega
 have H1:eH w.heap.size w base sb v {s with af:=s.af,floor:=s.floor,eY:=θ} W1:=H.CM (v.set 8) s.af s.floor θ bM Γ (λi hi=>bH) (by rw[bH];exact H.py) (by rw[bH];exact H.pY) (cU ez) ((aj.of g1).mono (λk _ e=>(aR e).symm)) (qD H.pB ((aj.of g1).mono (λk _ e=>(aR e).symm)) (λy n c e=>⟨λh=>(H.bB.cq 8 O y n c e).1 (φ h),(H.bB.cq 8 O y n c e).2⟩)) (φ Q);obtain⟨dc,t,M,de⟩:=H1;have eK:=H.bB.jy;obtain⟨ca,cn,cc,b3,ax⟩:=M.pB;have d96:=(ba M.aG _).trans M.py;rw[b3]at d96;have b4:∀r∈s.af,1<=r.hi:=λr d=>by have:=al.2 r d;have:=hm r d;omega
 have dg:=J (K0 W1 sb 96 ca cn cc s.af d96 ax b4 (by have fo:cn=s.af.length:=ax.2.1;omega));have dk:Hid (yq s ⟨{s with eY:=θ},ir s.af s.af.length,[]⟩):=J ⟨rfl,rfl,λA=>Em _ al (by
  obtain h|h:=Nat.eq_zero_or_pos s.af.length
  exact absurd (oV (by rw[ng];exact h)) A
  .exact h) hm,by simp only[ng];exact ev,by simp only[ng];omega,by simp only[ng,eJ];omega⟩
 replace⟨al,hm,b4,d,H,M,bM,ax,b3⟩:=rC al hm b4 d H M bM ax b3;go_enter func158,ntmps158;go_upto_region 4 with fail;rw[<-ao];clear ao d98 f98;go_wp2_with fail;apply(Z dg).mono;rintro e w2⟨rv,rfl,a0,g2⟩;obtain⟨ra,rc,rfl⟩:∃ra rc,rv=Y ra (ir s.af s.af.length).length rc:=by
  obtain⟨-,-,⟨rfl,e2⟩|⟨g,fy,fA,rfl,_⟩⟩:=id a0;exact⟨N,0,by rw[e2]⟩
  exact⟨_,_,Q⟩
 have dm:Hid (jk w base sb v t ⟨{s with eY:=θ},ir s.af s.af.length,[]⟩ (Y N 0 0) ra (ir s.af s.af.length).length rc w2 dc []):=J ⟨(Z M).ag g2,de.trans (dz.ag g2),gG.nil _ _ _ _,rfl,a0.iL.1,λ_ y ey=>⟨by have:=a0.iL.2 y ey;have:=de.aA.size;omega,nofun⟩⟩;clear dg a0 g2;have a1:=ng s.af s.af.length;obtain⟨rl,b5⟩:=í (ir s.af s.af.length);rw[<-b5]at dm dk d a1;rw[<-b5];clear b5;replace a1:=J a1;go_upto_region 6 with fail;go_loopg [3,4] rl.length (λg v3 v4 wr=>∃(x:Ak)(m:Nat)(a2:Array υ)(els:List El)(a:Option Addr)(c:Nat),v4=Y a x.rest.length c/\yq s x/\jk w base sb v t x v3 a x.rest.length c wr a2 els/\g=x.rest.length/\x.rest.length+1<=m/\nJ m x=r);case atStart=>exact⟨_,10,dc,[],ra,rc,Q,Z dk,Z dm,Q,by have:=Z a1;simp only;omega,(Z d).symm⟩
 case round=>
  obtain⟨x,m,a2,els,a,c,rfl,f,b,rfl,b6,hl⟩:=hrel;obtain⟨m',eL⟩:∃m',m=m'+1:=⟨m-1,O⟩
  have C:(if x.rest.length=0 then x else nJ m' x.step)=r:=by rw[<-hl,eL];rfl
  obtain⟨P,c3,rfl⟩:=b.ls.slice;by_cases h0:x.rest.length=0
  .rw[aH h0]at C;have bA:Hid (R (ξ (Y P els.length c3)) wr):=J (by rw[Z hR,<-C];exact⟨P,_,c3,a2,t,els,Q,b.side,b.ew,b.ls,b.el⟩);have d0:decide (0<x.rest.length)=θ:=é;clear C hl;replace⟨f,b,h0⟩:=cA f b h0;go_wp2_with fail;exact Z bA
  rw[aE h0]at C;have d0:decide (0<x.rest.length)=ρ:=α;have A:x.rest≠[]:=λe=>h0 (by rw[e];rfl)
  have ga:=f.rl;have b7:x.s.az=s.az:=f.az;have dn:=J (DJ wr sb x.s.az ((ba b.side.aG _).trans b.side.c0) O);have du:=J (λW(g:G wr W N)=>ME W a x.rest.length c x.rest (b.rs.ag g) (f.ue A) O (x.s.az-16) O);have gd:x.rest.length<=c:=b.rs.2.2.1;replace⟨b7,f,b,C,hl,A,b6⟩:=mX b7 f b C hl A b6;go_wp2_with fail;apply(Z dn).mono;rintro e w3⟨rfl,g3⟩;go_wp2_with fail;apply(Z du _ g3).mono;rintro e V⟨⟨q,rfl,hq,gf,a3,b8⟩,g4⟩;have a4:q=x.n:=hq;have gg:∀W,(Instr.slice 133 (Y a x.rest.length c) N (E (I X q)) (E (I X q))).run prog W=.ok (Y a q q) W:=λW=>MF a _ c q O W
  obtain⟨W5,a8⟩:=í (V.alloc (ο #[I X 3,I X 0,I U 0,I U 0,β θ,ς ⟨#[]⟩,Y a q q] 158));have g5:G V W5 N:=by rw[a8];exact aC _ _ _
  have bb:W5.heap[V.heap.size]?=E (ο #[I X 3,I X 0,I U 0,I U 0,β θ,ς ⟨#[]⟩,Y a q q] 158 (0,0)):=by rw[a8];exact aM _ _
  have eS:=aq g3 (aq g4 g5);have ai:=(Z b).gb eS;clear dn du hq eK;replace⟨b8,a4,bb,ai⟩:=fB b8 a4 bb ai;go_upto_region 9 with fail;rw[<-a8];clear a8;have cf:sb<w.heap.size:=(Z H).bB.jy;have dv:V.heap.size≠sb:=by have:=(Z ai).ew.aA.size;have:=(Z b).ew.aA.size;have:=g3.size;have:=g4.size;omega
  obtain⟨F,hF⟩:=í V.heap.size;rw[<-hF]at bb dv;rw[<-hF];have e3:Hid ((Y P els.length c3).ownBlock≠E F):=J (λe=>by have:=((Z b).ls.own.lt F e).2;have:=g3.size;have:=g4.size;omega);clear hF;have k0:∀W:D,W.heap[F]?=E (ο #[I X 3,I X 0,I U 0,I U 0,β θ,ς ⟨#[]⟩,Y a q q] 158 (0,0))->κ W ⟨F,0,N⟩=E (I X 3):=λW h=>(bQ h).1
  have k1:∀W:D,W.heap[F]?=E (ο #[I X 3,I X 0,I U 0,I U 0,β θ,ς ⟨#[]⟩,Y a q q] 158 (0,0))->κ W ⟨F,1,N⟩=E (I X 0):=λW h=>(bQ h).2.1
  have k2:∀W:D,W.heap[F]?=E (ο #[I X 3,I X 0,I U 0,I U 0,β θ,ς ⟨#[]⟩,Y a q q] 158 (0,0))->κ W ⟨F,2,N⟩=E (I U 0):=λW h=>(bQ h).2.2.1
  have k3:∀W:D,W.heap[F]?=E (ο #[I X 3,I X 0,I U 0,I U 0,β θ,ς ⟨#[]⟩,Y a q q] 158 (0,0))->κ W ⟨F,3,N⟩=E (I U 0):=λW h=>(bQ h).2.2.2.1
  have k4:∀W:D,W.heap[F]?=E (ο #[I X 3,I X 0,I U 0,I U 0,β θ,ς ⟨#[]⟩,Y a q q] 158 (0,0))->κ W ⟨F,4,N⟩=E (β θ):=λW h=>(bQ h).2.2.2.2.1
  have k5:∀W:D,W.heap[F]?=E (ο #[I X 3,I X 0,I U 0,I U 0,β θ,ς ⟨#[]⟩,Y a q q] 158 (0,0))->κ W ⟨F,5,N⟩=E (ς ⟨#[]⟩):=λW h=>(bQ h).2.2.2.2.2.1
  have k6:∀W:D,W.heap[F]?=E (ο #[I X 3,I X 0,I U 0,I U 0,β θ,ς ⟨#[]⟩,Y a q q] 158 (0,0))->κ W ⟨F,6,N⟩=E (Y a q q):=λW h=>(bQ h).2.2.2.2.2.2
  have dx:=(Z f).aQ;have ea:=J (En W5.drew base sb a2 t x.s ((Z ai).side.ag (aK (au _ N))) O);have eb:=J (λj K(S6:bF j base sb K t {x.s with count:=x.s.count+1})(g:W5.drew.grownBy j (E sb))=>((Z ai).gb (aK (au _ N))).num cf S6 g);have bj:=J (λj K(p:jk w base sb v t ⟨{x.s with count:=x.s.count+1},x.rest,x.l⟩ (Y P els.length c3) a x.rest.length c j K els)=>by
   have ch:=MJ (p.rs.MG q a3) (Ay ((Z f).ue (Z A)) q O a3) (by rw[dK];have:=(Z f).rl;omega);exact Ag j (cB (x.rest.take q)) (Y a q q) ch.1 ch.2.1 ch.2.2)
  have br:cI x.s.key:=by rw[(Z f).key];exact et
  have cm:els.length<=1000:=by
   have h1:els.length=x.l.length:=by have:=fR List.length (Z b).el;rw[fF]at this;exact this
   have:=(Z f).ll;omega
  have e4:(bE [cB (x.rest.take q)]).length<=1000:=by
   have e:bE [cB (x.rest.take q)]=2::fS (x.rest.take q):=by simp[bE,cH,cB]
   rw[e,dY];have:=Z b7;have:=Z b8;omega
  have cp:=J (λj z K(p:jk w base sb v t ⟨{x.s with count:=x.s.count+1},x.rest,x.l⟩ (Y P els.length c3) a x.rest.length c j K els)(u:G j z N)(a7:Option Addr)(n7 c7:Nat)(S:aS z j.heap.size (Y a7 n7 c7) (bE [cB (x.rest.take q)]))=>Av z sb x.s.key x.s.first br ((p.side.ag u).rH br) ((ba (p.side.ag u).aG _).trans (p.side.ag u).fI) x.s.count (by unfold aZ;omega) a7 n7 c7 _ S.eV O);have ct:=J (λj z w8 K(p:jk w base sb v t ⟨{x.s with count:=x.s.count+1},x.rest,x.l⟩ (Y P els.length c3) a x.rest.length c j K els)(u:G j z N)(g8:G z w8 N)(g:Nat)(hg:z.heap.size<=g)(bt:w8.heap[g]?=E (ο (bv (dC x.s.key (bf x.s.first) x.s.count (bE [cB (x.rest.take q)]))).toArray 5 (0,0)))(hw:∀y∈bE [cB (x.rest.take q)],W8 y)=>Eo p u g8 hg bt hw cm);obtain⟨B,hB⟩:=í (bE [cB (x.rest.take q)]);rw[<-hB]at bj cp ct e4;have ec:bC (cB (x.rest.take q)) (Y a q q)= #[I X 3,I X 0,I U 0,I U 0,β θ,ς ⟨#[]⟩,Y a q q]:=rfl;rw[ec]at bj;clear ec;obtain⟨bw,hZ⟩:∃bw:υ->D->Prop,bw=λbx W=>∃a' n' c',bx=Y a' n' c'/\yp w base sb v t ⟨{x.s with count:=x.s.count+1},x.rest,x.l++[dC x.s.key (bf x.s.first) x.s.count B]⟩ a x.rest.length c bx W:=⟨_,rfl⟩
  replace⟨hZ,hB,cf,dx,br,cm⟩:=mY hZ hB cf dx br cm;have bz:W5.drew.heap[F]?=E (ο #[I X 3,I X 0,I U 0,I U 0,β θ,ς ⟨#[]⟩,Y a q q] 158 (0,0)):=Z bb;go_cut [3] (λbx wx=>bw bx wx);case first=>
   go_region_held3 (λw'=>w'.heap[F]?=E (ο #[I X 3,I X 0,I U 0,I U 0,β θ,ς ⟨#[]⟩,Y a q q] 158 (0,0)))
    (with_reducible first|exact e5|exact cv|exact ed|exact ee|exact ei|exact bz)
    (first
      |(go_at_call 205;apply(Z ea).mono;rintro e j⟨rfl,g6,S6⟩;have p:=J (Z eb _ _ S6 g6);have ei:=(g6.block F (aV.1 bz).1 (λe=>dv (aR e))).trans bz;clear S6)
      |(go_at_call 206;apply(Z bj _ _ (Z p)).mono;rintro e z⟨⟨a7,n7,c7,rfl,S⟩,u⟩;have ee:=bp ei u;have cw:=S.1;replace S:=J S;replace cw:=J cw)
      |(go_at_call 204;apply(Z cp _ _ _ (Z p) u _ _ _ (Z S)).mono;rintro e w8⟨g,rfl,hg,bt,g8⟩;have ed:=bp ee g8;obtain⟨a9,n9,c9,w9,cx,ej,g9⟩:=Z ct _ _ _ _ (Z p) u g8 g hg bt (Z cw);have cv:=bp ed (aC w8 (ο #[Y (E ⟨g,0,N⟩) (B.length+16) (B.length+16)] 112) N);have e5:=(g9.block F (aV.1 cv).1 (λe=>Z e3 e.symm)).trans cv;have e6:Hid (bw (Y a9 n9 c9) w9):=J (by rw[Z hZ];exact⟨a9,n9,c9,Q,ej⟩);clear bt hg ej;replace cx:=J cx)
      |(refine Ae Ξ 206 206 Ξ _ _ Ξ _ _ _ Ξ Ξ (Z cx) ?_))
   all_goals go_wp2_with fail
   all_goals go_meet
   all_goals exact Z e6
  case rest=>
   rw[Z hZ]at hcut;obtain⟨a9,n9,c9,rfl,e7,e8,ek⟩:=hcut;have e9:∀W,(Instr.slice 133 (Y a x.rest.length c) (E (I X q)) N N).run prog W=.ok (Y (if c=q then a else a.map (·.add (q*2))) (x.rest.length-q) (c-q)) W:=λW=>Ei a _ c q a3 W
   have cy:=ek.cut q a3;have fa:Hid (yq s x.step):=J (by
    have ak:=Z f;have gh:=ak.aQ;have gi:=ak.ll;have T:=Z a4;refine⟨ak.az,ak.key,λh=>?_,?_,?_,?_⟩
    unfold Ak.step at h⊢;simp only at h⊢;rw[<-T]at h⊢;exact Ej (ak.ue (Z A)) q (by
     obtain h1|h1:=Nat.lt_or_ge q x.rest.length
     exact h1
     .exact absurd (wJ h1) h)
    unfold Ak.step;simp only[fD,<-T];omega;unfold Ak.step;simp only[fD,<-T];omega
    .unfold Ak.step;simp only[fD,<-T,bS,dY,eJ];omega)
   obtain⟨eo,da⟩:=í ((if c=q then a else a.map (·.add (q*2))));rw[<-da]at e9 cy;have hrel:Hid (∃(L:Ak)(m2:Nat)(fb:Array υ)(fc:List El)(a':Option Addr)(c':Nat),(Y eo (x.rest.length-q) (c-q))=Y a' L.rest.length c'/\yq s L/\jk w base sb v t L (Y a9 n9 c9) a' L.rest.length c' wc fb fc/\x.rest.length-q=L.rest.length/\L.rest.length+1<=m2/\nJ m2 L=r):=J (by
    have T:=Z a4;have er:x.step=⟨{x.s with count:=x.s.count+1},x.rest.drop q,x.l++[dC x.s.key (bf x.s.first) x.s.count B]⟩:=by
     unfold Ak.step;rw[<-T,Z hB]
    have db:x.step.rest.length=x.rest.length-q:=by rw[er];simp
    refine⟨x.step,m',e7,e8,eo,c-q,by rw[db],Z fa,?_,db.symm,?_,Z C⟩
    rw[db,er];exact cy
    .have:=Z b6;omega)
   clear ek cy ea eb bj cp ct k0 k1 k2 k3 k4 k5 k6 bz;replace da:=J da;go_wp2;go_roundg (x.rest.length-q);case measure=>omega
   case rel=>exact Z hrel
def Fw(o:Ot)(p:Pc):o.lu p={o with ay:=(o.lu p).ay}:=by unfold Ot.lu;split<;>rfl
def Fx(k:Nat)(a:Int):∀(m:Nat)(x:Ld),(ka k a m x).o={x.o with ay:=(ka k a m x).o.ay}:=by
 intro m;induction m with
 |zero=>exact λx=>rfl
 |succ m b=>
  intro x;unfold ka;split;have c:=b (x.step k (x.o.next x.d (a-x.fr.length)).1);rw[c];have e:=Fw x.o (x.o.next x.d (a-x.fr.length)).1;show({(x.o.lu _)with ay:=_}:Ot)=_;rw[e];rfl
def OV(o:Ot)(ps:List Pc)(m:Nat)(h:m<=ps.length):ks o (qa o ps m):=by
 induction m with
 |zero=>exact⟨vr _ _,λm a=>by have:=(ry _ _ m).1 a;exact this.1⟩
 |succ m b=>
  rw[xY o ps m O];exact(b O).leave _
def OW(s:Sd)(lf:List Kt)(k:Nat)(h:s.aO=lf.map (·.1)):ks (s.out k) (s.due k):=by
 rw[Ad s lf k h];exact OV _ _ _ (aP _)
def OX(l:List Kt)(k:Int)(h:∀x∈l,x.1.ps.length<=1000):(eB l k).length<=l.length*1000:=by
 induction l with
 |nil=>simp[eB]
 |cons x l a=>
  have e:eB (x::l) k=(if x.1.st=k then x.1.ps else[])++eB l k:=rfl;grind
structure vS(s:Sd)(k:Nat)(a:Sd):Prop where
 eq:a={s with out:=aB s.out k {s.out k with ay:=(a.out k).ay},aO:=a.aO,count:=a.count}
 ay:0<=(a.out k).ay/\(a.out k).ay<=4096
 fl:a.aO.length<=10
 fp:∀x∈a.aO,x.ps.length<=1000
 aQ:s.count<=a.count/\a.count<=s.count+10
structure Fy(o:Ot):Prop where
 nice:o.h.nice
 en:o.en<=4096
 ay:0<=o.ay/\o.ay<=4096
 code:0<=o.code/\o.code<=4611686018427387903
 cl:o.h.af.length<=5000
def OY{s:Sd}(j:k<4)(n:16<=s.az/\s.az<=1000)(p:0<=(s.out k).h.fr)(q:(s.out k).en<=4096):∀(m:Nat)(x:Pz),oI s k x->vS s k x.s->x.s.count<=s.count+x.s.aO.length->vS s k (mz k m x).s/\(mz k m x).l.length<=10:=by
 intro m;induction m with
 |zero=>exact λx i v C=>⟨v,by have:=i.lf;have:=i.fl;unfold mz;omega⟩
 |succ m w=>
  intro x g a F;have H:=g.lf;have z:=g.fl;have L:=g.ld j n p q;have A:=Fx k (x.s.az-16) ((x.s.az-16).toNat+1) ⟨x.s.out k,x.d,[],[]⟩;have K:(x.load k).o={x.s.out k with ay:=(x.load k).o.ay}:=A;have M:x.s.out k={s.out k with ay:=(x.s.out k).ay}:=by
   have:=fR (λt=>t.out k) a.eq;simpa only[bN]using this
  have B:(x.load k).o={s.out k with ay:=(x.load k).o.ay}:=by
   grind
  have r:aB x.s.out k (x.load k).o=aB s.out k {s.out k with ay:=(x.load k).o.ay}:=by
   have e:x.s.out=aB s.out k {s.out k with ay:=(x.s.out k).ay}:=fR (·.out) a.eq;rw[e,xZ,<-B]
  have u:∀(o:Nat->Ot)(f:List Pk)(c:Int),({x.s with out:=o,aO:=f,count:=c}:Sd)={s with out:=o,aO:=f,count:=c}:=λo f c=>by rw[a.eq]
  unfold mz;split;exact⟨a,O⟩
  split;refine⟨⟨?_,?_,z,a.fp,a.aQ⟩,by show x.l.length<=10;omega⟩
  show({x.s with out:=aB x.s.out k (x.load k).o}:Sd)=_;have:=u (aB x.s.out k (x.load k).o) x.s.aO x.s.count;rw[show({x.s with out:=aB x.s.out k (x.load k).o}:Sd)={x.s with out:=aB x.s.out k (x.load k).o,aO:=x.s.aO,count:=x.s.count}from rfl,this,r];simp only[Pz.stay,bN]
  show 0<=(aB x.s.out k (x.load k).o k).ay/\(aB x.s.out k (x.load k).o k).ay<=4096;rw[bN];exact L.ay;rename_i P h0;refine w _ (g.kx j n p q O) ⟨?_,?_,?_,?_,?_⟩ ?_;have:=u (aB x.s.out k (x.load k).o) (x.s.aO++[⟨x.s.count,x.s.tick,k,(x.load k).ps⟩]) (x.s.count+1);show({x.s with out:=aB x.s.out k (x.load k).o,aO:=x.s.aO++[⟨x.s.count,x.s.tick,k,(x.load k).ps⟩],count:=x.s.count+1}:Sd)=_;rw[this,r];simp only[Pz.kx,bN]
  show 0<=(aB x.s.out k (x.load k).o k).ay/\(aB x.s.out k (x.load k).o k).ay<=4096;rw[bN];exact L.ay;unfold Pz.kx;simp only[bS,dY,eJ];omega;intro y b;unfold Pz.kx at b;simp only at b;obtain b|b:=b9.1 b
  exact a.fp y b;rw[eE.1 b];have:=L.pl;have:=L.fl;have:=g.az;simp only;omega;have i:=a.aQ;unfold Pz.kx;simp only
  have:(x.s.aO.length:Int)<=9:=O;omega;unfold Pz.kx;simp only[bS,dY,eJ];omega
end
