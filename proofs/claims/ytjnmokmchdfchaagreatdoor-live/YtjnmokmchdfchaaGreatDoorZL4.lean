import Derived.Test.YtjnmokmchdfchaaGreatDoorZL2
import Derived.Test.YtjnmokmchdfchaaGreatDoorZL3
set_option maxRecDepth 1000000
set_option maxHeartbeats 0
set_option linter.all false
namespace Go.Proofs.YtjnmokmchdfchaaGreatDoor
open Go.RowKit Tryz
open Go.Value renaming int→ι,slice→σ,bool→β,pointer→π,agg→ε,string→ς,tuple→τ
open Go.IntKind renaming i64→δ,u64→η,u8→Δ
open Go.Ending renaming returned→ξ
open Go.Obj renaming cells→ο
open Or renaming inl→φ,inr→ψ
open Option renaming some→μ,none→ν
open Bool renaming true→ρ,false→θ
open Go renaming World→ω,Value→υ
open Go.World renaming grownBy→γ,cell?→κ,frozen?→χ,setCell→ζ
attribute[local go_sem↓]Go.wp_at_zero Go.wp_at_succ
variable{A:Addr}{C c:Array υ}{E:It}{K L:List Int}{b i j k l m n o:Nat}{P S:Nat->Prop}{O a:Option Addr}{T:TypeId}{x y z:υ}{V W v w:ω}
def ay.cell(h:ay w W S)(a:κ w A=μ x)(b:¬S A.block):κ W A=μ x:=
 (mn (w:=w) (h.block _ (eZ w _ a) b)).trans a
def kg(h:κ w A=μ x)(a:A.block≠n):∀W,γ w W (μ n)->κ W A=μ x:=λ_ k=>k.cell h (λe=>a (aQ e))
def qa(h:w.heap[b]?=μ (ο #[x,y] T (0,0))):(κ w ⟨b,0,ν⟩=μ x/\κ w ⟨b,1,ν⟩=μ y)/\χ w ⟨b,0,ν⟩=θ/\χ w ⟨b,1,ν⟩=θ:=by
 simp[World.cell?,World.frozen?,h]
def zy{ob:Obj}(g:(w.alloc ob).drew.grownBy v ν):v.heap[w.heap.size]?=μ ob:=bE (W:=(w.alloc ob).drew) (aO w ob) g
structure jA(w:ω)(sb a c:Nat)(cs:Array υ)(t:TypeId)(vb:υ)(b:List Int)(v:υ)(W:ω):Prop where
 aV:W.heap[sb]?=μ (ο (cs.setIfInBounds (a+1) v) t (0,0))
 own:bn W c v b
 aA:ay w W (λk=>k=sb\/vb.ownBlock=μ k)
 new:v.ownBlock=vb.ownBlock\/∀k,v.ownBlock=μ k->w.heap.size<=k
def ay.grow(h:ay w W S)(g:γ W v ν):ay w v S:=(h.trans (ay.of g)).mono (λk _ h=>h.elim id (λe=>by cases e))
def jA.gb(h:jA w n k i c T x L y W)(g:γ W V ν):jA w n k i c T x L y V:=
 ⟨bE h.aV g,h.own.au g,h.aA.grow g,h.new⟩
def jA.trans(h:jA w n j l c T x L y W)(k:jA W n j l (c.setIfInBounds (j+1) y) T y K z V):jA w n j l c T x K z V:=by
 refine⟨?_,k.own,(h.aA.trans k.aA).mono (λi hi a=>?_),?_⟩
 rw[k.aV];simp;obtain a|a|a:=a
 exact a;exact φ a;obtain e|e:=h.new
 exact ψ (e▸a);have:=e i a;omega;obtain e|e:=k.new
 rw[e];exact h.new;exact ψ (λi hi=>bK h.aA.size (e i hi))
def jA.hd{ac:Option Addr}{cc:Nat}{h:Hd}(f:w.heap[k]?=μ (ο C T (0,0)))(H:gZ w k i O l m ac o cc h)(b:∀y,ac=μ y->y.block≠k/\(Value.slice O l m).ownBlock≠μ y.block){c:Nat}(p:jA w k i j C T (σ O l m) L (σ a n c) W)(hl:h.fr+L.length<=4611686018427387903/\L.length<=1000000):gZ W k i a n c ac o cc ⟨h.fr,L,h.af⟩:=by
 obtain⟨c0,c1,c2,-,d,g,-,q,-,k4⟩:=H;rw[aZ f]at c0 c1 c2;have r:i+1<C.size:=(bg.1 c1).1;refine⟨?_,?_,?_,p.own.iy,d.cM (λs y t=>?_),g,hl.1,q,hl.2,k4⟩
 rw[aZ p.aV];simpa [lz]using c0;rw[aZ p.aV];simp[lz,r];rw[aZ p.aV];simpa [lz]using c2;subst t;exact p.aA.block _ (d.lt s) (λe=>e.elim (b y rfl).1 (b y rfl).2)
def jA.apart(h:jA w n k i c T x L y W)(b:n<w.heap.size)(a:x.ownBlock≠μ n):y.ownBlock≠μ n:=by
 obtain e|e:=h.new
 rw[e];exact a;intro e2;have:=e _ e2;omega
def jA.app{b:ω}(h:jA w n i j c T x L y W)(g:γ W V ν)(r:bn b j z K)(l:γ V b y.ownBlock)(m:z.ownBlock=y.ownBlock\/z.ownBlock=μ V.heap.size)(p:n<w.heap.size)(s:x.ownBlock≠μ n):jA w n i j c T x K z (ζ b ⟨n,i+1,ν⟩ z):=by
 have d:=h.gb g;have q:=h.apart p s;have t:n<V.heap.size:=cu p d.aA.size;have u:b.heap[n]?=μ (ο (c.setIfInBounds (i+1) y) T (0,0)):=(l.block n t (λe=>q e.symm)).trans d.aV;have v:z.ownBlock≠μ n:=by
  obtain e|e:=m
  rw[e];exact q;rw[e];intro e2;have:=aQ e2;omega
 refine⟨by rw[heap_set u];simp,r.gb (aM (aD b (μ n)) _ _ (ψ rfl)) (ψ v),?_,?_⟩
 refine((d.aA.trans (ay.of l)).trans (ay.of (aM (aD b (μ n)) ⟨n,i+1,ν⟩ z (ψ rfl)))).mono (λk f a=>?_);obtain(a|a)|a:=a
 exact a;obtain e|e:=h.new
 exact ψ (e▸a);have:=e k a;omega;exact φ (aQ a).symm;obtain e|e:=m
 rw[e];exact h.new;exact ψ (λk f=>by rw[e]at f;have:=aQ f;have:=d.aA.size;omega)
def uP(h:c[i]?=μ x):c.setIfInBounds i x=c:=by
 apply Array.ext_getElem?;intro j;rw[lz];split;rename_i e;subst e;rw[h,aG (bg.1 h).1];rfl
def Iw(b:List Int)(i:Nat):b++List.replicate i (0:Int)++[0]=b++List.replicate (i+1) 0:=by rw[fm,<-List.replicate_succ']
def Ix(w:ω)(sb d D:Nat)(cs:Array υ)(t:TypeId)(ab:Option Addr)(nb cb:Nat)(ac:Option Addr)(nc cc:Nat)(h:Hd)(dE:w.heap[sb]?=μ (ο cs t (0,0)))(H:gZ w sb d ab nb cb ac nc cc h)(ho:bn w D (σ ab nb cb) h.bytes)(gW:D<=w.heap.size)(dG:(Value.slice ab nb cb).ownBlock≠μ sb)(b7:∀y,ac=μ y->y.block≠sb/\(Value.slice ab nb cb).ownBlock≠μ y.block)
 (f:Fr) (rv:υ) (hf:0<=f.offset) (hs:aT f<=4611686018427387903) (ea:∀m,f.offset<=m->m<aT f->¬Sm h.af m->h.fr<=m/\m<h.fr+900000):
 Calls prog 258 #[π (μ ⟨sb,d,ν⟩),ε (bU f rv)] w λr p=>r=ξ (τ #[])/\∃a n c L n2 c2,p.heap[sb]?=μ (ο ((cs.setIfInBounds (d+1) (σ a n c)).setIfInBounds (d+2) (σ L n2 c2)) t (0,0))/\bn p D (σ a n c) (hb h.fr f.offset (aI f.data) (iA h.af ⟨f.offset,aT f⟩) h.bytes)/\bq p L n2 c2 (cD h.af ⟨f.offset,aT f⟩)/\ay w p (λk=>k=sb\/(Value.slice ab nb cb).ownBlock=μ k)/\((Value.slice a n c).ownBlock=(Value.slice ab nb cb).ownBlock\/∀k,(Value.slice a n c).ownBlock=μ k->w.heap.size<=k)/\((L=ac/\n2=nc/\c2=cc)\/∀y,L=μ y->w.heap.size<=y.block/\y.block<p.heap.size/\(Value.slice a n c).ownBlock≠μ y.block):=by
 have hE:=J (λW=>zo W f rv hf (by omega));have g0:sb<w.heap.size:=(bg.1 dE).1;have b8:(⟨f.offset,aT f⟩:Rg).ok:=by
  have:0<=aT f:=by unfold aT;omega
  have:f.offset<=aT f:=by unfold aT;omega
  constructor<;>simp only[aW]<;>omega
 obtain⟨en,a3⟩:=exq (aT f);rw[<-a3]at hE ea hs b8⊢;have hM:=J (λW(g:γ w W ν)=>Cd W sb d ab nb cb ac nc cc h (H.au g) ⟨f.offset,en⟩ b8);have ee:Hid (en=f.offset+(aI f.data).length):=J (by rw[fN];exact a3);replace a3:=J a3;obtain⟨kind,stream,offset,code,fin,data,ranges⟩:=f;unfold bU at *;simp only at *;obtain⟨F,a0⟩:=exq (w.alloc (ο #[ι δ kind,ι δ stream,ι η offset,ι η code,β fin,ς data,rv] 158));have g1:γ w F ν:=by rw[a0];exact aJ _ _ _
 have a4:F.heap[w.heap.size]?=μ (ο #[ι δ kind,ι δ stream,ι η offset,ι η code,β fin,ς data,rv] 158 (0,0)):=by rw[a0];exact aO _ _
 obtain⟨q0,q1,q2,q3,q4,q5,q6⟩:=dI a4;have a8:F.heap.size=w.heap.size+1:=by rw[a0];simp
 replace q0:=kc q0;replace q1:=kc q1;replace q2:=kc q2;replace q3:=kc q3;replace q4:=kc q4;replace q5:=kc q5;replace q6:=kc q6;have gr:γ F F.drew ν:=aY (aD _ _);replace⟨a4,a8⟩:=bD a4 a8;go_enter func258,ntmps258;go_upto_region 1 with fail;rw[<-a0];clear a0;go_cut [4] (λv wx=>∃B:Nat,v=π (μ ⟨B,0,ν⟩)/\F.heap.size<=B/\wx.heap[B]?=μ (ο #[ι η offset,ι η en] 341 (0,0))/\γ F wx ν);case first=>
  go_region_held3 (λp=>γ F p ν)
   (with_reducible first|exact V|exact gr|exact aY (bk (aD _ _) _)|exact bk gr _|exact bk V _|exact aM (aM V _ _ (φ (aP _))) _ _ (φ (aP _)))
   (first
     |(go_at_call 247;apply(Z hE F.drew).mono;rintro e w5⟨rfl,g5⟩;have V:γ F w5 ν:=aq gr g5;have g2:=g5.size)
     |(go_at_call 247;apply(Z hE (F.alloc (ο #[ι η 0,ι η 0] 341)).drew).mono;rintro e w5⟨rfl,g5⟩;have V:γ F w5 ν:=aq (aY (bk (aD _ _) _)) g5;have bb:=zy g5;obtain⟨⟨k0,k1⟩,z0,z1⟩:=qa bb;replace bb:=J bb))
  ·go_wp2_with fail;go_meet;exact⟨_,rfl,V.size,aO _ _,bk V _⟩
  go_wp2_with fail;go_meet;exact⟨_,rfl,aP _,heap_set (heap_set (Z bb) _) _,aM (aM V _ _ (φ (aP _))) _ _ (φ (aP _))⟩
 case rest=>
  obtain⟨B,rfl,hB,bj,gB⟩:=hcut;have ca:=aq g1 gB;have ch:γ wc wc.drew ν:=aY (aD _ _);obtain⟨⟨k0,k1⟩,z0,z1⟩:=qa bj;have ei:Hid (wc.heap[w.heap.size]?=μ (ο #[ι δ kind,ι δ stream,ι η offset,ι η code,β fin,ς data,rv] 158 (0,0))):=J (bE (Z a4) gB);replace k0:=kc k0;replace k1:=kc k1;clear q0 q1 q2 q3 q4 q5 q6 gr hE;replace⟨bj,hB⟩:=bD bj hB;go_upto_region 2 with fail;go_region_held3 (λp=>γ wc p ν)
   (with_reducible first|exact a1|exact ch)
   (first
     |(go_at_call 278;apply(Z hM wc.drew (aq ca ch)).mono;rintro e S⟨⟨a6,N,c6,M,rfl,m1,m2,m3,m4,m5⟩,g6⟩;have a1:γ wc S ν:=aq ch g6;replace m1:=J m1;replace m2:=J m2;replace m3:=J m3;replace m4:=J m4;replace m5:=J m5))
  have e6:Hid (M=iA h.af ⟨offset,en⟩):=J (Cb (Z m2) (Z m5));have E:=aq ca a1;have al:=bE dE E;have H6:=H.au E;have P0:jA S sb d D cs t (σ ab nb cb) (hb h.fr offset (aI data) (M.take 0) h.bytes) (σ ab nb cb) S:=by
   obtain⟨-,c1,-⟩:=H6;rw[aZ al]at c1;exact⟨by rw[uP c1];exact al,ho.au E,ay.rfl' _ _,φ rfl⟩
  have ej:Hid (N=M.length):=J (Z m1).2.1;have g3:=(Z m1).2.2.1;have e8:=(Z m1).2.2.2.1;unfold maxLen at e8;have X:bq S a6 N c6 M:=Z m1;replace⟨P0,H6,al,X⟩:=fE P0 H6 al X;go_wp2;go_loopw [18] (λcv wr=>∃(j:Nat)(v:υ),j<=N/\cv=ι δ j/\jA S sb d D cs t (σ ab nb cb) (hb h.fr offset (aI data) (M.take j) h.bytes) v wr/\h.fr+(hb h.fr offset (aI data) (M.take j) h.bytes).length<=4611686018427387903/\(hb h.fr offset (aI data) (M.take j) h.bytes).length<=1000000) (λcv _=>N-(intOf cv).toNat);case atStart=>exact⟨0,_,by omega,rfl,Z P0,H.2.2.2.2.2.2.1,H.2.2.2.2.2.2.2.2.1⟩
  case round=>
   rename ω=>s
   obtain⟨j,v,hj,rfl,hP,ek,eo⟩:=hrel;obtain⟨b,ax⟩:=exq (hb h.fr offset (aI data) (M.take j) h.bytes);rw[<-ax]at hP ek eo;replace ax:=J ax;by_cases g4:j<N
   ·have d1:decide ((j:Int)<N)=ρ:=dT_;have i1:(j:Int)<N:=by omega
    have br:j<M.length:=by have:=Z ej;omega
    obtain⟨-,-,-,-,h0|⟨b6,o6,rfl,-⟩⟩:=id (Z X);omega;have et:¬(b6=sb\/(Value.slice ab nb cb).ownBlock=μ b6):=by
     have G:=Z m3 ⟨b6,o6,ν⟩ rfl;have h2:w.heap.size<=wc.heap.size:=ca.size;have h3:wc.heap.size=wc.drew.heap.size:=rfl;simp only at G;rintro(u|u);omega;have:=(ho.lt _ u).2;omega
    obtain⟨y0,y1⟩:=(Z X).cell j br;replace y0:=hP.aA.cell y0 et;replace y1:=hP.aA.cell y1 et;have eu:=pF (Z X).1 j;have cj:=(Z m2).pos br;have cp:∀m,(ao M j).lo<=m->m<(ao M j).hi->(offset<=m/\m<en)/\h.fr<=m/\m<h.fr+900000:=λm X e9=>by
     have G:=(Z m5 m).1 ⟨_,kh br,X,e9⟩;exact⟨G.1,ea m G.1.1 G.1.2 G.2⟩
    have x1:=cp (ao M j).lo (cE _) cj;have x2:=cp ((ao M j).hi-1) (by omega) (by omega);have a2:Hid (hb h.fr offset (aI data) (M.take (j+1)) h.bytes=mE h.fr offset (aI data) b (ao M j)):=J (by rw[H7 _ _ _ _ _ _ br,Z ax]);obtain⟨x,hx⟩:=exq (ao M j);rw[<-hx]at y0 y1 eu cj x1 x2 a2;clear hx cp ax;obtain⟨q,l⟩:=x;simp only at y0 y1 cj x1 x2 eu;have gX:=aJ s (ο #[ι η q,ι η l] 341) ν;have O:=hP.gb gX;have hX:(s.alloc (ο #[ι η q,ι η l] 341)).heap[s.heap.size]?=μ (ο #[ι η q,ι η l] 341 (0,0)):=aO _ _;obtain⟨WX,bt⟩:=exq (s.alloc (ο #[ι η q,ι η l] 341));rw[<-bt]at gX O hX;obtain⟨ob,z,oc,rfl⟩:∃a n c,v=σ a n c:=by
     obtain⟨a,c,e,-⟩:=O.own.bs;exact⟨_,_,_,e⟩
    have cw:(Value.slice ob z oc).ownBlock≠μ sb:=by
     obtain e|e:=O.new
     rw[e];exact dG;intro e2;have:=e _ e2;have:w.heap.size<=S.heap.size:=E.size;omega
    have ew:(Value.slice ob z oc).ownBlock≠μ s.heap.size:=λe=>by have:=(hP.own.lt _ e).2;omega
    have P1:jA WX sb d D (cs.setIfInBounds (d+1) (σ ob z oc)) t (σ ob z oc) (b++List.replicate 0 0) (σ ob z oc) WX:=⟨by rw[O.aV];simp,by simpa using O.own,ay.rfl' _ _,φ rfl⟩
    replace⟨P1,O,hP,hX⟩:=fE P1 O hP hX;have Y:Hid (s.heap.size<WX.heap.size):=J (by rw[bt];simp);have fa:Hid (∀y,ac=μ y->y.block≠sb/\(Value.slice ab nb cb).ownBlock≠μ y.block):=J b7;have fb:Hid (∀(W:ω)(i:Nat)(a:Option Addr)(n c:Nat),jA WX sb d D (cs.setIfInBounds (d+1) (σ ob z oc)) t (σ ob z oc) (b++List.replicate i 0) (σ a n c) W->i<=(l-h.fr).toNat-b.length->gZ W sb d a n c ac nc cc ⟨h.fr,b++List.replicate i 0,h.af⟩):=J (λW i a n c hp hi=>((Z O).trans hp).hd (Z al) (Z H6) (Z fa) (by rw[bF,wC];omega));go_wp2_with fail;rw[<-bt];clear bt;go_loopg [] ((l-h.fr).toNat-b.length) (λgh wz=>∃(i:Nat)(v:υ),gh=(l-h.fr).toNat-b.length-i/\i<=(l-h.fr).toNat-b.length/\jA WX sb d D (cs.setIfInBounds (d+1) (σ ob z oc)) t (σ ob z oc) (b++List.replicate i 0) v wz);case atStart=>exact⟨0,_,by omega,by omega,Z P1⟩
    case round=>
     obtain⟨i,v,ha,hi,A⟩:=hrel;obtain⟨za,I,T,rfl⟩:∃a n c,v=σ a n c:=by
      obtain⟨a,c,e,-⟩:=A.own.bs;exact⟨_,_,_,e⟩
     have aC:=Z fb wr i za I T A hi;have cx:=J (λk=>Ch (wr.drewN k) sb d za I T ac nc cc ⟨h.fr,b++List.replicate i 0,h.af⟩ (aC.au (dv (aD _ _) k)));have ey:(h.fr:Int)+((b++List.replicate i (0:Int)).length:Int)=h.fr+b.length+i:=by rw[bF,wC];omega
     simp only[ey]at cx;clear ey;have cy:wr.heap[s.heap.size]?=μ (ο #[ι η q,ι η l] 341 (0,0)):=(A.aA.block _ (Z Y) (by
      have G:w.heap.size<=s.heap.size:=bK E.size (Z hP).aA.size;rintro(u|u);omega
      ·exact ew u)).trans (Z hX)
     obtain⟨⟨u0,u1⟩,-,-⟩:=qa cy;obtain⟨c0,c1,c2,-⟩:=id aC;have hg:sb<wr.heap.size:=eZ wr _ c0;have fz:χ wr ⟨sb,d+1,ν⟩=θ:=by simp[World.frozen?,A.aV]
     replace⟨A,aC,cy⟩:=cz A aC cy;by_cases hc:b.length+i<(l-h.fr).toNat
     ·have d5:decide (h.fr+(b.length:Int)+(i:Int)<l)=ρ:=dT_;go_wp2_with fail;go_quiet (first|(go_at_call 196;exact Calls.quiet_of (Z cx _)));have gq:γ wr ((wr.drewN nq).alloc (ο #[ι Δ 0] 5)) ν:=bk (dv (aD _ _) nq) _;have oz:=J ((Z A).own.au gq);have bz:=J (wO (wr.drewN nq) 0 (by simp[W8]));have hh:D<=wr.heap.size:=by have:=Z Y;have:=(Z A).aA.size;have:=(Z hP).aA.size;have:=E.size;omega
      have ff:Hid ((Value.slice za I T).ownBlock≠μ sb):=J ((Z A).apart (by have:=Z Y;have:=(Z hP).aA.size;have:=E.size;omega) cw);have fo:Hid (((wr.drewN nq).alloc (ο #[ι Δ 0] 5)).heap[sb]?=μ (ο ((cs.setIfInBounds (d+1) (σ ob z oc)).setIfInBounds (d+1) (σ za I T)) t (0,0))):=J (bE (Z A).aV gq);go_wp2_with (at_builtin;go_loud (refine sS (by rfl) _ _ (by rfl) D _ (b++List.replicate i 0) (by rfl) (Z oz) _ _ _ [0] (by rfl) (Z bz) (by simp;omega) (by simp;omega) ?_;intro a7 c7 w7 o7 g7 h7;replace o7:=J o7;replace h7:=J h7;have bx:=(g7.block sb (by simp;omega) (λe=>Z ff e.symm)).trans (Z fo);have hn:κ w7 ⟨sb,d+1,ν⟩=μ (σ za I T):=((mn (w:=wr) (a:=⟨sb,d+1,ν⟩) (bx.trans (Z A).aV.symm)).trans c1);have f7:χ w7 ⟨sb,d+1,ν⟩=θ:=(by simp[World.frozen?,bx]);replace bx:=J bx;replace g7:=J g7));go_roundg ((l-h.fr).toNat-b.length-(i+1));case measure=>omega
      case rel=>
       have e7:b.length+i+1=(b++List.replicate i (0:Int)).length+[(0:Int)].length:=by simp
       refine⟨i+1,σ a7 (b.length+i+1) c7,rfl,by omega,?_⟩
       rw[e7,<-Iw];exact(Z A).app gq (Z o7) (Z g7) (Z h7) (by have:=Z Y;have:=(Z hP).aA.size;have:=E.size;omega) cw
     have d5:decide (h.fr+(b.length:Int)+(i:Int)<l)=θ:=dF_;have ez:Hid (b++List.replicate i 0=nQ h.fr b ⟨q,l⟩):=J (by
      unfold nQ;congr 2;simp only
      omega)
     have eC:¬(w.heap.size=sb\/(Value.slice ab nb cb).ownBlock=μ w.heap.size):=by
      rintro(u|u);omega;have:=(ho.lt _ u).2;omega
     have eD:¬(w.heap.size=sb\/(Value.slice ob z oc).ownBlock=μ w.heap.size):=by
      rintro(u|u);omega;obtain e|e:=(Z hP).new
      exact eC (ψ (e▸u));have h5:=e _ u;have h6:w.heap.size<wc.heap.size:=(bg.1 (Z ei)).1;have h7:=a1.size;omega
     have cC:wr.heap[w.heap.size]?=μ (ο #[ι δ kind,ι δ stream,ι η offset,ι η code,β fin,ς data,rv] 158 (0,0)):=by
      have h6:=bE (Z ei) a1;have l6:w.heap.size<S.heap.size:=(bg.1 h6).1;have h7:=((Z hP).aA.block _ l6 eC).trans h6;have h8:=bE h7 gX;exact((Z A).aA.block _ (bg.1 h8).1 eD).trans h8
     obtain⟨-,-,q2,-,-,q5,-⟩:=dI cC;replace cC:=J cC;go_wp2_with fail;go_quiet (first|(go_at_call 196;exact Calls.quiet_of (Z cx _)));obtain⟨W8,c9⟩:=exq (wr.drewN nq);have g8:γ wr W8 ν:=by rw[c9];exact dv (aD _ _) nq
     have P:=(Z A).gb g8;rw[Z ez]at P;have H8:=(Z aC).au g8;rw[Z ez]at H8;have bM:(nQ h.fr b ⟨q,l⟩).length=max b.length (l-h.fr).toNat:=xv _ _ _;have eK:=J (λW(g:γ W8 W ν)=>Cm W sb d za I T ac nc cc ⟨h.fr,nQ h.fr b ⟨q,l⟩,h.af⟩ (H8.au g) (q-h.fr).toNat (l-h.fr).toNat (by omega) (by rw[bM];omega) q l (by simp only;omega) (by simp only;omega));obtain⟨k9,b0⟩:∃k:Nat,(k:Int)=q-offset:=⟨(q-offset).toNat,by omega⟩
     have ht:IntKind.u64.wrap (q-offset)=(k9:Int):=by rw[<-b0,fW];omega
     have hv:(k9:Int)<=data.size:=by have:=Z ee;rw[fN]at this;omega
     have hz:k9<=data.size:=by omega
     replace b0:=J b0;obtain⟨K,rfl⟩:∃g,za=μ ⟨g,0,ν⟩:=by
      obtain⟨-,e⟩|⟨g,-,e,-⟩:=BG P.own
      have:=P.own.iy.2.1;omega;exact⟨g,e⟩
     have fq:Hid (I=(nQ h.fr b ⟨q,l⟩).length):=J P.own.iy.2.1;obtain⟨U,b3⟩:=exq ((q-h.fr).toNat);obtain⟨q9,b4⟩:=exq ((l-h.fr).toNat);have fs:U<q9:=by omega
     rw[<-b3,<-b4]at eK;have fy:Hid (U+((aI (data.extract k9 data.size)).take (q9-U)).length<=I):=J (by rw[Z fq,bM,ct];omega);replace⟨b3,b4⟩:=bD b3 b4;have n0:K≠s.heap.size:=by
      obtain e|e:=(Z A).new
      exact λe2=>ew (by rw[<-e,<-e2];rfl)
      have G:=e K rfl;have h2:=Z Y;omega
     have n1:K≠w.heap.size:=by
      obtain e|e:=(Z A).new
      exact λe2=>eD (ψ (by rw[<-e,<-e2];rfl))
      have G:=e K rfl;have h2:=Z Y;have h3:=(Z hP).aA.size;have u:=E.size;omega
     have r0:=kg (gC_ g8 u0) n0.symm;have r1:=kg (gC_ g8 u1) n0.symm;have r2:=kg (gC_ g8 q2) n1.symm;have r5:=kg (gC_ g8 q5) n1.symm;have eL:γ W8 W8.drew ν:=aY (aD _ _);have fA:γ W8 W8.drew (μ K):=aY (aD _ _);clear u0 u1 q2 q5 c0 c1 c2 fz;replace⟨P,bM⟩:=bD P bM;go_upto_region 7 with fail;rw[<-c9];clear c9;go_region_held3 (λp=>γ W8 p (μ K))
      (with_reducible first|exact ga|exact b5|exact fA)
      (first
        |(go_at_call 285;apply(Z eK W8.drew eL).mono;rintro e w9⟨a9,rfl,gf,eS,g9⟩;have db:γ W8 w9 ν:=aq eL g9;have b5:γ W8 w9 (μ K):=dy db _;clear gf;obtain rfl:a9=μ ⟨K,U,ν⟩:=(eS.2 fs).trans (by simp only[sN,Addr.add_lit,ep]);clear eS)
        |(refine HQ _ _ (by rfl) (by rfl) D K U I T _ _ (by rfl) _ (by rfl) (nQ h.fr b ⟨q,l⟩) ((Z P).own.au db) (Z fy) ?_;intro gg de dg;replace de:=J de;have ga:=aq b5 dg))
     have dk:jA WX sb d D (cs.setIfInBounds (d+1) (σ ob z oc)) t (σ ob z oc) (mE h.fr offset (aI data) b ⟨q,l⟩) (σ (μ ⟨K,0,ν⟩) I T) gg:=by
      have e1:mE h.fr offset (aI data) b ⟨q,l⟩=splice (nQ h.fr b ⟨q,l⟩) U ((aI (data.extract k9 data.size)).take (q9-U)):=by
       have G:=Z b0;have h2:=Z b3;have h3:=Z b4;unfold mE;rw[HK];simp only
       rw[show(q-offset).toNat=k9 by omega,show(l-q).toNat=q9-U by omega,<-h2]
      rw[e1];have P9:=(Z P).gb db;refine⟨?_,Z de,?_,P9.new⟩
      rw[dg.block sb (eZ _ _ (by rw[aZ P9.aV];exact(by have:=(Z aC).2.1;rw[aZ (Z A).aV]at this;exact this))) (λe=>(Z P).apart (by have:=Z Y;have:=(Z hP).aA.size;have:=E.size;omega) cw e.symm)];exact P9.aV;refine(P9.aA.trans (ay.of dg)).mono (λk hk C=>?_);obtain C|C:=C
      exact C;obtain e|e:=P9.new
      exact ψ (by rw[<-e];exact C);have:=e k C;omega
     have dn:=(Z O).trans dk;replace⟨dn,dk⟩:=bD dn dk;go_wp2;go_roundw;case measure=>simp[intOf];omega
     case rel=>
      refine⟨j+1,_,by omega,by simp,by rw[Z a2];exact Z dn,?_⟩
      have hC:=Z ee;rw[Z a2,Cc (x:=⟨q,l⟩) (by simp only;omega) (by simp only;omega) (by simp only;omega) (by simp only;omega)];simp only
      omega
   have d1:decide ((j:Int)<N)=θ:=dF_;obtain rfl:j=N:=by omega
   obtain⟨ob,z,oc,rfl⟩:∃a n c,v=σ a n c:=by
    obtain⟨a,c,e,-⟩:=hP.own.bs;exact⟨_,_,_,e⟩
   have gi:Hid (b=hb h.fr offset (aI data) (iA h.af ⟨offset,en⟩) h.bytes):=J (by rw[Z ax,<-Z e6,Z ej,pt]);have Hq:=hP.hd (Z al) (Z H6) b7 ⟨ek,eo⟩;have ds:B≠sb:=by have:=Z hB;have:=Z a8;omega
   have e3:s.heap[B]?=μ (ο #[ι η offset,ι η en] 341 (0,0)):=by
    have h6:=bE (Z bj) a1;refine(hP.aA.block B (bg.1 h6).1 ?_).trans h6;rintro(u|u);exact ds u;have:=(ho.lt _ u).2;have:=Z hB;have:=Z a8;omega
   obtain⟨⟨s0,s1⟩,-,-⟩:=qa e3;replace s0:=kg (n:=sb) s0 ds;replace s1:=kg (n:=sb) s1 ds;have Q:=hP.gb (aY (aD s ν));have hA:=J (zl s.drew sb (d+2) (cs.setIfInBounds (d+1) (σ ob z oc)) t ac nc cc h.af ⟨offset,en⟩ Q.aV (by have:=Hq.2.2.1;rwa[aZ hP.aV]at this) (Hq.2.2.2.2.1.au (aY (aD s ν))) (λy e=>(b7 y e).1) Hq.2.2.2.2.2.2.2.1 b8 (by have G:=Hq.2.2.2.2.1.2.1;have h2:=Hq.2.2.2.2.2.2.2.2.2;simp only at G h2;omega));have e4:γ s s.drew (μ sb):=aY (aD _ _);obtain⟨R,hR⟩:=exq (λp:ω=>∃a n c L n2 c2,p.heap[sb]?=μ (ο ((cs.setIfInBounds (d+1) (σ a n c)).setIfInBounds (d+2) (σ L n2 c2)) t (0,0))/\bn p D (σ a n c) b/\bq p L n2 c2 (cD h.af ⟨offset,en⟩)/\ay w p (λk=>k=sb\/(Value.slice ab nb cb).ownBlock=μ k)/\((Value.slice a n c).ownBlock=(Value.slice ab nb cb).ownBlock\/∀k,(Value.slice a n c).ownBlock=μ k->w.heap.size<=k)/\((L=ac/\n2=nc/\c2=cc)\/∀y,L=μ y->w.heap.size<=y.block/\y.block<p.heap.size/\(Value.slice a n c).ownBlock≠μ y.block));have a2:Hid (∀p,uL s.drew p sb (d+2) ac nc cc h.af (λl'=>l'.length<=h.af.length+1/\∀m,Sm l' m↔Sm h.af m\/(offset<=m/\m<en))->R p):=J (by
    rintro p⟨a',n',c',l',⟨gu,hu⟩,hr,gj,gn,-,hq⟩;have e1:l'=cD h.af ⟨offset,en⟩:=xu Hq.2.2.2.2.2.2.2.1 gn hq;have gw:(Value.slice ob z oc).ownBlock≠μ sb:=Q.apart (by have:=E.size;omega) dG;have gA:ay w S (λ_=>False):=(ay.of E).mono (λk _ e=>by cases e);have gE:=E.size;rw[hR];refine⟨ob,z,oc,a',n',c',hu _ _ Q.aV,Q.own.gb gu (ψ gw),e1▸hr,((gA.trans Q.aA).trans (ay.of gu)).mono (λk _ C=>?_),?_,?_⟩
    obtain(C|C)|C:=C
    exact C.elim;exact C;exact φ (aQ C).symm;exact Q.new.imp id (λe k hk=>bK gE (e k hk))
    ·refine gj.imp (λh=>⟨h.1,h.2.1,h.2.2.1⟩) (λe y hy=>⟨?_,(e y hy).2,λe2=>?_⟩);have:=(e y hy).1;have:=Q.aA.size;omega
     ·have:=(e y hy).1;have:=(Q.own.lt _ e2).2;omega)
   replace hR:=J hR;clear Hq e3 Q;replace hP:=J hP;go_wp2_with fail;go_region_held3 (λp=>γ s p (μ sb))
    (with_reducible first|exact b5|exact e4)
    (first|(go_at_call 215;apply(Z hA).mono;rintro e w9⟨rfl,dx⟩;have b5:γ s w9 (μ sb):=(by obtain⟨a',n',c',l',⟨gu,-⟩,-⟩:=dx;exact aq e4 gu);have gU:=J (Z a2 _ dx);clear dx))
   go_wp2_with fail;have e5:=Z gU;rw[Z hR,Z gi]at e5;exact gD (fe rfl _ _ _) rfl ⟨rfl,e5⟩
structure sZ(w b:ω)(sb:Nat)(t:TypeId)(cs a:Array υ)(lo n:Nat)(vb c:υ):Prop where
 aV:b.heap[sb]?=μ (ο a t (0,0))
 sz:a.size=cs.size
 out:∀i,i<lo\/lo+n<=i->a[i]?=cs[i]?
 aA:ay w b (λk=>k=sb\/vb.ownBlock=μ k)
 new:c.ownBlock=vb.ownBlock\/∀k,c.ownBlock=μ k->w.heap.size<=k
def zA(w b:ω)(d vc a:υ):Prop:=a=vc\/∀y n c,a=σ (μ y) n c->w.heap.size<=y.block/\y.block<b.heap.size/\d.ownBlock≠μ y.block
structure iB(w:ω)(d:Nat)(cs:Array υ)(b:Nat)(vb vc:υ)(s:It):Prop where
 c0:cs[b]?=μ (ι η s.h.fr)
 c1:cs[b+1]?=μ vb
 c2:cs[b+2]?=μ vc
 c3:cs[b+3]?=μ (ι η s.high)
 c4:cs[b+4]?=μ (ι η s.last)
 c5:cs[b+5]?=μ (ι η s.code)
 c6:cs[b+6]?=μ (β s.ended)
 c7:cs[b+7]?=μ (β s.given)
 c8:cs[b+8]?=μ (β s.over)
 own:bn w d vb s.h.bytes
 set:∃a n c,vc=σ a n c/\bq w a n c s.h.af
def kO(w:ω)(sb:Nat)(vb vc:υ):Prop:=vb.ownBlock≠μ sb/\∀y n c,vc=σ (μ y) n c->y.block≠sb/\vb.ownBlock≠μ y.block/\y.block<w.heap.size
def iB.tail(h:iB w k c i x y E)(a:w.heap[n]?=μ (ο c T (0,0))):sX w n i E:=
 ⟨(aZ a _).trans h.c3,(aZ a _).trans h.c4,(aZ a _).trans h.c5,(aZ a _).trans h.c6,(aZ a _).trans h.c7,(aZ a _).trans h.c8⟩
def iB.nT(h:iB w k C i x y E):∃ab nb cb ac nc cc,x=σ ab nb cb/\y=σ ac nc cc:=by
 obtain⟨a,n,c,e,-⟩:=h.set;obtain⟨d,f,b,-⟩:=h.own.bs;exact⟨_,_,_,_,_,_,b,e⟩
def iB.hd{ac:Option Addr}(h:iB w i C j (σ O l m) (σ ac o b) E)(d:w.heap[k]?=μ (ο C T (0,0)))(f:E.h.nice):gZ w k j O l m ac o b E.h:=by
 refine⟨(aZ d _).trans h.c0,(aZ d _).trans h.c1,(aZ d _).trans h.c2,h.own.iy,?_,f⟩
 obtain⟨a,n,c,e,g⟩:=h.set;cases e;exact g
def iB.au(h:iB w k C i x y E)(g:γ w W ν):iB W k C i x y E:=
 ⟨h.c0,h.c1,h.c2,h.c3,h.c4,h.c5,h.c6,h.c7,h.c8,h.own.au g,by obtain⟨a,n,c,e,b⟩:=h.set;exact⟨a,n,c,e,b.au g⟩⟩
def It.bad(s:It)(f:Fr):Bool:=(s.ended&&decide (s.last<aT f))||(f.fin&&s.gO (aT f))
def It.data(s:It)(f:Fr):It:=
 {s with high:=max s.high (aT f),ended:=s.ended||f.fin,last:=if f.fin then aT f else s.last,h:=if s.given then s.h else⟨s.h.fr,hb s.h.fr f.offset (aI f.data) (iA s.h.af ⟨f.offset,aT f⟩) s.h.bytes,cD s.h.af ⟨f.offset,aT f⟩⟩}
def ia(h:c[i]?=μ x):i<c.size:=(bg.1 h).1
def cJ(h:i<c.size:=by omega):(c.setIfInBounds i x)[i]?=μ x:=by
 rw[lz,aG rfl,aG h]
def sZ.Cn(a:w.heap[i]?=μ (ο c T (0,0)))(g:γ w W ν)(lo n:Nat)(vb:υ):sZ w W i T c c lo n vb vb:=
 ⟨bE a g,rfl,λ_ _=>rfl,(ay.of g).mono (λk _ e=>by cases e),φ rfl⟩
structure Pc where
 x:Rg
 e:Bool
 g:Bool
structure Pk where
 num:Int
 tick:Int
 st:Int
 ps:List Pc
def rQ(p:Pc):List υ:=[ι η p.x.lo,ι η p.x.hi,β p.e,β p.g]
def gF(l:List Pc):List υ:=l.flatMap rQ
def fZ(l:List Pc)(i:Nat):Pc:=l.getD i ⟨⟨0,0⟩,θ,θ⟩
def kP(w:ω)(a:Option Addr)(n cap:Nat)(l:List Pc):Prop:=
 (∀p∈l,p.x.ok)/\n=l.length/\n<=cap/\cap<=maxLen/\(cap=0\/∃b o,a=μ ⟨b,o,ν⟩/\w.rangeAt b o (gF l))
def Cq{α:Type}(f:α->List υ)(a:∀x,(f x).length=4)(l:List α):(l.flatMap f).length=l.length*4:=by
 induction l with
 |nil=>rfl
 |cons x l b=>rw[rI,bF,b,a,cS];omega
def s6{α:Type}(f:α->List υ)(a:∀x,(f x).length=4)(l:List α)(i j:Nat)(x:α)(b:l[i]?=μ x)(c:j<4):(l.flatMap f)[i*4+j]?=(f x)[j]? :=by
 induction l generalizing i with
 |nil=>cases b
 |cons y l d=>
  rw[rI];cases i with
  |zero=>
   cases b;rw[oH,ep,mm (by rw[a];exact c)]
  |succ i=>
   rw[mU (by rw[a];omega),a,show(i+1)*4+j-4=i*4+j by omega];exact d i (by simpa using b)
def IX(l:List Pc):(gF l).length=l.length*4:=Cq rQ (λ_=>rfl) l
def kP.cM{l:List Pc}(h:kP w a n k l)(e:l≠[]->∀x,a=μ x->W.heap[x.block]?=w.heap[x.block]?):kP W a n k l:=by
 obtain⟨f,g,i,m,c⟩:=h;refine⟨f,g,i,m,?_⟩
 obtain c|⟨b,o,rfl,c⟩:=c
 exact φ c;refine ψ ⟨b,o,rfl,?_⟩;by_cases hl:l=[]
 subst hl;intro j v d;simp[gF]at d;intro j v d;exact(mn (w:=w) (a:=⟨b,o+j,ν⟩) (e hl ⟨b,o,ν⟩ rfl)).trans (c j v d)
def xz{l:List Pc}(h:i<l.length):l[i]?=μ (fZ l i):=by simp[fZ,List.getD,h]
def xA{l:List Pc}(h:i<l.length):fZ l i∈l:=yU (xz h)
def kP.cell{l:List Pc}(h:kP w (μ ⟨b,o,ν⟩) n k l)(i:Nat)(hi:i<l.length):κ w ⟨b,o+i*4,ν⟩=μ (ι η (fZ l i).x.lo)/\κ w ⟨b,o+i*4+1,ν⟩=μ (ι η (fZ l i).x.hi)/\κ w ⟨b,o+i*4+2,ν⟩=μ (β (fZ l i).e)/\κ w ⟨b,o+i*4+3,ν⟩=μ (β (fZ l i).g):=by
 obtain⟨-,f,m,-,a|⟨p,q,e,a⟩⟩:=h;omega;cases e;have c:=λj d=>s6 rQ (λ_=>rfl) l i j _ (xz hi) d
 refine⟨a (i*4) _ (c 0 (by omega)),?_,?_,?_⟩
 rw[qJ];exact a (i*4+1) _ (c 1 (by omega));rw[qJ];exact a (i*4+2) _ (c 2 (by omega));rw[qJ];exact a (i*4+3) _ (c 3 (by omega))
def kP.au{l:List Pc}(h:kP w a n k l)(g:γ w W ν):kP W a n k l:=by
 by_cases hl:l=[]
 exact h.cM (λh=>absurd hl h);refine h.cM (λ_ x b=>?_);subst b;obtain⟨-,i,j,-,c|⟨d,f,e,c⟩⟩:=id h;have:=pq.2 hl;omega;cases e;exact g.block _ (eZ w ⟨d,f,ν⟩ (h.cell 0 (pq.2 hl)).1) (by simp)
abbrev Kt:=Pk×υ
def kQ(x:Kt):List υ:=[ι η x.1.num,ι δ x.1.tick,ι δ x.1.st,x.2]
def iX(l:List Kt):List υ:=l.flatMap kQ
def rS(l:List Kt):(iX l).length=l.length*4:=Cq kQ (λ_=>rfl) l
def bP(l:List Kt)(i:Nat):Kt:=l.getD i (⟨0,0,0,[]⟩,σ ν 0 0)
def oK{l:List Kt}(h:i<l.length:=by omega):l[i]?=μ (bP l i):=by simp[bP,List.getD,h]
def pI{l:List Kt}(h:i<l.length):bP l i∈l:=yU (oK h)
def nV(w:ω)(S:Nat->Prop)(l:List Kt):Prop:=∀x∈l,∃a n c,x.2=σ a n c/\kP w a n c x.1.ps/\∀y,a=μ y->¬S y.block/\y.block<w.heap.size
def nV.aA{l:List Kt}(h:nV w S l)(C:ay w W P)(f:∀k,k<w.heap.size->P k->S k):nV W S l:=λx g=>by
 obtain⟨a,n,c,e,hp,d⟩:=h x g;exact⟨a,n,c,e,hp.cM (λ_ y b=>C.block _ (d y b).2 (λi=>(d y b).1 (f _ (d y b).2 i))),λy b=>⟨(d y b).1,cu (d y b).2 C.size⟩⟩
def nV.sub{l m:List Kt}(h:nV w S l)(a:∀x∈m,x∈l):nV w S m:=λx b=>h x (a x b)
def cq(w:ω)(a:Nat)(v:υ)(l:List Kt):Prop:=w.ownsRow a 325 4 v l.length (iX l)
def cq.lt{l:List Kt}(h:cq w n x l):∀k,x.ownBlock=μ k->n<=k/\k<w.heap.size:=World.ownsRow.lt h
def cq.aA{l:List Kt}(h:cq w n x l)(C:ay w W S)(c:∀k,x.ownBlock=μ k->¬S k):cq W n x l:=by
 obtain⟨d,a⟩:=h;refine⟨d,?_⟩
 obtain a|⟨g,cap,cur,e1,e2,b,e⟩:=a
 exact φ a;exact ψ ⟨g,cap,cur,e1,e2,(C.block g (bg.1 b).1 (c g (by rw[e1];rfl))).trans b,e⟩
def cq.cell{l:List Kt}(h:cq w k (σ a n m) l)(hl:0<n):∃g,a=μ ⟨g,0,ν⟩/\∀i,i<l.length->κ w ⟨g,0+i*4,ν⟩=μ (ι η (bP l i).1.num)/\κ w ⟨g,0+i*4+1,ν⟩=μ (ι δ (bP l i).1.tick)/\κ w ⟨g,0+i*4+2,ν⟩=μ (ι δ (bP l i).1.st)/\κ w ⟨g,0+i*4+3,ν⟩=μ (bP l i).2:=by
 obtain⟨r,⟨c,h0⟩|⟨g,s,d,e1,e2,e,t,u,v,f⟩⟩:=h;cases c;omega;cases e1;refine⟨g,rfl,λi hi=>?_⟩
 have b:∀j,j<4->κ w ⟨g,i*4+j,ν⟩=(kQ (bP l i))[j]? :=λj p=>by
  rw[aZ e,<-s6 kQ (λ_=>rfl) l i j _ (oK hi) p];have q:i*4+j<l.length*4:=by omega
  have:d.toList[i*4+j]?=(iX l)[i*4+j]? :=by rw[<-f,jK,aG q]
  rw[qF]at this;exact this
 refine⟨?_,?_,?_,?_⟩
 rw[ep];exact b 0 (by omega);rw[ep];exact b 1 (by omega);rw[ep];exact b 2 (by omega);rw[ep];exact b 3 (by omega)
def cq.gR{l:List Kt}(h:cq w n x l):∃a cap,x=σ a l.length cap/\l.length<=cap/\cap<=maxLen:=by
 obtain⟨f,⟨b,h0⟩|⟨g,c,i,e1,e2,j,d,e,k,m⟩⟩:=h;exact⟨ν,0,by rw[h0];exact b,by omega,by simp[maxLen]⟩
 exact⟨_,c,e1,d,e⟩
def Cs(ty t e:TypeId)(z:υ)(k:Nat)(p:0<k)(q:prog.underlying t=μ (.slice e))(r:∀w,(zeroValue e).run prog w=.ok z w)(b:z.cells.size=k)(s:∀v∈z.cells.toList,v.oneCell'=ρ)(g i m c:Nat)(a:Array υ)(te:TypeId)(x:w.heap[g]?=μ (ο a te (0,0)))(y:0<m)(A:i+m*k<=a.size):
 ∃d:List υ,d.length=m*k/\(Builtin.clear_ #[t] ty #[σ (μ ⟨g,i,ν⟩) m c]).run prog w=.ok (τ #[]) (w.setRow g (a.toList.take i++d++a.toList.drop (i+m*k)).toArray):=by
 have hl:(Builtin.zeroCells z.cells m).toList.length=m*k:=by simp[Builtin.zeroCells,b]
 refine⟨(Builtin.zeroCells z.cells m).toList,hl,?_⟩
 have f:=run_storeCells_at prog g i te (Builtin.zeroCells z.cells m).toList 0 a w x (by rw[hl];omega) (by
  intro u h;simp only[Builtin.zeroCells,b,Array.toList_map,eU]at h;obtain⟨j,-,rfl⟩:=h;have l:j %k<z.cells.size:=by rw[b];exact Nat.mod_lt _ p
  refine s _ ?_;rw[getElem!_pos z.cells (j %k) l];exact Array.getElem_mem_toList l)
 obtain⟨n,rfl⟩:∃n,m=n+1:=⟨m-1,by omega⟩
 rw[hl]at f;simp[Builtin.clear_,wK q,r,f]
def IY(w:ω):(zeroValue 325).run prog w=.ok (ε #[ι η 0,ι δ 0,ι δ 0,σ ν 0 0]) w:=by kernel_rfl
structure jr(W:ω)(g cap:Nat)(az b:List Kt)(j:Nat)(a:Array υ):Prop where
 aV:W.heap[g]?=μ (ο a 325 (0,0))
 sz:a.size=cap*4
 le:b.length<=j
 ahead:∀x,x<b.length*4->a[x]?=(iX b)[x]?
 rest:∀x,j*4<=x->x<az.length*4->a[x]?=(iX az)[x]?
def jr.at{az b:List Kt}(h:jr W n k az b j c)(d:j<az.length):κ W ⟨n,j*4,ν⟩=μ (ι η (bP az j).1.num)/\κ W ⟨n,j*4+1,ν⟩=μ (ι δ (bP az j).1.tick)/\κ W ⟨n,j*4+2,ν⟩=μ (ι δ (bP az j).1.st)/\κ W ⟨n,j*4+3,ν⟩=μ (bP az j).2:=by
 have a:∀i,i<4->κ W ⟨n,j*4+i,ν⟩=(kQ (bP az j))[i]? :=λi hi=>by
  rw[aZ h.aV,h.rest _ (by omega) (by omega)];exact s6 kQ (λ_=>rfl) az j i _ (oK d) hi
 exact⟨a 0 (by omega),a 1 (by omega),a 2 (by omega),a 3 (by omega)⟩
def kp(az:List Kt)(q:Nat->Bool):Nat->List Kt
 |0=>[]
 |j+1=>if q j then kp az q j else kp az q j++[bP az j]
def Ct(az:List Kt)(q:Nat->Bool)(j:Nat)(b:j<=az.length)(h:∀i,i<j->q i=θ):kp az q j=az.take j:=by
 induction j with
 |zero=>simp[kp]
 |succ j a=>
  unfold kp;rw[h j (by omega),aB (by simp),a (by omega) (λi hi=>h i (by omega)),pS,oK];rfl
def zF(az:List Kt)(q:Nat->Bool)(Q:Kt->Bool)(h:∀i,i<az.length->q i=Q (bP az i))(j:Nat)(c:j<=az.length):kp az q j=(az.take j).filter (λx=> !Q x):=by
 induction j with
 |zero=>simp[kp]
 |succ j a=>
  unfold kp;rw[h j (by omega),a (by omega),pS,oK,Option.toList_some,List.filter_append];cases b:Q (bP az j)<;>simp[b]
def IZ(l:List Kt)(k:Nat)(x:Nat)(b:x<k*4):(iX (l.take k))[x]?=(iX l)[x]? :=by
 by_cases hl:x<l.length*4;have e:x=x/4*4+x %4:=by omega
 have a:x/4<l.length:=by omega
 have c:x/4<(l.take k).length:=by rw[ct];omega
 rw[e];unfold iX;rw[s6 kQ (λ_=>rfl) l _ _ _ (oK a) (by omega),s6 kQ (λ_=>rfl) (l.take k) _ _ (bP l (x/4)) (by rw[jK,iP_];exact oK a) (by omega)];rw[nG (l:=iX l) (by rw[rS];omega),nG (l:=iX (l.take k)) (by rw[rS,ct];omega)]
def I2(l:List Kt)(x:Kt):iX (l++[x])=iX l++kQ x:=by simp[iX]
def jr.skip{az a:List Kt}(h:jr W n k az a j c)(b:w.heap[n]?=W.heap[n]?):jr w n k az a (j+1) c:=
 ⟨b.trans h.aV,h.sz,by have:=h.le;omega,h.ahead,λx e d=>h.rest x (by omega) d⟩
def jr.same{az a:List Kt}(h:jr W n k az a j c)(b:w.heap[n]?=W.heap[n]?):jr w n k az a j c:=
 ⟨b.trans h.aV,h.sz,h.le,h.ahead,h.rest⟩
def jr.put{W':ω}{az a:List Kt}(h:jr W n k az a j c)(i:a.length<j)(l:j<az.length)(m:az.length<=k)(x:Kt)
 (d:W'.heap[n]?=μ (ο ((((c.setIfInBounds (a.length*4) (ι η x.1.num)).setIfInBounds (a.length*4+1) (ι δ x.1.tick)).setIfInBounds (a.length*4+2) (ι δ x.1.st)).setIfInBounds (a.length*4+3) x.2) 325 (0,0))):
 ∃e,jr W' n k az (a++[x]) (j+1) e:=by
 have p:=h.sz;refine⟨_,d,by simp[h.sz],by simp;omega,λy f=>?_,λy q g=>?_⟩
 rw[bF,wB]at f;rw[I2];by_cases b:y<a.length*4;rw[aN_,aN_,aN_,aN_,h.ahead y b,mm (by rw[rS];exact b)];rw[mU (by rw[rS];omega),rS];have:y=a.length*4\/y=a.length*4+1\/y=a.length*4+2\/y=a.length*4+3:=by omega
 obtain rfl|rfl|rfl|rfl:=this
 rw[aN_,aN_,aN_,cJ,sP];rfl;rw[aN_,aN_,cJ (by simp;omega),uh];rfl;rw[aN_,cJ (by simp;omega),uh];rfl;rw[cJ (by simp;omega),uh];rfl;rw[aN_,aN_,aN_,aN_,h.rest y (by omega) g]
def jr.own{az a:List Kt}(h:jr W n k az a j c)(d:i<=n)(b:a.length<=k/\k<=maxLen):cq W i (σ (μ ⟨n,0,ν⟩) a.length k) a:=by
 refine⟨rS a,ψ ⟨n,k,c,rfl,d,h.aV,b.1,b.2,h.sz,?_⟩⟩
 apply List.ext_getElem?;intro x;rw[jK];split;rename_i e;rw[qF];exact h.ahead x e;rw[nG (by rw[rS];omega)]
