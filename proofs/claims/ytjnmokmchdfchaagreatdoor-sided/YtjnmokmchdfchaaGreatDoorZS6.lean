import Derived.Test.YtjnmokmchdfchaaGreatDoorZS2
import Derived.Test.YtjnmokmchdfchaaGreatDoorZS3
import Derived.Test.YtjnmokmchdfchaaGreatDoorZS4
import Derived.Test.YtjnmokmchdfchaaGreatDoorZS5
set_option maxRecDepth 1000000
set_option maxHeartbeats 0
set_option linter.all false
namespace Go.Proofs.YtjnmokmchdfchaaGreatDoor
open Go.RowKit Tryz
open Go.Value renaming int→I,slice→Y,bool→β,pointer→π,agg→ε,string→ς,tuple→τ
open Go.IntKind renaming i64→X,u64→U,u8→Δ
open Go.Ending renaming returned→ξ
open Go.Obj renaming cells→ο
open Or renaming inl→φ,inr→ψ
open Option renaming some→E,none→N
open Bool renaming true→ρ,false→θ
open Go renaming World→D,Value→υ
open Go.World renaming grownBy→G,cell?→κ,frozen?→χ,setCell→ζ
attribute[local go_sem↓]Go.wp_at_zero Go.wp_at_succ
variable{A:Addr}{C c:Array υ}{u:Fr}{t:Int}{K L:List Int}{s:List Rg}{b i j k l m n o:Nat}{S:Nat->Prop}{a:Option Addr}{e:Option Nat}{T:TypeId}{x y z:υ}{V W v w:D}
def aj.cell(h:aj w W S){p:Addr}(a:κ w p=E x)(b:¬S p.block):κ W p=E x:=
 (iB (w:=w) (h.block _ (eI w _ a) b)).trans a
def kg(h:κ w A=E x)(a:A.block≠n):∀W,G w W (E n)->κ W A=E x:=λ_ k=>k.cell h (λe=>a (aR e))
def qA(h:w.heap[b]?=E (ο #[x,y] T (0,0))):(κ w ⟨b,0,N⟩=E x/\κ w ⟨b,1,N⟩=E y)/\χ w ⟨b,0,N⟩=θ/\χ w ⟨b,1,N⟩=θ:=by
 simp[κ,χ,h]
def zG{ob:Obj}(g:(w.alloc ob).drew.grownBy v N):v.heap[w.heap.size]?=E ob:=bp (W:=(w.alloc ob).drew) (aM w ob) g
structure jW(w:D)(sb c d:Nat)(e:Array υ)(t:TypeId)(a:υ)(b:List Int)(v:υ)(W:D):Prop where
 aG:W.heap[sb]?=E (ο (e.setIfInBounds (c+1) v) t (0,0))
 own:aS W d v b
 aA:aj w W (λk=>k=sb\/a.ownBlock=E k)
 new:v.ownBlock=a.ownBlock\/∀k,v.ownBlock=E k->w.heap.size<=k
def aj.grow(h:aj w W S)(g:G W v N):aj w v S:=(h.trans (aj.of g)).mono (λk _ h=>h.elim id (nofun))
def jW.gb{w:D}(h:jW w n k i c T x L y W)(g:G W V N):jW w n k i c T x L y V:=
 ⟨bp h.aG g,h.own.ag g,h.aA.grow g,h.new⟩
def jW.trans(h:jW w n j l c T x L y W)(k:jW W n j l (c.setIfInBounds (j+1) y) T y K z V):jW w n j l c T x K z V:=by
 refine⟨?_,k.own,(h.aA.trans k.aA).mono (λi hi a=>?_),?_⟩
 rw[k.aG];simp;obtain a|a|a:=a
 exact a;omega;obtain e|e:=h.new
 simp_all;grind;obtain e|e:=k.new
 rw[e];exact h.new;exact ψ (λi hi=>bG h.aA.size (e i hi))
def jW.hd{ab ac:Option Addr}{b:Nat}{h:Hd}(g:w.heap[k]?=E (ο C T (0,0)))(H:iM w k i ab l m ac o b h)(d:∀y,ac=E y->y.block≠k/\(Y ab l m).ownBlock≠E y.block){c:Nat}(p:jW w k i j C T (Y ab l m) L (Y a n c) W)(hl:h.fr+L.length<=4611686018427387903/\L.length<=1000000):iM W k i a n c ac o b ⟨h.fr,L,h.af⟩:=by
 obtain⟨c0,c1,c2,-,f,q,-,r,-,k4⟩:=H;rw[ba g]at c0 c1 c2;have s:=(aV.1 c1).1;refine⟨?_,?_,?_,p.own.eV,f.dR (λt y u=>?_),q,hl.1,r,hl.2,k4⟩
 rw[ba p.aG];simpa [oW]using c0;rw[ba p.aG];simp[s];rw[ba p.aG];simpa [oW]using c2;subst u;exact p.aA.block _ (f.lt t) (λe=>e.elim (d y Q).1 (d y Q).2)
def jW.apart(h:jW w n k i c T x L y W)(a:n<w.heap.size)(b:x.ownBlock≠E n):y.ownBlock≠E n:=by
 obtain e|e:=h.new
 simp_all;grind
def jW.app{a:D}(h:jW w n i j c T x L y W)(g:G W V N)(p:aS a j z K)(l:G V a y.ownBlock)(q:z.ownBlock=y.ownBlock\/z.ownBlock=E V.heap.size)(m:n<w.heap.size)(r:x.ownBlock≠E n):jW w n i j c T x K z (ζ a ⟨n,i+1,N⟩ z):=by
 have d:=h.gb g;have s:=h.apart m r;have t:=bX m d.aA.size;have u:=(l.block n t (λe=>s e.symm)).trans d.aG;have v:z.ownBlock≠E n:=by
  grind
 refine⟨by rw[heap_set u];simp,p.gb (aD (au a (E n)) _ _ (ψ Q)) (ψ v),?_,?_⟩
 refine((d.aA.trans (aj.of l)).trans (aj.of (aD (au a (E n)) ⟨n,i+1,N⟩ z (ψ Q)))).mono (λk f b=>?_);obtain(b|b)|b:=b
 exact b;obtain e|e:=h.new
 simp_all;grind;grind;obtain e|e:=q
 rw[e];exact h.new;exact ψ (λk f=>by rw[e]at f;have:=aR f;have:=d.aA.size;omega)
def vu(h:c[i]?=E x):c.setIfInBounds i x=c:=by grind
def Ji(b:List Int)(i:Nat):b++List.replicate i (0:Int)++[0]=b++List.replicate (i+1) 0:=by rw[eF,<-List.replicate_succ']
def Jj(w:D)(sb d L:Nat)(V:Array υ)(t:TypeId)(ab:Option Addr)(F cb:Nat)(ac:Option Addr)(nc cc:Nat)(h:Hd)(dx:w.heap[sb]?=E (ο V t (0,0)))(H:iM w sb d ab F cb ac nc cc h)(ho:aS w L (Y ab F cb) h.bytes)(gA:L<=w.heap.size)(ea:(Y ab F cb).ownBlock≠E sb)(ch:∀y,ac=E y->y.block≠sb/\(Y ab F cb).ownBlock≠E y.block)
 (f:Fr) (rv:υ) (hf:0<=f.offset) (hs:bm f<=4611686018427387903) (eb:∀m,f.offset<=m->m<bm f->¬Sm h.af m->h.fr<=m/\m<h.fr+900000):
 Calls prog 258 #[π (E ⟨sb,d,N⟩),ε (bC f rv)] w λr p=>r=ξ (τ #[])/\∃a n c a2 n2 c2,p.heap[sb]?=E (ο ((V.setIfInBounds (d+1) (Y a n c)).setIfInBounds (d+2) (Y a2 n2 c2)) t (0,0))/\aS p L (Y a n c) (iP h.fr f.offset (bl f.data) (kK h.af ⟨f.offset,bm f⟩) h.bytes)/\bq p a2 n2 c2 (eu h.af ⟨f.offset,bm f⟩)/\aj w p (λk=>k=sb\/(Y ab F cb).ownBlock=E k)/\((Y a n c).ownBlock=(Y ab F cb).ownBlock\/∀k,(Y a n c).ownBlock=E k->w.heap.size<=k)/\((a2=ac/\n2=nc/\c2=cc)\/∀y,a2=E y->w.heap.size<=y.block/\y.block<p.heap.size/\(Y a n c).ownBlock≠E y.block):=by
 have hE:=J (λW=>zt W f rv hf O);have gM:=(aV.1 dx).1;have cm:(⟨f.offset,bm f⟩:Rg).ok:=by
  have:0<=bm f:=by unfold bm;omega
  have:f.offset<=bm f:=by unfold bm;omega
  constructor<;>simp only[aZ]<;>omega
 obtain⟨en,br⟩:=í (bm f);rw[<-br]at hE eb hs cm⊢;have hM:=J (λW(g:G w W N)=>Cq W sb d ab F cb ac nc cc h (H.ag g) ⟨f.offset,en⟩ cm);have ec:Hid (en=f.offset+(bl f.data).length):=J (by rw[iE];exact br);replace br:=J br;obtain⟨kind,stream,offset,code,fin,data,ranges⟩:=f;unfold bC at *;simp only at *;obtain⟨S,a8⟩:=í (w.alloc (ο #[I X kind,I X stream,I U offset,I U code,β fin,ς data,rv] 158));have g1:G w S N:=by rw[a8];exact aC _ _ _
 have bt:S.heap[w.heap.size]?=E (ο #[I X kind,I X stream,I U offset,I U code,β fin,ς data,rv] 158 (0,0)):=by rw[a8];exact aM _ _
 let⟨q0,q1,q2,q3,q4,q5,q6⟩:=bQ bt
 have bw:S.heap.size=w.heap.size+1:=by rw[a8];simp
 replace q0:=kc q0;replace q1:=kc q1;replace q2:=kc q2;replace q3:=kc q3;replace q4:=kc q4;replace q5:=kc q5;replace q6:=kc q6;have gr:G S S.drew N:=aK (au _ _);replace⟨bt,bw⟩:=aT bt bw;go_enter func258,ntmps258;go_upto_region 1 with fail;rw[<-a8];clear a8;go_cut [4] (λv wx=>∃B:Nat,v=π (E ⟨B,0,N⟩)/\S.heap.size<=B/\wx.heap[B]?=E (ο #[I U offset,I U en] 341 (0,0))/\G S wx N);case first=>
  go_region_held3 (λp=>G S p N)
   (with_reducible first|exact ao|exact gr|exact aK (aW (au _ _) _)|exact aW gr _|exact aW ao _|exact aD (aD ao _ _ (φ (aP _))) _ _ (φ (aP _)))
   (first
     |(go_at_call 247;apply(Z hE S.drew).mono;rintro e w5⟨rfl,g5⟩;have ao:G S w5 N:=aq gr g5;have gS:=g5.size)
     |(go_at_call 247;apply(Z hE (S.alloc (ο #[I U 0,I U 0] 341)).drew).mono;rintro e w5⟨rfl,g5⟩;have ao:G S w5 N:=aq (aK (aW (au _ _) _)) g5;have bx:=zG g5;let⟨⟨k0,k1⟩,z0,z1⟩:=qA bx;replace bx:=J bx))
  .go_wp2_with fail;go_meet;exact⟨_,Q,ao.size,aM _ _,aW ao _⟩
  go_wp2_with fail;go_meet;exact⟨_,Q,aP _,heap_set (heap_set (Z bx) _) _,aD (aD ao _ _ (φ (aP _))) _ _ (φ (aP _))⟩
 case rest=>
  obtain⟨B,rfl,hB,bA,gB⟩:=hcut;have cp:=aq g1 gB;have ct:G wc wc.drew N:=aK (au _ _);let⟨⟨k0,k1⟩,z0,z1⟩:=qA bA
  have ed:=J (bp (Z bt) gB);replace k0:=kc k0;replace k1:=kc k1;clear q0 q1 q2 q3 q4 q5 q6 gr hE;replace⟨bA,hB⟩:=aT bA hB;go_upto_region 2 with fail;go_region_held3 (λp=>G wc p N)
   (with_reducible first|exact bb|exact ct)
   (first
     |(go_at_call 278;apply(Z hM wc.drew (aq cp ct)).mono;rintro e w6⟨⟨a6,n6,c6,M,rfl,m1,m2,m3,m4,m5⟩,g6⟩;have bb:G wc w6 N:=aq ct g6;replace m1:=J m1;replace m2:=J m2;replace m3:=J m3;replace m4:=J m4;replace m5:=J m5))
  have e6:Hid (M=kK h.af ⟨offset,en⟩):=J (Co (Z m2) (Z m5));have P:=aq cp bb;have a1:=bp dx P;have H6:=H.ag P;have P0:jW w6 sb d L V t (Y ab F cb) (iP h.fr offset (bl data) (M.take 0) h.bytes) (Y ab F cb) w6:=by
   obtain⟨-,c1,-⟩:=H6;rw[ba a1]at c1;exact⟨by rw[vu c1];exact a1,ho.ag P,aj.rfl' _ _,φ Q⟩
  have ee:=J (Z m1).2.1;have gW:=(Z m1).2.2.1;have e8:=(Z m1).2.2.2.1;unfold maxLen at e8;have ax:=Z m1;replace⟨P0,H6,a1,ax⟩:=fB P0 H6 a1 ax;go_wp2;go_loopw [18] (λcv wr=>∃(j:Nat)(v:υ),j<=n6/\cv=I X j/\jW w6 sb d L V t (Y ab F cb) (iP h.fr offset (bl data) (M.take j) h.bytes) v wr/\h.fr+(iP h.fr offset (bl data) (M.take j) h.bytes).length<=4611686018427387903/\(iP h.fr offset (bl data) (M.take j) h.bytes).length<=1000000) (λcv _=>n6-(intOf cv).toNat);case atStart=>exact⟨0,_,O,Q,Z P0,H.2.2.2.2.2.2.1,H.2.2.2.2.2.2.2.2.1⟩
  case round=>
   rename D=>A
   obtain⟨j,v,hj,rfl,q,ei,ej⟩:=hrel;obtain⟨b,a3⟩:=í (iP h.fr offset (bl data) (M.take j) h.bytes);rw[<-a3]at q ei ej;replace a3:=J a3;by_cases g0:j<n6
   .have d1:decide ((j:Int)<n6)=ρ:=α;have i1:(j:Int)<n6:=O;have bM:j<M.length:=by have:=Z ee;omega
    obtain⟨-,-,-,-,h0|⟨b6,o6,rfl,-⟩⟩:=id (Z ax);omega;have ek:¬(b6=sb\/(Y ab F cb).ownBlock=E b6):=by
     have T:=Z m3 ⟨b6,o6,N⟩ Q;have h2:=cp.size;have h3:wc.heap.size=wc.drew.heap.size:=rfl;simp only at T;rintro(u|u);omega;have:=(ho.lt _ u).2;omega
    let⟨y0,y1⟩:=(Z ax).cell j bM
    replace y0:=q.aA.cell y0 ek;replace y1:=q.aA.cell y1 ek;have eo:=oC (Z ax).1 j;have cw:=(Z m2).pos bM;have cx:∀m,(an M j).lo<=m->m<(an M j).hi->(offset<=m/\m<en)/\h.fr<=m/\m<h.fr+900000:=λm ax e9=>by
     have T:=(Z m5 m).1 ⟨_,lL bM,ax,e9⟩;exact⟨T.1,eb m T.1.1 T.1.2 T.2⟩
    have x1:=cx (an M j).lo (fv _) cw;have x2:=cx ((an M j).hi-1) O O;have bj:Hid (iP h.fr offset (bl data) (M.take (j+1)) h.bytes=mW h.fr offset (bl data) b (an M j)):=J (by rw[IW _ _ _ _ _ _ bM,Z a3]);obtain⟨x,hx⟩:=í (an M j);rw[<-hx]at y0 y1 eo cw x1 x2 bj;clear hx cx a3;let⟨s,l⟩:=x
    simp only at y0 y1 cw x1 x2 eo;have gX:=aC A (ο #[I U s,I U l] 341) N;have ak:=q.gb gX;have hX:(A.alloc (ο #[I U s,I U l] 341)).heap[A.heap.size]?=E (ο #[I U s,I U l] 341 (0,0)):=aM _ _;obtain⟨WX,b3⟩:=í (A.alloc (ο #[I U s,I U l] 341));rw[<-b3]at gX ak hX;obtain⟨ob,C,oc,rfl⟩:∃a n c,v=Y a n c:=by
     obtain⟨a,c,e,-⟩:=ak.own.bs;exact⟨_,_,_,e⟩
    have cy:(Y ob C oc).ownBlock≠E sb:=by
     obtain e|e:=ak.new
     rw[e];exact ea;intro e2;have:=e _ e2;have:w.heap.size<=w6.heap.size:=P.size;omega
    have er:(Y ob C oc).ownBlock≠E A.heap.size:=λe=>by have:=(q.own.lt _ e).2;omega
    have P1:jW WX sb d L (V.setIfInBounds (d+1) (Y ob C oc)) t (Y ob C oc) (b++List.replicate 0 0) (Y ob C oc) WX:=⟨by rw[ak.aG];simp,by simpa using ak.own,aj.rfl' _ _,φ Q⟩
    replace⟨P1,ak,q,hX⟩:=fB P1 ak q hX;have a0:Hid (A.heap.size<WX.heap.size):=J (by rw[b3];simp);have fa:=J ch;have fb:Hid (∀(W:D)(i:Nat)(a:Option Addr)(n c:Nat),jW WX sb d L (V.setIfInBounds (d+1) (Y ob C oc)) t (Y ob C oc) (b++List.replicate i 0) (Y a n c) W->i<=(l-h.fr).toNat-b.length->iM W sb d a n c ac nc cc ⟨h.fr,b++List.replicate i 0,h.af⟩):=J (λW i a n c hp hi=>((Z ak).trans hp).hd (Z a1) (Z H6) (Z fa) (by rw[bS,List.length_replicate];omega));go_wp2_with fail;rw[<-b3];clear b3;go_loopg [] ((l-h.fr).toNat-b.length) (λgh wz=>∃(i:Nat)(v:υ),gh=(l-h.fr).toNat-b.length-i/\i<=(l-h.fr).toNat-b.length/\jW WX sb d L (V.setIfInBounds (d+1) (Y ob C oc)) t (Y ob C oc) (b++List.replicate i 0) v wz);case atStart=>exact⟨0,_,O,O,Z P1⟩
    case round=>
     let⟨i,v,g2,hi,z⟩:=hrel
     obtain⟨za,zn,zc,rfl⟩:∃a n c,v=Y a n c:=by
      obtain⟨a,c,e,-⟩:=z.own.bs;exact⟨_,_,_,e⟩
     have a4:=Z fb wr i za zn zc z hi;have c9:=J (λk=>Cw (wr.drewN k) sb d za zn zc ac nc cc ⟨h.fr,b++List.replicate i 0,h.af⟩ (a4.ag (cu (au _ _) k)));have et:(h.fr:Int)+((b++List.replicate i (0:Int)).length:Int)=h.fr+b.length+i:=by rw[bS,List.length_replicate];omega
     simp only[et]at c9;clear et;have da:=(z.aA.block _ (Z a0) (by
      have T:=bG P.size (Z q).aA.size;rintro(u|u);omega
      .exact er u)).trans (Z hX)
     obtain⟨⟨u0,u1⟩,-,-⟩:=qA da;obtain⟨c0,c1,c2,-⟩:=id a4;have g3:sb<wr.heap.size:=eI wr _ c0;have fz:χ wr ⟨sb,d+1,N⟩=θ:=by simp[χ,z.aG]
     replace⟨z,a4,da⟩:=cA z a4 da;by_cases hc:b.length+i<(l-h.fr).toNat
     .have d5:decide (h.fr+(b.length:Int)+(i:Int)<l)=ρ:=α;go_wp2_with fail;go_quiet (first|(go_at_call 196;exact Calls.quiet_of (Z c9 _)));have gq:G wr ((wr.drewN nq).alloc (ο #[I Δ 0] 5)) N:=aW (cu (au _ _) nq) _;have oz:=J ((Z z).own.ag gq);have bz:=J (ph (wr.drewN nq) 0 (by simp[W8]));have g4:L<=wr.heap.size:=by have:=Z a0;have:=(Z z).aA.size;have:=(Z q).aA.size;have:=P.size;omega
      have fc:=J ((Z z).apart (by have:=Z a0;have:=(Z q).aA.size;have:=P.size;omega) cy);have ff:=J (bp (Z z).aG gq);go_wp2_with (at_builtin;go_loud (refine jt Ξ _ _ Ξ L _ (b++List.replicate i 0) Ξ (Z oz) _ _ _ [0] Ξ (Z bz) Ψ Ψ ?_;intro a7 c7 w7 o7 g7 h7;replace o7:=J o7;replace h7:=J h7;have b4:=(g7.block sb Ψ (λe=>Z fc e.symm)).trans (Z ff);have ha:κ w7 ⟨sb,d+1,N⟩=E (Y za zn zc):=((iB (w:=wr) (a:=⟨sb,d+1,N⟩) (b4.trans (Z z).aG.symm)).trans c1);have f7:χ w7 ⟨sb,d+1,N⟩=θ:=(by simp[χ,b4]);replace b4:=J b4;replace g7:=J g7));go_roundg ((l-h.fr).toNat-b.length-(i+1));case measure=>omega
      case rel=>
       have e7:b.length+i+1=(b++List.replicate i (0:Int)).length+[(0:Int)].length:=Γ;refine⟨i+1,Y a7 (b.length+i+1) c7,Q,O,?_⟩
       rw[e7,<-Ji];exact(Z z).app gq (Z o7) (Z g7) (Z h7) (by have:=Z a0;have:=(Z q).aA.size;have:=P.size;omega) cy
     have d5:decide (h.fr+(b.length:Int)+(i:Int)<l)=θ:=é;have ev:Hid (b++List.replicate i 0=pj h.fr b ⟨s,l⟩):=J (by
      unfold pj;congr 2;simp only
      omega)
     have ey:¬(w.heap.size=sb\/(Y ab F cb).ownBlock=E w.heap.size):=by
      rintro(u|u);omega;have:=(ho.lt _ u).2;omega
     have ez:¬(w.heap.size=sb\/(Y ob C oc).ownBlock=E w.heap.size):=by
      rintro(u|u);omega;obtain e|e:=(Z q).new
      exact ey (ψ (e▸u));have h5:=e _ u;have h6:=(aV.1 (Z ed)).1;have h7:=bb.size;omega
     have db:wr.heap[w.heap.size]?=E (ο #[I X kind,I X stream,I U offset,I U code,β fin,ς data,rv] 158 (0,0)):=by
      have h6:=bp (Z ed) bb;have l6:=(aV.1 h6).1;have h7:=((Z q).aA.block _ l6 ey).trans h6;have h8:=bp h7 gX;exact((Z z).aA.block _ (aV.1 h8).1 ez).trans h8
     obtain⟨-,-,q2,-,-,q5,-⟩:=bQ db;replace db:=J db;go_wp2_with fail;go_quiet (first|(go_at_call 196;exact Calls.quiet_of (Z c9 _)));obtain⟨W8,dc⟩:=í (wr.drewN nq);have g8:G wr W8 N:=by rw[dc];exact cu (au _ _) nq
     have P8:=(Z z).gb g8;rw[Z ev]at P8;have H8:=(Z a4).ag g8;rw[Z ev]at H8;have b5:(pj h.fr b ⟨s,l⟩).length=max b.length (l-h.fr).toNat:=xG _ _ _;have eK:=J (λW(g:G W8 W N)=>Cz W sb d za zn zc ac nc cc ⟨h.fr,pj h.fr b ⟨s,l⟩,h.af⟩ (H8.ag g) (s-h.fr).toNat (l-h.fr).toNat O (by rw[b5];omega) s l (by simp only;omega) (by simp only;omega));obtain⟨k9,b7⟩:∃k:Nat,(k:Int)=s-offset:=⟨(s-offset).toNat,O⟩
     have hg:U.wrap (s-offset)=(k9:Int):=by rw[<-b7,cZ];omega
     have hh:(k9:Int)<=data.size:=by have:=Z ec;rw[iE]at this;omega
     have hn:k9<=data.size:=O;replace b7:=J b7;obtain⟨ai,rfl⟩:∃g,za=E ⟨g,0,N⟩:=by
      obtain⟨-,e⟩|⟨g,-,e,-⟩:=BN P8.own
      have:=P8.own.eV.2.1;omega;exact⟨g,e⟩
     have fi:=J P8.own.eV.2.1;obtain⟨p9,b8⟩:=í ((s-h.fr).toNat);obtain⟨q9,ca⟩:=í ((l-h.fr).toNat);have fo:p9<q9:=O;rw[<-b8,<-ca]at eK;have fy:Hid (p9+((bl (data.extract k9 data.size)).take (q9-p9)).length<=zn):=J (by rw[Z fi,b5,dK];omega);replace⟨b8,ca⟩:=aT b8 ca;have n0:ai≠A.heap.size:=by
      obtain e|e:=(Z z).new
      exact λe2=>er (by rw[<-e,<-e2];rfl)
      have T:=e ai Q;have h2:=Z a0;omega
     have n1:ai≠w.heap.size:=by
      obtain e|e:=(Z z).new
      exact λe2=>ez (ψ (by rw[<-e,<-e2];rfl))
      have T:=e ai Q;have h2:=Z a0;have h3:=(Z q).aA.size;have u:=P.size;omega
     have r0:=kg (ì g8 u0) n0.symm;have r1:=kg (ì g8 u1) n0.symm;have r2:=kg (ì g8 q2) n1.symm;have r5:=kg (ì g8 q5) n1.symm;have eL:G W8 W8.drew N:=aK (au _ _);have fA:G W8 W8.drew (E ai):=aK (au _ _);clear u0 u1 q2 q5 c0 c1 c2 fz;replace⟨P8,b5⟩:=aT P8 b5;go_upto_region 7 with fail;rw[<-dc];clear dc;go_region_held3 (λp=>G W8 p (E ai))
      (with_reducible first|exact ga|exact cf|exact fA)
      (first
        |(go_at_call 285;apply(Z eK W8.drew eL).mono;rintro e w9⟨a9,rfl,gd,eS,g9⟩;have de:G W8 w9 N:=aq eL g9;have cf:G W8 w9 (E ai):=cK de _;clear gd;obtain rfl:a9=E ⟨ai,p9,N⟩:=(eS.2 fo).trans (by simp only[tv,Addr.add_lit,eM]);clear eS)
        |(refine IN _ _ Ξ Ξ L ai p9 zn zc _ _ Ξ _ Ξ (pj h.fr b ⟨s,l⟩) ((Z P8).own.ag de) (Z fy) ?_;intro gf dg dk;replace dg:=J dg;have ga:=aq cf dk))
     have dm:jW WX sb d L (V.setIfInBounds (d+1) (Y ob C oc)) t (Y ob C oc) (mW h.fr offset (bl data) b ⟨s,l⟩) (Y (E ⟨ai,0,N⟩) zn zc) gf:=by
      have e1:mW h.fr offset (bl data) b ⟨s,l⟩=splice (pj h.fr b ⟨s,l⟩) p9 ((bl (data.extract k9 data.size)).take (q9-p9)):=by
       have T:=Z b7;have h2:=Z b8;have h3:=Z ca;unfold mW;rw[IK];simp only
       rw[show(s-offset).toNat=k9 by omega,show(l-s).toNat=q9-p9 by omega,<-h2]
      rw[e1];have P9:=(Z P8).gb de;refine⟨?_,Z dg,?_,P9.new⟩
      rw[dk.block sb (eI _ _ (by rw[ba P9.aG];exact(by have:=(Z a4).2.1;rw[ba (Z z).aG]at this;exact this))) (λe=>(Z P8).apart (by have:=Z a0;have:=(Z q).aA.size;have:=P.size;omega) cy e.symm)];exact P9.aG;refine(P9.aA.trans (aj.of dk)).mono (λk hk K=>?_);obtain K|K:=K
      exact K;obtain e|e:=P9.new
      exact ψ (by rw[<-e];exact K);have:=e k K;omega
     have dn:=(Z ak).trans dm;replace⟨dn,dm⟩:=aT dn dm;go_wp2;go_roundw;case measure=>simp[intOf];omega
     case rel=>
      refine⟨j+1,_,O,Γ,by rw[Z bj];exact Z dn,?_⟩
      have ht:=Z ec;rw[Z bj,Cp (x:=⟨s,l⟩) (by simp only;omega) (by simp only;omega) (by simp only;omega) (by simp only;omega)];simp only
      omega
   have d1:decide ((j:Int)<n6)=θ:=é;obtain rfl:j=n6:=O;obtain⟨ob,C,oc,rfl⟩:∃a n c,v=Y a n c:=by
    obtain⟨a,c,e,-⟩:=q.own.bs;exact⟨_,_,_,e⟩
   have gg:Hid (b=iP h.fr offset (bl data) (kK h.af ⟨offset,en⟩) h.bytes):=J (by rw[Z a3,<-Z e6,Z ee,kC]);have Hq:=q.hd (Z a1) (Z H6) ch ⟨ei,ej⟩;have du:B≠sb:=by have:=Z hB;have:=Z bw;omega
   have e3:A.heap[B]?=E (ο #[I U offset,I U en] 341 (0,0)):=by
    have h6:=bp (Z bA) bb;refine(q.aA.block B (aV.1 h6).1 ?_).trans h6;rintro(u|u);exact du u;have:=(ho.lt _ u).2;have:=Z hB;have:=Z bw;omega
   obtain⟨⟨s0,s1⟩,-,-⟩:=qA e3;replace s0:=kg (n:=sb) s0 du;replace s1:=kg (n:=sb) s1 du;have al:=q.gb (aK (au A N));have hA:=J (zr A.drew sb (d+2) (V.setIfInBounds (d+1) (Y ob C oc)) t ac nc cc h.af ⟨offset,en⟩ al.aG (by have:=Hq.2.2.1;rwa[ba q.aG]at this) (Hq.2.2.2.2.1.ag (aK (au A N))) (λy e=>(ch y e).1) Hq.2.2.2.2.2.2.2.1 cm (by have T:=Hq.2.2.2.2.1.2.1;have h2:=Hq.2.2.2.2.2.2.2.2.2;simp only at T h2;omega));have e4:G A A.drew (E sb):=aK (au _ _);obtain⟨R,hR⟩:=í (λp:D=>∃a n c a2 n2 c2,p.heap[sb]?=E (ο ((V.setIfInBounds (d+1) (Y a n c)).setIfInBounds (d+2) (Y a2 n2 c2)) t (0,0))/\aS p L (Y a n c) b/\bq p a2 n2 c2 (eu h.af ⟨offset,en⟩)/\aj w p (λk=>k=sb\/(Y ab F cb).ownBlock=E k)/\((Y a n c).ownBlock=(Y ab F cb).ownBlock\/∀k,(Y a n c).ownBlock=E k->w.heap.size<=k)/\((a2=ac/\n2=nc/\c2=cc)\/∀y,a2=E y->w.heap.size<=y.block/\y.block<p.heap.size/\(Y a n c).ownBlock≠E y.block));have bj:Hid (∀p,vp A.drew p sb (d+2) ac nc cc h.af (λl'=>l'.length<=h.af.length+1/\∀m,Sm l' m↔Sm h.af m\/(offset<=m/\m<en))->R p):=J (by
    rintro p⟨a',n',c',l',⟨gu,hu⟩,hr,gi,gj,-,hq⟩;have e1:l'=eu h.af ⟨offset,en⟩:=xE Hq.2.2.2.2.2.2.2.1 gj hq;have gl:=al.apart (by have:=P.size;omega) ea;have gm:aj w w6 (λ_=>False):=(aj.of P).mono (nofun);have gn:=P.size;rw[hR];refine⟨ob,C,oc,a',n',c',hu _ _ al.aG,al.own.gb gu (ψ gl),e1▸hr,((gm.trans al.aA).trans (aj.of gu)).mono (λk _ K=>?_),?_,?_⟩
    obtain(K|K)|K:=K
    exact K.elim;exact K;exact φ (aR K).symm;exact al.new.imp id (λe k hk=>bG gn (e k hk))
    .refine gi.imp (λh=>⟨h.1,h.2.1,h.2.2.1⟩) (λe y hy=>⟨?_,(e y hy).2,λe2=>?_⟩);have:=(e y hy).1;have:=al.aA.size;omega
     .have:=(e y hy).1;have:=(al.own.lt _ e2).2;omega)
   replace hR:=J hR;clear Hq e3 al;replace q:=J q;go_wp2_with fail;go_region_held3 (λp=>G A p (E sb))
    (with_reducible first|exact cf|exact e4)
    (first|(go_at_call 215;apply(Z hA).mono;rintro e w9⟨rfl,dv⟩;have cf:G A w9 (E sb):=(by obtain⟨a',n',c',l',⟨gu,-⟩,-⟩:=dv;exact aq e4 gu);have gw:=J (Z bj _ dv);clear dv))
   go_wp2_with fail;have e5:=Z gw;rw[Z hR,Z gg]at e5;exact eP (dV Q _ _ _) Q ⟨Q,e5⟩
def Wr(d:D)(f:Fr)(k l:υ)(p:List Int):Prop:=
 ∃F g,l=.func (.func F) #[] g/\(∀args w,(callFunc F args).run prog w=.ok (.enter F args) w)/\∀(w:D)(b:Nat)(a:Option Addr)(n c:Nat)(m:List Int),G d w N->d.heap.size<=b->b<=w.heap.size->aS w b (Y a n c) m->m.length+16*f.ranges.length+f.data.size<=79000000->
  Calls prog F (#[Y a n c,ε (bC f k)]++g) w λe q=>∃h i j,e=ξ (Y h i j)/\cL w b (Y a n c) q (Y h i j) (m++p)
def Ky(args:Array υ)(w:D):(callFunc 272 args).run prog w=.ok (.enter 272 args) w:=Φ
def Dd(args:Array υ)(w:D):(callFunc 275 args).run prog w=.ok (.enter 275 args) w:=Φ
def Kz(args:Array υ)(w:D):(callFunc 269 args).run prog w=.ok (.enter 269 args) w:=Φ
def KA(args:Array υ)(w:D):(callFunc 265 args).run prog w=.ok (.enter 265 args) w:=Φ
def De(a:Nat)(w:D):Calls prog 230 #[π (E ⟨a,0,N⟩)] w λe b=>e=ξ (π (E ⟨a,2,N⟩))/\b=w:=by
 go_enter func230,ntmps230;go_wp2;go_ret;exact⟨Q,Q⟩
def Df(a:Nat)(w:D):Calls prog 231 #[π (E ⟨a,0,N⟩)] w λe b=>e=ξ (π (E ⟨a,3,N⟩))/\b=w:=by
 go_enter func231,ntmps231;go_wp2;go_ret;exact⟨Q,Q⟩
def zV(g:D)(f:Fr)(h:υ)(B:Nat)(i:κ g ⟨B,0,N⟩=E (.func (.func 230) #[] #[]))(j:cR f.offset):
 Wr g f h (.func (.func 275) #[] #[π (E ⟨B,0,N⟩)]) (aN f.offset):=by
 refine⟨_,_,Q,Dd,λw u a n c m l v p q hl=>?_⟩
 let⟨k,s,o,cd,fin,d,rg⟩:=f
 have x:(w.alloc (ο #[I X k,I X s,I U o,I U cd,β fin,ς d,h] 158)).cell? ⟨B,0,N⟩=E (.func (.func 230) #[] #[]):=(aC w _ N).cell (ì l i) Γ;have b:=λob=>(cL.refl q).still (aC w ob N)
 simp only[bC]at *;replace b:=J b;go_enter func275,ntmps275;go_wp2_with fail;apply(De _ _).mono;rintro e y⟨rfl,rfl⟩;go_wp2_with fail;apply(qH (Z b _) j p O).mono;rintro e z⟨r,n2,c2,rfl,t,-⟩;go_wp2;go_ret;exact⟨r,n2,c2,Q,t⟩
def Dg(g:D)(f:Fr)(h:υ)(B:Nat)(i:κ g ⟨B,0,N⟩=E (.func (.func 231) #[] #[]))(j:cR f.code):
 Wr g f h (.func (.func 275) #[] #[π (E ⟨B,0,N⟩)]) (aN f.code):=by
 refine⟨_,_,Q,Dd,λw u a n c m l v p q hl=>?_⟩
 let⟨k,s,o,cd,fin,d,rg⟩:=f
 have x:(w.alloc (ο #[I X k,I X s,I U o,I U cd,β fin,ς d,h] 158)).cell? ⟨B,0,N⟩=E (.func (.func 231) #[] #[]):=(aC w _ N).cell (ì l i) Γ;have b:=λob=>(cL.refl q).still (aC w ob N)
 simp only[bC]at *;replace b:=J b;go_enter func275,ntmps275;go_wp2_with fail;apply(Df _ _).mono;rintro e y⟨rfl,rfl⟩;go_wp2_with fail;apply(qH (Z b _) j p O).mono;rintro e z⟨r,n2,c2,rfl,t,-⟩;go_wp2;go_ret;exact⟨r,n2,c2,Q,t⟩
def zW(g:D)(f:Fr)(h:υ)(q:0<=f.stream)(r:f.stream<4):
 Wr g f h (.func (.func 265) #[] #[]) (aN f.stream):=by
 refine⟨_,_,Q,KA,λw t a n c m u v i j hl=>?_⟩
 let⟨k,s,o,cd,fin,d,rg⟩:=f
 have b:=λob=>(cL.refl j).still (aC w ob N)
 simp only[bC]at *;replace b:=J b;go_enter func265,ntmps265;go_wp2_with fail;apply(qH (Z b _) ⟨O,O⟩ i O).mono;rintro e x⟨l,n2,c2,rfl,p,-⟩;go_wp2;go_ret;exact⟨l,n2,c2,Q,p⟩
def KB(b:D)(f:Fr)(i:υ)(h:cD b f i)(j:gP f.ranges):
 Wr b f i (.func (.func 269) #[] #[]) (fS f.ranges):=by
 obtain⟨-,-,ra,l,rfl,p⟩:=h;refine⟨_,_,Q,Kz,λw q a n c m r t z g hl=>?_⟩
 let⟨k,s,o,cd,fin,d,rg⟩:=f
 have u:=g.eV.2.1;subst u;have A:m.length+16*rg.length+d.size<=79000000:=hl;have v:=J (λob=>Da b (w.alloc ob) q a c m ra rg.length l rg (g.ag (aC w ob N)) (aW r ob) t p j Ψ O);simp only[bC]at *;go_enter func269,ntmps269;go_wp2_with fail;apply(Z v _).mono;rintro e B⟨x,n2,c2,rfl,y⟩;go_wp2;go_ret;exact⟨x,n2,c2,Q,(Z (J (λob=>(cL.refl g).still (aC w ob N))) _).trans y⟩
def Dh(z:D)(f:Fr)(q:υ):
 Wr z f q (.func (.func 272) #[] #[]) (aN f.data.size++bl f.data):=by
 refine⟨_,_,Q,Ky,λw A a n c m T V y r hl=>?_⟩
 let⟨k,s,o,cd,fin,d,rg⟩:=f
 have g:=λob=>(cL.refl r).still (aC w ob N)
 simp only[bC]at *;have hw:U.wrap (d.size:Int)=(d.size:Int):=by rw[cZ];omega
 obtain⟨b,i⟩:=í (w.alloc (ο #[I X k,I X s,I U o,I U cd,β fin,ς d,q] 158));have B:b.heap[w.heap.size]?=E (ο #[I X k,I X s,I U o,I U cd,β fin,ς d,q] 158 (0,0)):=by rw[i];exact aM _ _
 have t:b.heap.size=w.heap.size+1:=by rw[i];simp
 have j:∀W:D,W.heap[w.heap.size]?=b.heap[w.heap.size]? ->κ W ⟨w.heap.size,5,N⟩=E (ς d):=λW h=>by
  rw[xS h];simp[κ,B]
 have C:=j b.drew Q;have ak:=eQ (d.size:Int);replace g:=g (ο #[I X k,I X s,I U o,I U cd,β fin,ς d,q] 158);rw[<-i]at g;replace⟨g,j,t,r⟩:=fB g j t r;go_enter func272,ntmps272;go_wp2_with fail;rw[<-i];replace i:=J i;go_region_held3 (λF=>κ F ⟨w.heap.size,5,N⟩=E (ς d)) (with_reducible first|exact H|exact K|exact C)
  (first
    |(go_at_call 266;apply(qH ((Z g).still (aK (au _ _))) ⟨O,O⟩ y O).mono;rintro e L⟨a2,n2,c2,rfl,l,u⟩;have p:=u.box (Z r) (by have:=Z t;show _<b.heap.size;omega);have K:=Z j L p.1;replace p:=J p;replace u:=J u;replace l:=J l)
    |(refine Kx Ξ _ _ Ξ A _ (m++aN (d.size:Int)) Ξ (Z l).own d Ξ (by rw[bS];omega) (bG y (Z l).size) ?_;intro M P c3 R x v S;have H:=Z j R ((v.block w.heap.size (by have:=(Z u).size;have:=Z t;have:b.drew.heap.size=b.heap.size:=rfl;omega) (λe=>(Z p).2 e.symm)).trans (Z p).1);replace v:=J v;replace x:=J x))
 go_wp2;go_ret;exact⟨M,P,c3,Q,by rw[<-eF];exact(Z l).app (au _ _) (Z x) (Z v) S⟩
def jd:List (List Int)->List Int
 |[]=>[]
 |x::r=>x++jd r
def Di(l r:List (List Int)):jd (l++r)=jd l++jd r:=by
 induction l with
 |nil=>rfl
 |cons x l a=>simp[jd,a]
def KC(l:List (List Int))(j:Nat)(h:j<l.length):jd (l.take (j+1))=jd (l.take j)++l.getD j []:=by
 rw[oa h,Di,List.getD,dB h];simp[jd]
def KD(l:List (List Int))(j:Nat):(jd (l.take j)).length<=(jd l).length:=by
 have h:=fR List.length (fR jd (qp j l));rw[Di,bS]at h;omega
def Dj(b:D)(f:Fr)(e g:υ)(a:List (List Int)):Prop:=
 ∃pa c,g=Y pa a.length c/\a.length<=3/\a.length<=c/\(a=[]\/∃P,pa=E ⟨P,0,N⟩/\∀i,i<a.length->∃d R h,κ b ⟨P,i*2,N⟩=E d/\κ b ⟨P,i*2+1,N⟩=E (.func (.func R) #[] h)/\Wr b f e d (a.getD i []))
def KE{a c g:Obj}(d:(((w.alloc a).alloc c).alloc g).grownBy W e)(f:∀j,e=E j->j<w.heap.size):W.heap[w.heap.size]?=E a/\W.heap[w.heap.size+1]?=E c:=by
 constructor;rw[d.block w.heap.size Ψ (λb=>by have:=f _ b.symm;omega),fE _ _ _ Ψ,fE _ _ _ Γ];exact aM _ _;rw[d.block (w.heap.size+1) Γ (λb=>by have:=f _ b.symm;omega),fE _ _ _ Γ,<-dJ w a];exact aM _ _
def KF(W0:D)(f:Fr)(x pv:υ)(g:List (List Int))(k0:Int)(al:Bool)(t:Int)(ht:W8 t)(hp:Dj W0 f x pv g)
 (w:D) (q:Nat) (a:Option Addr) (n c:Nat) (m:List Int) (g0:G W0 w N) (a4:W0.heap.size<=q) (ca:q<=w.heap.size) (M:aS w q (Y a n c) m) (hl:m.length+1+(jd g).length+16*f.ranges.length+f.data.size<=79000000):
 Calls prog 193 #[ε #[I X k0,β al,I Δ t,pv],Y a n c,ε (bC f x)] w λe w'=>∃y z A,e=ξ (Y y z A)/\cL w q (Y a n c) w' (Y y z A) (m++(t::jd g)):=by
 obtain⟨pa,pc,rfl,bM,b3,ax⟩:=hp;let⟨k,s,o,cd,fin,d,rg⟩:=f
 have cc:m.length+1+(jd g).length+16*rg.length+d.size<=79000000:=hl;have hn:=M.eV.2.1;subst hn;simp only[bC]at *;have gW:G w ((w.alloc (ο #[I X k0,β al,I Δ t,Y pa g.length pc] 317)).alloc (ο #[I X k,I X s,I U o,I U cd,β fin,ς d,x] 158)) N:=aW (aW (au _ _) _) _;have S:=ph ((w.alloc (ο #[I X k0,β al,I Δ t,Y pa g.length pc] 317)).alloc (ο #[I X k,I X s,I U o,I U cd,β fin,ς d,x] 158)) t ht;have T:=((cL.refl M).still gW).still (aC _ (ο #[I Δ t] 5) N);rw[dJ,dJ]at S;replace⟨T,S⟩:=aT T S;have a8:=J (λj(e:(Y a m.length c).ownBlock=E j)=>(M.lt j e).2);go_enter func193,ntmps193;go_wp2_with (at_builtin;refine jt Ξ _ _ Ξ q _ m Ξ (Z (J T.own)) _ _ _ [t] Ξ (Z S) ?_ ?_ ?_;(simp;omega);(simp;omega);intro C c3 w3 o3 V W;let⟨bb,a1⟩:=KE V (Z a8);replace bb:κ w3 ⟨w.heap.size,3,N⟩=E (Y pa g.length pc):=(by simp[κ,bb]);replace o3:=J o3;replace V:=J V;replace W:=J W;replace a1:=J a1);have b6:Hid (cL w q (Y a m.length c) w3 (Y C (m.length+1) c3) (m++[t])):=J ((Z T).app (au _ _) (Z o3) (Z V) (Z W));have b7:Hid ((Y C (m.length+1) c3).ownBlock≠E (w.heap.size+1)):=J (by
  have g5:(Y C (m.length+1) c3).ownBlock=(Y a m.length c).ownBlock\/(Y C (m.length+1) c3).ownBlock=E (((w.alloc _).alloc _).alloc _).heap.size:=Z W;obtain e|e:=g5
  rw[e];exact λh=>by have:=Z a8 _ h;omega
  .rw[e];simp;omega)
 obtain⟨H,r⟩:=í g.length;rw[<-r];rw[<-r]at bM b3;replace r:=J r;go_loopw [1,17] (λv i wr=>∃(j:Nat)(y:Option Addr)(z A:Nat),j<=H/\i=I X j/\v=Y y z A/\cL w q (Y a m.length c) wr v (m++t::jd (g.take j))/\v.ownBlock≠E (w.heap.size+1)/\wr.heap[w.heap.size+1]?=E (ο #[I X k,I X s,I U o,I U cd,β fin,ς d,x] 158 (0,0))) (λ_ i _=>H-(intOf i).toNat);case atStart=>exact⟨0,C,_,c3,O,Q,Q,by simpa [jd]using Z b6,Z b7,Z a1⟩
 case round=>
  obtain⟨j,y,z,A,hj,rfl,rfl,u,a2,K⟩:=hrel;by_cases ch:j<H
  .obtain rfl|⟨P,rfl,ax⟩:=ax
   have:=Z r;simp at this;omega;obtain⟨wv,R,l,q1,q2,F,p,rfl,hE,hF⟩:=ax j (by have:=Z r;omega);have L:=u.jc g0 M a4;replace q1:=ì L q1;replace q2:=ì L q2;have b:∀ob,(wr.alloc ob).heap[w.heap.size+1]?=E (ο #[I X k,I X s,I U o,I U cd,β fin,ς d,x] 158 (0,0)):=λob=>by
    rw[fE _ _ _ (aV.1 K).1];exact K
   replace b:=b (ο #[.func (.func F) #[] p,.func (.func R) #[] l] 356);have r0:(wr.alloc (ο #[.func (.func F) #[] p,.func (.func R) #[] l] 356)).cell? ⟨w.heap.size+1,0,N⟩=E (I X k):=by simp only[κ,b];rfl
   have r1:(wr.alloc (ο #[.func (.func F) #[] p,.func (.func R) #[] l] 356)).cell? ⟨w.heap.size+1,1,N⟩=E (I X s):=by simp only[κ,b];rfl
   have r2:(wr.alloc (ο #[.func (.func F) #[] p,.func (.func R) #[] l] 356)).cell? ⟨w.heap.size+1,2,N⟩=E (I U o):=by simp only[κ,b];rfl
   have r3:(wr.alloc (ο #[.func (.func F) #[] p,.func (.func R) #[] l] 356)).cell? ⟨w.heap.size+1,3,N⟩=E (I U cd):=by simp only[κ,b];rfl
   have r4:(wr.alloc (ο #[.func (.func F) #[] p,.func (.func R) #[] l] 356)).cell? ⟨w.heap.size+1,4,N⟩=E (β fin):=by simp only[κ,b];rfl
   have r5:(wr.alloc (ο #[.func (.func F) #[] p,.func (.func R) #[] l] 356)).cell? ⟨w.heap.size+1,5,N⟩=E (ς d):=by simp only[κ,b];rfl
   have r6:(wr.alloc (ο #[.func (.func F) #[] p,.func (.func R) #[] l] 356)).cell? ⟨w.heap.size+1,6,N⟩=E x:=by simp only[κ,b];rfl
   have i1:(0:Int)<=j:=O;have i2:(j:Int)<H:=O;replace⟨K,b,hF,u,L,a2⟩:=mY K b hF u L a2;go_wp2_with fail;refine(Z hF (wr.alloc (ο #[.func (.func F) #[] p,.func (.func R) #[] l] 356)) q y z A _ (aW (Z L) _) a4 ?_ ((Z u).still (aC _ _ _)).own ?_).mono ?_;have:=(Z u).size;simp;omega;have:=KD g j;simp only[bS,dY];omega;rintro e w5⟨a5,n5,c5,rfl,G5⟩;have bw:=G5.apart (B:=w.heap.size+1) (by have:=(aV.1 (Z K)).1;simp;omega) (Z a2);go_wp2;go_roundw;case rel=>
    refine⟨j+1,a5,n5,c5,O,Γ,Q,?_,bw.2,bw.1.trans (Z b)⟩
    rw[KC g j (by have:=Z r;omega)];have:=((Z u).still (aC _ _ _)).trans G5;simpa [eF]using this
   case measure=>simp[intOf];omega
  obtain rfl:j=H:=O;go_wp2;go_ret;refine⟨y,z,A,Q,?_⟩
  rw[oe (by rw[<-Z r];exact aP _)]at u;exact u
def eR(l:List Fr)(i:Nat):Fr:=l.getD i (bL 0 θ)
def lq(w:D)(a:Option Addr)(n c:Nat)(fs:List Fr):Prop:=
 n=fs.length/\n<=c/\c<=maxLen/\(c=0\/∃b o,a=E ⟨b,o,N⟩/\∀i,i<fs.length->∃d,cD w (eR fs i) d/\w.rangeAt b (o+i*7) (iN (eR fs i) d))
def lq.ag{fs:List Fr}(h:lq w a n k fs)(g:G w W N):lq W a n k fs:=by
 let⟨d,e,f,c⟩:=h
 refine⟨d,e,f,?_⟩
 obtain c|⟨b,o,rfl,c⟩:=c
 omega;refine ψ ⟨b,o,Q,λi hi=>?_⟩;let⟨j,l,m⟩:=c i hi
 exact⟨j,l.ag g,jE m g Γ⟩
def lq.at{fs:List Fr}(h:lq w (E ⟨b,o,N⟩) n k fs)(i:Nat)(hi:i<fs.length):∃a,cD w (eR fs i) a/\w.rangeAt b (o+i*7) (iN (eR fs i) a):=by
 obtain⟨c,d,-,h|⟨f,g,e,h⟩⟩:=h;omega;grind
def xU{l:List Fr}(h:j<l.length):eR l j=l[j]:=by unfold eR;rw[List.getD,dB h];rfl
def Dn(l r:List Fr):fh (l++r)=fh l+fh r:=by
 induction l with
 |nil=>simp[fh]
 |cons f l a=>simp only[rU,fh,a];omega
def Dp{l:List Fr}(h:j<l.length):fh (l.take j)+kX (eR l j)<=fh l:=by
 have a:=fR fh (qp (j+1) l);rw[Dn,oa h,Dn]at a;simp only[fh]at a;rw[xU h];omega
def KL(h:∀j,j<7->¬((bJ (cG n i l m o) j).k=u.kind/\(bJ (cG n i l m o) j).fin=(u.fin&&decide (u.kind=5)))):¬(1<=u.kind/\u.kind<=6):=by
 intro b;have e:u.kind=1\/u.kind=2\/u.kind=3\/u.kind=4\/u.kind=5\/u.kind=6:=O;obtain e|e|e|e|e|e:=e
 exact h 0 O (by rw[e];simp[bJ,cG]);exact h 1 O (by rw[e];simp[bJ,cG]);exact h 2 O (by rw[e];simp[bJ,cG]);exact h 3 O (by rw[e];simp[bJ,cG]);cases a:u.fin;exact h 4 O (by rw[e,a];simp[bJ,cG]);exact h 5 O (by rw[e,a];simp[bJ,cG]);exact h 6 O (by rw[e];simp[bJ,cG])
def KM(a:j<7)(b:(bJ (cG n i l m o) j).k=u.kind):1<=u.kind/\u.kind<=6:=by
 rw[<-b];obtain rfl|rfl|rfl|rfl|rfl|rfl|rfl:=rD a<;>simp[bJ,cG]
def KN{f p:Nat}(h:kr W l m o b k i f p)(r:cD W u x)(hs:cT u)(z:j<7)(d:(bJ (cG m o b k i) j).k=u.kind)(g:(bJ (cG m o b k i) j).fin=(u.fin&&decide (u.kind=5))):
 ∃y,Dj W u x (Y (bJ (cG m o b k i) j).pa (bJ (cG m o b k i) j).n (bJ (cG m o b k i) j).n) y/\cH u=(bJ (cG m o b k i) j).t::jd y/\W8 (bJ (cG m o b k i) j).t:=by
 obtain⟨⟨b1,b2,s,v⟩,⟨A,B⟩,-,-⟩:=hs;have w:cR u.offset:=⟨r.1.2.2.1.1,b1⟩
 have vc:cR u.code:=⟨r.1.2.2.2.1.1,b2⟩
 obtain rfl|rfl|rfl|rfl|rfl|rfl|rfl:=rD z
 have a:u.kind=1:=d.symm;exact⟨[],⟨_,0,Q,Γ,Γ,φ Q⟩,by simp[cH,a,jd,bJ,cG],by simp[W8,bJ,cG]⟩
 have a:u.kind=2:=d.symm;exact⟨[],⟨_,0,Q,Γ,Γ,φ Q⟩,by simp[cH,a,jd,bJ,cG],by simp[W8,bJ,cG]⟩
 have a:u.kind=3:=d.symm;refine⟨[fS u.ranges],⟨E ⟨m,0,N⟩,1,Q,Γ,Γ,ψ ⟨m,Q,λc hi=>?_⟩⟩,by simp[cH,a,jd,bJ,cG],by simp[W8,bJ,cG]⟩
 obtain rfl:c=0:=by simpa using hi
 exact⟨rW,_,_,h.p2 0 _ Q,h.p2 1 _ Q,KB W u x r (A a)⟩
 have a:u.kind=4:=d.symm;refine⟨[aN u.stream,aN u.code,aN u.offset],⟨E ⟨o,0,N⟩,3,Q,Γ,Γ,ψ ⟨o,Q,λc hi=>?_⟩⟩,by simp[cH,a,jd,bJ,cG],by simp[W8,bJ,cG]⟩
 have e:c=0\/c=1\/c=2:=by simp at hi;omega
 obtain rfl|rfl|rfl:=e
 exact⟨sW,_,_,h.p3 0 _ Q,h.p3 1 _ Q,zW W u x s v⟩
 exact⟨_,_,_,h.p3 2 _ Q,h.p3 3 _ Q,Dg W u x p h.bc vc⟩
 exact⟨_,_,_,h.p3 4 _ Q,h.p3 5 _ Q,zV W u x f h.bo w⟩
 have a:u.kind=5:=d.symm;have q:u.fin=θ:=by rw[a]at g;simpa [bJ,cG]using g.symm
 refine⟨[aN u.stream,aN u.offset,aN u.data.size++bl u.data],⟨E ⟨b,0,N⟩,3,Q,Γ,Γ,ψ ⟨b,Q,λc hi=>?_⟩⟩,by simp[cH,a,q,jd,bJ,cG],by simp[W8,bJ,cG]⟩
 have e:c=0\/c=1\/c=2:=by simp at hi;omega
 obtain rfl|rfl|rfl:=e
 exact⟨sW,_,_,h.p4 0 _ Q,h.p4 1 _ Q,zW W u x s v⟩
 exact⟨_,_,_,h.p4 2 _ Q,h.p4 3 _ Q,zV W u x f h.bo w⟩
 exact⟨bW,_,_,h.p4 4 _ Q,h.p4 5 _ Q,Dh W u x⟩
 have a:u.kind=5:=d.symm;have q:u.fin=ρ:=by rw[a]at g;simpa [bJ,cG]using g.symm
 refine⟨[aN u.stream,aN u.offset,aN u.data.size++bl u.data],⟨E ⟨k,0,N⟩,3,Q,Γ,Γ,ψ ⟨k,Q,λc hi=>?_⟩⟩,by simp[cH,a,q,jd,bJ,cG],by simp[W8,bJ,cG]⟩
 have e:c=0\/c=1\/c=2:=by simp at hi;omega
 obtain rfl|rfl|rfl:=e
 exact⟨sW,_,_,h.p5 0 _ Q,h.p5 1 _ Q,zW W u x s v⟩
 exact⟨_,_,_,h.p5 2 _ Q,h.p5 3 _ Q,zV W u x f h.bo w⟩
 exact⟨bW,_,_,h.p5 4 _ Q,h.p5 5 _ Q,Dh W u x⟩
 have a:u.kind=6:=d.symm;refine⟨[aN u.code],⟨E ⟨i,0,N⟩,1,Q,Γ,Γ,ψ ⟨i,Q,λc hi=>?_⟩⟩,by simp[cH,a,jd,bJ,cG],by simp[W8,bJ,cG]⟩
 obtain rfl:c=0:=by simpa using hi
 exact⟨_,_,_,h.p6 0 _ Q,h.p6 1 _ Q,Dg W u x p h.bc vc⟩
structure Gx(w a:D)(b c:Nat):Prop where
 os:a.os=w.os
 tape:a.tape=w.tape
 output:a.output=w.output
 size:w.heap.size<=a.heap.size
 block:∀k,k<w.heap.size->k≠b->k≠c->a.heap[k]?=w.heap[k]?
def Gx.refl(w:D)(a b:Nat):Gx w w a b:=⟨Q,Q,Q,aP _,λ_ _ _ _=>rfl⟩
def Gx.trans(h:Gx w W n j)(k:Gx W v n j):Gx w v n j:=
 ⟨k.os.trans h.os,k.tape.trans h.tape,k.output.trans h.output,bG h.size k.size,λi hi a b=>(k.block i (bX hi h.size) a b).trans (h.block i hi a b)⟩
def Gx.of{X Y:Nat}{r:Option Nat}(g:G w W r)(a:∀k,r=E k->k=X\/k=Y\/w.heap.size<=k):Gx w W X Y:=
 ⟨g.os,g.tape,g.output,g.size,λk b c d=>g.block k b (λe=>by obtain h|h|h:=a k e.symm;exact c h;exact d h;omega)⟩
def Gx.set{w:D}(h:Gx w W n i)(p:Addr)(v:υ)(e:p.block=n\/p.block=i\/w.heap.size<=p.block):Gx w (ζ W p v) n i:=
 ⟨h.os,h.tape,h.output,by simpa [ζ]using h.size,λk c a b=>by
  rw[dr _ _ _ _ (by rintro rfl;obtain e|e|e:=e<;>first|exact a e|exact b e|omega)];exact h.block k c a b⟩
def Gx.gb{w:D}(h:Gx w W n i)(hY:w.heap.size<=i):G w W (E n):=
 ⟨h.os,h.tape,h.output,h.size,λk a b=>h.block k a (λe=>b (by rw[e])) O⟩
def Gx.cell(h:Gx w W n k)(a:κ w ⟨b,i,N⟩=E x)(c:b≠n)(d:b≠k):κ W ⟨b,i,N⟩=E x:=
 (xS (h.block b (eI w ⟨b,i,N⟩ a) c d) i).trans a
def nk(l:List Int)(f:Fr)(p:Nat):Option (Fr×Nat):=(cE l p).bind λx=>E ({f with offset:=x.1},x.2)
def oJ(l:List Int)(f:Fr)(p:Nat):Option (Fr×Nat):=(cE l p).bind λx=>E ({f with code:=x.1},x.2)
def nn(l:List Int)(f:Fr)(p:Nat):Option (Fr×Nat):=(fH l p).bind λx=>E ({f with stream:=x.1},x.2)
def oK(l:List Int)(f:Fr)(p:Nat):Option (Fr×Nat):=(ju l p).bind λx=>E ({f with data:=x.1},x.2)
def qK(l:List Int)(f:Fr)(p:Nat):Option (Fr×Nat):=(eW l p).bind λx=>E ({f with ranges:=x.1},x.2)
structure RC(w:D)(c d a o n e:Nat)(l:List Int)(p st:Nat)(f:Fr):Prop where
 x:dh w c (Y (E ⟨a,o,N⟩) n e) p st
 y:w.heap[d]?=E (ο (bC f (Y N 0 0)) 158 (0,0))
 b:bD w (E ⟨a,o,N⟩) n e l
 xb:a≠c
 yb:a≠d
 xy:c≠d
 hp:p<=l.length
 hl:l.length<=100000000
 ok:f.ok
 rg:f.ranges=[]
 dt:f.data.size<=9223372036854775807
def Nu(b:Bool)(w d:D)(f:Fr)(a:υ):Prop:=cD d f a/\((f.ranges=[]/\a=Y N 0 0)\/(b=ρ/\∃x n c,a=Y (E x) n c/\w.heap.size<=x.block))
def uh(g:Bool)(w:D)(b d:Nat)(sl:υ)(st len:Nat)(r:Option (Fr×Nat))(e:Ending)(a:D):Prop:=
 Gx w a b d/\((∃c q f,r=E (c,q)/\e=ξ (τ #[])/\dh a b sl q st/\a.heap[d]?=E (ο (bC c f) 158 (0,0))/\Nu g w a c f/\q<=len)\/(r=N/\e=PN/\∃h,dh a b sl h st))
def cD.nil(w:D)(f:Fr)(h:f.ok)(a:f.ranges=[])(hd:f.data.size<=9223372036854775807):cD w f (Y N 0 0):=
 ⟨h,hd,N,0,by rw[a];rfl,by rw[a];exact⟨λr a=>by simp at a,Q,Γ,by simp[maxLen],φ Q⟩⟩
def dh.cW(h:dh w n x j l)(a:n≠k):dh (ζ w ⟨k,i,N⟩ y) n x j l:=
 (dr _ _ _ _ a).trans h
def qL{a c d e:υ}(h:w.heap[b]?=E (ο #[x,y,z,a,c,d,e] T (0,0))):∀o,χ w ⟨b,o,N⟩=θ:=by
 simp[χ,h]
def Nv(w:D)(g b j o n m:Nat)(l:List Int)(p st:Nat)(f:Fr)(h:RC w g b j o n m l p st f)(B:Nat)(K:κ w ⟨B,0,N⟩=E (.func (.func 230) #[] #[])):
 Calls prog 276 #[π (E ⟨g,0,N⟩),π (E ⟨b,0,N⟩),π (E ⟨B,0,N⟩)] w (uh θ w g b (Y (E ⟨j,o,N⟩) n m) st l.length (nk l f p)):=by
 let⟨r,y,i,xb,yb,xy,hp,hl,s,z,A⟩:=h
 replace⟨r,i,s⟩:=cA r i s;go_enter func276,ntmps276;go_wp2_with fail;apply(De b w).mono;rintro e C⟨rfl,rfl⟩;obtain⟨w,rfl⟩:=í C;go_wp2_with fail;apply(vF g j o n m l p st w (Z r) (Z i) xb hp hl).mono;rintro e L⟨t,⟨v,q,a,rfl,c⟩|⟨a,rfl,c⟩⟩
 .let⟨⟨F,M⟩,P,H⟩:=ig i.1 a
  have d:=(t.block b (aV.1 y).1 (λe=>xy (aR e).symm)).trans y;have R:=(bQ d).2.2.1;have S:=qL d;have u:nk l f p=E ({f with offset:=v},q):=by unfold nk;rw[a];rfl
  replace⟨u,a,d,c⟩:=fB u a d c;go_wp2_with fail;apply eP (dV Q _ _ _) Q;refine⟨(Gx.of t (λk e=>φ (aR e).symm)).set _ _ (ψ (φ Q)),φ ⟨_,_,_,Z u,Q,(Z c).cW xy,(heap_set (Z d) _).trans Q,⟨cD.nil _ _ ?_ z A,φ ⟨z,Q⟩⟩,H⟩⟩
  have x:=Z s;exact⟨x.1,x.2.1,⟨F,Ψ⟩,x.2.2.2⟩
 exact⟨Q,Gx.of t (λk e=>φ (aR e).symm),ψ ⟨by unfold nk;rw[a];rfl,Q,c⟩⟩
def Nw(w:D)(g b m o n r:Nat)(l:List Int)(p st:Nat)(f:Fr)(h:RC w g b m o n r l p st f)(B:Nat)(K:κ w ⟨B,0,N⟩=E (.func (.func 231) #[] #[])):
 Calls prog 276 #[π (E ⟨g,0,N⟩),π (E ⟨b,0,N⟩),π (E ⟨B,0,N⟩)] w (uh θ w g b (Y (E ⟨m,o,N⟩) n r) st l.length (oJ l f p)):=by
 let⟨s,y,i,xb,yb,xy,hp,hl,t,z,A⟩:=h
 replace⟨s,i,t⟩:=cA s i t;go_enter func276,ntmps276;go_wp2_with fail;apply(Df b w).mono;rintro e C⟨rfl,rfl⟩;obtain⟨w,rfl⟩:=í C;go_wp2_with fail;apply(vF g m o n r l p st w (Z s) (Z i) xb hp hl).mono;rintro e L⟨u,⟨v,q,a,rfl,c⟩|⟨a,rfl,c⟩⟩
 .let⟨⟨F,M⟩,P,H⟩:=ig i.1 a
  have d:=(u.block b (aV.1 y).1 (λe=>xy (aR e).symm)).trans y;have R:=(bQ d).2.2.2.1;have S:=qL d;have x:oJ l f p=E ({f with code:=v},q):=by unfold oJ;rw[a];rfl
  replace⟨x,a,d,c⟩:=fB x a d c;go_wp2_with fail;apply eP (dV Q _ _ _) Q;refine⟨(Gx.of u (λk e=>φ (aR e).symm)).set _ _ (ψ (φ Q)),φ ⟨_,_,_,Z x,Q,(Z c).cW xy,(heap_set (Z d) _).trans Q,⟨cD.nil _ _ ?_ z A,φ ⟨z,Q⟩⟩,H⟩⟩
  have j:=Z t;exact⟨j.1,j.2.1,j.2.2.1,⟨F,Ψ⟩,j.2.2.2.2⟩
 exact⟨Q,Gx.of u (λk e=>φ (aR e).symm),ψ ⟨by unfold oJ;rw[a];rfl,Q,c⟩⟩
def Nx(w:D)(d g j o n m:Nat)(l:List Int)(p st:Nat)(f:Fr)(h:RC w d g j o n m l p st f):
 Calls prog 267 #[π (E ⟨d,0,N⟩),π (E ⟨g,0,N⟩)] w (uh θ w d g (Y (E ⟨j,o,N⟩) n m) st l.length (nn l f p)):=by
 let⟨r,z,i,xb,yb,xy,hp,hl,s,A,C⟩:=h
 replace⟨r,i,s⟩:=cA r i s;go_enter func267,ntmps267;go_wp2_with fail;apply(KW d j o n m l p st w (Z r) (Z i) xb hp hl).mono;rintro e K⟨t,⟨v,q,a,rfl,b⟩|⟨a,rfl,b⟩⟩
 .have F:0<=v/\v<4/\q<=l.length:=by
   unfold fH at a;cases u:cE l p with
   |none=>rw[u]at a;cases a
   |some x=>
    rw[u]at a;simp only[dX]at a;split at a;cases a;have:=ig (q:=q) (n:=v) i.1 u;unfold cR at this;omega;cases a
  let⟨L,M,H⟩:=F
  have c:=(t.block g (aV.1 z).1 (λe=>xy (aR e).symm)).trans z;have P:=(bQ c).2.1;have R:=qL c;have y:nn l f p=E ({f with stream:=v},q):=by unfold nn;rw[a];rfl
  replace⟨y,a,c,b⟩:=fB y a c b;go_wp2_with fail;apply eP (dV Q _ _ _) Q;refine⟨(Gx.of t (λk e=>φ (aR e).symm)).set _ _ (ψ (φ Q)),φ ⟨_,_,_,Z y,Q,(Z b).cW xy,(heap_set (Z c) _).trans Q,⟨cD.nil _ _ ?_ A C,φ ⟨A,Q⟩⟩,H⟩⟩
  have B:=Z s;exact⟨B.1,⟨Ψ,Ψ⟩,B.2.2⟩
 exact⟨Q,Gx.of t (λk e=>φ (aR e).symm),ψ ⟨by unfold nn;rw[a];rfl,Q,b⟩⟩
def strOfNums_size(l:List Int):(strOfNums l).size=l.length:=by
 have h:=fR List.length (rX l);simp_all
def E1{l:List Int}(c:∀x∈l,W8 x):∀(k p:Nat)(lo:Int)(a rs:List Rg)(q:Nat),p<=l.length->iF l k p lo a=E (rs,q)->q<=l.length
 |0,p,lo,a,rs,q,hp,h=>by
  simp only[iF,qu,uS]at h;omega
 |k+1,p,lo,a,rs,q,hp,h=>by
  simp only[iF]at h;cases d:cE l p with
  |none=>rw[d]at h;cases h
  |some x=>
   rw[d]at h;simp only[dX]at h;cases b:cE l x.2 with
   |none=>rw[b]at h;cases h
   |some y=>
    rw[b]at h;simp only[dX]at h;split at h;exact E1 c k _ _ _ _ _ (ig (n:=y.1) (q:=y.2) c b).2.2 h;cases h
def E2(b:∀x∈L,W8 x)(h:eW L k=E (s,i)):i<=L.length:=by
 unfold eW at h;cases c:cE L k with
 |none=>rw[c]at h;cases h
 |some x=>
  rw[c]at h;simp only[dX]at h;cases d:cE L x.2 with
  |none=>rw[d]at h;cases h
  |some y=>
   rw[d]at h;simp only[dX]at h;cases a:cE L y.2 with
   |none=>rw[a]at h;cases h
   |some z=>
    rw[a]at h;simp only[dX]at h;split at h;exact E1 b _ _ _ _ _ _ (ig (n:=z.1) (q:=z.2) b a).2.2 h;cases h
def Ny(w:D)(b s c o n u:Nat)(l:List Int)(p st:Nat)(f:Fr)(h:RC w b s c o n u l p st f):
 Calls prog 273 #[π (E ⟨b,0,N⟩),π (E ⟨s,0,N⟩)] w (uh θ w b s (Y (E ⟨c,o,N⟩) n u) st l.length (oK l f p)):=by
 let⟨d,C,i,xb,yb,xy,hp,hl,y,F,V⟩:=h
 have M:=i.1;have P:Hid (∀W,G w W (E b)->bD W (E ⟨c,o,N⟩) n u l):=J (λW g=>i.gb g (λj e=>ψ (ψ (λx d=>by cases d;cases e;exact xb))));replace⟨d,i,y⟩:=cA d i y;go_enter func273,ntmps273;go_wp2_with fail;apply(vF b c o n _ l p st w (Z d) (Z i) xb hp hl).mono;rintro e H⟨t,⟨v,q,a,rfl,z⟩|⟨a,rfl,z⟩⟩;rotate_left
 exact⟨Q,Gx.of t (λk e=>φ (aR e).symm),ψ ⟨by unfold oK ju;rw[a];rfl,Q,z⟩⟩
 let⟨⟨v0,v1⟩,v2,R⟩:=ig M a
 obtain⟨k,S⟩:∃k:Nat,v=(k:Int):=⟨v.toNat,O⟩
 subst S;replace a:=J a;go_wp2_with fail;apply(xV b c o n _ l q st k _ Q H z (Z P H t) xb R hl O).mono;rintro e w2⟨K,⟨hs,rfl,m⟩|⟨hs,a2,c2,rfl,T,m⟩⟩;refine⟨Q,(Gx.of t (λk e=>φ (aR e).symm)).trans (Gx.of K (λk e=>φ (aR e).symm)),ψ ⟨?_,Q,q,m⟩⟩
 unfold oK ju;rw[Z a];simp only[dX]
 rw[ê];rfl;have A:oK l f p=E ({f with data:=strOfNums ((l.drop q).take k)},q+k):=by
  unfold oK ju;rw[Z a];simp only[dX]
  rw[è];simp
 have L:=aq t K;have r:=(L.block s (aV.1 C).1 (λe=>xy (aR e).symm)).trans C;have y2:=(bQ r).2.2.2.2.2.1;have yf:=qL r;have ai:=nG T;have B:(strOfNums ((l.drop q).take k)).size<=9223372036854775807:=by rw[strOfNums_size];simp;omega
 replace⟨A,r,m,B⟩:=fB A r m B;go_wp2_with fail;apply eP (dV Q _ _ _) Q;exact⟨(Gx.of L (λk e=>φ (aR e).symm)).set _ _ (ψ (φ Q)),φ ⟨_,_,_,Z A,Q,(Z m).cW xy,(heap_set (Z r) _).trans Q,⟨cD.nil _ _ (Z y) F (Z B),φ ⟨F,Q⟩⟩,O⟩⟩
def Nz(w:D)(g b r o n B:Nat)(l:List Int)(p st:Nat)(f:Fr)(h:RC w g b r o n B l p st f)(T:b<w.heap.size):
 Calls prog 270 #[π (E ⟨g,0,N⟩),π (E ⟨b,0,N⟩)] w (uh ρ w g b (Y (E ⟨r,o,N⟩) n B) st l.length (qK l f p)):=by
 let⟨s,C,i,xb,yb,xy,hp,hl,t,V,P⟩:=h
 have R:=i.1;replace⟨s,i,t⟩:=cA s i t;go_enter func270,ntmps270;go_wp2_with fail;apply(Nt g r o n _ l p st w (Z s) (Z i) xb hp hl).mono;rintro e W⟨u,⟨rs,q,F,n1,c1,a,rfl,v,y,c⟩|⟨a,rfl,c⟩⟩
 .have S:=E2 R a;have d:=(u.block b (aV.1 C).1 (λe=>xy (aR e).symm)).trans C;have y2:=(bQ d).2.2.2.2.2.2;have yf:=qL d;have z:qK l f p=E ({f with ranges:=rs},q):=by unfold qK;rw[a];rfl
  replace⟨z,a,d,c,v⟩:=gT z a d c v;go_wp2_with fail;apply eP (dV Q _ _ _) Q;have j:=Z t;have m:=Z v;have A:=m.2.1;refine⟨(Gx.of u (λk e=>φ (aR e).symm)).set _ _ (ψ (φ Q)),φ ⟨_,_,_,Z z,Q,(Z c).cW xy,(heap_set (Z d) _).trans Q,⟨⟨⟨j.1,j.2.1,j.2.2.1,j.2.2.2.1,m.1⟩,P,F,c1,by rw[A],?_⟩,?_⟩,S⟩⟩
  rw[<-A];let⟨H,K,k3,k4,k5⟩:=m
  refine⟨H,K,k3,k4,?_⟩
  obtain k5|⟨L,M,rfl,k5⟩:=k5
  exact φ k5;exact ψ ⟨L,M,Q,xk k5 _ _ (by have:=y _ Q;simp at this⊢;omega)⟩;obtain⟨H,K,k3,k4,k5|⟨L,M,rfl,k5⟩⟩:=m;obtain _|x:=F
  left;have:rs=[]:=â;subst this;refine⟨Q,?_⟩
  rw[A,k5];rfl;exact ψ ⟨Q,_,_,_,Q,y _ Q⟩;exact ψ ⟨Q,_,_,_,Q,y _ Q⟩
 exact⟨Q,Gx.of u (λk e=>φ (aR e).symm),ψ ⟨by unfold qK;rw[a];rfl,Q,c⟩⟩
abbrev AD:=Fr->Nat->Option (Fr×Nat)
def rI:List AD->Fr->Nat->Option (Fr×Nat)
 |[],f,p=>E (f,p)
 |s::r,f,p=>(s f p).bind λx=>rI r x.1 x.2
def eC(l:List Int)(j:Nat):List AD:=
 if j=2 then[qK l]else if j=3 then[nn l,oJ l,nk l]else if j=4\/j=5 then[nn l,nk l,oK l]else if j=6 then[oJ l]else[]
def NC(l:List Int)(a b c d e:Nat)(p:Nat)(f:j<7):dy l (bJ (cG a b c d e) j).t p=rI (eC l j) (bL (bJ (cG a b c d e) j).k (bJ (cG a b c d e) j).fin) p:=by
 obtain rfl|rfl|rfl|rfl|rfl|rfl|rfl:=rD f
 simp[dy,bJ,cG,eC,rI];simp[dy,bJ,cG,eC,rI];show dy l 2 p=(qK l (bL 3 θ) p).bind λx=>E (x.1,x.2)
 unfold dy qK;rw[aE Θ,aE Θ,aH rfl];cases eW l p<;>rfl;show dy l 4 p=(nn l (bL 4 θ) p).bind λx=>(oJ l x.1 x.2).bind λx=>(nk l x.1 x.2).bind λx=>E (x.1,x.2)
 unfold dy nn oJ nk;rw[aE Θ,aE Θ,aE Θ,aH rfl];cases fH l p with
 |none=>rfl
 |some x=>
  simp only[dX]
  cases cE l x.2 with
  |none=>rfl
  |some y=>
   simp only[dX]
   cases cE l y.2<;>rfl
 show dy l 8 p=(nn l (bL 5 θ) p).bind λx=>(nk l x.1 x.2).bind λx=>(oK l x.1 x.2).bind λx=>E (x.1,x.2)
 unfold dy nn nk oK;rw[aE Θ,aE Θ,aE Θ,aE Θ,aH Θ];cases fH l p with
 |none=>rfl
 |some x=>
  simp only[dX]
  cases cE l x.2 with
  |none=>rfl
  |some y=>
   simp only[dX]
   cases ju l y.2<;>rfl
 show dy l 9 p=(nn l (bL 5 ρ) p).bind λx=>(nk l x.1 x.2).bind λx=>(oK l x.1 x.2).bind λx=>E (x.1,x.2)
 unfold dy nn nk oK;rw[aE Θ,aE Θ,aE Θ,aE Θ,aH Θ];cases fH l p with
 |none=>rfl
 |some x=>
  simp only[dX]
  cases cE l x.2 with
  |none=>rfl
  |some y=>
   simp only[dX]
   cases ju l y.2<;>rfl
 show dy l 28 p=(oJ l (bL 6 θ) p).bind λx=>E (x.1,x.2)
 unfold dy oJ;rw[aE Θ,aE Θ,aE Θ,aE Θ,aE Θ,aH rfl];cases cE l p<;>rfl
def ND(l:List Int)(p:Nat)(h:∀j,j<7->¬(bJ (cG n k i m o) j).t=t):dy l t p=N:=by
 have h0:=h 0 O;have a:=h 1 O;have b:=h 2 O;have c:=h 3 O;have d:=h 4 O;have e:=h 5 O;have f:=h 6 O;simp only[bJ,cG,zh,List.getD_cons_succ]at h0 a b c d e f;unfold dy;grind
def NF{b:Fr}(c:j<7)(hi:i<(eC L j).length)(h:(eC L j)[i] u n=E (b,k)):b.kind=u.kind:=by
 have a:∀{α:Type}(o:Option (α×Nat))(g:α×Nat->Fr×Nat),(∀x,(g x).1.kind=u.kind)->(o.bind λx=>E (g x))=E (b,k)->b.kind=u.kind:=by
  intro α o g d e;cases o with
  |none=>cases e
  |some x=>simp only[dX,qu]at e;have:=d x;rw[e]at this;exact this
 obtain rfl|rfl|rfl|rfl|rfl|rfl|rfl:=rD c
 simp[eC]at hi;simp[eC]at hi;have e:i=0:=by simp[eC]at hi;omega
 subst e;exact a _ _ (λ_=>rfl) h;have e:i=0\/i=1\/i=2:=by simp[eC]at hi;omega
 obtain rfl|rfl|rfl:=e<;>exact a _ _ (λ_=>rfl) h
 have e:i=0\/i=1\/i=2:=by simp[eC]at hi;omega
 obtain rfl|rfl|rfl:=e<;>exact a _ _ (λ_=>rfl) h
 have e:i=0\/i=1\/i=2:=by simp[eC]at hi;omega
 obtain rfl|rfl|rfl:=e<;>exact a _ _ (λ_=>rfl) h
 have e:i=0:=by simp[eC]at hi;omega
 subst e;exact a _ _ (λ_=>rfl) h
def kr.ne{s:Nat}(h:kr W k i j l m o b s){d:Nat}{c:Nat}(e:κ W ⟨d,0,N⟩=E (Y a n c)):k≠d/\i≠d/\j≠d/\l≠d/\m≠d/\o≠d/\b≠d/\s≠d:=by
 have t:=h.tab 0 _ Q;have f:=h.p2 0 _ Q;have g:=h.p3 0 _ Q;have p:=h.p4 0 _ Q;have q:=h.p5 0 _ Q;have r:=h.p6 0 _ Q;have u:=h.bo;have v:=h.bc;rw[eM]at t f g p q r;refine⟨?_,?_,?_,?_,?_,?_,?_,?_⟩
 grind;rintro rfl;rw[e]at f;cases f;rintro rfl;rw[e]at g;cases g;rintro rfl;rw[e]at p;cases p;rintro rfl;rw[e]at q;cases q;rintro rfl;rw[e]at r;cases r;grind;grind
def ui{a:List υ}(h:w.rangeAt b o a)(g:Gx w W n k)(c:b≠n)(d:b≠k):W.rangeAt b o a:=λj v e=>g.cell (h j v e) c d
def kr.gx{a c:Nat}(h:kr w i j l m o b a c)(g:Gx w W n k)(d:i≠n/\j≠n/\l≠n/\m≠n/\o≠n/\b≠n/\a≠n/\c≠n)(hY:i≠k/\j≠k/\l≠k/\m≠k/\o≠k/\b≠k/\a≠k/\c≠k):kr W i j l m o b a c:=by
 let⟨e,f,p,q,r,s,t,x8⟩:=d
 let⟨u,v,x,y,z,A,B,C⟩:=hY
 exact⟨ui h.tab g e u,ui h.p2 g f v,ui h.p3 g p x,ui h.p4 g q y,ui h.p5 g r z,ui h.p6 g s A,g.cell h.bo t B,g.cell h.bc x8 C⟩
def kr.lt(h:kr W n k i j l m o b){Y:Nat}(hY:W.heap.size<=Y):n≠Y/\k≠Y/\i≠Y/\j≠Y/\l≠Y/\m≠Y/\o≠Y/\b≠Y:=by
 have a:=eI W _ (h.tab 0 _ Q);have c:=eI W _ (h.p2 0 _ Q);have d:=eI W _ (h.p3 0 _ Q);have e:=eI W _ (h.p4 0 _ Q);have f:=eI W _ (h.p5 0 _ Q);have g:=eI W _ (h.p6 0 _ Q);have p:=eI W _ h.bo;have q:=eI W _ h.bc;grind
def Rd(g:D)(a b c o n d:Nat)(l:List Int)(st:Nat)(h:Bool)(i:υ)(s:AD):Prop:=
 ∃R e,i=.func (.func R) #[] e/\(∀args w,(callFunc R args).run prog w=.ok (.enter R args) w)/\∀(w:D)(p:Nat)(f:Fr),Gx g w a b->RC w a b c o n d l p st f->
  Calls prog R (#[π (E ⟨a,0,N⟩),π (E ⟨b,0,N⟩)]++e) w (uh h w a b (Y (E ⟨c,o,N⟩) n d) st l.length (s f p))
def E3(args:Array υ)(w:D):(callFunc 276 args).run prog w=.ok (.enter 276 args) w:=Φ
def NG(args:Array υ)(w:D):(callFunc 267 args).run prog w=.ok (.enter 267 args) w:=Φ
def NH(args:Array υ)(w:D):(callFunc 273 args).run prog w=.ok (.enter 273 args) w:=Φ
def NI(args:Array υ)(w:D):(callFunc 270 args).run prog w=.ok (.enter 270 args) w:=Φ
def NJ{x:Nat}(h:kr W k m b n i l o x)(d a s t u v:Nat)(c:List Int)(st:Nat)(C:k≠d/\m≠d/\b≠d/\n≠d/\i≠d/\l≠d/\o≠d/\x≠d)(hY:k≠a/\m≠a/\b≠a/\n≠a/\i≠a/\l≠a/\o≠a/\x≠a)(F:a<W.heap.size)(H:j<7):
 (bJ (cG m b n i l) j).n=(eC c j).length/\(eC c j).length<=3/\((eC c j).length=0\/∃P,(bJ (cG m b n i l) j).pa=E ⟨P,0,N⟩/\P≠d/\P≠a/\∀q(hi:q<(eC c j).length),∃K wc rd,κ W ⟨P,q*2,N⟩=E (.func (.func K) #[] wc)/\κ W ⟨P,q*2+1,N⟩=E rd/\Rd W d a s t u v c st (decide (j=2)) rd (eC c j)[q]):=by
 obtain⟨-,L,M,R,S,T,V,x8⟩:=C;obtain⟨-,y2,y3,y4,y5,y6,y7,y8⟩:=hY;have y:Rd W d a s t u v c st θ (nR o) (nk c):=⟨_,_,Q,E3,λw p f g r=>Nv w d a s t u _ c p st f r o (g.cell h.bo V y7)⟩
 have A:Rd W d a s t u v c st θ (nR x) (oJ c):=⟨_,_,Q,E3,λw p f g r=>Nw w d a s t u _ c p st f r x (g.cell h.bc x8 y8)⟩
 have z:Rd W d a s t u v c st θ sR (nn c):=⟨_,_,Q,NG,λw p f _ r=>Nx w d a s t u _ c p st f r⟩
 have B:Rd W d a s t u v c st θ bR (oK c):=⟨_,_,Q,NH,λw p f _ r=>Ny w d a s t u _ c p st f r⟩
 have hR:Rd W d a s t u v c st ρ rR (qK c):=⟨_,_,Q,NI,λw p f g r=>Nz w d a s t u _ c p st f r (bX F g.size)⟩
 obtain rfl|rfl|rfl|rfl|rfl|rfl|rfl:=rD H
 exact⟨Q,by simp[eC],φ Q⟩
 exact⟨Q,by simp[eC],φ Q⟩
 refine⟨Q,by simp[eC],ψ ⟨m,Q,L,y2,λq hi=>?_⟩⟩
 have e:q=0:=by simp[eC]at hi;omega
 subst e;exact⟨_,_,rR,h.p2 0 _ Q,h.p2 1 _ Q,hR⟩
 refine⟨Q,by simp[eC],ψ ⟨b,Q,M,y3,λq hi=>?_⟩⟩
 have e:q=0\/q=1\/q=2:=by simp[eC]at hi;omega
 obtain rfl|rfl|rfl:=e
 exact⟨_,_,sR,h.p3 0 _ Q,h.p3 1 _ Q,z⟩
 exact⟨_,_,_,h.p3 2 _ Q,h.p3 3 _ Q,A⟩
 exact⟨_,_,_,h.p3 4 _ Q,h.p3 5 _ Q,y⟩
 refine⟨Q,by simp[eC],ψ ⟨n,Q,R,y4,λq hi=>?_⟩⟩
 have e:q=0\/q=1\/q=2:=by simp[eC]at hi;omega
 obtain rfl|rfl|rfl:=e
 exact⟨_,_,sR,h.p4 0 _ Q,h.p4 1 _ Q,z⟩
 exact⟨_,_,_,h.p4 2 _ Q,h.p4 3 _ Q,y⟩
 exact⟨_,_,bR,h.p4 4 _ Q,h.p4 5 _ Q,B⟩
 refine⟨Q,by simp[eC],ψ ⟨i,Q,S,y5,λq hi=>?_⟩⟩
 have e:q=0\/q=1\/q=2:=by simp[eC]at hi;omega
 obtain rfl|rfl|rfl:=e
 exact⟨_,_,sR,h.p5 0 _ Q,h.p5 1 _ Q,z⟩
 exact⟨_,_,_,h.p5 2 _ Q,h.p5 3 _ Q,y⟩
 exact⟨_,_,bR,h.p5 4 _ Q,h.p5 5 _ Q,B⟩
 refine⟨Q,by simp[eC],ψ ⟨l,Q,T,y6,λq hi=>?_⟩⟩
 have e:q=0:=by simp[eC]at hi;omega
 subst e;exact⟨_,_,_,h.p6 0 _ Q,h.p6 1 _ Q,A⟩
abbrev cX:=Fr×υ
def lV(l:List cX):List υ:=l.flatMap λx=>iN x.1 x.2
def NL(l m:List cX):lV (l++m)=lV l++lV m:=by simp[lV]
def AF(l:List cX)(i:Nat)(h:i<l.length)(j:Nat)(v:υ)(b:(iN l[i].1 l[i].2)[j]?=E v):(lV l)[i*7+j]?=E v:=by
 induction l generalizing i with
 |nil=>simp at h
 |cons r l a=>
  cases i with
  |zero=>
   simp only[lV,List.flatMap_cons,nz,eM]
   grind
  |succ i=>
   simp only[lV,List.flatMap_cons]
   rw[pQ (by simp[iN];omega)];have e:(i+1)*7+j-(iN r.1 r.2).length=i*7+j:=by simp[iN];omega
   rw[e];exact a i (by grind) (by grind)
def fe(w:D)(a:Nat)(v:υ)(l:List cX):Prop:=
 w.ownsRow a 158 7 v l.length (lV l)/\∀x∈l,cD w x.1 x.2/\(x.1.ranges≠[]->∀y n c,x.2=Y (E y) n c->a<=y.block/\v.ownBlock≠E y.block)
def cD.dR(h:cD w u z)(b:u.ranges≠[]->∀y n c,z=Y (E y) n c->y.block<w.heap.size->W.heap[y.block]?=w.heap[y.block]?):cD W u z:=by
 obtain⟨d,e,ra,f,rfl,a⟩:=h;refine⟨d,e,ra,f,Q,a.dR (λhl x g=>?_)⟩
 subst g;exact b hl x _ _ Q (a.lt hl)
def cD.NO(h:cD w u (Y (E A) n k))(hl:u.ranges≠[]):A.block<w.heap.size:=by
 obtain⟨b,c,ra,d,e,a⟩:=h;cases e;exact a.lt hl
def fe.lt{l:List cX}(h:fe w n x l):∀k,x.ownBlock=E k->n<=k/\k<w.heap.size:=h.1.lt
def fe.gb{w:D}{l:List cX}{r:Option Nat}(h:fe w i z l)(g:G w W r)(b:∀k,r=E k->k<i:=by simp):fe W i z l:=by
 refine⟨h.1.kept g ?_,λx d=>?_⟩
 cases f:z.ownBlock with
 |none=>exact φ Q
 |some k=>exact ψ (λe=>by have:=b k e.symm;have:=(h.lt k f).1;omega)
 have a:=h.2 x d;refine⟨a.1.dR (λhl y n c e j=>?_),a.2⟩
 exact g.block y.block j (λe2=>by have:=b _ e2.symm;have:=(a.2 hl y n c e).1;omega)
def fe.nil(w:D)(a:Nat):fe w a (Y N 0 0) []:=⟨lI _ _ _ _,λx b=>by simp at b⟩
def fe.E8{l:List cX}(h:fe w k (Y a n m) l):lq w a n m (l.map (·.1)):=by
 obtain⟨⟨u,c⟩,d⟩:=h;obtain⟨e,x⟩|⟨g,cap,cur,e,aa,f,p,hm,hs,q⟩:=c
 cases e;exact⟨Ψ,Γ,by simp[maxLen],φ Q⟩
 cases e;refine⟨Γ,p,hm,ψ ⟨g,0,Q,λi hi=>?_⟩⟩
 have b:i<l.length:=by simp_all
 have ef:eR (l.map (·.1)) i=l[i].1:=by rw[xU hi];simp
 rw[ef];refine⟨l[i].2,(d _ (tt b)).1,λj v r=>?_⟩
 have s:=AF l i b j v r;have t:i*7+j<l.length*7:=by
  grind
 rw[<-q,tn,aH t]at s;simp only[κ,f,eM]
 grind
def NP:(prog.info? 158).map (λi=>(i.zero,i.size,i.bytes))=E (E (ε #[I X 0,I X 0,I U 0,I U 0,β θ,ς ByteArray.empty,Y N 0 0]),7,80):=Φ
def E9(ty:TypeId)(a:Nat)(v:υ)(l:List cX)(p:fe w a v l)(b c:Nat)(x:cX)(W:cD w x.1 x.2)(ai:x.1.ranges≠[]->∀y n c,x.2=Y (E y) n c->a<=y.block/\v.ownBlock≠E y.block)(t:x.2.oneCell'=ρ)(h0:w.rangeAt b 0 (iN x.1 x.2))(ak:l.length<=100000000)(A:a<=w.heap.size):
 ∃i k m f,(Builtin.append_ #[92,92] ty #[v,Y (E ⟨b,0,N⟩) 1 c]).run prog w=.ok (Y i k m) f/\fe f a (Y i k m) (l++[x])/\G w f v.ownBlock/\((Y i k m).ownBlock=v.ownBlock\/(Y i k m).ownBlock=E w.heap.size):=by
 obtain⟨B,hi,C,F,d⟩:=kV NP;obtain⟨H,f,al,K,L,_,M⟩:=run_append_own_at (P:=prog) w a 92 ty 158 B _ 7 80 underlying92 hi C F d Q Θ v l.length (lV l) p.1 ⟨b,0,N⟩ 1 c (lV [x]) (by simp[lV,iN]) (by
  intro j u R;rw[Addr.add_mid];exact h0 j u (by simpa [lV]using R)) (by
  intro u q;simp[lV,iN]at q;obtain rfl|rfl|rfl|rfl|rfl|rfl|rfl:=q<;>first|rfl|exact t) (by simp[maxLen];omega) O A
 have S:fe f a H (l++[x]):=by
  refine⟨by rw[bS,NL];exact K,λz T=>?_⟩
  have d:cD w z.1 z.2/\(z.1.ranges≠[]->∀y n c,z.2=Y (E y) n c->a<=y.block/\v.ownBlock≠E y.block):=by
   obtain h|h:=b9.1 T
   exact p.2 z h;grind
  refine⟨d.1.dR (λhl y n c e V=>L.block y.block V (λe2=>(d.2 hl y n c e).2 e2.symm)),λhl y n c e=>⟨(d.2 hl y n c e).1,?_⟩⟩
  obtain r|r:=M
  simp_all;rw[r];have s:=d.1;rw[e]at s;have:=s.NO hl;grind
 obtain⟨⟨-,⟨rfl,e2⟩|⟨g,ao,ax,rfl,_⟩⟩,-⟩:=id S;simp_all;grind
def NQ{k:Array Oper}{o:Oper}{a:Act}{K:Act->D->Prop}{m:Exit->Act->D->Prop}{p:Prop}(q:o.guard=N)(s x:Operand)
 (r:o.op=.call {callee:=.builtin .append,args:= #[s,x],argTypes:= #[92,92]})
 (i:Nat) (v:υ) (l:List cX) (hs:a.eval s=v) (t:fe w i v l) (b c:Nat) (d:cX) (u:cD w d.1 d.2) (z:d.1.ranges≠[]->∀y n c,d.2=Y (E y) n c->i<=y.block/\v.ownBlock≠E y.block) (A:d.2.oneCell'=ρ) (B:a.eval x=Y (E ⟨b,0,N⟩) 1 c) (h0:w.rangeAt b 0 (iN d.1 d.2)) (C:l.length<=100000000) (F:i<=w.heap.size)
 (h:∀e f g j,fe j i (Y e f g) (l++[d])->G w j v.ownBlock->((Y e f g).ownBlock=v.ownBlock\/(Y e f g).ownBlock=E w.heap.size)->
   K (a.put o.dst (Y e f g)) j):if Region.wanted o (yielded k a.tmps)=ρ then Oper.wp prog o a w K m else p:=by
 have H:Region.wanted o (yielded k a.tmps)=ρ:=by simp[Region.wanted,q]
 rw[aH H];obtain⟨e,f,g,j,L,M,P,R⟩:=E9 (w:=w) o.type i v l t b c d u z A h0 C F;unfold Oper.wp execOp;simp only[r,resolve,invoke,builtin,jL,ny,jC,oh,kD,oq,hs,B,L]
 exact h e f g j M P R
def oL(h:w.heap[b]?=E (ο #[x] T (0,0))):κ w ⟨b,0,N⟩=E x/\χ w ⟨b,0,N⟩=θ:=by
 simp[κ,χ,h]
def NR(c a b:Nat)(st:Int)(j k:υ)(d:List PanicEntry)(w:D)(l:κ w ⟨c,2,N⟩=E (I X st))(f:w.heap[a]?=E (ο #[j] 92 (0,0)))(g:w.heap[b]?=E (ο #[k] 97 (0,0)))(q:a≠b):
 CallsD prog 187 #[π (E ⟨c,0,N⟩),π (E ⟨a,0,N⟩),π (E ⟨b,0,N⟩)] (.panicking ({v:=.iface 34 (I X 5),recovered:=θ}::d)) w λe m n=>
  e=ξ (τ #[])/\m=.panicking ({v:=.iface 34 (I X 5),recovered:=ρ}::d)/\n=((w.alloc (ο #[I X 5,I X st] 182)).setCell ⟨a,0,N⟩ (Y N 0 0)).setCell ⟨b,0,N⟩ (.iface 177 (π (E ⟨w.heap.size,0,N⟩))):=by
 refine callsD_of_wpS func187 Q λr s p=>?_
 apply wpS_seq;apply wpS_region;simp[wpOpsS,go_sem,recoverD,p,ntmps187,Exit.thenS];refine wpS_cond (t:=ρ) (by simp[Act.eval,Array.replicate]) ?_;simp only[fw]
 have h:=oL ((fE w (ο #[I X 5,I X st] 182) a (aV.1 f).1).trans f);have i:=oL ((fE w (ο #[I X 5,I X st] 182) b (aV.1 g).1).trans g);apply wpS_region;simp[wpOpsS,go_sem,l,h.1,h.2,i.1,i.2,bodyPostS,results,results187]
def NS(a b c:Nat)(w:D):
 CallsD prog 187 #[π (E ⟨a,0,N⟩),π (E ⟨b,0,N⟩),π (E ⟨c,0,N⟩)] .returning w λe d f=>e=ξ (τ #[])/\d=.returning/\f=w:=by
 refine callsD_of_wpS func187 Q λg i h=>?_
 apply wpS_seq;apply wpS_region;simp[wpOpsS,go_sem,recoverD,h,ntmps187,Exit.thenS];refine wpS_cond (t:=θ) (by simp[Act.eval,Array.replicate]) ?_;refine wpS_of_wp (wp_skip ?_);cases g;simp_all[bodyPostS,results,results187]
structure ST(w:D)(X Y bb o n cap:Nat)(l:List Int)(W:D)(q:Nat)(bad:Bool)(v0 v1 v2 v3 v4 v5 v6:υ):Prop where
 rc:pN W X bb o n cap l q bad
 y:W.heap[Y]?=E (ο #[v0,v1,v2,v3,v4,v5,v6] 158 (0,0))
 g:G w W (E X)
 r:W.heap[w.heap.size]?=E (ο #[I .i64 0,I .i64 0,I U 0,I U 0,β θ,ς {data:= #[]},.slice N 0 0] 158 (0,0))
 xy:X<w.heap.size
 wy:w.heap.size<Y
 Gi:bb<w.heap.size
section
variable {w:D} {X Y bb o n cap:Nat} {l:List Int} {W W':D} {q q':Nat} {bad bad':Bool} {v0 v1 v2 v3 v4 v5 v6:υ}
def ST.call(h:ST w X Y bb o n cap l W q bad v0 v1 v2 v3 v4 v5 v6)(g:G W W' (E X))(a:dq W' X (.slice (E ⟨bb,o,N⟩) n cap) q' bad')(b:q'<=l.length):ST w X Y bb o n cap l W' q' bad' v0 v1 v2 v3 v4 v5 v6:=
 ⟨h.rc.next g a b,(g.block Y (aV.1 h.y).1 (λe=>by have:=aR e;have:=h.xy;have:=h.wy;omega)).trans h.y,aq h.g g,(g.block _ (aV.1 h.r).1 (λe=>by have:=aR e;have:=h.xy;omega)).trans h.r,h.xy,h.wy,h.Gi⟩
def ST.cW(h:ST w X Y bb o n cap l W q bad v0 v1 v2 v3 v4 v5 v6)(i:Nat)(v:υ){u0 u1 u2 u3 u4 u5 u6:υ}(e: #[v0,v1,v2,v3,v4,v5,v6].setIfInBounds i v= #[u0,u1,u2,u3,u4,u5,u6]):ST w X Y bb o n cap l (ζ W ⟨Y,i,N⟩ v) q bad u0 u1 u2 u3 u4 u5 u6:=by
 have a:=h.xy;have c:=h.wy;have d:=h.Gi;have f:G W (ζ W ⟨Y,i,N⟩ v) (E Y):=aD (au _ _) _ _ (ψ Q);refine⟨⟨(dr _ _ _ _ (by show X≠Y;omega)).trans h.rc.x,h.rc.b.gb f (λj e=>ψ (ψ (λx k=>by cases k;cases e;show bb≠Y;omega))),h.rc.xb,h.rc.hp,h.rc.hl⟩,?_,aD h.g _ _ (φ (by show _<=Y;omega)),(dr _ _ _ _ (by show w.heap.size≠Y;omega)).trans h.r,a,c,d⟩
 rw[heap_set h.y,e]
def ST.fx(h:ST w X Y bb o n cap l W q bad v0 v1 v2 v3 v4 v5 v6):(κ W ⟨Y,0,N⟩=E v0/\κ W ⟨Y,1,N⟩=E v1/\κ W ⟨Y,2,N⟩=E v2/\κ W ⟨Y,3,N⟩=E v3/\κ W ⟨Y,4,N⟩=E v4/\κ W ⟨Y,5,N⟩=E v5/\κ W ⟨Y,6,N⟩=E v6)/\∀i,χ W ⟨Y,i,N⟩=θ:=⟨bQ h.y,qL h.y⟩
def ST.num(h:ST w X Y bb o n cap l W q bad v0 v1 v2 v3 v4 v5 v6):Calls prog 138 #[π (E ⟨X,0,N⟩)] W λe W'=>(∃v q',cE l q=E (v,q')/\cR v/\q<q'/\e=ξ (I U v)/\ST w X Y bb o n cap l W' q' bad v0 v1 v2 v3 v4 v5 v6)\/(cE l q=N/\e=ξ (I U 0)/\ST w X Y bb o n cap l W' q ρ v0 v1 v2 v3 v4 v5 v6):=by
 apply h.rc.num.mono;rintro e W'⟨g,⟨v,q',a,rfl,c⟩|⟨a,rfl,c⟩⟩;let⟨d,f,i⟩:=ig h.rc.b.1 a
 exact φ ⟨v,q',a,d,f,Q,h.call g c i⟩;exact ψ ⟨a,Q,h.call g c h.rc.hp⟩
def ST.vZ(h:ST w X Y bb o n cap l W q ρ v0 v1 v2 v3 v4 v5 v6):Calls prog 138 #[π (E ⟨X,0,N⟩)] W λe W'=>∃v q',e=ξ (I U v)/\ST w X Y bb o n cap l W' q' ρ v0 v1 v2 v3 v4 v5 v6:=by
 apply h.num.mono;rintro e W'(⟨v,q',-,-,-,rfl,hs⟩|⟨-,rfl,hs⟩);exact⟨v,q',Q,hs⟩
 exact⟨0,q,Q,hs⟩
def ST.Bg(h:ST w X Y bb o n cap l W q bad v0 v1 v2 v3 v4 v5 v6):Calls prog 137 #[π (E ⟨X,0,N⟩)] W λe W'=>(∃v q',fH l q=E (v,q')/\(0<=v/\v<4)/\e=ξ (I .i64 v)/\ST w X Y bb o n cap l W' q' bad v0 v1 v2 v3 v4 v5 v6)\/(fH l q=N/\∃q',e=ξ (I .i64 0)/\ST w X Y bb o n cap l W' q' ρ v0 v1 v2 v3 v4 v5 v6):=by
 apply(Q4 X bb o n _ l q _ W h.rc).mono;rintro e W'(⟨g,v,q',c,rfl,d⟩|⟨c,rfl,g,q',j,d⟩);have i:(0<=v/\v<4)/\q'<=l.length:=by
  have a:=c;unfold fH at a;cases f:cE l q with
  |none=>rw[f]at a;cases a
  |some x=>
   rw[f]at a;simp only[dX]at a;split at a;cases a;have:=ig (q:=q') (n:=v) h.rc.b.1 f;unfold cR at this;omega;cases a
 exact φ ⟨v,q',c,i.1,Q,h.call g d i.2⟩;exact ψ ⟨c,q',Q,h.call g d j⟩
def ST.Gl(h:ST w X Y bb o n cap l W q θ v0 v1 v2 v3 v4 v5 v6):Calls prog 139 #[π (E ⟨X,0,N⟩)] W λe W'=>(∃v q',ju l q=E (v,q')/\v.size<=9223372036854775807/\e=ξ (ς v)/\ST w X Y bb o n cap l W' q' θ v0 v1 v2 v3 v4 v5 v6)\/(ju l q=N/\∃v q',e=ξ (ς v)/\ST w X Y bb o n cap l W' q' ρ v0 v1 v2 v3 v4 v5 v6):=by
 apply(Q7 X bb o n _ l q W h.rc).mono;rintro e W'(⟨g,v,q',c,rfl,d⟩|⟨c,rfl,g,q',j,d⟩);have i:v.size<=9223372036854775807/\q'<=l.length:=by
  have a:=c;unfold ju at a;have hl:=h.rc.hl;cases f:cE l q with
  |none=>rw[f]at a;cases a
  |some x=>
   rw[f]at a;simp only[dX]at a;have k:=ig (q:=x.2) (n:=x.1) h.rc.b.1 f;unfold cR at k;split at a;cases a;rw[strOfNums_size];simp;omega;cases a
 exact φ ⟨v,q',c,i.1,Q,h.call g d i.2⟩;exact ψ ⟨c,_,q',Q,h.call g d j⟩
def ST.yQ(h:ST w X Y bb o n cap l W q ρ v0 v1 v2 v3 v4 v5 v6):Calls prog 139 #[π (E ⟨X,0,N⟩)] W λe W'=>∃v q',e=ξ (ς v)/\ST w X Y bb o n cap l W' q' ρ v0 v1 v2 v3 v4 v5 v6:=by
 apply(Q6 X bb o n _ l q W h.rc).mono;rintro e W'⟨rfl,g,q',a,b⟩;exact⟨_,q',Q,h.call g b a⟩
end
