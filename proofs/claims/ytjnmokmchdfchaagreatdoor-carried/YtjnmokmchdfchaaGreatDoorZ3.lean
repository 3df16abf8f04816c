import Derived.Test.YtjnmokmchdfchaaGreatDoorZ1
import Derived.Test.YtjnmokmchdfchaaGreatDoorZ2
set_option maxRecDepth 1000000
set_option maxHeartbeats 8000000
set_option linter.all false
namespace Go.Proofs.YtjnmokmchdfchaaGreatDoor
open Go.RowKit Tryz
attribute[local go_sem↓]Go.wp_at_zero Go.wp_at_succ
variable{A:Addr}{C c:Array Value}{p:Int}{u:It}{K L:List Int}{b i j k l m n o:Nat}{P S:Nat->Prop}{O a:Option Addr}{T:TypeId}{x y z:Value}{V W v w:World}
theorem av.cell(h:av w W S)(a:w.cell? A=some x)(b:¬S A.block):W.cell? A=some x:=
 (lH (w:=w) (h.block _ (ep w _ a) b)).trans a
theorem kg(h:w.cell? A=some x)(a:A.block≠n):∀W,w.grownBy W (some n)->W.cell? A=some x:=λ_ k=>k.cell h (λe=>a (aO e))
theorem ph(h:w.heap[b]?=some (.cells #[x,y] T (0,0))):(w.cell? ⟨b,0,none⟩=some x/\w.cell? ⟨b,1,none⟩=some y)/\w.frozen? ⟨b,0,none⟩=false/\w.frozen? ⟨b,1,none⟩=false:=by
 simp[World.cell?,World.frozen?,h]
theorem xM{ob:Obj}(g:(w.alloc ob).drew.grownBy v none):v.heap[w.heap.size]?=some ob:=bA (W:=(w.alloc ob).drew) (aM w ob) g
structure jl(w:World)(sb a c:Nat)(cs:Array Value)(t:TypeId)(vb:Value)(b:List Int)(v:Value)(W:World):Prop where
 aN:W.heap[sb]?=some (.cells (cs.setIfInBounds (a+1) v) t (0,0))
 own:bm W c v b
 aw:av w W (λk=>k=sb\/vb.ownBlock=some k)
 new:v.ownBlock=vb.ownBlock\/∀k,v.ownBlock=some k->w.heap.size<=k
theorem av.grow(h:av w W S)(g:W.grownBy v none):av w v S:=(h.trans (av.of g)).mono (λk _ h=>h.elim id (λe=>by cases e))
theorem jl.gb(h:jl w n k i c T x L y W)(g:W.grownBy V none):jl w n k i c T x L y V:=
 ⟨bA h.aN g,h.own.ao g,h.aw.grow g,h.new⟩
theorem jl.trans(h:jl w n j l c T x L y W)(k:jl W n j l (c.setIfInBounds (j+1) y) T y K z V):jl w n j l c T x K z V:=by
 refine⟨?_,k.own,(h.aw.trans k.aw).mono (λi hi a=>?_),?_⟩
 rw[k.aN];simp;obtain a|a|a:=a
 exact a;exact .inl a;obtain e|e:=h.new
 exact .inr (e▸a);have:=e i a;omega;obtain e|e:=k.new
 rw[e];exact h.new;exact .inr (λi hi=>bD h.aw.size (e i hi))
theorem jl.hd{ac:Option Addr}{cc:Nat}{h:Hd}(f:w.heap[k]?=some (.cells C T (0,0)))(H:gK w k i O l m ac o cc h)(b:∀y,ac=some y->y.block≠k/\(Value.slice O l m).ownBlock≠some y.block){c:Nat}(p:jl w k i j C T (.slice O l m) L (.slice a n c) W)(hl:h.fr+L.length<=4611686018427387903/\L.length<=1000000):gK W k i a n c ac o cc ⟨h.fr,L,h.af⟩:=by
 obtain⟨c0,c1,c2,-,d,g,-,q,-,k4⟩:=H;rw[aX f]at c0 c1 c2;have r:i+1<C.size:=(aY.1 c1).1;refine⟨?_,?_,?_,p.own.gI,d.df (λs y t=>?_),g,hl.1,q,hl.2,k4⟩
 rw[aX p.aN];simpa [kE]using c0;rw[aX p.aN];simp[kE,r];rw[aX p.aN];simpa [kE]using c2;subst t;exact p.aw.block _ (d.lt s) (λe=>e.elim (b y rfl).1 (b y rfl).2)
theorem jl.apart(h:jl w n k i c T x L y W)(b:n<w.heap.size)(a:x.ownBlock≠some n):y.ownBlock≠some n:=by
 obtain e|e:=h.new
 rw[e];exact a;intro e2;have:=e _ e2;omega
theorem jl.app{b:World}(h:jl w n i j c T x L y W)(g:W.grownBy V none)(r:bm b j z K)(l:V.grownBy b y.ownBlock)(m:z.ownBlock=y.ownBlock\/z.ownBlock=some V.heap.size)(p:n<w.heap.size)(s:x.ownBlock≠some n):jl w n i j c T x K z (b.setCell ⟨n,i+1,none⟩ z):=by
 have d:=h.gb g;have q:=h.apart p s;have t:n<V.heap.size:=bY p d.aw.size;have u:b.heap[n]?=some (.cells (c.setIfInBounds (i+1) y) T (0,0)):=(l.block n t (λe=>q e.symm)).trans d.aN;have v:z.ownBlock≠some n:=by
  obtain e|e:=m
  rw[e];exact q;rw[e];intro e2;have:=aO e2;omega
 refine⟨by rw[heap_set u];simp,r.gb (aI (aB b (some n)) _ _ (.inr rfl)) (.inr v),?_,?_⟩
 refine((d.aw.trans (av.of l)).trans (av.of (aI (aB b (some n)) ⟨n,i+1,none⟩ z (.inr rfl)))).mono (λk f a=>?_);obtain(a|a)|a:=a
 exact a;obtain e|e:=h.new
 exact .inr (e▸a);have:=e k a;omega;exact .inl (aO a).symm;obtain e|e:=m
 rw[e];exact h.new;exact .inr (λk f=>by rw[e]at f;have:=aO f;have:=d.aw.size;omega)
theorem tA(h:c[i]?=some x):c.setIfInBounds i x=c:=by
 apply Array.ext_getElem?;intro j;rw[kE];split;rename_i e;subst e;rw[h,az (aY.1 h).1];rfl
theorem GC(b:List Int)(i:Nat):b++List.replicate i (0:Int)++[0]=b++List.replicate (i+1) 0:=by rw[fg,<-List.replicate_succ']
theorem GD(w:World)(sb d E:Nat)(cs:Array Value)(t:TypeId)(ab:Option Addr)(nb cb:Nat)(ac:Option Addr)(nc cc:Nat)(h:Hd)(dE:w.heap[sb]?=some (.cells cs t (0,0)))(H:gK w sb d ab nb cb ac nc cc h)(ho:bm w E (.slice ab nb cb) h.bytes)(g2:E<=w.heap.size)(dG:(Value.slice ab nb cb).ownBlock≠some sb)(b8:∀y,ac=some y->y.block≠sb/\(Value.slice ab nb cb).ownBlock≠some y.block)
 (f:Fr) (rv:Value) (hf:0<=f.offset) (hs:aT f<=4611686018427387903) (ea:∀m,f.offset<=m->m<aT f->¬Sm h.af m->h.fr<=m/\m<h.fr+900000):
 Calls prog 258 #[.pointer (some ⟨sb,d,none⟩),.agg (bP f rv)] w λr p=>r=.returned (.tuple #[])/\∃a n c N n2 c2,p.heap[sb]?=some (.cells ((cs.setIfInBounds (d+1) (.slice a n c)).setIfInBounds (d+2) (.slice N n2 c2)) t (0,0))/\bm p E (.slice a n c) (gL h.fr f.offset (aG f.data) (jk h.af ⟨f.offset,aT f⟩) h.bytes)/\bu p N n2 c2 (dv h.af ⟨f.offset,aT f⟩)/\av w p (λk=>k=sb\/(Value.slice ab nb cb).ownBlock=some k)/\((Value.slice a n c).ownBlock=(Value.slice ab nb cb).ownBlock\/∀k,(Value.slice a n c).ownBlock=some k->w.heap.size<=k)/\((N=ac/\n2=nc/\c2=cc)\/∀y,N=some y->w.heap.size<=y.block/\y.block<p.heap.size/\(Value.slice a n c).ownBlock≠some y.block):=by
 have hE:=J (λW=>xC W f rv hf (by omega));have g3:sb<w.heap.size:=(aY.1 dE).1;have ca:(⟨f.offset,aT f⟩:Rg).ok:=by
  have:0<=aT f:=by unfold aT;omega
  have:f.offset<=aT f:=by unfold aT;omega
  constructor<;>simp only[aV]<;>omega
 obtain⟨en,a4⟩:=exq (aT f);rw[<-a4]at hE ea hs ca⊢;have hM:=J (λW(g:w.grownBy W none)=>Au W sb d ab nb cb ac nc cc h (H.ao g) ⟨f.offset,en⟩ ca);have ee:Hid (en=f.offset+(aG f.data).length):=J (by rw[fu];exact a4);replace a4:=J a4;obtain⟨kind,stream,offset,code,fin,data,ranges⟩:=f;unfold bP at *;simp only at *;obtain⟨G,a1⟩:=exq (w.alloc (.cells #[.int .i64 kind,.int .i64 stream,.int .u64 offset,.int .u64 code,.bool fin,.string data,rv] 158));have g1:w.grownBy G none:=by rw[a1];exact aH _ _ _
 have a8:G.heap[w.heap.size]?=some (.cells #[.int .i64 kind,.int .i64 stream,.int .u64 offset,.int .u64 code,.bool fin,.string data,rv] 158 (0,0)):=by rw[a1];exact aM _ _
 obtain⟨q0,q1,q2,q3,q4,q5,q6⟩:=cH a8;have bb:G.heap.size=w.heap.size+1:=by rw[a1];simp
 replace q0:=kc q0;replace q1:=kc q1;replace q2:=kc q2;replace q3:=kc q3;replace q4:=kc q4;replace q5:=kc q5;replace q6:=kc q6;have gr:G.grownBy G.drew none:=aW (aB _ _);replace a8:=J a8;replace bb:=J bb;go_enter func258,ntmps258;go_upto_region 1 with fail;rw[<-a1];clear a1;go_cut [4] (λv wx=>∃B:Nat,v=.pointer (some ⟨B,0,none⟩)/\G.heap.size<=B/\wx.heap[B]?=some (.cells #[.int .u64 offset,.int .u64 en] 341 (0,0))/\G.grownBy wx none);case first=>
  go_region_held3 (λp=>G.grownBy p none)
   (first|with_reducible exact X|with_reducible exact gr|with_reducible exact aW (ba (aB _ _) _)|with_reducible exact ba gr _|with_reducible exact ba X _|with_reducible exact aI (aI X _ _ (.inl (aP _))) _ _ (.inl (aP _)))
   (first
     |(go_at_call 247;refine(Z hE G.drew).mono ?_;rintro e w5⟨rfl,g5⟩;have X:G.grownBy w5 none:=aq gr g5;have g4:=g5.size)
     |(go_at_call 247;refine(Z hE (G.alloc (.cells #[.int .u64 0,.int .u64 0] 341)).drew).mono ?_;rintro e w5⟨rfl,g5⟩;have X:G.grownBy w5 none:=aq (aW (ba (aB _ _) _)) g5;have bj:=xM g5;obtain⟨⟨k0,k1⟩,z0,z1⟩:=ph bj;replace bj:=J bj))
  ·go_wp2_with fail;go_meet;exact⟨_,rfl,X.size,aM _ _,ba X _⟩
  go_wp2_with fail;go_meet;exact⟨_,rfl,aP _,heap_set (heap_set (Z bj) _) _,aI (aI X _ _ (.inl (aP _))) _ _ (.inl (aP _))⟩
 case rest=>
  obtain⟨B,rfl,hB,br,gB⟩:=hcut;have ch:=aq g1 gB;have cj:wc.grownBy wc.drew none:=aW (aB _ _);obtain⟨⟨k0,k1⟩,z0,z1⟩:=ph br;have eg:Hid (wc.heap[w.heap.size]?=some (.cells #[.int .i64 kind,.int .i64 stream,.int .u64 offset,.int .u64 code,.bool fin,.string data,rv] 158 (0,0))):=J (bA (Z a8) gB);replace k0:=kc k0;replace k1:=kc k1;clear q0 q1 q2 q3 q4 q5 q6 gr hE;replace br:=J br;replace hB:=J hB;go_upto_region 2 with fail;go_region_held3 (λp=>wc.grownBy p none)
   (first|with_reducible exact a2|with_reducible exact cj)
   (first
     |(go_at_call 278;refine(Z hM wc.drew (aq ch cj)).mono ?_;rintro e T⟨⟨a6,O,c6,M,rfl,m1,m2,m3,m4,m5⟩,g6⟩;have a2:wc.grownBy T none:=aq cj g6;replace m1:=J m1;replace m2:=J m2;replace m3:=J m3;replace m4:=J m4;replace m5:=J m5))
  have fa:Hid (M=jk h.af ⟨offset,en⟩):=J (As (Z m2) (Z m5));have F:=aq ch a2;have ax:=bA dE F;have H6:=H.ao F;have P0:jl T sb d E cs t (.slice ab nb cb) (gL h.fr offset (aG data) (M.take 0) h.bytes) (.slice ab nb cb) T:=by
   obtain⟨-,c1,-⟩:=H6;rw[aX ax]at c1;exact⟨by rw[tA c1];exact ax,ho.ao F,av.rfl' _ _,.inl rfl⟩
  have ei:Hid (O=M.length):=J (Z m1).2.1;have ha:=(Z m1).2.2.1;have fb:=(Z m1).2.2.2.1;unfold maxLen at fb;have Y:bu T a6 O c6 M:=Z m1;replace P0:=J P0;replace H6:=J H6;replace ax:=J ax;replace Y:=J Y;go_wp2_with fail;go_loopw [18] (λcv wr=>∃(j:Nat)(v:Value),j<=O/\cv=.int .i64 (j:Int)/\jl T sb d E cs t (.slice ab nb cb) (gL h.fr offset (aG data) (M.take j) h.bytes) v wr/\h.fr+(gL h.fr offset (aG data) (M.take j) h.bytes).length<=4611686018427387903/\(gL h.fr offset (aG data) (M.take j) h.bytes).length<=1000000) (λcv _=>O-(intOf cv).toNat);case atStart=>exact⟨0,_,by omega,rfl,Z P0,H.2.2.2.2.2.2.1,H.2.2.2.2.2.2.2.2.1⟩
  case round=>
   rename World=>u
   obtain⟨j,v,hj,rfl,q,ej,ek⟩:=hrel;obtain⟨b,aC⟩:=exq (gL h.fr offset (aG data) (M.take j) h.bytes);rw[<-aC]at q ej ek;replace aC:=J aC;by_cases hg:j<O
   ·have d1:decide ((j:Int)<(O:Int))=true:=bK (by omega);have i1:(j:Int)<(O:Int):=by omega
    have bt:j<M.length:=by have:=Z ei;omega
    obtain⟨-,-,-,-,h0|⟨b6,o6,rfl,-⟩⟩:=id (Z Y);omega;have eo:¬(b6=sb\/(Value.slice ab nb cb).ownBlock=some b6):=by
     have I:=Z m3 ⟨b6,o6,none⟩ rfl;have h2:w.heap.size<=wc.heap.size:=ch.size;have h3:wc.heap.size=wc.drew.heap.size:=rfl;simp only at I;rintro(z|z);omega;have:=(ho.lt _ z).2;omega
    obtain⟨y0,y1⟩:=(Z Y).cell j bt;replace y0:=q.aw.cell y0 eo;replace y1:=q.aw.cell y1 eo;have ew:=oD (Z Y).1 j;have cp:=(Z m2).pos bt;have cw:∀m,(au M j).lo<=m->m<(au M j).hi->(offset<=m/\m<en)/\h.fr<=m/\m<h.fr+900000:=λm Y ff=>by
     have I:=(Z m5 m).1 ⟨_,oZ bt,Y,ff⟩;exact⟨I.1,ea m I.1.1 I.1.2 I.2⟩
    have x1:=cw (au M j).lo (cW _) cp;have x2:=cw ((au M j).hi-1) (by omega) (by omega);have a3:Hid (gL h.fr offset (aG data) (M.take (j+1)) h.bytes=lQ h.fr offset (aG data) b (au M j)):=J (by rw[Gh _ _ _ _ _ _ bt,Z aC]);obtain⟨x,hx⟩:=exq (au M j);rw[<-hx]at y0 y1 ew cp x1 x2 a3;clear hx cw aC;obtain⟨s,l⟩:=x;simp only at y0 y1 cp x1 x2 ew;have gX:=aH u (.cells #[.int .u64 s,.int .u64 l] 341) none;have P:=q.gb gX;have hX:(u.alloc (.cells #[.int .u64 s,.int .u64 l] 341)).heap[u.heap.size]?=some (.cells #[.int .u64 s,.int .u64 l] 341 (0,0)):=aM _ _;obtain⟨WX,bx⟩:=exq (u.alloc (.cells #[.int .u64 s,.int .u64 l] 341));rw[<-bx]at gX P hX;obtain⟨ob,A,oc,rfl⟩:∃a n c,v=.slice a n c:=by
     obtain⟨a,c,e,-⟩:=P.own.bs;exact⟨_,_,_,e⟩
    have cx:(Value.slice ob A oc).ownBlock≠some sb:=by
     obtain e|e:=P.new
     rw[e];exact dG;intro e2;have:=e _ e2;have:w.heap.size<=T.heap.size:=F.size;omega
    have ey:(Value.slice ob A oc).ownBlock≠some u.heap.size:=λe=>by have:=(q.own.lt _ e).2;omega
    have P1:jl WX sb d E (cs.setIfInBounds (d+1) (.slice ob A oc)) t (.slice ob A oc) (b++List.replicate 0 0) (.slice ob A oc) WX:=⟨by rw[P.aN];simp,by simpa using P.own,av.rfl' _ _,.inl rfl⟩
    replace P1:=J P1;replace P:=J P;replace q:=J q;replace hX:=J hX;have al:Hid (u.heap.size<WX.heap.size):=J (by rw[bx];simp);have fo:Hid (∀y,ac=some y->y.block≠sb/\(Value.slice ab nb cb).ownBlock≠some y.block):=J b8;have fq:Hid (∀(W:World)(i:Nat)(a:Option Addr)(n c:Nat),jl WX sb d E (cs.setIfInBounds (d+1) (.slice ob A oc)) t (.slice ob A oc) (b++List.replicate i 0) (.slice a n c) W->i<=(l-h.fr).toNat-b.length->gK W sb d a n c ac nc cc ⟨h.fr,b++List.replicate i 0,h.af⟩):=J (λW i a n c hp hi=>((Z P).trans hp).hd (Z ax) (Z H6) (Z fo) (by rw[bH,uB];omega));go_wp2_with fail;rw[<-bx];clear bx;go_loopg [] ((l-h.fr).toNat-b.length) (λgh wz=>∃(i:Nat)(v:Value),gh=(l-h.fr).toNat-b.length-i/\i<=(l-h.fr).toNat-b.length/\jl WX sb d E (cs.setIfInBounds (d+1) (.slice ob A oc)) t (.slice ob A oc) (b++List.replicate i 0) v wz);case atStart=>exact⟨0,_,by omega,by omega,Z P1⟩
    case round=>
     obtain⟨i,v,hh,hi,C⟩:=hrel;obtain⟨za,K,U,rfl⟩:∃a n c,v=.slice a n c:=by
      obtain⟨a,c,e,-⟩:=C.own.bs;exact⟨_,_,_,e⟩
     have a0:=Z fq wr i za K U C hi;have cy:=J (λk=>Ay (wr.drewN k) sb d za K U ac nc cc ⟨h.fr,b++List.replicate i 0,h.af⟩ (a0.ao (di (aB _ _) k)));have ez:(h.fr:Int)+((b++List.replicate i (0:Int)).length:Int)=h.fr+b.length+i:=by rw[bH,uB];omega
     simp only[ez]at cy;clear ez;have cC:wr.heap[u.heap.size]?=some (.cells #[.int .u64 s,.int .u64 l] 341 (0,0)):=(C.aw.block _ (Z al) (by
      have I:w.heap.size<=u.heap.size:=bD F.size (Z q).aw.size;rintro(z|z);omega
      ·exact ey z)).trans (Z hX)
     obtain⟨⟨u0,u1⟩,-,-⟩:=ph cC;obtain⟨c0,c1,c2,-⟩:=id a0;have hn:sb<wr.heap.size:=ep wr _ c0;have fz:wr.frozen? ⟨sb,d+1,none⟩=false:=by simp[World.frozen?,C.aN]
     replace C:=J C;replace a0:=J a0;replace cC:=J cC;by_cases hc:b.length+i<(l-h.fr).toNat
     ·have d5:decide (h.fr+(b.length:Int)+(i:Int)<l)=true:=bK (by omega);go_wp2_with fail;go_quiet (first|(go_at_call 196;exact Calls.quiet_of (Z cy _)));have gq:wr.grownBy ((wr.drewN nq).alloc (.cells #[.int .u8 0] 5)) none:=ba (di (aB _ _) nq) _;have oz:=J ((Z C).own.ao gq);have bz:=J (uM (wr.drewN nq) 0 (by simp[W8]));have ht:E<=wr.heap.size:=by have:=Z al;have:=(Z C).aw.size;have:=(Z q).aw.size;have:=F.size;omega
      have fs:Hid ((Value.slice za K U).ownBlock≠some sb):=J ((Z C).apart (by have:=Z al;have:=(Z q).aw.size;have:=F.size;omega) cx);have fy:Hid (((wr.drewN nq).alloc (.cells #[.int .u8 0] 5)).heap[sb]?=some (.cells ((cs.setIfInBounds (d+1) (.slice ob A oc)).setIfInBounds (d+1) (.slice za K U)) t (0,0))):=J (bA (Z C).aN gq);go_wp2_with (at_builtin;go_loud (refine rG (by rfl) _ _ (by rfl) E _ (b++List.replicate i 0) (by rfl) (Z oz) _ _ _ [0] (by rfl) (Z bz) (by simp;omega) (by simp;omega) ?_;intro a7 c7 w7 o7 g7 h7;replace o7:=J o7;replace h7:=J h7;have bM:=(g7.block sb (by simp;omega) (λe=>Z fs e.symm)).trans (Z fy);have hv:w7.cell? ⟨sb,d+1,none⟩=some (.slice za K U):=((lH (w:=wr) (a:=⟨sb,d+1,none⟩) (bM.trans (Z C).aN.symm)).trans c1);have f7:w7.frozen? ⟨sb,d+1,none⟩=false:=(by simp[World.frozen?,bM]);replace bM:=J bM;replace g7:=J g7));go_roundg ((l-h.fr).toNat-b.length-(i+1));case measure=>omega
      case rel=>
       have e7:b.length+i+1=(b++List.replicate i (0:Int)).length+[(0:Int)].length:=by simp
       refine⟨i+1,.slice a7 (b.length+i+1) c7,rfl,by omega,?_⟩
       rw[e7,<-GC];exact(Z C).app gq (Z o7) (Z g7) (Z h7) (by have:=Z al;have:=(Z q).aw.size;have:=F.size;omega) cx
     have d5:decide (h.fr+(b.length:Int)+(i:Int)<l)=false:=bI (by omega);have eK:Hid (b++List.replicate i 0=mX h.fr b ⟨s,l⟩):=J (by
      unfold mX;congr 2;simp only
      omega)
     have eL:¬(w.heap.size=sb\/(Value.slice ab nb cb).ownBlock=some w.heap.size):=by
      rintro(z|z);omega;have:=(ho.lt _ z).2;omega
     have eS:¬(w.heap.size=sb\/(Value.slice ob A oc).ownBlock=some w.heap.size):=by
      rintro(z|z);omega;obtain e|e:=(Z q).new
      exact eL (.inr (e▸z));have h5:=e _ z;have h6:w.heap.size<wc.heap.size:=(aY.1 (Z eg)).1;have h7:=a2.size;omega
     have c9:wr.heap[w.heap.size]?=some (.cells #[.int .i64 kind,.int .i64 stream,.int .u64 offset,.int .u64 code,.bool fin,.string data,rv] 158 (0,0)):=by
      have h6:=bA (Z eg) a2;have l6:w.heap.size<T.heap.size:=(aY.1 h6).1;have h7:=((Z q).aw.block _ l6 eL).trans h6;have h8:=bA h7 gX;exact((Z C).aw.block _ (aY.1 h8).1 eS).trans h8
     obtain⟨-,-,q2,-,-,q5,-⟩:=cH c9;replace c9:=J c9;go_wp2_with fail;go_quiet (first|(go_at_call 196;exact Calls.quiet_of (Z cy _)));obtain⟨W8,db⟩:=exq (wr.drewN nq);have g8:wr.grownBy W8 none:=by rw[db];exact di (aB _ _) nq
     have Q:=(Z C).gb g8;rw[Z eK]at Q;have H8:=(Z a0).ao g8;rw[Z eK]at H8;have b0:(mX h.fr b ⟨s,l⟩).length=max b.length (l-h.fr).toNat:=vs _ _ _;have e3:=J (λW(g:W8.grownBy W none)=>AB W sb d za K U ac nc cc ⟨h.fr,mX h.fr b ⟨s,l⟩,h.af⟩ (H8.ao g) (s-h.fr).toNat (l-h.fr).toNat (by omega) (by rw[b0];omega) s l (by simp only;omega) (by simp only;omega));obtain⟨k9,b3⟩:∃k:Nat,(k:Int)=s-offset:=⟨(s-offset).toNat,by omega⟩
     have hz:IntKind.u64.wrap (s-offset)=(k9:Int):=by rw[<-b3,fh];omega
     have hC:(k9:Int)<=(data.size:Int):=by have:=Z ee;rw[fu]at this;omega
     have hD:k9<=data.size:=by omega
     replace b3:=J b3;obtain⟨L,rfl⟩:∃g,za=some ⟨g,0,none⟩:=by
      obtain⟨-,e⟩|⟨g,-,e,-⟩:=zT Q.own
      have:=Q.own.gI.2.1;omega;exact⟨g,e⟩
     have fA:Hid (K=(mX h.fr b ⟨s,l⟩).length):=J Q.own.gI.2.1;obtain⟨V,b4⟩:=exq ((s-h.fr).toNat);obtain⟨q9,b5⟩:=exq ((l-h.fr).toNat);have ga:V<q9:=by omega
     rw[<-b4,<-b5]at e3;have gd:Hid (V+((aG (data.extract k9 data.size)).take (q9-V)).length<=K):=J (by rw[Z fA,b0,ct];omega);replace b4:=J b4;replace b5:=J b5;have n0:L≠u.heap.size:=by
      obtain e|e:=(Z C).new
      exact λe2=>ey (by rw[<-e,<-e2];rfl)
      have I:=e L rfl;have h2:=Z al;omega
     have n1:L≠w.heap.size:=by
      obtain e|e:=(Z C).new
      exact λe2=>eS (.inr (by rw[<-e,<-e2];rfl))
      have I:=e L rfl;have h2:=Z al;have h3:=(Z q).aw.size;have z:=F.size;omega
     have r0:=kg (g8.cell u0 (by simp)) n0.symm;have r1:=kg (g8.cell u1 (by simp)) n0.symm;have r2:=kg (g8.cell q2 (by simp)) n1.symm;have r5:=kg (g8.cell q5 (by simp)) n1.symm;have e4:W8.grownBy W8.drew none:=aW (aB _ _);have gf:W8.grownBy W8.drew (some L):=aW (aB _ _);clear u0 u1 q2 q5 c0 c1 c2 fz;replace Q:=J Q;replace b0:=J b0;go_upto_region 7 with fail;rw[<-db];clear db;go_region_held3 (λp=>W8.grownBy p (some L))
      (first|with_reducible exact gg|with_reducible exact b7|with_reducible exact gf)
      (first
        |(go_at_call 285;refine(Z e3 W8.drew e4).mono ?_;rintro e w9⟨a9,rfl,gi,e5,g9⟩;have de:W8.grownBy w9 none:=aq e4 g9;have b7:W8.grownBy w9 (some L):=cX de _;clear gi;obtain rfl:a9=some ⟨L,V,none⟩:=(e5.2 ga).trans (by simp only[rD,Addr.add_lit,dR]);clear e5)
        |(refine Ga _ _ (by rfl) (by rfl) E L V K U _ _ (by rfl) _ (by rfl) (mX h.fr b ⟨s,l⟩) ((Z Q).own.ao de) (Z gd) ?_;intro gj dg dk;replace dg:=J dg;have gg:=aq b7 dk))
     have dn:jl WX sb d E (cs.setIfInBounds (d+1) (.slice ob A oc)) t (.slice ob A oc) (lQ h.fr offset (aG data) b ⟨s,l⟩) (.slice (some ⟨L,0,none⟩) K U) gj:=by
      have e1:lQ h.fr offset (aG data) b ⟨s,l⟩=splice (mX h.fr b ⟨s,l⟩) V ((aG (data.extract k9 data.size)).take (q9-V)):=by
       have I:=Z b3;have h2:=Z b4;have h3:=Z b5;unfold lQ;rw[F6];simp only
       rw[show(s-offset).toNat=k9 by omega,show(l-s).toNat=q9-V by omega,<-h2]
      rw[e1];have P9:=(Z Q).gb de;refine⟨?_,Z dg,?_,P9.new⟩
      rw[dk.block sb (ep _ _ (by rw[aX P9.aN];exact(by have:=(Z a0).2.1;rw[aX (Z C).aN]at this;exact this))) (λe=>(Z Q).apart (by have:=Z al;have:=(Z q).aw.size;have:=F.size;omega) cx e.symm)];exact P9.aN;refine(P9.aw.trans (av.of dk)).mono (λk hk D=>?_);obtain D|D:=D
      exact D;obtain e|e:=P9.new
      exact .inr (by rw[<-e];exact D);have:=e k D;omega
     have ds:=(Z P).trans dn;replace ds:=J ds;replace dn:=J dn;go_wp2_with fail;go_roundw;case measure=>simp[intOf];omega
     case rel=>
      refine⟨j+1,_,by omega,by simp,by rw[Z a3];exact Z ds,?_⟩
      have hG:=Z ee;rw[Z a3,At (x:=⟨s,l⟩) (by simp only;omega) (by simp only;omega) (by simp only;omega) (by simp only;omega)];simp only
      omega
   have d1:decide ((j:Int)<(O:Int))=false:=bI (by omega);obtain rfl:j=O:=by omega
   obtain⟨ob,A,oc,rfl⟩:∃a n c,v=.slice a n c:=by
    obtain⟨a,c,e,-⟩:=q.own.bs;exact⟨_,_,_,e⟩
   have gn:Hid (b=gL h.fr offset (aG data) (jk h.af ⟨offset,en⟩) h.bytes):=J (by rw[Z aC,<-Z fa,Z ei,oq]);have Hq:=q.hd (Z ax) (Z H6) b8 ⟨ej,ek⟩;have du:B≠sb:=by have:=Z hB;have:=Z bb;omega
   have e6:u.heap[B]?=some (.cells #[.int .u64 offset,.int .u64 en] 341 (0,0)):=by
    have h6:=bA (Z br) a2;refine(q.aw.block B (aY.1 h6).1 ?_).trans h6;rintro(z|z);exact du z;have:=(ho.lt _ z).2;have:=Z hB;have:=Z bb;omega
   obtain⟨⟨s0,s1⟩,-,-⟩:=ph e6;replace s0:=kg (n:=sb) s0 du;replace s1:=kg (n:=sb) s1 du;have S:=q.gb (aW (aB u none));have hA:=J (xB u.drew sb (d+2) (cs.setIfInBounds (d+1) (.slice ob A oc)) t ac nc cc h.af ⟨offset,en⟩ S.aN (by have:=Hq.2.2.1;rwa[aX q.aN]at this) (Hq.2.2.2.2.1.ao (aW (aB u none))) (λy e=>(b8 y e).1) Hq.2.2.2.2.2.2.2.1 ca (by have I:=Hq.2.2.2.2.1.2.1;have h2:=Hq.2.2.2.2.2.2.2.2.2;simp only at I h2;omega));have e8:u.grownBy u.drew (some sb):=aW (aB _ _);obtain⟨R,hR⟩:=exq (λp:World=>∃a n c N n2 c2,p.heap[sb]?=some (.cells ((cs.setIfInBounds (d+1) (.slice a n c)).setIfInBounds (d+2) (.slice N n2 c2)) t (0,0))/\bm p E (.slice a n c) b/\bu p N n2 c2 (dv h.af ⟨offset,en⟩)/\av w p (λk=>k=sb\/(Value.slice ab nb cb).ownBlock=some k)/\((Value.slice a n c).ownBlock=(Value.slice ab nb cb).ownBlock\/∀k,(Value.slice a n c).ownBlock=some k->w.heap.size<=k)/\((N=ac/\n2=nc/\c2=cc)\/∀y,N=some y->w.heap.size<=y.block/\y.block<p.heap.size/\(Value.slice a n c).ownBlock≠some y.block));have a3:Hid (∀p,ts u.drew p sb (d+2) ac nc cc h.af (λl'=>l'.length<=h.af.length+1/\∀m,Sm l' m↔Sm h.af m\/(offset<=m/\m<en))->R p):=J (by
    rintro p⟨a',n',c',l',⟨gu,hu⟩,hr,gw,gA,-,hq⟩;have e1:l'=dv h.af ⟨offset,en⟩:=vq Hq.2.2.2.2.2.2.2.1 gA hq;have gE:(Value.slice ob A oc).ownBlock≠some sb:=S.apart (by have:=F.size;omega) dG;have gU:av w T (λ_=>False):=(av.of F).mono (λk _ e=>by cases e);have gW:=F.size;rw[hR];refine⟨ob,A,oc,a',n',c',hu _ _ S.aN,S.own.gb gu (.inr gE),e1▸hr,((gU.trans S.aw).trans (av.of gu)).mono (λk _ D=>?_),?_,?_⟩
    obtain(D|D)|D:=D
    exact D.elim;exact D;exact .inl (aO D).symm;exact S.new.imp id (λe k hk=>bD gW (e k hk))
    ·refine gw.imp (λh=>⟨h.1,h.2.1,h.2.2.1⟩) (λe y hy=>⟨?_,(e y hy).2,λe2=>?_⟩);have:=(e y hy).1;have:=S.aw.size;omega
     ·have:=(e y hy).1;have:=(S.own.lt _ e2).2;omega)
   replace hR:=J hR;clear Hq e6 S;replace q:=J q;go_wp2_with fail;go_region_held3 (λp=>u.grownBy p (some sb))
    (first|with_reducible exact b7|with_reducible exact e8)
    (first|(go_at_call 215;refine(Z hA).mono ?_;rintro e w9⟨rfl,dx⟩;have b7:u.grownBy w9 (some sb):=(by obtain⟨a',n',c',l',⟨gu,-⟩,-⟩:=dx;exact aq e8 gu);have g0:=J (Z a3 _ dx);clear dx))
   go_wp2_with fail;have e9:=Z g0;rw[Z hR,Z gn]at e9;exact eW (et rfl _ _ _) rfl ⟨rfl,e9⟩
structure rM(w b:World)(sb:Nat)(t:TypeId)(cs a:Array Value)(lo n:Nat)(vb c:Value):Prop where
 aN:b.heap[sb]?=some (.cells a t (0,0))
 sz:a.size=cs.size
 out:∀i,i<lo\/lo+n<=i->a[i]?=cs[i]?
 aw:av w b (λk=>k=sb\/vb.ownBlock=some k)
 new:c.ownBlock=vb.ownBlock\/∀k,c.ownBlock=some k->w.heap.size<=k
def xN(w b:World)(d vc a:Value):Prop:=a=vc\/∀y n c,a=.slice (some y) n c->w.heap.size<=y.block/\y.block<b.heap.size/\d.ownBlock≠some y.block
structure hb(w:World)(d:Nat)(cs:Array Value)(b:Nat)(vb vc:Value)(s:It):Prop where
 c0:cs[b]?=some (.int .u64 s.h.fr)
 c1:cs[b+1]?=some vb
 c2:cs[b+2]?=some vc
 c3:cs[b+3]?=some (.int .u64 s.high)
 c4:cs[b+4]?=some (.int .u64 s.last)
 c5:cs[b+5]?=some (.int .u64 s.code)
 c6:cs[b+6]?=some (.bool s.ended)
 c7:cs[b+7]?=some (.bool s.given)
 c8:cs[b+8]?=some (.bool s.over)
 own:bm w d vb s.h.bytes
 set:∃a n c,vc=.slice a n c/\bu w a n c s.h.af
def kn(w:World)(sb:Nat)(vb vc:Value):Prop:=vb.ownBlock≠some sb/\∀y n c,vc=.slice (some y) n c->y.block≠sb/\vb.ownBlock≠some y.block/\y.block<w.heap.size
theorem hb.tail(h:hb w k c i x y u)(a:w.heap[n]?=some (.cells c T (0,0))):rK w n i u:=
 ⟨(aX a _).trans h.c3,(aX a _).trans h.c4,(aX a _).trans h.c5,(aX a _).trans h.c6,(aX a _).trans h.c7,(aX a _).trans h.c8⟩
theorem hb.mY(h:hb w k C i x y u):∃ab nb cb ac nc cc,x=.slice ab nb cb/\y=.slice ac nc cc:=by
 obtain⟨a,n,c,e,-⟩:=h.set;obtain⟨d,f,b,-⟩:=h.own.bs;exact⟨_,_,_,_,_,_,b,e⟩
theorem hb.hd{ac:Option Addr}(h:hb w i C j (.slice O l m) (.slice ac o b) u)(d:w.heap[k]?=some (.cells C T (0,0)))(f:u.h.nice):gK w k j O l m ac o b u.h:=by
 refine⟨(aX d _).trans h.c0,(aX d _).trans h.c1,(aX d _).trans h.c2,h.own.gI,?_,f⟩
 obtain⟨a,n,c,e,g⟩:=h.set;cases e;exact g
theorem hb.ao(h:hb w k C i x y u)(g:w.grownBy W none):hb W k C i x y u:=
 ⟨h.c0,h.c1,h.c2,h.c3,h.c4,h.c5,h.c6,h.c7,h.c8,h.own.ao g,by obtain⟨a,n,c,e,b⟩:=h.set;exact⟨a,n,c,e,b.ao g⟩⟩
def It.bad(s:It)(f:Fr):Bool:=(s.ended&&decide (s.last<aT f))||(f.fin&&s.gp (aT f))
def It.data(s:It)(f:Fr):It:=
 {s with high:=max s.high (aT f),ended:=s.ended||f.fin,last:=if f.fin then aT f else s.last,h:=if s.given then s.h else⟨s.h.fr,gL s.h.fr f.offset (aG f.data) (jk s.h.af ⟨f.offset,aT f⟩) s.h.bytes,dv s.h.af ⟨f.offset,aT f⟩⟩}
theorem gM(h:c[i]?=some x):i<c.size:=(aY.1 h).1
theorem cB(h:i<c.size):(c.setIfInBounds i x)[i]?=some x:=by
 rw[kE,az rfl,az h]
theorem rM.AD(a:w.heap[i]?=some (.cells c T (0,0)))(g:w.grownBy W none)(lo n:Nat)(vb:Value):rM w W i T c c lo n vb vb:=
 ⟨bA a g,rfl,λ_ _=>rfl,(av.of g).mono (λk _ e=>by cases e),.inl rfl⟩
def mZ(w a:World)(sb:Nat)(t:TypeId)(cs:Array Value)(c f:Nat)(vb vc:Value)(s:It):Prop:=
 ∃d b e,rM w a sb t cs d c 9 vb b/\hb a f d c b e s/\xN w a b vc e
def iJ(cs:Array Value)(a:Nat)(s:It)(f:Fr):Array Value:=
 ((cs.setIfInBounds (a+3) (.int .u64 (max s.high (aT f)))).setIfInBounds (a+6) (.bool (s.ended||f.fin))).setIfInBounds (a+4) (.int .u64 (if f.fin then aT f else s.last))
theorem kK(cs:Array Value)(a:Nat)(s:It)(f:Fr)(i:Nat)(h:i≠a+3/\i≠a+6/\i≠a+4):(iJ cs a s f)[i]?=cs[i]? :=by
 unfold iJ;rw[bg (by omega),bg (by omega),bg (by omega)]
theorem AE(s:It)(f:Fr)(h:n+8<c.size):(iJ c n s f)[n+3]?=some (.int .u64 (max s.high (aT f)))/\(iJ c n s f)[n+6]?=some (.bool (s.ended||f.fin))/\(iJ c n s f)[n+4]?=some (.int .u64 (if f.fin then aT f else s.last)):=by
 unfold iJ;refine⟨?_,?_,?_⟩
 rw[bg (by omega),bg (by omega)];exact cB (by omega);rw[bg (by omega)];exact cB (by simp;omega);exact cB (by simp;omega)
theorem GF(f:Fr)(a:c[n+4]?=some (.int .u64 u.last))(b:c[n+6]?=some (.bool u.ended))(d:f.fin=false):iJ c n u f=c.setIfInBounds (n+3) (.int .u64 (max u.high (aT f))):=by
 unfold iJ;rw[d];simp only[sY,fR,gm]
 rw[tA (x:=.bool u.ended) (by rw[bg (by omega)];exact b),tA (x:=.int .u64 u.last) (by rw[bg (by omega)];exact a)]
theorem GG(H:hb w m C l x z u)(d:kn w j x z)(f:Fr)(p:W.heap[j]?=some (.cells (iJ C l u f) T (0,0)))(g:w.grownBy W (some j))(q:u.given=true):mZ w W j T C l m x z (u.data f):=by
 obtain⟨k3,r,k4⟩:=AE u f (gM H.c8);refine⟨_,x,z,⟨p,by simp[iJ],λi hi=>kK _ _ _ _ _ (by omega),(av.of g).mono (λk _ e=>.inl (aO e).symm),.inl rfl⟩,?_,.inl rfl⟩
 have b:(u.data f).h=u.h:=by simp[It.data,q]
 refine⟨?_,?_,?_,k3,k4,?_,r,?_,?_,?_,?_⟩
 rw[kK _ _ _ _ _ (by omega),b];exact H.c0;rw[kK _ _ _ _ _ (by omega)];exact H.c1;rw[kK _ _ _ _ _ (by omega)];exact H.c2;rw[kK _ _ _ _ _ (by omega)];exact H.c5;rw[kK _ _ _ _ _ (by omega)];exact H.c7;rw[kK _ _ _ _ _ (by omega)];exact H.c8;rw[b];exact H.own.gb g (.inr d.1);obtain⟨a,n,c,e,s⟩:=H.set;rw[b];exact⟨a,n,c,e,s.gb g (λy t e2=>by subst t;exact(d.2 y n c e).1 (aO e2).symm)⟩
theorem GH(H:hb w o c l x z u)(D:u.h.nice)(E:o<=w.heap.size)(d:kn w j x z)(S:j<w.heap.size)(f:Fr)(A:Value)(F:0<=f.offset)(hs:aT f<=4611686018427387903)(G:∀m,f.offset<=m->m<aT f->¬Sm u.h.af m->u.h.fr<=m/\m<u.h.fr+900000)
 (q:W.heap[j]?=some (.cells (iJ c l u f) T (0,0))) (g:w.grownBy W (some j)) (I:u.given=false):
 Calls prog 258 #[.pointer (some ⟨j,l,none⟩),.agg (bP f A)] W λr B=>r=.returned (.tuple #[])/\mZ w B j T c l o x z (u.data f):=by
 obtain⟨ab,nb,cb,ac,nc,cc,rfl,rfl⟩:=H.mY;have s:bu w ac nc cc u.h.af:=by obtain⟨a,n,t,e,s⟩:=H.set;cases e;exact s
 have K:bu W ac nc cc u.h.af:=s.gb g (λy L e2=>by subst L;exact(d.2 y nc cc rfl).1 (aO e2).symm);have ho:bm W o (.slice ab nb cb) u.h.bytes:=H.own.gb g (.inr d.1);obtain⟨k3,M,k4⟩:=AE u f (gM H.c8);have N:gK W j l ab nb cb ac nc cc u.h:=by
  refine⟨?_,?_,?_,ho.gI,K,D⟩
  rw[aX q,kK _ _ _ _ _ (by omega)];exact H.c0;rw[aX q,kK _ _ _ _ _ (by omega)];exact H.c1;rw[aX q,kK _ _ _ _ _ (by omega)];exact H.c2
 refine(GD W j l o _ T ab nb cb ac nc cc u.h q N ho (bD E g.size) d.1 (λy e=>⟨(d.2 y nc cc (by rw[e])).1,(d.2 y nc cc (by rw[e])).2.1⟩) f A F hs G).mono ?_;rintro r B⟨rfl,a,n,t,v,n2,c2,O,P,Q,C,new,fr⟩;refine⟨rfl,_,.slice a n t,.slice v n2 c2,⟨O,by simp[iJ],λi hi=>?_,((av.of g).trans C).mono (λk _ p=>?_),new.imp id (λe k R=>bD g.size (e k R))⟩,?_,?_⟩
 rw[bg (by omega),bg (by omega),kK _ _ _ _ _ (by omega)];obtain p|p:=p
 exact .inl (aO p).symm;exact p;have U:=gM H.c8;have hd:(u.data f).h=⟨u.h.fr,gL u.h.fr f.offset (aG f.data) (jk u.h.af ⟨f.offset,aT f⟩) u.h.bytes,dv u.h.af ⟨f.offset,aT f⟩⟩:=by simp[It.data,I]
 have b:∀i,i≠l+1->i≠l+2->(((iJ c l u f).setIfInBounds (l+1) (.slice a n t)).setIfInBounds (l+2) (.slice v n2 c2))[i]?=(iJ c l u f)[i]? :=λi V X=>by
  rw[bg (by omega),bg (by omega)]
 refine⟨?_,?_,?_,?_,?_,?_,?_,?_,?_,?_,?_⟩
 rw[b _ (by omega) (by omega),kK _ _ _ _ _ (by omega),hd];exact H.c0;rw[bg (by omega)];exact cB (by simp[iJ];omega);exact cB (by simp[iJ];omega);rw[b _ (by omega) (by omega)];exact k3;rw[b _ (by omega) (by omega)];exact k4;rw[b _ (by omega) (by omega),kK _ _ _ _ _ (by omega)];exact H.c5;rw[b _ (by omega) (by omega)];exact M;rw[b _ (by omega) (by omega),kK _ _ _ _ _ (by omega)];exact H.c7;rw[b _ (by omega) (by omega),kK _ _ _ _ _ (by omega)];exact H.c8;rw[hd];exact P;rw[hd];exact⟨v,n2,c2,rfl,Q⟩
 obtain⟨rfl,rfl,rfl⟩|fr:=fr
 exact .inl rfl;exact .inr (λy Y c3 e=>by cases e;exact⟨bD g.size (fr y rfl).1,(fr y rfl).2.1,(fr y rfl).2.2⟩)
theorem GI(w:World)(sb a D:Nat)(cs:Array Value)(t:TypeId)(vb vc:Value)(s:It)(P:w.heap[sb]?=some (.cells cs t (0,0)))(H:hb w D cs a vb vc s)(hn:s.h.nice)(bz:D<=w.heap.size)(aC:kn w sb vb vc)
 (f:Fr) (p:Value) (hf:0<=f.offset) (hs:aT f<=4611686018427387903) (bM:s.given=false->∀m,f.offset<=m->m<aT f->¬Sm s.h.af m->s.h.fr<=m/\m<s.h.fr+900000):
 Calls prog 219 #[.pointer (some ⟨sb,a,none⟩),.agg (bP f p)] w λr i=>(s.bad f=true/\r=.returned (.iface 34 (.int .i64 7))/\w.grownBy i none)\/(s.bad f=false/\r=.returned .nilIface/\mZ w i sb t cs a D vb vc (s.data f)):=by
 obtain⟨ab,nb,cb,ac,nc,cc,rfl,rfl⟩:=H.mY;obtain⟨R,q⟩:∃R:Ending->World->Prop,R=λr i=>(s.bad f=true/\r=.returned (.iface 34 (.int .i64 7))/\w.grownBy i none)\/(s.bad f=false/\r=.returned .nilIface/\mZ w i sb t cs a D (.slice ab nb cb) (.slice ac nc cc) (s.data f)):=⟨_,rfl⟩
 rw[<-q];replace q:=J q;have y:=J (λW=>xC W f p hf (by omega));have hT:=H.tail P;have Q:=J (λW(g:w.grownBy W none)=>Ap W sb a s (hT.ao g) (aT f));have b0:sb<w.heap.size:=(aY.1 P).1;obtain⟨c3,c4,c5,c6,c7,c8⟩:=hT;obtain⟨W1,u⟩:=exq (w.alloc (.cells (bP f p) 158));have g1:w.grownBy W1 none:=by rw[u];exact aH _ _ _
 have E:W1.heap[w.heap.size]?=some (.cells (bP f p) 158 (0,0)):=by rw[u];exact aM _ _
 obtain⟨q0,q1,q2,q3,S,q5,q6⟩:=cH E;have j:Hid (s.bad f=((s.ended&&decide (s.last<aT f))||(f.fin&&s.gp (aT f)))):=J rfl;obtain⟨bad,x⟩:=exq (s.bad f);obtain⟨en,n⟩:=exq (aT f);obtain⟨mv,F⟩:=exq (s.gp (aT f));rw[<-x,<-F,<-n]at j;rw[<-F,<-n]at Q;rw[<-n]at y;replace x:=J x;replace F:=J F;replace n:=J n;unfold bP at u y;unfold bP;obtain⟨fin,k⟩:=exq f.fin;rw[<-k]at S u y j;simp only[<-k]
 replace k:=J k;replace E:=J E;go_enter func219,ntmps219;go_wp2_with fail;rw[<-u];clear u;refine(Z y _).mono ?_;rintro e G⟨rfl,T⟩;have b:=aq g1 T;have d3:=b.cell c3 (by simp);have d4:=b.cell c4 (by simp);have d6:=b.cell c6 (by simp);have d7:=b.cell c7 (by simp);have p4:=T.cell S (by simp);have I:=bA (Z E) T;have c:=bA P b;have f3:G.frozen? ⟨sb,a+3,none⟩=false:=by simp[World.frozen?,c]
 have f4:G.frozen? ⟨sb,a+4,none⟩=false:=by simp[World.frozen?,c]
 have f6:G.frozen? ⟨sb,a+6,none⟩=false:=by simp[World.frozen?,c]
 have l:w.heap.size≠sb:=by omega
 have cy:sb≠w.heap.size:=by omega
 clear c3 c4 c5 c6 c7 c8 q0 q1 q2 q3 S q5 q6 y;obtain⟨ended,K⟩:=exq s.ended;obtain⟨given,z⟩:=exq s.given;obtain⟨last,L⟩:=exq s.last;obtain⟨high,A⟩:=exq s.high;rw[<-K]at d6 j;rw[<-L]at d4 j;rw[<-z]at d7;rw[<-A]at d3;replace K:=J K;replace z:=J z;replace L:=J L;replace A:=J A;replace I:=J I;replace c:=J c;go_upto_region 2 with fail;go_cut [28] (λv wx=>v=.bool bad/\wx=G);case first=>
  by_cases a3:last<en
  ·cases ended
   ·cases fin
    ·go_wp2_with fail;go_meet;exact⟨by rw[Z j];simp,rfl⟩
    go_wp2_with (first|(go_at_call 257;refine(Z Q _ b).mono ?_;rintro e w5⟨rfl,rfl⟩));go_meet;exact⟨by rw[Z j];simp,rfl⟩
   have cC:decide (last<en)=true:=bK a3;go_wp2_with fail;go_meet;exact⟨by rw[Z j];simp_all,rfl⟩
  have ch:decide (last<en)=false:=bI a3;cases ended<;>cases fin;all_goals
   go_wp2_with (first|(go_at_call 257;refine(Z Q _ b).mono ?_;rintro e w5⟨rfl,rfl⟩))
   go_meet
   exact⟨by rw[Z j];simp[ch],rfl⟩
 case rest=>
  obtain⟨rfl,rfl⟩:=hcut;rename World=>B
  cases bad
  ·have a8:Hid (∀W,W.heap[sb]?=some (.cells (iJ cs a s f) t (0,0))->w.grownBy W (some sb)->s.given=true->R (.returned .nilIface) W):=J (λW U V M=>by rw[Z q];exact .inr ⟨(Z x).symm,rfl,GG H aC f U V M⟩);have N:Hid (∀W,W.heap[sb]?=some (.cells (iJ cs a s f) t (0,0))->w.grownBy W (some sb)->s.given=false->Calls prog 258 #[.pointer (some ⟨sb,a,none⟩),.agg (bP f p)] W λr i=>r=.returned (.tuple #[])/\R (.returned .nilIface) i):=J (λW U V M=>(GH H hn bz aC b0 f p hf hs (bM M) U V M).mono (λr i h=>⟨h.1,by rw[Z q];exact .inr ⟨(Z x).symm,rfl,h.2⟩⟩));unfold bP at N;rw[<-Z k]at N;rw[<-Z z]at a8 N;have X:Hid (iJ cs a s f=((cs.setIfInBounds (a+3) (.int .u64 (max high en))).setIfInBounds (a+6) (.bool (ended||fin))).setIfInBounds (a+4) (.int .u64 (if fin then en else last))):=J (by unfold iJ;rw[Z K,Z L,Z A,Z n,Z k]);have a9:Hid (fin=false->iJ cs a s f=cs.setIfInBounds (a+3) (.int .u64 (max high en))):=J (λe=>by rw[GF f H.c4 H.c6 (by rw[<-Z k];exact e),Z A,Z n]);obtain⟨p0,p1,p2,p3,-,p5,p6⟩:=cH (Z I);replace p0:=kg (n:=sb) p0 l;replace p1:=kg (n:=sb) p1 l;replace p2:=kg (n:=sb) p2 l;replace p3:=kg (n:=sb) p3 l;replace p4:=kg (n:=sb) p4 l;replace p5:=kg (n:=sb) p5 l;replace p6:=kg (n:=sb) p6 l;obtain⟨Y,O⟩:=exq (max high en);rw[<-O]at X a9;replace O:=J O;go_upto_region 4 with fail;go_cut [] (λwx=>wx=B.setCell ⟨sb,a+3,none⟩ (.int .u64 Y));case first=>
    have e5:Hid (Y=if high<en then en else high):=J (by rw[Z O];split<;>omega);by_cases hh:high<en
    ·go_wp2_with fail;go_meet;rw[Z e5,az hh]
    go_wp2_with fail;go_meet;rw[Z e5,ah (by omega)]
   case rest=>
    rename World=>wd
    have gw:B.grownBy wd (some sb):=by rw[hcut];exact aI (aB _ _) _ _ (.inr rfl)
    have d:wd.heap[sb]?=some (.cells (cs.setIfInBounds (a+3) (.int .u64 Y)) t (0,0)):=by rw[hcut];exact heap_set (Z c) _
    clear hcut;have k4:wd.cell? ⟨sb,a+4,none⟩=some (.int .u64 last):=by
     rw[aX d,bg (by omega)];exact(aX (Z c) _).symm.trans d4
    have k6:wd.cell? ⟨sb,a+6,none⟩=some (.bool ended):=by
     rw[aX d,bg (by omega)];exact(aX (Z c) _).symm.trans d6
    have k7:wd.cell? ⟨sb,a+7,none⟩=some (.bool given):=by
     rw[aX d,bg (by omega)];exact(aX (Z c) _).symm.trans d7
    have f4:wd.frozen? ⟨sb,a+4,none⟩=false:=by simp[World.frozen?,d]
    have f6:wd.frozen? ⟨sb,a+6,none⟩=false:=by simp[World.frozen?,d]
    replace d:=J d;clear d3 d4 d6 d7 f3;go_upto_if 40 with fail;go_cut [] (λwx=>wx.heap[sb]?=some (.cells (iJ cs a s f) t (0,0))/\B.grownBy wx (some sb));case first=>
     cases fin
     ·go_wp2_with fail;go_meet;exact⟨by rw[Z a9 (by trivial)];exact Z d,gw⟩
     go_wp2_with fail;go_meet;simp only[Bool.or_true,eX]at X;exact⟨by rw[Z X];exact heap_set (heap_set (Z d) _) _,aI (aI gw _ _ (.inr rfl)) _ _ (.inr rfl)⟩
    case rest=>
     obtain⟨C,g7⟩:=hcut;have k9:wc.cell? ⟨sb,a+7,none⟩=some (.bool given):=by
      rw[aX C,kK _ _ _ _ _ (by omega),Z z];exact H.c7
     have bt:=aq (cX b (some sb)) g7;replace C:=J C;clear k4 k6 k7 f4 f6 p4;have p4:∀W,B.grownBy W (some sb)->W.cell? ⟨w.heap.size,4,none⟩=some (.bool fin):=by
      have:=(cH (Z I)).2.2.2.2.1;rw[<-Z k]at this;exact kg this l
     cases given
     ·go_wp2_with fail;refine(Z N wc (Z C) bt (by trivial)).mono ?_;rintro e w5⟨rfl,al⟩;replace al:=J al;go_wp2_with fail;exact Z al
     go_wp2_with fail;exact Z a8 wc (Z C) bt (by trivial)
  have ax:R (.returned (.iface 34 (.int .i64 7))) B:=by rw[Z q];exact .inl ⟨(Z x).symm,rfl,b⟩
  replace ax:=J ax;go_wp2_with fail;exact Z ax
def It.reset(s:It)(f:Fr):It:=
 {s with ended:=true,last:=f.offset,given:=true,code:=if s.given then s.code else f.code,h:=if s.given then s.h else⟨s.h.fr,[],[]⟩}
def gN(cs:Array Value)(a:Nat)(f:Fr):Array Value:=(cs.setIfInBounds (a+6) (.bool true)).setIfInBounds (a+4) (.int .u64 f.offset)
def lR(cs:Array Value)(a:Nat)(s:It)(f:Fr):Array Value:=(((((gN cs a f).setIfInBounds (a+7) (.bool true)).setIfInBounds (a+5) (.int .u64 f.code)).setIfInBounds a (.int .u64 s.h.fr)).setIfInBounds (a+1) (.slice none 0 0)).setIfInBounds (a+2) (.slice none 0 0)
theorem GJ(H:hb w m C l x z u)(q:kn w j x z)(f:Fr)(r:W.heap[j]?=some (.cells (gN C l f) T (0,0)))(g:w.grownBy W (some j))(d:u.given=true):mZ w W j T C l m x z (u.reset f):=by
 have B:=gM H.c8;have b:∀i,i≠l+6->i≠l+4->(gN C l f)[i]?=C[i]? :=λi D E=>by
  unfold gN;rw[bg (by omega),bg (by omega)]
 refine⟨_,x,z,⟨r,by simp[gN],λi hi=>b i (by omega) (by omega),(av.of g).mono (λk _ e=>.inl (aO e).symm),.inl rfl⟩,?_,.inl rfl⟩
 have p:(u.reset f).h=u.h:=by simp[It.reset,d]
 have s:(u.reset f).code=u.code:=by simp[It.reset,d]
 have t:(u.reset f).given=u.given:=by simp[It.reset,d]
 refine⟨?_,?_,?_,?_,?_,?_,?_,?_,?_,?_,?_⟩
 rw[b _ (by omega) (by omega),p];exact H.c0;rw[b _ (by omega) (by omega)];exact H.c1;rw[b _ (by omega) (by omega)];exact H.c2;rw[b _ (by omega) (by omega)];exact H.c3;unfold gN;exact cB (by simp;omega);rw[b _ (by omega) (by omega),s];exact H.c5;unfold gN;rw[bg (by omega)];exact cB (by omega);rw[b _ (by omega) (by omega),t];exact H.c7;rw[b _ (by omega) (by omega)];exact H.c8;rw[p];exact H.own.gb g (.inr q.1);obtain⟨a,n,c,e,v⟩:=H.set;rw[p];exact⟨a,n,c,e,v.gb g (λy A e2=>by subst A;exact(q.2 y n c e).1 (aO e2).symm)⟩
theorem GK(H:hb w m C l x z u)(f:Fr)(p:W.heap[j]?=some (.cells (lR C l u f) T (0,0)))(g:w.grownBy W (some j))(d:u.given=false):mZ w W j T C l m x z (u.reset f):=by
 have t:=gM H.c8;have a:∀i,i≠l+6->i≠l+4->i≠l+7->i≠l+5->i≠l->i≠l+1->i≠l+2->(lR C l u f)[i]?=C[i]? :=λi v A B D E F G=>by
  unfold lR gN;rw[bg (by omega),bg (by omega),bg (by omega),bg (by omega),bg (by omega),bg (by omega),bg (by omega)]
 refine⟨_,.slice none 0 0,.slice none 0 0,⟨p,by simp[lR,gN],λi hi=>a i (by omega) (by omega) (by omega) (by omega) (by omega) (by omega) (by omega),(av.of g).mono (λk _ e=>.inl (aO e).symm),.inr (λk e=>by cases e)⟩,?_,.inr (λy n c e=>by cases e)⟩
 have b:(u.reset f).h=⟨u.h.fr,[],[]⟩:=by simp[It.reset,d]
 have q:(u.reset f).code=f.code:=by simp[It.reset,d]
 refine⟨?_,?_,?_,?_,?_,?_,?_,?_,?_,?_,?_⟩
 unfold lR;rw[bg (by omega),bg (by omega),b];exact cB (by simp[gN];omega);unfold lR;rw[bg (by omega)];exact cB (by simp[gN];omega);unfold lR;exact cB (by simp[gN];omega);rw[a _ (by omega) (by omega) (by omega) (by omega) (by omega) (by omega) (by omega)];exact H.c3;unfold lR gN;rw[bg (by omega),bg (by omega),bg (by omega),bg (by omega),bg (by omega)];exact cB (by simp;omega);unfold lR;rw[bg (by omega),bg (by omega),bg (by omega),q];exact cB (by simp[gN];omega);unfold lR gN;rw[bg (by omega),bg (by omega),bg (by omega),bg (by omega),bg (by omega),bg (by omega)];exact cB (by omega);unfold lR;rw[bg (by omega),bg (by omega),bg (by omega),bg (by omega)];exact cB (by simp[gN];omega);rw[a _ (by omega) (by omega) (by omega) (by omega) (by omega) (by omega) (by omega)];exact H.c8;rw[b];exact bm.nil _ _;rw[b];exact⟨none,0,0,rfl,λr s=>by simp at s,rfl,aP _,by simp[maxLen],.inl rfl⟩
theorem GL(w:World)(sb a C:Nat)(cs:Array Value)(t:TypeId)(vb vc:Value)(s:It)(q:w.heap[sb]?=some (.cells cs t (0,0)))(H:hb w C cs a vb vc s)(T:kn w sb vb vc)(f:Fr)(D:Value):
 Calls prog 218 #[.pointer (some ⟨sb,a,none⟩),.agg (bP f D)] w λr u=>(s.gp f.offset=true/\r=.returned (.iface 34 (.int .i64 7))/\w.grownBy u none)\/(s.gp f.offset=false/\r=.returned .nilIface/\mZ w u sb t cs a C vb vc (s.reset f)):=by
 obtain⟨R,v⟩:∃R:Ending->World->Prop,R=λr u=>(s.gp f.offset=true/\r=.returned (.iface 34 (.int .i64 7))/\w.grownBy u none)\/(s.gp f.offset=false/\r=.returned .nilIface/\mZ w u sb t cs a C vb vc (s.reset f)):=⟨_,rfl⟩
 rw[<-v];have K:=H.tail q;have E:=J (λW(g:w.grownBy W none)=>Ap W sb a s (K.ao g) f.offset);have b0:sb<w.heap.size:=(aY.1 q).1;have L:Hid (s.gp f.offset=true->∀W,w.grownBy W none->R (.returned (.iface 34 (.int .i64 7))) W):=J (λh W g=>by rw[v];exact .inl ⟨h,rfl,g⟩);have F:Hid (s.gp f.offset=false->∀W,W.heap[sb]?=some (.cells (gN cs a f) t (0,0))->w.grownBy W (some sb)->s.given=true->R (.returned .nilIface) W):=J (λh W x y A=>by rw[v];exact .inr ⟨h,rfl,GJ H T f x y A⟩);have G:Hid (s.gp f.offset=false->∀W,W.heap[sb]?=some (.cells (lR cs a s f) t (0,0))->w.grownBy W (some sb)->s.given=false->R (.returned .nilIface) W):=J (λh W x y A=>by rw[v];exact .inr ⟨h,rfl,GK H f x y A⟩);clear v;obtain⟨U,M⟩:=exq (s.gp f.offset);rw[<-M]at E L F G;clear M;obtain⟨c3,c4,c5,c6,c7,c8⟩:=K;have c0:=(aX q _).trans H.c0;have c1:=(aX q _).trans H.c1;have c2:=(aX q _).trans H.c2;obtain⟨l,p⟩:=exq (w.alloc (.cells (bP f D) 158));have c:w.grownBy l none:=by rw[p];exact aH _ _ _
 have I:l.heap[w.heap.size]?=some (.cells (bP f D) 158 (0,0)):=by rw[p];exact aM _ _
 obtain⟨V,X,Y,N,q4,q5,q6⟩:=cH I;have k:=bA q c;have d0:=c.cell c0 (by simp);have d1:=c.cell c1 (by simp);have d2:=c.cell c2 (by simp);have d4:=c.cell c4 (by simp);have d5:=c.cell c5 (by simp);have d6:=c.cell c6 (by simp);have d7:=c.cell c7 (by simp);have f0:l.frozen? ⟨sb,a,none⟩=false:=by simp[World.frozen?,k]
 have f1:l.frozen? ⟨sb,a+1,none⟩=false:=by simp[World.frozen?,k]
 have f2:l.frozen? ⟨sb,a+2,none⟩=false:=by simp[World.frozen?,k]
 have f4:l.frozen? ⟨sb,a+4,none⟩=false:=by simp[World.frozen?,k]
 have f5:l.frozen? ⟨sb,a+5,none⟩=false:=by simp[World.frozen?,k]
 have f6:l.frozen? ⟨sb,a+6,none⟩=false:=by simp[World.frozen?,k]
 have f7:l.frozen? ⟨sb,a+7,none⟩=false:=by simp[World.frozen?,k]
 clear c0 c1 c2 c3 c4 c5 c6 c7 c8 V X q4 q5 q6;unfold bP at p;unfold bP;replace I:=J I;replace k:=J k;have nS:w.heap.size≠sb:=by omega
 obtain⟨given,B⟩:=exq s.given;rw[<-B]at d7 F G;replace B:=J B;have hA:Hid (gN cs a f=(cs.setIfInBounds (a+6) (.bool true)).setIfInBounds (a+4) (.int .u64 f.offset)):=J rfl;have hB:Hid (lR cs a s f=(((((gN cs a f).setIfInBounds (a+7) (.bool true)).setIfInBounds (a+5) (.int .u64 f.code)).setIfInBounds a (.int .u64 s.h.fr)).setIfInBounds (a+1) (.slice none 0 0)).setIfInBounds (a+2) (.slice none 0 0)):=J rfl;cases U
 ·go_enter func218,ntmps218;go_wp2_with fail;rw[<-p];clear p;refine(Z E _ c).mono ?_;rintro e O⟨rfl,rfl⟩;go_upto_region 3 with fail;go_cut [] (λwx=>wx.heap[sb]?=some (.cells (gN cs a f) t (0,0))/\O.grownBy wx (some sb));case first=>
   go_region;go_wp2_with fail;go_meet;exact⟨by rw[Z hA];exact heap_set (heap_set (Z k) _) _,aW (aI (aI (aB _ _) _ _ (.inr rfl)) _ _ (.inr rfl))⟩
  case rest=>
   obtain⟨b,P⟩:=hcut;rename World=>d
   have j:∀i,i≠a+6->i≠a+4->(gN cs a f)[i]?=cs[i]? :=λi x y=>by
    unfold gN;rw[bg (by omega),bg (by omega)]
   have e0:d.cell? ⟨sb,a,none⟩=some (.int .u64 s.h.fr):=by rw[aX b,j _ (by omega) (by omega)];exact H.c0
   have e1:d.cell? ⟨sb,a+1,none⟩=some vb:=by rw[aX b,j _ (by omega) (by omega)];exact H.c1
   have e2:d.cell? ⟨sb,a+2,none⟩=some vc:=by rw[aX b,j _ (by omega) (by omega)];exact H.c2
   have e5:d.cell? ⟨sb,a+5,none⟩=some (.int .u64 s.code):=by rw[aX b,j _ (by omega) (by omega)];exact H.c5
   have e7:d.cell? ⟨sb,a+7,none⟩=some (.bool given):=by rw[aX b,j _ (by omega) (by omega),Z B];exact H.c7
   have r0:d.frozen? ⟨sb,a,none⟩=false:=by simp[World.frozen?,b]
   have r1:d.frozen? ⟨sb,a+1,none⟩=false:=by simp[World.frozen?,b]
   have r2:d.frozen? ⟨sb,a+2,none⟩=false:=by simp[World.frozen?,b]
   have r5:d.frozen? ⟨sb,a+5,none⟩=false:=by simp[World.frozen?,b]
   have r7:d.frozen? ⟨sb,a+7,none⟩=false:=by simp[World.frozen?,b]
   have bt:=P.cell N (λe=>nS (aO e));have Q:=aq (cX c (some sb)) P;clear j d0 d1 d2 d4 d5 d6 d7 f0 f1 f2 f4 f5 f6 f7 Y N;replace b:=J b;cases given
   ·go_upto_region 5 with fail;go_cut [] (λwx=>wx=((d.setCell ⟨sb,a+7,none⟩ (.bool true)).setCell ⟨sb,a+5,none⟩ (.int .u64 f.code)).drew);case first=>
     go_region;go_wp2_with fail;go_meet;rfl
    case rest=>
     rename World=>m
     have n:m.heap[sb]?=some (.cells (((gN cs a f).setIfInBounds (a+7) (.bool true)).setIfInBounds (a+5) (.int .u64 f.code)) t (0,0)):=by rw[hcut];exact heap_set (heap_set (Z b) _) _
     have g4:w.grownBy m (some sb):=by rw[hcut];exact aW (aI (aI Q _ _ (.inr rfl)) _ _ (.inr rfl))
     clear hcut;have j:∀i,i≠a+6->i≠a+4->i≠a+7->i≠a+5->(((gN cs a f).setIfInBounds (a+7) (.bool true)).setIfInBounds (a+5) (.int .u64 f.code))[i]?=cs[i]? :=λi x y A h4=>by
      unfold gN;rw[bg (by omega),bg (by omega),bg (by omega),bg (by omega)]
     have e0:m.cell? ⟨sb,a,none⟩=some (.int .u64 s.h.fr):=by rw[aX n,j _ (by omega) (by omega) (by omega) (by omega)];exact H.c0
     have e1:m.cell? ⟨sb,a+1,none⟩=some vb:=by rw[aX n,j _ (by omega) (by omega) (by omega) (by omega)];exact H.c1
     have e2:m.cell? ⟨sb,a+2,none⟩=some vc:=by rw[aX n,j _ (by omega) (by omega) (by omega) (by omega)];exact H.c2
     have r0:m.frozen? ⟨sb,a,none⟩=false:=by simp[World.frozen?,n]
     have r1:m.frozen? ⟨sb,a+1,none⟩=false:=by simp[World.frozen?,n]
     have r2:m.frozen? ⟨sb,a+2,none⟩=false:=by simp[World.frozen?,n]
     clear j e5 e7 r5 r7 bt;replace n:=J n;obtain⟨S,z⟩:=exq (((m.setCell ⟨sb,a,none⟩ (.int .u64 s.h.fr)).setCell ⟨sb,a+1,none⟩ (.slice none 0 0)).setCell ⟨sb,a+2,none⟩ (.slice none 0 0));have bz:Hid (S.heap[sb]?=some (.cells (lR cs a s f) t (0,0))):=J (by rw[z,Z hB];exact heap_set (heap_set (heap_set (Z n) _) _) _);have g5:w.grownBy S (some sb):=by rw[z];exact aI (aI (aI g4 _ _ (.inr rfl)) _ _ (.inr rfl)) _ _ (.inr rfl)
     replace z:=J z;go_wp2_with fail;rw[<-Z z];exact Z G (by trivial) _ (Z bz) g5 (by trivial)
   go_wp2_with fail;exact Z F (by trivial) _ (Z b) Q (by trivial)
 go_enter func218,ntmps218;go_wp2_with fail;rw[<-p];clear p;refine(Z E _ c).mono ?_;rintro e O⟨rfl,rfl⟩;go_wp2_with fail;exact Z L (by trivial) _ c
def It.iK(s:It)(aE:Int):Nat:=(max 0 (min aE (cO s.h))).toNat
def It.read(s:It)(aE:Int):It:=
 if s.given&& !s.over then s else
  {s with h:=⟨s.h.fr+s.iK aE,s.h.bytes.drop (s.iK aE),s.h.af⟩,over:=s.ended&&(s.h.fr+s.iK aE==s.last)}
def It.out(s:It)(aE:Int):List Int:=if s.given&& !s.over then[]else s.h.bytes.take (s.iK aE)
def It.state(s:It)(aE:Int):Int:=if s.given&& !s.over then 2 else if(s.read aE).over then 1 else 0
def It.jm(s:It):Int:=if s.given&& !s.over then s.code else 0
def xO(w:World)(sb:Nat)(t:TypeId)(cs:Array Value)(f g:Nat)(vb vc:Value)(s:It)(aE:Int)(e:Ending)(d:World):Prop:=
 ∃a n c b,e=.returned (.tuple #[.slice a n c,.int .i64 (s.state aE),.int .u64 s.jm])/\bm d w.heap.size (.slice a n c) (s.out aE)/\w.grownBy b none/\(∀j,(Value.slice a n c).ownBlock=some j->j<b.heap.size)/\mZ b d sb t cs f g vb vc (s.read aE)
theorem GM(a:w.heap[n]?=some (.cells c T (0,0)))(H:hb w i c k x y u)(g:w.grownBy W none):mZ w W n T c k i x y u:=
 ⟨c,x,y,rM.AD a g _ _ _,H.ao g,.inl rfl⟩
theorem GN(a:Option Addr)(n cap i:Nat)(h:i<=cap)(W:World):(Instr.slice 112 (.slice a n cap) none (some (.int .i64 (i:Int))) (some (.int .i64 (i:Int)))).run prog W=.ok (.slice a i i) W:=by
 rw[run_slice_hm W 112 a n cap (by rw[rL];exact underlying112) .i64 .i64 (i:Int) (i:Int) (by omega) (cW _) (by omega),rL,xE];simp only[iT,sliced,nE,nG,Nat.sub_zero]
 congr 1;cases a with
 |none=>simp
 |some y=>simp[Addr.add]
theorem GO(h:bF w a n k L)(m:Nat)(f:m<=n):bF w a m m (L.take m):=by
 obtain⟨d,g,i,j,c⟩:=h;refine⟨λx e=>d x (iS e),by rw[ct];omega,aP _,by omega,?_⟩
 obtain⟨c,l⟩|⟨b,o,rfl,c⟩:=c
 exact .inl ⟨c,by omega⟩;exact .inr ⟨b,o,rfl,xI c m⟩
def vcs(cs:Array Value)(a:Nat)(fr:Int)(vb:Value)(ov:Bool):Array Value:=((cs.setIfInBounds a (.int .u64 fr)).setIfInBounds (a+1) vb).setIfInBounds (a+8) (.bool ov)
theorem GP(H:hb w m C l x z u)(f:kn w j x z)(q:m<=w.heap.size)(r:(u.given&& !u.over)=false)
 (s:W.heap[j]?=some (.cells (vcs C l (u.h.fr+u.iK p) y (u.ended&&(u.h.fr+u.iK p==u.last))) T (0,0))) (g:w.grownBy W (some j)) (ho:bm W w.heap.size y (u.h.bytes.drop (u.iK p))):mZ w W j T C l m x z (u.read p):=by
 have B:=gM H.c8;have d:u.read p={u with h:=⟨u.h.fr+u.iK p,u.h.bytes.drop (u.iK p),u.h.af⟩,over:=u.ended&&(u.h.fr+u.iK p==u.last)}:=by simp[It.read,r]
 have b:∀i,i≠l->i≠l+1->i≠l+8->(vcs C l (u.h.fr+u.iK p) y (u.ended&&(u.h.fr+u.iK p==u.last)))[i]?=C[i]? :=λi D E F=>by
  unfold vcs;rw[bg (by omega),bg (by omega),bg (by omega)]
 have t:∀k,y.ownBlock=some k->w.heap.size<=k:=λk e=>(ho.lt k e).1
 rw[d];refine⟨_,y,z,⟨s,by simp[vcs],λi hi=>b i (by omega) (by omega) (by omega),(av.of g).mono (λk _ e=>.inl (aO e).symm),.inr t⟩,⟨?_,?_,?_,?_,?_,?_,?_,?_,?_,?_,?_⟩,.inl rfl⟩
 unfold vcs;rw[bg (by omega),bg (by omega)];exact cB (by omega);unfold vcs;rw[bg (by omega)];exact cB (by simp;omega);rw[b _ (by omega) (by omega) (by omega)];exact H.c2;rw[b _ (by omega) (by omega) (by omega)];exact H.c3;rw[b _ (by omega) (by omega) (by omega)];exact H.c4;rw[b _ (by omega) (by omega) (by omega)];exact H.c5;rw[b _ (by omega) (by omega) (by omega)];exact H.c6;rw[b _ (by omega) (by omega) (by omega)];exact H.c7;unfold vcs;exact cB (by simp;omega);exact ho.low q;obtain⟨a,n,c,e,d⟩:=H.set;exact⟨a,n,c,e,d.gb g (λv A e2=>by subst A;exact(f.2 v n c e).1 (aO e2).symm)⟩
theorem GQ(w:World)(sb d B:Nat)(cs:Array Value)(t:TypeId)(vb vc:Value)(s:It)(q:w.heap[sb]?=some (.cells cs t (0,0)))(H:hb w B cs d vb vc s)(C:s.h.nice)(br:B<=w.heap.size)(D:kn w sb vb vc)(aE:Int)(hw:0<=cO s.h/\cO s.h<=s.h.bytes.length):
 Calls prog 167 #[.pointer (some ⟨sb,d,none⟩),.int .i64 aE] w (xO w sb t cs d B vb vc s aE):=by
 obtain⟨ab,nb,cb,ac,nc,cc,rfl,rfl⟩:=H.mY;have hT:=H.tail q;have c9:sb<w.heap.size:=(aY.1 q).1;obtain⟨c3,c4,c5,c6,c7,c8⟩:=hT;by_cases k:(s.given&& !s.over)=true
 ·have bz:s.given=true:=by simp at k;exact k.1
  have m:s.over=false:=by simp at k;exact k.2
  rw[bz]at c7;rw[m]at c8;have hF:Hid (∀W,w.grownBy W none->xO w sb t cs d B (.slice ab nb cb) (.slice ac nc cc) s aE (.returned (.tuple #[.slice none 0 0,.int .i64 2,.int .u64 s.code])) W):=J (λW g=>⟨none,0,0,w,by simp[It.state,It.jm,k],by simp only[It.out,k,eX];exact bm.nil _ _,aB _ _,λj e=>(by cases e),by simp only[It.read,k,eX];exact GM q H g⟩);go_enter func167,ntmps167;go_wp2_with fail;go_region;go_wp2_with fail;exact cA (v:=.tuple #[.slice none 0 0,.int .i64 2,.int .u64 s.code]) (by simp[results,results167,go_sem]) rfl (Z hF _ (aW (aB _ _)))
 have u:(s.given&& !s.over)=false:=by simpa using k
 have E:=H.own.gI.2.1;have db:=H.own.gI.2.2.1;obtain⟨N,I⟩:=exq (s.iK aE);have bM:N<=nb:=by
  rw[I,E];unfold It.iK;omega
 have HD:=H.hd q C;have a0:=J (An w sb d ab nb cb ac nc cc s.h HD ⟨hw.1,by have:=C.2.1;have:=C.1;omega⟩);have a1:=J (λW(g:w.grownBy W none)=>Aw W sb d cs t ab nb cb ac nc cc s.h (bA q g) (HD.ao g) N (by have:=C.2.1;omega) (λy e=>by subst e;exact λe2=>D.1 (by rw[<-e2];rfl)));have hF:Hid (∀(W x:World)(a:Option Addr)(n c:Nat)(V:Value)(r:Int),w.grownBy x none->bm x w.heap.size (.slice a n c) (s.h.bytes.take N)->x.grownBy W (some sb)->(Value.slice a n c).ownBlock≠some sb->W.heap[sb]?=some (.cells (vcs cs d (s.h.fr+N) V (s.ended&&(s.h.fr+N==s.last))) t (0,0))->bm W x.heap.size V (s.h.bytes.drop N)->r=(if(s.ended&&(s.h.fr+N==s.last))then 1 else 0)->xO w sb t cs d B (.slice ab nb cb) (.slice ac nc cc) s aE (.returned (.tuple #[.slice a n c,.int .i64 r,.int .u64 0])) W):=J (λW x a n c V r h0 K L h3 h4 h6 h7=>by
  subst I;refine⟨a,n,c,x,?_,?_,h0,λj e=>(K.lt j e).2,GP (H.ao h0) ⟨D.1,λy n c e=>⟨(D.2 y n c e).1,(D.2 y n c e).2.1,bY (D.2 y n c e).2.2 h0.size⟩⟩ (bD br h0.size) u h4 L h6⟩
  simp only[It.state,It.jm,u,gm,fR,It.read,h7]
  ·simp only[It.out,u,gm,fR];exact K.gb L (.inr h3))
 have X:bF w ab N N (s.h.bytes.take N):=GO H.own.gI N bM;have iZ:∀W,(Instr.slice 112 (.slice ab nb cb) none (some (.int .i64 (N:Int))) (some (.int .i64 (N:Int)))).run prog W=.ok (.slice ab N N) W:=λW=>GN ab nb cb N (by omega) W
 have b6:Hid ((N:Int)=max 0 (min aE (cO s.h))):=J (by rw[I];unfold It.iK;omega);have b7:Hid (s.h.bytes.length<=1000000):=J C.2.2.2.1;replace X:=J X;replace E:=J E;have c1:=(aX q _).trans H.c1;clear I k;obtain⟨given,a2⟩:=exq s.given;obtain⟨over,a3⟩:=exq s.over;rw[<-a2]at c7 u;rw[<-a3]at c8 u;clear a2 a3;generalize cO s.h=wh at *;go_enter func167,ntmps167;go_upto_region 1 with fail;go_cut [19] (λv wx=>v=.bool false/\wx=w);case first=>
  cases given<;>cases over<;>simp at u;all_goals
   go_wp2_with fail
   go_meet
   exact⟨rfl,rfl⟩
 case rest=>
  obtain⟨rfl,rfl⟩:=hcut;go_upto_region 3 with fail;go_cut [7] (λv wx=>v=.int .i64 (N:Int)/\wc.grownBy wx none);case first=>
   go_wp2_with fail;refine(Z a0).mono ?_;rintro e M⟨rfl,z⟩;by_cases K:wh<aE<;>by_cases L:0<min aE wh;all_goals
    go_wp2_with fail
    all_goals
     go_meet
     refine⟨?_,z⟩
     have:=Z b6
     congr 1
     omega
  case rest=>
   rename World=>M
   obtain⟨rfl,z⟩:=hcut;have d1:=z.cell c1 (by simp);have b8:=J ((Z X).ao z);have ca:Hid ((s.h.bytes.take N).length=N):=J (by rw[ct];have:=Z E;omega);have de:N<=1000000:=by have:=Z E;have:=Z b7;omega
   go_upto_region 4 with fail;go_cut [8] (λv wx=>∃a n c,v=.slice a n c/\bm wx M.heap.size (.slice a n c) (s.h.bytes.take N)/\M.grownBy wx none);case first=>
    go_wp2_with (at_builtin;refine zU (by rfl) _ (by rfl) _ _ _ (s.h.bytes.take N) (by rfl) (Z b8) (by have:=Z ca;omega) ?_;intro A c4 F l Y;replace l:=J l);all_goals
     go_meet
     refine⟨A,_,c4,rfl,?_,Y⟩
     have:=Z l
     simpa [ct]using this
   case rest=>
   rename World=>F
   obtain⟨A,O,P,rfl,l,Y⟩:=hcut;have Q:=aq z Y;replace l:=J l;go_wp2_with (first|(go_at_call 221;refine(Z a1 F Q).mono ?_;rintro e p⟨rfl,a5,R,g5,f,S,dg⟩));have ch:wc.grownBy p (some sb):=aq (cX Q _) g5;obtain⟨a9,G⟩:=exq ((cs.setIfInBounds d (.int .u64 (s.h.fr+N))).setIfInBounds (d+1) (.slice a5 (s.h.bytes.drop N).length R));rw[<-G]at f;have hz:=gM H.c8;have T:∀i,i≠d->i≠d+1->a9[i]?=cs[i]? :=λi K L=>by
    rw[G,bg (by omega),bg (by omega)]
   have e0:p.cell? ⟨sb,d,none⟩=some (.int .u64 (s.h.fr+N)):=by
    rw[aX f,G,bg (by omega)];exact cB (by omega)
   have e4:p.cell? ⟨sb,d+4,none⟩=some (.int .u64 s.last):=by rw[aX f,T _ (by omega) (by omega)];exact H.c4
   have e6:p.cell? ⟨sb,d+6,none⟩=some (.bool s.ended):=by rw[aX f,T _ (by omega) (by omega)];exact H.c6
   have e8:p.cell? ⟨sb,d+8,none⟩=some (.bool s.over):=by rw[aX f,T _ (by omega) (by omega)];exact H.c8
   have f8:p.frozen? ⟨sb,d+8,none⟩=false:=by simp[World.frozen?,f]
   have bb:Hid (∀b,a9.setIfInBounds (d+8) (.bool b)=vcs cs d (s.h.fr+N) (.slice a5 (s.h.bytes.drop N).length R) b):=J (λb=>by rw[G];rfl);clear c3 c4 c5 c6 c7 c8 c1 d1 T;replace f:=J f;replace S:=J S;clear G a1 a0;obtain⟨ov,m⟩:=exq ((s.ended&&(s.h.fr+N==s.last)));rw[<-m]at hF;replace m:=J m;go_upto_region 6 with fail;go_cut [] (λwx=>wx.heap[sb]?=some (.cells (vcs cs d (s.h.fr+N) (.slice a5 (s.h.bytes.drop N).length R) ov) t (0,0))/\p.grownBy wx (some sb));case first=>
    generalize cj:s.ended=ended at *;generalize cp:s.last=last at *;generalize cv:s.h.fr+(N:Int)=fn at *;clear cj cp cv;cases ended
    ·go_big_region;go_wp2_with fail;go_meet;refine⟨?_,?_⟩
     rw[Z m,<-Z bb];exact heap_set (Z f) _;exact aW (aI (aB _ _) _ _ (.inr rfl))
    go_region;go_wp2_with fail;go_meet;refine⟨?_,?_⟩
    rw[Z m,<-Z bb];exact heap_set (Z f) _;exact aW (aI (aB _ _) _ _ (.inr rfl))
   case rest=>
    rename World=>w6
    obtain⟨U,g6⟩:=hcut;have k8:w6.cell? ⟨sb,d+8,none⟩=some (.bool ov):=by
     rw[aX U];unfold vcs;exact cB (by simp;omega)
    have dE:=aq ch g6;have dG:wc.heap.size<=F.heap.size:=Q.size;have cw:wc.heap.size<=M.heap.size:=z.size;have cx:Hid (bm w6 F.heap.size (.slice a5 (s.h.bytes.drop N).length R) (s.h.bytes.drop N)):=J ((Z S).gb g6 (.inr (λe=>by have:=((Z S).lt _ e).1;omega)));have cy:(Value.slice A O P).ownBlock≠some sb:=λe=>by have:=((Z l).lt _ e).1;omega
    have bj:=J (λr hr=>Z hF w6 F A O P _ r Q ((Z l).low cw) (aq g5 g6) cy U (Z cx) hr);replace U:=J U;clear hF;cases ov
    ·go_wp2_with fail;exact cA (v:=.tuple #[.slice A O P,.int .i64 0,.int .u64 0]) (by simp[results,results167,go_sem]) rfl (Z bj 0 rfl)
    go_wp2_with fail;exact cA (v:=.tuple #[.slice A O P,.int .i64 1,.int .u64 0]) (by simp[results,results167,go_sem]) rfl (Z bj 1 rfl)
theorem kM(h:W.cell? A=some y)(a:A.block≠n):(W.setCell ⟨n,o,none⟩ x).cell? A=some y:=
 (lH (w:=W) (dy _ _ _ _ a)).trans h
theorem GW{d e f:Nat}{g p q u1 u2 u3 u4:Value}(h:W.cell? ⟨m,i,none⟩=some u1/\W.cell? ⟨m,j,none⟩=some u2/\W.cell? ⟨o,k,none⟩=some u3/\W.cell? ⟨o,l,none⟩=some u4)(a:m≠n)(c:o≠n):
 ((((W.setCell ⟨n,b,none⟩ z).setCell ⟨n,d,none⟩ g).setCell ⟨n,e,none⟩ p).setCell ⟨n,f,none⟩ q).cell? ⟨m,i,none⟩=some u1/\((((W.setCell ⟨n,b,none⟩ z).setCell ⟨n,d,none⟩ g).setCell ⟨n,e,none⟩ p).setCell ⟨n,f,none⟩ q).cell? ⟨m,j,none⟩=some u2/\((((W.setCell ⟨n,b,none⟩ z).setCell ⟨n,d,none⟩ g).setCell ⟨n,e,none⟩ p).setCell ⟨n,f,none⟩ q).cell? ⟨o,k,none⟩=some u3/\((((W.setCell ⟨n,b,none⟩ z).setCell ⟨n,d,none⟩ g).setCell ⟨n,e,none⟩ p).setCell ⟨n,f,none⟩ q).cell? ⟨o,l,none⟩=some u4:=
 ⟨kM (kM (kM (kM h.1 a) a) a) a,kM (kM (kM (kM h.2.1 a) a) a) a,kM (kM (kM (kM h.2.2.1 c) c) c) c,kM (kM (kM (kM h.2.2.2 c) c) c) c⟩
theorem GX(w:World)(sb f:Nat)(o:Ot)(T:jU w sb f o)(H:o.sG=true)(n:Value)(c d:Bool)(p:Int):
 Calls prog 242 #[.pointer (some ⟨sb,f,none⟩),.agg #[n,.bool c,.bool d],.int .i64 p] w λr h=>r=.returned (.tuple #[.agg #[.int .u64 0,.int .u64 0,.bool c,.bool d],.bool (d&&decide (2+cD o.code+cD o.aA<=p))])/\w.grownBy h none:=by
 have y:=J (λW(g:w.grownBy W none)=>xH W sb f o (T.ao g));rw[H]at y;have A:=J (λW=>GU o.aA o.code W);obtain⟨c3,c4,c5,c6,c7,c8,-,-⟩:=T;have I:Hid (sb<w.heap.size):=J (ep w _ c3);clear c4 c5 c6 c7;obtain⟨z,B⟩:=exq (2+cD o.code+cD o.aA);rw[<-B]at A⊢;clear B;generalize o.aA=aA at *;generalize o.code=code at *;obtain⟨i,j⟩:=exq (w.alloc (.cells #[n,.bool c,.bool d] 332));have K:w.grownBy i none:=by rw[j];exact aH _ _ _
 have q:i.heap[w.heap.size]?=some (.cells #[n,.bool c,.bool d] 332 (0,0)):=by rw[j];exact aM _ _
 have s:i.heap.size=w.heap.size+1:=by rw[j];simp
 obtain⟨C,k⟩:=exq (i.alloc (.cells #[.int .u64 0,.int .u64 0,.bool false,.bool false] 377));have D:i.grownBy C none:=by rw[k];exact aH _ _ _
 have t:C.heap[w.heap.size+1]?=some (.cells #[.int .u64 0,.int .u64 0,.bool false,.bool false] 377 (0,0)):=by rw[k,<-s];exact aM _ _
 have u:=bA q D;have E:=aq K D;replace q:=J q;replace t:=J t;replace u:=J u;replace s:=J s;go_enter func242,ntmps242;go_wp2_with fail;rw[<-j,<-k];clear j k;refine(Z y _ E).mono ?_;rintro e a⟨rfl,x⟩;have l:=aq E x;have b:=bA (Z t) x;have m:=bA (Z u) x;have d3:=l.cell c3 (by simp);have d8:=l.cell c8 (by simp);have L:a.cell? ⟨w.heap.size,1,none⟩=some (.bool c):=by simp[World.cell?,m]
 have F:a.cell? ⟨w.heap.size,2,none⟩=some (.bool d):=by simp[World.cell?,m]
 have O:a.cell? ⟨w.heap.size,1+1,none⟩=some (.bool d):=F;have P:a.cell? ⟨w.heap.size+1,0,none⟩=some (.int .u64 0):=by simp[World.cell?,b]
 have m1:a.cell? ⟨w.heap.size+1,1,none⟩=some (.int .u64 0):=by simp[World.cell?,b]
 have Q:a.cell? ⟨w.heap.size+1,2,none⟩=some (.bool false):=by simp[World.cell?,b]
 have R:a.cell? ⟨w.heap.size+1,3,none⟩=some (.bool false):=by simp[World.cell?,b]
 have S:a.frozen? ⟨w.heap.size+1,0,none⟩=false:=by simp[World.frozen?,b]
 have U:a.frozen? ⟨w.heap.size+1,1,none⟩=false:=by simp[World.frozen?,b]
 have z2:a.frozen? ⟨w.heap.size+1,2,none⟩=false:=by simp[World.frozen?,b]
 have V:a.frozen? ⟨w.heap.size+1,3,none⟩=false:=by simp[World.frozen?,b]
 clear c3 c8;replace b:=J b;replace m:=J m;go_wp2_with fail;cases d
 ·go_big_region;go_wp2_with fail;refine cA (v:=.tuple #[.agg #[.int .u64 0,.int .u64 0,.bool c,.bool false],.bool false]) ?_ rfl ⟨rfl,aW (aI (aI (aI (aI (l) _ _ (.inl (b9 _))) _ _ (.inl (b9 _))) _ _ (.inl (b9 _))) _ _ (.inl (b9 _)))⟩;simp[results,results242,go_sem, *]
 have M:w.grownBy a.drew none:=aW l;have X:sb<w.heap.size:=Z I;have N:w.heap.size≠w.heap.size+1:=by omega
 have n2:sb≠w.heap.size+1:=by omega
 have G:a.drew.cell? ⟨w.heap.size,1,none⟩=some (.bool c)/\a.drew.cell? ⟨w.heap.size,2,none⟩=some (.bool true)/\a.drew.cell? ⟨sb,f+3,none⟩=some (.int .u64 aA)/\a.drew.cell? ⟨sb,f+8,none⟩=some (.int .u64 code):=⟨L,F,d3,d8⟩
 go_region_held3 (λh=>h.cell? ⟨w.heap.size,1,none⟩=some (.bool c)/\h.cell? ⟨w.heap.size,2,none⟩=some (.bool true)/\h.cell? ⟨sb,f+3,none⟩=some (.int .u64 aA)/\h.cell? ⟨sb,f+8,none⟩=some (.int .u64 code))
  (first|with_reducible exact G|exact GW G N n2)
  (first|(go_at_call 283;refine(Z A _).mono ?_;rintro e Y⟨rfl,rfl⟩))
 all_goals go_wp2_with fail
 all_goals
  refine cA (v:=.tuple #[.agg #[.int .u64 0,.int .u64 0,.bool c,.bool true],.bool (decide (z<=p))]) ?_ rfl ⟨by simp,aI (aI (aI (aI (M) _ _ (.inl (b9 _))) _ _ (.inl (b9 _))) _ _ (.inl (b9 _))) _ _ (.inl (b9 _))⟩
  simp[results,results242,go_sem, *]
structure Pc where
 x:Rg
 e:Bool
 g:Bool
structure Pk where
 num:Int
 tick:Int
 st:Int
 ps:List Pc
def qN(p:Pc):List Value:=[.int .u64 p.x.lo,.int .u64 p.x.hi,.bool p.e,.bool p.g]
def fN(l:List Pc):List Value:=l.flatMap qN
def fF(l:List Pc)(i:Nat):Pc:=l.getD i ⟨⟨0,0⟩,false,false⟩
def ko(w:World)(a:Option Addr)(n cap:Nat)(l:List Pc):Prop:=
 (∀p∈l,p.x.ok)/\n=l.length/\n<=cap/\cap<=maxLen/\(cap=0\/∃b o,a=some ⟨b,o,none⟩/\w.rangeAt b o (fN l))
theorem AG{α:Type}(f:α->List Value)(a:∀x,(f x).length=4)(l:List α):(l.flatMap f).length=l.length*4:=by
 induction l with
 |nil=>rfl
 |cons x l b=>rw[rC,bH,b,a,dq];omega
theorem rN{α:Type}(f:α->List Value)(a:∀x,(f x).length=4)(l:List α)(i j:Nat)(x:α)(b:l[i]?=some x)(c:j<4):(l.flatMap f)[i*4+j]?=(f x)[j]? :=by
 induction l generalizing i with
 |nil=>cases b
 |cons y l d=>
  rw[rC];cases i with
  |zero=>
   cases b;rw[nG,dR,mc (by rw[a];exact c)]
  |succ i=>
   rw[jz (by rw[a];omega),a,show(i+1)*4+j-4=i*4+j by omega];exact d i (by simpa using b)
theorem Hb(l:List Pc):(fN l).length=l.length*4:=AG qN (λ_=>rfl) l
theorem ko.df{l:List Pc}(h:ko w a n k l)(e:l≠[]->∀x,a=some x->W.heap[x.block]?=w.heap[x.block]?):ko W a n k l:=by
 obtain⟨f,g,i,m,c⟩:=h;refine⟨f,g,i,m,?_⟩
 obtain c|⟨b,o,rfl,c⟩:=c
 exact .inl c;refine .inr ⟨b,o,rfl,?_⟩;by_cases hl:l=[]
 subst hl;intro j v d;simp[fN]at d;intro j v d;exact(lH (w:=w) (a:=⟨b,o+j,none⟩) (e hl ⟨b,o,none⟩ rfl)).trans (c j v d)
theorem vy{l:List Pc}(h:i<l.length):l[i]?=some (fF l i):=by simp[fF,List.getD,h]
theorem vz{l:List Pc}(h:i<l.length):fF l i∈l:=xd (vy h)
theorem ko.cell{l:List Pc}(h:ko w (some ⟨b,o,none⟩) n k l)(i:Nat)(hi:i<l.length):w.cell? ⟨b,o+i*4,none⟩=some (.int .u64 (fF l i).x.lo)/\w.cell? ⟨b,o+i*4+1,none⟩=some (.int .u64 (fF l i).x.hi)/\w.cell? ⟨b,o+i*4+2,none⟩=some (.bool (fF l i).e)/\w.cell? ⟨b,o+i*4+3,none⟩=some (.bool (fF l i).g):=by
 obtain⟨-,f,m,-,a|⟨p,q,e,a⟩⟩:=h;omega;cases e;have c:=λj d=>rN qN (λ_=>rfl) l i j _ (vy hi) d
 refine⟨a (i*4) _ (c 0 (by omega)),?_,?_,?_⟩
 rw[qc];exact a (i*4+1) _ (c 1 (by omega));rw[qc];exact a (i*4+2) _ (c 2 (by omega));rw[qc];exact a (i*4+3) _ (c 3 (by omega))
theorem ko.ao{l:List Pc}(h:ko w a n k l)(g:w.grownBy W none):ko W a n k l:=by
 by_cases hl:l=[]
 exact h.df (λh=>absurd hl h);refine h.df (λ_ x b=>?_);subst b;obtain⟨-,i,j,-,c|⟨d,f,e,c⟩⟩:=id h;have:=oj.2 hl;omega;cases e;exact g.block _ (ep w ⟨d,f,none⟩ (h.cell 0 (oj.2 hl)).1) (by simp)
abbrev Kt:=Pk×Value
def kq(x:Kt):List Value:=[.int .u64 x.1.num,.int .i64 x.1.tick,.int .i64 x.1.st,x.2]
def iL(l:List Kt):List Value:=l.flatMap kq
theorem qO(l:List Kt):(iL l).length=l.length*4:=AG kq (λ_=>rfl) l
def bJ(l:List Kt)(i:Nat):Kt:=l.getD i (⟨0,0,0,[]⟩,.slice none 0 0)
theorem nJ{l:List Kt}(h:i<l.length):l[i]?=some (bJ l i):=by simp[bJ,List.getD,h]
theorem oE{l:List Kt}(h:i<l.length):bJ l i∈l:=xd (nJ h)
def m8(w:World)(S:Nat->Prop)(l:List Kt):Prop:=∀x∈l,∃a n c,x.2=.slice a n c/\ko w a n c x.1.ps/\∀y,a=some y->¬S y.block/\y.block<w.heap.size
theorem m8.aw{l:List Kt}(h:m8 w S l)(C:av w W P)(f:∀k,k<w.heap.size->P k->S k):m8 W S l:=λx g=>by
 obtain⟨a,n,c,e,hp,d⟩:=h x g;exact⟨a,n,c,e,hp.df (λ_ y b=>C.block _ (d y b).2 (λi=>(d y b).1 (f _ (d y b).2 i))),λy b=>⟨(d y b).1,bY (d y b).2 C.size⟩⟩
theorem m8.sub{l m:List Kt}(h:m8 w S l)(a:∀x∈m,x∈l):m8 w S m:=λx b=>h x (a x b)
def cf(w:World)(a:Nat)(v:Value)(l:List Kt):Prop:=w.ownsRow a 325 4 v l.length (iL l)
theorem cf.lt{l:List Kt}(h:cf w n x l):∀k,x.ownBlock=some k->n<=k/\k<w.heap.size:=World.ownsRow.lt h
theorem cf.aw{l:List Kt}(h:cf w n x l)(C:av w W S)(c:∀k,x.ownBlock=some k->¬S k):cf W n x l:=by
 obtain⟨d,a⟩:=h;refine⟨d,?_⟩
 obtain a|⟨g,cap,cur,e1,e2,b,e⟩:=a
 exact .inl a;exact .inr ⟨g,cap,cur,e1,e2,(C.block g (aY.1 b).1 (c g (by rw[e1];rfl))).trans b,e⟩
theorem cf.cell{l:List Kt}(h:cf w k (.slice a n m) l)(hl:0<n):∃g,a=some ⟨g,0,none⟩/\∀i,i<l.length->w.cell? ⟨g,0+i*4,none⟩=some (.int .u64 (bJ l i).1.num)/\w.cell? ⟨g,0+i*4+1,none⟩=some (.int .i64 (bJ l i).1.tick)/\w.cell? ⟨g,0+i*4+2,none⟩=some (.int .i64 (bJ l i).1.st)/\w.cell? ⟨g,0+i*4+3,none⟩=some (bJ l i).2:=by
 obtain⟨r,⟨c,h0⟩|⟨g,s,d,e1,e2,e,t,u,v,f⟩⟩:=h;cases c;omega;cases e1;refine⟨g,rfl,λi hi=>?_⟩
 have b:∀j,j<4->w.cell? ⟨g,i*4+j,none⟩=(kq (bJ l i))[j]? :=λj p=>by
  rw[aX e,<-rN kq (λ_=>rfl) l i j _ (nJ hi) p];have q:i*4+j<l.length*4:=by omega
  have:d.toList[i*4+j]?=(iL l)[i*4+j]? :=by rw[<-f,jA,az q]
  rw[pZ]at this;exact this
 refine⟨?_,?_,?_,?_⟩
 rw[dR];exact b 0 (by omega);rw[dR];exact b 1 (by omega);rw[dR];exact b 2 (by omega);rw[dR];exact b 3 (by omega)
theorem cf.gy{l:List Kt}(h:cf w n x l):∃a cap,x=.slice a l.length cap/\l.length<=cap/\cap<=maxLen:=by
 obtain⟨f,⟨b,h0⟩|⟨g,c,i,e1,e2,j,d,e,k,m⟩⟩:=h;exact⟨none,0,by rw[h0];exact b,by omega,by simp[maxLen]⟩
 exact⟨_,c,e1,d,e⟩
theorem AH(ty t e:TypeId)(z:Value)(k:Nat)(p:0<k)(q:prog.underlying t=some (.slice e))(r:∀w,(zeroValue e).run prog w=.ok z w)(b:z.cells.size=k)(s:∀v∈z.cells.toList,v.oneCell'=true)(g i m c:Nat)(a:Array Value)(te:TypeId)(x:w.heap[g]?=some (.cells a te (0,0)))(y:0<m)(A:i+m*k<=a.size):
 ∃d:List Value,d.length=m*k/\(Builtin.clear_ #[t] ty #[.slice (some ⟨g,i,none⟩) m c]).run prog w=.ok (.tuple #[]) (w.setRow g (a.toList.take i++d++a.toList.drop (i+m*k)).toArray):=by
 have hl:(Builtin.zeroCells z.cells m).toList.length=m*k:=by simp[Builtin.zeroCells,b]
 refine⟨(Builtin.zeroCells z.cells m).toList,hl,?_⟩
 have f:=run_storeCells_at prog g i te (Builtin.zeroCells z.cells m).toList 0 a w x (by rw[hl];omega) (by
  intro u h;simp only[Builtin.zeroCells,b,Array.toList_map,eQ]at h;obtain⟨j,-,rfl⟩:=h;have l:j %k<z.cells.size:=by rw[b];exact Nat.mod_lt _ p
  refine s _ ?_;rw[getElem!_pos z.cells (j %k) l];exact Array.getElem_mem_toList l)
 obtain⟨n,rfl⟩:∃n,m=n+1:=⟨m-1,by omega⟩
 rw[hl]at f;simp[Builtin.clear_,uK q,r,f]
theorem Hc(w:World):(zeroValue 325).run prog w=.ok (.agg #[.int .u64 0,.int .i64 0,.int .i64 0,.slice none 0 0]) w:=by kernel_rfl
structure ja(W:World)(g cap:Nat)(ay b:List Kt)(j:Nat)(a:Array Value):Prop where
 aN:W.heap[g]?=some (.cells a 325 (0,0))
 sz:a.size=cap*4
 le:b.length<=j
 ahead:∀x,x<b.length*4->a[x]?=(iL b)[x]?
 rest:∀x,j*4<=x->x<ay.length*4->a[x]?=(iL ay)[x]?
theorem ja.at{ay b:List Kt}(h:ja W n k ay b j c)(d:j<ay.length):W.cell? ⟨n,j*4,none⟩=some (.int .u64 (bJ ay j).1.num)/\W.cell? ⟨n,j*4+1,none⟩=some (.int .i64 (bJ ay j).1.tick)/\W.cell? ⟨n,j*4+2,none⟩=some (.int .i64 (bJ ay j).1.st)/\W.cell? ⟨n,j*4+3,none⟩=some (bJ ay j).2:=by
 have a:∀i,i<4->W.cell? ⟨n,j*4+i,none⟩=(kq (bJ ay j))[i]? :=λi hi=>by
  rw[aX h.aN,h.rest _ (by omega) (by omega)];exact rN kq (λ_=>rfl) ay j i _ (nJ d) hi
 exact⟨a 0 (by omega),a 1 (by omega),a 2 (by omega),a 3 (by omega)⟩
def kp(ay:List Kt)(q:Nat->Bool):Nat->List Kt
 |0=>[]
 |j+1=>if q j then kp ay q j else kp ay q j++[bJ ay j]
theorem AI(ay:List Kt)(q:Nat->Bool)(j:Nat)(b:j<=ay.length)(h:∀i,i<j->q i=false):kp ay q j=ay.take j:=by
 induction j with
 |zero=>simp[kp]
 |succ j a=>
  unfold kp;rw[h j (by omega),ah (by simp),a (by omega) (λi hi=>h i (by omega)),qF,nJ (by omega)];rfl
theorem xR(ay:List Kt)(q:Nat->Bool)(Q:Kt->Bool)(h:∀i,i<ay.length->q i=Q (bJ ay i))(j:Nat)(c:j<=ay.length):kp ay q j=(ay.take j).filter (λx=> !Q x):=by
 induction j with
 |zero=>simp[kp]
 |succ j a=>
  unfold kp;rw[h j (by omega),a (by omega),qF,nJ (by omega),Option.toList_some,List.filter_append];cases b:Q (bJ ay j)<;>simp[b]
theorem He(l:List Kt)(k:Nat)(x:Nat)(b:x<k*4):(iL (l.take k))[x]?=(iL l)[x]? :=by
 by_cases hl:x<l.length*4;have e:x=x/4*4+x %4:=by omega
 have a:x/4<l.length:=by omega
 have c:x/4<(l.take k).length:=by rw[ct];omega
 rw[e];unfold iL;rw[rN kq (λ_=>rfl) l _ _ _ (nJ a) (by omega),rN kq (λ_=>rfl) (l.take k) _ _ (bJ l (x/4)) (by rw[jA,az (by omega)];exact nJ a) (by omega)];rw[nz (l:=iL l) (by rw[qO];omega),nz (l:=iL (l.take k)) (by rw[qO,ct];omega)]
theorem Hf(l:List Kt)(x:Kt):iL (l++[x])=iL l++kq x:=by simp[iL]
theorem ja.skip{ay a:List Kt}(h:ja W n k ay a j c)(b:w.heap[n]?=W.heap[n]?):ja w n k ay a (j+1) c:=
 ⟨b.trans h.aN,h.sz,by have:=h.le;omega,h.ahead,λx e d=>h.rest x (by omega) d⟩
theorem ja.same{ay a:List Kt}(h:ja W n k ay a j c)(b:w.heap[n]?=W.heap[n]?):ja w n k ay a j c:=
 ⟨b.trans h.aN,h.sz,h.le,h.ahead,h.rest⟩
theorem ja.put{W':World}{ay a:List Kt}(h:ja W n k ay a j c)(i:a.length<j)(l:j<ay.length)(m:ay.length<=k)(x:Kt)
 (d:W'.heap[n]?=some (.cells ((((c.setIfInBounds (a.length*4) (.int .u64 x.1.num)).setIfInBounds (a.length*4+1) (.int .i64 x.1.tick)).setIfInBounds (a.length*4+2) (.int .i64 x.1.st)).setIfInBounds (a.length*4+3) x.2) 325 (0,0))):
 ∃e,ja W' n k ay (a++[x]) (j+1) e:=by
 have p:=h.sz;refine⟨_,d,by simp[h.sz],by simp;omega,λy f=>?_,λy q g=>?_⟩
 rw[bH,List.length_singleton]at f;rw[Hf];by_cases b:y<a.length*4;rw[bg (by omega),bg (by omega),bg (by omega),bg (by omega),h.ahead y b,mc (by rw[qO];exact b)];rw[jz (by rw[qO];omega),qO];have:y=a.length*4\/y=a.length*4+1\/y=a.length*4+2\/y=a.length*4+3:=by omega
 obtain rfl|rfl|rfl|rfl:=this
 rw[bg (by omega),bg (by omega),bg (by omega),cB (by omega),rE];rfl;rw[bg (by omega),bg (by omega),cB (by simp;omega),sQ];rfl;rw[bg (by omega),cB (by simp;omega),sQ];rfl;rw[cB (by simp;omega),sQ];rfl;rw[bg (by omega),bg (by omega),bg (by omega),bg (by omega),h.rest y (by omega) g]
theorem ja.own{ay a:List Kt}(h:ja W n k ay a j c)(d:i<=n)(b:a.length<=k/\k<=maxLen):cf W i (.slice (some ⟨n,0,none⟩) a.length k) a:=by
 refine⟨qO a,.inr ⟨n,k,c,rfl,d,h.aN,b.1,b.2,h.sz,?_⟩⟩
 apply List.ext_getElem?;intro x;rw[jA];split;rename_i e;rw[pZ];exact h.ahead x e;rw[nz (by rw[qO];omega)]
