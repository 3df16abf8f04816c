import Derived.Test.YtjnmokmchdfchaaGreatDoorZSl
set_option maxRecDepth 1000000
set_option maxHeartbeats 0
set_option linter.all false
namespace Go.Proofs.YtjnmokmchdfchaaGreatDoor
open Go.RowKit Tryz
open Go.Value renaming int→I,slice→Y,bool→β,pointer→π,agg→ε,string→ς,tuple→τ
open Go.IntKind renaming i64→X,u64→U,u8→Δ
open Go.Ending renaming returned→ξ
open Go.Obj renaming cells→ο
open Or renaming inl→φ,inr→ψ
open Option renaming some→E,none→N
open Bool renaming true→ρ,false→θ
open Go renaming World→D,Value→υ
open Go.World renaming grownBy→G,cell?→κ,frozen?→χ,setCell→ζ
attribute[local go_sem↓]Go.wp_at_zero Go.wp_at_succ
variable{B:Bool}{u:Fr}{p q r:Int}{L:List Int}{s:List Rg}{b i j k l m n o:Nat}{P S:Nat->Prop}{a:Option Addr}{H:Ot}{d:Sd}{y:υ}{W v w:D}{f:ah}
def Q1(w:D)(mb:Nat)(l:cz)(s:ah)(B:Nat->Prop)(H:bV w mb l s B)(f:Fr)(ra:Option Addr)(z rc:Nat)(hr:bq w ra z rc f.ranges)(a2:∀r∈f.ranges,mI s.aU.l r=ρ)(cy:s.due.length<=1000000):
 Calls prog 121 #[π (E ⟨mb,0,N⟩),ε (bC f (Y ra z rc))] w λe w'=>e=ξ (β ρ)/\bP w.heap.size w mb B (s.dW f) w':=by
 refine js λR hR=>?_
 obtain⟨h,a3⟩:=í (w.alloc (ο (bC f (Y ra z rc)) 158));have g1:G w h N:=by rw[a3];exact aC _ _ _
 have bj:h.heap[w.heap.size]?=E (ο (bC f (Y ra z rc)) 158 (0,0)):=by rw[a3];exact aM _ _
 have A:=H.ag g1;have ao:=hr.ag g1;obtain⟨F,hF⟩:=í w.heap.size;rw[<-hF]at bj;unfold bC at *;obtain⟨-,-,-,-,-,-,x6⟩:=bQ bj;replace x6:=kc x6;have cc:=kc A.mc.aU;have db:=kc A.mc.aX;have a0:=kc A.mc.due;obtain⟨ea,en,ec,de,ax,-⟩:=A.cq.aU.row;have sE:=A.cq.aU.aG;rw[de]at sE;obtain⟨e0,-,-,-⟩:=iq sE;replace e0:=kc e0;obtain⟨-,a4,-,-⟩:=iq A.cq.aX.aG;replace a4:=kc a4;obtain⟨da,dc,ed,d2,d3,d4,d5⟩:=ns A.due;rw[ed]at a0;have br:=J (λwr a n c(L:lY h wr (Y a n c) (s.due.filter (λn=> !s.told f.ranges n)))=>(show R (ζ wr ⟨mb,25,N⟩ (Y a n c)) by rw[hR];exact bP.pre g1 (A.Gg L)));have f25:Hid (∀wr a n c d,lY h wr (Y a n c) d->χ wr ⟨mb,25,N⟩=θ):=J (λwr a n c d L=>(A.ag L.g).mc.fz 25);have a1:=ao.2.1;have eK:=ao.2.2.1;have dg:=ao.2.2.2.1;have a8:=ax.2.1;have eL:=ax.2.2.1;have dk:=ax.2.2.2.1;unfold maxLen at dg dk d3;obtain⟨eb,dm⟩:∃eb:Nat->Nat,True:=⟨id,trivial⟩
 clear dm eb;have cf:=J (λq(hq:q<z)=>(show∃b o,ra=E ⟨b,o,N⟩/\(∀W,G h W N->κ W ⟨b,o+q*2,N⟩=E (I U (an f.ranges q).lo))/\(∀W,G h W N->κ W ⟨b,o+q*2+1,N⟩=E (I U (an f.ranges q).hi)) by
  obtain h0|⟨b,o,rfl,-⟩:=ao.2.2.2.2
  omega
  .have:=ao.cell q O;exact⟨b,o,Q,kc this.1,kc this.2⟩))
 have ch:=J (λq(hq:q<en)=>(show∃b o,ea=E ⟨b,o,N⟩/\(∀W,G h W N->κ W ⟨b,o+q*2,N⟩=E (I U (an s.aU.l q).lo))/\(∀W,G h W N->κ W ⟨b,o+q*2+1,N⟩=E (I U (an s.aU.l q).hi)) by
  obtain h0|⟨b,o,rfl,-⟩:=ax.2.2.2.2
  omega
  .have:=ax.cell q O;exact⟨b,o,Q,kc this.1,kc this.2⟩))
 obtain⟨M,hD⟩:=í s.due.length;have dn:=J (λq(hq:q<M)=>(show∃g,da=E ⟨g,0,N⟩/\(∀W,G h W N->κ W ⟨g,q,N⟩=E (I U (s.due.getD q 0))) by
  obtain⟨g,eS,e2,-,-,e3,-,-⟩:=nX A.due q O;rw[ed]at e2;cases e2;refine⟨g,Q,kc ?_⟩
  rw[e3,kU,dB O];simp[List.getD,dB (O:q<s.due.length)]))
 rw[<-hD]at a0 d2 cy;obtain⟨fl,bt⟩:=í s.aX.floor;rw[<-bt]at a4;have du:Hid (∀n,s.told f.ranges n=(decide (n<fl)||bK f.ranges n)):=J (λn=>by rw[bt];rfl);have cm:Hid (∀wr,G h wr N->lY h wr (Y N 0 0) []):=J (λwr g=>⟨g,lI _ _ _ _,nofun⟩);clear H A hr ao ax sE ed d4 d5 bj bt g1;replace⟨hR,a1,a8,a2,hD⟩:=gT hR a1 a8 a2 hD;obtain⟨P,hP⟩:∃P:Int->Bool,P=λn=> !s.told f.ranges n:=⟨_,Q⟩
 rw[<-hP]at br;replace hP:=J hP;have cp:G h h N:=au _ _;go_enter func121,ntmps121;go_upto_region 2 with fail;rw[<-a3,<-hF];clear a3 hF;go_loopg [5] (z+1) (λg v5 wr=>∃j:Nat,j<=z/\v5=I X j/\g=z+1-j/\G h wr N);case atStart=>exact⟨0,O,Q,O,cp⟩
 case round=>
  clear cp;obtain⟨j,hj,rfl,rfl,gj⟩:=hrel;by_cases dv:j<z
  .obtain⟨rb,ro,rfl,y0,y1⟩:=Z cf j dv;have ct:Hid (mI s.aU.l (an f.ranges j)=ρ):=J (Z a2 _ (lL (by have:=Z a1;omega)));obtain⟨r,bw⟩:=í (an f.ranges j);rw[<-bw]at y0 y1 ct;replace bw:=J bw;have j0:(0:Int)<=j:=O;have j1:(j:Int)<z:=O;go_upto_region 6 with fail;go_loopg [6,7] (en+1) (λg v6 v7 wr=>∃q:Nat,q<=en/\v7=I X q/\v6=β (mI (s.aU.l.take q) r)/\g=en+1-q/\G h wr N);case atStart=>exact⟨0,O,Q,Q,O,gj⟩
   case round=>
    clear gj;obtain⟨q,hq,rfl,rfl,rfl,C⟩:=hrel;rename D=>v
    by_cases bx:q<en
    .obtain⟨eb,eo,rfl,z0,z1⟩:=Z ch q bx;have p:Hid (mI (s.aU.l.take (q+1)) r=(mI (s.aU.l.take q) r||(decide ((an s.aU.l q).lo<=r.lo)&&decide (r.hi<=(an s.aU.l q).hi)))):=J (QZ (by have:=Z a8;omega));obtain⟨b,aa⟩:=í (mI (s.aU.l.take q) r);obtain⟨bz,bA⟩:=í ((an s.aU.l q).lo);obtain⟨bM,b3⟩:=í ((an s.aU.l q).hi);obtain⟨jH,ai⟩:=í r.lo;obtain⟨ak,al⟩:=í r.hi;rw[<-aa,<-bA,<-b3,<-ai,<-al]at p;rw[<-aa];rw[<-bA]at z0;rw[<-b3]at z1;rw[<-ai]at y0;rw[<-al]at y1;clear aa bA b3 ai al;have q0:(0:Int)<=q:=O;have q1:(q:Int)<en:=O;have dx:G h v.drew N:=aK C;have b4:=x6 v C;have ee:=cc v C;have ei:=e0 v C;have ej:=y0 v C;have ek:=y1 v C;have e4:=z0 v C;have e5:=z1 v C;have x:Hid (∀t,mI (s.aU.l.take (q+1)) r=t->∃k:Nat,k<=en/\I X ((q:Int)+1)=I X k/\β t=β (mI (s.aU.l.take k) r)/\en+1-(q+1)=en+1-k/\G h v.drew N):=J (λt ht=>⟨q+1,O,by push_cast;rfl,by rw[<-ht],Q,dx⟩);cases b with
     |true=>
      have u:=J (Z x ρ (by rw[Z p];rfl));clear x p;go_upto_region 8 with fail;go_region;go_wp2;go_roundg (en+1-(q+1));case measure=>omega
      case rel=>exact Z u
     |false=>
      by_cases c1:bz<=jH
      .have d1:decide (bz<=jH)=ρ:=bU c1;by_cases c2:ak<=bM
       .have d2:decide (ak<=bM)=ρ:=bU c2;have u:=J (Z x ρ (by rw[Z p,d1,d2];rfl));clear x p;go_upto_region 8 with fail;go_region;go_wp2;go_roundg (en+1-(q+1));case measure=>omega
        case rel=>exact Z u
       have d2:decide (ak<=bM)=θ:=bT c2;have u:=J (Z x θ (by rw[Z p,d1,d2];rfl));clear x p;go_upto_region 8 with fail;go_region;go_wp2;go_roundg (en+1-(q+1));case measure=>omega
       case rel=>exact Z u
      have d1:decide (bz<=jH)=θ:=bT c1;have u:=J (Z x θ (by rw[Z p,d1];rfl));clear x p;go_upto_region 8 with fail;go_region;go_wp2;go_roundg (en+1-(q+1));case measure=>omega
      case rel=>exact Z u
    obtain rfl:q=en:=O;have S:mI (s.aU.l.take q) r=ρ:=by rw[Z a8,kC];exact Z ct
    rw[S];clear S;have ee:=cc v C;have ei:=e0 v C;go_wp2;go_roundg (z+1-(j+1));case measure=>omega
    case rel=>exact⟨j+1,O,by go_num,Q,C⟩
  obtain rfl:j=z:=O;have b4:=x6 wr gj;have cv:=J (Z cm wr gj);clear a2 ch cm;go_upto_region 13 with fail;go_loopg [8,9] (M+1) (λg v8 v9 wr=>∃(i:Nat)(T:Option Addr)(V c8:Nat),i<=M/\v9=I X i/\v8=Y T V c8/\g=M+1-i/\lY h wr (Y T V c8) ((s.due.take i).filter P));case atStart=>exact⟨0,N,0,0,O,Q,Q,O,Z cv⟩
  case round=>
   clear cv b4;obtain⟨i,T,V,c8,hi,rfl,rfl,rfl,m⟩:=hrel;rename D=>v
   have g2:=m.g;have b5:=a0 v g2;by_cases er:i<M
   .obtain⟨gd,rfl,y⟩:=Z dn i er;obtain⟨n,hn⟩:=í (s.due.getD i 0);rw[<-hn]at y;have i0:(0:Int)<=i:=O;have i1:(i:Int)<M:=O;have b6:Hid ((s.due.take (i+1)).filter P=if P n then(s.due.take i).filter P++[n]else(s.due.take i).filter P):=J (by rw[hn];exact Q0 (by have:=Z hD;omega));have cw:Hid (((s.due.take i).filter P).length<=100000000):=J (by have h1:=wL P (s.due.take i);rw[dK]at h1;omega);obtain⟨dl,b7⟩:=í ((s.due.take i).filter P);rw[<-b7]at m b6 cw;have b8:Hid (P n= !(decide (n<fl)||bK f.ranges n)):=J (by rw[Z hP];simp only;rw[Z du]);have et:=db v g2;have ev:=a4 v g2;have y':=y v g2;have bb:=J (m.gb (aK (au v N)));replace⟨hn,b7,m⟩:=cA hn b7 m;go_upto_region 15 with fail;go_region;clear et ev y' b5;go_upto_region 17 with fail;go_loopg [10,11] (j+1) (λg ey ez wr=>∃q:Nat,q<=j/\ez=I X q/\ey=β (decide (n<fl)||bK (f.ranges.take q) n)/\g=j+1-q/\lY h wr (Y T V c8) dl);case atStart=>exact⟨0,O,Q,by simp[bK],O,Z bb⟩
    case round=>
     clear bb m;obtain⟨q,hq,rfl,rfl,rfl,m⟩:=hrel;rename D=>K
     have g3:=m.g;have b4:=x6 K g3;by_cases bx:q<j
     .obtain⟨rb,ro,rfl,y0,y1⟩:=Z cf q bx;have p:Hid ((decide (n<fl)||bK (f.ranges.take (q+1)) n)=((decide (n<fl)||bK (f.ranges.take q) n)||(decide ((an f.ranges q).lo<=n)&&decide (n<=(an f.ranges q).hi)))):=J (by rw[Gc (by have:=Z a1;omega),Bool.or_assoc]);obtain⟨b,aa⟩:=í ((decide (n<fl)||bK (f.ranges.take q) n));obtain⟨jH,ai⟩:=í ((an f.ranges q).lo);obtain⟨ak,al⟩:=í ((an f.ranges q).hi);rw[<-aa,<-ai,<-al]at p;rw[<-aa];rw[<-ai]at y0;rw[<-al]at y1;clear aa ai al;have q0:(0:Int)<=q:=O;have q1:(q:Int)<j:=O;have b5:=a0 K g3;have y':=y K g3;have ej:=y0 K g3;have ek:=y1 K g3;have bb:Hid (lY h K.drew (Y T V c8) dl):=J (m.gb (aK (au K N)));replace m:=J m;have x:Hid (∀t,(decide (n<fl)||bK (f.ranges.take (q+1)) n)=t->∃k:Nat,k<=j/\I X ((q:Int)+1)=I X k/\β t=β (decide (n<fl)||bK (f.ranges.take k) n)/\j+1-(q+1)=j+1-k/\lY h K.drew (Y T V c8) dl):=J (λt ht=>⟨q+1,O,by push_cast;rfl,by rw[<-ht],Q,Z bb⟩);cases b with
      |true=>
       have u:=J (Z x ρ (by rw[Z p];rfl));clear x p;go_upto_region 19 with fail;go_region;go_wp2;go_roundg (j+1-(q+1));case measure=>omega
       case rel=>exact Z u
      |false=>
       by_cases c1:jH<=n
       .have d1:decide (jH<=n)=ρ:=bU c1;by_cases c2:n<=ak
        .have d2:decide (n<=ak)=ρ:=bU c2;have u:=J (Z x ρ (by rw[Z p,d1,d2];rfl));clear x p;go_upto_region 19 with fail;go_region;go_wp2;go_roundg (j+1-(q+1));case measure=>omega
         case rel=>exact Z u
        have d2:decide (n<=ak)=θ:=bT c2;have u:=J (Z x θ (by rw[Z p,d1,d2];rfl));clear x p;go_upto_region 19 with fail;go_region;go_wp2;go_roundg (j+1-(q+1));case measure=>omega
        case rel=>exact Z u
       have d1:decide (jH<=n)=θ:=bT c1;have u:=J (Z x θ (by rw[Z p,d1];rfl));clear x p;go_upto_region 19 with fail;go_region;go_wp2;go_roundg (j+1-(q+1));case measure=>omega
       case rel=>exact Z u
     obtain rfl:q=j:=O;have S:f.ranges.take q=f.ranges:=by rw[Z a1,kC]
     rw[S];clear S;obtain⟨t,ht⟩:=í ((decide (n<fl)||bK f.ranges n));rw[<-ht]at b8⊢;clear ht;have b5:=a0 K g3;have y':=y K g3;cases t with
     |true=>
      have u:Hid (lY h K (Y T V c8) ((s.due.take (i+1)).filter P)):=J (by rw[Z b6,Z b8];exact m);replace m:=J m;go_wp2;go_roundg (M+1-(i+1));case measure=>omega
      case rel=>exact⟨i+1,T,V,c8,O,by go_num,Q,Q,Z u⟩
     |false=>
      obtain⟨a9,n9,c9,w4,ca,cx⟩:=m.app n (Z cw) Q;have u:Hid (lY h w4 (Y a9 n9 c9) ((s.due.take (i+1)).filter P)):=J (by rw[Z b6,Z b8];exact cx);replace⟨m,ca⟩:=aT m ca;clear cx;go_wp2_with (at_builtin;refine jN Ξ 78 78 Ξ _ _ Ξ _ _ _ Ξ Ξ (Z ca) ?_);go_roundg (M+1-(i+1));case measure=>omega
      case rel=>exact⟨i+1,a9,n9,c9,O,by go_num,Q,Q,Z u⟩
   obtain rfl:i=M:=O;have S:s.due.take i=s.due:=by rw[Z hD,kC]
   rw[S]at m;clear S;have hf:=J (Z br _ _ _ _ m);have fz:=Z f25 _ _ _ _ _ m;replace m:=J m;clear br f25;go_wp2;go_ret;exact⟨Q,Z hf⟩
structure wg(s:ah)(f:Fr):Prop where
 kind:f.kind=3\/f.kind=4\/f.kind=5
 k3:f.kind=3->∀r∈f.ranges,mI s.aU.l r=ρ
 k4:f.kind=4->0<=f.stream/\f.stream<4/\(s.outs f.stream.toNat).given=ρ/\f.offset=(s.outs f.stream.toNat).end_/\f.code=(s.outs f.stream.toNat).code
 k5:f.kind=5->0<=f.stream/\f.stream<4/\Be (s.outs f.stream.toNat) f
def ah.ep(s:ah)(f:Fr):ah:=if f.kind=3 then s.dW f else if f.kind=5 then{s with outs:=aB s.outs f.stream.toNat ((s.outs f.stream.toNat).qP f)}else s
def RB(s:ah)(f:Fr):(s.ep f).due.length<=s.due.length/\(s.ep f).ay=s.ay/\(s.ep f).aU=s.aU/\(s.ep f).aX=s.aX/\(s.ep f).next=s.next:=by
 unfold ah.ep;split;exact⟨wL _ _,Q,Q,Q,Q⟩
 grind
def Bm(fs:List Fr):∀s:ah,(fs.foldl ah.ep s).due.length<=s.due.length/\(fs.foldl ah.ep s).ay=s.ay/\(fs.foldl ah.ep s).aU=s.aU/\(fs.foldl ah.ep s).aX=s.aX/\(fs.foldl ah.ep s).next=s.next:=by
 induction fs with
 |nil=>intro s;exact⟨aP _,Q,Q,Q,Q⟩
 |cons f fs a=>
  intro s;obtain⟨b,c,k3,k4,k5⟩:=RB s f;grind
def RD(w:D)(mb:Nat)(l:cz)(s:ah)(B:Nat->Prop)(H:bV w mb l s B)(f:Fr)(a:Option Addr)(n c:Nat)(hr:bq w a n c f.ranges)(i:wg s f)(a2:s.due.length<=1000000):
 Calls prog 81 #[π (E ⟨mb,0,N⟩),ε (bC f (Y a n c))] w λe d=>e=ξ (β ρ)/\bP w.heap.size w mb B (s.ep f) d:=by
 refine r8 (λ(t:ah) d=>bP w.heap.size w mb B t d) (s.ep f) λR z=>?_
 obtain⟨j,b⟩:=í (w.alloc (ο (bC f (Y a n c)) 158));have u:G w j N:=by rw[b];exact aC _ _ _
 have A:j.heap[w.heap.size]?=E (ο (bC f (Y a n c)) 158 (0,0)):=by rw[b];exact aM _ _
 have g:=H.ag u;have T:=hr.ag u;have v:=J (λt d(h:bP j.heap.size j mb B t d)=>(show R t d by rw[z];exact h.pre u));obtain⟨F,hF⟩:=í w.heap.size;rw[<-hF]at A;have V:=J (λ(k3:f.kind=3)=>Q1 j mb l s B g f a n c T (i.k3 k3) a2);have W:=J (λ(k5:f.kind=5)=>QY j mb l s B g f (Y a n c) f.stream.toNat (by have:=i.k5 k5;omega) (by have:=i.k5 k5;omega) (i.k5 k5).2.2);unfold bC at *;obtain⟨C,x1,x2,x3,x4,x5,x6⟩:=bQ A;replace z:=J z;obtain k3|k4|k5:=i.kind
 .have m:s.ep f=s.dW f:=by unfold ah.ep;rw[aH k3]
  rw[m];have p:=J (Z V k3);have q:=J (λd h=>Z v (s.dW f) d h);rw[k3]at C b p⊢;go_enter func81,ntmps81;go_upto_region 1 with fail;rw[<-b,<-hF];clear b hF;go_wp2_with (go_at_call 121;apply(Z p).mono;rintro e w5⟨rfl,r⟩;have K:=J (Z q _ r);clear r);go_ret;exact⟨Q,Z K⟩
 .obtain⟨s1,s2,L,M,P⟩:=i.k4 k4;have m:s.ep f=s:=by unfold ah.ep;rw[ê,ê]
  rw[m];obtain⟨k,x⟩:∃k:Nat,f.stream=(k:Int):=⟨f.stream.toNat,O⟩
  have ai:k<4:=O;have ek:f.stream.toNat=k:=O;rw[ek]at L M P;have bz:=g.mc.outs;have r0:=g.outs.row k ai;have a9:=g.outs.co;unfold maxLen at a9;have y:=g.oc ai;have o3:=y.c3;have o4:=y.c4;have o5:=y.c5;rw[L]at o3;rw[<-P]at o4;rw[<-M]at o5;have q:=J (Z v s _ (g.to (aq (aK (au j N)) (aK (au _ N)))));have i0:(0:Int)<=k:=O;have i1:(k:Int)<4:=O;rw[k4,x]at b⊢;rw[k4]at C;rw[x]at x1;obtain⟨ob,a0⟩:=í (l.ob k);rw[<-a0]at r0 o3 o4 o5;clear V W v m i k4 g T A u y a0 L M P ek s1 s2;replace x:=J x;go_enter func81,ntmps81;go_upto_region 5 with fail;rw[<-b,<-hF];clear b hF;go_region;go_upto_region 6 with fail;go_region;go_wp2;go_ret;exact⟨Q,Z q⟩
 have m:s.ep f={s with outs:=aB s.outs f.stream.toNat ((s.outs f.stream.toNat).qP f)}:=by unfold ah.ep;rw[ê,aH k5]
 rw[m];have p:=J (Z W k5);have q:=J (λd h=>Z v {s with outs:=aB s.outs f.stream.toNat ((s.outs f.stream.toNat).qP f)} d h);rw[k5]at C b p⊢;obtain⟨S,hS⟩:∃S,S={s with outs:=aB s.outs f.stream.toNat ((s.outs f.stream.toNat).qP f)}:=⟨_,rfl⟩
 rw[<-hS]at p q⊢;go_enter func81,ntmps81;go_upto_region 1 with fail;rw[<-b,<-hF];clear b hF;go_wp2_with (go_at_call 122;apply(Z p).mono;rintro e w5⟨rfl,r⟩;have K:=J (Z q _ r);clear r);go_ret;exact⟨Q,Z K⟩
def ah.lZ(s:ah)(fs:List Fr):ah:={fs.foldl ah.ep {s with next:=s.next+1}with ay:=s.ay++[(s.next,fs)]}
structure uy(s:ah)(b:ByteArray)(fs:List Fr):Prop where
 op:uw s b fs
 may:∀j,j<fs.length->wg ((fs.take j).foldl ah.ep {s with next:=s.next+1}) (jn fs j)
 due:s.due.length<=1000000
 ay:s.ay.length<=100000000
def RE(w:D)(mb:Nat)(l:cz)(s:ah)(B:Nat->Prop)(H:bV w mb l s B)(b:ByteArray)(fs:List Fr)(r:uy s b fs):
 Calls prog 48 #[π (E ⟨mb,0,N⟩),ς b] w λe u=>e=ξ (β ρ)/\bP w.heap.size w mb B (s.lZ fs) u:=by
 refine js λR K=>?_
 have bb:=J (Gy w mb l s B H b fs r.op);have bj:=H.mc.next;obtain⟨s1,i⟩:∃s1,s1={s with next:=s.next+1}:=⟨_,rfl⟩
 have V:=J r.may;rw[<-i]at V;have br:Hid (∀q:List Fr,(q.foldl ah.ep s1).due.length<=1000000):=J (λq=>by
  have:=(Bm q s1).1;have h2:s1.due.length<=1000000:=by rw[i];exact r.due
  omega)
 have W:Hid (∀q:List Fr,(q.foldl ah.ep s1).ay=s.ay):=J (λq=>by rw[(Bm q s1).2.1,i]);have ai:Hid (s.lZ fs={fs.foldl ah.ep s1 with ay:=s.ay++[(s.next,fs)]}):=J (by unfold ah.lZ;rw[i]);have fj:=J r.ay;have bw:Hid (∀k,B k->k<w.heap.size):=J H.lt;have dc:0<w.heap.size:=by have:=H.lt _ H.bn.m;omega
 obtain⟨nx,ak⟩:=í s.next;rw[<-ak]at bj ai;replace⟨K,i⟩:=aT K i;clear r H ak;go_enter func48,ntmps48;go_upto_region 6 with(go_at_call 80;apply(Z bb).mono;rintro e d⟨aw,a,n,c,bx,rfl,p,hN,v,x,l1,H1⟩)
 rw[<-Z i]at x H1;obtain⟨L,dk⟩:∃C:aj w d B,True:=by
  obtain⟨_,_,_,_,C⟩:=x;exact⟨C,trivial⟩
 obtain⟨y,dm,bz⟩:=v.fU;unfold maxLen at bz;have M:Hid (fs.length=n):=J (by rw[<-p,fF,y]);have bA:Hid (∀j,j<n->jn fs j=(cS aw j).1):=J (λj hj=>by
  have z:=sF (l:=fs) (j:=j) (by rw[Z M];exact hj);rw[<-p,kU,sy O]at z;rw[<-p];exact(aR z).symm)
 have bM:Hid (∀k,bx<=k->¬B k):=J (λk P e=>by have:=Z bw k e;omega);replace⟨y,p,v⟩:=cA y p v;have b3:Hid (bP d.heap.size d mb B s1 d):=J (H1.to (au _ _));go_loopg [8] (n+1) (λg v8 wr=>∃j:Nat,j<=n/\v8=I X j/\g=n+1-j/\bP d.heap.size d mb B ((fs.take j).foldl ah.ep s1) wr);case atStart=>exact⟨0,O,Q,O,Z b3⟩
 case round=>
  obtain⟨j,hj,rfl,rfl,x⟩:=hrel;obtain⟨lj,Bj,A,S,F⟩:=id x;have a0:=(Z v).aA F (λk z h2 e=>Z bM k z e);by_cases a1:j<n
  .have a2:j<fs.length:=by rw[Z M];exact a1
   obtain⟨gf,ra,rc,e9,⟨y0,y1,y2,y3,y4,y5,y6⟩,a3,du,dv⟩:=a0.get (j:=j) (by have:=Z y;omega) (Z bA j a1);subst e9;obtain⟨f,t⟩:=í (jn fs j);rw[<-t]at y0 y1 y2 y3 y4 y5 y6 a3;have hM:=J (RD wr mb lj _ Bj A f ra f.ranges.length rc a3 (by rw[t];exact Z V j a2) (Z br _));have hE:=J (λu(h:bP wr.heap.size wr mb Bj (((fs.take j).foldl ah.ep s1).ep f) u)=>(show bP d.heap.size d mb B ((fs.take (j+1)).foldl ah.ep s1) u by
    have e:(fs.take (j+1)).foldl ah.ep s1=((fs.take j).foldl ah.ep s1).ep f:=by rw[t];exact yO _ _ _ _ _ a2
    rw[e];exact bP.trans S F h))
   have j0:(0:Int)<=j:=O;have j1:(j:Int)<n:=O;unfold bC at hM;replace t:=J t;go_wp2_with (go_at_call 81;apply(Z hM).mono;rintro e w5⟨rfl,hA⟩;have ct:=J (Z hE _ hA);clear hA);go_roundg (n+1-(j+1));case measure=>omega
   case rel=>exact⟨j+1,O,by go_num,Q,Z ct⟩
  obtain rfl:j=n:=O;have cv:fs.take j=fs:=by rw[<-Z M,kC]
  rw[cv]at A;obtain⟨a7,n7,c7,w7,T,ec,f28,l8,B8,H8,c9,C8⟩:=A.RA nx (by rw[Z W];exact Z fj) a0 O Q;have db:Hid (R (ζ w7 ⟨mb,28,N⟩ (Y a7 n7 c7))):=J (by
   rw[Z K];rw[Z ai];rw[Z W,Z p]at H8;refine⟨l8,B8,H8,λk P=>?_,((L.trans F).trans C8).mono (λk P e=>?_)⟩
   have z1:=L.size;have z2:=F.size;obtain e|e|e:=c9 k P
   obtain e|e:=S k e
   exact φ e;exact ψ O;exact ψ O;exact ψ O
   .obtain(e|e)|e:=e
    exact e;exact e
    .exact(S k e).elim id (λe=>by have:=L.size;omega))
  have ee:=A.mc.ay;replace T:=J T;go_wp2_with (at_builtin;refine jN Ξ 105 105 Ξ _ _ Ξ _ _ _ Ξ Ξ (Z T) ?_);go_ret;exact⟨Q,Z db⟩
def ah.gN(s:ah)(a:List (List Fr)):ah:=a.foldl ah.lZ s
structure Gz(s:ah)(bs:List ByteArray)(a:List (List Fr)):Prop where
 len:a.length=bs.length
 each:∀j,j<bs.length->uy (s.gN (a.take j)) (uz bs j) (a.getD j [])
 due:∀n∈(s.gN a).due,n<(s.gN a).aX.floor
 cl:s.closed=0
def RG(w:D)(mb:Nat)(l:cz)(s:ah)(B:Nat->Prop)(H:bV w mb l s B)(a:Option Addr)(n c:Nat)(bs:List ByteArray)(hp:sH w B a n c bs)(b:List (List Fr))(i:Gz s bs b):
 Calls prog 18 #[π (E ⟨mb,0,N⟩),Y a n c] w λe t=>e=ξ (β ρ)/\bP w.heap.size w mb B {s.gN b with due:=[]} t:=by
 refine js λR A=>?_
 have a3:=H.mc.closed;rw[i.cl]at a3;obtain⟨u,ca,cc,-⟩:=yU hp.row;have S:=J (λwr(C:aj w wr B)=>(yU (hp.aA C)).2.2.2);have a4:Hid (bP w.heap.size w mb B s w):=J (H.to (au _ _));replace⟨i,A,u⟩:=cA i A u;go_enter func18,ntmps18;go_upto_region 5 with fail;go_loopg [6] (n+1) (λg v6 wr=>∃j:Nat,j<=n/\v6=I X j/\g=n+1-j/\bP w.heap.size w mb B (s.gN (b.take j)) wr);case atStart=>exact⟨0,O,Q,O,Z a4⟩
 case round=>
  obtain⟨j,hj,rfl,rfl,T⟩:=hrel;let⟨lj,V,d,ai,F⟩:=id T
  by_cases bb:j<n
  .obtain⟨g,rfl,y0⟩:=Z S wr F j bb;have ak:j<bs.length:=by have:=Z u;omega
   have bj:j<b.length:=by rw[(Z i).len];exact ak
   have hM:=J (RE wr mb lj _ V d (uz bs j) _ ((Z i).each j ak));have hE:=J (λt(h:bP wr.heap.size wr mb V ((s.gN (b.take j)).lZ (b.getD j [])) t)=>(show bP w.heap.size w mb B (s.gN (b.take (j+1))) t by
    have e:s.gN (b.take (j+1))=(s.gN (b.take j)).lZ (b.getD j []):=yO _ _ _ _ _ bj;rw[e];exact bP.trans ai F h))
   have j0:(0:Int)<=j:=O;have j1:(j:Int)<n:=O;go_wp2_with (go_at_call 48;apply(Z hM).mono;rintro e w5⟨rfl,hA⟩;have bw:=J (Z hE _ hA);clear hA);go_roundg (n+1-(j+1));case measure=>omega
   case rel=>exact⟨j+1,O,by go_num,Q,Z bw⟩
  obtain rfl:j=n:=O;have ao:b.take j=b:=by rw[Z u,<-(Z i).len,kC]
  rw[ao]at d;obtain⟨f,v⟩:=í (s.gN b);have K:Hid (∀q,q<f.due.length->f.due.getD q 0<f.aX.floor):=J (λq m=>by
   rw[v]at m⊢;apply(Z i).due _;simp[List.getD,dB m])
  rw[<-v]at d;have L:=kc d.mc.due;have bx:=kc d.mc.aX;obtain⟨-,z,-,-⟩:=iq d.cq.aX.aG;replace z:=kc z;obtain⟨da,dc,M,d2,d3,-,-⟩:=ns d.due;rw[M]at L;unfold maxLen at d3;have ax:=J (λq(m:q<f.due.length)=>(show∃g,da=E ⟨g,0,N⟩/\(∀W,G wr W N->κ W ⟨g,q,N⟩=E (I U (f.due.getD q 0))) by
   obtain⟨g,cw,e2,-,-,e3,-,-⟩:=nX d.due q m;rw[M]at e2;cases e2;refine⟨g,Q,kc ?_⟩
   rw[e3,kU,dB m];simp[List.getD,dB m]))
  have bM:=J (λW(g:G wr W N)=>(show R (ζ W ⟨mb,25,N⟩ (Y N 0 0)) by
   rw[Z A];rw[<-v];exact bP.trans ai F (d.Gg ⟨g,lI _ _ _ _,nofun⟩)))
  have b3:=J (λW(g:G wr W N)=>(d.ag g).mc.fz 25);obtain⟨p,hD⟩:=í f.due.length;rw[<-hD]at K L d2 ax;obtain⟨fl,a1⟩:=í f.aX.floor;rw[<-a1]at K z;have b4:G wr wr N:=au _ _;clear d T ao M hD a1 v S;go_upto_region 11 with fail;go_loopg [8] (p+1) (λg v8 wx=>∃q:Nat,q<=p/\v8=I X q/\g=p+1-q/\G wr wx N);case atStart=>exact⟨0,O,Q,O,b4⟩
  case round=>
   obtain⟨q,m,rfl,rfl,r⟩:=hrel;rename D=>wx
   have cx:=L wx r;by_cases a2:q<p
   .obtain⟨g,rfl,y⟩:=Z ax q a2;have b6:=Z K q a2;obtain⟨x,P⟩:=í (f.due.getD q 0);rw[<-P]at b6 y;have d1:decide (x≥fl)=θ:=é;have cy:=bx wx r;have c9:=z wx r;have y':=y wx r;have q0:(0:Int)<=q:=O;have q1:(q:Int)<p:=O;have b7:=J (aK r);replace P:=J P;go_upto_region 13 with fail;go_region;go_wp2;go_roundg (p+1-(q+1));case measure=>omega
    case rel=>exact⟨q+1,O,by go_num,Q,Z b7⟩
   obtain rfl:q=p:=O;have b8:=J (Z bM wx r);have fz:=Z b3 wx r;go_wp2;go_ret;exact⟨Q,Z b8⟩
def RH(w:D)(mb:Nat)(l:cz)(s:ah)(B:Nat->Prop)(H:bV w mb l s B)(a:Option Addr)(n c:Nat)(bs:List ByteArray)(hp:sH w B a n c bs)(k:s.closed≠0)(f:Bp s bs):
 Calls prog 18 #[π (E ⟨mb,0,N⟩),Y a n c] w λe b=>e=ξ (β ρ)/\bP w.heap.size w mb B s.oP b:=by
 refine js λR g=>?_
 have m:=H.mc.closed;have i:=J (λb(h:bP w.heap.size w mb B s.oP b)=>(show R b by rw[g];exact h));go_enter func18,ntmps18;go_wp2_with (go_at_call 47;apply(Z (J (RF w mb l s B H a n c bs hp f))).mono;rintro e p⟨rfl,d⟩;have j:=J (Z i _ d);clear d);go_ret;exact⟨Q,Z j⟩
def SO(s:k<4):∀(L:Told)(m:ah),ia {H with ay:=(m.outs k).high} (m.outs k)->im H->(0<=H.code/\H.code<=4611686018427387903)->(H.sG=ρ->(m.outs k).high=H.ay)->(∀z∈L,nO H k z.1 z.2)->
 (L.map (·.2)).foldl ah.ep m={m with outs:=aB m.outs k {m.outs k with high:=dF H (m.outs k).high L}}/\∀j,j<L.length->wg (((L.map (·.2)).take j).foldl ah.ep m) (jn (L.map (·.2)) j):=by
 intro L;induction L with
 |nil=>
  intro m R c d hs f;refine⟨?_,λj g=>by simp at g⟩
  have e:dF H (m.outs k).high []=(m.outs k).high:=by unfold dF nP;simp
  rw[e];show m={m with outs:=aB m.outs k (m.outs k)}
  rw[sq]
 |cons z L t=>
  intro m R c d hs f;have u:=(f z Γ).with (m.outs k).high hs;have F:=u.GQ R (c.same Q) s d;have h:z.2.stream.toNat=k:=by rw[F.st];simp
  have v:wg m z.2:=by
   refine⟨by obtain q|q:=F.kind;(·exact ψ (φ q));(·exact ψ (ψ q)),λe=>?_,λe=>?_,λe=>?_⟩
   obtain q|q:=F.kind<;>omega
   obtain⟨p,b,i,w,-⟩:=F.k4 e;rw[h];exact⟨by rw[F.st];omega,by rw[F.st];omega,b,by rw[i];exact((R.gv b).2.1).symm,w⟩
   rw[h];exact⟨by rw[F.st];omega,by rw[F.st];omega,(F.k5 e).2.2.2.1⟩
  have r:m.ep z.2={m with outs:=aB m.outs k {m.outs k with high:=dF H (m.outs k).high [z]}}:=by
   unfold ah.ep dF nP;obtain q|q:=F.kind
   rw[ê,ê];have:=(F.k4 q).1;have a:H.sG=ρ:=this;rw[aH a];show m={m with outs:=aB m.outs k (m.outs k)}
   rw[sq];rw[ê,aH q,h];have a:H.sG=θ:=(F.k5 q).1;rw[aE (by rw[a];simp)];unfold dH.qP;rw[(F.k5 q).2.2.1];simp only[pd,List.foldl_nil]
  have l:((m.ep z.2).outs k)={m.outs k with high:=dF H (m.outs k).high [z]}:=by rw[r];simp only[bN]
  have n:((m.ep z.2).outs k).high=dF H (m.outs k).high [z]:=by rw[l]
  have R2:ia {H with ay:=((m.ep z.2).outs k).high} ((m.ep z.2).outs k):=by
   rw[n,l];have K:(m.outs k).high<=dF H (m.outs k).high [z]/\dF H (m.outs k).high [z]<=(m.outs k).data.size:=by
    have M:=R.hs;unfold dF nP;obtain q|q:=F.kind
    rw[aH (show H.sG=ρ from(F.k4 q).1)];omega;have a:H.sG=θ:=(F.k5 q).1;rw[aE (by rw[a];simp)];have:=(F.k5 q).2.2.2.1.en;rw[(F.k5 q).2.2.1]at this;simp only[pd,List.foldl_nil]
    omega
   refine⟨R.af,R.ck,R.fr,R.sg,R.se,Q,λe=>?_,R.mD,R.sz,R.sO,by have:=R.hs;show 0<=dF H (m.outs k).high [z]/\dF H (m.outs k).high [z]<=((m.outs k).data.size:Int);omega,R.cb⟩
   have e2:(m.outs k).given=ρ:=e;obtain⟨p,b,i⟩:=R.gv e2;refine⟨p,?_,i⟩
   show(m.outs k).end_=dF H (m.outs k).high [z];have x:H.sG=ρ:=R.sg.trans e2;unfold dF;rw[aH x];exact b
  obtain⟨A,B⟩:=t (m.ep z.2) R2 c d (λe=>by rw[n];unfold dF;rw[aH e];exact hs e) (λy C=>f y (by simp[C]));refine⟨?_,λj g=>?_⟩
  rw[kD,pd,A,n,AS,l,r];simp only[List.singleton_append,xZ]
  cases j with
  |zero=>exact v
  |succ j=>
   rw[kD,List.take_succ_cons,pd];exact B j (by simpa using g)
def SP(b:u.ok)(g:cT u)(h:(u.ranges.length:Int)<=4611686018427387903):∀x∈cH u,W8 x:=by
 let⟨⟨b1,b2,k,l⟩,⟨i,m⟩,n,p⟩:=g
 have c:cR u.offset:=⟨b.2.2.1.1,b1⟩
 have e:cR u.code:=⟨b.2.2.2.1.1,b2⟩
 have f:cR u.stream:=by unfold cR;omega
 intro x a;unfold cH at a;split at a;rw[eE.1 a];unfold W8;omega;split at a;rw[eE.1 a];unfold W8;omega;split at a;rename_i j;obtain rfl|a:=iD.1 a
 unfold W8;omega;unfold fS at a;have d:=i j;obtain a|a:=b9.1 a
 exact HQ b.2.2.2.2 d h x a;exact BQ b.2.2.2.2 d _ (by have:=d.1;omega) x a;split at a;obtain rfl|a:=iD.1 a
 unfold W8;omega;obtain a|a:=b9.1 a
 obtain a|a:=b9.1 a
 exact ou f x a;exact ou e x a;exact ou c x a;split at a;rename_i q;obtain rfl|a:=iD.1 a
 unfold W8;split<;>omega;obtain a|a:=b9.1 a
 obtain a|a:=b9.1 a
 obtain a|a:=b9.1 a
 exact ou f x a;exact ou c x a;refine ou ?_ x a;have:=c.1;unfold cR;omega;exact qw _ x a;obtain rfl|a:=iD.1 a
 unfold W8;omega;exact ou e x a
def By:∀{fs:List Fr},(∀f∈fs,f.ok/\cT f/\(f.ranges.length:Int)<=4611686018427387903)->∀x∈bE fs,W8 x:=by
 intro fs;induction fs with
 |nil=>intro _ x a;cases a
 |cons f fs b=>
  intro h x a;have e2:bE (f::fs)=cH f++bE fs:=rfl;rw[e2]at a;obtain a|a:=b9.1 a
  exact SP (h f Γ).1 (h f Γ).2.1 (h f Γ).2.2 x a;simp_all
def SQ:∀fs:List Fr,(∀f∈fs,f.ranges=[]/\(f.kind=4\/f.kind=5)/\iU f=f)->fh fs<=26*(bE fs).length:=by
 intro fs;induction fs with
 |nil=>intro _;simp[fh]
 |cons f fs a=>
  intro h;let⟨b,c,d⟩:=h f Γ
  have i:=a (λg j=>h g (by simp[j]));have e:fh (f::fs)=kX f+fh fs:=rfl;have e2:bE (f::fs)=cH f++bE fs:=rfl;rw[e,e2,bS];have k:kX f<=26*(cH f).length:=by
   unfold kX cH;rw[b];obtain q|q:=c
   rw[ê,ê,ê,aH q];have hd:f.data.size=0:=by
    rw[<-d];unfold iU;rw[ê,ê,ê,aH q];rfl
   grind;rw[ê,ê,ê,ê,aH q];simp only[eJ,dY,bS,iE]
   omega
  omega
def SR(h:dU d f n)(hA:∀k,k<4->im (d.out k))(ak:∀k,k<4->0<=(d.out k).code/\(d.out k).code<=4611686018427387903)(br:64<=d.az/\d.az<=300)(bt:0<=d.count/\d.count<=90000000)(hn:n<=100000)(s:k<4){L:Told}(al:L≠[])(bw:((bE (L.map (·.2))).length:Int)<=d.az-16)(M:∀z∈L,nO (d.out k) k z.1 z.2)(tick:Int):
 uy f (strOfNums (dC d.key (bf d.first) d.count (bE (L.map (·.2))))) (L.map (·.2))/\dU {d with count:=d.count+1,aO:=d.aO++[⟨d.count,tick,k,L.map (·.1)⟩],out:=aB d.out k {d.out k with ay:=dF (d.out k) (d.out k).ay L}} (f.lZ (L.map (·.2))) n:=by
 have C:=h.c;have R:=C.out k s;obtain⟨d1,-,d3⟩:=C.bf;have bx:=C.next;have bz:=C.az;have hF:∀z∈L,Bw (d.out k) (f.outs k) k z.1 z.2:=λz a=>(M z a).GQ R (hA k s) s (ak k s)
 obtain⟨fs,bA⟩:=í (L.map (·.2));have fj:=h.sl;have bM:=h.dl;let⟨q1,P⟩:=SO s L {f with next:=f.next+1} (H:=d.out k) (by show ia _ _;rw[<-R.ay];exact R) (hA k s) (ak k s) (λ_=>R.ay.symm) M
 have ao:uw f (strOfNums (dC d.key (bf d.first) d.count (bE (L.map (·.2))))) (L.map (·.2)):=by
  rw[<-d1,<-C.key,<-C.next];refine Bv (λl i=>?_) (by simpa using al) ?_ (By (λl i=>?_)) O O O d3 ?_;obtain⟨z,a,rfl⟩:=fu.1 i;exact(hF z a).ok;rw[rZ];apply wN;intro z a;exact(hF z a).nf;obtain⟨z,a,rfl⟩:=fu.1 i;exact(hF z a).ok;have:=SQ (L.map (·.2)) (λl i=>by obtain⟨z,a,rfl⟩:=fu.1 i;exact⟨(hF z a).rg,(hF z a).kind,(hF z a).nf⟩);omega
 refine⟨⟨ao,λj t=>?_,O,O⟩,?_⟩
 rw[fF]at t;exact P j t;have em:f.lZ (L.map (·.2))={f with next:=f.next+1,outs:=aB f.outs k {f.outs k with high:=dF (d.out k) (f.outs k).high L},ay:=f.ay++[(f.next,L.map (·.2))]}:=by
  unfold ah.lZ;rw[q1]
 rw[em];obtain⟨S,w⟩:=í (dF (d.out k) (f.outs k).high L);have ax:dF (d.out k) (d.out k).ay L=S:=by rw[w,R.ay]
 rw[ax,<-w];have b3:(f.outs k).high<=S/\S<=(f.outs k).data.size:=by
  rw[w];unfold dF;have aa:=R.hs;split;omega;unfold nP;have a0:∀(u:Told),(∀z∈u,Bw (d.out k) (f.outs k) k z.1 z.2)->(d.out k).sG=θ->∀x,x<=((f.outs k).data.size:Int)->x<=u.foldl (λf y=>max f y.1.x.hi) x/\u.foldl (λf y=>max f y.1.x.hi) x<=((f.outs k).data.size:Int):=λu=>by
   induction u with
   |nil=>intro _ _ x g;exact⟨fv _,g⟩
   |cons z u ih=>
    intro hQ A x g;have a:=hQ z Γ;have r:z.2.kind=5:=by
     obtain q|q:=a.kind
     have:=(a.k4 q).1;rw[A]at this;cases this;exact q
    have T:=(a.k5 r).2.2.2.1.en;rw[(a.k5 r).2.2.1]at T;let⟨i1,i2⟩:=ih (λy hy=>hQ y (by simp[hy])) A (max x z.1.x.hi) O
    rw[pd];exact⟨O,i2⟩
  rename_i A;exact a0 L hF (by simpa using A) _ aa.2
 have a2:(f.outs k).given=ρ->S=(f.outs k).high:=λe=>by
  rw[w];unfold dF;rw[aH (R.sg.trans e)]
 refine⟨⟨C.az,C.av,C.key,C.me,C.cl,C.said,by show f.next+1=d.count+1;omega,λj t=>?_,C.aF,C.mK,⟨λx g l i j t b ht=>?_,λp hp q v b B H=>?_,λx g l i r h0=>?_,λx g l i=>?_,λp hp q v=>?_⟩⟩,h.aX,h.aU,h.due,h.dl,h.rd,?_⟩
 by_cases e:j=k;subst e;show ia (aB d.out j _ j) (aB f.outs j _ j);rw[bN,bN];refine⟨R.af,R.ck,R.fr,R.sg,R.se,Q,λe=>?_,R.mD,R.sz,R.sO,?_,R.cb⟩
 have e2:(f.outs j).given=ρ:=e;let⟨a1,K,a3⟩:=R.gv e2
 exact⟨a1,by show(f.outs j).end_=S;rw[a2 e2];exact K,a3⟩
 have:=R.hs;show 0<=S/\S<=((f.outs j).data.size:Int);omega;show ia (aB d.out k _ j) (aB f.outs k _ j);rw[bI _ _ e,bI _ _ e];exact C.out j t;have a9:(aB d.out k {d.out k with ay:=S} j).h.af=(d.out j).h.af:=by
  by_cases e:j=k;subst e;rw[bN];rw[bI _ _ e]
 rw[a9];obtain g|g:=b9.1 g
 obtain q|⟨p,hp,q⟩:=C.fl.told x g l i j t b ht
 exact φ q;refine ψ ⟨p,?_,q⟩;obtain hp|hp:=b9.1 hp
 exact jK _ (jK _ hp);exact kB _ hp;rw[eE.1 g]at i⊢;obtain⟨z,a,rfl⟩:=fu.1 i;have F:=hF z a;let⟨t1,t2,t3,t4,t5⟩:=ht
 have bb:k=j:=by rw[F.st]at t3;simpa using t3
 subst bb;refine ψ ⟨⟨d.count,tick,k,_⟩,jK _ (kB _ Γ),by show d.count=f.next;omega,Γ,z.1,qq a,?_⟩;have m:=F.k5 t1;rw[m.2.1]at t4;rw[m.2.2.1]at t5;exact⟨t4,t5⟩
 have V:p∈d.aO++d.lost\/p=⟨d.count,tick,k,L.map (·.1)⟩:=by
  obtain hp|hp:=b9.1 hp
  obtain hp|hp:=b9.1 hp
  exact φ (jK _ hp);exact ψ (eE.1 hp);exact φ (kB _ hp)
 obtain hp|rfl:=V
 let⟨x,g,P⟩:=C.fl.back p hp q v b B H
 exact⟨x,jK _ g,P⟩
 obtain⟨z,a,rfl⟩:=fu.1 v;have F:=hF z a;have r:z.2.kind=5:=by
  obtain q|q:=F.kind
  have:=(F.k4 q).2.2.2.2;rw[this]at B H;simp only at B H;omega;exact q
 have m:=F.k5 r;refine⟨(f.next,L.map _),kB _ Γ,by show f.next=d.count;omega,_,qq a,r,?_,by rw[F.st],?_,?_⟩
 have e1:=m.2.1;have e2:=m.2.2.1;unfold bm at e2;omega;rw[m.2.1];exact B;rw[m.2.2.1];exact H;have bj:(aB f.outs k {f.outs k with high:=S} l.stream.toNat).data=(f.outs l.stream.toNat).data:=by
  by_cases e:l.stream.toNat=k;rw[e,bN];rw[bI _ _ e]
 rw[bj];obtain g|g:=b9.1 g
 exact C.fl.fz x g l i r h0;rw[eE.1 g]at i;obtain⟨z,a,rfl⟩:=fu.1 i;have F:=hF z a;rw[F.st];exact(F.k5 r).2.2.2.1.en;obtain g|g:=b9.1 g
 exact C.fl.ma x g l i;rw[eE.1 g]at i;obtain⟨z,a,rfl⟩:=fu.1 i;have F:=hF z a;intro r h0;have m:=F.k5 r;have T:=m.2.2.1;unfold bm at T;rw[F.st,m.2.1];exact⟨O,O,m.2.2.2.2.1,O⟩
 have V:p∈d.aO++d.lost\/p=⟨d.count,tick,k,L.map (·.1)⟩:=by
  obtain hp|hp:=b9.1 hp
  obtain hp|hp:=b9.1 hp
  exact φ (jK _ hp);exact ψ (eE.1 hp);exact φ (kB _ hp)
 obtain hp|rfl:=V
 exact(C.fl.eg p hp q v).mono (λx g=>jK _ g) (λ_ _ e=>e);obtain⟨z,a,rfl⟩:=fu.1 v;have mem:(f.next,L.map (·.2))∈f.ay++[(f.next,L.map (·.2))]:=kB _ Γ;have W:f.next=d.count:=O;have ai:z.2∈L.map (·.2):=qq a;obtain⟨-,K,-,a4⟩|⟨-,K,-,-,-,-,-,a8⟩:=M z a
 refine⟨λ_=>⟨_,mem,W,_,ai,?_⟩,λ_=>⟨_,mem,W,_,ai,?_⟩⟩
 rw[a4];exact⟨Γ,φ Q⟩
 rw[a4];exact⟨Γ,Q⟩
 refine⟨λe=>⟨_,mem,W,_,ai,?_⟩,λe=>?_⟩
 rw[a8];exact⟨Γ,ψ ⟨Q,e⟩⟩
 rw[K]at e;cases e;show((f.ay++[(f.next,L.map (·.2))]).length:Int)<=f.next+1;rw[bS];simp only[wK]
 omega
def oQ:ah->List (List Int)->List (List Fr)->Prop
 |_,[],[]=>True
 |m,p::ps,f::fs=>uy m (strOfNums p) f/\oQ (m.lZ f) ps fs
 |_,_,_=>False
def oQ.app:∀{ps:List (List Int)}{fs:List (List Fr)}{m:ah}{b:List (List Int)}{c:List (List Fr)},oQ m ps fs->oQ (m.gN fs) b c->oQ m (ps++b) (fs++c):=by
 intro ps;induction ps with
 |nil=>
  intro fs m b c a d;cases fs with
  |nil=>exact d
  |cons f fs=>exact a.elim
 |cons p ps e=>
  intro fs m b c a d;cases fs with
  |nil=>exact a.elim
  |cons f fs=>exact⟨a.1,e a.2 d⟩
def GR(m:ah)(a b:List (List Fr)):m.gN (a++b)=(m.gN a).gN b:=by unfold ah.gN;rw[wU]
def oQ.each:∀{ps:List (List Int)}{fs:List (List Fr)}{m:ah},oQ m ps fs->fs.length=ps.length/\∀j,j<ps.length->uy (m.gN (fs.take j)) (uz (ps.map strOfNums) j) (fs.getD j []):=by
 intro ps;induction ps with
 |nil=>
  intro fs m h;cases fs with
  |nil=>exact⟨Q,λj a=>by simp at a⟩
  |cons f fs=>exact h.elim
 |cons p ps b=>
  intro fs m h;cases fs with
  |nil=>exact h.elim
  |cons f fs=>
   let⟨c,d⟩:=b h.2
   refine⟨by simp[c],λj a=>?_⟩
   cases j with
   |zero=>exact h.1
   |succ j=>exact d j (by grind)
structure GS(s:Sd)(n:Nat)(a:Int):Prop where
 arr:∀k,k<4->im (s.out k)
 code:∀k,k<4->0<=(s.out k).code/\(s.out k).code<=4611686018427387903
 az:64<=s.az/\s.az<=300
 aQ:0<=s.count/\s.count+a<=90000000
def SS(r:n<=100000)(t:k<4)(tick:Int):∀(a:List Told)(s:Sd)(m:ah),dU s m n->GS s n a.length->(∀L∈a,L≠[]/\((bE (L.map (·.2))).length:Int)<=s.az-16/\∀z∈L,nO (s.out k) k z.1 z.2)->
 oQ m (km s.key (bf s.first) s.count (a.map (·.map (·.2)))) (a.map (·.map (·.2)))/\
 dU {s with out:=aB s.out k {s.out k with ay:=dF (s.out k) (s.out k).ay a.flatten},aO:=s.aO++nQ tick k s.count (a.map (·.map (·.1))),count:=s.count+a.length} (m.gN (a.map (·.map (·.2)))) n:=by
 intro a;induction a with
 |nil=>
  intro s m h b g;refine⟨trivial,?_⟩
  have e1:dF (s.out k) (s.out k).ay ([]:List Told).flatten=(s.out k).ay:=by unfold dF nP;simp
  rw[e1];show dU {s with out:=aB s.out k (s.out k),aO:=s.aO++[],count:=s.count+((0:Nat):Int)} m n;rw[sq,qY,show s.count+((0:Nat):Int)=s.count by omega];exact h
 |cons L a u=>
  intro s m h b g;let⟨v,w,x⟩:=g L Γ
  have i:=b.aQ;simp only[dY]at i;push_cast at i;let⟨y,p2⟩:=SR h b.arr b.code b.az ⟨i.1,O⟩ r t v w x tick
  obtain⟨s1,c⟩:∃s1:Sd,s1={s with count:=s.count+1,aO:=s.aO++[(⟨s.count,tick,k,L.map (·.1)⟩:Pk)],out:=aB s.out k {s.out k with ay:=dF (s.out k) (s.out k).ay L}}:=⟨_,rfl⟩
  rw[<-c]at p2;have f:s1.out k={s.out k with ay:=dF (s.out k) (s.out k).ay L}:=by rw[c];simp only[bN]
  have l:∀j,j≠k->s1.out j=s.out j:=λj d=>by rw[c];simp only[bI _ _ d]
  have A:GS s1 n a.length:=by
   refine⟨λj d=>?_,λj d=>?_,by rw[c];exact b.az,by rw[c];show 0<=s.count+1/\s.count+1+_<=_;omega⟩
   by_cases e:j=k;subst e;rw[f];exact(b.arr j d).same Q;rw[l j e];exact b.arr j d;by_cases e:j=k;subst e;rw[f];exact b.code j d;rw[l j e];exact b.code j d
  let⟨p,q⟩:=u s1 (m.lZ (L.map (·.2))) p2 A (λM B=>by
   let⟨C,F,H⟩:=g M (by simp[B])
   refine⟨C,by rw[c];exact F,λz K=>?_⟩
   rw[f];exact(H z K).with _ (λe=>by unfold dF;rw[aH e]))
  have P:s1.key=s.key:=by rw[c]
  have R:s1.first=s.first:=by rw[c]
  have k3:s1.count=s.count+1:=by rw[c]
  rw[P,R,k3]at p;refine⟨⟨y,p⟩,?_⟩
  have S:dF (s1.out k) (s1.out k).ay a.flatten=dF (s.out k) (s.out k).ay (L::a).flatten:=by
   rw[f,List.flatten_cons,<-AS];rfl
  have T:({s1 with out:=aB s1.out k {s1.out k with ay:=dF (s1.out k) (s1.out k).ay a.flatten},aO:=s1.aO++nQ tick k s1.count (a.map (·.map (·.1))),count:=s1.count+a.length}:Sd)={s with out:=aB s.out k {s.out k with ay:=dF (s.out k) (s.out k).ay (L::a).flatten},aO:=s.aO++nQ tick k s.count ((L::a).map (·.map (·.1))),count:=s.count+(L::a).length}:=by
   rw[S,f,k3];rw[c];simp only[xZ,dY,kD,eF]
   congr 1;push_cast;omega
  rw[T]at q;exact q
def SU(h:dU d f n)(hs:cJ d i)(j:n<=100000)(c:i<=100001)(m:d.count+10<=100*i)(hl:d.lost.length+d.aO.length+10<=100*i)(b:k<4):
 ∃e,oQ f (d.pieces k).l e/\dU (d.pieces k).s (f.gN e) n:=by
 obtain⟨-,g,a,q⟩:=FG hs c m hl k b;obtain⟨R,-⟩:=AT hs c k b;have p:=hs.aQ;let⟨r,s⟩:=SS j b d.tick g d f h ⟨hs.out,hs.code,hs.az,⟨p.1,O⟩⟩ a.fr
 refine⟨g.map (·.map (·.2)),?_,?_⟩
 have:=a.l;grind;have eq:=R.eq;rw[a.ay,a.aO,a.count]at eq;grind
structure GU(m:ah)(az:Int)(c:List Rg):Prop where
 ue:gP c
 len:((bE [cB c]).length:Int)<=az-16
 l8:c.length<=100
 each:∀r∈c,0<=r.lo/\r.lo<=r.hi/\r.hi<=4611686018427387903/\mI m.aU.l r=ρ
def SV(hn:n<=100000):∀(C:List (List Rg))(s:Sd)(m:ah),dU s m n->(64<=s.az/\s.az<=300)->(0<=s.count/\s.count+C.length<=90000000)->(∀c∈C,GU m s.az c)->
 oQ m (km s.key (bf s.first) s.count (C.map λc=>[cB c])) (C.map λc=>[cB c])/\dU {s with count:=s.count+C.length} (m.gN (C.map λc=>[cB c])) n/\(∀d∈(m.gN (C.map λc=>[cB c])).due,d∈m.due/\∀c∈C,m.told c d=θ):=by
 intro C;induction C with
 |nil=>
  intro s m h B u v;refine⟨trivial,?_,λd hd=>⟨hd,λc u=>(by cases u)⟩⟩
  show dU {s with count:=s.count+((0:Nat):Int)} m n;simp_all
 |cons c C M=>
  intro s m h B u v;have a:=h.c;obtain⟨d1,-,d3⟩:=a.bf;have bw:=a.next;have bx:=a.az;have bz:=h.dl;have fj:=h.sl;have l:=v c Γ;have F:=u;simp only[dY]at F;push_cast at F;have P:cT (cB c):=⟨⟨by simp[cB],by simp[cB],by simp[cB],by simp[cB]⟩,⟨λ_=>l.ue,λe=>(by simp[cB]at e)⟩,by simp[cB],by simp[cB]⟩
  have R:(cB c).ok:=by
   refine⟨by simp[cB,ie],by simp[cB,ie],by simp[cB,aZ],by simp[cB,aZ],λr w=>?_⟩
   have:=l.each r w;unfold Rg.ok aZ;omega
  have S:((cB c).ranges.length:Int)<=4611686018427387903:=by
   have:=l.l8;show(c.length:Int)<=_;omega
  have H:∀f∈[cB c],f.ok/\cT f/\(f.ranges.length:Int)<=4611686018427387903:=λf i=>by
   rw[eE.1 i];exact⟨R,P,S⟩
  have hl:=l.len;have T:uw m (strOfNums (dC s.key (bf s.first) s.count (bE [cB c]))) [cB c]:=by
   rw[<-d1,<-a.key,<-a.next];refine Bv H Γ ?_ (By H) O O O d3 ?_;show[iU (cB c)]=[cB c];rfl;have:=l.l8;show kX (cB c)+0<=30000000;unfold kX;show 25+16*c.length+0+0<=30000000;omega
  have V:wg {m with next:=m.next+1} (cB c):=⟨φ rfl,λ_ r w=>(l.each r w).2.2.2,λe=>(by simp[cB]at e),λe=>(by simp[cB]at e)⟩
  have W:uy m (strOfNums (dC s.key (bf s.first) s.count (bE [cB c]))) [cB c]:=by
   refine⟨T,λj hj=>?_,O,O⟩
   have ak:j=0:=by simpa using hj
   subst ak;exact V
  have em:m.lZ [cB c]={m with next:=m.next+1,due:=m.due.filter (λd=> !m.told c d),ay:=m.ay++[(m.next,[cB c])]}:=rfl;have y:∀x∈m.ay++[(m.next,[cB c])],∀f∈x.2,(x∈m.ay)\/f.kind=3:=λx g f i=>by
   obtain g|g:=b9.1 g
   exact φ g;rw[eE.1 g]at i;rw[eE.1 i];exact ψ Q
  have h1:dU {s with count:=s.count+1} (m.lZ [cB c]) n:=by
   rw[em];refine⟨⟨a.az,a.av,a.key,a.me,a.cl,a.said,by show m.next+1=s.count+1;omega,a.out,a.aF,a.mK,⟨λx g f i k hk b K=>?_,λp hp q z b a0 a1=>?_,λx g f i L h0=>?_,λx g f i=>?_,λp hp q z=>(a.fl.eg p hp q z).mono (λx g=>jK _ g) (λ_ _ e=>e)⟩⟩,h.aX,h.aU,λd hd=>h.due d (jV.1 hd).1,?_,h.rd,?_⟩
   obtain q|q:=y x g f i
   exact a.fl.told x q f i k hk b K;have:=K.1;omega;let⟨x,g,q2⟩:=a.fl.back p hp q z b a0 a1
   exact⟨x,jK _ g,q2⟩
   obtain q|q:=y x g f i
   exact a.fl.fz x q f i L h0;omega;obtain q|q:=y x g f i
   exact a.fl.ma x q f i;intro L;omega;exact bG (wL _ _) h.dl;show((m.ay++[(m.next,[cB c])]).length:Int)<=m.next+1;rw[bS];simp only[wK]
   omega
  let⟨i1,i2,i3⟩:=M {s with count:=s.count+1} (m.lZ [cB c]) h1 B ⟨by show 0<=s.count+1;omega,by show s.count+1+_<=_;omega⟩ (λe t=>by
   have:=v e (by simp[t]);exact⟨this.ue,this.len,this.l8,this.each⟩)
  refine⟨⟨W,i1⟩,?_,λd hd=>?_⟩
  have eS:({s with count:=s.count+(((c::C).length:Nat):Int)}:Sd)={s with count:=s.count+1+C.length}:=by
   simp only[dY]
   congr 1;push_cast;omega
  rw[eS];exact i2;let⟨A,j2⟩:=i3 d hd
  have A:d∈m.due.filter (λd=> !m.told c d):=A;let⟨j3,j4⟩:=jV.1 A
  refine⟨j3,λe t=>?_⟩
  obtain rfl|t:=iD.1 t
  simpa using j4;exact j2 e t
def GV{r:Rg}:∀j,j<=s.length->(r∈ir s j↔∃i,s.length-j<=i/\i<s.length/\r=⟨(an s i).lo,(an s i).hi-1⟩):=by
 intro j;induction j with
 |zero=>intro _;simp[ir];omega
 |succ j a=>
  intro b;rw[show ir s (j+1)=ir s j++[⟨(an s (s.length-1-j)).lo,(an s (s.length-1-j)).hi-1⟩]from Q,b9,a O,eE];grind
def SW(h:dU d f n)(hs:cJ d k)(A:n<=100000)(B:d.count+10<=100*k)(ak:k<=100001):
 ∃v,oQ f d.gZ.l v/\dU d.gZ.s (f.gN v) n/\∀g∈(f.gN v).due,g<d.floor:=by
 obtain⟨-,C,j,al⟩:=FH hs B;have F:=hs.aQ;have ao:=h.c;have H:∀c∈C,GU f d.az c:=λc m=>by
  let⟨f1,f2⟩:=j.fr c m
  have y:d.eY=ρ:=by
   cases K:d.eY;rw[j.no K]at m;cases m;rfl
  have L:∀r∈c,∃i,i<d.af.length/\r=⟨(an d.af i).lo,(an d.af i).hi-1⟩:=λr p=>by
   have:r∈C.flatten:=List.mem_flatten.2 ⟨c,m,p⟩;rw[j.all y]at this;obtain⟨i,-,u,s⟩:=(GV _ (aP _)).1 this;grind
  refine⟨f1,f2,?_,λr p=>?_⟩
  have t:c.length<=C.flatten.length:=by
   obtain⟨a,b,rfl⟩:=List.append_of_mem m;simp;omega
  rw[j.all y,ng]at t;have:=hs.c8;omega;obtain⟨i,hi,rfl⟩:=L r p;have w:=lL hi;have t:=hs.cr _ w;have u:=hs.np.2 _ w;refine⟨t.1,by simp only;omega,by simp only;omega,?_⟩
  have s:=(H5 (x:=an _ i) h.aU.ok u).2 (λb M P=>h.aU.all b ⟨_,w,M,P⟩);let⟨q,R,S,T⟩:=s
  obtain⟨q',ax,rfl⟩:=fu.1 R;simp only[dj]at S T;unfold mI;grind
 let⟨V,e,W⟩:=SV A C d f h hs.az ⟨F.1,O⟩ H
 have z:∀g∈(f.gN (C.map λc=>[cB c])).due,g<d.floor:=λg hd=>by
  let⟨a1,a2⟩:=W g hd
  obtain q|⟨q1,q2⟩:=h.due g a1
  exact q;exfalso;let⟨r,p,t,u⟩:=q1
  obtain⟨i,hi,rfl⟩:=ko.1 p;have er:d.af[i]=an d.af i:=by simp[an,List.getD,hi]
  rw[er]at t u;have aa:(⟨(an d.af i).lo,(an d.af i).hi-1⟩:Rg)∈C.flatten:=by
   rw[j.all q2];exact(GV _ (aP _)).2 ⟨i,O,hi,Q⟩
  let⟨c,m,ai⟩:=List.mem_flatten.1 aa
  have:=a2 c m;unfold ah.told at this;rw[uL]at this;have s:bK c g=ρ:=by
   unfold bK;refine tu.2 ⟨_,ai,?_⟩;simp only[uP,wP]
   omega
  rw[this.2]at s;cases s
 refine⟨_,by rw[j.l];exact V,?_,z⟩
 rw[j.st];exact⟨⟨e.c.az,e.c.av,e.c.key,e.c.me,e.c.cl,e.c.said,e.c.next,e.c.out,e.c.aF,e.c.mK,⟨e.c.fl.told,e.c.fl.back,e.c.fl.fz,e.c.fl.ma,e.c.fl.eg⟩⟩,e.aX,e.aU,λg hd=>φ (z g hd),e.dl,e.rd,e.sl⟩
def SX(m:ah)(fs:List Fr):∀d∈(m.lZ fs).due,d∈m.due:=by
 have a:∀(m:ah)(f:Fr),∀d∈(m.ep f).due,d∈m.due:=λm f d hd=>by
  unfold ah.ep at hd;split at hd;exact(jV.1 hd).1;grind
 have b:∀(q:List Fr)(m:ah),∀d∈(q.foldl ah.ep m).due,d∈m.due:=λq=>by
  induction q with
  |nil=>intro m d hd;exact hd
  |cons f q c=>intro m d hd;exact a m f d (c _ d hd)
 exact λd hd=>b fs {m with next:=m.next+1} d hd
def SY:∀(a:List (List Fr))(m:ah),(m.gN a).aX=m.aX:=by
 intro a;induction a with
 |nil=>intro m;rfl
 |cons f a b=>
  intro m;show((m.lZ f).gN a).aX=m.aX;rw[b];exact(Bm f {m with next:=m.next+1}).2.2.2.1
def SZ:∀(a:List (List Fr))(m:ah),∀d∈(m.gN a).due,d∈m.due:=by
 intro a;induction a with
 |nil=>intro m d hd;exact hd
 |cons f a b=>intro m d hd;exact SX m f d (b _ d hd)
def S0(h:dU d f n)(hs:cJ d n)(c:n<=100000):∀k,k<=4->∃a,oQ f (di d k).2 a/\dU (di d k).1 (f.gN a) n/\∀b∈(f.gN a).due,b<d.floor:=by
 intro k;induction k with
 |zero=>
  intro _;have p:=hs.aQ;exact SW h (hs.mono (dw n)) c O O
 |succ k g=>
  intro q;obtain⟨a,e1,e2,i⟩:=g O;obtain⟨j,r,s,-,-,-⟩:=FI hs c k O;obtain⟨e,l,m⟩:=SU e2 j c O O O (k:=k) O;refine⟨a++e,e1.app l,?_,λb hd=>?_⟩
  rw[GR];exact m;rw[GR]at hd;exact i b (SZ e _ b hd)
def S8(h:dU d f n)(hs:cJ d n)(e:n<=100000):
 ∃a,Gz f (d.fW.2.map strOfNums) a/\dU d.fW.1 {f.gN a with due:=[]} n:=by
 obtain⟨a,e1,e2,l⟩:=S0 h hs e 4 (aP _);obtain⟨g,i⟩:=e1.each;refine⟨a,⟨by rw[fF];exact g,λj b=>i j (by rw[fF]at b;exact b),λk hd=>?_,h.c.cl⟩,?_⟩
 rw[SY,h.aX.fl];grind;exact⟨e2.c.due [],e2.aX,e2.aU,λk hd=>(by cases hd),mP _,e2.rd,e2.sl⟩
noncomputable def ah.ask(m:ah)(q:iy):Rs×ah:=
 if q.op=1 then(⟨(m.write q.stream q.data).2.1,-1,(m.write q.stream q.data).1,0,[],[]⟩,(m.write q.stream q.data).2.2)
 else if q.op=2 then(⟨(m.finish q.stream).1,-1,0,0,[],[]⟩,(m.finish q.stream).2)
 else if q.op=3 then(⟨(m.giveUp q.stream q.code).1,-1,0,0,[],[]⟩,(m.giveUp q.stream q.code).2)
 else if q.op=6 then(⟨(m.jI (bl q.data)).1,(m.jI (bl q.data)).2.1,0,0,[],[]⟩,(m.jI (bl q.data)).2.2)
 else if q.op=7 then(⟨(m.read q.stream q.n).2.2.2.1,-1,(m.read q.stream q.n).2.1,(m.read q.stream q.n).2.2.1,(m.read q.stream q.n).1,[]⟩,(m.read q.stream q.n).2.2.2.2)
 else if q.op=8 then(⟨(m.close q.code).1,-1,0,0,[],[]⟩,(m.close q.code).2)
 else if q.op=9 then(⟨(m.af q.stream).2,-1,(m.af q.stream).1,0,[],[]⟩,m)
 else(⟨0,-1,0,0,[],[]⟩,m)
def Rel.mono{st:bg}(h:Rel st f n)(a:n<=k):Rel st f k:=by
 cases st with
 |bh s=>exact dU.mono h a
 |shut aI l=>exact h
def wj(h:f.closed≠0)(k:Int):f.of k=9:=by unfold ah.of;rw[aH h]
def S9{l:List (List Int)}(h:uB p l f)(q:iy)(d:q.op≠5):(f.ask q).1=(bg.do (.shut p l) q).1/\(f.ask q).2=f/\(bg.do (.shut p l) q).2=.shut p l:=by
 have c:f.closed≠0:=by rw[h.cl];exact h.w0
 have a:=wj c q.stream;have e:f.write q.stream q.data=(0,9,f):=by unfold ah.write;rw[aH (by rw[a];simp),a]
 have g:f.finish q.stream=(9,f):=by unfold ah.finish;rw[aH (by rw[a];simp),a]
 have i:f.giveUp q.stream q.code=(9,f):=by unfold ah.giveUp;rw[aH (by rw[a];simp),a]
 have j:f.jI (bl q.data)=(9,-1,f):=by unfold ah.jI;rw[aH c]
 have hd:f.read q.stream q.n=([],0,0,9,f):=by unfold ah.read;rw[aH (by rw[a];simp),a]
 have k:f.close q.code=(9,f):=by unfold ah.close;rw[aH c]
 have m:f.af q.stream=(0,9):=by unfold ah.af;rw[aH (by rw[a];simp),a]
 unfold ah.ask bg.do;rw[e,g,i,j,hd,k,m];by_cases c1:q.op=1;rw[aH c1,aH c1];exact⟨Q,Q,Q⟩
 rw[aE c1,aE c1];by_cases c2:q.op=2;rw[aH c2,aH c2];exact⟨Q,Q,Q⟩
 rw[aE c2,aE c2];by_cases c3:q.op=3;rw[aH c3,aH c3];exact⟨Q,Q,Q⟩
 rw[aE c3,aE c3];by_cases c4:q.op=4;rw[aH c4,ê,ê,ê,ê];exact⟨Q,Q,Q⟩
 rw[aE c4,aE d];by_cases c6:q.op=6;rw[aH c6,aH c6];exact⟨Q,Q,Q⟩
 rw[aE c6,aE c6];by_cases c7:q.op=7;rw[aH c7,aH c7];exact⟨Q,Q,Q⟩
 rw[aE c7,aE c7];by_cases c8:q.op=8;rw[aH c8,aH c8];exact⟨Q,Q,Q⟩
 rw[aE c8,aE c8];by_cases b:q.op=9;rw[aH b,aH b];exact⟨Q,Q,Q⟩
 rw[aE b,aE b];exact⟨Q,Q,Q⟩
def Ta{st:bg}(h:Rel st f n)(g:ix n st)(i:n<=90000)(q:iy)(j:aZ q.code)(e:q.op≠5):(f.ask q).1=(st.do q).1/\Rel (st.do q).2 (f.ask q).2 (n+1):=by
 cases st with
 |shut aI l=>
  let⟨e1,e2,k⟩:=S9 h q e
  rw[e2,k];exact⟨e1,h⟩
 |bh s=>
  have h:dU s f n:=h;have hs:cJ s n:=g;unfold ah.ask bg.do;by_cases c1:q.op=1;rw[aH c1,aH c1];let⟨a,b,c⟩:=So h hs q.stream q.data
  exact⟨by rw[a,b],c.mono O⟩
  rw[aE c1,aE c1];by_cases c2:q.op=2;rw[aH c2,aH c2];let⟨a,b⟩:=Sp h q.stream
  exact⟨by rw[a],b.mono O⟩
  rw[aE c2,aE c2];by_cases c3:q.op=3;rw[aH c3,aH c3];let⟨a,b⟩:=Sq h q.stream q.code
  exact⟨by rw[a],b.mono O⟩
  rw[aE c3,aE c3];by_cases c4:q.op=4;rw[aH c4,ê,ê,ê,ê];exact⟨Q,(Su h).mono O⟩
  rw[aE c4,aE e];by_cases c6:q.op=6;rw[aH c6,aH c6];let⟨a,b,c⟩:=Sn h hs i (qw q.data)
  exact⟨by show(⟨_,_,0,0,[],[]⟩:Rs)=⟨_,_,0,0,[],[]⟩;rw[a,b];rfl,c⟩
  rw[aE c6,aE c6];by_cases c7:q.op=7;rw[aH c7,aH c7];let⟨a,b,c,m,a5⟩:=Ss h hs q.stream q.n
  grind;rw[aE c7,aE c7];by_cases c8:q.op=8;rw[aH c8,aH c8];let⟨a,b⟩:=Sw h hs O _ j.1
  exact⟨by rw[a],b.mono O⟩
  rw[aE c8,aE c8];by_cases d:q.op=9;rw[aH d,aH d];exact⟨by rw[Sr h _],h.mono O⟩
  rw[aE d,aE d];exact⟨Q,h.mono O⟩
def Tb{l:List (List Int)}(h:uB p l f):Bp f (l.map strOfNums)/\uB p [] f.oP:=by
 cases a:f.said
 .have hl:=h.GI;rw[a]at hl;refine⟨ψ ⟨a,_,dD f.code,by rw[hl];rfl,?_,Q,Q⟩,?_⟩
  have g:=h.code;have c:∀b∈[dD f.code],b.ok/\cT b/\(b.ranges.length:Int)<=4611686018427387903:=λb i=>by
   rw[eE.1 i];refine⟨⟨by simp[dD,ie],by simp[dD,ie],by simp[dD,aZ],?_,λr j=>(by cases j)⟩,⟨⟨by simp[dD],g.2,by simp[dD],by simp[dD]⟩,⟨λe=>(by simp[dD]at e),λe=>(by simp[dD]at e)⟩,by simp[dD],by simp[dD]⟩,by simp[dD]⟩
   show aZ f.code;unfold aZ;omega
  have m:(bE [dD f.code]).length<=9:=by
   have e:bE [dD f.code]=28::aN f.code:=by simp[bE,cH,dD]
   rw[e,dY];have:=(eQ f.code).2;omega
  have k:=h.az;have d:=h.nx;apply Bv c Γ Q (By c) O k.2 O h.me;show 25+16*0+0+0<=30000000;omega;have d:=h.nx;have n:=d.2.2 a;have e:f.oP={f with said:=ρ,next:=f.next+1}:=by unfold ah.oP;rw[a];rfl
  rw[e];exact⟨h.cl,h.w0,Q,h.key,h.me,h.az,⟨by show 0<=f.next+1;omega,by show f.next+1<=_;omega,λq=>by cases q⟩,h.code⟩
 have hl:=h.GI;rw[a]at hl;refine⟨φ ⟨a,by rw[hl];rfl⟩,?_⟩
 have e:f.oP=f:=by unfold ah.oP;rw[a];rfl
 grind
def Tc(w:D)(mb:Nat)(l:cz)(s:ah)(B:Nat->Prop)(H:bV w mb l s B)(f:s.closed≠0)(k:Int)(d:ByteArray):
 Calls prog 40 #[π (E ⟨mb,0,N⟩),I X k,ς d] w λe g=>e=ξ (τ #[I X (s.write k d).1,I X (s.write k d).2.1])/\g=w:=by
 have b:=wj f k;have e:s.write k d=(0,9,s):=by unfold ah.write;rw[aH (by rw[b];simp),b]
 rw[e];have a:=oN w mb l s H.mc k;rw[b]at a;replace a:=J a;go_enter func40,ntmps40;go_wp2_with (apply(Z a).mono;rintro e h⟨rfl,c⟩;rw[c];clear c h);exact cC (v:=τ #[I X 0,I X 9]) (by simp[results,results40,go_sem]) Q ⟨Q,Q⟩
def Td(w:D)(mb:Nat)(l:cz)(s:ah)(B:Nat->Prop)(H:bV w mb l s B)(d:s.closed≠0)(k:Int):
 Calls prog 46 #[π (E ⟨mb,0,N⟩),I X k] w λe f=>e=ξ (τ #[I X (s.af k).1,I X (s.af k).2])/\f=w:=by
 have b:=wj d k;have e:s.af k=(0,9):=by unfold ah.af;rw[aH (by rw[b];simp),b]
 rw[e];have a:=oN w mb l s H.mc k;rw[b]at a;replace a:=J a;go_enter func46,ntmps46;go_wp2_with (apply(Z a).mono;rintro e g⟨rfl,c⟩;rw[c];clear c g);exact cC (v:=τ #[I X 0,I X 9]) (by simp[results,results46,go_sem]) Q ⟨Q,Q⟩
def Te(w:D)(mb:Nat)(l:cz)(s:ah)(B:Nat->Prop)(H:bV w mb l s B)(b:s.closed≠0)(a:Option Addr)(m c:Nat)(p:List Int):
 Calls prog 43 #[π (E ⟨mb,0,N⟩),Y a m c] w λe d=>e=ξ (τ #[I X (s.jI p).1,I X (s.jI p).2.1])/\d=w:=by
 have e:s.jI p=(9,-1,s):=by unfold ah.jI;rw[aH b]
 rw[e];have f:=H.mc.closed;go_enter func43,ntmps43;go_wp2_with fail;exact cC (v:=τ #[I X 9,I X (-1)]) (by simp[results,results43,go_sem]) Q ⟨Q,Q⟩
def Tf(w:D)(mb:Nat)(l:cz)(s:ah)(B:Nat->Prop)(H:bV w mb l s B)(d:s.closed≠0)(k aJ:Int):
 Calls prog 44 #[π (E ⟨mb,0,N⟩),I X k,I X aJ] w λe f=>e=ξ (τ #[ς (strOfNums (s.read k aJ).1),I X (s.read k aJ).2.1,I U (s.read k aJ).2.2.1,I X (s.read k aJ).2.2.2.1])/\f=w:=by
 have b:=wj d k;have e:s.read k aJ=([],0,0,9,s):=by unfold ah.read;rw[aH (by rw[b];simp),b]
 rw[e];have a:=oN w mb l s H.mc k;rw[b]at a;replace a:=J a;go_enter func44,ntmps44;go_wp2_with (apply(Z a).mono;rintro e g⟨rfl,c⟩;rw[c];clear c g);exact cC (v:=τ #[ς ⟨#[]⟩,I X 0,I U 0,I X 9]) (by simp[results,results44,go_sem]) Q ⟨Q,Q⟩
def dU.Tg(h:dU d f n)(hs:cJ d n)(g:n<=40000):Bl f:=by
 have a:=h.c;have i:=hs.aQ;have fj:=h.sl;have j:=a.next;have l:=hs.av;have m:=a.av;refine⟨⟨a.mK,a.fl.ma,λk b=>(a.out k b).ck,O⟩,h.aX.ok hs.c8 hs.np hs.cr,h.aU.yL O,by have:=h.dl;omega,O,a.bf.2.2,λk b=>by have:=(h.rd k b).1;omega,λk b e=>?_,λk b=>?_⟩
 obtain q|q|⟨-,q⟩:=(a.aF k b).st
 omega;omega;rw[<-(a.aF k b).given];exact q;obtain q|q|⟨q,-⟩:=(a.aF k b).st<;>(rw[q];unfold ie;omega)
def dU.wr(h:dU d f n)(hs:cJ d n):(∀k,k<4->(f.outs k).af.ok/\(0<=(f.outs k).af.fX/\(f.outs k).af.fX<=4096)/\(f.outs k).data.size<=4096/\((f.outs k).given=θ->((f.outs k).data.size:Int)-(f.outs k).af.fX<=f.av))/\0<=f.av/\f.av<=1024:=by
 have b:=h.c;have j:=hs.av;have l:=b.av;refine⟨λk a=>?_,O,O⟩
 have R:=b.out k a;have e:=hs.out k a;have m:=R.fr;have p:=R.sO;have g:=R.sz;have h0:=e.fr;refine⟨R.ck.yL,⟨O,O⟩,g,λi=>?_⟩
 have q:=R.Br i h0;have:=hs.qg k a;omega
structure fQ where
 xb:Nat
 sb:Nat
 st:bg
 A:Nat->Prop
 mb:Nat
 rl:cz
 m:ah
 B:Nat->Prop
 f:Bool
def fQ.F(s:fQ)(k:Nat):Prop:=s.A k\/s.B k
structure kS(w:D)(n:Nat)(s:fQ):Prop where
 cn:dp w s.xb s.sb s.st s.A
 rt:bV w s.mb s.rl s.m s.B
 ap:∀k,s.A k->¬s.B k
 rel:Rel s.st s.m n
 ok:ix n s.st
def kS.lt{s:fQ}(h:kS w n s)(k:Nat)(a:s.F k):k<w.heap.size:=a.elim (h.cn.lt k) (h.rt.lt k)
def kS.n0{s:fQ}(h:kS w n s):¬s.F 0:=λa=>a.elim h.cn.n0 h.rt.n0
def kS.other{s:fQ}(h:kS w n s)(C:aj w W S)(b:∀k,k<w.heap.size->S k->¬s.F k):kS W n s:=
 ⟨h.cn.other C (λk a e c=>b k a e (φ c)),h.rt.other C (λk a e d=>b k a e (ψ d)),h.ap,h.rel,h.ok⟩
def ix.up{st:bg}(h:ix n st)(a:n<=k):ix k st:=by
 cases st with
 |bh s=>exact cJ.mono h a
 |shut aI l=>exact h
def kS.up{s:fQ}(h:kS w n s)(a:n<=k):kS w k s:=⟨h.cn,h.rt,h.ap,h.rel.mono a,h.ok.up a⟩
structure Lw where
 key:List Int
 aQ:Nat
 side:Nat->fQ
 kept:List (List Int)
 uD:Bool
 vx:υ
 vm:υ
 nu:υ
 vk:υ
def Lw.cells(V:Lw):Array υ:=(bv V.key++[V.vx,V.vm,V.nu,V.vk,β V.uD]).toArray
def Lw.Own(V:Lw)(a k:Nat):Prop:=k=a\/V.vx.ownBlock=E k\/V.vm.ownBlock=E k\/V.nu.ownBlock=E k\/V.vk.ownBlock=E k
structure dM(w:D)(a:Nat)(V:Lw)(n:Nat):Prop where
 aG:w.heap[a]?=E (ο V.cells 90 (0,0))
 key:cI V.key
 x:w.ownsRow 0 33 1 V.vx V.aQ ((List.range V.aQ).map λi=>π (E ⟨(V.side i).xb,0,N⟩))
 m:w.ownsRow 0 37 1 V.vm V.aQ ((List.range V.aQ).map λi=>π (E ⟨(V.side i).mb,0,N⟩))
 me:w.ownsRow 0 4 1 V.nu V.aQ ((List.range V.aQ).map λi=>β (V.side i).f)
 kept:fq w 0 V.vk V.kept
 each:∀i,i<V.aQ->kS w n (V.side i)
 apart:∀i j,i<V.aQ->j<V.aQ->i≠j->∀k,(V.side i).F k->¬(V.side j).F k
 own:∀k,V.Own a k->k≠0/\∀i,i<V.aQ->¬(V.side i).F k
def dM.qT{V:Lw}(h:dM w i V n)(k:Nat)(c:V.Own i k):k<w.heap.size:=by
 obtain rfl|e|e|e|e:=c
 exact(aV.1 h.aG).1;let⟨b,fr,a⟩:=cN h.x k e;exact(aV.1 a).1
 let⟨b,fr,a⟩:=cN h.m k e;exact(aV.1 a).1
 let⟨b,fr,a⟩:=cN h.me k e;exact(aV.1 a).1
 let⟨b,fr,a⟩:=cN h.kept k e;exact(aV.1 a).1
def dM.other{V:Lw}(h:dM w j V n)(C:aj w W S)(c:∀k,k<w.heap.size->S k->¬V.Own j k/\∀i,i<V.aQ->¬(V.side i).F k):dM W j V n:=by
 have a:∀k,V.Own j k->¬S k:=λk b e=>(c k (h.qT k b) e).1 b
 exact⟨(C.block j (h.qT j (φ Q)) (a j (φ Q))).trans h.aG,h.key,dA h.x C (λk e=>a k (ψ (φ e))),dA h.m C (λk e=>a k (ψ (ψ (φ e)))),dA h.me C (λk e=>a k (ψ (ψ (ψ (φ e))))),dA h.kept C (λk e=>a k (ψ (ψ (ψ (ψ e))))),λi hi=>(h.each i hi).other C (λk b e=>(c k b e).2 i hi),h.apart,h.own⟩
def dM.pJ{V:Lw}(h:dM w l V n)(t:n<=o)(hi:i<V.aQ){a:fQ}(C:aj w W (V.side i).F)(hs:kS W o a)(hF:∀k,a.F k->(V.side i).F k\/w.heap.size<=k)(A:a.xb=(V.side i).xb)(B:a.mb=(V.side i).mb)(ef:a.f=(V.side i).f):dM W l {V with side:=aB V.side i a} o:=by
 have d:∀k,V.Own l k->¬(V.side i).F k:=λk b=>(h.own k b).2 i hi
 have u:∀k,V.Own l k->¬a.F k:=λk b e=>by
  obtain e|e:=hF k e
  exact d k b e;have:=h.qT k b;omega
 have g:∀j,j≠i->aB V.side i a j=V.side j:=λj c=>by simp[aB,c]
 have q:aB V.side i a i=a:=by simp[aB]
 have v:∀j,j<V.aQ->j≠i->∀k,(V.side j).F k->¬a.F k:=λj c r k b e=>by
  obtain e|e:=hF k e
  exact h.apart j i c hi r k b e;have:=(h.each j c).lt k b;omega
 have e1:∀j,(aB V.side i a j).xb=(V.side j).xb/\(aB V.side i a j).mb=(V.side j).mb/\(aB V.side i a j).f=(V.side j).f:=λj=>by
  grind
 refine⟨(C.block l (h.qT l (φ Q)) (d l (φ Q))).trans h.aG,h.key,?_,?_,?_,dA h.kept C (λk e=>d k (ψ (ψ (ψ (ψ e))))),λj c=>?_,λj p c y r k b=>?_,λk b=>⟨(h.own k b).1,λj c=>?_⟩⟩
 have:=dA h.x C (λk e=>d k (ψ (φ e)));grind;have:=dA h.m C (λk e=>d k (ψ (ψ (φ e))));grind;have:=dA h.me C (λk e=>d k (ψ (ψ (ψ (φ e)))));grind;show kS W o (aB V.side i a j);by_cases e:j=i;subst e;rw[q];exact hs;rw[g j e];exact((h.each j c).other C (λk _ e2 z=>h.apart j i c hi e k z e2)).up t;show¬(aB V.side i a p).F k;have s:(aB V.side i a j).F k:=b;by_cases e:j=i;subst e;grind;rw[g j e]at s;by_cases e2:p=i;subst e2;rw[q];exact v j c e k s;rw[g p e2];exact h.apart j p c y r k s;show¬(aB V.side i a j).F k;by_cases e:j=i;subst e;rw[q];exact u k b;rw[g j e];exact(h.own k b).2 j c
def yZ(h:cI L):(bv L).length=16:=by rw[gy];exact h.1
def y9(V:Lw)(a:cI V.key)(j:Nat):V.cells[16+j]?=[V.vx,V.vm,V.nu,V.vk,β V.uD][j]? :=by
 unfold Lw.cells;rw[tf,pQ (by rw[yZ a];omega),yZ a,sZ]
def dM.c{V:Lw}(h:dM w k V n):(κ w ⟨k,16,N⟩=E V.vx/\κ w ⟨k,17,N⟩=E V.vm/\κ w ⟨k,18,N⟩=E V.nu/\κ w ⟨k,19,N⟩=E V.vk/\κ w ⟨k,20,N⟩=E (β V.uD))/\∀o,χ w ⟨k,o,N⟩=θ:=by
 have a:=y9 V h.key;refine⟨⟨?_,?_,?_,?_,?_⟩,λo=>by simp[χ,h.aG]⟩
 rw[ba h.aG];exact a 0;rw[ba h.aG];exact a 1;rw[ba h.aG];exact a 2;rw[ba h.aG];exact a 3;rw[ba h.aG];exact a 4
def GZ(V:Lw)(a:cI V.key)(j:Nat)(x:υ):V.cells.setIfInBounds (16+j) x=(bv V.key++[V.vx,V.vm,V.nu,V.vk,β V.uD].set j x).toArray:=by
 unfold Lw.cells;rw[lH,List.set_append_right _ _ (by rw[yZ a];omega),yZ a,sZ]
def dM.dR{V:Lw}(h:dM w j V n){l:List (List Int)}(g:G w W V.vk.ownBlock)(s:fq W 0 y l)(u:y.ownBlock=V.vk.ownBlock\/y.ownBlock=E w.heap.size):dM (ζ W ⟨j,19,N⟩ y) j {V with kept:=l,vk:=y} n:=by
 have v:=h.qT j (φ Q);have tk:=cN h.kept;have f:Ty w j 90:=⟨_,_,h.aG⟩
 have z:V.vk.ownBlock≠E j:=λe=>(f.ne (tk j e) Θ) Q
 have b1:=(g.block j v (λe=>z e.symm)).trans h.aG;have p:=aD (au W (E j)) ⟨j,19,N⟩ y (ψ Q);have C:=(aj.of g).trans (aj.of p);have A:∀k,y.ownBlock=E k->k≠j:=λk e e2=>by
  grind
 have row:∀{t:TypeId}{x:υ}{c:Nat}{q:List υ},t≠9->t≠90->w.ownsRow 0 t 1 x c q->(ζ W ⟨j,19,N⟩ y).ownsRow 0 t 1 x c q:=λB H d=>dA d C (λk e e2=>by
  obtain e2|e2:=e2
  exact(cN d k e).ne (tk k e2) B Q
  .cases e2;exact(cN d _ e).ne f H Q)
 have hF:∀k,k<w.heap.size->(V.vk.ownBlock=E k\/E j=E k)->∀i,i<V.aQ->¬(V.side i).F k:=λk _ e i hi=>by
  obtain e|e:=e
  exact(h.own k (ψ (ψ (ψ (ψ e))))).2 i hi;cases e;exact(h.own _ (φ Q)).2 i hi
 refine⟨?_,h.key,row Θ Θ h.x,row Θ Θ h.m,row Θ Θ h.me,?_,λi hi=>(h.each i hi).other C (λk a e=>hF k a e i hi),h.apart,λk a=>?_⟩
 have:=heap_set (o:=16+3) b1 y;rw[GZ V h.key 3 y]at this;exact this;exact dA s (aj.of p) (λk e e2=>A k e (aR e2).symm);obtain e|e|e|e|e:=a
 exact h.own k (φ e);exact h.own k (ψ (φ e));exact h.own k (ψ (ψ (φ e)));exact h.own k (ψ (ψ (ψ (φ e))));have r:y.ownBlock=E k:=e;obtain b|b:=u
 exact h.own k (ψ (ψ (ψ (ψ (b▸r)))));rw[r]at b;have K:=aR b;refine⟨O,λi hi a=>?_⟩
 have:=(h.each i hi).lt k a;omega
def G7{s:fQ}(h:kS w n s)(g:G w W N){b:bg}(f:dp v s.xb s.sb b S)(c:∀k,S k->s.A k\/W.heap.size<=k)(C:aj W v s.A):bV v s.mb s.rl s.m s.B/\∀k,S k->¬s.B k:=by
 refine⟨(h.rt.ag g).other C (λk _ e a=>h.ap k e a),λk d a=>?_⟩
 obtain e|e:=c k d
 exact h.ap k e a;have i:=h.rt.lt k a;have j:=g.size;omega
structure kT(w:D)(s:fQ)(e:bg)(f:ah)(a:Nat->Prop)(b:D):Prop where
 at_:∃g d,dp b s.xb s.sb e a/\bV b s.mb g f d/\(∀k,a k->¬d k)/\(∀k,d k->s.B k\/w.heap.size<=k)
 wB:∀k,a k->s.A k\/w.heap.size<=k
 c:aj w b s.F
def Tn{s:fQ}(h:kS w n s)(g:G w W N){b:bg}(c:dp v s.xb s.sb b S)(d:∀k,S k->s.A k\/W.heap.size<=k)(C:aj W v s.A):kT w s b s.m S v:=by
 let⟨f,i⟩:=G7 h g c d C
 refine⟨⟨s.rl,s.B,c,f,i,λk a=>φ a⟩,λk a=>(d k a).imp id (bG g.size),((aj.of g).trans C).mono (λk _ e=>?_)⟩
 obtain e|e:=e
 cases e;exact φ e
def kT.grow{s:fQ}{a:bg}(h:kT w s a f S W)(g:G W v N):kT w s a f S v:=by
 let⟨b,d,i,j,l,m⟩:=h.at_
 exact⟨⟨b,d,i.ag g,j.ag g,l,m⟩,h.wB,(h.c.trans (aj.of g)).mono (λk _ e=>e.elim id (nofun))⟩
def kT.ask{s:fQ}{a:bg}{d:ah}(h:kT w s a f S W){i:cz}(g:dp W s.xb s.sb a S)(r:bV W s.mb i f P)(j:∀k,S k->¬P k)(l:∀k,P k->s.B k\/w.heap.size<=k)(T:bP W.heap.size W s.mb P d v):kT w s a d S v:=by
 let⟨m,n,t1,t2,t3⟩:=T
 have t:=h.c.size;refine⟨⟨m,n,g.other t3 (λk _ e b=>j k b e),t1,λk b p=>?_,λk q=>?_⟩,h.wB,(h.c.trans t3).mono (λk q e=>?_)⟩
 obtain e|e:=t2 k p
 simp_all;have:=g.lt k b;omega;grind;obtain e|e:=e
 exact e;obtain e|e:=l k e
 exact ψ e;omega
def dM.G9{V:Lw}(h:dM w j V n)(g:n<=l)(hi:i<V.aQ){b:bg}(T:kT w (V.side i) b f S W)(p:Rel b f l)(q:ix l b):∃d:fQ,dM W j {V with side:=aB V.side i d} l/\∀k,d.F k->(V.side i).F k\/w.heap.size<=k:=by
 let⟨r,e,s,t,u,v⟩:=T.at_
 have hF:∀k,S k\/e k->(V.side i).F k\/w.heap.size<=k:=λk a=>by
  obtain a|a:=a
  exact(T.wB k a).imp φ id;exact(v k a).imp ψ id
 exact⟨{V.side i with st:=b,A:=S,rl:=r,m:=f,B:=e},h.pJ g hi T.c ⟨s,t,u,p,q⟩ hF rfl rfl rfl,hF⟩
def dM.laid{V:Lw}(h:dM w k V n)(hi:i<V.aQ)(C:aj w W (V.side i).F)(a:Laid w):Laid W:=a.aA C (h.each i hi).n0
def Lw.Ft(V:Lw)(a k:Nat):Prop:=V.Own a k\/∃i,i<V.aQ/\(V.side i).F k
def Lw.To(w:D)(a:Nat)(V:Lw)(b:D)(c:Lw):Prop:=aj w b (V.Ft a)/\∀k,c.Ft a k->V.Ft a k\/w.heap.size<=k
def Lw.To.gb{w:D}(g:G w W N)(a:Nat)(V:Lw):V.To w a W V:=⟨(aj.of g).mono (λk _ e=>by cases e),λk b=>φ b⟩
def Lw.To.trans{V a b:Lw}(h:V.To w n W a)(c:a.To W n v b):V.To w n v b:=by
 have f:=h.1.size;refine⟨(h.1.trans c.1).mono (λk d e=>e.elim id (λe=>(h.2 k e).elim id (λe=>O))),λk d=>?_⟩
 obtain e|e:=c.2 k d
 exact h.2 k e;grind
def Lw.To.side{V:Lw}(hi:i<V.aQ){a:fQ}(C:aj w W (V.side i).F)(h:∀k,a.F k->(V.side i).F k\/w.heap.size<=k):V.To w n W {V with side:=aB V.side i a}:=by
 refine⟨C.mono (λk _ e=>ψ ⟨i,hi,e⟩),λk b=>?_⟩
 obtain b|⟨j,d,b⟩:=b
 exact φ (φ b);have c:(aB V.side i a j).F k:=b;by_cases e:j=i;subst e;rw[show aB V.side j a j=a by simp[aB]]at c;exact(h k c).imp (λe=>ψ ⟨j,hi,e⟩) id;rw[show aB V.side i a j=V.side j by simp[aB,e]]at c;exact φ (ψ ⟨j,d,c⟩)
structure oS(V:Lw)(n:Nat):Prop where
 aQ:V.aQ<=n
 len:V.kept.length<=50*n
 each:∀p∈V.kept,(p.length:Int)<=300
def dM.up{V:Lw}(h:dM w k V n):dM w k V (n+1):=⟨h.aG,h.key,h.x,h.m,h.me,h.kept,λi hi=>(h.each i hi).up (dw n),h.apart,h.own⟩
def oS.up{V:Lw}(h:oS V n):oS V (n+1):=⟨Nat.le_succ_of_le h.aQ,by have:=h.len;omega,h.each⟩
def mM(w:D)(c:Nat)(V:Lw)(n:Nat)(a:D):Prop:=∃b,dM a c b (n+1)/\oS b (n+1)/\Laid a/\V.To w c a b
def mM.gb{w:D}{V:Lw}(g:G w W N)(h:mM W k V n v):mM w k V n v:=by
 let⟨a,b,c,d,e⟩:=h
 exact⟨a,b,c,d,(Lw.To.gb g k V).trans e⟩
def mM.stay{V:Lw}(H:dM w i V n)(a:oS V n)(b:Laid w)(g:G w W N):mM w i V n W:=⟨V,(H.other (aj.of g) (λk _ e=>by cases e)).up,a.up,b.gb g,Lw.To.gb g i V⟩
def dM.xi{V:Lw}(H:dM w k V n)(hi:i<V.aQ):∃g c,V.vx=Y (E ⟨g,0,N⟩) V.aQ c/\V.aQ<=c/\c<=9223372036854775807/\κ w ⟨g,i,N⟩=E (π (E ⟨(V.side i).xb,0,N⟩)):=by
 obtain⟨g,c,e1,e2,a,b,-⟩:=nX H.x i hi;exact⟨g,c,e1,e2,by simpa [maxLen]using a,by rw[b,kU,List.getElem?_range hi];rfl⟩
def dM.mi{V:Lw}(H:dM w k V n)(hi:i<V.aQ):∃g c,V.vm=Y (E ⟨g,0,N⟩) V.aQ c/\V.aQ<=c/\c<=9223372036854775807/\κ w ⟨g,i,N⟩=E (π (E ⟨(V.side i).mb,0,N⟩)):=by
 obtain⟨g,c,e1,e2,a,b,-⟩:=nX H.m i hi;exact⟨g,c,e1,e2,by simpa [maxLen]using a,by rw[b,kU,List.getElem?_range hi];rfl⟩
def Lw.row(V:Lw):Nat->υ
 |0=>V.vx
 |1=>V.vm
 |_=>V.nu
def Lw.elem(V:Lw)(j i:Nat):υ:=match j with
 |0=>π (E ⟨(V.side i).xb,0,N⟩)
 |1=>π (E ⟨(V.side i).mb,0,N⟩)
 |_=>β (V.side i).f
def jU:Nat->TypeId
 |0=>33
 |1=>37
 |_=>4
def sT:Nat->TypeId
 |0=>75
 |1=>88
 |_=>65
def Lw.setRow(V:Lw)(j:Nat)(v:υ):Lw:=match j with
 |0=>{V with vx:=v}
 |1=>{V with vm:=v}
 |_=>{V with nu:=v}
structure jJ(w:D)(a:Nat)(V:Lw)(n:Nat)(c:Nat->Nat):Prop where
 aG:w.heap[a]?=E (ο V.cells 90 (0,0))
 key:cI V.key
 row:∀j,j<3->w.ownsRow 0 (jU j) 1 (V.row j) (c j) ((List.range (c j)).map (V.elem j))
 kept:fq w 0 V.vk V.kept
 each:∀i,i<V.aQ->kS w n (V.side i)
 apart:∀i j,i<V.aQ->j<V.aQ->i≠j->∀k,(V.side i).F k->¬(V.side j).F k
 own:∀k,V.Own a k->k≠0/\∀i,i<V.aQ->¬(V.side i).F k
def lG(h0:P 0)(a:P 1)(b:P 2):∀j,j<3->P j:=λj c=>match j,c with
 |0,_=>h0
 |1,_=>a
 |2,_=>b
def jJ.done{V:Lw}{c:Nat->Nat}(h:jJ w k V n c)(a:∀j,j<3->c j=V.aQ):dM w k V n:=by
 have h0:=h.row 0 O;have b:=h.row 1 O;have d:=h.row 2 O;rw[a 0 O]at h0;rw[a 1 O]at b;rw[a 2 O]at d;exact⟨h.aG,h.key,h0,b,d,h.kept,h.each,h.apart,h.own⟩
def dM.more{V:Lw}(h:dM w l V n){a:fQ}(hs:kS w n a)(hF:∀k,a.F k->¬V.Ft l k):jJ w l {V with aQ:=V.aQ+1,side:=aB V.side V.aQ a} n (λ_=>V.aQ):=by
 have b:∀j,j<V.aQ->aB V.side V.aQ a j=V.side j:=λj p=>by simp[aB,Nat.ne_of_lt p]
 have r:aB V.side V.aQ a V.aQ=a:=by simp[aB]
 have t:∀{α:Type}(g:fQ->α),(List.range V.aQ).map (λi=>g (aB V.side V.aQ a i))=(List.range V.aQ).map λi=>g (V.side i):=λg=>wN (λi hi=>by rw[b i (wW.1 hi)])
 refine⟨h.aG,h.key,lG ?_ ?_ ?_,h.kept,λi hi=>?_,λi j hi p u k c=>?_,λk c=>⟨(h.own k c).1,λi hi=>?_⟩⟩
 have:=h.x;rw[<-t (λs=>π (E ⟨s.xb,0,N⟩))]at this;exact this;have:=h.m;rw[<-t (λs=>π (E ⟨s.mb,0,N⟩))]at this;exact this;have:=h.me;rw[<-t (λs=>β s.f)]at this;exact this;show kS w n (aB V.side V.aQ a i);by_cases e:i<V.aQ;rw[b i e];exact h.each i e;grind;show¬(aB V.side V.aQ a j).F k;have d:(aB V.side V.aQ a i).F k:=c;have v:i<V.aQ+1:=hi;have y:j<V.aQ+1:=p;by_cases e:i<V.aQ;rw[b i e]at d;by_cases e2:j<V.aQ;rw[b j e2];exact h.apart i j e e2 u k d;obtain rfl:j=V.aQ:=O;rw[r];exact λq=>hF k q (ψ ⟨i,e,d⟩)
 obtain rfl:i=V.aQ:=O;rw[r]at d;have e2:j<V.aQ:=O;rw[b j e2];exact λq=>hF k d (ψ ⟨j,e2,q⟩)
 show¬(aB V.side V.aQ a i).F k;have v:i<V.aQ+1:=hi;by_cases e:i<V.aQ;rw[b i e];exact(h.own k c).2 i e;obtain rfl:i=V.aQ:=O;rw[r];exact λq=>hF k q (φ c)
def jJ.zb{V:Lw}(e:(V.row j).ownBlock=E k):V.Own n k:=by
 unfold Lw.row at e;split at e;exact ψ (φ e);exact ψ (ψ (φ e));exact ψ (ψ (ψ (φ e)))
def jJ.other{V:Lw}{c:Nat->Nat}(h:jJ w l V n c)(C:aj w W S)(a:∀k,S k->¬V.Own l k/\∀i,i<V.aQ->¬(V.side i).F k):jJ W l V n c:=
 have b:l<w.heap.size:=(aV.1 h.aG).1
 ⟨(C.block l b (λe=>(a l e).1 (φ Q))).trans h.aG,h.key,λj d=>dA (h.row j d) C (λk e e2=>(a k e2).1 (jJ.zb e)),dA h.kept C (λk e e2=>(a k e2).1 (ψ (ψ (ψ (ψ e))))),λi hi=>(h.each i hi).other C (λk _ e=>(a k e).2 i hi),h.apart,h.own⟩
def jJ.put{V:Lw}{c:Nat->Nat}(h:jJ w l V n c)(hL:Laid w){j:Nat}(a:j<3)(hc:c j<=100000){x:υ}(S:x=V.elem j (c j)):
 ∃m p r g,(Builtin.append_ #[sT j,sT j] (sT j) #[V.row j,Y (E ⟨w.heap.size,0,N⟩) 1 1]).run prog (w.alloc (ο #[x] (jU j)))=.ok (Y m p r) g/\χ g ⟨l,16+j,N⟩=θ/\(∃y,κ g ⟨l,16+j,N⟩=E y)/\jJ (ζ g ⟨l,16+j,N⟩ (Y m p r)) l (V.setRow j (Y m p r)) n (aB c j (c j+1))/\Laid (ζ g ⟨l,16+j,N⟩ (Y m p r))/\V.To w l (ζ g ⟨l,16+j,N⟩ (Y m p r)) (V.setRow j (Y m p r)):=by
 obtain⟨s,A⟩:=í (w.alloc (ο #[x] (jU j)));have B:G w s N:=by rw[A];exact aC _ _ _
 have z1:s.heap.size=w.heap.size+1:=by rw[A];exact dJ _ _
 have b1:s.heap[w.heap.size]?=E (ο #[x] (jU j) (0,0)):=by rw[A];exact aM _ _
 rw[<-A];have b:=h.other (aj.of B) (nofun);obtain⟨z,lA,F,al,hz,ax⟩:∃z lA,prog.underlying (sT j)=E (.slice (jU j))/\(prog.info? (jU j)).map (λi=>(i.zero,i.size,i.bytes))=E (E z,1,lA)/\z.cells.size=1/\lA<=24:=
  lG (P:=λj=>∃z lA,prog.underlying (sT j)=E (.slice (jU j))/\(prog.info? (jU j)).map (λi=>(i.zero,i.size,i.bytes))=E (E z,1,lA)/\z.cells.size=1/\lA<=24) ⟨π N,8,underlying75,Φ,Q,O⟩ ⟨π N,8,underlying88,Φ,Q,O⟩ ⟨β θ,1,underlying65,Φ,Q,O⟩ j a
 have a0:x.oneCell'=ρ:=by
  rw[S];exact lG (P:=λj=>(V.elem j _).oneCell'=ρ) Q Q Q j a
 have el:((List.range (c j)).map (V.elem j)).length=c j:=Γ;let⟨m,p,r,g,k1,k2,k3,k4⟩:=GY (w:=s) (T:=sT j) (e:=jU j) (sT j) F al hz ax (V.row j) ((List.range (c j)).map (V.elem j)) (by rw[el];exact b.row j a) ⟨w.heap.size,0,N⟩ 1 [x] (λi u hi=>by
  have:i=0/\u=x:=by
   grind
  obtain⟨rfl,rfl⟩:=this;simp[κ,Addr.add,b1]) (λu F=>by rw[eE.1 F];exact a0) (by rw[el];simp;omega)
 obtain⟨v,H⟩:=í (Y m p r);have a2:g.ownsRow 0 (jU j) 1 v (c j+1) ((List.range (c j+1)).map (V.elem j)):=by
  rw[H,rV,oj,List.map_singleton,<-S];grind
 rw[<-H]at k4;have a3:=(aV.1 b.aG).1;have K:Ty s l 90:=⟨_,_,b.aG⟩
 have W:=lG (P:=λj=>jU j≠90/\jU j≠9) Θ Θ Θ j a;have L:=cN (b.row j a);have a4:(V.row j).ownBlock≠E l:=λe=>(K.ne (L l e) (λe2=>W.1 e2.symm)) Q
 have M:=(k3.block l a3 (λe=>a4 e.symm)).trans b.aG;have R:=aD (au g (E l)) ⟨l,16+j,N⟩ v (ψ Q);have C:=(aj.of k3).trans (aj.of R);have vw:∀k,v.ownBlock=E k->k≠l:=λk e e2=>by
  grind
 have hO:∀k,(V.setRow j v).Own l k->V.Own l k\/k=s.heap.size:=λk d=>by
  have:V.Own l k\/v.ownBlock=E k:=by
   unfold Lw.setRow Lw.Own at *;split at d;obtain e|e|e|e|e:=d
   exact φ (φ e);exact ψ e;exact φ (ψ (ψ (φ e)));exact φ (ψ (ψ (ψ (φ e))));exact φ (ψ (ψ (ψ (ψ e))));obtain e|e|e|e|e:=d
   exact φ (φ e);exact φ (ψ (φ e));exact ψ e;exact φ (ψ (ψ (ψ (φ e))));exact φ (ψ (ψ (ψ (ψ e))));obtain e|e|e|e|e:=d
   exact φ (φ e);exact φ (ψ (φ e));exact φ (ψ (ψ (φ e)));exact ψ e;exact φ (ψ (ψ (ψ (ψ e))))
  obtain e|e:=this
  exact φ e;obtain t|t:=k4
  exact φ (jJ.zb (t▸e));rw[e]at t;exact ψ (aR t)
 have hF:∀k,((V.row j).ownBlock=E k\/E l=E k)->V.Own l k:=λk e=>by
  obtain e|e:=e
  exact jJ.zb e;exact φ (aR e).symm
 have f:(V.setRow j v).side=V.side/\(V.setRow j v).aQ=V.aQ/\(V.setRow j v).key=V.key/\(V.setRow j v).vk=V.vk/\(V.setRow j v).kept=V.kept:=by unfold Lw.setRow;split<;>exact⟨Q,Q,Q,Q,Q⟩
 have ee:∀i,(V.setRow j v).elem i=V.elem i:=λi=>by unfold Lw.elem;rw[f.1]
 refine⟨m,p,r,g,k1,?_⟩
 rw[<-H];refine⟨by simp[χ,M],?_,⟨?_,by rw[f.2.2.1];exact h.key,λi hi=>?_,?_,λi hi=>?_,?_,λk d=>?_⟩,?_,?_⟩
 rw[ba M,y9 V h.key j];exact lG (P:=λj=>∃y,[V.vx,V.vm,V.nu,V.vk,β _][j]?=E y) ⟨_,Q⟩ ⟨_,Q⟩ ⟨_,Q⟩ j a;have:=heap_set (o:=16+j) M v;rw[GZ V h.key j v]at this;rw[this];exact lG (P:=λj=>E (Obj.cells (bv V.key++[V.vx,V.vm,V.nu,V.vk,β V.uD].set j v).toArray 90 (0,0))=E (Obj.cells (V.setRow j v).cells 90 (0,0))) Q Q Q j a;rw[ee];by_cases e:i=j;subst e;rw[show aB c i (c i+1) i=c i+1 by simp[aB],show(V.setRow i v).row i=v from lG (P:=λi=>(V.setRow i v).row i=v) Q Q Q i a];exact dA a2 (aj.of R) (λk e e2=>vw k e (aR e2).symm);rw[show aB c j (c j+1) i=c i by simp[aB,e],show(V.setRow j v).row i=V.row i from lG (P:=λi=>i≠j->(V.setRow j v).row i=V.row i) (lG (P:=λj=>0≠j->(V.setRow j v).row 0=V.row 0) (λe=>absurd Q e) (λ_=>rfl) (λ_=>rfl) j a) (lG (P:=λj=>1≠j->(V.setRow j v).row 1=V.row 1) (λ_=>rfl) (λe=>absurd Q e) (λ_=>rfl) j a) (lG (P:=λj=>2≠j->(V.setRow j v).row 2=V.row 2) (λ_=>rfl) (λ_=>rfl) (λe=>absurd Q e) j a) i hi e];have ti:=lG (P:=λi=>i≠j->jU i≠jU j) (lG (P:=λj=>0≠j->jU 0≠jU j) (λe=>absurd Q e) (λ_=>Θ) (λ_=>Θ) j a) (lG (P:=λj=>1≠j->jU 1≠jU j) (λ_=>Θ) (λe=>absurd Q e) (λ_=>Θ) j a) (lG (P:=λj=>2≠j->jU 2≠jU j) (λ_=>Θ) (λ_=>Θ) (λe=>absurd Q e) j a) i hi e;refine dA (b.row i hi) C (λk e e2=>?_);obtain e2|e2:=e2
 exact(cN (b.row i hi) k e).ne (L k e2) ti Q;cases e2;exact(cN (b.row i hi) _ e).ne K (lG (P:=λj=>jU j≠90) Θ Θ Θ i hi) Q;rw[f.2.2.2.1,f.2.2.2.2];refine dA b.kept C (λk e e2=>?_);obtain e2|e2:=e2
 exact(cN b.kept k e).ne (L k e2) (λt=>W.2 t.symm) Q;cases e2;exact(cN b.kept _ e).ne K Θ Q;rw[f.1];rw[f.2.1]at hi;exact(b.each i hi).other C (λk _ e=>(h.own k (hF k e)).2 i hi);rw[f.1,f.2.1];exact h.apart;rw[f.1,f.2.1];obtain e|e:=hO k d
 exact h.own k e;exact⟨O,λi hi q=>by have:=(b.each i hi).lt k q;omega⟩
 exact((hL.gb B).gb k3 (λe=>(h.own 0 (jJ.zb e)).1 Q)).gb R (λe=>(h.own l (φ Q)).1 (aR e));refine⟨((aj.of B).trans C).mono (λk _ e=>?_),λk d=>?_⟩
 obtain e|e:=e
 cases e;exact φ (hF k e);obtain d|⟨i,hi,d⟩:=d
 obtain e|e:=hO k d
 exact φ (φ e);exact ψ O;rw[f.1]at d;rw[f.2.1]at hi;exact φ (ψ ⟨i,hi,d⟩)
structure iA where
 kind:Int
 a:Int
 b:Int
 q:iy
 la:Option Addr
 ln:Nat
 lc:Nat
 fs:List Fr
 s:ByteArray
def jB(s:iA):Array υ:= #[I X s.kind,I X s.a,I X s.b,I X s.q.op,I X s.q.stream,I X s.q.n,I U s.q.code,ς s.q.data,Y s.la s.ln s.lc,ς s.s]
structure rP(w:D)(s:iA):Prop where
 a:ie s.a
 b:ie s.b
 n:ie s.q.n
 code:aZ s.q.code
 fr:lq w s.la s.ln s.lc s.fs
 ux:fh s.fs<=500000
 data:s.q.data.size<=20000
 text:s.s.size<=20000
def jJ.cj{V:Lw}{c:Nat->Nat}(h:jJ w k V n c):κ w ⟨k,16,N⟩=E V.vx/\κ w ⟨k,17,N⟩=E V.vm/\κ w ⟨k,18,N⟩=E V.nu:=by
 have a:=y9 V h.key;exact⟨(ba h.aG 16).trans (a 0),(ba h.aG 17).trans (a 1),(ba h.aG 18).trans (a 2)⟩
def dM.rH{V:Lw}(h:dM w k V n):w.rangeAt k 0 (bv V.key):=λj v a=>by
 rw[eM,ba h.aG];unfold Lw.cells;rw[tf,qo (rS.1 a).1];exact a
def dM.Tw{d:D}{V:Lw}(h:dM w j V n)(R:oS V n)(H:Laid w)(u:iI p r)(x:G w W N){l:cz}(K:∀k,S k->W.heap.size<=k)(y:dp v m o (.bh (Sd.new p r V.key B)) S)(z:G W v N){f:D}(t:G v f N)(L:bV d b l (ah.new p r V.key B) (λk=>f.heap.size<=k/\k<d.heap.size))(A:G f d N):
 ∃c:fQ,c.xb=m/\c.mb=b/\c.f=B/\jJ d j {V with aQ:=V.aQ+1,side:=aB V.side V.aQ c} n (λ_=>V.aQ)/\Laid d/\V.To w j d {V with aQ:=V.aQ+1,side:=aB V.side V.aQ c}:=by
 have g:G w d N:=aq (aq (aq x z) t) A;have T:=x.size;have ai:=z.size;have z4:=t.size;have M:∀k,V.Ft j k->k<w.heap.size:=λk a=>by
  obtain a|⟨i,hi,a⟩:=a
  exact h.qT k a;exact(h.each i hi).lt k a
 have C:∀k,(S k\/(f.heap.size<=k/\k<d.heap.size))->w.heap.size<=k:=λk a=>by
  obtain a|a:=a
  have:=K k a;omega;omega
 refine⟨⟨m,o,.bh (Sd.new p r V.key B),S,b,l,ah.new p r V.key B,λk=>f.heap.size<=k/\k<d.heap.size,B⟩,Q,Q,Q,(h.other (aj.of g) (λk _ e=>by cases e)).more ⟨(y.ag t).ag A,L,λk P hb=>?_,dU.mono (Sx u) (mP n),PZ u h.key n⟩ (λk a q=>?_),H.gb g,(aj.of g).mono (λk _ e=>by cases e),λk a=>?_⟩
 have:=y.lt k P;omega;have h1:=C k a;have h2:=M k q;omega;obtain a|⟨i,hi,a⟩:=a
 exact φ (φ a);have a0:i<V.aQ+1:=hi;by_cases e:i<V.aQ;refine φ (ψ ⟨i,e,?_⟩);have s:(aB V.side V.aQ _ i).F k:=a;rw[show∀c,aB V.side V.aQ c i=V.side i from λc=>by simp[aB,Nat.ne_of_lt e]]at s;exact s;obtain rfl:i=V.aQ:=O;have s:(aB V.side V.aQ _ V.aQ).F k:=a;rw[show∀c,aB V.side V.aQ c V.aQ=c from λc=>by simp[aB]]at s;exact ψ (C k s)
def jJ.three{V a:Lw}(t:oS V n)(hn:n<=40000){c:fQ}(e1:a={V with aQ:=V.aQ+1,side:=aB V.side V.aQ c})(h:jJ W k a n (λ_=>V.aQ))(B:Laid W)(T:V.To w k W a):
 ∃b n0 c0 w0,(Builtin.append_ #[75,75] 75 #[a.vx,Y (E ⟨W.heap.size,0,N⟩) 1 1]).run prog (W.alloc (ο #[π (E ⟨c.xb,0,N⟩)] 33))=.ok (Y b n0 c0) w0/\χ w0 ⟨k,16,N⟩=θ/\(∃y,κ w0 ⟨k,16,N⟩=E y)/\∃d,d=ζ w0 ⟨k,16,N⟩ (Y b n0 c0)/\κ d ⟨k,17,N⟩=E a.vm/\
 ∃e g c1 l,(Builtin.append_ #[88,88] 88 #[a.vm,Y (E ⟨d.heap.size,0,N⟩) 1 1]).run prog (d.alloc (ο #[π (E ⟨c.mb,0,N⟩)] 37))=.ok (Y e g c1) l/\χ l ⟨k,17,N⟩=θ/\(∃y,κ l ⟨k,17,N⟩=E y)/\∃i,i=ζ l ⟨k,17,N⟩ (Y e g c1)/\κ i ⟨k,18,N⟩=E a.nu/\
 ∃q n2 c2 m,(Builtin.append_ #[65,65] 65 #[a.nu,Y (E ⟨i.heap.size,0,N⟩) 1 1]).run prog (i.alloc (ο #[β c.f] 4))=.ok (Y q n2 c2) m/\χ m ⟨k,18,N⟩=θ/\(∃y,κ m ⟨k,18,N⟩=E y)/\mM w k V n (ζ m ⟨k,18,N⟩ (Y q n2 c2)):=by
 have a4:=t.aQ;have u:a.elem 0 V.aQ=π (E ⟨c.xb,0,N⟩)/\a.elem 1 V.aQ=π (E ⟨c.mb,0,N⟩)/\a.elem 2 V.aQ=β c.f:=by
  rw[e1];simp[Lw.elem,aB]
 obtain⟨b,n0,c0,w0,C,p2,p3,p4,p5,p6⟩:=h.put B (j:=0) O (by show V.aQ<=_;omega) u.1.symm;obtain⟨d,r⟩:=í (ζ w0 ⟨k,16,N⟩ (Y b n0 c0));have v:jJ d k (a.setRow 0 (Y b n0 c0)) n (aB (λ_=>V.aQ) 0 (V.aQ+1)):=by rw[r];exact p4
 obtain⟨e,g,c1,l,F,H,K,L,M,R⟩:=v.put (by rw[r];exact p5) (j:=1) O (by show aB _ 0 _ 1<=_;simp[aB];omega) (x:=π (E ⟨c.mb,0,N⟩)) u.2.1.symm;obtain⟨i,s⟩:=í (ζ l ⟨k,17,N⟩ (Y e g c1));have z:jJ i k ((a.setRow 0 (Y b n0 c0)).setRow 1 (Y e g c1)) n (aB (aB (λ_=>V.aQ) 0 (V.aQ+1)) 1 (V.aQ+1)):=by rw[s];exact L
 obtain⟨q,n2,c2,m,S,r2,r3,r4,r5,r6⟩:=z.put (by rw[s];exact M) (j:=2) O (by show aB _ 1 _ 2<=_;simp[aB];omega) (x:=β c.f) u.2.2.symm;have a0:a.To W k d (a.setRow 0 (Y b n0 c0)):=by rw[r];exact p6
 have a1:(a.setRow 0 (Y b n0 c0)).To d k i ((a.setRow 0 (Y b n0 c0)).setRow 1 (Y e g c1)):=by rw[s];exact R
 have A:a.kept=V.kept:=by rw[e1]
 refine⟨b,n0,c0,w0,C,p2,p3,d,r,v.cj.2.1,e,g,c1,l,F,H,K,i,s,z.cj.2.2,q,n2,c2,m,S,r2,r3,_,(r4.done (λj hj=>?_)).up,⟨?_,by show a.kept.length<=_;rw[A];exact t.up.len,by show∀p∈a.kept,_;rw[A];exact t.each⟩,r5,((T.trans a0).trans a1).trans r6⟩
 rw[show(((a.setRow 0 (Y b n0 c0)).setRow 1 (Y e g c1)).setRow 2 (Y q n2 c2)).aQ=V.aQ+1 by rw[e1];rfl];exact lG (P:=λj=>aB (aB (aB (λ_=>V.aQ) 0 (V.aQ+1)) 1 (V.aQ+1)) 2 (V.aQ+1) j=V.aQ+1) Q Q Q j hj;show a.aQ<=n+1;rw[e1];show V.aQ+1<=n+1;omega
def Hc(w:D)(az av:Int)(key:List Int)(f:Bool)(a b:υ)(c:D):Prop:=
 G w c N/\((¬iI az av/\a=π N/\b=I X 1)\/(iI az av/\b=I X 0/\∃xb sb A,a=π (E ⟨xb,0,N⟩)/\(∀k,A k->w.heap.size<=k)/\dp c xb sb (.bh (Sd.new az av key f)) A))
def Tx{e:Ending}(h:AN w p q L B (τ #[π N,I X 1]) (λv=>τ #[v,I X 0]) e W):∃c d,e=ξ (τ #[c,d])/\Hc w p q L B c d W:=by
 obtain⟨g,⟨a,b⟩|⟨a,xb,sb,A,b,f,i⟩⟩:=h;exact⟨_,_,b,g,φ ⟨a,Q,Q⟩⟩
 exact⟨_,_,b,g,ψ ⟨a,Q,xb,sb,A,Q,f,i⟩⟩
def Tz(w:D)(i:Nat)(V:Lw)(n:Nat)(H:dM w i V n)(hV:oS V n)(z:Laid w)(hn:n<=40000)(s:iA)(hs:rP w s)(hk:s.kind=1):
 Calls prog 33 #[π (E ⟨i,0,N⟩),ε (jB s)] w λe h=>e=ξ (β ρ)/\mM w i V n h:=by
 refine js λR K=>?_
 obtain⟨c,j⟩:=í ((w.alloc (ο (jB s) 94)).alloc (ο #[I X s.a,I X s.b] 28));have L:G w c N:=by rw[j];exact aW (aC _ _ _) _
 have z2:c.heap.size=w.heap.size+2:=by rw[j,dJ,dJ]
 have b2:c.heap[w.heap.size+1]?=E (ο #[I X s.a,I X s.b] 28 (0,0)):=by rw[j,<-dJ w (ο (jB s) 94)];exact aM _ _
 have b0:c.heap[w.heap.size]?=E (ο (jB s) 94 (0,0)):=by rw[j];exact bp (aM _ _) (aC _ _ N)
 have d5:κ c ⟨w.heap.size,5,N⟩=E (I X s.q.n):=by simp[κ,b0,jB]
 have p0:=kc (show κ c ⟨w.heap.size+1,0,N⟩=E (I X s.a) by simp[κ,b2]);have p1:=kc (show κ c ⟨w.heap.size+1,1,N⟩=E (I X s.b) by simp[κ,b2]);have H2:dM c i V n:=H.other (aj.of L) (λk _ e=>by cases e);have M:Laid c:=z.gb L;have m:=H.key;have bb:(prog.info? 24).map (·.size)=E (bv V.key).length:=by rw[gy,m.1];exact mh
 have bt:=underlying24;obtain⟨f,hf⟩:∃f:Bool,(s.q.n.tmod 2==0)=f:=⟨_,Q⟩
 have P:c.rangeAt i 0 (bv V.key)/\G c c N:=⟨H2.rH,au _ _⟩
 have p:=dT P (aK (au c N));have ao:=J (λ(W:D)(g:G c W N)=>Pp W s.a s.b V.key m f (M.gb g));obtain⟨kind,a,b,⟨op,stream,qn,code,data⟩,la,ln,lc,fs,str⟩:=s;simp only at hk;subst hk;unfold jB at j⊢;simp only at *;replace⟨H,z,hs,K⟩:=fB H z hs K;go_enter func33,ntmps33;go_upto_region 3 with fail;rw[<-j];clear j;replace⟨H2,M,b2,b0,z2⟩:=gT H2 M b2 b0 z2;go_upto_region 4 with fail;obtain⟨key,r⟩:=í V.key;rw[<-r]at P p bb ao;replace r:=J r;go_cut [7,8] (λv7 v8 wx=>Hc c.drew a b key f v7 v8 wx);case first=>
  go_region_held3 (λh=>h.rangeAt i 0 (bv key)/\G c h N)
   (with_reducible first|exact t|exact P|exact p)
   (first|(go_at_call 12;apply(Z ao _ p.2).mono;rintro e w5 h5;obtain⟨v7,v8,rfl,d⟩:=Tx h5;clear h5;have t:=dT p d.1;replace d:=J d))
  go_wp2;go_meet;exact Z d
 case rest=>
  clear ao;obtain⟨gA,hB⟩:=hcut;have S:=dT p gA;have u:=dT S (aK (au wc N));clear P;have ax:=ly m;rw[<-Z r]at ax m;have bw:0<wc.drew.heap.size:=bX (Z M).lt u.2.size;by_cases B:iI a b
  .obtain⟨a3,-⟩|⟨-,rfl,xb,sb,A,rfl,hA,T⟩:=hB
   exact absurd B a3;have a4:=J (RQ wc.drew a b key m f B bw);replace T:=J T;obtain⟨Wa,rfl⟩:=í wc;go_upto_region 5 with fail;go_cut [9,10] (λv9 a8 wx=>∃mb l,v9=π (E ⟨mb,0,N⟩)/\a8=I X 0/\bV wx mb l (ah.new a b key f) (λk=>Wa.drew.heap.size<=k/\k<wx.heap.size)/\Wa.drew.grownBy wx N);case first=>
    go_region_held3 (λh=>h.rangeAt i 0 (bv key)/\G c h N)
     (with_reducible first|exact t|exact S|exact u)
     (first|(go_at_call 13;apply(Z a4).mono;rintro e w6⟨mb,l,rfl,d,v⟩;have t:=dT u v;replace d:=J d))
    go_wp2;go_meet;exact⟨mb,l,Q,Q,Z d,v⟩
   case rest=>
    obtain⟨mb,l,rfl,rfl,d,v⟩:=hcut;rw[Z r]at d;have a9:=Z T;rw[Z r]at a9;obtain⟨s',e1,e2,e3,hG,bj,hT⟩:=(Z H).Tw hV (Z z) B (aq L (aK (au c N))) hA a9 gA (aK (au Wa N)) d v;have cj:=hG.cj;obtain⟨a0,n0,c0,w0,x,p2,⟨y0,p3⟩,W6,ai,br,a1,n1,c1,w1,y,q2,⟨y1,q3⟩,W7,ak,fI,a2,n2,c2,w2,C,r2,⟨y2,r3⟩,al⟩:=jJ.three hV hn Q hG bj hT;simp only at cj br fI x y C;rw[e1]at x;rw[e2]at y;rw[e3]at C;have bx:=cj.1;have F:=J (show R _ by rw[Z K];exact al);replace⟨x,y,C,ai,ak⟩:=gT x y C ai ak;clear hG bj hT cj al d T a9 S u p bb bt p0 p1 d5 ax m;go_upto_region 10 with(at_builtin;refine jN Ξ 75 75 Ξ _ _ Ξ _ _ _ Ξ Ξ (Z x) ?_)
    rw[<-Z ai];clear x ai p2 p3 bx;go_upto_region 11 with(at_builtin;refine jN Ξ 88 88 Ξ _ _ Ξ _ _ _ Ξ Ξ (Z y) ?_)
    rw[<-Z ak];clear y ak q2 q3 br;go_wp2_with (at_builtin;refine jN Ξ 65 65 Ξ _ _ Ξ _ _ _ Ξ Ξ (Z C) ?_);go_ret;exact⟨Q,Z F⟩
  obtain⟨-,rfl,rfl⟩|⟨a3,-⟩:=hB
  .have a4:=J (RO wc.drew a b (bY key) ax f B);have al:=J (λ(w7:D)(g:G c w7 N)=>(show R w7 by rw[Z K];exact mM.stay (Z H) hV (Z z) (aq L g)));go_upto_region 5 with fail;go_cut [9,10] (λv9 a8 wx=>v9=π N/\a8=I X 1/\R wx);case first=>
    go_region_held3 (λh=>h.rangeAt i 0 (bv key)/\G c h N)
     (with_reducible first|exact t|exact S|exact u)
     (first|(go_at_call 13;apply(Z a4).mono;rintro e w6⟨rfl,v⟩;have t:=dT u v))
    go_wp2;go_meet;exact⟨Q,Q,Z al _ t.2⟩
   case rest=>
    obtain⟨rfl,rfl,F⟩:=hcut;replace F:=J F;go_wp2;go_ret;exact⟨Q,Z F⟩
  exact absurd a3 B
def He(w:D)(a:Option Addr)(n i:Nat)(l:List Int)(j:bD w a n i l)(hl:l.length<=100000000):
 Calls prog 63 #[Y a n i] w λe c=>∃d f h x y fs,e=ξ (τ #[Y d f h,I X x,I X y])/\lq c d f h fs/\G w c N:=by
 have fin:∀e c,yR w l e c->∃d f h x y fs,e=ξ (τ #[Y d f h,I X x,I X y])/\lq c d f h fs/\G w c N:=by
  rintro e c⟨g,⟨aw,d,f,h,-,k,m⟩|⟨p,-,k⟩⟩;exact⟨d,f,h,_,_,_,k,m.E8,g⟩
  exact⟨N,0,0,_,_,[],k,⟨Q,aP _,by simp[maxLen],φ Q⟩,g⟩
 by_cases h0:l.length=0;obtain rfl:=oV h0;exact(Gm w a n i j).mono fin;obtain⟨-,r,-,-,q⟩:=id j;obtain⟨rfl,e⟩|⟨b,o,rfl,-⟩:=q
 have s:=j.2.2.1;omega;exact(Gn w b o n i l j O hl).mono fin
def Hf(w:D)(a:Option Addr)(n j:Nat)(fs:List Fr)(H:lq w a n j fs):
 Calls prog 64 #[Y a n j] w λe c=>(∃b,e=ξ (β b))/\G w c N:=by
 obtain⟨d,t,p,-⟩:=id H;unfold maxLen at p;refine fL λR q=>?_
 have k:=J (λ(b:Bool)(c:D)(g:G w c N)=>(show R (ξ (β b)) c by rw[q];exact⟨⟨b,Q⟩,g⟩));replace⟨H,d⟩:=aT H d;go_enter func64,ntmps64;go_wp2;go_loopw [3] (λf wr=>∃(i:Nat),i<=n/\f=I X i/\G w wr N) (λf _=>n-(intOf f).toNat);case atStart=>exact⟨0,O,Q,au _ _⟩
 case round=>
  obtain⟨i,hi,rfl,g⟩:=hrel;by_cases u:i<n
  .have v:X.wrap ((i:Int)+1)=(i:Int)+1:=ä;have d1:decide ((i:Int)<n)=ρ:=α;have r:i<fs.length:=by have:=Z d;omega
   obtain⟨-,-,-,x|⟨b,o,rfl,-⟩⟩:=id (Z H);omega;obtain⟨y,-,s⟩:=((Z H).ag g).at i r;have c0:=s 0 _ Q;rw[nA]at c0;generalize (eR fs i).kind=h at c0;have l:=J (Z k θ wr g);by_cases k4:h=4
   .subst k4;go_wp2_with fail;exact Z l
   by_cases m:h=6
   .subst m;go_wp2_with fail;exact Z l
   have z:(h==6)=θ:=by simpa using m
   go_wp2;exact⟨⟨i+1,O,Γ,g⟩,by simp[intOf];omega⟩
  have d1:decide ((i:Int)<n)=θ:=é;go_wp2_with fail;exact Z (J (Z k ρ wr g))
def TC(w:D)(s:iA)(hs:rP w s)(key:List Int)(hk:cI key):
 Calls prog 32 #[ε (jB s),ε (bY key)] w λe T=>(∃b,e=ξ (β b))/\G w T N:=by
 refine fL λR hR=>?_
 have r:=J (λ(b:Bool)(T:D)(g:G w T N)=>(show R (ξ (β b)) T by rw[hR];exact⟨⟨b,Q⟩,g⟩));have ax:=ly hk;have a1:=λ(bf:Int)(f:W8 bf)(a:Option Addr)(m a2:Nat)(l:List Int)(W:D)(aa:bD W a m a2 l)=>Bk key bf a m a2 l W hk f aa
 obtain⟨K,hK⟩:=í (bY key);simp only[<-hK]at a1 ax⊢;clear hK;have u:=J a1;obtain⟨d,z⟩:=í ((w.alloc (ο (jB s) 94)).alloc (ο K 24));have g2:G w d N:=by rw[z];exact aW (aC _ _ _) _
 have b1:d.heap[w.heap.size+1]?=E (ο K 24 (0,0)):=by rw[z,<-dJ w (ο (jB s) 94)];exact aM _ _
 have b0:d.heap[w.heap.size]?=E (ο (jB s) 94 (0,0)):=by rw[z];exact bp (aM _ _) (aC _ _ N)
 obtain⟨d0,d3,d7,d8,d9⟩:κ d ⟨w.heap.size,0,N⟩=E (I X s.kind)/\κ d ⟨w.heap.size,3,N⟩=E (I X s.q.op)/\κ d ⟨w.heap.size,7,N⟩=E (ς s.q.data)/\κ d ⟨w.heap.size,8,N⟩=E (Y s.la s.ln s.lc)/\κ d ⟨w.heap.size,9,N⟩=E (ς s.s):=by simp[κ,b0,jB]
 replace d0:=kc d0;replace d3:=kc d3;replace d7:=kc d7;replace d8:=kc d8;replace d9:=kc d9;have gr:=au d N;have a3:=J (hs.fr.ag g2);have b7:=hs.text;have b8:=hs.data;have V:=J (λW=>rq s.s W);have ai:=J (λW=>tB W s.s);have A:=J (λW=>rq s.q.data W);have B:=J (λW=>tB W s.q.data);let⟨kind,a,b,⟨op,stream,qn,code,data⟩,la,ln,lc,fs,str⟩:=s
 unfold jB at z⊢;simp only at *;replace⟨b0,b1,hs⟩:=cA b0 b1 hs;go_enter func32,ntmps32;go_upto_region 1 with fail;rw[<-z];clear z;go_upto_if 16 with fail;go_cut [5] (λv wx=>∃a n c fs,v=Y a n c/\lq wx a n c fs/\G d wx N);case first=>
  by_cases h5:kind=5
  .subst h5;obtain⟨j,k⟩:=í (Lib.bytesWorld d 5 str);obtain⟨cc,M⟩:=í (grownCap d str.size 0 5);have ak:=Z V d;have p:=Z ai d;rw[<-k,<-M]at ak p;have g3:G d j N:=by rw[k];exact r9 d str
   have hD:=J (He j _ _ _ _ p (by rw[iE];omega));clear k M p V ai A B u r;go_wp2_with (go_at_call 63;apply(Z hD).mono;rintro e w6⟨a',n',c',x,y,bx,rfl,C,g6⟩;replace C:=J C);go_meet;exact⟨a',n',c',bx,Q,Z C,aq g3 g6⟩
  have e5:(kind==5)=θ:=by simpa using h5
  clear V ai A B u r;go_wp2;go_meet;exact⟨la,ln,lc,fs,Q,Z a3,gr⟩
 case rest=>
  obtain⟨a5,n5,c5,bz,rfl,a4,g5⟩:=hcut;have hB:=J (Hf wc a5 n5 c5 bz a4);clear a4 a3 V ai;go_upto_region 5 with(go_at_call 64;apply(Z hB).mono;rintro e w6⟨⟨ok,rfl⟩,g6⟩;have a9:=aq g5 g6;clear g6)
  go_cut [35] (λv wx=>∃t:Bool,v=β t/\wx=w6);case first=>
   clear r u A B;by_cases F:kind=2
   .subst F;by_cases C:op=6
    .subst C;go_wp2;go_meet;exact⟨ρ,Q,Q⟩
    have e6:(op==6)=θ:=by simpa using C
    go_wp2;go_meet;exact⟨θ,Q,Q⟩
   have e2:(kind==2)=θ:=by simpa using F
   go_wp2;go_meet;exact⟨θ,Q,Q⟩
  case rest=>
   obtain⟨t,rfl,bb⟩:=hcut;rw[bb];clear bb;go_upto_if 35 with fail;go_cut [6] (λv wx=>∃ok:Bool,v=β ok/\G d wx N);case first=>
    clear r;cases t
    .go_wp2_with fail;go_meet;exact⟨ok,Q,a9⟩
    go_upto_region 7 with fail;go_loopw [6,7] (λbA iv wr=>∃(ok:Bool)(i:Nat),i<=2/\bA=β ok/\iv=I X i/\G d wr N) (λ_ iv _=>2-(intOf iv).toNat);case atStart=>exact⟨ok,0,O,Q,Q,a9⟩
    case round=>
     obtain⟨ok,i,hi,rfl,rfl,g⟩:=hrel;by_cases ca:i<2
     .have w1:X.wrap ((i:Int)+1)=(i:Int)+1:=ä;have d1:decide ((i:Int)<2)=ρ:=α;have bj:=J ((g.block (w.heap.size+1) (aV.1 (Z b1)).1 Γ).trans (Z b1));obtain⟨j,k⟩:=í (Lib.bytesWorld wr 5 data);obtain⟨cc,M⟩:=í (grownCap wr data.size 0 5);have ak:=Z A wr;have p:=Z B wr;rw[<-k,<-M]at ak p;have g3:G d j N:=by rw[k];exact aq g (r9 wr data)
      have H:=Z u (i:Int) (by unfold W8;omega) _ _ _ _ j p;have al:=iE data;obtain⟨L,br⟩:=í (bl data);rw[<-br]at H al;replace⟨al,H⟩:=aT al H;clear k M p A B u br;by_cases ho:dZ key (i:Int) L
      .go_upto_region 11 with(first
        |(refine lK _ Ξ Ξ _ Ξ K ?_ ax ?_;exact Z bj)
        |(go_at_call 65;apply(Z H).mono;rintro e w7⟨P,g7⟩;obtain⟨-,a7,c7,rfl,o7⟩:dZ key (i:Int) L/\∃a' c',e=ξ (τ #[I U (bu L),Y a' (L.length-16) c',β ρ])/\aS w7 j.heap.size (Y a' (L.length-16) c') (cV key (i:Int) (bu L) (bO L)):=P.elim id (λh=>absurd ho h.1);clear P;obtain⟨L7,ao⟩:∃L7,aS w7 j.heap.size (Y a7 (L.length-16) c7) L7:=⟨_,o7⟩;clear o7;replace ao:=J ao))
       have a0:=(Z ao).eV;have bt:L7.length<=100000000:=by have:=a0.2.1;have:=Z al;omega
       have hD:=J (He w7 a7 (L.length-16) c7 L7 a0 bt);have bM:=aq g3 g7;clear a0 ao g7 H ak bt;go_upto_region 12 with(go_at_call 63;apply(Z hD).mono;rintro e w8⟨a8,n8,c8,x,y,b3,rfl,f,g8⟩)
       have b4:=J (Hf w8 a8 n8 c8 b3 f);have b5:=aq bM g8;clear f g8 hD;go_upto_region 13 with(go_at_call 64;apply(Z b4).mono;rintro e w9⟨⟨more,rfl⟩,g9⟩;have bw:=aq b5 g9;clear g9)
       cases ok
       .go_wp2_with fail;exact⟨⟨θ,i+1,O,Q,Γ,bw⟩,by simp[intOf];omega⟩
       go_wp2_with fail;exact⟨⟨more,i+1,O,Q,Γ,bw⟩,by simp[intOf];omega⟩
      go_wp2_with (first
       |(refine lK _ Ξ Ξ _ Ξ K ?_ ax ?_;exact Z bj)
       |(go_at_call 65;apply(Z H).mono;rintro e w7⟨P,g7⟩;obtain⟨-,rfl⟩:¬dZ key (i:Int) L/\e=ξ (τ #[I U 0,Y N 0 0,β θ]):=P.elim (λh=>absurd h.1 ho) id;clear P))
      exact⟨⟨ok,i+1,O,Q,Γ,aq g3 g7⟩,by simp[intOf];omega⟩
     have d1:decide ((i:Int)<2)=θ:=é;go_wp2;go_meet;exact⟨ok,Q,g⟩
   case rest=>
    obtain⟨b6,rfl,g9⟩:=hcut;have S:=J (λb=>Z r b wc (aq g2 g9));clear r u A B hB;cases b6
    .go_wp2_with fail;exact Z S _
    by_cases F:kind=2
    .subst F;by_cases h3:op=3
     .subst h3;go_wp2_with fail;exact Z S _
     have e3:(op==3)=θ:=by simpa using h3
     have cf:(op !=3)=ρ:=by simpa using h3
     by_cases f:op=8
     .subst f;go_wp2_with fail;exact Z S _
     have ch:(op !=8)=ρ:=by simpa using f
     go_wp2_with fail;exact Z S _
    have e2:(kind==2)=θ:=by simpa using F
    have cm:(kind !=2)=ρ:=by simpa using F
    go_wp2_with fail;exact Z S _
structure sU(w:D)(s:iA):Prop where
 a:ie s.a
 b:ie s.b
 n:ie s.q.n
 code:aZ s.q.code
 fr:lq w s.la s.ln s.lc s.fs
 ds:s.q.data.size<=140737488351232
 ts:s.s.size<=140737488351232
 ls:s.ln<=140737488351232
 each:∀j,j<s.fs.length->(eR s.fs j).data.size<=140737488351232/\(eR s.fs j).ranges.length<=140737488351232
def sU.ag{s:iA}(h:sU w s)(g:G w W N):sU W s:=⟨h.a,h.b,h.n,h.code,h.fr.ag g,h.ds,h.ts,h.ls,h.each⟩
def gO(l:List iA)(i:Nat):iA:=l.getD i ⟨0,0,0,⟨0,0,0,0,⟨#[]⟩⟩,N,0,0,[],⟨#[]⟩⟩
def Hg{l:List iA}(h:i<l.length):gO l i∈l:=by
 unfold gO;rw[uH,dB h];exact tt h
def rQ(w:D)(a:Option Addr)(n d:Nat)(c:List iA):Prop:=
 n=c.length/\n<=d/\d<=maxLen/\(∀s∈c,sU w s)/\(c=[]\/∃b o,a=E ⟨b,o,N⟩/\∀i,i<c.length->w.rangeAt b (o+i*10) (jB (gO c i)).toList)
def rQ.ag{c:List iA}(h:rQ w a n k c)(g:G w W N):rQ W a n k c:=by
 obtain⟨d,f,j,l,m⟩:=h;refine⟨d,f,j,λs hs=>(l s hs).ag g,m.imp id ?_⟩
 rintro⟨b,o,e,p⟩;exact⟨b,o,e,λi hi=>jE (p i hi) g Γ⟩
def oT(fs:List Fr):Nat->Nat
 |0=>0
 |j+1=>oT fs j+((eR fs j).data.size+(eR fs j).ranges.length)
def sV(s:iA):Nat:=s.s.size+s.q.data.size+s.ln+oT s.fs s.fs.length
def oU(a:List iA):Nat->Nat
 |0=>0
 |i+1=>oU a i+sV (gO a i)
def TD(a:List iA):∀i j,j<i->sV (gO a j)<=oU a i:=by
 intro i;induction i with
 |zero=>intro j h;omega
 |succ i b=>
  intro j h;unfold oU;by_cases e:j=i;subst e;omega;have:=b j O;omega
def TE(fs:List Fr):fh fs<=25*fs.length+16*oT fs fs.length:=by
 have key:∀(a hs:List Fr),fs=a++hs->fh hs+16*oT fs a.length<=25*hs.length+16*oT fs fs.length:=by
  intro a hs;induction hs generalizing a with
  |nil=>intro e;subst e;simp[fh]
  |cons f hs b=>
   intro e;have c:=b (a++[f]) (by rw[e];simp);have d:eR fs a.length=f:=by unfold eR;rw[e];simp[List.getD]
   rw[bS,wK]at c;have g:oT fs (a.length+1)=oT fs a.length+((eR fs a.length).data.size+(eR fs a.length).ranges.length):=rfl;rw[d]at g;simp only[fh,kX,dY]
   omega
 have:=key [] fs Q;simp only[eJ,oT]at this;omega
def TF{s:iA}(h:sU w s)(c:sV s<=16384):rP w s:=by
 have hl:s.ln=s.fs.length:=h.fr.1;have d:=TE s.fs;unfold sV at c;exact⟨h.a,h.b,h.n,h.code,h.fr,O,O,O⟩
def TG(w:D)(a:List iA)(e:Ending)(c:D):Prop:=G w c N/\∃b,e=ξ (β b)/\(b=ρ->a.length<=16384/\∀i,i<a.length->sV (gO a i)<=16384)
def TH(w:D)(a:Option Addr)(n W:Nat)(d:List iA)(H:rQ w a n W d):
 Calls prog 31 #[Y a n W] w (TG w d):=by
 obtain⟨B,r,h3,t,-⟩:=id H;unfold maxLen at h3;refine fL λR C=>?_
 have F:=J (λ(c:Int)(i:Nat)(w':D)(g:G w w' N)(m:c=(n:Int)+(oU d i:Int)\/16384<c)(hi:i=n\/16384<c)=>(show R (ξ (β (decide (c<=16384)))) w' by
  rw[C];refine⟨g,_,Q,λhb=>?_⟩
  have cc:=of_decide_eq_true hb;have cf:i=n:=O;have ch:c=(n:Int)+(oU d i:Int):=O;refine⟨O,λj hj=>?_⟩
  have:=TD d i j O;omega))
 replace⟨C,H,t,B⟩:=fB C H t B;go_enter func31,ntmps31;go_wp2;go_loopw [3,4] (λK L wr=>∃(i:Nat)(c:Int),i<=n/\L=I X i/\K=I X c/\(c=(n:Int)+(oU d i:Int)\/16384<c)/\0<=c/\c<=9223372036854775807/\G w wr N) (λ_ L _=>n-(intOf L).toNat);case atStart=>exact⟨0,(n:Int),O,Q,by simp[oU],φ (by simp[oU]),O,O,au _ _⟩
 case round=>
  obtain⟨i,c,hi,rfl,rfl,m,cp,ct,g⟩:=hrel;obtain⟨f,rfl⟩:=í wr;by_cases cv:i<n
  .have d1:decide ((i:Int)<n)=ρ:=α;by_cases al:c<=16384
   .have d2:decide (c<=16384)=ρ:=bU al;have w1:X.wrap ((i:Int)+1)=(i:Int)+1:=ä;have j0:(0:Int)<=i:=O;have j1:(i:Int)<n:=O;have u:i<d.length:=by have:=Z B;omega
    have bz:=(Z t _ (Hg u)).ag g;obtain⟨-,-,-,-,h5⟩:=(Z H).ag g;obtain e|⟨b,o,rfl,h6⟩:=h5
    rw[e]at u;exact absurd u (wV _);have v:=h6 i u;have c7:κ f ⟨b,o+i*10+7,N⟩=E (ς (gO d i).q.data):=v 7 _ Q;have c8:κ f ⟨b,o+i*10+8,N⟩=E (Y (gO d i).la (gO d i).ln (gO d i).lc):=v 8 _ Q;have c9:κ f ⟨b,o+i*10+9,N⟩=E (ς (gO d i).s):=v 9 _ Q;clear v h6;have P:c=(n:Int)+(oU d i:Int):=O;have h:oU d (i+1)=oU d i+sV (gO d i):=rfl;unfold sV at h;obtain⟨x1,x2,x3,x4,l,x5,x6,x7,x8⟩:=bz;obtain⟨s,a3⟩:=í (gO d i);rw[<-a3]at c7 c8 c9 h l x5 x6 x7 x8;obtain⟨kind,sa,da,⟨op,stream,qn,code,data⟩,la,ln,lc,fs,str⟩:=s;simp only at c7 c8 c9 h l x5 x6 x7 x8;clear a3 x1 x2 x3 x4;replace⟨P,h,m⟩:=cA P h m;obtain⟨x,dc,b6,S⟩:=id l;simp only[maxLen]at b6;replace⟨x,l,S,x8⟩:=fB x l S x8;clear F;go_upto_region 5 with fail;go_region;go_wp2;go_loopw [3,5] (λK T wr=>∃(k:Nat)(M:Int),k<=ln/\T=I X k/\K=I X M/\M=c+(str.size:Int)+(data.size:Int)+(ln:Int)+(oT fs k:Int)/\M<=9223372036854775807/\G f wr N) (λ_ T _=>ln-(intOf T).toNat);case atStart=>exact⟨0,_,mP _,Q,Q,by simp[oT],O,aK (au _ N)⟩
    case round=>
     obtain⟨k,M,hk,rfl,rfl,y,a4,gk⟩:=hrel;have dg:=ì gk c8;have dk:0<=M:=O;replace y:=J y;have gg:G w wr N:=aq g gk;by_cases dm:k<ln
     .have e1:decide ((k:Int)<ln)=ρ:=α;by_cases a9:M<=16384
      .have e2:decide (M<=16384)=ρ:=bU a9;have w2:X.wrap ((k:Int)+1)=(k:Int)+1:=ä;have k0:(0:Int)<=k:=O;have k1:(k:Int)<ln:=O;have bb:k<fs.length:=by have:=Z x;omega
       obtain e|⟨fb,fo,rfl,-⟩:=Z S
       omega;obtain⟨rv,⟨-,-,ra,rc,rfl,-⟩,V⟩:=((Z l).ag gk).at k bb;have f5:κ wr ⟨fb,fo+k*7+5,N⟩=E (ς (eR fs k).data):=V 5 _ Q;have f6:κ wr ⟨fb,fo+k*7+6,N⟩=E (Y ra (eR fs k).ranges.length rc):=V 6 _ Q;obtain⟨y1,y2⟩:=Z x8 k bb;have p:oT fs (k+1)=oT fs k+((eR fs k).data.size+(eR fs k).ranges.length):=rfl;obtain⟨fd,bt⟩:=í ((eR fs k).data);obtain⟨fn,bw⟩:=í ((eR fs k).ranges.length);rw[<-bt]at f5 y1 p;rw[<-bw]at f6 y2 p;replace p:=J p;clear V bt bw;go_upto_region 9 with fail;go_region;go_wp2_with fail;refine⟨⟨k+1,_,O,Γ,Q,?_,O,aK gk⟩,by simp[intOf];omega⟩
       have h1:=Z y;have r:=Z p;rw[r];push_cast;omega
      have e2:decide (M<=16384)=θ:=bT a9;go_wp2;exact⟨⟨i+1,M,O,Γ,Q,ψ O,O,a4,gg⟩,by simp[intOf];omega⟩
     have e1:decide ((k:Int)<ln)=θ:=é;have z:M=(n:Int)+(oU d (i+1):Int):=by
      have h1:=Z y;have r:=Z h;have h3:=Z P;have t:=Z x;obtain rfl:k=fs.length:=O;rw[r];push_cast;omega
     replace z:=J z;go_wp2;exact⟨⟨i+1,M,O,Γ,Q,φ (Z z),by have:=Z z;omega,a4,gg⟩,by simp[intOf];omega⟩
   have d2:decide (c<=16384)=θ:=bT al;have A:=J (Z F c i f g m (ψ O));rw[d2]at A;go_wp2_with fail;exact Z A
  have d1:decide ((i:Int)<n)=θ:=é;have A:=J (Z F c i f g m (φ O));go_wp2_with fail;exact Z A
