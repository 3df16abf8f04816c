import Derived.Test.YtjnmokmchdfchaaGreatDoorZSi
set_option maxRecDepth 1000000
set_option maxHeartbeats 0
set_option linter.all false
namespace Go.Proofs.YtjnmokmchdfchaaGreatDoor
open Go.RowKit Tryz
open Go.Value renaming int→I,slice→Y,bool→β,pointer→π,agg→ε,string→ς,tuple→τ
open Go.IntKind renaming i64→X,u64→U,u8→Δ
open Go.Ending renaming returned→ξ
open Go.Obj renaming cells→ο
open Or renaming inl→φ,inr→ψ
open Option renaming some→E,none→N
open Bool renaming true→ρ,false→θ
open Go renaming World→D,Value→υ
open Go.World renaming grownBy→G,cell?→κ,frozen?→χ,setCell→ζ
attribute[local go_sem↓]Go.wp_at_zero Go.wp_at_succ
variable{c:Array υ}{B:Bool}{u:Fr}{p q t:Int}{L:List Int}{s:List Rg}{b i j k l m n o:Nat}{P S:Nat->Prop}{a:Option Addr}{H:Ot}{d:Sd}{x y:υ}{V W v w:D}{F:aY}{f:ah}
def Pg(w:D)(xb sb:Nat)(st:bg)(A:Nat->Prop)(n:Nat)(h:dp w xb sb st A)(r:ix n st)(k aJ:Int):
 Calls prog 99 #[π (E ⟨xb,0,none⟩),I X k,I X aJ] w λe d=>∃a m c,e=ξ (τ #[Y a m c,I X (st.read k aJ).2.1,I U (st.read k aJ).2.2.1,cF (st.read k aJ).2.2.2.1])/\aS d w.heap.size (Y a m c) (st.read k aJ).1/\∃b,dp d xb sb (st.read k aJ).2.2.2.2 b/\(∀k,b k->A k\/w.heap.size<=k)/\aj w d A/\∀j,(Y a m c).ownBlock=E j->¬b j:=by
 refine OM w xb sb h.cell k aJ _ (λe d M=>?_) ?_;grind;cases st with
 |bh s=>
  let⟨B,v,H,C⟩:=h.side
  unfold bg.read;by_cases f:k<0\/4<=k;simp only[aH f]
  refine(CT w sb 0 k _ H.lg (by rw[qh f];decide)).mono ?_;rintro e d⟨rfl,g⟩;rw[qh f];let⟨b,l,i,p⟩:=h.to (N:=w.heap.size) g
  exact⟨none,0,0,Q,aS.nil _ _,b,l,i,p,nofun⟩
  simp only[aE f]
  have t:k.toNat<4:=O;have F:((k.toNat:Nat):Int)=k:=O;have u:=r.aF _ t;apply(F▸Kf w 0 sb B v s H _ t _ (u.nice r.av.2) u.whole).mono;rintro e d⟨a,m,c,rfl,x,P,q,K,T⟩;let⟨b,l,i,p⟩:=(h.ag q).pJ (H.ag q) C T
  have R:=q.size;refine⟨a,m,c,Q,x,b,l,λk f=>(i k f).imp id (λh=>O),((aj.of q).trans p).mono (λk _ e=>e.elim (nofun) id),λj e L=>?_⟩
  have S:=K j e;have V:=(x.lt j e).1;obtain y|y:=i j L
  have:=h.lt j y;omega;omega
 |shut aI W=>
  obtain⟨z,last,ai,H,-,-⟩:=h.side;refine(CT w sb _ k _ H.dS (by rw[qi z];decide)).mono ?_;rintro e d⟨rfl,g⟩;rw[qi z];let⟨b,l,i,p⟩:=h.to (N:=w.heap.size) g
  exact⟨none,0,0,Q,aS.nil _ _,b,l,i,p,nofun⟩
def Ph(w:D)(xb sb:Nat)(st:bg)(A:Nat->Prop)(e:Ending)(b:D):Prop:=
 ∃a n c d f,e=ξ (Y a n c)/\fC b 0 (Y a n c) d/\jg b 0 d/\d.map (·.2)=st.fW.2/\dp b xb sb st.fW.1 f/\(∀k,f k->A k\/w.heap.size<=k)/\aj w b A/\∀e∈d,¬f e.1/\(Y a n c).ownBlock≠E e.1/\(A e.1\/w.heap.size<=e.1)
def dp.Pj{l:Sd}{g:aY}(h:dp w n i (.bh d) P)(j:∀k,bn i F k->P k/\k≠n)(S:bF W 0 i c g l)(b:dz w.heap.size w W i F g):dp W n i (.bh l) (λk=>k=n\/bn i g k)/\(∀k,(k=n\/bn i g k)->P k\/w.heap.size<=k)/\aj w W P:=by
 have m:=h.lt n h.lD;refine⟨⟨(b.aA.block n m (λe=>(j n (φ e)).2 Q)).trans h.aG,⟨c,g,S,λk a=>⟨ψ a,λe=>?_⟩⟩,φ Q,λk a=>?_,λe=>?_⟩,λk a=>?_,b.aA.mono (λk _ e=>(j k (φ e)).1)⟩
 subst e;obtain f|f:=b.ar k a
 grind;omega;obtain rfl|a:=a
 exact bX m b.aA.size;exact px S.bB a;obtain e|e:=e
 exact h.n0 (e▸h.lD);obtain f|f:=b.ar 0 e
 exact h.n0 (j 0 f).1;omega;obtain rfl|a:=a
 exact φ h.lD;obtain f|f:=b.ar k a
 simp_all;grind
def Pm(w:D)(xb sb:Nat)(st:bg)(A:Nat->Prop)(n:Nat)(h:dp w xb sb st A)(i:ix n st)(R:n<=100000):
 Calls prog 96 #[π (E ⟨xb,0,N⟩)] w (Ph w xb sb st A):=by
 refine OK w xb sb h.cell _ (λe r m=>?_) ?_;obtain⟨a,n,c,-,-,m,-⟩:=m;exact⟨_,m⟩
 cases st with
 |bh s=>
  let⟨z,v,H,j⟩:=h.side
  have B:=i.aQ;apply(O5 w 0 sb z v s H i.AL ⟨B.1,O⟩ i.c8 i.np i.cr).mono;rintro e r⟨a,n,c,T,V,t,rfl,S,F,L,p⟩;let⟨u,q,K⟩:=h.Pj j S F
  refine⟨a,n,c,_,_,Q,L.own.low (mP _),⟨λe b=>⟨mP _,(L.at_.at_ e b).2⟩,L.at_.sep⟩,p,u,q,K,λe b=>⟨λd=>?_,L.s5 e b,ψ (L.at_.at_ e b).1⟩⟩
  obtain d|d:=d
  have W:=(L.at_.at_ e b).1;have h5:=h.lt xb h.lD;omega;exact L.ae e b d
 |shut aI l'=>
  let⟨x,last,t,H,p,j⟩:=h.side
  have y:=h.lt xb h.lD;have l:=j sb (φ Q);apply(Nr w 0 sb _ _ _ H x).mono;rintro e r⟨a,n,c,rfl,S,M,P,u,q,g⟩;have C:=(aj.of g).mono (λk _ e=>(aR e).symm);refine⟨a,n,c,t,λk=>k=xb\/k=sb,Q,M,P,p,⟨(C.block xb y (λe=>l.2 e.symm)).trans h.aG,⟨x,_,[],S,Q,λk f=>?_⟩,φ Q,λk f=>?_,λe=>?_⟩,λk f=>?_,C.mono (λk _ e=>by rw[e];exact l.1),λe b=>⟨λd=>?_,(q e b).2,φ (j e.1 (ψ (ψ ⟨e,b,Q⟩))).1⟩⟩
  obtain rfl|f|⟨e,b,-⟩:=f
  omega;cases f;cases b;obtain rfl|rfl:=f
  exact bX y C.size;exact bX (h.lt _ l.1) C.size;obtain e|e:=e
  exact h.n0 (e▸h.lD);exact h.n0 (e▸l.1);obtain rfl|rfl:=f
  exact φ h.lD;grind;obtain d|d:=d
  exact(j _ (ψ (ψ ⟨e,b,Q⟩))).2 d;grind
def Pn(w:D)(xb sb:Nat)(st:bg)(A:Nat->Prop)(n:Nat)(h:dp w xb sb st A)(k:ix n st)(x:n<=100000)(y:Laid w)(a:Option Addr)(m c:Nat)(p:List Int)(z:bD w a m c p):
 Calls prog 98 #[π (E ⟨xb,0,N⟩),Y a m c] w λe b=>∃f,e=ξ f/\vR b f (st.recv p).1 (st.recv p).2.1/\(∀F,f=.iface 177 (π (E ⟨F,0,N⟩))->w.heap.size<=F)/\fm w.heap.size w xb sb A (st.recv p).2.2 b:=by
 refine OL w xb sb h.cell _ _ (λe b M=>?_) ?_;grind;have t:∀(n:Int) F,cF n=.iface 177 (π (E ⟨F,0,N⟩))->w.heap.size<=F:=λn F e=>by
  unfold cF at e;grind
 cases st with
 |bh s=>
  let⟨B,v,H,i⟩:=h.side
  have C:=k.aQ;have P:=k.ll;apply(Oy w 0 sb B v s p H k.key (k.O6 x) O ⟨C.1,O⟩ k.np k.c8 y (λe=>h.n0 (i 0 (φ e)).1) a m c z).mono;show∀e b,yD w 0 sb v s p e b->∃f,e=ξ f/\vR b f (s.recv p).1 (s.recv p).2.1/\(∀F,f=.iface 177 (π (E ⟨F,0,N⟩))->w.heap.size<=F)/\fm w.heap.size w xb sb A (s.recv p).2.2 b;rintro e b(⟨d,rfl,T⟩|⟨d,j,rfl,T⟩|⟨d,j,q,F,l,rfl,hF,K,T⟩|⟨d,j,fs,l,⟨r,rfl,T⟩|⟨r,u,rfl,T⟩|⟨r,u,rfl,T⟩⟩);unfold Sd.recv;rw[aH d];exact⟨_,Q,φ ⟨Q,Q⟩,t 4,h.pJ H i T⟩
  unfold Sd.recv;rw[aE (by simpa using d),aH j];exact⟨_,Q,φ ⟨Q,Q⟩,λF e=>(by cases e),h.pJ H i T⟩
  unfold Sd.recv;rw[aE (by simpa using d),aE (by rw[j];decide),l];refine⟨_,Q,ψ ⟨F,Q,K⟩,λR e=>?_,h.close H i Θ T⟩
  grind;unfold Sd.recv;rw[aE (by simpa using d),aE (by rw[j];decide),l];simp only[aH r]
  exact⟨_,Q,φ ⟨Q,Q⟩,t 6,h.pJ H i T⟩
  unfold Sd.recv;rw[aE (by simpa using d),aE (by rw[j];decide),l];simp only[r,iV,iJ,aH u]
  exact⟨_,Q,φ ⟨Q,Q⟩,λF e=>(by cases e),h.pJ H i T⟩
  unfold Sd.recv;rw[aE (by simpa using d),aE (by rw[j];decide),l];simp only[r,iV,iJ,aE u]
  exact⟨_,Q,φ ⟨Q,Q⟩,t _,h.close H i u T⟩
 |shut aI S=>
  obtain⟨L,last,V,H,-,-⟩:=h.side;apply(Oz w sb _ H.dS L _).mono;rintro e b⟨rfl,g⟩;exact⟨_,Q,φ ⟨Q,Q⟩,t 9,h.to g⟩
structure iy where
 op:Int
 stream:Int
 n:Int
 code:Int
 data:ByteArray
def gJ(q:iy):Array υ:= #[I X q.op,I X q.stream,I X q.n,I U q.code,ς q.data]
structure Rs where
 e:Int
 at_:Int
 n:Int
 code:Int
 data:List Int
 fW:List (List Int)
noncomputable def bg.do(st:bg)(q:iy):Rs×bg:=
 if q.op=1 then(⟨(st.write q.stream (bl q.data)).2.1,-1,(st.write q.stream (bl q.data)).1,0,[],[]⟩,(st.write q.stream (bl q.data)).2.2)
 else if q.op=2 then(⟨(st.finish q.stream).1,-1,0,0,[],[]⟩,(st.finish q.stream).2)
 else if q.op=3 then(⟨(st.giveUp q.stream q.code).1,-1,0,0,[],[]⟩,(st.giveUp q.stream q.code).2)
 else if q.op=4 then(⟨0,-1,0,0,[],[]⟩,st.tick)
 else if q.op=5 then(⟨0,-1,0,0,[],st.fW.2⟩,st.fW.1)
 else if q.op=6 then(⟨(st.recv (bl q.data)).1,(st.recv (bl q.data)).2.1,0,0,[],[]⟩,(st.recv (bl q.data)).2.2)
 else if q.op=7 then(⟨(st.read q.stream q.n).2.2.2.1,-1,(st.read q.stream q.n).2.1,(st.read q.stream q.n).2.2.1,(st.read q.stream q.n).1,[]⟩,(st.read q.stream q.n).2.2.2.2)
 else if q.op=8 then(⟨(st.close q.code).1,-1,0,0,[],[]⟩,(st.close q.code).2)
 else if q.op=9 then(⟨(st.af q.stream).2,-1,(st.af q.stream).1,0,[],[]⟩,st)
 else(⟨0,-1,0,0,[],[]⟩,st)
def fq(w:D)(a:Nat)(v:υ)(l:List (List Int)):Prop:=w.ownsRow a 9 1 v l.length (l.map λp=>ς (strOfNums p))
def fq.nil(w:D)(a:Nat):fq w a (Y N 0 0) []:=lI _ _ _ _
def uk(w:D)(xb sb:Nat)(A:Nat->Prop)(r:Rs×bg)(e:Ending)(b:D):Prop:=
 ∃a n c,e=ξ (τ #[I X r.1.e,I X r.1.at_,I X r.1.n,I U r.1.code,ς (strOfNums r.1.data),Y a n c])/\fq b w.heap.size (Y a n c) r.1.fW/\∃d,dp b xb sb r.2 d/\(∀k,d k->A k\/w.heap.size<=k)/\aj w b A/\∀j,(Y a n c).ownBlock=E j->¬d j
structure lW(w:D)(q:iy)(c a:D):Prop where
 e1:c=w.alloc (ο (gJ q) 32)
 e2:a=Lib.bytesWorld c 5 q.data
 g:G w a N
 z:c.heap.size=w.heap.size+1
 z2:a.heap.size=w.heap.size+2
 b:a.heap[w.heap.size]?=E (ο (gJ q) 32 (0,0))
def lW.mk'(w:D)(q:iy):∃a b,lW w q a b:=by
 refine⟨_,_,Q,Q,aq (aC _ _ _) (r9 _ _),dJ _ _,by rw[Lib.bytesWorld_size,dJ],bp (aM _ _) (r9 _ _)⟩
def lW.fin{a b:D}{q:iy}(c:lW w q W v){st:bg}(d:∀k,S k->k<w.heap.size)(T:fm v.heap.size v n i S st V)(f:G V a (E (w.heap.size+1)))(h:G a b N):fm w.heap.size w n i S st b:=by
 have m:=c.z2;have j:fm v.heap.size w n i S st a:=(T.pre c.g).other (aj.of f) (λk _ e=>by
  have:=aR e;exact⟨λl=>by have:=d k l;omega,O,O⟩)
 exact(j.ag h).mono O
def lW.post{q:iy}(f:lW w q W v){r:Rs×bg}(hd:r.1.data=[])(hp:r.1.fW=[])(T:fm w.heap.size w k i S r.2 V):uk w k i S r (ξ (τ #[I X r.1.e,I X r.1.at_,I X r.1.n,I U r.1.code,ς ⟨#[]⟩,Y N 0 0])) V:=by
 obtain⟨a,b,c,d⟩:=T;exact⟨N,0,0,by rw[hd];rfl,by rw[hp];exact fq.nil _ _,a,b,c,d,nofun⟩
def lW.AO{q:iy}(a:lW w q W v)(b:∀k,S k->k<w.heap.size)(C:aj v V S)(hd:q.data.size<=1000000)(c:Nat):
 Calls prog 97 #[Y (E ⟨w.heap.size+1,0,N⟩) q.data.size c] V λe d=>e=ξ (τ #[])/\G V d (E (w.heap.size+1)):=by
 have:=OR W V q.data O (by rw[C.block _ (by rw[a.z,a.z2];omega) (λf=>by have:=b _ f;rw[a.z]at this;omega),a.e2]) c;rw[a.z]at this;exact this
def lW.bs{q:iy}(a:lW w q W v)(hd:q.data.size<=1000000):bD v (E ⟨w.heap.size+1,0,N⟩) q.data.size (grownCap W q.data.size 0 5) (bl q.data):=by
 have:=tB W q.data;rw[a.z,<-a.e2]at this;exact this
def lW.told{a:D}{q:iy}(c:lW w q W v)(h0:¬S 0)(f:Laid w)(C:aj v V S)(d:G V a (E (w.heap.size+1))){ev:υ}{n p:Int}(b:vR V ev n p)(hF:∀F,ev=.iface 177 (π (E ⟨F,0,N⟩))->v.heap.size<=F):
 Calls prog 39 #[ev] a λe h=>e=ξ (τ #[I X n,I X p])/\G a h N:=by
 have i:=c.z2;refine OS a ev n p (((f.gb c.g).aA C h0).gb d) ?_;obtain b|⟨F,e,aa⟩:=b
 exact φ b;have j:=hF F e;exact ψ ⟨F,e,(d.block F (aV.1 aa).1 (by grind)).trans aa⟩
def FC(e:cF p=.iface 177 (π (E ⟨i,0,N⟩))):k<=i:=by
 unfold cF at e;grind
def AP(a:D)(xb sb:Nat)(A:Nat->Prop)(r:Rs×bg)(c b:υ)(wx:D):Prop:=
 c=I X r.1.n/\vR wx b r.1.e r.1.at_/\(∀F,b=.iface 177 (π (E ⟨F,0,N⟩))->a.heap.size<=F)/\fm a.heap.size a xb sb A r.2 wx/\r.1.code=0/\r.1.data=[]/\r.1.fW=[]
def AP.of{r:Rs×bg}{e:Int}{s:bg}(a:r=(⟨e,-1,p,0,[],[]⟩,s))(T:fm w.heap.size w k i S s W):AP w k i S r (I X p) (cF e) W:=by
 subst a;exact⟨Q,φ ⟨Q,Q⟩,λF e=>FC e,T,Q,Q,Q⟩
def Pr(w:D)(xb sb:Nat)(st:bg)(A:Nat->Prop)(n:Nat)(h:dp w xb sb st A)(z:ix n st)(V:n<=100000)(B:Laid w)(q:iy)(C:aZ q.code)(h5:q.op≠5)(h7:q.op≠7)(hd:q.data.size<=1000000):
 Calls prog 60 #[π (E ⟨xb,0,N⟩),ε (gJ q)] w (uk w xb sb A (st.do q)):=by
 refine fL λR F=>?_
 obtain⟨W1,c,f⟩:=lW.mk' w q;obtain⟨s,j⟩:=í (AP c xb sb A (st.do q));have H:=J (λ(m:D)(T:fm c.heap.size c xb sb A (st.do q).2 m)=>f.AO h.lt T.choose_spec.2.2 hd);have K:=J (λ(m t:D)(T:fm c.heap.size c xb sb A (st.do q).2 m)(y:G m t (E (w.heap.size+1))) ev=>f.told h.n0 B T.choose_spec.2.2 y (ev:=ev) (n:=(st.do q).1.e) (p:=(st.do q).1.at_));have L:=J (λ(m t M:D)(T:fm c.heap.size c xb sb A (st.do q).2 m)(y:G m t (E (w.heap.size+1)))(W:G t M N) a b=>f.post (r:=st.do q) a b (f.fin h.lt T y W));have k:=h.ag f.g;have h1:=J (O7 c xb sb st A n k z q.stream _ _ _ _ (f.bs hd));have h2:=J (O8 c xb sb st A k q.stream);have h3:=J (O9 c xb sb st A k q.stream q.code C);have h4:=J (Pd c xb sb st A n k z V);have h6:=J (Pn c xb sb st A n k z V (B.gb f.g) _ _ _ _ (f.bs hd));have h8:=J (Pe c xb sb st A n k z V q.code C);have h9:=J (Pb c xb sb st A n k z q.stream);have bw:=rq q.data;obtain⟨d0,d1,d2,d3,d4⟩:κ c ⟨w.heap.size,0,N⟩=E (I X q.op)/\κ c ⟨w.heap.size,1,N⟩=E (I X q.stream)/\κ c ⟨w.heap.size,2,N⟩=E (I X q.n)/\κ c ⟨w.heap.size,3,N⟩=E (I U q.code)/\κ c ⟨w.heap.size,4,N⟩=E (ς q.data):=by simp[κ,f.b,gJ]
 have bb:=f.e1;have bj:=f.e2;obtain⟨r,l⟩:=í (st.do q);rw[<-l]at H K L j F;replace⟨f,h,B,C,F,k⟩:=mY f h B C F k;unfold gJ at *;obtain⟨op,stream,qn,code,data⟩:=q;simp only at *;replace⟨l,j⟩:=aT l j;go_enter func60,ntmps60;go_upto_region 3 with fail;rw[<-bb,<-bj];generalize grownCap W1 data.size 0 5=cap at *;clear bb bj;go_upto_block 0 with fail;go_cut [6,7,8,9,10] (λv6 v7 v8 v9 b3 wx=>v7=I U 0/\v8=ς ⟨#[]⟩/\v9=Y N 0 0/\s v6 b3 wx);case first=>
  clear H K L;have ho:op=1\/op=2\/op=3\/op=4\/op=6\/op=8\/op=9\/(op<1\/9<op):=O;clear h5 h7;obtain rfl|rfl|rfl|rfl|rfl|rfl|rfl|ho:=ho
  rotate_left 7
  .have u:Hid (s (I X 0) .nilIface c):=J (by
    rw[Z j];refine .of (e:=0) ((Z l).trans ?_) ((Z k).to (au _ _));unfold bg.do;dsimp only
    rw[ê,ê,ê,ê,ê,ê,ê,ê,ê])
   obtain⟨q1,q2,q3,q4,q5,q6,q7,q8,q9⟩:(op==1)=θ/\(op==2)=θ/\(op==3)=θ/\(op==4)=θ/\(op==5)=θ/\(op==6)=θ/\(op==7)=θ/\(op==8)=θ/\(op==9)=θ:=Ψ;clear ho;go_wp2;go_meet;exact⟨Q,Q,Q,Z u⟩
  have x:=J ((Z h1).mono (λe i d=>(⟨_,_,d.1,by rw[Z j];exact .of (Z l) d.2⟩:∃a b,e=ξ (τ #[a,b])/\s a b i)));rotate_left
  have x:=J ((Z h2).mono (λe i d=>(⟨_,d.1,by rw[Z j];exact .of (Z l) d.2⟩:∃b,e=ξ b/\s (I X 0) b i)));rotate_left
  have x:=J ((Z h3).mono (λe i d=>(⟨_,d.1,by rw[Z j];exact .of (Z l) d.2⟩:∃b,e=ξ b/\s (I X 0) b i)));rotate_left
  have x:=J ((Z h4).mono (λe i d=>(⟨d.1,by rw[Z j];exact .of (e:=0) (Z l) d.2⟩:e=ξ (τ #[])/\s (I X 0) .nilIface i)));rotate_left
  have x:=J ((Z h6).mono (λe i ⟨b,e1,e2,P,S⟩=>(⟨b,e1,by rw[Z j,Z l];exact⟨Q,e2,P,S,Q,Q,Q⟩⟩:∃b,e=ξ b/\s (I X 0) b i)));rotate_left
  have x:=J ((Z h8).mono (λe i d=>(⟨_,d.1,by rw[Z j];exact .of (Z l) d.2⟩:∃b,e=ξ b/\s (I X 0) b i)));rotate_left
  have x:=J ((Z h9).mono (λe i d=>(⟨_,_,d.1,by rw[Z j];exact .of (Z l) ((Z k).to d.2)⟩:∃a b,e=ξ (τ #[a,b])/\s a b i)));all_goals
   go_wp2_with fail
   apply(Z x).mono
   first|rintro e m⟨a,b,rfl,u⟩|rintro e m⟨b,rfl,u⟩|rintro e m⟨rfl,u⟩
   go_wp2
   go_meet
   exact⟨Q,Q,Q,u⟩
 case rest=>
  obtain⟨rfl,rfl,rfl,u⟩:=hcut;rw[Z j]at u;obtain⟨rfl,e1,e2,T,P,S,e5⟩:=u;have b4:=J (Z H _ T cap);have b5:=J (λt g=>Z K _ t T g _ e1 e2);have ak:=J (λt M g g'=>Z L _ t M T g g' S e5);rw[P]at ak;clear H K L T e1 e2 P S e5 h1 h2 h3 h4 h6 h8 h9 d0 d1 d2 d3 d4 bw h5 h7;rw[<-Z F]at ak;go_wp2_with fail;apply(Z b4).mono;rintro e t⟨rfl,y⟩;go_wp2_with fail;apply(Z b5 _ y).mono;rintro e M⟨rfl,W⟩;have hf:=J (Z ak _ _ y W);go_wp2_with fail;exact cC (v:=τ #[I X r.1.e,I X r.1.at_,I X r.1.n,I U 0,ς ⟨#[]⟩,Y N 0 0]) (by simp[results,results60,go_sem]) Q (Z hf)
def vT(w:D)(xb sb:Nat)(A:Nat->Prop)(r:List Int×Int×Int×Int×bg)(a:Option Addr)(m c:Nat)(b:D):Prop:=aS b w.heap.size (Y a m c) r.1/\∃d,dp b xb sb r.2.2.2.2 d/\(∀k,d k->A k\/w.heap.size<=k)/\aj w b A/\∀j,(Y a m c).ownBlock=E j->¬d j
def vT.fin{r:List Int×Int×Int×Int×bg}(h:vT w n i S r a m j W)(g:G W v (Y a m j).ownBlock):fm w.heap.size w n i S r.2.2.2.2 v:=by
 let⟨b,c,d,f,l,p⟩:=h
 refine⟨c,d.other (aj.of g) (λk _ e=>p k e),f,?_⟩
 refine((l.trans (aj.of g))).mono (λk q e=>e.elim id (λe=>?_));have:=(b.lt k e).1;omega
def Ps(w:D)(xb sb:Nat)(st:bg)(A:Nat->Prop)(n:Nat)(h:dp w xb sb st A)(B:ix n st)(hn:n<=100000)(C:Laid w)(q:iy)(S:aZ q.code)(V:q.op=7)(hd:q.data.size<=1000000):
 Calls prog 60 #[π (E ⟨xb,0,N⟩),ε (gJ q)] w (uk w xb sb A (st.do q)):=by
 refine fL λR H=>?_
 let⟨W1,f,k⟩:=lW.mk' w q
 have u:=J ((Pg f xb sb st A n (h.ag k.g) B q.stream q.n).mono (λe w' hh=>(show∃a m c,e=ξ (τ #[Y a m c,I X (st.read q.stream q.n).2.1,I U (st.read q.stream q.n).2.2.1,cF (st.read q.stream q.n).2.2.2.1])/\vT f xb sb A (st.read q.stream q.n) a m c w' from hh)));have W:Hid ((st.read q.stream q.n).1.length<=100000000):=J (by
  unfold bg.read;cases st with
  |shut _ _=>simp
  |bh s=>
   simp only
   split;simp
   .rename_i hk;have hI:=B.aF q.stream.toNat O;have:=hI.len;have:=B.av;have h1:((s.aF q.stream.toNat).out q.n).length<=(s.aF q.stream.toNat).h.bytes.length:=by
     unfold It.out;split;simp;rw[dK];omega
    simp only;omega)
 have ak:=J (λ(a:Option Addr)(m c:Nat)(d:D)(T:vT f xb sb A (st.read q.stream q.n) a m c d)=>BO a m c _ d _ T.1 (by rw[T.1.eV.2.1];exact Z W));have al:=J (λ(a:Option Addr)(m c:Nat)(d:D)(T:vT f xb sb A (st.read q.stream q.n) a m c d)=>nG T.1.eV);have K:=J (λ(d:D)(T:fm f.heap.size f xb sb A (st.read q.stream q.n).2.2.2.2 d)=>k.AO h.lt T.choose_spec.2.2 hd);have x:=J (λ(d i:D)(T:fm f.heap.size f xb sb A (st.read q.stream q.n).2.2.2.2 d)(t:G d i (E (w.heap.size+1)))=>k.told h.n0 C T.choose_spec.2.2 t (ev:=cF (st.read q.stream q.n).2.2.2.1) (n:=(st.read q.stream q.n).2.2.2.1) (p:= -1) (φ ⟨Q,Q⟩) (λF e=>FC e));have L:=J (λ(d i l:D)(T:fm f.heap.size f xb sb A (st.read q.stream q.n).2.2.2.2 d)(t:G d i (E (w.heap.size+1)))(y:G i l N)=>(show R (ξ (τ #[I X (st.read q.stream q.n).2.2.2.1,I X (-1),I X (st.read q.stream q.n).2.1,I U (st.read q.stream q.n).2.2.1,ς (strOfNums (st.read q.stream q.n).1),Y N 0 0])) l by
  have e:st.do q=(⟨(st.read q.stream q.n).2.2.2.1,-1,(st.read q.stream q.n).2.1,(st.read q.stream q.n).2.2.1,(st.read q.stream q.n).1,[]⟩,(st.read q.stream q.n).2.2.2.2):=by unfold bg.do;rw[ê,ê,ê,ê,ê,ê,aH V]
  rw[H,e];let⟨A',h1,h2,h3⟩:=k.fin h.lt T t y
  exact⟨N,0,0,Q,fq.nil _ _,A',h1,h2,h3,nofun⟩))
 have b7:=rq q.data;obtain⟨r,hr⟩:=í (st.read q.stream q.n);rw[<-hr]at u K x L ak al W;let⟨rl,rs,rc,re,b8⟩:=r
 simp only at u K x L;obtain⟨d0,d1,d2,d3,d4⟩:κ f ⟨w.heap.size,0,N⟩=E (I X q.op)/\κ f ⟨w.heap.size,1,N⟩=E (I X q.stream)/\κ f ⟨w.heap.size,2,N⟩=E (I X q.n)/\κ f ⟨w.heap.size,3,N⟩=E (I U q.code)/\κ f ⟨w.heap.size,4,N⟩=E (ς q.data):=by simp[κ,k.b,gJ]
 have ax:=k.e1;have a0:=k.e2;have ca:=k.z;replace⟨k,H,h,C,S⟩:=gT k H h C S;unfold gJ at *;obtain⟨op,stream,qn,code,data⟩:=q;simp only at *;subst V;generalize cF re=ev at u x;go_enter func60,ntmps60;go_upto_region 3 with fail;rw[<-ax,<-a0];generalize grownCap W1 data.size 0 5=cap at *;clear ax a0;go_wp2_with fail;apply(Z u).mono;rintro e d⟨M,P,c3,rfl,T⟩;have cf:=Z al M P c3 d T;have bx:=J (Z ak M P c3 d T);have bz:=J (λi(g:G d i (Y M P c3).ownBlock)=>T.fin g);go_wp2_with fail;apply(Z bx).mono;rintro e i⟨rfl,t⟩;have T:=Z bz i t;have bA:=J (Z K i T cap);have bM:=J (λl=>Z x i l T);have b3:=J (λl w6=>Z L i l w6 T);go_wp2_with fail;apply(Z bA).mono;rintro e l⟨rfl,y⟩;go_wp2_with fail;apply(Z bM _ y).mono;rintro e w6⟨rfl,g6⟩;have hf:=J (Z b3 _ _ y g6);go_wp2_with fail;first|exact Z hf|exact cC (v:=τ #[I X re,I X (-1),I X rs,I U rc,ς (strOfNums rl),Y N 0 0]) (by simp[results,results60,go_sem]) Q (Z hf)
def nO(o:Ot)(k:Nat)(p:Pc)(f:Fr):Prop:=
 (o.sG=ρ/\p.g=ρ/\p.x=⟨0,0⟩/\f=⟨4,k,o.ay,o.code,θ,⟨#[]⟩,[]⟩)\/
 (o.sG=θ/\p.g=θ/\o.h.fr<=p.x.lo/\p.x.lo<=p.x.hi/\p.x.hi<=o.en/\p.e=(o.sE&&p.x.hi==o.en)/\(p.x.lo<p.x.hi\/p.e=ρ)/\
   f=⟨5,k,p.x.lo,0,p.e,strOfNums ((o.h.bytes.drop (p.x.lo-o.h.fr).toNat).take (p.x.hi-p.x.lo).toNat),[]⟩)
abbrev Told:=List (Pc×Fr)
def nP(m:Int)(L:Told):Int:=L.foldl (λm y=>max m y.1.x.hi) m
def dF(o:Ot)(m:Int)(L:Told):Int:=if o.sG then m else nP m L
def Pt(d:Du)(L:Told):Du:=L.foldl (λd y=>d.leave y.1) d
def Pu{o:Ot}{d:Du}(c:o={H with ay:=o.ay})(hs:H.sG=ρ->o.ay=H.ay)(h:ks o d)(m:q<=1000)(a:(o.next d q).2=ρ)(n:0<=o.h.fr):nO H k (o.next d q).1 (o.dO k (o.next d q).1)/\(o.lu (o.next d q).1).ay=dF H o.ay [((o.next d q).1,o.dO k (o.next d q).1)]:=by
 have e1:o.sG=H.sG:=by rw[c]
 have e2:o.sE=H.sE:=by rw[c]
 have f:o.h=H.h:=by rw[c]
 have i:o.en=H.en:=by unfold Ot.en;rw[f]
 unfold Ot.next at a⊢;cases b:o.sG;rw[b]at a;simp only[iV,iJ]at a⊢;obtain⟨r,s,t,g,-⟩:=vI h m a n;have j:(o.ja d.l d.e q).1.e=(o.sE&&(o.ja d.l d.e q).1.x.hi==o.en)/\((o.ja d.l d.e q).1.x.lo<(o.ja d.l d.e q).1.x.hi\/(o.ja d.l d.e q).1.e=ρ):=by
  unfold Ot.ja at a⊢;grind
 generalize (o.ja d.l d.e q).1=p at *;refine⟨ψ ⟨by rw[<-e1];exact b,g,by rw[<-f];exact r,s,by rw[<-i];exact t,by rw[j.1,e2,i],j.2,?_⟩,?_⟩
 unfold Ot.dO;rw[g,f];simp;unfold Ot.lu dF nP;rw[g,<-e1,b];simp;rw[b]at a;simp only[fw]at a⊢;simp only[uP]at a;refine⟨φ ⟨by rw[<-e1];exact b,a.1,Q,?_⟩,?_⟩
 unfold Ot.dO;simp only[a.1,fw]
 grind;unfold Ot.lu dF;simp only[a.1,fw];rw[<-e1,b];simp
def Pv{d0:Du}(i:k<4)(j:q<=1000)(l:0<=H.h.fr)(n:H.en<=4096):∀(m:Nat)(x:Ld),qb H d0 q x->x.o={H with ay:=x.o.ay}->(H.sG=ρ->x.o.ay=H.ay)->
 ∃L:Told,(ka k q m x).fr=x.fr++bE (L.map (·.2))/\(ka k q m x).ps=x.ps++L.map (·.1)/\(∀y∈L,nO H k y.1 y.2)/\(ka k q m x).o.ay=dF H x.o.ay L/\(ka k q m x).d=Pt x.d L:=by
 intro m;induction m with
 |zero=>exact λx r b s=>⟨[],by simp[ka,bE],by simp[ka],λy a=>(by cases a),by simp[ka,dF,nP],Q⟩
 |succ m t=>
  intro x c u hs;unfold ka;cases e:(x.o.next x.d (q-x.fr.length)).2;simp only[iV,iJ]
  exact⟨[],by simp[bE],Γ,λy a=>(by cases a),by simp[dF,nP],Q⟩
  simp only[fw]
  have v:0<=x.o.h.fr:=by grind
  let⟨r,b⟩:=Pu (k:=k) u hs c.nj (q:=q-x.fr.length) O e v
  have w:=(c.step k i j l n e).1;generalize (x.o.next x.d (q-x.fr.length)).1=p at *;have z:(x.step k p).o={H with ay:=(x.step k p).o.ay}:=by
   show x.o.lu p={H with ay:=(x.o.lu p).ay}
   have s:=Fw x.o p;grind
  have f:(x.step k p).o.ay=dF H x.o.ay [(p,x.o.dO k p)]:=b;let⟨L,A,B,K,C,F⟩:=t (x.step k p) w z (λg=>by rw[f];unfold dF;rw[aH g];exact hs g)
  refine⟨(p,x.o.dO k p)::L,?_,?_,λy a=>?_,?_,?_⟩
  rw[A];show(x.fr++bE [x.o.dO k p])++_=_;simp[bE];rw[B];show(x.ps++[p])++_=_;simp;grind;rw[C,f];unfold dF nP;grind;rw[F];rfl
def km(key:List Int)(s:Int):Int->List (List Fr)->List (List Int)
 |_,[]=>[]
 |n,f::r=>dC key s n (bE f)::km key s (n+1) r
def nQ(tick:Int)(k:Int):Int->List (List Pc)->List Pk
 |_,[]=>[]
 |n,p::r=>⟨n,tick,k,p⟩::nQ tick k (n+1) r
def AQ(key:List Int)(s:Int)(a:List (List Fr)):∀n,(km key s n a).length=a.length:=by
 induction a with
 |nil=>intro n;rfl
 |cons f a b=>intro n;simp[km,b]
def FD{a:List (List Fr)}:∀{n:Int}{p:List Int},p∈km L q n a->∃f∈a,∃m,p=dC L q m (bE f):=by
 induction a with
 |nil=>intro n p h;cases h
 |cons f a b=>
  intro n p h;obtain h|h:=iD.1 h
  grind;grind
structure AR(s:Sd)(k:Nat)(x y:Pz)(a:List Told):Prop where
 l:y.l=x.l++km s.key (bf s.first) x.s.count (a.map (·.map (·.2)))
 aO:y.s.aO=x.s.aO++nQ s.tick k x.s.count (a.map (·.map (·.1)))
 count:y.s.count=x.s.count+a.length
 fr:∀L∈a,L≠[]/\((bE (L.map (·.2))).length:Int)<=s.az-16/\∀z∈L,nO (s.out k) k z.1 z.2
 ay:(y.s.out k).ay=dF (s.out k) (x.s.out k).ay a.flatten
def AS(o:Ot)(m:Int)(a b:Told):dF o (dF o m a) b=dF o m (a++b):=by
 unfold dF nP;grind
def Pw{s:Sd}(j:k<4)(v:16<=s.az/\s.az<=1000)(n:0<=(s.out k).h.fr)(p:(s.out k).en<=4096):∀(m:Nat)(x:Pz),oI s k x->x.s.out k={s.out k with ay:=(x.s.out k).ay}->((s.out k).sG=ρ->(x.s.out k).ay=(s.out k).ay)->x.s.first=s.first->x.s.tick=s.tick->∃q,AR s k x (mz k m x) q:=by
 intro m;induction m with
 |zero=>exact λx b S T V W=>⟨[],by simp[mz,km],by simp[mz,nQ],by simp[mz],λL c=>(by cases c),by simp[mz,dF,nP]⟩
 |succ m C=>
  intro x a w hs y z;have r:=a.az;have F:=a.key;obtain⟨L,i,f,H,g,-⟩:=Pv (H:=s.out k) (d0:=x.d) (q:=x.s.az-16) j (by rw[r];omega) n p ((x.s.az-16).toNat+1) ⟨x.s.out k,x.d,[],[]⟩ ⟨a.h,a.sG,a.code,a.ay,a.nj,Γ,by rw[r];simp;omega,Γ⟩ w hs;have i:(x.load k).fr=bE (L.map (·.2)):=i.trans Γ;have f:(x.load k).ps=L.map (·.1):=f.trans Γ;have g:(x.load k).o.ay=dF (s.out k) (x.s.out k).ay L:=g;have K:(x.load k).o={x.s.out k with ay:=(x.load k).o.ay}:=Fx k (x.s.az-16) ((x.s.az-16).toNat+1) ⟨x.s.out k,x.d,[],[]⟩;unfold mz;split;exact⟨[],by simp[km],by simp[nQ],Γ,λL c=>(by cases c),by simp[dF,nP]⟩
  split;rename_i M h0;have P:L=[]:=by rw[f,fF]at h0;exact oV h0
  subst P;refine⟨[],by simp[km,Pz.stay],by simp[nQ,Pz.stay],by simp[Pz.stay],λL c=>(by cases c),?_⟩
  show(aB x.s.out k (x.load k).o k).ay=_;rw[bN,g];rfl;rename_i M h0;have A:(x.kx k).s.out k={s.out k with ay:=(x.load k).o.ay}:=by
   show aB x.s.out k (x.load k).o k=_;rw[bN,K,w]
  have t:((x.kx k).s.out k).ay=(x.load k).o.ay:=by rw[A]
  let⟨q,b⟩:=C _ (a.kx j v n p O) (by rw[t];exact A) (λB=>by rw[t,g];unfold dF;rw[aH B];exact hs B) y z
  refine⟨L::q,?_,?_,?_,λR u=>?_,?_⟩
  rw[b.l];show(x.l++[dC x.s.key (bf x.s.first) x.s.count (x.load k).fr])++km s.key (bf s.first) (x.s.count+1) _=_;rw[i,y,F];simp[km];rw[b.aO];show(x.s.aO++[⟨x.s.count,x.s.tick,k,(x.load k).ps⟩])++nQ s.tick k (x.s.count+1) _=_;rw[f,z];simp[nQ];rw[b.count];show x.s.count+1+_=_;simp;omega;obtain rfl|u:=iD.1 u
  refine⟨λe=>h0 (by rw[f,e];rfl),?_,H⟩
  rw[<-i];have:=(a.ld j v n p).fl;rw[r]at this;exact this;exact b.fr R u;rw[b.ay,t,g,AS];rfl
def Px(l:List Rg)(a:Int)(h0:0<l.length)(d:40<=a):∀m,1<=m->1<=kO l a m/\1+((fS (l.take (kO l a m))).length:Int)<=a:=by
 intro m;induction m with
 |zero=>omega
 |succ m b=>
  intro _;unfold kO;split;rename_i e;by_cases c:1<=m;exact b c;have:m=0:=O;subst this;have:=Eh l h0;grind;grind
def Py(l:List Rg):bE [cB l]=2::fS l:=by simp[bE,cH,cB]
def PB(w:56<=q):∀(m:Nat)(x:Ak),x.rest.length<=m->x.s.az=q->x.s.key=L->bf x.s.first=p->(x.rest≠[]->gP x.rest)->
 ∃C:List (List Rg),(nJ m x).l=x.l++km L p x.s.count (C.map λc=>[cB c])/\(nJ m x).s={x.s with count:=x.s.count+C.length}/\C.flatten=x.rest/\∀c∈C,gP c/\((bE [cB c]).length:Int)<=q-16:=by
 intro m;induction m with
 |zero=>
  intro x h0 g b d h;have:x.rest=[]:=â;exact⟨[],by simp[nJ,km],by simp[nJ],by rw[this];rfl,λc a=>(by cases a)⟩
 |succ m k=>
  intro x h0 g b d h;unfold nJ;split;rename_i f;have:x.rest=[]:=oV f;exact⟨[],by simp[km],Γ,by rw[this];rfl,λc a=>(by cases a)⟩
  rename_i f;have r:x.rest≠[]:=λe=>f (by rw[e];rfl)
  let⟨t,u⟩:=Px x.rest (x.s.az-16) O O x.rest.length O
  have i:=MH x.rest (x.s.az-16) x.rest.length;have en:x.n=kO x.rest (x.s.az-16) x.rest.length:=rfl;rw[<-en]at t u i;have j:=h r;let⟨C,c1,c2,c3,c4⟩:=k x.step (by show(x.rest.drop x.n).length<=m;rw[fD];omega) g b d (λv=>Ej j x.n (by
   have:(x.rest.drop x.n).length≠0:=λe=>v (oV e)
   rw[fD]at this;omega))
  refine⟨x.rest.take x.n::C,?_,?_,?_,λc a=>?_⟩
  rw[c1];show(x.l++[dC x.s.key (bf x.s.first) x.s.count (bE [cB (x.rest.take x.n)])])++km L p (x.s.count+1) _=_;rw[b,d];simp[km];rw[c2];show({x.s with count:=x.s.count+1+_}:Sd)=_;congr 1;simp;omega;rw[List.flatten_cons,c3];exact qp _ _;obtain rfl|a:=iD.1 a
  refine⟨Ay j _ O i,?_⟩
  rw[Py,dY];push_cast;omega;exact c4 c a
structure FE(s:Sd)(C:List (List Rg)):Prop where
 l:s.gZ.l=km s.key (bf s.first) s.count (C.map λc=>[cB c])
 st:s.gZ.s={s with eY:=θ,count:=s.count+C.length}
 all:s.eY=ρ->C.flatten=ir s.af s.af.length
 no:s.eY=θ->C=[]
 fr:∀c∈C,gP c/\((bE [cB c]).length:Int)<=s.az-16
def PC(h:cJ d n):∃C,FE d C:=by
 cases a:d.eY;refine⟨[],?_,?_,λe=>(by grind),λ_=>rfl,λc b=>(by cases b)⟩
 unfold Sd.gZ;rw[a];simp[km];unfold Sd.gZ;rw[aE (by grind)];simp only[eJ];rw[<-a];simp;have g:=h.c8;have i:=h.az;let⟨C,c1,c2,c3,c4⟩:=PB (L:=d.key) (p:=bf d.first) (q:=d.az) O 10 ⟨{d with eY:=θ},ir d.af d.af.length,[]⟩ (by simp only[ng];omega) Q Q Q (λf=>Em d.af h.np (by
  have:(ir d.af d.af.length).length≠0:=λe=>f (oV e)
  rw[ng]at this;omega) h.cr)
 refine⟨C,?_,?_,λ_=>c3,λe=>(by grind),c4⟩
 unfold Sd.gZ;rw[a];simpa using c1;unfold Sd.gZ;rw[a];simpa using c2
def cJ.mono(h:cJ d n)(b:n<=m):cJ d m:=
 {h with num:=λx a=>(by have:=h.num x a;omega),tick:=(by have:=h.tick;omega),aQ:=(by have:=h.aQ;omega),ll:=(by have:=h.ll;omega)}
def im.same{a:Ot}(h:im H)(e:a.h=H.h):im a:=⟨by rw[e];exact h.ok,by rw[e];exact h.lR,by rw[e];exact h.fr,by rw[e];exact h.low,by rw[e];exact h.hole,by unfold Ot.en;rw[e];exact h.en⟩
def nO.ok{p:Pc}(h:nO H k p u)(a:im H):mr p:=by
 have b:=a.fr;have c:=a.en;obtain⟨-,-,e,-⟩|⟨-,-,d,f,g,-⟩:=h
 unfold mr;rw[e];simp;unfold mr;omega
def PD{a:List (List Pc)}:∀{n:Int}{x:Pk},x∈nQ p q n a->x.tick=p/\x.st=q/\x.ps∈a/\n<=x.num/\x.num<n+a.length:=by
 induction a with
 |nil=>intro n x h;cases h
 |cons f a b=>
  intro n x h;obtain rfl|h:=iD.1 h
  grind;grind
def FF(tick k:Int)(a:List (List Pc)):∀n,(nQ tick k n a).length=a.length:=by
 induction a with
 |nil=>intro n;rfl
 |cons f a b=>intro n;simp[nQ,b]
def AT(h:cJ d n)(c:n<=100001)(k:Nat)(a:k<4):vS d k (d.pieces k).s/\(d.pieces k).l.length<=10:=by
 have b:=h.aQ;exact AJ h.AL k a ⟨b.1,O⟩ (d.aO.map (λx=>(x,Y N 0 0))) (by rw[rZ];show _=List.map id _;rw[List.map_id])
def FG(h:cJ d n)(F:n<=100001)(z:d.count+10<=100*n)(hl:d.lost.length+d.aO.length+10<=100*n)(k:Nat)(m:k<4):cJ (d.pieces k).s n/\∃b,AR d k ⟨d,d.due k,[]⟩ (d.pieces k) b/\b.length<=10:=by
 let⟨R,ak⟩:=AT h F k m
 have l:∃b,AR d k ⟨d,d.due k,[]⟩ (d.pieces k) b:=by
  have z:=h.aQ;have H:=h.AL;let⟨i,q,r⟩:=H.p0 k m ⟨z.1,O⟩ (d.aO.map (λx=>(x,Y N 0 0))) (by rw[rZ];show _=List.map id _;rw[List.map_id])
  have s:=h.Fz m;have A:=h.fl;have hm:=h.az;exact Pw m O s.nice.1 s.en 11 _ ⟨Q,Q,Q,Q,Q,s.ay,r,by simp only;omega,A,by simp only;omega,Γ⟩ Q (λ_=>rfl) Q Q
 let⟨b,l⟩:=l
 have B:=l.count;have K:b.length<=10:=by have:=R.aQ;simp only at B;omega
 have t:=l.aO;simp only at t;have u:∀x∈(d.pieces k).s.aO,x∈d.aO\/(x.tick=d.tick/\x.st=(k:Int)/\(∃L∈b,x.ps=L.map (·.1))/\d.count<=x.num/\x.num<d.count+b.length):=λx a=>by
  rw[t]at a;obtain a|a:=b9.1 a
  exact φ a;let⟨i,q,r,M,h5⟩:=PD a
  grind
 have ax:=h.aQ;have v:∀j,j<4->((d.pieces k).s.out j).h=(d.out j).h/\((d.pieces k).s.out j).code=(d.out j).code:=λj _=>by
  rw[R.eq];by_cases e:j=k;subst e;simp only[bN];exact⟨trivial,trivial⟩
  simp only[bI _ _ e];exact⟨trivial,trivial⟩
 refine⟨?_,b,l,K⟩
 have g:∀{α:Type}(f:Sd->α),f (d.pieces k).s=f {d with out:=aB d.out k {d.out k with ay:=((d.pieces k).s.out k).ay},aO:=(d.pieces k).s.aO,count:=(d.pieces k).s.count}:=λf=>fR f R.eq
 have P:(d.pieces k).s.key=d.key:=g (·.key);have S:(d.pieces k).s.az=d.az:=g (·.az);have k3:(d.pieces k).s.av=d.av:=g (·.av);have k4:(d.pieces k).s.aF=d.aF:=g (·.aF);have k5:(d.pieces k).s.lost=d.lost:=g (·.lost);have C:(d.pieces k).s.tick=d.tick:=g (·.tick);have T:(d.pieces k).s.wait=d.wait:=g (·.wait);have w:(d.pieces k).s.af=d.af:=g (·.af);have V:∀x∈(d.pieces k).s.aO,0<=x.st/\x.st<4/\∀p∈x.ps,mr p:=λx a=>by
  obtain i|⟨-,q,⟨L,W,e⟩,-⟩:=u x a
  exact h.pk x (jK _ i);refine⟨O,O,λp hp=>?_⟩
  rw[e]at hp;obtain⟨y,hy,rfl⟩:=fu.1 hp;exact((l.fr L W).2.2 y hy).ok (h.out k m)
 simp only at B;have A:(d.pieces k).s.aO.length=d.aO.length+b.length:=by rw[t,bS,FF,fF]
 refine⟨by rw[P];exact h.key,by rw[S];exact h.az,by rw[k3];exact h.av,λj c=>(h.out j c).same (v j c).1,λj c=>by rw[(v j c).1,k3];exact h.qg j c,λj c=>?_,λj c=>by rw[(v j c).2];exact h.code j c,by rw[k3,k4];exact h.aF,λx a=>?_,λx a=>?_,R.fl,R.fp,λx a=>?_,by rw[C];exact h.tick,by rw[T];exact h.wait,O,by rw[k5];omega,by rw[w];exact h.np,by rw[w];exact h.c8,by rw[w];exact h.cr⟩
 by_cases e:j=k;subst e;exact R.ay;have:((d.pieces k).s.out j).ay=(d.out j).ay:=by rw[R.eq];simp only[bI _ _ e]
 rw[this];exact h.ay j c;obtain a|a:=b9.1 a
 exact V x a;rw[k5]at a;exact h.pk x (kB _ a);obtain i|⟨-,-,-,r,M⟩:=u x a
 exact h.num x i;omega;rw[C];obtain i|⟨q,-⟩:=u x a
 exact h.ft x i;have:=h.tick;omega
def FH(h:cJ d n)(e:d.count+10<=100*n):cJ d.gZ.s n/\∃C,FE d C/\C.length<=10:=by
 let⟨C,a⟩:=PC h
 let⟨c,f,g,i,b⟩:=AK d
 have hl:C.length<=10:=by rw[a.l,AQ,fF]at b;exact b
 refine⟨?_,C,a,hl⟩
 rw[a.st];have:=h.aQ;exact⟨h.key,h.az,h.av,h.out,h.qg,h.ay,h.code,h.aF,h.pk,h.num,h.fl,h.fp,h.ft,h.tick,h.wait,by simp only;omega,h.ll,h.np,h.c8,h.cr⟩
def FI(h:cJ d n)(A:n<=100000):∀k,k<=4->cJ (di d k).1 (n+1)/\(di d k).1.count<=100*n+10+10*k/\(di d k).1.lost.length+(di d k).1.aO.length<=100*n+10*k/\(di d k).1.az=d.az/\(di d k).2.length<=10+10*k/\∀p∈(di d k).2,(p.length:Int)<=d.az:=by
 intro k;induction k with
 |zero=>
  intro _;have u:=h.mono (dw n);have B:=h.aQ;let⟨g,C,a,hl⟩:=FH u O
  have F:=h.ll;refine⟨g,?_,?_,?_,?_,λp hp=>?_⟩
  show d.gZ.s.count<=_;rw[a.st];simp only;omega;show d.gZ.s.lost.length+d.gZ.s.aO.length<=_;rw[a.st];simp only;omega;show d.gZ.s.az=_;rw[a.st];show d.gZ.l.length<=_;rw[a.l,AQ,fF];omega;have hp:p∈d.gZ.l:=hp;rw[a.l]at hp;let⟨f,i,m,e⟩:=FD hp
  obtain⟨c,v,rfl⟩:=fu.1 i;have:=(a.fr c v).2;rw[e,mu];push_cast;omega
 |succ k w=>
  intro H;let⟨j,K,M,q,P,x⟩:=w O
  let⟨g,r,b,hl⟩:=FG j O (by push_cast;omega) O k O
  have y:=b.count;have s:=b.aO;simp only at y s;have S:((di d k).1.pieces k).s.aO.length=(di d k).1.aO.length+r.length:=by rw[s,bS,FF,fF]
  have R:=(AT j O k O).1;have e1:((di d k).1.pieces k).s.lost=(di d k).1.lost:=by rw[R.eq]
  have e2:((di d k).1.pieces k).s.az=(di d k).1.az:=by rw[R.eq]
  have t:((di d k).1.pieces k).l=km (di d k).1.key (bf (di d k).1.first) (di d k).1.count (r.map (·.map (·.2))):=by rw[b.l];rfl
  refine⟨g,?_,?_,?_,?_,λp hp=>?_⟩
  show((di d k).1.pieces k).s.count<=_;omega;show((di d k).1.pieces k).s.lost.length+((di d k).1.pieces k).s.aO.length<=_;rw[e1];omega;show((di d k).1.pieces k).s.az=_;rw[e2];exact q;show((di d k).2++((di d k).1.pieces k).l).length<=_;rw[bS,t,AQ,fF];omega;have hp:p∈(di d k).2++((di d k).1.pieces k).l:=hp;obtain hp|hp:=b9.1 hp
  exact x p hp;rw[t]at hp;let⟨f,i,m,e⟩:=FD hp
  obtain⟨L,z,rfl⟩:=fu.1 i;have:=(b.fr L z).2.1;rw[e,mu];push_cast;rw[<-q];omega
def FJ(h:cJ d n)(a:n<=100000):cJ d.fW.1 (n+1)/\d.fW.2.length<=50/\∀p∈d.fW.2,(p.length:Int)<=300:=by
 obtain⟨b,-,-,-,c,e⟩:=FI h a 4 (aP _);exact⟨b,by have:d.fW.2.length<=10+10*4:=c;omega,λp hp=>by have:=e p hp;have:=h.az;omega⟩
def PE:(prog.info? 9).map (λi=>(i.zero,i.size,i.bytes))=E (E (ς ⟨#[]⟩),1,16):=Φ
def fq.lt{l:List (List Int)}(h:fq w n x l):∀k,x.ownBlock=E k->n<=k/\k<w.heap.size:=World.ownsRow.lt h
def fq.aA{l:List (List Int)}(h:fq w n x l)(C:aj w W S)(c:∀k,x.ownBlock=E k->¬S k):fq W n x l:=by
 let⟨d,a⟩:=h
 refine⟨d,?_⟩
 obtain a|⟨g,cap,cur,e1,e2,b,e⟩:=a
 simp_all;exact ψ ⟨g,_,_,e1,e2,(C.block g (aV.1 b).1 (c g (by rw[e1];rfl))).trans b,e⟩
def fq.low{b2:Nat}{l:List (List Int)}(h:fq w n x l)(d:b2<=n):fq w b2 x l:=by
 let⟨b,a⟩:=h
 refine⟨b,?_⟩
 obtain a|⟨g,cap,cur,e1,e2,c⟩:=a
 simp_all;exact ψ ⟨g,_,_,e1,O,c⟩
def fq.fU{l:List (List Int)}(h:fq w n x l):∃a b,x=Y a l.length b:=by
 obtain⟨c,⟨d,h0⟩|⟨g,e,f,e1,-⟩⟩:=h;simp_all;grind
def PF(ty:TypeId)(a:Nat)(v:υ)(l:List (List Int))(m:fq w a v l)(b c:Nat)(p:List Int)(h0:κ w ⟨b,0,N⟩=E (ς (strOfNums p)))(A:l.length<=1000000)(n:a<=w.heap.size):
 ∃f h i d,(Builtin.append_ #[44,44] ty #[v,Y (E ⟨b,0,N⟩) 1 c]).run prog w=.ok (Y f h i) d/\fq d a (Y f h i) (l++[p])/\G w d v.ownBlock:=by
 let⟨q,hi,r,s,t⟩:=kV PE
 let⟨x,d,B,C,F,_,H⟩:=run_append_own_at (P:=prog) w a 44 ty 9 q _ 1 16 underlying44 hi r s t Q Θ v l.length (l.map λp=>ς (strOfNums p)) m ⟨b,0,N⟩ 1 c ([p].map λp=>ς (strOfNums p)) Γ (by
  intro j u k;rw[Addr.add_mid];have:j=0:=by
   grind
  subst this;simp at k;subst k;exact h0) (λu y=>by
  obtain⟨e,-,rfl⟩:=fu.1 y;rfl) (by simp[maxLen];omega) O n
 have z:fq d a x (l++[p]):=by
  unfold fq;grind
 obtain⟨-,⟨rfl,e2⟩|⟨g,K,L,rfl,_⟩⟩:=id z;simp_all;grind
def fK(l:List El)(i:Nat):El:=l.getD i (0,[])
def yF{l:List El}(h:i<l.length):l[i]?=E (fK l i):=by simp[fK,List.getD,h]
def AU{l:List El}(h:i<l.length):fK l i∈l:=uK (yF h)
def FK{l:List El}(h:j<l.length):l.take (j+1)=l.take j++[fK l j]:=by
 rw[tq,yF h];rfl
def PG(h:∀x∈L,W8 x)(a:w.heap[n]?=E (ο (bv L).toArray 5 (0,0)))(hl:L.length<=1000000):aS w 0 (lr (n,L)) L:=by
 have e:=gy L;refine⟨h,O,ψ ⟨n,_,_,Q,mP _,a,aP _,by simp[maxLen];omega,by simp[e],?_⟩⟩
 grind
structure mF(a:D)(b:List El)(j:Nat)(c:υ)(wr:D):Prop where
 own:fq wr a.heap.size c ((b.take j).map (·.2))
 aA:aj a wr (λk=>∃e∈b.take j,e.1=k)
def mF.el{wr:D}{a:List El}(h:mF w a j x wr)(c:jg w 0 a)(b:j<a.length)(hl:∀e∈a,e.2.length<=1000000):aS wr 0 (lr (fK a j)) (fK a j).2:=by
 have d:=AU b;obtain⟨-,f,g⟩:=c.at_ _ d;have i:wr.heap[(fK a j).1]?=E (ο (bv (fK a j).2).toArray 5 (0,0)):=by
  rw[h.aA.block _ (c.lt d) ?_];exact g;rintro⟨e,k,e2⟩;have hs:=c.sep;rw[<-qp j a]at hs;have hd:fK a j∈a.drop j:=by
   rw[wH b];have:a[j]=fK a j:=by have:=yF b;rw[dB b]at this;exact aR this
   grind
  grind
 have:=hl _ d;exact PG f i this
def mF.row{wr:D}{b:List El}(h:mF w b j y wr)(c:fC w 0 (Y a n i) b)(d:∀e∈b,(Y a n i).ownBlock≠E e.1):fC wr 0 (Y a n i) b:=c.aA h.aA (λk e ⟨x,f,e2⟩=>d x (jr f) (by rw[e2];exact e))
def mF.step{wr:D}{b:List El}(h:mF w b j x wr)(f:j<b.length)(gb:G wr W N)(g:fq v w.heap.size (Y a n i) ((b.take j).map (·.2)++[(fK b j).2]))(c:G W v x.ownBlock)(d:G v V (E (fK b j).1))(p:(fK b j).1<w.heap.size):mF w b (j+1) (Y a n i) V:=by
 refine⟨?_,?_⟩
 have e:(b.take (j+1)).map (·.2)=(b.take j).map (·.2)++[(fK b j).2]:=by rw[FK f];simp
 rw[e];refine g.aA (aj.of d) (λk e1 e2=>?_);have:=(g.lt k e1).1;grind;refine⟨d.os.trans (c.os.trans (gb.os.trans h.aA.os)),d.tape.trans (c.tape.trans (gb.tape.trans h.aA.tape)),d.output.trans (c.output.trans (gb.output.trans h.aA.output)),bG h.aA.size (bG gb.size (bG c.size d.size)),λk m l=>?_⟩
 have q:=h.aA.size;have z2:=gb.size;have r:=c.size;rw[d.block k O (λe=>l ⟨fK b j,by rw[FK f];simp,(aR e).symm▸rfl⟩),c.block k O (λe=>by have:=(h.own.lt k e.symm).1;omega),gb.block k O Γ];refine h.aA.block k m (λ⟨e,s,e2⟩=>l ⟨e,?_,e2⟩);grind
def bg.FL{st:bg}(a:ix n st)(b:n<=100000):st.fW.2.length<=50/\∀p∈st.fW.2,(p.length:Int)<=300:=by
 cases st with
 |bh s=>exact(FJ a b).2
 |shut aI l=>exact⟨bG a.1 O,a.2⟩
def mF.done{wr t d:D}{q:iy}(u:lW w q W v){st:bg}{f:List El}(ak:∀k,S k->k<w.heap.size)(T:mF V f f.length x wr)(y:dp V i l st P)(B:∀k,P k->S k\/v.heap.size<=k)(C:aj v V S)(z:∀e∈f,¬P e.1/\(S e.1\/v.heap.size<=e.1))(m:G wr t (E (w.heap.size+1)))(p:G t d N):
 ∃a n c,x=Y a n c/\fq d w.heap.size x (f.map (·.2))/\dp d i l st P/\(∀k,P k->S k\/w.heap.size<=k)/\aj w d S/\∀j,x.ownBlock=E j->¬P j:=by
 have hz:=u.z2;have ao:=C.size;have b:=T.own;rw[kC]at b;let⟨a,F,H⟩:=b.fU
 have K:¬P (w.heap.size+1):=λh=>by
  grind
 have L:=(y.other T.aA (λk _ ⟨e,r,e2⟩ A=>(z e (jr r)).1 (e2▸A))).other (aj.of m) (λk _ e A=>K (by grind));refine⟨a,_,F,H,?_,L.ag p,λk s=>(B k s).imp id (λh=>O),?_,λj e M=>?_⟩
 have R:=b.aA (aj.of m) (λk e e2=>by have:=(b.lt k e).1;have:=aR e2;omega);exact(R.aA (aj.of p) (λk _ e=>by cases e)).low O;have Cr:=(C.trans T.aA).mono (λk s h=>h.elim id (λ⟨e,r,e2⟩=>(z e (jr r)).2.elim (λh=>e2▸h) (λh=>O)));refine(((aj.of u.g).trans Cr).trans ((aj.of m).trans (aj.of p))).mono (λk s h=>?_);grind;have h1:=(b.lt j e).1;have h2:=y.lt j M;omega
def PH(w:D)(xb sb:Nat)(st:bg)(A:Nat->Prop)(n:Nat)(h:dp w xb sb st A)(a1:ix n st)(hn:n<=100000)(hL:Laid w)(q:iy)(a2:aZ q.code)(hq:q.op=5)(hd:q.data.size<=1000000):
 Calls prog 60 #[π (E ⟨xb,0,N⟩),ε (gJ q)] w (uk w xb sb A (st.do q)):=by
 refine fL λR hR=>?_
 let⟨W1,p,r⟩:=lW.mk' w q
 let⟨da,b5⟩:=bg.FL a1 hn
 have V:=J (Pm p xb sb st A n (h.ag r.g) a1 hn);have a4:=J (λ(f:D)(C:aj p f A)=>r.AO h.lt C hd);have a8:=J (λ(f wr u i:D)(K:Nat->Prop)(d:List El)(s:υ)(T:mF f d d.length s wr)(V:dp f xb sb st.fW.1 K)(W:∀k,K k->A k\/p.heap.size<=k) (C:aj p f A) (t:∀e∈d,¬K e.1/\(A e.1\/p.heap.size<=e.1)) (B:d.map (·.2)=st.fW.2) (g4:G wr u (E (w.heap.size+1))) (F:G u i N)=>(show R (ξ (τ #[I X 0,I X (-1),I X 0,I U 0,ς ⟨#[]⟩,s])) i by
  have e:st.do q=(⟨0,-1,0,0,[],st.fW.2⟩,st.fW.1):=by unfold bg.do;rw[ê,ê,ê,ê,aH hq]
  rw[hR,e];obtain⟨a,m,c,rfl,h1,h2,h3,h4,h5⟩:=mF.done r h.lt T V W C t g4 F;exact⟨a,m,c,Q,B▸h1,K,h2,h3,h4,h5⟩))
 have db:=rq q.data;have b6:=J AB;obtain⟨d0,d1,d2,d3,d4⟩:κ p ⟨w.heap.size,0,N⟩=E (I X q.op)/\κ p ⟨w.heap.size,1,N⟩=E (I X q.stream)/\κ p ⟨w.heap.size,2,N⟩=E (I X q.n)/\κ p ⟨w.heap.size,3,N⟩=E (I U q.code)/\κ p ⟨w.heap.size,4,N⟩=E (ς q.data):=by simp[κ,r.b,gJ]
 have bb:=r.e1;have bj:=r.e2;have dc:=r.z;replace⟨r,hR,h,hL,a2⟩:=gT r hR h hL a2;unfold gJ at *;obtain⟨op,stream,qn,code,data⟩:=q;simp only at *;subst hq;go_enter func60,ntmps60;go_upto_region 3 with fail;rw[<-bb,<-bj];generalize grownCap W1 data.size 0 5=cap at *;clear bb bj;go_wp2_with fail;apply(Z V).mono;rintro e f⟨a3,n3,c3,d,K,rfl,M,ai,B,P,W,ak,L⟩;have de:d.length<=50:=by have:=fR List.length B;rw[fF]at this;omega
 have br:∀e∈d,e.2.length<=1000000:=λe t=>by
  have:=b5 e.2 (by rw[<-B];exact qq t);omega
 obtain⟨a',c',S,dg,b7,-,bt⟩:=M.fU;let⟨e1,e2,e3⟩:=lJ S
 subst e1 e2 e3;have hF:=J (λ(wr u i:D)(s:υ)(T:mF f d d.length s wr)=>Z a8 f wr u i K d s T P W ak (λe t=>⟨(L e t).1,(L e t).2.2⟩) B);have b8:=J (λ(wr:D) s(T:mF f d d.length s wr)=>Z a4 wr ((ak.trans T.aA).mono (λk hk h=>h.elim id (λ⟨e,ca,e2⟩=>(L e (jr ca)).2.2.elim (λh=>e2▸h) (λh=>O)))) cap);have cc:Hid (mF f d 0 (Y N 0 0) f):=J ⟨by simpa using fq.nil _ _,(aj.of (au f N)).mono (λk _ e=>by cases e)⟩;have dk:0<f.heap.size:=by
  have:=P.lt xb P.lD;omega
 replace⟨P,ai,M,L,B,bt⟩:=mY P ai M L B bt;clear V a4 a8 W ak;unfold maxLen at b7;go_upto_region 14 with fail;go_loopg [9,53] (d.length+1) (λg s cf wr=>∃(j:Nat),j<=d.length/\cf=I X j/\g=d.length+1-j/\mF f d j s wr);case atStart=>exact⟨0,O,Q,O,Z cc⟩
 case round=>
  obtain⟨j,hj,rfl,rfl,l⟩:=hrel;obtain⟨a9,c9,rfl⟩:=l.own.fU;by_cases H:j<d.length
  .have i1:(j:Int)<d.length:=O;have i0:(0:Int)<=j:=O;obtain⟨y,rfl⟩:∃y,a3=E y:=by
    cases a3 with
    |some y=>exact⟨y,Q⟩
    |none=>
     obtain⟨a',c',S,-,-,h0,-⟩:=(Z M).fU;obtain⟨e1,-,-⟩:=lJ S;have:=(h0 e1.symm).1;rw[this]at H;simp at H
   have bw:=l.row (Z M) (λe t=>(Z L e t).2.1);obtain⟨a',c',S,-,-,-,bx⟩:=bw.fU;obtain⟨e1,-,-⟩:=lJ S;obtain⟨-,ey,al⟩:=bx y e1.symm;obtain⟨yb,ch⟩:=í y.block;rw[<-ch]at ey al;subst ey;have dm:κ wr ⟨yb,j,N⟩=E (lr (fK d j)):=by
    have:=al j (lr (fK d j)) (by rw[kU,yF H];rfl);rwa[eM]at this
   have ao:=l.el (Z ai) H br;have dn:=nG ao.eV;have bz:=J (λ(i:D)(F:G wr i N\/True)(ho:aS i 0 (lr (fK d j)) (fK d j).2)=>BO (E ⟨(fK d j).1,0,N⟩) (fK d j).2.length (fK d j).2.length (fK d j).2 i 0 ho (by have:=br _ (AU H);omega));obtain⟨WB,ax⟩:=í (wr.alloc (ο #[ς (strOfNums (fK d j).2)] 9));have gB:G wr WB N:=by rw[ax];exact aC _ _ _
   have bA:κ WB ⟨wr.heap.size,0,N⟩=E (ς (strOfNums (fK d j).2)):=by
    have:=aM wr (ο #[ς (strOfNums (fK d j).2)] 9);rw[<-ax]at this;simp[κ,this]
   have bM:=l.own.aA (aj.of gB) (λk _ e=>by cases e);let⟨a5,n5,c5,i,a0,b3,F⟩:=PF (w:=WB) 44 f.heap.size _ _ bM wr.heap.size 1 (fK d j).2 bA Ψ (bG l.aA.size gB.size)
   have cm:=(Z ai).lt (AU H);have b4:aS i 0 (lr (fK d j)) (fK d j).2:=by
    refine(ao.ag gB).gb F (ψ (λe=>?_));have h1:(lr (fK d j)).ownBlock=E (fK d j).1:=rfl;rw[h1]at e;have:=(l.own.lt _ e.symm).1;omega
   have cp:=J (Z bz i (ψ trivial) b4);have ct:=J (λw6(g6:G i w6 (E (fK d j).1))=>l.step H gB b3 F g6 cm);generalize du:fK d j=el at *;let⟨eb,dv⟩:=el
   unfold lr at *;simp only at *;replace⟨l,a0⟩:=aT l a0;clear ao bw bx al bA bM b3 b4 bz;go_upto_region 16 with fail;go_wp2_with (at_builtin;rw[<-ax];refine jN Ξ 44 44 Ξ _ _ Ξ _ _ _ Ξ Ξ (Z a0) ?_);apply(Z cp).mono;rintro e w6⟨rfl,g6⟩;have cv:=J (Z ct w6 g6);go_wp2;go_roundg (d.length+1-(j+1));case measure=>omega
   case rel=>exact⟨j+1,O,by push_cast;rfl,Q,Z cv⟩
  have cw:j=d.length:=O;subst cw;have cx:=J (Z b8 wr _ l);have cy:=J (λu i=>Z hF wr u i _ l);have i1:¬((d.length:Int)<d.length):=O;replace l:=J l;go_wp2_with fail;apply(Z cx).mono;rintro e u⟨rfl,g4⟩;go_wp2_with fail;apply(Z b6 _).mono;rintro e i⟨rfl,F⟩;have hf:=J (Z cy _ _ g4 F);go_wp2_with fail;first|exact Z hf|exact cC (v:=τ #[I X 0,I X (-1),I X 0,I U 0,ς ⟨#[]⟩,Y a9 (List.map (λx=>x.2) (List.take d.length d)).length c9]) (by simp[results,results60,go_sem]) Q (Z hf)
def PI(w:D)(xb sb:Nat)(st:bg)(A:Nat->Prop)(n:Nat)(h:dp w xb sb st A)(a:ix n st)(b:n<=100000)(c:Laid w)(q:iy)(d:aZ q.code)(hd:q.data.size<=1000000):
 Calls prog 60 #[π (E ⟨xb,0,N⟩),ε (gJ q)] w (uk w xb sb A (st.do q)):=by
 by_cases e:q.op=5;exact PH w xb sb st A n h a b c q d e hd;by_cases f:q.op=7;exact Ps w xb sb st A n h a b c q d f hd;exact Pr w xb sb st A n h a b c q d e f hd
def cJ.AV(h:cJ d n)(k:Nat)(o:Ot)(g:k<4->im o)(i:k<4->(o.h.bytes.length:Int)<=d.av)(l:k<4->0<=o.ay/\o.ay<=4096)(m:k<4->0<=o.code/\o.code<=4611686018427387903):cJ {d with out:=aB d.out k o} n:=by
 have c:∀(P:Nat->Ot->Prop),(k<4->P k o)->(∀j,j<4->P j (d.out j))->∀j,j<4->P j (aB d.out k o j):=λP a b j f=>by
  by_cases e:j=k;subst e;rw[bN];exact a f;rw[bI _ _ e];exact b j f
 exact{h with out:=c _ g h.out,qg:=c (λ_ o=>(o.h.bytes.length:Int)<=d.av) i h.qg,ay:=c (λ_ o=>0<=o.ay/\o.ay<=4096) l h.ay,code:=c (λ_ o=>0<=o.code/\o.code<=4611686018427387903) m h.code}
def cJ.sC(h:cJ d n)(k:Nat)(i:It)(b:k<4->iT d.av i):cJ {d with aF:=aB d.aF k i} n:=by
 have c:∀j,j<4->iT d.av (aB d.aF k i j):=λj a=>by
  by_cases e:j=k;subst e;rw[bN];exact b a;rw[bI _ _ e];exact h.aF j a
 exact{h with aF:=c}
def PJ(h:cJ d n)(a:k<4)(l:List Int):cJ (d.write k l).2.2 n:=by
 unfold Sd.write;split;exact h;have b:=h.out k a;have e:=b.en;have hl:=h.qg k a;unfold Ot.en at e;have c:(((d.out k).wrote l d.av).h.bytes.length:Int)<=d.av/\(d.out k).h.fr+((d.out k).wrote l d.av).h.bytes.length<=4096:=by
  unfold Ot.wrote Ot.gC;grind
 refine h.AV k _ (λ_=>⟨b.ok,b.lR,b.fr,b.low,b.hole,?_⟩) (λ_=>c.1) (λa=>h.ay k a) (λa=>h.code k a);exact c.2
def PK(h:cJ d n)(a:k<4):cJ (d.finish k).2 n:=by
 unfold Sd.finish;split;exact h;exact h.AV k _ (λa=>(h.out k a).same Q) (λa=>h.qg k a) (λa=>h.ay k a) (λa=>h.code k a)
def PL(h:cJ d n)(b:k<4)(c:aZ p):cJ (d.giveUp k p).2 n:=by
 unfold Sd.giveUp;split;exact h;rename_i f;have a:=h.out k b;have g:=h.av;have e:=a.en;unfold Ot.en at e;refine h.AV k _ (λ_=>⟨a.ok,a.lR,a.fr,a.low,a.hole,?_⟩) (λ_=>by unfold Ot.giveUp;simp;omega) (λb=>h.ay k b) (λ_=>⟨c.1,?_⟩);unfold Ot.giveUp Ot.en;simp;omega;show p<=_;grind
def PM(h:cJ d n):cJ d.jb (n+1):=by
 have b:=h.mono (dw n);have c:=h.tick;have e:=h.wait;unfold Sd.jb;split;exact{b with
  pk:=λx a=>h.pk x (by grind),num:=λx a=>(by cases a),fl:=Γ,fp:=λx a=>(by cases a),ft:=λx a=>(by cases a),tick:=(by grind),wait:=(by grind),ll:=(by have:=h.ll;simp only[bS,eJ];omega)}
 exact{b with ft:=λx a=>(by have:=h.ft x a;simp only;omega),tick:=(by grind)}
def FM(i:It)(aJ:Int)(h:0<=dL i.h/\dL i.h<=i.h.bytes.length):(i.jG aJ:Int)<=dL i.h:=by
 unfold It.jG;omega
def iT.read{i:It}(h:iT p i)(j:0<=p)(aJ:Int):iT p (i.read aJ):=by
 unfold It.read;split;exact h;have e:=h.whole;have a:=FM i aJ e;have k:=h.fr;have l:=h.len;have n:=h.en;refine⟨h.ok,by simp only;omega,λm c=>?_,λm c=>?_,λd m h0 f=>?_,?_,?_,λd=>?_⟩
 have:=h.lR m c;simp only;omega;have:=h.mD m c;simp only[fD];omega;simp only at f;by_cases hl:m<i.h.fr;exact h.low d m h0 hl;unfold dL at a e;split at a;omega;rename_i b;cases g:i.h.af with
 |nil=>rw[g]at b;simp at b
 |cons r t=>
  rw[g]at b a;have e0:an (r::t) 0=r:=rfl;rw[e0]at b a;exact⟨r,Γ,O,O⟩
 grind;grind;let⟨f,q⟩:=h.uj d
 grind
def PO(h:cJ d n)(k:Nat)(aJ:Int):cJ {d with aF:=aB d.aF k ((d.aF k).read aJ)} n:=
 h.sC k _ (λa=>(h.aF k a).read (by have:=h.av;omega) aJ)
def PQ(h:bk s)(k:s.length<=8)(l:∀r∈s,0<=r.lo/\r.hi<=4611686018427387904)(m:0<=q/\q<=4611686018427387903):bk (gH s p q).1/\(gH s p q).1.length<=8/\∀r∈(gH s p q).1,0<=r.lo/\r.hi<=4611686018427387904:=by
 have b:=oD ⟨q,q+1⟩ h;have hl:=xF s ⟨q,q+1⟩;have e:∀r∈eu s ⟨q,q+1⟩,0<=r.lo/\r.hi<=4611686018427387904:=λr a=>by
  have f:=b.2 r a;have c:=(kJ _ h _).1 ⟨r,a,fv _,f⟩;have d:=(kJ _ h (r.hi-1)).1 ⟨r,a,O,O⟩;refine⟨?_,?_⟩
  obtain⟨x,g,i,j⟩|c:=c
  grind;grind;obtain⟨x,g,i,j⟩|d:=d
  grind;grind
 unfold gH;split;refine⟨⟨b.1.sublist (List.drop_sublist _ _),λr a=>b.2 r (iC a)⟩,Ψ,λr a=>e r (iC a)⟩
 grind
def PR(l:List (Int×Pc)):∀(out:Nat->Ot)(k:Nat),(eO out l k).ay=(out k).ay/\(eO out l k).code=(out k).code/\(eO out l k).h.bytes.length<=(out k).h.bytes.length:=by
 induction l with
 |nil=>intro out k;exact⟨Q,Q,aP _⟩
 |cons x l f=>
  intro out k;have e:eO out (x::l)=eO (aB out x.1.toNat ((out x.1.toNat).gY x.2)) l:=rfl;rw[e];let⟨b,c,a⟩:=f (aB out x.1.toNat ((out x.1.toNat).gY x.2)) k
  by_cases d:k=x.1.toNat;rw[b,c];rw[<-d]at a⊢;rw[bN]at a⊢;refine⟨Q,Q,bG a ?_⟩
  unfold Ot.gY;simp only[fD];omega;rw[bI _ _ d]at b c a;grind
def PS{α:Type}(l:List α)(p:α->Bool):(l.filter p).length+(l.filter (λx=> !p x)).length=l.length:=by
 induction l with
 |nil=>rfl
 |cons a l b=>cases h:p a<;>simp[h]<;>omega
def PT(h:cJ d n)(g:n<=100000)(l:List Rg):cJ (d.dW l) n:=by
 have f:=(h.FB g).dW l;let⟨j,m⟩:=Fj d l
 have p:=h.fl;have c:=PR (oG (λx=>bK l x.num) d.aO++oG (λx=>bK l x.num) d.lost) d.out;have e:∀x∈(d.dW l).aO,x∈d.aO:=λx a=>by
  have a:x∈(d.aO.filter (λx=> !bK l x.num)).filter (λx=> !decide (x.num+3<=(an l 0).hi)):=a;grind
 have q:(d.dW l).lost.length+(d.dW l).aO.length<=d.lost.length+d.aO.length:=by
  have e1:(d.dW l).aO=(d.aO.filter (λx=> !bK l x.num)).filter (λx=> !decide (x.num+3<=(an l 0).hi)):=rfl;have e2:(d.dW l).lost=(d.fN l).lost.filter (λx=> !x.ps.all (nh ((d.fN l).out x.st.toNat))):=rfl;have r:(d.fN l).lost.length=(d.lost.filter (λx=> !bK l x.num)).length+((d.aO.filter (λx=> !bK l x.num)).filter (λx=>decide (x.num+3<=(an l 0).hi))).length:=by unfold Sd.fN;simp only[bS]
  have b2:=PS (d.aO.filter (λx=> !bK l x.num)) (λx=>decide (x.num+3<=(an l 0).hi));grind
 have i:0<=(d.dW l).wait/\(d.dW l).wait<=32:=by
  show 0<=(if d.aO.any (λx=>bK l x.num)then(4:Int)else d.wait)/\(if d.aO.any (λx=>bK l x.num)then(4:Int)else d.wait)<=32;have:=h.wait;grind
 have s:=h.ll;exact⟨h.key,h.az,h.av,f.out,λk b=>Int.le_trans (by have:=(c k).2.2;exact Int.ofNat_le.2 this) (h.qg k b),λk b=>by show 0<=(eO _ _ k).ay/\(eO _ _ k).ay<=4096;rw[(c k).1];exact h.ay k b,λk b=>by show 0<=(eO _ _ k).code/\(eO _ _ k).code<=_;rw[(c k).2.1];exact h.code k b,h.aF,f.pk,λx a=>h.num x (e x a),O,λx a=>h.fp x (e x a),λx a=>h.ft x (e x a),h.tick,i,h.aQ,O,h.np,h.c8,h.cr⟩
def AW(h:cJ d n)(c:n<=100000)(hs:cT u)(e:0<=u.offset)(f:nN d u):cJ (d.take u).2 n:=by
 unfold Sd.take;split;split;exact h;exact PT h c _;split;split;exact h;exact h.sC _ _ (λa=>(h.aF _ a).reset u);split;rename_i b;split;exact h;exact h.sC _ _ (λa=>(h.aF _ a).data u e (hs.en b) (f b));grind
def AX{n:Nat}(a:n<=100000):∀(fs:List Fr)(s:Sd),cJ s n->(∀f∈fs,cT f/\0<=f.offset/\nN s f)->cJ (dP s fs).2 n
 |[],s,h,_=>h
 |f::r,s,h,b=>by
  obtain⟨c,d,e⟩:=b f Γ;rw[AH];split;exact AX a r _ (AW h a c d e) (λg i=>by
   obtain⟨j,k,k3⟩:=b g (by simp[i]);exact⟨j,k,k3.same (take_same s f)⟩)
  exact AW h a c d e
def AY(s:Sd)(aI code:Int):(s.iS aI code).length<=1/\∀p∈s.iS aI code,(p.length:Int)<=300:=by
 unfold Sd.iS;split;simp_all;refine⟨Γ,λp hp=>?_⟩
 rw[eE.1 hp,mu];have e:bE [dD code]=28::aN code:=by simp[bE,cH,dD]
 rw[e,dY];have:=(eQ code).2;omega
def PU(a:∀x∈L,W8 x){x:Fr×Nat}(h:dy L t n=E x):0<=x.1.offset/\0<=x.1.code:=by
 unfold dy at h;split at h;cases h;simp[bL];split at h;cases h;simp[bL];split at h;obtain⟨y,-,h⟩:=qU.1 h;cases h;simp[bL];split at h;obtain⟨y,-,h⟩:=qU.1 h;obtain⟨z,b,h⟩:=qU.1 h;obtain⟨u,c,h⟩:=qU.1 h;cases h;exact⟨(ig a c).1.1,(ig a b).1.1⟩
 split at h;obtain⟨y,-,h⟩:=qU.1 h;obtain⟨z,b,h⟩:=qU.1 h;obtain⟨u,c,h⟩:=qU.1 h;cases h;exact⟨(ig a b).1.1,by simp[bL]⟩
 split at h;obtain⟨y,d,h⟩:=qU.1 h;cases h;exact⟨by simp[bL],(ig a d).1.1⟩
 cases h
def PV(e:∀x∈L,W8 x):∀(k p:Nat)(c fs:List Fr),gz L k p c=(E fs,-1)->(∀f∈c,0<=f.offset/\0<=f.code)->∀f∈fs,0<=f.offset/\0<=f.code:=by
 intro k;induction k with
 |zero=>intro p c fs h;simp[gz]at h
 |succ k i=>
  intro p c fs h d;unfold gz at h;split at h;split at h;simp at h;rename_i f q a;refine i _ _ _ h (λg b=>?_);obtain b|b:=b9.1 b
  exact d g b;rw[eE.1 b];unfold kG at a;obtain⟨x,j,a⟩:=qU.1 a;split at a;cases a;exact PU e j;cases a;simp only[uS,qu]at h;rw[<-h.1];exact d
def FO(a:∀x∈L,W8 x){fs:List Fr}(h:eX L=(E fs,-1)):∀f∈fs,0<=f.offset/\0<=f.code:=by
 unfold eX at h;split at h;simp at h;exact PV a _ _ _ _ h (λf b=>(by cases b))
def PW(b:List Int):∀(k p:Nat)(a fs:List Fr)(q:Int),gz b k p a=(E fs,q)->q= -1:=by
 intro k;induction k with
 |zero=>intro p a fs q h;simp[gz]at h
 |succ k c=>
  intro p a fs q h;unfold gz at h;split at h;split at h;simp at h;exact c _ _ _ _ h;simp only[uS]at h;exact h.2.symm
def FP{fs:List Fr}(h:eX L=(E fs,q)):q= -1:=by
 unfold eX at h;split at h;simp at h;exact PW _ _ _ _ _ _ h
def FQ(hp:∀x∈L,W8 x):∀x∈bO L,W8 x:=λx a=>hp x (iC (jr a))
def FR(hp:∀x∈L,W8 x):0<=bu L:=by
 have h:=sx L hp;unfold bu;by_cases hl:8<=L.length;exact(h 8 hl).1;rw[à];have:=(h L.length (aP _)).1;rwa[kC]at this
def FU(h:cJ d n)(a:0<=p/\p<=4611686018427387903)(fs:List Fr):cJ (d.gI p fs) n:=by
 obtain⟨b,c,e⟩:=PQ (p:=d.floor) h.np h.c8 h.cr a;exact{h with np:=b,c8:=c,cr:=e}
def PX(h:cJ d n)(b:n<=100000)(hp:∀x∈L,W8 x):ix n (d.recv L).2.2:=by
 unfold Sd.recv;split;exact h;rename_i c;split;exact h;split;exact AY _ _ _;rename_i fs q hd;have:=FP hd;subst this;have hs:=yz hd;have e:=FO (vO (FQ hp)) hd;split;exact h;rename_i g;have i:fs.any d.fk=θ:=by simpa using g
 have j:dZ d.key (bf (!d.first)) L:=by simpa using c
 have k:=AX b fs _ (FU h ⟨FR hp,j.2.2.2⟩ fs) (λf a=>⟨hs f a,(e f a).1,Fs i _ f a⟩);split;exact k;exact AY _ _ _
def PY{st:bg}(h:ix n st)(c:n<=100000)(q:iy)(e:aZ q.code):ix (n+1) (st.do q).2:=by
 cases st with
 |shut aI l=>
  have a:ix (n+1) (.shut aI l):=h;have h0:ix (n+1) (.shut aI []):=⟨Γ,λp hp=>(by cases hp)⟩
  unfold bg.do;repeat' split
  all_goals first|exact a|exact h0
 |bh s=>
  have b:=h.mono (dw n);have a:ix (n+1) (.bh s):=b;unfold bg.do;split;unfold bg.write;simp only;split;exact a;exact PJ b O _;split;unfold bg.finish;simp only;split;exact a;exact PK b O;split;unfold bg.giveUp;simp only;split;exact a;exact PL b O e;split;exact PM h;split;exact(FJ h c).1;split;have:=PX h c (qw q.data);unfold bg.recv;simp only
  cases d:(s.recv (bl q.data)).2.2 with
  |bh f=>rw[d]at this;exact cJ.mono this (dw n)
  |shut aI l=>rw[d]at this;exact this
  split;unfold bg.read;simp only;split;exact a;exact PO b _ _;split;unfold bg.close;simp only;split;exact a;exact AY _ _ _;split;exact a;exact a
def PZ(h:iI p q)(d:cI L)(n:Nat):cJ (Sd.new p q L B) n:=by
 have f:im Ot.new:=⟨bk.nil,λm b=>absurd b (ij m),by simp[Ot.new],λm h0 c=>by simp[Ot.new]at c;omega,ij _,by simp[Ot.new,Ot.en]⟩
 have g:iT q It.new:=⟨bk.nil,by simp[It.new],λm b=>absurd b (ij m),λm b=>absurd b (ij m),λ_ m h0 c=>by simp[It.new]at c;omega,by simp[It.new];unfold iI at h;omega,by simp[It.new],λe=>by simp[It.new]at e⟩
 unfold iI at h;exact⟨d,⟨h.1,h.2.1⟩,h.2.2,λ_ _=>f,λ_ _=>by simp[Sd.new,Ot.new];omega,λ_ _=>by simp[Sd.new,Ot.new],λ_ _=>by simp[Sd.new,Ot.new],λ_ _=>g,λx a=>(by cases a),λx a=>(by cases a),by simp[Sd.new],λx a=>(by cases a),λx a=>(by cases a),by simp[Sd.new],by simp[Sd.new],by simp[Sd.new];omega,by simp[Sd.new],bk.nil,by simp[Sd.new],λr i=>(by cases i)⟩
def cg.fX(s:cg):Int:=if s.l.length=0\/0<(an s.l 0).lo then 0 else(an s.l 0).hi+1
def F0(w:D)(ob cb:Nat)(v:υ)(o:dH)(g:OC w ob cb o)(S:fg w cb v o.af)(hs:o.af.ok):Calls prog 76 #[π (E ⟨ob,0,N⟩)] w λe k=>e=ξ (I U o.af.fX)/\k=w:=by
 have c1:=g.c1;obtain⟨a,n,c,rfl,b,-⟩:=S.row;obtain⟨d0,-,-,-⟩:=iq S.aG;have m:=b.2.1;have q:=b.2.2.1;have p:=b.2.2.2.1;unfold maxLen at p;unfold cg.fX;by_cases h0:o.af.l.length=0
 .have e0:((n:Int)==0)=ρ:=Ψ;rw[aH (φ h0)];go_enter func76,ntmps76;go_wp2;go_ret;exact⟨Q,Q⟩
 have e0:((n:Int)==0)=θ:=Ψ;obtain⟨b1,d,rfl,r,s⟩:∃b1 d,a=E ⟨b1,d,N⟩/\κ w ⟨b1,d,N⟩=E (I U (an o.af.l 0).lo)/\κ w ⟨b1,d+1,N⟩=E (I U (an o.af.l 0).hi):=by
  obtain h0|⟨b1,d,rfl,-⟩:=b.2.2.2.2
  omega;have:=b.cell 0 O;exact⟨b1,d,Q,by simpa using this.1,by simpa using this.2⟩
 have j:=hs.1 _ (lL (s:=o.af.l) (i:=0) O);have t:(0:Int)<n:=O;have u:U.wrap ((an o.af.l 0).hi+1)=(an o.af.l 0).hi+1:=by rw[cZ];have:=j.2;unfold dQ at this;omega
 by_cases f:0<(an o.af.l 0).lo
 .have d1:decide ((an o.af.l 0).lo>0)=ρ:=bU f;rw[aH (ψ f)];generalize (an o.af.l 0).lo=lo at *;generalize (an o.af.l 0).hi=hi at *;go_enter func76,ntmps76;go_wp2;go_ret;exact⟨Q,Q⟩
 have d1:decide ((an o.af.l 0).lo>0)=θ:=bT f;rw[aE (λh=>h.elim h0 f)];generalize (an o.af.l 0).lo=lo at *;generalize (an o.af.l 0).hi=hi at *;clear g S b m h0 hs j;go_enter func76,ntmps76;go_wp2;go_ret;exact⟨Q,Q⟩
def ah.af(s:ah)(k:Int):Int×Int:=if s.of k≠0 then(0,s.of k)else((s.outs k.toNat).af.fX,0)
def vV(h:f.of p=0):∃j:Nat,j<4/\p=(j:Int):=by
 unfold ah.of at h;split at h;cases h;split at h;cases h;exact⟨p.toNat,O,O⟩
def Qm(w:D)(mb:Nat)(l:cz)(s:ah)(B:Nat->Prop)(H:bV w mb l s B)(hs:∀k,k<4->(s.outs k).af.ok)(hp:∀k,k<4->(s.outs k).af.fX<=4611686018427387905/\0<=(s.outs k).af.fX)(k:Int):Calls prog 46 #[π (E ⟨mb,0,N⟩),I X k] w λe c=>e=ξ (τ #[I X (s.af k).1,I X (s.af k).2])/\c=w:=by
 have M:=H.mc;have b:=J (oN w mb l s M k);have m:=M.outs;unfold ah.af;by_cases h:s.of k=0
 .rw[aE (by simpa using h)];obtain⟨j,a,rfl⟩:=vV h;have d:((j:Int)).toNat=j:=O;rw[d];have f:=J (F0 w (l.ob j) (l.cb j) (l.vc j) (s.outs j) (H.oc a) (H.outs.af j a) (hs j a));have n:=H.outs.row j a;have q:=hp j a;have g:=H.outs.co;unfold maxLen at g;rw[h]at b;generalize (s.outs j).af.fX=p at *;go_enter func46,ntmps46;go_wp2_with fail;apply(Z b).mono;rintro e i⟨rfl,rfl⟩;go_wp2_with fail;apply(Z f).mono;rintro e t⟨rfl,rfl⟩;go_wp2;go_ret2;exact⟨Q,Q⟩
 rw[aH h];generalize s.of k=r at *;go_enter func46,ntmps46;go_wp2_with fail;apply(Z b).mono;rintro e i⟨rfl,rfl⟩;go_wp2;go_ret2;exact⟨Q,Q⟩
def ah.finish(s:ah)(k:Int):Int×ah:=
 if s.of k≠0 then(s.of k,s)else if(s.outs k.toNat).finished||(s.outs k.toNat).given then(3,s)else(0,{s with outs:=aB s.outs k.toNat {s.outs k.toNat with finished:=ρ}})
def Qn(w:D)(mb:Nat)(l:cz)(s:ah)(B:Nat->Prop)(H:bV w mb l s B)(k:Int):Calls prog 41 #[π (E ⟨mb,0,N⟩),I X k] w λe b=>e=ξ (I X (s.finish k).1)/\bP w.heap.size w mb B (s.finish k).2 b:=by
 refine r8 (λ(r:Int×ah) b=>bP w.heap.size w mb B r.2 b) (s.finish k) λR g=>?_
 have M:=H.mc;have a:=J (oN w mb l s M k);have x:=M.outs;have hsame:Hid (∀e,R (e,s) w):=J (λe=>by rw[g];exact H.to (au _ _));unfold ah.finish;by_cases h:s.of k=0
 .rw[aE (by simpa using h)];obtain⟨j,c,rfl⟩:=vV h;have n:((j:Int)).toNat=j:=O;rw[n];have d:=H.oc c;have y:=H.outs.row j c;have p:=H.outs.co;unfold maxLen at p;rw[h]at a;have c2:=d.c2;have c3:=d.c3;have f2:=d.fz 2;let⟨q,t⟩:=H.uq c 2 (β ρ) {s.outs j with finished:=ρ} rfl rfl
  have u:Hid (R (0,{s with outs:=aB s.outs j {s.outs j with finished:=ρ}}) (ζ w ⟨l.ob j,2,N⟩ (β ρ))):=J (by rw[g];exact⟨l,B,q,λk v=>φ v,t⟩);cases i:(s.outs j).finished
  .rw[i]at c2;cases m:(s.outs j).given
   .rw[m]at c3;simp only[Bool.or_false,iV,iJ]
    go_enter func41,ntmps41;go_wp2_with fail;apply(Z a).mono;rintro e f⟨rfl,rfl⟩;go_wp2;go_ret;exact⟨Q,Z u⟩
   rw[m]at c3;simp only[Bool.or_true,fw]
   go_enter func41,ntmps41;go_wp2_with fail;apply(Z a).mono;rintro e f⟨rfl,rfl⟩;go_wp2;go_ret;exact⟨Q,Z hsame _⟩
  rw[i]at c2;simp only[Bool.true_or,fw]
  go_enter func41,ntmps41;go_wp2_with fail;apply(Z a).mono;rintro e f⟨rfl,rfl⟩;go_wp2;go_ret;exact⟨Q,Z hsame _⟩
 rw[aH h];have e0:(s.of k !=0)=ρ:=by simpa using h
 generalize s.of k=r at *;go_enter func41,ntmps41;go_wp2_with fail;apply(Z a).mono;rintro e f⟨rfl,rfl⟩;go_wp2;go_ret;exact⟨Q,Z hsame _⟩
def ah.giveUp(s:ah)(k code:Int):Int×ah:=
 if s.of k≠0 then(s.of k,s)else if(s.outs k.toNat).given=ρ\/4611686018427387903<code then(3,s)else(0,{s with outs:=aB s.outs k.toNat {s.outs k.toNat with given:=ρ,code:=code,end_:=(s.outs k.toNat).high}})
def Qo(w:D)(mb:Nat)(l:cz)(s:ah)(B:Nat->Prop)(H:bV w mb l s B)(k code:Int):Calls prog 42 #[π (E ⟨mb,0,N⟩),I X k,I U code] w λe d=>e=ξ (I X (s.giveUp k code).1)/\bP w.heap.size w mb B (s.giveUp k code).2 d:=by
 refine r8 (λ(r:Int×ah) d=>bP w.heap.size w mb B r.2 d) (s.giveUp k code) λR n=>?_
 have M:=H.mc;have b:=J (oN w mb l s M k);have K:=M.outs;have hsame:Hid (∀e,R (e,s) w):=J (λe=>by rw[n];exact H.to (au _ _));unfold ah.giveUp;by_cases h:s.of k=0
 .rw[aE (by simpa using h)];obtain⟨j,a,rfl⟩:=vV h;have u:((j:Int)).toNat=j:=O;rw[u];have p:=H.oc a;have L:=H.outs.row j a;have v:=H.outs.co;unfold maxLen at v;rw[h]at b;have c3:=p.c3;cases q:(s.outs j).given
  .rw[q]at c3;by_cases c:4611686018427387903<code
   .have d1:decide (code>4611686018427387903)=ρ:=bU c;rw[aH (ψ c)];go_enter func42,ntmps42;go_wp2_with fail;apply(Z b).mono;rintro e f⟨rfl,rfl⟩;go_wp2;go_ret;exact⟨Q,Z hsame _⟩
   have d1:decide (code>4611686018427387903)=θ:=bT c;rw[aE (by simp[c])];let⟨g,x⟩:=H.uq a 3 (β ρ) {s.outs j with given:=ρ} rfl rfl
   let⟨t,y⟩:=g.uq a 4 (I U code) {s.outs j with given:=ρ,code:=code} (by simp only[bN];rfl) (by simp only[bN])
   have m:=t.oc a;let⟨z,A⟩:=t.uq a 5 (I U (s.outs j).high) {s.outs j with given:=ρ,code:=code,end_:=(s.outs j).high} (by simp only[bN];rfl) (by simp only[bN])
   have f3:=p.fz 3;have c4:=(g.oc a).c4;have f4:=(g.oc a).fz 4;have c5:=m.c5;have c6:=m.c6;have f5:=m.fz 5;simp only[bN]at c4 c5 c6;have C:Hid (R (0,{s with outs:=aB s.outs j {s.outs j with given:=ρ,code:=code,end_:=(s.outs j).high}}) (((ζ w ⟨l.ob j,3,N⟩ (β ρ)).setCell ⟨l.ob j,4,N⟩ (I U code)).setCell ⟨l.ob j,5,N⟩ (I U (s.outs j).high))):=J (by
    rw[n];refine⟨l,B,?_,λk F=>φ F,((x.trans y).trans A).mono (λk _ e=>e.elim (λe=>e.elim id id) id)⟩
    have e:({s with outs:=aB (aB (aB s.outs j {s.outs j with given:=ρ}) j {s.outs j with given:=ρ,code:=code}) j {s.outs j with given:=ρ,code:=code,end_:=(s.outs j).high}}:ah)={s with outs:=aB s.outs j {s.outs j with given:=ρ,code:=code,end_:=(s.outs j).high}}:=by
     congr 1;funext i;unfold aB;split<;>rfl
    exact e▸z)
   go_enter func42,ntmps42;go_wp2_with fail;apply(Z b).mono;rintro e f⟨rfl,rfl⟩;go_wp2;go_ret;exact⟨Q,Z C⟩
  rw[q]at c3;rw[aH (φ Q)];go_enter func42,ntmps42;go_wp2_with fail;apply(Z b).mono;rintro e f⟨rfl,rfl⟩;go_wp2;go_ret;exact⟨Q,Z hsame _⟩
 rw[aH h];have e0:(s.of k !=0)=ρ:=by simpa using h
 generalize s.of k=r at *;go_enter func42,ntmps42;go_wp2_with fail;apply(Z b).mono;rintro e f⟨rfl,rfl⟩;go_wp2;go_ret;exact⟨Q,Z hsame _⟩
def ah.gC(s:ah)(k:Nat)(m:Nat):Int:=min (min (s.av-((s.outs k).data.size-(s.outs k).af.fX)) (4096-(s.outs k).data.size)) m
def ah.write(s:ah)(k:Int)(d:ByteArray):Int×Int×ah:=
 if s.of k≠0 then(0,s.of k,s)else if(s.outs k.toNat).finished||(s.outs k.toNat).given then(0,3,s)
 else(s.gC k.toNat d.size,0,{s with outs:=aB s.outs k.toNat {s.outs k.toNat with data:=(s.outs k.toNat).data++d.extract 0 (s.gC k.toNat d.size).toNat}})
def Qp(w:World)(mb:Nat)(l:cz)(s:ah)(B:Nat->Prop)(H:bV w mb l s B)(j:Nat)(q:j<4)(C:s.closed=0)(F:(s.outs j).finished=θ)(K:(s.outs j).given=θ)(hs:(s.outs j).af.ok)(hp:0<=(s.outs j).af.fX/\(s.outs j).af.fX<=4096)(ao:(s.outs j).data.size<=4096)(hw:0<=s.av/\s.av<=1024)(hr:((s.outs j).data.size:Int)-(s.outs j).af.fX<=s.av)(d:ByteArray)(hd:d.size<=1000000):
 Calls prog 40 #[π (E ⟨mb,0,none⟩),I X j,ς d] w λe f=>e=ξ (τ #[I X (s.gC j d.size),I X 0])/\bP w.heap.size w mb B {s with outs:=aB s.outs j {s.outs j with data:=(s.outs j).data++d.extract 0 (s.gC j d.size).toNat}} f:=by
 have M:=H.mc;have t:=J (oN w mb l s M (j:Int));have u:s.of (j:Int)=0:=by unfold ah.of;rw[aE (by simpa using C),ê]
 rw[u]at t;have a1:=M.outs;have c1:=M.c1;have c:=H.oc q;have r0:=H.outs.row j q;have i0:(0:Int)<=j:=O;have i1:(j:Int)<4:=O;have L:=H.outs.co;unfold maxLen at L;have P:=J (F0 w (l.ob j) (l.cb j) (l.vc j) (s.outs j) c (H.outs.af j q) hs);have o0:=c.c0;have S:=c.c2;have T:=c.c3;have f0:=c.fz 0;rw[F]at S;rw[K]at T;let⟨v,x⟩:=H.uq q 0 (ς ((s.outs j).data++d.extract 0 (s.gC j d.size).toNat)) {s.outs j with data:=(s.outs j).data++d.extract 0 (s.gC j d.size).toNat} rfl rfl
 refine js λR y=>?_
 have h:Hid (∀f,(ζ w ⟨l.ob j,0,none⟩ (ς ((s.outs j).data++d.extract 0 (s.gC j d.size).toNat))).grownBy f none->R f):=J (λf g=>by
  rw[y];exact⟨l,B,v.ag g,λk V=>φ V,(x.trans (aj.of g)).mono (λk _ e=>e.elim id (nofun))⟩)
 have z:Hid (s.gC j d.size=min (min (s.av-((s.outs j).data.size-(s.outs j).af.fX)) (4096-(s.outs j).data.size)) d.size):=J Q;generalize s.gC j d.size=N at *;generalize (s.outs j).af.fX=p at *;generalize (s.outs j).data=D at *;generalize s.av=W at *;clear M H y c v x u;have w1:X.wrap p=p:=by rw[uO];omega
 have w2:X.wrap ((D.size:Int)-p)=(D.size:Int)-p:=by rw[uO];omega
 have w3:X.wrap (W-((D.size:Int)-p))=W-((D.size:Int)-p):=by rw[uO];omega
 have w4:X.wrap (4096-(D.size:Int))=4096-(D.size:Int):=by rw[uO];omega
 go_enter func40,ntmps40;go_wp2_with fail;apply(Z t).mono;rintro e w1⟨rfl,rfl⟩;go_wp2_with fail;apply(Z P).mono;rintro e w2⟨rfl,rfl⟩;go_upto_region 8 with fail;go_region;obtain⟨b,r⟩:=í (W-((D.size:Int)-p));have i:=Z z;rw[<-r]at i⊢;have bj:0<=b:=O;replace r:=J r;obtain⟨m,hm⟩:∃m:Nat,N=(m:Int):=⟨N.toNat,O⟩
 subst hm;have br:(m:Int)<=d.size:=O;have bt:m<=d.size:=O;rw[mf]at h;clear z;by_cases A:4096-(D.size:Int)<b
 .have e1:decide (b>4096-(D.size:Int))=ρ:=bU A;by_cases n:(d.size:Int)<4096-(D.size:Int)
  .have e2:decide (4096-(D.size:Int)>(d.size:Int))=ρ:=bU n;have a:(d.size:Int)=m:=O;clear i;go_upto_region 13 with fail;try rw[a]
   clear a;go_region;go_wp2;go_ret2;exact⟨Q,Z h _ (aK (aK (au _ _)))⟩
  have e2:decide (4096-(D.size:Int)>(d.size:Int))=θ:=bT n;have a:4096-(D.size:Int)=(m:Int):=O;clear i;go_upto_region 13 with fail;try rw[a]
  clear a;go_region;go_wp2;go_ret2;exact⟨Q,Z h _ (aK (aK (au _ _)))⟩
 have e1:decide (b>4096-(D.size:Int))=θ:=bT A;by_cases n:(d.size:Int)<b
 .have e2:decide (b>(d.size:Int))=ρ:=bU n;have a:(d.size:Int)=m:=O;clear i;go_upto_region 13 with fail;try rw[a]
  clear a;go_region;go_wp2;go_ret2;exact⟨Q,Z h _ (aK (aK (au _ _)))⟩
 have e2:decide (b>(d.size:Int))=θ:=bT n;have a:b=(m:Int):=O;clear i;go_upto_region 13 with fail;try rw[a]
 clear a;go_region;go_wp2;go_ret2;exact⟨Q,Z h _ (aK (aK (au _ _)))⟩
def Qq(w:D)(mb:Nat)(l:cz)(s:ah)(B:Nat->Prop)(H:bV w mb l s B)(hs:∀k,k<4->(s.outs k).af.ok/\(0<=(s.outs k).af.fX/\(s.outs k).af.fX<=4096)/\(s.outs k).data.size<=4096/\((s.outs k).given=θ->((s.outs k).data.size:Int)-(s.outs k).af.fX<=s.av))(u:0<=s.av/\s.av<=1024)(k:Int)(d:ByteArray)(hd:d.size<=1000000):
 Calls prog 40 #[π (E ⟨mb,0,N⟩),I X k,ς d] w λe v=>e=ξ (τ #[I X (s.write k d).1,I X (s.write k d).2.1])/\bP w.heap.size w mb B (s.write k d).2.2 v:=by
 by_cases h:s.of k=0
 .obtain⟨j,b,rfl⟩:=vV h;have x:((j:Int)).toNat=j:=O;have y:s.closed=0:=by
   unfold ah.of at h;by_cases q:s.closed=0;exact q;rw[aH q]at h;cases h
  unfold ah.write;rw[aE (by simpa using h),x];let⟨z,A,C,F⟩:=hs j b
  cases i:(s.outs j).finished
  .cases m:(s.outs j).given;simp only[Bool.or_false,iV,iJ]
   exact Qp w mb l s B H j b y i m z A C u (F m) d hd;simp only[Bool.or_true,fw]
   refine js λR c=>?_
   have f:Hid (R w):=J (by rw[c];exact H.to (au _ _));have M:=H.mc;have a:=J (oN w mb l s M (j:Int));rw[h]at a;have K:=M.outs;have g:=H.oc b;have L:=H.outs.row j b;have P:(0:Int)<=j:=O;have S:(j:Int)<4:=O;have n:=H.outs.co;unfold maxLen at n;have p:=g.c2;have T:=g.c3;rw[i]at p;rw[m]at T;go_enter func40,ntmps40;go_wp2_with fail;apply(Z a).mono;rintro e t⟨rfl,rfl⟩;go_wp2;go_ret2;exact⟨Q,Z f⟩
  simp only[Bool.true_or,fw]
  refine js λR c=>?_
  have f:Hid (R w):=J (by rw[c];exact H.to (au _ _));have M:=H.mc;have a:=J (oN w mb l s M (j:Int));rw[h]at a;have K:=M.outs;have g:=H.oc b;have L:=H.outs.row j b;have P:(0:Int)<=j:=O;have S:(j:Int)<4:=O;have n:=H.outs.co;unfold maxLen at n;have p:=g.c2;rw[i]at p;go_enter func40,ntmps40;go_wp2_with fail;apply(Z a).mono;rintro e t⟨rfl,rfl⟩;go_wp2;go_ret2;exact⟨Q,Z f⟩
 unfold ah.write;rw[aH h];refine js λR c=>?_
 have f:Hid (R w):=J (by rw[c];exact H.to (au _ _));have a:=J (oN w mb l s H.mc k);have e0:(s.of k !=0)=ρ:=by simpa using h
 generalize s.of k=r at *;go_enter func40,ntmps40;go_wp2_with fail;apply(Z a).mono;rintro e t⟨rfl,rfl⟩;go_wp2;go_ret2;exact⟨Q,Z f⟩
def QS(w:D)(mb:Nat)(l:cz)(s:ah)(B:Nat->Prop)(H:bV w mb l s B)(k:Nat)(hk:k<4)(bA:s.closed=0)(aJ:Int)(hi:iz (s.ins k)):
 Calls prog 44 #[π (E ⟨mb,0,N⟩),I X k,I X aJ] w λe w'=>e=ξ (τ #[ς (strOfNums ((s.ins k).text aJ)),I X ((s.ins k).fY aJ).state,I U ((s.ins k).fY aJ).ik,I X 0])/\bP w.heap.size w mb B {s with ins:=aB s.ins k ((s.ins k).fY aJ)} w':=by
 refine js λR hR=>?_
 have p:=J (λ(w':D) cx cy(T:dI w w' (l.ib k) (l.vd k) (l.vt k) cx cy ((s.ins k).fY aJ))=>(show R w' by rw[hR];exact H.A9 hk T));have K:dI w w (l.ib k) (l.vd k) (l.vt k) (l.vd k) (l.vt k) (s.ins k):=dI.tJ (H.yK hk);have M:=H.mc;have bM:s.of (k:Int)=0:=by unfold ah.of;rw[bA];simp;omega
 have hO:=oN w mb l s M (k:Int);rw[bM]at hO;replace hO:=J hO;have dn:=M.ins;have r0:=H.ins.row k hk;have c9:=H.ins.ci;unfold maxLen at c9;have i0:(0:Int)<=k:=O;have i1:(k:Int)<4:=O;obtain⟨ib,b3⟩:=í (l.ib k);obtain⟨vd,b4⟩:=í (l.vd k);obtain⟨vt,b5⟩:=í (l.vt k);obtain⟨i,b6⟩:=í (s.ins k);rw[<-b3]at r0 K p;rw[<-b4,<-b5]at K p;rw[<-b6]at K p hi⊢;clear b3 b4 b5 b6 H M hR bM bA;obtain⟨S,y⟩:=í i.start;have L:iz S:=by
  rw[y];unfold aL.start;split;exact⟨hi.dl,hi.tl,hi.hi,hi.e0,hi.rd⟩
  exact hi
 have bb:S.data=i.data/\S.read=i.read/\S.code=i.code:=by
  rw[y];unfold aL.start;split<;>exact⟨Q,Q,Q⟩
 have b7:i.text aJ=(S.data.drop S.read.toNat).take (S.aQ aJ):=by unfold aL.text;rw[<-y,bb.1,bb.2.1]
 have bj:i.fY aJ=(S.eT (S.aQ aJ)).stop:=by unfold aL.fY;rw[<-y]
 rw[b7,bj];rw[bj]at p;clear b7 bj bb;obtain⟨C,hC⟩:=í (S.aQ aJ);have br:=J (λj(h:j<C)=>QI (i:=S) (p:=aJ) L (by rw[<-hC];exact h));have ax:=QJ (i:=S) (p:=aJ) L;have b8:=Ba (i:=S) (p:=aJ) L;rw[<-hC]at ax b8 p⊢;replace ax:=J ax;have q1:=L.dl;have q2:=L.tl;have q3:=L.hi;have q4:=L.rd;obtain⟨r,hr⟩:∃r:Nat,r=S.read.toNat:=⟨_,Q⟩
 have al:S.read=(r:Int):=O;rw[<-hr];obtain⟨n,hn⟩:=í S.data.length;have a3:S.high=(n:Int):=by rw[hn];omega
 have ca:Hid (r+C<=n):=J O;have cc:Hid (n<=100000000):=J O;have a2:Hid (S.there.length=n):=J (by rw[hn];exact q2);clear hC q1 q2 q3 q4 b8;replace⟨hn,hr,al,a3⟩:=fB hn hr al a3;obtain⟨j0,V,j2,j3,j4,j5,j6,z,d,F⟩:=K.at_.ic;replace K:=J K;have f8:=F 8;replace⟨hi,L⟩:=aT hi L;go_enter func44,ntmps44;go_upto_region 5 with(apply(Z hO).mono;rintro e w1⟨rfl,hw⟩;rw[hw];clear hw w1)
 obtain⟨t0,ao⟩:=í ((i.given&&decide (i.state=0)));replace ao:=J ao;go_cut [37] (λv wx=>v=β t0/\wx=w);case first=>
  clear p;replace y:=J y;obtain t|t:=(oX i.given).symm
  .rw[t]at j5;have a:Hid (t0=θ):=J (by rw[Z ao,t];rfl);replace t:=J t;go_wp2;go_meet;exact⟨by rw[Z a],Q⟩
  rw[t]at j5;by_cases hz:i.state=0
  .have a:Hid (t0=ρ):=J (by rw[Z ao,t,hz];rfl);rw[hz]at d;replace⟨t,hz⟩:=aT t hz;go_wp2;go_meet;exact⟨by rw[Z a],Q⟩
  have a:Hid (t0=θ):=J (by rw[Z ao,t];simpa using hz);have e1:(i.state==0)=θ:=by simpa using hz
  replace⟨t,hz⟩:=aT t hz;go_wp2;go_meet;exact⟨by rw[Z a],Q⟩
 rename D=>wy
 obtain⟨rfl,cf⟩:=hcut;rw[cf];clear cf wy;replace y:=J y;go_upto_if 37 with fail;go_cut [] (λwx=>dI w wx ib vd vt vd vt S);case first=>
  clear p;cases t0 with
  |false=>
   have a:Hid (S=i):=J (by rw[Z y];unfold aL.start;rw[aE (by have:=Z ao;simpa using this)]);go_wp2;go_meet;rw[Z a];exact Z K
  |true=>
   have a:Hid (S={i with state:=2}):=J (by rw[Z y];unfold aL.start;rw[aH (by have:=Z ao;simpa using this)]);go_wp2;go_meet;rw[Z a];exact(Z K).cell 8 (I X 2) {i with state:=2} rfl rfl rfl
 case rest=>
  clear j0 V j2 j3 j4 j5 j6 z d F f8 K hi y;go_upto_region 8 with fail;go_loopg [12] (C+1) (λg da wr=>∃j:Nat,j<=C/\da=ς (strOfNums ((S.data.drop r).take j))/\g=C+1-j/\dI w wr ib vd vt vd vt (S.eT j));case atStart=>exact⟨0,O,Q,O,by rw[show S.eT 0=S by unfold aL.eT;simp];exact hcut⟩
  case round=>
   clear hcut;obtain⟨j,hj,rfl,rfl,b⟩:=hrel;obtain⟨T,hT⟩:=í (strOfNums ((S.data.drop r).take j));rw[<-hT];have du:T.size=j:=by rw[hT,strOfNums_size,dK,fD];have:=Z hn;have:=Z ca;omega
   obtain⟨j0,V,j2,j3,j4,j5,j6,z,d,F⟩:=b.at_.ic;obtain⟨ad,cd,at_,ct,e1,e2,ch,cm,u,cp⟩:=b.rows;rw[show(S.eT j).data.length=n from(Z hn).symm]at e1 ch;rw[show(S.eT j).there.length=n from Z a2]at e2 u;unfold maxLen at cm cp;rw[show(S.eT j).read=((r+j:Nat):Int) by unfold aL.eT;simp only;rw[Z al];push_cast;rfl]at z;rw[show(S.eT j).high=(n:Int)from Z a3]at j2;rw[show(S.eT j).state=S.state from rfl]at d;by_cases db:j<C
   .obtain⟨h0,h1,h2,h3⟩:=Z br j db;rw[h0]at d;obtain⟨m,f⟩:=í (r+j);have cv:m<n:=by have:=Z ca;omega
    obtain⟨gt,dc,e3,t1,t2,t3,-,-⟩:=nX b.at_.there m (by rw[show(S.eT j).there.length=n from Z a2];exact cv);rw[show(S.eT j).there.length=n from Z a2]at e3;have t4:κ wr ⟨gt,m,N⟩=E (β ρ):=by
     rw[t3,kU];have:(S.eT j).there[m]?=E ρ:=by rw[f,Z hr];exact h3
     rw[this];rfl
    clear t3;obtain⟨ab,dv,e4,bt,-,-⟩:=b.at_.data.bs;rw[show(S.eT j).data.length=n from(Z hn).symm]at e4 bt;have e5:=e1.symm.trans e4;cases e5;subst e2;subst e1;cases e3;obtain⟨a1,bw⟩:∃a1:Option Addr,a1=if cd=m then ad else ad.map (·.add m):=⟨_,Q⟩
    have fj:∀W,(Instr.slice 112 (Y ad n cd) (E (I U m)) (E (I U ((m:Int)+1))) N).run prog W=.ok (Y a1 1 (cd-m)) W:=λW=>by
     have:=QF ad n cd m (m+1) O O W;rw[<-bw,show m+1-m=1 by omega]at this;push_cast at this;exact this
    have a4:=QG bt m cv;rw[<-bw]at a4;obtain⟨a8,hX⟩:=í (strOfNums (((S.eT j).data.drop m).take 1));obtain⟨wa,x⟩:=í wr.drew;obtain⟨wb,q⟩:=í wa.drew;have ga:G wr wa N:=by rw[x];exact aK (au _ _)
    have bx:G wa wb N:=by rw[q];exact aK (au _ _)
    have de:=nG (a4.ag ga);have bz:=nG (a4.ag (aq ga bx));rw[<-hX]at de bz;have dg:=bz;rw[q]at dg;clear bz;obtain⟨T2,a9⟩:=í (strOfNums ((S.data.drop r).take (j+1)));have cw:T++a8=T2:=by rw[hT,hX,a9,f];rw[QE];exact fR strOfNums (QH _ _ _)
    have dx:a8.size<=1:=by rw[hX,strOfNums_size];simp;omega
    have ea:∀W,(Op.stringOp .add T a8).run prog W=.ok (ς T2) W:=λW=>by
     rw[<-cw];exact run_string_add_sum (P:=prog) W T a8 (by have:=Z cc;omega)
    have a0:=(b.gb ga).at_.ic.c0;have a7:=(b.gb ga).at_.ic.c7;rw[show(S.eT j).read=(m:Int) by unfold aL.eT;simp only;rw[Z al,f];push_cast;rfl]at a7;have A:=(b.gb ga).gb bx;have k7:=A.at_.ic.c7;have f7:=A.at_.ic.fz 7;rw[show(S.eT j).read=(m:Int) by unfold aL.eT;simp only;rw[Z al,f];push_cast;rfl]at k7;have dk:Hid (dI w (ζ wb ⟨ib,7,N⟩ (I U ((m:Int)+1))) ib (Y ad n cd) (Y (E ⟨gt,0,N⟩) n ct) (Y ad n cd) (Y (E ⟨gt,0,N⟩) n ct) (S.eT (j+1))):=J (A.cell 7 (I U ((m:Int)+1)) (S.eT (j+1)) (by
     have e:(S.eT (j+1)).read=(m:Int)+1:=by unfold aL.eT;simp only;rw[Z al,f];push_cast;omega
     unfold nU;rw[e];rfl) Q Q)
    have w7:U.wrap ((m:Int)+1)=(m:Int)+1:=by rw[cZ];have:=Z cc;omega
    have m0:(0:Int)<=m:=O;have m1:(m:Int)<n:=O;have dm:Hid (j+1<=C):=J O;rw[<-f]at z;clear A a4 bt hX cw h3 h2 f h0 bw p hT ga bx ax br e4;replace⟨b,a9⟩:=aT b a9;go_upto_region 8 with fail;go_region;rw[<-x];clear x j0 V j2 z d;go_upto_region 9 with fail;go_region;rw[<-q];clear q;go_wp2;go_roundg (C+1-(j+1));case measure=>omega
    case rel=>exact⟨j+1,Z dm,by rw[Z a9],Q,Z dk⟩
   obtain rfl:j=C:=O;obtain⟨m,f⟩:=í (r+j);rw[<-f]at z;obtain⟨wa,x⟩:=í wr.drew;have Ia:=b.gb (show G wr wa N by rw[x];exact aK (au _ _));replace Ia:=J Ia;have m0:(0:Int)<=m:=O;replace hT:=J hT;clear br;go_upto_region 8 with fail;go_cut [74]from 41 to 98 (λv wx=>v=β θ/\wx=wa);case first=>
    clear p;replace x:=J x;by_cases c1:(j:Int)<aJ
    .by_cases c2:S.state=0
     .rw[c2]at d;by_cases c3:m<n
      .have m1:(m:Int)<n:=O;obtain⟨gt,dc,e3,t1,t2,t3,-,-⟩:=nX b.at_.there m (by rw[show(S.eT j).there.length=n from Z a2];exact c3);rw[show(S.eT j).there.length=n from Z a2]at e3;have t4:κ wr ⟨gt,m,N⟩=E (β θ):=by
        rw[t3,kU];have:(S.eT j).there[m]?=E θ:=by
         obtain h|h|h|h:=Z ax
         exact absurd c2 h;exfalso;omega;exfalso;have:=Z al;have:=Z a3;omega;rw[f,Z hr];exact h
        rw[this];rfl
       rw[e3]at V;clear t3 e3 f;replace⟨b,c2⟩:=aT b c2;go_region;go_wp2;go_meet;exact⟨Q,(Z x).symm⟩
      have m1:¬(m:Int)<(n:Int):=O;have d1:decide ((m:Int)<n)=θ:=bT m1;clear f;replace⟨b,c2⟩:=aT b c2;go_region;go_wp2;go_meet;exact⟨Q,(Z x).symm⟩
     have d1:(S.state==0)=θ:=by simpa using c2
     clear f;replace⟨b,c2⟩:=aT b c2;go_region;go_wp2;go_meet;exact⟨Q,(Z x).symm⟩
    have d1:decide ((j:Int)<aJ)=θ:=bT c1;clear f;replace b:=J b;go_region;go_wp2;go_meet;exact⟨Q,(Z x).symm⟩
   case rest=>
    obtain⟨rfl,ai⟩:=hcut;rw[ai];clear x ai j0 V j2 j3 j4 j5 j6 z d F b e1 e2 ch cm u cp ax f m0;rename D=>wq
    clear wq;obtain⟨c,hZ⟩:=í (S.eT j);rw[<-hZ]at Ia p;obtain⟨j0,V,j2,j3,j4,j5,j6,z,d,F⟩:=(Z Ia).at_.ic;have f8:=F 8;obtain⟨t1,u⟩:=í ((c.ended&&(decide (c.read=c.end_)&&decide (c.state=0))));replace u:=J u;obtain⟨wb,q⟩:=í wa.drew;have A:=(Z Ia).gb (show G wa wb N by rw[q];exact aK (au _ _));replace⟨A,hZ⟩:=aT A hZ;go_upto_region 11 with fail;go_cut [120] (λv wx=>v=β t1/\wx=wb);case first=>
     clear p;replace q:=J q;obtain c1|c1:=(oX c.ended).symm
     .rw[c1]at j4;have a:Hid (t1=θ):=J (by rw[Z u,c1];rfl);replace c1:=J c1;go_region;go_wp2;go_meet;exact⟨by rw[Z a],(Z q).symm⟩
     rw[c1]at j4;by_cases c2:c.read=c.end_
     .have d2:(c.read==c.end_)=ρ:=by simpa using c2
      by_cases c3:c.state=0
      .have a:Hid (t1=ρ):=J (by rw[Z u,c1,c3,bU c2];rfl);rw[c3]at d;replace⟨c1,c2,c3⟩:=cA c1 c2 c3;go_region;go_wp2;go_meet;exact⟨by rw[Z a],(Z q).symm⟩
      have a:Hid (t1=θ):=J (by rw[Z u,c1,bT c3];simp);have d3:(c.state==0)=θ:=by simpa using c3
      replace⟨c1,c2,c3⟩:=cA c1 c2 c3;go_region;go_wp2;go_meet;exact⟨by rw[Z a],(Z q).symm⟩
     have d2:(c.read==c.end_)=θ:=by simpa using c2
     have a:Hid (t1=θ):=J (by rw[Z u,c1,bT c2];rfl);replace⟨c1,c2⟩:=aT c1 c2;go_region;go_wp2;go_meet;exact⟨by rw[Z a],(Z q).symm⟩
    case rest=>
     obtain⟨rfl,ai⟩:=hcut;rw[ai];clear q ai j0 V j2 j3 j4 j5 j6 z d F f8 Ia;rename D=>wq
     clear wq;obtain⟨j0,V,j2,j3,j4,j5,j6,z,d,F⟩:=(Z A).at_.ic;have f8:=F 8;go_upto_if 120 with fail;go_cut [] (λwx=>dI w wx ib vd vt vd vt c.stop);case first=>
      clear p;cases t1 with
      |false=>
       have a:Hid (c.stop=c):=J (by unfold aL.stop;rw[aE (by have:=Z u;simpa using this)]);go_wp2;go_meet;rw[Z a];exact Z A
      |true=>
       have a:Hid (c.stop={c with state:=1}):=J (by unfold aL.stop;rw[aH (by have:=Z u;simpa using this)]);go_wp2;go_meet;rw[Z a];exact(Z A).cell 8 (I X 1) {c with state:=1} rfl rfl rfl
     case rest=>
      clear j0 V j2 j3 j4 j5 j6 z d F f8 A u;rename D=>wd
      have hf:Hid (R wd.drew):=J (Z p _ _ _ (hcut.gb (aK (au _ _))));obtain⟨-,-,-,-,-,-,j6,-,d,-⟩:=hcut.at_.ic;obtain⟨ak,hY⟩:=í c.stop;rw[<-hY]at j6 d hcut;clear p;replace⟨hcut,hY⟩:=aT hcut hY;go_upto_if 128 with fail;go_cut [13] (λv wx=>v=I U ak.ik/\wx=wd);case first=>
       by_cases c1:ak.state=2
       .have a:Hid (ak.ik=ak.code):=J (by unfold aL.ik;rw[aH c1]);go_wp2;go_meet;exact⟨by rw[Z a],Q⟩
       have a:Hid (ak.ik=0):=J (by unfold aL.ik;rw[aE c1]);have d1:(ak.state==2)=θ:=by simpa using c1
       go_wp2;go_meet;exact⟨by rw[Z a],Q⟩
      case rest=>
       obtain⟨rfl,ai⟩:=hcut;rw[ai];clear ai;go_upto_region 16 with fail;go_region;go_wp2_with fail;exact cC (v:=τ #[ς T,I X ak.state,I U ak.ik,I X 0]) (by simp[results,results44,go_sem]) Q ⟨by rw[<-Z hZ,<-Z hY,Z hT],Z hf⟩
def QT(w:D)(mb:Nat)(l:cz)(s:ah)(B:Nat->Prop)(H:bV w mb l s B)(k aJ:Int)(hi:∀k,k<4->iz (s.ins k)):
 Calls prog 44 #[π (E ⟨mb,0,N⟩),I X k,I X aJ] w λe a=>e=ξ (τ #[ς (strOfNums (s.read k aJ).1),I X (s.read k aJ).2.1,I U (s.read k aJ).2.2.1,I X (s.read k aJ).2.2.2.1])/\bP w.heap.size w mb B (s.read k aJ).2.2.2.2 a:=by
 by_cases h:s.of k=0;obtain⟨j,b,rfl⟩:=vV h;have i:s.closed=0:=by
  unfold ah.of at h;split at h;omega;rename_i h0;simpa using h0
 have e:s.read (j:Int) aJ=((s.ins j).text aJ,((s.ins j).fY aJ).state,((s.ins j).fY aJ).ik,0,{s with ins:=aB s.ins j ((s.ins j).fY aJ)}):=by
  unfold ah.read;rw[aE (by simpa using h)];simp only[mf]
 rw[e];exact QS w mb l s B H j b i aJ (hi j b);have e:s.read k aJ=([],0,0,s.of k,s):=by
  unfold ah.read;rw[aH h]
 rw[e];have c:=J (oN w mb l s H.mc k);have m:Hid (bP w.heap.size w mb B s w):=J (H.to (au _ _));obtain⟨x,d⟩:=í (s.of k);rw[<-d]at c h⊢;clear d e;obtain⟨R,f⟩:=í (λa:D=>bP w.heap.size w mb B s a);have n:(λ(e:Ending)(a:D)=>e=ξ (τ #[ς (strOfNums []),I X 0,I U 0,I X x])/\bP w.heap.size w mb B s a)=λe a=>e=ξ (τ #[ς ⟨#[]⟩,I X 0,I U 0,I X x])/\R a:=by rw[f];rfl
 have p:Hid (R w):=J (by rw[f];exact Z m);rw[n];go_enter func44,ntmps44;go_wp2_with (apply(Z c).mono;rintro e q⟨rfl,g⟩;rw[g];clear g q);exact cC (v:=τ #[ς ⟨#[]⟩,I X 0,I U 0,I X x]) (by simp[results,results44,go_sem]) Q ⟨Q,Z p⟩
def Rw:(prog.info? 192).map (λi=>(i.zero,i.size,i.bytes))=E (E (ε #[I U 0,Y N 0 0]),2,32):=Φ
def Rx(v:υ)(n:Nat)(l:List υ)(k:w.ownsRow 0 192 2 v n l)(b:Nat)(u0 u1:υ)(m:u0.oneCell'=ρ)(p:u1.oneCell'=ρ)(z:κ w ⟨b,0,N⟩=E u0)(q:κ w ⟨b,1,N⟩=E u1)(A:n<=100000000)(c:Nat):
 ∃a d e f,(Builtin.append_ #[105,105] 105 #[v,Y (E ⟨b,0,N⟩) 1 c]).run prog w=.ok (Y a d e) f/\f.ownsRow 0 192 2 (Y a d e) (n+1) (l++[u0,u1])/\G w f v.ownBlock/\((Y a d e).ownBlock=v.ownBlock\/(Y a d e).ownBlock=E w.heap.size):=by
 let⟨r,hi,s,t,u⟩:=kV Rw
 let⟨B,f,C,x,F,_,H⟩:=run_append_own_at (P:=prog) w 0 105 105 192 r _ 2 32 underlying105 hi s t u Q Θ v n l k ⟨b,0,N⟩ 1 c [u0,u1] Q (by
  intro j y h;rw[Addr.add_mid];have K:j<2:=by
   grind
  obtain rfl|rfl:j=0\/j=1:=O
  simp_all;simp at h;subst h;exact q) (λy i=>by
  simp only[iD,uN,or_false]at i;obtain rfl|rfl:=i
  exact m
  .exact p) (by simp[maxLen];omega) O (mP _)
 obtain⟨-,⟨rfl,e2⟩|⟨g,L,M,rfl,_⟩⟩:=id x;omega;grind
def Ry{l:cz}(h:cI f.key)(v:υ)(x:List (Int×List Fr))(a:List (υ×List cX)):(mL f l).toArray.setIfInBounds 28 v=(mL {f with ay:=x} {l with oM:=v,aw:=a}).toArray:=by
 let⟨_,_,_,_,_,_,_,_,_,_,_,_,_,_,_,_,e⟩:=uo h
 unfold mL;rw[e];rfl
def Rz{aw:List (υ×List cX)}{n:List (Int×List Fr)}(hl:aw.length=n.length)(y:υ×List cX)(x:Int×List Fr):ql (aw++[y]) (n++[x])=ql aw n++[I U x.1,y.1]:=by
 unfold ql;rw[List.zip_append O,List.flatMap_append];simp
def bV.RA{l:cz}(h:bV W o l f S)(F:Int)(hl:f.ay.length<=100000000){aw:List cX}(hF:iH k i W (Y a b n) aw)(hN:0<k)(hb:V=W.alloc (ο #[I U F,Y a b n] 192)):
 ∃g p r u,(Builtin.append_ #[105,105] 105 #[l.oM,Y (E ⟨W.heap.size,0,N⟩) 1 1]).run prog V=.ok (Y g p r) u/\κ u ⟨o,28,N⟩=E l.oM/\χ u ⟨o,28,N⟩=θ/\
  ∃l' B',bV (ζ u ⟨o,28,N⟩ (Y g p r)) o l' {f with ay:=f.ay++[(F,aw.map (·.1))]} B'/\(∀d,B' d->S d\/W.heap.size<=d\/(k<=d/\d<i))/\aj W (ζ u ⟨o,28,N⟩ (Y g p r)) S:=by
 have gb:G W V N:=by rw[hb];exact aC _ _ _
 have bb:V.heap[W.heap.size]?=E (ο #[I U F,Y a b n] 192 (0,0)):=by rw[hb];exact aM _ _
 have H:=h.ag gb;have a1:=hF.ag gb;let⟨g,p,r,u,hr,h2,h3,h4⟩:=Rx (w:=V) _ _ _ H.ay.row W.heap.size (I U F) (Y a b n) Q Q (by simp[κ,bb]) (by simp[κ,bb]) hl 1
 have tm:Ty V o 107:=⟨_,_,H.aG⟩
 have C2:=aj.of h3;have nm:l.oM.ownBlock≠E o:=λe=>absurd ((cN H.ay.row _ e).uniq tm) Θ
 have al:=(C2.block o tm.lt nm).trans H.aG;have b8:(ζ u ⟨o,28,N⟩ (Y g p r)).heap[o]?=E (ο (mL {f with ay:=f.ay++[(F,aw.map (·.1))]} {l with oM:=Y g p r,aw:=l.aw++[(Y a b n,aw)]}).toArray 107 (0,0)):=by
  rw[heap_set al,Ry h.key]
 have g3:=aD (au u (E o)) ⟨o,28,N⟩ (Y g p r) (ψ Q);have C3:=(aj.of g3).mono (λd _ e=>(aR e).symm);have C:=C2.trans C3;have T:∀q:List TypeId,192∉q->107∉q->fO V (λd=>l.oM.ownBlock=E d\/d=o) q:=λq h1 h2 d s t ht bw=>by
  obtain e|e:=s
  exact h1 ((cN H.ay.row _ e).uniq bw▸ht);subst e;exact h2 (tm.uniq bw▸ht)
 have M:=H.outs.frame C (T _ Θ Θ);have ao:=H.cq.frame C (T _ Θ Θ);have K:=H.ins.frame C (T _ Θ Θ);have cf:=H.due.frame C (T _ Θ Θ);have bx:∀(v:υ)(it:List cX),V.ownsRow 0 158 7 v it.length (lV it)->(ζ u ⟨o,28,N⟩ (Y g p r)).ownsRow 0 158 7 v it.length (lV it):=λv it hv=>dA hv C (λd e1 e2=>T [158] Θ Θ d e2 _ Γ (cN hv _ e1))
 have ch:Ty u o 107:=⟨_,_,al⟩
 have bz:(ζ u ⟨o,28,N⟩ (Y g p r)).ownsRow 0 192 2 (Y g p r) (f.ay++[(F,aw.map (·.1))]).length (ql (l.aw++[(Y a b n,aw)]) (f.ay++[(F,aw.map (·.1))])):=by
  rw[Rz h.ay.len,bS];exact dA h2 C3 (λd e1 e2=>by subst e2;exact absurd ((cN h2 _ e1).uniq ch) Θ)
 have bA:∀d,(Y g p r).ownBlock=E d->S d\/W.heap.size<=d:=λd ek=>by
  obtain e|e:=h4
  exact φ (qm h.bn.ay.1 d (e▸ek));rw[e]at ek;cases ek;exact ψ gb.size
 have hz:=C.size;refine⟨g,p,r,u,hr,?_,by simp[χ,al],_,λd=>S d\/(Y g p r).ownBlock=E d\/(Y a b n).ownBlock=E d,⟨b8,h.key,⟨M.row,M.gK,M.co,M.out,M.af,M.od,M.cd⟩,⟨ao.aX,ao.aU,ao.ne,ao.nc⟩,⟨K.row,K.kz,K.ci,K.aF,K.data,K.there,K.id,K.dd,K.td⟩,cf,⟨bz,by simp[h.ay.len],?_⟩,?_,?_,?_⟩,?_,?_⟩
 have hA:=A1 (f:=f) (l:=l) h.key;exact(ba al 28).trans (hA 10 _ Q);intro a4 x y L B;by_cases hi:a4<f.ay.length;rw[qo hi]at L;rw[qo (by rw[h.ay.len];exact hi)]at B;let⟨e1,e2,e3⟩:=H.ay.fr a4 x y L B
 exact⟨e1,bx _ _ e2,e3⟩
 have cv:=L;rw[ã]at L;rw[pQ (by rw[h.ay.len];omega)]at B;have bM:a4-f.ay.length=0:=by
  have:=(rS.1 L).1;simp at this;omega
 rw[bM]at L;rw[h.ay.len,bM]at B;simp at L B;subst L;subst B;refine⟨Q,bx _ _ (FX a1.own.1 (mP _)),λz hz=>?_⟩
 obtain⟨-,-,ra,cw,e2,-⟩:=(a1.own.2 z hz).1;exact⟨ra,_,_,e2⟩
 have P:∀v,gL S v->gL (λd=>S d\/(Y g p r).ownBlock=E d\/(Y a b n).ownBlock=E d) v:=λv hv y F c e=>φ (hv y F c e)
 have A:=h.bn;refine⟨φ A.m,⟨φ A.aX.1,P _ A.aX.2⟩,⟨φ A.aU.1,P _ A.aU.2⟩,φ A.ro,φ A.ri,λj R=>⟨φ (A.out j R).1,φ (A.out j R).2.1,P _ (A.out j R).2.2⟩,λj R=>⟨φ (A.aF j R).1,P _ (A.aF j R).2.1,P _ (A.aF j R).2.2⟩,P _ A.due,λy F c e=>ψ (φ (by cases e;rfl)),λy B=>?_⟩
 obtain B|B:=b9.1 B
 exact P _ (A.ay.2 y B);rw[eE.1 B];exact λy F c e=>ψ (ψ (by cases e;rfl))
 rintro d(s|s|s);exact bX (H.lt d s) hz;exact(cN bz _ s).lt;exact bX (cN a1.own.1 _ s).lt hz;rintro(h0|h0|h0);exact h.n0 h0;obtain e|e:=bA 0 h0
 exact h.n0 e;have:=h.lt _ h.bn.m;omega;have:=(hF.row 0 h0).1;omega;rintro d(s|s|s);exact φ s;exact(bA d s).imp id φ;exact ψ (ψ (hF.row d s));refine((aj.of gb).trans C).mono (λd s e=>?_);obtain e|e|e:=e
 cases e;exact qm h.bn.ay.1 d e;subst e;exact h.bn.m
