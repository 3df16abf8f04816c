import Derived.Test.YtjnmokmchdfchaaGreatDoorZSm
import Derived.Test.YtjnmokmchdfchaaGreatDoorZSn
set_option maxRecDepth 1000000
set_option maxHeartbeats 0
set_option linter.all false
namespace Go.Proofs.YtjnmokmchdfchaaGreatDoor
open Go.RowKit Tryz
open Go.Value renaming int→I,slice→Y,bool→β,pointer→π,agg→ε,string→ς,tuple→τ
open Go.IntKind renaming i64→X,u64→U,u8→Δ
open Go.Ending renaming returned→ξ
open Go.Obj renaming cells→ο
open Or renaming inl→φ,inr→ψ
open Option renaming some→E,none→N
open Bool renaming true→ρ,false→θ
open Go renaming World→D,Value→υ
open Go.World renaming grownBy→G,cell?→κ,frozen?→χ,setCell→ζ
attribute[local go_sem↓]Go.wp_at_zero Go.wp_at_succ
variable{c:Array υ}{B:Bool}{L:List Int}{b i j k n:Nat}{P S:Nat->Prop}{a:Option Addr}{T:TypeId}{x y z:υ}{V W v w:D}{f:ah}
def bP.other(h:bP n w i P f W)(C:aj W v S)(b:∀k,k<W.heap.size->S k->¬P k/\w.heap.size<=k/\k<n):bP n w i P f v:=by
 obtain⟨l,j,m,c,d⟩:=h;refine⟨l,j,m.other C (λk a e p=>?_),c,(d.trans C).mono (λk a e=>?_)⟩
 have q:=b k a e;obtain g|g:=c k p
 exact q.1 g;omega;obtain e|e:=e
 exact e;have:=b k (bX a d.size) e;omega
def bP.less(h:bP n w j S f W)(a:i<=n):bP i w j S f W:=by
 obtain⟨l,b,c,d,e⟩:=h;exact⟨l,b,c,λk g=>(d k g).imp id (bG a),e⟩
def lF(r:Rs):Array υ:= #[I X r.e,I X r.at_,I X r.n,I U r.code,ς (strOfNums r.data),Y N 0 0]
def GW(w:D)(mb:Nat)(B:Nat->Prop)(r:Rs×ah)(e:Ending)(a:D):Prop:=
 e=ξ (ε (lF r.1))/\bP w.heap.size w mb B r.2 a
structure wo(w:D)(q:iy)(W:D):Prop where
 e:W=((w.alloc (ο (gJ q) 32)).alloc (ο #[I X 0,I X 0,I X 0,I U 0,ς ⟨#[]⟩,Y N 0 0] 46)).alloc (ο #[I X 0,I X (-1),I X 0,I U 0,ς ⟨#[]⟩,Y N 0 0] 46)
 g:G w W N
 z:W.heap.size=w.heap.size+3
 b0:W.heap[w.heap.size]?=E (ο (gJ q) 32 (0,0))
 b1:W.heap[w.heap.size+1]?=E (ο #[I X 0,I X 0,I X 0,I U 0,ς ⟨#[]⟩,Y N 0 0] 46 (0,0))
 b2:W.heap[w.heap.size+1+1]?=E (ο #[I X 0,I X (-1),I X 0,I U 0,ς ⟨#[]⟩,Y N 0 0] 46 (0,0))
def wo.mk'(w:D)(q:iy):∃W,wo w q W:=by
 refine⟨_,Q,aW (aW (aC _ _ _) _) _,by simp only[dJ],?_,?_,?_⟩
 exact bp (aM _ _) (aq (aC _ _ _) (aC _ _ _));have:=aM (w.alloc (ο (gJ q) 32)) (ο #[I X 0,I X 0,I X 0,I U 0,ς ⟨#[]⟩,Y N 0 0] 46);rw[dJ]at this;exact bp this (aC _ _ _);have:=aM ((w.alloc (ο (gJ q) 32)).alloc (ο #[I X 0,I X 0,I X 0,I U 0,ς ⟨#[]⟩,Y N 0 0] 46)) (ο #[I X 0,I X (-1),I X 0,I U 0,ς ⟨#[]⟩,Y N 0 0] 46);simp only[dJ]at this;exact this
def wo.fin{q:iy}(a:wo w q W)(c:∀k,S k->k<w.heap.size)(T:bP W.heap.size W n S f v):
 (v.heap[w.heap.size]?=E (ο (gJ q) 32 (0,0))/\v.heap[w.heap.size+1]?=E (ο #[I X 0,I X 0,I X 0,I U 0,ς ⟨#[]⟩,Y N 0 0] 46 (0,0))/\v.heap[w.heap.size+1+1]?=E (ο #[I X 0,I X (-1),I X 0,I U 0,ς ⟨#[]⟩,Y N 0 0] 46 (0,0)))/\
 ∀b,aj v b (λk=>k=w.heap.size+1\/k=w.heap.size+1+1)->bP w.heap.size w n S f b:=by
 obtain⟨i,j,l,m,d⟩:=id T;have s:=a.z;have kp:∀k,w.heap.size<=k->k<W.heap.size->v.heap[k]?=W.heap[k]? :=λk t h=>d.block k h (λe=>by have:=c k e;omega)
 refine⟨⟨(kp _ O O).trans a.b0,(kp _ O O).trans a.b1,(kp _ O O).trans a.b2⟩,λb C=>?_⟩
 have p:bP W.heap.size w n S f v:=⟨i,j,l,m,((aj.of a.g).trans d).mono (λk _ e=>e.elim (nofun) id)⟩
 exact(p.other C (λk _ e=>⟨λr=>by have:=c k r;omega,O,O⟩)).less O
def qS(C:aj w W S)(a:S k)(o:Nat)(v:υ):aj w (ζ W ⟨k,o,N⟩ v) S:=
 (C.trans (aj.of (aD (au W (E k)) ⟨k,o,N⟩ v (ψ Q)))).mono (λ_ _ e=>e.elim id (λe=>aR e▸a))
def Ti:(prog.info? 46).map (·.size)=E 6:=Φ
def Tj{l m n:υ}(i:w.heap[b]?=E (ο #[x,y,z,l,m,n] T (0,0)))(C:aj w W (λk=>k=b+1))(h a c d f g a5:υ):
 aj w (((((((ζ W ⟨b+1,0,N⟩ h).setCell ⟨b,0,N⟩ a).setCell ⟨b,1,N⟩ c).setCell ⟨b,2,N⟩ d).setCell ⟨b,3,N⟩ f).setCell ⟨b,4,N⟩ g).setCell ⟨b,5,N⟩ a5) (λk=>k=b\/k=b+1)/\
 (((((((ζ W ⟨b+1,0,N⟩ h).setCell ⟨b,0,N⟩ a).setCell ⟨b,1,N⟩ c).setCell ⟨b,2,N⟩ d).setCell ⟨b,3,N⟩ f).setCell ⟨b,4,N⟩ g).setCell ⟨b,5,N⟩ a5).heap[b]?=E (ο #[a,c,d,f,g,a5] T (0,0)):=by
 have j:=qS C Q 0 h;have p:=(j.block b (aV.1 i).1 O).trans i;exact⟨qS (qS (qS (qS (qS (qS (j.mono (λ_ _ e=>.inr e)) (.inl rfl) _ _) (.inl rfl) _ _) (.inl rfl) _ _) (.inl rfl) _ _) (.inl rfl) _ _) (.inl rfl) _ _,heap_set (heap_set (heap_set (heap_set (heap_set (heap_set p a) c) d) f) g) a5⟩
def uC(C:aj w W (λj=>j=k))(o:Nat)(v:υ):aj w (ζ W ⟨k,o,N⟩ v) (λj=>j=k):=qS C Q o v
def yY{a c d:υ}(k:w.heap[b]?=E (ο #[x,y,z,a,c,d] T (0,0))):(κ w ⟨b,0,N⟩=E x/\κ w ⟨b,1,N⟩=E y/\κ w ⟨b,2,N⟩=E z/\κ w ⟨b,3,N⟩=E a/\κ w ⟨b,4,N⟩=E c/\κ w ⟨b,5,N⟩=E d)/\∀o,χ w ⟨b,o,N⟩=θ:=by simp[κ,χ,k]
def wu(w:D)(mb:Nat)(B:Nat->Prop)(s:ah)(c:Array υ)(wx:D):Prop:=
 wx.heap[w.heap.size+1]?=E (ο #[I X 0,I X 0,I X 0,I U 0,ς ⟨#[]⟩,Y N 0 0] 46 (0,0))/\wx.heap[w.heap.size+1+1]?=E (ο c 46 (0,0))/\∀a,aj wx a (λk=>k=w.heap.size+1\/k=w.heap.size+1+1)->bP w.heap.size w mb B s a
def wu.set{w:D}(h:wu w n S f c W)(i:Nat)(v:υ):wu w n S f (c.setIfInBounds i v) (ζ W ⟨w.heap.size+1+1,i,N⟩ v):=
 ⟨(dr _ _ _ _ (by show w.heap.size+1≠w.heap.size+1+1;omega)).trans h.1,heap_set h.2.1 v,λa C=>h.2.2 a (((qS (aj.rfl' W _) (ψ Q) i v).trans C).mono (λ_ _ e=>e.elim id id))⟩
def wA{f:FuncId}{args:Array υ}{l:cz}{s b:ah}(H:bV W n l s S)(e:b=s)(h:Calls prog f args W λe a=>e=ξ x/\a=W):Calls prog f args W λe a=>e=ξ x/\bP W.heap.size W n S b a:=
 h.mono (λ_ _ h=>⟨h.1,by rw[h.2,e];exact H.to (au _ _)⟩)
def Tk(w:D)(mb:Nat)(l:cz)(m:ah)(B:Nat->Prop)(H:bV w mb l m B){st:bg}(d:Rel st m n)(F:ix n st)(hn:n<=40000)(q:iy)(hd:q.data.size<=1000000):
 Calls prog 16 #[π (E ⟨mb,0,none⟩),ε (gJ q)] w (GW w mb B (m.ask q)):=by
 have i:(m.closed≠0)\/((Bl m)/\(∀k,k<4->(m.outs k).af.ok/\(0<=(m.outs k).af.fX/\(m.outs k).af.fX<=4096)/\(m.outs k).data.size<=4096/\((m.outs k).given=θ->((m.outs k).data.size:Int)-(m.outs k).af.fX<=m.av))/\(0<=m.av/\m.av<=1024)/\∀k,k<4->iz (m.ins k)):=by
  cases st with
  |bh s=>exact ψ ⟨dU.Tg d F hn,(dU.wr d F).1,(dU.wr d F).2,d.c.mK⟩
  |shut aI l=>exact φ (by have L:=d.cl;have b:=d.w0;omega)
 have a9:m.closed≠0->∀k,m.of k=9:=λh=>wj h
 refine fL λR M=>?_
 obtain⟨W,j⟩:=wo.mk' w q;obtain⟨P,S⟩:=í (Lib.bytesWorld W 5 q.data);have u:G W P none:=by rw[S];exact r9 _ _
 have ao:=tB W q.data;have bb:W.heap.size=w.heap.size+1+1+1:=j.z;rw[<-S,bb]at ao;have bj:=rq q.data;have a:=H.ag j.g;have L:Hid (Calls prog 40 #[π (E ⟨mb,0,none⟩),I X q.stream,ς q.data] W _):=J (by
  obtain h|⟨-,b,x,-⟩:=i
  rotate_left
  exact Qq W mb l m B a b x q.stream q.data hd
  .exact wA a (by unfold ah.write;rw[aH (by grind)]) (Tc W mb l m B a h q.stream q.data))
 have b:=J (Qn W mb l m B a q.stream);have x:=J (Qo W mb l m B a q.stream q.code);have y:Hid (Calls prog 43 #[π (E ⟨mb,0,none⟩),_] P _):=J (by
  obtain h|⟨b,-,-,-⟩:=i
  rotate_left
  exact Th P mb l m B (a.ag u) b _ _ _ (bl q.data) ao
  .exact wA (a.ag u) (by unfold ah.jI;rw[aH h]) (Te P mb l m B (a.ag u) h _ _ _ (bl q.data)))
 have h7:Hid (Calls prog 44 #[π (E ⟨mb,0,none⟩),I X q.stream,I X q.n] W _):=J (by
  obtain h|⟨-,-,-,b⟩:=i
  rotate_left
  exact QT W mb l m B a q.stream q.n b
  .exact wA a (by unfold ah.read;rw[aH (by grind)]) (Tf W mb l m B a h q.stream q.n))
 have h8:=J (Ql W mb l m B a q.code);have h9:Hid (Calls prog 46 #[π (E ⟨mb,0,none⟩),I X q.stream] W _):=J (by
  obtain h|⟨-,b,-,-⟩:=i
  rotate_left
  exact wA a Q (Qm W mb l m B a (λk hk=>(b k hk).1) (λk hk=>by have:=(b k hk).2.1;omega) q.stream)
  .exact wA a Q (Td W mb l m B a h q.stream))
 obtain⟨AM,t⟩:∃A:υ->D->Prop,A=λv wx=>v=I X (m.ask q).1.e/\wu w mb B (m.ask q).2 #[I X 0,I X (m.ask q).1.at_,I X (m.ask q).1.n,I U (m.ask q).1.code,ς (strOfNums (m.ask q).1.data),Y none 0 0] wx:=⟨_,Q⟩
 have V:Hid (∀C s,bP W.heap.size W mb B s C->wu w mb B s #[I X 0,I X (-1),I X 0,I U 0,ς ⟨#[]⟩,Y none 0 0] C):=J (λC s T=>⟨(j.fin H.lt T).1.2.1,(j.fin H.lt T).1.2.2,(j.fin H.lt T).2⟩);have h0:=J (a.to (N:=W.heap.size) (au W none));replace y:=J ((Z y).mono (λ_ _ h=>And.intro h.1 (bP.pre u h.2)));obtain⟨f1,f2,f3,f4⟩:κ W ⟨w.heap.size,1,none⟩=E (I X q.stream)/\κ W ⟨w.heap.size,2,none⟩=E (I X q.n)/\κ W ⟨w.heap.size,3,none⟩=E (I U q.code)/\κ W ⟨w.heap.size,4,none⟩=E (ς q.data):=by simp[κ,j.b0,gJ]
 have hW:=j.e;unfold gJ at *;obtain⟨op,stream,qn,code,data⟩:=q;simp only at *;replace⟨M,t⟩:=aT M t;clear i a9 j H a ao u d F;go_enter func16,ntmps16;go_upto_block 0 with fail;rw[<-hW];clear hW;go_cut [6] (λv6 wx=>AM v6 wx);case first=>
  have f:op=1\/op=2\/op=3\/op=6\/op=7\/op=8\/op=9\/(op≠1/\op≠2/\op≠3/\op≠6/\op≠7/\op≠8/\op≠9):=O;obtain rfl|rfl|rfl|rfl|rfl|rfl|rfl|f:=f
  rotate_left 7
  .have hM:Hid (AM (I X 0) W):=J (by
    rw[Z t];unfold ah.ask;dsimp only
    rw[aE f.1,aE f.2.1,aE f.2.2.1,aE f.2.2.2.1,aE f.2.2.2.2.1,aE f.2.2.2.2.2.1,aE f.2.2.2.2.2.2];exact⟨Q,Z V _ _ (Z h0)⟩)
   obtain⟨q1,q2,q3,q6,q7,q8,q9⟩:(op==1)=θ/\(op==2)=θ/\(op==3)=θ/\(op==6)=θ/\(op==7)=θ/\(op==8)=θ/\(op==9)=θ:=Ψ;clear f;go_wp2;go_meet;exact Z hM
  have p:=L;rotate_left
  have p:=b;rotate_left
  have p:=x;rotate_left
  have p:=y;rotate_left
  have p:=h7;rotate_left
  have p:=h8;rotate_left
  have p:=h9;all_goals
   clear L b x y h7 h8 h9
   go_wp2_with fail
   try rw[<-S]
   apply(Z p).mono
   rintro e C⟨rfl,T⟩
   have K:=Z V C _ T
   obtain⟨⟨c0,c1,c2,c3,c4,c5⟩,fz⟩:=yY K.2.1
   replace K:=J K
   clear V T h0 p f1 f2 f3 f4
   go_wp2
   go_meet
   rw[Z t]
   first|exact⟨Q,Z K⟩|exact⟨Q,(Z K).set 2 _⟩|exact⟨Q,(Z K).set 1 _⟩|exact⟨Q,(((Z K).set 4 _).set 2 _).set 3 _⟩
 case rest=>
  rw[Z t]at hcut;obtain⟨rfl,k1,k2,al⟩:=hcut;obtain⟨r,d⟩:=í (m.ask ⟨op,stream,qn,code,data⟩);rw[<-d]at al k2 M⊢;obtain⟨⟨c0,c1,c2,c3,c4,c5⟩,fz⟩:=yY k2;obtain⟨⟨d0,d1,d2,d3,d4,d5⟩,b6⟩:=yY k1;have ne:w.heap.size+1+1≠w.heap.size+1:=O;replace⟨k1,k2,al⟩:=cA k1 k2 al;clear h0 L b x y h7 h8 h9 V d bj S t;go_wp2_with fail;have i:=Tj (Z k1) (aj.rfl' _ _) (I X r.1.e) (I X r.1.e) (I X r.1.at_) (I X r.1.n) (I U r.1.code) (ς (strOfNums r.1.data)) (Y none 0 0);exact cC (results_cell_row results16 _ _ (w.heap.size+1) 46 _ (0,0) _ Ξ i.2 underlying46 Ξ Ti) Q (by rw[Z M];exact⟨Q,Z al _ i.1⟩)
def Tl(w:D)(r:Rs):Calls prog 17 #[ε (lF r),ε (lF r)] w λe f=>e=ξ (β ρ)/\G w f N:=by
 unfold lF;obtain⟨e,a,n,c,d,p⟩:=r;simp only
 generalize strOfNums d=x;have b:G w ((w.alloc (ο #[I X e,I X a,I X n,I U c,ς x,Y N 0 0] 46)).alloc (ο #[I X e,I X a,I X n,I U c,ς x,Y N 0 0] 46)) N:=aW (aC _ _ _) _;replace b:=J b;go_enter func17,ntmps17;go_wp2;go_ret;exact⟨Q,Z b⟩
def GX(c n:Int)(w:D)(d: -9223372036854775808<=c)(f:c<=9223372036854775807)(g:0<n)(l:n<=9223372036854775807):
 Calls prog 15 #[I X c,I X n] w λe h=>(∃i:Nat,e=ξ (I X i)/\(i:Int)<n)/\h=w:=by
 have m:∀x:Int,-9223372036854775808<=x->x<=9223372036854775807->X.wrap x=x:=λx d f=>by simp[IntKind.wrap,IntKind.bits,IntKind.signed];omega
 have key:∀x:Int,0<=x->∃i:Nat,x.tmod n=(i:Int)/\(i:Int)<n:=λx j=>by
  rw[Int.tmod_eq_emod_of_nonneg j];exact⟨(x %n).toNat,by have:=Int.emod_nonneg x (O:n≠0);omega,by have:=Int.emod_lt_of_pos x g;have:=Int.emod_nonneg x (O:n≠0);omega⟩
 replace key:=J key;by_cases b:c<0
 .have k:decide (c<0)=ρ:=by simp[b]
  go_enter func15,ntmps15;go_wp2;go_ret;obtain⟨i,hi,a⟩:=Z key (-(c+1)) O;rw[Int.neg_tmod]at hi;exact⟨⟨i,by rw[hi];rfl,a⟩,Q⟩
 have k:decide (c<0)=θ:=by simp[b]
 go_enter func15,ntmps15;go_wp2;go_ret;obtain⟨i,hi,a⟩:=Z key c O;rw[Int.tmod_eq_emod_of_nonneg O]at hi;exact⟨⟨i,by rw[hi];rfl,a⟩,Q⟩
def Tp(m:ah)(q:iy):(m.ask q).1.fW=[]:=by
 unfold ah.ask;grind
def Tq{g h i:υ}(j:w.heap[b]?=E (ο #[x,y,z,g,h,i] T (0,0)))(a c d e f a5:υ):
 ((((((ζ w ⟨b,0,N⟩ a).setCell ⟨b,1,N⟩ c).setCell ⟨b,2,N⟩ d).setCell ⟨b,3,N⟩ e).setCell ⟨b,4,N⟩ f).setCell ⟨b,5,N⟩ a5).heap[b]?=E (ο #[a,c,d,e,f,a5] T (0,0))/\
 aj w ((((((ζ w ⟨b,0,N⟩ a).setCell ⟨b,1,N⟩ c).setCell ⟨b,2,N⟩ d).setCell ⟨b,3,N⟩ e).setCell ⟨b,4,N⟩ f).setCell ⟨b,5,N⟩ a5) (λk=>k=b):=
 ⟨heap_set (heap_set (heap_set (heap_set (heap_set (heap_set j a) c) d) e) f) a5,uC (uC (uC (uC (uC (uC (aj.rfl' w _) 0 a) 1 c) 2 d) 3 e) 4 f) 5 a5⟩
def fQ.wC(s:fQ)(a:Nat->Prop):fQ:={s with A:=a}
def kT.start{s:fQ}{b:bg}(c:dp w s.xb s.sb b S)(d:bV w s.mb s.rl s.m s.B)(e:∀k,S k->¬s.B k):kT w (s.wC S) b s.m S w:=
 ⟨⟨s.rl,s.B,c,d,e,λk a=>φ a⟩,λk a=>φ a,aj.rfl' _ _⟩
def kT.comp{s:fQ}{b:bg}{d:ah}(a:kT w s b f S W)(T:kT W (s.wC S) b d S v):kT w s b d S v:=by
 let⟨h,i,j,l,m,n⟩:=T.at_
 have p:=a.c.size;refine⟨⟨h,i,j,l,m,λk g=>(n k g).imp id (bG p)⟩,a.wB,(a.c.trans T.c).mono (λk g e=>?_)⟩
 obtain e|e|e:=e
 exact e;obtain e|e:=a.wB k e
 exact φ e;omega;exact ψ e
structure BA(a:D)(s:fQ)(d:bg)(e:ah)(c:Nat->Prop)(r:Rs)(b:Nat)(wx:D):Prop where
 b:wx.heap[b]?=E (ο (lF r) 46 (0,0))
 g:wx.heap[a.heap.size]?=E (ο (lF r) 46 (0,0))
 bf:kT a (s.wC c) d e c wx
def Tr{c:D}{s:fQ}{j:bg}{r:Rs}(l:dp w s.xb s.sb j S)(d:bV w s.mb s.rl s.m s.B)(n:∀k,S k->¬s.B k)
 (g:G w W N) (z:W.heap.size=w.heap.size+1) (A:W.heap[w.heap.size]?=E (ο (lF r) 46 (0,0)))
 (h:G W v N) (T:bP v.heap.size v s.mb s.B f V) (i:aj V c (λk=>k=b)) (C:W.heap.size<=b/\(b<v.heap.size\/V.heap.size<=b)) (p:c.heap[b]?=E (ο (lF r) 46 (0,0))):BA w s j f S r b c:=by
 have q:=d.lt;let⟨t,u,t1,t2,t3⟩:=id T
 have x:=h.size;have F:=t3.size;refine⟨p,?_,?_⟩
 have e1:=h.block w.heap.size O Γ;have e2:=t3.block w.heap.size O (λe=>by have:=q _ e;omega);have H:=i.block w.heap.size O O;grind;have y:bP W.heap.size W s.mb s.B f c:=by
  refine⟨t,u,t1.other i (λk a e K=>?_),λk a=>(t2 k a).imp id (bG x),(((aj.of h).trans t3).trans i).mono (λk a e=>?_)⟩
  grind;grind
 exact((kT.start l d n).grow g).ask (l.ag g) (d.ag g) n (λk a=>φ a) y
structure sS(b:D)(s:fQ)(d:Nat->Prop)(a:Option Addr)(n c:Nat)(ps:List (List Int)):Prop where
 row:fq b 0 (Y a n c) ps
 out:∀k,(Y a n c).ownBlock=E k->¬d k/\¬s.B k/\k<b.heap.size
def sS.of{s:fQ}{ps:List (List Int)}(b:∀k,s.B k->k<W.heap.size)(h:fq w W.heap.size (Y a n i) ps)(c:∀j,(Y a n i).ownBlock=E j->¬S j):sS w s S a n i ps:=
 ⟨FX h (mP _),λk e=>⟨c k e,λd=>by have f:=(World.ownsRow.lt h k e).1;have:=b k d;omega,(World.ownsRow.lt h k e).2⟩⟩
def sS.at_{s:fQ}{ps:List (List Int)}(h:sS w s S a n i ps)(C:aj w W (s.wC S).F):fq W 0 (Y a n i) ps:=dA h.row C (λk e e2=>e2.elim (h.out k e).1 (h.out k e).2.1)
def sS.iZ{s:fQ}{ps:List (List Int)}(h:sS w s S a n i ps)(C:aj w W (s.wC S).F)(b:∀k,P k->s.B k\/w.heap.size<=k):sH W P a n i (ps.map strOfNums):=by
 refine⟨?_,λk e=>⟨λc=>(b k c).elim (h.out k e).2.1 (λe2=>by have:=(h.out k e).2.2;omega),bX (h.out k e).2.2 C.size⟩⟩
 have:=h.at_ C;rw[fF,rZ];exact this
def Ts{st:bg}(b:Rel st f n)(i:ix n st)(m:n<=40000):∃h,Rel st.fW.1 h (n+1)/\∀(W:D)(mb:Nat)(l:cz)(B:Nat->Prop)(a:Option Addr)(k c:Nat),bV W mb l f B->sH W B a k c (st.fW.2.map strOfNums)->Calls prog 18 #[π (E ⟨mb,0,N⟩),Y a k c] W λe j=>e=ξ (β ρ)/\bP W.heap.size W mb B h j:=by
 cases st with
 |bh s=>
  let⟨p,d,g⟩:=S8 b i O
  exact⟨_,dU.mono g (dw n),λW mb l B a k c H hp=>RG W mb l f B H a k c _ hp _ d⟩
 |shut aI l=>
  let⟨d,g⟩:=Tb b
  exact⟨_,g,λW mb l B a k c H hp=>RH W mb l f B H a k c _ hp (by rw[b.cl];exact b.w0) d⟩
def Tt{st:bg}{m:ah}(i:Rel st m n)(j:ix n st)(l:n<=40000)(q:iy)(k:aZ q.code):∃ps,(st.do q).1=⟨(m.ask q).1.e,(m.ask q).1.at_,(m.ask q).1.n,(m.ask q).1.code,(m.ask q).1.data,ps⟩/\(q.op≠5->ps=[]/\Rel (st.do q).2 (m.ask q).2 (n+1))/\(q.op=5->(m.ask q).2=m/\ps=st.fW.2/\(st.do q).2=st.fW.1):=by
 by_cases g:q.op=5;refine⟨st.fW.2,?_,λh=>absurd g h,λ_=>⟨?_,Q,?_⟩⟩<;>simp[bg.do,ah.ask,g];let⟨e1,e2⟩:=Ta i j O q k g
 refine⟨[],?_,λ_=>⟨Q,e2⟩,λh=>absurd h g⟩
 rw[<-e1];have:=Tp m q;rcases p:(m.ask q).1 with⟨a,b,c,d,e,f⟩
 grind
def dM.keeps{V:Lw}(h:dM w i V n)(r:Laid w){ps:List (List Int)}(hp:fq w 0 (Y a k j) ps)(hl:V.kept.length+ps.length<=100000000):
 ∃b c d f,(Builtin.append_ #[44,44] 44 #[V.vk,Y a k j]).run prog w=.ok (Y b c d) f/\χ f ⟨i,19,N⟩=θ/\(∃x,κ f ⟨i,19,N⟩=E x)/\dM (ζ f ⟨i,19,N⟩ (Y b c d)) i {V with kept:=V.kept++ps,vk:=Y b c d} n/\Laid (ζ f ⟨i,19,N⟩ (Y b c d))/\V.To w i (ζ f ⟨i,19,N⟩ (Y b c d)) {V with kept:=V.kept++ps,vk:=Y b c d}:=by
 have e1:(V.kept.map λp=>ς (strOfNums p)).length=V.kept.length:=fF _;have e2:(ps.map λp=>ς (strOfNums p)).length=ps.length:=fF _;obtain⟨b,c,d,f,s,H,g,l⟩:=Tm (w:=w) (T:=44) (e:=9) 44 (z:=ς ⟨#[]⟩) (n:=16) underlying44 Φ Q O _ _ (by rw[e1];exact h.kept) 0 _ _ (by rw[e2];exact hp) (λu t=>by obtain⟨p,-,rfl⟩:=fu.1 t;rfl) (by rw[e1,e2];exact hl);have v:fq f 0 (Y b c d) (V.kept++ps):=by
  unfold fq;grind
 have y:=h.qT i (φ Q);have A:Ty w i 90:=⟨_,_,h.aG⟩
 have B:V.vk.ownBlock≠E i:=λe=>(A.ne (cN h.kept i e) Θ) Q
 have b1:=(g.block i y (λe=>B e.symm)).trans h.aG;have m:=aD (au f (E i)) ⟨i,19,N⟩ (Y b c d) (ψ Q);refine⟨b,c,d,f,s,by simp[χ,b1],⟨V.vk,?_⟩,h.dR g v l,(r.gb g (λe=>(h.own 0 (ψ (ψ (ψ (ψ e))))).1 Q)).gb m (λe=>(h.own i (φ Q)).1 (aR e)),((aj.of g).trans (aj.of m)).mono (λk _ e=>?_),λk C=>?_⟩
 rw[ba b1];exact y9 V h.key 3;obtain e|e:=e
 exact φ (ψ (ψ (ψ (ψ e))));exact φ (φ (aR e).symm);obtain(e|e|e|e|e)|e:=C
 exact φ (φ (φ e));exact φ (φ (ψ (φ e)));exact φ (φ (ψ (ψ (φ e))));exact φ (φ (ψ (ψ (ψ (φ e)))));have F:(Y b c d).ownBlock=E k:=e;obtain q|q:=l
 exact φ (φ (ψ (ψ (ψ (ψ (q▸F))))));grind;exact φ (ψ e)
def Tu{l:List (List Int)}(h:fq w k (Y a n i) l):n=l.length:=by
 obtain⟨b,c,e,-,-,-,-⟩:=ns h;simp only[wQ]at e;exact e.2.1
def Hb{r:Rs}(h:w.heap[b]?=E (ο (lF r) 46 (0,0))):κ w ⟨b,0,N⟩=E (I X r.e)/\κ w ⟨b,1,N⟩=E (I X r.at_)/\κ w ⟨b,2,N⟩=E (I X r.n)/\κ w ⟨b,3,N⟩=E (I U r.code)/\κ w ⟨b,4,N⟩=E (ς (strOfNums r.data))/\κ w ⟨b,5,N⟩=E (Y N 0 0):=by
 simp[κ,h,lF]
def Tv(w:D)(l:Nat)(V:Lw)(n:Nat)(H:dM w l V n)(hV:oS V n)(hL:Laid w)(hn:n<=40000)(i:Nat)(hi:i<V.aQ)(q:iy)(ax:aZ q.code)(hd:q.data.size<=1000000):
 Calls prog 66 #[π (E ⟨l,0,N⟩),I X i,ε (gJ q)] w λe L=>e=ξ (β ρ)/\mM w l V n L:=by
 refine js λR hR=>?_
 obtain⟨d,a0⟩:=í (w.alloc (ο (gJ q) 32));have g1:G w d N:=by rw[a0];exact aC _ _ _
 have z1:d.heap.size=w.heap.size+1:=by rw[a0];exact dJ _ _
 have b1:d.heap[w.heap.size]?=E (ο (gJ q) 32 (0,0)):=by rw[a0];exact aM _ _
 have t:dM d l V n:=H.other (aj.of g1) (λk _ e=>by cases e);obtain⟨⟨bM,bj,-,-,-⟩,-⟩:=t.c;have cw:=t.c.1.2.2.2.2;have dv:l≠w.heap.size:=by have:=H.qT l (φ Q);omega
 have eS:w.heap.size≠l:=λe=>dv e.symm
 obtain⟨gx,cx,ex,e3,e4,cy⟩:=t.xi hi;obtain⟨gm,cm,em,e6,e7,b3⟩:=t.mi hi;rw[ex]at bM;rw[em]at bj;have i0:(0:Int)<=i:=O;have i1:(i:Int)<V.aQ:=O;obtain⟨d0,d1,d2,d3,d4⟩:κ d ⟨w.heap.size,0,N⟩=E (I X q.op)/\κ d ⟨w.heap.size,1,N⟩=E (I X q.stream)/\κ d ⟨w.heap.size,2,N⟩=E (I X q.n)/\κ d ⟨w.heap.size,3,N⟩=E (I U q.code)/\κ d ⟨w.heap.size,4,N⟩=E (ς q.data):=by simp[κ,b1,gJ]
 have j:=t.each i hi;obtain⟨ps,ek,er,e5⟩:=Tt j.rel j.ok hn q ax;obtain⟨m5,r5,b5⟩:=Ts j.rel j.ok hn;obtain⟨e8,dx⟩:=bg.FL j.ok O;have b6:=J (FZ d _ _ _ j.rt.mc);have a1:=PY j.ok O q ax;have gd:G d d.drew N:=aK (au d N);have ai:=PI d.drew (V.side i).xb (V.side i).sb (V.side i).st (V.side i).A n (j.cn.ag gd) j.ok O ((hL.gb g1).gb gd) q ax hd;have M:=λ(W:D)(HW:bV W (V.side i).mb (V.side i).rl (V.side i).m (V.side i).B)=>Tk W (V.side i).mb (V.side i).rl (V.side i).m (V.side i).B HW j.rel j.ok hn q hd
 unfold uk at ai;unfold GW at M;rw[ek]at ai;obtain⟨⟨r,P⟩,da⟩:∃x,x=(V.side i).m.ask q:=⟨_,Q⟩
 rw[<-da]at ai M er e5;obtain⟨al,db⟩:=í (((V.side i).st.do q).2);rw[<-db]at ai er e5 a1;simp only at ai M er e5;clear da db ek;have bt:=J (λ(u:D)(y:Nat->Prop)(ak:dp u (V.side i).xb (V.side i).sb al y)(hA:∀k,y k->(V.side i).A k\/d.drew.heap.size<=k) (C:aj d.drew u (V.side i).A)=>And.intro (Tn j gd ak hA C) (G7 j gd ak hA C));have b7:=J (λ(W7:D)(y:Nat->Prop)(T:kT d (V.side i) al P y W7)(z:q.op≠5)=>(show R W7 by
  rw[hR];obtain⟨s',hs,hF⟩:=t.G9 (dw n) hi T (er z).2 a1;exact mM.gb g1 ⟨_,hs,⟨hV.up.aQ,hV.up.len,hV.each⟩,t.laid hi T.c (hL.gb g1),Lw.To.side hi T.c hF⟩))
 have b8:=J (λ(W8:D)(y:Nat->Prop)(z:q.op=5)(T:kT d (V.side i) al m5 y W8)(a:Option Addr)(k c:Nat)(hp:fq W8 0 (Y a k c) ps)=>(show∃a' n' c' L,(Builtin.append_ #[44,44] 44 #[V.vk,Y a k c]).run prog W8=.ok (Y a' n' c') L/\χ L ⟨l,19,N⟩=θ/\(∃x,κ L ⟨l,19,N⟩=E x)/\R (ζ L ⟨l,19,N⟩ (Y a' n' c')) by
  rw[(e5 z).2.1]at hp;have hrel:Rel al m5 (n+1):=by rw[(e5 z).2.2];exact r5
  obtain⟨s',hs,hF⟩:=t.G9 (dw n) hi T hrel a1;have e9:=hV.len;obtain⟨a',n',c',L,k1,k2,k3,k4,k5,k6⟩:=hs.keeps (t.laid hi T.c (hL.gb g1)) hp (by show V.kept.length+_<=_;omega);refine⟨a',n',c',L,k1,k2,k3,?_⟩
  rw[hR];refine mM.gb g1 ⟨_,k4,⟨hV.up.aQ,?_,λp hp=>?_⟩,k5,(Lw.To.side hi T.c hF).trans k6⟩;show(V.kept++_).length<=_;rw[bS];omega
  .obtain hp|hp:=b9.1 hp
   exact hV.each p hp
   .exact dx p hp))
 have dc:=t.c.1.2.2.2.1;have ea:=J (λ(u:D)(C:aj d u (V.side i).F)(k:Nat)(S:V.Own l k\/k=w.heap.size)=>(show u.heap[k]?=d.heap[k]? by
  obtain S|S:=S
  exact C.block k (t.qT k S) (λe=>(t.own k S).2 i hi e)
  .subst S;exact C.block _ O (λe=>by have:=(H.each i hi).lt _ e;omega)))
 have bw:=J ai;clear ai;replace⟨M,a1⟩:=aT M a1;have K:=λ(W:D)(C:aj d W (V.side i).F)(k:Nat)(S:V.Own l k\/k=w.heap.size)(o:Nat)=>(show κ W ⟨k,o,N⟩=κ d ⟨k,o,N⟩from iB (Z ea W C k S))
 replace bM:=λ(W:D)(C:aj d W (V.side i).F)=>(K W C l (φ (φ Q)) 16).trans bM
 replace bj:=λ(W:D)(C:aj d W (V.side i).F)=>(K W C l (φ (φ Q)) 17).trans bj
 replace dc:=λ(W:D)(C:aj d W (V.side i).F)=>(K W C l (φ (φ Q)) 19).trans dc
 replace cy:=λ(W:D)(C:aj d W (V.side i).F)=>(K W C gx (φ (ψ (φ (by rw[ex];rfl)))) i).trans cy
 replace b3:=λ(W:D)(C:aj d W (V.side i).F)=>(K W C gm (φ (ψ (ψ (φ (by rw[em];rfl))))) i).trans b3
 replace d0:=λ(W:D)(C:aj d W (V.side i).F)=>(K W C w.heap.size (ψ Q) 0).trans d0
 replace d1:=λ(W:D)(C:aj d W (V.side i).F)=>(K W C w.heap.size (ψ Q) 1).trans d1
 replace d2:=λ(W:D)(C:aj d W (V.side i).F)=>(K W C w.heap.size (ψ Q) 2).trans d2
 replace d3:=λ(W:D)(C:aj d W (V.side i).F)=>(K W C w.heap.size (ψ Q) 3).trans d3
 replace d4:=λ(W:D)(C:aj d W (V.side i).F)=>(K W C w.heap.size (ψ Q) 4).trans d4
 clear K;have gr:aj d d.drew (V.side i).F:=(aj.of (aK (au d N))).mono (λk _ e=>by cases e);replace b1:=J b1;unfold gJ at *;obtain⟨op,stream,qn,code,data⟩:=q;simp only at *;replace⟨H,t,j,hL,ax,hR⟩:=mY H t j hL ax hR;go_enter func66,ntmps66;obtain⟨br,ca⟩:=í V.uD;rw[<-ca]at cw;replace ca:=J ca;have eb:=d0 d (aj.rfl' _ _);have ec:=bj d (aj.rfl' _ _);have ed:=b3 d (aj.rfl' _ _);go_upto_region 1 with fail;rw[<-a0];clear a0;by_cases hX:br=ρ/\op=5/\(V.side i).m.closed≠0
 .obtain⟨rfl,rfl,ee⟩:=hX;have ei:((V.side i).m.closed !=0)=ρ:=by simpa using ee
  have ej:=J (show R d by rw[Z hR];exact mM.stay (Z H) hV (Z hL) g1);clear bt b7 bw M b8;go_wp2_with (go_at_call 69;apply(Z b6).mono;rintro e w2⟨rfl,rfl⟩);go_ret;exact⟨Q,Z ej⟩
 go_cut [36] (λv wx=>v=β θ/\wx=d);case first=>
  clear bt b7 bw M b8;cases br
  .go_wp2_with fail;go_meet;exact⟨Q,Q⟩
  by_cases z:op=5
  .subst z;have ei:((V.side i).m.closed !=0)=θ:=by
    by_cases hc:(V.side i).m.closed=0;simpa using hc;exact absurd ⟨Q,Q,hc⟩ hX
   go_wp2_with (go_at_call 69;apply(Z b6).mono;rintro e w2⟨rfl,rfl⟩);go_meet;exact⟨Q,Q⟩
  have q5:(op==5)=θ:=by simpa using z
  go_wp2;go_meet;exact⟨Q,Q⟩
 case rest=>
  obtain⟨rfl,de⟩:=hcut;rw[de];clear cw de eb ec ed hX b6;have eo:=J (show∀k,(V.side i).B k->k<d.drew.heap.size from(Z j).rt.lt);go_upto_region 3 with fail;go_region_held3 (λL=>aj d L (V.side i).F)
   (with_reducible first|exact dg|exact gr)
   (first|(go_at_call 60;apply(Z bw).mono;rintro e u⟨pa,pn,pc,rfl,dk,y,ak,hA,C3,dm⟩;have a2:=sS.of (s:=V.side i) (Z eo) dk dm;clear dk dm;obtain⟨T3,a3,cc⟩:=Z bt u y ak hA C3;have dg:aj d u (V.side i).F:=T3.c;replace ak:=J ak;replace hA:=J hA;replace a2:=J a2;replace T3:=J T3;replace a3:=J a3;replace cc:=J cc;clear C3))
  clear bw bt gr;go_upto_region 5 with fail;obtain⟨f,ao⟩:=í (u.alloc (ο (lF r) 46));have bx:G u f N:=by rw[ao];exact aC _ _ _
  have z4:f.heap.size=u.heap.size+1:=by rw[ao];exact dJ _ _
  have b4:f.heap[u.heap.size]?=E (ο (lF r) 46 (0,0)):=by rw[ao];exact aM _ _
  unfold lF at ao;rw[<-ao];clear ao;have zA:((f.alloc (ο #[I X 0,I X 0,I X 0,I U 0,ς ⟨#[]⟩,Y N 0 0] 46)).drew).heap.size=f.heap.size+1:=dJ _ _;have cf:G f f.drew N:=aK (au f N);have ch:G f (f.alloc (ο #[I X 0,I X 0,I X 0,I U 0,ς ⟨#[]⟩,Y N 0 0] 46)).drew N:=aK (aC _ _ N);have bA:Hid ((f.alloc (ο #[I X 0,I X 0,I X 0,I U 0,ς ⟨#[]⟩,Y N 0 0] 46)).drew.heap[f.heap.size]?=E (ο #[I X 0,I X 0,I X 0,I U 0,ς ⟨#[]⟩,Y N 0 0] 46 (0,0))):=J (aM f _);have C4:aj d f (V.side i).F:=(dg.trans (aj.of bx)).mono (λk _ e=>e.elim id (nofun));have gr:aj d f.drew (V.side i).F:=(C4.trans (aj.of cf)).mono (λk _ e=>e.elim id (nofun));have gA:aj d (f.alloc (ο #[I X 0,I X 0,I X 0,I U 0,ς ⟨#[]⟩,Y N 0 0] 46)).drew (V.side i).F:=(C4.trans (aj.of ch)).mono (λk _ e=>e.elim id (nofun));have a4:=Z M f.drew (((Z a3).ag bx).ag cf);have a8:=Z M _ (((Z a3).ag bx).ag ch);have fa:d.heap.size<=f.heap.size:=C4.size;have et:Hid (∀k,(V.side i).B k->k<d.heap.size):=J (Z j).rt.lt;have cp:=J (λ(Wc h w6:D)(gc:G f Wc N)(T:bP Wc.heap.size Wc (V.side i).mb (V.side i).B P h)(b:Nat)(C6:aj h w6 (λk=>k=b)) (aa:f.heap.size<=b/\(b<Wc.heap.size\/h.heap.size<=b)) (ev:w6.heap[b]?=E (ο (lF r) 46 (0,0)))=>Tr (Z ak) (Z a3) (Z cc) bx z4 b4 gc T C6 aa ev);have ey:=J (λ(Wc h:D)(gc:aj d Wc (V.side i).F)(T:bP Wc.heap.size Wc (V.side i).mb (V.side i).B P h)=>(show aj d h (V.side i).F from(gc.trans T.choose_spec.choose_spec.2.2).mono (λk _ e=>e.elim id ψ)));have ct:=J (λ(h:D)(T:bP (f.alloc (ο #[I X 0,I X 0,I X 0,I U 0,ς ⟨#[]⟩,Y N 0 0] 46)).drew.heap.size (f.alloc (ο #[I X 0,I X 0,I X 0,I U 0,ς ⟨#[]⟩,Y N 0 0] 46)).drew (V.side i).mb (V.side i).B P h)=>(T.choose_spec.choose_spec.2.2.block f.heap.size (by rw[zA];omega) (λe=>by have:=Z et _ e;omega)).trans (Z bA));have dn:=J (λ(h:D)(T:bP f.drew.heap.size f.drew (V.side i).mb (V.side i).B P h)=>(show f.heap.size<=h.heap.size/\BA u (V.side i) al P y r h.heap.size (h.alloc (ο (lF r) 46))from
   have hz:f.heap.size<=h.heap.size:=T.choose_spec.choose_spec.2.2.size
   ⟨hz,Z cp f.drew h _ cf T h.heap.size ((aj.of (aC h _ N)).mono (λk _ e=>by cases e)) ⟨hz,ψ (aP _)⟩ (aM _ _)⟩))
  have du:=J (λ(h:D)(T:bP (f.alloc (ο #[I X 0,I X 0,I X 0,I U 0,ς ⟨#[]⟩,Y N 0 0] 46)).drew.heap.size (f.alloc (ο #[I X 0,I X 0,I X 0,I U 0,ς ⟨#[]⟩,Y N 0 0] 46)).drew (V.side i).mb (V.side i).B P h)=>
   have q:=Tq (Z ct h T) (I X r.e) (I X r.at_) (I X r.n) (I U r.code) (ς (strOfNums r.data)) (Y N 0 0);Z cp _ h _ ch T f.heap.size q.2 ⟨aP _,φ (by rw[zA];omega)⟩ q.1)
  unfold lF at a4 a8;replace⟨a4,a8,b4,z4,zA⟩:=gT a4 a8 b4 z4 zA;clear M;go_cut [14] (λv wx=>∃b,v=π (E ⟨b,0,N⟩)/\f.heap.size<=b/\BA u (V.side i) al P y r b wx);case first=>
   go_region_with (first
    |(go_at_call 16;with_reducible apply(Z a8).mono;rintro e h⟨rfl,T5⟩;have cv:=Z ct _ T5;obtain⟨⟨y0,y1,y2,y3,y4,y5⟩,fy⟩:=yY cv;replace cv:=J cv;replace T5:=J T5)
    |(go_at_call 16;with_reducible apply(Z a4).mono;rintro e h⟨rfl,T5⟩;replace T5:=J T5))
   all_goals go_wp2_with fail
   all_goals go_meet
   all_goals first
    |exact⟨_,Q,Z dn h (Z T5)⟩
    |exact⟨_,Q,aP _,Z du h (Z T5)⟩
  case rest=>
   clear a4 a8 dn du cp ey ct;obtain⟨b,rfl,aa,bb⟩:=hcut;obtain⟨u0,u1,u2,u3,u4,u5⟩:=Hb bb.g;obtain⟨v0,v1,v2,v3,v4,v5⟩:=Hb bb.b;have bz:=Tl wc r;have hZ:=bb.bf;have hC:=J (λ(w7:D)(g:G wc w7 N)=>((Z T3).comp (hZ.grow g)).c);unfold lF at bz;replace⟨bb,bz,hZ⟩:=cA bb bz hZ;go_upto_region 7 with(go_at_call 17;apply(Z bz).mono;rintro e w7⟨rfl,g7⟩;have fb:=Z hC w7 g7;have T7:=(Z hZ).grow g7;clear g7)
   by_cases z:op=5
   .subst z;obtain⟨em,ez,fc⟩:=e5 Q;subst em;obtain⟨l',B',h1,h2,h3,h4⟩:=id T7.at_;have hE:=J (b5 w7 (V.side i).mb l' B' pa pn pc h2 (ez▸(Z a2).iZ T7.c h4));have eK:=J (λ(w8:D)(T:bP w7.heap.size w7 (V.side i).mb B' m5 w8)=>
     have T8:=T7.ask h1 h2 h3 h4 T;And.intro ((Z T3).comp T8).c (Z b8 w8 y Q ((Z T3).comp T8) pa pn pc ((Z a2).at_ T8.c)))
    replace T7:=J T7;clear h1 h2 h3 h4 b5;go_upto_region 9 with(go_at_call 18;apply(Z hE).mono;rintro e w8⟨rfl,T8⟩;obtain⟨ff,a9,n9,c9,w9,k1,k2,⟨x9,k3⟩,k4⟩:=Z eK w8 T8;clear T8;replace k4:=J k4)
    replace k1:=J k1;go_wp2_with (at_builtin;refine jN Ξ 44 44 Ξ _ _ Ξ _ _ _ Ξ Ξ (Z k1) ?_);go_ret;exact⟨Q,Z k4⟩
   have q5:(op==5)=θ:=by simpa using z
   have eL:=J (Z b7 w7 y ((Z T3).comp T7) z);obtain rfl:pn=0:=by have:=Tu (Z a2).row;rw[(er z).1]at this;exact this
   replace T7:=J T7;clear b5;go_wp2;go_ret;exact⟨Q,Z eL⟩
def dM.TA{V:Lw}(H:dM w k V n)(hi:i<V.aQ):∃g c,V.nu=Y (E ⟨g,0,N⟩) V.aQ c/\V.aQ<=c/\c<=9223372036854775807/\κ w ⟨g,i,N⟩=E (β (V.side i).f):=by
 obtain⟨g,c,e1,e2,a,b,-⟩:=nX H.me i hi;exact⟨g,c,e1,e2,by simpa [maxLen]using a,by rw[b,kU,List.getElem?_range hi];rfl⟩
def dM.ki{V:Lw}(H:dM w k V n)(hi:i<V.kept.length):∃g c,V.vk=Y (E ⟨g,0,N⟩) V.kept.length c/\V.kept.length<=c/\c<=9223372036854775807/\κ w ⟨g,i,N⟩=E (ς (strOfNums V.kept[i])):=by
 obtain⟨g,c,e1,e2,a,b,-⟩:=nX H.kept i hi;exact⟨g,c,e1,e2,by simpa [maxLen]using a,by rw[b,kU,dB hi];rfl⟩
def TB(w:D)(wb:Nat)(V:Lw)(n:Nat)(H:dM w wb V n)(hV:oS V n)(hL:Laid w)(hn:n<=40000)(s:iA)(hs:rP w s)(hk:s.kind≠1):
 Calls prog 33 #[π (E ⟨wb,0,N⟩),ε (jB s)] w λe u=>e=ξ (β ρ)/\mM w wb V n u:=by
 refine js λR hR=>?_
 obtain⟨d,a8⟩:=í (w.alloc (ο (jB s) 94));have g1:G w d N:=by rw[a8];exact aC _ _ _
 have b0:d.heap[w.heap.size]?=E (ο (jB s) 94 (0,0)):=by rw[a8];exact aM _ _
 have ai:=J (λ(W:D)(g:G d W N)=>(show R W by rw[hR];exact mM.stay H hV hL (aq g1 g)));have P:=J (λ(W:D)(g:G d W N)(i:Nat)(hi:i<V.aQ)(q:iy)(hq:aZ q.code)(hd:q.data.size<=1000000)=>(show Calls prog 66 #[π (E ⟨wb,0,N⟩),I X i,ε (gJ q)] W λe u=>e=ξ (β ρ)/\R u by
  have gg:=aq g1 g;apply(Tv W wb V n (H.other (aj.of gg) (λk _ e=>by cases e)) hV (hL.gb gg) hn i hi q hq hd).mono;rintro e u⟨he,hw⟩;exact⟨he,by rw[hR];exact hw.gb gg⟩))
 have z:=H.other (aj.of g1) (λk _ e=>by cases e);have L1:=hL.gb g1;obtain⟨ax,cx,ex,et,ey,-,-⟩:=ns z.x;have bx:=z.c.1.1;rw[ex]at bx;replace bx:=kc bx;obtain⟨d0,d1,d2,d3,d4,d5,d6,d7,d8,d9⟩:κ d ⟨w.heap.size,0,N⟩=E (I X s.kind)/\κ d ⟨w.heap.size,1,N⟩=E (I X s.a)/\κ d ⟨w.heap.size,2,N⟩=E (I X s.b)/\κ d ⟨w.heap.size,3,N⟩=E (I X s.q.op)/\κ d ⟨w.heap.size,4,N⟩=E (I X s.q.stream)/\κ d ⟨w.heap.size,5,N⟩=E (I X s.q.n)/\κ d ⟨w.heap.size,6,N⟩=E (I U s.q.code)/\κ d ⟨w.heap.size,7,N⟩=E (ς s.q.data)/\κ d ⟨w.heap.size,8,N⟩=E (Y s.la s.ln s.lc)/\κ d ⟨w.heap.size,9,N⟩=E (ς s.s):=by simp[κ,b0,jB]
 replace d0:=kc d0;replace d1:=kc d1;replace d2:=kc d2;replace d3:=kc d3;replace d4:=kc d4;replace d5:=kc d5;replace d6:=kc d6;replace d7:=kc d7;replace d8:=kc d8;replace d9:=kc d9;have bz:=hs.a;unfold ie at bz;have eb:(V.aQ:Int)<=9223372036854775807:=by have:=hV.aQ;omega
 have gd:=aK (au d N);have gr:=au d N;let⟨kind,a,b,⟨op,stream,qn,code,data⟩,la,ln,lc,fs,str⟩:=s
 unfold jB at a8⊢;simp only at *;have k1:(kind==1)=θ:=by simpa using hk
 replace⟨H,z,L1,hL,hs,hR,b0,ex⟩:=xQ H z L1 hL hs hR b0 ex;go_enter func33,ntmps33;go_upto_region 13 with fail;rw[<-a8];clear a8;by_cases cy:V.aQ=0
 .have e0:((V.aQ:Int)==0)=ρ:=by simp[cy]
  have F:=J (Z ai d gr);go_wp2;go_ret;exact⟨Q,Z F⟩
 have e0:((V.aQ:Int)==0)=θ:=by simp[cy]
 have bj:=J (λW=>GX a (V.aQ:Int) W bz.1 bz.2 O eb);go_upto_region 15 with fail;go_cut [11] (λv wx=>∃i:Nat,v=I X i/\i<V.aQ/\G d wx N);case first=>
  go_region_held3 (λu=>G d u N)
   (with_reducible first|exact gd|exact gr)
   (first|(go_at_call 15;apply(Z bj _).mono;rintro e w5⟨⟨i,rfl,hi⟩,rfl⟩))
  go_wp2;go_meet;exact⟨i,Q,O,gd⟩
 case rest=>
  obtain⟨i,rfl,hi,C⟩:=hcut;obtain⟨p,rfl⟩:=í wc;let⟨gm,cm,em,ec,ed,a3⟩:=(Z z).TA hi
  replace a3:=kc a3;have fI:=(Z z).c.1.2.2.1;rw[em]at fI;replace fI:=kc fI;replace em:=J em;have i0:(0:Int)<=i:=O;have i1:(i:Int)<V.aQ:=O;obtain⟨f,F⟩:=í ((V.side i).f);rw[<-F]at a3;replace F:=J F;go_upto_region 16 with fail;go_upto_if 116 with fail;go_cut [12] (λv wx=>∃j:Int,v=I X j/\W8 j/\wx=p);case first=>
   cases f
   .go_wp2_with fail;go_meet;exact⟨0,Q,by unfold W8;omega,Q⟩
   go_wp2_with fail;go_meet;exact⟨1,Q,by unfold W8;omega,Q⟩
  case rest=>
   obtain⟨K,rfl,c9,ee⟩:=hcut;rw[ee];by_cases h2:kind=2
   .subst h2;have y:=J (Z P p C i hi ⟨op,stream,qn,code,data⟩ (Z hs).code (bG (Z hs).data O));go_wp2_with (go_at_call 66;apply(Z y).mono;rintro e w7⟨rfl,A⟩;replace A:=J A);go_ret;exact⟨Q,Z A⟩
   have t2:(kind==2)=θ:=by simpa using h2
   by_cases h3:kind=3
   .subst h3;obtain⟨ak,ck,ek,ez,eK,-,-⟩:=ns (Z z).kept;have bA:=(Z z).c.1.2.2.2.1;rw[ek]at bA;replace bA:=kc bA;replace ek:=J ek;by_cases da:V.kept.length=0
    .have e1:((V.kept.length:Int)==0)=ρ:=by simp[da]
     have F:=J (Z ai p C);go_wp2;go_ret;exact⟨Q,Z F⟩
    have e1:((V.kept.length:Int)==0)=θ:=by simp[da]
    have db: -9223372036854775808<=b/\b<=9223372036854775807:=(Z hs).b;have bj:=J (λW=>GX b (V.kept.length:Int) W db.1 db.2 O (by have:=hV.len;omega));have a9:=aK C;go_upto_region 25 with fail;go_cut [13] (λv wx=>∃k:Nat,v=I X k/\k<V.kept.length/\G d wx N);case first=>
     go_region_held3 (λu=>G d u N)
      (with_reducible first|exact a9|exact C)
      (first|(go_at_call 15;apply(Z bj _).mono;rintro e w5⟨⟨k,rfl,bM⟩,rfl⟩))
     go_wp2;go_meet;exact⟨k,Q,O,a9⟩
    case rest=>
     obtain⟨k,rfl,bM,gk⟩:=hcut;obtain⟨gv,cv,ev,-,-,b3⟩:=(Z z).ki bM;rw[Z ek]at ev;obtain⟨rfl,-,rfl⟩:ak=E ⟨gv,0,N⟩/\V.kept.length=V.kept.length/\ck=cv:=by simpa using ev
     replace b3:=kc b3;have ei:((strOfNums V.kept[k]).size:Int)<=300:=by have:=hV.each _ (tt bM);rwa[strOfNums_size]
     have y:=J (Z P wc gk i hi ⟨6,0,0,0,strOfNums V.kept[k]⟩ (by unfold aZ;simp) (by show(strOfNums V.kept[k]).size<=_;omega));obtain⟨rM,al⟩:=í (strOfNums V.kept[k]);rw[<-al]at b3 y;have k0:(0:Int)<=k:=O;have eL:(k:Int)<V.kept.length:=O;clear al ei ev bj P ai;unfold gJ at y;go_wp2_with (go_at_call 66;apply(Z y).mono;rintro e w7⟨rfl,A⟩;replace A:=J A);go_ret;exact⟨Q,Z A⟩
   have t3:(kind==3)=θ:=by simpa using h3
   by_cases h6:kind=6
   .subst h6;obtain⟨gx,ej,b4,-,-,dc⟩:=(Z z).xi hi;rw[Z ex]at b4;obtain⟨rfl,-,rfl⟩:ax=E ⟨gx,0,N⟩/\V.aQ=V.aQ/\cx=ej:=by simpa using b4
    let⟨eS,e3,b5,ec,ed,a3⟩:=(Z z).mi hi
    have b6:=(Z z).c.1.2.1;rw[b5]at b6;replace b6:=kc b6;replace dc:=kc dc;replace a3:=kc a3;have S1:=(Z z).each i hi;have de:=J (Pq p _ _ _ _ (S1.cn.ag C) ((Z L1).gb C));have b7:=J (λ(W:D)(g:G d W N)=>FZ W _ _ _ (S1.rt.ag g).mc);have dg:(V.side i).st.aI=(V.side i).m.closed:=by
     have:=S1.rel;cases dk:(V.side i).st with
     |bh x=>rw[dk]at this;exact(dU.c this).cl.symm
     |shut aI l=>rw[dk]at this;exact(uB.cl this).symm
    rw[<-dg]at b7;obtain⟨aI,dm⟩:=í ((V.side i).st.aI);rw[<-dm]at de b7;replace b5:=J b5;clear dg dm S1 b4 P;go_wp2_with (first
     |(go_at_call 30;apply(Z de).mono;rintro e w6⟨rfl,g6⟩;have dn:=aq C g6;clear g6)
     |(go_at_call 69;apply(Z b7 _ dn).mono;rintro e w7⟨rfl,rfl⟩))
    go_ret;exact⟨Q,Z ai _ dn⟩
   have t6:(kind==6)=θ:=by simpa using h6
   have b8:=(Z z).key;have br:(prog.info? 24).map (·.size)=E (bv V.key).length:=by rw[gy,b8.1];exact mh
   have du:=underlying24;have a1:p.rangeAt wb 0 (bv V.key)/\G d p N:=⟨λj v hj=>C.cell ((Z z).rH j v hj) Γ,C⟩
   have ca:aZ (U.wrap b):=by unfold aZ;simp[IntKind.wrap,IntKind.bits,IntKind.signed];omega
   obtain⟨M,cf⟩:=í (U.wrap b);rw[<-cf]at ca;have e4:=cf.symm;clear cf;have ao:=J (λ(W:D)(g:G d W N)(r:Option Addr)(t:Nat)(L:List Int)(hB:bD W r L.length t L)(hl:L.length<=900000)=>
    And.intro (nG hB) (Z P W g i hi ⟨6,0,0,0,strOfNums L⟩ (by unfold aZ;simp) (by show(strOfNums L).size<=_;rw[strOfNums_size];omega)))
   by_cases h4:kind=4
   .subst h4;have ch:=J (Gu p la ln lc fs ((Z hs).fr.ag (aq g1 C)) (bG (Z hs).ux O));by_cases hE:pZ fs
    .have dv:=bG (zk fs) (Z hs).ux;go_upto_region 29 with(go_at_call 67;apply(Z ch).mono;rintro e w6⟨h6,g6⟩;obtain⟨-,a6,n6,c6,rfl,o6⟩:pZ fs/\∃r n' t,e=ξ (τ #[Y r n' t,I X 0])/\aS w6 p.heap.size (Y r n' t) (bE fs):=h6.elim id (λh=>absurd hE h.1);clear h6)
     have S:=dT a1 g6;have T:=dT S (aK (au w6 N));have dx:=o6.eV.ag (aK (au w6 N));have a0:=J (D5 V.key K M a6 n6 c6 (bE fs) w6.drew b8 c9 ca dx O);obtain⟨B,a4⟩:=í (bE fs);rw[<-a4]at a0 dv;obtain⟨key,a2⟩:=í V.key;rw[<-a2]at a1 S T br a0;replace a2:=J a2;clear ch a4 dx o6 ai P;go_upto_region 31 with fail;go_cut [16] (λv wx=>∃r t,v=Y r (B.length+16) t/\bD wx r (B.length+16) t (dC key K M B)/\G d wx N);case first=>
      clear ao;go_region_held3 (λu=>u.rangeAt wb 0 (bv key)/\G d u N)
       (with_reducible first|exact bb|exact S|exact T)
       (first|(go_at_call 68;apply(Z a0).mono;rintro e w7⟨r,t,rfl,o7,g7⟩;have bb:=dT T g7;have cp:=J o7.eV;clear o7))
      go_wp2;go_meet;exact⟨r,t,Q,Z cp,bb.2⟩
     case rest=>
      obtain⟨r,t,rfl,bs,g8⟩:=hcut;rw[<-mu key K M B]at bs;let⟨bt,y⟩:=Z ao wc g8 r t _ bs (by rw[mu];omega)
      rw[mu]at bt;obtain⟨rM,al⟩:=í (strOfNums (dC key K M B));rw[<-al]at bt y;clear al bs ao a0 a1 S T br du;unfold gJ at y;replace y:=J y;go_wp2_with (go_at_call 66;apply(Z y).mono;rintro e w7⟨rfl,A⟩;replace A:=J A);go_ret;exact⟨Q,Z A⟩
    clear P ao;go_wp2_with (go_at_call 67;apply(Z ch).mono;rintro e w6⟨h6,g6⟩;obtain⟨-,rfl⟩:¬pZ fs/\e=ξ (τ #[Y N 0 0,I X 5]):=h6.elim (λh=>absurd h.1 hE) id;have F:=J (Z ai w6 (aq C g6));clear h6);go_ret;exact⟨Q,Z F⟩
   have t4:(kind==4)=θ:=by simpa using h4
   by_cases h5:kind=5
   .subst h5;have eo:=(Z hs).text;simp only at eo;obtain⟨cw,bw⟩:∃f:D->D,f=λW=>Lib.bytesWorld W 5 str:=⟨_,Q⟩
    obtain⟨cc,ct⟩:∃f:D->Nat,f=λW=>grownCap W str.size 0 5:=⟨_,Q⟩
    have bt:∀W,(convert 9 112 (ς str)).run prog W=.ok (Y (E ⟨W.heap.size,0,N⟩) str.size (cc W)) (cw W):=λW=>by rw[bw,ct];exact rq str W
    have er:=iE str;have a9:G p p.drew N:=aK (au _ N);have gc:p.drew.grownBy (cw p.drew) N:=by rw[bw];exact r9 p.drew str
    obtain⟨B,a4⟩:=í (bl str);have a0:Hid (Calls prog 68 #[ε (bY V.key),I X K,I U M,Y (E ⟨p.heap.size,0,N⟩) str.size (cc p.drew)] (cw p.drew) (λe u=>∃r t,e=ξ (Y r (B.length+16) t)/\aS u (cw p.drew).heap.size (Y r (B.length+16) t) (dC V.key K M B)/\(cw p.drew).grownBy u N)):=J (by
     rw[bw,ct,a4];exact D5 V.key K M (E ⟨p.heap.size,0,N⟩) str.size (grownCap p.drew str.size 0 5) (bl str) (Lib.bytesWorld p.drew 5 str) b8 c9 ca (tB p.drew str) O)
    have dv:B.length<=20000:=by rw[a4];omega
    have S:=dT a1 a9;have T:=dT S gc;obtain⟨key,a2⟩:=í V.key;rw[<-a2]at a1 S T br a0;replace a2:=J a2;clear bw ct a4 ai P er;go_upto_region 34 with fail;go_cut [17] (λv wx=>∃r t,v=Y r (B.length+16) t/\bD wx r (B.length+16) t (dC key K M B)/\G d wx N);case first=>
     clear ao;go_region_held (λu=>u.rangeAt wb 0 (bv key)/\G d u N)
      (with_reducible first|exact bb|exact a1|exact S|exact T)
      (first|(go_at_call 68;apply(Z a0).mono;rintro e w7⟨r,t,rfl,o7,g7⟩;have bb:=dT T g7;have cp:=J o7.eV;clear o7))
     go_wp2;go_meet;exact⟨r,t,Q,Z cp,bb.2⟩
    case rest=>
     obtain⟨r,t,rfl,bs,g8⟩:=hcut;rw[<-mu key K M B]at bs;let⟨ea,y⟩:=Z ao wc g8 r t _ bs (by rw[mu];omega)
     rw[mu]at ea;obtain⟨rM,al⟩:=í (strOfNums (dC key K M B));rw[<-al]at ea y;clear al bs ao a0 a1 S T br du bt gc a9;unfold gJ at y;replace y:=J y;go_wp2_with (go_at_call 66;apply(Z y).mono;rintro e w7⟨rfl,A⟩;replace A:=J A);go_ret;exact⟨Q,Z A⟩
   have t5:(kind==5)=θ:=by simpa using h5
   have F:=J (Z ai p C);clear P ao;go_wp2;go_ret;exact⟨Q,Z F⟩
def TI(w:D)(a:Nat)(V:Lw)(n:Nat)(H:dM w a V n)(b:oS V n)(c:Laid w)(d:n<=40000)(s:iA)(hs:rP w s):
 Calls prog 33 #[π (E ⟨a,0,N⟩),ε (jB s)] w λe g=>e=ξ (β ρ)/\mM w a V n g:=by
 by_cases f:s.kind=1;exact Tz w a V n H b c d s hs f;exact TB w a V n H b c d s hs f
structure nZ(w wr:D)(a n:Nat):Prop where
 at_:∃V,dM wr a V n/\oS V n/\∀k,V.Ft a k->w.heap.size<=k
 laid:Laid wr
 g:G w wr N
def nZ.gb{w wr:D}(h:nZ w wr i n)(g:G wr W N):nZ w W i n:=by
 let⟨V,a,b,c⟩:=h.at_
 exact⟨⟨V,a.other (aj.of g) (λk _ e=>by cases e),b,c⟩,h.laid.gb g,aq h.g g⟩
def nZ.up{wr:D}(h:nZ w wr k n):nZ w wr k (n+1):=by
 let⟨V,a,b,c⟩:=h.at_
 exact⟨⟨V,a.up,b.up,c⟩,h.laid,h.g⟩
def nZ.step{wr:D}(h:nZ w wr i n)(c:n<=40000)(s:iA)(hs:rP wr s):
 Calls prog 33 #[π (E ⟨i,0,N⟩),ε (jB s)] wr λe a=>e=ξ (β ρ)/\nZ w a i (n+1):=by
 let⟨V,d,f,j⟩:=h.at_
 apply(TI wr i V n d f h.laid c s hs).mono;rintro e a⟨l,m,p,q,k3,k4,k5⟩;have z:=h.g.size;refine⟨l,⟨m,p,q,λk b=>?_⟩,k3,⟨k4.os.trans h.g.os,k4.tape.trans h.g.tape,k4.output.trans h.g.output,bG z k4.size,λk b _=>?_⟩⟩
 grind;rw[k4.block k O (λe=>by have:=j k e;omega)];exact h.g.block k b Γ
noncomputable def Hi(key:List Int)(f:Bool):Lw:=⟨key,0,λ_=>⟨0,0,.shut 0 [],λ_=>False,0,⟨0,0,0,0,0,0,id,id,id,β f,β f,λ_=>β f,λ_=>β f,λ_=>β f,β f,β f,[]⟩,ah.new 0 0 [] f,λ_=>False,f⟩,[],f,Y N 0 0,Y N 0 0,Y N 0 0,Y N 0 0⟩
def nZ.start{wr:D}(a:cI L)(c:wr.heap[n]?=E (ο (bv L++[Y N 0 0,Y N 0 0,Y N 0 0,Y N 0 0,β B]).toArray 90 (0,0)))(f:w.heap.size<=n)(b:Laid w)(g:G w wr N):nZ w wr n 0:=by
 have h0:=b.lt;have d:∀k,(Hi L B).Own n k->k=n:=λk a=>by
  obtain e|e|e|e|e:=a
  exact e;all_goals cases e
 refine⟨⟨Hi L B,⟨c,a,lI _ _ _ _,lI _ _ _ _,lI _ _ _ _,fq.nil _ _,λi hi=>(by exact absurd hi (wV i)),λi _ hi=>(by exact absurd hi (wV i)),λk a=>⟨by have:=d k a;omega,λi hi=>(by exact absurd hi (wV i))⟩⟩,⟨aP _,aP _,λp hp=>by cases hp⟩,λk a=>?_⟩,b.gb g,g⟩
 obtain a|⟨i,hi,-⟩:=a
 grind;exact absurd hi (wV i)
def Hk(w:D)(F:Laid w)(a:Option Addr)(n L:Nat)(c:List iA)(H:rQ w a n L c)(key:List Int)(x:cI key)(first:Bool):
 Calls prog 11 #[Y a n L,ε (bY key),β first] w λe k=>e=ξ (β ρ)/\G w k N:=by
 obtain⟨M,h2,h3,-,-⟩:=id H;unfold maxLen at h3;refine fL λR hR=>?_
 have S:=J (λ(k:D)(g:G w k N)=>(show R (ξ (β ρ)) k by rw[hR];exact⟨Q,g⟩));obtain⟨y,m⟩:=í (w.alloc (ο (bY key) 24));have g1:G w y N:=by rw[m];exact aC _ _ _
 have z1:y.heap.size=w.heap.size+1:=by rw[m];exact dJ _ _
 have b1:y.heap[w.heap.size]?=E (ο (bY key) 24 (0,0)):=by rw[m];exact aM _ _
 have T:=ly x;have a0:=J (TH y a n L c (H.ag g1));have z:=J (λ(W:D)(s:iA)(hs:rP W s)=>TC W s hs key x);obtain⟨K,p⟩:=í (bY key);rw[<-p]at m b1 T z⊢;replace⟨p,H,M,F,z1,b1⟩:=mY p H M F z1 b1;go_enter func11,ntmps11;go_upto_region 1 with fail;rw[<-m];clear m;go_upto_region 2 with(go_at_call 31;apply(Z a0).mono;rintro e h⟨g2,bs,rfl,a1⟩)
 have A:=aq g1 g2;cases bs
 .have V:=J (Z S h A);go_wp2_with fail;exact Z V
 let⟨cc,bt⟩:=a1 Q
 have a2:=J (bp (Z b1) g2);go_upto_region 4 with fail;go_cut [8] (λv wx=>v=π (E ⟨h.heap.size,0,N⟩)/\wx=h.alloc (ο (K.toList++[Y N 0 0,Y N 0 0,Y N 0 0,Y N 0 0,β first]).toArray 90));case first=>
  let⟨k0,k1,k2,k3,k4,k5,k6,k7,k8,k9,bw,bx,bz,bA,bM,b4,a3⟩:=rJ K.toList (by simpa using T)
  obtain rfl:K= #[k0,k1,k2,k3,k4,k5,k6,k7,k8,k9,bw,bx,bz,bA,bM,b4]:=by rw[<-Array.toArray_toList (xs:=K),a3]
  clear a3;go_wp2_with (refine lK _ Ξ Ξ _ Ξ _ ?_ T ?_;exact Z a2);go_meet;exact⟨Q,Q⟩
 case rest=>
  obtain⟨rfl,B⟩:=hcut;obtain⟨W3,a4⟩:=í wc;rw[<-a4]at B⊢;have b5:G h W3 N:=by rw[B];exact aC _ _ _
  have b3:W3.heap[h.heap.size]?=E (ο (bv key++[Y N 0 0,Y N 0 0,Y N 0 0,Y N 0 0,β first]).toArray 90 (0,0)):=by
   rw[B,aM,Z p];rfl
  have P0:=J (nZ.start x b3 (aP _) ((Z F).gb A) b5);have ai:=Z a2;clear B a4 b3;obtain⟨wb,a8⟩:=í h.heap.size;rw[<-a8]at P0⊢;clear a8;rw[Z p]at ai;have ak:h.rangeAt w.heap.size 0 (bv key):=λj v hj=>by rw[eM,ba ai];unfold bY;rw[tf];exact hj
  have b6:(prog.info? 24).map (·.size)=E (bv key).length:=by rw[gy,x.1];exact mh
  have b7:=underlying24;rw[Z p]at z;clear ai;clear a0 a1;go_wp2;go_loopw [9] (λiv wr=>∃(i:Nat),i<=n/\iv=I X i/\nZ h wr wb i) (λiv _=>n-(intOf iv).toNat);case atStart=>exact⟨0,mP _,Q,Z P0⟩
  case round=>
   clear P0;obtain⟨i,hi,rfl,P⟩:=hrel;have g3:=P.g;by_cases cf:i<n
   .have w1:X.wrap ((i:Int)+1)=(i:Int)+1:=ä;have d1:decide ((i:Int)<n)=ρ:=α;have j0:(0:Int)<=i:=O;have j1:(i:Int)<n:=O;have t:i<c.length:=by have:=Z M;omega
    have b8:i<=40000:=O;obtain⟨-,-,-,a9,h5⟩:=((Z H).ag A).ag g3;obtain e|⟨b,o,rfl,h6⟩:=h5
    rw[e]at t;exact absurd t (wV _);have f:=TF (a9 _ (Hg t)) (bt i t);have d:=h6 i t;clear h6 a9;have c0:=kc (show κ wr ⟨b,o+i*10,N⟩=E (I X (gO c i).kind)from d 0 _ Q);have c1:=kc (show κ wr ⟨b,o+i*10+1,N⟩=E (I X (gO c i).a)from d 1 _ Q);have c2:=kc (show κ wr ⟨b,o+i*10+2,N⟩=E (I X (gO c i).b)from d 2 _ Q);have c3:=kc (show κ wr ⟨b,o+i*10+3,N⟩=E (I X (gO c i).q.op)from d 3 _ Q);have c4:=kc (show κ wr ⟨b,o+i*10+4,N⟩=E (I X (gO c i).q.stream)from d 4 _ Q);have c5:=kc (show κ wr ⟨b,o+i*10+5,N⟩=E (I X (gO c i).q.n)from d 5 _ Q);have c6:=kc (show κ wr ⟨b,o+i*10+6,N⟩=E (I U (gO c i).q.code)from d 6 _ Q);have c7:=kc (show κ wr ⟨b,o+i*10+7,N⟩=E (ς (gO c i).q.data)from d 7 _ Q);have c8:=kc (show κ wr ⟨b,o+i*10+8,N⟩=E (Y (gO c i).la (gO c i).ln (gO c i).lc)from d 8 _ Q);have c9:=kc (show κ wr ⟨b,o+i*10+9,N⟩=E (ς (gO c i).s)from d 9 _ Q);clear d;have al:wr.rangeAt w.heap.size 0 (bv key)/\G wr wr N:=⟨λj v hj=>ì g3 (ak j v hj),au _ _⟩
    have C:=dT al (aK (au wr N));have ao:∀W,G wr W N->rP W (gO c i):=λW g=>⟨f.a,f.b,f.n,f.code,f.fr.ag g,f.ux,f.data,f.text⟩
    have u:=J (Z z wr.drew _ (ao _ C.2));have r:=J (λ(W:D)(g:G wr W N)=>(P.gb g).step b8 _ (ao W g));have ax:=J (λ(W:D)(g:G wr W N)=>(P.gb g).up);obtain⟨s,bb⟩:=í (gO c i);rw[<-bb]at c0 c1 c2 c3 c4 c5 c6 c7 c8 c9 u r;obtain⟨kind,sa,ch,⟨op,stream,qn,code,data⟩,la,ln,lc,fs,str⟩:=s;unfold jB at u r;simp only at c0 c1 c2 c3 c4 c5 c6 c7 c8 c9 u r;obtain⟨Wr,rfl⟩:=í wr;replace⟨P,ak⟩:=aT P ak;clear f ao bb z S;go_upto_region 8 with fail;go_cut [10] (λv wx=>∃e:Bool,v=β e/\G Wr wx N);case first=>
     clear r ax;go_region_held3 (λk=>k.rangeAt w.heap.size 0 (bv key)/\G Wr k N)
      (with_reducible first|exact bj|exact al|exact C)
      (first|(go_at_call 32;apply(Z u).mono;rintro e w6⟨⟨eb,rfl⟩,g6⟩;have bj:=dT C g6))
     go_wp2;go_meet;exact⟨eb,Q,bj.2⟩
    case rest=>
     obtain⟨eb,rfl,g7⟩:=hcut;clear u al C b6 b7;have br:=J (Z r wc g7);have ca:=J (Z ax wc g7);clear r ax;cases first
     .go_wp2_with (go_at_call 33;apply(Z br).mono;rintro e w8⟨rfl,l⟩;replace l:=J l);exact⟨⟨i+1,O,Γ,Z l⟩,by simp[intOf];omega⟩
     cases eb
     .go_wp2_with fail;exact⟨⟨i+1,O,Γ,Z ca⟩,by simp[intOf];omega⟩
     go_wp2_with (go_at_call 33;apply(Z br).mono;rintro e w8⟨rfl,l⟩;replace l:=J l);exact⟨⟨i+1,O,Γ,Z l⟩,by simp[intOf];omega⟩
   have d1:decide ((i:Int)<n)=θ:=é;have V:=J (Z S wr (aq A g3));replace P:=J P;go_wp2_with fail;exact Z V
def TJ(w:D)(g:Laid w)(a:Option Addr)(n b:Nat)(d:List iA)(H:rQ w a n b d)(key:List Int)(f:cI key):
 Calls prog 3 #[Y a n b,ε (bY key)] w λe h=>e=ξ (β ρ)/\G w h N:=by
 have i:=ly f;have c:G w (w.alloc (ο (bY key) 24)) N:=aC _ _ _;have j:=J (Hk (w.alloc (ο (bY key) 24)) (g.gb c) a n b d (H.ag c) key f ρ);have b1:=J (aM w (ο (bY key) 24));generalize bY key=K at *;go_enter func3,ntmps3;go_wp2_with (first
  |(refine lK _ Ξ Ξ _ Ξ K ?_ i ?_;exact Z b1)
  |(go_at_call 11;apply(Z j).mono;rintro e l⟨rfl,k⟩))
 go_ret;exact⟨Q,aq c k⟩
def sided_any(w:D)(g:Laid w)(a:Option Addr)(n b:Nat)(d:List iA)(H:rQ w a n b d)(key:List Int)(f:cI key):
 Calls prog 4 #[Y a n b,ε (bY key)] w λe h=>e=ξ (β ρ)/\G w h N:=by
 have i:=ly f;have c:G w (w.alloc (ο (bY key) 24)) N:=aC _ _ _;have j:=J (Hk (w.alloc (ο (bY key) 24)) (g.gb c) a n b d (H.ag c) key f θ);have b1:=J (aM w (ο (bY key) 24));generalize bY key=K at *;go_enter func4,ntmps4;go_wp2_with (first
  |(refine lK _ Ξ Ξ _ Ξ K ?_ i ?_;exact Z b1)
  |(go_at_call 11;apply(Z j).mono;rintro e l⟨rfl,k⟩))
 go_ret;exact⟨Q,aq c k⟩
