import Derived.Test.YtjnmokmchdfchaaGreatDoorXg
import Derived.Test.YtjnmokmchdfchaaGreatDoorXh
set_option maxRecDepth 1000000
set_option maxHeartbeats 0
set_option linter.all false
namespace Go.Proofs.YtjnmokmchdfchaaGreatDoor
open Go.RowKit Tryz
attribute[local go_sem↓]Go.wp_at_zero Go.wp_at_succ
section
variable{B:Bool}{p q r t:Int}{L:List Int}{b i j k l m n o:Nat}{S:Nat->Prop}{U:Nat->ai}{X:Nw}{a:Option Addr}{s:Sd}{T:TypeId}{x y z:Value}{W v w:World}{I:aJ}{Y:ai}
structure bG(V:Nw)(m:Nat->ai)(n:Nat):Prop where
 aT:∀i,i<2->∃s,V.st i=.aE s/\dK s (m i) n/\bY s n
 dir:∀i j,i<2->j<2->i≠j->cI (m i) (m j)
 en:∀i j,i<2->j<2->i≠j->∀k,k<4->lN ((m i).outs k) ((m j).ins k) (V.e i k)
 aI:∀x∈V.aI,∃i j:Nat,i<2/\j<2/\i≠j/\x.1=(j:Int)/\∃y∈(m i).ay,pf (m i) (aG x.2) y
 lb:V.aI.length<=100*n
 cfg:∀i,i<2->V.bf i=(m i).next/\(m i).aj=V.aj/\(m i).ag=V.ag/\(m i).key=V.key/\(m i).me=(i:Int)
 ml:64<=V.aj/\V.aj<=300/\16<=V.ag/\V.ag<=1024
def bG.fB(K:bG X U n)(hi:i<2):oC (U i) n:=by
 obtain⟨s,-,a,b⟩:=K.aT i hi;exact a.fB b
def bG.ok(K:bG X U n){i:Nat}(hi:i<2):dU n (X.st i):=by
 obtain⟨s,e,-,a⟩:=K.aT i hi;rw[e];exact a
structure QK(a b:ai):Prop where
 sub:∀x∈a.ay,x∈b.ay
 key:b.key=a.key
 me:b.me=a.me
 aj:b.aj=a.aj
 ag:b.ag=a.ag
def bG.jE{V':Nw}(K:bG X U n)(hi:i<2)(w:j<2)(r:i≠j)(t:n<=l)(z:V'.st=ah X.st i I)(A:∃s,I=.aE s/\dK s Y l/\bY s l)(d1:cI Y (U j))(d2:cI (U j) Y)(d:QK (U i) Y)
 (e1:∀k,k<4->lN (Y.outs k) ((U j).ins k) (V'.e i k)) (e2:∀k,k<4->lN ((U j).outs k) (Y.ins k) (V'.e j k)) (g:∀x∈V'.aI,x∈X.aI\/(x.1=(j:Int)/\∃y∈Y.ay,pf Y (aG x.2) y)) (B:V'.aI.length<=100*l) (C:V'.bf i=Y.next) (D:V'.bf j=X.bf j) (hl:V'.aj=X.aj/\V'.ag=X.ag/\V'.key=X.key):bG V' (ah U i Y) l:=by
 have u:∀a b:Nat,a<2->b<2->a≠b->(a=i/\b=j)\/(a=j/\b=i):=λa b _ _ _=>by omega
 have p:j≠i:=λe=>r e.symm
 refine⟨λa c=>?_,λa b c g h=>?_,λa b c g h=>?_,λx E=>?_,B,λa c=>?_,?_⟩
 rw[z];by_cases e:a=i;subst e;rw[bk,bk];exact A;rw[bm _ _ e,bm _ _ e];obtain⟨s,m,f,F⟩:=K.aT a c;exact⟨s,m,f.mono t,F.mono t⟩
 obtain⟨rfl,rfl⟩|⟨rfl,rfl⟩:=u a b c g h
 rw[bk,bm _ _ p];exact d1;rw[bk,bm _ _ p];exact d2;obtain⟨rfl,rfl⟩|⟨rfl,rfl⟩:=u a b c g h
 rw[bk,bm _ _ p];exact e1;rw[bk,bm _ _ p];exact e2;obtain q|⟨m,f⟩:=g x E
 obtain⟨a,b,c,G,h,m,y,v,f⟩:=K.aI x q;refine⟨a,b,c,G,h,m,?_⟩
 by_cases e:a=i;subst e;rw[bk];refine⟨y,d.sub y v,?_⟩
 unfold pf at f⊢;rw[d.key,d.me];exact f;rw[bm _ _ e];exact⟨y,v,f⟩
 exact⟨i,j,hi,w,r,m,by rw[bk];exact f⟩
 rw[hl.1,hl.2.1,hl.2.2];by_cases e:a=i;subst e;rw[bk,C,d.aj,d.ag,d.key,d.me];exact⟨rfl,(K.cfg a c).2⟩
 have:a=j:=by omega
 subst this;rw[bm _ _ e,D];exact K.cfg a c;rw[hl.1,hl.2.1];exact K.ml
def bG.ask(K:bG X U n)(hi:i<2)(g:n<=40000)(q:fK)(c:aS q.code)(h:q.op≠5)(j:((U i).ask q).2.closed=0):∃b,(X.st i).do q=(((U i).ask q).1,.aE b)/\dK b ((U i).ask q).2 (n+1)/\bY b (n+1):=by
 obtain⟨s,e,k,u⟩:=K.aT i hi;have m:Rel (X.st i) (U i) n:=by rw[e];exact k
 obtain⟨d,a⟩:=Qd m (K.ok hi) g q c h;have f:=Ex (K.ok hi) (by omega) q c;obtain⟨⟨r,p⟩,t⟩:∃x,x=(X.st i).do q:=⟨_,rfl⟩
 rw[<-t]at d a f⊢;cases p with
 |aE b=>exact⟨b,by rw[d],a,f⟩
 |shut aA l=>
  have a:xz aA l ((U i).ask q).2:=a;exact absurd (a.cl.symm.trans j) a.w0
def bG.af{V:Nw}{m:Nat->ai}(h:dK s Y n)(b:k<4):(aJ.aE s).af (k:Int)=((Y.outs k).af.eM,0):=by
 rw[<-EP h];have a:Y.of (k:Int)=0:=by unfold ai.of;rw[az (by rw[h.c.cl];decide),iN_]
 unfold ai.af;rw[a,az (by decide),show((k:Int)).toNat=k by omega]
def bG.Fe(K:bG X U n)(hi:i<2)(b:j<2)(c:i≠j)(a:k<4)(g:((U i).outs k).af.eM<=p)(e:p<=((U i).outs k).data.size)(f:((U i).outs k).given=false->p<=((U j).ins k).read+(U i).ag):qT X i k p:=by
 have E:=K.en i j hi b c k a;have h:=((K.fB b).gO k a).rd;have l:=((K.dir i j hi b c).aL k a).hi;have hs:=((K.fB hi).out k a).hs;have m:=((K.fB hi).out k a).sz;refine⟨by have:=E.af;omega,by rw[E.wrote];exact e,λd _=>?_,by rw[E.read];omega⟩
 rw[E.gv]at d;rw[E.read,<-(K.cfg i hi).2.2.1];exact f d
structure cY where
 kind:Int
 side:Int
 a:Int
 b:Int
 s:ByteArray
structure cY.ok(s:cY):Prop where
 kind:dq s.kind
 side:dq s.side
 a:dq s.a
 b:dq s.b
 len:s.s.size<=100000
def di(s:cY):Array Value:= #[.int .i64 s.kind,.int .i64 s.side,.int .i64 s.a,.int .i64 s.b,.string s.s]
def eA(w:World)(nb:Nat)(V:Nw)(n:Nat)(e:Ending)(c:World):Prop:=e=.returned (.bool true)/\∃a d b,b<=n+2/\bL w nb V a c/\bG a d b
def bL.loc{a:Nw}(T:bL w n X a W)(d:b<w.heap.size)(c:¬X.dw n b):W.heap[b]?=w.heap[b]? /\¬a.dw n b:=⟨T.av.block b d c,λe=>(T.all b e).elim c (λq=>by omega)⟩
structure iF(w:World)(nb:Nat)(V:Nw)(s:cY)(a:World):Prop where
 e:a=w.alloc (.cells (di s) 137)
 g:w.grownBy a none
 z:a.heap.size=w.heap.size+1
 b:a.heap[w.heap.size]?=some (.cells (di s) 137 (0,0))
 T:bL a nb V V a
 nB:¬V.dw nb w.heap.size
def iF.mk'(H:bP w n X)(a:Laid w)(s:cY):∃b,iF w n X s b:=by
 have g:=aH w (.cells (di s) 137) none;exact⟨_,rfl,g,dL _ _,aO _ _,bL.refl (H.an g) (aB _ none) (a.gb g),λe=>by have:=H.qe _ e;omega⟩
def iF.cells{c:Nw}{s:cY}(S:iF w n X s v)(T:bL v n X c W):W.cell? ⟨w.heap.size,0,none⟩=some (.int .i64 s.kind)/\W.cell? ⟨w.heap.size,1,none⟩=some (.int .i64 s.side)/\W.cell? ⟨w.heap.size,2,none⟩=some (.int .i64 s.a)/\W.cell? ⟨w.heap.size,3,none⟩=some (.int .i64 s.b)/\W.cell? ⟨w.heap.size,4,none⟩=some (.string s.s):=by
 have d:=(T.loc (by rw[S.z];omega) S.nB).1.trans S.b;simp[World.cell?,d,di]
def iF.fin{a:Nw}{s:cY}(S:iF w k X s v)(H:bP w k X)(b:Laid w)(T:bL v k X a W){n:Nat}(c:i<=n+2)(K:bG a U i):eA w k X n (.returned (.bool true)) W:=⟨rfl,a,U,i,c,bL.pre H b S.g T,K⟩
def nH(w:World)(nb:Nat)(V:Nw)(Q:Nw->Prop)(e:Ending)(b:World):Prop:=e=.returned (.bool true)/\∃a,bL w nb V a b/\Q a
def iF.Ac{a:Nw}{s:cY}(S:iF w n X s v)(H:bP w n X)(b:Laid w)(T:bL v n X a W){Q:Nw->Prop}(c:Q a):nH w n X Q (.returned (.bool true)) W:=⟨rfl,a,bL.pre H b S.g T,c⟩
def nH.post{e:Ending}(h:nH w k X (λb=>∃c a,a<=n+2/\bG b c a) e W):eA w k X n e W:=by
 obtain⟨rfl,b,T,c,a,d,f⟩:=h;exact⟨rfl,b,c,a,d,T,f⟩
def td(m:ai)(k:Nat)(d:ByteArray):m.ask ⟨1,(k:Int),0,0,d⟩=(⟨(m.write k d).2.1,-1,(m.write k d).1,0,[],[]⟩,(m.write k d).2.2):=rfl
def bG.QL(K:bG X U n)(hi:i<2)(a:j<2)(b:i≠j)(r:n<=40000)(l:k<4)(d:ByteArray)(m:((X.e i k).finished||(X.e i k).given)=true):
 ∃c,(X.st i).do ⟨1,(k:Int),0,0,d⟩=(⟨3,-1,0,0,[],[]⟩,.aE c)/\∀f,bG {X with st:=ah X.st i (.aE c),A:=f} U (n+1):=by
 have E:=K.en i j hi a b k l;obtain⟨d1,d2,d3,d4,⟨-,s,t,g⟩|⟨u,-⟩⟩:=E1 (K.fB hi) (K.dir i j hi a b) (K.dir j i a hi (λe=>b e.symm)) l d;obtain⟨c,p,q,v⟩:=K.ask hi r ⟨1,(k:Int),0,0,d⟩ (by simp[aS]) (by simp) (by rw[td,g];exact(K.fB hi).cl);rw[td,s,t,g]at p;rw[td,g]at q;refine⟨c,p,λf=>?_⟩
 have:=K.jE (V':={X with st:=ah X.st i (.aE c),A:=f}) hi a b (bZ n) rfl ⟨c,rfl,q,v⟩ (K.dir i j hi a b) (K.dir j i a hi (λe=>b e.symm)) ⟨λx h=>h,rfl,rfl,rfl,rfl⟩ (K.en i j hi a b) (K.en j i a hi (λe=>b e.symm)) (λx h=>.inl h) (by have:=K.lb;show X.aI.length<=100*(n+1);omega) (K.cfg i hi).1 rfl ⟨rfl,rfl,rfl⟩;rw[my]at this;exact this;rw[E.fin,E.gv,u]at m;cases m
def bG.QM(K:bG X U n)(hi:i<2)(b:j<2)(c:i≠j)(F:n<=40000)(h:k<4)(d:ByteArray)(u:((X.e i k).finished||(X.e i k).given)=false):
 ∃(f:Sd)(N:Int)(p:Nat->Int),(X.st i).do ⟨1,(k:Int),0,0,d⟩=(⟨0,-1,N,0,[],[]⟩,.aE f)/\dU (n+1) (.aE f)/\(∀l:Nat,l<4->(aJ.aE f).af (l:Int)=(p l,0))/\(∀l,l<4->qT X i l (p l))/\0<=N/\N<=d.size/\(X.e i k).wrote.size+N-p k<=X.ag/\0<=p k/\(X.e i k).wrote.size<=4096/\
  ∀v,bG {X with st:=ah X.st i (.aE f),A:=v,e:=eD (iE X.e i p 4) i k {X.e i k with af:=p k,wrote:=(X.e i k).wrote++d.extract 0 N.toNat}} (ah U i {U i with outs:=ah (U i).outs k {(U i).outs k with data:=((U i).outs k).data++d.extract 0 N.toNat}}) (n+1):=by
 have E:=K.en i j hi b c k h;have m:j≠i:=λe=>c e.symm
 obtain⟨d1,d2,d3,d4,⟨w,-⟩|⟨w,G,y,z,B,C⟩⟩:=E1 (K.fB hi) (K.dir i j hi b c) (K.dir j i b hi m) h d;rw[E.fin,E.gv,w]at u;cases u;obtain⟨f,r,g,D⟩:=K.ask hi F ⟨1,(k:Int),0,0,d⟩ (by simp[aS]) (by simp) (by rw[td,C];exact(K.fB hi).cl);rw[td,G]at r;rw[td]at g;obtain⟨N,H⟩:=exq (((U i).write k d).1);rw[C]at g d1 d2;rw[<-H]at y z B r g d1 d2;simp only at r g;have I:∀l,(ah (U i).outs k {(U i).outs k with data:=((U i).outs k).data++d.extract 0 N.toNat} l).af=((U i).outs l).af:=λl=>by
  by_cases e:l=k;subst e;rw[bk];rw[bm _ _ e]
 have hp:∀l,l<4->qT X i l ((U i).outs l).af.eM:=λl hl=>K.Fe hi b c hl (cS _) ((K.fB hi).fr l hl).1 (λL=>E3 (K.fB hi) (K.fB b) (K.dir i j hi b c) hl L)
 have s:∀l,l<4->0<=((U i).outs l).af.eM:=λl hl=>(sY ((K.fB hi).ck l hl)).1
 refine⟨f,N,λl=>((U i).outs l).af.eM,r,D,λl hl=>?_,hp,y,z,by rw[E.wrote,<-(K.cfg i hi).2.2.1];exact B,s k h,by rw[E.wrote];exact((K.fB hi).out k h).sz,λv=>?_⟩
 rw[bG.af (V:=X) (m:=U) g hl];show((ah (U i).outs k {(U i).outs k with data:=((U i).outs k).data++d.extract 0 N.toNat} l).af.eM,(0:Int))=_;rw[I];refine K.jE hi b c (bZ n) rfl ⟨f,rfl,g,D⟩ d1 d2 ⟨λx t=>t,rfl,rfl,rfl,rfl⟩ (λl hl=>?_) (λl hl=>?_) (λx t=>.inl t) (by have:=K.lb;show X.aI.length<=100*(n+1);omega) (K.cfg i hi).1 rfl ⟨rfl,rfl,rfl⟩;have a:=K.en i j hi b c l hl;show lN (ah (U i).outs k _ l) ((U j).ins l) (eD (iE X.e i _ 4) i k _ i l);unfold eD iE;by_cases e:l=k;subst e;rw[bk,aD ⟨rfl,rfl⟩];exact⟨by simp only;rw[a.wrote],a.fin,a.gv,a.code,a.read,a.state,⟨s l hl,cS _⟩⟩
 rw[bm _ _ e,az (λq=>e q.2),aD ⟨rfl,hl⟩];exact⟨a.wrote,a.fin,a.gv,a.code,a.read,a.state,⟨s l hl,cS _⟩⟩
 show lN ((U j).outs l) ((U i).ins l) (eD (iE X.e i _ 4) i k _ j l);unfold eD iE;rw[az (λq=>m q.1),az (λq=>m q.1)];exact K.en j i b hi m l hl
def bP.nI(h:bP w n X)(hi:i<2)(a:k<4):w.cell? ⟨n,0,none⟩=some (.slice (some ⟨X.xr,0,none⟩) 2 X.xc)/\w.cell? ⟨n,1,none⟩=some (.slice (some ⟨X.er,0,none⟩) 2 X.ec)/\w.cell? ⟨X.xr,i,none⟩=some (.pointer (some ⟨X.xb i,0,none⟩))/\w.cell? ⟨X.er,i,none⟩=some (.slice (some ⟨X.el i,0,none⟩) 4 (X.lc i))/\w.cell? ⟨X.el i,k,none⟩=some (.pointer (some ⟨X.eb i k,0,none⟩)):=
 ⟨h.c.1.1,h.c.1.2.1,h.x i hi,h.er i hi,h.el i hi k a⟩
def QN(w:World)(nb:Nat)(V:Nw)(m:Nat->ai)(n:Nat)(H:bP w nb V)(g:Laid w)(K:bG V m n)(L:n<=40000)(s:cY)(hs:s.ok)(M:s.kind=1)(b:((V.e (bh s.side 2) (bh s.a 4)).finished||(V.e (bh s.side 2) (bh s.a 4)).given)=true):
 Calls prog 50 #[.pointer (some ⟨nb,0,none⟩),.agg (di s)] w (eA w nb V n):=by
 obtain⟨p,S⟩:=iF.mk' H g s;obtain⟨i,D⟩:=exq (bh s.side 2);obtain⟨k,E⟩:=exq (bh s.a 4);have hi:i<2:=by have:=eP s.side (p:=2) (by decide);omega
 have q:k<4:=by have:=eP s.a (p:=4) (by decide);omega
 have r:=J (eZ s.side 2 p hs.side.1 hs.side.2 (by decide) (by decide));have t:=J (eZ s.a 4 p hs.a.1 hs.a.2 (by decide) (by decide));rw[<-D]at r b;rw[<-E]at t b;clear D E;have U:(0:Int)<=i:=by omega
 have X:(i:Int)<2:=by omega
 have Y:(0:Int)<=k:=by omega
 have k1:(k:Int)<4:=by omega
 obtain⟨c0,c1,N,ce,cl⟩:=S.T.at_.nI hi q;obtain⟨d0,d1,d2,d3,d4⟩:=S.cells S.T;obtain⟨O,u,v⟩:=K.QL hi (show 1-i<2 by omega) (show i≠1-i by omega) L q s.s b;have c:=nG S.T hi (K.ok hi) (by omega) ⟨1,(k:Int),0,0,s.s⟩ (by simp[aS]) (by have:=hs.len;show s.s.size<=_;omega) u;have x:=J (λ(W:World)(y:Nat->Prop)(T:bL p nb V {V with st:=ah V.st i (.aE O),A:=ah V.A i y} W)=>S.fin H g T (n:=n) (bZ (n+1)) (v _));unfold cD mj ja at c;simp only[mJ]at c;obtain⟨P,z⟩:=exq (eA w nb V n);rw[<-z]at x⊢;replace⟨z,c⟩:=bA z c;have F:=S.e;replace⟨S,H,g,K,hs,v,u⟩:=iR S H g K hs v u;obtain⟨kind,side,sa,aC,str⟩:=s;simp only at *;subst M;unfold di at *;simp only at *;go_enter func50,ntmps50;go_upto_region 1 with fail;rw[<-F];clear F;go_upto_region 2 with(go_at_call 23;apply(Z r).mono;rintro e Q⟨rfl,rfl⟩)
 go_upto_region 4 with(go_at_call 23;apply(Z t).mono;rintro e Q⟨rfl,rfl⟩)
 go_upto_region 8 with(go_at_call 28;apply(Z c).mono;rintro e d⟨a,m1,G,y,rfl,-,B,-⟩)
 obtain⟨f,h⟩:=exq (d.alloc (.cells #[.int .i64 3,.int .i64 (-1),.int .i64 0,.int .u64 0,.string ⟨#[]⟩,.slice a m1 G] 46));have R:d.grownBy f none:=by rw[h];exact aH _ _ _
 have C:f.heap[d.heap.size]?=some (.cells #[.int .i64 3,.int .i64 (-1),.int .i64 0,.int .u64 0,.string ⟨#[]⟩,.slice a m1 G] 46 (0,0)):=by rw[h];exact aO _ _
 rw[<-h];clear h;have j:=B.gb R;obtain⟨y0,y2⟩:f.cell? ⟨d.heap.size,0,none⟩=some (.int .i64 3)/\f.cell? ⟨d.heap.size,2,none⟩=some (.int .i64 0):=by simp[World.cell?,C]
 obtain⟨⟨-,e1,e2,-,-,-,-⟩,-⟩:=j.at_.ce hi q;simp only at e1 e2;have l:=J (Z x f y j);replace⟨C,B,j⟩:=cg C B j;clear x c r t c0 c1 N ce cl d0 d1 d2 d3 d4;cases I:(V.e i k).finished
 ·rw[I]at e1 b;rw[tB]at b;rw[b]at e2;go_wp2_with fail;first|exact Z l|(go_ret;exact Z l)
 rw[I]at e1;go_wp2_with fail;first|exact Z l|(go_ret;exact Z l)
def QO(hi:i<2)(T:bL w j X {X with st:=ah X.st i I,A:=ah X.A i S} W)(g:dU n I)(h:n<=100000)(l:0<=X.ag/\X.ag<=1000000000){p:Nat->Int}(hp:∀k:Nat,k<4->I.af (k:Int)=(p k,0))(a:∀k,k<4->qT X i k (p k)):
 Calls prog 82 #[.pointer (some ⟨j,0,none⟩),.int .i64 i] W (λe d=>e=.returned (.bool true)/\(∃b,bL w j X (gR {X with st:=ah X.st i I} i p 4 b) d)/\ao W d (Nw.dw {X with st:=ah X.st i I,A:=ah X.A i S} j)):=by
 refine(E7 W j _ T.at_ T.laid i hi n (by simp only[bk];exact g) h l p (by simp only[bk];exact hp) (λk c=>⟨(a k c).lo,(a k c).hi,(a k c).wn,(a k c).rd⟩)).mono ?_;rintro e d⟨rfl,b,f⟩;exact⟨rfl,⟨b,by rw[<-E8 X i I S b p];exact T.trans f⟩,f.av⟩
def Ad(x y:ByteArray)(h:((x.size+y.size:Nat):Int)<=9223372036854775807)(W:World):(Op.stringOp .add x y).run prog W=.ok (.string (x++y)) W:=by
 unfold Op.stringOp;have:¬(((x.size+y.size:Nat):Int)>IntKind.i64.max):=by
  have:IntKind.i64.max=9223372036854775807:=by decide
  omega
 simp only[this,gm]
 rfl
def Ff(w:World)(nb:Nat)(V:Nw)(m:Nat->ai)(n:Nat)(H:bP w nb V)(u:Laid w)(K:bG V m n)(hn:n<=40000)(s:cY)(hs:s.ok)(Q:Nw->Prop)(b7:s.kind=1)(f:((V.e (bh s.side 2) (bh s.a 4)).finished||(V.e (bh s.side 2) (bh s.a 4)).given)=false)(l:∀(b:Sd)(N:Int)(p:Nat->Int)(v:Nat->Nat->Prop),(V.st (bh s.side 2)).do ⟨1,((bh s.a 4):Int),0,0,s.s⟩=(⟨0,-1,N,0,[],[]⟩,.aE b)->bG {V with st:=ah V.st (bh s.side 2) (.aE b),A:=v,e:=eD (iE V.e (bh s.side 2) p 4) (bh s.side 2) (bh s.a 4) {V.e (bh s.side 2) (bh s.a 4)with af:=p (bh s.a 4),wrote:=(V.e (bh s.side 2) (bh s.a 4)).wrote++s.s.extract 0 N.toNat}} (ah m (bh s.side 2) {m (bh s.side 2)with outs:=ah (m (bh s.side 2)).outs (bh s.a 4) {(m (bh s.side 2)).outs (bh s.a 4)with data:=((m (bh s.side 2)).outs (bh s.a 4)).data++s.s.extract 0 N.toNat}}) (n+1)->Q {V with st:=ah V.st (bh s.side 2) (.aE b),A:=v,e:=eD (iE V.e (bh s.side 2) p 4) (bh s.side 2) (bh s.a 4) {V.e (bh s.side 2) (bh s.a 4)with af:=p (bh s.a 4),wrote:=(V.e (bh s.side 2) (bh s.a 4)).wrote++s.s.extract 0 N.toNat}}):
 Calls prog 50 #[.pointer (some ⟨nb,0,none⟩),.agg (di s)] w (nH w nb V Q):=by
 obtain⟨y,S⟩:=iF.mk' H u s;obtain⟨i,a1⟩:=exq (bh s.side 2);obtain⟨k,a2⟩:=exq (bh s.a 4);have hi:i<2:=by have:=eP s.side (p:=2) (by decide);omega
 have d:k<4:=by have:=eP s.a (p:=4) (by decide);omega
 have O:=J (eZ s.side 2 y hs.side.1 hs.side.2 (by decide) (by decide));have R:=J (eZ s.a 4 y hs.a.1 hs.a.2 (by decide) (by decide));rw[<-a1]at O f l;rw[<-a2]at R f l;clear a1 a2;have i0:(0:Int)<=i:=by omega
 have i1:(i:Int)<2:=by omega
 have k0:(0:Int)<=k:=by omega
 have k1:(k:Int)<4:=by omega
 have hj:1-i<2:=by omega
 have ca:i≠1-i:=by omega
 have hw:=K.ml;obtain⟨c0,c1,cx,ce,cl⟩:=S.T.at_.nI hi d;obtain⟨d0,d1,d2,d3,d4⟩:=S.cells S.T;obtain⟨b,N,p,z,U,X,B,dG,cj,a3,cp,cv,Y⟩:=K.QM hi hj ca hn d s.s f;have jk:=hs.len;have a4:=(B k d).hi;have j:=nG S.T hi (K.ok hi) (by omega) ⟨1,(k:Int),0,0,s.s⟩ (by simp[aS]) (by show s.s.size<=_;omega) z;have a8:=J (λ(W:World)(q:Nat->Prop)(T:bL y nb V {V with st:=ah V.st i (.aE b),A:=ah V.A i q} W)=>QO hi T U (by omega) (by omega) X B);have a9:=J (λ(W:World)(v:Nat->Prop)(T:bL y nb V (gR {V with st:=ah V.st i (.aE b)} i p 4 v) W)=>(show(W.cell? ⟨nb,3,none⟩=some (.int .i64 V.ag)/\W.cell? ⟨w.heap.size,4,none⟩=some (.string s.s)/\W.cell? ⟨V.eb i k,0,none⟩=some (.string (V.e i k).wrote)/\W.cell? ⟨V.eb i k,6,none⟩=some (.int .i64 (p k))/\W.frozen? ⟨V.eb i k,0,none⟩=false)/\∀W',(W.setCell ⟨V.eb i k,0,none⟩ (.string ((V.e i k).wrote++s.s.extract 0 N.toNat))).grownBy W' none->nH w nb V Q (.returned (.bool true)) W' by
  have he:iE V.e i p 4 i k={V.e i k with af:=p k}:=by unfold iE;rw[aD ⟨rfl,d⟩]
  obtain⟨⟨D,-,-,-,-,-,E⟩,qf⟩:=T.at_.ce hi d;have hb:=T.at_.en i hi k d;simp only[gR,he]at D E qf hb;have T7:=T.trans (T.at_.uP T.laid hi d (x:={V.e i k with af:=p k,wrote:=(V.e i k).wrote++s.s.extract 0 N.toNat}) (oD W (V.eb i k) 0 (.string ((V.e i k).wrote++s.s.extract 0 N.toNat))) (heap_set hb _));exact⟨⟨T.at_.c.1.2.2.2.1,(S.cells T).2.2.2.2,D,E,qf 0⟩,λW' g=>S.Ac H u (T7.gb g) (l b N p _ z (Y _))⟩))
 have aC:=a9;clear a9;unfold cD mj ja at j;simp only[mJ]at j;have cy:=Ad (V.e i k).wrote (s.s.extract 0 N.toNat) (by rw[rQ];omega);replace j:=J j;obtain⟨P,hP⟩:=exq (nH w nb V Q);rw[<-hP]at aC⊢;replace hP:=J hP;have bj:=S.e;replace⟨S,H,u,K,hs,l,Y,z,U⟩:=pT S H u K hs l Y z U;replace⟨B,X⟩:=bA B X;obtain⟨kind,side,sa,ee,str⟩:=s;simp only at *;subst b7;unfold di at *;simp only at *;go_enter func50,ntmps50;go_upto_region 1 with fail;rw[<-bj];clear bj;go_upto_region 2 with(go_at_call 23;apply(Z O).mono;rintro e w2⟨rfl,rfl⟩)
 go_upto_region 4 with(go_at_call 23;apply(Z R).mono;rintro e w2⟨rfl,rfl⟩)
 go_upto_region 8 with(go_at_call 28;apply(Z j).mono;rintro e h⟨a,m1,m2,q,rfl,-,F,-⟩)
 obtain⟨r,t⟩:=exq (h.alloc (.cells #[.int .i64 0,.int .i64 (-1),.int .i64 N,.int .u64 0,.string ⟨#[]⟩,.slice a m1 m2] 46));have g5:h.grownBy r none:=by rw[t];exact aH _ _ _
 have z5:h.heap.size<r.heap.size:=by rw[t,dL];omega
 have G:r.heap[h.heap.size]?=some (.cells #[.int .i64 0,.int .i64 (-1),.int .i64 N,.int .u64 0,.string ⟨#[]⟩,.slice a m1 m2] 46 (0,0)):=by rw[t];exact aO _ _
 rw[<-t];clear t;have I:=F.gb g5;obtain⟨⟨-,e1,e2,-,-,-,-⟩,-⟩:=I.at_.ce hi d;simp only at e1 e2;have bt:=J (Z a8 r q I);have bx:Hid (∀L,ao r L (Nw.dw {V with st:=ah V.st i (.aE b),A:=ah V.A i q} nb)->L.cell? ⟨h.heap.size,0,none⟩=some (.int .i64 0)/\L.cell? ⟨h.heap.size,2,none⟩=some (.int .i64 N)):=J (λL C=>by
  have bz:¬Nw.dw {V with st:=ah V.st i (.aE b),A:=ah V.A i q} nb h.heap.size:=λe=>by have:=F.at_.qe _ e;omega
  exact⟨C.cell (by simp[World.cell?,G]) bz,C.cell (by simp[World.cell?,G]) bz⟩)
 replace⟨G,F,I⟩:=cg G F I;rw[oH]at f;rw[f.1]at e1;rw[f.2]at e2;clear a8 j O R c0 c1 cx ce cl d0 d1 d2 d3 d4 f;go_upto_region 11 with(go_at_call 82;apply(Z bt).mono;rintro e w6⟨rfl,⟨A6,T6⟩,C6⟩;obtain⟨y0,y2⟩:=Z bx w6 C6;obtain⟨⟨f3,f4,D,E,qf⟩,M⟩:=Z aC w6 A6 T6;clear C6 T6;replace M:=J M)
 clear bt bx aC e1 e2;obtain⟨wr,b4⟩:=exq ((V.e i k).wrote);rw[<-b4]at D M cy a3 cv a4;obtain⟨pk,b5⟩:=exq (p k);rw[<-b5]at E a3 cp a4;clear b4 b5;have r1:decide (N<0)=false:=dF_;have r2:decide ((str.size:Int)<N)=false:=dF_;have r3:IntKind.i64.wrap ((wr.size:Int)+N)=wr.size+N:=by simp[IntKind.wrap,IntKind.bits,IntKind.signed];omega
 have r4:IntKind.i64.wrap ((wr.size:Int)+N-pk)=wr.size+N-pk:=by simp[IntKind.wrap,IntKind.bits,IntKind.signed];omega
 have r5:decide (V.ag<(wr.size:Int)+N-pk)=false:=dF_;go_quiet (fail);go_upto_region 13 with fail;clear r1 r2 r3 r4 r5;have r6:N<=(str.size:Int):=cj;go_region;go_wp2_with fail;exact Z M _ ⟨rfl,rfl,rfl,aR _,λ_ _ _=>rfl⟩
def QP(w:World)(nb:Nat)(V:Nw)(m:Nat->ai)(n:Nat)(H:bP w nb V)(b:Laid w)(K:bG V m n)(c:n<=40000)(s:cY)(hs:s.ok)(d:s.kind=1)(f:((V.e (bh s.side 2) (bh s.a 4)).finished||(V.e (bh s.side 2) (bh s.a 4)).given)=false):
 Calls prog 50 #[.pointer (some ⟨nb,0,none⟩),.agg (di s)] w (eA w nb V n):=
 (Ff w nb V m n H b K c s hs _ d f (λ_ _ _ _ _ h=>⟨_,_,bZ (n+1),h⟩)).mono (λ_ _ h=>h.post)
def bG.A(K:bG X U n)(a:Nat->Nat->Prop):bG {X with A:=a} U n:=⟨K.aT,K.dir,K.en,K.aI,K.lb,K.cfg,K.ml⟩
def bG.same(K:bG X U n)(hi:i<2)(a:j<2)(b:i≠j)(f:dK s (U i) (n+1))(g:bY s (n+1))(d:Nat->Nat->Prop):bG {X with st:=ah X.st i (.aE s),A:=d} U (n+1):=by
 have:=K.jE (V':={X with st:=ah X.st i (.aE s),A:=d}) hi a b (bZ n) rfl ⟨s,rfl,f,g⟩ (K.dir i j hi a b) (K.dir j i a hi (λe=>b e.symm)) ⟨λx c=>c,rfl,rfl,rfl,rfl⟩ (K.en i j hi a b) (K.en j i a hi (λe=>b e.symm)) (λx c=>.inl c) (by have:=K.lb;show X.aI.length<=100*(n+1);omega) (K.cfg i hi).1 rfl ⟨rfl,rfl,rfl⟩;rw[my]at this;exact this
def bG.Fg(K:bG X U n)(hi:i<2)(b:j<2)(c:i≠j)(d:n<=40000):
 ∃a,(X.st i).do ⟨4,0,0,0,⟨#[]⟩⟩=(⟨0,-1,0,0,[],[]⟩,.aE a)/\∀e,bG {X with st:=ah X.st i (.aE a),A:=e} U (n+1):=by
 obtain⟨a,f,g,h⟩:=K.ask hi d ⟨4,0,0,0,⟨#[]⟩⟩ (by simp[aS]) (by simp) (K.fB hi).cl;exact⟨a,f,K.same hi b c g h⟩
def bG.vY(K:bG X U n)(hi:i<2)(b:j<2)(d:i≠j)(w:n<=40000)(y:k<4):
 ∃a,(((X.e i k).finished||(X.e i k).given)=true/\(X.st i).do ⟨2,(k:Int),0,0,⟨#[]⟩⟩=(⟨3,-1,0,0,[],[]⟩,.aE a)/\∀p,bG {X with st:=ah X.st i (.aE a),A:=p} U (n+1))\/
  (((X.e i k).finished||(X.e i k).given)=false/\(X.st i).do ⟨2,(k:Int),0,0,⟨#[]⟩⟩=(⟨0,-1,0,0,[],[]⟩,.aE a)/\∀p,∃z,bG {X with st:=ah X.st i (.aE a),A:=p,e:=eD X.e i k {X.e i k with finished:=true}} z (n+1)/\z=ah U i {U i with outs:=ah (U i).outs k {(U i).outs k with finished:=true}}):=by
 have E:=K.en i j hi b d k y;have r:j≠i:=λe=>d e.symm
 have f:(U i).ask ⟨2,(k:Int),0,0,⟨#[]⟩⟩=(⟨((U i).finish k).1,-1,0,0,[],[]⟩,((U i).finish k).2):=rfl;obtain⟨d1,d2,d3,d4,⟨s,t,h⟩|⟨s,t,h⟩⟩:=Qs (K.fB hi) (K.dir i j hi b d) (K.dir j i b hi r) y;obtain⟨a,m,g,u⟩:=K.ask hi w ⟨2,(k:Int),0,0,⟨#[]⟩⟩ (by simp[aS]) (by simp) (by rw[f,h];exact(K.fB hi).cl);rw[f,t]at m;rw[f,h]at g;exact⟨a,.inl ⟨by rw[E.fin,E.gv];exact s,m,K.same hi b d g u⟩⟩
 obtain⟨a,m,g,u⟩:=K.ask hi w ⟨2,(k:Int),0,0,⟨#[]⟩⟩ (by simp[aS]) (by simp) (by rw[f,h];exact(K.fB hi).cl);rw[f,t]at m;rw[f]at g;rw[h]at g d1 d2;refine⟨a,.inr ⟨by rw[E.fin,E.gv];exact s,m,λp=>⟨_,K.jE hi b d (bZ n) rfl ⟨a,rfl,g,u⟩ d1 d2 ⟨λx v=>v,rfl,rfl,rfl,rfl⟩ (λl hl=>?_) (λl hl=>?_) (λx v=>.inl v) (by have:=K.lb;show X.aI.length<=100*(n+1);omega) (K.cfg i hi).1 rfl ⟨rfl,rfl,rfl⟩,rfl⟩⟩⟩
 have c:=K.en i j hi b d l hl;show lN (ah (U i).outs k _ l) ((U j).ins l) (eD X.e i k _ i l);unfold eD;by_cases e:l=k;subst e;rw[bk,aD ⟨rfl,rfl⟩];exact⟨c.wrote,rfl,c.gv,c.code,c.read,c.state,c.af⟩
 rw[bm _ _ e,az (λq=>e q.2)];exact c;show lN ((U j).outs l) ((U i).ins l) (eD X.e i k _ j l);unfold eD;rw[az (λq=>r q.1)];exact K.en j i b hi r l hl
def bG.Fh(K:bG X U n)(hi:i<2)(b:j<2)(c:i≠j)(y:n<=40000)(z:k<4)(D:0<=p/\p<=1000):
 ∃a,((X.e i k).given=true/\(X.st i).do ⟨3,(k:Int),0,p,⟨#[]⟩⟩=(⟨3,-1,0,0,[],[]⟩,.aE a)/\∀r,bG {X with st:=ah X.st i (.aE a),A:=r} U (n+1))\/
  ((X.e i k).given=false/\(X.st i).do ⟨3,(k:Int),0,p,⟨#[]⟩⟩=(⟨0,-1,0,0,[],[]⟩,.aE a)/\∀r,∃C,bG {X with st:=ah X.st i (.aE a),A:=r,e:=eD X.e i k {X.e i k with given:=true,code:=p}} C (n+1)):=by
 have E:=K.en i j hi b c k z;have s:j≠i:=λe=>c e.symm
 have B:aS p:=by unfold aS;omega
 have d:(U i).ask ⟨3,(k:Int),0,p,⟨#[]⟩⟩=(⟨((U i).giveUp k p).1,-1,0,0,[],[]⟩,((U i).giveUp k p).2):=rfl;obtain⟨d1,d2,d3,d4,⟨t,u,h⟩|⟨t,u,h⟩⟩:=Qt (K.fB hi) (K.dir i j hi b c) (K.dir j i b hi s) z (p:=p) (by omega);obtain⟨a,m,f,v⟩:=K.ask hi y ⟨3,(k:Int),0,p,⟨#[]⟩⟩ B (by simp) (by rw[d,h];exact(K.fB hi).cl);rw[d,u]at m;rw[d,h]at f;exact⟨a,.inl ⟨by rw[E.gv];exact t,m,K.same hi b c f v⟩⟩
 obtain⟨a,m,f,v⟩:=K.ask hi y ⟨3,(k:Int),0,p,⟨#[]⟩⟩ B (by simp) (by rw[d,h];exact(K.fB hi).cl);rw[d,u]at m;rw[d]at f;rw[h]at f d1 d2;refine⟨a,.inr ⟨by rw[E.gv];exact t,m,λr=>⟨_,K.jE hi b c (bZ n) rfl ⟨a,rfl,f,v⟩ d1 d2 ⟨λx w=>w,rfl,rfl,rfl,rfl⟩ (λl hl=>?_) (λl hl=>?_) (λx w=>.inl w) (by have:=K.lb;show X.aI.length<=100*(n+1);omega) (K.cfg i hi).1 rfl ⟨rfl,rfl,rfl⟩⟩⟩⟩
 have g:=K.en i j hi b c l hl;show lN (ah (U i).outs k _ l) ((U j).ins l) (eD X.e i k _ i l);unfold eD;by_cases e:l=k;subst e;rw[bk,aD ⟨rfl,rfl⟩];exact⟨g.wrote,g.fin,rfl,λ_=>rfl,g.read,g.state,g.af⟩
 rw[bm _ _ e,az (λq=>e q.2)];exact g;show lN ((U j).outs l) ((U i).ins l) (eD X.e i k _ j l);unfold eD;rw[az (λq=>s q.1)];exact K.en j i b hi s l hl
def bG.Fi(K:bG X U n)(hi:i<2)(a:j<2)(d:i≠j)(H:n<=40000)(m:k<4)(I:0<=p):
 ∃f N code data,(X.st i).do ⟨7,(k:Int),p,0,⟨#[]⟩⟩=(⟨0,-1,N,code,data,[]⟩,.aE f)/\uS (X.e j k) p N code data/\(X.e j k).wrote.size<=4096/\(data=((U i).read k p).1/\N=((U i).read k p).2.1)/\∀z,∃B,bG {X with st:=ah X.st i (.aE f),A:=z,e:=eD X.e j k {X.e j k with read:=(X.e j k).read+data.length,state:=N}} B (n+1)/\B=ah U i ((U i).read k p).2.2.2.2:=by
 have s:j≠i:=λe=>d e.symm
 have E:=K.en j i a hi s k m;have t:(U i).ask ⟨7,(k:Int),p,0,⟨#[]⟩⟩=(⟨((U i).read k p).2.2.2.1,-1,((U i).read k p).2.1,((U i).read k p).2.2.1,((U i).read k p).1,[]⟩,((U i).read k p).2.2.2.2):=rfl;obtain⟨b,r,d1,d2,b1,b2,L,M,O,P,Q,R,S,C,T,V⟩:=Qu (K.fB a) (K.fB hi) (K.dir j i a hi s) (K.dir i j hi a d) m I;have g:b.closed=(U i).closed/\b.key=(U i).key/\b.me=(U i).me/\b.aj=(U i).aj/\b.ag=(U i).ag:=by
  rw[r];unfold ai.read;split<;>exact⟨rfl,rfl,rfl,rfl,rfl⟩
 obtain⟨f,D,F,W⟩:=K.ask hi H ⟨7,(k:Int),p,0,⟨#[]⟩⟩ (by simp[aS]) (by simp) (by rw[t,<-r,g.1];exact(K.fB hi).cl);rw[t,M]at D;rw[t,<-r]at F;refine⟨f,_,_,_,D,⟨by rw[E.read];exact((K.fB hi).gO k m).rd.1,O,by rw[E.read,E.wrote];exact P,by rw[E.read,E.wrote];exact Q,λh=>by rw[E.state]at h⊢;exact R h,?_⟩,by rw[E.wrote];exact((K.fB a).out k m).sz,⟨rfl,rfl⟩,λz=>⟨_,K.jE hi a d (bZ n) rfl ⟨f,rfl,F,W⟩ d2 d1 ⟨λx u=>by rw[b1];exact u,g.2.1,g.2.2.1,g.2.2.2.1,g.2.2.2.2⟩ (λl hl=>?_) (λl hl=>?_) (λx u=>.inl u) (by have:=K.lb;show X.aI.length<=100*(n+1);omega) (by rw[b2];exact(K.cfg i hi).1) rfl ⟨rfl,rfl,rfl⟩,by rw[r]⟩⟩
 obtain q|⟨v,w,y,Y⟩|⟨v,w,y⟩:=V
 exact .inl q;refine .inr (.inl ⟨v,by rw[E.fin];exact w,?_,Y⟩);rw[E.read,E.wrote,<-C];exact y;have G:(X.e j k).given=true:=by rw[E.gv];exact w
 exact .inr (.inr ⟨v,G,by rw[E.code G];exact y⟩);show lN (b.outs l) ((U j).ins l) (eD X.e j k _ i l);unfold eD;rw[L,az (λq=>d q.1)];exact K.en i j hi a d l hl;have c:=K.en j i a hi s l hl;show lN ((U j).outs l) (b.ins l) (eD X.e j k _ j l);unfold eD;by_cases e:l=k;subst e;rw[aD ⟨rfl,rfl⟩];exact⟨c.wrote,c.fin,c.gv,c.code,by rw[C];simp only;rw[c.read],T.symm,c.af⟩
 rw[S,bm _ _ e,az (λq=>e q.2)];exact c
def bG.Ae(K:bG X U n)(hi:i<2)(b:ByteArray)(h:¬eC X.key (Go.Proofs.YtjnmokmchdfchaaGreatDoor.aT (decide (i≠0))) (aG b)):(X.st i).do ⟨6,0,0,0,b⟩=(⟨4,-1,0,0,[],[]⟩,X.st i):=by
 obtain⟨s,e,a,-⟩:=K.aT i hi;obtain⟨-,-,-,f,g⟩:=K.cfg i hi;have j:s.key=X.key:=a.c.key.symm.trans f;have k:(!s.first)=decide (i≠0):=by
  have d:=a.c.me;rw[g]at d;have l:i=0\/i=1:=by omega
  cases m:s.first<;>rw[m]at d<;>rcases l with q|q<;>subst q<;>simp_all
 rw[e];have:(aJ.aE s).recv (aG b)=(4,-1,.aE s):=by
  show s.recv (aG b)=_;unfold Sd.recv;rw[j,k,aD h]
 unfold aJ.do;simp[this]
def cI.QQ{b:ai}(D:cI Y b)(d:List Int):cI {Y with due:=d} b:=⟨D.key,D.me,D.ag,D.sn,D.aT,D.fr,D.ak,D.aL,D.ev,D.tk,D.cm⟩
def cI.QR{b:ai}(D:cI Y b)(d:List Int):cI Y {b with due:=d}:=D.same rfl rfl rfl rfl rfl
def Fj{x:Int×List Fr}(h:pf Y L x):16<L.length:=by
 obtain⟨b,-,a⟩:=h;by_cases c:L.length=16;have:(dT Y.key Y.me (bq L) (bS L)).length=0:=by
  rw[nu];unfold bS;rw[ct,dM];omega
 unfold fN at a;rw[aD this]at a;cases a;have:=b.1;omega
def bG.Fk(K:bG X U n)(hi:i<2)(m:j<2)(p:i≠j)(S:n<=40000):
 ∃z ps,(X.st i).do ⟨5,0,0,0,⟨#[]⟩⟩=(⟨0,-1,0,0,[],ps⟩,.aE z)/\ps.length<=50/\(0<=X.bf i/\X.bf i<=1000000000000)/\(∀l,l<ps.length->uQ X i (eU (ps.map strOfNums) l) l)/\
  ∃A,(∃a,zN (U i) (ps.map strOfNums) a/\A=ah U i {(U i).eu a with due:=[]})/\∀B v,bG (jS X i (j:Int) (.aE z) (ps.map strOfNums) ps.length B v) A (n+1):=by
 have r:j≠i:=λe=>p e.symm
 obtain⟨s,e,C,D⟩:=K.aT i hi;obtain⟨t,I,T,L,M⟩:=K.cfg i hi;have E:(X.st i).do ⟨5,0,0,0,⟨#[]⟩⟩=(⟨0,-1,0,0,[],s.dv.2⟩,.aE s.dv.1):=by rw[e];rfl
 have F:=Ex (K.ok hi) (by omega) ⟨5,0,0,0,⟨#[]⟩⟩ (by simp[aS]);rw[E]at F;obtain⟨hl,-⟩:=aJ.Ep (K.ok hi) (by omega);rw[e]at hl;have hl:s.dv.2.length<=50:=hl;obtain⟨a,u,N⟩:=Qa C D (by omega);obtain⟨d1,d2,d3,d4,d5⟩:=Qq a (s.dv.2.map strOfNums) (U i) u.len u.each (K.fB hi).out (K.dir i j hi m p) (K.dir j i m hi r);have V:=D.bf;have O:X.bf i=s.count:=by rw[t,C.c.next]
 rw[dH]at d4 d5;refine⟨_,_,E,hl,by rw[O];omega,λl f=>?_,ah U i {(U i).eu a with due:=[]},⟨a,u,rfl⟩,λB v=>?_⟩
 obtain⟨x,d,k,p2,p3⟩:=d5 l f;have G:=Fj k;rw[fH]at G;refine⟨?_,by rw[k.2.1,p2,t],by rw[<-I];exact p3,G⟩
 have:=k.1;rw[L,M]at this;have P:i=0\/i=1:=by omega
 obtain q|q:=P<;>subst q<;>simpa [Go.Proofs.YtjnmokmchdfchaaGreatDoor.aT]using this
 have Q:∀l,l<s.dv.2.length->∃y∈((U i).eu a).ay,pf {(U i).eu a with due:=[]} (aG (eU (s.dv.2.map strOfNums) l)) y:=λl f=>by
  obtain⟨x,d,k,-,-⟩:=d5 l f;refine⟨x,d,?_⟩
  unfold pf at k⊢;show eC ((U i).eu a).key ((U i).eu a).me _/\_;rw[d3.may.key,d3.may.me];exact k
 refine K.jE hi m p (bZ n) rfl ⟨_,rfl,N.mono (bZ n),F⟩ (d1.QQ []) (d2.QR []) ⟨d3.sub,d3.may.key,d3.may.me,d3.may.aj,d3.may.ag⟩ (λl f=>?_) (λl f=>?_) (λx d=>?_) ?_ ?_ ?_ ⟨rfl,rfl,rfl⟩;have h:=K.en i j hi m p l f;have o:=d3.may.kp l f;show lN (((U i).eu a).outs l) ((U j).ins l) (X.e i l);exact⟨h.wrote.trans o.data.symm,h.fin.trans o.fin.symm,h.gv.trans o.gv.symm,λg=>(h.code g).trans o.code.symm,h.read,h.state,h.af.1,Int.le_trans h.af.2 o.pre⟩
 show lN ((U j).outs l) (((U i).eu a).ins l) (X.e j l);rw[d3.may.ins];exact K.en j i m hi r l f;have d:x∈X.aI++((s.dv.2.map strOfNums).take s.dv.2.length).map (λb=>((j:Int),b)):=d;obtain d|d:=bQ.1 d
 exact .inl d;right;obtain⟨b,H,rfl⟩:=fg.1 d;rw[lC (by rw[dH];exact aR _)]at H;obtain⟨l,w,R⟩:=jY.1 H;rw[dH]at w;have:eU (s.dv.2.map strOfNums) l=b:=by
  unfold eU;rw[ql,eI (by rw[dH];exact w),R];rfl
 rw[<-this];exact⟨rfl,Q l w⟩
 have:=K.lb;show(X.aI++((s.dv.2.map strOfNums).take s.dv.2.length).map (λb=>((j:Int),b))).length<=_;rw[bH,dH,ct,dH];omega;show ah X.bf i (X.bf i+s.dv.2.length) i=((U i).eu a).next;rw[bk,d4,t];show ah X.bf i (X.bf i+s.dv.2.length) j=X.bf j;rw[bm _ _ r]
def QS(num:Int):∀(a:List Fr)(m:ai),(ai.fx num a m).1≠6:=by
 intro a;induction a with
 |nil=>intro m;show(0:Int)≠6;decide
 |cons f a b=>
  intro m;have e2:ai.fx num (f::a) m=if(m.take f).1=0 then ai.fx num a ((m.take f).2.note f num)else((m.take f).1,(m.take f).2.fail (m.take f).1):=rfl
  rw[e2];split;exact b _;show(m.take f).1≠6;unfold ai.take;split;split<;>simp;split;split<;>simp;split;show((m.ins f.stream.toNat).bytes f).1≠6;unfold aN.bytes;split;simp;split<;>simp;split<;>simp
def QT(h:(Y.eT L).1=0\/(Y.eT L).1=6):(Y.eT L).2.2.closed=Y.closed/\(Y.eT L).2.2.aj=Y.aj:=by
 unfold ai.eT at h⊢;split;exact⟨rfl,rfl⟩
 rename_i a;rw[az a]at h;split;exact⟨rfl,rfl⟩
 rename_i b;rw[az b]at h;split;exact⟨rfl,rfl⟩
 rename_i c;rw[az c]at h;unfold ai.qb at h⊢;split;rename_i hd;rw[hd]at h;simp only at h;omega;rename_i d _ hd;rw[hd]at h;simp only at h;split;exact⟨rfl,rfl⟩
 rename_i f;rw[az f]at h;simp only at h⊢;obtain q|q:=EN (bq L) d (Y.mark (bq L))
 exact⟨q.closed,q.aj⟩
 exact absurd h (λe=>e.elim q (QS _ _ _))
def bG.xH(K:bG X U n)(I:n<=40000){x:Int×ByteArray}(L:x∈X.aI):
 ∃i r f p,i<2/\x.1=((i:Nat):Int)/\x.2.size<=300/\16<x.2.size/\(X.st i).do ⟨6,0,0,0,x.2⟩=(r,.aE f)/\(r.e=0\/r.e=6)/\dU (n+1) (.aE f)/\(∀l:Nat,l<4->(aJ.aE f).af (l:Int)=(p l,0))/\(∀l,l<4->qT X i l (p l))/\
  ∃B,B=ah U i ((U i).eT (aG x.2)).2.2/\∀C,bG (gR {X with st:=ah X.st i (.aE f)} i p 4 C) B (n+1):=by
 obtain⟨j,i,b,hi,m,M,y,h,w⟩:=K.aI x L;have d:i≠j:=λe=>m e.symm
 obtain⟨t1,t2,t3,t4,t5,t6,t7⟩:=Qm (K.fB b) (K.fB hi) (by omega) (K.dir j i b hi m) (K.dir i j hi b d) h w;have z:(U i).ask ⟨6,0,0,0,x.2⟩=(⟨((U i).eT (aG x.2)).1,((U i).eT (aG x.2)).2.1,0,0,[],[]⟩,((U i).eT (aG x.2)).2.2):=rfl;obtain⟨s,e,T,V⟩:=K.aT i hi;have D:=w.1.2.1;have E:=Fj w;rw[fH]at D E;obtain⟨c,k⟩:=exq (((U i).eT (aG x.2)).2.2);obtain⟨F,G⟩:=QT t1;rw[<-k]at F G;have N:c.closed=0:=F.trans (K.fB hi).cl;obtain⟨f,H,t,A⟩:=K.ask hi I ⟨6,0,0,0,x.2⟩ (by simp[aS]) (by simp) (by rw[z,<-k];exact N);rw[z]at H;rw[z,<-k]at t;rw[<-k]at t2 t3 t4 t5 t6 t7;have hF:=t.fB A;have hp:∀l,l<4->qT X i l (c.outs l).af.eM:=λl hl=>K.Fe hi b d hl (t4 l hl).pre (by rw[<-(t4 l hl).data];exact(hF.fr l hl).1) (λO=>by
  have:=E3 hF (K.fB b) t3 hl (by rw[(t4 l hl).gv];exact O);rw[<-t3.ag]at this;rw[<-(K.dir i j hi b d).ag];exact this)
 have P:∀l,l<4->0<=(c.outs l).af.eM:=λl hl=>(sY (hF.ck l hl)).1
 refine⟨i,_,f,λl=>(c.outs l).af.eM,hi,M,D,E,H,t1,A,λl hl=>bG.af (V:=X) (m:=U) t hl,hp,ah U i c,by rw[k],λC=>?_⟩
 have Q:c.key=(U i).key:=by have u:=t3.key;have v:=(K.dir i j hi b d).key;exact u.symm.trans v
 have R:c.ag=(U i).ag:=by have u:=t3.ag;have v:=(K.dir i j hi b d).ag;exact u.symm.trans v
 have S:c.me=(U i).me:=by have u:=t3.me;have v:=(K.dir i j hi b d).me;omega
 refine K.jE hi b d (bZ n) rfl ⟨f,rfl,t,A⟩ t3 t2 ⟨λy h=>by rw[t7];exact h,Q,S,G,R⟩ (λl hl=>?_) (λl hl=>?_) (λy h=>.inl h) (by have:=K.lb;show X.aI.length<=100*(n+1);omega) (by rw[t6];exact(K.cfg i hi).1) rfl ⟨rfl,rfl,rfl⟩;have a:=K.en i j hi b d l hl;have o:=t4 l hl;show lN (c.outs l) ((U j).ins l) (iE X.e i (λl=>(c.outs l).af.eM) 4 i l);unfold iE;rw[aD ⟨rfl,hl⟩];exact⟨a.wrote.trans o.data.symm,a.fin.trans o.fin.symm,a.gv.trans o.gv.symm,λg=>(a.code g).trans o.code.symm,a.read,a.state,P l hl,cS _⟩
 have a:=K.en j i b hi m l hl;show lN ((U j).outs l) (c.ins l) (iE X.e i (λl=>(c.outs l).af.eM) 4 j l);unfold iE;rw[az (λq=>m q.1)];exact⟨a.wrote,a.fin,a.gv,a.code,a.read.trans (t5 l).1.symm,a.state.trans (t5 l).2.symm,a.af⟩
def jH(l:List (Int×ByteArray))(q:Nat):Int×ByteArray:=l.getD q (0,⟨#[]⟩)
def uT{l:List (Int×ByteArray)}(h:n<l.length):jH l n∈l:=by
 unfold jH;rw[ql,eI h];exact tu h
def QU:∀(l:List (Int×ByteArray))(q:Nat),q<l.length->(l.flatMap jb)[q*2]?=some (.int .i64 (jH l q).1)/\(l.flatMap jb)[q*2+1]?=some (.string (jH l q).2):=by
 intro l;induction l with
 |nil=>intro q h;simp at h
 |cons x l c=>
  intro q h;cases q with
  |zero=>exact⟨rfl,rfl⟩
  |succ q=>
   obtain⟨a,b⟩:=c q (by simpa using h);have e:(x::l).flatMap jb=jb x++l.flatMap jb:=rU;rw[e,mW (by simp[jb];omega),mW (by simp[jb];omega)];simp only[jb,dc,fe]
   rw[show(q+1)*2-(0+1+1)=q*2 by omega,show(q+1)*2+1-(0+1+1)=q*2+1 by omega];exact⟨a,b⟩
def bP.qg(h:bP w n X){q:Nat}(j:q<X.aI.length):∃g c,X.vb=.slice (some ⟨g,0,none⟩) X.aI.length c/\w.cell? ⟨n,20,none⟩=some (.slice (some ⟨g,0,none⟩) X.aI.length c)/\w.cell? ⟨g,q*2,none⟩=some (.int .i64 (jH X.aI q).1)/\w.cell? ⟨g,q*2+1,none⟩=some (.string (jH X.aI q).2):=by
 obtain⟨a,c,e,-,-,k,l⟩:=qP h.aI;cases a with
 |none=>have:=(k rfl).1;omega
 |some y=>
  obtain⟨b,d⟩:=l y rfl;obtain⟨f1,f2⟩:=QU X.aI q j;have f:=d _ _ f1;have i:=d _ _ f2;rw[dY]at f i;refine⟨y.block,c,by rw[e,<-b],?_,f,i⟩
  rw[h.c.1.2.2.2.2.1,e,<-b]
def Fl(w:World)(nb:Nat)(V:Nw)(m:Nat->ai)(n:Nat)(H:bP w nb V)(f:Laid w)(K:bG V m n)(Q:n<=40000)(s:cY)(hs:s.ok)(h:s.kind≠6/\s.kind≠9/\s.kind≠8)(h0:V.aI.length≠0):
 Calls prog 85 #[.pointer (some ⟨nb,0,none⟩),.agg (di s)] w λe I=>e=.returned (.bool true)/\bL w nb V V I:=by
 obtain⟨b,S⟩:=iF.mk' H f s;obtain⟨d0,d1,d2,d3,d4⟩:=S.cells S.T;have M:=K.lb;obtain⟨L,z⟩:=exq V.aI.length;obtain⟨q,A⟩:=exq (bh s.a L);have R:q<L:=by have:=eP s.a (p:=L) (by omega);omega
 have B:=J (λW=>eZ s.a L W hs.a.1 hs.a.2);rw[<-A]at B;have k:=uT (l:=V.aI) (n:=q) (by omega);obtain⟨g,vc,N,p,r,t⟩:=S.T.at_.qg (q:=q) (by omega);rw[<-z]at p;have U:(0:Int)<=q:=by omega
 have X:(q:Int)<L:=by omega
 have Y:((L:Int)==0)=false:=by simp;omega
 obtain⟨x,C⟩:=exq (jH V.aI q);rw[<-C]at k r t;have D:=S.e;have k1:(s.kind==6)=false:=by simpa using h.1
 have k2:(s.kind==9)=false:=by simpa using h.2.1
 have k3:(s.kind==8)=false:=by simpa using h.2.2
 have O:=J (λ(W:World)(g:b.grownBy W none)=>bL.pre H f S.g (S.T.gb g));have P:=J (λ(W:World)(g:b.grownBy W none)=>S.cells (S.T.gb g));replace⟨S,H,f,K,hs,k⟩:=nZ S H f K hs k;clear z A C N M;obtain⟨kind,side,sa,a0,str⟩:=s;obtain⟨u,v⟩:=x;simp only at *;clear h;unfold di at *;simp only at *;go_enter func85,ntmps85;go_upto_region 1 with fail;rw[<-D];clear D;go_upto_region 3 with fail;go_quiet (first|(go_at_call 23;refine Calls.quiet_of_same (Z B _)));obtain⟨c,i⟩:=exq (b.drewN nq);have E:b.grownBy c none:=by rw[i];exact dy (aB _ none) _
 have F:∀a,c.cell? a=b.cell? a:=λa=>by rw[i];rfl
 rw[<-F]at d0 d1 d2 d3 d4 p r t;rw[<-i];clear i F;go_upto_region 5 with fail;obtain⟨d,j⟩:=exq (c.alloc (.cells #[.int .i64 u,.string v] 83));have G:b.grownBy d none:=by rw[j];exact aq E (aH _ _ _)
 have z5:b.heap.size<=c.heap.size:=E.size;have y:d.heap[c.heap.size]?=some (.cells #[.int .i64 u,.string v] 83 (0,0)):=by rw[j];exact aO _ _
 obtain⟨f0,f1⟩:d.cell? ⟨c.heap.size,0,none⟩=some (.int .i64 u)/\d.cell? ⟨c.heap.size,1,none⟩=some (.string v):=by simp[World.cell?,y]
 rw[<-j];clear j p r t;replace y:=J y;obtain⟨d0,d1,d2,d3,d4⟩:=Z P d G;go_wp2;go_ret;exact⟨rfl,Z O d G⟩
def bG.Fm(K:bG X U n)(hi:i<2):dU (n+1) (X.st i):=by
 obtain⟨s,e,-,a⟩:=K.aT i hi;rw[e];exact a.mono (bZ n)
def Fo(w:World)(nb:Nat)(V:Nw)(m:Nat->ai)(n:Nat)(H:bP w nb V)(b:Laid w)(K:bG V m n)(k:n<=40000)(s:cY)(hs:s.ok)(h0:V.aI.length=0):
 Calls prog 85 #[.pointer (some ⟨nb,0,none⟩),.agg (di s)] w λe h=>e=.returned (.bool true)/\bL w nb V V h:=by
 obtain⟨l,S⟩:=iF.mk' H b s;obtain⟨a,c,d,-⟩:=qP S.T.at_.aI;have i:=S.T.at_.c.1.2.2.2.2.1;rw[d,h0]at i;have j:=J (bL.pre H b S.g S.T);have f:=S.e;replace⟨S,H,b,K,hs⟩:=eR S H b K hs;clear d;obtain⟨kind,side,p,q,str⟩:=s;unfold di at *;simp only at *;go_enter func85,ntmps85;go_upto_region 1 with fail;rw[<-f];clear f;go_wp2;go_ret;exact⟨rfl,Z j⟩
def QV(w:World)(nb:Nat)(V:Nw)(m:Nat->ai)(n:Nat)(H:bP w nb V)(f:Laid w)(K:bG V m n)(hn:n<=40000)(s:cY)(hs:s.ok)(hk:s.kind=6)(h0:V.aI.length≠0):
 Calls prog 85 #[.pointer (some ⟨nb,0,none⟩),.agg (di s)] w (eA w nb V n):=by
 obtain⟨b,S⟩:=iF.mk' H f s;obtain⟨d0,d1,d2,d3,d4⟩:=S.cells S.T;have a4:=K.lb;obtain⟨L,O⟩:=exq V.aI.length;obtain⟨q,Q⟩:=exq (bh s.a L);have hq:q<L:=by have:=eP s.a (p:=L) (by omega);omega
 have R:=J (λW=>eZ s.a L W hs.a.1 hs.a.2);rw[<-Q]at R;have j:=uT (l:=V.aI) (n:=q) (by omega);obtain⟨g,vc,hv,v,k,y⟩:=S.T.at_.qg (q:=q) (by omega);rw[<-O]at v;have q0:(0:Int)<=q:=by omega
 have q1:(q:Int)<L:=by omega
 have l0:((L:Int)==0)=false:=by simp;omega
 obtain⟨x,U⟩:=exq (jH V.aI q);rw[<-U]at j k y;have X:=S.e;obtain⟨i,r,Y,p,hi,a9,b3,-,z,hr,A,B,C,m',-,D⟩:=K.xH hn j;have hw:=K.ml;have bj:=J (λ(W:World)(g:b.grownBy W none)=>S.cells (S.T.gb g));have E:=λ(W:World)(g:b.grownBy W none)=>E9 W nb V (S.T.gb g).at_ (S.T.gb g).laid i hi (n+1) (K.Fm hi) (by omega) (by omega) x.2 (by omega) r (.aE Y) z hr A p B C
 have al:=J (λ(W w':World)(g:b.grownBy W none)(h:∃F,bL W nb V (gR {V with st:=ah V.st i (.aE Y)} i p 4 F) w')=>(show eA w nb V n (.returned (.bool true)) w' from h.elim (λF T=>S.fin H f ((S.T.gb g).trans T) (bZ (n+1)) (D F))));obtain⟨P,G⟩:=exq (eA w nb V n);rw[<-G]at al⊢;replace G:=J G;rw[a9]at k;replace⟨E,z,A,B,C,D,S,H,f⟩:=pT E z A B C D S H f;replace⟨K,hs,j⟩:=cg K hs j;clear O Q U hv a4;obtain⟨kind,side,sa,b7,str⟩:=s;obtain⟨xt,I⟩:=x;simp only at *;subst hk;unfold di at *;simp only at *;go_enter func85,ntmps85;go_upto_region 1 with fail;rw[<-X];clear X;go_upto_region 3 with fail;go_quiet (first|(go_at_call 23;refine Calls.quiet_of_same (Z R _)));obtain⟨c,t⟩:=exq (b.drewN nq);have g2:b.grownBy c none:=by rw[t];exact dy (aB _ none) _
 have a0:∀a,c.cell? a=b.cell? a:=λa=>by rw[t];rfl
 rw[<-a0]at d0 d1 d2 d3 d4 v k y;rw[<-t];clear t a0;go_upto_region 5 with fail;obtain⟨d,u⟩:=exq (c.alloc (.cells #[.int .i64 i,.string I] 83));have M:b.grownBy d none:=by rw[u];exact aq g2 (aH _ _ _)
 have z5:b.heap.size<=c.heap.size:=g2.size;have N:d.heap[c.heap.size]?=some (.cells #[.int .i64 i,.string I] 83 (0,0)):=by rw[u];exact aO _ _
 obtain⟨f0,f1⟩:d.cell? ⟨c.heap.size,0,none⟩=some (.int .i64 i)/\d.cell? ⟨c.heap.size,1,none⟩=some (.string I):=by simp[World.cell?,N]
 rw[<-u];clear u v k y;replace N:=J N;obtain⟨d0,d1,d2,d3,d4⟩:=Z bj d M;go_wp2_with (go_at_call 86;apply(Z E d M).mono;rintro e w6⟨rfl,h6⟩;have hf:=J (Z al d w6 M h6));first|exact Z hf|(go_ret;exact Z hf)
def QW(w:World)(nb:Nat)(V:Nw)(m:Nat->ai)(n:Nat)(H:bP w nb V)(j:Laid w)(K:bG V m n)(hn:n<=40000)(s:cY)(hs:s.ok)(hk:s.kind=9)(h0:V.aI.length≠0):
 Calls prog 85 #[.pointer (some ⟨nb,0,none⟩),.agg (di s)] w (eA w nb V n):=by
 obtain⟨b,S⟩:=iF.mk' H j s;obtain⟨d0,d1,d2,d3,d4⟩:=S.cells S.T;have aC:=K.lb;obtain⟨L,F⟩:=exq V.aI.length;obtain⟨q,G⟩:=exq (bh s.a L);have hq:q<L:=by have:=eP s.a (p:=L) (by omega);omega
 have I:=J (λW=>eZ s.a L W hs.a.1 hs.a.2);rw[<-G]at I;have k:=uT (l:=V.aI) (n:=q) (by omega);obtain⟨g,vc,hv,u,p,v⟩:=S.T.at_.qg (q:=q) (by omega);rw[<-F]at u;have q0:(0:Int)<=q:=by omega
 have q1:(q:Int)<L:=by omega
 have l0:((L:Int)==0)=false:=by simp;omega
 obtain⟨x,M⟩:=exq (jH V.aI q);rw[<-M]at k p v;have N:=S.e;obtain⟨i,-,-,-,hi,a1,br,-⟩:=K.xH hn k;obtain⟨f,bt⟩:∃f:Nat,(1:Int)-i=f:=⟨1-i,by omega⟩
 have y:f<2:=by omega
 have a2:=J (λ(W:World)(g:b.grownBy W none)=>S.cells (S.T.gb g));have z:=λ(W:World)(g:b.grownBy W none)=>Ab W nb V (S.T.gb g).at_ (S.T.gb g).laid f y n (K.ok y) (by omega) x.2 (by omega) (K.Ae y x.2)
 have O:=J (λ(W Q:World)(g:b.grownBy W none)(h:∃R,bL W nb V {V with A:=ah V.A f R} Q)=>(show eA w nb V n (.returned (.bool true)) Q from h.elim (λR T=>S.fin H j ((S.T.gb g).trans T) (by omega) (K.A _))));obtain⟨P,B⟩:=exq (eA w nb V n);rw[<-B]at O⊢;replace B:=J B;rw[a1]at p;replace⟨z,S,H,j,K,hs,k⟩:=iR z S H j K hs k;clear F G M hv aC;obtain⟨kind,side,sa,bz,str⟩:=s;obtain⟨xt,C⟩:=x;simp only at *;subst hk;unfold di at *;simp only at *;go_enter func85,ntmps85;go_upto_region 1 with fail;rw[<-N];clear N;go_upto_region 3 with fail;go_quiet (first|(go_at_call 23;refine Calls.quiet_of_same (Z I _)));obtain⟨c,r⟩:=exq (b.drewN nq);have U:b.grownBy c none:=by rw[r];exact dy (aB _ none) _
 have X:∀a,c.cell? a=b.cell? a:=λa=>by rw[r];rfl
 rw[<-X]at d0 d1 d2 d3 d4 u p v;rw[<-r];clear r X;go_upto_region 5 with fail;obtain⟨d,t⟩:=exq (c.alloc (.cells #[.int .i64 i,.string C] 83));have D:b.grownBy d none:=by rw[t];exact aq U (aH _ _ _)
 have z5:b.heap.size<=c.heap.size:=U.size;have E:d.heap[c.heap.size]?=some (.cells #[.int .i64 i,.string C] 83 (0,0)):=by rw[t];exact aO _ _
 obtain⟨f0,f1⟩:d.cell? ⟨c.heap.size,0,none⟩=some (.int .i64 i)/\d.cell? ⟨c.heap.size,1,none⟩=some (.string C):=by simp[World.cell?,E]
 rw[<-t];clear t u p v;replace E:=J E;obtain⟨d0,d1,d2,d3,d4⟩:=Z a2 d D;go_wp2_with (go_at_call 84;apply(Z z d D).mono;rintro e w6⟨rfl,h6⟩;have Y:=J (Z O d w6 D h6));first|exact Z Y|(go_ret;exact Z Y)
def QX(W:World)(z:Int)(b:W8 z):(convert 112 9 (.slice (some ⟨W.heap.size,0,none⟩) 1 1)).run prog (W.alloc (.cells #[.int .u8 z] 5)).drew=.ok (.string (strOfNums [z])) (W.alloc (.cells #[.int .u8 z] 5)).drew:=by
 have a:∀x∈[z],W8 x:=λx c=>by rw[cL.1 c];exact b
 have d:(W.alloc (.cells #[.int .u8 z] 5)).drew.heap[W.heap.size]?=some (.cells #[.int .u8 z] 5 (0,0)):=aO _ _;refine tM ⟨a,rfl,aR _,by simp[maxLen],.inr ⟨_,_,rfl,λi hi=>?_,a⟩⟩;obtain rfl:i=0:=by simpa using hi
 rw[dY,ba d];rfl
def QY(x y:Int):W8 (bits .xor .u8 x y):=by
 unfold W8 bits;simp[IntKind.wrap,IntKind.bits,IntKind.signed];omega
def QZ(w:World)(nb:Nat)(V:Nw)(m:Nat->ai)(n:Nat)(H:bP w nb V)(r:Laid w)(K:bG V m n)(hn:n<=40000)(s:cY)(hs:s.ok)(hk:s.kind=8)(h0:V.aI.length≠0):
 Calls prog 85 #[.pointer (some ⟨nb,0,none⟩),.agg (di s)] w (eA w nb V n):=by
 obtain⟨f,S⟩:=iF.mk' H r s;obtain⟨d0,d1,d2,d3,d4⟩:=S.cells S.T;have a4:=K.lb;obtain⟨L,Q⟩:=exq V.aI.length;obtain⟨q,R⟩:=exq (bh s.a L);have hq:q<L:=by have:=eP s.a (p:=L) (by omega);omega
 have U:=J (λW=>eZ s.a L W hs.a.1 hs.a.2);rw[<-R]at U;have t:=uT (l:=V.aI) (n:=q) (by omega);obtain⟨g,vc,hv,F,u,G⟩:=S.T.at_.qg (q:=q) (by omega);rw[<-Q]at F;have q0:(0:Int)<=q:=by omega
 have q1:(q:Int)<L:=by omega
 have l0:((L:Int)==0)=false:=by simp;omega
 obtain⟨x,X⟩:=exq (jH V.aI q);rw[<-X]at t u G;have Y:=S.e;obtain⟨i,-,-,-,hi,a8,bj,br,-⟩:=K.xH hn t;have a9:=J (λ(W:World)(g:f.grownBy W none)=>S.cells (S.T.gb g));have v:=λ(W:World)(g:f.grownBy W none)(b:ByteArray)(aa:b.size<=1000000)=>Ab W nb V (S.T.gb g).at_ (S.T.gb g).laid i hi n (K.ok hi) (by omega) b aa (K.Ae hi b)
 have I:=J (λ(W w':World)(g:f.grownBy W none)(h:∃A',bL W nb V {V with A:=ah V.A i A'} w')=>(show eA w nb V n (.returned (.bool true)) w' from h.elim (λA' T=>S.fin H r ((S.T.gb g).trans T) (by omega) (K.A _))));obtain⟨at_,al⟩:=exq (bh s.b x.2.size);have bb:at_<x.2.size:=by have:=eP s.b (p:=x.2.size) (by omega);omega
 have ax:=J (λW=>eZ s.b x.2.size W hs.b.1 hs.b.2);rw[<-al]at ax;clear al;obtain⟨P,M⟩:=exq (eA w nb V n);rw[<-M]at I⊢;replace M:=J M;rw[a8]at u;replace⟨v,S,H,r,K,hs,t⟩:=iR v S H r K hs t;clear Q R X hv a4;obtain⟨kind,side,sa,bt,str⟩:=s;obtain⟨xt,c⟩:=x;simp only at *;subst hk;unfold di at *;simp only at *;go_enter func85,ntmps85;go_upto_region 1 with fail;rw[<-Y];clear Y;go_upto_region 3 with fail;go_quiet (first|(go_at_call 23;refine Calls.quiet_of_same (Z U _)));obtain⟨d,B⟩:=exq (f.drewN nq);have g2:f.grownBy d none:=by rw[B];exact dy (aB _ none) _
 have aC:∀a,d.cell? a=f.cell? a:=λa=>by rw[B];rfl
 rw[<-aC]at d0 d1 d2 d3 d4 F u G;rw[<-B];clear B aC;go_upto_region 5 with fail;obtain⟨j,C⟩:=exq (d.alloc (.cells #[.int .i64 i,.string c] 83));have k:f.grownBy j none:=by rw[C];exact aq g2 (aH _ _ _)
 have z5:f.heap.size<=d.heap.size:=g2.size;have D:j.heap[d.heap.size]?=some (.cells #[.int .i64 i,.string c] 83 (0,0)):=by rw[C];exact aO _ _
 obtain⟨f0,f1⟩:j.cell? ⟨d.heap.size,0,none⟩=some (.int .i64 i)/\j.cell? ⟨d.heap.size,1,none⟩=some (.string c):=by simp[World.cell?,D]
 rw[<-C];clear C F u G;replace D:=J D;obtain⟨d0,d1,d2,d3,d4⟩:=Z a9 j k;go_upto_region 13 with(go_at_call 23;apply(Z ax _).mono;rintro e w2⟨rfl,ew⟩;rw[ew];clear ew)
 have z6:d.heap.size<j.heap.size:=(aZ.1 (Z D)).1;have z7:d.heap.size≠j.heap.size:=by omega
 have a0:(0:Int)<=at_:=by omega
 have a1:(at_:Int)<c.size:=by omega
 have a2:(at_:Int)<=c.size:=by omega
 have a3:(at_:Int)+1<=(c.size:Int):=by omega
 have bx:=λ(y:Int)=>QX j (bits .xor .u8 ((c[at_]'bb).toNat:Int) y) (QY _ _)
 have bz:=λ(z:Int)=>Ad (c.extract 0 at_) (strOfNums [z]) (by rw[rQ];have:(strOfNums [z]).size=1:=rfl;omega)
 have bM:=λ(z:Int)=>Ad (c.extract 0 at_++strOfNums [z]) (c.extract (at_+1) c.size) (by rw[tc,rQ,rQ];have:(strOfNums [z]).size=1:=rfl;omega)
 have E:∀z:Int,(c.extract 0 at_++strOfNums [z]++c.extract (at_+1) c.size).size<=1000000:=λz=>by rw[tc,tc,rQ,rQ];have:(strOfNums [z]).size=1:=rfl;omega
 replace E:=J E;by_cases hz:0<str.size
 ·have z1:decide (0<(str.size:Int))=true:=dT_;have z2:(0:Int)<str.size:=by omega
  go_upto_region 14 with fail;all_goals first|go_upto_region 15 with fail|skip
  all_goals go_region
  all_goals
   go_wp2_with (go_at_call 84;apply(Z v _ (aq k (aV (aH _ _ _))) _ (Z E _)).mono;rintro e N⟨rfl,O⟩;have p:=J (Z I _ N (aq k (aV (aH _ _ _))) O))
   first|exact Z p|(go_ret;exact Z p)
 have z1:decide (0<(str.size:Int))=false:=dF_;go_upto_region 15 with fail;go_region;go_wp2_with (go_at_call 84;apply(Z v _ (aq k (aV (aH _ _ _))) _ (Z E _)).mono;rintro e N⟨rfl,O⟩;have p:=J (Z I _ N (aq k (aV (aH _ _ _))) O));first|exact Z p|(go_ret;exact Z p)
def Q0(w:World)(nb:Nat)(V:Nw)(m:Nat->ai)(n:Nat)(H:bP w nb V)(a:Laid w)(K:bG V m n)(b:n<=40000)(s:cY)(hs:s.ok):
 Calls prog 85 #[.pointer (some ⟨nb,0,none⟩),.agg (di s)] w (eA w nb V n):=by
 have d:∀e c,e=.returned (.bool true)/\bL w nb V V c->eA w nb V n e c:=λe c h=>⟨h.1,V,m,n,by omega,h.2,K⟩
 by_cases h0:V.aI.length=0;exact(Fo w nb V m n H a K b s hs h0).mono d;by_cases f:s.kind=6;exact QV w nb V m n H a K b s hs f h0;by_cases g:s.kind=9;exact QW w nb V m n H a K b s hs g h0;by_cases i:s.kind=8;exact QZ w nb V m n H a K b s hs i h0;exact(Fl w nb V m n H a K b s hs ⟨f,g,i⟩ h0).mono d
def Q1(w:World)(nb:Nat)(V:Nw)(m:Nat->ai)(n:Nat)(H:bP w nb V)(h:Laid w)(K:bG V m n)(M:n<=40000)(s:cY)(hs:s.ok)(N:s.kind=2)(b:((V.e (bh s.side 2) (bh s.a 4)).finished||(V.e (bh s.side 2) (bh s.a 4)).given)=true):
 Calls prog 50 #[.pointer (some ⟨nb,0,none⟩),.agg (di s)] w (eA w nb V n):=by
 obtain⟨p,S⟩:=iF.mk' H h s;obtain⟨i,D⟩:=exq (bh s.side 2);obtain⟨k,E⟩:=exq (bh s.a 4);have hi:i<2:=by have:=eP s.side (p:=2) (by decide);omega
 have q:k<4:=by have:=eP s.a (p:=4) (by decide);omega
 have r:=J (eZ s.side 2 p hs.side.1 hs.side.2 (by decide) (by decide));have t:=J (eZ s.a 4 p hs.a.1 hs.a.2 (by decide) (by decide));rw[<-D]at r b;rw[<-E]at t b;clear D E;have i0:(0:Int)<=i:=by omega
 have i1:(i:Int)<2:=by omega
 have k0:(0:Int)<=k:=by omega
 have k1:(k:Int)<4:=by omega
 have O:1-i<2:=by omega
 have Q:i≠1-i:=by omega
 have hw:=K.ml;obtain⟨c0,c1,R,ce,cl⟩:=S.T.at_.nI hi q;obtain⟨d0,d1,d2,d3,d4⟩:=S.cells S.T;obtain⟨U,⟨-,u,v⟩|⟨F,-,-⟩⟩:=K.vY hi O Q M q;rotate_left
 rw[b]at F;cases F;have c:=nG S.T hi (K.ok hi) (by omega) ⟨2,(k:Int),0,0,⟨#[]⟩⟩ (by simp[aS]) (iP _) u;have x:=J (λ(W:World)(y:Nat->Prop)(T:bL p nb V {V with st:=ah V.st i (.aE U),A:=ah V.A i y} W)=>S.fin H h T (n:=n) (bZ (n+1)) (v _));unfold cD mj ja at c;simp only[mJ]at c;replace c:=J c;obtain⟨P,z⟩:=exq (eA w nb V n);rw[<-z]at x⊢;replace z:=J z;have G:=S.e;replace⟨S,H,h,K,hs,v,u⟩:=iR S H h K hs v u;obtain⟨kind,side,sa,a3,str⟩:=s;simp only at *;subst N;unfold di at *;simp only at *;go_enter func50,ntmps50;go_upto_region 1 with fail;rw[<-G];clear G;go_upto_region 2 with(go_at_call 23;apply(Z r).mono;rintro e X⟨rfl,rfl⟩)
 go_upto_region 4 with(go_at_call 23;apply(Z t).mono;rintro e X⟨rfl,rfl⟩)
 go_upto_region 18 with(go_at_call 28;apply(Z c).mono;rintro e d⟨a,m1,I,y,rfl,-,B,-⟩)
 obtain⟨f,g⟩:=exq (d.alloc (.cells #[.int .i64 3,.int .i64 (-1),.int .i64 0,.int .u64 0,.string ⟨#[]⟩,.slice a m1 I] 46));have Y:d.grownBy f none:=by rw[g];exact aH _ _ _
 have z5:d.heap.size<f.heap.size:=by rw[g,dL];omega
 have C:f.heap[d.heap.size]?=some (.cells #[.int .i64 3,.int .i64 (-1),.int .i64 0,.int .u64 0,.string ⟨#[]⟩,.slice a m1 I] 46 (0,0)):=by rw[g];exact aO _ _
 rw[<-g];clear g;have j:=B.gb Y;have y0:f.cell? ⟨d.heap.size,0,none⟩=some (.int .i64 3):=by simp[World.cell?,C]
 obtain⟨⟨-,e1,e2,-,-,-,-⟩,-⟩:=j.at_.ce hi q;simp only at e1 e2;have l:=J (Z x f y j);replace⟨C,B,j⟩:=cg C B j;clear x c r t c0 c1 R ce cl d0 d1 d2 d3 d4;cases L:(V.e i k).finished
 ·rw[L]at e1 b;rw[tB]at b;rw[b]at e2;go_wp2_with fail;first|exact Z l|(go_ret;exact Z l)
 rw[L]at e1;go_wp2_with fail;first|exact Z l|(go_ret;exact Z l)
def Fp(w:World)(nb:Nat)(V:Nw)(m:Nat->ai)(n:Nat)(H:bP w nb V)(p:Laid w)(K:bG V m n)(U:n<=40000)(s:cY)(hs:s.ok)(Q:Nw->Prop)(X:s.kind=2)(b:((V.e (bh s.side 2) (bh s.a 4)).finished||(V.e (bh s.side 2) (bh s.a 4)).given)=false)(h:∀(c:Sd)(F:Nat->Nat->Prop),(V.st (bh s.side 2)).do ⟨2,((bh s.a 4):Int),0,0,⟨#[]⟩⟩=(⟨0,-1,0,0,[],[]⟩,.aE c)->bG {V with st:=ah V.st (bh s.side 2) (.aE c),A:=F,e:=eD V.e (bh s.side 2) (bh s.a 4) {V.e (bh s.side 2) (bh s.a 4)with finished:=true}} (ah m (bh s.side 2) {m (bh s.side 2)with outs:=ah (m (bh s.side 2)).outs (bh s.a 4) {(m (bh s.side 2)).outs (bh s.a 4)with finished:=true}}) (n+1)->Q {V with st:=ah V.st (bh s.side 2) (.aE c),A:=F,e:=eD V.e (bh s.side 2) (bh s.a 4) {V.e (bh s.side 2) (bh s.a 4)with finished:=true}}):
 Calls prog 50 #[.pointer (some ⟨nb,0,none⟩),.agg (di s)] w (nH w nb V Q):=by
 obtain⟨v,S⟩:=iF.mk' H p s;obtain⟨i,G⟩:=exq (bh s.side 2);obtain⟨k,I⟩:=exq (bh s.a 4);have hi:i<2:=by have:=eP s.side (p:=2) (by decide);omega
 have d:k<4:=by have:=eP s.a (p:=4) (by decide);omega
 have y:=J (eZ s.side 2 v hs.side.1 hs.side.2 (by decide) (by decide));have z:=J (eZ s.a 4 v hs.a.1 hs.a.2 (by decide) (by decide));rw[<-G]at y b h;rw[<-I]at z b h;clear G I;have i0:(0:Int)<=i:=by omega
 have i1:(i:Int)<2:=by omega
 have k0:(0:Int)<=k:=by omega
 have k1:(k:Int)<4:=by omega
 have Y:1-i<2:=by omega
 have al:i≠1-i:=by omega
 have hw:=K.ml;obtain⟨c0,c1,cx,ce,cl⟩:=S.T.at_.nI hi d;obtain⟨d0,d1,d2,d3,d4⟩:=S.cells S.T;obtain⟨c,⟨L,-,-⟩|⟨-,q,B⟩⟩:=K.vY hi Y al U d;rw[b]at L;cases L;have f:=nG S.T hi (K.ok hi) (by omega) ⟨2,(k:Int),0,0,⟨#[]⟩⟩ (by simp[aS]) (iP _) q;have C:=J (λ(W:World)(r:Nat->Prop)(T:bL v nb V {V with st:=ah V.st i (.aE c),A:=ah V.A i r} W)=>(show nH w nb V Q (.returned (.bool true)) (W.setCell ⟨V.eb i k,1,none⟩ (.bool true)) by
  have M:=T.at_.en i hi k d;simp only at M;have T7:=T.trans (T.at_.uP T.laid hi d (x:={V.e i k with finished:=true}) (oD W (V.eb i k) 1 (.bool true)) (heap_set M _));obtain⟨m',a0,a1⟩:=B (ah V.A i r);exact S.Ac H p T7 (h c _ q (a1▸a0))))
 unfold cD mj ja at f;simp only[mJ]at f;replace f:=J f;obtain⟨P,D⟩:=exq (nH w nb V Q);rw[<-D]at C⊢;replace D:=J D;have N:=S.e;replace⟨S,H,p,K,hs,B,q,h⟩:=qG S H p K hs B q h;obtain⟨kind,side,sa,bz,str⟩:=s;simp only at *;subst X;unfold di at *;simp only at *;go_enter func50,ntmps50;go_upto_region 1 with fail;rw[<-N];clear N;go_upto_region 2 with(go_at_call 23;apply(Z y).mono;rintro e w2⟨rfl,rfl⟩)
 go_upto_region 4 with(go_at_call 23;apply(Z z).mono;rintro e w2⟨rfl,rfl⟩)
 go_upto_region 18 with(go_at_call 28;apply(Z f).mono;rintro e g⟨a,m1,O,r,rfl,-,t,-⟩)
 obtain⟨j,l⟩:=exq (g.alloc (.cells #[.int .i64 0,.int .i64 (-1),.int .i64 0,.int .u64 0,.string ⟨#[]⟩,.slice a m1 O] 46));have g5:g.grownBy j none:=by rw[l];exact aH _ _ _
 have z5:g.heap.size<j.heap.size:=by rw[l,dL];omega
 have E:j.heap[g.heap.size]?=some (.cells #[.int .i64 0,.int .i64 (-1),.int .i64 0,.int .u64 0,.string ⟨#[]⟩,.slice a m1 O] 46 (0,0)):=by rw[l];exact aO _ _
 rw[<-l];clear l;have u:=t.gb g5;have y0:j.cell? ⟨g.heap.size,0,none⟩=some (.int .i64 0):=by simp[World.cell?,E]
 obtain⟨⟨-,e1,e2,e3,-,-,-⟩,ef⟩:=u.at_.ce hi d;simp only at e1 e2 e3 ef;have b3:g.heap.size≠V.eb i k:=λe=>by
  have:=t.at_.fc (V.eb i k) (.inr (.inr (.inr (.inr (.inr (.inl ⟨i,k,hi,d,rfl⟩))))));omega
 have R:=J (Z C j r u);replace⟨E,t,u⟩:=cg E t u;clear C f y z c0 c1 cx ce cl d0 d1 d2 d3 d4;rw[oH]at b;rw[b.1]at e1;rw[b.2]at e2;go_wp2_with fail;first|exact Z R|(go_ret;exact Z R)
def Q2(w:World)(nb:Nat)(V:Nw)(m:Nat->ai)(n:Nat)(H:bP w nb V)(j:Laid w)(K:bG V m n)(R:n<=40000)(s:cY)(hs:s.ok)(U:s.kind=3)(l:(V.e (bh s.side 2) (bh s.a 4)).given=true):
 Calls prog 50 #[.pointer (some ⟨nb,0,none⟩),.agg (di s)] w (eA w nb V n):=by
 obtain⟨p,S⟩:=iF.mk' H j s;obtain⟨i,F⟩:=exq (bh s.side 2);obtain⟨k,G⟩:=exq (bh s.a 4);have hi:i<2:=by have:=eP s.side (p:=2) (by decide);omega
 have r:k<4:=by have:=eP s.a (p:=4) (by decide);omega
 have t:=J (eZ s.side 2 p hs.side.1 hs.side.2 (by decide) (by decide));have u:=J (eZ s.a 4 p hs.a.1 hs.a.2 (by decide) (by decide));rw[<-F]at t l;rw[<-G]at u l;clear F G;have i0:(0:Int)<=i:=by omega
 have i1:(i:Int)<2:=by omega
 have k0:(0:Int)<=k:=by omega
 have k1:(k:Int)<4:=by omega
 have X:1-i<2:=by omega
 have Y:i≠1-i:=by omega
 have hw:=K.ml;obtain⟨c0,c1,cx,ce,cl⟩:=S.T.at_.nI hi r;obtain⟨d0,d1,d2,d3,d4⟩:=S.cells S.T;obtain⟨c,v⟩:=exq (bh s.b 1000);have a8:(c:Int)<1000:=by rw[v];exact eP s.b (by decide)
 have I:=J (eZ s.b 1000 p hs.b.1 hs.b.2 (by decide) (by decide));rw[<-v]at I;clear v;have a9:IntKind.u64.wrap (c:Int)=(c:Int):=by simp[IntKind.wrap,IntKind.bits,IntKind.signed];omega
 obtain⟨s',⟨-,x,y⟩|⟨L,-,-⟩⟩:=K.Fh hi X Y R r (p:=(c:Int)) (by omega);rotate_left
 rw[l]at L;cases L;have d:=nG S.T hi (K.ok hi) (by omega) ⟨3,(k:Int),0,(c:Int),⟨#[]⟩⟩ (by unfold aS;simp only;omega) (iP _) x;have z:=J (λ(W:World)(B:Nat->Prop)(T:bL p nb V {V with st:=ah V.st i (.aE s'),A:=ah V.A i B} W)=>S.fin H j T (n:=n) (bZ (n+1)) (y _));unfold cD mj ja at d;simp only[mJ]at d;replace d:=J d;obtain⟨P,C⟩:=exq (eA w nb V n);rw[<-C]at z⊢;replace C:=J C;have M:=S.e;replace⟨S,H,j,K,hs,y,x⟩:=iR S H j K hs y x;obtain⟨kind,side,sa,bj,str⟩:=s;simp only at *;subst U;unfold di at *;simp only at *;go_enter func50,ntmps50;go_upto_region 1 with fail;rw[<-M];clear M;go_upto_region 2 with(go_at_call 23;apply(Z t).mono;rintro e N⟨rfl,rfl⟩)
 go_upto_region 4 with(go_at_call 23;apply(Z u).mono;rintro e N⟨rfl,rfl⟩)
 go_upto_region 26 with(first|(go_at_call 23;apply(Z I).mono;rintro e N⟨rfl,rfl⟩)|(go_at_call 28;apply(Z d).mono;rintro e f⟨a,m1,O,B,rfl,-,D,-⟩))
 obtain⟨g,h⟩:=exq (f.alloc (.cells #[.int .i64 3,.int .i64 (-1),.int .i64 0,.int .u64 0,.string ⟨#[]⟩,.slice a m1 O] 46));have g5:f.grownBy g none:=by rw[h];exact aH _ _ _
 have z5:f.heap.size<g.heap.size:=by rw[h,dL];omega
 have E:g.heap[f.heap.size]?=some (.cells #[.int .i64 3,.int .i64 (-1),.int .i64 0,.int .u64 0,.string ⟨#[]⟩,.slice a m1 O] 46 (0,0)):=by rw[h];exact aO _ _
 rw[<-h];clear h;have q:=D.gb g5;have y0:g.cell? ⟨f.heap.size,0,none⟩=some (.int .i64 3):=by simp[World.cell?,E]
 obtain⟨⟨-,e1,e2,-,-,-,-⟩,-⟩:=q.at_.ce hi r;simp only at e1 e2;have Q:=J (Z z g B q);replace⟨E,D,q⟩:=cg E D q;clear z d t u c0 c1 cx ce cl d0 d1 d2 d3 d4;rw[l]at e2;go_wp2_with fail;first|exact Z Q|(go_ret;exact Z Q)
def Q3(w:World)(nb:Nat)(V:Nw)(m:Nat->ai)(n:Nat)(H:bP w nb V)(l:Laid w)(K:bG V m n)(X:n<=40000)(s:cY)(hs:s.ok)(Y:s.kind=3)(p:(V.e (bh s.side 2) (bh s.a 4)).given=false):
 Calls prog 50 #[.pointer (some ⟨nb,0,none⟩),.agg (di s)] w (eA w nb V n):=by
 obtain⟨q,S⟩:=iF.mk' H l s;obtain⟨i,G⟩:=exq (bh s.side 2);obtain⟨k,I⟩:=exq (bh s.a 4);have hi:i<2:=by have:=eP s.side (p:=2) (by decide);omega
 have d:k<4:=by have:=eP s.a (p:=4) (by decide);omega
 have v:=J (eZ s.side 2 q hs.side.1 hs.side.2 (by decide) (by decide));have y:=J (eZ s.a 4 q hs.a.1 hs.a.2 (by decide) (by decide));rw[<-G]at v p;rw[<-I]at y p;clear G I;have i0:(0:Int)<=i:=by omega
 have i1:(i:Int)<2:=by omega
 have k0:(0:Int)<=k:=by omega
 have k1:(k:Int)<4:=by omega
 have hj:1-i<2:=by omega
 have ax:i≠1-i:=by omega
 have hw:=K.ml;obtain⟨c0,c1,cx,ce,cl⟩:=S.T.at_.nI hi d;obtain⟨d0,d1,d2,d3,d4⟩:=S.cells S.T;obtain⟨c,z⟩:=exq (bh s.b 1000);have bt:(c:Int)<1000:=by rw[z];exact eP s.b (by decide)
 have L:=J (eZ s.b 1000 q hs.b.1 hs.b.2 (by decide) (by decide));rw[<-z]at L;clear z;have bx:IntKind.u64.wrap (c:Int)=(c:Int):=by simp[IntKind.wrap,IntKind.bits,IntKind.signed];omega
 obtain⟨s',⟨M,-,-⟩|⟨-,B,C⟩⟩:=K.Fh hi hj ax X d (p:=(c:Int)) (by omega);rw[p]at M;cases M;have f:=nG S.T hi (K.ok hi) (by omega) ⟨3,(k:Int),0,(c:Int),⟨#[]⟩⟩ (by unfold aS;simp only;omega) (iP _) B;have D:=J (λ(W:World)(r:Nat->Prop)(T:bL q nb V {V with st:=ah V.st i (.aE s'),A:=ah V.A i r} W)=>(show eA w nb V n (.returned (.bool true)) ((W.setCell ⟨V.eb i k,2,none⟩ (.bool true)).setCell ⟨V.eb i k,3,none⟩ (.int .u64 c)) by
  have N:=T.at_.en i hi k d;simp only at N;have T7:=T.trans (T.at_.uP T.laid hi d (x:={V.e i k with given:=true,code:=(c:Int)}) (((oD W (V.eb i k) 2 (.bool true)).trans (oD _ (V.eb i k) 3 (.int .u64 c))).mono (λk _ e=>e.elim id id)) (heap_set (heap_set N _) _));obtain⟨m',a2⟩:=C (ah V.A i r);exact S.fin H l T7 (n:=n) (bZ (n+1)) a2))
 unfold cD mj ja at f;simp only[mJ]at f;replace f:=J f;obtain⟨P,E⟩:=exq (eA w nb V n);rw[<-E]at D⊢;replace E:=J E;have O:=S.e;replace⟨S,H,l,K,hs,C,B⟩:=iR S H l K hs C B;obtain⟨kind,side,sa,b0,str⟩:=s;simp only at *;subst Y;unfold di at *;simp only at *;go_enter func50,ntmps50;go_upto_region 1 with fail;rw[<-O];clear O;go_upto_region 2 with(go_at_call 23;apply(Z v).mono;rintro e Q⟨rfl,rfl⟩)
 go_upto_region 4 with(go_at_call 23;apply(Z y).mono;rintro e Q⟨rfl,rfl⟩)
 go_upto_region 26 with(first|(go_at_call 23;apply(Z L).mono;rintro e Q⟨rfl,rfl⟩)|(go_at_call 28;apply(Z f).mono;rintro e g⟨a,m1,R,r,rfl,-,t,-⟩))
 obtain⟨h,j⟩:=exq (g.alloc (.cells #[.int .i64 0,.int .i64 (-1),.int .i64 0,.int .u64 0,.string ⟨#[]⟩,.slice a m1 R] 46));have g5:g.grownBy h none:=by rw[j];exact aH _ _ _
 have z5:g.heap.size<h.heap.size:=by rw[j,dL];omega
 have F:h.heap[g.heap.size]?=some (.cells #[.int .i64 0,.int .i64 (-1),.int .i64 0,.int .u64 0,.string ⟨#[]⟩,.slice a m1 R] 46 (0,0)):=by rw[j];exact aO _ _
 rw[<-j];clear j;have u:=t.gb g5;have y0:h.cell? ⟨g.heap.size,0,none⟩=some (.int .i64 0):=by simp[World.cell?,F]
 obtain⟨⟨-,e1,e2,e3,-,-,-⟩,ef⟩:=u.at_.ce hi d;simp only at e1 e2 e3 ef;have b5:g.heap.size≠V.eb i k:=λe=>by
  have:=t.at_.fc (V.eb i k) (.inr (.inr (.inr (.inr (.inr (.inl ⟨i,k,hi,d,rfl⟩))))));omega
 have U:=J (Z D h r u);replace⟨F,t,u⟩:=cg F t u;clear D f v y c0 c1 cx ce cl d0 d1 d2 d3 d4;rw[p]at e2;go_wp2_with fail;first|exact Z U|(go_ret;exact Z U)
def Q4(w:World)(nb:Nat)(V:Nw)(m:Nat->ai)(n:Nat)(H:bP w nb V)(b:Laid w)(K:bG V m n)(c:n<=40000)(s:cY)(hs:s.ok)(d:s.kind=2)(f:((V.e (bh s.side 2) (bh s.a 4)).finished||(V.e (bh s.side 2) (bh s.a 4)).given)=false):
 Calls prog 50 #[.pointer (some ⟨nb,0,none⟩),.agg (di s)] w (eA w nb V n):=
 (Fp w nb V m n H b K c s hs _ d f (λ_ _ _ h=>⟨_,_,bZ (n+1),h⟩)).mono (λ_ _ h=>h.post)
def Q5(w:World)(nb:Nat)(V:Nw)(m:Nat->ai)(n:Nat)(H:bP w nb V)(a:Laid w)(K:bG V m n)(b:n<=40000)(s:cY)(hs:s.ok)(c:s.kind≠6/\s.kind≠9/\s.kind≠8):
 Calls prog 85 #[.pointer (some ⟨nb,0,none⟩),.agg (di s)] w λe d=>e=.returned (.bool true)/\bL w nb V V d:=by
 by_cases h0:V.aI.length=0;exact Fo w nb V m n H a K b s hs h0;exact Fl w nb V m n H a K b s hs c h0
def Q6(w:World)(nb:Nat)(V:Nw)(m:Nat->ai)(n:Nat)(H:bP w nb V)(b:Laid w)(K:bG V m n)(B:n<=40000)(s:cY)(hs:s.ok)(C:s.kind=5):
 Calls prog 50 #[.pointer (some ⟨nb,0,none⟩),.agg (di s)] w (eA w nb V n):=by
 obtain⟨c,S⟩:=iF.mk' H b s;obtain⟨i,p⟩:=exq (bh s.side 2);obtain⟨k,q⟩:=exq (bh s.a 4);have hi:i<2:=by have:=eP s.side (p:=2) (by decide);omega
 have D:k<4:=by have:=eP s.a (p:=4) (by decide);omega
 have r:=J (eZ s.side 2 c hs.side.1 hs.side.2 (by decide) (by decide));have t:=J (eZ s.a 4 c hs.a.1 hs.a.2 (by decide) (by decide));rw[<-p]at r;rw[<-q]at t;clear p q;have O:(0:Int)<=i:=by omega
 have Q:(i:Int)<2:=by omega
 have R:(0:Int)<=k:=by omega
 have U:(k:Int)<4:=by omega
 have E:1-i<2:=by omega
 have F:i≠1-i:=by omega
 have W:=K.ml;obtain⟨c0,c1,X,ce,cl⟩:=S.T.at_.nI hi D;obtain⟨d0,d1,d2,d3,d4⟩:=S.cells S.T;obtain⟨u,ps,d,Y,G,f,m',-,g⟩:=K.Fk hi E F B;have I:=J (uR c nb V S.T.at_ S.T.laid i ((1-i:Nat):Int) hi (by omega) n (K.ok hi) (by omega) ps (by omega) (by have:=K.lb;omega) G (.aE u) d f);have x:=J (λ(y:World)(h:∃j v,bL c nb V (jS V i ((1-i:Nat):Int) (.aE u) (ps.map strOfNums) ps.length j v) y)=>(show eA w nb V n (.returned (.bool true)) y from h.elim (λj h=>h.elim (λv T=>S.fin H b T (n:=n) (bZ (n+1)) (g j v)))));obtain⟨P,l⟩:=exq (eA w nb V n);rw[<-l]at x⊢;replace l:=J l;have z:=S.e;replace⟨S,H,b,K,hs,g,d,f⟩:=qG S H b K hs g d f;obtain⟨kind,side,sa,aC,str⟩:=s;simp only at *;subst C;unfold di at *;simp only at *;go_enter func50,ntmps50;go_upto_region 1 with fail;rw[<-z];clear z;go_upto_region 2 with(go_at_call 23;apply(Z r).mono;rintro e L⟨rfl,rfl⟩)
 go_upto_region 4 with(go_at_call 23;apply(Z t).mono;rintro e L⟨rfl,rfl⟩)
 go_wp2_with (go_at_call 29;apply(Z I).mono;rintro e M⟨rfl,N⟩;have A:=J (Z x M N));first|exact Z A|(go_ret;exact Z A)
def Q7(w:World)(nb:Nat)(V:Nw)(m:Nat->ai)(n:Nat)(H:bP w nb V)(b:Laid w)(K:bG V m n)(D:n<=40000)(s:cY)(hs:s.ok)(v:s.kind=7):
 Calls prog 50 #[.pointer (some ⟨nb,0,none⟩),.agg (di s)] w (eA w nb V n):=by
 obtain⟨c,S⟩:=iF.mk' H b s;obtain⟨i,f⟩:=exq (bh s.side 2);obtain⟨k,g⟩:=exq (bh s.a 4);have hi:i<2:=by have:=eP s.side (p:=2) (by decide);omega
 have x:k<4:=by have:=eP s.a (p:=4) (by decide);omega
 have j:=J (eZ s.side 2 c hs.side.1 hs.side.2 (by decide) (by decide));have l:=J (eZ s.a 4 c hs.a.1 hs.a.2 (by decide) (by decide));rw[<-f]at j;rw[<-g]at l;clear f g;have E:(0:Int)<=i:=by omega
 have F:(i:Int)<2:=by omega
 have G:(0:Int)<=k:=by omega
 have I:(k:Int)<4:=by omega
 have L:1-i<2:=by omega
 have M:i≠1-i:=by omega
 have N:=K.ml;obtain⟨c0,c1,O,ce,cl⟩:=S.T.at_.nI hi x;obtain⟨d0,d1,d2,d3,d4⟩:=S.cells S.T;have y:=J (Ab c nb V S.T.at_ S.T.laid i hi n (K.ok hi) (by omega) s.s (by have:=hs.len;omega) (K.Ae hi s.s));have p:=J (λ(q:World)(h:∃r,bL c nb V {V with A:=ah V.A i r} q)=>(show eA w nb V n (.returned (.bool true)) q from h.elim (λr T=>S.fin H b T (n:=n) (by omega) (K.A _))));obtain⟨P,d⟩:=exq (eA w nb V n);rw[<-d]at p⊢;replace d:=J d;have t:=S.e;replace⟨S,H,b,K,hs⟩:=eR S H b K hs;obtain⟨kind,side,Q,R,str⟩:=s;simp only at *;subst v;unfold di at *;simp only at *;go_enter func50,ntmps50;go_upto_region 1 with fail;rw[<-t];clear t;go_upto_region 2 with(go_at_call 23;apply(Z j).mono;rintro e z⟨rfl,rfl⟩)
 go_upto_region 4 with(go_at_call 23;apply(Z l).mono;rintro e z⟨rfl,rfl⟩)
 go_wp2_with (go_at_call 84;apply(Z y).mono;rintro e B⟨rfl,C⟩;have u:=J (Z p B C));first|exact Z u|(go_ret;exact Z u)
def Q8(w:World)(nb:Nat)(V:Nw)(m:Nat->ai)(n:Nat)(H:bP w nb V)(c:Laid w)(K:bG V m n)(y:n<=40000)(s:cY)(hs:s.ok)(b:s.kind≠1/\s.kind≠2/\s.kind≠3/\s.kind≠4/\s.kind≠5/\s.kind≠7/\s.kind≠10):
 Calls prog 50 #[.pointer (some ⟨nb,0,none⟩),.agg (di s)] w (eA w nb V n):=by
 obtain⟨d,S⟩:=iF.mk' H c s;obtain⟨i,p⟩:=exq (bh s.side 2);obtain⟨k,q⟩:=exq (bh s.a 4);have hi:i<2:=by have:=eP s.side (p:=2) (by decide);omega
 have z:k<4:=by have:=eP s.a (p:=4) (by decide);omega
 have r:=J (eZ s.side 2 d hs.side.1 hs.side.2 (by decide) (by decide));have t:=J (eZ s.a 4 d hs.a.1 hs.a.2 (by decide) (by decide));rw[<-p]at r;rw[<-q]at t;clear p q;have G:(0:Int)<=i:=by omega
 have I:(i:Int)<2:=by omega
 have L:(0:Int)<=k:=by omega
 have M:(k:Int)<4:=by omega
 have N:1-i<2:=by omega
 have O:i≠1-i:=by omega
 have Q:=K.ml;obtain⟨c0,c1,R,ce,cl⟩:=S.T.at_.nI hi z;obtain⟨d0,d1,d2,d3,d4⟩:=S.cells S.T;have e1:(s.kind==1)=false:=by simpa using b.1
 have e2:(s.kind==2)=false:=by simpa using b.2.1
 have U:(s.kind==3)=false:=by simpa using b.2.2.1
 have W:(s.kind==4)=false:=by simpa using b.2.2.2.1
 have X:(s.kind==5)=false:=by simpa using b.2.2.2.2.1
 have Y:(s.kind==7)=false:=by simpa using b.2.2.2.2.2.1
 have e9:(s.kind==10)=false:=by simpa using b.2.2.2.2.2.2
 have f:=Q0 d nb V m n S.T.at_ S.T.laid K y s hs;unfold di at f;replace f:=J f;have u:=J (λ(e:Ending)(v:World)(h:eA d nb V n e v)=>(show e=.returned (.bool true)/\eA w nb V n (.returned (.bool true)) v from⟨h.1,rfl,h.2.elim (λA h=>h.elim (λB h=>h.elim (λC h=>⟨A,B,C,h.1,bL.pre H c S.g h.2.1,h.2.2⟩)))⟩));obtain⟨P,l⟩:=exq (eA w nb V n);rw[<-l]at u⊢;replace l:=J l;have x:=S.e;replace⟨S,H,c,K,hs⟩:=eR S H c K hs;obtain⟨kind,side,sa,aC,str⟩:=s;simp only at *;clear b;unfold di at *;simp only at *;go_enter func50,ntmps50;go_upto_region 1 with fail;rw[<-x];clear x;go_upto_region 2 with(go_at_call 23;apply(Z r).mono;rintro e D⟨rfl,rfl⟩)
 go_upto_region 4 with(go_at_call 23;apply(Z t).mono;rintro e D⟨rfl,rfl⟩)
 go_wp2_with (go_at_call 85;apply(Z f).mono;intro e E F;obtain⟨rfl,j⟩:=Z u e E F;replace j:=J j);first|exact Z j|(go_ret;exact Z j)
def Fq(w:World)(nb:Nat)(V:Nw)(m:Nat->ai)(n:Nat)(H:bP w nb V)(p:Laid w)(K:bG V m n)(hn:n<=39990)(s:cY)(hs:s.ok)(Q:Nw->Prop)(Y:s.kind=4)(v:∀(s0 s1:Sd)(d:Nat->Nat->Prop),(V.st 0).do ⟨4,0,0,0,⟨#[]⟩⟩=(⟨0,-1,0,0,[],[]⟩,.aE s0)->(V.st 1).do ⟨4,0,0,0,⟨#[]⟩⟩=(⟨0,-1,0,0,[],[]⟩,.aE s1)->bG {V with st:=ah (ah V.st 0 (.aE s0)) 1 (.aE s1),A:=d} m (n+1+1)->Q {V with st:=ah (ah V.st 0 (.aE s0)) 1 (.aE s1),A:=d}):
 Calls prog 50 #[.pointer (some ⟨nb,0,none⟩),.agg (di s)] w (nH w nb V Q):=by
 obtain⟨g,S⟩:=iF.mk' H p s;obtain⟨i,E⟩:=exq (bh s.side 2);obtain⟨k,F⟩:=exq (bh s.a 4);have hi:i<2:=by have:=eP s.side (p:=2) (by decide);omega
 have hk:k<4:=by have:=eP s.a (p:=4) (by decide);omega
 have G:=J (eZ s.side 2 g hs.side.1 hs.side.2 (by decide) (by decide));have I:=J (eZ s.a 4 g hs.a.1 hs.a.2 (by decide) (by decide));rw[<-E]at G;rw[<-F]at I;clear E F;have i0:(0:Int)<=i:=by omega
 have i1:(i:Int)<2:=by omega
 have k0:(0:Int)<=k:=by omega
 have k1:(k:Int)<4:=by omega
 have hj:1-i<2:=by omega
 have bt:i≠1-i:=by omega
 have hw:=K.ml;obtain⟨c0,c1,cx,ce,cl⟩:=S.T.at_.nI hi hk;obtain⟨d0,d1,d2,d3,d4⟩:=S.cells S.T;obtain⟨s0,q,y⟩:=K.Fg (i:=0) (j:=1) (by decide) (by decide) (by decide) (by omega);have h:=nG S.T (i:=0) (by decide) (K.ok (by decide)) (by omega) ⟨4,0,0,0,⟨#[]⟩⟩ (by simp[aS]) (iP _) q;have aC:=S.T.at_.x 0 (by decide);have L:=J (λ(W:World)(l:Nat->Prop)(T:bL g nb V {V with st:=ah V.st 0 (.aE s0),A:=ah V.A 0 l} W)=>(show(W.cell? ⟨nb,0,none⟩=some (.slice (some ⟨V.xr,0,none⟩) 2 V.xc)/\W.cell? ⟨V.xr,1,none⟩=some (.pointer (some ⟨V.xb 1,0,none⟩)))/\∃s1,Calls prog 28 #[.pointer (some ⟨V.xb 1,0,none⟩),.agg (cD ⟨4,0,0,0,⟨#[]⟩⟩)] W (mj g W nb V {V with st:=ah V.st 0 (.aE s0),A:=ah V.A 0 l} 1 ⟨0,-1,0,0,[],[]⟩ (.aE s1))/\∀d,bG {V with st:=ah (ah V.st 0 (.aE s0)) 1 (.aE s1),A:=d} m (n+1+1)/\Q {V with st:=ah (ah V.st 0 (.aE s0)) 1 (.aE s1),A:=d} by
  have M:=y (ah V.A 0 l);obtain⟨s1,N,f⟩:=M.Fg (i:=1) (j:=0) (by decide) (by decide) (by decide) (by omega);exact⟨⟨T.at_.c.1.1,T.at_.x 1 (by decide)⟩,s1,nG T (i:=1) (by decide) (M.ok (by decide)) (by omega) ⟨4,0,0,0,⟨#[]⟩⟩ (by simp[aS]) (iP _) N,λd=>⟨f d,v s0 s1 d q (by rw[<-N];rfl) (f d)⟩⟩))
 have O:=J (λ(W:World)(r:Nw)(T:bL g nb V r W)(R:bG r m (n+1+1)/\Q r)=>(show(W.cell? ⟨w.heap.size,0,none⟩=some (.int .i64 s.kind)/\W.cell? ⟨w.heap.size,1,none⟩=some (.int .i64 s.side)/\W.cell? ⟨w.heap.size,2,none⟩=some (.int .i64 s.a)/\W.cell? ⟨w.heap.size,3,none⟩=some (.int .i64 s.b)/\W.cell? ⟨w.heap.size,4,none⟩=some (.string s.s))/\Calls prog 85 #[.pointer (some ⟨nb,0,none⟩),.agg (di s)] W (λe U=>e=.returned (.bool true)/\nH w nb V Q (.returned (.bool true)) U) by
  refine⟨S.cells T,(Q5 W nb r m (n+1+1) T.at_ T.laid R.1 (by omega) s hs (by omega)).mono ?_⟩
  rintro e U⟨rfl,T'⟩;exact⟨rfl,S.Ac H p (T.trans T') R.2⟩))
 unfold mj cD at h;replace h:=J h;obtain⟨P,z⟩:=exq (nH w nb V Q);rw[<-z]at O⊢;replace z:=J z;have X:=S.e;replace⟨S,H,p,K,hs,v,y,q⟩:=qG S H p K hs v y q;obtain⟨kind,side,sa,bM,str⟩:=s;simp only at *;subst Y;unfold di at *;simp only at *;go_enter func50,ntmps50;go_upto_region 1 with fail;rw[<-X];clear X;go_upto_region 2 with(go_at_call 23;apply(Z G).mono;rintro e w2⟨rfl,rfl⟩)
 go_upto_region 4 with(go_at_call 23;apply(Z I).mono;rintro e w2⟨rfl,rfl⟩)
 go_upto_region 33 with(go_at_call 28;apply(Z h).mono;rintro e w3⟨a,m1,m2,l,rfl,-,B,-⟩)
 obtain⟨⟨y0,y1⟩,s1,t,f⟩:=Z L w3 l B;unfold mj cD at t;replace⟨t,B,f⟩:=cg t B f;clear h L c0 c1 cx ce cl d0 d1 d2 d3 d4 aC;go_upto_region 40 with(go_at_call 28;apply(Z t).mono;rintro e w4⟨a4,m3,m4,A4,rfl,-,C,-⟩)
 obtain⟨⟨d0,d1,d2,d3,d4⟩,D⟩:=Z O w4 _ C (Z f _);replace⟨D,C⟩:=bA D C;go_wp2_with (go_at_call 85;apply(Z D).mono;rintro e w6⟨rfl,u⟩;replace u:=J u);first|exact Z u|(go_ret;exact Z u)
def Q9(w:World)(nb:Nat)(V:Nw)(m:Nat->ai)(n:Nat)(H:bP w nb V)(a:Laid w)(K:bG V m n)(b:n<=39990)(s:cY)(hs:s.ok)(c:s.kind=4):
 Calls prog 50 #[.pointer (some ⟨nb,0,none⟩),.agg (di s)] w (eA w nb V n):=
 (Fq w nb V m n H a K b s hs _ c (λ_ _ _ _ _ h=>⟨_,_,aR _,h⟩)).mono (λ_ _ h=>h.post)
def Ra(w:World)(nb:Nat)(V:Nw)(m:Nat->ai)(n:Nat)(H:bP w nb V)(f:Laid w)(K:bG V m n)(R:n<=40000)(s:cY)(hs:s.ok)(U:s.kind=10):
 Calls prog 50 #[.pointer (some ⟨nb,0,none⟩),.agg (di s)] w (eA w nb V n):=by
 obtain⟨j,S⟩:=iF.mk' H f s;obtain⟨i,z⟩:=exq (bh s.side 2);obtain⟨k,B⟩:=exq (bh s.a 4);have hi:i<2:=by have:=eP s.side (p:=2) (by decide);omega
 have X:k<4:=by have:=eP s.a (p:=4) (by decide);omega
 have C:=J (eZ s.side 2 j hs.side.1 hs.side.2 (by decide) (by decide));have D:=J (eZ s.a 4 j hs.a.1 hs.a.2 (by decide) (by decide));rw[<-z]at C;rw[<-B]at D;clear z B;have i0:(0:Int)<=i:=by omega
 have i1:(i:Int)<2:=by omega
 have k0:(0:Int)<=k:=by omega
 have k1:(k:Int)<4:=by omega
 have E:1-i<2:=by omega
 have Y:i≠1-i:=by omega
 have hw:=K.ml;obtain⟨c0,c1,cx,ce,cl⟩:=S.T.at_.nI hi X;obtain⟨d0,d1,d2,d3,d4⟩:=S.cells S.T;obtain⟨c,F⟩:=exq (bh s.b 4);obtain⟨mo,q⟩:=exq (bh s.a 200);have G:c<4:=by have:=eP s.b (p:=4) (by decide);omega
 have bb:(mo:Int)<200:=by rw[q];exact eP s.a (by decide)
 have l:=λ(W:World)=>eZ s.b 4 W hs.b.1 hs.b.2 (by decide) (by decide)
 have p:=λ(W:World)=>eZ s.a 200 W hs.a.1 hs.a.2 (by decide) (by decide)
 rw[<-F]at l;rw[<-q]at p;replace⟨l,p⟩:=bA l p;clear F q;obtain⟨I,N,code,data,r,t,bj,-,u⟩:=K.Fi hi E Y R G (p:=(mo:Int)) (by omega);have hC:=J (λ(W:World)(g:j.grownBy W none)=>Fc W nb V (S.T.gb g).at_ (S.T.gb g).laid i (1-i) hi E (by omega) n (K.ok hi) (by omega) c G (mo:Int) (by omega) N code data (.aE I) r t (by omega));have L:=J (λ(W M:World)(g:j.grownBy W none)(h:∃v,bL W nb V {V with st:=ah V.st i (.aE I),A:=ah V.A i v,e:=eD V.e (1-i) c {V.e (1-i) c with read:=(V.e (1-i) c).read+data.length,state:=N}} M)=>(show eA w nb V n (.returned (.bool true)) M from h.elim (λv T=>(u (ah V.A i v)).elim (λm' ax=>S.fin H f ((S.T.gb g).trans T) (n:=n) (bZ (n+1)) ax.1))));obtain⟨P,x⟩:=exq (eA w nb V n);rw[<-x]at L⊢;replace x:=J x;have O:=S.e;replace⟨S,H,f,K,hs,u,r,t⟩:=qG S H f K hs u r t;obtain⟨kind,side,sa,bx,str⟩:=s;simp only at *;subst U;unfold di at *;simp only at *;go_enter func50,ntmps50;go_upto_region 1 with fail;rw[<-O];clear O;go_upto_region 2 with(go_at_call 23;apply(Z C).mono;rintro e y⟨rfl,rfl⟩)
 go_upto_region 4 with(go_at_call 23;apply(Z D).mono;rintro e y⟨rfl,rfl⟩)
 go_upto_region 37 with fail;go_region_with (first
  |(go_at_call 23;with_reducible apply(Z l _).mono;rintro e y⟨rfl,d⟩;rw[d];clear d)
  |(go_at_call 23;with_reducible apply(Z p _).mono;rintro e y⟨rfl,d⟩;rw[d];clear d)
  |(go_at_call 83;apply(Z hC _ (aV (aB _ none))).mono;rintro e w6⟨rfl,h6⟩;have Q:=J (Z L _ w6 (aV (aB _ none)) h6)))
 all_goals
  go_wp2_with fail
  first|exact Z Q|(go_ret;exact Z Q)
def Rb(w:World)(nb:Nat)(V:Nw)(m:Nat->ai)(n:Nat)(H:bP w nb V)(b:Laid w)(K:bG V m n)(j:n<=39990)(s:cY)(hs:s.ok):
 Calls prog 50 #[.pointer (some ⟨nb,0,none⟩),.agg (di s)] w (eA w nb V n):=by
 have c:n<=40000:=by omega
 by_cases f:s.kind=1;cases d:((V.e (bh s.side 2) (bh s.a 4)).finished||(V.e (bh s.side 2) (bh s.a 4)).given);exact QP w nb V m n H b K c s hs f d;exact QN w nb V m n H b K c s hs f d;by_cases g:s.kind=2;cases d:((V.e (bh s.side 2) (bh s.a 4)).finished||(V.e (bh s.side 2) (bh s.a 4)).given);exact Q4 w nb V m n H b K c s hs g d;exact Q1 w nb V m n H b K c s hs g d;by_cases k3:s.kind=3;cases d:(V.e (bh s.side 2) (bh s.a 4)).given;exact Q3 w nb V m n H b K c s hs k3 d;exact Q2 w nb V m n H b K c s hs k3 d;by_cases k4:s.kind=4;exact Q9 w nb V m n H b K j s hs k4;by_cases k5:s.kind=5;exact Q6 w nb V m n H b K c s hs k5;by_cases h:s.kind=7;exact Q7 w nb V m n H b K c s hs h;by_cases i:s.kind=10;exact Ra w nb V m n H b K c s hs i;exact Q8 w nb V m n H b K c s hs ⟨f,g,k3,k4,k5,h,i⟩
def End.zero:End:=⟨⟨#[]⟩,false,false,0,0,0,0⟩
def cI.start:cI (ai.new p q L B) (ai.new p q L (!B)):=by
 refine⟨rfl,?_,rfl,λx a=>(by cases a),λx a=>(by cases a),λx a=>(by cases a),λx a=>(by cases a),λk c=>?_,λn d=>?_,λx a=>(by cases a),λk c m b=>?_⟩
 cases B<;>rfl;refine⟨λm b=>?_,cS _,λe=>(by cases e),λe=>(by cases e),λe=>?_,λe=>?_,.inl rfl⟩
 simp[ai.new,aN.new]at b;simp[ai.new,aN.new]at e;simp[ai.new,aN.new]at e;exact absurd d (fU n);exact absurd b (fU m)
def bG.start(h:64<=p/\p<=300/\16<=r/\r<=1024)(b:dD X.key)(a:X.aj=p/\X.ag=r)(l:∀i,i<2->X.st i=.aE (Sd.new p r X.key (decide (i=0))))(m:∀i k,i<2->k<4->X.e i k=End.zero)(d:X.aI=[])(n:∀i,i<2->X.bf i=0):bG X (λi=>ai.new p r X.key (decide (i=0))) 0:=by
 have f:jP p r:=by unfold jP;omega
 refine⟨λi hi=>⟨_,l i hi,Px f,OE f b 0⟩,λi j hi s t=>?_,λi j hi s t k b=>?_,λx g=>(by rw[d]at g;cases g),by rw[d];exact iP _,λi hi=>⟨n i hi,a.1.symm,a.2.symm,rfl,?_⟩,by rw[a.1,a.2];exact h⟩
 have e:decide (j=0)= !decide (i=0):=by
  have c:i=0\/i=1:=by omega
  obtain q|q:=c<;>subst q<;>simp<;>omega
 simp only[e]
 exact cI.start;rw[m i k hi b];exact⟨rfl,rfl,rfl,λe=>(by cases e),rfl,rfl,cS _,by simp[End.zero,ai.new,da.new,cQ.xx,cQ.eM]⟩
 have c:i=0\/i=1:=by omega
 obtain q|q:=c<;>subst q<;>rfl
def nJ(V:Nw)(a ve vc:Value):Array Value:=(([a,ve,.int .i64 V.aj,.int .i64 V.ag]:List Value)++bv V.key++[.slice none 0 0,vc]).toArray
def mT(nb c:Nat)(V:Nw)(d ve vc:Value)(k:Nat):Prop:=k=nb\/d.ownBlock=some k\/ve.ownBlock=some k\/vc.ownBlock=some k\/(∃a,a<c/\k=V.el a)\/∃a b,a<c/\b<4/\k=V.eb a b
def tf(V:Nw)(n:Nat):List Value:=(List.range n).map (λa=>.slice (some ⟨V.el a,0,none⟩) 4 (V.lc a))
structure Bd(w:World)(nb f d ic:Nat)(V:Nw)(g ve vc:Value):Prop where
 aP:w.heap[nb]?=some (.cells (nJ V g ve vc) 80 (0,0))
 key:dD V.key
 x:w.ownsRow 0 33 1 g f (ou V.xb f)
 e:w.ownsRow 0 141 1 ve d (tf V d)
 c:w.ownsRow 0 30 1 vc ic (List.replicate ic (.int .u64 0))
 lc:∀a,a<d->4<=V.lc a/\V.lc a<=maxLen
 tl:∀a,a<d->Ty w (V.el a) 140
 el:∀a,a<d->∀b,b<4->w.cell? ⟨V.el a,b,none⟩=some (.pointer (some ⟨V.eb a b,0,none⟩))
 en:∀a,a<d->∀b,b<4->w.heap[V.eb a b]?=some (.cells (ph End.zero) 143 (0,0))
 ed:∀a b k l,a<d->b<d->k<4->l<4->V.eb a k=V.eb b l->a=b/\k=l
 side:∀a,a<f->b9 w (V.xb a) (V.sb a) (V.st a) (V.A a)
 apart:∀a b,a<f->b<f->a≠b->∀k,V.A a k->¬V.A b k
 own:∀k,mT nb d V g ve vc k->k≠0/\∀a,a<f->¬V.A a k
def Bd.fc{vc:Value}(h:Bd w n i j l X y z vc)(k:Nat)(f:mT n j X y z vc k):k<w.heap.size:=by
 obtain rfl|e|e|e|⟨a,d,rfl⟩|⟨a,b,d,aa,rfl⟩:=f
 exact(aZ.1 h.aP).1;exact(iY h.x k e).lt;exact(iY h.e k e).lt;exact(iY h.c k e).lt;exact(h.tl a d).lt;exact(aZ.1 (h.en a d b aa)).1
def Bd.an{vc:Value}(h:Bd w i j l m X y z vc)(g:w.grownBy W none):Bd W i j l m X y z vc:=by
 have C:=ao.of g;have n:∀k:Nat,¬((none:Option Nat)=some k):=λk e=>by cases e
 exact⟨(C.block _ (h.fc i (.inl rfl)) (n _)).trans h.aP,h.key,kM h.x C (λk _=>n k),kM h.e C (λk _=>n k),kM h.c C (λk _=>n k),h.lc,λa d=>(h.tl a d).av C (n _),λa d b f=>C.cell (h.el a d b f) (n _),λa d b f=>(C.block _ (h.fc _ (.inr (.inr (.inr (.inr (.inr ⟨a,b,d,f,rfl⟩)))))) (n _)).trans (h.en a d b f),h.ed,λa d=>(h.side a d).an g,h.apart,h.own⟩
def ks(b:∀k,x.ownBlock=some k->Ty w k T)(c:Ty w n 80){t:TypeId}(d:t≠T)(f:t≠80)(a:Ty w k t):¬(x.ownBlock=some k\/k=n):=λe=>e.elim (λe=>a.ne (b k e) d rfl) (λe=>a.ne c f e)
def Af(V:Nw)(b:dD V.key)(a ve vc v:Value):(nJ V a ve vc).setIfInBounds 0 v=nJ V v ve vc/\(nJ V a ve vc).setIfInBounds 1 v=nJ V a v vc/\(nJ V a ve vc).setIfInBounds 21 v=nJ V a ve v:=by
 obtain⟨_,_,_,_,_,_,_,_,_,_,_,_,_,_,_,_,e⟩:=xk (bv V.key) (by rw[fL,b.1]);unfold nJ;rw[e];exact⟨rfl,rfl,rfl⟩
structure qh(w b:World)(nb:Nat)(v a:Value):Prop where
 g:w.grownBy b v.ownBlock
 ho:a.ownBlock=v.ownBlock\/a.ownBlock=some w.heap.size
 nn:v.ownBlock≠some nb
 nb:nb<w.heap.size
def qh.av(h:qh w W n x y)(o:Nat):ao w (W.setCell ⟨n,o,none⟩ y) (λk=>x.ownBlock=some k\/k=n):=(ao.of h.g).trans (oD W n o y)
def qh.own(h:qh w W i x y)(o:Nat){l:List Value}(a:W.ownsRow 0 T 1 y n l):(W.setCell ⟨i,o,none⟩ y).ownsRow 0 T 1 y n l:=by
 refine kM a (oD W i o y) (λk e e2=>?_);subst e2;obtain q|q:=h.ho
 exact h.nn (q▸e);rw[e]at q;have:=aQ q;have:=h.nb;omega
def Bd.Rc{ve vc f:Value}(h:Bd w n i i i X y ve vc)(v:b9 w j l I S)(m:∀k,S k->¬mT n i X y ve vc k/\∀a,a<i->¬X.A a k)(B:qh w W n y f)(F:W.ownsRow 0 33 1 f (i+1) (ou X.xb i++[.pointer (some ⟨j,0,none⟩)])):
 Bd (W.setCell ⟨n,0,none⟩ f) n (i+1) i i {X with xb:=ah X.xb i j,sb:=ah X.sb i l,st:=ah X.st i I,A:=ah X.A i S} f ve vc:=by
 have C:=B.av 0;have s:∀k,y.ownBlock=some k->Ty w k 33:=iY h.x;have t:Ty w n 80:=⟨_,_,h.aP⟩
 have D:∀k,(y.ownBlock=some k\/k=n)->mT n i X y ve vc k:=λk e=>e.elim (λe=>.inr (.inl e)) .inl
 have b1:=(B.g.block n B.nb (λe=>B.nn e.symm)).trans h.aP;have G:∀k,mT n i X f ve vc k->¬S k:=λk p e=>by
  obtain q|q|q|q|q|q:=p
  exact(m k e).1 (.inl q);obtain z|z:=B.ho
  exact(m k e).1 (.inr (.inl (z▸q)));rw[q]at z;have:=aQ z;have:=v.lt k e;omega;exact(m k e).1 (.inr (.inr (.inl q)));exact(m k e).1 (.inr (.inr (.inr (.inl q))));exact(m k e).1 (.inr (.inr (.inr (.inr (.inl q)))));exact(m k e).1 (.inr (.inr (.inr (.inr (.inr q)))))
 refine⟨?_,h.key,?_,kM h.e C (λk e=>ks s t (by decide) (by decide) (iY h.e k e)),kM h.c C (λk e=>ks s t (by decide) (by decide) (iY h.c k e)),h.lc,λa d=>(h.tl a d).av C (ks s t (by decide) (by decide) (h.tl a d)),λa d b r=>C.cell (h.el a d b r) (ks s t (by decide) (by decide) (h.tl a d)),λa d b r=>(C.block _ (h.fc _ (.inr (.inr (.inr (.inr (.inr ⟨a,b,d,r,rfl⟩)))))) (ks s t (by decide) (by decide) ⟨_,_,h.en a d b r⟩)).trans (h.en a d b r),h.ed,λa d=>?_,λa b d r E k p=>?_,λk p=>⟨?_,λa d=>?_⟩⟩
 have:=heap_set (o:=0) b1 f;rw[(Af X h.key y ve vc f).1]at this;exact this;show(W.setCell ⟨n,0,none⟩ f).ownsRow 0 _ 1 f (i+1) (ou (ah X.xb i j) (i+1));rw[EH];exact B.own 0 F;show b9 _ (ah X.xb i j a) (ah X.sb i l a) (ah X.st i I a) (ah X.A i S a);by_cases e:a=i;subst e;simp only[bk]
 exact v.other C (λk _ e d=>(m k d).1 (D k e));simp only[bm _ _ e]
 exact(h.side a (by omega)).other C (λk _ e H=>(h.own k (D k e)).2 a (by omega) H);have u:ah X.A i S a k:=p;show¬ah X.A i S b k;by_cases e:a=i;subst e;rw[bk]at u;rw[bm _ _ (λq=>E q.symm)];exact(m k u).2 b (by omega);rw[bm _ _ e]at u;by_cases e2:b=i;subst e2;rw[bk];exact λq=>(m k q).2 a (by omega) u
 rw[bm _ _ e2];exact h.apart a b (by omega) (by omega) E k u;obtain q|q|q|q|q|q:=p
 exact(h.own k (.inl q)).1;obtain z|z:=B.ho
 exact(h.own k (.inr (.inl (z▸q)))).1;rw[q]at z;have:=aQ z;have:=B.nb;omega;exact(h.own k (.inr (.inr (.inl q)))).1;exact(h.own k (.inr (.inr (.inr (.inl q))))).1;exact(h.own k (.inr (.inr (.inr (.inr (.inl q)))))).1;exact(h.own k (.inr (.inr (.inr (.inr (.inr q)))))).1;show¬ah X.A i S a k;by_cases e:a=i;subst e;rw[bk];exact G k p;rw[bm _ _ e];obtain q|q|q|q|q|q:=p
 exact(h.own k (.inl q)).2 a (by omega);obtain z|z:=B.ho
 exact(h.own k (.inr (.inl (z▸q)))).2 a (by omega);rw[q]at z;have:=aQ z;intro K;have:=(h.side a (by omega)).lt k K;omega;exact(h.own k (.inr (.inr (.inl q)))).2 a (by omega);exact(h.own k (.inr (.inr (.inr (.inl q))))).2 a (by omega);exact(h.own k (.inr (.inr (.inr (.inr (.inl q)))))).2 a (by omega);exact(h.own k (.inr (.inr (.inr (.inr (.inr q)))))).2 a (by omega)
def Re(V:Nw)(j g c:Nat)(b:Nat->Nat):tf {V with el:=ah V.el j g,lc:=ah V.lc j c,eb:=ah V.eb j b} (j+1)=tf V j++[.slice (some ⟨g,0,none⟩) 4 c]:=by
 unfold tf;rw[vy,mY];congr 1;refine xQ (λa d=>?_);have:=List.mem_range.1 d;simp only[bm _ _ (show a≠j by omega)]
 simp[bk]
structure qU(N:Nat)(w:World)(k:Nat)(d:Value)(c:Nat->Nat):Prop where
 row:w.ownsRow 0 140 1 d k (ou c k)
 en:∀b,b<k->w.heap[c b]?=some (.cells (ph End.zero) 143 (0,0))
 inj:∀a b,a<k->b<k->c a=c b->a=b
 new:(∀b,b<k->N<=c b)/\∀q,d.ownBlock=some q->N<=q
def Bd.Rf{vc r:Value}{p:Nat->Nat}(h:Bd w n (i+1) i i X y z vc)(L:qU k w 4 (.slice (some ⟨j,0,none⟩) 4 m) p)(I:∀d,k<=d->¬mT n i X y z vc d/\∀a,a<i+1->¬X.A a d)(al:0<k)(B:qh w W n z r)(N:W.ownsRow 0 141 1 r (i+1) (tf X i++[.slice (some ⟨j,0,none⟩) 4 m])):
 Bd (W.setCell ⟨n,1,none⟩ r) n (i+1) (i+1) i {X with el:=ah X.el i j,lc:=ah X.lc i m,eb:=ah X.eb i p} y r vc:=by
 have C:=B.av 1;have s:∀d,z.ownBlock=some d->Ty w d 141:=iY h.e;have t:Ty w n 80:=⟨_,_,h.aP⟩
 have O:∀d,(z.ownBlock=some d\/d=n)->mT n i X y z vc d:=λd e=>e.elim (λe=>.inr (.inr (.inl e))) .inl
 have b1:=(B.g.block n B.nb (λe=>B.nn e.symm)).trans h.aP;have G:Ty w j 140:=iY L.row j rfl;obtain⟨a0,c0,e0,P,z2,-,Q⟩:=qP L.row;obtain⟨R,-,ec⟩:=js e0;have S:=(Q _ R.symm).2;subst ec;refine⟨?_,h.key,kM h.x C (λd e=>ks s t (by decide) (by decide) (iY h.x d e)),?_,kM h.c C (λd e=>ks s t (by decide) (by decide) (iY h.c d e)),λa g=>?_,λa g=>?_,λa g b f=>?_,λa g b f=>?_,λa b d l g f u hl e=>?_,λa g=>(h.side a g).other C (λd _ e H=>(h.own d (O d e)).2 a g H),h.apart,λd u=>?_⟩
 have:=heap_set (o:=1) b1 r;rw[(Af X h.key y z vc r).2.1]at this;exact this;rw[Re];exact B.own 1 N;show 4<=ah X.lc i m a/\ah X.lc i m a<=maxLen;by_cases e:a=i;subst e;rw[bk];exact⟨P,z2⟩
 rw[bm _ _ e];exact h.lc a (by omega);show Ty _ (ah X.el i j a) _;by_cases e:a=i;subst e;rw[bk];exact G.av C (ks s t (by decide) (by decide) G);rw[bm _ _ e];exact(h.tl a (by omega)).av C (ks s t (by decide) (by decide) (h.tl a (by omega)));show(W.setCell ⟨n,1,none⟩ r).cell? ⟨ah X.el i j a,b,none⟩=some (.pointer (some ⟨ah X.eb i p a b,0,none⟩));by_cases e:a=i;subst e;rw[bk,bk];refine C.cell ?_ (ks s t (by decide) (by decide) G);have:(ou p 4)[b]?=some (.pointer (some ⟨p b,0,none⟩)):=by unfold ou;simp[f]
 have q:=S b _ this;rw[dY]at q;exact q;rw[bm _ _ e,bm _ _ e];exact C.cell (h.el a (by omega) b f) (ks s t (by decide) (by decide) (h.tl a (by omega)));show(W.setCell ⟨n,1,none⟩ r).heap[ah X.eb i p a b]?=_;by_cases e:a=i;subst e;rw[bk];exact(C.block _ (aZ.1 (L.en b f)).1 (ks s t (by decide) (by decide) ⟨_,_,L.en b f⟩)).trans (L.en b f);rw[bm _ _ e];exact(C.block _ (aZ.1 (h.en a (by omega) b f)).1 (ks s t (by decide) (by decide) ⟨_,_,h.en a (by omega) b f⟩)).trans (h.en a (by omega) b f);have e:ah X.eb i p a d=ah X.eb i p b l:=e;have K:∀D E,D<i->E<4->∀F,F<4->p F≠X.eb D E:=λD E H T F U q=>(I _ (L.new.1 F U)).1 (.inr (.inr (.inr (.inr (.inr ⟨D,E,H,T,q⟩)))))
 by_cases e1:a=i;by_cases e2:b=i;subst e1;subst e2;rw[bk]at e;exact⟨rfl,L.inj d l u hl e⟩
 subst e1;rw[bk,bm _ _ e2]at e;exact absurd e (K b l (by omega) hl d u);by_cases e2:b=i;subst e2;rw[bk,bm _ _ e1]at e;exact absurd e.symm (K a d (by omega) u l hl);rw[bm _ _ e1,bm _ _ e2]at e;exact h.ed a b d l (by omega) (by omega) u hl e;have M:∀q,k<=q->q≠0/\∀a,a<i+1->¬X.A a q:=λq V=>⟨by omega,(I q V).2⟩
 obtain q|q|q|q|⟨a,g,q⟩|⟨a,b,g,f,q⟩:=u
 exact h.own d (.inl q);exact h.own d (.inr (.inl q));obtain v|v:=B.ho
 exact h.own d (.inr (.inr (.inl (v▸q))));rw[q]at v;have v:=aQ v;refine⟨by have:=B.nb;omega,λa g Y=>?_⟩
 have:=(h.side a g).lt d Y;omega;exact h.own d (.inr (.inr (.inr (.inl q))));have q:d=ah X.el i j a:=q;by_cases e:a=i;subst e;rw[bk]at q;exact M d (by rw[q];exact L.new.2 j rfl);rw[bm _ _ e]at q;exact h.own d (.inr (.inr (.inr (.inr (.inl ⟨a,by omega,q⟩)))));have q:d=ah X.eb i p a b:=q;by_cases e:a=i;subst e;rw[bk]at q;exact M d (by rw[q];exact L.new.1 b f);rw[bm _ _ e]at q;exact h.own d (.inr (.inr (.inr (.inr (.inr ⟨a,b,by omega,f,q⟩)))))
def Bd.Rh{vc f:Value}(h:Bd w n (i+1) (i+1) i X y z vc)(B:qh w W n vc f)(r:W.ownsRow 0 30 1 f (i+1) (List.replicate i (.int .u64 0)++[.int .u64 0])):
 Bd (W.setCell ⟨n,21,none⟩ f) n (i+1) (i+1) (i+1) X y z f:=by
 have C:=B.av 21;have j:∀k,vc.ownBlock=some k->Ty w k 30:=iY h.c;have l:Ty w n 80:=⟨_,_,h.aP⟩
 have s:∀k,(vc.ownBlock=some k\/k=n)->mT n (i+1) X y z vc k:=λk e=>e.elim (λe=>.inr (.inr (.inr (.inl e)))) .inl
 have b1:=(B.g.block n B.nb (λe=>B.nn e.symm)).trans h.aP;refine⟨?_,h.key,kM h.x C (λk e=>ks j l (by decide) (by decide) (iY h.x k e)),kM h.e C (λk e=>ks j l (by decide) (by decide) (iY h.e k e)),?_,h.lc,λa d=>(h.tl a d).av C (ks j l (by decide) (by decide) (h.tl a d)),λa d b m=>C.cell (h.el a d b m) (ks j l (by decide) (by decide) (h.tl a d)),λa d b m=>(C.block _ (h.fc _ (.inr (.inr (.inr (.inr (.inr ⟨a,b,d,m,rfl⟩)))))) (ks j l (by decide) (by decide) ⟨_,_,h.en a d b m⟩)).trans (h.en a d b m),h.ed,λa d=>(h.side a d).other C (λk _ e t=>(h.own k (s k e)).2 a d t),h.apart,λk u=>?_⟩
 have:=heap_set (o:=21) b1 f;rw[(Af X h.key y z vc f).2.2]at this;exact this;have e:List.replicate (i+1) (Value.int .u64 0)=List.replicate i (.int .u64 0)++[.int .u64 0]:=List.replicate_succ';rw[e];exact B.own 21 r;obtain q|q|q|q|q|q:=u
 exact h.own k (.inl q);exact h.own k (.inr (.inl q));exact h.own k (.inr (.inr (.inl q)));obtain p|p:=B.ho
 exact h.own k (.inr (.inr (.inr (.inl (p▸q)))));rw[q]at p;have p:=aQ p;refine⟨by have:=B.nb;omega,λa d v=>?_⟩
 have:=(h.side a d).lt k v;omega;exact h.own k (.inr (.inr (.inr (.inr (.inl q)))));exact h.own k (.inr (.inr (.inr (.inr (.inr q)))))
def Bd.done{vc:Value}(h:Bd w n 2 2 2 X y z vc):∃xr xc er ec cr cc,bP w n {X with xr:=xr,xc:=xc,er:=er,ec:=ec,cr:=cr,cc:=cc,e:=λ_ _=>End.zero,bf:=λ_=>0,aI:=[],vb:=.slice none 0 0}:=by
 obtain⟨r,xc,f,s,t,u,v⟩:=qP h.x;obtain⟨ae,ec,g,e1,e2,A,B⟩:=qP h.e;obtain⟨-,⟨-,C⟩|⟨cr,cc,j,eq,-,D,c1,c2,c3,c4⟩⟩:=h.c;cases C;cases r with
 |none=>have:=(u rfl).1;omega
 |some m=>
  cases ae with
  |none=>have:=(A rfl).1;omega
  |some p=>
   obtain⟨gx,E⟩:=v m rfl;obtain⟨ge,F⟩:=B p rfl;have I:=h.own n (.inl rfl);refine⟨m.block,xc,p.block,ec,cr,cc,?_,h.key,⟨⟨s,t⟩,⟨e1,e2⟩,⟨c1,c2⟩,h.lc⟩,iY h.x _ (by rw[f];rfl),λi hi=>?_,iY h.e _ (by rw[g];rfl),λi hi=>?_,h.tl,h.el,λi hi k l=>h.en i hi k l,h.ed,⟨j,D,λi hi=>?_⟩,oJ _ _ _ _,h.side,h.apart,λk l=>?_⟩
   have d:=h.aP;rw[f,g,eq,gx,ge]at d;exact d;have:=E i (.pointer (some ⟨X.xb i,0,none⟩)) (by unfold ou;simp[hi]);rw[dY]at this;exact this;have:=F i (.slice (some ⟨X.el i,0,none⟩) 4 (X.lc i)) (by unfold tf;simp[hi]);rw[dY]at this;exact this;have G:(j.toList.take (2*1))[i]?=j.toList[i]? :=by rw[jI,iP_]
   rw[<-qq,<-G,c4,xM,aD hi];obtain q|q|q|q|q|⟨a,b,H,d,q⟩|q:=l
   exact h.own k (.inl q);exact h.own k (.inr (.inl (by rw[f,q];rfl)));exact h.own k (.inr (.inr (.inl (by rw[g,q];rfl))));exact h.own k (.inr (.inr (.inr (.inl (by rw[eq,q];rfl)))));exact h.own k (.inr (.inr (.inr (.inr (.inl q)))));exact h.own k (.inr (.inr (.inr (.inr (.inr ⟨a,b,H,d,q⟩)))));cases q
def xI{e:TypeId}(ty:TypeId)(t:prog.underlying T=some (.slice e))(y:(prog.info? e).map (λi=>(i.zero,i.size,i.bytes))=some (some z,1,k))(A:z.cells.size=1)(B:k<=24)(v:Value)(n:Nat)(l:List Value)(C:w.ownsRow 0 e 1 v n l)(b c:Nat)(u:Value)(h0:w.cell? ⟨b,0,none⟩=some u)(D:u.oneCell'=true)(K:n<=1000):
 ∃d f h a,(Builtin.append_ #[T,T] ty #[v,.slice (some ⟨b,0,none⟩) 1 c]).run prog w=.ok (.slice d f h) a/\a.ownsRow 0 e 1 (.slice d f h) (n+1) (l++[u])/\w.grownBy a v.ownBlock/\((Value.slice d f h).ownBlock=v.ownBlock\/(Value.slice d f h).ownBlock=some w.heap.size):=by
 obtain⟨E,hi,F,G,H⟩:=lD y;obtain⟨L,a,p,m,q,_,r⟩:=run_append_own_at (P:=prog) w 0 T ty e E _ 1 k t hi F G H A (by omega) v n l C ⟨b,0,none⟩ 1 c [u] (by simp) (λj x s=>by
  cases j with
  |zero=>rw[Addr.add_mid,dY];rw[h0];exact s
  |succ j=>simp at s) (λx I=>by rw[cL.1 I];exact D) (by simp[maxLen];omega) (by
  have:(n+1)*k<=1001*24:=Nat.mul_le_mul (by omega) B;omega) (iP _)
 obtain⟨-,⟨rfl,e2⟩|⟨g,cap,M,rfl,_⟩⟩:=id m;exact⟨_,_,_,a,p,m,q,r⟩
 exact⟨_,_,_,a,p,m,q,r⟩
def Ri:(prog.info? 33).map (λi=>(i.zero,i.size,i.bytes))=some (some (.pointer none),1,8):=by kernel_rfl
def Rj:(prog.info? 140).map (λi=>(i.zero,i.size,i.bytes))=some (some (.pointer none),1,8):=by kernel_rfl
def Rk:(prog.info? 141).map (λi=>(i.zero,i.size,i.bytes))=some (some (.slice none 0 0),1,24):=by kernel_rfl
def Rl:(prog.info? 30).map (λi=>(i.zero,i.size,i.bytes))=some (some (.int .u64 0),1,8):=by kernel_rfl
def qU.step{wr:World}{d:Nat->Nat}(h:qU w.heap.size wr k x d)(g:w.grownBy wr none)(f:wr.grownBy W none)(c:W.heap[wr.heap.size]?=some (.cells (ph End.zero) 143 (0,0)))(l:W.grownBy v x.ownBlock)(r:v.ownsRow 0 140 1 y (k+1) (ou d k++[.pointer (some ⟨wr.heap.size,0,none⟩)]))(ho:y.ownBlock=x.ownBlock\/y.ownBlock=some W.heap.size):
 qU w.heap.size v (k+1) y (ah d k wr.heap.size)/\w.grownBy v none:=by
 have C:=ao.of l;have s:=g.size;have A:=f.size;have t:∀q,x.ownBlock=some q->Ty W q 140:=λq e=>(iY h.row q e).av (ao.of f) (λe=>by cases e)
 have m:∀{q:Nat},Ty W q 143->¬(x.ownBlock=some q):=λu e=>u.ne (t _ e) (by decide) rfl
 refine⟨⟨by rw[EH];exact r,λb n=>?_,λa b B n e=>?_,λb n=>?_,λq e=>?_⟩,cJ (aq g f) l (λq e=>.inl (by have:=h.new.2 q e;exact this))⟩
 by_cases e:b=k;subst e;rw[bk];exact(C.block _ (aZ.1 c).1 (m ⟨_,_,c⟩)).trans c;rw[bm _ _ e];have q:=h.en b (by omega);have z:=(ao.of f).block _ (aZ.1 q).1 (λe=>by cases e);have j:=z.trans q;exact(C.block _ (aZ.1 j).1 (m ⟨_,_,j⟩)).trans j;have p:∀b,b<k->d b<wr.heap.size:=λb c=>(aZ.1 (h.en b c)).1
 by_cases e1:a=k;by_cases e2:b=k;omega;subst e1;rw[bk,bm _ _ e2]at e;have:=p b (by omega);omega;by_cases e2:b=k;subst e2;rw[bk,bm _ _ e1]at e;have:=p a (by omega);omega;rw[bm _ _ e1,bm _ _ e2]at e;exact h.inj a b (by omega) (by omega) e;by_cases e:b=k;subst e;rw[bk];exact s;rw[bm _ _ e];exact h.new.1 b (by omega);obtain i|i:=ho
 exact h.new.2 q (i▸e);rw[e]at i;have:=aQ i;omega
def gH:List Int:=[3,1,4,1,5,0,0,0,0,0,0,0,0,0,0,0]
def Ag:dD gH:=⟨rfl,λx a=>by simp[gH]at a;unfold W8;omega⟩
structure Rm(V:Nw)(aj ag:Int)(i:Nat):Prop where
 m:V.aj=aj/\V.ag=ag/\V.key=gH
 st:∀a,a<i->V.st a=.aE (Sd.new aj ag gH (decide (a=0)))
structure jT(b wr:World)(nb c d ic:Nat)(V:Nw)(e ve vc:Value)(aj ag:Int):Prop where
 bd:Bd wr nb c d ic V e ve vc
 p:Rm V aj ag c
 g:b.grownBy wr none
 lo:∀k,mT nb d V e ve vc k->b.heap.size<=k
 laid:Laid wr
 la:∀a,a<c->∀k,V.A a k->b.heap.size<=k
def jT.an{wr:World}(h:jT w wr n k i j X x y z q r)(g:wr.grownBy W none):jT w W n k i j X x y z q r:=⟨h.bd.an g,h.p,aq h.g g,h.lo,h.laid.gb g,h.la⟩
def Bd.oE(h:Bd w n k i l X x y z):(w.cell? ⟨n,0,none⟩=some x/\w.cell? ⟨n,1,none⟩=some y/\w.cell? ⟨n,21,none⟩=some z)/\(∀o,w.frozen? ⟨n,o,none⟩=false)/\w.rangeAt n 4 (bv X.key):=by
 obtain⟨_,_,_,_,_,_,_,_,_,_,_,_,_,_,_,_,e⟩:=xk (bv X.key) (by rw[fL,h.key.1]);have a:=h.aP;unfold nJ at a;refine⟨⟨?_,?_,?_⟩,λo=>by simp[World.frozen?,a],λj u b=>?_⟩
 rw[ba a];rfl;rw[ba a];rfl;rw[ba a,e];rfl;have c:j<16:=by have:=(kQ.1 b).1;rw[fL,h.key.1]at this;exact this
 rw[ba a,ts,mm (by rw[bH,fL,h.key.1];simp;omega),mW (by simp)];simpa using b
def Bd.Ah{v a:Value}(h:Bd w k i j m X x y z)(b:T≠80){l:List Value}(c:w.ownsRow 0 T 1 v n l)(g:w.grownBy W v.ownBlock)(ho:a.ownBlock=v.ownBlock\/a.ownBlock=some w.heap.size):qh w W k v a:=
 ⟨g,ho,λe=>(iY c k e).ne ⟨_,_,h.aP⟩ b rfl,h.fc k (.inl rfl)⟩
def jT.app{b:World}{v a:Value}(h:jT W w n i j l X x y z p r)(c:∀k,v.ownBlock=some k->mT n j X x y z k)(B:qh w b n v a)(o:Nat):W.grownBy (b.setCell ⟨n,o,none⟩ a) none/\Laid (b.setCell ⟨n,o,none⟩ a)/\∀k,a.ownBlock=some k->W.heap.size<=k:=by
 have C:=B.av o;have d:∀k,(v.ownBlock=some k\/k=n)->mT n j X x y z k:=λk e=>e.elim (c k) .inl
 refine⟨?_,h.laid.av C (λe=>(h.bd.own 0 (d 0 e)).1 rfl),λk e=>?_⟩
 refine⟨C.os.trans h.g.os,C.tape.trans h.g.tape,C.output.trans h.g.output,bD h.g.size C.size,λk f _=>?_⟩
 rw[C.block k (by have:=h.g.size;omega) (λe=>by have:=h.lo k (d k e);omega)];exact h.g.block k f (by simp);obtain q|q:=B.ho
 exact h.lo k (c k (q▸e));rw[e]at q;have:=aQ q;have:=h.g.size;omega
def jT.Rn{vc:Value}(h:jT W w j i i i X y z vc r t)(hi:i<2)(v:b9 w l o (.aE (Sd.new r t gH (decide (i=0)))) S)(C:∀k,S k->¬mT j i X y z vc k/\∀a,a<i->¬X.A a k)(D:∀k,S k->W.heap.size<=k):
 (w.alloc (.cells #[.pointer (some ⟨l,0,none⟩)] 33)).cell? ⟨j,0,none⟩=some y/\∃a n c s,(Builtin.append_ #[75,75] 75 #[y,.slice (some ⟨w.heap.size,0,none⟩) 1 1]).run prog (w.alloc (.cells #[.pointer (some ⟨l,0,none⟩)] 33))=.ok (.slice a n c) s/\s.cell? ⟨j,0,none⟩=some y/\s.frozen? ⟨j,0,none⟩=false/\
   jT W (s.setCell ⟨j,0,none⟩ (.slice a n c)) j (i+1) i i {X with xb:=ah X.xb i l,sb:=ah X.sb i o,st:=ah X.st i (.aE (Sd.new r t gH (decide (i=0)))),A:=ah X.A i S} (.slice a n c) z vc r t:=by
 have g:=aH w (.cells #[.pointer (some ⟨l,0,none⟩)] 33) none;have d:=h.an g;obtain⟨a,n,c,s,E,F,G,ho⟩:=xI 75 underlying75 Ri rfl (by decide) y i _ d.bd.x w.heap.size 1 (.pointer (some ⟨l,0,none⟩)) (by rw[ba (aO w _)];rfl) rfl (by omega);have B:=d.bd.Ah (a:=.slice a n c) (by decide) d.bd.x G ho;have u:=(B.g.block j B.nb (λe=>B.nn e.symm)).trans d.bd.aP;obtain⟨H,I,K⟩:=d.app (λk e=>.inr (.inl e)) B 0;refine⟨d.bd.oE.1.1,a,n,c,s,E,?_,by simp[World.frozen?,u],d.bd.Rc (v.an g) C B F,⟨h.p.m,λb L=>?_⟩,H,λk f=>?_,I,λb L k f=>?_⟩
 rw[ba u,<-ba d.bd.aP];exact d.bd.oE.1.1;show ah X.st i _ b=_;by_cases e:b=i;subst e;rw[bk];rw[bm _ _ e];exact h.p.st b (by omega);obtain q|q|q|q|q|q:=f
 exact h.lo k (.inl q);exact K k q;exact h.lo k (.inr (.inr (.inl q)));exact h.lo k (.inr (.inr (.inr (.inl q))));exact h.lo k (.inr (.inr (.inr (.inr (.inl q)))));exact h.lo k (.inr (.inr (.inr (.inr (.inr q)))));have f:ah X.A i S b k:=f;by_cases e:b=i;subst e;rw[bk]at f;exact D k f;rw[bm _ _ e]at f;exact h.la b (by omega) k f
def jT.Ro{s:Nat->Nat}(d:jT W v j (i+1) i i X x y z r t)(G:v.grownBy w none)(hi:i<2)(L:qU v.heap.size w 4 (.slice (some ⟨o,0,none⟩) 4 n) s):
 (w.alloc (.cells #[.slice (some ⟨o,0,none⟩) 4 n] 141)).cell? ⟨j,1,none⟩=some y/\∃a g c h,(Builtin.append_ #[76,76] 76 #[y,.slice (some ⟨w.heap.size,0,none⟩) 1 1]).run prog (w.alloc (.cells #[.slice (some ⟨o,0,none⟩) 4 n] 141))=.ok (.slice a g c) h/\h.cell? ⟨j,1,none⟩=some y/\h.frozen? ⟨j,1,none⟩=false/\
   jT W (h.setCell ⟨j,1,none⟩ (.slice a g c)) j (i+1) (i+1) i {X with el:=ah X.el i o,lc:=ah X.lc i n,eb:=ah X.eb i s} x (.slice a g c) z r t:=by
 have C:=aH w (.cells #[.slice (some ⟨o,0,none⟩) 4 n] 141) none;have f:=d.an (aq G C);have H:qU v.heap.size (w.alloc (.cells #[.slice (some ⟨o,0,none⟩) 4 n] 141)) 4 (.slice (some ⟨o,0,none⟩) 4 n) s:=⟨kM L.row (ao.of C) (λk _ e=>by cases e),λb u=>((ao.of C).block _ (aZ.1 (L.en b u)).1 (λe=>by cases e)).trans (L.en b u),L.inj,L.new⟩
 obtain⟨a,g,c,h,I,K,M,ho⟩:=xI 76 underlying76 Rk rfl (by decide) y i _ f.bd.e w.heap.size 1 (.slice (some ⟨o,0,none⟩) 4 n) (by rw[ba (aO w _)];rfl) rfl (by omega);have B:=f.bd.Ah (a:=.slice a g c) (by decide) f.bd.e M ho;have D:=(B.g.block j B.nb (λe=>B.nn e.symm)).trans f.bd.aP;obtain⟨N,O,P⟩:=f.app (λk e=>.inr (.inr (.inl e))) B 1;have Q:∀k,v.heap.size<=k->¬mT j i X x y z k/\∀a,a<i+1->¬X.A a k:=λk E=>⟨λe=>by have:=d.bd.fc k e;omega,λa R e=>by have:=(d.bd.side a R).lt k e;omega⟩
 refine⟨f.bd.oE.1.2.1,a,g,c,h,I,?_,by simp[World.frozen?,D],f.bd.Rf H Q d.laid.lt B K,⟨d.p.m,d.p.st⟩,N,λk E=>?_,O,d.la⟩
 rw[ba D,<-ba f.bd.aP];exact f.bd.oE.1.2.1;have F:=d.g.size;obtain q|q|q|q|⟨b,u,q⟩|⟨b,l,u,hl,q⟩:=E
 exact d.lo k (.inl q);exact d.lo k (.inr (.inl q));exact P k q;exact d.lo k (.inr (.inr (.inr (.inl q))));have q:k=ah X.el i o b:=q;by_cases e:b=i;subst e;rw[bk]at q;rw[q];exact bD F (L.new.2 o rfl);rw[bm _ _ e]at q;exact d.lo k (.inr (.inr (.inr (.inr (.inl ⟨b,by omega,q⟩)))));have q:k=ah X.eb i s b l:=q;by_cases e:b=i;subst e;rw[bk]at q;rw[q];exact bD F (L.new.1 l hl);rw[bm _ _ e]at q;exact d.lo k (.inr (.inr (.inr (.inr (.inr ⟨b,l,by omega,hl,q⟩)))))
def jT.Rp(h:jT W w j (i+1) (i+1) i X x y z r t)(hi:i<2):
 (w.alloc (.cells #[.int .u64 0] 30)).cell? ⟨j,21,none⟩=some z/\∃a n c d,(Builtin.append_ #[78,78] 78 #[z,.slice (some ⟨w.heap.size,0,none⟩) 1 1]).run prog (w.alloc (.cells #[.int .u64 0] 30))=.ok (.slice a n c) d/\d.cell? ⟨j,21,none⟩=some z/\d.frozen? ⟨j,21,none⟩=false/\
   jT W (d.setCell ⟨j,21,none⟩ (.slice a n c)) j (i+1) (i+1) (i+1) X x y (.slice a n c) r t:=by
 have g:=aH w (.cells #[.int .u64 0] 30) none;have b:=h.an g;obtain⟨a,n,c,d,l,m,s,ho⟩:=xI 78 underlying78 Rl rfl (by decide) z i _ b.bd.c w.heap.size 1 (.int .u64 0) (by rw[ba (aO w _)];rfl) rfl (by omega);have B:=b.bd.Ah (a:=.slice a n c) (by decide) b.bd.c s ho;have f:=(B.g.block j B.nb (λe=>B.nn e.symm)).trans b.bd.aP;obtain⟨u,v,A⟩:=b.app (λk e=>.inr (.inr (.inr (.inl e)))) B 21;refine⟨b.bd.oE.1.2.2,a,n,c,d,l,?_,by simp[World.frozen?,f],b.bd.Rh B m,h.p,u,λk C=>?_,v,h.la⟩
 rw[ba f,<-ba b.bd.aP];exact b.bd.oE.1.2.2;obtain q|q|q|q|q|q:=C
 exact h.lo k (.inl q);exact h.lo k (.inr (.inl q));exact h.lo k (.inr (.inr (.inl q)));exact A k q;exact h.lo k (.inr (.inr (.inr (.inr (.inl q)))));exact h.lo k (.inr (.inr (.inr (.inr (.inr q)))))
def Nw.zero(aj ag:Int):Nw:=⟨aj,ag,gH,λ_=>0,λ_=>0,λ_=>.shut 0 [],λ_ _=>False,0,0,0,0,λ_=>0,λ_=>0,λ_ _=>0,λ_ _=>End.zero,0,0,λ_=>0,[],.slice none 0 0⟩
structure uU(w:World)(aj ag:Int)(nb:Nat)(V:Nw)(a:World):Prop where
 g:w.grownBy a none
 at_:bP a nb V
 laid:Laid a
 all:∀k,V.dw nb k->w.heap.size<=k
 cfg:V.aj=aj/\V.ag=ag/\V.key=gH
 st:∀i,i<2->V.st i=.aE (Sd.new aj ag gH (decide (i=0)))
 e:∀i k,V.e i k=End.zero
 aI:V.aI=[]
 bf:∀i,V.bf i=0
def jT.fin(g:w.grownBy W none)(h:jT W v j 2 2 2 X x y z r t):∃s,uU w r t j s v:=by
 obtain⟨xr,xc,er,ec,cr,cc,H⟩:=h.bd.done;have d:=g.size;refine⟨_,aq g h.g,H,h.laid,λk u=>?_,h.p.m,h.p.st,λ_ _=>rfl,rfl,λ_=>rfl⟩
 have f:∀{l:Value}{a:Nat}{n c:Nat},l=.slice (some ⟨a,0,none⟩) n c->l.ownBlock=some a:=λe=>by rw[e];rfl
 have c0:=h.bd.oE.1;have n0:=H.c.1;have e0:=aQ (c0.1.symm.trans n0.1);have e1:=aQ (c0.2.1.symm.trans n0.2.1);have e2:=aQ (c0.2.2.symm.trans n0.2.2.2.2.2);obtain(q|q|q|q|q|⟨a,b,A,aa,q⟩|q)|⟨i,hi,q⟩:=u
 exact bD d (h.lo k (.inl q));exact bD d (h.lo k (.inr (.inl (by rw[q];exact f e0))));exact bD d (h.lo k (.inr (.inr (.inl (by rw[q];exact f e1)))));exact bD d (h.lo k (.inr (.inr (.inr (.inl (by rw[q];exact f e2))))));exact bD d (h.lo k (.inr (.inr (.inr (.inr (.inl q))))));exact bD d (h.lo k (.inr (.inr (.inr (.inr (.inr ⟨a,b,A,aa,q⟩))))));cases q;exact bD d (h.la i hi k q)
def Fs(w:World)(hL:Laid w)(mt s:Int)(hm:dq mt)(hw:dq s):
 Calls prog 49 #[.int .i64 mt,.int .i64 s] w λe t=>∃nb V,e=.returned (.pointer (some ⟨nb,0,none⟩))/\uU w (64+bh mt 237) (16+bh s 300) nb V t:=by
 obtain⟨aj,D⟩:∃x:Int,x=64+bh mt 237:=⟨_,rfl⟩
 obtain⟨ag,E⟩:∃x:Int,x=16+bh s 300:=⟨_,rfl⟩
 have cB:=eP mt (p:=237) (by decide);have c9:=eP s (p:=300) (by decide);have b6:jP aj ag:=by unfold jP;omega
 have b7:=J (eZ mt 237 w hm.1 hm.2 (by decide) (by decide));have b8:=J (eZ s 300 w hw.1 hw.2 (by decide) (by decide));have ca:IntKind.i64.wrap (64+(bh mt 237:Int))=64+(bh mt 237:Int):=wI_;have ch:IntKind.i64.wrap (16+(bh s 300:Int))=16+(bh s 300:Int):=wI_;obtain⟨r,O⟩:=exq (w.alloc (.cells #[.int .i64 aj,.int .i64 ag] 28));have gc:w.grownBy r none:=by rw[O];exact aH _ _ _
 have bc:r.heap[w.heap.size]?=some (.cells #[.int .i64 aj,.int .i64 ag] 28 (0,0)):=by rw[O];exact aO _ _
 obtain⟨W1,F⟩:=exq (r.alloc (.cells (nJ (Nw.zero aj ag) (.slice none 0 0) (.slice none 0 0) (.slice none 0 0)) 80));have g1:r.grownBy W1 none:=by rw[F];exact aH _ _ _
 obtain⟨nb,G⟩:=exq r.heap.size;have b1:W1.heap[nb]?=some (.cells (nJ (Nw.zero aj ag) (.slice none 0 0) (.slice none 0 0) (.slice none 0 0)) 80 (0,0)):=by rw[F,G];exact aO _ _
 have Q:=hL.gb gc;have R:jT r W1 nb 0 0 0 (Nw.zero aj ag) (.slice none 0 0) (.slice none 0 0) (.slice none 0 0) aj ag:=by
  refine⟨⟨b1,Ag,oJ _ _ _ _,oJ _ _ _ _,oJ _ _ _ _,λa d=>by omega,λa d=>by omega,λa d=>by omega,λa d=>by omega,λa b k l d=>by omega,λa d=>by omega,λa b d=>by omega,λk u=>⟨?_,λa d=>by omega⟩⟩,⟨⟨rfl,rfl,rfl⟩,λa d=>by omega⟩,g1,λk u=>?_,Q.gb g1,λa d=>by omega⟩
  ·obtain q|q|q|q|⟨a,d,q⟩|⟨a,b,d,aa,q⟩:=u
   rw[q,G];have:=Q.lt;omega;all_goals first|omega|cases q
  obtain q|q|q|q|⟨a,d,q⟩|⟨a,b,d,aa,q⟩:=u
  rw[q,G];exact aR _;all_goals first|omega|cases q
 obtain⟨P,S⟩:∃P:Ending->World->Prop,P=λe t=>∃nb V,e=.returned (.pointer (some ⟨nb,0,none⟩))/\uU w (64+bh mt 237) (16+bh s 300) nb V t:=⟨_,rfl⟩
 rw[<-S];have cj:=J (λ(t:World)(V:Nw)(H ve vc:Value)(h:jT r t nb 2 2 2 V H ve vc aj ag)=>(show P (.returned (.pointer (some ⟨nb,0,none⟩))) t by rw[S,<-D,<-E];obtain⟨V',h'⟩:=h.fin gc;exact⟨nb,V',rfl,h'⟩));rw[<-D]at ca;rw[<-E]at ch;replace⟨S,R,hL,Q⟩:=eV S R hL Q;have bj:nJ (Nw.zero aj ag) (.slice none 0 0) (.slice none 0 0) (.slice none 0 0)= #[.slice none 0 0,.slice none 0 0,.int .i64 aj,.int .i64 ag,.int .u8 3,.int .u8 1,.int .u8 4,.int .u8 1,.int .u8 5,.int .u8 0,.int .u8 0,.int .u8 0,.int .u8 0,.int .u8 0,.int .u8 0,.int .u8 0,.int .u8 0,.int .u8 0,.int .u8 0,.int .u8 0,.slice none 0 0,.slice none 0 0]:=rfl;rw[bj]at F;clear bj b1;obtain⟨y0,y1⟩:r.cell? ⟨w.heap.size,0,none⟩=some (.int .i64 aj)/\r.cell? ⟨w.heap.size,1,none⟩=some (.int .i64 ag):=by simp[World.cell?,bc]
 go_enter func49,ntmps49;go_upto_region 2 with(first|(go_at_call 23;with_reducible apply(Z b7).mono;rintro e w2⟨rfl,I⟩;rw[I];clear I)|(go_at_call 23;with_reducible apply(Z b8).mono;rintro e w2⟨rfl,I⟩;rw[I];clear I))
 rw[<-D,<-E,<-O];clear O;replace⟨D,E⟩:=bA D E;go_upto_region 3 with fail;rw[<-F,<-G];clear F G;have a2:=λ(W:World)(g:r.grownBy W none)=>(show W.cell? ⟨w.heap.size,0,none⟩=some (.int .i64 aj)/\W.cell? ⟨w.heap.size,1,none⟩=some (.int .i64 ag)from⟨gC_ g y0,gC_ g y1⟩)
 replace a2:=J a2;clear y0 y1;have db:(prog.info? 24).map (·.size)=some (bv gH).length:=by rw[fL,Ag.1];exact m8
 have de:=underlying24;go_wp2;go_loopw [7] (λiv wr=>∃(i:Nat)(V:Nw)(H ve vc:Value),i<=2/\iv=.int .i64 i/\jT r wr nb i i i V H ve vc aj ag) (λiv _=>2-(intOf iv).toNat);case atStart=>exact⟨0,_,_,_,_,by omega,rfl,Z R⟩
 case round=>
  clear R;obtain⟨i,V,H,ve,vc,hi,rfl,B⟩:=hrel;by_cases dg:i<2
  ·have d1:decide ((i:Int)<2)=true:=dT_;obtain⟨f,y⟩:=exq (decide (i=0));have dk:((i:Int)==0)=f:=by
    rw[y];have T:i=0\/i=1:=by omega
    obtain T|T:=T<;>subst T<;>decide
   obtain⟨c0,c1⟩:=Z a2 wr B.g;have k0:=kc c0;have k1:=kc c1;have a3:=B.bd.oE.2.2;rw[B.p.m.2.2]at a3;have U:wr.rangeAt nb 4 (bv gH)/\wr.grownBy wr none:=⟨a3,aB _ _⟩
   have K:=NV wr.drew aj ag gH Ag f (B.laid.gb (aV (aB wr none)) (by simp));have hX:=J (λ(X:World)(g:wr.grownBy X none)(Y al:Nat)(M:Nat->Prop)(hc:b9 X Y al (.aE (Sd.new aj ag gH f)) M)(z:∀k,M k->wr.heap.size<=k)=>And.intro (B.an g).bd.oE.1.1 ((B.an g).Rn (by omega) (by rw[<-y];exact hc) (λk u=>⟨λe=>by have:=B.bd.fc k e;have:=z k u;omega,λa d e=>by have:=(B.bd.side a d).lt k e;have:=z k u;omega⟩) (λk u=>bD B.g.size (z k u))));unfold cO at K;replace⟨K,B⟩:=bA K B;clear c0 c1 a3;replace y:=J y;go_upto_region 6 with fail;go_region_held3 (λt=>t.rangeAt nb 4 (bv gH)/\wr.grownBy t none)
    (with_reducible first|exact br|exact U|exact jC U (aV (aB _ none)))
    (first|(go_at_call 12;apply(Z K).mono;rintro e X⟨g3,⟨cp,-⟩|⟨-,Y,al,M,rfl,z,bt⟩⟩;(exact absurd b6 cp);have br:=jC (jC U (aV (aB _ none))) g3))
   obtain⟨cv,x0,ax,nx,cx,w5,v,z0,zf,C⟩:=Z hX X (aq (aV (aB wr none)) g3) Y al M bt z;obtain⟨w6,a4⟩:=exq (w5.setCell ⟨nb,0,none⟩ (.slice ax nx cx));rw[<-a4]at C;obtain⟨V6,bx⟩:∃V6,V6={V with xb:=ah V.xb i Y,sb:=ah V.sb i al,st:=ah V.st i (.aE (Sd.new aj ag gH (decide (i=0)))),A:=ah V.A i M}:=⟨_,rfl⟩
   rw[<-bx]at C;clear bx bt z hX br U K k0 k1 g3;replace⟨v,C⟩:=bA v C;go_upto_region 10 with(at_builtin;refine pW (by rfl) 75 75 (by rfl) _ _ (by rfl) _ _ _ (by rfl) (by rfl) (Z v) ?_)
   rw[<-a4];clear a4 z0 zf x0 cv v;have L0:Hid (qU w6.heap.size w6 0 (.slice none 0 0) (λ_=>0)):=J ⟨oJ _ _ _ _,λb aa=>by omega,λa b d=>by omega,λb aa=>by omega,λq e=>by cases e⟩;go_wp2;go_loopw [10,11] (λlv kv j=>∃(k:Nat)(bz:Nat->Nat),k<=4/\kv=.int .i64 k/\(∃a n c,lv=.slice a n c)/\qU w6.heap.size j k lv bz/\w6.grownBy j none) (λ_ kv _=>4-(intOf kv).toNat);case atStart=>exact⟨0,λ_=>0,by omega,rfl,⟨_,_,_,rfl⟩,Z L0,aB _ _⟩
   case round=>
    clear L0;obtain⟨k,bz,u,rfl,⟨la,ln,bM,rfl⟩,L,g6⟩:=hrel;rename World=>j
    by_cases dn:k<4
    ·have d2:decide ((k:Int)<4)=true:=dT_;have ge:=aH j (.cells #[.string ⟨#[]⟩,.bool false,.bool false,.int .u64 0,.int .i64 0,.int .i64 0,.int .i64 0] 143) none;have b0:=aH (j.alloc (.cells #[.string ⟨#[]⟩,.bool false,.bool false,.int .u64 0,.int .i64 0,.int .i64 0,.int .i64 0] 143)) (.cells #[.pointer (some ⟨j.heap.size,0,none⟩)] 140) none;have g7:=aq ge b0;obtain⟨W7,a0⟩:=exq ((j.alloc (.cells #[.string ⟨#[]⟩,.bool false,.bool false,.int .u64 0,.int .i64 0,.int .i64 0,.int .i64 0] 143)).alloc (.cells #[.pointer (some ⟨j.heap.size,0,none⟩)] 140));have b3:W7.heap[j.heap.size]?=some (.cells (ph End.zero) 143 (0,0)):=by rw[a0];exact(heap_alloc_old _ _ (by rw[dL];omega)).trans (aO _ _)
     have b4:W7.cell? ⟨j.heap.size+1,0,none⟩=some (.pointer (some ⟨j.heap.size,0,none⟩)):=by
      have q:=aO (j.alloc (.cells #[.string ⟨#[]⟩,.bool false,.bool false,.int .u64 0,.int .i64 0,.int .i64 0,.int .i64 0] 143)) (.cells #[.pointer (some ⟨j.heap.size,0,none⟩)] 140);rw[dL]at q;rw[a0,ba q];rfl
     rw[<-a0]at g7;obtain⟨a8,n8,c8,w8,v,hO,g8,ho⟩:=xI 141 underlying141 Rj rfl (by decide) (.slice la ln bM) k _ (kM L.row (ao.of g7) (λq _ e=>by cases e)) (j.heap.size+1) 1 (.pointer (some ⟨j.heap.size,0,none⟩)) b4 rfl (by omega);obtain⟨L8,cw⟩:=L.step g6 g7 b3 g8 hO ho;replace⟨L8,v,L⟩:=cg L8 v L;clear hO b3 b4 ge b0;go_wp2_with (at_builtin;rw[<-a0];refine pW (by rfl) 141 141 (by rfl) _ _ (by rfl) _ _ _ (by rfl) (by rfl) (Z v) ?_);exact⟨⟨k+1,_,by omega,rfl,⟨_,_,_,rfl⟩,Z L8,cw⟩,by simp[intOf];omega⟩
    have d2:decide ((k:Int)<4)=false:=dF_;obtain rfl:k=4:=by omega
    obtain⟨g,cap,b5⟩:∃g cap,(Value.slice la ln bM)=.slice (some ⟨g,0,none⟩) 4 cap:=by
     obtain⟨-,⟨-,ds⟩|⟨g,cap,du,e,-⟩⟩:=L.row;omega;exact⟨g,cap,e⟩
    obtain⟨rfl,rfl,rfl⟩:=js b5;clear b5;have cy:=((Z C).an g6).bd.oE.1.2.1;obtain⟨e0,ae,ne,ce,we,a1,ze,cA,N⟩:=(Z C).Ro g6 (by omega) L;obtain⟨wE,a9⟩:=exq (we.setCell ⟨nb,1,none⟩ (.slice ae ne ce));rw[<-a9]at N;have dx:=N.bd.oE.1.2.2;obtain⟨e1,aC,nC,cC,wc,bb,zc,dE,BC⟩:=N.Rp (by omega);replace⟨BC,N,a1,bb,L⟩:=eR BC N a1 bb L;go_upto_region 16 with(at_builtin;refine pW (by rfl) 76 76 (by rfl) _ _ (by rfl) _ _ _ (by rfl) (by rfl) (Z a1) ?_)
    rw[<-a9];clear a9 ze cA e0 cy a1;go_wp2_with (at_builtin;refine pW (by rfl) 78 78 (by rfl) _ _ (by rfl) _ _ _ (by rfl) (by rfl) (Z bb) ?_);exact⟨⟨i+1,_,_,_,_,by omega,rfl,Z BC⟩,by simp[intOf];omega⟩
  have d1:decide ((i:Int)<2)=false:=dF_;obtain rfl:i=2:=by omega
  have y:=J (Z cj wr V H ve vc B);replace B:=J B;go_wp2_with fail;first|exact Z y|(go_ret;exact Z y)
def jU(l:List cY)(i:Nat):cY:=l.getD i ⟨0,0,0,0,⟨#[]⟩⟩
def Ai{l:List cY}(h:i<l.length):jU l i∈l:=by
 unfold jU;rw[ql,eI h];exact tu h
structure uV(s:cY):Prop where
 kind:dq s.kind
 side:dq s.side
 a:dq s.a
 b:dq s.b
 len:s.s.size<=140737488351232
def qi(w:World)(a:Option Addr)(n cap:Nat)(c:List cY):Prop:=
 n=c.length/\n<=cap/\cap<=maxLen/\(∀s∈c,uV s)/\(c=[]\/∃b o,a=some ⟨b,o,none⟩/\∀i,i<c.length->w.rangeAt b (o+i*5) (di (jU c i)).toList)
def qi.an{c:List cY}(h:qi w a n k c)(g:w.grownBy W none):qi W a n k c:=by
 obtain⟨d,f,j,l,m⟩:=h;refine⟨d,f,j,l,m.imp id ?_⟩
 rintro⟨b,o,e,p⟩;exact⟨b,o,e,λi hi=>jh (p i hi) g (by simp)⟩
def qi.at'{c:List cY}(h:qi w a n k c)(hi:i<c.length):∃b o,a=some ⟨b,o,none⟩/\w.rangeAt b (o+i*5) (di (jU c i)).toList/\(w.cell? ⟨b,o+i*5,none⟩=some (.int .i64 (jU c i).kind)/\w.cell? ⟨b,o+i*5+1,none⟩=some (.int .i64 (jU c i).side)/\w.cell? ⟨b,o+i*5+2,none⟩=some (.int .i64 (jU c i).a)/\w.cell? ⟨b,o+i*5+3,none⟩=some (.int .i64 (jU c i).b)/\w.cell? ⟨b,o+i*5+4,none⟩=some (.string (jU c i).s)):=by
 obtain⟨-,-,-,-,d⟩:=h;obtain rfl|⟨b,o,e,f⟩:=d
 simp at hi;have q:=f i hi;exact⟨b,o,e,q,q 0 _ rfl,q 1 _ rfl,q 2 _ rfl,q 3 _ rfl,q 4 _ rfl⟩
def ku(a:List cY):Nat->Nat
 |0=>0
 |i+1=>ku a i+(jU a i).s.size
def Rq(a:List cY):∀i j,j<i->(jU a j).s.size<=ku a i:=by
 intro i;induction i with
 |zero=>intro j h;omega
 |succ i b=>
  intro j h;unfold ku;by_cases e:j=i;subst e;omega;have:=b j (by omega);omega
def Rr{a:List cY}{s:cY}(h:s∈a):s.s.size<=ku a a.length:=by
 obtain⟨i,hi,rfl⟩:=jY.1 h;have:=Rq a a.length i hi;unfold jU at this;rw[ql,eI hi]at this;exact this
def Ft(w:World)(a:List cY)(e:Ending)(c:World):Prop:=w.grownBy c none/\∃b,e=.returned (.bool b)/\(b=true->a.length<=8192/\∀s∈a,s.s.size<=8192)
def Rt(w:World)(a:Option Addr)(n cap:Nat)(c:List cY)(H:qi w a n cap c):
 Calls prog 19 #[.slice a n cap] w (Ft w c):=by
 obtain⟨d,x,r,k,-⟩:=id H;unfold maxLen at r;replace⟨H,k,d⟩:=cg H k d;go_enter func19,ntmps19;go_wp2;go_loopw [3,4] (λt m wr=>∃(i:Nat),i<=n/\m=.int .i64 i/\t=.int .i64 ((n:Int)+(ku c i:Int))/\((ku c i:Int)<=140737488400000)/\w.grownBy wr none) (λ_ m _=>n-(intOf m).toNat);case atStart=>exact⟨0,by omega,rfl,by simp[ku],by simp[ku],aB _ _⟩
 case round=>
  obtain⟨i,hi,rfl,rfl,hs,g⟩:=hrel;by_cases y:i<n
  ·have A:IntKind.i64.wrap ((i:Int)+1)=(i:Int)+1:=wI_;have d1:decide ((i:Int)<n)=true:=dT_;by_cases f:(n:Int)+(ku c i:Int)<=8192
   ·have d2:decide ((n:Int)+(ku c i:Int)<=8192)=true:=dO f;have B:(0:Int)<=i:=by omega
    have C:(i:Int)<n:=by omega
    obtain⟨b,o,rfl,-,-,-,-,-,c4⟩:=((Z H).an g).at' (i:=i) (by have:=Z d;omega);have u:=(Z k _ (Ai (l:=c) (i:=i) (by have:=Z d;omega))).len;have q:IntKind.i64.wrap ((n:Int)+(ku c i:Int)+((jU c i).s.size:Int))=(n:Int)+(ku c i:Int)+((jU c i).s.size:Int):=wI_;obtain⟨S,h⟩:=exq (ku c i);obtain⟨z,p⟩:=exq ((jU c i).s);have j:ku c (i+1)=S+z.size:=by rw[h,p];rfl
    rw[<-h]at hs f d2 q;rw[<-p]at c4 u q;replace j:=J j;rw[<-h];clear h p;go_wp2_with fail;refine⟨⟨i+1,by omega,by simp,?_,by rw[Z j];push_cast;omega,g⟩,by simp[intOf];omega⟩
    rw[Z j];push_cast;rw[Int.add_assoc]
   have d2:decide ((n:Int)+(ku c i:Int)<=8192)=false:=eQ f;go_wp2;go_ret;exact⟨g,false,rfl,λe=>by cases e⟩
  have d1:decide ((i:Int)<n)=false:=dF_;obtain rfl:i=n:=by omega
  by_cases f:(i:Int)+(ku c i:Int)<=8192
  ·have d2:decide ((i:Int)+(ku c i:Int)<=8192)=true:=dO f;go_wp2;go_ret;refine⟨g,true,rfl,λ_=>⟨by have:=Z d;omega,λs v=>?_⟩⟩
   have:=Rr v;rw[<-Z d]at this;omega
  have d2:decide ((i:Int)+(ku c i:Int)<=8192)=false:=eQ f;go_wp2;go_ret;exact⟨g,false,rfl,λe=>by cases e⟩
structure jV(w0 wr:World)(nb:Nat)(V:Nw)(m:Nat->ai)(n:Nat):Prop where
 at_:bP wr nb V
 ok:bG V m n
 laid:Laid wr
 g:w0.grownBy wr none
 lo:∀k,V.dw nb k->w0.heap.size<=k
def jV.go{wr:World}{a:Nw}{c:Nat->ai}(h:jV w wr i X U n)(T:bL wr i X a W)(K:bG a c j):jV w W i a c j:=by
 have z:=h.g.size;refine⟨T.at_,K,T.laid,⟨T.av.os.trans h.g.os,T.av.tape.trans h.g.tape,T.av.output.trans h.g.output,bD z T.av.size,λk b _=>?_⟩,λk b=>?_⟩
 rw[T.av.block k (by omega) (λe=>by have:=h.lo k e;omega)];exact h.g.block k b (by simp);obtain q|q:=T.all k b
 exact h.lo k q;omega
def jV.gb{wr:World}(h:jV w wr k X U n)(g:wr.grownBy W none):jV w W k X U n:=h.go (bL.refl h.at_ g h.laid) h.ok
def uU.Fu(h:uU w p q n X W)(a:64<=p/\p<=300/\16<=q/\q<=1024):jV w W n X (λi=>ai.new p q X.key (decide (i=0))) 0:=
 ⟨h.at_,bG.start a h.at_.key ⟨h.cfg.1,h.cfg.2.1⟩ (λi hi=>by rw[h.cfg.2.2];exact h.st i hi) (λi k _ _=>h.e i k) h.aI (λi _=>h.bf i),h.laid,h.g,h.all⟩
def uV.ok{s:cY}(h:uV s)(hl:s.s.size<=8192):s.ok:=⟨h.kind,h.side,h.a,h.b,by omega⟩
def Aj(w:World)(e:Ending)(a:World):Prop:=∃nb V m n,e=.returned (.tuple #[.pointer (some ⟨nb,0,none⟩),.bool true])/\n<=16384/\jV w a nb V m n
def Ru(w:World)(G:Laid w)(a:Option Addr)(n cap:Nat)(d:List cY)(H:qi w a n cap d)(hl:d.length<=8192)(hs:∀s∈d,s.s.size<=8192)(l mt f:Int)(I:dq mt)(L:dq f):
 Calls prog 21 #[.slice a n cap,.int .i64 l,.int .i64 mt,.int .i64 f] w (Aj w):=by
 have j:=H.1;have M:64<=64+(bh mt 237:Int)/\64+(bh mt 237:Int)<=300/\16<=16+(bh f 300:Int)/\16+(bh f 300:Int)<=1024:=by
  have:=eP mt (p:=237) (by decide);have:=eP f (p:=300) (by decide);omega
 have x:=J (Fs w G mt f I L);replace⟨H,hs,j⟩:=cg H hs j;obtain⟨P,p⟩:=exq (Aj w);rw[<-p];have N:=J (λ(nb:Nat)(V:Nw)(m:Nat->ai)(c:Nat)(q:World)(r:c<=16384)(y:jV w q nb V m c)=>(show P (.returned (.tuple #[.pointer (some ⟨nb,0,none⟩),.bool true])) q by rw[p];exact⟨nb,V,m,c,rfl,r,y⟩));replace p:=J p;go_enter func21,ntmps21;go_upto_region 2 with(go_at_call 49;apply(Z x).mono;rintro e W⟨nb,O,rfl,r⟩)
 have z:=J (r.Fu M);clear r x;go_wp2;go_loopw [11] (λu wr=>∃(i:Nat)(V:Nw)(m:Nat->ai)(c:Nat),i<=n/\u=.int .i64 i/\c<=2*i/\jV w wr nb V m c) (λu _=>n-(intOf u).toNat);case atStart=>exact⟨0,O,_,0,by omega,rfl,by omega,Z z⟩
 case round=>
  clear z;obtain⟨i,V,m,c,hi,rfl,X,B⟩:=hrel;by_cases Y:i<n
  ·have d1:decide ((i:Int)<n)=true:=dT_;have j0:(0:Int)<=i:=by omega
   have j1:(i:Int)<n:=by omega
   have v:i<d.length:=by have:=Z j;omega
   obtain⟨b,o,rfl,A,c0,c1,c2,c3,c4⟩:=((Z H).an B.g).at' v;have C:=((Z H).2.2.2.1 _ (Ai v)).ok (Z hs _ (Ai v));have h:=Rb wr nb V m c B.at_ B.laid B.ok (by have:=Z j;omega) (jU d i) C;have Q:=J (λ(q:World)(k:Nw)(t:Nat->ai)(n2:Nat)(T:bL wr nb V k q)(K:bG k t n2)=>B.go T K);obtain⟨s,D⟩:=exq (jU d i);rw[<-D]at c0 c1 c2 c3 c4 h;unfold di eA at h;obtain⟨kind,side,sa,a0,str⟩:=s;simp only at c0 c1 c2 c3 c4 h;replace⟨h,B,A⟩:=cg h B A;clear D C;by_cases E:kind=l
   ·have R:(kind==l)=true:=by simpa using E
    go_wp2;exact⟨⟨i+1,V,m,c,by omega,rfl,by omega,Z B⟩,by simp[intOf];omega⟩
   have R:(kind==l)=false:=by simpa using E
   go_wp2_with (go_at_call 50;apply(Z h).mono;rintro e S⟨rfl,k,t,n2,y,T,K⟩;have U:=J (Z Q S k t n2 T K);clear T K);exact⟨⟨i+1,k,t,n2,by omega,rfl,by omega,Z U⟩,by simp[intOf];omega⟩
  have d1:decide ((i:Int)<n)=false:=dF_;have F:=J (Z N nb V m c wr (by have:=Z j;omega) B);replace B:=J B;go_wp2_with fail;first|exact Z F|(go_ret2;exact Z F)
structure Ns where
 V:Nw
 m:Nat->ai
 n:Nat
def Ns.ok(a:Ns):Prop:=bG a.V a.m a.n
def rN(a b:Ns):Prop:=b.ok/\b.m=a.m/\b.n=a.n+2/\∃s0 s1 c,(a.V.st 0).do ⟨4,0,0,0,⟨#[]⟩⟩=(⟨0,-1,0,0,[],[]⟩,.aE s0)/\(a.V.st 1).do ⟨4,0,0,0,⟨#[]⟩⟩=(⟨0,-1,0,0,[],[]⟩,.aE s1)/\b.V={a.V with st:=ah (ah a.V.st 0 (.aE s0)) 1 (.aE s1),A:=c}
def oF(i:Nat)(a b:Ns):Prop:=b.ok/\b.n=a.n+1/\∃c ps e v,(a.V.st i).do ⟨5,0,0,0,⟨#[]⟩⟩=(⟨0,-1,0,0,[],ps⟩,.aE c)/\ps.length<=50/\b.V=jS a.V i ((1-i:Nat):Int) (.aE c) (ps.map strOfNums) ps.length e v/\∃d,zN (a.m i) (ps.map strOfNums) d/\b.m=ah a.m i {(a.m i).eu d with due:=[]}
def mU(q:Nat)(a b:Ns):Prop:=b.ok/\b.n=a.n+1/\∃i r c p d,i<2/\(jH a.V.aI q).1=((i:Nat):Int)/\(a.V.st i).do ⟨6,0,0,0,(jH a.V.aI q).2⟩=(r,.aE c)/\b.V=gR {a.V with st:=ah a.V.st i (.aE c)} i p 4 d/\b.m=ah a.m i ((a.m i).eT (aG (jH a.V.aI q).2)).2.2
def nK(i k:Nat)(a b:Ns):Prop:=b.ok/\b.n=a.n+1/\∃c N code data d,(a.V.st i).do ⟨7,(k:Int),5000,0,⟨#[]⟩⟩=(⟨0,-1,N,code,data,[]⟩,.aE c)/\uS (a.V.e (1-i) k) 5000 N code data/\(data=((a.m i).read k 5000).1/\N=((a.m i).read k 5000).2.1)/\b.V={a.V with st:=ah a.V.st i (.aE c),A:=ah a.V.A i d,e:=eD a.V.e (1-i) k {a.V.e (1-i) k with read:=(a.V.e (1-i) k).read+data.length,state:=N}}/\b.m=ah a.m i ((a.m i).read k 5000).2.2.2.2
def Steps(R:Nat->Ns->Ns->Prop):Nat->Ns->Ns->Prop
 |0,a,b=>a=b
 |c+1,a,b=>∃d,Steps R c a d/\R c d b
def Round(a b:Ns):Prop:=∃g f h c,rN a g/\Steps oF 2 g f/\a.V.aI.length+c=f.V.aI.length/\Steps (λq=>mU (a.V.aI.length+q)) c f h/\Steps (λi d e=>Steps (nK i) 4 d e) 2 h b
def il(w0 wr:World)(nb:Nat)(a:Ns):Prop:=jV w0 wr nb a.V a.m a.n
def Rv{wr:World}{a:Ns}(h:il w wr k a)(g:a.n<=39990):
 Calls prog 50 #[.pointer (some ⟨k,0,none⟩),.agg #[.int .i64 4,.int .i64 0,.int .i64 0,.int .i64 0,.string ⟨#[]⟩]] wr λe c=>e=.returned (.bool true)/\∃b,rN a b/\il w c k b:=by
 have hs:cY.ok ⟨4,0,0,0,⟨#[]⟩⟩:=⟨by simp[dq],by simp[dq],by simp[dq],by simp[dq],iP _⟩
 apply(Fq wr k a.V a.m a.n h.at_ h.laid h.ok g ⟨4,0,0,0,⟨#[]⟩⟩ hs (λd=>rN a ⟨d,a.m,a.n+1+1⟩) rfl (λs0 s1 i j l p=>⟨p,rfl,rfl,s0,s1,i,j,l,rfl⟩)).mono;rintro e c⟨rfl,d,T,f⟩;exact⟨rfl,_,f,h.go T f.1⟩
def Rw{wr:World}{a:Ns}(h:il w wr k a)(x:a.n<=39990)(hi:i<2):
 Calls prog 29 #[.pointer (some ⟨k,0,none⟩),.int .i64 i] wr λe d=>e=.returned (.bool true)/\∃b,oF i a b/\il w d k b:=by
 have K:bG a.V a.m a.n:=h.ok;obtain⟨f,ps,g,l,p,q,r,⟨s,t,u⟩,j⟩:=K.Fk hi (show 1-i<2 by omega) (show i≠1-i by omega) (by omega);refine(uR wr k a.V h.at_ h.laid i ((1-i:Nat):Int) hi (by omega) a.n (K.ok hi) (by omega) ps (by omega) (by have:=K.lb;omega) p (.aE f) g q).mono ?_;rintro e d⟨rfl,c,v,T⟩;exact⟨rfl,⟨_,r,a.n+1⟩,⟨j c v,rfl,f,ps,c,v,g,l,rfl,s,t,u⟩,h.go T (j c v)⟩
def Rx{wr:World}{a:Ns}(h:il w wr k a)(A:a.n<=39990)(s:j<a.V.aI.length):
 Calls prog 86 #[.pointer (some ⟨k,0,none⟩),.int .i64 (jH a.V.aI j).1,.string (jH a.V.aI j).2] wr λe d=>e=.returned (.bool true)/\∃b,mU j a b/\il w d k b:=by
 have K:bG a.V a.m a.n:=h.ok;obtain⟨i,r,f,p,hi,g,B,-,l,t,u,v,x,y,z,q⟩:=K.xH (by omega) (uT s);have C:=K.ml;rw[g];apply(E9 wr k a.V h.at_ h.laid i hi (a.n+1) (K.Fm hi) (by omega) (by omega) _ (by omega) r (.aE f) l t u p v x).mono;rintro e d⟨rfl,c,T⟩;exact⟨rfl,⟨_,y,a.n+1⟩,⟨q c,rfl,i,r,f,p,c,hi,g,l,rfl,z⟩,h.go T (q c)⟩
def Ry{wr:World}{a:Ns}(h:il w wr j a)(v:a.n<=39990)(hi:i<2)(c:k<4):
 Calls prog 83 #[.pointer (some ⟨j,0,none⟩),.int .i64 i,.int .i64 k,.int .i64 5000] wr λe d=>e=.returned (.bool true)/\∃b,nK i k a b/\il w d j b:=by
 have K:bG a.V a.m a.n:=h.ok;obtain⟨f,N,code,data,g,l,x,r,s⟩:=K.Fi hi (show 1-i<2 by omega) (show i≠1-i by omega) (by omega) c (p:=5000) (by decide);apply(Fc wr j a.V h.at_ h.laid i (1-i) hi (by omega) (by omega) a.n (K.ok hi) (by omega) k c 5000 (by decide) N code data (.aE f) g l (by omega)).mono;rintro e d⟨rfl,p,T⟩;obtain⟨t,q,u⟩:=s (ah a.V.A i p);exact⟨rfl,⟨_,t,a.n+1⟩,⟨q,rfl,f,N,code,data,p,g,l,r,rfl,u⟩,h.go T q⟩
def oF.aI{a b:Ns}(h:oF i a b):a.V.aI.length<=b.V.aI.length/\b.V.aI.length<=a.V.aI.length+50:=by
 obtain⟨-,-,c,ps,d,v,-,hp,e,-⟩:=h;rw[e];show _<=(a.V.aI++((ps.map strOfNums).take ps.length).map (λb=>(((1-i:Nat):Int),b))).length/\_;rw[show(jS a.V i ((1-i:Nat):Int) (.aE c) (ps.map strOfNums) ps.length d v).aI=a.V.aI++((ps.map strOfNums).take ps.length).map (λb=>(((1-i:Nat):Int),b))from rfl,bH,dH,ct,dH];omega
def mU.aI{a b:Ns}(h:mU n a b):b.V.aI=a.V.aI/\b.V.vb=a.V.vb:=by
 obtain⟨-,-,i,r,d,p,e,-,-,-,c,-⟩:=h;rw[c];exact⟨rfl,rfl⟩
def rN.aI{a b:Ns}(h:rN a b):b.V.aI=a.V.aI:=by
 obtain⟨-,-,-,s0,s1,d,-,-,c⟩:=h;rw[c]
def il.len{wr:World}{a:Ns}(h:il w wr n a):∃b vc,wr.cell? ⟨n,20,none⟩=some (.slice b a.V.aI.length vc):=by
 obtain⟨b,vc,e,-⟩:=qP h.at_.aI;exact⟨b,vc,by rw[h.at_.c.1.2.2.2.2.1,e]⟩
def Rz(w0 w:World)(nb:Nat)(a:Ns)(h:il w0 w nb a)(t:Nat)(ht:a.n+120*t<=39000):
 Calls prog 51 #[.pointer (some ⟨nb,0,none⟩),.int .i64 t] w λe p=>e=.returned (.bool true)/\∃b,Steps (λ_=>Round) t a b/\il w0 p nb b/\b.n<=a.n+120*t:=by
 obtain⟨P,W⟩:∃P:Ending->World->Prop,P=λe p=>e=.returned (.bool true)/\∃b,Steps (λ_=>Round) t a b/\il w0 p nb b/\b.n<=a.n+120*t:=⟨_,rfl⟩
 rw[<-W];have bt:=J (λ(p:World)(b:Ns)(h1:Steps (λ_=>Round) t a b) (h2:il w0 p nb b) (h3:b.n<=a.n+120*t)=>(show P (.returned (.bool true)) p by rw[W];exact⟨rfl,b,h1,h2,h3⟩));replace⟨W,h⟩:=bA W h;go_enter func51,ntmps51;go_wp2;go_loopw [5] (λtv wr=>∃(j:Nat)(b:Ns),j<=t/\tv=.int .i64 j/\Steps (λ_=>Round) j a b/\il w0 wr nb b/\b.n<=a.n+120*j) (λtv _=>t-(intOf tv).toNat);case atStart=>exact⟨0,a,by omega,rfl,rfl,Z h,by omega⟩
 case round=>
  obtain⟨j,b,hj,rfl,I,K,bx⟩:=hrel;by_cases b8:j<t
  ·have dt:decide ((j:Int)<t)=true:=dT_;have hT:=J (Rv K (by omega));replace⟨K,I⟩:=bA K I;go_upto_region 5 with(go_at_call 50;apply(Z hT).mono;rintro e w1⟨rfl,b1,R,L⟩)
   obtain⟨va,vc,S⟩:=L.len;have ca:b1.n=b.n+2:=R.2.2.1;have ax:b1.V.aI.length=b.V.aI.length:=by rw[R.aI]
   rw[ax]at S;obtain⟨l,X⟩:=exq b.V.aI.length;rw[<-X]at S ax;have ch:l<=b.V.aI.length:=by omega
   have cj:b.V.aI.length<=l:=by omega
   replace X:=J X;replace ax:b1.V.aI.length<=l/\l<=b1.V.aI.length:=by omega
   replace⟨L,R⟩:=bA L R;clear hT;go_upto_block 2 with fail;clear S;go_cut [6,8,9]from 15 to 88 (λT _ _ wx=>T=.bool true/\∃d:Ns,Steps oF 2 b1 d/\il w0 wx nb d/\d.n=b1.n+2/\l<=d.V.aI.length/\d.V.aI.length<=l+100);case first=>
    go_wp2;go_loopw [6,8] (λE F wr=>∃(c:Nat)(d:Ns),c<=2/\F=.int .i64 c/\E=.bool true/\Steps oF c b1 d/\il w0 wr nb d/\d.n=b1.n+c/\l<=d.V.aI.length/\d.V.aI.length<=l+50*c) (λ_ F _=>2-(intOf F).toNat);case atStart=>exact⟨0,b1,by omega,rfl,rfl,rfl,Z L,by omega,by omega,by omega⟩
    case round=>
     clear L;obtain⟨c,d,hc,rfl,rfl,hF,u,bz,a3,a4⟩:=hrel;by_cases bM:c<2
     ·have d2:decide ((c:Int)<2)=true:=dT_;have A:=J (Rw u (by omega) bM);replace u:=J u;go_wp2_with (go_at_call 29;apply(Z A).mono;rintro e w2⟨rfl,d',v,B⟩;have a8:=v.aI;have b0:=v.2.1;replace B:=J B;replace v:=J v);exact⟨⟨c+1,d',by omega,rfl,rfl,⟨d,hF,Z v⟩,Z B,by omega,by omega,by omega⟩,by simp[intOf];omega⟩
     have d2:decide ((c:Int)<2)=false:=dF_;obtain rfl:c=2:=by omega
     replace⟨hF,u⟩:=bA hF u;go_wp2;go_meet;exact⟨rfl,d,Z hF,Z u,by omega,by omega,by omega⟩
   case rest=>
    clear L;obtain⟨rfl,d,hF,u,bz,a3,a4⟩:=hcut;replace hF:=J hF;obtain⟨m,U⟩:=exq d.V.aI.length;have a9:d.V.aI.length<=100*d.n:=u.ok.lb;rw[<-U]at a3 a4 a9;have cp:m<=4000000:=by omega
    clear a9;have cv:m<=d.V.aI.length:=by omega
    replace⟨U,u⟩:=bA U u;go_upto_block 4 with fail;go_cut [6,10,11]from 15 to 88 (λT _ _ wx=>T=.bool true/\∃(c:Nat)(f:Ns),l+c=m/\Steps (λq=>mU (l+q)) c d f/\il w0 wx nb f/\f.n=d.n+c);case first=>
     go_wp2;go_loopw [6,10] (λE G wr=>∃(c:Nat)(f:Ns),l+c<=m/\G=.int .i64 ((l+c:Nat):Int)/\E=.bool true/\Steps (λq=>mU (l+q)) c d f/\il w0 wr nb f/\f.n=d.n+c/\f.V.aI.length=m) (λ_ G _=>m-(intOf G).toNat);case atStart=>exact⟨0,d,by omega,rfl,rfl,rfl,Z u,by omega,(Z U).symm⟩
     case round=>
      clear u;obtain⟨c,f,hc,rfl,rfl,C,s,b3,M⟩:=hrel;obtain⟨va,vc,S⟩:=s.len;rw[M]at S;replace C:=J C;obtain⟨k,H⟩:=exq (l+c);rw[<-H];replace H:=J H;have cw:k<=l+c:=by rw[Z H];omega
      have cx:l+c<=k:=by rw[Z H];omega
      have cy:f.V.aI.length<=m:=by omega
      have cA:m<=f.V.aI.length:=by omega
      replace M:=J M;by_cases cB:l+c<m
      ·have d3:decide ((k:Int)<m)=true:=dT_;have q0:(0:Int)<=k:=by omega
       have q1:(k:Int)<m:=by omega
       obtain⟨g,aC,hv,a0,Y,x2⟩:=s.at_.qg (q:=k) (by omega);rw[Z M]at a0;have A:=Rx (jV.gb s (aV (aB _ none)):il w0 wr.drew nb f) (by omega) (j:=k) (by omega);have a1:=J (λ(p:World)(D:Ns)(h1:mU k f D)(h2:il w0 p nb D)=>(show p.cell? ⟨nb,20,none⟩=some (.slice (some ⟨g,0,none⟩) m aC)/\p.cell? ⟨g,k*2,none⟩=some (.int .i64 (jH f.V.aI k).1)/\p.cell? ⟨g,k*2+1,none⟩=some (.string (jH f.V.aI k).2) by
        obtain⟨e1,e2⟩:=h1.aI;obtain⟨g',cC,bb,a2,y1,y2⟩:=h2.at_.qg (q:=k) (by rw[e1];omega);rw[e2,hv,e1]at bb;obtain⟨eg,-,ec⟩:=js bb;have eg:=fG Addr.block (aQ eg);simp only at eg;subst eg;subst ec;rw[e1]at a2 y1 y2;rw[Z M]at a2;exact⟨a2,y1,y2⟩))
       obtain⟨x,hx⟩:=exq (jH f.V.aI k);rw[<-hx]at Y x2 A a1;obtain⟨xt,xs⟩:=x;simp only at Y x2 A a1;have bj:wr.drew.cell? ⟨nb,20,none⟩=some (.slice (some ⟨g,0,none⟩) m aC)/\wr.drew.cell? ⟨g,k*2,none⟩=some (.int .i64 xt)/\wr.drew.cell? ⟨g,k*2+1,none⟩=some (.string xs):=⟨a0,Y,x2⟩
       replace⟨A,hx,s⟩:=cg A hx s;clear Y x2 a0 hv;go_upto_region 14 with fail;go_region_held3 (λp=>p.cell? ⟨nb,20,none⟩=some (.slice (some ⟨g,0,none⟩) m aC)/\p.cell? ⟨g,k*2,none⟩=some (.int .i64 xt)/\p.cell? ⟨g,k*2+1,none⟩=some (.string xs))
        (with_reducible first|exact bj|exact br)
        (first|(go_at_call 86;apply(Z A).mono;rintro e w2⟨rfl,D,v,B⟩;have br:=Z a1 w2 D v B;replace B:=J B;replace v:=J v))
       have b0:D.n=f.n+1:=(Z v).2.1;have a8:D.V.aI.length=m:=by rw[(Z v).aI.1];exact Z M
       clear bj br;go_wp2_with fail;refine⟨⟨c+1,D,by omega,?_,rfl,⟨f,Z C,?_⟩,Z B,by omega,a8⟩,by simp[intOf];omega⟩
       rw[Z H];rfl;show mU (l+c) f D;rw[<-Z H];exact Z v
      have d3:decide ((k:Int)<m)=false:=dF_;replace s:=J s;go_wp2;go_meet;exact⟨rfl,c,f,by omega,Z C,Z s,by omega⟩
    case rest=>
     clear u;obtain⟨rfl,c,f,hc,C,s,b3⟩:=hcut;replace hc:=(show l+c<=m/\m<=l+c by omega)
     replace⟨C,s⟩:=bA C s;go_upto_block 6 with fail;go_cut [6,12,13,14]from 15 to 88 (λT _ _ _ wx=>T=.bool true/\∃r:Ns,Steps (λi d e=>Steps (nK i) 4 d e) 2 f r/\il w0 wx nb r/\r.n=f.n+8);case first=>
      go_wp2;go_loopw [6,12] (λE F wr=>∃(i:Nat)(r:Ns),i<=2/\F=.int .i64 i/\E=.bool true/\Steps (λi d e=>Steps (nK i) 4 d e) i f r/\il w0 wr nb r/\r.n=f.n+4*i) (λ_ F _=>2-(intOf F).toNat);case atStart=>exact⟨0,f,by omega,rfl,rfl,rfl,Z s,by omega⟩
      case round=>
       clear s;obtain⟨i,r,hi,rfl,rfl,z,y,b4⟩:=hrel;by_cases b5:i<2
       ·have d4:decide ((i:Int)<2)=true:=dT_;replace⟨y,z⟩:=bA y z;go_wp2;go_loopw [6,13] (λE G wr=>∃(q:Nat)(N:Ns),q<=4/\G=.int .i64 q/\E=.bool true/\Steps (nK i) q r N/\il w0 wr nb N/\N.n=r.n+q) (λ_ G _=>4-(intOf G).toNat);case atStart=>exact⟨0,r,by omega,rfl,rfl,rfl,Z y,by omega⟩
        case round=>
         clear y;obtain⟨q,N,hq,rfl,rfl,O,Q,c9⟩:=hrel;by_cases b6:q<4
         ·have d5:decide ((q:Int)<4)=true:=dT_;have A:=J (Ry Q (by omega) b5 b6);replace⟨Q,O⟩:=bA Q O;go_wp2_with (go_at_call 83;apply(Z A).mono;rintro e w2⟨rfl,r2,al,D2⟩;have db:=al.2.1;replace D2:=J D2;replace al:=J al);exact⟨⟨q+1,r2,by omega,rfl,rfl,⟨N,Z O,Z al⟩,Z D2,by omega⟩,by simp[intOf];omega⟩
         have d5:decide ((q:Int)<4)=false:=dF_;obtain rfl:q=4:=by omega
         replace⟨Q,O⟩:=bA Q O;go_wp2;exact⟨⟨i+1,N,by omega,rfl,rfl,⟨r,Z z,Z O⟩,Z Q,by omega⟩,by simp[intOf];omega⟩
       have d4:decide ((i:Int)<2)=false:=dF_;obtain rfl:i=2:=by omega
       replace⟨y,z⟩:=bA y z;go_wp2;go_meet;exact⟨rfl,r,Z z,Z y,by omega⟩
     case rest=>
      clear s;obtain⟨rfl,r,z,y,b4⟩:=hcut;have b7:Hid (Round b r):=J (by
       have e1:=Z X;have e2:=Z U;have e3:=Z C;subst e1;exact⟨b1,d,f,c,Z R,Z hF,by omega,e3,z⟩)
      replace⟨z,y⟩:=bA z y;go_wp2;exact⟨⟨j+1,r,by omega,rfl,⟨b,Z I,Z b7⟩,Z y,by omega⟩,by simp[intOf];omega⟩
  have dt:decide ((j:Int)<t)=false:=dF_;obtain rfl:j=t:=by omega
  have hf:=J (Z bt wr b I K bx);replace⟨K,I⟩:=bA K I;go_wp2_with fail;first|exact Z hf|(go_ret;exact Z hf)
def wS:ByteArray:=⟨#[115,111,109,101,32,98,121,116,101,115,32,111,102,32,97,32,115,116,114,101,97,109]⟩
def oG:Fr:=⟨5,3,0,0,true,wS,[]⟩
def Al:Sd:=((Sd.new 64 116 gH true).write 3 (aG wS)).2.2
def uW:Sd:=(Al.finish 3).2
noncomputable def wP:List Int:=cK gH 0 0 (bp [oG])
def wN:ai:=ai.new 64 116 gH false
def wM:ai:=(ai.fx 0 [oG] (wN.mark 0)).2
def RA:uW.eW.dv.2=[wP]:=by kernel_rfl
def RB:(Sd.new 64 116 gH false).eW.dv.2=[]:=by kernel_rfl
def RD:(bp [oG]).all (λx=>decide (0<=x)&&decide (x<256))=true:=by kernel_rfl
def RE:(bp [oG]).length=26:=by kernel_rfl
def Fv:∀x∈bp [oG],W8 x:=λx a=>by
 have:=List.all_eq_true.1 RD x a;simp only[lQ,mX]at this;exact this
def RF:eC gH 0 wP:=(zW (by unfold aS;omega)).2 ⟨by rw[RE];decide,by decide⟩
def Am:bq wP=0:=xC (by unfold aS;omega)
def RG:dT gH 0 0 (bS wP)=bp [oG]:=by
 unfold wP;rw[xD];exact zV _ _ _ _ Fv
def RH:fN (bp [oG])=(some [oG],-1):=by
 refine zU (a:=[oG]) (λf a=>?_) (by simp);simp only[cL]at a;subst a;refine⟨⟨?_,?_,?_,?_,λq b=>(by cases b)⟩,⟨⟨?_,?_,?_,?_⟩,⟨?_,?_⟩,?_,?_⟩,?_⟩<;>simp[oG,dq,aS,show wS.size=22 from rfl]
def RI:aG (strOfNums wP)=wP:=xE (uz Fv)
def RJ{a:List Fr}(h0:Y.closed=0)(b:eC Y.key (1-Y.me) L)(c:Y.dW.has (bq L)=false)(d:fN (dT Y.key (1-Y.me) (bq L) (bS L))=(some a,q))(e:a.any Y.fX=false):(Y.eT L).2.2=(ai.fx (bq L) a (Y.mark (bq L))).2:=by
 unfold ai.eT;rw[az (by simp[h0]),az (by simp[b]),az (by simp[c])];unfold ai.qb;rw[d];simp[e]
def RK:(wN.eT wP).2.2=wM:=by
 have h:=RJ (Y:=wN) (L:=wP) (a:=[oG]) (q:= -1) rfl RF (by rw[Am];kernel_rfl) (by rw[Am];exact(fG fN RG).trans RH) (by kernel_rfl);rw[h,Am];rfl
def pq(m:ai)(k:Int):ai:=(m.read k 5000).2.2.2.2
def Fw:((pq (pq (pq wM 0) 1) 2).read 3 5000).1.length=22/\((pq (pq (pq wM 0) 1) 2).read 3 5000).2.1=1:=⟨by kernel_rfl,by kernel_rfl⟩
end
section
variable{p q r:Int}{K:List Int}{b i j k n o:Nat}{S:Nat->Prop}{U:Nat->ai}{X:Nw}{s:Sd}{T:TypeId}{x y z:Value}{W v w:World}{I:aJ}{Y:ai}
def Fx(s:Sd):(aJ.aE s).do ⟨4,0,0,0,⟨#[]⟩⟩=(⟨0,-1,0,0,[],[]⟩,.aE s.eW):=by simp[aJ.do,aJ.tick]
def Fy(s:Sd):(aJ.aE s).do ⟨5,0,0,0,⟨#[]⟩⟩=(⟨0,-1,0,0,[],s.dv.2⟩,.aE s.dv.1):=by simp[aJ.do,aJ.dv]
structure ti(a:Ns):Prop where
 s0:a.V.st 0=.aE uW
 s1:a.V.st 1=.aE (Sd.new 64 116 gH false)
 m1:a.m 1=wN
 aI:a.V.aI=[]
 rd:(a.V.e 0 3).read=0
def kx(a:Ns):Prop:=(a.V.e 0 3).read=22/\(a.V.e 0 3).state=1
def oF.e{a b:Ns}(h:oF i a b):b.V.e=a.V.e:=by
 obtain⟨-,-,d,ps,f,v,-,-,c,-⟩:=h;rw[c];rfl
def rN.e{a b:Ns}(h:rN a b):b.V.e=a.V.e:=by
 obtain⟨-,-,-,s0,s1,d,-,-,c⟩:=h;rw[c]
def mU.e{a b:Ns}(h:mU n a b)(i k:Nat):(b.V.e i k).read=(a.V.e i k).read/\(b.V.e i k).state=(a.V.e i k).state:=by
 obtain⟨-,-,j,r,d,p,f,-,-,-,c,-⟩:=h;rw[c];show(iE a.V.e j p 4 i k).read=_/\(iE a.V.e j p 4 i k).state=_;unfold iE;split<;>exact⟨rfl,rfl⟩
def nK.dr{a b:Ns}(h:nK i k a b)(H:kx a):kx b:=by
 obtain⟨-,-,n,N,code,data,p,-,c,-,g,-⟩:=h;unfold kx;rw[g];show(eD a.V.e (1-i) k _ 0 3).read=_/\(eD a.V.e (1-i) k _ 0 3).state=_;unfold eD;split;rename_i j;obtain⟨d,f⟩:=j;rw[<-d,<-f]at c;obtain⟨l,m⟩:=c.st (by rw[H.2];decide);rw[l,m,<-d,<-f];exact⟨by simpa using H.1,H.2⟩
 exact H
def Steps.dr{R:Nat->Ns->Ns->Prop}{S:Ns->Prop}(h:∀q a b,R q a b->S a->S b):∀(c:Nat)(a b:Ns),Steps R c a b->S a->S b:=by
 intro c;induction c with
 |zero=>intro a b e H;cases e;exact H
 |succ c f=>rintro a b⟨d,g,i⟩ H;exact h c d b i (f a d g H)
def Round.dr{a b:Ns}(h:Round a b)(H:kx a):kx b:=by
 obtain⟨i,f,g,c,j,hF,-,k,l⟩:=h;have m:kx i:=by unfold kx;rw[j.e];exact H
 have n:kx f:=Steps.dr (S:=kx) (λq x y r d=>by unfold kx;rw[oF.e r];exact d) 2 i f hF m;have p:kx g:=Steps.dr (S:=kx) (λq x y r d=>by unfold kx;rw[(mU.e r 0 3).1,(mU.e r 0 3).2];exact d) c f g k n;exact Steps.dr (S:=kx) (λq x y r d=>Steps.dr (S:=kx) (λq x y r d=>nK.dr r d) 4 x y r d) 2 g b l p
def nK.m{a b:Ns}(h:nK i k a b)(j:Nat):b.m j=if j=i then pq (a.m i) k else a.m j:=by
 obtain⟨-,-,d,N,code,data,e,-,-,-,-,c⟩:=h;rw[c];show ah a.m i _ j=_;unfold ah;rfl
def nK.rd{a b:Ns}(h:nK i k a b)(c:¬(0=1-i/\3=k)):(b.V.e 0 3).read=(a.V.e 0 3).read:=by
 obtain⟨-,-,f,N,code,data,g,-,-,-,d,-⟩:=h;rw[d];show(eD a.V.e (1-i) k _ 0 3).read=_;unfold eD;rw[az c]
def ti.round{a b:Ns}(H:ti a)(h:Round a b):kx b:=by
 obtain⟨q,u,y,c,s,hF,z,t,P⟩:=h;have Q:=s.2.1;have R:=s.e;have S:=s.aI;obtain⟨-,-,-,s0,s1,A0,t0,t1,l⟩:=s;rw[H.s0,Fx]at t0;rw[H.s1,Fx]at t1;have e0:uW.eW=s0:=by simpa using t0
 have e1:(Sd.new 64 116 gH false).eW=s1:=by simpa using t1
 have A:q.V.st 0=.aE uW.eW:=by rw[l,e0];rfl
 have B:q.V.st 1=.aE (Sd.new 64 116 gH false).eW:=by rw[l,e1];rfl
 clear l t0 t1 e0 e1;obtain⟨d,⟨d0,rfl,f0⟩,f1⟩:=hF;have T:=oF.e f0;have U:=oF.e f1;obtain⟨-,-,W,ps,A1,v,f,-,w,bz,-,C⟩:=f0;rw[A,Fy,RA]at f;have x:ps=[wP]:=by
  have:=fG (λr=>r.1.dv) f;exact this.symm
 subst x;have X:d.V.st 1=.aE (Sd.new 64 116 gH false).eW:=by rw[w];exact B
 have yb:d.V.aI=[(1,strOfNums wP)]:=by rw[w];show q.V.aI++_=_;rw[S,H.aI];rfl
 have Y:d.m 1=wN:=by rw[C];show q.m 1=_;rw[Q,H.m1]
 clear f w C A B;obtain⟨-,-,s2,ps,A2,v2,f,-,D,al,E,F⟩:=f1;rw[X,Fy,RB]at f;have x:ps=[]:=by
  have:=fG (λr=>r.1.dv) f;exact this.symm
 subst x;have G:u.V.aI=[(1,strOfNums wP)]:=by rw[D];show d.V.aI++_=_;rw[yb];rfl
 have ax:al=[]:=nM E.len;subst ax;have zm:u.m 1=wN:=by rw[F];show({(d.m 1).eu []with due:=[]}:ai)=_;rw[Y];rfl
 clear f D F E;have a0:c=1:=by rw[G,H.aI]at z;simpa using z
 subst a0;obtain⟨d2,e,t⟩:=t;cases e;have gE:=mU.e t 0 3;obtain⟨-,-,i,r,s3,p,A3,hi,I,-,-,K⟩:=t;rw[H.aI,G]at I K;have a2:i=1:=by
  have:(1:Int)=((i:Nat):Int):=I;omega
 subst a2;have L:y.m 1=wM:=by
  rw[K];show((u.m 1).eT (aG (strOfNums wP))).2.2=_;rw[zm,RI,RK]
 have M:(y.V.e 0 3).read=0:=by rw[gE.1,U,T,R,H.rd]
 obtain⟨b1,⟨b0,e,a3⟩,a4⟩:=P;cases e;obtain⟨p3,⟨p2,⟨p1,⟨p0,e,g⟩,j⟩,k⟩,n⟩:=a3;cases e;have vm:b1.m 1=wM:=by rw[n.m 1,az (by decide),k.m 1,az (by decide),j.m 1,az (by decide),g.m 1,az (by decide),L]
 have vr:(b1.V.e 0 3).read=0:=by rw[n.rd (by decide),k.rd (by decide),j.rd (by decide),g.rd (by decide),M]
 clear g j k n L M;obtain⟨p3,⟨p2,⟨p1,⟨p0,e,g⟩,j⟩,k⟩,n⟩:=a4;cases e;have km:p3.m 1=pq (pq (pq wM 0) 1) 2:=by
  rw[k.m 1,j.m 1,g.m 1,vm];rfl
 have kr:(p3.V.e 0 3).read=0:=by rw[k.rd (by decide),j.rd (by decide),g.rd (by decide),vr]
 obtain⟨-,-,W,N,code,data,A',-,-,⟨hd,O⟩,l,-⟩:=n;rw[km]at hd O;unfold kx;rw[l];show(p3.V.e 0 3).read+(data.length:Int)=22/\N=1;rw[kr,hd,O];exact⟨by have:=Fw.1;push_cast;omega,Fw.2⟩
def ti.rounds{a:Ns}(H:ti a):∀(t:Nat)(b:Ns),Steps (λ_=>Round) (t+1) a b->kx b:=by
 intro t;induction t with
 |zero=>rintro b⟨d,e,h⟩;cases e;exact H.round h
 |succ t c=>rintro b⟨d,e,h⟩;exact Round.dr h (c d e)
structure An(V:Nw)(m:Nat->ai):Prop where
 s0:V.st 0=.aE Al
 s1:V.st 1=.aE (Sd.new 64 116 gH false)
 m1:m 1=wN
 aI:V.aI=[]
 rd:(V.e 0 3).read=0
 fi:((V.e 0 3).finished||(V.e 0 3).given)=false
def Fz:bh 0 2=0/\bh 3 4=3/\bh 0 237=0/\bh 100 300=100:=by decide
def RL(B:jV w W n X U 0)(h0:X.st 0=.aE (Sd.new 64 116 gH true))(h:X.st 1=.aE (Sd.new 64 116 gH false))(j:U 1=wN)(d:∀i k,X.e i k=End.zero)(l:X.aI=[]):
 Calls prog 50 #[.pointer (some ⟨n,0,none⟩),.agg #[.int .i64 1,.int .i64 0,.int .i64 3,.int .i64 0,.string wS]] W λe g=>e=.returned (.bool true)/\∃a b,jV w g n a b 1/\An a b:=by
 have hs:cY.ok ⟨1,0,3,0,wS⟩:=⟨by simp[dq],by simp[dq],by simp[dq],by simp[dq],by show wS.size<=_;rw[show wS.size=22 from rfl];omega⟩
 have m:=Ff W n X U 0 B.at_ B.laid B.ok (by omega) ⟨1,0,3,0,wS⟩ hs;refine(m (λa=>∃b,bG a b 1/\An a b) rfl (by show((X.e 0 3).finished||(X.e 0 3).given)=false;rw[d];rfl) (λf N p r c K=>⟨_,K,?_⟩)).mono ?_;replace c:(X.st 0).do ⟨1,3,0,0,wS⟩=(⟨0,-1,N,0,[],[]⟩,.aE f):=c;rw[h0]at c;have e1:aJ.aE Al=.aE f:=(fG Prod.snd c:_)
 refine⟨?_,?_,?_,l,?_,?_⟩
 show aJ.aE f=_;rw[e1];exact h;exact j;show(X.e 0 3).read=0;rw[d];rfl;show((X.e 0 3).finished||(X.e 0 3).given)=false;rw[d];rfl;rintro e g⟨rfl,a,T,b,K,q⟩;exact⟨rfl,a,b,B.go T K,q⟩
def RM(B:jV w W k X U 1)(H:An X U):
 Calls prog 50 #[.pointer (some ⟨k,0,none⟩),.agg #[.int .i64 2,.int .i64 0,.int .i64 3,.int .i64 0,.string ⟨#[]⟩]] W λe g=>e=.returned (.bool true)/\∃b:Ns,il w g k b/\ti b/\b.n=2:=by
 have hs:cY.ok ⟨2,0,3,0,⟨#[]⟩⟩:=⟨by simp[dq],by simp[dq],by simp[dq],by simp[dq],iP _⟩
 have h:=Fp W k X U 1 B.at_ B.laid B.ok (by omega) ⟨2,0,3,0,⟨#[]⟩⟩ hs;refine(h (λa=>∃c,bG a c 2/\ti ⟨a,c,2⟩) rfl H.fi (λf j d K=>⟨_,K,?_⟩)).mono ?_;replace d:(X.st 0).do ⟨2,3,0,0,⟨#[]⟩⟩=(⟨0,-1,0,0,[],[]⟩,.aE f):=d;rw[H.s0]at d;have e1:aJ.aE uW=.aE f:=(fG Prod.snd d:_)
 refine⟨?_,H.s1,H.m1,H.aI,H.rd⟩
 show aJ.aE f=_;rw[e1];rintro e g⟨rfl,a,T,c,K,i⟩;exact⟨rfl,⟨a,c,2⟩,B.go T K,i,rfl⟩
def RN(w:World)(A:Laid w):Calls prog 20 #[] w λe a=>e=.returned (.bool true)/\w.grownBy a none/\Laid a:=by
 have f:=Fs w A 0 100 (by simp[dq]) (by simp[dq]);rw[Fz.2.2.1,Fz.2.2.2]at f;replace f:=J f;obtain⟨P,m⟩:∃P:Ending->World->Prop,P=λe a=>e=.returned (.bool true)/\w.grownBy a none/\Laid a:=⟨_,rfl⟩
 rw[<-m];have p:=J (λ(a:World)(g:w.grownBy a none)(l:Laid a)=>(show P (.returned (.bool true)) a by rw[m];exact⟨rfl,g,l⟩));replace m:=J m;go_enter func20,ntmps20;go_upto_region 2 with(go_at_call 49;apply(Z f).mono;rintro e I⟨nb,K,rfl,d⟩)
 have q:=d.Fu (by decide);have h:=RL q (d.st 0 (by decide)) (d.st 1 (by decide)) (by rw[d.cfg.2.2];rfl) d.e d.aI;unfold wS at h;replace h:=J h;clear q d f;go_upto_region 5 with(go_at_call 50;apply(Z h).mono;rintro e L⟨rfl,M,N,r,s⟩)
 have t:=J (RM r s);clear r s h;go_upto_region 6 with(go_at_call 50;apply(Z t).mono;rintro e B⟨rfl,b,u,n,C⟩)
 have v:=J (Rz w B nb b u 4 (by omega));replace n:=J n;clear u t C;go_upto_region 7 with(go_at_call 51;apply(Z v).mono;rintro e D⟨rfl,c,x,j,E⟩)
 obtain⟨y,z⟩:=(Z n).rounds 3 c x;obtain⟨-,c1,-,ce,cl⟩:=j.at_.nI (i:=0) (k:=3) (by decide) (by decide);obtain⟨⟨-,-,-,-,F,G,-⟩,-⟩:=j.at_.ce (i:=0) (k:=3) (by decide) (by decide);rw[y]at F;rw[z]at G;have H:=J (Z p D j.g j.laid);clear y z j x E p v n;go_wp2_with fail;exact Z H
def FF(c:0<=p/\p<=1000):∀f∈[cz p],f.ok/\cT f/\(f.ranges.length:Int)<=4611686018427387903:=λf a=>by
 rw[cL.1 a];refine⟨⟨by simp[cz,dq],by simp[cz,dq],by simp[cz,aS],?_,λr b=>(by cases b)⟩,⟨⟨by simp[cz],show p<=_ by omega,by simp[cz],by simp[cz]⟩,⟨λe=>(by simp[cz]at e),λe=>(by simp[cz]at e)⟩,by simp[cz],by simp[cz]⟩,by simp[cz]⟩
 show aS p;unfold aS;omega
def R4:2<=(bp [cz p]).length/\(bp [cz p]).length<=9:=by
 have e:bp [cz p]=28::aU p:=by simp[bp,df,cz]
 rw[e,dc];have:=gQ p;omega
def R5{b:ai}(h:dK s b n)(D:cI Y b)(h0:0<=Y.next):iW s.af s.floor Y.next=false:=by
 unfold iW;have a:∀d,Sm s.af d->d<Y.next:=λd hd=>D.ev d (h.bT.all d hd)
 have f:s.floor<=Y.next:=by
  obtain e|⟨d,hd⟩:=h.dW.ne
  omega;have:=a d hd;have:=h.dW.ab d hd;omega
 rw[dF_,tB];rw[List.any_eq_false];intro r c e;simp only[lQ,mX]at e;have:=a Y.next ⟨r,c,e.1,e.2⟩;omega
def R6(K:bG X U n)(C:n<=100000)(f:0<=r/\r<=1000):
 ∃p,(X.st 0).do ⟨8,0,0,r,⟨#[]⟩⟩=(⟨0,-1,0,0,[],[]⟩,.shut 9 [p])/\(p.length:Int)<=300/\uQ X 0 (strOfNums p) 0/\(X.st 1).do ⟨6,0,0,0,strOfNums p⟩=(⟨10,-1,0,0,[],[]⟩,.shut 10 [])/\(0<=X.bf 0/\X.bf 0<=100000000):=by
 obtain⟨s0,e0,s,g⟩:=K.aT 0 (by decide);obtain⟨s1,e1,h,E⟩:=K.aT 1 (by decide);have D:=K.dir 0 1 (by decide) (by decide) (by decide);have a:=s.c;have i:=h.c;obtain⟨c1,c2,c3,c4,c5⟩:=K.cfg 0 (by decide);have F:=g.bf;have b:(U 0).next=s0.count:=a.next;have G:=R4 (p:=r);have H:=g.aj;have j:∀x∈bp [cz r],W8 x:=zY (FF f);have t:aT s0.first=0:=by rw[<-a.aT.1,c5];rfl
 have u:aT (!s1.first)=0:=by rw[<-i.aT.2.1,<-D.me,c5];rfl
 have v:s0.key=X.key:=by rw[<-a.key];exact c4
 have w:s1.key=X.key:=by rw[<-i.key,D.key];exact c4
 have k:aS s0.count:=by unfold aS;omega
 have y:∀x∈cK X.key 0 s0.count (bp [cz r]),W8 x:=uz j;have d:aG (strOfNums (cK X.key 0 s0.count (bp [cz r])))=cK X.key 0 s0.count (bp [cz r]):=xE y;have l:eC X.key 0 (cK X.key 0 s0.count (bp [cz r])):=(zW k).2 ⟨by omega,by omega⟩;have m:bq (cK X.key 0 s0.count (bp [cz r]))=s0.count:=xC k;refine⟨cK X.key 0 s0.count (bp [cz r]),?_,?_,⟨?_,?_,?_,?_⟩,?_,?_⟩
 rw[e0];unfold aJ.do;simp only[aJ.close,Sd.gN,t,v]
 have c4:¬(4611686018427387903<r):=by omega
 simp[c4];rw[nw];push_cast;omega;rw[d];exact l;rw[d,m,c1,b];simp;rw[strOfNums_size,nw];have:s0.aj=X.aj:=by rw[<-a.aj];exact c2
 push_cast;omega;rw[strOfNums_size,nw];omega;rw[e1];unfold aJ.do;simp only[aJ.recv,d]
 have z:s1.recv (cK X.key 0 s0.count (bp [cz r]))=(10,-1,.shut 10 []):=by
  unfold Sd.recv;rw[u,w,m,xD,zV _ _ _ _ j,zU (FF f) (by simp),az (λe=>e l),az (by rw[<-b,R5 h D (by omega)];simp)];have A:(List.map gl [cz r]).any s1.fX=false:=by simp[Sd.fX,gl,cz,cu]
  simp only
  rw[A];have B:∀q:Sd,dm q (List.map gl [cz r])=(10,q):=λq=>by
   simp[dm,Sd.take,gl,cz,cu]
  rw[B];simp[Sd.gN]
 rw[z];simp;rw[c1,b];omega
def Nw.put(V:Nw)(i:Nat)(st:aJ)(A:Nat->Prop):Nw:={V with st:=ah V.st i st,A:=ah V.A i A}
structure mV(w0 wr:World)(nb:Nat)(V:Nw):Prop where
 at_:bP wr nb V
 laid:Laid wr
 g:w0.grownBy wr none
 lo:∀k,V.dw nb k->w0.heap.size<=k
def mV.go{wr:World}{b:Nw}(h:mV w wr n X)(T:bL wr n X b W):mV w W n b:=by
 have z:=h.g.size;refine⟨T.at_,T.laid,⟨T.av.os.trans h.g.os,T.av.tape.trans h.g.tape,T.av.output.trans h.g.output,bD z T.av.size,λk a _=>?_⟩,λk a=>?_⟩
 rw[T.av.block k (by omega) (λe=>by have:=h.lo k e;omega)];exact h.g.block k a (by simp);obtain q|q:=T.all k a
 exact h.lo k q;omega
def mV.gb{wr:World}(h:mV w wr n X)(g:wr.grownBy W none):mV w W n X:=h.go (bL.refl h.at_ g h.laid)
def jV.lf{wr:World}(h:jV w wr k X U n):mV w wr k X:=⟨h.at_,h.laid,h.g,h.lo⟩
def mV.len{wr:World}(h:mV w wr n X):∃a vc,wr.cell? ⟨n,20,none⟩=some (.slice a X.aI.length vc):=by
 obtain⟨a,vc,b,-⟩:=qP h.at_.aI;refine⟨a,vc,?_⟩
 rw[<-b];exact h.at_.c.1.2.2.2.2.1
def mV.do{wr:World}(h:mV w wr j X){i:Nat}(hi:i<2)(g:dU n (X.st i))(l:n<=100000)(q:fK)(p:aS q.code)(hd:q.data.size<=1000000){r:Rs}{st':aJ}(s:(X.st i).do q=(r,st')):
 Calls prog 28 #[.pointer (some ⟨X.xb i,0,none⟩),.agg (cD q)] wr (λe d=>∃a m c b,e=.returned (.agg (ja r (.slice a m c)))/\mV w d j (X.put i st' b)/\ao wr d (X.A i)/\∀k,(X.put i st' b).dw j k->X.dw j k\/wr.heap.size<=k):=by
 have f:=z9 wr (X.xb i) (X.sb i) (X.st i) (X.A i) n (h.at_.side i hi) g l h.laid q p hd;rw[s]at f;apply f.mono;rintro e d⟨a,m,c,rfl,v,b,t,u,C,x⟩;have T:=h.at_.Aa h.laid hi C t u;exact⟨a,m,c,b,rfl,h.go T,C,T.all⟩
def Ao{α:Type}(f:Nat->α)(x:α):ah f 0 x 1=f 1:=bm _ _ (by decide)
def FG{α:Type}(f:Nat->α)(x:α):ah f 1 x 0=f 0:=bm _ _ (by decide)
structure fj(C:Int)(w0 wr:World)(nb:Nat)(V:Nw)(s0 s1:aJ)(aI:List (Int×ByteArray)):Prop where
 L:mV w0 wr nb V
 e0:V.st 0=s0
 e1:V.st 1=s1
 bg:V.aI=aI
 cn:∀i,i<2->0<=V.bf i/\V.bf i<=C
def Kp(wr a:World)(nb:Nat)(V:Nw):Prop:=∀R cs t,wr.heap[R]?=some (.cells cs t (0,0))->¬V.dw nb R->a.heap[R]?=some (.cells cs t (0,0))
def Kp.of{wr:World}{b:Nw}(T:bL wr n X b w):Kp wr w n X:=λR cs t a c=>by
 rw[T.av.block R (aZ.1 a).1 c];exact a
def fj.gb{wr:World}{s1:aJ}{aI:List (Int×ByteArray)}(h:fj p w wr n X I s1 aI)(g:wr.grownBy W none):fj p w W n X I s1 aI:=⟨h.L.gb g,h.e0,h.e1,h.bg,h.cn⟩
def fj.FH{wr:World}{s1:aJ}{aI:List (Int×ByteArray)}(h:fj p w wr j X I s1 aI)(g:dU n I)(l:n<=100000)(q:fK)(s:aS q.code)(hd:q.data.size<=1000000){r:Rs}{b:aJ}(t:I.do q=(r,b)):
 Calls prog 28 #[.pointer (some ⟨X.xb 0,0,none⟩),.agg (cD q)] wr (λe f=>∃a m c d,e=.returned (.agg (ja r (.slice a m c)))/\fj p w f j (X.put 0 b d) b s1 aI/\ao wr f (X.A 0)/\∀k,(X.put 0 b d).dw j k->X.dw j k\/wr.heap.size<=k):=by
 refine(h.L.do (i:=0) (by decide) (by rw[h.e0];exact g) l q s hd (r:=r) (st':=b) (by rw[h.e0];exact t)).mono ?_;rintro e f⟨a,m,c,d,rfl,L,p,T⟩;exact⟨a,m,c,d,rfl,⟨L,bk X.st 0 b,(Ao X.st b).trans h.e1,h.bg,h.cn⟩,p,T⟩
def fj.FI{wr:World}{s1:aJ}{aI:List (Int×ByteArray)}(h:fj p w wr j X I s1 aI)(g:dU n s1)(l:n<=100000)(q:fK)(s:aS q.code)(hd:q.data.size<=1000000){r:Rs}{b:aJ}(t:s1.do q=(r,b)):
 Calls prog 28 #[.pointer (some ⟨X.xb 1,0,none⟩),.agg (cD q)] wr (λe f=>∃a m c d,e=.returned (.agg (ja r (.slice a m c)))/\fj p w f j (X.put 1 b d) I b aI/\ao wr f (X.A 1)/\∀k,(X.put 1 b d).dw j k->X.dw j k\/wr.heap.size<=k):=by
 refine(h.L.do (i:=1) (by decide) (by rw[h.e1];exact g) l q s hd (r:=r) (st':=b) (by rw[h.e1];exact t)).mono ?_;rintro e f⟨a,m,c,d,rfl,L,p,T⟩;exact⟨a,m,c,d,rfl,⟨L,(FG X.st b).trans h.e0,bk X.st 1 b,h.bg,h.cn⟩,p,T⟩
def fj.av{wr:World}{s1:aJ}{aI:List (Int×ByteArray)}(h:fj p w wr n X I s1 aI)(D:ao wr W (λk=>k=j))(d:w.heap.size<=j)(h0:j≠0)(b:¬X.dw n j):fj p w W n X I s1 aI:=by
 have a:=h.L.g;have z:=a.size;refine⟨⟨h.L.at_.other D (λk _ e=>by subst e;exact⟨λe=>b (.inl e),λi hi e=>b (.inr ⟨i,hi,e⟩)⟩),?_,⟨D.os.trans a.os,D.tape.trans a.tape,D.output.trans a.output,bD z D.size,λk c _=>?_⟩,h.L.lo⟩,h.e0,h.e1,h.bg,h.cn⟩
 have hl:=h.L.laid;exact(jX (D.block 0 hl.lt (λe=>h0 e.symm))).trans hl;rw[D.block k (by omega) (λe=>by omega)];exact a.block k c (by simp)
def fj.xc{wr:World}{s1:aJ}{aI:List (Int×ByteArray)}(h:fj p w wr n X I s1 aI)(hi:i<2):wr.cell? ⟨n,0,none⟩=some (.slice (some ⟨X.xr,0,none⟩) 2 X.xc)/\wr.cell? ⟨X.xr,i,none⟩=some (.pointer (some ⟨X.xb i,0,none⟩)):=⟨h.L.at_.c.1.1,h.L.at_.x i hi⟩
def jV.R7{wr:World}(h:jV w wr k X U n)(a:n<=100000):fj 10000000 w wr k X (X.st 0) (X.st 1) X.aI:=⟨h.lf,rfl,rfl,rfl,λi hi=>by
 obtain⟨s,-,R,O⟩:=h.ok.aT i hi;have b:=(h.ok.cfg i hi).1;have d:=R.c.next;have e:=O.bf;omega⟩
def qk{a c d:Value}(h:w.heap[b]?=some (.cells #[x,y,z,a,c,d] T (0,0))):(w.cell? ⟨b,0,none⟩=some x/\w.cell? ⟨b,1,none⟩=some y/\w.cell? ⟨b,2,none⟩=some z/\w.cell? ⟨b,3,none⟩=some a/\w.cell? ⟨b,4,none⟩=some c/\w.cell? ⟨b,5,none⟩=some d)/\∀o,w.frozen? ⟨b,o,none⟩=false:=by
 refine⟨?_,λo=>by simp[World.frozen?,h]⟩
 simp[World.cell?,h]
def Ap{o:Obj}(C:ao (w.alloc o) W S)(a:∀k,S k->k<w.heap.size):W.heap[w.heap.size]?=some o:=
 (C.block w.heap.size (by rw[dL];exact Nat.lt_succ_self _) (λe=>Nat.lt_irrefl _ (a _ e))).trans (aO _ _)
def FJ{o:Obj}(C:ao (w.alloc o).drew W S)(a:∀k,S k->k<w.heap.size):W.heap[w.heap.size]?=some o:=Ap (w:=w) ⟨C.os,C.tape,C.output,C.size,C.block⟩ a
def fj.qg{wr:World}{s1:aJ}{aI:List (Int×ByteArray)}{x:Int×ByteArray}(h:fj p w wr n X I s1 (aI++[x])):∃g c,wr.cell? ⟨n,20,none⟩=some (.slice (some ⟨g,0,none⟩) (aI.length+1) c)/\wr.cell? ⟨g,aI.length*2+1,none⟩=some (.string x.2)/\X.vb.ownBlock=some g:=by
 have e:X.aI.length=aI.length+1:=by rw[h.bg];simp
 obtain⟨g,c,e1,c0,-,c2⟩:=h.L.at_.qg (q:=aI.length) (by omega);have e2:jH X.aI aI.length=x:=by rw[h.bg];simp[jH,List.getD]
 rw[e]at c0;rw[e2]at c2;exact⟨g,c,c0,c2,by rw[e1];rfl⟩
def fj.err{wr:World}{s1:aJ}{aI:List (Int×ByteArray)}(h:fj p w wr n X I s1 aI)(hi:i<2):Calls prog 30 #[.pointer (some ⟨X.xb i,0,none⟩)] wr λe a=>e=.returned (.int .i64 (X.st i).aA)/\wr.grownBy a none:=NW wr (X.xb i) (X.sb i) (X.st i) (X.A i) (h.L.at_.side i hi) h.L.laid
def nL(C:Int)(w0:World)(nb:Nat)(V:Nw)(i:Nat)(st:aJ)(s0 s1:aJ)(aI:List (Int×ByteArray))(e:Int)(a:Value)(wx:World):Prop:=∃R sl A,a=.pointer (some ⟨R,0,none⟩)/\w0.heap.size<=R/\wx.heap[R]?=some (.cells #[.int .i64 e,.int .i64 (-1),.int .i64 0,.int .u64 0,.string ⟨#[]⟩,sl] 46 (0,0))/\¬(V.put i st A).dw nb R/\fj C w0 wx nb (V.put i st A) s0 s1 aI
def nL.new{s0 s1:aJ}{aI:List (Int×ByteArray)}(L:fj p w W n (X.put i I S) s0 s1 aI)(e:Int)(sl:Value):nL p w n X i I s0 s1 aI e (.pointer (some ⟨W.heap.size,0,none⟩)) (W.alloc (.cells #[.int .i64 e,.int .i64 (-1),.int .i64 0,.int .u64 0,.string ⟨#[]⟩,sl] 46)):=
 ⟨_,sl,S,rfl,L.L.g.size,aO _ _,λe=>Nat.lt_irrefl _ (L.L.at_.qe _ e),L.gb (aH _ _ _)⟩
def R9(w:World)(R:Nat)(e:Int)(sl:Value):World:=(((((w.setCell ⟨R,0,none⟩ (.int .i64 e)).setCell ⟨R,1,none⟩ (.int .i64 (-1))).setCell ⟨R,2,none⟩ (.int .i64 0)).setCell ⟨R,3,none⟩ (.int .u64 0)).setCell ⟨R,4,none⟩ (.string ⟨#[]⟩)).setCell ⟨R,5,none⟩ sl
def nL.gM{s0 s1:aJ}{aI:List (Int×ByteArray)}(L:fj p w W n (X.put i I S) s0 s1 aI)(h0:0<w.heap.size)(a:w.heap.size<=k)(b:¬(X.put i I S).dw n k){c d f:Value}(g:W.heap[k]?=some (.cells #[x,y,z,c,d,f] 46 (0,0)))(e:Int)(sl:Value):
 nL p w n X i I s0 s1 aI e (.pointer (some ⟨k,0,none⟩)) (R9 W k e sl):=
 ⟨_,sl,S,rfl,a,zZ g _ _ _ _ _ _,b,L.av (xF _ _ _ _ _ _) a (by omega) b⟩
def xJ(c:ao w W S)(h:w.heap.size<=n)(a b d f g a5:Value):ao w ((((((W.setCell ⟨n,0,none⟩ a).setCell ⟨n,1,none⟩ b).setCell ⟨n,2,none⟩ d).setCell ⟨n,3,none⟩ f).setCell ⟨n,4,none⟩ g).setCell ⟨n,5,none⟩ a5) S:=
 (c.trans (xF a b d f g a5)).mono (λk i e=>e.elim id (λe=>absurd e (by omega)))
def tj(c:ao w W S)(o:Obj):ao w (W.alloc o) S:=(c.trans (ao.of (aH W o none))).mono (λk _ e=>e.elim id (λe=>by cases e))
def tm(c:ao w W S)(d:ao W v S):ao w v S:=(c.trans d).mono (λk _ e=>e.elim id id)
def tp(g:w.grownBy W none):ao w W S:=(ao.of g).mono (λk _ e=>by cases e)
def xK{a:Nw}(b:∀k,X.dw n k->k<w.heap.size)(T:∀k,a.dw n k->X.dw n k\/W.heap.size<=k)(c:w.heap.size<W.heap.size):¬a.dw n w.heap.size:=λe=>by
 obtain q|q:=T _ e
 exact Nat.lt_irrefl _ (b _ q);omega
def bP.kc(a:bP w n X)(hi:i<2)(D:ao w W (X.A i))(b:X.Own n k)(h:w.cell? ⟨k,o,none⟩=some x):W.cell? ⟨k,o,none⟩=some x:=
 (jX (D.block k (a.fc k b) ((a.own k b).2 i hi))).trans h
def Aq(aA:Int)(l:List (List Int)):(aJ.shut aA l).do ⟨5,0,0,0,⟨#[]⟩⟩=(⟨0,-1,0,0,[],l⟩,.shut aA []):=by
 unfold aJ.do;rw[az (by decide),az (by decide),az (by decide),az (by decide),aD rfl];rfl
def fj.Sa{wr:World}{aI:List (Int×ByteArray)}(h:fj q w wr n X (.shut r [K]) I aI)(hp:(K.length:Int)<=300)(hF:uQ X 0 (strOfNums K) 0)(d:aI.length<=9000000)(l:q<=1000000000):
 Calls prog 29 #[.pointer (some ⟨n,0,none⟩),.int .i64 0] wr (λe a=>e=.returned (.bool true)/\∃b,fj (q+1) w a n b (.shut r []) I (aI++[(1,strOfNums K)])/\Kp wr a n X/\∀k,b.dw n k->X.dw n k\/wr.heap.size<=k):=by
 have f:0<=X.bf 0/\X.bf 0<=1000000000000:=by have:=h.cn 0 (by decide);omega
 have:=uR wr n X h.L.at_ h.L.laid 0 1 (by decide) rfl 0 (by rw[h.e0];exact⟨by simp,λx g=>by rw[cL.1 g];exact hp⟩) (by omega) [K] (by simp) (by rw[h.bg];exact d) f (.shut r []) (by rw[h.e0];exact Aq r [K]) (λj c=>by
  obtain rfl:j=0:=by simp at c;exact c
  exact hF)
 refine Calls.mono this ?_;rintro e a⟨rfl,m,v,T⟩;refine⟨rfl,_,⟨h.L.go T,bk X.st 0 _,(Ao X.st (.shut r [])).trans h.e1,?_,λi hi=>?_⟩,Kp.of T,T.all⟩
 show X.aI++_=_;rw[h.bg];rfl;have:=h.cn i hi;show 0<=ah X.bf 0 _ i/\ah X.bf 0 _ i<=_;by_cases e:i=0;subst e;rw[bk];simp only[dc,fe];omega;rw[bm _ _ e];omega
def fj.Sb{wr:World}{aI:List (Int×ByteArray)}(h:fj p w wr n X (.shut q []) I aI)(c:aI.length<=9000000)(l:p<=1000000000):
 Calls prog 29 #[.pointer (some ⟨n,0,none⟩),.int .i64 0] wr (λe a=>e=.returned (.bool true)/\∃b,fj p w a n b (.shut q []) I aI/\Kp wr a n X/\∀k,b.dw n k->X.dw n k\/wr.heap.size<=k):=by
 have d:0<=X.bf 0/\X.bf 0<=1000000000000:=by have:=h.cn 0 (by decide);omega
 have:=uR wr n X h.L.at_ h.L.laid 0 1 (by decide) rfl 0 (by rw[h.e0];exact⟨by simp,λx f=>by cases f⟩) (by omega) [] (by simp) (by rw[h.bg];exact c) d (.shut q []) (by rw[h.e0];exact Aq q []) (λj g=>by simp at g);refine Calls.mono this ?_;rintro e a⟨rfl,m,v,T⟩;refine⟨rfl,_,⟨h.L.go T,bk X.st 0 _,(Ao X.st (.shut q [])).trans h.e1,?_,λi hi=>?_⟩,Kp.of T,T.all⟩
 show X.aI++_=_;rw[h.bg];simp;have:=h.cn i hi;show 0<=ah X.bf 0 _ i/\ah X.bf 0 _ i<=_;by_cases e:i=0;subst e;rw[bk];simp only[dc,fe];omega;rw[bm _ _ e];omega
def fj.Sc{wr:World}{aI:List (Int×ByteArray)}(h:fj p w wr n X I (.shut q []) aI)(c:aI.length<=9000000)(l:p<=1000000000):
 Calls prog 29 #[.pointer (some ⟨n,0,none⟩),.int .i64 1] wr (λe a=>e=.returned (.bool true)/\∃b,fj p w a n b I (.shut q []) aI/\Kp wr a n X/\∀k,b.dw n k->X.dw n k\/wr.heap.size<=k):=by
 have d:0<=X.bf 1/\X.bf 1<=1000000000000:=by have:=h.cn 1 (by decide);omega
 have:=uR wr n X h.L.at_ h.L.laid 1 0 (by decide) rfl 0 (by rw[h.e1];exact⟨by simp,λx f=>by cases f⟩) (by omega) [] (by simp) (by rw[h.bg];exact c) d (.shut q []) (by rw[h.e1];exact Aq q []) (λj g=>by simp at g);refine Calls.mono this ?_;rintro e a⟨rfl,m,v,T⟩;refine⟨rfl,_,⟨h.L.go T,(FG X.st (.shut q [])).trans h.e0,bk X.st 1 _,?_,λi hi=>?_⟩,Kp.of T,T.all⟩
 show X.aI++_=_;rw[h.bg];simp;have:=h.cn i hi;show 0<=ah X.bf 1 _ i/\ah X.bf 1 _ i<=_;by_cases e:i=1;subst e;rw[bk];simp only[dc,fe];omega;rw[bm _ _ e];omega
def Se(aA:Int)(l:List (List Int)):(aJ.shut aA l).do ⟨7,0,10,0,⟨#[]⟩⟩=(⟨9,-1,0,0,[],[]⟩,.shut aA l):=by
 unfold aJ.do;rw[az (by decide),az (by decide),az (by decide),az (by decide),az (by decide),az (by decide),aD rfl];rfl
def Sf(aA:Int)(l:List (List Int))(b:ByteArray):(aJ.shut aA l).do ⟨1,0,0,0,b⟩=(⟨9,-1,0,0,[],[]⟩,.shut aA l):=by
 unfold aJ.do;rw[aD rfl];rfl
def FK{a:Nw}{o:Obj}(b:w.heap[i]?=some o)(c:¬X.dw n i)(T:∀k,a.dw n k->X.dw n k\/w.heap.size<=k):¬a.dw n i:=λe=>by
 have:=(aZ.1 b).1;obtain q|q:=T _ e
 exact c q;omega
def Sg(w:World)(hL:Laid w)(a:Option Addr)(n cap:Nat)(ss:List cY)(H:qi w a n cap ss)(mt wi co:Int)(hm:dq mt)(hw:dq wi)(ei:dq co)(cm:Bool):
 Calls prog 10 #[.slice a n cap,.int .i64 mt,.int .i64 wi,.int .i64 co,.bool cm] w λe N=>e=.returned (.bool true)/\w.grownBy N none:=by
 have hS:=Rt w a n cap ss H;unfold Ft at hS;replace hS:=J hS;have hW:=J (λW(g:w.grownBy W none)=>RN W (hL.gb g));have hP:=J (λW(g:w.grownBy W none)(l:Laid W)(h1:ss.length<=8192)(h2:∀s∈ss,s.s.size<=8192)=>Ru W l a n cap ss (H.an g) h1 h2 0 mt wi hm hw);have ej:=J (λW=>eZ co 1000 W ei.1 ei.2 (by decide) (by decide));clear H hL hm hw ei;obtain⟨c,ek⟩:=exq (bh co 1000);have gq:(c:Int)<1000:=by rw[ek];exact eP co (by decide)
 rw[<-ek]at ej;clear ek;have gr:IntKind.u64.wrap (c:Int)=(c:Int):=by simp[IntKind.wrap,IntKind.bits,IntKind.signed];omega
 obtain⟨P,cx⟩:∃P:Ending->World->Prop,P=λe N=>e=.returned (.bool true)/\w.grownBy N none:=⟨_,rfl⟩
 rw[<-cx];have cy:=J (λ(N:World)(g:w.grownBy N none)=>(show P (.returned (.bool true)) N by rw[cx];exact⟨rfl,g⟩));replace cx:=J cx;go_enter func10,ntmps10;go_upto_region 2 with(go_at_call 19;apply(Z hS).mono;rintro e w1⟨g1,b,rfl,aa⟩)
 have eS:=J (Z hW w1 g1);clear hW hS;replace aa:=J aa;go_upto_region 3 with(go_at_call 20;apply(Z eS).mono;rintro e w2⟨rfl,g2,l2⟩)
 have g3:=aq g1 g2;clear eS;cases b
 ·clear aa hP;have hf:=J (Z cy _ g3);clear cy;replace g3:=J g3;go_wp2_with fail;first|exact Z hf|(go_ret;exact Z hf)
 obtain⟨h1,h2⟩:=Z aa rfl;have b5:=Z hP w2 g3 l2 h1 h2;unfold Aj at b5;replace b5:=J b5;clear aa hP h1 h2;replace g3:=J g3;go_upto_region 6 with(go_at_call 21;apply(Z b5).mono;rintro e f⟨nb,V,m,n',rfl,gu,B⟩)
 clear b5;have X:=B.R7 (by omega);obtain⟨p,c9,e3,db,bj,-⟩:=R6 B.ok (by omega) (r:=(c:Int)) ⟨by omega,by omega⟩;have de:=B.ok.ok (i:=0) (by decide);have br:=B.ok.ok (i:=1) (by decide);have gg:=B.ok.lb;clear B;have hx:∀W,ao f W (V.A 0)->W.cell? ⟨nb,0,none⟩=some (.slice (some ⟨V.xr,0,none⟩) 2 V.xc)/\W.cell? ⟨V.xr,0,none⟩=some (.pointer (some ⟨V.xb 0,0,none⟩)):=λW D=>by
  have h1:=X.xc (i:=0) (by decide);have a1:=X.L.at_;refine⟨(jX (D.block nb (a1.fc nb (.inl rfl)) ((a1.own nb (.inl rfl)).2 0 (by decide)))).trans h1.1,(jX (D.block V.xr (a1.fc _ (.inr (.inl rfl))) ((a1.own _ (.inr (.inl rfl))).2 0 (by decide)))).trans h1.2⟩
 have eo:=λW D=>(hx W D).1
 have ew:=λW D=>(hx W D).2
 clear hx;have al:=λW(g:f.grownBy W none)=>(X.gb g).FH de (by omega) ⟨8,0,0,(c:Int),⟨#[]⟩⟩ (by unfold aS;simp only;omega) (iP _) c9
 unfold cD ja at al;simp only[mJ]at al;replace⟨al,db,c9,bj,de,br⟩:=nZ al db c9 bj de br;have z0:0<w2.heap.size:=l2.lt;have zz:=J (X.L.g.size);have a0:=J (X.L.at_.qe);have a2:Hid (∀k,V.A 0 k->k<f.drew.heap.size):=J (λk e=>X.L.at_.qe k (.inr ⟨0,by decide,e⟩));replace X:=J X;have E:f.grownBy f none:=aB _ _;have Y:f.grownBy f.drew none:=aV E;have cd:ao f f.drew (V.A 0):=tp Y;have cw:ao f f (V.A 0):=tp E;have cA:=tj cd;have cB:=tj cw;have cC:∀o,ao f (f.alloc o).drew (V.A 0):=λo=>tp (aV (aY E o))
 obtain⟨Q,r⟩:=exq (nL 10000000 w2 nb V 0 (.shut 9 [p]) (.shut 9 [p]) (V.st 1) V.aI 0);replace r:=J r;have a3:∀o,f.heap.size<(f.drew.alloc o).heap.size:=λo=>by rw[dL];exact Nat.lt_succ_self _
 have b6:∀o,f.heap.size<(f.alloc o).drew.heap.size:=a3;go_upto_region 8 with fail;go_cut [14] (λrv wx=>Q rv wx);case first=>
  go_region_held3 (λN=>ao f N (V.A 0))
   (with_reducible first|exact cd|exact cw|exact cA _|exact c5|exact c6 _ _ _ _ _ _|exact c7 _|exact cB _|exact cC _)
   (first|(go_at_call 23;apply(Z ej _).mono;rintro e O⟨rfl,rfl⟩)|(go_at_call 28;apply(Z al _ Y).mono;rintro e O⟨a5,G,I,A5,rfl,q,t,u⟩;have F:=J (nL.new q 0 (.slice a5 G I));rw[<-Z r]at F;clear q u;have c5:=tm cd t;have c7:=tj c5)|(go_at_call 28;apply(Z al _ (aY Y _)).mono;rintro e O⟨a5,G,I,A5,rfl,q,t,u⟩;have c5:=tm (cA _) t;have h:O.heap[f.heap.size]?=some (.cells #[.int .i64 0,.int .i64 0,.int .i64 0,.int .u64 0,.string ⟨#[]⟩,.slice none 0 0] 46 (0,0)):=Ap (w:=f.drew) t (Z a2);obtain⟨⟨S,y1,y2,y3,y4,y5⟩,fz⟩:=qk h;have F:=J (nL.gM q z0 (Z zz) (xK (Z a0) u (a3 _)) h 0 (.slice a5 G I));rw[<-Z r]at F;clear q u;replace h:=J h;have c6:=xJ c5 (aR f.heap.size))|(go_at_call 28;apply(Z al _ (aV (aY E _))).mono;rintro e O⟨a5,G,I,A5,rfl,q,t,u⟩;have c5:=tm (cC _) t;have h:O.heap[f.heap.size]?=some (.cells #[.int .i64 0,.int .i64 0,.int .i64 0,.int .u64 0,.string ⟨#[]⟩,.slice none 0 0] 46 (0,0)):=FJ (w:=f) t (Z a2);obtain⟨⟨S,y1,y2,y3,y4,y5⟩,fz⟩:=qk h;have F:=J (nL.gM q z0 (Z zz) (xK (Z a0) u (b6 _)) h 0 (.slice a5 G I));rw[<-Z r]at F;clear q u;replace h:=J h;have c6:=xJ c5 (aR f.heap.size)))
  all_goals go_wp2_with fail
  all_goals go_meet
  all_goals exact Z F
 case rest=>
  have hc:=hcut;rw[Z r]at hc;obtain⟨R,sl,A5,rfl,gw,h,b7,L6⟩:=hc;clear hcut r cA cB cC cd cw Y E a3 b6 eo ew a2 a0 al ej zz;have b8:uQ (V.put 0 (.shut 9 [p]) A5) 0 (strOfNums p) 0:=by
   have:=Z db;exact⟨this.ok,this.num,this.len,this.ne⟩
  clear db;obtain⟨V5,e4⟩:=exq (V.put 0 (.shut 9 [p]) A5);rw[<-e4]at b8 b7 L6;clear e4;obtain⟨bg,e5⟩:=exq V.aI;obtain⟨s1,e6⟩:=exq (V.st 1);rw[<-e5]at L6 gg;rw[<-e6]at L6 bj br;clear e5 e6 c9 de X;obtain⟨B,a4⟩:=exq bg.length;obtain⟨va,vc,e7⟩:∃va vc,wc.cell? ⟨nb,20,none⟩=some (.slice va B vc):=by rw[a4,<-L6.bg];exact L6.L.len
  have ax:=J (L6.Sa e3 b8 (by omega) (by omega));have gA:B<=1638400:=by omega
  have hK:=J (λ(d:World)(K7:Kp wc d nb V5)=>K7 R _ _ h b7);have ey:=J (λ(C:Int)(d:World)(j:Nw)(s0 s1:aJ)(v:fj C w2 d nb j s0 s1 (bg++[(1,strOfNums p)]))=>(show∃va vc,d.cell? ⟨nb,20,none⟩=some (.slice va (B+1) vc) by
   have:=v.L.len;rw[v.bg,bH,<-a4]at this;exact this))
  replace⟨a4,L6,h,b7,b8⟩:=eR a4 L6 h b7 b8;have gB:IntKind.i64.wrap ((B:Int)+1)=(B:Int)+1:=wI_;go_upto_region 11 with(go_at_call 29;apply(Z ax).mono;rintro e d⟨rfl,j,v,K7,-⟩)
  obtain⟨⟨S,-⟩,-⟩:=qk (Z hK d K7);obtain⟨gE,gU,e8⟩:=Z ey _ _ _ _ _ v;clear ax hK e7 K7 h b7 b8 L6;replace v:=J v;go_upto_if 74 with fail;go_cut [] (λwx=>∃V' s',fj (10000000+1) w2 wx nb V' (.shut 9 []) s' (bg++[(1,strOfNums p)]));case first=>
   cases cm
   ·go_wp2_with fail;go_meet;exact⟨j,s1,Z v⟩
   have a7:=(Z v).L.at_;have a0:=J a7.qe;have a2:Hid (∀k,j.A 1 k->k<d.heap.size):=J (λk e=>a7.qe k (.inr ⟨1,by decide,e⟩));obtain⟨g,vg,ez,eK,qo⟩:=(Z v).qg;rw[<-Z a4]at ez eK;have eo:∀W,ao d W (j.A 1)->W.cell? ⟨nb,0,none⟩=some (.slice (some ⟨j.xr,0,none⟩) 2 j.xc):=λW D=>a7.kc (by decide) D (.inl rfl) a7.c.1.1
   have ew:∀W,ao d W (j.A 1)->W.cell? ⟨j.xr,1,none⟩=some (.pointer (some ⟨j.xb 1,0,none⟩)):=λW D=>a7.kc (by decide) D (.inr (.inl rfl)) (a7.x 1 (by decide))
   have gh:∀W,ao d W (j.A 1)->W.cell? ⟨nb,20,none⟩=some (.slice (some ⟨g,0,none⟩) (B+1) vg):=λW D=>a7.kc (by decide) D (.inl rfl) ez
   have e9:∀W,ao d W (j.A 1)->W.cell? ⟨g,B*2+1,none⟩=some (.string (strOfNums p)):=λW D=>a7.kc (by decide) D (.inr (.inr (.inr (.inr (.inr (.inr qo)))))) eK
   have T:=λW(g:d.grownBy W none)=>((Z v).gb g).FI (Z br) (by omega) ⟨6,0,0,0,strOfNums p⟩ (by simp[aS]) (by rw[strOfNums_size];omega) (Z bj)
   unfold cD ja at T;simp only[mJ]at T;replace T:=J T;clear a7 ez eK qo e8;obtain⟨sp,dg⟩:=exq (strOfNums p);rw[<-dg]at e9 T;obtain⟨fa,ca⟩:=exq (bg++[(1,sp)]);rw[<-ca]at T;replace⟨dg,ca⟩:=bA dg ca;have j0:(0:Int)<=B:=by omega
   have j1:(B:Int)<((B+1:Nat):Int):=by omega
   have j2:(B:Int)<B+1:=by omega
   have E:d.grownBy d none:=aB _ _;have zz:=J (Z v).L.g.size;have Y:d.grownBy d.drew none:=aV E;have cd:ao d d.drew (j.A 1):=tp Y;have cw:ao d d (j.A 1):=tp E;have cA:=tj cd;have cB:=tj cw;have cC:∀o,ao d (d.alloc o).drew (j.A 1):=λo=>tp (aV (aY E o))
   obtain⟨Q,r⟩:=exq (nL (10000000+1) w2 nb j 1 (.shut 10 []) (.shut 9 []) (.shut 10 []) fa 10);replace r:=J r;have a3:∀o,d.heap.size<(d.drew.alloc o).heap.size:=λo=>by rw[dL];exact Nat.lt_succ_self _
   have b6:∀o,d.heap.size<(d.alloc o).drew.heap.size:=a3;go_upto_region 14 with fail;go_cut [16] (λrv wx=>Q rv wx);case first=>
    go_region_held3 (λN=>ao d N (j.A 1))
     (with_reducible first|exact cd|exact cw|exact cA _|exact c5|exact c6 _ _ _ _ _ _|exact c7 _|exact cB _|exact cC _)
     (first|(go_at_call 28;apply(Z T _ Y).mono;rintro e O⟨a5,G,I,A5,rfl,q,t,u⟩;have F:=J (nL.new q 10 (.slice a5 G I));rw[<-Z r]at F;clear q u;have c5:=tm cd t;have c7:=tj c5)|(go_at_call 28;apply(Z T _ (aY Y _)).mono;rintro e O⟨a5,G,I,A5,rfl,q,t,u⟩;have c5:=tm (cA _) t;have h:O.heap[d.heap.size]?=some (.cells #[.int .i64 0,.int .i64 0,.int .i64 0,.int .u64 0,.string ⟨#[]⟩,.slice none 0 0] 46 (0,0)):=Ap (w:=d.drew) t (Z a2);obtain⟨⟨S,y1,y2,y3,y4,y5⟩,fz⟩:=qk h;have F:=J (nL.gM q z0 (Z zz) (xK (Z a0) u (a3 _)) h 10 (.slice a5 G I));rw[<-Z r]at F;clear q u;replace h:=J h;have c6:=xJ c5 (aR d.heap.size))|(go_at_call 28;apply(Z T _ (aV (aY E _))).mono;rintro e O⟨a5,G,I,A5,rfl,q,t,u⟩;have c5:=tm (cC _) t;have h:O.heap[d.heap.size]?=some (.cells #[.int .i64 0,.int .i64 0,.int .i64 0,.int .u64 0,.string ⟨#[]⟩,.slice none 0 0] 46 (0,0)):=FJ (w:=d) t (Z a2);obtain⟨⟨S,y1,y2,y3,y4,y5⟩,fz⟩:=qk h;have F:=J (nL.gM q z0 (Z zz) (xK (Z a0) u (b6 _)) h 10 (.slice a5 G I));rw[<-Z r]at F;clear q u;replace h:=J h;have c6:=xJ c5 (aR d.heap.size)))
    all_goals go_wp2_with fail
    all_goals go_meet
    all_goals exact Z F
   case rest=>
    have hc:=hcut;rw[Z r]at hc;obtain⟨K,gW,A8,rfl,gi,dk,bt,L8⟩:=hc;clear hcut r cA cB cC cd cw Y E a3 b6 eo ew gh e9 a2 a0 T j0 j1 j2 zz v br bj;obtain⟨V8,fb⟩:=exq (j.put 1 (.shut 10 []) A8);rw[<-fb]at bt L8;clear fb;have y:=L8.err (i:=1) (by decide);rw[L8.e1]at y;simp only[aJ.aA]at y;replace y:=J y;obtain⟨x0,x1⟩:=L8.xc (i:=1) (by decide);have ch:fa.length<=9000000:=by rw[Z ca,bH,<-Z a4];simp;omega
    have ff:=J (λ(w9:World)(g9:wc.grownBy w9 none)=>And.intro (bB dk g9) (L8.gb g9));replace⟨dk,L8,bt,ch⟩:=eV dk L8 bt ch;go_upto_region 16 with(go_at_call 30;apply(Z y).mono;rintro e w9⟨rfl,g9⟩)
    obtain⟨bx,L9⟩:=Z ff w9 g9;obtain⟨⟨S,-⟩,-⟩:=qk bx;have ax:=J (L9.Sc (Z ch) (by omega));have hK:=J (λ(bz:World)(a8:Nw)(dn:Kp w9 bz nb V8)(ds:∀k,a8.dw nb k->V8.dw nb k\/w9.heap.size<=k)=>And.intro (dn K _ _ bx (Z bt)) (FK bx (Z bt) ds));clear y ff x0 x1 L8 dk;replace⟨L9,bx⟩:=bA L9 bx;go_upto_region 19 with(go_at_call 29;apply(Z ax).mono;rintro e bz⟨rfl,a8,M,dn,ds⟩)
    obtain⟨bM,cj⟩:=Z hK bz a8 dn ds;have z:=M.FI (n:=0) ⟨by simp,λx hx=>by cases hx⟩ (by omega) ⟨7,0,10,0,⟨#[]⟩⟩ (by simp[aS]) (iP _) (Se 10 []);unfold cD ja at z;simp only[mJ]at z;replace z:=J z;obtain⟨x0,x1⟩:=M.xc (i:=1) (by decide);have fo:=J (λ(U:World)(du:ao bz U (a8.A 1))=>(show U.heap[K]?=_ from(du.block K (aZ.1 bM).1 (λe=>cj (.inr ⟨1,by decide,e⟩))).trans bM));have fq:=J (λ(gj:Nw)(dx:∀k,gj.dw nb k->a8.dw nb k\/bz.heap.size<=k)=>FK bM cj dx);clear ax hK dn ds S L9 bx bt;replace⟨M,bM,cj⟩:=cg M bM cj;go_upto_region 20 with(go_at_call 28;apply(Z z).mono;rintro e U⟨b0,b3,b4,fs,rfl,a9,du,dx⟩;have cp:=Z fo U du;obtain⟨⟨S,y1,y2,y3,y4,y5⟩,fz⟩:=qk cp;have fy:=J (Z fq _ dx);clear dx du;replace a9:=J a9;replace cp:=J cp)
    have fA:K≠0:=by omega
    have ga:=J (λ(sl:Value)=>(Z a9).av (xF (w:=U) (b:=K) (.int .i64 9) (.int .i64 (-1)) (.int .i64 0) (.int .u64 0) (.string ⟨#[]⟩) sl) gi fA (Z fy));have hX:=J (λ(sl:Value)=>qk (zZ (Z cp) (.int .i64 9) (.int .i64 (-1)) (.int .i64 0) (.int .u64 0) (.string ⟨#[]⟩) sl));obtain⟨dE,bb⟩:=exq (((((((U.setCell ⟨K,0,none⟩ (.int .i64 9)).setCell ⟨K,1,none⟩ (.int .i64 (-1))).setCell ⟨K,2,none⟩ (.int .i64 0)).setCell ⟨K,3,none⟩ (.int .u64 0)).setCell ⟨K,4,none⟩ (.string ⟨#[]⟩)).setCell ⟨K,5,none⟩ (.slice b0 b3 b4)));have cv:=Z ga (.slice b0 b3 b4);obtain⟨⟨q0,-,-,-,q4,-⟩,-⟩:=Z hX (.slice b0 b3 b4);rw[<-bb]at cv q0 q4⊢;clear bb ga hX S y1 y2 y3 y4 y5 fz fy fo fq z x0 x1 a9 M cp bM cj fA;rw[Z ca,Z dg]at cv;replace cv:=J cv;go_wp2;go_meet;exact⟨_,_,Z cv⟩
  case rest=>
   obtain⟨V9,s9,L9⟩:=hcut;clear S e8 v br bj e3;have ch:(bg++[((1:Int),strOfNums p)]).length<=9000000:=by rw[bH,<-Z a4];simp;omega
   have ax:=J (L9.Sb ch (by omega));replace L9:=J L9;go_upto_region 23 with(go_at_call 29;apply(Z ax).mono;rintro e bz⟨rfl,a8,M,-,-⟩)
   have z:=M.FH (n:=0) ⟨by simp,λx hx=>by cases hx⟩ (by omega) ⟨1,0,0,0,⟨#[120]⟩⟩ (by simp[aS]) (by decide) (Sf 9 [] ⟨#[120]⟩);unfold cD ja at z;simp only[mJ]at z;replace z:=J z;obtain⟨x0,x1⟩:=M.xc (i:=0) (by decide);clear ax L9;replace M:=J M;go_upto_region 24 with(go_at_call 28;apply(Z z).mono;rintro e U⟨b0,b3,b4,fs,rfl,a9,-,-⟩)
   obtain⟨dE,bb⟩:=exq (U.alloc (.cells #[.int .i64 9,.int .i64 (-1),.int .i64 0,.int .u64 0,.string ⟨#[]⟩,.slice b0 b3 b4] 46));have gn:U.grownBy dE none:=by rw[bb];exact aH _ _ _
   have dG:dE.heap[U.heap.size]?=some (.cells #[.int .i64 9,.int .i64 (-1),.int .i64 0,.int .u64 0,.string ⟨#[]⟩,.slice b0 b3 b4] 46 (0,0)):=by rw[bb];exact aO _ _
   rw[<-bb];clear bb;have aC:=a9.gb gn;obtain⟨gX,gd⟩:=exq (a8.put 0 (.shut 9 []) fs);rw[<-gd]at aC;clear gd a9 M z x0 x1;have y:=aC.err (i:=0) (by decide);rw[aC.e0]at y;simp only[aJ.aA]at y;replace y:=J y;obtain⟨x0,x1⟩:=aC.xc (i:=0) (by decide);have gf:=J (λ(ea:World)(ee:dE.grownBy ea none)=>And.intro (bB dG ee) (aC.gb ee));replace⟨dG,aC⟩:=bA dG aC;go_upto_region 25 with(go_at_call 30;apply(Z y).mono;rintro e ea⟨rfl,ee⟩)
   obtain⟨eL,eg⟩:=Z gf ea ee;obtain⟨⟨S,-,y2,-⟩,-⟩:=qk eL;obtain⟨va,vc,e7⟩:=Z ey _ _ _ _ _ eg;have hf:=J (Z cy ea (aq (Z g3) eg.L.g));clear y gf x0 x1 dG aC cy ey;replace⟨eL,eg⟩:=bA eL eg;go_wp2_with fail;first|exact Z hf|(go_ret;exact Z hf)
end
