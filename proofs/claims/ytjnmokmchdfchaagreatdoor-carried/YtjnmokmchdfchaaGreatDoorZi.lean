import Derived.Test.YtjnmokmchdfchaaGreatDoorZh
set_option maxRecDepth 1000000
set_option maxHeartbeats 8000000
set_option linter.all false
namespace Go.Proofs.YtjnmokmchdfchaaGreatDoor
open Go.RowKit Tryz
attribute[local go_sem↓]Go.wp_at_zero Go.wp_at_succ
section
variable{B:Bool}{p q r t:Int}{L:List Int}{b i j k l m n o:Nat}{S:Nat->Prop}{U:Nat->aj}{d:Nw}{a:Option Addr}{s:Sd}{T:TypeId}{x y z:Value}{W v w:World}{Y:aj}
structure bG(V:Nw)(m:Nat->aj)(n:Nat):Prop where
 aS:∀i,i<2->∃s,V.st i=.aD s/\dI s (m i) n/\bZ s n
 dir:∀i j,i<2->j<2->i≠j->cE (m i) (m j)
 en:∀i j,i<2->j<2->i≠j->∀k,k<4->lE ((m i).outs k) ((m j).ins k) (V.e i k)
 aZ:∀x∈V.aZ,∃i j:Nat,i<2/\j<2/\i≠j/\x.1=(j:Int)/\∃y∈(m i).aA,oN (m i) (aG x.2) y
 lb:V.aZ.length<=100*n
 cfg:∀i,i<2->V.bn i=(m i).next/\(m i).an=V.an/\(m i).ag=V.ag/\(m i).key=V.key/\(m i).me=(i:Int)
 mb:64<=V.an/\V.an<=300/\16<=V.ag/\V.ag<=1024
theorem bG.fe(K:bG d U n)(hi:i<2):nZ (U i) n:=by
 obtain⟨s,-,a,b⟩:=K.aS i hi;exact a.fe b
theorem bG.ok(K:bG d U n)(hi:i<2):dY n (d.st i):=by
 obtain⟨s,e,-,a⟩:=K.aS i hi;rw[e];exact a
structure PV(a b:aj):Prop where
 sub:∀x∈a.aA,x∈b.aA
 key:b.key=a.key
 me:b.me=a.me
 an:b.an=a.an
 ag:b.ag=a.ag
theorem bG.jw{V':Nw}(K:bG d U n)(hi:i<2)(A:j<2)(t:i≠j)(u:n<=l){v:aQ}(B:V'.st=ai d.st i v)(C:∃s,v=.aD s/\dI s Y l/\bZ s l)(d1:cE Y (U j))(d2:cE (U j) Y)(f:PV (U i) Y)
 (e1:∀k,k<4->lE (Y.outs k) ((U j).ins k) (V'.e i k)) (e2:∀k,k<4->lE ((U j).outs k) (Y.ins k) (V'.e j k)) (h:∀x∈V'.aZ,x∈d.aZ\/(x.1=(j:Int)/\∃y∈Y.aA,oN Y (aG x.2) y)) (D:V'.aZ.length<=100*l) (E:V'.bn i=Y.next) (F:V'.bn j=d.bn j) (hl:V'.an=d.an/\V'.ag=d.ag/\V'.key=d.key):bG V' (ai U i Y) l:=by
 have w:∀a b:Nat,a<2->b<2->a≠b->(a=i/\b=j)\/(a=j/\b=i):=λa b _ _ _=>by omega
 have r:j≠i:=λe=>t e.symm
 refine⟨λa c=>?_,λa b c h m=>?_,λa b c h m=>?_,λx G=>?_,D,λa c=>?_,?_⟩
 rw[B];by_cases e:a=i;subst e;rw[bk,bk];exact C;rw[bl _ _ e,bl _ _ e];obtain⟨s,p,g,H⟩:=K.aS a c;exact⟨s,p,g.mono u,H.mono u⟩
 obtain⟨rfl,rfl⟩|⟨rfl,rfl⟩:=w a b c h m
 rw[bk,bl _ _ r];exact d1;rw[bk,bl _ _ r];exact d2;obtain⟨rfl,rfl⟩|⟨rfl,rfl⟩:=w a b c h m
 rw[bk,bl _ _ r];exact e1;rw[bk,bl _ _ r];exact e2;obtain q|⟨p,g⟩:=h x G
 obtain⟨a,b,c,I,m,p,y,z,g⟩:=K.aZ x q;refine⟨a,b,c,I,m,p,?_⟩
 by_cases e:a=i;subst e;rw[bk];refine⟨y,f.sub y z,?_⟩
 unfold oN at g⊢;rw[f.key,f.me];exact g;rw[bl _ _ e];exact⟨y,z,g⟩
 exact⟨i,j,hi,A,t,p,by rw[bk];exact g⟩
 rw[hl.1,hl.2.1,hl.2.2];by_cases e:a=i;subst e;rw[bk,E,f.an,f.ag,f.key,f.me];exact⟨rfl,(K.cfg a c).2⟩
 have:a=j:=by omega
 subst this;rw[bl _ _ e,F];exact K.cfg a c;rw[hl.1,hl.2.1];exact K.mb
theorem bG.ask(K:bG d U n)(hi:i<2)(h:n<=40000)(q:fY)(c:aV q.code)(j:q.op≠5)(k:((U i).ask q).2.closed=0):∃b,(d.st i).do q=(((U i).ask q).1,.aD b)/\dI b ((U i).ask q).2 (n+1)/\bZ b (n+1):=by
 obtain⟨s,e,m,v⟩:=K.aS i hi;have p:Rel (d.st i) (U i) n:=by rw[e];exact m
 obtain⟨f,a⟩:=Pf p (K.ok hi) h q c j;have g:=DS (K.ok hi) (by omega) q c;obtain⟨⟨r,t⟩,u⟩:∃x,x=(d.st i).do q:=⟨_,rfl⟩
 rw[<-u]at f a g⊢;cases t with
 |aD b=>exact⟨b,by rw[f],a,g⟩
 |shut aF l=>
  have a:wL aF l ((U i).ask q).2:=a;exact absurd (a.cl.symm.trans k) a.w0
theorem bG.af{V:Nw}{m:Nat->aj}(h:dI s Y n)(b:k<4):(aQ.aD s).af (k:Int)=((Y.outs k).af.eF,0):=by
 rw[<-Ea h];have a:Y.of (k:Int)=0:=by unfold aj.of;rw[ah (by rw[h.c.cl];decide),ah (by omega)]
 unfold aj.af;rw[a,ah (by decide),show((k:Int)).toNat=k by omega]
theorem bG.EF(K:bG d U n)(hi:i<2)(b:j<2)(c:i≠j)(a:k<4)(h:((U i).outs k).af.eF<=p)(f:p<=((U i).outs k).data.size)(g:((U i).outs k).given=false->p<=((U j).ins k).read+(U i).ag):qB d i k p:=by
 have E:=K.en i j hi b c k a;have l:=((K.fe b).gD k a).rd;have m:=((K.dir i j hi b c).aJ k a).hi;have hs:=((K.fe hi).out k a).hs;have q:=((K.fe hi).out k a).sz;refine⟨by have:=E.af;omega,by rw[E.wrote];exact f,λe _=>?_,by rw[E.read];omega⟩
 rw[E.gv]at e;rw[E.read,<-(K.cfg i hi).2.2.1];exact g e
structure cR where
 kind:Int
 side:Int
 a:Int
 b:Int
 s:ByteArray
structure cR.ok(s:cR):Prop where
 kind:dz s.kind
 side:dz s.side
 a:dz s.a
 b:dz s.b
 len:s.s.size<=100000
def cZ(s:cR):Array Value:= #[.int .i64 s.kind,.int .i64 s.side,.int .i64 s.a,.int .i64 s.b,.string s.s]
def dX(w:World)(nb:Nat)(V:Nw)(n:Nat)(e:Ending)(c:World):Prop:=e=.returned (.bool true)/\∃a d b,b<=n+2/\bO w nb V a c/\bG a d b
theorem bO.loc{a:Nw}(T:bO w n d a W)(f:b<w.heap.size)(c:¬d.jK n b):W.heap[b]?=w.heap[b]? /\¬a.jK n b:=⟨T.aw.block b f c,λe=>(T.all b e).elim c (λq=>by omega)⟩
structure iw(w:World)(nb:Nat)(V:Nw)(s:cR)(a:World):Prop where
 e:a=w.alloc (.cells (cZ s) 137)
 g:w.grownBy a none
 z:a.heap.size=w.heap.size+1
 b:a.heap[w.heap.size]?=some (.cells (cZ s) 137 (0,0))
 T:bO a nb V V a
 nB:¬V.jK nb w.heap.size
theorem iw.mk'(H:bS w n d)(a:Laid w)(s:cR):∃b,iw w n d s b:=by
 have g:=aH w (.cells (cZ s) 137) none;exact⟨_,rfl,g,dQ _ _,aM _ _,bO.refl (H.ao g) (aB _ none) (a.gb g (by simp)),λe=>by have:=H.wT _ e;omega⟩
theorem iw.cells{c:Nw}{s:cR}(S:iw w n d s v)(T:bO v n d c W):W.cell? ⟨w.heap.size,0,none⟩=some (.int .i64 s.kind)/\W.cell? ⟨w.heap.size,1,none⟩=some (.int .i64 s.side)/\W.cell? ⟨w.heap.size,2,none⟩=some (.int .i64 s.a)/\W.cell? ⟨w.heap.size,3,none⟩=some (.int .i64 s.b)/\W.cell? ⟨w.heap.size,4,none⟩=some (.string s.s):=by
 have e:=(T.loc (by rw[S.z];omega) S.nB).1.trans S.b;simp[World.cell?,e,cZ]
theorem iw.fin{a:Nw}{s:cR}(S:iw w k d s v)(H:bS w k d)(b:Laid w)(T:bO v k d a W){n:Nat}(c:i<=n+2)(K:bG a U i):dX w k d n (.returned (.bool true)) W:=⟨rfl,a,U,i,c,bO.pre H b S.g T,K⟩
def nr(w:World)(nb:Nat)(V:Nw)(Q:Nw->Prop)(e:Ending)(b:World):Prop:=e=.returned (.bool true)/\∃a,bO w nb V a b/\Q a
theorem iw.zt{a:Nw}{s:cR}(S:iw w n d s v)(H:bS w n d)(b:Laid w)(T:bO v n d a W){Q:Nw->Prop}(c:Q a):nr w n d Q (.returned (.bool true)) W:=⟨rfl,a,bO.pre H b S.g T,c⟩
theorem nr.post{e:Ending}(h:nr w k d (λb=>∃c a,a<=n+2/\bG b c a) e W):dX w k d n e W:=by
 obtain⟨rfl,b,T,c,a,f,g⟩:=h;exact⟨rfl,b,c,a,f,T,g⟩
theorem sK(m:aj)(k:Nat)(d:ByteArray):m.ask ⟨1,(k:Int),0,0,d⟩=(⟨(m.write k d).2.1,-1,(m.write k d).1,0,[],[]⟩,(m.write k d).2.2):=rfl
theorem bG.PW(K:bG d U n)(hi:i<2)(a:j<2)(b:i≠j)(s:n<=40000)(m:k<4)(f:ByteArray)(p:((d.e i k).finished||(d.e i k).given)=true):
 ∃c,(d.st i).do ⟨1,(k:Int),0,0,f⟩=(⟨3,-1,0,0,[],[]⟩,.aD c)/\∀g,bG {d with st:=ai d.st i (.aD c),A:=g} U (n+1):=by
 have E:=K.en i j hi a b k m;obtain⟨d1,d2,d3,d4,⟨-,t,u,h⟩|⟨v,-⟩⟩:=Er (K.fe hi) (K.dir i j hi a b) (K.dir j i a hi (λe=>b e.symm)) m f;obtain⟨c,q,r,w⟩:=K.ask hi s ⟨1,(k:Int),0,0,f⟩ (by simp[aV]) (by simp) (by rw[sK,h];exact(K.fe hi).cl);rw[sK,t,u,h]at q;rw[sK,h]at r;refine⟨c,q,λg=>?_⟩
 have:=K.jw (V':={d with st:=ai d.st i (.aD c),A:=g}) hi a b (b9 n) rfl ⟨c,rfl,r,w⟩ (K.dir i j hi a b) (K.dir j i a hi (λe=>b e.symm)) ⟨λx l=>l,rfl,rfl,rfl,rfl⟩ (K.en i j hi a b) (K.en j i a hi (λe=>b e.symm)) (λx l=>.inl l) (by have:=K.lb;show d.aZ.length<=100*(n+1);omega) (K.cfg i hi).1 rfl ⟨rfl,rfl,rfl⟩;rw[ml]at this;exact this;rw[E.fin,E.gv,v]at p;cases p
theorem bG.PX(K:bG d U n)(hi:i<2)(b:j<2)(f:i≠j)(G:n<=40000)(m:k<4)(c:ByteArray)(v:((d.e i k).finished||(d.e i k).given)=false):
 ∃(g:Sd)(N:Int)(p:Nat->Int),(d.st i).do ⟨1,(k:Int),0,0,c⟩=(⟨0,-1,N,0,[],[]⟩,.aD g)/\dY (n+1) (.aD g)/\(∀l:Nat,l<4->(aQ.aD g).af (l:Int)=(p l,0))/\(∀l,l<4->qB d i l (p l))/\0<=N/\N<=c.size/\(d.e i k).wrote.size+N-p k<=d.ag/\0<=p k/\(d.e i k).wrote.size<=4096/\
  ∀w,bG {d with st:=ai d.st i (.aD g),A:=w,e:=eh (iu d.e i p 4) i k {d.e i k with af:=p k,wrote:=(d.e i k).wrote++c.extract 0 N.toNat}} (ai U i {U i with outs:=ai (U i).outs k {(U i).outs k with data:=((U i).outs k).data++c.extract 0 N.toNat}}) (n+1):=by
 have E:=K.en i j hi b f k m;have r:j≠i:=λe=>f e.symm
 obtain⟨d1,d2,d3,d4,⟨y,-⟩|⟨y,H,z,B,C,D⟩⟩:=Er (K.fe hi) (K.dir i j hi b f) (K.dir j i b hi r) m c;rw[E.fin,E.gv,y]at v;cases v;obtain⟨g,s,h,F⟩:=K.ask hi G ⟨1,(k:Int),0,0,c⟩ (by simp[aV]) (by simp) (by rw[sK,D];exact(K.fe hi).cl);rw[sK,H]at s;rw[sK]at h;obtain⟨N,I⟩:=exq (((U i).write k c).1);rw[D]at h d1 d2;rw[<-I]at z B C s h d1 d2;simp only at s h;have L:∀l,(ai (U i).outs k {(U i).outs k with data:=((U i).outs k).data++c.extract 0 N.toNat} l).af=((U i).outs l).af:=λl=>by
  by_cases e:l=k;subst e;rw[bk];rw[bl _ _ e]
 have hp:∀l,l<4->qB d i l ((U i).outs l).af.eF:=λl hl=>K.EF hi b f hl (cW _) ((K.fe hi).fr l hl).1 (λM=>Es (K.fe hi) (K.fe b) (K.dir i j hi b f) hl M)
 have t:∀l,l<4->0<=((U i).outs l).af.eF:=λl hl=>(sD ((K.fe hi).ck l hl)).1
 refine⟨g,N,λl=>((U i).outs l).af.eF,s,F,λl hl=>?_,hp,z,B,by rw[E.wrote,<-(K.cfg i hi).2.2.1];exact C,t k m,by rw[E.wrote];exact((K.fe hi).out k m).sz,λw=>?_⟩
 rw[bG.af (V:=d) (m:=U) h hl];show((ai (U i).outs k {(U i).outs k with data:=((U i).outs k).data++c.extract 0 N.toNat} l).af.eF,(0:Int))=_;rw[L];refine K.jw hi b f (b9 n) rfl ⟨g,rfl,h,F⟩ d1 d2 ⟨λx u=>u,rfl,rfl,rfl,rfl⟩ (λl hl=>?_) (λl hl=>?_) (λx u=>.inl u) (by have:=K.lb;show d.aZ.length<=100*(n+1);omega) (K.cfg i hi).1 rfl ⟨rfl,rfl,rfl⟩;have a:=K.en i j hi b f l hl;show lE (ai (U i).outs k _ l) ((U j).ins l) (eh (iu d.e i _ 4) i k _ i l);unfold eh iu;by_cases e:l=k;subst e;rw[bk,az ⟨rfl,rfl⟩];exact⟨by simp only;rw[a.wrote],a.fin,a.gv,a.code,a.read,a.state,⟨t l hl,cW _⟩⟩
 rw[bl _ _ e,ah (λq=>e q.2),az ⟨rfl,hl⟩];exact⟨a.wrote,a.fin,a.gv,a.code,a.read,a.state,⟨t l hl,cW _⟩⟩
 show lE ((U j).outs l) ((U i).ins l) (eh (iu d.e i _ 4) i k _ j l);unfold eh iu;rw[ah (λq=>r q.1),ah (λq=>r q.1)];exact K.en j i b hi r l hl
theorem bS.ns(h:bS w n d)(hi:i<2)(a:k<4):w.cell? ⟨n,0,none⟩=some (.slice (some ⟨d.xr,0,none⟩) 2 d.xc)/\w.cell? ⟨n,1,none⟩=some (.slice (some ⟨d.er,0,none⟩) 2 d.ec)/\w.cell? ⟨d.xr,i,none⟩=some (.pointer (some ⟨d.xb i,0,none⟩))/\w.cell? ⟨d.er,i,none⟩=some (.slice (some ⟨d.el i,0,none⟩) 4 (d.lc i))/\w.cell? ⟨d.el i,k,none⟩=some (.pointer (some ⟨d.eb i k,0,none⟩)):=
 ⟨h.c.1.1,h.c.1.2.1,h.x i hi,h.er i hi,h.el i hi k a⟩
theorem PY(w:World)(nb:Nat)(V:Nw)(m:Nat->aj)(n:Nat)(H:bS w nb V)(g:Laid w)(K:bG V m n)(L:n<=40000)(s:cR)(hs:s.ok)(M:s.kind=1)(b:((V.e (bf s.side 2) (bf s.a 4)).finished||(V.e (bf s.side 2) (bf s.a 4)).given)=true):
 Calls prog 50 #[.pointer (some ⟨nb,0,none⟩),.agg (cZ s)] w (dX w nb V n):=by
 obtain⟨p,S⟩:=iw.mk' H g s;obtain⟨i,D⟩:=exq (bf s.side 2);obtain⟨k,E⟩:=exq (bf s.a 4);have hi:i<2:=by have:=eM s.side (p:=2) (by decide);omega
 have q:k<4:=by have:=eM s.a (p:=4) (by decide);omega
 have r:=J (eU s.side 2 p hs.side.1 hs.side.2 (by decide) (by decide));have t:=J (eU s.a 4 p hs.a.1 hs.a.2 (by decide) (by decide));rw[<-D]at r b;rw[<-E]at t b;clear D E;have U:(0:Int)<=(i:Int):=by omega
 have X:(i:Int)<2:=by omega
 have Y:(0:Int)<=(k:Int):=by omega
 have k1:(k:Int)<4:=by omega
 obtain⟨c0,c1,N,ce,cl⟩:=S.T.at_.ns hi q;obtain⟨d0,d1,d2,d3,d4⟩:=S.cells S.T;obtain⟨O,u,v⟩:=K.PW hi (show 1-i<2 by omega) (show i≠1-i by omega) L q s.s b;have c:=np S.T hi (K.ok hi) (by omega) ⟨1,(k:Int),0,0,s.s⟩ (by simp[aV]) (by have:=hs.len;show s.s.size<=_;omega) u;have x:=J (λ(W:World)(y:Nat->Prop)(T:bO p nb V {V with st:=ai V.st i (.aD O),A:=ai V.A i y} W)=>S.fin H g T (n:=n) (b9 (n+1)) (v _));unfold cG ma lF at c;simp only[pP]at c;obtain⟨P,z⟩:=exq (dX w nb V n);rw[<-z]at x⊢;replace z:=J z;replace c:=J c;have F:=S.e;replace S:=J S;replace H:=J H;replace g:=J g;replace K:=J K;replace hs:=J hs;replace v:=J v;replace u:=J u;obtain⟨kind,side,sa,aC,str⟩:=s;simp only at *;subst M;unfold cZ at *;simp only at *;go_enter func50,ntmps50;go_upto_region 1 with fail;rw[<-F];clear F;go_upto_region 2 with(go_at_call 23;refine(Z r).mono ?_;rintro e Q⟨rfl,rfl⟩)
 go_upto_region 4 with(go_at_call 23;refine(Z t).mono ?_;rintro e Q⟨rfl,rfl⟩)
 go_upto_region 8 with(go_at_call 28;refine(Z c).mono ?_;rintro e d⟨a,m1,G,y,rfl,-,B,-⟩)
 obtain⟨f,h⟩:=exq (d.alloc (.cells #[.int .i64 3,.int .i64 (-1),.int .i64 0,.int .u64 0,.string ⟨#[]⟩,.slice a m1 G] 46));have R:d.grownBy f none:=by rw[h];exact aH _ _ _
 have C:f.heap[d.heap.size]?=some (.cells #[.int .i64 3,.int .i64 (-1),.int .i64 0,.int .u64 0,.string ⟨#[]⟩,.slice a m1 G] 46 (0,0)):=by rw[h];exact aM _ _
 rw[<-h];clear h;have j:=B.gb R;obtain⟨y0,y2⟩:f.cell? ⟨d.heap.size,0,none⟩=some (.int .i64 3)/\f.cell? ⟨d.heap.size,2,none⟩=some (.int .i64 0):=by simp[World.cell?,C]
 obtain⟨⟨-,e1,e2,-,-,-,-⟩,-⟩:=j.at_.ce hi q;simp only at e1 e2;have l:=J (Z x f y j);replace C:=J C;replace B:=J B;replace j:=J j;clear x c r t c0 c1 N ce cl d0 d1 d2 d3 d4;cases I:(V.e i k).finished
 ·rw[I]at e1 b;rw[Bool.false_or]at b;rw[b]at e2;go_wp2_with fail;first|exact Z l|(go_ret;exact Z l)
 rw[I]at e1;go_wp2_with fail;first|exact Z l|(go_ret;exact Z l)
theorem PZ(hi:i<2){a:aQ}(T:bO w j d {d with st:=ai d.st i a,A:=ai d.A i S} W)(l:dY n a)(m:n<=100000)(q:0<=d.ag/\d.ag<=1000000000){p:Nat->Int}(hp:∀k:Nat,k<4->a.af (k:Int)=(p k,0))(b:∀k,k<4->qB d i k (p k)):
 Calls prog 82 #[.pointer (some ⟨j,0,none⟩),.int .i64 i] W (λe g=>e=.returned (.bool true)/\(∃c,bO w j d (gG {d with st:=ai d.st i a} i p 4 c) g)/\av W g (Nw.jK {d with st:=ai d.st i a,A:=ai d.A i S} j)):=by
 refine(Ey W j _ T.at_ T.laid i hi n (by simp only[bk];exact l) m q p (by simp only[bk];exact hp) (λk f=>⟨(b k f).lo,(b k f).hi,(b k f).wn,(b k f).rd⟩)).mono ?_;rintro e g⟨rfl,c,h⟩;exact⟨rfl,⟨c,by rw[<-Ez d i a S c p];exact T.trans h⟩,h.aw⟩
theorem zu(x y:ByteArray)(h:((x.size+y.size:Nat):Int)<=9223372036854775807)(W:World):(Op.stringOp .add x y).run prog W=.ok (.string (x++y)) W:=by
 unfold Op.stringOp;have:¬(((x.size+y.size:Nat):Int)>IntKind.i64.max):=by
  have:IntKind.i64.max=9223372036854775807:=by decide
  omega
 simp only[this,fR]
 rfl
theorem EG(w:World)(nb:Nat)(V:Nw)(m:Nat->aj)(n:Nat)(H:bS w nb V)(u:Laid w)(K:bG V m n)(hn:n<=40000)(s:cR)(hs:s.ok)(Q:Nw->Prop)(b7:s.kind=1)(f:((V.e (bf s.side 2) (bf s.a 4)).finished||(V.e (bf s.side 2) (bf s.a 4)).given)=false)(l:∀(b:Sd)(N:Int)(p:Nat->Int)(v:Nat->Nat->Prop),(V.st (bf s.side 2)).do ⟨1,((bf s.a 4):Int),0,0,s.s⟩=(⟨0,-1,N,0,[],[]⟩,.aD b)->bG {V with st:=ai V.st (bf s.side 2) (.aD b),A:=v,e:=eh (iu V.e (bf s.side 2) p 4) (bf s.side 2) (bf s.a 4) {V.e (bf s.side 2) (bf s.a 4)with af:=p (bf s.a 4),wrote:=(V.e (bf s.side 2) (bf s.a 4)).wrote++s.s.extract 0 N.toNat}} (ai m (bf s.side 2) {m (bf s.side 2)with outs:=ai (m (bf s.side 2)).outs (bf s.a 4) {(m (bf s.side 2)).outs (bf s.a 4)with data:=((m (bf s.side 2)).outs (bf s.a 4)).data++s.s.extract 0 N.toNat}}) (n+1)->Q {V with st:=ai V.st (bf s.side 2) (.aD b),A:=v,e:=eh (iu V.e (bf s.side 2) p 4) (bf s.side 2) (bf s.a 4) {V.e (bf s.side 2) (bf s.a 4)with af:=p (bf s.a 4),wrote:=(V.e (bf s.side 2) (bf s.a 4)).wrote++s.s.extract 0 N.toNat}}):
 Calls prog 50 #[.pointer (some ⟨nb,0,none⟩),.agg (cZ s)] w (nr w nb V Q):=by
 obtain⟨y,S⟩:=iw.mk' H u s;obtain⟨i,a1⟩:=exq (bf s.side 2);obtain⟨k,a2⟩:=exq (bf s.a 4);have hi:i<2:=by have:=eM s.side (p:=2) (by decide);omega
 have d:k<4:=by have:=eM s.a (p:=4) (by decide);omega
 have O:=J (eU s.side 2 y hs.side.1 hs.side.2 (by decide) (by decide));have R:=J (eU s.a 4 y hs.a.1 hs.a.2 (by decide) (by decide));rw[<-a1]at O f l;rw[<-a2]at R f l;clear a1 a2;have i0:(0:Int)<=(i:Int):=by omega
 have i1:(i:Int)<2:=by omega
 have k0:(0:Int)<=(k:Int):=by omega
 have k1:(k:Int)<4:=by omega
 have hj:1-i<2:=by omega
 have ca:i≠1-i:=by omega
 have hw:=K.mb;obtain⟨c0,c1,cx,ce,cl⟩:=S.T.at_.ns hi d;obtain⟨d0,d1,d2,d3,d4⟩:=S.cells S.T;obtain⟨b,N,p,z,U,X,B,ee,cj,a3,cp,cv,Y⟩:=K.PX hi hj ca hn d s.s f;have iZ:=hs.len;have a4:=(B k d).hi;have j:=np S.T hi (K.ok hi) (by omega) ⟨1,(k:Int),0,0,s.s⟩ (by simp[aV]) (by show s.s.size<=_;omega) z;have a8:=J (λ(W:World)(q:Nat->Prop)(T:bO y nb V {V with st:=ai V.st i (.aD b),A:=ai V.A i q} W)=>PZ hi T U (by omega) (by omega) X B);have a9:=J (λ(W:World)(v:Nat->Prop)(T:bO y nb V (gG {V with st:=ai V.st i (.aD b)} i p 4 v) W)=>(show(W.cell? ⟨nb,3,none⟩=some (.int .i64 V.ag)/\W.cell? ⟨w.heap.size,4,none⟩=some (.string s.s)/\W.cell? ⟨V.eb i k,0,none⟩=some (.string (V.e i k).wrote)/\W.cell? ⟨V.eb i k,6,none⟩=some (.int .i64 (p k))/\W.frozen? ⟨V.eb i k,0,none⟩=false)/\∀W',(W.setCell ⟨V.eb i k,0,none⟩ (.string ((V.e i k).wrote++s.s.extract 0 N.toNat))).grownBy W' none->nr w nb V Q (.returned (.bool true)) W' by
  have he:iu V.e i p 4 i k={V.e i k with af:=p k}:=by unfold iu;rw[az ⟨rfl,d⟩]
  obtain⟨⟨D,-,-,-,-,-,E⟩,qf⟩:=T.at_.ce hi d;have hb:=T.at_.en i hi k d;simp only[gG,he]at D E qf hb;have T7:=T.trans (T.at_.uo T.laid hi d (x:={V.e i k with af:=p k,wrote:=(V.e i k).wrote++s.s.extract 0 N.toNat}) (oa W (V.eb i k) 0 (.string ((V.e i k).wrote++s.s.extract 0 N.toNat))) (heap_set hb _));exact⟨⟨T.at_.c.1.2.2.2.1,(S.cells T).2.2.2.2,D,E,qf 0⟩,λW' g=>S.zt H u (T7.gb g) (l b N p _ z (Y _))⟩))
 have aC:=a9;clear a9;unfold cG ma lF at j;simp only[pP]at j;have cy:=zu (V.e i k).wrote (s.s.extract 0 N.toNat) (by rw[rz];omega);replace j:=J j;obtain⟨P,hP⟩:=exq (nr w nb V Q);rw[<-hP]at aC⊢;replace hP:=J hP;have bj:=S.e;replace S:=J S;replace H:=J H;replace u:=J u;replace K:=J K;replace hs:=J hs;replace l:=J l;replace Y:=J Y;replace z:=J z;replace U:=J U;replace B:=J B;replace X:=J X;obtain⟨kind,side,sa,ei,str⟩:=s;simp only at *;subst b7;unfold cZ at *;simp only at *;go_enter func50,ntmps50;go_upto_region 1 with fail;rw[<-bj];clear bj;go_upto_region 2 with(go_at_call 23;refine(Z O).mono ?_;rintro e w2⟨rfl,rfl⟩)
 go_upto_region 4 with(go_at_call 23;refine(Z R).mono ?_;rintro e w2⟨rfl,rfl⟩)
 go_upto_region 8 with(go_at_call 28;refine(Z j).mono ?_;rintro e h⟨a,m1,m2,q,rfl,-,F,-⟩)
 obtain⟨r,t⟩:=exq (h.alloc (.cells #[.int .i64 0,.int .i64 (-1),.int .i64 N,.int .u64 0,.string ⟨#[]⟩,.slice a m1 m2] 46));have g5:h.grownBy r none:=by rw[t];exact aH _ _ _
 have z5:h.heap.size<r.heap.size:=by rw[t,dQ];omega
 have G:r.heap[h.heap.size]?=some (.cells #[.int .i64 0,.int .i64 (-1),.int .i64 N,.int .u64 0,.string ⟨#[]⟩,.slice a m1 m2] 46 (0,0)):=by rw[t];exact aM _ _
 rw[<-t];clear t;have I:=F.gb g5;obtain⟨⟨-,e1,e2,-,-,-,-⟩,-⟩:=I.at_.ce hi d;simp only at e1 e2;have bt:=J (Z a8 r q I);have bx:Hid (∀L,av r L (Nw.jK {V with st:=ai V.st i (.aD b),A:=ai V.A i q} nb)->L.cell? ⟨h.heap.size,0,none⟩=some (.int .i64 0)/\L.cell? ⟨h.heap.size,2,none⟩=some (.int .i64 N)):=J (λL C=>by
  have bz:¬Nw.jK {V with st:=ai V.st i (.aD b),A:=ai V.A i q} nb h.heap.size:=λe=>by have:=F.at_.wT _ e;omega
  exact⟨C.cell (by simp[World.cell?,G]) bz,C.cell (by simp[World.cell?,G]) bz⟩)
 replace G:=J G;replace F:=J F;replace I:=J I;rw[oh]at f;rw[f.1]at e1;rw[f.2]at e2;clear a8 j O R c0 c1 cx ce cl d0 d1 d2 d3 d4 f;go_upto_region 11 with(go_at_call 82;refine(Z bt).mono ?_;rintro e w6⟨rfl,⟨A6,T6⟩,C6⟩;obtain⟨y0,y2⟩:=Z bx w6 C6;obtain⟨⟨f3,f4,D,E,qf⟩,M⟩:=Z aC w6 A6 T6;clear C6 T6;replace M:=J M)
 clear bt bx aC e1 e2;obtain⟨wr,b4⟩:=exq ((V.e i k).wrote);rw[<-b4]at D M cy a3 cv a4;obtain⟨pk,b5⟩:=exq (p k);rw[<-b5]at E a3 cp a4;clear b4 b5;have r1:decide (N<0)=false:=bI (by omega);have r2:decide ((str.size:Int)<N)=false:=bI (by omega);have r3:IntKind.i64.wrap ((wr.size:Int)+N)=wr.size+N:=by simp[IntKind.wrap,IntKind.bits,IntKind.signed];omega
 have r4:IntKind.i64.wrap ((wr.size:Int)+N-pk)=wr.size+N-pk:=by simp[IntKind.wrap,IntKind.bits,IntKind.signed];omega
 have r5:decide (V.ag<(wr.size:Int)+N-pk)=false:=bI (by omega);go_quiet (fail);go_upto_region 13 with fail;clear r1 r2 r3 r4 r5;have r6:N<=(str.size:Int):=cj;go_region;go_wp2_with fail;exact Z M _ ⟨rfl,rfl,rfl,aP _,λ_ _ _=>rfl⟩
theorem P7(w:World)(nb:Nat)(V:Nw)(m:Nat->aj)(n:Nat)(H:bS w nb V)(b:Laid w)(K:bG V m n)(c:n<=40000)(s:cR)(hs:s.ok)(d:s.kind=1)(f:((V.e (bf s.side 2) (bf s.a 4)).finished||(V.e (bf s.side 2) (bf s.a 4)).given)=false):
 Calls prog 50 #[.pointer (some ⟨nb,0,none⟩),.agg (cZ s)] w (dX w nb V n):=
 (EG w nb V m n H b K c s hs _ d f (λ_ _ _ _ _ h=>⟨_,_,b9 (n+1),h⟩)).mono (λ_ _ h=>h.post)
theorem bG.A(K:bG d U n)(a:Nat->Nat->Prop):bG {d with A:=a} U n:=⟨K.aS,K.dir,K.en,K.aZ,K.lb,K.cfg,K.mb⟩
theorem bG.same(K:bG d U n)(hi:i<2)(a:j<2)(b:i≠j)(g:dI s (U i) (n+1))(h:bZ s (n+1))(f:Nat->Nat->Prop):bG {d with st:=ai d.st i (.aD s),A:=f} U (n+1):=by
 have:=K.jw (V':={d with st:=ai d.st i (.aD s),A:=f}) hi a b (b9 n) rfl ⟨s,rfl,g,h⟩ (K.dir i j hi a b) (K.dir j i a hi (λe=>b e.symm)) ⟨λx c=>c,rfl,rfl,rfl,rfl⟩ (K.en i j hi a b) (K.en j i a hi (λe=>b e.symm)) (λx c=>.inl c) (by have:=K.lb;show d.aZ.length<=100*(n+1);omega) (K.cfg i hi).1 rfl ⟨rfl,rfl,rfl⟩;rw[ml]at this;exact this
theorem bG.EH(K:bG d U n)(hi:i<2)(b:j<2)(c:i≠j)(e:n<=40000):
 ∃a,(d.st i).do ⟨4,0,0,0,⟨#[]⟩⟩=(⟨0,-1,0,0,[],[]⟩,.aD a)/\∀f,bG {d with st:=ai d.st i (.aD a),A:=f} U (n+1):=by
 obtain⟨a,g,h,k⟩:=K.ask hi e ⟨4,0,0,0,⟨#[]⟩⟩ (by simp[aV]) (by simp) (K.fe hi).cl;exact⟨a,g,K.same hi b c h k⟩
theorem bG.vB(K:bG d U n)(hi:i<2)(b:j<2)(f:i≠j)(y:n<=40000)(z:k<4):
 ∃a,(((d.e i k).finished||(d.e i k).given)=true/\(d.st i).do ⟨2,(k:Int),0,0,⟨#[]⟩⟩=(⟨3,-1,0,0,[],[]⟩,.aD a)/\∀r,bG {d with st:=ai d.st i (.aD a),A:=r} U (n+1))\/
  (((d.e i k).finished||(d.e i k).given)=false/\(d.st i).do ⟨2,(k:Int),0,0,⟨#[]⟩⟩=(⟨0,-1,0,0,[],[]⟩,.aD a)/\∀r,∃B,bG {d with st:=ai d.st i (.aD a),A:=r,e:=eh d.e i k {d.e i k with finished:=true}} B (n+1)/\B=ai U i {U i with outs:=ai (U i).outs k {(U i).outs k with finished:=true}}):=by
 have E:=K.en i j hi b f k z;have s:j≠i:=λe=>f e.symm
 have g:(U i).ask ⟨2,(k:Int),0,0,⟨#[]⟩⟩=(⟨((U i).finish k).1,-1,0,0,[],[]⟩,((U i).finish k).2):=rfl;obtain⟨d1,d2,d3,d4,⟨t,u,m⟩|⟨t,u,m⟩⟩:=Px (K.fe hi) (K.dir i j hi b f) (K.dir j i b hi s) z;obtain⟨a,p,h,v⟩:=K.ask hi y ⟨2,(k:Int),0,0,⟨#[]⟩⟩ (by simp[aV]) (by simp) (by rw[g,m];exact(K.fe hi).cl);rw[g,u]at p;rw[g,m]at h;exact⟨a,.inl ⟨by rw[E.fin,E.gv];exact t,p,K.same hi b f h v⟩⟩
 obtain⟨a,p,h,v⟩:=K.ask hi y ⟨2,(k:Int),0,0,⟨#[]⟩⟩ (by simp[aV]) (by simp) (by rw[g,m];exact(K.fe hi).cl);rw[g,u]at p;rw[g]at h;rw[m]at h d1 d2;refine⟨a,.inr ⟨by rw[E.fin,E.gv];exact t,p,λr=>⟨_,K.jw hi b f (b9 n) rfl ⟨a,rfl,h,v⟩ d1 d2 ⟨λx w=>w,rfl,rfl,rfl,rfl⟩ (λl hl=>?_) (λl hl=>?_) (λx w=>.inl w) (by have:=K.lb;show d.aZ.length<=100*(n+1);omega) (K.cfg i hi).1 rfl ⟨rfl,rfl,rfl⟩,rfl⟩⟩⟩
 have c:=K.en i j hi b f l hl;show lE (ai (U i).outs k _ l) ((U j).ins l) (eh d.e i k _ i l);unfold eh;by_cases e:l=k;subst e;rw[bk,az ⟨rfl,rfl⟩];exact⟨c.wrote,rfl,c.gv,c.code,c.read,c.state,c.af⟩
 rw[bl _ _ e,ah (λq=>e q.2)];exact c;show lE ((U j).outs l) ((U i).ins l) (eh d.e i k _ j l);unfold eh;rw[ah (λq=>s q.1)];exact K.en j i b hi s l hl
theorem bG.EI(K:bG d U n)(hi:i<2)(b:j<2)(c:i≠j)(z:n<=40000)(B:k<4)(F:0<=p/\p<=1000):
 ∃a,((d.e i k).given=true/\(d.st i).do ⟨3,(k:Int),0,p,⟨#[]⟩⟩=(⟨3,-1,0,0,[],[]⟩,.aD a)/\∀s,bG {d with st:=ai d.st i (.aD a),A:=s} U (n+1))\/
  ((d.e i k).given=false/\(d.st i).do ⟨3,(k:Int),0,p,⟨#[]⟩⟩=(⟨0,-1,0,0,[],[]⟩,.aD a)/\∀s,∃D,bG {d with st:=ai d.st i (.aD a),A:=s,e:=eh d.e i k {d.e i k with given:=true,code:=p}} D (n+1)):=by
 have E:=K.en i j hi b c k B;have t:j≠i:=λe=>c e.symm
 have C:aV p:=by unfold aV;omega
 have f:(U i).ask ⟨3,(k:Int),0,p,⟨#[]⟩⟩=(⟨((U i).giveUp k p).1,-1,0,0,[],[]⟩,((U i).giveUp k p).2):=rfl;obtain⟨d1,d2,d3,d4,⟨u,v,m⟩|⟨u,v,m⟩⟩:=Py (K.fe hi) (K.dir i j hi b c) (K.dir j i b hi t) B (p:=p) (by omega);obtain⟨a,r,g,w⟩:=K.ask hi z ⟨3,(k:Int),0,p,⟨#[]⟩⟩ C (by simp) (by rw[f,m];exact(K.fe hi).cl);rw[f,v]at r;rw[f,m]at g;exact⟨a,.inl ⟨by rw[E.gv];exact u,r,K.same hi b c g w⟩⟩
 obtain⟨a,r,g,w⟩:=K.ask hi z ⟨3,(k:Int),0,p,⟨#[]⟩⟩ C (by simp) (by rw[f,m];exact(K.fe hi).cl);rw[f,v]at r;rw[f]at g;rw[m]at g d1 d2;refine⟨a,.inr ⟨by rw[E.gv];exact u,r,λs=>⟨_,K.jw hi b c (b9 n) rfl ⟨a,rfl,g,w⟩ d1 d2 ⟨λx y=>y,rfl,rfl,rfl,rfl⟩ (λl hl=>?_) (λl hl=>?_) (λx y=>.inl y) (by have:=K.lb;show d.aZ.length<=100*(n+1);omega) (K.cfg i hi).1 rfl ⟨rfl,rfl,rfl⟩⟩⟩⟩
 have h:=K.en i j hi b c l hl;show lE (ai (U i).outs k _ l) ((U j).ins l) (eh d.e i k _ i l);unfold eh;by_cases e:l=k;subst e;rw[bk,az ⟨rfl,rfl⟩];exact⟨h.wrote,h.fin,rfl,λ_=>rfl,h.read,h.state,h.af⟩
 rw[bl _ _ e,ah (λq=>e q.2)];exact h;show lE ((U j).outs l) ((U i).ins l) (eh d.e i k _ j l);unfold eh;rw[ah (λq=>t q.1)];exact K.en j i b hi t l hl
theorem bG.EJ(K:bG d U n)(hi:i<2)(a:j<2)(f:i≠j)(I:n<=40000)(r:k<4)(L:0<=p):
 ∃g N code data,(d.st i).do ⟨7,(k:Int),p,0,⟨#[]⟩⟩=(⟨0,-1,N,code,data,[]⟩,.aD g)/\uq (d.e j k) p N code data/\(d.e j k).wrote.size<=4096/\(data=((U i).read k p).1/\N=((U i).read k p).2.1)/\∀B,∃C,bG {d with st:=ai d.st i (.aD g),A:=B,e:=eh d.e j k {d.e j k with read:=(d.e j k).read+data.length,state:=N}} C (n+1)/\C=ai U i ((U i).read k p).2.2.2.2:=by
 have t:j≠i:=λe=>f e.symm
 have E:=K.en j i a hi t k r;have u:(U i).ask ⟨7,(k:Int),p,0,⟨#[]⟩⟩=(⟨((U i).read k p).2.2.2.1,-1,((U i).read k p).2.1,((U i).read k p).2.2.1,((U i).read k p).1,[]⟩,((U i).read k p).2.2.2.2):=rfl;obtain⟨b,s,d1,d2,b1,b2,M,O,P,Q,R,S,T,D,V,W⟩:=PB (K.fe a) (K.fe hi) (K.dir j i a hi t) (K.dir i j hi a f) r L;have m:b.closed=(U i).closed/\b.key=(U i).key/\b.me=(U i).me/\b.an=(U i).an/\b.ag=(U i).ag:=by
  rw[s];unfold aj.read;split<;>exact⟨rfl,rfl,rfl,rfl,rfl⟩
 obtain⟨g,F,G,X⟩:=K.ask hi I ⟨7,(k:Int),p,0,⟨#[]⟩⟩ (by simp[aV]) (by simp) (by rw[u,<-s,m.1];exact(K.fe hi).cl);rw[u,O]at F;rw[u,<-s]at G;refine⟨g,_,_,_,F,⟨by rw[E.read];exact((K.fe hi).gD k r).rd.1,P,by rw[E.read,E.wrote];exact Q,by rw[E.read,E.wrote];exact R,λh=>by rw[E.state]at h⊢;exact S h,?_⟩,by rw[E.wrote];exact((K.fe a).out k r).sz,⟨rfl,rfl⟩,λB=>⟨_,K.jw hi a f (b9 n) rfl ⟨g,rfl,G,X⟩ d2 d1 ⟨λx v=>by rw[b1];exact v,m.2.1,m.2.2.1,m.2.2.2.1,m.2.2.2.2⟩ (λl hl=>?_) (λl hl=>?_) (λx v=>.inl v) (by have:=K.lb;show d.aZ.length<=100*(n+1);omega) (by rw[b2];exact(K.cfg i hi).1) rfl ⟨rfl,rfl,rfl⟩,by rw[s]⟩⟩
 obtain q|⟨w,y,z,Y⟩|⟨w,y,z⟩:=W
 exact .inl q;refine .inr (.inl ⟨w,by rw[E.fin];exact y,?_,Y⟩);rw[E.read,E.wrote,<-D];exact z;have H:(d.e j k).given=true:=by rw[E.gv];exact y
 exact .inr (.inr ⟨w,H,by rw[E.code H];exact z⟩);show lE (b.outs l) ((U j).ins l) (eh d.e j k _ i l);unfold eh;rw[M,ah (λq=>f q.1)];exact K.en i j hi a f l hl;have c:=K.en j i a hi t l hl;show lE ((U j).outs l) (b.ins l) (eh d.e j k _ j l);unfold eh;by_cases e:l=k;subst e;rw[az ⟨rfl,rfl⟩];exact⟨c.wrote,c.fin,c.gv,c.code,by rw[D];simp only;rw[c.read],V.symm,c.af⟩
 rw[T,bl _ _ e,ah (λq=>e q.2)];exact c
theorem bG.zv(K:bG d U n)(hi:i<2)(b:ByteArray)(h:¬eC d.key (Go.Proofs.YtjnmokmchdfchaaGreatDoor.aS (decide (i≠0))) (aG b)):(d.st i).do ⟨6,0,0,0,b⟩=(⟨4,-1,0,0,[],[]⟩,d.st i):=by
 obtain⟨s,e,a,-⟩:=K.aS i hi;obtain⟨-,-,-,g,j⟩:=K.cfg i hi;have k:s.key=d.key:=a.c.key.symm.trans g;have l:(!s.first)=decide (i≠0):=by
  have f:=a.c.me;rw[j]at f;have m:i=0\/i=1:=by omega
  cases p:s.first<;>rw[p]at f<;>rcases m with q|q<;>subst q<;>simp_all
 rw[e];have:(aQ.aD s).recv (aG b)=(4,-1,.aD s):=by
  show s.recv (aG b)=_;unfold Sd.recv;rw[k,l,az h]
 unfold aQ.do;simp[this]
theorem cE.Qa{b:aj}(D:cE Y b)(d:List Int):cE {Y with due:=d} b:=⟨D.key,D.me,D.ag,D.sn,D.aS,D.fr,D.ak,D.aJ,D.ev,D.tk,D.cm⟩
theorem cE.Qb{b:aj}(D:cE Y b)(d:List Int):cE Y {b with due:=d}:=D.same rfl rfl rfl rfl rfl
theorem EK{x:Int×List Fr}(h:oN Y L x):16<L.length:=by
 obtain⟨b,-,a⟩:=h;by_cases c:L.length=16;have:(dN Y.key Y.me (bp L) (bT L)).length=0:=by
  rw[ng];unfold bT;rw[ct,dF];omega
 unfold fE at a;rw[az this]at a;cases a;have:=b.1;omega
theorem bG.EL(K:bG d U n)(hi:i<2)(p:j<2)(r:i≠j)(T:n<=40000):
 ∃A ps,(d.st i).do ⟨5,0,0,0,⟨#[]⟩⟩=(⟨0,-1,0,0,[],ps⟩,.aD A)/\ps.length<=50/\(0<=d.bn i/\d.bn i<=1000000000000)/\(∀l,l<ps.length->EC d i (eJ (ps.map strOfNums) l) l)/\
  ∃B,(∃a,zd (U i) (ps.map strOfNums) a/\B=ai U i {(U i).dW a with due:=[]})/\∀C v,bG (jL d i (j:Int) (.aD A) (ps.map strOfNums) ps.length C v) B (n+1):=by
 have t:j≠i:=λe=>r e.symm
 obtain⟨s,e,D,E⟩:=K.aS i hi;obtain⟨u,L,V,M,N⟩:=K.cfg i hi;have F:(d.st i).do ⟨5,0,0,0,⟨#[]⟩⟩=(⟨0,-1,0,0,[],s.dh.2⟩,.aD s.dh.1):=by rw[e];rfl
 have G:=DS (K.ok hi) (by omega) ⟨5,0,0,0,⟨#[]⟩⟩ (by simp[aV]);rw[F]at G;obtain⟨hl,-⟩:=aQ.DL (K.ok hi) (by omega);rw[e]at hl;have hl:s.dh.2.length<=50:=hl;obtain⟨a,w,O⟩:=Pb D E (by omega);obtain⟨d1,d2,d3,d4,d5⟩:=Pv a (s.dh.2.map strOfNums) (U i) w.len w.each (K.fe hi).out (K.dir i j hi p r) (K.dir j i p hi t);have W:=E.bn;have P:d.bn i=s.count:=by rw[u,D.c.next]
 rw[dA]at d4 d5;refine⟨_,_,F,hl,by rw[P];omega,λl h=>?_,ai U i {(U i).dW a with due:=[]},⟨a,w,rfl⟩,λC v=>?_⟩
 obtain⟨x,f,m,p2,p3⟩:=d5 l h;have H:=EK m;rw[fu]at H;refine⟨?_,by rw[m.2.1,p2,u],by rw[<-L];exact p3,H⟩
 have:=m.1;rw[M,N]at this;have Q:i=0\/i=1:=by omega
 obtain q|q:=Q<;>subst q<;>simpa [Go.Proofs.YtjnmokmchdfchaaGreatDoor.aS]using this
 have R:∀l,l<s.dh.2.length->∃y∈((U i).dW a).aA,oN {(U i).dW a with due:=[]} (aG (eJ (s.dh.2.map strOfNums) l)) y:=λl h=>by
  obtain⟨x,f,m,-,-⟩:=d5 l h;refine⟨x,f,?_⟩
  unfold oN at m⊢;show eC ((U i).dW a).key ((U i).dW a).me _/\_;rw[d3.may.key,d3.may.me];exact m
 refine K.jw hi p r (b9 n) rfl ⟨_,rfl,O.mono (b9 n),G⟩ (d1.Qa []) (d2.Qb []) ⟨d3.sub,d3.may.key,d3.may.me,d3.may.an,d3.may.ag⟩ (λl h=>?_) (λl h=>?_) (λx f=>?_) ?_ ?_ ?_ ⟨rfl,rfl,rfl⟩;have k:=K.en i j hi p r l h;have o:=d3.may.kp l h;show lE (((U i).dW a).outs l) ((U j).ins l) (d.e i l);exact⟨k.wrote.trans o.data.symm,k.fin.trans o.fin.symm,k.gv.trans o.gv.symm,λg=>(k.code g).trans o.code.symm,k.read,k.state,k.af.1,Int.le_trans k.af.2 o.pre⟩
 show lE ((U j).outs l) (((U i).dW a).ins l) (d.e j l);rw[d3.may.ins];exact K.en j i p hi t l h;have f:x∈d.aZ++((s.dh.2.map strOfNums).take s.dh.2.length).map (λb=>((j:Int),b)):=f;obtain f|f:=bQ.1 f
 exact .inl f;right;obtain⟨b,I,rfl⟩:=eQ.1 f;rw[fJ (by rw[dA];exact aP _)]at I;obtain⟨l,z,S⟩:=jP.1 I;rw[dA]at z;have:eJ (s.dh.2.map strOfNums) l=b:=by
  unfold eJ;rw[pW,eD (by rw[dA];exact z),S];rfl
 rw[<-this];exact⟨rfl,R l z⟩
 have:=K.lb;show(d.aZ++((s.dh.2.map strOfNums).take s.dh.2.length).map (λb=>((j:Int),b))).length<=_;rw[bH,dA,ct,dA];omega;show ai d.bn i (d.bn i+s.dh.2.length) i=((U i).dW a).next;rw[bk,d4,u];show ai d.bn i (d.bn i+s.dh.2.length) j=d.bn j;rw[bl _ _ t]
theorem Qc(num:Int):∀(a:List Fr)(m:aj),(aj.fc num a m).1≠6:=by
 intro a;induction a with
 |nil=>intro m;show(0:Int)≠6;decide
 |cons f a b=>
  intro m;have e2:aj.fc num (f::a) m=if(m.take f).1=0 then aj.fc num a ((m.take f).2.note f num)else((m.take f).1,(m.take f).2.fail (m.take f).1):=rfl
  rw[e2];split;exact b _;show(m.take f).1≠6;unfold aj.take;split;split<;>simp;split;split<;>simp;split;show((m.ins f.stream.toNat).bytes f).1≠6;unfold aL.bytes;split;simp;split<;>simp;split<;>simp
theorem Qd(h:(Y.eI L).1=0\/(Y.eI L).1=6):(Y.eI L).2.2.closed=Y.closed/\(Y.eI L).2.2.an=Y.an:=by
 unfold aj.eI at h⊢;split;exact⟨rfl,rfl⟩
 rename_i a;rw[ah a]at h;split;exact⟨rfl,rfl⟩
 rename_i b;rw[ah b]at h;split;exact⟨rfl,rfl⟩
 rename_i c;rw[ah c]at h;unfold aj.pR at h⊢;split;rename_i hd;rw[hd]at h;simp only at h;omega;rename_i d _ hd;rw[hd]at h;simp only at h;split;exact⟨rfl,rfl⟩
 rename_i f;rw[ah f]at h;simp only at h⊢;obtain q|q:=D8 (bp L) d (Y.mark (bp L))
 exact⟨q.closed,q.an⟩
 exact absurd h (λe=>e.elim q (Qc _ _ _))
theorem bG.wU(K:bG d U n)(L:n<=40000){x:Int×ByteArray}(M:x∈d.aZ):
 ∃i r h p,i<2/\x.1=((i:Nat):Int)/\x.2.size<=300/\16<x.2.size/\(d.st i).do ⟨6,0,0,0,x.2⟩=(r,.aD h)/\(r.e=0\/r.e=6)/\dY (n+1) (.aD h)/\(∀l:Nat,l<4->(aQ.aD h).af (l:Int)=(p l,0))/\(∀l,l<4->qB d i l (p l))/\
  ∃C,C=ai U i ((U i).eI (aG x.2)).2.2/\∀D,bG (gG {d with st:=ai d.st i (.aD h)} i p 4 D) C (n+1):=by
 obtain⟨j,i,b,hi,t,N,y,k,z⟩:=K.aZ x M;have f:i≠j:=λe=>t e.symm
 obtain⟨t1,t2,t3,t4,t5,t6,t7⟩:=Pr (K.fe b) (K.fe hi) (by omega) (K.dir j i b hi t) (K.dir i j hi b f) k z;have A:(U i).ask ⟨6,0,0,0,x.2⟩=(⟨((U i).eI (aG x.2)).1,((U i).eI (aG x.2)).2.1,0,0,[],[]⟩,((U i).eI (aG x.2)).2.2):=rfl;obtain⟨s,e,V,W⟩:=K.aS i hi;have E:=z.1.2.1;have F:=EK z;rw[fu]at E F;obtain⟨c,m⟩:=exq (((U i).eI (aG x.2)).2.2);obtain⟨G,H⟩:=Qd t1;rw[<-m]at G H;have O:c.closed=0:=G.trans (K.fe hi).cl;obtain⟨h,I,u,B⟩:=K.ask hi L ⟨6,0,0,0,x.2⟩ (by simp[aV]) (by simp) (by rw[A,<-m];exact O);rw[A]at I;rw[A,<-m]at u;rw[<-m]at t2 t3 t4 t5 t6 t7;have hF:=u.fe B;have hp:∀l,l<4->qB d i l (c.outs l).af.eF:=λl hl=>K.EF hi b f hl (t4 l hl).pre (by rw[<-(t4 l hl).data];exact(hF.fr l hl).1) (λP=>by
  have:=Es hF (K.fe b) t3 hl (by rw[(t4 l hl).gv];exact P);rw[<-t3.ag]at this;rw[<-(K.dir i j hi b f).ag];exact this)
 have Q:∀l,l<4->0<=(c.outs l).af.eF:=λl hl=>(sD (hF.ck l hl)).1
 refine⟨i,_,h,λl=>(c.outs l).af.eF,hi,N,E,F,I,t1,B,λl hl=>bG.af (V:=d) (m:=U) u hl,hp,ai U i c,by rw[m],λD=>?_⟩
 have R:c.key=(U i).key:=by have v:=t3.key;have w:=(K.dir i j hi b f).key;exact v.symm.trans w
 have S:c.ag=(U i).ag:=by have v:=t3.ag;have w:=(K.dir i j hi b f).ag;exact v.symm.trans w
 have T:c.me=(U i).me:=by have v:=t3.me;have w:=(K.dir i j hi b f).me;omega
 refine K.jw hi b f (b9 n) rfl ⟨h,rfl,u,B⟩ t3 t2 ⟨λy k=>by rw[t7];exact k,R,T,H,S⟩ (λl hl=>?_) (λl hl=>?_) (λy k=>.inl k) (by have:=K.lb;show d.aZ.length<=100*(n+1);omega) (by rw[t6];exact(K.cfg i hi).1) rfl ⟨rfl,rfl,rfl⟩;have a:=K.en i j hi b f l hl;have o:=t4 l hl;show lE (c.outs l) ((U j).ins l) (iu d.e i (λl=>(c.outs l).af.eF) 4 i l);unfold iu;rw[az ⟨rfl,hl⟩];exact⟨a.wrote.trans o.data.symm,a.fin.trans o.fin.symm,a.gv.trans o.gv.symm,λg=>(a.code g).trans o.code.symm,a.read,a.state,Q l hl,cW _⟩
 have a:=K.en j i b hi t l hl;show lE ((U j).outs l) (c.ins l) (iu d.e i (λl=>(c.outs l).af.eF) 4 j l);unfold iu;rw[ah (λq=>t q.1)];exact⟨a.wrote,a.fin,a.gv,a.code,a.read.trans (t5 l).1.symm,a.state.trans (t5 l).2.symm,a.af⟩
def j9(l:List (Int×ByteArray))(q:Nat):Int×ByteArray:=l.getD q (0,⟨#[]⟩)
theorem uu{l:List (Int×ByteArray)}(h:n<l.length):j9 l n∈l:=by
 unfold j9;rw[pW,eD h];exact sU h
theorem Qe:∀(l:List (Int×ByteArray))(q:Nat),q<l.length->(l.flatMap iR)[q*2]?=some (.int .i64 (j9 l q).1)/\(l.flatMap iR)[q*2+1]?=some (.string (j9 l q).2):=by
 intro l;induction l with
 |nil=>intro q h;simp at h
 |cons x l c=>
  intro q h;cases q with
  |zero=>exact⟨rfl,rfl⟩
  |succ q=>
   obtain⟨a,b⟩:=c q (by simpa using h);have e:(x::l).flatMap iR=iR x++l.flatMap iR:=rC;rw[e,jz (by simp[iR];omega),jz (by simp[iR];omega)];simp only[iR,dq,fB]
   rw[show(q+1)*2-(0+1+1)=q*2 by omega,show(q+1)*2+1-(0+1+1)=q*2+1 by omega];exact⟨a,b⟩
theorem bS.sL(h:bS w n d)(l:k<d.aZ.length):∃g c,d.vb=.slice (some ⟨g,0,none⟩) d.aZ.length c/\w.cell? ⟨n,20,none⟩=some (.slice (some ⟨g,0,none⟩) d.aZ.length c)/\w.cell? ⟨g,k*2,none⟩=some (.int .i64 (j9 d.aZ k).1)/\w.cell? ⟨g,k*2+1,none⟩=some (.string (j9 d.aZ k).2):=by
 obtain⟨a,c,e,-,-,m,p⟩:=qX h.aZ;cases a with
 |none=>have:=(m rfl).1;omega
 |some y=>
  obtain⟨b,f⟩:=p y rfl;obtain⟨f1,f2⟩:=Qe d.aZ k l;have i:=f _ _ f1;have j:=f _ _ f2;rw[dR]at i j;refine⟨y.block,c,by rw[e,<-b],?_,i,j⟩
  rw[h.c.1.2.2.2.2.1,e,<-b]
theorem EM(w:World)(nb:Nat)(V:Nw)(m:Nat->aj)(n:Nat)(H:bS w nb V)(f:Laid w)(K:bG V m n)(Q:n<=40000)(s:cR)(hs:s.ok)(h:s.kind≠6/\s.kind≠9/\s.kind≠8)(h0:V.aZ.length≠0):
 Calls prog 85 #[.pointer (some ⟨nb,0,none⟩),.agg (cZ s)] w λe I=>e=.returned (.bool true)/\bO w nb V V I:=by
 obtain⟨b,S⟩:=iw.mk' H f s;obtain⟨d0,d1,d2,d3,d4⟩:=S.cells S.T;have M:=K.lb;obtain⟨L,z⟩:=exq V.aZ.length;obtain⟨q,A⟩:=exq (bf s.a L);have R:q<L:=by have:=eM s.a (p:=L) (by omega);omega
 have B:=J (λW=>eU s.a L W hs.a.1 hs.a.2 (by omega) (by omega));rw[<-A]at B;have k:=uu (l:=V.aZ) (n:=q) (by omega);obtain⟨g,vc,N,p,r,t⟩:=S.T.at_.sL (k:=q) (by omega);rw[<-z]at p;have U:(0:Int)<=(q:Int):=by omega
 have X:(q:Int)<(L:Int):=by omega
 have Y:((L:Int)==0)=false:=by simp;omega
 obtain⟨x,C⟩:=exq (j9 V.aZ q);rw[<-C]at k r t;have D:=S.e;have k1:(s.kind==6)=false:=by simpa using h.1
 have k2:(s.kind==9)=false:=by simpa using h.2.1
 have k3:(s.kind==8)=false:=by simpa using h.2.2
 have O:=J (λ(W:World)(g:b.grownBy W none)=>bO.pre H f S.g (S.T.gb g));have P:=J (λ(W:World)(g:b.grownBy W none)=>S.cells (S.T.gb g));replace S:=J S;replace H:=J H;replace f:=J f;replace K:=J K;replace hs:=J hs;replace k:=J k;clear z A C N M;obtain⟨kind,side,sa,a0,str⟩:=s;obtain⟨u,v⟩:=x;simp only at *;clear h;unfold cZ at *;simp only at *;go_enter func85,ntmps85;go_upto_region 1 with fail;rw[<-D];clear D;go_upto_region 3 with fail;go_quiet (first|(go_at_call 23;refine Calls.quiet_of_same (Z B _)));obtain⟨c,i⟩:=exq (b.drewN nq);have E:b.grownBy c none:=by rw[i];exact di (aB _ none) _
 have F:∀a,c.cell? a=b.cell? a:=λa=>by rw[i];rfl
 rw[<-F]at d0 d1 d2 d3 d4 p r t;rw[<-i];clear i F;go_upto_region 5 with fail;obtain⟨d,j⟩:=exq (c.alloc (.cells #[.int .i64 u,.string v] 83));have G:b.grownBy d none:=by rw[j];exact aq E (aH _ _ _)
 have z5:b.heap.size<=c.heap.size:=E.size;have y:d.heap[c.heap.size]?=some (.cells #[.int .i64 u,.string v] 83 (0,0)):=by rw[j];exact aM _ _
 obtain⟨f0,f1⟩:d.cell? ⟨c.heap.size,0,none⟩=some (.int .i64 u)/\d.cell? ⟨c.heap.size,1,none⟩=some (.string v):=by simp[World.cell?,y]
 rw[<-j];clear j p r t;replace y:=J y;obtain⟨d0,d1,d2,d3,d4⟩:=Z P d G;go_wp2_with fail;go_ret;exact⟨rfl,Z O d G⟩
theorem bG.EN(K:bG d U n)(hi:i<2):dY (n+1) (d.st i):=by
 obtain⟨s,e,-,a⟩:=K.aS i hi;rw[e];exact a.mono (b9 n)
theorem EO(w:World)(nb:Nat)(V:Nw)(m:Nat->aj)(n:Nat)(H:bS w nb V)(b:Laid w)(K:bG V m n)(k:n<=40000)(s:cR)(hs:s.ok)(h0:V.aZ.length=0):
 Calls prog 85 #[.pointer (some ⟨nb,0,none⟩),.agg (cZ s)] w λe h=>e=.returned (.bool true)/\bO w nb V V h:=by
 obtain⟨l,S⟩:=iw.mk' H b s;obtain⟨a,c,d,-⟩:=qX S.T.at_.aZ;have i:=S.T.at_.c.1.2.2.2.2.1;rw[d,h0]at i;have j:=J (bO.pre H b S.g S.T);have f:=S.e;replace S:=J S;replace H:=J H;replace b:=J b;replace K:=J K;replace hs:=J hs;clear d;obtain⟨kind,side,p,q,str⟩:=s;unfold cZ at *;simp only at *;go_enter func85,ntmps85;go_upto_region 1 with fail;rw[<-f];clear f;go_wp2_with fail;go_ret;exact⟨rfl,Z j⟩
theorem Qf(w:World)(nb:Nat)(V:Nw)(m:Nat->aj)(n:Nat)(H:bS w nb V)(f:Laid w)(K:bG V m n)(hn:n<=40000)(s:cR)(hs:s.ok)(hk:s.kind=6)(h0:V.aZ.length≠0):
 Calls prog 85 #[.pointer (some ⟨nb,0,none⟩),.agg (cZ s)] w (dX w nb V n):=by
 obtain⟨b,S⟩:=iw.mk' H f s;obtain⟨d0,d1,d2,d3,d4⟩:=S.cells S.T;have a4:=K.lb;obtain⟨L,O⟩:=exq V.aZ.length;obtain⟨q,Q⟩:=exq (bf s.a L);have hq:q<L:=by have:=eM s.a (p:=L) (by omega);omega
 have R:=J (λW=>eU s.a L W hs.a.1 hs.a.2 (by omega) (by omega));rw[<-Q]at R;have j:=uu (l:=V.aZ) (n:=q) (by omega);obtain⟨g,vc,hv,v,k,y⟩:=S.T.at_.sL (k:=q) (by omega);rw[<-O]at v;have q0:(0:Int)<=(q:Int):=by omega
 have q1:(q:Int)<(L:Int):=by omega
 have l0:((L:Int)==0)=false:=by simp;omega
 obtain⟨x,U⟩:=exq (j9 V.aZ q);rw[<-U]at j k y;have X:=S.e;obtain⟨i,r,Y,p,hi,a9,b3,-,z,hr,A,B,C,m',-,D⟩:=K.wU hn j;have hw:=K.mb;have bj:=J (λ(W:World)(g:b.grownBy W none)=>S.cells (S.T.gb g));have E:=λ(W:World)(g:b.grownBy W none)=>EA W nb V (S.T.gb g).at_ (S.T.gb g).laid i hi (n+1) (K.EN hi) (by omega) (by omega) x.2 (by omega) r (.aD Y) z hr A p B C
 have al:=J (λ(W w':World)(g:b.grownBy W none)(h:∃F,bO W nb V (gG {V with st:=ai V.st i (.aD Y)} i p 4 F) w')=>(show dX w nb V n (.returned (.bool true)) w' from h.elim (λF T=>S.fin H f ((S.T.gb g).trans T) (b9 (n+1)) (D F))));obtain⟨P,G⟩:=exq (dX w nb V n);rw[<-G]at al⊢;replace G:=J G;rw[a9]at k;replace E:=J E;replace z:=J z;replace A:=J A;replace B:=J B;replace C:=J C;replace D:=J D;replace S:=J S;replace H:=J H;replace f:=J f;replace K:=J K;replace hs:=J hs;replace j:=J j;clear O Q U hv a4;obtain⟨kind,side,sa,b7,str⟩:=s;obtain⟨xt,I⟩:=x;simp only at *;subst hk;unfold cZ at *;simp only at *;go_enter func85,ntmps85;go_upto_region 1 with fail;rw[<-X];clear X;go_upto_region 3 with fail;go_quiet (first|(go_at_call 23;refine Calls.quiet_of_same (Z R _)));obtain⟨c,t⟩:=exq (b.drewN nq);have g2:b.grownBy c none:=by rw[t];exact di (aB _ none) _
 have a0:∀a,c.cell? a=b.cell? a:=λa=>by rw[t];rfl
 rw[<-a0]at d0 d1 d2 d3 d4 v k y;rw[<-t];clear t a0;go_upto_region 5 with fail;obtain⟨d,u⟩:=exq (c.alloc (.cells #[.int .i64 (i:Int),.string I] 83));have M:b.grownBy d none:=by rw[u];exact aq g2 (aH _ _ _)
 have z5:b.heap.size<=c.heap.size:=g2.size;have N:d.heap[c.heap.size]?=some (.cells #[.int .i64 (i:Int),.string I] 83 (0,0)):=by rw[u];exact aM _ _
 obtain⟨f0,f1⟩:d.cell? ⟨c.heap.size,0,none⟩=some (.int .i64 (i:Int))/\d.cell? ⟨c.heap.size,1,none⟩=some (.string I):=by simp[World.cell?,N]
 rw[<-u];clear u v k y;replace N:=J N;obtain⟨d0,d1,d2,d3,d4⟩:=Z bj d M;go_wp2_with (go_at_call 86;refine(Z E d M).mono ?_;rintro e w6⟨rfl,h6⟩;have hf:=J (Z al d w6 M h6));first|exact Z hf|(go_ret;exact Z hf)
theorem Qg(w:World)(nb:Nat)(V:Nw)(m:Nat->aj)(n:Nat)(H:bS w nb V)(j:Laid w)(K:bG V m n)(hn:n<=40000)(s:cR)(hs:s.ok)(hk:s.kind=9)(h0:V.aZ.length≠0):
 Calls prog 85 #[.pointer (some ⟨nb,0,none⟩),.agg (cZ s)] w (dX w nb V n):=by
 obtain⟨b,S⟩:=iw.mk' H j s;obtain⟨d0,d1,d2,d3,d4⟩:=S.cells S.T;have aC:=K.lb;obtain⟨L,F⟩:=exq V.aZ.length;obtain⟨q,G⟩:=exq (bf s.a L);have hq:q<L:=by have:=eM s.a (p:=L) (by omega);omega
 have I:=J (λW=>eU s.a L W hs.a.1 hs.a.2 (by omega) (by omega));rw[<-G]at I;have k:=uu (l:=V.aZ) (n:=q) (by omega);obtain⟨g,vc,hv,u,p,v⟩:=S.T.at_.sL (k:=q) (by omega);rw[<-F]at u;have q0:(0:Int)<=(q:Int):=by omega
 have q1:(q:Int)<(L:Int):=by omega
 have l0:((L:Int)==0)=false:=by simp;omega
 obtain⟨x,M⟩:=exq (j9 V.aZ q);rw[<-M]at k p v;have N:=S.e;obtain⟨i,-,-,-,hi,a1,br,-⟩:=K.wU hn k;obtain⟨f,bt⟩:∃f:Nat,(1:Int)-(i:Int)=(f:Int):=⟨1-i,by omega⟩
 have y:f<2:=by omega
 have a2:=J (λ(W:World)(g:b.grownBy W none)=>S.cells (S.T.gb g));have z:=λ(W:World)(g:b.grownBy W none)=>zr W nb V (S.T.gb g).at_ (S.T.gb g).laid f y n (K.ok y) (by omega) x.2 (by omega) (K.zv y x.2)
 have O:=J (λ(W Q:World)(g:b.grownBy W none)(h:∃R,bO W nb V {V with A:=ai V.A f R} Q)=>(show dX w nb V n (.returned (.bool true)) Q from h.elim (λR T=>S.fin H j ((S.T.gb g).trans T) (by omega) (K.A _))));obtain⟨P,B⟩:=exq (dX w nb V n);rw[<-B]at O⊢;replace B:=J B;rw[a1]at p;replace z:=J z;replace S:=J S;replace H:=J H;replace j:=J j;replace K:=J K;replace hs:=J hs;replace k:=J k;clear F G M hv aC;obtain⟨kind,side,sa,bz,str⟩:=s;obtain⟨xt,C⟩:=x;simp only at *;subst hk;unfold cZ at *;simp only at *;go_enter func85,ntmps85;go_upto_region 1 with fail;rw[<-N];clear N;go_upto_region 3 with fail;go_quiet (first|(go_at_call 23;refine Calls.quiet_of_same (Z I _)));obtain⟨c,r⟩:=exq (b.drewN nq);have U:b.grownBy c none:=by rw[r];exact di (aB _ none) _
 have X:∀a,c.cell? a=b.cell? a:=λa=>by rw[r];rfl
 rw[<-X]at d0 d1 d2 d3 d4 u p v;rw[<-r];clear r X;go_upto_region 5 with fail;obtain⟨d,t⟩:=exq (c.alloc (.cells #[.int .i64 (i:Int),.string C] 83));have D:b.grownBy d none:=by rw[t];exact aq U (aH _ _ _)
 have z5:b.heap.size<=c.heap.size:=U.size;have E:d.heap[c.heap.size]?=some (.cells #[.int .i64 (i:Int),.string C] 83 (0,0)):=by rw[t];exact aM _ _
 obtain⟨f0,f1⟩:d.cell? ⟨c.heap.size,0,none⟩=some (.int .i64 (i:Int))/\d.cell? ⟨c.heap.size,1,none⟩=some (.string C):=by simp[World.cell?,E]
 rw[<-t];clear t u p v;replace E:=J E;obtain⟨d0,d1,d2,d3,d4⟩:=Z a2 d D;go_wp2_with (go_at_call 84;refine(Z z d D).mono ?_;rintro e w6⟨rfl,h6⟩;have Y:=J (Z O d w6 D h6));first|exact Z Y|(go_ret;exact Z Y)
theorem Qh(W:World)(z:Int)(b:W8 z):(convert 112 9 (.slice (some ⟨W.heap.size,0,none⟩) 1 1)).run prog (W.alloc (.cells #[.int .u8 z] 5)).drew=.ok (.string (strOfNums [z])) (W.alloc (.cells #[.int .u8 z] 5)).drew:=by
 have a:∀x∈[z],W8 x:=λx c=>by rw[cS.1 c];exact b
 have d:(W.alloc (.cells #[.int .u8 z] 5)).drew.heap[W.heap.size]?=some (.cells #[.int .u8 z] 5 (0,0)):=aM _ _;refine tj ⟨a,rfl,aP _,by simp[maxLen],.inr ⟨_,_,rfl,λi hi=>?_,a⟩⟩;obtain rfl:i=0:=by simpa using hi
 rw[dR,aX d];rfl
theorem Qi(x y:Int):W8 (bits .xor .u8 x y):=by
 unfold W8 bits;simp[IntKind.wrap,IntKind.bits,IntKind.signed];omega
theorem Qj(w:World)(nb:Nat)(V:Nw)(m:Nat->aj)(n:Nat)(H:bS w nb V)(r:Laid w)(K:bG V m n)(hn:n<=40000)(s:cR)(hs:s.ok)(hk:s.kind=8)(h0:V.aZ.length≠0):
 Calls prog 85 #[.pointer (some ⟨nb,0,none⟩),.agg (cZ s)] w (dX w nb V n):=by
 obtain⟨f,S⟩:=iw.mk' H r s;obtain⟨d0,d1,d2,d3,d4⟩:=S.cells S.T;have a4:=K.lb;obtain⟨L,Q⟩:=exq V.aZ.length;obtain⟨q,R⟩:=exq (bf s.a L);have hq:q<L:=by have:=eM s.a (p:=L) (by omega);omega
 have U:=J (λW=>eU s.a L W hs.a.1 hs.a.2 (by omega) (by omega));rw[<-R]at U;have t:=uu (l:=V.aZ) (n:=q) (by omega);obtain⟨g,vc,hv,F,u,G⟩:=S.T.at_.sL (k:=q) (by omega);rw[<-Q]at F;have q0:(0:Int)<=(q:Int):=by omega
 have q1:(q:Int)<(L:Int):=by omega
 have l0:((L:Int)==0)=false:=by simp;omega
 obtain⟨x,X⟩:=exq (j9 V.aZ q);rw[<-X]at t u G;have Y:=S.e;obtain⟨i,-,-,-,hi,a8,bj,br,-⟩:=K.wU hn t;have a9:=J (λ(W:World)(g:f.grownBy W none)=>S.cells (S.T.gb g));have v:=λ(W:World)(g:f.grownBy W none)(b:ByteArray)(aa:b.size<=1000000)=>zr W nb V (S.T.gb g).at_ (S.T.gb g).laid i hi n (K.ok hi) (by omega) b aa (K.zv hi b)
 have I:=J (λ(W w':World)(g:f.grownBy W none)(h:∃A',bO W nb V {V with A:=ai V.A i A'} w')=>(show dX w nb V n (.returned (.bool true)) w' from h.elim (λA' T=>S.fin H r ((S.T.gb g).trans T) (by omega) (K.A _))));obtain⟨at_,al⟩:=exq (bf s.b x.2.size);have bb:at_<x.2.size:=by have:=eM s.b (p:=x.2.size) (by omega);omega
 have ax:=J (λW=>eU s.b x.2.size W hs.b.1 hs.b.2 (by omega) (by omega));rw[<-al]at ax;clear al;obtain⟨P,M⟩:=exq (dX w nb V n);rw[<-M]at I⊢;replace M:=J M;rw[a8]at u;replace v:=J v;replace S:=J S;replace H:=J H;replace r:=J r;replace K:=J K;replace hs:=J hs;replace t:=J t;clear Q R X hv a4;obtain⟨kind,side,sa,bt,str⟩:=s;obtain⟨xt,c⟩:=x;simp only at *;subst hk;unfold cZ at *;simp only at *;go_enter func85,ntmps85;go_upto_region 1 with fail;rw[<-Y];clear Y;go_upto_region 3 with fail;go_quiet (first|(go_at_call 23;refine Calls.quiet_of_same (Z U _)));obtain⟨d,B⟩:=exq (f.drewN nq);have g2:f.grownBy d none:=by rw[B];exact di (aB _ none) _
 have aC:∀a,d.cell? a=f.cell? a:=λa=>by rw[B];rfl
 rw[<-aC]at d0 d1 d2 d3 d4 F u G;rw[<-B];clear B aC;go_upto_region 5 with fail;obtain⟨j,C⟩:=exq (d.alloc (.cells #[.int .i64 (i:Int),.string c] 83));have k:f.grownBy j none:=by rw[C];exact aq g2 (aH _ _ _)
 have z5:f.heap.size<=d.heap.size:=g2.size;have D:j.heap[d.heap.size]?=some (.cells #[.int .i64 (i:Int),.string c] 83 (0,0)):=by rw[C];exact aM _ _
 obtain⟨f0,f1⟩:j.cell? ⟨d.heap.size,0,none⟩=some (.int .i64 (i:Int))/\j.cell? ⟨d.heap.size,1,none⟩=some (.string c):=by simp[World.cell?,D]
 rw[<-C];clear C F u G;replace D:=J D;obtain⟨d0,d1,d2,d3,d4⟩:=Z a9 j k;go_upto_region 13 with(go_at_call 23;refine(Z ax _).mono ?_;rintro e w2⟨rfl,ew⟩;rw[ew];clear ew)
 have z6:d.heap.size<j.heap.size:=(aY.1 (Z D)).1;have z7:d.heap.size≠j.heap.size:=by omega
 have a0:(0:Int)<=(at_:Int):=by omega
 have a1:(at_:Int)<(c.size:Int):=by omega
 have a2:(at_:Int)<=(c.size:Int):=by omega
 have a3:(at_:Int)+1<=(c.size:Int):=by omega
 have bx:=λ(y:Int)=>Qh j (bits .xor .u8 ((c[at_]'bb).toNat:Int) y) (Qi _ _)
 have bz:=λ(z:Int)=>zu (c.extract 0 at_) (strOfNums [z]) (by rw[rz];have:(strOfNums [z]).size=1:=rfl;omega)
 have bM:=λ(z:Int)=>zu (c.extract 0 at_++strOfNums [z]) (c.extract (at_+1) c.size) (by rw[sJ,rz,rz];have:(strOfNums [z]).size=1:=rfl;omega)
 have E:∀z:Int,(c.extract 0 at_++strOfNums [z]++c.extract (at_+1) c.size).size<=1000000:=λz=>by rw[sJ,sJ,rz,rz];have:(strOfNums [z]).size=1:=rfl;omega
 replace E:=J E;by_cases hz:0<str.size
 ·have z1:decide (0<(str.size:Int))=true:=bK (by omega);have z2:(0:Int)<(str.size:Int):=by omega
  go_upto_region 14 with fail;all_goals first|go_upto_region 15 with fail|skip
  all_goals go_region
  all_goals
   go_wp2_with (go_at_call 84;refine(Z v _ (aq k (aW (aH _ _ _))) _ (Z E _)).mono ?_;rintro e N⟨rfl,O⟩;have p:=J (Z I _ N (aq k (aW (aH _ _ _))) O))
   first|exact Z p|(go_ret;exact Z p)
 have z1:decide (0<(str.size:Int))=false:=bI (by omega);go_upto_region 15 with fail;go_region;go_wp2_with (go_at_call 84;refine(Z v _ (aq k (aW (aH _ _ _))) _ (Z E _)).mono ?_;rintro e N⟨rfl,O⟩;have p:=J (Z I _ N (aq k (aW (aH _ _ _))) O));first|exact Z p|(go_ret;exact Z p)
theorem Qk(w:World)(nb:Nat)(V:Nw)(m:Nat->aj)(n:Nat)(H:bS w nb V)(a:Laid w)(K:bG V m n)(b:n<=40000)(s:cR)(hs:s.ok):
 Calls prog 85 #[.pointer (some ⟨nb,0,none⟩),.agg (cZ s)] w (dX w nb V n):=by
 have d:∀e c,e=.returned (.bool true)/\bO w nb V V c->dX w nb V n e c:=λe c h=>⟨h.1,V,m,n,by omega,h.2,K⟩
 by_cases h0:V.aZ.length=0;exact(EO w nb V m n H a K b s hs h0).mono d;by_cases f:s.kind=6;exact Qf w nb V m n H a K b s hs f h0;by_cases g:s.kind=9;exact Qg w nb V m n H a K b s hs g h0;by_cases i:s.kind=8;exact Qj w nb V m n H a K b s hs i h0;exact(EM w nb V m n H a K b s hs ⟨f,g,i⟩ h0).mono d
theorem Ql(w:World)(nb:Nat)(V:Nw)(m:Nat->aj)(n:Nat)(H:bS w nb V)(h:Laid w)(K:bG V m n)(M:n<=40000)(s:cR)(hs:s.ok)(N:s.kind=2)(b:((V.e (bf s.side 2) (bf s.a 4)).finished||(V.e (bf s.side 2) (bf s.a 4)).given)=true):
 Calls prog 50 #[.pointer (some ⟨nb,0,none⟩),.agg (cZ s)] w (dX w nb V n):=by
 obtain⟨p,S⟩:=iw.mk' H h s;obtain⟨i,D⟩:=exq (bf s.side 2);obtain⟨k,E⟩:=exq (bf s.a 4);have hi:i<2:=by have:=eM s.side (p:=2) (by decide);omega
 have q:k<4:=by have:=eM s.a (p:=4) (by decide);omega
 have r:=J (eU s.side 2 p hs.side.1 hs.side.2 (by decide) (by decide));have t:=J (eU s.a 4 p hs.a.1 hs.a.2 (by decide) (by decide));rw[<-D]at r b;rw[<-E]at t b;clear D E;have i0:(0:Int)<=(i:Int):=by omega
 have i1:(i:Int)<2:=by omega
 have k0:(0:Int)<=(k:Int):=by omega
 have k1:(k:Int)<4:=by omega
 have O:1-i<2:=by omega
 have Q:i≠1-i:=by omega
 have hw:=K.mb;obtain⟨c0,c1,R,ce,cl⟩:=S.T.at_.ns hi q;obtain⟨d0,d1,d2,d3,d4⟩:=S.cells S.T;obtain⟨U,⟨-,u,v⟩|⟨F,-,-⟩⟩:=K.vB hi O Q M q;rotate_left
 rw[b]at F;cases F;have c:=np S.T hi (K.ok hi) (by omega) ⟨2,(k:Int),0,0,⟨#[]⟩⟩ (by simp[aV]) (jh _) u;have x:=J (λ(W:World)(y:Nat->Prop)(T:bO p nb V {V with st:=ai V.st i (.aD U),A:=ai V.A i y} W)=>S.fin H h T (n:=n) (b9 (n+1)) (v _));unfold cG ma lF at c;simp only[pP]at c;replace c:=J c;obtain⟨P,z⟩:=exq (dX w nb V n);rw[<-z]at x⊢;replace z:=J z;have G:=S.e;replace S:=J S;replace H:=J H;replace h:=J h;replace K:=J K;replace hs:=J hs;replace v:=J v;replace u:=J u;obtain⟨kind,side,sa,a3,str⟩:=s;simp only at *;subst N;unfold cZ at *;simp only at *;go_enter func50,ntmps50;go_upto_region 1 with fail;rw[<-G];clear G;go_upto_region 2 with(go_at_call 23;refine(Z r).mono ?_;rintro e X⟨rfl,rfl⟩)
 go_upto_region 4 with(go_at_call 23;refine(Z t).mono ?_;rintro e X⟨rfl,rfl⟩)
 go_upto_region 18 with(go_at_call 28;refine(Z c).mono ?_;rintro e d⟨a,m1,I,y,rfl,-,B,-⟩)
 obtain⟨f,g⟩:=exq (d.alloc (.cells #[.int .i64 3,.int .i64 (-1),.int .i64 0,.int .u64 0,.string ⟨#[]⟩,.slice a m1 I] 46));have Y:d.grownBy f none:=by rw[g];exact aH _ _ _
 have z5:d.heap.size<f.heap.size:=by rw[g,dQ];omega
 have C:f.heap[d.heap.size]?=some (.cells #[.int .i64 3,.int .i64 (-1),.int .i64 0,.int .u64 0,.string ⟨#[]⟩,.slice a m1 I] 46 (0,0)):=by rw[g];exact aM _ _
 rw[<-g];clear g;have j:=B.gb Y;have y0:f.cell? ⟨d.heap.size,0,none⟩=some (.int .i64 3):=by simp[World.cell?,C]
 obtain⟨⟨-,e1,e2,-,-,-,-⟩,-⟩:=j.at_.ce hi q;simp only at e1 e2;have l:=J (Z x f y j);replace C:=J C;replace B:=J B;replace j:=J j;clear x c r t c0 c1 R ce cl d0 d1 d2 d3 d4;cases L:(V.e i k).finished
 ·rw[L]at e1 b;rw[Bool.false_or]at b;rw[b]at e2;go_wp2_with fail;first|exact Z l|(go_ret;exact Z l)
 rw[L]at e1;go_wp2_with fail;first|exact Z l|(go_ret;exact Z l)
theorem EP(w:World)(nb:Nat)(V:Nw)(m:Nat->aj)(n:Nat)(H:bS w nb V)(p:Laid w)(K:bG V m n)(U:n<=40000)(s:cR)(hs:s.ok)(Q:Nw->Prop)(X:s.kind=2)(b:((V.e (bf s.side 2) (bf s.a 4)).finished||(V.e (bf s.side 2) (bf s.a 4)).given)=false)(h:∀(c:Sd)(F:Nat->Nat->Prop),(V.st (bf s.side 2)).do ⟨2,((bf s.a 4):Int),0,0,⟨#[]⟩⟩=(⟨0,-1,0,0,[],[]⟩,.aD c)->bG {V with st:=ai V.st (bf s.side 2) (.aD c),A:=F,e:=eh V.e (bf s.side 2) (bf s.a 4) {V.e (bf s.side 2) (bf s.a 4)with finished:=true}} (ai m (bf s.side 2) {m (bf s.side 2)with outs:=ai (m (bf s.side 2)).outs (bf s.a 4) {(m (bf s.side 2)).outs (bf s.a 4)with finished:=true}}) (n+1)->Q {V with st:=ai V.st (bf s.side 2) (.aD c),A:=F,e:=eh V.e (bf s.side 2) (bf s.a 4) {V.e (bf s.side 2) (bf s.a 4)with finished:=true}}):
 Calls prog 50 #[.pointer (some ⟨nb,0,none⟩),.agg (cZ s)] w (nr w nb V Q):=by
 obtain⟨v,S⟩:=iw.mk' H p s;obtain⟨i,G⟩:=exq (bf s.side 2);obtain⟨k,I⟩:=exq (bf s.a 4);have hi:i<2:=by have:=eM s.side (p:=2) (by decide);omega
 have d:k<4:=by have:=eM s.a (p:=4) (by decide);omega
 have y:=J (eU s.side 2 v hs.side.1 hs.side.2 (by decide) (by decide));have z:=J (eU s.a 4 v hs.a.1 hs.a.2 (by decide) (by decide));rw[<-G]at y b h;rw[<-I]at z b h;clear G I;have i0:(0:Int)<=(i:Int):=by omega
 have i1:(i:Int)<2:=by omega
 have k0:(0:Int)<=(k:Int):=by omega
 have k1:(k:Int)<4:=by omega
 have Y:1-i<2:=by omega
 have al:i≠1-i:=by omega
 have hw:=K.mb;obtain⟨c0,c1,cx,ce,cl⟩:=S.T.at_.ns hi d;obtain⟨d0,d1,d2,d3,d4⟩:=S.cells S.T;obtain⟨c,⟨L,-,-⟩|⟨-,q,B⟩⟩:=K.vB hi Y al U d;rw[b]at L;cases L;have f:=np S.T hi (K.ok hi) (by omega) ⟨2,(k:Int),0,0,⟨#[]⟩⟩ (by simp[aV]) (jh _) q;have C:=J (λ(W:World)(r:Nat->Prop)(T:bO v nb V {V with st:=ai V.st i (.aD c),A:=ai V.A i r} W)=>(show nr w nb V Q (.returned (.bool true)) (W.setCell ⟨V.eb i k,1,none⟩ (.bool true)) by
  have M:=T.at_.en i hi k d;simp only at M;have T7:=T.trans (T.at_.uo T.laid hi d (x:={V.e i k with finished:=true}) (oa W (V.eb i k) 1 (.bool true)) (heap_set M _));obtain⟨m',a0,a1⟩:=B (ai V.A i r);exact S.zt H p T7 (h c _ q (a1▸a0))))
 unfold cG ma lF at f;simp only[pP]at f;replace f:=J f;obtain⟨P,D⟩:=exq (nr w nb V Q);rw[<-D]at C⊢;replace D:=J D;have N:=S.e;replace S:=J S;replace H:=J H;replace p:=J p;replace K:=J K;replace hs:=J hs;replace B:=J B;replace q:=J q;replace h:=J h;obtain⟨kind,side,sa,bz,str⟩:=s;simp only at *;subst X;unfold cZ at *;simp only at *;go_enter func50,ntmps50;go_upto_region 1 with fail;rw[<-N];clear N;go_upto_region 2 with(go_at_call 23;refine(Z y).mono ?_;rintro e w2⟨rfl,rfl⟩)
 go_upto_region 4 with(go_at_call 23;refine(Z z).mono ?_;rintro e w2⟨rfl,rfl⟩)
 go_upto_region 18 with(go_at_call 28;refine(Z f).mono ?_;rintro e g⟨a,m1,O,r,rfl,-,t,-⟩)
 obtain⟨j,l⟩:=exq (g.alloc (.cells #[.int .i64 0,.int .i64 (-1),.int .i64 0,.int .u64 0,.string ⟨#[]⟩,.slice a m1 O] 46));have g5:g.grownBy j none:=by rw[l];exact aH _ _ _
 have z5:g.heap.size<j.heap.size:=by rw[l,dQ];omega
 have E:j.heap[g.heap.size]?=some (.cells #[.int .i64 0,.int .i64 (-1),.int .i64 0,.int .u64 0,.string ⟨#[]⟩,.slice a m1 O] 46 (0,0)):=by rw[l];exact aM _ _
 rw[<-l];clear l;have u:=t.gb g5;have y0:j.cell? ⟨g.heap.size,0,none⟩=some (.int .i64 0):=by simp[World.cell?,E]
 obtain⟨⟨-,e1,e2,e3,-,-,-⟩,ef⟩:=u.at_.ce hi d;simp only at e1 e2 e3 ef;have b3:g.heap.size≠V.eb i k:=λe=>by
  have:=t.at_.fx (V.eb i k) (.inr (.inr (.inr (.inr (.inr (.inl ⟨i,k,hi,d,rfl⟩))))));omega
 have R:=J (Z C j r u);replace E:=J E;replace t:=J t;replace u:=J u;clear C f y z c0 c1 cx ce cl d0 d1 d2 d3 d4;rw[oh]at b;rw[b.1]at e1;rw[b.2]at e2;go_wp2_with fail;first|exact Z R|(go_ret;exact Z R)
theorem Qm(w:World)(nb:Nat)(V:Nw)(m:Nat->aj)(n:Nat)(H:bS w nb V)(j:Laid w)(K:bG V m n)(R:n<=40000)(s:cR)(hs:s.ok)(U:s.kind=3)(l:(V.e (bf s.side 2) (bf s.a 4)).given=true):
 Calls prog 50 #[.pointer (some ⟨nb,0,none⟩),.agg (cZ s)] w (dX w nb V n):=by
 obtain⟨p,S⟩:=iw.mk' H j s;obtain⟨i,F⟩:=exq (bf s.side 2);obtain⟨k,G⟩:=exq (bf s.a 4);have hi:i<2:=by have:=eM s.side (p:=2) (by decide);omega
 have r:k<4:=by have:=eM s.a (p:=4) (by decide);omega
 have t:=J (eU s.side 2 p hs.side.1 hs.side.2 (by decide) (by decide));have u:=J (eU s.a 4 p hs.a.1 hs.a.2 (by decide) (by decide));rw[<-F]at t l;rw[<-G]at u l;clear F G;have i0:(0:Int)<=(i:Int):=by omega
 have i1:(i:Int)<2:=by omega
 have k0:(0:Int)<=(k:Int):=by omega
 have k1:(k:Int)<4:=by omega
 have X:1-i<2:=by omega
 have Y:i≠1-i:=by omega
 have hw:=K.mb;obtain⟨c0,c1,cx,ce,cl⟩:=S.T.at_.ns hi r;obtain⟨d0,d1,d2,d3,d4⟩:=S.cells S.T;obtain⟨c,v⟩:=exq (bf s.b 1000);have a8:(c:Int)<1000:=by rw[v];exact eM s.b (by decide)
 have I:=J (eU s.b 1000 p hs.b.1 hs.b.2 (by decide) (by decide));rw[<-v]at I;clear v;have a9:IntKind.u64.wrap (c:Int)=(c:Int):=by simp[IntKind.wrap,IntKind.bits,IntKind.signed];omega
 obtain⟨s',⟨-,x,y⟩|⟨L,-,-⟩⟩:=K.EI hi X Y R r (p:=(c:Int)) (by omega);rotate_left
 rw[l]at L;cases L;have d:=np S.T hi (K.ok hi) (by omega) ⟨3,(k:Int),0,(c:Int),⟨#[]⟩⟩ (by unfold aV;simp only;omega) (jh _) x;have z:=J (λ(W:World)(B:Nat->Prop)(T:bO p nb V {V with st:=ai V.st i (.aD s'),A:=ai V.A i B} W)=>S.fin H j T (n:=n) (b9 (n+1)) (y _));unfold cG ma lF at d;simp only[pP]at d;replace d:=J d;obtain⟨P,C⟩:=exq (dX w nb V n);rw[<-C]at z⊢;replace C:=J C;have M:=S.e;replace S:=J S;replace H:=J H;replace j:=J j;replace K:=J K;replace hs:=J hs;replace y:=J y;replace x:=J x;obtain⟨kind,side,sa,bj,str⟩:=s;simp only at *;subst U;unfold cZ at *;simp only at *;go_enter func50,ntmps50;go_upto_region 1 with fail;rw[<-M];clear M;go_upto_region 2 with(go_at_call 23;refine(Z t).mono ?_;rintro e N⟨rfl,rfl⟩)
 go_upto_region 4 with(go_at_call 23;refine(Z u).mono ?_;rintro e N⟨rfl,rfl⟩)
 go_upto_region 26 with(first|(go_at_call 23;refine(Z I).mono ?_;rintro e N⟨rfl,rfl⟩)|(go_at_call 28;refine(Z d).mono ?_;rintro e f⟨a,m1,O,B,rfl,-,D,-⟩))
 obtain⟨g,h⟩:=exq (f.alloc (.cells #[.int .i64 3,.int .i64 (-1),.int .i64 0,.int .u64 0,.string ⟨#[]⟩,.slice a m1 O] 46));have g5:f.grownBy g none:=by rw[h];exact aH _ _ _
 have z5:f.heap.size<g.heap.size:=by rw[h,dQ];omega
 have E:g.heap[f.heap.size]?=some (.cells #[.int .i64 3,.int .i64 (-1),.int .i64 0,.int .u64 0,.string ⟨#[]⟩,.slice a m1 O] 46 (0,0)):=by rw[h];exact aM _ _
 rw[<-h];clear h;have q:=D.gb g5;have y0:g.cell? ⟨f.heap.size,0,none⟩=some (.int .i64 3):=by simp[World.cell?,E]
 obtain⟨⟨-,e1,e2,-,-,-,-⟩,-⟩:=q.at_.ce hi r;simp only at e1 e2;have Q:=J (Z z g B q);replace E:=J E;replace D:=J D;replace q:=J q;clear z d t u c0 c1 cx ce cl d0 d1 d2 d3 d4;rw[l]at e2;go_wp2_with fail;first|exact Z Q|(go_ret;exact Z Q)
theorem Qn(w:World)(nb:Nat)(V:Nw)(m:Nat->aj)(n:Nat)(H:bS w nb V)(l:Laid w)(K:bG V m n)(X:n<=40000)(s:cR)(hs:s.ok)(Y:s.kind=3)(p:(V.e (bf s.side 2) (bf s.a 4)).given=false):
 Calls prog 50 #[.pointer (some ⟨nb,0,none⟩),.agg (cZ s)] w (dX w nb V n):=by
 obtain⟨q,S⟩:=iw.mk' H l s;obtain⟨i,G⟩:=exq (bf s.side 2);obtain⟨k,I⟩:=exq (bf s.a 4);have hi:i<2:=by have:=eM s.side (p:=2) (by decide);omega
 have d:k<4:=by have:=eM s.a (p:=4) (by decide);omega
 have v:=J (eU s.side 2 q hs.side.1 hs.side.2 (by decide) (by decide));have y:=J (eU s.a 4 q hs.a.1 hs.a.2 (by decide) (by decide));rw[<-G]at v p;rw[<-I]at y p;clear G I;have i0:(0:Int)<=(i:Int):=by omega
 have i1:(i:Int)<2:=by omega
 have k0:(0:Int)<=(k:Int):=by omega
 have k1:(k:Int)<4:=by omega
 have hj:1-i<2:=by omega
 have ax:i≠1-i:=by omega
 have hw:=K.mb;obtain⟨c0,c1,cx,ce,cl⟩:=S.T.at_.ns hi d;obtain⟨d0,d1,d2,d3,d4⟩:=S.cells S.T;obtain⟨c,z⟩:=exq (bf s.b 1000);have bt:(c:Int)<1000:=by rw[z];exact eM s.b (by decide)
 have L:=J (eU s.b 1000 q hs.b.1 hs.b.2 (by decide) (by decide));rw[<-z]at L;clear z;have bx:IntKind.u64.wrap (c:Int)=(c:Int):=by simp[IntKind.wrap,IntKind.bits,IntKind.signed];omega
 obtain⟨s',⟨M,-,-⟩|⟨-,B,C⟩⟩:=K.EI hi hj ax X d (p:=(c:Int)) (by omega);rw[p]at M;cases M;have f:=np S.T hi (K.ok hi) (by omega) ⟨3,(k:Int),0,(c:Int),⟨#[]⟩⟩ (by unfold aV;simp only;omega) (jh _) B;have D:=J (λ(W:World)(r:Nat->Prop)(T:bO q nb V {V with st:=ai V.st i (.aD s'),A:=ai V.A i r} W)=>(show dX w nb V n (.returned (.bool true)) ((W.setCell ⟨V.eb i k,2,none⟩ (.bool true)).setCell ⟨V.eb i k,3,none⟩ (.int .u64 (c:Int))) by
  have N:=T.at_.en i hi k d;simp only at N;have T7:=T.trans (T.at_.uo T.laid hi d (x:={V.e i k with given:=true,code:=(c:Int)}) (((oa W (V.eb i k) 2 (.bool true)).trans (oa _ (V.eb i k) 3 (.int .u64 (c:Int)))).mono (λk _ e=>e.elim id id)) (heap_set (heap_set N _) _));obtain⟨m',a2⟩:=C (ai V.A i r);exact S.fin H l T7 (n:=n) (b9 (n+1)) a2))
 unfold cG ma lF at f;simp only[pP]at f;replace f:=J f;obtain⟨P,E⟩:=exq (dX w nb V n);rw[<-E]at D⊢;replace E:=J E;have O:=S.e;replace S:=J S;replace H:=J H;replace l:=J l;replace K:=J K;replace hs:=J hs;replace C:=J C;replace B:=J B;obtain⟨kind,side,sa,b0,str⟩:=s;simp only at *;subst Y;unfold cZ at *;simp only at *;go_enter func50,ntmps50;go_upto_region 1 with fail;rw[<-O];clear O;go_upto_region 2 with(go_at_call 23;refine(Z v).mono ?_;rintro e Q⟨rfl,rfl⟩)
 go_upto_region 4 with(go_at_call 23;refine(Z y).mono ?_;rintro e Q⟨rfl,rfl⟩)
 go_upto_region 26 with(first|(go_at_call 23;refine(Z L).mono ?_;rintro e Q⟨rfl,rfl⟩)|(go_at_call 28;refine(Z f).mono ?_;rintro e g⟨a,m1,R,r,rfl,-,t,-⟩))
 obtain⟨h,j⟩:=exq (g.alloc (.cells #[.int .i64 0,.int .i64 (-1),.int .i64 0,.int .u64 0,.string ⟨#[]⟩,.slice a m1 R] 46));have g5:g.grownBy h none:=by rw[j];exact aH _ _ _
 have z5:g.heap.size<h.heap.size:=by rw[j,dQ];omega
 have F:h.heap[g.heap.size]?=some (.cells #[.int .i64 0,.int .i64 (-1),.int .i64 0,.int .u64 0,.string ⟨#[]⟩,.slice a m1 R] 46 (0,0)):=by rw[j];exact aM _ _
 rw[<-j];clear j;have u:=t.gb g5;have y0:h.cell? ⟨g.heap.size,0,none⟩=some (.int .i64 0):=by simp[World.cell?,F]
 obtain⟨⟨-,e1,e2,e3,-,-,-⟩,ef⟩:=u.at_.ce hi d;simp only at e1 e2 e3 ef;have b5:g.heap.size≠V.eb i k:=λe=>by
  have:=t.at_.fx (V.eb i k) (.inr (.inr (.inr (.inr (.inr (.inl ⟨i,k,hi,d,rfl⟩))))));omega
 have U:=J (Z D h r u);replace F:=J F;replace t:=J t;replace u:=J u;clear D f v y c0 c1 cx ce cl d0 d1 d2 d3 d4;rw[p]at e2;go_wp2_with fail;first|exact Z U|(go_ret;exact Z U)
theorem Qo(w:World)(nb:Nat)(V:Nw)(m:Nat->aj)(n:Nat)(H:bS w nb V)(b:Laid w)(K:bG V m n)(c:n<=40000)(s:cR)(hs:s.ok)(d:s.kind=2)(f:((V.e (bf s.side 2) (bf s.a 4)).finished||(V.e (bf s.side 2) (bf s.a 4)).given)=false):
 Calls prog 50 #[.pointer (some ⟨nb,0,none⟩),.agg (cZ s)] w (dX w nb V n):=
 (EP w nb V m n H b K c s hs _ d f (λ_ _ _ h=>⟨_,_,b9 (n+1),h⟩)).mono (λ_ _ h=>h.post)
theorem Qp(w:World)(nb:Nat)(V:Nw)(m:Nat->aj)(n:Nat)(H:bS w nb V)(a:Laid w)(K:bG V m n)(b:n<=40000)(s:cR)(hs:s.ok)(c:s.kind≠6/\s.kind≠9/\s.kind≠8):
 Calls prog 85 #[.pointer (some ⟨nb,0,none⟩),.agg (cZ s)] w λe d=>e=.returned (.bool true)/\bO w nb V V d:=by
 by_cases h0:V.aZ.length=0;exact EO w nb V m n H a K b s hs h0;exact EM w nb V m n H a K b s hs c h0
theorem Qq(w:World)(nb:Nat)(V:Nw)(m:Nat->aj)(n:Nat)(H:bS w nb V)(b:Laid w)(K:bG V m n)(B:n<=40000)(s:cR)(hs:s.ok)(C:s.kind=5):
 Calls prog 50 #[.pointer (some ⟨nb,0,none⟩),.agg (cZ s)] w (dX w nb V n):=by
 obtain⟨c,S⟩:=iw.mk' H b s;obtain⟨i,p⟩:=exq (bf s.side 2);obtain⟨k,q⟩:=exq (bf s.a 4);have hi:i<2:=by have:=eM s.side (p:=2) (by decide);omega
 have D:k<4:=by have:=eM s.a (p:=4) (by decide);omega
 have r:=J (eU s.side 2 c hs.side.1 hs.side.2 (by decide) (by decide));have t:=J (eU s.a 4 c hs.a.1 hs.a.2 (by decide) (by decide));rw[<-p]at r;rw[<-q]at t;clear p q;have O:(0:Int)<=(i:Int):=by omega
 have Q:(i:Int)<2:=by omega
 have R:(0:Int)<=(k:Int):=by omega
 have U:(k:Int)<4:=by omega
 have E:1-i<2:=by omega
 have F:i≠1-i:=by omega
 have W:=K.mb;obtain⟨c0,c1,X,ce,cl⟩:=S.T.at_.ns hi D;obtain⟨d0,d1,d2,d3,d4⟩:=S.cells S.T;obtain⟨u,ps,d,Y,G,f,m',-,g⟩:=K.EL hi E F B;have I:=J (ED c nb V S.T.at_ S.T.laid i ((1-i:Nat):Int) hi (by omega) n (K.ok hi) (by omega) ps (by omega) (by have:=K.lb;omega) G (.aD u) d f);have x:=J (λ(y:World)(h:∃j v,bO c nb V (jL V i ((1-i:Nat):Int) (.aD u) (ps.map strOfNums) ps.length j v) y)=>(show dX w nb V n (.returned (.bool true)) y from h.elim (λj h=>h.elim (λv T=>S.fin H b T (n:=n) (b9 (n+1)) (g j v)))));obtain⟨P,l⟩:=exq (dX w nb V n);rw[<-l]at x⊢;replace l:=J l;have z:=S.e;replace S:=J S;replace H:=J H;replace b:=J b;replace K:=J K;replace hs:=J hs;replace g:=J g;replace d:=J d;replace f:=J f;obtain⟨kind,side,sa,aC,str⟩:=s;simp only at *;subst C;unfold cZ at *;simp only at *;go_enter func50,ntmps50;go_upto_region 1 with fail;rw[<-z];clear z;go_upto_region 2 with(go_at_call 23;refine(Z r).mono ?_;rintro e L⟨rfl,rfl⟩)
 go_upto_region 4 with(go_at_call 23;refine(Z t).mono ?_;rintro e L⟨rfl,rfl⟩)
 go_wp2_with (go_at_call 29;refine(Z I).mono ?_;rintro e M⟨rfl,N⟩;have A:=J (Z x M N));first|exact Z A|(go_ret;exact Z A)
theorem Qr(w:World)(nb:Nat)(V:Nw)(m:Nat->aj)(n:Nat)(H:bS w nb V)(b:Laid w)(K:bG V m n)(D:n<=40000)(s:cR)(hs:s.ok)(v:s.kind=7):
 Calls prog 50 #[.pointer (some ⟨nb,0,none⟩),.agg (cZ s)] w (dX w nb V n):=by
 obtain⟨c,S⟩:=iw.mk' H b s;obtain⟨i,f⟩:=exq (bf s.side 2);obtain⟨k,g⟩:=exq (bf s.a 4);have hi:i<2:=by have:=eM s.side (p:=2) (by decide);omega
 have x:k<4:=by have:=eM s.a (p:=4) (by decide);omega
 have j:=J (eU s.side 2 c hs.side.1 hs.side.2 (by decide) (by decide));have l:=J (eU s.a 4 c hs.a.1 hs.a.2 (by decide) (by decide));rw[<-f]at j;rw[<-g]at l;clear f g;have E:(0:Int)<=(i:Int):=by omega
 have F:(i:Int)<2:=by omega
 have G:(0:Int)<=(k:Int):=by omega
 have I:(k:Int)<4:=by omega
 have L:1-i<2:=by omega
 have M:i≠1-i:=by omega
 have N:=K.mb;obtain⟨c0,c1,O,ce,cl⟩:=S.T.at_.ns hi x;obtain⟨d0,d1,d2,d3,d4⟩:=S.cells S.T;have y:=J (zr c nb V S.T.at_ S.T.laid i hi n (K.ok hi) (by omega) s.s (by have:=hs.len;omega) (K.zv hi s.s));have p:=J (λ(q:World)(h:∃r,bO c nb V {V with A:=ai V.A i r} q)=>(show dX w nb V n (.returned (.bool true)) q from h.elim (λr T=>S.fin H b T (n:=n) (by omega) (K.A _))));obtain⟨P,d⟩:=exq (dX w nb V n);rw[<-d]at p⊢;replace d:=J d;have t:=S.e;replace S:=J S;replace H:=J H;replace b:=J b;replace K:=J K;replace hs:=J hs;obtain⟨kind,side,Q,R,str⟩:=s;simp only at *;subst v;unfold cZ at *;simp only at *;go_enter func50,ntmps50;go_upto_region 1 with fail;rw[<-t];clear t;go_upto_region 2 with(go_at_call 23;refine(Z j).mono ?_;rintro e z⟨rfl,rfl⟩)
 go_upto_region 4 with(go_at_call 23;refine(Z l).mono ?_;rintro e z⟨rfl,rfl⟩)
 go_wp2_with (go_at_call 84;refine(Z y).mono ?_;rintro e B⟨rfl,C⟩;have u:=J (Z p B C));first|exact Z u|(go_ret;exact Z u)
theorem Qs(w:World)(nb:Nat)(V:Nw)(m:Nat->aj)(n:Nat)(H:bS w nb V)(c:Laid w)(K:bG V m n)(y:n<=40000)(s:cR)(hs:s.ok)(b:s.kind≠1/\s.kind≠2/\s.kind≠3/\s.kind≠4/\s.kind≠5/\s.kind≠7/\s.kind≠10):
 Calls prog 50 #[.pointer (some ⟨nb,0,none⟩),.agg (cZ s)] w (dX w nb V n):=by
 obtain⟨d,S⟩:=iw.mk' H c s;obtain⟨i,p⟩:=exq (bf s.side 2);obtain⟨k,q⟩:=exq (bf s.a 4);have hi:i<2:=by have:=eM s.side (p:=2) (by decide);omega
 have z:k<4:=by have:=eM s.a (p:=4) (by decide);omega
 have r:=J (eU s.side 2 d hs.side.1 hs.side.2 (by decide) (by decide));have t:=J (eU s.a 4 d hs.a.1 hs.a.2 (by decide) (by decide));rw[<-p]at r;rw[<-q]at t;clear p q;have G:(0:Int)<=(i:Int):=by omega
 have I:(i:Int)<2:=by omega
 have L:(0:Int)<=(k:Int):=by omega
 have M:(k:Int)<4:=by omega
 have N:1-i<2:=by omega
 have O:i≠1-i:=by omega
 have Q:=K.mb;obtain⟨c0,c1,R,ce,cl⟩:=S.T.at_.ns hi z;obtain⟨d0,d1,d2,d3,d4⟩:=S.cells S.T;have e1:(s.kind==1)=false:=by simpa using b.1
 have e2:(s.kind==2)=false:=by simpa using b.2.1
 have U:(s.kind==3)=false:=by simpa using b.2.2.1
 have W:(s.kind==4)=false:=by simpa using b.2.2.2.1
 have X:(s.kind==5)=false:=by simpa using b.2.2.2.2.1
 have Y:(s.kind==7)=false:=by simpa using b.2.2.2.2.2.1
 have e9:(s.kind==10)=false:=by simpa using b.2.2.2.2.2.2
 have f:=Qk d nb V m n S.T.at_ S.T.laid K y s hs;unfold cZ at f;replace f:=J f;have u:=J (λ(e:Ending)(v:World)(h:dX d nb V n e v)=>(show e=.returned (.bool true)/\dX w nb V n (.returned (.bool true)) v from⟨h.1,rfl,h.2.elim (λA h=>h.elim (λB h=>h.elim (λC h=>⟨A,B,C,h.1,bO.pre H c S.g h.2.1,h.2.2⟩)))⟩));obtain⟨P,l⟩:=exq (dX w nb V n);rw[<-l]at u⊢;replace l:=J l;have x:=S.e;replace S:=J S;replace H:=J H;replace c:=J c;replace K:=J K;replace hs:=J hs;obtain⟨kind,side,sa,aC,str⟩:=s;simp only at *;clear b;unfold cZ at *;simp only at *;go_enter func50,ntmps50;go_upto_region 1 with fail;rw[<-x];clear x;go_upto_region 2 with(go_at_call 23;refine(Z r).mono ?_;rintro e D⟨rfl,rfl⟩)
 go_upto_region 4 with(go_at_call 23;refine(Z t).mono ?_;rintro e D⟨rfl,rfl⟩)
 go_wp2_with (go_at_call 85;refine(Z f).mono ?_;intro e E F;obtain⟨rfl,j⟩:=Z u e E F;replace j:=J j);first|exact Z j|(go_ret;exact Z j)
theorem ER(w:World)(nb:Nat)(V:Nw)(m:Nat->aj)(n:Nat)(H:bS w nb V)(p:Laid w)(K:bG V m n)(hn:n<=39990)(s:cR)(hs:s.ok)(Q:Nw->Prop)(Y:s.kind=4)(v:∀(s0 s1:Sd)(d:Nat->Nat->Prop),(V.st 0).do ⟨4,0,0,0,⟨#[]⟩⟩=(⟨0,-1,0,0,[],[]⟩,.aD s0)->(V.st 1).do ⟨4,0,0,0,⟨#[]⟩⟩=(⟨0,-1,0,0,[],[]⟩,.aD s1)->bG {V with st:=ai (ai V.st 0 (.aD s0)) 1 (.aD s1),A:=d} m (n+1+1)->Q {V with st:=ai (ai V.st 0 (.aD s0)) 1 (.aD s1),A:=d}):
 Calls prog 50 #[.pointer (some ⟨nb,0,none⟩),.agg (cZ s)] w (nr w nb V Q):=by
 obtain⟨g,S⟩:=iw.mk' H p s;obtain⟨i,E⟩:=exq (bf s.side 2);obtain⟨k,F⟩:=exq (bf s.a 4);have hi:i<2:=by have:=eM s.side (p:=2) (by decide);omega
 have hk:k<4:=by have:=eM s.a (p:=4) (by decide);omega
 have G:=J (eU s.side 2 g hs.side.1 hs.side.2 (by decide) (by decide));have I:=J (eU s.a 4 g hs.a.1 hs.a.2 (by decide) (by decide));rw[<-E]at G;rw[<-F]at I;clear E F;have i0:(0:Int)<=(i:Int):=by omega
 have i1:(i:Int)<2:=by omega
 have k0:(0:Int)<=(k:Int):=by omega
 have k1:(k:Int)<4:=by omega
 have hj:1-i<2:=by omega
 have bt:i≠1-i:=by omega
 have hw:=K.mb;obtain⟨c0,c1,cx,ce,cl⟩:=S.T.at_.ns hi hk;obtain⟨d0,d1,d2,d3,d4⟩:=S.cells S.T;obtain⟨s0,q,y⟩:=K.EH (i:=0) (j:=1) (by decide) (by decide) (by decide) (by omega);have h:=np S.T (i:=0) (by decide) (K.ok (by decide)) (by omega) ⟨4,0,0,0,⟨#[]⟩⟩ (by simp[aV]) (jh _) q;have aC:=S.T.at_.x 0 (by decide);have L:=J (λ(W:World)(l:Nat->Prop)(T:bO g nb V {V with st:=ai V.st 0 (.aD s0),A:=ai V.A 0 l} W)=>(show(W.cell? ⟨nb,0,none⟩=some (.slice (some ⟨V.xr,0,none⟩) 2 V.xc)/\W.cell? ⟨V.xr,1,none⟩=some (.pointer (some ⟨V.xb 1,0,none⟩)))/\∃s1,Calls prog 28 #[.pointer (some ⟨V.xb 1,0,none⟩),.agg (cG ⟨4,0,0,0,⟨#[]⟩⟩)] W (ma g W nb V {V with st:=ai V.st 0 (.aD s0),A:=ai V.A 0 l} 1 ⟨0,-1,0,0,[],[]⟩ (.aD s1))/\∀d,bG {V with st:=ai (ai V.st 0 (.aD s0)) 1 (.aD s1),A:=d} m (n+1+1)/\Q {V with st:=ai (ai V.st 0 (.aD s0)) 1 (.aD s1),A:=d} by
  have M:=y (ai V.A 0 l);obtain⟨s1,N,f⟩:=M.EH (i:=1) (j:=0) (by decide) (by decide) (by decide) (by omega);exact⟨⟨T.at_.c.1.1,T.at_.x 1 (by decide)⟩,s1,np T (i:=1) (by decide) (M.ok (by decide)) (by omega) ⟨4,0,0,0,⟨#[]⟩⟩ (by simp[aV]) (jh _) N,λd=>⟨f d,v s0 s1 d q (by rw[<-N];rfl) (f d)⟩⟩))
 have O:=J (λ(W:World)(r:Nw)(T:bO g nb V r W)(R:bG r m (n+1+1)/\Q r)=>(show(W.cell? ⟨w.heap.size,0,none⟩=some (.int .i64 s.kind)/\W.cell? ⟨w.heap.size,1,none⟩=some (.int .i64 s.side)/\W.cell? ⟨w.heap.size,2,none⟩=some (.int .i64 s.a)/\W.cell? ⟨w.heap.size,3,none⟩=some (.int .i64 s.b)/\W.cell? ⟨w.heap.size,4,none⟩=some (.string s.s))/\Calls prog 85 #[.pointer (some ⟨nb,0,none⟩),.agg (cZ s)] W (λe U=>e=.returned (.bool true)/\nr w nb V Q (.returned (.bool true)) U) by
  refine⟨S.cells T,(Qp W nb r m (n+1+1) T.at_ T.laid R.1 (by omega) s hs (by omega)).mono ?_⟩
  rintro e U⟨rfl,T'⟩;exact⟨rfl,S.zt H p (T.trans T') R.2⟩))
 unfold ma cG at h;replace h:=J h;obtain⟨P,z⟩:=exq (nr w nb V Q);rw[<-z]at O⊢;replace z:=J z;have X:=S.e;replace S:=J S;replace H:=J H;replace p:=J p;replace K:=J K;replace hs:=J hs;replace v:=J v;replace y:=J y;replace q:=J q;obtain⟨kind,side,sa,bM,str⟩:=s;simp only at *;subst Y;unfold cZ at *;simp only at *;go_enter func50,ntmps50;go_upto_region 1 with fail;rw[<-X];clear X;go_upto_region 2 with(go_at_call 23;refine(Z G).mono ?_;rintro e w2⟨rfl,rfl⟩)
 go_upto_region 4 with(go_at_call 23;refine(Z I).mono ?_;rintro e w2⟨rfl,rfl⟩)
 go_upto_region 33 with(go_at_call 28;refine(Z h).mono ?_;rintro e w3⟨a,m1,m2,l,rfl,-,B,-⟩)
 obtain⟨⟨y0,y1⟩,s1,t,f⟩:=Z L w3 l B;unfold ma cG at t;replace t:=J t;replace B:=J B;replace f:=J f;clear h L c0 c1 cx ce cl d0 d1 d2 d3 d4 aC;go_upto_region 40 with(go_at_call 28;refine(Z t).mono ?_;rintro e w4⟨a4,m3,m4,A4,rfl,-,C,-⟩)
 obtain⟨⟨d0,d1,d2,d3,d4⟩,D⟩:=Z O w4 _ C (Z f _);replace D:=J D;replace C:=J C;go_wp2_with (go_at_call 85;refine(Z D).mono ?_;rintro e w6⟨rfl,u⟩;replace u:=J u);first|exact Z u|(go_ret;exact Z u)
theorem Qt(w:World)(nb:Nat)(V:Nw)(m:Nat->aj)(n:Nat)(H:bS w nb V)(a:Laid w)(K:bG V m n)(b:n<=39990)(s:cR)(hs:s.ok)(c:s.kind=4):
 Calls prog 50 #[.pointer (some ⟨nb,0,none⟩),.agg (cZ s)] w (dX w nb V n):=
 (ER w nb V m n H a K b s hs _ c (λ_ _ _ _ _ h=>⟨_,_,aP _,h⟩)).mono (λ_ _ h=>h.post)
theorem Qu(w:World)(nb:Nat)(V:Nw)(m:Nat->aj)(n:Nat)(H:bS w nb V)(f:Laid w)(K:bG V m n)(R:n<=40000)(s:cR)(hs:s.ok)(U:s.kind=10):
 Calls prog 50 #[.pointer (some ⟨nb,0,none⟩),.agg (cZ s)] w (dX w nb V n):=by
 obtain⟨j,S⟩:=iw.mk' H f s;obtain⟨i,z⟩:=exq (bf s.side 2);obtain⟨k,B⟩:=exq (bf s.a 4);have hi:i<2:=by have:=eM s.side (p:=2) (by decide);omega
 have X:k<4:=by have:=eM s.a (p:=4) (by decide);omega
 have C:=J (eU s.side 2 j hs.side.1 hs.side.2 (by decide) (by decide));have D:=J (eU s.a 4 j hs.a.1 hs.a.2 (by decide) (by decide));rw[<-z]at C;rw[<-B]at D;clear z B;have i0:(0:Int)<=(i:Int):=by omega
 have i1:(i:Int)<2:=by omega
 have k0:(0:Int)<=(k:Int):=by omega
 have k1:(k:Int)<4:=by omega
 have E:1-i<2:=by omega
 have Y:i≠1-i:=by omega
 have hw:=K.mb;obtain⟨c0,c1,cx,ce,cl⟩:=S.T.at_.ns hi X;obtain⟨d0,d1,d2,d3,d4⟩:=S.cells S.T;obtain⟨c,F⟩:=exq (bf s.b 4);obtain⟨mo,q⟩:=exq (bf s.a 200);have G:c<4:=by have:=eM s.b (p:=4) (by decide);omega
 have bb:(mo:Int)<200:=by rw[q];exact eM s.a (by decide)
 have l:=λ(W:World)=>eU s.b 4 W hs.b.1 hs.b.2 (by decide) (by decide)
 have p:=λ(W:World)=>eU s.a 200 W hs.a.1 hs.a.2 (by decide) (by decide)
 rw[<-F]at l;rw[<-q]at p;replace l:=J l;replace p:=J p;clear F q;obtain⟨I,N,code,data,r,t,bj,-,u⟩:=K.EJ hi E Y R G (p:=(mo:Int)) (by omega);have hC:=J (λ(W:World)(g:j.grownBy W none)=>EE W nb V (S.T.gb g).at_ (S.T.gb g).laid i (1-i) hi E (by omega) n (K.ok hi) (by omega) c G (mo:Int) (by omega) N code data (.aD I) r t (by omega));have L:=J (λ(W M:World)(g:j.grownBy W none)(h:∃v,bO W nb V {V with st:=ai V.st i (.aD I),A:=ai V.A i v,e:=eh V.e (1-i) c {V.e (1-i) c with read:=(V.e (1-i) c).read+data.length,state:=N}} M)=>(show dX w nb V n (.returned (.bool true)) M from h.elim (λv T=>(u (ai V.A i v)).elim (λm' ax=>S.fin H f ((S.T.gb g).trans T) (n:=n) (b9 (n+1)) ax.1))));obtain⟨P,x⟩:=exq (dX w nb V n);rw[<-x]at L⊢;replace x:=J x;have O:=S.e;replace S:=J S;replace H:=J H;replace f:=J f;replace K:=J K;replace hs:=J hs;replace u:=J u;replace r:=J r;replace t:=J t;obtain⟨kind,side,sa,bx,str⟩:=s;simp only at *;subst U;unfold cZ at *;simp only at *;go_enter func50,ntmps50;go_upto_region 1 with fail;rw[<-O];clear O;go_upto_region 2 with(go_at_call 23;refine(Z C).mono ?_;rintro e y⟨rfl,rfl⟩)
 go_upto_region 4 with(go_at_call 23;refine(Z D).mono ?_;rintro e y⟨rfl,rfl⟩)
 go_upto_region 37 with fail;go_region_with (first
  |(go_at_call 23;with_reducible refine(Z l _).mono ?_;rintro e y⟨rfl,d⟩;rw[d];clear d)
  |(go_at_call 23;with_reducible refine(Z p _).mono ?_;rintro e y⟨rfl,d⟩;rw[d];clear d)
  |(go_at_call 83;refine(Z hC _ (aW (aB _ none))).mono ?_;rintro e w6⟨rfl,h6⟩;have Q:=J (Z L _ w6 (aW (aB _ none)) h6)))
 all_goals
  go_wp2_with fail
  first|exact Z Q|(go_ret;exact Z Q)
theorem Qv(w:World)(nb:Nat)(V:Nw)(m:Nat->aj)(n:Nat)(H:bS w nb V)(b:Laid w)(K:bG V m n)(j:n<=39990)(s:cR)(hs:s.ok):
 Calls prog 50 #[.pointer (some ⟨nb,0,none⟩),.agg (cZ s)] w (dX w nb V n):=by
 have c:n<=40000:=by omega
 by_cases f:s.kind=1;cases d:((V.e (bf s.side 2) (bf s.a 4)).finished||(V.e (bf s.side 2) (bf s.a 4)).given);exact P7 w nb V m n H b K c s hs f d;exact PY w nb V m n H b K c s hs f d;by_cases g:s.kind=2;cases d:((V.e (bf s.side 2) (bf s.a 4)).finished||(V.e (bf s.side 2) (bf s.a 4)).given);exact Qo w nb V m n H b K c s hs g d;exact Ql w nb V m n H b K c s hs g d;by_cases k3:s.kind=3;cases d:(V.e (bf s.side 2) (bf s.a 4)).given;exact Qn w nb V m n H b K c s hs k3 d;exact Qm w nb V m n H b K c s hs k3 d;by_cases k4:s.kind=4;exact Qt w nb V m n H b K j s hs k4;by_cases k5:s.kind=5;exact Qq w nb V m n H b K c s hs k5;by_cases h:s.kind=7;exact Qr w nb V m n H b K c s hs h;by_cases i:s.kind=10;exact Qu w nb V m n H b K c s hs i;exact Qs w nb V m n H b K c s hs ⟨f,g,k3,k4,k5,h,i⟩
def End.zero:End:=⟨⟨#[]⟩,false,false,0,0,0,0⟩
theorem cE.start:cE (aj.new p q L B) (aj.new p q L (!B)):=by
 refine⟨rfl,?_,rfl,λx a=>(by cases a),λx a=>(by cases a),λx a=>(by cases a),λx a=>(by cases a),λk c=>?_,λn d=>?_,λx a=>(by cases a),λk c m b=>?_⟩
 cases B<;>rfl;refine⟨λm b=>?_,cW _,λe=>(by cases e),λe=>(by cases e),λe=>?_,λe=>?_,.inl rfl⟩
 simp[aj.new,aL.new]at b;simp[aj.new,aL.new]at e;simp[aj.new,aL.new]at e;exact absurd d (fM n);exact absurd b (fM m)
theorem bG.start(l:64<=p/\p<=300/\16<=r/\r<=1024)(b:dw d.key)(a:d.an=p/\d.ag=r)(m:∀i,i<2->d.st i=.aD (Sd.new p r d.key (decide (i=0))))(n:∀i k,i<2->k<4->d.e i k=End.zero)(f:d.aZ=[])(s:∀i,i<2->d.bn i=0):bG d (λi=>aj.new p r d.key (decide (i=0))) 0:=by
 have g:jH p r:=by unfold jH;omega
 refine⟨λi hi=>⟨_,m i hi,OK g,NR g b 0⟩,λi j hi t u=>?_,λi j hi t u k b=>?_,λx h=>(by rw[f]at h;cases h),by rw[f];exact jh _,λi hi=>⟨s i hi,a.1.symm,a.2.symm,rfl,?_⟩,by rw[a.1,a.2];exact l⟩
 have e:decide (j=0)= !decide (i=0):=by
  have c:i=0\/i=1:=by omega
  obtain q|q:=c<;>subst q<;>simp<;>omega
 simp only[e]
 exact cE.start;rw[n i k hi b];exact⟨rfl,rfl,rfl,λe=>(by cases e),rfl,rfl,cW _,by simp[End.zero,aj.new,cV.new,cL.wK,cL.eF]⟩
 have c:i=0\/i=1:=by omega
 obtain q|q:=c<;>subst q<;>rfl
def nt(V:Nw)(a ve vc:Value):Array Value:=(([a,ve,.int .i64 V.an,.int .i64 V.ag]:List Value)++bv V.key++[.slice none 0 0,vc]).toArray
def mM(nb c:Nat)(V:Nw)(d ve vc:Value)(k:Nat):Prop:=k=nb\/d.ownBlock=some k\/ve.ownBlock=some k\/vc.ownBlock=some k\/(∃a,a<c/\k=V.el a)\/∃a b,a<c/\b<4/\k=V.eb a b
def sM(V:Nw)(n:Nat):List Value:=(List.range n).map (λa=>.slice (some ⟨V.el a,0,none⟩) 4 (V.lc a))
structure Bd(w:World)(nb f d ic:Nat)(V:Nw)(g ve vc:Value):Prop where
 aN:w.heap[nb]?=some (.cells (nt V g ve vc) 80 (0,0))
 key:dw V.key
 x:w.ownsRow 0 33 1 g f (nV V.xb f)
 e:w.ownsRow 0 141 1 ve d (sM V d)
 c:w.ownsRow 0 30 1 vc ic (List.replicate ic (.int .u64 0))
 lc:∀a,a<d->4<=V.lc a/\V.lc a<=maxLen
 tl:∀a,a<d->Ty w (V.el a) 140
 el:∀a,a<d->∀b,b<4->w.cell? ⟨V.el a,b,none⟩=some (.pointer (some ⟨V.eb a b,0,none⟩))
 en:∀a,a<d->∀b,b<4->w.heap[V.eb a b]?=some (.cells (oO End.zero) 143 (0,0))
 ed:∀a b k l,a<d->b<d->k<4->l<4->V.eb a k=V.eb b l->a=b/\k=l
 side:∀a,a<f->cq w (V.xb a) (V.sb a) (V.st a) (V.A a)
 apart:∀a b,a<f->b<f->a≠b->∀k,V.A a k->¬V.A b k
 own:∀k,mM nb d V g ve vc k->k≠0/\∀a,a<f->¬V.A a k
theorem Bd.fx{vc:Value}(h:Bd w n i j l d y z vc)(k:Nat)(g:mM n j d y z vc k):k<w.heap.size:=by
 obtain rfl|e|e|e|⟨a,f,rfl⟩|⟨a,b,f,aa,rfl⟩:=g
 exact(aY.1 h.aN).1;exact(iP h.x k e).lt;exact(iP h.e k e).lt;exact(iP h.c k e).lt;exact(h.tl a f).lt;exact(aY.1 (h.en a f b aa)).1
theorem Bd.ao{vc:Value}(h:Bd w i j l m d y z vc)(g:w.grownBy W none):Bd W i j l m d y z vc:=by
 have C:=av.of g;have n:∀k:Nat,¬((none:Option Nat)=some k):=λk e=>by cases e
 exact⟨(C.block _ (h.fx i (.inl rfl)) (n _)).trans h.aN,h.key,kB h.x C (λk _=>n k),kB h.e C (λk _=>n k),kB h.c C (λk _=>n k),h.lc,λa f=>(h.tl a f).aw C (n _),λa f b p=>C.cell (h.el a f b p) (n _),λa f b p=>(C.block _ (h.fx _ (.inr (.inr (.inr (.inr (.inr ⟨a,b,f,p,rfl⟩)))))) (n _)).trans (h.en a f b p),h.ed,λa f=>(h.side a f).ao g,h.apart,h.own⟩
theorem ka(b:∀k,x.ownBlock=some k->Ty w k T)(c:Ty w n 80){t:TypeId}(d:t≠T)(f:t≠80)(a:Ty w k t):¬(x.ownBlock=some k\/k=n):=λe=>e.elim (λe=>a.ne (b k e) d rfl) (λe=>a.ne c f e)
theorem zw(V:Nw)(b:dw V.key)(a ve vc v:Value):(nt V a ve vc).setIfInBounds 0 v=nt V v ve vc/\(nt V a ve vc).setIfInBounds 1 v=nt V a v vc/\(nt V a ve vc).setIfInBounds 21 v=nt V a ve v:=by
 obtain⟨_,_,_,_,_,_,_,_,_,_,_,_,_,_,_,_,e⟩:=wC (bv V.key) (by rw[fC,b.1]);unfold nt;rw[e];exact⟨rfl,rfl,rfl⟩
structure pU(w b:World)(nb:Nat)(v a:Value):Prop where
 g:w.grownBy b v.ownBlock
 ho:a.ownBlock=v.ownBlock\/a.ownBlock=some w.heap.size
 nn:v.ownBlock≠some nb
 nb:nb<w.heap.size
theorem pU.aw(h:pU w W n x y)(o:Nat):av w (W.setCell ⟨n,o,none⟩ y) (λk=>x.ownBlock=some k\/k=n):=(av.of h.g).trans (oa W n o y)
theorem pU.own(h:pU w W i x y)(o:Nat){l:List Value}(a:W.ownsRow 0 T 1 y n l):(W.setCell ⟨i,o,none⟩ y).ownsRow 0 T 1 y n l:=by
 refine kB a (oa W i o y) (λk e e2=>?_);subst e2;obtain q|q:=h.ho
 exact h.nn (q▸e);rw[e]at q;have:=aO q;have:=h.nb;omega
theorem Bd.Qw{ve vc m:Value}(h:Bd w n i i i d y ve vc){D:aQ}(E:cq w j l D S)(p:∀k,S k->¬mM n i d y ve vc k/\∀a,a<i->¬d.A a k)(B:pU w W n y m)(H:W.ownsRow 0 33 1 m (i+1) (nV d.xb i++[.pointer (some ⟨j,0,none⟩)])):
 Bd (W.setCell ⟨n,0,none⟩ m) n (i+1) i i {d with xb:=ai d.xb i j,sb:=ai d.sb i l,st:=ai d.st i D,A:=ai d.A i S} m ve vc:=by
 have C:=B.aw 0;have t:∀k,y.ownBlock=some k->Ty w k 33:=iP h.x;have u:Ty w n 80:=⟨_,_,h.aN⟩
 have F:∀k,(y.ownBlock=some k\/k=n)->mM n i d y ve vc k:=λk e=>e.elim (λe=>.inr (.inl e)) .inl
 have b1:=(B.g.block n B.nb (λe=>B.nn e.symm)).trans h.aN;have I:∀k,mM n i d m ve vc k->¬S k:=λk r e=>by
  obtain q|q|q|q|q|q:=r
  exact(p k e).1 (.inl q);obtain z|z:=B.ho
  exact(p k e).1 (.inr (.inl (z▸q)));rw[q]at z;have:=aO z;have:=E.lt k e;omega;exact(p k e).1 (.inr (.inr (.inl q)));exact(p k e).1 (.inr (.inr (.inr (.inl q))));exact(p k e).1 (.inr (.inr (.inr (.inr (.inl q)))));exact(p k e).1 (.inr (.inr (.inr (.inr (.inr q)))))
 refine⟨?_,h.key,?_,kB h.e C (λk e=>ka t u (by decide) (by decide) (iP h.e k e)),kB h.c C (λk e=>ka t u (by decide) (by decide) (iP h.c k e)),h.lc,λa f=>(h.tl a f).aw C (ka t u (by decide) (by decide) (h.tl a f)),λa f b s=>C.cell (h.el a f b s) (ka t u (by decide) (by decide) (h.tl a f)),λa f b s=>(C.block _ (h.fx _ (.inr (.inr (.inr (.inr (.inr ⟨a,b,f,s,rfl⟩)))))) (ka t u (by decide) (by decide) ⟨_,_,h.en a f b s⟩)).trans (h.en a f b s),h.ed,λa f=>?_,λa b f s G k r=>?_,λk r=>⟨?_,λa f=>?_⟩⟩
 have:=heap_set (o:=0) b1 m;rw[(zw d h.key y ve vc m).1]at this;exact this;show(W.setCell ⟨n,0,none⟩ m).ownsRow 0 _ 1 m (i+1) (nV (ai d.xb i j) (i+1));rw[D1];exact B.own 0 H;show cq _ (ai d.xb i j a) (ai d.sb i l a) (ai d.st i D a) (ai d.A i S a);by_cases e:a=i;subst e;simp only[bk]
 exact E.other C (λk _ e f=>(p k f).1 (F k e));simp only[bl _ _ e]
 exact(h.side a (by omega)).other C (λk _ e K=>(h.own k (F k e)).2 a (by omega) K);have v:ai d.A i S a k:=r;show¬ai d.A i S b k;by_cases e:a=i;subst e;rw[bk]at v;rw[bl _ _ (λq=>G q.symm)];exact(p k v).2 b (by omega);rw[bl _ _ e]at v;by_cases e2:b=i;subst e2;rw[bk];exact λq=>(p k q).2 a (by omega) v
 rw[bl _ _ e2];exact h.apart a b (by omega) (by omega) G k v;obtain q|q|q|q|q|q:=r
 exact(h.own k (.inl q)).1;obtain z|z:=B.ho
 exact(h.own k (.inr (.inl (z▸q)))).1;rw[q]at z;have:=aO z;have:=B.nb;omega;exact(h.own k (.inr (.inr (.inl q)))).1;exact(h.own k (.inr (.inr (.inr (.inl q))))).1;exact(h.own k (.inr (.inr (.inr (.inr (.inl q)))))).1;exact(h.own k (.inr (.inr (.inr (.inr (.inr q)))))).1;show¬ai d.A i S a k;by_cases e:a=i;subst e;rw[bk];exact I k r;rw[bl _ _ e];obtain q|q|q|q|q|q:=r
 exact(h.own k (.inl q)).2 a (by omega);obtain z|z:=B.ho
 exact(h.own k (.inr (.inl (z▸q)))).2 a (by omega);rw[q]at z;have:=aO z;intro L;have:=(h.side a (by omega)).lt k L;omega;exact(h.own k (.inr (.inr (.inl q)))).2 a (by omega);exact(h.own k (.inr (.inr (.inr (.inl q))))).2 a (by omega);exact(h.own k (.inr (.inr (.inr (.inr (.inl q)))))).2 a (by omega);exact(h.own k (.inr (.inr (.inr (.inr (.inr q)))))).2 a (by omega)
theorem Qx(V:Nw)(j g c:Nat)(b:Nat->Nat):sM {V with el:=ai V.el j g,lc:=ai V.lc j c,eb:=ai V.eb j b} (j+1)=sM V j++[.slice (some ⟨g,0,none⟩) 4 c]:=by
 unfold sM;rw[uJ,mO];congr 1;refine xi (λa d=>?_);have:=List.mem_range.1 d;simp only[bl _ _ (show a≠j by omega)]
 simp[bk]
structure qC(N:Nat)(w:World)(k:Nat)(d:Value)(c:Nat->Nat):Prop where
 row:w.ownsRow 0 140 1 d k (nV c k)
 en:∀b,b<k->w.heap[c b]?=some (.cells (oO End.zero) 143 (0,0))
 inj:∀a b,a<k->b<k->c a=c b->a=b
 new:(∀b,b<k->N<=c b)/\∀q,d.ownBlock=some q->N<=q
theorem Bd.Qy{vc s:Value}{r:Nat->Nat}(h:Bd w n (i+1) i i d y z vc)(L:qC k w 4 (.slice (some ⟨j,0,none⟩) 4 m) r)(K:∀f,k<=f->¬mM n i d y z vc f/\∀a,a<i+1->¬d.A a f)(al:0<k)(B:pU w W n z s)(O:W.ownsRow 0 141 1 s (i+1) (sM d i++[.slice (some ⟨j,0,none⟩) 4 m])):
 Bd (W.setCell ⟨n,1,none⟩ s) n (i+1) (i+1) i {d with el:=ai d.el i j,lc:=ai d.lc i m,eb:=ai d.eb i r} y s vc:=by
 have C:=B.aw 1;have t:∀f,z.ownBlock=some f->Ty w f 141:=iP h.e;have u:Ty w n 80:=⟨_,_,h.aN⟩
 have P:∀f,(z.ownBlock=some f\/f=n)->mM n i d y z vc f:=λf e=>e.elim (λe=>.inr (.inr (.inl e))) .inl
 have b1:=(B.g.block n B.nb (λe=>B.nn e.symm)).trans h.aN;have H:Ty w j 140:=iP L.row j rfl;obtain⟨a0,c0,e0,Q,z2,-,R⟩:=qX L.row;obtain⟨S,-,ec⟩:=jg e0;have T:=(R _ S.symm).2;subst ec;refine⟨?_,h.key,kB h.x C (λf e=>ka t u (by decide) (by decide) (iP h.x f e)),?_,kB h.c C (λf e=>ka t u (by decide) (by decide) (iP h.c f e)),λa p=>?_,λa p=>?_,λa p b g=>?_,λa p b g=>?_,λa b f l p g v hl e=>?_,λa p=>(h.side a p).other C (λf _ e I=>(h.own f (P f e)).2 a p I),h.apart,λf v=>?_⟩
 have:=heap_set (o:=1) b1 s;rw[(zw d h.key y z vc s).2.1]at this;exact this;rw[Qx];exact B.own 1 O;show 4<=ai d.lc i m a/\ai d.lc i m a<=maxLen;by_cases e:a=i;subst e;rw[bk];exact⟨Q,z2⟩
 rw[bl _ _ e];exact h.lc a (by omega);show Ty _ (ai d.el i j a) _;by_cases e:a=i;subst e;rw[bk];exact H.aw C (ka t u (by decide) (by decide) H);rw[bl _ _ e];exact(h.tl a (by omega)).aw C (ka t u (by decide) (by decide) (h.tl a (by omega)));show(W.setCell ⟨n,1,none⟩ s).cell? ⟨ai d.el i j a,b,none⟩=some (.pointer (some ⟨ai d.eb i r a b,0,none⟩));by_cases e:a=i;subst e;rw[bk,bk];refine C.cell ?_ (ka t u (by decide) (by decide) H);have:(nV r 4)[b]?=some (.pointer (some ⟨r b,0,none⟩)):=by unfold nV;simp[g]
 have q:=T b _ this;rw[dR]at q;exact q;rw[bl _ _ e,bl _ _ e];exact C.cell (h.el a (by omega) b g) (ka t u (by decide) (by decide) (h.tl a (by omega)));show(W.setCell ⟨n,1,none⟩ s).heap[ai d.eb i r a b]?=_;by_cases e:a=i;subst e;rw[bk];exact(C.block _ (aY.1 (L.en b g)).1 (ka t u (by decide) (by decide) ⟨_,_,L.en b g⟩)).trans (L.en b g);rw[bl _ _ e];exact(C.block _ (aY.1 (h.en a (by omega) b g)).1 (ka t u (by decide) (by decide) ⟨_,_,h.en a (by omega) b g⟩)).trans (h.en a (by omega) b g);have e:ai d.eb i r a f=ai d.eb i r b l:=e;have M:∀E F,E<i->F<4->∀G,G<4->r G≠d.eb E F:=λE F I U G V q=>(K _ (L.new.1 G V)).1 (.inr (.inr (.inr (.inr (.inr ⟨E,F,I,U,q⟩)))))
 by_cases e1:a=i;by_cases e2:b=i;subst e1;subst e2;rw[bk]at e;exact⟨rfl,L.inj f l v hl e⟩
 subst e1;rw[bk,bl _ _ e2]at e;exact absurd e (M b l (by omega) hl f v);by_cases e2:b=i;subst e2;rw[bk,bl _ _ e1]at e;exact absurd e.symm (M a f (by omega) v l hl);rw[bl _ _ e1,bl _ _ e2]at e;exact h.ed a b f l (by omega) (by omega) v hl e;have N:∀q,k<=q->q≠0/\∀a,a<i+1->¬d.A a q:=λq X=>⟨by omega,(K q X).2⟩
 obtain q|q|q|q|⟨a,p,q⟩|⟨a,b,p,g,q⟩:=v
 exact h.own f (.inl q);exact h.own f (.inr (.inl q));obtain D|D:=B.ho
 exact h.own f (.inr (.inr (.inl (D▸q))));rw[q]at D;have D:=aO D;refine⟨by have:=B.nb;omega,λa p Y=>?_⟩
 have:=(h.side a p).lt f Y;omega;exact h.own f (.inr (.inr (.inr (.inl q))));have q:f=ai d.el i j a:=q;by_cases e:a=i;subst e;rw[bk]at q;exact N f (by rw[q];exact L.new.2 j rfl);rw[bl _ _ e]at q;exact h.own f (.inr (.inr (.inr (.inr (.inl ⟨a,by omega,q⟩)))));have q:f=ai d.eb i r a b:=q;by_cases e:a=i;subst e;rw[bk]at q;exact N f (by rw[q];exact L.new.1 b g);rw[bl _ _ e]at q;exact h.own f (.inr (.inr (.inr (.inr (.inr ⟨a,b,by omega,g,q⟩)))))
theorem Bd.Qz{vc j:Value}(h:Bd w n (i+1) (i+1) i d y z vc)(B:pU w W n vc j)(s:W.ownsRow 0 30 1 j (i+1) (List.replicate i (.int .u64 0)++[.int .u64 0])):
 Bd (W.setCell ⟨n,21,none⟩ j) n (i+1) (i+1) (i+1) d y z j:=by
 have C:=B.aw 21;have l:∀k,vc.ownBlock=some k->Ty w k 30:=iP h.c;have m:Ty w n 80:=⟨_,_,h.aN⟩
 have t:∀k,(vc.ownBlock=some k\/k=n)->mM n (i+1) d y z vc k:=λk e=>e.elim (λe=>.inr (.inr (.inr (.inl e)))) .inl
 have b1:=(B.g.block n B.nb (λe=>B.nn e.symm)).trans h.aN;refine⟨?_,h.key,kB h.x C (λk e=>ka l m (by decide) (by decide) (iP h.x k e)),kB h.e C (λk e=>ka l m (by decide) (by decide) (iP h.e k e)),?_,h.lc,λa f=>(h.tl a f).aw C (ka l m (by decide) (by decide) (h.tl a f)),λa f b p=>C.cell (h.el a f b p) (ka l m (by decide) (by decide) (h.tl a f)),λa f b p=>(C.block _ (h.fx _ (.inr (.inr (.inr (.inr (.inr ⟨a,b,f,p,rfl⟩)))))) (ka l m (by decide) (by decide) ⟨_,_,h.en a f b p⟩)).trans (h.en a f b p),h.ed,λa f=>(h.side a f).other C (λk _ e u=>(h.own k (t k e)).2 a f u),h.apart,λk v=>?_⟩
 have:=heap_set (o:=21) b1 j;rw[(zw d h.key y z vc j).2.2]at this;exact this;have e:List.replicate (i+1) (Value.int .u64 0)=List.replicate i (.int .u64 0)++[.int .u64 0]:=List.replicate_succ';rw[e];exact B.own 21 s;obtain q|q|q|q|q|q:=v
 exact h.own k (.inl q);exact h.own k (.inr (.inl q));exact h.own k (.inr (.inr (.inl q)));obtain r|r:=B.ho
 exact h.own k (.inr (.inr (.inr (.inl (r▸q)))));rw[q]at r;have r:=aO r;refine⟨by have:=B.nb;omega,λa f A=>?_⟩
 have:=(h.side a f).lt k A;omega;exact h.own k (.inr (.inr (.inr (.inr (.inl q)))));exact h.own k (.inr (.inr (.inr (.inr (.inr q)))))
theorem Bd.done{vc:Value}(h:Bd w n 2 2 2 d y z vc):∃xr xc er ec cr cc,bS w n {d with xr:=xr,xc:=xc,er:=er,ec:=ec,cr:=cr,cc:=cc,e:=λ_ _=>End.zero,bn:=λ_=>0,aZ:=[],vb:=.slice none 0 0}:=by
 obtain⟨s,xc,g,t,u,v,A⟩:=qX h.x;obtain⟨ae,ec,j,e1,e2,B,C⟩:=qX h.e;obtain⟨-,⟨-,D⟩|⟨cr,cc,l,eq,-,E,c1,c2,c3,c4⟩⟩:=h.c;cases D;cases s with
 |none=>have:=(v rfl).1;omega
 |some p=>
  cases ae with
  |none=>have:=(B rfl).1;omega
  |some r=>
   obtain⟨gx,F⟩:=A p rfl;obtain⟨ge,G⟩:=C r rfl;have K:=h.own n (.inl rfl);refine⟨p.block,xc,r.block,ec,cr,cc,?_,h.key,⟨⟨t,u⟩,⟨e1,e2⟩,⟨c1,c2⟩,h.lc⟩,iP h.x _ (by rw[g];rfl),λi hi=>?_,iP h.e _ (by rw[j];rfl),λi hi=>?_,h.tl,h.el,λi hi k m=>h.en i hi k m,h.ed,⟨l,E,λi hi=>?_⟩,om _ _ _ _,h.side,h.apart,λk m=>?_⟩
   have f:=h.aN;rw[g,j,eq,gx,ge]at f;exact f;have:=F i (.pointer (some ⟨d.xb i,0,none⟩)) (by unfold nV;simp[hi]);rw[dR]at this;exact this;have:=G i (.slice (some ⟨d.el i,0,none⟩) 4 (d.lc i)) (by unfold sM;simp[hi]);rw[dR]at this;exact this;have H:(l.toList.take (2*1))[i]?=l.toList[i]? :=by rw[jA,az (by omega)]
   rw[<-pZ,<-H,c4,wX,az hi];obtain q|q|q|q|q|⟨a,b,I,f,q⟩|q:=m
   exact h.own k (.inl q);exact h.own k (.inr (.inl (by rw[g,q];rfl)));exact h.own k (.inr (.inr (.inl (by rw[j,q];rfl))));exact h.own k (.inr (.inr (.inr (.inl (by rw[eq,q];rfl)))));exact h.own k (.inr (.inr (.inr (.inr (.inl q)))));exact h.own k (.inr (.inr (.inr (.inr (.inr ⟨a,b,I,f,q⟩)))));cases q
theorem wV{e:TypeId}(ty:TypeId)(t:prog.underlying T=some (.slice e))(y:(prog.info? e).map (λi=>(i.zero,i.size,i.bytes))=some (some z,1,k))(A:z.cells.size=1)(B:k<=24)(v:Value)(n:Nat)(l:List Value)(C:w.ownsRow 0 e 1 v n l)(b c:Nat)(u:Value)(h0:w.cell? ⟨b,0,none⟩=some u)(D:u.oneCell'=true)(K:n<=1000):
 ∃d f h a,(Builtin.append_ #[T,T] ty #[v,.slice (some ⟨b,0,none⟩) 1 c]).run prog w=.ok (.slice d f h) a/\a.ownsRow 0 e 1 (.slice d f h) (n+1) (l++[u])/\w.grownBy a v.ownBlock/\((Value.slice d f h).ownBlock=v.ownBlock\/(Value.slice d f h).ownBlock=some w.heap.size):=by
 obtain⟨E,hi,F,G,H⟩:=lg y;obtain⟨L,a,p,m,q,_,r⟩:=run_append_own_at (P:=prog) w 0 T ty e E _ 1 k t hi F G H A (by omega) v n l C ⟨b,0,none⟩ 1 c [u] (by simp) (λj x s=>by
  cases j with
  |zero=>rw[Addr.add_mid,dR];rw[h0];exact s
  |succ j=>simp at s) (λx I=>by rw[cS.1 I];exact D) (by simp[maxLen];omega) (by
  have:(n+1)*k<=1001*24:=Nat.mul_le_mul (by omega) B;omega) (jh _)
 obtain⟨-,⟨rfl,e2⟩|⟨g,cap,M,rfl,_⟩⟩:=id m;exact⟨_,_,_,a,p,m,q,r⟩
 exact⟨_,_,_,a,p,m,q,r⟩
theorem QA:(prog.info? 33).map (λi=>(i.zero,i.size,i.bytes))=some (some (.pointer none),1,8):=by kernel_rfl
theorem QB:(prog.info? 140).map (λi=>(i.zero,i.size,i.bytes))=some (some (.pointer none),1,8):=by kernel_rfl
theorem QC:(prog.info? 141).map (λi=>(i.zero,i.size,i.bytes))=some (some (.slice none 0 0),1,24):=by kernel_rfl
theorem QD:(prog.info? 30).map (λi=>(i.zero,i.size,i.bytes))=some (some (.int .u64 0),1,8):=by kernel_rfl
theorem qC.step{wr:World}{d:Nat->Nat}(h:qC w.heap.size wr k x d)(g:w.grownBy wr none)(f:wr.grownBy W none)(c:W.heap[wr.heap.size]?=some (.cells (oO End.zero) 143 (0,0)))(l:W.grownBy v x.ownBlock)(r:v.ownsRow 0 140 1 y (k+1) (nV d k++[.pointer (some ⟨wr.heap.size,0,none⟩)]))(ho:y.ownBlock=x.ownBlock\/y.ownBlock=some W.heap.size):
 qC w.heap.size v (k+1) y (ai d k wr.heap.size)/\w.grownBy v none:=by
 have C:=av.of l;have s:=g.size;have A:=f.size;have t:∀q,x.ownBlock=some q->Ty W q 140:=λq e=>(iP h.row q e).aw (av.of f) (λe=>by cases e)
 have m:∀{q:Nat},Ty W q 143->¬(x.ownBlock=some q):=λu e=>u.ne (t _ e) (by decide) rfl
 refine⟨⟨by rw[D1];exact r,λb n=>?_,λa b B n e=>?_,λb n=>?_,λq e=>?_⟩,cF (aq g f) l (λq e=>.inl (by have:=h.new.2 q e;exact this))⟩
 by_cases e:b=k;subst e;rw[bk];exact(C.block _ (aY.1 c).1 (m ⟨_,_,c⟩)).trans c;rw[bl _ _ e];have q:=h.en b (by omega);have z:=(av.of f).block _ (aY.1 q).1 (λe=>by cases e);have j:=z.trans q;exact(C.block _ (aY.1 j).1 (m ⟨_,_,j⟩)).trans j;have p:∀b,b<k->d b<wr.heap.size:=λb c=>(aY.1 (h.en b c)).1
 by_cases e1:a=k;by_cases e2:b=k;omega;subst e1;rw[bk,bl _ _ e2]at e;have:=p b (by omega);omega;by_cases e2:b=k;subst e2;rw[bk,bl _ _ e1]at e;have:=p a (by omega);omega;rw[bl _ _ e1,bl _ _ e2]at e;exact h.inj a b (by omega) (by omega) e;by_cases e:b=k;subst e;rw[bk];exact s;rw[bl _ _ e];exact h.new.1 b (by omega);obtain i|i:=ho
 exact h.new.2 q (i▸e);rw[e]at i;have:=aO i;omega
def gl:List Int:=[3,1,4,1,5,0,0,0,0,0,0,0,0,0,0,0]
theorem zx:dw gl:=⟨rfl,λx a=>by simp[gl]at a;unfold W8;omega⟩
structure QE(V:Nw)(an ag:Int)(i:Nat):Prop where
 m:V.an=an/\V.ag=ag/\V.key=gl
 st:∀a,a<i->V.st a=.aD (Sd.new an ag gl (decide (a=0)))
structure jM(b wr:World)(nb c d ic:Nat)(V:Nw)(e ve vc:Value)(an ag:Int):Prop where
 bd:Bd wr nb c d ic V e ve vc
 p:QE V an ag c
 g:b.grownBy wr none
 lo:∀k,mM nb d V e ve vc k->b.heap.size<=k
 laid:Laid wr
 la:∀a,a<c->∀k,V.A a k->b.heap.size<=k
theorem jM.ao{wr:World}(h:jM w wr n k i j d x y z q r)(g:wr.grownBy W none):jM w W n k i j d x y z q r:=⟨h.bd.ao g,h.p,aq h.g g,h.lo,h.laid.gb g (by simp),h.la⟩
theorem Bd.od(h:Bd w n k i l d x y z):(w.cell? ⟨n,0,none⟩=some x/\w.cell? ⟨n,1,none⟩=some y/\w.cell? ⟨n,21,none⟩=some z)/\(∀o,w.frozen? ⟨n,o,none⟩=false)/\w.rangeAt n 4 (bv d.key):=by
 obtain⟨_,_,_,_,_,_,_,_,_,_,_,_,_,_,_,_,e⟩:=wC (bv d.key) (by rw[fC,h.key.1]);have a:=h.aN;unfold nt at a;refine⟨⟨?_,?_,?_⟩,λo=>by simp[World.frozen?,a],λj u b=>?_⟩
 rw[aX a];rfl;rw[aX a];rfl;rw[aX a,e];rfl;have c:j<16:=by have:=(kF.1 b).1;rw[fC,h.key.1]at this;exact this
 rw[aX a,sS,mc (by rw[bH,fC,h.key.1];simp;omega),jz (by simp)];simpa using b
theorem Bd.zy{v a:Value}(h:Bd w k i j m d x y z)(b:T≠80){l:List Value}(c:w.ownsRow 0 T 1 v n l)(g:w.grownBy W v.ownBlock)(ho:a.ownBlock=v.ownBlock\/a.ownBlock=some w.heap.size):pU w W k v a:=
 ⟨g,ho,λe=>(iP c k e).ne ⟨_,_,h.aN⟩ b rfl,h.fx k (.inl rfl)⟩
theorem jM.app{b:World}{v a:Value}(h:jM W w n i j l d x y z p r)(c:∀k,v.ownBlock=some k->mM n j d x y z k)(B:pU w b n v a)(o:Nat):W.grownBy (b.setCell ⟨n,o,none⟩ a) none/\Laid (b.setCell ⟨n,o,none⟩ a)/\∀k,a.ownBlock=some k->W.heap.size<=k:=by
 have C:=B.aw o;have f:∀k,(v.ownBlock=some k\/k=n)->mM n j d x y z k:=λk e=>e.elim (c k) .inl
 refine⟨?_,h.laid.aw C (λe=>(h.bd.own 0 (f 0 e)).1 rfl),λk e=>?_⟩
 refine⟨C.os.trans h.g.os,C.tape.trans h.g.tape,C.output.trans h.g.output,bD h.g.size C.size,λk m _=>?_⟩
 rw[C.block k (by have:=h.g.size;omega) (λe=>by have:=h.lo k (f k e);omega)];exact h.g.block k m (by simp);obtain q|q:=B.ho
 exact h.lo k (c k (q▸e));rw[e]at q;have:=aO q;have:=h.g.size;omega
theorem jM.QF{vc:Value}(h:jM W w j i i i d y z vc r t)(hi:i<2)(C:cq w l o (.aD (Sd.new r t gl (decide (i=0)))) S)(D:∀k,S k->¬mM j i d y z vc k/\∀a,a<i->¬d.A a k)(E:∀k,S k->W.heap.size<=k):
 (w.alloc (.cells #[.pointer (some ⟨l,0,none⟩)] 33)).cell? ⟨j,0,none⟩=some y/\∃a n c u,(Builtin.append_ #[75,75] 75 #[y,.slice (some ⟨w.heap.size,0,none⟩) 1 1]).run prog (w.alloc (.cells #[.pointer (some ⟨l,0,none⟩)] 33))=.ok (.slice a n c) u/\u.cell? ⟨j,0,none⟩=some y/\u.frozen? ⟨j,0,none⟩=false/\
   jM W (u.setCell ⟨j,0,none⟩ (.slice a n c)) j (i+1) i i {d with xb:=ai d.xb i l,sb:=ai d.sb i o,st:=ai d.st i (.aD (Sd.new r t gl (decide (i=0)))),A:=ai d.A i S} (.slice a n c) z vc r t:=by
 have g:=aH w (.cells #[.pointer (some ⟨l,0,none⟩)] 33) none;have f:=h.ao g;obtain⟨a,n,c,u,F,G,H,ho⟩:=wV 75 underlying75 QA rfl (by decide) y i _ f.bd.x w.heap.size 1 (.pointer (some ⟨l,0,none⟩)) (by rw[aX (aM w _)];rfl) rfl (by omega);have B:=f.bd.zy (a:=.slice a n c) (by decide) f.bd.x H ho;have v:=(B.g.block j B.nb (λe=>B.nn e.symm)).trans f.bd.aN;obtain⟨I,K,L⟩:=f.app (λk e=>.inr (.inl e)) B 0;refine⟨f.bd.od.1.1,a,n,c,u,F,?_,by simp[World.frozen?,v],f.bd.Qw (C.ao g) D B G,⟨h.p.m,λb M=>?_⟩,I,λk s=>?_,K,λb M k s=>?_⟩
 rw[aX v,<-aX f.bd.aN];exact f.bd.od.1.1;show ai d.st i _ b=_;by_cases e:b=i;subst e;rw[bk];rw[bl _ _ e];exact h.p.st b (by omega);obtain q|q|q|q|q|q:=s
 exact h.lo k (.inl q);exact L k q;exact h.lo k (.inr (.inr (.inl q)));exact h.lo k (.inr (.inr (.inr (.inl q))));exact h.lo k (.inr (.inr (.inr (.inr (.inl q)))));exact h.lo k (.inr (.inr (.inr (.inr (.inr q)))));have s:ai d.A i S b k:=s;by_cases e:b=i;subst e;rw[bk]at s;exact E k s;rw[bl _ _ e]at s;exact h.la b (by omega) k s
theorem jM.QG{u:Nat->Nat}(f:jM W v j (i+1) i i d x y z r t)(H:v.grownBy w none)(hi:i<2)(L:qC v.heap.size w 4 (.slice (some ⟨o,0,none⟩) 4 n) u):
 (w.alloc (.cells #[.slice (some ⟨o,0,none⟩) 4 n] 141)).cell? ⟨j,1,none⟩=some y/\∃a h c s,(Builtin.append_ #[76,76] 76 #[y,.slice (some ⟨w.heap.size,0,none⟩) 1 1]).run prog (w.alloc (.cells #[.slice (some ⟨o,0,none⟩) 4 n] 141))=.ok (.slice a h c) s/\s.cell? ⟨j,1,none⟩=some y/\s.frozen? ⟨j,1,none⟩=false/\
   jM W (s.setCell ⟨j,1,none⟩ (.slice a h c)) j (i+1) (i+1) i {d with el:=ai d.el i o,lc:=ai d.lc i n,eb:=ai d.eb i u} x (.slice a h c) z r t:=by
 have D:=aH w (.cells #[.slice (some ⟨o,0,none⟩) 4 n] 141) none;have g:=f.ao (aq H D);have I:qC v.heap.size (w.alloc (.cells #[.slice (some ⟨o,0,none⟩) 4 n] 141)) 4 (.slice (some ⟨o,0,none⟩) 4 n) u:=⟨kB L.row (av.of D) (λk _ e=>by cases e),λb C=>((av.of D).block _ (aY.1 (L.en b C)).1 (λe=>by cases e)).trans (L.en b C),L.inj,L.new⟩
 obtain⟨a,h,c,s,K,M,N,ho⟩:=wV 76 underlying76 QC rfl (by decide) y i _ g.bd.e w.heap.size 1 (.slice (some ⟨o,0,none⟩) 4 n) (by rw[aX (aM w _)];rfl) rfl (by omega);have B:=g.bd.zy (a:=.slice a h c) (by decide) g.bd.e N ho;have E:=(B.g.block j B.nb (λe=>B.nn e.symm)).trans g.bd.aN;obtain⟨O,P,Q⟩:=g.app (λk e=>.inr (.inr (.inl e))) B 1;have R:∀k,v.heap.size<=k->¬mM j i d x y z k/\∀a,a<i+1->¬d.A a k:=λk F=>⟨λe=>by have:=f.bd.fx k e;omega,λa S e=>by have:=(f.bd.side a S).lt k e;omega⟩
 refine⟨g.bd.od.1.2.1,a,h,c,s,K,?_,by simp[World.frozen?,E],g.bd.Qy I R f.laid.lt B M,⟨f.p.m,f.p.st⟩,O,λk F=>?_,P,f.la⟩
 rw[aX E,<-aX g.bd.aN];exact g.bd.od.1.2.1;have G:=f.g.size;obtain q|q|q|q|⟨b,C,q⟩|⟨b,l,C,hl,q⟩:=F
 exact f.lo k (.inl q);exact f.lo k (.inr (.inl q));exact Q k q;exact f.lo k (.inr (.inr (.inr (.inl q))));have q:k=ai d.el i o b:=q;by_cases e:b=i;subst e;rw[bk]at q;rw[q];exact bD G (L.new.2 o rfl);rw[bl _ _ e]at q;exact f.lo k (.inr (.inr (.inr (.inr (.inl ⟨b,by omega,q⟩)))));have q:k=ai d.eb i u b l:=q;by_cases e:b=i;subst e;rw[bk]at q;rw[q];exact bD G (L.new.1 l hl);rw[bl _ _ e]at q;exact f.lo k (.inr (.inr (.inr (.inr (.inr ⟨b,l,by omega,hl,q⟩)))))
theorem jM.QH(h:jM W w j (i+1) (i+1) i d x y z r t)(hi:i<2):
 (w.alloc (.cells #[.int .u64 0] 30)).cell? ⟨j,21,none⟩=some z/\∃a n c f,(Builtin.append_ #[78,78] 78 #[z,.slice (some ⟨w.heap.size,0,none⟩) 1 1]).run prog (w.alloc (.cells #[.int .u64 0] 30))=.ok (.slice a n c) f/\f.cell? ⟨j,21,none⟩=some z/\f.frozen? ⟨j,21,none⟩=false/\
   jM W (f.setCell ⟨j,21,none⟩ (.slice a n c)) j (i+1) (i+1) (i+1) d x y (.slice a n c) r t:=by
 have g:=aH w (.cells #[.int .u64 0] 30) none;have b:=h.ao g;obtain⟨a,n,c,f,m,s,u,ho⟩:=wV 78 underlying78 QD rfl (by decide) z i _ b.bd.c w.heap.size 1 (.int .u64 0) (by rw[aX (aM w _)];rfl) rfl (by omega);have B:=b.bd.zy (a:=.slice a n c) (by decide) b.bd.c u ho;have l:=(B.g.block j B.nb (λe=>B.nn e.symm)).trans b.bd.aN;obtain⟨v,A,C⟩:=b.app (λk e=>.inr (.inr (.inr (.inl e)))) B 21;refine⟨b.bd.od.1.2.2,a,n,c,f,m,?_,by simp[World.frozen?,l],b.bd.Qz B s,h.p,v,λk D=>?_,A,h.la⟩
 rw[aX l,<-aX b.bd.aN];exact b.bd.od.1.2.2;obtain q|q|q|q|q|q:=D
 exact h.lo k (.inl q);exact h.lo k (.inr (.inl q));exact h.lo k (.inr (.inr (.inl q)));exact C k q;exact h.lo k (.inr (.inr (.inr (.inr (.inl q)))));exact h.lo k (.inr (.inr (.inr (.inr (.inr q)))))
def Nw.zero(an ag:Int):Nw:=⟨an,ag,gl,λ_=>0,λ_=>0,λ_=>.shut 0 [],λ_ _=>False,0,0,0,0,λ_=>0,λ_=>0,λ_ _=>0,λ_ _=>End.zero,0,0,λ_=>0,[],.slice none 0 0⟩
structure uv(w:World)(an ag:Int)(nb:Nat)(V:Nw)(a:World):Prop where
 g:w.grownBy a none
 at_:bS a nb V
 laid:Laid a
 all:∀k,V.jK nb k->w.heap.size<=k
 cfg:V.an=an/\V.ag=ag/\V.key=gl
 st:∀i,i<2->V.st i=.aD (Sd.new an ag gl (decide (i=0)))
 e:∀i k,V.e i k=End.zero
 aZ:V.aZ=[]
 bn:∀i,V.bn i=0
theorem jM.fin(g:w.grownBy W none)(h:jM W v j 2 2 2 d x y z r t):∃u,uv w r t j u v:=by
 obtain⟨xr,xc,er,ec,cr,cc,H⟩:=h.bd.done;have f:=g.size;refine⟨_,aq g h.g,H,h.laid,λk A=>?_,h.p.m,h.p.st,λ_ _=>rfl,rfl,λ_=>rfl⟩
 have l:∀{s:Value}{a:Nat}{n c:Nat},s=.slice (some ⟨a,0,none⟩) n c->s.ownBlock=some a:=λe=>by rw[e];rfl
 have c0:=h.bd.od.1;have n0:=H.c.1;have e0:=aO (c0.1.symm.trans n0.1);have e1:=aO (c0.2.1.symm.trans n0.2.1);have e2:=aO (c0.2.2.symm.trans n0.2.2.2.2.2);obtain(q|q|q|q|q|⟨a,b,B,aa,q⟩|q)|⟨i,hi,q⟩:=A
 exact bD f (h.lo k (.inl q));exact bD f (h.lo k (.inr (.inl (by rw[q];exact l e0))));exact bD f (h.lo k (.inr (.inr (.inl (by rw[q];exact l e1)))));exact bD f (h.lo k (.inr (.inr (.inr (.inl (by rw[q];exact l e2))))));exact bD f (h.lo k (.inr (.inr (.inr (.inr (.inl q))))));exact bD f (h.lo k (.inr (.inr (.inr (.inr (.inr ⟨a,b,B,aa,q⟩))))));cases q;exact bD f (h.la i hi k q)
theorem ES(w:World)(hL:Laid w)(mt s:Int)(hm:dz mt)(hw:dz s):
 Calls prog 49 #[.int .i64 mt,.int .i64 s] w λe t=>∃nb V,e=.returned (.pointer (some ⟨nb,0,none⟩))/\uv w (64+bf mt 237) (16+bf s 300) nb V t:=by
 obtain⟨an,D⟩:∃x:Int,x=64+bf mt 237:=⟨_,rfl⟩
 obtain⟨ag,E⟩:∃x:Int,x=16+bf s 300:=⟨_,rfl⟩
 have db:=eM mt (p:=237) (by decide);have de:=eM s (p:=300) (by decide);have b6:jH an ag:=by unfold jH;omega
 have b7:=J (eU mt 237 w hm.1 hm.2 (by decide) (by decide));have b8:=J (eU s 300 w hw.1 hw.2 (by decide) (by decide));have ca:IntKind.i64.wrap (64+(bf mt 237:Int))=64+(bf mt 237:Int):=by simp[IntKind.wrap,IntKind.bits,IntKind.signed];omega
 have ch:IntKind.i64.wrap (16+(bf s 300:Int))=16+(bf s 300:Int):=by simp[IntKind.wrap,IntKind.bits,IntKind.signed];omega
 obtain⟨r,O⟩:=exq (w.alloc (.cells #[.int .i64 an,.int .i64 ag] 28));have gc:w.grownBy r none:=by rw[O];exact aH _ _ _
 have bc:r.heap[w.heap.size]?=some (.cells #[.int .i64 an,.int .i64 ag] 28 (0,0)):=by rw[O];exact aM _ _
 obtain⟨W1,F⟩:=exq (r.alloc (.cells (nt (Nw.zero an ag) (.slice none 0 0) (.slice none 0 0) (.slice none 0 0)) 80));have g1:r.grownBy W1 none:=by rw[F];exact aH _ _ _
 obtain⟨nb,G⟩:=exq r.heap.size;have b1:W1.heap[nb]?=some (.cells (nt (Nw.zero an ag) (.slice none 0 0) (.slice none 0 0) (.slice none 0 0)) 80 (0,0)):=by rw[F,G];exact aM _ _
 have Q:=hL.gb gc (by simp);have R:jM r W1 nb 0 0 0 (Nw.zero an ag) (.slice none 0 0) (.slice none 0 0) (.slice none 0 0) an ag:=by
  refine⟨⟨b1,zx,om _ _ _ _,om _ _ _ _,om _ _ _ _,λa d=>by omega,λa d=>by omega,λa d=>by omega,λa d=>by omega,λa b k l d=>by omega,λa d=>by omega,λa b d=>by omega,λk u=>⟨?_,λa d=>by omega⟩⟩,⟨⟨rfl,rfl,rfl⟩,λa d=>by omega⟩,g1,λk u=>?_,Q.gb g1 (by simp),λa d=>by omega⟩
  ·obtain q|q|q|q|⟨a,d,q⟩|⟨a,b,d,aa,q⟩:=u
   rw[q,G];have:=Q.lt;omega;all_goals first|omega|cases q
  obtain q|q|q|q|⟨a,d,q⟩|⟨a,b,d,aa,q⟩:=u
  rw[q,G];exact aP _;all_goals first|omega|cases q
 obtain⟨P,S⟩:∃P:Ending->World->Prop,P=λe t=>∃nb V,e=.returned (.pointer (some ⟨nb,0,none⟩))/\uv w (64+bf mt 237) (16+bf s 300) nb V t:=⟨_,rfl⟩
 rw[<-S];have cj:=J (λ(t:World)(V:Nw)(H ve vc:Value)(h:jM r t nb 2 2 2 V H ve vc an ag)=>(show P (.returned (.pointer (some ⟨nb,0,none⟩))) t by rw[S,<-D,<-E];obtain⟨V',h'⟩:=h.fin gc;exact⟨nb,V',rfl,h'⟩));rw[<-D]at ca;rw[<-E]at ch;replace S:=J S;replace R:=J R;replace hL:=J hL;replace Q:=J Q;have bj:nt (Nw.zero an ag) (.slice none 0 0) (.slice none 0 0) (.slice none 0 0)= #[.slice none 0 0,.slice none 0 0,.int .i64 an,.int .i64 ag,.int .u8 3,.int .u8 1,.int .u8 4,.int .u8 1,.int .u8 5,.int .u8 0,.int .u8 0,.int .u8 0,.int .u8 0,.int .u8 0,.int .u8 0,.int .u8 0,.int .u8 0,.int .u8 0,.int .u8 0,.int .u8 0,.slice none 0 0,.slice none 0 0]:=rfl;rw[bj]at F;clear bj b1;obtain⟨y0,y1⟩:r.cell? ⟨w.heap.size,0,none⟩=some (.int .i64 an)/\r.cell? ⟨w.heap.size,1,none⟩=some (.int .i64 ag):=by simp[World.cell?,bc]
 go_enter func49,ntmps49;go_upto_region 2 with(first|(go_at_call 23;with_reducible refine(Z b7).mono ?_;rintro e w2⟨rfl,I⟩;rw[I];clear I)|(go_at_call 23;with_reducible refine(Z b8).mono ?_;rintro e w2⟨rfl,I⟩;rw[I];clear I))
 rw[<-D,<-E,<-O];clear O;replace D:=J D;replace E:=J E;go_upto_region 3 with fail;rw[<-F,<-G];clear F G;have a2:=λ(W:World)(g:r.grownBy W none)=>(show W.cell? ⟨w.heap.size,0,none⟩=some (.int .i64 an)/\W.cell? ⟨w.heap.size,1,none⟩=some (.int .i64 ag)from⟨g.cell y0 (by simp),g.cell y1 (by simp)⟩)
 replace a2:=J a2;clear y0 y1;have dg:(prog.info? 24).map (·.size)=some (bv gl).length:=by rw[fC,zx.1];exact mQ
 have dk:=underlying24;go_wp2_with fail;go_loopw [7] (λiv wr=>∃(i:Nat)(V:Nw)(H ve vc:Value),i<=2/\iv=.int .i64 (i:Int)/\jM r wr nb i i i V H ve vc an ag) (λiv _=>2-(intOf iv).toNat);case atStart=>exact⟨0,_,_,_,_,by omega,rfl,Z R⟩
 case round=>
  clear R;obtain⟨i,V,H,ve,vc,hi,rfl,B⟩:=hrel;by_cases dn:i<2
  ·have d1:decide ((i:Int)<2)=true:=bK (by omega);obtain⟨f,y⟩:=exq (decide (i=0));have ds:((i:Int)==0)=f:=by
    rw[y];have T:i=0\/i=1:=by omega
    obtain T|T:=T<;>subst T<;>decide
   obtain⟨c0,c1⟩:=Z a2 wr B.g;have k0:=kc c0;have k1:=kc c1;have a3:=B.bd.od.2.2;rw[B.p.m.2.2]at a3;have U:wr.rangeAt nb 4 (bv gl)/\wr.grownBy wr none:=⟨a3,aB _ _⟩
   have K:=Na wr.drew an ag gl zx f (B.laid.gb (aW (aB wr none)) (by simp));have hX:=J (λ(X:World)(g:wr.grownBy X none)(Y al:Nat)(M:Nat->Prop)(hc:cq X Y al (.aD (Sd.new an ag gl f)) M)(z:∀k,M k->wr.heap.size<=k)=>And.intro (B.ao g).bd.od.1.1 ((B.ao g).QF (by omega) (by rw[<-y];exact hc) (λk u=>⟨λe=>by have:=B.bd.fx k e;have:=z k u;omega,λa d e=>by have:=(B.bd.side a d).lt k e;have:=z k u;omega⟩) (λk u=>bD B.g.size (z k u))));unfold cJ at K;replace K:=J K;replace B:=J B;clear c0 c1 a3;replace y:=J y;go_upto_region 6 with fail;go_region_held3 (λt=>t.rangeAt nb 4 (bv gl)/\wr.grownBy t none)
    (first|with_reducible exact br|with_reducible exact U|with_reducible exact js U (aW (aB _ none)))
    (first|(go_at_call 12;refine(Z K).mono ?_;rintro e X⟨g3,⟨cp,-⟩|⟨-,Y,al,M,rfl,z,bt⟩⟩;(exact absurd b6 cp);have br:=js (js U (aW (aB _ none))) g3))
   obtain⟨cv,x0,ax,nx,cx,w5,v,z0,zf,C⟩:=Z hX X (aq (aW (aB wr none)) g3) Y al M bt z;obtain⟨w6,a4⟩:=exq (w5.setCell ⟨nb,0,none⟩ (.slice ax nx cx));rw[<-a4]at C;obtain⟨V6,bx⟩:∃V6,V6={V with xb:=ai V.xb i Y,sb:=ai V.sb i al,st:=ai V.st i (.aD (Sd.new an ag gl (decide (i=0)))),A:=ai V.A i M}:=⟨_,rfl⟩
   rw[<-bx]at C;clear bx bt z hX br U K k0 k1 g3;replace v:=J v;replace C:=J C;go_upto_region 10 with(at_builtin;refine pH (by rfl) 75 75 (by rfl) _ _ (by rfl) _ _ _ (by rfl) (by rfl) (Z v) ?_)
   rw[<-a4];clear a4 z0 zf x0 cv v;have L0:Hid (qC w6.heap.size w6 0 (.slice none 0 0) (λ_=>0)):=J ⟨om _ _ _ _,λb aa=>by omega,λa b d=>by omega,λb aa=>by omega,λq e=>by cases e⟩;go_wp2_with fail;go_loopw [10,11] (λlv kv j=>∃(k:Nat)(bz:Nat->Nat),k<=4/\kv=.int .i64 (k:Int)/\(∃a n c,lv=.slice a n c)/\qC w6.heap.size j k lv bz/\w6.grownBy j none) (λ_ kv _=>4-(intOf kv).toNat);case atStart=>exact⟨0,λ_=>0,by omega,rfl,⟨_,_,_,rfl⟩,Z L0,aB _ _⟩
   case round=>
    clear L0;obtain⟨k,bz,u,rfl,⟨la,ln,bM,rfl⟩,L,g6⟩:=hrel;rename World=>j
    by_cases du:k<4
    ·have d2:decide ((k:Int)<4)=true:=bK (by omega);have ge:=aH j (.cells #[.string ⟨#[]⟩,.bool false,.bool false,.int .u64 0,.int .i64 0,.int .i64 0,.int .i64 0] 143) none;have b0:=aH (j.alloc (.cells #[.string ⟨#[]⟩,.bool false,.bool false,.int .u64 0,.int .i64 0,.int .i64 0,.int .i64 0] 143)) (.cells #[.pointer (some ⟨j.heap.size,0,none⟩)] 140) none;have g7:=aq ge b0;obtain⟨W7,a0⟩:=exq ((j.alloc (.cells #[.string ⟨#[]⟩,.bool false,.bool false,.int .u64 0,.int .i64 0,.int .i64 0,.int .i64 0] 143)).alloc (.cells #[.pointer (some ⟨j.heap.size,0,none⟩)] 140));have b3:W7.heap[j.heap.size]?=some (.cells (oO End.zero) 143 (0,0)):=by rw[a0];exact(heap_alloc_old _ _ (by rw[dQ];omega)).trans (aM _ _)
     have b4:W7.cell? ⟨j.heap.size+1,0,none⟩=some (.pointer (some ⟨j.heap.size,0,none⟩)):=by
      have q:=aM (j.alloc (.cells #[.string ⟨#[]⟩,.bool false,.bool false,.int .u64 0,.int .i64 0,.int .i64 0,.int .i64 0] 143)) (.cells #[.pointer (some ⟨j.heap.size,0,none⟩)] 140);rw[dQ]at q;rw[a0,aX q];rfl
     rw[<-a0]at g7;obtain⟨a8,n8,c8,w8,v,hO,g8,ho⟩:=wV 141 underlying141 QB rfl (by decide) (.slice la ln bM) k _ (kB L.row (av.of g7) (λq _ e=>by cases e)) (j.heap.size+1) 1 (.pointer (some ⟨j.heap.size,0,none⟩)) b4 rfl (by omega);obtain⟨L8,cw⟩:=L.step g6 g7 b3 g8 hO ho;replace L8:=J L8;replace v:=J v;replace L:=J L;clear hO b3 b4 ge b0;go_wp2_with (at_builtin;rw[<-a0];refine pH (by rfl) 141 141 (by rfl) _ _ (by rfl) _ _ _ (by rfl) (by rfl) (Z v) ?_);exact⟨⟨k+1,_,by omega,rfl,⟨_,_,_,rfl⟩,Z L8,cw⟩,by simp[intOf];omega⟩
    have d2:decide ((k:Int)<4)=false:=bI (by omega);obtain rfl:k=4:=by omega
    obtain⟨g,cap,b5⟩:∃g cap,(Value.slice la ln bM)=.slice (some ⟨g,0,none⟩) 4 cap:=by
     obtain⟨-,⟨-,dx⟩|⟨g,cap,dE,e,-⟩⟩:=L.row;omega;exact⟨g,cap,e⟩
    obtain⟨rfl,rfl,rfl⟩:=jg b5;clear b5;have cy:=((Z C).ao g6).bd.od.1.2.1;obtain⟨e0,ae,ne,ce,we,a1,ze,c9,N⟩:=(Z C).QG g6 (by omega) L;obtain⟨wE,a9⟩:=exq (we.setCell ⟨nb,1,none⟩ (.slice ae ne ce));rw[<-a9]at N;have dG:=N.bd.od.1.2.2;obtain⟨e1,aC,nC,cC,wc,bb,zc,ea,BC⟩:=N.QH (by omega);replace BC:=J BC;replace N:=J N;replace a1:=J a1;replace bb:=J bb;replace L:=J L;go_upto_region 16 with(at_builtin;refine pH (by rfl) 76 76 (by rfl) _ _ (by rfl) _ _ _ (by rfl) (by rfl) (Z a1) ?_)
    rw[<-a9];clear a9 ze c9 e0 cy a1;go_wp2_with (at_builtin;refine pH (by rfl) 78 78 (by rfl) _ _ (by rfl) _ _ _ (by rfl) (by rfl) (Z bb) ?_);exact⟨⟨i+1,_,_,_,_,by omega,rfl,Z BC⟩,by simp[intOf];omega⟩
  have d1:decide ((i:Int)<2)=false:=bI (by omega);obtain rfl:i=2:=by omega
  have y:=J (Z cj wr V H ve vc B);replace B:=J B;go_wp2_with fail;first|exact Z y|(go_ret;exact Z y)
def jN(l:List cR)(i:Nat):cR:=l.getD i ⟨0,0,0,0,⟨#[]⟩⟩
theorem zA{l:List cR}(h:i<l.length):jN l i∈l:=by
 unfold jN;rw[pW,eD h];exact sU h
structure uw(s:cR):Prop where
 kind:dz s.kind
 side:dz s.side
 a:dz s.a
 b:dz s.b
 len:s.s.size<=140737488351232
def pV(w:World)(a:Option Addr)(n cap:Nat)(c:List cR):Prop:=
 n=c.length/\n<=cap/\cap<=maxLen/\(∀s∈c,uw s)/\(c=[]\/∃b o,a=some ⟨b,o,none⟩/\∀i,i<c.length->w.rangeAt b (o+i*5) (cZ (jN c i)).toList)
theorem pV.ao{c:List cR}(h:pV w a n k c)(g:w.grownBy W none):pV W a n k c:=by
 obtain⟨d,f,j,l,m⟩:=h;refine⟨d,f,j,l,m.imp id ?_⟩
 rintro⟨b,o,e,p⟩;exact⟨b,o,e,λi hi=>iX (p i hi) g (by simp)⟩
theorem pV.at'{c:List cR}(h:pV w a n k c)(hi:i<c.length):∃b o,a=some ⟨b,o,none⟩/\w.rangeAt b (o+i*5) (cZ (jN c i)).toList/\(w.cell? ⟨b,o+i*5,none⟩=some (.int .i64 (jN c i).kind)/\w.cell? ⟨b,o+i*5+1,none⟩=some (.int .i64 (jN c i).side)/\w.cell? ⟨b,o+i*5+2,none⟩=some (.int .i64 (jN c i).a)/\w.cell? ⟨b,o+i*5+3,none⟩=some (.int .i64 (jN c i).b)/\w.cell? ⟨b,o+i*5+4,none⟩=some (.string (jN c i).s)):=by
 obtain⟨-,-,-,-,d⟩:=h;obtain rfl|⟨b,o,e,f⟩:=d
 simp at hi;have q:=f i hi;exact⟨b,o,e,q,q 0 _ rfl,q 1 _ rfl,q 2 _ rfl,q 3 _ rfl,q 4 _ rfl⟩
def ke(a:List cR):Nat->Nat
 |0=>0
 |i+1=>ke a i+(jN a i).s.size
theorem QI(a:List cR):∀i j,j<i->(jN a j).s.size<=ke a i:=by
 intro i;induction i with
 |zero=>intro j h;omega
 |succ i b=>
  intro j h;unfold ke;by_cases e:j=i;subst e;omega;have:=b j (by omega);omega
theorem QJ{a:List cR}{s:cR}(h:s∈a):s.s.size<=ke a a.length:=by
 obtain⟨i,hi,rfl⟩:=jP.1 h;have:=QI a a.length i hi;unfold jN at this;rw[pW,eD hi]at this;exact this
def ET(w:World)(a:List cR)(e:Ending)(c:World):Prop:=w.grownBy c none/\∃b,e=.returned (.bool b)/\(b=true->a.length<=8192/\∀s∈a,s.s.size<=8192)
theorem QK(w:World)(a:Option Addr)(n cap:Nat)(c:List cR)(H:pV w a n cap c):
 Calls prog 19 #[.slice a n cap] w (ET w c):=by
 obtain⟨d,x,r,k,-⟩:=id H;unfold maxLen at r;replace H:=J H;replace k:=J k;replace d:=J d;go_enter func19,ntmps19;go_wp2_with fail;go_loopw [3,4] (λt m wr=>∃(i:Nat),i<=n/\m=.int .i64 (i:Int)/\t=.int .i64 ((n:Int)+(ke c i:Int))/\((ke c i:Int)<=140737488400000)/\w.grownBy wr none) (λ_ m _=>n-(intOf m).toNat);case atStart=>exact⟨0,by omega,rfl,by simp[ke],by simp[ke],aB _ _⟩
 case round=>
  obtain⟨i,hi,rfl,rfl,hs,g⟩:=hrel;by_cases y:i<n
  ·have A:IntKind.i64.wrap ((i:Int)+1)=(i:Int)+1:=by simp[IntKind.wrap,IntKind.bits,IntKind.signed];omega
   have d1:decide ((i:Int)<(n:Int))=true:=bK (by omega);by_cases f:(n:Int)+(ke c i:Int)<=8192
   ·have d2:decide ((n:Int)+(ke c i:Int)<=8192)=true:=bK f;have B:(0:Int)<=(i:Int):=by omega
    have C:(i:Int)<(n:Int):=by omega
    obtain⟨b,o,rfl,-,-,-,-,-,c4⟩:=((Z H).ao g).at' (i:=i) (by have:=Z d;omega);have u:=(Z k _ (zA (l:=c) (i:=i) (by have:=Z d;omega))).len;have q:IntKind.i64.wrap ((n:Int)+(ke c i:Int)+((jN c i).s.size:Int))=(n:Int)+(ke c i:Int)+((jN c i).s.size:Int):=by simp[IntKind.wrap,IntKind.bits,IntKind.signed];omega
    obtain⟨S,h⟩:=exq (ke c i);obtain⟨z,p⟩:=exq ((jN c i).s);have j:ke c (i+1)=S+z.size:=by rw[h,p];rfl
    rw[<-h]at hs f d2 q;rw[<-p]at c4 u q;replace j:=J j;rw[<-h];clear h p;go_wp2_with fail;refine⟨⟨i+1,by omega,by simp,?_,by rw[Z j];push_cast;omega,g⟩,by simp[intOf];omega⟩
    rw[Z j];push_cast;rw[Int.add_assoc]
   have d2:decide ((n:Int)+(ke c i:Int)<=8192)=false:=bI f;go_wp2_with fail;go_ret;exact⟨g,false,rfl,λe=>by cases e⟩
  have d1:decide ((i:Int)<(n:Int))=false:=bI (by omega);obtain rfl:i=n:=by omega
  by_cases f:(i:Int)+(ke c i:Int)<=8192
  ·have d2:decide ((i:Int)+(ke c i:Int)<=8192)=true:=bK f;go_wp2_with fail;go_ret;refine⟨g,true,rfl,λ_=>⟨by have:=Z d;omega,λs v=>?_⟩⟩
   have:=QJ v;rw[<-Z d]at this;omega
  have d2:decide ((i:Int)+(ke c i:Int)<=8192)=false:=bI f;go_wp2_with fail;go_ret;exact⟨g,false,rfl,λe=>by cases e⟩
structure lG(w0 wr:World)(nb:Nat)(V:Nw)(m:Nat->aj)(n:Nat):Prop where
 at_:bS wr nb V
 ok:bG V m n
 laid:Laid wr
 g:w0.grownBy wr none
 lo:∀k,V.jK nb k->w0.heap.size<=k
theorem lG.go{wr:World}{a:Nw}{c:Nat->aj}(h:lG w wr i d U n)(T:bO wr i d a W)(K:bG a c j):lG w W i a c j:=by
 have z:=h.g.size;refine⟨T.at_,K,T.laid,⟨T.aw.os.trans h.g.os,T.aw.tape.trans h.g.tape,T.aw.output.trans h.g.output,bD z T.aw.size,λk b _=>?_⟩,λk b=>?_⟩
 rw[T.aw.block k (by omega) (λe=>by have:=h.lo k e;omega)];exact h.g.block k b (by simp);obtain q|q:=T.all k b
 exact h.lo k q;omega
theorem lG.gb{wr:World}(h:lG w wr k d U n)(g:wr.grownBy W none):lG w W k d U n:=h.go (bO.refl h.at_ g h.laid) h.ok
theorem uv.EU(h:uv w p q n d W)(a:64<=p/\p<=300/\16<=q/\q<=1024):lG w W n d (λi=>aj.new p q d.key (decide (i=0))) 0:=
 ⟨h.at_,bG.start a h.at_.key ⟨h.cfg.1,h.cfg.2.1⟩ (λi hi=>by rw[h.cfg.2.2];exact h.st i hi) (λi k _ _=>h.e i k) h.aZ (λi _=>h.bn i),h.laid,h.g,h.all⟩
theorem uw.ok{s:cR}(h:uw s)(hl:s.s.size<=8192):s.ok:=⟨h.kind,h.side,h.a,h.b,by omega⟩
def zB(w:World)(e:Ending)(a:World):Prop:=∃nb V m n,e=.returned (.tuple #[.pointer (some ⟨nb,0,none⟩),.bool true])/\n<=16384/\lG w a nb V m n
theorem QL(w:World)(G:Laid w)(a:Option Addr)(n cap:Nat)(d:List cR)(H:pV w a n cap d)(hl:d.length<=8192)(hs:∀s∈d,s.s.size<=8192)(l mt f:Int)(I:dz mt)(L:dz f):
 Calls prog 21 #[.slice a n cap,.int .i64 l,.int .i64 mt,.int .i64 f] w (zB w):=by
 have j:=H.1;have M:64<=64+(bf mt 237:Int)/\64+(bf mt 237:Int)<=300/\16<=16+(bf f 300:Int)/\16+(bf f 300:Int)<=1024:=by
  have:=eM mt (p:=237) (by decide);have:=eM f (p:=300) (by decide);omega
 have x:=J (ES w G mt f I L);replace H:=J H;replace hs:=J hs;replace j:=J j;obtain⟨P,p⟩:=exq (zB w);rw[<-p];have N:=J (λ(nb:Nat)(V:Nw)(m:Nat->aj)(c:Nat)(q:World)(r:c<=16384)(y:lG w q nb V m c)=>(show P (.returned (.tuple #[.pointer (some ⟨nb,0,none⟩),.bool true])) q by rw[p];exact⟨nb,V,m,c,rfl,r,y⟩));replace p:=J p;go_enter func21,ntmps21;go_upto_region 2 with(go_at_call 49;refine(Z x).mono ?_;rintro e W⟨nb,O,rfl,r⟩)
 have z:=J (r.EU M);clear r x;go_wp2_with fail;go_loopw [11] (λu wr=>∃(i:Nat)(V:Nw)(m:Nat->aj)(c:Nat),i<=n/\u=.int .i64 (i:Int)/\c<=2*i/\lG w wr nb V m c) (λu _=>n-(intOf u).toNat);case atStart=>exact⟨0,O,_,0,by omega,rfl,by omega,Z z⟩
 case round=>
  clear z;obtain⟨i,V,m,c,hi,rfl,X,B⟩:=hrel;by_cases Y:i<n
  ·have d1:decide ((i:Int)<(n:Int))=true:=bK (by omega);have j0:(0:Int)<=(i:Int):=by omega
   have j1:(i:Int)<(n:Int):=by omega
   have v:i<d.length:=by have:=Z j;omega
   obtain⟨b,o,rfl,A,c0,c1,c2,c3,c4⟩:=((Z H).ao B.g).at' v;have C:=((Z H).2.2.2.1 _ (zA v)).ok (Z hs _ (zA v));have h:=Qv wr nb V m c B.at_ B.laid B.ok (by have:=Z j;omega) (jN d i) C;have Q:=J (λ(q:World)(k:Nw)(t:Nat->aj)(n2:Nat)(T:bO wr nb V k q)(K:bG k t n2)=>B.go T K);obtain⟨s,D⟩:=exq (jN d i);rw[<-D]at c0 c1 c2 c3 c4 h;unfold cZ dX at h;obtain⟨kind,side,sa,a0,str⟩:=s;simp only at c0 c1 c2 c3 c4 h;replace h:=J h;replace B:=J B;replace A:=J A;clear D C;by_cases E:kind=l
   ·have R:(kind==l)=true:=by simpa using E
    go_wp2_with fail;exact⟨⟨i+1,V,m,c,by omega,rfl,by omega,Z B⟩,by simp[intOf];omega⟩
   have R:(kind==l)=false:=by simpa using E
   go_wp2_with (go_at_call 50;refine(Z h).mono ?_;rintro e S⟨rfl,k,t,n2,y,T,K⟩;have U:=J (Z Q S k t n2 T K);clear T K);exact⟨⟨i+1,k,t,n2,by omega,rfl,by omega,Z U⟩,by simp[intOf];omega⟩
  have d1:decide ((i:Int)<(n:Int))=false:=bI (by omega);have F:=J (Z N nb V m c wr (by have:=Z j;omega) B);replace B:=J B;go_wp2_with fail;first|exact Z F|(go_ret2;exact Z F)
structure Ns where
 V:Nw
 m:Nat->aj
 n:Nat
def Ns.ok(a:Ns):Prop:=bG a.V a.m a.n
def ru(a b:Ns):Prop:=b.ok/\b.m=a.m/\b.n=a.n+2/\∃s0 s1 c,(a.V.st 0).do ⟨4,0,0,0,⟨#[]⟩⟩=(⟨0,-1,0,0,[],[]⟩,.aD s0)/\(a.V.st 1).do ⟨4,0,0,0,⟨#[]⟩⟩=(⟨0,-1,0,0,[],[]⟩,.aD s1)/\b.V={a.V with st:=ai (ai a.V.st 0 (.aD s0)) 1 (.aD s1),A:=c}
def oe(i:Nat)(a b:Ns):Prop:=b.ok/\b.n=a.n+1/\∃c ps e v,(a.V.st i).do ⟨5,0,0,0,⟨#[]⟩⟩=(⟨0,-1,0,0,[],ps⟩,.aD c)/\ps.length<=50/\b.V=jL a.V i ((1-i:Nat):Int) (.aD c) (ps.map strOfNums) ps.length e v/\∃d,zd (a.m i) (ps.map strOfNums) d/\b.m=ai a.m i {(a.m i).dW d with due:=[]}
def mN(q:Nat)(a b:Ns):Prop:=b.ok/\b.n=a.n+1/\∃i r c p d,i<2/\(j9 a.V.aZ q).1=((i:Nat):Int)/\(a.V.st i).do ⟨6,0,0,0,(j9 a.V.aZ q).2⟩=(r,.aD c)/\b.V=gG {a.V with st:=ai a.V.st i (.aD c)} i p 4 d/\b.m=ai a.m i ((a.m i).eI (aG (j9 a.V.aZ q).2)).2.2
def nu(i k:Nat)(a b:Ns):Prop:=b.ok/\b.n=a.n+1/\∃c N code data d,(a.V.st i).do ⟨7,(k:Int),5000,0,⟨#[]⟩⟩=(⟨0,-1,N,code,data,[]⟩,.aD c)/\uq (a.V.e (1-i) k) 5000 N code data/\(data=((a.m i).read k 5000).1/\N=((a.m i).read k 5000).2.1)/\b.V={a.V with st:=ai a.V.st i (.aD c),A:=ai a.V.A i d,e:=eh a.V.e (1-i) k {a.V.e (1-i) k with read:=(a.V.e (1-i) k).read+data.length,state:=N}}/\b.m=ai a.m i ((a.m i).read k 5000).2.2.2.2
def Steps(R:Nat->Ns->Ns->Prop):Nat->Ns->Ns->Prop
 |0,a,b=>a=b
 |c+1,a,b=>∃d,Steps R c a d/\R c d b
def Round(a b:Ns):Prop:=∃g f h c,ru a g/\Steps oe 2 g f/\a.V.aZ.length+c=f.V.aZ.length/\Steps (λq=>mN (a.V.aZ.length+q)) c f h/\Steps (λi d e=>Steps (nu i) 4 d e) 2 h b
def gV(w0 wr:World)(nb:Nat)(a:Ns):Prop:=lG w0 wr nb a.V a.m a.n
theorem QM{wr:World}{a:Ns}(h:gV w wr k a)(g:a.n<=39990):
 Calls prog 50 #[.pointer (some ⟨k,0,none⟩),.agg #[.int .i64 4,.int .i64 0,.int .i64 0,.int .i64 0,.string ⟨#[]⟩]] wr λe c=>e=.returned (.bool true)/\∃b,ru a b/\gV w c k b:=by
 have hs:cR.ok ⟨4,0,0,0,⟨#[]⟩⟩:=⟨by simp[dz],by simp[dz],by simp[dz],by simp[dz],jh _⟩
 refine(ER wr k a.V a.m a.n h.at_ h.laid h.ok g ⟨4,0,0,0,⟨#[]⟩⟩ hs (λd=>ru a ⟨d,a.m,a.n+1+1⟩) rfl (λs0 s1 i j l p=>⟨p,rfl,rfl,s0,s1,i,j,l,rfl⟩)).mono ?_;rintro e c⟨rfl,d,T,f⟩;exact⟨rfl,_,f,h.go T f.1⟩
theorem QN{wr:World}{a:Ns}(h:gV w wr k a)(x:a.n<=39990)(hi:i<2):
 Calls prog 29 #[.pointer (some ⟨k,0,none⟩),.int .i64 i] wr λe d=>e=.returned (.bool true)/\∃b,oe i a b/\gV w d k b:=by
 have K:bG a.V a.m a.n:=h.ok;obtain⟨f,ps,g,l,p,q,r,⟨s,t,u⟩,j⟩:=K.EL hi (show 1-i<2 by omega) (show i≠1-i by omega) (by omega);refine(ED wr k a.V h.at_ h.laid i ((1-i:Nat):Int) hi (by omega) a.n (K.ok hi) (by omega) ps (by omega) (by have:=K.lb;omega) p (.aD f) g q).mono ?_;rintro e d⟨rfl,c,v,T⟩;exact⟨rfl,⟨_,r,a.n+1⟩,⟨j c v,rfl,f,ps,c,v,g,l,rfl,s,t,u⟩,h.go T (j c v)⟩
theorem QO{wr:World}{a:Ns}(h:gV w wr k a)(A:a.n<=39990)(s:j<a.V.aZ.length):
 Calls prog 86 #[.pointer (some ⟨k,0,none⟩),.int .i64 (j9 a.V.aZ j).1,.string (j9 a.V.aZ j).2] wr λe d=>e=.returned (.bool true)/\∃b,mN j a b/\gV w d k b:=by
 have K:bG a.V a.m a.n:=h.ok;obtain⟨i,r,f,p,hi,g,B,-,l,t,u,v,x,y,z,q⟩:=K.wU (by omega) (uu s);have C:=K.mb;rw[g];refine(EA wr k a.V h.at_ h.laid i hi (a.n+1) (K.EN hi) (by omega) (by omega) _ (by omega) r (.aD f) l t u p v x).mono ?_;rintro e d⟨rfl,c,T⟩;exact⟨rfl,⟨_,y,a.n+1⟩,⟨q c,rfl,i,r,f,p,c,hi,g,l,rfl,z⟩,h.go T (q c)⟩
theorem QP{wr:World}{a:Ns}(h:gV w wr j a)(v:a.n<=39990)(hi:i<2)(c:k<4):
 Calls prog 83 #[.pointer (some ⟨j,0,none⟩),.int .i64 i,.int .i64 k,.int .i64 5000] wr λe d=>e=.returned (.bool true)/\∃b,nu i k a b/\gV w d j b:=by
 have K:bG a.V a.m a.n:=h.ok;obtain⟨f,N,code,data,g,l,x,r,s⟩:=K.EJ hi (show 1-i<2 by omega) (show i≠1-i by omega) (by omega) c (p:=5000) (by decide);refine(EE wr j a.V h.at_ h.laid i (1-i) hi (by omega) (by omega) a.n (K.ok hi) (by omega) k c 5000 (by decide) N code data (.aD f) g l (by omega)).mono ?_;rintro e d⟨rfl,p,T⟩;obtain⟨t,q,u⟩:=s (ai a.V.A i p);exact⟨rfl,⟨_,t,a.n+1⟩,⟨q,rfl,f,N,code,data,p,g,l,r,rfl,u⟩,h.go T q⟩
variable{E:Ns}
theorem oe.aZ{b:Ns}(h:oe i E b):E.V.aZ.length<=b.V.aZ.length/\b.V.aZ.length<=E.V.aZ.length+50:=by
 obtain⟨-,-,a,ps,c,v,-,hp,d,-⟩:=h;rw[d];show _<=(E.V.aZ++((ps.map strOfNums).take ps.length).map (λb=>(((1-i:Nat):Int),b))).length/\_;rw[show(jL E.V i ((1-i:Nat):Int) (.aD a) (ps.map strOfNums) ps.length c v).aZ=E.V.aZ++((ps.map strOfNums).take ps.length).map (λb=>(((1-i:Nat):Int),b))from rfl,bH,dA,ct,dA];omega
theorem mN.aZ{b:Ns}(h:mN n E b):b.V.aZ=E.V.aZ/\b.V.vb=E.V.vb:=by
 obtain⟨-,-,i,r,c,p,d,-,-,-,a,-⟩:=h;rw[a];exact⟨rfl,rfl⟩
theorem ru.aZ{b:Ns}(h:ru E b):b.V.aZ=E.V.aZ:=by
 obtain⟨-,-,-,s0,s1,c,-,-,a⟩:=h;rw[a]
theorem gV.len{wr:World}(h:gV w wr n E):∃a vc,wr.cell? ⟨n,20,none⟩=some (.slice a E.V.aZ.length vc):=by
 obtain⟨a,vc,e,-⟩:=qX h.at_.aZ;exact⟨a,vc,by rw[h.at_.c.1.2.2.2.2.1,e]⟩
theorem QQ(w0 w:World)(nb:Nat)(a:Ns)(h:gV w0 w nb a)(t:Nat)(ht:a.n+120*t<=39000):
 Calls prog 51 #[.pointer (some ⟨nb,0,none⟩),.int .i64 t] w λe p=>e=.returned (.bool true)/\∃b,Steps (λ_=>Round) t a b/\gV w0 p nb b/\b.n<=a.n+120*t:=by
 obtain⟨P,W⟩:∃P:Ending->World->Prop,P=λe p=>e=.returned (.bool true)/\∃b,Steps (λ_=>Round) t a b/\gV w0 p nb b/\b.n<=a.n+120*t:=⟨_,rfl⟩
 rw[<-W];have bt:=J (λ(p:World)(b:Ns)(h1:Steps (λ_=>Round) t a b) (h2:gV w0 p nb b) (h3:b.n<=a.n+120*t)=>(show P (.returned (.bool true)) p by rw[W];exact⟨rfl,b,h1,h2,h3⟩));replace W:=J W;replace h:=J h;go_enter func51,ntmps51;go_wp2_with fail;go_loopw [5] (λtv wr=>∃(j:Nat)(b:Ns),j<=t/\tv=.int .i64 (j:Int)/\Steps (λ_=>Round) j a b/\gV w0 wr nb b/\b.n<=a.n+120*j) (λtv _=>t-(intOf tv).toNat);case atStart=>exact⟨0,a,by omega,rfl,rfl,Z h,by omega⟩
 case round=>
  obtain⟨j,b,hj,rfl,I,K,bx⟩:=hrel;by_cases b8:j<t
  ·have dt:decide ((j:Int)<(t:Int))=true:=bK (by omega);have hT:=J (QM K (by omega));replace K:=J K;replace I:=J I;go_upto_region 5 with(go_at_call 50;refine(Z hT).mono ?_;rintro e w1⟨rfl,b1,R,L⟩)
   obtain⟨va,vc,S⟩:=L.len;have ca:b1.n=b.n+2:=R.2.2.1;have ax:b1.V.aZ.length=b.V.aZ.length:=by rw[R.aZ]
   rw[ax]at S;obtain⟨l,X⟩:=exq b.V.aZ.length;rw[<-X]at S ax;have ch:l<=b.V.aZ.length:=by omega
   have cj:b.V.aZ.length<=l:=by omega
   replace X:=J X;replace ax:b1.V.aZ.length<=l/\l<=b1.V.aZ.length:=by omega
   replace L:=J L;replace R:=J R;clear hT;go_upto_block 2 with fail;clear S;go_cut [6,8,9]from 15 to 88 (λT _ _ wx=>T=.bool true/\∃d:Ns,Steps oe 2 b1 d/\gV w0 wx nb d/\d.n=b1.n+2/\l<=d.V.aZ.length/\d.V.aZ.length<=l+100);case first=>
    go_wp2_with fail;go_loopw [6,8] (λE F wr=>∃(c:Nat)(d:Ns),c<=2/\F=.int .i64 (c:Int)/\E=.bool true/\Steps oe c b1 d/\gV w0 wr nb d/\d.n=b1.n+c/\l<=d.V.aZ.length/\d.V.aZ.length<=l+50*c) (λ_ F _=>2-(intOf F).toNat);case atStart=>exact⟨0,b1,by omega,rfl,rfl,rfl,Z L,by omega,by omega,by omega⟩
    case round=>
     clear L;obtain⟨c,d,hc,rfl,rfl,hF,u,bz,a3,a4⟩:=hrel;by_cases bM:c<2
     ·have d2:decide ((c:Int)<2)=true:=bK (by omega);have A:=J (QN u (by omega) bM);replace u:=J u;go_wp2_with (go_at_call 29;refine(Z A).mono ?_;rintro e w2⟨rfl,d',v,B⟩;have a8:=v.aZ;have b0:=v.2.1;replace B:=J B;replace v:=J v);exact⟨⟨c+1,d',by omega,rfl,rfl,⟨d,hF,Z v⟩,Z B,by omega,by omega,by omega⟩,by simp[intOf];omega⟩
     have d2:decide ((c:Int)<2)=false:=bI (by omega);obtain rfl:c=2:=by omega
     replace hF:=J hF;replace u:=J u;go_wp2_with fail;go_meet;exact⟨rfl,d,Z hF,Z u,by omega,by omega,by omega⟩
   case rest=>
    clear L;obtain⟨rfl,d,hF,u,bz,a3,a4⟩:=hcut;replace hF:=J hF;obtain⟨m,U⟩:=exq d.V.aZ.length;have a9:d.V.aZ.length<=100*d.n:=u.ok.lb;rw[<-U]at a3 a4 a9;have cp:m<=4000000:=by omega
    clear a9;have cv:m<=d.V.aZ.length:=by omega
    replace U:=J U;replace u:=J u;go_upto_block 4 with fail;go_cut [6,10,11]from 15 to 88 (λT _ _ wx=>T=.bool true/\∃(c:Nat)(f:Ns),l+c=m/\Steps (λq=>mN (l+q)) c d f/\gV w0 wx nb f/\f.n=d.n+c);case first=>
     go_wp2_with fail;go_loopw [6,10] (λE G wr=>∃(c:Nat)(f:Ns),l+c<=m/\G=.int .i64 ((l+c:Nat):Int)/\E=.bool true/\Steps (λq=>mN (l+q)) c d f/\gV w0 wr nb f/\f.n=d.n+c/\f.V.aZ.length=m) (λ_ G _=>m-(intOf G).toNat);case atStart=>exact⟨0,d,by omega,rfl,rfl,rfl,Z u,by omega,(Z U).symm⟩
     case round=>
      clear u;obtain⟨c,f,hc,rfl,rfl,C,s,b3,M⟩:=hrel;obtain⟨va,vc,S⟩:=s.len;rw[M]at S;replace C:=J C;obtain⟨k,H⟩:=exq (l+c);rw[<-H];replace H:=J H;have cw:k<=l+c:=by rw[Z H];omega
      have cx:l+c<=k:=by rw[Z H];omega
      have cy:f.V.aZ.length<=m:=by omega
      have cC:m<=f.V.aZ.length:=by omega
      replace M:=J M;by_cases c9:l+c<m
      ·have d3:decide ((k:Int)<(m:Int))=true:=bK (by omega);have q0:(0:Int)<=(k:Int):=by omega
       have q1:(k:Int)<(m:Int):=by omega
       obtain⟨g,aC,hv,a0,Y,x2⟩:=s.at_.sL (k:=k) (by omega);rw[Z M]at a0;have A:=QO (lG.gb s (aW (aB _ none)):gV w0 wr.drew nb f) (by omega) (j:=k) (by omega);have a1:=J (λ(p:World)(D:Ns)(h1:mN k f D)(h2:gV w0 p nb D)=>(show p.cell? ⟨nb,20,none⟩=some (.slice (some ⟨g,0,none⟩) m aC)/\p.cell? ⟨g,k*2,none⟩=some (.int .i64 (j9 f.V.aZ k).1)/\p.cell? ⟨g,k*2+1,none⟩=some (.string (j9 f.V.aZ k).2) by
        obtain⟨e1,e2⟩:=h1.aZ;obtain⟨g',db,bb,a2,y1,y2⟩:=h2.at_.sL (k:=k) (by rw[e1];omega);rw[e2,hv,e1]at bb;obtain⟨eg,-,ec⟩:=jg bb;have eg:=fm Addr.block (aO eg);simp only at eg;subst eg;subst ec;rw[e1]at a2 y1 y2;rw[Z M]at a2;exact⟨a2,y1,y2⟩))
       obtain⟨x,hx⟩:=exq (j9 f.V.aZ k);rw[<-hx]at Y x2 A a1;obtain⟨xt,xs⟩:=x;simp only at Y x2 A a1;have bj:wr.drew.cell? ⟨nb,20,none⟩=some (.slice (some ⟨g,0,none⟩) m aC)/\wr.drew.cell? ⟨g,k*2,none⟩=some (.int .i64 xt)/\wr.drew.cell? ⟨g,k*2+1,none⟩=some (.string xs):=⟨a0,Y,x2⟩
       replace A:=J A;replace hx:=J hx;replace s:=J s;clear Y x2 a0 hv;go_upto_region 14 with fail;go_region_held3 (λp=>p.cell? ⟨nb,20,none⟩=some (.slice (some ⟨g,0,none⟩) m aC)/\p.cell? ⟨g,k*2,none⟩=some (.int .i64 xt)/\p.cell? ⟨g,k*2+1,none⟩=some (.string xs))
        (first|with_reducible exact bj|with_reducible exact br)
        (first|(go_at_call 86;refine(Z A).mono ?_;rintro e w2⟨rfl,D,v,B⟩;have br:=Z a1 w2 D v B;replace B:=J B;replace v:=J v))
       have b0:D.n=f.n+1:=(Z v).2.1;have a8:D.V.aZ.length=m:=by rw[(Z v).aZ.1];exact Z M
       clear bj br;go_wp2_with fail;refine⟨⟨c+1,D,by omega,?_,rfl,⟨f,Z C,?_⟩,Z B,by omega,a8⟩,by simp[intOf];omega⟩
       rw[Z H];rfl;show mN (l+c) f D;rw[<-Z H];exact Z v
      have d3:decide ((k:Int)<(m:Int))=false:=bI (by omega);replace s:=J s;go_wp2_with fail;go_meet;exact⟨rfl,c,f,by omega,Z C,Z s,by omega⟩
    case rest=>
     clear u;obtain⟨rfl,c,f,hc,C,s,b3⟩:=hcut;replace hc:=(show l+c<=m/\m<=l+c by omega)
     replace C:=J C;replace s:=J s;go_upto_block 6 with fail;go_cut [6,12,13,14]from 15 to 88 (λT _ _ _ wx=>T=.bool true/\∃r:Ns,Steps (λi d e=>Steps (nu i) 4 d e) 2 f r/\gV w0 wx nb r/\r.n=f.n+8);case first=>
      go_wp2_with fail;go_loopw [6,12] (λE F wr=>∃(i:Nat)(r:Ns),i<=2/\F=.int .i64 (i:Int)/\E=.bool true/\Steps (λi d e=>Steps (nu i) 4 d e) i f r/\gV w0 wr nb r/\r.n=f.n+4*i) (λ_ F _=>2-(intOf F).toNat);case atStart=>exact⟨0,f,by omega,rfl,rfl,rfl,Z s,by omega⟩
      case round=>
       clear s;obtain⟨i,r,hi,rfl,rfl,z,y,b4⟩:=hrel;by_cases b5:i<2
       ·have d4:decide ((i:Int)<2)=true:=bK (by omega);replace y:=J y;replace z:=J z;go_wp2_with fail;go_loopw [6,13] (λE G wr=>∃(q:Nat)(N:Ns),q<=4/\G=.int .i64 (q:Int)/\E=.bool true/\Steps (nu i) q r N/\gV w0 wr nb N/\N.n=r.n+q) (λ_ G _=>4-(intOf G).toNat);case atStart=>exact⟨0,r,by omega,rfl,rfl,rfl,Z y,by omega⟩
        case round=>
         clear y;obtain⟨q,N,hq,rfl,rfl,O,Q,de⟩:=hrel;by_cases b6:q<4
         ·have d5:decide ((q:Int)<4)=true:=bK (by omega);have A:=J (QP Q (by omega) b5 b6);replace Q:=J Q;replace O:=J O;go_wp2_with (go_at_call 83;refine(Z A).mono ?_;rintro e w2⟨rfl,r2,al,D2⟩;have dg:=al.2.1;replace D2:=J D2;replace al:=J al);exact⟨⟨q+1,r2,by omega,rfl,rfl,⟨N,Z O,Z al⟩,Z D2,by omega⟩,by simp[intOf];omega⟩
         have d5:decide ((q:Int)<4)=false:=bI (by omega);obtain rfl:q=4:=by omega
         replace Q:=J Q;replace O:=J O;go_wp2_with fail;exact⟨⟨i+1,N,by omega,rfl,rfl,⟨r,Z z,Z O⟩,Z Q,by omega⟩,by simp[intOf];omega⟩
       have d4:decide ((i:Int)<2)=false:=bI (by omega);obtain rfl:i=2:=by omega
       replace y:=J y;replace z:=J z;go_wp2_with fail;go_meet;exact⟨rfl,r,Z z,Z y,by omega⟩
     case rest=>
      clear s;obtain⟨rfl,r,z,y,b4⟩:=hcut;have b7:Hid (Round b r):=J (by
       have e1:=Z X;have e2:=Z U;have e3:=Z C;subst e1;exact⟨b1,d,f,c,Z R,Z hF,by omega,e3,z⟩)
      replace z:=J z;replace y:=J y;go_wp2_with fail;exact⟨⟨j+1,r,by omega,rfl,⟨b,Z I,Z b7⟩,Z y,by omega⟩,by simp[intOf];omega⟩
  have dt:decide ((j:Int)<(t:Int))=false:=bI (by omega);obtain rfl:j=t:=by omega
  have hf:=J (Z bt wr b I K bx);replace K:=J K;replace I:=J I;go_wp2_with fail;first|exact Z hf|(go_ret;exact Z hf)
def wS:ByteArray:=⟨#[115,111,109,101,32,98,121,116,101,115,32,111,102,32,97,32,115,116,114,101,97,109]⟩
def og:Fr:=⟨5,3,0,0,true,wS,[]⟩
def zC:Sd:=((Sd.new 64 116 gl true).write 3 (aG wS)).2.2
def ux:Sd:=(zC.finish 3).2
noncomputable def wP:List Int:=dm gl 0 0 (bw [og])
def wN:aj:=aj.new 64 116 gl false
def wM:aj:=(aj.fc 0 [og] (wN.mark 0)).2
theorem QR:ux.eN.dh.2=[wP]:=by kernel_rfl
theorem QS:(Sd.new 64 116 gl false).eN.dh.2=[]:=by kernel_rfl
theorem QT:(bw [og]).all (λx=>decide (0<=x)&&decide (x<256))=true:=by kernel_rfl
theorem QU:(bw [og]).length=26:=by kernel_rfl
theorem EV:∀x∈bw [og],W8 x:=λx a=>by
 have:=List.all_eq_true.1 QT x a;simp only[mg,nA]at this;exact this
theorem QV:eC gl 0 wP:=(Eg (by unfold aV;omega)).2 ⟨by rw[QU];decide,by decide⟩
theorem zE:bp wP=0:=zl (by unfold aV;omega)
theorem QW:dN gl 0 0 (bT wP)=bw [og]:=by
 unfold wP;rw[zo];exact Ef _ _ _ _ EV
theorem QX:fE (bw [og])=(some [og],-1):=by
 refine Ed (a:=[og]) (λf a=>?_) (by simp);simp only[cS]at a;subst a;refine⟨⟨?_,?_,?_,?_,λq b=>(by cases b)⟩,⟨⟨?_,?_,?_,?_⟩,⟨?_,?_⟩,?_,?_⟩,?_⟩<;>simp[og,dz,aV,show wS.size=22 from rfl]
theorem QY:aG (strOfNums wP)=wP:=zp (vP EV)
theorem QZ{a:List Fr}(h0:Y.closed=0)(b:eC Y.key (1-Y.me) L)(c:Y.dZ.has (bp L)=false)(d:fE (dN Y.key (1-Y.me) (bp L) (bT L))=(some a,q))(e:a.any Y.gC=false):(Y.eI L).2.2=(aj.fc (bp L) a (Y.mark (bp L))).2:=by
 unfold aj.eI;rw[ah (by simp[h0]),ah (by simp[b]),ah (by simp[c])];unfold aj.pR;rw[d];simp[e]
theorem Q0:(wN.eI wP).2.2=wM:=by
 have h:=QZ (Y:=wN) (L:=wP) (a:=[og]) (q:= -1) rfl QV (by rw[zE];kernel_rfl) (by rw[zE];exact(fm fE QW).trans QX) (by kernel_rfl);rw[h,zE];rfl
def oP(m:aj)(k:Int):aj:=(m.read k 5000).2.2.2.2
theorem EW:((oP (oP (oP wM 0) 1) 2).read 3 5000).1.length=22/\((oP (oP (oP wM 0) 1) 2).read 3 5000).2.1=1:=⟨by kernel_rfl,by kernel_rfl⟩
end
section
variable{i k n:Nat}{U:Nat->aj}{E:Ns}{d:Nw}{W w:World}
theorem EX(s:Sd):(aQ.aD s).do ⟨4,0,0,0,⟨#[]⟩⟩=(⟨0,-1,0,0,[],[]⟩,.aD s.eN):=by simp[aQ.do,aQ.tick]
theorem EY(s:Sd):(aQ.aD s).do ⟨5,0,0,0,⟨#[]⟩⟩=(⟨0,-1,0,0,[],s.dh.2⟩,.aD s.dh.1):=by simp[aQ.do,aQ.dh]
structure sN(a:Ns):Prop where
 s0:a.V.st 0=.aD ux
 s1:a.V.st 1=.aD (Sd.new 64 116 gl false)
 m1:a.m 1=wN
 aZ:a.V.aZ=[]
 rd:(a.V.e 0 3).read=0
def kh(a:Ns):Prop:=(a.V.e 0 3).read=22/\(a.V.e 0 3).state=1
theorem oe.e{b:Ns}(h:oe i E b):b.V.e=E.V.e:=by
 obtain⟨-,-,c,ps,d,v,-,-,a,-⟩:=h;rw[a];rfl
theorem ru.e{b:Ns}(h:ru E b):b.V.e=E.V.e:=by
 obtain⟨-,-,-,s0,s1,c,-,-,a⟩:=h;rw[a]
theorem mN.e{b:Ns}(h:mN n E b)(i k:Nat):(b.V.e i k).read=(E.V.e i k).read/\(b.V.e i k).state=(E.V.e i k).state:=by
 obtain⟨-,-,j,r,c,p,d,-,-,-,a,-⟩:=h;rw[a];show(iu E.V.e j p 4 i k).read=_/\(iu E.V.e j p 4 i k).state=_;unfold iu;split<;>exact⟨rfl,rfl⟩
theorem nu.df{b:Ns}(h:nu i k E b)(H:kh E):kh b:=by
 obtain⟨-,-,m,N,code,data,n,-,a,-,f,-⟩:=h;unfold kh;rw[f];show(eh E.V.e (1-i) k _ 0 3).read=_/\(eh E.V.e (1-i) k _ 0 3).state=_;unfold eh;split;rename_i g;obtain⟨c,d⟩:=g;rw[<-c,<-d]at a;obtain⟨j,l⟩:=a.st (by rw[H.2];decide);rw[j,l,<-c,<-d];exact⟨by simpa using H.1,H.2⟩
 exact H
theorem Steps.df{R:Nat->Ns->Ns->Prop}{S:Ns->Prop}(h:∀q a b,R q a b->S a->S b):∀(c:Nat)(a b:Ns),Steps R c a b->S a->S b:=by
 intro c;induction c with
 |zero=>intro a b e H;cases e;exact H
 |succ c f=>rintro a b⟨d,g,i⟩ H;exact h c d b i (f a d g H)
theorem Round.df{b:Ns}(h:Round E b)(H:kh E):kh b:=by
 obtain⟨g,d,f,c,i,hF,-,j,k⟩:=h;have l:kh g:=by unfold kh;rw[i.e];exact H
 have m:kh d:=Steps.df (S:=kh) (λq x y r a=>by unfold kh;rw[oe.e r];exact a) 2 g d hF l;have n:kh f:=Steps.df (S:=kh) (λq x y r a=>by unfold kh;rw[(mN.e r 0 3).1,(mN.e r 0 3).2];exact a) c d f j m;exact Steps.df (S:=kh) (λq x y r a=>Steps.df (S:=kh) (λq x y r a=>nu.df r a) 4 x y r a) 2 f b k n
theorem nu.m{b:Ns}(h:nu i k E b)(j:Nat):b.m j=if j=i then oP (E.m i) k else E.m j:=by
 obtain⟨-,-,c,N,code,data,d,-,-,-,-,a⟩:=h;rw[a];show ai E.m i _ j=_;unfold ai;rfl
theorem nu.rd{b:Ns}(h:nu i k E b)(a:¬(0=1-i/\3=k)):(b.V.e 0 3).read=(E.V.e 0 3).read:=by
 obtain⟨-,-,d,N,code,data,f,-,-,-,c,-⟩:=h;rw[c];show(eh E.V.e (1-i) k _ 0 3).read=_;unfold eh;rw[ah a]
theorem sN.round{b:Ns}(H:sN E)(h:Round E b):kh b:=by
 obtain⟨n,t,x,c,q,hF,y,s,P⟩:=h;have Q:=q.2.1;have R:=q.e;have S:=q.aZ;obtain⟨-,-,-,s0,s1,A0,t0,t1,k⟩:=q;rw[H.s0,EX]at t0;rw[H.s1,EX]at t1;have e0:ux.eN=s0:=by simpa using t0
 have e1:(Sd.new 64 116 gl false).eN=s1:=by simpa using t1
 have z:n.V.st 0=.aD ux.eN:=by rw[k,e0];rfl
 have A:n.V.st 1=.aD (Sd.new 64 116 gl false).eN:=by rw[k,e1];rfl
 clear k t0 t1 e0 e1;obtain⟨d,⟨d0,rfl,f0⟩,f1⟩:=hF;have T:=oe.e f0;have U:=oe.e f1;obtain⟨-,-,W,ps,A1,v,a,-,u,bz,-,B⟩:=f0;rw[z,EY,QR]at a;have w:ps=[wP]:=by
  have:=fm (λr=>r.1.dh) a;exact this.symm
 subst w;have X:d.V.st 1=.aD (Sd.new 64 116 gl false).eN:=by rw[u];exact A
 have yb:d.V.aZ=[(1,strOfNums wP)]:=by rw[u];show n.V.aZ++_=_;rw[S,H.aZ];rfl
 have Y:d.m 1=wN:=by rw[B];show n.m 1=_;rw[Q,H.m1]
 clear a u B z A;obtain⟨-,-,s2,ps,A2,v2,a,-,C,al,D,F⟩:=f1;rw[X,EY,QS]at a;have w:ps=[]:=by
  have:=fm (λr=>r.1.dh) a;exact this.symm
 subst w;have G:t.V.aZ=[(1,strOfNums wP)]:=by rw[C];show d.V.aZ++_=_;rw[yb];rfl
 have ax:al=[]:=iF D.len;subst ax;have zm:t.m 1=wN:=by rw[F];show({(d.m 1).dW []with due:=[]}:aj)=_;rw[Y];rfl
 clear a C F D;have a0:c=1:=by rw[G,H.aZ]at y;simpa using y
 subst a0;obtain⟨d2,e,s⟩:=s;cases e;have gE:=mN.e s 0 3;obtain⟨-,-,i,r,s3,p,A3,hi,I,-,-,K⟩:=s;rw[H.aZ,G]at I K;have a2:i=1:=by
  have:(1:Int)=((i:Nat):Int):=I;omega
 subst a2;have L:x.m 1=wM:=by
  rw[K];show((t.m 1).eI (aG (strOfNums wP))).2.2=_;rw[zm,QY,Q0]
 have M:(x.V.e 0 3).read=0:=by rw[gE.1,U,T,R,H.rd]
 obtain⟨b1,⟨b0,e,a3⟩,a4⟩:=P;cases e;obtain⟨p3,⟨p2,⟨p1,⟨p0,e,f⟩,g⟩,j⟩,l⟩:=a3;cases e;have vm:b1.m 1=wM:=by rw[l.m 1,ah (by decide),j.m 1,ah (by decide),g.m 1,ah (by decide),f.m 1,ah (by decide),L]
 have vr:(b1.V.e 0 3).read=0:=by rw[l.rd (by decide),j.rd (by decide),g.rd (by decide),f.rd (by decide),M]
 clear f g j l L M;obtain⟨p3,⟨p2,⟨p1,⟨p0,e,f⟩,g⟩,j⟩,l⟩:=a4;cases e;have km:p3.m 1=oP (oP (oP wM 0) 1) 2:=by
  rw[j.m 1,g.m 1,f.m 1,vm];rfl
 have kr:(p3.V.e 0 3).read=0:=by rw[j.rd (by decide),g.rd (by decide),f.rd (by decide),vr]
 obtain⟨-,-,W,N,code,data,A',-,-,⟨hd,O⟩,k,-⟩:=l;rw[km]at hd O;unfold kh;rw[k];show(p3.V.e 0 3).read+(data.length:Int)=22/\N=1;rw[kr,hd,O];exact⟨by have:=EW.1;push_cast;omega,EW.2⟩
theorem sN.rounds(H:sN E):∀(t:Nat)(b:Ns),Steps (λ_=>Round) (t+1) E b->kh b:=by
 intro t;induction t with
 |zero=>rintro b⟨d,e,h⟩;cases e;exact H.round h
 |succ t a=>rintro b⟨d,e,h⟩;exact Round.df h (a d e)
structure zF(V:Nw)(m:Nat->aj):Prop where
 s0:V.st 0=.aD zC
 s1:V.st 1=.aD (Sd.new 64 116 gl false)
 m1:m 1=wN
 aZ:V.aZ=[]
 rd:(V.e 0 3).read=0
 fi:((V.e 0 3).finished||(V.e 0 3).given)=false
theorem EZ:bf 0 2=0/\bf 3 4=3/\bf 0 237=0/\bf 100 300=100:=by decide
theorem Q1(B:lG w W n d U 0)(h0:d.st 0=.aD (Sd.new 64 116 gl true))(j:d.st 1=.aD (Sd.new 64 116 gl false))(l:U 1=wN)(f:∀i k,d.e i k=End.zero)(m:d.aZ=[]):
 Calls prog 50 #[.pointer (some ⟨n,0,none⟩),.agg #[.int .i64 1,.int .i64 0,.int .i64 3,.int .i64 0,.string wS]] W λe h=>e=.returned (.bool true)/\∃a b,lG w h n a b 1/\zF a b:=by
 have hs:cR.ok ⟨1,0,3,0,wS⟩:=⟨by simp[dz],by simp[dz],by simp[dz],by simp[dz],by show wS.size<=_;rw[show wS.size=22 from rfl];omega⟩
 have q:=EG W n d U 0 B.at_ B.laid B.ok (by omega) ⟨1,0,3,0,wS⟩ hs;refine(q (λa=>∃b,bG a b 1/\zF a b) rfl (by show((d.e 0 3).finished||(d.e 0 3).given)=false;rw[f];rfl) (λg N p s c K=>⟨_,K,?_⟩)).mono ?_;replace c:(d.st 0).do ⟨1,3,0,0,wS⟩=(⟨0,-1,N,0,[],[]⟩,.aD g):=c;rw[h0]at c;have e1:aQ.aD zC=.aD g:=(fm Prod.snd c:_)
 refine⟨?_,?_,?_,m,?_,?_⟩
 show aQ.aD g=_;rw[e1];exact j;exact l;show(d.e 0 3).read=0;rw[f];rfl;show((d.e 0 3).finished||(d.e 0 3).given)=false;rw[f];rfl;rintro e h⟨rfl,a,T,b,K,r⟩;exact⟨rfl,a,b,B.go T K,r⟩
theorem Q2(B:lG w W k d U 1)(H:zF d U):
 Calls prog 50 #[.pointer (some ⟨k,0,none⟩),.agg #[.int .i64 2,.int .i64 0,.int .i64 3,.int .i64 0,.string ⟨#[]⟩]] W λe h=>e=.returned (.bool true)/\∃b:Ns,gV w h k b/\sN b/\b.n=2:=by
 have hs:cR.ok ⟨2,0,3,0,⟨#[]⟩⟩:=⟨by simp[dz],by simp[dz],by simp[dz],by simp[dz],jh _⟩
 have i:=EP W k d U 1 B.at_ B.laid B.ok (by omega) ⟨2,0,3,0,⟨#[]⟩⟩ hs;refine(i (λa=>∃c,bG a c 2/\sN ⟨a,c,2⟩) rfl H.fi (λg l f K=>⟨_,K,?_⟩)).mono ?_;replace f:(d.st 0).do ⟨2,3,0,0,⟨#[]⟩⟩=(⟨0,-1,0,0,[],[]⟩,.aD g):=f;rw[H.s0]at f;have e1:aQ.aD ux=.aD g:=(fm Prod.snd f:_)
 refine⟨?_,H.s1,H.m1,H.aZ,H.rd⟩
 show aQ.aD g=_;rw[e1];rintro e h⟨rfl,a,T,c,K,j⟩;exact⟨rfl,⟨a,c,2⟩,B.go T K,j,rfl⟩
theorem Q3(w:World)(A:Laid w):Calls prog 20 #[] w λe a=>e=.returned (.bool true)/\w.grownBy a none/\Laid a:=by
 have f:=ES w A 0 100 (by simp[dz]) (by simp[dz]);rw[EZ.2.2.1,EZ.2.2.2]at f;replace f:=J f;obtain⟨P,m⟩:∃P:Ending->World->Prop,P=λe a=>e=.returned (.bool true)/\w.grownBy a none/\Laid a:=⟨_,rfl⟩
 rw[<-m];have p:=J (λ(a:World)(g:w.grownBy a none)(l:Laid a)=>(show P (.returned (.bool true)) a by rw[m];exact⟨rfl,g,l⟩));replace m:=J m;go_enter func20,ntmps20;go_upto_region 2 with(go_at_call 49;refine(Z f).mono ?_;rintro e I⟨nb,K,rfl,d⟩)
 have q:=d.EU (by decide);have h:=Q1 q (d.st 0 (by decide)) (d.st 1 (by decide)) (by rw[d.cfg.2.2];rfl) d.e d.aZ;unfold wS at h;replace h:=J h;clear q d f;go_upto_region 5 with(go_at_call 50;refine(Z h).mono ?_;rintro e L⟨rfl,M,N,r,s⟩)
 have t:=J (Q2 r s);clear r s h;go_upto_region 6 with(go_at_call 50;refine(Z t).mono ?_;rintro e B⟨rfl,b,u,n,C⟩)
 have v:=J (QQ w B nb b u 4 (by omega));replace n:=J n;clear u t C;go_upto_region 7 with(go_at_call 51;refine(Z v).mono ?_;rintro e D⟨rfl,c,x,j,E⟩)
 obtain⟨y,z⟩:=(Z n).rounds 3 c x;obtain⟨-,c1,-,ce,cl⟩:=j.at_.ns (i:=0) (k:=3) (by decide) (by decide);obtain⟨⟨-,-,-,-,F,G,-⟩,-⟩:=j.at_.ce (i:=0) (k:=3) (by decide) (by decide);rw[y]at F;rw[z]at G;have H:=J (Z p D j.g j.laid);clear y z j x E p v n;go_wp2_with fail;exact Z H
theorem Q4(w:World)(r:Laid w)(a:Option Addr)(n cap:Nat)(d:List cR)(H:pV w a n cap d)(mt p:Int)(t:dz mt)(u:dz p):
 Calls prog 6 #[.slice a n cap,.int .i64 mt,.int .i64 p] w λe A=>e=.returned (.bool true)/\w.grownBy A none:=by
 have f:=QK w a n cap d H;unfold ET at f;replace f:=J f;have v:=J (λW(g:w.grownBy W none)=>Q3 W (r.gb g (by simp)));have q:=J (λW(g:w.grownBy W none)(l:Laid W)(i:d.length<=8192)(j:∀s∈d,s.s.size<=8192)=>QL W l a n cap d (H.ao g) i j 3 mt p t u);clear H r t u;go_enter func6,ntmps6;go_upto_region 2 with(go_at_call 19;refine(Z f).mono ?_;rintro e C⟨x,b,rfl,h⟩)
 have y:=J (Z v C x);clear v f;replace h:=J h;go_upto_region 3 with(go_at_call 20;refine(Z y).mono ?_;rintro e D⟨rfl,E,F⟩)
 have c:=aq x E;clear y;cases b
 ·clear h q;replace c:=J c;go_wp2_with fail;first|exact⟨rfl,Z c⟩|(go_ret;exact⟨rfl,Z c⟩)
 obtain⟨i,j⟩:=Z h rfl;have k:=Z q D c F i j;unfold zB at k;replace k:=J k;clear h q i j;replace c:=J c;go_wp2_with (go_at_call 21;refine(Z k).mono ?_;rintro e G⟨nb,V,m,I,rfl,-,B⟩;have z:=J (aq (Z c) B.g);clear B);first|exact⟨rfl,Z z⟩|(go_ret;exact⟨rfl,Z z⟩)
end
