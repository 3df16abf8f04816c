import Derived.Test.YtjnmokmchdfchaaGreatDoorZb
set_option maxRecDepth 1000000
set_option maxHeartbeats 8000000
set_option linter.all false
namespace Go.Proofs.YtjnmokmchdfchaaGreatDoor
open Go.RowKit Tryz
attribute[local go_sem↓]Go.wp_at_zero Go.wp_at_succ
section
variable{C c:Array Value}{p r:Int}{L:List Int}{b i j k l n:Nat}{P S:Nat->Prop}{a:Option Addr}{f:Ot}{s:Sd}{T:TypeId}{x y z:Value}{V W w:World}{D:aU}
def Ot.next(o:Ot)(d:Du)(a:Int):Pc×Bool:=
 if o.sG then(⟨⟨0,0⟩,d.e,d.g⟩,d.g&&decide (2+cD o.code+cD o.aA<=a))else o.ia d.l d.e a
def Ot.dj(o:Ot)(k:Nat)(p:Pc):Fr:=
 if p.g then⟨4,k,o.aA,o.code,false,⟨#[]⟩,[]⟩
 else⟨5,k,p.x.lo,0,p.e,strOfNums ((o.h.bytes.drop (p.x.lo-o.h.fr).toNat).take (p.x.hi-p.x.lo).toNat),[]⟩
def Ot.jY(o:Ot)(p:Pc):Ot:=if p.g then o else{o with aA:=max o.aA p.x.hi}
structure Ld where
 o:Ot
 d:Du
 fr:List Int
 ps:List Pc
def Ld.step(x:Ld)(k:Nat)(p:Pc):Ld:=⟨x.o.jY p,x.d.leave p,x.fr++bw [x.o.dj k p],x.ps++[p]⟩
def jr(k:Nat)(a:Int):Nat->Ld->Ld
 |0,x=>x
 |n+1,x=>if(x.o.next x.d (a-x.fr.length)).2 then jr k a n (x.step k (x.o.next x.d (a-x.fr.length)).1)else x
def jG(o:Ot)(d:Du):Prop:=bh d.l/\∀m,Sm d.l m->o.h.fr<=m/\m<o.en
theorem jG.mem{d:Du}(h:jG f d){r:Rg}(a:r∈d.l):f.h.fr<=r.lo/\r.lo<r.hi/\r.hi<=f.en:=by
 have b:=h.1.2 r a;have c:=h.2 r.lo ⟨r,a,cW _,b⟩;have e:=h.2 (r.hi-1) ⟨r,a,by omega,by omega⟩;omega
theorem jG.leave{d:Du}(h:jG f d)(p:Pc):jG f (d.leave p):=⟨tu _ h.1,λm a=>h.2 m ((xD _ m).1 a).1⟩
theorem Jq(h0:0<=p)(h:p<=jW r)(a:r<=1000):cD p+p<=r:=by
 unfold jW at h;unfold cD;split at h;rw[az (by omega)];omega;split at h;rw[az (by omega)];omega;split;omega;rw[az (by omega)];omega
theorem tO{d:Du}(h:jG f d)(c:p<=1000)(a:(f.ia d.l d.e p).2=true)(j:0<=f.h.fr):
 f.h.fr<=(f.ia d.l d.e p).1.x.lo/\(f.ia d.l d.e p).1.x.lo<=(f.ia d.l d.e p).1.x.hi/\(f.ia d.l d.e p).1.x.hi<=f.en/\(f.ia d.l d.e p).1.g=false/\
  2+cD (f.ia d.l d.e p).1.x.lo+cD ((f.ia d.l d.e p).1.x.hi-(f.ia d.l d.e p).1.x.lo)+((f.ia d.l d.e p).1.x.hi-(f.ia d.l d.e p).1.x.lo)<=p:=by
 have k:f.h.fr<=(f.fT d.l).lo/\(f.fT d.l).lo<=(f.fT d.l).hi/\(f.fT d.l).hi<=f.en:=by
  unfold Ot.fT;split;simp only;unfold Ot.en;omega;rename_i h0;have:=h.mem (oZ (X:=d.l) (i:=0) (by omega));omega
 unfold Ot.ia at a⊢;generalize f.fT d.l=x at *;have hs:0<cD x.lo:=by unfold cD;split<;>(try split)<;>(try split)<;>omega
 by_cases b:jW (p-(2+cD x.lo))<0;rw[az b]at a;cases a;rw[ah b]at a⊢;simp only
 have:=Jq (r:=p-(2+cD x.lo)) (p:=min x.hi (x.lo+jW (p-(2+cD x.lo)))-x.lo) (by omega) (by omega) (by omega);refine⟨by omega,by omega,by omega,trivial,by omega⟩
theorem Jr(w:World)(sb c:Nat)(ab:Option Addr)(nb cb:Nat)(ac:Option Addr)(nc cc:Nat)(o:Ot)(H:gK w sb c ab nb cb ac nc cc o.h)(T:jU w sb c o)(a:Option Addr)(n cap:Nat)(d:Du)(hs:bu w a n cap d.l)(b:Int)(i: -1000<=b/\b<=1000)(hd:jG o d)(m:0<=o.h.fr/\o.en<=4611686018427387903):
 Calls prog 242 #[.pointer (some ⟨sb,c,none⟩),.agg #[.slice a n cap,.bool d.e,.bool d.g],.int .i64 b] w λr j=>r=.returned (.tuple #[.agg (pA (o.next d b).1),.bool (o.next d b).2])/\w.grownBy j none:=by
 unfold Ot.next;cases f:o.sG;simp only[gm,fR]
 exact HI w sb c ab nb cb ac nc cc o H T f a n cap d.l hs d.e d.g b i (λr k=>by have:=hd.mem k;omega);simp only[eX]
 exact GX w sb c o T f (.slice a n cap) d.e d.g b
structure Wx(N:Nat)(w b:World)(sb:Nat)(v a:aU)(X:Nat->Prop):Prop where
 aw:av w b (λk=>cg sb v k\/X k)
 ft:∀k,cg sb a k->cg sb v k\/w.heap.size<=k
 ar:∀k,eA sb a k->eA sb v k\/N<=k
theorem Wx.of{a:aU}(h:cY n w W k D a)(X:Nat->Prop):Wx n w W k D a X:=⟨h.aw.mono (λ_ _ h=>.inl h),h.ft,h.ar⟩
theorem Wx.rfl'(N:Nat)(w:World)(sb:Nat)(v:aU)(X:Nat->Prop):Wx N w w sb v v X:=⟨av.rfl' _ _,λ_ h=>.inl h,λ_ h=>.inl h⟩
theorem Wx.trans{v x:aU}(h:Wx n w W j D v S)(k:Wx n W V j v x S):Wx n w V j D x S:=by
 refine⟨⟨k.aw.os.trans h.aw.os,k.aw.tape.trans h.aw.tape,k.aw.output.trans h.aw.output,bD h.aw.size k.aw.size,λi hi b=>?_⟩,λi hi=>?_,λi hi=>?_⟩
 rw[k.aw.block i (bY hi h.aw.size) (λc=>c.elim (λc=>(h.ft i c).elim (λe=>b (.inl e)) (by omega)) (λe=>b (.inr e)))];exact h.aw.block i hi b;obtain a|a:=k.ft i hi
 exact h.ft i a;exact .inr (bD h.aw.size a);obtain a|a:=k.ar i hi
 exact h.ar i a;exact .inr a
theorem Wx.own{v:aU}(h:Wx n w W j D v S){r:Option Nat}(g:W.grownBy V r)(b:∀k,k<w.heap.size->r=some k->S k):Wx n w V j D v S:=by
 refine⟨⟨g.os.trans h.aw.os,g.tape.trans h.aw.tape,g.output.trans h.aw.output,bD h.aw.size g.size,λi hi a=>?_⟩,h.ft,h.ar⟩
 rw[g.block i (bY hi h.aw.size) (λe=>a (.inr (b i hi e.symm)))];exact h.aw.block i hi a
theorem Wx.dM{v c:aU}(h:cY n W w l D v)(k:Wx n w V l v c S)(f:∀j,S j->W.heap.size<=j):cY n W V l D c:=by
 refine⟨⟨k.aw.os.trans h.aw.os,k.aw.tape.trans h.aw.tape,k.aw.output.trans h.aw.output,bD h.aw.size k.aw.size,λi hi d=>?_⟩,λi hi=>?_,λi hi=>?_⟩
 rw[k.aw.block i (bY hi h.aw.size) (λb=>b.elim (λb=>(h.ft i b).elim d (by omega)) (λe=>by have:=f i e;omega))];exact h.aw.block i hi d;obtain a|a:=k.ft i hi
 exact h.ft i a;exact .inr (bD h.aw.size a);obtain a|a:=k.ar i hi
 exact h.ar i a;exact .inr a
theorem fO.BP{d:Du}(h:fO W i j S d)(g:∀k,k<W.heap.size->P k->S k):fO W i j P d:=by
 obtain⟨a,n,c,l,e,f⟩:=h;exact⟨a,n,c,l,e,λhl y b=>⟨(f hl y b).1,λm=>(f hl y b).2 (g _ (by subst b;exact e.lt hl) m)⟩⟩
def tP(o:Ot)(p:Pc):Prop:=p.g=true\/(p.g=false/\o.h.fr<=p.x.lo/\p.x.lo<=p.x.hi/\p.x.hi<=o.en)
theorem yt{d:Du}(h:jG f d)(c:p<=1000)(a:(f.next d p).2=true)(e:0<=f.h.fr):tP f (f.next d p).1:=by
 unfold Ot.next at a⊢;cases b:f.sG;rw[b]at a;simp only[gm,fR]at a⊢;obtain⟨g,i,j,k,-⟩:=tO h c a e;exact .inr ⟨k,g,i,j⟩;rw[b]at a;simp only[eX,mg]at a⊢;exact .inl a.1
theorem Js(l:List Int):(strOfNums l).size=l.length:=by
 have:=fm List.length (strOfNums_data l);simpa using this
theorem yu{p:Pc}(k:Nat)(hp:tP f p)(a:p.g=false):((f.dj k p).data.size:Int)=p.x.hi-p.x.lo:=by
 unfold Ot.dj;rw[a];simp only[gm,fR,Js,ct,dF]
 obtain h|⟨-,c,d,b⟩:=hp
 rw[a]at h;cases h;unfold Ot.en at b;omega
theorem BQ{p:Pc}(k:Nat)(b:k<4)(hp:tP f p)(c:0<=f.h.fr/\f.en<=4096)(hs:0<=f.aA/\f.aA<=4096)(d:0<=f.code/\f.code<=4611686018427387903):cU (f.dj k p):=by
 cases a:p.g;have i:=yu k hp a;obtain h|⟨-,j,l,m⟩:=hp
 rw[a]at h;cases h;unfold cU oX qh;have e:(f.dj k p).offset=p.x.lo/\(f.dj k p).code=0/\(f.dj k p).stream=k/\(f.dj k p).kind=5:=by unfold Ot.dj;rw[a];simp
 rw[e.1,e.2.1,e.2.2.1,e.2.2.2];refine⟨⟨by omega,by omega,by omega,by omega⟩,⟨λh=>by omega,λ_=>by omega⟩,by omega,by omega⟩
 have e:(f.dj k p).offset=f.aA/\(f.dj k p).code=f.code/\(f.dj k p).stream=k/\(f.dj k p).kind=4:=by unfold Ot.dj;rw[a];simp
 unfold cU oX qh;rw[e.1,e.2.1,e.2.2.1,e.2.2.2];refine⟨⟨by omega,by omega,by omega,by omega⟩,⟨λh=>by omega,λh=>by omega⟩,by omega,by omega⟩
theorem Jt(w:World){p:Pc}(k:Nat)(i:k<4)(hp:tP f p)(j:0<=f.h.fr/\f.en<=4096)(hs:0<=f.aA/\f.aA<=4096)(l:0<=f.code/\f.code<=4611686018427387903):dr w (f.dj k p) (.slice none 0 0)/\fL [f.dj k p]<=30000000:=by
 have b:(f.dj k p).ranges=[]:=by unfold Ot.dj;split<;>rfl
 have m:(f.dj k p).data.size<=4096:=by
  cases a:p.g;have m:=yu k hp a;obtain h|⟨-,c,d,e⟩:=hp
  rw[a]at h;cases h;omega;unfold Ot.dj;rw[a];simp only[eX];decide
 have n:=BQ k i hp j hs l;refine⟨⟨?_,by omega,none,0,by rw[b];rfl,by rw[b];exact⟨λr h=>(by cases h),rfl,aP _,by simp[maxLen],.inl rfl⟩⟩,?_⟩
 obtain⟨⟨c,d,e,q⟩,-,s,t⟩:=n;have u:0<=(f.dj k p).offset/\0<=(f.dj k p).code:=by
  unfold Ot.dj;cases a:p.g;obtain h|⟨-,c,d,e⟩:=hp
  rw[a]at h;cases h;simp;omega;simp;omega
 exact⟨by unfold dz;omega,by unfold dz;omega,by unfold aV;omega,by unfold aV;omega,λr h=>by rw[b]at h;cases h⟩
 simp only[fL,lL,b,fB];omega
theorem Ju{d:Du}(k:Nat)(A:k<4)(h:jG f d)(i:p<=1000)(a:(f.next d p).2=true)(j:0<=f.h.fr):1<=(bw [f.dj k (f.next d p).1]).length/\((bw [f.dj k (f.next d p).1]).length:Int)<=p:=by
 have u:=yt h i a j;have B:cD (k:Int)=1:=by unfold cD;rw[az (by omega)]
 have el:∀m,bw [m]=da m:=λm=>by simp[bw]
 rw[el];have c:=λn=>GR n
 have s1:=c (k:Int);cases b:(f.next d p).1.g;have s:=yu k u b;have q:f.sG=false:=by
  unfold Ot.next at a b;cases h:f.sG;rfl;rw[h]at a b;simp only[eX,mg]at a b;rw[b]at a;cases a.1
 have e:(f.next d p)=f.ia d.l d.e p:=by unfold Ot.next;rw[q];simp
 rw[e]at a;obtain⟨v,w,y,r,t⟩:=tO h i a j;rw[<-e]at v w y r t;have ef:(f.dj k (f.next d p).1).kind=5/\(f.dj k (f.next d p).1).stream=k/\(f.dj k (f.next d p).1).offset=(f.next d p).1.x.lo:=by unfold Ot.dj;rw[b];simp
 unfold da;rw[ah (by omega),ah (by omega),ah (by omega),ah (by omega),az ef.1,ef.2.1,ef.2.2];have s2:=c (f.next d p).1.x.lo;have s3:=c ((f.dj k (f.next d p).1).data.size:Int);rw[s]at s3;have z:(aG (f.dj k (f.next d p).1).data).length=(f.dj k (f.next d p).1).data.size:=fu _;simp only[dq,bH,z,s]
 omega;have q:f.sG=true:=by
  unfold Ot.next at a b;cases h:f.sG;rw[h]at a b;simp only[gm,fR]at a b;obtain⟨-,-,-,r,-⟩:=tO (by assumption) i a j;rw[r]at b;cases b;rfl
 have t:2+cD f.code+cD f.aA<=p:=by
  unfold Ot.next at a;rw[q]at a;simp only[eX,mg,nA]at a;exact a.2
 have ef:(f.dj k (f.next d p).1).kind=4/\(f.dj k (f.next d p).1).stream=k/\(f.dj k (f.next d p).1).offset=f.aA/\(f.dj k (f.next d p).1).code=f.code:=by unfold Ot.dj;rw[b];simp
 unfold da;rw[ah (by omega),ah (by omega),ah (by omega),az ef.1,ef.2.1,ef.2.2.1,ef.2.2.2];have s2:=c f.code;have s3:=c f.aA;simp only[dq,bH]
 omega
theorem Jv(a:w.heap[n]?=some (.cells c T (0,0)))(H:gz w j c i y z f)(d:f.h.nice)(q:kn w n y z)(k:Nat)(p:Pc)(hp:tP f p):
 Calls prog 243 #[.pointer (some ⟨n,i,none⟩),.int .i64 (k:Int),.agg (pA p)] w λe b=>e=.returned (.agg (bP (f.dj k p) (.slice none 0 0)))/\nL w b n T c i j y z (f.jY p):=by
 obtain⟨x,l,s⟩:=p;cases s;obtain h|⟨-,t,u,m⟩:=hp
 cases h;simp only at t u m;unfold Ot.en at m;have v:=d;unfold Hd.nice at v;refine(Ib a H d q (k:Int) x l (x.lo-f.h.fr).toNat ((x.lo-f.h.fr).toNat+(x.hi-x.lo).toNat) (by omega) (by omega) (by omega) (by omega) (by unfold aV;omega)).mono ?_;rintro r b⟨rfl,h⟩;refine⟨?_,h⟩
 unfold Ot.dj bP;simp[sQ];refine(H7 w n i f (H.tail a) (k:Int) x l).mono ?_;rintro r b⟨rfl,g⟩;exact⟨rfl,c,y,z,rM.AD a g _ _ _,H.ao g,.inl rfl⟩
theorem qR{α:Type}(f:Nat->α)(k:Nat)(x y:α):ai (ai f k x) k y=ai f k y:=by
 funext i;unfold ai;split<;>rfl
structure im(w:World)(base sb D k:Nat)(v:aU)(s:Sd)(o:Ot)(fr:List Int)(ps:List Pc)(v6 v7:Value)(W:World)(cs':Array Value)(v':aU):Prop where
 side:bB W base sb cs' v' {s with out:=ai s.out k o}
 wx:Wx w.heap.size w W sb v v' (λj=>j=D)
 a6:∀j,v6.ownBlock=some j->¬eA sb v' j
 a7:∀j,v7.ownBlock=some j->¬eA sb v' j
 sep:∀j,v6.ownBlock=some j->v7.ownBlock≠some j
 fr:bm W w.heap.size v6 fr
 ps:il W w.heap.size v7 ps
def LX(Y:Nat->Prop)(D:Nat)(v6 v7:Value)(sb:Nat)(v':aU)(j:Nat):Prop:=j=D\/v6.ownBlock=some j\/v7.ownBlock=some j\/cg sb v' j\/Y j
theorem fO.step{W W':World}{D N:Nat}{X i S:Nat->Prop}{d:Du}(h:fO W D N X d)(C:av W W' S)(l:¬S D)(m:∀k,k<W.heap.size->S k->X k)(p:∀k,i k->X k\/W.heap.size<=k):fO W' D N i d:=by
 obtain⟨a,n,c,j,f,g⟩:=h;refine⟨a,n,c,(C.block D (aY.1 j).1 l).trans j,f.df (λhl y b=>C.block _ (by subst b;exact f.lt hl) (λe=>(g hl y b).2 (m _ (by subst b;exact f.lt hl) e))),λhl y b=>⟨(g hl y b).1,λq=>?_⟩⟩
 have r:y.block<W.heap.size:=by subst b;exact f.lt hl
 obtain h|h:=p _ q
 exact(g hl y b).2 h;omega
section
variable {w:World} {base sb D k:Nat} {v:aU} {s:Sd} {o:Ot} {fr:List Int} {ps:List Pc} {v6 v7:Value} {W W':World} {cs':Array Value} {v':aU} {Y:Nat->Prop}
theorem im.lx(h:im w base sb D k v s o fr ps v6 v7 W cs' v')(b:D<w.heap.size)(hY:∀j,Y j->j<w.heap.size):∀j,LX Y D v6 v7 sb v' j->j<W.heap.size:=λj a=>by
 have:=h.wx.aw.size;obtain rfl|e|e|e|e:=a
 omega;exact(h.fr.lt j e).2;exact(h.ps.lt j e).2;exact px h.side.bq e;have:=hY j e;omega
theorem im.yv(h:im w base sb D k v s o fr ps v6 v7 W cs' v')(b:D<w.heap.size)(a:¬eA sb v D):¬eA sb v' D:=λe=>(h.wx.ar D e).elim a (by omega)
theorem im.gb(h:im w base sb D k v s o fr ps v6 v7 W cs' v')(g:W.grownBy W' none):im w base sb D k v s o fr ps v6 v7 W' cs' v':=
 ⟨h.side.ao g,h.wx.own g (λ_ _ e=>by cases e),h.a6,h.a7,h.sep,h.fr.ao g,h.ps.ao g⟩
theorem im.left(h:im w base sb D k v s o fr ps v6 v7 W cs' v')(a:D<w.heap.size)(b:¬eA sb v D)(g:W.grownBy W' (some D)):im w base sb D k v s o fr ps v6 v7 W' cs' v':=
 ⟨h.side.other (av.of g) (λj _ e=>by cases e;exact h.yv a b),h.wx.own g (λj _ e=>(aO e).symm),h.a6,h.a7,h.sep,h.fr.gb g (.inr (λe=>by have:=(h.fr.lt D e).1;omega)),h.ps.aw (av.of g) (λj e e2=>by have:=(h.ps.lt j e).1;have:D=j:=aO e2;omega)⟩
theorem im.aA(h:im w base sb D k v s o fr ps v6 v7 W cs' v')(g:Ot)(n:k<4)(p:nL W W' sb 241 cs' (19+9*k) base (v'.own k) (v'.set k) g){N:Nat}{d:Du}(q:D<w.heap.size)(r:¬eA sb v D)(hd:fO W D N (LX Y D v6 v7 sb v') d):∃i f,im w base sb D k v s g fr ps v6 v7 W' i f/\fO W' D N (LX Y D v6 v7 sb f) d/\av W W' (cg sb v'):=by
 obtain⟨i,f,m,b⟩:=h.side.vD k n g p;simp only[qR]at m;have t:=h.wx.aw.size;refine⟨i,f,⟨m,h.wx.trans (Wx.of (b.mono t) _),λj e l=>?_,λj e l=>?_,h.sep,h.fr.aw b.aw (λj e c=>h.a6 j e (.inl c)),h.ps.aw b.aw (λj e c=>h.a7 j e (.inl c))⟩,hd.step b.aw (λc=>h.yv q r (.inl c)) (λj _ c=>.inr (.inr (.inr (.inl c)))) (λj u=>?_),b.aw⟩
 obtain a|a:=b.ar j l
 exact h.a6 j e a;have:=(h.fr.lt j e).2;omega;obtain a|a:=b.ar j l
 exact h.a7 j e a;have:=(h.ps.lt j e).2;omega;obtain e|e|e|e|e:=u
 exact .inl (.inl e);exact .inl (.inr (.inl e));exact .inl (.inr (.inr (.inl e)));obtain a|a:=b.ft j e
 exact .inl (.inr (.inr (.inr (.inl a))));exact .inr a;exact .inl (.inr (.inr (.inr (.inr e))))
theorem im.Jw(h:im w base sb D k v s o fr ps v6 v7 W cs' v'){c:List Int}{b:Value}(g:W.grownBy W' v6.ownBlock)(m:bm W' w.heap.size b c)(a:b.ownBlock=v6.ownBlock\/b.ownBlock=some W.heap.size)(n:D<w.heap.size){N:Nat}{d:Du}(hd:fO W D N (LX Y D v6 v7 sb v') d):im w base sb D k v s o c ps b v7 W' cs' v'/\fO W' D N (LX Y D b v7 sb v') d:=by
 have p:=h.wx.aw.size;refine⟨⟨h.side.other (av.of g) (λj _ e=>h.a6 j e),h.wx.own g (λj f e=>by have:=(h.fr.lt j e).1;omega),λj e i=>?_,h.a7,λj e l=>?_,m,h.ps.aw (av.of g) (λj e e2=>h.sep j e2 e)⟩,hd.step (av.of g) (λe=>by have:=(h.fr.lt D e).1;omega) (λj _ e=>.inr (.inl e)) (λj f=>?_)⟩
 obtain a|a:=a
 rw[a]at e;exact h.a6 j e i;rw[a]at e;have:=aO e;have:=nM h.side.bq i;omega;obtain a|a:=a
 rw[a]at e;exact h.sep j e l;rw[a]at e;have:=aO e;have:=(h.ps.lt j l).2;omega;obtain e|e|e|e|e:=f
 exact .inl (.inl e);obtain a|a:=a
 rw[a]at e;exact .inl (.inr (.inl e));rw[a]at e;have:=aO e;exact .inr (by omega);exact .inl (.inr (.inr (.inl e)));exact .inl (.inr (.inr (.inr (.inl e))));exact .inl (.inr (.inr (.inr (.inr e))))
theorem im.Jy(h:im w base sb D k v s o fr ps v6 v7 W cs' v'){f:List Pc}{b:Value}(g:W.grownBy W' v7.ownBlock)(m:il W' w.heap.size b f)(a:b.ownBlock=v7.ownBlock\/b.ownBlock=some W.heap.size)(n:D<w.heap.size){N:Nat}{d:Du}(hd:fO W D N (LX Y D v6 v7 sb v') d):im w base sb D k v s o fr f v6 b W' cs' v'/\fO W' D N (LX Y D v6 b sb v') d:=by
 have p:=h.wx.aw.size;refine⟨⟨h.side.other (av.of g) (λj _ e=>h.a7 j e),h.wx.own g (λj i e=>by have:=(h.ps.lt j e).1;omega),h.a6,λj e l=>?_,λj e c=>?_,h.fr.aw (av.of g) (λj e e2=>h.sep j e e2),m⟩,hd.step (av.of g) (λe=>by have:=(h.ps.lt D e).1;omega) (λj _ e=>.inr (.inr (.inl e))) (λj i=>?_)⟩
 obtain a|a:=a
 rw[a]at e;exact h.a7 j e l;rw[a]at e;have:=aO e;have:=nM h.side.bq l;omega;obtain a|a:=a
 rw[a]at c;exact h.sep j e c;rw[a]at c;have:=aO c;have:=(h.fr.lt j e).2;omega;obtain e|e|e|e|e:=i
 exact .inl (.inl e);exact .inl (.inr (.inl e));obtain a|a:=a
 rw[a]at e;exact .inl (.inr (.inr (.inl e)));rw[a]at e;have:=aO e;exact .inr (by omega);exact .inl (.inr (.inr (.inr (.inl e))));exact .inl (.inr (.inr (.inr (.inr e))))
end
structure oH(a:Ot)(d0:Du)(b:Int)(x:Ld):Prop where
 h:x.o.h=a.h
 sG:x.o.sG=a.sG
 code:x.o.code=a.code
 aA:0<=x.o.aA/\x.o.aA<=4096
 lW:jG x.o x.d
 dl:x.d.l.length<=d0.l.length+x.fr.length
 fl:(x.fr.length:Int)<=b
 pl:x.ps.length<=x.fr.length
theorem oH.step{b:Ot}{d0:Du}{a:Int}{x:Ld}(H:oH b d0 a x)(k:Nat)(i:k<4)(m:a<=1000)(j:0<=b.h.fr)(n:b.en<=4096)(e:(x.o.next x.d (a-x.fr.length)).2=true):oH b d0 a (x.step k (x.o.next x.d (a-x.fr.length)).1)/\x.fr.length<(x.step k (x.o.next x.d (a-x.fr.length)).1).fr.length:=by
 have f:0<=x.o.h.fr:=by rw[H.h];exact j
 obtain⟨q,r⟩:=Ju k i H.lW (p:=a-x.fr.length) (by omega) e f;have l:=yt H.lW (p:=a-x.fr.length) (by omega) e f;generalize (x.o.next x.d (a-x.fr.length)).1=p at *;have c:(x.o.jY p).h=x.o.h/\(x.o.jY p).sG=x.o.sG/\(x.o.jY p).code=x.o.code/\0<=(x.o.jY p).aA/\(x.o.jY p).aA<=4096:=by
  have g:=H.aA;unfold Ot.jY;split;exact⟨rfl,rfl,rfl,g.1,g.2⟩
  refine⟨rfl,rfl,rfl,?_⟩
  obtain h|⟨-,s,t,u⟩:=l
  contradiction;have:x.o.en=b.en:=by unfold Ot.en;rw[H.h]
  simp only;omega
 have v:=yo p.x H.lW.1;have w:=H.dl;have y:=H.fl;have z:=H.pl;refine⟨⟨c.1.trans H.h,c.2.1.trans H.sG,c.2.2.1.trans H.code,c.2.2.2,?_,?_,?_,?_⟩,?_⟩
 have:=H.lW.leave p;unfold jG Ot.en at this⊢;unfold Ld.step;simp only
 rw[c.1];exact this;unfold Ld.step Du.leave;simp only[bH]
 omega;unfold Ld.step;simp only[bH]
 omega;unfold Ld.step;simp only[bH,dq,fB]
 omega;unfold Ld.step;simp only[bH]
 omega
def BR(w:World)(Y:Nat->Prop)(g sb D N k:Nat)(v:aU)(s:Sd)(r:Ld)(e:Ending)(c:World):Prop:=
 ∃a6 a c6 a7 b c7 h f,e=.returned (.tuple #[.slice a6 a c6,.slice a7 b c7])/\im w g sb D k v s r.o r.fr r.ps (.slice a6 a c6) (.slice a7 b c7) c h f/\fO c D N (LX Y D (.slice a6 a c6) (.slice a7 b c7) sb f) r.d
theorem Jz{d:Du}(h:jG f d)(b:p<=1000)(a:(f.next d p).2=true)(c:0<=f.h.fr)(g:f.en<=4096):(f.next d p).1.x.ok:=by
 unfold Ot.next at a⊢;cases e:f.sG;rw[e]at a;simp only[gm,fR]at a⊢;obtain⟨i,j,k,l,-⟩:=tO h b a c;constructor<;>(unfold aV;omega);simp only[eX]
 exact⟨⟨cW 0,by decide⟩,⟨cW 0,by decide⟩⟩
theorem BT(g:w.grownBy W none)(h:w.heap.size<=b)(a c d f:Value):w.grownBy ((((W.setCell ⟨b,0,none⟩ a).setCell ⟨b,1,none⟩ c).setCell ⟨b,2,none⟩ d).setCell ⟨b,3,none⟩ f) none:=
 cF g (aI (aI (aI (aI (aB W (some b)) ⟨b,0,none⟩ a (.inr rfl)) ⟨b,1,none⟩ c (.inr rfl)) ⟨b,2,none⟩ d (.inr rfl)) ⟨b,3,none⟩ f (.inr rfl)) (λj e=>.inl (by cases e;exact h))
theorem JA{u3:Value}(h:W.heap[b]?=some (.cells #[x,y,z,u3] T (0,0)))(a c d e:Value):((((W.setCell ⟨b,0,none⟩ a).setCell ⟨b,1,none⟩ c).setCell ⟨b,2,none⟩ d).setCell ⟨b,3,none⟩ e).heap[b]?=some (.cells #[a,c,d,e] T (0,0)):=
 heap_set (o:=3) (heap_set (o:=2) (heap_set (o:=1) (heap_set (o:=0) h a) c) d) e
theorem BU{a:Value}(h:W.heap[i]?=some (.cells #[x,y,z,a] T (0,0))):W.frozen? ⟨i,0,none⟩=false/\W.frozen? ⟨i,0+1,none⟩=false/\W.frozen? ⟨i,0+1+1,none⟩=false/\W.frozen? ⟨i,0+1+1+1,none⟩=false:=by simp[World.frozen?,h]
theorem bm.slice(h:bm w n x L):∃a c,x=.slice a L.length c:=by
 obtain⟨a,c,e,-⟩:=h.bs;exact⟨a,c,e⟩
theorem il.slice{l:List Pc}(h:il w n x l):∃a c,x=.slice a l.length c:=by
 obtain⟨a,c,e,-⟩:=h.BM;exact⟨a,c,e⟩
theorem JB(w:World)(Y:Nat->Prop)(hY:∀j,Y j->j<w.heap.size)(F sb D N k:Nat)(cs:Array Value)(v:aU)(s:Sd)(d:Du)(H:bB w F sb cs v s)(P:k<4)(hD:D<w.heap.size)(dx:¬eA sb v D)(gw:N<=w.heap.size)(ca:fO w D N (λj=>j=D\/cg sb v j\/Y j) d)(ch:jG (s.out k) d)(gB:d.l.length<=900000)
 (hn:(s.out k).h.nice) (fa:(s.out k).en<=4096) (fb:0<=(s.out k).aA/\(s.out k).aA<=4096) (cj:0<=(s.out k).code/\(s.out k).code<=4611686018427387903) (gE:16<=s.an/\s.an<=1000) (r:Ld) (hr:r=jr k (s.an-16) ((s.an-16).toNat+1) ⟨s.out k,d,[],[]⟩):
 Calls prog 209 #[.pointer (some ⟨sb,0,none⟩),.int .i64 (k:Int),.pointer (some ⟨D,0,none⟩)] w (BR w Y F sb D N k v s r):=by
 obtain⟨R,hR⟩:=exq (BR w Y F sb D N k v s r);rw[<-hR];replace hR:=J hR;have i1:(k:Int)<4:=by omega
 have d1:decide ((k:Int)<4)=true:=bK i1;have ff:Hid (im w F sb D k v s (s.out k) [] [] (.slice none 0 0) (.slice none 0 0) w cs v):=J ⟨by rw[ml];exact H,Wx.rfl' _ _ _ _ _,λj e=>(by cases e),λj e=>(by cases e),λj e=>(by cases e),bm.nil _ _,il.nil _ _⟩;have fo:Hid (fO w D N (LX Y D (.slice none 0 0) (.slice none 0 0) sb v) d):=J (ca.BP (λj _ hj=>by
  obtain e|e|e|e:=hj
  exact .inl e;cases e;cases e
  ·exact .inr e))
 have dE:Hid (oH (s.out k) d (s.an-16) ⟨s.out k,d,[],[]⟩):=J ⟨rfl,rfl,rfl,fb,ch,by simp,by simp;omega,by simp⟩;obtain⟨i,aC⟩:=exq (s.an-16);rw[<-aC]at dE hr;have a0:0<=i/\i<=1000:=by omega
 have dG:0<=(s.out k).h.fr:=hn.1;replace hr:=J hr;replace aC:=J aC;replace H:=J H;replace ca:=J ca;replace ch:=J ch;replace hn:=J hn;replace cj:=J cj;go_enter func209,ntmps209;go_upto_region 2 with fail;go_loopg [6,7] (i.toNat+1) (λg v6 v7 wr=>∃(x:Ld)(m:Nat)(a1:Array Value)(B:aU),oH (s.out k) d i x/\im w F sb D k v s x.o x.fr x.ps v6 v7 wr a1 B/\fO wr D N (LX Y D v6 v7 sb B) x.d/\g=(i-x.fr.length).toNat+1/\(i-x.fr.length).toNat+1<=m/\jr k i m x=r);case atStart=>exact⟨_,_,cs,v,Z dE,Z ff,Z fo,by simp,aP _,by simpa using (Z hr).symm⟩
 case round=>
  obtain⟨x,m,a1,B,p,q,bj,rfl,hm,hl⟩:=hrel;obtain⟨a6,c6,rfl⟩:=q.fr.slice;obtain⟨a7,c7,rfl⟩:=q.ps.slice;have hO:gz wr F a1 (19+9*k) (B.own k) (B.set k) x.o:=by have:=q.side.out k P;simpa only[bk]using this
  obtain⟨ab,nb,cb,ac,nc,cc,fq,fs⟩:=hO.mY;have a2:=hO;rw[fq,fs]at a2;have ea:x.o.h.nice:=by rw[p.h];exact Z hn
  have gU:x.o.en=(s.out k).en:=by unfold Ot.en;rw[p.h]
  have ee:0<=x.o.h.fr:=by rw[p.h];exact dG
  have cp:=p.fl;obtain⟨a,n,c,q1,q2,q3⟩:=id bj;obtain⟨⟨p0,p1,p2⟩,-⟩:=qM q1;have br:=J (λW(g:wr.grownBy W none)=>BO W sb s.an (g.cell ((aX q.side.aN _).trans q.side.c0) (by simp)) (by have:=Z aC;omega));rw[<-Z aC]at br;have G:=J (λW(g:wr.grownBy W none)=>Jr W sb (19+9*k) ab nb cb ac nc cc x.o ((a2.ao g).hd (bA q.side.aN g) ea) ((a2.ao g).tail (bA q.side.aN g)) a n c x.d (q2.ao g) (i-x.fr.length) (by omega) p.lW (by omega));rw[<-pB]at G;have cv:=J (λh=>p.step k P a0.2 dG fa h);have cw:=J (λh=>yt p.lW (p:=i-x.fr.length) (by omega) h ee);have cx:=J (λh=>Jz p.lW (p:=i-x.fr.length) (by omega) h ee (by omega));obtain⟨pm,cy⟩:=exq (x.o.next x.d (i-x.fr.length));rw[<-cy]at G cv cw cx;have eg:Hid (∀I,m=I+1->jr k i m x=if pm.2 then jr k i I (x.step k pm.1)else x):=J (λI e=>by rw[e,cy];rfl);clear cy;obtain⟨⟨⟨t,u⟩,y,z⟩,ei⟩:=pm;unfold pA at G;simp only at G cv cw eg cx;have hw:IntKind.i64.wrap (i-(x.fr.length:Int))=i-(x.fr.length:Int):=by simp[IntKind.wrap,IntKind.bits,IntKind.signed];omega
  have gr:wr.grownBy wr.drew none:=aW (aB _ none);have gA:wr.grownBy (wr.alloc (.cells #[.int .u64 0,.int .u64 0,.bool false,.bool false] 377)).drew none:=aW (aH _ _ none);have hA:Hid ((wr.alloc (.cells #[.int .u64 0,.int .u64 0,.bool false,.bool false] 377)).drew.heap[wr.heap.size]?=some (.cells #[.int .u64 0,.int .u64 0,.bool false,.bool false] 377 (0,0))):=J (aM wr _);have fy:Hid (x.ps.length<=100000000):=J (by have:=p.pl;omega);replace p0:=kc p0;replace p1:=kc p1;replace p2:=kc p2;replace p:=J p;replace q:=J q;replace bj:=J bj;replace hO:=J hO;replace a2:=J a2;replace q1:=J q1;replace q2:=J q2;replace q3:=J q3;replace hl:=J hl;replace hm:=J hm;replace cp:=J cp;replace a0:=J a0;go_upto_region 2 with fail;go_cut [9,10] (λv9 ga wx=>(∃b,v9=.pointer (some ⟨b,0,none⟩)/\wr.heap.size<=b/\wx.heap[b]?=some (.cells #[.int .u64 t,.int .u64 u,.bool y,.bool z] 377 (0,0)))/\ga=.bool ei/\wr.grownBy wx none);case first=>
   go_region_held3 (λw'=>wr.grownBy w' none)
    (first|with_reducible exact BT K bt _ _ _ _|with_reducible exact K|with_reducible exact ba K _|with_reducible exact C|with_reducible exact ba C _|with_reducible exact gr|with_reducible exact gA)
    (first
      |(go_at_call 203;refine(Z br _ gA).mono ?_;rintro e Q⟨rfl,L⟩;have C:=aq gA L;have a3:=bA (Z hA) L)
      |(go_at_call 203;refine(Z br _ gr).mono ?_;rintro e Q⟨rfl,L⟩;have C:=aq gr L)
      |(go_at_call 242;refine(Z G _ C).mono ?_;rintro e w6⟨rfl,A⟩;have K:=aq C A;have E:=bA a3 A;have bt:wr.heap.size<=wr.heap.size:=aP _;obtain⟨U,V,X,y3⟩:=pF E;obtain⟨z0,z1,z2,z3⟩:=BU E;have ej:=E)
      |(go_at_call 242;refine(Z G _ (ba C _)).mono ?_;rintro e w6⟨rfl,A⟩;have K:=aq (ba C _) A;have E:=bA (aM _ _) A;have bt:=C.size;obtain⟨U,V,X,y3⟩:=pF E;obtain⟨z0,z1,z2,z3⟩:=BU E;have ej:=E)
      |(go_at_call 242;refine(Z G _ C).mono ?_;rintro e w6⟨rfl,A⟩;have K:=aq C A))
   all_goals go_wp2_with fail
   all_goals go_meet
   all_goals first|exact⟨⟨_,rfl,bt,JA ej _ _ _ _⟩,rfl,BT K bt _ _ _ _⟩|exact⟨⟨_,rfl,K.size,aM _ _⟩,rfl,ba K _⟩
  case rest=>
   obtain⟨⟨b,rfl,gW,al⟩,rfl,gx⟩:=hcut;clear gA hA p0 p1 p2 br G hw gr;obtain⟨I,gd⟩:∃I,m=I+1:=⟨m-1,by have:=Z hm;omega⟩
   have S:=(Z eg I gd).symm.trans (Z hl);have bx:=J ((Z q).gb gx);have ek:=J ((Z bj).ao gx);cases ei
   ·simp only[gm,fR]at S;have gf:Hid (R (.returned (.tuple #[.slice a6 x.fr.length c6,.slice a7 x.ps.length c7])) wc):=J (by
     rw[Z hR,<-S];exact⟨a6,_,c6,a7,_,c7,a1,B,rfl,Z bx,Z ek⟩)
    clear S al;go_wp2_with fail;exact Z gf
   simp only[eX]at S;have a8:=Z cw rfl;have M:=Z cv rfl;have bz:(⟨t,u⟩:Rg).ok:=Z cx rfl;have gX:w.heap.size<=wc.heap.size:=(Z bx).wx.aw.size;have bM:=J (BL wc D N (LX Y D (.slice a6 x.fr.length c6) (.slice a7 x.ps.length c7) sb B) x.d ⟨⟨t,u⟩,y,z⟩ (Z ek) (.inl rfl) ((Z bx).lx hD hY) (by omega) (Z p).lW.1 bz (by have:=(Z p).dl;have:=Z cp;have:=Z a0;omega));obtain⟨U,V,X,y3⟩:=pF al;unfold pA at bM;simp only at bM;replace a8:=J a8;replace M:=J M;replace bz:=J bz;replace S:=J S;replace al:=J al;go_upto_region 5 with fail;go_wp2_with fail;refine(Z bM).mono ?_;rintro e w2⟨rfl,cC,g2⟩;have ax:=(Z bx).left hD dx g2;have gg:b≠D:=by have:=(Z q).wx.aw.size;omega
   have a9:w2.heap[b]?=some (.cells #[.int .u64 t,.int .u64 u,.bool y,.bool z] 377 (0,0)):=(g2.block b (aY.1 (Z al)).1 (λe=>gg (aO e))).trans (Z al);have c9:gz w2 F a1 (19+9*k) (B.own k) (B.set k) x.o:=by have:=ax.side.out k P;simpa only[bk]using this
   have bb:=J (Jv ax.side.aN c9 ea (ax.side.vC k P) k ⟨⟨t,u⟩,y,z⟩ (Z a8));rw[<-pB]at bb;unfold pA at bb;simp only at bb;clear U V X y3 bM;obtain⟨U,V,X,y3⟩:=pF a9;have gh:Hid (¬cg sb B b):=J (λe=>by have:=px (Z q).side.bq e;omega);have gi:Hid ((Value.slice a6 x.fr.length c6).ownBlock≠some b/\(Value.slice a7 x.ps.length c7).ownBlock≠some b):=J ⟨λe=>by have:=((Z q).fr.lt b e).2;omega,λe=>by have:=((Z q).ps.lt b e).2;omega⟩;replace ax:=J ax;replace cC:=J cC;replace a9:=J a9;replace c9:=J c9;go_wp2_with fail;refine(Z bb).mono ?_;rintro e w3⟨rfl,hT⟩;rw[pB]at hT;obtain⟨gj,v3,db,de,C3⟩:=(Z ax).aA _ P hT hD dx (Z cC);have dg:w3.heap[b]?=some (.cells #[.int .u64 t,.int .u64 u,.bool y,.bool z] 377 (0,0)):=(C3.block b (aY.1 (Z a9)).1 (Z gh)).trans (Z a9);have eo:0<=x.o.code/\x.o.code<=4611686018427387903:=by rw[(Z p).code];exact Z cj
   have dk:=Jt w3 k P (Z a8) (by omega) (Z p).aA eo;have ew:=BQ k P (Z a8) (by omega) (Z p).aA eo;have b0:=J (ys w3 _ _ dk.1 ew dk.2);clear U V X y3 bb hT C3 dk ew;obtain⟨f,T⟩:=exq (x.o.dj k ⟨⟨t,u⟩,y,z⟩);rw[<-T]at b0;rw[<-T];obtain⟨fA,b3⟩:=exq (bP f (.slice none 0 0));rw[<-b3]at b0;rw[<-b3];replace T:=J T;replace b3:=J b3;replace db:=J db;replace de:=J de;replace dg:=J dg;go_wp2_with fail;refine(Z b0).mono ?_;rintro e w4⟨⟨a4,n4,c4,rfl,o4⟩,g4⟩;have b4:=(Z db).gb g4;have ey:=(Z de).ao g4;have dn:=bA (Z dg) g4;have ez:=b4.wx.aw.size;have ds:x.fr.length+(bw [f]).length<=100000000:=by
    have h1:=(Z M).1.fl;unfold Ld.step at h1;simp only[bH,<-Z T]at h1;have:=Z a0;omega
   obtain⟨a5,c5,Q,du,o5,L,eK⟩:=zM (w:=w4) 112 w.heap.size _ x.fr b4.fr a4 n4 c4 (bw [f]) o4.gI ds ez;obtain⟨eL,eS⟩:=b4.Jw L o5 eK hD ey;have a3:Q.heap[b]?=some (.cells #[.int .u64 t,.int .u64 u,.bool y,.bool z] 377 (0,0)):=(L.block b (aY.1 dn).1 (λe=>(Z gi).1 e.symm)).trans dn;obtain⟨U,V,X,y3⟩:=pF a3;obtain⟨W6,b5⟩:=exq (Q.alloc (.cells #[.int .u64 t,.int .u64 u,.bool y,.bool z] 377));have A:Q.grownBy W6 none:=by rw[b5];exact aH _ _ _
   have E:W6.heap[Q.heap.size]?=some (.cells #[.int .u64 t,.int .u64 u,.bool y,.bool z] 377 (0,0)):=by rw[b5];exact aM _ _
   have b6:=eL.gb A;have e3:=eS.ao A;have e4:x.ps.length<=100000000:=Z fy;obtain⟨b7,n7,e5,w7,b8,o7,g7,e6⟩:=Jn (w:=W6) 323 w.heap.size _ x.ps b6.ps Q.heap.size 1 ⟨⟨t,u⟩,y,z⟩ (Z bz) (kj (cs:=qN ⟨⟨t,u⟩,y,z⟩) E) e4 b6.wx.aw.size;obtain⟨e7,e8⟩:=b6.Jy g7 o7 e6 hD e3;have hrel:Hid (∃(O:Ld)(m2:Nat)(gn:Array Value)(e9:aU),oH (s.out k) d i O/\im w F sb D k v s O.o O.fr O.ps (.slice a5 (x.fr.length+(bw [f]).length) c5) (.slice b7 n7 e5) w7 gn e9/\fO w7 D N (LX Y D (.slice a5 (x.fr.length+(bw [f]).length) c5) (.slice b7 n7 e5) sb e9) O.d/\(i-(x.fr.length+(bw [f]).length:Nat)).toNat+1=(i-O.fr.length).toNat+1/\(i-O.fr.length).toNat+1<=m2/\jr k i m2 O=r):=J (by
    have gq:=Z T;subst gq;refine⟨x.step k ⟨⟨t,u⟩,y,z⟩,I,gj,v3,(Z M).1,e7,e8,?_,?_,Z S⟩
    unfold Ld.step;simp only[bH]
    ·have h1:=Z hm;have h2:=(Z M).2;have h3:=(Z M).1.fl;omega)
   have gu:Hid ((i-(x.fr.length+(bw [f]).length:Nat)).toNat+1<(i-x.fr.length).toNat+1):=J (by
    have h2:=(Z M).2;have h3:=(Z M).1.fl;unfold Ld.step at h2 h3;simp only[bH,<-Z T]at h2 h3;omega)
   rw[b5]at b8;replace du:=J du;replace b8:=J b8;clear b4 ey eL eS b6 e3 e7 e8 dn b5 E o4 o5 o7 eK e6 g7 A L g4 b0 ez e4;replace a3:=J a3;replace ds:=J ds;go_wp2_with (at_builtin;first|(refine pH (by rfl) 112 112 (by rfl) _ _ (by rfl) _ _ _ (by rfl) (by rfl) (Z du) ?_)|(refine pH (by rfl) 323 323 (by rfl) _ _ (by rfl) _ _ _ (by rfl) (by rfl) (Z b8) ?_));go_roundg ((i-(x.fr.length+(bw [f]).length:Nat)).toNat+1);case measure=>exact Z gu
   case rel=>exact Z hrel
theorem Kk(w:World)(q sb N k:Nat)(cs:Array Value)(v:aU)(s:Sd)(H:bB w q sb cs v s)(I:N<=w.heap.size)(pa:Option Addr)(b f:Nat)(ps:List Pc)(hp:il w N (.slice pa b f) ps)(F:∀j,(Value.slice pa b f).ownBlock=some j->¬eA sb v j)(K:0<=s.count/\s.count<=4611686018427387903)(hl:s.aK.length<=1000000):
 Calls prog 210 #[.pointer (some ⟨sb,91,none⟩),.int .i64 (k:Int),.slice pa b f] w λr m=>r=.returned (.int .u64 s.count)/\∃L A,bB m q sb L A {s with aK:=s.aK++[⟨s.count,s.tick,k,ps⟩],count:=s.count+1}/\cY N w m sb v A/\∀j,eA sb A j->eA sb v j\/w.heap.size<=j\/(Value.slice pa b f).ownBlock=some j:=by
 have M:v.lf.length<=1000000:=by have:=fm List.length H.aK;rw[dA]at this;omega
 have t:=H.rP;refine(Hl w sb 91 q cs _ _ _ v.lf v.ll s.count s.tick s.wait H.aN H.fl H.aG t.1 K M (k:Int) pa b f ps).mono ?_;rintro r m⟨rfl,d,O,P,C,B⟩;refine⟨rfl,?_⟩
 have T:(95:Nat)<cs.size:=by rw[H.sz];omega
 have u:∀i,i≠91->i≠94->((cs.setIfInBounds 91 (.int .u64 (s.count+1))).setIfInBounds (91+3) d)[i]?=cs[i]? :=λi g l=>by rw[bC (by omega),bC (by omega)]
 have U:d.ownBlock≠none->True:=λ_=>trivial
 obtain⟨V,cap,e1,e2,z⟩:=hp.BM;have W:∀j,(v.own 8).ownBlock=some j->j<w.heap.size:=H.bq.lt 8 (by omega);have Q:∀j,d.ownBlock=some j->(v.own 9).ownBlock≠some j:=λj g l=>by
  obtain e|e:=B
  rw[e]at g;exact t.2.2 j g l;have:=e j g;have:=H.bq.lt 9 (by omega) j l;omega
 have R:qP w m sb 241 cs ((cs.setIfInBounds 91 (.int .u64 (s.count+1))).setIfInBounds (91+3) d) 91 (v.own 8) (v.own 9) d (v.own 9):=
  ⟨O,by simp,λi hi=>u i (by omega) (by omega),C.mono (λj _ h=>h.elim .inl (λh=>.inr (.inl h))),B,.inl rfl⟩
 have hF:iA m q ((cs.setIfInBounds 91 (.int .u64 (s.count+1))).setIfInBounds (91+3) d) 91 d (v.own 9) (v.lf++[(⟨s.count,s.tick,(k:Int),ps⟩,.slice pa b f)]) v.ll (s.count+1) s.tick s.wait:=
  ⟨by rw[bC (by omega)];exact cB (by omega),(u _ (by omega) (by omega)).trans H.fl.c1,(u _ (by omega) (by omega)).trans H.fl.c2,cB (by simp;omega),(u _ (by omega) (by omega)).trans H.fl.c4,P,H.fl.ol.aw C (λj e h=>by
   obtain rfl|h:=h
   exact t.2.1 e
   ·exact t.2.2 j h e)⟩
 have:=H.xZ I d (v.own 9) _ v.ll _ _ _ R hF Q (λx a=>by
  obtain a|a:=bQ.1 a
  obtain a|a:=bQ.1 a
  exact .inl (iH _ a);right;rw[cS.1 a];obtain⟨rfl,-,rfl⟩:=jg e1;refine⟨pa,b,f,rfl,?_,λy p=>?_⟩
  have S:b=ps.length:=(jg e1).2.1;rw[S];exact e2.df (λ_ y p=>C.block _ (hp.lt y.block (z y p)).2 (λh=>F y.block (z y p) (.inl (h.elim .inl (λh=>.inr ⟨8,by omega,h⟩)))));have G:=hp.lt y.block (z y p);have D:¬cg sb v y.block:=λh=>F y.block (z y p) (.inl h)
  refine⟨G.1,bY G.2 C.size,D,λe=>?_,λe=>D (.inr ⟨9,by omega,e⟩)⟩
  obtain h|h:=B
  rw[h]at e;exact D (.inr ⟨8,by omega,e⟩);have:=h _ e;omega
  ·exact .inl (jO _ a))
 obtain⟨g,l⟩:=this;refine⟨(cs.setIfInBounds 91 (.int .u64 (s.count+1))).setIfInBounds (91+3) d,_,?_,l,λj E=>?_⟩
 have e:({s with aK:=(v.lf++[((⟨s.count,s.tick,(k:Int),ps⟩:Pk),Value.slice pa b f)]).map (·.1),lost:=v.ll.map (·.1),count:=s.count+1,tick:=s.tick,wait:=s.wait}:Sd)={s with aK:=s.aK++[⟨s.count,s.tick,k,ps⟩],count:=s.count+1}:=by
  rw[mO,<-H.aK,<-H.lost];rfl
 rw[<-e];exact g;obtain E|⟨i,y,n,c,hi,e,rfl⟩|⟨x,a,y,n,c,e,rfl⟩:=E
 exact(l.ft j E).elim (λh=>.inl (.inl h)) (λh=>.inr (.inl h));exact .inl (.inr (.inl ⟨i,y,n,c,hi,e,rfl⟩));simp only at a;obtain a|a:=bQ.1 a
 obtain a|a:=bQ.1 a
 exact .inl (.inr (.inr ⟨x,iH _ a,y,n,c,e,rfl⟩));rw[cS.1 a]at e;simp only at e;right;right;rw[e];rfl;exact .inl (.inr (.inr ⟨x,jO _ a,y,n,c,e,rfl⟩))
structure fw(W:World)(N sb:Nat)(v:aU)(a:List El)(b:Value):Prop where
 own:eO W N b a
 at_:gP W N a
 a5:∀j,b.ownBlock=some j->¬eA sb v j
 ae:∀e∈a,¬eA sb v e.1
 s5:∀e∈a,b.ownBlock≠some e.1
theorem fw.nil(W:World)(N sb:Nat)(v:aU):fw W N sb v [] (.slice none 0 0):=⟨eO.nil _ _,gP.nil _ _,λj e=>(by cases e),λe a=>(by cases a),λe a=>(by cases a)⟩
theorem fw.next{f:aU}{c:List El}{X:Nat->Prop}(h:fw W n k D c x)(C:av W w (λj=>cg k D j\/X j))(g:∀j,x.ownBlock=some j->¬X j)(i:∀e∈c,¬X e.1)(ar:∀j,eA k f j->eA k D j\/W.heap.size<=j):fw w n k f c x:=
 ⟨h.own.aw C (λj e a=>a.elim (λa=>h.a5 j e (.inl a)) (g j e)),h.at_.aw C (λe b a=>a.elim (λa=>h.ae e b (.inl a)) (i e b)),λj e d=>(ar j d).elim (h.a5 j e) (λa=>by have:=(h.own.lt j e).2;omega),λe b d=>(ar _ d).elim (h.ae e b) (λa=>by have:=h.at_.lt b;omega),h.s5⟩
theorem fw.gb{a:List El}(h:fw W n k D a x)(g:W.grownBy w none):fw w n k D a x:=
 h.next (X:=λ_=>False) ((av.of g).mono (λ_ _ e=>by cases e)) (λ_ _=>id) (λ_ _=>id) (λ_ h=>.inl h)
theorem fw.app{f:List El}{e:El}(h:fw W n k D f y)(q:gP W n [e])(r:¬eA k D e.1)(s:y.ownBlock≠some e.1)(t:∀a∈f,a.1≠e.1)(i:∀j,eA k D j->j<W.heap.size)(u:eO w n z (f++[e]))(g:W.grownBy w y.ownBlock)(d:z.ownBlock=y.ownBlock\/z.ownBlock=some W.heap.size):fw w n k D (f++[e]) z:=by
 have l:=(h.at_.app q (λa i b v=>by rw[cS.1 v];exact t a i))
 have m:∀x∈f++[e],y.ownBlock≠some x.1:=λx c=>by
  obtain c|c:=bQ.1 c
  exact h.s5 x c;rw[cS.1 c];exact s
 refine⟨u,l.aw (av.of g) (λx c e2=>m x c e2),λj e1 p=>?_,λx c=>?_,λx c e1=>?_⟩
 obtain d|d:=d
 rw[d]at e1;exact h.a5 j e1 p;rw[d]at e1;have:=aO e1;have:=i j p;omega;obtain c|c:=bQ.1 c
 exact h.ae x c;rw[cS.1 c];exact r;obtain d|d:=d
 rw[d]at e1;exact m x c e1;rw[d]at e1;have:=aO e1;have:=l.lt c;omega
theorem bB.qu(H:bB w n k c D s)(b:dw s.key):w.rangeAt k 2 (bv s.key):=λj u a=>by
 have d:j<16:=by have:=(kF.1 a).1;rw[fC,b.1]at this;exact this
 rw[aX H.aN,H.key j d];exact a
theorem vP{key:List Int}{s n:Int}{l:List Int}(hl:∀x∈l,W8 x):∀x∈dm key s n l,W8 x:=by
 intro x a;simp only[dm,bQ]at a;obtain(a|a)|a:=a
 exact pJ _ x a;exact tV hl x a;exact pJ _ x a
structure Pz where
 s:Sd
 d:Du
 l:List (List Int)
def Pz.load(x:Pz)(k:Nat):Ld:=jr k (x.s.an-16) ((x.s.an-16).toNat+1) ⟨x.s.out k,x.d,[],[]⟩
def Pz.stay(x:Pz)(k:Nat):Pz:=⟨{x.s with out:=ai x.s.out k (x.load k).o},(x.load k).d,x.l⟩
def Pz.jb(x:Pz)(k:Nat):Pz:=
 ⟨{x.s with out:=ai x.s.out k (x.load k).o,aK:=x.s.aK++[⟨x.s.count,x.s.tick,k,(x.load k).ps⟩],count:=x.s.count+1},(x.load k).d,x.l++[dm x.s.key (aS x.s.first) x.s.count (x.load k).fr]⟩
def ly(k:Nat):Nat->Pz->Pz
 |0,x=>x
 |n+1,x=>if 10<=x.s.aK.length then x else if(x.load k).ps.length=0 then x.stay k else ly k n (x.jb k)
def Sd.pieces(s:Sd)(k:Nat):Pz:=ly k 11 ⟨s,s.due k,[]⟩
theorem Kl{b:Ot}{d0:Du}{a:Int}{k:Nat}(c:k<4)(e:a<=1000)(f:0<=b.h.fr)(g:b.en<=4096):∀(m:Nat)(x:Ld),oH b d0 a x->oH b d0 a (jr k a m x):=by
 intro m;induction m with
 |zero=>exact λx h=>h
 |succ m i=>
  intro x h;unfold jr;cases j:(x.o.next x.d (a-x.fr.length)).2;simp only[gm,fR];exact h;simp only[eX];exact i _ (h.step k c e f g j).1
structure nh(s0:Sd)(k:Nat)(x:Pz):Prop where
 an:x.s.an=s0.an
 key:x.s.key=s0.key
 h:(x.s.out k).h=(s0.out k).h
 sG:(x.s.out k).sG=(s0.out k).sG
 code:(x.s.out k).code=(s0.out k).code
 aA:0<=(x.s.out k).aA/\(x.s.out k).aA<=4096
 lW:jG (x.s.out k) x.d
 dl:x.d.l.length+1000*(10-x.s.aK.length)<=900000
 fl:x.s.aK.length<=10
 bn:0<=x.s.count/\x.s.count+10-x.s.aK.length<=4611686018427387000
 lf:x.l.length<=x.s.aK.length
theorem nh.ll{s0:Sd}{k:Nat}{x:Pz}(H:nh s0 k x):x.l.length<=1000:=by have:=H.lf;have:=H.fl;omega
theorem nh.ld{s0:Sd}{k:Nat}{x:Pz}(H:nh s0 k x)(a:k<4)(f:16<=s0.an/\s0.an<=1000)(b:0<=(s0.out k).h.fr)(c:(s0.out k).en<=4096):oH (x.s.out k) x.d (x.s.an-16) (x.load k):=by
 have e:(x.s.out k).en=(s0.out k).en:=by unfold Ot.en;rw[H.h]
 refine Kl a (by rw[H.an];omega) (by rw[H.h];exact b) (by rw[e];exact c) _ _ ⟨rfl,rfl,rfl,H.aA,H.lW,by simp,by rw[H.an];simp;omega,by simp⟩
theorem nh.jb{s0:Sd}{k:Nat}{x:Pz}(H:nh s0 k x)(a:k<4)(b:16<=s0.an/\s0.an<=1000)(c:0<=(s0.out k).h.fr)(d:(s0.out k).en<=4096)(e:x.s.aK.length<10):nh s0 k (x.jb k):=by
 have L:=H.ld a b c d;unfold Pz.jb;have f:=L.dl;have g:=L.fl;have i:=H.dl;have j:=H.bn;have l:=H.an;have m:=H.lf;refine⟨H.an,H.key,?_,?_,?_,?_,?_,?_,?_,?_,?_⟩
 simp only[bk];exact L.h.trans H.h;simp only[bk];exact L.sG.trans H.sG;simp only[bk];exact L.code.trans H.code;simp only[bk];exact L.aA;simp only[bk];exact L.lW;simp only[bH,dq,fB];omega;simp only[bH,dq,fB];omega;simp only[bH,dq,fB];omega;simp only[bH,dq,fB];omega
structure kx(w0:World)(base sb D:Nat)(v0:aU)(x:Pz)(v5:Value)(W:World)(cs:Array Value)(v:aU)(els:List El):Prop where
 side:bB W base sb cs v x.s
 dM:cY w0.heap.size w0 W sb v0 v
 due:fO W D w0.heap.size (λj=>j=D\/cg sb v j\/v5.ownBlock=some j) x.d
 nD:¬eA sb v D
 dl:D<W.heap.size
 ls:fw W w0.heap.size sb v els v5
 n5:v5.ownBlock≠some D
 ne:∀e∈els,e.1≠D
 el:els.map (·.2)=x.l
section
variable {w0:World} {base sb D k:Nat} {v0:aU} {x:Pz} {v5:Value} {W W':World} {cs:Array Value} {v:aU} {els:List El}
theorem kx.gb(h:kx w0 base sb D v0 x v5 W cs v els)(g:W.grownBy W' none):kx w0 base sb D v0 x v5 W' cs v els:=
 ⟨h.side.ao g,h.dM.trans (cY.ao g),h.due.ao g,h.nD,bY h.dl g.size,h.ls.gb g,h.n5,h.ne,h.el⟩
theorem kx.Km(h:kx w0 base sb D v0 x v5 W cs v els)(q:w0.heap.size<=D){r:Ld}{f g:Value}{i:Array Value}{b:aU}{c:World}(a:im W base sb D k v x.s r.o r.fr r.ps f g c i b)(hd:fO c D w0.heap.size (LX (λj=>v5.ownBlock=some j) D f g sb b) r.d):kx w0 base sb D v0 ⟨{x.s with out:=ai x.s.out k r.o},r.d,x.l⟩ v5 c i b els:=by
 have t:=h.dM.aw.size;have m:Wx w0.heap.size W c sb v b (λj=>j=D):=⟨a.wx.aw,a.wx.ft,λj e=>(a.wx.ar j e).imp id (λe=>by omega)⟩
 refine⟨a.side,m.dM h.dM (λj e=>by omega),hd.BP (λj _ n=>n.elim .inl (λe=>.inr (.inr (.inr e)))),a.yv h.dl h.nD,bY h.dl a.wx.aw.size,h.ls.next a.wx.aw (λj e e2=>h.n5 (by rw[<-e2];exact e)) (λe p e2=>h.ne e p e2) a.wx.ar,h.n5,h.ne,h.el⟩
theorem kx.Kn(h:kx w0 base sb D v0 x v5 W cs v els){k:Sd}{l:Array Value}{b:aU}{g:World}(m:bB g base sb l b k)(c:cY w0.heap.size W g sb v b)(i:∀j,eA sb b j->eA sb v j\/W.heap.size<=j\/(v5.ownBlock≠some j/\j≠D/\∀e∈els,e.1≠j)):kx w0 base sb D v0 {x with s:=k} v5 g l b els:=by
 have n:∀j,eA sb b j->v5.ownBlock=some j->False:=λj d e=>by
  obtain a|a|a:=i j d
  exact h.ls.a5 j e a;have:=(h.ls.own.lt j e).2;omega;exact a.1 e
 have p:∀e∈els,¬eA sb b e.1:=λe f d=>by
  obtain a|a|a:=i _ d
  exact h.ls.ae e f a;have:=h.ls.at_.lt f;omega;exact a.2.2 e f rfl
 refine⟨m,h.dM.trans c,h.due.step c.aw (λe=>h.nD (.inl e)) (λj _ e=>.inr (.inl e)) (λj q=>?_),λe=>?_,bY h.dl c.aw.size,⟨h.ls.own.aw c.aw (λj e e2=>h.ls.a5 j e (.inl e2)),h.ls.at_.aw c.aw (λe f e2=>h.ls.ae e f (.inl e2)),λj e d=>n j d e,p,h.ls.s5⟩,h.n5,h.ne,h.el⟩
 obtain e|e|e:=q
 exact .inl (.inl e);obtain e|e:=c.ft j e
 exact .inl (.inr (.inl e));exact .inr e;exact .inl (.inr (.inr e));obtain a|a|a:=i D e
 exact h.nD a;have:=h.dl;omega;exact a.2.1 rfl
theorem kx.app(h:kx w0 base sb D v0 x v5 W cs v els){f m:World}(p:W.grownBy f none){e:El}(w:W.heap.size<=e.1)(q:f.heap[e.1]?=some (.cells (bv e.2).toArray 5 (0,0)))(r:∀y∈e.2,W8 y){k:Value}(s:eO m w0.heap.size k (els++[e]))(g:f.grownBy m v5.ownBlock)(c:k.ownBlock=v5.ownBlock\/k.ownBlock=some f.heap.size):kx w0 base sb D v0 {x with l:=x.l++[e.2]} k m cs v (els++[e]):=by
 have b:=h.gb p;have z:=h.dM.aw.size;have A:=h.dl;have t:gP f w0.heap.size [e]:=⟨λy d=>by rw[cS.1 d];exact⟨by omega,r,q⟩,List.pairwise_singleton _ _⟩
 have u:=b.ls.app t (λi=>by have:=nM h.side.bq i;omega) (λe1=>by have:=(h.ls.own.lt _ e1).2;omega) (λa i e1=>by have:=h.ls.at_.lt i;omega) (λj i=>nM b.side.bq i) s g c;refine⟨b.side.other (av.of g) (λj _ e1=>b.ls.a5 j e1),⟨?_,b.dM.ft,b.dM.ar⟩,b.due.step (av.of g) (λe1=>b.n5 e1) (λj n e1=>.inr (.inr e1)) (λj n=>?_),b.nD,bY b.dl g.size,u,λe1=>?_,λy d=>?_,by rw[mO,h.el];rfl⟩
 exact(b.dM.aw.trans (av.of g)).mono (λj n e1=>e1.elim id (λe1=>by have:=(b.ls.own.lt j e1).1;omega));obtain e1|e1|e1:=n
 exact .inl (.inl e1);exact .inl (.inr (.inl e1));obtain c|c:=c
 rw[c]at e1;exact .inl (.inr (.inr e1));rw[c]at e1;have:=aO e1;exact .inr (by omega);obtain c|c:=c
 rw[c]at e1;exact h.n5 e1;rw[c]at e1;have:=aO e1;have:=b.dl;omega;obtain d|d:=bQ.1 d
 exact h.ne y d;rw[cS.1 d];omega
end
theorem il.low{b2:Nat}{l:List Pc}(h:il w n x l)(d:b2<=n):il w b2 x l:=by
 obtain⟨h0,b,a⟩:=h;refine⟨h0,b,?_⟩
 obtain a|⟨g,cap,cur,e1,e2,c⟩:=a
 exact .inl a;exact .inr ⟨g,cap,cur,e1,by omega,c⟩
def vQ(w:World)(g sb:Nat)(v:aU)(r:Pz)(e:Ending)(b:World):Prop:=
 ∃a n c h d f,e=.returned (.slice a n c)/\bB b g sb h d r.s/\cY w.heap.size w b sb v d/\fw b w.heap.size sb d f (.slice a n c)/\f.map (·.2)=r.l
theorem fw.slice{b:List El}(h:fw W n k D b x):∃a c,x=.slice a b.length c:=by
 obtain⟨a,c,e,-⟩:=h.own.gy;exact⟨a,c,e⟩
theorem kx.post{b:aU}{x:Pz}{v:aU}{c:List El}(h:kx w k i j b x (.slice a n l) W C v c):vQ w k i b x (.returned (.slice a n l)) W:=⟨a,n,l,C,v,c,rfl,h.side,h.dM,h.ls,h.el⟩
theorem Ko(w:World)(p sb k:Nat)(cs:Array Value)(v:aU)(s:Sd)(H:bB w p sb cs v s)(U:k<4)(cC:dw s.key)
 (N:(s.out k).h.nice) (b7:(s.out k).en<=4096) (c9:0<=(s.out k).aA/\(s.out k).aA<=4096) (db:0<=(s.out k).code/\(s.out k).code<=4611686018427387903) (a3:16<=s.an/\s.an<=1000) (dk:s.aK.length<=10) (eK:0<=s.count/\s.count<=4611686018427386000) (eL:(s.out k).h.af.length+(dL v.lf k).length<=100000) (a4:jG (s.out k) (s.due k)) (b8:(s.due k).l.length<=800000):
 Calls prog 159 #[.pointer (some ⟨sb,0,none⟩),.int .i64 (k:Int)] w (vQ w p sb v (s.pieces k)):=by
 obtain⟨r,V⟩:=exq (s.pieces k);rw[<-V];obtain⟨R,O⟩:=exq (vQ w p sb v r);rw[<-O];replace O:=J O;replace V:=J V;have W:=J (Jk w p sb cs v s H k U N (by omega));have ca:0<=(s.out k).h.fr:=N.1;have dn:Hid (nh s k ⟨s,s.due k,[]⟩):=J ⟨rfl,rfl,rfl,rfl,rfl,c9,a4,by simp only;omega,dk,by simp only;omega,by simp⟩;obtain⟨du,E⟩:=exq (s.due k);rw[<-E]at W;obtain⟨de,X⟩:=exq du.e;obtain⟨dg,Y⟩:=exq du.g;rw[<-X,<-Y]at W;replace E:=J E;replace X:=J X;replace Y:=J Y;replace a4:=J a4;replace b8:=J b8;replace N:=J N;replace H:=J H;go_enter func159,ntmps159;go_wp2_with fail;refine(Z W).mono ?_;rintro e C⟨⟨a,n,c,rfl,q1,q2⟩,g1⟩;obtain⟨W2,al⟩:=exq (C.alloc (.cells #[.slice a n c,.bool de,.bool dg] 332));have g2:C.grownBy W2 none:=by rw[al];exact aH _ _ _
 have a8:W2.heap[C.heap.size]?=some (.cells #[.slice a n c,.bool de,.bool dg] 332 (0,0)):=by rw[al];exact aM _ _
 have a9:=aq g1 g2;have ds:Hid (kx w p sb C.heap.size v ⟨s,s.due k,[]⟩ (.slice none 0 0) W2 cs v []):=J (by
  have hz:=g1.size;have dx:=(aY.1 a8).1;refine⟨(Z H).ao a9,cY.ao a9,⟨a,n,c,by rw[<-Z E,<-Z X,<-Z Y];exact a8,by rw[<-Z E];exact q1.ao g2,λhl y ey=>?_⟩,λha=>by have:=nM (Z H).bq ha;omega,dx,fw.nil _ _ _ _,λe=>(by cases e),λe he=>(by cases he),rfl⟩
  rw[<-Z E]at hl;have h1:=q2 hl y ey;have h2:y.block<C.heap.size:=by subst ey;exact q1.lt hl
  refine⟨h1,λF=>?_⟩
  obtain F|F|F:=F
  omega;have:=px (Z H).bq F;omega
  ·cases F)
 have dE:w.heap.size<=C.heap.size:=g1.size;clear q1 q2 a8 W;go_upto_region 3 with fail;rw[<-al];clear al g2 a9 g1;generalize C.heap.size=D at *;go_loopg [5] (11-s.aK.length) (λg v5 wr=>∃(x:Pz)(m:Nat)(P:Array Value)(t:aU)(q:List El),nh s k x/\kx w p sb D v x v5 wr P t q/\g=11-x.s.aK.length/\11-x.s.aK.length<=m/\ly k m x=r);case atStart=>exact⟨_,11,cs,v,[],Z dn,Z ds,rfl,by omega,(Z V).symm⟩
 case round=>
  obtain⟨x,m,P,t,q,f,b,rfl,hm,hl⟩:=hrel;obtain⟨a5,c5,rfl⟩:=b.ls.slice;have Q:t.lf.length=x.s.aK.length:=by have:=fm List.length b.side.aK;rw[dA]at this;exact this.symm
  have G:=J (Hi wr sb 91 p (t.own 8) t.lf ((aX b.side.aN _).trans b.side.fl.c3) b.side.fl.of);rw[Q]at G;obtain⟨m',dG⟩:∃m',m=m'+1:=⟨m-1,by have:=f.fl;omega⟩
  have z:(if 10<=x.s.aK.length then x else if(x.load k).ps.length=0 then x.stay k else ly k m' (x.jb k))=r:=by rw[<-hl,dG];rfl
  clear hl;have ea:Hid (x.l.length<=1000):=J f.ll;by_cases ch:10<=x.s.aK.length
  ·have d1:decide (10<=(x.s.aK.length:Int))=true:=bK (by omega);rw[az ch]at z;rw[d1]at G;have bb:Hid (R (.returned (.slice a5 q.length c5)) wr):=J (by rw[Z O,<-z];exact b.post);clear z d1;replace f:=J f;replace b:=J b;replace Q:=J Q;go_wp2_with fail;refine(Z G).mono ?_;rintro e w2⟨rfl,rfl⟩;go_wp2_with fail;exact Z bb
  have d1:decide (10<=(x.s.aK.length:Int))=false:=bI (by omega);rw[ah ch]at z;rw[d1]at G;have eS:(x.s.out k).en=(s.out k).en:=by unfold Ot.en;rw[f.h]
  have bj:=J (JB wr (λj=>(Value.slice a5 q.length c5).ownBlock=some j) (λj e=>(b.ls.own.lt j e).2) p sb D w.heap.size k P t x.s x.d b.side U b.dl b.nD b.dM.aw.size b.due f.lW (by have:=f.dl;omega) (by rw[f.h];exact Z N) (by omega) f.aA (by rw[f.code];exact db) (by rw[f.an];exact a3) (x.load k) rfl);clear d1;replace f:=J f;replace b:=J b;replace Q:=J Q;replace z:=J z;replace hm:=J hm;go_wp2_with fail;refine(Z G).mono ?_;rintro e w2⟨rfl,rfl⟩;go_wp2_with fail;refine(Z bj).mono ?_;rintro e w3⟨a6,n6,c6,a7,n7,c7,ee,v3,rfl,i,ax⟩;have A:=(Z b).Km dE i ax;have I:n7=(x.load k).ps.length:=by
   obtain⟨a',c',e'⟩:=i.ps.slice;exact(jg e').2.1
  by_cases h0:(x.load k).ps.length=0
  ·have B:=Z z;rw[az h0]at B;have e0:((n7:Int)==0)=true:=by rw[I,h0];rfl
   have bb:Hid (R (.returned (.slice a5 q.length c5)) w3):=J (by rw[Z O,<-B];exact A.post);clear B ax bj;replace i:=J i;replace A:=J A;replace I:=J I;replace h0:=J h0;go_wp2_with fail;exact Z bb
  have B:=Z z;rw[ah h0]at B;have e0:((n7:Int)==0)=false:=by rw[I];simpa using h0
  have br:=(Z f).bn;have eg:=J ((Z f).jb U a3 ca b7 (by omega));have bt:=J (Kk w3 p sb w.heap.size k ee v3 _ A.side A.dM.aw.size a7 n7 c7 (x.load k).ps (i.ps.low (Z b).dM.aw.size) i.a7 (by simp only;omega) (by have:=(Z f).fl;simp only;omega));simp only at bt;replace B:=J B;replace i:=J i;replace ax:=J ax;replace A:=J A;replace I:=J I;replace h0:=J h0;replace br:=J br;clear bj G;go_wp2_with fail;refine(Z bt).mono ?_;rintro e w4⟨rfl,ei,v4,K,aC,bx⟩;have S:=(Z A).Kn K aC (λj ha=>by
   obtain h|h|h:=bx j ha
   exact .inl h;exact .inr (.inl h)
   ·have h1:=((Z i).ps.lt j h).1;refine .inr (.inr ⟨λe=>by have:=((Z b).ls.own.lt j e).2;omega,by have:=(Z b).dl;omega,λe he e2=>by have:=(Z b).ls.at_.lt he;omega⟩))
  have bz:bF w4 a6 n6 c6 (x.load k).fr:=((Z i).fr.aw aC.aw (λj e h=>(Z i).a6 j e (.inl h))).gI;have bM:∀y∈(x.load k).fr,W8 y:=(Z i).fr.1;have b0:=(Z f).ld U a3 ca b7;have e3:(x.load k).fr.length<=1000:=by have:=b0.fl;have:=(Z f).an;omega
  have a0:dw x.s.key:=by rw[(Z f).key];exact cC
  have cj:=J (yD w4 sb x.s.key x.s.first a0 (K.qu a0) ((aX K.aN _).trans K.ij) x.s.count (by have:=Z br;unfold aV;omega) a6 n6 c6 (x.load k).fr bz (by omega));clear bt;replace K:=J K;replace aC:=J aC;replace bx:=J bx;replace S:=J S;replace bz:=J bz;replace b0:=J b0;replace bM:=J bM;replace a0:=J a0;go_wp2_with fail;refine(Z cj).mono ?_;rintro e w5⟨g,rfl,hg,b3,g5⟩;clear cj;obtain⟨L,hL⟩:=exq ((x.load k).fr.length+16);rw[<-hL];obtain⟨bs,M⟩:=exq (dm x.s.key (aS x.s.first) x.s.count (x.load k).fr);rw[<-M]at b3;have b4:bs.length=L:=by rw[M,pK,hL]
  have cp:∀y∈bs,W8 y:=by rw[M];exact vP (Z bM)
  obtain⟨W6,a1⟩:=exq (w5.alloc (.cells #[.slice (some ⟨g,0,none⟩) L L] 112));have g6:w5.grownBy W6 none:=by rw[a1];exact aH _ _ _
  have cv:W6.heap[w5.heap.size]?=some (.cells #[.slice (some ⟨g,0,none⟩) L L] 112 (0,0)):=by rw[a1];exact aM _ _
  have b5:=aq g5 g6;have b6:=(Z S).gb b5;have cw:q.length+[(g,bs)].length<=100000000:=by
   have h1:q.length=x.l.length:=by have:=fm List.length (Z S).el;rw[dA]at this;exact this
   have h2:=Z ea;simp only[dq,fB]
   omega
  obtain⟨ej,ek,eo,w7,a2,o7,g7,cx⟩:=yr (w:=W6) 206 w.heap.size _ q b6.ls.own ⟨w5.heap.size,0,none⟩ 1 [(g,bs)] (λj u hj=>by
   have ew:j=0:=by have:=(kF.1 hj).1;simpa using this
   subst ew;have hu:u=jX (g,bs):=by simpa using hj.symm
   subst hu;rw[Addr.add_mid];unfold jX;simp only[b4]
   simp[World.cell?,cv]) cw b6.dM.aw.size
  have cy:=(Z S).app (e:=(g,bs)) b5 hg (bA b3 g6) cp o7 g7 cx;have hrel:Hid (∃(T:Pz)(m2:Nat)(P:Array Value)(t:aU)(ez:List El),nh s k T/\kx w p sb D v T (.slice ej ek eo) w7 P t ez/\11-(x.s.aK.length+1)=11-T.s.aK.length/\11-T.s.aK.length<=m2/\ly k m2 T=r):=J (by
   refine⟨x.jb k,m',ei,v4,q++[(g,bs)],Z eg,?_,?_,?_,Z B⟩
   unfold Pz.jb;rw[<-M];exact cy;unfold Pz.jb;simp
   ·have:=Z hm;unfold Pz.jb;simp;omega)
  rw[a1]at a2;replace a2:=J a2;clear b6 cy cv a1 b3 o7 g7 cx cw cp b5 g6 g5 hg;replace b4:=J b4;replace M:=J M;replace hL:=J hL;go_wp2_with (at_builtin;refine pH (by rfl) 206 206 (by rfl) _ _ (by rfl) _ _ _ (by rfl) (by rfl) (Z a2) ?_);go_roundg (11-(x.s.aK.length+1));case measure=>omega
  case rel=>exact Z hrel
end
section
variable{A:Addr}{X:List Rg}{i k m:Nat}{a:Option Addr}{w:World}
theorem Kq(a:Option Addr)(n cap i:Nat)(h:i<=cap)(W:World):(Instr.slice 133 (.slice a n cap) none (some (.int .i64 (i:Int))) (some (.int .i64 (i:Int)))).run prog W=.ok (.slice a i i) W:=by
 rw[run_slice_hm W 133 a n cap (by rw[vR];exact underlying133) .i64 .i64 (i:Int) (i:Int) (by omega) (cW _) (by omega),vR,Cm];simp only[iT,sliced,nE,nG,Nat.sub_zero]
 congr 1;cases a with
 |none=>simp
 |some y=>simp[Addr.add]
theorem Kr(a:Option Addr)(n cap j:Nat)(h:j<=n)(W:World):(Instr.slice 133 (.slice a n cap) (some (.int .i64 (j:Int))) none none).run prog W=.ok (.slice (if cap=j then a else a.map (·.add (j*2))) (n-j) (cap-j)) W:=by
 rw[run_slice_l W 133 a n cap (by rw[vR];exact underlying133) .i64 (j:Int) (by omega) (by omega),vR,Cm];simp only[iT,sliced,nE]
theorem bu.Ks(h:bu w a k i X)(m:Nat)(c:m<=k):bu w a m m (X.take m):=by
 obtain⟨d,e,f,g,b⟩:=h.head m c;refine⟨d,e,aP _,by omega,?_⟩
 obtain b|b:=b
 exact .inl (by omega);exact .inr b
theorem bu.rest(h:bu w a k i X)(m:Nat)(c:m<=k):bu w (if i=m then a else a.map (·.add (m*2))) (k-m) (i-m) (X.drop m):=by
 refine h.back m c ?_;by_cases d:i=m;left;omega;right;obtain⟨-,-,e,-,f|⟨b,o,rfl,-⟩⟩:=h;omega;exact⟨b,o,rfl,by rw[ah d];simp[Addr.add_mid]⟩
theorem Ku(h:(if k=m then a else a.map (·.add (m*2)))=some A):∃z,a=some z/\z.block=A.block:=by
 split at h;exact⟨A,h,rfl⟩
 cases a with
 |none=>cases h
 |some z=>
  refine⟨z,rfl,?_⟩
  simp only[rD,mf]at h;rw[<-h];unfold Addr.add;split<;>rfl
theorem Co(h:iI X)(m:Nat)(b:m<X.length):iI (X.drop m):=by
 have e:∀i,au (X.drop m) i=au X (m+i):=λi=>by simp[au,List.getD,kG]
 refine⟨by rw[dF];omega,λi hi=>?_⟩
 rw[dF]at hi;have a:=h.2 (m+i) (by omega);unfold mT at a⊢;rw[e,e];refine⟨a.1,a.2.1,λh0=>?_⟩
 have:=a.2.2 (by omega);rw[show m+(i-1)=m+i-1 by omega];exact this
theorem Cp(L:List Rg)(k i:Nat)(b:k<=L.length)(hi:i<k):au (fG L k) i=⟨(au L (L.length-1-i)).lo,(au L (L.length-1-i)).hi-1⟩:=by
 induction k with
 |zero=>omega
 |succ k a=>
  unfold fG;by_cases h:i<k;rw[<-a (by omega) h];simp only[au,List.getD]
  rw[mc (by rw[lU];exact h)];obtain rfl:i=k:=by omega
  simp only[au,List.getD]
  rw[jz (by rw[lU];omega),lU,rE];rfl
theorem Cq(L:List Rg)(h:bh L)(h0:0<L.length)(b:∀r∈L,0<=r.lo/\r.hi<=4611686018427387904):iI (fG L L.length):=by
 refine⟨by rw[lU];exact h0,λi hi=>?_⟩
 rw[lU]at hi;have a:=oZ (X:=L) (i:=L.length-1-i) (by omega);have c:=h.2 _ a;have d:=b _ a;unfold mT;rw[Cp L _ i (aP _) hi];simp only
 refine⟨by omega,by omega,λe=>?_⟩
 rw[Cp L _ (i-1) (aP _) (by omega)];simp only
 have f:=h.lt (i:=L.length-1-i) (k:=L.length-1-(i-1)) (by omega) (by omega);omega
theorem Cs(w:World)(l sb:Nat)(cs:Array Value)(v:aU)(s:Sd)(H:bB w l sb cs v s)(m:0<=s.count/\s.count<=4611686018427387903):
 Calls prog 205 #[.pointer (some ⟨sb,91,none⟩)] w λr b=>r=.returned (.int .u64 s.count)/\w.grownBy b (some sb)/\bB b l sb (cs.setIfInBounds 91 (.int .u64 (s.count+1))) v {s with count:=s.count+1}:=by
 refine(AL w sb 91 cs _ s.count H.aN H.fl.c0 m).mono ?_;rintro r b⟨rfl,g,p⟩;refine⟨rfl,g,?_⟩
 have z:(95:Nat)<cs.size:=by rw[H.sz];omega
 have a:∀i,i≠91->(cs.setIfInBounds 91 (.int .u64 (s.count+1)))[i]?=cs[i]? :=λi h=>bC (by omega)
 have C:av w b (λk=>k=sb):=(av.of g).mono (λk _ e=>(aO e).symm);have d:∀j,j=sb->cg sb v j:=λj h=>.inl h
 refine⟨p,by simp[H.sz],(a 0 (by omega)).trans H.c0,(a 1 (by omega)).trans H.c1,λi hi=>(a _ (by omega)).trans (H.key i hi),(a 18 (by omega)).trans H.ij,λj f=>?_,λj f=>?_,?_,H.aK,H.lost,(a 96 (by omega)).trans H.nN,?_,(a 97 (by omega)).trans H.oF,(a 98 (by omega)).trans H.kO,(a 99 (by omega)).trans H.dC,(a 100 (by omega)).trans H.py,?_,bD H.aG g.size⟩
 exact H.tC C d j f (λi q t=>a i (by omega)) (λk e h=>H.bq.gO j (by omega) (h▸e));exact H.tD C d j f (λi q t=>a i (by omega)) (λk e h=>H.bq.gO (4+j) (by omega) (h▸e));exact⟨cB (by omega),(a _ (by omega)).trans H.fl.c1,(a _ (by omega)).trans H.fl.c2,(a _ (by omega)).trans H.fl.c3,(a _ (by omega)).trans H.fl.c4,H.fl.of.aw C (λk e h=>H.bq.gO 8 (by omega) (h▸e)),H.fl.ol.aw C (λk e h=>H.bq.gO 9 (by omega) (h▸e))⟩
 exact pt H.nP C (λy n c e=>⟨λh=>(H.bq.dK 8 (by omega) y n c e).1 (d _ h),(H.bq.dK 8 (by omega) y n c e).2⟩);have G:=H.bq;refine⟨bY G.ig C.size,λi hi k e=>bY (G.lt i hi k e) C.size,G.gO,G.sep,λi hi y n c e=>⟨(G.dK i hi y n c e).1,bY (G.dK i hi y n c e).2 C.size⟩,G.fN.aw C (λk _ e=>.inl e)⟩
structure Ak where
 s:Sd
 rest:List Rg
 l:List (List Int)
def bV(l:List Rg):Fr:=⟨3,0,0,0,false,⟨#[]⟩,l⟩
def Ak.n(x:Ak):Nat:=j6 x.rest (x.s.an-16) x.rest.length
def Ak.step(x:Ak):Ak:=⟨{x.s with count:=x.s.count+1},x.rest.drop x.n,x.l++[dm x.s.key (aS x.s.first) x.s.count (bw [bV (x.rest.take x.n)])]⟩
def mq:Nat->Ak->Ak
 |0,x=>x
 |m+1,x=>if x.rest.length=0 then x else mq m x.step
def Sd.fW(s:Sd):Ak:=if s.eG then mq 10 ⟨{s with eG:=false},fG s.af s.af.length,[]⟩else⟨s,[],[]⟩
structure iq(w0:World)(base sb:Nat)(v0 v:aU)(x:Ak)(v3:Value)(a:Option Addr)(n c:Nat)(W:World)(cs:Array Value)(els:List El):Prop where
 side:bB W base sb cs v x.s
 dM:cY w0.heap.size w0 W sb v0 v
 ls:fw W w0.heap.size sb v els v3
 el:els.map (·.2)=x.l
 rs:bu W a n c x.rest
 ra:x.rest≠[]->∀y,a=some y->w0.heap.size<=y.block/\v3.ownBlock≠some y.block
section
variable {w0:World} {base sb:Nat} {v0 v:aU} {x:Ak} {v3:Value} {a:Option Addr} {n c:Nat} {W W':World} {cs:Array Value} {els:List El}
theorem iq.gb(h:iq w0 base sb v0 v x v3 a n c W cs els)(g:W.grownBy W' none):iq w0 base sb v0 v x v3 a n c W' cs els:=
 ⟨h.side.ao g,h.dM.trans (cY.ao g),h.ls.gb g,h.el,h.rs.ao g,h.ra⟩
theorem iq.num(h:iq w0 base sb v0 v x v3 a n c W cs els)(j:sb<w0.heap.size){b:Sd}{d:Array Value}(i:bB W' base sb d v b)(g:W.grownBy W' (some sb)):iq w0 base sb v0 v {x with s:=b} v3 a n c W' d els:=by
 have C:av W W' (cg sb v):=(av.of g).mono (λk _ e=>.inl (aO e).symm);refine⟨i,h.dM.trans ⟨C,λ_ h=>.inl h,λ_ h=>.inl h⟩,h.ls.next (X:=λ_=>False) (C.mono (λ_ _ h=>.inl h)) (λ_ _=>id) (λ_ _=>id) (λ_ h=>.inl h),h.el,h.rs.df (λhl y f=>g.block _ (by subst f;exact h.rs.lt hl) (λe=>by have:=(h.ra hl y f).1;have:=aO e;omega)),h.ra⟩
theorem iq.app(h:iq w0 base sb v0 v x v3 a n c W cs els){d p:World}(q:W.grownBy d none){e:El}(A:W.heap.size<=e.1)(r:d.heap[e.1]?=some (.cells (bv e.2).toArray 5 (0,0)))(s:∀y∈e.2,W8 y){m:Value}(t:eO p w0.heap.size m (els++[e]))(g:d.grownBy p v3.ownBlock)(f:m.ownBlock=v3.ownBlock\/m.ownBlock=some d.heap.size):iq w0 base sb v0 v {x with l:=x.l++[e.2]} m a n c p cs (els++[e]):=by
 have b:=h.gb q;have B:=h.dM.aw.size;have u:gP d w0.heap.size [e]:=⟨λy w=>by rw[cS.1 w];exact⟨by omega,s,r⟩,List.pairwise_singleton _ _⟩
 have z:=b.ls.app u (λk=>by have:=nM h.side.bq k;omega) (λe1=>by have:=(h.ls.own.lt _ e1).2;omega) (λa k e1=>by have:=h.ls.at_.lt k;omega) (λj k=>nM b.side.bq k) t g f;refine⟨b.side.other (av.of g) (λj _ e1=>b.ls.a5 j e1),⟨?_,b.dM.ft,b.dM.ar⟩,z,by rw[mO,h.el];rfl,b.rs.df (λhl y i=>g.block _ (by subst i;exact b.rs.lt hl) (λe1=>(b.ra hl y i).2 e1.symm)),λhl y i=>⟨(b.ra hl y i).1,λe1=>?_⟩⟩
 exact(b.dM.aw.trans (av.of g)).mono (λj C e1=>e1.elim id (λe1=>by have:=(b.ls.own.lt j e1).1;omega));obtain f|f:=f
 rw[f]at e1;exact(b.ra hl y i).2 e1;rw[f]at e1;have:=aO e1;have:y.block<d.heap.size:=by subst i;exact b.rs.lt hl
 omega
theorem iq.cut(h:iq w0 base sb v0 v x v3 a n c W cs els)(m:Nat)(b:m<=n):iq w0 base sb v0 v {x with rest:=x.rest.drop m} v3 (if c=m then a else a.map (·.add (m*2))) (n-m) (c-m) W cs els:=
 ⟨h.side,h.dM,h.ls,h.el,h.rs.rest m b,λhl y d=>by
  obtain⟨z,f,e⟩:=Ku d;rw[<-e];exact h.ra (λe0=>hl (by simp only;rw[e0,List.drop_nil])) z f⟩
end
def vS(w0:World)(base sb:Nat)(v0 v:aU)(x:Ak)(a:Option Addr)(n c:Nat)(v3:Value)(W:World):Prop:=∃cs els,iq w0 base sb v0 v x v3 a n c W cs els
theorem Ct{w0:World}{base sb:Nat}{v0 v:aU}{x:Ak}{v3:Value}{a:Option Addr}{n c:Nat}{p m b:World}{cs:Array Value}{els:List El}(q:iq w0 base sb v0 v x v3 a n c p cs els){l:List Int}{num:Int}{key:List Int}{f:Bool}(r:p.grownBy m none)(C:m.grownBy b none){g:Nat}(D:m.heap.size<=g)(E:b.heap[g]?=some (.cells (bv (dm key (aS f) num l)).toArray 5 (0,0)))(F:∀y∈l,W8 y)(hl:els.length<=1000):
 ∃h i k d,(Builtin.append_ #[206,206] 206 #[v3,.slice (some ⟨b.heap.size,0,none⟩) 1 1]).run prog (b.alloc (.cells #[.slice (some ⟨g,0,none⟩) (l.length+16) (l.length+16)] 112))=.ok (.slice h i k) d/\vS w0 base sb v0 v {x with l:=x.l++[dm key (aS f) num l]} a n c (.slice h i k) d/\(b.alloc (.cells #[.slice (some ⟨g,0,none⟩) (l.length+16) (l.length+16)] 112)).grownBy d v3.ownBlock:=by
 have G:(b.alloc (.cells #[.slice (some ⟨g,0,none⟩) (l.length+16) (l.length+16)] 112)).heap[b.heap.size]?=some (.cells #[.slice (some ⟨g,0,none⟩) (l.length+16) (l.length+16)] 112 (0,0)):=aM _ _;have s:b.grownBy (b.alloc (.cells #[.slice (some ⟨g,0,none⟩) (l.length+16) (l.length+16)] 112)) none:=aH _ _ _;generalize b.alloc (.cells #[.slice (some ⟨g,0,none⟩) (l.length+16) (l.length+16)] 112)=H at *;have t:=aq r (aq C s);have z:=q.gb t;obtain⟨h,i,k,d,I,o,A,K⟩:=yr (w:=H) 206 w0.heap.size v3 els z.ls.own ⟨b.heap.size,0,none⟩ 1 [(g,dm key (aS f) num l)] (λj u B=>by
  have L:j=0:=by have:=(kF.1 B).1;simpa using this
  subst L;have M:u=jX (g,dm key (aS f) num l):=by simpa using B.symm
  subst M;rw[Addr.add_mid];unfold jX;simp only[pK]
  simp[World.cell?,G]) (by simp only[dq,fB];omega) z.dM.aw.size
 exact⟨h,i,k,d,I,⟨_,_,q.app (e:=(g,dm key (aS f) num l)) t (bD r.size D) (bA E s) (vP F) o A K⟩,A⟩
structure vT(s0:Sd)(x:Ak):Prop where
 an:x.s.an=s0.an
 key:x.s.key=s0.key
 sr:x.rest≠[]->iI x.rest
 rl:x.rest.length<=8
 bn:0<=x.s.count/\x.s.count+x.rest.length<=4611686018427387000
 ll:x.l.length+x.rest.length<=8
theorem Kv(l:List Rg)(a:Int)(m:Nat):j6 l a m<=m:=by
 induction m with
 |zero=>exact aP _
 |succ m b=>unfold j6;split<;>omega
def Cu(w:World)(base sb:Nat)(v:aU)(r:Ak)(e:Ending)(b:World):Prop:=
 ∃a n c f d els,e=.returned (.slice a n c)/\bB b base sb f d r.s/\cY w.heap.size w b sb v d/\fw b w.heap.size sb d els (.slice a n c)/\els.map (·.2)=r.l
theorem Kw{w:World}{a:Option Addr}{n c:Nat}{l:List Rg}(h:bu w a n c l)(b:iI l)(hl:l.length<=8):dr w (bV l) (.slice a n c)/\cU (bV l)/\fL [bV l]<=30000000:=by
 have d:=h.2.1;subst d;refine⟨⟨⟨by simp[dz,bV],by simp[dz,bV],by simp[aV,bV],by simp[aV,bV],h.1⟩,by simp[bV,ByteArray.size],a,c,rfl,h⟩,⟨⟨by simp[bV],by simp[bV],by simp[bV],by simp[bV]⟩,⟨λ_=>b,λe=>by simp[bV]at e⟩,by simp[bV],by simp[bV]⟩,?_⟩
 simp[fL,lL,bV,ByteArray.size];omega
theorem Kx(w:World)(base sb:Nat)(cs:Array Value)(v:aU)(s:Sd)(H:bB w base sb cs v s)(eK:dw s.key)(fy:56<=s.an/\s.an<=1000)(fA:0<=s.count/\s.count<=4611686018427386000)(eL:s.af.length<=8)(S:bh s.af)(T:∀r∈s.af,0<=r.lo/\r.hi<=4611686018427387904):
 Calls prog 158 #[.pointer (some ⟨sb,0,none⟩)] w (Cu w base sb v s.fW):=by
 obtain⟨r,d⟩:=exq s.fW;rw[<-d];obtain⟨R,M⟩:=exq (Cu w base sb v r);rw[<-M];replace M:=J M;have d98:=(aX H.aN _).trans H.kO;unfold Sd.fW at d;cases ho:s.eG
 ·rw[ho]at d98 d;simp only[gm,fR]at d;have bt:Hid (R (.returned (.slice none 0 0)) w):=J (by
   rw[Z M,d];exact⟨none,0,0,cs,v,[],rfl,H,cY.rfl' _ _ _ _,fw.nil _ _ _ _,rfl⟩)
  clear d;replace H:=J H;go_enter func158,ntmps158;go_wp2_with fail;exact Z bt
 rw[ho]at d98 d;simp only[eX]at d;have f98:w.frozen? ⟨sb,98,none⟩=false:=by simp[World.frozen?,H.aN]
 obtain⟨U,V⟩:=exq (w.setCell ⟨sb,98,none⟩ (.bool false));have g1:w.grownBy U (some sb):=by rw[V];exact aI (aB _ _) _ _ (.inr rfl)
 have bx:U.heap[sb]?=some (.cells (cs.setIfInBounds 98 (.bool false)) 241 (0,0)):=by rw[V];exact heap_set H.aN _
 have eS:(98:Nat)<cs.size:=by rw[H.sz];omega
 have H1:dO w.heap.size w base sb v {s with af:=s.af,floor:=s.floor,eG:=false} U:=H.AQ (v.set 8) s.af s.floor false bx (by simp) (λi hi=>bC (by omega)) (by rw[bC (by omega)];exact H.nN) (by rw[bC (by omega)];exact H.oF) (cB eS) ((av.of g1).mono (λk _ e=>(aO e).symm)) (pt H.nP ((av.of g1).mono (λk _ e=>(aO e).symm)) (λy n c e=>⟨λh=>(H.bq.dK 8 (by omega) y n c e).1 (.inl h),(H.bq.dK 8 (by omega) y n c e).2⟩)) (.inl rfl);obtain⟨db,t,G,de⟩:=H1;have e3:=H.bq.ig;obtain⟨ca,cn,cc,bz,X⟩:=G.nP;have d96:=(aX G.aN _).trans G.nN;rw[bz]at d96;have bM:∀r∈s.af,1<=r.hi:=λr d=>by have:=S.2 r d;have:=T r d;omega
 have dg:=J (I2 U sb 96 ca cn cc s.af d96 X bM (by have ga:cn=s.af.length:=X.2.1;omega));have dk:Hid (vT s ⟨{s with eG:=false},fG s.af s.af.length,[]⟩):=J ⟨rfl,rfl,λA=>Cq _ S (by
  obtain h|h:=Nat.eq_zero_or_pos s.af.length
  exact absurd (iF (by rw[lU];exact h)) A
  ·exact h) T,by simp only[lU];exact eL,by simp only[lU];omega,by simp only[lU,fB];omega⟩
 replace S:=J S;replace T:=J T;replace bM:=J bM;replace d:=J d;replace H:=J H;replace G:=J G;replace bx:=J bx;replace X:=J X;replace bz:=J bz;clear g1;go_enter func158,ntmps158;go_upto_region 4 with fail;rw[<-V];clear V d98 f98;go_wp2_with fail;refine(Z dg).mono ?_;rintro e w2⟨rv,rfl,Y,g2⟩;obtain⟨ra,rc,rfl⟩:∃ra rc,rv=.slice ra (fG s.af s.af.length).length rc:=by
  obtain⟨-,-,⟨rfl,e2⟩|⟨g,cap,gd,rfl,_⟩⟩:=id Y;exact⟨none,0,by rw[e2]⟩
  exact⟨_,_,rfl⟩
 have dn:Hid (iq w base sb v t ⟨{s with eG:=false},fG s.af s.af.length,[]⟩ (.slice none 0 0) ra (fG s.af s.af.length).length rc w2 db []):=J ⟨(Z G).ao g2,de.trans (cY.ao g2),fw.nil _ _ _ _,rfl,Y.mV.1,λ_ y ey=>⟨by have:=Y.mV.2 y ey;have:=de.aw.size;omega,λe=>by cases e⟩⟩;clear dg Y g2;have al:=lU s.af s.af.length;obtain⟨rl,b0⟩:=exq (fG s.af s.af.length);rw[<-b0]at dn dk d al;rw[<-b0];clear b0;replace al:=J al;go_upto_region 6 with fail;go_loopg [3,4] rl.length (λg v3 v4 wr=>∃(x:Ak)(m:Nat)(ax:Array Value)(els:List El)(a:Option Addr)(c:Nat),v4=.slice a x.rest.length c/\vT s x/\iq w base sb v t x v3 a x.rest.length c wr ax els/\g=x.rest.length/\x.rest.length+1<=m/\mq m x=r);case atStart=>exact⟨_,10,db,[],ra,rc,rfl,Z dk,Z dn,rfl,by have:=Z al;simp only;omega,(Z d).symm⟩
 case round=>
  obtain⟨x,m,ax,els,a,c,rfl,f,b,rfl,b3,hl⟩:=hrel;obtain⟨m',e4⟩:∃m',m=m'+1:=⟨m-1,by omega⟩
  have C:(if x.rest.length=0 then x else mq m' x.step)=r:=by rw[<-hl,e4];rfl
  obtain⟨I,c3,rfl⟩:=b.ls.slice;by_cases h0:x.rest.length=0
  ·rw[az h0]at C;have bt:Hid (R (.returned (.slice I els.length c3)) wr):=J (by rw[Z M,<-C];exact⟨I,_,c3,ax,t,els,rfl,b.side,b.dM,b.ls,b.el⟩);have d0:decide (0<x.rest.length)=false:=bI (by omega);clear C hl;replace f:=J f;replace b:=J b;replace h0:=J h0;go_wp2_with fail;exact Z bt
  rw[ah h0]at C;have d0:decide (0<x.rest.length)=true:=bK (by omega);have A:x.rest≠[]:=λe=>h0 (by rw[e];rfl)
  have gf:=f.rl;have b4:x.s.an=s.an:=f.an;have ds:=J (BO wr sb x.s.an ((aX b.side.aN _).trans b.side.c0) (by omega));have du:=J (λW(g:wr.grownBy W none)=>Kp W a x.rest.length c x.rest (b.rs.ao g) (f.sr A) (by omega) (x.s.an-16) (by omega));have gg:x.rest.length<=c:=b.rs.2.2.1;replace b4:=J b4;replace f:=J f;replace b:=J b;replace C:=J C;replace hl:=J hl;replace A:=J A;replace b3:=J b3;go_wp2_with fail;refine(Z ds).mono ?_;rintro e w3⟨rfl,g3⟩;go_wp2_with fail;refine(Z du _ g3).mono ?_;rintro e N⟨⟨q,rfl,hq,gh,aC,b5⟩,g4⟩;have a0:q=x.n:=hq;have gi:∀W,(Instr.slice 133 (.slice a x.rest.length c) none (some (.int .i64 (q:Int))) (some (.int .i64 (q:Int)))).run prog W=.ok (.slice a q q) W:=λW=>Kq a _ c q (by omega) W
  obtain⟨O,a1⟩:=exq (N.alloc (.cells #[.int .i64 3,.int .i64 0,.int .u64 0,.int .u64 0,.bool false,.string ⟨#[]⟩,.slice a q q] 158));have g5:N.grownBy O none:=by rw[a1];exact aH _ _ _
  have a2:O.heap[N.heap.size]?=some (.cells #[.int .i64 3,.int .i64 0,.int .u64 0,.int .u64 0,.bool false,.string ⟨#[]⟩,.slice a q q] 158 (0,0)):=by rw[a1];exact aM _ _
  have e5:=aq g3 (aq g4 g5);have P:=(Z b).gb e5;clear ds du hq e3;replace b5:=J b5;replace a0:=J a0;replace a2:=J a2;replace P:=J P;go_upto_region 9 with fail;rw[<-a1];clear a1;have b6:sb<w.heap.size:=(Z H).bq.ig;have dx:N.heap.size≠sb:=by have:=(Z P).dM.aw.size;have:=(Z b).dM.aw.size;have:=g3.size;have:=g4.size;omega
  obtain⟨F,hF⟩:=exq N.heap.size;rw[<-hF]at a2 dx;rw[<-hF];have e6:Hid ((Value.slice I els.length c3).ownBlock≠some F):=J (λe=>by have:=((Z b).ls.own.lt F e).2;have:=g3.size;have:=g4.size;omega);clear hF;have k0:∀W:World,W.heap[F]?=some (.cells #[.int .i64 3,.int .i64 0,.int .u64 0,.int .u64 0,.bool false,.string ⟨#[]⟩,.slice a q q] 158 (0,0))->W.cell? ⟨F,0,none⟩=some (.int .i64 3):=λW h=>(cH h).1
  have k1:∀W:World,W.heap[F]?=some (.cells #[.int .i64 3,.int .i64 0,.int .u64 0,.int .u64 0,.bool false,.string ⟨#[]⟩,.slice a q q] 158 (0,0))->W.cell? ⟨F,1,none⟩=some (.int .i64 0):=λW h=>(cH h).2.1
  have k2:∀W:World,W.heap[F]?=some (.cells #[.int .i64 3,.int .i64 0,.int .u64 0,.int .u64 0,.bool false,.string ⟨#[]⟩,.slice a q q] 158 (0,0))->W.cell? ⟨F,2,none⟩=some (.int .u64 0):=λW h=>(cH h).2.2.1
  have k3:∀W:World,W.heap[F]?=some (.cells #[.int .i64 3,.int .i64 0,.int .u64 0,.int .u64 0,.bool false,.string ⟨#[]⟩,.slice a q q] 158 (0,0))->W.cell? ⟨F,3,none⟩=some (.int .u64 0):=λW h=>(cH h).2.2.2.1
  have k4:∀W:World,W.heap[F]?=some (.cells #[.int .i64 3,.int .i64 0,.int .u64 0,.int .u64 0,.bool false,.string ⟨#[]⟩,.slice a q q] 158 (0,0))->W.cell? ⟨F,4,none⟩=some (.bool false):=λW h=>(cH h).2.2.2.2.1
  have k5:∀W:World,W.heap[F]?=some (.cells #[.int .i64 3,.int .i64 0,.int .u64 0,.int .u64 0,.bool false,.string ⟨#[]⟩,.slice a q q] 158 (0,0))->W.cell? ⟨F,5,none⟩=some (.string ⟨#[]⟩):=λW h=>(cH h).2.2.2.2.2.1
  have k6:∀W:World,W.heap[F]?=some (.cells #[.int .i64 3,.int .i64 0,.int .u64 0,.int .u64 0,.bool false,.string ⟨#[]⟩,.slice a q q] 158 (0,0))->W.cell? ⟨F,6,none⟩=some (.slice a q q):=λW h=>(cH h).2.2.2.2.2.2
  have dE:=(Z f).bn;have dG:=J (Cs O.drew base sb ax t x.s ((Z P).side.ao (aW (aB _ none))) (by omega));have ea:=J (λj D(S6:bB j base sb D t {x.s with count:=x.s.count+1})(g:O.drew.grownBy j (some sb))=>((Z P).gb (aW (aB _ none))).num b6 S6 g);have a3:=J (λj D(p:iq w base sb v t ⟨{x.s with count:=x.s.count+1},x.rest,x.l⟩ (.slice I els.length c3) a x.rest.length c j D els)=>by
   have b7:=Kw (p.rs.Ks q aC) (yE ((Z f).sr (Z A)) q (by omega) aC) (by rw[ct];have:=(Z f).rl;omega);exact ys j (bV (x.rest.take q)) (.slice a q q) b7.1 b7.2.1 b7.2.2)
  have a4:dw x.s.key:=by rw[(Z f).key];exact eK
  have b8:els.length<=1000:=by
   have h1:els.length=x.l.length:=by have:=fm List.length (Z b).el;rw[dA]at this;exact this
   have:=(Z f).ll;omega
  have e7:(bw [bV (x.rest.take q)]).length<=1000:=by
   have e:bw [bV (x.rest.take q)]=2::fS (x.rest.take q):=by simp[bw,da,bV]
   rw[e,dq];have:=Z b4;have:=Z b5;omega
  have ch:=J (λj z D(p:iq w base sb v t ⟨{x.s with count:=x.s.count+1},x.rest,x.l⟩ (.slice I els.length c3) a x.rest.length c j D els)(u:j.grownBy z none)(a7:Option Addr)(n7 c7:Nat)(K:bm z j.heap.size (.slice a7 n7 c7) (bw [bV (x.rest.take q)]))=>yD z sb x.s.key x.s.first a4 ((p.side.ao u).qu a4) ((aX (p.side.ao u).aN _).trans (p.side.ao u).ij) x.s.count (by unfold aV;omega) a7 n7 c7 _ K.gI (by omega));have cj:=J (λj z w8 D(p:iq w base sb v t ⟨{x.s with count:=x.s.count+1},x.rest,x.l⟩ (.slice I els.length c3) a x.rest.length c j D els)(u:j.grownBy z none)(g8:z.grownBy w8 none)(g:Nat)(hg:z.heap.size<=g)(a8:w8.heap[g]?=some (.cells (bv (dm x.s.key (aS x.s.first) x.s.count (bw [bV (x.rest.take q)]))).toArray 5 (0,0)))(hw:∀y∈bw [bV (x.rest.take q)],W8 y)=>Ct p u g8 hg a8 hw b8);obtain⟨B,hB⟩:=exq (bw [bV (x.rest.take q)]);rw[<-hB]at a3 ch cj e7;have ee:bP (bV (x.rest.take q)) (.slice a q q)= #[.int .i64 3,.int .i64 0,.int .u64 0,.int .u64 0,.bool false,.string ⟨#[]⟩,.slice a q q]:=rfl;rw[ee]at a3;clear ee;obtain⟨bb,hZ⟩:∃bb:Value->World->Prop,bb=λbj W=>∃a' n' c',bj=.slice a' n' c'/\vS w base sb v t ⟨{x.s with count:=x.s.count+1},x.rest,x.l++[dm x.s.key (aS x.s.first) x.s.count B]⟩ a x.rest.length c bj W:=⟨_,rfl⟩
  replace hZ:=J hZ;replace hB:=J hB;replace b6:=J b6;replace dE:=J dE;replace a4:=J a4;replace b8:=J b8;have br:O.drew.heap[F]?=some (.cells #[.int .i64 3,.int .i64 0,.int .u64 0,.int .u64 0,.bool false,.string ⟨#[]⟩,.slice a q q] 158 (0,0)):=Z a2;go_cut [3] (λbj wx=>bb bj wx);case first=>
   go_region_held3 (λw'=>w'.heap[F]?=some (.cells #[.int .i64 3,.int .i64 0,.int .u64 0,.int .u64 0,.bool false,.string ⟨#[]⟩,.slice a q q] 158 (0,0)))
    (first|with_reducible exact e8|with_reducible exact cp|with_reducible exact eg|with_reducible exact ei|with_reducible exact ej|with_reducible exact br)
    (first
      |(go_at_call 205;refine(Z dG).mono ?_;rintro e j⟨rfl,g6,S6⟩;have p:=J (Z ea _ _ S6 g6);have ej:=(g6.block F (aY.1 br).1 (λe=>dx (aO e))).trans br;clear S6)
      |(go_at_call 206;refine(Z a3 _ _ (Z p)).mono ?_;rintro e z⟨⟨a7,n7,c7,rfl,K⟩,u⟩;have ei:=bA ej u;have cv:=K.1;replace K:=J K;replace cv:=J cv)
      |(go_at_call 204;refine(Z ch _ _ _ (Z p) u _ _ _ (Z K)).mono ?_;rintro e w8⟨g,rfl,hg,a8,g8⟩;have eg:=bA ei g8;obtain⟨a9,n9,c9,w9,cw,ek,g9⟩:=Z cj _ _ _ _ (Z p) u g8 g hg a8 (Z cv);have cp:=bA eg (aH w8 (.cells #[.slice (some ⟨g,0,none⟩) (B.length+16) (B.length+16)] 112) none);have e8:=(g9.block F (aY.1 cp).1 (λe=>Z e6 e.symm)).trans cp;have e9:Hid (bb (.slice a9 n9 c9) w9):=J (by rw[Z hZ];exact⟨a9,n9,c9,rfl,ek⟩);clear a8 hg ek;replace cw:=J cw)
      |(refine yq (by rfl) 206 206 (by rfl) _ _ (by rfl) _ _ _ (by rfl) (by rfl) (Z cw) ?_))
   all_goals go_wp2_with fail
   all_goals go_meet
   all_goals exact Z e9
  case rest=>
   rw[Z hZ]at hcut;obtain⟨a9,n9,c9,rfl,fa,fb,eo⟩:=hcut;have ff:∀W,(Instr.slice 133 (.slice a x.rest.length c) (some (.int .i64 (q:Int))) none none).run prog W=.ok (.slice (if c=q then a else a.map (·.add (q*2))) (x.rest.length-q) (c-q)) W:=λW=>Kr a _ c q aC W
   have cx:=eo.cut q aC;have fo:Hid (vT s x.step):=J (by
    have Q:=Z f;have gj:=Q.bn;have gn:=Q.ll;have L:=Z a0;refine⟨Q.an,Q.key,λh=>?_,?_,?_,?_⟩
    unfold Ak.step at h⊢;simp only at h⊢;rw[<-L]at h⊢;exact Co (Q.sr (Z A)) q (by
     obtain h1|h1:=Nat.lt_or_ge q x.rest.length
     exact h1
     ·exact absurd (uA h1) h)
    unfold Ak.step;simp only[dF,<-L];omega;unfold Ak.step;simp only[dF,<-L];omega
    ·unfold Ak.step;simp only[dF,<-L,bH,dq,fB];omega)
   obtain⟨ew,cy⟩:=exq ((if c=q then a else a.map (·.add (q*2))));rw[<-cy]at ff cx;have hrel:Hid (∃(E:Ak)(m2:Nat)(fq:Array Value)(fs:List El)(a':Option Addr)(c':Nat),(Value.slice ew (x.rest.length-q) (c-q))=.slice a' E.rest.length c'/\vT s E/\iq w base sb v t E (.slice a9 n9 c9) a' E.rest.length c' wc fq fs/\x.rest.length-q=E.rest.length/\E.rest.length+1<=m2/\mq m2 E=r):=J (by
    have L:=Z a0;have ez:x.step=⟨{x.s with count:=x.s.count+1},x.rest.drop q,x.l++[dm x.s.key (aS x.s.first) x.s.count B]⟩:=by
     unfold Ak.step;rw[<-L,Z hB]
    have cC:x.step.rest.length=x.rest.length-q:=by rw[ez];simp
    refine⟨x.step,m',fa,fb,ew,c-q,by rw[cC],Z fo,?_,cC.symm,?_,Z C⟩
    rw[cC,ez];exact cx
    ·have:=Z b3;omega)
   clear eo cx dG ea a3 ch cj k0 k1 k2 k3 k4 k5 k6 br;replace cy:=J cy;go_wp2_with fail;go_roundg (x.rest.length-q);case measure=>omega
   case rel=>exact Z hrel
end
