import Derived.Test.YtjnmokmchdfchaaGreatDoorZWa
import Derived.Test.YtjnmokmchdfchaaGreatDoorZWe
import Derived.Test.YtjnmokmchdfchaaGreatDoorZWg
import Derived.Test.YtjnmokmchdfchaaGreatDoorZWi
set_option maxRecDepth 1000000
set_option maxHeartbeats 0
set_option linter.all false
namespace Go.Proofs.YtjnmokmchdfchaaGreatDoor
open Go.RowKit Tryz
attribute[local go_sem↓]Go.wp_at_zero Go.wp_at_succ
section
variable{C c:Array Value}{p r:Int}{L:List Int}{b i j k l n:Nat}{P S:Nat->Prop}{a:Option Addr}{d:Ot}{U:Rg}{X:Sd}{T:TypeId}{x y z:Value}{V W w:World}{D:aQ}
def Ot.next(o:Ot)(d:Du)(a:Int):Pc×Bool:=
 if o.sG then(⟨⟨0,0⟩,d.e,d.g⟩,d.g&&decide (2+bZ o.code+bZ o.aE<=a))else o.fV d.l d.e a
def Ot.cX(o:Ot)(k:Nat)(p:Pc):Fr:=
 if p.g then⟨4,k,o.aE,o.code,false,⟨#[]⟩,[]⟩
 else⟨5,k,p.x.lo,0,p.e,strOfNums ((o.h.bytes.drop (p.x.lo-o.h.fr).toNat).take (p.x.hi-p.x.lo).toNat),[]⟩
def Ot.jF(o:Ot)(p:Pc):Ot:=if p.g then o else{o with aE:=max o.aE p.x.hi}
structure Ld where
 o:Ot
 d:Du
 fr:List Int
 ps:List Pc
def Ld.step(x:Ld)(k:Nat)(p:Pc):Ld:=⟨x.o.jF p,x.d.leave p,x.fr++bu [x.o.cX k p],x.ps++[p]⟩
def fE(k:Nat)(a:Int):Nat->Ld->Ld
 |0,x=>x
 |n+1,x=>if(x.o.next x.d (a-x.fr.length)).2 then fE k a n (x.step k (x.o.next x.d (a-x.fr.length)).1)else x
def iQ(o:Ot)(d:Du):Prop:=aZ d.l/\∀m,Sm d.l m->o.h.fr<=m/\m<o.en
theorem iQ.mem{o:Ot}{d:Du}(h:iQ o d)(a:U∈d.l):o.h.fr<=U.lo/\U.lo<U.hi/\U.hi<=o.en:=by
 have b:=h.1.2 U a;have c:=h.2 U.lo ⟨U,a,fI _,b⟩;have e:=h.2 (U.hi-1) ⟨U,a,by omega,by omega⟩;omega
theorem iQ.leave{o:Ot}{d:Du}(h:iQ o d)(p:Pc):iQ o (d.leave p):=⟨sA _ h.1,λm a=>h.2 m ((uw _ m).1 a).1⟩
theorem HY(h0:0<=p)(h:p<=iO r)(a:r<=1000):bZ p+p<=r:=by
 unfold iO at h;unfold bZ;split at h;rw[aM (by omega)];omega;split at h;rw[aM (by omega)];omega;split;omega;rw[aM (by omega)];omega
theorem sT{o:Ot}{d:Du}(h:iQ o d)(c:p<=1000)(a:(o.fV d.l d.e p).2=true)(f:0<=o.h.fr):
 o.h.fr<=(o.fV d.l d.e p).1.x.lo/\(o.fV d.l d.e p).1.x.lo<=(o.fV d.l d.e p).1.x.hi/\(o.fV d.l d.e p).1.x.hi<=o.en/\(o.fV d.l d.e p).1.g=false/\
  2+bZ (o.fV d.l d.e p).1.x.lo+bZ ((o.fV d.l d.e p).1.x.hi-(o.fV d.l d.e p).1.x.lo)+((o.fV d.l d.e p).1.x.hi-(o.fV d.l d.e p).1.x.lo)<=p:=by
 have j:o.h.fr<=(o.dL d.l).lo/\(o.dL d.l).lo<=(o.dL d.l).hi/\(o.dL d.l).hi<=o.en:=by
  unfold Ot.dL;split;simp only;unfold Ot.en;omega;rename_i h0;have:=h.mem (mm (Y:=d.l) (i:=0) (by omega));omega
 unfold Ot.fV at a⊢;generalize o.dL d.l=x at *;have hs:0<bZ x.lo:=by unfold bZ;split<;>(try split)<;>(try split)<;>omega
 by_cases b:iO (p-(2+bZ x.lo))<0;rw[aM b]at a;cases a;rw[ay b]at a⊢;simp only
 have:=HY (r:=p-(2+bZ x.lo)) (p:=min x.hi (x.lo+iO (p-(2+bZ x.lo)))-x.lo) (by omega) (by omega) (by omega);refine⟨by omega,by omega,by omega,trivial,by omega⟩
theorem HZ(w:World)(sb c:Nat)(ab:Option Addr)(nb cb:Nat)(ac:Option Addr)(nc cc:Nat)(o:Ot)(H:gE w sb c ab nb cb ac nc cc o.h)(T:jA w sb c o)(a:Option Addr)(n cap:Nat)(d:Du)(hs:ba w a n cap d.l)(b:Int)(i: -1000<=b/\b<=1000)(hd:iQ o d)(m:0<=o.h.fr/\o.en<=4611686018427387903):
 Calls prog 242 #[.pointer (some ⟨sb,c,none⟩),.agg #[.slice a n cap,.bool d.e,.bool d.g],.int .i64 b] w λr j=>r=.returned (.tuple #[.agg (pA (o.next d b).1),.bool (o.next d b).2])/\w.grownBy j none:=by
 unfold Ot.next;cases f:o.sG;simp only[gM,gp]
 exact Gb w sb c ab nb cb ac nc cc o H T f a n cap d.l hs d.e d.g b i (λr k=>by have:=hd.mem k;omega);simp only[fJ]
 exact Fu w sb c o T f (.slice a n cap) d.e d.g b
structure Wx(N:Nat)(w b:World)(sb:Nat)(v a:aQ)(X:Nat->Prop):Prop where
 aq:ak w b (λk=>bV sb v k\/X k)
 ft:∀k,bV sb a k->bV sb v k\/w.heap.size<=k
 ar:∀k,dQ sb a k->dQ sb v k\/N<=k
theorem Wx.of{a:aQ}(h:cP n w W k D a)(X:Nat->Prop):Wx n w W k D a X:=⟨h.aq.mono (λ_ _ h=>.inl h),h.ft,h.ar⟩
theorem Wx.rfl'(N:Nat)(w:World)(sb:Nat)(v:aQ)(X:Nat->Prop):Wx N w w sb v v X:=⟨ak.rfl' _ _,λ_ h=>.inl h,λ_ h=>.inl h⟩
theorem Wx.trans{v x:aQ}(h:Wx n w W j D v S)(k:Wx n W V j v x S):Wx n w V j D x S:=by
 refine⟨⟨k.aq.os.trans h.aq.os,k.aq.tape.trans h.aq.tape,k.aq.output.trans h.aq.output,bC h.aq.size k.aq.size,λi hi b=>?_⟩,λi hi=>?_,λi hi=>?_⟩
 rw[k.aq.block i (bK hi h.aq.size) (λc=>c.elim (λc=>(h.ft i c).elim (λe=>b (.inl e)) (by omega)) (λe=>b (.inr e)))];exact h.aq.block i hi b;obtain a|a:=k.ft i hi
 exact h.ft i a;exact .inr (bC h.aq.size a);obtain a|a:=k.ar i hi
 exact h.ar i a;exact .inr a
theorem Wx.own{v:aQ}(h:Wx n w W j D v S){r:Option Nat}(g:W.grownBy V r)(b:∀k,k<w.heap.size->r=some k->S k):Wx n w V j D v S:=by
 refine⟨⟨g.os.trans h.aq.os,g.tape.trans h.aq.tape,g.output.trans h.aq.output,bC h.aq.size g.size,λi hi a=>?_⟩,h.ft,h.ar⟩
 rw[g.block i (bK hi h.aq.size) (λe=>a (.inr (b i hi e.symm)))];exact h.aq.block i hi a
theorem Wx.dA{v c:aQ}(h:cP n W w l D v)(k:Wx n w V l v c S)(f:∀j,S j->W.heap.size<=j):cP n W V l D c:=by
 refine⟨⟨k.aq.os.trans h.aq.os,k.aq.tape.trans h.aq.tape,k.aq.output.trans h.aq.output,bC h.aq.size k.aq.size,λi hi d=>?_⟩,λi hi=>?_,λi hi=>?_⟩
 rw[k.aq.block i (bK hi h.aq.size) (λb=>b.elim (λb=>(h.ft i b).elim d (by omega)) (λe=>by have:=f i e;omega))];exact h.aq.block i hi d;obtain a|a:=k.ft i hi
 exact h.ft i a;exact .inr (bC h.aq.size a);obtain a|a:=k.ar i hi
 exact h.ar i a;exact .inr a
theorem fw.AO{d:Du}(h:fw W i j S d)(g:∀k,k<W.heap.size->P k->S k):fw W i j P d:=by
 obtain⟨a,n,c,l,e,f⟩:=h;exact⟨a,n,c,l,e,λhl y b=>⟨(f hl y b).1,λm=>(f hl y b).2 (g _ (by subst b;exact e.lt hl) m)⟩⟩
def sU(o:Ot)(p:Pc):Prop:=p.g=true\/(p.g=false/\o.h.fr<=p.x.lo/\p.x.lo<=p.x.hi/\p.x.hi<=o.en)
theorem xx{o:Ot}{d:Du}(h:iQ o d)(c:p<=1000)(a:(o.next d p).2=true)(e:0<=o.h.fr):sU o (o.next d p).1:=by
 unfold Ot.next at a⊢;cases b:o.sG;rw[b]at a;simp only[gM,gp]at a⊢;obtain⟨f,g,i,j,-⟩:=sT h c a e;exact .inr ⟨j,f,g,i⟩;rw[b]at a;simp only[fJ,ja]at a⊢;exact .inl a.1
theorem H0(l:List Int):(strOfNums l).size=l.length:=by
 have:=fj List.length (strOfNums_data l);simpa using this
theorem xz{p:Pc}(k:Nat)(hp:sU d p)(a:p.g=false):((d.cX k p).data.size:Int)=p.x.hi-p.x.lo:=by
 unfold Ot.cX;rw[a];simp only[gM,gp,H0,cC,dO]
 obtain h|⟨-,c,e,b⟩:=hp
 rw[a]at h;cases h;unfold Ot.en at b;omega
theorem AP{p:Pc}(k:Nat)(b:k<4)(hp:sU d p)(c:0<=d.h.fr/\d.en<=4096)(hs:0<=d.aE/\d.aE<=4096)(f:0<=d.code/\d.code<=4611686018427387903):dm (d.cX k p):=by
 cases a:p.g;have i:=xz k hp a;obtain h|⟨-,j,l,m⟩:=hp
 rw[a]at h;cases h;unfold dm oC pJ;have e:(d.cX k p).offset=p.x.lo/\(d.cX k p).code=0/\(d.cX k p).stream=k/\(d.cX k p).kind=5:=by unfold Ot.cX;rw[a];simp
 rw[e.1,e.2.1,e.2.2.1,e.2.2.2];refine⟨⟨by omega,by omega,by omega,by omega⟩,⟨λh=>by omega,λ_=>by omega⟩,by omega,by omega⟩
 have e:(d.cX k p).offset=d.aE/\(d.cX k p).code=d.code/\(d.cX k p).stream=k/\(d.cX k p).kind=4:=by unfold Ot.cX;rw[a];simp
 unfold dm oC pJ;rw[e.1,e.2.1,e.2.2.1,e.2.2.2];refine⟨⟨by omega,by omega,by omega,by omega⟩,⟨λh=>by omega,λh=>by omega⟩,by omega,by omega⟩
theorem H5(w:World){p:Pc}(k:Nat)(i:k<4)(hp:sU d p)(j:0<=d.h.fr/\d.en<=4096)(hs:0<=d.aE/\d.aE<=4096)(l:0<=d.code/\d.code<=4611686018427387903):cV w (d.cX k p) (.slice none 0 0)/\fk [d.cX k p]<=30000000:=by
 have b:(d.cX k p).ranges=[]:=by unfold Ot.cX;split<;>rfl
 have m:(d.cX k p).data.size<=4096:=by
  cases a:p.g;have m:=xz k hp a;obtain h|⟨-,c,e,f⟩:=hp
  rw[a]at h;cases h;omega;unfold Ot.cX;rw[a];simp only[fJ];decide
 have n:=AP k i hp j hs l;refine⟨⟨?_,by omega,none,0,by rw[b];rfl,by rw[b];exact⟨λr h=>(by cases h),rfl,aI _,by simp[maxLen],.inl rfl⟩⟩,?_⟩
 obtain⟨⟨c,e,f,q⟩,-,s,t⟩:=n;have u:0<=(d.cX k p).offset/\0<=(d.cX k p).code:=by
  unfold Ot.cX;cases a:p.g;obtain h|⟨-,c,e,f⟩:=hp
  rw[a]at h;cases h;simp;omega;simp;omega
 exact⟨by unfold gC;omega,by unfold gC;omega,by unfold aR;omega,by unfold aR;omega,λr h=>by rw[b]at h;cases h⟩
 simp only[fk,lS,b,fH];omega
theorem H7{o:Ot}{d:Du}(k:Nat)(z:k<4)(h:iQ o d)(i:p<=1000)(a:(o.next d p).2=true)(j:0<=o.h.fr):1<=(bu [o.cX k (o.next d p).1]).length/\((bu [o.cX k (o.next d p).1]).length:Int)<=p:=by
 have t:=xx h i a j;have A:bZ (k:Int)=1:=by unfold bZ;rw[aM (by omega)]
 have el:∀f,bu [f]=cZ f:=λf=>by simp[bu]
 rw[el];have c:=λn=>Fo n
 have s1:=c (k:Int);cases b:(o.next d p).1.g;have r:=xz k t b;have m:o.sG=false:=by
  unfold Ot.next at a b;cases h:o.sG;rfl;rw[h]at a b;simp only[fJ,ja]at a b;rw[b]at a;cases a.1
 have e:(o.next d p)=o.fV d.l d.e p:=by unfold Ot.next;rw[m];simp
 rw[e]at a;obtain⟨u,v,w,q,s⟩:=sT h i a j;rw[<-e]at u v w q s;have ef:(o.cX k (o.next d p).1).kind=5/\(o.cX k (o.next d p).1).stream=k/\(o.cX k (o.next d p).1).offset=(o.next d p).1.x.lo:=by unfold Ot.cX;rw[b];simp
 unfold cZ;rw[ay (by omega),ay (by omega),ay (by omega),ay (by omega),aM ef.1,ef.2.1,ef.2.2];have s2:=c (o.next d p).1.x.lo;have s3:=c ((o.cX k (o.next d p).1).data.size:Int);rw[r]at s3;have y:(bl (o.cX k (o.next d p).1).data).length=(o.cX k (o.next d p).1).data.size:=iJ _;simp only[dJ,bG,y,r]
 omega;have m:o.sG=true:=by
  unfold Ot.next at a b;cases h:o.sG;rw[h]at a b;simp only[gM,gp]at a b;obtain⟨-,-,-,q,-⟩:=sT (by assumption) i a j;rw[q]at b;cases b;rfl
 have s:2+bZ o.code+bZ o.aE<=p:=by
  unfold Ot.next at a;rw[m]at a;simp only[fJ,ja,kh]at a;exact a.2
 have ef:(o.cX k (o.next d p).1).kind=4/\(o.cX k (o.next d p).1).stream=k/\(o.cX k (o.next d p).1).offset=o.aE/\(o.cX k (o.next d p).1).code=o.code:=by unfold Ot.cX;rw[b];simp
 unfold cZ;rw[ay (by omega),ay (by omega),ay (by omega),aM ef.1,ef.2.1,ef.2.2.1,ef.2.2.2];have s2:=c o.code;have s3:=c o.aE;simp only[dJ,bG]
 omega
theorem H9(a:w.heap[n]?=some (.cells c T (0,0)))(H:fM w j c i y z d)(f:d.h.nice)(q:jT w n y z)(k:Nat)(p:Pc)(hp:sU d p):
 Calls prog 243 #[.pointer (some ⟨n,i,none⟩),.int .i64 (k:Int),.agg (pA p)] w λe b=>e=.returned (.agg (bF (d.cX k p) (.slice none 0 0)))/\mS w b n T c i j y z (d.jF p):=by
 obtain⟨x,l,s⟩:=p;cases s;obtain h|⟨-,t,u,m⟩:=hp
 cases h;simp only at t u m;unfold Ot.en at m;have v:=f;unfold Hd.nice at v;refine(Gt a H f q (k:Int) x l (x.lo-d.h.fr).toNat ((x.lo-d.h.fr).toNat+(x.hi-x.lo).toNat) (by omega) (by omega) (by omega) (by omega) (by unfold aR;omega)).mono ?_;rintro r b⟨rfl,h⟩;refine⟨?_,h⟩
 unfold Ot.cX bF;simp[rZ];refine(Gq w n i d (H.tail a) (k:Int) x l).mono ?_;rintro r b⟨rfl,g⟩;exact⟨rfl,c,y,z,qY.zG a g _ _ _,H.ah g,.inl rfl⟩
theorem uN{α:Type}(f:Nat->α)(k:Nat)(x y:α):aw (aw f k x) k y=aw f k y:=by
 funext i;unfold aw;split<;>rfl
structure gT(w:World)(base sb D k:Nat)(v:aQ)(s:Sd)(o:Ot)(fr:List Int)(ps:List Pc)(v6 v7:Value)(W:World)(cs':Array Value)(v':aQ):Prop where
 side:bg W base sb cs' v' {s with out:=aw s.out k o}
 wx:Wx w.heap.size w W sb v v' (λj=>j=D)
 a6:∀j,v6.ownBlock=some j->¬dQ sb v' j
 a7:∀j,v7.ownBlock=some j->¬dQ sb v' j
 sep:∀j,v6.ownBlock=some j->v7.ownBlock≠some j
 fr:aX W w.heap.size v6 fr
 ps:gS W w.heap.size v7 ps
def LX(Y:Nat->Prop)(D:Nat)(v6 v7:Value)(sb:Nat)(v':aQ)(j:Nat):Prop:=j=D\/v6.ownBlock=some j\/v7.ownBlock=some j\/bV sb v' j\/Y j
theorem fw.step{W W':World}{D N:Nat}{X i S:Nat->Prop}{d:Du}(h:fw W D N X d)(C:ak W W' S)(l:¬S D)(m:∀k,k<W.heap.size->S k->X k)(p:∀k,i k->X k\/W.heap.size<=k):fw W' D N i d:=by
 obtain⟨a,n,c,j,f,g⟩:=h;refine⟨a,n,c,(C.block D (aO.1 j).1 l).trans j,f.cW (λhl y b=>C.block _ (by subst b;exact f.lt hl) (λe=>(g hl y b).2 (m _ (by subst b;exact f.lt hl) e))),λhl y b=>⟨(g hl y b).1,λq=>?_⟩⟩
 have r:y.block<W.heap.size:=by subst b;exact f.lt hl
 obtain h|h:=p _ q
 exact(g hl y b).2 h;omega
section
variable {w:World} {base sb D k:Nat} {v:aQ} {s:Sd} {o:Ot} {fr:List Int} {ps:List Pc} {v6 v7:Value} {W W':World} {cs':Array Value} {v':aQ} {Y:Nat->Prop}
theorem gT.lx(h:gT w base sb D k v s o fr ps v6 v7 W cs' v')(b:D<w.heap.size)(hY:∀j,Y j->j<w.heap.size):∀j,LX Y D v6 v7 sb v' j->j<W.heap.size:=λj a=>by
 have:=h.wx.aq.size;obtain rfl|e|e|e|e:=a
 omega;exact(h.fr.lt j e).2;exact(h.ps.lt j e).2;exact oL h.side.bd e;have:=hY j e;omega
theorem gT.xA(h:gT w base sb D k v s o fr ps v6 v7 W cs' v')(b:D<w.heap.size)(a:¬dQ sb v D):¬dQ sb v' D:=λe=>(h.wx.ar D e).elim a (by omega)
theorem gT.gb(h:gT w base sb D k v s o fr ps v6 v7 W cs' v')(g:W.grownBy W' none):gT w base sb D k v s o fr ps v6 v7 W' cs' v':=
 ⟨h.side.ah g,h.wx.own g (λ_ _ e=>by cases e),h.a6,h.a7,h.sep,h.fr.ah g,h.ps.ah g⟩
theorem gT.left(h:gT w base sb D k v s o fr ps v6 v7 W cs' v')(a:D<w.heap.size)(b:¬dQ sb v D)(g:W.grownBy W' (some D)):gT w base sb D k v s o fr ps v6 v7 W' cs' v':=
 ⟨h.side.other (ak.of g) (λj _ e=>by cases e;exact h.xA a b),h.wx.own g (λj _ e=>(aJ e).symm),h.a6,h.a7,h.sep,h.fr.gb g (.inr (λe=>by have:=(h.fr.lt D e).1;omega)),h.ps.aq (ak.of g) (λj e e2=>by have:=(h.ps.lt j e).1;have:D=j:=aJ e2;omega)⟩
theorem gT.aE(h:gT w base sb D k v s o fr ps v6 v7 W cs' v')(g:Ot)(n:k<4)(p:mS W W' sb 241 cs' (19+9*k) base (v'.own k) (v'.set k) g){N:Nat}{d:Du}(q:D<w.heap.size)(r:¬dQ sb v D)(hd:fw W D N (LX Y D v6 v7 sb v') d):∃i f,gT w base sb D k v s g fr ps v6 v7 W' i f/\fw W' D N (LX Y D v6 v7 sb f) d/\ak W W' (bV sb v'):=by
 obtain⟨i,f,m,b⟩:=h.side.uF k n g p;simp only[uN]at m;have t:=h.wx.aq.size;refine⟨i,f,⟨m,h.wx.trans (Wx.of (b.mono t) _),λj e l=>?_,λj e l=>?_,h.sep,h.fr.aq b.aq (λj e c=>h.a6 j e (.inl c)),h.ps.aq b.aq (λj e c=>h.a7 j e (.inl c))⟩,hd.step b.aq (λc=>h.xA q r (.inl c)) (λj _ c=>.inr (.inr (.inr (.inl c)))) (λj u=>?_),b.aq⟩
 obtain a|a:=b.ar j l
 exact h.a6 j e a;have:=(h.fr.lt j e).2;omega;obtain a|a:=b.ar j l
 exact h.a7 j e a;have:=(h.ps.lt j e).2;omega;obtain e|e|e|e|e:=u
 exact .inl (.inl e);exact .inl (.inr (.inl e));exact .inl (.inr (.inr (.inl e)));obtain a|a:=b.ft j e
 exact .inl (.inr (.inr (.inr (.inl a))));exact .inr a;exact .inl (.inr (.inr (.inr (.inr e))))
theorem gT.Ia(h:gT w base sb D k v s o fr ps v6 v7 W cs' v'){c:List Int}{b:Value}(g:W.grownBy W' v6.ownBlock)(m:aX W' w.heap.size b c)(a:b.ownBlock=v6.ownBlock\/b.ownBlock=some W.heap.size)(n:D<w.heap.size){N:Nat}{d:Du}(hd:fw W D N (LX Y D v6 v7 sb v') d):gT w base sb D k v s o c ps b v7 W' cs' v'/\fw W' D N (LX Y D b v7 sb v') d:=by
 have p:=h.wx.aq.size;refine⟨⟨h.side.other (ak.of g) (λj _ e=>h.a6 j e),h.wx.own g (λj f e=>by have:=(h.fr.lt j e).1;omega),λj e i=>?_,h.a7,λj e l=>?_,m,h.ps.aq (ak.of g) (λj e e2=>h.sep j e2 e)⟩,hd.step (ak.of g) (λe=>by have:=(h.fr.lt D e).1;omega) (λj _ e=>.inr (.inl e)) (λj f=>?_)⟩
 obtain a|a:=a
 rw[a]at e;exact h.a6 j e i;rw[a]at e;have:=aJ e;have:=mT h.side.bd i;omega;obtain a|a:=a
 rw[a]at e;exact h.sep j e l;rw[a]at e;have:=aJ e;have:=(h.ps.lt j l).2;omega;obtain e|e|e|e|e:=f
 exact .inl (.inl e);obtain a|a:=a
 rw[a]at e;exact .inl (.inr (.inl e));rw[a]at e;have:=aJ e;exact .inr (by omega);exact .inl (.inr (.inr (.inl e)));exact .inl (.inr (.inr (.inr (.inl e))));exact .inl (.inr (.inr (.inr (.inr e))))
theorem gT.Ib(h:gT w base sb D k v s o fr ps v6 v7 W cs' v'){f:List Pc}{b:Value}(g:W.grownBy W' v7.ownBlock)(m:gS W' w.heap.size b f)(a:b.ownBlock=v7.ownBlock\/b.ownBlock=some W.heap.size)(n:D<w.heap.size){N:Nat}{d:Du}(hd:fw W D N (LX Y D v6 v7 sb v') d):gT w base sb D k v s o fr f v6 b W' cs' v'/\fw W' D N (LX Y D v6 b sb v') d:=by
 have p:=h.wx.aq.size;refine⟨⟨h.side.other (ak.of g) (λj _ e=>h.a7 j e),h.wx.own g (λj i e=>by have:=(h.ps.lt j e).1;omega),h.a6,λj e l=>?_,λj e c=>?_,h.fr.aq (ak.of g) (λj e e2=>h.sep j e e2),m⟩,hd.step (ak.of g) (λe=>by have:=(h.ps.lt D e).1;omega) (λj _ e=>.inr (.inr (.inl e))) (λj i=>?_)⟩
 obtain a|a:=a
 rw[a]at e;exact h.a7 j e l;rw[a]at e;have:=aJ e;have:=mT h.side.bd l;omega;obtain a|a:=a
 rw[a]at c;exact h.sep j e c;rw[a]at c;have:=aJ c;have:=(h.fr.lt j e).2;omega;obtain e|e|e|e|e:=i
 exact .inl (.inl e);exact .inl (.inr (.inl e));obtain a|a:=a
 rw[a]at e;exact .inl (.inr (.inr (.inl e)));rw[a]at e;have:=aJ e;exact .inr (by omega);exact .inl (.inr (.inr (.inr (.inl e))));exact .inl (.inr (.inr (.inr (.inr e))))
end
structure nI(a:Ot)(d0:Du)(b:Int)(x:Ld):Prop where
 h:x.o.h=a.h
 sG:x.o.sG=a.sG
 code:x.o.code=a.code
 aE:0<=x.o.aE/\x.o.aE<=4096
 jZ:iQ x.o x.d
 dl:x.d.l.length<=d0.l.length+x.fr.length
 fl:(x.fr.length:Int)<=b
 pl:x.ps.length<=x.fr.length
theorem nI.step{b:Ot}{d0:Du}{a:Int}{x:Ld}(H:nI b d0 a x)(k:Nat)(i:k<4)(m:a<=1000)(j:0<=b.h.fr)(n:b.en<=4096)(e:(x.o.next x.d (a-x.fr.length)).2=true):nI b d0 a (x.step k (x.o.next x.d (a-x.fr.length)).1)/\x.fr.length<(x.step k (x.o.next x.d (a-x.fr.length)).1).fr.length:=by
 have f:0<=x.o.h.fr:=by rw[H.h];exact j
 obtain⟨q,r⟩:=H7 k i H.jZ (p:=a-x.fr.length) (by omega) e f;have l:=xx H.jZ (p:=a-x.fr.length) (by omega) e f;generalize (x.o.next x.d (a-x.fr.length)).1=p at *;have c:(x.o.jF p).h=x.o.h/\(x.o.jF p).sG=x.o.sG/\(x.o.jF p).code=x.o.code/\0<=(x.o.jF p).aE/\(x.o.jF p).aE<=4096:=by
  have g:=H.aE;unfold Ot.jF;split;exact⟨rfl,rfl,rfl,g.1,g.2⟩
  refine⟨rfl,rfl,rfl,?_⟩
  obtain h|⟨-,s,t,u⟩:=l
  contradiction;have:x.o.en=b.en:=by unfold Ot.en;rw[H.h]
  simp only;omega
 have v:=xq p.x H.jZ.1;have w:=H.dl;have y:=H.fl;have z:=H.pl;refine⟨⟨c.1.trans H.h,c.2.1.trans H.sG,c.2.2.1.trans H.code,c.2.2.2,?_,?_,?_,?_⟩,?_⟩
 have:=H.jZ.leave p;unfold iQ Ot.en at this⊢;unfold Ld.step;simp only
 rw[c.1];exact this;unfold Ld.step Du.leave;simp only[bG]
 omega;unfold Ld.step;simp only[bG]
 omega;unfold Ld.step;simp only[bG,dJ,fH]
 omega;unfold Ld.step;simp only[bG]
 omega
def AQ(w:World)(Y:Nat->Prop)(g sb D N k:Nat)(v:aQ)(s:Sd)(r:Ld)(e:Ending)(c:World):Prop:=
 ∃a6 a c6 a7 b c7 h f,e=.returned (.tuple #[.slice a6 a c6,.slice a7 b c7])/\gT w g sb D k v s r.o r.fr r.ps (.slice a6 a c6) (.slice a7 b c7) c h f/\fw c D N (LX Y D (.slice a6 a c6) (.slice a7 b c7) sb f) r.d
theorem Ic{o:Ot}{d:Du}(h:iQ o d)(b:p<=1000)(a:(o.next d p).2=true)(c:0<=o.h.fr)(f:o.en<=4096):(o.next d p).1.x.ok:=by
 unfold Ot.next at a⊢;cases e:o.sG;rw[e]at a;simp only[gM,gp]at a⊢;obtain⟨g,i,j,k,-⟩:=sT h b a c;constructor<;>(unfold aR;omega);simp only[fJ]
 exact⟨⟨fI 0,by decide⟩,⟨fI 0,by decide⟩⟩
theorem AR(g:w.grownBy W none)(h:w.heap.size<=b)(a c d f:Value):w.grownBy ((((W.setCell ⟨b,0,none⟩ a).setCell ⟨b,1,none⟩ c).setCell ⟨b,2,none⟩ d).setCell ⟨b,3,none⟩ f) none:=
 cA g (aD (aD (aD (aD (av W (some b)) ⟨b,0,none⟩ a (.inr rfl)) ⟨b,1,none⟩ c (.inr rfl)) ⟨b,2,none⟩ d (.inr rfl)) ⟨b,3,none⟩ f (.inr rfl)) (λj e=>.inl (by cases e;exact h))
theorem Ie{u3:Value}(h:W.heap[b]?=some (.cells #[x,y,z,u3] T (0,0)))(a c d e:Value):((((W.setCell ⟨b,0,none⟩ a).setCell ⟨b,1,none⟩ c).setCell ⟨b,2,none⟩ d).setCell ⟨b,3,none⟩ e).heap[b]?=some (.cells #[a,c,d,e] T (0,0)):=
 heap_set (o:=3) (heap_set (o:=2) (heap_set (o:=1) (heap_set (o:=0) h a) c) d) e
theorem AS{a:Value}(h:W.heap[i]?=some (.cells #[x,y,z,a] T (0,0))):W.frozen? ⟨i,0,none⟩=false/\W.frozen? ⟨i,0+1,none⟩=false/\W.frozen? ⟨i,0+1+1,none⟩=false/\W.frozen? ⟨i,0+1+1+1,none⟩=false:=by simp[World.frozen?,h]
theorem aX.slice(h:aX w n x L):∃a c,x=.slice a L.length c:=by
 obtain⟨a,c,e,-⟩:=h.bs;exact⟨a,c,e⟩
theorem gS.slice{l:List Pc}(h:gS w n x l):∃a c,x=.slice a l.length c:=by
 obtain⟨a,c,e,-⟩:=h.AL;exact⟨a,c,e⟩
theorem Ig(w:World)(Y:Nat->Prop)(hY:∀j,Y j->j<w.heap.size)(F sb D N k:Nat)(cs:Array Value)(v:aQ)(s:Sd)(d:Du)(H:bg w F sb cs v s)(P:k<4)(hD:D<w.heap.size)(dk:¬dQ sb v D)(gh:N<=w.heap.size)(b6:fw w D N (λj=>j=D\/bV sb v j\/Y j) d)(b8:iQ (s.out k) d)(gi:d.l.length<=900000)
 (hn:(s.out k).h.nice) (e6:(s.out k).en<=4096) (e7:0<=(s.out k).aE/\(s.out k).aE<=4096) (ca:0<=(s.out k).code/\(s.out k).code<=4611686018427387903) (gj:16<=s.ao/\s.ao<=1000) (r:Ld) (hr:r=fE k (s.ao-16) ((s.ao-16).toNat+1) ⟨s.out k,d,[],[]⟩):
 Calls prog 209 #[.pointer (some ⟨sb,0,none⟩),.int .i64 (k:Int),.pointer (some ⟨D,0,none⟩)] w (AQ w Y F sb D N k v s r):=by
 obtain⟨R,hR⟩:=exq (AQ w Y F sb D N k v s r);rw[<-hR];replace hR:=J hR;have i1:(k:Int)<4:=by omega
 have d1:decide ((k:Int)<4)=true:=bp i1;have e8:Hid (gT w F sb D k v s (s.out k) [] [] (.slice none 0 0) (.slice none 0 0) w cs v):=J ⟨by rw[wT];exact H,Wx.rfl' _ _ _ _ _,λj e=>(by cases e),λj e=>(by cases e),λj e=>(by cases e),aX.nil _ _,gS.nil _ _⟩;have e9:Hid (fw w D N (LX Y D (.slice none 0 0) (.slice none 0 0) sb v) d):=J (b6.AO (λj _ hj=>by
  obtain e|e|e|e:=hj
  exact .inl e;cases e;cases e
  ·exact .inr e))
 have dn:Hid (nI (s.out k) d (s.ao-16) ⟨s.out k,d,[],[]⟩):=J ⟨rfl,rfl,rfl,e7,b8,by simp,by simp;omega,by simp⟩;obtain⟨i,a0⟩:=exq (s.ao-16);rw[<-a0]at dn hr;have a1:0<=i/\i<=1000:=by omega
 have ds:0<=(s.out k).h.fr:=hn.1;replace hr:=J hr;replace a0:=J a0;replace H:=J H;replace b6:=J b6;replace b8:=J b8;replace hn:=J hn;replace ca:=J ca;go_enter func209,ntmps209;go_upto_region 2 with fail;go_loopg [6,7] (i.toNat+1) (λg v6 v7 wr=>∃(x:Ld)(m:Nat)(a2:Array Value)(B:aQ),nI (s.out k) d i x/\gT w F sb D k v s x.o x.fr x.ps v6 v7 wr a2 B/\fw wr D N (LX Y D v6 v7 sb B) x.d/\g=(i-x.fr.length).toNat+1/\(i-x.fr.length).toNat+1<=m/\fE k i m x=r);case atStart=>exact⟨_,_,cs,v,Z dn,Z e8,Z e9,by simp,aI _,by simpa using (Z hr).symm⟩
 case round=>
  obtain⟨x,m,a2,B,p,q,br,rfl,hm,hl⟩:=hrel;obtain⟨a6,c6,rfl⟩:=q.fr.slice;obtain⟨a7,c7,rfl⟩:=q.ps.slice;have hO:fM wr F a2 (19+9*k) (B.own k) (B.set k) x.o:=by have:=q.side.out k P;simpa only[bm]using this
  obtain⟨ab,nb,cb,ac,nc,cc,fa,fb⟩:=hO.mn;have a3:=hO;rw[fa,fb]at a3;have du:x.o.h.nice:=by rw[p.h];exact Z hn
  have gn:x.o.en=(s.out k).en:=by unfold Ot.en;rw[p.h]
  have dx:0<=x.o.h.fr:=by rw[p.h];exact ds
  have cf:=p.fl;obtain⟨a,n,c,q1,q2,q3⟩:=id br;obtain⟨⟨p0,p1,p2⟩,-⟩:=qo q1;have bt:=J (λW(g:wr.grownBy W none)=>AN W sb s.ao (g.cell ((aU q.side.aG _).trans q.side.c0) (by simp)) (by have:=Z a0;omega));rw[<-Z a0]at bt;have G:=J (λW(g:wr.grownBy W none)=>HZ W sb (19+9*k) ab nb cb ac nc cc x.o ((a3.ah g).hd (bf q.side.aG g) du) ((a3.ah g).tail (bf q.side.aG g)) a n c x.d (q2.ah g) (i-x.fr.length) (by omega) p.jZ (by omega));rw[<-oN]at G;have cg:=J (λh=>p.step k P a1.2 ds e6 h);have ch:=J (λh=>xx p.jZ (p:=i-x.fr.length) (by omega) h dx);have cj:=J (λh=>Ic p.jZ (p:=i-x.fr.length) (by omega) h dx (by omega));obtain⟨pm,cp⟩:=exq (x.o.next x.d (i-x.fr.length));rw[<-cp]at G cg ch cj;have dE:Hid (∀I,m=I+1->fE k i m x=if pm.2 then fE k i I (x.step k pm.1)else x):=J (λI e=>by rw[e,cp];rfl);clear cp;obtain⟨⟨⟨t,u⟩,y,z⟩,dG⟩:=pm;unfold pA at G;simp only at G cg ch dE cj;have hw:IntKind.i64.wrap (i-(x.fr.length:Int))=i-(x.fr.length:Int):=by simp[IntKind.wrap,IntKind.bits,IntKind.signed];omega
  have gr:wr.grownBy wr.drew none:=aP (av _ none);have gA:wr.grownBy (wr.alloc (.cells #[.int .u64 0,.int .u64 0,.bool false,.bool false] 377)).drew none:=aP (aC _ _ none);have hA:Hid ((wr.alloc (.cells #[.int .u64 0,.int .u64 0,.bool false,.bool false] 377)).drew.heap[wr.heap.size]?=some (.cells #[.int .u64 0,.int .u64 0,.bool false,.bool false] 377 (0,0))):=J (aH wr _);have fc:Hid (x.ps.length<=100000000):=J (by have:=p.pl;omega);replace p0:=kc p0;replace p1:=kc p1;replace p2:=kc p2;replace p:=J p;replace q:=J q;replace br:=J br;replace hO:=J hO;replace a3:=J a3;replace q1:=J q1;replace q2:=J q2;replace q3:=J q3;replace hl:=J hl;replace hm:=J hm;replace cf:=J cf;replace a1:=J a1;go_upto_region 2 with fail;go_cut [9,10] (λv9 ff wx=>(∃b,v9=.pointer (some ⟨b,0,none⟩)/\wr.heap.size<=b/\wx.heap[b]?=some (.cells #[.int .u64 t,.int .u64 u,.bool y,.bool z] 377 (0,0)))/\ff=.bool dG/\wr.grownBy wx none);case first=>
   go_region_held3 (λw'=>wr.grownBy w' none)
    (first|with_reducible exact AR K bx _ _ _ _|with_reducible exact K|with_reducible exact aS K _|with_reducible exact C|with_reducible exact aS C _|with_reducible exact gr|with_reducible exact gA)
    (first
      |(go_at_call 203;refine(Z bt _ gA).mono ?_;rintro e Q⟨rfl,L⟩;have C:=aj gA L;have a8:=bf (Z hA) L)
      |(go_at_call 203;refine(Z bt _ gr).mono ?_;rintro e Q⟨rfl,L⟩;have C:=aj gr L)
      |(go_at_call 242;refine(Z G _ C).mono ?_;rintro e w6⟨rfl,A⟩;have K:=aj C A;have E:=bf a8 A;have bx:wr.heap.size<=wr.heap.size:=aI _;obtain⟨U,V,X,y3⟩:=oQ E;obtain⟨z0,z1,z2,z3⟩:=AS E;have ee:=E)
      |(go_at_call 242;refine(Z G _ (aS C _)).mono ?_;rintro e w6⟨rfl,A⟩;have K:=aj (aS C _) A;have E:=bf (aH _ _) A;have bx:=C.size;obtain⟨U,V,X,y3⟩:=oQ E;obtain⟨z0,z1,z2,z3⟩:=AS E;have ee:=E)
      |(go_at_call 242;refine(Z G _ C).mono ?_;rintro e w6⟨rfl,A⟩;have K:=aj C A))
   all_goals go_wp2_with fail
   all_goals go_meet
   all_goals first|exact⟨⟨_,rfl,bx,Ie ee _ _ _ _⟩,rfl,AR K bx _ _ _ _⟩|exact⟨⟨_,rfl,K.size,aH _ _⟩,rfl,aS K _⟩
  case rest=>
   obtain⟨⟨b,rfl,gq,al⟩,rfl,gx⟩:=hcut;clear gA hA p0 p1 p2 bt G hw gr;obtain⟨I,fo⟩:∃I,m=I+1:=⟨m-1,by have:=Z hm;omega⟩
   have S:=(Z dE I fo).symm.trans (Z hl);have bz:=J ((Z q).gb gx);have eg:=J ((Z br).ah gx);cases dG
   ·simp only[gM,gp]at S;have fq:Hid (R (.returned (.tuple #[.slice a6 x.fr.length c6,.slice a7 x.ps.length c7])) wc):=J (by
     rw[Z hR,<-S];exact⟨a6,_,c6,a7,_,c7,a2,B,rfl,Z bz,Z eg⟩)
    clear S al;go_wp2_with fail;exact Z fq
   simp only[fJ]at S;have a9:=Z ch rfl;have M:=Z cg rfl;have bL:(⟨t,u⟩:Rg).ok:=Z cj rfl;have gu:w.heap.size<=wc.heap.size:=(Z bz).wx.aq.size;have bM:=J (AK wc D N (LX Y D (.slice a6 x.fr.length c6) (.slice a7 x.ps.length c7) sb B) x.d ⟨⟨t,u⟩,y,z⟩ (Z eg) (.inl rfl) ((Z bz).lx hD hY) (by omega) (Z p).jZ.1 bL (by have:=(Z p).dl;have:=Z cf;have:=Z a1;omega));obtain⟨U,V,X,y3⟩:=oQ al;unfold pA at bM;simp only at bM;replace a9:=J a9;replace M:=J M;replace bL:=J bL;replace S:=J S;replace al:=J al;go_upto_region 5 with fail;go_wp2_with fail;refine(Z bM).mono ?_;rintro e w2⟨rfl,cv,g2⟩;have ax:=(Z bz).left hD dk g2;have fs:b≠D:=by have:=(Z q).wx.aq.size;omega
   have bb:w2.heap[b]?=some (.cells #[.int .u64 t,.int .u64 u,.bool y,.bool z] 377 (0,0)):=(g2.block b (aO.1 (Z al)).1 (λe=>fs (aJ e))).trans (Z al);have cw:fM w2 F a2 (19+9*k) (B.own k) (B.set k) x.o:=by have:=ax.side.out k P;simpa only[bm]using this
   have bj:=J (H9 ax.side.aG cw du (ax.side.uD k P) k ⟨⟨t,u⟩,y,z⟩ (Z a9));rw[<-oN]at bj;unfold pA at bj;simp only at bj;clear U V X y3 bM;obtain⟨U,V,X,y3⟩:=oQ bb;have fv:Hid (¬bV sb B b):=J (λe=>by have:=oL (Z q).side.bd e;omega);have fy:Hid ((Value.slice a6 x.fr.length c6).ownBlock≠some b/\(Value.slice a7 x.ps.length c7).ownBlock≠some b):=J ⟨λe=>by have:=((Z q).fr.lt b e).2;omega,λe=>by have:=((Z q).ps.lt b e).2;omega⟩;replace ax:=J ax;replace cv:=J cv;replace bb:=J bb;replace cw:=J cw;go_wp2_with fail;refine(Z bj).mono ?_;rintro e w3⟨rfl,hT⟩;rw[oN]at hT;obtain⟨ga,v3,cx,cy,C3⟩:=(Z ax).aE _ P hT hD dk (Z cv);have cR:w3.heap[b]?=some (.cells #[.int .u64 t,.int .u64 u,.bool y,.bool z] 377 (0,0)):=(C3.block b (aO.1 (Z bb)).1 (Z fv)).trans (Z bb);have ei:0<=x.o.code/\x.o.code<=4611686018427387903:=by rw[(Z p).code];exact Z ca
   have c9:=H5 w3 k P (Z a9) (by omega) (Z p).aE ei;have ej:=AP k P (Z a9) (by omega) (Z p).aE ei;have bP:=J (xw w3 _ _ c9.1 ej c9.2);clear U V X y3 bj hT C3 c9 ej;obtain⟨f,T⟩:=exq (x.o.cX k ⟨⟨t,u⟩,y,z⟩);rw[<-T]at bP;rw[<-T];obtain⟨fA,bS⟩:=exq (bF f (.slice none 0 0));rw[<-bS]at bP;rw[<-bS];replace T:=J T;replace bS:=J bS;replace cx:=J cx;replace cy:=J cy;replace cR:=J cR;go_wp2_with fail;refine(Z bP).mono ?_;rintro e w4⟨⟨a4,n4,c4,rfl,o4⟩,g4⟩;have b0:=(Z cx).gb g4;have ek:=(Z cy).ah g4;have db:=bf (Z cR) g4;have eo:=b0.wx.aq.size;have de:x.fr.length+(bu [f]).length<=100000000:=by
    have h1:=(Z M).1.fl;unfold Ld.step at h1;simp only[bG,<-Z T]at h1;have:=Z a1;omega
   obtain⟨a5,c5,Q,dg,o5,L,ep⟩:=yI (w:=w4) 112 w.heap.size _ x.fr b0.fr a4 n4 c4 (bu [f]) o4.fB de eo;obtain⟨ew,ey⟩:=b0.Ia L o5 ep hD ek;have a8:Q.heap[b]?=some (.cells #[.int .u64 t,.int .u64 u,.bool y,.bool z] 377 (0,0)):=(L.block b (aO.1 db).1 (λe=>(Z fy).1 e.symm)).trans db;obtain⟨U,V,X,y3⟩:=oQ a8;obtain⟨W6,b3⟩:=exq (Q.alloc (.cells #[.int .u64 t,.int .u64 u,.bool y,.bool z] 377));have A:Q.grownBy W6 none:=by rw[b3];exact aC _ _ _
   have E:W6.heap[Q.heap.size]?=some (.cells #[.int .u64 t,.int .u64 u,.bool y,.bool z] 377 (0,0)):=by rw[b3];exact aH _ _
   have b4:=ew.gb A;have ez:=ey.ah A;have eK:x.ps.length<=100000000:=Z fc;obtain⟨b7,n7,eL,w7,b5,o7,g7,eV⟩:=HQ (w:=W6) 323 w.heap.size _ x.ps b4.ps Q.heap.size 1 ⟨⟨t,u⟩,y,z⟩ (Z bL) (jm (cs:=qp ⟨⟨t,u⟩,y,z⟩) E) eK b4.wx.aq.size;obtain⟨e3,e4⟩:=b4.Ib g7 o7 eV hD ez;have hrel:Hid (∃(O:Ld)(m2:Nat)(gd:Array Value)(e5:aQ),nI (s.out k) d i O/\gT w F sb D k v s O.o O.fr O.ps (.slice a5 (x.fr.length+(bu [f]).length) c5) (.slice b7 n7 eL) w7 gd e5/\fw w7 D N (LX Y D (.slice a5 (x.fr.length+(bu [f]).length) c5) (.slice b7 n7 eL) sb e5) O.d/\(i-(x.fr.length+(bu [f]).length:Nat)).toNat+1=(i-O.fr.length).toNat+1/\(i-O.fr.length).toNat+1<=m2/\fE k i m2 O=r):=J (by
    have gf:=Z T;subst gf;refine⟨x.step k ⟨⟨t,u⟩,y,z⟩,I,ga,v3,(Z M).1,e3,e4,?_,?_,Z S⟩
    unfold Ld.step;simp only[bG]
    ·have h1:=Z hm;have h2:=(Z M).2;have h3:=(Z M).1.fl;omega)
   have gg:Hid ((i-(x.fr.length+(bu [f]).length:Nat)).toNat+1<(i-x.fr.length).toNat+1):=J (by
    have h2:=(Z M).2;have h3:=(Z M).1.fl;unfold Ld.step at h2 h3;simp only[bG,<-Z T]at h2 h3;omega)
   rw[b3]at b5;replace dg:=J dg;replace b5:=J b5;clear b0 ek ew ey b4 ez e3 e4 db b3 E o4 o5 o7 ep eV g7 A L g4 bP eo eK;replace a8:=J a8;replace de:=J de;go_wp2_with (at_builtin;first|(refine oR (by rfl) 112 112 (by rfl) _ _ (by rfl) _ _ _ (by rfl) (by rfl) (Z dg) ?_)|(refine oR (by rfl) 323 323 (by rfl) _ _ (by rfl) _ _ _ (by rfl) (by rfl) (Z b5) ?_));go_roundg ((i-(x.fr.length+(bu [f]).length:Nat)).toNat+1);case measure=>exact Z gg
   case rel=>exact Z hrel
theorem I2(w:World)(q sb N k:Nat)(cs:Array Value)(v:aQ)(s:Sd)(H:bg w q sb cs v s)(I:N<=w.heap.size)(pa:Option Addr)(b f:Nat)(ps:List Pc)(hp:gS w N (.slice pa b f) ps)(F:∀j,(Value.slice pa b f).ownBlock=some j->¬dQ sb v j)(K:0<=s.count/\s.count<=4611686018427387903)(hl:s.az.length<=1000000):
 Calls prog 210 #[.pointer (some ⟨sb,91,none⟩),.int .i64 (k:Int),.slice pa b f] w λr m=>r=.returned (.int .u64 s.count)/\∃L A,bg m q sb L A {s with az:=s.az++[⟨s.count,s.tick,k,ps⟩],count:=s.count+1}/\cP N w m sb v A/\∀j,dQ sb A j->dQ sb v j\/w.heap.size<=j\/(Value.slice pa b f).ownBlock=some j:=by
 have M:v.lf.length<=1000000:=by have:=fj List.length H.az;rw[dY]at this;omega
 have t:=H.rj;refine(FL w sb 91 q cs _ _ _ v.lf v.ll s.count s.tick s.wait H.aG H.fl H.bl t.1 K M (k:Int) pa b f ps).mono ?_;rintro r m⟨rfl,d,O,P,C,B⟩;refine⟨rfl,?_⟩
 have T:(95:Nat)<cs.size:=by rw[H.sz];omega
 have u:∀i,i≠91->i≠94->((cs.setIfInBounds 91 (.int .u64 (s.count+1))).setIfInBounds (91+3) d)[i]?=cs[i]? :=λi g l=>by rw[bk (by omega),bk (by omega)]
 have U:d.ownBlock≠none->True:=λ_=>trivial
 obtain⟨V,cap,e1,e2,z⟩:=hp.AL;have W:∀j,(v.own 8).ownBlock=some j->j<w.heap.size:=H.bd.lt 8 (by omega);have Q:∀j,d.ownBlock=some j->(v.own 9).ownBlock≠some j:=λj g l=>by
  obtain e|e:=B
  rw[e]at g;exact t.2.2 j g l;have:=e j g;have:=H.bd.lt 9 (by omega) j l;omega
 have R:qs w m sb 241 cs ((cs.setIfInBounds 91 (.int .u64 (s.count+1))).setIfInBounds (91+3) d) 91 (v.own 8) (v.own 9) d (v.own 9):=
  ⟨O,by simp,λi hi=>u i (by omega) (by omega),C.mono (λj _ h=>h.elim .inl (λh=>.inr (.inl h))),B,.inl rfl⟩
 have hF:ik m q ((cs.setIfInBounds 91 (.int .u64 (s.count+1))).setIfInBounds (91+3) d) 91 d (v.own 9) (v.lf++[(⟨s.count,s.tick,(k:Int),ps⟩,.slice pa b f)]) v.ll (s.count+1) s.tick s.wait:=
  ⟨by rw[bk (by omega)];exact cB (by omega),(u _ (by omega) (by omega)).trans H.fl.c1,(u _ (by omega) (by omega)).trans H.fl.c2,cB (by simp;omega),(u _ (by omega) (by omega)).trans H.fl.c4,P,H.fl.ol.aq C (λj e h=>by
   obtain rfl|h:=h
   exact t.2.1 e
   ·exact t.2.2 j h e)⟩
 have:=H.wW I d (v.own 9) _ v.ll _ _ _ R hF Q (λx a=>by
  obtain a|a:=ck.1 a
  obtain a|a:=ck.1 a
  exact .inl (oe _ a);right;rw[dB.1 a];obtain⟨rfl,-,rfl⟩:=fS e1;refine⟨pa,b,f,rfl,?_,λy p=>?_⟩
  have S:b=ps.length:=(fS e1).2.1;rw[S];exact e2.cW (λ_ y p=>C.block _ (hp.lt y.block (z y p)).2 (λh=>F y.block (z y p) (.inl (h.elim .inl (λh=>.inr ⟨8,by omega,h⟩)))));have G:=hp.lt y.block (z y p);have D:¬bV sb v y.block:=λh=>F y.block (z y p) (.inl h)
  refine⟨G.1,bK G.2 C.size,D,λe=>?_,λe=>D (.inr ⟨9,by omega,e⟩)⟩
  obtain h|h:=B
  rw[h]at e;exact D (.inr ⟨8,by omega,e⟩);have:=h _ e;omega
  ·exact .inl (px _ a))
 obtain⟨g,l⟩:=this;refine⟨(cs.setIfInBounds 91 (.int .u64 (s.count+1))).setIfInBounds (91+3) d,_,?_,l,λj E=>?_⟩
 have e:({s with az:=(v.lf++[((⟨s.count,s.tick,(k:Int),ps⟩:Pk),Value.slice pa b f)]).map (·.1),lost:=v.ll.map (·.1),count:=s.count+1,tick:=s.tick,wait:=s.wait}:Sd)={s with az:=s.az++[⟨s.count,s.tick,k,ps⟩],count:=s.count+1}:=by
  rw[mf,<-H.az,<-H.lost];rfl
 rw[<-e];exact g;obtain E|⟨i,y,n,c,hi,e,rfl⟩|⟨x,a,y,n,c,e,rfl⟩:=E
 exact(l.ft j E).elim (λh=>.inl (.inl h)) (λh=>.inr (.inl h));exact .inl (.inr (.inl ⟨i,y,n,c,hi,e,rfl⟩));simp only at a;obtain a|a:=ck.1 a
 obtain a|a:=ck.1 a
 exact .inl (.inr (.inr ⟨x,oe _ a,y,n,c,e,rfl⟩));rw[dB.1 a]at e;simp only at e;right;right;rw[e];rfl;exact .inl (.inr (.inr ⟨x,px _ a,y,n,c,e,rfl⟩))
structure eO(W:World)(N sb:Nat)(v:aQ)(a:List El)(b:Value):Prop where
 own:dZ W N b a
 at_:gI W N a
 a5:∀j,b.ownBlock=some j->¬dQ sb v j
 ae:∀e∈a,¬dQ sb v e.1
 s5:∀e∈a,b.ownBlock≠some e.1
theorem eO.nil(W:World)(N sb:Nat)(v:aQ):eO W N sb v [] (.slice none 0 0):=⟨dZ.nil _ _,gI.nil _ _,λj e=>(by cases e),λe a=>(by cases a),λe a=>(by cases a)⟩
theorem eO.next{f:aQ}{c:List El}{X:Nat->Prop}(h:eO W n k D c x)(C:ak W w (λj=>bV k D j\/X j))(g:∀j,x.ownBlock=some j->¬X j)(i:∀e∈c,¬X e.1)(ar:∀j,dQ k f j->dQ k D j\/W.heap.size<=j):eO w n k f c x:=
 ⟨h.own.aq C (λj e a=>a.elim (λa=>h.a5 j e (.inl a)) (g j e)),h.at_.aq C (λe b a=>a.elim (λa=>h.ae e b (.inl a)) (i e b)),λj e d=>(ar j d).elim (h.a5 j e) (λa=>by have:=(h.own.lt j e).2;omega),λe b d=>(ar _ d).elim (h.ae e b) (λa=>by have:=h.at_.lt b;omega),h.s5⟩
theorem eO.gb{a:List El}(h:eO W n k D a x)(g:W.grownBy w none):eO w n k D a x:=
 h.next (X:=λ_=>False) ((ak.of g).mono (λ_ _ e=>by cases e)) (λ_ _=>id) (λ_ _=>id) (λ_ h=>.inl h)
theorem eO.app{f:List El}{e:El}(h:eO W n k D f y)(q:gI W n [e])(r:¬dQ k D e.1)(s:y.ownBlock≠some e.1)(t:∀a∈f,a.1≠e.1)(i:∀j,dQ k D j->j<W.heap.size)(u:dZ w n z (f++[e]))(g:W.grownBy w y.ownBlock)(d:z.ownBlock=y.ownBlock\/z.ownBlock=some W.heap.size):eO w n k D (f++[e]) z:=by
 have l:=(h.at_.app q (λa i b v=>by rw[dB.1 v];exact t a i))
 have m:∀x∈f++[e],y.ownBlock≠some x.1:=λx c=>by
  obtain c|c:=ck.1 c
  exact h.s5 x c;rw[dB.1 c];exact s
 refine⟨u,l.aq (ak.of g) (λx c e2=>m x c e2),λj e1 p=>?_,λx c=>?_,λx c e1=>?_⟩
 obtain d|d:=d
 rw[d]at e1;exact h.a5 j e1 p;rw[d]at e1;have:=aJ e1;have:=i j p;omega;obtain c|c:=ck.1 c
 exact h.ae x c;rw[dB.1 c];exact r;obtain d|d:=d
 rw[d]at e1;exact m x c e1;rw[d]at e1;have:=aJ e1;have:=l.lt c;omega
theorem bg.pS(H:bg w n k c D X)(b:di X.key):w.rangeAt k 2 (bv X.key):=λj u a=>by
 have d:j<16:=by have:=(iX.1 a).1;rw[fK,b.1]at this;exact this
 rw[aU H.aG,H.key j d];exact a
theorem s9{key:List Int}{s n:Int}{l:List Int}(hl:∀x∈l,W8 x):∀x∈cT key s n l,W8 x:=by
 intro x a;simp only[cT,ck]at a;obtain(a|a)|a:=a
 exact oS _ x a;exact uT hl x a;exact oS _ x a
structure Pz where
 s:Sd
 d:Du
 l:List (List Int)
def Pz.load(x:Pz)(k:Nat):Ld:=fE k (x.s.ao-16) ((x.s.ao-16).toNat+1) ⟨x.s.out k,x.d,[],[]⟩
def Pz.stay(x:Pz)(k:Nat):Pz:=⟨{x.s with out:=aw x.s.out k (x.load k).o},(x.load k).d,x.l⟩
def Pz.fN(x:Pz)(k:Nat):Pz:=
 ⟨{x.s with out:=aw x.s.out k (x.load k).o,az:=x.s.az++[⟨x.s.count,x.s.tick,k,(x.load k).ps⟩],count:=x.s.count+1},(x.load k).d,x.l++[cT x.s.key (sd x.s.first) x.s.count (x.load k).fr]⟩
def iB(k:Nat):Nat->Pz->Pz
 |0,x=>x
 |n+1,x=>if 10<=x.s.az.length then x else if(x.load k).ps.length=0 then x.stay k else iB k n (x.fN k)
def Sd.pieces(s:Sd)(k:Nat):Pz:=iB k 11 ⟨s,s.due k,[]⟩
theorem I3{b:Ot}{d0:Du}{a:Int}{k:Nat}(c:k<4)(e:a<=1000)(f:0<=b.h.fr)(g:b.en<=4096):∀(m:Nat)(x:Ld),nI b d0 a x->nI b d0 a (fE k a m x):=by
 intro m;induction m with
 |zero=>exact λx h=>h
 |succ m i=>
  intro x h;unfold fE;cases j:(x.o.next x.d (a-x.fr.length)).2;simp only[gM,gp];exact h;simp only[fJ];exact i _ (h.step k c e f g j).1
structure lG(s0:Sd)(k:Nat)(x:Pz):Prop where
 ao:x.s.ao=s0.ao
 key:x.s.key=s0.key
 h:(x.s.out k).h=(s0.out k).h
 sG:(x.s.out k).sG=(s0.out k).sG
 code:(x.s.out k).code=(s0.out k).code
 aE:0<=(x.s.out k).aE/\(x.s.out k).aE<=4096
 jZ:iQ (x.s.out k) x.d
 dl:x.d.l.length+1000*(10-x.s.az.length)<=900000
 fl:x.s.az.length<=10
 cU:0<=x.s.count/\x.s.count+10-x.s.az.length<=4611686018427387000
 lf:x.l.length<=x.s.az.length
theorem lG.ll{s0:Sd}{k:Nat}{x:Pz}(H:lG s0 k x):x.l.length<=1000:=by have:=H.lf;have:=H.fl;omega
theorem lG.ld{s0:Sd}{k:Nat}{x:Pz}(H:lG s0 k x)(a:k<4)(f:16<=s0.ao/\s0.ao<=1000)(b:0<=(s0.out k).h.fr)(c:(s0.out k).en<=4096):nI (x.s.out k) x.d (x.s.ao-16) (x.load k):=by
 have e:(x.s.out k).en=(s0.out k).en:=by unfold Ot.en;rw[H.h]
 refine I3 a (by rw[H.ao];omega) (by rw[H.h];exact b) (by rw[e];exact c) _ _ ⟨rfl,rfl,rfl,H.aE,H.jZ,by simp,by rw[H.ao];simp;omega,by simp⟩
theorem lG.fN{s0:Sd}{k:Nat}{x:Pz}(H:lG s0 k x)(a:k<4)(b:16<=s0.ao/\s0.ao<=1000)(c:0<=(s0.out k).h.fr)(d:(s0.out k).en<=4096)(e:x.s.az.length<10):lG s0 k (x.fN k):=by
 have L:=H.ld a b c d;unfold Pz.fN;have f:=L.dl;have g:=L.fl;have i:=H.dl;have j:=H.cU;have l:=H.ao;have m:=H.lf;refine⟨H.ao,H.key,?_,?_,?_,?_,?_,?_,?_,?_,?_⟩
 simp only[bm];exact L.h.trans H.h;simp only[bm];exact L.sG.trans H.sG;simp only[bm];exact L.code.trans H.code;simp only[bm];exact L.aE;simp only[bm];exact L.jZ;simp only[bG,dJ,fH];omega;simp only[bG,dJ,fH];omega;simp only[bG,dJ,fH];omega;simp only[bG,dJ,fH];omega
structure j6(w0:World)(base sb D:Nat)(v0:aQ)(x:Pz)(v5:Value)(W:World)(cs:Array Value)(v:aQ)(els:List El):Prop where
 side:bg W base sb cs v x.s
 dA:cP w0.heap.size w0 W sb v0 v
 due:fw W D w0.heap.size (λj=>j=D\/bV sb v j\/v5.ownBlock=some j) x.d
 nD:¬dQ sb v D
 dl:D<W.heap.size
 ls:eO W w0.heap.size sb v els v5
 n5:v5.ownBlock≠some D
 ne:∀e∈els,e.1≠D
 el:els.map (·.2)=x.l
section
variable {w0:World} {base sb D k:Nat} {v0:aQ} {x:Pz} {v5:Value} {W W':World} {cs:Array Value} {v:aQ} {els:List El}
theorem j6.gb(h:j6 w0 base sb D v0 x v5 W cs v els)(g:W.grownBy W' none):j6 w0 base sb D v0 x v5 W' cs v els:=
 ⟨h.side.ah g,h.dA.trans (cP.ah g),h.due.ah g,h.nD,bK h.dl g.size,h.ls.gb g,h.n5,h.ne,h.el⟩
theorem j6.I4(h:j6 w0 base sb D v0 x v5 W cs v els)(q:w0.heap.size<=D){r:Ld}{f g:Value}{i:Array Value}{b:aQ}{c:World}(a:gT W base sb D k v x.s r.o r.fr r.ps f g c i b)(hd:fw c D w0.heap.size (LX (λj=>v5.ownBlock=some j) D f g sb b) r.d):j6 w0 base sb D v0 ⟨{x.s with out:=aw x.s.out k r.o},r.d,x.l⟩ v5 c i b els:=by
 have t:=h.dA.aq.size;have m:Wx w0.heap.size W c sb v b (λj=>j=D):=⟨a.wx.aq,a.wx.ft,λj e=>(a.wx.ar j e).imp id (λe=>by omega)⟩
 refine⟨a.side,m.dA h.dA (λj e=>by omega),hd.AO (λj _ n=>n.elim .inl (λe=>.inr (.inr (.inr e)))),a.xA h.dl h.nD,bK h.dl a.wx.aq.size,h.ls.next a.wx.aq (λj e e2=>h.n5 (by rw[<-e2];exact e)) (λe p e2=>h.ne e p e2) a.wx.ar,h.n5,h.ne,h.el⟩
theorem j6.I5(h:j6 w0 base sb D v0 x v5 W cs v els){k:Sd}{l:Array Value}{b:aQ}{g:World}(m:bg g base sb l b k)(c:cP w0.heap.size W g sb v b)(i:∀j,dQ sb b j->dQ sb v j\/W.heap.size<=j\/(v5.ownBlock≠some j/\j≠D/\∀e∈els,e.1≠j)):j6 w0 base sb D v0 {x with s:=k} v5 g l b els:=by
 have n:∀j,dQ sb b j->v5.ownBlock=some j->False:=λj d e=>by
  obtain a|a|a:=i j d
  exact h.ls.a5 j e a;have:=(h.ls.own.lt j e).2;omega;exact a.1 e
 have p:∀e∈els,¬dQ sb b e.1:=λe f d=>by
  obtain a|a|a:=i _ d
  exact h.ls.ae e f a;have:=h.ls.at_.lt f;omega;exact a.2.2 e f rfl
 refine⟨m,h.dA.trans c,h.due.step c.aq (λe=>h.nD (.inl e)) (λj _ e=>.inr (.inl e)) (λj q=>?_),λe=>?_,bK h.dl c.aq.size,⟨h.ls.own.aq c.aq (λj e e2=>h.ls.a5 j e (.inl e2)),h.ls.at_.aq c.aq (λe f e2=>h.ls.ae e f (.inl e2)),λj e d=>n j d e,p,h.ls.s5⟩,h.n5,h.ne,h.el⟩
 obtain e|e|e:=q
 exact .inl (.inl e);obtain e|e:=c.ft j e
 exact .inl (.inr (.inl e));exact .inr e;exact .inl (.inr (.inr e));obtain a|a|a:=i D e
 exact h.nD a;have:=h.dl;omega;exact a.2.1 rfl
theorem j6.app(h:j6 w0 base sb D v0 x v5 W cs v els){f m:World}(p:W.grownBy f none){e:El}(w:W.heap.size<=e.1)(q:f.heap[e.1]?=some (.cells (bv e.2).toArray 5 (0,0)))(r:∀y∈e.2,W8 y){k:Value}(s:dZ m w0.heap.size k (els++[e]))(g:f.grownBy m v5.ownBlock)(c:k.ownBlock=v5.ownBlock\/k.ownBlock=some f.heap.size):j6 w0 base sb D v0 {x with l:=x.l++[e.2]} k m cs v (els++[e]):=by
 have b:=h.gb p;have z:=h.dA.aq.size;have A:=h.dl;have t:gI f w0.heap.size [e]:=⟨λy d=>by rw[dB.1 d];exact⟨by omega,r,q⟩,List.pairwise_singleton _ _⟩
 have u:=b.ls.app t (λi=>by have:=mT h.side.bd i;omega) (λe1=>by have:=(h.ls.own.lt _ e1).2;omega) (λa i e1=>by have:=h.ls.at_.lt i;omega) (λj i=>mT b.side.bd i) s g c;refine⟨b.side.other (ak.of g) (λj _ e1=>b.ls.a5 j e1),⟨?_,b.dA.ft,b.dA.ar⟩,b.due.step (ak.of g) (λe1=>b.n5 e1) (λj n e1=>.inr (.inr e1)) (λj n=>?_),b.nD,bK b.dl g.size,u,λe1=>?_,λy d=>?_,by rw[mf,h.el];rfl⟩
 exact(b.dA.aq.trans (ak.of g)).mono (λj n e1=>e1.elim id (λe1=>by have:=(b.ls.own.lt j e1).1;omega));obtain e1|e1|e1:=n
 exact .inl (.inl e1);exact .inl (.inr (.inl e1));obtain c|c:=c
 rw[c]at e1;exact .inl (.inr (.inr e1));rw[c]at e1;have:=aJ e1;exact .inr (by omega);obtain c|c:=c
 rw[c]at e1;exact h.n5 e1;rw[c]at e1;have:=aJ e1;have:=b.dl;omega;obtain d|d:=ck.1 d
 exact h.ne y d;rw[dB.1 d];omega
end
theorem gS.low{b2:Nat}{l:List Pc}(h:gS w n x l)(d:b2<=n):gS w b2 x l:=by
 obtain⟨h0,b,a⟩:=h;refine⟨h0,b,?_⟩
 obtain a|⟨g,cap,cur,e1,e2,c⟩:=a
 exact .inl a;exact .inr ⟨g,cap,cur,e1,by omega,c⟩
def uU(w:World)(g sb:Nat)(v:aQ)(r:Pz)(e:Ending)(b:World):Prop:=
 ∃a n c h d f,e=.returned (.slice a n c)/\bg b g sb h d r.s/\cP w.heap.size w b sb v d/\eO b w.heap.size sb d f (.slice a n c)/\f.map (·.2)=r.l
theorem eO.slice{b:List El}(h:eO W n k D b x):∃a c,x=.slice a b.length c:=by
 obtain⟨a,c,e,-⟩:=h.own.fL;exact⟨a,c,e⟩
theorem j6.post{b:aQ}{x:Pz}{v:aQ}{c:List El}(h:j6 w k i j b x (.slice a n l) W C v c):uU w k i b x (.returned (.slice a n l)) W:=⟨a,n,l,C,v,c,rfl,h.side,h.dA,h.ls,h.el⟩
theorem I6(w:World)(p sb k:Nat)(cs:Array Value)(v:aQ)(s:Sd)(H:bg w p sb cs v s)(U:k<4)(cv:di s.key)
 (N:(s.out k).h.nice) (b5:(s.out k).en<=4096) (cw:0<=(s.out k).aE/\(s.out k).aE<=4096) (cx:0<=(s.out k).code/\(s.out k).code<=4611686018427387903) (a4:16<=s.ao/\s.ao<=1000) (cy:s.az.length<=10) (eo:0<=s.count/\s.count<=4611686018427386000) (ep:(s.out k).h.ag.length+(dz v.lf k).length<=100000) (a8:iQ (s.out k) (s.due k)) (b6:(s.due k).l.length<=800000):
 Calls prog 159 #[.pointer (some ⟨sb,0,none⟩),.int .i64 (k:Int)] w (uU w p sb v (s.pieces k)):=by
 obtain⟨r,V⟩:=exq (s.pieces k);rw[<-V];obtain⟨R,O⟩:=exq (uU w p sb v r);rw[<-O];replace O:=J O;replace V:=J V;have W:=J (HK w p sb cs v s H k U N (by omega));have b7:0<=(s.out k).h.fr:=N.1;have cR:Hid (lG s k ⟨s,s.due k,[]⟩):=J ⟨rfl,rfl,rfl,rfl,rfl,cw,a8,by simp only;omega,cy,by simp only;omega,by simp⟩;obtain⟨du,E⟩:=exq (s.due k);rw[<-E]at W;obtain⟨de,X⟩:=exq du.e;obtain⟨dg,Y⟩:=exq du.g;rw[<-X,<-Y]at W;replace E:=J E;replace X:=J X;replace Y:=J Y;replace a8:=J a8;replace b6:=J b6;replace N:=J N;replace H:=J H;go_enter func159,ntmps159;go_wp2_with fail;refine(Z W).mono ?_;rintro e C⟨⟨a,n,c,rfl,q1,q2⟩,g1⟩;obtain⟨W2,al⟩:=exq (C.alloc (.cells #[.slice a n c,.bool de,.bool dg] 332));have g2:C.grownBy W2 none:=by rw[al];exact aC _ _ _
 have a9:W2.heap[C.heap.size]?=some (.cells #[.slice a n c,.bool de,.bool dg] 332 (0,0)):=by rw[al];exact aH _ _
 have bb:=aj g1 g2;have c9:Hid (j6 w p sb C.heap.size v ⟨s,s.due k,[]⟩ (.slice none 0 0) W2 cs v []):=J (by
  have hz:=g1.size;have db:=(aO.1 a9).1;refine⟨(Z H).ah bb,cP.ah bb,⟨a,n,c,by rw[<-Z E,<-Z X,<-Z Y];exact a9,by rw[<-Z E];exact q1.ah g2,λhl y ey=>?_⟩,λha=>by have:=mT (Z H).bd ha;omega,db,eO.nil _ _ _ _,λe=>(by cases e),λe he=>(by cases he),rfl⟩
  rw[<-Z E]at hl;have h1:=q2 hl y ey;have h2:y.block<C.heap.size:=by subst ey;exact q1.lt hl
  refine⟨h1,λF=>?_⟩
  obtain F|F|F:=F
  omega;have:=oL (Z H).bd F;omega
  ·cases F)
 have dk:w.heap.size<=C.heap.size:=g1.size;clear q1 q2 a9 W;go_upto_region 3 with fail;rw[<-al];clear al g2 bb g1;generalize C.heap.size=D at *;go_loopg [5] (11-s.az.length) (λg v5 wr=>∃(x:Pz)(m:Nat)(P:Array Value)(t:aQ)(q:List El),lG s k x/\j6 w p sb D v x v5 wr P t q/\g=11-x.s.az.length/\11-x.s.az.length<=m/\iB k m x=r);case atStart=>exact⟨_,11,cs,v,[],Z cR,Z c9,rfl,by omega,(Z V).symm⟩
 case round=>
  obtain⟨x,m,P,t,q,f,b,rfl,hm,hl⟩:=hrel;obtain⟨a5,c5,rfl⟩:=b.ls.slice;have Q:t.lf.length=x.s.az.length:=by have:=fj List.length b.side.az;rw[dY]at this;exact this.symm
  have G:=J (FI wr sb 91 p (t.own 8) t.lf ((aU b.side.aG _).trans b.side.fl.c3) b.side.fl.of);rw[Q]at G;obtain⟨m',dn⟩:∃m',m=m'+1:=⟨m-1,by have:=f.fl;omega⟩
  have z:(if 10<=x.s.az.length then x else if(x.load k).ps.length=0 then x.stay k else iB k m' (x.fN k))=r:=by rw[<-hl,dn];rfl
  clear hl;have ds:Hid (x.l.length<=1000):=J f.ll;by_cases b8:10<=x.s.az.length
  ·have d1:decide (10<=(x.s.az.length:Int))=true:=bp (by omega);rw[aM b8]at z;rw[d1]at G;have bj:Hid (R (.returned (.slice a5 q.length c5)) wr):=J (by rw[Z O,<-z];exact b.post);clear z d1;replace f:=J f;replace b:=J b;replace Q:=J Q;go_wp2_with fail;refine(Z G).mono ?_;rintro e w2⟨rfl,rfl⟩;go_wp2_with fail;exact Z bj
  have d1:decide (10<=(x.s.az.length:Int))=false:=bB (by omega);rw[ay b8]at z;rw[d1]at G;have ew:(x.s.out k).en=(s.out k).en:=by unfold Ot.en;rw[f.h]
  have br:=J (Ig wr (λj=>(Value.slice a5 q.length c5).ownBlock=some j) (λj e=>(b.ls.own.lt j e).2) p sb D w.heap.size k P t x.s x.d b.side U b.dl b.nD b.dA.aq.size b.due f.jZ (by have:=f.dl;omega) (by rw[f.h];exact Z N) (by omega) f.aE (by rw[f.code];exact cx) (by rw[f.ao];exact a4) (x.load k) rfl);clear d1;replace f:=J f;replace b:=J b;replace Q:=J Q;replace z:=J z;replace hm:=J hm;go_wp2_with fail;refine(Z G).mono ?_;rintro e w2⟨rfl,rfl⟩;go_wp2_with fail;refine(Z br).mono ?_;rintro e w3⟨a6,n6,c6,a7,n7,c7,dx,v3,rfl,i,ax⟩;have A:=(Z b).I4 dk i ax;have I:n7=(x.load k).ps.length:=by
   obtain⟨a',c',e'⟩:=i.ps.slice;exact(fS e').2.1
  by_cases h0:(x.load k).ps.length=0
  ·have B:=Z z;rw[aM h0]at B;have e0:((n7:Int)==0)=true:=by rw[I,h0];rfl
   have bj:Hid (R (.returned (.slice a5 q.length c5)) w3):=J (by rw[Z O,<-B];exact A.post);clear B ax br;replace i:=J i;replace A:=J A;replace I:=J I;replace h0:=J h0;go_wp2_with fail;exact Z bj
  have B:=Z z;rw[ay h0]at B;have e0:((n7:Int)==0)=false:=by rw[I];simpa using h0
  have bt:=(Z f).cU;have dE:=J ((Z f).fN U a4 b7 b5 (by omega));have bx:=J (I2 w3 p sb w.heap.size k dx v3 _ A.side A.dA.aq.size a7 n7 c7 (x.load k).ps (i.ps.low (Z b).dA.aq.size) i.a7 (by simp only;omega) (by have:=(Z f).fl;simp only;omega));simp only at bx;replace B:=J B;replace i:=J i;replace ax:=J ax;replace A:=J A;replace I:=J I;replace h0:=J h0;replace bt:=J bt;clear br G;go_wp2_with fail;refine(Z bx).mono ?_;rintro e w4⟨rfl,dG,v4,K,a0,bz⟩;have S:=(Z A).I5 K a0 (λj ha=>by
   obtain h|h|h:=bz j ha
   exact .inl h;exact .inr (.inl h)
   ·have h1:=((Z i).ps.lt j h).1;refine .inr (.inr ⟨λe=>by have:=((Z b).ls.own.lt j e).2;omega,by have:=(Z b).dl;omega,λe he e2=>by have:=(Z b).ls.at_.lt he;omega⟩))
  have bL:bh w4 a6 n6 c6 (x.load k).fr:=((Z i).fr.aq a0.aq (λj e h=>(Z i).a6 j e (.inl h))).fB;have bM:∀y∈(x.load k).fr,W8 y:=(Z i).fr.1;have bP:=(Z f).ld U a4 b7 b5;have ez:(x.load k).fr.length<=1000:=by have:=bP.fl;have:=(Z f).ao;omega
  have a1:di x.s.key:=by rw[(Z f).key];exact cv
  have ca:=J (xH w4 sb x.s.key x.s.first a1 (K.pS a1) ((aU K.aG _).trans K.gQ) x.s.count (by have:=Z bt;unfold aR;omega) a6 n6 c6 (x.load k).fr bL (by omega));clear bx;replace K:=J K;replace a0:=J a0;replace bz:=J bz;replace S:=J S;replace bL:=J bL;replace bP:=J bP;replace bM:=J bM;replace a1:=J a1;go_wp2_with fail;refine(Z ca).mono ?_;rintro e w5⟨g,rfl,hg,bS,g5⟩;clear ca;obtain⟨L,hL⟩:=exq ((x.load k).fr.length+16);rw[<-hL];obtain⟨bs,M⟩:=exq (cT x.s.key (sd x.s.first) x.s.count (x.load k).fr);rw[<-M]at bS;have b0:bs.length=L:=by rw[M,m8,hL]
  have cf:∀y∈bs,W8 y:=by rw[M];exact s9 (Z bM)
  obtain⟨W6,a2⟩:=exq (w5.alloc (.cells #[.slice (some ⟨g,0,none⟩) L L] 112));have g6:w5.grownBy W6 none:=by rw[a2];exact aC _ _ _
  have cg:W6.heap[w5.heap.size]?=some (.cells #[.slice (some ⟨g,0,none⟩) L L] 112 (0,0)):=by rw[a2];exact aH _ _
  have b3:=aj g5 g6;have b4:=(Z S).gb b3;have ch:q.length+[(g,bs)].length<=100000000:=by
   have h1:q.length=x.l.length:=by have:=fj List.length (Z S).el;rw[dY]at this;exact this
   have h2:=Z ds;simp only[dJ,fH]
   omega
  obtain⟨ee,eg,ei,w7,a3,o7,g7,cj⟩:=xu (w:=W6) 206 w.heap.size _ q b4.ls.own ⟨w5.heap.size,0,none⟩ 1 [(g,bs)] (λj u hj=>by
   have ej:j=0:=by have:=(iX.1 hj).1;simpa using this
   subst ej;have hu:u=jE (g,bs):=by simpa using hj.symm
   subst hu;rw[Addr.add_mid];unfold jE;simp only[b0]
   simp[World.cell?,cg]) ch b4.dA.aq.size
  have cp:=(Z S).app (e:=(g,bs)) b3 hg (bf bS g6) cf o7 g7 cj;have hrel:Hid (∃(T:Pz)(m2:Nat)(P:Array Value)(t:aQ)(ek:List El),lG s k T/\j6 w p sb D v T (.slice ee eg ei) w7 P t ek/\11-(x.s.az.length+1)=11-T.s.az.length/\11-T.s.az.length<=m2/\iB k m2 T=r):=J (by
   refine⟨x.fN k,m',dG,v4,q++[(g,bs)],Z dE,?_,?_,?_,Z B⟩
   unfold Pz.fN;rw[<-M];exact cp;unfold Pz.fN;simp
   ·have:=Z hm;unfold Pz.fN;simp;omega)
  rw[a2]at a3;replace a3:=J a3;clear b4 cp cg a2 bS o7 g7 cj ch cf b3 g6 g5 hg;replace b0:=J b0;replace M:=J M;replace hL:=J hL;go_wp2_with (at_builtin;refine oR (by rfl) 206 206 (by rfl) _ _ (by rfl) _ _ _ (by rfl) (by rfl) (Z a3) ?_);go_roundg (11-(x.s.az.length+1));case measure=>omega
  case rel=>exact Z hrel
end
section
variable{A:Addr}{Y:List Rg}{i k m:Nat}{a:Option Addr}{w:World}
theorem I8(a:Option Addr)(n cap i:Nat)(h:i<=cap)(W:World):(Instr.slice 133 (.slice a n cap) none (some (.int .i64 (i:Int))) (some (.int .i64 (i:Int)))).run prog W=.ok (.slice a i i) W:=by
 rw[run_slice_hm W 133 a n cap (by rw[uV];exact underlying133) .i64 .i64 (i:Int) (i:Int) (by omega) (fI _) (by omega),uV,Br];simp only[ic,sliced,jP,mK,Nat.sub_zero]
 congr 1;cases a with
 |none=>simp
 |some y=>simp[Addr.add]
theorem I9(a:Option Addr)(n cap j:Nat)(h:j<=n)(W:World):(Instr.slice 133 (.slice a n cap) (some (.int .i64 (j:Int))) none none).run prog W=.ok (.slice (if cap=j then a else a.map (·.add (j*2))) (n-j) (cap-j)) W:=by
 rw[run_slice_l W 133 a n cap (by rw[uV];exact underlying133) .i64 (j:Int) (by omega) (by omega),uV,Br];simp only[ic,sliced,jP]
theorem ba.Ja(h:ba w a k i Y)(m:Nat)(c:m<=k):ba w a m m (Y.take m):=by
 obtain⟨d,e,f,g,b⟩:=h.head m c;refine⟨d,e,aI _,by omega,?_⟩
 obtain b|b:=b
 exact .inl (by omega);exact .inr b
theorem ba.rest(h:ba w a k i Y)(m:Nat)(c:m<=k):ba w (if i=m then a else a.map (·.add (m*2))) (k-m) (i-m) (Y.drop m):=by
 refine h.back m c ?_;by_cases d:i=m;left;omega;right;obtain⟨-,-,e,-,f|⟨b,o,rfl,-⟩⟩:=h;omega;exact⟨b,o,rfl,by rw[ay d];simp[Addr.add_mid]⟩
theorem Jb(h:(if k=m then a else a.map (·.add (m*2)))=some A):∃z,a=some z/\z.block=A.block:=by
 split at h;exact⟨A,h,rfl⟩
 cases a with
 |none=>cases h
 |some z=>
  refine⟨z,rfl,?_⟩
  simp only[qN,kM]at h;rw[<-h];unfold Addr.add;split<;>rfl
theorem Bv(h:iL Y)(m:Nat)(b:m<Y.length):iL (Y.drop m):=by
 have e:∀i,au (Y.drop m) i=au Y (m+i):=λi=>by simp[au,List.getD,qg]
 refine⟨by rw[dO];omega,λi hi=>?_⟩
 rw[dO]at hi;have a:=h.2 (m+i) (by omega);unfold mj at a⊢;rw[e,e];refine⟨a.1,a.2.1,λh0=>?_⟩
 have:=a.2.2 (by omega);rw[show m+(i-1)=m+i-1 by omega];exact this
theorem Bw(L:List Rg)(k i:Nat)(b:k<=L.length)(hi:i<k):au (fW L k) i=⟨(au L (L.length-1-i)).lo,(au L (L.length-1-i)).hi-1⟩:=by
 induction k with
 |zero=>omega
 |succ k a=>
  unfold fW;by_cases h:i<k;rw[<-a (by omega) h];simp only[au,List.getD]
  rw[nk (by rw[lV];exact h)];obtain rfl:i=k:=by omega
  simp only[au,List.getD]
  rw[kZ (by rw[lV];omega),lV,qO];rfl
theorem By(L:List Rg)(h:aZ L)(h0:0<L.length)(b:∀r∈L,0<=r.lo/\r.hi<=4611686018427387904):iL (fW L L.length):=by
 refine⟨by rw[lV];exact h0,λi hi=>?_⟩
 rw[lV]at hi;have a:=mm (Y:=L) (i:=L.length-1-i) (by omega);have c:=h.2 _ a;have d:=b _ a;unfold mj;rw[Bw L _ i (aI _) hi];simp only
 refine⟨by omega,by omega,λe=>?_⟩
 rw[Bw L _ (i-1) (aI _) (by omega)];simp only
 have f:=h.lt (i:=L.length-1-i) (k:=L.length-1-(i-1)) (by omega) (by omega);omega
theorem Bz(w:World)(l sb:Nat)(cs:Array Value)(v:aQ)(s:Sd)(H:bg w l sb cs v s)(m:0<=s.count/\s.count<=4611686018427387903):
 Calls prog 205 #[.pointer (some ⟨sb,91,none⟩)] w λr b=>r=.returned (.int .u64 s.count)/\w.grownBy b (some sb)/\bg b l sb (cs.setIfInBounds 91 (.int .u64 (s.count+1))) v {s with count:=s.count+1}:=by
 refine(zQ w sb 91 cs _ s.count H.aG H.fl.c0 m).mono ?_;rintro r b⟨rfl,g,p⟩;refine⟨rfl,g,?_⟩
 have z:(95:Nat)<cs.size:=by rw[H.sz];omega
 have a:∀i,i≠91->(cs.setIfInBounds 91 (.int .u64 (s.count+1)))[i]?=cs[i]? :=λi h=>bk (by omega)
 have C:ak w b (λk=>k=sb):=(ak.of g).mono (λk _ e=>(aJ e).symm);have d:∀j,j=sb->bV sb v j:=λj h=>.inl h
 refine⟨p,by simp[H.sz],(a 0 (by omega)).trans H.c0,(a 1 (by omega)).trans H.c1,λi hi=>(a _ (by omega)).trans (H.key i hi),(a 18 (by omega)).trans H.gQ,λj f=>?_,λj f=>?_,?_,H.az,H.lost,(a 96 (by omega)).trans H.mU,?_,(a 97 (by omega)).trans H.nG,(a 98 (by omega)).trans H.kr,(a 99 (by omega)).trans H.dq,(a 100 (by omega)).trans H.oM,?_,bC H.bl g.size⟩
 exact H.sF C d j f (λi q t=>a i (by omega)) (λk e h=>H.bd.gH j (by omega) (h▸e));exact H.sH C d j f (λi q t=>a i (by omega)) (λk e h=>H.bd.gH (4+j) (by omega) (h▸e));exact⟨cB (by omega),(a _ (by omega)).trans H.fl.c1,(a _ (by omega)).trans H.fl.c2,(a _ (by omega)).trans H.fl.c3,(a _ (by omega)).trans H.fl.c4,H.fl.of.aq C (λk e h=>H.bd.gH 8 (by omega) (h▸e)),H.fl.ol.aq C (λk e h=>H.bd.gH 9 (by omega) (h▸e))⟩
 exact oK H.mV C (λy n c e=>⟨λh=>(H.bd.da 8 (by omega) y n c e).1 (d _ h),(H.bd.da 8 (by omega) y n c e).2⟩);have G:=H.bd;refine⟨bK G.fu C.size,λi hi k e=>bK (G.lt i hi k e) C.size,G.gH,G.sep,λi hi y n c e=>⟨(G.da i hi y n c e).1,bK (G.da i hi y n c e).2 C.size⟩,G.fm.aq C (λk _ e=>.inl e)⟩
structure Ak where
 s:Sd
 rest:List Rg
 l:List (List Int)
def bA(l:List Rg):Fr:=⟨3,0,0,0,false,⟨#[]⟩,l⟩
def Ak.n(x:Ak):Nat:=jH x.rest (x.s.ao-16) x.rest.length
def Ak.step(x:Ak):Ak:=⟨{x.s with count:=x.s.count+1},x.rest.drop x.n,x.l++[cT x.s.key (sd x.s.first) x.s.count (bu [bA (x.rest.take x.n)])]⟩
def lW:Nat->Ak->Ak
 |0,x=>x
 |m+1,x=>if x.rest.length=0 then x else lW m x.step
def Sd.eX(s:Sd):Ak:=if s.dU then lW 10 ⟨{s with dU:=false},fW s.ag s.ag.length,[]⟩else⟨s,[],[]⟩
structure gY(w0:World)(base sb:Nat)(v0 v:aQ)(x:Ak)(v3:Value)(a:Option Addr)(n c:Nat)(W:World)(cs:Array Value)(els:List El):Prop where
 side:bg W base sb cs v x.s
 dA:cP w0.heap.size w0 W sb v0 v
 ls:eO W w0.heap.size sb v els v3
 el:els.map (·.2)=x.l
 rs:ba W a n c x.rest
 ra:x.rest≠[]->∀y,a=some y->w0.heap.size<=y.block/\v3.ownBlock≠some y.block
section
variable {w0:World} {base sb:Nat} {v0 v:aQ} {x:Ak} {v3:Value} {a:Option Addr} {n c:Nat} {W W':World} {cs:Array Value} {els:List El}
theorem gY.gb(h:gY w0 base sb v0 v x v3 a n c W cs els)(g:W.grownBy W' none):gY w0 base sb v0 v x v3 a n c W' cs els:=
 ⟨h.side.ah g,h.dA.trans (cP.ah g),h.ls.gb g,h.el,h.rs.ah g,h.ra⟩
theorem gY.num(h:gY w0 base sb v0 v x v3 a n c W cs els)(j:sb<w0.heap.size){b:Sd}{d:Array Value}(i:bg W' base sb d v b)(g:W.grownBy W' (some sb)):gY w0 base sb v0 v {x with s:=b} v3 a n c W' d els:=by
 have C:ak W W' (bV sb v):=(ak.of g).mono (λk _ e=>.inl (aJ e).symm);refine⟨i,h.dA.trans ⟨C,λ_ h=>.inl h,λ_ h=>.inl h⟩,h.ls.next (X:=λ_=>False) (C.mono (λ_ _ h=>.inl h)) (λ_ _=>id) (λ_ _=>id) (λ_ h=>.inl h),h.el,h.rs.cW (λhl y f=>g.block _ (by subst f;exact h.rs.lt hl) (λe=>by have:=(h.ra hl y f).1;have:=aJ e;omega)),h.ra⟩
theorem gY.app(h:gY w0 base sb v0 v x v3 a n c W cs els){d p:World}(q:W.grownBy d none){e:El}(A:W.heap.size<=e.1)(r:d.heap[e.1]?=some (.cells (bv e.2).toArray 5 (0,0)))(s:∀y∈e.2,W8 y){m:Value}(t:dZ p w0.heap.size m (els++[e]))(g:d.grownBy p v3.ownBlock)(f:m.ownBlock=v3.ownBlock\/m.ownBlock=some d.heap.size):gY w0 base sb v0 v {x with l:=x.l++[e.2]} m a n c p cs (els++[e]):=by
 have b:=h.gb q;have B:=h.dA.aq.size;have u:gI d w0.heap.size [e]:=⟨λy w=>by rw[dB.1 w];exact⟨by omega,s,r⟩,List.pairwise_singleton _ _⟩
 have z:=b.ls.app u (λk=>by have:=mT h.side.bd k;omega) (λe1=>by have:=(h.ls.own.lt _ e1).2;omega) (λa k e1=>by have:=h.ls.at_.lt k;omega) (λj k=>mT b.side.bd k) t g f;refine⟨b.side.other (ak.of g) (λj _ e1=>b.ls.a5 j e1),⟨?_,b.dA.ft,b.dA.ar⟩,z,by rw[mf,h.el];rfl,b.rs.cW (λhl y i=>g.block _ (by subst i;exact b.rs.lt hl) (λe1=>(b.ra hl y i).2 e1.symm)),λhl y i=>⟨(b.ra hl y i).1,λe1=>?_⟩⟩
 exact(b.dA.aq.trans (ak.of g)).mono (λj C e1=>e1.elim id (λe1=>by have:=(b.ls.own.lt j e1).1;omega));obtain f|f:=f
 rw[f]at e1;exact(b.ra hl y i).2 e1;rw[f]at e1;have:=aJ e1;have:y.block<d.heap.size:=by subst i;exact b.rs.lt hl
 omega
theorem gY.cut(h:gY w0 base sb v0 v x v3 a n c W cs els)(m:Nat)(b:m<=n):gY w0 base sb v0 v {x with rest:=x.rest.drop m} v3 (if c=m then a else a.map (·.add (m*2))) (n-m) (c-m) W cs els:=
 ⟨h.side,h.dA,h.ls,h.el,h.rs.rest m b,λhl y d=>by
  obtain⟨z,f,e⟩:=Jb d;rw[<-e];exact h.ra (λe0=>hl (by simp only;rw[e0,List.drop_nil])) z f⟩
end
def uW(w0:World)(base sb:Nat)(v0 v:aQ)(x:Ak)(a:Option Addr)(n c:Nat)(v3:Value)(W:World):Prop:=∃cs els,gY w0 base sb v0 v x v3 a n c W cs els
theorem BA{w0:World}{base sb:Nat}{v0 v:aQ}{x:Ak}{v3:Value}{a:Option Addr}{n c:Nat}{p m b:World}{cs:Array Value}{els:List El}(q:gY w0 base sb v0 v x v3 a n c p cs els){l:List Int}{num:Int}{key:List Int}{f:Bool}(r:p.grownBy m none)(C:m.grownBy b none){g:Nat}(D:m.heap.size<=g)(E:b.heap[g]?=some (.cells (bv (cT key (sd f) num l)).toArray 5 (0,0)))(F:∀y∈l,W8 y)(hl:els.length<=1000):
 ∃h i k d,(Builtin.append_ #[206,206] 206 #[v3,.slice (some ⟨b.heap.size,0,none⟩) 1 1]).run prog (b.alloc (.cells #[.slice (some ⟨g,0,none⟩) (l.length+16) (l.length+16)] 112))=.ok (.slice h i k) d/\uW w0 base sb v0 v {x with l:=x.l++[cT key (sd f) num l]} a n c (.slice h i k) d/\(b.alloc (.cells #[.slice (some ⟨g,0,none⟩) (l.length+16) (l.length+16)] 112)).grownBy d v3.ownBlock:=by
 have G:(b.alloc (.cells #[.slice (some ⟨g,0,none⟩) (l.length+16) (l.length+16)] 112)).heap[b.heap.size]?=some (.cells #[.slice (some ⟨g,0,none⟩) (l.length+16) (l.length+16)] 112 (0,0)):=aH _ _;have s:b.grownBy (b.alloc (.cells #[.slice (some ⟨g,0,none⟩) (l.length+16) (l.length+16)] 112)) none:=aC _ _ _;generalize b.alloc (.cells #[.slice (some ⟨g,0,none⟩) (l.length+16) (l.length+16)] 112)=H at *;have t:=aj r (aj C s);have z:=q.gb t;obtain⟨h,i,k,d,I,o,A,K⟩:=xu (w:=H) 206 w0.heap.size v3 els z.ls.own ⟨b.heap.size,0,none⟩ 1 [(g,cT key (sd f) num l)] (λj u B=>by
  have L:j=0:=by have:=(iX.1 B).1;simpa using this
  subst L;have M:u=jE (g,cT key (sd f) num l):=by simpa using B.symm
  subst M;rw[Addr.add_mid];unfold jE;simp only[m8]
  simp[World.cell?,G]) (by simp only[dJ,fH];omega) z.dA.aq.size
 exact⟨h,i,k,d,I,⟨_,_,q.app (e:=(g,cT key (sd f) num l)) t (bC r.size D) (bf E s) (s9 F) o A K⟩,A⟩
structure uX(s0:Sd)(x:Ak):Prop where
 ao:x.s.ao=s0.ao
 key:x.s.key=s0.key
 xJ:x.rest≠[]->iL x.rest
 rl:x.rest.length<=8
 cU:0<=x.s.count/\x.s.count+x.rest.length<=4611686018427387000
 ll:x.l.length+x.rest.length<=8
theorem Jc(l:List Rg)(a:Int)(m:Nat):jH l a m<=m:=by
 induction m with
 |zero=>exact aI _
 |succ m b=>unfold jH;split<;>omega
def BB(w:World)(base sb:Nat)(v:aQ)(r:Ak)(e:Ending)(b:World):Prop:=
 ∃a n c f d els,e=.returned (.slice a n c)/\bg b base sb f d r.s/\cP w.heap.size w b sb v d/\eO b w.heap.size sb d els (.slice a n c)/\els.map (·.2)=r.l
theorem Jd{w:World}{a:Option Addr}{n c:Nat}{l:List Rg}(h:ba w a n c l)(b:iL l)(hl:l.length<=8):cV w (bA l) (.slice a n c)/\dm (bA l)/\fk [bA l]<=30000000:=by
 have d:=h.2.1;subst d;refine⟨⟨⟨by simp[gC,bA],by simp[gC,bA],by simp[aR,bA],by simp[aR,bA],h.1⟩,by simp[bA,ByteArray.size],a,c,rfl,h⟩,⟨⟨by simp[bA],by simp[bA],by simp[bA],by simp[bA]⟩,⟨λ_=>b,λe=>by simp[bA]at e⟩,by simp[bA],by simp[bA]⟩,?_⟩
 simp[fk,lS,bA,ByteArray.size];omega
theorem Je(w:World)(base sb:Nat)(cs:Array Value)(v:aQ)(s:Sd)(H:bg w base sb cs v s)(eo:di s.key)(fc:56<=s.ao/\s.ao<=1000)(ff:0<=s.count/\s.count<=4611686018427386000)(ep:s.ag.length<=8)(S:aZ s.ag)(T:∀r∈s.ag,0<=r.lo/\r.hi<=4611686018427387904):
 Calls prog 158 #[.pointer (some ⟨sb,0,none⟩)] w (BB w base sb v s.eX):=by
 obtain⟨r,d⟩:=exq s.eX;rw[<-d];obtain⟨R,M⟩:=exq (BB w base sb v r);rw[<-M];replace M:=J M;have d98:=(aU H.aG _).trans H.kr;unfold Sd.eX at d;cases ho:s.dU
 ·rw[ho]at d98 d;simp only[gM,gp]at d;have bx:Hid (R (.returned (.slice none 0 0)) w):=J (by
   rw[Z M,d];exact⟨none,0,0,cs,v,[],rfl,H,cP.rfl' _ _ _ _,eO.nil _ _ _ _,rfl⟩)
  clear d;replace H:=J H;go_enter func158,ntmps158;go_wp2_with fail;exact Z bx
 rw[ho]at d98 d;simp only[fJ]at d;have f98:w.frozen? ⟨sb,98,none⟩=false:=by simp[World.frozen?,H.aG]
 obtain⟨U,V⟩:=exq (w.setCell ⟨sb,98,none⟩ (.bool false));have g1:w.grownBy U (some sb):=by rw[V];exact aD (av _ _) _ _ (.inr rfl)
 have bz:U.heap[sb]?=some (.cells (cs.setIfInBounds 98 (.bool false)) 241 (0,0)):=by rw[V];exact heap_set H.aG _
 have ew:(98:Nat)<cs.size:=by rw[H.sz];omega
 have H1:dD w.heap.size w base sb v {s with ag:=s.ag,floor:=s.floor,dU:=false} U:=H.zV (v.set 8) s.ag s.floor false bz (by simp) (λi hi=>bk (by omega)) (by rw[bk (by omega)];exact H.mU) (by rw[bk (by omega)];exact H.nG) (cB ew) ((ak.of g1).mono (λk _ e=>(aJ e).symm)) (oK H.mV ((ak.of g1).mono (λk _ e=>(aJ e).symm)) (λy n c e=>⟨λh=>(H.bd.da 8 (by omega) y n c e).1 (.inl h),(H.bd.da 8 (by omega) y n c e).2⟩)) (.inl rfl);obtain⟨cw,t,G,cx⟩:=H1;have ez:=H.bd.fu;obtain⟨ca,cn,cc,bL,X⟩:=G.mV;have d96:=(aU G.aG _).trans G.mU;rw[bL]at d96;have bM:∀r∈s.ag,1<=r.hi:=λr d=>by have:=S.2 r d;have:=T r d;omega
 have cy:=J (Hm U sb 96 ca cn cc s.ag d96 X bM (by have fo:cn=s.ag.length:=X.2.1;omega));have cR:Hid (uX s ⟨{s with dU:=false},fW s.ag s.ag.length,[]⟩):=J ⟨rfl,rfl,λA=>By _ S (by
  obtain h|h:=Nat.eq_zero_or_pos s.ag.length
  exact absurd (fR (by rw[lV];exact h)) A
  ·exact h) T,by simp only[lV];exact ep,by simp only[lV];omega,by simp only[lV,fH];omega⟩
 replace S:=J S;replace T:=J T;replace bM:=J bM;replace d:=J d;replace H:=J H;replace G:=J G;replace bz:=J bz;replace X:=J X;replace bL:=J bL;clear g1;go_enter func158,ntmps158;go_upto_region 4 with fail;rw[<-V];clear V d98 f98;go_wp2_with fail;refine(Z cy).mono ?_;rintro e w2⟨rv,rfl,Y,g2⟩;obtain⟨ra,rc,rfl⟩:∃ra rc,rv=.slice ra (fW s.ag s.ag.length).length rc:=by
  obtain⟨-,-,⟨rfl,e2⟩|⟨g,cap,fq,rfl,_⟩⟩:=id Y;exact⟨none,0,by rw[e2]⟩
  exact⟨_,_,rfl⟩
 have db:Hid (gY w base sb v t ⟨{s with dU:=false},fW s.ag s.ag.length,[]⟩ (.slice none 0 0) ra (fW s.ag s.ag.length).length rc w2 cw []):=J ⟨(Z G).ah g2,cx.trans (cP.ah g2),eO.nil _ _ _ _,rfl,Y.km.1,λ_ y ey=>⟨by have:=Y.km.2 y ey;have:=cx.aq.size;omega,λe=>by cases e⟩⟩;clear cy Y g2;have al:=lV s.ag s.ag.length;obtain⟨rl,bP⟩:=exq (fW s.ag s.ag.length);rw[<-bP]at db cR d al;rw[<-bP];clear bP;replace al:=J al;go_upto_region 6 with fail;go_loopg [3,4] rl.length (λg v3 v4 wr=>∃(x:Ak)(m:Nat)(ax:Array Value)(els:List El)(a:Option Addr)(c:Nat),v4=.slice a x.rest.length c/\uX s x/\gY w base sb v t x v3 a x.rest.length c wr ax els/\g=x.rest.length/\x.rest.length+1<=m/\lW m x=r);case atStart=>exact⟨_,10,cw,[],ra,rc,rfl,Z cR,Z db,rfl,by have:=Z al;simp only;omega,(Z d).symm⟩
 case round=>
  obtain⟨x,m,ax,els,a,c,rfl,f,b,rfl,bS,hl⟩:=hrel;obtain⟨m',eK⟩:∃m',m=m'+1:=⟨m-1,by omega⟩
  have C:(if x.rest.length=0 then x else lW m' x.step)=r:=by rw[<-hl,eK];rfl
  obtain⟨I,c3,rfl⟩:=b.ls.slice;by_cases h0:x.rest.length=0
  ·rw[aM h0]at C;have bx:Hid (R (.returned (.slice I els.length c3)) wr):=J (by rw[Z M,<-C];exact⟨I,_,c3,ax,t,els,rfl,b.side,b.dA,b.ls,b.el⟩);have d0:decide (0<x.rest.length)=false:=bB (by omega);clear C hl;replace f:=J f;replace b:=J b;replace h0:=J h0;go_wp2_with fail;exact Z bx
  rw[ay h0]at C;have d0:decide (0<x.rest.length)=true:=bp (by omega);have A:x.rest≠[]:=λe=>h0 (by rw[e];rfl)
  have fs:=f.rl;have b0:x.s.ao=s.ao:=f.ao;have de:=J (AN wr sb x.s.ao ((aU b.side.aG _).trans b.side.c0) (by omega));have dg:=J (λW(g:wr.grownBy W none)=>I7 W a x.rest.length c x.rest (b.rs.ah g) (f.xJ A) (by omega) (x.s.ao-16) (by omega));have fv:x.rest.length<=c:=b.rs.2.2.1;replace b0:=J b0;replace f:=J f;replace b:=J b;replace C:=J C;replace hl:=J hl;replace A:=J A;replace bS:=J bS;go_wp2_with fail;refine(Z de).mono ?_;rintro e w3⟨rfl,g3⟩;go_wp2_with fail;refine(Z dg _ g3).mono ?_;rintro e N⟨⟨q,rfl,hq,fy,a0,b3⟩,g4⟩;have a1:q=x.n:=hq;have fA:∀W,(Instr.slice 133 (.slice a x.rest.length c) none (some (.int .i64 (q:Int))) (some (.int .i64 (q:Int)))).run prog W=.ok (.slice a q q) W:=λW=>I8 a _ c q (by omega) W
  obtain⟨O,a2⟩:=exq (N.alloc (.cells #[.int .i64 3,.int .i64 0,.int .u64 0,.int .u64 0,.bool false,.string ⟨#[]⟩,.slice a q q] 158));have g5:N.grownBy O none:=by rw[a2];exact aC _ _ _
  have a3:O.heap[N.heap.size]?=some (.cells #[.int .i64 3,.int .i64 0,.int .u64 0,.int .u64 0,.bool false,.string ⟨#[]⟩,.slice a q q] 158 (0,0)):=by rw[a2];exact aH _ _
  have eL:=aj g3 (aj g4 g5);have P:=(Z b).gb eL;clear de dg hq ez;replace b3:=J b3;replace a1:=J a1;replace a3:=J a3;replace P:=J P;go_upto_region 9 with fail;rw[<-a2];clear a2;have b4:sb<w.heap.size:=(Z H).bd.fu;have dk:N.heap.size≠sb:=by have:=(Z P).dA.aq.size;have:=(Z b).dA.aq.size;have:=g3.size;have:=g4.size;omega
  obtain⟨F,hF⟩:=exq N.heap.size;rw[<-hF]at a3 dk;rw[<-hF];have eV:Hid ((Value.slice I els.length c3).ownBlock≠some F):=J (λe=>by have:=((Z b).ls.own.lt F e).2;have:=g3.size;have:=g4.size;omega);clear hF;have k0:∀W:World,W.heap[F]?=some (.cells #[.int .i64 3,.int .i64 0,.int .u64 0,.int .u64 0,.bool false,.string ⟨#[]⟩,.slice a q q] 158 (0,0))->W.cell? ⟨F,0,none⟩=some (.int .i64 3):=λW h=>(cH h).1
  have k1:∀W:World,W.heap[F]?=some (.cells #[.int .i64 3,.int .i64 0,.int .u64 0,.int .u64 0,.bool false,.string ⟨#[]⟩,.slice a q q] 158 (0,0))->W.cell? ⟨F,1,none⟩=some (.int .i64 0):=λW h=>(cH h).2.1
  have k2:∀W:World,W.heap[F]?=some (.cells #[.int .i64 3,.int .i64 0,.int .u64 0,.int .u64 0,.bool false,.string ⟨#[]⟩,.slice a q q] 158 (0,0))->W.cell? ⟨F,2,none⟩=some (.int .u64 0):=λW h=>(cH h).2.2.1
  have k3:∀W:World,W.heap[F]?=some (.cells #[.int .i64 3,.int .i64 0,.int .u64 0,.int .u64 0,.bool false,.string ⟨#[]⟩,.slice a q q] 158 (0,0))->W.cell? ⟨F,3,none⟩=some (.int .u64 0):=λW h=>(cH h).2.2.2.1
  have k4:∀W:World,W.heap[F]?=some (.cells #[.int .i64 3,.int .i64 0,.int .u64 0,.int .u64 0,.bool false,.string ⟨#[]⟩,.slice a q q] 158 (0,0))->W.cell? ⟨F,4,none⟩=some (.bool false):=λW h=>(cH h).2.2.2.2.1
  have k5:∀W:World,W.heap[F]?=some (.cells #[.int .i64 3,.int .i64 0,.int .u64 0,.int .u64 0,.bool false,.string ⟨#[]⟩,.slice a q q] 158 (0,0))->W.cell? ⟨F,5,none⟩=some (.string ⟨#[]⟩):=λW h=>(cH h).2.2.2.2.2.1
  have k6:∀W:World,W.heap[F]?=some (.cells #[.int .i64 3,.int .i64 0,.int .u64 0,.int .u64 0,.bool false,.string ⟨#[]⟩,.slice a q q] 158 (0,0))->W.cell? ⟨F,6,none⟩=some (.slice a q q):=λW h=>(cH h).2.2.2.2.2.2
  have dn:=(Z f).cU;have ds:=J (Bz O.drew base sb ax t x.s ((Z P).side.ah (aP (av _ none))) (by omega));have du:=J (λj D(S6:bg j base sb D t {x.s with count:=x.s.count+1})(g:O.drew.grownBy j (some sb))=>((Z P).gb (aP (av _ none))).num b4 S6 g);have a4:=J (λj D(p:gY w base sb v t ⟨{x.s with count:=x.s.count+1},x.rest,x.l⟩ (.slice I els.length c3) a x.rest.length c j D els)=>by
   have b5:=Jd (p.rs.Ja q a0) (xI ((Z f).xJ (Z A)) q (by omega) a0) (by rw[cC];have:=(Z f).rl;omega);exact xw j (bA (x.rest.take q)) (.slice a q q) b5.1 b5.2.1 b5.2.2)
  have a8:di x.s.key:=by rw[(Z f).key];exact eo
  have b6:els.length<=1000:=by
   have h1:els.length=x.l.length:=by have:=fj List.length (Z b).el;rw[dY]at this;exact this
   have:=(Z f).ll;omega
  have e3:(bu [bA (x.rest.take q)]).length<=1000:=by
   have e:bu [bA (x.rest.take q)]=2::fC (x.rest.take q):=by simp[bu,cZ,bA]
   rw[e,dJ];have:=Z b0;have:=Z b3;omega
  have b7:=J (λj z D(p:gY w base sb v t ⟨{x.s with count:=x.s.count+1},x.rest,x.l⟩ (.slice I els.length c3) a x.rest.length c j D els)(u:j.grownBy z none)(a7:Option Addr)(n7 c7:Nat)(K:aX z j.heap.size (.slice a7 n7 c7) (bu [bA (x.rest.take q)]))=>xH z sb x.s.key x.s.first a8 ((p.side.ah u).pS a8) ((aU (p.side.ah u).aG _).trans (p.side.ah u).gQ) x.s.count (by unfold aR;omega) a7 n7 c7 _ K.fB (by omega));have b8:=J (λj z w8 D(p:gY w base sb v t ⟨{x.s with count:=x.s.count+1},x.rest,x.l⟩ (.slice I els.length c3) a x.rest.length c j D els)(u:j.grownBy z none)(g8:z.grownBy w8 none)(g:Nat)(hg:z.heap.size<=g)(bb:w8.heap[g]?=some (.cells (bv (cT x.s.key (sd x.s.first) x.s.count (bu [bA (x.rest.take q)]))).toArray 5 (0,0)))(hw:∀y∈bu [bA (x.rest.take q)],W8 y)=>BA p u g8 hg bb hw b6);obtain⟨B,hB⟩:=exq (bu [bA (x.rest.take q)]);rw[<-hB]at a4 b7 b8 e3;have dx:bF (bA (x.rest.take q)) (.slice a q q)= #[.int .i64 3,.int .i64 0,.int .u64 0,.int .u64 0,.bool false,.string ⟨#[]⟩,.slice a q q]:=rfl;rw[dx]at a4;clear dx;obtain⟨bj,hZ⟩:∃bj:Value->World->Prop,bj=λbr W=>∃a' n' c',br=.slice a' n' c'/\uW w base sb v t ⟨{x.s with count:=x.s.count+1},x.rest,x.l++[cT x.s.key (sd x.s.first) x.s.count B]⟩ a x.rest.length c br W:=⟨_,rfl⟩
  replace hZ:=J hZ;replace hB:=J hB;replace b4:=J b4;replace dn:=J dn;replace a8:=J a8;replace b6:=J b6;have bt:O.drew.heap[F]?=some (.cells #[.int .i64 3,.int .i64 0,.int .u64 0,.int .u64 0,.bool false,.string ⟨#[]⟩,.slice a q q] 158 (0,0)):=Z a3;go_cut [3] (λbr wx=>bj br wx);case first=>
   go_region_held3 (λw'=>w'.heap[F]?=some (.cells #[.int .i64 3,.int .i64 0,.int .u64 0,.int .u64 0,.bool false,.string ⟨#[]⟩,.slice a q q] 158 (0,0)))
    (first|with_reducible exact e4|with_reducible exact cf|with_reducible exact dE|with_reducible exact dG|with_reducible exact ee|with_reducible exact bt)
    (first
      |(go_at_call 205;refine(Z ds).mono ?_;rintro e j⟨rfl,g6,S6⟩;have p:=J (Z du _ _ S6 g6);have ee:=(g6.block F (aO.1 bt).1 (λe=>dk (aJ e))).trans bt;clear S6)
      |(go_at_call 206;refine(Z a4 _ _ (Z p)).mono ?_;rintro e z⟨⟨a7,n7,c7,rfl,K⟩,u⟩;have dG:=bf ee u;have cg:=K.1;replace K:=J K;replace cg:=J cg)
      |(go_at_call 204;refine(Z b7 _ _ _ (Z p) u _ _ _ (Z K)).mono ?_;rintro e w8⟨g,rfl,hg,bb,g8⟩;have dE:=bf dG g8;obtain⟨a9,n9,c9,w9,ch,eg,g9⟩:=Z b8 _ _ _ _ (Z p) u g8 g hg bb (Z cg);have cf:=bf dE (aC w8 (.cells #[.slice (some ⟨g,0,none⟩) (B.length+16) (B.length+16)] 112) none);have e4:=(g9.block F (aO.1 cf).1 (λe=>Z eV e.symm)).trans cf;have e5:Hid (bj (.slice a9 n9 c9) w9):=J (by rw[Z hZ];exact⟨a9,n9,c9,rfl,eg⟩);clear bb hg eg;replace ch:=J ch)
      |(refine xt (by rfl) 206 206 (by rfl) _ _ (by rfl) _ _ _ (by rfl) (by rfl) (Z ch) ?_))
   all_goals go_wp2_with fail
   all_goals go_meet
   all_goals exact Z e5
  case rest=>
   rw[Z hZ]at hcut;obtain⟨a9,n9,c9,rfl,e6,e7,ei⟩:=hcut;have e8:∀W,(Instr.slice 133 (.slice a x.rest.length c) (some (.int .i64 (q:Int))) none none).run prog W=.ok (.slice (if c=q then a else a.map (·.add (q*2))) (x.rest.length-q) (c-q)) W:=λW=>I9 a _ c q a0 W
   have cj:=ei.cut q a0;have e9:Hid (uX s x.step):=J (by
    have Q:=Z f;have ga:=Q.cU;have gd:=Q.ll;have L:=Z a1;refine⟨Q.ao,Q.key,λh=>?_,?_,?_,?_⟩
    unfold Ak.step at h⊢;simp only at h⊢;rw[<-L]at h⊢;exact Bv (Q.xJ (Z A)) q (by
     obtain h1|h1:=Nat.lt_or_ge q x.rest.length
     exact h1
     ·exact absurd (tH h1) h)
    unfold Ak.step;simp only[dO,<-L];omega;unfold Ak.step;simp only[dO,<-L];omega
    ·unfold Ak.step;simp only[dO,<-L,bG,dJ,fH];omega)
   obtain⟨ej,cp⟩:=exq ((if c=q then a else a.map (·.add (q*2))));rw[<-cp]at e8 cj;have hrel:Hid (∃(E:Ak)(m2:Nat)(fa:Array Value)(fb:List El)(a':Option Addr)(c':Nat),(Value.slice ej (x.rest.length-q) (c-q))=.slice a' E.rest.length c'/\uX s E/\gY w base sb v t E (.slice a9 n9 c9) a' E.rest.length c' wc fa fb/\x.rest.length-q=E.rest.length/\E.rest.length+1<=m2/\lW m2 E=r):=J (by
    have L:=Z a1;have ek:x.step=⟨{x.s with count:=x.s.count+1},x.rest.drop q,x.l++[cT x.s.key (sd x.s.first) x.s.count B]⟩:=by
     unfold Ak.step;rw[<-L,Z hB]
    have cv:x.step.rest.length=x.rest.length-q:=by rw[ek];simp
    refine⟨x.step,m',e6,e7,ej,c-q,by rw[cv],Z e9,?_,cv.symm,?_,Z C⟩
    rw[cv,ek];exact cj
    ·have:=Z bS;omega)
   clear ei cj ds du a4 b7 b8 k0 k1 k2 k3 k4 k5 k6 bt;replace cp:=J cp;go_wp2_with fail;go_roundg (x.rest.length-q);case measure=>omega
   case rel=>exact Z hrel
end
