import Derived.Test.YtjnmokmchdfchaaGreatDoorX9
import Derived.Test.YtjnmokmchdfchaaGreatDoorXa
set_option maxRecDepth 1000000
set_option maxHeartbeats 0
set_option linter.all false
namespace Go.Proofs.YtjnmokmchdfchaaGreatDoor
open Go.RowKit Tryz
attribute[local go_sem↓]Go.wp_at_zero Go.wp_at_succ
section
variable{C c:Array Value}{p r:Int}{L:List Int}{b i j k l n:Nat}{P S:Nat->Prop}{a:Option Addr}{f:Ot}{s:Sd}{T:TypeId}{x y z:Value}{V W w:World}{d:aX}
def Ot.next(o:Ot)(d:Du)(a:Int):Pc×Bool:=
 if o.sG then(⟨⟨0,0⟩,d.e,d.g⟩,d.g&&decide (2+cH o.code+cH o.ay<=a))else o.iu d.l d.e a
def Ot.dz(o:Ot)(k:Nat)(p:Pc):Fr:=
 if p.g then⟨4,k,o.ay,o.code,false,⟨#[]⟩,[]⟩
 else⟨5,k,p.x.lo,0,p.e,strOfNums ((o.h.bytes.drop (p.x.lo-o.h.fr).toNat).take (p.x.hi-p.x.lo).toNat),[]⟩
def Ot.ki(o:Ot)(p:Pc):Ot:=if p.g then o else{o with ay:=max o.ay p.x.hi}
structure Ld where
 o:Ot
 d:Du
 fr:List Int
 ps:List Pc
def Ld.step(x:Ld)(k:Nat)(p:Pc):Ld:=⟨x.o.ki p,x.d.leave p,x.fr++bp [x.o.dz k p],x.ps++[p]⟩
def jB(k:Nat)(a:Int):Nat->Ld->Ld
 |0,x=>x
 |n+1,x=>if(x.o.next x.d (a-x.fr.length)).2 then jB k a n (x.step k (x.o.next x.d (a-x.fr.length)).1)else x
def jO(o:Ot)(d:Du):Prop:=bl d.l/\∀m,Sm d.l m->o.h.fr<=m/\m<o.en
def jO.mem{d:Du}(h:jO f d){r:Rg}(a:r∈d.l):f.h.fr<=r.lo/\r.lo<r.hi/\r.hi<=f.en:=by
 have b:=h.1.2 r a;have c:=h.2 r.lo ⟨r,a,cS _,b⟩;have e:=h.2 (r.hi-1) ⟨r,a,by omega,by omega⟩;omega
def jO.leave{d:Du}(h:jO f d)(p:Pc):jO f (d.leave p):=⟨tT _ h.1,λm a=>h.2 m ((yk _ m).1 a).1⟩
def J1(h0:0<=p)(h:p<=ke r)(a:r<=1000):cH p+p<=r:=by
 unfold ke at h;unfold cH;split at h;rw[iP_];omega;split at h;rw[iP_];omega;split;omega;rw[iP_];omega
def uk{d:Du}(h:jO f d)(c:p<=1000)(a:(f.iu d.l d.e p).2=true)(j:0<=f.h.fr):
 f.h.fr<=(f.iu d.l d.e p).1.x.lo/\(f.iu d.l d.e p).1.x.lo<=(f.iu d.l d.e p).1.x.hi/\(f.iu d.l d.e p).1.x.hi<=f.en/\(f.iu d.l d.e p).1.g=false/\
  2+cH (f.iu d.l d.e p).1.x.lo+cH ((f.iu d.l d.e p).1.x.hi-(f.iu d.l d.e p).1.x.lo)+((f.iu d.l d.e p).1.x.hi-(f.iu d.l d.e p).1.x.lo)<=p:=by
 have k:f.h.fr<=(f.gy d.l).lo/\(f.gy d.l).lo<=(f.gy d.l).hi/\(f.gy d.l).hi<=f.en:=by
  unfold Ot.gy;split;simp only;unfold Ot.en;omega;rename_i h0;have:=h.mem (pI (D:=d.l) (i:=0) (by omega));omega
 unfold Ot.iu at a⊢;generalize f.gy d.l=x at *;have hs:0<cH x.lo:=by unfold cH;split<;>(try split)<;>(try split)<;>omega
 by_cases b:ke (p-(2+cH x.lo))<0;rw[aD b]at a;cases a;rw[az b]at a⊢;simp only
 have:=J1 (r:=p-(2+cH x.lo)) (p:=min x.hi (x.lo+ke (p-(2+cH x.lo)))-x.lo) (by omega) (by omega) (by omega);refine⟨by omega,by omega,by omega,trivial,by omega⟩
def J2(w:World)(sb c:Nat)(ab:Option Addr)(nb cb:Nat)(ac:Option Addr)(nc cc:Nat)(o:Ot)(H:gV w sb c ab nb cb ac nc cc o.h)(T:j9 w sb c o)(a:Option Addr)(n cap:Nat)(d:Du)(hs:bw w a n cap d.l)(b:Int)(i: -1000<=b/\b<=1000)(hd:jO o d)(m:0<=o.h.fr/\o.en<=4611686018427387903):
 Calls prog 242 #[.pointer (some ⟨sb,c,none⟩),.agg #[.slice a n cap,.bool d.e,.bool d.g],.int .i64 b] w λr j=>r=.returned (.tuple #[.agg (pA (o.next d b).1),.bool (o.next d b).2])/\w.grownBy j none:=by
 unfold Ot.next;cases f:o.sG;simp only[gI,gm]
 exact IA w sb c ab nb cb ac nc cc o H T f a n cap d.l hs d.e d.g b i (λr k=>by have:=hd.mem k;omega);simp only[fu]
 exact HK w sb c o T f (.slice a n cap) d.e d.g b
structure Wx(N:Nat)(w b:World)(sb:Nat)(v a:aX)(X:Nat->Prop):Prop where
 av:ao w b (λk=>cq sb v k\/X k)
 ft:∀k,cq sb a k->cq sb v k\/w.heap.size<=k
 ar:∀k,eG sb a k->eG sb v k\/N<=k
def Wx.of{a:aX}(h:dh n w W k d a)(X:Nat->Prop):Wx n w W k d a X:=⟨h.av.mono (λ_ _ h=>.inl h),h.ft,h.ar⟩
def Wx.rfl'(N:Nat)(w:World)(sb:Nat)(v:aX)(X:Nat->Prop):Wx N w w sb v v X:=⟨ao.rfl' _ _,λ_ h=>.inl h,λ_ h=>.inl h⟩
def Wx.trans{v x:aX}(h:Wx n w W j d v S)(k:Wx n W V j v x S):Wx n w V j d x S:=by
 refine⟨⟨k.av.os.trans h.av.os,k.av.tape.trans h.av.tape,k.av.output.trans h.av.output,bD h.av.size k.av.size,λi hi b=>?_⟩,λi hi=>?_,λi hi=>?_⟩
 rw[k.av.block i (bX hi h.av.size) (λc=>c.elim (λc=>(h.ft i c).elim (λe=>b (.inl e)) (by omega)) (λe=>b (.inr e)))];exact h.av.block i hi b;obtain a|a:=k.ft i hi
 exact h.ft i a;exact .inr (bD h.av.size a);obtain a|a:=k.ar i hi
 exact h.ar i a;exact .inr a
def Wx.own{v:aX}(h:Wx n w W j d v S){r:Option Nat}(g:W.grownBy V r)(b:∀k,k<w.heap.size->r=some k->S k):Wx n w V j d v S:=by
 refine⟨⟨g.os.trans h.av.os,g.tape.trans h.av.tape,g.output.trans h.av.output,bD h.av.size g.size,λi hi a=>?_⟩,h.ft,h.ar⟩
 rw[g.block i (bX hi h.av.size) (λe=>a (.inr (b i hi e.symm)))];exact h.av.block i hi a
def Wx.dS{v c:aX}(h:dh n W w l d v)(k:Wx n w V l v c S)(g:∀j,S j->W.heap.size<=j):dh n W V l d c:=by
 refine⟨⟨k.av.os.trans h.av.os,k.av.tape.trans h.av.tape,k.av.output.trans h.av.output,bD h.av.size k.av.size,λi hi f=>?_⟩,λi hi=>?_,λi hi=>?_⟩
 rw[k.av.block i (bX hi h.av.size) (λb=>b.elim (λb=>(h.ft i b).elim f (by omega)) (λe=>by have:=g i e;omega))];exact h.av.block i hi f;obtain a|a:=k.ft i hi
 exact h.ft i a;exact .inr (bD h.av.size a);obtain a|a:=k.ar i hi
 exact h.ar i a;exact .inr a
def fW.Cv{d:Du}(h:fW W i j S d)(g:∀k,k<W.heap.size->P k->S k):fW W i j P d:=by
 obtain⟨a,n,c,l,e,f⟩:=h;exact⟨a,n,c,l,e,λhl y b=>⟨(f hl y b).1,λm=>(f hl y b).2 (g _ (by subst b;exact e.lt hl) m)⟩⟩
def uo(o:Ot)(p:Pc):Prop:=p.g=true\/(p.g=false/\o.h.fr<=p.x.lo/\p.x.lo<=p.x.hi/\p.x.hi<=o.en)
def yV{d:Du}(h:jO f d)(c:p<=1000)(a:(f.next d p).2=true)(e:0<=f.h.fr):uo f (f.next d p).1:=by
 unfold Ot.next at a⊢;cases b:f.sG;rw[b]at a;simp only[gI,gm]at a⊢;obtain⟨g,i,j,k,-⟩:=uk h c a e;exact .inr ⟨k,g,i,j⟩;rw[b]at a;simp only[fu,lQ]at a⊢;exact .inl a.1
def J3(l:List Int):(strOfNums l).size=l.length:=by
 have:=fG List.length (strOfNums_data l);simpa using this
def yW{p:Pc}(k:Nat)(hp:uo f p)(a:p.g=false):((f.dz k p).data.size:Int)=p.x.hi-p.x.lo:=by
 unfold Ot.dz;rw[a];simp only[gI,gm,J3,ct,dM]
 obtain h|⟨-,c,d,b⟩:=hp
 rw[a]at h;cases h;unfold Ot.en at b;omega
def Cw{p:Pc}(k:Nat)(b:k<4)(hp:uo f p)(c:0<=f.h.fr/\f.en<=4096)(hs:0<=f.ay/\f.ay<=4096)(d:0<=f.code/\f.code<=4611686018427387903):cT (f.dz k p):=by
 cases a:p.g;have i:=yW k hp a;obtain h|⟨-,j,l,m⟩:=hp
 rw[a]at h;cases h;unfold cT pF qB;have e:(f.dz k p).offset=p.x.lo/\(f.dz k p).code=0/\(f.dz k p).stream=k/\(f.dz k p).kind=5:=by unfold Ot.dz;rw[a];simp
 rw[e.1,e.2.1,e.2.2.1,e.2.2.2];refine⟨⟨by omega,by omega,by omega,by omega⟩,⟨λh=>by omega,λ_=>by omega⟩,by omega,by omega⟩
 have e:(f.dz k p).offset=f.ay/\(f.dz k p).code=f.code/\(f.dz k p).stream=k/\(f.dz k p).kind=4:=by unfold Ot.dz;rw[a];simp
 unfold cT pF qB;rw[e.1,e.2.1,e.2.2.1,e.2.2.2];refine⟨⟨by omega,by omega,by omega,by omega⟩,⟨λh=>by omega,λh=>by omega⟩,by omega,by omega⟩
def J4(w:World){p:Pc}(k:Nat)(i:k<4)(hp:uo f p)(j:0<=f.h.fr/\f.en<=4096)(hs:0<=f.ay/\f.ay<=4096)(l:0<=f.code/\f.code<=4611686018427387903):dA w (f.dz k p) (.slice none 0 0)/\fT [f.dz k p]<=30000000:=by
 have b:(f.dz k p).ranges=[]:=by unfold Ot.dz;split<;>rfl
 have m:(f.dz k p).data.size<=4096:=by
  cases a:p.g;have m:=yW k hp a;obtain h|⟨-,c,d,e⟩:=hp
  rw[a]at h;cases h;omega;unfold Ot.dz;rw[a];simp only[fu];decide
 have n:=Cw k i hp j hs l;refine⟨⟨?_,by omega,none,0,by rw[b];rfl,by rw[b];exact⟨λr h=>(by cases h),rfl,aR _,by simp[maxLen],.inl rfl⟩⟩,?_⟩
 obtain⟨⟨c,d,e,q⟩,-,s,t⟩:=n;have u:0<=(f.dz k p).offset/\0<=(f.dz k p).code:=by
  unfold Ot.dz;cases a:p.g;obtain h|⟨-,c,d,e⟩:=hp
  rw[a]at h;cases h;simp;omega;simp;omega
 exact⟨by unfold dq;omega,by unfold dq;omega,by unfold aS;omega,by unfold aS;omega,λr h=>by rw[b]at h;cases h⟩
 simp only[fT,lS,b,fe];omega
def J5{d:Du}(k:Nat)(A:k<4)(h:jO f d)(i:p<=1000)(a:(f.next d p).2=true)(j:0<=f.h.fr):1<=(bp [f.dz k (f.next d p).1]).length/\((bp [f.dz k (f.next d p).1]).length:Int)<=p:=by
 have u:=yV h i a j;have B:cH (k:Int)=1:=by unfold cH;rw[iP_]
 have el:∀m,bp [m]=df m:=λm=>by simp[bp]
 rw[el];have c:=λn=>HE n
 have s1:=c (k:Int);cases b:(f.next d p).1.g;have s:=yW k u b;have q:f.sG=false:=by
  unfold Ot.next at a b;cases h:f.sG;rfl;rw[h]at a b;simp only[fu,lQ]at a b;rw[b]at a;cases a.1
 have e:(f.next d p)=f.iu d.l d.e p:=by unfold Ot.next;rw[q];simp
 rw[e]at a;obtain⟨v,w,y,r,t⟩:=uk h i a j;rw[<-e]at v w y r t;have ef:(f.dz k (f.next d p).1).kind=5/\(f.dz k (f.next d p).1).stream=k/\(f.dz k (f.next d p).1).offset=(f.next d p).1.x.lo:=by unfold Ot.dz;rw[b];simp
 unfold df;rw[iN_,iN_,iN_,iN_,aD ef.1,ef.2.1,ef.2.2];have s2:=c (f.next d p).1.x.lo;have s3:=c ((f.dz k (f.next d p).1).data.size:Int);rw[s]at s3;have z:(aG (f.dz k (f.next d p).1).data).length=(f.dz k (f.next d p).1).data.size:=fH _;simp only[dc,bH,z,s]
 omega;have q:f.sG=true:=by
  unfold Ot.next at a b;cases h:f.sG;rw[h]at a b;simp only[gI,gm]at a b;obtain⟨-,-,-,r,-⟩:=uk (by assumption) i a j;rw[r]at b;cases b;rfl
 have t:2+cH f.code+cH f.ay<=p:=by
  unfold Ot.next at a;rw[q]at a;simp only[fu,lQ,mX]at a;exact a.2
 have ef:(f.dz k (f.next d p).1).kind=4/\(f.dz k (f.next d p).1).stream=k/\(f.dz k (f.next d p).1).offset=f.ay/\(f.dz k (f.next d p).1).code=f.code:=by unfold Ot.dz;rw[b];simp
 unfold df;rw[iN_,iN_,iN_,aD ef.1,ef.2.1,ef.2.2.1,ef.2.2.2];have s2:=c f.code;have s3:=c f.ay;simp only[dc,bH]
 omega
def J6(a:w.heap[n]?=some (.cells c T (0,0)))(H:gL w j c i y z f)(d:f.h.nice)(q:kB w n y z)(k:Nat)(p:Pc)(hp:uo f p):
 Calls prog 243 #[.pointer (some ⟨n,i,none⟩),.int .i64 k,.agg (pA p)] w λe b=>e=.returned (.agg (bO (f.dz k p) (.slice none 0 0)))/\oe w b n T c i j y z (f.ki p):=by
 obtain⟨x,l,s⟩:=p;cases s;obtain h|⟨-,t,u,m⟩:=hp
 cases h;simp only at t u m;unfold Ot.en at m;have v:=d;unfold Hd.nice at v;refine(IQ a H d q (k:Int) x l (x.lo-f.h.fr).toNat ((x.lo-f.h.fr).toNat+(x.hi-x.lo).toNat) (by omega) (by omega) (by omega) (by omega) (by unfold aS;omega)).mono ?_;rintro r b⟨rfl,h⟩;refine⟨?_,h⟩
 unfold Ot.dz bO;simp[tr];apply(IM w n i f (H.tail a) (k:Int) x l).mono;rintro r b⟨rfl,g⟩;exact⟨rfl,c,y,z,si.Bl a g _ _ _,H.an g,.inl rfl⟩
def rB{α:Type}(f:Nat->α)(k:Nat)(x y:α):ah (ah f k x) k y=ah f k y:=by
 funext i;unfold ah;split<;>rfl
structure iB(w:World)(base sb D k:Nat)(v:aX)(s:Sd)(o:Ot)(fr:List Int)(ps:List Pc)(v6 v7:Value)(W:World)(cs':Array Value)(v':aX):Prop where
 side:bC W base sb cs' v' {s with out:=ah s.out k o}
 wx:Wx w.heap.size w W sb v v' (λj=>j=D)
 a6:∀j,v6.ownBlock=some j->¬eG sb v' j
 a7:∀j,v7.ownBlock=some j->¬eG sb v' j
 sep:∀j,v6.ownBlock=some j->v7.ownBlock≠some j
 fr:bn W w.heap.size v6 fr
 ps:iA W w.heap.size v7 ps
def LX(Y:Nat->Prop)(D:Nat)(v6 v7:Value)(sb:Nat)(v':aX)(j:Nat):Prop:=j=D\/v6.ownBlock=some j\/v7.ownBlock=some j\/cq sb v' j\/Y j
def fW.step{W W':World}{D N:Nat}{X i S:Nat->Prop}{d:Du}(h:fW W D N X d)(C:ao W W' S)(l:¬S D)(m:∀k,k<W.heap.size->S k->X k)(p:∀k,i k->X k\/W.heap.size<=k):fW W' D N i d:=by
 obtain⟨a,n,c,j,f,g⟩:=h;refine⟨a,n,c,(C.block D (aZ.1 j).1 l).trans j,f.dr (λhl y b=>C.block _ (by subst b;exact f.lt hl) (λe=>(g hl y b).2 (m _ (by subst b;exact f.lt hl) e))),λhl y b=>⟨(g hl y b).1,λq=>?_⟩⟩
 have r:y.block<W.heap.size:=by subst b;exact f.lt hl
 obtain h|h:=p _ q
 exact(g hl y b).2 h;omega
section
variable {w:World} {base sb D k:Nat} {v:aX} {s:Sd} {o:Ot} {fr:List Int} {ps:List Pc} {v6 v7:Value} {W W':World} {cs':Array Value} {v':aX} {Y:Nat->Prop}
def iB.lx(h:iB w base sb D k v s o fr ps v6 v7 W cs' v')(b:D<w.heap.size)(hY:∀j,Y j->j<w.heap.size):∀j,LX Y D v6 v7 sb v' j->j<W.heap.size:=λj a=>by
 have:=h.wx.av.size;obtain rfl|e|e|e|e:=a
 omega;exact(h.fr.lt j e).2;exact(h.ps.lt j e).2;exact pP h.side.bu e;have:=hY j e;omega
def iB.yX(h:iB w base sb D k v s o fr ps v6 v7 W cs' v')(b:D<w.heap.size)(a:¬eG sb v D):¬eG sb v' D:=λe=>(h.wx.ar D e).elim a (by omega)
def iB.gb(h:iB w base sb D k v s o fr ps v6 v7 W cs' v')(g:W.grownBy W' none):iB w base sb D k v s o fr ps v6 v7 W' cs' v':=
 ⟨h.side.an g,h.wx.own g (λ_ _ e=>by cases e),h.a6,h.a7,h.sep,h.fr.an g,h.ps.an g⟩
def iB.left(h:iB w base sb D k v s o fr ps v6 v7 W cs' v')(a:D<w.heap.size)(b:¬eG sb v D)(g:W.grownBy W' (some D)):iB w base sb D k v s o fr ps v6 v7 W' cs' v':=
 ⟨h.side.other (ao.of g) (λj _ e=>by cases e;exact h.yX a b),h.wx.own g (λj _ e=>(aQ e).symm),h.a6,h.a7,h.sep,h.fr.gb g (.inr (λe=>by have:=(h.fr.lt D e).1;omega)),h.ps.av (ao.of g) (λj e e2=>by have:=(h.ps.lt j e).1;have:D=j:=aQ e2;omega)⟩
def iB.ay(h:iB w base sb D k v s o fr ps v6 v7 W cs' v')(g:Ot)(n:k<4)(p:oe W W' sb 241 cs' (19+9*k) base (v'.own k) (v'.set k) g){N:Nat}{d:Du}(q:D<w.heap.size)(r:¬eG sb v D)(hd:fW W D N (LX Y D v6 v7 sb v') d):∃i f,iB w base sb D k v s g fr ps v6 v7 W' i f/\fW W' D N (LX Y D v6 v7 sb f) d/\ao W W' (cq sb v'):=by
 obtain⟨i,f,m,b⟩:=h.side.wa k n g p;simp only[rB]at m;have t:=h.wx.av.size;refine⟨i,f,⟨m,h.wx.trans (Wx.of (b.mono t) _),λj e l=>?_,λj e l=>?_,h.sep,h.fr.av b.av (λj e c=>h.a6 j e (.inl c)),h.ps.av b.av (λj e c=>h.a7 j e (.inl c))⟩,hd.step b.av (λc=>h.yX q r (.inl c)) (λj _ c=>.inr (.inr (.inr (.inl c)))) (λj u=>?_),b.av⟩
 obtain a|a:=b.ar j l
 exact h.a6 j e a;have:=(h.fr.lt j e).2;omega;obtain a|a:=b.ar j l
 exact h.a7 j e a;have:=(h.ps.lt j e).2;omega;obtain e|e|e|e|e:=u
 exact .inl (.inl e);exact .inl (.inr (.inl e));exact .inl (.inr (.inr (.inl e)));obtain a|a:=b.ft j e
 exact .inl (.inr (.inr (.inr (.inl a))));exact .inr a;exact .inl (.inr (.inr (.inr (.inr e))))
def iB.J7(h:iB w base sb D k v s o fr ps v6 v7 W cs' v'){c:List Int}{b:Value}(g:W.grownBy W' v6.ownBlock)(m:bn W' w.heap.size b c)(a:b.ownBlock=v6.ownBlock\/b.ownBlock=some W.heap.size)(n:D<w.heap.size){N:Nat}{d:Du}(hd:fW W D N (LX Y D v6 v7 sb v') d):iB w base sb D k v s o c ps b v7 W' cs' v'/\fW W' D N (LX Y D b v7 sb v') d:=by
 have p:=h.wx.av.size;refine⟨⟨h.side.other (ao.of g) (λj _ e=>h.a6 j e),h.wx.own g (λj f e=>by have:=(h.fr.lt j e).1;omega),λj e i=>?_,h.a7,λj e l=>?_,m,h.ps.av (ao.of g) (λj e e2=>h.sep j e2 e)⟩,hd.step (ao.of g) (λe=>by have:=(h.fr.lt D e).1;omega) (λj _ e=>.inr (.inl e)) (λj f=>?_)⟩
 obtain a|a:=a
 rw[a]at e;exact h.a6 j e i;rw[a]at e;have:=aQ e;have:=og h.side.bu i;omega;obtain a|a:=a
 rw[a]at e;exact h.sep j e l;rw[a]at e;have:=aQ e;have:=(h.ps.lt j l).2;omega;obtain e|e|e|e|e:=f
 exact .inl (.inl e);obtain a|a:=a
 rw[a]at e;exact .inl (.inr (.inl e));rw[a]at e;have:=aQ e;exact .inr (by omega);exact .inl (.inr (.inr (.inl e)));exact .inl (.inr (.inr (.inr (.inl e))));exact .inl (.inr (.inr (.inr (.inr e))))
def iB.J8(h:iB w base sb D k v s o fr ps v6 v7 W cs' v'){f:List Pc}{b:Value}(g:W.grownBy W' v7.ownBlock)(m:iA W' w.heap.size b f)(a:b.ownBlock=v7.ownBlock\/b.ownBlock=some W.heap.size)(n:D<w.heap.size){N:Nat}{d:Du}(hd:fW W D N (LX Y D v6 v7 sb v') d):iB w base sb D k v s o fr f v6 b W' cs' v'/\fW W' D N (LX Y D v6 b sb v') d:=by
 have p:=h.wx.av.size;refine⟨⟨h.side.other (ao.of g) (λj _ e=>h.a7 j e),h.wx.own g (λj i e=>by have:=(h.ps.lt j e).1;omega),h.a6,λj e l=>?_,λj e c=>?_,h.fr.av (ao.of g) (λj e e2=>h.sep j e e2),m⟩,hd.step (ao.of g) (λe=>by have:=(h.ps.lt D e).1;omega) (λj _ e=>.inr (.inr (.inl e))) (λj i=>?_)⟩
 obtain a|a:=a
 rw[a]at e;exact h.a7 j e l;rw[a]at e;have:=aQ e;have:=og h.side.bu l;omega;obtain a|a:=a
 rw[a]at c;exact h.sep j e c;rw[a]at c;have:=aQ c;have:=(h.fr.lt j e).2;omega;obtain e|e|e|e|e:=i
 exact .inl (.inl e);exact .inl (.inr (.inl e));obtain a|a:=a
 rw[a]at e;exact .inl (.inr (.inr (.inl e)));rw[a]at e;have:=aQ e;exact .inr (by omega);exact .inl (.inr (.inr (.inr (.inl e))));exact .inl (.inr (.inr (.inr (.inr e))))
end
structure oU(a:Ot)(d0:Du)(b:Int)(x:Ld):Prop where
 h:x.o.h=a.h
 sG:x.o.sG=a.sG
 code:x.o.code=a.code
 ay:0<=x.o.ay/\x.o.ay<=4096
 mc:jO x.o x.d
 dl:x.d.l.length<=d0.l.length+x.fr.length
 fl:(x.fr.length:Int)<=b
 pl:x.ps.length<=x.fr.length
def oU.step{b:Ot}{d0:Du}{a:Int}{x:Ld}(H:oU b d0 a x)(k:Nat)(i:k<4)(m:a<=1000)(j:0<=b.h.fr)(n:b.en<=4096)(e:(x.o.next x.d (a-x.fr.length)).2=true):oU b d0 a (x.step k (x.o.next x.d (a-x.fr.length)).1)/\x.fr.length<(x.step k (x.o.next x.d (a-x.fr.length)).1).fr.length:=by
 have f:0<=x.o.h.fr:=by rw[H.h];exact j
 obtain⟨q,r⟩:=J5 k i H.mc (p:=a-x.fr.length) (by omega) e f;have l:=yV H.mc (p:=a-x.fr.length) (by omega) e f;generalize (x.o.next x.d (a-x.fr.length)).1=p at *;have c:(x.o.ki p).h=x.o.h/\(x.o.ki p).sG=x.o.sG/\(x.o.ki p).code=x.o.code/\0<=(x.o.ki p).ay/\(x.o.ki p).ay<=4096:=by
  have g:=H.ay;unfold Ot.ki;split;exact⟨rfl,rfl,rfl,g.1,g.2⟩
  refine⟨rfl,rfl,rfl,?_⟩
  obtain h|⟨-,s,t,u⟩:=l
  contradiction;have:x.o.en=b.en:=by unfold Ot.en;rw[H.h]
  simp only;omega
 have v:=yQ p.x H.mc.1;have w:=H.dl;have y:=H.fl;have z:=H.pl;refine⟨⟨c.1.trans H.h,c.2.1.trans H.sG,c.2.2.1.trans H.code,c.2.2.2,?_,?_,?_,?_⟩,?_⟩
 have:=H.mc.leave p;unfold jO Ot.en at this⊢;unfold Ld.step;simp only
 rw[c.1];exact this;unfold Ld.step Du.leave;simp only[bH]
 omega;unfold Ld.step;simp only[bH]
 omega;unfold Ld.step;simp only[bH,dc,fe]
 omega;unfold Ld.step;simp only[bH]
 omega
def Cx(w:World)(Y:Nat->Prop)(g sb D N k:Nat)(v:aX)(s:Sd)(r:Ld)(e:Ending)(c:World):Prop:=
 ∃a6 a c6 a7 b c7 h f,e=.returned (.tuple #[.slice a6 a c6,.slice a7 b c7])/\iB w g sb D k v s r.o r.fr r.ps (.slice a6 a c6) (.slice a7 b c7) c h f/\fW c D N (LX Y D (.slice a6 a c6) (.slice a7 b c7) sb f) r.d
def J9{d:Du}(h:jO f d)(b:p<=1000)(a:(f.next d p).2=true)(c:0<=f.h.fr)(g:f.en<=4096):(f.next d p).1.x.ok:=by
 unfold Ot.next at a⊢;cases e:f.sG;rw[e]at a;simp only[gI,gm]at a⊢;obtain⟨i,j,k,l,-⟩:=uk h b a c;constructor<;>(unfold aS;omega);simp only[fu]
 exact⟨⟨cS 0,by decide⟩,⟨cS 0,by decide⟩⟩
def Cy(g:w.grownBy W none)(h:w.heap.size<=b)(a c d f:Value):w.grownBy ((((W.setCell ⟨b,0,none⟩ a).setCell ⟨b,1,none⟩ c).setCell ⟨b,2,none⟩ d).setCell ⟨b,3,none⟩ f) none:=
 cJ g (aK (aK (aK (aK (aB W (some b)) ⟨b,0,none⟩ a (.inr rfl)) ⟨b,1,none⟩ c (.inr rfl)) ⟨b,2,none⟩ d (.inr rfl)) ⟨b,3,none⟩ f (.inr rfl)) (λj e=>.inl (by cases e;exact h))
def Ka{u3:Value}(h:W.heap[b]?=some (.cells #[x,y,z,u3] T (0,0)))(a c d e:Value):((((W.setCell ⟨b,0,none⟩ a).setCell ⟨b,1,none⟩ c).setCell ⟨b,2,none⟩ d).setCell ⟨b,3,none⟩ e).heap[b]?=some (.cells #[a,c,d,e] T (0,0)):=
 heap_set (o:=3) (heap_set (o:=2) (heap_set (o:=1) (heap_set (o:=0) h a) c) d) e
def Cz{a:Value}(h:W.heap[i]?=some (.cells #[x,y,z,a] T (0,0))):W.frozen? ⟨i,0,none⟩=false/\W.frozen? ⟨i,0+1,none⟩=false/\W.frozen? ⟨i,0+1+1,none⟩=false/\W.frozen? ⟨i,0+1+1+1,none⟩=false:=by simp[World.frozen?,h]
def bn.slice(h:bn w n x L):∃a c,x=.slice a L.length c:=by
 obtain⟨a,c,e,-⟩:=h.bs;exact⟨a,c,e⟩
def iA.slice{l:List Pc}(h:iA w n x l):∃a c,x=.slice a l.length c:=by
 obtain⟨a,c,e,-⟩:=h.Cs;exact⟨a,c,e⟩
def Kb(w:World)(Y:Nat->Prop)(hY:∀j,Y j->j<w.heap.size)(F sb D N k:Nat)(cs:Array Value)(v:aX)(s:Sd)(d:Du)(H:bC w F sb cs v s)(P:k<4)(hD:D<w.heap.size)(ds:¬eG sb v D)(gq:N<=w.heap.size)(ca:fW w D N (λj=>j=D\/cq sb v j\/Y j) d)(ch:jO (s.out k) d)(gu:d.l.length<=900000)
 (hn:(s.out k).h.nice) (e8:(s.out k).en<=4096) (e9:0<=(s.out k).ay/\(s.out k).ay<=4096) (cj:0<=(s.out k).code/\(s.out k).code<=4611686018427387903) (gw:16<=s.aj/\s.aj<=1000) (r:Ld) (hr:r=jB k (s.aj-16) ((s.aj-16).toNat+1) ⟨s.out k,d,[],[]⟩):
 Calls prog 209 #[.pointer (some ⟨sb,0,none⟩),.int .i64 k,.pointer (some ⟨D,0,none⟩)] w (Cx w Y F sb D N k v s r):=by
 obtain⟨R,hR⟩:=exq (Cx w Y F sb D N k v s r);rw[<-hR];replace hR:=J hR;have i1:(k:Int)<4:=by omega
 have d1:decide ((k:Int)<4)=true:=dO i1;have fa:Hid (iB w F sb D k v s (s.out k) [] [] (.slice none 0 0) (.slice none 0 0) w cs v):=J ⟨by rw[my];exact H,Wx.rfl' _ _ _ _ _,λj e=>(by cases e),λj e=>(by cases e),λj e=>(by cases e),bn.nil _ _,iA.nil _ _⟩;have fb:Hid (fW w D N (LX Y D (.slice none 0 0) (.slice none 0 0) sb v) d):=J (ca.Cv (λj _ hj=>by
  obtain e|e|e|e:=hj
  exact .inl e;cases e;cases e
  ·exact .inr e))
 have du:Hid (oU (s.out k) d (s.aj-16) ⟨s.out k,d,[],[]⟩):=J ⟨rfl,rfl,rfl,e9,ch,by simp,by simp;omega,by simp⟩;obtain⟨i,aC⟩:=exq (s.aj-16);rw[<-aC]at du hr;have a0:0<=i/\i<=1000:=by omega
 have dx:0<=(s.out k).h.fr:=hn.1;replace⟨hr,aC,H,ca,ch,hn,cj⟩:=iR hr aC H ca ch hn cj;go_enter func209,ntmps209;go_upto_region 2 with fail;go_loopg [6,7] (i.toNat+1) (λg v6 v7 wr=>∃(x:Ld)(m:Nat)(a1:Array Value)(B:aX),oU (s.out k) d i x/\iB w F sb D k v s x.o x.fr x.ps v6 v7 wr a1 B/\fW wr D N (LX Y D v6 v7 sb B) x.d/\g=(i-x.fr.length).toNat+1/\(i-x.fr.length).toNat+1<=m/\jB k i m x=r);case atStart=>exact⟨_,_,cs,v,Z du,Z fa,Z fb,by simp,aR _,by simpa using (Z hr).symm⟩
 case round=>
  obtain⟨x,m,a1,B,p,q,bj,rfl,hm,hl⟩:=hrel;obtain⟨a6,c6,rfl⟩:=q.fr.slice;obtain⟨a7,c7,rfl⟩:=q.ps.slice;have hO:gL wr F a1 (19+9*k) (B.own k) (B.set k) x.o:=by have:=q.side.out k P;simpa only[bk]using this
  obtain⟨ab,nb,cb,ac,nc,cc,ff,fo⟩:=hO.nm;have a2:=hO;rw[ff,fo]at a2;have dE:x.o.h.nice:=by rw[p.h];exact Z hn
  have gB:x.o.en=(s.out k).en:=by unfold Ot.en;rw[p.h]
  have dG:0<=x.o.h.fr:=by rw[p.h];exact dx
  have cp:=p.fl;obtain⟨a,n,c,q1,q2,q3⟩:=id bj;obtain⟨⟨p0,p1,p2⟩,-⟩:=rq q1;have br:=J (λW(g:wr.grownBy W none)=>Cu W sb s.aj (g.cell ((ba q.side.aP _).trans q.side.c0) (by simp)) (by have:=Z aC;omega));rw[<-Z aC]at br;have G:=J (λW(g:wr.grownBy W none)=>J2 W sb (19+9*k) ab nb cb ac nc cc x.o ((a2.an g).hd (bB q.side.aP g) dE) ((a2.an g).tail (bB q.side.aP g)) a n c x.d (q2.an g) (i-x.fr.length) (by omega) p.mc (by omega));rw[<-pR]at G;have cv:=J (λh=>p.step k P a0.2 dx e8 h);have cw:=J (λh=>yV p.mc (p:=i-x.fr.length) (by omega) h dG);have cx:=J (λh=>J9 p.mc (p:=i-x.fr.length) (by omega) h dG (by omega));obtain⟨pm,cy⟩:=exq (x.o.next x.d (i-x.fr.length));rw[<-cy]at G cv cw cx;have ea:Hid (∀I,m=I+1->jB k i m x=if pm.2 then jB k i I (x.step k pm.1)else x):=J (λI e=>by rw[e,cy];rfl);clear cy;obtain⟨⟨⟨t,u⟩,y,z⟩,ee⟩:=pm;unfold pA at G;simp only at G cv cw ea cx;have hw:IntKind.i64.wrap (i-(x.fr.length:Int))=i-(x.fr.length:Int):=wI_;have gr:wr.grownBy wr.drew none:=aV (aB _ none);have gA:wr.grownBy (wr.alloc (.cells #[.int .u64 0,.int .u64 0,.bool false,.bool false] 377)).drew none:=aV (aH _ _ none);have hA:Hid ((wr.alloc (.cells #[.int .u64 0,.int .u64 0,.bool false,.bool false] 377)).drew.heap[wr.heap.size]?=some (.cells #[.int .u64 0,.int .u64 0,.bool false,.bool false] 377 (0,0))):=J (aO wr _);have fq:Hid (x.ps.length<=100000000):=J (by have:=p.pl;omega);replace p0:=kc p0;replace p1:=kc p1;replace p2:=kc p2;replace⟨p,q,bj,hO,a2,q1,q2,q3,hl⟩:=pT p q bj hO a2 q1 q2 q3 hl;replace⟨hm,cp,a0⟩:=cg hm cp a0;go_upto_region 2 with fail;go_cut [9,10] (λv9 fs wx=>(∃b,v9=.pointer (some ⟨b,0,none⟩)/\wr.heap.size<=b/\wx.heap[b]?=some (.cells #[.int .u64 t,.int .u64 u,.bool y,.bool z] 377 (0,0)))/\fs=.bool ee/\wr.grownBy wx none);case first=>
   go_region_held3 (λw'=>wr.grownBy w' none)
    (with_reducible first|exact Cy K bt _ _ _ _|exact K|exact aY K _|exact C|exact aY C _|exact gr|exact gA)
    (first
      |(go_at_call 203;apply(Z br _ gA).mono;rintro e Q⟨rfl,L⟩;have C:=aq gA L;have a3:=bB (Z hA) L)
      |(go_at_call 203;apply(Z br _ gr).mono;rintro e Q⟨rfl,L⟩;have C:=aq gr L)
      |(go_at_call 242;apply(Z G _ C).mono;rintro e w6⟨rfl,A⟩;have K:=aq C A;have E:=bB a3 A;have bt:wr.heap.size<=wr.heap.size:=aR _;obtain⟨U,V,X,y3⟩:=pV E;obtain⟨z0,z1,z2,z3⟩:=Cz E;have eg:=E)
      |(go_at_call 242;apply(Z G _ (aY C _)).mono;rintro e w6⟨rfl,A⟩;have K:=aq (aY C _) A;have E:=bB (aO _ _) A;have bt:=C.size;obtain⟨U,V,X,y3⟩:=pV E;obtain⟨z0,z1,z2,z3⟩:=Cz E;have eg:=E)
      |(go_at_call 242;apply(Z G _ C).mono;rintro e w6⟨rfl,A⟩;have K:=aq C A))
   all_goals go_wp2_with fail
   all_goals go_meet
   all_goals first|exact⟨⟨_,rfl,bt,Ka eg _ _ _ _⟩,rfl,Cy K bt _ _ _ _⟩|exact⟨⟨_,rfl,K.size,aO _ _⟩,rfl,aY K _⟩
  case rest=>
   obtain⟨⟨b,rfl,gE,al⟩,rfl,gx⟩:=hcut;clear gA hA p0 p1 p2 br G hw gr;obtain⟨I,fy⟩:∃I,m=I+1:=⟨m-1,by have:=Z hm;omega⟩
   have S:=(Z ea I fy).symm.trans (Z hl);have bx:=J ((Z q).gb gx);have ei:=J ((Z bj).an gx);cases ee
   ·simp only[gI,gm]at S;have ga:Hid (R (.returned (.tuple #[.slice a6 x.fr.length c6,.slice a7 x.ps.length c7])) wc):=J (by
     rw[Z hR,<-S];exact⟨a6,_,c6,a7,_,c7,a1,B,rfl,Z bx,Z ei⟩)
    clear S al;go_wp2_with fail;exact Z ga
   simp only[fu]at S;have a8:=Z cw rfl;have M:=Z cv rfl;have bz:(⟨t,u⟩:Rg).ok:=Z cx rfl;have gU:w.heap.size<=wc.heap.size:=(Z bx).wx.av.size;have bM:=J (Cq wc D N (LX Y D (.slice a6 x.fr.length c6) (.slice a7 x.ps.length c7) sb B) x.d ⟨⟨t,u⟩,y,z⟩ (Z ei) (.inl rfl) ((Z bx).lx hD hY) (by omega) (Z p).mc.1 bz (by have:=(Z p).dl;have:=Z cp;have:=Z a0;omega));obtain⟨U,V,X,y3⟩:=pV al;unfold pA at bM;simp only at bM;replace⟨a8,M,bz,S,al⟩:=eR a8 M bz S al;go_upto_region 5 with fail;go_wp2_with fail;apply(Z bM).mono;rintro e w2⟨rfl,cA,g2⟩;have ax:=(Z bx).left hD ds g2;have gd:b≠D:=by have:=(Z q).wx.av.size;omega
   have a9:w2.heap[b]?=some (.cells #[.int .u64 t,.int .u64 u,.bool y,.bool z] 377 (0,0)):=(g2.block b (aZ.1 (Z al)).1 (λe=>gd (aQ e))).trans (Z al);have cB:gL w2 F a1 (19+9*k) (B.own k) (B.set k) x.o:=by have:=ax.side.out k P;simpa only[bk]using this
   have bb:=J (J6 ax.side.aP cB dE (ax.side.vZ k P) k ⟨⟨t,u⟩,y,z⟩ (Z a8));rw[<-pR]at bb;unfold pA at bb;simp only at bb;clear U V X y3 bM;obtain⟨U,V,X,y3⟩:=pV a9;have gf:Hid (¬cq sb B b):=J (λe=>by have:=pP (Z q).side.bu e;omega);have gg:Hid ((Value.slice a6 x.fr.length c6).ownBlock≠some b/\(Value.slice a7 x.ps.length c7).ownBlock≠some b):=J ⟨λe=>by have:=((Z q).fr.lt b e).2;omega,λe=>by have:=((Z q).ps.lt b e).2;omega⟩;replace⟨ax,cA,a9,cB⟩:=eV ax cA a9 cB;go_wp2_with fail;apply(Z bb).mono;rintro e w3⟨rfl,hT⟩;rw[pR]at hT;obtain⟨gh,v3,cC,c9,C3⟩:=(Z ax).ay _ P hT hD ds (Z cA);have db:w3.heap[b]?=some (.cells #[.int .u64 t,.int .u64 u,.bool y,.bool z] 377 (0,0)):=(C3.block b (aZ.1 (Z a9)).1 (Z gf)).trans (Z a9);have ej:0<=x.o.code/\x.o.code<=4611686018427387903:=by rw[(Z p).code];exact Z cj
   have de:=J4 w3 k P (Z a8) (by omega) (Z p).ay ej;have ek:=Cw k P (Z a8) (by omega) (Z p).ay ej;have b0:=J (yU w3 _ _ de.1 ek de.2);clear U V X y3 bb hT C3 de ek;obtain⟨f,T⟩:=exq (x.o.dz k ⟨⟨t,u⟩,y,z⟩);rw[<-T]at b0;rw[<-T];obtain⟨fA,b3⟩:=exq (bO f (.slice none 0 0));rw[<-b3]at b0;rw[<-b3];replace⟨T,b3,cC,c9,db⟩:=eR T b3 cC c9 db;go_wp2_with fail;apply(Z b0).mono;rintro e w4⟨⟨a4,n4,c4,rfl,o4⟩,g4⟩;have b4:=(Z cC).gb g4;have eo:=(Z c9).an g4;have dg:=bB (Z db) g4;have ew:=b4.wx.av.size;have dk:x.fr.length+(bp [f]).length<=100000000:=by
    have h1:=(Z M).1.fl;unfold Ld.step at h1;simp only[bH,<-Z T]at h1;have:=Z a0;omega
   obtain⟨a5,c5,Q,dn,o5,L,ey⟩:=Aw (w:=w4) 112 w.heap.size _ x.fr b4.fr a4 n4 c4 (bp [f]) o4.gT dk ew;obtain⟨ez,eK⟩:=b4.J7 L o5 ey hD eo;have a3:Q.heap[b]?=some (.cells #[.int .u64 t,.int .u64 u,.bool y,.bool z] 377 (0,0)):=(L.block b (aZ.1 dg).1 (λe=>(Z gg).1 e.symm)).trans dg;obtain⟨U,V,X,y3⟩:=pV a3;obtain⟨W6,b5⟩:=exq (Q.alloc (.cells #[.int .u64 t,.int .u64 u,.bool y,.bool z] 377));have A:Q.grownBy W6 none:=by rw[b5];exact aH _ _ _
   have E:W6.heap[Q.heap.size]?=some (.cells #[.int .u64 t,.int .u64 u,.bool y,.bool z] 377 (0,0)):=by rw[b5];exact aO _ _
   have b6:=ez.gb A;have eL:=eK.an A;have eS:x.ps.length<=100000000:=Z fq;obtain⟨b7,n7,e3,w7,b8,o7,g7,e4⟩:=JY (w:=W6) 323 w.heap.size _ x.ps b6.ps Q.heap.size 1 ⟨⟨t,u⟩,y,z⟩ (Z bz) (kz (cs:=ru ⟨⟨t,u⟩,y,z⟩) E) eS b6.wx.av.size;obtain⟨e5,e6⟩:=b6.J8 g7 o7 e4 hD eL;have hrel:Hid (∃(O:Ld)(m2:Nat)(gi:Array Value)(e7:aX),oU (s.out k) d i O/\iB w F sb D k v s O.o O.fr O.ps (.slice a5 (x.fr.length+(bp [f]).length) c5) (.slice b7 n7 e3) w7 gi e7/\fW w7 D N (LX Y D (.slice a5 (x.fr.length+(bp [f]).length) c5) (.slice b7 n7 e3) sb e7) O.d/\(i-(x.fr.length+(bp [f]).length:Nat)).toNat+1=(i-O.fr.length).toNat+1/\(i-O.fr.length).toNat+1<=m2/\jB k i m2 O=r):=J (by
    have gj:=Z T;subst gj;refine⟨x.step k ⟨⟨t,u⟩,y,z⟩,I,gh,v3,(Z M).1,e5,e6,?_,?_,Z S⟩
    unfold Ld.step;simp only[bH]
    ·have h1:=Z hm;have h2:=(Z M).2;have h3:=(Z M).1.fl;omega)
   have gn:Hid ((i-(x.fr.length+(bp [f]).length:Nat)).toNat+1<(i-x.fr.length).toNat+1):=J (by
    have h2:=(Z M).2;have h3:=(Z M).1.fl;unfold Ld.step at h2 h3;simp only[bH,<-Z T]at h2 h3;omega)
   rw[b5]at b8;replace⟨dn,b8⟩:=bA dn b8;clear b4 eo ez eK b6 eL e5 e6 dg b5 E o4 o5 o7 ey e4 g7 A L g4 b0 ew eS;replace⟨a3,dk⟩:=bA a3 dk;go_wp2_with (at_builtin;first|(refine pW (by rfl) 112 112 (by rfl) _ _ (by rfl) _ _ _ (by rfl) (by rfl) (Z dn) ?_)|(refine pW (by rfl) 323 323 (by rfl) _ _ (by rfl) _ _ _ (by rfl) (by rfl) (Z b8) ?_));go_roundg ((i-(x.fr.length+(bp [f]).length:Nat)).toNat+1);case measure=>exact Z gn
   case rel=>exact Z hrel
def KW(w:World)(q sb N k:Nat)(cs:Array Value)(v:aX)(s:Sd)(H:bC w q sb cs v s)(I:N<=w.heap.size)(pa:Option Addr)(b f:Nat)(ps:List Pc)(hp:iA w N (.slice pa b f) ps)(F:∀j,(Value.slice pa b f).ownBlock=some j->¬eG sb v j)(K:0<=s.count/\s.count<=4611686018427387903)(hl:s.aM.length<=1000000):
 Calls prog 210 #[.pointer (some ⟨sb,91,none⟩),.int .i64 k,.slice pa b f] w λr m=>r=.returned (.int .u64 s.count)/\∃L A,bC m q sb L A {s with aM:=s.aM++[⟨s.count,s.tick,k,ps⟩],count:=s.count+1}/\dh N w m sb v A/\∀j,eG sb A j->eG sb v j\/w.heap.size<=j\/(Value.slice pa b f).ownBlock=some j:=by
 have M:v.lf.length<=1000000:=by have:=fG List.length H.aM;rw[dH]at this;omega
 have t:=H.sr;apply(Ig w sb 91 q cs _ _ _ v.lf v.ll s.count s.tick s.wait H.aP H.fl H.aG t.1 K M (k:Int) pa b f ps).mono;rintro r m⟨rfl,d,O,P,C,B⟩;refine⟨rfl,?_⟩
 have T:(95:Nat)<cs.size:=by rw[H.sz];omega
 have u:∀i,i≠91->i≠94->((cs.setIfInBounds 91 (.int .u64 (s.count+1))).setIfInBounds (91+3) d)[i]?=cs[i]? :=λi g l=>by rw[bE,bE]
 have U:d.ownBlock≠none->True:=λ_=>trivial
 obtain⟨V,cap,e1,e2,z⟩:=hp.Cs;have W:∀j,(v.own 8).ownBlock=some j->j<w.heap.size:=H.bu.lt 8 (by omega);have Q:∀j,d.ownBlock=some j->(v.own 9).ownBlock≠some j:=λj g l=>by
  obtain e|e:=B
  rw[e]at g;exact t.2.2 j g l;have:=e j g;have:=H.bu.lt 9 (by omega) j l;omega
 have R:rz w m sb 241 cs ((cs.setIfInBounds 91 (.int .u64 (s.count+1))).setIfInBounds (91+3) d) 91 (v.own 8) (v.own 9) d (v.own 9):=
  ⟨O,by simp,λi hi=>u i (by omega) (by omega),C.mono (λj _ h=>h.elim .inl (λh=>.inr (.inl h))),B,.inl rfl⟩
 have hF:iI m q ((cs.setIfInBounds 91 (.int .u64 (s.count+1))).setIfInBounds (91+3) d) 91 d (v.own 9) (v.lf++[(⟨s.count,s.tick,(k:Int),ps⟩,.slice pa b f)]) v.ll (s.count+1) s.tick s.wait:=
  ⟨by rw[bE];exact cG,(u _ (by omega) (by omega)).trans H.fl.c1,(u _ (by omega) (by omega)).trans H.fl.c2,cG (by simp;omega),(u _ (by omega) (by omega)).trans H.fl.c4,P,H.fl.ol.av C (λj e h=>by
   obtain rfl|h:=h
   exact t.2.1 e
   ·exact t.2.2 j h e)⟩
 have:=H.yI I d (v.own 9) _ v.ll _ _ _ R hF Q (λx a=>by
  obtain a|a:=bQ.1 a
  obtain a|a:=bQ.1 a
  exact .inl (iO _ a);right;rw[cL.1 a];obtain⟨rfl,-,rfl⟩:=js e1;refine⟨pa,b,f,rfl,?_,λy p=>?_⟩
  have S:b=ps.length:=(js e1).2.1;rw[S];exact e2.dr (λ_ y p=>C.block _ (hp.lt y.block (z y p)).2 (λh=>F y.block (z y p) (.inl (h.elim .inl (λh=>.inr ⟨8,by omega,h⟩)))));have G:=hp.lt y.block (z y p);have D:¬cq sb v y.block:=λh=>F y.block (z y p) (.inl h)
  refine⟨G.1,bX G.2 C.size,D,λe=>?_,λe=>D (.inr ⟨9,by omega,e⟩)⟩
  obtain h|h:=B
  rw[h]at e;exact D (.inr ⟨8,by omega,e⟩);have:=h _ e;omega
  ·exact .inl (jW _ a))
 obtain⟨g,l⟩:=this;refine⟨(cs.setIfInBounds 91 (.int .u64 (s.count+1))).setIfInBounds (91+3) d,_,?_,l,λj E=>?_⟩
 have e:({s with aM:=(v.lf++[((⟨s.count,s.tick,(k:Int),ps⟩:Pk),Value.slice pa b f)]).map (·.1),lost:=v.ll.map (·.1),count:=s.count+1,tick:=s.tick,wait:=s.wait}:Sd)={s with aM:=s.aM++[⟨s.count,s.tick,k,ps⟩],count:=s.count+1}:=by
  rw[mY,<-H.aM,<-H.lost];rfl
 rw[<-e];exact g;obtain E|⟨i,y,n,c,hi,e,rfl⟩|⟨x,a,y,n,c,e,rfl⟩:=E
 exact(l.ft j E).elim (λh=>.inl (.inl h)) (λh=>.inr (.inl h));exact .inl (.inr (.inl ⟨i,y,n,c,hi,e,rfl⟩));simp only at a;obtain a|a:=bQ.1 a
 obtain a|a:=bQ.1 a
 exact .inl (.inr (.inr ⟨x,iO _ a,y,n,c,e,rfl⟩));rw[cL.1 a]at e;simp only at e;right;right;rw[e];rfl;exact .inl (.inr (.inr ⟨x,jW _ a,y,n,c,e,rfl⟩))
structure fJ(W:World)(N sb:Nat)(v:aX)(a:List El)(b:Value):Prop where
 own:eX W N b a
 at_:ig W N a
 a5:∀j,b.ownBlock=some j->¬eG sb v j
 ae:∀e∈a,¬eG sb v e.1
 s5:∀e∈a,b.ownBlock≠some e.1
def fJ.nil(W:World)(N sb:Nat)(v:aX):fJ W N sb v [] (.slice none 0 0):=⟨eX.nil _ _,ig.nil _ _,λj e=>(by cases e),λe a=>(by cases a),λe a=>(by cases a)⟩
def fJ.next{g:aX}{c:List El}{X:Nat->Prop}(h:fJ W n k d c x)(C:ao W w (λj=>cq k d j\/X j))(i:∀j,x.ownBlock=some j->¬X j)(l:∀e∈c,¬X e.1)(ar:∀j,eG k g j->eG k d j\/W.heap.size<=j):fJ w n k g c x:=
 ⟨h.own.av C (λj e a=>a.elim (λa=>h.a5 j e (.inl a)) (i j e)),h.at_.av C (λe b a=>a.elim (λa=>h.ae e b (.inl a)) (l e b)),λj e f=>(ar j f).elim (h.a5 j e) (λa=>by have:=(h.own.lt j e).2;omega),λe b f=>(ar _ f).elim (h.ae e b) (λa=>by have:=h.at_.lt b;omega),h.s5⟩
def fJ.gb{a:List El}(h:fJ W n k d a x)(g:W.grownBy w none):fJ w n k d a x:=
 h.next (X:=λ_=>False) ((ao.of g).mono (λ_ _ e=>by cases e)) (λ_ _=>id) (λ_ _=>id) (λ_ h=>.inl h)
def fJ.app{i:List El}{e:El}(h:fJ W n k d i y)(r:ig W n [e])(s:¬eG k d e.1)(t:y.ownBlock≠some e.1)(u:∀a∈i,a.1≠e.1)(l:∀j,eG k d j->j<W.heap.size)(v:eX w n z (i++[e]))(g:W.grownBy w y.ownBlock)(f:z.ownBlock=y.ownBlock\/z.ownBlock=some W.heap.size):fJ w n k d (i++[e]) z:=by
 have m:=(h.at_.app r (λa l b A=>by rw[cL.1 A];exact u a l))
 have p:∀x∈i++[e],y.ownBlock≠some x.1:=λx c=>by
  obtain c|c:=bQ.1 c
  exact h.s5 x c;rw[cL.1 c];exact t
 refine⟨v,m.av (ao.of g) (λx c e2=>p x c e2),λj e1 q=>?_,λx c=>?_,λx c e1=>?_⟩
 obtain f|f:=f
 rw[f]at e1;exact h.a5 j e1 q;rw[f]at e1;have:=aQ e1;have:=l j q;omega;obtain c|c:=bQ.1 c
 exact h.ae x c;rw[cL.1 c];exact s;obtain f|f:=f
 rw[f]at e1;exact p x c e1;rw[f]at e1;have:=aQ e1;have:=m.lt c;omega
def bC.qL(H:bC w n k c d s)(b:dD s.key):w.rangeAt k 2 (bv s.key):=λj u a=>by
 have e:j<16:=by have:=(kQ.1 a).1;rw[fL,b.1]at this;exact this
 rw[ba H.aP,H.key j e];exact a
def uz{key:List Int}{s n:Int}{l:List Int}(hl:∀x∈l,W8 x):∀x∈cK key s n l,W8 x:=by
 intro x a;simp only[cK,bQ]at a;obtain(a|a)|a:=a
 exact pY _ x a;exact uy hl x a;exact pY _ x a
structure Pz where
 s:Sd
 d:Du
 l:List (List Int)
def Pz.load(x:Pz)(k:Nat):Ld:=jB k (x.s.aj-16) ((x.s.aj-16).toNat+1) ⟨x.s.out k,x.d,[],[]⟩
def Pz.stay(x:Pz)(k:Nat):Pz:=⟨{x.s with out:=ah x.s.out k (x.load k).o},(x.load k).d,x.l⟩
def Pz.jm(x:Pz)(k:Nat):Pz:=
 ⟨{x.s with out:=ah x.s.out k (x.load k).o,aM:=x.s.aM++[⟨x.s.count,x.s.tick,k,(x.load k).ps⟩],count:=x.s.count+1},(x.load k).d,x.l++[cK x.s.key (aT x.s.first) x.s.count (x.load k).fr]⟩
def lI(k:Nat):Nat->Pz->Pz
 |0,x=>x
 |n+1,x=>if 10<=x.s.aM.length then x else if(x.load k).ps.length=0 then x.stay k else lI k n (x.jm k)
def Sd.pieces(s:Sd)(k:Nat):Pz:=lI k 11 ⟨s,s.due k,[]⟩
def KX{b:Ot}{d0:Du}{a:Int}{k:Nat}(c:k<4)(e:a<=1000)(f:0<=b.h.fr)(g:b.en<=4096):∀(m:Nat)(x:Ld),oU b d0 a x->oU b d0 a (jB k a m x):=by
 intro m;induction m with
 |zero=>exact λx h=>h
 |succ m i=>
  intro x h;unfold jB;cases j:(x.o.next x.d (a-x.fr.length)).2;simp only[gI,gm];exact h;simp only[fu];exact i _ (h.step k c e f g j).1
structure ny(s0:Sd)(k:Nat)(x:Pz):Prop where
 aj:x.s.aj=s0.aj
 key:x.s.key=s0.key
 h:(x.s.out k).h=(s0.out k).h
 sG:(x.s.out k).sG=(s0.out k).sG
 code:(x.s.out k).code=(s0.out k).code
 ay:0<=(x.s.out k).ay/\(x.s.out k).ay<=4096
 mc:jO (x.s.out k) x.d
 dl:x.d.l.length+1000*(10-x.s.aM.length)<=900000
 fl:x.s.aM.length<=10
 bf:0<=x.s.count/\x.s.count+10-x.s.aM.length<=4611686018427387000
 lf:x.l.length<=x.s.aM.length
def ny.ll{s0:Sd}{k:Nat}{x:Pz}(H:ny s0 k x):x.l.length<=1000:=by have:=H.lf;have:=H.fl;omega
def ny.ld{s0:Sd}{k:Nat}{x:Pz}(H:ny s0 k x)(a:k<4)(f:16<=s0.aj/\s0.aj<=1000)(b:0<=(s0.out k).h.fr)(c:(s0.out k).en<=4096):oU (x.s.out k) x.d (x.s.aj-16) (x.load k):=by
 have e:(x.s.out k).en=(s0.out k).en:=by unfold Ot.en;rw[H.h]
 refine KX a (by rw[H.aj];omega) (by rw[H.h];exact b) (by rw[e];exact c) _ _ ⟨rfl,rfl,rfl,H.ay,H.mc,by simp,by rw[H.aj];simp;omega,by simp⟩
def ny.jm{s0:Sd}{k:Nat}{x:Pz}(H:ny s0 k x)(a:k<4)(b:16<=s0.aj/\s0.aj<=1000)(c:0<=(s0.out k).h.fr)(d:(s0.out k).en<=4096)(e:x.s.aM.length<10):ny s0 k (x.jm k):=by
 have L:=H.ld a b c d;unfold Pz.jm;have f:=L.dl;have g:=L.fl;have i:=H.dl;have j:=H.bf;have l:=H.aj;have m:=H.lf;refine⟨H.aj,H.key,?_,?_,?_,?_,?_,?_,?_,?_,?_⟩
 simp only[bk];exact L.h.trans H.h;simp only[bk];exact L.sG.trans H.sG;simp only[bk];exact L.code.trans H.code;simp only[bk];exact L.ay;simp only[bk];exact L.mc;simp only[bH,dc,fe];omega;simp only[bH,dc,fe];omega;simp only[bH,dc,fe];omega;simp only[bH,dc,fe];omega
structure kH(w0:World)(base sb D:Nat)(v0:aX)(x:Pz)(v5:Value)(W:World)(cs:Array Value)(v:aX)(els:List El):Prop where
 side:bC W base sb cs v x.s
 dS:dh w0.heap.size w0 W sb v0 v
 due:fW W D w0.heap.size (λj=>j=D\/cq sb v j\/v5.ownBlock=some j) x.d
 nD:¬eG sb v D
 dl:D<W.heap.size
 ls:fJ W w0.heap.size sb v els v5
 n5:v5.ownBlock≠some D
 ne:∀e∈els,e.1≠D
 el:els.map (·.2)=x.l
section
variable {w0:World} {base sb D k:Nat} {v0:aX} {x:Pz} {v5:Value} {W W':World} {cs:Array Value} {v:aX} {els:List El}
def kH.gb(h:kH w0 base sb D v0 x v5 W cs v els)(g:W.grownBy W' none):kH w0 base sb D v0 x v5 W' cs v els:=
 ⟨h.side.an g,h.dS.trans (dh.an g),h.due.an g,h.nD,bX h.dl g.size,h.ls.gb g,h.n5,h.ne,h.el⟩
def kH.KY(h:kH w0 base sb D v0 x v5 W cs v els)(q:w0.heap.size<=D){r:Ld}{f g:Value}{i:Array Value}{b:aX}{c:World}(a:iB W base sb D k v x.s r.o r.fr r.ps f g c i b)(hd:fW c D w0.heap.size (LX (λj=>v5.ownBlock=some j) D f g sb b) r.d):kH w0 base sb D v0 ⟨{x.s with out:=ah x.s.out k r.o},r.d,x.l⟩ v5 c i b els:=by
 have t:=h.dS.av.size;have m:Wx w0.heap.size W c sb v b (λj=>j=D):=⟨a.wx.av,a.wx.ft,λj e=>(a.wx.ar j e).imp id (λe=>by omega)⟩
 refine⟨a.side,m.dS h.dS (λj e=>by omega),hd.Cv (λj _ n=>n.elim .inl (λe=>.inr (.inr (.inr e)))),a.yX h.dl h.nD,bX h.dl a.wx.av.size,h.ls.next a.wx.av (λj e e2=>h.n5 (by rw[<-e2];exact e)) (λe p e2=>h.ne e p e2) a.wx.ar,h.n5,h.ne,h.el⟩
def kH.KZ(h:kH w0 base sb D v0 x v5 W cs v els){k:Sd}{l:Array Value}{b:aX}{g:World}(m:bC g base sb l b k)(c:dh w0.heap.size W g sb v b)(i:∀j,eG sb b j->eG sb v j\/W.heap.size<=j\/(v5.ownBlock≠some j/\j≠D/\∀e∈els,e.1≠j)):kH w0 base sb D v0 {x with s:=k} v5 g l b els:=by
 have n:∀j,eG sb b j->v5.ownBlock=some j->False:=λj d e=>by
  obtain a|a|a:=i j d
  exact h.ls.a5 j e a;have:=(h.ls.own.lt j e).2;omega;exact a.1 e
 have p:∀e∈els,¬eG sb b e.1:=λe f d=>by
  obtain a|a|a:=i _ d
  exact h.ls.ae e f a;have:=h.ls.at_.lt f;omega;exact a.2.2 e f rfl
 refine⟨m,h.dS.trans c,h.due.step c.av (λe=>h.nD (.inl e)) (λj _ e=>.inr (.inl e)) (λj q=>?_),λe=>?_,bX h.dl c.av.size,⟨h.ls.own.av c.av (λj e e2=>h.ls.a5 j e (.inl e2)),h.ls.at_.av c.av (λe f e2=>h.ls.ae e f (.inl e2)),λj e d=>n j d e,p,h.ls.s5⟩,h.n5,h.ne,h.el⟩
 obtain e|e|e:=q
 exact .inl (.inl e);obtain e|e:=c.ft j e
 exact .inl (.inr (.inl e));exact .inr e;exact .inl (.inr (.inr e));obtain a|a|a:=i D e
 exact h.nD a;have:=h.dl;omega;exact a.2.1 rfl
def kH.app(h:kH w0 base sb D v0 x v5 W cs v els){f m:World}(p:W.grownBy f none){e:El}(w:W.heap.size<=e.1)(q:f.heap[e.1]?=some (.cells (bv e.2).toArray 5 (0,0)))(r:∀y∈e.2,W8 y){k:Value}(s:eX m w0.heap.size k (els++[e]))(g:f.grownBy m v5.ownBlock)(c:k.ownBlock=v5.ownBlock\/k.ownBlock=some f.heap.size):kH w0 base sb D v0 {x with l:=x.l++[e.2]} k m cs v (els++[e]):=by
 have b:=h.gb p;have z:=h.dS.av.size;have A:=h.dl;have t:ig f w0.heap.size [e]:=⟨λy d=>by rw[cL.1 d];exact⟨by omega,r,q⟩,List.pairwise_singleton _ _⟩
 have u:=b.ls.app t (λi=>by have:=og h.side.bu i;omega) (λe1=>by have:=(h.ls.own.lt _ e1).2;omega) (λa i e1=>by have:=h.ls.at_.lt i;omega) (λj i=>og b.side.bu i) s g c;refine⟨b.side.other (ao.of g) (λj _ e1=>b.ls.a5 j e1),⟨?_,b.dS.ft,b.dS.ar⟩,b.due.step (ao.of g) (λe1=>b.n5 e1) (λj n e1=>.inr (.inr e1)) (λj n=>?_),b.nD,bX b.dl g.size,u,λe1=>?_,λy d=>?_,by rw[mY,h.el];rfl⟩
 exact(b.dS.av.trans (ao.of g)).mono (λj n e1=>e1.elim id (λe1=>by have:=(b.ls.own.lt j e1).1;omega));obtain e1|e1|e1:=n
 exact .inl (.inl e1);exact .inl (.inr (.inl e1));obtain c|c:=c
 rw[c]at e1;exact .inl (.inr (.inr e1));rw[c]at e1;have:=aQ e1;exact .inr (by omega);obtain c|c:=c
 rw[c]at e1;exact h.n5 e1;rw[c]at e1;have:=aQ e1;have:=b.dl;omega;obtain d|d:=bQ.1 d
 exact h.ne y d;rw[cL.1 d];omega
end
def iA.low{b2:Nat}{l:List Pc}(h:iA w n x l)(d:b2<=n):iA w b2 x l:=by
 obtain⟨h0,b,a⟩:=h;refine⟨h0,b,?_⟩
 obtain a|⟨g,cap,cur,e1,e2,c⟩:=a
 exact .inl a;exact .inr ⟨g,cap,cur,e1,by omega,c⟩
def wJ(w:World)(g sb:Nat)(v:aX)(r:Pz)(e:Ending)(b:World):Prop:=
 ∃a n c h d f,e=.returned (.slice a n c)/\bC b g sb h d r.s/\dh w.heap.size w b sb v d/\fJ b w.heap.size sb d f (.slice a n c)/\f.map (·.2)=r.l
def fJ.slice{b:List El}(h:fJ W n k d b x):∃a c,x=.slice a b.length c:=by
 obtain⟨a,c,e,-⟩:=h.own.gK;exact⟨a,c,e⟩
def kH.post{x:Pz}{v:aX}{b:List El}(h:kH w k i j d x (.slice a n l) W C v b):wJ w k i d x (.returned (.slice a n l)) W:=⟨a,n,l,C,v,b,rfl,h.side,h.dS,h.ls,h.el⟩
def K0(w:World)(p sb k:Nat)(cs:Array Value)(v:aX)(s:Sd)(H:bC w p sb cs v s)(U:k<4)(cA:dD s.key)
 (N:(s.out k).h.nice) (b7:(s.out k).en<=4096) (cB:0<=(s.out k).ay/\(s.out k).ay<=4096) (cC:0<=(s.out k).code/\(s.out k).code<=4611686018427387903) (a3:16<=s.aj/\s.aj<=1000) (c9:s.aM.length<=10) (ew:0<=s.count/\s.count<=4611686018427386000) (ez:(s.out k).h.af.length+(dR v.lf k).length<=100000) (a4:jO (s.out k) (s.due k)) (b8:(s.due k).l.length<=800000):
 Calls prog 159 #[.pointer (some ⟨sb,0,none⟩),.int .i64 k] w (wJ w p sb v (s.pieces k)):=by
 obtain⟨r,V⟩:=exq (s.pieces k);rw[<-V];obtain⟨R,O⟩:=exq (wJ w p sb v r);rw[<-O];replace⟨O,V⟩:=bA O V;have W:=J (JV w p sb cs v s H k U N (by omega));have ca:0<=(s.out k).h.fr:=N.1;have db:Hid (ny s k ⟨s,s.due k,[]⟩):=J ⟨rfl,rfl,rfl,rfl,rfl,cB,a4,by simp only;omega,c9,by simp only;omega,by simp⟩;obtain⟨du,E⟩:=exq (s.due k);rw[<-E]at W;obtain⟨de,X⟩:=exq du.e;obtain⟨dg,Y⟩:=exq du.g;rw[<-X,<-Y]at W;replace⟨E,X,Y,a4,b8,N,H⟩:=iR E X Y a4 b8 N H;go_enter func159,ntmps159;go_wp2_with fail;apply(Z W).mono;rintro e C⟨⟨a,n,c,rfl,q1,q2⟩,g1⟩;obtain⟨W2,al⟩:=exq (C.alloc (.cells #[.slice a n c,.bool de,.bool dg] 332));have g2:C.grownBy W2 none:=by rw[al];exact aH _ _ _
 have a8:W2.heap[C.heap.size]?=some (.cells #[.slice a n c,.bool de,.bool dg] 332 (0,0)):=by rw[al];exact aO _ _
 have a9:=aq g1 g2;have dk:Hid (kH w p sb C.heap.size v ⟨s,s.due k,[]⟩ (.slice none 0 0) W2 cs v []):=J (by
  have hz:=g1.size;have dn:=(aZ.1 a8).1;refine⟨(Z H).an a9,dh.an a9,⟨a,n,c,by rw[<-Z E,<-Z X,<-Z Y];exact a8,by rw[<-Z E];exact q1.an g2,λhl y ey=>?_⟩,λha=>by have:=og (Z H).bu ha;omega,dn,fJ.nil _ _ _ _,λe=>(by cases e),λe he=>(by cases he),rfl⟩
  rw[<-Z E]at hl;have h1:=q2 hl y ey;have h2:y.block<C.heap.size:=by subst ey;exact q1.lt hl
  refine⟨h1,λF=>?_⟩
  obtain F|F|F:=F
  omega;have:=pP (Z H).bu F;omega
  ·cases F)
 have ds:w.heap.size<=C.heap.size:=g1.size;clear q1 q2 a8 W;go_upto_region 3 with fail;rw[<-al];clear al g2 a9 g1;generalize C.heap.size=D at *;go_loopg [5] (11-s.aM.length) (λg v5 wr=>∃(x:Pz)(m:Nat)(P:Array Value)(t:aX)(q:List El),ny s k x/\kH w p sb D v x v5 wr P t q/\g=11-x.s.aM.length/\11-x.s.aM.length<=m/\lI k m x=r);case atStart=>exact⟨_,11,cs,v,[],Z db,Z dk,rfl,by omega,(Z V).symm⟩
 case round=>
  obtain⟨x,m,P,t,q,f,b,rfl,hm,hl⟩:=hrel;obtain⟨a5,c5,rfl⟩:=b.ls.slice;have Q:t.lf.length=x.s.aM.length:=by have:=fG List.length b.side.aM;rw[dH]at this;exact this.symm
  have G:=J (Ib wr sb 91 p (t.own 8) t.lf ((ba b.side.aP _).trans b.side.fl.c3) b.side.fl.of);rw[Q]at G;obtain⟨m',dx⟩:∃m',m=m'+1:=⟨m-1,by have:=f.fl;omega⟩
  have z:(if 10<=x.s.aM.length then x else if(x.load k).ps.length=0 then x.stay k else lI k m' (x.jm k))=r:=by rw[<-hl,dx];rfl
  clear hl;have dE:Hid (x.l.length<=1000):=J f.ll;by_cases ch:10<=x.s.aM.length
  ·have d1:decide (10<=(x.s.aM.length:Int))=true:=dT_;rw[aD ch]at z;rw[d1]at G;have bb:Hid (R (.returned (.slice a5 q.length c5)) wr):=J (by rw[Z O,<-z];exact b.post);clear z d1;replace⟨f,b,Q⟩:=cg f b Q;go_wp2_with fail;apply(Z G).mono;rintro e w2⟨rfl,rfl⟩;go_wp2_with fail;exact Z bb
  have d1:decide (10<=(x.s.aM.length:Int))=false:=dF_;rw[az ch]at z;rw[d1]at G;have eK:(x.s.out k).en=(s.out k).en:=by unfold Ot.en;rw[f.h]
  have bj:=J (Kb wr (λj=>(Value.slice a5 q.length c5).ownBlock=some j) (λj e=>(b.ls.own.lt j e).2) p sb D w.heap.size k P t x.s x.d b.side U b.dl b.nD b.dS.av.size b.due f.mc (by have:=f.dl;omega) (by rw[f.h];exact Z N) (by omega) f.ay (by rw[f.code];exact cC) (by rw[f.aj];exact a3) (x.load k) rfl);clear d1;replace⟨f,b,Q,z,hm⟩:=eR f b Q z hm;go_wp2_with fail;apply(Z G).mono;rintro e w2⟨rfl,rfl⟩;go_wp2_with fail;apply(Z bj).mono;rintro e w3⟨a6,n6,c6,a7,n7,c7,dG,v3,rfl,i,ax⟩;have A:=(Z b).KY ds i ax;have I:n7=(x.load k).ps.length:=by
   obtain⟨a',c',e'⟩:=i.ps.slice;exact(js e').2.1
  by_cases h0:(x.load k).ps.length=0
  ·have B:=Z z;rw[aD h0]at B;have e0:((n7:Int)==0)=true:=by rw[I,h0];rfl
   have bb:Hid (R (.returned (.slice a5 q.length c5)) w3):=J (by rw[Z O,<-B];exact A.post);clear B ax bj;replace⟨i,A,I,h0⟩:=eV i A I h0;go_wp2_with fail;exact Z bb
  have B:=Z z;rw[az h0]at B;have e0:((n7:Int)==0)=false:=by rw[I];simpa using h0
  have br:=(Z f).bf;have ea:=J ((Z f).jm U a3 ca b7 (by omega));have bt:=J (KW w3 p sb w.heap.size k dG v3 _ A.side A.dS.av.size a7 n7 c7 (x.load k).ps (i.ps.low (Z b).dS.av.size) i.a7 (by simp only;omega) (by have:=(Z f).fl;simp only;omega));simp only at bt;replace⟨B,i,ax,A,I,h0,br⟩:=iR B i ax A I h0 br;clear bj G;go_wp2_with fail;apply(Z bt).mono;rintro e w4⟨rfl,ee,v4,K,aC,bx⟩;have S:=(Z A).KZ K aC (λj ha=>by
   obtain h|h|h:=bx j ha
   exact .inl h;exact .inr (.inl h)
   ·have h1:=((Z i).ps.lt j h).1;refine .inr (.inr ⟨λe=>by have:=((Z b).ls.own.lt j e).2;omega,by have:=(Z b).dl;omega,λe he e2=>by have:=(Z b).ls.at_.lt he;omega⟩))
  have bz:bI w4 a6 n6 c6 (x.load k).fr:=((Z i).fr.av aC.av (λj e h=>(Z i).a6 j e (.inl h))).gT;have bM:∀y∈(x.load k).fr,W8 y:=(Z i).fr.1;have b0:=(Z f).ld U a3 ca b7;have eL:(x.load k).fr.length<=1000:=by have:=b0.fl;have:=(Z f).aj;omega
  have a0:dD x.s.key:=by rw[(Z f).key];exact cA
  have cj:=J (zj w4 sb x.s.key x.s.first a0 (K.qL a0) ((ba K.aP _).trans K.iy) x.s.count (by have:=Z br;unfold aS;omega) a6 n6 c6 (x.load k).fr bz);clear bt;replace⟨K,aC,bx,S,bz,b0,bM,a0⟩:=qG K aC bx S bz b0 bM a0;go_wp2_with fail;apply(Z cj).mono;rintro e w5⟨g,rfl,hg,b3,g5⟩;clear cj;obtain⟨L,hL⟩:=exq ((x.load k).fr.length+16);rw[<-hL];obtain⟨bs,M⟩:=exq (cK x.s.key (aT x.s.first) x.s.count (x.load k).fr);rw[<-M]at b3;have b4:bs.length=L:=by rw[M,nw,hL]
  have cp:∀y∈bs,W8 y:=by rw[M];exact uz (Z bM)
  obtain⟨W6,a1⟩:=exq (w5.alloc (.cells #[.slice (some ⟨g,0,none⟩) L L] 112));have g6:w5.grownBy W6 none:=by rw[a1];exact aH _ _ _
  have cv:W6.heap[w5.heap.size]?=some (.cells #[.slice (some ⟨g,0,none⟩) L L] 112 (0,0)):=by rw[a1];exact aO _ _
  have b5:=aq g5 g6;have b6:=(Z S).gb b5;have cw:q.length+[(g,bs)].length<=100000000:=by
   have h1:q.length=x.l.length:=by have:=fG List.length (Z S).el;rw[dH]at this;exact this
   have h2:=Z dE;simp only[dc,fe]
   omega
  obtain⟨eg,ei,ej,w7,a2,o7,g7,cx⟩:=yT (w:=W6) 206 w.heap.size _ q b6.ls.own ⟨w5.heap.size,0,none⟩ 1 [(g,bs)] (λj u hj=>by
   have ek:j=0:=by have:=(kQ.1 hj).1;simpa using this
   subst ek;have hu:u=kh (g,bs):=by simpa using hj.symm
   subst hu;rw[Addr.add_mid];unfold kh;simp only[b4]
   simp[World.cell?,cv]) cw b6.dS.av.size
  have cy:=(Z S).app (e:=(g,bs)) b5 hg (bB b3 g6) cp o7 g7 cx;have hrel:Hid (∃(T:Pz)(m2:Nat)(P:Array Value)(t:aX)(eo:List El),ny s k T/\kH w p sb D v T (.slice eg ei ej) w7 P t eo/\11-(x.s.aM.length+1)=11-T.s.aM.length/\11-T.s.aM.length<=m2/\lI k m2 T=r):=J (by
   refine⟨x.jm k,m',ee,v4,q++[(g,bs)],Z ea,?_,?_,?_,Z B⟩
   unfold Pz.jm;rw[<-M];exact cy;unfold Pz.jm;simp
   ·have:=Z hm;unfold Pz.jm;simp;omega)
  rw[a1]at a2;replace a2:=J a2;clear b6 cy cv a1 b3 o7 g7 cx cw cp b5 g6 g5 hg;replace⟨b4,M,hL⟩:=cg b4 M hL;go_wp2_with (at_builtin;refine pW (by rfl) 206 206 (by rfl) _ _ (by rfl) _ _ _ (by rfl) (by rfl) (Z a2) ?_);go_roundg (11-(x.s.aM.length+1));case measure=>omega
  case rel=>exact Z hrel
end
section
variable{A:Addr}{D:List Rg}{i k m:Nat}{a:Option Addr}{s:Sd}{w:World}
def K4(a:Option Addr)(n cap i:Nat)(h:i<=cap)(W:World):(Instr.slice 133 (.slice a n cap) none (some (.int .i64 i)) (some (.int .i64 i))).run prog W=.ok (.slice a i i) W:=by
 rw[run_slice_hm W 133 a n cap (by rw[wK];exact underlying133) .i64 .i64 (i:Int) (i:Int) (by omega) (cS _) (by omega),wK,CW];simp only[jd,sliced,nT,nV,Nat.sub_zero]
 congr 1;cases a with
 |none=>simp
 |some y=>simp[Addr.add]
def K6(a:Option Addr)(n cap j:Nat)(h:j<=n)(W:World):(Instr.slice 133 (.slice a n cap) (some (.int .i64 j)) none none).run prog W=.ok (.slice (if cap=j then a else a.map (·.add (j*2))) (n-j) (cap-j)) W:=by
 rw[run_slice_l W 133 a n cap (by rw[wK];exact underlying133) .i64 (j:Int) (by omega) (by omega),wK,CW];simp only[jd,sliced,nT]
def bw.K9(h:bw w a k i D)(m:Nat)(c:m<=k):bw w a m m (D.take m):=by
 obtain⟨d,e,f,g,b⟩:=h.head m c;refine⟨d,e,aR _,by omega,?_⟩
 obtain b|b:=b
 exact .inl (by omega);exact .inr b
def bw.rest(h:bw w a k i D)(m:Nat)(c:m<=k):bw w (if i=m then a else a.map (·.add (m*2))) (k-m) (i-m) (D.drop m):=by
 refine h.back m c ?_;by_cases d:i=m;left;omega;right;obtain⟨-,-,e,-,f|⟨b,o,rfl,-⟩⟩:=h;omega;exact⟨b,o,rfl,by rw[az d];simp[Addr.add_mid]⟩
def La(h:(if k=m then a else a.map (·.add (m*2)))=some A):∃z,a=some z/\z.block=A.block:=by
 split at h;exact⟨A,h,rfl⟩
 cases a with
 |none=>cases h
 |some z=>
  refine⟨z,rfl,?_⟩
  simp only[rV,mn]at h;rw[<-h];unfold Addr.add;split<;>rfl
def CY(h:iQ D)(m:Nat)(b:m<D.length):iQ (D.drop m):=by
 have e:∀i,au (D.drop m) i=au D (m+i):=λi=>by simp[au,List.getD,kR]
 refine⟨by rw[dM];omega,λi hi=>?_⟩
 rw[dM]at hi;have a:=h.2 (m+i) (by omega);unfold ng at a⊢;rw[e,e];refine⟨a.1,a.2.1,λh0=>?_⟩
 have:=a.2.2 (by omega);rw[show m+(i-1)=m+i-1 by omega];exact this
def CZ(L:List Rg)(k i:Nat)(b:k<=L.length)(hi:i<k):au (fP L k) i=⟨(au L (L.length-1-i)).lo,(au L (L.length-1-i)).hi-1⟩:=by
 induction k with
 |zero=>omega
 |succ k a=>
  unfold fP;by_cases h:i<k;rw[<-a (by omega) h];simp only[au,List.getD]
  rw[mm (by rw[ma];exact h)];obtain rfl:i=k:=by omega
  simp only[au,List.getD]
  rw[mW (by rw[ma];omega),ma,rX];rfl
def C4(L:List Rg)(h:bl L)(h0:0<L.length)(b:∀r∈L,0<=r.lo/\r.hi<=4611686018427387904):iQ (fP L L.length):=by
 refine⟨by rw[ma];exact h0,λi hi=>?_⟩
 rw[ma]at hi;have a:=pI (D:=L) (i:=L.length-1-i) (by omega);have c:=h.2 _ a;have d:=b _ a;unfold ng;rw[CZ L _ i (aR _) hi];simp only
 refine⟨by omega,by omega,λe=>?_⟩
 rw[CZ L _ (i-1) (aR _) (by omega)];simp only
 have f:=h.lt (i:=L.length-1-i) (k:=L.length-1-(i-1)) (by omega) (by omega);omega
def C9(w:World)(l sb:Nat)(cs:Array Value)(v:aX)(s:Sd)(H:bC w l sb cs v s)(m:0<=s.count/\s.count<=4611686018427387903):
 Calls prog 205 #[.pointer (some ⟨sb,91,none⟩)] w λr b=>r=.returned (.int .u64 s.count)/\w.grownBy b (some sb)/\bC b l sb (cs.setIfInBounds 91 (.int .u64 (s.count+1))) v {s with count:=s.count+1}:=by
 apply(Bw w sb 91 cs _ s.count H.aP H.fl.c0 m).mono;rintro r b⟨rfl,g,p⟩;refine⟨rfl,g,?_⟩
 have z:(95:Nat)<cs.size:=by rw[H.sz];omega
 have a:∀i,i≠91->(cs.setIfInBounds 91 (.int .u64 (s.count+1)))[i]?=cs[i]? :=λi h=>bE
 have C:ao w b (λk=>k=sb):=(ao.of g).mono (λk _ e=>(aQ e).symm);have d:∀j,j=sb->cq sb v j:=λj h=>.inl h
 refine⟨p,by simp[H.sz],(a 0 (by omega)).trans H.c0,(a 1 (by omega)).trans H.c1,λi hi=>(a _ (by omega)).trans (H.key i hi),(a 18 (by omega)).trans H.iy,λj f=>?_,λj f=>?_,?_,H.aM,H.lost,(a 96 (by omega)).trans H.oh,?_,(a 97 (by omega)).trans H.oS,(a 98 (by omega)).trans H.kX,(a 99 (by omega)).trans H.dC,(a 100 (by omega)).trans H.pQ,?_,bD H.aG g.size⟩
 exact H.tY C d j f (λi q t=>a i (by omega)) (λk e h=>H.bu.ia j (by omega) (h▸e));exact H.tZ C d j f (λi q t=>a i (by omega)) (λk e h=>H.bu.ia (4+j) (by omega) (h▸e));exact⟨cG,(a _ (by omega)).trans H.fl.c1,(a _ (by omega)).trans H.fl.c2,(a _ (by omega)).trans H.fl.c3,(a _ (by omega)).trans H.fl.c4,H.fl.of.av C (λk e h=>H.bu.ia 8 (by omega) (h▸e)),H.fl.ol.av C (λk e h=>H.bu.ia 9 (by omega) (h▸e))⟩
 exact pO H.oj C (λy n c e=>⟨λh=>(H.bu.dQ 8 (by omega) y n c e).1 (d _ h),(H.bu.dQ 8 (by omega) y n c e).2⟩);have G:=H.bu;refine⟨bX G.iw C.size,λi hi k e=>bX (G.lt i hi k e) C.size,G.ia,G.sep,λi hi y n c e=>⟨(G.dQ i hi y n c e).1,bX (G.dQ i hi y n c e).2 C.size⟩,G.fV.av C (λk _ e=>.inl e)⟩
structure Ak where
 s:Sd
 rest:List Rg
 l:List (List Int)
def bU(l:List Rg):Fr:=⟨3,0,0,0,false,⟨#[]⟩,l⟩
def Ak.n(x:Ak):Nat:=kn x.rest (x.s.aj-16) x.rest.length
def Ak.step(x:Ak):Ak:=⟨{x.s with count:=x.s.count+1},x.rest.drop x.n,x.l++[cK x.s.key (aT x.s.first) x.s.count (bp [bU (x.rest.take x.n)])]⟩
def mD:Nat->Ak->Ak
 |0,x=>x
 |m+1,x=>if x.rest.length=0 then x else mD m x.step
def Sd.gD(s:Sd):Ak:=if s.eN then mD 10 ⟨{s with eN:=false},fP s.af s.af.length,[]⟩else⟨s,[],[]⟩
structure iC(w0:World)(base sb:Nat)(v0 v:aX)(x:Ak)(v3:Value)(a:Option Addr)(n c:Nat)(W:World)(cs:Array Value)(els:List El):Prop where
 side:bC W base sb cs v x.s
 dS:dh w0.heap.size w0 W sb v0 v
 ls:fJ W w0.heap.size sb v els v3
 el:els.map (·.2)=x.l
 rs:bw W a n c x.rest
 ra:x.rest≠[]->∀y,a=some y->w0.heap.size<=y.block/\v3.ownBlock≠some y.block
section
variable {w0:World} {base sb:Nat} {v0 v:aX} {x:Ak} {v3:Value} {a:Option Addr} {n c:Nat} {W W':World} {cs:Array Value} {els:List El}
def iC.gb(h:iC w0 base sb v0 v x v3 a n c W cs els)(g:W.grownBy W' none):iC w0 base sb v0 v x v3 a n c W' cs els:=
 ⟨h.side.an g,h.dS.trans (dh.an g),h.ls.gb g,h.el,h.rs.an g,h.ra⟩
def iC.num(h:iC w0 base sb v0 v x v3 a n c W cs els)(j:sb<w0.heap.size){b:Sd}{d:Array Value}(i:bC W' base sb d v b)(g:W.grownBy W' (some sb)):iC w0 base sb v0 v {x with s:=b} v3 a n c W' d els:=by
 have C:ao W W' (cq sb v):=(ao.of g).mono (λk _ e=>.inl (aQ e).symm);refine⟨i,h.dS.trans ⟨C,λ_ h=>.inl h,λ_ h=>.inl h⟩,h.ls.next (X:=λ_=>False) (C.mono (λ_ _ h=>.inl h)) (λ_ _=>id) (λ_ _=>id) (λ_ h=>.inl h),h.el,h.rs.dr (λhl y f=>g.block _ (by subst f;exact h.rs.lt hl) (λe=>by have:=(h.ra hl y f).1;have:=aQ e;omega)),h.ra⟩
def iC.app(h:iC w0 base sb v0 v x v3 a n c W cs els){d p:World}(q:W.grownBy d none){e:El}(A:W.heap.size<=e.1)(r:d.heap[e.1]?=some (.cells (bv e.2).toArray 5 (0,0)))(s:∀y∈e.2,W8 y){m:Value}(t:eX p w0.heap.size m (els++[e]))(g:d.grownBy p v3.ownBlock)(f:m.ownBlock=v3.ownBlock\/m.ownBlock=some d.heap.size):iC w0 base sb v0 v {x with l:=x.l++[e.2]} m a n c p cs (els++[e]):=by
 have b:=h.gb q;have B:=h.dS.av.size;have u:ig d w0.heap.size [e]:=⟨λy w=>by rw[cL.1 w];exact⟨by omega,s,r⟩,List.pairwise_singleton _ _⟩
 have z:=b.ls.app u (λk=>by have:=og h.side.bu k;omega) (λe1=>by have:=(h.ls.own.lt _ e1).2;omega) (λa k e1=>by have:=h.ls.at_.lt k;omega) (λj k=>og b.side.bu k) t g f;refine⟨b.side.other (ao.of g) (λj _ e1=>b.ls.a5 j e1),⟨?_,b.dS.ft,b.dS.ar⟩,z,by rw[mY,h.el];rfl,b.rs.dr (λhl y i=>g.block _ (by subst i;exact b.rs.lt hl) (λe1=>(b.ra hl y i).2 e1.symm)),λhl y i=>⟨(b.ra hl y i).1,λe1=>?_⟩⟩
 exact(b.dS.av.trans (ao.of g)).mono (λj C e1=>e1.elim id (λe1=>by have:=(b.ls.own.lt j e1).1;omega));obtain f|f:=f
 rw[f]at e1;exact(b.ra hl y i).2 e1;rw[f]at e1;have:=aQ e1;have:y.block<d.heap.size:=by subst i;exact b.rs.lt hl
 omega
def iC.cut(h:iC w0 base sb v0 v x v3 a n c W cs els)(m:Nat)(b:m<=n):iC w0 base sb v0 v {x with rest:=x.rest.drop m} v3 (if c=m then a else a.map (·.add (m*2))) (n-m) (c-m) W cs els:=
 ⟨h.side,h.dS,h.ls,h.el,h.rs.rest m b,λhl y d=>by
  obtain⟨z,f,e⟩:=La d;rw[<-e];exact h.ra (λe0=>hl (by simp only;rw[e0,List.drop_nil])) z f⟩
end
def wL(w0:World)(base sb:Nat)(v0 v:aX)(x:Ak)(a:Option Addr)(n c:Nat)(v3:Value)(W:World):Prop:=∃cs els,iC w0 base sb v0 v x v3 a n c W cs els
def Da{w0:World}{base sb:Nat}{v0 v:aX}{x:Ak}{v3:Value}{a:Option Addr}{n c:Nat}{p m b:World}{cs:Array Value}{els:List El}(q:iC w0 base sb v0 v x v3 a n c p cs els){l:List Int}{num:Int}{key:List Int}{f:Bool}(r:p.grownBy m none)(C:m.grownBy b none){g:Nat}(D:m.heap.size<=g)(E:b.heap[g]?=some (.cells (bv (cK key (aT f) num l)).toArray 5 (0,0)))(F:∀y∈l,W8 y)(hl:els.length<=1000):
 ∃h i k d,(Builtin.append_ #[206,206] 206 #[v3,.slice (some ⟨b.heap.size,0,none⟩) 1 1]).run prog (b.alloc (.cells #[.slice (some ⟨g,0,none⟩) (l.length+16) (l.length+16)] 112))=.ok (.slice h i k) d/\wL w0 base sb v0 v {x with l:=x.l++[cK key (aT f) num l]} a n c (.slice h i k) d/\(b.alloc (.cells #[.slice (some ⟨g,0,none⟩) (l.length+16) (l.length+16)] 112)).grownBy d v3.ownBlock:=by
 have G:(b.alloc (.cells #[.slice (some ⟨g,0,none⟩) (l.length+16) (l.length+16)] 112)).heap[b.heap.size]?=some (.cells #[.slice (some ⟨g,0,none⟩) (l.length+16) (l.length+16)] 112 (0,0)):=aO _ _;have s:b.grownBy (b.alloc (.cells #[.slice (some ⟨g,0,none⟩) (l.length+16) (l.length+16)] 112)) none:=aH _ _ _;generalize b.alloc (.cells #[.slice (some ⟨g,0,none⟩) (l.length+16) (l.length+16)] 112)=H at *;have t:=aq r (aq C s);have z:=q.gb t;obtain⟨h,i,k,d,I,o,A,K⟩:=yT (w:=H) 206 w0.heap.size v3 els z.ls.own ⟨b.heap.size,0,none⟩ 1 [(g,cK key (aT f) num l)] (λj u B=>by
  have L:j=0:=by have:=(kQ.1 B).1;simpa using this
  subst L;have M:u=kh (g,cK key (aT f) num l):=by simpa using B.symm
  subst M;rw[Addr.add_mid];unfold kh;simp only[nw]
  simp[World.cell?,G]) (by simp only[dc,fe];omega) z.dS.av.size
 exact⟨h,i,k,d,I,⟨_,_,q.app (e:=(g,cK key (aT f) num l)) t (bD r.size D) (bB E s) (uz F) o A K⟩,A⟩
structure wO(s0:Sd)(x:Ak):Prop where
 aj:x.s.aj=s0.aj
 key:x.s.key=s0.key
 sO:x.rest≠[]->iQ x.rest
 rl:x.rest.length<=8
 bf:0<=x.s.count/\x.s.count+x.rest.length<=4611686018427387000
 ll:x.l.length+x.rest.length<=8
def Lb(l:List Rg)(a:Int)(m:Nat):kn l a m<=m:=by
 induction m with
 |zero=>exact aR _
 |succ m b=>unfold kn;split<;>omega
def Db(w:World)(base sb:Nat)(v:aX)(r:Ak)(e:Ending)(b:World):Prop:=
 ∃a n c f d els,e=.returned (.slice a n c)/\bC b base sb f d r.s/\dh w.heap.size w b sb v d/\fJ b w.heap.size sb d els (.slice a n c)/\els.map (·.2)=r.l
def Lc{w:World}{a:Option Addr}{n c:Nat}{l:List Rg}(h:bw w a n c l)(b:iQ l)(hl:l.length<=8):dA w (bU l) (.slice a n c)/\cT (bU l)/\fT [bU l]<=30000000:=by
 have d:=h.2.1;subst d;refine⟨⟨⟨by simp[dq,bU],by simp[dq,bU],by simp[aS,bU],by simp[aS,bU],h.1⟩,by simp[bU,ByteArray.size],a,c,rfl,h⟩,⟨⟨by simp[bU],by simp[bU],by simp[bU],by simp[bU]⟩,⟨λ_=>b,λe=>by simp[bU]at e⟩,by simp[bU],by simp[bU]⟩,?_⟩
 simp[fT,lS,bU,ByteArray.size];omega
def Le(w:World)(base sb:Nat)(cs:Array Value)(v:aX)(s:Sd)(H:bC w base sb cs v s)(ew:dD s.key)(fq:56<=s.aj/\s.aj<=1000)(fs:0<=s.count/\s.count<=4611686018427386000)(ez:s.af.length<=8)(S:bl s.af)(T:∀r∈s.af,0<=r.lo/\r.hi<=4611686018427387904):
 Calls prog 158 #[.pointer (some ⟨sb,0,none⟩)] w (Db w base sb v s.gD):=by
 obtain⟨r,d⟩:=exq s.gD;rw[<-d];obtain⟨R,M⟩:=exq (Db w base sb v r);rw[<-M];replace M:=J M;have d98:=(ba H.aP _).trans H.kX;unfold Sd.gD at d;cases ho:s.eN
 ·rw[ho]at d98 d;simp only[gI,gm]at d;have bt:Hid (R (.returned (.slice none 0 0)) w):=J (by
   rw[Z M,d];exact⟨none,0,0,cs,v,[],rfl,H,dh.rfl' _ _ _ _,fJ.nil _ _ _ _,rfl⟩)
  clear d;replace H:=J H;go_enter func158,ntmps158;go_wp2_with fail;exact Z bt
 rw[ho]at d98 d;simp only[fu]at d;have f98:w.frozen? ⟨sb,98,none⟩=false:=by simp[World.frozen?,H.aP]
 obtain⟨U,V⟩:=exq (w.setCell ⟨sb,98,none⟩ (.bool false));have g1:w.grownBy U (some sb):=by rw[V];exact aK (aB _ _) _ _ (.inr rfl)
 have bx:U.heap[sb]?=some (.cells (cs.setIfInBounds 98 (.bool false)) 241 (0,0)):=by rw[V];exact heap_set H.aP _
 have eK:(98:Nat)<cs.size:=by rw[H.sz];omega
 have H1:dV w.heap.size w base sb v {s with af:=s.af,floor:=s.floor,eN:=false} U:=H.BD (v.set 8) s.af s.floor false bx (by simp) (λi hi=>bE) (by rw[bE];exact H.oh) (by rw[bE];exact H.oS) (cG eK) ((ao.of g1).mono (λk _ e=>(aQ e).symm)) (pO H.oj ((ao.of g1).mono (λk _ e=>(aQ e).symm)) (λy n c e=>⟨λh=>(H.bu.dQ 8 (by omega) y n c e).1 (.inl h),(H.bu.dQ 8 (by omega) y n c e).2⟩)) (.inl rfl);obtain⟨cB,t,G,cC⟩:=H1;have eL:=H.bu.iw;obtain⟨ca,cn,cc,bz,X⟩:=G.oj;have d96:=(ba G.aP _).trans G.oh;rw[bz]at d96;have bM:∀r∈s.af,1<=r.hi:=λr d=>by have:=S.2 r d;have:=T r d;omega
 have db:=J (JD U sb 96 ca cn cc s.af d96 X bM (by have fy:cn=s.af.length:=X.2.1;omega));have de:Hid (wO s ⟨{s with eN:=false},fP s.af s.af.length,[]⟩):=J ⟨rfl,rfl,λA=>C4 _ S (by
  obtain h|h:=Nat.eq_zero_or_pos s.af.length
  exact absurd (nM (by rw[ma];exact h)) A
  ·exact h) T,by simp only[ma];exact ez,by simp only[ma];omega,by simp only[ma,fe];omega⟩
 replace⟨S,T,bM,d,H,G,bx,X,bz⟩:=pT S T bM d H G bx X bz;clear g1;go_enter func158,ntmps158;go_upto_region 4 with fail;rw[<-V];clear V d98 f98;go_wp2_with fail;apply(Z db).mono;rintro e w2⟨rv,rfl,Y,g2⟩;obtain⟨ra,rc,rfl⟩:∃ra rc,rv=.slice ra (fP s.af s.af.length).length rc:=by
  obtain⟨-,-,⟨rfl,e2⟩|⟨g,cap,fA,rfl,_⟩⟩:=id Y;exact⟨none,0,by rw[e2]⟩
  exact⟨_,_,rfl⟩
 have dg:Hid (iC w base sb v t ⟨{s with eN:=false},fP s.af s.af.length,[]⟩ (.slice none 0 0) ra (fP s.af s.af.length).length rc w2 cB []):=J ⟨(Z G).an g2,cC.trans (dh.an g2),fJ.nil _ _ _ _,rfl,Y.ni.1,λ_ y ey=>⟨by have:=Y.ni.2 y ey;have:=cC.av.size;omega,λe=>by cases e⟩⟩;clear db Y g2;have al:=ma s.af s.af.length;obtain⟨rl,b0⟩:=exq (fP s.af s.af.length);rw[<-b0]at dg de d al;rw[<-b0];clear b0;replace al:=J al;go_upto_region 6 with fail;go_loopg [3,4] rl.length (λg v3 v4 wr=>∃(x:Ak)(m:Nat)(ax:Array Value)(els:List El)(a:Option Addr)(c:Nat),v4=.slice a x.rest.length c/\wO s x/\iC w base sb v t x v3 a x.rest.length c wr ax els/\g=x.rest.length/\x.rest.length+1<=m/\mD m x=r);case atStart=>exact⟨_,10,cB,[],ra,rc,rfl,Z de,Z dg,rfl,by have:=Z al;simp only;omega,(Z d).symm⟩
 case round=>
  obtain⟨x,m,ax,els,a,c,rfl,f,b,rfl,b3,hl⟩:=hrel;obtain⟨m',eS⟩:∃m',m=m'+1:=⟨m-1,by omega⟩
  have C:(if x.rest.length=0 then x else mD m' x.step)=r:=by rw[<-hl,eS];rfl
  obtain⟨I,c3,rfl⟩:=b.ls.slice;by_cases h0:x.rest.length=0
  ·rw[aD h0]at C;have bt:Hid (R (.returned (.slice I els.length c3)) wr):=J (by rw[Z M,<-C];exact⟨I,_,c3,ax,t,els,rfl,b.side,b.dS,b.ls,b.el⟩);have d0:decide (0<x.rest.length)=false:=dF_;clear C hl;replace⟨f,b,h0⟩:=cg f b h0;go_wp2_with fail;exact Z bt
  rw[az h0]at C;have d0:decide (0<x.rest.length)=true:=dT_;have A:x.rest≠[]:=λe=>h0 (by rw[e];rfl)
  have ga:=f.rl;have b4:x.s.aj=s.aj:=f.aj;have dk:=J (Cu wr sb x.s.aj ((ba b.side.aP _).trans b.side.c0) (by omega));have dn:=J (λW(g:wr.grownBy W none)=>K3 W a x.rest.length c x.rest (b.rs.an g) (f.sO A) (by omega) (x.s.aj-16) (by omega));have gd:x.rest.length<=c:=b.rs.2.2.1;replace⟨b4,f,b,C,hl,A,b3⟩:=iR b4 f b C hl A b3;go_wp2_with fail;apply(Z dk).mono;rintro e w3⟨rfl,g3⟩;go_wp2_with fail;apply(Z dn _ g3).mono;rintro e N⟨⟨q,rfl,hq,gf,aC,b5⟩,g4⟩;have a0:q=x.n:=hq;have gg:∀W,(Instr.slice 133 (.slice a x.rest.length c) none (some (.int .i64 q)) (some (.int .i64 q))).run prog W=.ok (.slice a q q) W:=λW=>K4 a _ c q (by omega) W
  obtain⟨O,a1⟩:=exq (N.alloc (.cells #[.int .i64 3,.int .i64 0,.int .u64 0,.int .u64 0,.bool false,.string ⟨#[]⟩,.slice a q q] 158));have g5:N.grownBy O none:=by rw[a1];exact aH _ _ _
  have a2:O.heap[N.heap.size]?=some (.cells #[.int .i64 3,.int .i64 0,.int .u64 0,.int .u64 0,.bool false,.string ⟨#[]⟩,.slice a q q] 158 (0,0)):=by rw[a1];exact aO _ _
  have e3:=aq g3 (aq g4 g5);have P:=(Z b).gb e3;clear dk dn hq eL;replace⟨b5,a0,a2,P⟩:=eV b5 a0 a2 P;go_upto_region 9 with fail;rw[<-a1];clear a1;have b6:sb<w.heap.size:=(Z H).bu.iw;have ds:N.heap.size≠sb:=by have:=(Z P).dS.av.size;have:=(Z b).dS.av.size;have:=g3.size;have:=g4.size;omega
  obtain⟨F,hF⟩:=exq N.heap.size;rw[<-hF]at a2 ds;rw[<-hF];have e4:Hid ((Value.slice I els.length c3).ownBlock≠some F):=J (λe=>by have:=((Z b).ls.own.lt F e).2;have:=g3.size;have:=g4.size;omega);clear hF;have k0:∀W:World,W.heap[F]?=some (.cells #[.int .i64 3,.int .i64 0,.int .u64 0,.int .u64 0,.bool false,.string ⟨#[]⟩,.slice a q q] 158 (0,0))->W.cell? ⟨F,0,none⟩=some (.int .i64 3):=λW h=>(cM h).1
  have k1:∀W:World,W.heap[F]?=some (.cells #[.int .i64 3,.int .i64 0,.int .u64 0,.int .u64 0,.bool false,.string ⟨#[]⟩,.slice a q q] 158 (0,0))->W.cell? ⟨F,1,none⟩=some (.int .i64 0):=λW h=>(cM h).2.1
  have k2:∀W:World,W.heap[F]?=some (.cells #[.int .i64 3,.int .i64 0,.int .u64 0,.int .u64 0,.bool false,.string ⟨#[]⟩,.slice a q q] 158 (0,0))->W.cell? ⟨F,2,none⟩=some (.int .u64 0):=λW h=>(cM h).2.2.1
  have k3:∀W:World,W.heap[F]?=some (.cells #[.int .i64 3,.int .i64 0,.int .u64 0,.int .u64 0,.bool false,.string ⟨#[]⟩,.slice a q q] 158 (0,0))->W.cell? ⟨F,3,none⟩=some (.int .u64 0):=λW h=>(cM h).2.2.2.1
  have k4:∀W:World,W.heap[F]?=some (.cells #[.int .i64 3,.int .i64 0,.int .u64 0,.int .u64 0,.bool false,.string ⟨#[]⟩,.slice a q q] 158 (0,0))->W.cell? ⟨F,4,none⟩=some (.bool false):=λW h=>(cM h).2.2.2.2.1
  have k5:∀W:World,W.heap[F]?=some (.cells #[.int .i64 3,.int .i64 0,.int .u64 0,.int .u64 0,.bool false,.string ⟨#[]⟩,.slice a q q] 158 (0,0))->W.cell? ⟨F,5,none⟩=some (.string ⟨#[]⟩):=λW h=>(cM h).2.2.2.2.2.1
  have k6:∀W:World,W.heap[F]?=some (.cells #[.int .i64 3,.int .i64 0,.int .u64 0,.int .u64 0,.bool false,.string ⟨#[]⟩,.slice a q q] 158 (0,0))->W.cell? ⟨F,6,none⟩=some (.slice a q q):=λW h=>(cM h).2.2.2.2.2.2
  have du:=(Z f).bf;have dx:=J (C9 O.drew base sb ax t x.s ((Z P).side.an (aV (aB _ none))) (by omega));have dE:=J (λj D(S6:bC j base sb D t {x.s with count:=x.s.count+1})(g:O.drew.grownBy j (some sb))=>((Z P).gb (aV (aB _ none))).num b6 S6 g);have a3:=J (λj D(p:iC w base sb v t ⟨{x.s with count:=x.s.count+1},x.rest,x.l⟩ (.slice I els.length c3) a x.rest.length c j D els)=>by
   have b7:=Lc (p.rs.K9 q aC) (zk ((Z f).sO (Z A)) q (by omega) aC) (by rw[ct];have:=(Z f).rl;omega);exact yU j (bU (x.rest.take q)) (.slice a q q) b7.1 b7.2.1 b7.2.2)
  have a4:dD x.s.key:=by rw[(Z f).key];exact ew
  have b8:els.length<=1000:=by
   have h1:els.length=x.l.length:=by have:=fG List.length (Z b).el;rw[dH]at this;exact this
   have:=(Z f).ll;omega
  have e5:(bp [bU (x.rest.take q)]).length<=1000:=by
   have e:bp [bU (x.rest.take q)]=2::gp (x.rest.take q):=by simp[bp,df,bU]
   rw[e,dc];have:=Z b4;have:=Z b5;omega
  have ch:=J (λj z D(p:iC w base sb v t ⟨{x.s with count:=x.s.count+1},x.rest,x.l⟩ (.slice I els.length c3) a x.rest.length c j D els)(u:j.grownBy z none)(a7:Option Addr)(n7 c7:Nat)(K:bn z j.heap.size (.slice a7 n7 c7) (bp [bU (x.rest.take q)]))=>zj z sb x.s.key x.s.first a4 ((p.side.an u).qL a4) ((ba (p.side.an u).aP _).trans (p.side.an u).iy) x.s.count (by unfold aS;omega) a7 n7 c7 _ K.gT);have cj:=J (λj z w8 D(p:iC w base sb v t ⟨{x.s with count:=x.s.count+1},x.rest,x.l⟩ (.slice I els.length c3) a x.rest.length c j D els)(u:j.grownBy z none)(g8:z.grownBy w8 none)(g:Nat)(hg:z.heap.size<=g)(a8:w8.heap[g]?=some (.cells (bv (cK x.s.key (aT x.s.first) x.s.count (bp [bU (x.rest.take q)]))).toArray 5 (0,0)))(hw:∀y∈bp [bU (x.rest.take q)],W8 y)=>Da p u g8 hg a8 hw b8);obtain⟨B,hB⟩:=exq (bp [bU (x.rest.take q)]);rw[<-hB]at a3 ch cj e5;have dG:bO (bU (x.rest.take q)) (.slice a q q)= #[.int .i64 3,.int .i64 0,.int .u64 0,.int .u64 0,.bool false,.string ⟨#[]⟩,.slice a q q]:=rfl;rw[dG]at a3;clear dG;obtain⟨bb,hZ⟩:∃bb:Value->World->Prop,bb=λbj W=>∃a' n' c',bj=.slice a' n' c'/\wL w base sb v t ⟨{x.s with count:=x.s.count+1},x.rest,x.l++[cK x.s.key (aT x.s.first) x.s.count B]⟩ a x.rest.length c bj W:=⟨_,rfl⟩
  replace⟨hZ,hB,b6,du,a4,b8⟩:=nZ hZ hB b6 du a4 b8;have br:O.drew.heap[F]?=some (.cells #[.int .i64 3,.int .i64 0,.int .u64 0,.int .u64 0,.bool false,.string ⟨#[]⟩,.slice a q q] 158 (0,0)):=Z a2;go_cut [3] (λbj wx=>bb bj wx);case first=>
   go_region_held3 (λw'=>w'.heap[F]?=some (.cells #[.int .i64 3,.int .i64 0,.int .u64 0,.int .u64 0,.bool false,.string ⟨#[]⟩,.slice a q q] 158 (0,0)))
    (with_reducible first|exact e6|exact cp|exact ea|exact ee|exact eg|exact br)
    (first
      |(go_at_call 205;apply(Z dx).mono;rintro e j⟨rfl,g6,S6⟩;have p:=J (Z dE _ _ S6 g6);have eg:=(g6.block F (aZ.1 br).1 (λe=>ds (aQ e))).trans br;clear S6)
      |(go_at_call 206;apply(Z a3 _ _ (Z p)).mono;rintro e z⟨⟨a7,n7,c7,rfl,K⟩,u⟩;have ee:=bB eg u;have cv:=K.1;replace K:=J K;replace cv:=J cv)
      |(go_at_call 204;apply(Z ch _ _ _ (Z p) u _ _ _ (Z K)).mono;rintro e w8⟨g,rfl,hg,a8,g8⟩;have ea:=bB ee g8;obtain⟨a9,n9,c9,w9,cw,ei,g9⟩:=Z cj _ _ _ _ (Z p) u g8 g hg a8 (Z cv);have cp:=bB ea (aH w8 (.cells #[.slice (some ⟨g,0,none⟩) (B.length+16) (B.length+16)] 112) none);have e6:=(g9.block F (aZ.1 cp).1 (λe=>Z e4 e.symm)).trans cp;have e7:Hid (bb (.slice a9 n9 c9) w9):=J (by rw[Z hZ];exact⟨a9,n9,c9,rfl,ei⟩);clear a8 hg ei;replace cw:=J cw)
      |(refine yS (by rfl) 206 206 (by rfl) _ _ (by rfl) _ _ _ (by rfl) (by rfl) (Z cw) ?_))
   all_goals go_wp2_with fail
   all_goals go_meet
   all_goals exact Z e7
  case rest=>
   rw[Z hZ]at hcut;obtain⟨a9,n9,c9,rfl,e8,e9,ej⟩:=hcut;have fa:∀W,(Instr.slice 133 (.slice a x.rest.length c) (some (.int .i64 q)) none none).run prog W=.ok (.slice (if c=q then a else a.map (·.add (q*2))) (x.rest.length-q) (c-q)) W:=λW=>K6 a _ c q aC W
   have cx:=ej.cut q aC;have fb:Hid (wO s x.step):=J (by
    have Q:=Z f;have gh:=Q.bf;have gi:=Q.ll;have L:=Z a0;refine⟨Q.aj,Q.key,λh=>?_,?_,?_,?_⟩
    unfold Ak.step at h⊢;simp only at h⊢;rw[<-L]at h⊢;exact CY (Q.sO (Z A)) q (by
     obtain h1|h1:=Nat.lt_or_ge q x.rest.length
     exact h1
     ·exact absurd (uZ h1) h)
    unfold Ak.step;simp only[dM,<-L];omega;unfold Ak.step;simp only[dM,<-L];omega
    ·unfold Ak.step;simp only[dM,<-L,bH,dc,fe];omega)
   obtain⟨ek,cy⟩:=exq ((if c=q then a else a.map (·.add (q*2))));rw[<-cy]at fa cx;have hrel:Hid (∃(E:Ak)(m2:Nat)(ff:Array Value)(fo:List El)(a':Option Addr)(c':Nat),(Value.slice ek (x.rest.length-q) (c-q))=.slice a' E.rest.length c'/\wO s E/\iC w base sb v t E (.slice a9 n9 c9) a' E.rest.length c' wc ff fo/\x.rest.length-q=E.rest.length/\E.rest.length+1<=m2/\mD m2 E=r):=J (by
    have L:=Z a0;have eo:x.step=⟨{x.s with count:=x.s.count+1},x.rest.drop q,x.l++[cK x.s.key (aT x.s.first) x.s.count B]⟩:=by
     unfold Ak.step;rw[<-L,Z hB]
    have cA:x.step.rest.length=x.rest.length-q:=by rw[eo];simp
    refine⟨x.step,m',e8,e9,ek,c-q,by rw[cA],Z fb,?_,cA.symm,?_,Z C⟩
    rw[cA,eo];exact cx
    ·have:=Z b3;omega)
   clear ej cx dx dE a3 ch cj k0 k1 k2 k3 k4 k5 k6 br;replace cy:=J cy;go_wp2;go_roundg (x.rest.length-q);case measure=>omega
   case rel=>exact Z hrel
def Eb(o:Ot)(p:Pc):o.ki p={o with ay:=(o.ki p).ay}:=by unfold Ot.ki;split<;>rfl
def Ec(k:Nat)(a:Int):∀(m:Nat)(x:Ld),(jB k a m x).o={x.o with ay:=(jB k a m x).o.ay}:=by
 intro m;induction m with
 |zero=>exact λx=>rfl
 |succ m b=>
  intro x;unfold jB;split;have c:=b (x.step k (x.o.next x.d (a-x.fr.length)).1);rw[c];have e:=Eb x.o (x.o.next x.d (a-x.fr.length)).1;show({(x.o.ki _)with ay:=_}:Ot)=_;rw[e];rfl
def Nv(o:Ot)(ps:List Pc)(m:Nat)(h:m<=ps.length):jO o (oT o ps m):=by
 induction m with
 |zero=>exact⟨tU _ _,λm a=>by have:=(qC _ _ m).1 a;exact this.1⟩
 |succ m b=>
  rw[wB o ps m];exact(b (by omega)).leave _
def Nx(s:Sd)(lf:List Kt)(k:Nat)(h:s.aM=lf.map (·.1)):jO (s.out k) (s.due k):=by
 rw[yR s lf k h];exact Nv _ _ _ (aR _)
def Ny(l:List Kt)(k:Int)(h:∀x∈l,x.1.ps.length<=1000):(dR l k).length<=l.length*1000:=by
 induction l with
 |nil=>simp[dR]
 |cons x l a=>
  have c:=a (λy b=>h y (by simp[b]));have d:=h x (by simp);have e:dR (x::l) k=(if x.1.st=k then x.1.ps else[])++dR l k:=rfl;rw[e,bH,dc];split;omega;simp only[fe];omega
structure uD(s:Sd)(k:Nat)(a:Sd):Prop where
 eq:a={s with out:=ah s.out k {s.out k with ay:=(a.out k).ay},aM:=a.aM,count:=a.count}
 ay:0<=(a.out k).ay/\(a.out k).ay<=4096
 fl:a.aM.length<=10
 fp:∀x∈a.aM,x.ps.length<=1000
 bf:s.count<=a.count/\a.count<=s.count+10
structure Ed(o:Ot):Prop where
 nice:o.h.nice
 en:o.en<=4096
 ay:0<=o.ay/\o.ay<=4096
 code:0<=o.code/\o.code<=4611686018427387903
 cl:o.h.af.length<=5000
def Nz(j:k<4)(n:16<=s.aj/\s.aj<=1000)(p:0<=(s.out k).h.fr)(q:(s.out k).en<=4096):∀(m:Nat)(x:Pz),ny s k x->uD s k x.s->x.s.count<=s.count+x.s.aM.length->uD s k (lI k m x).s/\(lI k m x).l.length<=10:=by
 intro m;induction m with
 |zero=>exact λx i v E=>⟨v,by have:=i.lf;have:=i.fl;unfold lI;omega⟩
 |succ m w=>
  intro x g a F;have G:=g.lf;have z:=g.fl;have L:=g.ld j n p q;have A:=Ec k (x.s.aj-16) ((x.s.aj-16).toNat+1) ⟨x.s.out k,x.d,[],[]⟩;have B:(x.load k).o={x.s.out k with ay:=(x.load k).o.ay}:=A;have C:x.s.out k={s.out k with ay:=(x.s.out k).ay}:=by
   have:=fG (λt=>t.out k) a.eq;simpa only[bk]using this
  have D:(x.load k).o={s.out k with ay:=(x.load k).o.ay}:=by
   rw[B];rw[C]
  have r:ah x.s.out k (x.load k).o=ah s.out k {s.out k with ay:=(x.load k).o.ay}:=by
   have e:x.s.out=ah s.out k {s.out k with ay:=(x.s.out k).ay}:=fG (·.out) a.eq;rw[e,rB,<-D]
  have u:∀(o:Nat->Ot)(f:List Pk)(c:Int),({x.s with out:=o,aM:=f,count:=c}:Sd)={s with out:=o,aM:=f,count:=c}:=λo f c=>by rw[a.eq]
  unfold lI;split;exact⟨a,by omega⟩
  split;refine⟨⟨?_,?_,z,a.fp,a.bf⟩,by show x.l.length<=10;omega⟩
  show({x.s with out:=ah x.s.out k (x.load k).o}:Sd)=_;have:=u (ah x.s.out k (x.load k).o) x.s.aM x.s.count;rw[show({x.s with out:=ah x.s.out k (x.load k).o}:Sd)={x.s with out:=ah x.s.out k (x.load k).o,aM:=x.s.aM,count:=x.s.count}from rfl,this,r];simp only[Pz.stay,bk]
  show 0<=(ah x.s.out k (x.load k).o k).ay/\(ah x.s.out k (x.load k).o k).ay<=4096;rw[bk];exact L.ay;rename_i H h0;refine w (x.jm k) (g.jm j n p q (by omega)) ⟨?_,?_,?_,?_,?_⟩ ?_;have:=u (ah x.s.out k (x.load k).o) (x.s.aM++[⟨x.s.count,x.s.tick,k,(x.load k).ps⟩]) (x.s.count+1);show({x.s with out:=ah x.s.out k (x.load k).o,aM:=x.s.aM++[⟨x.s.count,x.s.tick,k,(x.load k).ps⟩],count:=x.s.count+1}:Sd)=_;rw[this,r];simp only[Pz.jm,bk]
  show 0<=(ah x.s.out k (x.load k).o k).ay/\(ah x.s.out k (x.load k).o k).ay<=4096;rw[bk];exact L.ay;unfold Pz.jm;simp only[bH,dc,fe];omega;intro y b;unfold Pz.jm at b;simp only at b;obtain b|b:=bQ.1 b
  exact a.fp y b;rw[cL.1 b];have:=L.pl;have:=L.fl;have:=g.aj;simp only;omega;have i:=a.bf;unfold Pz.jm;simp only
  have:(x.s.aM.length:Int)<=9:=by omega
  omega;unfold Pz.jm;simp only[bH,dc,fe];omega
end
section
variable{k n:Nat}{s:Sd}{x y z:Value}{V W w:World}{d:aX}
structure mi(s:Sd):Prop where
 key:dD s.key
 aj:56<=s.aj/\s.aj<=1000
 out:∀k,k<4->Ed (s.out k)
 fl:s.aM.length<=10
 fp:∀x∈s.aM,x.ps.length<=1000
def mi.pz{a:Sd}(h:mi s)(R:uD s k a):mi a:=by
 rw[R.eq];refine⟨h.key,h.aj,λj b=>?_,R.fl,R.fp⟩
 by_cases e:j=k;subst e;simp only[bk]
 have:=h.out j b;exact⟨this.nice,this.en,R.ay,this.code,this.cl⟩
 simp only[bm _ _ e]
 exact h.out j b
def mi.p0(h:mi s)(k:Nat)(b:k<4)(e:0<=s.count/\s.count<=4611686018427386000)(lf:List Kt)(a:s.aM=lf.map (·.1)):(s.out k).h.af.length+(dR lf k).length<=100000/\(s.due k).l.length<=800000/\jO (s.out k) (s.due k):=by
 have f:=Ny lf k (λx c=>h.fp x.1 (by rw[a];exact pt c));have g:lf.length<=10:=by have:=fG List.length a;rw[dH]at this;have:=h.fl;omega
 have i:=(h.out k b).cl;have d:=Cp (s.out k) (dR lf k) _ (aR _);rw[<-yR s lf k a]at d;exact⟨by omega,by omega,Nx s lf k a⟩
def zu(h:mi s)(k:Nat)(a:k<4)(c:0<=s.count/\s.count<=4611686018427386000)(lf:List Kt)(d:s.aM=lf.map (·.1)):uD s k (s.pieces k).s/\(s.pieces k).l.length<=10:=by
 obtain⟨f,g,e⟩:=h.p0 k a c lf d;have ho:=h.out k a;have b:=h.fl;refine Nz a (by have:=h.aj;omega) ho.nice.1 ho.en 11 ⟨s,s.due k,[]⟩ ⟨rfl,rfl,rfl,rfl,rfl,ho.ay,e,by simp only;omega,b,by simp only;omega,by simp⟩ ⟨?_,ho.ay,b,h.fp,by simp only;omega⟩ (by simp only;omega);show s={s with out:=ah s.out k (s.out k),aM:=s.aM,count:=s.count}
 rw[my]
def NA(w:World)(a sb k:Nat)(cs:Array Value)(v:aX)(s:Sd)(H:bC w a sb cs v s)(h:mi s)(b:k<4)(c:0<=s.count/\s.count<=4611686018427386000):
 Calls prog 159 #[.pointer (some ⟨sb,0,none⟩),.int .i64 k] w (wJ w a sb v (s.pieces k)):=by
 obtain⟨d,e,f⟩:=h.p0 k b c v.lf H.aM;have ho:=h.out k b;exact K0 w a sb k cs v s H b h.key ho.nice ho.en ho.ay ho.code (by have:=h.aj;omega) h.fl c d f e
def cX(s:Sd):Nat->Sd×List (List Int)
 |0=>(s.gD.s,s.gD.l)
 |k+1=>(((cX s k).1.pieces k).s,(cX s k).2++((cX s k).1.pieces k).l)
def Sd.dv(s:Sd):Sd×List (List Int):=cX s 4
def NB(m:Nat):∀x:Ak,∃c,(mD m x).s={x.s with count:=c}/\x.s.count<=c/\c<=x.s.count+m/\(mD m x).l.length<=x.l.length+m:=by
 induction m with
 |zero=>exact λx=>⟨x.s.count,rfl,cS _,by simp,aR _⟩
 |succ m d=>
  intro x;unfold mD;split;exact⟨x.s.count,rfl,cS _,by omega,by omega⟩
  obtain⟨c,f,a,b,g⟩:=d x.step;refine⟨c,by rw[f];rfl,?_,?_,?_⟩
  unfold Ak.step at a;simp only at a;omega;unfold Ak.step at b;simp only at b;omega;have e:x.step.l.length=x.l.length+1:=by unfold Ak.step;simp
  omega
def zv(s:Sd):∃c,s.gD.s={s with eN:=false,count:=c}/\s.count<=c/\c<=s.count+10/\s.gD.l.length<=10:=by
 unfold Sd.gD;cases h:s.eN;simp only[gI,gm]
 exact⟨s.count,by rw[<-h],cS _,by omega,by simp⟩
 simp only[fu]
 obtain⟨c,a,b,d,e⟩:=NB 10 ⟨{s with eN:=false},fP s.af s.af.length,[]⟩;exact⟨c,a,b,d,by simpa using e⟩
def mi.gD(h:mi s):mi s.gD.s:=by
 obtain⟨c,e,-⟩:=zv s;rw[e];exact⟨h.key,h.aj,h.out,h.fl,h.fp⟩
def fJ.join{i:aX}{l p:List El}(h:fJ w n k d l y)(v:n<=w.heap.size)(s:dh w.heap.size w W k d i)(m:fJ W w.heap.size k i p x)(A:jy W k i)(B:eX V n z (l++p))(g:W.grownBy V y.ownBlock)(f:z.ownBlock=y.ownBlock\/z.ownBlock=some W.heap.size):fJ V n k i (l++p) z/\∀j,y.ownBlock=some j->¬eG k i j:=by
 have q:fJ W n k i l y:=h.next (X:=λ_=>False) (s.av.mono (λ_ _ h=>.inl h)) (λ_ _=>id) (λ_ _=>id) s.ar;have t:ig W n (l++p):=q.at_.app ⟨λe c=>⟨bD v (m.at_.at_ e c).1,(m.at_.at_ e c).2⟩,m.at_.sep⟩ (λa r b C e=>by have:=h.at_.lt r;have:=(m.at_.at_ b C).1;omega);have u:∀e∈l++p,y.ownBlock≠some e.1:=λe c e1=>by
  obtain c|c:=bQ.1 c
  exact h.s5 e c e1;have:=(h.own.lt _ e1).2;have:=(m.at_.at_ e c).1;omega
 refine⟨⟨B,t.av (ao.of g) (λe c e1=>u e c e1),λj e1 r=>?_,λe c=>?_,λe c e1=>?_⟩,q.a5⟩
 obtain f|f:=f
 rw[f]at e1;exact q.a5 j e1 r;rw[f]at e1;have:=aQ e1;have:=og A r;omega;obtain c|c:=bQ.1 c
 exact q.ae e c;exact m.ae e c;obtain f|f:=f
 rw[f]at e1;exact u e c e1;rw[f]at e1;have:=aQ e1;have:=t.lt c;omega
def NC(h:mi s)(g:0<=s.count/\s.count<=4611686018427385000)(k:Nat)(i:k<=4):mi (cX s k).1/\0<=(cX s k).1.count/\(cX s k).1.count<=s.count+10+10*k/\(cX s k).2.length<=10+10*k:=by
 induction k with
 |zero=>
  obtain⟨c,e,a,b,d⟩:=zv s;have j:(cX s 0).1.count=c:=by show s.gD.s.count=c;rw[e]
  exact⟨h.gD,by omega,by omega,by show s.gD.l.length<=_;omega⟩
 |succ k f=>
  obtain⟨a,b,d,m⟩:=f (by omega);obtain⟨R,hl⟩:=zu a k (by omega) (by omega) ((cX s k).1.aM.map (λx=>(x,Value.slice none 0 0))) (by rw[tH];show _=List.map id _;rw[List.map_id]);have n:=R.bf;refine⟨a.pz R,?_,?_,?_⟩
  show 0<=((cX s k).1.pieces k).s.count;omega;show((cX s k).1.pieces k).s.count<=_;omega;show((cX s k).2++((cX s k).1.pieces k).l).length<=_;rw[bH];omega
def Ee(w:World)(g sb:Nat)(v:aX)(r:Sd×List (List Int))(e:Ending)(b:World):Prop:=
 ∃a n c h d f,e=.returned (.slice a n c)/\bC b g sb h d r.1/\dh w.heap.size w b sb v d/\fJ b w.heap.size sb d f (.slice a n c)/\f.map (·.2)=r.2
def ND(w:World)(c sb:Nat)(cs:Array Value)(v:aX)(s:Sd)(H:bC w c sb cs v s)(h:mi s)(hc:0<=s.count/\s.count<=4611686018427385000)(a9:s.af.length<=8)(z:bl s.af)(A:∀r∈s.af,0<=r.lo/\r.hi<=4611686018427387904):
 Calls prog 130 #[.pointer (some ⟨sb,0,none⟩)] w (Ee w c sb v s.dv):=by
 obtain⟨R,q⟩:=exq (Ee w c sb v s.dv);rw[<-q];replace q:=J q;have B:=J (om w sb 0 H.kF);have V:=J (λW(g:w.grownBy W none)=>Le W c sb cs v s (H.an g) h.key h.aj (by omega) a9 z A);have bz:=H.bu.iw;replace⟨z,A,H,h⟩:=eV z A H h;simp only[ne_eq,vp,tD]at B;go_enter func130,ntmps130;go_wp2_with fail;apply(Z B).mono;rintro e w1⟨rfl,C⟩;go_wp2_with fail;apply(Z V _ C).mono;rintro e D⟨a2,n2,c2,Y,t,E,rfl,S2,al,d,e2⟩;have F:=C.size;have bb:Hid (bC D c sb Y t (cX s 0).1/\dh w.heap.size w D sb v t/\fJ D w.heap.size sb t E (.slice a2 n2 c2)/\E.map (·.2)=(cX s 0).2):=J ⟨S2,(dh.an C).trans (al.mono F),⟨d.own.low F,⟨λe he=>⟨bD F (d.at_.at_ e he).1,(d.at_.at_ e he).2⟩,d.at_.sep⟩,d.a5,d.ae,d.s5⟩,e2⟩;clear S2 al d e2 V B;go_upto_region 5 with fail;go_loopg [3,11] 5 (λg v3 bj wr=>∃(k:Nat)(m:Array Value)(b:aX)(a:List El),k<=4/\bj=.int .i64 k/\g=5-k/\bC wr c sb m b (cX s k).1/\dh w.heap.size w wr sb v b/\fJ wr w.heap.size sb b a v3/\a.map (·.2)=(cX s k).2);case atStart=>exact⟨0,Y,t,E,by omega,rfl,by omega,Z bb⟩
 case round=>
  obtain⟨k,m,b,a,br,rfl,rfl,S,f,L,i⟩:=hrel;obtain⟨G,c3,rfl⟩:=L.slice;by_cases ax:k<4
  ·have d1:decide ((k:Int)<4)=true:=dT_;obtain⟨u,p2,p3,p4⟩:=NC (Z h) hc k br;have I:=J (NA wr c sb k m b _ S u ax (by omega));have bM:a.length<=100:=by have:=fG List.length i;rw[dH]at this;omega
   have x:=(zu u k ax (by omega) b.lf S.aM).2;have K:Hid (cX s (k+1)=(((cX s k).1.pieces k).s,(cX s k).2++((cX s k).1.pieces k).l)):=J rfl;obtain⟨pz,aC⟩:=exq ((cX s k).1.pieces k);rw[<-aC]at I x K;clear aC;replace⟨S,L,f,u,i,x⟩:=nZ S L f u i x;go_wp2_with fail;apply(Z I).mono;rintro e w4⟨a4,n4,c4,bt,v4,M,rfl,S4,n,N,O⟩;have P:=(Z f).av.size;have a0:fJ w4 w.heap.size sb v4 a (.slice G a.length c3):=(Z L).next (X:=λ_=>False) (n.av.mono (λ_ _ h=>.inl h)) (λ_ _=>id) (λ_ _=>id) n.ar;have b0:M.length<=10:=by have:=fG List.length O;rw[dH]at this;have:=Z x;omega
   obtain⟨a5,n5,c5,Q,T,o5,y,a1⟩:=JZ (w:=w4) 206 w.heap.size _ a a0.own wr.heap.size _ M N.own (by omega) (bD P n.av.size);obtain⟨a3,a8⟩:=(Z L).join P n N S4.bu o5 y a1;have hrel:Hid (∃(p:Nat)(m:Array Value)(b:aX)(a:List El),p<=4/\(Value.int .i64 ((k:Int)+1))=.int .i64 p/\5-(k+1)=5-p/\bC Q c sb m b (cX s p).1/\dh w.heap.size w Q sb v b/\fJ Q w.heap.size sb b a (.slice a5 n5 c5)/\a.map (·.2)=(cX s p).2):=J (by
    refine⟨k+1,bt,v4,a++M,by omega,by push_cast;rfl,rfl,?_,?_,a3,?_⟩
    rw[Z K];exact S4.other (ao.of y) (λj _ e=>a8 j e);have U:=(Z f).trans (n.mono P);refine⟨(U.av.trans (ao.of y)).mono (λj hj e=>e.elim id (λe=>by have:=((Z L).own.lt j e).1;omega)),U.ft,U.ar⟩
    ·rw[Z K,mY,Z i,O])
   clear a0 a3 a8 S4 n N O o5 y a1 I;replace T:=J T;go_wp2_with (at_builtin;refine pW (by rfl) 206 206 (by rfl) _ _ (by rfl) _ _ _ (by rfl) (by rfl) (Z T) ?_);go_roundg (5-(k+1));case measure=>omega
   case rel=>exact Z hrel
  obtain rfl:k=4:=by omega
  have bx:Hid (R (.returned (.slice G a.length c3)) wr):=J (by rw[Z q];exact⟨G,_,c3,m,b,a,rfl,S,f,L,i⟩);replace⟨S,L,f,i⟩:=eV S L f i;go_wp2_with fail;exact Z bx
end
