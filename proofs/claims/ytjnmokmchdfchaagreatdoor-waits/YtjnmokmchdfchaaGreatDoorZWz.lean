import Derived.Test.YtjnmokmchdfchaaGreatDoorZWx
set_option maxRecDepth 1000000
set_option maxHeartbeats 0
set_option linter.all false
namespace Go.Proofs.YtjnmokmchdfchaaGreatDoor
open Go.RowKit Tryz
attribute[local go_sem↓]Go.wp_at_zero Go.wp_at_succ
variable{C c:Array Value}{q:Int}{i j k l n:Nat}{a:Option Addr}{x:Value}{W w:World}{s:aB}
def nX(U:aB)(a:aK)(b:Nat->Prop)(c:Nat->Option Nat)(d:Nat->Nat×Value)(e:Value):aB:={U with st:=a,A:=b,tag:=c,pl:=d,vs:=e}
theorem p7.mem{b:ByteArray}{f:List Fr}(h:p7 s b f)(a:aK)(c:Nat->Prop)(d:Nat->Option Nat)(e:Nat->Nat×Value)(g:Value):p7 (nX s a c d e g) b f:=⟨h.ok,h.num,h.dec,h.fr,h.ne,h.len,h.want,h.sz⟩
theorem jN.at{bs:List (List Int)}:∀{a:List (List Fr)}{V:aB},jN V bs a->∀i(c:i<bs.length)(d:i<a.length),p7 (cQ V (a.take i)) (strOfNums bs[i]) a[i]:=by
 induction bs with
 |nil=>intro a V _ i c;simp at c
 |cons b bs e=>
  intro a V h i c d;cases a with
  |nil=>exact h.elim
  |cons f a=>
   cases i with
   |zero=>exact h.1
   |succ i=>exact e h.2 i (by simpa using c) (by simpa using d)
theorem Pw(V:aB)(a:List (List Fr))(i:Nat)(h:i<a.length):cQ V (a.take (i+1))=nx (cQ V (a.take i)) a[i]:=by
 rw[nr,eF h,yy];rfl
theorem Px{b:ByteArray}{f:List Fr}(h:fO s)(c:p7 s b f)(k:s.n<1000000):fO (nx s f):=by
 have hp:∀i,i<s.n->(nx s f).p i=s.p i:=λi hi=>bq _ _ (by omega)
 have d:(nx s f).p s.n=⟨s.now,f.map dS,false,false,false⟩:=bm _ _ _;refine⟨by show s.n+1<=1000000;omega,λi hi q a=>?_,λi hi=>?_,h.sz⟩
 have hi:i<s.n+1:=hi;by_cases e:i<s.n;rw[hp i e]at a;exact h.pt i e q a;obtain rfl:i=s.n:=by omega
 rw[d]at a;obtain⟨g,j,rfl⟩:=fh.1 a;obtain⟨-,⟨l,m⟩,r,t⟩:=c.fr g j;exact⟨by show g.stream.toNat<4;omega,by show g.offset.toNat<=g.offset.toNat+g.data.size;omega,by show g.offset.toNat+g.data.size<=(s.o g.stream.toNat).n;omega⟩
 have hi:i<s.n+1:=hi;by_cases e:i<s.n;rw[hp i e];exact h.pl i e;obtain rfl:i=s.n:=by omega
 rw[d];show(f.map dS).length<=300;rw[dY];exact c.len
theorem vL{bs:List (List Int)}:∀{a:List (List Fr)}{V:aB},jN V bs a->fO V->V.n+bs.length<=1000000->fO (cQ V a)/\(cQ V a).n=V.n+a.length:=by
 induction bs with
 |nil=>intro a V h c _;cases a with
  |nil=>exact⟨c,rfl⟩
  |cons f a=>exact h.elim
 |cons b bs d=>
  intro a V h c e;cases a with
  |nil=>exact h.elim
  |cons f a=>
   simp only[dJ]at e;have:=d h.2 (Px c h.1 (by omega)) (by show V.n+1+bs.length<=1000000;omega);refine⟨this.1,this.2.trans ?_⟩
   show V.n+1+a.length=V.n+(a.length+1);omega
theorem jN.take{bs:List (List Int)}:∀{a:List (List Fr)}{V:aB},jN V bs a->∀i,jN V (bs.take i) (a.take i):=by
 induction bs with
 |nil=>intro a V h i;cases a with
  |nil=>simp;trivial
  |cons f a=>exact h.elim
 |cons b bs c=>
  intro a V h i;cases a with
  |nil=>exact h.elim
  |cons f a=>
   cases i with
   |zero=>trivial
   |succ i=>exact⟨h.1,c h.2 i⟩
def ia(p:Nat->ct):Nat->Nat
 |0=>0
 |i+1=>ia p i+if(p i).on then 1 else 0
theorem Py(p:Nat->ct):∀n,ia p n<=n:=by
 intro n;induction n with
 |zero=>exact aI _
 |succ n a=>unfold ia;split<;>omega
theorem PB(p:Nat->ct):∀n,ia p n=((List.range n).filter (λi=>(p i).on)).length:=by
 intro n;induction n with
 |zero=>rfl
 |succ n a=>
  unfold ia;rw[a,pD,List.filter_append,bG];cases e:(p n).on<;>simp[e]
structure p8(w:World)(sb:Nat)(V U:aB)(R:Nat)(cs:Array Value)(sl:Value)(ps:List (List Int))(wr:World):Prop where
 T:aY w sb V U wr
 rb:wr.heap[R]?=some (.cells cs 46 (0,0))
 own:fx wr 0 sl ps
 tR:U.tag R=none
 tO:∀k,sl.ownBlock=some k->U.tag k=none
theorem p8.go{U b:aB}{ps:List (List Int)}{wr:World}(h:p8 w n s U i c x ps wr)(S:aY wr n U b W):p8 w n s b i c x ps W:=by
 have d:=(aO.1 h.rb).1;exact⟨h.T.trans S,(S.aq.block i d (by rw[h.tR];simp)).trans h.rb,h.own.aq S.aq (λk a=>by rw[h.tO k a];simp),(S.all i d).trans h.tR,λk a=>(S.all k (h.own.lt k a).2).trans (h.tO k a)⟩
theorem p8.pk{U:aB}{ps:List (List Int)}{wr:World}(h:p8 w k s U i C (.slice a n l) ps wr)(c:j<ps.length):n=ps.length/\∃g,a=some ⟨g,0,none⟩/\wr.cell? ⟨g,j,none⟩=some (.string (strOfNums ps[j])):=by
 obtain⟨-,⟨e,p⟩|⟨g,cap,b,e,-,d,-,-,q,f⟩⟩:=h.own;omega;obtain⟨rfl,rfl,rfl⟩:=fS e;refine⟨rfl,g,rfl,?_⟩
 rw[aU d,<-py];have m:(b.toList.take (ps.length*1))[j]?=b.toList[j]? :=by rw[jO,aM (by omega)]
 rw[<-m,f,List.getElem?_map,eF c];rfl
theorem PC(w:World)(sb:Nat)(V:aB)(H:bH w sb V)(hL:Laid w)(P:V.fG)(E:fO V)(n:Nat)(cf:eh n V.st)(hn:n<=100000)(ps:List (List Int))(db:ps.length<=1000)(s:aK)(Q:V.st.do ⟨5,0,0,0,⟨#[]⟩⟩=(⟨0,-1,0,0,[],ps⟩,s))(d:List (List Fr))(y:jN V ps d)(bj:V.n+ps.length<=1000000)(c:Nat)(v:ia (cQ V d).p (cQ V d).n=c)(de:c<=10)(A:c<10->∀k,k<4->ma (cQ V d) k)(u:∀k,k<4->((cQ V d).o k).wrote.size=((cQ V d).o k).n):
 Calls prog 25 #[.pointer (some ⟨sb,0,none⟩)] w λe B=>e=.returned (.bool true)/\∃f l q r,aY w sb V (nX (cQ V d) s f l q r) B:=by
 have L:=y.len;have C:=pZ (aY.refl H (av w none) hL) cf hn ⟨5,0,0,0,⟨#[]⟩⟩ (by simp[aR]) (mg _) Q;obtain⟨⟨c0,-,-,-,-,-,-,-⟩,-⟩:=H.c;unfold dc qF mE at C;simp only[qy]at C;replace C:=J C;replace E:=J E;replace P:=J P;replace y:=J y;replace v:=J v;replace A:=J A;replace u:=J u;replace Q:=J Q;replace L:=J L;clear H hL;go_enter func25,ntmps25;go_upto_region 2 with(go_at_call 28;refine(Z C).mono ?_;rintro e X⟨a,m,cc,A3,br,rfl,bt,Y,bx⟩)
 obtain⟨W5,M⟩:=exq (X.alloc (.cells #[.int .i64 0,.int .i64 (-1),.int .i64 0,.int .u64 0,.string ⟨#[]⟩,.slice a m cc] 46));obtain⟨R,hR⟩:=exq X.heap.size;have g5:X.grownBy W5 none:=by rw[M];exact aC _ _ _
 have b5:W5.heap[R]?=some (.cells #[.int .i64 0,.int .i64 (-1),.int .i64 0,.int .u64 0,.string ⟨#[]⟩,.slice a m cc] 46 (0,0)):=by rw[M,hR];exact aH _ _
 have F0:Hid (p8 w sb V (nX (cQ V (d.take 0)) s A3 br V.pl V.vs) R #[.int .i64 0,.int .i64 (-1),.int .i64 0,.int .u64 0,.string ⟨#[]⟩,.slice a m cc] (.slice a m cc) ps W5):=J ⟨Y.gb g5,b5,(bt.aq (ak.of g5) (λk _ e=>by cases e)).low (mg _),Y.at_.fresh (by omega),bx⟩;rw[<-M,<-hR];clear M Y bx bt b5 g5 C c0 hR;have hm:(m:Int)=(ps.length:Int):=by
  obtain⟨a1,c1,e⟩:=(Z F0).own.fL;have:=(fS e).2.1;omega
 go_wp2_with fail;go_loopw [4] (λjv wr=>∃(i:Nat)(f:Nat->Prop)(l:Nat->Option Nat)(q:Nat->Nat×Value)(r:Value),i<=ps.length/\jv=.int .i64 (i:Int)/\p8 w sb V (nX (cQ V (d.take i)) s f l q r) R #[.int .i64 0,.int .i64 (-1),.int .i64 0,.int .u64 0,.string ⟨#[]⟩,.slice a m cc] (.slice a m cc) ps wr) (λjv _=>ps.length-(intOf jv).toNat);case atStart=>exact⟨0,A3,br,V.pl,V.vs,by omega,rfl,Z F0⟩
 case round=>
  clear F0;obtain⟨i,f,l,q,r,hi,rfl,K⟩:=hrel;have i0:(0:Int)<=(i:Int):=by omega
  have r5:wr.cell? ⟨R,5,none⟩=some (.slice a m cc):=by simp[World.cell?,K.rb]
  by_cases bz:i<ps.length
  ·have d1:decide ((i:Int)<(m:Int))=true:=bp (by omega);have i1:(i:Int)<(m:Int):=by omega
   have bL:i<d.length:=by have:=Z L;omega
   obtain⟨-,g,rfl,cg⟩:=K.pk bz;have bM:=((Z y).at i bz bL).mem s f l q r;have F:=vL ((Z y).take i) (Z E) (by rw[cC];omega);have bP:=DC (d.take i) (Z P);have bS:=Pv wr sb _ K.T.at_ K.T.laid (show(nX (cQ V (d.take i)) s f l q r).fG from bP) (show fO (nX (cQ V (d.take i)) s f l q r)from⟨F.1.n,F.1.pt,F.1.pl,F.1.sz⟩) (strOfNums ps[i]) d[i] bM;have al:Calls prog 55 #[.pointer (some ⟨sb,0,none⟩),.string (strOfNums ps[i])] wr λe B=>e=.returned (.bool true)/\∃f l q r,p8 w sb V (nX (cQ V (d.take (i+1))) s f l q r) R #[.int .i64 0,.int .i64 (-1),.int .i64 0,.int .u64 0,.string ⟨#[]⟩,.slice (some ⟨g,0,none⟩) m cc] (.slice (some ⟨g,0,none⟩) m cc) ps B:=by
    refine bS.mono ?_;rintro e B⟨rfl,ch,cj,cp,S⟩;refine⟨rfl,f,cp,ch,cj,?_⟩
    rw[Pw V d i bL];exact K.go S
   replace al:=J al;replace K:=J K;clear bS bM F bP;generalize strOfNums ps[i]=bi at *;go_wp2_with (go_at_call 55;refine(Z al).mono ?_;rintro e w6⟨rfl,A6,cv,cw,cx,K6⟩;replace K6:=J K6);exact⟨⟨i+1,A6,cv,cw,cx,by omega,rfl,Z K6⟩,by simp[intOf];omega⟩
  have d1:decide ((i:Int)<(m:Int))=false:=bB (by omega);have T:aY w sb V (nX (cQ V d) s f l q r) wr:=by
   have:=K.T;rw[eG (by have:=Z L;omega)]at this;exact this
  clear K;obtain⟨U,z⟩:=exq (nX (cQ V d) s f l q r);rw[<-z]at T;have ax:U.p=(cQ V d).p:=by rw[z];rfl
  have G:U.o=(cQ V d).o:=by rw[z];rfl
  have N:U.n=(cQ V d).n:=by rw[z];rfl
  have dg:U.n<=1000000:=by
   rw[N];have:=vL (Z y) (Z E) bj;exact this.1.n
  have a0:∀k,k<4->(U.o k).n<=1000000:=λk t=>by
   rw[G];have:=vL (Z y) (Z E) bj;exact this.1.sz k t
  replace v:=Z v;replace A:=Z A;replace u:=Z u;rw[<-ax,<-N]at v;rw[<-G]at u;have a2:c<10->∀k,k<4->ma U k:=λh k t=>by
   have:=A h k t;unfold ma at this⊢;rw[G];exact this
  have b0:Hid (∀W,aY w sb V U W->∃f l q r,aY w sb V (nX (cQ V d) s f l q r) W):=J (λW h=>⟨f,l,q,r,by rw[<-z];exact h⟩);replace v:=J v;replace u:=J u;replace a2:=J a2;replace a0:=J a0;replace z:=J z;replace ax:=J ax;replace G:=J G;replace N:=J N;clear A;obtain⟨va,vc,O,-⟩:=ix T.at_.aE;have T':=J T;replace O:=J O;have a3:=Py U.p;replace a3:=J a3;clear T;go_wp2_with fail;go_loopw [6,7] (λnv iv wr=>∃(j:Nat),j<=U.n/\iv=.int .i64 (j:Int)/\nv=.int .i64 (ia U.p j:Int)/\aY w sb V U wr) (λ_ iv _=>U.n-(intOf iv).toNat);case atStart=>exact⟨0,by omega,rfl,rfl,Z T'⟩
  case round=>
   clear T';obtain⟨j,hj,rfl,rfl,T⟩:=hrel;have j0:(0:Int)<=(j:Int):=by omega
   have cy:wr.cell? ⟨sb,20,none⟩=some U.vs:=T.at_.c.1.2.2.2.2.1;rw[Z O]at cy;by_cases b3:j<U.n
   ·have d2:decide ((j:Int)<(U.n:Int))=true:=bp (by omega);have j1:(j:Int)<(U.n:Int):=by omega
    obtain⟨g,rfl,cg⟩:=(T.at_.row (Z O)).2 j b3;have x:=vH wr (.pointer (some ⟨sb,0,none⟩)) _ _ (T.at_.pk j b3);have hs:ia U.p (j+1)=ia U.p j+if(U.p j).on then 1 else 0:=rfl
    have dk:=Z a3 j;have kw:IntKind.i64.wrap ((ia U.p j:Int)+1)=(ia U.p j:Int)+1:=by simp[IntKind.wrap,IntKind.bits,IntKind.signed];omega
    replace T:=J T;cases b4:(U.p j).on
    ·rw[b4]at x hs;replace hs:=J hs;replace x:=J x;go_wp2_with (go_at_call 56;refine(Z x).mono ?_;rintro e w7⟨rfl,rfl⟩);exact⟨⟨j+1,by omega,rfl,by rw[Z hs];simp,Z T⟩,by simp[intOf];omega⟩
    rw[b4]at x hs;replace hs:=J hs;replace x:=J x;go_wp2_with (go_at_call 56;refine(Z x).mono ?_;rintro e w7⟨rfl,rfl⟩);exact⟨⟨j+1,by omega,rfl,by rw[Z hs];simp,Z T⟩,by simp[intOf];omega⟩
   have d2:decide ((j:Int)<(U.n:Int))=false:=bB (by omega);obtain rfl:j=U.n:=by omega
   have a4:(ia U.p U.n:Int)=(c:Int):=by rw[Z v]
   have dn:=J a4;rw[a4];clear a4;have c0:(0:Int)<=(c:Int):=by omega
   by_cases cR:c<10
   ·have d3:decide ((10:Int)<=(c:Int))=false:=bB (by omega);have b6:=Z a2 cR;have hW:=J (λ(W:World)(T:aY w sb V U W)(k:Nat)(t:k<4)=>Di W sb U T.at_ ⟨k,0,(U.o k).wrote.size,(U.o k).finished⟩ t (Nat.le_of_eq (Z u k t)) (Z a0 k t) (by show 0<=1000000;omega));have c9:Hid (∀k,k<4->∀b:Bool,(b=true↔(U.o k).pY ⟨k,0,(U.o k).wrote.size,(U.o k).finished⟩)->b=false):=J (λk t b aa=>by
     cases b with
     |false=>rfl
     |true=>
      obtain⟨q1,q2⟩:=b6 k t;obtain⟨j,-,h2,D⟩|D:=aa.1 rfl
      rw[q1 j (by have:j<(U.o k).wrote.size:=h2;rw[Z u k t]at this;exact this)]at D;cases D
      ·simp only[Bool.and_self]at D;rw[q2]at D;cases D)
    replace T:=J T;clear b6;go_wp2_with fail;go_loopw [9] (λkv wr=>∃(k:Nat),k<=4/\kv=.int .i64 (k:Int)/\aY w sb V U wr) (λkv _=>4-(intOf kv).toNat);case atStart=>exact⟨0,by omega,rfl,Z T⟩
    case round=>
     clear T;obtain⟨k,t,rfl,T⟩:=hrel;have k0:(0:Int)<=(k:Int):=by omega
     by_cases I:k<4
     ·have d4:decide ((k:Int)<4)=true:=bp (by omega);have k1:(k:Int)<4:=by omega
      have gl:=T.at_.c.1.2.2.2.1;have co:=T.at_.outs k I;obtain⟨⟨s0,-,-,s3,-,-⟩,-⟩:=(T.at_.src k I).c;obtain⟨lb,a8⟩:=exq ((U.sl k).1);rw[<-a8]at co s0 s3;have b7:((U.o k).wrote.size:Int)=((U.o k).n:Int):=by rw[Z u k I]
      have gr:wr.grownBy wr.drew none:=aP (av _ none);have a9:Calls prog 57 #[.pointer (some ⟨sb,0,none⟩),.agg #[.int .i64 (k:Int),.int .i64 0,.int .i64 ((U.o k).wrote.size:Int),.bool (U.o k).finished]] wr.drew (yr wr.drew (U.o k) ⟨k,0,(U.o k).wrote.size,(U.o k).finished⟩):=Z hW _ (T.gb gr) k I;replace a9:=J a9;have s0:=kc s0;have s3:=kc s3;replace T:=J T;replace a8:=J a8;replace b7:=J b7;go_upto_region 21 with fail;go_region_held3 (λB=>wr.grownBy B none)
       (first|with_reducible exact b8|with_reducible exact gr)
       (first|(go_at_call 57;refine(Z a9).mono ?_;rintro e w7⟨bb,rfl,ca,g7⟩;have b8:=aj gr g7;obtain rfl:=Z c9 k I bb ca;clear ca))
      go_wp2_with fail;exact⟨⟨k+1,by omega,rfl,(Z T).gb b8⟩,by simp[intOf];omega⟩
     have d4:decide ((k:Int)<4)=false:=bB (by omega);replace T:=J T;go_wp2_with fail;go_ret;exact⟨rfl,Z b0 _ (Z T)⟩
   have d3:decide ((10:Int)<=(c:Int))=true:=bp (by omega);have d4:((c:Int)==10)=true:=by simp;omega
   replace T:=J T;go_wp2_with fail;go_ret;exact⟨by simp,Z b0 _ (Z T)⟩
theorem PD(p:Nat->ct)(i:Nat):ia p (i+1)=ia p i+if(p i).on then 1 else 0:=rfl
theorem PE(p:Nat->ct)(i:Nat)(x:ct):∀n,n<=i->ia (aw p i x) n=ia p n:=by
 intro n;induction n with
 |zero=>intro _;rfl
 |succ n a=>
  intro h;unfold ia;rw[a (by omega),bq _ _ (by omega)]
theorem PF(a:List (List Fr)):∀V:aB,ia (cQ V a).p (cQ V a).n=ia V.p V.n+a.length:=by
 induction a with
 |nil=>intro V;rfl
 |cons f r b=>
  intro V;show ia (cQ (nx V f) r).p (cQ (nx V f) r).n=_;rw[b];have e:ia (nx V f).p (nx V f).n=ia V.p V.n+1:=by
   show ia (aw V.p V.n ⟨V.now,f.map dS,false,false,false⟩) (V.n+1)=_;rw[PD,PE _ _ _ _ (aI _),bm];rfl
  rw[e,dJ];omega
theorem PG(a:List (List Fr)):∀V:aB,(cQ V a).aV=V.aV/\(cQ V a).now=V.now:=by
 induction a with
 |nil=>intro V;exact⟨rfl,rfl⟩
 |cons f r b=>intro V;exact b (nx V f)
theorem PH(a:List (List Fr)):∀V:aB,(0<=V.now/\V.now<=q)->(∀i,i<V.n->0<=(V.p i).tick/\(V.p i).tick<=q)->∀i,i<(cQ V a).n->0<=((cQ V a).p i).tick/\((cQ V a).p i).tick<=q:=by
 induction a with
 |nil=>intro V _ h;exact h
 |cons f r c=>
  intro V b h;refine c (nx V f) b (λi hi=>?_);have hi:i<V.n+1:=hi;show 0<=(aw V.p V.n ⟨V.now,f.map dS,false,false,false⟩ i).tick/\(aw V.p V.n ⟨V.now,f.map dS,false,false,false⟩ i).tick<=q;by_cases e:i=V.n;rw[e,bm];exact b;rw[bq _ _ e];exact h i (by omega)
theorem yC:tx:=by
 intro w sb V n h y H r;obtain⟨s,Q,g,W,S⟩:=h.ex;have hd:aK.do (.aL s) ⟨5,0,0,0,⟨#[]⟩⟩=(⟨0,-1,0,0,[],(bJ s 4).2⟩,.aL (bJ s 4).1):=by unfold aK.do;simp[aK.eY,Sd.eY]
 have j:=qG S (by omega) (by simp[aR]) hd;obtain⟨a,t,d,f,u⟩:=O4 W S (by omega) 4 (aI _);have z:=d.len;have A:=PF a V;have C:ia (cQ V a).p (cQ V a).n=(bJ s 4).1.az.length:=by rw[f.az,dY,PB]
 have D:=j.fl;have E:=h.rX;have v:=S.tick;rw[W.tick]at v;have l:V.n+(bJ s 4).2.length<=1000000:=by omega
 obtain⟨b,F⟩:=vL d h.B l;refine(PC w sb V H r W.c h.B n h.qH (by omega) (bJ s 4).2 (by omega) (.aL (bJ s 4).1) (by rw[g];exact hd) a d l _ rfl (by omega) (λG=>by
  obtain q|q:=u
  omega
  ·exact q) (λk x=>(f.out k x).sz)).mono ?_
 rintro e I⟨rfl,K,L,M,N,T⟩;have O:=h.an;have e1:=PG a V;refine⟨rfl,_,T,⟨⟨_,t,rfl,f.mem ⟨rfl,rfl,rfl,rfl,rfl,rfl,rfl,rfl,rfl⟩,j⟩,⟨b.n,b.pt,b.pl,b.sz⟩,?_,λi hi=>?_,?_⟩,by rw[g,hd];rfl⟩
 show(cQ V a).n<=_;omega;exact PH a V (q:=((n+1:Nat):Int)) (by omega) (λi hi=>by have:=h.tk i hi;omega) i hi;show(cQ V a).aV<=_;rw[e1.1];omega
