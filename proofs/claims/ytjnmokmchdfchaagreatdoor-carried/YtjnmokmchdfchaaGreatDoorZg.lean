import Derived.Test.YtjnmokmchdfchaaGreatDoorZf
set_option maxRecDepth 1000000
set_option maxHeartbeats 8000000
set_option linter.all false
namespace Go.Proofs.YtjnmokmchdfchaaGreatDoor
open Go.RowKit Tryz
attribute[local go_sem↓]Go.wp_at_zero Go.wp_at_succ
variable{B:Bool}{G:Fr}{p q r t:Int}{u:It}{K L:List Int}{X:List Rg}{i j k m n:Nat}{f:Ot}{s:Sd}{Y:aj}
structure wJ(s:aj)(b:ByteArray)(a:List Fr):Prop where
 ok:eC s.key s.me (aG b)
 len:(b.size:Int)<=s.an
 num:bp (aG b)=s.next
 dec:fE (dN s.key s.me (bp (aG b)) (bT (aG b)))=(some a,-1)
 enc:bw a=dN s.key s.me (bp (aG b)) (bT (aG b))
 Ry:tH a
 Rz:fL a<=30000000
 me:s.me=0\/s.me=1
 nx:0<=s.next/\s.next<=4611686018427387903
structure rh(s:aj)(f:Fr):Prop where
 kind:f.kind=3\/f.kind=4\/f.kind=5
 k3:f.kind=3->∀r∈f.ranges,ue s.bU.l r=true
 k4:f.kind=4->0<=f.stream/\f.stream<4/\(s.outs f.stream.toNat).given=true/\f.offset=(s.outs f.stream.toNat).end_/\f.code=(s.outs f.stream.toNat).code
 k5:f.kind=5->0<=f.stream/\f.stream<4/\DY (s.outs f.stream.toNat) f
def aj.dH(s:aj)(f:Fr):aj:=if f.kind=3 then s.dT f else if f.kind=5 then{s with outs:=ai s.outs f.stream.toNat ((s.outs f.stream.toNat).qY f)}else s
theorem N9(s:aj)(f:Fr):(s.dH f).due.length<=s.due.length/\(s.dH f).aA=s.aA/\(s.dH f).bU=s.bU/\(s.dH f).dZ=s.dZ/\(s.dH f).next=s.next:=by
 unfold aj.dH;split;exact⟨ny _ _,rfl,rfl,rfl,rfl⟩
 split;exact⟨aP _,rfl,rfl,rfl,rfl⟩
 exact⟨aP _,rfl,rfl,rfl,rfl⟩
theorem D0(a:List Fr):∀s:aj,(a.foldl aj.dH s).due.length<=s.due.length/\(a.foldl aj.dH s).aA=s.aA/\(a.foldl aj.dH s).bU=s.bU/\(a.foldl aj.dH s).dZ=s.dZ/\(a.foldl aj.dH s).next=s.next:=by
 induction a with
 |nil=>intro s;exact⟨aP _,rfl,rfl,rfl,rfl⟩
 |cons f a b=>
  intro s;obtain⟨c,d,e,g,h⟩:=b (s.dH f);obtain⟨i,j,k3,k4,k5⟩:=N9 s f;rw[mh];exact⟨bD c i,d.trans j,e.trans k3,g.trans k4,h.trans k5⟩
def aj.jJ(s:aj)(a:List Fr):aj:={a.foldl aj.dH {s with next:=s.next+1}with aA:=s.aA++[(s.next,a)]}
structure qz(s:aj)(b:ByteArray)(a:List Fr):Prop where
 op:wJ s b a
 may:∀j,j<a.length->rh ((a.take j).foldl aj.dH {s with next:=s.next+1}) (yZ a j)
 due:s.due.length<=1000000
 aA:s.aA.length<=100000000
def eJ(l:List ByteArray)(j:Nat):ByteArray:=l.getD j ⟨#[]⟩
def aj.dW(s:aj)(a:List (List Fr)):aj:=a.foldl aj.jJ s
structure zd(s:aj)(bs:List ByteArray)(a:List (List Fr)):Prop where
 len:a.length=bs.length
 each:∀j,j<bs.length->qz (s.dW (a.take j)) (eJ bs j) (a.getD j [])
 due:∀n∈(s.dW a).due,n<(s.dW a).dZ.floor
 cl:s.closed=0
def cL.Oa:cL:=⟨[],0,8⟩
def cL.wK:cL:=⟨[],0,1073741824⟩
def cV.new:cV:=⟨⟨#[]⟩,cL.wK,false,false,0,0,0⟩
def aL.new:aL:=⟨[],[],0,0,false,false,0,0,0⟩
def aj.new(an ag:Int)(key:List Int)(f:Bool):aj:=⟨an,ag,key,if f then 0 else 1,0,0,false,0,cL.Oa,cL.wK,[],λ_=>cV.new,λ_=>aL.new,[]⟩
def nV(f:Nat->Nat)(j:Nat):List Value:=(List.range j).map (λk=>.pointer (some ⟨f k,0,none⟩))
theorem D1(f:Nat->Nat)(j x:Nat):nV (ai f j x) (j+1)=nV f j++[.pointer (some ⟨x,0,none⟩)]:=by
 unfold nV;rw[uJ,mO];congr 1;apply xi;intro k a;rw[bl _ _ (by have:=List.mem_range.1 a;omega)];simp[bk]
theorem Ob(L cs:List Int)(off k:Nat)(h:off+cs.length<=L.length):(splice L off cs).getD k 0=if off<=k/\k<off+cs.length then cs.getD (k-off) 0 else L.getD k 0:=by
 unfold splice;simp only[List.getD]
 by_cases a:k<off;rw[ah (by omega),mc (by rw[ct];omega),List.getElem?_take_of_lt a];have hl:(L.take off).length=off:=by rw[ct];omega
 rw[jz (by omega),hl];by_cases b:k<off+cs.length;rw[az ⟨by omega,b⟩,mc (by omega)];rw[ah (by omega),jz (by omega),kG];congr 2;omega
theorem Oc(fr:Int)(b:List Int)(x:Rg)(k:Nat):(mX fr b x).getD k 0=b.getD k 0:=by
 unfold mX;simp only[List.getD]
 by_cases h:k<b.length;rw[mc h];rw[jz (by omega),nz (l:=b) (by omega),wX];split<;>rfl
theorem Od{x:Rg}(a:p<=x.lo)(b:q<=x.lo)(c:x.lo<=x.hi)(d:x.hi<=q+L.length)(m:Int)(e:p<=m):(lQ p q L K x).getD (m-p).toNat 0=if x.lo<=m/\m<x.hi then L.getD (m-q).toNat 0 else K.getD (m-p).toNat 0:=by
 unfold lQ;have hl:((L.drop (x.lo-q).toNat).take (x.hi-x.lo).toNat).length=(x.hi-x.lo).toNat:=by rw[ct,dF];omega
 rw[Ob _ _ _ _ (by rw[hl,vs];omega),hl,Oc];by_cases h:x.lo<=m/\m<x.hi;rw[az (by omega),az h];simp only[List.getD]
 rw[List.getElem?_take_of_lt (by omega),kG];congr 2;omega;rw[ah (by omega),ah h]
theorem Oe(M:List Rg):∀(b:List Int),(∀x∈M,p<=x.lo/\q<=x.lo/\x.lo<=x.hi/\x.hi<=q+L.length)->∀m,p<=m->((Sm M m->(gL p q L M b).getD (m-p).toNat 0=L.getD (m-q).toNat 0)/\(¬Sm M m->(gL p q L M b).getD (m-p).toNat 0=b.getD (m-p).toNat 0)):=by
 induction M with
 |nil=>intro b _ m _;exact⟨λh=>absurd h (fM m),λ_=>rfl⟩
 |cons x M i=>
  intro b h m f;obtain⟨j,k,l,n⟩:=h x (by simp);have hp:=Od (K:=b) j k l n m f;obtain⟨r,g⟩:=i (lQ p q L b x) (λy s=>h y (by simp[s])) m f;have e:gL p q L (x::M) b=gL p q L M (lQ p q L b x):=rfl;rw[e];by_cases a:Sm M m;exact⟨λ_=>r a,λd=>absurd ((eu x M m).2 (.inr a)) d⟩
  refine⟨λhs=>?_,λd=>?_⟩
  obtain c|c:=(eu x M m).1 hs
  rw[g a,hp,az c];exact absurd c a;rw[g a,hp,ah (λc=>d ((eu x M m).2 (.inl c)))]
theorem D3{α:Type}(l:List α)(i k:Nat)(v d:α)(hi:i<l.length):(l.set i v).getD k d=if k=i then v else l.getD k d:=by
 simp only[List.getD,List.getElem?_set]
 by_cases h:i=k;subst h;rw[az rfl,az hi,az rfl];rfl;rw[ah h,ah (λe=>h e.symm)]
theorem D4(off:Nat)(d:List Int)(x:List Int×List Bool)(j:x.1.length=x.2.length)(n:Nat)(m:off+n<=x.2.length):∀k,(kC off d x n).2.getD k false=(x.2.getD k false||decide (off<=k/\k<off+n))/\(kC off d x n).1.getD k 0=if x.2.getD k false=false/\off<=k/\k<off+n then d.getD (k-off) 0 else x.1.getD k 0:=by
 induction n with
 |zero=>
  intro k;refine⟨?_,?_⟩
  unfold kC;simp;omega;unfold kC;rw[ah (by omega)]
 |succ n f=>
  intro k;obtain⟨g,h⟩:=f (by omega) k;obtain⟨l,p⟩:=f (by omega) (off+n);have hl:=yX off d x n;have i:(kC off d x n).2.getD (off+n) false=x.2.getD (off+n) false:=by rw[l,bI (by omega),sY]
  unfold kC;split;rename_i b;rw[i]at b;refine⟨?_,?_⟩
  rw[g];by_cases a:k=off+n;subst a;rw[b];rfl;congr 1;apply decide_eq_decide.2;omega;rw[h];by_cases a:k=off+n;subst a;rw[ah (by omega),ah (by rw[b];simp)];by_cases c:x.2.getD k false=false/\off<=k/\k<off+n;rw[az c,az ⟨c.1,c.2.1,by omega⟩];rw[ah c,ah (λe=>c ⟨e.1,e.2.1,by omega⟩)];rename_i b;rw[i]at b;simp only
  rw[D3 _ _ _ _ _ (by rw[hl.2];omega),D3 _ _ _ _ _ (by rw[hl.1,j];omega)];refine⟨?_,?_⟩
  by_cases a:k=off+n;subst a;rw[az rfl,bK (by omega),Bool.or_true];rw[ah a,g];congr 1;apply decide_eq_decide.2;omega;by_cases a:k=off+n;subst a;rw[az rfl,az ⟨by simpa using b,by omega,by omega⟩];congr 1;omega;rw[ah a,h];by_cases c:x.2.getD k false=false/\off<=k/\k<off+n;rw[az c,az ⟨c.1,c.2.1,by omega⟩];rw[ah c,ah (λe=>c ⟨e.1,e.2.1,by omega⟩)]
structure je(i:It)(r:aL):Prop where
 ended:i.ended=r.ended
 last:i.ended=true->i.last=r.end_
 given:i.given=r.given
 code:i.given=true->i.code=r.code
 fr:i.h.fr=r.read
 high:i.given=false->i.high=r.high
 hl:i.ended=true->i.high<=i.last/\r.high<=i.last
 ge:i.given=true->i.ended=true
 over:i.over=true↔r.state=1
 st:r.state=0\/r.state=1\/(r.state=2/\i.given=true)
 ov:i.over=true->i.ended=true/\i.h.fr=i.last
 th:i.given=false->∀m:Nat,r.there.getD m false=true↔Sm i.h.af m
 mG:i.given=false->∀m:Nat,i.h.fr<=m->r.there.getD m false=true->i.h.bytes.getD ((m:Int)-i.h.fr).toNat 0=r.data.getD m 0
theorem je.new:je It.new aL.new:=by
 refine⟨rfl,λh=>(by cases h),rfl,λh=>(by cases h),rfl,λ_=>rfl,λh=>(by cases h),λh=>(by cases h),?_,.inl rfl,λh=>(by cases h),λ_ m=>?_,λ_ m _ h=>?_⟩
 simp[It.new,aL.new];simp[It.new,aL.new,fM];simp[aL.new]at h
theorem je.bad{r:aL}(h:je u r)(f:Fr):u.bad f=r.bad f:=by
 unfold It.bad aL.bad It.gp;rw[h.ended];by_cases a:r.ended=true;have hl:=h.last (h.ended.trans a);have d:=h.hl (h.ended.trans a);rw[hl]at *;rw[a];by_cases b:f.fin=true;rw[b];simp only[Bool.true_and]
 by_cases c1:r.end_<aT f;rw[bK c1];simp;by_cases c2:aT f=r.end_;rw[bI c1,bI (by omega),bI (by omega)];simp;have:(aT f !=r.end_)=true:=by simpa using c2
 rw[this];simp;have b:f.fin=false:=by simpa using b
 rw[b];simp;have a:r.ended=false:=by simpa using a
 rw[a];have c:u.given=false:=by
  by_cases c:u.given=true;have:=h.ge c;rw[h.ended,a]at this;cases this;simpa using c
 rw[h.high c];simp
theorem je.data{r:aL}(h:je u r)(ho:gS p u)(s:fQ r)(f:Fr)(h0:0<=f.offset)(y:u.bad f=false)(U:u.given=false->aT f<=u.h.fr+p):(r.bytes f).1=0/\je (u.data f) (r.bytes f).2:=by
 have F:r.bad f=false:=by rw[<-h.bad];exact y
 unfold aL.bytes;rw[F];simp only[gm,fR]
 have V:aT f=f.offset+f.data.size:=rfl;have g:=y;unfold It.bad It.gp at g;by_cases a:u.given=true;have n:r.given=true:=h.given▸a;rw[n];simp only[eX]
 have i:=h.ge a;have hl:=h.last i;rw[i]at g;simp only[Bool.true_and,oh,sP,Bool.and_eq_false_iff]at g;have W:aT f<=u.last:=by omega
 have G:f.fin=true->aT f=u.last:=λb=>by
  obtain d|d:=g.2
  rw[b]at d;cases d;have:=d.1;simpa using this
 have t:(u.data f).last=u.last:=by
  show(if f.fin then aT f else u.last)=u.last;split;rename_i b;exact G b;rfl
 have j:(u.data f).h=u.h:=by show(if u.given then u.h else _)=u.h;rw[a];rfl
 refine⟨trivial,⟨?_,λ_=>by rw[t];exact hl,h.given,h.code,by rw[j];exact h.fr,λe=>?_,λ_=>?_,λ_=>?_,h.over,h.st,λe=>?_,λe=>?_,λe=>?_⟩⟩
 show(u.ended||f.fin)=r.ended;rw[i,<-h.ended,i];rfl;exact absurd (show u.given=false from e) (by rw[a];simp);have:=h.hl i;rw[t];show max u.high (aT f)<=u.last/\r.high<=u.last;omega;show(u.ended||f.fin)=true;rw[i];rfl;have:=h.ov e;rw[t,j];exact⟨by show(u.ended||f.fin)=true;rw[i];rfl,this.2⟩
 exact absurd (show u.given=false from e) (by rw[a];simp);exact absurd (show u.given=false from e) (by rw[a];simp);have a:u.given=false:=by simpa using a
 have n:r.given=false:=h.given▸a;rw[n];simp only[gm,fR]
 have z:=h.high a;obtain⟨M,H⟩:=exq ((max r.high (aT f)).toNat-r.data.length);rw[<-H];have X:=s.dl;have Y:=s.tl;have q4:=s.rd;have ax:((r.grow f).pad M).there.length=r.there.length+M:=by simp[aL.pad,aL.grow]
 have aC:((r.grow f).pad M).data.length=r.data.length+M:=by simp[aL.pad,aL.grow]
 have A:∀k,((r.grow f).pad M).there.getD k false=r.there.getD k false:=λk=>by
  simp only[aL.pad,aL.grow,List.getD]
  by_cases v:k<r.there.length;rw[mc v];rw[jz (by omega),nz (l:=r.there) (by omega),wX];split<;>rfl
 have I:∀k,((r.grow f).pad M).data.getD k 0=r.data.getD k 0:=λk=>by
  simp only[aL.pad,aL.grow,List.getD]
  by_cases v:k<r.data.length;rw[mc v];rw[jz (by omega),nz (l:=r.data) (by omega),wX];split<;>rfl
 have B:=D4 f.offset.toNat (aG f.data) (((r.grow f).pad M).data,((r.grow f).pad M).there) (by simp only;omega) f.data.size (by simp only;omega);have K:∀k,(((r.grow f).pad M).fill f f.data.size).there.getD k false=(r.there.getD k false||decide (f.offset.toNat<=k/\k<f.offset.toNat+f.data.size)):=λk=>by
  have:=(B k).1;rw[A k]at this;exact this
 have L:∀k,(((r.grow f).pad M).fill f f.data.size).data.getD k 0=if r.there.getD k false=false/\f.offset.toNat<=k/\k<f.offset.toNat+f.data.size then(aG f.data).getD (k-f.offset.toNat) 0 else r.data.getD k 0:=λk=>by
  have:=(B k).2;rw[A k,I k]at this;exact this
 have j:(u.data f).h=⟨u.h.fr,gL u.h.fr f.offset (aG f.data) (jk u.h.af ⟨f.offset,aT f⟩) u.h.bytes,dv u.h.af ⟨f.offset,aT f⟩⟩:=by show(if u.given then u.h else _)=_;rw[a];rfl
 have C:∀m:Nat,(((r.grow f).pad M).fill f f.data.size).there.getD m false=true↔Sm (dv u.h.af ⟨f.offset,aT f⟩) m:=λm=>by
  rw[K,Bool.or_eq_true,nA,h.th a m,jE _ ho.ok];simp only
  constructor;rintro(e|e);exact .inl e;exact .inr (by omega);rintro(e|e);exact .inl e;exact .inr (by omega)
 have N:∀x∈jk u.h.af ⟨f.offset,aT f⟩,u.h.fr<=x.lo/\f.offset<=x.lo/\x.lo<=x.hi/\x.hi<=f.offset+(aG f.data).length:=λx w=>by
  have hp:=(tw u.h.af ⟨f.offset,aT f⟩).2 x w;have D:=(qi u.h.af ⟨f.offset,aT f⟩ x.lo).1 ⟨x,w,by omega,by omega⟩;have O:=(qi u.h.af ⟨f.offset,aT f⟩ (x.hi-1)).1 ⟨x,w,by omega,by omega⟩;simp only at D O;have a0:u.h.fr<=x.lo:=by
   by_cases c:u.h.fr<=x.lo;exact c;exact absurd (ho.low a x.lo (by omega) (by omega)) D.2
  rw[fu];omega
 refine⟨trivial,⟨?_,λe=>?_,a.trans n.symm,λe=>?_,by rw[j];exact h.fr,λ_=>?_,λe=>?_,λe=>?_,h.over,?_,λe=>?_,λ_ m=>by rw[j];exact C m,λ_ m q P=>?_⟩⟩
 show(u.ended||f.fin)=(r.ended||f.fin);rw[h.ended];show(if f.fin then aT f else u.last)=(if f.fin then aT f else r.end_)
 by_cases b:f.fin=true;rw[b];rfl;have b:f.fin=false:=by simpa using b
 rw[b];have e2:(u.ended||f.fin)=true:=e;rw[b,sY]at e2;exact h.last e2;exact absurd (show u.given=true from e) (by rw[a];simp);show max u.high (aT f)=max r.high (aT f);rw[z];have e2:(u.ended||f.fin)=true:=e;show max u.high (aT f)<=(if f.fin then aT f else u.last)/\max r.high (aT f)<=(if f.fin then aT f else u.last);rw[<-z];simp only[oh,Bool.and_eq_false_iff,sP]at g;by_cases b:f.fin=true;rw[b];simp only[eX]
 obtain d|d:=g.2
 rw[b]at d;cases d;have:=d.2;omega;have b:f.fin=false:=by simpa using b
 rw[b,sY]at e2;rw[b];simp only[gm,fR]
 have:=(h.hl e2).1;obtain d|d:=g.1
 rw[e2]at d;cases d;omega;exact absurd (show u.given=true from e) (by rw[a];simp);obtain e|e|⟨e,e2⟩:=h.st
 exact .inl e;exact .inr (.inl e);rw[a]at e2;cases e2;obtain⟨e1,e2⟩:=h.ov e;rw[j];refine⟨by show(u.ended||f.fin)=true;rw[e1];rfl,?_⟩
 show u.h.fr=(if f.fin then aT f else u.last)
 rw[e1]at g;simp only[Bool.true_and,oh,sP,Bool.and_eq_false_iff]at g;split;rename_i b;obtain d|d:=g.2
 rw[b]at d;cases d;have:=d.1;have:aT f=u.last:=by simpa using this
 omega;exact e2;rw[j]at q⊢;simp only at q⊢;rw[L m];obtain⟨Q,R⟩:=Oe (jk u.h.af ⟨f.offset,aT f⟩) u.h.bytes N (m:Int) q;have hs:=(qi u.h.af ⟨f.offset,aT f⟩ (m:Int))
 simp only at hs;by_cases c:Sm u.h.af (m:Int);rw[R (λe=>(hs.1 e).2 c)];have E:=(h.th a m).2 c;rw[ah (by rw[E];simp)];exact h.mG a m q E;have S:f.offset<=(m:Int)/\(m:Int)<aT f:=by
  obtain e|e:=(jE _ ho.ok (m:Int)).1 ((C m).1 P)
  exact absurd e c;exact e
 have T:r.there.getD m false=false:=by
  obtain e|e:=Bool.eq_false_or_eq_true (r.there.getD m false)
  exact absurd ((h.th a m).1 e) c;exact e
 rw[Q (hs.2 ⟨S,c⟩),az ⟨T,by omega,by omega⟩];congr 1;omega
theorem je.gp{r:aL}(h:je u r)(f:Fr):u.gp f.offset=r.ud f:=by
 unfold It.gp aL.ud;rw[h.ended];by_cases a:r.ended=true;have hl:=h.last (h.ended.trans a);have g:=h.hl (h.ended.trans a);rw[hl]at *;rw[a];by_cases c2:f.offset=r.end_;rw[bI (by omega),bI (by omega),c2];have c:(f.offset !=r.end_)=true:=by simpa using c2
 have d:(r.end_ !=f.offset)=true:=by simpa using λe=>c2 e.symm
 rw[c,d];rfl;have a:r.ended=false:=by simpa using a
 have b:u.given=false:=by
  by_cases b:u.given=true;have:=h.ge b;rw[h.ended,a]at this;cases this;simpa using b
 rw[a,h.high b];rfl
theorem je.reset{r:aL}(h:je u r)(f:Fr)(j:u.gp f.offset=false):je (u.reset f) (r.reset f):=by
 have c:=j;unfold It.gp at c;simp only[oh,Bool.and_eq_false_iff,sP]at c;have d:u.ended=true->f.offset=u.last:=λe=>by
  obtain b|b:=c.1
  rw[e]at b;cases b;simpa using b
 have g:(u.reset f).h.fr=u.h.fr:=by
  show(if u.given then u.h else⟨u.h.fr,[],[]⟩:Hd).fr=u.h.fr;split<;>rfl
 refine⟨rfl,λ_=>rfl,rfl,λ_=>?_,by rw[g];exact h.fr,λe=>(by cases e),λ_=>?_,λ_=>rfl,h.over,?_,λe=>?_,λe=>(by cases e),λe=>(by cases e)⟩
 show(if u.given then u.code else f.code)=(if r.given then r.code else f.code)
 rw[<-h.given];split;rename_i a;exact h.code a;rfl;show u.high<=f.offset/\r.high<=f.offset;refine⟨by omega,?_⟩
 by_cases a:u.given=true;have i:=h.ge a;have:=(h.hl i).2;rw[d i];exact this;have a:u.given=false:=by simpa using a
 rw[<-h.high a];omega;obtain e|e|⟨e,-⟩:=h.st
 exact .inl e;exact .inr (.inl e);exact .inr (.inr ⟨e,rfl⟩);obtain⟨e1,e2⟩:=h.ov e;exact⟨rfl,by rw[g];show u.h.fr=f.offset;rw[d e1];exact e2⟩
theorem je.busy{r:aL}(h:je u r)(f:Fr)(ag:Int):u.busy f ag=(decide (r.state≠2)&&(!r.given&&decide (r.read+ag<aT f))):=by
 unfold It.busy;rw[h.given,h.fr];obtain e|e|⟨e,e2⟩:=h.st
 rw[e];simp;rw[e];simp;rw[h.given]at e2;rw[e2];simp
theorem zh{h:Hd}(d:bh h.af)(f:∀m,0<=m->m<h.fr->Sm h.af m)(q:0<=h.fr)(hp:∀m,Sm h.af m->0<=m)(e:0<=cO h):(∀j:Int,0<=j->j<cO h->Sm h.af (h.fr+j))/\¬Sm h.af (h.fr+cO h):=by
 unfold cO at *;cases k:h.af with
 |nil=>
  simp only[fB,true_or,eX]
  exact⟨λj b g=>by omega,fM _⟩
 |cons a l=>
  rw[k]at d e f;have e0:au (a::l) 0=a:=rfl;rw[e0]at e⊢;have i:∀m,Sm (a::l) m->a.lo<=m:=λm n=>by
   obtain b|b:=(eu a l m).1 n
   omega;have:=d.behind b;have:=d.2 a (by simp);omega
  by_cases c:0<a.lo;rw[az (.inr c)];refine⟨λj b g=>by omega,λhs=>?_⟩
  have r:=i _ hs;have p:=f 0 (by omega) (by omega);have:=i _ p;omega;rw[ah (by simp;omega)]at e⊢;refine⟨λj b g=>(eu a l _).2 (.inl (by omega)),λhs=>?_⟩
  obtain b|b:=(eu a l _).1 hs
  omega;have:=d.behind b;omega
theorem Of{r:aL}(h:je u r)(ho:gS p u)(d:fQ r)(b:u.given=false):(r.kD:Int)=cO u.h:=by
 have e:=ho.whole;obtain⟨f,g⟩:=zh ho.ok (ho.low b) ho.fr (λm i=>(ho.kQ m i).1) e.1;have k:=d.rd;have l:=h.fr;have n:(r.read.toNat:Int)=u.h.fr:=by omega
 by_cases c1:(r.kD:Int)<cO u.h;exfalso;have hs:=f r.kD (by omega) c1;have a:=(h.th b (r.read.toNat+r.kD)).2 (by rw[show((r.read.toNat+r.kD:Nat):Int)=u.h.fr+r.kD by push_cast;omega];exact hs);have hl:r.read.toNat+r.kD<r.there.length:=by
  by_cases c:r.read.toNat+r.kD<r.there.length;exact c;rw[List.getD,nz (by omega)]at a;cases a
 have:=NX r hl;rw[List.getD,this]at a;cases a;by_cases c2:cO u.h<(r.kD:Int);exfalso;have j:=DU r (cO u.h).toNat (by omega);have a:r.there.getD (r.read.toNat+(cO u.h).toNat) false=true:=by rw[List.getD,j];rfl
 have:=(h.th b _).1 a;rw[show((r.read.toNat+(cO u.h).toNat:Nat):Int)=u.h.fr+cO u.h by push_cast;omega]at this;exact g this;omega
theorem fQ.dD{r:aL}(a:fQ r)(aE:Int):fQ (r.dD aE):=by
 have hs:fQ r.start:=by
  unfold aL.start;split;exact⟨a.dl,a.tl,a.hi,a.e0,a.rd⟩
  exact a
 have c:=yY (p:=aE) hs;have b:fQ (r.start.kW (r.start.bn aE)):=⟨hs.dl,hs.tl,hs.hi,hs.e0,by have:=hs.rd;show 0<=r.start.read+_/\r.start.read+_<=r.start.high;omega⟩
 unfold aL.dD aL.stop;split;exact⟨b.dl,b.tl,b.hi,b.e0,b.rd⟩
 exact b
theorem je.read{r:aL}(h:je u r)(ho:gS p u)(k:fQ r)(aE:Int):
 r.text aE=u.out aE/\(r.dD aE).state=u.state aE/\(r.dD aE).jm=u.jm/\je (u.read aE) (r.dD aE):=by
 have w:=ho.whole;by_cases x:u.given=true/\u.over=false;obtain⟨a,b⟩:=x;have y:r.given=true:=h.given▸a;have z:r.state≠1:=λe=>by have:=h.over.2 e;rw[b]at this;cases this
 have i:r.start={r with state:=2}:=by
  unfold aL.start;obtain e|e|⟨e,-⟩:=h.st
  rw[az ⟨y,e⟩];exact absurd e z;rw[ah (λq=>by have:=q.2;omega),<-e]
 have f:r.start.bn aE=0:=by rw[i];unfold aL.bn;rw[ah (by simp)]
 have g:r.dD aE={r with state:=2}:=by
  unfold aL.dD;rw[f,i];unfold aL.stop aL.kW;rw[ah (by simp)];simp
 have d:(u.given&& !u.over)=true:=by rw[a,b];rfl
 have l:u.read aE=u:=by unfold It.read;rw[az d]
 refine⟨?_,?_,?_,?_⟩
 unfold aL.text It.out;rw[f,az d];rfl;rw[g];unfold It.state;rw[az d];rw[g];unfold aL.jm It.jm;rw[az rfl,az d];exact(h.code a).symm;rw[l,g];exact⟨h.ended,h.last,h.given,h.code,h.fr,h.high,h.hl,h.ge,by simp[b],.inr (.inr ⟨rfl,a⟩),h.ov,h.th,h.mG⟩
 have d:(u.given&& !u.over)=false:=by
  cases a:u.given;rfl;cases b:u.over;exact absurd ⟨a,b⟩ x;rfl
 by_cases b:u.over=true;have z:=h.over.1 b;obtain⟨D,H⟩:=h.ov b;have i:r.start=r:=by unfold aL.start;rw[ah (λq=>by have:=q.2;omega)]
 have f:r.start.bn aE=0:=by rw[i];unfold aL.bn;rw[ah (by omega)]
 have g:r.dD aE=r:=by
  unfold aL.dD;rw[f,i];unfold aL.stop aL.kW;rw[ah (λq=>by have:=q.2.2;simp only at this;omega)];simp
 have M:cO u.h<=0:=by
  by_cases a:u.given=true;unfold cO;rw[(ho.sA a).1];simp;have a:u.given=false:=by simpa using a
  by_cases c:cO u.h<=0;exact c;exfalso;obtain⟨A,-⟩:=zh ho.ok (ho.low a) ho.fr (λm n=>(ho.kQ m n).1) w.1;have hs:=A 0 (by omega) (by omega);have I:=ho.fr;have s:=(h.th a u.h.fr.toNat).2 (by rw[show((u.h.fr.toNat:Nat):Int)=u.h.fr+0 by omega];exact hs);have hl:u.h.fr.toNat<r.there.length:=by
   by_cases c:u.h.fr.toNat<r.there.length;exact c;rw[List.getD,nz (by omega)]at s;cases s
  have:=(h.hl D).2;have:=k.dl;have:=k.tl;omega
 have E:u.iK aE=0:=by unfold It.iK;omega
 have l:u.read aE=u:=by
  unfold It.read;rw[ah (by rw[d];simp),E];have e1:(u.ended&&(u.h.fr+((0:Nat):Int)==u.last))=u.over:=by rw[D,b];simp[H]
  rw[e1];simp
 refine⟨?_,?_,?_,?_⟩
 unfold aL.text It.out;rw[f,ah (by rw[d];simp),E];rfl;rw[g];unfold It.state;rw[ah (by rw[d];simp),l,az b];exact z;rw[g];unfold aL.jm It.jm;rw[ah (by omega),ah (by rw[d];simp)];rw[l,g];exact h;have b:u.over=false:=by simpa using b
 have a:u.given=false:=by
  by_cases a:u.given=true;exact absurd ⟨a,b⟩ x;simpa using a
 have y:r.given=false:=h.given▸a;have B:r.state=0:=by
  obtain e|e|⟨-,e⟩:=h.st
  exact e;have:=h.over.2 e;rw[b]at this;cases this;rw[a]at e;cases e
 have i:r.start=r:=by unfold aL.start;rw[ah (λq=>by have:=q.1;rw[y]at this;cases this)]
 have O:=Of h ho k a;have f:r.start.bn aE=u.iK aE:=by
  rw[i];unfold aL.bn It.iK;rw[az B];omega
 have K:=yY (p:=aE) k;obtain⟨N,t⟩:=exq (u.iK aE);rw[<-t]at f;have P:(N:Int)<=cO u.h:=by rw[t];exact DM u aE w
 rw[i]at f;rw[f]at K;have F:=h.fr;have I:=ho.fr;obtain⟨A,-⟩:=zh ho.ok (ho.low a) ho.fr (λm n=>(ho.kQ m n).1) w.1;have L:∀j:Nat,(j:Int)<cO u.h->r.there.getD (r.read.toNat+j) false=true:=λj v=>(h.th a _).2 (by rw[show((r.read.toNat+j:Nat):Int)=u.h.fr+j by push_cast;have:=k.rd;omega];exact A j (by omega) v)
 have l:u.read aE={u with h:=⟨u.h.fr+N,u.h.bytes.drop N,u.h.af⟩,over:=u.ended&&(u.h.fr+N==u.last)}:=by
  unfold It.read;rw[ah (by rw[d];simp),<-t]
 have g:r.dD aE=(r.kW N).stop:=by unfold aL.dD;rw[i,f]
 have Q:=k.dl;have R:=k.tl;have S:=k.rd;have C:(r.kW N).stop={r.kW N with state:=if r.ended=true/\r.read+N=r.end_ then 1 else 0}:=by
  unfold aL.stop;by_cases c:r.ended=true/\r.read+N=r.end_;rw[az ⟨c.1,c.2,B⟩,az c];rw[ah (λq=>c ⟨q.1,q.2.1⟩),ah c];unfold aL.kW;rw[<-B]
 have G:(u.ended&&(u.h.fr+N==u.last))=decide (r.ended=true/\r.read+N=r.end_):=by
  rw[h.ended,F];by_cases c:r.ended=true;rw[h.last (h.ended.trans c),c];by_cases c2:r.read+N=r.end_;rw[bK ⟨rfl,c2⟩];simpa using c2;rw[bI (λq=>c2 q.2)];simpa using c2;have c:r.ended=false:=by simpa using c
  rw[c,bI (λq=>by cases q.1)];rfl
 refine⟨?_,?_,?_,?_⟩
 unfold aL.text It.out;rw[i,f,ah (by rw[d];simp),<-t];apply List.ext_getElem?;intro j;by_cases v:j<N;rw[List.getElem?_take_of_lt v,List.getElem?_take_of_lt v,kG];have hd:=h.mG a (r.read.toNat+j) (by push_cast;omega) (L j (by omega));rw[show((((r.read.toNat+j:Nat)):Int)-u.h.fr).toNat=j by push_cast;omega]at hd;have b1:j<u.h.bytes.length:=by omega
 have b2:r.read.toNat+j<r.data.length:=by omega
 simp only[List.getD,eD b1,eD b2,Option.getD_some]at hd;rw[eD b1,eD b2,hd];rw[nz (by rw[ct];omega),nz (by rw[ct];omega)];have e1:u.state aE=if(u.ended&&(u.h.fr+N==u.last))=true then 1 else 0:=by
  unfold It.state;rw[ah (by rw[d];simp),l]
 rw[e1,G,g,C];show(if r.ended=true/\r.read+N=r.end_ then(1:Int)else 0)=_;by_cases c:r.ended=true/\r.read+N=r.end_;rw[az c,az (bK c)];rw[ah c,ah (by rw[bI c];simp)];have e2:u.jm=0:=by unfold It.jm;rw[ah (by rw[d];simp)]
 rw[e2,g,C];unfold aL.jm;apply ah;show¬(if r.ended=true/\r.read+N=r.end_ then(1:Int)else 0)=2;split<;>omega;rw[l,g,C];refine⟨h.ended,h.last,h.given,λe=>absurd (show u.given=true from e) (by rw[a];simp),?_,h.high,h.hl,h.ge,?_,?_,λe=>?_,h.th,λ_ m n s=>?_⟩
 show u.h.fr+N=r.read+N;rw[F];show(u.ended&&(u.h.fr+N==u.last))=true↔(if r.ended=true/\r.read+N=r.end_ then(1:Int)else 0)=1;rw[G,nA];by_cases c:r.ended=true/\r.read+N=r.end_;rw[az c];simp[c];rw[ah c];simp[c];show(if r.ended=true/\r.read+N=r.end_ then(1:Int)else 0)=0\/_;by_cases c:r.ended=true/\r.read+N=r.end_;right;left;show(if r.ended=true/\r.read+N=r.end_ then(1:Int)else 0)=1;rw[az c];left;rw[ah c];have e2:(u.ended&&(u.h.fr+N==u.last))=true:=e;simp only[mg,beq_iff_eq]at e2;exact e2;have T:u.h.fr+N<=(m:Int):=n;have hd:=h.mG a m (by omega) s;show(u.h.bytes.drop N).getD ((m:Int)-(u.h.fr+N)).toNat 0=r.data.getD m 0;rw[<-hd];simp only[List.getD,kG]
 congr 2;omega
structure fZ(o:Ot)(r:cV):Prop where
 af:o.h.af=r.af.sp
 ck:eZ r.af
 fr:o.h.fr=r.af.eF
 sg:o.sG=r.given
 se:r.given=false->o.sE=r.finished
 aA:o.aA=r.high
 gv:r.given=true->o.code=r.code/\r.end_=r.high/\o.sE=false
 lA:r.given=false->o.h.bytes=(aG r.data).drop o.h.fr.toNat
 sz:r.data.size<=4096
 rj:o.h.fr<=r.data.size
 hs:0<=r.high/\r.high<=r.data.size
 cb:∀m,Sm o.h.af m->m<r.data.size
theorem fZ.new:fZ Ot.new cV.new:=by
 refine⟨rfl,eZ.new,?_,rfl,λ_=>rfl,rfl,λe=>(by cases e),λ_=>rfl,jh _,cW _,⟨cW _,cW _⟩,λm a=>absurd a (fM m)⟩
 simp[Ot.new,cV.new,cL.wK,cL.eF]
theorem fZ.zi{r:cV}(h:fZ f r)(a:r.given=false)(h0:0<=f.h.fr):(f.h.bytes.length:Int)=r.data.size-f.h.fr:=by
 rw[h.lA a,dF,fu];have:=h.rj;omega
theorem fZ.fv{r:cV}(h:fZ f r)(a:r.given=false)(h0:0<=f.h.fr)(b:(f.h.bytes.length:Int)<=p)(n:Nat):((f.fv n p:Nat):Int)=min (min (p-(r.data.size-r.af.eF)) (4096-r.data.size)) n:=by
 have c:=h.zi a h0;have d:=h.fr;have e:=h.sz;unfold Ot.fv;omega
theorem zj(a b:ByteArray):aG (a++b)=aG a++aG b:=by
 unfold aG;rw[ByteArray.data_append,Array.toList_append,mO]
theorem D5(b:ByteArray)(n:Nat):aG (b.extract 0 n)=(aG b).take n:=by
 unfold aG;rw[wY,Array.toList_extract];simp[List.extract]
theorem fZ.write{r:cV}(h:fZ f r)(b:r.given=false)(h0:0<=f.h.fr)(c:(f.h.bytes.length:Int)<=p)(d:ByteArray):fZ (f.wrote (aG d) p) {r with data:=r.data++d.extract 0 (f.fv (aG d).length p)}:=by
 have g:=h.fv b h0 c (aG d).length;have i:=h.sz;have j:=h.rj;have a:(r.data++d.extract 0 (f.fv (aG d).length p)).size=r.data.size+f.fv (aG d).length p:=by
  rw[<-fu,zj,D5,bH,fu,ct];omega
 refine⟨h.af,h.ck,h.fr,h.sg,h.se,h.aA,h.gv,λ_=>?_,?_,?_,?_,λm e=>?_⟩
 show f.h.bytes++(aG d).take _=(aG (r.data++_)).drop f.h.fr.toNat;rw[zj,D5,List.drop_append_of_le_length (by rw[fu];omega),h.lA b];show(r.data++_).size<=4096;rw[a];omega;show f.h.fr<=((r.data++_).size:Int);rw[a];omega;have:=h.hs;show 0<=r.high/\r.high<=((r.data++_).size:Int);rw[a];omega;have:=h.cb m e;show m<((r.data++_).size:Int);rw[a];omega
theorem fZ.finish{r:cV}(h:fZ f r)(a:r.given=false):fZ {f with sE:=true} {r with finished:=true}:=
 ⟨h.af,h.ck,h.fr,h.sg,λ_=>rfl,h.aA,λe=>absurd (show r.given=true from e) (by rw[a];simp),h.lA,h.sz,h.rj,h.hs,h.cb⟩
theorem fZ.giveUp{r:cV}(h:fZ f r)(code:Int):fZ (f.giveUp code) {r with given:=true,code:=code,end_:=r.high}:=
 ⟨h.af,h.ck,h.fr,rfl,λe=>(by cases e),h.aA,λ_=>⟨rfl,rfl,rfl⟩,λe=>(by cases e),h.sz,h.rj,h.hs,h.cb⟩
theorem Og(z:cL):z.eF=if z.sp.length=0\/0<(au z.sp 0).lo then 0 else(au z.sp 0).hi:=by
 unfold cL.eF cL.sp;cases z.l with
 |nil=>simp
 |cons a l=>simp[au,cM]
structure D6(o a:Ot):Prop where
 aA:a.aA=o.aA
 sE:a.sE=o.sE
 sG:a.sG=o.sG
 code:a.code=o.code
theorem Oh(L:List (Int×Pc)):∀(out:Nat->Ot)(k:Nat),D6 (out k) (eB out L k):=by
 induction L with
 |nil=>intro out k;exact⟨rfl,rfl,rfl,rfl⟩
 |cons x L b=>
  intro out k;have e:eB out (x::L)=eB (ai out x.1.toNat ((out x.1.toNat).fU x.2)) L:=rfl;rw[e];obtain⟨c,d,f,g⟩:=b (ai out x.1.toNat ((out x.1.toNat).fU x.2)) k;have a:D6 (out k) (ai out x.1.toNat ((out x.1.toNat).fU x.2) k):=by
   unfold ai;split;rename_i h;rw[h];exact⟨rfl,rfl,rfl,rfl⟩
   exact⟨rfl,rfl,rfl,rfl⟩
  exact⟨c.trans a.aA,d.trans a.sE,f.trans a.sG,g.trans a.code⟩
theorem Oi(L:List (Int×Pc))(k:Nat):∀(out:Nat->Ot),bh (out k).h.af->bh (eB out L k).h.af/\∀m,Sm (eB out L k).h.af m↔Sm (out k).h.af m\/∃x∈L,x.1.toNat=k/\x.2.x.lo<=m/\m<x.2.x.hi:=by
 induction L with
 |nil=>intro out h;exact⟨h,λm=>⟨.inl,λe=>e.elim id (λ⟨x,d,_⟩=>by cases d)⟩⟩
 |cons x L f=>
  intro out h;have e:eB out (x::L)=eB (ai out x.1.toNat ((out x.1.toNat).fU x.2)) L:=rfl;rw[e];have c:bh (ai out x.1.toNat ((out x.1.toNat).fU x.2) k).h.af/\∀m,Sm (ai out x.1.toNat ((out x.1.toNat).fU x.2) k).h.af m↔Sm (out k).h.af m\/(x.1.toNat=k/\x.2.x.lo<=m/\m<x.2.x.hi):=by
   by_cases b:k=x.1.toNat;subst b;rw[bk];refine⟨mW _ h,λm=>?_⟩
   rw[show((out x.1.toNat).fU x.2).h.af=dv (out x.1.toNat).h.af x.2.x from rfl,jE _ h];simp;rw[bl _ _ b];refine⟨h,λm=>⟨.inl,λq=>q.elim id (λq=>absurd q.1.symm b)⟩⟩
  obtain⟨g,i⟩:=f _ c.1;refine⟨g,λm=>?_⟩
  rw[i m,c.2 m];constructor;rintro((q|q)|⟨y,a,q⟩);exact .inl q;exact .inr ⟨x,by simp,q⟩;exact .inr ⟨y,by simp[a],q⟩;rintro(q|⟨y,a,q⟩);exact .inl (.inl q);obtain rfl|a:=fk.1 a
  exact .inl (.inr q);exact .inr ⟨y,a,q⟩
theorem Oj(h0:0<=f.h.fr)(h:f.h.bytes=L.drop f.h.fr.toNat)(p:Pc):0<=(f.fU p).h.fr/\(f.fU p).h.bytes=L.drop (f.fU p).h.fr.toNat:=by
 obtain⟨W,a⟩:=exq ((cO ⟨f.h.fr,f.h.bytes,dv f.h.af p.x⟩).toNat);have e1:(f.fU p).h.fr=f.h.fr+(W:Int):=by rw[a];rfl
 have e2:(f.fU p).h.bytes=f.h.bytes.drop W:=by rw[a];rfl
 refine⟨by omega,?_⟩
 rw[e2,e1,h,sX];congr 1;omega
theorem Ok(L:List (Int×Pc))(d:List Int)(k:Nat):∀(out:Nat->Ot),0<=(out k).h.fr->(out k).h.bytes=d.drop (out k).h.fr.toNat->0<=(eB out L k).h.fr/\(eB out L k).h.bytes=d.drop (eB out L k).h.fr.toNat:=by
 induction L with
 |nil=>intro out h0 h;exact⟨h0,h⟩
 |cons x L b=>
  intro out h0 h;have e:eB out (x::L)=eB (ai out x.1.toNat ((out x.1.toNat).fU x.2)) L:=rfl;rw[e];by_cases a:k=x.1.toNat;have:=Oj h0 h x.2;refine b _ ?_ ?_<;>rw[a,bk,<-a];exact this.1;exact this.2;refine b _ ?_ ?_<;>rw[bl _ _ a];exact h0;exact h
def nX(f:Fr)(k:Nat)(m:Int):Prop:=f.kind=5/\0<f.data.size/\f.stream.toNat=k/\f.offset<=m/\m<aT f
theorem Ol{o:Nat->cV}(h:∀k,k<4->eZ (o k).af)(d:qy G)(k:Nat)(c:k<4):
 (∃z,oM o G k={o k with af:=z})/\∀m,Sm (oM o G k).af.sp m↔Sm (o k).af.sp m\/nX G k m:=by
 unfold oM;split;rename_i a;obtain⟨f,g,e,i⟩:=d a.1 a.2;by_cases b:k=G.stream.toNat;subst b;rw[bk];obtain⟨e1,e2⟩:=(h _ c).DV e (show G.offset<=G.offset+G.data.size-1 by omega) (by omega);refine⟨⟨_,rfl⟩,λm=>?_⟩
 simp only
 rw[e2,jE _ (h _ c).ok];unfold nX aT;simp only
 constructor;rintro(q|q);exact .inl q;exact .inr ⟨a.1,a.2,trivial,by omega,by omega⟩;rintro(q|q);exact .inl q;exact .inr (by omega);rw[bl _ _ b];exact⟨⟨_,rfl⟩,λm=>⟨.inl,λq=>q.elim id (λq=>absurd q.2.2.1.symm b)⟩⟩
 rename_i a;exact⟨⟨_,rfl⟩,λm=>⟨.inl,λq=>q.elim id (λq=>absurd ⟨q.1,q.2.1⟩ a)⟩⟩
theorem Om(q:List Fr):∀{o:Nat->cV},(∀f∈q,qy f)->(∀k,k<4->eZ (o k).af)->∀(k:Nat),k<4->(∃z,q.foldl oM o k={o k with af:=z})/\∀m,Sm (q.foldl oM o k).af.sp m↔Sm (o k).af.sp m\/∃f∈q,nX f k m:=by
 induction q with
 |nil=>intro o _ _ k _;exact⟨⟨_,rfl⟩,λm=>⟨.inl,λe=>e.elim id (λ⟨f,b,_⟩=>by cases b)⟩⟩
 |cons f q i=>
  intro o b h k d;obtain⟨⟨n,e1⟩,j⟩:=Ol h (b f (by simp)) k d;obtain⟨⟨z2,e2⟩,l⟩:=i (o:=oM o f) (λg a=>b g (by simp[a])) (DW h (b f (by simp))) k d;rw[mh];refine⟨⟨z2,by rw[e2,e1]⟩,λm=>?_⟩
  rw[l m,j m];constructor;rintro((c|c)|⟨g,a,c⟩);exact .inl c;exact .inr ⟨f,by simp,c⟩;exact .inr ⟨g,by simp[a],c⟩;rintro(c|⟨g,a,c⟩);exact .inl (.inl c);obtain rfl|a:=fk.1 a
  exact .inl (.inr c);exact .inr ⟨g,a,c⟩
theorem rm(l:List Rg)(q:List (Int×List Fr)):∀{o:Nat->cV},(∀x∈q,∀f∈x.2,qy f)->(∀k,k<4->eZ (o k).af)->∀(k:Nat),k<4->(∃z,q.foldl (nU l) o k={o k with af:=z})/\∀m,Sm (q.foldl (nU l) o k).af.sp m↔Sm (o k).af.sp m\/∃x∈q,bL l x.1=true/\∃f∈x.2,nX f k m:=by
 induction q with
 |nil=>intro o _ _ k _;exact⟨⟨_,rfl⟩,λm=>⟨.inl,λe=>e.elim id (λ⟨f,b,_⟩=>by cases b)⟩⟩
 |cons x q j=>
  intro o b h k i;obtain⟨⟨z2,e2⟩,n⟩:=j (o:=nU l o x) (λg a=>b g (by simp[a])) (DX (b x (by simp)) h) k i;have p:(∃z,nU l o x k={o k with af:=z})/\∀m,Sm (nU l o x k).af.sp m↔Sm (o k).af.sp m\/(bL l x.1=true/\∃f∈x.2,nX f k m):=by
   unfold nU;split;rename_i d;obtain⟨r,s⟩:=Om x.2 (b x (by simp)) h k i;exact⟨r,λm=>by rw[s m];simp[d]⟩
   rename_i d;exact⟨⟨_,rfl⟩,λm=>⟨.inl,λc=>c.elim id (λc=>absurd c.1 d)⟩⟩
  obtain⟨⟨u,e1⟩,t⟩:=p;rw[mh];refine⟨⟨z2,by rw[e2,e1]⟩,λm=>?_⟩
  rw[n m,t m];constructor;rintro((c|c)|⟨g,a,c⟩);exact .inl c;exact .inr ⟨x,by simp,c⟩;exact .inr ⟨g,by simp[a],c⟩;rintro(c|⟨g,a,c⟩);exact .inl (.inl c);obtain rfl|a:=fk.1 a
  exact .inl (.inr c);exact .inr ⟨g,a,c⟩
theorem sD{z:cL}(h:eZ z):0<=z.eF/\(∀m,0<=m->m<z.eF->Sm z.sp m)/\¬Sm z.sp z.eF:=by
 have h0:∀m,Sm z.sp m->0<=m:=λm ⟨r,f,e,b⟩=>by
  obtain⟨q,g,rfl⟩:=eQ.1 f;have:=(h.bd q g).1;simp only[cM]at e;omega
 rw[Og];by_cases c:z.sp.length=0\/0<(au z.sp 0).lo;rw[az c];refine⟨cW _,λm e b=>by omega,λhs=>?_⟩
 have d:=h.ok;cases hl:z.sp with
 |nil=>rw[hl]at hs;exact fM 0 hs
 |cons a q=>
  rw[hl]at hs c d;obtain c|c:=c
  simp at c;have c:0<a.lo:=c;obtain b|b:=(eu a q 0).1 hs
  omega;have:=d.behind b;have:=d.2 a (by simp);omega
 rw[ah c];obtain⟨k,l,i,j⟩:=AZ h.ok h0 c;exact⟨by omega,i,j⟩
theorem On{S:Int->Prop}(a:0<=p)(b:0<=q)(e:∀m,0<=m->m<p->S m)(f:¬S p)(g:∀m,0<=m->m<q->S m)(h:¬S q):p=q:=by
 by_cases c:p<q;exact absurd (g p a c) f;by_cases d:q<p;exact absurd (e q b d) h;omega
structure pS(s:Sd)(m:aj):Prop where
 told:∀x∈m.aA,∀f∈x.2,∀k,k<4->∀b,nX f k b->Sm (s.out k).h.af b\/∃p∈s.aK++s.lost,p.num=x.1/\p.st.toNat=k/\∃q∈p.ps,q.x.lo<=b/\b<q.x.hi
 back:∀p∈s.aK++s.lost,∀q∈p.ps,∀b,q.x.lo<=b->b<q.x.hi->∃x∈m.aA,x.1=p.num/\∃f∈x.2,nX f p.st.toNat b
 fz:∀x∈m.aA,∀f∈x.2,f.kind=5->0<f.data.size->aT f<=(m.outs f.stream.toNat).data.size
 j8:uc m
theorem D7{q:Pk->Bool}{l:List Pk}{y:Int×Pc}:y∈m9 q l↔∃x∈l,q x=true/\y.1=x.st/\y.2∈x.ps:=by
 unfold m9;rw[uI];constructor;rintro⟨x,a,h⟩;split at h;rename_i b;obtain⟨p,hp,rfl⟩:=eQ.1 h;exact⟨x,a,b,rfl,hp⟩
 cases h;rintro⟨x,a,b,c,d⟩;refine⟨x,a,?_⟩
 rw[az b];exact eQ.2 ⟨y.2,d,by rw[<-c]⟩
theorem Oo(ho:∀k,k<4->fZ (s.out k) (Y.outs k))(g:pS s Y)(F:∀k,k<4->fV (s.out k))(X:∀x∈s.aK++s.lost,0<=x.st/\x.st<4/\∀p∈x.ps,lr p)(l:List Rg):
 (∀k,k<4->fZ ((s.dT l).out k) ((Y.kX l).outs k))/\pS (s.dT l) (Y.kX l):=by
 obtain⟨L,P⟩:=exq (m9 (λx=>bL l x.num) s.aK++m9 (λx=>bL l x.num) s.lost);have G:∀y,y∈L↔∃p∈s.aK++s.lost,bL l p.num=true/\y.1=p.st/\y.2∈p.ps:=λy=>by
  rw[P,bQ,D7,D7];constructor;rintro(⟨x,d,h⟩|⟨x,d,h⟩);exact⟨x,iH _ d,h⟩
  exact⟨x,jO _ d,h⟩
  rintro⟨x,d,h⟩;obtain d|d:=bQ.1 d
  exact .inl ⟨x,d,h⟩;exact .inr ⟨x,d,h⟩
 have C:(s.dT l).out=eB s.out L:=by rw[P];rfl
 have w:∀k,k<4->fV ((s.dT l).out k):=λk a=>by
  rw[C];exact yd F L (λy H=>by
   obtain⟨p,hp,-,-,h⟩:=(G y).1 H;exact(X p hp).2.2 _ h) k a
 have A:∀k,k<4->eZ (Y.outs k).af:=λk a=>(ho k a).ck
 have I:∀k,k<4->∀b,Sm ((s.dT l).out k).h.af b↔Sm (s.out k).h.af b\/∃p∈s.aK++s.lost,bL l p.num=true/\p.st.toNat=k/\∃q∈p.ps,q.x.lo<=b/\b<q.x.hi:=λk a b=>by
  rw[C,(Oi L k s.out (F k a).ok).2 b];constructor;rintro(h|⟨y,H,i,u⟩);exact .inl h;obtain⟨p,hp,m,e1,e2⟩:=(G y).1 H;exact .inr ⟨p,hp,m,by rw[<-e1];exact i,y.2,e2,u⟩;rintro(h|⟨p,hp,m,i,q,v,u⟩);exact .inl h;exact .inr ⟨(p.st,q),(G _).2 ⟨p,hp,m,rfl,v⟩,i,u⟩
 have Q:∀k,k<4->∀b,Sm ((s.dT l).out k).h.af b↔Sm ((Y.kX l).outs k).af.sp b:=λk a b=>by
  rw[I k a b];have hd:=(rm l Y.aA g.j8 A k a).2 b;rw[show((Y.kX l).outs k)=Y.aA.foldl (nU l) Y.outs k from rfl,hd,<-(ho k a).af];constructor;rintro(h|⟨p,hp,m,i,q,v,u,K⟩);exact .inl h;obtain⟨x,d,e1,f,n,t⟩:=g.back p hp q v b u K;exact .inr ⟨x,d,by rw[e1];exact m,f,n,by rw[<-i];exact t⟩;rintro(h|⟨x,d,m,f,n,t⟩);exact .inl h;obtain h|⟨p,hp,e1,e2,h⟩:=g.told x d f n k a b t
  exact .inl h;exact .inr ⟨p,hp,by rw[e1];exact m,e2,h⟩
 refine⟨λk a=>?_,⟨λx d f n k a b t=>?_,λp hp q v b i u=>?_,λx d f n D h0=>?_,g.j8⟩⟩
 obtain⟨⟨z,j⟩,-⟩:=rm l Y.aA g.j8 A k a;have j:(Y.kX l).outs k={Y.outs k with af:=z}:=j;have M:eZ ((Y.kX l).outs k).af:=DZ g.j8 A k a;have T:((s.dT l).out k).h.af=((Y.kX l).outs k).af.sp:=(w k a).ok.unique M.ok (Q k a);obtain⟨p0,U,p2⟩:=sD M;have al:((s.dT l).out k).h.fr=((Y.kX l).outs k).af.eF:=by
  rw[<-T]at U p2;exact On (S:=λb=>Sm ((s.dT l).out k).h.af b) (w k a).fr p0 (w k a).low (w k a).hole U p2
 have R:=ho k a;have V:∀b,Sm ((s.dT l).out k).h.af b->b<(Y.outs k).data.size:=λb hb=>by
  have hd:=(rm l Y.aA g.j8 A k a).2 b;obtain h|⟨x,d,-,f,n,t⟩:=hd.1 ((Q k a b).1 hb)
  rw[<-R.af]at h;exact R.cb b h;have:=g.fz x d f n t.1 t.2.1;rw[t.2.2.1]at this;have:=t.2.2.2.2;omega
 have sm:=Oh L s.out k;rw[<-C]at sm;have B:((Y.kX l).outs k).data=(Y.outs k).data:=by rw[j]
 have E:((Y.kX l).outs k).given=(Y.outs k).given:=by rw[j]
 have aC:((Y.kX l).outs k).finished=(Y.outs k).finished:=by rw[j]
 have N:((Y.kX l).outs k).high=(Y.outs k).high:=by rw[j]
 have a0:((Y.kX l).outs k).code=(Y.outs k).code:=by rw[j]
 have a1:((Y.kX l).outs k).end_=(Y.outs k).end_:=by rw[j]
 refine⟨T,M,al,by rw[sm.sG,E];exact R.sg,λe=>?_,by rw[sm.aA,N];exact R.aA,λe=>?_,λe=>?_,by rw[B];exact R.sz,?_,by rw[N,B];exact R.hs,by rw[B];exact V⟩
 rw[E]at e;rw[sm.sE,aC];exact R.se e;rw[E]at e;rw[sm.code,sm.sE,a0,a1,N];exact R.gv e;rw[E]at e;have:=(Ok L (aG (Y.outs k).data) k s.out (F k a).fr (R.lA e)).2;rw[<-C]at this;rw[B];exact this;rw[B];by_cases c:((s.dT l).out k).h.fr=0;omega;have h0:=(w k a).fr;have:=V _ ((w k a).low (((s.dT l).out k).h.fr-1) (by omega) (by omega));omega;obtain h|⟨p,hp,e1,e2,q,v,h⟩:=g.told x d f n k a b t
 exact .inl ((I k a b).2 (.inl h));by_cases m:bL l p.num=true;exact .inl ((I k a b).2 (.inr ⟨p,hp,m,e2,q,v,h⟩));by_cases W:p∈(s.dT l).aK++(s.dT l).lost;exact .inr ⟨p,W,e1,e2,q,v,h⟩;left;have O:(!bL l p.num)=true:=by simpa using m
 have i:p∈(s.eE l).aK++(s.eE l).lost:=by
  unfold Sd.eE;simp only
  obtain hp|hp:=bQ.1 hp
  by_cases c:decide (p.num+3<=(au l 0).hi)=true;exact jO _ (jO _ (iy.2 ⟨iy.2 ⟨hp,O⟩,c⟩));exact iH _ (iy.2 ⟨iy.2 ⟨hp,O⟩,by simpa using c⟩);exact jO _ (iH _ (iy.2 ⟨hp,O⟩))
 have u:p.ps.all (kS ((s.eE l).out p.st.toNat))=true:=by
  by_cases c:p.ps.all (kS ((s.eE l).out p.st.toNat))=true;exact c;exfalso;apply W;obtain i|i:=bQ.1 i
  exact iH _ i;exact jO _ (iy.2 ⟨i,by simpa using c⟩)
 have K:=List.all_eq_true.1 u q v;have h4:=(BD _ _).1 K;obtain D|⟨r,hr,D,h6⟩:=h4.1
 omega;have:Sm ((s.eE l).out p.st.toNat).h.af b:=⟨r,hr,by omega,by omega⟩
 rw[e2]at this;exact this;have a4:p∈s.aK++s.lost:=by
  have a8:∀p,p∈(s.eE l).aK++(s.eE l).lost->p∈s.aK++s.lost:=λp hp=>by
   unfold Sd.eE at hp;simp only at hp;obtain hp|hp:=bQ.1 hp
   exact iH _ (iy.1 (iy.1 hp).1).1;obtain hp|hp:=bQ.1 hp
   exact jO _ (iy.1 hp).1;exact iH _ (iy.1 (iy.1 hp).1).1
  apply a8;obtain hp|hp:=bQ.1 hp
  exact iH _ hp;exact jO _ (iy.1 hp).1
 exact g.back p a4 q v b i u;have bb:=g.j8 x d f n D h0;have a:f.stream.toNat<4:=by omega
 obtain⟨⟨z,j⟩,-⟩:=rm l Y.aA g.j8 A _ a;have j:(Y.kX l).outs f.stream.toNat={Y.outs f.stream.toNat with af:=z}:=j;rw[j];exact g.fz x d f n D h0
structure ir(s:Sd)(m:aj):Prop where
 an:m.an=s.an
 ag:m.ag=s.ag
 key:m.key=s.key
 me:m.me=if s.first then 0 else 1
 cl:m.closed=0
 said:m.said=false
 next:m.next=s.count
 out:∀k,k<4->fZ (s.out k) (m.outs k)
 aJ:∀k,k<4->je (s.aJ k) (m.ins k)
 gD:∀k,k<4->fQ (m.ins k)
 fl:pS s m
theorem pS.ins(h:pS s Y)(i:Nat->It)(j:Nat->aL):pS {s with aJ:=i} {Y with ins:=j}:=⟨h.told,h.back,h.fz,h.j8⟩
theorem ir.nk(h:ir s Y)(k:Nat)(i:It)(r:aL)(b:k<4->je i r)(c:k<4->fQ r):ir {s with aJ:=ai s.aJ k i} {Y with ins:=ai Y.ins k r}:=by
 refine⟨h.an,h.ag,h.key,h.me,h.cl,h.said,h.next,h.out,λj a=>?_,λj a=>?_,h.fl.ins _ _⟩
 by_cases e:j=k;subst e;simp only[bk];exact b a;simp only[bl _ _ e];exact h.aJ j a;by_cases e:j=k;subst e;simp only[bk];exact c a;simp only[bl _ _ e];exact h.gD j a
theorem ir.due(h:ir s Y)(d:List Int):ir s {Y with due:=d}:=⟨h.an,h.ag,h.key,h.me,h.cl,h.said,h.next,h.out,h.aJ,h.gD,⟨h.fl.told,h.fl.back,h.fl.fz,h.fl.j8⟩⟩
theorem ir.nums(h:ir s Y)(c:List Rg)(fl:Int)(o:Bool)(g e:cL):ir {s with af:=c,floor:=fl,eG:=o} {Y with dZ:=g,bU:=e}:=⟨h.an,h.ag,h.key,h.me,h.cl,h.said,h.next,h.out,h.aJ,h.gD,⟨h.fl.told,h.fl.back,h.fl.fz,h.fl.j8⟩⟩
theorem ir.note(h:ir s Y)(f:Fr)(n:Int):ir s (Y.note f n):=by
 unfold aj.note;split;exact h.due _;exact h
theorem ir.busy(h:ir s Y)(f:Fr)(b:f.kind=5->0<=f.stream/\f.stream<4):s.gC f=Y.gC f:=by
 unfold Sd.gC aj.gC;by_cases a:f.kind=5;have:=b a;rw[(h.aJ f.stream.toNat (by omega)).busy f s.ag,h.ag];rw[bI a];rfl
theorem Oq(h:ir s Y)(hs:bZ s n)(f:cU G)(ho:0<=G.offset)(i:my s G)(j:G.kind=5->(Y.ins G.stream.toNat).given=false->aT G<=100000000):(Y.take G).1=(s.take G).1/\ir (s.take G).2 (Y.take G).2:=by
 have r:=f.st;have a:G.stream.toNat<4:=by omega
 unfold Sd.take aj.take;by_cases c:G.kind=3;rw[az c,az c,h.next];split;exact⟨rfl,h⟩
 obtain⟨k,l⟩:=Oo h.out h.fl hs.out hs.pk G.ranges;exact⟨rfl,⟨h.an,h.ag,h.key,h.me,h.cl,h.said,h.next,k,h.aJ,h.gD,l⟩⟩
 rw[ah c,ah c];by_cases d:G.kind=4;rw[az d,az d,(h.aJ _ a).gp G];split;exact⟨rfl,h⟩
 rename_i m;have p:(s.aJ G.stream.toNat).gp G.offset=false:=by rw[(h.aJ _ a).gp G];simpa using m
 exact⟨rfl,h.nk _ _ _ (λ_=>(h.aJ _ a).reset G p) (λ_=>(h.gD _ a).reset ho f.1.1)⟩
 rw[ah d,ah d];by_cases b:G.kind=5;rw[az b,az b];cases g:(s.aJ G.stream.toNat).bad G;have t:(s.aJ G.stream.toNat).given=(Y.ins G.stream.toNat).given:=(h.aJ _ a).given;obtain⟨d1,d2⟩:=(h.aJ _ a).data (hs.aJ _ a) (h.gD _ a) G ho g (λe=>i b e);rw[d1];exact⟨rfl,h.nk _ _ _ (λ_=>d2) (λ_=>(h.gD _ a).bytes ho (f.en b) (j b))⟩
 have q:(Y.ins G.stream.toNat).bad G=true:=by rw[<-(h.aJ _ a).bad G];exact g
 have e:(Y.ins G.stream.toNat).bytes G=(7,Y.ins G.stream.toNat):=by unfold aL.bytes;rw[q];rfl
 rw[e];refine⟨rfl,?_⟩
 simp only[eX,ml]
 exact h;rw[ah b,ah b];split;exact⟨rfl,h⟩
 exact⟨rfl,h⟩
theorem Ou(q:n<=100000)(num:Int):∀(a:List Fr)(s:Sd)(m:aj),ir s m->bZ s n->(∀f∈a,cU f/\0<=f.offset/\my s f/\(f.kind=5->(m.ins f.stream.toNat).given=false->aT f<=100000000))->
 (aj.fc num a m).1=(dp s a).1/\((dp s a).1=0->ir (dp s a).2 (aj.fc num a m).2)/\((dp s a).1≠0->∃b,ir (dp s a).2 b/\(aj.fc num a m).2=b.fail (dp s a).1):=by
 intro a;induction a with
 |nil=>intro s m h _ _;exact⟨rfl,λ_=>h,λe=>absurd rfl e⟩
 |cons f a r=>
  intro s m h hs d;obtain⟨f1,f2,f3,f4⟩:=d f (by simp);obtain⟨t1,t2⟩:=Oq h hs f1 f2 f3 f4;have i:=take_same s f;have e1:dp s (f::a)=if(s.take f).1=0 then dp (s.take f).2 a else s.take f:=rfl
  have e2:aj.fc num (f::a) m=if(m.take f).1=0 then aj.fc num a ((m.take f).2.note f num)else((m.take f).1,(m.take f).2.fail (m.take f).1):=rfl
  rw[e1,e2,t1];by_cases c:(s.take f).1=0;rw[az c,az c];refine r _ _ (t2.note f num) (yU hs q f1 f2 f3) (λg t=>?_);obtain⟨j,u,v,w⟩:=d g (by simp[t]);refine⟨j,u,v.same i,λx k=>w x ?_⟩
  have l:g.stream.toNat<4:=by have:=j.st;omega
  have p:((m.take f).2.ins g.stream.toNat).given=false:=by rw[(ug _ f num).2.2.1]at k;exact k
  rw[<-(t2.aJ _ l).given]at p;have:=(i.aJ g.stream.toNat).2;rw[<-(h.aJ _ l).given];exact this p;rw[ah c,ah c];exact⟨rfl,λe=>absurd e c,λ_=>⟨_,t2,rfl⟩⟩
structure sF(af:List Rg)(floor:Int)(z:cL):Prop where
 sp:z.sp=af
 fl:z.floor=floor
 mo:z.aE=8
 f0:0<=floor/\floor<=4611686018427387904
 ab:∀n,Sm af n->floor<=n
theorem sF.has{z:cL}(h:sF X p z)(n:Int):z.has n=jt X p n:=by
 unfold cL.has jt;rw[h.fl,<-h.sp];unfold cL.sp;rw[List.any_map];congr 1;congr 1;funext r;simp only[Function.comp,cM]
 congr 1;apply decide_eq_decide.2;omega
theorem Ov(l:List Rg)(i:Nat)(h:i<l.length):au (l.map cM) i=cM (au l i):=by
 simp[au,List.getD,h]
theorem sF.add{z:cL}(h:sF X p z)(hs:bh X)(n:∀r∈X,0<=r.lo/\r.hi<=4611686018427387904)(C:0<=t/\t<=4611686018427387903)(hp:jt X p t=false):
 sF (eT X p t).1 (eT X p t).2 (z.add t t)/\p<=(eT X p t).2/\∀d,(Sm X d\/d=t)->d<(eT X p t).2\/Sm (eT X p t).1 d:=by
 obtain⟨D,F⟩:=Ds hp;have k:=h.sp;have G:=h.f0;have e1:max t z.floor=t:=by rw[h.fl];omega
 have e2:=wH (X:=z.l) (cW t) (by rw[show z.l.map cM=z.sp from rfl,k];exact hs);rw[show z.l.map cM=z.sp from rfl,k]at e2;obtain⟨E,m⟩:=exq ((pQ t t z.l).end_);rw[<-m]at e2;have s:z.add t t=z.put E:=by unfold cL.add;rw[e1,ah (by omega),m]
 have g:E.length=(dv X ⟨t,t+1⟩).length:=by rw[<-e2,dA]
 have i:bh (dv X ⟨t,t+1⟩):=mW _ hs;have b:∀d,Sm (dv X ⟨t,t+1⟩) d↔Sm X d\/(t<=d/\d<t+1):=λd=>jE _ hs d
 have j:∀d,Sm (dv X ⟨t,t+1⟩) d->p<=d:=λd hd=>by
  obtain q|q:=(b d).1 hd
  exact h.ab d q;omega
 unfold eT;rw[s];unfold cL.put;rw[h.mo,g];by_cases c:8<(dv X ⟨t,t+1⟩).length;rw[az c,az (show(8:Int)<((dv X ⟨t,t+1⟩).length:Int) by omega)];simp only
 cases hl:dv X ⟨t,t+1⟩with
 |nil=>rw[hl]at c;simp at c
 |cons a q=>
  have e0:au (a::q) 0=a:=rfl;rw[e0];rw[hl]at e2 i b j g;have u:0<E.length:=by rw[g];simp
  have v:cM (au E 0)=a:=by rw[<-Ov E 0 u,e2];rfl
  have w:=i.2 a (by simp);have H:=j a.lo ((eu a q _).2 (.inl ⟨cW _,w⟩));have x:(au E 0).hi+1=a.hi:=by rw[<-v];rfl
  have y:a.hi<=4611686018427387904:=by
   obtain⟨r,A,I,K⟩|f:=(b (a.hi-1)).1 ((eu a q _).2 (.inl ⟨by omega,by omega⟩))
   have:=(n r A).2;omega;omega
  refine⟨⟨?_,x,rfl,⟨by omega,y⟩,λd hd=>?_⟩,by omega,λd hd=>?_⟩
  show(E.drop 1).map cM=q;rw[List.map_drop,e2];rfl;have:=i.behind hd;omega;have B:Sm (a::q) d:=(b d).2 (hd.imp id (λe=>by omega));obtain f|f:=(eu a q d).1 B
  exact .inl f.2;exact .inr f
 rw[ah c,ah (show¬(8:Int)<((dv X ⟨t,t+1⟩).length:Int) by omega)];simp only
 refine⟨⟨e2,h.fl,rfl,h.f0,j⟩,cW _,λd hd=>.inr ((b d).2 (hd.imp id (λe=>by omega)))⟩
structure sH(af:List Rg)(z:cL)(n:Nat):Prop where
 ok:bh z.sp
 bd:∀r∈z.l,0<=r.lo/\r.hi<=4611686018427387903
 fl:z.floor=0
 mo:z.aE=1073741824
 len:z.l.length<=n
 all:∀d,Sm af d->Sm z.sp d
theorem sH.add{g:List Rg}{z:cL}(h:sH X z n)(w:n<=1000000)(x:0<=p/\p<=4611686018427387903)(k:∀d,Sm g d->Sm X d\/d=p):sH g (z.add p p) (n+1):=by
 have e1:max p z.floor=p:=by rw[h.fl];omega
 have e2:=wH (X:=z.l) (cW p) h.ok;obtain⟨E,i⟩:=exq ((pQ p p z.l).end_);rw[<-i]at e2;have y:E.length<=z.l.length+1:=by
  have:=tt (z.l.map cM) ⟨p,p+1⟩;rw[<-e2,dA,dA]at this;exact this
 have a:z.add p p={z with l:=E}:=by
  unfold cL.add cL.put;rw[e1,ah (by omega),<-i,ah (by rw[h.mo];have:=h.len;omega)]
 have b:(z.add p p).sp=dv z.sp ⟨p,p+1⟩:=by rw[a];exact e2
 refine⟨by rw[b];exact mW _ h.ok,λr m=>?_,by rw[a];exact h.fl,by rw[a];exact h.mo,?_,λd hd=>?_⟩
 have c:cM r∈(z.add p p).sp:=eQ.2 ⟨r,m,rfl⟩;have s:bh (z.add p p).sp:=by rw[b];exact mW _ h.ok
 have hp:=s.2 _ c;have j:∀d,Sm (z.add p p).sp d->0<=d/\d<=4611686018427387903:=λd hd=>by
  rw[b,jE _ h.ok]at hd;obtain⟨q,t,e,f⟩|⟨e,f⟩:=hd
  obtain⟨u,v,rfl⟩:=eQ.1 t;have:=h.bd u v;simp only[cM]at e f;omega;simp only at e f;omega
 simp only[cM]at hp;have A:=j r.lo ⟨_,c,by simp only[cM];omega,by simp only[cM];omega⟩;have B:=j r.hi ⟨_,c,by simp only[cM];omega,by simp only[cM];omega⟩;omega;rw[a];have:=h.len;show E.length<=n+1;omega;rw[b,jE _ h.ok];obtain q|q:=k d hd
 exact .inl (h.all d q);exact .inr (by simp only;omega)
def rq(m:aj)(n:Nat):Prop:=∀k,k<4->(m.ins k).read<=1024*n/\(m.ins k).high<=(m.ins k).read+m.ag
structure dI(s:Sd)(m:aj)(n:Nat):Prop where
 c:ir s m
 dZ:sF s.af s.floor m.dZ
 bU:sH s.af m.bU n
 due:∀d∈m.due,d<s.floor\/(Sm s.af d/\s.eG=true)
 dl:m.due.length<=n
 rd:rq m n
 sl:(m.aA.length:Int)<=m.next
structure wL(aF:Int)(l:List (List Int))(m:aj):Prop where
 cl:m.closed=aF
 w0:aF≠0
 RA:if m.said then l=[]else l=[dm m.key m.me m.next (bw [eR m.code])]
 key:dw m.key
 me:m.me=0\/m.me=1
 an:64<=m.an/\m.an<=300
 nx:0<=m.next/\m.next<=100000001/\(m.said=false->m.next<=100000000)
 code:0<=m.code/\m.code<=4611686018427387903
def Rel:aQ->aj->Nat->Prop
 |.aD s,m,n=>dI s m n
 |.shut aF l,m,_=>wL aF l m
theorem dI.mono(h:dI s Y n)(a:n<=i):dI s Y i:=
 ⟨h.c,h.dZ,⟨h.bU.ok,h.bU.bd,h.bU.fl,h.bU.mo,bD h.bU.len a,h.bU.all⟩,h.due,bD h.dl a,λk b=>by have:=h.rd k b;omega,h.sl⟩
theorem ir.aS(h:ir s Y):Y.me=aS s.first/\1-Y.me=aS (!s.first)/\(Y.me=0\/Y.me=1):=by
 rw[h.me];cases s.first<;>simp[Go.Proofs.YtjnmokmchdfchaaGreatDoor.aS]
theorem D8(num:Int):∀(c:List Fr)(m:aj),qZ m (aj.fc num c m).2\/(aj.fc num c m).1≠0:=by
 intro c;induction c with
 |nil=>intro m;exact .inl ⟨rfl,rfl,rfl,rfl,rfl,rfl,rfl,rfl,rfl,rfl,rfl⟩
 |cons f c d=>
  intro m;have e2:aj.fc num (f::c) m=if(m.take f).1=0 then aj.fc num c ((m.take f).2.note f num)else((m.take f).1,(m.take f).2.fail (m.take f).1):=rfl
  rw[e2];split;obtain h|h:=d ((m.take f).2.note f num)
  left;have a:=(wI m f).1;have b:=(ug (m.take f).2 f num).1;exact⟨h.an.trans (b.an.trans a.an),h.ag.trans (b.ag.trans a.ag),h.key.trans (b.key.trans a.key),h.me.trans (b.me.trans a.me),h.closed.trans (b.closed.trans a.closed),h.code.trans (b.code.trans a.code),h.said.trans (b.said.trans a.said),h.next.trans (b.next.trans a.next),h.dZ.trans (b.dZ.trans a.dZ),h.bU.trans (b.bU.trans a.bU),h.aA.trans (b.aA.trans a.aA)⟩
  exact .inr h;rename_i e;exact .inr e
theorem Ow(num:Int)(d:List Int):∀(a:List Fr)(m:aj),(m.due=d\/(m.due=d++[num]))->((aj.fc num a m).2.due=d\/((aj.fc num a m).2.due=d++[num]))/\(a.any mz=false->(aj.fc num a m).2.due=m.due):=by
 intro a;induction a with
 |nil=>intro m h;exact⟨h,λ_=>rfl⟩
 |cons f a c=>
  intro m h;have e2:aj.fc num (f::a) m=if(m.take f).1=0 then aj.fc num a ((m.take f).2.note f num)else((m.take f).1,(m.take f).2.fail (m.take f).1):=rfl
  rw[e2];have hd:=(wI m f).2;split;obtain⟨e,g⟩:=c ((m.take f).2.note f num) (N8 f (by rw[hd];exact h));refine⟨e,λb=>?_⟩
  simp only[List.any_cons,oh]at b;rw[g b.2];unfold aj.note aj.y9;rw[b.1];simp only[Bool.false_and,gm,fR]
  exact hd;refine⟨?_,λ_=>hd⟩
  show(m.take f).2.due=d\/(m.take f).2.due=d++[num];rw[hd];exact h
theorem Ox(h:rq Y n)(d:G.kind=5->G.stream.toNat<4->(Y.ins G.stream.toNat).given=false->aT G<=(Y.ins G.stream.toNat).read+Y.ag):rq (Y.take G).2 n/\∀k,((Y.take G).2.ins k).read=(Y.ins k).read:=by
 have key:∀(a:Nat)(r:aL),r.read=(Y.ins a).read->(a<4->r.high<=(Y.ins a).read+Y.ag)->rq {Y with ins:=ai Y.ins a r} n/\∀k,(ai Y.ins a r k).read=(Y.ins k).read:=λa r e1 e2=>by
  refine⟨λk b=>?_,λk=>?_⟩
  by_cases e:k=a;subst e;have:=h k b;simp only[bk]
  rw[e1];exact⟨this.1,e2 b⟩
  simp only[bl _ _ e];exact h k b;by_cases e:k=a;subst e;rw[bk];exact e1;rw[bl _ _ e]
 unfold aj.take;split;split;exact⟨h,λk=>rfl⟩
 exact⟨h,λk=>rfl⟩
 split;split;exact⟨h,λk=>rfl⟩
 exact key _ _ rfl (λb=>(h _ b).2);split;rename_i f;refine key _ _ ?_ (λb=>?_);unfold aL.bytes;split;rfl;split;rfl;rfl;have c:=(h _ b).2;unfold aL.bytes;split;exact c;split;exact c;rename_i g;have:=d f b (by simpa using g);show max _ _<=_;omega;split;exact⟨h,λk=>rfl⟩
 exact⟨h,λk=>rfl⟩
theorem Oy(num:Int):∀(a:List Fr)(m:aj),rq m n->(∀f∈a,f.kind=5->f.stream.toNat<4->(m.ins f.stream.toNat).given=false->aT f<=(m.ins f.stream.toNat).read+m.ag)->(aj.fc num a m).1=0->rq (aj.fc num a m).2 n:=by
 intro a;induction a with
 |nil=>intro m h _ _;exact h
 |cons f a p=>
  intro m h i h0;have e2:aj.fc num (f::a) m=if(m.take f).1=0 then aj.fc num a ((m.take f).2.note f num)else((m.take f).1,(m.take f).2.fail (m.take f).1):=rfl
  rw[e2]at h0⊢;obtain⟨q,r⟩:=Ox h (i f (by simp));have c:=ug (m.take f).2 f num;have j:((m.take f).2.note f num).ag=m.ag:=c.1.ag.trans (wI m f).1.ag;split;rename_i b;rw[az b]at h0;have s:rq ((m.take f).2.note f num) n:=λk d=>by
   have:=q k d;rw[c.2.2.1,j];rw[(wI m f).1.ag]at this;exact this
  refine p _ s (λg t u d l=>?_) h0;rw[c.2.2.1]at l⊢;rw[j,r];refine i g (by simp[t]) u d ?_;have v:∀k,((m.take f).2.ins k).given=false->(m.ins k).given=false:=λk=>by
   unfold aj.take;split;split;exact id;exact id;split;split;exact id;simp only[ai]
   split;intro e;cases e;exact id;split;simp only[ai]
   split;rename_i w;rw[w];exact N7;exact id;split;exact id;exact id
  exact v _ l;rename_i b;rw[ah b]at h0;exact absurd h0 b
theorem zk{a:aj}(h:ir s Y)(hs:bZ s n)(k:n<=100000)(f:p≠0)(g:0<=q/\q<=4611686018427387903)(e1:a.closed=p)(e2:a.code=q)(i:a.said=decide (p=10))(b:a.key=Y.key)(d:a.me=Y.me)(j:a.next=Y.next)(l:a.an=Y.an):wL p (s.gQ p q) a:=by
 have e:=h.aS;have m:=hs.bn;have r:=hs.an;have t:=h.next;have u:=h.an;refine⟨e1,f,?_,by rw[b,h.key];exact hs.key,by rw[d];exact e.2.2,by omega,⟨by omega,by omega,λ_=>by omega⟩,by rw[e2];exact g⟩
 rw[i];unfold Sd.gQ;by_cases c:p=10;rw[az c,bK c];rfl;rw[ah c,bI c,b,d,j,e2,h.key,h.next,e.1];rfl
theorem D9(s:Sd)(f:Fr):(s.take f).2.af=s.af/\(s.take f).2.floor=s.floor/\(s.take f).2.eG=s.eG/\((s.take f).1=0\/(s.take f).1=7\/(s.take f).1=8\/(s.take f).1=10):=by
 unfold Sd.take;split;split;exact⟨rfl,rfl,rfl,.inr (.inr (.inl rfl))⟩
 exact⟨rfl,rfl,rfl,.inl rfl⟩
 split;split;exact⟨rfl,rfl,rfl,.inr (.inl rfl)⟩
 exact⟨rfl,rfl,rfl,.inl rfl⟩
 split;split;exact⟨rfl,rfl,rfl,.inr (.inl rfl)⟩
 exact⟨rfl,rfl,rfl,.inl rfl⟩
 split;exact⟨rfl,rfl,rfl,.inr (.inr (.inr rfl))⟩
 exact⟨rfl,rfl,rfl,.inl rfl⟩
theorem Oz(a:List Fr):∀s:Sd,(dp s a).2.af=s.af/\(dp s a).2.floor=s.floor/\(dp s a).2.eG=s.eG:=by
 induction a with
 |nil=>intro s;exact⟨rfl,rfl,rfl⟩
 |cons f a e=>
  intro s;obtain⟨b,c,d,-⟩:=D9 s f;have e1:dp s (f::a)=if(s.take f).1=0 then dp (s.take f).2 a else s.take f:=rfl
  rw[e1];split;obtain⟨g,h,i⟩:=e (s.take f).2;exact⟨g.trans b,h.trans c,i.trans d⟩
  exact⟨b,c,d⟩
theorem OA(a:List Fr):∀s:Sd,(dp s a).1=0\/(dp s a).1=7\/(dp s a).1=8\/(dp s a).1=10:=by
 induction a with
 |nil=>intro s;exact .inl rfl
 |cons f a b=>
  intro s;have e1:dp s (f::a)=if(s.take f).1=0 then dp (s.take f).2 a else s.take f:=rfl
  rw[e1];split;exact b _;exact(D9 s f).2.2.2
theorem OB(hs:bh X)(h:Sm (eT X p t).1 r):Sm X r\/r=t:=by
 have a:Sm (dv X ⟨t,t+1⟩) r:=by
  unfold eT at h;split at h;obtain⟨b,c,d⟩:=h;exact⟨b,iG c,d⟩
  exact h
 obtain q|q:=(jE _ hs r).1 a
 exact .inl q;right;simp only at q;omega
theorem OC(h:dI s Y n)(hs:bZ s n)(hn:n<=40000)(hp:∀x∈L,W8 x):
 (Y.eI L).1=(s.recv L).1/\(Y.eI L).2.1=(s.recv L).2.1/\Rel (s.recv L).2.2 (Y.eI L).2.2 (n+1):=by
 have C:=h.c;obtain⟨d1,d2,d3⟩:=C.aS;have w:=DQ hp;have S:Y.eI L=if¬eC s.key (aS (!s.first)) L then(4,-1,Y)else if jt s.af s.floor (bp L)then(0,-1,Y)else Y.pR (bp L) (dN s.key (aS (!s.first)) (bp L) (bT L)):=by
  unfold aj.eI;rw[ah (by simpa using C.cl),d2,C.key,h.dZ.has]
 rw[S];by_cases r:eC s.key (aS (!s.first)) L;have t:¬¬eC s.key (aS (!s.first)) L:=λe=>e r
 have y:=r.2.2.2;cases z:jt s.af s.floor (bp L);have A:(if¬eC s.key (aS (!s.first)) L then((4:Int),(-1:Int),Y)else if false=true then(0,-1,Y)else Y.pR (bp L) (dN s.key (aS (!s.first)) (bp L) (bT L)))=Y.pR (bp L) (dN s.key (aS (!s.first)) (bp L) (bT L)):=by rw[ah t,ah (by simp)]
 rw[A];unfold Sd.recv;rw[ah t,ah (by rw[z];simp)];unfold aj.pR;obtain⟨b,I⟩:=exq (dN s.key (aS (!s.first)) (bp L) (bT L));have T:∀x∈b,W8 x:=by rw[I];exact tV (DP hp)
 rw[<-I];cases hd:fE b with
 |mk o q=>
  cases o with
  |none=>
   refine⟨rfl,rfl,?_⟩
   exact zk C hs (by omega) (by omega) (by omega) rfl rfl (by simpa using C.said) rfl rfl rfl rfl
  |some a=>
   have u:=DO hd;subst u;simp only
   have v:=wu hd;have K:=DN T hd;have U:a.any Y.gC=a.any s.gC:=by
    have V:∀q:List Fr,(∀f∈q,cU f)->q.any Y.gC=q.any s.gC:=λq=>by
     induction q with
     |nil=>intro _;rfl
     |cons g q W=>
      intro u;rw[List.any_cons,List.any_cons,W (λf i=>u f (by simp[i])),C.busy g (λ_=>(u g (by simp)).st)]
    exact V a v
   rw[U];cases X:a.any s.gC;simp only[gm,fR]
   have B:∀f∈a,s.gC f=false:=λf i=>by
    have:=List.any_eq_false.1 X f i;simpa using this
   have M:=DR hs ⟨w,y⟩ a;obtain⟨g1,g2,N⟩:=h.dZ.add hs.mC hs.cr ⟨w,y⟩ z;have C1:ir (s.fI (bp L) a) (Y.mark (bp L)):=C.nums _ _ _ _ _;have O:∀f∈a,f.kind=5->f.stream.toNat<4->(Y.ins f.stream.toNat).given=false->aT f<=(Y.ins f.stream.toNat).read+Y.ag:=λf i D l E=>by
    have P:=C.aJ _ l;have Q:=wA (B f i) D (by rw[P.given];exact E);rw[<-P.fr,C.ag];exact Q
   obtain⟨t1,t2,t3⟩:=Ou (n:=n) (by omega) (bp L) a _ _ C1 M (λf i=>⟨v f i,(K f i).1,wA (B f i),λD E=>by
    have a8:=(v f i).st;have l:f.stream.toNat<4:=by omega
    have Q:=O f i D l E;have h2:=(h.rd _ l).1;have h3:=hs.ag;have h4:=C.ag;omega⟩)
   have F:=Ow (bp L) Y.due a (Y.mark (bp L)) (.inl rfl);rw[t1];by_cases c0:(dp (s.fI (bp L) a) a).1=0;rw[az c0];refine⟨c0,rfl,?_⟩
   have G:=t2 c0;have hsame:=(D8 (bp L) a (Y.mark (bp L))).resolve_right (by rw[t1];simpa using c0);have m:(dp (s.fI (bp L) a) a).2.af=(eT s.af s.floor (bp L)).1/\(dp (s.fI (bp L) a) a).2.floor=(eT s.af s.floor (bp L)).2/\(dp (s.fI (bp L) a) a).2.eG=(s.eG||a.any mz):=Oz a (s.fI (bp L) a);refine⟨G,?_,?_,λd p=>?_,?_,?_,?_⟩
   rw[m.1,m.2.1,hsame.dZ];exact g1;rw[m.1,hsame.bU];refine h.bU.add (by omega) ⟨w,y⟩ (λd aC=>?_);exact OB hs.mC aC;rw[m.1,m.2.1,m.2.2];have a0:d∈Y.due\/(d=bp L/\a.any mz=true):=by
    cases H:a.any mz;left;rw[F.2 H]at p;exact p;obtain e|e:=F.1
    rw[e]at p;exact .inl p;rw[e]at p;obtain q|q:=bQ.1 p
    exact .inl q;exact .inr ⟨cS.1 q,rfl⟩
   obtain q|⟨q,H⟩:=a0
   obtain R|⟨R,q2⟩:=h.due d q
   exact .inl (by omega);obtain j|j:=N d (.inl R)
   exact .inl j;exact .inr ⟨j,by rw[q2];rfl⟩;obtain j|j:=N d (.inr q)
   exact .inl j;exact .inr ⟨j,by rw[H];simp⟩;have:=h.dl;obtain e|e:=F.1<;>rw[e]
   omega;simp;omega;have:=Oy (n:=n) (bp L) a (Y.mark (bp L)) h.rd O (by rw[t1];exact c0);exact λk l=>by have:=this k l;omega
   rw[hsame.aA,hsame.next];exact h.sl;rw[ah c0];obtain⟨m',G,e⟩:=t3 c0;refine⟨rfl,rfl,?_⟩
   have bt:=OA a (s.fI (bp L) a);have a2:=yV (n:=n) (by omega) a (s.fI (bp L) a) M (λf i=>⟨v f i,(K f i).1,wA (B f i)⟩);rw[e];exact zk G a2 (by omega) c0 (by omega) rfl rfl rfl rfl rfl rfl rfl;exact⟨rfl,rfl,h.mono (by omega)⟩
 have A:(if¬eC s.key (aS (!s.first)) L then((4:Int),(-1:Int),Y)else if true=true then(0,-1,Y)else Y.pR (bp L) (dN s.key (aS (!s.first)) (bp L) (bT L)))=(0,-1,Y):=by rw[ah t,az rfl]
 rw[A];unfold Sd.recv;rw[ah t,az z];exact⟨rfl,rfl,h.mono (by omega)⟩
 rw[az r];unfold Sd.recv;rw[az r];exact⟨rfl,rfl,h.mono (by omega)⟩
theorem pS.uh(h:pS s Y)(k:Nat)(o:Ot)(r:cV)(e1:o.h.af=(s.out k).h.af)(e2:(Y.outs k).data.size<=r.data.size):pS {s with out:=ai s.out k o} {Y with outs:=ai Y.outs k r}:=by
 refine⟨λx a f c j d b g=>?_,h.back,λx a f c i h0=>?_,h.j8⟩
 obtain q|q:=h.told x a f c j d b g
 left;show Sm (ai s.out k o j).h.af b;by_cases e:j=k;subst e;rw[bk,e1];exact q;rw[bl _ _ e];exact q;exact .inr q;have:=h.fz x a f c i h0;show aT f<=((ai Y.outs k r f.stream.toNat).data.size:Int);by_cases e:f.stream.toNat=k;rw[e]at this;rw[e,bk];omega;rw[bl _ _ e];exact this
theorem dI.uh(h:dI s Y n)(k:Nat)(o:Ot)(r:cV)(e1:o.h.af=(s.out k).h.af)(e2:(Y.outs k).data.size<=r.data.size)(b:k<4->fZ o r):dI {s with out:=ai s.out k o} {Y with outs:=ai Y.outs k r} n:=by
 have C:=h.c;refine⟨⟨C.an,C.ag,C.key,C.me,C.cl,C.said,C.next,λj a=>?_,C.aJ,C.gD,C.fl.uh k o r e1 e2⟩,h.dZ,h.bU,h.due,h.dl,h.rd,h.sl⟩
 by_cases e:j=k;subst e;simp only[bk];exact b a;simp only[bl _ _ e];exact C.out j a
theorem ui(h:Y.closed=0)(k:Int):Y.of k=if k<0\/4<=k then 2 else 0:=by
 unfold aj.of;rw[ah (by simpa using h)]
theorem fZ.shut{r:cV}(h:fZ f r):(r.finished||r.given)=(f.sE||f.sG):=by
 rw[h.sg];cases a:r.given;rw[h.se a];simp
theorem OD(h:dI s Y n)(hs:bZ s n)(k:Int)(d:ByteArray):
 (Y.write k d).1=(aQ.write (.aD s) k (aG d)).1/\(Y.write k d).2.1=(aQ.write (.aD s) k (aG d)).2.1/\Rel (aQ.write (.aD s) k (aG d)).2.2 (Y.write k d).2.2 n:=by
 have a:=ui h.c.cl k;unfold aj.write aQ.write;by_cases b:k<0\/4<=k;rw[az b]at a;rw[a];simp only[az b]
 exact⟨by first|rfl|trivial,by first|rfl|trivial,h⟩
 rw[ah b]at a;rw[a];simp only[ah b]
 have e:k.toNat<4:=by omega
 have R:=h.c.out _ e;have g:=hs.out _ e;have f:=R.shut;rw[ah (by simp),f];unfold Sd.write;cases l:((s.out k.toNat).sE||(s.out k.toNat).sG);simp only[gm,fR]
 have i:(Y.outs k.toNat).given=false:=by
  rw[l,oh]at f;exact f.2
 have j:=hs.oI _ e;have m:=R.fv i g.fr j (aG d).length;have e1:Y.fv k.toNat d.size=((s.out k.toNat).fv (aG d).length s.ag:Nat):=by
  rw[m];unfold aj.fv;rw[h.c.ag,fu]
 rw[e1];refine⟨by first|rfl|trivial,by first|rfl|trivial,?_⟩
 rw[nE];refine h.uh _ _ _ rfl ?_ (λ_=>R.write i g.fr j d);show _<=((Y.outs k.toNat).data++_).size;rw[ByteArray.size_append];omega;simp only[eX]
 exact⟨by first|rfl|trivial,by first|rfl|trivial,h⟩
theorem OE(h:dI s Y n)(k:Int):(Y.finish k).1=(aQ.finish (.aD s) k).1/\Rel (aQ.finish (.aD s) k).2 (Y.finish k).2 n:=by
 have a:=ui h.c.cl k;unfold aj.finish aQ.finish;by_cases b:k<0\/4<=k;rw[az b]at a;rw[a];simp only[az b]
 exact⟨by first|rfl|trivial,h⟩
 rw[ah b]at a;rw[a];simp only[ah b]
 have e:k.toNat<4:=by omega
 have R:=h.c.out _ e;have d:=R.shut;rw[ah (by simp),d];unfold Sd.finish;cases f:((s.out k.toNat).sE||(s.out k.toNat).sG);simp only[gm,fR]
 have g:(Y.outs k.toNat).given=false:=by
  rw[f,oh]at d;exact d.2
 exact⟨by first|rfl|trivial,h.uh _ _ _ rfl (aP _) (λ_=>R.finish g)⟩
 simp only[eX]
 exact⟨by first|rfl|trivial,h⟩
theorem OF(h:dI s Y n)(k code:Int):(Y.giveUp k code).1=(aQ.giveUp (.aD s) k code).1/\Rel (aQ.giveUp (.aD s) k code).2 (Y.giveUp k code).2 n:=by
 have a:=ui h.c.cl k;unfold aj.giveUp aQ.giveUp;by_cases b:k<0\/4<=k;rw[az b]at a;rw[a];simp only[az b]
 exact⟨by first|rfl|trivial,h⟩
 rw[ah b]at a;rw[a];simp only[ah b]
 have e:k.toNat<4:=by omega
 have R:=h.c.out _ e;rw[ah (by simp),<-R.sg];unfold Sd.giveUp;by_cases d:(s.out k.toNat).sG=true\/4611686018427387903<code;rw[az d,az d];exact⟨by first|rfl|trivial,h⟩
 rw[ah d,ah d];exact⟨by first|rfl|trivial,h.uh _ _ _ rfl (aP _) (λ_=>R.giveUp code)⟩
theorem Ea(h:dI s Y n)(k:Int):Y.af k=aQ.af (.aD s) k:=by
 have a:=ui h.c.cl k;unfold aj.af aQ.af;by_cases b:k<0\/4<=k;rw[az b]at a;rw[a];simp only[az b]
 rfl;rw[ah b]at a;rw[a];simp only[ah b]
 rw[ah (by simp),(h.c.out k.toNat (by omega)).fr]
theorem OG(h:dI s Y n)(hs:bZ s n)(k aE:Int):
 (Y.read k aE).1=(aQ.read (.aD s) k aE).1/\(Y.read k aE).2.1=(aQ.read (.aD s) k aE).2.1/\(Y.read k aE).2.2.1=(aQ.read (.aD s) k aE).2.2.1/\(Y.read k aE).2.2.2.1=(aQ.read (.aD s) k aE).2.2.2.1/\Rel (aQ.read (.aD s) k aE).2.2.2.2 (Y.read k aE).2.2.2.2 (n+1):=by
 have a:=ui h.c.cl k;unfold aj.read aQ.read;by_cases b:k<0\/4<=k;rw[az b]at a;rw[a];simp only[az b]
 exact⟨rfl,rfl,rfl,rfl,h.mono (by omega)⟩
 rw[ah b]at a;rw[a];simp only[ah b]
 have d:k.toNat<4:=by omega
 have R:=h.c.aJ _ d;have i:=hs.aJ _ d;have f:=h.c.gD _ d;obtain⟨l,m,p,q⟩:=R.read i f aE;rw[ah (by simp)];refine⟨l,m,p,rfl,?_⟩
 have r:=h.c.nk k.toNat _ _ (λ_=>q) (λ_=>f.dD aE);refine⟨r,h.dZ,⟨h.bU.ok,h.bU.bd,h.bU.fl,h.bU.mo,bD h.bU.len (by omega),h.bU.all⟩,h.due,bD h.dl (by omega),λj t=>?_,h.sl⟩
 have v:=h.rd j t;by_cases e:j=k.toNat;subst e;have w:=hs.ag;have x:=h.c.ag;have u:=(f.dD aE).rd;have g:((Y.ins k.toNat).dD aE).high=(Y.ins k.toNat).high:=by
  unfold aL.dD aL.stop aL.kW aL.start;split<;>split<;>rfl
 have y:(Y.ins k.toNat).read<=((Y.ins k.toNat).dD aE).read:=by
  unfold aL.dD aL.stop aL.kW aL.start;split<;>split<;>(simp only;omega)
 show(ai Y.ins k.toNat _ k.toNat).read<=_/\(ai Y.ins k.toNat _ k.toNat).high<=(ai Y.ins k.toNat _ k.toNat).read+Y.ag;rw[bk,g];rw[g]at u;omega;show(ai Y.ins k.toNat _ j).read<=_/\(ai Y.ins k.toNat _ j).high<=(ai Y.ins k.toNat _ j).read+Y.ag;rw[bl _ _ e];omega
theorem OH(h:dI s Y n):dI s.eN Y n:=by
 have C:=h.c;have a:∀p,p∈s.eN.aK++s.eN.lost↔p∈s.aK++s.lost:=λp=>by
  unfold Sd.eN;split;simp only[jQ,bQ]
  exact Or.comm;exact Iff.rfl
 have d:s.eN.out=s.out:=by unfold Sd.eN;split<;>rfl
 have e:s.eN.aJ=s.aJ:=by unfold Sd.eN;split<;>rfl
 have g:s.eN.an=s.an/\s.eN.ag=s.ag/\s.eN.key=s.key/\s.eN.first=s.first/\s.eN.count=s.count/\s.eN.af=s.af/\s.eN.floor=s.floor/\s.eN.eG=s.eG:=by
  unfold Sd.eN;split<;>exact⟨rfl,rfl,rfl,rfl,rfl,rfl,rfl,rfl⟩
 obtain⟨i,j,l,m,a5,a6,a7,r⟩:=g;refine⟨⟨by rw[i];exact C.an,by rw[j];exact C.ag,by rw[l];exact C.key,by rw[m];exact C.me,C.cl,C.said,by rw[a5];exact C.next,by rw[d];exact C.out,by rw[e];exact C.aJ,C.gD,⟨λx t f u k v b w=>?_,λp hp=>C.fl.back p ((a p).1 hp),C.fl.fz,C.fl.j8⟩⟩,by rw[a6,a7];exact h.dZ,by rw[a6];exact h.bU,by rw[a6,a7,r];exact h.due,h.dl,h.rd,h.sl⟩
 rw[d];obtain q|⟨p,hp,q⟩:=C.fl.told x t f u k v b w
 exact .inl q;exact .inr ⟨p,(a p).2 hp,q⟩
theorem OJ(h:dI s Y n)(hs:bZ s n)(a:n<=100000)(code:Int)(d:0<=code):(Y.close code).1=(aQ.close (.aD s) code).1/\Rel (aQ.close (.aD s) code).2 (Y.close code).2 n:=by
 have b:¬Y.closed≠0:=λe=>e h.c.cl
 unfold aj.close aQ.close;rw[ah b];by_cases c:4611686018427387903<code;simp only[az c]
 exact⟨by first|rfl|trivial,h⟩
 simp only[ah c]
 exact⟨by first|rfl|trivial,zk h.c hs a (by omega) (by omega) rfl rfl (by show Y.said=_;rw[h.c.said];rfl) rfl rfl rfl rfl⟩
theorem OK(h:jH q t):dI (Sd.new q t L B) (aj.new q t L B) 0:=by
 have b:0<=t:=by unfold jH at h;omega
 refine⟨⟨rfl,rfl,rfl,rfl,rfl,rfl,rfl,λk _=>fZ.new,λk _=>je.new,λk _=>⟨rfl,rfl,by simp[aj.new,aL.new],by simp[aj.new,aL.new],by simp[aj.new,aL.new]⟩,⟨λx a=>(by cases a),λp hp=>(by cases hp),λx a=>(by cases a),λx a=>(by cases a)⟩⟩,⟨rfl,rfl,rfl,by simp[Sd.new],λn c=>absurd c (fM n)⟩,⟨bh.nil,λr e=>(by cases e),rfl,rfl,aP _,λd hd=>absurd hd (fM d)⟩,λd hd=>(by cases hd),aP _,λk _=>by simp[aj.new,aL.new];exact b,by simp[aj.new]⟩
theorem zp(h:∀x∈L,W8 x):aG (strOfNums L)=L:=by
 unfold aG;rw[strOfNums_data,s9];conv=>rhs;rw[<-List.map_id L]
 apply xi;intro x a;have:=h x a;unfold W8 at this;simp only[Function.comp,id,UInt8.toNat_ofNat']
 omega
theorem OX{a b:ByteArray}(h:aG a=aG b):a=b:=by rw[<-wQ a,<-wQ b,h]
theorem Eh{a:List Fr}(b:∀f∈a,f.ok/\cU f/\(f.ranges.length:Int)<=4611686018427387903)(h0:a≠[])(g:a.map gT=a)(c:∀x∈bw a,W8 x)(hl:((bw a).length:Int)<=Y.an-16)(m:Y.an<=300)(h:0<=Y.next/\Y.next<=4611686018427387903)(j:Y.me=0\/Y.me=1)(k:fL a<=30000000):
 wJ Y (strOfNums (dm Y.key Y.me Y.next (bw a))) a:=by
 have l:∀x∈dm Y.key Y.me Y.next (bw a),W8 x:=vP c;have e1:aG (strOfNums (dm Y.key Y.me Y.next (bw a)))=dm Y.key Y.me Y.next (bw a):=zp l;have d:aV Y.next:=by unfold aV;omega
 have e2:bp (dm Y.key Y.me Y.next (bw a))=Y.next:=zl d;have e:dN Y.key Y.me (bp (dm Y.key Y.me Y.next (bw a))) (bT (dm Y.key Y.me Y.next (bw a)))=bw a:=by
  rw[e2,zo];exact Ef _ _ _ _ c
 refine⟨?_,?_,?_,?_,?_,⟨oj.2 h0,λi hi=>?_⟩,k,j,h⟩
 rw[e1,Eg d];omega;rw[strOfNums_size,pK];push_cast;omega;rw[e1];exact e2;rw[e1,e,Ed b h0,g];rw[e1,e];have:mn a i∈a:=by unfold mn;simp[List.getD,eD hi]
 exact(b _ this).2.1
theorem mD.with{o:Ot}{p:Pc}(h:mD o k p G)(x:Int)(b:o.sG=true->x=o.aA):mD {o with aA:=x} k p G:=by
 obtain⟨a,c,d,e⟩|h:=h
 exact .inl ⟨a,c,d,by rw[e,b a]⟩;exact .inr h
structure zq(o:Ot)(r:cV)(k:Nat)(p:Pc)(f:Fr):Prop where
 st:f.stream=(k:Int)
 kind:f.kind=4\/f.kind=5
 k4:f.kind=4->o.sG=true/\r.given=true/\f.offset=r.high/\f.code=r.code/\p.x=⟨0,0⟩
 k5:f.kind=5->o.sG=false/\f.offset=p.x.lo/\aT f=p.x.hi/\DY r f/\0<=p.x.lo/\p.x.hi<=4096
 ok:f.ok/\cU f/\(f.ranges.length:Int)<=4611686018427387903
 nf:gT f=f
 rg:f.ranges=[]
theorem mD.Ei{o:Ot}{r:cV}{p:Pc}(h:mD o k p G)(R:fZ o r)(j:fV o)(B:k<4)(l:0<=o.code/\o.code<=4611686018427387903):zq o r k p G:=by
 have m:=R.sz;have C:=R.hs;obtain⟨b,n,i,rfl⟩|⟨b,n,i,D,E,s,t,rfl⟩:=h
 have a:r.given=true:=by rw[<-R.sg];exact b
 obtain⟨u,F,H⟩:=R.gv a;have v:=R.aA;refine⟨rfl,.inl rfl,λ_=>⟨b,a,v,u,i⟩,λe=>(by simp at e),⟨⟨?_,?_,?_,?_,λq f=>(by cases f)⟩,⟨⟨by simp only;omega,l.2,by simp only;omega,by simp only;omega⟩,⟨λe=>(by simp at e),λe=>(by simp at e)⟩,by simp,by simp⟩,by simp⟩,?_,rfl⟩
 unfold dz;simp only;omega;unfold dz;simp only;omega;unfold aV;simp only;omega;unfold aV;simp only;omega;unfold gT;rfl;have a:r.given=false:=by rw[<-R.sg];exact b
 have w:=j.fr;have I:=R.zi a w;have y:o.en=r.data.size:=by unfold Ot.en;omega
 have hd:strOfNums ((o.h.bytes.drop (p.x.lo-o.h.fr).toNat).take (p.x.hi-p.x.lo).toNat)=r.data.extract p.x.lo.toNat p.x.hi.toNat:=by
  apply OX;have z:∀x∈(o.h.bytes.drop (p.x.lo-o.h.fr).toNat).take (p.x.hi-p.x.lo).toNat,W8 x:=λx A=>by
   have:=iG (iS A);rw[R.lA a]at this;exact qg _ x (iG this)
  rw[zp z,R.lA a,sX];unfold aG;rw[wY,Array.toList_extract,List.extract_eq_take_drop,List.map_take,List.map_drop];congr 1;omega;congr 1;omega
 have g:(strOfNums ((o.h.bytes.drop (p.x.lo-o.h.fr).toNat).take (p.x.hi-p.x.lo).toNat)).size=(p.x.hi-p.x.lo).toNat:=by
  rw[strOfNums_size,ct,dF];omega
 have d:aT (⟨5,k,p.x.lo,0,p.e,strOfNums ((o.h.bytes.drop (p.x.lo-o.h.fr).toNat).take (p.x.hi-p.x.lo).toNat),[]⟩:Fr)=p.x.hi:=by
  unfold aT;simp only;rw[g];omega
 refine⟨rfl,.inr rfl,λe=>(by simp at e),λ_=>⟨b,rfl,d,⟨a,by simp only;omega,by rw[d];omega,?_,?_,λe=>?_,m⟩,by omega,by omega⟩,⟨⟨?_,?_,?_,?_,λq f=>(by cases f)⟩,⟨⟨by simp only;omega,by simp,by simp only;omega,by simp only;omega⟩,⟨λe=>(by simp at e),λ_=>by simp only;rw[g];omega⟩,by simp,by simp⟩,by simp⟩,?_,rfl⟩
 rw[d,hd];rw[d];simp only
 rw[s,y,R.se a];by_cases c:p.x.hi=(r.data.size:Int)
 rw[bK c];simp[c];rw[bI c];have:(p.x.hi==(r.data.size:Int))=false:=by simpa using c
 rw[this];simp only at e⊢;rw[g]at e;obtain q|q:=t
 omega;exact q;unfold dz;simp only;omega;unfold dz;simp only;omega;unfold aV;simp only;omega;unfold aV;simp only;omega;unfold gT;rfl
theorem OY(t:k<4):∀(L:Told)(m:aj),fZ {f with aA:=(m.outs k).high} (m.outs k)->fV f->(0<=f.code/\f.code<=4611686018427387903)->(f.sG=true->(m.outs k).high=f.aA)->(∀z∈L,mD f k z.1 z.2)->
 (L.map (·.2)).foldl aj.dH m={m with outs:=ai m.outs k {m.outs k with high:=dd f (m.outs k).high L}}/\∀j,j<L.length->rh (((L.map (·.2)).take j).foldl aj.dH m) (yZ (L.map (·.2)) j):=by
 intro L;induction L with
 |nil=>
  intro m R c d hs g;refine⟨?_,λj h=>by simp at h⟩
  have e:dd f (m.outs k).high []=(m.outs k).high:=by unfold dd mE;simp
  rw[e];show m={m with outs:=ai m.outs k (m.outs k)}
  rw[ml]
 |cons z L u=>
  intro m R c d hs g;have v:=(g z (by simp)).with (m.outs k).high hs;have F:=v.Ei R (c.same rfl) t d;have i:z.2.stream.toNat=k:=by rw[F.st];simp
  have w:rh m z.2:=by
   refine⟨by obtain q|q:=F.kind;(·exact .inr (.inl q));(·exact .inr (.inr q)),λe=>?_,λe=>?_,λe=>?_⟩
   obtain q|q:=F.kind<;>omega
   obtain⟨r,b,l,x,-⟩:=F.k4 e;rw[i];exact⟨by rw[F.st];omega,by rw[F.st];omega,b,by rw[l];exact((R.gv b).2.1).symm,x⟩
   rw[i];exact⟨by rw[F.st];omega,by rw[F.st];omega,(F.k5 e).2.2.2.1⟩
  have s:m.dH z.2={m with outs:=ai m.outs k {m.outs k with high:=dd f (m.outs k).high [z]}}:=by
   unfold aj.dH dd mE;obtain q|q:=F.kind
   rw[ah (by omega),ah (by omega)];have:=(F.k4 q).1;have a:f.sG=true:=this;rw[az a];show m={m with outs:=ai m.outs k (m.outs k)}
   rw[ml];rw[ah (by omega),az q,i];have a:f.sG=false:=(F.k5 q).1;rw[ah (by rw[a];simp)];unfold cV.qY;rw[(F.k5 q).2.2.1];simp only[mh,List.foldl_nil]
  have n:((m.dH z.2).outs k)={m.outs k with high:=dd f (m.outs k).high [z]}:=by rw[s];simp only[bk]
  have p:((m.dH z.2).outs k).high=dd f (m.outs k).high [z]:=by rw[n]
  have A:fZ {f with aA:=((m.dH z.2).outs k).high} ((m.dH z.2).outs k):=by
   rw[p,n];have G:(m.outs k).high<=dd f (m.outs k).high [z]/\dd f (m.outs k).high [z]<=(m.outs k).data.size:=by
    have H:=R.hs;unfold dd mE;obtain q|q:=F.kind
    rw[az (show f.sG=true from(F.k4 q).1)];omega;have a:f.sG=false:=(F.k5 q).1;rw[ah (by rw[a];simp)];have:=(F.k5 q).2.2.2.1.en;rw[(F.k5 q).2.2.1]at this;simp only[mh,List.foldl_nil]
    omega
   refine⟨R.af,R.ck,R.fr,R.sg,R.se,rfl,λe=>?_,R.lA,R.sz,R.rj,by have:=R.hs;show 0<=dd f (m.outs k).high [z]/\dd f (m.outs k).high [z]<=((m.outs k).data.size:Int);omega,R.cb⟩
   have e2:(m.outs k).given=true:=e;obtain⟨r,b,l⟩:=R.gv e2;refine⟨r,?_,l⟩
   show(m.outs k).end_=dd f (m.outs k).high [z];have B:f.sG=true:=R.sg.trans e2;unfold dd;rw[az B];exact b
  obtain⟨C,D⟩:=u (m.dH z.2) A c d (λe=>by rw[p];unfold dd;rw[az e];exact hs e) (λy E=>g y (by simp[E]));refine⟨?_,λj h=>?_⟩
  rw[ki,mh,C,p,yQ,n,s];simp only[List.singleton_append,qR]
  cases j with
  |zero=>exact w
  |succ j=>
   rw[ki,List.take_succ_cons,mh];exact D j (by simpa using h)
theorem OZ(b:G.ok)(g:cU G)(h:(G.ranges.length:Int)<=4611686018427387903):∀x∈da G,W8 x:=by
 obtain⟨⟨b1,b2,m,n⟩,⟨i,j⟩,p,q⟩:=g;have c:dS G.offset:=⟨b.2.2.1.1,b1⟩
 have e:dS G.code:=⟨b.2.2.2.1.1,b2⟩
 have f:dS G.stream:=by unfold dS;omega
 intro x a;unfold da at a;split at a;rw[cS.1 a];unfold W8;omega;split at a;rw[cS.1 a];unfold W8;omega;split at a;rename_i k;obtain rfl|a:=fk.1 a
 unfold W8;omega;unfold fS at a;have d:=i k;obtain a|a:=bQ.1 a
 exact Fj b.2.2.2.2 d h x a;exact zV b.2.2.2.2 d _ (by have:=d.1;omega) x a;split at a;obtain rfl|a:=fk.1 a
 unfold W8;omega;obtain a|a:=bQ.1 a
 obtain a|a:=bQ.1 a
 exact mS f x a;exact mS e x a;exact mS c x a;split at a;rename_i l;obtain rfl|a:=fk.1 a
 unfold W8;split<;>omega;obtain a|a:=bQ.1 a
 obtain a|a:=bQ.1 a
 obtain a|a:=bQ.1 a
 exact mS f x a;exact mS c x a;refine mS ?_ x a;have:=j l;have:=c.1;unfold dS;omega;exact qg _ x a;obtain rfl|a:=fk.1 a
 unfold W8;omega;exact mS e x a
theorem Ej:∀{b:List Fr},(∀f∈b,f.ok/\cU f/\(f.ranges.length:Int)<=4611686018427387903)->∀x∈bw b,W8 x:=by
 intro b;induction b with
 |nil=>intro _ x a;cases a
 |cons f b c=>
  intro h x a;have e2:bw (f::b)=da f++bw b:=rfl;rw[e2]at a;obtain a|a:=bQ.1 a
  exact OZ (h f (by simp)).1 (h f (by simp)).2.1 (h f (by simp)).2.2 x a;exact c (λg d=>h g (by simp[d])) x a
theorem O0:∀a:List Fr,(∀f∈a,f.ranges=[]/\(f.kind=4\/f.kind=5)/\gT f=f)->fL a<=26*(bw a).length:=by
 intro a;induction a with
 |nil=>intro _;simp[fL]
 |cons f a b=>
  intro h;obtain⟨c,d,j⟩:=h f (by simp);have i:=b (λg k=>h g (by simp[k]));have e:fL (f::a)=lL f+fL a:=rfl;have e2:bw (f::a)=da f++bw a:=rfl;rw[e,e2,bH];have l:lL f<=26*(da f).length:=by
   unfold lL da;rw[c];obtain q|q:=d
   rw[ah (by omega),ah (by omega),ah (by omega),az q];have hd:f.data.size=0:=by
    rw[<-j];unfold gT;rw[ah (by omega),ah (by omega),ah (by omega),az q];rfl
   simp only[fB,dq]
   omega;rw[ah (by omega),ah (by omega),ah (by omega),ah (by omega),az q];simp only[fB,dq,bH,fu]
   omega
  omega
theorem O1(h:dI s Y n)(D:∀k,k<4->fV (s.out k))(E:∀k,k<4->0<=(s.out k).code/\(s.out k).code<=4611686018427387903)(bj:64<=s.an/\s.an<=300)(br:0<=s.count/\s.count<=90000000)(hn:n<=100000)(m:k<4){L:Told}(M:L≠[])(bx:((bw (L.map (·.2))).length:Int)<=s.an-16)(G:∀z∈L,mD (s.out k) k z.1 z.2)(tick:Int):
 qz Y (strOfNums (dm s.key (aS s.first) s.count (bw (L.map (·.2))))) (L.map (·.2))/\dI {s with count:=s.count+1,aK:=s.aK++[⟨s.count,tick,k,L.map (·.1)⟩],out:=ai s.out k {s.out k with aA:=dd (s.out k) (s.out k).aA L}} (Y.jJ (L.map (·.2))) n:=by
 have C:=h.c;have R:=C.out k m;obtain⟨d1,-,d3⟩:=C.aS;have bz:=C.next;have bM:=C.an;have hF:∀z∈L,zq (s.out k) (Y.outs k) k z.1 z.2:=λz a=>(G z a).Ei R (D k m) m (E k m)
 obtain⟨N,O⟩:=exq (L.map (·.2));have b0:∀f∈N,∃z∈L,z.2=f:=λf g=>by rw[O]at g;exact eQ.1 g
 have iZ:=h.sl;have b3:=h.dl;obtain⟨P,A⟩:=OY m L {Y with next:=Y.next+1} (f:=s.out k) (by show fZ {s.out k with aA:=(Y.outs k).high} (Y.outs k);rw[<-R.aA];exact R) (D k m) (E k m) (λ_=>R.aA.symm) G;have T:wJ Y (strOfNums (dm s.key (aS s.first) s.count (bw (L.map (·.2))))) (L.map (·.2)):=by
  rw[<-d1,<-C.key,<-C.next];refine Eh (λf g=>?_) (by simpa using M) ?_ (Ej (λf g=>?_)) (by omega) (by omega) (by omega) d3 ?_;obtain⟨z,a,rfl⟩:=eQ.1 g;exact(hF z a).ok;rw[s9];apply xi;intro z a;exact(hF z a).nf;obtain⟨z,a,rfl⟩:=eQ.1 g;exact(hF z a).ok;have:=O0 (L.map (·.2)) (λf g=>by obtain⟨z,a,rfl⟩:=eQ.1 g;exact⟨(hF z a).rg,(hF z a).kind,(hF z a).nf⟩);omega
 refine⟨⟨T,λj r=>?_,by omega,by omega⟩,?_⟩
 rw[dA]at r;exact A j r;have U:Y.jJ (L.map (·.2))={Y with next:=Y.next+1,outs:=ai Y.outs k {Y.outs k with high:=dd (s.out k) (Y.outs k).high L},aA:=Y.aA++[(Y.next,L.map (·.2))]}:=by
  unfold aj.jJ;rw[P]
 rw[U];obtain⟨S,t⟩:=exq (dd (s.out k) (Y.outs k).high L);have V:dd (s.out k) (s.out k).aA L=S:=by rw[t,R.aA]
 rw[V,<-t];have b4:(Y.outs k).high<=S/\S<=(Y.outs k).data.size:=by
  rw[t];unfold dd;have W:=R.hs;split;omega;unfold mE;have X:∀(Q:Told),(∀z∈Q,zq (s.out k) (Y.outs k) k z.1 z.2)->(s.out k).sG=false->∀x,x<=((Y.outs k).data.size:Int)->x<=Q.foldl (λY y=>max Y y.1.x.hi) x/\Q.foldl (λY y=>max Y y.1.x.hi) x<=((Y.outs k).data.size:Int):=λQ=>by
   induction Q with
   |nil=>intro _ _ x d;exact⟨cW _,d⟩
   |cons z Q ih=>
    intro H u x d;have a:=H z (by simp);have l:z.2.kind=5:=by
     obtain q|q:=a.kind
     have:=(a.k4 q).1;rw[u]at this;cases this;exact q
    have B:=(a.k5 l).2.2.2.1.en;rw[(a.k5 l).2.2.1]at B;obtain⟨i1,i2⟩:=ih (λy hy=>H y (by simp[hy])) u (max x z.1.x.hi) (by omega);rw[mh];exact⟨by omega,i2⟩
  rename_i u;exact X L hF (by simpa using u) _ W.2
 have a0:(Y.outs k).given=true->S=(Y.outs k).high:=λe=>by
  rw[t];unfold dd;rw[az (R.sg.trans e)]
 refine⟨⟨C.an,C.ag,C.key,C.me,C.cl,C.said,by show Y.next+1=s.count+1;omega,λj r=>?_,C.aJ,C.gD,⟨λx d f g j r b I=>?_,λp hp q K b v w=>?_,λx d f g l h0=>?_,λx d f g=>?_⟩⟩,h.dZ,h.bU,h.due,h.dl,h.rd,?_⟩
 by_cases e:j=k;subst e;show fZ (ai s.out j _ j) (ai Y.outs j _ j);rw[bk,bk];refine⟨R.af,R.ck,R.fr,R.sg,R.se,rfl,λe=>?_,R.lA,R.sz,R.rj,?_,R.cb⟩
 have e2:(Y.outs j).given=true:=e;obtain⟨a1,a2,a3⟩:=R.gv e2;exact⟨a1,by show(Y.outs j).end_=S;rw[a0 e2];exact a2,a3⟩
 have:=R.hs;show 0<=S/\S<=((Y.outs j).data.size:Int);omega;show fZ (ai s.out k _ j) (ai Y.outs k _ j);rw[bl _ _ e,bl _ _ e];exact C.out j r;have a4:(ai s.out k {s.out k with aA:=S} j).h.af=(s.out j).h.af:=by
  by_cases e:j=k;subst e;rw[bk];rw[bl _ _ e]
 show Sm (ai s.out k {s.out k with aA:=S} j).h.af b\/_;rw[a4];obtain d|d:=bQ.1 d
 obtain q|⟨p,hp,q⟩:=C.fl.told x d f g j r b I
 exact .inl q;refine .inr ⟨p,?_,q⟩;obtain hp|hp:=bQ.1 hp
 exact iH _ (iH _ hp);exact jO _ hp;rw[cS.1 d]at g⊢;obtain⟨z,a,rfl⟩:=eQ.1 g;have F:=hF z a;obtain⟨t1,t2,t3,t4,t5⟩:=I;have a8:k=j:=by rw[F.st]at t3;simpa using t3
 subst a8;refine .inr ⟨⟨s.count,tick,k,L.map (·.1)⟩,iH _ (jO _ (by simp)),by show s.count=Y.next;omega,by simp,z.1,oR a,?_⟩;have i:=F.k5 t1;rw[i.2.1]at t4;rw[i.2.2.1]at t5;exact⟨t4,t5⟩
 have a9:p∈s.aK++s.lost\/p=⟨s.count,tick,k,L.map (·.1)⟩:=by
  obtain hp|hp:=bQ.1 hp
  obtain hp|hp:=bQ.1 hp
  exact .inl (iH _ hp);exact .inr (cS.1 hp);exact .inl (jO _ hp)
 obtain hp|rfl:=a9
 obtain⟨x,d,A⟩:=C.fl.back p hp q K b v w;exact⟨x,iH _ d,A⟩
 obtain⟨z,a,rfl⟩:=eQ.1 K;have F:=hF z a;have l:z.2.kind=5:=by
  obtain q|q:=F.kind
  have:=(F.k4 q).2.2.2.2;rw[this]at v w;simp only at v w;omega;exact q
 have i:=F.k5 l;refine⟨(Y.next,L.map (·.2)),jO _ (by simp),by show Y.next=s.count;omega,z.2,oR a,l,?_,by rw[F.st],?_,?_⟩
 have e1:=i.2.1;have e2:=i.2.2.1;unfold aT at e2;omega;rw[i.2.1];exact v;rw[i.2.2.1];exact w;have bb:(ai Y.outs k {Y.outs k with high:=S} f.stream.toNat).data=(Y.outs f.stream.toNat).data:=by
  by_cases e:f.stream.toNat=k;rw[e,bk];rw[bl _ _ e]
 show aT f<=((ai Y.outs k {Y.outs k with high:=S} f.stream.toNat).data.size:Int);rw[bb];obtain d|d:=bQ.1 d
 exact C.fl.fz x d f g l h0;rw[cS.1 d]at g;obtain⟨z,a,rfl⟩:=eQ.1 g;have F:=hF z a;rw[F.st];exact(F.k5 l).2.2.2.1.en;obtain d|d:=bQ.1 d
 exact C.fl.j8 x d f g;rw[cS.1 d]at g;obtain⟨z,a,rfl⟩:=eQ.1 g;have F:=hF z a;intro l h0;have i:=F.k5 l;have B:=i.2.2.1;unfold aT at B;rw[F.st,i.2.1];have e1:=i.2.1;exact⟨by omega,by omega,i.2.2.2.2.1,by omega⟩
 show((Y.aA++[(Y.next,L.map (·.2))]).length:Int)<=Y.next+1;rw[bH];simp only[List.length_singleton]
 omega
def nm:aj->List (List Int)->List (List Fr)->Prop
 |_,[],[]=>True
 |m,p::ps,f::a=>qz m (strOfNums p) f/\nm (m.jJ f) ps a
 |_,_,_=>False
theorem nm.app:∀{ps:List (List Int)}{a:List (List Fr)}{m:aj}{c:List (List Int)}{d:List (List Fr)},nm m ps a->nm (m.dW a) c d->nm m (ps++c) (a++d):=by
 intro ps;induction ps with
 |nil=>
  intro a m c d b e;cases a with
  |nil=>exact e
  |cons f a=>exact b.elim
 |cons p ps g=>
  intro a m c d b e;cases a with
  |nil=>exact b.elim
  |cons f a=>exact⟨b.1,g b.2 e⟩
theorem Ek(m:aj)(a b:List (List Fr)):m.dW (a++b)=(m.dW a).dW b:=by unfold aj.dW;rw[List.foldl_append]
theorem nm.each:∀{ps:List (List Int)}{a:List (List Fr)}{m:aj},nm m ps a->a.length=ps.length/\∀j,j<ps.length->qz (m.dW (a.take j)) (eJ (ps.map strOfNums) j) (a.getD j []):=by
 intro ps;induction ps with
 |nil=>
  intro a m h;cases a with
  |nil=>exact⟨rfl,λj b=>by simp at b⟩
  |cons f a=>exact h.elim
 |cons p ps c=>
  intro a m h;cases a with
  |nil=>exact h.elim
  |cons f a=>
   obtain⟨d,e⟩:=c h.2;refine⟨by simp[d],λj b=>?_⟩
   cases j with
   |zero=>exact h.1
   |succ j=>exact e j (by simpa using b)
structure Em(s:Sd)(n:Nat)(N:Int):Prop where
 arr:∀k,k<4->fV (s.out k)
 code:∀k,k<4->0<=(s.out k).code/\(s.out k).code<=4611686018427387903
 an:64<=s.an/\s.an<=300
 bn:0<=s.count/\s.count+N<=90000000
theorem O2(q:n<=100000)(r:k<4)(tick:Int):∀(E:List Told)(s:Sd)(m:aj),dI s m n->Em s n E.length->(∀L∈E,L≠[]/\((bw (L.map (·.2))).length:Int)<=s.an-16/\∀z∈L,mD (s.out k) k z.1 z.2)->
 nm m (jx s.key (aS s.first) s.count (E.map (·.map (·.2)))) (E.map (·.map (·.2)))/\
 dI {s with out:=ai s.out k {s.out k with aA:=dd (s.out k) (s.out k).aA E.flatten},aK:=s.aK++mF tick k s.count (E.map (·.map (·.1))),count:=s.count+E.length} (m.dW (E.map (·.map (·.2)))) n:=by
 intro E;induction E with
 |nil=>
  intro s m h a f;refine⟨trivial,?_⟩
  have e1:dd (s.out k) (s.out k).aA ([]:List Told).flatten=(s.out k).aA:=by unfold dd mE;simp
  rw[e1];show dI {s with out:=ai s.out k (s.out k),aK:=s.aK++[],count:=s.count+((0:Nat):Int)} m n;rw[ml,ot,show s.count+((0:Nat):Int)=s.count by omega];exact h
 |cons L E t=>
  intro s m h a f;obtain⟨u,v,w⟩:=f L (by simp);have g:=a.bn;simp only[dq]at g;push_cast at g;obtain⟨x,p2⟩:=O1 h a.arr a.code a.an ⟨g.1,by omega⟩ q r u v w tick;obtain⟨s1,b⟩:∃s1:Sd,s1={s with count:=s.count+1,aK:=s.aK++[(⟨s.count,tick,k,L.map (·.1)⟩:Pk)],out:=ai s.out k {s.out k with aA:=dd (s.out k) (s.out k).aA L}}:=⟨_,rfl⟩
  rw[<-b]at p2;have d:s1.out k={s.out k with aA:=dd (s.out k) (s.out k).aA L}:=by rw[b];simp only[bk]
  have i:∀j,j≠k->s1.out j=s.out j:=λj c=>by rw[b];simp only[bl _ _ c]
  have y:Em s1 n E.length:=by
   refine⟨λj c=>?_,λj c=>?_,by rw[b];exact a.an,by rw[b];show 0<=s.count+1/\s.count+1+_<=_;omega⟩
   by_cases e:j=k;subst e;rw[d];exact(a.arr j c).same rfl;rw[i j e];exact a.arr j c;by_cases e:j=k;subst e;rw[d];exact a.code j c;rw[i j e];exact a.code j c
  obtain⟨l,p⟩:=t s1 (m.jJ (L.map (·.2))) p2 y (λM A=>by
   obtain⟨B,C,D⟩:=f M (by simp[A]);refine⟨B,by rw[b];exact C,λz F=>?_⟩
   rw[d];exact(D z F).with _ (λe=>by unfold dd;rw[az e]))
  have G:s1.key=s.key:=by rw[b]
  have H:s1.first=s.first:=by rw[b]
  have k3:s1.count=s.count+1:=by rw[b]
  rw[G,H,k3]at l;refine⟨⟨x,l⟩,?_⟩
  have I:dd (s1.out k) (s1.out k).aA E.flatten=dd (s.out k) (s.out k).aA (L::E).flatten:=by
   rw[d,List.flatten_cons,<-yQ];rfl
  have K:({s1 with out:=ai s1.out k {s1.out k with aA:=dd (s1.out k) (s1.out k).aA E.flatten},aK:=s1.aK++mF tick k s1.count (E.map (·.map (·.1))),count:=s1.count+E.length}:Sd)={s with out:=ai s.out k {s.out k with aA:=dd (s.out k) (s.out k).aA (L::E).flatten},aK:=s.aK++mF tick k s.count ((L::E).map (·.map (·.1))),count:=s.count+(L::E).length}:=by
   rw[I,d,k3];rw[b];simp only[qR,dq,ki,fg]
   congr 1;push_cast;omega
  rw[K]at p;exact p
theorem O3(h:dI s Y n)(hs:bZ s i)(e:n<=100000)(c:i<=100001)(f:s.count+10<=100*i)(hl:s.lost.length+s.aK.length+10<=100*i)(b:k<4):
 ∃d,nm Y (s.pieces k).l d/\dI (s.pieces k).s (Y.dW d) n:=by
 obtain⟨-,E,a,p⟩:=DH hs c f hl k b;obtain⟨R,-⟩:=yR hs c k b;have g:=hs.bn;obtain⟨j,m⟩:=O2 e b s.tick E s Y h ⟨hs.out,hs.code,hs.an,⟨g.1,by omega⟩⟩ a.fr;refine⟨E.map (·.map (·.2)),?_,?_⟩
 have:=a.l;rw[this];exact j;have eq:=R.eq;rw[a.aA,a.aK,a.count]at eq;rw[eq];exact m
structure En(m:aj)(an:Int)(c:List Rg):Prop where
 sr:iI c
 len:((bw [bV c]).length:Int)<=an-16
 l8:c.length<=100
 each:∀r∈c,0<=r.lo/\r.lo<=r.hi/\r.hi<=4611686018427387903/\ue m.bU.l r=true
theorem O4(hn:n<=100000):∀(C:List (List Rg))(s:Sd)(m:aj),dI s m n->(64<=s.an/\s.an<=300)->(0<=s.count/\s.count+C.length<=90000000)->(∀c∈C,En m s.an c)->
 nm m (jx s.key (aS s.first) s.count (C.map λc=>[bV c])) (C.map λc=>[bV c])/\dI {s with count:=s.count+C.length} (m.dW (C.map λc=>[bV c])) n/\(∀d∈(m.dW (C.map λc=>[bV c])).due,d∈m.due/\∀c∈C,m.told c d=false):=by
 intro C;induction C with
 |nil=>
  intro s m h y l t;refine⟨trivial,?_,λd hd=>⟨hd,λc l=>(by cases l)⟩⟩
  show dI {s with count:=s.count+((0:Nat):Int)} m n;rw[show s.count+((0:Nat):Int)=s.count by omega];exact h
 |cons c C E=>
  intro s m h y l t;have X:=h.c;obtain⟨d1,-,d3⟩:=X.aS;have a3:=X.next;have a4:=X.an;have a8:=h.dl;have iZ:=h.sl;have G:=t c (by simp);have z:=l;simp only[dq]at z;push_cast at z;have F:cU (bV c):=⟨⟨by simp[bV],by simp[bV],by simp[bV],by simp[bV]⟩,⟨λ_=>G.sr,λe=>(by simp[bV]at e)⟩,by simp[bV],by simp[bV]⟩
  have H:(bV c).ok:=by
   refine⟨by simp[bV,dz],by simp[bV,dz],by simp[bV,aV],by simp[bV,aV],λr u=>?_⟩
   have:=G.each r u;unfold Rg.ok aV;omega
  have I:((bV c).ranges.length:Int)<=4611686018427387903:=by
   have:=G.l8;show(c.length:Int)<=_;omega
  have A:∀f∈[bV c],f.ok/\cU f/\(f.ranges.length:Int)<=4611686018427387903:=λf a=>by
   rw[cS.1 a];exact⟨H,F,I⟩
  have hl:=G.len;have K:wJ m (strOfNums (dm s.key (aS s.first) s.count (bw [bV c]))) [bV c]:=by
   rw[<-d1,<-X.key,<-X.next];refine Eh A (by simp) ?_ (Ej A) (by omega) (by omega) (by omega) d3 ?_;show[gT (bV c)]=[bV c];rfl;have:=G.l8;show lL (bV c)+0<=30000000;unfold lL;show 25+16*c.length+0+0<=30000000;omega
  have L:rh {m with next:=m.next+1} (bV c):=⟨.inl rfl,λ_ r u=>(G.each r u).2.2.2,λe=>(by simp[bV]at e),λe=>(by simp[bV]at e)⟩
  have M:qz m (strOfNums (dm s.key (aS s.first) s.count (bw [bV c]))) [bV c]:=by
   refine⟨K,λj N=>?_,by omega,by omega⟩
   have O:j=0:=by simpa using N
   subst O;exact L
  have P:m.jJ [bV c]={m with next:=m.next+1,due:=m.due.filter (λd=> !m.told c d),aA:=m.aA++[(m.next,[bV c])]}:=rfl;have v:∀x∈m.aA++[(m.next,[bV c])],∀f∈x.2,(x∈m.aA)\/f.kind=3:=λx g f a=>by
   obtain g|g:=bQ.1 g
   exact .inl g;rw[cS.1 g]at a;rw[cS.1 a];exact .inr rfl
  have Q:dI {s with count:=s.count+1} (m.jJ [bV c]) n:=by
   rw[P];refine⟨⟨X.an,X.ag,X.key,X.me,X.cl,X.said,by show m.next+1=s.count+1;omega,X.out,X.aJ,X.gD,⟨λx g f a k R b B=>?_,λp hp q S b T U=>?_,λx g f a D h0=>?_,λx g f a=>?_⟩⟩,h.dZ,h.bU,λd hd=>h.due d (iy.1 hd).1,?_,h.rd,?_⟩
   obtain q|q:=v x g f a
   exact X.fl.told x q f a k R b B;have:=B.1;omega;obtain⟨x,g,V⟩:=X.fl.back p hp q S b T U;exact⟨x,iH _ g,V⟩
   obtain q|q:=v x g f a
   exact X.fl.fz x q f a D h0;omega;obtain q|q:=v x g f a
   exact X.fl.j8 x q f a;intro D;omega;exact bD (ny _ _) h.dl;show((m.aA++[(m.next,[bV c])]).length:Int)<=m.next+1;rw[bH];simp only[List.length_singleton]
   omega
  obtain⟨W,Y,i3⟩:=E {s with count:=s.count+1} (m.jJ [bV c]) Q y ⟨by show 0<=s.count+1;omega,by show s.count+1+_<=_;omega⟩ (λe i=>by
   have:=t e (by simp[i]);exact⟨this.sr,this.len,this.l8,this.each⟩)
  refine⟨⟨M,W⟩,?_,λd hd=>?_⟩
  have eS:({s with count:=s.count+(((c::C).length:Nat):Int)}:Sd)={s with count:=s.count+1+C.length}:=by
   simp only[dq]
   congr 1;push_cast;omega
  rw[eS];exact Y;obtain⟨w,j2⟩:=i3 d hd;have w:d∈m.due.filter (λd=> !m.told c d):=w;obtain⟨j3,j4⟩:=iy.1 w;refine⟨j3,λe i=>?_⟩
  obtain rfl|i:=fk.1 i
  simpa using j4;exact j2 e i
theorem Eo{r:Rg}:∀j,j<=X.length->(r∈fG X j↔∃i,X.length-j<=i/\i<X.length/\r=⟨(au X i).lo,(au X i).hi-1⟩):=by
 intro j;induction j with
 |zero=>intro _;simp[fG];omega
 |succ j c=>
  intro f;rw[show fG X (j+1)=fG X j++[⟨(au X (X.length-1-j)).lo,(au X (X.length-1-j)).hi-1⟩]from rfl,bQ,c (by omega),cS];constructor;rintro(⟨i,d,b,a⟩|h);exact⟨i,by omega,b,a⟩
  exact⟨X.length-1-j,by omega,by omega,h⟩
  rintro⟨i,d,b,a⟩;by_cases e:i=X.length-1-j;subst e;exact .inr a;exact .inl ⟨i,by omega,b,a⟩
theorem O5(h:dI s Y n)(hs:bZ s k)(z:n<=100000)(A:s.count+10<=100*k)(V:k<=100001):
 ∃u,nm Y s.fW.l u/\dI s.fW.s (Y.dW u) n/\∀d∈(Y.dW u).due,d<s.floor:=by
 obtain⟨-,C,f,W⟩:=DI hs A;have B:=hs.bn;have X:=h.c;have D:∀c∈C,En Y s.an c:=λc g=>by
  obtain⟨f1,f2⟩:=f.fr c g;have w:s.eG=true:=by
   cases ho:s.eG;rw[f.no ho]at g;cases g;rfl
  have E:∀r∈c,∃i,i<s.af.length/\r=⟨(au s.af i).lo,(au s.af i).hi-1⟩:=λr m=>by
   have:r∈C.flatten:=List.mem_flatten.2 ⟨c,g,m⟩;rw[f.all w]at this;obtain⟨i,-,p,j⟩:=(Eo s.af.length (aP _)).1 this;exact⟨i,p,j⟩
  refine⟨f1,f2,?_,λr m=>?_⟩
  have t:c.length<=C.flatten.length:=by
   obtain⟨a,b,rfl⟩:=List.append_of_mem g;simp;omega
  rw[f.all w,lU]at t;have:=hs.c8;omega;obtain⟨i,hi,rfl⟩:=E r m;have v:=oZ hi;have t:=hs.cr _ v;have p:=hs.mC.2 _ v;refine⟨t.1,by simp only;omega,by simp only;omega,?_⟩
  have j:=(Fq (x:=au s.af i) h.bU.ok p).2 (λb F G=>h.bU.all b ⟨_,v,F,G⟩);obtain⟨q,H,I,K⟩:=j;obtain⟨L,M,rfl⟩:=eQ.1 H;simp only[cM]at I K;unfold ue;refine qH.2 ⟨L,M,?_⟩;simp only[mg,nA]
  omega
 obtain⟨N,e,O⟩:=O4 z C s Y h hs.an ⟨B.1,by omega⟩ D;have y:∀d∈(Y.dW (C.map λc=>[bV c])).due,d<s.floor:=λd hd=>by
  obtain⟨P,Q⟩:=O d hd;obtain q|⟨R,S⟩:=h.due d P
  exact q;exfalso;obtain⟨r,m,t,p⟩:=R;obtain⟨i,hi,rfl⟩:=jP.1 m;have er:s.af[i]=au s.af i:=by simp[au,List.getD,hi]
  rw[er]at t p;have T:(⟨(au s.af i).lo,(au s.af i).hi-1⟩:Rg)∈C.flatten:=by
   rw[f.all S];exact(Eo s.af.length (aP _)).2 ⟨i,by omega,hi,rfl⟩
  obtain⟨c,g,U⟩:=List.mem_flatten.1 T;have:=Q c g;unfold aj.told at this;rw[oh]at this;have j:bL c d=true:=by
   unfold bL;refine qH.2 ⟨_,U,?_⟩;simp only[mg,nA]
   omega
  rw[this.2]at j;cases j
 refine⟨C.map λc=>[bV c],by rw[f.l];exact N,?_,y⟩
 rw[f.st];exact⟨⟨e.c.an,e.c.ag,e.c.key,e.c.me,e.c.cl,e.c.said,e.c.next,e.c.out,e.c.aJ,e.c.gD,⟨e.c.fl.told,e.c.fl.back,e.c.fl.fz,e.c.fl.j8⟩⟩,e.dZ,e.bU,λd hd=>.inl (y d hd),e.dl,e.rd,e.sl⟩
theorem O6(m:aj)(a:List Fr):∀d∈(m.jJ a).due,d∈m.due:=by
 have b:∀(m:aj)(f:Fr),∀d∈(m.dH f).due,d∈m.due:=λm f d hd=>by
  unfold aj.dH at hd;split at hd;exact(iy.1 hd).1;split at hd;exact hd;exact hd
 have c:∀(q:List Fr)(m:aj),∀d∈(q.foldl aj.dH m).due,d∈m.due:=λq=>by
  induction q with
  |nil=>intro m d hd;exact hd
  |cons f q e=>intro m d hd;exact b m f d (e _ d hd)
 exact λd hd=>c a {m with next:=m.next+1} d hd
theorem O7:∀(a:List (List Fr))(m:aj),(m.dW a).dZ=m.dZ:=by
 intro a;induction a with
 |nil=>intro m;rfl
 |cons f a b=>
  intro m;show((m.jJ f).dW a).dZ=m.dZ;rw[b];exact(D0 f {m with next:=m.next+1}).2.2.2.1
theorem O8:∀(a:List (List Fr))(m:aj),∀d∈(m.dW a).due,d∈m.due:=by
 intro a;induction a with
 |nil=>intro m d hd;exact hd
 |cons f a b=>intro m d hd;exact O6 m f d (b _ d hd)
theorem O9(h:dI s Y n)(hs:bZ s n)(b:n<=100000):∀k,k<=4->∃a,nm Y (cQ s k).2 a/\dI (cQ s k).1 (Y.dW a) n/\∀d∈(Y.dW a).due,d<s.floor:=by
 intro k;induction k with
 |zero=>
  intro _;have l:=hs.bn;exact O5 h (hs.mono (b9 n)) b (by push_cast;omega) (by omega)
 |succ k e=>
  intro m;obtain⟨a,e1,e2,f⟩:=e (by omega);obtain⟨g,p,q,-,-,-⟩:=DJ hs b k (by omega);have r:k<=3:=by omega
  obtain⟨c,i,j⟩:=O3 e2 g b (by omega) (by push_cast;omega) (by omega) (k:=k) (by omega);refine⟨a++c,e1.app i,?_,λd hd=>?_⟩
  rw[Ek];exact j;rw[Ek]at hd;exact f d (O8 c _ d hd)
theorem Pb(h:dI s Y n)(hs:bZ s n)(e:n<=100000):
 ∃a,zd Y (s.dh.2.map strOfNums) a/\dI s.dh.1 {Y.dW a with due:=[]} n:=by
 obtain⟨a,e1,e2,f⟩:=O9 h hs e 4 (aP _);obtain⟨g,i⟩:=e1.each;refine⟨a,⟨by rw[dA];exact g,λj b=>i j (by rw[dA]at b;exact b),λd hd=>?_,h.c.cl⟩,?_⟩
 rw[O7,h.dZ.fl];exact f d hd;exact⟨e2.c.due [],e2.dZ,e2.bU,λd hd=>(by cases hd),jh _,e2.rd,e2.sl⟩
noncomputable def aj.ask(m:aj)(q:fY):Rs×aj:=
 if q.op=1 then(⟨(m.write q.stream q.data).2.1,-1,(m.write q.stream q.data).1,0,[],[]⟩,(m.write q.stream q.data).2.2)
 else if q.op=2 then(⟨(m.finish q.stream).1,-1,0,0,[],[]⟩,(m.finish q.stream).2)
 else if q.op=3 then(⟨(m.giveUp q.stream q.code).1,-1,0,0,[],[]⟩,(m.giveUp q.stream q.code).2)
 else if q.op=6 then(⟨(m.eI (aG q.data)).1,(m.eI (aG q.data)).2.1,0,0,[],[]⟩,(m.eI (aG q.data)).2.2)
 else if q.op=7 then(⟨(m.read q.stream q.n).2.2.2.1,-1,(m.read q.stream q.n).2.1,(m.read q.stream q.n).2.2.1,(m.read q.stream q.n).1,[]⟩,(m.read q.stream q.n).2.2.2.2)
 else if q.op=8 then(⟨(m.close q.code).1,-1,0,0,[],[]⟩,(m.close q.code).2)
 else if q.op=9 then(⟨(m.af q.stream).2,-1,(m.af q.stream).1,0,[],[]⟩,m)
 else(⟨0,-1,0,0,[],[]⟩,m)
theorem Rel.mono{st:aQ}(h:Rel st Y n)(a:n<=k):Rel st Y k:=by
 cases st with
 |aD s=>exact dI.mono h a
 |shut aF l=>exact h
theorem Pd(h:Y.closed≠0)(k:Int):Y.of k=9:=by unfold aj.of;rw[az h]
theorem Pe{l:List (List Int)}(h:wL p l Y)(q:fY)(d:q.op≠5):(Y.ask q).1=(aQ.do (.shut p l) q).1/\(Y.ask q).2=Y/\(aQ.do (.shut p l) q).2=.shut p l:=by
 have c:Y.closed≠0:=by rw[h.cl];exact h.w0
 have a:=Pd c q.stream;have e:Y.write q.stream q.data=(0,9,Y):=by unfold aj.write;rw[az (by rw[a];simp),a]
 have f:Y.finish q.stream=(9,Y):=by unfold aj.finish;rw[az (by rw[a];simp),a]
 have g:Y.giveUp q.stream q.code=(9,Y):=by unfold aj.giveUp;rw[az (by rw[a];simp),a]
 have i:Y.eI (aG q.data)=(9,-1,Y):=by unfold aj.eI;rw[az c]
 have hd:Y.read q.stream q.n=([],0,0,9,Y):=by unfold aj.read;rw[az (by rw[a];simp),a]
 have j:Y.close q.code=(9,Y):=by unfold aj.close;rw[az c]
 have k:Y.af q.stream=(0,9):=by unfold aj.af;rw[az (by rw[a];simp),a]
 unfold aj.ask aQ.do;rw[e,f,g,i,hd,j,k];by_cases c1:q.op=1;rw[az c1,az c1];exact⟨rfl,rfl,rfl⟩
 rw[ah c1,ah c1];by_cases c2:q.op=2;rw[az c2,az c2];exact⟨rfl,rfl,rfl⟩
 rw[ah c2,ah c2];by_cases c3:q.op=3;rw[az c3,az c3];exact⟨rfl,rfl,rfl⟩
 rw[ah c3,ah c3];by_cases c4:q.op=4;rw[az c4,ah (by omega),ah (by omega),ah (by omega),ah (by omega)];exact⟨rfl,rfl,rfl⟩
 rw[ah c4,ah d];by_cases c6:q.op=6;rw[az c6,az c6];exact⟨rfl,rfl,rfl⟩
 rw[ah c6,ah c6];by_cases c7:q.op=7;rw[az c7,az c7];exact⟨rfl,rfl,rfl⟩
 rw[ah c7,ah c7];by_cases c8:q.op=8;rw[az c8,az c8];exact⟨rfl,rfl,rfl⟩
 rw[ah c8,ah c8];by_cases b:q.op=9;rw[az b,az b];exact⟨rfl,rfl,rfl⟩
 rw[ah b,ah b];exact⟨rfl,rfl,rfl⟩
theorem Pf{st:aQ}(h:Rel st Y n)(f:dY n st)(g:n<=40000)(q:fY)(i:aV q.code)(e:q.op≠5):(Y.ask q).1=(st.do q).1/\Rel (st.do q).2 (Y.ask q).2 (n+1):=by
 cases st with
 |shut aF l=>
  obtain⟨e1,e2,j⟩:=Pe h q e;rw[e2,j];exact⟨e1,h⟩
 |aD s=>
  have h:dI s Y n:=h;have hs:bZ s n:=f;unfold aj.ask aQ.do;by_cases c1:q.op=1;rw[az c1,az c1];obtain⟨a,b,c⟩:=OD h hs q.stream q.data;exact⟨by rw[a,b],c.mono (by omega)⟩
  rw[ah c1,ah c1];by_cases c2:q.op=2;rw[az c2,az c2];obtain⟨a,b⟩:=OE h q.stream;exact⟨by rw[a],b.mono (by omega)⟩
  rw[ah c2,ah c2];by_cases c3:q.op=3;rw[az c3,az c3];obtain⟨a,b⟩:=OF h q.stream q.code;exact⟨by rw[a],b.mono (by omega)⟩
  rw[ah c3,ah c3];by_cases c4:q.op=4;rw[az c4,ah (by omega),ah (by omega),ah (by omega),ah (by omega)];exact⟨rfl,(OH h).mono (by omega)⟩
  rw[ah c4,ah e];by_cases c6:q.op=6;rw[az c6,az c6];obtain⟨a,b,c⟩:=OC h hs g (qg q.data);exact⟨by show(⟨_,_,0,0,[],[]⟩:Rs)=⟨_,_,0,0,[],[]⟩;rw[a,b];rfl,c⟩
  rw[ah c6,ah c6];by_cases c7:q.op=7;rw[az c7,az c7];obtain⟨a,b,c,k,a5⟩:=OG h hs q.stream q.n;exact⟨by rw[a,b,c,k],a5⟩
  rw[ah c7,ah c7];by_cases c8:q.op=8;rw[az c8,az c8];obtain⟨a,b⟩:=OJ h hs (by omega) q.code i.1;exact⟨by rw[a],b.mono (by omega)⟩
  rw[ah c8,ah c8];by_cases d:q.op=9;rw[az d,az d];exact⟨by rw[Ea h q.stream],h.mono (by omega)⟩
  rw[ah d,ah d];exact⟨rfl,h.mono (by omega)⟩
def jy(i:aL)(m:Int):Prop:=i.given=true\/(0<=m/\i.there.getD m.toNat false=true)
structure OI(o:cV):Prop where
 hs:0<=o.high/\o.high<=o.data.size
 gv:o.given=true->o.end_=o.high
 sz:o.data.size<=4096
structure kY(o a:cV):Prop where
 sz:o.data.size<=a.data.size
 mG:∀m:Nat,m<o.data.size->(aG a.data).getD m 0=(aG o.data).getD m 0
 fin:o.finished=true->a.finished=true/\a.data.size=o.data.size
 gv:o.given=true->a.given=true/\a.end_=o.end_/\a.code=o.code
 hi:o.high<=a.high
structure iQ(o:cV)(i:aL):Prop where
 th:∀m:Nat,i.there.getD m false=true->m<o.data.size/\i.data.getD m 0=(aG o.data).getD m 0
 hi:i.high<=o.high
 en:i.ended=true->i.given=false->o.finished=true/\i.end_=o.data.size/\o.high=o.data.size
 gv:i.given=true->o.given=true/\i.end_=o.end_/\i.code=o.code/\i.ended=true
 s1:i.state=1->o.finished=true/\i.read=o.data.size
 s2:i.state=2->i.given=true
 s0:i.state=0\/i.state=1\/i.state=2
structure qA(o:Nat->cV)(f:Fr):Prop where
 kind:f.kind=3\/f.kind=4\/f.kind=5
 k4:f.kind=4->0<=f.stream/\f.stream<4/\(o f.stream.toNat).given=true/\f.offset=(o f.stream.toNat).end_/\f.code=(o f.stream.toNat).code
 k5:f.kind=5->0<=f.stream/\f.stream<4/\0<=f.offset/\aT f<=(o f.stream.toNat).high/\(∀m:Nat,f.offset<=m->(m:Int)<aT f->(aG f.data).getD (m-f.offset.toNat) 0=(aG (o f.stream.toNat).data).getD m 0)/\(f.fin=true->(o f.stream.toNat).finished=true/\aT f=(o f.stream.toNat).data.size)
theorem kY.rfl'(o:cV):kY o o:=⟨aP _,λ_ _=>rfl,λh=>⟨h,rfl⟩,λh=>⟨h,rfl,rfl⟩,cW _⟩
theorem kY.trans{o p q:cV}(h:kY o p)(g:kY p q):kY o q:=
 ⟨bD h.sz g.sz,λm a=>(g.mG m (bY a h.sz)).trans (h.mG m a),λe=>⟨(g.fin (h.fin e).1).1,(g.fin (h.fin e).1).2.trans (h.fin e).2⟩,λe=>⟨(g.gv (h.gv e).1).1,(g.gv (h.gv e).1).2.1.trans (h.gv e).2.1,(g.gv (h.gv e).1).2.2.trans (h.gv e).2.2⟩,Int.le_trans h.hi g.hi⟩
theorem iQ.le{o f:cV}{i:aL}(h:iQ o i)(L:kY o f)(j:OI f):iQ f i:=by
 refine⟨λm k=>?_,Int.le_trans h.hi L.hi,λe g=>?_,λg=>?_,λe=>?_,h.s2,h.s0⟩
 obtain⟨a,b⟩:=h.th m k;exact⟨bY a L.sz,b.trans (L.mG m a).symm⟩
 obtain⟨a,b,c⟩:=h.en e g;obtain⟨d1,d2⟩:=L.fin a;have:=L.hi;have:=j.hs;exact⟨d1,by rw[d2];exact b,by omega⟩
 obtain⟨a,b,c,d⟩:=h.gv g;obtain⟨d1,d2,d3⟩:=L.gv a;exact⟨d1,b.trans d2.symm,c.trans d3.symm,d⟩
 obtain⟨a,b⟩:=h.s1 e;obtain⟨d1,d2⟩:=L.fin a;exact⟨d1,by rw[d2];exact b⟩
theorem qA.le{o j:Nat->cV}(h:qA o G)(L:∀k,k<4->kY (o k) (j k))(ho:∀k,k<4->OI (o k)):qA j G:=by
 refine⟨h.kind,λe=>?_,λe=>?_⟩
 obtain⟨a,b,c,d,g⟩:=h.k4 e;obtain⟨d1,d2,d3⟩:=(L G.stream.toNat (by omega)).gv c;exact⟨a,b,d1,d.trans d2.symm,g.trans d3.symm⟩
 obtain⟨a,b,c,d,g,i⟩:=h.k5 e;have l:G.stream.toNat<4:=by omega
 have f:=L _ l;have t:=(ho _ l).hs;refine⟨a,b,c,Int.le_trans d f.hi,λm n p=>(g m n p).trans (f.mG m (by omega)).symm,λq=>?_⟩
 obtain⟨r,s⟩:=i q;obtain⟨d1,d2⟩:=f.fin r;exact⟨d1,by rw[d2];exact s⟩
theorem Pg{α:Type}(l:List α)(n m:Nat)(d:α):(l++List.replicate n d).getD m d=l.getD m d:=by
 simp only[List.getD,List.getElem?_append]
 split;rfl;rename_i h;rw[nz (l:=l) (by omega),wX];split<;>rfl
theorem Ph{i:aL}(a:fQ i)(h:i.there.getD m false=true):(m:Int)<i.high:=by
 by_cases b:m<i.there.length;have:=a.tl;have:=a.dl;omega;rw[List.getD,nz (by omega)]at h;cases h
theorem iQ.bytes{o:cV}{i:aL}(h:iQ o i)(ho:OI o)(l:fQ i)(h0:0<=G.offset)(z:aT G<=o.high)(hd:∀m:Nat,G.offset<=m->(m:Int)<aT G->(aG G.data).getD (m-G.offset.toNat) 0=(aG o.data).getD m 0)(k:G.fin=true->o.finished=true/\aT G=o.data.size):
 (i.bytes G).1=0/\iQ o (i.bytes G).2/\(∀m,jy i m->jy (i.bytes G).2 m)/\∀m,G.offset<=m->m<aT G->jy (i.bytes G).2 m:=by
 have hs:=ho.hs;have A:=h.hi;have v:i.ended=true->aT G<=i.end_/\(G.fin=true->aT G=i.end_):=λe=>by
  cases j:i.given;obtain⟨a,b,c⟩:=h.en e j;exact⟨by omega,λq=>by rw[b];exact(k q).2⟩
  obtain⟨a,b,c,d⟩:=h.gv j;have:=ho.gv a;exact⟨by omega,λq=>by have:=(k q).2;omega⟩
 have w:i.bad G=false:=by
  unfold aL.bad;have p:(G.fin&&decide (aT G<i.high))=false:=by
   cases q:G.fin;rfl;have:=(k q).2;simp only[Bool.true_and,sP]
   omega
  rw[p,sY];cases e:i.ended;rfl;obtain⟨a,b⟩:=v e;rw[bI (by omega)];cases q:G.fin;rfl;have:=b q;simp[this]
 unfold aL.bytes;rw[ah (by rw[w];decide)];cases j:i.given;rw[ah (by decide)];have x:(i.data++List.replicate ((max i.high (aT G)).toNat-i.data.length) (0:Int)).length=(max i.high (aT G)).toNat:=by
  have:=l.dl;rw[bH,uB];omega
 have r:(i.there++List.replicate ((max i.high (aT G)).toNat-i.data.length) false).length=(max i.high (aT G)).toNat:=by
  have:=l.dl;have:=l.tl;rw[bH,uB];omega
 have B:aT G=G.offset+G.data.size:=rfl;have P:=D4 G.offset.toNat (aG G.data) (i.data++List.replicate ((max i.high (aT G)).toNat-i.data.length) (0:Int),i.there++List.replicate ((max i.high (aT G)).toNat-i.data.length) false) (x.trans r.symm) G.data.size (by rw[r];omega);simp only[Pg]at P;have n:∀m:Nat,(((i.grow G).pad ((max i.high (aT G)).toNat-i.data.length)).fill G G.data.size).there.getD m false=(i.there.getD m false||decide (G.offset.toNat<=m/\m<G.offset.toNat+G.data.size)):=λm=>(P m).1
 have y:∀m:Nat,(((i.grow G).pad ((max i.high (aT G)).toNat-i.data.length)).fill G G.data.size).data.getD m 0=if i.there.getD m false=false/\G.offset.toNat<=m/\m<G.offset.toNat+G.data.size then(aG G.data).getD (m-G.offset.toNat) 0 else i.data.getD m 0:=λm=>(P m).2
 refine⟨rfl,⟨λm f=>?_,?_,λe g=>?_,λg=>?_,h.s1,h.s2,h.s0⟩,λm f=>?_,λm C p=>?_⟩
 simp only at f⊢;rw[n]at f;rw[y];cases s:i.there.getD m false;rw[s]at f;simp only[Bool.false_or,nA]at f;rw[az ⟨rfl,f⟩];exact⟨by omega,hd m (by omega) (by omega)⟩
 rw[ah (by simp)];exact h.th m s;show max i.high (aT G)<=o.high;omega;show o.finished=true/\(if G.fin then aT G else i.end_)=o.data.size/\_;cases q:G.fin;have t:(i.ended||G.fin)=true:=e;rw[q,sY]at t;simp only[gm,fR]
 exact h.en t j;obtain⟨a,b⟩:=k q;simp only[eX]
 exact⟨a,b,by omega⟩
 have u:i.given=true:=g;rw[j]at u;cases u;obtain f|⟨a,b⟩:=f
 rw[j]at f;cases f;exact .inr ⟨a,by simp only;rw[n,b];rfl⟩;refine .inr ⟨by omega,?_⟩;simp only
 rw[n,bK (by omega),Bool.or_true];rw[az rfl];exact⟨rfl,h,λm f=>f,λm _ _=>.inl j⟩
theorem iQ.reset{o:cV}{i:aL}(h:iQ o i)(ho:OI o)(a:o.given=true)(b:G.offset=o.end_)(c:G.code=o.code):
 i.ud G=false/\iQ o (i.reset G)/\∀m,jy i m->jy (i.reset G) m:=by
 have hs:=ho.hs;have d:=h.hi;have f:=ho.gv a;refine⟨?_,⟨h.th,h.hi,λ_ g=>?_,λ_=>⟨a,b,?_,rfl⟩,h.s1,λ_=>rfl,h.s0⟩,λm _=>.inl rfl⟩
 unfold aL.ud;rw[bI (by omega),sY];cases e:i.ended;rfl;have:i.end_=G.offset:=by
  cases q:i.given;have:=h.en e q;omega;rw[b];exact(h.gv q).2.1
 simp[this];cases(show(true:Bool)=false from g);show(if i.given then i.code else G.code)=o.code;split;rename_i q;exact(h.gv q).2.2.1;exact c
theorem iQ.dD{o:cV}{i:aL}(h:iQ o i)(v:fQ i)(aE:Int):iQ o (i.dD aE)/\(∀m,jy i m->jy (i.dD aE) m):=by
 have e1:(i.dD aE).there=i.there/\(i.dD aE).data=i.data/\(i.dD aE).high=i.high/\(i.dD aE).end_=i.end_/\(i.dD aE).ended=i.ended/\(i.dD aE).given=i.given/\(i.dD aE).code=i.code:=by
  unfold aL.dD aL.stop aL.kW aL.start;repeat(first|split|exact⟨rfl,rfl,rfl,rfl,rfl,rfl,rfl⟩)
 obtain⟨n,r,s,p,a5,a6,a7⟩:=e1;have f:((i.dD aE).state=i.state/\(i.state≠0->(i.dD aE).read=i.read))\/(i.state=0/\(i.dD aE).state=2/\i.given=true)\/(i.state=0/\(i.dD aE).state=1/\i.given=false/\i.ended=true/\(i.dD aE).read=i.end_):=by
  unfold aL.dD;by_cases c:i.given=true/\i.state=0;have j:i.start={i with state:=2}:=by unfold aL.start;rw[az c]
  right;left;refine⟨c.2,?_,c.1⟩
  rw[j];unfold aL.stop aL.kW;rw[ah (λq=>by simp at q)];have j:i.start=i:=by unfold aL.start;rw[ah c]
  rw[j];unfold aL.stop;by_cases d:(i.kW (i.bn aE)).ended=true/\(i.kW (i.bn aE)).read=(i.kW (i.bn aE)).end_/\(i.kW (i.bn aE)).state=0;rw[az d];have d3:i.state=0:=d.2.2;right;right;refine⟨d3,rfl,?_,d.1,d.2.1⟩
  cases q:i.given;rfl;exact absurd ⟨q,d3⟩ c;rw[ah d];left;refine⟨rfl,λt=>?_⟩
  show i.read+((i.bn aE:Nat):Int)=i.read;unfold aL.bn;rw[ah t];simp
 refine⟨⟨λm b=>?_,by rw[s];exact h.hi,λe g=>?_,λg=>?_,λe=>?_,λe=>?_,?_⟩,λm b=>?_⟩
 rw[n]at b;rw[r];exact h.th m b;rw[a5]at e;rw[a6]at g;rw[p];exact h.en e g;rw[a6]at g;rw[p,a7,a5];exact h.gv g;obtain⟨b1,b2⟩|⟨b1,b2,a⟩|⟨b1,b2,a,k,l⟩:=f
 have u:=b1.symm.trans e;rw[b2 (by omega)];exact h.s1 u;omega;obtain⟨c1,c2,c3⟩:=h.en k a;exact⟨c1,l.trans c2⟩
 rw[a6];obtain⟨b1,b2⟩|⟨b1,b2,a⟩|⟨b1,b2,a,k,l⟩:=f
 exact h.s2 (b1.symm.trans e);exact a;omega;obtain⟨b1,b2⟩|⟨b1,b2,a⟩|⟨b1,b2,a,k,l⟩:=f
 rw[b1];exact h.s0;exact .inr (.inr b2);exact .inr (.inl b2);unfold jy at b⊢;rw[a6,n];exact b
theorem iQ.text{o:cV}{i:aL}(h:iQ o i)(ho:OI o)(e:fQ i)(aE:Int)(v:0<=aE):
 ((i.text aE).length:Int)<=aE/\i.read+(i.text aE).length<=o.data.size/\i.text aE=((aG o.data).drop i.read.toNat).take (i.text aE).length/\(i.dD aE).read=i.read+(i.text aE).length/\(i.state≠0->i.text aE=[]/\(i.dD aE).state=i.state):=by
 have k:fQ i.start:=by unfold aL.start;split<;>exact⟨e.dl,e.tl,e.hi,e.e0,e.rd⟩
 have f:i.start.read=i.read/\i.start.there=i.there/\i.start.high=i.high:=by unfold aL.start;split<;>exact⟨rfl,rfl,rfl⟩
 obtain⟨c,d⟩:=exq (i.start.bn aE);have w:i.read+c<=i.high:=by have:=yY (p:=aE) k;rw[f.1,f.2.2,<-d]at this;exact this
 have r:(c:Int)<=aE:=by rw[d];unfold aL.bn;split<;>omega
 have hd:=e.dl;have x:=e.rd;have hl:(i.text aE).length=c:=by unfold aL.text;rw[<-d,ct,dF];omega
 have hs:=ho.hs;have y:=h.hi;rw[hl];refine⟨r,by omega,?_,?_,λg=>?_⟩
 apply List.ext_getElem?;intro j;unfold aL.text;rw[<-d,jA,jA];split;rename_i s;have l:=(NY k (j:=j) (by rw[<-d];exact s)).2.2.2;rw[f.1,f.2.1]at l;have t:i.there.getD (i.read.toNat+j) false=true:=by rw[List.getD,l];rfl
 obtain⟨a,b⟩:=h.th _ t;rw[kG,kG];have m:i.read.toNat+j<i.data.length:=by omega
 have n:i.read.toNat+j<(aG o.data).length:=by rw[fu];exact a
 rw[List.getD,List.getD,eD m,eD n]at b;rw[eD m,eD n];simpa using b;rfl;unfold aL.dD;rw[<-d];have:∀j:aL,j.stop.read=j.read:=λj=>by unfold aL.stop;split<;>rfl
 rw[this];show i.start.read+(c:Int)=i.read+(c:Int)
 rw[f.1];have p:i.start=i:=by unfold aL.start;rw[ah (λq=>g q.2)]
 have u:c=0:=by rw[d,p];unfold aL.bn;rw[ah g]
 refine⟨by unfold aL.text;rw[<-d,u];rfl,?_⟩
 unfold aL.dD aL.stop;rw[p,ah (λq=>g q.2.2)];rfl
structure cE(a b:aj):Prop where
 key:b.key=a.key
 me:a.me=1-b.me
 ag:b.ag=a.ag
 sn:∀x∈a.aA,0<=x.1/\x.1<a.next
 aS:∀x∈a.aA,∀y∈a.aA,x.1=y.1->x=y
 fr:∀x∈a.aA,∀f∈x.2,qA a.outs f/\cU f
 ak:∀x∈a.aA,∀f∈x.2,f.kind=3->∀n,bL f.ranges n=true->Sm a.bU.sp n
 aJ:∀k,k<4->iQ (a.outs k) (b.ins k)
 ev:∀n,Sm b.bU.sp n->n<a.next
 tk:∀x∈a.aA,Sm b.bU.sp x.1->∀f∈x.2,∀k,k<4->∀m,nX f k m->jy (b.ins k) m
 cm:∀k,k<4->∀m,Sm (a.outs k).af.sp m->jy (b.ins k) m
structure nZ(m:aj)(n:Nat):Prop where
 cl:m.closed=0
 out:∀k,k<4->OI (m.outs k)
 ck:∀k,k<4->eZ (m.outs k).af
 fr:∀k,k<4->(m.outs k).af.eF<=(m.outs k).data.size/\((m.outs k).given=false->(m.outs k).data.size-(m.outs k).af.eF<=m.ag)
 gD:∀k,k<4->fQ (m.ins k)
 rd:∀k,k<4->(m.ins k).high<=(m.ins k).read+m.ag
 j8:uc m
 bU:∃c,sH c m.bU n
theorem dI.fe(h:dI s Y n)(hs:bZ s n):nZ Y n:=by
 refine⟨h.c.cl,λk a=>?_,λk a=>(h.c.out k a).ck,λk a=>?_,h.c.gD,λk a=>(h.rd k a).2,h.c.fl.j8,_,h.bU⟩
 have R:=h.c.out k a;exact⟨R.hs,λe=>(R.gv e).2.1,R.sz⟩
 have R:=h.c.out k a;have b:=R.rj;have h0:=(hs.out k a).fr;refine⟨by rw[<-R.fr];exact b,λd=>?_⟩
 have f:=R.zi d h0;have g:=hs.oI k a;rw[<-R.fr,h.c.ag];omega
theorem Pj{z:cL}(h:sH X z n)(g:n<=1000000)(i:0<=p)(d:Int):Sm (z.add p p).sp d↔Sm z.sp d\/d=p:=by
 have e1:max p z.floor=p:=by rw[h.fl];omega
 have e2:=wH (X:=z.l) (cW p) h.ok;obtain⟨E,a⟩:=exq ((pQ p p z.l).end_);rw[<-a]at e2;have j:E.length<=z.l.length+1:=by
  have:=tt (z.l.map cM) ⟨p,p+1⟩;rw[<-e2,dA,dA]at this;exact this
 have b:z.add p p={z with l:=E}:=by
  unfold cL.add cL.put;rw[e1,ah (by omega),<-a,ah (by rw[h.mo];have:=h.len;omega)]
 have c:(z.add p p).sp=dv z.sp ⟨p,p+1⟩:=by rw[b];exact e2
 rw[c,jE _ h.ok];constructor;rintro(q|⟨e,f⟩);exact .inl q;simp only at e f;exact .inr (by omega);rintro(q|q);exact .inl q;exact .inr ⟨by simp only;omega,by simp only;omega⟩
structure mH(a b c:aj):Prop where
 aJ:∀k,k<4->iQ (a.outs k) (c.ins k)
 gD:∀k,k<4->fQ (c.ins k)
 rs:∀k,(c.ins k).read=(b.ins k).read/\(c.ins k).state=(b.ins k).state
 th:∀k m,jy (b.ins k) m->jy (c.ins k) m
 out:∀k,k<4->∃z,c.outs k={b.outs k with af:=z}
 ck:∀k,k<4->eZ (c.outs k).af
 cm:∀k,k<4->∀m,Sm (b.outs k).af.sp m->Sm (c.outs k).af.sp m
 cn:∀k,k<4->∀m,Sm (c.outs k).af.sp m->Sm (b.outs k).af.sp m\/∃x∈b.aA,Sm a.bU.sp x.1/\∃g∈x.2,nX g k m
 same:qZ b c
theorem mH.trans{b c d:aj}(h:mH Y b c)(g:mH Y c d):mH Y b d:=by
 refine⟨g.aJ,g.gD,λk=>⟨(g.rs k).1.trans (h.rs k).1,(g.rs k).2.trans (h.rs k).2⟩,λk m q=>g.th k m (h.th k m q),λk a=>?_,g.ck,λk a m q=>g.cm k a m (h.cm k a m q),λk a m q=>?_,?_⟩
 obtain⟨z,e⟩:=h.out k a;obtain⟨y,f⟩:=g.out k a;exact⟨y,by rw[f,e]⟩
 obtain q|q:=g.cn k a m q
 exact h.cn k a m q;rw[h.same.aA]at q;exact .inr q;have x:=h.same;have y:=g.same;exact⟨y.an.trans x.an,y.ag.trans x.ag,y.key.trans x.key,y.me.trans x.me,y.closed.trans x.closed,y.code.trans x.code,y.said.trans x.said,y.next.trans x.next,y.dZ.trans x.dZ,y.bU.trans x.bU,y.aA.trans x.aA⟩
theorem qZ.refl(b:aj):qZ b b:=⟨rfl,rfl,rfl,rfl,rfl,rfl,rfl,rfl,rfl,rfl,rfl⟩
theorem mH.note{b c:aj}(h:mH Y b c)(f:Fr)(n:Int):mH Y b (c.note f n):=by
 obtain⟨s,o,i,-⟩:=ug c f n;refine h.trans ⟨λk a=>by rw[i];exact h.aJ k a,λk a=>by rw[i];exact h.gD k a,λk=>by rw[i];exact⟨rfl,rfl⟩,λk m q=>by rw[i];exact q,λk a=>⟨(c.outs k).af,by rw[o]⟩,λk a=>by rw[o];exact h.ck k a,λk a m q=>by rw[o];exact q,λk a m q=>by rw[o]at q;exact .inl q,s⟩
theorem mH.nk{b:aj}(c:∀k,k<4->iQ (Y.outs k) (b.ins k))(d:∀k,k<4->fQ (b.ins k))(f:∀k,k<4->eZ (b.outs k).af){i:aL}(g:iQ (Y.outs k) i)(h:fQ i)(l:i.read=(b.ins k).read/\i.state=(b.ins k).state)(n:∀m,jy (b.ins k) m->jy i m):mH Y b {b with ins:=ai b.ins k i}:=by
 refine⟨λj a=>?_,λj a=>?_,λj=>?_,λj m q=>?_,λj _=>⟨_,rfl⟩,f,λj a m q=>q,λj a m q=>.inl q,⟨rfl,rfl,rfl,rfl,rfl,rfl,rfl,rfl,rfl,rfl,rfl⟩⟩
 by_cases e:j=k;subst e;simp only[bk];exact g;simp only[bl _ _ e];exact c j a;by_cases e:j=k;subst e;simp only[bk];exact h;simp only[bl _ _ e];exact d j a;by_cases e:j=k;subst e;simp only[bk];exact l;rw[show({b with ins:=ai b.ins k i}:aj).ins j=b.ins j from bl _ _ e];exact⟨rfl,rfl⟩
 by_cases e:j=k;subst e;simp only[bk];exact n m q;simp only[bl _ _ e];exact q
theorem Pm(i:aL)(f:Fr):(i.bytes f).2.read=i.read/\(i.bytes f).2.state=i.state:=by
 unfold aL.bytes;split;exact⟨rfl,rfl⟩
 split<;>exact⟨rfl,rfl⟩
theorem Pn{b:aj}(ho:∀k,k<4->OI (Y.outs k))(f:∀k,k<4->iQ (Y.outs k) (b.ins k))(c:∀k,k<4->fQ (b.ins k))(h:uc b)(d:∀k,k<4->eZ (b.outs k).af)(i:qA Y.outs G)(hs:cU G)
 (r:G.kind=3->(au G.ranges 0).hi<b.next/\∀n,bL G.ranges n=true->Sm Y.bU.sp n):(b.take G).1=0/\mH Y b (b.take G).2/\∀k,k<4->∀m,nX G k m->jy ((b.take G).2.ins k) m:=by
 unfold aj.take;obtain e|e|e:=i.kind
 obtain⟨s,p⟩:=r e;rw[az e,ah (by omega)];refine⟨rfl,⟨f,c,λk=>⟨rfl,rfl⟩,λk m q=>q,λk a=>(rm G.ranges b.aA h d k a).1,DZ h d,λk a m q=>((rm G.ranges b.aA h d k a).2 m).2 (.inl q),λk a m q=>?_,⟨rfl,rfl,rfl,rfl,rfl,rfl,rfl,rfl,rfl,rfl,rfl⟩⟩,λk _ m q=>?_⟩
 obtain q|⟨x,t,u,v⟩:=((rm G.ranges b.aA h d k a).2 m).1 q
 exact .inl q;exact .inr ⟨x,t,p _ u,v⟩;have:=q.1;omega;obtain⟨w,y,g,j,a5⟩:=i.k4 e;have a:G.stream.toNat<4:=by omega
 obtain⟨b1,b2,l⟩:=(f _ a).reset (ho _ a) g j a5;rw[ah (by omega),az e,ah (by rw[b1];decide)];have h0:0<=G.offset:=by have:=(ho _ a).gv g;have:=(ho _ a).hs;omega
 refine⟨rfl,mH.nk f c d b2 ((c _ a).reset h0 (by have:=hs.1.1;omega)) ⟨rfl,rfl⟩ l,λk _ m q=>?_⟩
 have:=q.1;omega;obtain⟨w,y,g,j,a5,a6⟩:=i.k5 e;have a:G.stream.toNat<4:=by omega
 obtain⟨b1,b2,l,z⟩:=(f _ a).bytes (ho _ a) (c _ a) g j a5 a6;rw[ah (by omega),ah (by omega),az e];have s:=(ho _ a).hs;have p:=(ho _ a).sz;refine⟨b1,mH.nk f c d b2 ((c _ a).bytes g (by omega) (λ_=>by omega)) (Pm _ G) l,λk D m q=>?_⟩
 obtain⟨-,-,A,B,C⟩:=q;subst A;simp only[bk]
 exact z m B C
theorem Po(ho:∀k,k<4->OI (Y.outs k))(num:Int):∀(a:List Fr)(b:aj),(∀k,k<4->iQ (Y.outs k) (b.ins k))->(∀k,k<4->fQ (b.ins k))->uc b->(∀k,k<4->eZ (b.outs k).af)->
 (∀f∈a,qA Y.outs f/\cU f/\(f.kind=3->(au f.ranges 0).hi<b.next/\∀n,bL f.ranges n=true->Sm Y.bU.sp n))->
 (aj.fc num a b).1=0/\mH Y b (aj.fc num a b).2/\∀f∈a,∀k,k<4->∀m,nX f k m->jy ((aj.fc num a b).2.ins k) m:=by
 intro a;induction a with
 |nil=>
  intro b d e h i _;exact⟨rfl,⟨d,e,λk=>⟨rfl,rfl⟩,λk m q=>q,λk _=>⟨_,rfl⟩,i,λk _ m q=>q,λk _ m q=>.inl q,qZ.refl b⟩,λf r=>by cases r⟩
 |cons f a s=>
  intro b d e h i j;obtain⟨f1,f2,f3⟩:=j f (by simp);obtain⟨t1,t2,t3⟩:=Pn ho d e h i f1 f2 f3;have e2:aj.fc num (f::a) b=if(b.take f).1=0 then aj.fc num a ((b.take f).2.note f num)else((b.take f).1,(b.take f).2.fail (b.take f).1):=rfl
  rw[e2,az t1];have t4:=t2.note f num;obtain⟨t,l,u⟩:=s _ t4.aJ t4.gD (by unfold uc;rw[t4.same.aA];exact h) t4.ck (λg c=>by rw[t4.same.next];exact j g (by simp[c]));refine⟨t,t4.trans l,λg c k p m q=>?_⟩
  obtain rfl|c:=fk.1 c
  refine l.th k m ?_;rw[(ug _ _ _).2.2.1];exact t3 k p m q;exact u g c k p m q
def oN(a:aj)(p:List Int)(x:Int×List Fr):Prop:=eC a.key a.me p/\bp p=x.1/\fE (dN a.key a.me (bp p) (bT p))=(some x.2,-1)
structure mI(o a:cV):Prop where
 data:a.data=o.data
 fin:a.finished=o.finished
 gv:a.given=o.given
 code:a.code=o.code
 pre:o.af.eF<=a.af.eF
theorem mI.rfl'(o:cV):mI o o:=⟨rfl,rfl,rfl,rfl,cW _⟩
theorem Pp{z a:cL}(h:eZ z)(b:eZ a)(hs:∀m,Sm z.sp m->Sm a.sp m):z.eF<=a.eF:=by
 obtain⟨f,d,g⟩:=sD h;obtain⟨b1,b2,e⟩:=sD b;by_cases c:z.eF<=a.eF;exact c;exact absurd (hs _ (d _ b1 (by omega))) e
theorem cE.same{b a:aj}(D:cE Y b)(i:a.ins=b.ins)(e:a.bU=b.bU)(k:a.key=b.key)(m:a.me=b.me)(w:a.ag=b.ag):cE Y a:=
 ⟨k.trans D.key,by rw[m];exact D.me,w.trans D.ag,D.sn,D.aS,D.fr,D.ak,by rw[i];exact D.aJ,by rw[e];exact D.ev,by rw[e,i];exact D.tk,by rw[i];exact D.cm⟩
theorem cE.Pq{b:aj}(D:cE Y b)(E:cE b Y){x:Int×List Fr}(a:x∈Y.aA)(c:G∈x.2)(d:G.kind=3):(au G.ranges 0).hi<b.next:=by
 obtain⟨e,p2⟩:=(D.fr x a G c).2.2.1.1 d;have p3:=p2 0 e;exact E.ev _ (D.ak x a G c d _ ((xV _ _).2 ⟨0,e,p3.1,cW _⟩))
theorem Pr{b:aj}(C:nZ Y i)(p:nZ b j)(F:j<=1000000)(D:cE Y b)(E:cE b Y){x:Int×List Fr}(t:x∈Y.aA)(hp:oN Y L x):
 ((b.eI L).1=0\/(b.eI L).1=6)/\cE Y (b.eI L).2.2/\cE (b.eI L).2.2 Y/\(∀k,k<4->mI (b.outs k) ((b.eI L).2.2.outs k))/\(∀k,((b.eI L).2.2.ins k).read=(b.ins k).read/\((b.eI L).2.2.ins k).state=(b.ins k).state)/\(b.eI L).2.2.next=b.next/\(b.eI L).2.2.aA=b.aA:=by
 obtain⟨G,p2,p3⟩:=hp;have H:1-b.me=Y.me:=D.me.symm;have same:cE Y b/\cE b Y/\(∀k,k<4->mI (b.outs k) (b.outs k))/\(∀k,(b.ins k).read=(b.ins k).read/\(b.ins k).state=(b.ins k).state)/\b.next=b.next/\b.aA=b.aA:=⟨D,E,λk _=>mI.rfl' _,λk=>⟨rfl,rfl⟩,rfl,rfl⟩
 unfold aj.eI;rw[ah (by rw[p.cl];decide),H,D.key,ah (by simpa using G)];split;exact⟨.inl rfl,same⟩
 unfold aj.pR;rw[p3];simp only
 split;exact⟨.inr rfl,same⟩
 have I:=D.sn x t;obtain⟨t1,t2,t3⟩:=Po (Y:=Y) C.out (bp L) x.2 (b.mark (bp L)) D.aJ p.gD p.j8 p.ck (λf l=>⟨(D.fr x t f l).1,(D.fr x t f l).2,λw=>⟨D.Pq E t l w,D.ak x t f l w⟩⟩);obtain⟨s,K⟩:=exq ((aj.fc (bp L) x.2 (b.mark (bp L))).2);rw[<-K]at t2 t3⊢;obtain⟨c,M⟩:=p.bU;have A:∀d,Sm s.bU.sp d↔Sm b.bU.sp d\/d=x.1:=λd=>by
  rw[t2.same.bU];show Sm (b.bU.add (bp L) (bp L)).sp d↔_;rw[p2];exact Pj M F I.1 d
 have B:∀k,k<4->kY (b.outs k) (s.outs k):=λk a=>by
  obtain⟨z,e⟩:=t2.out k a;have e:s.outs k={b.outs k with af:=z}:=e;rw[e];exact⟨aP _,λ_ _=>rfl,λh=>⟨h,rfl⟩,λh=>⟨h,rfl,rfl⟩,cW _⟩
 have N:∀k,k<4->OI (s.outs k):=λk a=>by
  obtain⟨z,e⟩:=t2.out k a;have e:s.outs k={b.outs k with af:=z}:=e;rw[e];exact⟨(p.out k a).hs,(p.out k a).gv,(p.out k a).sz⟩
 have hs:s.aA=b.aA:=t2.same.aA;have u:s.next=b.next:=t2.same.next;refine⟨.inl t1,?_,?_,λk a=>?_,t2.rs,u,hs⟩
 refine⟨t2.same.key.trans D.key,?_,t2.same.ag.trans D.ag,D.sn,D.aS,D.fr,D.ak,t2.aJ,λn u=>?_,λy r O f l k a m q=>?_,λk a m q=>t2.th k m (D.cm k a m q)⟩
 rw[t2.same.me];exact D.me;obtain q|q:=(A n).1 u
 exact D.ev n q;omega;obtain v|v:=(A y.1).1 O
 exact t2.th k m (D.tk y r v f l k a m q);have:=D.aS y r x t v;subst this;exact t3 f l k a m q;refine⟨E.key.trans t2.same.key.symm,?_,E.ag.trans t2.same.ag.symm,?_,?_,?_,?_,λk a=>(E.aJ k a).le (B k a) (N k a),?_,?_,λk a m q=>?_⟩
 rw[t2.same.me];exact E.me;rw[hs,u];exact E.sn;rw[hs];exact E.aS;rw[hs];exact λy r f l=>⟨(E.fr y r f l).1.le B p.out,(E.fr y r f l).2⟩
 rw[hs];exact λy r f l w n q=>(A n).2 (.inl (E.ak y r f l w n q))
 rw[u];exact E.ev;rw[hs];exact E.tk;obtain v|⟨y,r,P,g,Q,R⟩:=t2.cn k a m q
 exact E.cm k a m v;exact E.tk y r P g Q k a m R;obtain⟨z,e⟩:=t2.out k a;have e:s.outs k={b.outs k with af:=z}:=e;refine⟨by rw[e],by rw[e],by rw[e],by rw[e],Pp (p.ck k a) (t2.ck k a) (t2.cm k a)⟩
