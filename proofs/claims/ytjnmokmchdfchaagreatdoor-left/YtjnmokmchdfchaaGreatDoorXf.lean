import Derived.Test.YtjnmokmchdfchaaGreatDoorXe
set_option maxRecDepth 1000000
set_option maxHeartbeats 0
set_option linter.all false
namespace Go.Proofs.YtjnmokmchdfchaaGreatDoor
open Go.RowKit Tryz
attribute[local go_sem↓]Go.wp_at_zero Go.wp_at_succ
variable{B:Bool}{G:Fr}{p q r t:Int}{E:It}{K L:List Int}{D:List Rg}{i j k m n:Nat}{S:Nat->Prop}{f:Ot}{s:Sd}{x:Value}{W v w:World}{I:aJ}{Y:ai}
def ai.fI(s:ai)(k:Nat)(m:Nat):Int:=min (min (s.ag-((s.outs k).data.size-(s.outs k).af.eM)) (4096-(s.outs k).data.size)) m
def ai.write(s:ai)(k:Int)(d:ByteArray):Int×Int×ai:=
 if s.of k≠0 then(0,s.of k,s)else if(s.outs k.toNat).finished||(s.outs k.toNat).given then(0,3,s)
 else(s.fI k.toNat d.size,0,{s with outs:=ah s.outs k.toNat {s.outs k.toNat with data:=(s.outs k.toNat).data++d.extract 0 (s.fI k.toNat d.size).toNat}})
def kN(off:Nat)(d:List Int)(x:List Int×List Bool):Nat->List Int×List Bool
 |0=>x
 |n+1=>if(kN off d x n).2.getD (off+n) false then kN off d x n else((kN off d x n).1.set (off+n) (d.getD n 0),(kN off d x n).2.set (off+n) true)
def zJ(off:Nat)(d:List Int)(x:List Int×List Bool)(n:Nat):(kN off d x n).1.length=x.1.length/\(kN off d x n).2.length=x.2.length:=by
 induction n with
 |zero=>exact⟨rfl,rfl⟩
 |succ n a=>
  unfold kN;split;exact a;simp only[List.length_set];exact a
def aN.bad(i:aN)(f:Fr):Bool:=(i.ended&&(decide (i.end_<aW f)||(f.fin&&(aW f !=i.end_))))||(f.fin&&decide (aW f<i.high))
def aN.grow(i:aN)(f:Fr):aN:={i with high:=max i.high (aW f),ended:=i.ended||f.fin,end_:=if f.fin then aW f else i.end_}
def aN.pad(i:aN)(m:Nat):aN:={i with data:=i.data++List.replicate m 0,there:=i.there++List.replicate m false}
def aN.fill(i:aN)(f:Fr)(n:Nat):aN:={i with data:=(kN f.offset.toNat (aG f.data) (i.data,i.there) n).1,there:=(kN f.offset.toNat (aG f.data) (i.data,i.there) n).2}
def aN.bytes(i:aN)(f:Fr):Int×aN:=
 if i.bad f then(7,i)else if i.given then(0,i)else(0,((i.grow f).pad ((max i.high (aW f)).toNat-i.data.length)).fill f f.data.size)
structure fZ(i:aN):Prop where
 dl:(i.data.length:Int)=i.high
 tl:i.there.length=i.data.length
 hi:i.high<=100000000
 e0:0<=i.end_/\i.end_<=4611686018427387904
 rd:0<=i.read/\i.read<=i.high
def aN.start(i:aN):aN:=if i.given=true/\i.state=0 then{i with state:=2}else i
def aN.kO(i:aN):Nat:=((i.there.drop i.read.toNat).takeWhile id).length
def aN.bf(i:aN)(aF:Int):Nat:=if i.state=0 then min aF.toNat i.kO else 0
def aN.lu(i:aN)(n:Nat):aN:={i with read:=i.read+n}
def aN.stop(i:aN):aN:=if i.ended=true/\i.read=i.end_/\i.state=0 then{i with state:=1}else i
def aN.dJ(i:aN)(aF:Int):aN:=(i.start.lu (i.start.bf aF)).stop
def aN.text(i:aN)(aF:Int):List Int:=(i.data.drop i.read.toNat).take (i.start.bf aF)
def aN.jx(i:aN):Int:=if i.state=2 then i.code else 0
def ai.read(s:ai)(k aF:Int):List Int×Int×Int×Int×ai:=
 if s.of k≠0 then([],0,0,s.of k,s)else((s.ins k.toNat).text aF,((s.ins k.toNat).dJ aF).state,((s.ins k.toNat).dJ aF).jx,0,{s with ins:=ah s.ins k.toNat ((s.ins k.toNat).dJ aF)})
def OJ(l:List Bool)(j:Nat)(h:j<(l.takeWhile id).length):l[j]?=some true:=by
 induction l generalizing j with
 |nil=>simp at h
 |cons x l a=>
  cases x with
  |false=>simp at h
  |true=>
   cases j with
   |zero=>rfl
   |succ j=>simp only[List.takeWhile_cons,id,fu,dc]at h;simpa using a j (by omega)
def OK(l:List Bool)(h:(l.takeWhile id).length<l.length):l[(l.takeWhile id).length]?=some false:=by
 induction l with
 |nil=>simp at h
 |cons x l a=>
  cases x with
  |false=>rfl
  |true=>
   simp only[List.takeWhile_cons,id,fu,dc]at h⊢;simpa using a (by omega)
def Ey(i:aN):i.kO<=i.there.length-i.read.toNat:=by
 unfold aN.kO;have h:∀l:List Bool,(l.takeWhile id).length<=l.length:=λl=>by
  induction l with
  |nil=>simp
  |cons x l a=>
   rw[List.takeWhile_cons];split;simp only[dc];omega;simp
 have:=h (i.there.drop i.read.toNat);rwa[dM]at this
def Ez(i:aN)(j:Nat)(h:j<i.kO):i.there[i.read.toNat+j]?=some true:=by
 have:=OJ _ _ h;rwa[kR]at this
def OL(i:aN)(h:i.read.toNat+i.kO<i.there.length):i.there[i.read.toNat+i.kO]?=some false:=by
 have:=OK (i.there.drop i.read.toNat) (by rw[dM];unfold aN.kO at h;omega);rwa[kR]at this
def OM{i:aN}(hi:fZ i)(h:j<i.bf p):i.state=0/\(j:Int)<p/\i.read+j<i.high/\i.there[i.read.toNat+j]?=some true:=by
 unfold aN.bf at h;split at h;rename_i h0;have a:j<i.kO:=by omega
 have:=Ey i;have:=hi.rd;have:=hi.dl;have:=hi.tl;exact⟨h0,by omega,by omega,Ez i j a⟩
 omega
def zK{i:aN}(hi:fZ i):i.read+i.bf p<=i.high:=by
 unfold aN.bf;have:=Ey i;have:=hi.rd;have:=hi.dl;have:=hi.tl;split<;>omega
def OO(h:bl D)(a:∀r∈D,p<=r.lo/\r.hi<=t):D=[]\/(D.length:Int)<=t-p:=by
 induction D generalizing p with
 |nil=>exact .inl rfl
 |cons r D c=>
  right;have d:=a r (by simp);have f:=h.2 r (by simp);obtain e|e:=c (p:=r.hi) h.tail (λq b=>⟨by have:=(qu.1 h.1).1 q b;omega,(a q (by simp[b])).2⟩)
  subst e;simp;omega;simp only[dc];push_cast;omega
structure fw(z:cQ):Prop where
 ok:bl z.sp
 bd:∀r∈z.l,0<=r.lo/\r.hi<4096
 fl:z.floor=0
 mo:z.aF=1073741824
def fw.len{z:cQ}(h:fw z):z.l.length<=4096:=by
 have:=OO (p:=0) (t:=4096) h.ok (λr c=>by
  obtain⟨q,d,rfl⟩:=fg.1 c;have:=h.bd q d;simp only[cR]
  omega)
 have e:z.sp.length=z.l.length:=by unfold cQ.sp;rw[dH]
 obtain h0|h0:=this
 rw[h0]at e;simp at e;omega;omega
def fw.new:fw ⟨[],0,1073741824⟩:=⟨bl.nil,λr a=>(by cases a),rfl,rfl⟩
def fw.EA{z:cQ}(h:fw z)(c:0<=p)(b:p<=q)(d:q<4096):z.add p q={z with l:=(qa p q z.l).end_}/\(z.add p q).sp=dB z.sp ⟨p,q+1⟩:=by
 have e1:max p z.floor=p:=by rw[h.fl];omega
 have e2:=xu (D:=z.l) b h.ok;have e:(qa p q z.l).end_.length<=z.l.length+1:=by
  have:=tS (z.l.map cR) ⟨p,q+1⟩;rw[<-e2,dH,dH]at this;exact this
 have a:z.add p q={z with l:=(qa p q z.l).end_}:=by
  unfold cQ.add cQ.put;rw[e1,iN_,az (by rw[h.mo];have:=h.len;omega)]
 exact⟨a,by rw[a];exact e2⟩
def fw.add{z:cQ}(h:fw z)(f:0<=p)(g:p<=t)(i:t<4096):fw (z.add p t):=by
 obtain⟨e1,e2⟩:=h.EA f g i;refine⟨by rw[e2];exact nj _ h.ok,λr j=>?_,by rw[e1];exact h.fl,by rw[e1];exact h.mo⟩
 have a:cR r∈(z.add p t).sp:=fg.2 ⟨r,j,rfl⟩;have k:bl (z.add p t).sp:=by rw[e2];exact nj _ h.ok
 have hp:=k.2 _ a;have d:∀n,Sm (z.add p t).sp n->0<=n/\n<4096:=λn e=>by
  rw[e2,jM _ h.ok]at e;obtain⟨q,l,b,c⟩|⟨b,c⟩:=e
  obtain⟨m,s,rfl⟩:=fg.1 l;have:=h.bd m s;simp only[cR]at b c;omega;simp only at b c;omega
 simp only[cR]at hp;have u:=d r.lo ⟨_,a,by simp only[cR];omega,by simp only[cR];omega⟩;have v:=d r.hi ⟨_,a,by simp only[cR];omega,by simp only[cR];omega⟩;omega
def pd(o:Nat->da)(f:Fr):Nat->da:=if f.kind=5/\0<f.data.size then ah o f.stream.toNat {o f.stream.toNat with af:=(o f.stream.toNat).af.add f.offset (f.offset+f.data.size-1)}else o
def ot(l:List Rg)(o:Nat->da)(x:Int×List Fr):Nat->da:=if bN l x.1 then x.2.foldl pd o else o
def ai.ly(s:ai)(l:List Rg):ai:={s with outs:=s.ay.foldl (ot l) s.outs}
def qQ(f:Fr):Prop:=f.kind=5->0<f.data.size->0<=f.stream/\f.stream<4/\0<=f.offset/\f.offset+f.data.size<=4096
def uH(s:ai):Prop:=∀x∈s.ay,∀f∈x.2,qQ f
def EC{o:Nat->da}(h:∀k,k<4->fw (o k).af)(c:qQ G):∀k,k<4->fw (pd o G k).af:=by
 intro k a;unfold pd;split;rename_i b;obtain⟨e,f,d,g⟩:=c b.1 b.2;unfold ah;split;exact(h _ (by omega)).add d (by omega) (by omega);exact h k a;exact h k a
def OP{q:List Fr}(a:∀f∈q,qQ f){o:Nat->da}(h:∀k,k<4->fw (o k).af):∀k,k<4->fw (q.foldl pd o k).af:=by
 induction q generalizing o with
 |nil=>exact h
 |cons f q b=>
  rw[mq];exact b (λg c=>a g (by simp[c])) (EC h (a f (by simp)))
def ED{x:Int×List Fr}(a:∀f∈x.2,qQ f){o:Nat->da}(h:∀k,k<4->fw (o k).af):∀k,k<4->fw (ot D o x k).af:=by
 unfold ot;split;exact OP a h;exact h
def zL(l:List Fr)(j:Nat):Fr:=l.getD j ⟨0,0,0,0,false,⟨#[]⟩,[]⟩
def aN.reset(i:aN)(f:Fr):aN:={i with ended:=true,end_:=f.offset,code:=if i.given then i.code else f.code,given:=true}
def aN.uI(i:aN)(f:Fr):Bool:=(i.ended&&(i.end_ !=f.offset))||decide (f.offset<i.high)
def ai.take(s:ai)(f:Fr):Int×ai:=
 if f.kind=3 then(if s.next<=(au f.ranges 0).hi then(8,s)else(0,s.ly f.ranges))
 else if f.kind=4 then(if(s.ins f.stream.toNat).uI f then(7,s)else(0,{s with ins:=ah s.ins f.stream.toNat ((s.ins f.stream.toNat).reset f)}))
 else if f.kind=5 then(((s.ins f.stream.toNat).bytes f).1,{s with ins:=ah s.ins f.stream.toNat ((s.ins f.stream.toNat).bytes f).2})
 else if f.kind=6 then(10,s)
 else(0,s)
structure EE(o:da)(f:Fr):Prop where
 gv:o.given=false
 off:0<=f.offset
 en:aW f<=o.data.size
 mO:o.data.extract f.offset.toNat (aW f).toNat=f.data
 fin:f.fin=(o.finished&&decide (aW f=o.data.size))
 ne:f.data.size=0->f.fin=true
 sz:o.data.size<=4096
def da.rH(o:da)(f:Fr):da:={o with high:=max o.high (aW f)}
def uJ(l:List Rg)(r:Rg):Bool:=l.any (λq=>decide (q.lo<=r.lo)&&decide (r.hi<=q.hi))
def ai.told(s:ai)(l:List Rg)(n:Int):Bool:=decide (n<s.dW.floor)||bN l n
def ai.eh(s:ai)(f:Fr):ai:={s with due:=s.due.filter (λn=> !s.told f.ranges n)}
def ai.fX(s:ai)(f:Fr):Bool:=decide (f.kind=5)&&(decide ((s.ins f.stream.toNat).state≠2)&&(!(s.ins f.stream.toNat).given&&decide ((s.ins f.stream.toNat).read+s.ag<aW f)))
def ai.zM(s:ai)(f:Fr)(n:Int):Bool:=mH f&&(decide (s.due.length=0)||(s.due.getD (s.due.length-1) 0 !=n))
def ai.note(s:ai)(f:Fr)(n:Int):ai:=if s.zM f n then{s with due:=s.due++[n]}else s
def ai.fail(s:ai)(e:Int):ai:={s with closed:=e,code:=e,said:=decide (e=10)}
def ai.fx(n:Int):List Fr->ai->Int×ai
 |[],s=>(0,s)
 |f::t,s=>if(s.take f).1=0 then ai.fx n t ((s.take f).2.note f n)else((s.take f).1,(s.take f).2.fail (s.take f).1)
def ai.mark(s:ai)(n:Int):ai:={s with dW:=s.dW.add n n,bT:=s.bT.add n n}
noncomputable def ai.qb(s:ai)(n:Int)(b:List Int):Int×Int×ai:=
 match fN b with
  |(none,q)=>(5,q,{s with closed:=5,code:=5})
  |(some a,_)=>
   if a.any s.fX then(6,-1,s)
   else((ai.fx n a (s.mark n)).1,-1,(ai.fx n a (s.mark n)).2)
noncomputable def ai.eT(s:ai)(p:List Int):Int×Int×ai:=
 if s.closed≠0 then(9,-1,s)
 else if¬eC s.key (1-s.me) p then(4,-1,s)
 else if s.dW.has (bq p)then(0,-1,s)
 else s.qb (bq p) (dT s.key (1-s.me) (bq p) (bS p))
def fZ.bytes{i:aN}(h:fZ i)(ho:0<=G.offset)(d:aW G<=4611686018427387903)(hs:i.given=false->aW G<=100000000):fZ (i.bytes G).2:=by
 unfold aN.bytes;split;exact h;split;exact h;rename_i a;have a:i.given=false:=by simpa using a
 have e:=hs a;have q:=h.dl;have f:=h.tl;have g:=h.hi;have j:=h.rd;have k:0<=aW G:=by unfold aW;omega
 obtain⟨M,b⟩:=exq ((max i.high (aW G)).toNat-i.data.length);rw[<-b];have hl:(((i.grow G).pad M).fill G G.data.size).data.length=i.data.length+M:=by
  show(kN _ _ _ _).1.length=_;rw[(zJ _ _ _ _).1];simp[aN.pad,aN.grow]
 have c:(((i.grow G).pad M).fill G G.data.size).there.length=i.there.length+M:=by
  show(kN _ _ _ _).2.length=_;rw[(zJ _ _ _ _).2];simp[aN.pad,aN.grow]
 refine⟨?_,?_,?_,?_,?_⟩
 rw[hl];show _=max i.high (aW G);omega;rw[hl,c];omega;show max i.high (aW G)<=_;omega;show 0<=(if G.fin then aW G else i.end_)/\(if G.fin then aW G else i.end_)<=_;split;omega;exact h.e0;show 0<=i.read/\i.read<=max i.high (aW G);omega
def fZ.reset{i:aN}(h:fZ i)(ho:0<=G.offset)(a:G.offset<=4611686018427387903):fZ (i.reset G):=⟨h.dl,h.tl,h.hi,by show 0<=G.offset/\G.offset<=_;omega,h.rd⟩
def OS{i:aN}(h:(i.bytes G).2.given=false):i.given=false:=by
 unfold aN.bytes at h;split at h;exact h;split at h;exact h;exact h
structure rI(s a:ai):Prop where
 aj:a.aj=s.aj
 ag:a.ag=s.ag
 key:a.key=s.key
 me:a.me=s.me
 closed:a.closed=s.closed
 code:a.code=s.code
 said:a.said=s.said
 next:a.next=s.next
 dW:a.dW=s.dW
 bT:a.bT=s.bT
 ay:a.ay=s.ay
def xv(s:ai)(f:Fr):rI s (s.take f).2/\(s.take f).2.due=s.due:=by
 unfold ai.take;split;split;exact⟨⟨rfl,rfl,rfl,rfl,rfl,rfl,rfl,rfl,rfl,rfl,rfl⟩,rfl⟩
 exact⟨⟨rfl,rfl,rfl,rfl,rfl,rfl,rfl,rfl,rfl,rfl,rfl⟩,rfl⟩
 split;split;exact⟨⟨rfl,rfl,rfl,rfl,rfl,rfl,rfl,rfl,rfl,rfl,rfl⟩,rfl⟩
 exact⟨⟨rfl,rfl,rfl,rfl,rfl,rfl,rfl,rfl,rfl,rfl,rfl⟩,rfl⟩
 split;exact⟨⟨rfl,rfl,rfl,rfl,rfl,rfl,rfl,rfl,rfl,rfl,rfl⟩,rfl⟩
 split;exact⟨⟨rfl,rfl,rfl,rfl,rfl,rfl,rfl,rfl,rfl,rfl,rfl⟩,rfl⟩
 exact⟨⟨rfl,rfl,rfl,rfl,rfl,rfl,rfl,rfl,rfl,rfl,rfl⟩,rfl⟩
def EF{q:List (Int×List Fr)}(a:∀x∈q,∀f∈x.2,qQ f){o:Nat->da}(h:∀k,k<4->fw (o k).af):∀k,k<4->fw (q.foldl (ot D) o k).af:=by
 induction q generalizing o with
 |nil=>exact h
 |cons x q b=>
  rw[mq];exact b (λy c=>a y (by simp[c])) (ED (a x (by simp)) h)
def uK(s:ai)(f:Fr)(n:Int):rI s (s.note f n)/\(s.note f n).outs=s.outs/\(s.note f n).ins=s.ins/\(s.note f n).due.length<=s.due.length+1:=by
 unfold ai.note;split;exact⟨⟨rfl,rfl,rfl,rfl,rfl,rfl,rfl,rfl,rfl,rfl,rfl⟩,rfl,rfl,by simp⟩
 exact⟨⟨rfl,rfl,rfl,rfl,rfl,rfl,rfl,rfl,rfl,rfl,rfl⟩,rfl,rfl,by omega⟩
def OT(f:Fr)(h:Y.due=L\/Y.due=L++[p]):(Y.note f p).due=L\/(Y.note f p).due=L++[p]:=by
 unfold ai.note;split;rename_i a;obtain h|h:=h
 right;simp only;rw[h];exfalso;unfold ai.zM at a;rw[h]at a;simp[List.getD]at a;exact h
structure xw(s:ai)(b:ByteArray)(a:List Fr):Prop where
 ok:eC s.key s.me (aG b)
 len:(b.size:Int)<=s.aj
 num:bq (aG b)=s.next
 dec:fN (dT s.key s.me (bq (aG b)) (bS (aG b)))=(some a,-1)
 enc:bp a=dT s.key s.me (bq (aG b)) (bS (aG b))
 Sx:uc a
 Sy:fT a<=30000000
 me:s.me=0\/s.me=1
 nx:0<=s.next/\s.next<=4611686018427387903
structure rJ(s:ai)(f:Fr):Prop where
 kind:f.kind=3\/f.kind=4\/f.kind=5
 k3:f.kind=3->∀r∈f.ranges,uJ s.bT.l r=true
 k4:f.kind=4->0<=f.stream/\f.stream<4/\(s.outs f.stream.toNat).given=true/\f.offset=(s.outs f.stream.toNat).end_/\f.code=(s.outs f.stream.toNat).code
 k5:f.kind=5->0<=f.stream/\f.stream<4/\EE (s.outs f.stream.toNat) f
def ai.dN(s:ai)(f:Fr):ai:=if f.kind=3 then s.eh f else if f.kind=5 then{s with outs:=ah s.outs f.stream.toNat ((s.outs f.stream.toNat).rH f)}else s
def OU(s:ai)(f:Fr):(s.dN f).due.length<=s.due.length/\(s.dN f).ay=s.ay/\(s.dN f).bT=s.bT/\(s.dN f).dW=s.dW/\(s.dN f).next=s.next:=by
 unfold ai.dN;split;exact⟨nP _ _,rfl,rfl,rfl,rfl⟩
 split;exact⟨aR _,rfl,rfl,rfl,rfl⟩
 exact⟨aR _,rfl,rfl,rfl,rfl⟩
def EG(a:List Fr):∀s:ai,(a.foldl ai.dN s).due.length<=s.due.length/\(a.foldl ai.dN s).ay=s.ay/\(a.foldl ai.dN s).bT=s.bT/\(a.foldl ai.dN s).dW=s.dW/\(a.foldl ai.dN s).next=s.next:=by
 induction a with
 |nil=>intro s;exact⟨aR _,rfl,rfl,rfl,rfl⟩
 |cons f a b=>
  intro s;obtain⟨c,d,e,g,h⟩:=b (s.dN f);obtain⟨i,j,k3,k4,k5⟩:=OU s f;rw[mq];exact⟨bD c i,d.trans j,e.trans k3,g.trans k4,h.trans k5⟩
def ai.jR(s:ai)(a:List Fr):ai:={a.foldl ai.dN {s with next:=s.next+1}with ay:=s.ay++[(s.next,a)]}
structure qR(s:ai)(b:ByteArray)(a:List Fr):Prop where
 op:xw s b a
 may:∀j,j<a.length->rJ ((a.take j).foldl ai.dN {s with next:=s.next+1}) (zL a j)
 due:s.due.length<=1000000
 ay:s.ay.length<=100000000
def eU(l:List ByteArray)(j:Nat):ByteArray:=l.getD j ⟨#[]⟩
def ai.eu(s:ai)(a:List (List Fr)):ai:=a.foldl ai.jR s
structure zN(s:ai)(bs:List ByteArray)(a:List (List Fr)):Prop where
 len:a.length=bs.length
 each:∀j,j<bs.length->qR (s.eu (a.take j)) (eU bs j) (a.getD j [])
 due:∀n∈(s.eu a).due,n<(s.eu a).dW.floor
 cl:s.closed=0
def cQ.OV:cQ:=⟨[],0,8⟩
def cQ.xx:cQ:=⟨[],0,1073741824⟩
def da.new:da:=⟨⟨#[]⟩,cQ.xx,false,false,0,0,0⟩
def aN.new:aN:=⟨[],[],0,0,false,false,0,0,0⟩
def ai.new(aj ag:Int)(key:List Int)(f:Bool):ai:=⟨aj,ag,key,if f then 0 else 1,0,0,false,0,cQ.OV,cQ.xx,[],λ_=>da.new,λ_=>aN.new,[]⟩
def ou(f:Nat->Nat)(j:Nat):List Value:=(List.range j).map (λk=>.pointer (some ⟨f k,0,none⟩))
def EH(f:Nat->Nat)(j x:Nat):ou (ah f j x) (j+1)=ou f j++[.pointer (some ⟨x,0,none⟩)]:=by
 unfold ou;rw[vy,mY];congr 1;apply xQ;intro k a;rw[bm _ _ (by have:=List.mem_range.1 a;omega)];simp[bk]
def OW(L cs:List Int)(off k:Nat)(h:off+cs.length<=L.length):(splice L off cs).getD k 0=if off<=k/\k<off+cs.length then cs.getD (k-off) 0 else L.getD k 0:=by
 unfold splice;simp only[List.getD]
 by_cases a:k<off;rw[iN_,mm (by rw[ct];omega),List.getElem?_take_of_lt a];have hl:(L.take off).length=off:=by rw[ct];omega
 rw[gR_,hl];by_cases b:k<off+cs.length;rw[aD ⟨by omega,b⟩,mm (by omega)];rw[iN_,gR_,kR];congr 2;omega
def OX(fr:Int)(b:List Int)(x:Rg)(k:Nat):(nk fr b x).getD k 0=b.getD k 0:=by
 unfold nk;simp only[List.getD]
 by_cases h:k<b.length;rw[mm h];rw[gR_,nQ (l:=b) (by omega),xM];split<;>rfl
def OY{x:Rg}(a:p<=x.lo)(b:q<=x.lo)(c:x.lo<=x.hi)(d:x.hi<=q+L.length)(m:Int)(e:p<=m):(lY p q L K x).getD (m-p).toNat 0=if x.lo<=m/\m<x.hi then L.getD (m-q).toNat 0 else K.getD (m-p).toNat 0:=by
 unfold lY;have hl:((L.drop (x.lo-q).toNat).take (x.hi-x.lo).toNat).length=(x.hi-x.lo).toNat:=by rw[ct,dM];omega
 rw[OW _ _ _ _ (by rw[hl,vT];omega),hl,OX];by_cases h:x.lo<=m/\m<x.hi;rw[iP_,aD h];simp only[List.getD]
 rw[List.getElem?_take_of_lt (by omega),kR];congr 2;omega;rw[iN_,az h]
def OZ(M:List Rg):∀(b:List Int),(∀x∈M,p<=x.lo/\q<=x.lo/\x.lo<=x.hi/\x.hi<=q+L.length)->∀m,p<=m->((Sm M m->(gY p q L M b).getD (m-p).toNat 0=L.getD (m-q).toNat 0)/\(¬Sm M m->(gY p q L M b).getD (m-p).toNat 0=b.getD (m-p).toNat 0)):=by
 induction M with
 |nil=>intro b _ m _;exact⟨λh=>absurd h (fU m),λ_=>rfl⟩
 |cons x M i=>
  intro b h m f;obtain⟨j,k,l,n⟩:=h x (by simp);have hp:=OY (K:=b) j k l n m f;obtain⟨r,g⟩:=i (lY p q L b x) (λy s=>h y (by simp[s])) m f;have e:gY p q L (x::M) b=gY p q L M (lY p q L b x):=rfl;rw[e];by_cases a:Sm M m;exact⟨λ_=>r a,λd=>absurd ((eB x M m).2 (.inr a)) d⟩
  refine⟨λhs=>?_,λd=>?_⟩
  obtain c|c:=(eB x M m).1 hs
  rw[g a,hp,aD c];exact absurd c a;rw[g a,hp,az (λc=>d ((eB x M m).2 (.inl c)))]
def EI{α:Type}(l:List α)(i k:Nat)(v d:α)(hi:i<l.length):(l.set i v).getD k d=if k=i then v else l.getD k d:=by
 simp only[List.getD,List.getElem?_set]
 by_cases h:i=k;subst h;rw[aD rfl,aD hi,aD rfl];rfl;rw[az h,az (λe=>h e.symm)]
def EJ(off:Nat)(d:List Int)(x:List Int×List Bool)(j:x.1.length=x.2.length)(n:Nat)(m:off+n<=x.2.length):∀k,(kN off d x n).2.getD k false=(x.2.getD k false||decide (off<=k/\k<off+n))/\(kN off d x n).1.getD k 0=if x.2.getD k false=false/\off<=k/\k<off+n then d.getD (k-off) 0 else x.1.getD k 0:=by
 induction n with
 |zero=>
  intro k;refine⟨?_,?_⟩
  unfold kN;simp;omega;unfold kN;rw[iN_]
 |succ n f=>
  intro k;obtain⟨g,h⟩:=f (by omega) k;obtain⟨l,p⟩:=f (by omega) (off+n);have hl:=zJ off d x n;have i:(kN off d x n).2.getD (off+n) false=x.2.getD (off+n) false:=by rw[l,dF_,tA]
  unfold kN;split;rename_i b;rw[i]at b;refine⟨?_,?_⟩
  rw[g];by_cases a:k=off+n;subst a;rw[b];rfl;congr 1;apply decide_eq_decide.2;omega;rw[h];by_cases a:k=off+n;subst a;rw[iN_,az (by rw[b];simp)];by_cases c:x.2.getD k false=false/\off<=k/\k<off+n;rw[aD c,aD ⟨c.1,c.2.1,by omega⟩];rw[az c,az (λe=>c ⟨e.1,e.2.1,by omega⟩)];rename_i b;rw[i]at b;simp only
  rw[EI _ _ _ _ _ (by rw[hl.2];omega),EI _ _ _ _ _ (by rw[hl.1,j];omega)];refine⟨?_,?_⟩
  by_cases a:k=off+n;subst a;rw[aD rfl,dT_,Bool.or_true];rw[az a,g];congr 1;apply decide_eq_decide.2;omega;by_cases a:k=off+n;subst a;rw[aD rfl,aD ⟨by simpa using b,by omega,by omega⟩];congr 1;omega;rw[az a,h];by_cases c:x.2.getD k false=false/\off<=k/\k<off+n;rw[aD c,aD ⟨c.1,c.2.1,by omega⟩];rw[az c,az (λe=>c ⟨e.1,e.2.1,by omega⟩)]
structure jq(i:It)(r:aN):Prop where
 ended:i.ended=r.ended
 last:i.ended=true->i.last=r.end_
 given:i.given=r.given
 code:i.given=true->i.code=r.code
 fr:i.h.fr=r.read
 high:i.given=false->i.high=r.high
 hl:i.ended=true->i.high<=i.last/\r.high<=i.last
 ge:i.given=true->i.ended=true
 over:i.over=true↔r.state=1
 st:r.state=0\/r.state=1\/(r.state=2/\i.given=true)
 ov:i.over=true->i.ended=true/\i.h.fr=i.last
 th:i.given=false->∀m:Nat,r.there.getD m false=true↔Sm i.h.af m
 mO:i.given=false->∀m:Nat,i.h.fr<=m->r.there.getD m false=true->i.h.bytes.getD ((m:Int)-i.h.fr).toNat 0=r.data.getD m 0
def jq.new:jq It.new aN.new:=by
 refine⟨rfl,λh=>(by cases h),rfl,λh=>(by cases h),rfl,λ_=>rfl,λh=>(by cases h),λh=>(by cases h),?_,.inl rfl,λh=>(by cases h),λ_ m=>?_,λ_ m _ h=>?_⟩
 simp[It.new,aN.new];simp[It.new,aN.new,fU];simp[aN.new]at h
def jq.bad{r:aN}(h:jq E r)(f:Fr):E.bad f=r.bad f:=by
 unfold It.bad aN.bad It.gJ;rw[h.ended];by_cases a:r.ended=true;have hl:=h.last (h.ended.trans a);have d:=h.hl (h.ended.trans a);rw[hl]at *;rw[a];by_cases b:f.fin=true;rw[b];simp only[Bool.true_and]
 by_cases c1:r.end_<aW f;rw[dO c1];simp;by_cases c2:aW f=r.end_;rw[eQ c1,dF_,dF_];simp;have:(aW f !=r.end_)=true:=by simpa using c2
 rw[this];simp;have b:f.fin=false:=by simpa using b
 rw[b];simp;have a:r.ended=false:=by simpa using a
 rw[a];have c:E.given=false:=by
  by_cases c:E.given=true;have:=h.ge c;rw[h.ended,a]at this;cases this;simpa using c
 rw[h.high c];simp
def jq.data{r:aN}(h:jq E r)(ho:ik p E)(s:fZ r)(f:Fr)(h0:0<=f.offset)(w:E.bad f=false)(U:E.given=false->aW f<=E.h.fr+p):(r.bytes f).1=0/\jq (E.data f) (r.bytes f).2:=by
 have F:r.bad f=false:=by rw[<-h.bad];exact w
 unfold aN.bytes;rw[F];simp only[gI,gm]
 have V:aW f=f.offset+f.data.size:=rfl;have g:=w;unfold It.bad It.gJ at g;by_cases a:E.given=true;have n:r.given=true:=h.given▸a;rw[n];simp only[fu]
 have i:=h.ge a;have hl:=h.last i;rw[i]at g;simp only[Bool.true_and,oH,tq,Bool.and_eq_false_iff]at g;have W:aW f<=E.last:=by omega
 have G:f.fin=true->aW f=E.last:=λb=>by
  obtain d|d:=g.2
  rw[b]at d;cases d;have:=d.1;simpa using this
 have t:(E.data f).last=E.last:=by
  show(if f.fin then aW f else E.last)=E.last;split;rename_i b;exact G b;rfl
 have j:(E.data f).h=E.h:=by show(if E.given then E.h else _)=E.h;rw[a];rfl
 refine⟨trivial,⟨?_,λ_=>by rw[t];exact hl,h.given,h.code,by rw[j];exact h.fr,λe=>?_,λ_=>?_,λ_=>?_,h.over,h.st,λe=>?_,λe=>?_,λe=>?_⟩⟩
 show(E.ended||f.fin)=r.ended;rw[i,<-h.ended,i];rfl;exact absurd (show E.given=false from e) (by rw[a];simp);have:=h.hl i;rw[t];show max E.high (aW f)<=E.last/\r.high<=E.last;omega;show(E.ended||f.fin)=true;rw[i];rfl;have:=h.ov e;rw[t,j];exact⟨by show(E.ended||f.fin)=true;rw[i];rfl,this.2⟩
 exact absurd (show E.given=false from e) (by rw[a];simp);exact absurd (show E.given=false from e) (by rw[a];simp);have a:E.given=false:=by simpa using a
 have n:r.given=false:=h.given▸a;rw[n];simp only[gI,gm]
 have y:=h.high a;obtain⟨M,H⟩:=exq ((max r.high (aW f)).toNat-r.data.length);rw[<-H];have X:=s.dl;have Y:=s.tl;have q4:=s.rd;have ax:((r.grow f).pad M).there.length=r.there.length+M:=by simp[aN.pad,aN.grow]
 have aC:((r.grow f).pad M).data.length=r.data.length+M:=by simp[aN.pad,aN.grow]
 have z:∀k,((r.grow f).pad M).there.getD k false=r.there.getD k false:=λk=>by
  simp only[aN.pad,aN.grow,List.getD]
  by_cases u:k<r.there.length;rw[mm u];rw[gR_,nQ (l:=r.there) (by omega),xM];split<;>rfl
 have I:∀k,((r.grow f).pad M).data.getD k 0=r.data.getD k 0:=λk=>by
  simp only[aN.pad,aN.grow,List.getD]
  by_cases u:k<r.data.length;rw[mm u];rw[gR_,nQ (l:=r.data) (by omega),xM];split<;>rfl
 have A:=EJ f.offset.toNat (aG f.data) (((r.grow f).pad M).data,((r.grow f).pad M).there) (by simp only;omega) f.data.size (by simp only;omega);have K:∀k,(((r.grow f).pad M).fill f f.data.size).there.getD k false=(r.there.getD k false||decide (f.offset.toNat<=k/\k<f.offset.toNat+f.data.size)):=λk=>by
  have:=(A k).1;rw[z k]at this;exact this
 have L:∀k,(((r.grow f).pad M).fill f f.data.size).data.getD k 0=if r.there.getD k false=false/\f.offset.toNat<=k/\k<f.offset.toNat+f.data.size then(aG f.data).getD (k-f.offset.toNat) 0 else r.data.getD k 0:=λk=>by
  have:=(A k).2;rw[z k,I k]at this;exact this
 have j:(E.data f).h=⟨E.h.fr,gY E.h.fr f.offset (aG f.data) (ju E.h.af ⟨f.offset,aW f⟩) E.h.bytes,dB E.h.af ⟨f.offset,aW f⟩⟩:=by show(if E.given then E.h else _)=_;rw[a];rfl
 have B:∀m:Nat,(((r.grow f).pad M).fill f f.data.size).there.getD m false=true↔Sm (dB E.h.af ⟨f.offset,aW f⟩) m:=λm=>by
  rw[K,Bool.or_eq_true,mX,h.th a m,jM _ ho.ok];simp only
  constructor;rintro(e|e);exact .inl e;exact .inr (by omega);rintro(e|e);exact .inl e;exact .inr (by omega)
 have N:∀x∈ju E.h.af ⟨f.offset,aW f⟩,E.h.fr<=x.lo/\f.offset<=x.lo/\x.lo<=x.hi/\x.hi<=f.offset+(aG f.data).length:=λx v=>by
  have hp:=(tU E.h.af ⟨f.offset,aW f⟩).2 x v;have C:=(qC E.h.af ⟨f.offset,aW f⟩ x.lo).1 ⟨x,v,by omega,by omega⟩;have O:=(qC E.h.af ⟨f.offset,aW f⟩ (x.hi-1)).1 ⟨x,v,by omega,by omega⟩;simp only at C O;have a0:E.h.fr<=x.lo:=by
   by_cases c:E.h.fr<=x.lo;exact c;exact absurd (ho.low a x.lo (by omega) (by omega)) C.2
  rw[fH];omega
 refine⟨trivial,⟨?_,λe=>?_,a.trans n.symm,λe=>?_,by rw[j];exact h.fr,λ_=>?_,λe=>?_,λe=>?_,h.over,?_,λe=>?_,λ_ m=>by rw[j];exact B m,λ_ m q P=>?_⟩⟩
 show(E.ended||f.fin)=(r.ended||f.fin);rw[h.ended];show(if f.fin then aW f else E.last)=(if f.fin then aW f else r.end_)
 by_cases b:f.fin=true;rw[b];rfl;have b:f.fin=false:=by simpa using b
 rw[b];have e2:(E.ended||f.fin)=true:=e;rw[b,tA]at e2;exact h.last e2;exact absurd (show E.given=true from e) (by rw[a];simp);show max E.high (aW f)=max r.high (aW f);rw[y];have e2:(E.ended||f.fin)=true:=e;show max E.high (aW f)<=(if f.fin then aW f else E.last)/\max r.high (aW f)<=(if f.fin then aW f else E.last);rw[<-y];simp only[oH,Bool.and_eq_false_iff,tq]at g;by_cases b:f.fin=true;rw[b];simp only[fu]
 obtain d|d:=g.2
 rw[b]at d;cases d;have:=d.2;omega;have b:f.fin=false:=by simpa using b
 rw[b,tA]at e2;rw[b];simp only[gI,gm]
 have:=(h.hl e2).1;obtain d|d:=g.1
 rw[e2]at d;cases d;omega;exact absurd (show E.given=true from e) (by rw[a];simp);obtain e|e|⟨e,e2⟩:=h.st
 exact .inl e;exact .inr (.inl e);rw[a]at e2;cases e2;obtain⟨e1,e2⟩:=h.ov e;rw[j];refine⟨by show(E.ended||f.fin)=true;rw[e1];rfl,?_⟩
 show E.h.fr=(if f.fin then aW f else E.last)
 rw[e1]at g;simp only[Bool.true_and,oH,tq,Bool.and_eq_false_iff]at g;split;rename_i b;obtain d|d:=g.2
 rw[b]at d;cases d;have:=d.1;have:aW f=E.last:=by simpa using this
 omega;exact e2;rw[j]at q⊢;simp only at q⊢;rw[L m];obtain⟨Q,R⟩:=OZ (ju E.h.af ⟨f.offset,aW f⟩) E.h.bytes N (m:Int) q;have hs:=(qC E.h.af ⟨f.offset,aW f⟩ (m:Int))
 simp only at hs;by_cases c:Sm E.h.af (m:Int);rw[R (λe=>(hs.1 e).2 c)];have D:=(h.th a m).2 c;rw[az (by rw[D];simp)];exact h.mO a m q D;have S:f.offset<=(m:Int)/\(m:Int)<aW f:=by
  obtain e|e:=(jM _ ho.ok (m:Int)).1 ((B m).1 P)
  exact absurd e c;exact e
 have T:r.there.getD m false=false:=by
  obtain e|e:=Bool.eq_false_or_eq_true (r.there.getD m false)
  exact absurd ((h.th a m).1 e) c;exact e
 rw[Q (hs.2 ⟨S,c⟩),aD ⟨T,by omega,by omega⟩];congr 1;omega
def jq.gJ{r:aN}(h:jq E r)(f:Fr):E.gJ f.offset=r.uI f:=by
 unfold It.gJ aN.uI;rw[h.ended];by_cases a:r.ended=true;have hl:=h.last (h.ended.trans a);have g:=h.hl (h.ended.trans a);rw[hl]at *;rw[a];by_cases c2:f.offset=r.end_;rw[dF_,dF_,c2];have c:(f.offset !=r.end_)=true:=by simpa using c2
 have d:(r.end_ !=f.offset)=true:=by simpa using λe=>c2 e.symm
 rw[c,d];rfl;have a:r.ended=false:=by simpa using a
 have b:E.given=false:=by
  by_cases b:E.given=true;have:=h.ge b;rw[h.ended,a]at this;cases this;simpa using b
 rw[a,h.high b];rfl
def jq.reset{r:aN}(h:jq E r)(f:Fr)(j:E.gJ f.offset=false):jq (E.reset f) (r.reset f):=by
 have c:=j;unfold It.gJ at c;simp only[oH,Bool.and_eq_false_iff,tq]at c;have d:E.ended=true->f.offset=E.last:=λe=>by
  obtain b|b:=c.1
  rw[e]at b;cases b;simpa using b
 have g:(E.reset f).h.fr=E.h.fr:=by
  show(if E.given then E.h else⟨E.h.fr,[],[]⟩:Hd).fr=E.h.fr;split<;>rfl
 refine⟨rfl,λ_=>rfl,rfl,λ_=>?_,by rw[g];exact h.fr,λe=>(by cases e),λ_=>?_,λ_=>rfl,h.over,?_,λe=>?_,λe=>(by cases e),λe=>(by cases e)⟩
 show(if E.given then E.code else f.code)=(if r.given then r.code else f.code)
 rw[<-h.given];split;rename_i a;exact h.code a;rfl;show E.high<=f.offset/\r.high<=f.offset;refine⟨by omega,?_⟩
 by_cases a:E.given=true;have i:=h.ge a;have:=(h.hl i).2;rw[d i];exact this;have a:E.given=false:=by simpa using a
 rw[<-h.high a];omega;obtain e|e|⟨e,-⟩:=h.st
 exact .inl e;exact .inr (.inl e);exact .inr (.inr ⟨e,rfl⟩);obtain⟨e1,e2⟩:=h.ov e;exact⟨rfl,by rw[g];show E.h.fr=f.offset;rw[d e1];exact e2⟩
def jq.busy{r:aN}(h:jq E r)(f:Fr)(ag:Int):E.busy f ag=(decide (r.state≠2)&&(!r.given&&decide (r.read+ag<aW f))):=by
 unfold It.busy;rw[h.given,h.fr];obtain e|e|⟨e,e2⟩:=h.st
 rw[e];simp;rw[e];simp;rw[h.given]at e2;rw[e2];simp
def zP{h:Hd}(d:bl h.af)(f:∀m,0<=m->m<h.fr->Sm h.af m)(q:0<=h.fr)(hp:∀m,Sm h.af m->0<=m)(e:0<=cV h):(∀j:Int,0<=j->j<cV h->Sm h.af (h.fr+j))/\¬Sm h.af (h.fr+cV h):=by
 unfold cV at *;cases k:h.af with
 |nil=>
  simp only[fe,true_or,fu]
  exact⟨λj b g=>by omega,fU _⟩
 |cons a l=>
  rw[k]at d e f;have e0:au (a::l) 0=a:=rfl;rw[e0]at e⊢;have i:∀m,Sm (a::l) m->a.lo<=m:=λm n=>by
   obtain b|b:=(eB a l m).1 n
   omega;have:=d.behind b;have:=d.2 a (by simp);omega
  by_cases c:0<a.lo;rw[aD (.inr c)];refine⟨λj b g=>by omega,λhs=>?_⟩
  have r:=i _ hs;have p:=f 0 (by omega) (by omega);have:=i _ p;omega;rw[az (by simp;omega)]at e⊢;refine⟨λj b g=>(eB a l _).2 (.inl (by omega)),λhs=>?_⟩
  obtain b|b:=(eB a l _).1 hs
  omega;have:=d.behind b;omega
def O2{r:aN}(h:jq E r)(ho:ik p E)(d:fZ r)(b:E.given=false):(r.kO:Int)=cV E.h:=by
 have e:=ho.whole;obtain⟨f,g⟩:=zP ho.ok (ho.low b) ho.fr (λm i=>(ho.kY m i).1) e.1;have k:=d.rd;have l:=h.fr;have n:(r.read.toNat:Int)=E.h.fr:=by omega
 by_cases c1:(r.kO:Int)<cV E.h;exfalso;have hs:=f r.kO (by omega) c1;have a:=(h.th b (r.read.toNat+r.kO)).2 (by rw[show((r.read.toNat+r.kO:Nat):Int)=E.h.fr+r.kO by push_cast;omega];exact hs);have hl:r.read.toNat+r.kO<r.there.length:=by
  by_cases c:r.read.toNat+r.kO<r.there.length;exact c;rw[List.getD,nQ (by omega)]at a;cases a
 have:=OL r hl;rw[List.getD,this]at a;cases a;by_cases c2:cV E.h<(r.kO:Int);exfalso;have j:=Ez r (cV E.h).toNat (by omega);have a:r.there.getD (r.read.toNat+(cV E.h).toNat) false=true:=by rw[List.getD,j];rfl
 have:=(h.th b _).1 a;rw[show((r.read.toNat+(cV E.h).toNat:Nat):Int)=E.h.fr+cV E.h by push_cast;omega]at this;exact g this;omega
def fZ.dJ{r:aN}(a:fZ r)(aF:Int):fZ (r.dJ aF):=by
 have hs:fZ r.start:=by
  unfold aN.start;split;exact⟨a.dl,a.tl,a.hi,a.e0,a.rd⟩
  exact a
 have c:=zK (p:=aF) hs;have b:fZ (r.start.lu (r.start.bf aF)):=⟨hs.dl,hs.tl,hs.hi,hs.e0,by have:=hs.rd;show 0<=r.start.read+_/\r.start.read+_<=r.start.high;omega⟩
 unfold aN.dJ aN.stop;split;exact⟨b.dl,b.tl,b.hi,b.e0,b.rd⟩
 exact b
def jq.read{r:aN}(h:jq E r)(ho:ik p E)(k:fZ r)(aF:Int):
 r.text aF=E.out aF/\(r.dJ aF).state=E.state aF/\(r.dJ aF).jx=E.jx/\jq (E.read aF) (r.dJ aF):=by
 have v:=ho.whole;by_cases w:E.given=true/\E.over=false;obtain⟨a,b⟩:=w;have x:r.given=true:=h.given▸a;have y:r.state≠1:=λe=>by have:=h.over.2 e;rw[b]at this;cases this
 have i:r.start={r with state:=2}:=by
  unfold aN.start;obtain e|e|⟨e,-⟩:=h.st
  rw[aD ⟨x,e⟩];exact absurd e y;rw[az (λq=>by have:=q.2;omega),<-e]
 have f:r.start.bf aF=0:=by rw[i];unfold aN.bf;rw[az (by simp)]
 have g:r.dJ aF={r with state:=2}:=by
  unfold aN.dJ;rw[f,i];unfold aN.stop aN.lu;rw[az (by simp)];simp
 have d:(E.given&& !E.over)=true:=by rw[a,b];rfl
 have l:E.read aF=E:=by unfold It.read;rw[aD d]
 refine⟨?_,?_,?_,?_⟩
 unfold aN.text It.out;rw[f,aD d];rfl;rw[g];unfold It.state;rw[aD d];rw[g];unfold aN.jx It.jx;rw[aD rfl,aD d];exact(h.code a).symm;rw[l,g];exact⟨h.ended,h.last,h.given,h.code,h.fr,h.high,h.hl,h.ge,by simp[b],.inr (.inr ⟨rfl,a⟩),h.ov,h.th,h.mO⟩
 have d:(E.given&& !E.over)=false:=by
  cases a:E.given;rfl;cases b:E.over;exact absurd ⟨a,b⟩ w;rfl
 by_cases b:E.over=true;have y:=h.over.1 b;obtain⟨C,H⟩:=h.ov b;have i:r.start=r:=by unfold aN.start;rw[az (λq=>by have:=q.2;omega)]
 have f:r.start.bf aF=0:=by rw[i];unfold aN.bf;rw[iN_]
 have g:r.dJ aF=r:=by
  unfold aN.dJ;rw[f,i];unfold aN.stop aN.lu;rw[az (λq=>by have:=q.2.2;simp only at this;omega)];simp
 have M:cV E.h<=0:=by
  by_cases a:E.given=true;unfold cV;rw[(ho.sU a).1];simp;have a:E.given=false:=by simpa using a
  by_cases c:cV E.h<=0;exact c;exfalso;obtain⟨z,-⟩:=zP ho.ok (ho.low a) ho.fr (λm n=>(ho.kY m n).1) v.1;have hs:=z 0 (by omega) (by omega);have I:=ho.fr;have s:=(h.th a E.h.fr.toNat).2 (by rw[show((E.h.fr.toNat:Nat):Int)=E.h.fr+0 by omega];exact hs);have hl:E.h.fr.toNat<r.there.length:=by
   by_cases c:E.h.fr.toNat<r.there.length;exact c;rw[List.getD,nQ (by omega)]at s;cases s
  have:=(h.hl C).2;have:=k.dl;have:=k.tl;omega
 have D:E.iT aF=0:=by unfold It.iT;omega
 have l:E.read aF=E:=by
  unfold It.read;rw[az (by rw[d];simp),D];have e1:(E.ended&&(E.h.fr+((0:Nat):Int)==E.last))=E.over:=by rw[C,b];simp[H]
  rw[e1];simp
 refine⟨?_,?_,?_,?_⟩
 unfold aN.text It.out;rw[f,az (by rw[d];simp),D];rfl;rw[g];unfold It.state;rw[az (by rw[d];simp),l,aD b];exact y;rw[g];unfold aN.jx It.jx;rw[iN_,az (by rw[d];simp)];rw[l,g];exact h;have b:E.over=false:=by simpa using b
 have a:E.given=false:=by
  by_cases a:E.given=true;exact absurd ⟨a,b⟩ w;simpa using a
 have x:r.given=false:=h.given▸a;have A:r.state=0:=by
  obtain e|e|⟨-,e⟩:=h.st
  exact e;have:=h.over.2 e;rw[b]at this;cases this;rw[a]at e;cases e
 have i:r.start=r:=by unfold aN.start;rw[az (λq=>by have:=q.1;rw[x]at this;cases this)]
 have O:=O2 h ho k a;have f:r.start.bf aF=E.iT aF:=by
  rw[i];unfold aN.bf It.iT;rw[aD A];omega
 have K:=zK (p:=aF) k;obtain⟨N,t⟩:=exq (E.iT aF);rw[<-t]at f;have P:(N:Int)<=cV E.h:=by rw[t];exact Er E aF v
 rw[i]at f;rw[f]at K;have F:=h.fr;have I:=ho.fr;obtain⟨z,-⟩:=zP ho.ok (ho.low a) ho.fr (λm n=>(ho.kY m n).1) v.1;have L:∀j:Nat,(j:Int)<cV E.h->r.there.getD (r.read.toNat+j) false=true:=λj u=>(h.th a _).2 (by rw[show((r.read.toNat+j:Nat):Int)=E.h.fr+j by push_cast;have:=k.rd;omega];exact z j (by omega) u)
 have l:E.read aF={E with h:=⟨E.h.fr+N,E.h.bytes.drop N,E.h.af⟩,over:=E.ended&&(E.h.fr+N==E.last)}:=by
  unfold It.read;rw[az (by rw[d];simp),<-t]
 have g:r.dJ aF=(r.lu N).stop:=by unfold aN.dJ;rw[i,f]
 have Q:=k.dl;have R:=k.tl;have S:=k.rd;have B:(r.lu N).stop={r.lu N with state:=if r.ended=true/\r.read+N=r.end_ then 1 else 0}:=by
  unfold aN.stop;by_cases c:r.ended=true/\r.read+N=r.end_;rw[aD ⟨c.1,c.2,A⟩,aD c];rw[az (λq=>c ⟨q.1,q.2.1⟩),az c];unfold aN.lu;rw[<-A]
 have G:(E.ended&&(E.h.fr+N==E.last))=decide (r.ended=true/\r.read+N=r.end_):=by
  rw[h.ended,F];by_cases c:r.ended=true;rw[h.last (h.ended.trans c),c];by_cases c2:r.read+N=r.end_;rw[dO ⟨rfl,c2⟩];simpa using c2;rw[eQ (λq=>c2 q.2)];simpa using c2;have c:r.ended=false:=by simpa using c
  rw[c,eQ (λq=>by cases q.1)];rfl
 refine⟨?_,?_,?_,?_⟩
 unfold aN.text It.out;rw[i,f,az (by rw[d];simp),<-t];apply List.ext_getElem?;intro j;by_cases u:j<N;rw[List.getElem?_take_of_lt u,List.getElem?_take_of_lt u,kR];have hd:=h.mO a (r.read.toNat+j) (by push_cast;omega) (L j (by omega));rw[show((((r.read.toNat+j:Nat)):Int)-E.h.fr).toNat=j by push_cast;omega]at hd;have b1:j<E.h.bytes.length:=by omega
 have b2:r.read.toNat+j<r.data.length:=by omega
 simp only[List.getD,eI b1,eI b2,Option.getD_some]at hd;rw[eI b1,eI b2,hd];rw[nQ (by rw[ct];omega),nQ (by rw[ct];omega)];have e1:E.state aF=if(E.ended&&(E.h.fr+N==E.last))=true then 1 else 0:=by
  unfold It.state;rw[az (by rw[d];simp),l]
 rw[e1,G,g,B];show(if r.ended=true/\r.read+N=r.end_ then(1:Int)else 0)=_;by_cases c:r.ended=true/\r.read+N=r.end_;rw[aD c,aD (dO c)];rw[az c,az (by rw[eQ c];simp)];have e2:E.jx=0:=by unfold It.jx;rw[az (by rw[d];simp)]
 rw[e2,g,B];unfold aN.jx;apply az;show¬(if r.ended=true/\r.read+N=r.end_ then(1:Int)else 0)=2;split<;>omega;rw[l,g,B];refine⟨h.ended,h.last,h.given,λe=>absurd (show E.given=true from e) (by rw[a];simp),?_,h.high,h.hl,h.ge,?_,?_,λe=>?_,h.th,λ_ m n s=>?_⟩
 show E.h.fr+N=r.read+N;rw[F];show(E.ended&&(E.h.fr+N==E.last))=true↔(if r.ended=true/\r.read+N=r.end_ then(1:Int)else 0)=1;rw[G,mX];by_cases c:r.ended=true/\r.read+N=r.end_;rw[aD c];simp[c];rw[az c];simp[c];show(if r.ended=true/\r.read+N=r.end_ then(1:Int)else 0)=0\/_;by_cases c:r.ended=true/\r.read+N=r.end_;right;left;show(if r.ended=true/\r.read+N=r.end_ then(1:Int)else 0)=1;rw[aD c];left;rw[az c];have e2:(E.ended&&(E.h.fr+N==E.last))=true:=e;simp only[lQ,beq_iff_eq]at e2;exact e2;have T:E.h.fr+N<=(m:Int):=n;have hd:=h.mO a m (by omega) s;show(E.h.bytes.drop N).getD ((m:Int)-(E.h.fr+N)).toNat 0=r.data.getD m 0;rw[<-hd];simp only[List.getD,kR]
 congr 2;omega
structure gG(o:Ot)(r:da):Prop where
 af:o.h.af=r.af.sp
 ck:fw r.af
 fr:o.h.fr=r.af.eM
 sg:o.sG=r.given
 se:r.given=false->o.sE=r.finished
 ay:o.ay=r.high
 gv:r.given=true->o.code=r.code/\r.end_=r.high/\o.sE=false
 lK:r.given=false->o.h.bytes=(aG r.data).drop o.h.fr.toNat
 sz:r.data.size<=4096
 rK:o.h.fr<=r.data.size
 hs:0<=r.high/\r.high<=r.data.size
 cb:∀m,Sm o.h.af m->m<r.data.size
def gG.new:gG Ot.new da.new:=by
 refine⟨rfl,fw.new,?_,rfl,λ_=>rfl,rfl,λe=>(by cases e),λ_=>rfl,iP _,cS _,⟨cS _,cS _⟩,λm a=>absurd a (fU m)⟩
 simp[Ot.new,da.new,cQ.xx,cQ.eM]
def gG.zQ{r:da}(h:gG f r)(a:r.given=false)(h0:0<=f.h.fr):(f.h.bytes.length:Int)=r.data.size-f.h.fr:=by
 rw[h.lK a,dM,fH];have:=h.rK;omega
def gG.fI{r:da}(h:gG f r)(a:r.given=false)(h0:0<=f.h.fr)(b:(f.h.bytes.length:Int)<=p)(n:Nat):((f.fI n p:Nat):Int)=min (min (p-(r.data.size-r.af.eM)) (4096-r.data.size)) n:=by
 have c:=h.zQ a h0;have d:=h.fr;have e:=h.sz;unfold Ot.fI;omega
def zS(a b:ByteArray):aG (a++b)=aG a++aG b:=by
 unfold aG;rw[ByteArray.data_append,Array.toList_append,mY]
def EK(b:ByteArray)(n:Nat):aG (b.extract 0 n)=(aG b).take n:=by
 unfold aG;rw[xN,Array.toList_extract];simp[List.extract]
def gG.write{r:da}(h:gG f r)(b:r.given=false)(h0:0<=f.h.fr)(c:(f.h.bytes.length:Int)<=p)(d:ByteArray):gG (f.wrote (aG d) p) {r with data:=r.data++d.extract 0 (f.fI (aG d).length p)}:=by
 have g:=h.fI b h0 c (aG d).length;have i:=h.sz;have j:=h.rK;have a:(r.data++d.extract 0 (f.fI (aG d).length p)).size=r.data.size+f.fI (aG d).length p:=by
  rw[<-fH,zS,EK,bH,fH,ct];omega
 refine⟨h.af,h.ck,h.fr,h.sg,h.se,h.ay,h.gv,λ_=>?_,?_,?_,?_,λm e=>?_⟩
 show f.h.bytes++(aG d).take _=(aG (r.data++_)).drop f.h.fr.toNat;rw[zS,EK,List.drop_append_of_le_length (by rw[fH];omega),h.lK b];show(r.data++_).size<=4096;rw[a];omega;show f.h.fr<=((r.data++_).size:Int);rw[a];omega;have:=h.hs;show 0<=r.high/\r.high<=((r.data++_).size:Int);rw[a];omega;have:=h.cb m e;show m<((r.data++_).size:Int);rw[a];omega
def gG.finish{r:da}(h:gG f r)(a:r.given=false):gG {f with sE:=true} {r with finished:=true}:=
 ⟨h.af,h.ck,h.fr,h.sg,λ_=>rfl,h.ay,λe=>absurd (show r.given=true from e) (by rw[a];simp),h.lK,h.sz,h.rK,h.hs,h.cb⟩
def gG.giveUp{r:da}(h:gG f r)(code:Int):gG (f.giveUp code) {r with given:=true,code:=code,end_:=r.high}:=
 ⟨h.af,h.ck,h.fr,rfl,λe=>(by cases e),h.ay,λ_=>⟨rfl,rfl,rfl⟩,λe=>(by cases e),h.sz,h.rK,h.hs,h.cb⟩
def O3(z:cQ):z.eM=if z.sp.length=0\/0<(au z.sp 0).lo then 0 else(au z.sp 0).hi:=by
 unfold cQ.eM cQ.sp;cases z.l with
 |nil=>simp
 |cons a l=>simp[au,cR]
structure EL(o a:Ot):Prop where
 ay:a.ay=o.ay
 sE:a.sE=o.sE
 sG:a.sG=o.sG
 code:a.code=o.code
def O4(L:List (Int×Pc)):∀(out:Nat->Ot)(k:Nat),EL (out k) (eH out L k):=by
 induction L with
 |nil=>intro out k;exact⟨rfl,rfl,rfl,rfl⟩
 |cons x L b=>
  intro out k;have e:eH out (x::L)=eH (ah out x.1.toNat ((out x.1.toNat).gz x.2)) L:=rfl;rw[e];obtain⟨c,d,f,g⟩:=b (ah out x.1.toNat ((out x.1.toNat).gz x.2)) k;have a:EL (out k) (ah out x.1.toNat ((out x.1.toNat).gz x.2) k):=by
   unfold ah;split;rename_i h;rw[h];exact⟨rfl,rfl,rfl,rfl⟩
   exact⟨rfl,rfl,rfl,rfl⟩
  exact⟨c.trans a.ay,d.trans a.sE,f.trans a.sG,g.trans a.code⟩
def O5(L:List (Int×Pc))(k:Nat):∀(out:Nat->Ot),bl (out k).h.af->bl (eH out L k).h.af/\∀m,Sm (eH out L k).h.af m↔Sm (out k).h.af m\/∃x∈L,x.1.toNat=k/\x.2.x.lo<=m/\m<x.2.x.hi:=by
 induction L with
 |nil=>intro out h;exact⟨h,λm=>⟨.inl,λe=>e.elim id (λ⟨x,d,_⟩=>by cases d)⟩⟩
 |cons x L f=>
  intro out h;have e:eH out (x::L)=eH (ah out x.1.toNat ((out x.1.toNat).gz x.2)) L:=rfl;rw[e];have c:bl (ah out x.1.toNat ((out x.1.toNat).gz x.2) k).h.af/\∀m,Sm (ah out x.1.toNat ((out x.1.toNat).gz x.2) k).h.af m↔Sm (out k).h.af m\/(x.1.toNat=k/\x.2.x.lo<=m/\m<x.2.x.hi):=by
   by_cases b:k=x.1.toNat;subst b;rw[bk];refine⟨nj _ h,λm=>?_⟩
   rw[show((out x.1.toNat).gz x.2).h.af=dB (out x.1.toNat).h.af x.2.x from rfl,jM _ h];simp;rw[bm _ _ b];refine⟨h,λm=>⟨.inl,λq=>q.elim id (λq=>absurd q.1.symm b)⟩⟩
  obtain⟨g,i⟩:=f _ c.1;refine⟨g,λm=>?_⟩
  rw[i m,c.2 m];constructor;rintro((q|q)|⟨y,a,q⟩);exact .inl q;exact .inr ⟨x,by simp,q⟩;exact .inr ⟨y,by simp[a],q⟩;rintro(q|⟨y,a,q⟩);exact .inl (.inl q);obtain rfl|a:=fF.1 a
  exact .inl (.inr q);exact .inr ⟨y,a,q⟩
def O6(h0:0<=f.h.fr)(h:f.h.bytes=L.drop f.h.fr.toNat)(p:Pc):0<=(f.gz p).h.fr/\(f.gz p).h.bytes=L.drop (f.gz p).h.fr.toNat:=by
 obtain⟨W,a⟩:=exq ((cV ⟨f.h.fr,f.h.bytes,dB f.h.af p.x⟩).toNat);have e1:(f.gz p).h.fr=f.h.fr+(W:Int):=by rw[a];rfl
 have e2:(f.gz p).h.bytes=f.h.bytes.drop W:=by rw[a];rfl
 refine⟨by omega,?_⟩
 rw[e2,e1,h,tz];congr 1;omega
def O7(L:List (Int×Pc))(d:List Int)(k:Nat):∀(out:Nat->Ot),0<=(out k).h.fr->(out k).h.bytes=d.drop (out k).h.fr.toNat->0<=(eH out L k).h.fr/\(eH out L k).h.bytes=d.drop (eH out L k).h.fr.toNat:=by
 induction L with
 |nil=>intro out h0 h;exact⟨h0,h⟩
 |cons x L b=>
  intro out h0 h;have e:eH out (x::L)=eH (ah out x.1.toNat ((out x.1.toNat).gz x.2)) L:=rfl;rw[e];by_cases a:k=x.1.toNat;have:=O6 h0 h x.2;refine b _ ?_ ?_<;>rw[a,bk,<-a];exact this.1;exact this.2;refine b _ ?_ ?_<;>rw[bm _ _ a];exact h0;exact h
def ox(f:Fr)(k:Nat)(m:Int):Prop:=f.kind=5/\0<f.data.size/\f.stream.toNat=k/\f.offset<=m/\m<aW f
def O8{o:Nat->da}(h:∀k,k<4->fw (o k).af)(d:qQ G)(k:Nat)(c:k<4):
 (∃z,pd o G k={o k with af:=z})/\∀m,Sm (pd o G k).af.sp m↔Sm (o k).af.sp m\/ox G k m:=by
 unfold pd;split;rename_i a;obtain⟨f,g,e,i⟩:=d a.1 a.2;by_cases b:k=G.stream.toNat;subst b;rw[bk];obtain⟨e1,e2⟩:=(h _ c).EA e (show G.offset<=G.offset+G.data.size-1 by omega) (by omega);refine⟨⟨_,rfl⟩,λm=>?_⟩
 simp only
 rw[e2,jM _ (h _ c).ok];unfold ox aW;simp only
 constructor;rintro(q|q);exact .inl q;exact .inr ⟨a.1,a.2,trivial,by omega,by omega⟩;rintro(q|q);exact .inl q;exact .inr (by omega);rw[bm _ _ b];exact⟨⟨_,rfl⟩,λm=>⟨.inl,λq=>q.elim id (λq=>absurd q.2.2.1.symm b)⟩⟩
 rename_i a;exact⟨⟨_,rfl⟩,λm=>⟨.inl,λq=>q.elim id (λq=>absurd ⟨q.1,q.2.1⟩ a)⟩⟩
def O9(q:List Fr):∀{o:Nat->da},(∀f∈q,qQ f)->(∀k,k<4->fw (o k).af)->∀(k:Nat),k<4->(∃z,q.foldl pd o k={o k with af:=z})/\∀m,Sm (q.foldl pd o k).af.sp m↔Sm (o k).af.sp m\/∃f∈q,ox f k m:=by
 induction q with
 |nil=>intro o _ _ k _;exact⟨⟨_,rfl⟩,λm=>⟨.inl,λe=>e.elim id (λ⟨f,b,_⟩=>by cases b)⟩⟩
 |cons f q i=>
  intro o b h k d;obtain⟨⟨n,e1⟩,j⟩:=O8 h (b f (by simp)) k d;obtain⟨⟨z2,e2⟩,l⟩:=i (o:=pd o f) (λg a=>b g (by simp[a])) (EC h (b f (by simp))) k d;rw[mq];refine⟨⟨z2,by rw[e2,e1]⟩,λm=>?_⟩
  rw[l m,j m];constructor;rintro((c|c)|⟨g,a,c⟩);exact .inl c;exact .inr ⟨f,by simp,c⟩;exact .inr ⟨g,by simp[a],c⟩;rintro(c|⟨g,a,c⟩);exact .inl (.inl c);obtain rfl|a:=fF.1 a
  exact .inl (.inr c);exact .inr ⟨g,a,c⟩
def rL(l:List Rg)(q:List (Int×List Fr)):∀{o:Nat->da},(∀x∈q,∀f∈x.2,qQ f)->(∀k,k<4->fw (o k).af)->∀(k:Nat),k<4->(∃z,q.foldl (ot l) o k={o k with af:=z})/\∀m,Sm (q.foldl (ot l) o k).af.sp m↔Sm (o k).af.sp m\/∃x∈q,bN l x.1=true/\∃f∈x.2,ox f k m:=by
 induction q with
 |nil=>intro o _ _ k _;exact⟨⟨_,rfl⟩,λm=>⟨.inl,λe=>e.elim id (λ⟨f,b,_⟩=>by cases b)⟩⟩
 |cons x q j=>
  intro o b h k i;obtain⟨⟨z2,e2⟩,n⟩:=j (o:=ot l o x) (λg a=>b g (by simp[a])) (ED (b x (by simp)) h) k i;have p:(∃z,ot l o x k={o k with af:=z})/\∀m,Sm (ot l o x k).af.sp m↔Sm (o k).af.sp m\/(bN l x.1=true/\∃f∈x.2,ox f k m):=by
   unfold ot;split;rename_i d;obtain⟨r,s⟩:=O9 x.2 (b x (by simp)) h k i;exact⟨r,λm=>by rw[s m];simp[d]⟩
   rename_i d;exact⟨⟨_,rfl⟩,λm=>⟨.inl,λc=>c.elim id (λc=>absurd c.1 d)⟩⟩
  obtain⟨⟨u,e1⟩,t⟩:=p;rw[mq];refine⟨⟨z2,by rw[e2,e1]⟩,λm=>?_⟩
  rw[n m,t m];constructor;rintro((c|c)|⟨g,a,c⟩);exact .inl c;exact .inr ⟨x,by simp,c⟩;exact .inr ⟨g,by simp[a],c⟩;rintro(c|⟨g,a,c⟩);exact .inl (.inl c);obtain rfl|a:=fF.1 a
  exact .inl (.inr c);exact .inr ⟨g,a,c⟩
def sY{z:cQ}(h:fw z):0<=z.eM/\(∀m,0<=m->m<z.eM->Sm z.sp m)/\¬Sm z.sp z.eM:=by
 have h0:∀m,Sm z.sp m->0<=m:=λm ⟨r,f,e,b⟩=>by
  obtain⟨q,g,rfl⟩:=fg.1 f;have:=(h.bd q g).1;simp only[cR]at e;omega
 rw[O3];by_cases c:z.sp.length=0\/0<(au z.sp 0).lo;rw[aD c];refine⟨cS _,λm e b=>by omega,λhs=>?_⟩
 have d:=h.ok;cases hl:z.sp with
 |nil=>rw[hl]at hs;exact fU 0 hs
 |cons a q=>
  rw[hl]at hs c d;obtain c|c:=c
  simp at c;have c:0<a.lo:=c;obtain b|b:=(eB a q 0).1 hs
  omega;have:=d.behind b;have:=d.2 a (by simp);omega
 rw[az c];obtain⟨k,l,i,j⟩:=BN h.ok h0 c;exact⟨by omega,i,j⟩
def Pb{S:Int->Prop}(a:0<=p)(b:0<=q)(e:∀m,0<=m->m<p->S m)(f:¬S p)(g:∀m,0<=m->m<q->S m)(h:¬S q):p=q:=by
 by_cases c:p<q;exact absurd (g p a c) f;by_cases d:q<p;exact absurd (e q b d) h;omega
structure qc(s:Sd)(m:ai):Prop where
 told:∀x∈m.ay,∀f∈x.2,∀k,k<4->∀b,ox f k b->Sm (s.out k).h.af b\/∃p∈s.aM++s.lost,p.num=x.1/\p.st.toNat=k/\∃q∈p.ps,q.x.lo<=b/\b<q.x.hi
 back:∀p∈s.aM++s.lost,∀q∈p.ps,∀b,q.x.lo<=b->b<q.x.hi->∃x∈m.ay,x.1=p.num/\∃f∈x.2,ox f p.st.toNat b
 fz:∀x∈m.ay,∀f∈x.2,f.kind=5->0<f.data.size->aW f<=(m.outs f.stream.toNat).data.size
 kq:uH m
def EM{q:Pk->Bool}{l:List Pk}{y:Int×Pc}:y∈ns q l↔∃x∈l,q x=true/\y.1=x.st/\y.2∈x.ps:=by
 unfold ns;rw[vu];constructor;rintro⟨x,a,h⟩;split at h;rename_i b;obtain⟨p,hp,rfl⟩:=fg.1 h;exact⟨x,a,b,rfl,hp⟩
 cases h;rintro⟨x,a,b,c,d⟩;refine⟨x,a,?_⟩
 rw[aD b];exact fg.2 ⟨y.2,d,by rw[<-c]⟩
def Pd(ho:∀k,k<4->gG (s.out k) (Y.outs k))(g:qc s Y)(F:∀k,k<4->gC (s.out k))(X:∀x∈s.aM++s.lost,0<=x.st/\x.st<4/\∀p∈x.ps,lG p)(l:List Rg):
 (∀k,k<4->gG ((s.eh l).out k) ((Y.ly l).outs k))/\qc (s.eh l) (Y.ly l):=by
 obtain⟨L,P⟩:=exq (ns (λx=>bN l x.num) s.aM++ns (λx=>bN l x.num) s.lost);have G:∀y,y∈L↔∃p∈s.aM++s.lost,bN l p.num=true/\y.1=p.st/\y.2∈p.ps:=λy=>by
  rw[P,bQ,EM,EM];constructor;rintro(⟨x,d,h⟩|⟨x,d,h⟩);exact⟨x,iO _ d,h⟩
  exact⟨x,jW _ d,h⟩
  rintro⟨x,d,h⟩;obtain d|d:=bQ.1 d
  exact .inl ⟨x,d,h⟩;exact .inr ⟨x,d,h⟩
 have C:(s.eh l).out=eH s.out L:=by rw[P];rfl
 have w:∀k,k<4->gC ((s.eh l).out k):=λk a=>by
  rw[C];exact yK F L (λy H=>by
   obtain⟨p,hp,-,-,h⟩:=(G y).1 H;exact(X p hp).2.2 _ h) k a
 have A:∀k,k<4->fw (Y.outs k).af:=λk a=>(ho k a).ck
 have I:∀k,k<4->∀b,Sm ((s.eh l).out k).h.af b↔Sm (s.out k).h.af b\/∃p∈s.aM++s.lost,bN l p.num=true/\p.st.toNat=k/\∃q∈p.ps,q.x.lo<=b/\b<q.x.hi:=λk a b=>by
  rw[C,(O5 L k s.out (F k a).ok).2 b];constructor;rintro(h|⟨y,H,i,u⟩);exact .inl h;obtain⟨p,hp,m,e1,e2⟩:=(G y).1 H;exact .inr ⟨p,hp,m,by rw[<-e1];exact i,y.2,e2,u⟩;rintro(h|⟨p,hp,m,i,q,v,u⟩);exact .inl h;exact .inr ⟨(p.st,q),(G _).2 ⟨p,hp,m,rfl,v⟩,i,u⟩
 have Q:∀k,k<4->∀b,Sm ((s.eh l).out k).h.af b↔Sm ((Y.ly l).outs k).af.sp b:=λk a b=>by
  rw[I k a b];have hd:=(rL l Y.ay g.kq A k a).2 b;rw[show((Y.ly l).outs k)=Y.ay.foldl (ot l) Y.outs k from rfl,hd,<-(ho k a).af];constructor;rintro(h|⟨p,hp,m,i,q,v,u,K⟩);exact .inl h;obtain⟨x,d,e1,f,n,t⟩:=g.back p hp q v b u K;exact .inr ⟨x,d,by rw[e1];exact m,f,n,by rw[<-i];exact t⟩;rintro(h|⟨x,d,m,f,n,t⟩);exact .inl h;obtain h|⟨p,hp,e1,e2,h⟩:=g.told x d f n k a b t
  exact .inl h;exact .inr ⟨p,hp,by rw[e1];exact m,e2,h⟩
 refine⟨λk a=>?_,⟨λx d f n k a b t=>?_,λp hp q v b i u=>?_,λx d f n D h0=>?_,g.kq⟩⟩
 obtain⟨⟨z,j⟩,-⟩:=rL l Y.ay g.kq A k a;have j:(Y.ly l).outs k={Y.outs k with af:=z}:=j;have M:fw ((Y.ly l).outs k).af:=EF g.kq A k a;have T:((s.eh l).out k).h.af=((Y.ly l).outs k).af.sp:=(w k a).ok.unique M.ok (Q k a);obtain⟨p0,U,p2⟩:=sY M;have al:((s.eh l).out k).h.fr=((Y.ly l).outs k).af.eM:=by
  rw[<-T]at U p2;exact Pb (S:=λb=>Sm ((s.eh l).out k).h.af b) (w k a).fr p0 (w k a).low (w k a).hole U p2
 have R:=ho k a;have V:∀b,Sm ((s.eh l).out k).h.af b->b<(Y.outs k).data.size:=λb hb=>by
  have hd:=(rL l Y.ay g.kq A k a).2 b;obtain h|⟨x,d,-,f,n,t⟩:=hd.1 ((Q k a b).1 hb)
  rw[<-R.af]at h;exact R.cb b h;have:=g.fz x d f n t.1 t.2.1;rw[t.2.2.1]at this;have:=t.2.2.2.2;omega
 have sm:=O4 L s.out k;rw[<-C]at sm;have B:((Y.ly l).outs k).data=(Y.outs k).data:=by rw[j]
 have E:((Y.ly l).outs k).given=(Y.outs k).given:=by rw[j]
 have aC:((Y.ly l).outs k).finished=(Y.outs k).finished:=by rw[j]
 have N:((Y.ly l).outs k).high=(Y.outs k).high:=by rw[j]
 have a0:((Y.ly l).outs k).code=(Y.outs k).code:=by rw[j]
 have a1:((Y.ly l).outs k).end_=(Y.outs k).end_:=by rw[j]
 refine⟨T,M,al,by rw[sm.sG,E];exact R.sg,λe=>?_,by rw[sm.ay,N];exact R.ay,λe=>?_,λe=>?_,by rw[B];exact R.sz,?_,by rw[N,B];exact R.hs,by rw[B];exact V⟩
 rw[E]at e;rw[sm.sE,aC];exact R.se e;rw[E]at e;rw[sm.code,sm.sE,a0,a1,N];exact R.gv e;rw[E]at e;have:=(O7 L (aG (Y.outs k).data) k s.out (F k a).fr (R.lK e)).2;rw[<-C]at this;rw[B];exact this;rw[B];by_cases c:((s.eh l).out k).h.fr=0;omega;have h0:=(w k a).fr;have:=V _ ((w k a).low (((s.eh l).out k).h.fr-1) (by omega) (by omega));omega;obtain h|⟨p,hp,e1,e2,q,v,h⟩:=g.told x d f n k a b t
 exact .inl ((I k a b).2 (.inl h));by_cases m:bN l p.num=true;exact .inl ((I k a b).2 (.inr ⟨p,hp,m,e2,q,v,h⟩));by_cases W:p∈(s.eh l).aM++(s.eh l).lost;exact .inr ⟨p,W,e1,e2,q,v,h⟩;left;have O:(!bN l p.num)=true:=by simpa using m
 have i:p∈(s.eJ l).aM++(s.eJ l).lost:=by
  unfold Sd.eJ;simp only
  obtain hp|hp:=bQ.1 hp
  by_cases c:decide (p.num+3<=(au l 0).hi)=true;exact jW _ (jW _ (iG.2 ⟨iG.2 ⟨hp,O⟩,c⟩));exact iO _ (iG.2 ⟨iG.2 ⟨hp,O⟩,by simpa using c⟩);exact jW _ (iO _ (iG.2 ⟨hp,O⟩))
 have u:p.ps.all (lg ((s.eJ l).out p.st.toNat))=true:=by
  by_cases c:p.ps.all (lg ((s.eJ l).out p.st.toNat))=true;exact c;exfalso;apply W;obtain i|i:=bQ.1 i
  exact iO _ i;exact jW _ (iG.2 ⟨i,by simpa using c⟩)
 have K:=List.all_eq_true.1 u q v;have h4:=(Cj _ _).1 K;obtain D|⟨r,hr,D,h6⟩:=h4.1
 omega;have:Sm ((s.eJ l).out p.st.toNat).h.af b:=⟨r,hr,by omega,by omega⟩
 rw[e2]at this;exact this;have a4:p∈s.aM++s.lost:=by
  have a8:∀p,p∈(s.eJ l).aM++(s.eJ l).lost->p∈s.aM++s.lost:=λp hp=>by
   unfold Sd.eJ at hp;simp only at hp;obtain hp|hp:=bQ.1 hp
   exact iO _ (iG.1 (iG.1 hp).1).1;obtain hp|hp:=bQ.1 hp
   exact jW _ (iG.1 hp).1;exact iO _ (iG.1 (iG.1 hp).1).1
  apply a8;obtain hp|hp:=bQ.1 hp
  exact iO _ hp;exact jW _ (iG.1 hp).1
 exact g.back p a4 q v b i u;have bb:=g.kq x d f n D h0;have a:f.stream.toNat<4:=by omega
 obtain⟨⟨z,j⟩,-⟩:=rL l Y.ay g.kq A _ a;have j:(Y.ly l).outs f.stream.toNat={Y.outs f.stream.toNat with af:=z}:=j;rw[j];exact g.fz x d f n D h0
structure iD(s:Sd)(m:ai):Prop where
 aj:m.aj=s.aj
 ag:m.ag=s.ag
 key:m.key=s.key
 me:m.me=if s.first then 0 else 1
 cl:m.closed=0
 said:m.said=false
 next:m.next=s.count
 out:∀k,k<4->gG (s.out k) (m.outs k)
 aL:∀k,k<4->jq (s.aL k) (m.ins k)
 gO:∀k,k<4->fZ (m.ins k)
 fl:qc s m
def qc.ins(h:qc s Y)(i:Nat->It)(j:Nat->aN):qc {s with aL:=i} {Y with ins:=j}:=⟨h.told,h.back,h.fz,h.kq⟩
def iD.nE(h:iD s Y)(k:Nat)(i:It)(r:aN)(b:k<4->jq i r)(c:k<4->fZ r):iD {s with aL:=ah s.aL k i} {Y with ins:=ah Y.ins k r}:=by
 refine⟨h.aj,h.ag,h.key,h.me,h.cl,h.said,h.next,h.out,λj a=>?_,λj a=>?_,h.fl.ins _ _⟩
 by_cases e:j=k;subst e;simp only[bk];exact b a;simp only[bm _ _ e];exact h.aL j a;by_cases e:j=k;subst e;simp only[bk];exact c a;simp only[bm _ _ e];exact h.gO j a
def iD.due(h:iD s Y)(d:List Int):iD s {Y with due:=d}:=⟨h.aj,h.ag,h.key,h.me,h.cl,h.said,h.next,h.out,h.aL,h.gO,⟨h.fl.told,h.fl.back,h.fl.fz,h.fl.kq⟩⟩
def iD.nums(h:iD s Y)(c:List Rg)(fl:Int)(o:Bool)(g e:cQ):iD {s with af:=c,floor:=fl,eN:=o} {Y with dW:=g,bT:=e}:=⟨h.aj,h.ag,h.key,h.me,h.cl,h.said,h.next,h.out,h.aL,h.gO,⟨h.fl.told,h.fl.back,h.fl.fz,h.fl.kq⟩⟩
def iD.note(h:iD s Y)(f:Fr)(n:Int):iD s (Y.note f n):=by
 unfold ai.note;split;exact h.due _;exact h
def iD.busy(h:iD s Y)(f:Fr)(b:f.kind=5->0<=f.stream/\f.stream<4):s.fX f=Y.fX f:=by
 unfold Sd.fX ai.fX;by_cases a:f.kind=5;have:=b a;rw[(h.aL f.stream.toNat (by omega)).busy f s.ag,h.ag];rw[eQ a];rfl
def Pe(h:iD s Y)(hs:bY s n)(f:cT G)(ho:0<=G.offset)(i:mG s G)(j:G.kind=5->(Y.ins G.stream.toNat).given=false->aW G<=100000000):(Y.take G).1=(s.take G).1/\iD (s.take G).2 (Y.take G).2:=by
 have r:=f.st;have a:G.stream.toNat<4:=by omega
 unfold Sd.take ai.take;by_cases c:G.kind=3;rw[aD c,aD c,h.next];split;exact⟨rfl,h⟩
 obtain⟨k,l⟩:=Pd h.out h.fl hs.out hs.pk G.ranges;exact⟨rfl,⟨h.aj,h.ag,h.key,h.me,h.cl,h.said,h.next,k,h.aL,h.gO,l⟩⟩
 rw[az c,az c];by_cases d:G.kind=4;rw[aD d,aD d,(h.aL _ a).gJ G];split;exact⟨rfl,h⟩
 rename_i m;have p:(s.aL G.stream.toNat).gJ G.offset=false:=by rw[(h.aL _ a).gJ G];simpa using m
 exact⟨rfl,h.nE _ _ _ (λ_=>(h.aL _ a).reset G p) (λ_=>(h.gO _ a).reset ho f.1.1)⟩
 rw[az d,az d];by_cases b:G.kind=5;rw[aD b,aD b];cases g:(s.aL G.stream.toNat).bad G;have t:(s.aL G.stream.toNat).given=(Y.ins G.stream.toNat).given:=(h.aL _ a).given;obtain⟨d1,d2⟩:=(h.aL _ a).data (hs.aL _ a) (h.gO _ a) G ho g (λe=>i b e);rw[d1];exact⟨rfl,h.nE _ _ _ (λ_=>d2) (λ_=>(h.gO _ a).bytes ho (f.en b) (j b))⟩
 have q:(Y.ins G.stream.toNat).bad G=true:=by rw[<-(h.aL _ a).bad G];exact g
 have e:(Y.ins G.stream.toNat).bytes G=(7,Y.ins G.stream.toNat):=by unfold aN.bytes;rw[q];rfl
 rw[e];refine⟨rfl,?_⟩
 simp only[fu,my]
 exact h;rw[az b,az b];split;exact⟨rfl,h⟩
 exact⟨rfl,h⟩
def Pf(q:n<=100000)(num:Int):∀(a:List Fr)(s:Sd)(m:ai),iD s m->bY s n->(∀f∈a,cT f/\0<=f.offset/\mG s f/\(f.kind=5->(m.ins f.stream.toNat).given=false->aW f<=100000000))->
 (ai.fx num a m).1=(dm s a).1/\((dm s a).1=0->iD (dm s a).2 (ai.fx num a m).2)/\((dm s a).1≠0->∃b,iD (dm s a).2 b/\(ai.fx num a m).2=b.fail (dm s a).1):=by
 intro a;induction a with
 |nil=>intro s m h _ _;exact⟨rfl,λ_=>h,λe=>absurd rfl e⟩
 |cons f a r=>
  intro s m h hs d;obtain⟨f1,f2,f3,f4⟩:=d f (by simp);obtain⟨t1,t2⟩:=Pe h hs f1 f2 f3 f4;have i:=take_same s f;have e1:dm s (f::a)=if(s.take f).1=0 then dm (s.take f).2 a else s.take f:=rfl
  have e2:ai.fx num (f::a) m=if(m.take f).1=0 then ai.fx num a ((m.take f).2.note f num)else((m.take f).1,(m.take f).2.fail (m.take f).1):=rfl
  rw[e1,e2,t1];by_cases c:(s.take f).1=0;rw[aD c,aD c];refine r _ _ (t2.note f num) (zF hs q f1 f2 f3) (λg t=>?_);obtain⟨j,u,v,w⟩:=d g (by simp[t]);refine⟨j,u,v.same i,λx k=>w x ?_⟩
  have l:g.stream.toNat<4:=by have:=j.st;omega
  have p:((m.take f).2.ins g.stream.toNat).given=false:=by rw[(uK _ f num).2.2.1]at k;exact k
  rw[<-(t2.aL _ l).given]at p;have:=(i.aL g.stream.toNat).2;rw[<-(h.aL _ l).given];exact this p;rw[az c,az c];exact⟨rfl,λe=>absurd e c,λ_=>⟨_,t2,rfl⟩⟩
structure sZ(af:List Rg)(floor:Int)(z:cQ):Prop where
 sp:z.sp=af
 fl:z.floor=floor
 mo:z.aF=8
 f0:0<=floor/\floor<=4611686018427387904
 ab:∀n,Sm af n->floor<=n
 ne:floor=0\/∃d,Sm af d
def sZ.has{z:cQ}(h:sZ D p z)(n:Int):z.has n=iW D p n:=by
 unfold cQ.has iW;rw[h.fl,<-h.sp];unfold cQ.sp;rw[List.any_map];congr 1;congr 1;funext r;simp only[Function.comp,cR]
 congr 1;apply decide_eq_decide.2;omega
def Pg(l:List Rg)(i:Nat)(h:i<l.length):au (l.map cR) i=cR (au l i):=by
 simp[au,List.getD,h]
def sZ.add{z:cQ}(h:sZ D p z)(hs:bl D)(n:∀r∈D,0<=r.lo/\r.hi<=4611686018427387904)(F:0<=t/\t<=4611686018427387903)(hp:iW D p t=false):
 sZ (fh D p t).1 (fh D p t).2 (z.add t t)/\p<=(fh D p t).2/\∀d,(Sm D d\/d=t)->d<(fh D p t).2\/Sm (fh D p t).1 d:=by
 obtain⟨G,H⟩:=D5 hp;have k:=h.sp;have I:=h.f0;have e1:max t z.floor=t:=by rw[h.fl];omega
 have e2:=xu (D:=z.l) (cS t) (by rw[show z.l.map cR=z.sp from rfl,k];exact hs);rw[show z.l.map cR=z.sp from rfl,k]at e2;obtain⟨E,m⟩:=exq ((qa t t z.l).end_);rw[<-m]at e2;have s:z.add t t=z.put E:=by unfold cQ.add;rw[e1,iN_,m]
 have i:E.length=(dB D ⟨t,t+1⟩).length:=by rw[<-e2,dH]
 have f:bl (dB D ⟨t,t+1⟩):=nj _ hs;have b:∀d,Sm (dB D ⟨t,t+1⟩) d↔Sm D d\/(t<=d/\d<t+1):=λd=>jM _ hs d
 have j:∀d,Sm (dB D ⟨t,t+1⟩) d->p<=d:=λd hd=>by
  obtain q|q:=(b d).1 hd
  exact h.ab d q;omega
 unfold fh;rw[s];unfold cQ.put;rw[h.mo,i];by_cases c:8<(dB D ⟨t,t+1⟩).length;rw[aD c,aD (show(8:Int)<((dB D ⟨t,t+1⟩).length:Int) by omega)];simp only
 cases hl:dB D ⟨t,t+1⟩with
 |nil=>rw[hl]at c;simp at c
 |cons a q=>
  have e0:au (a::q) 0=a:=rfl;rw[e0];rw[hl]at e2 f b j i;have u:0<E.length:=by rw[i];simp
  have v:cR (au E 0)=a:=by rw[<-Pg E 0 u,e2];rfl
  have w:=f.2 a (by simp);have K:=j a.lo ((eB a q _).2 (.inl ⟨cS _,w⟩));have x:(au E 0).hi+1=a.hi:=by rw[<-v];rfl
  have A:a.hi<=4611686018427387904:=by
   obtain⟨r,B,L,M⟩|g:=(b (a.hi-1)).1 ((eB a q _).2 (.inl ⟨by omega,by omega⟩))
   have:=(n r B).2;omega;omega
  refine⟨⟨?_,x,rfl,⟨by omega,A⟩,λd hd=>?_,?_⟩,by omega,λd hd=>?_⟩
  show(E.drop 1).map cR=q;rw[List.map_drop,e2];rfl;have:=f.behind hd;omega;cases q with
  |nil=>rw[hl]at c;simp at c
  |cons y q=>exact .inr ⟨y.lo,(eB y q _).2 (.inl ⟨cS _,f.2 y (by simp)⟩)⟩
  have C:Sm (a::q) d:=(b d).2 (hd.imp id (λe=>by omega));obtain g|g:=(eB a q d).1 C
  exact .inl g.2;exact .inr g
 rw[az c,az (show¬(8:Int)<((dB D ⟨t,t+1⟩).length:Int) by omega)];simp only
 refine⟨⟨e2,h.fl,rfl,h.f0,j,.inr ⟨t,(b t).2 (.inr ⟨cS _,by omega⟩)⟩⟩,cS _,λd hd=>.inr ((b d).2 (hd.imp id (λe=>by omega)))⟩
structure s6(af:List Rg)(z:cQ)(n:Nat):Prop where
 ok:bl z.sp
 bd:∀r∈z.l,0<=r.lo/\r.hi<=4611686018427387903
 fl:z.floor=0
 mo:z.aF=1073741824
 len:z.l.length<=n
 all:∀d,Sm af d->Sm z.sp d
def s6.add{g:List Rg}{z:cQ}(h:s6 D z n)(w:n<=1000000)(x:0<=p/\p<=4611686018427387903)(k:∀d,Sm g d->Sm D d\/d=p):s6 g (z.add p p) (n+1):=by
 have e1:max p z.floor=p:=by rw[h.fl];omega
 have e2:=xu (D:=z.l) (cS p) h.ok;obtain⟨E,i⟩:=exq ((qa p p z.l).end_);rw[<-i]at e2;have y:E.length<=z.l.length+1:=by
  have:=tS (z.l.map cR) ⟨p,p+1⟩;rw[<-e2,dH,dH]at this;exact this
 have a:z.add p p={z with l:=E}:=by
  unfold cQ.add cQ.put;rw[e1,iN_,<-i,az (by rw[h.mo];have:=h.len;omega)]
 have b:(z.add p p).sp=dB z.sp ⟨p,p+1⟩:=by rw[a];exact e2
 refine⟨by rw[b];exact nj _ h.ok,λr m=>?_,by rw[a];exact h.fl,by rw[a];exact h.mo,?_,λd hd=>?_⟩
 have c:cR r∈(z.add p p).sp:=fg.2 ⟨r,m,rfl⟩;have s:bl (z.add p p).sp:=by rw[b];exact nj _ h.ok
 have hp:=s.2 _ c;have j:∀d,Sm (z.add p p).sp d->0<=d/\d<=4611686018427387903:=λd hd=>by
  rw[b,jM _ h.ok]at hd;obtain⟨q,t,e,f⟩|⟨e,f⟩:=hd
  obtain⟨u,v,rfl⟩:=fg.1 t;have:=h.bd u v;simp only[cR]at e f;omega;simp only at e f;omega
 simp only[cR]at hp;have A:=j r.lo ⟨_,c,by simp only[cR];omega,by simp only[cR];omega⟩;have B:=j r.hi ⟨_,c,by simp only[cR];omega,by simp only[cR];omega⟩;omega;rw[a];have:=h.len;show E.length<=n+1;omega;rw[b,jM _ h.ok];obtain q|q:=k d hd
 exact .inl (h.all d q);exact .inr (by simp only;omega)
def rM(m:ai)(n:Nat):Prop:=∀k,k<4->(m.ins k).read<=1024*n/\(m.ins k).high<=(m.ins k).read+m.ag
structure dK(s:Sd)(m:ai)(n:Nat):Prop where
 c:iD s m
 dW:sZ s.af s.floor m.dW
 bT:s6 s.af m.bT n
 due:∀d∈m.due,d<s.floor\/(Sm s.af d/\s.eN=true)
 dl:m.due.length<=n
 rd:rM m n
 sl:(m.ay.length:Int)<=m.next
structure xz(aA:Int)(l:List (List Int))(m:ai):Prop where
 cl:m.closed=aA
 w0:aA≠0
 Sz:if m.said then l=[]else l=[cK m.key m.me m.next (bp [cz m.code])]
 key:dD m.key
 me:m.me=0\/m.me=1
 aj:64<=m.aj/\m.aj<=300
 nx:0<=m.next/\m.next<=100000001/\(m.said=false->m.next<=100000000)
 code:0<=m.code/\m.code<=4611686018427387903
def Rel:aJ->ai->Nat->Prop
 |.aE s,m,n=>dK s m n
 |.shut aA l,m,_=>xz aA l m
def dK.mono(h:dK s Y n)(a:n<=i):dK s Y i:=
 ⟨h.c,h.dW,⟨h.bT.ok,h.bT.bd,h.bT.fl,h.bT.mo,bD h.bT.len a,h.bT.all⟩,h.due,bD h.dl a,λk b=>by have:=h.rd k b;omega,h.sl⟩
def iD.aT(h:iD s Y):Y.me=aT s.first/\1-Y.me=aT (!s.first)/\(Y.me=0\/Y.me=1):=by
 rw[h.me];cases s.first<;>simp[Go.Proofs.YtjnmokmchdfchaaGreatDoor.aT]
def EN(num:Int):∀(c:List Fr)(m:ai),rI m (ai.fx num c m).2\/(ai.fx num c m).1≠0:=by
 intro c;induction c with
 |nil=>intro m;exact .inl ⟨rfl,rfl,rfl,rfl,rfl,rfl,rfl,rfl,rfl,rfl,rfl⟩
 |cons f c d=>
  intro m;have e2:ai.fx num (f::c) m=if(m.take f).1=0 then ai.fx num c ((m.take f).2.note f num)else((m.take f).1,(m.take f).2.fail (m.take f).1):=rfl
  rw[e2];split;obtain h|h:=d ((m.take f).2.note f num)
  left;have a:=(xv m f).1;have b:=(uK (m.take f).2 f num).1;exact⟨h.aj.trans (b.aj.trans a.aj),h.ag.trans (b.ag.trans a.ag),h.key.trans (b.key.trans a.key),h.me.trans (b.me.trans a.me),h.closed.trans (b.closed.trans a.closed),h.code.trans (b.code.trans a.code),h.said.trans (b.said.trans a.said),h.next.trans (b.next.trans a.next),h.dW.trans (b.dW.trans a.dW),h.bT.trans (b.bT.trans a.bT),h.ay.trans (b.ay.trans a.ay)⟩
  exact .inr h;rename_i e;exact .inr e
def Ph(num:Int)(d:List Int):∀(a:List Fr)(m:ai),(m.due=d\/(m.due=d++[num]))->((ai.fx num a m).2.due=d\/((ai.fx num a m).2.due=d++[num]))/\(a.any mH=false->(ai.fx num a m).2.due=m.due):=by
 intro a;induction a with
 |nil=>intro m h;exact⟨h,λ_=>rfl⟩
 |cons f a c=>
  intro m h;have e2:ai.fx num (f::a) m=if(m.take f).1=0 then ai.fx num a ((m.take f).2.note f num)else((m.take f).1,(m.take f).2.fail (m.take f).1):=rfl
  rw[e2];have hd:=(xv m f).2;split;obtain⟨e,g⟩:=c ((m.take f).2.note f num) (OT f (by rw[hd];exact h));refine⟨e,λb=>?_⟩
  simp only[List.any_cons,oH]at b;rw[g b.2];unfold ai.note ai.zM;rw[b.1];simp only[Bool.false_and,gI,gm]
  exact hd;refine⟨?_,λ_=>hd⟩
  show(m.take f).2.due=d\/(m.take f).2.due=d++[num];rw[hd];exact h
def Pj(h:rM Y n)(d:G.kind=5->G.stream.toNat<4->(Y.ins G.stream.toNat).given=false->aW G<=(Y.ins G.stream.toNat).read+Y.ag):rM (Y.take G).2 n/\∀k,((Y.take G).2.ins k).read=(Y.ins k).read:=by
 have key:∀(a:Nat)(r:aN),r.read=(Y.ins a).read->(a<4->r.high<=(Y.ins a).read+Y.ag)->rM {Y with ins:=ah Y.ins a r} n/\∀k,(ah Y.ins a r k).read=(Y.ins k).read:=λa r e1 e2=>by
  refine⟨λk b=>?_,λk=>?_⟩
  by_cases e:k=a;subst e;have:=h k b;simp only[bk]
  rw[e1];exact⟨this.1,e2 b⟩
  simp only[bm _ _ e];exact h k b;by_cases e:k=a;subst e;rw[bk];exact e1;rw[bm _ _ e]
 unfold ai.take;split;split;exact⟨h,λk=>rfl⟩
 exact⟨h,λk=>rfl⟩
 split;split;exact⟨h,λk=>rfl⟩
 exact key _ _ rfl (λb=>(h _ b).2);split;rename_i f;refine key _ _ ?_ (λb=>?_);unfold aN.bytes;split;rfl;split;rfl;rfl;have c:=(h _ b).2;unfold aN.bytes;split;exact c;split;exact c;rename_i g;have:=d f b (by simpa using g);show max _ _<=_;omega;split;exact⟨h,λk=>rfl⟩
 exact⟨h,λk=>rfl⟩
def Pm(num:Int):∀(a:List Fr)(m:ai),rM m n->(∀f∈a,f.kind=5->f.stream.toNat<4->(m.ins f.stream.toNat).given=false->aW f<=(m.ins f.stream.toNat).read+m.ag)->(ai.fx num a m).1=0->rM (ai.fx num a m).2 n:=by
 intro a;induction a with
 |nil=>intro m h _ _;exact h
 |cons f a p=>
  intro m h i h0;have e2:ai.fx num (f::a) m=if(m.take f).1=0 then ai.fx num a ((m.take f).2.note f num)else((m.take f).1,(m.take f).2.fail (m.take f).1):=rfl
  rw[e2]at h0⊢;obtain⟨q,r⟩:=Pj h (i f (by simp));have c:=uK (m.take f).2 f num;have j:((m.take f).2.note f num).ag=m.ag:=c.1.ag.trans (xv m f).1.ag;split;rename_i b;rw[aD b]at h0;have s:rM ((m.take f).2.note f num) n:=λk d=>by
   have:=q k d;rw[c.2.2.1,j];rw[(xv m f).1.ag]at this;exact this
  refine p _ s (λg t u d l=>?_) h0;rw[c.2.2.1]at l⊢;rw[j,r];refine i g (by simp[t]) u d ?_;have v:∀k,((m.take f).2.ins k).given=false->(m.ins k).given=false:=λk=>by
   unfold ai.take;split;split;exact id;exact id;split;split;exact id;simp only[ah]
   split;intro e;cases e;exact id;split;simp only[ah]
   split;rename_i w;rw[w];exact OS;exact id;split;exact id;exact id
  exact v _ l;rename_i b;rw[az b]at h0;exact absurd h0 b
def zT{a:ai}(h:iD s Y)(hs:bY s n)(k:n<=100000)(f:p≠0)(g:0<=q/\q<=4611686018427387903)(e1:a.closed=p)(e2:a.code=q)(i:a.said=decide (p=10))(b:a.key=Y.key)(d:a.me=Y.me)(j:a.next=Y.next)(l:a.aj=Y.aj):xz p (s.gN p q) a:=by
 have e:=h.aT;have m:=hs.bf;have r:=hs.aj;have t:=h.next;have u:=h.aj;refine⟨e1,f,?_,by rw[b,h.key];exact hs.key,by rw[d];exact e.2.2,by omega,⟨by omega,by omega,λ_=>by omega⟩,by rw[e2];exact g⟩
 rw[i];unfold Sd.gN;by_cases c:p=10;rw[aD c,dO c];rfl;rw[az c,eQ c,b,d,j,e2,h.key,h.next,e.1];rfl
def EO(s:Sd)(f:Fr):(s.take f).2.af=s.af/\(s.take f).2.floor=s.floor/\(s.take f).2.eN=s.eN/\((s.take f).1=0\/(s.take f).1=7\/(s.take f).1=8\/(s.take f).1=10):=by
 unfold Sd.take;split;split;exact⟨rfl,rfl,rfl,.inr (.inr (.inl rfl))⟩
 exact⟨rfl,rfl,rfl,.inl rfl⟩
 split;split;exact⟨rfl,rfl,rfl,.inr (.inl rfl)⟩
 exact⟨rfl,rfl,rfl,.inl rfl⟩
 split;split;exact⟨rfl,rfl,rfl,.inr (.inl rfl)⟩
 exact⟨rfl,rfl,rfl,.inl rfl⟩
 split;exact⟨rfl,rfl,rfl,.inr (.inr (.inr rfl))⟩
 exact⟨rfl,rfl,rfl,.inl rfl⟩
def Pn(a:List Fr):∀s:Sd,(dm s a).2.af=s.af/\(dm s a).2.floor=s.floor/\(dm s a).2.eN=s.eN:=by
 induction a with
 |nil=>intro s;exact⟨rfl,rfl,rfl⟩
 |cons f a e=>
  intro s;obtain⟨b,c,d,-⟩:=EO s f;have e1:dm s (f::a)=if(s.take f).1=0 then dm (s.take f).2 a else s.take f:=rfl
  rw[e1];split;obtain⟨g,h,i⟩:=e (s.take f).2;exact⟨g.trans b,h.trans c,i.trans d⟩
  exact⟨b,c,d⟩
def Po(a:List Fr):∀s:Sd,(dm s a).1=0\/(dm s a).1=7\/(dm s a).1=8\/(dm s a).1=10:=by
 induction a with
 |nil=>intro s;exact .inl rfl
 |cons f a b=>
  intro s;have e1:dm s (f::a)=if(s.take f).1=0 then dm (s.take f).2 a else s.take f:=rfl
  rw[e1];split;exact b _;exact(EO s f).2.2.2
def Pp(hs:bl D)(h:Sm (fh D p t).1 r):Sm D r\/r=t:=by
 have a:Sm (dB D ⟨t,t+1⟩) r:=by
  unfold fh at h;split at h;obtain⟨b,c,d⟩:=h;exact⟨b,iN c,d⟩
  exact h
 obtain q|q:=(jM _ hs r).1 a
 exact .inl q;right;simp only at q;omega
def Pq(h:dK s Y n)(hs:bY s n)(hn:n<=40000)(hp:∀x∈L,W8 x):
 (Y.eT L).1=(s.recv L).1/\(Y.eT L).2.1=(s.recv L).2.1/\Rel (s.recv L).2.2 (Y.eT L).2.2 (n+1):=by
 have C:=h.c;obtain⟨d1,d2,d3⟩:=C.aT;have w:=Ev hp;have S:Y.eT L=if¬eC s.key (aT (!s.first)) L then(4,-1,Y)else if iW s.af s.floor (bq L)then(0,-1,Y)else Y.qb (bq L) (dT s.key (aT (!s.first)) (bq L) (bS L)):=by
  unfold ai.eT;rw[az (by simpa using C.cl),d2,C.key,h.dW.has]
 rw[S];by_cases r:eC s.key (aT (!s.first)) L;have t:¬¬eC s.key (aT (!s.first)) L:=λe=>e r
 have y:=r.2.2.2;cases z:iW s.af s.floor (bq L);have A:(if¬eC s.key (aT (!s.first)) L then((4:Int),(-1:Int),Y)else if false=true then(0,-1,Y)else Y.qb (bq L) (dT s.key (aT (!s.first)) (bq L) (bS L)))=Y.qb (bq L) (dT s.key (aT (!s.first)) (bq L) (bS L)):=by rw[az t,az (by simp)]
 rw[A];unfold Sd.recv;rw[az t,az (by rw[z];simp)];unfold ai.qb;obtain⟨b,I⟩:=exq (dT s.key (aT (!s.first)) (bq L) (bS L));have T:∀x∈b,W8 x:=by rw[I];exact uy (Eu hp)
 rw[<-I];cases hd:fN b with
 |mk o q=>
  cases o with
  |none=>
   refine⟨rfl,rfl,?_⟩
   exact zT C hs (by omega) (by omega) (by omega) rfl rfl (by simpa using C.said) rfl rfl rfl rfl
  |some a=>
   have u:=Et hd;subst u;simp only
   have v:=xd hd;have K:=Es T hd;have U:a.any Y.fX=a.any s.fX:=by
    have V:∀q:List Fr,(∀f∈q,cT f)->q.any Y.fX=q.any s.fX:=λq=>by
     induction q with
     |nil=>intro _;rfl
     |cons g q W=>
      intro u;rw[List.any_cons,List.any_cons,W (λf i=>u f (by simp[i])),C.busy g (λ_=>(u g (by simp)).st)]
    exact V a v
   rw[U];cases X:a.any s.fX;simp only[gI,gm]
   have B:∀f∈a,s.fX f=false:=λf i=>by
    have:=List.any_eq_false.1 X f i;simpa using this
   have M:=Ew hs ⟨w,y⟩ a;obtain⟨g1,g2,N⟩:=h.dW.add hs.mI hs.cr ⟨w,y⟩ z;have C1:iD (s.fR (bq L) a) (Y.mark (bq L)):=C.nums _ _ _ _ _;have O:∀f∈a,f.kind=5->f.stream.toNat<4->(Y.ins f.stream.toNat).given=false->aW f<=(Y.ins f.stream.toNat).read+Y.ag:=λf i D l E=>by
    have P:=C.aL _ l;have Q:=xi (B f i) D (by rw[P.given];exact E);rw[<-P.fr,C.ag];exact Q
   obtain⟨t1,t2,t3⟩:=Pf (n:=n) (by omega) (bq L) a _ _ C1 M (λf i=>⟨v f i,(K f i).1,xi (B f i),λD E=>by
    have a8:=(v f i).st;have l:f.stream.toNat<4:=by omega
    have Q:=O f i D l E;have h2:=(h.rd _ l).1;have h3:=hs.ag;have h4:=C.ag;omega⟩)
   have F:=Ph (bq L) Y.due a (Y.mark (bq L)) (.inl rfl);rw[t1];by_cases c0:(dm (s.fR (bq L) a) a).1=0;rw[aD c0];refine⟨c0,rfl,?_⟩
   have G:=t2 c0;have hsame:=(EN (bq L) a (Y.mark (bq L))).resolve_right (by rw[t1];simpa using c0);have m:(dm (s.fR (bq L) a) a).2.af=(fh s.af s.floor (bq L)).1/\(dm (s.fR (bq L) a) a).2.floor=(fh s.af s.floor (bq L)).2/\(dm (s.fR (bq L) a) a).2.eN=(s.eN||a.any mH):=Pn a (s.fR (bq L) a);refine⟨G,?_,?_,λd p=>?_,?_,?_,?_⟩
   rw[m.1,m.2.1,hsame.dW];exact g1;rw[m.1,hsame.bT];refine h.bT.add (by omega) ⟨w,y⟩ (λd aC=>?_);exact Pp hs.mI aC;rw[m.1,m.2.1,m.2.2];have a0:d∈Y.due\/(d=bq L/\a.any mH=true):=by
    cases H:a.any mH;left;rw[F.2 H]at p;exact p;obtain e|e:=F.1
    rw[e]at p;exact .inl p;rw[e]at p;obtain q|q:=bQ.1 p
    exact .inl q;exact .inr ⟨cL.1 q,rfl⟩
   obtain q|⟨q,H⟩:=a0
   obtain R|⟨R,q2⟩:=h.due d q
   exact .inl (by omega);obtain j|j:=N d (.inl R)
   exact .inl j;exact .inr ⟨j,by rw[q2];rfl⟩;obtain j|j:=N d (.inr q)
   exact .inl j;exact .inr ⟨j,by rw[H];simp⟩;have:=h.dl;obtain e|e:=F.1<;>rw[e]
   omega;simp;omega;have:=Pm (n:=n) (bq L) a (Y.mark (bq L)) h.rd O (by rw[t1];exact c0);exact λk l=>by have:=this k l;omega
   rw[hsame.ay,hsame.next];exact h.sl;rw[az c0];obtain⟨m',G,e⟩:=t3 c0;refine⟨rfl,rfl,?_⟩
   have bt:=Po a (s.fR (bq L) a);have a2:=zG (n:=n) (by omega) a (s.fR (bq L) a) M (λf i=>⟨v f i,(K f i).1,xi (B f i)⟩);rw[e];exact zT G a2 (by omega) c0 (by omega) rfl rfl rfl rfl rfl rfl rfl;exact⟨rfl,rfl,h.mono (by omega)⟩
 have A:(if¬eC s.key (aT (!s.first)) L then((4:Int),(-1:Int),Y)else if true=true then(0,-1,Y)else Y.qb (bq L) (dT s.key (aT (!s.first)) (bq L) (bS L)))=(0,-1,Y):=by rw[az t,aD rfl]
 rw[A];unfold Sd.recv;rw[az t,aD z];exact⟨rfl,rfl,h.mono (by omega)⟩
 rw[aD r];unfold Sd.recv;rw[aD r];exact⟨rfl,rfl,h.mono (by omega)⟩
def qc.uL(h:qc s Y)(k:Nat)(o:Ot)(r:da)(e1:o.h.af=(s.out k).h.af)(e2:(Y.outs k).data.size<=r.data.size):qc {s with out:=ah s.out k o} {Y with outs:=ah Y.outs k r}:=by
 refine⟨λx a f c j d b g=>?_,h.back,λx a f c i h0=>?_,h.kq⟩
 obtain q|q:=h.told x a f c j d b g
 left;show Sm (ah s.out k o j).h.af b;by_cases e:j=k;subst e;rw[bk,e1];exact q;rw[bm _ _ e];exact q;exact .inr q;have:=h.fz x a f c i h0;show aW f<=((ah Y.outs k r f.stream.toNat).data.size:Int);by_cases e:f.stream.toNat=k;rw[e]at this;rw[e,bk];omega;rw[bm _ _ e];exact this
def dK.uL(h:dK s Y n)(k:Nat)(o:Ot)(r:da)(e1:o.h.af=(s.out k).h.af)(e2:(Y.outs k).data.size<=r.data.size)(b:k<4->gG o r):dK {s with out:=ah s.out k o} {Y with outs:=ah Y.outs k r} n:=by
 have C:=h.c;refine⟨⟨C.aj,C.ag,C.key,C.me,C.cl,C.said,C.next,λj a=>?_,C.aL,C.gO,C.fl.uL k o r e1 e2⟩,h.dW,h.bT,h.due,h.dl,h.rd,h.sl⟩
 by_cases e:j=k;subst e;simp only[bk];exact b a;simp only[bm _ _ e];exact C.out j a
def uM(h:Y.closed=0)(k:Int):Y.of k=if k<0\/4<=k then 2 else 0:=by
 unfold ai.of;rw[az (by simpa using h)]
def gG.shut{r:da}(h:gG f r):(r.finished||r.given)=(f.sE||f.sG):=by
 rw[h.sg];cases a:r.given;rw[h.se a];simp
def Pr(h:dK s Y n)(hs:bY s n)(k:Int)(d:ByteArray):
 (Y.write k d).1=(aJ.write (.aE s) k (aG d)).1/\(Y.write k d).2.1=(aJ.write (.aE s) k (aG d)).2.1/\Rel (aJ.write (.aE s) k (aG d)).2.2 (Y.write k d).2.2 n:=by
 have a:=uM h.c.cl k;unfold ai.write aJ.write;by_cases b:k<0\/4<=k;rw[aD b]at a;rw[a];simp only[aD b]
 exact⟨by first|rfl|trivial,by first|rfl|trivial,h⟩
 rw[az b]at a;rw[a];simp only[az b]
 have e:k.toNat<4:=by omega
 have R:=h.c.out _ e;have g:=hs.out _ e;have f:=R.shut;rw[az (by simp),f];unfold Sd.write;cases l:((s.out k.toNat).sE||(s.out k.toNat).sG);simp only[gI,gm]
 have i:(Y.outs k.toNat).given=false:=by
  rw[l,oH]at f;exact f.2
 have j:=hs.oW _ e;have m:=R.fI i g.fr j (aG d).length;have e1:Y.fI k.toNat d.size=((s.out k.toNat).fI (aG d).length s.ag:Nat):=by
  rw[m];unfold ai.fI;rw[h.c.ag,fH]
 rw[e1];refine⟨by first|rfl|trivial,by first|rfl|trivial,?_⟩
 rw[nT];refine h.uL _ _ _ rfl ?_ (λ_=>R.write i g.fr j d);show _<=((Y.outs k.toNat).data++_).size;rw[ByteArray.size_append];omega;simp only[fu]
 exact⟨by first|rfl|trivial,by first|rfl|trivial,h⟩
def Ps(h:dK s Y n)(k:Int):(Y.finish k).1=(aJ.finish (.aE s) k).1/\Rel (aJ.finish (.aE s) k).2 (Y.finish k).2 n:=by
 have a:=uM h.c.cl k;unfold ai.finish aJ.finish;by_cases b:k<0\/4<=k;rw[aD b]at a;rw[a];simp only[aD b]
 exact⟨by first|rfl|trivial,h⟩
 rw[az b]at a;rw[a];simp only[az b]
 have e:k.toNat<4:=by omega
 have R:=h.c.out _ e;have d:=R.shut;rw[az (by simp),d];unfold Sd.finish;cases f:((s.out k.toNat).sE||(s.out k.toNat).sG);simp only[gI,gm]
 have g:(Y.outs k.toNat).given=false:=by
  rw[f,oH]at d;exact d.2
 exact⟨by first|rfl|trivial,h.uL _ _ _ rfl (aR _) (λ_=>R.finish g)⟩
 simp only[fu]
 exact⟨by first|rfl|trivial,h⟩
def Pt(h:dK s Y n)(k code:Int):(Y.giveUp k code).1=(aJ.giveUp (.aE s) k code).1/\Rel (aJ.giveUp (.aE s) k code).2 (Y.giveUp k code).2 n:=by
 have a:=uM h.c.cl k;unfold ai.giveUp aJ.giveUp;by_cases b:k<0\/4<=k;rw[aD b]at a;rw[a];simp only[aD b]
 exact⟨by first|rfl|trivial,h⟩
 rw[az b]at a;rw[a];simp only[az b]
 have e:k.toNat<4:=by omega
 have R:=h.c.out _ e;rw[az (by simp),<-R.sg];unfold Sd.giveUp;by_cases d:(s.out k.toNat).sG=true\/4611686018427387903<code;rw[aD d,aD d];exact⟨by first|rfl|trivial,h⟩
 rw[az d,az d];exact⟨by first|rfl|trivial,h.uL _ _ _ rfl (aR _) (λ_=>R.giveUp code)⟩
def EP(h:dK s Y n)(k:Int):Y.af k=aJ.af (.aE s) k:=by
 have a:=uM h.c.cl k;unfold ai.af aJ.af;by_cases b:k<0\/4<=k;rw[aD b]at a;rw[a];simp only[aD b]
 rfl;rw[az b]at a;rw[a];simp only[az b]
 rw[az (by simp),(h.c.out k.toNat (by omega)).fr]
def Pu(h:dK s Y n)(hs:bY s n)(k aF:Int):
 (Y.read k aF).1=(aJ.read (.aE s) k aF).1/\(Y.read k aF).2.1=(aJ.read (.aE s) k aF).2.1/\(Y.read k aF).2.2.1=(aJ.read (.aE s) k aF).2.2.1/\(Y.read k aF).2.2.2.1=(aJ.read (.aE s) k aF).2.2.2.1/\Rel (aJ.read (.aE s) k aF).2.2.2.2 (Y.read k aF).2.2.2.2 (n+1):=by
 have a:=uM h.c.cl k;unfold ai.read aJ.read;by_cases b:k<0\/4<=k;rw[aD b]at a;rw[a];simp only[aD b]
 exact⟨rfl,rfl,rfl,rfl,h.mono (by omega)⟩
 rw[az b]at a;rw[a];simp only[az b]
 have d:k.toNat<4:=by omega
 have R:=h.c.aL _ d;have i:=hs.aL _ d;have f:=h.c.gO _ d;obtain⟨l,m,p,q⟩:=R.read i f aF;rw[az (by simp)];refine⟨l,m,p,rfl,?_⟩
 have r:=h.c.nE k.toNat _ _ (λ_=>q) (λ_=>f.dJ aF);refine⟨r,h.dW,⟨h.bT.ok,h.bT.bd,h.bT.fl,h.bT.mo,bD h.bT.len (by omega),h.bT.all⟩,h.due,bD h.dl (by omega),λj t=>?_,h.sl⟩
 have v:=h.rd j t;by_cases e:j=k.toNat;subst e;have w:=hs.ag;have x:=h.c.ag;have u:=(f.dJ aF).rd;have g:((Y.ins k.toNat).dJ aF).high=(Y.ins k.toNat).high:=by
  unfold aN.dJ aN.stop aN.lu aN.start;split<;>split<;>rfl
 have y:(Y.ins k.toNat).read<=((Y.ins k.toNat).dJ aF).read:=by
  unfold aN.dJ aN.stop aN.lu aN.start;split<;>split<;>(simp only;omega)
 show(ah Y.ins k.toNat _ k.toNat).read<=_/\(ah Y.ins k.toNat _ k.toNat).high<=(ah Y.ins k.toNat _ k.toNat).read+Y.ag;rw[bk,g];rw[g]at u;omega;show(ah Y.ins k.toNat _ j).read<=_/\(ah Y.ins k.toNat _ j).high<=(ah Y.ins k.toNat _ j).read+Y.ag;rw[bm _ _ e];omega
def Pv(h:dK s Y n):dK s.eW Y n:=by
 have C:=h.c;have a:∀p,p∈s.eW.aM++s.eW.lost↔p∈s.aM++s.lost:=λp=>by
  unfold Sd.eW;split;simp only[jZ,bQ]
  exact Or.comm;exact Iff.rfl
 have d:s.eW.out=s.out:=by unfold Sd.eW;split<;>rfl
 have e:s.eW.aL=s.aL:=by unfold Sd.eW;split<;>rfl
 have g:s.eW.aj=s.aj/\s.eW.ag=s.ag/\s.eW.key=s.key/\s.eW.first=s.first/\s.eW.count=s.count/\s.eW.af=s.af/\s.eW.floor=s.floor/\s.eW.eN=s.eN:=by
  unfold Sd.eW;split<;>exact⟨rfl,rfl,rfl,rfl,rfl,rfl,rfl,rfl⟩
 obtain⟨i,j,l,m,a5,a6,a7,r⟩:=g;refine⟨⟨by rw[i];exact C.aj,by rw[j];exact C.ag,by rw[l];exact C.key,by rw[m];exact C.me,C.cl,C.said,by rw[a5];exact C.next,by rw[d];exact C.out,by rw[e];exact C.aL,C.gO,⟨λx t f u k v b w=>?_,λp hp=>C.fl.back p ((a p).1 hp),C.fl.fz,C.fl.kq⟩⟩,by rw[a6,a7];exact h.dW,by rw[a6];exact h.bT,by rw[a6,a7,r];exact h.due,h.dl,h.rd,h.sl⟩
 rw[d];obtain q|⟨p,hp,q⟩:=C.fl.told x t f u k v b w
 exact .inl q;exact .inr ⟨p,(a p).2 hp,q⟩
def Pw(h:dK s Y n)(hs:bY s n)(a:n<=100000)(code:Int)(d:0<=code):(Y.close code).1=(aJ.close (.aE s) code).1/\Rel (aJ.close (.aE s) code).2 (Y.close code).2 n:=by
 have b:¬Y.closed≠0:=λe=>e h.c.cl
 unfold ai.close aJ.close;rw[az b];by_cases c:4611686018427387903<code;simp only[aD c]
 exact⟨by first|rfl|trivial,h⟩
 simp only[az c]
 exact⟨by first|rfl|trivial,zT h.c hs a (by omega) (by omega) rfl rfl (by show Y.said=_;rw[h.c.said];rfl) rfl rfl rfl rfl⟩
def Px(h:jP q t):dK (Sd.new q t L B) (ai.new q t L B) 0:=by
 have b:0<=t:=by unfold jP at h;omega
 refine⟨⟨rfl,rfl,rfl,rfl,rfl,rfl,rfl,λk _=>gG.new,λk _=>jq.new,λk _=>⟨rfl,rfl,by simp[ai.new,aN.new],by simp[ai.new,aN.new],by simp[ai.new,aN.new]⟩,⟨λx a=>(by cases a),λp hp=>(by cases hp),λx a=>(by cases a),λx a=>(by cases a)⟩⟩,⟨rfl,rfl,rfl,by simp[Sd.new],λn c=>absurd c (fU n),.inl rfl⟩,⟨bl.nil,λr e=>(by cases e),rfl,rfl,aR _,λd hd=>absurd hd (fU d)⟩,λd hd=>(by cases hd),aR _,λk _=>by simp[ai.new,aN.new];exact b,by simp[ai.new]⟩
def xE(h:∀x∈L,W8 x):aG (strOfNums L)=L:=by
 unfold aG;rw[strOfNums_data,tH];conv=>rhs;rw[<-List.map_id L]
 apply xQ;intro x a;have:=h x a;unfold W8 at this;simp only[Function.comp,id,UInt8.toNat_ofNat']
 omega
def PM{a b:ByteArray}(h:aG a=aG b):a=b:=by rw[<-xB a,<-xB b,h]
def EU{a:List Fr}(b:∀f∈a,f.ok/\cT f/\(f.ranges.length:Int)<=4611686018427387903)(h0:a≠[])(g:a.map gl=a)(c:∀x∈bp a,W8 x)(hl:((bp a).length:Int)<=Y.aj-16)(m:Y.aj<=300)(h:0<=Y.next/\Y.next<=4611686018427387903)(j:Y.me=0\/Y.me=1)(k:fT a<=30000000):
 xw Y (strOfNums (cK Y.key Y.me Y.next (bp a))) a:=by
 have l:∀x∈cK Y.key Y.me Y.next (bp a),W8 x:=uz c;have e1:aG (strOfNums (cK Y.key Y.me Y.next (bp a)))=cK Y.key Y.me Y.next (bp a):=xE l;have d:aS Y.next:=by unfold aS;omega
 have e2:bq (cK Y.key Y.me Y.next (bp a))=Y.next:=xC d;have e:dT Y.key Y.me (bq (cK Y.key Y.me Y.next (bp a))) (bS (cK Y.key Y.me Y.next (bp a)))=bp a:=by
  rw[e2,xD];exact zV _ _ _ _ c
 refine⟨?_,?_,?_,?_,?_,⟨oI.2 h0,λi hi=>?_⟩,k,j,h⟩
 rw[e1,zW d];omega;rw[strOfNums_size,nw];push_cast;omega;rw[e1];exact e2;rw[e1,e,zU b h0,g];rw[e1,e];have:mC a i∈a:=by unfold mC;simp[List.getD,eI hi]
 exact(b _ this).2.1
def mK.with{o:Ot}{p:Pc}(h:mK o k p G)(x:Int)(b:o.sG=true->x=o.ay):mK {o with ay:=x} k p G:=by
 obtain⟨a,c,d,e⟩|h:=h
 exact .inl ⟨a,c,d,by rw[e,b a]⟩;exact .inr h
structure zX(o:Ot)(r:da)(k:Nat)(p:Pc)(f:Fr):Prop where
 st:f.stream=(k:Int)
 kind:f.kind=4\/f.kind=5
 k4:f.kind=4->o.sG=true/\r.given=true/\f.offset=r.high/\f.code=r.code/\p.x=⟨0,0⟩
 k5:f.kind=5->o.sG=false/\f.offset=p.x.lo/\aW f=p.x.hi/\EE r f/\0<=p.x.lo/\p.x.hi<=4096
 ok:f.ok/\cT f/\(f.ranges.length:Int)<=4611686018427387903
 nf:gl f=f
 rg:f.ranges=[]
def mK.EV{o:Ot}{r:da}{p:Pc}(h:mK o k p G)(R:gG o r)(j:gC o)(B:k<4)(l:0<=o.code/\o.code<=4611686018427387903):zX o r k p G:=by
 have m:=R.sz;have C:=R.hs;obtain⟨b,n,i,rfl⟩|⟨b,n,i,D,E,s,t,rfl⟩:=h
 have a:r.given=true:=by rw[<-R.sg];exact b
 obtain⟨u,F,H⟩:=R.gv a;have v:=R.ay;refine⟨rfl,.inl rfl,λ_=>⟨b,a,v,u,i⟩,λe=>(by simp at e),⟨⟨?_,?_,?_,?_,λq f=>(by cases f)⟩,⟨⟨by simp only;omega,l.2,by simp only;omega,by simp only;omega⟩,⟨λe=>(by simp at e),λe=>(by simp at e)⟩,by simp,by simp⟩,by simp⟩,?_,rfl⟩
 unfold dq;simp only;omega;unfold dq;simp only;omega;unfold aS;simp only;omega;unfold aS;simp only;omega;unfold gl;rfl;have a:r.given=false:=by rw[<-R.sg];exact b
 have w:=j.fr;have I:=R.zQ a w;have y:o.en=r.data.size:=by unfold Ot.en;omega
 have hd:strOfNums ((o.h.bytes.drop (p.x.lo-o.h.fr).toNat).take (p.x.hi-p.x.lo).toNat)=r.data.extract p.x.lo.toNat p.x.hi.toNat:=by
  apply PM;have z:∀x∈(o.h.bytes.drop (p.x.lo-o.h.fr).toNat).take (p.x.hi-p.x.lo).toNat,W8 x:=λx A=>by
   have:=iN (jc A);rw[R.lK a]at this;exact qA _ x (iN this)
  rw[xE z,R.lK a,tz];unfold aG;rw[xN,Array.toList_extract,List.extract_eq_take_drop,List.map_take,List.map_drop];congr 1;omega;congr 1;omega
 have g:(strOfNums ((o.h.bytes.drop (p.x.lo-o.h.fr).toNat).take (p.x.hi-p.x.lo).toNat)).size=(p.x.hi-p.x.lo).toNat:=by
  rw[strOfNums_size,ct,dM];omega
 have d:aW (⟨5,k,p.x.lo,0,p.e,strOfNums ((o.h.bytes.drop (p.x.lo-o.h.fr).toNat).take (p.x.hi-p.x.lo).toNat),[]⟩:Fr)=p.x.hi:=by
  unfold aW;simp only;rw[g];omega
 refine⟨rfl,.inr rfl,λe=>(by simp at e),λ_=>⟨b,rfl,d,⟨a,by simp only;omega,by rw[d];omega,?_,?_,λe=>?_,m⟩,by omega,by omega⟩,⟨⟨?_,?_,?_,?_,λq f=>(by cases f)⟩,⟨⟨by simp only;omega,by simp,by simp only;omega,by simp only;omega⟩,⟨λe=>(by simp at e),λ_=>by simp only;rw[g];omega⟩,by simp,by simp⟩,by simp⟩,?_,rfl⟩
 rw[d,hd];rw[d];simp only
 rw[s,y,R.se a];by_cases c:p.x.hi=(r.data.size:Int)
 rw[dO c];simp[c];rw[eQ c];have:(p.x.hi==(r.data.size:Int))=false:=by simpa using c
 rw[this];simp only at e⊢;rw[g]at e;obtain q|q:=t
 omega;exact q;unfold dq;simp only;omega;unfold dq;simp only;omega;unfold aS;simp only;omega;unfold aS;simp only;omega;unfold gl;rfl
def PO(t:k<4):∀(L:Told)(m:ai),gG {f with ay:=(m.outs k).high} (m.outs k)->gC f->(0<=f.code/\f.code<=4611686018427387903)->(f.sG=true->(m.outs k).high=f.ay)->(∀z∈L,mK f k z.1 z.2)->
 (L.map (·.2)).foldl ai.dN m={m with outs:=ah m.outs k {m.outs k with high:=dp f (m.outs k).high L}}/\∀j,j<L.length->rJ (((L.map (·.2)).take j).foldl ai.dN m) (zL (L.map (·.2)) j):=by
 intro L;induction L with
 |nil=>
  intro m R c d hs g;refine⟨?_,λj h=>by simp at h⟩
  have e:dp f (m.outs k).high []=(m.outs k).high:=by unfold dp mM;simp
  rw[e];show m={m with outs:=ah m.outs k (m.outs k)}
  rw[my]
 |cons z L u=>
  intro m R c d hs g;have v:=(g z (by simp)).with (m.outs k).high hs;have F:=v.EV R (c.same rfl) t d;have i:z.2.stream.toNat=k:=by rw[F.st];simp
  have w:rJ m z.2:=by
   refine⟨by obtain q|q:=F.kind;(·exact .inr (.inl q));(·exact .inr (.inr q)),λe=>?_,λe=>?_,λe=>?_⟩
   obtain q|q:=F.kind<;>omega
   obtain⟨r,b,l,x,-⟩:=F.k4 e;rw[i];exact⟨by rw[F.st];omega,by rw[F.st];omega,b,by rw[l];exact((R.gv b).2.1).symm,x⟩
   rw[i];exact⟨by rw[F.st];omega,by rw[F.st];omega,(F.k5 e).2.2.2.1⟩
  have s:m.dN z.2={m with outs:=ah m.outs k {m.outs k with high:=dp f (m.outs k).high [z]}}:=by
   unfold ai.dN dp mM;obtain q|q:=F.kind
   rw[iN_,iN_];have:=(F.k4 q).1;have a:f.sG=true:=this;rw[aD a];show m={m with outs:=ah m.outs k (m.outs k)}
   rw[my];rw[iN_,aD q,i];have a:f.sG=false:=(F.k5 q).1;rw[az (by rw[a];simp)];unfold da.rH;rw[(F.k5 q).2.2.1];simp only[mq,List.foldl_nil]
  have n:((m.dN z.2).outs k)={m.outs k with high:=dp f (m.outs k).high [z]}:=by rw[s];simp only[bk]
  have p:((m.dN z.2).outs k).high=dp f (m.outs k).high [z]:=by rw[n]
  have A:gG {f with ay:=((m.dN z.2).outs k).high} ((m.dN z.2).outs k):=by
   rw[p,n];have G:(m.outs k).high<=dp f (m.outs k).high [z]/\dp f (m.outs k).high [z]<=(m.outs k).data.size:=by
    have H:=R.hs;unfold dp mM;obtain q|q:=F.kind
    rw[aD (show f.sG=true from(F.k4 q).1)];omega;have a:f.sG=false:=(F.k5 q).1;rw[az (by rw[a];simp)];have:=(F.k5 q).2.2.2.1.en;rw[(F.k5 q).2.2.1]at this;simp only[mq,List.foldl_nil]
    omega
   refine⟨R.af,R.ck,R.fr,R.sg,R.se,rfl,λe=>?_,R.lK,R.sz,R.rK,by have:=R.hs;show 0<=dp f (m.outs k).high [z]/\dp f (m.outs k).high [z]<=((m.outs k).data.size:Int);omega,R.cb⟩
   have e2:(m.outs k).given=true:=e;obtain⟨r,b,l⟩:=R.gv e2;refine⟨r,?_,l⟩
   show(m.outs k).end_=dp f (m.outs k).high [z];have B:f.sG=true:=R.sg.trans e2;unfold dp;rw[aD B];exact b
  obtain⟨C,D⟩:=u (m.dN z.2) A c d (λe=>by rw[p];unfold dp;rw[aD e];exact hs e) (λy E=>g y (by simp[E]));refine⟨?_,λj h=>?_⟩
  rw[ky,mq,C,p,zA,n,s];simp only[List.singleton_append,rB]
  cases j with
  |zero=>exact w
  |succ j=>
   rw[ky,List.take_succ_cons,mq];exact D j (by simpa using h)
def PQ(b:G.ok)(g:cT G)(h:(G.ranges.length:Int)<=4611686018427387903):∀x∈df G,W8 x:=by
 obtain⟨⟨b1,b2,m,n⟩,⟨i,j⟩,p,q⟩:=g;have c:dZ G.offset:=⟨b.2.2.1.1,b1⟩
 have e:dZ G.code:=⟨b.2.2.2.1.1,b2⟩
 have f:dZ G.stream:=by unfold dZ;omega
 intro x a;unfold df at a;split at a;rw[cL.1 a];unfold W8;omega;split at a;rw[cL.1 a];unfold W8;omega;split at a;rename_i k;obtain rfl|a:=fF.1 a
 unfold W8;omega;unfold gp at a;have d:=i k;obtain a|a:=bQ.1 a
 exact F6 b.2.2.2.2 d h x a;exact AE b.2.2.2.2 d _ (by have:=d.1;omega) x a;split at a;obtain rfl|a:=fF.1 a
 unfold W8;omega;obtain a|a:=bQ.1 a
 obtain a|a:=bQ.1 a
 exact nd f x a;exact nd e x a;exact nd c x a;split at a;rename_i l;obtain rfl|a:=fF.1 a
 unfold W8;split<;>omega;obtain a|a:=bQ.1 a
 obtain a|a:=bQ.1 a
 obtain a|a:=bQ.1 a
 exact nd f x a;exact nd c x a;refine nd ?_ x a;have:=j l;have:=c.1;unfold dZ;omega;exact qA _ x a;obtain rfl|a:=fF.1 a
 unfold W8;omega;exact nd e x a
def zY:∀{b:List Fr},(∀f∈b,f.ok/\cT f/\(f.ranges.length:Int)<=4611686018427387903)->∀x∈bp b,W8 x:=by
 intro b;induction b with
 |nil=>intro _ x a;cases a
 |cons f b c=>
  intro h x a;have e2:bp (f::b)=df f++bp b:=rfl;rw[e2]at a;obtain a|a:=bQ.1 a
  exact PQ (h f (by simp)).1 (h f (by simp)).2.1 (h f (by simp)).2.2 x a;exact c (λg d=>h g (by simp[d])) x a
def PR:∀a:List Fr,(∀f∈a,f.ranges=[]/\(f.kind=4\/f.kind=5)/\gl f=f)->fT a<=26*(bp a).length:=by
 intro a;induction a with
 |nil=>intro _;simp[fT]
 |cons f a b=>
  intro h;obtain⟨c,d,j⟩:=h f (by simp);have i:=b (λg k=>h g (by simp[k]));have e:fT (f::a)=lS f+fT a:=rfl;have e2:bp (f::a)=df f++bp a:=rfl;rw[e,e2,bH];have l:lS f<=26*(df f).length:=by
   unfold lS df;rw[c];obtain q|q:=d
   rw[iN_,iN_,iN_,aD q];have hd:f.data.size=0:=by
    rw[<-j];unfold gl;rw[iN_,iN_,iN_,aD q];rfl
   simp only[fe,dc]
   omega;rw[iN_,iN_,iN_,iN_,aD q];simp only[fe,dc,bH,fH]
   omega
  omega
def PS(h:dK s Y n)(D:∀k,k<4->gC (s.out k))(E:∀k,k<4->0<=(s.out k).code/\(s.out k).code<=4611686018427387903)(bj:64<=s.aj/\s.aj<=300)(br:0<=s.count/\s.count<=90000000)(hn:n<=100000)(m:k<4){L:Told}(M:L≠[])(bx:((bp (L.map (·.2))).length:Int)<=s.aj-16)(G:∀z∈L,mK (s.out k) k z.1 z.2)(tick:Int):
 qR Y (strOfNums (cK s.key (aT s.first) s.count (bp (L.map (·.2))))) (L.map (·.2))/\dK {s with count:=s.count+1,aM:=s.aM++[⟨s.count,tick,k,L.map (·.1)⟩],out:=ah s.out k {s.out k with ay:=dp (s.out k) (s.out k).ay L}} (Y.jR (L.map (·.2))) n:=by
 have C:=h.c;have R:=C.out k m;obtain⟨d1,-,d3⟩:=C.aT;have bz:=C.next;have bM:=C.aj;have hF:∀z∈L,zX (s.out k) (Y.outs k) k z.1 z.2:=λz a=>(G z a).EV R (D k m) m (E k m)
 obtain⟨N,O⟩:=exq (L.map (·.2));have b0:∀f∈N,∃z∈L,z.2=f:=λf g=>by rw[O]at g;exact fg.1 g
 have jk:=h.sl;have b3:=h.dl;obtain⟨P,A⟩:=PO m L {Y with next:=Y.next+1} (f:=s.out k) (by show gG {s.out k with ay:=(Y.outs k).high} (Y.outs k);rw[<-R.ay];exact R) (D k m) (E k m) (λ_=>R.ay.symm) G;have T:xw Y (strOfNums (cK s.key (aT s.first) s.count (bp (L.map (·.2))))) (L.map (·.2)):=by
  rw[<-d1,<-C.key,<-C.next];refine EU (λf g=>?_) (by simpa using M) ?_ (zY (λf g=>?_)) (by omega) (by omega) (by omega) d3 ?_;obtain⟨z,a,rfl⟩:=fg.1 g;exact(hF z a).ok;rw[tH];apply xQ;intro z a;exact(hF z a).nf;obtain⟨z,a,rfl⟩:=fg.1 g;exact(hF z a).ok;have:=PR (L.map (·.2)) (λf g=>by obtain⟨z,a,rfl⟩:=fg.1 g;exact⟨(hF z a).rg,(hF z a).kind,(hF z a).nf⟩);omega
 refine⟨⟨T,λj r=>?_,by omega,by omega⟩,?_⟩
 rw[dH]at r;exact A j r;have U:Y.jR (L.map (·.2))={Y with next:=Y.next+1,outs:=ah Y.outs k {Y.outs k with high:=dp (s.out k) (Y.outs k).high L},ay:=Y.ay++[(Y.next,L.map (·.2))]}:=by
  unfold ai.jR;rw[P]
 rw[U];obtain⟨S,t⟩:=exq (dp (s.out k) (Y.outs k).high L);have V:dp (s.out k) (s.out k).ay L=S:=by rw[t,R.ay]
 rw[V,<-t];have b4:(Y.outs k).high<=S/\S<=(Y.outs k).data.size:=by
  rw[t];unfold dp;have W:=R.hs;split;omega;unfold mM;have X:∀(Q:Told),(∀z∈Q,zX (s.out k) (Y.outs k) k z.1 z.2)->(s.out k).sG=false->∀x,x<=((Y.outs k).data.size:Int)->x<=Q.foldl (λY y=>max Y y.1.x.hi) x/\Q.foldl (λY y=>max Y y.1.x.hi) x<=((Y.outs k).data.size:Int):=λQ=>by
   induction Q with
   |nil=>intro _ _ x d;exact⟨cS _,d⟩
   |cons z Q ih=>
    intro H u x d;have a:=H z (by simp);have l:z.2.kind=5:=by
     obtain q|q:=a.kind
     have:=(a.k4 q).1;rw[u]at this;cases this;exact q
    have B:=(a.k5 l).2.2.2.1.en;rw[(a.k5 l).2.2.1]at B;obtain⟨i1,i2⟩:=ih (λy hy=>H y (by simp[hy])) u (max x z.1.x.hi) (by omega);rw[mq];exact⟨by omega,i2⟩
  rename_i u;exact X L hF (by simpa using u) _ W.2
 have a0:(Y.outs k).given=true->S=(Y.outs k).high:=λe=>by
  rw[t];unfold dp;rw[aD (R.sg.trans e)]
 refine⟨⟨C.aj,C.ag,C.key,C.me,C.cl,C.said,by show Y.next+1=s.count+1;omega,λj r=>?_,C.aL,C.gO,⟨λx d f g j r b I=>?_,λp hp q K b v w=>?_,λx d f g l h0=>?_,λx d f g=>?_⟩⟩,h.dW,h.bT,h.due,h.dl,h.rd,?_⟩
 by_cases e:j=k;subst e;show gG (ah s.out j _ j) (ah Y.outs j _ j);rw[bk,bk];refine⟨R.af,R.ck,R.fr,R.sg,R.se,rfl,λe=>?_,R.lK,R.sz,R.rK,?_,R.cb⟩
 have e2:(Y.outs j).given=true:=e;obtain⟨a1,a2,a3⟩:=R.gv e2;exact⟨a1,by show(Y.outs j).end_=S;rw[a0 e2];exact a2,a3⟩
 have:=R.hs;show 0<=S/\S<=((Y.outs j).data.size:Int);omega;show gG (ah s.out k _ j) (ah Y.outs k _ j);rw[bm _ _ e,bm _ _ e];exact C.out j r;have a4:(ah s.out k {s.out k with ay:=S} j).h.af=(s.out j).h.af:=by
  by_cases e:j=k;subst e;rw[bk];rw[bm _ _ e]
 show Sm (ah s.out k {s.out k with ay:=S} j).h.af b\/_;rw[a4];obtain d|d:=bQ.1 d
 obtain q|⟨p,hp,q⟩:=C.fl.told x d f g j r b I
 exact .inl q;refine .inr ⟨p,?_,q⟩;obtain hp|hp:=bQ.1 hp
 exact iO _ (iO _ hp);exact jW _ hp;rw[cL.1 d]at g⊢;obtain⟨z,a,rfl⟩:=fg.1 g;have F:=hF z a;obtain⟨t1,t2,t3,t4,t5⟩:=I;have a8:k=j:=by rw[F.st]at t3;simpa using t3
 subst a8;refine .inr ⟨⟨s.count,tick,k,L.map (·.1)⟩,iO _ (jW _ (by simp)),by show s.count=Y.next;omega,by simp,z.1,pt a,?_⟩;have i:=F.k5 t1;rw[i.2.1]at t4;rw[i.2.2.1]at t5;exact⟨t4,t5⟩
 have a9:p∈s.aM++s.lost\/p=⟨s.count,tick,k,L.map (·.1)⟩:=by
  obtain hp|hp:=bQ.1 hp
  obtain hp|hp:=bQ.1 hp
  exact .inl (iO _ hp);exact .inr (cL.1 hp);exact .inl (jW _ hp)
 obtain hp|rfl:=a9
 obtain⟨x,d,A⟩:=C.fl.back p hp q K b v w;exact⟨x,iO _ d,A⟩
 obtain⟨z,a,rfl⟩:=fg.1 K;have F:=hF z a;have l:z.2.kind=5:=by
  obtain q|q:=F.kind
  have:=(F.k4 q).2.2.2.2;rw[this]at v w;simp only at v w;omega;exact q
 have i:=F.k5 l;refine⟨(Y.next,L.map (·.2)),jW _ (by simp),by show Y.next=s.count;omega,z.2,pt a,l,?_,by rw[F.st],?_,?_⟩
 have e1:=i.2.1;have e2:=i.2.2.1;unfold aW at e2;omega;rw[i.2.1];exact v;rw[i.2.2.1];exact w;have bb:(ah Y.outs k {Y.outs k with high:=S} f.stream.toNat).data=(Y.outs f.stream.toNat).data:=by
  by_cases e:f.stream.toNat=k;rw[e,bk];rw[bm _ _ e]
 show aW f<=((ah Y.outs k {Y.outs k with high:=S} f.stream.toNat).data.size:Int);rw[bb];obtain d|d:=bQ.1 d
 exact C.fl.fz x d f g l h0;rw[cL.1 d]at g;obtain⟨z,a,rfl⟩:=fg.1 g;have F:=hF z a;rw[F.st];exact(F.k5 l).2.2.2.1.en;obtain d|d:=bQ.1 d
 exact C.fl.kq x d f g;rw[cL.1 d]at g;obtain⟨z,a,rfl⟩:=fg.1 g;have F:=hF z a;intro l h0;have i:=F.k5 l;have B:=i.2.2.1;unfold aW at B;rw[F.st,i.2.1];have e1:=i.2.1;exact⟨by omega,by omega,i.2.2.2.2.1,by omega⟩
 show((Y.ay++[(Y.next,L.map (·.2))]).length:Int)<=Y.next+1;rw[bH];simp only[List.length_singleton]
 omega
def nF:ai->List (List Int)->List (List Fr)->Prop
 |_,[],[]=>True
 |m,p::ps,f::a=>qR m (strOfNums p) f/\nF (m.jR f) ps a
 |_,_,_=>False
def nF.app:∀{ps:List (List Int)}{a:List (List Fr)}{m:ai}{c:List (List Int)}{d:List (List Fr)},nF m ps a->nF (m.eu a) c d->nF m (ps++c) (a++d):=by
 intro ps;induction ps with
 |nil=>
  intro a m c d b e;cases a with
  |nil=>exact e
  |cons f a=>exact b.elim
 |cons p ps g=>
  intro a m c d b e;cases a with
  |nil=>exact b.elim
  |cons f a=>exact⟨b.1,g b.2 e⟩
def EW(m:ai)(a b:List (List Fr)):m.eu (a++b)=(m.eu a).eu b:=by unfold ai.eu;rw[List.foldl_append]
def nF.each:∀{ps:List (List Int)}{a:List (List Fr)}{m:ai},nF m ps a->a.length=ps.length/\∀j,j<ps.length->qR (m.eu (a.take j)) (eU (ps.map strOfNums) j) (a.getD j []):=by
 intro ps;induction ps with
 |nil=>
  intro a m h;cases a with
  |nil=>exact⟨rfl,λj b=>by simp at b⟩
  |cons f a=>exact h.elim
 |cons p ps c=>
  intro a m h;cases a with
  |nil=>exact h.elim
  |cons f a=>
   obtain⟨d,e⟩:=c h.2;refine⟨by simp[d],λj b=>?_⟩
   cases j with
   |zero=>exact h.1
   |succ j=>exact e j (by simpa using b)
structure EX(s:Sd)(n:Nat)(N:Int):Prop where
 arr:∀k,k<4->gC (s.out k)
 code:∀k,k<4->0<=(s.out k).code/\(s.out k).code<=4611686018427387903
 aj:64<=s.aj/\s.aj<=300
 bf:0<=s.count/\s.count+N<=90000000
def PT(q:n<=100000)(r:k<4)(tick:Int):∀(E:List Told)(s:Sd)(m:ai),dK s m n->EX s n E.length->(∀L∈E,L≠[]/\((bp (L.map (·.2))).length:Int)<=s.aj-16/\∀z∈L,mK (s.out k) k z.1 z.2)->
 nF m (jF s.key (aT s.first) s.count (E.map (·.map (·.2)))) (E.map (·.map (·.2)))/\
 dK {s with out:=ah s.out k {s.out k with ay:=dp (s.out k) (s.out k).ay E.flatten},aM:=s.aM++mN tick k s.count (E.map (·.map (·.1))),count:=s.count+E.length} (m.eu (E.map (·.map (·.2)))) n:=by
 intro E;induction E with
 |nil=>
  intro s m h a f;refine⟨trivial,?_⟩
  have e1:dp (s.out k) (s.out k).ay ([]:List Told).flatten=(s.out k).ay:=by unfold dp mM;simp
  rw[e1];show dK {s with out:=ah s.out k (s.out k),aM:=s.aM++[],count:=s.count+((0:Nat):Int)} m n;rw[my,oL,show s.count+((0:Nat):Int)=s.count by omega];exact h
 |cons L E t=>
  intro s m h a f;obtain⟨u,v,w⟩:=f L (by simp);have g:=a.bf;simp only[dc]at g;push_cast at g;obtain⟨x,p2⟩:=PS h a.arr a.code a.aj ⟨g.1,by omega⟩ q r u v w tick;obtain⟨s1,b⟩:∃s1:Sd,s1={s with count:=s.count+1,aM:=s.aM++[(⟨s.count,tick,k,L.map (·.1)⟩:Pk)],out:=ah s.out k {s.out k with ay:=dp (s.out k) (s.out k).ay L}}:=⟨_,rfl⟩
  rw[<-b]at p2;have d:s1.out k={s.out k with ay:=dp (s.out k) (s.out k).ay L}:=by rw[b];simp only[bk]
  have i:∀j,j≠k->s1.out j=s.out j:=λj c=>by rw[b];simp only[bm _ _ c]
  have y:EX s1 n E.length:=by
   refine⟨λj c=>?_,λj c=>?_,by rw[b];exact a.aj,by rw[b];show 0<=s.count+1/\s.count+1+_<=_;omega⟩
   by_cases e:j=k;subst e;rw[d];exact(a.arr j c).same rfl;rw[i j e];exact a.arr j c;by_cases e:j=k;subst e;rw[d];exact a.code j c;rw[i j e];exact a.code j c
  obtain⟨l,p⟩:=t s1 (m.jR (L.map (·.2))) p2 y (λM A=>by
   obtain⟨B,C,D⟩:=f M (by simp[A]);refine⟨B,by rw[b];exact C,λz F=>?_⟩
   rw[d];exact(D z F).with _ (λe=>by unfold dp;rw[aD e]))
  have G:s1.key=s.key:=by rw[b]
  have H:s1.first=s.first:=by rw[b]
  have k3:s1.count=s.count+1:=by rw[b]
  rw[G,H,k3]at l;refine⟨⟨x,l⟩,?_⟩
  have I:dp (s1.out k) (s1.out k).ay E.flatten=dp (s.out k) (s.out k).ay (L::E).flatten:=by
   rw[d,List.flatten_cons,<-zA];rfl
  have K:({s1 with out:=ah s1.out k {s1.out k with ay:=dp (s1.out k) (s1.out k).ay E.flatten},aM:=s1.aM++mN tick k s1.count (E.map (·.map (·.1))),count:=s1.count+E.length}:Sd)={s with out:=ah s.out k {s.out k with ay:=dp (s.out k) (s.out k).ay (L::E).flatten},aM:=s.aM++mN tick k s.count ((L::E).map (·.map (·.1))),count:=s.count+(L::E).length}:=by
   rw[I,d,k3];rw[b];simp only[rB,dc,ky,fC]
   congr 1;push_cast;omega
  rw[K]at p;exact p
def PU(h:dK s Y n)(hs:bY s i)(e:n<=100000)(c:i<=100001)(f:s.count+10<=100*i)(hl:s.lost.length+s.aM.length+10<=100*i)(b:k<4):
 ∃d,nF Y (s.pieces k).l d/\dK (s.pieces k).s (Y.eu d) n:=by
 obtain⟨-,E,a,p⟩:=Ek hs c f hl k b;obtain⟨R,-⟩:=zB hs c k b;have g:=hs.bf;obtain⟨j,m⟩:=PT e b s.tick E s Y h ⟨hs.out,hs.code,hs.aj,⟨g.1,by omega⟩⟩ a.fr;refine⟨E.map (·.map (·.2)),?_,?_⟩
 have:=a.l;rw[this];exact j;have eq:=R.eq;rw[a.ay,a.aM,a.count]at eq;rw[eq];exact m
structure EY(m:ai)(aj:Int)(c:List Rg):Prop where
 sO:iQ c
 len:((bp [bU c]).length:Int)<=aj-16
 l8:c.length<=100
 each:∀r∈c,0<=r.lo/\r.lo<=r.hi/\r.hi<=4611686018427387903/\uJ m.bT.l r=true
def PV(hn:n<=100000):∀(C:List (List Rg))(s:Sd)(m:ai),dK s m n->(64<=s.aj/\s.aj<=300)->(0<=s.count/\s.count+C.length<=90000000)->(∀c∈C,EY m s.aj c)->
 nF m (jF s.key (aT s.first) s.count (C.map λc=>[bU c])) (C.map λc=>[bU c])/\dK {s with count:=s.count+C.length} (m.eu (C.map λc=>[bU c])) n/\(∀d∈(m.eu (C.map λc=>[bU c])).due,d∈m.due/\∀c∈C,m.told c d=false):=by
 intro C;induction C with
 |nil=>
  intro s m h y l t;refine⟨trivial,?_,λd hd=>⟨hd,λc l=>(by cases l)⟩⟩
  show dK {s with count:=s.count+((0:Nat):Int)} m n;rw[show s.count+((0:Nat):Int)=s.count by omega];exact h
 |cons c C E=>
  intro s m h y l t;have X:=h.c;obtain⟨d1,-,d3⟩:=X.aT;have a3:=X.next;have a4:=X.aj;have a8:=h.dl;have jk:=h.sl;have G:=t c (by simp);have z:=l;simp only[dc]at z;push_cast at z;have F:cT (bU c):=⟨⟨by simp[bU],by simp[bU],by simp[bU],by simp[bU]⟩,⟨λ_=>G.sO,λe=>(by simp[bU]at e)⟩,by simp[bU],by simp[bU]⟩
  have H:(bU c).ok:=by
   refine⟨by simp[bU,dq],by simp[bU,dq],by simp[bU,aS],by simp[bU,aS],λr u=>?_⟩
   have:=G.each r u;unfold Rg.ok aS;omega
  have I:((bU c).ranges.length:Int)<=4611686018427387903:=by
   have:=G.l8;show(c.length:Int)<=_;omega
  have A:∀f∈[bU c],f.ok/\cT f/\(f.ranges.length:Int)<=4611686018427387903:=λf a=>by
   rw[cL.1 a];exact⟨H,F,I⟩
  have hl:=G.len;have K:xw m (strOfNums (cK s.key (aT s.first) s.count (bp [bU c]))) [bU c]:=by
   rw[<-d1,<-X.key,<-X.next];refine EU A (by simp) ?_ (zY A) (by omega) (by omega) (by omega) d3 ?_;show[gl (bU c)]=[bU c];rfl;have:=G.l8;show lS (bU c)+0<=30000000;unfold lS;show 25+16*c.length+0+0<=30000000;omega
  have L:rJ {m with next:=m.next+1} (bU c):=⟨.inl rfl,λ_ r u=>(G.each r u).2.2.2,λe=>(by simp[bU]at e),λe=>(by simp[bU]at e)⟩
  have M:qR m (strOfNums (cK s.key (aT s.first) s.count (bp [bU c]))) [bU c]:=by
   refine⟨K,λj N=>?_,by omega,by omega⟩
   have O:j=0:=by simpa using N
   subst O;exact L
  have P:m.jR [bU c]={m with next:=m.next+1,due:=m.due.filter (λd=> !m.told c d),ay:=m.ay++[(m.next,[bU c])]}:=rfl;have v:∀x∈m.ay++[(m.next,[bU c])],∀f∈x.2,(x∈m.ay)\/f.kind=3:=λx g f a=>by
   obtain g|g:=bQ.1 g
   exact .inl g;rw[cL.1 g]at a;rw[cL.1 a];exact .inr rfl
  have Q:dK {s with count:=s.count+1} (m.jR [bU c]) n:=by
   rw[P];refine⟨⟨X.aj,X.ag,X.key,X.me,X.cl,X.said,by show m.next+1=s.count+1;omega,X.out,X.aL,X.gO,⟨λx g f a k R b B=>?_,λp hp q S b T U=>?_,λx g f a D h0=>?_,λx g f a=>?_⟩⟩,h.dW,h.bT,λd hd=>h.due d (iG.1 hd).1,?_,h.rd,?_⟩
   obtain q|q:=v x g f a
   exact X.fl.told x q f a k R b B;have:=B.1;omega;obtain⟨x,g,V⟩:=X.fl.back p hp q S b T U;exact⟨x,iO _ g,V⟩
   obtain q|q:=v x g f a
   exact X.fl.fz x q f a D h0;omega;obtain q|q:=v x g f a
   exact X.fl.kq x q f a;intro D;omega;exact bD (nP _ _) h.dl;show((m.ay++[(m.next,[bU c])]).length:Int)<=m.next+1;rw[bH];simp only[List.length_singleton]
   omega
  obtain⟨W,Y,i3⟩:=E {s with count:=s.count+1} (m.jR [bU c]) Q y ⟨by show 0<=s.count+1;omega,by show s.count+1+_<=_;omega⟩ (λe i=>by
   have:=t e (by simp[i]);exact⟨this.sO,this.len,this.l8,this.each⟩)
  refine⟨⟨M,W⟩,?_,λd hd=>?_⟩
  have eS:({s with count:=s.count+(((c::C).length:Nat):Int)}:Sd)={s with count:=s.count+1+C.length}:=by
   simp only[dc]
   congr 1;push_cast;omega
  rw[eS];exact Y;obtain⟨w,j2⟩:=i3 d hd;have w:d∈m.due.filter (λd=> !m.told c d):=w;obtain⟨j3,j4⟩:=iG.1 w;refine⟨j3,λe i=>?_⟩
  obtain rfl|i:=fF.1 i
  simpa using j4;exact j2 e i
def EZ{r:Rg}:∀j,j<=D.length->(r∈fP D j↔∃i,D.length-j<=i/\i<D.length/\r=⟨(au D i).lo,(au D i).hi-1⟩):=by
 intro j;induction j with
 |zero=>intro _;simp[fP];omega
 |succ j c=>
  intro f;rw[show fP D (j+1)=fP D j++[⟨(au D (D.length-1-j)).lo,(au D (D.length-1-j)).hi-1⟩]from rfl,bQ,c (by omega),cL];constructor;rintro(⟨i,d,b,a⟩|h);exact⟨i,by omega,b,a⟩
  exact⟨D.length-1-j,by omega,by omega,h⟩
  rintro⟨i,d,b,a⟩;by_cases e:i=D.length-1-j;subst e;exact .inr a;exact .inl ⟨i,by omega,b,a⟩
def PW(h:dK s Y n)(hs:bY s k)(z:n<=100000)(A:s.count+10<=100*k)(V:k<=100001):
 ∃u,nF Y s.gD.l u/\dK s.gD.s (Y.eu u) n/\∀d∈(Y.eu u).due,d<s.floor:=by
 obtain⟨-,C,f,W⟩:=Em hs A;have B:=hs.bf;have X:=h.c;have D:∀c∈C,EY Y s.aj c:=λc g=>by
  obtain⟨f1,f2⟩:=f.fr c g;have w:s.eN=true:=by
   cases ho:s.eN;rw[f.no ho]at g;cases g;rfl
  have E:∀r∈c,∃i,i<s.af.length/\r=⟨(au s.af i).lo,(au s.af i).hi-1⟩:=λr m=>by
   have:r∈C.flatten:=List.mem_flatten.2 ⟨c,g,m⟩;rw[f.all w]at this;obtain⟨i,-,p,j⟩:=(EZ s.af.length (aR _)).1 this;exact⟨i,p,j⟩
  refine⟨f1,f2,?_,λr m=>?_⟩
  have t:c.length<=C.flatten.length:=by
   obtain⟨a,b,rfl⟩:=List.append_of_mem g;simp;omega
  rw[f.all w,ma]at t;have:=hs.c8;omega;obtain⟨i,hi,rfl⟩:=E r m;have v:=pI hi;have t:=hs.cr _ v;have p:=hs.mI.2 _ v;refine⟨t.1,by simp only;omega,by simp only;omega,?_⟩
  have j:=(Gd (x:=au s.af i) h.bT.ok p).2 (λb F G=>h.bT.all b ⟨_,v,F,G⟩);obtain⟨q,H,I,K⟩:=j;obtain⟨L,M,rfl⟩:=fg.1 H;simp only[cR]at I K;unfold uJ;refine qY.2 ⟨L,M,?_⟩;simp only[lQ,mX]
  omega
 obtain⟨N,e,O⟩:=PV z C s Y h hs.aj ⟨B.1,by omega⟩ D;have y:∀d∈(Y.eu (C.map λc=>[bU c])).due,d<s.floor:=λd hd=>by
  obtain⟨P,Q⟩:=O d hd;obtain q|⟨R,S⟩:=h.due d P
  exact q;exfalso;obtain⟨r,m,t,p⟩:=R;obtain⟨i,hi,rfl⟩:=jY.1 m;have er:s.af[i]=au s.af i:=by simp[au,List.getD,hi]
  rw[er]at t p;have T:(⟨(au s.af i).lo,(au s.af i).hi-1⟩:Rg)∈C.flatten:=by
   rw[f.all S];exact(EZ s.af.length (aR _)).2 ⟨i,by omega,hi,rfl⟩
  obtain⟨c,g,U⟩:=List.mem_flatten.1 T;have:=Q c g;unfold ai.told at this;rw[oH]at this;have j:bN c d=true:=by
   unfold bN;refine qY.2 ⟨_,U,?_⟩;simp only[lQ,mX]
   omega
  rw[this.2]at j;cases j
 refine⟨C.map λc=>[bU c],by rw[f.l];exact N,?_,y⟩
 rw[f.st];exact⟨⟨e.c.aj,e.c.ag,e.c.key,e.c.me,e.c.cl,e.c.said,e.c.next,e.c.out,e.c.aL,e.c.gO,⟨e.c.fl.told,e.c.fl.back,e.c.fl.fz,e.c.fl.kq⟩⟩,e.dW,e.bT,λd hd=>.inl (y d hd),e.dl,e.rd,e.sl⟩
def PX(m:ai)(a:List Fr):∀d∈(m.jR a).due,d∈m.due:=by
 have b:∀(m:ai)(f:Fr),∀d∈(m.dN f).due,d∈m.due:=λm f d hd=>by
  unfold ai.dN at hd;split at hd;exact(iG.1 hd).1;split at hd;exact hd;exact hd
 have c:∀(q:List Fr)(m:ai),∀d∈(q.foldl ai.dN m).due,d∈m.due:=λq=>by
  induction q with
  |nil=>intro m d hd;exact hd
  |cons f q e=>intro m d hd;exact b m f d (e _ d hd)
 exact λd hd=>c a {m with next:=m.next+1} d hd
def PY:∀(a:List (List Fr))(m:ai),(m.eu a).dW=m.dW:=by
 intro a;induction a with
 |nil=>intro m;rfl
 |cons f a b=>
  intro m;show((m.jR f).eu a).dW=m.dW;rw[b];exact(EG f {m with next:=m.next+1}).2.2.2.1
def PZ:∀(a:List (List Fr))(m:ai),∀d∈(m.eu a).due,d∈m.due:=by
 intro a;induction a with
 |nil=>intro m d hd;exact hd
 |cons f a b=>intro m d hd;exact PX m f d (b _ d hd)
def P7(h:dK s Y n)(hs:bY s n)(b:n<=100000):∀k,k<=4->∃a,nF Y (cX s k).2 a/\dK (cX s k).1 (Y.eu a) n/\∀d∈(Y.eu a).due,d<s.floor:=by
 intro k;induction k with
 |zero=>
  intro _;have l:=hs.bf;exact PW h (hs.mono (bZ n)) b (by push_cast;omega) (by omega)
 |succ k e=>
  intro m;obtain⟨a,e1,e2,f⟩:=e (by omega);obtain⟨g,p,q,-,-,-⟩:=En hs b k (by omega);have r:k<=3:=by omega
  obtain⟨c,i,j⟩:=PU e2 g b (by omega) (by push_cast;omega) (by omega) (k:=k) (by omega);refine⟨a++c,e1.app i,?_,λd hd=>?_⟩
  rw[EW];exact j;rw[EW]at hd;exact f d (PZ c _ d hd)
def Qa(h:dK s Y n)(hs:bY s n)(e:n<=100000):
 ∃a,zN Y (s.dv.2.map strOfNums) a/\dK s.dv.1 {Y.eu a with due:=[]} n:=by
 obtain⟨a,e1,e2,f⟩:=P7 h hs e 4 (aR _);obtain⟨g,i⟩:=e1.each;refine⟨a,⟨by rw[dH];exact g,λj b=>i j (by rw[dH]at b;exact b),λd hd=>?_,h.c.cl⟩,?_⟩
 rw[PY,h.dW.fl];exact f d hd;exact⟨e2.c.due [],e2.dW,e2.bT,λd hd=>(by cases hd),iP _,e2.rd,e2.sl⟩
noncomputable def ai.ask(m:ai)(q:fK):Rs×ai:=
 if q.op=1 then(⟨(m.write q.stream q.data).2.1,-1,(m.write q.stream q.data).1,0,[],[]⟩,(m.write q.stream q.data).2.2)
 else if q.op=2 then(⟨(m.finish q.stream).1,-1,0,0,[],[]⟩,(m.finish q.stream).2)
 else if q.op=3 then(⟨(m.giveUp q.stream q.code).1,-1,0,0,[],[]⟩,(m.giveUp q.stream q.code).2)
 else if q.op=6 then(⟨(m.eT (aG q.data)).1,(m.eT (aG q.data)).2.1,0,0,[],[]⟩,(m.eT (aG q.data)).2.2)
 else if q.op=7 then(⟨(m.read q.stream q.n).2.2.2.1,-1,(m.read q.stream q.n).2.1,(m.read q.stream q.n).2.2.1,(m.read q.stream q.n).1,[]⟩,(m.read q.stream q.n).2.2.2.2)
 else if q.op=8 then(⟨(m.close q.code).1,-1,0,0,[],[]⟩,(m.close q.code).2)
 else if q.op=9 then(⟨(m.af q.stream).2,-1,(m.af q.stream).1,0,[],[]⟩,m)
 else(⟨0,-1,0,0,[],[]⟩,m)
def Rel.mono(h:Rel I Y n)(a:n<=k):Rel I Y k:=by
 cases I with
 |aE s=>exact dK.mono h a
 |shut aA l=>exact h
def Qb(h:Y.closed≠0)(k:Int):Y.of k=9:=by unfold ai.of;rw[aD h]
def Qc{l:List (List Int)}(h:xz p l Y)(q:fK)(d:q.op≠5):(Y.ask q).1=(aJ.do (.shut p l) q).1/\(Y.ask q).2=Y/\(aJ.do (.shut p l) q).2=.shut p l:=by
 have c:Y.closed≠0:=by rw[h.cl];exact h.w0
 have a:=Qb c q.stream;have e:Y.write q.stream q.data=(0,9,Y):=by unfold ai.write;rw[aD (by rw[a];simp),a]
 have f:Y.finish q.stream=(9,Y):=by unfold ai.finish;rw[aD (by rw[a];simp),a]
 have g:Y.giveUp q.stream q.code=(9,Y):=by unfold ai.giveUp;rw[aD (by rw[a];simp),a]
 have i:Y.eT (aG q.data)=(9,-1,Y):=by unfold ai.eT;rw[aD c]
 have hd:Y.read q.stream q.n=([],0,0,9,Y):=by unfold ai.read;rw[aD (by rw[a];simp),a]
 have j:Y.close q.code=(9,Y):=by unfold ai.close;rw[aD c]
 have k:Y.af q.stream=(0,9):=by unfold ai.af;rw[aD (by rw[a];simp),a]
 unfold ai.ask aJ.do;rw[e,f,g,i,hd,j,k];by_cases c1:q.op=1;rw[aD c1,aD c1];exact⟨rfl,rfl,rfl⟩
 rw[az c1,az c1];by_cases c2:q.op=2;rw[aD c2,aD c2];exact⟨rfl,rfl,rfl⟩
 rw[az c2,az c2];by_cases c3:q.op=3;rw[aD c3,aD c3];exact⟨rfl,rfl,rfl⟩
 rw[az c3,az c3];by_cases c4:q.op=4;rw[aD c4,iN_,iN_,iN_,iN_];exact⟨rfl,rfl,rfl⟩
 rw[az c4,az d];by_cases c6:q.op=6;rw[aD c6,aD c6];exact⟨rfl,rfl,rfl⟩
 rw[az c6,az c6];by_cases c7:q.op=7;rw[aD c7,aD c7];exact⟨rfl,rfl,rfl⟩
 rw[az c7,az c7];by_cases c8:q.op=8;rw[aD c8,aD c8];exact⟨rfl,rfl,rfl⟩
 rw[az c8,az c8];by_cases b:q.op=9;rw[aD b,aD b];exact⟨rfl,rfl,rfl⟩
 rw[az b,az b];exact⟨rfl,rfl,rfl⟩
def Qd(h:Rel I Y n)(f:dU n I)(g:n<=40000)(q:fK)(i:aS q.code)(e:q.op≠5):(Y.ask q).1=(I.do q).1/\Rel (I.do q).2 (Y.ask q).2 (n+1):=by
 cases I with
 |shut aA l=>
  obtain⟨e1,e2,j⟩:=Qc h q e;rw[e2,j];exact⟨e1,h⟩
 |aE s=>
  have h:dK s Y n:=h;have hs:bY s n:=f;unfold ai.ask aJ.do;by_cases c1:q.op=1;rw[aD c1,aD c1];obtain⟨a,b,c⟩:=Pr h hs q.stream q.data;exact⟨by rw[a,b],c.mono (by omega)⟩
  rw[az c1,az c1];by_cases c2:q.op=2;rw[aD c2,aD c2];obtain⟨a,b⟩:=Ps h q.stream;exact⟨by rw[a],b.mono (by omega)⟩
  rw[az c2,az c2];by_cases c3:q.op=3;rw[aD c3,aD c3];obtain⟨a,b⟩:=Pt h q.stream q.code;exact⟨by rw[a],b.mono (by omega)⟩
  rw[az c3,az c3];by_cases c4:q.op=4;rw[aD c4,iN_,iN_,iN_,iN_];exact⟨rfl,(Pv h).mono (by omega)⟩
  rw[az c4,az e];by_cases c6:q.op=6;rw[aD c6,aD c6];obtain⟨a,b,c⟩:=Pq h hs g (qA q.data);exact⟨by show(⟨_,_,0,0,[],[]⟩:Rs)=⟨_,_,0,0,[],[]⟩;rw[a,b];rfl,c⟩
  rw[az c6,az c6];by_cases c7:q.op=7;rw[aD c7,aD c7];obtain⟨a,b,c,k,a5⟩:=Pu h hs q.stream q.n;exact⟨by rw[a,b,c,k],a5⟩
  rw[az c7,az c7];by_cases c8:q.op=8;rw[aD c8,aD c8];obtain⟨a,b⟩:=Pw h hs (by omega) q.code i.1;exact⟨by rw[a],b.mono (by omega)⟩
  rw[az c8,az c8];by_cases d:q.op=9;rw[aD d,aD d];exact⟨by rw[EP h q.stream],h.mono (by omega)⟩
  rw[az d,az d];exact⟨rfl,h.mono (by omega)⟩
def jG(i:aN)(m:Int):Prop:=i.given=true\/(0<=m/\i.there.getD m.toNat false=true)
structure OI(o:da):Prop where
 hs:0<=o.high/\o.high<=o.data.size
 gv:o.given=true->o.end_=o.high
 sz:o.data.size<=4096
structure lz(o a:da):Prop where
 sz:o.data.size<=a.data.size
 mO:∀m:Nat,m<o.data.size->(aG a.data).getD m 0=(aG o.data).getD m 0
 fin:o.finished=true->a.finished=true/\a.data.size=o.data.size
 gv:o.given=true->a.given=true/\a.end_=o.end_/\a.code=o.code
 hi:o.high<=a.high
structure iZ(o:da)(i:aN):Prop where
 th:∀m:Nat,i.there.getD m false=true->m<o.data.size/\i.data.getD m 0=(aG o.data).getD m 0
 hi:i.high<=o.high
 en:i.ended=true->i.given=false->o.finished=true/\i.end_=o.data.size/\o.high=o.data.size
 gv:i.given=true->o.given=true/\i.end_=o.end_/\i.code=o.code/\i.ended=true
 s1:i.state=1->o.finished=true/\i.read=o.data.size
 s2:i.state=2->i.given=true
 s0:i.state=0\/i.state=1\/i.state=2
structure qS(o:Nat->da)(f:Fr):Prop where
 kind:f.kind=3\/f.kind=4\/f.kind=5
 k4:f.kind=4->0<=f.stream/\f.stream<4/\(o f.stream.toNat).given=true/\f.offset=(o f.stream.toNat).end_/\f.code=(o f.stream.toNat).code
 k5:f.kind=5->0<=f.stream/\f.stream<4/\0<=f.offset/\aW f<=(o f.stream.toNat).high/\(∀m:Nat,f.offset<=m->(m:Int)<aW f->(aG f.data).getD (m-f.offset.toNat) 0=(aG (o f.stream.toNat).data).getD m 0)/\(f.fin=true->(o f.stream.toNat).finished=true/\aW f=(o f.stream.toNat).data.size)
def lz.rfl'(o:da):lz o o:=⟨aR _,λ_ _=>rfl,λh=>⟨h,rfl⟩,λh=>⟨h,rfl,rfl⟩,cS _⟩
def lz.trans{o p q:da}(h:lz o p)(g:lz p q):lz o q:=
 ⟨bD h.sz g.sz,λm a=>(g.mO m (bX a h.sz)).trans (h.mO m a),λe=>⟨(g.fin (h.fin e).1).1,(g.fin (h.fin e).1).2.trans (h.fin e).2⟩,λe=>⟨(g.gv (h.gv e).1).1,(g.gv (h.gv e).1).2.1.trans (h.gv e).2.1,(g.gv (h.gv e).1).2.2.trans (h.gv e).2.2⟩,Int.le_trans h.hi g.hi⟩
def iZ.le{o f:da}{i:aN}(h:iZ o i)(L:lz o f)(j:OI f):iZ f i:=by
 refine⟨λm k=>?_,Int.le_trans h.hi L.hi,λe g=>?_,λg=>?_,λe=>?_,h.s2,h.s0⟩
 obtain⟨a,b⟩:=h.th m k;exact⟨bX a L.sz,b.trans (L.mO m a).symm⟩
 obtain⟨a,b,c⟩:=h.en e g;obtain⟨d1,d2⟩:=L.fin a;have:=L.hi;have:=j.hs;exact⟨d1,by rw[d2];exact b,by omega⟩
 obtain⟨a,b,c,d⟩:=h.gv g;obtain⟨d1,d2,d3⟩:=L.gv a;exact⟨d1,b.trans d2.symm,c.trans d3.symm,d⟩
 obtain⟨a,b⟩:=h.s1 e;obtain⟨d1,d2⟩:=L.fin a;exact⟨d1,by rw[d2];exact b⟩
def qS.le{o j:Nat->da}(h:qS o G)(L:∀k,k<4->lz (o k) (j k))(ho:∀k,k<4->OI (o k)):qS j G:=by
 refine⟨h.kind,λe=>?_,λe=>?_⟩
 obtain⟨a,b,c,d,g⟩:=h.k4 e;obtain⟨d1,d2,d3⟩:=(L G.stream.toNat (by omega)).gv c;exact⟨a,b,d1,d.trans d2.symm,g.trans d3.symm⟩
 obtain⟨a,b,c,d,g,i⟩:=h.k5 e;have l:G.stream.toNat<4:=by omega
 have f:=L _ l;have t:=(ho _ l).hs;refine⟨a,b,c,Int.le_trans d f.hi,λm n p=>(g m n p).trans (f.mO m (by omega)).symm,λq=>?_⟩
 obtain⟨r,s⟩:=i q;obtain⟨d1,d2⟩:=f.fin r;exact⟨d1,by rw[d2];exact s⟩
def Qe{α:Type}(l:List α)(n m:Nat)(d:α):(l++List.replicate n d).getD m d=l.getD m d:=by
 simp only[List.getD,List.getElem?_append]
 split;rfl;rename_i h;rw[nQ (l:=l) (by omega),xM];split<;>rfl
def Qf{i:aN}(a:fZ i)(h:i.there.getD m false=true):(m:Int)<i.high:=by
 by_cases b:m<i.there.length;have:=a.tl;have:=a.dl;omega;rw[List.getD,nQ (by omega)]at h;cases h
def iZ.bytes{o:da}{i:aN}(h:iZ o i)(ho:OI o)(l:fZ i)(h0:0<=G.offset)(z:aW G<=o.high)(hd:∀m:Nat,G.offset<=m->(m:Int)<aW G->(aG G.data).getD (m-G.offset.toNat) 0=(aG o.data).getD m 0)(k:G.fin=true->o.finished=true/\aW G=o.data.size):
 (i.bytes G).1=0/\iZ o (i.bytes G).2/\(∀m,jG i m->jG (i.bytes G).2 m)/\∀m,G.offset<=m->m<aW G->jG (i.bytes G).2 m:=by
 have hs:=ho.hs;have A:=h.hi;have v:i.ended=true->aW G<=i.end_/\(G.fin=true->aW G=i.end_):=λe=>by
  cases j:i.given;obtain⟨a,b,c⟩:=h.en e j;exact⟨by omega,λq=>by rw[b];exact(k q).2⟩
  obtain⟨a,b,c,d⟩:=h.gv j;have:=ho.gv a;exact⟨by omega,λq=>by have:=(k q).2;omega⟩
 have w:i.bad G=false:=by
  unfold aN.bad;have p:(G.fin&&decide (aW G<i.high))=false:=by
   cases q:G.fin;rfl;have:=(k q).2;simp only[Bool.true_and,tq]
   omega
  rw[p,tA];cases e:i.ended;rfl;obtain⟨a,b⟩:=v e;rw[dF_];cases q:G.fin;rfl;have:=b q;simp[this]
 unfold aN.bytes;rw[az (by rw[w];decide)];cases j:i.given;rw[az (by decide)];have x:(i.data++List.replicate ((max i.high (aW G)).toNat-i.data.length) (0:Int)).length=(max i.high (aW G)).toNat:=by
  have:=l.dl;rw[bH,vh];omega
 have r:(i.there++List.replicate ((max i.high (aW G)).toNat-i.data.length) false).length=(max i.high (aW G)).toNat:=by
  have:=l.dl;have:=l.tl;rw[bH,vh];omega
 have B:aW G=G.offset+G.data.size:=rfl;have P:=EJ G.offset.toNat (aG G.data) (i.data++List.replicate ((max i.high (aW G)).toNat-i.data.length) (0:Int),i.there++List.replicate ((max i.high (aW G)).toNat-i.data.length) false) (x.trans r.symm) G.data.size (by rw[r];omega);simp only[Qe]at P;have n:∀m:Nat,(((i.grow G).pad ((max i.high (aW G)).toNat-i.data.length)).fill G G.data.size).there.getD m false=(i.there.getD m false||decide (G.offset.toNat<=m/\m<G.offset.toNat+G.data.size)):=λm=>(P m).1
 have y:∀m:Nat,(((i.grow G).pad ((max i.high (aW G)).toNat-i.data.length)).fill G G.data.size).data.getD m 0=if i.there.getD m false=false/\G.offset.toNat<=m/\m<G.offset.toNat+G.data.size then(aG G.data).getD (m-G.offset.toNat) 0 else i.data.getD m 0:=λm=>(P m).2
 refine⟨rfl,⟨λm f=>?_,?_,λe g=>?_,λg=>?_,h.s1,h.s2,h.s0⟩,λm f=>?_,λm C p=>?_⟩
 simp only at f⊢;rw[n]at f;rw[y];cases s:i.there.getD m false;rw[s]at f;simp only[tB,mX]at f;rw[aD ⟨rfl,f⟩];exact⟨by omega,hd m (by omega) (by omega)⟩
 rw[az (by simp)];exact h.th m s;show max i.high (aW G)<=o.high;omega;show o.finished=true/\(if G.fin then aW G else i.end_)=o.data.size/\_;cases q:G.fin;have t:(i.ended||G.fin)=true:=e;rw[q,tA]at t;simp only[gI,gm]
 exact h.en t j;obtain⟨a,b⟩:=k q;simp only[fu]
 exact⟨a,b,by omega⟩
 have u:i.given=true:=g;rw[j]at u;cases u;obtain f|⟨a,b⟩:=f
 rw[j]at f;cases f;exact .inr ⟨a,by simp only;rw[n,b];rfl⟩;refine .inr ⟨by omega,?_⟩;simp only
 rw[n,dT_,Bool.or_true];rw[aD rfl];exact⟨rfl,h,λm f=>f,λm _ _=>.inl j⟩
def iZ.reset{o:da}{i:aN}(h:iZ o i)(ho:OI o)(a:o.given=true)(b:G.offset=o.end_)(c:G.code=o.code):
 i.uI G=false/\iZ o (i.reset G)/\∀m,jG i m->jG (i.reset G) m:=by
 have hs:=ho.hs;have d:=h.hi;have f:=ho.gv a;refine⟨?_,⟨h.th,h.hi,λ_ g=>?_,λ_=>⟨a,b,?_,rfl⟩,h.s1,λ_=>rfl,h.s0⟩,λm _=>.inl rfl⟩
 unfold aN.uI;rw[dF_,tA];cases e:i.ended;rfl;have:i.end_=G.offset:=by
  cases q:i.given;have:=h.en e q;omega;rw[b];exact(h.gv q).2.1
 simp[this];cases(show(true:Bool)=false from g);show(if i.given then i.code else G.code)=o.code;split;rename_i q;exact(h.gv q).2.2.1;exact c
def iZ.dJ{o:da}{i:aN}(h:iZ o i)(v:fZ i)(aF:Int):iZ o (i.dJ aF)/\(∀m,jG i m->jG (i.dJ aF) m):=by
 have e1:(i.dJ aF).there=i.there/\(i.dJ aF).data=i.data/\(i.dJ aF).high=i.high/\(i.dJ aF).end_=i.end_/\(i.dJ aF).ended=i.ended/\(i.dJ aF).given=i.given/\(i.dJ aF).code=i.code:=by
  unfold aN.dJ aN.stop aN.lu aN.start;repeat(first|split|exact⟨rfl,rfl,rfl,rfl,rfl,rfl,rfl⟩)
 obtain⟨n,r,s,p,a5,a6,a7⟩:=e1;have f:((i.dJ aF).state=i.state/\(i.state≠0->(i.dJ aF).read=i.read))\/(i.state=0/\(i.dJ aF).state=2/\i.given=true)\/(i.state=0/\(i.dJ aF).state=1/\i.given=false/\i.ended=true/\(i.dJ aF).read=i.end_):=by
  unfold aN.dJ;by_cases c:i.given=true/\i.state=0;have j:i.start={i with state:=2}:=by unfold aN.start;rw[aD c]
  right;left;refine⟨c.2,?_,c.1⟩
  rw[j];unfold aN.stop aN.lu;rw[az (λq=>by simp at q)];have j:i.start=i:=by unfold aN.start;rw[az c]
  rw[j];unfold aN.stop;by_cases d:(i.lu (i.bf aF)).ended=true/\(i.lu (i.bf aF)).read=(i.lu (i.bf aF)).end_/\(i.lu (i.bf aF)).state=0;rw[aD d];have d3:i.state=0:=d.2.2;right;right;refine⟨d3,rfl,?_,d.1,d.2.1⟩
  cases q:i.given;rfl;exact absurd ⟨q,d3⟩ c;rw[az d];left;refine⟨rfl,λt=>?_⟩
  show i.read+((i.bf aF:Nat):Int)=i.read;unfold aN.bf;rw[az t];simp
 refine⟨⟨λm b=>?_,by rw[s];exact h.hi,λe g=>?_,λg=>?_,λe=>?_,λe=>?_,?_⟩,λm b=>?_⟩
 rw[n]at b;rw[r];exact h.th m b;rw[a5]at e;rw[a6]at g;rw[p];exact h.en e g;rw[a6]at g;rw[p,a7,a5];exact h.gv g;obtain⟨b1,b2⟩|⟨b1,b2,a⟩|⟨b1,b2,a,k,l⟩:=f
 have u:=b1.symm.trans e;rw[b2 (by omega)];exact h.s1 u;omega;obtain⟨c1,c2,c3⟩:=h.en k a;exact⟨c1,l.trans c2⟩
 rw[a6];obtain⟨b1,b2⟩|⟨b1,b2,a⟩|⟨b1,b2,a,k,l⟩:=f
 exact h.s2 (b1.symm.trans e);exact a;omega;obtain⟨b1,b2⟩|⟨b1,b2,a⟩|⟨b1,b2,a,k,l⟩:=f
 rw[b1];exact h.s0;exact .inr (.inr b2);exact .inr (.inl b2);unfold jG at b⊢;rw[a6,n];exact b
def iZ.text{o:da}{i:aN}(h:iZ o i)(ho:OI o)(e:fZ i)(aF:Int)(v:0<=aF):
 ((i.text aF).length:Int)<=aF/\i.read+(i.text aF).length<=o.data.size/\i.text aF=((aG o.data).drop i.read.toNat).take (i.text aF).length/\(i.dJ aF).read=i.read+(i.text aF).length/\(i.state≠0->i.text aF=[]/\(i.dJ aF).state=i.state):=by
 have k:fZ i.start:=by unfold aN.start;split<;>exact⟨e.dl,e.tl,e.hi,e.e0,e.rd⟩
 have f:i.start.read=i.read/\i.start.there=i.there/\i.start.high=i.high:=by unfold aN.start;split<;>exact⟨rfl,rfl,rfl⟩
 obtain⟨c,d⟩:=exq (i.start.bf aF);have w:i.read+c<=i.high:=by have:=zK (p:=aF) k;rw[f.1,f.2.2,<-d]at this;exact this
 have r:(c:Int)<=aF:=by rw[d];unfold aN.bf;split<;>omega
 have hd:=e.dl;have x:=e.rd;have hl:(i.text aF).length=c:=by unfold aN.text;rw[<-d,ct,dM];omega
 have hs:=ho.hs;have y:=h.hi;rw[hl];refine⟨r,by omega,?_,?_,λg=>?_⟩
 apply List.ext_getElem?;intro j;unfold aN.text;rw[<-d,jI,jI];split;rename_i s;have l:=(OM k (j:=j) (by rw[<-d];exact s)).2.2.2;rw[f.1,f.2.1]at l;have t:i.there.getD (i.read.toNat+j) false=true:=by rw[List.getD,l];rfl
 obtain⟨a,b⟩:=h.th _ t;rw[kR,kR];have m:i.read.toNat+j<i.data.length:=by omega
 have n:i.read.toNat+j<(aG o.data).length:=by rw[fH];exact a
 rw[List.getD,List.getD,eI m,eI n]at b;rw[eI m,eI n];simpa using b;rfl;unfold aN.dJ;rw[<-d];have:∀j:aN,j.stop.read=j.read:=λj=>by unfold aN.stop;split<;>rfl
 rw[this];show i.start.read+(c:Int)=i.read+(c:Int)
 rw[f.1];have p:i.start=i:=by unfold aN.start;rw[az (λq=>g q.2)]
 have u:c=0:=by rw[d,p];unfold aN.bf;rw[az g]
 refine⟨by unfold aN.text;rw[<-d,u];rfl,?_⟩
 unfold aN.dJ aN.stop;rw[p,az (λq=>g q.2.2)];rfl
structure cI(a b:ai):Prop where
 key:b.key=a.key
 me:a.me=1-b.me
 ag:b.ag=a.ag
 sn:∀x∈a.ay,0<=x.1/\x.1<a.next
 aT:∀x∈a.ay,∀y∈a.ay,x.1=y.1->x=y
 fr:∀x∈a.ay,∀f∈x.2,qS a.outs f/\cT f
 ak:∀x∈a.ay,∀f∈x.2,f.kind=3->∀n,bN f.ranges n=true->Sm a.bT.sp n
 aL:∀k,k<4->iZ (a.outs k) (b.ins k)
 ev:∀n,Sm b.bT.sp n->n<a.next
 tk:∀x∈a.ay,Sm b.bT.sp x.1->∀f∈x.2,∀k,k<4->∀m,ox f k m->jG (b.ins k) m
 cm:∀k,k<4->∀m,Sm (a.outs k).af.sp m->jG (b.ins k) m
structure oC(m:ai)(n:Nat):Prop where
 cl:m.closed=0
 out:∀k,k<4->OI (m.outs k)
 ck:∀k,k<4->fw (m.outs k).af
 fr:∀k,k<4->(m.outs k).af.eM<=(m.outs k).data.size/\((m.outs k).given=false->(m.outs k).data.size-(m.outs k).af.eM<=m.ag)
 gO:∀k,k<4->fZ (m.ins k)
 rd:∀k,k<4->(m.ins k).high<=(m.ins k).read+m.ag
 kq:uH m
 bT:∃c,s6 c m.bT n
def dK.fB(h:dK s Y n)(hs:bY s n):oC Y n:=by
 refine⟨h.c.cl,λk a=>?_,λk a=>(h.c.out k a).ck,λk a=>?_,h.c.gO,λk a=>(h.rd k a).2,h.c.fl.kq,_,h.bT⟩
 have R:=h.c.out k a;exact⟨R.hs,λe=>(R.gv e).2.1,R.sz⟩
 have R:=h.c.out k a;have b:=R.rK;have h0:=(hs.out k a).fr;refine⟨by rw[<-R.fr];exact b,λd=>?_⟩
 have f:=R.zQ d h0;have g:=hs.oW k a;rw[<-R.fr,h.c.ag];omega
def Qg{z:cQ}(h:s6 D z n)(g:n<=1000000)(i:0<=p)(d:Int):Sm (z.add p p).sp d↔Sm z.sp d\/d=p:=by
 have e1:max p z.floor=p:=by rw[h.fl];omega
 have e2:=xu (D:=z.l) (cS p) h.ok;obtain⟨E,a⟩:=exq ((qa p p z.l).end_);rw[<-a]at e2;have j:E.length<=z.l.length+1:=by
  have:=tS (z.l.map cR) ⟨p,p+1⟩;rw[<-e2,dH,dH]at this;exact this
 have b:z.add p p={z with l:=E}:=by
  unfold cQ.add cQ.put;rw[e1,iN_,<-a,az (by rw[h.mo];have:=h.len;omega)]
 have c:(z.add p p).sp=dB z.sp ⟨p,p+1⟩:=by rw[b];exact e2
 rw[c,jM _ h.ok];constructor;rintro(q|⟨e,f⟩);exact .inl q;simp only at e f;exact .inr (by omega);rintro(q|q);exact .inl q;exact .inr ⟨by simp only;omega,by simp only;omega⟩
structure mP(a b c:ai):Prop where
 aL:∀k,k<4->iZ (a.outs k) (c.ins k)
 gO:∀k,k<4->fZ (c.ins k)
 rs:∀k,(c.ins k).read=(b.ins k).read/\(c.ins k).state=(b.ins k).state
 th:∀k m,jG (b.ins k) m->jG (c.ins k) m
 out:∀k,k<4->∃z,c.outs k={b.outs k with af:=z}
 ck:∀k,k<4->fw (c.outs k).af
 cm:∀k,k<4->∀m,Sm (b.outs k).af.sp m->Sm (c.outs k).af.sp m
 cn:∀k,k<4->∀m,Sm (c.outs k).af.sp m->Sm (b.outs k).af.sp m\/∃x∈b.ay,Sm a.bT.sp x.1/\∃g∈x.2,ox g k m
 same:rI b c
def mP.trans{b c d:ai}(h:mP Y b c)(g:mP Y c d):mP Y b d:=by
 refine⟨g.aL,g.gO,λk=>⟨(g.rs k).1.trans (h.rs k).1,(g.rs k).2.trans (h.rs k).2⟩,λk m q=>g.th k m (h.th k m q),λk a=>?_,g.ck,λk a m q=>g.cm k a m (h.cm k a m q),λk a m q=>?_,?_⟩
 obtain⟨z,e⟩:=h.out k a;obtain⟨y,f⟩:=g.out k a;exact⟨y,by rw[f,e]⟩
 obtain q|q:=g.cn k a m q
 exact h.cn k a m q;rw[h.same.ay]at q;exact .inr q;have x:=h.same;have y:=g.same;exact⟨y.aj.trans x.aj,y.ag.trans x.ag,y.key.trans x.key,y.me.trans x.me,y.closed.trans x.closed,y.code.trans x.code,y.said.trans x.said,y.next.trans x.next,y.dW.trans x.dW,y.bT.trans x.bT,y.ay.trans x.ay⟩
def rI.refl(b:ai):rI b b:=⟨rfl,rfl,rfl,rfl,rfl,rfl,rfl,rfl,rfl,rfl,rfl⟩
def mP.note{b c:ai}(h:mP Y b c)(f:Fr)(n:Int):mP Y b (c.note f n):=by
 obtain⟨s,o,i,-⟩:=uK c f n;refine h.trans ⟨λk a=>by rw[i];exact h.aL k a,λk a=>by rw[i];exact h.gO k a,λk=>by rw[i];exact⟨rfl,rfl⟩,λk m q=>by rw[i];exact q,λk a=>⟨(c.outs k).af,by rw[o]⟩,λk a=>by rw[o];exact h.ck k a,λk a m q=>by rw[o];exact q,λk a m q=>by rw[o]at q;exact .inl q,s⟩
def mP.nE{b:ai}(c:∀k,k<4->iZ (Y.outs k) (b.ins k))(d:∀k,k<4->fZ (b.ins k))(f:∀k,k<4->fw (b.outs k).af){i:aN}(g:iZ (Y.outs k) i)(h:fZ i)(l:i.read=(b.ins k).read/\i.state=(b.ins k).state)(n:∀m,jG (b.ins k) m->jG i m):mP Y b {b with ins:=ah b.ins k i}:=by
 refine⟨λj a=>?_,λj a=>?_,λj=>?_,λj m q=>?_,λj _=>⟨_,rfl⟩,f,λj a m q=>q,λj a m q=>.inl q,⟨rfl,rfl,rfl,rfl,rfl,rfl,rfl,rfl,rfl,rfl,rfl⟩⟩
 by_cases e:j=k;subst e;simp only[bk];exact g;simp only[bm _ _ e];exact c j a;by_cases e:j=k;subst e;simp only[bk];exact h;simp only[bm _ _ e];exact d j a;by_cases e:j=k;subst e;simp only[bk];exact l;rw[show({b with ins:=ah b.ins k i}:ai).ins j=b.ins j from bm _ _ e];exact⟨rfl,rfl⟩
 by_cases e:j=k;subst e;simp only[bk];exact n m q;simp only[bm _ _ e];exact q
def Qh(i:aN)(f:Fr):(i.bytes f).2.read=i.read/\(i.bytes f).2.state=i.state:=by
 unfold aN.bytes;split;exact⟨rfl,rfl⟩
 split<;>exact⟨rfl,rfl⟩
def Qi{b:ai}(ho:∀k,k<4->OI (Y.outs k))(f:∀k,k<4->iZ (Y.outs k) (b.ins k))(c:∀k,k<4->fZ (b.ins k))(h:uH b)(d:∀k,k<4->fw (b.outs k).af)(i:qS Y.outs G)(hs:cT G)
 (r:G.kind=3->(au G.ranges 0).hi<b.next/\∀n,bN G.ranges n=true->Sm Y.bT.sp n):(b.take G).1=0/\mP Y b (b.take G).2/\∀k,k<4->∀m,ox G k m->jG ((b.take G).2.ins k) m:=by
 unfold ai.take;obtain e|e|e:=i.kind
 obtain⟨s,p⟩:=r e;rw[aD e,iN_];refine⟨rfl,⟨f,c,λk=>⟨rfl,rfl⟩,λk m q=>q,λk a=>(rL G.ranges b.ay h d k a).1,EF h d,λk a m q=>((rL G.ranges b.ay h d k a).2 m).2 (.inl q),λk a m q=>?_,⟨rfl,rfl,rfl,rfl,rfl,rfl,rfl,rfl,rfl,rfl,rfl⟩⟩,λk _ m q=>?_⟩
 obtain q|⟨x,t,u,v⟩:=((rL G.ranges b.ay h d k a).2 m).1 q
 exact .inl q;exact .inr ⟨x,t,p _ u,v⟩;have:=q.1;omega;obtain⟨w,y,g,j,a5⟩:=i.k4 e;have a:G.stream.toNat<4:=by omega
 obtain⟨b1,b2,l⟩:=(f _ a).reset (ho _ a) g j a5;rw[iN_,aD e,az (by rw[b1];decide)];have h0:0<=G.offset:=by have:=(ho _ a).gv g;have:=(ho _ a).hs;omega
 refine⟨rfl,mP.nE f c d b2 ((c _ a).reset h0 (by have:=hs.1.1;omega)) ⟨rfl,rfl⟩ l,λk _ m q=>?_⟩
 have:=q.1;omega;obtain⟨w,y,g,j,a5,a6⟩:=i.k5 e;have a:G.stream.toNat<4:=by omega
 obtain⟨b1,b2,l,z⟩:=(f _ a).bytes (ho _ a) (c _ a) g j a5 a6;rw[iN_,iN_,aD e];have s:=(ho _ a).hs;have p:=(ho _ a).sz;refine⟨b1,mP.nE f c d b2 ((c _ a).bytes g (by omega) (λ_=>by omega)) (Qh _ G) l,λk D m q=>?_⟩
 obtain⟨-,-,A,B,C⟩:=q;subst A;simp only[bk]
 exact z m B C
def Qj(ho:∀k,k<4->OI (Y.outs k))(num:Int):∀(a:List Fr)(b:ai),(∀k,k<4->iZ (Y.outs k) (b.ins k))->(∀k,k<4->fZ (b.ins k))->uH b->(∀k,k<4->fw (b.outs k).af)->
 (∀f∈a,qS Y.outs f/\cT f/\(f.kind=3->(au f.ranges 0).hi<b.next/\∀n,bN f.ranges n=true->Sm Y.bT.sp n))->
 (ai.fx num a b).1=0/\mP Y b (ai.fx num a b).2/\∀f∈a,∀k,k<4->∀m,ox f k m->jG ((ai.fx num a b).2.ins k) m:=by
 intro a;induction a with
 |nil=>
  intro b d e h i _;exact⟨rfl,⟨d,e,λk=>⟨rfl,rfl⟩,λk m q=>q,λk _=>⟨_,rfl⟩,i,λk _ m q=>q,λk _ m q=>.inl q,rI.refl b⟩,λf r=>by cases r⟩
 |cons f a s=>
  intro b d e h i j;obtain⟨f1,f2,f3⟩:=j f (by simp);obtain⟨t1,t2,t3⟩:=Qi ho d e h i f1 f2 f3;have e2:ai.fx num (f::a) b=if(b.take f).1=0 then ai.fx num a ((b.take f).2.note f num)else((b.take f).1,(b.take f).2.fail (b.take f).1):=rfl
  rw[e2,aD t1];have t4:=t2.note f num;obtain⟨t,l,u⟩:=s _ t4.aL t4.gO (by unfold uH;rw[t4.same.ay];exact h) t4.ck (λg c=>by rw[t4.same.next];exact j g (by simp[c]));refine⟨t,t4.trans l,λg c k p m q=>?_⟩
  obtain rfl|c:=fF.1 c
  refine l.th k m ?_;rw[(uK _ _ _).2.2.1];exact t3 k p m q;exact u g c k p m q
def pf(a:ai)(p:List Int)(x:Int×List Fr):Prop:=eC a.key a.me p/\bq p=x.1/\fN (dT a.key a.me (bq p) (bS p))=(some x.2,-1)
structure mQ(o a:da):Prop where
 data:a.data=o.data
 fin:a.finished=o.finished
 gv:a.given=o.given
 code:a.code=o.code
 pre:o.af.eM<=a.af.eM
def mQ.rfl'(o:da):mQ o o:=⟨rfl,rfl,rfl,rfl,cS _⟩
def Qk{z a:cQ}(h:fw z)(b:fw a)(hs:∀m,Sm z.sp m->Sm a.sp m):z.eM<=a.eM:=by
 obtain⟨f,d,g⟩:=sY h;obtain⟨b1,b2,e⟩:=sY b;by_cases c:z.eM<=a.eM;exact c;exact absurd (hs _ (d _ b1 (by omega))) e
def cI.same{b a:ai}(D:cI Y b)(i:a.ins=b.ins)(e:a.bT=b.bT)(k:a.key=b.key)(m:a.me=b.me)(w:a.ag=b.ag):cI Y a:=
 ⟨k.trans D.key,by rw[m];exact D.me,w.trans D.ag,D.sn,D.aT,D.fr,D.ak,by rw[i];exact D.aL,by rw[e];exact D.ev,by rw[e,i];exact D.tk,by rw[i];exact D.cm⟩
def cI.Ql{b:ai}(D:cI Y b)(E:cI b Y){x:Int×List Fr}(a:x∈Y.ay)(c:G∈x.2)(d:G.kind=3):(au G.ranges 0).hi<b.next:=by
 obtain⟨e,p2⟩:=(D.fr x a G c).2.2.1.1 d;have p3:=p2 0 e;exact E.ev _ (D.ak x a G c d _ ((yE _ _).2 ⟨0,e,p3.1,cS _⟩))
def Qm{b:ai}(C:oC Y i)(p:oC b j)(F:j<=1000000)(D:cI Y b)(E:cI b Y){x:Int×List Fr}(t:x∈Y.ay)(hp:pf Y L x):
 ((b.eT L).1=0\/(b.eT L).1=6)/\cI Y (b.eT L).2.2/\cI (b.eT L).2.2 Y/\(∀k,k<4->mQ (b.outs k) ((b.eT L).2.2.outs k))/\(∀k,((b.eT L).2.2.ins k).read=(b.ins k).read/\((b.eT L).2.2.ins k).state=(b.ins k).state)/\(b.eT L).2.2.next=b.next/\(b.eT L).2.2.ay=b.ay:=by
 obtain⟨G,p2,p3⟩:=hp;have H:1-b.me=Y.me:=D.me.symm;have same:cI Y b/\cI b Y/\(∀k,k<4->mQ (b.outs k) (b.outs k))/\(∀k,(b.ins k).read=(b.ins k).read/\(b.ins k).state=(b.ins k).state)/\b.next=b.next/\b.ay=b.ay:=⟨D,E,λk _=>mQ.rfl' _,λk=>⟨rfl,rfl⟩,rfl,rfl⟩
 unfold ai.eT;rw[az (by rw[p.cl];decide),H,D.key,az (by simpa using G)];split;exact⟨.inl rfl,same⟩
 unfold ai.qb;rw[p3];simp only
 split;exact⟨.inr rfl,same⟩
 have I:=D.sn x t;obtain⟨t1,t2,t3⟩:=Qj (Y:=Y) C.out (bq L) x.2 (b.mark (bq L)) D.aL p.gO p.kq p.ck (λf l=>⟨(D.fr x t f l).1,(D.fr x t f l).2,λw=>⟨D.Ql E t l w,D.ak x t f l w⟩⟩);obtain⟨s,K⟩:=exq ((ai.fx (bq L) x.2 (b.mark (bq L))).2);rw[<-K]at t2 t3⊢;obtain⟨c,M⟩:=p.bT;have A:∀d,Sm s.bT.sp d↔Sm b.bT.sp d\/d=x.1:=λd=>by
  rw[t2.same.bT];show Sm (b.bT.add (bq L) (bq L)).sp d↔_;rw[p2];exact Qg M F I.1 d
 have B:∀k,k<4->lz (b.outs k) (s.outs k):=λk a=>by
  obtain⟨z,e⟩:=t2.out k a;have e:s.outs k={b.outs k with af:=z}:=e;rw[e];exact⟨aR _,λ_ _=>rfl,λh=>⟨h,rfl⟩,λh=>⟨h,rfl,rfl⟩,cS _⟩
 have N:∀k,k<4->OI (s.outs k):=λk a=>by
  obtain⟨z,e⟩:=t2.out k a;have e:s.outs k={b.outs k with af:=z}:=e;rw[e];exact⟨(p.out k a).hs,(p.out k a).gv,(p.out k a).sz⟩
 have hs:s.ay=b.ay:=t2.same.ay;have u:s.next=b.next:=t2.same.next;refine⟨.inl t1,?_,?_,λk a=>?_,t2.rs,u,hs⟩
 refine⟨t2.same.key.trans D.key,?_,t2.same.ag.trans D.ag,D.sn,D.aT,D.fr,D.ak,t2.aL,λn u=>?_,λy r O f l k a m q=>?_,λk a m q=>t2.th k m (D.cm k a m q)⟩
 rw[t2.same.me];exact D.me;obtain q|q:=(A n).1 u
 exact D.ev n q;omega;obtain v|v:=(A y.1).1 O
 exact t2.th k m (D.tk y r v f l k a m q);have:=D.aT y r x t v;subst this;exact t3 f l k a m q;refine⟨E.key.trans t2.same.key.symm,?_,E.ag.trans t2.same.ag.symm,?_,?_,?_,?_,λk a=>(E.aL k a).le (B k a) (N k a),?_,?_,λk a m q=>?_⟩
 rw[t2.same.me];exact E.me;rw[hs,u];exact E.sn;rw[hs];exact E.aT;rw[hs];exact λy r f l=>⟨(E.fr y r f l).1.le B p.out,(E.fr y r f l).2⟩
 rw[hs];exact λy r f l w n q=>(A n).2 (.inl (E.ak y r f l w n q))
 rw[u];exact E.ev;rw[hs];exact E.tk;obtain v|⟨y,r,P,g,Q,R⟩:=t2.cn k a m q
 exact E.cm k a m v;exact E.tk y r P g Q k a m R;obtain⟨z,e⟩:=t2.out k a;have e:s.outs k={b.outs k with af:=z}:=e;refine⟨by rw[e],by rw[e],by rw[e],by rw[e],Qk (p.ck k a) (t2.ck k a) (t2.cm k a)⟩
def E0(b:ByteArray)(i j:Nat):aG (b.extract i j)=((aG b).drop i).take (j-i):=by
 unfold aG;rw[xN,Array.toList_extract,List.extract_eq_take_drop,List.map_take,List.map_drop]
structure mR(m a:ai):Prop where
 le:∀k,k<4->lz (m.outs k) (a.outs k)
 oi:∀k,k<4->OI (a.outs k)
 kp:∀k,k<4->mQ (m.outs k) (a.outs k)
 cm:∀k,k<4->(a.outs k).af=(m.outs k).af
 ins:a.ins=m.ins
 bT:a.bT=m.bT
 key:a.key=m.key
 me:a.me=m.me
 ag:a.ag=m.ag
 aj:a.aj=m.aj
def mQ.trans{o p q:da}(h:mQ o p)(g:mQ p q):mQ o q:=⟨g.data.trans h.data,g.fin.trans h.fin,g.gv.trans h.gv,g.code.trans h.code,Int.le_trans h.pre g.pre⟩
def mR.trans{b c:ai}(h:mR Y b)(g:mR b c):mR Y c:=
 ⟨λk a=>(h.le k a).trans (g.le k a),g.oi,λk a=>(h.kp k a).trans (g.kp k a),λk a=>(g.cm k a).trans (h.cm k a),g.ins.trans h.ins,g.bT.trans h.bT,g.key.trans h.key,g.me.trans h.me,g.ag.trans h.ag,g.aj.trans h.aj⟩
def mR.rfl'{a:ai}(ho:∀k,k<4->OI (Y.outs k))(b:a.outs=Y.outs)(c:a.ins=Y.ins)(d:a.bT=Y.bT)(e:a.key=Y.key)(f:a.me=Y.me)(g:a.ag=Y.ag)(h:a.aj=Y.aj):mR Y a:=
 ⟨λk _=>by rw[b];exact lz.rfl' _,λk i=>by rw[b];exact ho k i,λk _=>by rw[b];exact mQ.rfl' _,λk _=>by rw[b],c,d,e,f,g,h⟩
def Qn(h:rJ Y G)(ho:∀k,k<4->OI (Y.outs k)):mR Y (Y.dN G)/\qS (Y.dN G).outs G:=by
 by_cases c:G.kind=5;obtain⟨d,f,b⟩:=h.k5 c;have a:G.stream.toNat<4:=by omega
 have e:Y.dN G={Y with outs:=ah Y.outs G.stream.toNat ((Y.outs G.stream.toNat).rH G)}:=by unfold ai.dN;rw[iN_,aD c]
 have hs:=(ho _ a).hs;have g:=b.en;have i:=b.gv;have key:∀k,k<4->lz (Y.outs k) (ah Y.outs G.stream.toNat ((Y.outs G.stream.toNat).rH G) k)/\OI (ah Y.outs G.stream.toNat ((Y.outs G.stream.toNat).rH G) k)/\mQ (Y.outs k) (ah Y.outs G.stream.toNat ((Y.outs G.stream.toNat).rH G) k)/\(ah Y.outs G.stream.toNat ((Y.outs G.stream.toNat).rH G) k).af=(Y.outs k).af:=λk l=>by
  by_cases q:k=G.stream.toNat;subst q;simp only[bk]
  refine⟨⟨aR _,λ_ _=>rfl,λh=>⟨h,rfl⟩,λh=>⟨h,rfl,rfl⟩,by show(Y.outs G.stream.toNat).high<=max (Y.outs G.stream.toNat).high (aW G);omega⟩,⟨by show 0<=max (Y.outs G.stream.toNat).high (aW G)/\max (Y.outs G.stream.toNat).high (aW G)<=((Y.outs G.stream.toNat).data.size:Int);omega,λq=>?_,(ho _ a).sz⟩,⟨rfl,rfl,rfl,rfl,cS _⟩,rfl⟩
  have q:(Y.outs G.stream.toNat).given=true:=q;rw[i]at q;cases q;rw[bm _ _ q];exact⟨lz.rfl' _,ho k l,mQ.rfl' _,rfl⟩
 rw[e];refine⟨⟨λk a=>(key k a).1,λk a=>(key k a).2.1,λk a=>(key k a).2.2.1,λk a=>(key k a).2.2.2,rfl,rfl,rfl,rfl,rfl,rfl⟩,⟨h.kind,λq=>by omega,λ_=>?_⟩⟩
 simp only[bk]
 refine⟨d,f,b.off,by show aW G<=max _ (aW G);omega,λj t u=>?_,λq=>?_⟩
 show _=(aG (Y.outs G.stream.toNat).data).getD j 0;have g:aW G=G.offset+G.data.size:=rfl;rw[<-b.mO,E0];simp only[List.getD,jI,kR]
 rw[iP_,show G.offset.toNat+(j-G.offset.toNat)=j by omega];have:=b.fin;rw[q]at this;have:=this.symm;simp only[lQ,mX]at this;exact this;have e:(Y.dN G).outs=Y.outs/\(Y.dN G).ins=Y.ins/\(Y.dN G).bT=Y.bT/\(Y.dN G).key=Y.key/\(Y.dN G).me=Y.me/\(Y.dN G).ag=Y.ag/\(Y.dN G).aj=Y.aj:=by
  unfold ai.dN;split;exact⟨rfl,rfl,rfl,rfl,rfl,rfl,rfl⟩
  first|exact⟨rfl,rfl,rfl,rfl,rfl,rfl,rfl⟩|(rw[az c];exact⟨rfl,rfl,rfl,rfl,rfl,rfl,rfl⟩)
 obtain⟨e1,e2,m,n,p,r,s⟩:=e;refine⟨mR.rfl' ho e1 e2 m n p r s,⟨h.kind,λq=>by rw[e1];exact h.k4 q,λq=>absurd q c⟩⟩
def Qo:∀(q:List Fr)(m:ai),(∀j,j<q.length->rJ ((q.take j).foldl ai.dN m) (zL q j))->(∀k,k<4->OI (m.outs k))->mR m (q.foldl ai.dN m)/\∀f∈q,qS (q.foldl ai.dN m).outs f/\(f.kind=3->∀r∈f.ranges,uJ m.bT.l r=true):=by
 intro q;induction q with
 |nil=>intro m _ ho;exact⟨mR.rfl' ho rfl rfl rfl rfl rfl rfl rfl,λf a=>by cases a⟩
 |cons g q d=>
  intro m h ho;have h0:rJ m g:=h 0 (by simp);obtain⟨t1,t2⟩:=Qn h0 ho;obtain⟨b,e⟩:=d (m.dN g) (λj n=>h (j+1) (by simp;omega)) t1.oi;refine⟨t1.trans b,λf a=>?_⟩
  obtain rfl|a:=fF.1 a
  exact⟨t2.le b.le t1.oi,h0.k3⟩
  obtain⟨i,c⟩:=e f a;exact⟨i,by rw[t1.bT]at c;exact c⟩
structure s8(a b:ai):Prop where
 may:mR a b
 sub:∀x∈a.ay,x∈b.ay
def Qp{b:ai}(ho:∀k,k<4->OI (Y.outs k))(D:cI Y b)(E:cI b Y){p:ByteArray}{c:List Fr}(h:qR Y p c):
 cI (Y.jR c) b/\cI b (Y.jR c)/\s8 Y (Y.jR c)/\pf Y (aG p) (Y.next,c)/\(Y.next,c)∈(Y.jR c).ay/\(Y.jR c).next=Y.next+1:=by
 obtain⟨m1,t⟩:=Qo c {Y with next:=Y.next+1} h.may ho;obtain⟨e1,e2,I,K,r⟩:=EG c {Y with next:=Y.next+1};obtain⟨e,v⟩:∃e,e=c.foldl ai.dN {Y with next:=Y.next+1}:=⟨_,rfl⟩
 have z:Y.jR c={e with ay:=Y.ay++[(Y.next,c)]}:=by rw[v];rfl
 rw[<-v]at m1 t r;have A:=xd h.op.dec;have L:=h.op.nx;rw[z];have B:∀x∈Y.ay,x∈Y.ay++[(Y.next,c)]:=λx a=>iO _ a
 have C:mR Y {e with ay:=Y.ay++[(Y.next,c)]}:=⟨m1.le,m1.oi,m1.kp,m1.cm,m1.ins,m1.bT,m1.key,m1.me,m1.ag,m1.aj⟩
 refine⟨⟨D.key.trans m1.key.symm,?_,D.ag.trans m1.ag.symm,?_,?_,?_,?_,λk g=>(D.aL k g).le (m1.le k g) (m1.oi k g),?_,?_,λk g m q=>?_⟩,E.same m1.ins m1.bT m1.key m1.me m1.ag,⟨C,B⟩,⟨h.op.ok,h.op.num,h.op.dec⟩,by simp,r⟩
 show e.me=_;rw[m1.me];exact D.me;intro x a;show 0<=x.1/\x.1<e.next;rw[r];obtain a|a:=bQ.1 a
 have:=D.sn x a;simp only;omega;rw[cL.1 a];simp only;omega;intro x a y j l;obtain a|a:=bQ.1 a<;>rcases bQ.1 j with j|j
 exact D.aT x a y j l;have:=D.sn x a;rw[cL.1 j]at l;simp only at l;omega;have:=D.sn y j;rw[cL.1 a]at l;simp only at l;omega;rw[cL.1 a,cL.1 j];intro x a f d;obtain a|a:=bQ.1 a
 exact⟨(D.fr x a f d).1.le m1.le ho,(D.fr x a f d).2⟩
 rw[cL.1 a]at d;exact⟨(t f d).1,A f d⟩
 intro x a f d w n s;show Sm e.bT.sp n;rw[m1.bT];obtain a|a:=bQ.1 a
 exact D.ak x a f d w n s;rw[cL.1 a]at d;obtain⟨i,hi,M,n2⟩:=(yE _ _).1 s;have F:au f.ranges i∈f.ranges:=by unfold au;rw[ql,eI hi];simp
 have:=(t f d).2 w _ F;unfold uJ at this;obtain⟨q,G,H⟩:=qY.1 this;simp only[lQ,mX]at H;exact⟨cR q,fg.2 ⟨q,G,rfl⟩,by simp only[cR];omega,by simp only[cR];omega⟩
 intro n s;have:=D.ev n s;show n<e.next;rw[r];simp only;omega;intro x a u f d k g m q;obtain a|a:=bQ.1 a
 exact D.tk x a u f d k g m q;rw[cL.1 a]at u;have:=D.ev _ u;simp only at this;omega;have q:Sm (e.outs k).af.sp m:=q;rw[m1.cm k g]at q;exact D.cm k g m q
def s8.trans{b c:ai}(h:s8 Y b)(g:s8 b c):s8 Y c:=⟨h.may.trans g.may,λx a=>g.sub x (h.sub x a)⟩
def Qq:∀(b:List (List Fr))(bs:List ByteArray)(a:ai),b.length=bs.length->(∀j,j<bs.length->qR (a.eu (b.take j)) (eU bs j) (b.getD j []))->(∀k,k<4->OI (a.outs k))->cI a Y->cI Y a->
 cI (a.eu b) Y/\cI Y (a.eu b)/\s8 a (a.eu b)/\(a.eu b).next=a.next+bs.length/\∀j,j<bs.length->∃x∈(a.eu b).ay,pf a (aG (eU bs j)) x/\x.1=a.next+j/\((eU bs j).size:Int)<=a.aj:=by
 intro b;induction b with
 |nil=>
  intro bs a hl _ ho D E;have:bs=[]:=by cases bs with|nil=>rfl|cons=>simp at hl
  subst this;exact⟨D,E,⟨mR.rfl' ho rfl rfl rfl rfl rfl rfl rfl,λx d=>d⟩,by show a.next=a.next+0;omega,λj c=>by simp at c⟩
 |cons f b l=>
  intro bs a hl g ho D E;cases bs with
  |nil=>simp at hl
  |cons p bs=>
   have h0:qR a p f:=g 0 (by simp);obtain⟨d1,d2,d3,d4,d5,d6⟩:=Qp ho D E h0;obtain⟨m,n,h,q,r⟩:=l bs (a.jR f) (by simpa using hl) (λj c=>g (j+1) (by simp;omega)) d3.may.oi d1 d2;refine⟨m,n,d3.trans h,?_,λj c=>?_⟩
   show((a.jR f).eu b).next=_;rw[q,d6,dc];push_cast;omega;cases j with
   |zero=>exact⟨(a.next,f),h.sub _ d5,d4,by simp,h0.op.len⟩
   |succ j=>
    obtain⟨x,d,e,s,i⟩:=r j (by simpa using c);refine⟨x,d,?_,by rw[s,d6];push_cast;omega,by rw[d3.may.aj]at i;exact i⟩
    unfold pf at e⊢;rw[d3.may.key,d3.may.me]at e;exact e
structure End where
 wrote:ByteArray
 finished:Bool
 given:Bool
 code:Int
 read:Int
 state:Int
 af:Int
structure lN(o:da)(i:aN)(e:End):Prop where
 wrote:e.wrote=o.data
 fin:e.finished=o.finished
 gv:e.given=o.given
 code:e.given=true->e.code=o.code
 read:e.read=i.read
 state:e.state=i.state
 af:0<=e.af/\e.af<=o.af.eM
def cI.rG{b:ai}(D:cI Y b)(ho:∀k,k<4->OI (Y.outs k)){o:da}(h:lz (Y.outs k) o)(i:OI o)(l:o.af=(Y.outs k).af):cI {Y with outs:=ah Y.outs k o} b:=by
 have c:∀j,j<4->lz (Y.outs j) (ah Y.outs k o j):=λj _=>by
  by_cases e:j=k;subst e;rw[bk];exact h;rw[bm _ _ e];exact lz.rfl' _
 have n:∀j,j<4->OI (ah Y.outs k o j):=λj a=>by
  by_cases e:j=k;subst e;rw[bk];exact i;rw[bm _ _ e];exact ho j a
 refine⟨D.key,D.me,D.ag,D.sn,D.aT,λx d f g=>⟨(D.fr x d f g).1.le c ho,(D.fr x d f g).2⟩,D.ak,λj a=>(D.aL j a).le (c j a) (n j a),D.ev,D.tk,λj a m q=>?_⟩
 have q:Sm (ah Y.outs k o j).af.sp m:=q;by_cases e:j=k;subst e;rw[bk,l]at q;exact D.cm j a m q;rw[bm _ _ e]at q;exact D.cm j a m q
def cI.nE{b:ai}(D:cI Y b){i:aN}(d:iZ (Y.outs k) i)(g:∀m,jG (b.ins k) m->jG i m):cI Y {b with ins:=ah b.ins k i}:=by
 have c:∀j m,jG (b.ins j) m->jG (ah b.ins k i j) m:=λj m q=>by
  by_cases e:j=k;subst e;rw[bk];exact g m q;rw[bm _ _ e];exact q
 refine⟨D.key,D.me,D.ag,D.sn,D.aT,D.fr,D.ak,λj a=>?_,D.ev,λx h l f n j a m q=>c j m (D.tk x h l f n j a m q),λj a m q=>c j m (D.cm j a m q)⟩
 show iZ (Y.outs j) (ah b.ins k i j);by_cases e:j=k;subst e;rw[bk];exact d;rw[bm _ _ e];exact D.aL j a
def Qr{a b:ByteArray}(h:m<a.size):(aG (a++b)).getD m 0=(aG a).getD m 0:=by
 rw[zS];simp only[List.getD,List.getElem?_append]
 rw[aD (by rw[fH];exact h)]
def tc(a b:ByteArray):(a++b).size=a.size+b.size:=ByteArray.size_append
def E1{b:ai}(a:oC Y n)(D:cI Y b)(E:cI b Y)(f:k<4)(d:ByteArray):
 cI (Y.write k d).2.2 b/\cI b (Y.write k d).2.2/\(Y.write k d).2.2.ay=Y.ay/\(Y.write k d).2.2.next=Y.next/\
 ((((Y.outs k).finished||(Y.outs k).given)=true/\(Y.write k d).1=0/\(Y.write k d).2.1=3/\(Y.write k d).2.2=Y)\/
  (((Y.outs k).finished||(Y.outs k).given)=false/\(Y.write k d).2.1=0/\0<=(Y.write k d).1/\(Y.write k d).1<=d.size/\(Y.outs k).data.size+(Y.write k d).1-(Y.outs k).af.eM<=Y.ag/\(Y.write k d).2.2={Y with outs:=ah Y.outs k {Y.outs k with data:=(Y.outs k).data++d.extract 0 (Y.write k d).1.toNat}})):=by
 have i:Y.of (k:Int)=0:=by unfold ai.of;rw[az (by rw[a.cl];decide),iN_]
 have j:((k:Int)).toNat=k:=by omega
 unfold ai.write;rw[i,j,az (by decide)];by_cases e:((Y.outs k).finished||(Y.outs k).given)=true;rw[aD e];exact⟨D,E,rfl,rfl,.inl ⟨e,rfl,rfl,rfl⟩⟩
 rw[az e];have g:((Y.outs k).finished||(Y.outs k).given)=false:=by simpa using e
 have c:=g;rw[oH]at c;have l:=a.fr k f;have t:=l.2 c.2;have u:=(a.out k f).sz;have h:0<=Y.fI k d.size/\Y.fI k d.size<=d.size/\Y.fI k d.size<=Y.ag-((Y.outs k).data.size-(Y.outs k).af.eM)/\Y.fI k d.size<=4096-(Y.outs k).data.size:=by unfold ai.fI;omega
 have p:(d.extract 0 (Y.fI k d.size).toNat).size=(Y.fI k d.size).toNat:=by rw[rQ];omega
 refine⟨D.rG a.out ?_ ?_ rfl,E.same rfl rfl rfl rfl rfl,rfl,rfl,.inr ⟨g,rfl,h.1,h.2.1,by omega,rfl⟩⟩
 refine⟨by rw[tc];omega,λm r=>Qr r,λq=>?_,λq=>?_,cS _⟩
 rw[c.1]at q;cases q;rw[c.2]at q;cases q;have s:=(a.out k f).hs;refine⟨⟨s.1,?_⟩,λq=>?_,?_⟩
 show(Y.outs k).high<=(((Y.outs k).data++d.extract 0 (Y.fI k d.size).toNat).size:Nat);rw[tc];push_cast;omega;have q:(Y.outs k).given=true:=q;rw[c.2]at q;cases q;show((Y.outs k).data++d.extract 0 (Y.fI k d.size).toNat).size<=4096;rw[tc,p];omega
def Qs{b:ai}(c:oC Y n)(D:cI Y b)(E:cI b Y)(e:k<4):
 cI (Y.finish k).2 b/\cI b (Y.finish k).2/\(Y.finish k).2.ay=Y.ay/\(Y.finish k).2.next=Y.next/\
 ((((Y.outs k).finished||(Y.outs k).given)=true/\(Y.finish k).1=3/\(Y.finish k).2=Y)\/
  (((Y.outs k).finished||(Y.outs k).given)=false/\(Y.finish k).1=0/\(Y.finish k).2={Y with outs:=ah Y.outs k {Y.outs k with finished:=true}})):=by
 have f:Y.of (k:Int)=0:=by unfold ai.of;rw[az (by rw[c.cl];decide),iN_]
 have g:((k:Int)).toNat=k:=by omega
 unfold ai.finish;rw[f,g,az (by decide)];by_cases a:((Y.outs k).finished||(Y.outs k).given)=true;rw[aD a];exact⟨D,E,rfl,rfl,.inl ⟨a,rfl,rfl⟩⟩
 rw[az a];have d:=c.out k e;refine⟨D.rG c.out ⟨aR _,λ_ _=>rfl,λ_=>⟨rfl,rfl⟩,λh=>⟨h,rfl,rfl⟩,cS _⟩ ⟨d.hs,d.gv,d.sz⟩ rfl,E.same rfl rfl rfl rfl rfl,rfl,rfl,.inr ⟨by simpa using a,rfl,rfl⟩⟩
def Qt{b:ai}(c:oC Y n)(D:cI Y b)(E:cI b Y)(e:k<4)(i:p<=4611686018427387903):
 cI (Y.giveUp k p).2 b/\cI b (Y.giveUp k p).2/\(Y.giveUp k p).2.ay=Y.ay/\(Y.giveUp k p).2.next=Y.next/\
 (((Y.outs k).given=true/\(Y.giveUp k p).1=3/\(Y.giveUp k p).2=Y)\/
  ((Y.outs k).given=false/\(Y.giveUp k p).1=0/\(Y.giveUp k p).2={Y with outs:=ah Y.outs k {Y.outs k with given:=true,code:=p,end_:=(Y.outs k).high}})):=by
 have f:Y.of (k:Int)=0:=by unfold ai.of;rw[az (by rw[c.cl];decide),iN_]
 have g:((k:Int)).toNat=k:=by omega
 unfold ai.giveUp;rw[f,g,az (by decide)];by_cases a:(Y.outs k).given=true;rw[aD (.inl a)];exact⟨D,E,rfl,rfl,.inl ⟨a,rfl,rfl⟩⟩
 rw[az (λq=>q.elim a (λq=>by omega))];have d:=c.out k e;refine⟨D.rG c.out ⟨aR _,λ_ _=>rfl,λh=>⟨h,rfl⟩,λh=>absurd h a,cS _⟩ ⟨d.hs,λ_=>rfl,d.sz⟩ rfl,E.same rfl rfl rfl rfl rfl,rfl,rfl,.inr ⟨by simpa using a,rfl,rfl⟩⟩
def Qu{b:ai}(h:oC Y n)(e:oC b i)(D:cI Y b)(E:cI b Y)(c:k<4)(j:0<=p):
 ∃a,a=(b.read k p).2.2.2.2/\cI Y a/\cI a Y/\a.ay=b.ay/\a.next=b.next/\a.outs=b.outs/\(b.read k p).2.2.2.1=0/\
 ((b.read k p).1.length:Int)<=p/\(b.ins k).read+(b.read k p).1.length<=(Y.outs k).data.size/\(b.read k p).1=((aG (Y.outs k).data).drop (b.ins k).read.toNat).take (b.read k p).1.length/\
 ((b.ins k).state≠0->(b.read k p).1=[]/\(b.read k p).2.1=(b.ins k).state)/\
 a.ins=ah b.ins k ((b.ins k).dJ p)/\(a.ins k).read=(b.ins k).read+(b.read k p).1.length/\(a.ins k).state=(b.read k p).2.1/\
 (((b.read k p).2.1=0/\(b.read k p).2.2.1=0)\/((b.read k p).2.1=1/\(Y.outs k).finished=true/\(a.ins k).read=(Y.outs k).data.size/\(b.read k p).2.2.1=0)\/((b.read k p).2.1=2/\(Y.outs k).given=true/\(b.read k p).2.2.1=(Y.outs k).code)):=by
 have l:b.of (k:Int)=0:=by unfold ai.of;rw[az (by rw[e.cl];decide),iN_]
 have m:((k:Int)).toNat=k:=by omega
 unfold ai.read;rw[l,m,az (by decide)];obtain⟨t1,t2,t3,t4,t5⟩:=(D.aL k c).text (h.out k c) (e.gO k c) p j;obtain⟨d,r⟩:=(D.aL k c).dJ (e.gO k c) p;refine⟨_,rfl,D.nE d r,⟨E.key,E.me,E.ag,E.sn,E.aT,E.fr,E.ak,E.aL,E.ev,E.tk,E.cm⟩,rfl,rfl,rfl,rfl,t1,t2,t3,t5,rfl,?_,?_,?_⟩
 simp only[bk];exact t4;simp only[bk]
 simp only[bk]
 unfold aN.jx;obtain q|q|q:=d.s0
 left;exact⟨q,by rw[iN_]⟩
 right;left;obtain⟨f,g⟩:=d.s1 q;exact⟨q,f,g,by rw[iN_]⟩
 right;right;obtain⟨f,g,s,t⟩:=d.gv (d.s2 q);exact⟨q,f,by rw[aD q];exact s⟩
def E3{b:ai}(d:oC Y n)(c:oC b i)(D:cI Y b)(a:k<4)(e:(Y.outs k).given=false):(Y.outs k).af.eM<=(b.ins k).read+Y.ag:=by
 obtain⟨j,f,l⟩:=sY (d.ck k a);have g:=c.rd k a;have m:=(c.gO k a).rd;rw[D.ag]at g;by_cases hp:(Y.outs k).af.eM=0;have:=(c.gO k a).rd;have p:0<=Y.ag:=by
  have:=d.fr k a;have:=this.2 e;omega
 omega;obtain q|⟨r,h⟩:=D.cm k a _ (f ((Y.outs k).af.eM-1) (by omega) (by omega))
 have:=((D.aL k a).gv q).1;rw[e]at this;cases this;have:=Qf (c.gO k a) h;omega
structure Nw where
 aj:Int
 ag:Int
 key:List Int
 xb:Nat->Nat
 sb:Nat->Nat
 st:Nat->aJ
 A:Nat->Nat->Prop
 xr:Nat
 xc:Nat
 er:Nat
 ec:Nat
 el:Nat->Nat
 lc:Nat->Nat
 eb:Nat->Nat->Nat
 e:Nat->Nat->End
 cr:Nat
 cc:Nat
 bf:Nat->Int
 aI:List (Int×ByteArray)
 vb:Value
def ph(e:End):Array Value:= #[.string e.wrote,.bool e.finished,.bool e.given,.int .u64 e.code,.int .i64 e.read,.int .i64 e.state,.int .i64 e.af]
def jb(x:Int×ByteArray):List Value:=[.int .i64 x.1,.string x.2]
def Nw.cells(V:Nw):Array Value:=(([.slice (some ⟨V.xr,0,none⟩) 2 V.xc,.slice (some ⟨V.er,0,none⟩) 2 V.ec,.int .i64 V.aj,.int .i64 V.ag]:List Value)++bv V.key++[V.vb,.slice (some ⟨V.cr,0,none⟩) 2 V.cc]).toArray
def Nw.Own(V:Nw)(nb k:Nat):Prop:=k=nb\/k=V.xr\/k=V.er\/k=V.cr\/(∃i,i<2/\k=V.el i)\/(∃i j,i<2/\j<4/\k=V.eb i j)\/V.vb.ownBlock=some k
structure bP(w:World)(nb:Nat)(V:Nw):Prop where
 aP:w.heap[nb]?=some (.cells V.cells 80 (0,0))
 key:dD V.key
 cap:(2<=V.xc/\V.xc<=maxLen)/\(2<=V.ec/\V.ec<=maxLen)/\(2<=V.cc/\V.cc<=maxLen)/\∀i,i<2->4<=V.lc i/\V.lc i<=maxLen
 tx:Ty w V.xr 33
 x:∀i,i<2->w.cell? ⟨V.xr,i,none⟩=some (.pointer (some ⟨V.xb i,0,none⟩))
 te:Ty w V.er 141
 er:∀i,i<2->w.cell? ⟨V.er,i,none⟩=some (.slice (some ⟨V.el i,0,none⟩) 4 (V.lc i))
 tl:∀i,i<2->Ty w (V.el i) 140
 el:∀i,i<2->∀k,k<4->w.cell? ⟨V.el i,k,none⟩=some (.pointer (some ⟨V.eb i k,0,none⟩))
 en:∀i,i<2->∀k,k<4->w.heap[V.eb i k]?=some (.cells (ph (V.e i k)) 143 (0,0))
 ed:∀i j k l,i<2->j<2->k<4->l<4->V.eb i k=V.eb j l->i=j/\k=l
 bf:∃cs,w.heap[V.cr]?=some (.cells cs 30 (0,0))/\∀i,i<2->cs[i]?=some (.int .u64 (V.bf i))
 aI:w.ownsRow 0 83 2 V.vb V.aI.length (V.aI.flatMap jb)
 side:∀i,i<2->b9 w (V.xb i) (V.sb i) (V.st i) (V.A i)
 apart:∀i j,i<2->j<2->i≠j->∀k,V.A i k->¬V.A j k
 own:∀k,V.Own nb k->k≠0/\∀i,i<2->¬V.A i k
def bP.uO{V:Nw}(h:bP w n V):Ty w V.cr 30:=by obtain⟨cs,a,-⟩:=h.bf;exact⟨_,_,a⟩
def bP.fc{V:Nw}(h:bP w n V)(k:Nat)(a:V.Own n k):k<w.heap.size:=by
 obtain rfl|rfl|rfl|rfl|⟨i,hi,rfl⟩|⟨i,j,hi,b,rfl⟩|e:=a
 exact(aZ.1 h.aP).1;exact h.tx.lt;exact h.te.lt;exact h.uO.lt;exact(h.tl i hi).lt;exact(aZ.1 (h.en i hi j b)).1;exact(iY h.aI k e).lt
def bP.ah{V:Nw}(h:bP w n V)(C:ao w W S)(m:∀k,k<w.heap.size->S k->∀i,i<2->¬V.A i k)(j:¬S V.xr)(l:¬S V.er)(hl:∀i,i<2->¬S (V.el i))
 (d:Nat->Nat->End) (f:Nat->Int) (c:List (Int×ByteArray)) (a:Value)
 (p:W.heap[n]?=some (.cells {V with e:=d,bf:=f,aI:=c,vb:=a}.cells 80 (0,0)))
 (r:∀i,i<2->∀k,k<4->W.heap[V.eb i k]?=some (.cells (ph (d i k)) 143 (0,0)))
 (s:∃cs,W.heap[V.cr]?=some (.cells cs 30 (0,0))/\∀i,i<2->cs[i]?=some (.int .u64 (f i)))
 (t:W.ownsRow 0 83 2 a c.length (c.flatMap jb)) (u:a.ownBlock=V.vb.ownBlock\/∀k,a.ownBlock=some k->w.heap.size<=k):bP W n {V with e:=d,bf:=f,aI:=c,vb:=a}:=by
 refine⟨p,h.key,h.cap,h.tx.av C j,λi hi=>C.cell (h.x i hi) j,h.te.av C l,λi hi=>C.cell (h.er i hi) l,λi hi=>(h.tl i hi).av C (hl i hi),λi hi k b=>C.cell (h.el i hi k b) (hl i hi),r,h.ed,s,t,λi hi=>(h.side i hi).other C (λk b e g=>m k b e i hi g),h.apart,λk b=>?_⟩
 obtain e|e|e|e|e|e|e:=b
 exact h.own k (.inl e);exact h.own k (.inr (.inl e));exact h.own k (.inr (.inr (.inl e)));exact h.own k (.inr (.inr (.inr (.inl e))));exact h.own k (.inr (.inr (.inr (.inr (.inl e)))));exact h.own k (.inr (.inr (.inr (.inr (.inr (.inl e))))));have e:a.ownBlock=some k:=e;obtain q|q:=u
 exact h.own k (.inr (.inr (.inr (.inr (.inr (.inr (q▸e)))))));have q:=q k e;refine⟨by have:=h.fc n (.inl rfl);omega,λi hi g=>?_⟩
 have:=(h.side i hi).lt k g;omega
def bP.other{V:Nw}(h:bP w n V)(C:ao w W S)(b:∀k,k<w.heap.size->S k->¬V.Own n k/\∀i,i<2->¬V.A i k):bP W n V:=by
 have ho:∀k,V.Own n k->¬S k:=λk a e=>(b k (h.fc k a) e).1 a
 refine h.ah C (λk a e=>(b k a e).2) (ho _ (.inr (.inl rfl))) (ho _ (.inr (.inr (.inl rfl)))) (λi hi=>ho _ (.inr (.inr (.inr (.inr (.inl ⟨i,hi,rfl⟩)))))) V.e V.bf V.aI V.vb ?_ (λi hi k a=>?_) ?_ ?_ (.inl rfl);exact(C.block n (h.fc n (.inl rfl)) (ho n (.inl rfl))).trans h.aP;have q:V.Own n (V.eb i k):=.inr (.inr (.inr (.inr (.inr (.inl ⟨i,k,hi,a,rfl⟩)))));exact(C.block _ (h.fc _ q) (ho _ q)).trans (h.en i hi k a);have q:V.Own n V.cr:=.inr (.inr (.inr (.inl rfl)));obtain⟨cs,c,d⟩:=h.bf;exact⟨cs,(C.block _ (h.fc _ q) (ho _ q)).trans c,d⟩
 exact kM h.aI C (λk e=>ho k (.inr (.inr (.inr (.inr (.inr (.inr e)))))))
def bP.an{V:Nw}(h:bP w n V)(g:w.grownBy W none):bP W n V:=h.other (ao.of g) (λk _ e=>by cases e)
def bP.jE{V:Nw}(h:bP w n V)(hi:i<2)(C:ao w W (V.A i))(m:b9 W (V.xb i) (V.sb i) I S)(g:∀k,S k->V.A i k\/w.heap.size<=k):bP W n {V with st:=Go.Proofs.YtjnmokmchdfchaaGreatDoor.ah V.st i I,A:=Go.Proofs.YtjnmokmchdfchaaGreatDoor.ah V.A i S}:=by
 have ho:∀k,V.Own n k->¬V.A i k:=λk b=>(h.own k b).2 i hi
 have a:∀j,j<2->j≠i->∀k,V.A j k->¬S k:=λj a d k b e=>by
  obtain e|e:=g k e
  exact h.apart j i a hi d k b e;have:=(h.side j a).lt k b;omega
 refine⟨(C.block n (h.fc n (.inl rfl)) (ho n (.inl rfl))).trans h.aP,h.key,h.cap,h.tx.av C (ho _ (.inr (.inl rfl))),λj a=>C.cell (h.x j a) (ho _ (.inr (.inl rfl))),h.te.av C (ho _ (.inr (.inr (.inl rfl)))),λj a=>C.cell (h.er j a) (ho _ (.inr (.inr (.inl rfl)))),λj a=>(h.tl j a).av C (ho _ (.inr (.inr (.inr (.inr (.inl ⟨j,a,rfl⟩)))))),λj a k b=>C.cell (h.el j a k b) (ho _ (.inr (.inr (.inr (.inr (.inl ⟨j,a,rfl⟩)))))),λj a k b=>?_,h.ed,?_,kM h.aI C (λk e=>ho k (.inr (.inr (.inr (.inr (.inr (.inr e))))))),λj c=>?_,λj l c hl d k b=>?_,λk b=>⟨(h.own k b).1,λj c=>?_⟩⟩
 have q:V.Own n (V.eb j k):=.inr (.inr (.inr (.inr (.inr (.inl ⟨j,k,a,b,rfl⟩)))));exact(C.block _ (h.fc _ q) (ho _ q)).trans (h.en j a k b);have q:V.Own n V.cr:=.inr (.inr (.inr (.inl rfl)));obtain⟨cs,p,r⟩:=h.bf;exact⟨cs,(C.block _ (h.fc _ q) (ho _ q)).trans p,r⟩
 show b9 W (V.xb j) (V.sb j) (Go.Proofs.YtjnmokmchdfchaaGreatDoor.ah V.st i I j) (Go.Proofs.YtjnmokmchdfchaaGreatDoor.ah V.A i S j);by_cases e:j=i;subst e;rw[bk,bk];exact m;rw[bm _ _ e,bm _ _ e];exact(h.side j c).other C (λk _ e2 s=>h.apart j i c hi e k s e2);have f:Go.Proofs.YtjnmokmchdfchaaGreatDoor.ah V.A i S j k:=b;show¬Go.Proofs.YtjnmokmchdfchaaGreatDoor.ah V.A i S l k;by_cases e:j=i;subst e;rw[bk]at f;rw[bm _ _ (λq=>d q.symm)];exact λq=>a l hl (λq=>d q.symm) k q f
 rw[bm _ _ e]at f;by_cases e2:l=i;subst e2;rw[bk];exact a j c e k f;rw[bm _ _ e2];exact h.apart j l c hl d k f;show¬Go.Proofs.YtjnmokmchdfchaaGreatDoor.ah V.A i S j k;by_cases e:j=i;subst e;rw[bk];intro q;obtain q|q:=g k q
 exact ho k b q;have:=h.fc k b;omega;rw[bm _ _ e];exact(h.own k b).2 j c
def Qy(V:Nw)(a:dD V.key):V.cells[0]?=some (.slice (some ⟨V.xr,0,none⟩) 2 V.xc)/\V.cells[1]?=some (.slice (some ⟨V.er,0,none⟩) 2 V.ec)/\V.cells[2]?=some (.int .i64 V.aj)/\V.cells[3]?=some (.int .i64 V.ag)/\V.cells[20]?=some V.vb/\V.cells[21]?=some (.slice (some ⟨V.cr,0,none⟩) 2 V.cc)/\V.cells.size=22:=by
 have hl:(bv V.key).length=16:=by rw[fL];exact a.1
 unfold Nw.cells;simp[List.getElem?_append,hl]
def bP.c{V:Nw}(h:bP w n V):(w.cell? ⟨n,0,none⟩=some (.slice (some ⟨V.xr,0,none⟩) 2 V.xc)/\w.cell? ⟨n,1,none⟩=some (.slice (some ⟨V.er,0,none⟩) 2 V.ec)/\w.cell? ⟨n,2,none⟩=some (.int .i64 V.aj)/\w.cell? ⟨n,3,none⟩=some (.int .i64 V.ag)/\w.cell? ⟨n,20,none⟩=some V.vb/\w.cell? ⟨n,21,none⟩=some (.slice (some ⟨V.cr,0,none⟩) 2 V.cc))/\∀o,w.frozen? ⟨n,o,none⟩=false:=by
 obtain⟨a,b,d,e,f,a5,-⟩:=Qy V h.key;refine⟨⟨?_,?_,?_,?_,?_,?_⟩,λo=>by simp[World.frozen?,h.aP]⟩<;>rw[ba h.aP]<;>assumption
def bP.ce{V:Nw}(h:bP w n V)(hi:i<2)(a:k<4):(w.cell? ⟨V.eb i k,0,none⟩=some (.string (V.e i k).wrote)/\w.cell? ⟨V.eb i k,1,none⟩=some (.bool (V.e i k).finished)/\w.cell? ⟨V.eb i k,2,none⟩=some (.bool (V.e i k).given)/\w.cell? ⟨V.eb i k,3,none⟩=some (.int .u64 (V.e i k).code)/\w.cell? ⟨V.eb i k,4,none⟩=some (.int .i64 (V.e i k).read)/\w.cell? ⟨V.eb i k,5,none⟩=some (.int .i64 (V.e i k).state)/\w.cell? ⟨V.eb i k,6,none⟩=some (.int .i64 (V.e i k).af))/\∀o,w.frozen? ⟨V.eb i k,o,none⟩=false:=by
 have b:=h.en i hi k a;simp[World.cell?,World.frozen?,b,ph]
def eD{α:Type}(f:Nat->Nat->α)(i k:Nat)(x:α):Nat->Nat->α:=λj l=>if j=i/\l=k then x else f j l
def bP.E5{V:Nw}(h:bP w n V)(hi:i<2)(a:k<4):V.eb i k≠n/\V.eb i k≠V.xr/\V.eb i k≠V.er/\V.eb i k≠V.cr/\(∀j,j<2->V.eb i k≠V.el j)/\V.vb.ownBlock≠some (V.eb i k):=by
 have t:Ty w (V.eb i k) 143:=⟨_,_,h.en i hi k a⟩
 exact⟨t.ne ⟨_,_,h.aP⟩ (by decide),t.ne h.tx (by decide),t.ne h.te (by decide),t.ne h.uO (by decide),λj b=>t.ne (h.tl j b) (by decide),λe=>t.ne (iY h.aI _ e) (by decide) rfl⟩
def bP.wX{V:Nw}(h:bP w n V)(hi:i<2)(c:k<4){x:End}(C:ao w W (λb=>b=V.eb i k))(d:W.heap[V.eb i k]?=some (.cells (ph x) 143 (0,0))):bP W n {V with e:=eD V.e i k x}:=by
 obtain⟨f,n2,g,m,n5,p⟩:=h.E5 hi c;refine h.ah C (λb _ e j a=>?_) (λe=>n2 e.symm) (λe=>g e.symm) (λj a e=>n5 j a e.symm) (eD V.e i k x) V.bf V.aI V.vb ?_ (λj a l hl=>?_) ?_ ?_ (.inl rfl);subst e;exact(h.own _ (.inr (.inr (.inr (.inr (.inr (.inl ⟨i,k,hi,c,rfl⟩))))))).2 j a;exact(C.block n (h.fc n (.inl rfl)) (λe=>f e.symm)).trans h.aP;unfold eD;by_cases e:j=i/\l=k;rw[aD e,e.1,e.2];exact d;rw[az e];have q:V.Own n (V.eb j l):=.inr (.inr (.inr (.inr (.inr (.inl ⟨j,l,a,hl,rfl⟩)))));exact(C.block _ (h.fc _ q) (λe2=>e (h.ed j i l k a hi hl c e2))).trans (h.en j a l hl);obtain⟨cs,r,s⟩:=h.bf;exact⟨cs,(C.block _ (h.fc _ (.inr (.inr (.inr (.inl rfl))))) (λe=>m e.symm)).trans r,s⟩
 exact kM h.aI C (λb e e2=>p (e2▸e))
def Nw.dw(V:Nw)(nb k:Nat):Prop:=V.Own nb k\/∃i,i<2/\V.A i k
structure bL(w:World)(nb:Nat)(V b:Nw)(a:World):Prop where
 at_:bP a nb b
 av:ao w a (V.dw nb)
 all:∀k,b.dw nb k->V.dw nb k\/w.heap.size<=k
 laid:Laid a
def bP.qe{V:Nw}(h:bP w n V)(k:Nat)(a:V.dw n k):k<w.heap.size:=by
 obtain e|⟨i,hi,e⟩:=a
 exact h.fc k e;exact(h.side i hi).lt k e
def bL.refl{V:Nw}(h:bP w n V)(g:w.grownBy W none)(a:Laid w):bL w n V V W:=⟨h.an g,(ao.of g).mono (λk _ e=>by cases e),λk b=>.inl b,a.gb g⟩
def bL.trans{V a b:Nw}(h:bL w n V a W)(g:bL W n a b v):bL w n V b v:=by
 refine⟨g.at_,(h.av.trans g.av).mono (λk c e=>e.elim id (λe=>(h.all k e).elim id (λq=>by omega))),λk c=>?_,g.laid⟩
 obtain q|q:=g.all k c
 exact h.all k q;have:=h.av.size;exact .inr (by omega)
def bL.gb{V a:Nw}(h:bL w n V a W)(g:W.grownBy v none):bL w n V a v:=h.trans (bL.refl h.at_ g h.laid)
def bL.pre{V a:Nw}(b:bP w n V)(c:Laid w)(g:w.grownBy W none)(h:bL W n V a v):bL w n V a v:=(bL.refl b g c).trans h
def bP.Aa{V:Nw}(h:bP w n V)(c:Laid w)(hi:i<2)(C:ao w W (V.A i))(d:b9 W (V.xb i) (V.sb i) I S)(a:∀k,S k->V.A i k\/w.heap.size<=k):bL w n V {V with st:=Go.Proofs.YtjnmokmchdfchaaGreatDoor.ah V.st i I,A:=Go.Proofs.YtjnmokmchdfchaaGreatDoor.ah V.A i S} W:=by
 refine⟨h.jE hi C d a,C.mono (λk _ e=>.inr ⟨i,hi,e⟩),λk f=>?_,c.av C (h.side i hi).n0⟩
 obtain e|⟨j,b,e⟩:=f
 exact .inl (.inl e);have e:Go.Proofs.YtjnmokmchdfchaaGreatDoor.ah V.A i S j k:=e;by_cases q:j=i;subst q;rw[bk]at e;exact(a k e).imp (λe=>.inr ⟨j,b,e⟩) id;rw[bm _ _ q]at e;exact .inl (.inr ⟨j,b,e⟩)
def bP.uP{V:Nw}(h:bP w n V)(d:Laid w)(hi:i<2)(c:k<4){x:End}(C:ao w W (λb=>b=V.eb i k))(a:W.heap[V.eb i k]?=some (.cells (ph x) 143 (0,0))):bL w n V {V with e:=eD V.e i k x} W:=by
 have q:V.Own n (V.eb i k):=.inr (.inr (.inr (.inr (.inr (.inl ⟨i,k,hi,c,rfl⟩)))));exact⟨h.wX hi c C a,C.mono (λb _ e=>.inl (e▸q)),λb a=>.inl a,d.av C (λe=>(h.own _ q).1 e.symm)⟩
variable{X:Nw}
def iE(e:Nat->Nat->End)(i:Nat)(p:Nat->Int)(j:Nat):Nat->Nat->End:=λa k=>if a=i/\k<j then{e a k with af:=p k}else e a k
def E6(e:Nat->Nat->End)(i:Nat)(p:Nat->Int)(j:Nat):iE e i p j i j=e i j:=by unfold iE;rw[iN_]
def Qz(e:Nat->Nat->End)(i:Nat)(p:Nat->Int)(j:Nat):eD (iE e i p j) i j {e i j with af:=p j}=iE e i p (j+1):=by
 funext a k;unfold eD iE;by_cases b:a=i;subst b;by_cases c:k=j;subst c;rw[aD ⟨rfl,rfl⟩,aD ⟨rfl,by omega⟩];rw[az (λq=>c q.2)];by_cases d:k<j;rw[aD ⟨rfl,d⟩,aD ⟨rfl,by omega⟩];rw[az (λq=>d q.2),iN_];rw[az (λq=>b q.1),az (λq=>b q.1),az (λq=>b q.1)]
def gR(V:Nw)(i:Nat)(p:Nat->Int)(j:Nat)(a:Nat->Prop):Nw:={V with A:=ah V.A i a,e:=iE V.e i p j}
structure qT(V:Nw)(i k:Nat)(p:Int):Prop where
 lo:(V.e i k).af<=p
 hi:p<=(V.e i k).wrote.size
 wn:(V.e i k).given=false->(V.e i k).state=0->p<=(V.e i k).read+V.ag
 rd:0<=(V.e i k).read/\(V.e i k).read<=1000000000
def oD(w:World)(b o:Nat)(v:Value):ao w (w.setCell ⟨b,o,none⟩ v) (λk=>k=b):=(ao.of (aK (aB w (some b)) ⟨b,o,none⟩ v (.inr rfl))).mono (λk _ e=>(aQ e).symm)
def bL.QA{wr:World}{a:Nw}(T:bL w n X a wr)(hi:i<2)(b:b9 W (a.xb i) (a.sb i) (a.st i) S)(c:∀k,S k->a.A i k\/wr.heap.size<=k)(C:ao wr W (a.A i)):bL w n X {a with A:=ah a.A i S} W:=by
 have:=T.trans (T.at_.Aa T.laid hi C b c);rw[my]at this;exact this
def E7(w:World)(nb:Nat)(V:Nw)(H:bP w nb V)(Q:Laid w)(i:Nat)(hi:i<2)(n:Nat)(ax:dU n (V.st i))(hn:n<=100000)(hw:0<=V.ag/\V.ag<=1000000000)(p:Nat->Int)(hp:∀k:Nat,k<4->(V.st i).af (k:Int)=(p k,0))(B:∀k,k<4->qT V i k (p k)):
 Calls prog 82 #[.pointer (some ⟨nb,0,none⟩),.int .i64 i] w λe w'=>e=.returned (.bool true)/\∃g,bL w nb V (gR V i p 4 g) w':=by
 have i0:(0:Int)<=i:=by omega
 have i1:(i:Int)<2:=by omega
 have D:bL w nb V (gR V i p 0 (V.A i)) w:=by
  have e1:gR V i p 0 (V.A i)=V:=by
   have e2:iE V.e i p 0=V.e:=by funext a k;unfold iE;rw[iN_]
   unfold gR;rw[e2,my]
  rw[e1];exact bL.refl H (aB _ _) Q
 replace⟨D,hp,B,H⟩:=eV D hp B H;clear Q;go_enter func82,ntmps82;go_wp2;go_loopw [5] (λE wr=>∃(j:Nat)(g:Nat->Prop),j<=4/\E=.int .i64 j/\bL w nb V (gR V i p j g) wr) (λE _=>4-(intOf E).toNat);case atStart=>exact⟨0,V.A i,by omega,rfl,Z D⟩
 case round=>
  obtain⟨j,g,hj,rfl,T⟩:=hrel;by_cases r:j<4
  ·have d1:decide ((j:Int)<4)=true:=dT_;have j0:(0:Int)<=j:=by omega
   have j1:(j:Int)<4:=by omega
   have l:=T.at_;obtain⟨⟨c0,c1,-,-,-,-⟩,-⟩:=l.c;have R:=l.x i hi;have ce:=l.er i hi;have cl:=l.el i hi j r;have S:aJ.do (V.st i) ⟨9,(j:Int),0,0,⟨#[]⟩⟩=(⟨0,-1,p j,0,[],[]⟩,V.st i):=by
    unfold aJ.do;simp[Z hp j r]
   have q:=z9 wr (V.xb i) (V.sb i) (V.st i) g n (by have:=l.side i hi;simpa only[gR,bk]using this) ax hn T.laid ⟨9,(j:Int),0,0,⟨#[]⟩⟩ (by simp[aS]) (iP _);rw[S]at q;clear S;have hC:=Z B j r;have U:=J (λ(f:World)(d:Nat->Prop)(v:b9 f (V.xb i) (V.sb i) (V.st i) d)(y:∀k,d k->g k\/wr.heap.size<=k) (C:ao wr f g)=>(show bL w nb V (gR V i p j d) f by
    have:=T.QA hi (S:=d) v (by simpa only[gR,bk]using y) (by simpa only[gR,bk]using C);simpa only[gR,rB]using this))
   unfold cD uN ja at q;simp only[mJ]at q;replace⟨q,T,l⟩:=cg q T l;simp only[gR]at c0 c1 R ce cl;go_upto_region 6 with(go_at_call 28;apply(Z q).mono;rintro e f⟨a,m,c,rfl,-,d,v,y,C,-⟩;have F:=Z U f d v y C;clear v y C)
   obtain⟨s,z⟩:=exq (f.alloc (.cells #[.int .i64 0,.int .i64 (-1),.int .i64 (p j),.int .u64 0,.string ⟨#[]⟩,.slice a m c] 46));have g5:f.grownBy s none:=by rw[z];exact aH _ _ _
   have G:s.heap[f.heap.size]?=some (.cells #[.int .i64 0,.int .i64 (-1),.int .i64 (p j),.int .u64 0,.string ⟨#[]⟩,.slice a m c] 46 (0,0)):=by rw[z];exact aO _ _
   rw[<-z];clear z;have h:=F.gb g5;obtain⟨y0,y2⟩:s.cell? ⟨f.heap.size,0,none⟩=some (.int .i64 0)/\s.cell? ⟨f.heap.size,2,none⟩=some (.int .i64 (p j)):=by simp[World.cell?,G]
   obtain⟨⟨-,-,-,f3,-,-⟩,-⟩:=h.at_.c;obtain⟨⟨e0,-,e2,-,I,K,L⟩,ef⟩:=h.at_.ce hi r;simp only[gR,E6]at f3 e0 e2 I K L ef;have t:=J (λ(M:World)(C:ao s M (λb=>b=V.eb i j)) (hb:M.heap[V.eb i j]?=some (.cells (ph {V.e i j with af:=p j}) 143 (0,0)))=>(show bL w nb V (gR V i p (j+1) d) M by
    have:=h.trans (h.at_.uP h.laid hi r C hb);simpa only[gR,Qz]using this))
   have u:=h.at_.en i hi j r;simp only[gR,E6]at u;replace⟨G,u,F,h⟩:=eV G u F h;obtain⟨W,X,N,Y⟩:=hC;obtain⟨⟨wrote,fin,gv,code,read,state,af⟩,hE⟩:∃x,x=V.e i j:=⟨_,rfl⟩
   rw[<-hE]at e0 e2 I K L t u W X N Y;simp only at e0 e2 I K L t W X N Y;clear hE U q;have k1:decide (p j<af)=false:=dF_;have k2:decide ((wrote.size:Int)<p j)=false:=dF_;have k3:IntKind.i64.wrap (read+V.ag)=read+V.ag:=wI_;clear c0 c1 R ce cl;have O:=J (heap_set (o:=6) (Z u) (.int .i64 (p j)));have P:=J (oD s (V.eb i j) 6 (.int .i64 (p j)));cases gv
   ·by_cases hs:state=0
    ·have k4:decide (read+V.ag<p j)=false:=eQ (by have:=N rfl hs;omega);subst hs;go_region;go_upto_region 8 with fail;go_region;go_wp2;exact⟨⟨j+1,d,by omega,rfl,(Z t _ (Z P) (Z O)).gb (aV (aV (aB _ none)))⟩,by simp[intOf];omega⟩
    have k5:(state==0)=false:=by simpa using hs
    go_region;go_upto_region 8 with fail;go_region;go_wp2;exact⟨⟨j+1,d,by omega,rfl,(Z t _ (Z P) (Z O)).gb (aV (aV (aB _ none)))⟩,by simp[intOf];omega⟩
   go_region;go_upto_region 8 with fail;go_region;go_wp2;exact⟨⟨j+1,d,by omega,rfl,(Z t _ (Z P) (Z O)).gb (aV (aV (aB _ none)))⟩,by simp[intOf];omega⟩
  have d1:decide ((j:Int)<4)=false:=dF_;have a4:j=4:=by omega
  subst a4;replace T:=J T;go_wp2;go_ret;exact⟨rfl,g,Z T⟩
def bP.qL(h:bP w n X):w.rangeAt n 4 (bv X.key):=λj u a=>by
 have b:(bv X.key).length=16:=by rw[fL,h.key.1]
 have c:j<16:=by have:=(kQ.1 a).1;omega
 rw[ba h.aP];unfold Nw.cells;rw[ts,mm (by simp[b];omega),mW (by simp)];simpa using a
def mj(w wr:World)(nb:Nat)(V b:Nw)(i:Nat)(r:Rs)(d:aJ)(e:Ending)(f:World):Prop:=
 ∃a m c g,e=.returned (.agg (ja r (.slice a m c)))/\fY f wr.heap.size (.slice a m c) r.dv/\bL w nb V {b with st:=ah b.st i d,A:=ah b.A i g} f/\∀j,(Value.slice a m c).ownBlock=some j->¬Nw.dw {b with st:=ah b.st i d,A:=ah b.A i g} nb j
def nG{wr:World}{b:Nw}(T:bL w k X b wr)(hi:i<2)(h:dU n (b.st i))(p:n<=100000)(q:fK)(s:aS q.code)(hd:q.data.size<=1000000){r:Rs}(t:(b.st i).do q=(r,I)):
 Calls prog 28 #[.pointer (some ⟨b.xb i,0,none⟩),.agg (cD q)] wr (mj w wr k X b i r I):=by
 have d:=z9 wr (b.xb i) (b.sb i) (b.st i) (b.A i) n (T.at_.side i hi) h p T.laid q s hd;rw[t]at d;apply d.mono;rintro e z⟨a,m,c,rfl,f,g,u,v,C,x⟩;refine⟨a,m,c,g,rfl,f,T.trans (T.at_.Aa T.laid hi C u v),λj e y=>?_⟩
 have B:=(f.lt j e).1;obtain q|⟨l,hl,q⟩:=y
 have:=T.at_.fc j q;omega;have q:ah b.A i g l j:=q;by_cases el:l=i;subst el;rw[bk]at q;exact x j e q;rw[bm _ _ el]at q;have:=(T.at_.side l hl).lt j q;omega
def E8(V:Nw)(i:Nat)(a:aJ)(c b:Nat->Prop)(p:Nat->Int):gR {V with st:=ah V.st i a,A:=ah V.A i c} i p 4 b=gR {V with st:=ah V.st i a} i p 4 b:=by
 unfold gR;simp only[rB]
def E9(w:World)(nb:Nat)(V:Nw)(H:bP w nb V)(B:Laid w)(i:Nat)(hi:i<2)(n:Nat)(N:dU n (V.st i))(G:n<=100000)(O:0<=V.ag/\V.ag<=1000000000)(b:ByteArray)(P:b.size<=1000000)(r:Rs)(d:aJ)(Q:(V.st i).do ⟨6,0,0,0,b⟩=(r,d))(s:r.e=0\/r.e=6)(R:dU n d)(p:Nat->Int)(hp:∀k:Nat,k<4->d.af (k:Int)=(p k,0))(g:∀k,k<4->qT V i k (p k)):
 Calls prog 86 #[.pointer (some ⟨nb,0,none⟩),.int .i64 i,.string b] w λe f=>e=.returned (.bool true)/\∃h,bL w nb V (gR {V with st:=ah V.st i d} i p 4 h) f:=by
 have i0:(0:Int)<=i:=by omega
 have i1:(i:Int)<2:=by omega
 have D:=bL.refl H (aB w none) B;have j:=nG D hi N G ⟨6,0,0,0,b⟩ (by simp[aS]) P Q;obtain⟨⟨c0,-,-,-,-,-⟩,-⟩:=H.c;have S:=H.x i hi;have I:=J (λ(W:World)(l:Nat->Prop)(T:bL w nb V {V with st:=ah V.st i d,A:=ah V.A i l} W)=>(show Calls prog 82 #[.pointer (some ⟨nb,0,none⟩),.int .i64 i] W (λe f=>e=.returned (.bool true)/\(∃h,bL w nb V (gR {V with st:=ah V.st i d} i p 4 h) f)/\ao W f (λk=>k<W.heap.size->Nw.dw {V with st:=ah V.st i d,A:=ah V.A i l} nb k)) by
  refine(E7 W nb _ T.at_ T.laid i hi n (by simp only[bk];exact R) G O p (by simp only[bk];exact hp) (λk v=>⟨(g k v).lo,(g k v).hi,(g k v).wn,(g k v).rd⟩)).mono ?_;rintro e f⟨rfl,h,K⟩;exact⟨rfl,⟨h,by rw[<-E8 V i d l h p];exact T.trans K⟩,K.av.mono (λk _ e _=>e)⟩))
 unfold cD mj ja at j;simp only at j;replace⟨j,H,D,B,g,hp⟩:=nZ j H D B g hp;go_enter func86,ntmps86;go_upto_region 2 with(go_at_call 28;apply(Z j).mono;rintro e t⟨a,m,c,l,rfl,-,y,-⟩)
 obtain⟨q,u⟩:=exq (t.alloc (.cells #[.int .i64 r.e,.int .i64 r.at_,.int .i64 r.n,.int .u64 r.code,.string (strOfNums r.data),.slice a m c] 46));have U:t.grownBy q none:=by rw[u];exact aH _ _ _
 have X:t.heap.size<q.heap.size:=by rw[u,dL];omega
 have E:q.heap[t.heap.size]?=some (.cells #[.int .i64 r.e,.int .i64 r.at_,.int .i64 r.n,.int .u64 r.code,.string (strOfNums r.data),.slice a m c] 46 (0,0)):=by rw[u];exact aO _ _
 rw[<-u];clear u;have F:=y.gb U;have Y:=J (Z I q l F);have al:Hid (∀f,ao q f (λk=>k<q.heap.size->Nw.dw {V with st:=ah V.st i d,A:=ah V.A i l} nb k)->f.cell? ⟨t.heap.size,0,none⟩=some (.int .i64 r.e)):=J (λf C=>by
  refine C.cell (by simp[World.cell?,E]) (λe=>?_);have:=y.at_.qe _ (e X);simp only at this;omega)
 replace⟨E,y,F⟩:=cg E y F;clear j I c0 S;go_upto_region 3 with(go_at_call 82;apply(Z Y).mono;rintro e w6⟨rfl,z,L⟩;have M:=Z al w6 L;clear L;replace z:=J z)
 obtain s|s:=s
 ·rw[s]at M;go_wp2;go_ret;exact⟨rfl,Z z⟩
 rw[s]at M;go_wp2;go_ret;exact⟨rfl,Z z⟩
def Ab(w:World)(nb:Nat)(V:Nw)(H:bP w nb V)(q:Laid w)(i:Nat)(hi:i<2)(n:Nat)(z:dU n (V.st i))(B:n<=100000)(b:ByteArray)(C:b.size<=1000000)(s:¬eC V.key (aT (decide (i≠0))) (aG b)->(V.st i).do ⟨6,0,0,0,b⟩=(⟨4,-1,0,0,[],[]⟩,V.st i)):
 Calls prog 84 #[.pointer (some ⟨nb,0,none⟩),.int .i64 i,.string b] w λe D=>e=.returned (.bool true)/\∃E,bL w nb V {V with A:=ah V.A i E} D:=by
 have N:(0:Int)<=i:=by omega
 have O:(i:Int)<2:=by omega
 obtain⟨f,t⟩:=exq (decide (i≠0));have P:((i:Int) !=0)=f:=by
  rw[t];have r:i=0\/i=1:=by omega
  obtain r|r:=r<;>subst r<;>decide
 rw[<-t]at s;clear t;have v:w.grownBy (Lib.bytesWorld w 5 b) none:=vE _ _;have Q:=m9 b;have l:=E4 (Lib.bytesWorld w 5 b) V.key f _ _ _ _ H.key (q.gb v) (xW w b) (by rw[fH];omega);have j:=bL.refl H v q;have k:=λ(d:World)(h:(Lib.bytesWorld w 5 b).grownBy d none)(p:¬eC V.key (aT f) (aG b))=>nG (j.gb h) hi z B ⟨6,0,0,0,b⟩ (by simp[aS]) C (s p)
 have F:=J (λ(d:World)(h:(Lib.bytesWorld w 5 b).grownBy d none)=>j.gb h);obtain⟨⟨c0,-,-,-,-,-⟩,-⟩:=H.c;have G:=J H.qL;have I:Hid ((prog.info? 24).map (·.size)=some (bv V.key).length):=J (by rw[fL,H.key.1];exact m8);have K:Hid (∀W,(Lib.bytesWorld w 5 b).grownBy W none->W.cell? ⟨nb,0,none⟩=some (.slice (some ⟨V.xr,0,none⟩) 2 V.xc)/\W.cell? ⟨V.xr,i,none⟩=some (.pointer (some ⟨V.xb i,0,none⟩))):=J (λW g=>⟨(j.gb g).at_.c.1.1,(j.gb g).at_.x i hi⟩);unfold cD mj ja at k;unfold cO xG at l;simp only[mJ,my]at k;replace⟨k,l,H,j,q⟩:=eR k l H j q;clear s;go_enter func84,ntmps84;go_upto_region 2 with(first|(refine wpList_load_mid (by rfl) 24 _ (by rfl) nb 4 (by rfl) (bv V.key) _ (Z G) underlying24 (by rfl) (Z I) ?_)|(go_at_call 61;apply(Z l).mono;rintro e d⟨⟨y,R,S,rfl,-,-⟩|⟨p,rfl⟩,h⟩))
 ·replace y:=J y;go_wp2;go_ret;exact⟨rfl,V.A i,by rw[my];exact Z F d h⟩
 have L:=J (Z k d h p);obtain⟨T,U⟩:=Z K d h;replace p:=J p;clear c0 k l;go_upto_region 5 with(go_at_call 28;apply(Z L).mono;rintro e X⟨a,m,c,M,rfl,-,u,-⟩;replace u:=J u)
 go_wp2;go_ret;exact⟨rfl,M,(Z u).gb (aH _ _ _)⟩
def bP.QB(h:bP w n X)(f:Laid w)(hi:i<2)(c:Int):bL w n X {X with bf:=Go.Proofs.YtjnmokmchdfchaaGreatDoor.ah X.bf i c} (w.setCell ⟨X.cr,i,none⟩ (.int .u64 c)):=by
 have t:=h.uO;have C:=oD w X.cr i (.int .u64 c);have q:X.Own n X.cr:=.inr (.inr (.inr (.inl rfl)));refine⟨?_,C.mono (λb _ e=>.inl (e▸q)),λb g=>.inl g,f.av C (λe=>(h.own _ q).1 e.symm)⟩
 refine h.ah C (λb _ e j a=>by subst e;exact(h.own _ q).2 j a) (t.ne h.tx (by decide)∘Eq.symm) (t.ne h.te (by decide)∘Eq.symm) (λj a e=>t.ne (h.tl j a) (by decide) e.symm) X.e (Go.Proofs.YtjnmokmchdfchaaGreatDoor.ah X.bf i c) X.aI X.vb ?_ (λj a l hl=>?_) ?_ ?_ (.inl rfl);exact(C.block n (h.fc n (.inl rfl)) (λe=>t.ne ⟨_,_,h.aP⟩ (by decide) e.symm)).trans h.aP;have k:X.Own n (X.eb j l):=.inr (.inr (.inr (.inr (.inr (.inl ⟨j,l,a,hl,rfl⟩)))));exact(C.block _ (h.fc _ k) (λe=>(h.E5 a hl).2.2.2.1 e)).trans (h.en j a l hl);obtain⟨cs,m,d⟩:=h.bf;refine⟨_,heap_set m _,λj a=>?_⟩
 by_cases e:j=i;subst e;rw[bk];have:=(aZ.1 (d j a)).1;simp[kP,this];rw[bm _ _ e,Array.getElem?_setIfInBounds_ne (λq=>e q.symm)];exact d j a;exact kM h.aI C (λb e e2=>t.ne (iY h.aI b e) (by decide) e2.symm)
def QC(V:Nw)(a:dD V.key)(v:Value):V.cells.setIfInBounds 20 v={V with vb:=v}.cells:=by
 obtain⟨_,_,_,_,_,_,_,_,_,_,_,_,_,_,_,_,e⟩:=xk (bv V.key) (by rw[fL,a.1]);unfold Nw.cells;rw[e];rfl
def bP.QD(h:bP w n X)(y:Laid w){c:List (Int×ByteArray)}(g:w.grownBy W X.vb.ownBlock)(z:W.ownsRow 0 83 2 x c.length (c.flatMap jb))(ho:x.ownBlock=X.vb.ownBlock\/x.ownBlock=some w.heap.size):bL w n X {X with aI:=c,vb:=x} (W.setCell ⟨n,20,none⟩ x):=by
 have A:=h.fc n (.inl rfl);have r:∀k,X.vb.ownBlock=some k->Ty w k 83:=iY h.aI;have s:Ty w n 80:=⟨_,_,h.aP⟩
 have nn:X.vb.ownBlock≠some n:=λe=>(s.ne (r n e) (by decide)) rfl
 have b1:W.heap[n]?=some (.cells X.cells 80 (0,0)):=(g.block n A (λe=>nn e.symm)).trans h.aP;have u:=oD W n 20 x;have C:ao w (W.setCell ⟨n,20,none⟩ x) (λk=>X.vb.ownBlock=some k\/k=n):=(ao.of g).trans u;have f:∀k,(X.vb.ownBlock=some k\/k=n)->X.Own n k:=λk e=>e.elim (λe=>.inr (.inr (.inr (.inr (.inr (.inr e)))))) (λe=>.inl e)
 have d:∀{b:Nat}{t:TypeId},Ty w b t->t≠83->t≠80->¬(X.vb.ownBlock=some b\/b=n):=λv m p e=>e.elim (λe=>v.ne (r _ e) m rfl) (λe=>v.ne s p e)
 have B:∀k,x.ownBlock=some k->k≠n:=λk e e2=>by
  subst e2;obtain i|i:=ho
  exact nn (i▸e);rw[e]at i;have:=aQ i;omega
 have D:∀k,Nw.dw {X with aI:=c,vb:=x} n k->X.dw n k\/w.heap.size<=k:=λk E=>by
  obtain(e|e|e|e|e|e|e)|e:=E
  exact .inl (.inl (.inl e));exact .inl (.inl (.inr (.inl e)));exact .inl (.inl (.inr (.inr (.inl e))));exact .inl (.inl (.inr (.inr (.inr (.inl e)))));exact .inl (.inl (.inr (.inr (.inr (.inr (.inl e))))));exact .inl (.inl (.inr (.inr (.inr (.inr (.inr (.inl e)))))));have e:x.ownBlock=some k:=e;obtain q|q:=ho
  exact .inl (.inl (f k (.inl (q▸e))));rw[e]at q;have:=aQ q;exact .inr (by omega);exact .inl (.inr e)
 refine⟨?_,C.mono (λb _ e=>.inl (f b e)),D,y.av C (λe=>(h.own _ (f 0 e)).1 rfl)⟩
 refine h.ah C (λb _ e j a=>(h.own b (f b e)).2 j a) (d h.tx (by decide) (by decide)) (d h.te (by decide) (by decide)) (λj a=>d (h.tl j a) (by decide) (by decide)) X.e X.bf c x ?_ (λj a l hl=>?_) ?_ ?_ ?_;have:=heap_set (o:=20) b1 x;rw[QC X h.key x]at this;exact this;exact(C.block _ (h.fc _ (.inr (.inr (.inr (.inr (.inr (.inl ⟨j,l,a,hl,rfl⟩))))))) (d ⟨_,_,h.en j a l hl⟩ (by decide) (by decide))).trans (h.en j a l hl);obtain⟨cs,m,p⟩:=h.bf;exact⟨cs,(C.block _ h.uO.lt (d h.uO (by decide) (by decide))).trans m,p⟩
 exact kM z u (λb e e2=>B b e e2);obtain q|q:=ho
 exact .inl q;exact .inr (λk e=>by rw[e]at q;have:=aQ q;omega)
def QE:(prog.info? 83).map (λi=>(i.zero,i.size,i.bytes))=some (some (.agg #[.int .i64 0,.string ⟨#[]⟩]),2,24):=by kernel_rfl
def QF(l:List (Int×ByteArray)):∀u∈l.flatMap jb,u.oneCell'=true:=by
 intro u b;obtain⟨x,-,a⟩:=vu.1 b;simp only[jb,fF,qX,py]at a;obtain rfl|rfl:=a<;>rfl
def QG(v:Value)(l:List (Int×ByteArray))(n:w.ownsRow 0 83 2 v l.length (l.flatMap jb))(b c:Nat)(x:Int×ByteArray)(h0:w.heap[b]?=some (.cells #[.int .i64 x.1,.string x.2] 83 (0,0)))(B:l.length<=10000000):
 ∃d e f a,(Builtin.append_ #[77,77] 77 #[v,.slice (some ⟨b,0,none⟩) 1 c]).run prog w=.ok (.slice d e f) a/\a.ownsRow 0 83 2 (.slice d e f) (l++[x]).length ((l++[x]).flatMap jb)/\w.grownBy a v.ownBlock/\((Value.slice d e f).ownBlock=v.ownBlock\/(Value.slice d e f).ownBlock=some w.heap.size):=by
 obtain⟨p,hi,q,r,s⟩:=lD QE;obtain⟨t,a,i,y,k,_,m⟩:=run_append_own_at (P:=prog) w 0 77 77 83 p (.agg #[.int .i64 0,.string ⟨#[]⟩]) 2 24 underlying77 hi q r s rfl (by decide) v l.length (l.flatMap jb) n ⟨b,0,none⟩ 1 c (jb x) (by rfl) (λj u z=>by
  rw[Addr.add_mid,dY,ba h0];have:(#[Value.int .i64 x.1,.string x.2]:Array Value)[j]?=(jb x)[j]? :=by unfold jb;rw[<-ts]
  rw[this];exact z) (λu A=>QF [x] u (by simpa using A)) (by simp[maxLen];omega) (by omega) (iP _)
 have h:a.ownsRow 0 83 2 t (l++[x]).length ((l++[x]).flatMap jb):=by
  rw[bH,List.flatMap_append];have:[x].flatMap jb=jb x:=by simp
  rw[this];exact y
 obtain⟨-,⟨rfl,e2⟩|⟨g,cap,C,rfl,_⟩⟩:=id h;exact⟨_,_,_,a,i,h,k,m⟩
 exact⟨_,_,_,a,i,h,k,m⟩
