import Derived.Test.YtjnmokmchdfchaaGreatDoorZW9
set_option maxRecDepth 1000000
set_option maxHeartbeats 0
set_option linter.all false
namespace Go.Proofs.YtjnmokmchdfchaaGreatDoor
open Go.RowKit Tryz
attribute[local go_sem↓]Go.wp_at_zero Go.wp_at_succ
variable{f:Act}{F:Array Oper}{C c:Array Value}{G:Exit->Act->World->Prop}{b l m n:Nat}{S:Nat->Prop}{I:Oper}{d:Ot}{u:Prop}{T:TypeId}{x z:Value}{W w:World}
theorem Gs(p:w.heap[l]?=some (.cells C T (0,0)))(H:fM w n C b z x d)(A:d.h.nice)(B:n<=w.heap.size)(v:jT w l z x)(a:Rg)(q s:Bool)(D:a.ok)(E:wJ d.h a)(F:d.h.ag.length<100000):
 Calls prog 252 #[.pointer (some ⟨l,b,none⟩),.agg #[.int .u64 a.lo,.int .u64 a.hi,.bool q,.bool s]] w λr t=>r=.returned (.tuple #[])/\
  ∃(f:List Rg)(k:Nat),(k:Int)=dK ⟨d.h.fr,d.h.bytes,f⟩/\aZ f/\f.length<=d.h.ag.length+1/\(∀m,Sm f m↔Sm d.h.ag m\/(a.lo<=m/\m<a.hi))/\mS w t l T C b n z x {d with tE:=d.tE||q,tG:=d.tG||s,h:=⟨d.h.fr+k,d.h.bytes.drop k,f⟩}/\w.grownBy t (some l):=by
 obtain⟨ab,nb,cb,ac,nc,cc,rfl,rfl⟩:=H.mn;refine(E7 w l b C T ab nb cb ac nc cc d p (H.hd p A) (H.tail p) a q s D (λy e e2=>v.1 (by rw[e,<-e2];rfl)) (λy e=>(v.2 y nc cc (by rw[e])).1) E F).mono ?_;rintro r t⟨rfl,G,I,K,f,L,M,k,N,O,P,Q,g,R,ho,S,u⟩;have U:=gF H.c8;refine⟨rfl,f,k,N,O,P,Q,⟨_,.slice L (d.h.bytes.drop k).length M,.slice G I K,⟨R,by simp,λi hi=>?_,(ak.of g).mono (λk _ e=>.inl (aJ e).symm),.inr (λj e=>?_)⟩,⟨?_,?_,?_,?_,?_,?_,?_,?_,?_,ho.low B,⟨_,_,_,rfl,S⟩,H.oJ⟩,?_⟩,g⟩
 rw[bk (by omega),bk (by omega),bk (by omega),bk (by omega),bk (by omega)];exact(ho.lt j e).1;rw[bk (by omega),bk (by omega),bk (by omega)];exact cB (by simp;omega);rw[bk (by omega),bk (by omega)];exact cB (by simp;omega);rw[bk (by omega),bk (by omega),bk (by omega),bk (by omega)];exact cB (by omega);rw[bk (by omega),bk (by omega),bk (by omega),bk (by omega),bk (by omega)];exact H.c3;rw[bk (by omega),bk (by omega),bk (by omega),bk (by omega),bk (by omega)];exact H.c4;rw[bk (by omega),bk (by omega),bk (by omega),bk (by omega),bk (by omega)];exact H.c5;rw[bk (by omega)];exact cB (by simp;omega);exact cB (by simp;omega);rw[bk (by omega),bk (by omega),bk (by omega),bk (by omega),bk (by omega)];exact H.c8;obtain⟨rfl,rfl,rfl⟩|u:=u
 exact .inl rfl;refine .inr (λy V c e=>?_);have e2:=(fS e).1;exact u y e2
theorem Gt(f:w.heap[n]?=some (.cells c T (0,0)))(H:fM w m c l z x d)(s:d.h.nice)(b:jT w n z x)(k:Int)(a:Rg)(p:Bool)(i j:Nat)(hi:i<=j)(t:j<=d.h.bytes.length)(u:a.lo=d.h.fr+i)(v:a.hi=d.h.fr+j)(A:aR a.hi):
 Calls prog 243 #[.pointer (some ⟨n,l,none⟩),.int .i64 k,.agg #[.int .u64 a.lo,.int .u64 a.hi,.bool p,.bool false]] w λe q=>e=.returned (.agg #[.int .i64 5,.int .i64 k,.int .u64 a.lo,.int .u64 0,.bool p,.string (strOfNums ((d.h.bytes.drop i).take (j-i))),.slice none 0 0])/\mS w q n T c l m z x {d with aE:=max d.aE a.hi}:=by
 obtain⟨ab,nb,cb,ac,nc,cc,rfl,rfl⟩:=H.mn;refine(Gr w n l c T ab nb cb ac nc cc d f (H.hd f s) (H.tail f) k a p i j hi t u v (λy e e2=>b.1 (by rw[e,<-e2];rfl)) (λy e=>(b.2 y nc cc (by rw[e])).1)).mono ?_;rintro r q⟨rfl,g,B⟩;have C:aR (max d.aE a.hi):=by
  obtain h|h:=Int.le_total d.aE a.hi
  rw[Int.max_eq_right h];exact A;rw[Int.max_eq_left h];exact H.oJ.1
 refine⟨rfl,_,_,_,⟨B,by simp,λi hi=>bk (by omega),(ak.of g).mono (λk _ e=>.inl (aJ e).symm),.inl rfl⟩,⟨?_,?_,?_,cB (gF H.c3),?_,?_,?_,?_,?_,H.own.gb g (.inr b.1),⟨ac,nc,cc,rfl,(uC H.set).gb g (λy e e2=>(b.2 y nc cc (by rw[e])).1 (aJ e2).symm)⟩,⟨C,H.oJ.2⟩⟩,.inl rfl⟩
 rw[bk (by omega)];exact H.c0;rw[bk (by omega)];exact H.c1;rw[bk (by omega)];exact H.c2;rw[bk (by omega)];exact H.c4;rw[bk (by omega)];exact H.c5;rw[bk (by omega)];exact H.c6;rw[bk (by omega)];exact H.c7;rw[bk (by omega)];exact H.c8
theorem oR{rest:List Oper}(b:I.guard=none)(T ty:TypeId)(c:I.type=ty)(s x:Operand)
 (ho:I.op=.call {callee:=.builtin .append,args:= #[s,x],argTypes:= #[T,T]}) (v a u:Value) (hs:f.eval s=v) (d:f.eval x=a)
 (e:(Builtin.append_ #[T,T] ty #[v,a]).run prog w=.ok u W) (h:wpList prog F G rest (f.put I.dst u) W):wpList prog F G (I::rest) f w:=
 qk b λ_ g=>by
  unfold Oper.wp execOp;simp only[ho,resolve,invoke,builtin,ie,kN,ic,lN,ki,kO,hs,d,c,e]
  exact g _ _ h
theorem xt{K:Act->World->Prop}(c:I.guard=none)(T ty:TypeId)(d:I.type=ty)(s x:Operand)
 (ho:I.op=.call {callee:=.builtin .append,args:= #[s,x],argTypes:= #[T,T]}) (v a b:Value) (hs:f.eval s=v) (e:f.eval x=a)
 (g:(Builtin.append_ #[T,T] ty #[v,a]).run prog w=.ok b W) (h:K (f.put I.dst b) W):if Region.wanted I (yielded F f.tmps)=true then Oper.wp prog I f w K G else u:=by
 have i:Region.wanted I (yielded F f.tmps)=true:=by simp[Region.wanted,c]
 rw[aM i];unfold Oper.wp execOp;simp only[ho,resolve,invoke,builtin,ie,kN,ic,lN,ki,kO,hs,e,d,g]
 exact h
def gS(w:World)(a:Nat)(v:Value)(l:List Pc):Prop:=(∀p∈l,p.x.ok)/\w.ownsRow a 377 4 v l.length (fm l)
theorem HM:(prog.info? 377).map (λi=>(i.zero,i.size,i.bytes))=some (some (.agg #[.int .u64 0,.int .u64 0,.bool false,.bool false]),4,24):=by kernel_rfl
theorem gS.nil(w:World)(a:Nat):gS w a (.slice none 0 0) []:=⟨λp hp=>(by cases hp),rfl,.inl ⟨rfl,rfl⟩⟩
theorem gS.lt{l:List Pc}(h:gS w n x l):∀k,x.ownBlock=some k->n<=k/\k<w.heap.size:=h.2.lt
theorem gS.aq{l:List Pc}(h:gS w n x l)(C:ak w W S)(c:∀k,x.ownBlock=some k->¬S k):gS W n x l:=by
 obtain⟨h0,d,a⟩:=h;refine⟨h0,d,?_⟩
 obtain a|⟨g,cap,cur,e1,e2,b,e⟩:=a
 exact .inl a;exact .inr ⟨g,cap,cur,e1,e2,(C.block g (aO.1 b).1 (c g (by rw[e1];rfl))).trans b,e⟩
theorem gS.ah{l:List Pc}(h:gS w n x l)(g:w.grownBy W none):gS W n x l:=h.aq (ak.of g) (λk _ e=>by cases e)
theorem gS.AL{l:List Pc}(h:gS w n x l):∃a cap,x=.slice a l.length cap/\jV w a l.length cap l/\∀y,a=some y->x.ownBlock=some y.block:=by
 obtain⟨h0,r,⟨e,d⟩|⟨g,cap,f,e1,e2,i,k,m,s,p⟩⟩:=h;exact⟨none,0,by rw[d];exact e,⟨h0,rfl,by omega,by simp[maxLen],.inl rfl⟩,λy b=>by cases b⟩
 refine⟨some ⟨g,0,none⟩,cap,e1,⟨h0,rfl,k,m,.inr ⟨g,0,rfl,λj u c=>?_⟩⟩,λy b=>by cases b;rw[e1];rfl⟩
 rw[dv,aU i];have q:j<l.length*4:=by rw[<-FC];exact(iX.1 c).1
 have:f.toList[j]?=(fm l)[j]? :=by rw[<-p,jO,aM q]
 rw[py]at this;rw[this];exact c
theorem HP(l:List Pc):∀u∈fm l,u.oneCell'=true:=by
 intro u a;unfold fm at a;obtain⟨p,-,hp⟩:=og.1 a;simp[qp]at hp;obtain rfl|rfl|rfl|rfl:=hp<;>rfl
theorem HQ(ty:TypeId)(d:Nat)(v:Value)(l:List Pc)(k:gS w d v l)(b c:Nat)(x:Pc)(r:x.x.ok)(h0:w.rangeAt b 0 (qp x))(E:l.length<=100000000)(s:d<=w.heap.size):
 ∃e f h a,(Builtin.append_ #[323,323] ty #[v,.slice (some ⟨b,0,none⟩) 1 c]).run prog w=.ok (.slice e f h) a/\gS a d (.slice e f h) (l++[x])/\w.grownBy a v.ownBlock/\((Value.slice e f h).ownBlock=v.ownBlock\/(Value.slice e f h).ownBlock=some w.heap.size):=by
 obtain⟨t,hi,y,z,A⟩:=kj HM;obtain⟨B,a,m,C,n,_,q⟩:=run_append_own_at (P:=prog) w d 323 ty 377 t _ 4 24 underlying323 hi y z A rfl (by decide) v l.length (fm l) k.2 ⟨b,0,none⟩ 1 c (fm [x]) (by simp[fm,qp]) (by
  intro j u D;rw[Addr.add_mid];exact h0 j u (by simpa [fm]using D)) (HP _) (by simp[maxLen];omega) (by omega) s
 have i:gS a d B (l++[x]):=⟨λp hp=>by
  obtain hp|hp:=ck.1 hp
  exact k.1 p hp
  ·rw[dB.1 hp];exact r,by rw[bG,show fm (l++[x])=fm l++fm [x] by simp[fm]];exact C⟩
 obtain⟨-,-,⟨rfl,e2⟩|⟨g,cap,F,rfl,_⟩⟩:=id i;exact⟨_,_,_,a,m,i,n,q⟩
 exact⟨_,_,_,a,m,i,n,q⟩
abbrev El:=Nat×List Int
def jE(e:El):Value:=.slice (some ⟨e.1,0,none⟩) e.2.length e.2.length
def dZ(w:World)(a:Nat)(v:Value)(l:List El):Prop:=w.ownsRow a 112 1 v l.length (l.map jE)
structure gI(w:World)(N:Nat)(l:List El):Prop where
 at_:∀e∈l,N<=e.1/\(∀x∈e.2,W8 x)/\w.heap[e.1]?=some (.cells (bv e.2).toArray 5 (0,0))
 sep:l.Pairwise (λa b=>a.1≠b.1)
theorem gI.nil(w:World)(N:Nat):gI w N []:=⟨λe a=>(by cases a),.nil⟩
theorem gI.aq{l:List El}(h:gI w n l)(C:ak w W S)(b:∀e∈l,¬S e.1):gI W n l:=
 ⟨λe a=>⟨(h.at_ e a).1,(h.at_ e a).2.1,(C.block e.1 (aO.1 (h.at_ e a).2.2).1 (b e a)).trans (h.at_ e a).2.2⟩,h.sep⟩
theorem gI.ah{l:List El}(h:gI w n l)(g:w.grownBy W none):gI W n l:=h.aq (ak.of g) (λ_ _ e=>by cases e)
theorem gI.lt{l:List El}(h:gI w n l){e:El}(a:e∈l):e.1<w.heap.size:=(aO.1 (h.at_ e a).2.2).1
theorem gI.app{l m:List El}(h:gI w n l)(k:gI w n m)(hd:∀a∈l,∀b∈m,a.1≠b.1):gI w n (l++m):=
 ⟨λe c=>(ck.1 c).elim (h.at_ e) (k.at_ e),List.pairwise_append.2 ⟨h.sep,k.sep,hd⟩⟩
theorem AM:(prog.info? 112).map (λi=>(i.zero,i.size,i.bytes))=some (some (.slice none 0 0),1,24):=by kernel_rfl
theorem dZ.nil(w:World)(a:Nat):dZ w a (.slice none 0 0) []:=⟨rfl,.inl ⟨rfl,rfl⟩⟩
theorem dZ.lt{l:List El}(h:dZ w n x l):∀k,x.ownBlock=some k->n<=k/\k<w.heap.size:=World.ownsRow.lt h
theorem dZ.aq{l:List El}(h:dZ w n x l)(C:ak w W S)(c:∀k,x.ownBlock=some k->¬S k):dZ W n x l:=by
 obtain⟨d,a⟩:=h;refine⟨d,?_⟩
 obtain a|⟨g,cap,cur,e1,e2,b,e⟩:=a
 exact .inl a;exact .inr ⟨g,cap,cur,e1,e2,(C.block g (aO.1 b).1 (c g (by rw[e1];rfl))).trans b,e⟩
theorem dZ.ah{l:List El}(h:dZ w n x l)(g:w.grownBy W none):dZ W n x l:=h.aq (ak.of g) (λk _ e=>by cases e)
theorem dZ.low{b2:Nat}{l:List El}(h:dZ w n x l)(d:b2<=n):dZ w b2 x l:=by
 obtain⟨b,a⟩:=h;refine⟨b,?_⟩
 obtain a|⟨g,cap,cur,e1,e2,c⟩:=a
 exact .inl a;exact .inr ⟨g,cap,cur,e1,by omega,c⟩
theorem dZ.fL{l:List El}(h:dZ w n x l):∃a cap,x=.slice a l.length cap/\l.length<=cap/\cap<=maxLen/\(a=none->l=[]/\cap=0)/\(∀y,a=some y->x.ownBlock=some y.block/\y=⟨y.block,0,none⟩/\w.rangeAt y.block 0 (l.map jE)):=by
 obtain⟨s,⟨d,h0⟩|⟨g,f,i,e1,e2,k,m,p,t,q⟩⟩:=h;exact⟨none,0,by rw[h0];exact d,by omega,by simp[maxLen],λ_=>⟨fR h0,rfl⟩,λy b=>by cases b⟩
 refine⟨_,f,e1,m,p,λe=>(by cases e),λy b=>?_⟩
 cases b;refine⟨by rw[e1];rfl,rfl,λj u c=>?_⟩
 rw[dv,aU k];have r:j<l.length*1:=by have:=(iX.1 c).1;simpa using this
 have:i.toList[j]?=(l.map jE)[j]? :=by rw[<-q,jO,aM r]
 rw[py]at this;rw[this];exact c
theorem xu(ty:TypeId)(b:Nat)(v:Value)(l:List El)(q:dZ w b v l)(y:Addr)(c:Nat)(m:List El)(h0:∀j u,(m.map jE)[j]?=some u->w.cell? (y.add j)=some u)(D:l.length+m.length<=100000000)(r:b<=w.heap.size):
 ∃d f h a,(Builtin.append_ #[206,206] ty #[v,.slice (some y) m.length c]).run prog w=.ok (.slice d f h) a/\dZ a b (.slice d f h) (l++m)/\w.grownBy a v.ownBlock/\((Value.slice d f h).ownBlock=v.ownBlock\/(Value.slice d f h).ownBlock=some w.heap.size):=by
 obtain⟨s,hi,t,x,z⟩:=kj AM;obtain⟨A,a,k,B,n,_,p⟩:=run_append_own_at (P:=prog) w b 206 ty 112 s _ 1 24 underlying206 hi t x z rfl (by decide) v l.length (l.map jE) q y m.length c (m.map jE) (by simp) h0 (λu C=>by
  obtain⟨e,-,rfl⟩:=fh.1 C;rfl) (by simp[maxLen];omega) (by omega) r
 have i:dZ a b A (l++m):=by
  unfold dZ;rw[bG,mf];exact B
 obtain⟨-,⟨rfl,e2⟩|⟨g,cap,E,rfl,_⟩⟩:=id i;exact⟨_,_,_,a,k,i,n,p⟩
 exact⟨_,_,_,a,k,i,n,p⟩
theorem HU(ty:TypeId)(b:Nat)(v:Value)(l:List El)(c:dZ w b v l)(n:Nat)(x:Value)(m:List El)(p:dZ w n x m)(q:l.length+m.length<=100000000)(r:b<=w.heap.size):
 ∃d f h k,(Builtin.append_ #[206,206] ty #[v,x]).run prog w=.ok (.slice d f h) k/\dZ k b (.slice d f h) (l++m)/\w.grownBy k v.ownBlock/\((Value.slice d f h).ownBlock=v.ownBlock\/(Value.slice d f h).ownBlock=some w.heap.size):=by
 obtain⟨a,cap,rfl,D,E,s,t⟩:=p.fL;cases a with
 |some y=>
  obtain⟨-,e,i⟩:=t y rfl;refine xu ty b v l c y cap m (λj u z=>?_) q r;rw[e,Addr.add_mid];exact i j u z
 |none=>
  obtain⟨A,B⟩:=s rfl;subst A B;obtain⟨C,hi,F,G,H⟩:=kj AM;have i:=run_append_owned_none (P:=prog) (w:=w) b 206 ty 112 C 1 underlying206 hi v _ _ c;rw[nw];obtain⟨-,⟨rfl,e2⟩|⟨g,cap,I,rfl,_⟩⟩:=id c;exact⟨_,_,_,w,i,c,av _ _,.inl rfl⟩
  exact⟨_,_,_,w,i,c,av _ _,.inl rfl⟩
