import Derived.Test.YtjnmokmchdfchaaGreatDoorZW5
set_option maxRecDepth 1000000
set_option maxHeartbeats 0
set_option linter.all false
namespace Go.Proofs.YtjnmokmchdfchaaGreatDoor
open Go.RowKit Tryz
attribute[local go_sem↓]Go.wp_at_zero Go.wp_at_succ
variable{f:Act}{F:Array Oper}{c:Array Value}{B:Bool}{G:Exit->Act->World->Prop}{i j k n:Nat}{I:Oper}{N:Option Nat}{u:Prop}{T:TypeId}{x y z:Value}{V W v w:World}
theorem FG:(prog.info? 325).map (λi=>(i.zero,i.size,i.bytes))=some (some (.agg #[.int .u64 0,.int .i64 0,.int .i64 0,.slice none 0 0]),4,48):=by kernel_rfl
theorem FH(ty:TypeId)(e:Nat)(v:Value)(l:List Kt)(s:bU w e v l)(b c:Nat)(x:Kt)(t:∃a n c,x.2=.slice a n c)(h0:w.rangeAt b 0 (jW x))(H:l.length<=100000000)(y:e<=w.heap.size):
 ∃f h i d,(Builtin.append_ #[222,222] ty #[v,.slice (some ⟨b,0,none⟩) 1 c]).run prog w=.ok (.slice f h i) d/\bU d e (.slice f h i) (l++[x])/\w.grownBy d v.ownBlock/\((Value.slice f h i).ownBlock=v.ownBlock\/(Value.slice f h i).ownBlock=some w.heap.size):=by
 obtain⟨z,hi,A,B,C⟩:=kj FG;obtain⟨I,K,xc,D⟩:=t;obtain⟨E,d,m,F,p,_,q⟩:=run_append_own_at (P:=prog) w e 222 ty 325 z _ 4 48 underlying222 hi A B C rfl (by decide) v l.length (iA l) s ⟨b,0,none⟩ 1 c (iA [x]) (by simp[iA,jW]) (by
  intro j u G;rw[Addr.add_mid];exact h0 j u (by simpa [iA]using G)) (by
  intro u r;simp[iA,jW,D]at r;obtain rfl|rfl|rfl|rfl:=r<;>rfl) (by simp[maxLen];omega) (by omega) y
 have k:bU d e E (l++[x]):=by
  unfold bU;rw[bG,show iA (l++[x])=iA l++iA [x] by simp[iA]];exact F
 obtain⟨-,⟨rfl,e2⟩|⟨g,cap,L,rfl,_⟩⟩:=id k;exact⟨_,_,_,d,m,k,p,q⟩
 exact⟨_,_,_,d,m,k,p,q⟩
theorem zP{K:Act->World->Prop}(k:I.guard=none)(s x:Operand)
 (ho:I.op=.call {callee:=.builtin .append,args:= #[s,x],argTypes:= #[222,222]})
 (i:Nat) (v:Value) (l:List Kt) (hs:f.eval s=v) (m:bU w i v l) (b c:Nat) (j:Kt) (p:∃f n c,j.2=.slice f n c) (q:f.eval x=.slice (some ⟨b,0,none⟩) 1 c) (h0:w.rangeAt b 0 (jW j)) (r:l.length<=100000000) (t:i<=w.heap.size)
 (h:∀a d e g,bU g i (.slice a d e) (l++[j])->w.grownBy g v.ownBlock->((Value.slice a d e).ownBlock=v.ownBlock\/(Value.slice a d e).ownBlock=some w.heap.size)->
   K (f.put I.dst (.slice a d e)) g):if Region.wanted I (yielded F f.tmps)=true then Oper.wp prog I f w K G else u:=by
 have y:Region.wanted I (yielded F f.tmps)=true:=by simp[Region.wanted,k]
 rw[aM y];obtain⟨a,d,e,g,z,A,B,C⟩:=FH (w:=w) I.type i v l m b c j p h0 r t;unfold Oper.wp execOp;simp only[ho,resolve,invoke,builtin,ie,kN,ic,lN,ki,kO,hs,q,z]
 exact h a d e g A B C
structure ik(w:World)(b:Nat)(cs:Array Value)(a:Nat)(c d:Value)(lf ll:List Kt)(count tick wait:Int):Prop where
 c0:cs[a]?=some (.int .u64 count)
 c1:cs[a+1]?=some (.int .i64 tick)
 c2:cs[a+2]?=some (.int .i64 wait)
 c3:cs[a+3]?=some c
 c4:cs[a+4]?=some d
 of:bU w b c lf
 ol:bU w b d ll
theorem FI(w:World)(sb b c:Nat)(v:Value)(lf:List Kt)(c3:w.cell? ⟨sb,b+3,none⟩=some v)(of:bU w c v lf):Calls prog 208 #[.pointer (some ⟨sb,b,none⟩)] w λr d=>r=.returned (.bool (decide (10<=(lf.length:Int))))/\d=w:=by
 obtain⟨a,cap,rfl,-⟩:=of.fL;go_enter func208,ntmps208;go_wp2_with fail;go_ret;exact⟨rfl,rfl⟩
theorem zQ(w:World)(sb a:Nat)(cs:Array Value)(t:TypeId)(count:Int)(b:w.heap[sb]?=some (.cells cs t (0,0)))(c0:cs[a]?=some (.int .u64 count))(d:0<=count/\count<=4611686018427387903):Calls prog 205 #[.pointer (some ⟨sb,a,none⟩)] w λr c=>r=.returned (.int .u64 count)/\w.grownBy c (some sb)/\c.heap[sb]?=some (.cells (cs.setIfInBounds a (.int .u64 (count+1))) t (0,0)):=by
 have d0:=(aU b a).trans c0;have f0:w.frozen? ⟨sb,a,none⟩=false:=by simp[World.frozen?,b]
 have e:IntKind.u64.wrap (count+1)=count+1:=by rw[eH];omega
 have f:IntKind.u64.wrap (count+1-1)=count:=by rw[eH];omega
 go_enter func205,ntmps205;go_wp2_with fail;go_ret;refine⟨?_,aD (av _ _) _ _ (.inr rfl),heap_set b _⟩
 congr 2
theorem FJ(w:World)(sb b:Nat)(tick wait:Int)(c1:w.cell? ⟨sb,b+1,none⟩=some (.int .i64 tick))(c2:w.cell? ⟨sb,b+2,none⟩=some (.int .i64 wait))(x:Kt)(h:0<=tick/\tick<=1000000000000)(i:0<=x.1.tick/\x.1.tick<=1000000000000):
 Calls prog 198 #[.pointer (some ⟨sb,b,none⟩),.agg (kA x)] w λr g=>r=.returned (.bool (decide (wait<=tick-x.1.tick)))/\w.grownBy g none:=by
 obtain⟨⟨num,tk,st,ps⟩,e⟩:=x;unfold kA at *;simp only at *;obtain⟨f,a⟩:=exq (w.alloc (.cells #[.int .u64 num,.int .i64 tk,.int .i64 st,e] 325));have c:w.grownBy f none:=by rw[a];exact aC _ _ _
 have d:f.heap[w.heap.size]?=some (.cells #[.int .u64 num,.int .i64 tk,.int .i64 st,e] 325 (0,0)):=by rw[a];exact aH _ _
 obtain⟨-,j,-,-⟩:=lA d;have d1:=c.cell c1 (by simp);have d2:=c.cell c2 (by simp);have k:IntKind.i64.wrap (tick-tk)=tick-tk:=by simp[IntKind.wrap,IntKind.bits,IntKind.signed];omega
 replace d:=J d;go_enter func198,ntmps198;go_wp2_with fail;rw[<-a];clear a;go_quiet (fail);go_wp2_with fail;go_ret;exact⟨rfl,dh c _⟩
theorem FK(w:World)(x:Kt):Calls prog 200 #[.agg (kA x)] w λr a=>r=.returned (.bool true)/\w.grownBy a none:=by
 unfold kA;go_enter func200,ntmps200;go_wp2_with fail;go_ret;exact⟨rfl,by repeat(first|exact av _ _|apply dh|apply aP|apply aS)⟩
theorem bU.gb{l:List Kt}(h:bU w n x l)(g:w.grownBy W N)(a:x.ownBlock=none\/x.ownBlock≠N):bU W n x l:=World.ownsRow.kept h g a
theorem bU.ah{l:List Kt}(h:bU w n x l)(g:w.grownBy W none):bU W n x l:=h.gb g (by cases x.ownBlock<;>simp)
theorem FL(w:World)(sb c l:Nat)(cs:Array Value)(t:TypeId)(n N:Value)(lf ll:List Kt)(count tick wait:Int)(G:w.heap[sb]?=some (.cells cs t (0,0)))(H:ik w l cs c n N lf ll count tick wait)(Y:l<=w.heap.size)(z:n.ownBlock≠some sb)(O:0<=count/\count<=4611686018427387903)(al:lf.length<=1000000)(k:Int)(pa:Option Addr)(d f:Nat)(ps:List Pc):
 Calls prog 210 #[.pointer (some ⟨sb,c,none⟩),.int .i64 k,.slice pa d f] w λr A=>r=.returned (.int .u64 count)/\∃p,A.heap[sb]?=some (.cells ((cs.setIfInBounds c (.int .u64 (count+1))).setIfInBounds (c+3) p) t (0,0))/\bU A l p (lf++[(⟨count,tick,k,ps⟩,.slice pa d f)])/\ak w A (λi=>i=sb\/n.ownBlock=some i)/\(p.ownBlock=n.ownBlock\/∀i,p.ownBlock=some i->w.heap.size<=i):=by
 obtain⟨c0,c1,c2,c3,c4,of,ol⟩:=H;have P:=J (zQ w sb c cs t count G c0 O);have ax:sb<w.heap.size:=(aO.1 G).1;obtain⟨B,C,rfl,a0,a1⟩:=of.fL;go_enter func210,ntmps210;go_wp2_with fail;refine(Z P).mono ?_;rintro e b⟨rfl,D,h⟩;have d1:b.cell? ⟨sb,c+1,none⟩=some (.int .i64 tick):=by rw[aU h,aW (by omega)];exact c1
 have d3:b.cell? ⟨sb,c+3,none⟩=some (.slice B lf.length C):=by rw[aU h,aW (by omega)];exact c3
 have f3:b.frozen? ⟨sb,c+3,none⟩=false:=by simp[World.frozen?,h]
 have Q:bU b l (.slice B lf.length C) lf:=of.gb D (.inr z);have a2:=D.size;obtain⟨I,j⟩:=exq ((b.alloc (.cells #[.int .u64 count,.int .i64 tick,.int .i64 k,.slice pa d f] 325)).drew);have q:b.grownBy I none:=by rw[j];exact aP (aC _ _ _)
 have E:I.heap[b.heap.size]?=some (.cells #[.int .u64 count,.int .i64 tick,.int .i64 k,.slice pa d f] 325 (0,0)):=by rw[j];exact aH b _
 have K:=J (jm (cs:=jW (⟨count,tick,k,ps⟩,.slice pa d f)) E);have L:=J (Q.ah q);have s:=bf h q;have R:=q.size;rw[j]at K L s;have S:l<=(b.alloc (.cells #[.int .u64 count,.int .i64 tick,.int .i64 k,.slice pa d f] 325)).drew.heap.size:=by rw[<-j];omega
 have T:sb<(b.alloc (.cells #[.int .u64 count,.int .i64 tick,.int .i64 k,.slice pa d f] 325)).drew.heap.size:=by rw[<-j];omega
 replace E:=J E;replace h:=J h;replace s:=J s;have U:=J d3;have M:Hid (b.heap.size<=(b.alloc (.cells #[.int .u64 count,.int .i64 tick,.int .i64 k,.slice pa d f] 325)).drew.heap.size):=J (by rw[<-j];omega);clear q j R;have a3:sb<b.heap.size:=by omega
 go_wp2_with fail;go_region_law ((refine zP (by rfl) _ _ (by rfl) l _ lf (by rfl) (Z L) _ _ (⟨count,tick,k,ps⟩,.slice pa d f) ⟨_,_,_,rfl⟩ (by rfl) (Z K) (by omega) S ?_;intro a7 u c7 v F x y;replace F:=J F;replace y:=J y;have m:=(x.block sb T (λe=>z e.symm)).trans (Z s);have a4:v.cell? ⟨sb,c+3,none⟩=some (.slice B lf.length C):=((lg (w:=b) (a:=⟨sb,c+3,none⟩) (m.trans (Z h).symm)).trans (Z U));have f7:v.frozen? ⟨sb,c+3,none⟩=false:=(by simp[World.frozen?,m]);replace m:=J m;replace x:=J x));all_goals go_wp2_with fail
 all_goals
  go_ret
  have V:(Value.slice a7 u c7).ownBlock≠some sb:=by
   obtain e|e:=Z y
   rw[e];exact z;rw[e];intro e2;have W:=aJ e2;have:=Z M;omega
  refine⟨rfl,.slice a7 u c7,heap_set (Z m) _,(Z F).gb (aD (av v (some sb)) ⟨sb,c+3,none⟩ (.slice a7 u c7) (.inr rfl)) (.inr V),?_,?_⟩
  have X:ak b (b.alloc (.cells #[.int .u64 count,.int .i64 tick,.int .i64 k,.slice pa d f] 325)).drew (λ_=>False):=(ak.of (aP (aC b _ none))).mono (λk _ e=>by cases e)
  refine((((ak.of D).trans X).trans (ak.of (Z x))).trans (ak.of (aD (av v (some sb)) ⟨sb,c+3,none⟩ (.slice a7 u c7) (.inr rfl)))).mono (λi _ g=>?_)
  obtain((g|g)|g)|g:=g
  exact .inl (aJ g).symm
  exact g.elim
  exact .inr g
  exact .inl (aJ g).symm
  obtain e|e:=Z y
  exact .inl e
  refine .inr (λi hi=>?_)
  rw[e]at hi
  have W:=aJ hi
  have:=Z M
  omega
theorem wR(a:Option Addr)(cap b:Nat)(lb:Array Value)(w:World)(c:cap<=maxLen)(d:∀args w,(callFunc b args).run prog w=.ok (.enter b args) w):
 Calls prog 236 #[.slice a 0 cap,.func (.func b) #[] lb] w λe f=>e=.returned (.slice a 0 cap)/\f=w:=by
 have g:=J (wO a 0 0 0 cap b #[] lb w (λ_=>False) (λ_=>undef) (λ_=>undef) (λ_=>undef) (λ_=>undef) (λ_ W=>W=w) (λh=>by omega) ⟨by omega,c⟩ d rfl (λW h _ i=>by omega) (λW h _ i=>by omega));go_enter func236,ntmps236;go_wp2_with fail;refine(Z g).mono ?_;rintro e j(⟨k,l,-⟩|⟨rfl,-,rfl⟩);omega;go_wp2_with fail;go_ret;exact⟨rfl,rfl⟩
def FT(sb:Nat)(a b:Value)(k:Nat):Prop:=k=sb\/a.ownBlock=some k\/b.ownBlock=some k
theorem bU.mid{l:List Kt}(h:bU w k (.slice (some ⟨i,0,none⟩) n j) l):k<=i/\∃a,iN w i j l [] 0 a:=by
 obtain⟨g,⟨c,h0⟩|⟨m,p,a,e1,e2,d,q,r,e,f⟩⟩:=h;cases c;cases e1;refine⟨e2,a,d,e,aI _,λx b=>by simp at b,λx _ b=>?_⟩
 rw[<-f,jO,aM b,py]
theorem FM(l:List Kt)(Q:Kt->Bool)(j:Nat)(a:j<l.length):(l.take (j+1)).filter Q=(l.take j).filter Q++(if Q (bD l j)then[bD l j]else[]):=by
 rw[nr,mQ a,Option.toList_some,List.filter_append];cases h:Q (bD l j)<;>simp[h]
structure mR(w:World)(sb e b:Nat)(cs:Array Value)(t:TypeId)(c d:Value)(lf f:List Kt)(a:Value)(W:World):Prop where
 aG:W.heap[sb]?=some (.cells (cs.setIfInBounds (e+4) a) t (0,0))
 of:bU W b c lf
 ol:bU W b a f
 aq:ak w W (FT sb c d)
 new:a.ownBlock=d.ownBlock\/∀k,a.ownBlock=some k->w.heap.size<=k
theorem mR.gb{lf a:List Kt}(h:mR w n k i c T x y lf a z W)(g:W.grownBy v none):mR w n k i c T x y lf a z v:=
 ⟨bf h.aG g,h.of.ah g,h.ol.ah g,h.aq.grow g,h.new⟩
theorem mR.apart{lf a:List Kt}(h:mR w n i j c T x y lf a z W)(l:n<w.heap.size)(b:y.ownBlock≠some n)(d:∀k,x.ownBlock=some k->y.ownBlock≠some k)(f:∀k,x.ownBlock=some k->k<w.heap.size):z.ownBlock≠some n/\∀k,x.ownBlock=some k->z.ownBlock≠some k:=by
 obtain e|e:=h.new
 rw[e];exact⟨b,d⟩
 exact⟨λe2=>by have:=e _ e2;omega,λk g e2=>by have:=e _ e2;have:=f k g;omega⟩
theorem mR.app{lf t p:List Kt}{b:Value}(h:mR w n i j c T x y lf t z W)(g:W.grownBy v none)(u:bU V j b p)(f:v.grownBy V z.ownBlock)(q:b.ownBlock=z.ownBlock\/b.ownBlock=some v.heap.size)(r:n<w.heap.size)(A:y.ownBlock≠some n)(B:x.ownBlock≠some n)(C:∀k,x.ownBlock=some k->y.ownBlock≠some k)(D:∀k,x.ownBlock=some k->k<w.heap.size):mR w n i j c T x y lf p b (V.setCell ⟨n,i+4,none⟩ b):=by
 have d:=h.gb g;obtain⟨s,E⟩:=h.apart r A C D;have F:n<v.heap.size:=bK r d.aq.size;have G:V.heap[n]?=some (.cells (c.setIfInBounds (i+4) z) T (0,0)):=(f.block n F (λe=>s e.symm)).trans d.aG;have l:=aD (av V (some n)) ⟨n,i+4,none⟩ b (.inr rfl);have H:b.ownBlock≠some n:=by
  obtain e|e:=q
  rw[e];exact s;rw[e];intro e2;have:=aJ e2;omega
 refine⟨by rw[heap_set G];simp,?_,u.gb l (.inr H),?_,?_⟩
 have I:bU V j x lf:=d.of.gb f (by
  cases K:x.ownBlock with
  |none=>exact .inl rfl
  |some k=>exact .inr (λe=>E k K e.symm))
 exact I.gb l (.inr B);refine((d.aq.trans (ak.of f)).trans (ak.of l)).mono (λk m a=>?_);obtain(a|a)|a:=a
 exact a;obtain e|e:=h.new
 exact .inr (.inr (e▸a));have:=e k a;omega;exact .inl (aJ a).symm;obtain e|e:=q
 rw[e];exact h.new;exact .inr (λk m=>by rw[e]at m;have:=aJ m;have:=d.aq.size;omega)
theorem zR(w:World)(sb f m N:Nat)(lb:Array Value)(cs:Array Value)(t:TypeId)(y p:Value)(lf ll:List Kt)(count tick wait:Int)(Q:Kt->Bool)(U:w.heap[sb]?=some (.cells cs t (0,0)))(H:ik w m cs f y p lf ll count tick wait)(dG:m<=w.heap.size)(V:y.ownBlock≠some sb)(bb:p.ownBlock≠some sb)(ax:∀k,y.ownBlock=some k->p.ownBlock≠some k)(ee:lf.length<=1000000/\ll.length<=50000000)(eS:∀x∈lf,∃a n c,x.2=.slice a n c)
 (eg:∀args w,(callFunc N args).run prog w=.ok (.enter N args) w)
 (X:∀(W:World)(h:Nat),ak w W (FT sb y p)->h<lf.length->Calls prog N (#[.agg (kA (bD lf h))]++lb) W (λe W'=>e=.returned (.bool (Q (bD lf h)))/\W.grownBy W' none)):
 Calls prog 199 #[.pointer (some ⟨sb,f,none⟩),.func (.func N) #[] lb] w λr q=>r=.returned (.tuple #[])/\∃z d,q.heap[sb]?=some (.cells ((cs.setIfInBounds (f+4) d).setIfInBounds (f+3) z) t (0,0))/\bU q m z (lf.filter (λx=> !Q x))/\bU q m d (ll++lf.filter Q)/\ak w q (FT sb y p)/\z.ownBlock=y.ownBlock/\(d.ownBlock=p.ownBlock\/∀k,d.ownBlock=some k->w.heap.size<=k):=by
 obtain⟨R,O⟩:=exq (λq:World=>∃z d,q.heap[sb]?=some (.cells ((cs.setIfInBounds (f+4) d).setIfInBounds (f+3) z) t (0,0))/\bU q m z (lf.filter (λx=> !Q x))/\bU q m d (ll++lf.filter Q)/\ak w q (FT sb y p)/\z.ownBlock=y.ownBlock/\(d.ownBlock=p.ownBlock\/∀k,d.ownBlock=some k->w.heap.size<=k));have bL:(λr q=>r=Ending.returned (.tuple #[])/\∃z d,q.heap[sb]?=some (.cells ((cs.setIfInBounds (f+4) d).setIfInBounds (f+3) z) t (0,0))/\bU q m z (lf.filter (λx=> !Q x))/\bU q m d (ll++lf.filter Q)/\ak w q (FT sb y p)/\z.ownBlock=y.ownBlock/\(d.ownBlock=p.ownBlock\/∀k,d.ownBlock=some k->w.heap.size<=k))=λr q=>r=Ending.returned (.tuple #[])/\R q:=by rw[O]
 rw[bL];clear bL;replace O:=J O;obtain⟨c0,c1,c2,c3,c4,of,ol⟩:=H;have bj:sb<w.heap.size:=(aO.1 U).1;have d3:=(aU U _).trans c3;have a0:mR w sb f m cs t y p lf (ll++(lf.take 0).filter Q) p w:=⟨by rw[sC c4];exact U,of,by simpa using ol,ak.rfl' _ _,.inl rfl⟩
 obtain⟨G,l,rfl,cR,c9⟩:=of.fL;unfold maxLen at c9;replace a0:=J a0;replace X:=J X;replace U:=J U;have ei:=gF c3;have bM:=gF c4;obtain⟨n,B⟩:=exq lf.length;rw[<-B]at d3 a0 X cR ax V of O;replace B:=J B;clear c0 c1 c2;go_enter func199,ntmps199;go_wp2_with fail;go_loopw [11] (λjv wr=>∃(j:Nat)(d:Value),j<=n/\jv=.int .i64 (j:Int)/\mR w sb f m cs t (.slice G n l) p lf (ll++(lf.take j).filter Q) d wr) (λjv _=>n-(intOf jv).toNat);case atStart=>exact⟨0,p,by omega,rfl,Z a0⟩
 case round=>
  obtain⟨j,d,hj,rfl,b⟩:=hrel;by_cases db:j<n
  ·have d1:decide ((j:Int)<(n:Int))=true:=bp (by omega);have i1:(j:Int)<(n:Int):=by omega
   have br:j<lf.length:=by have:=Z B;omega
   obtain⟨g,rfl,bP⟩:=b.of.cell (by omega);obtain⟨y0,y1,y2,y3⟩:=bP j br;clear bP;rw[dv]at y0 y1 y2 y3;obtain⟨pa,D,E,bt⟩:=eS _ (nF br);have Y:Hid (ll++(lf.take (j+1)).filter Q=(ll++(lf.take j).filter Q)++(if Q (bD lf j)then[bD lf j]else[])):=J (by rw[FM lf Q j br,eA]);have hF:=J (λW(g1:wr.grownBy W none)=>Z X W j (b.aq.grow g1) db);have bS:Hid ((ll++(lf.take j).filter Q).length<=60000000):=J (by
    have F:=oa Q (lf.take j);rw[cC]at F;rw[bG];omega)
   obtain⟨kt,b4⟩:=exq (bD lf j);obtain⟨qj,b5⟩:=exq (Q (bD lf j));rw[<-b5]at hF Y;rw[<-b4]at y0 y1 y2 y3 hF bt Y;clear b4 b5;obtain⟨lj,b6⟩:=exq (ll++(lf.take j).filter Q);rw[<-b6]at b bS Y;clear b6;obtain⟨⟨num,tk,st,ps⟩,sv⟩:=kt;simp only at y0 y1 y2 y3 bt;subst bt;unfold kA at hF;simp only at hF;obtain⟨W3,a1⟩:=exq (wr.alloc (.cells #[.int .u64 num,.int .i64 tk,.int .i64 st,.slice pa D E] 325));have g3:wr.grownBy W3 none:=by rw[a1];exact aC _ _ _
   have a2:W3.heap[wr.heap.size]?=some (.cells #[.int .u64 num,.int .i64 tk,.int .i64 st,.slice pa D E] 325 (0,0)):=by rw[a1];exact aH _ _
   obtain⟨b0,b1,b2,b3⟩:=lA a2;have b7:=J (Z hF W3 g3);replace a2:=J a2;clear hF;go_wp2_with fail;rw[<-a1];clear a1;go_wp2_with fail;refine(Z b7).mono ?_;rintro e C⟨rfl,g4⟩;have de:=aj g3 g4;have s:=b.gb de;have a3:=bf (Z a2) g4;clear y0 y1 y2 y3 b0 b1 b2 b3 b7;cases qj
   ·have I:=Z Y;simp only[gM,gp,nw]at I;replace I:=J I;replace s:=J s;replace b:=J b;go_wp2_with fail;go_roundw;case measure=>simp[intOf];omega
    case rel=>exact⟨j+1,d,by omega,by simp,by rw[Z I];exact Z s⟩
   obtain⟨b0,b1,b2,b3⟩:=lA a3;have a4:∀k,(Value.slice (some ⟨g,0,none⟩) n l).ownBlock=some k->k<w.heap.size:=λk hk=>(of.lt k hk).2
   obtain⟨la,ej,dg,-⟩:=s.ol.fL;have ek:w.heap.size<=C.heap.size:=s.aq.size;have eo:sb<C.heap.size:=by omega
   have ep:wr.heap.size<C.heap.size:=(aO.1 a3).1;obtain⟨K,a8⟩:=exq ((C.alloc (.cells #[.int .u64 num,.int .i64 tk,.int .i64 st,.slice pa D E] 325)).drew);have P:C.grownBy K none:=by rw[a8];exact aP (aC _ _ _)
   have S:K.heap[C.heap.size]?=some (.cells #[.int .u64 num,.int .i64 tk,.int .i64 st,.slice pa D E] 325 (0,0)):=by rw[a8];exact aH C _
   have b8:=J (jm (cs:=jW (⟨num,tk,st,ps⟩,.slice pa D E)) S);have o5:=J (s.ol.ah P);have ca:m<=K.heap.size:=by have:=P.size;omega
   have cf:sb<K.heap.size:=by have:=P.size;omega
   have e4:C.cell? ⟨sb,f+4,none⟩=some d:=by rw[aU s.aG];exact cB bM
   have f4:C.frozen? ⟨sb,f+4,none⟩=false:=by simp[World.frozen?,s.aG]
   have cg:=J (bf s.aG P);have al:=s.apart bj bb ax a4;have ch:Hid (∀(u:World)(T:Value),bU u m T (lj++[(⟨num,tk,st,ps⟩,.slice pa D E)])->K.grownBy u d.ownBlock->(T.ownBlock=d.ownBlock\/T.ownBlock=some K.heap.size)->mR w sb f m cs t (.slice (some ⟨g,0,none⟩) n l) p lf (lj++[(⟨num,tk,st,ps⟩,.slice pa D E)]) T (u.setCell ⟨sb,f+4,none⟩ T)):=J (λu T F A h3=>s.app P F A h3 bj bb V ax a4);have cj:Hid (∀u,K.grownBy u d.ownBlock->u.cell? ⟨sb,f+4,none⟩=some d/\u.frozen? ⟨sb,f+4,none⟩=false):=J (λu g7=>by
    have cp:=(g7.block sb cf (λe=>al.1 e.symm)).trans (Z cg);exact⟨by rw[aU cp];exact cB bM,by simp[World.frozen?,cp]⟩)
   subst dg;rw[a8]at b8 o5 ca ch cj;clear a8 P S cf cg;replace s:=J s;replace b:=J b;replace a3:=J a3;go_upto_region 4 with fail;go_region_law ((refine zP (by rfl) _ _ (by rfl) m _ lj (by rfl) (Z o5) _ _ (⟨num,tk,st,ps⟩,.slice pa D E) ⟨_,_,_,rfl⟩ (by rfl) (Z b8) (by have:=Z bS;omega) ca ?_;intro a7 n7 c7 u o7 g7 h7;have dk:=J (Z ch u _ o7 g7 h7);obtain⟨z7,y7⟩:=Z cj u g7;clear o7 g7 h7));all_goals
    go_wp2_with fail
    have I:=Z Y
    simp only[fJ]at I
    exact⟨⟨j+1,_,by omega,by simp,by rw[I];exact Z dk⟩,by simp[intOf];omega⟩
  have d1:decide ((j:Int)<(n:Int))=false:=bB (by omega);obtain rfl:j=n:=by omega
  have cv:lf.take j=lf:=by rw[Z B,lh]
  rw[cv]at b;have a4:∀k,(Value.slice G j l).ownBlock=some k->k<w.heap.size:=λk hk=>(of.lt k hk).2
  have al:=b.apart bj bb ax a4;have e3:wr.cell? ⟨sb,f+3,none⟩=some (.slice G j l):=by
   rw[aU b.aG,aW (by omega),Z B];exact c3
  have f3:wr.frozen? ⟨sb,f+3,none⟩=false:=by simp[World.frozen?,b.aG]
  have ew:w.heap.size<=wr.heap.size:=b.aq.size;by_cases hz:j=0
  ·subst hz;have dn:lf=[]:=fR (Z B).symm;have hD:=J (wR G l N lb wr (by unfold maxLen;omega) eg);have a9:Hid (R (wr.setCell ⟨sb,f+3,none⟩ (.slice G 0 l))):=J (by
    rw[Z O];have L:=aD (av wr (some sb)) ⟨sb,f+3,none⟩ (.slice G 0 l) (.inr rfl);refine⟨.slice G 0 l,d,heap_set b.aG _,?_,b.ol.gb L (.inr al.1),(b.aq.trans (ak.of L)).mono (λk _ M=>M.elim id (λe=>.inl (aJ e).symm)),rfl,b.new⟩
    have F:=b.of.gb L (.inr V);rw[dn]at F⊢;exact F)
   replace b:=J b;go_wp2_with fail;refine(Z hD).mono ?_;rintro e v⟨rfl,rfl⟩;go_wp2_with fail;exact dP (dj rfl _ _ _) rfl ⟨rfl,Z a9⟩
  obtain⟨g,rfl,-⟩:=b.of.cell (by omega);obtain⟨ds,du,bx⟩:=b.of.mid;have cw:sb≠g:=λe=>V (by rw[e];rfl)
  have dx:d.ownBlock≠some g:=al.2 g rfl;have dE:j<=l/\l<=maxLen:=⟨by omega,by unfold maxLen;omega⟩
  have hD:=J (wQ g j l m N sb lb lf wr (λh=>Q (bD lf h)) (λ_ W=>W.heap[sb]?=wr.heap[sb]? /\bU W m d (ll++lf.filter Q)/\ak w W (FT sb (.slice (some ⟨g,0,none⟩) j l) p)/\wr.heap.size<=W.heap.size) du ds (Z B) dE eS bx (by omega) cw eg ⟨rfl,b.ol,b.aq,aI _⟩
   (λW W' h hi gg=>⟨(gg.block sb (by omega) (λe=>cw (aJ e))).trans hi.1,hi.2.1.gb gg (.inr dx),(hi.2.2.1.trans (ak.of gg)).mono (λk _ M=>M.elim id (λe=>.inr (.inl e))),bC hi.2.2.2 gg.size⟩)
   (λW h hi M=>(Z X W h hi.2.2.1 M).mono (λe W' A=>⟨A.1,⟨(A.2.block sb (by omega) (by simp)).trans hi.1,hi.2.1.ah A.2,hi.2.2.1.grow A.2,bC hi.2.2.2 A.2.size⟩,cO A.2 _⟩)))
  have cx:kp lf (λh=>Q (bD lf h)) j=lf.filter (λx=> !Q x):=by
   rw[wP lf _ Q (λi _=>rfl) j (by have:=Z B;omega),cv]
  rw[cx]at hD;have a9:Hid (∀v,bU v m (.slice (some ⟨g,0,none⟩) (lf.filter (λx=> !Q x)).length l) (lf.filter (λx=> !Q x))->v.heap[sb]?=wr.heap[sb]? ->bU v m d (ll++lf.filter Q)->ak w v (FT sb (.slice (some ⟨g,0,none⟩) j l) p)->R (v.setCell ⟨sb,f+3,none⟩ (.slice (some ⟨g,0,none⟩) (lf.filter (λx=> !Q x)).length l))/\v.cell? ⟨sb,f+3,none⟩=some (.slice (some ⟨g,0,none⟩) j l)/\v.frozen? ⟨sb,f+3,none⟩=false):=J (λv F A h3 h4=>by
   have S:=A.trans b.aG;have L:=aD (av v (some sb)) ⟨sb,f+3,none⟩ (.slice (some ⟨g,0,none⟩) (lf.filter (λx=> !Q x)).length l) (.inr rfl);refine⟨?_,by rw[aU S,<-aU b.aG];exact e3,by simp[World.frozen?,S]⟩
   rw[Z O];exact⟨.slice (some ⟨g,0,none⟩) (lf.filter (λx=> !Q x)).length l,d,heap_set S _,F.gb L (.inr V),h3.gb L (.inr al.1),(h4.trans (ak.of L)).mono (λk _ M=>M.elim id (λe=>.inl (aJ e).symm)),rfl,b.new⟩)
  replace b:=J b;replace bx:=J bx;obtain⟨lk,cy⟩:=exq (lf.filter (λx=> !Q x));rw[<-cy]at hD a9;clear cx cy;go_wp2_with fail;refine(Z hD).mono ?_;rintro e v⟨rfl,o5,h5,l5,C5,-⟩;obtain⟨bz,e5,f5⟩:=Z a9 v o5 h5 l5 C5;replace bz:=J bz;clear o5 h5 l5 C5;go_wp2_with fail;exact dP (dj rfl _ _ _) rfl ⟨rfl,Z bz⟩
structure qs(w b:World)(sb:Nat)(t:TypeId)(cs a:Array Value)(c:Nat)(d e f g:Value):Prop where
 aG:b.heap[sb]?=some (.cells a t (0,0))
 sz:a.size=cs.size
 out:∀i,i<c\/c+5<=i->a[i]?=cs[i]?
 aq:ak w b (FT sb d e)
 FO:f.ownBlock=d.ownBlock\/∀k,f.ownBlock=some k->w.heap.size<=k
 zS:g.ownBlock=e.ownBlock\/∀k,g.ownBlock=some k->w.heap.size<=k
def pM(w b:World)(sb:Nat)(t:TypeId)(cs:Array Value)(c g:Nat)(d h:Value)(lf ll:List Kt)(count tick wait:Int):Prop:=
 ∃e a f,qs w b sb t cs e c d h a f/\ik b g e c a f lf ll count tick wait/\a.ownBlock=d.ownBlock
def oI(sb:Nat)(a b:Value):Prop:=a.ownBlock≠some sb/\b.ownBlock≠some sb/\∀k,a.ownBlock=some k->b.ownBlock≠some k
theorem FP(w:World)(sb d p:Nat)(cs:Array Value)(t:TypeId)(s l:Value)(lf ll:List Kt)(count tick wait:Int)(y:w.heap[sb]?=some (.cells cs t (0,0)))(H:ik w p cs d s l lf ll count tick wait)(cy:p<=w.heap.size)(bP:oI sb s l)(bS:lf.length<=1000000/\ll.length<=50000000)(eS:∀x∈lf,∃a n c,x.2=.slice a n c)(ht:0<=tick/\tick<1000000000000)(S:∀x∈lf,0<=x.1.tick/\x.1.tick<=1000000000000)(hw:0<=wait/\wait<=1000):
 Calls prog 156 #[.pointer (some ⟨sb,d,none⟩)] w λr q=>r=.returned (.tuple #[])/\(((∃x∈lf,wait<=tick+1-x.1.tick)/\pM w q sb t cs d p s l [] (ll++lf) count (tick+1) (min (2*wait) 32))\/((¬∃x∈lf,wait<=tick+1-x.1.tick)/\pM w q sb t cs d p s l lf ll count (tick+1) wait)):=by
 obtain⟨R,T⟩:=exq (λq:World=>(((∃x∈lf,wait<=tick+1-x.1.tick)/\pM w q sb t cs d p s l [] (ll++lf) count (tick+1) (min (2*wait) 32))\/((¬∃x∈lf,wait<=tick+1-x.1.tick)/\pM w q sb t cs d p s l lf ll count (tick+1) wait)));have a3:(λ(r:Ending) q=>r=.returned (.tuple #[])/\(((∃x∈lf,wait<=tick+1-x.1.tick)/\pM w q sb t cs d p s l [] (ll++lf) count (tick+1) (min (2*wait) 32))\/((¬∃x∈lf,wait<=tick+1-x.1.tick)/\pM w q sb t cs d p s l lf ll count (tick+1) wait)))=λr q=>r=.returned (.tuple #[])/\R q:=by rw[T]
 rw[a3];clear a3;obtain⟨c0,c1,c2,c3,c4,of,ol⟩:=H;obtain⟨U,V,b0⟩:=bP;have db:sb<w.heap.size:=(aO.1 y).1;obtain⟨j,D⟩:=exq (w.setCell ⟨sb,d+1,none⟩ (.int .i64 (tick+1)));have E:w.grownBy j (some sb):=by rw[D];exact aD (av _ _) _ _ (.inr rfl)
 have u:j.heap[sb]?=some (.cells (cs.setIfInBounds (d+1) (.int .i64 (tick+1))) t (0,0)):=by rw[D];exact heap_set y _
 obtain⟨v,L⟩:=exq (cs.setIfInBounds (d+1) (.int .i64 (tick+1)));rw[<-L]at u;have z:∀i,i≠d+1->v[i]?=cs[i]? :=λi h=>by rw[L,aW (by omega)]
 have f:ik j p v d s l lf ll count (tick+1) wait:=⟨by rw[z _ (by omega)];exact c0,by rw[L];exact cB (gF c1),by rw[z _ (by omega)];exact c2,by rw[z _ (by omega)];exact c3,by rw[z _ (by omega)];exact c4,of.gb E (.inr U),ol.gb E (.inr V)⟩
 have a4:v.size=cs.size:=by rw[L];simp
 have de:w.heap.size<=j.heap.size:=E.size;have e1:=(aU u _).trans f.c1;have e2:=(aU u _).trans f.c2;have e3:=(aU u _).trans f.c3;obtain⟨A,M,rfl,b3,b4⟩:=of.fL;have hC:=J (λb(ha:0<lf.length->A=some ⟨b,0,none⟩)(b6:∀i,i<lf.length->j.cell? ⟨b,0+i*4,none⟩=some (.int .u64 (bD lf i).1.num)/\j.cell? ⟨b,0+i*4+1,none⟩=some (.int .i64 (bD lf i).1.tick)/\j.cell? ⟨b,0+i*4+2,none⟩=some (.int .i64 (bD lf i).1.st)/\j.cell? ⟨b,0+i*4+3,none⟩=some (bD lf i).2)=>zJ A b 0 lf.length M 198 #[.pointer (some ⟨sb,d,none⟩)] #[] j (λi=>wait<=tick+1-(bD lf i).1.tick) (λi=>.int .u64 (bD lf i).1.num) (λi=>.int .i64 (bD lf i).1.tick) (λi=>.int .i64 (bD lf i).1.st) (λi=>(bD lf i).2) ha ⟨b3,b4⟩ (λ_ _=>by kernel_rfl)
  (λW i g hi=>by obtain⟨p0,p1,p2,p3⟩:=b6 i hi;exact⟨g.cell p0 (by simp),g.cell p1 (by simp),g.cell p2 (by simp),g.cell p3 (by simp)⟩)
  (λW i g hi=>by
    refine(FJ W sb d (tick+1) wait (g.cell e1 (by simp)) (g.cell e2 (by simp)) (bD lf i) (by omega) (S _ (nF hi))).mono ?_;rintro e W'⟨rfl,g'⟩;exact⟨mO Iff.rfl,g'⟩))
 obtain⟨cb,a9,bb⟩:∃b,(0<lf.length->A=some ⟨b,0,none⟩)/\(∀i,i<lf.length->j.cell? ⟨b,0+i*4,none⟩=some (.int .u64 (bD lf i).1.num)/\j.cell? ⟨b,0+i*4+1,none⟩=some (.int .i64 (bD lf i).1.tick)/\j.cell? ⟨b,0+i*4+2,none⟩=some (.int .i64 (bD lf i).1.st)/\j.cell? ⟨b,0+i*4+3,none⟩=some (bD lf i).2):=by
  by_cases hz:0<lf.length;obtain⟨b,e,h⟩:=f.of.cell hz;exact⟨b,λ_=>e,h⟩
  exact⟨0,λh=>absurd h hz,λi hi=>by omega⟩
 have ca:=J (Z hC cb a9 bb);clear hC a9 bb;have br:Hid ((∃i,i<lf.length/\wait<=tick+1-(bD lf i).1.tick)↔∃x∈lf,wait<=tick+1-x.1.tick):=J (by
  constructor;rintro⟨i,hi,h⟩;exact⟨_,nF hi,h⟩
  ·rintro⟨x,S,h⟩;obtain⟨i,hi,rfl⟩:=lL.1 S;exact⟨i,hi,by simpa [bD,List.getD,hi]using h⟩)
 have cf:=J (λW(g:j.grownBy W none)=>zR W sb d p 200 #[] v t (.slice A lf.length M) l lf ll count (tick+1) wait (λ_=>true) (bf u g) ⟨f.c0,f.c1,f.c2,f.c3,f.c4,f.of.ah g,f.ol.ah g⟩ (by have:=g.size;omega) U V b0 bS eS (λ_ _=>by kernel_rfl) (λW h _ _=>by rw[Array.append_empty];exact FK W _));have dn:IntKind.i64.wrap (tick+1)=tick+1:=by simp[IntKind.wrap,IntKind.bits,IntKind.signed];omega
 have d1:=(aU y _).trans c1;have f1:w.frozen? ⟨sb,d+1,none⟩=false:=by simp[World.frozen?,y]
 have cg:Hid (∀W,j.grownBy W none->(¬∃x∈lf,wait<=tick+1-x.1.tick)->R W):=J (λW g N=>by
  rw[T];refine .inr ⟨N,v,.slice A lf.length M,l,⟨bf u g,a4,λi hi=>z i (by omega),((ak.of E).trans (ak.of g)).mono (λk _ m=>m.elim (λe=>.inl (aJ e).symm) (λe=>by cases e)),.inl rfl,.inl rfl⟩,⟨f.c0,f.c1,f.c2,f.c3,f.c4,f.of.ah g,f.ol.ah g⟩,rfl⟩)
 replace u:=J u;replace y:=J y;replace D:=J D;go_enter func156,ntmps156;go_upto_region 1 with fail;rw[<-Z D];go_wp2_with fail;refine(Z ca).mono ?_;rintro e X⟨⟨b,rfl,O⟩,F⟩;cases b
 ·have N:¬∃x∈lf,wait<=tick+1-x.1.tick:=λh=>by have:=O.2 ((Z br).2 h);cases this
  have G:=J (Z cg X F N);clear O N;go_wp2_with fail;exact cz (dj rfl _ _ _) rfl ⟨rfl,Z G⟩
 have ch:Hid (∃x∈lf,wait<=tick+1-x.1.tick):=J ((Z br).1 (O.1 rfl));clear O;go_wp2_with fail;refine(Z cf X F).mono ?_;rintro e P⟨rfl,bt,Y,B,al,ax,C3,Q,a0⟩;have bz:lf.filter (λ_=> !true)=[]:=by simp
 have bL:lf.filter (λ_=>true)=lf:=by simp
 rw[bz]at al;rw[bL]at ax;obtain⟨a1,C⟩:=exq ((v.setIfInBounds (d+4) Y).setIfInBounds (d+3) bt);rw[<-C]at B;have I:∀i,i≠d+3->i≠d+4->a1[i]?=v[i]? :=λi h1 h2=>by rw[C,aW (by omega),aW (by omega)]
 have k2:P.cell? ⟨sb,d+2,none⟩=some (.int .i64 wait):=by rw[aU B,I _ (by omega) (by omega)];exact f.c2
 have f2:P.frozen? ⟨sb,d+2,none⟩=false:=by simp[World.frozen?,B]
 have dE:IntKind.i64.wrap (2*wait)=2*wait:=by simp[IntKind.wrap,IntKind.bits,IntKind.signed];omega
 have cj:v.size=a1.size:=by rw[C];simp
 have cp:=gF f.c4;have dG:=gF f.c3;have G:Hid (R (P.setCell ⟨sb,d+2,none⟩ (.int .i64 (min (2*wait) 32)))):=J (by
  rw[T];have gs:=aD (av P (some sb)) ⟨sb,d+2,none⟩ (.int .i64 (min (2*wait) 32)) (.inr rfl);have cv:ak w X (FT sb (.slice A lf.length M) l):=((ak.of E).trans (ak.of F)).mono (λk _ m=>m.elim (λe=>.inl (aJ e).symm) (λe=>by cases e));have cw:Y.ownBlock≠some sb:=by
   obtain e|e:=a0
   rw[e];exact V;intro e2;have:=e _ e2;have:=F.size;omega
  refine .inl ⟨Z ch,a1.setIfInBounds (d+2) (.int .i64 (min (2*wait) 32)),bt,Y,⟨heap_set B _,by simp[<-cj,a4],λi hi=>?_,?_,.inl Q,?_⟩,⟨?_,?_,?_,?_,?_,al.gb gs (.inr (by rw[Q];exact U)),ax.gb gs (.inr cw)⟩,Q⟩;rw[aW (by omega),I _ (by omega) (by omega),z _ (by omega)];refine((cv.trans C3).trans (ak.of gs)).mono (λk _ m=>?_);obtain(m|m)|m:=m
  exact m;exact m;exact .inl (aJ m).symm;exact a0.imp id (λe k hk=>by have:=e k hk;have:=F.size;omega);rw[aW (by omega),I _ (by omega) (by omega)];exact f.c0;rw[aW (by omega),I _ (by omega) (by omega)];exact f.c1;exact cB (by omega);rw[aW (by omega),C];exact cB (by simp;omega)
  ·rw[aW (by omega),C,aW (by omega)];exact cB cp)
 obtain⟨mw,K⟩:=exq (min (2*wait) 32);rw[<-K]at G;replace K:=J K;clear I C al ax C3 Q a0 bz bL;replace B:=J B;by_cases ee:32<2*wait
 ·obtain rfl:mw=32:=by rw[Z K];omega
  go_wp2_with fail;exact dP (dj rfl _ _ _) rfl ⟨rfl,Z G⟩
 obtain rfl:mw=2*wait:=by rw[Z K];omega
 go_wp2_with fail;exact dP (dj rfl _ _ _) rfl ⟨rfl,Z G⟩
def bw(l:List Rg)(n:Int):Bool:=l.any (λr=>decide (r.lo<=n)&&decide (n<=r.hi))
theorem FQ(l:List Rg)(n:Int):bw l n=true↔∃i,i<l.length/\(au l i).lo<=n/\n<=(au l i).hi:=by
 unfold bw;rw[oh];constructor;rintro⟨r,a,h⟩;obtain⟨i,hi,rfl⟩:=lL.1 a;refine⟨i,hi,?_⟩
 simpa [au,List.getD,hi]using h;rintro⟨i,hi,h⟩;exact⟨_,mm hi,by simpa using h⟩
theorem rh{e:Ending}(h:dw u e)(a:B=true↔u):e=.returned (.bool B):=by
 obtain⟨c,rfl,b⟩:=h;have:c=B:=by rw[Bool.eq_iff_iff,b,a]
 rw[this]
theorem FR(W:World)(c:Nat)(y:Rg)(n:Int)(h0:W.cell? ⟨c,0,none⟩=some (.int .u64 n)):
 Calls prog 301 #[.agg #[.int .u64 y.lo,.int .u64 y.hi],.pointer (some ⟨c,0,none⟩)] W λe i=>dw (y.lo<=n/\n<=y.hi) e/\W.grownBy i none:=by
 obtain⟨a,d⟩:=y;have j:c<W.heap.size:=dN W _ h0;obtain⟨R,b⟩:∃R:Prop,R=(a<=n/\n<=d):=⟨_,rfl⟩
 have g:((⟨a,d⟩:Rg).lo<=n/\n<=(⟨a,d⟩:Rg).hi)=R:=b.symm;rw[g];clear g;replace b:=J b;go_enter func301,ntmps301;by_cases f:a<=n
 ·have d1:decide (a<=n)=true:=bp f;go_wp2_with fail;go_ret;exact⟨mO (by rw[Z b];exact⟨λh=>⟨f,h⟩,λh=>h.2⟩),aC _ _ _⟩
 have d1:decide (a<=n)=false:=bB f;go_wp2_with fail;go_ret;exact⟨lu (by rw[Z b];exact λh=>by have:=h.1;omega),aC _ _ _⟩
theorem FU(a:Option Addr)(n cap:Nat)(l:List Rg)(num:Int)(w:World)(hs:ba w a n cap l):
 Calls prog 288 #[.slice a n cap,.int .u64 num] w λe u=>e=.returned (.bool (bw l num))/\w.grownBy u none:=by
 obtain⟨c,d⟩:=exq (w.alloc (.cells #[.int .u64 num] 30));have k:w.grownBy c none:=by rw[d];exact aC _ _ _
 have f:c.heap[w.heap.size]?=some (.cells #[.int .u64 num] 30 (0,0)):=by rw[d];exact aH _ _
 have v:c.cell? ⟨w.heap.size,0,none⟩=some (.int .u64 num):=by simp[World.cell?,f]
 have m:=hs.ah k;obtain⟨b,o,j⟩:∃b o,0<n->a=some ⟨b,o,none⟩:=by
  by_cases x:0<n;obtain⟨-,A,B,-,C|⟨b,o,rfl,-⟩⟩:=id hs;omega;exact⟨b,o,λ_=>rfl⟩
  exact⟨0,0,λh=>absurd h x⟩
 have p:n=l.length:=hs.2.1;have y:=J (FB a b o n cap 301 #[] #[.pointer (some ⟨w.heap.size,0,none⟩)] c (λi=>(au l i).lo<=num/\num<=(au l i).hi) (λi=>.int .u64 (au l i).lo) (λi=>.int .u64 (au l i).hi) j ⟨hs.2.2.1,hs.2.2.2.1⟩ (λ_ _=>by kernel_rfl)
  (λW i g hi=>by
    have q:=m.ah g;rw[j (by omega)]at q;exact q.cell i (by omega))
  (λW i g hi=>FR W w.heap.size (au l i) num (g.cell v (by simp))))
 have r:Hid (bw l num=true↔∃i,i<n/\(au l i).lo<=num/\num<=(au l i).hi):=J (by rw[p];exact FQ l num);obtain⟨nb,s⟩:=exq (bw l num);rw[<-s]at r⊢;clear s p hs m j;replace f:=J f;go_enter func288,ntmps288;go_wp2_with fail;rw[<-d];clear d;refine(Z y).mono ?_;rintro e D⟨t,z⟩;obtain rfl:=rh t (Z r);clear t;go_wp2_with fail;go_ret;exact⟨rfl,aj k z⟩
theorem zT(w:World)(B:Nat)(a:Option Addr)(n cap:Nat)(l:List Rg)(x:Kt)(h0:w.cell? ⟨B,0,none⟩=some (.slice a n cap))(hs:ba w a n cap l):
 Calls prog 287 #[.agg (kA x),.pointer (some ⟨B,0,none⟩)] w λe h=>e=.returned (.bool (bw l x.1.num))/\w.grownBy h none:=by
 obtain⟨⟨num,tk,st,ps⟩,i⟩:=x;unfold kA;simp only
 have k:B<w.heap.size:=dN w _ h0;obtain⟨c,b⟩:=exq (w.alloc (.cells #[.int .u64 num,.int .i64 tk,.int .i64 st,i] 325));have d:w.grownBy c none:=by rw[b];exact aC _ _ _
 have f:=J (FU a n cap l num c (hs.ah d));obtain⟨nb,g⟩:=exq (bw l num);rw[<-g]at f⊢;clear g;go_enter func287,ntmps287;go_wp2_with fail;rw[<-b];clear b;refine(Z f).mono ?_;rintro e m⟨rfl,j⟩;go_wp2_with fail;go_ret;exact⟨rfl,aj d j⟩
theorem FV(w:World)(B:Nat)(high:Int)(x:Kt)(h0:w.cell? ⟨B,0,none⟩=some (.int .u64 high))(b:0<=x.1.num/\x.1.num<=4611686018427387903):
 Calls prog 290 #[.agg (kA x),.pointer (some ⟨B,0,none⟩)] w λe a=>e=.returned (.bool (decide (x.1.num+3<=high)))/\w.grownBy a none:=by
 obtain⟨⟨num,tk,st,ps⟩,c⟩:=x;unfold kA;simp only at *;have d:B<w.heap.size:=dN w _ h0;have f:IntKind.u64.wrap (num+3)=num+3:=by rw[eH];omega
 go_enter func290,ntmps290;go_wp2_with fail;go_ret;exact⟨rfl,by repeat(first|exact av _ _|apply dh|apply aP|apply aS)⟩
def pA(p:Pc):Array Value:= #[.int .u64 p.x.lo,.int .u64 p.x.hi,.bool p.e,.bool p.g]
theorem FW(w:World)(sb n k r s:Nat)(Q lc:Array Value)(x:Kt)(q:Bool)(St:List (Int×Pc)->World->Prop)(l:List (Int×Pc))(pa:Option Addr)(c t:Nat)(S:x.2=.slice pa c t)(hp:jV w pa c t x.1.ps)(bj:∀y,pa=some y->y.block≠sb)(b8:sb<w.heap.size)
 (T:w.cell? ⟨n,0,none⟩=some (.func (.func r) #[] Q)) (U:w.cell? ⟨k,0,none⟩=some (.func (.func s) #[] lc)) (ca:n≠sb) (br:k≠sb)
 (en:∀args w,(callFunc r args).run prog w=.ok (.enter r args) w) (ec:∀args w,(callFunc s args).run prog w=.ok (.enter s args) w)
 (V:∀W,w.grownBy W none->Calls prog r (#[.agg (kA x)]++Q) W (λe h=>e=.returned (.bool q)/\W.grownBy h none))
 (u:∀(W h:World)(a:List (Int×Pc)),St a W->W.grownBy h none->St a h) (h0:St l w)
 (v:∀(W:World)(a:List (Int×Pc))(p:Pc),St a W->p∈x.1.ps->q=true->Calls prog s (#[.int .i64 x.1.st,.agg (pA p)]++lc) W (λe h=>e=.returned (.tuple #[])/\St (a++[(x.1.st,p)]) h/\W.grownBy h (some sb))):
 Calls prog 302 #[.agg (kA x),.pointer (some ⟨n,0,none⟩),.pointer (some ⟨k,0,none⟩)] w λe d=>e=.returned (.bool q)/\St (l++if q then x.1.ps.map (λp=>(x.1.st,p))else[]) d/\w.grownBy d (some sb):=by
 obtain⟨R,j⟩:∃R:Bool->World->Prop,R=λb d=>St (l++if b then x.1.ps.map (λp=>(x.1.st,p))else[]) d/\w.grownBy d (some sb):=⟨_,rfl⟩
 have X:(λ(e:Ending) d=>e=.returned (.bool q)/\St (l++if q then x.1.ps.map (λp=>(x.1.st,p))else[]) d/\w.grownBy d (some sb))=λe d=>e=.returned (.bool q)/\R q d:=by rw[j]
 rw[X];clear X;replace j:=J j;obtain⟨⟨num,tk,st,ps⟩,sv⟩:=x;simp only at S hp v j;subst S;unfold kA at *;simp only at *;have cg:n<w.heap.size:=dN w _ T;have ch:k<w.heap.size:=dN w _ U;obtain⟨K,z⟩:=exq (w.alloc (.cells #[.int .u64 num,.int .i64 tk,.int .i64 st,.slice pa c t] 325));have A:w.grownBy K none:=by rw[z];exact aC _ _ _
 have B:K.heap[w.heap.size]?=some (.cells #[.int .u64 num,.int .i64 tk,.int .i64 st,.slice pa c t] 325 (0,0)):=by rw[z];exact aH _ _
 obtain⟨b0,b1,b2,b3⟩:=lA B;have Y:=A.cell T (by simp);have m1:=A.cell U (by simp);have bz:=J (V K A);replace B:=J B;replace u:=J u;replace h0:=J h0;replace v:=J v;clear V;go_enter func302,ntmps302;go_upto_region 1 with fail;rw[<-z];clear z;go_wp2_with fail;refine(Z bz).mono ?_;rintro e L⟨rfl,C⟩;have D:=aj A C;have al:=J (Z u _ _ _ (Z h0) D);cases q
 ·have M:Hid (R false L):=J (by rw[Z j];exact⟨by simpa using Z al,cO D _⟩);go_wp2_with fail;go_ret;exact⟨rfl,Z M⟩
 have E:=bf (Z B) C;have cj:w.heap.size<L.heap.size:=(aO.1 E).1;obtain⟨d0,d1,d2,d3⟩:=lA E;have F:=hp.ah D;have n0:=C.cell Y (by simp);have n1:=C.cell m1 (by simp);have G:c=ps.length:=hp.2.1;have cp:=hp.2.2.1;have bM:=hp.2.2.2.1;unfold maxLen at bM;have bP:w.heap.size≠sb:=by omega
 replace E:=J E;replace G:=J G;clear b0 b1 b2 b3 Y m1 hp;replace F:=J F;go_wp2_with fail;go_loopw [14] (λN wr=>∃i:Nat,i<=c/\N=.int .i64 (i:Int)/\St (l++(ps.take i).map (λp=>(st,p))) wr/\L.grownBy wr (some sb)) (λN _=>c-(intOf N).toNat);case atStart=>exact⟨0,by omega,rfl,by simpa using Z al,av _ _⟩
 case round=>
  obtain⟨i,hi,rfl,m,f⟩:=hrel;by_cases cv:i<c
  ·have dl:decide ((i:Int)<(c:Int))=true:=bp (by omega);have i1:(i:Int)<(c:Int):=by omega
   have O:i<ps.length:=by have:=Z G;omega
   obtain⟨-,-,-,-,hz|⟨b,o,rfl,-⟩⟩:=id (Z F);omega;have H:b≠sb:=bj ⟨b,o,none⟩ rfl;obtain⟨y0,y1,y2,y3⟩:=(Z F).cell i O;have k0:=f.cell y0 (λe=>H (aJ e));have k1:=f.cell y1 (λe=>H (aJ e));have k2:=f.cell y2 (λe=>H (aJ e));have k3:=f.cell y3 (λe=>H (aJ e));have e2:=f.cell d2 (λe=>bP (aJ e));have e1:=f.cell n1 (λe=>br (aJ e));have cy:=f.size;have cR:k<wr.heap.size:=by omega
   have c9:w.heap.size<wr.heap.size:=by omega
   have a9:Hid ((ps.take (i+1)).map (λp=>(st,p))=(ps.take i).map (λp=>(st,p))++[(st,eT ps i)]):=J (by rw[nr,uz O];simp);have I:=J (λW(g:wr.grownBy W none)=>Z v W _ (eT ps i) (Z u _ _ _ m g) (uA O) (by trivial));obtain⟨p,bb⟩:=exq (eT ps i);rw[<-bb]at k0 k1 k2 k3 I a9;clear bb;obtain⟨⟨xl,xh⟩,pe,pg⟩:=p;simp only at k0 k1 k2 k3;unfold pA at I;simp only at I;clear y0 y1 y2 y3;replace m:=J m;have gx:=aC wr (.cells #[.int .u64 xl,.int .u64 xh,.bool pe,.bool pg] 377) none;have b5:=J (Z I _ gx);go_wp2_with fail;refine(Z b5).mono ?_;rintro e w4⟨rfl,P,g4⟩;replace P:=J P;have b7:=aj f (aj (cO gx _) g4);go_wp2_with fail;go_roundw;case measure=>simp[intOf];omega
   case rel=>exact⟨i+1,by omega,by simp,by rw[Z a9,<-eA];exact Z P,b7⟩
  have dl:decide ((i:Int)<(c:Int))=false:=bB (by omega);obtain rfl:i=c:=by omega
  have M:Hid (R true wr):=J (by
   rw[Z j];rw[Z G,lh]at m;exact⟨by simpa using m,aj (cO D _) f⟩)
  go_wp2_with fail;go_ret;exact⟨rfl,Z M⟩
