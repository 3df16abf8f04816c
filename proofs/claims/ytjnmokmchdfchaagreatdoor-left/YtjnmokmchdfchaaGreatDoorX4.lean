import Derived.Test.YtjnmokmchdfchaaGreatDoorX3
set_option maxRecDepth 1000000
set_option maxHeartbeats 0
set_option linter.all false
namespace Go.Proofs.YtjnmokmchdfchaaGreatDoor
open Go.RowKit Tryz
attribute[local go_sem↓]Go.wp_at_zero Go.wp_at_succ
variable{F:Act}{C c:Array Value}{B:Bool}{H:Exit->Act->World->Prop}{p q r:Int}{E:It}{L:List Int}{D:List Rg}{b i j k l m n o:Nat}{S:Nat->Prop}{u:Oper}{O:Option Addr}{N:Option Nat}{f:Ot}{T:TypeId}{x y z:Value}{V W v w:World}
def H9:(prog.info? 325).map (λi=>(i.zero,i.size,i.bytes))=some (some (.agg #[.int .u64 0,.int .i64 0,.int .i64 0,.slice none 0 0]),4,48):=by kernel_rfl
def Ia(ty:TypeId)(e:Nat)(v:Value)(l:List Kt)(s:cf w e v l)(b c:Nat)(x:Kt)(t:∃a n c,x.2=.slice a n c)(h0:w.rangeAt b 0 (kD x))(H:l.length<=100000000)(y:e<=w.heap.size):
 ∃f h i d,(Builtin.append_ #[222,222] ty #[v,.slice (some ⟨b,0,none⟩) 1 c]).run prog w=.ok (.slice f h i) d/\cf d e (.slice f h i) (l++[x])/\w.grownBy d v.ownBlock/\((Value.slice f h i).ownBlock=v.ownBlock\/(Value.slice f h i).ownBlock=some w.heap.size):=by
 obtain⟨z,hi,A,B,C⟩:=lD H9;obtain⟨I,K,xc,D⟩:=t;obtain⟨E,d,m,F,p,_,q⟩:=run_append_own_at (P:=prog) w e 222 ty 325 z _ 4 48 underlying222 hi A B C rfl (by decide) v l.length (iU l) s ⟨b,0,none⟩ 1 c (iU [x]) (by simp[iU,kD]) (by
  intro j u G;rw[Addr.add_mid];exact h0 j u (by simpa [iU]using G)) (by
  intro u r;simp[iU,kD,D]at r;obtain rfl|rfl|rfl|rfl:=r<;>rfl) (by simp[maxLen];omega) (by omega) y
 have k:cf d e E (l++[x]):=by
  unfold cf;rw[bH,show iU (l++[x])=iU l++iU [x] by simp[iU]];exact F
 obtain⟨-,⟨rfl,e2⟩|⟨g,cap,L,rfl,_⟩⟩:=id k;exact⟨_,_,_,d,m,k,p,q⟩
 exact⟨_,_,_,d,m,k,p,q⟩
def Bv{j:Array Oper}{K:Act->World->Prop}{E:Prop}(k:u.guard=none)(s x:Operand)
 (ho:u.op=.call {callee:=.builtin .append,args:= #[s,x],argTypes:= #[222,222]})
 (g:Nat) (v:Value) (l:List Kt) (hs:F.eval s=v) (m:cf w g v l) (b c:Nat) (i:Kt) (p:∃F n c,i.2=.slice F n c) (q:F.eval x=.slice (some ⟨b,0,none⟩) 1 c) (h0:w.rangeAt b 0 (kD i)) (r:l.length<=100000000) (t:g<=w.heap.size)
 (h:∀a d e f,cf f g (.slice a d e) (l++[i])->w.grownBy f v.ownBlock->((Value.slice a d e).ownBlock=v.ownBlock\/(Value.slice a d e).ownBlock=some w.heap.size)->
   K (F.put u.dst (.slice a d e)) f):if Region.wanted u (yielded j F.tmps)=true then Oper.wp prog u F w K H else E:=by
 have y:Region.wanted u (yielded j F.tmps)=true:=by simp[Region.wanted,k]
 rw[aD y];obtain⟨a,d,e,f,z,A,B,C⟩:=Ia (w:=w) u.type g v l m b c i p h0 r t;unfold Oper.wp execOp;simp only[ho,resolve,invoke,builtin,je,mr,jd,nU,ky,mZ,hs,q,z]
 exact h a d e f A B C
structure iI(w:World)(b:Nat)(cs:Array Value)(a:Nat)(c d:Value)(lf ll:List Kt)(count tick wait:Int):Prop where
 c0:cs[a]?=some (.int .u64 count)
 c1:cs[a+1]?=some (.int .i64 tick)
 c2:cs[a+2]?=some (.int .i64 wait)
 c3:cs[a+3]?=some c
 c4:cs[a+4]?=some d
 of:cf w b c lf
 ol:cf w b d ll
def Ib(w:World)(sb b c:Nat)(v:Value)(lf:List Kt)(c3:w.cell? ⟨sb,b+3,none⟩=some v)(of:cf w c v lf):Calls prog 208 #[.pointer (some ⟨sb,b,none⟩)] w λr d=>r=.returned (.bool (decide (10<=(lf.length:Int))))/\d=w:=by
 obtain⟨a,cap,rfl,-⟩:=of.gK;go_enter func208,ntmps208;go_wp2;go_ret;exact⟨rfl,rfl⟩
def Bw(w:World)(sb a:Nat)(cs:Array Value)(t:TypeId)(count:Int)(b:w.heap[sb]?=some (.cells cs t (0,0)))(c0:cs[a]?=some (.int .u64 count))(d:0<=count/\count<=4611686018427387903):Calls prog 205 #[.pointer (some ⟨sb,a,none⟩)] w λr c=>r=.returned (.int .u64 count)/\w.grownBy c (some sb)/\c.heap[sb]?=some (.cells (cs.setIfInBounds a (.int .u64 (count+1))) t (0,0)):=by
 have d0:=(ba b a).trans c0;have f0:w.frozen? ⟨sb,a,none⟩=false:=fZ_ b;have e:IntKind.u64.wrap (count+1)=count+1:=by rw[fD];omega
 have f:IntKind.u64.wrap (count+1-1)=count:=by rw[fD];omega
 go_enter func205,ntmps205;go_wp2;go_ret;refine⟨?_,aK (aB _ _) _ _ (.inr rfl),heap_set b _⟩
 congr 2
def Ic(w:World)(sb b:Nat)(tick wait:Int)(c1:w.cell? ⟨sb,b+1,none⟩=some (.int .i64 tick))(c2:w.cell? ⟨sb,b+2,none⟩=some (.int .i64 wait))(x:Kt)(h:0<=tick/\tick<=1000000000000)(i:0<=x.1.tick/\x.1.tick<=1000000000000):
 Calls prog 198 #[.pointer (some ⟨sb,b,none⟩),.agg (kA x)] w λr g=>r=.returned (.bool (decide (wait<=tick-x.1.tick)))/\w.grownBy g none:=by
 obtain⟨⟨num,tk,st,ps⟩,e⟩:=x;unfold kA at *;simp only at *;obtain⟨f,a⟩:=exq (w.alloc (.cells #[.int .u64 num,.int .i64 tk,.int .i64 st,e] 325));have c:w.grownBy f none:=by rw[a];exact aH _ _ _
 have d:f.heap[w.heap.size]?=some (.cells #[.int .u64 num,.int .i64 tk,.int .i64 st,e] 325 (0,0)):=by rw[a];exact aO _ _
 obtain⟨-,j,-,-⟩:=l7 d;have d1:=gC_ c c1;have d2:=gC_ c c2;have k:IntKind.i64.wrap (tick-tk)=tick-tk:=wI_;replace d:=J d;go_enter func198,ntmps198;go_wp2_with fail;rw[<-a];clear a;go_quiet (fail);go_wp2;go_ret;exact⟨rfl,dy c _⟩
def Ie(w:World)(x:Kt):Calls prog 200 #[.agg (kA x)] w λr a=>r=.returned (.bool true)/\w.grownBy a none:=by
 unfold kA;go_enter func200,ntmps200;go_wp2;go_ret;exact⟨rfl,by repeat(first|exact aB _ _|apply dy|apply aV|apply aY)⟩
def cf.gb{l:List Kt}(h:cf w n x l)(g:w.grownBy W N)(a:x.ownBlock=none\/x.ownBlock≠N:=by simp):cf W n x l:=World.ownsRow.kept h g a
def cf.an{l:List Kt}(h:cf w n x l)(g:w.grownBy W none):cf W n x l:=h.gb g (by cases x.ownBlock<;>simp)
def Ig(w:World)(sb c l:Nat)(cs:Array Value)(t:TypeId)(n N:Value)(lf ll:List Kt)(count tick wait:Int)(G:w.heap[sb]?=some (.cells cs t (0,0)))(H:iI w l cs c n N lf ll count tick wait)(Y:l<=w.heap.size)(z:n.ownBlock≠some sb)(O:0<=count/\count<=4611686018427387903)(al:lf.length<=1000000)(k:Int)(pa:Option Addr)(d f:Nat)(ps:List Pc):
 Calls prog 210 #[.pointer (some ⟨sb,c,none⟩),.int .i64 k,.slice pa d f] w λr A=>r=.returned (.int .u64 count)/\∃p,A.heap[sb]?=some (.cells ((cs.setIfInBounds c (.int .u64 (count+1))).setIfInBounds (c+3) p) t (0,0))/\cf A l p (lf++[(⟨count,tick,k,ps⟩,.slice pa d f)])/\ao w A (λi=>i=sb\/n.ownBlock=some i)/\(p.ownBlock=n.ownBlock\/∀i,p.ownBlock=some i->w.heap.size<=i):=by
 obtain⟨c0,c1,c2,c3,c4,of,ol⟩:=H;have P:=J (Bw w sb c cs t count G c0 O);have ax:sb<w.heap.size:=(aZ.1 G).1;obtain⟨B,C,rfl,aC,a0⟩:=of.gK;go_enter func210,ntmps210;go_wp2_with fail;apply(Z P).mono;rintro e b⟨rfl,D,h⟩;have d1:b.cell? ⟨sb,c+1,none⟩=some (.int .i64 tick):=by rw[ba h,aN_];exact c1
 have d3:b.cell? ⟨sb,c+3,none⟩=some (.slice B lf.length C):=by rw[ba h,aN_];exact c3
 have f3:b.frozen? ⟨sb,c+3,none⟩=false:=fZ_ h;have Q:cf b l (.slice B lf.length C) lf:=of.gb D (.inr z);have a1:=D.size;obtain⟨I,j⟩:=exq ((b.alloc (.cells #[.int .u64 count,.int .i64 tick,.int .i64 k,.slice pa d f] 325)).drew);have q:b.grownBy I none:=by rw[j];exact aV (aH _ _ _)
 have E:I.heap[b.heap.size]?=some (.cells #[.int .u64 count,.int .i64 tick,.int .i64 k,.slice pa d f] 325 (0,0)):=by rw[j];exact aO b _
 have K:=J (kz (cs:=kD (⟨count,tick,k,ps⟩,.slice pa d f)) E);have L:=J (Q.an q);have s:=bB h q;have R:=q.size;rw[j]at K L s;have S:l<=(b.alloc (.cells #[.int .u64 count,.int .i64 tick,.int .i64 k,.slice pa d f] 325)).drew.heap.size:=by rw[<-j];omega
 have T:sb<(b.alloc (.cells #[.int .u64 count,.int .i64 tick,.int .i64 k,.slice pa d f] 325)).drew.heap.size:=by rw[<-j];omega
 replace⟨E,h,s⟩:=cg E h s;have U:=J d3;have M:Hid (b.heap.size<=(b.alloc (.cells #[.int .u64 count,.int .i64 tick,.int .i64 k,.slice pa d f] 325)).drew.heap.size):=J (by rw[<-j];omega);clear q j R;have a2:sb<b.heap.size:=by omega
 go_wp2_with fail;go_region_law ((refine Bv (by rfl) _ _ (by rfl) l _ lf (by rfl) (Z L) _ _ (⟨count,tick,k,ps⟩,.slice pa d f) ⟨_,_,_,rfl⟩ (by rfl) (Z K) (by omega) S ?_;intro a7 u c7 v F x y;replace F:=J F;replace y:=J y;have m:=(x.block sb T (λe=>z e.symm)).trans (Z s);have a3:v.cell? ⟨sb,c+3,none⟩=some (.slice B lf.length C):=((jX (w:=b) (a:=⟨sb,c+3,none⟩) (m.trans (Z h).symm)).trans (Z U));have f7:v.frozen? ⟨sb,c+3,none⟩=false:=(by simp[World.frozen?,m]);replace m:=J m;replace x:=J x));all_goals go_wp2_with fail
 all_goals
  go_ret
  have V:(Value.slice a7 u c7).ownBlock≠some sb:=by
   obtain e|e:=Z y
   rw[e];exact z;rw[e];intro e2;have W:=aQ e2;have:=Z M;omega
  refine⟨rfl,.slice a7 u c7,heap_set (Z m) _,(Z F).gb (aK (aB v (some sb)) ⟨sb,c+3,none⟩ (.slice a7 u c7) (.inr rfl)) (.inr V),?_,?_⟩
  have X:ao b (b.alloc (.cells #[.int .u64 count,.int .i64 tick,.int .i64 k,.slice pa d f] 325)).drew (λ_=>False):=(ao.of (aV (aH b _ none))).mono (λk _ e=>by cases e)
  refine((((ao.of D).trans X).trans (ao.of (Z x))).trans (ao.of (aK (aB v (some sb)) ⟨sb,c+3,none⟩ (.slice a7 u c7) (.inr rfl)))).mono (λi _ g=>?_)
  obtain((g|g)|g)|g:=g
  exact .inl (aQ g).symm
  exact g.elim
  exact .inr g
  exact .inl (aQ g).symm
  obtain e|e:=Z y
  exact .inl e
  refine .inr (λi hi=>?_)
  rw[e]at hi
  have W:=aQ hi
  have:=Z M
  omega
def yD(a:Option Addr)(cap b:Nat)(lb:Array Value)(w:World)(c:cap<=maxLen)(d:∀args w,(callFunc b args).run prog w=.ok (.enter b args) w):
 Calls prog 236 #[.slice a 0 cap,.func (.func b) #[] lb] w λe f=>e=.returned (.slice a 0 cap)/\f=w:=by
 have g:=J (yA a 0 0 0 cap b #[] lb w (λ_=>False) (λ_=>undef) (λ_=>undef) (λ_=>undef) (λ_=>undef) (λ_ W=>W=w) (λh=>by omega) ⟨by omega,c⟩ d rfl (λW h _ i=>by omega) (λW h _ i=>by omega));go_enter func236,ntmps236;go_wp2_with fail;apply(Z g).mono;rintro e j(⟨k,l,-⟩|⟨rfl,-,rfl⟩);omega;go_wp2_with fail;go_ret;exact⟨rfl,rfl⟩
def FT(sb:Nat)(a b:Value)(k:Nat):Prop:=k=sb\/a.ownBlock=some k\/b.ownBlock=some k
def cf.mid{l:List Kt}(h:cf w k (.slice (some ⟨i,0,none⟩) n j) l):k<=i/\∃a,jl w i j l [] 0 a:=by
 obtain⟨g,⟨c,h0⟩|⟨m,p,a,e1,e2,d,q,r,e,f⟩⟩:=h;cases c;cases e1;refine⟨e2,a,d,e,aR _,λx b=>by simp at b,λx _ b=>?_⟩
 rw[<-f,jI,aD b,qq]
def Ih(l:List Kt)(Q:Kt->Bool)(j:Nat)(a:j<l.length):(l.take (j+1)).filter Q=(l.take j).filter Q++(if Q (bK l j)then[bK l j]else[]):=by
 rw[qW,oa a,Option.toList_some,List.filter_append];cases h:Q (bK l j)<;>simp[h]
structure od(w:World)(sb e b:Nat)(cs:Array Value)(t:TypeId)(c d:Value)(lf f:List Kt)(a:Value)(W:World):Prop where
 aP:W.heap[sb]?=some (.cells (cs.setIfInBounds (e+4) a) t (0,0))
 of:cf W b c lf
 ol:cf W b a f
 av:ao w W (FT sb c d)
 new:a.ownBlock=d.ownBlock\/∀k,a.ownBlock=some k->w.heap.size<=k
def od.gb{lf a:List Kt}(h:od w n k i c T x y lf a z W)(g:W.grownBy v none):od w n k i c T x y lf a z v:=
 ⟨bB h.aP g,h.of.an g,h.ol.an g,h.av.grow g,h.new⟩
def od.apart{lf a:List Kt}(h:od w n i j c T x y lf a z W)(l:n<w.heap.size)(b:y.ownBlock≠some n)(d:∀k,x.ownBlock=some k->y.ownBlock≠some k)(f:∀k,x.ownBlock=some k->k<w.heap.size):z.ownBlock≠some n/\∀k,x.ownBlock=some k->z.ownBlock≠some k:=by
 obtain e|e:=h.new
 rw[e];exact⟨b,d⟩
 exact⟨λe2=>by have:=e _ e2;omega,λk g e2=>by have:=e _ e2;have:=f k g;omega⟩
def od.app{lf t p:List Kt}{b:Value}(h:od w n i j c T x y lf t z W)(g:W.grownBy v none)(u:cf V j b p)(f:v.grownBy V z.ownBlock)(q:b.ownBlock=z.ownBlock\/b.ownBlock=some v.heap.size)(r:n<w.heap.size)(A:y.ownBlock≠some n)(B:x.ownBlock≠some n)(C:∀k,x.ownBlock=some k->y.ownBlock≠some k)(D:∀k,x.ownBlock=some k->k<w.heap.size):od w n i j c T x y lf p b (V.setCell ⟨n,i+4,none⟩ b):=by
 have d:=h.gb g;obtain⟨s,E⟩:=h.apart r A C D;have F:n<v.heap.size:=bX r d.av.size;have G:V.heap[n]?=some (.cells (c.setIfInBounds (i+4) z) T (0,0)):=(f.block n F (λe=>s e.symm)).trans d.aP;have l:=aK (aB V (some n)) ⟨n,i+4,none⟩ b (.inr rfl);have H:b.ownBlock≠some n:=by
  obtain e|e:=q
  rw[e];exact s;rw[e];intro e2;have:=aQ e2;omega
 refine⟨by rw[heap_set G];simp,?_,u.gb l (.inr H),?_,?_⟩
 have I:cf V j x lf:=d.of.gb f (by
  cases K:x.ownBlock with
  |none=>exact .inl rfl
  |some k=>exact .inr (λe=>E k K e.symm))
 exact I.gb l (.inr B);refine((d.av.trans (ao.of f)).trans (ao.of l)).mono (λk m a=>?_);obtain(a|a)|a:=a
 exact a;obtain e|e:=h.new
 exact .inr (.inr (e▸a));have:=e k a;omega;exact .inl (aQ a).symm;obtain e|e:=q
 rw[e];exact h.new;exact .inr (λk m=>by rw[e]at m;have:=aQ m;have:=d.av.size;omega)
def By(w:World)(sb f m N:Nat)(lb:Array Value)(cs:Array Value)(t:TypeId)(y p:Value)(lf ll:List Kt)(count tick wait:Int)(Q:Kt->Bool)(U:w.heap[sb]?=some (.cells cs t (0,0)))(H:iI w m cs f y p lf ll count tick wait)(ee:m<=w.heap.size)(V:y.ownBlock≠some sb)(a9:p.ownBlock≠some sb)(ax:∀k,y.ownBlock=some k->p.ownBlock≠some k)(ei:lf.length<=1000000/\ll.length<=50000000)(jk:∀x∈lf,∃a n c,x.2=.slice a n c)
 (eg:∀args w,(callFunc N args).run prog w=.ok (.enter N args) w)
 (X:∀(W:World)(h:Nat),ao w W (FT sb y p)->h<lf.length->Calls prog N (#[.agg (kA (bK lf h))]++lb) W (λe W'=>e=.returned (.bool (Q (bK lf h)))/\W.grownBy W' none)):
 Calls prog 199 #[.pointer (some ⟨sb,f,none⟩),.func (.func N) #[] lb] w λr q=>r=.returned (.tuple #[])/\∃z d,q.heap[sb]?=some (.cells ((cs.setIfInBounds (f+4) d).setIfInBounds (f+3) z) t (0,0))/\cf q m z (lf.filter (λx=> !Q x))/\cf q m d (ll++lf.filter Q)/\ao w q (FT sb y p)/\z.ownBlock=y.ownBlock/\(d.ownBlock=p.ownBlock\/∀k,d.ownBlock=some k->w.heap.size<=k):=by
 obtain⟨R,O⟩:=exq (λq:World=>∃z d,q.heap[sb]?=some (.cells ((cs.setIfInBounds (f+4) d).setIfInBounds (f+3) z) t (0,0))/\cf q m z (lf.filter (λx=> !Q x))/\cf q m d (ll++lf.filter Q)/\ao w q (FT sb y p)/\z.ownBlock=y.ownBlock/\(d.ownBlock=p.ownBlock\/∀k,d.ownBlock=some k->w.heap.size<=k));have bz:(λr q=>r=Ending.returned (.tuple #[])/\∃z d,q.heap[sb]?=some (.cells ((cs.setIfInBounds (f+4) d).setIfInBounds (f+3) z) t (0,0))/\cf q m z (lf.filter (λx=> !Q x))/\cf q m d (ll++lf.filter Q)/\ao w q (FT sb y p)/\z.ownBlock=y.ownBlock/\(d.ownBlock=p.ownBlock\/∀k,d.ownBlock=some k->w.heap.size<=k))=λr q=>r=Ending.returned (.tuple #[])/\R q:=by rw[O]
 rw[bz];clear bz;replace O:=J O;obtain⟨c0,c1,c2,c3,c4,of,ol⟩:=H;have bb:sb<w.heap.size:=(aZ.1 U).1;have d3:=(ba U _).trans c3;have aC:od w sb f m cs t y p lf (ll++(lf.take 0).filter Q) p w:=⟨by rw[tW c4];exact U,of,by simpa using ol,ao.rfl' _ _,.inl rfl⟩
 obtain⟨G,l,rfl,db,de⟩:=of.gK;unfold maxLen at de;replace⟨aC,X,U⟩:=cg aC X U;have ej:=gZ c3;have bM:=gZ c4;obtain⟨n,B⟩:=exq lf.length;rw[<-B]at d3 aC X db ax V of O;replace B:=J B;clear c0 c1 c2;go_enter func199,ntmps199;go_wp2;go_loopw [11] (λjv wr=>∃(j:Nat)(d:Value),j<=n/\jv=.int .i64 j/\od w sb f m cs t (.slice G n l) p lf (ll++(lf.take j).filter Q) d wr) (λjv _=>n-(intOf jv).toNat);case atStart=>exact⟨0,p,by omega,rfl,Z aC⟩
 case round=>
  obtain⟨j,d,hj,rfl,b⟩:=hrel;by_cases dg:j<n
  ·have d1:decide ((j:Int)<n)=true:=dT_;have i1:(j:Int)<n:=by omega
   have bj:j<lf.length:=by have:=Z B;omega
   obtain⟨g,rfl,b4⟩:=b.of.cell (by omega);obtain⟨y0,y1,y2,y3⟩:=b4 j bj;clear b4;rw[dY]at y0 y1 y2 y3;obtain⟨pa,D,E,br⟩:=jk _ (oR bj);have Y:Hid (ll++(lf.take (j+1)).filter Q=(ll++(lf.take j).filter Q)++(if Q (bK lf j)then[bK lf j]else[])):=J (by rw[Ih lf Q j bj,fC]);have hF:=J (λW(g1:wr.grownBy W none)=>Z X W j (b.av.grow g1) dg);have b5:Hid ((ll++(lf.take j).filter Q).length<=60000000):=J (by
    have F:=nP Q (lf.take j);rw[ct]at F;rw[bH];omega)
   obtain⟨kt,b6⟩:=exq (bK lf j);obtain⟨qj,b7⟩:=exq (Q (bK lf j));rw[<-b7]at hF Y;rw[<-b6]at y0 y1 y2 y3 hF br Y;clear b6 b7;obtain⟨lj,b8⟩:=exq (ll++(lf.take j).filter Q);rw[<-b8]at b b5 Y;clear b8;obtain⟨⟨num,tk,st,ps⟩,sv⟩:=kt;simp only at y0 y1 y2 y3 br;subst br;unfold kA at hF;simp only at hF;obtain⟨W3,a0⟩:=exq (wr.alloc (.cells #[.int .u64 num,.int .i64 tk,.int .i64 st,.slice pa D E] 325));have g3:wr.grownBy W3 none:=by rw[a0];exact aH _ _ _
   have a1:W3.heap[wr.heap.size]?=some (.cells #[.int .u64 num,.int .i64 tk,.int .i64 st,.slice pa D E] 325 (0,0)):=by rw[a0];exact aO _ _
   obtain⟨b0,b1,b2,b3⟩:=l7 a1;have ca:=J (Z hF W3 g3);replace a1:=J a1;clear hF;go_wp2_with fail;rw[<-a0];clear a0;go_wp2_with fail;apply(Z ca).mono;rintro e C⟨rfl,g4⟩;have dk:=aq g3 g4;have s:=b.gb dk;have a2:=bB (Z a1) g4;clear y0 y1 y2 y3 b0 b1 b2 b3 ca;cases qj
   ·have I:=Z Y;simp only[gI,gm,oL]at I;replace⟨I,s,b⟩:=cg I s b;go_wp2;go_roundw;case measure=>simp[intOf];omega
    case rel=>exact⟨j+1,d,by omega,by simp,by rw[Z I];exact Z s⟩
   obtain⟨b0,b1,b2,b3⟩:=l7 a2;have a3:∀k,(Value.slice (some ⟨g,0,none⟩) n l).ownBlock=some k->k<w.heap.size:=λk hk=>(of.lt k hk).2
   obtain⟨la,ek,dn,-⟩:=s.ol.gK;have eo:w.heap.size<=C.heap.size:=s.av.size;have ew:sb<C.heap.size:=by omega
   have ey:wr.heap.size<C.heap.size:=(aZ.1 a2).1;obtain⟨K,a4⟩:=exq ((C.alloc (.cells #[.int .u64 num,.int .i64 tk,.int .i64 st,.slice pa D E] 325)).drew);have P:C.grownBy K none:=by rw[a4];exact aV (aH _ _ _)
   have S:K.heap[C.heap.size]?=some (.cells #[.int .u64 num,.int .i64 tk,.int .i64 st,.slice pa D E] 325 (0,0)):=by rw[a4];exact aO C _
   have ch:=J (kz (cs:=kD (⟨num,tk,st,ps⟩,.slice pa D E)) S);have o5:=J (s.ol.an P);have cj:m<=K.heap.size:=by have:=P.size;omega
   have cp:sb<K.heap.size:=by have:=P.size;omega
   have e4:C.cell? ⟨sb,f+4,none⟩=some d:=by rw[ba s.aP];exact cG bM
   have f4:C.frozen? ⟨sb,f+4,none⟩=false:=by simp[World.frozen?,s.aP]
   have cv:=J (bB s.aP P);have al:=s.apart bb a9 ax a3;have cw:Hid (∀(u:World)(T:Value),cf u m T (lj++[(⟨num,tk,st,ps⟩,.slice pa D E)])->K.grownBy u d.ownBlock->(T.ownBlock=d.ownBlock\/T.ownBlock=some K.heap.size)->od w sb f m cs t (.slice (some ⟨g,0,none⟩) n l) p lf (lj++[(⟨num,tk,st,ps⟩,.slice pa D E)]) T (u.setCell ⟨sb,f+4,none⟩ T)):=J (λu T F A h3=>s.app P F A h3 bb a9 V ax a3);have cx:Hid (∀u,K.grownBy u d.ownBlock->u.cell? ⟨sb,f+4,none⟩=some d/\u.frozen? ⟨sb,f+4,none⟩=false):=J (λu g7=>by
    have cy:=(g7.block sb cp (λe=>al.1 e.symm)).trans (Z cv);exact⟨by rw[ba cy];exact cG bM,by simp[World.frozen?,cy]⟩)
   subst dn;rw[a4]at ch o5 cj cw cx;clear a4 P S cp cv;replace⟨s,b,a2⟩:=cg s b a2;go_upto_region 4 with fail;go_region_law ((refine Bv (by rfl) _ _ (by rfl) m _ lj (by rfl) (Z o5) _ _ (⟨num,tk,st,ps⟩,.slice pa D E) ⟨_,_,_,rfl⟩ (by rfl) (Z ch) (by have:=Z b5;omega) cj ?_;intro a7 n7 c7 u o7 g7 h7;have ds:=J (Z cw u _ o7 g7 h7);obtain⟨z7,y7⟩:=Z cx u g7;clear o7 g7 h7));all_goals
    go_wp2_with fail
    have I:=Z Y
    simp only[fu]at I
    exact⟨⟨j+1,_,by omega,by simp,by rw[I];exact Z ds⟩,by simp[intOf];omega⟩
  have d1:decide ((j:Int)<n)=false:=dF_;obtain rfl:j=n:=by omega
  have cA:lf.take j=lf:=by rw[Z B,oK]
  rw[cA]at b;have a3:∀k,(Value.slice G j l).ownBlock=some k->k<w.heap.size:=λk hk=>(of.lt k hk).2
  have al:=b.apart bb a9 ax a3;have e3:wr.cell? ⟨sb,f+3,none⟩=some (.slice G j l):=by
   rw[ba b.aP,aN_,Z B];exact c3
  have f3:wr.frozen? ⟨sb,f+3,none⟩=false:=by simp[World.frozen?,b.aP]
  have ez:w.heap.size<=wr.heap.size:=b.av.size;by_cases hz:j=0
  ·subst hz;have du:lf=[]:=nM (Z B).symm;have hD:=J (yD G l N lb wr (by unfold maxLen;omega) eg);have a8:Hid (R (wr.setCell ⟨sb,f+3,none⟩ (.slice G 0 l))):=J (by
    rw[Z O];have L:=aK (aB wr (some sb)) ⟨sb,f+3,none⟩ (.slice G 0 l) (.inr rfl);refine⟨.slice G 0 l,d,heap_set b.aP _,?_,b.ol.gb L (.inr al.1),(b.av.trans (ao.of L)).mono (λk _ M=>M.elim id (λe=>.inl (aQ e).symm)),rfl,b.new⟩
    have F:=b.of.gb L (.inr V);rw[du]at F⊢;exact F)
   replace b:=J b;go_wp2_with fail;apply(Z hD).mono;rintro e v⟨rfl,rfl⟩;go_wp2_with fail;exact fm (eF rfl _ _ _) rfl ⟨rfl,Z a8⟩
  obtain⟨g,rfl,-⟩:=b.of.cell (by omega);obtain⟨dx,dE,bt⟩:=b.of.mid;have cB:sb≠g:=λe=>V (by rw[e];rfl)
  have dG:d.ownBlock≠some g:=al.2 g rfl;have ea:j<=l/\l<=maxLen:=⟨by omega,by unfold maxLen;omega⟩
  have hD:=J (yC g j l m N sb lb lf wr (λh=>Q (bK lf h)) (λ_ W=>W.heap[sb]?=wr.heap[sb]? /\cf W m d (ll++lf.filter Q)/\ao w W (FT sb (.slice (some ⟨g,0,none⟩) j l) p)/\wr.heap.size<=W.heap.size) dE dx (Z B) ea jk bt (by omega) cB eg ⟨rfl,b.ol,b.av,aR _⟩
   (λW W' h hi gg=>⟨(gg.block sb (by omega) (λe=>cB (aQ e))).trans hi.1,hi.2.1.gb gg (.inr dG),(hi.2.2.1.trans (ao.of gg)).mono (λk _ M=>M.elim id (λe=>.inr (.inl e))),bD hi.2.2.2 gg.size⟩)
   (λW h hi M=>(Z X W h hi.2.2.1 M).mono (λe W' A=>⟨A.1,⟨(A.2.block sb (by omega) (by simp)).trans hi.1,hi.2.1.an A.2,hi.2.2.1.grow A.2,bD hi.2.2.2 A.2.size⟩,dd A.2 _⟩)))
  have cC:kp lf (λh=>Q (bK lf h)) j=lf.filter (λx=> !Q x):=by
   rw[yB lf _ Q (λi _=>rfl) j (by have:=Z B;omega),cA]
  rw[cC]at hD;have a8:Hid (∀v,cf v m (.slice (some ⟨g,0,none⟩) (lf.filter (λx=> !Q x)).length l) (lf.filter (λx=> !Q x))->v.heap[sb]?=wr.heap[sb]? ->cf v m d (ll++lf.filter Q)->ao w v (FT sb (.slice (some ⟨g,0,none⟩) j l) p)->R (v.setCell ⟨sb,f+3,none⟩ (.slice (some ⟨g,0,none⟩) (lf.filter (λx=> !Q x)).length l))/\v.cell? ⟨sb,f+3,none⟩=some (.slice (some ⟨g,0,none⟩) j l)/\v.frozen? ⟨sb,f+3,none⟩=false):=J (λv F A h3 h4=>by
   have S:=A.trans b.aP;have L:=aK (aB v (some sb)) ⟨sb,f+3,none⟩ (.slice (some ⟨g,0,none⟩) (lf.filter (λx=> !Q x)).length l) (.inr rfl);refine⟨?_,by rw[ba S,<-ba b.aP];exact e3,by simp[World.frozen?,S]⟩
   rw[Z O];exact⟨.slice (some ⟨g,0,none⟩) (lf.filter (λx=> !Q x)).length l,d,heap_set S _,F.gb L (.inr V),h3.gb L (.inr al.1),(h4.trans (ao.of L)).mono (λk _ M=>M.elim id (λe=>.inl (aQ e).symm)),rfl,b.new⟩)
  replace⟨b,bt⟩:=bA b bt;obtain⟨lk,c9⟩:=exq (lf.filter (λx=> !Q x));rw[<-c9]at hD a8;clear cC c9;go_wp2_with fail;apply(Z hD).mono;rintro e v⟨rfl,o5,h5,l5,C5,-⟩;obtain⟨bx,e5,f5⟩:=Z a8 v o5 h5 l5 C5;replace bx:=J bx;clear o5 h5 l5 C5;go_wp2_with fail;exact fm (eF rfl _ _ _) rfl ⟨rfl,Z bx⟩
structure rz(w b:World)(sb:Nat)(t:TypeId)(cs a:Array Value)(c:Nat)(d e f g:Value):Prop where
 aP:b.heap[sb]?=some (.cells a t (0,0))
 sz:a.size=cs.size
 out:∀i,i<c\/c+5<=i->a[i]?=cs[i]?
 av:ao w b (FT sb d e)
 Ii:f.ownBlock=d.ownBlock\/∀k,f.ownBlock=some k->w.heap.size<=k
 Bz:g.ownBlock=e.ownBlock\/∀k,g.ownBlock=some k->w.heap.size<=k
def qD(w b:World)(sb:Nat)(t:TypeId)(cs:Array Value)(c g:Nat)(d h:Value)(lf ll:List Kt)(count tick wait:Int):Prop:=
 ∃e a f,rz w b sb t cs e c d h a f/\iI b g e c a f lf ll count tick wait/\a.ownBlock=d.ownBlock
def pM(sb:Nat)(a b:Value):Prop:=a.ownBlock≠some sb/\b.ownBlock≠some sb/\∀k,a.ownBlock=some k->b.ownBlock≠some k
def Ij(w:World)(sb d p:Nat)(cs:Array Value)(t:TypeId)(s l:Value)(lf ll:List Kt)(count tick wait:Int)(y:w.heap[sb]?=some (.cells cs t (0,0)))(H:iI w p cs d s l lf ll count tick wait)(c9:p<=w.heap.size)(b0:pM sb s l)(b3:lf.length<=1000000/\ll.length<=50000000)(jk:∀x∈lf,∃a n c,x.2=.slice a n c)(ht:0<=tick/\tick<1000000000000)(S:∀x∈lf,0<=x.1.tick/\x.1.tick<=1000000000000)(hw:0<=wait/\wait<=1000):
 Calls prog 156 #[.pointer (some ⟨sb,d,none⟩)] w λr q=>r=.returned (.tuple #[])/\(((∃x∈lf,wait<=tick+1-x.1.tick)/\qD w q sb t cs d p s l [] (ll++lf) count (tick+1) (min (2*wait) 32))\/((¬∃x∈lf,wait<=tick+1-x.1.tick)/\qD w q sb t cs d p s l lf ll count (tick+1) wait)):=by
 obtain⟨R,T⟩:=exq (λq:World=>(((∃x∈lf,wait<=tick+1-x.1.tick)/\qD w q sb t cs d p s l [] (ll++lf) count (tick+1) (min (2*wait) 32))\/((¬∃x∈lf,wait<=tick+1-x.1.tick)/\qD w q sb t cs d p s l lf ll count (tick+1) wait)));have a2:(λ(r:Ending) q=>r=.returned (.tuple #[])/\(((∃x∈lf,wait<=tick+1-x.1.tick)/\qD w q sb t cs d p s l [] (ll++lf) count (tick+1) (min (2*wait) 32))\/((¬∃x∈lf,wait<=tick+1-x.1.tick)/\qD w q sb t cs d p s l lf ll count (tick+1) wait)))=λr q=>r=.returned (.tuple #[])/\R q:=by rw[T]
 rw[a2];clear a2;obtain⟨c0,c1,c2,c3,c4,of,ol⟩:=H;obtain⟨U,V,b4⟩:=b0;have dg:sb<w.heap.size:=(aZ.1 y).1;obtain⟨j,D⟩:=exq (w.setCell ⟨sb,d+1,none⟩ (.int .i64 (tick+1)));have E:w.grownBy j (some sb):=by rw[D];exact aK (aB _ _) _ _ (.inr rfl)
 have u:j.heap[sb]?=some (.cells (cs.setIfInBounds (d+1) (.int .i64 (tick+1))) t (0,0)):=by rw[D];exact heap_set y _
 obtain⟨v,L⟩:=exq (cs.setIfInBounds (d+1) (.int .i64 (tick+1)));rw[<-L]at u;have z:∀i,i≠d+1->v[i]?=cs[i]? :=λi h=>by rw[L,aN_]
 have f:iI j p v d s l lf ll count (tick+1) wait:=⟨by rw[z _ (by omega)];exact c0,by rw[L];exact cG (gZ c1),by rw[z _ (by omega)];exact c2,by rw[z _ (by omega)];exact c3,by rw[z _ (by omega)];exact c4,of.gb E (.inr U),ol.gb E (.inr V)⟩
 have a3:v.size=cs.size:=by rw[L];simp
 have dk:w.heap.size<=j.heap.size:=E.size;have e1:=(ba u _).trans f.c1;have e2:=(ba u _).trans f.c2;have e3:=(ba u _).trans f.c3;obtain⟨A,M,rfl,b5,b6⟩:=of.gK;have hC:=J (λb(ha:0<lf.length->A=some ⟨b,0,none⟩)(b8:∀i,i<lf.length->j.cell? ⟨b,0+i*4,none⟩=some (.int .u64 (bK lf i).1.num)/\j.cell? ⟨b,0+i*4+1,none⟩=some (.int .i64 (bK lf i).1.tick)/\j.cell? ⟨b,0+i*4+2,none⟩=some (.int .i64 (bK lf i).1.st)/\j.cell? ⟨b,0+i*4+3,none⟩=some (bK lf i).2)=>Bp A b 0 lf.length M 198 #[.pointer (some ⟨sb,d,none⟩)] #[] j (λi=>wait<=tick+1-(bK lf i).1.tick) (λi=>.int .u64 (bK lf i).1.num) (λi=>.int .i64 (bK lf i).1.tick) (λi=>.int .i64 (bK lf i).1.st) (λi=>(bK lf i).2) ha ⟨b5,b6⟩ (λ_ _=>by kernel_rfl)
  (λW i g hi=>by obtain⟨p0,p1,p2,p3⟩:=b8 i hi;exact⟨gC_ g p0,gC_ g p1,gC_ g p2,gC_ g p3⟩)
  (λW i g hi=>by
    apply(Ic W sb d (tick+1) wait (gC_ g e1) (gC_ g e2) (bK lf i) (by omega) (S _ (oR hi))).mono;rintro e W'⟨rfl,g'⟩;exact⟨nY Iff.rfl,g'⟩))
 obtain⟨cb,a8,a9⟩:∃b,(0<lf.length->A=some ⟨b,0,none⟩)/\(∀i,i<lf.length->j.cell? ⟨b,0+i*4,none⟩=some (.int .u64 (bK lf i).1.num)/\j.cell? ⟨b,0+i*4+1,none⟩=some (.int .i64 (bK lf i).1.tick)/\j.cell? ⟨b,0+i*4+2,none⟩=some (.int .i64 (bK lf i).1.st)/\j.cell? ⟨b,0+i*4+3,none⟩=some (bK lf i).2):=by
  by_cases hz:0<lf.length;obtain⟨b,e,h⟩:=f.of.cell hz;exact⟨b,λ_=>e,h⟩
  exact⟨0,λh=>absurd h hz,λi hi=>by omega⟩
 have cj:=J (Z hC cb a8 a9);clear hC a8 a9;have bj:Hid ((∃i,i<lf.length/\wait<=tick+1-(bK lf i).1.tick)↔∃x∈lf,wait<=tick+1-x.1.tick):=J (by
  constructor;rintro⟨i,hi,h⟩;exact⟨_,oR hi,h⟩
  ·rintro⟨x,S,h⟩;obtain⟨i,hi,rfl⟩:=jY.1 S;exact⟨i,hi,by simpa [bK,List.getD,hi]using h⟩)
 have cp:=J (λW(g:j.grownBy W none)=>By W sb d p 200 #[] v t (.slice A lf.length M) l lf ll count (tick+1) wait (λ_=>true) (bB u g) ⟨f.c0,f.c1,f.c2,f.c3,f.c4,f.of.an g,f.ol.an g⟩ (by have:=g.size;omega) U V b4 b3 jk (λ_ _=>by kernel_rfl) (λW h _ _=>by rw[Array.append_empty];exact Ie W _));have du:IntKind.i64.wrap (tick+1)=tick+1:=wI_;have d1:=(ba y _).trans c1;have f1:w.frozen? ⟨sb,d+1,none⟩=false:=fZ_ y;have cv:Hid (∀W,j.grownBy W none->(¬∃x∈lf,wait<=tick+1-x.1.tick)->R W):=J (λW g N=>by
  rw[T];refine .inr ⟨N,v,.slice A lf.length M,l,⟨bB u g,a3,λi hi=>z i (by omega),((ao.of E).trans (ao.of g)).mono (λk _ m=>m.elim (λe=>.inl (aQ e).symm) (λe=>by cases e)),.inl rfl,.inl rfl⟩,⟨f.c0,f.c1,f.c2,f.c3,f.c4,f.of.an g,f.ol.an g⟩,rfl⟩)
 replace⟨u,y,D⟩:=cg u y D;go_enter func156,ntmps156;go_upto_region 1 with fail;rw[<-Z D];go_wp2_with fail;apply(Z cj).mono;rintro e X⟨⟨b,rfl,O⟩,F⟩;cases b
 ·have N:¬∃x∈lf,wait<=tick+1-x.1.tick:=λh=>by have:=O.2 ((Z bj).2 h);cases this
  have G:=J (Z cv X F N);clear O N;go_wp2_with fail;exact cF (eF rfl _ _ _) rfl ⟨rfl,Z G⟩
 have cw:Hid (∃x∈lf,wait<=tick+1-x.1.tick):=J ((Z bj).1 (O.1 rfl));clear O;go_wp2_with fail;apply(Z cp X F).mono;rintro e P⟨rfl,br,Y,B,al,ax,C3,Q,aC⟩;have bx:lf.filter (λ_=> !true)=[]:=by simp
 have bz:lf.filter (λ_=>true)=lf:=by simp
 rw[bx]at al;rw[bz]at ax;obtain⟨a0,C⟩:=exq ((v.setIfInBounds (d+4) Y).setIfInBounds (d+3) br);rw[<-C]at B;have I:∀i,i≠d+3->i≠d+4->a0[i]?=v[i]? :=λi h1 h2=>by rw[C,aN_,aN_]
 have k2:P.cell? ⟨sb,d+2,none⟩=some (.int .i64 wait):=by rw[ba B,I _ (by omega) (by omega)];exact f.c2
 have f2:P.frozen? ⟨sb,d+2,none⟩=false:=fZ_ B;have ea:IntKind.i64.wrap (2*wait)=2*wait:=wI_;have cx:v.size=a0.size:=by rw[C];simp
 have cy:=gZ f.c4;have ee:=gZ f.c3;have G:Hid (R (P.setCell ⟨sb,d+2,none⟩ (.int .i64 (min (2*wait) 32)))):=J (by
  rw[T];have gs:=aK (aB P (some sb)) ⟨sb,d+2,none⟩ (.int .i64 (min (2*wait) 32)) (.inr rfl);have cA:ao w X (FT sb (.slice A lf.length M) l):=((ao.of E).trans (ao.of F)).mono (λk _ m=>m.elim (λe=>.inl (aQ e).symm) (λe=>by cases e));have cB:Y.ownBlock≠some sb:=by
   obtain e|e:=aC
   rw[e];exact V;intro e2;have:=e _ e2;have:=F.size;omega
  refine .inl ⟨Z cw,a0.setIfInBounds (d+2) (.int .i64 (min (2*wait) 32)),br,Y,⟨heap_set B _,by simp[<-cx,a3],λi hi=>?_,?_,.inl Q,?_⟩,⟨?_,?_,?_,?_,?_,al.gb gs (.inr (by rw[Q];exact U)),ax.gb gs (.inr cB)⟩,Q⟩;rw[aN_,I _ (by omega) (by omega),z _ (by omega)];refine((cA.trans C3).trans (ao.of gs)).mono (λk _ m=>?_);obtain(m|m)|m:=m
  exact m;exact m;exact .inl (aQ m).symm;exact aC.imp id (λe k hk=>by have:=e k hk;have:=F.size;omega);rw[aN_,I _ (by omega) (by omega)];exact f.c0;rw[aN_,I _ (by omega) (by omega)];exact f.c1;exact cG;rw[aN_,C];exact cG (by simp;omega)
  ·rw[aN_,C,aN_];exact cG cy)
 obtain⟨mw,K⟩:=exq (min (2*wait) 32);rw[<-K]at G;replace K:=J K;clear I C al ax C3 Q aC bx bz;replace B:=J B;by_cases eg:32<2*wait
 ·obtain rfl:mw=32:=by rw[Z K];omega
  go_wp2_with fail;exact fm (eF rfl _ _ _) rfl ⟨rfl,Z G⟩
 obtain rfl:mw=2*wait:=by rw[Z K];omega
 go_wp2_with fail;exact fm (eF rfl _ _ _) rfl ⟨rfl,Z G⟩
def bN(l:List Rg)(n:Int):Bool:=l.any (λr=>decide (r.lo<=n)&&decide (n<=r.hi))
def yE(l:List Rg)(n:Int):bN l n=true↔∃i,i<l.length/\(au l i).lo<=n/\n<=(au l i).hi:=by
 unfold bN;rw[qY];constructor;rintro⟨r,a,h⟩;obtain⟨i,hi,rfl⟩:=jY.1 a;refine⟨i,hi,?_⟩
 simpa [au,List.getD,hi]using h;rintro⟨i,hi,h⟩;exact⟨_,pI hi,by simpa using h⟩
def sq{p:Prop}{e:Ending}(h:dP p e)(a:B=true↔p):e=.returned (.bool B):=by
 obtain⟨c,rfl,b⟩:=h;have:c=B:=by rw[Bool.eq_iff_iff,b,a]
 rw[this]
def Ik(W:World)(c:Nat)(y:Rg)(n:Int)(h0:W.cell? ⟨c,0,none⟩=some (.int .u64 n)):
 Calls prog 301 #[.agg #[.int .u64 y.lo,.int .u64 y.hi],.pointer (some ⟨c,0,none⟩)] W λe i=>dP (y.lo<=n/\n<=y.hi) e/\W.grownBy i none:=by
 obtain⟨a,d⟩:=y;have j:c<W.heap.size:=eE W _ h0;obtain⟨R,b⟩:∃R:Prop,R=(a<=n/\n<=d):=⟨_,rfl⟩
 have g:((⟨a,d⟩:Rg).lo<=n/\n<=(⟨a,d⟩:Rg).hi)=R:=b.symm;rw[g];clear g;replace b:=J b;go_enter func301,ntmps301;by_cases f:a<=n
 ·have d1:decide (a<=n)=true:=dO f;go_wp2;go_ret;exact⟨nY (by rw[Z b];exact⟨λh=>⟨f,h⟩,λh=>h.2⟩),aH _ _ _⟩
 have d1:decide (a<=n)=false:=eQ f;go_wp2;go_ret;exact⟨lU (by rw[Z b];exact λh=>by have:=h.1;omega),aH _ _ _⟩
def Il(a:Option Addr)(n cap:Nat)(l:List Rg)(num:Int)(w:World)(hs:bw w a n cap l):
 Calls prog 288 #[.slice a n cap,.int .u64 num] w λe u=>e=.returned (.bool (bN l num))/\w.grownBy u none:=by
 obtain⟨c,d⟩:=exq (w.alloc (.cells #[.int .u64 num] 30));have k:w.grownBy c none:=by rw[d];exact aH _ _ _
 have f:c.heap[w.heap.size]?=some (.cells #[.int .u64 num] 30 (0,0)):=by rw[d];exact aO _ _
 have v:c.cell? ⟨w.heap.size,0,none⟩=some (.int .u64 num):=by simp[World.cell?,f]
 have m:=hs.an k;obtain⟨b,o,j⟩:∃b o,0<n->a=some ⟨b,o,none⟩:=by
  by_cases x:0<n;obtain⟨-,A,B,-,C|⟨b,o,rfl,-⟩⟩:=id hs;omega;exact⟨b,o,λ_=>rfl⟩
  exact⟨0,0,λh=>absurd h x⟩
 have p:n=l.length:=hs.2.1;have y:=J (HY a b o n cap 301 #[] #[.pointer (some ⟨w.heap.size,0,none⟩)] c (λi=>(au l i).lo<=num/\num<=(au l i).hi) (λi=>.int .u64 (au l i).lo) (λi=>.int .u64 (au l i).hi) j ⟨hs.2.2.1,hs.2.2.2.1⟩ (λ_ _=>by kernel_rfl)
  (λW i g hi=>by
    have q:=m.an g;rw[j (by omega)]at q;exact q.cell i (by omega))
  (λW i g hi=>Ik W w.heap.size (au l i) num (gC_ g v)))
 have r:Hid (bN l num=true↔∃i,i<n/\(au l i).lo<=num/\num<=(au l i).hi):=J (by rw[p];exact yE l num);obtain⟨nb,s⟩:=exq (bN l num);rw[<-s]at r⊢;clear s p hs m j;replace f:=J f;go_enter func288,ntmps288;go_wp2_with fail;rw[<-d];clear d;apply(Z y).mono;rintro e D⟨t,z⟩;obtain rfl:=sq t (Z r);clear t;go_wp2;go_ret;exact⟨rfl,aq k z⟩
def BA(w:World)(B:Nat)(a:Option Addr)(n cap:Nat)(l:List Rg)(x:Kt)(h0:w.cell? ⟨B,0,none⟩=some (.slice a n cap))(hs:bw w a n cap l):
 Calls prog 287 #[.agg (kA x),.pointer (some ⟨B,0,none⟩)] w λe h=>e=.returned (.bool (bN l x.1.num))/\w.grownBy h none:=by
 obtain⟨⟨num,tk,st,ps⟩,i⟩:=x;unfold kA;simp only
 have k:B<w.heap.size:=eE w _ h0;obtain⟨c,b⟩:=exq (w.alloc (.cells #[.int .u64 num,.int .i64 tk,.int .i64 st,i] 325));have d:w.grownBy c none:=by rw[b];exact aH _ _ _
 have f:=J (Il a n cap l num c (hs.an d));obtain⟨nb,g⟩:=exq (bN l num);rw[<-g]at f⊢;clear g;go_enter func287,ntmps287;go_wp2_with fail;rw[<-b];clear b;apply(Z f).mono;rintro e m⟨rfl,j⟩;go_wp2;go_ret;exact⟨rfl,aq d j⟩
def Im(w:World)(B:Nat)(high:Int)(x:Kt)(h0:w.cell? ⟨B,0,none⟩=some (.int .u64 high))(b:0<=x.1.num/\x.1.num<=4611686018427387903):
 Calls prog 290 #[.agg (kA x),.pointer (some ⟨B,0,none⟩)] w λe a=>e=.returned (.bool (decide (x.1.num+3<=high)))/\w.grownBy a none:=by
 obtain⟨⟨num,tk,st,ps⟩,c⟩:=x;unfold kA;simp only at *;have d:B<w.heap.size:=eE w _ h0;have f:IntKind.u64.wrap (num+3)=num+3:=by rw[fD];omega
 go_enter func290,ntmps290;go_wp2;go_ret;exact⟨rfl,by repeat(first|exact aB _ _|apply dy|apply aV|apply aY)⟩
def pA(p:Pc):Array Value:= #[.int .u64 p.x.lo,.int .u64 p.x.hi,.bool p.e,.bool p.g]
def Io(w:World)(sb n k r s:Nat)(Q lc:Array Value)(x:Kt)(q:Bool)(St:List (Int×Pc)->World->Prop)(l:List (Int×Pc))(pa:Option Addr)(c t:Nat)(S:x.2=.slice pa c t)(hp:kC w pa c t x.1.ps)(a0:∀y,pa=some y->y.block≠sb)(bb:sb<w.heap.size)
 (T:w.cell? ⟨n,0,none⟩=some (.func (.func r) #[] Q)) (U:w.cell? ⟨k,0,none⟩=some (.func (.func s) #[] lc)) (bj:n≠sb) (a1:k≠sb)
 (en:∀args w,(callFunc r args).run prog w=.ok (.enter r args) w) (ec:∀args w,(callFunc s args).run prog w=.ok (.enter s args) w)
 (V:∀W,w.grownBy W none->Calls prog r (#[.agg (kA x)]++Q) W (λe h=>e=.returned (.bool q)/\W.grownBy h none))
 (u:∀(W h:World)(a:List (Int×Pc)),St a W->W.grownBy h none->St a h) (h0:St l w)
 (v:∀(W:World)(a:List (Int×Pc))(p:Pc),St a W->p∈x.1.ps->q=true->Calls prog s (#[.int .i64 x.1.st,.agg (pA p)]++lc) W (λe h=>e=.returned (.tuple #[])/\St (a++[(x.1.st,p)]) h/\W.grownBy h (some sb))):
 Calls prog 302 #[.agg (kA x),.pointer (some ⟨n,0,none⟩),.pointer (some ⟨k,0,none⟩)] w λe d=>e=.returned (.bool q)/\St (l++if q then x.1.ps.map (λp=>(x.1.st,p))else[]) d/\w.grownBy d (some sb):=by
 obtain⟨R,j⟩:∃R:Bool->World->Prop,R=λb d=>St (l++if b then x.1.ps.map (λp=>(x.1.st,p))else[]) d/\w.grownBy d (some sb):=⟨_,rfl⟩
 have X:(λ(e:Ending) d=>e=.returned (.bool q)/\St (l++if q then x.1.ps.map (λp=>(x.1.st,p))else[]) d/\w.grownBy d (some sb))=λe d=>e=.returned (.bool q)/\R q d:=by rw[j]
 rw[X];clear X;replace j:=J j;obtain⟨⟨num,tk,st,ps⟩,sv⟩:=x;simp only at S hp v j;subst S;unfold kA at *;simp only at *;have br:n<w.heap.size:=eE w _ T;have bt:k<w.heap.size:=eE w _ U;obtain⟨K,z⟩:=exq (w.alloc (.cells #[.int .u64 num,.int .i64 tk,.int .i64 st,.slice pa c t] 325));have A:w.grownBy K none:=by rw[z];exact aH _ _ _
 have B:K.heap[w.heap.size]?=some (.cells #[.int .u64 num,.int .i64 tk,.int .i64 st,.slice pa c t] 325 (0,0)):=by rw[z];exact aO _ _
 obtain⟨b0,b1,b2,b3⟩:=l7 B;have Y:=gC_ A T;have m1:=gC_ A U;have a2:=J (V K A);replace⟨B,u,h0,v⟩:=eV B u h0 v;clear V;go_enter func302,ntmps302;go_upto_region 1 with fail;rw[<-z];clear z;go_wp2_with fail;apply(Z a2).mono;rintro e L⟨rfl,C⟩;have D:=aq A C;have al:=J (Z u _ _ _ (Z h0) D);cases q
 ·have M:Hid (R false L):=J (by rw[Z j];exact⟨by simpa using Z al,dd D _⟩);go_wp2;go_ret;exact⟨rfl,Z M⟩
 have E:=bB (Z B) C;have bx:w.heap.size<L.heap.size:=(aZ.1 E).1;obtain⟨d0,d1,d2,d3⟩:=l7 E;have F:=hp.an D;have n0:=gC_ C Y;have n1:=gC_ C m1;have G:c=ps.length:=hp.2.1;have bz:=hp.2.2.1;have a3:=hp.2.2.2.1;unfold maxLen at a3;have a4:w.heap.size≠sb:=by omega
 replace⟨E,G⟩:=bA E G;clear b0 b1 b2 b3 Y m1 hp;replace F:=J F;go_wp2;go_loopw [14] (λN wr=>∃i:Nat,i<=c/\N=.int .i64 i/\St (l++(ps.take i).map (λp=>(st,p))) wr/\L.grownBy wr (some sb)) (λN _=>c-(intOf N).toNat);case atStart=>exact⟨0,by omega,rfl,by simpa using Z al,aB _ _⟩
 case round=>
  obtain⟨i,hi,rfl,m,f⟩:=hrel;by_cases bM:i<c
  ·have dl:decide ((i:Int)<c)=true:=dT_;have i1:(i:Int)<c:=by omega
   have O:i<ps.length:=by have:=Z G;omega
   obtain⟨-,-,-,-,hz|⟨b,o,rfl,-⟩⟩:=id (Z F);omega;have H:b≠sb:=a0 ⟨b,o,none⟩ rfl;obtain⟨y0,y1,y2,y3⟩:=(Z F).cell i O;have k0:=f.cell y0 (λe=>H (aQ e));have k1:=f.cell y1 (λe=>H (aQ e));have k2:=f.cell y2 (λe=>H (aQ e));have k3:=f.cell y3 (λe=>H (aQ e));have e2:=f.cell d2 (λe=>a4 (aQ e));have e1:=f.cell n1 (λe=>a1 (aQ e));have b4:=f.size;have b5:k<wr.heap.size:=by omega
   have b6:w.heap.size<wr.heap.size:=by omega
   have ax:Hid ((ps.take (i+1)).map (λp=>(st,p))=(ps.take i).map (λp=>(st,p))++[(st,fO ps i)]):=J (by rw[qW,vV O];simp);have I:=J (λW(g:wr.grownBy W none)=>Z v W _ (fO ps i) (Z u _ _ _ m g) (vW O) (by trivial));obtain⟨p,aC⟩:=exq (fO ps i);rw[<-aC]at k0 k1 k2 k3 I ax;clear aC;obtain⟨⟨xl,xh⟩,pe,pg⟩:=p;simp only at k0 k1 k2 k3;unfold pA at I;simp only at I;clear y0 y1 y2 y3;replace m:=J m;have gx:=aH wr (.cells #[.int .u64 xl,.int .u64 xh,.bool pe,.bool pg] 377) none;have a8:=J (Z I _ gx);go_wp2_with fail;apply(Z a8).mono;rintro e w4⟨rfl,P,g4⟩;replace P:=J P;have a9:=aq f (aq (dd gx _) g4);go_wp2;go_roundw;case measure=>simp[intOf];omega
   case rel=>exact⟨i+1,by omega,by simp,by rw[Z ax,<-fC];exact Z P,a9⟩
  have dl:decide ((i:Int)<c)=false:=dF_;obtain rfl:i=c:=by omega
  have M:Hid (R true wr):=J (by
   rw[Z j];rw[Z G,oK]at m;exact⟨by simpa using m,aq (dd D _) f⟩)
  go_wp2;go_ret;exact⟨rfl,Z M⟩
def kW(Q:Kt->Bool)(l:List Kt):List (Int×Pc):=l.flatMap (λx=>if Q x then x.1.ps.map (λp=>(x.1.st,p))else[])
def Ip(Q:Kt->Bool)(l:List Kt)(j:Nat)(a:j<l.length):kW Q (l.take (j+1))=kW Q (l.take j)++(if Q (bK l j)then(bK l j).1.ps.map (λp=>((bK l j).1.st,p))else[]):=by
 unfold kW;rw[qW,oa a,Option.toList_some,List.flatMap_append];simp
def LT(sb:Nat)(v:Value)(k:Nat):Prop:=k=sb\/v.ownBlock=some k
def Iq(w:World)(sb G m q:Nat)(t lc:Array Value)(aw:List Kt)(Q:Kt->Bool)(St:List (Int×Pc)->World->Prop)(z:List (Int×Pc))(v:Value)(A:cf w G v aw)(cA:sb<w.heap.size)(a9:v.ownBlock≠some sb)(S:Nat->Prop)(U:∀k,LT sb v k->S k)(M:nr w S aw)
 (en:∀args w,(callFunc m args).run prog w=.ok (.enter m args) w) (ec:∀args w,(callFunc q args).run prog w=.ok (.enter q args) w)
 (V:∀(W:World)(x:Kt),ao w W (LT sb v)->x∈aw->Calls prog m (#[.agg (kA x)]++t) W (λe b=>e=.returned (.bool (Q x))/\W.grownBy b none))
 (B:∀(W b:World)(a:List (Int×Pc))(r:Option Nat),St a W->W.grownBy b r->(r=none\/r=v.ownBlock)->St a b) (h0:St z w)
 (X:∀(W:World)(a:List (Int×Pc))(x:Kt)(p:Pc),St a W->x∈aw->p∈x.1.ps->Q x=true->Calls prog q (#[.int .i64 x.1.st,.agg (pA p)]++lc) W (λe b=>e=.returned (.tuple #[])/\St (a++[(x.1.st,p)]) b/\W.grownBy b (some sb))):
 Calls prog 289 #[v,.func (.func m) #[] t,.func (.func q) #[] lc] w λe j=>∃d,e=.returned d/\cf j G d (aw.filter (λx=> !Q x))/\St (z++kW Q aw) j/\d.ownBlock=v.ownBlock/\ao w j (LT sb v):=by
 obtain⟨R,u⟩:∃R:Ending->World->Prop,R=λe j=>∃d,e=.returned d/\cf j G d (aw.filter (λx=> !Q x))/\St (z++kW Q aw) j/\d.ownBlock=v.ownBlock/\ao w j (LT sb v):=⟨_,rfl⟩
 rw[<-u];obtain⟨l,C⟩:=exq ((w.alloc (.cells #[.func (.func m) #[] t] 326)).alloc (.cells #[.func (.func q) #[] lc] 386));have s:w.grownBy l none:=by rw[C];exact aY (aH _ _ _) _
 have bb:(w.alloc (.cells #[.func (.func m) #[] t] 326)).heap.size=w.heap.size+1:=by simp
 have N:l.heap[w.heap.size]?=some (.cells #[.func (.func m) #[] t] 326 (0,0)):=by
  rw[C];exact bB (aO _ _) (aH _ _ none)
 have H:l.heap[w.heap.size+1]?=some (.cells #[.func (.func q) #[] lc] 386 (0,0)):=by
  rw[C,<-bb];exact aO _ _
 have Y:w.heap.size+1<l.heap.size:=(aZ.1 H).1;have bj:∀k,v.ownBlock=some k->k<w.heap.size:=λk e=>(A.lt k e).2
 have al:∀k,w.heap.size<=k->¬LT sb v k:=λk hk h=>by
  obtain h|h:=h
  omega;have:=bj k h;omega
 obtain⟨va,D,ax,bt,aC⟩:=A.gK;have O:Hid (Calls prog 236 #[v,.func (.func 302) #[] #[.pointer (some ⟨w.heap.size,0,none⟩),.pointer (some ⟨w.heap.size+1,0,none⟩)]] l R):=by
  subst ax;by_cases hz:aw=[]
  subst hz;refine J ((yD va D _ _ l aC (λ_ _=>by kernel_rfl)).mono ?_);rintro e j⟨rfl,rfl⟩;rw[u];exact⟨_,rfl,A.an s,by simpa [kW]using B _ _ _ none h0 s (.inl rfl),rfl,(ao.of s).mono (λk _ e=>by cases e)⟩
  have bx:=oI.2 hz;obtain⟨g,rfl,-⟩:=A.cell bx;obtain⟨bz,bM,b0⟩:=(A.an s).mid;have b3:sb≠g:=λe=>a9 (by rw[e];rfl)
  have O:=yC g aw.length D G 302 sb #[.pointer (some ⟨w.heap.size,0,none⟩),.pointer (some ⟨w.heap.size+1,0,none⟩)] aw l (λh=>Q (bK aw h)) (λh W=>St (z++kW Q (aw.take h)) W/\ao l W (LT sb (.slice (some ⟨g,0,none⟩) aw.length D))) bM bz rfl ⟨bt,aC⟩ (λx hx=>by obtain⟨a,n,c,e,-⟩:=M x hx;exact⟨a,n,c,e⟩) b0 (by omega) b3 (λ_ _=>by kernel_rfl) ⟨by simpa [kW]using B _ _ _ none h0 s (.inl rfl),ao.rfl' _ _⟩
   (λW b h hi I=>⟨B _ _ _ _ hi.1 I (.inr rfl),(hi.2.trans (ao.of I)).mono (λk _ f=>f.elim id (λe=>.inr e))⟩)
   (λW h hi f=>by
     have P:=oR f;obtain⟨pa,pn,pp,b5,b6,T⟩:=M _ P;have a3:ao w W (LT sb (.slice (some ⟨g,0,none⟩) aw.length D)):=((ao.of s).trans hi.2).mono (λk _ f=>f.elim (λe=>by cases e) id);have b7:kC W pa pn pp (bK aw h).1.ps:=b6.dr (λ_ y K=>a3.block _ (T y K).2 (λht=>(T y K).1 (U _ ht)));have cC:w.heap.size+1<W.heap.size:=bX Y hi.2.size;have ca:=(hi.2.block w.heap.size (by omega) (al _ (aR _))).trans N;have ch:=(hi.2.block (w.heap.size+1) Y (al _ (by omega))).trans H;refine(Io W sb w.heap.size (w.heap.size+1) m q t lc (bK aw h) (Q (bK aw h)) (λa b=>St a b/\ao l b (LT sb (.slice (some ⟨g,0,none⟩) aw.length D))) (z++kW Q (aw.take h)) pa pn pp b5 b7 (λy K=>λe=>(T y K).1 (U _ (.inl e))) (by omega) (by simp[World.cell?,ca]) (by simp[World.cell?,ch]) (by omega) (by omega) en ec
      (λb g'=>V b _ (a3.grow g') P) (λWa Wb a E a8=>⟨B _ _ _ none E.1 a8 (.inl rfl),E.2.grow a8⟩) hi
      (λWa a p E cv hq=>(X Wa a _ p E.1 P cv hq).mono (λe Wb L=>⟨L.1,⟨L.2.1,(E.2.trans (ao.of L.2.2)).mono (λk _ f=>f.elim id (λe=>.inl (aQ e).symm))⟩,L.2.2⟩))).mono ?_
     rintro e b⟨rfl,hs,I⟩;exact⟨rfl,⟨by rw[Ip Q aw h f,<-fC];exact hs.1,hs.2⟩,I⟩)
  refine J (O.mono ?_);have cx:kp aw (λh=>Q (bK aw h)) aw.length=aw.filter (λx=> !Q x):=by
   rw[yB aw _ Q (λi _=>rfl) _ (aR _),oK]
  rw[cx];rintro e j⟨rfl,ho,hs,cy⟩;rw[oK]at hs;rw[u];exact⟨_,rfl,ho,hs,rfl,((ao.of s).trans cy).mono (λk _ f=>f.elim (λe=>by cases e) id)⟩
 clear V B X h0 M;replace u:=J u;subst ax;replace⟨N,H⟩:=bA N H;go_enter func289,ntmps289;go_wp2_with fail;rw[<-C];clear C;apply(Z O).mono;rintro e w2 F;obtain⟨d,rfl⟩:∃d,e=.returned d:=by rw[Z u]at F;obtain⟨d,h,-⟩:=F;exact⟨d,h⟩
 replace F:=J F;go_wp2_with fail;exact Z F
def lE(W c:World)(sb b:Nat):Prop:=∀cs t,W.heap[sb]?=some (.cells cs t (0,0))->∃a,c.heap[sb]?=some (.cells a t (0,0))/\a.size=cs.size/\∀i,i<b\/b+5<=i->a[i]?=cs[i]?
def lF(W c:World)(sb b:Nat):Prop:=∀cs t,W.heap[sb]?=some (.cells cs t (0,0))->∃a,c.heap[sb]?=some (.cells a t (0,0))/\a.size=cs.size/\∀i,b<=i->i<b+5->a[i]?=cs[i]?
def lE.of(h:w.heap[n]?=W.heap[n]?):lE W w n k:=λcs t a=>⟨cs,h.trans a,rfl,λ_ _=>rfl⟩
structure kE(w W:World)(sb e f:Nat)(t:TypeId)(a b c d:Value)(lf ll:List Kt)(count tick wait:Int)(St:List (Int×Pc)->World->Prop)(g:List (Int×Pc)):Prop where
 fl:∃cs,W.heap[sb]?=some (.cells cs t (0,0))/\iI W f cs e c d lf ll count tick wait
 st:St g W
 av:ao w W (FT sb a b)
 ef:c.ownBlock=a.ownBlock
 el:d.ownBlock=b.ownBlock
def iI.an{lf ll:List Kt}(h:iI w n c k x y lf ll p q r)(g:w.grownBy W none):iI W n c k x y lf ll p q r:=
 ⟨h.c0,h.c1,h.c2,h.c3,h.c4,h.of.an g,h.ol.an g⟩
def kE.set{w:World}{g:Value}{lf ll:List Kt}{St:List (Int×Pc)->World->Prop}{m:List (Int×Pc)}(h:kE w W n j l T x y z g lf ll p q r St m)(s:pM n x y)
 (u:∀(W c:World)(a:List (Int×Pc)),St a W->ao W c (FT n x y)->lE W c n j->St a c) (b:Int):kE w (W.setCell ⟨n,j+2,none⟩ (.int .i64 b)) n j l T x y z g lf ll p q b St m:=by
 obtain⟨cs,d,H⟩:=h.fl;have f:=aK (aB W (some n)) ⟨n,j+2,none⟩ (.int .i64 b) (.inr rfl);have C:ao W (W.setCell ⟨n,j+2,none⟩ (.int .i64 b)) (FT n x y):=(ao.of f).mono (λk _ e=>.inl (aQ e).symm);refine⟨⟨_,heap_set d _,?_⟩,u _ _ _ h.st C ?_,(h.av.trans C).mono (λk _ v=>v.elim id id),h.ef,h.el⟩
 refine⟨?_,?_,cG (gZ H.c2),?_,?_,H.of.gb f (.inr (by rw[h.ef];exact s.1)),H.ol.gb f (.inr (by rw[h.el];exact s.2.1))⟩
 rw[aN_];exact H.c0;rw[aN_];exact H.c1;rw[aN_];exact H.c3;rw[aN_];exact H.c4;intro A t2 t;rw[d]at t;cases t;exact⟨_,heap_set d _,by simp,λi hi=>by rw[aN_]⟩
def BB{Q:Value}{lf ll:List Kt}{St:List (Int×Pc)->World->Prop}{G:List (Int×Pc)}(h:kE w W j m o T z x y Q lf ll q p r St G)(R:pM j z x)(cj:j<w.heap.size)
 (a3:∀(W b:World)(a:List (Int×Pc)),St a W->ao W b (FT j z x)->lE W b j m->St a b)
 (S:Nat->Prop) (hS:∀k,FT j z x k->S k) (aw:List Kt) (v:Value) (U:(aw=lf/\v=y)\/(aw=ll/\v=Q)) (a8:nr W S aw)
 (B:Nat) (a:Option Addr) (n cap:Nat) (l:List Rg) (a9:W.cell? ⟨B,0,none⟩=some (.slice a n cap)) (hB:¬FT j z x B) (hs:bw W a n cap l) (V:l≠[]->∀f,a=some f->¬FT j z x f.block/\f.block<W.heap.size)
 (g:Nat) (lc:Array Value) (ec:∀args w,(callFunc g args).run prog w=.ok (.enter g args) w)
 (hC:∀(W:World)(a:List (Int×Pc))(c:Kt)(s:Pc),St a W->c∈aw->s∈c.1.ps->bN l c.1.num=true->Calls prog g (#[.int .i64 c.1.st,.agg (pA s)]++lc) W (λe b=>e=.returned (.tuple #[])/\St (a++[(c.1.st,s)]) b/\W.grownBy b (some j)/\lF W b j m)):
 Calls prog 289 #[v,.func (.func 287) #[] #[.pointer (some ⟨B,0,none⟩)],.func (.func g) #[] lc] W λe b=>∃t,e=.returned t/\cf b o t (aw.filter (λc=> !bN l c.1.num))/\t.ownBlock=v.ownBlock/\St (G++kW (λc=>bN l c.1.num) aw) b/\ao W b (LT j v)/\lF W b j m:=by
 obtain⟨cp,br,H⟩:=h.fl;have cv:=h.av.size;have X:v.ownBlock=z.ownBlock\/v.ownBlock=x.ownBlock:=by
  obtain⟨-,rfl⟩|⟨-,rfl⟩:=U
  exact .inl h.ef;exact .inr h.el
 have A:∀k,LT j v k->FT j z x k:=λk d=>by
  obtain d|d:=d
  exact .inl d;obtain e|e:=X
  exact .inr (.inl (e▸d));exact .inr (.inr (e▸d))
 have bt:cf W o v aw:=by
  obtain⟨rfl,rfl⟩|⟨rfl,rfl⟩:=U
  exact H.of;exact H.ol
 have Y:v.ownBlock≠some j:=by
  obtain e|e:=X
  rw[e];exact R.1;rw[e];exact R.2.1
 refine(Iq W j o 287 g #[.pointer (some ⟨B,0,none⟩)] lc aw (λc=>bN l c.1.num) (λC b=>St C b/\lF W b j m) G v bt (by omega) Y S (λk d=>hS k (A k d)) a8 (λ_ _=>by kernel_rfl) ec ?_ ?_ ⟨h.st,λcs T u=>⟨cs,u,rfl,λ_ _ _=>rfl⟩⟩ ?_).mono ?_;intro b c D hx;exact BA b B a n cap l c (D.cell a9 (λI=>hB (A _ I))) (hs.dr (λhl f ey=>D.block _ (V hl f ey).2 (λI=>(V hl f ey).1 (A _ I))));rintro K Wb C bx⟨L,E⟩ F hr;have bz:∀k,bx=some k->k≠j:=λk e=>by
  obtain rfl|rfl:=hr
  cases e;rintro rfl;exact Y e
 obtain⟨cw,bM,-,-⟩:=E _ _ br;have a1:Wb.heap[j]?=K.heap[j]? :=F.block j (aZ.1 bM).1 (λe=>bz j e.symm rfl);refine⟨a3 _ _ _ L ((ao.of F).mono (λk _ e=>?_)) (lE.of a1),λcs T u=>?_⟩
 obtain rfl|rfl:=hr
 cases e;exact A k (.inr e);obtain⟨b0,M,N,O⟩:=E cs T u;exact⟨b0,a1.trans M,N,O⟩
 rintro K C c s⟨L,E⟩ hx hp hq;apply(hC K C c s L hx hp hq).mono;rintro e Wb⟨P,b4,F,d⟩;refine⟨P,⟨b4,λcs T u=>?_⟩,F⟩
 obtain⟨b5,M,N,O⟩:=E cs T u;obtain⟨b6,k1,k2,k3⟩:=d b5 T M;exact⟨b6,k1,k2.trans N,λi hi hj=>(k3 i hi hj).trans (O i hi hj)⟩
 rintro e b⟨t,P,ho,⟨ca,d⟩,ch,D⟩;exact⟨t,P,ho,ch,ca,D,d⟩
def kE.aM{t c:Value}{lf ll A:List Kt}{St:List (Int×Pc)->World->Prop}{I B:List (Int×Pc)}(h:kE w W n j l T x y z t lf ll p q r St I)(g:pM n x y)
 (L:∀(W v:World)(a:List (Int×Pc)),St a W->ao W v (FT n x y)->lE W v n j->St a v)
 (ho:cf v l c A) (D:c.ownBlock=z.ownBlock) (hs:St B v) (C:ao W v (LT n z)) (K:lF W v n j):
 kE w (v.setCell ⟨n,j+3,none⟩ c) n j l T x y c t A ll p q r St B/\v.cell? ⟨n,j+3,none⟩=some z/\v.frozen? ⟨n,j+3,none⟩=false:=by
 obtain⟨cs,M,H⟩:=h.fl;obtain⟨N,d,O,f⟩:=K cs T M;have u:=aK (aB v (some n)) ⟨n,j+3,none⟩ c (.inr rfl);have m:=h.ef;have s:=h.el;have E:ao v (v.setCell ⟨n,j+3,none⟩ c) (FT n x y):=(ao.of u).mono (λk _ e=>.inl (aQ e).symm);have Q:j+4<N.size:=by rw[O];exact gZ H.c4
 have P:cf v l t ll:=H.ol.av C (λk F b=>by
  obtain b|b:=b
  exact g.2.1 (by rw[<-s,F,b])
  ·exact g.2.2 k (m▸b) (s▸F))
 refine⟨⟨⟨_,heap_set d _,?_⟩,L _ _ _ hs E ?_,((h.av.trans C).trans E).mono (λk _ b=>?_),D.trans m,s⟩,?_,by simp[World.frozen?,d]⟩
 refine⟨?_,?_,?_,cG,?_,ho.gb u (.inr (by rw[D,m];exact g.1)),P.gb u (.inr (by rw[s];exact g.2.1))⟩
 rw[aN_,f _ (by omega) (by omega)];exact H.c0;rw[aN_,f _ (by omega) (by omega)];exact H.c1;rw[aN_,f _ (by omega) (by omega)];exact H.c2;rw[aN_,f _ (by omega) (by omega)];exact H.c4;intro R t2 G;rw[d]at G;cases G;exact⟨_,heap_set d _,by simp,λi hi=>by rw[aN_]⟩
 obtain(b|b|b)|b:=b
 exact b;exact .inl b;exact .inr (.inl (m▸b));exact b;rw[ba d,f _ (by omega) (by omega)];exact H.c3
def kE.Ir{g c:Value}{lf ll A:List Kt}{St:List (Int×Pc)->World->Prop}{I B:List (Int×Pc)}(h:kE w W n j l T x y z g lf ll p q r St I)(m:pM n x y)
 (L:∀(W v:World)(a:List (Int×Pc)),St a W->ao W v (FT n x y)->lE W v n j->St a v)
 (ho:cf v l c A) (D:c.ownBlock=g.ownBlock) (hs:St B v) (C:ao W v (LT n g)) (K:lF W v n j):
 kE w (v.setCell ⟨n,j+4,none⟩ c) n j l T x y z c lf A p q r St B/\v.cell? ⟨n,j+4,none⟩=some g/\v.frozen? ⟨n,j+4,none⟩=false:=by
 obtain⟨cs,M,H⟩:=h.fl;obtain⟨N,d,O,f⟩:=K cs T M;have u:=aK (aB v (some n)) ⟨n,j+4,none⟩ c (.inr rfl);have s:=h.ef;have t:=h.el;have E:ao v (v.setCell ⟨n,j+4,none⟩ c) (FT n x y):=(ao.of u).mono (λk _ e=>.inl (aQ e).symm);have Q:j+4<N.size:=by rw[O];exact gZ H.c4
 have P:cf v l z lf:=H.of.av C (λk F b=>by
  obtain b|b:=b
  exact m.1 (by rw[<-s,F,b])
  ·exact m.2.2 k (s▸F) (t▸b))
 refine⟨⟨⟨_,heap_set d _,?_⟩,L _ _ _ hs E ?_,((h.av.trans C).trans E).mono (λk _ b=>?_),s,D.trans t⟩,?_,by simp[World.frozen?,d]⟩
 refine⟨?_,?_,?_,?_,cG,P.gb u (.inr (by rw[s];exact m.1)),ho.gb u (.inr (by rw[D,t];exact m.2.1))⟩
 rw[aN_,f _ (by omega) (by omega)];exact H.c0;rw[aN_,f _ (by omega) (by omega)];exact H.c1;rw[aN_,f _ (by omega) (by omega)];exact H.c2;rw[aN_,f _ (by omega) (by omega)];exact H.c3;intro R t2 G;rw[d]at G;cases G;exact⟨_,heap_set d _,by simp,λi hi=>by rw[aN_]⟩
 obtain(b|b|b)|b:=b
 exact b;exact .inl b;exact .inr (.inr (t▸b));exact b;rw[ba d,f _ (by omega) (by omega)];exact H.c4
def kE.gb{c:Value}{lf ll:List Kt}{St:List (Int×Pc)->World->Prop}{d:List (Int×Pc)}(h:kE w W n i j T x y z c lf ll p q r St d)
 (f:∀(W v:World)(a:List (Int×Pc)),St a W->ao W v (FT n x y)->lE W v n i->St a v) (g:W.grownBy v none):kE w v n i j T x y z c lf ll p q r St d:=by
 obtain⟨cs,b,H⟩:=h.fl;exact⟨⟨cs,bB b g,H.an g⟩,f _ _ _ h.st ((ao.of g).mono (λk _ e=>by cases e)) (lE.of ((bB b g).trans b.symm)),h.av.grow g,h.ef,h.el⟩
def yF(w a:World)(sb f i:Nat)(t:TypeId)(e c:Value)(lf ll:List Kt)(count tick wait:Int)(St:List (Int×Pc)->World->Prop)(l:List Rg):Prop:=
 ∃g h b,a.heap[sb]?=some (.cells g t (0,0))/\
  iI a i g f h b ((lf.filter (λx=> !bN l x.1.num)).filter (λx=> !decide (x.1.num+3<=(au l 0).hi))) (ll.filter (λx=> !bN l x.1.num)++(lf.filter (λx=> !bN l x.1.num)).filter (λx=>decide (x.1.num+3<=(au l 0).hi))) count tick (if lf.any (λx=>bN l x.1.num)then 4 else wait)/\
  (∃d,St (kW (λx=>bN l x.1.num) lf++kW (λx=>bN l x.1.num) ll) d/\ao d a (FT sb e c)/\lE d a sb f/\(b.ownBlock=c.ownBlock\/∀k,b.ownBlock=some k->d.heap.size<=k))/\ao w a (FT sb e c)/\h.ownBlock=e.ownBlock/\(b.ownBlock=c.ownBlock\/∀k,b.ownBlock=some k->w.heap.size<=k)
def kE.Is{g:Value}{lf ll:List Kt}{St:List (Int×Pc)->World->Prop}{u:List (Int×Pc)}(h:kE w W n j l T x y z g lf ll p q r St u)
 (O:∀(W t:World)(a:List (Int×Pc)),St a W->ao W t (FT n x y)->lE W t n j->St a t) (I:W.heap[n]?=some (.cells c T (0,0))) (H:iI W l c j z g lf ll p q r) {m f:Value} {A B:List Kt}
 (D:v.heap[n]?=some (.cells ((c.setIfInBounds (j+4) f).setIfInBounds (j+3) m) T (0,0))) (K:cf v l m A) (L:cf v l f B) (C:ao W v (FT n z g)) (nf:m.ownBlock=z.ownBlock) (nl:f.ownBlock=g.ownBlock\/∀k,f.ownBlock=some k->W.heap.size<=k):
 ∃E a b,v.heap[n]?=some (.cells E T (0,0))/\iI v l E j a b A B p q r/\(∃s,St u s/\ao s v (FT n x y)/\lE s v n j/\(b.ownBlock=y.ownBlock\/∀k,b.ownBlock=some k->s.heap.size<=k))/\ao w v (FT n x y)/\a.ownBlock=x.ownBlock/\(b.ownBlock=y.ownBlock\/∀k,b.ownBlock=some k->w.heap.size<=k):=by
 have F:ao W v (FT n x y):=C.mono (λk _ d=>by
  obtain d|d|d:=d
  exact .inl d;exact .inr (.inl (h.ef▸d))
  ·exact .inr (.inr (h.el▸d)))
 have P:=gZ H.c3;have M:=gZ H.c4;refine⟨_,m,f,D,⟨?_,?_,?_,cG (by simp;omega),?_,K,L⟩,⟨W,h.st,F,?_,nl.imp (λe=>e.trans h.el) id⟩,(h.av.trans F).mono (λk _ d=>d.elim id id),nf.trans h.ef,?_⟩
 rw[aN_,aN_];exact H.c0;rw[aN_,aN_];exact H.c1;rw[aN_,aN_];exact H.c2;rw[aN_];exact cG M;intro Q t2 G;rw[I]at G;cases G;exact⟨_,D,by simp,λi hi=>by rw[aN_,aN_]⟩
 obtain e|e:=nl
 exact .inl (e.trans h.el);exact .inr (λk N=>bD h.av.size (e k N))
def Iu(lf:List Kt)(Q:Kt->Bool):lf.any Q=true↔∃i,i<lf.length/\Q (bK lf i)=true:=by
 rw[qY];constructor;rintro⟨x,a,h⟩;obtain⟨i,hi,rfl⟩:=jY.1 a;exact⟨i,hi,by simpa [bK,List.getD,hi]using h⟩
 rintro⟨i,hi,h⟩;exact⟨_,oR hi,h⟩
def Iv(w:World)(sb f r:Nat)(cs:Array Value)(t:TypeId)(j m:Value)(lf ll:List Kt)(count tick wait:Int)(I:w.heap[sb]?=some (.cells cs t (0,0)))(H:iI w r cs f j m lf ll count tick wait)(fa:r<=w.heap.size)(v:pM sb j m)(fb:lf.length<=1000000/\ll.length<=50000000)
 (S:Nat->Prop) (hS:∀k,FT sb j m k->S k) (bb:nr w S (lf++ll)) (a:Option Addr) (n cap:Nat) (l:List Rg) (hs:bw w a n cap l) (hl:0<l.length) (a0:∀y,a=some y->¬FT sb j m y.block/\y.block<w.heap.size) (cC:∀x∈lf,0<=x.1.num/\x.1.num<=4611686018427387903)
 (K:Nat) (lc:Array Value) (ec:∀args w,(callFunc K args).run prog w=.ok (.enter K args) w) (St:List (Int×Pc)->World->Prop) (h0:St [] w)
 (z:∀(W A:World)(a:List (Int×Pc)),St a W->ao W A (FT sb j m)->lE W A sb f->St a A)
 (hC:∀(W:World)(a:List (Int×Pc))(x:Kt)(p:Pc),St a W->x∈lf++ll->p∈x.1.ps->bN l x.1.num=true->Calls prog K (#[.int .i64 x.1.st,.agg (pA p)]++lc) W (λe A=>e=.returned (.tuple #[])/\St (a++[(x.1.st,p)]) A/\W.grownBy A (some sb)/\lF W A sb f)):
 Calls prog 253 #[.pointer (some ⟨sb,f,none⟩),.slice a n cap,.func (.func K) #[] lc] w λe q=>(count<=(au l 0).hi/\e=.returned (.iface 34 (.int .i64 8))/\w.grownBy q none)\/((au l 0).hi<count/\e=.returned .nilIface/\yF w q sb f r t j m lf ll count tick wait St l):=by
 obtain⟨R,T⟩:∃R:Ending->World->Prop,R=λe q=>(count<=(au l 0).hi/\e=.returned (.iface 34 (.int .i64 8))/\w.grownBy q none)\/((au l 0).hi<count/\e=.returned .nilIface/\yF w q sb f r t j m lf ll count tick wait St l):=⟨_,rfl⟩
 rw[<-T];replace T:=J T;have b6:sb<w.heap.size:=(aZ.1 I).1;have hn:n=l.length:=hs.2.1;have ff:=hs.2.2.1;have c9:=hs.2.2.2.1;unfold maxLen at c9;obtain⟨b,o,rfl⟩:∃b o,a=some ⟨b,o,none⟩:=by
  obtain⟨-,h2,h3,-,h5|⟨b,o,rfl,-⟩⟩:=id hs;omega;exact⟨b,o,rfl⟩
 have y1:=(hs.cell 0 hl).2;rw[nV,oM]at y1;obtain⟨hi,L⟩:=exq ((au l 0).hi);rw[<-L]at y1;have i0:(0:Int)<n:=by omega
 have lb:b<w.heap.size:=eE w _ y1;have c0:=(ba I _).trans H.c0;have c3:=(ba I _).trans H.c3;obtain⟨E,U⟩:=exq ((w.alloc (.cells #[.slice (some ⟨b,o,none⟩) n cap] 133)).alloc (.cells #[.int .u64 hi] 30));have g1:w.grownBy E none:=by rw[U];exact aY (aH _ _ _) _
 have db:(w.alloc (.cells #[.slice (some ⟨b,o,none⟩) n cap] 133)).heap.size=w.heap.size+1:=by simp
 have bj:E.heap[w.heap.size]?=some (.cells #[.slice (some ⟨b,o,none⟩) n cap] 133 (0,0)):=by
  rw[U];exact bB (aO _ _) (aH _ _ none)
 have br:E.heap[w.heap.size+1]?=some (.cells #[.int .u64 hi] 30 (0,0)):=by
  rw[U,<-db];exact aO _ _
 have p0:E.cell? ⟨w.heap.size,0,none⟩=some (.slice (some ⟨b,o,none⟩) n cap):=by simp[World.cell?,bj]
 have p1:E.cell? ⟨w.heap.size+1,0,none⟩=some (.int .u64 hi):=by simp[World.cell?,br]
 have d0:=gC_ g1 c0;have d3:=gC_ g1 c3;have A0:kE w w sb f r t j m j m lf ll count tick wait St []:=⟨⟨cs,I,H⟩,h0,ao.rfl' _ _,rfl,rfl⟩
 have b7:∀k,w.heap.size<=k->¬FT sb j m k:=λk M h=>by
  obtain h|h|h:=h
  omega;have:=(H.of.lt k h).2;omega;have:=(H.ol.lt k h).2;omega
 have e1:Hid (count<=hi->∀W,w.grownBy W none->R (.returned (.iface 34 (.int .i64 8))) W):=J (λh W g=>by rw[Z T];exact .inl ⟨by rw[<-L];exact h,rfl,g⟩);replace⟨L,hn,bj,br,I⟩:=eR L hn bj br I;go_enter func253,ntmps253;go_upto_region 2 with fail;rw[<-U];clear U;by_cases bt:count<=hi
 ·have dg:decide (count<=hi)=true:=dO bt;go_quiet (fail);go_wp2_with fail;exact Z e1 bt _ (dy g1 _)
 have dg:decide (count<=hi)=false:=eQ bt;go_quiet (fail);obtain⟨N,bx⟩:=exq (E.drewN nq);have V:E.grownBy N none:=by rw[bx];exact dy (aB _ _) nq
 have bz:=aq g1 V;have A2:=A0.gb z bz;have q0:=gC_ V p0;have q1:=gC_ V p1;have q3:=gC_ V d3;have jk:∀x∈lf,∃a n c,x.2=.slice a n c:=λx F=>by obtain⟨a,n,c,e,-⟩:=bb x (by simp[F]);exact⟨a,n,c,e⟩
 have de:=hs.an bz;obtain⟨B,G,X,dk,dn⟩:=H.of.gK;obtain⟨cb,b8,ca⟩:∃b,(0<lf.length->B=some ⟨b,0,none⟩)/\(∀i,i<lf.length->N.cell? ⟨b,0+i*4,none⟩=some (.int .u64 (bK lf i).1.num)/\N.cell? ⟨b,0+i*4+1,none⟩=some (.int .i64 (bK lf i).1.tick)/\N.cell? ⟨b,0+i*4+2,none⟩=some (.int .i64 (bK lf i).1.st)/\N.cell? ⟨b,0+i*4+3,none⟩=some (bK lf i).2):=by
  by_cases hz:0<lf.length;have ho:=H.of.an bz;rw[X]at ho;obtain⟨b,e,h⟩:=ho.cell hz;exact⟨b,λ_=>e,h⟩
  exact⟨0,λh=>absurd h hz,λi hi=>by omega⟩
 have ds:=J (Bp B cb 0 lf.length G 287 #[] #[.pointer (some ⟨w.heap.size,0,none⟩)] N (λi=>bN l (bK lf i).1.num=true) (λi=>.int .u64 (bK lf i).1.num) (λi=>.int .i64 (bK lf i).1.tick) (λi=>.int .i64 (bK lf i).1.st) (λi=>(bK lf i).2) b8 ⟨dk,dn⟩ (λ_ _=>by kernel_rfl)
  (λW i g hi=>by obtain⟨p0,p1,p2,p3⟩:=ca i hi;exact⟨gC_ g p0,gC_ g p1,gC_ g p2,gC_ g p3⟩)
  (λW i g hi=>by
    apply(BA W w.heap.size (some ⟨b,o,none⟩) n cap l (bK lf i) (gC_ g q0) (de.an g)).mono;rintro e A⟨rfl,g'⟩;exact⟨⟨_,rfl,Iff.rfl⟩,g'⟩))
 clear b8 ca;obtain⟨a1,a2⟩:=exq (lf.any (λx=>bN l x.1.num));have du:Hid (a1=true↔∃i,i<lf.length/\bN l (bK lf i).1.num=true):=J (by rw[a2];exact Iu lf _);replace⟨a2,A0,A2⟩:=cg a2 A0 A2;rw[X]at q3;replace X:=J X;go_upto_region 5 with fail;rw[<-bx];clear bx;go_wp2_with fail;apply(Z ds).mono;rintro e w3⟨ch,g3⟩;obtain rfl:=sq ch (Z du);clear ch;have Y:=(Z A2).gb z g3;have fo:=aq V g3;have r0:=gC_ g3 q0;have r1:=gC_ g3 q1;obtain⟨fq,a3,HA⟩:=Y.fl;have k2:=(ba a3 _).trans HA.c2;have f2:w3.frozen? ⟨sb,f+2,none⟩=false:=fZ_ a3;replace⟨a3,Y⟩:=bA a3 Y;go_upto_if 26 with fail;go_cut [] (λwx=>kE w wx sb f r t j m j m lf ll count tick (if a1 then 4 else wait) St []/\w3.grownBy wx (some sb));case first=>
  cases a1
  ·go_wp2_with fail;go_meet;exact⟨by simpa using Z Y,aB _ _⟩
  go_wp2_with fail;go_meet;exact⟨by simpa using (Z Y).set v z 4,aK (aB _ _) _ _ (.inr rfl)⟩
 case rest=>
  rename World=>w4
  obtain⟨s,cj⟩:=hcut;obtain⟨la,O,dx,-⟩:=H.ol.gK;have dE:=Z X;subst dE;subst dx;obtain⟨Q,hQ⟩:∃Q:Kt->Bool,Q=λx=>bN l x.1.num:=⟨_,rfl⟩
  obtain⟨wt,cp⟩:=exq ((if a1 then 4 else wait));rw[<-cp]at s;have bM:w.heap.size≠sb:=by omega
  have P:w.heap.size+1≠sb:=by omega
  have s0:=cj.cell r0 (λe=>bM (aQ e));have s1:=cj.cell r1 (λe=>P (aQ e));have b0:¬FT sb (.slice B lf.length G) (.slice la ll.length O) w.heap.size:=b7 _ (aR _);have a4:¬FT sb (.slice B lf.length G) (.slice la ll.length O) (w.heap.size+1):=b7 _ (by omega);have cv:∀W,ao w W (FT sb (.slice B lf.length G) (.slice la ll.length O))->bw W (some ⟨b,o,none⟩) n cap l:=λW C=>hs.dr (λ_ y ey=>C.block _ (a0 y ey).2 (a0 y ey).1)
  have cw:∀W,ao w W (FT sb (.slice B lf.length G) (.slice la ll.length O))->l≠[]->∀y,some (⟨b,o,none⟩:Addr)=some y->¬FT sb (.slice B lf.length G) (.slice la ll.length O) y.block/\y.block<W.heap.size:=λW C _ y ey=>⟨(a0 y ey).1,bX (a0 y ey).2 C.size⟩
  have b3:=J (BB s v b6 z S hS lf _ (.inl ⟨rfl,rfl⟩) ((bb.sub (λx F=>by simp[F])).av s.av (λk _ M=>hS k M)) w.heap.size _ n cap l s0 b0 (cv _ s.av) (cw _ s.av) K lc ec (λW a x p h1 h2 h3 h4=>hC W a x p h1 (by simp[h2]) h3 h4));have e3:w4.cell? ⟨sb,f+3,none⟩=some (.slice B lf.length G):=by
   obtain⟨c4,dG,H4⟩:=s.fl;rw[ba dG];exact H4.c3
  rw[jZ]at b3;replace s:=J s;clear r0 r1 q0 q1 q3 k2 f2 p0 p1 d0 d3 c0 c3;go_upto_region 7 with fail;go_wp2_with fail;apply(Z b3).mono;rintro e w5⟨v5,rfl,o5,h5,cx,C5,K5⟩;obtain⟨a5,c5,rfl,-⟩:=o5.gK;obtain⟨u,z3,z4⟩:=(Z s).aM v z o5 h5 cx C5 K5;have ea:=C5.cell s0 (λd=>by obtain d|d:=d;exact bM d;exact b0 (.inr (.inl d)));have ee:=C5.cell s1 (λd=>by obtain d|d:=d;exact P d;exact a4 (.inr (.inl d)));obtain⟨W6,al⟩:=exq (w5.setCell ⟨sb,f+3,none⟩ (.slice a5 (lf.filter (λx=> !bN l x.1.num)).length c5));rw[<-al]at u;have g6:w5.grownBy W6 (some sb):=by rw[al];exact aK (aB _ _) _ _ (.inr rfl)
  have eg:=g6.cell ea (λe=>bM (aQ e));have ei:=g6.cell ee (λe=>P (aQ e));have cy:=J (BB u v b6 z S hS ll _ (.inr ⟨rfl,rfl⟩) ((bb.sub (λx F=>by simp[F])).av u.av (λk _ M=>hS k M)) w.heap.size _ n cap l eg b0 (cv _ u.av) (cw _ u.av) K lc ec (λW a x p h1 h2 h3 h4=>hC W a x p h1 (by simp[h2]) h3 h4));have e4:W6.cell? ⟨sb,f+4,none⟩=some (.slice la ll.length O):=by
   obtain⟨c6,ej,H6⟩:=u.fl;rw[ba ej];exact H6.c4
  replace⟨u,al⟩:=bA u al;clear o5 cx C5 K5 h5 b3 e3;go_upto_region 8 with fail;rw[<-Z al];go_wp2_with fail;apply(Z cy).mono;rintro e w7⟨v7,rfl,o7,h7,cA,C7,K7⟩;obtain⟨a7,c7,rfl,-⟩:=o7.gK;obtain⟨D,z7,z8⟩:=(Z u).Ir v z o7 h7 cA C7 K7;have ek:=C7.cell ei (λd=>by obtain d|d:=d;exact P d;exact a4 (.inr (.inr d)));obtain⟨W8,ax⟩:=exq (w7.setCell ⟨sb,f+4,none⟩ (.slice a7 (ll.filter (λx=> !bN l x.1.num)).length c7));rw[<-ax]at D;have g8:w7.grownBy W8 (some sb):=by rw[ax];exact aK (aB _ _) _ _ (.inr rfl)
  have eo:=g8.cell ek (λe=>P (aQ e));obtain⟨cB,a8,H8⟩:=D.fl;have b4:=D.ef;have b5:=D.el;have fs:=nP (λx:Kt=> !bN l x.1.num) lf;have fy:=nP (λx:Kt=> !bN l x.1.num) ll;have fA:=D.av.size;have ew:=J (By W8 sb f r 290 #[.pointer (some ⟨w.heap.size+1,0,none⟩)] cB t _ _ _ _ count tick wt (λx=>decide (x.1.num+3<=hi)) a8 H8 (by omega) (by rw[b4];exact v.1) (by rw[b5];exact v.2.1) (λk M=>by rw[b5];exact v.2.2 k (b4▸M)) (by omega) (λx F=>jk x ((iG.1 F).1)) (λ_ _=>by kernel_rfl)
   (λW i C ez=>Im W (w.heap.size+1) hi _ (C.cell eo (λd=>by
     obtain d|d|d:=d
     exact P d;exact a4 (.inr (.inl (b4▸d)))
     ·exact a4 (.inr (.inr (b5▸d))))) (cC _ (iG.1 (oR ez)).1)))
  have eK:Hid (∀q,(∃a9 aC,q.heap[sb]?=some (.cells ((cB.setIfInBounds (f+4) aC).setIfInBounds (f+3) a9) t (0,0))/\cf q r a9 ((lf.filter (λx=> !bN l x.1.num)).filter (λx=> !decide (x.1.num+3<=hi)))/\cf q r aC (ll.filter (λx=> !bN l x.1.num)++(lf.filter (λx=> !bN l x.1.num)).filter (λx=>decide (x.1.num+3<=hi)))/\ao W8 q (FT sb (.slice a5 (lf.filter (λx=> !bN l x.1.num)).length c5) (.slice a7 (ll.filter (λx=> !bN l x.1.num)).length c7))/\a9.ownBlock=(Value.slice a5 (lf.filter (λx=> !bN l x.1.num)).length c5).ownBlock/\(aC.ownBlock=(Value.slice a7 (ll.filter (λx=> !bN l x.1.num)).length c7).ownBlock\/∀k,aC.ownBlock=some k->W8.heap.size<=k))->R (.returned .nilIface) q):=J (by
   rintro q⟨a9,aC,eL,eS,e5,C',e6,e7⟩;rw[Z T];refine .inr ⟨by rw[<-Z L];omega,rfl,?_⟩;have e8:=D.Is z a8 H8 eL eS e5 C' e6 e7;unfold yF;rw[<-Z a2,<-cp,<-Z L];exact e8)
  replace⟨D,ax,a8⟩:=cg D ax a8;clear o7 cA C7 K7 h7 cy e4 H8;go_upto_region 9 with fail;rw[<-Z ax];go_wp2_with fail;apply(Z ew).mono;rintro e w9⟨rfl,h9⟩;have e9:=J (Z eK w9 h9);clear h9;go_wp2_with fail;exact Z e9
def Iw(w:World)(b c a:Nat)(ls:Array Value)(st:Int)(p:Pc)(q:Bool)(h0:w.cell? ⟨b,0,none⟩=some (.func (.func a) #[] ls))(i:w.cell? ⟨c,2,none⟩=some (.int .i64 st))(u:∀args w,(callFunc a args).run prog w=.ok (.enter a args) w)
 (f:∀W,w.grownBy W none->Calls prog a (#[.int .i64 st,.agg (pA p)]++ls) W (λe j=>e=.returned (.bool q)/\W.grownBy j none)):
 Calls prog 293 #[.agg (pA p),.pointer (some ⟨b,0,none⟩),.pointer (some ⟨c,0,none⟩)] w λe k=>e=.returned (.bool !q)/\w.grownBy k none:=by
 obtain⟨⟨l,m⟩,n,r⟩:=p;unfold pA at *;simp only at *;have v:b<w.heap.size:=eE w _ h0;have x:c<w.heap.size:=eE w _ i;obtain⟨g,d⟩:=exq (w.alloc (.cells #[.int .u64 l,.int .u64 m,.bool n,.bool r] 377));have h:w.grownBy g none:=by rw[d];exact aH _ _ _
 have s:=J (f g h);clear f;go_enter func293,ntmps293;go_wp2_with fail;rw[<-d];clear d;apply(Z s).mono;rintro e y⟨rfl,t⟩;go_wp2;go_ret;exact⟨rfl,aq h t⟩
def Ix(w:World)(c d:Nat)(ls:Array Value)(x:Kt)(T:Int->Pc->Bool)(pa:Option Addr)(a f:Nat)(B:x.2=.slice pa a f)(hp:kC w pa a f x.1.ps)(h0:w.cell? ⟨c,0,none⟩=some (.func (.func d) #[] ls))(C:∀args w,(callFunc d args).run prog w=.ok (.enter d args) w)
 (s:∀W p,w.grownBy W none->p∈x.1.ps->Calls prog d (#[.int .i64 x.1.st,.agg (pA p)]++ls) W (λe j=>e=.returned (.bool (T x.1.st p))/\W.grownBy j none)):
 Calls prog 291 #[.agg (kA x),.pointer (some ⟨c,0,none⟩)] w λe D=>e=.returned (.bool (x.1.ps.all (T x.1.st)))/\w.grownBy D none:=by
 obtain⟨⟨num,tk,st,ps⟩,O⟩:=x;simp only at *;subst B;unfold kA;simp only
 have P:c<w.heap.size:=eE w _ h0;obtain⟨m,k⟩:=exq (w.alloc (.cells #[.int .u64 num,.int .i64 tk,.int .i64 st,.slice pa a f] 325));have l:w.grownBy m none:=by rw[k];exact aH _ _ _
 have n:m.heap[w.heap.size]?=some (.cells #[.int .u64 num,.int .i64 tk,.int .i64 st,.slice pa a f] 325 (0,0)):=by rw[k];exact aO _ _
 obtain⟨-,-,b2,-⟩:=l7 n;have E:=gC_ l h0;have t:=hp.an l;obtain⟨b,o,q⟩:∃b o,0<a->pa=some ⟨b,o,none⟩:=by
  by_cases F:0<a;obtain⟨-,Q,R,-,S|⟨b,o,rfl,-⟩⟩:=id hp;omega;exact⟨b,o,λ_=>rfl⟩
  exact⟨0,0,λh=>absurd h F⟩
 have u:a=ps.length:=hp.2.1;have G:=J (HP pa b o a f 293 #[] #[.pointer (some ⟨c,0,none⟩),.pointer (some ⟨w.heap.size,0,none⟩)] m (λi=>(!T st (fO ps i))=true) (λi=>.int .u64 (fO ps i).x.lo) (λi=>.int .u64 (fO ps i).x.hi) (λi=>.bool (fO ps i).e) (λi=>.bool (fO ps i).g) q ⟨hp.2.2.1,hp.2.2.2.1⟩ (λ_ _=>by kernel_rfl)
  (λW i g hi=>by
    have v:=t.an g;rw[q (by omega)]at v;exact v.cell i (by omega))
  (λW i g hi=>by
    apply(Iw W c w.heap.size d ls st (fO ps i) (T st (fO ps i)) (gC_ g E) (gC_ g b2) C (λj r=>s j _ (aq l (aq g r)) (vW (by omega)))).mono;rintro e j⟨rfl,r⟩;exact⟨⟨_,rfl,Iff.rfl⟩,r⟩))
 have y:Hid ((!ps.all (T st))=true↔∃i,i<a/\(!T st (fO ps i))=true):=J (by
  rw[u,Bool.not_eq_true',<-Bool.not_eq_true,List.all_eq_true];constructor;intro h;apply As;intro H;apply h;intro p I;obtain⟨i,hi,rfl⟩:=jY.1 I;have K:fO ps i=ps[i]:=by simp[fO,List.getD,hi]
  cases L:T st ps[i];exact absurd ⟨i,hi,by rw[K,L];rfl⟩ H;rfl
  ·rintro⟨i,hi,h⟩ M;have:=M _ (vW hi);rw[this]at h;cases h)
 obtain⟨U,z⟩:=exq (ps.all (T st));rw[<-z]at y⊢;clear z u hp t q s;replace n:=J n;go_enter func291,ntmps291;go_wp2_with fail;rw[<-k];clear k;apply(Z G).mono;rintro e V⟨A,N⟩;obtain rfl:=sq A (Z y);clear A;go_wp2;go_ret;exact⟨by simp,aq l N⟩
def Iy(w:World)(sb m s:Nat)(cs:Array Value)(t:TypeId)(G d:Value)(lf ll:List Kt)(count tick wait:Int)(z:w.heap[sb]?=some (.cells cs t (0,0)))(H:iI w s cs m G d lf ll count tick wait)(I:pM sb G d)(S:Nat->Prop)(bb:∀k,FT sb G d k->S k)(K:nr w S ll)(l:Nat)(ls:Array Value)(T:Int->Pc->Bool)(es:∀args w,(callFunc l args).run prog w=.ok (.enter l args) w)
 (P:∀(W:World)(x:Kt)(p:Pc),ao w W (λk=>d.ownBlock=some k)->x∈ll->p∈x.1.ps->Calls prog l (#[.int .i64 x.1.st,.agg (pA p)]++ls) W (λe A=>e=.returned (.bool (T x.1.st p))/\W.grownBy A none)):
 Calls prog 254 #[.pointer (some ⟨sb,m,none⟩),.func (.func l) #[] ls] w λe b=>e=.returned (.tuple #[])/\∃j,b.heap[sb]?=some (.cells (cs.setIfInBounds (m+4) j) t (0,0))/\cf b s j (ll.filter (λx=> !x.1.ps.all (T x.1.st)))/\j.ownBlock=d.ownBlock/\ao w b (λk=>k=sb\/d.ownBlock=some k):=by
 obtain⟨R,B⟩:=exq (λb:World=>∃j,b.heap[sb]?=some (.cells (cs.setIfInBounds (m+4) j) t (0,0))/\cf b s j (ll.filter (λx=> !x.1.ps.all (T x.1.st)))/\j.ownBlock=d.ownBlock/\ao w b (λk=>k=sb\/d.ownBlock=some k));have Q:(λ(e:Ending) b=>e=.returned (.tuple #[])/\∃j,b.heap[sb]?=some (.cells (cs.setIfInBounds (m+4) j) t (0,0))/\cf b s j (ll.filter (λx=> !x.1.ps.all (T x.1.st)))/\j.ownBlock=d.ownBlock/\ao w b (λk=>k=sb\/d.ownBlock=some k))=λe b=>e=.returned (.tuple #[])/\R b:=by rw[B]
 rw[Q];clear Q;replace B:=J B;have cB:sb<w.heap.size:=(aZ.1 z).1;have c4:=(ba z _).trans H.c4;have cC:=gZ H.c4;obtain⟨q,C⟩:=exq (w.alloc (.cells #[.func (.func l) #[] ls] 390));have u:w.grownBy q none:=by rw[C];exact aH _ _ _
 have D:q.heap[w.heap.size]?=some (.cells #[.func (.func l) #[] ls] 390 (0,0)):=by rw[C];exact aO _ _
 have br:w.heap.size<q.heap.size:=(aZ.1 D).1;have L:=bB z u;obtain⟨va,E,U,bx,V⟩:=H.ol.gK;have bz:∀k,d.ownBlock=some k->k<w.heap.size:=λk e=>(H.ol.lt k e).2
 have M:Hid (Calls prog 236 #[d,.func (.func 291) #[] #[.pointer (some ⟨w.heap.size,0,none⟩)]] q (λe b=>∃a n c,e=.returned (.slice a n c)/\cf b s (.slice a n c) (ll.filter (λx=> !x.1.ps.all (T x.1.st)))/\(Value.slice a n c).ownBlock=d.ownBlock/\ao q b (λk=>d.ownBlock=some k))):=by
  subst U;by_cases X:ll=[]
  subst X;refine J ((yD va E _ _ q V (λ_ _=>by kernel_rfl)).mono ?_);rintro e b⟨rfl,rfl⟩;exact⟨_,_,_,rfl,H.ol.an u,rfl,ao.rfl' _ _⟩
  have bM:=oI.2 X;obtain⟨g,rfl,-⟩:=H.ol.cell bM;obtain⟨b0,b3,b4⟩:=(H.ol.an u).mid;have b5:sb≠g:=λe=>I.2.1 (by rw[e];rfl)
  have M:=yC g ll.length E s 291 sb #[.pointer (some ⟨w.heap.size,0,none⟩)] ll q (λh=>(bK ll h).1.ps.all (T (bK ll h).1.st)) (λ_ W=>ao q W (λk=>(Value.slice (some ⟨g,0,none⟩) ll.length E).ownBlock=some k)) b3 b0 rfl ⟨bx,V⟩ (λx hx=>by obtain⟨a,n,c,e,-⟩:=K x hx;exact⟨a,n,c,e⟩) b4 (by omega) b5 (λ_ _=>by kernel_rfl) (ao.rfl' _ _)
   (λW A h hi gg=>(hi.trans (ao.of gg)).mono (λk _ f=>f.elim id id))
   (λW h hi f=>by
     have Y:=oR f;obtain⟨pa,pn,pp,b8,ca,aC⟩:=K _ Y;have a0:ao w W (λk=>(Value.slice (some ⟨g,0,none⟩) ll.length E).ownBlock=some k):=((ao.of u).trans hi).mono (λk _ f=>f.elim (λe=>by cases e) id);have ch:kC W pa pn pp (bK ll h).1.ps:=ca.dr (λ_ y ey=>a0.block _ (aC y ey).2 (λht=>(aC y ey).1 (bb _ (.inr (.inr ht)))));have cp:=(hi.block w.heap.size br (λe=>by have:=bz _ e;omega)).trans D;apply(Ix W w.heap.size l ls (bK ll h) T pa pn pp b8 ch (by simp[World.cell?,cp]) es (λA p F cv=>P A _ p (a0.grow F) Y cv)).mono;rintro e A⟨rfl,F⟩;exact⟨rfl,hi.grow F,dd F _⟩)
  refine J (M.mono ?_);have cw:kp ll (λh=>(bK ll h).1.ps.all (T (bK ll h).1.st)) ll.length=ll.filter (λx=> !x.1.ps.all (T x.1.st)):=by
   rw[yB ll _ (λx=>x.1.ps.all (T x.1.st)) (λi _=>rfl) _ (aR _),oK]
  rw[cw];rintro e b⟨rfl,ho,cx⟩;exact⟨_,_,_,rfl,ho,rfl,cx⟩
 have cy:Hid (∀(r:World)(v:Value),cf r s v (ll.filter (λx=> !x.1.ps.all (T x.1.st)))->v.ownBlock=d.ownBlock->ao q r (λk=>d.ownBlock=some k)->R (r.setCell ⟨sb,m+4,none⟩ v)/\r.cell? ⟨sb,m+4,none⟩=some d/\r.frozen? ⟨sb,m+4,none⟩=false):=J (λr v h1 h2 h3=>by
  have N:=(h3.block sb (by omega) (λe=>I.2.1 e)).trans L;have l:=aK (aB r (some sb)) ⟨sb,m+4,none⟩ v (.inr rfl);refine⟨?_,by rw[ba N];exact H.c4,by simp[World.frozen?,N]⟩
  rw[Z B];refine⟨v,heap_set N _,h1.gb l (.inr (by rw[h2];exact I.2.1)),h2,(((ao.of u).trans h3).trans (ao.of l)).mono (λk _ f=>?_)⟩
  obtain(f|f)|f:=f
  cases f;exact .inr f
  ·exact .inl (aQ f).symm)
 have d4:=gC_ u c4;clear P K H c4;subst U;replace⟨D,L,z⟩:=cg D L z;go_enter func254,ntmps254;go_upto_region 1 with fail;rw[<-C];clear C;go_wp2_with fail;apply(Z M).mono;rintro e r⟨a5,n5,c5,rfl,o5,e5,C5⟩;obtain⟨O,z5,f5⟩:=Z cy r _ o5 e5 C5;replace O:=J O;clear o5 e5 C5;go_wp2_with fail;exact fm (eF rfl _ _ _) rfl ⟨rfl,Z O⟩
def ke(r:Int):Int:=if r<=64 then r-1 else if r=65 then 63 else r-2
def Iz(h:yz r p)(l:r<=1000):p=ke r:=by
 obtain⟨m,i,j,f,d⟩:=h;unfold ke;by_cases a:r-1<=0;rw[iP_];exact i a;have n:=j (by omega);by_cases b:r<=64;rw[aD b];apply As;intro g;have:=d (r-1) (by omega) (cS _);unfold cH at this;rw[iP_]at this;omega;rw[az b];by_cases c:r=65;subst c;rw[aD rfl];have k:p≠64:=λe=>by
  subst e;have:=f (by omega);unfold cH at this;simp at this
 apply As;intro g;have:=d 63 (by omega) (by omega);unfold cH at this;simp at this;rw[az c];have k:p≠r-1:=λe=>by
  have:=f (by omega);unfold cH at this;rw[iN_,iP_]at this;omega
 apply As;intro g;have:=d (r-2) (by omega) (by omega);unfold cH at this;rw[iN_,iP_]at this;omega
def Ot.en(o:Ot):Int:=o.h.fr+o.h.bytes.length
def Ot.gy(o:Ot)(d:List Rg):Rg:=if d.length=0 then⟨o.en,o.en⟩else au d 0
def Ot.iu(o:Ot)(d:List Rg)(b:Bool)(a:Int):Pc×Bool:=
 if ke (a-(2+cH (o.gy d).lo))<0 then(⟨⟨0,0⟩,false,false⟩,false)
 else(⟨⟨(o.gy d).lo,min (o.gy d).hi ((o.gy d).lo+ke (a-(2+cH (o.gy d).lo)))⟩,o.sE&&(min (o.gy d).hi ((o.gy d).lo+ke (a-(2+cH (o.gy d).lo)))==o.en),false⟩,decide ((o.gy d).lo<min (o.gy d).hi ((o.gy d).lo+ke (a-(2+cH (o.gy d).lo))))||((o.sE&&(min (o.gy d).hi ((o.gy d).lo+ke (a-(2+cH (o.gy d).lo)))==o.en))&&b))
def IA(w:World)(sb O:Nat)(ab:Option Addr)(nb cb:Nat)(ac:Option Addr)(nc cc:Nat)(o:Ot)(H:gV w sb O ab nb cb ac nc cc o.h)(T:j9 w sb O o)(hG:o.sG=false)(a:Option Addr)(n cap:Nat)(d:List Rg)(hs:bw w a n cap d)(t dG:Bool)(p:Int)(eS: -1000<=p/\p<=1000)(hd:∀r∈d,0<=r.lo/\r.lo<=r.hi/\r.hi<=4611686018427387903):
 Calls prog 242 #[.pointer (some ⟨sb,O,none⟩),.agg #[.slice a n cap,.bool t,.bool dG],.int .i64 p] w λr P=>r=.returned (.tuple #[.agg (pA (o.iu d t p).1),.bool (o.iu d t p).2])/\w.grownBy P none:=by
 have bz:=J (λW(g:w.grownBy W none)=>yq W sb O o (T.an g));rw[hG]at bz;have C:=J (λW(g:w.grownBy W none)=>AV W sb O ab nb cb ac nc cc o.h (H.an g));have ej:=H.2.2.2.2.2;have cy:0<=(o.gy d).lo/\(o.gy d).lo<=(o.gy d).hi/\(o.gy d).hi<=4611686018427387903:=by
  unfold Ot.gy Ot.en;split;obtain⟨k0,k1,-⟩:=ej;simp only;omega;exact hd _ (pI (by omega))
 obtain⟨c3,c4,c5,c6,c7,c8,-,-⟩:=T;obtain⟨en,a9⟩:=exq o.en;have cA:o.h.fr+(o.h.bytes.length:Int)=en:=a9.symm;rw[cA]at C;have bb:=J (λW=>HI (o.gy d).lo p W (by omega));obtain⟨X,hX⟩:=exq (o.gy d);obtain⟨res,bM⟩:=exq (o.iu d t p);have Q:Hid (res=if ke (p-(2+cH X.lo))<0 then(⟨⟨0,0⟩,false,false⟩,false)
  else(⟨⟨X.lo,min X.hi (X.lo+ke (p-(2+cH X.lo)))⟩,o.sE&&(min X.hi (X.lo+ke (p-(2+cH X.lo)))==en),false⟩,decide (X.lo<min X.hi (X.lo+ke (p-(2+cH X.lo))))||((o.sE&&(min X.hi (X.lo+ke (p-(2+cH X.lo)))==en))&&t))):=J (by rw[bM,hX,a9];rfl)
 rw[<-hX]at bb cy;rw[<-bM];have cB:Hid (X=if n=0 then⟨en,en⟩else au d 0):=J (by rw[hX,a9,hs.2.1];rfl);obtain⟨c,R⟩:=X;simp only at bb cy Q;clear bM hX a9 cA;obtain⟨S,U⟩:=exq (w.alloc (.cells #[.slice a n cap,.bool t,.bool dG] 332));have g1:w.grownBy S none:=by rw[U];exact aH _ _ _
 have b0:S.heap[w.heap.size]?=some (.cells #[.slice a n cap,.bool t,.bool dG] 332 (0,0)):=by rw[U];exact aO _ _
 have b3:S.heap.size=w.heap.size+1:=by rw[U];simp
 obtain⟨W2,bj⟩:=exq (S.alloc (.cells #[.int .u64 0,.int .u64 0,.bool false,.bool false] 377));have g2:S.grownBy W2 none:=by rw[bj];exact aH _ _ _
 have cC:W2.heap[w.heap.size+1]?=some (.cells #[.int .u64 0,.int .u64 0,.bool false,.bool false] 377 (0,0)):=by rw[bj,<-b3];exact aO _ _
 have c9:=bB b0 g2;have db:=aq g1 g2;replace⟨b0,b3⟩:=bA b0 b3;have e3:sb<w.heap.size:=eE w _ c3;go_enter func242,ntmps242;go_upto_region 1 with fail;rw[<-U,<-bj];clear U bj;go_wp2_with fail;apply(Z bz _ db).mono;rintro e l⟨rfl,g3⟩;have M:=aq db g3;have b4:=J (bB cC g3);have de:=J (bB c9 g3);clear cC c9;have V:l.grownBy l.drew none:=aV (aB _ _);go_upto_region 3 with fail;go_cut [8] (λv wx=>∃B:Nat,v=.pointer (some ⟨B,0,none⟩)/\l.heap.size<=B/\wx.heap[B]?=some (.cells #[.int .u64 en,.int .u64 en] 341 (0,0))/\l.grownBy wx none);case first=>
  go_region_held3 (λP=>l.grownBy P none)
   (with_reducible first|exact u|exact q|exact V|exact aV (aY (aB _ _) _)|exact aY V _|exact aY q _|exact aY u _|exact aK (aK u _ _ (.inl (aR _))) _ _ (.inl (aR _))|exact aK (aK u _ _ (.inl q.size)) _ _ (.inl q.size))
   (first
     |(go_at_call 196;apply(Z C l.drew (aq M V)).mono;rintro e s⟨rfl,x⟩;have q:l.grownBy s none:=aq V x)
     |(go_at_call 196;apply(Z C (l.alloc (.cells #[.int .u64 0,.int .u64 0] 341)).drew (aq M (aV (aH _ _ _)))).mono;rintro e s⟨rfl,x⟩;have q:l.grownBy s none:=aq (aV (aH _ _ _)) x;have ek:=J (yv x))
     |(go_at_call 196;apply(Z C (s.alloc (.cells #[.int .u64 0,.int .u64 0] 341)) (aq M (aY q _))).mono;rintro e y⟨rfl,E⟩;have u:l.grownBy y none:=aq (aY q _) E;have A:=bB (aO s _) E;obtain⟨⟨k0,k1⟩,z0,z1⟩:=pL A;replace A:=J A)
     |(go_at_call 196;apply(Z C s (aq M q)).mono;rintro e y⟨rfl,E⟩;have u:l.grownBy y none:=aq q E;have A:=bB (Z ek) E;obtain⟨⟨k0,k1⟩,z0,z1⟩:=pL A;replace A:=J A)
     |(go_at_call 196;apply(Z C s (aq M q)).mono;rintro e y⟨rfl,E⟩;have u:l.grownBy y none:=aq q E))
  ·go_wp2_with fail;go_meet;exact⟨_,rfl,u.size,aO _ _,aY u _⟩
  ·go_wp2_with fail;go_meet;exact⟨_,rfl,q.size,heap_set (heap_set (Z A) _) _,aK (aK u ⟨s.heap.size,0,none⟩ _ (.inl q.size)) ⟨s.heap.size,1,none⟩ _ (.inl q.size)⟩
  go_wp2_with fail;go_meet;exact⟨_,rfl,aR _,heap_set (heap_set (Z A) _) _,aK (aK u ⟨l.heap.size,0,none⟩ _ (.inl (aR _))) ⟨l.heap.size,1,none⟩ _ (.inl (aR _))⟩
 case rest=>
  rename World=>w4
  obtain⟨B,rfl,hB,al,F⟩:=hcut;have dg:=aq M F;have br:=bB (Z de) F;have b5:=bB (Z b4) F;have eo:w.heap.size+1<l.heap.size:=(aZ.1 (Z b4)).1;obtain⟨⟨t0,t1,t2⟩,-,-,-⟩:=rq br;obtain⟨⟨u0,u1⟩,v0,v1⟩:=pL al;have ax:=hs.an dg;have e5:=hs.2.2.1;have ew:=hs.2.2.2.1;unfold maxLen at ew;have dk:B≠w.heap.size:=by omega
  have ds:B≠w.heap.size+1:=by omega
  have e6:B≠sb:=by omega
  replace⟨br,b5,al⟩:=cg br b5 al;clear V de b4;go_upto_if 44 with fail;go_cut [] (λwx=>wx.heap[B]?=some (.cells #[.int .u64 c,.int .u64 R] 341 (0,0))/\w4.grownBy wx (some B));case first=>
   by_cases hz:n=0
   ·subst hz;have N:=Z cB;simp only[fu]at N;cases N;go_wp2;go_meet;exact⟨Z al,aB _ _⟩
   obtain⟨b,ob,rfl⟩:∃b o,a=some ⟨b,o,none⟩:=by
    obtain⟨-,h2,h3,-,h5|⟨b,o,rfl,-⟩⟩:=id hs;omega;exact⟨b,o,rfl⟩
   have N:=Z cB;rw[az hz]at N;obtain⟨y0,y1⟩:=ax.cell 0 (by have:=hs.2.1;omega);rw[<-N,nV,oM]at y0 y1;simp only at y0 y1;clear N;have i0:(0:Int)<n:=by omega
   go_wp2;go_meet;exact⟨heap_set (heap_set (Z al) _) _,aK (aK (aB w4 (some B)) ⟨B,0,none⟩ _ (.inr rfl)) ⟨B,1,none⟩ _ (.inr rfl)⟩
  case rest=>
   rename World=>s
   obtain⟨aC,x⟩:=hcut;have b6:=(x.block w.heap.size (bX (by omega) F.size) (λe=>dk (aQ e).symm)).trans (Z br);have a0:=(x.block (w.heap.size+1) (bX eo F.size) (λe=>ds (aQ e).symm)).trans (Z b5);obtain⟨⟨u0,u1⟩,v0,v1⟩:=pL aC;clear t0 t1 t2 ax;have b7:w.grownBy s none:=pB (aq (dd dg (some B)) x);obtain⟨m,hm⟩:=exq (ke (p-(2+cH c)));have e7:=tX c;have e8: -1100<=m/\m<=1000:=by
    rw[hm];unfold ke;split;omega;split<;>omega
   rw[<-hm]at Q;have ey:Hid (∀j,yz (p-(2+cH c)) j->j=m):=J (λj h=>by rw[hm];exact Iz h (by omega));clear hm;replace⟨aC,a0,b6⟩:=cg aC a0 b6;go_upto_region 6 with fail;go_wp2_with fail;apply(Z bb _).mono;rintro e y⟨j,rfl,du,rfl⟩;obtain rfl:=Z ey j du;clear du;by_cases bt:j<0
   ·have dn:decide (j<0)=true:=dO bt;have G:Hid (res=(⟨⟨0,0⟩,false,false⟩,false)):=J (by rw[Z Q,aD bt]);obtain⟨r0,r1,r2,r3⟩:=l7 (Z a0);have a1:∀i,y.frozen? ⟨w.heap.size+1,i,none⟩=false:=λi=>by simp[World.frozen?,Z a0]
    have z0:=a1 0;have z1:=a1 1;have z2:=a1 2;have z3:=a1 3;clear a1;go_wp2_with fail;refine cF (v:=.tuple #[.agg #[.int .u64 0,.int .u64 0,.bool false,.bool false],.bool false]) ?_ rfl ⟨by rw[Z G];rfl,aK (aK (aK (aK b7 ⟨w.heap.size+1,0,none⟩ _ (.inl (bZ _))) ⟨w.heap.size+1,1,none⟩ _ (.inl (bZ _))) ⟨w.heap.size+1,2,none⟩ _ (.inl (bZ _))) ⟨w.heap.size+1,3,none⟩ _ (.inl (bZ _))⟩;simp[results,results242,go_sem, *]
   have dn:decide (j<0)=false:=eQ bt;obtain⟨h,hh⟩:=exq (min R (c+j));have G:Hid (res=(⟨⟨c,h⟩,o.sE&&(h==en),false⟩,decide (c<h)||((o.sE&&(h==en))&&t))):=J (by rw[Z Q,az bt,hh]);have e9:IntKind.u64.wrap j=j:=by rw[fD];omega
   have fa:IntKind.u64.wrap (c+j)=c+j:=by rw[fD];omega
   have dE:Hid (h=if c+j<R then c+j else R):=J (by rw[hh];split<;>omega);clear hh Q;go_upto_region 9 with fail;go_cut [] (λwx=>wx.heap[B]?=some (.cells #[.int .u64 c,.int .u64 h] 341 (0,0))/\y.grownBy wx (some B));case first=>
    by_cases ea:c+j<R
    ·have a2:=Z dE;rw[aD ea]at a2;subst a2;go_wp2;go_meet;exact⟨heap_set (Z aC) _,aK (aB y (some B)) ⟨B,1,none⟩ _ (.inr rfl)⟩
    have a2:=Z dE;rw[az ea]at a2;subst a2;go_wp2;go_meet;exact⟨heap_set (Z aC) _,aK (aB y (some B)) ⟨B,1,none⟩ _ (.inr rfl)⟩
   case rest=>
    rename World=>f
    obtain⟨b8,g7⟩:=hcut;have fb:=b7.size;have ca:=(g7.block w.heap.size (by have:=F.size;have:=x.size;omega) (λe=>dk (aQ e).symm)).trans (Z b6);have ch:=(g7.block (w.heap.size+1) (by have:=F.size;have:=x.size;omega) (λe=>ds (aQ e).symm)).trans (Z a0);have cj:w.grownBy f none:=pB (aq (dd b7 (some B)) g7);obtain⟨⟨u0,u1⟩,-,-⟩:=pL b8;have ez:=kc u0;have eK:=kc u1;have e4:=gC_ cj c4;have ee:=kc e4;have ff:B<f.heap.size:=eE f _ u0;have fo:sb<f.heap.size:=eE f _ e4;have bx:f.grownBy f.drew none:=aV (aB _ _);have cp:=J (λW(g:f.grownBy W none)=>Z C W (aq cj g));obtain⟨sE,eg⟩:=exq o.sE;rw[<-eg]at e4 ee G;clear eg;obtain⟨I,a3⟩:=exq ((sE&&(h==en)));rw[<-a3]at G;replace⟨a3,b8,ch,ca⟩:=eV a3 b8 ch ca;clear v0 v1;go_upto_region 10 with fail;go_cut [10] (λv wx=>∃Y:Nat,v=.pointer (some ⟨Y,0,none⟩)/\f.heap.size<=Y/\wx.heap[Y]?=some (.cells #[.int .u64 c,.int .u64 h,.bool I,.bool false] 377 (0,0))/\f.grownBy wx none);case first=>
     cases sE
     ·have cv:I=false:=by rw[Z a3];rfl
      subst cv;go_big_region;all_goals
       go_wp2
       go_meet
       exact⟨_,rfl,aR _,aO f _,aV (aY (aB _ _) _)⟩
     have cv:I=(h==en):=by rw[Z a3];rfl
     subst cv;clear u0 u1 e4;go_region_held3 (λP=>f.grownBy P none)
      (with_reducible first|exact K|exact bx|exact aV (aY (aB _ _) _)|exact aY bx _|exact aY K _|exact aK (aK (aK (aK K ⟨f.heap.size,0,none⟩ _ (.inl (aR _))) ⟨f.heap.size,1,none⟩ _ (.inl (aR _))) ⟨f.heap.size,2,none⟩ _ (.inl (aR _))) ⟨f.heap.size,3,none⟩ _ (.inl (aR _)))
      (first
        |(go_at_call 196;apply(Z cp f.drew bx).mono;rintro e k⟨rfl,z⟩;have K:f.grownBy k none:=aq bx z)
        |(go_at_call 196;apply(Z cp (f.alloc (.cells #[.int .u64 0,.int .u64 0,.bool false,.bool false] 377)).drew (aV (aH _ _ _))).mono;rintro e k⟨rfl,z⟩;have K:f.grownBy k none:=aq (aV (aH _ _ _)) z;have D:=yv z;obtain⟨k0,k1,k2,k3⟩:=l7 D;have z0:k.frozen? ⟨f.heap.size,0,none⟩=false:=(by simp[World.frozen?,D]);have z1:k.frozen? ⟨f.heap.size,1,none⟩=false:=(by simp[World.frozen?,D]);have z2:k.frozen? ⟨f.heap.size,2,none⟩=false:=(by simp[World.frozen?,D]);have z3:k.frozen? ⟨f.heap.size,3,none⟩=false:=(by simp[World.frozen?,D]);replace D:=J D))
     ·go_wp2_with fail;go_meet;exact⟨_,rfl,K.size,aO _ _,aY K _⟩
     go_wp2_with fail;go_meet;have ax:=Bu (o:=0) (Z D) (.int .u64 c) (.int .u64 h) (.bool (h==en)) (.bool false);exact⟨_,rfl,aR _,ax.2,pB (aq (dd K _) ax.1) (aR _)⟩
    case rest=>
     rename World=>k
     obtain⟨Y,rfl,hY,cw,z⟩:=hcut;have eL:=aq cj z;have L:=bB (Z ch) z;have cx:=bB (Z ca) z;obtain⟨r0,r1,r2,r3⟩:=l7 L;obtain⟨k0,k1,k2,k3⟩:=l7 cw;obtain⟨⟨t0,t1,t2⟩,-,-,-⟩:=rq cx;have x0:=gC_ z u0;have x1:=gC_ z u1;have z0:k.frozen? ⟨w.heap.size+1,0,none⟩=false:=fZ_ L;have z1:k.frozen? ⟨w.heap.size+1,1,none⟩=false:=fZ_ L;have z2:k.frozen? ⟨w.heap.size+1,2,none⟩=false:=fZ_ L;have z3:k.frozen? ⟨w.heap.size+1,3,none⟩=false:=fZ_ L;have fq:Y≠w.heap.size+1:=by omega
     have a4:∀W,k.grownBy W none->w.grownBy ((((W.setCell ⟨w.heap.size+1,0,none⟩ (.int .u64 c)).setCell ⟨w.heap.size+1,1,none⟩ (.int .u64 h)).setCell ⟨w.heap.size+1,2,none⟩ (.bool I)).setCell ⟨w.heap.size+1,3,none⟩ (.bool false)) none:=λW g=>aK (aK (aK (aK (aq eL g) ⟨w.heap.size+1,0,none⟩ _ (.inl (bZ _))) ⟨w.heap.size+1,1,none⟩ _ (.inl (bZ _))) ⟨w.heap.size+1,2,none⟩ _ (.inl (bZ _))) ⟨w.heap.size+1,3,none⟩ _ (.inl (bZ _))
     replace⟨a4,L,cx,cw⟩:=eV a4 L cx cw;clear u0 u1 ez eK e4 ee cp C bz bb;go_upto_region 11 with fail;by_cases ei:c<h
     ·have dx:decide (c<h)=true:=dO ei;have a8:Hid (res=(⟨⟨c,h⟩,I,false⟩,true)):=J (by rw[Z G,dx];rfl);go_big_region;go_wp2_with fail;refine cF (v:=.tuple #[.agg #[.int .u64 c,.int .u64 h,.bool I,.bool false],.bool true]) ?_ rfl ⟨by rw[Z a8];rfl,aV (Z a4 k (aB _ _))⟩;simp[results,results242,go_sem, *]
     have dx:decide (c<h)=false:=eQ ei;cases I
     ·have a8:Hid (res=(⟨⟨c,h⟩,false,false⟩,false)):=J (by rw[Z G,dx];rfl);go_big_region;go_wp2_with fail;refine cF (v:=.tuple #[.agg #[.int .u64 c,.int .u64 h,.bool false,.bool false],.bool false]) ?_ rfl ⟨by rw[Z a8];rfl,aV (Z a4 k (aB _ _))⟩;simp[results,results242,go_sem, *]
     have a8:Hid (res=(⟨⟨c,h⟩,true,false⟩,t)):=J (by rw[Z G,dx];simp);go_big_region;go_wp2_with fail;refine cF (v:=.tuple #[.agg #[.int .u64 c,.int .u64 h,.bool true,.bool false],.bool t]) ?_ rfl ⟨by rw[Z a8];rfl,aV (Z a4 k (aB _ _))⟩;simp[results,results242,go_sem, *]
structure gL(w:World)(d:Nat)(cs:Array Value)(b:Nat)(vb vc:Value)(o:Ot):Prop where
 c0:cs[b]?=some (.int .u64 o.h.fr)
 c1:cs[b+1]?=some vb
 c2:cs[b+2]?=some vc
 c3:cs[b+3]?=some (.int .u64 o.ay)
 c4:cs[b+4]?=some (.bool o.sE)
 c5:cs[b+5]?=some (.bool o.sG)
 c6:cs[b+6]?=some (.bool o.tE)
 c7:cs[b+7]?=some (.bool o.tG)
 c8:cs[b+8]?=some (.int .u64 o.code)
 own:bn w d vb o.h.bytes
 set:∃a n c,vc=.slice a n c/\bw w a n c o.h.af
 pN:aS o.ay/\aS o.code
def oe(w a:World)(sb:Nat)(t:TypeId)(cs:Array Value)(c f:Nat)(vb vc:Value)(o:Ot):Prop:=
 ∃d b e,si w a sb t cs d c 9 vb b/\gL a f d c b e o/\yw w a b vc e
def gL.tail(h:gL w k c i x y f)(a:w.heap[n]?=some (.cells c T (0,0))):j9 w n i f:=
 ⟨(ba a _).trans h.c3,(ba a _).trans h.c4,(ba a _).trans h.c5,(ba a _).trans h.c6,(ba a _).trans h.c7,(ba a _).trans h.c8,h.pN⟩
def gL.nm(h:gL w k C i x y f):∃ab nb cb ac nc cc,x=.slice ab nb cb/\y=.slice ac nc cc:=by
 obtain⟨a,n,c,e,-⟩:=h.set;obtain⟨d,g,b,-⟩:=h.own.bs;exact⟨_,_,_,_,_,_,b,e⟩
def gL.hd{ac:Option Addr}(h:gL w i C j (.slice O l m) (.slice ac b n) f)(d:w.heap[k]?=some (.cells C T (0,0)))(g:f.h.nice):gV w k j O l m ac b n f.h:=by
 refine⟨(ba d _).trans h.c0,(ba d _).trans h.c1,(ba d _).trans h.c2,h.own.gT,?_,g⟩
 obtain⟨a,q,c,e,p⟩:=h.set;cases e;exact p
def gL.an(h:gL w k C i x y f)(g:w.grownBy W none):gL W k C i x y f:=
 ⟨h.c0,h.c1,h.c2,h.c3,h.c4,h.c5,h.c6,h.c7,h.c8,h.own.an g,by obtain⟨a,n,c,e,b⟩:=h.set;exact⟨a,n,c,e,b.an g⟩,h.pN⟩
def bE(h:i≠j:=by omega):(c.setIfInBounds i x)[j]?=c[j]? :=Array.getElem?_setIfInBounds_ne h
def vX{ac:Option Addr}(h:∃a n c,Value.slice ac k i=.slice a n c/\bw w a n c D):bw w ac k i D:=by
 obtain⟨a,n,c,e,b⟩:=h;cases e;exact b
def vY(a:w.heap[n]?=some (.cells c T (0,0)))(H:gL w l c j x z f)(b:kB w n x z):
 Calls prog 151 #[.pointer (some ⟨n,j,none⟩)] w λr d=>r=.returned (.tuple #[])/\oe w d n T c j l x z {f with sE:=true}:=by
 apply(Hc w n j c T f a (H.tail a)).mono;rintro r d⟨rfl,g,h⟩;obtain⟨ab,nb,cb,ac,nc,cc,rfl,rfl⟩:=H.nm;refine⟨rfl,_,_,_,⟨h,by simp,λi hi=>bE,(ao.of g).mono (λk _ e=>.inl (aQ e).symm),.inl rfl⟩,⟨?_,?_,?_,?_,cG (gZ H.c4),?_,?_,?_,?_,H.own.gb g (.inr b.1),⟨ac,nc,cc,rfl,(vX H.set).gb g (λy e e2=>(b.2 y nc cc (by rw[e])).1 (aQ e2).symm)⟩,H.pN⟩,.inl rfl⟩
 rw[bE];exact H.c0;rw[bE];exact H.c1;rw[bE];exact H.c2;rw[bE];exact H.c3;rw[bE];exact H.c5;rw[bE];exact H.c6;rw[bE];exact H.c7;rw[bE];exact H.c8
def IB(a:w.heap[n]?=some (.cells c T (0,0)))(H:gL w l c j x z f)(d:kB w n x z)(code:Int)(m:aS code):
 Calls prog 154 #[.pointer (some ⟨n,j,none⟩),.int .u64 code] w λr b=>r=.returned (.tuple #[])/\oe w b n T c j l x z {f with sE:=false,sG:=true,code:=code,h:={f.h with bytes:=[]}}:=by
 obtain⟨ab,nb,cb,ac,nc,cc,rfl,rfl⟩:=H.nm;apply(He w n j c T ab nb cb f code a ((ba a _).trans H.c1) (H.tail a)).mono;rintro r b⟨rfl,g,p⟩;have q:=gZ H.c8;refine⟨rfl,_,.slice none 0 0,.slice ac nc cc,⟨p,by simp,λi hi=>?_,(ao.of g).mono (λk _ e=>.inl (aQ e).symm),.inr (λk e=>by cases e)⟩,⟨?_,cG (by simp;omega),?_,?_,?_,?_,?_,?_,?_,bn.nil _ _,⟨ac,nc,cc,rfl,(vX H.set).gb g (λy e e2=>(d.2 y nc cc (by rw[e])).1 (aQ e2).symm)⟩,⟨H.pN.1,m⟩⟩,.inl rfl⟩
 rw[bE,bE,bE,bE];rw[bE,bE,bE,bE];exact H.c0;rw[bE,bE,bE,bE];exact H.c2;rw[bE,bE,bE,bE];exact H.c3;rw[bE,bE,bE];exact cG;rw[bE,bE];exact cG (by simp;omega);rw[bE,bE,bE,bE];exact H.c6;rw[bE,bE,bE,bE];exact H.c7;rw[bE];exact cG (by simp;omega)
def Ot.fI(o:Ot)(n:Nat)(ag:Int):Nat:=(min (min (n:Int) (ag-o.h.bytes.length)) (4096-(o.h.fr+o.h.bytes.length))).toNat
def IC(m:w.heap[n]?=some (.cells c T (0,0)))(H:gL w j c k x z f)(q:f.h.nice)(s:j<=w.heap.size)(a:kB w n x z)(b:Option Addr)(nx d:Nat)(l:List Int)(hl:bI w b nx d l)(ag:Int)(t:(f.h.bytes.length:Int)<=ag/\ag<=1000000)(u:f.h.fr+f.h.bytes.length<=4096):
 Calls prog 150 #[.pointer (some ⟨n,k,none⟩),.slice b nx d,.int .i64 ag] w λr p=>r=.returned (.int .i64 (f.fI l.length ag))/\oe w p n T c k j x z {f with h:={f.h with bytes:=f.h.bytes++l.take (f.fI l.length ag)}}:=by
 obtain⟨ab,nb,cb,ac,nc,cc,rfl,rfl⟩:=H.nm;refine(Hh w n k j c T ab nb cb ac nc cc f.h m (H.hd m q) H.own s (λy e e2=>a.1 (by rw[e,<-e2];rfl)) b nx d l hl ag t u (f.fI l.length ag) (by unfold Ot.fI;omega)).mono ?_;rintro r p⟨rfl,v,A,B,ho,C,D,E⟩;have F:=vX H.set;refine⟨rfl,_,.slice v A B,.slice ac nc cc,⟨D,by simp,λi hi=>bE,C,E⟩,⟨?_,cG (gZ H.c1),?_,?_,?_,?_,?_,?_,?_,ho,⟨ac,nc,cc,rfl,F.dr (λhl y g=>C.block _ (a.2 y nc cc (by rw[g])).2.2 (λG=>G.elim (a.2 y nc cc (by rw[g])).1 (a.2 y nc cc (by rw[g])).2.1))⟩,H.pN⟩,.inl rfl⟩
 rw[bE];exact H.c0;rw[bE];exact H.c2;rw[bE];exact H.c3;rw[bE];exact H.c4;rw[bE];exact H.c5;rw[bE];exact H.c6;rw[bE];exact H.c7;rw[bE];exact H.c8
def ah{α:Type}(f:Nat->α)(k:Nat)(x:α):Nat->α:=λi=>if i=k then x else f i
def bk{α:Type}(f:Nat->α)(k:Nat)(x:α):ah f k x k=x:=by simp[ah]
def bm{α:Type}(f:Nat->α)(x:α)(h:i≠k:=by omega):ah f k x i=f i:=by simp[ah,h]
def my{α:Type}(f:Nat->α)(k:Nat):ah f k (f k)=f:=by
 funext i;unfold ah;split;rename_i h;rw[h];rfl
def bn.av(h:bn w n x L)(C:ao w W S)(c:∀k,x.ownBlock=some k->¬S k):bn W n x L:=by
 obtain⟨h0,d,a⟩:=h;refine⟨h0,d,?_⟩
 obtain a|⟨g,cap,cur,e1,e2,b,e⟩:=a
 exact .inl a;exact .inr ⟨g,cap,cur,e1,e2,(C.block g (aZ.1 b).1 (c g (by rw[e1];rfl))).trans b,e⟩
def pO(h:∃a n c,x=.slice a n c/\bw w a n c D)(C:ao w W S)(hs:∀y n c,x=.slice (some y) n c->¬S y.block/\y.block<w.heap.size):∃a n c,x=.slice a n c/\bw W a n c D:=by
 obtain⟨a,n,c,e,b⟩:=h;refine⟨a,n,c,e,b.dr (λ_ y d=>?_)⟩
 have:=hs y n c (by rw[e,d]);exact C.block _ this.2 this.1
def gL.frame{cs':Array Value}(h:gL w j c l x z f)(C:ao w W S)(a:∀i,l<=i->i<l+9->cs'[i]?=c[i]?)(b:∀k,x.ownBlock=some k->¬S k)(hs:∀y n d,z=.slice (some y) n d->¬S y.block/\y.block<w.heap.size):gL W j cs' l x z f:=
 ⟨(a _ (by omega) (by omega)).trans h.c0,(a _ (by omega) (by omega)).trans h.c1,(a _ (by omega) (by omega)).trans h.c2,(a _ (by omega) (by omega)).trans h.c3,(a _ (by omega) (by omega)).trans h.c4,(a _ (by omega) (by omega)).trans h.c5,(a _ (by omega) (by omega)).trans h.c6,(a _ (by omega) (by omega)).trans h.c7,(a _ (by omega) (by omega)).trans h.c8,h.own.av C b,pO h.set C hs,h.pN⟩
def ir.frame{cs':Array Value}(h:ir w j c l x z E)(C:ao w W S)(a:∀i,l<=i->i<l+9->cs'[i]?=c[i]?)(b:∀k,x.ownBlock=some k->¬S k)(hs:∀y n d,z=.slice (some y) n d->¬S y.block/\y.block<w.heap.size):ir W j cs' l x z E:=
 ⟨(a _ (by omega) (by omega)).trans h.c0,(a _ (by omega) (by omega)).trans h.c1,(a _ (by omega) (by omega)).trans h.c2,(a _ (by omega) (by omega)).trans h.c3,(a _ (by omega) (by omega)).trans h.c4,(a _ (by omega) (by omega)).trans h.c5,(a _ (by omega) (by omega)).trans h.c6,(a _ (by omega) (by omega)).trans h.c7,(a _ (by omega) (by omega)).trans h.c8,h.own.av C b,pO h.set C hs⟩
def iI.frame{cs':Array Value}{lf ll:List Kt}(h:iI w n c j x y lf ll p q r)(C:ao w W S)(a:∀i,j<=i->i<j+5->cs'[i]?=c[i]?)(b:∀k,x.ownBlock=some k->¬S k)(hl:∀k,y.ownBlock=some k->¬S k):iI W n cs' j x y lf ll p q r:=
 ⟨(a _ (by omega) (by omega)).trans h.c0,(a _ (by omega) (by omega)).trans h.c1,(a _ (by omega) (by omega)).trans h.c2,(a _ (by omega) (by omega)).trans h.c3,(a _ (by omega) (by omega)).trans h.c4,h.of.av C b,h.ol.av C hl⟩
structure aX where
 own:Nat->Value
 set:Nat->Value
 lf:List Kt
 ll:List Kt
def cq(sb:Nat)(v:aX)(k:Nat):Prop:=k=sb\/∃i,i<10/\(v.own i).ownBlock=some k
def eG(sb:Nat)(v:aX)(k:Nat):Prop:=cq sb v k\/(∃i y n c,i<9/\v.set i=.slice (some y) n c/\y.block=k)\/∃x∈v.lf++v.ll,∃y n c,x.2=.slice (some y) n c/\y.block=k
structure jy(w:World)(sb:Nat)(v:aX):Prop where
 iw:sb<w.heap.size
 lt:∀i,i<10->∀k,(v.own i).ownBlock=some k->k<w.heap.size
 ia:∀i,i<10->(v.own i).ownBlock≠some sb
 sep:∀i j,i<10->j<10->i≠j->∀k,(v.own i).ownBlock=some k->(v.own j).ownBlock≠some k
 dQ:∀i,i<9->∀y n c,v.set i=.slice (some y) n c->¬cq sb v y.block/\y.block<w.heap.size
 fV:nr w (cq sb v) (v.lf++v.ll)
structure dh(N:Nat)(w b:World)(sb:Nat)(v a:aX):Prop where
 av:ao w b (cq sb v)
 ft:∀k,cq sb a k->cq sb v k\/w.heap.size<=k
 ar:∀k,eG sb a k->eG sb v k\/N<=k
def pP{v:aX}(G:jy w n v)(h:cq n v k):k<w.heap.size:=by
 obtain rfl|⟨i,hi,h⟩:=h
 exact G.iw;exact G.lt i hi k h
def og{v:aX}(G:jy w j v)(h:eG j v k):k<w.heap.size:=by
 obtain h|⟨i,y,n,c,hi,e,rfl⟩|⟨x,d,y,n,c,e,rfl⟩:=h
 exact pP G h;exact(G.dQ i hi y n c e).2;obtain⟨a,g,l,b,-,f⟩:=G.fV x d;rw[e]at b;exact(f y (js b).1.symm).2
def dh.mono{v a:aX}(h:dh n w W j v a)(b:i<=n):dh i w W j v a:=⟨h.av,h.ft,λk c=>(h.ar k c).imp id (λe=>bD b e)⟩
def dh.rfl'(N:Nat)(w:World)(sb:Nat)(v:aX):dh N w w sb v v:=⟨ao.rfl' _ _,λ_ h=>.inl h,λ_ h=>.inl h⟩
def dh.trans{u v x:aX}(h:dh n w W j u v)(k:dh n W V j v x):dh n w V j u x:=by
 refine⟨⟨k.av.os.trans h.av.os,k.av.tape.trans h.av.tape,k.av.output.trans h.av.output,bD h.av.size k.av.size,λi hi b=>?_⟩,λi hi=>?_,λi hi=>?_⟩
 rw[k.av.block i (bX hi h.av.size) (λc=>(h.ft i c).elim b (by omega))];exact h.av.block i hi b;obtain a|a:=k.ft i hi
 exact h.ft i a;exact .inr (bD h.av.size a);obtain a|a:=k.ar i hi
 exact h.ar i a;exact .inr a
def jy.an{v:aX}(G:jy w j v)(g:w.grownBy W none):jy W j v:=
 ⟨bX G.iw g.size,λi hi k e=>bX (G.lt i hi k e) g.size,G.ia,G.sep,λi hi y n c e=>⟨(G.dQ i hi y n c e).1,bX (G.dQ i hi y n c e).2 g.size⟩,G.fV.av (ao.of g) (λk _ e=>by cases e)⟩
def dh.an{v:aX}(g:w.grownBy W none):dh n w W i v v:=⟨(ao.of g).mono (λk _ e=>by cases e),λ_ h=>.inl h,λ_ h=>.inl h⟩
def jy.other{v:aX}(G:jy w j v)(C:ao w W S)(g:∀k,k<w.heap.size->S k->¬eG j v k):jy W j v:=by
 refine⟨bX G.iw C.size,λi hi k e=>bX (G.lt i hi k e) C.size,G.ia,G.sep,λi hi y n c e=>⟨(G.dQ i hi y n c e).1,bX (G.dQ i hi y n c e).2 C.size⟩,λx f=>?_⟩
 obtain⟨a,n,c,e,hp,d⟩:=G.fV x f;refine⟨a,n,c,e,hp.dr (λ_ y b=>C.block _ (d y b).2 (λh=>g _ (d y b).2 h (.inr (.inr ⟨x,f,y,n,c,by rw[e,b],rfl⟩)))),λy b=>⟨(d y b).1,bX (d y b).2 C.size⟩⟩
def jy.pC{v:aX}(G:jy w l v)(i:Nat)(hi:i<8)(m r:Value)(C:ao w W (λk=>k=l\/(v.own i).ownBlock=some k))(z:m.ownBlock=(v.own i).ownBlock\/∀k,m.ownBlock=some k->w.heap.size<=k)(K:∀k,m.ownBlock=some k->k<W.heap.size)(F:yw w W m (v.set i) r):
 jy W l {v with own:=ah v.own i m,set:=ah v.set i r}/\dh w.heap.size w W l v {v with own:=ah v.own i m,set:=ah v.set i r}:=by
 have A:∀k,cq l {v with own:=ah v.own i m,set:=ah v.set i r} k->cq l v k\/w.heap.size<=k:=λk h=>by
  obtain rfl|⟨j,d,h⟩:=h
  exact .inl (.inl rfl);simp only at h;by_cases e:j=i;subst e;rw[bk]at h;obtain b|b:=z
  exact .inl (.inr ⟨j,d,by rw[<-b];exact h⟩);exact .inr (b k h);rw[bm _ _ e]at h;exact .inl (.inr ⟨j,d,h⟩)
 have E:∀j,j<9->∀y n c,(ah v.set i r) j=.slice (some y) n c->(¬cq l {v with own:=ah v.own i m,set:=ah v.set i r} y.block/\y.block<W.heap.size)/\(v.set j=.slice (some y) n c\/w.heap.size<=y.block):=λj d y n c e=>by
  have H:v.set j=.slice (some y) n c->(¬cq l {v with own:=ah v.own i m,set:=ah v.set i r} y.block/\y.block<W.heap.size)/\(v.set j=.slice (some y) n c\/w.heap.size<=y.block):=λe=>by
   obtain⟨g,f⟩:=G.dQ j d y n c e;exact⟨⟨λh=>(A _ h).elim g (by omega),bX f C.size⟩,.inl e⟩
  by_cases I:j=i;subst I;rw[bk]at e;obtain rfl|F:=F
  exact H e;obtain⟨g,f,L⟩:=F y n c e;refine⟨⟨λh=>?_,f⟩,.inr g⟩
  obtain h|⟨q,s,h⟩:=h
  have:=G.iw;omega;simp only at h;by_cases eq:q=j;subst eq;rw[bk]at h;exact L h;rw[bm _ _ eq]at h;have:=G.lt q s _ h;omega;rw[bm _ _ I]at e;exact H e
 refine⟨⟨bX G.iw C.size,λj d k h=>?_,λj d h=>?_,λp q hp s B k g f=>?_,λj d y n c e=>(E j d y n c e).1,λx D=>?_⟩,⟨C.mono (λk _ h=>h.elim .inl (λh=>.inr ⟨i,by omega,h⟩)),A,λk h=>?_⟩⟩
 simp only at h;by_cases e:j=i;subst e;rw[bk]at h;exact K k h;rw[bm _ _ e]at h;exact bX (G.lt j d k h) C.size;simp only at h;by_cases e:j=i;subst e;rw[bk]at h;obtain b|b:=z
 rw[b]at h;exact G.ia j d h;have:=b _ h;have:=G.iw;omega;rw[bm _ _ e]at h;exact G.ia j d h;simp only at g f;by_cases e1:p=i;have e2:q≠i:=by omega
 subst e1;rw[bk]at g;rw[bm _ _ e2]at f;obtain b|b:=z
 rw[b]at g;exact G.sep p q hp s B k g f;have:=b _ g;have:=G.lt q s k f;omega;rw[bm _ _ e1]at g;by_cases e2:q=i;subst e2;rw[bk]at f;obtain b|b:=z
 rw[b]at f;exact G.sep p q hp s B k g f;have:=b _ f;have:=G.lt p hp k g;omega;rw[bm _ _ e2]at f;exact G.sep p q hp s B k g f;obtain⟨a,n,c,e,hp,u⟩:=G.fV x D;exact⟨a,n,c,e,hp.dr (λ_ y t=>C.block _ (u y t).2 (λM=>(u y t).1 (M.elim .inl (λh=>.inr ⟨i,by omega,h⟩)))),λy t=>⟨λh=>(A _ h).elim (u y t).1 (by have:=(u y t).2;omega),bX (u y t).2 C.size⟩⟩
 obtain h|⟨j,y,n,c,d,e,rfl⟩|⟨x,D,y,n,c,e,rfl⟩:=h
 exact(A k h).imp .inl id;simp only at e;obtain e2|e2:=(E j d y n c e).2
 exact .inl (.inr (.inl ⟨j,y,n,c,d,e2,rfl⟩));exact .inr e2;exact .inl (.inr (.inr ⟨x,D,y,n,c,e,rfl⟩))
def jy.ID{v:aX}(U:i<=w.heap.size)(G:jy w l v)(m r:Value)(E F:List Kt)(C:ao w W (FT l (v.own 8) (v.own 9)))(I:m.ownBlock=(v.own 8).ownBlock\/∀k,m.ownBlock=some k->w.heap.size<=k)(K:r.ownBlock=(v.own 9).ownBlock\/∀k,r.ownBlock=some k->w.heap.size<=k)(M:∀k,m.ownBlock=some k->r.ownBlock≠some k)(V:∀k,m.ownBlock=some k->k<W.heap.size)(X:∀k,r.ownBlock=some k->k<W.heap.size)
 (N:∀x∈E++F,x∈v.lf++v.ll\/∃a n c,x.2=.slice a n c/\kC W a n c x.1.ps/\∀y,a=some y->(i<=y.block/\y.block<W.heap.size/\¬cq l v y.block/\m.ownBlock≠some y.block/\r.ownBlock≠some y.block)):
 jy W l ⟨ah (ah v.own 8 m) 9 r,v.set,E,F⟩/\dh i w W l v ⟨ah (ah v.own 8 m) 9 r,v.set,E,F⟩:=by
 have z:ah (ah v.own 8 m) 9 r 8=m:=by rw[bm _ _,bk]
 have A:ah (ah v.own 8 m) 9 r 9=r:=bk _ _ _;have s:∀j,j<8->ah (ah v.own 8 m) 9 r j=v.own j:=λj d=>by rw[bm _ _,bm _ _]
 have D:∀j,j<10->j<8\/j=8\/j=9:=λj d=>by omega
 have H:∀k,cq l ⟨ah (ah v.own 8 m) 9 r,v.set,E,F⟩ k->cq l v k\/w.heap.size<=k:=λk h=>by
  obtain rfl|⟨j,d,h⟩:=h
  exact .inl (.inl rfl);simp only at h;obtain e|rfl|rfl:=D j d
  rw[s j e]at h;exact .inl (.inr ⟨j,d,h⟩);rw[z]at h;obtain f|f:=I
  exact .inl (.inr ⟨8,d,by rw[<-f];exact h⟩);exact .inr (f k h);rw[A]at h;obtain f|f:=K
  exact .inl (.inr ⟨9,d,by rw[<-f];exact h⟩);exact .inr (f k h)
 have O:∀k,FT l (v.own 8) (v.own 9) k->cq l v k:=λk h=>by
  obtain rfl|h|h:=h
  exact .inl rfl;exact .inr ⟨8,by omega,h⟩;exact .inr ⟨9,by omega,h⟩
 have P:∀j,j<8->∀k,(v.own j).ownBlock=some k->m.ownBlock≠some k:=λj d k g b=>by
  obtain f|f:=I
  rw[f]at b;exact G.sep j 8 (by omega) (by omega) (by omega) k g b;have:=f _ b;have:=G.lt j (by omega) k g;omega
 have Q:∀j,j<8->∀k,(v.own j).ownBlock=some k->r.ownBlock≠some k:=λj d k g b=>by
  obtain f|f:=K
  rw[f]at b;exact G.sep j 9 (by omega) (by omega) (by omega) k g b;have:=f _ b;have:=G.lt j (by omega) k g;omega
 refine⟨⟨bX G.iw C.size,λj d k h=>?_,λj d h=>?_,λp q hp R L k g b=>?_,λj d y n c e=>?_,λx B=>?_⟩,⟨C.mono (λk _ h=>O k h),H,λk h=>?_⟩⟩
 simp only at h;obtain e|rfl|rfl:=D j d
 rw[s j e]at h;exact bX (G.lt j d k h) C.size;rw[z]at h;exact V k h;rw[A]at h;exact X k h;simp only at h;obtain e|rfl|rfl:=D j d
 rw[s j e]at h;exact G.ia j d h;rw[z]at h;obtain f|f:=I
 rw[f]at h;exact G.ia 8 d h;have:=f _ h;have:=G.iw;omega;rw[A]at h;obtain f|f:=K
 rw[f]at h;exact G.ia 9 d h;have:=f _ h;have:=G.iw;omega;simp only at g b;obtain e1|rfl|rfl:=D p hp<;>rcases D q R with e2|rfl|rfl
 rw[s p e1]at g;rw[s q e2]at b;exact G.sep p q hp R L k g b;rw[s p e1]at g;rw[z]at b;exact P p e1 k g b;rw[s p e1]at g;rw[A]at b;exact Q p e1 k g b;rw[z]at g;rw[s q e2]at b;exact P q e2 k b g;exact L rfl;rw[z]at g;rw[A]at b;exact M k g b;rw[A]at g;rw[s q e2]at b;exact Q q e2 k b g;rw[A]at g;rw[z]at b;exact M k b g;exact L rfl;obtain⟨g,b⟩:=G.dQ j d y n c e;exact⟨λh=>(H _ h).elim g (by omega),bX b C.size⟩
 obtain B|⟨a,n,c,e,hp,t⟩:=N x B
 obtain⟨a,n,c,e,hp,t⟩:=G.fV x B;exact⟨a,n,c,e,hp.dr (λ_ y u=>C.block _ (t y u).2 (λY=>(t y u).1 (O _ Y))),λy u=>⟨λh=>(H _ h).elim (t y u).1 (by have:=(t y u).2;omega),bX (t y u).2 C.size⟩⟩
 refine⟨a,n,c,e,hp,λy u=>⟨λh=>?_,(t y u).2.1⟩⟩
 obtain⟨y1,y2,S,y3,y4⟩:=t y u;obtain h|⟨j,d,h⟩:=h
 exact S (.inl h);simp only at h;obtain e|rfl|rfl:=D j d
 rw[s j e]at h;exact S (.inr ⟨j,d,h⟩);rw[z]at h;exact y3 h;rw[A]at h;exact y4 h;obtain h|⟨j,y,n,c,d,e,rfl⟩|⟨x,B,y,n,c,e,rfl⟩:=h
 exact(H k h).imp .inl (λe=>bD U e);exact .inl (.inr (.inl ⟨j,y,n,c,d,e,rfl⟩));obtain B|⟨a,n',c',T,hp,t⟩:=N x B
 exact .inl (.inr (.inr ⟨x,B,y,n,c,e,rfl⟩));rw[e]at T;exact .inr (t y (js T).1.symm).1
def jy.IE{v:aX}(G:jy w l v)(i:Nat)(hi:i<9)(d:Value)(C:ao w W (λk=>k=l))(F:d=v.set i\/∀y n c,d=.slice (some y) n c->w.heap.size<=y.block/\y.block<W.heap.size):
 jy W l {v with set:=ah v.set i d}/\dh w.heap.size w W l v {v with set:=ah v.set i d}:=by
 have r:∀j,j<9->∀y n c,(ah v.set i d) j=.slice (some y) n c->(¬cq l {v with set:=ah v.set i d} y.block/\y.block<W.heap.size)/\(v.set j=.slice (some y) n c\/w.heap.size<=y.block):=λj b y n c e=>by
  have s:v.set j=.slice (some y) n c->(¬cq l {v with set:=ah v.set i d} y.block/\y.block<W.heap.size)/\(v.set j=.slice (some y) n c\/w.heap.size<=y.block):=λe=>by
   obtain⟨m,p⟩:=G.dQ j b y n c e;exact⟨⟨m,bX p C.size⟩,.inl e⟩
  by_cases t:j=i;subst t;rw[bk]at e;obtain rfl|F:=F
  exact s e;obtain⟨m,p⟩:=F y n c e;exact⟨⟨λh=>by have:=pP G h;omega,p⟩,.inr m⟩
  rw[bm _ _ t]at e;exact s e
 refine⟨⟨bX G.iw C.size,λj b k h=>bX (G.lt j b k h) C.size,G.ia,G.sep,λj b y n c e=>(r j b y n c e).1,λx q=>?_⟩,⟨C.mono (λk _ h=>.inl h),λk h=>.inl h,λk h=>?_⟩⟩
 obtain⟨a,n,c,e,hp,g⟩:=G.fV x q;exact⟨a,n,c,e,hp.dr (λ_ y f=>C.block _ (g y f).2 (λu=>(g y f).1 (.inl u))),λy f=>⟨(g y f).1,bX (g y f).2 C.size⟩⟩
 obtain h|⟨j,y,n,c,b,e,rfl⟩|⟨x,q,y,n,c,e,rfl⟩:=h
 exact .inl (.inl h);simp only at e;obtain e2|e2:=(r j b y n c e).2
 exact .inl (.inr (.inl ⟨j,y,n,c,b,e2,rfl⟩));exact .inr e2;exact .inl (.inr (.inr ⟨x,q,y,n,c,e,rfl⟩))
variable{d:aX}
structure Sd where
 aj:Int
 ag:Int
 key:List Int
 first:Bool
 out:Nat->Ot
 aL:Nat->It
 aM:List Pk
 lost:List Pk
 count:Int
 tick:Int
 wait:Int
 af:List Rg
 floor:Int
 eN:Bool
structure bC(w:World)(b sb:Nat)(cs:Array Value)(v:aX)(s:Sd):Prop where
 aP:w.heap[sb]?=some (.cells cs 241 (0,0))
 sz:cs.size=101
 c0:cs[0]?=some (.int .i64 s.aj)
 c1:cs[1]?=some (.int .i64 s.ag)
 key:∀i,i<16->cs[2+i]?=(bv s.key)[i]?
 iy:cs[18]?=some (.bool s.first)
 out:∀k,k<4->gL w b cs (19+9*k) (v.own k) (v.set k) (s.out k)
 aL:∀k,k<4->ir w b cs (55+9*k) (v.own (4+k)) (v.set (4+k)) (s.aL k)
 fl:iI w b cs 91 (v.own 8) (v.own 9) v.lf v.ll s.count s.tick s.wait
 aM:s.aM=v.lf.map (·.1)
 lost:s.lost=v.ll.map (·.1)
 oh:cs[96]?=some (v.set 8)
 oj:∃a n c,v.set 8=.slice a n c/\bw w a n c s.af
 oS:cs[97]?=some (.int .u64 s.floor)
 kX:cs[98]?=some (.bool s.eN)
 dC:cs[99]?=some (.int .i64 0)
 pQ:cs[100]?=some (.slice none 0 0)
 bu:jy w sb v
 aG:b<=w.heap.size
def dV(N:Nat)(w:World)(c sb:Nat)(v:aX)(d:Sd)(a:World):Prop:=∃e b,bC a c sb e b d/\dh N w a sb v b
def bC.an{s:Sd}(H:bC w i j C d s)(g:w.grownBy W none):bC W i j C d s:=
 ⟨bB H.aP g,H.sz,H.c0,H.c1,H.key,H.iy,λk b=>(H.out k b).an g,λk b=>(H.aL k b).an g,H.fl.an g,H.aM,H.lost,H.oh,by obtain⟨a,n,c,e,h⟩:=H.oj;exact⟨a,n,c,e,h.an g⟩,H.oS,H.kX,H.dC,H.pQ,H.bu.an g,bD H.aG g.size⟩
def bC.to{s:Sd}(H:bC w n k c d s)(g:w.grownBy W none){N:Nat}:dV N w n k d s W:=⟨c,d,H.an g,dh.an g⟩
def dV.mono{s:Sd}(H:dV n w j l d s W)(h:i<=n):dV i w j l d s W:=by
 obtain⟨cs,a,b,k⟩:=H;exact⟨cs,a,b,k.mono h⟩
def dV.pre{N:Nat}{a:aX}{s:Sd}(b:dh N w V i d a)(H:dV N V n i a s W):dV N w n i d s W:=by
 obtain⟨cs,c,h,k⟩:=H;exact⟨cs,c,h,b.trans k⟩
def bC.vZ{s:Sd}(H:bC w i j C d s)(k:Nat)(a:k<4):kB w j (d.own k) (d.set k):=
 ⟨H.bu.ia k (by omega),λy n c e=>⟨λh=>(H.bu.dQ k (by omega) y n c e).1 (.inl h),λh=>(H.bu.dQ k (by omega) y n c e).1 (.inr ⟨k,by omega,h⟩),(H.bu.dQ k (by omega) y n c e).2⟩⟩
def bC.yG{s:Sd}(H:bC w i j C d s)(k:Nat)(a:k<4):kB w j (d.own (4+k)) (d.set (4+k)):=
 ⟨H.bu.ia _ (by omega),λy n c e=>⟨λh=>(H.bu.dQ _ (by omega) y n c e).1 (.inl h),λh=>(H.bu.dQ _ (by omega) y n c e).1 (.inr ⟨4+k,by omega,h⟩),(H.bu.dQ _ (by omega) y n c e).2⟩⟩
def bC.sr{s:Sd}(H:bC w n k c d s):pM k (d.own 8) (d.own 9):=
 ⟨H.bu.ia 8 (by omega),H.bu.ia 9 (by omega),H.bu.sep 8 9 (by omega) (by omega) (by omega)⟩
def bC.tY{s:Sd}(H:bC w l m c d s)(b:ao w W S)(f:∀k,S k->cq m d k)(j:Nat)(g:j<4)(p:∀i,19+9*j<=i->i<19+9*j+9->C[i]?=c[i]?)(q:∀k,(d.own j).ownBlock=some k->¬S k):gL W l C (19+9*j) (d.own j) (d.set j) (s.out j):=
 (H.out j g).frame b p q (λy n a e=>⟨λh=>(H.bu.dQ j (by omega) y n a e).1 (f _ h),(H.bu.dQ j (by omega) y n a e).2⟩)
def bC.tZ{s:Sd}(H:bC w l m c d s)(b:ao w W S)(f:∀k,S k->cq m d k)(j:Nat)(g:j<4)(p:∀i,55+9*j<=i->i<55+9*j+9->C[i]?=c[i]?)(q:∀k,(d.own (4+j)).ownBlock=some k->¬S k):ir W l C (55+9*j) (d.own (4+j)) (d.set (4+j)) (s.aL j):=
 (H.aL j g).frame b p q (λy n a e=>⟨λh=>(H.bu.dQ (4+j) (by omega) y n a e).1 (f _ h),(H.bu.dQ (4+j) (by omega) y n a e).2⟩)
def bC.qE{s:Sd}(H:bC w n l c d s)(i j:Nat)(hi:i<10)(b:j<10)(e:j≠i):∀k,(d.own j).ownBlock=some k->¬(k=l\/(d.own i).ownBlock=some k):=λk h a=>by
 obtain rfl|a:=a
 exact H.bu.ia j b h;exact H.bu.sep j i b hi e k h a
def bC.wa{s:Sd}(H:bC w l m C d s)(k:Nat)(x:k<4)(o:Ot)(h:oe w W m 241 C (19+9*k) l (d.own k) (d.set k) o):dV w.heap.size w l m d {s with out:=ah s.out k o} W:=by
 obtain⟨t,f,g,T,p,F⟩:=h;obtain⟨u,v⟩:=H.bu.pC k (by omega) f g T.av T.new (λj e=>(p.own.lt j e).2) F;have a:∀j,(j=m\/(d.own k).ownBlock=some j)->cq m d j:=λj h=>h.elim .inl (λh=>.inr ⟨k,by omega,h⟩)
 refine⟨t,{d with own:=ah d.own k f,set:=ah d.set k g},⟨T.aP,T.sz.trans H.sz,(T.out 0 (by omega)).trans H.c0,(T.out 1 (by omega)).trans H.c1,λi hi=>(T.out _ (by omega)).trans (H.key i hi),(T.out 18 (by omega)).trans H.iy,λj b=>?_,λj b=>?_,?_,H.aM,H.lost,?_,?_,(T.out 97 (by omega)).trans H.oS,(T.out 98 (by omega)).trans H.kX,(T.out 99 (by omega)).trans H.dC,(T.out 100 (by omega)).trans H.pQ,u,bD H.aG T.av.size⟩,v⟩
 by_cases e:j=k;subst e;simp only[bk];exact p;simp only[bm _ _ e]
 exact H.tY T.av a j b (λi q r=>T.out i (by omega)) (H.qE k j (by omega) (by omega) e);simp only[bm _ _ (show 4+j≠k by omega)]
 exact H.tZ T.av a j b (λi q r=>T.out i (by omega)) (H.qE k (4+j) (by omega) (by omega) (by omega));simp only[bm _ _ (show 8≠k by omega),bm _ _ (show 9≠k by omega)]
 exact H.fl.frame T.av (λi q r=>T.out i (by omega)) (H.qE k 8 (by omega) (by omega) (by omega)) (H.qE k 9 (by omega) (by omega) (by omega));simp only[bm _ _ (show 8≠k by omega)];exact(T.out 96 (by omega)).trans H.oh;simp only[bm _ _ (show 8≠k by omega)]
 exact pO H.oj T.av (λy n c e=>⟨λh=>(H.bu.dQ 8 (by omega) y n c e).1 (a _ h),(H.bu.dQ 8 (by omega) y n c e).2⟩)
def bC.yH{s:Sd}(H:bC w l m C d s)(k:Nat)(x:k<4)(o:It)(h:np w W m 241 C (55+9*k) l (d.own (4+k)) (d.set (4+k)) o):dV w.heap.size w l m d {s with aL:=ah s.aL k o} W:=by
 obtain⟨t,f,g,T,p,F⟩:=h;obtain⟨u,v⟩:=H.bu.pC (4+k) (by omega) f g T.av T.new (λj e=>(p.own.lt j e).2) F;have a:∀j,(j=m\/(d.own (4+k)).ownBlock=some j)->cq m d j:=λj h=>h.elim .inl (λh=>.inr ⟨4+k,by omega,h⟩)
 refine⟨t,{d with own:=ah d.own (4+k) f,set:=ah d.set (4+k) g},⟨T.aP,T.sz.trans H.sz,(T.out 0 (by omega)).trans H.c0,(T.out 1 (by omega)).trans H.c1,λi hi=>(T.out _ (by omega)).trans (H.key i hi),(T.out 18 (by omega)).trans H.iy,λj b=>?_,λj b=>?_,?_,H.aM,H.lost,?_,?_,(T.out 97 (by omega)).trans H.oS,(T.out 98 (by omega)).trans H.kX,(T.out 99 (by omega)).trans H.dC,(T.out 100 (by omega)).trans H.pQ,u,bD H.aG T.av.size⟩,v⟩
 simp only[bm _ _ (show j≠4+k by omega)]
 exact H.tY T.av a j b (λi q r=>T.out i (by omega)) (H.qE (4+k) j (by omega) (by omega) (by omega));by_cases e:j=k;subst e;simp only[bk];exact p;simp only[bm _ _ (show 4+j≠4+k by omega),bm _ _ e]
 exact H.tZ T.av a j b (λi q r=>T.out i (by omega)) (H.qE (4+k) (4+j) (by omega) (by omega) (by omega));simp only[bm _ _ (show 8≠4+k by omega),bm _ _ (show 9≠4+k by omega)]
 exact H.fl.frame T.av (λi q r=>T.out i (by omega)) (H.qE (4+k) 8 (by omega) (by omega) (by omega)) (H.qE (4+k) 9 (by omega) (by omega) (by omega));simp only[bm _ _ (show 8≠4+k by omega)];exact(T.out 96 (by omega)).trans H.oh;simp only[bm _ _ (show 8≠4+k by omega)]
 exact pO H.oj T.av (λy n c e=>⟨λh=>(H.bu.dQ 8 (by omega) y n c e).1 (a _ h),(H.bu.dQ 8 (by omega) y n c e).2⟩)
def bC.yI{s:Sd}(H:bC w m o C d s)(z:l<=w.heap.size)(b f:Value)(g p:List Kt)(count tick wait:Int)(T:rz w W o 241 C c 91 (d.own 8) (d.own 9) b f)(r:iI W m c 91 b f g p count tick wait)(A:∀k,b.ownBlock=some k->f.ownBlock≠some k)
 (B:∀x∈g++p,x∈d.lf++d.ll\/∃a n q,x.2=.slice a n q/\kC W a n q x.1.ps/\∀y,a=some y->(l<=y.block/\y.block<W.heap.size/\¬cq o d y.block/\b.ownBlock≠some y.block/\f.ownBlock≠some y.block)):
 bC W m o c ⟨ah (ah d.own 8 b) 9 f,d.set,g,p⟩ {s with aM:=g.map (·.1),lost:=p.map (·.1),count:=count,tick:=tick,wait:=wait}/\dh l w W o d ⟨ah (ah d.own 8 b) 9 f,d.set,g,p⟩:=by
 obtain⟨D,E⟩:=H.bu.ID z b f g p T.av T.Ii T.Bz A (λk e=>(r.of.lt k e).2) (λk e=>(r.ol.lt k e).2) B;have t:∀j,FT o (d.own 8) (d.own 9) j->cq o d j:=λj h=>by
  obtain h|h|h:=h
  exact .inl h;exact .inr ⟨8,by omega,h⟩;exact .inr ⟨9,by omega,h⟩
 have v:∀i,i<8->∀k,(d.own i).ownBlock=some k->¬FT o (d.own 8) (d.own 9) k:=λi hi k e h=>by
  obtain rfl|h|h:=h
  exact H.bu.ia i (by omega) e;exact H.bu.sep i 8 (by omega) (by omega) (by omega) k e h;exact H.bu.sep i 9 (by omega) (by omega) (by omega) k e h
 refine⟨⟨T.aP,T.sz.trans H.sz,(T.out 0 (by omega)).trans H.c0,(T.out 1 (by omega)).trans H.c1,λi hi=>(T.out _ (by omega)).trans (H.key i hi),(T.out 18 (by omega)).trans H.iy,λj u=>?_,λj u=>?_,?_,rfl,rfl,(T.out 96 (by omega)).trans H.oh,?_,(T.out 97 (by omega)).trans H.oS,(T.out 98 (by omega)).trans H.kX,(T.out 99 (by omega)).trans H.dC,(T.out 100 (by omega)).trans H.pQ,D,bD H.aG T.av.size⟩,E⟩
 simp only[bm _ _ (show j≠8 by omega),bm _ _ (show j≠9 by omega)]
 exact H.tY T.av t j u (λi F G=>T.out i (by omega)) (v j (by omega));simp only[bm _ _ (show 4+j≠8 by omega),bm _ _ (show 4+j≠9 by omega)]
 exact H.tZ T.av t j u (λi F G=>T.out i (by omega)) (v (4+j) (by omega));simp only[bm _ _ (show 8≠9 by omega),bk];exact r;exact pO H.oj T.av (λy n q e=>⟨λh=>(H.bu.dQ 8 (by omega) y n q e).1 (t _ h),(H.bu.dQ 8 (by omega) y n q e).2⟩)
def bC.yJ{s:Sd}(H:bC w j l C d s)(h:i<=w.heap.size)(b e:Value)(f g:List Kt)(count tick wait:Int)(T:rz w W l 241 C c 91 (d.own 8) (d.own 9) b e)(m:iI W j c 91 b e f g count tick wait)(p:∀k,b.ownBlock=some k->e.ownBlock≠some k)
 (q:∀x∈f++g,x∈d.lf++d.ll\/∃a n r,x.2=.slice a n r/\kC W a n r x.1.ps/\∀y,a=some y->(i<=y.block/\y.block<W.heap.size/\¬cq l d y.block/\b.ownBlock≠some y.block/\e.ownBlock≠some y.block)):
 dV i w j l d {s with aM:=f.map (·.1),lost:=g.map (·.1),count:=count,tick:=tick,wait:=wait} W:=⟨c,_,(H.yI h b e f g count tick wait T m p q).1,(H.yI h b e f g count tick wait T m p q).2⟩
def bC.BD{s:Sd}(H:bC w l m c d s)(vc:Value)(af:List Rg)(floor:Int)(eN:Bool)(t:W.heap[m]?=some (.cells C 241 (0,0)))(u:C.size=c.size)(ho:∀i,i<96\/99<=i->C[i]?=c[i]?)(v:C[96]?=some vc)(x:C[97]?=some (.int .u64 floor))(z:C[98]?=some (.bool eN))(b:ao w W (λk=>k=m))(hs:∃a n f,vc=.slice a n f/\bw W a n f af)(F:vc=d.set 8\/∀y n f,vc=.slice (some y) n f->w.heap.size<=y.block/\y.block<W.heap.size):
 dV w.heap.size w l m d {s with af:=af,floor:=floor,eN:=eN} W:=by
 obtain⟨A,B⟩:=H.bu.IE 8 (by omega) vc b F;have p:∀j,j=m->cq m d j:=λj h=>.inl h
 refine⟨C,{d with set:=ah d.set 8 vc},⟨t,u.trans H.sz,(ho 0 (by omega)).trans H.c0,(ho 1 (by omega)).trans H.c1,λi hi=>(ho _ (by omega)).trans (H.key i hi),(ho 18 (by omega)).trans H.iy,λj g=>?_,λj g=>?_,?_,H.aM,H.lost,?_,?_,x,z,(ho 99 (by omega)).trans H.dC,(ho 100 (by omega)).trans H.pQ,A,bD H.aG b.size⟩,B⟩
 simp only[bm _ _ (show j≠8 by omega)]
 exact H.tY b p j g (λi q r=>ho i (by omega)) (λk e h=>H.bu.ia j (by omega) (h▸e));simp only[bm _ _ (show 4+j≠8 by omega)]
 exact H.tZ b p j g (λi q r=>ho i (by omega)) (λk e h=>H.bu.ia (4+j) (by omega) (h▸e));exact H.fl.frame b (λi q r=>ho i (by omega)) (λk e h=>H.bu.ia 8 (by omega) (h▸e)) (λk e h=>H.bu.ia 9 (by omega) (h▸e));simp only[bk];exact v;simp only[bk];exact hs
def bC.other{s:Sd}(H:bC w j l c d s)(C:ao w W S)(b:∀k,k<w.heap.size->S k->¬eG l d k):bC W j l c d s:=by
 have f:∀i,i<10->∀k,(d.own i).ownBlock=some k->¬S k:=λi hi k e h=>b k (H.bu.lt i hi k e) h (.inl (.inr ⟨i,hi,e⟩))
 have hs:∀i,i<9->∀y n a,d.set i=.slice (some y) n a->¬S y.block/\y.block<w.heap.size:=λi hi y n a e=>⟨λh=>b _ (H.bu.dQ i hi y n a e).2 h (.inr (.inl ⟨i,y,n,a,hi,e,rfl⟩)),(H.bu.dQ i hi y n a e).2⟩
 exact⟨(C.block l H.bu.iw (λh=>b l H.bu.iw h (.inl (.inl rfl)))).trans H.aP,H.sz,H.c0,H.c1,H.key,H.iy,λk g=>(H.out k g).frame C (λ_ _ _=>rfl) (f k (by omega)) (hs k (by omega)),λk g=>(H.aL k g).frame C (λ_ _ _=>rfl) (f _ (by omega)) (hs _ (by omega)),H.fl.frame C (λ_ _ _=>rfl) (f 8 (by omega)) (f 9 (by omega)),H.aM,H.lost,H.oh,pO H.oj C (hs 8 (by omega)),H.oS,H.kX,H.dC,H.pQ,H.bu.other C b,bD H.aG C.size⟩
