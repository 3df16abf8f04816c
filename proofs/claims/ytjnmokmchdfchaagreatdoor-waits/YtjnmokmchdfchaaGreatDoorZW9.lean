import Derived.Test.YtjnmokmchdfchaaGreatDoorZW6
import Derived.Test.YtjnmokmchdfchaaGreatDoorZW7
import Derived.Test.YtjnmokmchdfchaaGreatDoorZW8
set_option maxRecDepth 1000000
set_option maxHeartbeats 0
set_option linter.all false
namespace Go.Proofs.YtjnmokmchdfchaaGreatDoor
open Go.RowKit Tryz
attribute[local go_sem↓]Go.wp_at_zero Go.wp_at_succ
variable{C c:Array Value}{p q r:Int}{E:It}{L:List Int}{Y:List Rg}{b i j k l m n o:Nat}{S:Nat->Prop}{O:Option Addr}{d:Ot}{T:TypeId}{x y z:Value}{V W v w:World}
def kq(Q:Kt->Bool)(l:List Kt):List (Int×Pc):=l.flatMap (λx=>if Q x then x.1.ps.map (λp=>(x.1.st,p))else[])
theorem FX(Q:Kt->Bool)(l:List Kt)(j:Nat)(a:j<l.length):kq Q (l.take (j+1))=kq Q (l.take j)++(if Q (bD l j)then(bD l j).1.ps.map (λp=>((bD l j).1.st,p))else[]):=by
 unfold kq;rw[nr,mQ a,Option.toList_some,vS];simp
def LT(sb:Nat)(v:Value)(k:Nat):Prop:=k=sb\/v.ownBlock=some k
theorem FY(w:World)(sb G m q:Nat)(t lc:Array Value)(af:List Kt)(Q:Kt->Bool)(St:List (Int×Pc)->World->Prop)(z:List (Int×Pc))(v:Value)(A:bU w G v af)(cv:sb<w.heap.size)(bb:v.ownBlock≠some sb)(S:Nat->Prop)(U:∀k,LT sb v k->S k)(M:mq w S af)
 (en:∀args w,(callFunc m args).run prog w=.ok (.enter m args) w) (ec:∀args w,(callFunc q args).run prog w=.ok (.enter q args) w)
 (V:∀(W:World)(x:Kt),ak w W (LT sb v)->x∈af->Calls prog m (#[.agg (kA x)]++t) W (λe b=>e=.returned (.bool (Q x))/\W.grownBy b none))
 (B:∀(W b:World)(a:List (Int×Pc))(r:Option Nat),St a W->W.grownBy b r->(r=none\/r=v.ownBlock)->St a b) (h0:St z w)
 (X:∀(W:World)(a:List (Int×Pc))(x:Kt)(p:Pc),St a W->x∈af->p∈x.1.ps->Q x=true->Calls prog q (#[.int .i64 x.1.st,.agg (pA p)]++lc) W (λe b=>e=.returned (.tuple #[])/\St (a++[(x.1.st,p)]) b/\W.grownBy b (some sb))):
 Calls prog 289 #[v,.func (.func m) #[] t,.func (.func q) #[] lc] w λe j=>∃d,e=.returned d/\bU j G d (af.filter (λx=> !Q x))/\St (z++kq Q af) j/\d.ownBlock=v.ownBlock/\ak w j (LT sb v):=by
 obtain⟨R,u⟩:∃R:Ending->World->Prop,R=λe j=>∃d,e=.returned d/\bU j G d (af.filter (λx=> !Q x))/\St (z++kq Q af) j/\d.ownBlock=v.ownBlock/\ak w j (LT sb v):=⟨_,rfl⟩
 rw[<-u];obtain⟨l,C⟩:=exq ((w.alloc (.cells #[.func (.func m) #[] t] 326)).alloc (.cells #[.func (.func q) #[] lc] 386));have s:w.grownBy l none:=by rw[C];exact aS (aC _ _ _) _
 have bj:(w.alloc (.cells #[.func (.func m) #[] t] 326)).heap.size=w.heap.size+1:=by simp
 have N:l.heap[w.heap.size]?=some (.cells #[.func (.func m) #[] t] 326 (0,0)):=by
  rw[C];exact bf (aH _ _) (aC _ _ none)
 have H:l.heap[w.heap.size+1]?=some (.cells #[.func (.func q) #[] lc] 386 (0,0)):=by
  rw[C,<-bj];exact aH _ _
 have Y:w.heap.size+1<l.heap.size:=(aO.1 H).1;have br:∀k,v.ownBlock=some k->k<w.heap.size:=λk e=>(A.lt k e).2
 have al:∀k,w.heap.size<=k->¬LT sb v k:=λk hk h=>by
  obtain h|h:=h
  omega;have:=br k h;omega
 obtain⟨va,D,ax,bx,a0⟩:=A.fL;have O:Hid (Calls prog 236 #[v,.func (.func 302) #[] #[.pointer (some ⟨w.heap.size,0,none⟩),.pointer (some ⟨w.heap.size+1,0,none⟩)]] l R):=by
  subst ax;by_cases hz:af=[]
  subst hz;refine J ((wR va D _ _ l a0 (λ_ _=>by kernel_rfl)).mono ?_);rintro e j⟨rfl,rfl⟩;rw[u];exact⟨_,rfl,A.ah s,by simpa [kq]using B _ _ _ none h0 s (.inl rfl),rfl,(ak.of s).mono (λk _ e=>by cases e)⟩
  have bz:=np.2 hz;obtain⟨g,rfl,-⟩:=A.cell bz;obtain⟨bL,bM,bP⟩:=(A.ah s).mid;have bS:sb≠g:=λe=>bb (by rw[e];rfl)
  have O:=wQ g af.length D G 302 sb #[.pointer (some ⟨w.heap.size,0,none⟩),.pointer (some ⟨w.heap.size+1,0,none⟩)] af l (λh=>Q (bD af h)) (λh W=>St (z++kq Q (af.take h)) W/\ak l W (LT sb (.slice (some ⟨g,0,none⟩) af.length D))) bM bL rfl ⟨bx,a0⟩ (λx hx=>by obtain⟨a,n,c,e,-⟩:=M x hx;exact⟨a,n,c,e⟩) bP (by omega) bS (λ_ _=>by kernel_rfl) ⟨by simpa [kq]using B _ _ _ none h0 s (.inl rfl),ak.rfl' _ _⟩
   (λW b h hi I=>⟨B _ _ _ _ hi.1 I (.inr rfl),(hi.2.trans (ak.of I)).mono (λk _ f=>f.elim id (λe=>.inr e))⟩)
   (λW h hi f=>by
     have P:=nF f;obtain⟨pa,pn,pp,b3,b4,T⟩:=M _ P;have a4:ak w W (LT sb (.slice (some ⟨g,0,none⟩) af.length D)):=((ak.of s).trans hi.2).mono (λk _ f=>f.elim (λe=>by cases e) id);have b5:jV W pa pn pp (bD af h).1.ps:=b4.cW (λ_ y K=>a4.block _ (T y K).2 (λht=>(T y K).1 (U _ ht)));have cx:w.heap.size+1<W.heap.size:=bK Y hi.2.size;have b7:=(hi.2.block w.heap.size (by omega) (al _ (aI _))).trans N;have b8:=(hi.2.block (w.heap.size+1) Y (al _ (by omega))).trans H;refine(FW W sb w.heap.size (w.heap.size+1) m q t lc (bD af h) (Q (bD af h)) (λa b=>St a b/\ak l b (LT sb (.slice (some ⟨g,0,none⟩) af.length D))) (z++kq Q (af.take h)) pa pn pp b3 b5 (λy K=>λe=>(T y K).1 (U _ (.inl e))) (by omega) (by simp[World.cell?,b7]) (by simp[World.cell?,b8]) (by omega) (by omega) en ec
      (λb g'=>V b _ (a4.grow g') P) (λWa Wb a E a9=>⟨B _ _ _ none E.1 a9 (.inl rfl),E.2.grow a9⟩) hi
      (λWa a p E cg hq=>(X Wa a _ p E.1 P cg hq).mono (λe Wb L=>⟨L.1,⟨L.2.1,(E.2.trans (ak.of L.2.2)).mono (λk _ f=>f.elim id (λe=>.inl (aJ e).symm))⟩,L.2.2⟩))).mono ?_
     rintro e b⟨rfl,hs,I⟩;exact⟨rfl,⟨by rw[FX Q af h f,<-eA];exact hs.1,hs.2⟩,I⟩)
  refine J (O.mono ?_);have cj:kp af (λh=>Q (bD af h)) af.length=af.filter (λx=> !Q x):=by
   rw[wP af _ Q (λi _=>rfl) _ (aI _),lh]
  rw[cj];rintro e j⟨rfl,ho,hs,cp⟩;rw[lh]at hs;rw[u];exact⟨_,rfl,ho,hs,rfl,((ak.of s).trans cp).mono (λk _ f=>f.elim (λe=>by cases e) id)⟩
 clear V B X h0 M;replace u:=J u;subst ax;replace N:=J N;replace H:=J H;go_enter func289,ntmps289;go_wp2_with fail;rw[<-C];clear C;refine(Z O).mono ?_;rintro e w2 F;obtain⟨d,rfl⟩:∃d,e=.returned d:=by rw[Z u]at F;obtain⟨d,h,-⟩:=F;exact⟨d,h⟩
 replace F:=J F;go_wp2_with fail;exact Z F
def kQ(W c:World)(sb b:Nat):Prop:=∀cs t,W.heap[sb]?=some (.cells cs t (0,0))->∃a,c.heap[sb]?=some (.cells a t (0,0))/\a.size=cs.size/\∀i,i<b\/b+5<=i->a[i]?=cs[i]?
def kR(W c:World)(sb b:Nat):Prop:=∀cs t,W.heap[sb]?=some (.cells cs t (0,0))->∃a,c.heap[sb]?=some (.cells a t (0,0))/\a.size=cs.size/\∀i,b<=i->i<b+5->a[i]?=cs[i]?
theorem kQ.of(h:w.heap[n]?=W.heap[n]?):kQ W w n k:=λcs t a=>⟨cs,h.trans a,rfl,λ_ _=>rfl⟩
structure jX(w W:World)(sb e f:Nat)(t:TypeId)(a b c d:Value)(lf ll:List Kt)(count tick wait:Int)(St:List (Int×Pc)->World->Prop)(g:List (Int×Pc)):Prop where
 fl:∃cs,W.heap[sb]?=some (.cells cs t (0,0))/\ik W f cs e c d lf ll count tick wait
 st:St g W
 aq:ak w W (FT sb a b)
 ef:c.ownBlock=a.ownBlock
 el:d.ownBlock=b.ownBlock
theorem ik.ah{lf ll:List Kt}(h:ik w n c k x y lf ll p q r)(g:w.grownBy W none):ik W n c k x y lf ll p q r:=
 ⟨h.c0,h.c1,h.c2,h.c3,h.c4,h.of.ah g,h.ol.ah g⟩
theorem jX.set{w:World}{g:Value}{lf ll:List Kt}{St:List (Int×Pc)->World->Prop}{m:List (Int×Pc)}(h:jX w W n j l T x y z g lf ll p q r St m)(s:oI n x y)
 (u:∀(W c:World)(a:List (Int×Pc)),St a W->ak W c (FT n x y)->kQ W c n j->St a c) (b:Int):jX w (W.setCell ⟨n,j+2,none⟩ (.int .i64 b)) n j l T x y z g lf ll p q b St m:=by
 obtain⟨cs,d,H⟩:=h.fl;have f:=aD (av W (some n)) ⟨n,j+2,none⟩ (.int .i64 b) (.inr rfl);have C:ak W (W.setCell ⟨n,j+2,none⟩ (.int .i64 b)) (FT n x y):=(ak.of f).mono (λk _ e=>.inl (aJ e).symm);refine⟨⟨_,heap_set d _,?_⟩,u _ _ _ h.st C ?_,(h.aq.trans C).mono (λk _ v=>v.elim id id),h.ef,h.el⟩
 refine⟨?_,?_,cB (gF H.c2),?_,?_,H.of.gb f (.inr (by rw[h.ef];exact s.1)),H.ol.gb f (.inr (by rw[h.el];exact s.2.1))⟩
 rw[aW (by omega)];exact H.c0;rw[aW (by omega)];exact H.c1;rw[aW (by omega)];exact H.c3;rw[aW (by omega)];exact H.c4;intro A t2 t;rw[d]at t;cases t;exact⟨_,heap_set d _,by simp,λi hi=>by rw[aW (by omega)]⟩
theorem zU{Q:Value}{lf ll:List Kt}{St:List (Int×Pc)->World->Prop}{G:List (Int×Pc)}(h:jX w W j m o T z x y Q lf ll q p r St G)(R:oI j z x)(ca:j<w.heap.size)
 (a4:∀(W b:World)(a:List (Int×Pc)),St a W->ak W b (FT j z x)->kQ W b j m->St a b)
 (S:Nat->Prop) (hS:∀k,FT j z x k->S k) (af:List Kt) (v:Value) (U:(af=lf/\v=y)\/(af=ll/\v=Q)) (a9:mq W S af)
 (B:Nat) (a:Option Addr) (n cap:Nat) (l:List Rg) (bb:W.cell? ⟨B,0,none⟩=some (.slice a n cap)) (hB:¬FT j z x B) (hs:ba W a n cap l) (V:l≠[]->∀f,a=some f->¬FT j z x f.block/\f.block<W.heap.size)
 (g:Nat) (lc:Array Value) (ec:∀args w,(callFunc g args).run prog w=.ok (.enter g args) w)
 (hC:∀(W:World)(a:List (Int×Pc))(c:Kt)(s:Pc),St a W->c∈af->s∈c.1.ps->bw l c.1.num=true->Calls prog g (#[.int .i64 c.1.st,.agg (pA s)]++lc) W (λe b=>e=.returned (.tuple #[])/\St (a++[(c.1.st,s)]) b/\W.grownBy b (some j)/\kR W b j m)):
 Calls prog 289 #[v,.func (.func 287) #[] #[.pointer (some ⟨B,0,none⟩)],.func (.func g) #[] lc] W λe b=>∃t,e=.returned t/\bU b o t (af.filter (λc=> !bw l c.1.num))/\t.ownBlock=v.ownBlock/\St (G++kq (λc=>bw l c.1.num) af) b/\ak W b (LT j v)/\kR W b j m:=by
 obtain⟨cf,bt,H⟩:=h.fl;have cg:=h.aq.size;have X:v.ownBlock=z.ownBlock\/v.ownBlock=x.ownBlock:=by
  obtain⟨-,rfl⟩|⟨-,rfl⟩:=U
  exact .inl h.ef;exact .inr h.el
 have A:∀k,LT j v k->FT j z x k:=λk d=>by
  obtain d|d:=d
  exact .inl d;obtain e|e:=X
  exact .inr (.inl (e▸d));exact .inr (.inr (e▸d))
 have bx:bU W o v af:=by
  obtain⟨rfl,rfl⟩|⟨rfl,rfl⟩:=U
  exact H.of;exact H.ol
 have Y:v.ownBlock≠some j:=by
  obtain e|e:=X
  rw[e];exact R.1;rw[e];exact R.2.1
 refine(FY W j o 287 g #[.pointer (some ⟨B,0,none⟩)] lc af (λc=>bw l c.1.num) (λC b=>St C b/\kR W b j m) G v bx (by omega) Y S (λk d=>hS k (A k d)) a9 (λ_ _=>by kernel_rfl) ec ?_ ?_ ⟨h.st,λcs T u=>⟨cs,u,rfl,λ_ _ _=>rfl⟩⟩ ?_).mono ?_;intro b c D hx;exact zT b B a n cap l c (D.cell bb (λI=>hB (A _ I))) (hs.cW (λhl f ey=>D.block _ (V hl f ey).2 (λI=>(V hl f ey).1 (A _ I))));rintro K Wb C bz⟨L,E⟩ F hr;have bL:∀k,bz=some k->k≠j:=λk e=>by
  obtain rfl|rfl:=hr
  cases e;rintro rfl;exact Y e
 obtain⟨ch,bM,-,-⟩:=E _ _ bt;have a2:Wb.heap[j]?=K.heap[j]? :=F.block j (aO.1 bM).1 (λe=>bL j e.symm rfl);refine⟨a4 _ _ _ L ((ak.of F).mono (λk _ e=>?_)) (kQ.of a2),λcs T u=>?_⟩
 obtain rfl|rfl:=hr
 cases e;exact A k (.inr e);obtain⟨bP,M,N,O⟩:=E cs T u;exact⟨bP,a2.trans M,N,O⟩
 rintro K C c s⟨L,E⟩ hx hp hq;refine(hC K C c s L hx hp hq).mono ?_;rintro e Wb⟨P,b0,F,d⟩;refine⟨P,⟨b0,λcs T u=>?_⟩,F⟩
 obtain⟨b3,M,N,O⟩:=E cs T u;obtain⟨b4,k1,k2,k3⟩:=d b3 T M;exact⟨b4,k1,k2.trans N,λi hi hj=>(k3 i hi hj).trans (O i hi hj)⟩
 rintro e b⟨t,P,ho,⟨b7,d⟩,b8,D⟩;exact⟨t,P,ho,b8,b7,D,d⟩
theorem jX.az{t c:Value}{lf ll A:List Kt}{St:List (Int×Pc)->World->Prop}{I B:List (Int×Pc)}(h:jX w W n j l T x y z t lf ll p q r St I)(g:oI n x y)
 (L:∀(W v:World)(a:List (Int×Pc)),St a W->ak W v (FT n x y)->kQ W v n j->St a v)
 (ho:bU v l c A) (D:c.ownBlock=z.ownBlock) (hs:St B v) (C:ak W v (LT n z)) (K:kR W v n j):
 jX w (v.setCell ⟨n,j+3,none⟩ c) n j l T x y c t A ll p q r St B/\v.cell? ⟨n,j+3,none⟩=some z/\v.frozen? ⟨n,j+3,none⟩=false:=by
 obtain⟨cs,M,H⟩:=h.fl;obtain⟨N,d,O,f⟩:=K cs T M;have u:=aD (av v (some n)) ⟨n,j+3,none⟩ c (.inr rfl);have m:=h.ef;have s:=h.el;have E:ak v (v.setCell ⟨n,j+3,none⟩ c) (FT n x y):=(ak.of u).mono (λk _ e=>.inl (aJ e).symm);have Q:j+4<N.size:=by rw[O];exact gF H.c4
 have P:bU v l t ll:=H.ol.aq C (λk F b=>by
  obtain b|b:=b
  exact g.2.1 (by rw[<-s,F,b])
  ·exact g.2.2 k (m▸b) (s▸F))
 refine⟨⟨⟨_,heap_set d _,?_⟩,L _ _ _ hs E ?_,((h.aq.trans C).trans E).mono (λk _ b=>?_),D.trans m,s⟩,?_,by simp[World.frozen?,d]⟩
 refine⟨?_,?_,?_,cB (by omega),?_,ho.gb u (.inr (by rw[D,m];exact g.1)),P.gb u (.inr (by rw[s];exact g.2.1))⟩
 rw[aW (by omega),f _ (by omega) (by omega)];exact H.c0;rw[aW (by omega),f _ (by omega) (by omega)];exact H.c1;rw[aW (by omega),f _ (by omega) (by omega)];exact H.c2;rw[aW (by omega),f _ (by omega) (by omega)];exact H.c4;intro R t2 G;rw[d]at G;cases G;exact⟨_,heap_set d _,by simp,λi hi=>by rw[aW (by omega)]⟩
 obtain(b|b|b)|b:=b
 exact b;exact .inl b;exact .inr (.inl (m▸b));exact b;rw[aU d,f _ (by omega) (by omega)];exact H.c3
theorem jX.FZ{g c:Value}{lf ll A:List Kt}{St:List (Int×Pc)->World->Prop}{I B:List (Int×Pc)}(h:jX w W n j l T x y z g lf ll p q r St I)(m:oI n x y)
 (L:∀(W v:World)(a:List (Int×Pc)),St a W->ak W v (FT n x y)->kQ W v n j->St a v)
 (ho:bU v l c A) (D:c.ownBlock=g.ownBlock) (hs:St B v) (C:ak W v (LT n g)) (K:kR W v n j):
 jX w (v.setCell ⟨n,j+4,none⟩ c) n j l T x y z c lf A p q r St B/\v.cell? ⟨n,j+4,none⟩=some g/\v.frozen? ⟨n,j+4,none⟩=false:=by
 obtain⟨cs,M,H⟩:=h.fl;obtain⟨N,d,O,f⟩:=K cs T M;have u:=aD (av v (some n)) ⟨n,j+4,none⟩ c (.inr rfl);have s:=h.ef;have t:=h.el;have E:ak v (v.setCell ⟨n,j+4,none⟩ c) (FT n x y):=(ak.of u).mono (λk _ e=>.inl (aJ e).symm);have Q:j+4<N.size:=by rw[O];exact gF H.c4
 have P:bU v l z lf:=H.of.aq C (λk F b=>by
  obtain b|b:=b
  exact m.1 (by rw[<-s,F,b])
  ·exact m.2.2 k (s▸F) (t▸b))
 refine⟨⟨⟨_,heap_set d _,?_⟩,L _ _ _ hs E ?_,((h.aq.trans C).trans E).mono (λk _ b=>?_),s,D.trans t⟩,?_,by simp[World.frozen?,d]⟩
 refine⟨?_,?_,?_,?_,cB (by omega),P.gb u (.inr (by rw[s];exact m.1)),ho.gb u (.inr (by rw[D,t];exact m.2.1))⟩
 rw[aW (by omega),f _ (by omega) (by omega)];exact H.c0;rw[aW (by omega),f _ (by omega) (by omega)];exact H.c1;rw[aW (by omega),f _ (by omega) (by omega)];exact H.c2;rw[aW (by omega),f _ (by omega) (by omega)];exact H.c3;intro R t2 G;rw[d]at G;cases G;exact⟨_,heap_set d _,by simp,λi hi=>by rw[aW (by omega)]⟩
 obtain(b|b|b)|b:=b
 exact b;exact .inl b;exact .inr (.inr (t▸b));exact b;rw[aU d,f _ (by omega) (by omega)];exact H.c4
theorem jX.gb{c:Value}{lf ll:List Kt}{St:List (Int×Pc)->World->Prop}{d:List (Int×Pc)}(h:jX w W n i j T x y z c lf ll p q r St d)
 (f:∀(W v:World)(a:List (Int×Pc)),St a W->ak W v (FT n x y)->kQ W v n i->St a v) (g:W.grownBy v none):jX w v n i j T x y z c lf ll p q r St d:=by
 obtain⟨cs,b,H⟩:=h.fl;exact⟨⟨cs,bf b g,H.ah g⟩,f _ _ _ h.st ((ak.of g).mono (λk _ e=>by cases e)) (kQ.of ((bf b g).trans b.symm)),h.aq.grow g,h.ef,h.el⟩
def wS(w a:World)(sb f i:Nat)(t:TypeId)(e c:Value)(lf ll:List Kt)(count tick wait:Int)(St:List (Int×Pc)->World->Prop)(l:List Rg):Prop:=
 ∃g h b,a.heap[sb]?=some (.cells g t (0,0))/\
  ik a i g f h b ((lf.filter (λx=> !bw l x.1.num)).filter (λx=> !decide (x.1.num+3<=(au l 0).hi))) (ll.filter (λx=> !bw l x.1.num)++(lf.filter (λx=> !bw l x.1.num)).filter (λx=>decide (x.1.num+3<=(au l 0).hi))) count tick (if lf.any (λx=>bw l x.1.num)then 4 else wait)/\
  (∃d,St (kq (λx=>bw l x.1.num) lf++kq (λx=>bw l x.1.num) ll) d/\ak d a (FT sb e c)/\kQ d a sb f/\(b.ownBlock=c.ownBlock\/∀k,b.ownBlock=some k->d.heap.size<=k))/\ak w a (FT sb e c)/\h.ownBlock=e.ownBlock/\(b.ownBlock=c.ownBlock\/∀k,b.ownBlock=some k->w.heap.size<=k)
theorem jX.uB{g:Value}{lf ll:List Kt}{St:List (Int×Pc)->World->Prop}{u:List (Int×Pc)}(h:jX w W n j l T x y z g lf ll p q r St u)
 (O:∀(W t:World)(a:List (Int×Pc)),St a W->ak W t (FT n x y)->kQ W t n j->St a t) (I:W.heap[n]?=some (.cells c T (0,0))) (H:ik W l c j z g lf ll p q r) {m f:Value} {A B:List Kt}
 (D:v.heap[n]?=some (.cells ((c.setIfInBounds (j+4) f).setIfInBounds (j+3) m) T (0,0))) (K:bU v l m A) (L:bU v l f B) (C:ak W v (FT n z g)) (nf:m.ownBlock=z.ownBlock) (nl:f.ownBlock=g.ownBlock\/∀k,f.ownBlock=some k->W.heap.size<=k):
 ∃E a b,v.heap[n]?=some (.cells E T (0,0))/\ik v l E j a b A B p q r/\(∃s,St u s/\ak s v (FT n x y)/\kQ s v n j/\(b.ownBlock=y.ownBlock\/∀k,b.ownBlock=some k->s.heap.size<=k))/\ak w v (FT n x y)/\a.ownBlock=x.ownBlock/\(b.ownBlock=y.ownBlock\/∀k,b.ownBlock=some k->w.heap.size<=k):=by
 have F:ak W v (FT n x y):=C.mono (λk _ d=>by
  obtain d|d|d:=d
  exact .inl d;exact .inr (.inl (h.ef▸d))
  ·exact .inr (.inr (h.el▸d)))
 have P:=gF H.c3;have M:=gF H.c4;refine⟨_,m,f,D,⟨?_,?_,?_,cB (by simp;omega),?_,K,L⟩,⟨W,h.st,F,?_,nl.imp (λe=>e.trans h.el) id⟩,(h.aq.trans F).mono (λk _ d=>d.elim id id),nf.trans h.ef,?_⟩
 rw[aW (by omega),aW (by omega)];exact H.c0;rw[aW (by omega),aW (by omega)];exact H.c1;rw[aW (by omega),aW (by omega)];exact H.c2;rw[aW (by omega)];exact cB M;intro Q t2 G;rw[I]at G;cases G;exact⟨_,D,by simp,λi hi=>by rw[aW (by omega),aW (by omega)]⟩
 obtain e|e:=nl
 exact .inl (e.trans h.el);exact .inr (λk N=>bC h.aq.size (e k N))
theorem F5(lf:List Kt)(Q:Kt->Bool):lf.any Q=true↔∃i,i<lf.length/\Q (bD lf i)=true:=by
 rw[oh];constructor;rintro⟨x,a,h⟩;obtain⟨i,hi,rfl⟩:=lL.1 a;exact⟨i,hi,by simpa [bD,List.getD,hi]using h⟩
 rintro⟨i,hi,h⟩;exact⟨_,nF hi,h⟩
theorem F6(w:World)(sb f r:Nat)(cs:Array Value)(t:TypeId)(j m:Value)(lf ll:List Kt)(count tick wait:Int)(I:w.heap[sb]?=some (.cells cs t (0,0)))(H:ik w r cs f j m lf ll count tick wait)(e8:r<=w.heap.size)(v:oI sb j m)(e9:lf.length<=1000000/\ll.length<=50000000)
 (S:Nat->Prop) (hS:∀k,FT sb j m k->S k) (bj:mq w S (lf++ll)) (a:Option Addr) (n cap:Nat) (l:List Rg) (hs:ba w a n cap l) (hl:0<l.length) (a1:∀y,a=some y->¬FT sb j m y.block/\y.block<w.heap.size) (cx:∀x∈lf,0<=x.1.num/\x.1.num<=4611686018427387903)
 (K:Nat) (lc:Array Value) (ec:∀args w,(callFunc K args).run prog w=.ok (.enter K args) w) (St:List (Int×Pc)->World->Prop) (h0:St [] w)
 (z:∀(W A:World)(a:List (Int×Pc)),St a W->ak W A (FT sb j m)->kQ W A sb f->St a A)
 (hC:∀(W:World)(a:List (Int×Pc))(x:Kt)(p:Pc),St a W->x∈lf++ll->p∈x.1.ps->bw l x.1.num=true->Calls prog K (#[.int .i64 x.1.st,.agg (pA p)]++lc) W (λe A=>e=.returned (.tuple #[])/\St (a++[(x.1.st,p)]) A/\W.grownBy A (some sb)/\kR W A sb f)):
 Calls prog 253 #[.pointer (some ⟨sb,f,none⟩),.slice a n cap,.func (.func K) #[] lc] w λe q=>(count<=(au l 0).hi/\e=.returned (.iface 34 (.int .i64 8))/\w.grownBy q none)\/((au l 0).hi<count/\e=.returned .nilIface/\wS w q sb f r t j m lf ll count tick wait St l):=by
 obtain⟨R,T⟩:∃R:Ending->World->Prop,R=λe q=>(count<=(au l 0).hi/\e=.returned (.iface 34 (.int .i64 8))/\w.grownBy q none)\/((au l 0).hi<count/\e=.returned .nilIface/\wS w q sb f r t j m lf ll count tick wait St l):=⟨_,rfl⟩
 rw[<-T];replace T:=J T;have b4:sb<w.heap.size:=(aO.1 I).1;have hn:n=l.length:=hs.2.1;have fa:=hs.2.2.1;have cy:=hs.2.2.2.1;unfold maxLen at cy;obtain⟨b,o,rfl⟩:∃b o,a=some ⟨b,o,none⟩:=by
  obtain⟨-,h2,h3,-,h5|⟨b,o,rfl,-⟩⟩:=id hs;omega;exact⟨b,o,rfl⟩
 have y1:=(hs.cell 0 hl).2;rw[mK,lO]at y1;obtain⟨hi,L⟩:=exq ((au l 0).hi);rw[<-L]at y1;have i0:(0:Int)<(n:Int):=by omega
 have lb:b<w.heap.size:=dN w _ y1;have c0:=(aU I _).trans H.c0;have c3:=(aU I _).trans H.c3;obtain⟨E,U⟩:=exq ((w.alloc (.cells #[.slice (some ⟨b,o,none⟩) n cap] 133)).alloc (.cells #[.int .u64 hi] 30));have g1:w.grownBy E none:=by rw[U];exact aS (aC _ _ _) _
 have cR:(w.alloc (.cells #[.slice (some ⟨b,o,none⟩) n cap] 133)).heap.size=w.heap.size+1:=by simp
 have br:E.heap[w.heap.size]?=some (.cells #[.slice (some ⟨b,o,none⟩) n cap] 133 (0,0)):=by
  rw[U];exact bf (aH _ _) (aC _ _ none)
 have bt:E.heap[w.heap.size+1]?=some (.cells #[.int .u64 hi] 30 (0,0)):=by
  rw[U,<-cR];exact aH _ _
 have p0:E.cell? ⟨w.heap.size,0,none⟩=some (.slice (some ⟨b,o,none⟩) n cap):=by simp[World.cell?,br]
 have p1:E.cell? ⟨w.heap.size+1,0,none⟩=some (.int .u64 hi):=by simp[World.cell?,bt]
 have d0:=g1.cell c0 (by simp);have d3:=g1.cell c3 (by simp);have A0:jX w w sb f r t j m j m lf ll count tick wait St []:=⟨⟨cs,I,H⟩,h0,ak.rfl' _ _,rfl,rfl⟩
 have b5:∀k,w.heap.size<=k->¬FT sb j m k:=λk M h=>by
  obtain h|h|h:=h
  omega;have:=(H.of.lt k h).2;omega;have:=(H.ol.lt k h).2;omega
 have e1:Hid (count<=hi->∀W,w.grownBy W none->R (.returned (.iface 34 (.int .i64 8))) W):=J (λh W g=>by rw[Z T];exact .inl ⟨by rw[<-L];exact h,rfl,g⟩);replace L:=J L;replace hn:=J hn;replace br:=J br;replace bt:=J bt;replace I:=J I;go_enter func253,ntmps253;go_upto_region 2 with fail;rw[<-U];clear U;by_cases bx:count<=hi
 ·have dg:decide (count<=hi)=true:=bp bx;go_quiet (fail);go_wp2_with fail;exact Z e1 bx _ (dh g1 _)
 have dg:decide (count<=hi)=false:=bB bx;go_quiet (fail);obtain⟨N,bz⟩:=exq (E.drewN nq);have V:E.grownBy N none:=by rw[bz];exact dh (av _ _) nq
 have bL:=aj g1 V;have A2:=A0.gb z bL;have q0:=V.cell p0 (by simp);have q1:=V.cell p1 (by simp);have q3:=V.cell d3 (by simp);have eS:∀x∈lf,∃a n c,x.2=.slice a n c:=λx F=>by obtain⟨a,n,c,e,-⟩:=bj x (by simp[F]);exact⟨a,n,c,e⟩
 have c9:=hs.ah bL;obtain⟨B,G,X,db,de⟩:=H.of.fL;obtain⟨cb,b6,b7⟩:∃b,(0<lf.length->B=some ⟨b,0,none⟩)/\(∀i,i<lf.length->N.cell? ⟨b,0+i*4,none⟩=some (.int .u64 (bD lf i).1.num)/\N.cell? ⟨b,0+i*4+1,none⟩=some (.int .i64 (bD lf i).1.tick)/\N.cell? ⟨b,0+i*4+2,none⟩=some (.int .i64 (bD lf i).1.st)/\N.cell? ⟨b,0+i*4+3,none⟩=some (bD lf i).2):=by
  by_cases hz:0<lf.length;have ho:=H.of.ah bL;rw[X]at ho;obtain⟨b,e,h⟩:=ho.cell hz;exact⟨b,λ_=>e,h⟩
  exact⟨0,λh=>absurd h hz,λi hi=>by omega⟩
 have dk:=J (zJ B cb 0 lf.length G 287 #[] #[.pointer (some ⟨w.heap.size,0,none⟩)] N (λi=>bw l (bD lf i).1.num=true) (λi=>.int .u64 (bD lf i).1.num) (λi=>.int .i64 (bD lf i).1.tick) (λi=>.int .i64 (bD lf i).1.st) (λi=>(bD lf i).2) b6 ⟨db,de⟩ (λ_ _=>by kernel_rfl)
  (λW i g hi=>by obtain⟨p0,p1,p2,p3⟩:=b7 i hi;exact⟨g.cell p0 (by simp),g.cell p1 (by simp),g.cell p2 (by simp),g.cell p3 (by simp)⟩)
  (λW i g hi=>by
    refine(zT W w.heap.size (some ⟨b,o,none⟩) n cap l (bD lf i) (g.cell q0 (by simp)) (c9.ah g)).mono ?_;rintro e A⟨rfl,g'⟩;exact⟨⟨_,rfl,Iff.rfl⟩,g'⟩))
 clear b6 b7;obtain⟨a2,a3⟩:=exq (lf.any (λx=>bw l x.1.num));have dn:Hid (a2=true↔∃i,i<lf.length/\bw l (bD lf i).1.num=true):=J (by rw[a3];exact F5 lf _);replace a3:=J a3;replace A0:=J A0;replace A2:=J A2;rw[X]at q3;replace X:=J X;go_upto_region 5 with fail;rw[<-bz];clear bz;go_wp2_with fail;refine(Z dk).mono ?_;rintro e w3⟨b8,g3⟩;obtain rfl:=rh b8 (Z dn);clear b8;have Y:=(Z A2).gb z g3;have fb:=aj V g3;have r0:=g3.cell q0 (by simp);have r1:=g3.cell q1 (by simp);obtain⟨fc,a4,HA⟩:=Y.fl;have k2:=(aU a4 _).trans HA.c2;have f2:w3.frozen? ⟨sb,f+2,none⟩=false:=by simp[World.frozen?,a4]
 replace a4:=J a4;replace Y:=J Y;go_upto_if 26 with fail;go_cut [] (λwx=>jX w wx sb f r t j m j m lf ll count tick (if a2 then 4 else wait) St []/\w3.grownBy wx (some sb));case first=>
  cases a2
  ·go_wp2_with fail;go_meet;exact⟨by simpa using Z Y,av _ _⟩
  go_wp2_with fail;go_meet;exact⟨by simpa using (Z Y).set v z 4,aD (av _ _) _ _ (.inr rfl)⟩
 case rest=>
  rename World=>w4
  obtain⟨s,ca⟩:=hcut;obtain⟨la,O,ds,-⟩:=H.ol.fL;have du:=Z X;subst du;subst ds;obtain⟨Q,hQ⟩:∃Q:Kt->Bool,Q=λx=>bw l x.1.num:=⟨_,rfl⟩
  obtain⟨wt,cf⟩:=exq ((if a2 then 4 else wait));rw[<-cf]at s;have bM:w.heap.size≠sb:=by omega
  have P:w.heap.size+1≠sb:=by omega
  have s0:=ca.cell r0 (λe=>bM (aJ e));have s1:=ca.cell r1 (λe=>P (aJ e));have bP:¬FT sb (.slice B lf.length G) (.slice la ll.length O) w.heap.size:=b5 _ (aI _);have a8:¬FT sb (.slice B lf.length G) (.slice la ll.length O) (w.heap.size+1):=b5 _ (by omega);have cg:∀W,ak w W (FT sb (.slice B lf.length G) (.slice la ll.length O))->ba W (some ⟨b,o,none⟩) n cap l:=λW C=>hs.cW (λ_ y ey=>C.block _ (a1 y ey).2 (a1 y ey).1)
  have ch:∀W,ak w W (FT sb (.slice B lf.length G) (.slice la ll.length O))->l≠[]->∀y,some (⟨b,o,none⟩:Addr)=some y->¬FT sb (.slice B lf.length G) (.slice la ll.length O) y.block/\y.block<W.heap.size:=λW C _ y ey=>⟨(a1 y ey).1,bK (a1 y ey).2 C.size⟩
  have bS:=J (zU s v b4 z S hS lf _ (.inl ⟨rfl,rfl⟩) ((bj.sub (λx F=>by simp[F])).aq s.aq (λk _ M=>hS k M)) w.heap.size _ n cap l s0 bP (cg _ s.aq) (ch _ s.aq) K lc ec (λW a x p h1 h2 h3 h4=>hC W a x p h1 (by simp[h2]) h3 h4));have e3:w4.cell? ⟨sb,f+3,none⟩=some (.slice B lf.length G):=by
   obtain⟨c4,dx,H4⟩:=s.fl;rw[aU dx];exact H4.c3
  rw[jQ]at bS;replace s:=J s;clear r0 r1 q0 q1 q3 k2 f2 p0 p1 d0 d3 c0 c3;go_upto_region 7 with fail;go_wp2_with fail;refine(Z bS).mono ?_;rintro e w5⟨v5,rfl,o5,h5,cj,C5,K5⟩;obtain⟨a5,c5,rfl,-⟩:=o5.fL;obtain⟨u,z3,z4⟩:=(Z s).az v z o5 h5 cj C5 K5;have dE:=C5.cell s0 (λd=>by obtain d|d:=d;exact bM d;exact bP (.inr (.inl d)));have dG:=C5.cell s1 (λd=>by obtain d|d:=d;exact P d;exact a8 (.inr (.inl d)));obtain⟨W6,al⟩:=exq (w5.setCell ⟨sb,f+3,none⟩ (.slice a5 (lf.filter (λx=> !bw l x.1.num)).length c5));rw[<-al]at u;have g6:w5.grownBy W6 (some sb):=by rw[al];exact aD (av _ _) _ _ (.inr rfl)
  have ee:=g6.cell dE (λe=>bM (aJ e));have eg:=g6.cell dG (λe=>P (aJ e));have cp:=J (zU u v b4 z S hS ll _ (.inr ⟨rfl,rfl⟩) ((bj.sub (λx F=>by simp[F])).aq u.aq (λk _ M=>hS k M)) w.heap.size _ n cap l ee bP (cg _ u.aq) (ch _ u.aq) K lc ec (λW a x p h1 h2 h3 h4=>hC W a x p h1 (by simp[h2]) h3 h4));have e4:W6.cell? ⟨sb,f+4,none⟩=some (.slice la ll.length O):=by
   obtain⟨c6,ei,H6⟩:=u.fl;rw[aU ei];exact H6.c4
  replace u:=J u;replace al:=J al;clear o5 cj C5 K5 h5 bS e3;go_upto_region 8 with fail;rw[<-Z al];go_wp2_with fail;refine(Z cp).mono ?_;rintro e w7⟨v7,rfl,o7,h7,cv,C7,K7⟩;obtain⟨a7,c7,rfl,-⟩:=o7.fL;obtain⟨D,z7,z8⟩:=(Z u).FZ v z o7 h7 cv C7 K7;have ej:=C7.cell eg (λd=>by obtain d|d:=d;exact P d;exact a8 (.inr (.inr d)));obtain⟨W8,ax⟩:=exq (w7.setCell ⟨sb,f+4,none⟩ (.slice a7 (ll.filter (λx=> !bw l x.1.num)).length c7));rw[<-ax]at D;have g8:w7.grownBy W8 (some sb):=by rw[ax];exact aD (av _ _) _ _ (.inr rfl)
  have ek:=g8.cell ej (λe=>P (aJ e));obtain⟨cw,a9,H8⟩:=D.fl;have b0:=D.ef;have b3:=D.el;have ff:=oa (λx:Kt=> !bw l x.1.num) lf;have fo:=oa (λx:Kt=> !bw l x.1.num) ll;have fq:=D.aq.size;have eo:=J (zR W8 sb f r 290 #[.pointer (some ⟨w.heap.size+1,0,none⟩)] cw t _ _ _ _ count tick wt (λx=>decide (x.1.num+3<=hi)) a9 H8 (by omega) (by rw[b0];exact v.1) (by rw[b3];exact v.2.1) (λk M=>by rw[b3];exact v.2.2 k (b0▸M)) (by omega) (λx F=>eS x ((jR.1 F).1)) (λ_ _=>by kernel_rfl)
   (λW i C ep=>FV W (w.heap.size+1) hi _ (C.cell ek (λd=>by
     obtain d|d|d:=d
     exact P d;exact a8 (.inr (.inl (b0▸d)))
     ·exact a8 (.inr (.inr (b3▸d))))) (cx _ (jR.1 (nF ep)).1)))
  have ew:Hid (∀q,(∃bb a0,q.heap[sb]?=some (.cells ((cw.setIfInBounds (f+4) a0).setIfInBounds (f+3) bb) t (0,0))/\bU q r bb ((lf.filter (λx=> !bw l x.1.num)).filter (λx=> !decide (x.1.num+3<=hi)))/\bU q r a0 (ll.filter (λx=> !bw l x.1.num)++(lf.filter (λx=> !bw l x.1.num)).filter (λx=>decide (x.1.num+3<=hi)))/\ak W8 q (FT sb (.slice a5 (lf.filter (λx=> !bw l x.1.num)).length c5) (.slice a7 (ll.filter (λx=> !bw l x.1.num)).length c7))/\bb.ownBlock=(Value.slice a5 (lf.filter (λx=> !bw l x.1.num)).length c5).ownBlock/\(a0.ownBlock=(Value.slice a7 (ll.filter (λx=> !bw l x.1.num)).length c7).ownBlock\/∀k,a0.ownBlock=some k->W8.heap.size<=k))->R (.returned .nilIface) q):=J (by
   rintro q⟨bb,a0,ez,eK,eL,C',eV,e5⟩;rw[Z T];refine .inr ⟨by rw[<-Z L];omega,rfl,?_⟩;have e6:=D.uB z a9 H8 ez eK eL C' eV e5;unfold wS;rw[<-Z a3,<-cf,<-Z L];exact e6)
  replace D:=J D;replace ax:=J ax;replace a9:=J a9;clear o7 cv C7 K7 h7 cp e4 H8;go_upto_region 9 with fail;rw[<-Z ax];go_wp2_with fail;refine(Z eo).mono ?_;rintro e w9⟨rfl,h9⟩;have e7:=J (Z ew w9 h9);clear h9;go_wp2_with fail;exact Z e7
theorem F7(w:World)(b c a:Nat)(ls:Array Value)(st:Int)(p:Pc)(q:Bool)(h0:w.cell? ⟨b,0,none⟩=some (.func (.func a) #[] ls))(i:w.cell? ⟨c,2,none⟩=some (.int .i64 st))(u:∀args w,(callFunc a args).run prog w=.ok (.enter a args) w)
 (f:∀W,w.grownBy W none->Calls prog a (#[.int .i64 st,.agg (pA p)]++ls) W (λe j=>e=.returned (.bool q)/\W.grownBy j none)):
 Calls prog 293 #[.agg (pA p),.pointer (some ⟨b,0,none⟩),.pointer (some ⟨c,0,none⟩)] w λe k=>e=.returned (.bool !q)/\w.grownBy k none:=by
 obtain⟨⟨l,m⟩,n,r⟩:=p;unfold pA at *;simp only at *;have v:b<w.heap.size:=dN w _ h0;have x:c<w.heap.size:=dN w _ i;obtain⟨g,d⟩:=exq (w.alloc (.cells #[.int .u64 l,.int .u64 m,.bool n,.bool r] 377));have h:w.grownBy g none:=by rw[d];exact aC _ _ _
 have s:=J (f g h);clear f;go_enter func293,ntmps293;go_wp2_with fail;rw[<-d];clear d;refine(Z s).mono ?_;rintro e y⟨rfl,t⟩;go_wp2_with fail;go_ret;exact⟨rfl,aj h t⟩
theorem F8(w:World)(c d:Nat)(ls:Array Value)(x:Kt)(T:Int->Pc->Bool)(pa:Option Addr)(a f:Nat)(B:x.2=.slice pa a f)(hp:jV w pa a f x.1.ps)(h0:w.cell? ⟨c,0,none⟩=some (.func (.func d) #[] ls))(C:∀args w,(callFunc d args).run prog w=.ok (.enter d args) w)
 (s:∀W p,w.grownBy W none->p∈x.1.ps->Calls prog d (#[.int .i64 x.1.st,.agg (pA p)]++ls) W (λe j=>e=.returned (.bool (T x.1.st p))/\W.grownBy j none)):
 Calls prog 291 #[.agg (kA x),.pointer (some ⟨c,0,none⟩)] w λe D=>e=.returned (.bool (x.1.ps.all (T x.1.st)))/\w.grownBy D none:=by
 obtain⟨⟨num,tk,st,ps⟩,O⟩:=x;simp only at *;subst B;unfold kA;simp only
 have P:c<w.heap.size:=dN w _ h0;obtain⟨m,k⟩:=exq (w.alloc (.cells #[.int .u64 num,.int .i64 tk,.int .i64 st,.slice pa a f] 325));have l:w.grownBy m none:=by rw[k];exact aC _ _ _
 have n:m.heap[w.heap.size]?=some (.cells #[.int .u64 num,.int .i64 tk,.int .i64 st,.slice pa a f] 325 (0,0)):=by rw[k];exact aH _ _
 obtain⟨-,-,b2,-⟩:=lA n;have E:=l.cell h0 (by simp);have t:=hp.ah l;obtain⟨b,o,q⟩:∃b o,0<a->pa=some ⟨b,o,none⟩:=by
  by_cases F:0<a;obtain⟨-,Q,R,-,S|⟨b,o,rfl,-⟩⟩:=id hp;omega;exact⟨b,o,λ_=>rfl⟩
  exact⟨0,0,λh=>absurd h F⟩
 have u:a=ps.length:=hp.2.1;have G:=J (Fw pa b o a f 293 #[] #[.pointer (some ⟨c,0,none⟩),.pointer (some ⟨w.heap.size,0,none⟩)] m (λi=>(!T st (eT ps i))=true) (λi=>.int .u64 (eT ps i).x.lo) (λi=>.int .u64 (eT ps i).x.hi) (λi=>.bool (eT ps i).e) (λi=>.bool (eT ps i).g) q ⟨hp.2.2.1,hp.2.2.2.1⟩ (λ_ _=>by kernel_rfl)
  (λW i g hi=>by
    have v:=t.ah g;rw[q (by omega)]at v;exact v.cell i (by omega))
  (λW i g hi=>by
    refine(F7 W c w.heap.size d ls st (eT ps i) (T st (eT ps i)) (g.cell E (by simp)) (g.cell b2 (by simp)) C (λj r=>s j _ (aj l (aj g r)) (uA (by omega)))).mono ?_;rintro e j⟨rfl,r⟩;exact⟨⟨_,rfl,Iff.rfl⟩,r⟩))
 have y:Hid ((!ps.all (T st))=true↔∃i,i<a/\(!T st (eT ps i))=true):=J (by
  rw[u,Bool.not_eq_true',<-Bool.not_eq_true,List.all_eq_true];constructor;intro h;apply qd;intro H;apply h;intro p I;obtain⟨i,hi,rfl⟩:=lL.1 I;have K:eT ps i=ps[i]:=by simp[eT,List.getD,hi]
  cases L:T st ps[i];exact absurd ⟨i,hi,by rw[K,L];rfl⟩ H;rfl
  ·rintro⟨i,hi,h⟩ M;have:=M _ (uA hi);rw[this]at h;cases h)
 obtain⟨U,z⟩:=exq (ps.all (T st));rw[<-z]at y⊢;clear z u hp t q s;replace n:=J n;go_enter func291,ntmps291;go_wp2_with fail;rw[<-k];clear k;refine(Z G).mono ?_;rintro e V⟨A,N⟩;obtain rfl:=rh A (Z y);clear A;go_wp2_with fail;go_ret;exact⟨by simp,aj l N⟩
theorem F9(w:World)(sb m s:Nat)(cs:Array Value)(t:TypeId)(G d:Value)(lf ll:List Kt)(count tick wait:Int)(z:w.heap[sb]?=some (.cells cs t (0,0)))(H:ik w s cs m G d lf ll count tick wait)(I:oI sb G d)(S:Nat->Prop)(bj:∀k,FT sb G d k->S k)(K:mq w S ll)(l:Nat)(ls:Array Value)(T:Int->Pc->Bool)(es:∀args w,(callFunc l args).run prog w=.ok (.enter l args) w)
 (P:∀(W:World)(x:Kt)(p:Pc),ak w W (λk=>d.ownBlock=some k)->x∈ll->p∈x.1.ps->Calls prog l (#[.int .i64 x.1.st,.agg (pA p)]++ls) W (λe A=>e=.returned (.bool (T x.1.st p))/\W.grownBy A none)):
 Calls prog 254 #[.pointer (some ⟨sb,m,none⟩),.func (.func l) #[] ls] w λe b=>e=.returned (.tuple #[])/\∃j,b.heap[sb]?=some (.cells (cs.setIfInBounds (m+4) j) t (0,0))/\bU b s j (ll.filter (λx=> !x.1.ps.all (T x.1.st)))/\j.ownBlock=d.ownBlock/\ak w b (λk=>k=sb\/d.ownBlock=some k):=by
 obtain⟨R,B⟩:=exq (λb:World=>∃j,b.heap[sb]?=some (.cells (cs.setIfInBounds (m+4) j) t (0,0))/\bU b s j (ll.filter (λx=> !x.1.ps.all (T x.1.st)))/\j.ownBlock=d.ownBlock/\ak w b (λk=>k=sb\/d.ownBlock=some k));have Q:(λ(e:Ending) b=>e=.returned (.tuple #[])/\∃j,b.heap[sb]?=some (.cells (cs.setIfInBounds (m+4) j) t (0,0))/\bU b s j (ll.filter (λx=> !x.1.ps.all (T x.1.st)))/\j.ownBlock=d.ownBlock/\ak w b (λk=>k=sb\/d.ownBlock=some k))=λe b=>e=.returned (.tuple #[])/\R b:=by rw[B]
 rw[Q];clear Q;replace B:=J B;have cw:sb<w.heap.size:=(aO.1 z).1;have c4:=(aU z _).trans H.c4;have cx:=gF H.c4;obtain⟨q,C⟩:=exq (w.alloc (.cells #[.func (.func l) #[] ls] 390));have u:w.grownBy q none:=by rw[C];exact aC _ _ _
 have D:q.heap[w.heap.size]?=some (.cells #[.func (.func l) #[] ls] 390 (0,0)):=by rw[C];exact aH _ _
 have bt:w.heap.size<q.heap.size:=(aO.1 D).1;have L:=bf z u;obtain⟨va,E,U,bz,V⟩:=H.ol.fL;have bL:∀k,d.ownBlock=some k->k<w.heap.size:=λk e=>(H.ol.lt k e).2
 have M:Hid (Calls prog 236 #[d,.func (.func 291) #[] #[.pointer (some ⟨w.heap.size,0,none⟩)]] q (λe b=>∃a n c,e=.returned (.slice a n c)/\bU b s (.slice a n c) (ll.filter (λx=> !x.1.ps.all (T x.1.st)))/\(Value.slice a n c).ownBlock=d.ownBlock/\ak q b (λk=>d.ownBlock=some k))):=by
  subst U;by_cases X:ll=[]
  subst X;refine J ((wR va E _ _ q V (λ_ _=>by kernel_rfl)).mono ?_);rintro e b⟨rfl,rfl⟩;exact⟨_,_,_,rfl,H.ol.ah u,rfl,ak.rfl' _ _⟩
  have bM:=np.2 X;obtain⟨g,rfl,-⟩:=H.ol.cell bM;obtain⟨bP,bS,b0⟩:=(H.ol.ah u).mid;have b3:sb≠g:=λe=>I.2.1 (by rw[e];rfl)
  have M:=wQ g ll.length E s 291 sb #[.pointer (some ⟨w.heap.size,0,none⟩)] ll q (λh=>(bD ll h).1.ps.all (T (bD ll h).1.st)) (λ_ W=>ak q W (λk=>(Value.slice (some ⟨g,0,none⟩) ll.length E).ownBlock=some k)) bS bP rfl ⟨bz,V⟩ (λx hx=>by obtain⟨a,n,c,e,-⟩:=K x hx;exact⟨a,n,c,e⟩) b0 (by omega) b3 (λ_ _=>by kernel_rfl) (ak.rfl' _ _)
   (λW A h hi gg=>(hi.trans (ak.of gg)).mono (λk _ f=>f.elim id id))
   (λW h hi f=>by
     have Y:=nF f;obtain⟨pa,pn,pp,b6,b7,a0⟩:=K _ Y;have a1:ak w W (λk=>(Value.slice (some ⟨g,0,none⟩) ll.length E).ownBlock=some k):=((ak.of u).trans hi).mono (λk _ f=>f.elim (λe=>by cases e) id);have b8:jV W pa pn pp (bD ll h).1.ps:=b7.cW (λ_ y ey=>a1.block _ (a0 y ey).2 (λht=>(a0 y ey).1 (bj _ (.inr (.inr ht)))));have cf:=(hi.block w.heap.size bt (λe=>by have:=bL _ e;omega)).trans D;refine(F8 W w.heap.size l ls (bD ll h) T pa pn pp b6 b8 (by simp[World.cell?,cf]) es (λA p F cg=>P A _ p (a1.grow F) Y cg)).mono ?_;rintro e A⟨rfl,F⟩;exact⟨rfl,hi.grow F,cO F _⟩)
  refine J (M.mono ?_);have ch:kp ll (λh=>(bD ll h).1.ps.all (T (bD ll h).1.st)) ll.length=ll.filter (λx=> !x.1.ps.all (T x.1.st)):=by
   rw[wP ll _ (λx=>x.1.ps.all (T x.1.st)) (λi _=>rfl) _ (aI _),lh]
  rw[ch];rintro e b⟨rfl,ho,cj⟩;exact⟨_,_,_,rfl,ho,rfl,cj⟩
 have cp:Hid (∀(r:World)(v:Value),bU r s v (ll.filter (λx=> !x.1.ps.all (T x.1.st)))->v.ownBlock=d.ownBlock->ak q r (λk=>d.ownBlock=some k)->R (r.setCell ⟨sb,m+4,none⟩ v)/\r.cell? ⟨sb,m+4,none⟩=some d/\r.frozen? ⟨sb,m+4,none⟩=false):=J (λr v h1 h2 h3=>by
  have N:=(h3.block sb (by omega) (λe=>I.2.1 e)).trans L;have l:=aD (av r (some sb)) ⟨sb,m+4,none⟩ v (.inr rfl);refine⟨?_,by rw[aU N];exact H.c4,by simp[World.frozen?,N]⟩
  rw[Z B];refine⟨v,heap_set N _,h1.gb l (.inr (by rw[h2];exact I.2.1)),h2,(((ak.of u).trans h3).trans (ak.of l)).mono (λk _ f=>?_)⟩
  obtain(f|f)|f:=f
  cases f;exact .inr f
  ·exact .inl (aJ f).symm)
 have d4:=u.cell c4 (by simp);clear P K H c4;subst U;replace D:=J D;replace L:=J L;replace z:=J z;go_enter func254,ntmps254;go_upto_region 1 with fail;rw[<-C];clear C;go_wp2_with fail;refine(Z M).mono ?_;rintro e r⟨a5,n5,c5,rfl,o5,e5,C5⟩;obtain⟨O,z5,f5⟩:=Z cp r _ o5 e5 C5;replace O:=J O;clear o5 e5 C5;go_wp2_with fail;exact dP (dj rfl _ _ _) rfl ⟨rfl,Z O⟩
def iO(r:Int):Int:=if r<=64 then r-1 else if r=65 then 63 else r-2
theorem Ga(h:wN r p)(l:r<=1000):p=iO r:=by
 obtain⟨m,i,j,f,d⟩:=h;unfold iO;by_cases a:r-1<=0;rw[aM (by omega)];exact i a;have n:=j (by omega);by_cases b:r<=64;rw[aM b];apply qd;intro g;have:=d (r-1) (by omega) (fI _);unfold bZ at this;rw[aM (by omega)]at this;omega;rw[ay b];by_cases c:r=65;subst c;rw[aM rfl];have k:p≠64:=λe=>by
  subst e;have:=f (by omega);unfold bZ at this;simp at this
 apply qd;intro g;have:=d 63 (by omega) (by omega);unfold bZ at this;simp at this;rw[ay c];have k:p≠r-1:=λe=>by
  have:=f (by omega);unfold bZ at this;rw[ay (by omega),aM (by omega)]at this;omega
 apply qd;intro g;have:=d (r-2) (by omega) (by omega);unfold bZ at this;rw[ay (by omega),aM (by omega)]at this;omega
def Ot.en(o:Ot):Int:=o.h.fr+o.h.bytes.length
def Ot.dL(o:Ot)(d:List Rg):Rg:=if d.length=0 then⟨o.en,o.en⟩else au d 0
def Ot.fV(o:Ot)(d:List Rg)(b:Bool)(a:Int):Pc×Bool:=
 if iO (a-(2+bZ (o.dL d).lo))<0 then(⟨⟨0,0⟩,false,false⟩,false)
 else(⟨⟨(o.dL d).lo,min (o.dL d).hi ((o.dL d).lo+iO (a-(2+bZ (o.dL d).lo)))⟩,o.sE&&(min (o.dL d).hi ((o.dL d).lo+iO (a-(2+bZ (o.dL d).lo)))==o.en),false⟩,decide ((o.dL d).lo<min (o.dL d).hi ((o.dL d).lo+iO (a-(2+bZ (o.dL d).lo))))||((o.sE&&(min (o.dL d).hi ((o.dL d).lo+iO (a-(2+bZ (o.dL d).lo)))==o.en))&&b))
theorem Gb(w:World)(sb O:Nat)(ab:Option Addr)(nb cb:Nat)(ac:Option Addr)(nc cc:Nat)(o:Ot)(H:gE w sb O ab nb cb ac nc cc o.h)(T:jA w sb O o)(hG:o.sG=false)(a:Option Addr)(n cap:Nat)(d:List Rg)(hs:ba w a n cap d)(t dG:Bool)(p:Int)(eK: -1000<=p/\p<=1000)(hd:∀r∈d,0<=r.lo/\r.lo<=r.hi/\r.hi<=4611686018427387903):
 Calls prog 242 #[.pointer (some ⟨sb,O,none⟩),.agg #[.slice a n cap,.bool t,.bool dG],.int .i64 p] w λr P=>r=.returned (.tuple #[.agg (pA (o.fV d t p).1),.bool (o.fV d t p).2])/\w.grownBy P none:=by
 have bL:=J (λW(g:w.grownBy W none)=>wF W sb O o (T.ah g));rw[hG]at bL;have C:=J (λW(g:w.grownBy W none)=>zk W sb O ab nb cb ac nc cc o.h (H.ah g));have ei:=H.2.2.2.2.2;have cp:0<=(o.dL d).lo/\(o.dL d).lo<=(o.dL d).hi/\(o.dL d).hi<=4611686018427387903:=by
  unfold Ot.dL Ot.en;split;obtain⟨k0,k1,-⟩:=ei;simp only;omega;exact hd _ (mm (by omega))
 obtain⟨c3,c4,c5,c6,c7,c8,-,-⟩:=T;obtain⟨en,bb⟩:=exq o.en;have cv:o.h.fr+(o.h.bytes.length:Int)=en:=bb.symm;rw[cv]at C;have bj:=J (λW=>Fs (o.dL d).lo p W (by omega));obtain⟨X,hX⟩:=exq (o.dL d);obtain⟨res,bM⟩:=exq (o.fV d t p);have Q:Hid (res=if iO (p-(2+bZ X.lo))<0 then(⟨⟨0,0⟩,false,false⟩,false)
  else(⟨⟨X.lo,min X.hi (X.lo+iO (p-(2+bZ X.lo)))⟩,o.sE&&(min X.hi (X.lo+iO (p-(2+bZ X.lo)))==en),false⟩,decide (X.lo<min X.hi (X.lo+iO (p-(2+bZ X.lo))))||((o.sE&&(min X.hi (X.lo+iO (p-(2+bZ X.lo)))==en))&&t))):=J (by rw[bM,hX,bb];rfl)
 rw[<-hX]at bj cp;rw[<-bM];have cw:Hid (X=if n=0 then⟨en,en⟩else au d 0):=J (by rw[hX,bb,hs.2.1];rfl);obtain⟨c,R⟩:=X;simp only at bj cp Q;clear bM hX bb cv;obtain⟨S,U⟩:=exq (w.alloc (.cells #[.slice a n cap,.bool t,.bool dG] 332));have g1:w.grownBy S none:=by rw[U];exact aC _ _ _
 have bP:S.heap[w.heap.size]?=some (.cells #[.slice a n cap,.bool t,.bool dG] 332 (0,0)):=by rw[U];exact aH _ _
 have bS:S.heap.size=w.heap.size+1:=by rw[U];simp
 obtain⟨W2,br⟩:=exq (S.alloc (.cells #[.int .u64 0,.int .u64 0,.bool false,.bool false] 377));have g2:S.grownBy W2 none:=by rw[br];exact aC _ _ _
 have cx:W2.heap[w.heap.size+1]?=some (.cells #[.int .u64 0,.int .u64 0,.bool false,.bool false] 377 (0,0)):=by rw[br,<-bS];exact aH _ _
 have cy:=bf bP g2;have cR:=aj g1 g2;replace bP:=J bP;replace bS:=J bS;have eL:sb<w.heap.size:=dN w _ c3;go_enter func242,ntmps242;go_upto_region 1 with fail;rw[<-U,<-br];clear U br;go_wp2_with fail;refine(Z bL _ cR).mono ?_;rintro e l⟨rfl,g3⟩;have M:=aj cR g3;have b0:=J (bf cx g3);have c9:=J (bf cy g3);clear cx cy;have V:l.grownBy l.drew none:=aP (av _ _);go_upto_region 3 with fail;go_cut [8] (λv wx=>∃B:Nat,v=.pointer (some ⟨B,0,none⟩)/\l.heap.size<=B/\wx.heap[B]?=some (.cells #[.int .u64 en,.int .u64 en] 341 (0,0))/\l.grownBy wx none);case first=>
  go_region_held3 (λP=>l.grownBy P none)
   (first|with_reducible exact u|with_reducible exact q|with_reducible exact V|with_reducible exact aP (aS (av _ _) _)|with_reducible exact aS V _|with_reducible exact aS q _|with_reducible exact aS u _|with_reducible exact aD (aD u _ _ (.inl (aI _))) _ _ (.inl (aI _))|with_reducible exact aD (aD u _ _ (.inl q.size)) _ _ (.inl q.size))
   (first
     |(go_at_call 196;refine(Z C l.drew (aj M V)).mono ?_;rintro e s⟨rfl,x⟩;have q:l.grownBy s none:=aj V x)
     |(go_at_call 196;refine(Z C (l.alloc (.cells #[.int .u64 0,.int .u64 0] 341)).drew (aj M (aP (aC _ _ _)))).mono ?_;rintro e s⟨rfl,x⟩;have q:l.grownBy s none:=aj (aP (aC _ _ _)) x;have ej:=J (wK x))
     |(go_at_call 196;refine(Z C (s.alloc (.cells #[.int .u64 0,.int .u64 0] 341)) (aj M (aS q _))).mono ?_;rintro e y⟨rfl,E⟩;have u:l.grownBy y none:=aj (aS q _) E;have A:=bf (aH s _) E;obtain⟨⟨k0,k1⟩,z0,z1⟩:=oH A;replace A:=J A)
     |(go_at_call 196;refine(Z C s (aj M q)).mono ?_;rintro e y⟨rfl,E⟩;have u:l.grownBy y none:=aj q E;have A:=bf (Z ej) E;obtain⟨⟨k0,k1⟩,z0,z1⟩:=oH A;replace A:=J A)
     |(go_at_call 196;refine(Z C s (aj M q)).mono ?_;rintro e y⟨rfl,E⟩;have u:l.grownBy y none:=aj q E))
  ·go_wp2_with fail;go_meet;exact⟨_,rfl,u.size,aH _ _,aS u _⟩
  ·go_wp2_with fail;go_meet;exact⟨_,rfl,q.size,heap_set (heap_set (Z A) _) _,aD (aD u ⟨s.heap.size,0,none⟩ _ (.inl q.size)) ⟨s.heap.size,1,none⟩ _ (.inl q.size)⟩
  go_wp2_with fail;go_meet;exact⟨_,rfl,aI _,heap_set (heap_set (Z A) _) _,aD (aD u ⟨l.heap.size,0,none⟩ _ (.inl (aI _))) ⟨l.heap.size,1,none⟩ _ (.inl (aI _))⟩
 case rest=>
  rename World=>w4
  obtain⟨B,rfl,hB,al,F⟩:=hcut;have db:=aj M F;have bt:=bf (Z c9) F;have b3:=bf (Z b0) F;have ek:w.heap.size+1<l.heap.size:=(aO.1 (Z b0)).1;obtain⟨⟨t0,t1,t2⟩,-,-,-⟩:=qo bt;obtain⟨⟨u0,u1⟩,v0,v1⟩:=oH al;have ax:=hs.ah db;have eV:=hs.2.2.1;have eo:=hs.2.2.2.1;unfold maxLen at eo;have de:B≠w.heap.size:=by omega
  have dg:B≠w.heap.size+1:=by omega
  have e3:B≠sb:=by omega
  replace bt:=J bt;replace b3:=J b3;replace al:=J al;clear V c9 b0;go_upto_if 44 with fail;go_cut [] (λwx=>wx.heap[B]?=some (.cells #[.int .u64 c,.int .u64 R] 341 (0,0))/\w4.grownBy wx (some B));case first=>
   by_cases hz:n=0
   ·subst hz;have N:=Z cw;simp only[fJ]at N;cases N;go_wp2_with fail;go_meet;exact⟨Z al,av _ _⟩
   obtain⟨b,ob,rfl⟩:∃b o,a=some ⟨b,o,none⟩:=by
    obtain⟨-,h2,h3,-,h5|⟨b,o,rfl,-⟩⟩:=id hs;omega;exact⟨b,o,rfl⟩
   have N:=Z cw;rw[ay hz]at N;obtain⟨y0,y1⟩:=ax.cell 0 (by have:=hs.2.1;omega);rw[<-N,mK,lO]at y0 y1;simp only at y0 y1;clear N;have i0:(0:Int)<(n:Int):=by omega
   go_wp2_with fail;go_meet;exact⟨heap_set (heap_set (Z al) _) _,aD (aD (av w4 (some B)) ⟨B,0,none⟩ _ (.inr rfl)) ⟨B,1,none⟩ _ (.inr rfl)⟩
  case rest=>
   rename World=>s
   obtain⟨a0,x⟩:=hcut;have b4:=(x.block w.heap.size (bK (by omega) F.size) (λe=>de (aJ e).symm)).trans (Z bt);have a1:=(x.block (w.heap.size+1) (bK ek F.size) (λe=>dg (aJ e).symm)).trans (Z b3);obtain⟨⟨u0,u1⟩,v0,v1⟩:=oH a0;clear t0 t1 t2 ax;have b5:w.grownBy s none:=ot (aj (cO db (some B)) x) (by omega);obtain⟨m,hm⟩:=exq (iO (p-(2+bZ c)));have e5:=sD c;have e6: -1100<=m/\m<=1000:=by
    rw[hm];unfold iO;split;omega;split<;>omega
   rw[<-hm]at Q;have ep:Hid (∀j,wN (p-(2+bZ c)) j->j=m):=J (λj h=>by rw[hm];exact Ga h (by omega));clear hm;replace a0:=J a0;replace a1:=J a1;replace b4:=J b4;go_upto_region 6 with fail;go_wp2_with fail;refine(Z bj _).mono ?_;rintro e y⟨j,rfl,dk,rfl⟩;obtain rfl:=Z ep j dk;clear dk;by_cases bx:j<0
   ·have dn:decide (j<0)=true:=bp bx;have G:Hid (res=(⟨⟨0,0⟩,false,false⟩,false)):=J (by rw[Z Q,aM bx]);obtain⟨r0,r1,r2,r3⟩:=lA (Z a1);have a2:∀i,y.frozen? ⟨w.heap.size+1,i,none⟩=false:=λi=>by simp[World.frozen?,Z a1]
    have z0:=a2 0;have z1:=a2 1;have z2:=a2 2;have z3:=a2 3;clear a2;go_wp2_with fail;refine cz (v:=.tuple #[.agg #[.int .u64 0,.int .u64 0,.bool false,.bool false],.bool false]) ?_ rfl ⟨by rw[Z G];rfl,aD (aD (aD (aD b5 ⟨w.heap.size+1,0,none⟩ _ (.inl (df _))) ⟨w.heap.size+1,1,none⟩ _ (.inl (df _))) ⟨w.heap.size+1,2,none⟩ _ (.inl (df _))) ⟨w.heap.size+1,3,none⟩ _ (.inl (df _))⟩;simp[results,results242,go_sem, *]
   have dn:decide (j<0)=false:=bB bx;obtain⟨h,hh⟩:=exq (min R (c+j));have G:Hid (res=(⟨⟨c,h⟩,o.sE&&(h==en),false⟩,decide (c<h)||((o.sE&&(h==en))&&t))):=J (by rw[Z Q,ay bx,hh]);have e7:IntKind.u64.wrap j=j:=by rw[eH];omega
   have e8:IntKind.u64.wrap (c+j)=c+j:=by rw[eH];omega
   have ds:Hid (h=if c+j<R then c+j else R):=J (by rw[hh];split<;>omega);clear hh Q;go_upto_region 9 with fail;go_cut [] (λwx=>wx.heap[B]?=some (.cells #[.int .u64 c,.int .u64 h] 341 (0,0))/\y.grownBy wx (some B));case first=>
    by_cases du:c+j<R
    ·have a3:=Z ds;rw[aM du]at a3;subst a3;go_wp2_with fail;go_meet;exact⟨heap_set (Z a0) _,aD (av y (some B)) ⟨B,1,none⟩ _ (.inr rfl)⟩
    have a3:=Z ds;rw[ay du]at a3;subst a3;go_wp2_with fail;go_meet;exact⟨heap_set (Z a0) _,aD (av y (some B)) ⟨B,1,none⟩ _ (.inr rfl)⟩
   case rest=>
    rename World=>f
    obtain⟨b6,g7⟩:=hcut;have e9:=b5.size;have b7:=(g7.block w.heap.size (by have:=F.size;have:=x.size;omega) (λe=>de (aJ e).symm)).trans (Z b4);have b8:=(g7.block (w.heap.size+1) (by have:=F.size;have:=x.size;omega) (λe=>dg (aJ e).symm)).trans (Z a1);have ca:w.grownBy f none:=ot (aj (cO b5 (some B)) g7) (by omega);obtain⟨⟨u0,u1⟩,-,-⟩:=oH b6;have ew:=kc u0;have ey:=kc u1;have e4:=ca.cell c4 (by simp);have dE:=kc e4;have fa:B<f.heap.size:=dN f _ u0;have fb:sb<f.heap.size:=dN f _ e4;have bz:f.grownBy f.drew none:=aP (av _ _);have cf:=J (λW(g:f.grownBy W none)=>Z C W (aj ca g));obtain⟨sE,ee⟩:=exq o.sE;rw[<-ee]at e4 dE G;clear ee;obtain⟨I,a4⟩:=exq ((sE&&(h==en)));rw[<-a4]at G;replace a4:=J a4;replace b6:=J b6;replace b8:=J b8;replace b7:=J b7;clear v0 v1;go_upto_region 10 with fail;go_cut [10] (λv wx=>∃Y:Nat,v=.pointer (some ⟨Y,0,none⟩)/\f.heap.size<=Y/\wx.heap[Y]?=some (.cells #[.int .u64 c,.int .u64 h,.bool I,.bool false] 377 (0,0))/\f.grownBy wx none);case first=>
     cases sE
     ·have cg:I=false:=by rw[Z a4];rfl
      subst cg;go_big_region;all_goals
       go_wp2_with fail
       go_meet
       exact⟨_,rfl,aI _,aH f _,aP (aS (av _ _) _)⟩
     have cg:I=(h==en):=by rw[Z a4];rfl
     subst cg;clear u0 u1 e4;go_region_held3 (λP=>f.grownBy P none)
      (first|with_reducible exact K|with_reducible exact bz|with_reducible exact aP (aS (av _ _) _)|with_reducible exact aS bz _|with_reducible exact aS K _|with_reducible exact aD (aD (aD (aD K ⟨f.heap.size,0,none⟩ _ (.inl (aI _))) ⟨f.heap.size,1,none⟩ _ (.inl (aI _))) ⟨f.heap.size,2,none⟩ _ (.inl (aI _))) ⟨f.heap.size,3,none⟩ _ (.inl (aI _)))
      (first
        |(go_at_call 196;refine(Z cf f.drew bz).mono ?_;rintro e k⟨rfl,z⟩;have K:f.grownBy k none:=aj bz z)
        |(go_at_call 196;refine(Z cf (f.alloc (.cells #[.int .u64 0,.int .u64 0,.bool false,.bool false] 377)).drew (aP (aC _ _ _))).mono ?_;rintro e k⟨rfl,z⟩;have K:f.grownBy k none:=aj (aP (aC _ _ _)) z;have D:=wK z;obtain⟨k0,k1,k2,k3⟩:=lA D;have z0:k.frozen? ⟨f.heap.size,0,none⟩=false:=(by simp[World.frozen?,D]);have z1:k.frozen? ⟨f.heap.size,1,none⟩=false:=(by simp[World.frozen?,D]);have z2:k.frozen? ⟨f.heap.size,2,none⟩=false:=(by simp[World.frozen?,D]);have z3:k.frozen? ⟨f.heap.size,3,none⟩=false:=(by simp[World.frozen?,D]);replace D:=J D))
     ·go_wp2_with fail;go_meet;exact⟨_,rfl,K.size,aH _ _,aS K _⟩
     go_wp2_with fail;go_meet;have ax:=zN (o:=0) (Z D) (.int .u64 c) (.int .u64 h) (.bool (h==en)) (.bool false);exact⟨_,rfl,aI _,ax.2,ot (aj (cO K _) ax.1) (aI _)⟩
    case rest=>
     rename World=>k
     obtain⟨Y,rfl,hY,ch,z⟩:=hcut;have ez:=aj ca z;have L:=bf (Z b8) z;have cj:=bf (Z b7) z;obtain⟨r0,r1,r2,r3⟩:=lA L;obtain⟨k0,k1,k2,k3⟩:=lA ch;obtain⟨⟨t0,t1,t2⟩,-,-,-⟩:=qo cj;have x0:=z.cell u0 (by simp);have x1:=z.cell u1 (by simp);have z0:k.frozen? ⟨w.heap.size+1,0,none⟩=false:=by simp[World.frozen?,L]
     have z1:k.frozen? ⟨w.heap.size+1,1,none⟩=false:=by simp[World.frozen?,L]
     have z2:k.frozen? ⟨w.heap.size+1,2,none⟩=false:=by simp[World.frozen?,L]
     have z3:k.frozen? ⟨w.heap.size+1,3,none⟩=false:=by simp[World.frozen?,L]
     have fc:Y≠w.heap.size+1:=by omega
     have a8:∀W,k.grownBy W none->w.grownBy ((((W.setCell ⟨w.heap.size+1,0,none⟩ (.int .u64 c)).setCell ⟨w.heap.size+1,1,none⟩ (.int .u64 h)).setCell ⟨w.heap.size+1,2,none⟩ (.bool I)).setCell ⟨w.heap.size+1,3,none⟩ (.bool false)) none:=λW g=>aD (aD (aD (aD (aj ez g) ⟨w.heap.size+1,0,none⟩ _ (.inl (df _))) ⟨w.heap.size+1,1,none⟩ _ (.inl (df _))) ⟨w.heap.size+1,2,none⟩ _ (.inl (df _))) ⟨w.heap.size+1,3,none⟩ _ (.inl (df _))
     replace a8:=J a8;replace L:=J L;replace cj:=J cj;replace ch:=J ch;clear u0 u1 ew ey e4 dE cf C bL bj;go_upto_region 11 with fail;by_cases eg:c<h
     ·have dx:decide (c<h)=true:=bp eg;have a9:Hid (res=(⟨⟨c,h⟩,I,false⟩,true)):=J (by rw[Z G,dx];rfl);go_big_region;go_wp2_with fail;refine cz (v:=.tuple #[.agg #[.int .u64 c,.int .u64 h,.bool I,.bool false],.bool true]) ?_ rfl ⟨by rw[Z a9];rfl,aP (Z a8 k (av _ _))⟩;simp[results,results242,go_sem, *]
     have dx:decide (c<h)=false:=bB eg;cases I
     ·have a9:Hid (res=(⟨⟨c,h⟩,false,false⟩,false)):=J (by rw[Z G,dx];rfl);go_big_region;go_wp2_with fail;refine cz (v:=.tuple #[.agg #[.int .u64 c,.int .u64 h,.bool false,.bool false],.bool false]) ?_ rfl ⟨by rw[Z a9];rfl,aP (Z a8 k (av _ _))⟩;simp[results,results242,go_sem, *]
     have a9:Hid (res=(⟨⟨c,h⟩,true,false⟩,t)):=J (by rw[Z G,dx];simp);go_big_region;go_wp2_with fail;refine cz (v:=.tuple #[.agg #[.int .u64 c,.int .u64 h,.bool true,.bool false],.bool t]) ?_ rfl ⟨by rw[Z a9];rfl,aP (Z a8 k (av _ _))⟩;simp[results,results242,go_sem, *]
structure fM(w:World)(d:Nat)(cs:Array Value)(b:Nat)(vb vc:Value)(o:Ot):Prop where
 c0:cs[b]?=some (.int .u64 o.h.fr)
 c1:cs[b+1]?=some vb
 c2:cs[b+2]?=some vc
 c3:cs[b+3]?=some (.int .u64 o.aE)
 c4:cs[b+4]?=some (.bool o.sE)
 c5:cs[b+5]?=some (.bool o.sG)
 c6:cs[b+6]?=some (.bool o.tE)
 c7:cs[b+7]?=some (.bool o.tG)
 c8:cs[b+8]?=some (.int .u64 o.code)
 own:aX w d vb o.h.bytes
 set:∃a n c,vc=.slice a n c/\ba w a n c o.h.ag
 oJ:aR o.aE/\aR o.code
def mS(w a:World)(sb:Nat)(t:TypeId)(cs:Array Value)(c f:Nat)(vb vc:Value)(o:Ot):Prop:=
 ∃d b e,qY w a sb t cs d c 9 vb b/\fM a f d c b e o/\wL w a b vc e
theorem fM.tail(h:fM w k c i x y d)(a:w.heap[n]?=some (.cells c T (0,0))):jA w n i d:=
 ⟨(aU a _).trans h.c3,(aU a _).trans h.c4,(aU a _).trans h.c5,(aU a _).trans h.c6,(aU a _).trans h.c7,(aU a _).trans h.c8,h.oJ⟩
theorem fM.mn(h:fM w k C i x y d):∃ab nb cb ac nc cc,x=.slice ab nb cb/\y=.slice ac nc cc:=by
 obtain⟨a,n,c,e,-⟩:=h.set;obtain⟨f,g,b,-⟩:=h.own.bs;exact⟨_,_,_,_,_,_,b,e⟩
theorem fM.hd{ac:Option Addr}(h:fM w i C j (.slice O l m) (.slice ac b n) d)(f:w.heap[k]?=some (.cells C T (0,0)))(g:d.h.nice):gE w k j O l m ac b n d.h:=by
 refine⟨(aU f _).trans h.c0,(aU f _).trans h.c1,(aU f _).trans h.c2,h.own.fB,?_,g⟩
 obtain⟨a,q,c,e,p⟩:=h.set;cases e;exact p
theorem fM.ah(h:fM w k C i x y d)(g:w.grownBy W none):fM W k C i x y d:=
 ⟨h.c0,h.c1,h.c2,h.c3,h.c4,h.c5,h.c6,h.c7,h.c8,h.own.ah g,by obtain⟨a,n,c,e,b⟩:=h.set;exact⟨a,n,c,e,b.ah g⟩,h.oJ⟩
theorem bk(h:i≠j):(c.setIfInBounds i x)[j]?=c[j]? :=aW h
theorem uC{ac:Option Addr}(h:∃a n c,Value.slice ac k i=.slice a n c/\ba w a n c Y):ba w ac k i Y:=by
 obtain⟨a,n,c,e,b⟩:=h;cases e;exact b
theorem Gc(a:w.heap[n]?=some (.cells c T (0,0)))(H:fM w l c j x z d)(b:jT w n x z):
 Calls prog 151 #[.pointer (some ⟨n,j,none⟩)] w λr f=>r=.returned (.tuple #[])/\mS w f n T c j l x z {d with sE:=true}:=by
 refine(EZ w n j c T d a (H.tail a)).mono ?_;rintro r f⟨rfl,g,h⟩;obtain⟨ab,nb,cb,ac,nc,cc,rfl,rfl⟩:=H.mn;refine⟨rfl,_,_,_,⟨h,by simp,λi hi=>bk (by omega),(ak.of g).mono (λk _ e=>.inl (aJ e).symm),.inl rfl⟩,⟨?_,?_,?_,?_,cB (gF H.c4),?_,?_,?_,?_,H.own.gb g (.inr b.1),⟨ac,nc,cc,rfl,(uC H.set).gb g (λy e e2=>(b.2 y nc cc (by rw[e])).1 (aJ e2).symm)⟩,H.oJ⟩,.inl rfl⟩
 rw[bk (by omega)];exact H.c0;rw[bk (by omega)];exact H.c1;rw[bk (by omega)];exact H.c2;rw[bk (by omega)];exact H.c3;rw[bk (by omega)];exact H.c5;rw[bk (by omega)];exact H.c6;rw[bk (by omega)];exact H.c7;rw[bk (by omega)];exact H.c8
theorem Gd(a:w.heap[n]?=some (.cells c T (0,0)))(H:fM w l c j x z d)(f:jT w n x z)(code:Int)(m:aR code):
 Calls prog 154 #[.pointer (some ⟨n,j,none⟩),.int .u64 code] w λr b=>r=.returned (.tuple #[])/\mS w b n T c j l x z {d with sE:=false,sG:=true,code:=code,h:={d.h with bytes:=[]}}:=by
 obtain⟨ab,nb,cb,ac,nc,cc,rfl,rfl⟩:=H.mn;refine(E0 w n j c T ab nb cb d code a ((aU a _).trans H.c1) (H.tail a)).mono ?_;rintro r b⟨rfl,g,p⟩;have q:=gF H.c8;refine⟨rfl,_,.slice none 0 0,.slice ac nc cc,⟨p,by simp,λi hi=>?_,(ak.of g).mono (λk _ e=>.inl (aJ e).symm),.inr (λk e=>by cases e)⟩,⟨?_,cB (by simp;omega),?_,?_,?_,?_,?_,?_,?_,aX.nil _ _,⟨ac,nc,cc,rfl,(uC H.set).gb g (λy e e2=>(f.2 y nc cc (by rw[e])).1 (aJ e2).symm)⟩,⟨H.oJ.1,m⟩⟩,.inl rfl⟩
 rw[bk (by omega),bk (by omega),bk (by omega),bk (by omega)];rw[bk (by omega),bk (by omega),bk (by omega),bk (by omega)];exact H.c0;rw[bk (by omega),bk (by omega),bk (by omega),bk (by omega)];exact H.c2;rw[bk (by omega),bk (by omega),bk (by omega),bk (by omega)];exact H.c3;rw[bk (by omega),bk (by omega),bk (by omega)];exact cB (by omega);rw[bk (by omega),bk (by omega)];exact cB (by simp;omega);rw[bk (by omega),bk (by omega),bk (by omega),bk (by omega)];exact H.c6;rw[bk (by omega),bk (by omega),bk (by omega),bk (by omega)];exact H.c7;rw[bk (by omega)];exact cB (by simp;omega)
def Ot.iP(o:Ot)(n:Nat)(ai:Int):Nat:=(min (min (n:Int) (ai-o.h.bytes.length)) (4096-(o.h.fr+o.h.bytes.length))).toNat
theorem Ge(m:w.heap[n]?=some (.cells c T (0,0)))(H:fM w j c k x z d)(q:d.h.nice)(s:j<=w.heap.size)(a:jT w n x z)(b:Option Addr)(nx f:Nat)(l:List Int)(hl:bh w b nx f l)(ai:Int)(t:(d.h.bytes.length:Int)<=ai/\ai<=1000000)(u:d.h.fr+d.h.bytes.length<=4096):
 Calls prog 150 #[.pointer (some ⟨n,k,none⟩),.slice b nx f,.int .i64 ai] w λr p=>r=.returned (.int .i64 (d.iP l.length ai))/\mS w p n T c k j x z {d with h:={d.h with bytes:=d.h.bytes++l.take (d.iP l.length ai)}}:=by
 obtain⟨ab,nb,cb,ac,nc,cc,rfl,rfl⟩:=H.mn;refine(E3 w n k j c T ab nb cb ac nc cc d.h m (H.hd m q) H.own s (λy e e2=>a.1 (by rw[e,<-e2];rfl)) b nx f l hl ai t u (d.iP l.length ai) (by unfold Ot.iP;omega)).mono ?_;rintro r p⟨rfl,v,A,B,ho,C,D,E⟩;have F:=uC H.set;refine⟨rfl,_,.slice v A B,.slice ac nc cc,⟨D,by simp,λi hi=>bk (by omega),C,E⟩,⟨?_,cB (gF H.c1),?_,?_,?_,?_,?_,?_,?_,ho,⟨ac,nc,cc,rfl,F.cW (λhl y g=>C.block _ (a.2 y nc cc (by rw[g])).2.2 (λG=>G.elim (a.2 y nc cc (by rw[g])).1 (a.2 y nc cc (by rw[g])).2.1))⟩,H.oJ⟩,.inl rfl⟩
 rw[bk (by omega)];exact H.c0;rw[bk (by omega)];exact H.c2;rw[bk (by omega)];exact H.c3;rw[bk (by omega)];exact H.c4;rw[bk (by omega)];exact H.c5;rw[bk (by omega)];exact H.c6;rw[bk (by omega)];exact H.c7;rw[bk (by omega)];exact H.c8
def aw{α:Type}(f:Nat->α)(k:Nat)(x:α):Nat->α:=λi=>if i=k then x else f i
theorem bm{α:Type}(f:Nat->α)(k:Nat)(x:α):aw f k x k=x:=by simp[aw]
theorem bq{α:Type}(f:Nat->α)(x:α)(h:i≠k):aw f k x i=f i:=by simp[aw,h]
theorem wT{α:Type}(f:Nat->α)(k:Nat):aw f k (f k)=f:=by
 funext i;unfold aw;split;rename_i h;rw[h];rfl
theorem aX.aq(h:aX w n x L)(C:ak w W S)(c:∀k,x.ownBlock=some k->¬S k):aX W n x L:=by
 obtain⟨h0,d,a⟩:=h;refine⟨h0,d,?_⟩
 obtain a|⟨g,cap,cur,e1,e2,b,e⟩:=a
 exact .inl a;exact .inr ⟨g,cap,cur,e1,e2,(C.block g (aO.1 b).1 (c g (by rw[e1];rfl))).trans b,e⟩
theorem oK(h:∃a n c,x=.slice a n c/\ba w a n c Y)(C:ak w W S)(hs:∀y n c,x=.slice (some y) n c->¬S y.block/\y.block<w.heap.size):∃a n c,x=.slice a n c/\ba W a n c Y:=by
 obtain⟨a,n,c,e,b⟩:=h;refine⟨a,n,c,e,b.cW (λ_ y d=>?_)⟩
 have:=hs y n c (by rw[e,d]);exact C.block _ this.2 this.1
theorem fM.frame{cs':Array Value}(h:fM w j c l x z d)(C:ak w W S)(a:∀i,l<=i->i<l+9->cs'[i]?=c[i]?)(b:∀k,x.ownBlock=some k->¬S k)(hs:∀y n e,z=.slice (some y) n e->¬S y.block/\y.block<w.heap.size):fM W j cs' l x z d:=
 ⟨(a _ (by omega) (by omega)).trans h.c0,(a _ (by omega) (by omega)).trans h.c1,(a _ (by omega) (by omega)).trans h.c2,(a _ (by omega) (by omega)).trans h.c3,(a _ (by omega) (by omega)).trans h.c4,(a _ (by omega) (by omega)).trans h.c5,(a _ (by omega) (by omega)).trans h.c6,(a _ (by omega) (by omega)).trans h.c7,(a _ (by omega) (by omega)).trans h.c8,h.own.aq C b,oK h.set C hs,h.oJ⟩
theorem gP.frame{cs':Array Value}(h:gP w j c l x z E)(C:ak w W S)(a:∀i,l<=i->i<l+9->cs'[i]?=c[i]?)(b:∀k,x.ownBlock=some k->¬S k)(hs:∀y n d,z=.slice (some y) n d->¬S y.block/\y.block<w.heap.size):gP W j cs' l x z E:=
 ⟨(a _ (by omega) (by omega)).trans h.c0,(a _ (by omega) (by omega)).trans h.c1,(a _ (by omega) (by omega)).trans h.c2,(a _ (by omega) (by omega)).trans h.c3,(a _ (by omega) (by omega)).trans h.c4,(a _ (by omega) (by omega)).trans h.c5,(a _ (by omega) (by omega)).trans h.c6,(a _ (by omega) (by omega)).trans h.c7,(a _ (by omega) (by omega)).trans h.c8,h.own.aq C b,oK h.set C hs⟩
theorem ik.frame{cs':Array Value}{lf ll:List Kt}(h:ik w n c j x y lf ll p q r)(C:ak w W S)(a:∀i,j<=i->i<j+5->cs'[i]?=c[i]?)(b:∀k,x.ownBlock=some k->¬S k)(hl:∀k,y.ownBlock=some k->¬S k):ik W n cs' j x y lf ll p q r:=
 ⟨(a _ (by omega) (by omega)).trans h.c0,(a _ (by omega) (by omega)).trans h.c1,(a _ (by omega) (by omega)).trans h.c2,(a _ (by omega) (by omega)).trans h.c3,(a _ (by omega) (by omega)).trans h.c4,h.of.aq C b,h.ol.aq C hl⟩
structure aQ where
 own:Nat->Value
 set:Nat->Value
 lf:List Kt
 ll:List Kt
def bV(sb:Nat)(v:aQ)(k:Nat):Prop:=k=sb\/∃i,i<10/\(v.own i).ownBlock=some k
def dQ(sb:Nat)(v:aQ)(k:Nat):Prop:=bV sb v k\/(∃i y n c,i<9/\v.set i=.slice (some y) n c/\y.block=k)\/∃x∈v.lf++v.ll,∃y n c,x.2=.slice (some y) n c/\y.block=k
structure je(w:World)(sb:Nat)(v:aQ):Prop where
 fu:sb<w.heap.size
 lt:∀i,i<10->∀k,(v.own i).ownBlock=some k->k<w.heap.size
 gH:∀i,i<10->(v.own i).ownBlock≠some sb
 sep:∀i j,i<10->j<10->i≠j->∀k,(v.own i).ownBlock=some k->(v.own j).ownBlock≠some k
 da:∀i,i<9->∀y n c,v.set i=.slice (some y) n c->¬bV sb v y.block/\y.block<w.heap.size
 fm:mq w (bV sb v) (v.lf++v.ll)
structure cP(N:Nat)(w b:World)(sb:Nat)(v a:aQ):Prop where
 aq:ak w b (bV sb v)
 ft:∀k,bV sb a k->bV sb v k\/w.heap.size<=k
 ar:∀k,dQ sb a k->dQ sb v k\/N<=k
theorem oL{v:aQ}(G:je w n v)(h:bV n v k):k<w.heap.size:=by
 obtain rfl|⟨i,hi,h⟩:=h
 exact G.fu;exact G.lt i hi k h
theorem mT{v:aQ}(G:je w j v)(h:dQ j v k):k<w.heap.size:=by
 obtain h|⟨i,y,n,c,hi,e,rfl⟩|⟨x,d,y,n,c,e,rfl⟩:=h
 exact oL G h;exact(G.da i hi y n c e).2;obtain⟨a,g,l,b,-,f⟩:=G.fm x d;rw[e]at b;exact(f y (fS b).1.symm).2
theorem cP.mono{v a:aQ}(h:cP n w W j v a)(b:i<=n):cP i w W j v a:=⟨h.aq,h.ft,λk c=>(h.ar k c).imp id (λe=>bC b e)⟩
theorem cP.rfl'(N:Nat)(w:World)(sb:Nat)(v:aQ):cP N w w sb v v:=⟨ak.rfl' _ _,λ_ h=>.inl h,λ_ h=>.inl h⟩
theorem cP.trans{u v x:aQ}(h:cP n w W j u v)(k:cP n W V j v x):cP n w V j u x:=by
 refine⟨⟨k.aq.os.trans h.aq.os,k.aq.tape.trans h.aq.tape,k.aq.output.trans h.aq.output,bC h.aq.size k.aq.size,λi hi b=>?_⟩,λi hi=>?_,λi hi=>?_⟩
 rw[k.aq.block i (bK hi h.aq.size) (λc=>(h.ft i c).elim b (by omega))];exact h.aq.block i hi b;obtain a|a:=k.ft i hi
 exact h.ft i a;exact .inr (bC h.aq.size a);obtain a|a:=k.ar i hi
 exact h.ar i a;exact .inr a
theorem je.ah{v:aQ}(G:je w j v)(g:w.grownBy W none):je W j v:=
 ⟨bK G.fu g.size,λi hi k e=>bK (G.lt i hi k e) g.size,G.gH,G.sep,λi hi y n c e=>⟨(G.da i hi y n c e).1,bK (G.da i hi y n c e).2 g.size⟩,G.fm.aq (ak.of g) (λk _ e=>by cases e)⟩
theorem cP.ah{v:aQ}(g:w.grownBy W none):cP n w W i v v:=⟨(ak.of g).mono (λk _ e=>by cases e),λ_ h=>.inl h,λ_ h=>.inl h⟩
theorem je.other{v:aQ}(G:je w j v)(C:ak w W S)(g:∀k,k<w.heap.size->S k->¬dQ j v k):je W j v:=by
 refine⟨bK G.fu C.size,λi hi k e=>bK (G.lt i hi k e) C.size,G.gH,G.sep,λi hi y n c e=>⟨(G.da i hi y n c e).1,bK (G.da i hi y n c e).2 C.size⟩,λx f=>?_⟩
 obtain⟨a,n,c,e,hp,d⟩:=G.fm x f;refine⟨a,n,c,e,hp.cW (λ_ y b=>C.block _ (d y b).2 (λh=>g _ (d y b).2 h (.inr (.inr ⟨x,f,y,n,c,by rw[e,b],rfl⟩)))),λy b=>⟨(d y b).1,bK (d y b).2 C.size⟩⟩
theorem je.ou{v:aQ}(G:je w l v)(i:Nat)(hi:i<8)(m r:Value)(C:ak w W (λk=>k=l\/(v.own i).ownBlock=some k))(z:m.ownBlock=(v.own i).ownBlock\/∀k,m.ownBlock=some k->w.heap.size<=k)(K:∀k,m.ownBlock=some k->k<W.heap.size)(F:wL w W m (v.set i) r):
 je W l {v with own:=aw v.own i m,set:=aw v.set i r}/\cP w.heap.size w W l v {v with own:=aw v.own i m,set:=aw v.set i r}:=by
 have A:∀k,bV l {v with own:=aw v.own i m,set:=aw v.set i r} k->bV l v k\/w.heap.size<=k:=λk h=>by
  obtain rfl|⟨j,d,h⟩:=h
  exact .inl (.inl rfl);simp only at h;by_cases e:j=i;subst e;rw[bm]at h;obtain b|b:=z
  exact .inl (.inr ⟨j,d,by rw[<-b];exact h⟩);exact .inr (b k h);rw[bq _ _ e]at h;exact .inl (.inr ⟨j,d,h⟩)
 have E:∀j,j<9->∀y n c,(aw v.set i r) j=.slice (some y) n c->(¬bV l {v with own:=aw v.own i m,set:=aw v.set i r} y.block/\y.block<W.heap.size)/\(v.set j=.slice (some y) n c\/w.heap.size<=y.block):=λj d y n c e=>by
  have H:v.set j=.slice (some y) n c->(¬bV l {v with own:=aw v.own i m,set:=aw v.set i r} y.block/\y.block<W.heap.size)/\(v.set j=.slice (some y) n c\/w.heap.size<=y.block):=λe=>by
   obtain⟨g,f⟩:=G.da j d y n c e;exact⟨⟨λh=>(A _ h).elim g (by omega),bK f C.size⟩,.inl e⟩
  by_cases I:j=i;subst I;rw[bm]at e;obtain rfl|F:=F
  exact H e;obtain⟨g,f,L⟩:=F y n c e;refine⟨⟨λh=>?_,f⟩,.inr g⟩
  obtain h|⟨q,s,h⟩:=h
  have:=G.fu;omega;simp only at h;by_cases eq:q=j;subst eq;rw[bm]at h;exact L h;rw[bq _ _ eq]at h;have:=G.lt q s _ h;omega;rw[bq _ _ I]at e;exact H e
 refine⟨⟨bK G.fu C.size,λj d k h=>?_,λj d h=>?_,λp q hp s B k g f=>?_,λj d y n c e=>(E j d y n c e).1,λx D=>?_⟩,⟨C.mono (λk _ h=>h.elim .inl (λh=>.inr ⟨i,by omega,h⟩)),A,λk h=>?_⟩⟩
 simp only at h;by_cases e:j=i;subst e;rw[bm]at h;exact K k h;rw[bq _ _ e]at h;exact bK (G.lt j d k h) C.size;simp only at h;by_cases e:j=i;subst e;rw[bm]at h;obtain b|b:=z
 rw[b]at h;exact G.gH j d h;have:=b _ h;have:=G.fu;omega;rw[bq _ _ e]at h;exact G.gH j d h;simp only at g f;by_cases e1:p=i;have e2:q≠i:=by omega
 subst e1;rw[bm]at g;rw[bq _ _ e2]at f;obtain b|b:=z
 rw[b]at g;exact G.sep p q hp s B k g f;have:=b _ g;have:=G.lt q s k f;omega;rw[bq _ _ e1]at g;by_cases e2:q=i;subst e2;rw[bm]at f;obtain b|b:=z
 rw[b]at f;exact G.sep p q hp s B k g f;have:=b _ f;have:=G.lt p hp k g;omega;rw[bq _ _ e2]at f;exact G.sep p q hp s B k g f;obtain⟨a,n,c,e,hp,u⟩:=G.fm x D;exact⟨a,n,c,e,hp.cW (λ_ y t=>C.block _ (u y t).2 (λM=>(u y t).1 (M.elim .inl (λh=>.inr ⟨i,by omega,h⟩)))),λy t=>⟨λh=>(A _ h).elim (u y t).1 (by have:=(u y t).2;omega),bK (u y t).2 C.size⟩⟩
 obtain h|⟨j,y,n,c,d,e,rfl⟩|⟨x,D,y,n,c,e,rfl⟩:=h
 exact(A k h).imp .inl id;simp only at e;obtain e2|e2:=(E j d y n c e).2
 exact .inl (.inr (.inl ⟨j,y,n,c,d,e2,rfl⟩));exact .inr e2;exact .inl (.inr (.inr ⟨x,D,y,n,c,e,rfl⟩))
theorem je.Gf{v:aQ}(U:i<=w.heap.size)(G:je w l v)(m r:Value)(E F:List Kt)(C:ak w W (FT l (v.own 8) (v.own 9)))(I:m.ownBlock=(v.own 8).ownBlock\/∀k,m.ownBlock=some k->w.heap.size<=k)(K:r.ownBlock=(v.own 9).ownBlock\/∀k,r.ownBlock=some k->w.heap.size<=k)(M:∀k,m.ownBlock=some k->r.ownBlock≠some k)(V:∀k,m.ownBlock=some k->k<W.heap.size)(X:∀k,r.ownBlock=some k->k<W.heap.size)
 (N:∀x∈E++F,x∈v.lf++v.ll\/∃a n c,x.2=.slice a n c/\jV W a n c x.1.ps/\∀y,a=some y->(i<=y.block/\y.block<W.heap.size/\¬bV l v y.block/\m.ownBlock≠some y.block/\r.ownBlock≠some y.block)):
 je W l ⟨aw (aw v.own 8 m) 9 r,v.set,E,F⟩/\cP i w W l v ⟨aw (aw v.own 8 m) 9 r,v.set,E,F⟩:=by
 have z:aw (aw v.own 8 m) 9 r 8=m:=by rw[bq _ _ (by omega),bm]
 have A:aw (aw v.own 8 m) 9 r 9=r:=bm _ _ _;have s:∀j,j<8->aw (aw v.own 8 m) 9 r j=v.own j:=λj d=>by rw[bq _ _ (by omega),bq _ _ (by omega)]
 have D:∀j,j<10->j<8\/j=8\/j=9:=λj d=>by omega
 have H:∀k,bV l ⟨aw (aw v.own 8 m) 9 r,v.set,E,F⟩ k->bV l v k\/w.heap.size<=k:=λk h=>by
  obtain rfl|⟨j,d,h⟩:=h
  exact .inl (.inl rfl);simp only at h;obtain e|rfl|rfl:=D j d
  rw[s j e]at h;exact .inl (.inr ⟨j,d,h⟩);rw[z]at h;obtain f|f:=I
  exact .inl (.inr ⟨8,d,by rw[<-f];exact h⟩);exact .inr (f k h);rw[A]at h;obtain f|f:=K
  exact .inl (.inr ⟨9,d,by rw[<-f];exact h⟩);exact .inr (f k h)
 have O:∀k,FT l (v.own 8) (v.own 9) k->bV l v k:=λk h=>by
  obtain rfl|h|h:=h
  exact .inl rfl;exact .inr ⟨8,by omega,h⟩;exact .inr ⟨9,by omega,h⟩
 have P:∀j,j<8->∀k,(v.own j).ownBlock=some k->m.ownBlock≠some k:=λj d k g b=>by
  obtain f|f:=I
  rw[f]at b;exact G.sep j 8 (by omega) (by omega) (by omega) k g b;have:=f _ b;have:=G.lt j (by omega) k g;omega
 have Q:∀j,j<8->∀k,(v.own j).ownBlock=some k->r.ownBlock≠some k:=λj d k g b=>by
  obtain f|f:=K
  rw[f]at b;exact G.sep j 9 (by omega) (by omega) (by omega) k g b;have:=f _ b;have:=G.lt j (by omega) k g;omega
 refine⟨⟨bK G.fu C.size,λj d k h=>?_,λj d h=>?_,λp q hp R L k g b=>?_,λj d y n c e=>?_,λx B=>?_⟩,⟨C.mono (λk _ h=>O k h),H,λk h=>?_⟩⟩
 simp only at h;obtain e|rfl|rfl:=D j d
 rw[s j e]at h;exact bK (G.lt j d k h) C.size;rw[z]at h;exact V k h;rw[A]at h;exact X k h;simp only at h;obtain e|rfl|rfl:=D j d
 rw[s j e]at h;exact G.gH j d h;rw[z]at h;obtain f|f:=I
 rw[f]at h;exact G.gH 8 d h;have:=f _ h;have:=G.fu;omega;rw[A]at h;obtain f|f:=K
 rw[f]at h;exact G.gH 9 d h;have:=f _ h;have:=G.fu;omega;simp only at g b;obtain e1|rfl|rfl:=D p hp<;>rcases D q R with e2|rfl|rfl
 rw[s p e1]at g;rw[s q e2]at b;exact G.sep p q hp R L k g b;rw[s p e1]at g;rw[z]at b;exact P p e1 k g b;rw[s p e1]at g;rw[A]at b;exact Q p e1 k g b;rw[z]at g;rw[s q e2]at b;exact P q e2 k b g;exact L rfl;rw[z]at g;rw[A]at b;exact M k g b;rw[A]at g;rw[s q e2]at b;exact Q q e2 k b g;rw[A]at g;rw[z]at b;exact M k b g;exact L rfl;obtain⟨g,b⟩:=G.da j d y n c e;exact⟨λh=>(H _ h).elim g (by omega),bK b C.size⟩
 obtain B|⟨a,n,c,e,hp,t⟩:=N x B
 obtain⟨a,n,c,e,hp,t⟩:=G.fm x B;exact⟨a,n,c,e,hp.cW (λ_ y u=>C.block _ (t y u).2 (λY=>(t y u).1 (O _ Y))),λy u=>⟨λh=>(H _ h).elim (t y u).1 (by have:=(t y u).2;omega),bK (t y u).2 C.size⟩⟩
 refine⟨a,n,c,e,hp,λy u=>⟨λh=>?_,(t y u).2.1⟩⟩
 obtain⟨y1,y2,S,y3,y4⟩:=t y u;obtain h|⟨j,d,h⟩:=h
 exact S (.inl h);simp only at h;obtain e|rfl|rfl:=D j d
 rw[s j e]at h;exact S (.inr ⟨j,d,h⟩);rw[z]at h;exact y3 h;rw[A]at h;exact y4 h;obtain h|⟨j,y,n,c,d,e,rfl⟩|⟨x,B,y,n,c,e,rfl⟩:=h
 exact(H k h).imp .inl (λe=>bC U e);exact .inl (.inr (.inl ⟨j,y,n,c,d,e,rfl⟩));obtain B|⟨a,n',c',T,hp,t⟩:=N x B
 exact .inl (.inr (.inr ⟨x,B,y,n,c,e,rfl⟩));rw[e]at T;exact .inr (t y (fS T).1.symm).1
theorem je.Gg{v:aQ}(G:je w l v)(i:Nat)(hi:i<9)(d:Value)(C:ak w W (λk=>k=l))(F:d=v.set i\/∀y n c,d=.slice (some y) n c->w.heap.size<=y.block/\y.block<W.heap.size):
 je W l {v with set:=aw v.set i d}/\cP w.heap.size w W l v {v with set:=aw v.set i d}:=by
 have r:∀j,j<9->∀y n c,(aw v.set i d) j=.slice (some y) n c->(¬bV l {v with set:=aw v.set i d} y.block/\y.block<W.heap.size)/\(v.set j=.slice (some y) n c\/w.heap.size<=y.block):=λj b y n c e=>by
  have s:v.set j=.slice (some y) n c->(¬bV l {v with set:=aw v.set i d} y.block/\y.block<W.heap.size)/\(v.set j=.slice (some y) n c\/w.heap.size<=y.block):=λe=>by
   obtain⟨m,p⟩:=G.da j b y n c e;exact⟨⟨m,bK p C.size⟩,.inl e⟩
  by_cases t:j=i;subst t;rw[bm]at e;obtain rfl|F:=F
  exact s e;obtain⟨m,p⟩:=F y n c e;exact⟨⟨λh=>by have:=oL G h;omega,p⟩,.inr m⟩
  rw[bq _ _ t]at e;exact s e
 refine⟨⟨bK G.fu C.size,λj b k h=>bK (G.lt j b k h) C.size,G.gH,G.sep,λj b y n c e=>(r j b y n c e).1,λx q=>?_⟩,⟨C.mono (λk _ h=>.inl h),λk h=>.inl h,λk h=>?_⟩⟩
 obtain⟨a,n,c,e,hp,g⟩:=G.fm x q;exact⟨a,n,c,e,hp.cW (λ_ y f=>C.block _ (g y f).2 (λu=>(g y f).1 (.inl u))),λy f=>⟨(g y f).1,bK (g y f).2 C.size⟩⟩
 obtain h|⟨j,y,n,c,b,e,rfl⟩|⟨x,q,y,n,c,e,rfl⟩:=h
 exact .inl (.inl h);simp only at e;obtain e2|e2:=(r j b y n c e).2
 exact .inl (.inr (.inl ⟨j,y,n,c,b,e2,rfl⟩));exact .inr e2;exact .inl (.inr (.inr ⟨x,q,y,n,c,e,rfl⟩))
variable{D:aQ}
structure Sd where
 ao:Int
 ai:Int
 key:List Int
 first:Bool
 out:Nat->Ot
 aT:Nat->It
 az:List Pk
 lost:List Pk
 count:Int
 tick:Int
 wait:Int
 ag:List Rg
 floor:Int
 dU:Bool
structure bg(w:World)(b sb:Nat)(cs:Array Value)(v:aQ)(s:Sd):Prop where
 aG:w.heap[sb]?=some (.cells cs 241 (0,0))
 sz:cs.size=101
 c0:cs[0]?=some (.int .i64 s.ao)
 c1:cs[1]?=some (.int .i64 s.ai)
 key:∀i,i<16->cs[2+i]?=(bv s.key)[i]?
 gQ:cs[18]?=some (.bool s.first)
 out:∀k,k<4->fM w b cs (19+9*k) (v.own k) (v.set k) (s.out k)
 aT:∀k,k<4->gP w b cs (55+9*k) (v.own (4+k)) (v.set (4+k)) (s.aT k)
 fl:ik w b cs 91 (v.own 8) (v.own 9) v.lf v.ll s.count s.tick s.wait
 az:s.az=v.lf.map (·.1)
 lost:s.lost=v.ll.map (·.1)
 mU:cs[96]?=some (v.set 8)
 mV:∃a n c,v.set 8=.slice a n c/\ba w a n c s.ag
 nG:cs[97]?=some (.int .u64 s.floor)
 kr:cs[98]?=some (.bool s.dU)
 dq:cs[99]?=some (.int .i64 0)
 oM:cs[100]?=some (.slice none 0 0)
 bd:je w sb v
 bl:b<=w.heap.size
def dD(N:Nat)(w:World)(c sb:Nat)(v:aQ)(d:Sd)(a:World):Prop:=∃e b,bg a c sb e b d/\cP N w a sb v b
theorem bg.ah{s:Sd}(H:bg w i j C D s)(g:w.grownBy W none):bg W i j C D s:=
 ⟨bf H.aG g,H.sz,H.c0,H.c1,H.key,H.gQ,λk b=>(H.out k b).ah g,λk b=>(H.aT k b).ah g,H.fl.ah g,H.az,H.lost,H.mU,by obtain⟨a,n,c,e,h⟩:=H.mV;exact⟨a,n,c,e,h.ah g⟩,H.nG,H.kr,H.dq,H.oM,H.bd.ah g,bC H.bl g.size⟩
theorem bg.to{s:Sd}(H:bg w n k c D s)(g:w.grownBy W none){N:Nat}:dD N w n k D s W:=⟨c,D,H.ah g,cP.ah g⟩
theorem dD.mono{s:Sd}(H:dD n w j l D s W)(h:i<=n):dD i w j l D s W:=by
 obtain⟨cs,a,b,k⟩:=H;exact⟨cs,a,b,k.mono h⟩
theorem dD.pre{N:Nat}{a:aQ}{s:Sd}(b:cP N w V i D a)(H:dD N V n i a s W):dD N w n i D s W:=by
 obtain⟨cs,c,h,k⟩:=H;exact⟨cs,c,h,b.trans k⟩
theorem bg.uD{s:Sd}(H:bg w i j C D s)(k:Nat)(a:k<4):jT w j (D.own k) (D.set k):=
 ⟨H.bd.gH k (by omega),λy n c e=>⟨λh=>(H.bd.da k (by omega) y n c e).1 (.inl h),λh=>(H.bd.da k (by omega) y n c e).1 (.inr ⟨k,by omega,h⟩),(H.bd.da k (by omega) y n c e).2⟩⟩
theorem bg.wU{s:Sd}(H:bg w i j C D s)(k:Nat)(a:k<4):jT w j (D.own (4+k)) (D.set (4+k)):=
 ⟨H.bd.gH _ (by omega),λy n c e=>⟨λh=>(H.bd.da _ (by omega) y n c e).1 (.inl h),λh=>(H.bd.da _ (by omega) y n c e).1 (.inr ⟨4+k,by omega,h⟩),(H.bd.da _ (by omega) y n c e).2⟩⟩
theorem bg.rj{s:Sd}(H:bg w n k c D s):oI k (D.own 8) (D.own 9):=
 ⟨H.bd.gH 8 (by omega),H.bd.gH 9 (by omega),H.bd.sep 8 9 (by omega) (by omega) (by omega)⟩
theorem bg.sF{s:Sd}(H:bg w l m c D s)(b:ak w W S)(d:∀k,S k->bV m D k)(j:Nat)(f:j<4)(g:∀i,19+9*j<=i->i<19+9*j+9->C[i]?=c[i]?)(p:∀k,(D.own j).ownBlock=some k->¬S k):fM W l C (19+9*j) (D.own j) (D.set j) (s.out j):=
 (H.out j f).frame b g p (λy n a e=>⟨λh=>(H.bd.da j (by omega) y n a e).1 (d _ h),(H.bd.da j (by omega) y n a e).2⟩)
theorem bg.sH{s:Sd}(H:bg w l m c D s)(b:ak w W S)(d:∀k,S k->bV m D k)(j:Nat)(f:j<4)(g:∀i,55+9*j<=i->i<55+9*j+9->C[i]?=c[i]?)(p:∀k,(D.own (4+j)).ownBlock=some k->¬S k):gP W l C (55+9*j) (D.own (4+j)) (D.set (4+j)) (s.aT j):=
 (H.aT j f).frame b g p (λy n a e=>⟨λh=>(H.bd.da (4+j) (by omega) y n a e).1 (d _ h),(H.bd.da (4+j) (by omega) y n a e).2⟩)
theorem bg.pN{s:Sd}(H:bg w n l c D s)(i j:Nat)(hi:i<10)(b:j<10)(d:j≠i):∀k,(D.own j).ownBlock=some k->¬(k=l\/(D.own i).ownBlock=some k):=λk h a=>by
 obtain rfl|a:=a
 exact H.bd.gH j b h;exact H.bd.sep j i b hi d k h a
theorem bg.uF{s:Sd}(H:bg w l m C D s)(k:Nat)(v:k<4)(o:Ot)(h:mS w W m 241 C (19+9*k) l (D.own k) (D.set k) o):dD w.heap.size w l m D {s with out:=aw s.out k o} W:=by
 obtain⟨r,d,f,T,g,F⟩:=h;obtain⟨t,u⟩:=H.bd.ou k (by omega) d f T.aq T.new (λj e=>(g.own.lt j e).2) F;have a:∀j,(j=m\/(D.own k).ownBlock=some j)->bV m D j:=λj h=>h.elim .inl (λh=>.inr ⟨k,by omega,h⟩)
 refine⟨r,{D with own:=aw D.own k d,set:=aw D.set k f},⟨T.aG,T.sz.trans H.sz,(T.out 0 (by omega)).trans H.c0,(T.out 1 (by omega)).trans H.c1,λi hi=>(T.out _ (by omega)).trans (H.key i hi),(T.out 18 (by omega)).trans H.gQ,λj b=>?_,λj b=>?_,?_,H.az,H.lost,?_,?_,(T.out 97 (by omega)).trans H.nG,(T.out 98 (by omega)).trans H.kr,(T.out 99 (by omega)).trans H.dq,(T.out 100 (by omega)).trans H.oM,t,bC H.bl T.aq.size⟩,u⟩
 by_cases e:j=k;subst e;simp only[bm];exact g;simp only[bq _ _ e]
 exact H.sF T.aq a j b (λi p q=>T.out i (by omega)) (H.pN k j (by omega) (by omega) e);simp only[bq _ _ (show 4+j≠k by omega)]
 exact H.sH T.aq a j b (λi p q=>T.out i (by omega)) (H.pN k (4+j) (by omega) (by omega) (by omega));simp only[bq _ _ (show 8≠k by omega),bq _ _ (show 9≠k by omega)]
 exact H.fl.frame T.aq (λi p q=>T.out i (by omega)) (H.pN k 8 (by omega) (by omega) (by omega)) (H.pN k 9 (by omega) (by omega) (by omega));simp only[bq _ _ (show 8≠k by omega)];exact(T.out 96 (by omega)).trans H.mU;simp only[bq _ _ (show 8≠k by omega)]
 exact oK H.mV T.aq (λy n c e=>⟨λh=>(H.bd.da 8 (by omega) y n c e).1 (a _ h),(H.bd.da 8 (by omega) y n c e).2⟩)
theorem bg.wV{s:Sd}(H:bg w l m C D s)(k:Nat)(v:k<4)(o:It)(h:mo w W m 241 C (55+9*k) l (D.own (4+k)) (D.set (4+k)) o):dD w.heap.size w l m D {s with aT:=aw s.aT k o} W:=by
 obtain⟨r,d,f,T,g,F⟩:=h;obtain⟨t,u⟩:=H.bd.ou (4+k) (by omega) d f T.aq T.new (λj e=>(g.own.lt j e).2) F;have a:∀j,(j=m\/(D.own (4+k)).ownBlock=some j)->bV m D j:=λj h=>h.elim .inl (λh=>.inr ⟨4+k,by omega,h⟩)
 refine⟨r,{D with own:=aw D.own (4+k) d,set:=aw D.set (4+k) f},⟨T.aG,T.sz.trans H.sz,(T.out 0 (by omega)).trans H.c0,(T.out 1 (by omega)).trans H.c1,λi hi=>(T.out _ (by omega)).trans (H.key i hi),(T.out 18 (by omega)).trans H.gQ,λj b=>?_,λj b=>?_,?_,H.az,H.lost,?_,?_,(T.out 97 (by omega)).trans H.nG,(T.out 98 (by omega)).trans H.kr,(T.out 99 (by omega)).trans H.dq,(T.out 100 (by omega)).trans H.oM,t,bC H.bl T.aq.size⟩,u⟩
 simp only[bq _ _ (show j≠4+k by omega)]
 exact H.sF T.aq a j b (λi p q=>T.out i (by omega)) (H.pN (4+k) j (by omega) (by omega) (by omega));by_cases e:j=k;subst e;simp only[bm];exact g;simp only[bq _ _ (show 4+j≠4+k by omega),bq _ _ e]
 exact H.sH T.aq a j b (λi p q=>T.out i (by omega)) (H.pN (4+k) (4+j) (by omega) (by omega) (by omega));simp only[bq _ _ (show 8≠4+k by omega),bq _ _ (show 9≠4+k by omega)]
 exact H.fl.frame T.aq (λi p q=>T.out i (by omega)) (H.pN (4+k) 8 (by omega) (by omega) (by omega)) (H.pN (4+k) 9 (by omega) (by omega) (by omega));simp only[bq _ _ (show 8≠4+k by omega)];exact(T.out 96 (by omega)).trans H.mU;simp only[bq _ _ (show 8≠4+k by omega)]
 exact oK H.mV T.aq (λy n c e=>⟨λh=>(H.bd.da 8 (by omega) y n c e).1 (a _ h),(H.bd.da 8 (by omega) y n c e).2⟩)
theorem bg.wW{s:Sd}(H:bg w m o C D s)(v:l<=w.heap.size)(b d:Value)(f g:List Kt)(count tick wait:Int)(T:qs w W o 241 C c 91 (D.own 8) (D.own 9) b d)(q:ik W m c 91 b d f g count tick wait)(z:∀k,b.ownBlock=some k->d.ownBlock≠some k)
 (A:∀x∈f++g,x∈D.lf++D.ll\/∃a n p,x.2=.slice a n p/\jV W a n p x.1.ps/\∀y,a=some y->(l<=y.block/\y.block<W.heap.size/\¬bV o D y.block/\b.ownBlock≠some y.block/\d.ownBlock≠some y.block)):
 bg W m o c ⟨aw (aw D.own 8 b) 9 d,D.set,f,g⟩ {s with az:=f.map (·.1),lost:=g.map (·.1),count:=count,tick:=tick,wait:=wait}/\cP l w W o D ⟨aw (aw D.own 8 b) 9 d,D.set,f,g⟩:=by
 obtain⟨B,E⟩:=H.bd.Gf v b d f g T.aq T.FO T.zS z (λk e=>(q.of.lt k e).2) (λk e=>(q.ol.lt k e).2) A;have r:∀j,FT o (D.own 8) (D.own 9) j->bV o D j:=λj h=>by
  obtain h|h|h:=h
  exact .inl h;exact .inr ⟨8,by omega,h⟩;exact .inr ⟨9,by omega,h⟩
 have u:∀i,i<8->∀k,(D.own i).ownBlock=some k->¬FT o (D.own 8) (D.own 9) k:=λi hi k e h=>by
  obtain rfl|h|h:=h
  exact H.bd.gH i (by omega) e;exact H.bd.sep i 8 (by omega) (by omega) (by omega) k e h;exact H.bd.sep i 9 (by omega) (by omega) (by omega) k e h
 refine⟨⟨T.aG,T.sz.trans H.sz,(T.out 0 (by omega)).trans H.c0,(T.out 1 (by omega)).trans H.c1,λi hi=>(T.out _ (by omega)).trans (H.key i hi),(T.out 18 (by omega)).trans H.gQ,λj t=>?_,λj t=>?_,?_,rfl,rfl,(T.out 96 (by omega)).trans H.mU,?_,(T.out 97 (by omega)).trans H.nG,(T.out 98 (by omega)).trans H.kr,(T.out 99 (by omega)).trans H.dq,(T.out 100 (by omega)).trans H.oM,B,bC H.bl T.aq.size⟩,E⟩
 simp only[bq _ _ (show j≠8 by omega),bq _ _ (show j≠9 by omega)]
 exact H.sF T.aq r j t (λi F G=>T.out i (by omega)) (u j (by omega));simp only[bq _ _ (show 4+j≠8 by omega),bq _ _ (show 4+j≠9 by omega)]
 exact H.sH T.aq r j t (λi F G=>T.out i (by omega)) (u (4+j) (by omega));simp only[bq _ _ (show 8≠9 by omega),bm];exact q;exact oK H.mV T.aq (λy n p e=>⟨λh=>(H.bd.da 8 (by omega) y n p e).1 (r _ h),(H.bd.da 8 (by omega) y n p e).2⟩)
theorem bg.wX{s:Sd}(H:bg w j l C D s)(g:i<=w.heap.size)(b d:Value)(e f:List Kt)(count tick wait:Int)(T:qs w W l 241 C c 91 (D.own 8) (D.own 9) b d)(h:ik W j c 91 b d e f count tick wait)(m:∀k,b.ownBlock=some k->d.ownBlock≠some k)
 (p:∀x∈e++f,x∈D.lf++D.ll\/∃a n q,x.2=.slice a n q/\jV W a n q x.1.ps/\∀y,a=some y->(i<=y.block/\y.block<W.heap.size/\¬bV l D y.block/\b.ownBlock≠some y.block/\d.ownBlock≠some y.block)):
 dD i w j l D {s with az:=e.map (·.1),lost:=f.map (·.1),count:=count,tick:=tick,wait:=wait} W:=⟨c,_,(H.wW g b d e f count tick wait T h m p).1,(H.wW g b d e f count tick wait T h m p).2⟩
theorem bg.zV{s:Sd}(H:bg w l m c D s)(vc:Value)(ag:List Rg)(floor:Int)(dU:Bool)(r:W.heap[m]?=some (.cells C 241 (0,0)))(t:C.size=c.size)(ho:∀i,i<96\/99<=i->C[i]?=c[i]?)(u:C[96]?=some vc)(v:C[97]?=some (.int .u64 floor))(x:C[98]?=some (.bool dU))(b:ak w W (λk=>k=m))(hs:∃a n d,vc=.slice a n d/\ba W a n d ag)(F:vc=D.set 8\/∀y n d,vc=.slice (some y) n d->w.heap.size<=y.block/\y.block<W.heap.size):
 dD w.heap.size w l m D {s with ag:=ag,floor:=floor,dU:=dU} W:=by
 obtain⟨z,A⟩:=H.bd.Gg 8 (by omega) vc b F;have g:∀j,j=m->bV m D j:=λj h=>.inl h
 refine⟨C,{D with set:=aw D.set 8 vc},⟨r,t.trans H.sz,(ho 0 (by omega)).trans H.c0,(ho 1 (by omega)).trans H.c1,λi hi=>(ho _ (by omega)).trans (H.key i hi),(ho 18 (by omega)).trans H.gQ,λj f=>?_,λj f=>?_,?_,H.az,H.lost,?_,?_,v,x,(ho 99 (by omega)).trans H.dq,(ho 100 (by omega)).trans H.oM,z,bC H.bl b.size⟩,A⟩
 simp only[bq _ _ (show j≠8 by omega)]
 exact H.sF b g j f (λi p q=>ho i (by omega)) (λk e h=>H.bd.gH j (by omega) (h▸e));simp only[bq _ _ (show 4+j≠8 by omega)]
 exact H.sH b g j f (λi p q=>ho i (by omega)) (λk e h=>H.bd.gH (4+j) (by omega) (h▸e));exact H.fl.frame b (λi p q=>ho i (by omega)) (λk e h=>H.bd.gH 8 (by omega) (h▸e)) (λk e h=>H.bd.gH 9 (by omega) (h▸e));simp only[bm];exact u;simp only[bm];exact hs
theorem bg.other{s:Sd}(H:bg w j l c D s)(C:ak w W S)(b:∀k,k<w.heap.size->S k->¬dQ l D k):bg W j l c D s:=by
 have d:∀i,i<10->∀k,(D.own i).ownBlock=some k->¬S k:=λi hi k e h=>b k (H.bd.lt i hi k e) h (.inl (.inr ⟨i,hi,e⟩))
 have hs:∀i,i<9->∀y n a,D.set i=.slice (some y) n a->¬S y.block/\y.block<w.heap.size:=λi hi y n a e=>⟨λh=>b _ (H.bd.da i hi y n a e).2 h (.inr (.inl ⟨i,y,n,a,hi,e,rfl⟩)),(H.bd.da i hi y n a e).2⟩
 exact⟨(C.block l H.bd.fu (λh=>b l H.bd.fu h (.inl (.inl rfl)))).trans H.aG,H.sz,H.c0,H.c1,H.key,H.gQ,λk f=>(H.out k f).frame C (λ_ _ _=>rfl) (d k (by omega)) (hs k (by omega)),λk f=>(H.aT k f).frame C (λ_ _ _=>rfl) (d _ (by omega)) (hs _ (by omega)),H.fl.frame C (λ_ _ _=>rfl) (d 8 (by omega)) (d 9 (by omega)),H.az,H.lost,H.mU,oK H.mV C (hs 8 (by omega)),H.nG,H.kr,H.dq,H.oM,H.bd.other C b,bC H.bl C.size⟩
