import Derived.Test.YtjnmokmchdfchaaGreatDoorZWn
import Derived.Test.YtjnmokmchdfchaaGreatDoorZWo
set_option maxRecDepth 1000000
set_option maxHeartbeats 0
set_option linter.all false
namespace Go.Proofs.YtjnmokmchdfchaaGreatDoor
open Go.RowKit Tryz
attribute[local go_sem↓]Go.wp_at_zero Go.wp_at_succ
variable{C c:Array Value}{B:Bool}{H:Fr}{p q t:Int}{E:It}{K L:List Int}{Y:List Rg}{b i j k l m n o:Nat}{P S:Nat->Prop}{O a:Option Addr}{d:Ot}{U:Rg}{X:Sd}{T:TypeId}{x y:Value}{V W v w:World}{D:aQ}
def Sd.dr(s:Sd)(n:Int)(a:List Fr):Sd:={s with ag:=(fX s.ag s.floor n).1,floor:=(fX s.ag s.floor n).2,dU:=s.dU||a.any mD}
def rT(w:World)(c sb:Nat)(v:aQ)(s:Sd)(p:List Int)(e:Ending)(b:World):Prop:=
 (¬gV s.key (sd (!s.first)) p/\e=.returned (bE 4)/\dD w.heap.size w c sb v s b)\/
 (gV s.key (sd (!s.first)) p/\iC s.ag s.floor (bN p)=true/\e=.returned .nilIface/\dD w.heap.size w c sb v s b)\/
 (gV s.key (sd (!s.first)) p/\iC s.ag s.floor (bN p)=false/\∃(q:Int)(F:Nat),fU (eu s.key (sd (!s.first)) (bN p) (bQ p))=(none,q)/\e=.returned (.iface 177 (.pointer (some ⟨F,0,none⟩)))/\w.heap.size<=F/\b.heap[F]?=some (.cells #[.int .i64 5,.int .i64 q] 182 (0,0))/\iS w sb v 5 (s.iu 5 5) b)\/
 (gV s.key (sd (!s.first)) p/\iC s.ag s.floor (bN p)=false/\∃a,fU (eu s.key (sd (!s.first)) (bN p) (bQ p))=(some a,-1)/\
   ((a.any s.kC=true/\e=.returned (bE 6)/\dD w.heap.size w c sb v s b)\/
    (a.any s.kC=false/\(gJ (s.dr (bN p) a) a).1=0/\e=.returned .nilIface/\dD w.heap.size w c sb v (gJ (s.dr (bN p) a) a).2 b)\/
    (a.any s.kC=false/\(gJ (s.dr (bN p) a) a).1≠0/\e=.returned (bE (gJ (s.dr (bN p) a) a).1)/\iS w sb v (gJ (s.dr (bN p) a) a).1 ((gJ (s.dr (bN p) a) a).2.iu (gJ (s.dr (bN p) a) a).1 (gJ (s.dr (bN p) a) a).1) b)))
theorem iS.dA{b:aQ}{l:List (List Int)}(a:cP n w W i D b)(h:iS W i b p l V):iS w i D p l V:=by
 obtain⟨last,f,g,j,C⟩:=h;refine⟨last,f,g.low a.aq.size,j,⟨C.os.trans a.aq.os,C.tape.trans a.aq.tape,C.output.trans a.aq.output,bC a.aq.size C.size,λk c d=>?_⟩⟩
 rw[C.block k (bK c a.aq.size) (λe=>(a.ft k e).elim d (by omega))];exact a.aq.block k c d
theorem Laid.aq(h:Laid w)(C:ak w W S)(h0:¬S 0):Laid W:=(lg (C.block 0 h.lt h0)).trans h
theorem KJ(s:Sd)(f:Fr):(s.take f).1=0\/(s.take f).1=7\/(s.take f).1=8\/(s.take f).1=10:=by
 unfold Sd.take;split;split<;>simp;split;split<;>simp;split;split<;>simp;split<;>simp
theorem vw(s:Sd)(f:Fr)(r:List Fr):gJ s (f::r)=if(s.take f).1=0 then gJ (s.take f).2 r else s.take f:=rfl
structure jk(w:World)(g sb:Nat)(v:aQ)(s1:Sd)(af:List cu)(a:Option Addr)(n c f d h:Nat)(j:Nat)(b:Sd)(W:World)(k:Array Value)(e:aQ):Prop where
 side:bg W g sb k e b
 dA:cP w.heap.size w W sb v e
 fr:jI f d W (.slice a n c) af
 n2:d<=W.heap.size
 na:∀i,f<=i->i<d->¬dQ sb e i
 ri:lZ b
 ll:b.lost.length<=h+10*j
 same:kT s1 b
 all:gJ b ((af.map (·.1)).drop j)=gJ s1 (af.map (·.1))
theorem jk.gb{af:List cu}{c:Sd}{d:aQ}(h:jk w k i D X af a n l m o b j c W C d)(g:W.grownBy V none):jk w k i D X af a n l m o b j c V C d:=
 ⟨h.side.ah g,h.dA.trans (cP.ah g),h.fr.ah g,bC h.n2 g.size,h.na,h.ri,h.ll,h.same,h.all⟩
theorem CF{af:List cu}(a:j<af.length):(af.map (·.1)).drop j=(cL af j).1::(af.map (·.1)).drop (j+1):=by
 rw[yE (by simpa using a)];congr 1;have b:af[j]=cL af j:=by have:=vu a;rw[eF a]at this;exact aJ this
 simp[b]
theorem jk.step{af:List cu}{c:Sd}{W':World}{s:aQ}(h:jk w k l D X af a n m o b i j c W C s)(u:j<af.length)(hs:dm (cL af j).1)(ho:0<=(cL af j).1.offset)(v:m9 X (cL af j).1)(x:i+10*(j+1)<=39000000)(y:dD W.heap.size W k l s (c.take (cL af j).1).2 W')(h0:(c.take (cL af j).1).1=0):∃g p,jk w k l D X af a n m o b i (j+1) (c.take (cL af j).1).2 W' g p:=by
 obtain⟨g,p,S,d⟩:=y;obtain⟨z,A⟩:=h.ri.take hs ho (v.same h.same) (B:=i+10*(j+1)) (by have:=h.ll;omega) x;have E:=h.dA.aq.size;refine⟨g,p,S,h.dA.trans (d.mono E),h.fr.aq d.aq (λf q r e=>h.na f q r (.inl e)),bC h.n2 d.aq.size,λf q r e=>?_,z,A,h.same.trans (take_same _ _),?_⟩
 obtain t|t:=d.ar f e
 exact h.na f q r t;have:=h.n2;omega;rw[<-h.all,CF u];rw[vw,aM h0]
theorem jk.stop{af:List cu}{c:Sd}{d:aQ}(h:jk w k i D X af a n l m o b j c W C d)(e:j<af.length)(h0:(c.take (cL af j).1).1≠0):gJ X (af.map (·.1))=c.take (cL af j).1:=by
 rw[<-h.all,CF e];rw[vw,ay h0]
theorem jk.KK{af:List cu}{c:Sd}{d:aQ}(h:jk w k i D X af a n l m o b j c W C d)(f:j<af.length)(hs:dm (cL af j).1)(g:m9 X (cL af j).1):
 Calls prog 166 #[.pointer (some ⟨i,0,none⟩),.agg (bF (cL af j).1 (cL af j).2)] W (jY W k i d (c.take (cL af j).1)):=by
 obtain⟨p,-,ra,cap,e,q⟩:=h.fr.xP j f;rw[e];refine HC W k i C d c h.side h.ri.pre ⟨by have:=h.ri.fl;omega,by have:=h.ri.ll;omega⟩ _ ra _ cap q (λr y s=>?_) (h.ri.tk hs p.2.2.1.1 (g.same h.same));have:=h.fr.rg _ (rS f) r y _ cap (by rw[e,s]);exact⟨λt=>h.na _ this.1 this.2 (.inl t),bK this.2 h.n2⟩
theorem KL(h:lZ X)(n:Int)(a:List Fr):lZ (X.dr n a):=⟨h.ai,h.aT,⟨h.pre.out,h.pre.pk,h.pre.num⟩,h.fl,h.ll⟩
theorem CG{a:List Fr}(h:a.any X.kC=false)(n:Int):∀f∈a,m9 (X.dr n a) f:=λf b=>by
 have c:=List.any_eq_false.1 h f b;have d:=KA (X:=X) (H:=f) (by simpa using c);exact λe g=>d e g
theorem jk.start{d:World}{af:List cu}{g:Nat}{num:Int}(H:bg w l m C D X)(h:w.grownBy W none)(U:w.heap.size<=j)(G:g<=W.heap.size)(hF:jI j g W (.slice a n b) af)(I:lZ X)
 (K:V.heap[m]?=some (.cells ((C.setIfInBounds 96 (.slice O k i)).setIfInBounds 97 (.int .u64 (fX X.ag X.floor num).2)) 241 (0,0))) (p:cS V W.heap.size (.slice O k i) (fX X.ag X.floor num).1) (z:W.grownBy V (some m)) (f:V.grownBy d none) (c:Bool) (ho:c=(X.dU||(af.map (·.1)).any mD)):
 ∃q r,jk w l m D (X.dr num (af.map (·.1))) af a n b j g X.lost.length 0 (X.dr num (af.map (·.1))) (d.setCell ⟨m,98,none⟩ (.bool c)) q r:=by
 have Y:=H.bd.fu;have L:=h.size;have al:=z.size;have ax:=f.size;have M:=bf K f;have N:=heap_set M (o:=98) (.bool c);have s:=aD (av d (some m)) ⟨m,98,none⟩ (.bool c) (.inr rfl);have t:ak W (d.setCell ⟨m,98,none⟩ (.bool c)) (λA=>A=m):=(ak.of (aj (aj z (cO f _)) s)).mono (λA _ e=>(aJ e).symm);have a0:=s.size;obtain⟨P,Q⟩:=p.km;have R:ba (d.setCell ⟨m,98,none⟩ (.bool c)) O k i (fX X.ag X.floor num).1:=(P.ah f).cW (λ_ x e=>s.block _ (by
  obtain⟨u,v⟩:=p.lt x.block (by rw[e];rfl);omega) (by have:=Q x e;simp only[ne_eq,kM];omega))
 have T:=(H.ah h).zV (.slice O k i) (fX X.ag X.floor num).1 (fX X.ag X.floor num).2 c N (by simp) (λB hi=>?_) (by simp[H.sz]) (by simp[H.sz]) (by simp[H.sz]) t ⟨O,k,i,rfl,R⟩ (.inr (λy n b e=>?_));obtain⟨q,r,S,E⟩:=T;refine⟨q,r,?_,(cP.ah h).trans (E.mono L),hF.aq t (λa1 u v e=>by omega),bC G t.size,λB u v e=>?_,KL I _ _,by simp[Sd.dr],kT.rfl' _,rfl⟩
 subst ho;exact S;obtain F|F:=E.ar B e
 have:=mT H.bd F;omega;omega;obtain hi|hi:=hi
 rw[aW (by omega),aW (by omega),aW (by omega)];rw[aW (by omega),aW (by omega),aW (by omega)];obtain⟨rfl,rfl,rfl⟩:=fS e;obtain⟨u,v⟩:=p.lt y.block rfl;omega
theorem KM(w:World)(i sb:Nat)(cs:Array Value)(v:aQ)(s:Sd)(H:bg w i sb cs v s)(j:di s.key)(a:Option Addr)(m cap:Nat)(p:List Int)(u:bh w a m cap p)(k:¬gV s.key (sd (!s.first)) p):
 Calls prog 131 #[.pointer (some ⟨sb,0,none⟩),.slice a m cap] w (rT w i sb v s p):=by
 obtain⟨R,b⟩:=exq (rT w i sb v s p);rw[<-b];replace b:=J b;have x:=J (mW w sb 0 H.ks);have l:=H.pS j;have gQ:w.cell? ⟨sb,18,none⟩=some (.bool s.first):=(aU H.aG _).trans H.gQ;have n:=J (λW(g:w.grownBy W none)=>(CC W s.key (!s.first) a m cap p j (u.ah g)).mono (λe c h=>show e=.returned (.tuple #[.int .u64 0,.slice none 0 0,.iface 34 (.int .i64 4)])/\W.grownBy c none from⟨by
  obtain q|q:=h.1
  exact absurd q.1 k
  ·exact q.2,h.2⟩))
 have z:=J (λW(g:w.grownBy W none)=>(show R (.returned (.iface 34 (.int .i64 4))) W by rw[Z b];exact .inl ⟨k,rfl,H.to g⟩));have A:(prog.info? 24).map (·.size)=some (bv s.key).length:=by rw[fK,j.1];exact mh
 have F:=underlying24;clear u k;replace H:=J H;obtain⟨key,r⟩:=exq s.key;obtain⟨f,t⟩:=exq s.first;rw[<-r]at A n l;rw[<-t]at n gQ;replace r:=J r;replace t:=J t;simp only[ne_eq,tJ,se]at x;go_enter func131,ntmps131;go_wp2_with fail;refine(Z x).mono ?_;rintro e G⟨rfl,B⟩;have I:=kc gQ;have d:=ir ⟨l,av w none⟩ B;clear gQ l;go_upto_region 3 with fail;go_region_held3 (λc=>c.rangeAt sb 2 (bv key)/\w.grownBy c none)
  (first|with_reducible exact y|with_reducible exact d|with_reducible exact ir d (aP (av _ none)))
  (first|(go_at_call 135;refine(Z n _ (ir d (aP (av _ none))).2).mono ?_;rintro e C⟨rfl,D⟩;have y:=ir (ir d (aP (av _ none))) D;have E:Hid (R (.returned (.iface 34 (.int .i64 4))) C):=J (Z z _ y.2)))
 go_wp2_with fail;exact Z E
theorem KN(b:bh w a m n L):0<=bN L:=by
 have h:=sY L b.1;unfold bN;by_cases hl:8<=L.length;exact(h 8 hl).1;rw[eG (by omega)];have:=(h L.length (aI _)).1;rwa[lh]at this
structure qx(w:World)(a sb:Nat)(cs:Array Value)(v:aQ)(s:Sd)(p:List Int):Prop where
 at_:bg w a sb cs v s
 key:di s.key
 recv:lZ s
 lost:s.lost.length<=30000000
 cU:0<=s.count/\s.count<=4611686018427387000
 nd:aZ s.ag
 c8:s.ag.length<=8
 laid:Laid w
 n0:¬bV sb v 0
 ok:gV s.key (sd (!s.first)) p
 num:0<=bN p
theorem qx.KO(h:qx w k i C D X L)(W:World)(g:w.grownBy W none):
 Calls prog 160 #[.pointer (some ⟨i,96,none⟩),.int .u64 (bN L)] W λe b=>e=.returned (.bool (iC X.ag X.floor (bN L)))/\W.grownBy b none:=by
 obtain⟨a,n,c,e,d⟩:=h.at_.mV;exact Ko W i 96 a n c X.ag X.floor (bN L) (g.cell ((aU h.at_.aG _).trans (e▸h.at_.mU)) (by simp)) (g.cell ((aU h.at_.aG _).trans h.at_.nG) (by simp)) (d.ah g) ⟨h.num,h.ok.2.2.2⟩
theorem qx.fX(h:qx w k i C D X L)(hp:iC X.ag X.floor (bN L)=false)(W:World)(g:w.grownBy W none):
 Calls prog 164 #[.pointer (some ⟨i,96,none⟩),.int .u64 (bN L)] W λe b=>e=.returned (.tuple #[])/\∃d f j,b.heap[i]?=some (.cells ((C.setIfInBounds 96 (.slice d f j)).setIfInBounds 97 (.int .u64 (fX X.ag X.floor (bN L)).2)) 241 (0,0))/\cS b W.heap.size (.slice d f j) (fX X.ag X.floor (bN L)).1/\W.grownBy b (some i):=by
 obtain⟨a,n,c,e,l⟩:=h.at_.mV;refine Kw W i 96 C _ a n c X.ag X.floor (bN L) (bf h.at_.aG g) (e▸h.at_.mU) h.at_.nG (l.ah g) (λy m e2=>?_) h.nd h.c8 (KH hp).1 ⟨h.num,h.ok.2.2.2⟩;exact(h.at_.bd.da 8 (by omega) y n c (by rw[e,m])).1 (.inl e2)
theorem qx.busy(h:qx w k i C D X L)(g:w.grownBy W none){af:List cu}(hF:jI j l W (.slice a n m) af)(hs:∀f∈af.map (·.1),dm f):
 Calls prog 162 #[.slice a n m,.func (.func 163) #[.pointer (some ⟨i,0,none⟩)] #[]] W λe d=>e=.returned (.bool ((af.map (·.1)).any X.kC))/\W.grownBy d none:=by
 refine CE W j l a n m _ #[.pointer (some ⟨i,0,none⟩)] #[] af X.kC hF (λargs w=>by kernel_rfl) (λp x q b=>?_);have c:=hs x.1 (lM b);have r:=c.st;exact KC p k i C D X (h.at_.ah (aj g q)) h.recv.ai x.1 x.2 r ((h.recv.aT _ (by omega)).nice h.recv.ai.2) (hF.own.2 x b).1.1.2.2.1.1 (λs=>c.en s)
theorem KP{af:List cu}(hF:jI k i W (.slice a n j) af):
 Calls prog 162 #[.slice a n j,.func (.func 165) #[] #[]] W λe b=>e=.returned (.bool ((af.map (·.1)).any mD))/\W.grownBy b none:=
 CE W k i a n j _ #[] #[] af mD hF (λargs w=>by kernel_rfl) (λc x d f=>KB c x.1 x.2)
theorem jk.ended{af:List cu}{b:Sd}{c:aQ}(h:jk w k i D X af a n j l m o af.length b W C c):gJ X (af.map (·.1))=(0,b):=by
 rw[<-h.all,tH (by simp)];rfl
theorem jk.fail{af:List cu}{c:Sd}{d:aQ}(h:jk w k i D X af a n l m o b j c W C d)(p:Laid w)(h0:¬bV i D 0)(q:di X.key)(s:0<=X.count/\X.count<=4611686018427387000)(t:dD W.heap.size W k i d (c.take (cL af j).1).2 V)(e:Int)(u:0<=e/\e<=1000):
 Calls prog 161 #[.pointer (some ⟨i,0,none⟩),.iface 34 (.int .i64 e)] V λr f=>r=.returned (.iface 34 (.int .i64 e))/\iS w i D e ((c.take (cL af j).1).2.iu e e) f:=by
 obtain⟨v,x,S,y⟩:=t;have T:=h.same.trans (take_same c (cL af j).1);have g:=h.dA.trans (y.mono h.dA.aq.size);refine(JJ V k i v x _ S (by rw[T.key];exact q) (by rw[T.count];exact s) (p.aq g.aq h0) e u).mono ?_;rintro r f⟨rfl,z⟩;exact⟨rfl,iS.dA g z⟩
theorem KQ(w:World)(y sb:Nat)(cs:Array Value)(v:aQ)(s:Sd)(p:List Int)(h:qx w y sb cs v s p)(a:Option Addr)(m cap:Nat)(aa:bh w a m cap p):
 Calls prog 131 #[.pointer (some ⟨sb,0,none⟩),.slice a m cap] w (rT w y sb v s p):=by
 obtain⟨R,z⟩:=exq (rT w y sb v s p);rw[<-z];replace z:=J z;have hC:=J (mW w sb 0 h.at_.ks);have bb:=h.at_.pS h.key;have gQ:w.cell? ⟨sb,18,none⟩=some (.bool s.first):=(aU h.at_.aG _).trans h.at_.gQ;have kr:=kc ((aU h.at_.aG _).trans h.at_.kr);have A:=J (λW(g:w.grownBy W none)=>(CC W s.key (!s.first) a m cap p h.key (aa.ah g)).mono (λe U G=>show∃a' c',e=.returned (.tuple #[.int .u64 (bN p),.slice a' (p.length-16) c',.nilIface])/\bh U a' (p.length-16) c' (eu s.key (sd (!s.first)) (bN p) (bQ p))/\W.grownBy U none from by
  obtain⟨-,a',c',h1,h2⟩|h1:=G.1
  exact⟨a',c',h1,h2,G.2⟩
  ·exact absurd h.ok h1.1))
 have bj:=J h.KO;have cj:(prog.info? 24).map (·.size)=some (bv s.key).length:=by rw[fK,h.key.1];exact mh
 have du:=underlying24;have br:Hid ((eu s.key (sd (!s.first)) (bN p) (bQ p)).length<=300):=J (by
  rw[mZ];have:=h.ok.2.1;unfold bQ;rw[cC];omega)
 obtain⟨M,H⟩:=exq (eu s.key (sd (!s.first)) (bN p) (bQ p));rw[<-H]at A br;have eL:=h.at_.bd.fu;clear aa;replace h:=J h;obtain⟨key,hK⟩:=exq s.key;obtain⟨f,hf⟩:=exq s.first;obtain⟨num,d⟩:=exq (bN p);obtain⟨pl,bt⟩:=exq (p.length-16);rw[<-hK]at cj A bb;rw[<-hf]at A gQ;rw[<-d]at A bj;rw[<-bt]at A;replace hK:=J hK;replace hf:=J hf;replace d:=J d;replace H:=J H;replace bt:=J bt;simp only[ne_eq,tJ,se]at hC;go_enter func131,ntmps131;go_wp2_with fail;refine(Z hC).mono ?_;rintro e w1⟨rfl,g1⟩;have dx:=kc gQ;have V:=ir ⟨bb,av w none⟩ g1;clear gQ bb;go_upto_region 3 with fail;go_region_held3 (λU=>U.rangeAt sb 2 (bv key)/\w.grownBy U none)
  (first|with_reducible exact bx|with_reducible exact V|with_reducible exact ir V (aP (av _ none)))
  (first|(go_at_call 135;refine(Z A _ (ir V (aP (av _ none))).2).mono ?_;rintro e w5⟨a5,c5,rfl,a1,g5⟩;have bx:=ir (ir V (aP (av _ none))) g5;replace a1:=J a1))
 clear A dx cj du;have cp:=bx.2;clear bx V;go_wp2_with fail;refine(Z bj _ cp).mono ?_;rintro e X⟨rfl,g6⟩;have Y:=aj cp g6;have cv:=J ((Z a1).ah g6);clear a1 bj;cases hp:iC s.ag s.floor num;rotate_left
 ·have l:Hid (R (.returned .nilIface) X):=J (by
   rw[Z z];exact .inr (.inl ⟨(Z h).ok,by rw[<-Z d];exact hp,rfl,(Z h).at_.to Y⟩))
  go_wp2_with fail;exact Z l
 have cw:=J (KG X a5 pl c5 M (Z cv) (by have:=Z br;omega));replace hp:=J hp;go_wp2_with fail;refine(Z cw).mono ?_;rintro e I⟨g7,⟨af,a7,n,c7,hd,rfl,hO⟩|⟨q,F,hd,rfl,hF,cx⟩⟩;rotate_left
 ·have B:=aj Y g7;have dE:=J (JK I y sb F cs v s ((Z h).at_.ah B) (Z h).key (Z h).cU ((Z h).laid.gb B (by simp)) 5 (by omega) (by simp[World.cell?,hF]));go_wp2_with fail;refine(Z dE).mono ?_;rintro e w8⟨rfl,bz⟩;have l:Hid (R (.returned (.iface 177 (.pointer (some ⟨F,0,none⟩)))) w8):=J (by
   rw[Z z];have hz:=Y.size;refine .inr (.inr (.inl ⟨(Z h).ok,by rw[<-Z d];exact Z hp,(q:Int),F,?_,rfl,by omega,?_,iS.pre B bz⟩));rw[<-Z H];exact hd
   ·obtain⟨last,eV,-,-,C⟩:=bz;rw[C.block F (aO.1 hF).1 (λe=>by have:=oL (Z h).at_.bd e;omega)];exact hF)
  clear bz hF;go_wp2_with fail;exact Z l
 have B:=aj Y g7;have K:=hO.KI;have dG:=Y.size;have a2:=Cx hd;have ee:=KF hd;rw[dY]at ee;have eg:=J K.fL;have bL:=J ((Z h).busy B K a2);have bM:=J (λW(C:ak I W (λk=>k=sb))=>KP (K.aq C (λj h1 _ e=>by omega)));have bP:=J (λW(g:I.grownBy W none)=>(Z h).fX (by rw[<-Z d];exact Z hp) W (aj B g));rw[<-Z d]at bP;replace hO:=J hO;replace K:=J K;replace a2:=J a2;replace hd:=J hd;obtain⟨fs,b⟩:=exq (af.map (·.1));rw[<-b]at bL bM;replace b:=J b;clear cw cv;go_wp2_with fail;refine(Z bL).mono ?_;rintro e w8⟨rfl,g8⟩;have cy:=aj B g8;cases L:fs.any s.kC;rotate_left
 ·have l:Hid (R (.returned (.iface 34 (.int .i64 6))) w8):=J (by
   rw[Z z];refine .inr (.inr (.inr ⟨(Z h).ok,by rw[<-Z d];exact Z hp,fs,?_,.inl ⟨L,rfl,(Z h).at_.to cy⟩⟩));rw[<-Z H,Z b];exact Z hd)
  go_wp2_with fail;exact Z l
 replace L:=J L;clear bL;go_wp2_with fail;refine(Z bP _ g8).mono ?_;rintro e N⟨rfl,a9,k9,c9,D,cR,g9⟩;have kr:N.cell? ⟨sb,98,none⟩=some (.bool s.dU):=by rw[aU D,aW (by omega),aW (by omega)];exact(Z h).at_.kr
 have f98:N.frozen? ⟨sb,98,none⟩=false:=by simp[World.frozen?,D]
 have al:=J (λO(ax:N.grownBy O none) ow ho=>jk.start (Z h).at_ cy dG g8.size ((Z K).ah g8) (Z h).recv D cR g9 ax ow ho);have db:=J (Z bM N (((ak.of g8).trans (ak.of g9)).mono (λk _ e=>e.elim (λe=>by cases e) (λe=>(aJ e).symm))));replace D:=J D;clear cR bM bP;rw[<-Z b]at al;have de:=J (λj(P:j<af.length)=>Z a2 (cL af j).1 (lM (rS P)));have bS:=J (λj(P:j<af.length)=>CG (Z L) num (cL af j).1 (by rw[Z b];exact lM (rS P)));obtain⟨s1,Q⟩:=exq (s.dr num fs);rw[<-Q]at al bS;obtain⟨b0,S⟩:=exq (λW:World=>∃r t,jk w y sb v s1 af a7 n c7 X.heap.size I.heap.size s.lost.length 0 s1 W r t);replace S:=J S;replace Q:=J Q;go_upto_region 14 with fail;go_cut [] (λwx=>b0 wx);case first=>
  cases a3:s.dU
  ·rw[a3]at kr;go_wp2_with fail;refine(Z db).mono ?_;rintro e O⟨rfl,ax⟩;have e3:O.frozen? ⟨sb,98,none⟩=false:=by simp[World.frozen?,bf (Z D) ax]
   have e4:=ax.cell kr (by simp);have b3:Hid (b0 (O.setCell ⟨sb,98,none⟩ (.bool (fs.any mD)))):=J (by rw[Z S];exact Z al O ax _ (by rw[a3,Bool.false_or]));go_wp2_with fail;go_meet;exact Z b3
  rw[a3]at kr;have b3:Hid (b0 (N.setCell ⟨sb,98,none⟩ (.bool true))):=J (by rw[Z S];exact Z al N (av _ _) _ (by rw[a3,Bool.true_or]));go_wp2_with fail;go_meet;exact Z b3
 case rest=>
  rw[Z S]at hcut;rename World=>O
  obtain⟨ei,ej,b4⟩:=hcut;clear db al kr f98 D S;replace b4:=J b4;have ek:=J (λj u W E r t(G:jk w y sb v s1 af a7 n c7 X.heap.size I.heap.size s.lost.length j u W r t) x e he=>G.fail (Z h).laid (Z h).n0 (by rw[Z Q];exact(Z h).key) (by rw[Z Q];exact(Z h).cU) x e he (V:=E));have b5:=J (λ(e:Ending)(W:World) G=>(show R e W by
   rw[Z z];refine .inr (.inr (.inr ⟨(Z h).ok,by rw[<-Z d];exact Z hp,fs,?_,.inr G⟩));rw[<-Z H,Z b];exact Z hd))
  rw[<-Z d,<-Z Q]at b5;obtain⟨b6,e5,eo⟩:=Z eg;unfold maxLen at eo;replace b6:=J b6;have ep:Hid (s.lost.length<=30000000):=J (Z h).lost;have e6:=Z br;go_upto_region 16 with fail;go_loopg [71] (af.length+1) (λg ew wr=>∃(j:Nat)(u:Sd)(r:Array Value)(t:aQ),j<=af.length/\ew=.int .i64 (j:Int)/\g=af.length+1-j/\jk w y sb v s1 af a7 n c7 X.heap.size I.heap.size s.lost.length j u wr r t);case atStart=>exact⟨0,s1,ei,ej,by omega,rfl,by omega,Z b4⟩
  case round=>
   obtain⟨j,u,r,t,ey,rfl,rfl,i⟩:=hrel;have dg:=Z b6;by_cases c:j<af.length
   ·have d1:decide ((j:Int)<(n:Int))=true:=bp (by omega);obtain⟨g,rfl,dk⟩:=i.fr.cells (by omega);obtain⟨y0,y1,y2,y3,y4,y5,y6⟩:=CD (H:=(cL af j).1) (by have:=dk j c;rwa[dv]at this);obtain⟨WB,a4⟩:=exq (wr.alloc (.cells (bF (cL af j).1 (cL af j).2) 158));have ez:wr.grownBy WB none:=by rw[a4];exact aC _ _ _
    have b7:WB.heap[wr.heap.size]?=some (.cells (bF (cL af j).1 (cL af j).2) 158 (0,0)):=by rw[a4];exact aH _ _
    have T:=i.gb ez;have b8:=J (T.KK c (Z de j c) (Z bS j c));have ca:=J (λE x h0=>T.step (W':=E) c (Z de j c) (i.fr.xP j c).1.2.2.1.1 (Z bS j c) (by have:=Z ep;omega) x h0);have a0:=J (T.stop c);have cf:=J (λE=>Z ek j u WB E r t T);have a8:=KJ u (cL af j).1;obtain⟨q,hq⟩:=exq (u.take (cL af j).1);rw[<-hq]at b8 ca a0 cf a8;replace hq:=J hq;obtain⟨-,-,ra,e7,dn,-⟩:=i.fr.xP j c;generalize (cL af j).1.ranges.length=rl at dn;generalize (cL af j).2=rv at *;subst dn;generalize (cL af j).1=ff at *;replace i:=J i;replace T:=J T;clear dk;obtain⟨kind,stream,offset,code,fin,data,ranges⟩:=ff;unfold bF at *;simp only at *;have i1:(0:Int)<=(j:Int):=by omega
    have i2:(j:Int)<(n:Int):=by omega
    clear dg;obtain⟨x0,x1,x2,x3,x4,x5,x6⟩:=cH b7;replace b7:=J b7;go_upto_region 18 with fail;rw[<-a4];clear y0 y1 y2 y3 y4 y5 y6 a4;go_wp2_with fail;refine(Z b8).mono ?_;rintro e ds⟨rfl,x⟩;by_cases h0:q.1=0
    ·have ev:bE q.1=.nilIface:=by rw[h0];rfl
     rw[ev];obtain⟨eK,v2,cg⟩:=Z ca ds x h0;clear x ca a0 cf b8 a8;replace cg:=J cg;replace h0:=J h0;go_wp2_with fail;go_roundg (af.length+1-(j+1));case measure=>omega
     case rel=>exact⟨j+1,q.2,eK,v2,by omega,by push_cast;rfl,rfl,Z cg⟩
    have ev:bE q.1=.iface 34 (.int .i64 q.1):=by unfold bE;rw[ay h0]
    rw[ev];have cx:=J (Z cf ds x q.1 (by omega));have l:=J (λW(hS:iS w sb v q.1 (q.2.iu q.1 q.1) W)=>Z b5 (.returned (.iface 34 (.int .i64 q.1))) W (.inr ⟨Z L,by rw[Z b,Z a0 h0];exact h0,by rw[Z b,Z a0 h0,ev],by rw[Z b,Z a0 h0];exact hS⟩));replace h0:=J h0;replace ev:=J ev;replace a8:=J a8;clear x;go_wp2_with fail;refine(Z cx).mono ?_;rintro e e8⟨rfl,hS⟩;replace hS:=J hS;go_wp2_with fail;exact Z l _ (Z hS)
   have P:j=af.length:=by omega
   have i3:¬((j:Int)<(n:Int)):=by omega
   have i4:¬(j<n):=by omega
   have d1:decide ((j:Int)<(n:Int))=false:=bB (by omega);have d2:decide (j<n)=false:=bB (by omega);have ch:gJ s1 (af.map (·.1))=(0,u):=by subst P;exact i.ended
   have l:Hid (R (.returned .nilIface) wr):=J (by
    refine Z b5 _ _ (.inl ⟨Z L,?_,rfl,?_⟩);rw[Z b,ch]
    ·rw[Z b,ch];exact⟨r,t,i.side,i.dA⟩)
   clear i dg P c ey ch;go_wp2_with fail;exact Z l
theorem KR(w:World)(b sb:Nat)(cs:Array Value)(v:aQ)(s:Sd)(p:List Int)(H:bg w b sb cs v s)(d:di s.key)(f:lZ s)(hl:s.lost.length<=30000000)(g:0<=s.count/\s.count<=4611686018427387000)(h:aZ s.ag)(i:s.ag.length<=8)(j:Laid w)(h0:¬bV sb v 0)(a:Option Addr)(m cap:Nat)(c:bh w a m cap p):
 Calls prog 131 #[.pointer (some ⟨sb,0,none⟩),.slice a m cap] w (rT w b sb v s p):=by
 by_cases e:gV s.key (sd (!s.first)) p;exact KQ w b sb cs v s p ⟨H,d,f,hl,g,h,i,j,h0,e,KN c⟩ a m cap c;exact KM w b sb cs v s H d a m cap p c e
theorem KS(w:World)(sb:Nat)(aF:Int)(dq:w.cell? ⟨sb,99,none⟩=some (.int .i64 aF))(h:aF≠0)(b:Value):Calls prog 131 #[.pointer (some ⟨sb,0,none⟩),b] w λr c=>r=.returned (bE 9)/\w.grownBy c none:=by
 have a:=J (mW w sb aF dq);rw[bp h]at a;go_enter func131,ntmps131;go_wp2_with fail;refine(Z a).mono ?_;rintro e f⟨rfl,d⟩;go_wp2_with fail;go_ret;exact⟨rfl,d⟩
def kD(ao ai:Int):Prop:=64<=ao/\ao<=300/\16<=ai/\ai<=1024
theorem KT(w:World)(ao ai:Int)(K:Array Value)(m:K.size=16)(f:Bool)(h:¬kD ao ai):
 Calls prog 70 #[.agg #[.int .i64 ao,.int .i64 ai],.agg K,.bool f] w λe j=>e=.returned (.tuple #[.pointer none,bE 1])/\w.grownBy j none:=by
 have k:ao<64\/(¬ao<64/\300<ao)\/(¬ao<64/\¬300<ao/\ai<16)\/(¬ao<64/\¬300<ao/\¬ai<16/\1024<ai):=by unfold kD at h;omega
 have n:prog.cellsOf 24=16:=by kernel_rfl
 clear h;have g:∀(a b:Obj),w.grownBy ((w.alloc a).alloc b) none:=λa b=>aj (aC _ _ _) (aC _ _ _)
 obtain c|⟨c,d⟩|⟨c,d,i⟩|⟨c,d,i,l⟩:=k
 ·have d1:decide (ao<64)=true:=bp c;go_enter func70,ntmps70;go_wp2_with fail;go_ret2;exact⟨rfl,g _ _⟩
 ·have d1:decide (ao<64)=false:=bB c;have d2:decide (ao>300)=true:=bp d;go_enter func70,ntmps70;go_wp2_with fail;go_ret2;exact⟨rfl,g _ _⟩
 ·have d1:decide (ao<64)=false:=bB c;have d2:decide (ao>300)=false:=bB d;have d3:decide (ai<16)=true:=bp i;go_enter func70,ntmps70;go_wp2_with fail;go_ret2;exact⟨rfl,g _ _⟩
 have d1:decide (ao<64)=false:=bB c;have d2:decide (ao>300)=false:=bB d;have d3:decide (ai<16)=false:=bB i;have d4:decide (ai>1024)=true:=bp l;go_enter func70,ntmps70;go_wp2_with fail;go_ret2;exact⟨rfl,g _ _⟩
theorem xQ(l:List Value)(h:l.length=16):∃a b c k3 k4 k5 d e f g i j k m n p,l=[a,b,c,k3,k4,k5,d,e,f,g,i,j,k,m,n,p]:=by
 iterate 16 (obtain _|⟨_,l⟩:=l;·simp at h)
 obtain _|⟨_,l⟩:=l
 exact⟨_,_,_,_,_,_,_,_,_,_,_,_,_,_,_,_,rfl⟩
 simp at h
theorem KU(ao ai:Int)(a b c k3 k4 k5 d e g h i j k l m n:Value)(f:Bool):(((((((((((((((((((((((zeroCells241.setIfInBounds 0 (.int .i64 ao)).setIfInBounds 1 (.int .i64 ai)).setIfInBounds 2 a).setIfInBounds 3 b).setIfInBounds 4 c).setIfInBounds 5 k3).setIfInBounds 6 k4).setIfInBounds 7 k5).setIfInBounds 8 d).setIfInBounds 9 e).setIfInBounds 10 g).setIfInBounds 11 h).setIfInBounds 12 i).setIfInBounds 13 j).setIfInBounds 14 k).setIfInBounds 15 l).setIfInBounds 16 m).setIfInBounds 17 n).setIfInBounds 18 (.bool f)).setIfInBounds 91 (.int .u64 0)).setIfInBounds 92 (.int .i64 0)).setIfInBounds 93 (.int .i64 4)).setIfInBounds 94 (.slice none 0 0)).setIfInBounds 95 (.slice none 0 0)=(fF ao ai [a,b,c,k3,k4,k5,d,e,g,h,i,j,k,l,m,n] f 4 0 (.slice none 0 0)).toArray:=by kernel_rfl
theorem KV(w:World)(ao ai:Int)(key:List Int)(k:di key)(f:Bool)(h:kD ao ai):
 Calls prog 70 #[.agg #[.int .i64 ao,.int .i64 ai],.agg (b9 key),.bool f] w λe d=>∃sb,e=.returned (.tuple #[.pointer (some ⟨sb,0,none⟩),.nilIface])/\w.heap.size<=sb/\d.heap[sb]?=some (.cells (fF ao ai (bv key) f 4 0 (.slice none 0 0)).toArray 241 (0,0))/\w.grownBy d none:=by
 have d1:decide (ao<64)=false:=bB (by unfold kD at h;omega);have d2:decide (ao>300)=false:=bB (by unfold kD at h;omega);have d3:decide (ai<16)=false:=bB (by unfold kD at h;omega);have d4:decide (ai>1024)=false:=bB (by unfold kD at h;omega);have N:prog.cellsOf 24=16:=by kernel_rfl
 have O:=mY k;have r:∀(a b:Obj),w.grownBy ((w.alloc a).alloc b) none:=λa b=>aj (aC _ _ _) (aC _ _ _)
 have s:=J Kn;have P:(prog.info? 24).map (·.size)=some (bv key).length:=by rw[fK,k.1];exact mh
 have Q:=underlying24;obtain⟨c,g⟩:=exq ((w.alloc (.cells #[.int .i64 ao,.int .i64 ai] 28)).alloc (.cells (bv key).toArray 24));have p:w.grownBy c none:=by rw[g];exact r _ _
 have i:c.heap[w.heap.size]?=some (.cells #[.int .i64 ao,.int .i64 ai] 28 (0,0)):=by rw[g];exact bf (aH _ _) (aC _ _ _)
 have l:c.heap[w.heap.size+1]?=some (.cells (bv key).toArray 24 (0,0)):=by
  have:=aH (w.alloc (.cells #[.int .i64 ao,.int .i64 ai] 28)) (.cells (bv key).toArray 24);rw[dC]at this;rw[g];exact this
 have c0:c.cell? ⟨w.heap.size,0,none⟩=some (.int .i64 ao):=by simp[World.cell?,i]
 have c1:c.cell? ⟨w.heap.size,1,none⟩=some (.int .i64 ai):=by simp[World.cell?,i]
 have m:c.rangeAt (w.heap.size+1) 0 (bv key)/\c.grownBy c none:=⟨λj u t=>by simpa [World.cell?,l]using t,av _ _⟩
 replace c0:=kc c0;replace c1:=kc c1;unfold b9 at *;have v:(bv key).length=16:=by rw[fK,k.1]
 generalize bv key=K at *;replace i:=J i;replace l:=J l;clear h;go_enter func70,ntmps70;go_upto_region 3 with fail;rw[<-g];obtain⟨x,y,z,k3,k4,k5,A,B,C,D,E,F,G,H,I,L,rfl⟩:=xQ K v;clear g;go_region_held3 (λd=>d.rangeAt (w.heap.size+1) 0 [x,y,z,k3,k4,k5,A,B,C,D,E,F,G,H,I,L]/\c.grownBy d none)
  (first|with_reducible exact n|with_reducible exact m|with_reducible exact ir m (aP (av _ none))|with_reducible exact ir n (aC _ _ _))
  (first|(go_at_call 110;refine(Z s _).mono ?_;rintro e M⟨rfl,q⟩;have n:=ir (ir m (aP (av _ none))) q))
 go_wp2_with fail;go_ret2;refine⟨M.heap.size,rfl,by have:=q.size;have:=p.size;simp at *;omega,?_,?_⟩
 rw[KU];exact aH _ _;exact aj (aj p n.2) (aC _ _ _)
def Ot.new:Ot:=⟨⟨0,[],[]⟩,0,false,false,false,false,0⟩
def It.new:It:=⟨⟨0,[],[]⟩,0,0,0,false,false,false⟩
def Sd.new(ao ai:Int)(key:List Int)(f:Bool):Sd:=⟨ao,ai,key,f,λ_=>Ot.new,λ_=>It.new,[],[],0,0,4,[],0,false⟩
def aQ.new:aQ:=⟨λ_=>.slice none 0 0,λ_=>.slice none 0 0,[],[]⟩
theorem oV(w:World):ba w none 0 0 []:=⟨λr h=>(by cases h),rfl,aI _,by simp[maxLen],.inl rfl⟩
theorem xR(ao ai:Int)(key:List Value)(f:Bool)(a:key.length=16):∃L:List Value,(fF ao ai key f 4 0 (.slice none 0 0))=[.int .i64 ao,.int .i64 ai]++key++(.bool f::L)/\L=zO++zO++zO++zO++zI++zI++zI++zI++[.int .u64 0,.int .i64 0,.int .i64 4,.slice none 0 0,.slice none 0 0,.slice none 0 0,.int .u64 0,.bool false,.int .i64 0,.slice none 0 0]:=⟨_,by simp[fF],rfl⟩
theorem KW(f:di K)(g:w.heap[m]?=some (.cells (fF p q (bv K) B 4 0 (.slice none 0 0)).toArray 241 (0,0)))(r:l<=w.heap.size):bg w l m (fF p q (bv K) B 4 0 (.slice none 0 0)).toArray aQ.new (Sd.new p q K B):=by
 have d:(bv K).length=16:=by rw[fK,f.1]
 have s:(fF p q (bv K) B 4 0 (.slice none 0 0)).length=101:=xK _ _ _ _ _ _ _ d;have t:=(aO.1 g).1;have u:∀i,i<16->(fF p q (bv K) B 4 0 (.slice none 0 0)).toArray[2+i]?=(bv K)[i]? :=by
  intro i hi;obtain⟨L,e,-⟩:=xR p q (bv K) B d;rw[e,od,eA,kZ (by simp),nk (by simp;omega)];congr 1;simp
 have a:∀i v,i<83->(zO++zO++zO++zO++zI++zI++zI++zI++[.int .u64 0,.int .i64 0,.int .i64 4,.slice none 0 0,.slice none 0 0,.slice none 0 0,.int .u64 0,.bool false,.int .i64 0,.slice none 0 0])[i]?=some v->(fF p q (bv K) B 4 0 (.slice none 0 0)).toArray[19+i]?=some v:=by
  intro i v _ h;obtain⟨L,e,z⟩:=xR p q (bv K) B d;rw[e,od,kZ (by simp;omega)];have:19+i-([Value.int .i64 p,.int .i64 q]++bv K).length=i+1:=by simp[d];omega
  rw[this,List.getElem?_cons_succ,z];exact h
 have b:aX w l (.slice none 0 0) []:=aX.nil _ _;refine⟨g,by simp[s],by simp[fF,Sd.new],by simp[fF,Sd.new],u,?_,λk f=>?_,λk f=>?_,?_,rfl,rfl,a 77 _ (by omega) rfl,⟨none,0,0,rfl,oV w⟩,a 78 _ (by omega) rfl,a 79 _ (by omega) rfl,a 80 _ (by omega) rfl,a 81 _ (by omega) rfl,⟨t,λi _ k e=>(by cases e),λi _ e=>(by cases e),λi j _ _ _ k e=>(by cases e),λi _ y n c e=>(by cases e),λx A=>(by cases A)⟩,r⟩
 obtain⟨L,e,-⟩:=xR p q (bv K) B d;rw[e,od,kZ (by simp;omega)];simp[d,Sd.new];have:k=0\/k=1\/k=2\/k=3:=by omega
 obtain rfl|rfl|rfl|rfl:=this
 exact⟨a 0 _ (by omega) rfl,a 1 _ (by omega) rfl,a 2 _ (by omega) rfl,a 3 _ (by omega) rfl,a 4 _ (by omega) rfl,a 5 _ (by omega) rfl,a 6 _ (by omega) rfl,a 7 _ (by omega) rfl,a 8 _ (by omega) rfl,b,⟨none,0,0,rfl,oV w⟩,by simp[aR,Sd.new,Ot.new]⟩
 exact⟨a 9 _ (by omega) rfl,a 10 _ (by omega) rfl,a 11 _ (by omega) rfl,a 12 _ (by omega) rfl,a 13 _ (by omega) rfl,a 14 _ (by omega) rfl,a 15 _ (by omega) rfl,a 16 _ (by omega) rfl,a 17 _ (by omega) rfl,b,⟨none,0,0,rfl,oV w⟩,by simp[aR,Sd.new,Ot.new]⟩
 exact⟨a 18 _ (by omega) rfl,a 19 _ (by omega) rfl,a 20 _ (by omega) rfl,a 21 _ (by omega) rfl,a 22 _ (by omega) rfl,a 23 _ (by omega) rfl,a 24 _ (by omega) rfl,a 25 _ (by omega) rfl,a 26 _ (by omega) rfl,b,⟨none,0,0,rfl,oV w⟩,by simp[aR,Sd.new,Ot.new]⟩
 exact⟨a 27 _ (by omega) rfl,a 28 _ (by omega) rfl,a 29 _ (by omega) rfl,a 30 _ (by omega) rfl,a 31 _ (by omega) rfl,a 32 _ (by omega) rfl,a 33 _ (by omega) rfl,a 34 _ (by omega) rfl,a 35 _ (by omega) rfl,b,⟨none,0,0,rfl,oV w⟩,by simp[aR,Sd.new,Ot.new]⟩
 have:k=0\/k=1\/k=2\/k=3:=by omega
 obtain rfl|rfl|rfl|rfl:=this
 exact⟨a 36 _ (by omega) rfl,a 37 _ (by omega) rfl,a 38 _ (by omega) rfl,a 39 _ (by omega) rfl,a 40 _ (by omega) rfl,a 41 _ (by omega) rfl,a 42 _ (by omega) rfl,a 43 _ (by omega) rfl,a 44 _ (by omega) rfl,b,⟨none,0,0,rfl,oV w⟩⟩
 exact⟨a 45 _ (by omega) rfl,a 46 _ (by omega) rfl,a 47 _ (by omega) rfl,a 48 _ (by omega) rfl,a 49 _ (by omega) rfl,a 50 _ (by omega) rfl,a 51 _ (by omega) rfl,a 52 _ (by omega) rfl,a 53 _ (by omega) rfl,b,⟨none,0,0,rfl,oV w⟩⟩
 exact⟨a 54 _ (by omega) rfl,a 55 _ (by omega) rfl,a 56 _ (by omega) rfl,a 57 _ (by omega) rfl,a 58 _ (by omega) rfl,a 59 _ (by omega) rfl,a 60 _ (by omega) rfl,a 61 _ (by omega) rfl,a 62 _ (by omega) rfl,b,⟨none,0,0,rfl,oV w⟩⟩
 exact⟨a 63 _ (by omega) rfl,a 64 _ (by omega) rfl,a 65 _ (by omega) rfl,a 66 _ (by omega) rfl,a 67 _ (by omega) rfl,a 68 _ (by omega) rfl,a 69 _ (by omega) rfl,a 70 _ (by omega) rfl,a 71 _ (by omega) rfl,b,⟨none,0,0,rfl,oV w⟩⟩
 exact⟨a 72 _ (by omega) rfl,a 73 _ (by omega) rfl,a 74 _ (by omega) rfl,a 75 _ (by omega) rfl,a 76 _ (by omega) rfl,mI _ _ _ _,mI _ _ _ _⟩
theorem oW(w:World)(xb sb:Nat)(c:w.cell? ⟨xb,0,none⟩=some (.pointer (some ⟨sb,0,none⟩))):
 Calls prog 72 #[.pointer (some ⟨xb,0,none⟩)] w λe a=>e=.returned (.pointer (some ⟨sb,0,none⟩))/\a=w:=by
 go_enter func72,ntmps72;go_wp2_with fail;go_ret;exact⟨rfl,rfl⟩
theorem KX(w:World)(xb sb:Nat)(c:w.cell? ⟨xb,0,none⟩=some (.pointer (some ⟨sb,0,none⟩)))(k:Int)(f:Value)(Q:Ending->World->Prop)(hs:∀e g,Q e g->∃a b,e=.returned (.tuple #[a,b]))(d:Calls prog 126 #[.pointer (some ⟨sb,0,none⟩),.int .i64 k,f] w Q):
 Calls prog 92 #[.pointer (some ⟨xb,0,none⟩),.int .i64 k,f] w Q:=by
 have i:=J (oW w xb sb c);replace d:=J d;go_enter func92,ntmps92;go_wp2_with fail;refine(Z i).mono ?_;rintro e j⟨rfl,rfl⟩;go_wp2_with fail;refine(Z d).mono ?_;rintro e l h;obtain⟨a,b,rfl⟩:=hs _ _ h;replace h:=J h;go_wp2_with fail;first|exact Z h|exact cz (v:=.tuple #[a,b]) (by simp[results,results92,go_sem]) rfl (Z h)
theorem KY(w:World)(xb sb:Nat)(c:w.cell? ⟨xb,0,none⟩=some (.pointer (some ⟨sb,0,none⟩)))(k:Int)(Q:Ending->World->Prop)(hs:∀e b,Q e b->∃v,e=.returned v)(a:Calls prog 127 #[.pointer (some ⟨sb,0,none⟩),.int .i64 k] w Q):
 Calls prog 93 #[.pointer (some ⟨xb,0,none⟩),.int .i64 k] w Q:=by
 have d:=J (oW w xb sb c);replace a:=J a;go_enter func93,ntmps93;go_wp2_with fail;refine(Z d).mono ?_;rintro e f⟨rfl,rfl⟩;go_wp2_with fail;refine(Z a).mono ?_;rintro e g h;obtain⟨v,rfl⟩:=hs _ _ h;replace h:=J h;go_wp2_with fail;exact Z h
theorem KZ(w:World)(xb sb:Nat)(c:w.cell? ⟨xb,0,none⟩=some (.pointer (some ⟨sb,0,none⟩)))(k:Int)(code:Int)(Q:Ending->World->Prop)(hs:∀e b,Q e b->∃v,e=.returned v)(a:Calls prog 128 #[.pointer (some ⟨sb,0,none⟩),.int .i64 k,.int .u64 code] w Q):
 Calls prog 94 #[.pointer (some ⟨xb,0,none⟩),.int .i64 k,.int .u64 code] w Q:=by
 have d:=J (oW w xb sb c);replace a:=J a;go_enter func94,ntmps94;go_wp2_with fail;refine(Z d).mono ?_;rintro e f⟨rfl,rfl⟩;go_wp2_with fail;refine(Z a).mono ?_;rintro e g h;obtain⟨v,rfl⟩:=hs _ _ h;replace h:=J h;go_wp2_with fail;exact Z h
theorem K0(w:World)(xb sb:Nat)(c:w.cell? ⟨xb,0,none⟩=some (.pointer (some ⟨sb,0,none⟩)))(k:Int)(Q:Ending->World->Prop)(hs:∀e f,Q e f->∃a b,e=.returned (.tuple #[a,b]))(d:Calls prog 134 #[.pointer (some ⟨sb,0,none⟩),.int .i64 k] w Q):
 Calls prog 101 #[.pointer (some ⟨xb,0,none⟩),.int .i64 k] w Q:=by
 have g:=J (oW w xb sb c);replace d:=J d;go_enter func101,ntmps101;go_wp2_with fail;refine(Z g).mono ?_;rintro e i⟨rfl,rfl⟩;go_wp2_with fail;refine(Z d).mono ?_;rintro e j h;obtain⟨a,b,rfl⟩:=hs _ _ h;replace h:=J h;go_wp2_with fail;first|exact Z h|exact cz (v:=.tuple #[a,b]) (by simp[results,results101,go_sem]) rfl (Z h)
theorem K9(w:World)(xb sb:Nat)(c:w.cell? ⟨xb,0,none⟩=some (.pointer (some ⟨sb,0,none⟩)))(Q:Ending->World->Prop)(hs:∀e b,Q e b->e=.returned (.tuple #[]))(a:Calls prog 129 #[.pointer (some ⟨sb,0,none⟩)] w Q):
 Calls prog 95 #[.pointer (some ⟨xb,0,none⟩)] w Q:=by
 have d:=J (oW w xb sb c);replace a:=J a;go_enter func95,ntmps95;go_wp2_with fail;refine(Z d).mono ?_;rintro e f⟨rfl,rfl⟩;go_wp2_with fail;refine(Z a).mono ?_;rintro e g h;obtain rfl:=hs _ _ h;replace h:=J h;go_wp2_with fail;first|exact Z h|exact dP (dj rfl _ _ _) rfl (Z h)
theorem La(w:World)(xb sb:Nat)(c:w.cell? ⟨xb,0,none⟩=some (.pointer (some ⟨sb,0,none⟩)))(Q:Ending->World->Prop)(hs:∀e b,Q e b->∃v,e=.returned v)(a:Calls prog 130 #[.pointer (some ⟨sb,0,none⟩)] w Q):
 Calls prog 96 #[.pointer (some ⟨xb,0,none⟩)] w Q:=by
 have d:=J (oW w xb sb c);replace a:=J a;go_enter func96,ntmps96;go_wp2_with fail;refine(Z d).mono ?_;rintro e f⟨rfl,rfl⟩;go_wp2_with fail;refine(Z a).mono ?_;rintro e g h;obtain⟨v,rfl⟩:=hs _ _ h;replace h:=J h;go_wp2_with fail;exact Z h
theorem Lb(w:World)(xb sb:Nat)(c:w.cell? ⟨xb,0,none⟩=some (.pointer (some ⟨sb,0,none⟩)))(b:Value)(Q:Ending->World->Prop)(hs:∀e d,Q e d->∃v,e=.returned v)(a:Calls prog 131 #[.pointer (some ⟨sb,0,none⟩),b] w Q):
 Calls prog 98 #[.pointer (some ⟨xb,0,none⟩),b] w Q:=by
 have f:=J (oW w xb sb c);replace a:=J a;go_enter func98,ntmps98;go_wp2_with fail;refine(Z f).mono ?_;rintro e g⟨rfl,rfl⟩;go_wp2_with fail;refine(Z a).mono ?_;rintro e i h;obtain⟨v,rfl⟩:=hs _ _ h;replace h:=J h;go_wp2_with fail;exact Z h
theorem Lc(w:World)(xb sb:Nat)(c:w.cell? ⟨xb,0,none⟩=some (.pointer (some ⟨sb,0,none⟩)))(k:Int)(bI:Int)(Q:Ending->World->Prop)(hs:∀e i,Q e i->∃a n c b d f,e=.returned (.tuple #[.slice a n c,b,d,f]))(g:Calls prog 132 #[.pointer (some ⟨sb,0,none⟩),.int .i64 k,.int .i64 bI] w Q):
 Calls prog 99 #[.pointer (some ⟨xb,0,none⟩),.int .i64 k,.int .i64 bI] w Q:=by
 have j:=J (oW w xb sb c);replace g:=J g;go_enter func99,ntmps99;go_wp2_with fail;refine(Z j).mono ?_;rintro e l⟨rfl,rfl⟩;go_wp2_with fail;refine(Z g).mono ?_;rintro e m h;obtain⟨a,n,c,b,d,f,rfl⟩:=hs _ _ h;replace h:=J h;go_wp2_with fail;first|exact Z h|exact cz (v:=.tuple #[.slice a n c,b,d,f]) (by simp[results,results99,go_sem]) rfl (Z h)
theorem Le(w:World)(xb sb:Nat)(c:w.cell? ⟨xb,0,none⟩=some (.pointer (some ⟨sb,0,none⟩)))(code:Int)(Q:Ending->World->Prop)(hs:∀e b,Q e b->∃v,e=.returned v)(a:Calls prog 133 #[.pointer (some ⟨sb,0,none⟩),.int .u64 code] w Q):
 Calls prog 100 #[.pointer (some ⟨xb,0,none⟩),.int .u64 code] w Q:=by
 have d:=J (oW w xb sb c);replace a:=J a;go_enter func100,ntmps100;go_wp2_with fail;refine(Z d).mono ?_;rintro e f⟨rfl,rfl⟩;go_wp2_with fail;refine(Z a).mono ?_;rintro e g h;obtain⟨v,rfl⟩:=hs _ _ h;replace h:=J h;go_wp2_with fail;exact Z h
theorem Lf{fr:Nat×Nat}(h:w.heap[n]?=some (.cells c T fr))(v:Value):(w.setCell ⟨n,o,none⟩ v).heap[n]?=some (.cells (c.setIfInBounds o v) T fr):=by
 simp[World.setCell,Array.getElem?_modify,h]
theorem Lg(g n c:Nat)(cs:Array Value)(fr:Nat×Nat)(w:World)(f:w.heap[g]?=some (.cells cs 5 fr))(hs:n<=cs.size)(h:n<=fr.1)(p:n<=100000000):
 Calls prog 97 #[.slice (some ⟨g,0,none⟩) n c] w λe k=>e=.returned (.tuple #[])/\w.grownBy k (some g):=by
 go_enter func97,ntmps97;go_wp2;go_loopg [5] n (λl i wr=>∃j:Nat,j<=n/\l=n-j/\i=.int .i64 (j:Int)/\w.grownBy wr (some g)/\∃a,wr.heap[g]?=some (.cells a 5 fr)/\n<=a.size);case atStart=>exact⟨0,by omega,by omega,rfl,av _ _,cs,f,hs⟩
 case round=>
  obtain⟨j,q,rfl,rfl,d,a,b,m⟩:=hrel;by_cases r:j<n
  ·have s:wr.cell? ⟨g,j,none⟩=some (a.getD j undef):=by simp[World.cell?,b,Array.getD,show j<a.size by omega]
   have h:wr.frozen? ⟨g,j,none⟩=false:=by simp[World.frozen?,b];omega
   replace b:=J b;go_wp2;go_roundg (n-(j+1));case measure=>omega
   case rel=>exact⟨j+1,by omega,rfl,by go_num,aD d _ _ (.inr rfl),_,Lf (Z b) _,by simpa using m⟩
  go_wp2;refine dP (dj rfl _ _ _) rfl ?_;exact⟨rfl,d⟩
theorem Lh(w W:World)(s:ByteArray)(hs:s.size<=100000000)(a:W.heap[w.heap.size]?=(Lib.bytesWorld w 5 s).heap[w.heap.size]?)(c:Nat):
 Calls prog 97 #[.slice (some ⟨w.heap.size,0,none⟩) s.size c] W λe d=>e=.returned (.tuple #[])/\W.grownBy d (some w.heap.size):=by
 rw[Lib.bytesWorld_at_new]at a;have b:s.size<=(Lib.bytesCells w 5 s).size:=by unfold Lib.bytesCells;rw[Array.size_append,Array.size_map];exact Nat.le_add_right _ _
 exact Lg w.heap.size s.size c _ _ W a b b hs
def th(w:World)(ev:Value)(n p:Int):Prop:=(ev=bE n/\p= -1)\/∃F,ev=.iface 177 (.pointer (some ⟨F,0,none⟩))/\w.heap[F]?=some (.cells #[.int .i64 n,.int .i64 p] 182 (0,0))
theorem Li(w:World)(ev:Value)(n p:Int)(a:Laid w)(h:th w ev n p):Calls prog 39 #[ev] w λe b=>e=.returned (.tuple #[.int .i64 n,.int .i64 p])/\w.grownBy b none:=by
 obtain⟨rfl,rfl⟩|⟨F,rfl,hF⟩:=h
 unfold bE;split;rename_i h;subst h;exact td w;exact B8 n w a;exact Cb F n p w a hF
theorem Lj(n:Int)(w:World)(a:Laid w):Calls prog 35 #[bE n] w λe b=>e=.returned (.int .i64 n)/\w.grownBy b none:=by
 unfold bE;split;rename_i h;subst h;exact vq w;exact xL n w a
inductive aK where
 |aL (s:Sd)
 |shut (aF:Int) (l:List (List Int))
def vy(w:World)(sb:Nat)(A:Nat->Prop):aK->Prop
 |.aL s=>∃cs v,bg w 0 sb cs v s/\∀k,dQ sb v k->A k
 |.shut aF l=>aF≠0/\∃last a,iR w 0 sb aF last a/\a.map (·.2)=l/\∀k,rM sb last a k->A k
structure cE(w:World)(xb sb:Nat)(st:aK)(A:Nat->Prop):Prop where
 aG:w.heap[xb]?=some (.cells #[.pointer (some ⟨sb,0,none⟩)] 173 (0,0))
 side:vy w sb (λk=>A k/\k≠xb) st
 j8:A xb
 lt:∀k,A k->k<w.heap.size
 n0:¬A 0
theorem vy.other{st:aK}(h:vy w n S st)(C:ak w W P)(d:∀k,k<w.heap.size->P k->¬S k):vy W n S st:=by
 cases st with
 |aL s=>
  obtain⟨cs,v,H,a⟩:=h;exact⟨cs,v,H.other C (λk b e c=>d k b e (a k c)),a⟩
 |shut aF l=>
  obtain⟨f,last,g,H,e,a⟩:=h;exact⟨f,last,g,H.other C (λk b e c=>d k b e (a k c)),e,a⟩
theorem cE.other{st:aK}(h:cE w n i st S)(C:ak w W P)(b:∀k,k<w.heap.size->P k->¬S k):cE W n i st S:=
 ⟨(C.block n (aO.1 h.aG).1 (λe=>b n (h.lt n h.j8) e h.j8)).trans h.aG,h.side.other C (λk a e c=>b k a e c.1),h.j8,λk a=>bK (h.lt k a) C.size,h.n0⟩
theorem cE.ah{st:aK}(h:cE w n i st S)(g:w.grownBy W none):cE W n i st S:=h.other (ak.of g) (λk _ e=>by cases e)
theorem cE.cell{st:aK}(h:cE w n k st S):w.cell? ⟨n,0,none⟩=some (.pointer (some ⟨k,0,none⟩)):=by simp[World.cell?,h.aG]
def cJ(N:Nat)(w:World)(xb sb:Nat)(A:Nat->Prop)(st:aK)(a:World):Prop:=∃b,cE a xb sb st b/\(∀k,b k->A k\/N<=k)/\ak w a A
theorem cE.to{st:aK}(h:cE w n i st S)(g:w.grownBy W none){N:Nat}:cJ N w n i S st W:=⟨S,h.ah g,λk a=>.inl a,(ak.of g).mono (λk _ e=>by cases e)⟩
theorem cE.ng{g:Sd}(h:cE w n i (.aL X) P)(H:bg w 0 i c D X)(f:∀k,dQ i D k->P k/\k≠n)(T:dD w.heap.size w 0 i D g W):cJ w.heap.size w n i P (.aL g) W:=by
 obtain⟨m,j,S,d⟩:=T;have l:=h.lt n h.j8;refine⟨λk=>k=n\/dQ i j k,⟨(d.aq.block n l (λe=>(f n (.inl e)).2 rfl)).trans h.aG,⟨m,j,S,λk a=>⟨.inr a,λe=>?_⟩⟩,.inl rfl,λk a=>?_,λe=>?_⟩,λk a=>?_,d.aq.mono (λk _ e=>(f k (.inl e)).1)⟩
 subst e;obtain b|b:=d.ar k a
 exact(f k b).2 rfl;omega;obtain rfl|a:=a
 exact bK l d.aq.size;exact mT S.bd a;obtain e|e:=e
 exact h.n0 (e▸h.j8);obtain b|b:=d.ar 0 e
 exact h.n0 (f 0 b).1;omega;obtain rfl|a:=a
 exact .inl h.j8;obtain b|b:=d.ar k a
 exact .inl (f k b).1;exact .inr b
theorem Lk{b:List El}(h:iR w n i p x b)(a:rM i x b k):k<w.heap.size:=by
 obtain rfl|a|⟨e,he,rfl⟩:=a
 exact(aO.1 h.aG).1;exact(h.own.lt k a).2;exact h.at_.lt he
theorem Ll{b:List El}(h:iR w n i p x b)(a:rM i x b k):k=i\/n<=k:=by
 obtain rfl|a|⟨e,he,rfl⟩:=a
 exact .inl rfl;exact .inr (h.own.lt k a).1;exact .inr (h.at_.at_ e he).1
theorem cE.close{l:List (List Int)}(h:cE w n i (.aL X) P)(H:bg w 0 i c D X)(d:∀k,dQ i D k->P k/\k≠n)(m:p≠0)(T:iS w i D p l W):cJ w.heap.size w n i P (.shut p l) W:=by
 obtain⟨last,f,S,e,C⟩:=T;have j:=h.lt n h.j8;have q:=d i (.inl (.inl rfl));have g:∀k,rM i last f k->P k/\k≠n\/w.heap.size<=k:=λk a=>by
  obtain rfl|b:=Ll S a
  exact .inl q;exact .inr b
 refine⟨λk=>k=n\/rM i last f k,⟨(C.block n j (λe=>(d n (.inl e)).2 rfl)).trans h.aG,⟨m,last,f,S.low (mg _),e,λk a=>⟨.inr a,λe=>?_⟩⟩,.inl rfl,λk a=>?_,λe=>?_⟩,λk a=>?_,C.mono (λk _ e=>(d k (.inl e)).1)⟩
 obtain b|b:=g k a
 exact b.2 e;omega;obtain rfl|a:=a
 exact bK j C.size;exact Lk S a;obtain e|e:=e
 exact h.n0 (e▸h.j8);obtain b|b:=g 0 e
 exact h.n0 b.1;omega;obtain rfl|a:=a
 exact .inl h.j8;exact(g k a).imp And.left id
theorem cJ.other{st:aK}(h:cJ n w i j S st W)(C:ak W v P)(c:∀k,k<W.heap.size->P k->¬S k/\k<n/\w.heap.size<=k):cJ n w i j S st v:=by
 obtain⟨g,l,d,a⟩:=h;refine⟨g,l.other C (λk b e m=>?_),d,?_⟩
 have:=c k b e;obtain f|f:=d k m
 exact this.1 f;omega;refine⟨C.os.trans a.os,C.tape.trans a.tape,C.output.trans a.output,bC a.size C.size,λk b p=>?_⟩
 rw[C.block k (bK b a.size) (λe=>by have:=c k (bK b a.size) e;omega)];exact a.block k b p
theorem cJ.ah{st:aK}(h:cJ n w i j S st W)(g:W.grownBy v none):cJ n w i j S st v:=h.other (ak.of g) (λk _ e=>by cases e)
theorem cJ.pre{N:Nat}{st:aK}(g:W.grownBy w none)(h:cJ N w n i S st v):cJ N W n i S st v:=by
 obtain⟨a,b,c,d⟩:=h;exact⟨a,b,c,((ak.of g).trans d).mono (λk _ e=>e.elim (λe=>by cases e) id)⟩
theorem cJ.mono{st:aK}(h:cJ n w j l S st W)(a:i<=n):cJ i w j l S st W:=by
 obtain⟨b,c,d,e⟩:=h;exact⟨b,c,λk f=>(d k f).imp id (λh=>bC a h),e⟩
structure cF(s:Sd)(n:Nat):Prop where
 key:di s.key
 ao:64<=s.ao/\s.ao<=300
 ai:16<=s.ai/\s.ai<=1024
 out:∀k,k<4->eD (s.out k)
 oX:∀k,k<4->((s.out k).h.bytes.length:Int)<=s.ai
 aE:∀k,k<4->0<=(s.out k).aE/\(s.out k).aE<=4096
 code:∀k,k<4->0<=(s.out k).code/\(s.out k).code<=4611686018427387903
 aT:∀k,k<4->iD s.ai (s.aT k)
 pk:∀x∈s.az++s.lost,0<=x.st/\x.st<4/\∀p∈x.ps,jD p
 num:∀x∈s.az,0<=x.num/\x.num<=100*n
 fl:s.az.length<=10
 fp:∀x∈s.az,x.ps.length<=1000
 ft:∀x∈s.az,0<=x.tick/\x.tick<=s.tick
 tick:0<=s.tick/\s.tick<=n
 wait:0<=s.wait/\s.wait<=32
 cU:0<=s.count/\s.count<=100*n
 ll:s.lost.length+s.az.length<=100*n
 nd:aZ s.ag
 c8:s.ag.length<=8
 cr:∀r∈s.ag,0<=r.lo/\r.hi<=4611686018427387904
def eh(n:Nat):aK->Prop
 |.aL s=>cF s n
 |.shut _ l=>l.length<=1/\∀p∈l,(p.length:Int)<=300
theorem cF.xV(h:cF X n)(a:k<4):CI (X.out k):=⟨(h.out k a).nice,(h.out k a).en,h.aE k a,h.code k a,by have:=(h.out k a).cl;omega⟩
theorem cF.vA(h:cF X n):lJ X:=⟨h.key,by have:=h.ao;omega,λk a=>h.xV a,h.fl,h.fp⟩
theorem cF.CK(h:cF X n)(b:n<=100000):lE X:=⟨h.out,h.pk,λx a=>by have:=h.num x a;omega⟩
theorem cF.Lu(h:cF X n)(a:n<=100000):lZ X:=⟨by have:=h.ai;omega,h.aT,h.CK a,h.fl,by have:=h.ll;omega⟩
theorem aZ.pU(h:aZ (U::Y)):¬Sm (U::Y) U.hi:=by
 intro a;obtain c|⟨x,b,d,e⟩:=(fD U Y U.hi).1 a
 omega;have f:=(qM.1 h.1).1 x b;omega
theorem aZ.run(h:aZ (U::Y))(h0:0<=p)(b:U.lo=0)(hl:∀m,0<=m->m<p->Sm (U::Y) m):p<=U.hi:=by
 by_cases a:p<=U.hi;exact a;have:=h.2 U (by simp);exact absurd (hl U.hi (by omega) (by omega)) h.pU
theorem iD.whole(h:iD p E):0<=dK E.h/\dK E.h<=E.h.bytes.length:=by
 unfold dK;split;omega;rename_i b;cases a:E.h.ag with
 |nil=>rw[a]at b;simp at b
 |cons r t=>
  rw[a]at b;have e0:au (r::t) 0=r:=rfl;rw[e0]at b⊢;have c:=h.ok;rw[a]at c;have f:=c.2 r (by simp);have g:=h.jC r.lo (by rw[a];exact⟨r,by simp,fI _,f⟩);have i:=h.rQ (r.hi-1) (by rw[a];exact⟨r,by simp,by omega,by omega⟩);have d:E.given=false:=by
   cases d:E.given;rfl;have:=(h.tf d).1;rw[a]at this;cases this
  have e:=h.low d;rw[a]at e;have:=c.run h.fr (by omega) e;omega
def aK.write(st:aK)(k:Int)(l:List Int):Int×Int×aK:=
 match st with
 |.aL s=>if k<0\/4<=k then(0,2,st)else((s.write k.toNat l).1,(s.write k.toNat l).2.1,.aL (s.write k.toNat l).2.2)
 |.shut _ _=>(0,9,st)
def aK.finish(st:aK)(k:Int):Int×aK:=
 match st with
 |.aL s=>if k<0\/4<=k then(2,st)else((s.finish k.toNat).1,.aL (s.finish k.toNat).2)
 |.shut _ _=>(9,st)
def aK.giveUp(st:aK)(k code:Int):Int×aK:=
 match st with
 |.aL s=>if k<0\/4<=k then(2,st)else((s.giveUp k.toNat code).1,.aL (s.giveUp k.toNat code).2)
 |.shut _ _=>(9,st)
def aK.ag(st:aK)(k:Int):Int×Int:=
 match st with
 |.aL s=>if k<0\/4<=k then(0,2)else((s.out k.toNat).h.fr,0)
 |.shut _ _=>(0,9)
def aK.tick(st:aK):aK:=
 match st with
 |.aL s=>.aL s.jf
 |.shut _ _=>st
def aK.eY(st:aK):aK×List (List Int):=
 match st with
 |.aL s=>(.aL s.eY.1,s.eY.2)
 |.shut aF l=>(.shut aF [],l)
def aK.read(st:aK)(k bI:Int):List Int×Int×Int×Int×aK:=
 match st with
 |.aL s=>if k<0\/4<=k then([],0,0,2,st)else((s.aT k.toNat).out bI,(s.aT k.toNat).state bI,(s.aT k.toNat).pL,0,.aL {s with aT:=aw s.aT k.toNat ((s.aT k.toNat).read bI)})
 |.shut _ _=>([],0,0,9,st)
def aK.close(st:aK)(code:Int):Int×aK:=
 match st with
 |.aL s=>if 4611686018427387903<code then(3,st)else(0,.shut 9 (s.iu 9 code))
 |.shut _ _=>(9,st)
instance Qj(key:List Int)(s:Int)(p:List Int):Decidable (gV key s p):=by unfold gV;infer_instance
noncomputable def Sd.recv(s:Sd)(p:List Int):Int×Int×aK:=
 if¬gV s.key (sd (!s.first)) p then(4,-1,.aL s)
 else if iC s.ag s.floor (bN p)then(0,-1,.aL s)
 else match fU (eu s.key (sd (!s.first)) (bN p) (bQ p))with
  |(none,q)=>(5,q,.shut 5 (s.iu 5 5))
  |(some a,_)=>
   if a.any s.kC then(6,-1,.aL s)
   else if(gJ (s.dr (bN p) a) a).1=0 then(0,-1,.aL (gJ (s.dr (bN p) a) a).2)
   else((gJ (s.dr (bN p) a) a).1,-1,.shut (gJ (s.dr (bN p) a) a).1 ((gJ (s.dr (bN p) a) a).2.iu (gJ (s.dr (bN p) a) a).1 (gJ (s.dr (bN p) a) a).1))
noncomputable def aK.recv(st:aK)(p:List Int):Int×Int×aK:=
 match st with
 |.aL s=>s.recv p
 |.shut _ _=>(9,-1,st)
theorem nJ(h:p<0\/4<=p):dW 0 p=2:=by unfold dW;rw[ay (by simp),aM h]
theorem nK(h:p≠0):dW p q=9:=by unfold dW;rw[aM h]
theorem Lv(w:World)(xb sb:Nat)(st:aK)(A:Nat->Prop)(n:Nat)(h:cE w xb sb st A)(i:eh n st)(k:Int)(a:Option Addr)(m c:Nat)(l:List Int)(r:bh w a m c l):
 Calls prog 92 #[.pointer (some ⟨xb,0,none⟩),.int .i64 k,.slice a m c] w λe b=>e=.returned (.tuple #[.int .i64 (st.write k l).1,bE (st.write k l).2.1])/\cJ w.heap.size w xb sb A (st.write k l).2.2 b:=by
 refine KX w xb sb h.cell k _ _ (λe b t=>⟨_,_,t.1⟩) ?_;cases st with
 |aL s=>
  obtain⟨cs,v,H,u⟩:=h.side;unfold aK.write;by_cases d:k<0\/4<=k;simp only[aM d]
  refine(zY w sb 0 k _ H.ks (by rw[nJ d];decide)).mono ?_;rintro e b⟨rfl,g⟩;rw[nJ d];exact⟨rfl,h.to g⟩
  simp only[ay d]
  have j:k.toNat<4:=by omega
  have x:((k.toNat:Nat):Int)=k:=by omega
  have p:=i.out _ j;have f:=i.oX _ j;have y:=i.ai;have q:=p.en;unfold Ot.en at q;refine(x▸Gh w 0 sb cs v s H k.toNat j a m c l r p.nice ⟨f,by omega⟩ q).mono ?_;rintro e b⟨rfl,T⟩;exact⟨rfl,h.ng H u T⟩
 |shut aF z=>
  obtain⟨f,last,B,H,-,-⟩:=h.side;refine(zY w sb aF k _ H.dq (by rw[nK f];decide)).mono ?_;rintro e b⟨rfl,g⟩;rw[nK f];exact⟨rfl,h.to g⟩
theorem Lw(w:World)(xb sb:Nat)(st:aK)(A:Nat->Prop)(h:cE w xb sb st A)(k:Int):
 Calls prog 93 #[.pointer (some ⟨xb,0,none⟩),.int .i64 k] w λe a=>e=.returned (bE (st.finish k).1)/\cJ w.heap.size w xb sb A (st.finish k).2 a:=by
 refine KY w xb sb h.cell k _ (λe a d=>⟨_,d.1⟩) ?_;cases st with
 |aL s=>
  obtain⟨cs,v,H,f⟩:=h.side;unfold aK.finish;by_cases b:k<0\/4<=k;simp only[aM b]
  refine(zZ w sb 0 k H.ks (by rw[nJ b];decide)).mono ?_;rintro e a⟨rfl,g⟩;rw[nJ b];exact⟨rfl,h.to g⟩
  simp only[ay b]
  have i:k.toNat<4:=by omega
  have j:((k.toNat:Nat):Int)=k:=by omega
  refine(j▸Gi w 0 sb cs v s H k.toNat i).mono ?_;rintro e a⟨rfl,T⟩;exact⟨rfl,h.ng H f T⟩
 |shut aF l=>
  obtain⟨c,last,m,H,-,-⟩:=h.side;refine(zZ w sb aF k H.dq (by rw[nK c];decide)).mono ?_;rintro e a⟨rfl,g⟩;rw[nK c];exact⟨rfl,h.to g⟩
theorem Lx(w:World)(xb sb:Nat)(st:aK)(A:Nat->Prop)(h:cE w xb sb st A)(k code:Int)(d:aR code):
 Calls prog 94 #[.pointer (some ⟨xb,0,none⟩),.int .i64 k,.int .u64 code] w λe a=>e=.returned (bE (st.giveUp k code).1)/\cJ w.heap.size w xb sb A (st.giveUp k code).2 a:=by
 refine KZ w xb sb h.cell k code _ (λe a f=>⟨_,f.1⟩) ?_;cases st with
 |aL s=>
  obtain⟨cs,v,H,i⟩:=h.side;unfold aK.giveUp;by_cases b:k<0\/4<=k;simp only[aM b]
  refine(z9 w sb 0 k code H.ks (by rw[nJ b];decide)).mono ?_;rintro e a⟨rfl,g⟩;rw[nJ b];exact⟨rfl,h.to g⟩
  simp only[ay b]
  have j:k.toNat<4:=by omega
  have l:((k.toNat:Nat):Int)=k:=by omega
  refine(l▸Gk w 0 sb cs v s H k.toNat j code d).mono ?_;rintro e a⟨rfl,T⟩;exact⟨rfl,h.ng H i T⟩
 |shut aF m=>
  obtain⟨c,last,n,H,-,-⟩:=h.side;refine(z9 w sb aF k code H.dq (by rw[nK c];decide)).mono ?_;rintro e a⟨rfl,g⟩;rw[nK c];exact⟨rfl,h.to g⟩
theorem Ly(w:World)(xb sb:Nat)(st:aK)(A:Nat->Prop)(n:Nat)(h:cE w xb sb st A)(i:eh n st)(k:Int):
 Calls prog 101 #[.pointer (some ⟨xb,0,none⟩),.int .i64 k] w λe a=>e=.returned (.tuple #[.int .i64 (st.ag k).1,bE (st.ag k).2])/\w.grownBy a none:=by
 refine K0 w xb sb h.cell k _ (λe a j=>⟨_,_,j.1⟩) ?_;cases st with
 |aL s=>
  obtain⟨cs,v,H,p⟩:=h.side;unfold aK.ag;by_cases b:k<0\/4<=k;simp only[aM b]
  refine(Aa w sb 0 k H.ks (by rw[nJ b];decide)).mono ?_;rintro e a⟨rfl,g⟩;rw[nJ b];exact⟨rfl,g⟩
  simp only[ay b]
  have c:k.toNat<4:=by omega
  have l:((k.toNat:Nat):Int)=k:=by omega
  have d:=i.out _ c;have m:=d.en;unfold Ot.en at m;refine(l▸Gl w 0 sb cs v s H k.toNat c ⟨d.fr,by omega⟩).mono ?_;rintro e a⟨rfl,T⟩;exact⟨rfl,T⟩
 |shut aF q=>
  obtain⟨f,last,r,H,-,-⟩:=h.side;refine(Aa w sb aF k H.dq (by rw[nK f];decide)).mono ?_;rintro e a⟨rfl,g⟩;rw[nK f];exact⟨rfl,g⟩
theorem LA(w:World)(xb sb:Nat)(st:aK)(A:Nat->Prop)(n:Nat)(h:cE w xb sb st A)(a:eh n st)(j:n<=100000):
 Calls prog 95 #[.pointer (some ⟨xb,0,none⟩)] w λe b=>e=.returned (.tuple #[])/\cJ w.heap.size w xb sb A st.tick b:=by
 refine K9 w xb sb h.cell _ (λe b c=>c.1) ?_;cases st with
 |aL s=>
  obtain⟨cs,v,H,d⟩:=h.side;have k:=a.fl;have l:=a.ll;have m:=a.tick;refine(Gn w 0 sb cs v s H ⟨by omega,by omega⟩ (by omega) (λx f=>by have:=a.ft x f;omega) (by have:=a.wait;omega)).mono ?_;rintro e b⟨rfl,T⟩;exact⟨rfl,h.ng H d T⟩
 |shut aF p=>
  obtain⟨i,last,q,H,-,-⟩:=h.side;refine(Gp w sb aF H.dq i).mono ?_;rintro e b⟨rfl,g⟩;exact⟨rfl,h.to g⟩
theorem LC(w:World)(xb sb:Nat)(st:aK)(A:Nat->Prop)(n:Nat)(h:cE w xb sb st A)(c:eh n st)(l:n<=100000)(code:Int)(d:aR code):
 Calls prog 100 #[.pointer (some ⟨xb,0,none⟩),.int .u64 code] w λe a=>e=.returned (bE (st.close code).1)/\cJ w.heap.size w xb sb A (st.close code).2 a:=by
 refine Le w xb sb h.cell code _ (λe a f=>⟨_,f.1⟩) ?_;cases st with
 |aL s=>
  obtain⟨cs,v,H,i⟩:=h.side;unfold aK.close;by_cases b:4611686018427387903<code;simp only[aM b]
  refine(JM w sb code H.ks b).mono ?_;rintro e a⟨rfl,g⟩;exact⟨rfl,h.to g⟩
  simp only[ay b]
  have j:=c.cU;refine(JN w 0 sb cs v s H c.key ⟨j.1,by omega⟩ code ⟨d.1,by omega⟩).mono ?_;rintro e a⟨rfl,T⟩;exact⟨rfl,h.close H i (by decide) T⟩
 |shut aF m=>
  obtain⟨k,last,p,H,-,-⟩:=h.side;refine(JL w sb aF code H.dq k).mono ?_;rintro e a⟨rfl,g⟩;exact⟨rfl,h.to g⟩
theorem LD(w:World)(xb sb:Nat)(st:aK)(A:Nat->Prop)(n:Nat)(h:cE w xb sb st A)(t:eh n st)(k bI:Int):
 Calls prog 99 #[.pointer (some ⟨xb,0,none⟩),.int .i64 k,.int .i64 bI] w λe d=>∃a m c,e=.returned (.tuple #[.slice a m c,.int .i64 (st.read k bI).2.1,.int .u64 (st.read k bI).2.2.1,bE (st.read k bI).2.2.2.1])/\aX d w.heap.size (.slice a m c) (st.read k bI).1/\∃b,cE d xb sb (st.read k bI).2.2.2.2 b/\(∀k,b k->A k\/w.heap.size<=k)/\ak w d A/\∀j,(Value.slice a m c).ownBlock=some j->¬b j:=by
 refine Lc w xb sb h.cell k bI _ (λe d r=>?_) ?_;obtain⟨a,m,c,r,-⟩:=r;exact⟨a,m,c,_,_,_,r⟩
 cases st with
 |aL s=>
  obtain⟨cs,v,H,C⟩:=h.side;unfold aK.read;by_cases f:k<0\/4<=k;simp only[aM f]
  refine(Ab w sb 0 k bI H.ks (by rw[nJ f];decide)).mono ?_;rintro e d⟨rfl,g⟩;rw[nJ f];obtain⟨b,l,i,p⟩:=h.to (N:=w.heap.size) g;exact⟨none,0,0,rfl,aX.nil _ _,b,l,i,p,λj e=>by cases e⟩
  simp only[ay f]
  have u:k.toNat<4:=by omega
  have D:((k.toNat:Nat):Int)=k:=by omega
  have x:=t.aT _ u;refine(D▸Gm w 0 sb cs v s H k.toNat u bI (x.nice t.ai.2) x.whole).mono ?_;rintro e d⟨a,m,c,rfl,y,G,q,E,T⟩;obtain⟨b,l,i,p⟩:=(h.ah q).ng (H.ah q) C T;have I:=q.size;refine⟨a,m,c,rfl,y,b,l,λk f=>(i k f).imp id (λh=>by omega),((ak.of q).trans p).mono (λk _ e=>e.elim (λe=>by cases e) id),λj e F=>?_⟩
  have K:=E j e;have L:=(y.lt j e).1;obtain z|z:=i j F
  have:=h.lt j z;omega;omega
 |shut aF M=>
  obtain⟨B,last,O,H,-,-⟩:=h.side;refine(Ab w sb aF k bI H.dq (by rw[nK B];decide)).mono ?_;rintro e d⟨rfl,g⟩;rw[nK B];obtain⟨b,l,i,p⟩:=h.to (N:=w.heap.size) g;exact⟨none,0,0,rfl,aX.nil _ _,b,l,i,p,λj e=>by cases e⟩
def LF(w:World)(xb sb:Nat)(st:aK)(A:Nat->Prop)(e:Ending)(b:World):Prop:=
 ∃a n c d f,e=.returned (.slice a n c)/\dZ b 0 (.slice a n c) d/\gI b 0 d/\d.map (·.2)=st.eY.2/\cE b xb sb st.eY.1 f/\(∀k,f k->A k\/w.heap.size<=k)/\ak w b A/\∀e∈d,¬f e.1/\(Value.slice a n c).ownBlock≠some e.1/\(A e.1\/w.heap.size<=e.1)
theorem cE.LG{j:Sd}{f:aQ}(h:cE w n i (.aL X) P)(g:∀k,dQ i D k->P k/\k≠n)(S:bg W 0 i c f j)(d:cP w.heap.size w W i D f):cE W n i (.aL j) (λk=>k=n\/dQ i f k)/\(∀k,(k=n\/dQ i f k)->P k\/w.heap.size<=k)/\ak w W P:=by
 have l:=h.lt n h.j8;refine⟨⟨(d.aq.block n l (λe=>(g n (.inl e)).2 rfl)).trans h.aG,⟨c,f,S,λk a=>⟨.inr a,λe=>?_⟩⟩,.inl rfl,λk a=>?_,λe=>?_⟩,λk a=>?_,d.aq.mono (λk _ e=>(g k (.inl e)).1)⟩
 subst e;obtain b|b:=d.ar k a
 exact(g k b).2 rfl;omega;obtain rfl|a:=a
 exact bK l d.aq.size;exact mT S.bd a;obtain e|e:=e
 exact h.n0 (e▸h.j8);obtain b|b:=d.ar 0 e
 exact h.n0 (g 0 b).1;omega;obtain rfl|a:=a
 exact .inl h.j8;obtain b|b:=d.ar k a
 exact .inl (g k b).1;exact .inr b
theorem LH(w:World)(xb sb:Nat)(st:aK)(A:Nat->Prop)(n:Nat)(h:cE w xb sb st A)(j:eh n st)(F:n<=100000):
 Calls prog 96 #[.pointer (some ⟨xb,0,none⟩)] w (LF w xb sb st A):=by
 refine La w xb sb h.cell _ (λe q r=>?_) ?_;obtain⟨a,n,c,-,-,r,-⟩:=r;exact⟨_,r⟩
 cases st with
 |aL s=>
  obtain⟨cs,v,H,l⟩:=h.side;have z:=j.cU;refine(Lt w 0 sb cs v s H j.vA ⟨z.1,by omega⟩ j.c8 j.nd j.cr).mono ?_;rintro e q⟨a,n,c,G,I,m,rfl,S,B,L,t⟩;obtain⟨u,p,D⟩:=h.LG l S B;refine⟨a,n,c,m,_,rfl,L.own.low (mg _),⟨λe b=>⟨mg _,(L.at_.at_ e b).2⟩,L.at_.sep⟩,t,u,p,D,λe b=>⟨λd=>?_,L.s5 e b,.inr (L.at_.at_ e b).1⟩⟩
  obtain d|d:=d
  have K:=(L.at_.at_ e b).1;have M:=h.lt xb h.j8;omega;exact L.ae e b d
 |shut aF N=>
  obtain⟨x,last,m,H,t,l⟩:=h.side;have y:=h.lt xb h.j8;have i:=l sb (.inl rfl);refine(JQ w 0 sb aF last m H x).mono ?_;rintro e q⟨a,n,c,rfl,S,O,E,u,p,g⟩;have C:ak w q (λk=>k=sb):=(ak.of g).mono (λk _ e=>(aJ e).symm);refine⟨a,n,c,m,λk=>k=xb\/k=sb,rfl,O,E,t,⟨(C.block xb y (λe=>i.2 e.symm)).trans h.aG,⟨x,_,[],S,rfl,λk f=>?_⟩,.inl rfl,λk f=>?_,λe=>?_⟩,λk f=>?_,C.mono (λk _ e=>by rw[e];exact i.1),λe b=>⟨λd=>?_,(p e b).2,.inl (l e.1 (.inr (.inr ⟨e,b,rfl⟩))).1⟩⟩
  obtain rfl|f|⟨e,b,-⟩:=f
  exact⟨.inr rfl,i.2⟩
  cases f;cases b;obtain rfl|rfl:=f
  exact bK y C.size;exact bK (h.lt _ i.1) C.size;obtain e|e:=e
  exact h.n0 (e▸h.j8);exact h.n0 (e▸i.1);obtain rfl|rfl:=f
  exact .inl h.j8;exact .inl i.1;obtain d|d:=d
  exact(l e.1 (.inr (.inr ⟨e,b,rfl⟩))).2 d;exact(p e b).1 d
theorem LI(w:World)(xb sb:Nat)(st:aK)(A:Nat->Prop)(n:Nat)(h:cE w xb sb st A)(j:eh n st)(x:n<=100000)(y:Laid w)(a:Option Addr)(m c:Nat)(p:List Int)(z:bh w a m c p):
 Calls prog 98 #[.pointer (some ⟨xb,0,none⟩),.slice a m c] w λe b=>∃ev,e=.returned ev/\th b ev (st.recv p).1 (st.recv p).2.1/\(∀F,ev=.iface 177 (.pointer (some ⟨F,0,none⟩))->w.heap.size<=F)/\cJ w.heap.size w xb sb A (st.recv p).2.2 b:=by
 refine Lb w xb sb h.cell _ _ (λe b u=>?_) ?_;obtain⟨ev,u,-⟩:=u;exact⟨_,u⟩
 have r:∀(n:Int) F,bE n=.iface 177 (.pointer (some ⟨F,0,none⟩))->w.heap.size<=F:=λn F e=>by
  unfold bE at e;split at e;cases e;have:=(Value.iface.inj e).1;simp at this
 cases st with
 |aL s=>
  obtain⟨cs,v,H,f⟩:=h.side;have B:=j.cU;have E:=j.ll;refine(KR w 0 sb cs v s p H j.key (j.Lu x) (by omega) ⟨B.1,by omega⟩ j.nd j.c8 y (λe=>h.n0 (f 0 (.inl e)).1) a m c z).mono ?_;show∀e b,rT w 0 sb v s p e b->∃ev,e=.returned ev/\th b ev (s.recv p).1 (s.recv p).2.1/\(∀F,ev=.iface 177 (.pointer (some ⟨F,0,none⟩))->w.heap.size<=F)/\cJ w.heap.size w xb sb A (s.recv p).2.2 b;rintro e b(⟨d,rfl,T⟩|⟨d,i,rfl,T⟩|⟨d,i,q,F,k,rfl,hF,C,T⟩|⟨d,i,G,k,⟨l,rfl,T⟩|⟨l,t,rfl,T⟩|⟨l,t,rfl,T⟩⟩);unfold Sd.recv;rw[aM d];exact⟨_,rfl,.inl ⟨rfl,rfl⟩,r 4,h.ng H f T⟩
  unfold Sd.recv;rw[ay (by simpa using d),aM i];exact⟨_,rfl,.inl ⟨rfl,rfl⟩,λF e=>(by cases e),h.ng H f T⟩
  unfold Sd.recv;rw[ay (by simpa using d),ay (by rw[i];decide),k];refine⟨_,rfl,.inr ⟨F,rfl,C⟩,λI e=>?_,h.close H f (by decide) T⟩
  have e2:=(Value.iface.inj e).2;cases e2;exact hF;unfold Sd.recv;rw[ay (by simpa using d),ay (by rw[i];decide),k];simp only[aM l]
  exact⟨_,rfl,.inl ⟨rfl,rfl⟩,r 6,h.ng H f T⟩
  unfold Sd.recv;rw[ay (by simpa using d),ay (by rw[i];decide),k];simp only[l,gM,gp,aM t]
  exact⟨_,rfl,.inl ⟨rfl,rfl⟩,λF e=>(by cases e),h.ng H f T⟩
  unfold Sd.recv;rw[ay (by simpa using d),ay (by rw[i];decide),k];simp only[l,gM,gp,ay t]
  exact⟨_,rfl,.inl ⟨rfl,rfl⟩,r _,h.close H f t T⟩
 |shut aF K=>
  obtain⟨D,last,L,H,-,-⟩:=h.side;refine(KS w sb aF H.dq D _).mono ?_;rintro e b⟨rfl,g⟩;exact⟨_,rfl,.inl ⟨rfl,rfl⟩,r 9,h.to g⟩
def vB(w:World)(ao ai:Int)(key:List Int)(f:Bool)(bad:Value)(b:Value->Value)(e:Ending)(a:World):Prop:=
 w.grownBy a none/\((¬kD ao ai/\e=.returned bad)\/(kD ao ai/\∃xb sb A,e=.returned (b (.pointer (some ⟨xb,0,none⟩)))/\(∀k,A k->w.heap.size<=k)/\cE a xb sb (.aL (Sd.new ao ai key f)) A))
theorem LJ(w:World)(ao ai:Int)(key:List Int)(d:di key)(f:Bool)(F:0<w.heap.size):
 Calls prog 34 #[.agg #[.int .i64 ao,.int .i64 ai],.agg (b9 key),.bool f] w (vB w ao ai key f (.tuple #[.pointer none,bE 1]) (λv=>.tuple #[v,.nilIface])):=by
 obtain⟨R,p⟩:=exq (vB w ao ai key f (.tuple #[.pointer none,bE 1]) (λv=>.tuple #[v,.nilIface]));rw[<-p];replace p:=J p;have t:=mY d;obtain⟨b,j⟩:=exq ((w.alloc (.cells #[.int .i64 ao,.int .i64 ai] 28)).alloc (.cells (b9 key) 24));have u:w.grownBy b none:=by rw[j];exact aj (aC _ _ _) (aC _ _ _)
 have l:b.heap[w.heap.size]?=some (.cells #[.int .i64 ao,.int .i64 ai] 28 (0,0)):=by rw[j];exact bf (aH _ _) (aC _ _ _)
 have m:b.heap[w.heap.size+1]?=some (.cells (b9 key) 24 (0,0)):=by
  have:=aH (w.alloc (.cells #[.int .i64 ao,.int .i64 ai] 28)) (.cells (b9 key) 24);rw[dC]at this;rw[j];exact this
 have c0:b.cell? ⟨w.heap.size,0,none⟩=some (.int .i64 ao):=by simp[World.cell?,l]
 have c1:b.cell? ⟨w.heap.size,1,none⟩=some (.int .i64 ai):=by simp[World.cell?,l]
 have G:prog.cellsOf 24=16:=by kernel_rfl
 by_cases h:kD ao ai
 ·have r:=J (KV b ao ai key d f h);have s:=J (λ(a:World)(sb:Nat)(g:b.grownBy a none)(hs:b.heap.size<=sb)(q:a.heap[sb]?=some (.cells (fF ao ai (bv key) f 4 0 (.slice none 0 0)).toArray 241 (0,0)))=>(show R (.returned (.tuple #[.pointer (some ⟨a.heap.size,0,none⟩),.nilIface])) (a.alloc (.cells #[.pointer (some ⟨sb,0,none⟩)] 173)) by
   rw[Z p];have B:=aC a (.cells #[.pointer (some ⟨sb,0,none⟩)] 173) none;have H:=u.size;have I:=g.size;have eS:=(aO.1 q).1;have L:(a.alloc (.cells #[.pointer (some ⟨sb,0,none⟩)] 173)).heap.size=a.heap.size+1:=dC _ _;have C:∀k,dQ sb aQ.new k->k=sb:=λk d=>by
    obtain(D|⟨i,-,e⟩)|⟨i,y,n,c,-,e,-⟩|⟨x,E,-⟩:=d
    exact D;cases e;cases e;cases E
   refine⟨aj u (aj g B),.inr ⟨h,a.heap.size,sb,λk=>k=a.heap.size\/k=sb,rfl,λk d=>(by omega),⟨aH _ _,⟨_,aQ.new,KW d (bf q B) (mg _),λk d=>?_⟩,.inl rfl,λk d=>(by omega),λe=>(by omega)⟩⟩⟩
   rw[C k d];exact⟨.inr rfl,by omega⟩))
  generalize b9 key=K at *;replace l:=J l;replace m:=J m;clear h;go_enter func34,ntmps34;go_upto_region 1 with fail;rw[<-j];clear j;go_wp2_with (refine oy _ (by rfl) (by rfl) _ (by rfl) K ?_ t ?_;exact Z m);refine(Z r).mono ?_;rintro e a⟨sb,rfl,hs,q,z⟩;have A:=J (Z s a sb z hs q);clear q hs;go_wp2_with fail;exact Z A
 have r:=J (KT b ao ai _ t f h);have s:=J (λ(a:World)(g:b.grownBy a none)=>(show R (.returned (.tuple #[.pointer none,bE 1])) a by
  rw[Z p];exact⟨aj u g,.inl ⟨h,rfl⟩⟩))
 rw[show bE 1=.iface 34 (.int .i64 1)from rfl]at r s;generalize b9 key=K at *;replace l:=J l;replace m:=J m;clear h;go_enter func34,ntmps34;go_upto_region 1 with fail;rw[<-j];clear j;go_wp2_with (refine oy _ (by rfl) (by rfl) _ (by rfl) K ?_ t ?_;exact Z m);refine(Z r).mono ?_;rintro e a⟨rfl,z⟩;have A:=J (Z s a z);go_wp2_with fail;exact Z A
theorem LK(w:World)(ao ai:Int)(key:List Int)(i:di key)(f:Bool)(j:Laid w):
 Calls prog 12 #[.agg #[.int .i64 ao,.int .i64 ai],.agg (b9 key),.bool f] w (vB w ao ai key f (.tuple #[.pointer none,.int .i64 1]) (λv=>.tuple #[v,.int .i64 0])):=by
 obtain⟨R,b⟩:=exq (vB w ao ai key f (.tuple #[.pointer none,.int .i64 1]) (λv=>.tuple #[v,.int .i64 0]));rw[<-b];replace b:=J b;have y:=mY i;obtain⟨a,c⟩:=exq ((w.alloc (.cells #[.int .i64 ao,.int .i64 ai] 28)).alloc (.cells (b9 key) 24));have d:w.grownBy a none:=by rw[c];exact aj (aC _ _ _) (aC _ _ _)
 have l:a.heap[w.heap.size]?=some (.cells #[.int .i64 ao,.int .i64 ai] 28 (0,0)):=by rw[c];exact bf (aH _ _) (aC _ _ _)
 have n:a.heap[w.heap.size+1]?=some (.cells (b9 key) 24 (0,0)):=by
  have:=aH (w.alloc (.cells #[.int .i64 ao,.int .i64 ai] 28)) (.cells (b9 key) 24);rw[dC]at this;rw[c];exact this
 have c0:a.cell? ⟨w.heap.size,0,none⟩=some (.int .i64 ao):=by simp[World.cell?,l]
 have c1:a.cell? ⟨w.heap.size,1,none⟩=some (.int .i64 ai):=by simp[World.cell?,l]
 have D:prog.cellsOf 24=16:=by kernel_rfl
 have s:=J (LJ a ao ai key i f (bK j.lt d.size));have t:=J (λ(h:World)(g:w.grownBy h none)=>Lj 1 h (j.gb g (by simp)));have z:=J (λ(h:World)=>vq h);rw[show bE 1=.iface 34 (.int .i64 1)from rfl]at s t;generalize b9 key=K at *;replace l:=J l;replace n:=J n;replace j:=J j;go_enter func12,ntmps12;go_upto_region 1 with fail;rw[<-c];clear c;go_wp2_with (refine oy _ (by rfl) (by rfl) _ (by rfl) K ?_ y ?_;exact Z n);refine(Z s).mono ?_;rintro e h⟨p,⟨B,rfl⟩|⟨C,xb,sb,A,rfl,u,x⟩⟩
 ·go_wp2_with fail;refine(Z t _ (aj d p)).mono ?_;rintro e q⟨rfl,m⟩;have r:Hid (R (.returned (.tuple #[.pointer none,.int .i64 1])) q):=J (by rw[Z b];exact⟨aj d (aj p m),.inl ⟨B,rfl⟩⟩);go_wp2_with fail;exact Z r
 go_wp2_with fail;refine(Z z _).mono ?_;rintro e q⟨rfl,m⟩;have r:Hid (R (.returned (.tuple #[.pointer (some ⟨xb,0,none⟩),.int .i64 0])) q):=J (by rw[Z b];exact⟨aj d (aj p m),.inr ⟨C,xb,sb,A,rfl,λk i=>bC d.size (u k i),x.ah m⟩⟩);clear x u;go_wp2_with fail;exact Z r
structure gK where
 op:Int
 stream:Int
 n:Int
 code:Int
 data:ByteArray
def dc(q:gK):Array Value:= #[.int .i64 q.op,.int .i64 q.stream,.int .i64 q.n,.int .u64 q.code,.string q.data]
structure Rs where
 e:Int
 at_:Int
 n:Int
 code:Int
 data:List Int
 eY:List (List Int)
noncomputable def aK.do(st:aK)(q:gK):Rs×aK:=
 if q.op=1 then(⟨(st.write q.stream (bl q.data)).2.1,-1,(st.write q.stream (bl q.data)).1,0,[],[]⟩,(st.write q.stream (bl q.data)).2.2)
 else if q.op=2 then(⟨(st.finish q.stream).1,-1,0,0,[],[]⟩,(st.finish q.stream).2)
 else if q.op=3 then(⟨(st.giveUp q.stream q.code).1,-1,0,0,[],[]⟩,(st.giveUp q.stream q.code).2)
 else if q.op=4 then(⟨0,-1,0,0,[],[]⟩,st.tick)
 else if q.op=5 then(⟨0,-1,0,0,[],st.eY.2⟩,st.eY.1)
 else if q.op=6 then(⟨(st.recv (bl q.data)).1,(st.recv (bl q.data)).2.1,0,0,[],[]⟩,(st.recv (bl q.data)).2.2)
 else if q.op=7 then(⟨(st.read q.stream q.n).2.2.2.1,-1,(st.read q.stream q.n).2.1,(st.read q.stream q.n).2.2.1,(st.read q.stream q.n).1,[]⟩,(st.read q.stream q.n).2.2.2.2)
 else if q.op=8 then(⟨(st.close q.code).1,-1,0,0,[],[]⟩,(st.close q.code).2)
 else if q.op=9 then(⟨(st.ag q.stream).2,-1,(st.ag q.stream).1,0,[],[]⟩,st)
 else(⟨0,-1,0,0,[],[]⟩,st)
def fx(w:World)(a:Nat)(v:Value)(l:List (List Int)):Prop:=w.ownsRow a 9 1 v l.length (l.map λp=>.string (strOfNums p))
theorem fx.nil(w:World)(a:Nat):fx w a (.slice none 0 0) []:=mI _ _ _ _
def iE(w:World)(xb sb:Nat)(A:Nat->Prop)(r:Rs×aK)(e:Ending)(b:World):Prop:=
 ∃a n c,e=.returned (.tuple #[.int .i64 r.1.e,.int .i64 r.1.at_,.int .i64 r.1.n,.int .u64 r.1.code,.string (strOfNums r.1.data),.slice a n c])/\fx b w.heap.size (.slice a n c) r.1.eY/\∃d,cE b xb sb r.2 d/\(∀k,d k->A k\/w.heap.size<=k)/\ak w b A/\∀j,(Value.slice a n c).ownBlock=some j->¬d j
theorem qy:strOfNums []=⟨#[]⟩:=rfl
structure iw(w:World)(q:gK)(c a:World):Prop where
 e1:c=w.alloc (.cells (dc q) 32)
 e2:a=Lib.bytesWorld c 5 q.data
 g:w.grownBy a none
 z:c.heap.size=w.heap.size+1
 z2:a.heap.size=w.heap.size+2
 b:a.heap[w.heap.size]?=some (.cells (dc q) 32 (0,0))
theorem iw.mk'(w:World)(q:gK):∃a b,iw w q a b:=by
 refine⟨_,_,rfl,rfl,aj (aC _ _ _) (vW _ _),dC _ _,by rw[Lib.bytesWorld_size,dC],bf (aH _ _) (vW _ _)⟩
theorem iw.fin{a b:World}{q:gK}(D:iw w q W v){st:aK}(c:∀k,S k->k<w.heap.size)(T:cJ v.heap.size v n i S st V)(d:V.grownBy a (some (w.heap.size+1)))(f:a.grownBy b none):cJ w.heap.size w n i S st b:=by
 have l:=D.z2;have h:cJ v.heap.size w n i S st a:=(T.pre D.g).other (ak.of d) (λk _ e=>by
  have:=aJ e;exact⟨λj=>by have:=c k j;omega,by omega,by omega⟩)
 exact(h.ah f).mono (by omega)
theorem iw.post{q:gK}(f:iw w q W v){r:Rs×aK}(hd:r.1.data=[])(hp:r.1.eY=[])(T:cJ w.heap.size w k i S r.2 V):iE w k i S r (.returned (.tuple #[.int .i64 r.1.e,.int .i64 r.1.at_,.int .i64 r.1.n,.int .u64 r.1.code,.string ⟨#[]⟩,.slice none 0 0])) V:=by
 obtain⟨a,b,c,d⟩:=T;exact⟨none,0,0,by rw[hd];rfl,by rw[hp];exact fx.nil _ _,a,b,c,d,λj e=>by cases e⟩
theorem iw.kU{q:gK}(D:iw w q W v)(a:∀k,S k->k<w.heap.size)(C:ak v V S)(hd:q.data.size<=1000000)(c:Nat):
 Calls prog 97 #[.slice (some ⟨w.heap.size+1,0,none⟩) q.data.size c] V λe b=>e=.returned (.tuple #[])/\V.grownBy b (some (w.heap.size+1)):=by
 have:=Lh W V q.data (by omega) (by rw[C.block _ (by rw[D.z,D.z2];omega) (λd=>by have:=a _ d;rw[D.z]at this;omega),D.e2]) c;rw[D.z]at this;exact this
theorem iw.bs{q:gK}(D:iw w q W v)(hd:q.data.size<=1000000):bh v (some ⟨w.heap.size+1,0,none⟩) q.data.size (grownCap W q.data.size 0 5) (bl q.data):=by
 have:=yN W q.data (by omega);rw[D.z,<-D.e2]at this;exact this
theorem iw.told{a:World}{q:gK}(D:iw w q W v)(h0:¬S 0)(d:Laid w)(C:ak v V S)(c:V.grownBy a (some (w.heap.size+1))){ev:Value}{n p:Int}(b:th V ev n p)(hF:∀F,ev=.iface 177 (.pointer (some ⟨F,0,none⟩))->v.heap.size<=F):
 Calls prog 39 #[ev] a λe f=>e=.returned (.tuple #[.int .i64 n,.int .i64 p])/\a.grownBy f none:=by
 have h:=D.z2;refine Li a ev n p (((d.gb D.g (by simp)).aq C h0).gb c (by simp)) ?_;obtain b|⟨F,e,aa⟩:=b
 exact .inl b;have i:=hF F e;exact .inr ⟨F,e,(c.block F (aO.1 aa).1 (by simp only[ne_eq,kM];omega)).trans aa⟩
theorem qz(e:bE p=.iface 177 (.pointer (some ⟨i,0,none⟩))):k<=i:=by
 unfold bE at e;split at e;cases e;have:=(Value.iface.inj e).1;simp at this
theorem LL(w:World)(xb sb:Nat)(st:aK)(A:Nat->Prop)(n:Nat)(h:cE w xb sb st A)(M:eh n st)(N:n<=100000)(m:Laid w)(q:gK)(x:aR q.code)(y:q.op=2)(hd:q.data.size<=1000000):
 Calls prog 60 #[.pointer (some ⟨xb,0,none⟩),.agg (dc q)] w (iE w xb sb A (st.do q)):=by
 obtain⟨R,j⟩:=exq (iE w xb sb A (st.do q));rw[<-j];obtain⟨H,a,D⟩:=iw.mk' w q;have k:=J (Lw a xb sb st A (h.ah D.g) q.stream);have s:=J (λ(c:World)(T:cJ a.heap.size a xb sb A ((st.finish q.stream).2) c)=>D.kU h.lt T.choose_spec.2.2 hd);have l:=J (λ(c d:World)(T:cJ a.heap.size a xb sb A ((st.finish q.stream).2) c)(f:c.grownBy d (some (w.heap.size+1)))=>D.told h.n0 m T.choose_spec.2.2 f (ev:=bE ((st.finish q.stream).1)) (n:=(st.finish q.stream).1) (p:= -1) (.inl ⟨rfl,rfl⟩) (λF e=>qz e));have t:=J (λ(c d i:World)(T:cJ a.heap.size a xb sb A ((st.finish q.stream).2) c)(f:c.grownBy d (some (w.heap.size+1)))(u:d.grownBy i none)=>(show R (.returned (.tuple #[.int .i64 ((st.finish q.stream).1),.int .i64 (-1),.int .i64 (0),.int .u64 0,.string ⟨#[]⟩,.slice none 0 0])) i by
  have e:st.do q=(⟨(st.finish q.stream).1,-1,0,0,[],[]⟩,(st.finish q.stream).2):=by unfold aK.do;rw[ay (by omega),aM y]
  rw[j,e];exact D.post (r:=(⟨(st.finish q.stream).1,-1,0,0,[],[]⟩,(st.finish q.stream).2)) rfl rfl (D.fin h.lt T f u)))
 have O:=mM q.data;obtain⟨r,B⟩:=exq (st.finish q.stream);rw[<-B]at k s l t;clear B;obtain⟨re,P⟩:=r;simp only at k s l t;obtain⟨d0,d1,d2,d3,d4⟩:a.cell? ⟨w.heap.size,0,none⟩=some (.int .i64 q.op)/\a.cell? ⟨w.heap.size,1,none⟩=some (.int .i64 q.stream)/\a.cell? ⟨w.heap.size,2,none⟩=some (.int .i64 q.n)/\a.cell? ⟨w.heap.size,3,none⟩=some (.int .u64 q.code)/\a.cell? ⟨w.heap.size,4,none⟩=some (.string q.data):=by simp[World.cell?,D.b,dc]
 have C:=D.e1;have E:=D.e2;have Q:=D.z;replace D:=J D;replace j:=J j;replace h:=J h;replace m:=J m;replace x:=J x;unfold dc at *;obtain⟨op,stream,S,code,data⟩:=q;simp only at *;subst y;generalize bE re=ev at k l;go_enter func60,ntmps60;go_upto_region 3 with fail;rw[<-C,<-E];generalize grownCap H data.size 0 5=cap at *;clear C E;go_wp2_with fail;refine(Z k).mono ?_;rintro e c⟨rfl,T⟩;have I:=J (Z s c T cap);have K:=J (λd=>Z l c d T);have L:=J (λd i=>Z t c d i T);clear T;go_wp2_with fail;refine(Z I).mono ?_;rintro e d⟨rfl,f⟩;go_wp2_with fail;refine(Z K _ f).mono ?_;rintro e i⟨rfl,u⟩;have G:=J (Z L _ _ f u);go_wp2_with fail;first|exact Z G|exact cz (v:=.tuple #[.int .i64 re,.int .i64 (-1),.int .i64 0,.int .u64 0,.string ⟨#[]⟩,.slice none 0 0]) (by simp[results,results60,go_sem]) rfl (Z G)
theorem LM(w:World)(xb sb:Nat)(st:aK)(A:Nat->Prop)(n:Nat)(h:cE w xb sb st A)(M:eh n st)(N:n<=100000)(m:Laid w)(q:gK)(s:aR q.code)(y:q.op=3)(hd:q.data.size<=1000000):
 Calls prog 60 #[.pointer (some ⟨xb,0,none⟩),.agg (dc q)] w (iE w xb sb A (st.do q)):=by
 obtain⟨R,j⟩:=exq (iE w xb sb A (st.do q));rw[<-j];obtain⟨H,a,D⟩:=iw.mk' w q;have k:=J (Lx a xb sb st A (h.ah D.g) q.stream q.code s);have t:=J (λ(c:World)(T:cJ a.heap.size a xb sb A ((st.giveUp q.stream q.code).2) c)=>D.kU h.lt T.choose_spec.2.2 hd);have l:=J (λ(c d:World)(T:cJ a.heap.size a xb sb A ((st.giveUp q.stream q.code).2) c)(f:c.grownBy d (some (w.heap.size+1)))=>D.told h.n0 m T.choose_spec.2.2 f (ev:=bE ((st.giveUp q.stream q.code).1)) (n:=(st.giveUp q.stream q.code).1) (p:= -1) (.inl ⟨rfl,rfl⟩) (λF e=>qz e));have u:=J (λ(c d i:World)(T:cJ a.heap.size a xb sb A ((st.giveUp q.stream q.code).2) c)(f:c.grownBy d (some (w.heap.size+1)))(x:d.grownBy i none)=>(show R (.returned (.tuple #[.int .i64 ((st.giveUp q.stream q.code).1),.int .i64 (-1),.int .i64 (0),.int .u64 0,.string ⟨#[]⟩,.slice none 0 0])) i by
  have e:st.do q=(⟨(st.giveUp q.stream q.code).1,-1,0,0,[],[]⟩,(st.giveUp q.stream q.code).2):=by unfold aK.do;rw[ay (by omega),ay (by omega),aM y]
  rw[j,e];exact D.post (r:=(⟨(st.giveUp q.stream q.code).1,-1,0,0,[],[]⟩,(st.giveUp q.stream q.code).2)) rfl rfl (D.fin h.lt T f x)))
 have O:=mM q.data;obtain⟨r,B⟩:=exq (st.giveUp q.stream q.code);rw[<-B]at k t l u;clear B;obtain⟨re,P⟩:=r;simp only at k t l u;obtain⟨d0,d1,d2,d3,d4⟩:a.cell? ⟨w.heap.size,0,none⟩=some (.int .i64 q.op)/\a.cell? ⟨w.heap.size,1,none⟩=some (.int .i64 q.stream)/\a.cell? ⟨w.heap.size,2,none⟩=some (.int .i64 q.n)/\a.cell? ⟨w.heap.size,3,none⟩=some (.int .u64 q.code)/\a.cell? ⟨w.heap.size,4,none⟩=some (.string q.data):=by simp[World.cell?,D.b,dc]
 have C:=D.e1;have E:=D.e2;have Q:=D.z;replace D:=J D;replace j:=J j;replace h:=J h;replace m:=J m;replace s:=J s;unfold dc at *;obtain⟨op,stream,S,code,data⟩:=q;simp only at *;subst y;generalize bE re=ev at k l;go_enter func60,ntmps60;go_upto_region 3 with fail;rw[<-C,<-E];generalize grownCap H data.size 0 5=cap at *;clear C E;go_wp2_with fail;refine(Z k).mono ?_;rintro e c⟨rfl,T⟩;have I:=J (Z t c T cap);have K:=J (λd=>Z l c d T);have L:=J (λd i=>Z u c d i T);clear T;go_wp2_with fail;refine(Z I).mono ?_;rintro e d⟨rfl,f⟩;go_wp2_with fail;refine(Z K _ f).mono ?_;rintro e i⟨rfl,x⟩;have G:=J (Z L _ _ f x);go_wp2_with fail;first|exact Z G|exact cz (v:=.tuple #[.int .i64 re,.int .i64 (-1),.int .i64 0,.int .u64 0,.string ⟨#[]⟩,.slice none 0 0]) (by simp[results,results60,go_sem]) rfl (Z G)
theorem LN(w:World)(xb sb:Nat)(st:aK)(A:Nat->Prop)(n:Nat)(h:cE w xb sb st A)(H:eh n st)(I:n<=100000)(m:Laid w)(q:gK)(s:aR q.code)(y:q.op=8)(hd:q.data.size<=1000000):
 Calls prog 60 #[.pointer (some ⟨xb,0,none⟩),.agg (dc q)] w (iE w xb sb A (st.do q)):=by
 obtain⟨R,j⟩:=exq (iE w xb sb A (st.do q));rw[<-j];obtain⟨K,a,D⟩:=iw.mk' w q;have k:=J (LC a xb sb st A n (h.ah D.g) H I q.code s);have t:=J (λ(c:World)(T:cJ a.heap.size a xb sb A ((st.close q.code).2) c)=>D.kU h.lt T.choose_spec.2.2 hd);have l:=J (λ(c d:World)(T:cJ a.heap.size a xb sb A ((st.close q.code).2) c)(f:c.grownBy d (some (w.heap.size+1)))=>D.told h.n0 m T.choose_spec.2.2 f (ev:=bE ((st.close q.code).1)) (n:=(st.close q.code).1) (p:= -1) (.inl ⟨rfl,rfl⟩) (λF e=>qz e));have u:=J (λ(c d i:World)(T:cJ a.heap.size a xb sb A ((st.close q.code).2) c)(f:c.grownBy d (some (w.heap.size+1)))(x:d.grownBy i none)=>(show R (.returned (.tuple #[.int .i64 ((st.close q.code).1),.int .i64 (-1),.int .i64 (0),.int .u64 0,.string ⟨#[]⟩,.slice none 0 0])) i by
  have e:st.do q=(⟨(st.close q.code).1,-1,0,0,[],[]⟩,(st.close q.code).2):=by unfold aK.do;rw[ay (by omega),ay (by omega),ay (by omega),ay (by omega),ay (by omega),ay (by omega),ay (by omega),aM y]
  rw[j,e];exact D.post (r:=(⟨(st.close q.code).1,-1,0,0,[],[]⟩,(st.close q.code).2)) rfl rfl (D.fin h.lt T f x)))
 have O:=mM q.data;obtain⟨r,B⟩:=exq (st.close q.code);rw[<-B]at k t l u;clear B;obtain⟨re,P⟩:=r;simp only at k t l u;obtain⟨d0,d1,d2,d3,d4⟩:a.cell? ⟨w.heap.size,0,none⟩=some (.int .i64 q.op)/\a.cell? ⟨w.heap.size,1,none⟩=some (.int .i64 q.stream)/\a.cell? ⟨w.heap.size,2,none⟩=some (.int .i64 q.n)/\a.cell? ⟨w.heap.size,3,none⟩=some (.int .u64 q.code)/\a.cell? ⟨w.heap.size,4,none⟩=some (.string q.data):=by simp[World.cell?,D.b,dc]
 have C:=D.e1;have E:=D.e2;have Q:=D.z;replace D:=J D;replace j:=J j;replace h:=J h;replace m:=J m;replace s:=J s;unfold dc at *;obtain⟨op,stream,S,code,data⟩:=q;simp only at *;subst y;generalize bE re=ev at k l;go_enter func60,ntmps60;go_upto_region 3 with fail;rw[<-C,<-E];generalize grownCap K data.size 0 5=cap at *;clear C E;go_wp2_with fail;refine(Z k).mono ?_;rintro e c⟨rfl,T⟩;have L:=J (Z t c T cap);have M:=J (λd=>Z l c d T);have N:=J (λd i=>Z u c d i T);clear T;go_wp2_with fail;refine(Z L).mono ?_;rintro e d⟨rfl,f⟩;go_wp2_with fail;refine(Z M _ f).mono ?_;rintro e i⟨rfl,x⟩;have G:=J (Z N _ _ f x);go_wp2_with fail;first|exact Z G|exact cz (v:=.tuple #[.int .i64 re,.int .i64 (-1),.int .i64 0,.int .u64 0,.string ⟨#[]⟩,.slice none 0 0]) (by simp[results,results60,go_sem]) rfl (Z G)
theorem LO(w:World)(xb sb:Nat)(st:aK)(A:Nat->Prop)(n:Nat)(h:cE w xb sb st A)(I:eh n st)(O:n<=100000)(m:Laid w)(q:gK)(x:aR q.code)(y:q.op=1)(hd:q.data.size<=1000000):
 Calls prog 60 #[.pointer (some ⟨xb,0,none⟩),.agg (dc q)] w (iE w xb sb A (st.do q)):=by
 obtain⟨R,j⟩:=exq (iE w xb sb A (st.do q));rw[<-j];obtain⟨B,a,D⟩:=iw.mk' w q;have k:=J (Lv a xb sb st A n (h.ah D.g) I q.stream (some ⟨w.heap.size+1,0,none⟩) q.data.size (grownCap B q.data.size 0 5) (bl q.data) (D.bs hd));have s:=J (λ(c:World)(T:cJ a.heap.size a xb sb A ((st.write q.stream (bl q.data)).2.2) c)=>D.kU h.lt T.choose_spec.2.2 hd);have l:=J (λ(c d:World)(T:cJ a.heap.size a xb sb A ((st.write q.stream (bl q.data)).2.2) c)(f:c.grownBy d (some (w.heap.size+1)))=>D.told h.n0 m T.choose_spec.2.2 f (ev:=bE ((st.write q.stream (bl q.data)).2.1)) (n:=(st.write q.stream (bl q.data)).2.1) (p:= -1) (.inl ⟨rfl,rfl⟩) (λF e=>qz e));have t:=J (λ(c d i:World)(T:cJ a.heap.size a xb sb A ((st.write q.stream (bl q.data)).2.2) c)(f:c.grownBy d (some (w.heap.size+1)))(u:d.grownBy i none)=>(show R (.returned (.tuple #[.int .i64 ((st.write q.stream (bl q.data)).2.1),.int .i64 (-1),.int .i64 ((st.write q.stream (bl q.data)).1),.int .u64 0,.string ⟨#[]⟩,.slice none 0 0])) i by
  have e:st.do q=(⟨(st.write q.stream (bl q.data)).2.1,-1,(st.write q.stream (bl q.data)).1,0,[],[]⟩,(st.write q.stream (bl q.data)).2.2):=by unfold aK.do;rw[aM y]
  rw[j,e];exact D.post (r:=(⟨(st.write q.stream (bl q.data)).2.1,-1,(st.write q.stream (bl q.data)).1,0,[],[]⟩,(st.write q.stream (bl q.data)).2.2)) rfl rfl (D.fin h.lt T f u)))
 have P:=mM q.data;obtain⟨r,C⟩:=exq (st.write q.stream (bl q.data));rw[<-C]at k s l t;clear C;obtain⟨K,re,Q⟩:=r;simp only at k s l t;obtain⟨d0,d1,d2,d3,d4⟩:a.cell? ⟨w.heap.size,0,none⟩=some (.int .i64 q.op)/\a.cell? ⟨w.heap.size,1,none⟩=some (.int .i64 q.stream)/\a.cell? ⟨w.heap.size,2,none⟩=some (.int .i64 q.n)/\a.cell? ⟨w.heap.size,3,none⟩=some (.int .u64 q.code)/\a.cell? ⟨w.heap.size,4,none⟩=some (.string q.data):=by simp[World.cell?,D.b,dc]
 have E:=D.e1;have G:=D.e2;have S:=D.z;replace D:=J D;replace j:=J j;replace h:=J h;replace m:=J m;replace x:=J x;unfold dc at *;obtain⟨op,stream,U,code,data⟩:=q;simp only at *;subst y;generalize bE re=ev at k l;go_enter func60,ntmps60;go_upto_region 3 with fail;rw[<-E,<-G];generalize grownCap B data.size 0 5=cap at *;clear E G;go_wp2_with fail;refine(Z k).mono ?_;rintro e c⟨rfl,T⟩;have L:=J (Z s c T cap);have M:=J (λd=>Z l c d T);have N:=J (λd i=>Z t c d i T);clear T;go_wp2_with fail;refine(Z L).mono ?_;rintro e d⟨rfl,f⟩;go_wp2_with fail;refine(Z M _ f).mono ?_;rintro e i⟨rfl,u⟩;have H:=J (Z N _ _ f u);go_wp2_with fail;first|exact Z H|exact cz (v:=.tuple #[.int .i64 re,.int .i64 (-1),.int .i64 K,.int .u64 0,.string ⟨#[]⟩,.slice none 0 0]) (by simp[results,results60,go_sem]) rfl (Z H)
theorem LQ(w:World)(xb sb:Nat)(st:aK)(A:Nat->Prop)(n:Nat)(h:cE w xb sb st A)(H:eh n st)(Q:n<=100000)(m:Laid w)(q:gK)(u:aR q.code)(x:q.op=9)(hd:q.data.size<=1000000):
 Calls prog 60 #[.pointer (some ⟨xb,0,none⟩),.agg (dc q)] w (iE w xb sb A (st.do q)):=by
 obtain⟨R,j⟩:=exq (iE w xb sb A (st.do q));rw[<-j];obtain⟨I,a,D⟩:=iw.mk' w q;have k:=J ((Ly a xb sb st A n (h.ah D.g) H q.stream).mono (λe K y=>(show e=.returned (.tuple #[.int .i64 (st.ag q.stream).1,bE (st.ag q.stream).2])/\cJ a.heap.size a xb sb A st K from⟨y.1,(h.ah D.g).to y.2⟩)));have L:=J (λ(c:World)(T:cJ a.heap.size a xb sb A (st) c)=>D.kU h.lt T.choose_spec.2.2 hd);have l:=J (λ(c d:World)(T:cJ a.heap.size a xb sb A (st) c)(f:c.grownBy d (some (w.heap.size+1)))=>D.told h.n0 m T.choose_spec.2.2 f (ev:=bE ((st.ag q.stream).2)) (n:=(st.ag q.stream).2) (p:= -1) (.inl ⟨rfl,rfl⟩) (λF e=>qz e));have s:=J (λ(c d i:World)(T:cJ a.heap.size a xb sb A (st) c)(f:c.grownBy d (some (w.heap.size+1)))(t:d.grownBy i none)=>(show R (.returned (.tuple #[.int .i64 ((st.ag q.stream).2),.int .i64 (-1),.int .i64 ((st.ag q.stream).1),.int .u64 0,.string ⟨#[]⟩,.slice none 0 0])) i by
  have e:st.do q=(⟨(st.ag q.stream).2,-1,(st.ag q.stream).1,0,[],[]⟩,st):=by unfold aK.do;rw[ay (by omega),ay (by omega),ay (by omega),ay (by omega),ay (by omega),ay (by omega),ay (by omega),ay (by omega),aM x]
  rw[j,e];exact D.post (r:=(⟨(st.ag q.stream).2,-1,(st.ag q.stream).1,0,[],[]⟩,st)) rfl rfl (D.fin h.lt T f t)))
 have S:=mM q.data;obtain⟨r,B⟩:=exq (st.ag q.stream);rw[<-B]at k l s;clear B;obtain⟨M,re⟩:=r;simp only at k l s;obtain⟨d0,d1,d2,d3,d4⟩:a.cell? ⟨w.heap.size,0,none⟩=some (.int .i64 q.op)/\a.cell? ⟨w.heap.size,1,none⟩=some (.int .i64 q.stream)/\a.cell? ⟨w.heap.size,2,none⟩=some (.int .i64 q.n)/\a.cell? ⟨w.heap.size,3,none⟩=some (.int .u64 q.code)/\a.cell? ⟨w.heap.size,4,none⟩=some (.string q.data):=by simp[World.cell?,D.b,dc]
 have C:=D.e1;have E:=D.e2;have U:=D.z;replace D:=J D;replace j:=J j;replace h:=J h;replace m:=J m;replace u:=J u;unfold dc at *;obtain⟨op,stream,V,code,data⟩:=q;simp only at *;subst x;generalize bE re=ev at k l;go_enter func60,ntmps60;go_upto_region 3 with fail;rw[<-C,<-E];generalize grownCap I data.size 0 5=cap at *;clear C E;go_wp2_with fail;refine(Z k).mono ?_;rintro e c⟨rfl,T⟩;have N:=J (Z L c T cap);have O:=J (λd=>Z l c d T);have P:=J (λd i=>Z s c d i T);clear T;go_wp2_with fail;refine(Z N).mono ?_;rintro e d⟨rfl,f⟩;go_wp2_with fail;refine(Z O _ f).mono ?_;rintro e i⟨rfl,t⟩;have G:=J (Z P _ _ f t);go_wp2_with fail;first|exact Z G|exact cz (v:=.tuple #[.int .i64 re,.int .i64 (-1),.int .i64 M,.int .u64 0,.string ⟨#[]⟩,.slice none 0 0]) (by simp[results,results60,go_sem]) rfl (Z G)
theorem LR(w:World)(xb sb:Nat)(st:aK)(A:Nat->Prop)(n:Nat)(h:cE w xb sb st A)(B:eh n st)(C:n<=100000)(k:Laid w)(q:gK)(m:aR q.code)(s:q.op=4)(hd:q.data.size<=1000000):
 Calls prog 60 #[.pointer (some ⟨xb,0,none⟩),.agg (dc q)] w (iE w xb sb A (st.do q)):=by
 obtain⟨R,j⟩:=exq (iE w xb sb A (st.do q));rw[<-j];obtain⟨E,a,D⟩:=iw.mk' w q;have G:=J (LA a xb sb st A n (h.ah D.g) B C);have H:=J (λ(c:World)(T:cJ a.heap.size a xb sb A ((st.tick)) c)=>D.kU h.lt T.choose_spec.2.2 hd);have t:=J (λ(c d:World)(T:cJ a.heap.size a xb sb A ((st.tick)) c)(f:c.grownBy d (some (w.heap.size+1)))=>D.told h.n0 k T.choose_spec.2.2 f (ev:=bE (0)) (n:=0) (p:= -1) (.inl ⟨rfl,rfl⟩) (λF e=>qz e));have I:=J (λ(c d i:World)(T:cJ a.heap.size a xb sb A ((st.tick)) c)(f:c.grownBy d (some (w.heap.size+1)))(l:d.grownBy i none)=>(show R (.returned (.tuple #[.int .i64 (0),.int .i64 (-1),.int .i64 (0),.int .u64 0,.string ⟨#[]⟩,.slice none 0 0])) i by
  have e:st.do q=(⟨0,-1,0,0,[],[]⟩,(st.tick)):=by unfold aK.do;rw[ay (by omega),ay (by omega),ay (by omega),aM s]
  rw[j,e];exact D.post (r:=(⟨0,-1,0,0,[],[]⟩,(st.tick))) rfl rfl (D.fin h.lt T f l)))
 have N:=mM q.data;obtain⟨d0,d1,d2,d3,d4⟩:a.cell? ⟨w.heap.size,0,none⟩=some (.int .i64 q.op)/\a.cell? ⟨w.heap.size,1,none⟩=some (.int .i64 q.stream)/\a.cell? ⟨w.heap.size,2,none⟩=some (.int .i64 q.n)/\a.cell? ⟨w.heap.size,3,none⟩=some (.int .u64 q.code)/\a.cell? ⟨w.heap.size,4,none⟩=some (.string q.data):=by simp[World.cell?,D.b,dc]
 have u:=D.e1;have x:=D.e2;have O:=D.z;replace D:=J D;replace j:=J j;replace h:=J h;replace k:=J k;replace m:=J m;unfold dc at *;obtain⟨op,stream,P,code,data⟩:=q;simp only at *;subst s;rw[show bE 0=.nilIface from rfl]at t;go_enter func60,ntmps60;go_upto_region 3 with fail;rw[<-u,<-x];generalize grownCap E data.size 0 5=cap at *;clear u x;go_wp2_with fail;refine(Z G).mono ?_;rintro e c⟨rfl,T⟩;have K:=J (Z H c T cap);have L:=J (λd=>Z t c d T);have M:=J (λd i=>Z I c d i T);clear T;go_wp2_with fail;refine(Z K).mono ?_;rintro e d⟨rfl,f⟩;go_wp2_with fail;refine(Z L _ f).mono ?_;rintro e i⟨rfl,l⟩;have y:=J (Z M _ _ f l);go_wp2_with fail;first|exact Z y|exact cz (v:=.tuple #[.int .i64 0,.int .i64 (-1),.int .i64 0,.int .u64 0,.string ⟨#[]⟩,.slice none 0 0]) (by simp[results,results60,go_sem]) rfl (Z y)
theorem LS(w:World)(xb sb:Nat)(st:aK)(A:Nat->Prop)(n:Nat)(h:cE w xb sb st A)(I:eh n st)(K:n<=100000)(j:Laid w)(q:gK)(x:aR q.code)(y:q.op=6)(hd:q.data.size<=1000000):
 Calls prog 60 #[.pointer (some ⟨xb,0,none⟩),.agg (dc q)] w (iE w xb sb A (st.do q)):=by
 obtain⟨R,k⟩:=exq (iE w xb sb A (st.do q));rw[<-k];obtain⟨B,a,D⟩:=iw.mk' w q;have m:=J (LI a xb sb st A n (h.ah D.g) I K (j.gb D.g (by simp)) (some ⟨w.heap.size+1,0,none⟩) q.data.size (grownCap B q.data.size 0 5) (bl q.data) (D.bs hd));have p:=J (λ(c:World)(T:cJ a.heap.size a xb sb A (st.recv (bl q.data)).2.2 c)=>D.kU h.lt T.choose_spec.2.2 hd);have s:=J (λ(c d:World)(T:cJ a.heap.size a xb sb A (st.recv (bl q.data)).2.2 c)(ev:Value)(l:th c ev (st.recv (bl q.data)).1 (st.recv (bl q.data)).2.1)(hF:∀F,ev=.iface 177 (.pointer (some ⟨F,0,none⟩))->a.heap.size<=F) (f:c.grownBy d (some (w.heap.size+1)))=>D.told h.n0 j T.choose_spec.2.2 f l hF);have t:=J (λ(c d i:World)(T:cJ a.heap.size a xb sb A (st.recv (bl q.data)).2.2 c)(f:c.grownBy d (some (w.heap.size+1)))(u:d.grownBy i none)=>(show R (.returned (.tuple #[.int .i64 (st.recv (bl q.data)).1,.int .i64 (st.recv (bl q.data)).2.1,.int .i64 0,.int .u64 0,.string ⟨#[]⟩,.slice none 0 0])) i by
  have e:st.do q=(⟨(st.recv (bl q.data)).1,(st.recv (bl q.data)).2.1,0,0,[],[]⟩,(st.recv (bl q.data)).2.2):=by unfold aK.do;rw[ay (by omega),ay (by omega),ay (by omega),ay (by omega),ay (by omega),aM y]
  rw[k,e];exact D.post (r:=(⟨(st.recv (bl q.data)).1,(st.recv (bl q.data)).2.1,0,0,[],[]⟩,(st.recv (bl q.data)).2.2)) rfl rfl (D.fin h.lt T f u)))
 have P:=mM q.data;obtain⟨r,C⟩:=exq (st.recv (bl q.data));rw[<-C]at m p s t;clear C;obtain⟨re,L,Q⟩:=r;simp only at m p s t;obtain⟨d0,d1,d2,d3,d4⟩:a.cell? ⟨w.heap.size,0,none⟩=some (.int .i64 q.op)/\a.cell? ⟨w.heap.size,1,none⟩=some (.int .i64 q.stream)/\a.cell? ⟨w.heap.size,2,none⟩=some (.int .i64 q.n)/\a.cell? ⟨w.heap.size,3,none⟩=some (.int .u64 q.code)/\a.cell? ⟨w.heap.size,4,none⟩=some (.string q.data):=by simp[World.cell?,D.b,dc]
 have E:=D.e1;have G:=D.e2;have S:=D.z;replace D:=J D;replace k:=J k;replace h:=J h;replace j:=J j;replace x:=J x;unfold dc at *;obtain⟨op,stream,U,code,data⟩:=q;simp only at *;subst y;go_enter func60,ntmps60;go_upto_region 3 with fail;rw[<-E,<-G];generalize grownCap B data.size 0 5=cap at *;clear E G;go_wp2_with fail;refine(Z m).mono ?_;rintro e c⟨ev,rfl,l,hF,T⟩;have M:=J (Z p c T cap);have N:=J (λd=>Z s c d T ev l hF);have O:=J (λd i=>Z t c d i T);clear T l hF;go_wp2_with fail;refine(Z M).mono ?_;rintro e d⟨rfl,f⟩;go_wp2_with fail;refine(Z N _ f).mono ?_;rintro e i⟨rfl,u⟩;have H:=J (Z O _ _ f u);go_wp2_with fail;first|exact Z H|exact cz (v:=.tuple #[.int .i64 re,.int .i64 L,.int .i64 0,.int .u64 0,.string ⟨#[]⟩,.slice none 0 0]) (by simp[results,results60,go_sem]) rfl (Z H)
theorem LU(w:World)(xb sb:Nat)(st:aK)(A:Nat->Prop)(n:Nat)(h:cE w xb sb st A)(C:eh n st)(E:n<=100000)(k:Laid w)(q:gK)(l:aR q.code)(t:q.op<1\/9<q.op)(hd:q.data.size<=1000000):
 Calls prog 60 #[.pointer (some ⟨xb,0,none⟩),.agg (dc q)] w (iE w xb sb A (st.do q)):=by
 obtain⟨R,d⟩:=exq (iE w xb sb A (st.do q));rw[<-d];obtain⟨u,a,D⟩:=iw.mk' w q;have T:cJ a.heap.size a xb sb A st a:=(h.ah D.g).to (av _ _);have x:=J (D.kU h.lt T.choose_spec.2.2 hd);have y:=J (λ(c:World)=>td c);have B:=J (λ(c f:World)(i:a.grownBy c (some (w.heap.size+1)))(j:c.grownBy f none)=>(show R (.returned (.tuple #[.int .i64 0,.int .i64 (-1),.int .i64 0,.int .u64 0,.string ⟨#[]⟩,.slice none 0 0])) f by
  have e:st.do q=(⟨0,-1,0,0,[],[]⟩,st):=by unfold aK.do;rw[ay (by omega),ay (by omega),ay (by omega),ay (by omega),ay (by omega),ay (by omega),ay (by omega),ay (by omega),ay (by omega)]
  rw[d,e];exact D.post (r:=(⟨0,-1,0,0,[],[]⟩,st)) rfl rfl (D.fin h.lt T i j)))
 have F:=mM q.data;have G:(q.op==1)=false:=by simp;omega
 have H:(q.op==2)=false:=by simp;omega
 have I:(q.op==3)=false:=by simp;omega
 have K:(q.op==4)=false:=by simp;omega
 have L:(q.op==5)=false:=by simp;omega
 have M:(q.op==6)=false:=by simp;omega
 have N:(q.op==7)=false:=by simp;omega
 have O:(q.op==8)=false:=by simp;omega
 have P:(q.op==9)=false:=by simp;omega
 clear t T;obtain⟨d0,d1,d2,d3,d4⟩:a.cell? ⟨w.heap.size,0,none⟩=some (.int .i64 q.op)/\a.cell? ⟨w.heap.size,1,none⟩=some (.int .i64 q.stream)/\a.cell? ⟨w.heap.size,2,none⟩=some (.int .i64 q.n)/\a.cell? ⟨w.heap.size,3,none⟩=some (.int .u64 q.code)/\a.cell? ⟨w.heap.size,4,none⟩=some (.string q.data):=by simp[World.cell?,D.b,dc]
 have m:=D.e1;have p:=D.e2;have Q:=D.z;replace D:=J D;replace d:=J d;replace h:=J h;replace k:=J k;replace l:=J l;unfold dc at *;obtain⟨op,stream,S,code,data⟩:=q;simp only at *;go_enter func60,ntmps60;go_upto_region 3 with fail;rw[<-m,<-p];generalize grownCap u data.size 0 5=cap at *;clear m p;go_wp2_with fail;refine(Z x cap).mono ?_;rintro e c⟨rfl,i⟩;go_wp2_with fail;refine(Z y _).mono ?_;rintro e f⟨rfl,j⟩;have s:=J (Z B _ _ i j);go_wp2_with fail;first|exact Z s|exact cz (v:=.tuple #[.int .i64 0,.int .i64 (-1),.int .i64 0,.int .u64 0,.string ⟨#[]⟩,.slice none 0 0]) (by simp[results,results60,go_sem]) rfl (Z s)
def tj(w:World)(xb sb:Nat)(A:Nat->Prop)(r:List Int×Int×Int×Int×aK)(a:Option Addr)(m c:Nat)(b:World):Prop:=aX b w.heap.size (.slice a m c) r.1/\∃d,cE b xb sb r.2.2.2.2 d/\(∀k,d k->A k\/w.heap.size<=k)/\ak w b A/\∀j,(Value.slice a m c).ownBlock=some j->¬d j
theorem tj.fin{r:List Int×Int×Int×Int×aK}(h:tj w n i S r a m j W)(g:W.grownBy v (Value.slice a m j).ownBlock):cJ w.heap.size w n i S r.2.2.2.2 v:=by
 obtain⟨b,c,d,f,l,p⟩:=h;refine⟨c,d.other (ak.of g) (λk _ e=>p k e),f,?_⟩
 refine((l.trans (ak.of g))).mono (λk q e=>e.elim id (λe=>?_));have:=(b.lt k e).1;omega
theorem LV(w:World)(xb sb:Nat)(st:aK)(A:Nat->Prop)(n:Nat)(h:cE w xb sb st A)(B:eh n st)(hn:n<=100000)(C:Laid w)(q:gK)(K:aR q.code)(L:q.op=7)(hd:q.data.size<=1000000):
 Calls prog 60 #[.pointer (some ⟨xb,0,none⟩),.agg (dc q)] w (iE w xb sb A (st.do q)):=by
 obtain⟨R,t⟩:=exq (iE w xb sb A (st.do q));rw[<-t];obtain⟨X,f,D⟩:=iw.mk' w q;have u:=J ((LD f xb sb st A n (h.ah D.g) B q.stream q.n).mono (λe Y hh=>(show∃a m c,e=.returned (.tuple #[.slice a m c,.int .i64 (st.read q.stream q.n).2.1,.int .u64 (st.read q.stream q.n).2.2.1,bE (st.read q.stream q.n).2.2.2.1])/\tj f xb sb A (st.read q.stream q.n) a m c Y from hh)));have M:Hid ((st.read q.stream q.n).1.length<=100000000):=J (by
  unfold aK.read;cases st with
  |shut _ _=>simp
  |aL s=>
   simp only
   split;simp
   ·rename_i hk;have hI:=B.aT q.stream.toNat (by omega);have:=hI.len;have:=B.ai;have N:((s.aT q.stream.toNat).out q.n).length<=(s.aT q.stream.toNat).h.bytes.length:=by
     unfold It.out;split;simp;rw[cC];omega
    simp only;omega)
 have O:=J (λ(a:Option Addr)(m c:Nat)(d:World)(T:tj f xb sb A (st.read q.stream q.n) a m c d)=>qm a m c _ d _ T.1 (by rw[T.1.fB.2.1];exact Z M));have P:=J (λ(a:Option Addr)(m c:Nat)(d:World)(T:tj f xb sb A (st.read q.stream q.n) a m c d)=>sq T.1.fB);have E:=J (λ(d:World)(T:cJ f.heap.size f xb sb A (st.read q.stream q.n).2.2.2.2 d)=>D.kU h.lt T.choose_spec.2.2 hd);have x:=J (λ(d i:World)(T:cJ f.heap.size f xb sb A (st.read q.stream q.n).2.2.2.2 d)(l:d.grownBy i (some (w.heap.size+1)))=>D.told h.n0 C T.choose_spec.2.2 l (ev:=bE (st.read q.stream q.n).2.2.2.1) (n:=(st.read q.stream q.n).2.2.2.1) (p:= -1) (.inl ⟨rfl,rfl⟩) (λF e=>qz e));have G:=J (λ(d i k:World)(T:cJ f.heap.size f xb sb A (st.read q.stream q.n).2.2.2.2 d)(l:d.grownBy i (some (w.heap.size+1)))(y:i.grownBy k none)=>(show R (.returned (.tuple #[.int .i64 (st.read q.stream q.n).2.2.2.1,.int .i64 (-1),.int .i64 (st.read q.stream q.n).2.1,.int .u64 (st.read q.stream q.n).2.2.1,.string (strOfNums (st.read q.stream q.n).1),.slice none 0 0])) k by
  have e:st.do q=(⟨(st.read q.stream q.n).2.2.2.1,-1,(st.read q.stream q.n).2.1,(st.read q.stream q.n).2.2.1,(st.read q.stream q.n).1,[]⟩,(st.read q.stream q.n).2.2.2.2):=by unfold aK.do;rw[ay (by omega),ay (by omega),ay (by omega),ay (by omega),ay (by omega),ay (by omega),aM L]
  rw[t,e];obtain⟨A',N,h2,h3⟩:=D.fin h.lt T l y;exact⟨none,0,0,rfl,fx.nil _ _,A',N,h2,h3,λj e=>by cases e⟩))
 have bz:=mM q.data;obtain⟨r,Q⟩:=exq (st.read q.stream q.n);rw[<-Q]at u E x G O P M;clear Q;obtain⟨rl,rs,rc,re,bL⟩:=r;simp only at u E x G;obtain⟨d0,d1,d2,d3,d4⟩:f.cell? ⟨w.heap.size,0,none⟩=some (.int .i64 q.op)/\f.cell? ⟨w.heap.size,1,none⟩=some (.int .i64 q.stream)/\f.cell? ⟨w.heap.size,2,none⟩=some (.int .i64 q.n)/\f.cell? ⟨w.heap.size,3,none⟩=some (.int .u64 q.code)/\f.cell? ⟨w.heap.size,4,none⟩=some (.string q.data):=by simp[World.cell?,D.b,dc]
 have S:=D.e1;have U:=D.e2;have bM:=D.z;replace D:=J D;replace t:=J t;replace h:=J h;replace C:=J C;replace K:=J K;unfold dc at *;obtain⟨op,stream,qn,code,data⟩:=q;simp only at *;subst L;generalize bE re=ev at u x;go_enter func60,ntmps60;go_upto_region 3 with fail;rw[<-S,<-U];generalize grownCap X data.size 0 5=cap at *;clear S U;go_wp2_with fail;refine(Z u).mono ?_;rintro e d⟨H,I,c3,rfl,T⟩;have a3:=Z P H I c3 d T;have a4:=J (Z O H I c3 d T);have a8:=J (λi(g:d.grownBy i (Value.slice H I c3).ownBlock)=>T.fin g);clear T;go_wp2_with fail;refine(Z a4).mono ?_;rintro e i⟨rfl,l⟩;have T:=Z a8 i l;have a9:=J (Z E i T cap);have bb:=J (λk=>Z x i k T);have bj:=J (λk V=>Z G i k V T);clear T l a3;go_wp2_with fail;refine(Z a9).mono ?_;rintro e k⟨rfl,y⟩;go_wp2_with fail;refine(Z bb _ y).mono ?_;rintro e V⟨rfl,g6⟩;have W:=J (Z bj _ _ y g6);go_wp2_with fail;first|exact Z W|exact cz (v:=.tuple #[.int .i64 re,.int .i64 (-1),.int .i64 rs,.int .u64 rc,.string (strOfNums rl),.slice none 0 0]) (by simp[results,results60,go_sem]) rfl (Z W)
def qA(o:Ot)(k:Nat)(p:Pc)(f:Fr):Prop:=
 (o.sG=true/\p.g=true/\p.x=⟨0,0⟩/\f=⟨4,k,o.aE,o.code,false,⟨#[]⟩,[]⟩)\/
 (o.sG=false/\p.g=false/\o.h.fr<=p.x.lo/\p.x.lo<=p.x.hi/\p.x.hi<=o.en/\p.e=(o.sE&&p.x.hi==o.en)/\(p.x.lo<p.x.hi\/p.e=true)/\
   f=⟨5,k,p.x.lo,0,p.e,strOfNums ((o.h.bytes.drop (p.x.lo-o.h.fr).toNat).take (p.x.hi-p.x.lo).toNat),[]⟩)
abbrev Told:=List (Pc×Fr)
def pX(m:Int)(L:Told):Int:=L.foldl (λm y=>max m y.1.x.hi) m
def jJ(o:Ot)(m:Int)(L:Told):Int:=if o.sG then m else pX m L
def xW(d:Du)(L:Told):Du:=L.foldl (λd y=>d.leave y.1) d
theorem LW{b:Ot}{o:Ot}{d:Du}(ho:o={b with aE:=o.aE})(hs:b.sG=true->o.aE=b.aE)(h:iQ o d)(m:q<=1000)(a:(o.next d q).2=true)(n:0<=o.h.fr):qA b k (o.next d q).1 (o.cX k (o.next d q).1)/\(o.jF (o.next d q).1).aE=jJ b o.aE [((o.next d q).1,o.cX k (o.next d q).1)]:=by
 have e1:o.sG=b.sG:=by rw[ho]
 have e2:o.sE=b.sE:=by rw[ho]
 have f:o.h=b.h:=by rw[ho]
 have r:o.code=b.code:=by rw[ho]
 have i:o.en=b.en:=by unfold Ot.en;rw[f]
 unfold Ot.next at a⊢;cases c:o.sG;rw[c]at a;simp only[gM,gp]at a⊢;obtain⟨s,t,u,g,-⟩:=sT h m a n;have j:(o.fV d.l d.e q).1.e=(o.sE&&(o.fV d.l d.e q).1.x.hi==o.en)/\((o.fV d.l d.e q).1.x.lo<(o.fV d.l d.e q).1.x.hi\/(o.fV d.l d.e q).1.e=true):=by
  unfold Ot.fV at a⊢;split at a;simp at a;rename_i v;rw[ay v];refine⟨rfl,?_⟩
  simp only[qh,kh,ja]at a;obtain a|a:=a
  exact .inl a;right;simp only[ja]
  exact a.1
 generalize (o.fV d.l d.e q).1=p at *;refine⟨.inr ⟨by rw[<-e1];exact c,g,by rw[<-f];exact s,t,by rw[<-i];exact u,by rw[j.1,e2,i],j.2,?_⟩,?_⟩
 unfold Ot.cX;rw[g,f];simp;unfold Ot.jF jJ pX;rw[g,<-e1,c];simp;rw[c]at a;simp only[fJ]at a⊢;simp only[ja]at a;refine⟨.inl ⟨by rw[<-e1];exact c,a.1,rfl,?_⟩,?_⟩
 unfold Ot.cX;simp only[a.1,fJ]
 rw[hs (by rw[<-e1];exact c),r];unfold Ot.jF jJ;simp only[a.1,fJ];rw[<-e1,c];simp
theorem CL{a:Ot}{d0:Du}(n:k<4)(r:q<=1000)(e:0<=a.h.fr)(s:a.en<=4096):∀(m:Nat)(x:Ld),nI a d0 q x->x.o={a with aE:=x.o.aE}->(a.sG=true->x.o.aE=a.aE)->
 ∃L:Told,(fE k q m x).fr=x.fr++bu (L.map (·.2))/\(fE k q m x).ps=x.ps++L.map (·.1)/\(∀y∈L,qA a k y.1 y.2)/\(fE k q m x).o.aE=jJ a x.o.aE L/\(fE k q m x).d=xW x.d L:=by
 intro m;induction m with
 |zero=>exact λx f g c=>⟨[],by simp[fE,bu],by simp[fE],λy b=>(by cases b),by simp[fE,jJ,pX],rfl⟩
 |succ m u=>
  intro x H ho hs;unfold fE;cases i:(x.o.next x.d (q-x.fr.length)).2;simp only[gM,gp]
  exact⟨[],by simp[bu],by simp,λy b=>(by cases b),by simp[jJ,pX],rfl⟩
  simp only[fJ]
  have v:0<=x.o.h.fr:=by rw[H.h];exact e
  obtain⟨f,g⟩:=LW (k:=k) ho hs H.jZ (q:=q-x.fr.length) (by omega) i v;have w:=(H.step k n r e s i).1;generalize (x.o.next x.d (q-x.fr.length)).1=p at *;have z:(x.step k p).o={a with aE:=(x.step k p).o.aE}:=by
   show x.o.jF p={a with aE:=(x.o.jF p).aE}
   have c:=CH x.o p;generalize (x.o.jF p).aE=t at c⊢;rw[c,ho]
  have j:(x.step k p).o.aE=jJ a x.o.aE [(p,x.o.cX k p)]:=g;obtain⟨L,A,B,C,D,E⟩:=u (x.step k p) w z (λl=>by rw[j];unfold jJ;rw[aM l];exact hs l);refine⟨(p,x.o.cX k p)::L,?_,?_,λy b=>?_,?_,?_⟩
  rw[A];show(x.fr++bu [x.o.cX k p])++_=_;simp[bu];rw[B];show(x.ps++[p])++_=_;simp;obtain rfl|b:=eJ.1 b
  exact f;exact C y b;rw[D,j];unfold jJ pX;cases a.sG<;>simp;rw[E];rfl
def jK(key:List Int)(s:Int):Int->List (List Fr)->List (List Int)
 |_,[]=>[]
 |n,f::r=>cT key s n (bu f)::jK key s (n+1) r
def nL(tick:Int)(k:Int):Int->List (List Pc)->List Pk
 |_,[]=>[]
 |n,p::r=>⟨n,tick,k,p⟩::nL tick k (n+1) r
theorem xX(key:List Int)(s:Int)(a:List (List Fr)):∀n,(jK key s n a).length=a.length:=by
 induction a with
 |nil=>intro n;rfl
 |cons f a b=>intro n;simp[jK,b]
theorem CM{a:List (List Fr)}:∀{n:Int}{p:List Int},p∈jK L q n a->∃f∈a,∃m,p=cT L q m (bu f):=by
 induction a with
 |nil=>intro n p h;cases h
 |cons f a b=>
  intro n p h;obtain h|h:=eJ.1 h
  exact⟨f,by simp,n,h⟩
  obtain⟨g,c,m,e⟩:=b h;exact⟨g,by simp[c],m,e⟩
structure xY(s:Sd)(k:Nat)(x y:Pz)(E:List Told):Prop where
 l:y.l=x.l++jK s.key (sd s.first) x.s.count (E.map (·.map (·.2)))
 az:y.s.az=x.s.az++nL s.tick k x.s.count (E.map (·.map (·.1)))
 count:y.s.count=x.s.count+E.length
 fr:∀L∈E,L≠[]/\((bu (L.map (·.2))).length:Int)<=s.ao-16/\∀z∈L,qA (s.out k) k z.1 z.2
 aE:(y.s.out k).aE=jJ (s.out k) (x.s.out k).aE E.flatten
theorem LY(o:Ot)(m:Int)(a b:Told):jJ o (jJ o m a) b=jJ o m (a++b):=by
 unfold jJ pX;cases o.sG<;>simp
theorem LZ(j:k<4)(t:16<=X.ao/\X.ao<=1000)(n:0<=(X.out k).h.fr)(p:(X.out k).en<=4096):∀(m:Nat)(x:Pz),lG X k x->x.s.out k={X.out k with aE:=(x.s.out k).aE}->((X.out k).sG=true->(x.s.out k).aE=(X.out k).aE)->x.s.first=X.first->x.s.tick=X.tick->∃E,xY X k x (iB k m x) E:=by
 intro m;induction m with
 |zero=>exact λx b K M N O=>⟨[],by simp[iB,jK],by simp[iB,nL],by simp[iB],λL c=>(by cases c),by simp[iB,jJ,pX]⟩
 |succ m z=>
  intro x a ho hs u v;have A:=a.ld j t n p;have q:=a.ao;have B:=a.key;have C:=a.h;obtain⟨L,i,f,D,g,-⟩:=CL (a:=X.out k) (d0:=x.d) (q:=x.s.ao-16) j (by rw[q];omega) n p ((x.s.ao-16).toNat+1) ⟨x.s.out k,x.d,[],[]⟩ ⟨C,a.sG,a.code,a.aE,a.jZ,by simp,by rw[q];simp;omega,by simp⟩ ho hs;have i:(x.load k).fr=bu (L.map (·.2)):=i.trans (by simp);have f:(x.load k).ps=L.map (·.1):=f.trans (by simp);have g:(x.load k).o.aE=jJ (X.out k) (x.s.out k).aE L:=g;have F:(x.load k).o={x.s.out k with aE:=(x.load k).o.aE}:=vz k (x.s.ao-16) ((x.s.ao-16).toNat+1) ⟨x.s.out k,x.d,[],[]⟩;unfold iB;split;exact⟨[],by simp[jK],by simp[nL],by simp,λL c=>(by cases c),by simp[jJ,pX]⟩
  split;rename_i G h0;have H:L=[]:=by rw[f,dY]at h0;exact fR h0
  subst H;refine⟨[],by simp[jK,Pz.stay],by simp[nL,Pz.stay],by simp[Pz.stay],λL c=>(by cases c),?_⟩
  show(aw x.s.out k (x.load k).o k).aE=_;rw[bm,g];rfl;rename_i G h0;have w:(x.fN k).s.out k={X.out k with aE:=(x.load k).o.aE}:=by
   show aw x.s.out k (x.load k).o k=_;rw[bm,F,ho]
  have r:((x.fN k).s.out k).aE=(x.load k).o.aE:=by rw[w]
  obtain⟨E,b⟩:=z (x.fN k) (a.fN j t n p (by omega)) (by rw[r];exact w) (λy=>by rw[r,g];unfold jJ;rw[aM y];exact hs y) u v;refine⟨L::E,?_,?_,?_,λI s=>?_,?_⟩
  rw[b.l];show(x.l++[cT x.s.key (sd x.s.first) x.s.count (x.load k).fr])++jK X.key (sd X.first) (x.s.count+1) _=_;rw[i,u,B];simp[jK];rw[b.az];show(x.s.az++[⟨x.s.count,x.s.tick,k,(x.load k).ps⟩])++nL X.tick k (x.s.count+1) _=_;rw[f,v];simp[nL];rw[b.count];show x.s.count+1+_=_;simp;omega;obtain rfl|s:=eJ.1 s
  refine⟨λe=>h0 (by rw[f,e];rfl),?_,D⟩
  rw[<-i];have:=A.fl;rw[q]at this;exact this;exact b.fr I s;rw[b.aE,r,g,LY];rfl
theorem L3(l:List Rg)(a:Int)(h0:0<l.length)(e:40<=a):∀m,1<=m->1<=jH l a m/\1+((fC (l.take (jH l a m))).length:Int)<=a:=by
 intro m;induction m with
 |zero=>omega
 |succ m c=>
  intro _;unfold jH;split;rename_i b;by_cases d:1<=m;exact c d;have:m=0:=by omega
  subst this;have:=Bu l h0;simp only[dv]at b;omega;rename_i b;exact⟨by omega,by omega⟩
theorem L6(l:List Rg):bu [bA l]=2::fC l:=by simp[bu,cZ,bA]
theorem L7(y:56<=q):∀(m:Nat)(x:Ak),x.rest.length<=m->x.s.ao=q->x.s.key=L->sd x.s.first=p->(x.rest≠[]->iL x.rest)->
 ∃C:List (List Rg),(lW m x).l=x.l++jK L p x.s.count (C.map λc=>[bA c])/\(lW m x).s={x.s with count:=x.s.count+C.length}/\C.flatten=x.rest/\∀c∈C,iL c/\((bu [bA c]).length:Int)<=q-16:=by
 intro m;induction m with
 |zero=>
  intro x h0 g b d h;have:x.rest=[]:=fR (by omega);exact⟨[],by simp[lW,jK],by simp[lW],by rw[this];rfl,λc a=>(by cases a)⟩
 |succ m k=>
  intro x h0 g b d h;unfold lW;split;rename_i f;have:x.rest=[]:=fR f;exact⟨[],by simp[jK],by simp,by rw[this];rfl,λc a=>(by cases a)⟩
  rename_i f;have r:x.rest≠[]:=λe=>f (by rw[e];rfl)
  have t:0<x.rest.length:=by omega
  obtain⟨u,v⟩:=L3 x.rest (x.s.ao-16) t (by omega) x.rest.length (by omega);have i:=Jc x.rest (x.s.ao-16) x.rest.length;have en:x.n=jH x.rest (x.s.ao-16) x.rest.length:=rfl;rw[<-en]at u v i;have j:=h r;obtain⟨C,c1,c2,c3,c4⟩:=k x.step (by show(x.rest.drop x.n).length<=m;rw[dO];omega) g b d (λw=>Bv j x.n (by
   have:(x.rest.drop x.n).length≠0:=λe=>w (fR e)
   rw[dO]at this;omega))
  refine⟨x.rest.take x.n::C,?_,?_,?_,λc a=>?_⟩
  rw[c1];show(x.l++[cT x.s.key (sd x.s.first) x.s.count (bu [bA (x.rest.take x.n)])])++jK L p (x.s.count+1) _=_;rw[b,d];simp[jK];rw[c2];show({x.s with count:=x.s.count+1+_}:Sd)=_;congr 1;simp;omega;rw[List.flatten_cons,c3];exact nZ _ _;obtain rfl|a:=eJ.1 a
  refine⟨xI j _ (by omega) i,?_⟩
  rw[L6,dJ];push_cast;omega;exact c4 c a
structure CN(s:Sd)(C:List (List Rg)):Prop where
 l:s.eX.l=jK s.key (sd s.first) s.count (C.map λc=>[bA c])
 st:s.eX.s={s with dU:=false,count:=s.count+C.length}
 all:s.dU=true->C.flatten=fW s.ag s.ag.length
 no:s.dU=false->C=[]
 fr:∀c∈C,iL c/\((bu [bA c]).length:Int)<=s.ao-16
theorem L8(h:cF X n):∃C,CN X C:=by
 cases ho:X.dU;refine⟨[],?_,?_,λe=>(by rw[ho]at e;cases e),λ_=>rfl,λc a=>(by cases a)⟩
 unfold Sd.eX;rw[ho];simp[jK];unfold Sd.eX;rw[ay (by rw[ho];decide)];simp only[fH];rw[<-ho];simp;have d:=h.c8;have f:=h.ao;obtain⟨C,c1,c2,c3,c4⟩:=L7 (L:=X.key) (p:=sd X.first) (q:=X.ao) (by omega) 10 ⟨{X with dU:=false},fW X.ag X.ag.length,[]⟩ (by simp only[lV];omega) rfl rfl rfl (λb=>By X.ag h.nd (by
  have:(fW X.ag X.ag.length).length≠0:=λe=>b (fR e)
  rw[lV]at this;omega) h.cr)
 refine⟨C,?_,?_,λ_=>c3,λe=>(by rw[ho]at e;cases e),c4⟩
 unfold Sd.eX;rw[ho];simpa using c1;unfold Sd.eX;rw[ho];simpa using c2
theorem cF.mono(h:cF X n)(b:n<=m):cF X m:=
 {h with num:=λx a=>(by have:=h.num x a;omega),tick:=(by have:=h.tick;omega),cU:=(by have:=h.cU;omega),ll:=(by have:=h.ll;omega)}
theorem eD.same{a:Ot}(h:eD d)(e:a.h=d.h):eD a:=⟨by rw[e];exact h.ok,by rw[e];exact h.jC,by rw[e];exact h.fr,by rw[e];exact h.low,by rw[e];exact h.hole,by unfold Ot.en;rw[e];exact h.en⟩
theorem qA.ok{p:Pc}(h:qA d k p H)(ho:eD d):jD p:=by
 have a:=ho.fr;have b:=ho.en;obtain⟨-,-,e,-⟩|⟨-,-,c,f,g,-⟩:=h
 unfold jD;rw[e];simp;unfold jD;omega
theorem L9{a:List (List Pc)}:∀{n:Int}{x:Pk},x∈nL p q n a->x.tick=p/\x.st=q/\x.ps∈a/\n<=x.num/\x.num<n+a.length:=by
 induction a with
 |nil=>intro n x h;cases h
 |cons f a b=>
  intro n x h;obtain rfl|h:=eJ.1 h
  exact⟨rfl,rfl,by simp,fI _,by simp;omega⟩
  obtain⟨c,d,e,g,i⟩:=b h;exact⟨c,d,by simp[e],by omega,by simp;omega⟩
theorem CO(tick k:Int)(a:List (List Pc)):∀n,(nL tick k n a).length=a.length:=by
 induction a with
 |nil=>intro n;rfl
 |cons f a b=>intro n;simp[nL,b]
theorem CP(h:cF X n)(c:n<=100001)(k:Nat)(a:k<4):ti X k (X.pieces k).s/\(X.pieces k).l.length<=10:=by
 have b:=h.cU;exact xS h.vA k a ⟨b.1,by omega⟩ (X.az.map (λx=>(x,Value.slice none 0 0))) (by rw[pF];show _=List.map id _;rw[List.map_id])
theorem Ma(h:cF X n)(D:n<=100001)(v:X.count+10<=100*n)(hl:X.lost.length+X.az.length+10<=100*n)(k:Nat)(i:k<4):cF (X.pieces k).s n/\∃E,xY X k ⟨X,X.due k,[]⟩ (X.pieces k) E/\E.length<=10:=by
 obtain⟨R,O⟩:=CP h D k i;have g:∃E,xY X k ⟨X,X.due k,[]⟩ (X.pieces k) E:=by
  have v:=h.cU;have F:=h.vA;obtain⟨c,l,m⟩:=F.p0 k i ⟨v.1,by omega⟩ (X.az.map (λx=>(x,Value.slice none 0 0))) (by rw[pF];show _=List.map id _;rw[List.map_id]);have ho:=h.xV i;have w:=h.fl;have P:=h.ao;exact LZ i (by omega) ho.nice.1 ho.en 11 ⟨X,X.due k,[]⟩ ⟨rfl,rfl,rfl,rfl,rfl,ho.aE,m,by simp only;omega,w,by simp only;omega,by simp⟩ rfl (λ_=>rfl) rfl rfl
 obtain⟨E,g⟩:=g;have z:=g.count;have G:E.length<=10:=by have:=R.cU;simp only at z;omega
 have q:=g.az;simp only at q;have r:∀x∈(X.pieces k).s.az,x∈X.az\/(x.tick=X.tick/\x.st=(k:Int)/\(∃L∈E,x.ps=L.map (·.1))/\X.count<=x.num/\x.num<X.count+E.length):=λx a=>by
  rw[q]at a;obtain a|a:=ck.1 a
  exact .inl a;obtain⟨c,l,m,A,B⟩:=L9 a;obtain⟨L,s,e⟩:=fh.1 m;rw[dY]at B;exact .inr ⟨c,l,⟨L,s,e.symm⟩,A,B⟩
 have Q:=h.cU;have t:∀j,j<4->((X.pieces k).s.out j).h=(X.out j).h/\((X.pieces k).s.out j).code=(X.out j).code:=λj _=>by
  rw[R.eq];by_cases e:j=k;subst e;simp only[bm];exact⟨trivial,trivial⟩
  simp only[bq _ _ e];exact⟨trivial,trivial⟩
 refine⟨?_,E,g,G⟩
 have d:∀{α:Type}(f:Sd->α),f (X.pieces k).s=f {X with out:=aw X.out k {X.out k with aE:=((X.pieces k).s.out k).aE},az:=(X.pieces k).s.az,count:=(X.pieces k).s.count}:=λf=>fj f R.eq
 have H:(X.pieces k).s.key=X.key:=d (·.key);have I:(X.pieces k).s.ao=X.ao:=d (·.ao);have k3:(X.pieces k).s.ai=X.ai:=d (·.ai);have k4:(X.pieces k).s.aT=X.aT:=d (·.aT);have k5:(X.pieces k).s.lost=X.lost:=d (·.lost);have C:(X.pieces k).s.tick=X.tick:=d (·.tick);have K:(X.pieces k).s.wait=X.wait:=d (·.wait);have u:(X.pieces k).s.ag=X.ag:=d (·.ag);have M:∀x∈(X.pieces k).s.az,0<=x.st/\x.st<4/\∀p∈x.ps,jD p:=λx a=>by
  obtain c|⟨-,l,⟨L,s,e⟩,-⟩:=r x a
  exact h.pk x (oe _ c);refine⟨by omega,by omega,λp hp=>?_⟩
  rw[e]at hp;obtain⟨y,N,rfl⟩:=fh.1 hp;exact((g.fr L s).2.2 y N).ok (h.out k i)
 simp only at z;have w:(X.pieces k).s.az.length=X.az.length+E.length:=by rw[q,bG,CO,dY]
 refine⟨by rw[H];exact h.key,by rw[I];exact h.ao,by rw[k3];exact h.ai,λj b=>(h.out j b).same (t j b).1,λj b=>by rw[(t j b).1,k3];exact h.oX j b,λj b=>?_,λj b=>by rw[(t j b).2];exact h.code j b,by rw[k3,k4];exact h.aT,λx a=>?_,λx a=>?_,R.fl,R.fp,λx a=>?_,by rw[C];exact h.tick,by rw[K];exact h.wait,by omega,by rw[k5];omega,by rw[u];exact h.nd,by rw[u];exact h.c8,by rw[u];exact h.cr⟩
 by_cases e:j=k;subst e;exact R.aE;have:((X.pieces k).s.out j).aE=(X.out j).aE:=by rw[R.eq];simp only[bq _ _ e]
 rw[this];exact h.aE j b;obtain a|a:=ck.1 a
 exact M x a;rw[k5]at a;exact h.pk x (px _ a);obtain c|⟨-,-,-,m,A⟩:=r x a
 exact h.num x c;omega;rw[C];obtain c|⟨l,-⟩:=r x a
 exact h.ft x c;have:=h.tick;omega
theorem Mb(h:cF X n)(d:X.count+10<=100*n):cF X.eX.s n/\∃C,CN X C/\C.length<=10:=by
 obtain⟨C,a⟩:=L8 h;obtain⟨c,e,f,g,b⟩:=xU X;have hl:C.length<=10:=by rw[a.l,xX,dY]at b;exact b
 refine⟨?_,C,a,hl⟩
 rw[a.st];have:=h.cU;exact⟨h.key,h.ao,h.ai,h.out,h.oX,h.aE,h.code,h.aT,h.pk,h.num,h.fl,h.fp,h.ft,h.tick,h.wait,by simp only;omega,h.ll,h.nd,h.c8,h.cr⟩
theorem CQ(h:cF X n)(y:n<=100000):∀k,k<=4->cF (bJ X k).1 (n+1)/\(bJ X k).1.count<=100*n+10+10*k/\(bJ X k).1.lost.length+(bJ X k).1.az.length<=100*n+10*k/\(bJ X k).1.ao=X.ao/\(bJ X k).2.length<=10+10*k/\∀p∈(bJ X k).2,(p.length:Int)<=X.ao:=by
 intro k;induction k with
 |zero=>
  intro _;have s:=h.mono (df n);have z:=h.cU;obtain⟨d,C,a,hl⟩:=Mb s (by omega);have A:=h.ll;refine⟨d,?_,?_,?_,?_,λp hp=>?_⟩
  show X.eX.s.count<=_;rw[a.st];simp only;omega;show X.eX.s.lost.length+X.eX.s.az.length<=_;rw[a.st];simp only;omega;show X.eX.s.ao=_;rw[a.st];show X.eX.l.length<=_;rw[a.l,xX,dY];omega;have hp:p∈X.eX.l:=hp;rw[a.l]at hp;obtain⟨f,g,m,e⟩:=CM hp;obtain⟨c,t,rfl⟩:=fh.1 g;have:=(a.fr c t).2;rw[e,m8];push_cast;omega
 |succ k u=>
  intro B;obtain⟨i,D,F,j,G,v⟩:=u (by omega);obtain⟨d,E,b,hl⟩:=Ma i (by omega) (by push_cast;omega) (by omega) k (by omega);have w:=b.count;have q:=b.az;simp only at w q;have H:((bJ X k).1.pieces k).s.az.length=(bJ X k).1.az.length+E.length:=by rw[q,bG,CO,dY]
  have R:=(CP i (by omega) k (by omega)).1;have e1:((bJ X k).1.pieces k).s.lost=(bJ X k).1.lost:=by rw[R.eq]
  have e2:((bJ X k).1.pieces k).s.ao=(bJ X k).1.ao:=by rw[R.eq]
  have r:((bJ X k).1.pieces k).l=jK (bJ X k).1.key (sd (bJ X k).1.first) (bJ X k).1.count (E.map (·.map (·.2))):=by rw[b.l];rfl
  refine⟨d,?_,?_,?_,?_,λp hp=>?_⟩
  show((bJ X k).1.pieces k).s.count<=_;omega;show((bJ X k).1.pieces k).s.lost.length+((bJ X k).1.pieces k).s.az.length<=_;rw[e1];omega;show((bJ X k).1.pieces k).s.ao=_;rw[e2];exact j;show((bJ X k).2++((bJ X k).1.pieces k).l).length<=_;rw[bG,r,xX,dY];omega;have hp:p∈(bJ X k).2++((bJ X k).1.pieces k).l:=hp;obtain hp|hp:=ck.1 hp
  exact v p hp;rw[r]at hp;obtain⟨f,g,m,e⟩:=CM hp;obtain⟨L,x,rfl⟩:=fh.1 g;have:=(b.fr L x).2.1;rw[e,m8];push_cast;rw[<-j];omega
theorem CR(h:cF X n)(a:n<=100000):cF X.eY.1 (n+1)/\X.eY.2.length<=50/\∀p∈X.eY.2,(p.length:Int)<=300:=by
 obtain⟨b,-,-,-,c,d⟩:=CQ h a 4 (aI _);exact⟨b,by have:X.eY.2.length<=10+10*4:=c;omega,λp hp=>by have:=d p hp;have:=h.ao;omega⟩
theorem Mc:(prog.info? 9).map (λi=>(i.zero,i.size,i.bytes))=some (some (.string ⟨#[]⟩),1,16):=by kernel_rfl
theorem fx.lt{l:List (List Int)}(h:fx w n x l):∀k,x.ownBlock=some k->n<=k/\k<w.heap.size:=World.ownsRow.lt h
theorem fx.aq{l:List (List Int)}(h:fx w n x l)(C:ak w W S)(c:∀k,x.ownBlock=some k->¬S k):fx W n x l:=by
 obtain⟨d,a⟩:=h;refine⟨d,?_⟩
 obtain a|⟨g,cap,cur,e1,e2,b,e⟩:=a
 exact .inl a;exact .inr ⟨g,cap,cur,e1,e2,(C.block g (aO.1 b).1 (c g (by rw[e1];rfl))).trans b,e⟩
theorem fx.low{b2:Nat}{l:List (List Int)}(h:fx w n x l)(d:b2<=n):fx w b2 x l:=by
 obtain⟨b,a⟩:=h;refine⟨b,?_⟩
 obtain a|⟨g,cap,cur,e1,e2,c⟩:=a
 exact .inl a;exact .inr ⟨g,cap,cur,e1,by omega,c⟩
theorem fx.fL{l:List (List Int)}(h:fx w n x l):∃a cap,x=.slice a l.length cap:=by
 obtain⟨c,⟨b,h0⟩|⟨g,d,e,e1,-⟩⟩:=h;exact⟨none,0,by rw[h0];exact b⟩
 exact⟨_,_,e1⟩
theorem Md(ty:TypeId)(d:Nat)(v:Value)(l:List (List Int))(r:fx w d v l)(b c:Nat)(p:List Int)(h0:w.cell? ⟨b,0,none⟩=some (.string (strOfNums p)))(D:l.length<=1000000)(s:d<=w.heap.size):
 ∃i k m a,(Builtin.append_ #[44,44] ty #[v,.slice (some ⟨b,0,none⟩) 1 c]).run prog w=.ok (.slice i k m) a/\fx a d (.slice i k m) (l++[p])/\w.grownBy a v.ownBlock:=by
 obtain⟨t,hi,x,y,z⟩:=kj Mc;obtain⟨A,a,n,B,q,_,E⟩:=run_append_own_at (P:=prog) w d 44 ty 9 t _ 1 16 underlying44 hi x y z rfl (by decide) v l.length (l.map λp=>.string (strOfNums p)) r ⟨b,0,none⟩ 1 c ([p].map λp=>.string (strOfNums p)) (by simp) (by
  intro j u f;rw[Addr.add_mid];have:j=0:=by
   have:=(iX.1 f).1;simp at this;exact this
  subst this;simp at f;subst f;exact h0) (λu C=>by
  obtain⟨e,-,rfl⟩:=fh.1 C;rfl) (by simp[maxLen];omega) (by omega) s
 have h:fx a d A (l++[p]):=by
  unfold fx;rw[bG,mf];exact B
 obtain⟨-,⟨rfl,e2⟩|⟨g,cap,F,rfl,_⟩⟩:=id h;exact⟨_,_,_,a,n,h,q⟩
 exact⟨_,_,_,a,n,h,q⟩
def et(l:List El)(i:Nat):El:=l.getD i (0,[])
theorem vC{l:List El}(h:i<l.length):l[i]?=some (et l i):=by simp[et,List.getD,h]
theorem xZ{l:List El}(h:i<l.length):et l i∈l:=vQ (vC h)
theorem ya{l:List El}(h:j<l.length):l.take (j+1)=l.take j++[et l j]:=by
 rw[nr,vC h];rfl
theorem Me(h:∀x∈L,W8 x)(a:w.heap[n]?=some (.cells (bv L).toArray 5 (0,0)))(hl:L.length<=1000000):aX w 0 (jE (n,L)) L:=by
 have e:=fK L;refine⟨h,by omega,.inr ⟨n,L.length,(bv L).toArray,rfl,mg _,a,aI _,by simp[maxLen];omega,by simp[e],?_⟩⟩
 rw[eG (by simp[e])]
structure kV(a:World)(b:List El)(j:Nat)(c:Value)(wr:World):Prop where
 own:fx wr a.heap.size c ((b.take j).map (·.2))
 aq:ak a wr (λk=>∃e∈b.take j,e.1=k)
theorem kV.el{wr:World}{a:List El}(h:kV w a j x wr)(c:gI w 0 a)(b:j<a.length)(hl:∀e∈a,e.2.length<=1000000):aX wr 0 (jE (et a j)) (et a j).2:=by
 have d:=xZ b;obtain⟨-,f,g⟩:=c.at_ _ d;have i:wr.heap[(et a j).1]?=some (.cells (bv (et a j).2).toArray 5 (0,0)):=by
  rw[h.aq.block _ (c.lt d) ?_];exact g;rintro⟨e,k,e2⟩;have hs:=c.sep;rw[<-nZ j a]at hs;have hd:et a j∈a.drop j:=by
   rw[yE b];have:a[j]=et a j:=by have:=vC b;rw[eF b]at this;exact aJ this
   rw[this];simp
  exact(List.pairwise_append.1 hs).2.2 e k _ hd e2
 have:=hl _ d;exact Me f i this
theorem kV.row{wr:World}{b:List El}(h:kV w b j y wr)(c:dZ w 0 (.slice a n i) b)(d:∀e∈b,(Value.slice a n i).ownBlock≠some e.1):dZ wr 0 (.slice a n i) b:=c.aq h.aq (λk e ⟨x,f,e2⟩=>d x (iY f) (by rw[e2];exact e))
theorem kV.step{wr:World}{b:List El}(h:kV w b j x wr)(f:j<b.length)(gb:wr.grownBy W none)(g:fx v w.heap.size (.slice a n i) ((b.take j).map (·.2)++[(et b j).2]))(c:W.grownBy v x.ownBlock)(d:v.grownBy V (some (et b j).1))(q:(et b j).1<w.heap.size):kV w b (j+1) (.slice a n i) V:=by
 refine⟨?_,?_⟩
 have e:(b.take (j+1)).map (·.2)=(b.take j).map (·.2)++[(et b j).2]:=by rw[ya f];simp
 rw[e];refine g.aq (ak.of d) (λk e1 e2=>?_);have:=(g.lt k e1).1;have:=aJ e2;omega;refine⟨d.os.trans (c.os.trans (gb.os.trans h.aq.os)),d.tape.trans (c.tape.trans (gb.tape.trans h.aq.tape)),d.output.trans (c.output.trans (gb.output.trans h.aq.output)),bC h.aq.size (bC gb.size (bC c.size d.size)),λk m l=>?_⟩
 have r:=h.aq.size;have z2:=gb.size;have s:=c.size;rw[d.block k (by omega) (λe=>l ⟨et b j,by rw[ya f];simp,(aJ e).symm▸rfl⟩),c.block k (by omega) (λe=>by have:=(h.own.lt k e.symm).1;omega),gb.block k (by omega) (by simp)];refine h.aq.block k m (λ⟨e,p,e2⟩=>l ⟨e,?_,e2⟩);rw[ya f];exact oe _ p
theorem aK.Mf{st:aK}(a:eh n st)(b:n<=100000):st.eY.2.length<=50/\∀p∈st.eY.2,(p.length:Int)<=300:=by
 cases st with
 |aL s=>exact(CR a b).2
 |shut aF l=>exact⟨bC a.1 (by omega),a.2⟩
theorem kV.done{wr f m:World}{q:gK}(D:iw w q W v){st:aK}{b:List El}(E:∀k,S k->k<w.heap.size)(T:kV V b b.length x wr)(z:cE V i l st P)(A:∀k,P k->S k\/v.heap.size<=k)(C:ak v V S)(B:∀e∈b,¬P e.1/\(S e.1\/v.heap.size<=e.1))(p:wr.grownBy f (some (w.heap.size+1)))(r:f.grownBy m none):
 ∃a n c,x=.slice a n c/\fx m w.heap.size x (b.map (·.2))/\cE m i l st P/\(∀k,P k->S k\/w.heap.size<=k)/\ak w m S/\∀j,x.ownBlock=some j->¬P j:=by
 have O:=D.z2;have Q:=C.size;have R:=T.aq.size;have d:=T.own;rw[lh]at d;obtain⟨a,cap,F⟩:=d.fL;have G:¬P (w.heap.size+1):=λh=>by
  obtain s|s:=A _ h
  have:=E _ s;omega;omega
 have H:cE wr i l st P:=z.other T.aq (λk _ ⟨e,t,e2⟩ u=>(B e (iY t)).1 (e2▸u));have I:cE f i l st P:=H.other (ak.of p) (λk _ e u=>G (by have:=aJ e;rw[this];exact u));refine⟨a,_,cap,F,?_,I.ah r,λk y=>(A k y).imp id (λh=>by omega),?_,λj e K=>?_⟩
 have L:fx f V.heap.size x (b.map (·.2)):=d.aq (ak.of p) (λk e e2=>by have:=(d.lt k e).1;have:=aJ e2;omega);exact(L.aq (ak.of r) (λk _ e=>by cases e)).low (by omega);have M:ak v wr S:=(C.trans T.aq).mono (λk y h=>h.elim id (λ⟨e,t,e2⟩=>(B e (iY t)).2.elim (λh=>e2▸h) (λh=>by omega)));have N:=((ak.of D.g).trans M).trans ((ak.of p).trans (ak.of r));refine N.mono (λk y h=>?_);obtain(h|h)|(h|h):=h
 cases h;exact h;have:=aJ h;omega;cases h;have s:=(d.lt j e).1;have U:=z.lt j K;omega
theorem Mg(w:World)(xb sb:Nat)(st:aK)(A:Nat->Prop)(n:Nat)(h:cE w xb sb st A)(al:eh n st)(hn:n<=100000)(hL:Laid w)(q:gK)(ax:aR q.code)(hq:q.op=5)(hd:q.data.size<=1000000):
 Calls prog 60 #[.pointer (some ⟨xb,0,none⟩),.agg (dc q)] w (iE w xb sb A (st.do q)):=by
 obtain⟨R,K⟩:=exq (iE w xb sb A (st.do q));rw[<-K];obtain⟨W1,p,D⟩:=iw.mk' w q;obtain⟨cv,bP⟩:=aK.Mf al hn;have L:=J (LH p xb sb st A n (h.ah D.g) al hn);have a0:=J (λ(f:World)(C:ak p f A)=>D.kU h.lt C hd);have a1:=J (λ(f wr t i:World)(F:Nat->Prop)(d:List El)(r:Value)(T:kV f d d.length r wr)(L:cE f xb sb st.eY.1 F)(M:∀k,F k->A k\/p.heap.size<=k) (C:ak p f A) (s:∀e∈d,¬F e.1/\(A e.1\/p.heap.size<=e.1)) (u:d.map (·.2)=st.eY.2) (P:wr.grownBy t (some (w.heap.size+1))) (B:t.grownBy i none)=>(show R (.returned (.tuple #[.int .i64 0,.int .i64 (-1),.int .i64 0,.int .u64 0,.string ⟨#[]⟩,r])) i by
  have e:st.do q=(⟨0,-1,0,0,[],st.eY.2⟩,st.eY.1):=by unfold aK.do;rw[ay (by omega),ay (by omega),ay (by omega),ay (by omega),aM hq]
  rw[K,e];obtain⟨a,m,c,rfl,Q,h2,h3,h4,h5⟩:=kV.done D h.lt T L M C s P B;exact⟨a,m,c,rfl,u▸Q,F,h2,h3,h4,h5⟩))
 have cw:=mM q.data;have bS:=J td;obtain⟨d0,d1,d2,d3,d4⟩:p.cell? ⟨w.heap.size,0,none⟩=some (.int .i64 q.op)/\p.cell? ⟨w.heap.size,1,none⟩=some (.int .i64 q.stream)/\p.cell? ⟨w.heap.size,2,none⟩=some (.int .i64 q.n)/\p.cell? ⟨w.heap.size,3,none⟩=some (.int .u64 q.code)/\p.cell? ⟨w.heap.size,4,none⟩=some (.string q.data):=by simp[World.cell?,D.b,dc]
 have a2:=D.e1;have a4:=D.e2;have cx:=D.z;replace D:=J D;replace K:=J K;replace h:=J h;replace hL:=J hL;replace ax:=J ax;unfold dc at *;obtain⟨op,stream,qn,code,data⟩:=q;simp only at *;subst hq;go_enter func60,ntmps60;go_upto_region 3 with fail;rw[<-a2,<-a4];generalize grownCap W1 data.size 0 5=cap at *;clear a2 a4;go_wp2_with fail;refine(Z L).mono ?_;rintro e f⟨a3,n3,c3,d,F,rfl,H,N,u,I,M,S,G⟩;have cy:d.length<=50:=by have:=fj List.length u;rw[dY]at this;omega
 have a8:∀e∈d,e.2.length<=1000000:=λe s=>by
  have:=bP e.2 (by rw[<-u];exact lM s);omega
 obtain⟨a',c',ev,cR,b0,-,bb⟩:=H.fL;obtain⟨e1,e2,e3⟩:=fS ev;subst e1 e2 e3;have hF:=J (λ(wr t i:World)(r:Value)(T:kV f d d.length r wr)=>Z a1 f wr t i F d r T I M S (λe s=>⟨(G e s).1,(G e s).2.2⟩) u);have b3:=J (λ(wr:World) r(T:kV f d d.length r wr)=>Z a0 wr ((S.trans T.aq).mono (λk hk h=>h.elim id (λ⟨e,b4,e2⟩=>(G e (iY b4)).2.2.elim (λh=>e2▸h) (λh=>by omega)))) cap);have b5:Hid (kV f d 0 (.slice none 0 0) f):=J ⟨by simpa using fx.nil _ _,(ak.of (av f none)).mono (λk _ e=>by cases e)⟩;have db:0<f.heap.size:=by
  have:=I.lt xb I.j8;omega
 replace I:=J I;replace N:=J N;replace H:=J H;replace G:=J G;replace u:=J u;replace bb:=J bb;clear L a0 a1 M S;unfold maxLen at b0;go_upto_region 14 with fail;go_loopg [9,53] (d.length+1) (λg r b6 wr=>∃(j:Nat),j<=d.length/\b6=.int .i64 (j:Int)/\g=d.length+1-j/\kV f d j r wr);case atStart=>exact⟨0,by omega,rfl,by omega,Z b5⟩
 case round=>
  obtain⟨j,hj,rfl,rfl,l⟩:=hrel;obtain⟨a9,c9,rfl⟩:=l.own.fL;by_cases E:j<d.length
  ·have i1:(j:Int)<(d.length:Int):=by omega
   have i0:(0:Int)<=(j:Int):=by omega
   obtain⟨y,rfl⟩:∃y,a3=some y:=by
    cases a3 with
    |some y=>exact⟨y,rfl⟩
    |none=>
     obtain⟨a',c',ev,-,-,h0,-⟩:=(Z H).fL;obtain⟨e1,-,-⟩:=fS ev;have:=(h0 e1.symm).1;rw[this]at E;simp at E
   have bj:=l.row (Z H) (λe s=>(Z G e s).2.1);obtain⟨a',c',ev,-,-,-,br⟩:=bj.fL;obtain⟨e1,-,-⟩:=fS ev;obtain⟨-,ey,U⟩:=br y e1.symm;obtain⟨yb,b7⟩:=exq y.block;rw[<-b7]at ey U;subst ey;have de:wr.cell? ⟨yb,j,none⟩=some (jE (et d j)):=by
    have:=U j (jE (et d j)) (by rw[List.getElem?_map,vC E];rfl);rwa[dv]at this
   have V:=l.el (Z N) E a8;have dg:=sq V.fB;have bt:=J (λ(i:World)(B:wr.grownBy i none\/True)(ho:aX i 0 (jE (et d j)) (et d j).2)=>qm (some ⟨(et d j).1,0,none⟩) (et d j).2.length (et d j).2.length (et d j).2 i 0 ho (by have:=a8 _ (xZ E);omega));obtain⟨W,X⟩:=exq (wr.alloc (.cells #[.string (strOfNums (et d j).2)] 9));have O:wr.grownBy W none:=by rw[X];exact aC _ _ _
   have bx:W.cell? ⟨wr.heap.size,0,none⟩=some (.string (strOfNums (et d j).2)):=by
    have:=aH wr (.cells #[.string (strOfNums (et d j).2)] 9);rw[<-X]at this;simp[World.cell?,this]
   have bz:=l.own.aq (ak.of O) (λk _ e=>by cases e);obtain⟨a5,n5,c5,i,Y,bL,B⟩:=Md (w:=W) 44 f.heap.size _ _ bz wr.heap.size 1 (et d j).2 bx (by simp;omega) (bC l.aq.size O.size);have b8:(et d j).1<f.heap.size:=(Z N).lt (xZ E);have bM:aX i 0 (jE (et d j)) (et d j).2:=by
    refine(V.ah O).gb B (.inr (λe=>?_));have Q:(jE (et d j)).ownBlock=some (et d j).1:=rfl;rw[Q]at e;have:=(l.own.lt _ e.symm).1;omega
   have ca:=J (Z bt i (.inr trivial) bM);have cf:=J (λw6(g6:i.grownBy w6 (some (et d j).1))=>l.step E O bL B g6 b8);generalize dk:et d j=el at *;obtain⟨eb,dn⟩:=el;unfold jE at *;simp only at *;replace l:=J l;replace Y:=J Y;clear V bj br U bx bz bL bM bt;go_upto_region 16 with fail;go_wp2_with (at_builtin;rw[<-X];refine oR (by rfl) 44 44 (by rfl) _ _ (by rfl) _ _ _ (by rfl) (by rfl) (Z Y) ?_);refine(Z ca).mono ?_;rintro e w6⟨rfl,g6⟩;have cg:=J (Z cf w6 g6);go_wp2_with fail;go_roundg (d.length+1-(j+1));case measure=>omega
   case rel=>exact⟨j+1,by omega,by push_cast;rfl,rfl,Z cg⟩
  have ch:j=d.length:=by omega
  subst ch;have cj:=J (Z b3 wr _ l);have cp:=J (λt i=>Z hF wr t i _ l);have i1:¬((d.length:Int)<(d.length:Int)):=by omega
  replace l:=J l;go_wp2_with fail;refine(Z cj).mono ?_;rintro e t⟨rfl,P⟩;go_wp2_with fail;refine(Z bS _).mono ?_;rintro e i⟨rfl,B⟩;have hf:=J (Z cp _ _ P B);go_wp2_with fail;first|exact Z hf|exact cz (v:=.tuple #[.int .i64 0,.int .i64 (-1),.int .i64 0,.int .u64 0,.string ⟨#[]⟩,.slice a9 (List.map (λx=>x.2) (List.take d.length d)).length c9]) (by simp[results,results60,go_sem]) rfl (Z hf)
theorem Mh(w:World)(xb sb:Nat)(st:aK)(A:Nat->Prop)(n:Nat)(h:cE w xb sb st A)(a:eh n st)(b:n<=100000)(c:Laid w)(q:gK)(d:aR q.code)(hd:q.data.size<=1000000):
 Calls prog 60 #[.pointer (some ⟨xb,0,none⟩),.agg (dc q)] w (iE w xb sb A (st.do q)):=by
 by_cases e:q.op=1;exact LO w xb sb st A n h a b c q d e hd;by_cases f:q.op=2;exact LL w xb sb st A n h a b c q d f hd;by_cases g:q.op=3;exact LM w xb sb st A n h a b c q d g hd;by_cases i:q.op=4;exact LR w xb sb st A n h a b c q d i hd;by_cases j:q.op=5;exact Mg w xb sb st A n h a b c q d j hd;by_cases k:q.op=6;exact LS w xb sb st A n h a b c q d k hd;by_cases l:q.op=7;exact LV w xb sb st A n h a b c q d l hd;by_cases m:q.op=8;exact LN w xb sb st A n h a b c q d m hd;by_cases p:q.op=9;exact LQ w xb sb st A n h a b c q d p hd;exact LU w xb sb st A n h a b c q d (by omega) hd
theorem cF.yc(h:cF X n)(k:Nat)(o:Ot)(f:k<4->eD o)(g:k<4->(o.h.bytes.length:Int)<=X.ai)(i:k<4->0<=o.aE/\o.aE<=4096)(l:k<4->0<=o.code/\o.code<=4611686018427387903):cF {X with out:=aw X.out k o} n:=by
 have c:∀(P:Nat->Ot->Prop),(k<4->P k o)->(∀j,j<4->P j (X.out j))->∀j,j<4->P j (aw X.out k o j):=λP a b j d=>by
  by_cases e:j=k;subst e;rw[bm];exact a d;rw[bq _ _ e];exact b j d
 exact{h with out:=c (λ_ o=>eD o) f h.out,oX:=c (λ_ o=>(o.h.bytes.length:Int)<=X.ai) g h.oX,aE:=c (λ_ o=>0<=o.aE/\o.aE<=4096) i h.aE,code:=c (λ_ o=>0<=o.code/\o.code<=4611686018427387903) l h.code}
theorem cF.yd(h:cF X n)(k:Nat)(i:It)(b:k<4->iD X.ai i):cF {X with aT:=aw X.aT k i} n:=by
 have c:∀j,j<4->iD X.ai (aw X.aT k i j):=λj a=>by
  by_cases e:j=k;subst e;rw[bm];exact b a;rw[bq _ _ e];exact h.aT j a
 exact{h with aT:=c}
theorem Mi(h:cF X n)(a:k<4)(l:List Int):cF (X.write k l).2.2 n:=by
 unfold Sd.write;split;exact h;have b:=h.out k a;have d:=b.en;have hl:=h.oX k a;unfold Ot.en at d;have c:(((X.out k).wrote l X.ai).h.bytes.length:Int)<=X.ai/\(X.out k).h.fr+((X.out k).wrote l X.ai).h.bytes.length<=4096:=by
  unfold Ot.wrote Ot.iP;simp only[bG,cC]
  omega
 refine h.yc k _ (λ_=>⟨b.ok,b.jC,b.fr,b.low,b.hole,?_⟩) (λ_=>c.1) (λa=>h.aE k a) (λa=>h.code k a);exact c.2
theorem Mj(h:cF X n)(a:k<4):cF (X.finish k).2 n:=by
 unfold Sd.finish;split;exact h;exact h.yc k _ (λa=>(h.out k a).same rfl) (λa=>h.oX k a) (λa=>h.aE k a) (λa=>h.code k a)
theorem Mk(h:cF X n)(b:k<4)(c:aR p):cF (X.giveUp k p).2 n:=by
 unfold Sd.giveUp;split;exact h;rename_i d;have a:=h.out k b;have g:=h.ai;have f:=a.en;unfold Ot.en at f;refine h.yc k _ (λ_=>⟨a.ok,a.jC,a.fr,a.low,a.hole,?_⟩) (λ_=>by unfold Ot.giveUp;simp;omega) (λb=>h.aE k b) (λ_=>⟨c.1,?_⟩);unfold Ot.giveUp Ot.en;simp;omega;show p<=_;have:¬(4611686018427387903<p):=λe=>d (.inr e)
 omega
theorem Ml(h:cF X n):cF X.jf (n+1):=by
 have b:=h.mono (df n);have c:=h.tick;have d:=h.wait;unfold Sd.jf;split;exact{b with
  pk:=λx a=>h.pk x (by simp at a;simp;exact a.symm),num:=λx a=>(by cases a),fl:=(by simp),fp:=λx a=>(by cases a),ft:=λx a=>(by cases a),tick:=(by simp only;omega),wait:=(by simp only;omega),ll:=(by have:=h.ll;simp only[bG,fH];omega)}
 exact{b with ft:=λx a=>(by have:=h.ft x a;simp only;omega),tick:=(by simp only;omega)}
theorem Mm(i:It)(bI:Int)(h:0<=dK i.h/\dK i.h<=i.h.bytes.length):(i.jU bI:Int)<=dK i.h:=by
 unfold It.jU;omega
theorem iD.read(h:iD p E)(j:0<=p)(bI:Int):iD p (E.read bI):=by
 unfold It.read;split;exact h;have f:=h.whole;have a:=Mm E bI f;have k:=h.fr;have l:=h.len;have n:=h.en;refine⟨h.ok,by simp only;omega,λm c=>?_,λm c=>?_,λd m h0 e=>?_,?_,?_,λd=>?_⟩
 have:=h.jC m c;simp only;omega;have:=h.rQ m c;simp only[dO];omega;simp only at e;by_cases hl:m<E.h.fr;exact h.low d m h0 hl;unfold dK at a f;split at a;omega;rename_i b;cases g:E.h.ag with
 |nil=>rw[g]at b;simp at b
 |cons r t=>
  rw[g]at b a;have e0:au (r::t) 0=r:=rfl;rw[e0]at b a;exact⟨r,by simp,by omega,by omega⟩
 simp only[dO];omega;simp only[dO];omega;obtain⟨e,i⟩:=h.tf d;exact⟨e,by simp[i]⟩
theorem Mn(h:cF X n)(k:Nat)(bI:Int):cF {X with aT:=aw X.aT k ((X.aT k).read bI)} n:=
 h.yd k _ (λa=>(h.aT k a).read (by have:=h.ai;omega) bI)
theorem Mo(h:aZ Y)(l:Y.length<=8)(f:∀r∈Y,0<=r.lo/\r.hi<=4611686018427387904)(m:0<=q/\q<=4611686018427387903):aZ (fX Y p q).1/\(fX Y p q).1.length<=8/\∀r∈(fX Y p q).1,0<=r.lo/\r.hi<=4611686018427387904:=by
 have b:=oG ⟨q,q+1⟩ h;have hl:=zq Y ⟨q,q+1⟩;have g:∀r∈dT Y ⟨q,q+1⟩,0<=r.lo/\r.hi<=4611686018427387904:=λr a=>by
  have i:=b.2 r a;have c:=(lT ⟨q,q+1⟩ h r.lo).1 ⟨r,a,fI _,i⟩;have d:=(lT ⟨q,q+1⟩ h (r.hi-1)).1 ⟨r,a,by omega,by omega⟩;refine⟨?_,?_⟩
  obtain⟨x,e,j,k⟩|c:=c
  have:=f x e;omega;simp only at c;omega;obtain⟨x,e,j,k⟩|d:=d
  have:=f x e;omega;simp only at d;omega
 unfold fX;split;refine⟨⟨b.1.sublist (List.drop_sublist _ _),λr a=>b.2 r (iZ a)⟩,by simp;omega,λr a=>g r (iZ a)⟩
 refine⟨b,?_,g⟩
 show(dT Y ⟨q,q+1⟩).length<=8;omega
theorem Mp(l:List (Int×Pc)):∀(out:Nat->Ot)(k:Nat),(dy out l k).aE=(out k).aE/\(dy out l k).code=(out k).code/\(dy out l k).h.bytes.length<=(out k).h.bytes.length:=by
 induction l with
 |nil=>intro out k;exact⟨rfl,rfl,aI _⟩
 |cons x l f=>
  intro out k;have e:dy out (x::l)=dy (aw out x.1.toNat ((out x.1.toNat).eU x.2)) l:=rfl;rw[e];obtain⟨b,c,a⟩:=f (aw out x.1.toNat ((out x.1.toNat).eU x.2)) k;by_cases d:k=x.1.toNat;rw[b,c];rw[<-d]at a⊢;rw[bm]at a⊢;refine⟨rfl,rfl,bC a ?_⟩
  unfold Ot.eU;simp only[dO];omega;rw[bq _ _ d]at b c a;exact⟨b,c,a⟩
theorem Mq{α:Type}(l:List α)(p:α->Bool):(l.filter p).length+(l.filter (λx=> !p x)).length=l.length:=by
 induction l with
 |nil=>rfl
 |cons a l b=>cases h:p a<;>simp[h]<;>omega
theorem Mr(h:cF X n)(f:n<=100000)(l:List Rg):cF (X.dR l) n:=by
 have e:=(h.CK f).dR l;obtain⟨i,j⟩:=Cy X l;have m:=h.fl;have c:=Mp (mu (λx=>bw l x.num) X.az++mu (λx=>bw l x.num) X.lost) X.out;have d:∀x∈(X.dR l).az,x∈X.az:=λx a=>by
  have a:x∈(X.az.filter (λx=> !bw l x.num)).filter (λx=> !decide (x.num+3<=(au l 0).hi)):=a;exact(jR.1 (jR.1 a).1).1
 have p:(X.dR l).lost.length+(X.dR l).az.length<=X.lost.length+X.az.length:=by
  have e1:(X.dR l).az=(X.az.filter (λx=> !bw l x.num)).filter (λx=> !decide (x.num+3<=(au l 0).hi)):=rfl;have e2:(X.dR l).lost=(X.eN l).lost.filter (λx=> !x.ps.all (kx ((X.eN l).out x.st.toNat))):=rfl;have q:(X.eN l).lost.length=(X.lost.filter (λx=> !bw l x.num)).length+((X.az.filter (λx=> !bw l x.num)).filter (λx=>decide (x.num+3<=(au l 0).hi))).length:=by unfold Sd.eN;simp only[bG]
  have b1:=oa (λx:Pk=> !x.ps.all (kx ((X.eN l).out x.st.toNat))) (X.eN l).lost;have b2:=Mq (X.az.filter (λx=> !bw l x.num)) (λx=>decide (x.num+3<=(au l 0).hi));have r:=oa (λx:Pk=> !bw l x.num) X.az;have s:=oa (λx:Pk=> !bw l x.num) X.lost;rw[e1,e2];omega
 have g:0<=(X.dR l).wait/\(X.dR l).wait<=32:=by
  show 0<=(if X.az.any (λx=>bw l x.num)then(4:Int)else X.wait)/\(if X.az.any (λx=>bw l x.num)then(4:Int)else X.wait)<=32;have:=h.wait;split<;>omega
 have t:=h.ll;exact⟨h.key,h.ao,h.ai,e.out,λk b=>Int.le_trans (by have:=(c k).2.2;exact Int.ofNat_le.2 this) (h.oX k b),λk b=>by show 0<=(dy _ _ k).aE/\(dy _ _ k).aE<=4096;rw[(c k).1];exact h.aE k b,λk b=>by show 0<=(dy _ _ k).code/\(dy _ _ k).code<=_;rw[(c k).2.1];exact h.code k b,h.aT,e.pk,λx a=>h.num x (d x a),by omega,λx a=>h.fp x (d x a),λx a=>h.ft x (d x a),h.tick,g,h.cU,by omega,h.nd,h.c8,h.cr⟩
theorem CS(h:cF X n)(c:n<=100000)(hs:dm H)(ho:0<=H.offset)(d:m9 X H):cF (X.take H).2 n:=by
 have e:=hs.st;unfold Sd.take;split;split;exact h;exact Mr h c _;split;split;exact h;exact h.yd _ _ (λa=>(h.aT _ a).reset H);split;rename_i b;split;exact h;exact h.yd _ _ (λa=>(h.aT _ a).data H ho (hs.en b) (d b));split<;>exact h
theorem CT{n:Nat}(a:n<=100000):∀(b:List Fr)(s:Sd),cF s n->(∀f∈b,dm f/\0<=f.offset/\m9 s f)->cF (gJ s b).2 n
 |[],s,h,_=>h
 |f::r,s,h,c=>by
  obtain⟨d,e,i⟩:=c f (by simp);rw[vw];split;exact CT a r _ (CS h a d e i) (λg j=>by
   obtain⟨k,l,k3⟩:=c g (by simp[j]);exact⟨k,l,k3.same (take_same s f)⟩)
  exact CS h a d e i
theorem ye(s:Sd)(aF code:Int):(s.iu aF code).length<=1/\∀p∈s.iu aF code,(p.length:Int)<=300:=by
 unfold Sd.iu;split;exact⟨by simp,λp hp=>(by cases hp)⟩
 refine⟨by simp,λp hp=>?_⟩
 rw[dB.1 hp,m8];have e:bu [eE code]=28::aN code:=by simp[bu,cZ,eE]
 rw[e,dJ];have:=(gD code).2;omega
theorem Ms(a:∀x∈L,W8 x){x:Fr×Nat}(h:eR L t n=some x):0<=x.1.offset/\0<=x.1.code:=by
 unfold eR at h;split at h;cases h;simp[bX];split at h;cases h;simp[bX];split at h;obtain⟨y,-,h⟩:=qe.1 h;cases h;simp[bX];split at h;obtain⟨y,-,h⟩:=qe.1 h;obtain⟨z,b,h⟩:=qe.1 h;obtain⟨u,c,h⟩:=qe.1 h;cases h;exact⟨(kk a c).1.1,(kk a b).1.1⟩
 split at h;obtain⟨y,-,h⟩:=qe.1 h;obtain⟨z,b,h⟩:=qe.1 h;obtain⟨u,c,h⟩:=qe.1 h;cases h;exact⟨(kk a b).1.1,by simp[bX]⟩
 split at h;obtain⟨y,d,h⟩:=qe.1 h;cases h;exact⟨by simp[bX],(kk a d).1.1⟩
 cases h
theorem Mt(i:∀x∈L,W8 x):∀(k p:Nat)(c d:List Fr),ig L k p c=(some d,-1)->(∀f∈c,0<=f.offset/\0<=f.code)->∀f∈d,0<=f.offset/\0<=f.code:=by
 intro k;induction k with
 |zero=>intro p c d h;simp[ig]at h
 |succ k j=>
  intro p c d h e;unfold ig at h;split at h;split at h;simp at h;rename_i f q a;refine j _ _ _ h (λg b=>?_);obtain b|b:=ck.1 b
  exact e g b;rw[dB.1 b];unfold ml at a;obtain⟨x,l,a⟩:=qe.1 a;split at a;cases a;exact Ms i l;cases a;simp only[qi,kM]at h;rw[<-h.1];exact e
theorem Mu(b:∀x∈L,W8 x){a:List Fr}(h:fU L=(some a,-1)):∀f∈a,0<=f.offset/\0<=f.code:=by
 unfold fU at h;split at h;simp at h;exact Mt b _ _ _ _ h (λf c=>(by cases c))
theorem Mv(b:List Int):∀(k p:Nat)(a c:List Fr)(q:Int),ig b k p a=(some c,q)->q= -1:=by
 intro k;induction k with
 |zero=>intro p a c q h;simp[ig]at h
 |succ k d=>
  intro p a c q h;unfold ig at h;split at h;split at h;simp at h;exact d _ _ _ _ h;simp only[qi]at h;exact h.2.symm
theorem Mw{a:List Fr}(h:fU L=(some a,q)):q= -1:=by
 unfold fU at h;split at h;simp at h;exact Mv _ _ _ _ _ _ h
theorem Mx(hp:∀x∈L,W8 x):∀x∈bQ L,W8 x:=λx a=>hp x (iZ (iY a))
theorem My(hp:∀x∈L,W8 x):0<=bN L:=by
 have h:=sY L hp;unfold bN;by_cases hl:8<=L.length;exact(h 8 hl).1;rw[eG (by omega)];have:=(h L.length (aI _)).1;rwa[lh]at this
theorem Mz(h:cF X n)(a:0<=p/\p<=4611686018427387903)(b:List Fr):cF (X.dr p b) n:=by
 obtain⟨c,d,e⟩:=Mo (p:=X.floor) h.nd h.c8 h.cr a;exact{h with nd:=c,c8:=d,cr:=e}
theorem MA(h:cF X n)(c:n<=100000)(hp:∀x∈L,W8 x):eh n (X.recv L).2.2:=by
 unfold Sd.recv;split;exact h;rename_i d;split;exact h;split;exact ye _ _ _;rename_i a q hd;have:=Mw hd;subst this;have hs:=Cx hd;have ho:=Mu (uT (Mx hp)) hd;split;exact h;rename_i e;have g:a.any X.kC=false:=by simpa using e
 have i:gV X.key (sd (!X.first)) L:=by simpa using d
 have j:=CT c a _ (Mz h ⟨My hp,i.2.2.2⟩ a) (λf b=>⟨hs f b,(ho f b).1,CG g _ f b⟩);split;exact j;exact ye _ _ _
theorem MB{st:aK}(h:eh n st)(c:n<=100000)(q:gK)(e:aR q.code):eh (n+1) (st.do q).2:=by
 cases st with
 |shut aF l=>
  have a:eh (n+1) (.shut aF l):=h;have h0:eh (n+1) (.shut aF []):=⟨by simp,λp hp=>(by cases hp)⟩
  unfold aK.do;repeat' split
  all_goals first|exact a|exact h0
 |aL s=>
  have b:=h.mono (df n);have a:eh (n+1) (.aL s):=b;unfold aK.do;split;unfold aK.write;simp only;split;exact a;exact Mi b (by omega) _;split;unfold aK.finish;simp only;split;exact a;exact Mj b (by omega);split;unfold aK.giveUp;simp only;split;exact a;exact Mk b (by omega) e;split;exact Ml h;split;exact(CR h c).1;split;have:=MA h c (qR q.data);unfold aK.recv;simp only
  cases d:(s.recv (bl q.data)).2.2 with
  |aL f=>rw[d]at this;exact cF.mono this (df n)
  |shut aF l=>rw[d]at this;exact this
  split;unfold aK.read;simp only;split;exact a;exact Mn b _ _;split;unfold aK.close;simp only;split;exact a;exact ye _ _ _;split;exact a;exact a
theorem MC(h:kD p q)(d:di L)(n:Nat):cF (Sd.new p q L B) n:=by
 have f:eD Ot.new:=⟨aZ.nil,λm b=>absurd b (ij m),by simp[Ot.new],λm h0 c=>by simp[Ot.new]at c;omega,ij _,by simp[Ot.new,Ot.en]⟩
 have g:iD q It.new:=⟨aZ.nil,by simp[It.new],λm b=>absurd b (ij m),λm b=>absurd b (ij m),λ_ m h0 c=>by simp[It.new]at c;omega,by simp[It.new];unfold kD at h;omega,by simp[It.new],λe=>by simp[It.new]at e⟩
 unfold kD at h;exact⟨d,⟨h.1,h.2.1⟩,h.2.2,λ_ _=>f,λ_ _=>by simp[Sd.new,Ot.new];omega,λ_ _=>by simp[Sd.new,Ot.new],λ_ _=>by simp[Sd.new,Ot.new],λ_ _=>g,λx a=>(by cases a),λx a=>(by cases a),by simp[Sd.new],λx a=>(by cases a),λx a=>(by cases a),by simp[Sd.new],by simp[Sd.new],by simp[Sd.new];omega,by simp[Sd.new],aZ.nil,by simp[Sd.new],λr i=>(by cases i)⟩
