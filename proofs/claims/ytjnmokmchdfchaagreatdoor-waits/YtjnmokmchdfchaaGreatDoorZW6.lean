import Derived.Test.YtjnmokmchdfchaaGreatDoorZW5
set_option maxRecDepth 1000000
set_option maxHeartbeats 0
set_option linter.all false
namespace Go.Proofs.YtjnmokmchdfchaaGreatDoor
open Go.RowKit Tryz
attribute[local go_sem↓]Go.wp_at_zero Go.wp_at_succ
variable{C c:Array Value}{p:Int}{E:It}{L:List Int}{i j k l m n o:Nat}{a:Option Addr}{T:TypeId}{x y z:Value}{W w:World}
def mo(w a:World)(sb:Nat)(t:TypeId)(cs:Array Value)(c f:Nat)(vb vc:Value)(s:It):Prop:=
 ∃d b e,qY w a sb t cs d c 9 vb b/\gP a f d c b e s/\wL w a b vc e
def iz(cs:Array Value)(a:Nat)(s:It)(f:Fr):Array Value:=
 ((cs.setIfInBounds (a+3) (.int .u64 (max s.high (cq f)))).setIfInBounds (a+6) (.bool (s.ended||f.fin))).setIfInBounds (a+4) (.int .u64 (if f.fin then cq f else s.last))
theorem kn(cs:Array Value)(a:Nat)(s:It)(f:Fr)(i:Nat)(h:i≠a+3/\i≠a+6/\i≠a+4):(iz cs a s f)[i]?=cs[i]? :=by
 unfold iz;rw[aW (by omega),aW (by omega),aW (by omega)]
theorem zH(s:It)(f:Fr)(h:n+8<c.size):(iz c n s f)[n+3]?=some (.int .u64 (max s.high (cq f)))/\(iz c n s f)[n+6]?=some (.bool (s.ended||f.fin))/\(iz c n s f)[n+4]?=some (.int .u64 (if f.fin then cq f else s.last)):=by
 unfold iz;refine⟨?_,?_,?_⟩
 rw[aW (by omega),aW (by omega)];exact cB (by omega);rw[aW (by omega)];exact cB (by simp;omega);exact cB (by simp;omega)
theorem Fa(f:Fr)(a:c[n+4]?=some (.int .u64 E.last))(b:c[n+6]?=some (.bool E.ended))(d:f.fin=false):iz c n E f=c.setIfInBounds (n+3) (.int .u64 (max E.high (cq f))):=by
 unfold iz;rw[d];simp only[Bool.or_false,gp,gM]
 rw[sC (x:=.bool E.ended) (by rw[aW (by omega)];exact b),sC (x:=.int .u64 E.last) (by rw[aW (by omega)];exact a)]
theorem Fb(H:gP w m C l x z E)(d:jT w j x z)(f:Fr)(p:W.heap[j]?=some (.cells (iz C l E f) T (0,0)))(g:w.grownBy W (some j))(q:E.given=true):mo w W j T C l m x z (E.data f):=by
 obtain⟨k3,r,k4⟩:=zH E f (gF H.c8);refine⟨_,x,z,⟨p,by simp[iz],λi hi=>kn _ _ _ _ _ (by omega),(ak.of g).mono (λk _ e=>.inl (aJ e).symm),.inl rfl⟩,?_,.inl rfl⟩
 have b:(E.data f).h=E.h:=by simp[It.data,q]
 refine⟨?_,?_,?_,k3,k4,?_,r,?_,?_,?_,?_⟩
 rw[kn _ _ _ _ _ (by omega),b];exact H.c0;rw[kn _ _ _ _ _ (by omega)];exact H.c1;rw[kn _ _ _ _ _ (by omega)];exact H.c2;rw[kn _ _ _ _ _ (by omega)];exact H.c5;rw[kn _ _ _ _ _ (by omega)];exact H.c7;rw[kn _ _ _ _ _ (by omega)];exact H.c8;rw[b];exact H.own.gb g (.inr d.1);obtain⟨a,n,c,e,s⟩:=H.set;rw[b];exact⟨a,n,c,e,s.gb g (λy t e2=>by subst t;exact(d.2 y n c e).1 (aJ e2).symm)⟩
theorem Fc(H:gP w o c l x z E)(B:E.h.nice)(D:o<=w.heap.size)(d:jT w j x z)(S:j<w.heap.size)(f:Fr)(v:Value)(F:0<=f.offset)(hs:cq f<=4611686018427387903)(G:∀m,f.offset<=m->m<cq f->¬Sm E.h.ag m->E.h.fr<=m/\m<E.h.fr+900000)
 (q:W.heap[j]?=some (.cells (iz c l E f) T (0,0))) (g:w.grownBy W (some j)) (I:E.given=false):
 Calls prog 258 #[.pointer (some ⟨j,l,none⟩),.agg (bF f v)] W λr A=>r=.returned (.tuple #[])/\mo w A j T c l o x z (E.data f):=by
 obtain⟨ab,nb,cb,ac,nc,cc,rfl,rfl⟩:=H.mn;have s:ba w ac nc cc E.h.ag:=by obtain⟨a,n,t,e,s⟩:=H.set;cases e;exact s
 have K:ba W ac nc cc E.h.ag:=s.gb g (λy L e2=>by subst L;exact(d.2 y nc cc rfl).1 (aJ e2).symm);have ho:aX W o (.slice ab nb cb) E.h.bytes:=H.own.gb g (.inr d.1);obtain⟨k3,M,k4⟩:=zH E f (gF H.c8);have N:gE W j l ab nb cb ac nc cc E.h:=by
  refine⟨?_,?_,?_,ho.fB,K,B⟩
  rw[aU q,kn _ _ _ _ _ (by omega)];exact H.c0;rw[aU q,kn _ _ _ _ _ (by omega)];exact H.c1;rw[aU q,kn _ _ _ _ _ (by omega)];exact H.c2
 refine(E9 W j l o _ T ab nb cb ac nc cc E.h q N ho (bC D g.size) d.1 (λy e=>⟨(d.2 y nc cc (by rw[e])).1,(d.2 y nc cc (by rw[e])).2.1⟩) f v F hs G).mono ?_;rintro r A⟨rfl,a,n,t,u,n2,c2,O,P,Q,C,new,fr⟩;refine⟨rfl,_,.slice a n t,.slice u n2 c2,⟨O,by simp[iz],λi hi=>?_,((ak.of g).trans C).mono (λk _ p=>?_),new.imp id (λe k R=>bC g.size (e k R))⟩,?_,?_⟩
 rw[aW (by omega),aW (by omega),kn _ _ _ _ _ (by omega)];obtain p|p:=p
 exact .inl (aJ p).symm;exact p;have U:=gF H.c8;have hd:(E.data f).h=⟨E.h.fr,jc E.h.fr f.offset (bl f.data) (jz E.h.ag ⟨f.offset,cq f⟩) E.h.bytes,dT E.h.ag ⟨f.offset,cq f⟩⟩:=by simp[It.data,I]
 have b:∀i,i≠l+1->i≠l+2->(((iz c l E f).setIfInBounds (l+1) (.slice a n t)).setIfInBounds (l+2) (.slice u n2 c2))[i]?=(iz c l E f)[i]? :=λi V X=>by
  rw[aW (by omega),aW (by omega)]
 refine⟨?_,?_,?_,?_,?_,?_,?_,?_,?_,?_,?_⟩
 rw[b _ (by omega) (by omega),kn _ _ _ _ _ (by omega),hd];exact H.c0;rw[aW (by omega)];exact cB (by simp[iz];omega);exact cB (by simp[iz];omega);rw[b _ (by omega) (by omega)];exact k3;rw[b _ (by omega) (by omega)];exact k4;rw[b _ (by omega) (by omega),kn _ _ _ _ _ (by omega)];exact H.c5;rw[b _ (by omega) (by omega)];exact M;rw[b _ (by omega) (by omega),kn _ _ _ _ _ (by omega)];exact H.c7;rw[b _ (by omega) (by omega),kn _ _ _ _ _ (by omega)];exact H.c8;rw[hd];exact P;rw[hd];exact⟨u,n2,c2,rfl,Q⟩
 obtain⟨rfl,rfl,rfl⟩|fr:=fr
 exact .inl rfl;exact .inr (λy Y c3 e=>by cases e;exact⟨bC g.size (fr y rfl).1,(fr y rfl).2.1,(fr y rfl).2.2⟩)
theorem Fe(w:World)(sb a D:Nat)(cs:Array Value)(t:TypeId)(vb vc:Value)(s:It)(P:w.heap[sb]?=some (.cells cs t (0,0)))(H:gP w D cs a vb vc s)(hn:s.h.nice)(bL:D<=w.heap.size)(a0:jT w sb vb vc)
 (f:Fr) (p:Value) (hf:0<=f.offset) (hs:cq f<=4611686018427387903) (bM:s.given=false->∀m,f.offset<=m->m<cq f->¬Sm s.h.ag m->s.h.fr<=m/\m<s.h.fr+900000):
 Calls prog 219 #[.pointer (some ⟨sb,a,none⟩),.agg (bF f p)] w λr i=>(s.bad f=true/\r=.returned (.iface 34 (.int .i64 7))/\w.grownBy i none)\/(s.bad f=false/\r=.returned .nilIface/\mo w i sb t cs a D vb vc (s.data f)):=by
 obtain⟨ab,nb,cb,ac,nc,cc,rfl,rfl⟩:=H.mn;obtain⟨R,q⟩:∃R:Ending->World->Prop,R=λr i=>(s.bad f=true/\r=.returned (.iface 34 (.int .i64 7))/\w.grownBy i none)\/(s.bad f=false/\r=.returned .nilIface/\mo w i sb t cs a D (.slice ab nb cb) (.slice ac nc cc) (s.data f)):=⟨_,rfl⟩
 rw[<-q];replace q:=J q;have y:=J (λW=>wu W f p hf (by omega));have hT:=H.tail P;have Q:=J (λW(g:w.grownBy W none)=>zo W sb a s (hT.ah g) (cq f));have bP:sb<w.heap.size:=(aO.1 P).1;obtain⟨c3,c4,c5,c6,c7,c8⟩:=hT;obtain⟨W1,u⟩:=exq (w.alloc (.cells (bF f p) 158));have g1:w.grownBy W1 none:=by rw[u];exact aC _ _ _
 have E:W1.heap[w.heap.size]?=some (.cells (bF f p) 158 (0,0)):=by rw[u];exact aH _ _
 obtain⟨q0,q1,q2,q3,S,q5,q6⟩:=cH E;have j:Hid (s.bad f=((s.ended&&decide (s.last<cq f))||(f.fin&&s.jS (cq f)))):=J rfl;obtain⟨bad,x⟩:=exq (s.bad f);obtain⟨en,n⟩:=exq (cq f);obtain⟨mv,F⟩:=exq (s.jS (cq f));rw[<-x,<-F,<-n]at j;rw[<-F,<-n]at Q;rw[<-n]at y;replace x:=J x;replace F:=J F;replace n:=J n;unfold bF at u y;unfold bF;obtain⟨fin,k⟩:=exq f.fin;rw[<-k]at S u y j;simp only[<-k]
 replace k:=J k;replace E:=J E;go_enter func219,ntmps219;go_wp2_with fail;rw[<-u];clear u;refine(Z y _).mono ?_;rintro e G⟨rfl,T⟩;have b:=aj g1 T;have d3:=b.cell c3 (by simp);have d4:=b.cell c4 (by simp);have d6:=b.cell c6 (by simp);have d7:=b.cell c7 (by simp);have p4:=T.cell S (by simp);have I:=bf (Z E) T;have c:=bf P b;have f3:G.frozen? ⟨sb,a+3,none⟩=false:=by simp[World.frozen?,c]
 have f4:G.frozen? ⟨sb,a+4,none⟩=false:=by simp[World.frozen?,c]
 have f6:G.frozen? ⟨sb,a+6,none⟩=false:=by simp[World.frozen?,c]
 have l:w.heap.size≠sb:=by omega
 have cp:sb≠w.heap.size:=by omega
 clear c3 c4 c5 c6 c7 c8 q0 q1 q2 q3 S q5 q6 y;obtain⟨ended,K⟩:=exq s.ended;obtain⟨given,z⟩:=exq s.given;obtain⟨last,L⟩:=exq s.last;obtain⟨high,A⟩:=exq s.high;rw[<-K]at d6 j;rw[<-L]at d4 j;rw[<-z]at d7;rw[<-A]at d3;replace K:=J K;replace z:=J z;replace L:=J L;replace A:=J A;replace I:=J I;replace c:=J c;go_upto_region 2 with fail;go_cut [28] (λv wx=>v=.bool bad/\wx=G);case first=>
  by_cases a4:last<en
  ·cases ended
   ·cases fin
    ·go_wp2_with fail;go_meet;exact⟨by rw[Z j];simp,rfl⟩
    go_wp2_with (first|(go_at_call 257;refine(Z Q _ b).mono ?_;rintro e w5⟨rfl,rfl⟩));go_meet;exact⟨by rw[Z j];simp,rfl⟩
   have cv:decide (last<en)=true:=bp a4;go_wp2_with fail;go_meet;exact⟨by rw[Z j];simp_all,rfl⟩
  have b8:decide (last<en)=false:=bB a4;cases ended<;>cases fin;all_goals
   go_wp2_with (first|(go_at_call 257;refine(Z Q _ b).mono ?_;rintro e w5⟨rfl,rfl⟩))
   go_meet
   exact⟨by rw[Z j];simp[b8],rfl⟩
 case rest=>
  obtain⟨rfl,rfl⟩:=hcut;rename World=>B
  cases bad
  ·have a9:Hid (∀W,W.heap[sb]?=some (.cells (iz cs a s f) t (0,0))->w.grownBy W (some sb)->s.given=true->R (.returned .nilIface) W):=J (λW U V M=>by rw[Z q];exact .inr ⟨(Z x).symm,rfl,Fb H a0 f U V M⟩);have N:Hid (∀W,W.heap[sb]?=some (.cells (iz cs a s f) t (0,0))->w.grownBy W (some sb)->s.given=false->Calls prog 258 #[.pointer (some ⟨sb,a,none⟩),.agg (bF f p)] W λr i=>r=.returned (.tuple #[])/\R (.returned .nilIface) i):=J (λW U V M=>(Fc H hn bL a0 bP f p hf hs (bM M) U V M).mono (λr i h=>⟨h.1,by rw[Z q];exact .inr ⟨(Z x).symm,rfl,h.2⟩⟩));unfold bF at N;rw[<-Z k]at N;rw[<-Z z]at a9 N;have X:Hid (iz cs a s f=((cs.setIfInBounds (a+3) (.int .u64 (max high en))).setIfInBounds (a+6) (.bool (ended||fin))).setIfInBounds (a+4) (.int .u64 (if fin then en else last))):=J (by unfold iz;rw[Z K,Z L,Z A,Z n,Z k]);have bb:Hid (fin=false->iz cs a s f=cs.setIfInBounds (a+3) (.int .u64 (max high en))):=J (λe=>by rw[Fa f H.c4 H.c6 (by rw[<-Z k];exact e),Z A,Z n]);obtain⟨p0,p1,p2,p3,-,p5,p6⟩:=cH (Z I);replace p0:=kg (n:=sb) p0 l;replace p1:=kg (n:=sb) p1 l;replace p2:=kg (n:=sb) p2 l;replace p3:=kg (n:=sb) p3 l;replace p4:=kg (n:=sb) p4 l;replace p5:=kg (n:=sb) p5 l;replace p6:=kg (n:=sb) p6 l;obtain⟨Y,O⟩:=exq (max high en);rw[<-O]at X bb;replace O:=J O;go_upto_region 4 with fail;go_cut [] (λwx=>wx=B.setCell ⟨sb,a+3,none⟩ (.int .u64 Y));case first=>
    have e5:Hid (Y=if high<en then en else high):=J (by rw[Z O];split<;>omega);by_cases hh:high<en
    ·go_wp2_with fail;go_meet;rw[Z e5,aM hh]
    go_wp2_with fail;go_meet;rw[Z e5,ay (by omega)]
   case rest=>
    rename World=>wd
    have gw:B.grownBy wd (some sb):=by rw[hcut];exact aD (av _ _) _ _ (.inr rfl)
    have d:wd.heap[sb]?=some (.cells (cs.setIfInBounds (a+3) (.int .u64 Y)) t (0,0)):=by rw[hcut];exact heap_set (Z c) _
    clear hcut;have k4:wd.cell? ⟨sb,a+4,none⟩=some (.int .u64 last):=by
     rw[aU d,aW (by omega)];exact(aU (Z c) _).symm.trans d4
    have k6:wd.cell? ⟨sb,a+6,none⟩=some (.bool ended):=by
     rw[aU d,aW (by omega)];exact(aU (Z c) _).symm.trans d6
    have k7:wd.cell? ⟨sb,a+7,none⟩=some (.bool given):=by
     rw[aU d,aW (by omega)];exact(aU (Z c) _).symm.trans d7
    have f4:wd.frozen? ⟨sb,a+4,none⟩=false:=by simp[World.frozen?,d]
    have f6:wd.frozen? ⟨sb,a+6,none⟩=false:=by simp[World.frozen?,d]
    replace d:=J d;clear d3 d4 d6 d7 f3;go_upto_if 40 with fail;go_cut [] (λwx=>wx.heap[sb]?=some (.cells (iz cs a s f) t (0,0))/\B.grownBy wx (some sb));case first=>
     cases fin
     ·go_wp2_with fail;go_meet;exact⟨by rw[Z bb (by trivial)];exact Z d,gw⟩
     go_wp2_with fail;go_meet;simp only[Bool.or_true,fJ]at X;exact⟨by rw[Z X];exact heap_set (heap_set (Z d) _) _,aD (aD gw _ _ (.inr rfl)) _ _ (.inr rfl)⟩
    case rest=>
     obtain⟨C,g7⟩:=hcut;have k9:wc.cell? ⟨sb,a+7,none⟩=some (.bool given):=by
      rw[aU C,kn _ _ _ _ _ (by omega),Z z];exact H.c7
     have bx:=aj (cO b (some sb)) g7;replace C:=J C;clear k4 k6 k7 f4 f6 p4;have p4:∀W,B.grownBy W (some sb)->W.cell? ⟨w.heap.size,4,none⟩=some (.bool fin):=by
      have:=(cH (Z I)).2.2.2.2.1;rw[<-Z k]at this;exact kg this l
     cases given
     ·go_wp2_with fail;refine(Z N wc (Z C) bx (by trivial)).mono ?_;rintro e w5⟨rfl,al⟩;replace al:=J al;go_wp2_with fail;exact Z al
     go_wp2_with fail;exact Z a9 wc (Z C) bx (by trivial)
  have ax:R (.returned (.iface 34 (.int .i64 7))) B:=by rw[Z q];exact .inl ⟨(Z x).symm,rfl,b⟩
  replace ax:=J ax;go_wp2_with fail;exact Z ax
def It.reset(s:It)(f:Fr):It:=
 {s with ended:=true,last:=f.offset,given:=true,code:=if s.given then s.code else f.code,h:=if s.given then s.h else⟨s.h.fr,[],[]⟩}
def gG(cs:Array Value)(a:Nat)(f:Fr):Array Value:=(cs.setIfInBounds (a+6) (.bool true)).setIfInBounds (a+4) (.int .u64 f.offset)
def lz(cs:Array Value)(a:Nat)(s:It)(f:Fr):Array Value:=(((((gG cs a f).setIfInBounds (a+7) (.bool true)).setIfInBounds (a+5) (.int .u64 f.code)).setIfInBounds a (.int .u64 s.h.fr)).setIfInBounds (a+1) (.slice none 0 0)).setIfInBounds (a+2) (.slice none 0 0)
theorem Ff(H:gP w m C l x z E)(q:jT w j x z)(f:Fr)(r:W.heap[j]?=some (.cells (gG C l f) T (0,0)))(g:w.grownBy W (some j))(d:E.given=true):mo w W j T C l m x z (E.reset f):=by
 have A:=gF H.c8;have b:∀i,i≠l+6->i≠l+4->(gG C l f)[i]?=C[i]? :=λi B D=>by
  unfold gG;rw[aW (by omega),aW (by omega)]
 refine⟨_,x,z,⟨r,by simp[gG],λi hi=>b i (by omega) (by omega),(ak.of g).mono (λk _ e=>.inl (aJ e).symm),.inl rfl⟩,?_,.inl rfl⟩
 have p:(E.reset f).h=E.h:=by simp[It.reset,d]
 have s:(E.reset f).code=E.code:=by simp[It.reset,d]
 have t:(E.reset f).given=E.given:=by simp[It.reset,d]
 refine⟨?_,?_,?_,?_,?_,?_,?_,?_,?_,?_,?_⟩
 rw[b _ (by omega) (by omega),p];exact H.c0;rw[b _ (by omega) (by omega)];exact H.c1;rw[b _ (by omega) (by omega)];exact H.c2;rw[b _ (by omega) (by omega)];exact H.c3;unfold gG;exact cB (by simp;omega);rw[b _ (by omega) (by omega),s];exact H.c5;unfold gG;rw[aW (by omega)];exact cB (by omega);rw[b _ (by omega) (by omega),t];exact H.c7;rw[b _ (by omega) (by omega)];exact H.c8;rw[p];exact H.own.gb g (.inr q.1);obtain⟨a,n,c,e,u⟩:=H.set;rw[p];exact⟨a,n,c,e,u.gb g (λy v e2=>by subst v;exact(q.2 y n c e).1 (aJ e2).symm)⟩
theorem Fg(H:gP w m C l x z E)(f:Fr)(p:W.heap[j]?=some (.cells (lz C l E f) T (0,0)))(g:w.grownBy W (some j))(d:E.given=false):mo w W j T C l m x z (E.reset f):=by
 have t:=gF H.c8;have a:∀i,i≠l+6->i≠l+4->i≠l+7->i≠l+5->i≠l->i≠l+1->i≠l+2->(lz C l E f)[i]?=C[i]? :=λi u v A B D F G=>by
  unfold lz gG;rw[aW (by omega),aW (by omega),aW (by omega),aW (by omega),aW (by omega),aW (by omega),aW (by omega)]
 refine⟨_,.slice none 0 0,.slice none 0 0,⟨p,by simp[lz,gG],λi hi=>a i (by omega) (by omega) (by omega) (by omega) (by omega) (by omega) (by omega),(ak.of g).mono (λk _ e=>.inl (aJ e).symm),.inr (λk e=>by cases e)⟩,?_,.inr (λy n c e=>by cases e)⟩
 have b:(E.reset f).h=⟨E.h.fr,[],[]⟩:=by simp[It.reset,d]
 have q:(E.reset f).code=f.code:=by simp[It.reset,d]
 refine⟨?_,?_,?_,?_,?_,?_,?_,?_,?_,?_,?_⟩
 unfold lz;rw[aW (by omega),aW (by omega),b];exact cB (by simp[gG];omega);unfold lz;rw[aW (by omega)];exact cB (by simp[gG];omega);unfold lz;exact cB (by simp[gG];omega);rw[a _ (by omega) (by omega) (by omega) (by omega) (by omega) (by omega) (by omega)];exact H.c3;unfold lz gG;rw[aW (by omega),aW (by omega),aW (by omega),aW (by omega),aW (by omega)];exact cB (by simp;omega);unfold lz;rw[aW (by omega),aW (by omega),aW (by omega),q];exact cB (by simp[gG];omega);unfold lz gG;rw[aW (by omega),aW (by omega),aW (by omega),aW (by omega),aW (by omega),aW (by omega)];exact cB (by omega);unfold lz;rw[aW (by omega),aW (by omega),aW (by omega),aW (by omega)];exact cB (by simp[gG];omega);rw[a _ (by omega) (by omega) (by omega) (by omega) (by omega) (by omega) (by omega)];exact H.c8;rw[b];exact aX.nil _ _;rw[b];exact⟨none,0,0,rfl,λr s=>by simp at s,rfl,aI _,by simp[maxLen],.inl rfl⟩
theorem Fh(w:World)(sb a C:Nat)(cs:Array Value)(t:TypeId)(vb vc:Value)(s:It)(q:w.heap[sb]?=some (.cells cs t (0,0)))(H:gP w C cs a vb vc s)(T:jT w sb vb vc)(f:Fr)(D:Value):
 Calls prog 218 #[.pointer (some ⟨sb,a,none⟩),.agg (bF f D)] w λr u=>(s.jS f.offset=true/\r=.returned (.iface 34 (.int .i64 7))/\w.grownBy u none)\/(s.jS f.offset=false/\r=.returned .nilIface/\mo w u sb t cs a C vb vc (s.reset f)):=by
 obtain⟨R,v⟩:∃R:Ending->World->Prop,R=λr u=>(s.jS f.offset=true/\r=.returned (.iface 34 (.int .i64 7))/\w.grownBy u none)\/(s.jS f.offset=false/\r=.returned .nilIface/\mo w u sb t cs a C vb vc (s.reset f)):=⟨_,rfl⟩
 rw[<-v];have K:=H.tail q;have E:=J (λW(g:w.grownBy W none)=>zo W sb a s (K.ah g) f.offset);have bP:sb<w.heap.size:=(aO.1 q).1;have L:Hid (s.jS f.offset=true->∀W,w.grownBy W none->R (.returned (.iface 34 (.int .i64 7))) W):=J (λh W g=>by rw[v];exact .inl ⟨h,rfl,g⟩);have F:Hid (s.jS f.offset=false->∀W,W.heap[sb]?=some (.cells (gG cs a f) t (0,0))->w.grownBy W (some sb)->s.given=true->R (.returned .nilIface) W):=J (λh W x y A=>by rw[v];exact .inr ⟨h,rfl,Ff H T f x y A⟩);have G:Hid (s.jS f.offset=false->∀W,W.heap[sb]?=some (.cells (lz cs a s f) t (0,0))->w.grownBy W (some sb)->s.given=false->R (.returned .nilIface) W):=J (λh W x y A=>by rw[v];exact .inr ⟨h,rfl,Fg H f x y A⟩);clear v;obtain⟨U,M⟩:=exq (s.jS f.offset);rw[<-M]at E L F G;clear M;obtain⟨c3,c4,c5,c6,c7,c8⟩:=K;have c0:=(aU q _).trans H.c0;have c1:=(aU q _).trans H.c1;have c2:=(aU q _).trans H.c2;obtain⟨l,p⟩:=exq (w.alloc (.cells (bF f D) 158));have c:w.grownBy l none:=by rw[p];exact aC _ _ _
 have I:l.heap[w.heap.size]?=some (.cells (bF f D) 158 (0,0)):=by rw[p];exact aH _ _
 obtain⟨V,X,Y,N,q4,q5,q6⟩:=cH I;have k:=bf q c;have d0:=c.cell c0 (by simp);have d1:=c.cell c1 (by simp);have d2:=c.cell c2 (by simp);have d4:=c.cell c4 (by simp);have d5:=c.cell c5 (by simp);have d6:=c.cell c6 (by simp);have d7:=c.cell c7 (by simp);have f0:l.frozen? ⟨sb,a,none⟩=false:=by simp[World.frozen?,k]
 have f1:l.frozen? ⟨sb,a+1,none⟩=false:=by simp[World.frozen?,k]
 have f2:l.frozen? ⟨sb,a+2,none⟩=false:=by simp[World.frozen?,k]
 have f4:l.frozen? ⟨sb,a+4,none⟩=false:=by simp[World.frozen?,k]
 have f5:l.frozen? ⟨sb,a+5,none⟩=false:=by simp[World.frozen?,k]
 have f6:l.frozen? ⟨sb,a+6,none⟩=false:=by simp[World.frozen?,k]
 have f7:l.frozen? ⟨sb,a+7,none⟩=false:=by simp[World.frozen?,k]
 clear c0 c1 c2 c3 c4 c5 c6 c7 c8 V X q4 q5 q6;unfold bF at p;unfold bF;replace I:=J I;replace k:=J k;have nS:w.heap.size≠sb:=by omega
 obtain⟨given,B⟩:=exq s.given;rw[<-B]at d7 F G;replace B:=J B;have hA:Hid (gG cs a f=(cs.setIfInBounds (a+6) (.bool true)).setIfInBounds (a+4) (.int .u64 f.offset)):=J rfl;have hB:Hid (lz cs a s f=(((((gG cs a f).setIfInBounds (a+7) (.bool true)).setIfInBounds (a+5) (.int .u64 f.code)).setIfInBounds a (.int .u64 s.h.fr)).setIfInBounds (a+1) (.slice none 0 0)).setIfInBounds (a+2) (.slice none 0 0)):=J rfl;cases U
 ·go_enter func218,ntmps218;go_wp2_with fail;rw[<-p];clear p;refine(Z E _ c).mono ?_;rintro e O⟨rfl,rfl⟩;go_upto_region 3 with fail;go_cut [] (λwx=>wx.heap[sb]?=some (.cells (gG cs a f) t (0,0))/\O.grownBy wx (some sb));case first=>
   go_region;go_wp2_with fail;go_meet;exact⟨by rw[Z hA];exact heap_set (heap_set (Z k) _) _,aP (aD (aD (av _ _) _ _ (.inr rfl)) _ _ (.inr rfl))⟩
  case rest=>
   obtain⟨b,P⟩:=hcut;rename World=>d
   have j:∀i,i≠a+6->i≠a+4->(gG cs a f)[i]?=cs[i]? :=λi x y=>by
    unfold gG;rw[aW (by omega),aW (by omega)]
   have e0:d.cell? ⟨sb,a,none⟩=some (.int .u64 s.h.fr):=by rw[aU b,j _ (by omega) (by omega)];exact H.c0
   have e1:d.cell? ⟨sb,a+1,none⟩=some vb:=by rw[aU b,j _ (by omega) (by omega)];exact H.c1
   have e2:d.cell? ⟨sb,a+2,none⟩=some vc:=by rw[aU b,j _ (by omega) (by omega)];exact H.c2
   have e5:d.cell? ⟨sb,a+5,none⟩=some (.int .u64 s.code):=by rw[aU b,j _ (by omega) (by omega)];exact H.c5
   have e7:d.cell? ⟨sb,a+7,none⟩=some (.bool given):=by rw[aU b,j _ (by omega) (by omega),Z B];exact H.c7
   have r0:d.frozen? ⟨sb,a,none⟩=false:=by simp[World.frozen?,b]
   have r1:d.frozen? ⟨sb,a+1,none⟩=false:=by simp[World.frozen?,b]
   have r2:d.frozen? ⟨sb,a+2,none⟩=false:=by simp[World.frozen?,b]
   have r5:d.frozen? ⟨sb,a+5,none⟩=false:=by simp[World.frozen?,b]
   have r7:d.frozen? ⟨sb,a+7,none⟩=false:=by simp[World.frozen?,b]
   have bx:=P.cell N (λe=>nS (aJ e));have Q:=aj (cO c (some sb)) P;clear j d0 d1 d2 d4 d5 d6 d7 f0 f1 f2 f4 f5 f6 f7 Y N;replace b:=J b;cases given
   ·go_upto_region 5 with fail;go_cut [] (λwx=>wx=((d.setCell ⟨sb,a+7,none⟩ (.bool true)).setCell ⟨sb,a+5,none⟩ (.int .u64 f.code)).drew);case first=>
     go_region;go_wp2_with fail;go_meet;rfl
    case rest=>
     rename World=>m
     have n:m.heap[sb]?=some (.cells (((gG cs a f).setIfInBounds (a+7) (.bool true)).setIfInBounds (a+5) (.int .u64 f.code)) t (0,0)):=by rw[hcut];exact heap_set (heap_set (Z b) _) _
     have g4:w.grownBy m (some sb):=by rw[hcut];exact aP (aD (aD Q _ _ (.inr rfl)) _ _ (.inr rfl))
     clear hcut;have j:∀i,i≠a+6->i≠a+4->i≠a+7->i≠a+5->(((gG cs a f).setIfInBounds (a+7) (.bool true)).setIfInBounds (a+5) (.int .u64 f.code))[i]?=cs[i]? :=λi x y A h4=>by
      unfold gG;rw[aW (by omega),aW (by omega),aW (by omega),aW (by omega)]
     have e0:m.cell? ⟨sb,a,none⟩=some (.int .u64 s.h.fr):=by rw[aU n,j _ (by omega) (by omega) (by omega) (by omega)];exact H.c0
     have e1:m.cell? ⟨sb,a+1,none⟩=some vb:=by rw[aU n,j _ (by omega) (by omega) (by omega) (by omega)];exact H.c1
     have e2:m.cell? ⟨sb,a+2,none⟩=some vc:=by rw[aU n,j _ (by omega) (by omega) (by omega) (by omega)];exact H.c2
     have r0:m.frozen? ⟨sb,a,none⟩=false:=by simp[World.frozen?,n]
     have r1:m.frozen? ⟨sb,a+1,none⟩=false:=by simp[World.frozen?,n]
     have r2:m.frozen? ⟨sb,a+2,none⟩=false:=by simp[World.frozen?,n]
     clear j e5 e7 r5 r7 bx;replace n:=J n;obtain⟨S,z⟩:=exq (((m.setCell ⟨sb,a,none⟩ (.int .u64 s.h.fr)).setCell ⟨sb,a+1,none⟩ (.slice none 0 0)).setCell ⟨sb,a+2,none⟩ (.slice none 0 0));have bL:Hid (S.heap[sb]?=some (.cells (lz cs a s f) t (0,0))):=J (by rw[z,Z hB];exact heap_set (heap_set (heap_set (Z n) _) _) _);have g5:w.grownBy S (some sb):=by rw[z];exact aD (aD (aD g4 _ _ (.inr rfl)) _ _ (.inr rfl)) _ _ (.inr rfl)
     replace z:=J z;go_wp2_with fail;rw[<-Z z];exact Z G (by trivial) _ (Z bL) g5 (by trivial)
   go_wp2_with fail;exact Z F (by trivial) _ (Z b) Q (by trivial)
 go_enter func218,ntmps218;go_wp2_with fail;rw[<-p];clear p;refine(Z E _ c).mono ?_;rintro e O⟨rfl,rfl⟩;go_wp2_with fail;exact Z L (by trivial) _ c
def It.jU(s:It)(bI:Int):Nat:=(max 0 (min bI (dK s.h))).toNat
def It.read(s:It)(bI:Int):It:=
 if s.given&& !s.over then s else
  {s with h:=⟨s.h.fr+s.jU bI,s.h.bytes.drop (s.jU bI),s.h.ag⟩,over:=s.ended&&(s.h.fr+s.jU bI==s.last)}
def It.out(s:It)(bI:Int):List Int:=if s.given&& !s.over then[]else s.h.bytes.take (s.jU bI)
def It.state(s:It)(bI:Int):Int:=if s.given&& !s.over then 2 else if(s.read bI).over then 1 else 0
def It.pL(s:It):Int:=if s.given&& !s.over then s.code else 0
def wM(w:World)(sb:Nat)(t:TypeId)(cs:Array Value)(f g:Nat)(vb vc:Value)(s:It)(bI:Int)(e:Ending)(d:World):Prop:=
 ∃a n c b,e=.returned (.tuple #[.slice a n c,.int .i64 (s.state bI),.int .u64 s.pL])/\aX d w.heap.size (.slice a n c) (s.out bI)/\w.grownBy b none/\(∀j,(Value.slice a n c).ownBlock=some j->j<b.heap.size)/\mo b d sb t cs f g vb vc (s.read bI)
theorem Fi(a:w.heap[n]?=some (.cells c T (0,0)))(H:gP w i c k x y E)(g:w.grownBy W none):mo w W n T c k i x y E:=
 ⟨c,x,y,qY.zG a g _ _ _,H.ah g,.inl rfl⟩
theorem Fj(a:Option Addr)(n cap i:Nat)(h:i<=cap)(W:World):(Instr.slice 112 (.slice a n cap) none (some (.int .i64 (i:Int))) (some (.int .i64 (i:Int)))).run prog W=.ok (.slice a i i) W:=by
 rw[run_slice_hm W 112 a n cap (by rw[qX];exact underlying112) .i64 .i64 (i:Int) (i:Int) (by omega) (fI _) (by omega),qX,wC];simp only[ic,sliced,jP,mK,Nat.sub_zero]
 congr 1;cases a with
 |none=>simp
 |some y=>simp[Addr.add]
theorem Fk(h:bh w a n k L)(m:Nat)(f:m<=n):bh w a m m (L.take m):=by
 obtain⟨d,g,i,j,c⟩:=h;refine⟨λx e=>d x (iY e),by rw[cC];omega,aI _,by omega,?_⟩
 obtain⟨c,l⟩|⟨b,o,rfl,c⟩:=c
 exact .inl ⟨c,by omega⟩;exact .inr ⟨b,o,rfl,wG c m⟩
def vcs(cs:Array Value)(a:Nat)(fr:Int)(vb:Value)(ov:Bool):Array Value:=((cs.setIfInBounds a (.int .u64 fr)).setIfInBounds (a+1) vb).setIfInBounds (a+8) (.bool ov)
theorem Fl(H:gP w m C l x z E)(f:jT w j x z)(q:m<=w.heap.size)(r:(E.given&& !E.over)=false)
 (s:W.heap[j]?=some (.cells (vcs C l (E.h.fr+E.jU p) y (E.ended&&(E.h.fr+E.jU p==E.last))) T (0,0))) (g:w.grownBy W (some j)) (ho:aX W w.heap.size y (E.h.bytes.drop (E.jU p))):mo w W j T C l m x z (E.read p):=by
 have A:=gF H.c8;have d:E.read p={E with h:=⟨E.h.fr+E.jU p,E.h.bytes.drop (E.jU p),E.h.ag⟩,over:=E.ended&&(E.h.fr+E.jU p==E.last)}:=by simp[It.read,r]
 have b:∀i,i≠l->i≠l+1->i≠l+8->(vcs C l (E.h.fr+E.jU p) y (E.ended&&(E.h.fr+E.jU p==E.last)))[i]?=C[i]? :=λi B D F=>by
  unfold vcs;rw[aW (by omega),aW (by omega),aW (by omega)]
 have t:∀k,y.ownBlock=some k->w.heap.size<=k:=λk e=>(ho.lt k e).1
 rw[d];refine⟨_,y,z,⟨s,by simp[vcs],λi hi=>b i (by omega) (by omega) (by omega),(ak.of g).mono (λk _ e=>.inl (aJ e).symm),.inr t⟩,⟨?_,?_,?_,?_,?_,?_,?_,?_,?_,?_,?_⟩,.inl rfl⟩
 unfold vcs;rw[aW (by omega),aW (by omega)];exact cB (by omega);unfold vcs;rw[aW (by omega)];exact cB (by simp;omega);rw[b _ (by omega) (by omega) (by omega)];exact H.c2;rw[b _ (by omega) (by omega) (by omega)];exact H.c3;rw[b _ (by omega) (by omega) (by omega)];exact H.c4;rw[b _ (by omega) (by omega) (by omega)];exact H.c5;rw[b _ (by omega) (by omega) (by omega)];exact H.c6;rw[b _ (by omega) (by omega) (by omega)];exact H.c7;unfold vcs;exact cB (by simp;omega);exact ho.low q;obtain⟨a,n,c,e,d⟩:=H.set;exact⟨a,n,c,e,d.gb g (λu v e2=>by subst v;exact(f.2 u n c e).1 (aJ e2).symm)⟩
theorem Fm(w:World)(sb d B:Nat)(cs:Array Value)(t:TypeId)(vb vc:Value)(s:It)(q:w.heap[sb]?=some (.cells cs t (0,0)))(H:gP w B cs d vb vc s)(C:s.h.nice)(bt:B<=w.heap.size)(D:jT w sb vb vc)(bI:Int)(hw:0<=dK s.h/\dK s.h<=s.h.bytes.length):
 Calls prog 167 #[.pointer (some ⟨sb,d,none⟩),.int .i64 bI] w (wM w sb t cs d B vb vc s bI):=by
 obtain⟨ab,nb,cb,ac,nc,cc,rfl,rfl⟩:=H.mn;have hT:=H.tail q;have cw:sb<w.heap.size:=(aO.1 q).1;obtain⟨c3,c4,c5,c6,c7,c8⟩:=hT;by_cases k:(s.given&& !s.over)=true
 ·have bL:s.given=true:=by simp at k;exact k.1
  have m:s.over=false:=by simp at k;exact k.2
  rw[bL]at c7;rw[m]at c8;have hF:Hid (∀W,w.grownBy W none->wM w sb t cs d B (.slice ab nb cb) (.slice ac nc cc) s bI (.returned (.tuple #[.slice none 0 0,.int .i64 2,.int .u64 s.code])) W):=J (λW g=>⟨none,0,0,w,by simp[It.state,It.pL,k],by simp only[It.out,k,fJ];exact aX.nil _ _,av _ _,λj e=>(by cases e),by simp only[It.read,k,fJ];exact Fi q H g⟩);go_enter func167,ntmps167;go_wp2_with fail;go_region;go_wp2_with fail;exact cz (v:=.tuple #[.slice none 0 0,.int .i64 2,.int .u64 s.code]) (by simp[results,results167,go_sem]) rfl (Z hF _ (aP (av _ _)))
 have u:(s.given&& !s.over)=false:=by simpa using k
 have E:=H.own.fB.2.1;have cx:=H.own.fB.2.2.1;obtain⟨N,I⟩:=exq (s.jU bI);have bM:N<=nb:=by
  rw[I,E];unfold It.jU;omega
 have HD:=H.hd q C;have a1:=J (zl w sb d ab nb cb ac nc cc s.h HD ⟨hw.1,by have:=C.2.1;have:=C.1;omega⟩);have a2:=J (λW(g:w.grownBy W none)=>zx W sb d cs t ab nb cb ac nc cc s.h (bf q g) (HD.ah g) N (by have:=C.2.1;omega) (λy e=>by subst e;exact λe2=>D.1 (by rw[<-e2];rfl)));have hF:Hid (∀(W x:World)(a:Option Addr)(n c:Nat)(V:Value)(r:Int),w.grownBy x none->aX x w.heap.size (.slice a n c) (s.h.bytes.take N)->x.grownBy W (some sb)->(Value.slice a n c).ownBlock≠some sb->W.heap[sb]?=some (.cells (vcs cs d (s.h.fr+N) V (s.ended&&(s.h.fr+N==s.last))) t (0,0))->aX W x.heap.size V (s.h.bytes.drop N)->r=(if(s.ended&&(s.h.fr+N==s.last))then 1 else 0)->wM w sb t cs d B (.slice ab nb cb) (.slice ac nc cc) s bI (.returned (.tuple #[.slice a n c,.int .i64 r,.int .u64 0])) W):=J (λW x a n c V r h0 K L h3 h4 h6 h7=>by
  subst I;refine⟨a,n,c,x,?_,?_,h0,λj e=>(K.lt j e).2,Fl (H.ah h0) ⟨D.1,λy n c e=>⟨(D.2 y n c e).1,(D.2 y n c e).2.1,bK (D.2 y n c e).2.2 h0.size⟩⟩ (bC bt h0.size) u h4 L h6⟩
  simp only[It.state,It.pL,u,gM,gp,It.read,h7]
  ·simp only[It.out,u,gM,gp];exact K.gb L (.inr h3))
 have X:bh w ab N N (s.h.bytes.take N):=Fk H.own.fB N bM;have eS:∀W,(Instr.slice 112 (.slice ab nb cb) none (some (.int .i64 (N:Int))) (some (.int .i64 (N:Int)))).run prog W=.ok (.slice ab N N) W:=λW=>Fj ab nb cb N (by omega) W
 have b4:Hid ((N:Int)=max 0 (min bI (dK s.h))):=J (by rw[I];unfold It.jU;omega);have b5:Hid (s.h.bytes.length<=1000000):=J C.2.2.2.1;replace X:=J X;replace E:=J E;have c1:=(aU q _).trans H.c1;clear I k;obtain⟨given,a3⟩:=exq s.given;obtain⟨over,a4⟩:=exq s.over;rw[<-a3]at c7 u;rw[<-a4]at c8 u;clear a3 a4;generalize dK s.h=wh at *;go_enter func167,ntmps167;go_upto_region 1 with fail;go_cut [19] (λv wx=>v=.bool false/\wx=w);case first=>
  cases given<;>cases over<;>simp at u;all_goals
   go_wp2_with fail
   go_meet
   exact⟨rfl,rfl⟩
 case rest=>
  obtain⟨rfl,rfl⟩:=hcut;go_upto_region 3 with fail;go_cut [7] (λv wx=>v=.int .i64 (N:Int)/\wc.grownBy wx none);case first=>
   go_wp2_with fail;refine(Z a1).mono ?_;rintro e M⟨rfl,z⟩;by_cases K:wh<bI<;>by_cases L:0<min bI wh;all_goals
    go_wp2_with fail
    all_goals
     go_meet
     refine⟨?_,z⟩
     have:=Z b4
     congr 1
     omega
  case rest=>
   rename World=>M
   obtain⟨rfl,z⟩:=hcut;have d1:=z.cell c1 (by simp);have b6:=J ((Z X).ah z);have b7:Hid ((s.h.bytes.take N).length=N):=J (by rw[cC];have:=Z E;omega);have cy:N<=1000000:=by have:=Z E;have:=Z b5;omega
   go_upto_region 4 with fail;go_cut [8] (λv wx=>∃a n c,v=.slice a n c/\aX wx M.heap.size (.slice a n c) (s.h.bytes.take N)/\M.grownBy wx none);case first=>
    go_wp2_with (at_builtin;refine tY (by rfl) _ (by rfl) _ _ _ (s.h.bytes.take N) (by rfl) (Z b6) (by have:=Z b7;omega) ?_;intro A c4 F l Y;replace l:=J l);all_goals
     go_meet
     refine⟨A,_,c4,rfl,?_,Y⟩
     have:=Z l
     simpa [cC]using this
   case rest=>
   rename World=>F
   obtain⟨A,O,P,rfl,l,Y⟩:=hcut;have Q:=aj z Y;replace l:=J l;go_wp2_with (first|(go_at_call 221;refine(Z a2 F Q).mono ?_;rintro e p⟨rfl,a5,R,g5,f,S,cR⟩));have b8:wc.grownBy p (some sb):=aj (cO Q _) g5;obtain⟨bb,G⟩:=exq ((cs.setIfInBounds d (.int .u64 (s.h.fr+N))).setIfInBounds (d+1) (.slice a5 (s.h.bytes.drop N).length R));rw[<-G]at f;have hz:=gF H.c8;have T:∀i,i≠d->i≠d+1->bb[i]?=cs[i]? :=λi K L=>by
    rw[G,aW (by omega),aW (by omega)]
   have e0:p.cell? ⟨sb,d,none⟩=some (.int .u64 (s.h.fr+N)):=by
    rw[aU f,G,aW (by omega)];exact cB (by omega)
   have e4:p.cell? ⟨sb,d+4,none⟩=some (.int .u64 s.last):=by rw[aU f,T _ (by omega) (by omega)];exact H.c4
   have e6:p.cell? ⟨sb,d+6,none⟩=some (.bool s.ended):=by rw[aU f,T _ (by omega) (by omega)];exact H.c6
   have e8:p.cell? ⟨sb,d+8,none⟩=some (.bool s.over):=by rw[aU f,T _ (by omega) (by omega)];exact H.c8
   have f8:p.frozen? ⟨sb,d+8,none⟩=false:=by simp[World.frozen?,f]
   have bj:Hid (∀b,bb.setIfInBounds (d+8) (.bool b)=vcs cs d (s.h.fr+N) (.slice a5 (s.h.bytes.drop N).length R) b):=J (λb=>by rw[G];rfl);clear c3 c4 c5 c6 c7 c8 c1 d1 T;replace f:=J f;replace S:=J S;clear G a2 a1;obtain⟨ov,m⟩:=exq ((s.ended&&(s.h.fr+N==s.last)));rw[<-m]at hF;replace m:=J m;go_upto_region 6 with fail;go_cut [] (λwx=>wx.heap[sb]?=some (.cells (vcs cs d (s.h.fr+N) (.slice a5 (s.h.bytes.drop N).length R) ov) t (0,0))/\p.grownBy wx (some sb));case first=>
    generalize ca:s.ended=ended at *;generalize cf:s.last=last at *;generalize cg:s.h.fr+(N:Int)=fn at *;clear ca cf cg;cases ended
    ·go_big_region;go_wp2_with fail;go_meet;refine⟨?_,?_⟩
     rw[Z m,<-Z bj];exact heap_set (Z f) _;exact aP (aD (av _ _) _ _ (.inr rfl))
    go_region;go_wp2_with fail;go_meet;refine⟨?_,?_⟩
    rw[Z m,<-Z bj];exact heap_set (Z f) _;exact aP (aD (av _ _) _ _ (.inr rfl))
   case rest=>
    rename World=>w6
    obtain⟨U,g6⟩:=hcut;have k8:w6.cell? ⟨sb,d+8,none⟩=some (.bool ov):=by
     rw[aU U];unfold vcs;exact cB (by simp;omega)
    have dn:=aj b8 g6;have ds:wc.heap.size<=F.heap.size:=Q.size;have ch:wc.heap.size<=M.heap.size:=z.size;have cj:Hid (aX w6 F.heap.size (.slice a5 (s.h.bytes.drop N).length R) (s.h.bytes.drop N)):=J ((Z S).gb g6 (.inr (λe=>by have:=((Z S).lt _ e).1;omega)));have cp:(Value.slice A O P).ownBlock≠some sb:=λe=>by have:=((Z l).lt _ e).1;omega
    have br:=J (λr hr=>Z hF w6 F A O P _ r Q ((Z l).low ch) (aj g5 g6) cp U (Z cj) hr);replace U:=J U;clear hF;cases ov
    ·go_wp2_with fail;exact cz (v:=.tuple #[.slice A O P,.int .i64 0,.int .u64 0]) (by simp[results,results167,go_sem]) rfl (Z br 0 rfl)
    go_wp2_with fail;exact cz (v:=.tuple #[.slice A O P,.int .i64 1,.int .u64 0]) (by simp[results,results167,go_sem]) rfl (Z br 1 rfl)
