import Derived.Test.YtjnmokmchdfchaaGreatDoorZWa
import Derived.Test.YtjnmokmchdfchaaGreatDoorZWd
import Derived.Test.YtjnmokmchdfchaaGreatDoorZWe
set_option maxRecDepth 1000000
set_option maxHeartbeats 0
set_option linter.all false
namespace Go.Proofs.YtjnmokmchdfchaaGreatDoor
open Go.RowKit Tryz
attribute[local go_sem↓]Go.wp_at_zero Go.wp_at_succ
variable{C c:Array Value}{Y:List Rg}{i j k n:Nat}{d:Ot}{X:Sd}{T:TypeId}{x y z:Value}{V W w:World}{D:aQ}
def Sd.jf(s:Sd):Sd:=
 if s.az.any (λx=>decide (s.wait<=s.tick+1-x.tick))then{s with az:=[],lost:=s.lost++s.az,tick:=s.tick+1,wait:=min (2*s.wait) 32}else{s with tick:=s.tick+1}
theorem any_map{l:List Kt}{f:Pk->Bool}:(l.map (·.1)).any f=true↔∃x∈l,f x.1=true:=by simp[oh]
theorem bg.eS(H:bg w k i C D X):∀x∈D.lf,∃a n c,x.2=.slice a n c:=λx b=>by
 obtain⟨a,n,c,e,-⟩:=H.bd.fm x (oe _ b);exact⟨a,n,c,e⟩
theorem qs.ne{d:Value}(f:qs w W n T c C i x y z d)(h:z.ownBlock=x.ownBlock)(g:oI n x y)(j:∀k,x.ownBlock=some k->k<w.heap.size):∀k,z.ownBlock=some k->d.ownBlock≠some k:=λk a b=>by
 rw[h]at a;obtain e|e:=f.zS
 rw[e]at b;exact g.2.2 k a b;have:=e k b;have:=j k a;omega
theorem Gn(w:World)(a sb:Nat)(cs:Array Value)(v:aQ)(s:Sd)(H:bg w a sb cs v s)(hl:s.az.length<=1000000/\s.lost.length<=50000000)(u:0<=s.tick/\s.tick<1000000000000)(b:∀x∈s.az,0<=x.tick/\x.tick<=1000000000000)(y:0<=s.wait/\s.wait<=1000):
 Calls prog 129 #[.pointer (some ⟨sb,0,none⟩)] w λr c=>r=.returned (.tuple #[])/\dD w.heap.size w a sb v s.jf c:=by
 have m:=J (mW w sb 0 H.ks);simp only[ne_eq,tJ,se]at m;have I:v.lf.length=s.az.length:=by have:=fj List.length H.az;rw[dY]at this;exact this.symm
 have K:v.ll.length=s.lost.length:=by have:=fj List.length H.lost;rw[dY]at this;exact this.symm
 have z:=J (λW(g:w.grownBy W none)=>FP W sb 91 a cs 241 _ _ v.lf v.ll s.count s.tick s.wait (bf H.aG g) (H.ah g).fl (bC H.bl g.size) H.rj (by omega) H.eS u (λx A=>b x.1 (by rw[H.az];exact lM A)) y);have B:=J (λW i(g:w.grownBy W none)(h:((∃x∈v.lf,s.wait<=s.tick+1-x.1.tick)/\pM W i sb 241 cs 91 a (v.own 8) (v.own 9) [] (v.ll++v.lf) s.count (s.tick+1) (min (2*s.wait) 32))\/((¬∃x∈v.lf,s.wait<=s.tick+1-x.1.tick)/\pM W i sb 241 cs 91 a (v.own 8) (v.own 9) v.lf v.ll s.count (s.tick+1) s.wait))=>show dD w.heap.size w a sb v s.jf i by
  have d:=H.ah g;have n:s.az.any (λx=>decide (s.wait<=s.tick+1-x.tick))=true↔∃x∈v.lf,s.wait<=s.tick+1-x.1.tick:=by rw[H.az,any_map];simp
  refine dD.pre (cP.ah g) ?_;obtain⟨j,C,k,l,T,F,e⟩|⟨j,C,k,l,T,F,e⟩:=h
  have:=d.wX g.size k l [] (v.ll++v.lf) _ _ _ T F (T.ne e d.rj (d.bd.lt 8 (by omega))) (λx b=>.inl (by
   rw[jQ]at b;exact(ck.1 b).elim (px _) (oe _)))
  unfold Sd.jf;rw[aM (n.2 j)];rw[show s.lost++s.az=(v.ll++v.lf).map (·.1) by rw[mf,<-H.lost,<-H.az]];exact this
  ·have:=d.wX g.size k l v.lf v.ll _ _ _ T F (T.ne e d.rj (d.bd.lt 8 (by omega))) (λx b=>.inl b);unfold Sd.jf;rw[ay (λD=>j (n.1 D))];have e2:({s with tick:=s.tick+1}:Sd)={s with az:=v.lf.map (·.1),lost:=v.ll.map (·.1),count:=s.count,tick:=s.tick+1,wait:=s.wait}:=by rw[<-H.az,<-H.lost]
   rw[e2];exact this)
 obtain⟨R,f⟩:=exq (λc:World=>dD w.heap.size w a sb v s.jf c);have p:(λ(r:Ending) c=>r=.returned (.tuple #[])/\dD w.heap.size w a sb v s.jf c)=λr c=>r=.returned (.tuple #[])/\R c:=by rw[f]
 rw[p];clear p;replace f:=J f;replace H:=J H;clear b;go_enter func129,ntmps129;go_wp2_with fail;refine(Z m).mono ?_;rintro e L⟨rfl,q⟩;go_wp2_with fail;refine(Z z _ q).mono ?_;rintro e E⟨rfl,t⟩;have G:Hid (R E):=J (by rw[Z f];exact Z B _ _ q t);clear t;go_wp2_with fail;exact dP (dj rfl _ _ _) rfl ⟨rfl,Z G⟩
theorem Gp(w:World)(sb:Nat)(aF:Int)(dq:w.cell? ⟨sb,99,none⟩=some (.int .i64 aF))(h:aF≠0):Calls prog 129 #[.pointer (some ⟨sb,0,none⟩)] w λr b=>r=.returned (.tuple #[])/\w.grownBy b none:=by
 have a:=J (mW w sb aF dq);rw[bp h]at a;go_enter func129,ntmps129;go_wp2_with fail;refine(Z a).mono ?_;rintro e d⟨rfl,c⟩;go_wp2_with fail;exact dP (dj rfl _ _ _) rfl ⟨rfl,c⟩
def Ot.eU(o:Ot)(p:Pc):Ot:=
 {o with tE:=o.tE||p.e,tG:=o.tG||p.g,h:=⟨o.h.fr+(dK ⟨o.h.fr,o.h.bytes,dT o.h.ag p.x⟩).toNat,o.h.bytes.drop (dK ⟨o.h.fr,o.h.bytes,dT o.h.ag p.x⟩).toNat,dT o.h.ag p.x⟩}
def dy(out:Nat->Ot)(l:List (Int×Pc)):Nat->Ot:=l.foldl (λo x=>aw o x.1.toNat ((o x.1.toNat).eU x.2)) out
theorem Gu(out:Nat->Ot)(l:List (Int×Pc))(x:Int×Pc):dy out (l++[x])=aw (dy out l) x.1.toNat ((dy out l x.1.toNat).eU x.2):=by
 unfold dy;rw[List.foldl_append];rfl
theorem aZ.Ac(h:aZ Y)(lo hi:Int)(a:∀m,Sm Y m->lo<=m/\m<hi):(Y.length:Int)<=max 0 (hi-lo):=by
 induction Y generalizing lo with
 |nil=>simp;omega
 |cons r Y c=>
  have d:=h.2 r (by simp);have e:=a r.lo ((fD r Y r.lo).2 (.inl ⟨fI _,d⟩));have f:=c h.tail (lo+1) (λm b=>by
   have g:=a m ((fD r Y m).2 (.inr b));have i:=h.behind b;omega)
  simp only[dJ]
  omega
structure eD(o:Ot):Prop where
 ok:aZ o.h.ag
 jC:∀m,Sm o.h.ag m->0<=m/\m<4096
 fr:0<=o.h.fr
 low:∀m,0<=m->m<o.h.fr->Sm o.h.ag m
 hole:¬Sm o.h.ag o.h.fr
 en:o.en<=4096
theorem eD.cl(h:eD d):d.h.ag.length<=4096:=by
 have:=h.ok.Ac 0 4096 h.jC;omega
theorem eD.nice(h:eD d):d.h.nice:=by
 have a:=h.en;have b:=h.fr;have c:=h.cl;unfold Ot.en at a;exact⟨b,by omega,h.ok,by omega,by omega⟩
theorem Gv(h:aZ Y)(h0:∀m,Sm Y m->0<=m)(a:¬(Y.length=0\/0<(au Y 0).lo)):(au Y 0).lo=0/\0<(au Y 0).hi/\(∀m,0<=m->m<(au Y 0).hi->Sm Y m)/\¬Sm Y (au Y 0).hi:=by
 cases Y with
 |nil=>exact absurd (.inl rfl) a
 |cons r Y=>
  have e:au (r::Y) 0=r:=rfl;rw[e]at a⊢;have c:=h.2 r (by simp);have g:=h0 r.lo ((fD r Y r.lo).2 (.inl ⟨fI _,c⟩));refine⟨by omega,by omega,λm i d=>(fD r Y m).2 (.inl ⟨by omega,d⟩),λf=>?_⟩
  obtain b|b:=(fD r Y r.hi).1 f
  omega;have:=h.behind b;omega
theorem wY(h:eD d)(hl:aZ Y)(hs:∀m,Sm d.h.ag m->Sm Y m)(c:∀m,Sm Y m->0<=m/\m<4096):
 0<=dK ⟨d.h.fr,d.h.bytes,Y⟩/\d.h.fr+dK ⟨d.h.fr,d.h.bytes,Y⟩<=4096/\(∀m,0<=m->m<d.h.fr+dK ⟨d.h.fr,d.h.bytes,Y⟩->Sm Y m)/\¬Sm Y (d.h.fr+dK ⟨d.h.fr,d.h.bytes,Y⟩):=by
 have l:=h.fr;have n:=h.en;unfold Ot.en at n;unfold dK;simp only
 by_cases a:Y.length=0\/0<(au Y 0).lo;rw[aM a];have f:¬Sm Y 0:=λg=>by
  cases Y with
  |nil=>exact ij 0 g
  |cons r Y=>
   obtain a|a:=a
   simp at a;have e:au (r::Y) 0=r:=rfl;rw[e]at a;obtain b|b:=(fD r Y 0).1 g
   omega;have:=hl.behind b;have:=hl.2 r (by simp);omega
 have p:d.h.fr=0:=by
  obtain b|b:=Int.lt_or_eq_of_le l
  exact absurd (hs 0 (h.low 0 (fI _) b)) f;exact b.symm
 rw[p];exact⟨fI _,by omega,λm b q=>by omega,by simpa using f⟩
 rw[ay a];obtain⟨b,q,i,j⟩:=Gv hl (λm s=>(c m s).1) a;have k:d.h.fr<=(au Y 0).hi:=by
  by_cases k:(au Y 0).hi<d.h.fr;exact absurd (hs _ (h.low _ (by omega) k)) j;omega
 have u:=(c ((au Y 0).hi-1) (i _ (by omega) (by omega))).2;refine⟨by omega,by omega,λm t v=>i m t (by omega),?_⟩
 rw[show d.h.fr+((au Y 0).hi-d.h.fr)=(au Y 0).hi by omega];exact j
def jD(p:Pc):Prop:=0<=p.x.lo/\0<=p.x.hi/\p.x.lo<=4096/\p.x.hi<=4096
theorem wZ(h:eD d){p:Pc}(hp:jD p):∀m,Sm (dT d.h.ag p.x) m->0<=m/\m<4096:=λm b=>by
 obtain a|a:=(lT p.x h.ok m).1 b
 exact h.jC m a;unfold jD at hp;omega
theorem eD.eU(h:eD d){p:Pc}(hp:jD p):eD (d.eU p):=by
 have a:=oG p.x h.ok;have b:=wZ h hp;obtain⟨k,l,c,e⟩:=wY h a (λm f=>(lT p.x h.ok m).2 (.inl f)) b;have n:=h.fr;have g:=h.en;unfold Ot.en at g;unfold Ot.eU;refine⟨a,b,by simp only;omega,λm i j=>c m i (by simp only at j;omega),?_,?_⟩
 simp only
 rw[show d.h.fr+((dK ⟨d.h.fr,d.h.bytes,dT d.h.ag p.x⟩).toNat:Int)=d.h.fr+dK ⟨d.h.fr,d.h.bytes,dT d.h.ag p.x⟩ by omega];exact e;unfold Ot.en;simp only[dO]
 omega
theorem Ad{out:Nat->Ot}(h:∀k,k<4->eD (out k))(l:List (Int×Pc))(hl:∀x∈l,jD x.2):∀k,k<4->eD (dy out l k):=by
 induction l generalizing out with
 |nil=>exact h
 |cons x l b=>
  have e:dy out (x::l)=dy (aw out x.1.toNat ((out x.1.toNat).eU x.2)) l:=rfl;rw[e];refine b (λk a=>?_) (λy c=>hl y (by simp[c]));by_cases e:k=x.1.toNat;subst e;rw[bm];exact(h _ a).eU (hl x (by simp));rw[bq _ _ e];exact h k a
theorem Gw(q:w.heap[n]?=some (.cells c T (0,0)))(H:fM w j c i y z d)(a:eD d)(s:j<=w.heap.size)(t:jT w n y z)(p:Pc)(u:p.x.ok)(hp:jD p):
 Calls prog 252 #[.pointer (some ⟨n,i,none⟩),.agg (pA p)] w λr f=>r=.returned (.tuple #[])/\mS w f n T c i j y z (d.eU p)/\w.grownBy f (some n):=by
 have v:wJ d.h p.x:=λA l _ b=>by
  have e:=ur a.ok l b;subst e;obtain⟨B,G,-⟩:=wY a l (λm C=>(b m).2 (.inl C)) (wZ a hp);exact⟨B,by omega⟩
 refine(Gs q H a.nice s t p.x p.e p.g u v (by have:=a.cl;omega)).mono ?_;rintro r f⟨rfl,A,k,D,E,-,b,F,g⟩;have e:=ur a.ok E b;subst e;refine⟨rfl,?_,g⟩
 unfold Ot.eU;rw[<-D];simpa using F
structure lC(w:World)(base sb Bs:Nat)(cs0:Array Value)(v0:aQ)(s:Sd)(acc:List (Int×Pc))(W:World)(cs:Array Value)(ob oc:Nat->Value):Prop where
 aG:W.heap[sb]?=some (.cells cs 241 (0,0))
 sz:cs.size=cs0.size
 same:∀i,(i<19\/(55<=i/\i<91)\/96<=i)->cs[i]?=cs0[i]?
 out:∀k,k<4->fM W base cs (19+9*k) (ob k) (oc k) (dy s.out acc k)
 qu:∀k,k<4->(ob k).ownBlock=(v0.own k).ownBlock\/∀j,(ob k).ownBlock=some j->w.heap.size<=j
 ru:∀j k,j<4->k<4->j≠k->∀b,(ob j).ownBlock=some b->(ob k).ownBlock≠some b
 ry:∀k,k<4->oc k=v0.set k\/∀y n c,oc k=.slice (some y) n c->w.heap.size<=y.block/\y.block<W.heap.size/\∀j,j<4->(ob j).ownBlock≠some y.block
 size:w.heap.size<=W.heap.size
 box:W.heap[Bs]?=some (.cells #[.pointer (some ⟨sb,0,none⟩)] 169 (0,0))
def lU(w:World)(base sb Bs:Nat)(cs0:Array Value)(v0:aQ)(s:Sd)(acc:List (Int×Pc))(W:World):Prop:=∃cs ob oc,lC w base sb Bs cs0 v0 s acc W cs ob oc
section
variable {w:World} {base sb Bs:Nat} {cs0:Array Value} {v0:aQ} {s:Sd} {acc:List (Int×Pc)} {W W':World} {cs:Array Value} {ob oc:Nat->Value}
theorem bg.Gy(H:bg w base sb cs0 v0 s)(a:w.heap[Bs]?=some (.cells #[.pointer (some ⟨sb,0,none⟩)] 169 (0,0))):lU w base sb Bs cs0 v0 s [] w:=
 ⟨cs0,v0.own,v0.set,H.aG,rfl,λ_ _=>rfl,H.out,λ_ _=>.inl rfl,λj k c d b=>H.bd.sep j k (by omega) (by omega) b,λ_ _=>.inl rfl,aI _,a⟩
theorem Ae(H:bg w base sb cs0 v0 s){k:Nat}(h:FT sb (v0.own 8) (v0.own 9) k):k<w.heap.size:=by
 obtain rfl|h|h:=h
 exact H.bd.fu;exact H.bd.lt 8 (by omega) k h;exact H.bd.lt 9 (by omega) k h
theorem mX{sb:Nat}{v0:aQ}{k:Nat}(h:FT sb (v0.own 8) (v0.own 9) k):bV sb v0 k:=by
 obtain h|h|h:=h
 exact .inl h;exact .inr ⟨8,by omega,h⟩;exact .inr ⟨9,by omega,h⟩
theorem Af(H:bg w base sb cs0 v0 s){i:Nat}(hi:i<8){k:Nat}(e:(v0.own i).ownBlock=some k):¬FT sb (v0.own 8) (v0.own 9) k:=λh=>by
 obtain rfl|h|h:=h
 exact H.bd.gH i (by omega) e;exact H.bd.sep i 8 (by omega) (by omega) (by omega) k e h;exact H.bd.sep i 9 (by omega) (by omega) (by omega) k e h
theorem lC.uI(H:bg w base sb cs0 v0 s)(h:lC w base sb Bs cs0 v0 s acc W cs ob oc){k:Nat}(c:k<4){j:Nat}(e:(ob k).ownBlock=some j):¬FT sb (v0.own 8) (v0.own 9) j:=λb=>by
 obtain a|a:=h.qu k c
 rw[a]at e;exact Af H (by omega) e b;have:=a j e;have:=Ae H b;omega
theorem lC.rz(H:bg w base sb cs0 v0 s)(h:lC w base sb Bs cs0 v0 s acc W cs ob oc){k:Nat}(d:k<4){y:Addr}{n c:Nat}(e:oc k=.slice (some y) n c):¬FT sb (v0.own 8) (v0.own 9) y.block/\y.block<W.heap.size:=by
 have f:=h.size;obtain a|a:=h.ry k d
 rw[a]at e;have:=H.bd.da k (by omega) y n c e;exact⟨λb=>this.1 (mX b),by omega⟩
 have:=a y n c e;exact⟨λb=>by have:=Ae H b;omega,this.2.1⟩
theorem lC.Gz(H:bg w base sb cs0 v0 s)(h:lC w base sb Bs cs0 v0 s acc W cs ob oc){k:Nat}(f:k<4){y:Addr}{n c:Nat}(e:oc k=.slice (some y) n c)(j:Nat)(d:j<4):(ob j).ownBlock≠some y.block:=λe2=>by
 obtain a|a:=h.ry k f
 rw[a]at e;have:=H.bd.da k (by omega) y n c e;obtain b|b:=h.qu j d
 rw[b]at e2;exact this.1 (.inr ⟨j,by omega,e2⟩);have:=b _ e2;omega;exact(a y n c e).2.2 j d e2
theorem lU.cW(H:bg w base sb cs0 v0 s)(d:¬FT sb (v0.own 8) (v0.own 9) Bs)(h:lU w base sb Bs cs0 v0 s acc W)(C:ak W W' (FT sb (v0.own 8) (v0.own 9)))(f:kQ W W' sb 91):lU w base sb Bs cs0 v0 s acc W':=by
 obtain⟨cs,ob,oc,h⟩:=h;obtain⟨g,l,m,hs⟩:=f cs _ h.aG;refine⟨g,ob,oc,l,m.trans h.sz,λi hi=>(hs i (by omega)).trans (h.same i hi),λk a=>(h.out k a).frame C (λi b p=>hs i (by omega)) (λj e=>h.uI H a e) (λy n c e=>h.rz H a e),h.qu,h.ru,λk a=>(h.ry k a).imp id (λb y n c e=>⟨(b y n c e).1,bK (b y n c e).2.1 C.size,(b y n c e).2.2⟩),bC h.size C.size,?_⟩
 exact(C.block Bs (aO.1 h.box).1 d).trans h.box
theorem lC.apart(H:bg w base sb cs0 v0 s)(h:lC w base sb Bs cs0 v0 s acc W cs ob oc){k:Nat}(a:k<4):jT W sb (ob k) (oc k):=
 ⟨λe=>h.uI H a e (.inl rfl),λy n c e=>⟨λe2=>(h.rz H a e).1 (.inl e2),h.Gz H a e k a,(h.rz H a e).2⟩⟩
theorem lC.Ag(H:bg w base sb cs0 v0 s)(D:¬FT sb (v0.own 8) (v0.own 9) Bs)(h:lC w base sb Bs cs0 v0 s acc W cs ob oc){k:Nat}(O:k<4){p:Pc}(E:mS W W' sb 241 cs (19+9*k) base (ob k) (oc k) ((dy s.out acc k).eU p))(g:W.grownBy W' (some sb)):lU w base sb Bs cs0 v0 s (acc++[((k:Int),p)]) W'/\kR W W' sb 91:=by
 obtain⟨v,l,G,T,I,F⟩:=E;have C:ak W W' (λj=>j=sb):=(ak.of g).mono (λj _ e=>(aJ e).symm);have q:FT sb (v0.own 8) (v0.own 9) sb:=.inl rfl;have r:∀j,j<4->∀b,(ob j).ownBlock=some b->b<W.heap.size:=λj d b e=>((h.out j d).own.lt b e).2
 have K:=h.size;have t:∀b,l.ownBlock=some b->(ob k).ownBlock=some b\/W.heap.size<=b:=λb e=>by
  obtain a|a:=T.new
  rw[a]at e;exact .inl e;exact .inr (a b e)
 refine⟨⟨v,aw ob k l,aw oc k G,T.aG,T.sz.trans h.sz,λi hi=>(T.out i (by omega)).trans (h.same i hi),λj d=>?_,λj d=>?_,λi j hi d u b e1 e2=>?_,λj d=>?_,bC K C.size,?_⟩,?_⟩
 rw[Gu];simp only[jP]
 by_cases e:j=k;subst e;simp only[bm];exact I;simp only[bq _ _ e]
 exact(h.out j d).frame C (λi a x=>T.out i (by omega)) (λb e e2=>h.uI H d e (e2▸q)) (λy n c e=>⟨λe2=>(h.rz H d e).1 (e2▸q),(h.rz H d e).2⟩);by_cases e:j=k;subst e;rw[bm];obtain a|a:=T.new
 rw[a];exact h.qu j d;exact .inr (λb e=>by have:=a b e;omega);rw[bq _ _ e];exact h.qu j d;by_cases f:i=k;have m:j≠k:=by omega
 subst f;rw[bm]at e1;rw[bq _ _ m]at e2;obtain a|a:=t b e1
 exact h.ru i j hi d u b a e2;have:=r j d b e2;omega;rw[bq _ _ f]at e1;by_cases m:j=k;subst m;rw[bm]at e2;obtain a|a:=t b e2
 exact h.ru i j hi d u b e1 a;have:=r i hi b e1;omega;rw[bq _ _ m]at e2;exact h.ru i j hi d u b e1 e2;have L:∀y:Addr,y.block<W.heap.size->(∀i,i<4->(ob i).ownBlock≠some y.block)->∀i,i<4->(aw ob k l i).ownBlock≠some y.block:=λy P z i hi e=>by
  by_cases f:i=k;subst f;rw[bm]at e;obtain a|a:=t _ e
  exact z i hi a;omega;rw[bq _ _ f]at e;exact z i hi e
 have A:∀j,j<4->(oc j=v0.set j\/∀y n c,oc j=.slice (some y) n c->w.heap.size<=y.block/\y.block<W'.heap.size/\∀i,i<4->(aw ob k l i).ownBlock≠some y.block):=λj d=>(h.ry j d).imp id (λa y n c e=>⟨(a y n c e).1,bK (a y n c e).2.1 C.size,L y (a y n c e).2.1 (a y n c e).2.2⟩)
 by_cases e:j=k;subst e;rw[bm];obtain a|a:=F
 rw[a];exact A j d;refine .inr (λy n c e=>?_);obtain⟨x,M,N⟩:=a y n c e;refine⟨by omega,M,λi hi e2=>?_⟩
 by_cases f:i=j;subst f;rw[bm]at e2;exact N e2;rw[bq _ _ f]at e2;have:=r i hi _ e2;omega;rw[bq _ _ e];exact A j d;exact(C.block Bs (aO.1 h.box).1 (λe=>D (e▸q))).trans h.box;intro Q t2 B;rw[h.aG]at B;cases B;exact⟨v,T.aG,T.sz,λi a x=>T.out i (by omega)⟩
theorem lU.whole(H:bg w base sb cs0 v0 s)(bx:¬FT sb (v0.own 8) (v0.own 9) Bs){D l:World}(h:lU w base sb Bs cs0 v0 s acc D)(X:ak D l (FT sb (v0.own 8) (v0.own 9)))(hS:kQ D l sb 91){G:Array Value}{Q I:Value}{u v:List Kt}{count tick wait:Int}(Y:l.heap[sb]?=some (.cells G 241 (0,0)))(F:ik l base G 91 Q I u v count tick wait)(C:ak w l (FT sb (v0.own 8) (v0.own 9)))(nf:Q.ownBlock=(v0.own 8).ownBlock)(nl:I.ownBlock=(v0.own 9).ownBlock\/∀k,I.ownBlock=some k->D.heap.size<=k)(hm:∀x∈u++v,x∈v0.lf++v0.ll):
 dD w.heap.size w base sb v0 {s with out:=dy s.out acc,az:=u.map (·.1),lost:=v.map (·.1),count:=count,tick:=tick,wait:=wait} l:=by
 obtain⟨bj,ob,oc,p⟩:=id h;have bz:=p.size;have R:w.heap.size<=l.heap.size:=C.size;obtain⟨bL,al,br,ax⟩:=hS bj _ p.aG;rw[Y]at al;cases al;have a0:∀k,k<4->fM l base G (19+9*k) (ob k) (oc k) (dy s.out acc k):=λk q=>(p.out k q).frame X (λi b g=>ax i (by omega)) (λj e=>p.uI H q e) (λy n c e=>p.rz H q e)
 have hsame:∀i,(i<19\/(55<=i/\i<91)\/96<=i)->G[i]?=cs0[i]? :=λi hi=>(ax i (by omega)).trans (p.same i hi)
 have a1:∀k,k<4->∀j,(ob k).ownBlock=some j->j<D.heap.size:=λk q j e=>((p.out k q).own.lt j e).2
 obtain⟨m,S⟩:∃f:Nat->Value,f=λi=>if i<4 then ob i else if i=8 then Q else if i=9 then I else v0.own i:=⟨_,rfl⟩
 obtain⟨z,a3⟩:∃f:Nat->Value,f=λi=>if i<4 then oc i else v0.set i:=⟨_,rfl⟩
 have A:∀i,i<4->m i=ob i:=λi hi=>by rw[S];simp[hi]
 have K:∀i,4<=i->i<8->m i=v0.own i:=λi b g=>by rw[S];simp only;rw[ay (by omega),ay (by omega),ay (by omega)]
 have L:m 8=Q:=by rw[S];simp
 have M:m 9=I:=by rw[S];simp
 have s4:∀i,i<4->z i=oc i:=λi hi=>by rw[a3];simp[hi]
 have s5:∀i,4<=i->z i=v0.set i:=λi hi=>by rw[a3];simp only;rw[ay (by omega)]
 have T:∀i,i<10->i<4\/(4<=i/\i<8)\/i=8\/i=9:=λi hi=>by omega
 have N:∀i,i<10->∀k,(m i).ownBlock=some k->(v0.own i).ownBlock=some k\/w.heap.size<=k:=λi hi k e=>by
  obtain b|b|rfl|rfl:=T i hi
  rw[A i b]at e;obtain g|g:=p.qu i b
  rw[g]at e;exact .inl e;exact .inr (g k e);rw[K i b.1 b.2]at e;exact .inl e;rw[L,nf]at e;exact .inl e;rw[M]at e;obtain g|g:=nl
  rw[g]at e;exact .inl e;have:=g k e;exact .inr (by omega)
 have U:∀k,bV sb ⟨m,z,u,v⟩ k->bV sb v0 k\/w.heap.size<=k:=λk d=>by
  obtain d|⟨i,hi,d⟩:=d
  exact .inl (.inl d);obtain b|b:=N i hi k d
  exact .inl (.inr ⟨i,hi,b⟩);exact .inr b
 have bt:∀i,i<10->∀k,(m i).ownBlock=some k->k<l.heap.size:=λi hi k e=>by
  obtain b|b|rfl|rfl:=T i hi
  rw[A i b]at e;exact((a0 i b).own.lt k e).2;rw[K i b.1 b.2]at e;exact bK (H.bd.lt i hi k e) R;rw[L]at e;exact(F.of.lt k e).2;rw[M]at e;exact(F.ol.lt k e).2
 have a4:∀i,i<9->∀y n c,z i=.slice (some y) n c->(¬bV sb ⟨m,z,u,v⟩ y.block/\y.block<l.heap.size)/\(v0.set i=.slice (some y) n c\/w.heap.size<=y.block):=λi hi y n c e=>by
  have a8:v0.set i=.slice (some y) n c->(¬bV sb ⟨m,z,u,v⟩ y.block/\y.block<l.heap.size)/\(v0.set i=.slice (some y) n c\/w.heap.size<=y.block):=λe=>by
   have b:=H.bd.da i hi y n c e;exact⟨⟨λd=>(U _ d).elim b.1 (by omega),by omega⟩,.inl e⟩
  by_cases b:i<4;rw[s4 i b]at e;obtain g|g:=p.ry i b
  rw[g]at e;exact a8 e;have V:=g y n c e;refine⟨⟨λd=>?_,bK V.2.1 X.size⟩,.inr V.1⟩
  obtain d|⟨j,r,d⟩:=d
  have:=H.bd.fu;omega;simp only at d;obtain t|t|rfl|rfl:=T j r
  rw[A j t]at d;exact V.2.2 j t d;rw[K j t.1 t.2]at d;have:=H.bd.lt j r _ d;omega;rw[L,nf]at d;have:=H.bd.lt 8 r _ d;omega;rw[M]at d;obtain B|B:=nl
  rw[B]at d;have:=H.bd.lt 9 r _ d;omega;have:=B _ d;omega;rw[s5 i (by omega)]at e;exact a8 e
 have hG:je l sb ⟨m,z,u,v⟩:=by
  refine⟨bK H.bd.fu R,bt,λi hi e=>?_,λi j hi r a9 k e1 e2=>?_,λi hi y n c e=>(a4 i hi y n c e).1,λx W=>?_⟩
  obtain b|b:=N i hi sb e
  exact H.bd.gH i hi b;have:=H.bd.fu;omega;simp only at e1 e2;obtain b|b:=N i hi k e1
  obtain g|g:=N j r k e2
  exact H.bd.sep i j hi r a9 k b g;have:=H.bd.lt i hi k b;omega;obtain g|g:=N j r k e2
  have:=H.bd.lt j r k g;omega
  ·
   have bb:∀i,i<10->(m i).ownBlock=some k->i<4\/(i=9/\D.heap.size<=k):=λi hi e=>by
    obtain t|t|rfl|rfl:=T i hi
    exact .inl t;rw[K i t.1 t.2]at e;have:=H.bd.lt i hi k e;omega;rw[L,nf]at e;have:=H.bd.lt 8 hi k e;omega;rw[M]at e;obtain B|B:=nl
    rw[B]at e;have:=H.bd.lt 9 hi k e;omega;exact .inr ⟨rfl,B k e⟩
   obtain O|⟨O,a2⟩:=bb i hi e1<;>rcases bb j r e2 with b1|⟨b1,b2⟩
   rw[A i O]at e1;rw[A j b1]at e2;exact p.ru i j O b1 a9 k e1 e2
   rw[A i O]at e1;have:=a1 i O k e1;omega
   rw[A j b1]at e2;have:=a1 j b1 k e2;omega
   omega
  obtain⟨a,n,c,e,hp,P⟩:=H.bd.fm x (hm x W);exact⟨a,n,c,e,hp.cW (λ_ y E=>C.block _ (P y E).2 (λht=>(P y E).1 (mX ht))),λy E=>⟨λd=>(U _ d).elim (P y E).1 (by have:=(P y E).2;omega),bK (P y E).2 R⟩⟩
 refine⟨G,⟨m,z,u,v⟩,⟨Y,br.trans (p.sz.trans H.sz),(hsame 0 (by omega)).trans H.c0,(hsame 1 (by omega)).trans H.c1,λi hi=>(hsame _ (by omega)).trans (H.key i hi),(hsame 18 (by omega)).trans H.gQ,λk q=>?_,λk q=>?_,?_,rfl,rfl,?_,?_,(hsame 97 (by omega)).trans H.nG,(hsame 98 (by omega)).trans H.kr,(hsame 99 (by omega)).trans H.dq,(hsame 100 (by omega)).trans H.oM,hG,bC H.bl R⟩,⟨C.mono (λk _ d=>mX d),U,λk d=>?_⟩⟩
 simp only;rw[A k q,s4 k q];exact a0 k q;simp only;rw[K (4+k) (by omega) (by omega),s5 (4+k) (by omega)];exact(H.aT k q).frame C (λi b g=>hsame i (by omega)) (λj e=>Af H (by omega) e) (λy n c e=>⟨λd=>(H.bd.da (4+k) (by omega) y n c e).1 (mX d),(H.bd.da (4+k) (by omega) y n c e).2⟩);simp only;rw[L,M];exact F;simp only;rw[s5 8 (by omega)];exact(hsame 96 (by omega)).trans H.mU;simp only;rw[s5 8 (by omega)];exact oK H.mV C (λy n c e=>⟨λd=>(H.bd.da 8 (by omega) y n c e).1 (mX d),(H.bd.da 8 (by omega) y n c e).2⟩);obtain d|⟨i,y,n,c,hi,e,rfl⟩|⟨x,W,y,n,c,e,rfl⟩:=d
 exact(U k d).imp .inl id;obtain b|b:=(a4 i hi y n c e).2
 exact .inl (.inr (.inl ⟨i,y,n,c,hi,b,rfl⟩));exact .inr b;exact .inl (.inr (.inr ⟨x,hm x W,y,n,c,e,rfl⟩))
end
section
variable {w:World} {base sb Bs:Nat} {cs0:Array Value} {v0:aQ} {s:Sd} {acc:List (Int×Pc)} {W W':World} {cs:Array Value} {ob oc:Nat->Value}
theorem lC.ah(h:lC w base sb Bs cs0 v0 s acc W cs ob oc)(g:W.grownBy W' none):lC w base sb Bs cs0 v0 s acc W' cs ob oc:=
 ⟨bf h.aG g,h.sz,h.same,λk a=>(h.out k a).ah g,h.qu,h.ru,λk a=>(h.ry k a).imp id (λb y n c e=>⟨(b y n c e).1,bK (b y n c e).2.1 g.size,(b y n c e).2.2⟩),bC h.size g.size,bf h.box g⟩
end
theorem sP{w:World}{p:Addr}{v:Value}{sb:Nat}(h:w.cell? p=some v)(a:p.block≠sb):∀W,w.grownBy W (some sb)->W.cell? p=some v:=λ_ g=>g.cell h (λe=>a (aJ e))
theorem kR.pre{W a W':World}{sb b:Nat}{cs:Array Value}{t:TypeId}(e:W.heap[sb]?=some (.cells cs t (0,0)))(g:W.grownBy a none)(h:kR a W' sb b):kR W W' sb b:=λc t2 d=>h c t2 (bf d g)
theorem Hp(w:World)(base sb Bs:Nat)(cs0:Array Value)(v0:aQ)(s:Sd)(H:bg w base sb cs0 v0 s)(m:¬FT sb (v0.own 8) (v0.own 9) Bs)(acc:List (Int×Pc))(W:World)(h:lU w base sb Bs cs0 v0 s acc W)(v:∀k,k<4->eD (dy s.out acc k))(k:Nat)(b:k<4)(p:Pc)(L:p.x.ok)(hp:jD p):
 Calls prog 251 #[.int .i64 (k:Int),.agg (pA p),.pointer (some ⟨Bs,0,none⟩)] W λe W'=>e=.returned (.tuple #[])/\lU w base sb Bs cs0 v0 s (acc++[((k:Int),p)]) W'/\W.grownBy W' (some sb)/\kR W W' sb 91:=by
 obtain⟨cs,ob,oc,h⟩:=h;have M:base<=W.heap.size:=bC H.bl h.size;have n:=J (λa(g:W.grownBy a none)=>(Gw (h.ah g).aG ((h.ah g).out k b) (v k b) (bC M g.size) ((h.ah g).apart H b) p L hp));have q:=J (λa c(g:W.grownBy a none)(d:mS a c sb 241 cs (19+9*k) base (ob k) (oc k) ((dy s.out acc k).eU p))(r:a.grownBy c (some sb))=>(show lU w base sb Bs cs0 v0 s (acc++[((k:Int),p)]) c/\W.grownBy c (some sb)/\kR W c sb 91 from⟨((h.ah g).Ag H m b d r).1,aj (cO g _) r,kR.pre h.aG g ((h.ah g).Ag H m b d r).2⟩));have N:=(oP h.box).1;rw[<-oN]at n q;have O:(k:Int)<4:=by omega
 have d1:decide ((k:Int)<4)=true:=bp O;obtain⟨R,f⟩:=exq (λW':World=>lU w base sb Bs cs0 v0 s (acc++[((k:Int),p)]) W'/\W.grownBy W' (some sb)/\kR W W' sb 91);have y:(λ(e:Ending) W'=>e=.returned (.tuple #[])/\lU w base sb Bs cs0 v0 s (acc++[((k:Int),p)]) W'/\W.grownBy W' (some sb)/\kR W W' sb 91)=λe W'=>e=.returned (.tuple #[])/\R W':=by rw[f]
 rw[y];clear y;replace f:=J f;replace h:=J h;replace H:=J H;clear v;obtain⟨V,z⟩:=exq ((dy s.out acc k).eU p);rw[<-z]at n q;clear z;obtain⟨⟨A,B⟩,C,D⟩:=p;unfold pA at *;simp only at *;obtain⟨a,i⟩:=exq (W.alloc (.cells #[.int .u64 A,.int .u64 B,.bool C,.bool D] 377));have t:W.grownBy a none:=by rw[i];exact aC _ _ _
 have u:a.heap[W.heap.size]?=some (.cells #[.int .u64 A,.int .u64 B,.bool C,.bool D] 377 (0,0)):=by rw[i];exact aH _ _
 have j:W.heap.size≠sb:=by have:=(aO.1 (Z h).aG).1;omega
 have P:Bs≠sb:=λe=>m (.inl e)
 have X:=sP (sb:=sb) (t.cell N (by simp)) P;obtain⟨E,F,G,I⟩:=oQ u;replace E:=sP (sb:=sb) E j;replace F:=sP (sb:=sb) F j;replace G:=sP (sb:=sb) G j;replace I:=sP (sb:=sb) I j;replace u:=J u;have l:a.grownBy a.drew none:=aP (av _ none);go_enter func251,ntmps251;go_upto_region 1 with fail;rw[<-i];clear i;go_region_held3 (λQ=>a.grownBy Q (some sb))
  (first|with_reducible exact S|with_reducible exact cO l _)
  (first|(go_at_call 252;refine(Z n _ (aj t l)).mono ?_;rintro e T⟨rfl,d,K⟩;have S:=aj (cO l (some sb)) K;have U:Hid (R T):=J (by rw[Z f];exact Z q _ _ (aj t l) d K);clear d))
 go_wp2_with fail;exact dP (dj rfl _ _ _) rfl ⟨rfl,Z U⟩
def kx(o:Ot)(p:Pc):Bool:=(decide (p.x.hi<=p.x.lo)||o.h.ag.any (λr=>decide (r.lo<=p.x.lo)&&decide (p.x.hi<=r.hi)))&&(((o.uE&& !p.e)==o.uE)&&((o.uG&& !p.g)==o.uG))
theorem Hr(o:Ot)(p:Pc):kx o p=true↔sB o p.x p.e p.g:=by
 unfold kx sB;simp only[ja,qh,kh,oh,beq_iff_eq]
theorem Hs(W:World)(D sb j:Nat)(cs:Array Value)(t:TypeId)(vb vc:Value)(o:Ot)(k:Nat)(M:k<4)(b:W.heap[sb]?=some (.cells cs t (0,0)))(H:fM W D cs (19+9*k) vb vc o)(E:o.h.nice)(F:W.cell? ⟨j,0,none⟩=some (.pointer (some ⟨sb,0,none⟩)))(p:Pc):
 Calls prog 255 #[.int .i64 (k:Int),.agg (pA p),.pointer (some ⟨j,0,none⟩)] W λe G=>e=.returned (.bool (kx o p))/\W.grownBy G none:=by
 obtain⟨ab,nb,cb,ac,nc,cc,rfl,rfl⟩:=H.mn;have l:=J (λa(g:W.grownBy a none)=>E6 a sb (19+9*k) ab nb cb ac nc cc o ((H.ah g).hd (bf b g) E) ((H.ah g).tail (bf b g)) p.x p.e p.g);rw[<-oN]at l;have I:(k:Int)<4:=by omega
 have d1:decide ((k:Int)<4)=true:=bp I;have m:=J (Hr o p);obtain⟨q,n⟩:=exq (kx o p);rw[<-n]at m⊢;clear n;obtain⟨⟨r,s⟩,u,v⟩:=p;unfold pA at *;simp only at *;obtain⟨a,c⟩:=exq (W.alloc (.cells #[.int .u64 r,.int .u64 s,.bool u,.bool v] 377));have d:W.grownBy a none:=by rw[c];exact aC _ _ _
 have f:a.heap[W.heap.size]?=some (.cells #[.int .u64 r,.int .u64 s,.bool u,.bool v] 377 (0,0)):=by rw[c];exact aH _ _
 have N:=kc (d.cell F (by simp));obtain⟨w,y,z,A⟩:=oQ f;replace w:=kc w;replace y:=kc y;replace z:=kc z;replace A:=kc A;replace f:=J f;replace b:=J b;replace H:=J H;have i:a.grownBy a.drew none:=aP (av _ none);go_enter func255,ntmps255;go_upto_region 1 with fail;rw[<-c];clear c;go_region_held3 (λK=>a.grownBy K none)
  (first|with_reducible exact B|with_reducible exact i)
  (first|(go_at_call 256;refine(Z l _ (aj d i)).mono ?_;rintro e O⟨C,L⟩;obtain rfl:=rh C (Z m);have B:=aj i L;clear C))
 go_wp2_with fail;go_ret;exact⟨rfl,aj d B⟩
def mu(q:Pk->Bool)(l:List Pk):List (Int×Pc):=l.flatMap (λx=>if q x then x.ps.map (λp=>(x.st,p))else[])
theorem AE(q:Pk->Bool)(l:List Kt):kq (λx=>q x.1) l=mu q (l.map (·.1)):=by
 unfold kq mu;rw[List.flatMap_map]
theorem rE(q:Pk->Bool)(l:List Kt):(l.filter (λx=>q x.1)).map (·.1)=(l.map (·.1)).filter q:=by
 induction l with
 |nil=>rfl
 |cons x l a=>
  simp only[List.filter_cons,ki]
  split<;>simp_all
theorem Ht(q:Pk->Bool)(l:List Kt):l.any (λx=>q x.1)=(l.map (·.1)).any q:=by rw[List.any_map];rfl
def Sd.eN(s:Sd)(l:List Rg):Sd:=
 {s with out:=dy s.out (mu (λx=>bw l x.num) s.az++mu (λx=>bw l x.num) s.lost),az:=(s.az.filter (λx=> !bw l x.num)).filter (λx=> !decide (x.num+3<=(au l 0).hi)),lost:=s.lost.filter (λx=> !bw l x.num)++(s.az.filter (λx=> !bw l x.num)).filter (λx=>decide (x.num+3<=(au l 0).hi)),wait:=if s.az.any (λx=>bw l x.num)then 4 else s.wait}
def Sd.forget(s:Sd):Sd:={s with lost:=s.lost.filter (λx=> !x.ps.all (kx (s.out x.st.toNat)))}
def Sd.dR(s:Sd)(l:List Rg):Sd:=(s.eN l).forget
structure lE(s:Sd):Prop where
 out:∀k,k<4->eD (s.out k)
 pk:∀x∈s.az++s.lost,0<=x.st/\x.st<4/\∀p∈x.ps,jD p
 num:∀x∈s.az,0<=x.num/\x.num<=4611686018427387000
theorem AF{q:Pk->Bool}{l:List Pk}{y:Int×Pc}(h:y∈mu q l):∃x∈l,y.1=x.st/\y.2∈x.ps:=by
 unfold mu at h;obtain⟨x,b,a⟩:=og.1 h;split at a;obtain⟨p,hp,rfl⟩:=fh.1 a;exact⟨x,b,rfl,hp⟩
 cases a
theorem lE.eN(h:lE X)(l:List Rg):lE (X.eN l):=by
 refine⟨Ad h.out _ (λy b=>?_),λx a=>?_,λx a=>?_⟩
 obtain b|b:=ck.1 b
 obtain⟨x,a,-,c⟩:=AF b;exact(h.pk x (oe _ a)).2.2 _ c;obtain⟨x,a,-,c⟩:=AF b;exact(h.pk x (px _ a)).2.2 _ c;unfold Sd.eN at a;simp only[ck,jR]at a;refine h.pk x (ck.2 ?_);obtain a|a|a:=a
 exact .inl a.1.1;exact .inr a.1;exact .inl a.1.1;unfold Sd.eN at a;simp only[jR]at a;exact h.num x a.1.1
theorem Hu(H:bg w k i C D X){x:Kt}(b:x∈D.lf++D.ll){p:Pc}(hp:p∈x.1.ps):p.x.ok:=by
 obtain⟨a,n,c,-,h,-⟩:=H.bd.fm x b;exact h.1 p hp
theorem lE.kt(h:lE X)(H:bg w n k c D X){x:Kt}(a:x∈D.lf++D.ll):0<=x.1.st/\x.1.st<4/\∀p∈x.1.ps,jD p:=by
 refine h.pk x.1 ?_;rw[H.az,H.lost,<-mf];exact lM a
theorem Hv(w:World)(f sb b:Nat)(cs:Array Value)(v:aQ)(s:Sd)(H:bg w f sb cs v s)(hp:lE s)(t:w.heap[b]?=some (.cells #[.pointer (some ⟨sb,0,none⟩)] 169 (0,0)))(B:¬bV sb v b):
 Calls prog 254 #[.pointer (some ⟨sb,91,none⟩),.func (.func 255) #[] #[.pointer (some ⟨b,0,none⟩)]] w λe q=>e=.returned (.tuple #[])/\dD w.heap.size w f sb v s.forget q:=by
 have g:=H.rj;refine(F9 w sb 91 f cs 241 _ _ v.lf v.ll s.count s.tick s.wait H.aG H.fl g (bV sb v) (λk l=>mX l) (H.bd.fm.sub (λx a=>px _ a)) 255 #[.pointer (some ⟨b,0,none⟩)] (λst p=>kx (s.out st.toNat) p) (enters_of func255 (by kernel_rfl) rfl) (λW x p C a I=>?_)).mono ?_;obtain⟨K,L,-⟩:=hp.kt H (px _ a);have l:x.1.st.toNat<4:=by omega
 have e:x.1.st=((x.1.st.toNat:Nat):Int):=by omega
 have u:∀j,(v.own 9).ownBlock=some j->bV sb v j:=λj e=>.inr ⟨9,by omega,e⟩
 have D:W.heap[sb]?=some (.cells cs 241 (0,0)):=(C.block sb H.bd.fu (λe=>g.2.1 e)).trans H.aG;have r:=(H.out _ l).frame C (cs':=cs) (λ_ _ _=>rfl) (λj e1 e2=>H.bd.sep _ 9 (by omega) (by omega) (by omega) j e1 e2) (λy n c e1=>⟨λe2=>(H.bd.da _ (by omega) y n c e1).1 (u _ e2),(H.bd.da _ (by omega) y n c e1).2⟩);have E:W.heap[b]?=some (.cells #[.pointer (some ⟨sb,0,none⟩)] 169 (0,0)):=(C.block b (aO.1 t).1 (λe=>B (u _ e))).trans t;have:=Hs W f sb b cs 241 _ _ _ _ l D r (hp.out _ l).nice (oP E).1 p;rw[<-e]at this;exact this;rintro e q⟨rfl,d,F,r,A,C⟩;refine⟨rfl,?_⟩
 have z:(95:Nat)<cs.size:=by rw[H.sz];omega
 have m:∀i,i≠95->(cs.setIfInBounds (91+4) d)[i]?=cs[i]? :=λi h=>bk (by omega)
 have G:qs w q sb 241 cs (cs.setIfInBounds (91+4) d) 91 (v.own 8) (v.own 9) (v.own 8) d:=⟨F,by simp,λi hi=>m i (by omega),C.mono (λk _ h=>h.elim .inl (λh=>.inr (.inr h))),.inl rfl,.inl A⟩
 have hF:ik q f (cs.setIfInBounds (91+4) d) 91 (v.own 8) d v.lf (v.ll.filter (λx=> !x.1.ps.all (kx (s.out x.1.st.toNat)))) s.count s.tick s.wait:=
  ⟨(m _ (by omega)).trans H.fl.c0,(m _ (by omega)).trans H.fl.c1,(m _ (by omega)).trans H.fl.c2,(m _ (by omega)).trans H.fl.c3,cB (by omega),H.fl.of.aq C (λj e h=>h.elim (λh=>g.1 (h▸e)) (λh=>g.2.2 j e h)),r⟩
 have:=H.wX (aI _) (v.own 8) d v.lf _ _ _ _ G hF (λk e=>by rw[A];exact g.2.2 k e) (λx a=>.inl (by
  obtain a|a:=ck.1 a
  exact oe _ a
  ·exact px _ (jR.1 a).1))
 have e2:({s with az:=v.lf.map (·.1),lost:=(v.ll.filter (λx=> !x.1.ps.all (kx (s.out x.1.st.toNat)))).map (·.1),count:=s.count,tick:=s.tick,wait:=s.wait}:Sd)=s.forget:=by
  unfold Sd.forget;rw[rE (λx=> !x.ps.all (kx (s.out x.st.toNat))),<-H.az,<-H.lost]
 rw[<-e2];exact this
def sQ(w:World)(b sb:Nat)(v:aQ)(s:Sd)(l:List Rg)(e:Ending)(a:World):Prop:=
 (s.count<=(au l 0).hi/\e=.returned (bE 8)/\w.grownBy a none)\/((au l 0).hi<s.count/\e=.returned .nilIface/\dD w.heap.size w b sb v (s.dR l) a)
theorem Hw(w:World)(i sb c:Nat)(cs:Array Value)(v:aQ)(s:Sd)(H:bg w i sb cs v s)(hp:lE s)(R:s.az.length<=1000000/\s.lost.length<=40000000)(D:w.heap[c]?=some (.cells #[.pointer (some ⟨sb,0,none⟩)] 169 (0,0)))(E:¬bV sb v c)(a:Option Addr)(n cap:Nat)(l:List Rg)(hs:ba w a n cap l)(hl:0<l.length)(z:∀y,a=some y->¬bV sb v y.block/\y.block<w.heap.size):
 Calls prog 253 #[.pointer (some ⟨sb,91,none⟩),.slice a n cap,.func (.func 251) #[] #[.pointer (some ⟨c,0,none⟩)]] w λe j=>(s.count<=(au l 0).hi/\e=.returned (.iface 34 (.int .i64 8))/\w.grownBy j none)\/((au l 0).hi<s.count/\e=.returned .nilIface/\dD w.heap.size w i sb v (s.eN l) j/\ak w j (FT sb (v.own 8) (v.own 9))):=by
 have S:v.lf.length=s.az.length:=by have:=fj List.length H.az;rw[dY]at this;exact this.symm
 have T:v.ll.length=s.lost.length:=by have:=fj List.length H.lost;rw[dY]at this;exact this.symm
 have q:¬FT sb (v.own 8) (v.own 9) c:=λh=>E (mX h)
 refine(F6 w sb 91 i cs 241 _ _ v.lf v.ll s.count s.tick s.wait H.aG H.fl H.bl H.rj (by omega) (bV sb v) (λk t=>mX t) H.bd.fm a n cap l hs hl (λy A=>⟨λh=>(z y A).1 (mX h),(z y A).2⟩) (λx b=>by
  have:=hp.num x.1 (by rw[H.az];exact lM b);omega) 251 #[.pointer (some ⟨c,0,none⟩)] (enters_of func251 (by kernel_rfl) rfl)
  (λf W=>lU w i sb c cs v s f W/\∀y∈f,jD y.2) ⟨H.Gy D,λy d=>(by cases d)⟩ (λW G f h C I=>⟨h.1.cW H q C I,h.2⟩) (λW f x p h b u U=>?_)).mono ?_
 obtain⟨m,V,B⟩:=hp.kt H b;have t:x.1.st.toNat<4:=by omega
 have e:x.1.st=((x.1.st.toNat:Nat):Int):=by omega
 have:=Hp w i sb c cs v s H q f W h.1 (Ad hp.out f h.2) _ t p (Hu H b u) (B p u);rw[<-e]at this;refine this.mono ?_;rintro r G⟨rfl,K,L,k3⟩;refine⟨rfl,⟨K,λy d=>?_⟩,L,k3⟩
 obtain d|d:=ck.1 d
 exact h.2 y d;rw[dB.1 d];exact B p u;rintro e j(⟨m,rfl,g⟩|⟨m,rfl,X,Y,al,M,F,⟨W3,N,O,P,Q⟩,C,nf,nl⟩);exact .inl ⟨m,rfl,g⟩;refine .inr ⟨m,rfl,?_,C⟩;have:=N.1.whole H q O P M F C nf Q (λx b=>by
  simp only[ck,jR]at b;refine ck.2 ?_;obtain b|b|b:=b
  exact .inl b.1.1;exact .inr b.1
  ·exact .inl b.1.1)
 have e2:({s with out:=dy s.out (kq (λx=>bw l x.1.num) v.lf++kq (λx=>bw l x.1.num) v.ll),az:=((v.lf.filter (λx=> !bw l x.1.num)).filter (λx=> !decide (x.1.num+3<=(au l 0).hi))).map (·.1),lost:=(v.ll.filter (λx=> !bw l x.1.num)++(v.lf.filter (λx=> !bw l x.1.num)).filter (λx=>decide (x.1.num+3<=(au l 0).hi))).map (·.1),count:=s.count,tick:=s.tick,wait:=(if v.lf.any (λx=>bw l x.1.num)then 4 else s.wait)}:Sd)=s.eN l:=by
  unfold Sd.eN;rw[AE (λx=>bw l x.num),AE (λx=>bw l x.num),mf,rE (λx=> !decide (x.num+3<=(au l 0).hi)),rE (λx=> !bw l x.num) v.lf,rE (λx=>decide (x.num+3<=(au l 0).hi)),rE (λx=> !bw l x.num) v.lf,rE (λx=> !bw l x.num) v.ll,Ht (λx=>bw l x.num),<-H.az,<-H.lost]
 rw[<-e2];exact this
theorem Hy(w:World)(d sb:Nat)(cs:Array Value)(v:aQ)(s:Sd)(H:bg w d sb cs v s)(hp:lE s)(a0:s.az.length<=1000000/\s.lost.length<=40000000)(f:Fr)(a:Option Addr)(n cap:Nat)(hs:ba w a n cap f.ranges)(hl:0<f.ranges.length)(A:∀y,a=some y->¬bV sb v y.block/\y.block<w.heap.size):
 Calls prog 217 #[.pointer (some ⟨sb,0,none⟩),.agg (bF f (.slice a n cap))] w (sQ w d sb v s f.ranges):=by
 obtain⟨R,p⟩:=exq (sQ w d sb v s f.ranges);rw[<-p];replace p:=J p;obtain⟨k,r⟩:=exq (w.alloc (.cells #[.pointer (some ⟨sb,0,none⟩)] 169));have g1:w.grownBy k none:=by rw[r];exact aC _ _ _
 have E:k.heap[w.heap.size]?=some (.cells #[.pointer (some ⟨sb,0,none⟩)] 169 (0,0)):=by rw[r];exact aH _ _
 obtain⟨b,t⟩:=exq (k.alloc (.cells (bF f (.slice a n cap)) 158));have U:k.grownBy b none:=by rw[t];exact aC _ _ _
 have B:b.heap[k.heap.size]?=some (.cells (bF f (.slice a n cap)) 158 (0,0)):=by rw[t];exact aH _ _
 have l:w.grownBy b.drew none:=aP (aj g1 U);have F:¬bV sb v w.heap.size:=λh=>by have:=oL H.bd h;omega
 have m:b.drew.heap[w.heap.size]?=some (.cells #[.pointer (some ⟨sb,0,none⟩)] 169 (0,0)):=bf E (aP U);have u:=J (Hw b.drew d sb w.heap.size cs v s (H.ah l) hp a0 m F a n cap f.ranges (hs.ah l) hl (λy V=>⟨(A y V).1,bK (A y V).2 l.size⟩));have bt:¬FT sb (v.own 8) (v.own 9) w.heap.size:=λh=>F (mX h)
 have G:=J (λI W K(S3:bg I d sb W K (s.eN f.ranges))(a3:I.heap[w.heap.size]?=some (.cells #[.pointer (some ⟨sb,0,none⟩)] 169 (0,0)))(a4:¬bV sb K w.heap.size)=>Hv I d sb w.heap.size W K _ S3 (hp.eN _) a3 a4);have k0:b.drew.cell? ⟨w.heap.size,0,none⟩=some (.pointer (some ⟨sb,0,none⟩)):=(oP m).1;have L:b.drew.cell? ⟨k.heap.size,6,none⟩=some (.slice a n cap):=(cH (w:=b) (by unfold bF at B;exact B)).2.2.2.2.2.2;have bx:k.heap.size=w.heap.size+1:=by rw[r];simp
 have gr:b.grownBy b.drew none:=aP (av _ none);replace H:=J H;replace hp:=J hp;replace E:=J E;replace B:=J B;replace m:=J m;replace hs:=J hs;replace A:=J A;obtain⟨kind,stream,offset,code,fin,data,ranges⟩:=f;unfold bF at *;simp only at *;rw[r]at t L;rw[dC]at L;obtain⟨rl,X⟩:=exq ranges;rw[<-X]at u G p;clear X;go_enter func217,ntmps217;go_upto_region 2 with fail;rw[<-t];clear t r;have M:∀j,w.heap.size<=j->¬FT sb (v.own 8) (v.own 9) j:=λj hj h=>by have:=oL (Z H).bd (mX h);omega
 have q:b.drew.cell? ⟨w.heap.size,0,none⟩=some (.pointer (some ⟨sb,0,none⟩))/\b.drew.cell? ⟨w.heap.size+1,6,none⟩=some (.slice a n cap):=⟨k0,L⟩
 by_cases Y:s.count<=(au rl 0).hi
 ·have C:=J ((Z u).mono (λe c h=>(show e=.returned (.iface 34 (.int .i64 8))/\b.drew.grownBy c none from h.elim (λh=>h.2) (λh=>by have:=h.1;omega))));have N:=J (λc(g:b.drew.grownBy c none)=>(show R (.returned (.iface 34 (.int .i64 8))) c by rw[Z p];exact .inl ⟨Y,rfl,aj l g⟩));clear u;go_region_held3 (λc=>c.cell? ⟨w.heap.size,0,none⟩=some (.pointer (some ⟨sb,0,none⟩))/\c.cell? ⟨w.heap.size+1,6,none⟩=some (.slice a n cap))
   (first|with_reducible exact x|with_reducible exact q)
   (first|(go_at_call 253;refine(Z C).mono ?_;rintro e i⟨rfl,O⟩;have x:i.cell? ⟨w.heap.size,0,none⟩=some (.pointer (some ⟨sb,0,none⟩))/\i.cell? ⟨w.heap.size+1,6,none⟩=some (.slice a n cap):=⟨O.cell q.1 (by simp),O.cell q.2 (by simp)⟩;have P:=J (Z N _ O)))
  go_wp2_with fail;exact Z P
 have C:=J ((Z u).mono (λe c h=>(show e=.returned .nilIface/\dD b.drew.heap.size b.drew d sb v (s.eN rl) c/\ak b.drew c (FT sb (v.own 8) (v.own 9))from h.elim (λh=>absurd h.1 Y) (λh=>h.2))));clear u;go_region_held3 (λc=>c.cell? ⟨w.heap.size,0,none⟩=some (.pointer (some ⟨sb,0,none⟩))/\c.cell? ⟨w.heap.size+1,6,none⟩=some (.slice a n cap))
  (first|with_reducible exact x|with_reducible exact q)
  (first|(go_at_call 253;refine(Z C).mono ?_;rintro e i⟨rfl,D,z⟩;have x:i.cell? ⟨w.heap.size,0,none⟩=some (.pointer (some ⟨sb,0,none⟩))/\i.cell? ⟨w.heap.size+1,6,none⟩=some (.slice a n cap):=⟨z.cell q.1 (M _ (aI _)),z.cell q.2 (M _ (by simp))⟩;have a9:=J ((z.block w.heap.size (aO.1 (Z m)).1 (M _ (aI _))).trans (Z m));replace D:=J D;replace z:=J z))
 obtain⟨bb,Q,S,T⟩:=Z D;have bj:¬bV sb Q w.heap.size:=λh=>by
  have bM:=(aO.1 (Z m)).1;obtain h1|h1:=T.ft _ h
  exact F h1;omega
 have br:=J (Z G i bb Q S (Z a9) bj);have N:=J (λc(h:dD i.heap.size i d sb Q (s.eN rl).forget c)=>(show R (.returned .nilIface) c by
  rw[Z p];refine .inr ⟨by omega,rfl,?_⟩;exact dD.pre ((cP.ah l).trans (T.mono l.size)) (h.mono (bC l.size T.aq.size))))
 have bP:=x.1;clear G C D x;replace S:=J S;go_wp2_with fail;refine(Z br).mono ?_;rintro e w6⟨rfl,h6⟩;have P:=J (Z N _ h6);clear h6;go_wp2_with fail;exact Z P
def Sd.take(s:Sd)(f:Fr):Int×Sd:=
 if f.kind=3 then(if s.count<=(au f.ranges 0).hi then(8,s)else(0,s.dR f.ranges))
 else if f.kind=4 then(if(s.aT f.stream.toNat).jS f.offset then(7,s)else(0,{s with aT:=aw s.aT f.stream.toNat ((s.aT f.stream.toNat).reset f)}))
 else if f.kind=5 then(if(s.aT f.stream.toNat).bad f then(7,s)else(0,{s with aT:=aw s.aT f.stream.toNat ((s.aT f.stream.toNat).data f)}))
 else if f.kind=6 then(10,s)else(0,s)
def jY(w:World)(a sb:Nat)(v:aQ)(r:Int×Sd)(e:Ending)(b:World):Prop:=e=.returned (bE r.1)/\dD w.heap.size w a sb v r.2 b
theorem Hz(w:World)(a sb k:Nat)(cs:Array Value)(v:aQ)(s:Sd)(H:bg w a sb cs v s)(b:k<4)(f:Fr)(c:Value):
 Calls prog 218 #[.pointer (some ⟨sb,55+k*9,none⟩),.agg (bF f c)] w (jY w a sb v (if(s.aT k).jS f.offset then(7,s)else(0,{s with aT:=aw s.aT k ((s.aT k).reset f)}))):=by
 rw[sI];refine(Fh w sb (55+9*k) a cs _ _ _ _ H.aG (H.aT k b) (H.wU k b) f c).mono ?_;rintro r e(⟨h,rfl,g⟩|⟨h,rfl,d⟩);rw[h];exact⟨rfl,H.to g⟩
 rw[h];exact⟨rfl,H.wV k b _ d⟩
theorem HB(w:World)(a sb k:Nat)(cs:Array Value)(v:aQ)(s:Sd)(H:bg w a sb cs v s)(b:k<4)(f:Fr)(c:Value)(d:(s.aT k).h.nice)(e:0<=f.offset)(hs:cq f<=4611686018427387903)(i:(s.aT k).given=false->∀m,f.offset<=m->m<cq f->¬Sm (s.aT k).h.ag m->(s.aT k).h.fr<=m/\m<(s.aT k).h.fr+900000):
 Calls prog 219 #[.pointer (some ⟨sb,55+k*9,none⟩),.agg (bF f c)] w (jY w a sb v (if(s.aT k).bad f then(7,s)else(0,{s with aT:=aw s.aT k ((s.aT k).data f)}))):=by
 rw[sI];refine(Fe w sb (55+9*k) a cs _ _ _ _ H.aG (H.aT k b) d H.bl (H.wU k b) f c e hs i).mono ?_;rintro r l(⟨h,rfl,g⟩|⟨h,rfl,j⟩);rw[h];exact⟨rfl,H.to g⟩
 rw[h];exact⟨rfl,H.wV k b _ j⟩
theorem jY.pre{r:Int×Sd}{e:Ending}(g:w.grownBy W none)(h:jY W n k D r e V):jY w n k D r e V:=⟨h.1,dD.pre (cP.ah g) (h.2.mono g.size)⟩
theorem jY.aq{r:Int×Sd}{e:Ending}(h:jY w n k D r e W):ak w W (bV k D):=by
 obtain⟨-,cs,b,-,a⟩:=h;exact a.aq
theorem sQ.tk{e:Ending}(H:bg w n k c D X)(h:sQ w n k D X Y e W):jY w n k D (if X.count<=(au Y 0).hi then(8,X)else(0,X.dR Y)) e W:=by
 obtain⟨a,rfl,g⟩|⟨a,rfl,b⟩:=h
 rw[aM a];exact⟨rfl,H.to g⟩
 rw[ay (by omega)];exact⟨rfl,b⟩
structure AG(s:Sd)(f:Fr):Prop where
 st:0<=f.stream/\f.stream<4
 rg:f.kind=3->0<f.ranges.length
 off:0<=f.offset
 en:f.kind=5->cq f<=4611686018427387903
 nice:(s.aT f.stream.toNat).h.nice
 lo:f.kind=5->(s.aT f.stream.toNat).given=false->∀m,f.offset<=m->m<cq f->¬Sm (s.aT f.stream.toNat).h.ag m->(s.aT f.stream.toNat).h.fr<=m/\m<(s.aT f.stream.toNat).h.fr+900000
theorem HC(w:World)(p sb:Nat)(cs:Array Value)(v:aQ)(s:Sd)(H:bg w p sb cs v s)(hp:lE s)(a2:s.az.length<=1000000/\s.lost.length<=40000000)(f:Fr)(a:Option Addr)(n cap:Nat)(hs:ba w a n cap f.ranges)(S:f.ranges≠[]->∀y,a=some y->¬bV sb v y.block/\y.block<w.heap.size)(u:AG s f):
 Calls prog 166 #[.pointer (some ⟨sb,0,none⟩),.agg (bF f (.slice a n cap))] w (jY w p sb v (s.take f)):=by
 obtain⟨R,b⟩:=exq (jY w p sb v (s.take f));rw[<-b];obtain⟨k,Y,x⟩:∃k:Nat,k<4/\f.stream=(k:Int):=⟨f.stream.toNat,by have:=u.st;omega,by have:=u.st;omega⟩
 have i:f.stream.toNat=k:=by omega
 obtain⟨j,l⟩:=exq (w.alloc (.cells (bF f (.slice a n cap)) 158));have B:w.grownBy j none:=by rw[l];exact aC _ _ _
 have d:j.heap[w.heap.size]?=some (.cells (bF f (.slice a n cap)) 158 (0,0)):=by rw[l];exact aH _ _
 have I:=J (λW(g:w.grownBy W none)(hl:0<f.ranges.length)=>(Hy W p sb cs v s (H.ah g) hp a2 f a n cap (hs.ah g) hl (λy ey=>⟨(S (np.1 hl) y ey).1,bK (S (np.1 hl) y ey).2 g.size⟩)).mono (λe C h=>jY.pre g (sQ.tk (H.ah g) h)));have K:=J (λW(g:w.grownBy W none)=>Hz W p sb k cs v s (H.ah g) Y f (.slice a n cap));have L:=J (λW(g:w.grownBy W none)(c:f.kind=5)=>HB W p sb k cs v s (H.ah g) Y f (.slice a n cap) (by rw[<-i];exact u.nice) u.off (u.en c) (by rw[<-i];exact u.lo c));have D:=J (λW(g:w.grownBy W none)(e:Int)=>(show jY w p sb v (e,s) (.returned (bE e)) W from⟨rfl,H.to g⟩));have ax:s.take f=if f.kind=3 then(if s.count<=(au f.ranges 0).hi then(8,s)else(0,s.dR f.ranges))else if f.kind=4 then(if(s.aT k).jS f.offset then(7,s)else(0,{s with aT:=aw s.aT k ((s.aT k).reset f)}))else if f.kind=5 then(if(s.aT k).bad f then(7,s)else(0,{s with aT:=aw s.aT k ((s.aT k).data f)}))else if f.kind=6 then(10,s)else(0,s):=by unfold Sd.take;rw[i]
 rw[ax]at b;have i1:(k:Int)<4:=by omega
 have d1:decide ((k:Int)<4)=true:=bp i1;have T:=u.rg;have P:¬bV sb v w.heap.size:=λh=>by have:=oL H.bd h;omega
 clear ax hp hs S u;replace H:=J H;replace T:=J T;have Q:j.grownBy j.drew none:=aP (av _ none);have a0:∀(r:Int×Sd)(e:Ending)(C:World),jY w p sb v r e C->e=.returned (bE r.1):=λr e C h=>h.1
 obtain⟨rr,N⟩:∃rr:Int×Sd,R=jY w p sb v rr:=⟨_,b⟩
 by_cases t:f.kind=3
 ·have z:=J (Z I j B (Z T t));rw[aM t]at b;clear K L D I;obtain⟨q,A⟩:∃q:Int×Sd,q=(if s.count<=(au f.ranges 0).hi then(8,s)else(0,s.dR f.ranges)):=⟨_,rfl⟩
  rw[<-A]at b z;clear A N;replace b:=J b;obtain⟨kind,stream,offset,code,fin,data,ranges⟩:=f;unfold bF at *;simp only at *;subst t;obtain⟨M,y1,y2,y3,y4,y5,y6⟩:=cH d;replace d:=J d;replace x:=J x;replace i:=J i;go_enter func166,ntmps166;go_upto_region 1 with fail;rw[<-l];clear l;go_wp2_with fail;refine(Z z).mono ?_;rintro e w2 U;obtain rfl:=U.1;have m:Hid (R (.returned (bE q.1)) w2):=J (by rw[Z b];exact U);clear U;generalize bE q.1=ev at *;go_wp2_with fail;exact Z m
 rw[ay t]at b;by_cases E:f.kind=4
 ·have z:=J (Z K j.drew (aj B Q));rw[aM E]at b;clear K L D I;obtain⟨q,A⟩:∃q:Int×Sd,q=(if(s.aT k).jS f.offset then(7,s)else(0,{s with aT:=aw s.aT k ((s.aT k).reset f)})):=⟨_,rfl⟩
  rw[<-A]at b z;clear A N;replace b:=J b;obtain⟨kind,stream,offset,code,fin,data,ranges⟩:=f;unfold bF at *;simp only at *;subst E;subst x;obtain⟨M,-⟩:=cH d;obtain⟨F,hF⟩:=exq w.heap.size;rw[<-hF]at d P M;have G:j.drew.heap[F]?=some (.cells #[.int .i64 4,.int .i64 (k:Int),.int .u64 offset,.int .u64 code,.bool fin,.string data,.slice a n cap] 158 (0,0)):=d;replace d:=J d;replace i:=J i;clear t;go_enter func166,ntmps166;go_upto_region 1 with fail;rw[<-l,<-hF];clear l hF;go_upto_region 5 with fail;have k0:∀W:World,W.heap[F]?=some (.cells #[.int .i64 4,.int .i64 (k:Int),.int .u64 offset,.int .u64 code,.bool fin,.string data,.slice a n cap] 158 (0,0))->W.cell? ⟨F,0,none⟩=some (.int .i64 4):=λW h=>(cH h).1
  have k1:∀W:World,W.heap[F]?=some (.cells #[.int .i64 4,.int .i64 (k:Int),.int .u64 offset,.int .u64 code,.bool fin,.string data,.slice a n cap] 158 (0,0))->W.cell? ⟨F,1,none⟩=some (.int .i64 (k:Int)):=λW h=>(cH h).2.1
  have k2:∀W:World,W.heap[F]?=some (.cells #[.int .i64 4,.int .i64 (k:Int),.int .u64 offset,.int .u64 code,.bool fin,.string data,.slice a n cap] 158 (0,0))->W.cell? ⟨F,2,none⟩=some (.int .u64 offset):=λW h=>(cH h).2.2.1
  have k3:∀W:World,W.heap[F]?=some (.cells #[.int .i64 4,.int .i64 (k:Int),.int .u64 offset,.int .u64 code,.bool fin,.string data,.slice a n cap] 158 (0,0))->W.cell? ⟨F,3,none⟩=some (.int .u64 code):=λW h=>(cH h).2.2.2.1
  have k4:∀W:World,W.heap[F]?=some (.cells #[.int .i64 4,.int .i64 (k:Int),.int .u64 offset,.int .u64 code,.bool fin,.string data,.slice a n cap] 158 (0,0))->W.cell? ⟨F,4,none⟩=some (.bool fin):=λW h=>(cH h).2.2.2.2.1
  have k5:∀W:World,W.heap[F]?=some (.cells #[.int .i64 4,.int .i64 (k:Int),.int .u64 offset,.int .u64 code,.bool fin,.string data,.slice a n cap] 158 (0,0))->W.cell? ⟨F,5,none⟩=some (.string data):=λW h=>(cH h).2.2.2.2.2.1
  have k6:∀W:World,W.heap[F]?=some (.cells #[.int .i64 4,.int .i64 (k:Int),.int .u64 offset,.int .u64 code,.bool fin,.string data,.slice a n cap] 158 (0,0))->W.cell? ⟨F,6,none⟩=some (.slice a n cap):=λW h=>(cH h).2.2.2.2.2.2
  go_region_held3 (λC=>C.heap[F]?=some (.cells #[.int .i64 4,.int .i64 (k:Int),.int .u64 offset,.int .u64 code,.bool fin,.string data,.slice a n cap] 158 (0,0)))
   (first|with_reducible exact V|with_reducible exact G)
   (first|(go_at_call 218;refine(Z z).mono ?_;rintro e X c;obtain rfl:=c.1;have V:=(c.aq.block F (aO.1 G).1 P).trans G;have m:Hid (R (.returned (bE q.1)) X):=J (by rw[Z b];exact jY.pre (aj B Q) c);clear c;generalize bE q.1=ev at m⊢))
  go_wp2_with fail;exact Z m
 rw[ay E]at b;by_cases c:f.kind=5
 ·have z:=J (Z L j.drew (aj B Q) c);rw[aM c]at b;clear K L D I;obtain⟨q,A⟩:∃q:Int×Sd,q=(if(s.aT k).bad f then(7,s)else(0,{s with aT:=aw s.aT k ((s.aT k).data f)})):=⟨_,rfl⟩
  rw[<-A]at b z;clear A N;replace b:=J b;obtain⟨kind,stream,offset,code,fin,data,ranges⟩:=f;unfold bF at *;simp only at *;subst c;subst x;obtain⟨M,-⟩:=cH d;obtain⟨F,hF⟩:=exq w.heap.size;rw[<-hF]at d P M;have G:j.drew.heap[F]?=some (.cells #[.int .i64 5,.int .i64 (k:Int),.int .u64 offset,.int .u64 code,.bool fin,.string data,.slice a n cap] 158 (0,0)):=d;replace d:=J d;replace i:=J i;clear t E;go_enter func166,ntmps166;go_upto_region 1 with fail;rw[<-l,<-hF];clear l hF;go_upto_region 7 with fail;have k0:∀W:World,W.heap[F]?=some (.cells #[.int .i64 5,.int .i64 (k:Int),.int .u64 offset,.int .u64 code,.bool fin,.string data,.slice a n cap] 158 (0,0))->W.cell? ⟨F,0,none⟩=some (.int .i64 5):=λW h=>(cH h).1
  have k1:∀W:World,W.heap[F]?=some (.cells #[.int .i64 5,.int .i64 (k:Int),.int .u64 offset,.int .u64 code,.bool fin,.string data,.slice a n cap] 158 (0,0))->W.cell? ⟨F,1,none⟩=some (.int .i64 (k:Int)):=λW h=>(cH h).2.1
  have k2:∀W:World,W.heap[F]?=some (.cells #[.int .i64 5,.int .i64 (k:Int),.int .u64 offset,.int .u64 code,.bool fin,.string data,.slice a n cap] 158 (0,0))->W.cell? ⟨F,2,none⟩=some (.int .u64 offset):=λW h=>(cH h).2.2.1
  have k3:∀W:World,W.heap[F]?=some (.cells #[.int .i64 5,.int .i64 (k:Int),.int .u64 offset,.int .u64 code,.bool fin,.string data,.slice a n cap] 158 (0,0))->W.cell? ⟨F,3,none⟩=some (.int .u64 code):=λW h=>(cH h).2.2.2.1
  have k4:∀W:World,W.heap[F]?=some (.cells #[.int .i64 5,.int .i64 (k:Int),.int .u64 offset,.int .u64 code,.bool fin,.string data,.slice a n cap] 158 (0,0))->W.cell? ⟨F,4,none⟩=some (.bool fin):=λW h=>(cH h).2.2.2.2.1
  have k5:∀W:World,W.heap[F]?=some (.cells #[.int .i64 5,.int .i64 (k:Int),.int .u64 offset,.int .u64 code,.bool fin,.string data,.slice a n cap] 158 (0,0))->W.cell? ⟨F,5,none⟩=some (.string data):=λW h=>(cH h).2.2.2.2.2.1
  have k6:∀W:World,W.heap[F]?=some (.cells #[.int .i64 5,.int .i64 (k:Int),.int .u64 offset,.int .u64 code,.bool fin,.string data,.slice a n cap] 158 (0,0))->W.cell? ⟨F,6,none⟩=some (.slice a n cap):=λW h=>(cH h).2.2.2.2.2.2
  go_region_held3 (λC=>C.heap[F]?=some (.cells #[.int .i64 5,.int .i64 (k:Int),.int .u64 offset,.int .u64 code,.bool fin,.string data,.slice a n cap] 158 (0,0)))
   (first|with_reducible exact V|with_reducible exact G)
   (first|(go_at_call 219;refine(Z z).mono ?_;rintro e X c;obtain rfl:=c.1;have V:=(c.aq.block F (aO.1 G).1 P).trans G;have m:Hid (R (.returned (bE q.1)) X):=J (by rw[Z b];exact jY.pre (aj B Q) c);clear c;generalize bE q.1=ev at m⊢))
  go_wp2_with fail;exact Z m
 rw[ay c]at b;by_cases O:f.kind=6
 ·rw[aM O]at b;have m:Hid (R (.returned (.iface 34 (.int .i64 10))) j):=J (by rw[b];exact Z D j B 10);clear b N K L D I a0;obtain⟨kind,stream,offset,code,fin,data,ranges⟩:=f;unfold bF at *;simp only at *;subst O;obtain⟨M,-⟩:=cH d;replace d:=J d;replace x:=J x;replace i:=J i;clear t E c;go_enter func166,ntmps166;go_upto_region 1 with fail;rw[<-l];clear l;go_wp2_with fail;exact Z m
 rw[ay O]at b;have m:Hid (R (.returned .nilIface) j):=J (by rw[b];exact Z D j B 0);clear b N K L D I a0;obtain⟨kind,stream,offset,code,fin,data,ranges⟩:=f;unfold bF at *;simp only at *;obtain⟨M,-⟩:=cH d;have e3:(kind==3)=false:=by simpa using t
 have e4:(kind==4)=false:=by simpa using E
 have e5:(kind==5)=false:=by simpa using c
 have e6:(kind==6)=false:=by simpa using O
 replace d:=J d;replace x:=J x;replace i:=J i;clear t E c O;go_enter func166,ntmps166;go_upto_region 1 with fail;rw[<-l];clear l;go_wp2_with fail;exact Z m
