import Derived.Test.YtjnmokmchdfchaaGreatDoorX9
import Derived.Test.YtjnmokmchdfchaaGreatDoorXa
set_option maxRecDepth 1000000
set_option maxHeartbeats 0
set_option linter.all false
namespace Go.Proofs.YtjnmokmchdfchaaGreatDoor
open Go.RowKit Tryz
attribute[local go_sem↓]Go.wp_at_zero Go.wp_at_succ
variable{C c:Array Value}{D:List Rg}{i j k n:Nat}{f:Ot}{s:Sd}{T:TypeId}{x y z:Value}{V W w:World}{d:aX}
def Sd.eW(s:Sd):Sd:=
 if s.aM.any (λx=>decide (s.wait<=s.tick+1-x.tick))then{s with aM:=[],lost:=s.lost++s.aM,tick:=s.tick+1,wait:=min (2*s.wait) 32}else{s with tick:=s.tick+1}
def any_map{l:List Kt}{f:Pk->Bool}:(l.map (·.1)).any f=true↔∃x∈l,f x.1=true:=by simp[qY]
def bC.jk(H:bC w k i C d s):∀x∈d.lf,∃a n c,x.2=.slice a n c:=λx b=>by
 obtain⟨a,n,c,e,-⟩:=H.bu.fV x (iO _ b);exact⟨a,n,c,e⟩
def rz.ne{d:Value}(f:rz w W n T c C i x y z d)(h:z.ownBlock=x.ownBlock)(g:pM n x y)(j:∀k,x.ownBlock=some k->k<w.heap.size):∀k,z.ownBlock=some k->d.ownBlock≠some k:=λk a b=>by
 rw[h]at a;obtain e|e:=f.Bz
 rw[e]at b;exact g.2.2 k a b;have:=e k b;have:=j k a;omega
def IK(w:World)(a sb:Nat)(cs:Array Value)(v:aX)(s:Sd)(H:bC w a sb cs v s)(hl:s.aM.length<=1000000/\s.lost.length<=50000000)(u:0<=s.tick/\s.tick<1000000000000)(b:∀x∈s.aM,0<=x.tick/\x.tick<=1000000000000)(y:0<=s.wait/\s.wait<=1000):
 Calls prog 129 #[.pointer (some ⟨sb,0,none⟩)] w λr c=>r=.returned (.tuple #[])/\dV w.heap.size w a sb v s.eW c:=by
 have m:=J (om w sb 0 H.kF);simp only[ne_eq,vp,tD]at m;have I:v.lf.length=s.aM.length:=by have:=fG List.length H.aM;rw[dH]at this;exact this.symm
 have K:v.ll.length=s.lost.length:=by have:=fG List.length H.lost;rw[dH]at this;exact this.symm
 have z:=J (λW(g:w.grownBy W none)=>Ij W sb 91 a cs 241 _ _ v.lf v.ll s.count s.tick s.wait (bB H.aP g) (H.an g).fl (bD H.aG g.size) H.sr (by omega) H.jk u (λx A=>b x.1 (by rw[H.aM];exact pt A)) y);have B:=J (λW i(g:w.grownBy W none)(h:((∃x∈v.lf,s.wait<=s.tick+1-x.1.tick)/\qD W i sb 241 cs 91 a (v.own 8) (v.own 9) [] (v.ll++v.lf) s.count (s.tick+1) (min (2*s.wait) 32))\/((¬∃x∈v.lf,s.wait<=s.tick+1-x.1.tick)/\qD W i sb 241 cs 91 a (v.own 8) (v.own 9) v.lf v.ll s.count (s.tick+1) s.wait))=>show dV w.heap.size w a sb v s.eW i by
  have d:=H.an g;have n:s.aM.any (λx=>decide (s.wait<=s.tick+1-x.tick))=true↔∃x∈v.lf,s.wait<=s.tick+1-x.1.tick:=by rw[H.aM,any_map];simp
  refine dV.pre (dh.an g) ?_;obtain⟨j,C,k,l,T,F,e⟩|⟨j,C,k,l,T,F,e⟩:=h
  have:=d.yJ g.size k l [] (v.ll++v.lf) _ _ _ T F (T.ne e d.sr (d.bu.lt 8 (by omega))) (λx b=>.inl (by
   rw[jZ]at b;exact(bQ.1 b).elim (jW _) (iO _)))
  unfold Sd.eW;rw[aD (n.2 j)];rw[show s.lost++s.aM=(v.ll++v.lf).map (·.1) by rw[mY,<-H.lost,<-H.aM]];exact this
  ·have:=d.yJ g.size k l v.lf v.ll _ _ _ T F (T.ne e d.sr (d.bu.lt 8 (by omega))) (λx b=>.inl b);unfold Sd.eW;rw[az (λD=>j (n.1 D))];have e2:({s with tick:=s.tick+1}:Sd)={s with aM:=v.lf.map (·.1),lost:=v.ll.map (·.1),count:=s.count,tick:=s.tick+1,wait:=s.wait}:=by rw[<-H.aM,<-H.lost]
   rw[e2];exact this)
 obtain⟨R,f⟩:=exq (λc:World=>dV w.heap.size w a sb v s.eW c);have p:(λ(r:Ending) c=>r=.returned (.tuple #[])/\dV w.heap.size w a sb v s.eW c)=λr c=>r=.returned (.tuple #[])/\R c:=by rw[f]
 rw[p];clear p;replace⟨f,H⟩:=bA f H;clear b;go_enter func129,ntmps129;go_wp2_with fail;apply(Z m).mono;rintro e L⟨rfl,q⟩;go_wp2_with fail;apply(Z z _ q).mono;rintro e E⟨rfl,t⟩;have G:Hid (R E):=J (by rw[Z f];exact Z B _ _ q t);clear t;go_wp2_with fail;exact fm (eF rfl _ _ _) rfl ⟨rfl,Z G⟩
def IL(w:World)(sb:Nat)(aA:Int)(dC:w.cell? ⟨sb,99,none⟩=some (.int .i64 aA))(h:aA≠0):Calls prog 129 #[.pointer (some ⟨sb,0,none⟩)] w λr b=>r=.returned (.tuple #[])/\w.grownBy b none:=by
 have a:=J (om w sb aA dC);rw[dO h]at a;go_enter func129,ntmps129;go_wp2_with fail;apply(Z a).mono;rintro e d⟨rfl,c⟩;go_wp2_with fail;exact fm (eF rfl _ _ _) rfl ⟨rfl,c⟩
def Ot.gz(o:Ot)(p:Pc):Ot:=
 {o with tE:=o.tE||p.e,tG:=o.tG||p.g,h:=⟨o.h.fr+(cV ⟨o.h.fr,o.h.bytes,dB o.h.af p.x⟩).toNat,o.h.bytes.drop (cV ⟨o.h.fr,o.h.bytes,dB o.h.af p.x⟩).toNat,dB o.h.af p.x⟩}
def eH(out:Nat->Ot)(l:List (Int×Pc)):Nat->Ot:=l.foldl (λo x=>ah o x.1.toNat ((o x.1.toNat).gz x.2)) out
def IS(out:Nat->Ot)(l:List (Int×Pc))(x:Int×Pc):eH out (l++[x])=ah (eH out l) x.1.toNat ((eH out l x.1.toNat).gz x.2):=by
 unfold eH;rw[List.foldl_append];rfl
def bl.BM(h:bl D)(lo hi:Int)(a:∀m,Sm D m->lo<=m/\m<hi):(D.length:Int)<=max 0 (hi-lo):=by
 induction D generalizing lo with
 |nil=>simp;omega
 |cons r D c=>
  have d:=h.2 r (by simp);have e:=a r.lo ((eB r D r.lo).2 (.inl ⟨cS _,d⟩));have f:=c h.tail (lo+1) (λm b=>by
   have g:=a m ((eB r D m).2 (.inr b));have i:=h.behind b;omega)
  simp only[dc]
  omega
structure gC(o:Ot):Prop where
 ok:bl o.h.af
 kY:∀m,Sm o.h.af m->0<=m/\m<4096
 fr:0<=o.h.fr
 low:∀m,0<=m->m<o.h.fr->Sm o.h.af m
 hole:¬Sm o.h.af o.h.fr
 en:o.en<=4096
def gC.cl(h:gC f):f.h.af.length<=4096:=by
 have:=h.ok.BM 0 4096 h.kY;omega
def gC.nice(h:gC f):f.h.nice:=by
 have a:=h.en;have b:=h.fr;have c:=h.cl;unfold Ot.en at a;exact⟨b,by omega,h.ok,by omega,by omega⟩
def BN(h:bl D)(h0:∀m,Sm D m->0<=m)(a:¬(D.length=0\/0<(au D 0).lo)):(au D 0).lo=0/\0<(au D 0).hi/\(∀m,0<=m->m<(au D 0).hi->Sm D m)/\¬Sm D (au D 0).hi:=by
 cases D with
 |nil=>exact absurd (.inl rfl) a
 |cons r D=>
  have e:au (r::D) 0=r:=rfl;rw[e]at a⊢;have c:=h.2 r (by simp);have g:=h0 r.lo ((eB r D r.lo).2 (.inl ⟨cS _,c⟩));refine⟨by omega,by omega,λm i d=>(eB r D m).2 (.inl ⟨by omega,d⟩),λf=>?_⟩
  obtain b|b:=(eB r D r.hi).1 f
  omega;have:=h.behind b;omega
def BO(h:gC f)(hl:bl D)(hs:∀m,Sm f.h.af m->Sm D m)(c:∀m,Sm D m->0<=m/\m<4096):
 0<=cV ⟨f.h.fr,f.h.bytes,D⟩/\f.h.fr+cV ⟨f.h.fr,f.h.bytes,D⟩<=4096/\(∀m,0<=m->m<f.h.fr+cV ⟨f.h.fr,f.h.bytes,D⟩->Sm D m)/\¬Sm D (f.h.fr+cV ⟨f.h.fr,f.h.bytes,D⟩):=by
 have l:=h.fr;have n:=h.en;unfold Ot.en at n;unfold cV;simp only
 by_cases a:D.length=0\/0<(au D 0).lo;rw[aD a];have d:¬Sm D 0:=λg=>by
  cases D with
  |nil=>exact fU 0 g
  |cons r D=>
   obtain a|a:=a
   simp at a;have e:au (r::D) 0=r:=rfl;rw[e]at a;obtain b|b:=(eB r D 0).1 g
   omega;have:=hl.behind b;have:=hl.2 r (by simp);omega
 have p:f.h.fr=0:=by
  obtain b|b:=Int.lt_or_eq_of_le l
  exact absurd (hs 0 (h.low 0 (cS _) b)) d;exact b.symm
 rw[p];exact⟨cS _,by omega,λm b q=>by omega,by simpa using d⟩
 rw[az a];obtain⟨b,q,i,j⟩:=BN hl (λm s=>(c m s).1) a;have k:f.h.fr<=(au D 0).hi:=by
  by_cases k:(au D 0).hi<f.h.fr;exact absurd (hs _ (h.low _ (by omega) k)) j;omega
 have u:=(c ((au D 0).hi-1) (i _ (by omega) (by omega))).2;refine⟨by omega,by omega,λm t v=>i m t (by omega),?_⟩
 rw[show f.h.fr+((au D 0).hi-f.h.fr)=(au D 0).hi by omega];exact j
def lG(p:Pc):Prop:=0<=p.x.lo/\0<=p.x.hi/\p.x.lo<=4096/\p.x.hi<=4096
def BP(h:gC f){p:Pc}(hp:lG p):∀m,Sm (dB f.h.af p.x) m->0<=m/\m<4096:=λm b=>by
 obtain a|a:=(jM p.x h.ok m).1 b
 exact h.kY m a;unfold lG at hp;omega
def gC.gz(h:gC f){p:Pc}(hp:lG p):gC (f.gz p):=by
 have a:=nj p.x h.ok;have b:=BP h hp;obtain⟨k,l,c,d⟩:=BO h a (λm e=>(jM p.x h.ok m).2 (.inl e)) b;have n:=h.fr;have g:=h.en;unfold Ot.en at g;unfold Ot.gz;refine⟨a,b,by simp only;omega,λm i j=>c m i (by simp only at j;omega),?_,?_⟩
 simp only
 rw[show f.h.fr+((cV ⟨f.h.fr,f.h.bytes,dB f.h.af p.x⟩).toNat:Int)=f.h.fr+cV ⟨f.h.fr,f.h.bytes,dB f.h.af p.x⟩ by omega];exact d;unfold Ot.en;simp only[dM]
 omega
def yK{out:Nat->Ot}(h:∀k,k<4->gC (out k))(l:List (Int×Pc))(hl:∀x∈l,lG x.2):∀k,k<4->gC (eH out l k):=by
 induction l generalizing out with
 |nil=>exact h
 |cons x l b=>
  have e:eH out (x::l)=eH (ah out x.1.toNat ((out x.1.toNat).gz x.2)) l:=rfl;rw[e];refine b (λk a=>?_) (λy c=>hl y (by simp[c]));by_cases e:k=x.1.toNat;subst e;rw[bk];exact(h _ a).gz (hl x (by simp));rw[bm _ _ e];exact h k a
def IT(q:w.heap[n]?=some (.cells c T (0,0)))(H:gL w j c i y z f)(a:gC f)(s:j<=w.heap.size)(t:kB w n y z)(p:Pc)(u:p.x.ok)(hp:lG p):
 Calls prog 252 #[.pointer (some ⟨n,i,none⟩),.agg (pA p)] w λr d=>r=.returned (.tuple #[])/\oe w d n T c i j y z (f.gz p)/\w.grownBy d (some n):=by
 have v:yu f.h p.x:=λA l _ b=>by
  have e:=vS a.ok l b;subst e;obtain⟨B,G,-⟩:=BO a l (λm C=>(b m).2 (.inl C)) (BP a hp);exact⟨B,by omega⟩
 refine(IP q H a.nice s t p.x p.e p.g u v (by have:=a.cl;omega)).mono ?_;rintro r d⟨rfl,A,k,D,E,-,b,F,g⟩;have e:=vS a.ok E b;subst e;refine⟨rfl,?_,g⟩
 unfold Ot.gz;rw[<-D];simpa using F
structure l9(w:World)(base sb Bs:Nat)(cs0:Array Value)(v0:aX)(s:Sd)(acc:List (Int×Pc))(W:World)(cs:Array Value)(ob oc:Nat->Value):Prop where
 aP:W.heap[sb]?=some (.cells cs 241 (0,0))
 sz:cs.size=cs0.size
 same:∀i,(i<19\/(55<=i/\i<91)\/96<=i)->cs[i]?=cs0[i]?
 out:∀k,k<4->gL W base cs (19+9*k) (ob k) (oc k) (eH s.out acc k)
 rA:∀k,k<4->(ob k).ownBlock=(v0.own k).ownBlock\/∀j,(ob k).ownBlock=some j->w.heap.size<=j
 sw:∀j k,j<4->k<4->j≠k->∀b,(ob j).ownBlock=some b->(ob k).ownBlock≠some b
 sx:∀k,k<4->oc k=v0.set k\/∀y n c,oc k=.slice (some y) n c->w.heap.size<=y.block/\y.block<W.heap.size/\∀j,j<4->(ob j).ownBlock≠some y.block
 size:w.heap.size<=W.heap.size
 box:W.heap[Bs]?=some (.cells #[.pointer (some ⟨sb,0,none⟩)] 169 (0,0))
def mz(w:World)(base sb Bs:Nat)(cs0:Array Value)(v0:aX)(s:Sd)(acc:List (Int×Pc))(W:World):Prop:=∃cs ob oc,l9 w base sb Bs cs0 v0 s acc W cs ob oc
section
variable {w:World} {base sb Bs:Nat} {cs0:Array Value} {v0:aX} {s:Sd} {acc:List (Int×Pc)} {W W':World} {cs:Array Value} {ob oc:Nat->Value}
def bC.IU(H:bC w base sb cs0 v0 s)(a:w.heap[Bs]?=some (.cells #[.pointer (some ⟨sb,0,none⟩)] 169 (0,0))):mz w base sb Bs cs0 v0 s [] w:=
 ⟨cs0,v0.own,v0.set,H.aP,rfl,λ_ _=>rfl,H.out,λ_ _=>.inl rfl,λj k c d b=>H.bu.sep j k (by omega) (by omega) b,λ_ _=>.inl rfl,aR _,a⟩
def BQ(H:bC w base sb cs0 v0 s){k:Nat}(h:FT sb (v0.own 8) (v0.own 9) k):k<w.heap.size:=by
 obtain rfl|h|h:=h
 exact H.bu.iw;exact H.bu.lt 8 (by omega) k h;exact H.bu.lt 9 (by omega) k h
def oq{sb:Nat}{v0:aX}{k:Nat}(h:FT sb (v0.own 8) (v0.own 9) k):cq sb v0 k:=by
 obtain h|h|h:=h
 exact .inl h;exact .inr ⟨8,by omega,h⟩;exact .inr ⟨9,by omega,h⟩
def BR(H:bC w base sb cs0 v0 s){i:Nat}(hi:i<8){k:Nat}(e:(v0.own i).ownBlock=some k):¬FT sb (v0.own 8) (v0.own 9) k:=λh=>by
 obtain rfl|h|h:=h
 exact H.bu.ia i (by omega) e;exact H.bu.sep i 8 (by omega) (by omega) (by omega) k e h;exact H.bu.sep i 9 (by omega) (by omega) (by omega) k e h
def l9.wj(H:bC w base sb cs0 v0 s)(h:l9 w base sb Bs cs0 v0 s acc W cs ob oc){k:Nat}(c:k<4){j:Nat}(e:(ob k).ownBlock=some j):¬FT sb (v0.own 8) (v0.own 9) j:=λb=>by
 obtain a|a:=h.rA k c
 rw[a]at e;exact BR H (by omega) e b;have:=a j e;have:=BQ H b;omega
def l9.sy(H:bC w base sb cs0 v0 s)(h:l9 w base sb Bs cs0 v0 s acc W cs ob oc){k:Nat}(d:k<4){y:Addr}{n c:Nat}(e:oc k=.slice (some y) n c):¬FT sb (v0.own 8) (v0.own 9) y.block/\y.block<W.heap.size:=by
 have f:=h.size;obtain a|a:=h.sx k d
 rw[a]at e;have:=H.bu.dQ k (by omega) y n c e;exact⟨λb=>this.1 (oq b),by omega⟩
 have:=a y n c e;exact⟨λb=>by have:=BQ H b;omega,this.2.1⟩
def l9.IV(H:bC w base sb cs0 v0 s)(h:l9 w base sb Bs cs0 v0 s acc W cs ob oc){k:Nat}(f:k<4){y:Addr}{n c:Nat}(e:oc k=.slice (some y) n c)(j:Nat)(d:j<4):(ob j).ownBlock≠some y.block:=λe2=>by
 obtain a|a:=h.sx k f
 rw[a]at e;have:=H.bu.dQ k (by omega) y n c e;obtain b|b:=h.rA j d
 rw[b]at e2;exact this.1 (.inr ⟨j,by omega,e2⟩);have:=b _ e2;omega;exact(a y n c e).2.2 j d e2
def mz.dr(H:bC w base sb cs0 v0 s)(d:¬FT sb (v0.own 8) (v0.own 9) Bs)(h:mz w base sb Bs cs0 v0 s acc W)(C:ao W W' (FT sb (v0.own 8) (v0.own 9)))(f:lE W W' sb 91):mz w base sb Bs cs0 v0 s acc W':=by
 obtain⟨cs,ob,oc,h⟩:=h;obtain⟨g,l,m,hs⟩:=f cs _ h.aP;refine⟨g,ob,oc,l,m.trans h.sz,λi hi=>(hs i (by omega)).trans (h.same i hi),λk a=>(h.out k a).frame C (λi b p=>hs i (by omega)) (λj e=>h.wj H a e) (λy n c e=>h.sy H a e),h.rA,h.sw,λk a=>(h.sx k a).imp id (λb y n c e=>⟨(b y n c e).1,bX (b y n c e).2.1 C.size,(b y n c e).2.2⟩),bD h.size C.size,?_⟩
 exact(C.block Bs (aZ.1 h.box).1 d).trans h.box
def l9.apart(H:bC w base sb cs0 v0 s)(h:l9 w base sb Bs cs0 v0 s acc W cs ob oc){k:Nat}(a:k<4):kB W sb (ob k) (oc k):=
 ⟨λe=>h.wj H a e (.inl rfl),λy n c e=>⟨λe2=>(h.sy H a e).1 (.inl e2),h.IV H a e k a,(h.sy H a e).2⟩⟩
def l9.BT(H:bC w base sb cs0 v0 s)(D:¬FT sb (v0.own 8) (v0.own 9) Bs)(h:l9 w base sb Bs cs0 v0 s acc W cs ob oc){k:Nat}(O:k<4){p:Pc}(E:oe W W' sb 241 cs (19+9*k) base (ob k) (oc k) ((eH s.out acc k).gz p))(g:W.grownBy W' (some sb)):mz w base sb Bs cs0 v0 s (acc++[((k:Int),p)]) W'/\lF W W' sb 91:=by
 obtain⟨v,l,G,T,I,F⟩:=E;have C:ao W W' (λj=>j=sb):=(ao.of g).mono (λj _ e=>(aQ e).symm);have q:FT sb (v0.own 8) (v0.own 9) sb:=.inl rfl;have r:∀j,j<4->∀b,(ob j).ownBlock=some b->b<W.heap.size:=λj d b e=>((h.out j d).own.lt b e).2
 have K:=h.size;have t:∀b,l.ownBlock=some b->(ob k).ownBlock=some b\/W.heap.size<=b:=λb e=>by
  obtain a|a:=T.new
  rw[a]at e;exact .inl e;exact .inr (a b e)
 refine⟨⟨v,ah ob k l,ah oc k G,T.aP,T.sz.trans h.sz,λi hi=>(T.out i (by omega)).trans (h.same i hi),λj d=>?_,λj d=>?_,λi j hi d u b e1 e2=>?_,λj d=>?_,bD K C.size,?_⟩,?_⟩
 rw[IS];simp only[nT]
 by_cases e:j=k;subst e;simp only[bk];exact I;simp only[bm _ _ e]
 exact(h.out j d).frame C (λi a x=>T.out i (by omega)) (λb e e2=>h.wj H d e (e2▸q)) (λy n c e=>⟨λe2=>(h.sy H d e).1 (e2▸q),(h.sy H d e).2⟩);by_cases e:j=k;subst e;rw[bk];obtain a|a:=T.new
 rw[a];exact h.rA j d;exact .inr (λb e=>by have:=a b e;omega);rw[bm _ _ e];exact h.rA j d;by_cases f:i=k;have m:j≠k:=by omega
 subst f;rw[bk]at e1;rw[bm _ _ m]at e2;obtain a|a:=t b e1
 exact h.sw i j hi d u b a e2;have:=r j d b e2;omega;rw[bm _ _ f]at e1;by_cases m:j=k;subst m;rw[bk]at e2;obtain a|a:=t b e2
 exact h.sw i j hi d u b e1 a;have:=r i hi b e1;omega;rw[bm _ _ m]at e2;exact h.sw i j hi d u b e1 e2;have L:∀y:Addr,y.block<W.heap.size->(∀i,i<4->(ob i).ownBlock≠some y.block)->∀i,i<4->(ah ob k l i).ownBlock≠some y.block:=λy P z i hi e=>by
  by_cases f:i=k;subst f;rw[bk]at e;obtain a|a:=t _ e
  exact z i hi a;omega;rw[bm _ _ f]at e;exact z i hi e
 have A:∀j,j<4->(oc j=v0.set j\/∀y n c,oc j=.slice (some y) n c->w.heap.size<=y.block/\y.block<W'.heap.size/\∀i,i<4->(ah ob k l i).ownBlock≠some y.block):=λj d=>(h.sx j d).imp id (λa y n c e=>⟨(a y n c e).1,bX (a y n c e).2.1 C.size,L y (a y n c e).2.1 (a y n c e).2.2⟩)
 by_cases e:j=k;subst e;rw[bk];obtain a|a:=F
 rw[a];exact A j d;refine .inr (λy n c e=>?_);obtain⟨x,M,N⟩:=a y n c e;refine⟨by omega,M,λi hi e2=>?_⟩
 by_cases f:i=j;subst f;rw[bk]at e2;exact N e2;rw[bm _ _ f]at e2;have:=r i hi _ e2;omega;rw[bm _ _ e];exact A j d;exact(C.block Bs (aZ.1 h.box).1 (λe=>D (e▸q))).trans h.box;intro Q t2 B;rw[h.aP]at B;cases B;exact⟨v,T.aP,T.sz,λi a x=>T.out i (by omega)⟩
def mz.whole(H:bC w base sb cs0 v0 s)(bt:¬FT sb (v0.own 8) (v0.own 9) Bs){D l:World}(h:mz w base sb Bs cs0 v0 s acc D)(X:ao D l (FT sb (v0.own 8) (v0.own 9)))(hS:lE D l sb 91){G:Array Value}{Q I:Value}{u v:List Kt}{count tick wait:Int}(Y:l.heap[sb]?=some (.cells G 241 (0,0)))(F:iI l base G 91 Q I u v count tick wait)(C:ao w l (FT sb (v0.own 8) (v0.own 9)))(nf:Q.ownBlock=(v0.own 8).ownBlock)(nl:I.ownBlock=(v0.own 9).ownBlock\/∀k,I.ownBlock=some k->D.heap.size<=k)(hm:∀x∈u++v,x∈v0.lf++v0.ll):
 dV w.heap.size w base sb v0 {s with out:=eH s.out acc,aM:=u.map (·.1),lost:=v.map (·.1),count:=count,tick:=tick,wait:=wait} l:=by
 obtain⟨bb,ob,oc,p⟩:=id h;have bx:=p.size;have R:w.heap.size<=l.heap.size:=C.size;obtain⟨bz,al,bj,ax⟩:=hS bb _ p.aP;rw[Y]at al;cases al;have aC:∀k,k<4->gL l base G (19+9*k) (ob k) (oc k) (eH s.out acc k):=λk q=>(p.out k q).frame X (λi b g=>ax i (by omega)) (λj e=>p.wj H q e) (λy n c e=>p.sy H q e)
 have hsame:∀i,(i<19\/(55<=i/\i<91)\/96<=i)->G[i]?=cs0[i]? :=λi hi=>(ax i (by omega)).trans (p.same i hi)
 have a0:∀k,k<4->∀j,(ob k).ownBlock=some j->j<D.heap.size:=λk q j e=>((p.out k q).own.lt j e).2
 obtain⟨m,S⟩:∃f:Nat->Value,f=λi=>if i<4 then ob i else if i=8 then Q else if i=9 then I else v0.own i:=⟨_,rfl⟩
 obtain⟨z,a1⟩:∃f:Nat->Value,f=λi=>if i<4 then oc i else v0.set i:=⟨_,rfl⟩
 have A:∀i,i<4->m i=ob i:=λi hi=>by rw[S];simp[hi]
 have K:∀i,4<=i->i<8->m i=v0.own i:=λi b g=>by rw[S];simp only;rw[iN_,iN_,iN_]
 have L:m 8=Q:=by rw[S];simp
 have M:m 9=I:=by rw[S];simp
 have s4:∀i,i<4->z i=oc i:=λi hi=>by rw[a1];simp[hi]
 have s5:∀i,4<=i->z i=v0.set i:=λi hi=>by rw[a1];simp only;rw[iN_]
 have T:∀i,i<10->i<4\/(4<=i/\i<8)\/i=8\/i=9:=λi hi=>by omega
 have N:∀i,i<10->∀k,(m i).ownBlock=some k->(v0.own i).ownBlock=some k\/w.heap.size<=k:=λi hi k e=>by
  obtain b|b|rfl|rfl:=T i hi
  rw[A i b]at e;obtain g|g:=p.rA i b
  rw[g]at e;exact .inl e;exact .inr (g k e);rw[K i b.1 b.2]at e;exact .inl e;rw[L,nf]at e;exact .inl e;rw[M]at e;obtain g|g:=nl
  rw[g]at e;exact .inl e;have:=g k e;exact .inr (by omega)
 have U:∀k,cq sb ⟨m,z,u,v⟩ k->cq sb v0 k\/w.heap.size<=k:=λk d=>by
  obtain d|⟨i,hi,d⟩:=d
  exact .inl (.inl d);obtain b|b:=N i hi k d
  exact .inl (.inr ⟨i,hi,b⟩);exact .inr b
 have br:∀i,i<10->∀k,(m i).ownBlock=some k->k<l.heap.size:=λi hi k e=>by
  obtain b|b|rfl|rfl:=T i hi
  rw[A i b]at e;exact((aC i b).own.lt k e).2;rw[K i b.1 b.2]at e;exact bX (H.bu.lt i hi k e) R;rw[L]at e;exact(F.of.lt k e).2;rw[M]at e;exact(F.ol.lt k e).2
 have a3:∀i,i<9->∀y n c,z i=.slice (some y) n c->(¬cq sb ⟨m,z,u,v⟩ y.block/\y.block<l.heap.size)/\(v0.set i=.slice (some y) n c\/w.heap.size<=y.block):=λi hi y n c e=>by
  have a4:v0.set i=.slice (some y) n c->(¬cq sb ⟨m,z,u,v⟩ y.block/\y.block<l.heap.size)/\(v0.set i=.slice (some y) n c\/w.heap.size<=y.block):=λe=>by
   have b:=H.bu.dQ i hi y n c e;exact⟨⟨λd=>(U _ d).elim b.1 (by omega),by omega⟩,.inl e⟩
  by_cases b:i<4;rw[s4 i b]at e;obtain g|g:=p.sx i b
  rw[g]at e;exact a4 e;have V:=g y n c e;refine⟨⟨λd=>?_,bX V.2.1 X.size⟩,.inr V.1⟩
  obtain d|⟨j,r,d⟩:=d
  have:=H.bu.iw;omega;simp only at d;obtain t|t|rfl|rfl:=T j r
  rw[A j t]at d;exact V.2.2 j t d;rw[K j t.1 t.2]at d;have:=H.bu.lt j r _ d;omega;rw[L,nf]at d;have:=H.bu.lt 8 r _ d;omega;rw[M]at d;obtain B|B:=nl
  rw[B]at d;have:=H.bu.lt 9 r _ d;omega;have:=B _ d;omega;rw[s5 i (by omega)]at e;exact a4 e
 have hG:jy l sb ⟨m,z,u,v⟩:=by
  refine⟨bX H.bu.iw R,br,λi hi e=>?_,λi j hi r a8 k e1 e2=>?_,λi hi y n c e=>(a3 i hi y n c e).1,λx W=>?_⟩
  obtain b|b:=N i hi sb e
  exact H.bu.ia i hi b;have:=H.bu.iw;omega;simp only at e1 e2;obtain b|b:=N i hi k e1
  obtain g|g:=N j r k e2
  exact H.bu.sep i j hi r a8 k b g;have:=H.bu.lt i hi k b;omega;obtain g|g:=N j r k e2
  have:=H.bu.lt j r k g;omega
  ·
   have a9:∀i,i<10->(m i).ownBlock=some k->i<4\/(i=9/\D.heap.size<=k):=λi hi e=>by
    obtain t|t|rfl|rfl:=T i hi
    exact .inl t;rw[K i t.1 t.2]at e;have:=H.bu.lt i hi k e;omega;rw[L,nf]at e;have:=H.bu.lt 8 hi k e;omega;rw[M]at e;obtain B|B:=nl
    rw[B]at e;have:=H.bu.lt 9 hi k e;omega;exact .inr ⟨rfl,B k e⟩
   obtain O|⟨O,a2⟩:=a9 i hi e1<;>rcases a9 j r e2 with b1|⟨b1,b2⟩
   rw[A i O]at e1;rw[A j b1]at e2;exact p.sw i j O b1 a8 k e1 e2
   rw[A i O]at e1;have:=a0 i O k e1;omega
   rw[A j b1]at e2;have:=a0 j b1 k e2;omega
   omega
  obtain⟨a,n,c,e,hp,P⟩:=H.bu.fV x (hm x W);exact⟨a,n,c,e,hp.dr (λ_ y E=>C.block _ (P y E).2 (λht=>(P y E).1 (oq ht))),λy E=>⟨λd=>(U _ d).elim (P y E).1 (by have:=(P y E).2;omega),bX (P y E).2 R⟩⟩
 refine⟨G,⟨m,z,u,v⟩,⟨Y,bj.trans (p.sz.trans H.sz),(hsame 0 (by omega)).trans H.c0,(hsame 1 (by omega)).trans H.c1,λi hi=>(hsame _ (by omega)).trans (H.key i hi),(hsame 18 (by omega)).trans H.iy,λk q=>?_,λk q=>?_,?_,rfl,rfl,?_,?_,(hsame 97 (by omega)).trans H.oS,(hsame 98 (by omega)).trans H.kX,(hsame 99 (by omega)).trans H.dC,(hsame 100 (by omega)).trans H.pQ,hG,bD H.aG R⟩,⟨C.mono (λk _ d=>oq d),U,λk d=>?_⟩⟩
 simp only;rw[A k q,s4 k q];exact aC k q;simp only;rw[K (4+k) (by omega) (by omega),s5 (4+k) (by omega)];exact(H.aL k q).frame C (λi b g=>hsame i (by omega)) (λj e=>BR H (by omega) e) (λy n c e=>⟨λd=>(H.bu.dQ (4+k) (by omega) y n c e).1 (oq d),(H.bu.dQ (4+k) (by omega) y n c e).2⟩);simp only;rw[L,M];exact F;simp only;rw[s5 8 (by omega)];exact(hsame 96 (by omega)).trans H.oh;simp only;rw[s5 8 (by omega)];exact pO H.oj C (λy n c e=>⟨λd=>(H.bu.dQ 8 (by omega) y n c e).1 (oq d),(H.bu.dQ 8 (by omega) y n c e).2⟩);obtain d|⟨i,y,n,c,hi,e,rfl⟩|⟨x,W,y,n,c,e,rfl⟩:=d
 exact(U k d).imp .inl id;obtain b|b:=(a3 i hi y n c e).2
 exact .inl (.inr (.inl ⟨i,y,n,c,hi,b,rfl⟩));exact .inr b;exact .inl (.inr (.inr ⟨x,hm x W,y,n,c,e,rfl⟩))
end
section
variable {w:World} {base sb Bs:Nat} {cs0:Array Value} {v0:aX} {s:Sd} {acc:List (Int×Pc)} {W W':World} {cs:Array Value} {ob oc:Nat->Value}
def l9.an(h:l9 w base sb Bs cs0 v0 s acc W cs ob oc)(g:W.grownBy W' none):l9 w base sb Bs cs0 v0 s acc W' cs ob oc:=
 ⟨bB h.aP g,h.sz,h.same,λk a=>(h.out k a).an g,h.rA,h.sw,λk a=>(h.sx k a).imp id (λb y n c e=>⟨(b y n c e).1,bX (b y n c e).2.1 g.size,(b y n c e).2.2⟩),bD h.size g.size,bB h.box g⟩
end
def ui{w:World}{p:Addr}{v:Value}{sb:Nat}(h:w.cell? p=some v)(a:p.block≠sb):∀W,w.grownBy W (some sb)->W.cell? p=some v:=λ_ g=>g.cell h (λe=>a (aQ e))
def lF.pre{W a W':World}{sb b:Nat}{cs:Array Value}{t:TypeId}(e:W.heap[sb]?=some (.cells cs t (0,0)))(g:W.grownBy a none)(h:lF a W' sb b):lF W W' sb b:=λc t2 d=>h c t2 (bB d g)
def JG(w:World)(base sb Bs:Nat)(cs0:Array Value)(v0:aX)(s:Sd)(H:bC w base sb cs0 v0 s)(m:¬FT sb (v0.own 8) (v0.own 9) Bs)(acc:List (Int×Pc))(W:World)(h:mz w base sb Bs cs0 v0 s acc W)(v:∀k,k<4->gC (eH s.out acc k))(k:Nat)(b:k<4)(p:Pc)(L:p.x.ok)(hp:lG p):
 Calls prog 251 #[.int .i64 k,.agg (pA p),.pointer (some ⟨Bs,0,none⟩)] W λe W'=>e=.returned (.tuple #[])/\mz w base sb Bs cs0 v0 s (acc++[((k:Int),p)]) W'/\W.grownBy W' (some sb)/\lF W W' sb 91:=by
 obtain⟨cs,ob,oc,h⟩:=h;have M:base<=W.heap.size:=bD H.aG h.size;have n:=J (λa(g:W.grownBy a none)=>(IT (h.an g).aP ((h.an g).out k b) (v k b) (bD M g.size) ((h.an g).apart H b) p L hp));have q:=J (λa c(g:W.grownBy a none)(d:oe a c sb 241 cs (19+9*k) base (ob k) (oc k) ((eH s.out acc k).gz p))(r:a.grownBy c (some sb))=>(show mz w base sb Bs cs0 v0 s (acc++[((k:Int),p)]) c/\W.grownBy c (some sb)/\lF W c sb 91 from⟨((h.an g).BT H m b d r).1,aq (dd g _) r,lF.pre h.aP g ((h.an g).BT H m b d r).2⟩));have N:=(pU h.box).1;rw[<-pR]at n q;have O:(k:Int)<4:=by omega
 have d1:decide ((k:Int)<4)=true:=dO O;obtain⟨R,f⟩:=exq (λW':World=>mz w base sb Bs cs0 v0 s (acc++[((k:Int),p)]) W'/\W.grownBy W' (some sb)/\lF W W' sb 91);have y:(λ(e:Ending) W'=>e=.returned (.tuple #[])/\mz w base sb Bs cs0 v0 s (acc++[((k:Int),p)]) W'/\W.grownBy W' (some sb)/\lF W W' sb 91)=λe W'=>e=.returned (.tuple #[])/\R W':=by rw[f]
 rw[y];clear y;replace⟨f,h,H⟩:=cg f h H;clear v;obtain⟨V,z⟩:=exq ((eH s.out acc k).gz p);rw[<-z]at n q;clear z;obtain⟨⟨A,B⟩,C,D⟩:=p;unfold pA at *;simp only at *;obtain⟨a,i⟩:=exq (W.alloc (.cells #[.int .u64 A,.int .u64 B,.bool C,.bool D] 377));have t:W.grownBy a none:=by rw[i];exact aH _ _ _
 have u:a.heap[W.heap.size]?=some (.cells #[.int .u64 A,.int .u64 B,.bool C,.bool D] 377 (0,0)):=by rw[i];exact aO _ _
 have j:W.heap.size≠sb:=by have:=(aZ.1 (Z h).aP).1;omega
 have P:Bs≠sb:=λe=>m (.inl e)
 have X:=ui (sb:=sb) (gC_ t N) P;obtain⟨E,F,G,I⟩:=pV u;replace E:=ui (sb:=sb) E j;replace F:=ui (sb:=sb) F j;replace G:=ui (sb:=sb) G j;replace I:=ui (sb:=sb) I j;replace u:=J u;have l:a.grownBy a.drew none:=aV (aB _ none);go_enter func251,ntmps251;go_upto_region 1 with fail;rw[<-i];clear i;go_region_held3 (λQ=>a.grownBy Q (some sb))
  (with_reducible first|exact S|exact dd l _)
  (first|(go_at_call 252;apply(Z n _ (aq t l)).mono;rintro e T⟨rfl,d,K⟩;have S:=aq (dd l (some sb)) K;have U:Hid (R T):=J (by rw[Z f];exact Z q _ _ (aq t l) d K);clear d))
 go_wp2_with fail;exact fm (eF rfl _ _ _) rfl ⟨rfl,Z U⟩
def lg(o:Ot)(p:Pc):Bool:=(decide (p.x.hi<=p.x.lo)||o.h.af.any (λr=>decide (r.lo<=p.x.lo)&&decide (p.x.hi<=r.hi)))&&(((o.uE&& !p.e)==o.uE)&&((o.uG&& !p.g)==o.uG))
def Cj(o:Ot)(p:Pc):lg o p=true↔tV o p.x p.e p.g:=by
 unfold lg tV;simp only[lQ,Bool.or_eq_true,mX,qY,beq_iff_eq]
def JH(W:World)(D sb j:Nat)(cs:Array Value)(t:TypeId)(vb vc:Value)(o:Ot)(k:Nat)(M:k<4)(b:W.heap[sb]?=some (.cells cs t (0,0)))(H:gL W D cs (19+9*k) vb vc o)(E:o.h.nice)(F:W.cell? ⟨j,0,none⟩=some (.pointer (some ⟨sb,0,none⟩)))(p:Pc):
 Calls prog 255 #[.int .i64 k,.agg (pA p),.pointer (some ⟨j,0,none⟩)] W λe G=>e=.returned (.bool (lg o p))/\W.grownBy G none:=by
 obtain⟨ab,nb,cb,ac,nc,cc,rfl,rfl⟩:=H.nm;have l:=J (λa(g:W.grownBy a none)=>Hk a sb (19+9*k) ab nb cb ac nc cc o ((H.an g).hd (bB b g) E) ((H.an g).tail (bB b g)) p.x p.e p.g);rw[<-pR]at l;have I:(k:Int)<4:=by omega
 have d1:decide ((k:Int)<4)=true:=dO I;have m:=J (Cj o p);obtain⟨q,n⟩:=exq (lg o p);rw[<-n]at m⊢;clear n;obtain⟨⟨r,s⟩,u,v⟩:=p;unfold pA at *;simp only at *;obtain⟨a,c⟩:=exq (W.alloc (.cells #[.int .u64 r,.int .u64 s,.bool u,.bool v] 377));have d:W.grownBy a none:=by rw[c];exact aH _ _ _
 have f:a.heap[W.heap.size]?=some (.cells #[.int .u64 r,.int .u64 s,.bool u,.bool v] 377 (0,0)):=by rw[c];exact aO _ _
 have N:=kc (gC_ d F);obtain⟨w,y,z,A⟩:=pV f;replace w:=kc w;replace y:=kc y;replace z:=kc z;replace A:=kc A;replace⟨f,b,H⟩:=cg f b H;have i:a.grownBy a.drew none:=aV (aB _ none);go_enter func255,ntmps255;go_upto_region 1 with fail;rw[<-c];clear c;go_region_held3 (λK=>a.grownBy K none)
  (with_reducible first|exact B|exact i)
  (first|(go_at_call 256;apply(Z l _ (aq d i)).mono;rintro e O⟨C,L⟩;obtain rfl:=sq C (Z m);have B:=aq i L;clear C))
 go_wp2;go_ret;exact⟨rfl,aq d B⟩
def ns(q:Pk->Bool)(l:List Pk):List (Int×Pc):=l.flatMap (λx=>if q x then x.ps.map (λp=>(x.st,p))else[])
def Ck(q:Pk->Bool)(l:List Kt):kW (λx=>q x.1) l=ns q (l.map (·.1)):=by
 unfold kW ns;rw[List.flatMap_map]
def sF(q:Pk->Bool)(l:List Kt):(l.filter (λx=>q x.1)).map (·.1)=(l.map (·.1)).filter q:=by
 induction l with
 |nil=>rfl
 |cons x l a=>
  simp only[List.filter_cons,ky]
  split<;>simp_all
def JI(q:Pk->Bool)(l:List Kt):l.any (λx=>q x.1)=(l.map (·.1)).any q:=by rw[List.any_map];rfl
def Sd.eJ(s:Sd)(l:List Rg):Sd:=
 {s with out:=eH s.out (ns (λx=>bN l x.num) s.aM++ns (λx=>bN l x.num) s.lost),aM:=(s.aM.filter (λx=> !bN l x.num)).filter (λx=> !decide (x.num+3<=(au l 0).hi)),lost:=s.lost.filter (λx=> !bN l x.num)++(s.aM.filter (λx=> !bN l x.num)).filter (λx=>decide (x.num+3<=(au l 0).hi)),wait:=if s.aM.any (λx=>bN l x.num)then 4 else s.wait}
def Sd.forget(s:Sd):Sd:={s with lost:=s.lost.filter (λx=> !x.ps.all (lg (s.out x.st.toNat)))}
def Sd.eh(s:Sd)(l:List Rg):Sd:=(s.eJ l).forget
structure mb(s:Sd):Prop where
 out:∀k,k<4->gC (s.out k)
 pk:∀x∈s.aM++s.lost,0<=x.st/\x.st<4/\∀p∈x.ps,lG p
 num:∀x∈s.aM,0<=x.num/\x.num<=4611686018427387000
def Cl{q:Pk->Bool}{l:List Pk}{y:Int×Pc}(h:y∈ns q l):∃x∈l,y.1=x.st/\y.2∈x.ps:=by
 unfold ns at h;obtain⟨x,b,a⟩:=vu.1 h;split at a;obtain⟨p,hp,rfl⟩:=fg.1 a;exact⟨x,b,rfl,hp⟩
 cases a
def mb.eJ(h:mb s)(l:List Rg):mb (s.eJ l):=by
 refine⟨yK h.out _ (λy b=>?_),λx a=>?_,λx a=>?_⟩
 obtain b|b:=bQ.1 b
 obtain⟨x,a,-,c⟩:=Cl b;exact(h.pk x (iO _ a)).2.2 _ c;obtain⟨x,a,-,c⟩:=Cl b;exact(h.pk x (jW _ a)).2.2 _ c;unfold Sd.eJ at a;simp only[bQ,iG]at a;refine h.pk x (bQ.2 ?_);obtain a|a|a:=a
 exact .inl a.1.1;exact .inr a.1;exact .inl a.1.1;unfold Sd.eJ at a;simp only[iG]at a;exact h.num x a.1.1
def JJ(H:bC w k i C d s){x:Kt}(b:x∈d.lf++d.ll){p:Pc}(hp:p∈x.1.ps):p.x.ok:=by
 obtain⟨a,n,c,-,h,-⟩:=H.bu.fV x b;exact h.1 p hp
def mb.kt(h:mb s)(H:bC w n k c d s){x:Kt}(a:x∈d.lf++d.ll):0<=x.1.st/\x.1.st<4/\∀p∈x.1.ps,lG p:=by
 refine h.pk x.1 ?_;rw[H.aM,H.lost,<-mY];exact pt a
def JK(w:World)(f sb b:Nat)(cs:Array Value)(v:aX)(s:Sd)(H:bC w f sb cs v s)(hp:mb s)(t:w.heap[b]?=some (.cells #[.pointer (some ⟨sb,0,none⟩)] 169 (0,0)))(B:¬cq sb v b):
 Calls prog 254 #[.pointer (some ⟨sb,91,none⟩),.func (.func 255) #[] #[.pointer (some ⟨b,0,none⟩)]] w λe q=>e=.returned (.tuple #[])/\dV w.heap.size w f sb v s.forget q:=by
 have g:=H.sr;refine(Iy w sb 91 f cs 241 _ _ v.lf v.ll s.count s.tick s.wait H.aP H.fl g (cq sb v) (λk l=>oq l) (H.bu.fV.sub (λx a=>jW _ a)) 255 #[.pointer (some ⟨b,0,none⟩)] (λst p=>lg (s.out st.toNat) p) (enters_of func255 (by kernel_rfl) rfl) (λW x p C a I=>?_)).mono ?_;obtain⟨K,L,-⟩:=hp.kt H (jW _ a);have l:x.1.st.toNat<4:=by omega
 have e:x.1.st=((x.1.st.toNat:Nat):Int):=by omega
 have u:∀j,(v.own 9).ownBlock=some j->cq sb v j:=λj e=>.inr ⟨9,by omega,e⟩
 have D:W.heap[sb]?=some (.cells cs 241 (0,0)):=(C.block sb H.bu.iw (λe=>g.2.1 e)).trans H.aP;have r:=(H.out _ l).frame C (cs':=cs) (λ_ _ _=>rfl) (λj e1 e2=>H.bu.sep _ 9 (by omega) (by omega) (by omega) j e1 e2) (λy n c e1=>⟨λe2=>(H.bu.dQ _ (by omega) y n c e1).1 (u _ e2),(H.bu.dQ _ (by omega) y n c e1).2⟩);have E:W.heap[b]?=some (.cells #[.pointer (some ⟨sb,0,none⟩)] 169 (0,0)):=(C.block b (aZ.1 t).1 (λe=>B (u _ e))).trans t;have:=JH W f sb b cs 241 _ _ _ _ l D r (hp.out _ l).nice (pU E).1 p;rw[<-e]at this;exact this;rintro e q⟨rfl,d,F,r,A,C⟩;refine⟨rfl,?_⟩
 have z:(95:Nat)<cs.size:=by rw[H.sz];omega
 have m:∀i,i≠95->(cs.setIfInBounds (91+4) d)[i]?=cs[i]? :=λi h=>bE
 have G:rz w q sb 241 cs (cs.setIfInBounds (91+4) d) 91 (v.own 8) (v.own 9) (v.own 8) d:=⟨F,by simp,λi hi=>m i (by omega),C.mono (λk _ h=>h.elim .inl (λh=>.inr (.inr h))),.inl rfl,.inl A⟩
 have hF:iI q f (cs.setIfInBounds (91+4) d) 91 (v.own 8) d v.lf (v.ll.filter (λx=> !x.1.ps.all (lg (s.out x.1.st.toNat)))) s.count s.tick s.wait:=
  ⟨(m _ (by omega)).trans H.fl.c0,(m _ (by omega)).trans H.fl.c1,(m _ (by omega)).trans H.fl.c2,(m _ (by omega)).trans H.fl.c3,cG,H.fl.of.av C (λj e h=>h.elim (λh=>g.1 (h▸e)) (λh=>g.2.2 j e h)),r⟩
 have:=H.yJ (aR _) (v.own 8) d v.lf _ _ _ _ G hF (λk e=>by rw[A];exact g.2.2 k e) (λx a=>.inl (by
  obtain a|a:=bQ.1 a
  exact iO _ a
  ·exact jW _ (iG.1 a).1))
 have e2:({s with aM:=v.lf.map (·.1),lost:=(v.ll.filter (λx=> !x.1.ps.all (lg (s.out x.1.st.toNat)))).map (·.1),count:=s.count,tick:=s.tick,wait:=s.wait}:Sd)=s.forget:=by
  unfold Sd.forget;rw[sF (λx=> !x.ps.all (lg (s.out x.st.toNat))),<-H.aM,<-H.lost]
 rw[<-e2];exact this
def uj(w:World)(b sb:Nat)(v:aX)(s:Sd)(l:List Rg)(e:Ending)(a:World):Prop:=
 (s.count<=(au l 0).hi/\e=.returned (bJ 8)/\w.grownBy a none)\/((au l 0).hi<s.count/\e=.returned .nilIface/\dV w.heap.size w b sb v (s.eh l) a)
def JL(w:World)(i sb c:Nat)(cs:Array Value)(v:aX)(s:Sd)(H:bC w i sb cs v s)(hp:mb s)(R:s.aM.length<=1000000/\s.lost.length<=40000000)(D:w.heap[c]?=some (.cells #[.pointer (some ⟨sb,0,none⟩)] 169 (0,0)))(E:¬cq sb v c)(a:Option Addr)(n cap:Nat)(l:List Rg)(hs:bw w a n cap l)(hl:0<l.length)(z:∀y,a=some y->¬cq sb v y.block/\y.block<w.heap.size):
 Calls prog 253 #[.pointer (some ⟨sb,91,none⟩),.slice a n cap,.func (.func 251) #[] #[.pointer (some ⟨c,0,none⟩)]] w λe j=>(s.count<=(au l 0).hi/\e=.returned (.iface 34 (.int .i64 8))/\w.grownBy j none)\/((au l 0).hi<s.count/\e=.returned .nilIface/\dV w.heap.size w i sb v (s.eJ l) j/\ao w j (FT sb (v.own 8) (v.own 9))):=by
 have S:v.lf.length=s.aM.length:=by have:=fG List.length H.aM;rw[dH]at this;exact this.symm
 have T:v.ll.length=s.lost.length:=by have:=fG List.length H.lost;rw[dH]at this;exact this.symm
 have q:¬FT sb (v.own 8) (v.own 9) c:=λh=>E (oq h)
 refine(Iv w sb 91 i cs 241 _ _ v.lf v.ll s.count s.tick s.wait H.aP H.fl H.aG H.sr (by omega) (cq sb v) (λk t=>oq t) H.bu.fV a n cap l hs hl (λy A=>⟨λh=>(z y A).1 (oq h),(z y A).2⟩) (λx b=>by
  have:=hp.num x.1 (by rw[H.aM];exact pt b);omega) 251 #[.pointer (some ⟨c,0,none⟩)] (enters_of func251 (by kernel_rfl) rfl)
  (λf W=>mz w i sb c cs v s f W/\∀y∈f,lG y.2) ⟨H.IU D,λy d=>(by cases d)⟩ (λW G f h C I=>⟨h.1.dr H q C I,h.2⟩) (λW f x p h b u U=>?_)).mono ?_
 obtain⟨m,V,B⟩:=hp.kt H b;have t:x.1.st.toNat<4:=by omega
 have e:x.1.st=((x.1.st.toNat:Nat):Int):=by omega
 have:=JG w i sb c cs v s H q f W h.1 (yK hp.out f h.2) _ t p (JJ H b u) (B p u);rw[<-e]at this;apply this.mono;rintro r G⟨rfl,K,L,k3⟩;refine⟨rfl,⟨K,λy d=>?_⟩,L,k3⟩
 obtain d|d:=bQ.1 d
 exact h.2 y d;rw[cL.1 d];exact B p u;rintro e j(⟨m,rfl,g⟩|⟨m,rfl,X,Y,al,M,F,⟨W3,N,O,P,Q⟩,C,nf,nl⟩);exact .inl ⟨m,rfl,g⟩;refine .inr ⟨m,rfl,?_,C⟩;have:=N.1.whole H q O P M F C nf Q (λx b=>by
  simp only[bQ,iG]at b;refine bQ.2 ?_;obtain b|b|b:=b
  exact .inl b.1.1;exact .inr b.1
  ·exact .inl b.1.1)
 have e2:({s with out:=eH s.out (kW (λx=>bN l x.1.num) v.lf++kW (λx=>bN l x.1.num) v.ll),aM:=((v.lf.filter (λx=> !bN l x.1.num)).filter (λx=> !decide (x.1.num+3<=(au l 0).hi))).map (·.1),lost:=(v.ll.filter (λx=> !bN l x.1.num)++(v.lf.filter (λx=> !bN l x.1.num)).filter (λx=>decide (x.1.num+3<=(au l 0).hi))).map (·.1),count:=s.count,tick:=s.tick,wait:=(if v.lf.any (λx=>bN l x.1.num)then 4 else s.wait)}:Sd)=s.eJ l:=by
  unfold Sd.eJ;rw[Ck (λx=>bN l x.num),Ck (λx=>bN l x.num),mY,sF (λx=> !decide (x.num+3<=(au l 0).hi)),sF (λx=> !bN l x.num) v.lf,sF (λx=>decide (x.num+3<=(au l 0).hi)),sF (λx=> !bN l x.num) v.lf,sF (λx=> !bN l x.num) v.ll,JI (λx=>bN l x.num),<-H.aM,<-H.lost]
 rw[<-e2];exact this
def JM(w:World)(d sb:Nat)(cs:Array Value)(v:aX)(s:Sd)(H:bC w d sb cs v s)(hp:mb s)(aC:s.aM.length<=1000000/\s.lost.length<=40000000)(f:Fr)(a:Option Addr)(n cap:Nat)(hs:bw w a n cap f.ranges)(hl:0<f.ranges.length)(A:∀y,a=some y->¬cq sb v y.block/\y.block<w.heap.size):
 Calls prog 217 #[.pointer (some ⟨sb,0,none⟩),.agg (bO f (.slice a n cap))] w (uj w d sb v s f.ranges):=by
 obtain⟨R,p⟩:=exq (uj w d sb v s f.ranges);rw[<-p];replace p:=J p;obtain⟨k,r⟩:=exq (w.alloc (.cells #[.pointer (some ⟨sb,0,none⟩)] 169));have g1:w.grownBy k none:=by rw[r];exact aH _ _ _
 have E:k.heap[w.heap.size]?=some (.cells #[.pointer (some ⟨sb,0,none⟩)] 169 (0,0)):=by rw[r];exact aO _ _
 obtain⟨b,t⟩:=exq (k.alloc (.cells (bO f (.slice a n cap)) 158));have U:k.grownBy b none:=by rw[t];exact aH _ _ _
 have B:b.heap[k.heap.size]?=some (.cells (bO f (.slice a n cap)) 158 (0,0)):=by rw[t];exact aO _ _
 have l:w.grownBy b.drew none:=aV (aq g1 U);have F:¬cq sb v w.heap.size:=λh=>by have:=pP H.bu h;omega
 have m:b.drew.heap[w.heap.size]?=some (.cells #[.pointer (some ⟨sb,0,none⟩)] 169 (0,0)):=bB E (aV U);have u:=J (JL b.drew d sb w.heap.size cs v s (H.an l) hp aC m F a n cap f.ranges (hs.an l) hl (λy V=>⟨(A y V).1,bX (A y V).2 l.size⟩));have br:¬FT sb (v.own 8) (v.own 9) w.heap.size:=λh=>F (oq h)
 have G:=J (λI W K(S3:bC I d sb W K (s.eJ f.ranges))(a2:I.heap[w.heap.size]?=some (.cells #[.pointer (some ⟨sb,0,none⟩)] 169 (0,0)))(a3:¬cq sb K w.heap.size)=>JK I d sb w.heap.size W K _ S3 (hp.eJ _) a2 a3);have k0:b.drew.cell? ⟨w.heap.size,0,none⟩=some (.pointer (some ⟨sb,0,none⟩)):=(pU m).1;have L:b.drew.cell? ⟨k.heap.size,6,none⟩=some (.slice a n cap):=(cM (w:=b) (by unfold bO at B;exact B)).2.2.2.2.2.2;have bt:k.heap.size=w.heap.size+1:=by rw[r];simp
 have gr:b.grownBy b.drew none:=aV (aB _ none);replace⟨H,hp,E,B,m,hs,A⟩:=iR H hp E B m hs A;obtain⟨kind,stream,offset,code,fin,data,ranges⟩:=f;unfold bO at *;simp only at *;rw[r]at t L;rw[dL]at L;obtain⟨rl,X⟩:=exq ranges;rw[<-X]at u G p;clear X;go_enter func217,ntmps217;go_upto_region 2 with fail;rw[<-t];clear t r;have M:∀j,w.heap.size<=j->¬FT sb (v.own 8) (v.own 9) j:=λj hj h=>by have:=pP (Z H).bu (oq h);omega
 have q:b.drew.cell? ⟨w.heap.size,0,none⟩=some (.pointer (some ⟨sb,0,none⟩))/\b.drew.cell? ⟨w.heap.size+1,6,none⟩=some (.slice a n cap):=⟨k0,L⟩
 by_cases Y:s.count<=(au rl 0).hi
 ·have C:=J ((Z u).mono (λe c h=>(show e=.returned (.iface 34 (.int .i64 8))/\b.drew.grownBy c none from h.elim (λh=>h.2) (λh=>by have:=h.1;omega))));have N:=J (λc(g:b.drew.grownBy c none)=>(show R (.returned (.iface 34 (.int .i64 8))) c by rw[Z p];exact .inl ⟨Y,rfl,aq l g⟩));clear u;go_region_held3 (λc=>c.cell? ⟨w.heap.size,0,none⟩=some (.pointer (some ⟨sb,0,none⟩))/\c.cell? ⟨w.heap.size+1,6,none⟩=some (.slice a n cap))
   (with_reducible first|exact x|exact q)
   (first|(go_at_call 253;apply(Z C).mono;rintro e i⟨rfl,O⟩;have x:i.cell? ⟨w.heap.size,0,none⟩=some (.pointer (some ⟨sb,0,none⟩))/\i.cell? ⟨w.heap.size+1,6,none⟩=some (.slice a n cap):=⟨gC_ O q.1,gC_ O q.2⟩;have P:=J (Z N _ O)))
  go_wp2_with fail;exact Z P
 have C:=J ((Z u).mono (λe c h=>(show e=.returned .nilIface/\dV b.drew.heap.size b.drew d sb v (s.eJ rl) c/\ao b.drew c (FT sb (v.own 8) (v.own 9))from h.elim (λh=>absurd h.1 Y) (λh=>h.2))));clear u;go_region_held3 (λc=>c.cell? ⟨w.heap.size,0,none⟩=some (.pointer (some ⟨sb,0,none⟩))/\c.cell? ⟨w.heap.size+1,6,none⟩=some (.slice a n cap))
  (with_reducible first|exact x|exact q)
  (first|(go_at_call 253;apply(Z C).mono;rintro e i⟨rfl,D,z⟩;have x:i.cell? ⟨w.heap.size,0,none⟩=some (.pointer (some ⟨sb,0,none⟩))/\i.cell? ⟨w.heap.size+1,6,none⟩=some (.slice a n cap):=⟨z.cell q.1 (M _ (aR _)),z.cell q.2 (M _ (by simp))⟩;have a8:=J ((z.block w.heap.size (aZ.1 (Z m)).1 (M _ (aR _))).trans (Z m));replace D:=J D;replace z:=J z))
 obtain⟨a9,Q,S,T⟩:=Z D;have bb:¬cq sb Q w.heap.size:=λh=>by
  have bM:=(aZ.1 (Z m)).1;obtain h1|h1:=T.ft _ h
  exact F h1;omega
 have bj:=J (Z G i a9 Q S (Z a8) bb);have N:=J (λc(h:dV i.heap.size i d sb Q (s.eJ rl).forget c)=>(show R (.returned .nilIface) c by
  rw[Z p];refine .inr ⟨by omega,rfl,?_⟩;exact dV.pre ((dh.an l).trans (T.mono l.size)) (h.mono (bD l.size T.av.size))))
 have b0:=x.1;clear G C D x;replace S:=J S;go_wp2_with fail;apply(Z bj).mono;rintro e w6⟨rfl,h6⟩;have P:=J (Z N _ h6);clear h6;go_wp2_with fail;exact Z P
def Sd.take(s:Sd)(f:Fr):Int×Sd:=
 if f.kind=3 then(if s.count<=(au f.ranges 0).hi then(8,s)else(0,s.eh f.ranges))
 else if f.kind=4 then(if(s.aL f.stream.toNat).gJ f.offset then(7,s)else(0,{s with aL:=ah s.aL f.stream.toNat ((s.aL f.stream.toNat).reset f)}))
 else if f.kind=5 then(if(s.aL f.stream.toNat).bad f then(7,s)else(0,{s with aL:=ah s.aL f.stream.toNat ((s.aL f.stream.toNat).data f)}))
 else if f.kind=6 then(10,s)else(0,s)
def kG(w:World)(a sb:Nat)(v:aX)(r:Int×Sd)(e:Ending)(b:World):Prop:=e=.returned (bJ r.1)/\dV w.heap.size w a sb v r.2 b
def JN(w:World)(a sb k:Nat)(cs:Array Value)(v:aX)(s:Sd)(H:bC w a sb cs v s)(b:k<4)(f:Fr)(c:Value):
 Calls prog 218 #[.pointer (some ⟨sb,55+k*9,none⟩),.agg (bO f c)] w (kG w a sb v (if(s.aL k).gJ f.offset then(7,s)else(0,{s with aL:=ah s.aL k ((s.aL k).reset f)}))):=by
 rw[ua];apply(Hv w sb (55+9*k) a cs _ _ _ _ H.aP (H.aL k b) (H.yG k b) f c).mono;rintro r e(⟨h,rfl,g⟩|⟨h,rfl,d⟩);rw[h];exact⟨rfl,H.to g⟩
 rw[h];exact⟨rfl,H.yH k b _ d⟩
def JO(w:World)(a sb k:Nat)(cs:Array Value)(v:aX)(s:Sd)(H:bC w a sb cs v s)(b:k<4)(f:Fr)(c:Value)(d:(s.aL k).h.nice)(e:0<=f.offset)(hs:aW f<=4611686018427387903)(i:(s.aL k).given=false->∀m,f.offset<=m->m<aW f->¬Sm (s.aL k).h.af m->(s.aL k).h.fr<=m/\m<(s.aL k).h.fr+900000):
 Calls prog 219 #[.pointer (some ⟨sb,55+k*9,none⟩),.agg (bO f c)] w (kG w a sb v (if(s.aL k).bad f then(7,s)else(0,{s with aL:=ah s.aL k ((s.aL k).data f)}))):=by
 rw[ua];apply(Hs w sb (55+9*k) a cs _ _ _ _ H.aP (H.aL k b) d H.aG (H.yG k b) f c e hs i).mono;rintro r l(⟨h,rfl,g⟩|⟨h,rfl,j⟩);rw[h];exact⟨rfl,H.to g⟩
 rw[h];exact⟨rfl,H.yH k b _ j⟩
def kG.pre{r:Int×Sd}{e:Ending}(g:w.grownBy W none)(h:kG W n k d r e V):kG w n k d r e V:=⟨h.1,dV.pre (dh.an g) (h.2.mono g.size)⟩
def kG.av{r:Int×Sd}{e:Ending}(h:kG w n k d r e W):ao w W (cq k d):=by
 obtain⟨-,cs,b,-,a⟩:=h;exact a.av
def uj.tk{e:Ending}(H:bC w n k c d s)(h:uj w n k d s D e W):kG w n k d (if s.count<=(au D 0).hi then(8,s)else(0,s.eh D)) e W:=by
 obtain⟨a,rfl,g⟩|⟨a,rfl,b⟩:=h
 rw[aD a];exact⟨rfl,H.to g⟩
 rw[iN_];exact⟨rfl,b⟩
structure Cm(s:Sd)(f:Fr):Prop where
 st:0<=f.stream/\f.stream<4
 rg:f.kind=3->0<f.ranges.length
 off:0<=f.offset
 en:f.kind=5->aW f<=4611686018427387903
 nice:(s.aL f.stream.toNat).h.nice
 lo:f.kind=5->(s.aL f.stream.toNat).given=false->∀m,f.offset<=m->m<aW f->¬Sm (s.aL f.stream.toNat).h.af m->(s.aL f.stream.toNat).h.fr<=m/\m<(s.aL f.stream.toNat).h.fr+900000
def JP(w:World)(p sb:Nat)(cs:Array Value)(v:aX)(s:Sd)(H:bC w p sb cs v s)(hp:mb s)(a1:s.aM.length<=1000000/\s.lost.length<=40000000)(f:Fr)(a:Option Addr)(n cap:Nat)(hs:bw w a n cap f.ranges)(S:f.ranges≠[]->∀y,a=some y->¬cq sb v y.block/\y.block<w.heap.size)(u:Cm s f):
 Calls prog 166 #[.pointer (some ⟨sb,0,none⟩),.agg (bO f (.slice a n cap))] w (kG w p sb v (s.take f)):=by
 obtain⟨R,b⟩:=exq (kG w p sb v (s.take f));rw[<-b];obtain⟨k,Y,x⟩:∃k:Nat,k<4/\f.stream=(k:Int):=⟨f.stream.toNat,by have:=u.st;omega,by have:=u.st;omega⟩
 have i:f.stream.toNat=k:=by omega
 obtain⟨j,l⟩:=exq (w.alloc (.cells (bO f (.slice a n cap)) 158));have B:w.grownBy j none:=by rw[l];exact aH _ _ _
 have d:j.heap[w.heap.size]?=some (.cells (bO f (.slice a n cap)) 158 (0,0)):=by rw[l];exact aO _ _
 have I:=J (λW(g:w.grownBy W none)(hl:0<f.ranges.length)=>(JM W p sb cs v s (H.an g) hp a1 f a n cap (hs.an g) hl (λy ey=>⟨(S (oI.1 hl) y ey).1,bX (S (oI.1 hl) y ey).2 g.size⟩)).mono (λe C h=>kG.pre g (uj.tk (H.an g) h)));have K:=J (λW(g:w.grownBy W none)=>JN W p sb k cs v s (H.an g) Y f (.slice a n cap));have L:=J (λW(g:w.grownBy W none)(c:f.kind=5)=>JO W p sb k cs v s (H.an g) Y f (.slice a n cap) (by rw[<-i];exact u.nice) u.off (u.en c) (by rw[<-i];exact u.lo c));have D:=J (λW(g:w.grownBy W none)(e:Int)=>(show kG w p sb v (e,s) (.returned (bJ e)) W from⟨rfl,H.to g⟩));have ax:s.take f=if f.kind=3 then(if s.count<=(au f.ranges 0).hi then(8,s)else(0,s.eh f.ranges))else if f.kind=4 then(if(s.aL k).gJ f.offset then(7,s)else(0,{s with aL:=ah s.aL k ((s.aL k).reset f)}))else if f.kind=5 then(if(s.aL k).bad f then(7,s)else(0,{s with aL:=ah s.aL k ((s.aL k).data f)}))else if f.kind=6 then(10,s)else(0,s):=by unfold Sd.take;rw[i]
 rw[ax]at b;have i1:(k:Int)<4:=by omega
 have d1:decide ((k:Int)<4)=true:=dO i1;have T:=u.rg;have P:¬cq sb v w.heap.size:=λh=>by have:=pP H.bu h;omega
 clear ax hp hs S u;replace⟨H,T⟩:=bA H T;have Q:j.grownBy j.drew none:=aV (aB _ none);have aC:∀(r:Int×Sd)(e:Ending)(C:World),kG w p sb v r e C->e=.returned (bJ r.1):=λr e C h=>h.1
 obtain⟨rr,N⟩:∃rr:Int×Sd,R=kG w p sb v rr:=⟨_,b⟩
 by_cases t:f.kind=3
 ·have z:=J (Z I j B (Z T t));rw[aD t]at b;clear K L D I;obtain⟨q,A⟩:∃q:Int×Sd,q=(if s.count<=(au f.ranges 0).hi then(8,s)else(0,s.eh f.ranges)):=⟨_,rfl⟩
  rw[<-A]at b z;clear A N;replace b:=J b;obtain⟨kind,stream,offset,code,fin,data,ranges⟩:=f;unfold bO at *;simp only at *;subst t;obtain⟨M,y1,y2,y3,y4,y5,y6⟩:=cM d;replace⟨d,x,i⟩:=cg d x i;go_enter func166,ntmps166;go_upto_region 1 with fail;rw[<-l];clear l;go_wp2_with fail;apply(Z z).mono;rintro e w2 U;obtain rfl:=U.1;have m:Hid (R (.returned (bJ q.1)) w2):=J (by rw[Z b];exact U);clear U;generalize bJ q.1=ev at *;go_wp2_with fail;exact Z m
 rw[az t]at b;by_cases E:f.kind=4
 ·have z:=J (Z K j.drew (aq B Q));rw[aD E]at b;clear K L D I;obtain⟨q,A⟩:∃q:Int×Sd,q=(if(s.aL k).gJ f.offset then(7,s)else(0,{s with aL:=ah s.aL k ((s.aL k).reset f)})):=⟨_,rfl⟩
  rw[<-A]at b z;clear A N;replace b:=J b;obtain⟨kind,stream,offset,code,fin,data,ranges⟩:=f;unfold bO at *;simp only at *;subst E;subst x;obtain⟨M,-⟩:=cM d;obtain⟨F,hF⟩:=exq w.heap.size;rw[<-hF]at d P M;have G:j.drew.heap[F]?=some (.cells #[.int .i64 4,.int .i64 k,.int .u64 offset,.int .u64 code,.bool fin,.string data,.slice a n cap] 158 (0,0)):=d;replace⟨d,i⟩:=bA d i;clear t;go_enter func166,ntmps166;go_upto_region 1 with fail;rw[<-l,<-hF];clear l hF;go_upto_region 5 with fail;have k0:∀W:World,W.heap[F]?=some (.cells #[.int .i64 4,.int .i64 k,.int .u64 offset,.int .u64 code,.bool fin,.string data,.slice a n cap] 158 (0,0))->W.cell? ⟨F,0,none⟩=some (.int .i64 4):=λW h=>(cM h).1
  have k1:∀W:World,W.heap[F]?=some (.cells #[.int .i64 4,.int .i64 k,.int .u64 offset,.int .u64 code,.bool fin,.string data,.slice a n cap] 158 (0,0))->W.cell? ⟨F,1,none⟩=some (.int .i64 k):=λW h=>(cM h).2.1
  have k2:∀W:World,W.heap[F]?=some (.cells #[.int .i64 4,.int .i64 k,.int .u64 offset,.int .u64 code,.bool fin,.string data,.slice a n cap] 158 (0,0))->W.cell? ⟨F,2,none⟩=some (.int .u64 offset):=λW h=>(cM h).2.2.1
  have k3:∀W:World,W.heap[F]?=some (.cells #[.int .i64 4,.int .i64 k,.int .u64 offset,.int .u64 code,.bool fin,.string data,.slice a n cap] 158 (0,0))->W.cell? ⟨F,3,none⟩=some (.int .u64 code):=λW h=>(cM h).2.2.2.1
  have k4:∀W:World,W.heap[F]?=some (.cells #[.int .i64 4,.int .i64 k,.int .u64 offset,.int .u64 code,.bool fin,.string data,.slice a n cap] 158 (0,0))->W.cell? ⟨F,4,none⟩=some (.bool fin):=λW h=>(cM h).2.2.2.2.1
  have k5:∀W:World,W.heap[F]?=some (.cells #[.int .i64 4,.int .i64 k,.int .u64 offset,.int .u64 code,.bool fin,.string data,.slice a n cap] 158 (0,0))->W.cell? ⟨F,5,none⟩=some (.string data):=λW h=>(cM h).2.2.2.2.2.1
  have k6:∀W:World,W.heap[F]?=some (.cells #[.int .i64 4,.int .i64 k,.int .u64 offset,.int .u64 code,.bool fin,.string data,.slice a n cap] 158 (0,0))->W.cell? ⟨F,6,none⟩=some (.slice a n cap):=λW h=>(cM h).2.2.2.2.2.2
  go_region_held3 (λC=>C.heap[F]?=some (.cells #[.int .i64 4,.int .i64 k,.int .u64 offset,.int .u64 code,.bool fin,.string data,.slice a n cap] 158 (0,0)))
   (with_reducible first|exact V|exact G)
   (first|(go_at_call 218;apply(Z z).mono;rintro e X c;obtain rfl:=c.1;have V:=(c.av.block F (aZ.1 G).1 P).trans G;have m:Hid (R (.returned (bJ q.1)) X):=J (by rw[Z b];exact kG.pre (aq B Q) c);clear c;generalize bJ q.1=ev at m⊢))
  go_wp2_with fail;exact Z m
 rw[az E]at b;by_cases c:f.kind=5
 ·have z:=J (Z L j.drew (aq B Q) c);rw[aD c]at b;clear K L D I;obtain⟨q,A⟩:∃q:Int×Sd,q=(if(s.aL k).bad f then(7,s)else(0,{s with aL:=ah s.aL k ((s.aL k).data f)})):=⟨_,rfl⟩
  rw[<-A]at b z;clear A N;replace b:=J b;obtain⟨kind,stream,offset,code,fin,data,ranges⟩:=f;unfold bO at *;simp only at *;subst c;subst x;obtain⟨M,-⟩:=cM d;obtain⟨F,hF⟩:=exq w.heap.size;rw[<-hF]at d P M;have G:j.drew.heap[F]?=some (.cells #[.int .i64 5,.int .i64 k,.int .u64 offset,.int .u64 code,.bool fin,.string data,.slice a n cap] 158 (0,0)):=d;replace⟨d,i⟩:=bA d i;clear t E;go_enter func166,ntmps166;go_upto_region 1 with fail;rw[<-l,<-hF];clear l hF;go_upto_region 7 with fail;have k0:∀W:World,W.heap[F]?=some (.cells #[.int .i64 5,.int .i64 k,.int .u64 offset,.int .u64 code,.bool fin,.string data,.slice a n cap] 158 (0,0))->W.cell? ⟨F,0,none⟩=some (.int .i64 5):=λW h=>(cM h).1
  have k1:∀W:World,W.heap[F]?=some (.cells #[.int .i64 5,.int .i64 k,.int .u64 offset,.int .u64 code,.bool fin,.string data,.slice a n cap] 158 (0,0))->W.cell? ⟨F,1,none⟩=some (.int .i64 k):=λW h=>(cM h).2.1
  have k2:∀W:World,W.heap[F]?=some (.cells #[.int .i64 5,.int .i64 k,.int .u64 offset,.int .u64 code,.bool fin,.string data,.slice a n cap] 158 (0,0))->W.cell? ⟨F,2,none⟩=some (.int .u64 offset):=λW h=>(cM h).2.2.1
  have k3:∀W:World,W.heap[F]?=some (.cells #[.int .i64 5,.int .i64 k,.int .u64 offset,.int .u64 code,.bool fin,.string data,.slice a n cap] 158 (0,0))->W.cell? ⟨F,3,none⟩=some (.int .u64 code):=λW h=>(cM h).2.2.2.1
  have k4:∀W:World,W.heap[F]?=some (.cells #[.int .i64 5,.int .i64 k,.int .u64 offset,.int .u64 code,.bool fin,.string data,.slice a n cap] 158 (0,0))->W.cell? ⟨F,4,none⟩=some (.bool fin):=λW h=>(cM h).2.2.2.2.1
  have k5:∀W:World,W.heap[F]?=some (.cells #[.int .i64 5,.int .i64 k,.int .u64 offset,.int .u64 code,.bool fin,.string data,.slice a n cap] 158 (0,0))->W.cell? ⟨F,5,none⟩=some (.string data):=λW h=>(cM h).2.2.2.2.2.1
  have k6:∀W:World,W.heap[F]?=some (.cells #[.int .i64 5,.int .i64 k,.int .u64 offset,.int .u64 code,.bool fin,.string data,.slice a n cap] 158 (0,0))->W.cell? ⟨F,6,none⟩=some (.slice a n cap):=λW h=>(cM h).2.2.2.2.2.2
  go_region_held3 (λC=>C.heap[F]?=some (.cells #[.int .i64 5,.int .i64 k,.int .u64 offset,.int .u64 code,.bool fin,.string data,.slice a n cap] 158 (0,0)))
   (with_reducible first|exact V|exact G)
   (first|(go_at_call 219;apply(Z z).mono;rintro e X c;obtain rfl:=c.1;have V:=(c.av.block F (aZ.1 G).1 P).trans G;have m:Hid (R (.returned (bJ q.1)) X):=J (by rw[Z b];exact kG.pre (aq B Q) c);clear c;generalize bJ q.1=ev at m⊢))
  go_wp2_with fail;exact Z m
 rw[az c]at b;by_cases O:f.kind=6
 ·rw[aD O]at b;have m:Hid (R (.returned (.iface 34 (.int .i64 10))) j):=J (by rw[b];exact Z D j B 10);clear b N K L D I aC;obtain⟨kind,stream,offset,code,fin,data,ranges⟩:=f;unfold bO at *;simp only at *;subst O;obtain⟨M,-⟩:=cM d;replace⟨d,x,i⟩:=cg d x i;clear t E c;go_enter func166,ntmps166;go_upto_region 1 with fail;rw[<-l];clear l;go_wp2_with fail;exact Z m
 rw[az O]at b;have m:Hid (R (.returned .nilIface) j):=J (by rw[b];exact Z D j B 0);clear b N K L D I aC;obtain⟨kind,stream,offset,code,fin,data,ranges⟩:=f;unfold bO at *;simp only at *;obtain⟨M,-⟩:=cM d;have e3:(kind==3)=false:=by simpa using t
 have e4:(kind==4)=false:=by simpa using E
 have e5:(kind==5)=false:=by simpa using c
 have e6:(kind==6)=false:=by simpa using O
 replace⟨d,x,i⟩:=cg d x i;clear t E c O;go_enter func166,ntmps166;go_upto_region 1 with fail;rw[<-l];clear l;go_wp2_with fail;exact Z m
