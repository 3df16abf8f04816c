import Derived.Laws.OwnMore
import Derived.Test.YtjnmokmchdfchaaGreatDoorZLd
import Derived.Test.YtjnmokmchdfchaaGreatDoorZLf
set_option maxRecDepth 1000000
set_option maxHeartbeats 0
set_option linter.all false
namespace Go.Proofs.YtjnmokmchdfchaaGreatDoor
open Go.RowKit Tryz
open Go.Value renaming int→ι,slice→σ,bool→β,pointer→π,agg→ε,string→ς,tuple→τ
open Go.IntKind renaming i64→δ,u64→η,u8→Δ
open Go.Ending renaming returned→ξ
open Go.Obj renaming cells→ο
open Or renaming inl→φ,inr→ψ
open Option renaming some→μ,none→ν
open Bool renaming true→ρ,false→θ
open Go renaming World→ω,Value→υ
open Go.World renaming grownBy→γ,cell?→κ,frozen?→χ,setCell→ζ
attribute[local go_sem↓]Go.wp_at_zero Go.wp_at_succ
variable{H:Act}{C c:Array υ}{u:Exit->Act->ω->Prop}{Y:List Rg}{i j k n:Nat}{U:Oper}{G:Ot}{s:Sd}{T:TypeId}{x y z:υ}{V W w:ω}{d:bf}
def Sd.bC(s:Sd):Sd:=
 if s.aw.any (λx=>decide (s.wait<=s.tick+1-x.tick))then{s with aw:=[],lost:=s.lost++s.aw,tick:=s.tick+1,wait:=min (2*s.wait) 32}else{s with tick:=s.tick+1}
def any_map{l:List Kt}{f:Pk->Bool}:(l.map (·.1)).any f=ρ↔∃x∈l,f x.1=ρ:=by simp[oG]
def bI.jq(H:bI w k i C d s):∀x∈d.lf,∃a n c,x.2=σ a n c:=λx b=>by
 obtain⟨a,n,c,e,-⟩:=H.bu.gF x (fC _ b);exact⟨a,n,c,e⟩
def rT.ne{d:υ}(f:rT w W n T c C i x y z d)(h:z.ownBlock=x.ownBlock)(g:qb n x y)(j:∀k,x.ownBlock=μ k->k<w.heap.size):∀k,z.ownBlock=μ k->d.ownBlock≠μ k:=λk a b=>by
 rw[h]at a;obtain e|e:=f.CA
 rw[e]at b;exact g.2.2 k a b;have:=e k b;have:=j k a;omega
def JB(w:ω)(a sb:Nat)(cs:Array υ)(v:bf)(s:Sd)(H:bI w a sb cs v s)(hl:s.aw.length<=1000000/\s.lost.length<=50000000)(u:0<=s.tick/\s.tick<1000000000000)(b:∀x∈s.aw,0<=x.tick/\x.tick<=1000000000000)(y:0<=s.wait/\s.wait<=1000):
 Calls prog 129 #[π (μ ⟨sb,0,ν⟩)] w λr c=>r=ξ (τ #[])/\eF w.heap.size w a sb v s.bC c:=by
 have m:=J (uT w sb 0 H.qg);simp only[ne_eq,not_true_eq_false,decide_false]at m;have I:v.lf.length=s.aw.length:=by have:=fD List.length H.aw;rw[dd]at this;exact this.symm
 have K:v.ll.length=s.lost.length:=by have:=fD List.length H.lost;rw[dd]at this;exact this.symm
 have z:=J (λW(g:γ w W ν)=>Jb W sb 91 a cs 241 _ _ v.lf v.ll s.count s.tick s.wait (bE H.aV g) (H.au g).fl (bK H.aI g.size) H.s9 (by omega) H.jq u (λx A=>b x.1 (by rw[H.aw];exact pf A)) y);have B:=J (λW i(g:γ w W ν)(h:((∃x∈v.lf,s.wait<=s.tick+1-x.1.tick)/\qP W i sb 241 cs 91 a (v.own 8) (v.own 9) [] (v.ll++v.lf) s.count (s.tick+1) (min (2*s.wait) 32))\/((¬∃x∈v.lf,s.wait<=s.tick+1-x.1.tick)/\qP W i sb 241 cs 91 a (v.own 8) (v.own 9) v.lf v.ll s.count (s.tick+1) s.wait))=>show eF w.heap.size w a sb v s.bC i by
  have d:=H.au g;have n:s.aw.any (λx=>decide (s.wait<=s.tick+1-x.tick))=ρ↔∃x∈v.lf,s.wait<=s.tick+1-x.1.tick:=by rw[H.aw,any_map];simp
  refine eF.pre (dz.au g) ?_;obtain⟨j,C,k,l,T,F,e⟩|⟨j,C,k,l,T,F,e⟩:=h
  have:=d.zN g.size k l [] (v.ll++v.lf) _ _ _ T F (T.ne e d.s9 (d.bu.lt 8 (by omega))) (λx b=>φ (by
   rw[jL]at b;exact(bL.1 b).elim (ir _) (fC _)))
  unfold Sd.bC;rw[aG (n.2 j)];rw[show s.lost++s.aw=(v.ll++v.lf).map (·.1) by rw[mV,<-H.lost,<-H.aw]];exact this
  ·have:=d.zN g.size k l v.lf v.ll _ _ _ T F (T.ne e d.s9 (d.bu.lt 8 (by omega))) (λx b=>φ b);unfold Sd.bC;rw[aB (λD=>j (n.1 D))];have e2:({s with tick:=s.tick+1}:Sd)={s with aw:=v.lf.map (·.1),lost:=v.ll.map (·.1),count:=s.count,tick:=s.tick+1,wait:=s.wait}:=by rw[<-H.aw,<-H.lost]
   rw[e2];exact this)
 obtain⟨R,f⟩:=exq (λc:ω=>eF w.heap.size w a sb v s.bC c);have p:(λ(r:Ending) c=>r=ξ (τ #[])/\eF w.heap.size w a sb v s.bC c)=λr c=>r=ξ (τ #[])/\R c:=by rw[f]
 rw[p];clear p;replace⟨f,H⟩:=bD f H;clear b;go_enter func129,ntmps129;go_wp2_with fail;apply(Z m).mono;rintro e L⟨rfl,q⟩;go_wp2_with fail;apply(Z z _ q).mono;rintro e E⟨rfl,t⟩;have G:Hid (R E):=J (by rw[Z f];exact Z B _ _ q t);clear t;go_wp2_with fail;exact gD (fe rfl _ _ _) rfl ⟨rfl,Z G⟩
def Ot.eG(o:Ot)(p:Pc):Ot:=
 {o with tE:=o.tE||p.e,tG:=o.tG||p.g,h:=⟨o.h.fr+(cL ⟨o.h.fr,o.h.bytes,cD o.h.af p.x⟩).toNat,o.h.bytes.drop (cL ⟨o.h.fr,o.h.bytes,cD o.h.af p.x⟩).toNat,cD o.h.af p.x⟩}
def cP(out:Nat->Ot)(l:List (Int×Pc)):Nat->Ot:=l.foldl (λo x=>ah o x.1.toNat ((o x.1.toNat).eG x.2)) out
def JG(out:Nat->Ot)(l:List (Int×Pc))(x:Int×Pc):cP out (l++[x])=ah (cP out l) x.1.toNat ((cP out l x.1.toNat).eG x.2):=by
 unfold cP;rw[List.foldl_append];rfl
def aU.CF(h:aU Y)(lo hi:Int)(a:∀m,Sm Y m->lo<=m/\m<hi):(Y.length:Int)<=max 0 (hi-lo):=by
 induction Y generalizing lo with
 |nil=>simp;omega
 |cons r Y c=>
  have d:=h.2 r (by simp);have e:=a r.lo ((dH r Y r.lo).2 (φ ⟨cE _,d⟩));have f:=c h.tail (lo+1) (λm b=>by
   have g:=a m ((dH r Y m).2 (ψ b));have i:=h.behind b;omega)
  simp only[cS]
  omega
structure fG(o:Ot):Prop where
 ok:aU o.h.af
 lK:∀m,Sm o.h.af m->0<=m/\m<4096
 fr:0<=o.h.fr
 low:∀m,0<=m->m<o.h.fr->Sm o.h.af m
 hole:¬Sm o.h.af o.h.fr
 en:o.en<=4096
def fG.cl(h:fG G):G.h.af.length<=4096:=by
 have:=h.ok.CF 0 4096 h.lK;omega
def fG.nice(h:fG G):G.h.nice:=by
 have a:=h.en;have b:=h.fr;have c:=h.cl;unfold Ot.en at a;exact⟨b,by omega,h.ok,by omega,by omega⟩
def CG(h:aU Y)(h0:∀m,Sm Y m->0<=m)(a:¬(Y.length=0\/0<(ao Y 0).lo)):(ao Y 0).lo=0/\0<(ao Y 0).hi/\(∀m,0<=m->m<(ao Y 0).hi->Sm Y m)/\¬Sm Y (ao Y 0).hi:=by
 cases Y with
 |nil=>exact absurd (φ rfl) a
 |cons r Y=>
  have e:ao (r::Y) 0=r:=rfl;rw[e]at a⊢;have c:=h.2 r (by simp);have g:=h0 r.lo ((dH r Y r.lo).2 (φ ⟨cE _,c⟩));refine⟨by omega,by omega,λm i d=>(dH r Y m).2 (φ ⟨by omega,d⟩),λf=>?_⟩
  obtain b|b:=(dH r Y r.hi).1 f
  omega;have:=h.behind b;omega
def zP(h:fG G)(hl:aU Y)(hs:∀m,Sm G.h.af m->Sm Y m)(c:∀m,Sm Y m->0<=m/\m<4096):
 0<=cL ⟨G.h.fr,G.h.bytes,Y⟩/\G.h.fr+cL ⟨G.h.fr,G.h.bytes,Y⟩<=4096/\(∀m,0<=m->m<G.h.fr+cL ⟨G.h.fr,G.h.bytes,Y⟩->Sm Y m)/\¬Sm Y (G.h.fr+cL ⟨G.h.fr,G.h.bytes,Y⟩):=by
 have k:=h.fr;have l:=h.en;unfold Ot.en at l;unfold cL;simp only
 by_cases a:Y.length=0\/0<(ao Y 0).lo;rw[aG a];have d:¬Sm Y 0:=λf=>by
  cases Y with
  |nil=>exact fP 0 f
  |cons r Y=>
   obtain a|a:=a
   simp at a;have e:ao (r::Y) 0=r:=rfl;rw[e]at a;obtain b|b:=(dH r Y 0).1 f
   omega;have:=hl.behind b;have:=hl.2 r (by simp);omega
 have n:G.h.fr=0:=by
  obtain b|b:=Int.lt_or_eq_of_le k
  exact absurd (hs 0 (h.low 0 (cE _) b)) d;exact b.symm
 rw[n];exact⟨cE _,by omega,λm b p=>by omega,by simpa using d⟩
 rw[aB a];obtain⟨b,p,g,i⟩:=CG hl (λm q=>(c m q).1) a;have j:G.h.fr<=(ao Y 0).hi:=by
  by_cases j:(ao Y 0).hi<G.h.fr;exact absurd (hs _ (h.low _ (by omega) j)) i;omega
 have t:=(c ((ao Y 0).hi-1) (g _ (by omega) (by omega))).2;refine⟨by omega,by omega,λm s u=>g m s (by omega),?_⟩
 rw[show G.h.fr+((ao Y 0).hi-G.h.fr)=(ao Y 0).hi by omega];exact i
def jQ(p:Pc):Prop:=0<=p.x.lo/\0<=p.x.hi/\p.x.lo<=4096/\p.x.hi<=4096
def zQ(h:fG G){p:Pc}(hp:jQ p):∀m,Sm (cD G.h.af p.x) m->0<=m/\m<4096:=λm b=>by
 obtain a|a:=(iK p.x h.ok m).1 b
 exact h.lK m a;unfold jQ at hp;omega
def fG.eG(h:fG G){p:Pc}(hp:jQ p):fG (G.eG p):=by
 have a:=lV p.x h.ok;have b:=zQ h hp;obtain⟨j,k,c,d⟩:=zP h a (λm e=>(iK p.x h.ok m).2 (φ e)) b;have l:=h.fr;have f:=h.en;unfold Ot.en at f;unfold Ot.eG;refine⟨a,b,by simp only;omega,λm g i=>c m g (by simp only at i;omega),?_,?_⟩
 simp only
 rw[show G.h.fr+((cL ⟨G.h.fr,G.h.bytes,cD G.h.af p.x⟩).toNat:Int)=G.h.fr+cL ⟨G.h.fr,G.h.bytes,cD G.h.af p.x⟩ by omega];exact d;unfold Ot.en;simp only[dO]
 omega
def xI{out:Nat->Ot}(h:∀k,k<4->fG (out k))(l:List (Int×Pc))(hl:∀x∈l,jQ x.2):∀k,k<4->fG (cP out l k):=by
 induction l generalizing out with
 |nil=>exact h
 |cons x l b=>
  have e:cP out (x::l)=cP (ah out x.1.toNat ((out x.1.toNat).eG x.2)) l:=rfl;rw[e];refine b (λk a=>?_) (λy c=>hl y (by simp[c]));by_cases e:k=x.1.toNat;subst e;rw[aR];exact(h _ a).eG (hl x (by simp));rw[aX _ _ e];exact h k a
def JH(l:w.heap[n]?=μ (ο c T (0,0)))(H:gP w j c i y z G)(a:fG G)(q:j<=w.heap.size)(s:kO w n y z)(p:Pc)(t:p.x.ok)(hp:jQ p):
 Calls prog 252 #[π (μ ⟨n,i,ν⟩),ε (pA p)] w λr d=>r=ξ (τ #[])/\oM w d n T c i j y z (G.eG p)/\γ w d (μ n):=by
 have u:zx G.h p.x:=λv f _ b=>by
  have e:=xu a.ok f b;subst e;obtain⟨A,F,-⟩:=zP a f (λm B=>(b m).2 (φ B)) (zQ a hp);exact⟨A,by omega⟩
 refine(JE l H a.nice q s p.x p.e p.g t u (by have:=a.cl;omega)).mono ?_;rintro r d⟨rfl,v,k,C,D,-,b,E,g⟩;have e:=xu a.ok D b;subst e;refine⟨rfl,?_,g⟩
 unfold Ot.eG;rw[<-C];simpa using E
structure mI(w:ω)(base sb Bs:Nat)(cs0:Array υ)(v0:bf)(s:Sd)(acc:List (Int×Pc))(W:ω)(cs:Array υ)(ob oc:Nat->υ):Prop where
 aV:W.heap[sb]?=μ (ο cs 241 (0,0))
 sz:cs.size=cs0.size
 same:∀i,(i<19\/(55<=i/\i<91)\/96<=i)->cs[i]?=cs0[i]?
 out:∀k,k<4->gP W base cs (19+9*k) (ob k) (oc k) (cP s.out acc k)
 rU:∀k,k<4->(ob k).ownBlock=(v0.own k).ownBlock\/∀j,(ob k).ownBlock=μ j->w.heap.size<=j
 tc:∀j k,j<4->k<4->j≠k->∀b,(ob j).ownBlock=μ b->(ob k).ownBlock≠μ b
 td:∀k,k<4->oc k=v0.set k\/∀y n c,oc k=σ (μ y) n c->w.heap.size<=y.block/\y.block<W.heap.size/\∀j,j<4->(ob j).ownBlock≠μ y.block
 size:w.heap.size<=W.heap.size
 box:W.heap[Bs]?=μ (ο #[π (μ ⟨sb,0,ν⟩)] 169 (0,0))
def m9(w:ω)(base sb Bs:Nat)(cs0:Array υ)(v0:bf)(s:Sd)(acc:List (Int×Pc))(W:ω):Prop:=∃cs ob oc,mI w base sb Bs cs0 v0 s acc W cs ob oc
section
variable {w:ω} {base sb Bs:Nat} {cs0:Array υ} {v0:bf} {s:Sd} {acc:List (Int×Pc)} {W W':ω} {cs:Array υ} {ob oc:Nat->υ}
def bI.JI(H:bI w base sb cs0 v0 s)(a:w.heap[Bs]?=μ (ο #[π (μ ⟨sb,0,ν⟩)] 169 (0,0))):m9 w base sb Bs cs0 v0 s [] w:=
 ⟨cs0,v0.own,v0.set,H.aV,rfl,λ_ _=>rfl,H.out,λ_ _=>φ rfl,λj k c d b=>H.bu.sep j k (by omega) (by omega) b,λ_ _=>φ rfl,aP _,a⟩
def CH(H:bI w base sb cs0 v0 s){k:Nat}(h:FT sb (v0.own 8) (v0.own 9) k):k<w.heap.size:=by
 obtain rfl|h|h:=h
 exact H.bu.iM;exact H.bu.lt 8 (by omega) k h;exact H.bu.lt 9 (by omega) k h
def oQ{sb:Nat}{v0:bf}{k:Nat}(h:FT sb (v0.own 8) (v0.own 9) k):cG sb v0 k:=by
 obtain h|h|h:=h
 exact φ h;exact ψ ⟨8,by omega,h⟩;exact ψ ⟨9,by omega,h⟩
def CI(H:bI w base sb cs0 v0 s){i:Nat}(hi:i<8){k:Nat}(e:(v0.own i).ownBlock=μ k):¬FT sb (v0.own 8) (v0.own 9) k:=λh=>by
 obtain rfl|h|h:=h
 exact H.bu.ij i (by omega) e;exact H.bu.sep i 8 (by omega) (by omega) (by omega) k e h;exact H.bu.sep i 9 (by omega) (by omega) (by omega) k e h
def mI.xJ(H:bI w base sb cs0 v0 s)(h:mI w base sb Bs cs0 v0 s acc W cs ob oc){k:Nat}(c:k<4){j:Nat}(e:(ob k).ownBlock=μ j):¬FT sb (v0.own 8) (v0.own 9) j:=λb=>by
 obtain a|a:=h.rU k c
 rw[a]at e;exact CI H (by omega) e b;have:=a j e;have:=CH H b;omega
def mI.tm(H:bI w base sb cs0 v0 s)(h:mI w base sb Bs cs0 v0 s acc W cs ob oc){k:Nat}(d:k<4){y:Addr}{n c:Nat}(e:oc k=σ (μ y) n c):¬FT sb (v0.own 8) (v0.own 9) y.block/\y.block<W.heap.size:=by
 have f:=h.size;obtain a|a:=h.td k d
 rw[a]at e;have:=H.bu.dV k (by omega) y n c e;exact⟨λb=>this.1 (oQ b),by omega⟩
 have:=a y n c e;exact⟨λb=>by have:=CH H b;omega,this.2.1⟩
def mI.JJ(H:bI w base sb cs0 v0 s)(h:mI w base sb Bs cs0 v0 s acc W cs ob oc){k:Nat}(f:k<4){y:Addr}{n c:Nat}(e:oc k=σ (μ y) n c)(j:Nat)(d:j<4):(ob j).ownBlock≠μ y.block:=λe2=>by
 obtain a|a:=h.td k f
 rw[a]at e;have:=H.bu.dV k (by omega) y n c e;obtain b|b:=h.rU j d
 rw[b]at e2;exact this.1 (ψ ⟨j,by omega,e2⟩);have:=b _ e2;omega;exact(a y n c e).2.2 j d e2
def m9.cM(H:bI w base sb cs0 v0 s)(d:¬FT sb (v0.own 8) (v0.own 9) Bs)(h:m9 w base sb Bs cs0 v0 s acc W)(C:ay W W' (FT sb (v0.own 8) (v0.own 9)))(f:lW W W' sb 91):m9 w base sb Bs cs0 v0 s acc W':=by
 obtain⟨cs,ob,oc,h⟩:=h;obtain⟨g,l,m,hs⟩:=f cs _ h.aV;refine⟨g,ob,oc,l,m.trans h.sz,λi hi=>(hs i (by omega)).trans (h.same i hi),λk a=>(h.out k a).frame C (λi b p=>hs i (by omega)) (λj e=>h.xJ H a e) (λy n c e=>h.tm H a e),h.rU,h.tc,λk a=>(h.td k a).imp id (λb y n c e=>⟨(b y n c e).1,cu (b y n c e).2.1 C.size,(b y n c e).2.2⟩),bK h.size C.size,?_⟩
 exact(C.block Bs (bg.1 h.box).1 d).trans h.box
def mI.apart(H:bI w base sb cs0 v0 s)(h:mI w base sb Bs cs0 v0 s acc W cs ob oc){k:Nat}(a:k<4):kO W sb (ob k) (oc k):=
 ⟨λe=>h.xJ H a e (φ rfl),λy n c e=>⟨λe2=>(h.tm H a e).1 (φ e2),h.JJ H a e k a,(h.tm H a e).2⟩⟩
def mI.CJ(H:bI w base sb cs0 v0 s)(D:¬FT sb (v0.own 8) (v0.own 9) Bs)(h:mI w base sb Bs cs0 v0 s acc W cs ob oc){k:Nat}(O:k<4){p:Pc}(E:oM W W' sb 241 cs (19+9*k) base (ob k) (oc k) ((cP s.out acc k).eG p))(g:γ W W' (μ sb)):m9 w base sb Bs cs0 v0 s (acc++[((k:Int),p)]) W'/\lY W W' sb 91:=by
 obtain⟨v,l,G,T,I,F⟩:=E;have C:ay W W' (λj=>j=sb):=(ay.of g).mono (λj _ e=>(aQ e).symm);have q:FT sb (v0.own 8) (v0.own 9) sb:=φ rfl;have r:∀j,j<4->∀b,(ob j).ownBlock=μ b->b<W.heap.size:=λj d b e=>((h.out j d).own.lt b e).2
 have K:=h.size;have t:∀b,l.ownBlock=μ b->(ob k).ownBlock=μ b\/W.heap.size<=b:=λb e=>by
  obtain a|a:=T.new
  rw[a]at e;exact φ e;exact ψ (a b e)
 refine⟨⟨v,ah ob k l,ah oc k G,T.aV,T.sz.trans h.sz,λi hi=>(T.out i (by omega)).trans (h.same i hi),λj d=>?_,λj d=>?_,λi j hi d u b e1 e2=>?_,λj d=>?_,bK K C.size,?_⟩,?_⟩
 rw[JG];simp only[oE]
 by_cases e:j=k;subst e;simp only[aR];exact I;simp only[aX _ _ e]
 exact(h.out j d).frame C (λi a x=>T.out i (by omega)) (λb e e2=>h.xJ H d e (e2▸q)) (λy n c e=>⟨λe2=>(h.tm H d e).1 (e2▸q),(h.tm H d e).2⟩);by_cases e:j=k;subst e;rw[aR];obtain a|a:=T.new
 rw[a];exact h.rU j d;exact ψ (λb e=>by have:=a b e;omega);rw[aX _ _ e];exact h.rU j d;by_cases f:i=k;have m:j≠k:=by omega
 subst f;rw[aR]at e1;rw[aX _ _ m]at e2;obtain a|a:=t b e1
 exact h.tc i j hi d u b a e2;have:=r j d b e2;omega;rw[aX _ _ f]at e1;by_cases m:j=k;subst m;rw[aR]at e2;obtain a|a:=t b e2
 exact h.tc i j hi d u b e1 a;have:=r i hi b e1;omega;rw[aX _ _ m]at e2;exact h.tc i j hi d u b e1 e2;have L:∀y:Addr,y.block<W.heap.size->(∀i,i<4->(ob i).ownBlock≠μ y.block)->∀i,i<4->(ah ob k l i).ownBlock≠μ y.block:=λy P z i hi e=>by
  by_cases f:i=k;subst f;rw[aR]at e;obtain a|a:=t _ e
  exact z i hi a;omega;rw[aX _ _ f]at e;exact z i hi e
 have A:∀j,j<4->(oc j=v0.set j\/∀y n c,oc j=σ (μ y) n c->w.heap.size<=y.block/\y.block<W'.heap.size/\∀i,i<4->(ah ob k l i).ownBlock≠μ y.block):=λj d=>(h.td j d).imp id (λa y n c e=>⟨(a y n c e).1,cu (a y n c e).2.1 C.size,L y (a y n c e).2.1 (a y n c e).2.2⟩)
 by_cases e:j=k;subst e;rw[aR];obtain a|a:=F
 rw[a];exact A j d;refine ψ (λy n c e=>?_);obtain⟨x,M,N⟩:=a y n c e;refine⟨by omega,M,λi hi e2=>?_⟩
 by_cases f:i=j;subst f;rw[aR]at e2;exact N e2;rw[aX _ _ f]at e2;have:=r i hi _ e2;omega;rw[aX _ _ e];exact A j d;exact(C.block Bs (bg.1 h.box).1 (λe=>D (e▸q))).trans h.box;intro Q t2 B;rw[h.aV]at B;cases B;exact⟨v,T.aV,T.sz,λi a x=>T.out i (by omega)⟩
def m9.whole(H:bI w base sb cs0 v0 s)(bt:¬FT sb (v0.own 8) (v0.own 9) Bs){D l:ω}(h:m9 w base sb Bs cs0 v0 s acc D)(X:ay D l (FT sb (v0.own 8) (v0.own 9)))(hS:lW D l sb 91){G:Array υ}{Q I:υ}{u v:List Kt}{count tick wait:Int}(Y:l.heap[sb]?=μ (ο G 241 (0,0)))(F:iL l base G 91 Q I u v count tick wait)(C:ay w l (FT sb (v0.own 8) (v0.own 9)))(nf:Q.ownBlock=(v0.own 8).ownBlock)(nl:I.ownBlock=(v0.own 9).ownBlock\/∀k,I.ownBlock=μ k->D.heap.size<=k)(hm:∀x∈u++v,x∈v0.lf++v0.ll):
 eF w.heap.size w base sb v0 {s with out:=cP s.out acc,aw:=u.map (·.1),lost:=v.map (·.1),count:=count,tick:=tick,wait:=wait} l:=by
 obtain⟨bb,ob,oc,p⟩:=id h;have bx:=p.size;have R:w.heap.size<=l.heap.size:=C.size;obtain⟨bz,al,bj,ax⟩:=hS bb _ p.aV;rw[Y]at al;cases al;have aC:∀k,k<4->gP l base G (19+9*k) (ob k) (oc k) (cP s.out acc k):=λk q=>(p.out k q).frame X (λi b g=>ax i (by omega)) (λj e=>p.xJ H q e) (λy n c e=>p.tm H q e)
 have hsame:∀i,(i<19\/(55<=i/\i<91)\/96<=i)->G[i]?=cs0[i]? :=λi hi=>(ax i (by omega)).trans (p.same i hi)
 have a0:∀k,k<4->∀j,(ob k).ownBlock=μ j->j<D.heap.size:=λk q j e=>((p.out k q).own.lt j e).2
 obtain⟨m,S⟩:∃f:Nat->υ,f=λi=>if i<4 then ob i else if i=8 then Q else if i=9 then I else v0.own i:=⟨_,rfl⟩
 obtain⟨z,a1⟩:∃f:Nat->υ,f=λi=>if i<4 then oc i else v0.set i:=⟨_,rfl⟩
 have A:∀i,i<4->m i=ob i:=λi hi=>by rw[S];simp[hi]
 have K:∀i,4<=i->i<8->m i=v0.own i:=λi b g=>by rw[S];simp only;rw[iN_,iN_,iN_]
 have L:m 8=Q:=by rw[S];simp
 have M:m 9=I:=by rw[S];simp
 have s4:∀i,i<4->z i=oc i:=λi hi=>by rw[a1];simp[hi]
 have s5:∀i,4<=i->z i=v0.set i:=λi hi=>by rw[a1];simp only;rw[iN_]
 have T:∀i,i<10->i<4\/(4<=i/\i<8)\/i=8\/i=9:=λi hi=>by omega
 have N:∀i,i<10->∀k,(m i).ownBlock=μ k->(v0.own i).ownBlock=μ k\/w.heap.size<=k:=λi hi k e=>by
  obtain b|b|rfl|rfl:=T i hi
  rw[A i b]at e;obtain g|g:=p.rU i b
  rw[g]at e;exact φ e;exact ψ (g k e);rw[K i b.1 b.2]at e;exact φ e;rw[L,nf]at e;exact φ e;rw[M]at e;obtain g|g:=nl
  rw[g]at e;exact φ e;have:=g k e;exact ψ (by omega)
 have U:∀k,cG sb ⟨m,z,u,v⟩ k->cG sb v0 k\/w.heap.size<=k:=λk d=>by
  obtain d|⟨i,hi,d⟩:=d
  exact φ (φ d);obtain b|b:=N i hi k d
  exact φ (ψ ⟨i,hi,b⟩);exact ψ b
 have br:∀i,i<10->∀k,(m i).ownBlock=μ k->k<l.heap.size:=λi hi k e=>by
  obtain b|b|rfl|rfl:=T i hi
  rw[A i b]at e;exact((aC i b).own.lt k e).2;rw[K i b.1 b.2]at e;exact cu (H.bu.lt i hi k e) R;rw[L]at e;exact(F.of.lt k e).2;rw[M]at e;exact(F.ol.lt k e).2
 have a3:∀i,i<9->∀y n c,z i=σ (μ y) n c->(¬cG sb ⟨m,z,u,v⟩ y.block/\y.block<l.heap.size)/\(v0.set i=σ (μ y) n c\/w.heap.size<=y.block):=λi hi y n c e=>by
  have a4:v0.set i=σ (μ y) n c->(¬cG sb ⟨m,z,u,v⟩ y.block/\y.block<l.heap.size)/\(v0.set i=σ (μ y) n c\/w.heap.size<=y.block):=λe=>by
   have b:=H.bu.dV i hi y n c e;exact⟨⟨λd=>(U _ d).elim b.1 (by omega),by omega⟩,φ e⟩
  by_cases b:i<4;rw[s4 i b]at e;obtain g|g:=p.td i b
  rw[g]at e;exact a4 e;have V:=g y n c e;refine⟨⟨λd=>?_,cu V.2.1 X.size⟩,ψ V.1⟩
  obtain d|⟨j,r,d⟩:=d
  have:=H.bu.iM;omega;simp only at d;obtain t|t|rfl|rfl:=T j r
  rw[A j t]at d;exact V.2.2 j t d;rw[K j t.1 t.2]at d;have:=H.bu.lt j r _ d;omega;rw[L,nf]at d;have:=H.bu.lt 8 r _ d;omega;rw[M]at d;obtain B|B:=nl
  rw[B]at d;have:=H.bu.lt 9 r _ d;omega;have:=B _ d;omega;rw[s5 i (by omega)]at e;exact a4 e
 have hG:jC l sb ⟨m,z,u,v⟩:=by
  refine⟨cu H.bu.iM R,br,λi hi e=>?_,λi j hi r a8 k e1 e2=>?_,λi hi y n c e=>(a3 i hi y n c e).1,λx W=>?_⟩
  obtain b|b:=N i hi sb e
  exact H.bu.ij i hi b;have:=H.bu.iM;omega;simp only at e1 e2;obtain b|b:=N i hi k e1
  obtain g|g:=N j r k e2
  exact H.bu.sep i j hi r a8 k b g;have:=H.bu.lt i hi k b;omega;obtain g|g:=N j r k e2
  have:=H.bu.lt j r k g;omega
  ·
   have a9:∀i,i<10->(m i).ownBlock=μ k->i<4\/(i=9/\D.heap.size<=k):=λi hi e=>by
    obtain t|t|rfl|rfl:=T i hi
    exact φ t;rw[K i t.1 t.2]at e;have:=H.bu.lt i hi k e;omega;rw[L,nf]at e;have:=H.bu.lt 8 hi k e;omega;rw[M]at e;obtain B|B:=nl
    rw[B]at e;have:=H.bu.lt 9 hi k e;omega;exact ψ ⟨rfl,B k e⟩
   obtain O|⟨O,a2⟩:=a9 i hi e1<;>rcases a9 j r e2 with b1|⟨b1,b2⟩
   rw[A i O]at e1;rw[A j b1]at e2;exact p.tc i j O b1 a8 k e1 e2
   rw[A i O]at e1;have:=a0 i O k e1;omega
   rw[A j b1]at e2;have:=a0 j b1 k e2;omega
   omega
  obtain⟨a,n,c,e,hp,P⟩:=H.bu.gF x (hm x W);exact⟨a,n,c,e,hp.cM (λ_ y E=>C.block _ (P y E).2 (λht=>(P y E).1 (oQ ht))),λy E=>⟨λd=>(U _ d).elim (P y E).1 (by have:=(P y E).2;omega),cu (P y E).2 R⟩⟩
 refine⟨G,⟨m,z,u,v⟩,⟨Y,bj.trans (p.sz.trans H.sz),(hsame 0 (by omega)).trans H.c0,(hsame 1 (by omega)).trans H.c1,λi hi=>(hsame _ (by omega)).trans (H.key i hi),(hsame 18 (by omega)).trans H.iN,λk q=>?_,λk q=>?_,?_,rfl,rfl,?_,?_,(hsame 97 (by omega)).trans H.pJ,(hsame 98 (by omega)).trans H.lJ,(hsame 99 (by omega)).trans H.mH,(hsame 100 (by omega)).trans H.qR,hG,bK H.aI R⟩,⟨C.mono (λk _ d=>oQ d),U,λk d=>?_⟩⟩
 simp only;rw[A k q,s4 k q];exact aC k q;simp only;rw[K (4+k) (by omega) (by omega),s5 (4+k) (by omega)];exact(H.aF k q).frame C (λi b g=>hsame i (by omega)) (λj e=>CI H (by omega) e) (λy n c e=>⟨λd=>(H.bu.dV (4+k) (by omega) y n c e).1 (oQ d),(H.bu.dV (4+k) (by omega) y n c e).2⟩);simp only;rw[L,M];exact F;simp only;rw[s5 8 (by omega)];exact(hsame 96 (by omega)).trans H.oO;simp only;rw[s5 8 (by omega)];exact qd H.oP C (λy n c e=>⟨λd=>(H.bu.dV 8 (by omega) y n c e).1 (oQ d),(H.bu.dV 8 (by omega) y n c e).2⟩);obtain d|⟨i,y,n,c,hi,e,rfl⟩|⟨x,W,y,n,c,e,rfl⟩:=d
 exact(U k d).imp φ id;obtain b|b:=(a3 i hi y n c e).2
 exact φ (ψ (φ ⟨i,y,n,c,hi,b,rfl⟩));exact ψ b;exact φ (ψ (ψ ⟨x,hm x W,y,n,c,e,rfl⟩))
end
section
variable {w:ω} {base sb Bs:Nat} {cs0:Array υ} {v0:bf} {s:Sd} {acc:List (Int×Pc)} {W W':ω} {cs:Array υ} {ob oc:Nat->υ}
def mI.au(h:mI w base sb Bs cs0 v0 s acc W cs ob oc)(g:γ W W' ν):mI w base sb Bs cs0 v0 s acc W' cs ob oc:=
 ⟨bE h.aV g,h.sz,h.same,λk a=>(h.out k a).au g,h.rU,h.tc,λk a=>(h.td k a).imp id (λb y n c e=>⟨(b y n c e).1,cu (b y n c e).2.1 g.size,(b y n c e).2.2⟩),bK h.size g.size,bE h.box g⟩
end
def vh{w:ω}{p:Addr}{v:υ}{sb:Nat}(h:κ w p=μ v)(a:p.block≠sb):∀W,γ w W (μ sb)->κ W p=μ v:=λ_ g=>g.cell h (λe=>a (aQ e))
def lY.pre{W a W':ω}{sb b:Nat}{cs:Array υ}{t:TypeId}(e:W.heap[sb]?=μ (ο cs t (0,0)))(g:γ W a ν)(h:lY a W' sb b):lY W W' sb b:=λc t2 d=>h c t2 (bE d g)
def Ku(w:ω)(base sb Bs:Nat)(cs0:Array υ)(v0:bf)(s:Sd)(H:bI w base sb cs0 v0 s)(m:¬FT sb (v0.own 8) (v0.own 9) Bs)(acc:List (Int×Pc))(W:ω)(h:m9 w base sb Bs cs0 v0 s acc W)(v:∀k,k<4->fG (cP s.out acc k))(k:Nat)(b:k<4)(p:Pc)(L:p.x.ok)(hp:jQ p):
 Calls prog 251 #[ι δ k,ε (pA p),π (μ ⟨Bs,0,ν⟩)] W λe W'=>e=ξ (τ #[])/\m9 w base sb Bs cs0 v0 s (acc++[((k:Int),p)]) W'/\γ W W' (μ sb)/\lY W W' sb 91:=by
 obtain⟨cs,ob,oc,h⟩:=h;have M:base<=W.heap.size:=bK H.aI h.size;have n:=J (λa(g:γ W a ν)=>(JH (h.au g).aV ((h.au g).out k b) (v k b) (bK M g.size) ((h.au g).apart H b) p L hp));have q:=J (λa c(g:γ W a ν)(d:oM a c sb 241 cs (19+9*k) base (ob k) (oc k) ((cP s.out acc k).eG p))(r:γ a c (μ sb))=>(show m9 w base sb Bs cs0 v0 s (acc++[((k:Int),p)]) c/\γ W c (μ sb)/\lY W c sb 91 from⟨((h.au g).CJ H m b d r).1,aq (dy g _) r,lY.pre h.aV g ((h.au g).CJ H m b d r).2⟩));have N:=(qi h.box).1;rw[<-qe]at n q;have O:(k:Int)<4:=by omega
 have d1:decide ((k:Int)<4)=ρ:=eT O;obtain⟨R,f⟩:=exq (λW':ω=>m9 w base sb Bs cs0 v0 s (acc++[((k:Int),p)]) W'/\γ W W' (μ sb)/\lY W W' sb 91);have y:(λ(e:Ending) W'=>e=ξ (τ #[])/\m9 w base sb Bs cs0 v0 s (acc++[((k:Int),p)]) W'/\γ W W' (μ sb)/\lY W W' sb 91)=λe W'=>e=ξ (τ #[])/\R W':=by rw[f]
 rw[y];clear y;replace⟨f,h,H⟩:=cz f h H;clear v;obtain⟨V,z⟩:=exq ((cP s.out acc k).eG p);rw[<-z]at n q;clear z;obtain⟨⟨A,B⟩,C,D⟩:=p;unfold pA at *;simp only at *;obtain⟨a,i⟩:=exq (W.alloc (ο #[ι η A,ι η B,β C,β D] 377));have t:γ W a ν:=by rw[i];exact aJ _ _ _
 have u:a.heap[W.heap.size]?=μ (ο #[ι η A,ι η B,β C,β D] 377 (0,0)):=by rw[i];exact aO _ _
 have j:W.heap.size≠sb:=by have:=(bg.1 (Z h).aV).1;omega
 have P:Bs≠sb:=λe=>m (φ e)
 have X:=vh (sb:=sb) (gC_ t N) P;obtain⟨E,F,G,I⟩:=qk u;replace E:=vh (sb:=sb) E j;replace F:=vh (sb:=sb) F j;replace G:=vh (sb:=sb) G j;replace I:=vh (sb:=sb) I j;replace u:=J u;have l:γ a a.drew ν:=aY (aD _ ν);go_enter func251,ntmps251;go_upto_region 1 with fail;rw[<-i];clear i;go_region_held3 (λQ=>γ a Q (μ sb))
  (with_reducible first|exact S|exact dy l _)
  (first|(go_at_call 252;apply(Z n _ (aq t l)).mono;rintro e T⟨rfl,d,K⟩;have S:=aq (dy l (μ sb)) K;have U:Hid (R T):=J (by rw[Z f];exact Z q _ _ (aq t l) d K);clear d))
 go_wp2_with fail;exact gD (fe rfl _ _ _) rfl ⟨rfl,Z U⟩
def kq(o:Ot)(p:Pc):Bool:=(decide (p.x.hi<=p.x.lo)||o.h.af.any (λr=>decide (r.lo<=p.x.lo)&&decide (p.x.hi<=r.hi)))&&(((o.uE&& !p.e)==o.uE)&&((o.uG&& !p.g)==o.uG))
def Db(o:Ot)(p:Pc):kq o p=ρ↔uO o p.x p.e p.g:=by
 unfold kq uO;simp only[iu,wJ,mu,oG,beq_iff_eq]
def Kv(W:ω)(D sb j:Nat)(cs:Array υ)(t:TypeId)(vb vc:υ)(o:Ot)(k:Nat)(M:k<4)(b:W.heap[sb]?=μ (ο cs t (0,0)))(H:gP W D cs (19+9*k) vb vc o)(E:o.h.nice)(F:κ W ⟨j,0,ν⟩=μ (π (μ ⟨sb,0,ν⟩)))(p:Pc):
 Calls prog 255 #[ι δ k,ε (pA p),π (μ ⟨j,0,ν⟩)] W λe G=>e=ξ (β (kq o p))/\γ W G ν:=by
 obtain⟨ab,nb,cb,ac,nc,cc,rfl,rfl⟩:=H.nT;have l:=J (λa(g:γ W a ν)=>Iu a sb (19+9*k) ab nb cb ac nc cc o ((H.au g).hd (bE b g) E) ((H.au g).tail (bE b g)) p.x p.e p.g);rw[<-qe]at l;have I:(k:Int)<4:=by omega
 have d1:decide ((k:Int)<4)=ρ:=eT I;have m:=J (Db o p);obtain⟨q,n⟩:=exq (kq o p);rw[<-n]at m⊢;clear n;obtain⟨⟨r,s⟩,u,v⟩:=p;unfold pA at *;simp only at *;obtain⟨a,c⟩:=exq (W.alloc (ο #[ι η r,ι η s,β u,β v] 377));have d:γ W a ν:=by rw[c];exact aJ _ _ _
 have f:a.heap[W.heap.size]?=μ (ο #[ι η r,ι η s,β u,β v] 377 (0,0)):=by rw[c];exact aO _ _
 have N:=kc (gC_ d F);obtain⟨w,y,z,A⟩:=qk f;replace w:=kc w;replace y:=kc y;replace z:=kc z;replace A:=kc A;replace⟨f,b,H⟩:=cz f b H;have i:γ a a.drew ν:=aY (aD _ ν);go_enter func255,ntmps255;go_upto_region 1 with fail;rw[<-c];clear c;go_region_held3 (λK=>γ a K ν)
  (with_reducible first|exact B|exact i)
  (first|(go_at_call 256;apply(Z l _ (aq d i)).mono;rintro e O⟨C,L⟩;obtain rfl:=s8 C (Z m);have B:=aq i L;clear C))
 go_wp2;go_ret;exact⟨rfl,aq d B⟩
def iZ(q:Pk->Bool)(l:List Pk):List (Int×Pc):=l.flatMap (λx=>if q x then x.ps.map (λp=>(x.st,p))else[])
def Dc(q:Pk->Bool)(l:List Kt):lI (λx=>q x.1) l=iZ q (l.map (·.1)):=by
 unfold lI iZ;rw[List.flatMap_map]
def tu(q:Pk->Bool)(l:List Kt):(l.filter (λx=>q x.1)).map (·.1)=(l.map (·.1)).filter q:=by
 induction l with
 |nil=>rfl
 |cons x l a=>
  simp only[List.filter_cons,kM]
  split<;>simp_all
def Kw(q:Pk->Bool)(l:List Kt):l.any (λx=>q x.1)=(l.map (·.1)).any q:=by rw[List.any_map];rfl
def Sd.cg(s:Sd)(l:List Rg):Sd:=
 {s with out:=cP s.out (iZ (λx=>bp l x.num) s.aw++iZ (λx=>bp l x.num) s.lost),aw:=(s.aw.filter (λx=> !bp l x.num)).filter (λx=> !decide (x.num+3<=(ao l 0).hi)),lost:=s.lost.filter (λx=> !bp l x.num)++(s.aw.filter (λx=> !bp l x.num)).filter (λx=>decide (x.num+3<=(ao l 0).hi)),wait:=if s.aw.any (λx=>bp l x.num)then 4 else s.wait}
def Sd.forget(s:Sd):Sd:={s with lost:=s.lost.filter (λx=> !x.ps.all (kq (s.out x.st.toNat)))}
def Sd.bT(s:Sd)(l:List Rg):Sd:=(s.cg l).forget
structure mJ(s:Sd):Prop where
 out:∀k,k<4->fG (s.out k)
 pk:∀x∈s.aw++s.lost,0<=x.st/\x.st<4/\∀p∈x.ps,jQ p
 num:∀x∈s.aw,0<=x.num/\x.num<=4611686018427387000
def xM{q:Pk->Bool}{l:List Pk}{y:Int×Pc}(h:y∈iZ q l):∃x∈l,y.1=x.st/\y.2∈x.ps:=by
 unfold iZ at h;obtain⟨x,b,a⟩:=sM.1 h;split at a;obtain⟨p,hp,rfl⟩:=eU.1 a;exact⟨x,b,rfl,hp⟩
 cases a
def mJ.cg(h:mJ s)(l:List Rg):mJ (s.cg l):=by
 refine⟨xI h.out _ (λy b=>?_),λx a=>?_,λx a=>?_⟩
 obtain b|b:=bL.1 b
 obtain⟨x,a,-,c⟩:=xM b;exact(h.pk x (fC _ a)).2.2 _ c;obtain⟨x,a,-,c⟩:=xM b;exact(h.pk x (ir _ a)).2.2 _ c;unfold Sd.cg at a;simp only[bL,eO]at a;refine h.pk x (bL.2 ?_);obtain a|a|a:=a
 exact φ a.1.1;exact ψ a.1;exact φ a.1.1;unfold Sd.cg at a;simp only[eO]at a;exact h.num x a.1.1
def Kx(H:bI w k i C d s){x:Kt}(b:x∈d.lf++d.ll){p:Pc}(hp:p∈x.1.ps):p.x.ok:=by
 obtain⟨a,n,c,-,h,-⟩:=H.bu.gF x b;exact h.1 p hp
def mJ.kt(h:mJ s)(H:bI w n k c d s){x:Kt}(a:x∈d.lf++d.ll):0<=x.1.st/\x.1.st<4/\∀p∈x.1.ps,jQ p:=by
 refine h.pk x.1 ?_;rw[H.aw,H.lost,<-mV];exact pf a
def Ky(w:ω)(f sb b:Nat)(cs:Array υ)(v:bf)(s:Sd)(H:bI w f sb cs v s)(hp:mJ s)(t:w.heap[b]?=μ (ο #[π (μ ⟨sb,0,ν⟩)] 169 (0,0)))(B:¬cG sb v b):
 Calls prog 254 #[π (μ ⟨sb,91,ν⟩),.func (.func 255) #[] #[π (μ ⟨b,0,ν⟩)]] w λe q=>e=ξ (τ #[])/\eF w.heap.size w f sb v s.forget q:=by
 have g:=H.s9;refine(Jo w sb 91 f cs 241 _ _ v.lf v.ll s.count s.tick s.wait H.aV H.fl g (cG sb v) (λk l=>oQ l) (H.bu.gF.sub (λx a=>ir _ a)) 255 #[π (μ ⟨b,0,ν⟩)] (λst p=>kq (s.out st.toNat) p) (enters_of func255 (by kernel_rfl) rfl) (λW x p C a I=>?_)).mono ?_;obtain⟨K,L,-⟩:=hp.kt H (ir _ a);have l:x.1.st.toNat<4:=by omega
 have e:x.1.st=((x.1.st.toNat:Nat):Int):=by omega
 have u:∀j,(v.own 9).ownBlock=μ j->cG sb v j:=λj e=>ψ ⟨9,by omega,e⟩
 have D:W.heap[sb]?=μ (ο cs 241 (0,0)):=(C.block sb H.bu.iM (λe=>g.2.1 e)).trans H.aV;have r:=(H.out _ l).frame C (cs':=cs) (λ_ _ _=>rfl) (λj e1 e2=>H.bu.sep _ 9 (by omega) (by omega) (by omega) j e1 e2) (λy n c e1=>⟨λe2=>(H.bu.dV _ (by omega) y n c e1).1 (u _ e2),(H.bu.dV _ (by omega) y n c e1).2⟩);have E:W.heap[b]?=μ (ο #[π (μ ⟨sb,0,ν⟩)] 169 (0,0)):=(C.block b (bg.1 t).1 (λe=>B (u _ e))).trans t;have:=Kv W f sb b cs 241 _ _ _ _ l D r (hp.out _ l).nice (qi E).1 p;rw[<-e]at this;exact this;rintro e q⟨rfl,d,F,r,A,C⟩;refine⟨rfl,?_⟩
 have z:(95:Nat)<cs.size:=by rw[H.sz];omega
 have m:∀i,i≠95->(cs.setIfInBounds (91+4) d)[i]?=cs[i]? :=λi h=>bH
 have G:rT w q sb 241 cs (cs.setIfInBounds (91+4) d) 91 (v.own 8) (v.own 9) (v.own 8) d:=⟨F,by simp,λi hi=>m i (by omega),C.mono (λk _ h=>h.elim φ (λh=>ψ (ψ h))),φ rfl,φ A⟩
 have hF:iL q f (cs.setIfInBounds (91+4) d) 91 (v.own 8) d v.lf (v.ll.filter (λx=> !x.1.ps.all (kq (s.out x.1.st.toNat)))) s.count s.tick s.wait:=
  ⟨(m _ (by omega)).trans H.fl.c0,(m _ (by omega)).trans H.fl.c1,(m _ (by omega)).trans H.fl.c2,(m _ (by omega)).trans H.fl.c3,cJ,H.fl.of.aA C (λj e h=>h.elim (λh=>g.1 (h▸e)) (λh=>g.2.2 j e h)),r⟩
 have:=H.zN (aP _) (v.own 8) d v.lf _ _ _ _ G hF (λk e=>by rw[A];exact g.2.2 k e) (λx a=>φ (by
  obtain a|a:=bL.1 a
  exact fC _ a
  ·exact ir _ (eO.1 a).1))
 have e2:({s with aw:=v.lf.map (·.1),lost:=(v.ll.filter (λx=> !x.1.ps.all (kq (s.out x.1.st.toNat)))).map (·.1),count:=s.count,tick:=s.tick,wait:=s.wait}:Sd)=s.forget:=by
  unfold Sd.forget;rw[tu (λx=> !x.ps.all (kq (s.out x.st.toNat))),<-H.aw,<-H.lost]
 rw[<-e2];exact this
def vk(w:ω)(b sb:Nat)(v:bf)(s:Sd)(l:List Rg)(e:Ending)(a:ω):Prop:=
 (s.count<=(ao l 0).hi/\e=ξ (cH 8)/\γ w a ν)\/((ao l 0).hi<s.count/\e=ξ .nilIface/\eF w.heap.size w b sb v (s.bT l) a)
def Kz(w:ω)(i sb c:Nat)(cs:Array υ)(v:bf)(s:Sd)(H:bI w i sb cs v s)(hp:mJ s)(R:s.aw.length<=1000000/\s.lost.length<=40000000)(D:w.heap[c]?=μ (ο #[π (μ ⟨sb,0,ν⟩)] 169 (0,0)))(E:¬cG sb v c)(a:Option Addr)(n cap:Nat)(l:List Rg)(hs:bq w a n cap l)(hl:0<l.length)(z:∀y,a=μ y->¬cG sb v y.block/\y.block<w.heap.size):
 Calls prog 253 #[π (μ ⟨sb,91,ν⟩),σ a n cap,.func (.func 251) #[] #[π (μ ⟨c,0,ν⟩)]] w λe j=>(s.count<=(ao l 0).hi/\e=ξ (.iface 34 (ι δ 8))/\γ w j ν)\/((ao l 0).hi<s.count/\e=ξ .nilIface/\eF w.heap.size w i sb v (s.cg l) j/\ay w j (FT sb (v.own 8) (v.own 9))):=by
 have S:v.lf.length=s.aw.length:=by have:=fD List.length H.aw;rw[dd]at this;exact this.symm
 have T:v.ll.length=s.lost.length:=by have:=fD List.length H.lost;rw[dd]at this;exact this.symm
 have q:¬FT sb (v.own 8) (v.own 9) c:=λh=>E (oQ h)
 refine(Jl w sb 91 i cs 241 _ _ v.lf v.ll s.count s.tick s.wait H.aV H.fl H.aI H.s9 (by omega) (cG sb v) (λk t=>oQ t) H.bu.gF a n cap l hs hl (λy A=>⟨λh=>(z y A).1 (oQ h),(z y A).2⟩) (λx b=>by
  have:=hp.num x.1 (by rw[H.aw];exact pf b);omega) 251 #[π (μ ⟨c,0,ν⟩)] (enters_of func251 (by kernel_rfl) rfl)
  (λf W=>m9 w i sb c cs v s f W/\∀y∈f,jQ y.2) ⟨H.JI D,λy d=>(by cases d)⟩ (λW G f h C I=>⟨h.1.cM H q C I,h.2⟩) (λW f x p h b u U=>?_)).mono ?_
 obtain⟨m,V,B⟩:=hp.kt H b;have t:x.1.st.toNat<4:=by omega
 have e:x.1.st=((x.1.st.toNat:Nat):Int):=by omega
 have:=Ku w i sb c cs v s H q f W h.1 (xI hp.out f h.2) _ t p (Kx H b u) (B p u);rw[<-e]at this;apply this.mono;rintro r G⟨rfl,K,L,k3⟩;refine⟨rfl,⟨K,λy d=>?_⟩,L,k3⟩
 obtain d|d:=bL.1 d
 exact h.2 y d;rw[cA.1 d];exact B p u;rintro e j(⟨m,rfl,g⟩|⟨m,rfl,X,Y,al,M,F,⟨W3,N,O,P,Q⟩,C,nf,nl⟩);exact φ ⟨m,rfl,g⟩;refine ψ ⟨m,rfl,?_,C⟩;have:=N.1.whole H q O P M F C nf Q (λx b=>by
  simp only[bL,eO]at b;refine bL.2 ?_;obtain b|b|b:=b
  exact φ b.1.1;exact ψ b.1
  ·exact φ b.1.1)
 have e2:({s with out:=cP s.out (lI (λx=>bp l x.1.num) v.lf++lI (λx=>bp l x.1.num) v.ll),aw:=((v.lf.filter (λx=> !bp l x.1.num)).filter (λx=> !decide (x.1.num+3<=(ao l 0).hi))).map (·.1),lost:=(v.ll.filter (λx=> !bp l x.1.num)++(v.lf.filter (λx=> !bp l x.1.num)).filter (λx=>decide (x.1.num+3<=(ao l 0).hi))).map (·.1),count:=s.count,tick:=s.tick,wait:=(if v.lf.any (λx=>bp l x.1.num)then 4 else s.wait)}:Sd)=s.cg l:=by
  unfold Sd.cg;rw[Dc (λx=>bp l x.num),Dc (λx=>bp l x.num),mV,tu (λx=> !decide (x.num+3<=(ao l 0).hi)),tu (λx=> !bp l x.num) v.lf,tu (λx=>decide (x.num+3<=(ao l 0).hi)),tu (λx=> !bp l x.num) v.lf,tu (λx=> !bp l x.num) v.ll,Kw (λx=>bp l x.num),<-H.aw,<-H.lost]
 rw[<-e2];exact this
def KA(w:ω)(d sb:Nat)(cs:Array υ)(v:bf)(s:Sd)(H:bI w d sb cs v s)(hp:mJ s)(ax:s.aw.length<=1000000/\s.lost.length<=40000000)(f:Fr)(a:Option Addr)(n cap:Nat)(hs:bq w a n cap f.ranges)(hl:0<f.ranges.length)(z:∀y,a=μ y->¬cG sb v y.block/\y.block<w.heap.size):
 Calls prog 217 #[π (μ ⟨sb,0,ν⟩),ε (bU f (σ a n cap))] w (vk w d sb v s f.ranges):=by
 obtain⟨R,m⟩:=exq (vk w d sb v s f.ranges);rw[<-m];replace m:=J m;obtain⟨k,q⟩:=exq (w.alloc (ο #[π (μ ⟨sb,0,ν⟩)] 169));have g1:γ w k ν:=by rw[q];exact aJ _ _ _
 have D:k.heap[w.heap.size]?=μ (ο #[π (μ ⟨sb,0,ν⟩)] 169 (0,0)):=by rw[q];exact aO _ _
 obtain⟨b,r⟩:=exq (k.alloc (ο (bU f (σ a n cap)) 158));have T:γ k b ν:=by rw[r];exact aJ _ _ _
 have A:b.heap[k.heap.size]?=μ (ο (bU f (σ a n cap)) 158 (0,0)):=by rw[r];exact aO _ _
 have gd:γ w b.drew ν:=aY (aq g1 T);have E:¬cG sb v w.heap.size:=λh=>by have:=qQ H.bu h;omega
 have l:b.drew.heap[w.heap.size]?=μ (ο #[π (μ ⟨sb,0,ν⟩)] 169 (0,0)):=bE D (aY T);have t:=J (Kz b.drew d sb w.heap.size cs v s (H.au gd) hp ax l E a n cap f.ranges (hs.au gd) hl (λy U=>⟨(z y U).1,cu (z y U).2 gd.size⟩));have bj:¬FT sb (v.own 8) (v.own 9) w.heap.size:=λh=>E (oQ h)
 have F:=J (λG V I(S3:bI G d sb V I (s.cg f.ranges))(a1:G.heap[w.heap.size]?=μ (ο #[π (μ ⟨sb,0,ν⟩)] 169 (0,0)))(a2:¬cG sb I w.heap.size)=>Ky G d sb w.heap.size V I _ S3 (hp.cg _) a1 a2);have k0:b.drew.cell? ⟨w.heap.size,0,ν⟩=μ (π (μ ⟨sb,0,ν⟩)):=(qi l).1;have K:b.drew.cell? ⟨k.heap.size,6,ν⟩=μ (σ a n cap):=(dI (w:=b) (by unfold bU at A;exact A)).2.2.2.2.2.2;have br:k.heap.size=w.heap.size+1:=by rw[q];simp
 have gr:γ b b.drew ν:=aY (aD _ ν);replace⟨H,hp,D,A,l,hs,z⟩:=iU H hp D A l hs z;obtain⟨kind,stream,offset,code,fin,data,ranges⟩:=f;unfold bU at *;simp only at *;rw[q]at r K;rw[eh]at K;obtain⟨rl,W⟩:=exq ranges;rw[<-W]at t F m;clear W;go_enter func217,ntmps217;go_upto_region 2 with fail;rw[<-r];clear r q;have L:∀j,w.heap.size<=j->¬FT sb (v.own 8) (v.own 9) j:=λj hj h=>by have:=qQ (Z H).bu (oQ h);omega
 have p:b.drew.cell? ⟨w.heap.size,0,ν⟩=μ (π (μ ⟨sb,0,ν⟩))/\b.drew.cell? ⟨w.heap.size+1,6,ν⟩=μ (σ a n cap):=⟨k0,K⟩
 by_cases X:s.count<=(ao rl 0).hi
 ·have B:=J ((Z t).mono (λe c h=>(show e=ξ (.iface 34 (ι δ 8))/\b.drew.grownBy c ν from h.elim (λh=>h.2) (λh=>by have:=h.1;omega))));have M:=J (λc(g:b.drew.grownBy c ν)=>(show R (ξ (.iface 34 (ι δ 8))) c by rw[Z m];exact φ ⟨X,rfl,aq gd g⟩));clear t;go_region_held3 (λc=>κ c ⟨w.heap.size,0,ν⟩=μ (π (μ ⟨sb,0,ν⟩))/\κ c ⟨w.heap.size+1,6,ν⟩=μ (σ a n cap))
   (with_reducible first|exact u|exact p)
   (first|(go_at_call 253;apply(Z B).mono;rintro e i⟨rfl,N⟩;have u:κ i ⟨w.heap.size,0,ν⟩=μ (π (μ ⟨sb,0,ν⟩))/\κ i ⟨w.heap.size+1,6,ν⟩=μ (σ a n cap):=⟨gC_ N p.1,gC_ N p.2⟩;have O:=J (Z M _ N)))
  go_wp2_with fail;exact Z O
 have B:=J ((Z t).mono (λe c h=>(show e=ξ .nilIface/\eF b.drew.heap.size b.drew d sb v (s.cg rl) c/\ay b.drew c (FT sb (v.own 8) (v.own 9))from h.elim (λh=>absurd h.1 X) (λh=>h.2))));clear t;go_region_held3 (λc=>κ c ⟨w.heap.size,0,ν⟩=μ (π (μ ⟨sb,0,ν⟩))/\κ c ⟨w.heap.size+1,6,ν⟩=μ (σ a n cap))
  (with_reducible first|exact u|exact p)
  (first|(go_at_call 253;apply(Z B).mono;rintro e i⟨rfl,C,x⟩;have u:κ i ⟨w.heap.size,0,ν⟩=μ (π (μ ⟨sb,0,ν⟩))/\κ i ⟨w.heap.size+1,6,ν⟩=μ (σ a n cap):=⟨x.cell p.1 (L _ (aP _)),x.cell p.2 (L _ (by simp))⟩;have a4:=J ((x.block w.heap.size (bg.1 (Z l)).1 (L _ (aP _))).trans (Z l));replace C:=J C;replace x:=J x))
 obtain⟨a8,P,Q,S⟩:=Z C;have a9:¬cG sb P w.heap.size:=λh=>by
  have bz:=(bg.1 (Z l)).1;obtain Y|Y:=S.ft _ h
  exact E Y;omega
 have bb:=J (Z F i a8 P Q (Z a4) a9);have M:=J (λc(h:eF i.heap.size i d sb P (s.cg rl).forget c)=>(show R (ξ .nilIface) c by
  rw[Z m];refine ψ ⟨by omega,rfl,?_⟩;exact eF.pre ((dz.au gd).trans (S.mono gd.size)) (h.mono (bK gd.size S.aA.size))))
 have bM:=u.1;clear F B C u;replace Q:=J Q;go_wp2_with fail;apply(Z bb).mono;rintro e w6⟨rfl,h6⟩;have O:=J (Z M _ h6);clear h6;go_wp2_with fail;exact Z O
def Sd.take(s:Sd)(f:Fr):Int×Sd:=
 if f.kind=3 then(if s.count<=(ao f.ranges 0).hi then(8,s)else(0,s.bT f.ranges))
 else if f.kind=4 then(if(s.aF f.stream.toNat).gO f.offset then(7,s)else(0,{s with aF:=ah s.aF f.stream.toNat ((s.aF f.stream.toNat).reset f)}))
 else if f.kind=5 then(if(s.aF f.stream.toNat).bad f then(7,s)else(0,{s with aF:=ah s.aF f.stream.toNat ((s.aF f.stream.toNat).data f)}))
 else if f.kind=6 then(10,s)else(0,s)
def kT(w:ω)(a sb:Nat)(v:bf)(r:Int×Sd)(e:Ending)(b:ω):Prop:=e=ξ (cH r.1)/\eF w.heap.size w a sb v r.2 b
def KB(w:ω)(a sb k:Nat)(cs:Array υ)(v:bf)(s:Sd)(H:bI w a sb cs v s)(b:k<4)(f:Fr)(c:υ):
 Calls prog 218 #[π (μ ⟨sb,55+k*9,ν⟩),ε (bU f c)] w (kT w a sb v (if(s.aF k).gO f.offset then(7,s)else(0,{s with aF:=ah s.aF k ((s.aF k).reset f)}))):=by
 rw[uU];apply(IE w sb (55+9*k) a cs _ _ _ _ H.aV (H.aF k b) (H.zK k b) f c).mono;rintro r e(⟨h,rfl,g⟩|⟨h,rfl,d⟩);rw[h];exact⟨rfl,H.to g⟩
 rw[h];exact⟨rfl,H.zL k b _ d⟩
def KC(w:ω)(a sb k:Nat)(cs:Array υ)(v:bf)(s:Sd)(H:bI w a sb cs v s)(b:k<4)(f:Fr)(c:υ)(d:(s.aF k).h.nice)(e:0<=f.offset)(hs:aT f<=4611686018427387903)(i:(s.aF k).given=θ->∀m,f.offset<=m->m<aT f->¬Sm (s.aF k).h.af m->(s.aF k).h.fr<=m/\m<(s.aF k).h.fr+900000):
 Calls prog 219 #[π (μ ⟨sb,55+k*9,ν⟩),ε (bU f c)] w (kT w a sb v (if(s.aF k).bad f then(7,s)else(0,{s with aF:=ah s.aF k ((s.aF k).data f)}))):=by
 rw[uU];apply(IB w sb (55+9*k) a cs _ _ _ _ H.aV (H.aF k b) d H.aI (H.zK k b) f c e hs i).mono;rintro r l(⟨h,rfl,g⟩|⟨h,rfl,j⟩);rw[h];exact⟨rfl,H.to g⟩
 rw[h];exact⟨rfl,H.zL k b _ j⟩
def kT.pre{r:Int×Sd}{e:Ending}(g:γ w W ν)(h:kT W n k d r e V):kT w n k d r e V:=⟨h.1,eF.pre (dz.au g) (h.2.mono g.size)⟩
def kT.aA{r:Int×Sd}{e:Ending}(h:kT w n k d r e W):ay w W (cG k d):=by
 obtain⟨-,cs,b,-,a⟩:=h;exact a.aA
def vk.tk{e:Ending}(H:bI w n k c d s)(h:vk w n k d s Y e W):kT w n k d (if s.count<=(ao Y 0).hi then(8,s)else(0,s.bT Y)) e W:=by
 obtain⟨a,rfl,g⟩|⟨a,rfl,b⟩:=h
 rw[aG a];exact⟨rfl,H.to g⟩
 rw[iN_];exact⟨rfl,b⟩
structure Dd(s:Sd)(f:Fr):Prop where
 st:0<=f.stream/\f.stream<4
 rg:f.kind=3->0<f.ranges.length
 off:0<=f.offset
 en:f.kind=5->aT f<=4611686018427387903
 nice:(s.aF f.stream.toNat).h.nice
 lo:f.kind=5->(s.aF f.stream.toNat).given=θ->∀m,f.offset<=m->m<aT f->¬Sm (s.aF f.stream.toNat).h.af m->(s.aF f.stream.toNat).h.fr<=m/\m<(s.aF f.stream.toNat).h.fr+900000
def KD(w:ω)(p sb:Nat)(cs:Array υ)(v:bf)(s:Sd)(H:bI w p sb cs v s)(hp:mJ s)(a1:s.aw.length<=1000000/\s.lost.length<=40000000)(f:Fr)(a:Option Addr)(n cap:Nat)(hs:bq w a n cap f.ranges)(S:f.ranges≠[]->∀y,a=μ y->¬cG sb v y.block/\y.block<w.heap.size)(u:Dd s f):
 Calls prog 166 #[π (μ ⟨sb,0,ν⟩),ε (bU f (σ a n cap))] w (kT w p sb v (s.take f)):=by
 obtain⟨R,b⟩:=exq (kT w p sb v (s.take f));rw[<-b];obtain⟨k,Y,x⟩:∃k:Nat,k<4/\f.stream=(k:Int):=⟨f.stream.toNat,by have:=u.st;omega,by have:=u.st;omega⟩
 have i:f.stream.toNat=k:=by omega
 obtain⟨j,l⟩:=exq (w.alloc (ο (bU f (σ a n cap)) 158));have B:γ w j ν:=by rw[l];exact aJ _ _ _
 have d:j.heap[w.heap.size]?=μ (ο (bU f (σ a n cap)) 158 (0,0)):=by rw[l];exact aO _ _
 have I:=J (λW(g:γ w W ν)(hl:0<f.ranges.length)=>(KA W p sb cs v s (H.au g) hp a1 f a n cap (hs.au g) hl (λy ey=>⟨(S (pq.1 hl) y ey).1,cu (S (pq.1 hl) y ey).2 g.size⟩)).mono (λe C h=>kT.pre g (vk.tk (H.au g) h)));have K:=J (λW(g:γ w W ν)=>KB W p sb k cs v s (H.au g) Y f (σ a n cap));have L:=J (λW(g:γ w W ν)(c:f.kind=5)=>KC W p sb k cs v s (H.au g) Y f (σ a n cap) (by rw[<-i];exact u.nice) u.off (u.en c) (by rw[<-i];exact u.lo c));have D:=J (λW(g:γ w W ν)(e:Int)=>(show kT w p sb v (e,s) (ξ (cH e)) W from⟨rfl,H.to g⟩));have ax:s.take f=if f.kind=3 then(if s.count<=(ao f.ranges 0).hi then(8,s)else(0,s.bT f.ranges))else if f.kind=4 then(if(s.aF k).gO f.offset then(7,s)else(0,{s with aF:=ah s.aF k ((s.aF k).reset f)}))else if f.kind=5 then(if(s.aF k).bad f then(7,s)else(0,{s with aF:=ah s.aF k ((s.aF k).data f)}))else if f.kind=6 then(10,s)else(0,s):=by unfold Sd.take;rw[i]
 rw[ax]at b;have i1:(k:Int)<4:=by omega
 have d1:decide ((k:Int)<4)=ρ:=eT i1;have T:=u.rg;have P:¬cG sb v w.heap.size:=λh=>by have:=qQ H.bu h;omega
 clear ax hp hs S u;replace⟨H,T⟩:=bD H T;have Q:γ j j.drew ν:=aY (aD _ ν);have aC:∀(r:Int×Sd)(e:Ending)(C:ω),kT w p sb v r e C->e=ξ (cH r.1):=λr e C h=>h.1
 obtain⟨rr,N⟩:∃rr:Int×Sd,R=kT w p sb v rr:=⟨_,b⟩
 by_cases t:f.kind=3
 ·have z:=J (Z I j B (Z T t));rw[aG t]at b;clear K L D I;obtain⟨q,A⟩:∃q:Int×Sd,q=(if s.count<=(ao f.ranges 0).hi then(8,s)else(0,s.bT f.ranges)):=⟨_,rfl⟩
  rw[<-A]at b z;clear A N;replace b:=J b;obtain⟨kind,stream,offset,code,fin,data,ranges⟩:=f;unfold bU at *;simp only at *;subst t;obtain⟨M,y1,y2,y3,y4,y5,y6⟩:=dI d;replace⟨d,x,i⟩:=cz d x i;go_enter func166,ntmps166;go_upto_region 1 with fail;rw[<-l];clear l;go_wp2_with fail;apply(Z z).mono;rintro e w2 U;obtain rfl:=U.1;have m:Hid (R (ξ (cH q.1)) w2):=J (by rw[Z b];exact U);clear U;generalize cH q.1=ev at *;go_wp2_with fail;exact Z m
 rw[aB t]at b;by_cases E:f.kind=4
 ·have z:=J (Z K j.drew (aq B Q));rw[aG E]at b;clear K L D I;obtain⟨q,A⟩:∃q:Int×Sd,q=(if(s.aF k).gO f.offset then(7,s)else(0,{s with aF:=ah s.aF k ((s.aF k).reset f)})):=⟨_,rfl⟩
  rw[<-A]at b z;clear A N;replace b:=J b;obtain⟨kind,stream,offset,code,fin,data,ranges⟩:=f;unfold bU at *;simp only at *;subst E;subst x;obtain⟨M,-⟩:=dI d;obtain⟨F,hF⟩:=exq w.heap.size;rw[<-hF]at d P M;have G:j.drew.heap[F]?=μ (ο #[ι δ 4,ι δ k,ι η offset,ι η code,β fin,ς data,σ a n cap] 158 (0,0)):=d;replace⟨d,i⟩:=bD d i;clear t;go_enter func166,ntmps166;go_upto_region 1 with fail;rw[<-l,<-hF];clear l hF;go_upto_region 5 with fail;have k0:∀W:ω,W.heap[F]?=μ (ο #[ι δ 4,ι δ k,ι η offset,ι η code,β fin,ς data,σ a n cap] 158 (0,0))->κ W ⟨F,0,ν⟩=μ (ι δ 4):=λW h=>(dI h).1
  have k1:∀W:ω,W.heap[F]?=μ (ο #[ι δ 4,ι δ k,ι η offset,ι η code,β fin,ς data,σ a n cap] 158 (0,0))->κ W ⟨F,1,ν⟩=μ (ι δ k):=λW h=>(dI h).2.1
  have k2:∀W:ω,W.heap[F]?=μ (ο #[ι δ 4,ι δ k,ι η offset,ι η code,β fin,ς data,σ a n cap] 158 (0,0))->κ W ⟨F,2,ν⟩=μ (ι η offset):=λW h=>(dI h).2.2.1
  have k3:∀W:ω,W.heap[F]?=μ (ο #[ι δ 4,ι δ k,ι η offset,ι η code,β fin,ς data,σ a n cap] 158 (0,0))->κ W ⟨F,3,ν⟩=μ (ι η code):=λW h=>(dI h).2.2.2.1
  have k4:∀W:ω,W.heap[F]?=μ (ο #[ι δ 4,ι δ k,ι η offset,ι η code,β fin,ς data,σ a n cap] 158 (0,0))->κ W ⟨F,4,ν⟩=μ (β fin):=λW h=>(dI h).2.2.2.2.1
  have k5:∀W:ω,W.heap[F]?=μ (ο #[ι δ 4,ι δ k,ι η offset,ι η code,β fin,ς data,σ a n cap] 158 (0,0))->κ W ⟨F,5,ν⟩=μ (ς data):=λW h=>(dI h).2.2.2.2.2.1
  have k6:∀W:ω,W.heap[F]?=μ (ο #[ι δ 4,ι δ k,ι η offset,ι η code,β fin,ς data,σ a n cap] 158 (0,0))->κ W ⟨F,6,ν⟩=μ (σ a n cap):=λW h=>(dI h).2.2.2.2.2.2
  go_region_held3 (λC=>C.heap[F]?=μ (ο #[ι δ 4,ι δ k,ι η offset,ι η code,β fin,ς data,σ a n cap] 158 (0,0)))
   (with_reducible first|exact V|exact G)
   (first|(go_at_call 218;apply(Z z).mono;rintro e X c;obtain rfl:=c.1;have V:=(c.aA.block F (bg.1 G).1 P).trans G;have m:Hid (R (ξ (cH q.1)) X):=J (by rw[Z b];exact kT.pre (aq B Q) c);clear c;generalize cH q.1=ev at m⊢))
  go_wp2_with fail;exact Z m
 rw[aB E]at b;by_cases c:f.kind=5
 ·have z:=J (Z L j.drew (aq B Q) c);rw[aG c]at b;clear K L D I;obtain⟨q,A⟩:∃q:Int×Sd,q=(if(s.aF k).bad f then(7,s)else(0,{s with aF:=ah s.aF k ((s.aF k).data f)})):=⟨_,rfl⟩
  rw[<-A]at b z;clear A N;replace b:=J b;obtain⟨kind,stream,offset,code,fin,data,ranges⟩:=f;unfold bU at *;simp only at *;subst c;subst x;obtain⟨M,-⟩:=dI d;obtain⟨F,hF⟩:=exq w.heap.size;rw[<-hF]at d P M;have G:j.drew.heap[F]?=μ (ο #[ι δ 5,ι δ k,ι η offset,ι η code,β fin,ς data,σ a n cap] 158 (0,0)):=d;replace⟨d,i⟩:=bD d i;clear t E;go_enter func166,ntmps166;go_upto_region 1 with fail;rw[<-l,<-hF];clear l hF;go_upto_region 7 with fail;have k0:∀W:ω,W.heap[F]?=μ (ο #[ι δ 5,ι δ k,ι η offset,ι η code,β fin,ς data,σ a n cap] 158 (0,0))->κ W ⟨F,0,ν⟩=μ (ι δ 5):=λW h=>(dI h).1
  have k1:∀W:ω,W.heap[F]?=μ (ο #[ι δ 5,ι δ k,ι η offset,ι η code,β fin,ς data,σ a n cap] 158 (0,0))->κ W ⟨F,1,ν⟩=μ (ι δ k):=λW h=>(dI h).2.1
  have k2:∀W:ω,W.heap[F]?=μ (ο #[ι δ 5,ι δ k,ι η offset,ι η code,β fin,ς data,σ a n cap] 158 (0,0))->κ W ⟨F,2,ν⟩=μ (ι η offset):=λW h=>(dI h).2.2.1
  have k3:∀W:ω,W.heap[F]?=μ (ο #[ι δ 5,ι δ k,ι η offset,ι η code,β fin,ς data,σ a n cap] 158 (0,0))->κ W ⟨F,3,ν⟩=μ (ι η code):=λW h=>(dI h).2.2.2.1
  have k4:∀W:ω,W.heap[F]?=μ (ο #[ι δ 5,ι δ k,ι η offset,ι η code,β fin,ς data,σ a n cap] 158 (0,0))->κ W ⟨F,4,ν⟩=μ (β fin):=λW h=>(dI h).2.2.2.2.1
  have k5:∀W:ω,W.heap[F]?=μ (ο #[ι δ 5,ι δ k,ι η offset,ι η code,β fin,ς data,σ a n cap] 158 (0,0))->κ W ⟨F,5,ν⟩=μ (ς data):=λW h=>(dI h).2.2.2.2.2.1
  have k6:∀W:ω,W.heap[F]?=μ (ο #[ι δ 5,ι δ k,ι η offset,ι η code,β fin,ς data,σ a n cap] 158 (0,0))->κ W ⟨F,6,ν⟩=μ (σ a n cap):=λW h=>(dI h).2.2.2.2.2.2
  go_region_held3 (λC=>C.heap[F]?=μ (ο #[ι δ 5,ι δ k,ι η offset,ι η code,β fin,ς data,σ a n cap] 158 (0,0)))
   (with_reducible first|exact V|exact G)
   (first|(go_at_call 219;apply(Z z).mono;rintro e X c;obtain rfl:=c.1;have V:=(c.aA.block F (bg.1 G).1 P).trans G;have m:Hid (R (ξ (cH q.1)) X):=J (by rw[Z b];exact kT.pre (aq B Q) c);clear c;generalize cH q.1=ev at m⊢))
  go_wp2_with fail;exact Z m
 rw[aB c]at b;by_cases O:f.kind=6
 ·rw[aG O]at b;have m:Hid (R (ξ (.iface 34 (ι δ 10))) j):=J (by rw[b];exact Z D j B 10);clear b N K L D I aC;obtain⟨kind,stream,offset,code,fin,data,ranges⟩:=f;unfold bU at *;simp only at *;subst O;obtain⟨M,-⟩:=dI d;replace⟨d,x,i⟩:=cz d x i;clear t E c;go_enter func166,ntmps166;go_upto_region 1 with fail;rw[<-l];clear l;go_wp2_with fail;exact Z m
 rw[aB O]at b;have m:Hid (R (ξ .nilIface) j):=J (by rw[b];exact Z D j B 0);clear b N K L D I aC;obtain⟨kind,stream,offset,code,fin,data,ranges⟩:=f;unfold bU at *;simp only at *;obtain⟨M,-⟩:=dI d;have e3:(kind==3)=θ:=by simpa using t
 have e4:(kind==4)=θ:=by simpa using E
 have e5:(kind==5)=θ:=by simpa using c
 have e6:(kind==6)=θ:=by simpa using O
 replace⟨d,x,i⟩:=cz d x i;clear t E c O;go_enter func166,ntmps166;go_upto_region 1 with fail;rw[<-l];clear l;go_wp2_with fail;exact Z m
def Ep(w:ω)(n:Int)(b:0<=n/\n<=4611686018427387903):Calls prog 212 #[ι η n] w λe a=>e=ξ (ε #[ι η n,ι η (n+1)])/\γ w a ν:=by
 have c:IntKind.u64.wrap (n+1)=n+1:=by rw[fW];omega
 go_enter func212,ntmps212;go_wp2_with fail;exact df (v:=ε #[ι η n,ι η (n+1)]) (by simp[results,results212,go_sem]) rfl ⟨rfl,by repeat(first|exact aD _ _|apply dv|apply aY|apply bk)⟩
def Nu(w:ω):Calls prog 110 #[] w λe a=>e=ξ (ε #[ι η 0,ι δ 0,ι δ 4,σ ν 0 0,σ ν 0 0])/\γ w a ν:=by
 go_enter func110,ntmps110;go_wp2_with fail;exact df (v:=ε #[ι η 0,ι δ 0,ι δ 4,σ ν 0 0,σ ν 0 0]) (by simp[results,results110,go_sem]) rfl ⟨rfl,by repeat(first|exact aD _ _|apply dv|apply aY|apply bk)⟩
def im(l:List Rg)(floor n:Int):Bool:=decide (n<floor)||l.any (λr=>decide (r.lo<=n)&&decide (n<r.hi))
def Nv(w:ω)(sb no:Nat)(a:Option Addr)(k cap:Nat)(l:List Rg)(floor n:Int)(c0:κ w ⟨sb,no,ν⟩=μ (σ a k cap))(c1:κ w ⟨sb,no+1,ν⟩=μ (ι η floor))(hs:bq w a k cap l)(v:0<=n/\n<=4611686018427387903):
 Calls prog 160 #[π (μ ⟨sb,no,ν⟩),ι η n] w λe b=>e=ξ (β (im l floor n))/\γ w b ν:=by
 have x:=J (λW=>Ep W n v);have j:=J (λW(g:γ w W ν)=>BZ a k cap l ⟨n,n+1⟩ W (hs.au g));simp only at j;by_cases c:n<floor
 ·have dl:decide (n<floor)=ρ:=eT c;have hp:im l floor n=ρ:=by simp[im,c]
  rw[hp];go_enter func160,ntmps160;go_wp2_with fail;go_big_region;go_wp2;go_ret;exact⟨rfl,aY (aD _ _)⟩
 have dl:decide (n<floor)=θ:=fc c;have m:Hid (im l floor n=ρ↔(n+1<=n\/∃r∈l,r.lo<=n/\n+1<=r.hi)):=J (by
  simp only[im,dl,ux,oG,iu,mu]
  constructor;rintro⟨r,d,f,y⟩;exact ψ ⟨r,d,f,by omega⟩
  ·rintro(h|⟨r,d,f,y⟩);omega
   ·exact⟨r,d,f,by omega⟩)
 obtain⟨C,p⟩:=exq (im l floor n);rw[<-p]at m⊢;clear p;have u0:=kc c0;have u1:=kc c1;have q:γ w w.drew ν:=aY (aD _ _);clear c0 c1;go_enter func160,ntmps160;go_wp2_with fail;go_region_held3 (λb=>γ w b ν)
  (with_reducible first|exact s|exact i|exact q)
  (first
    |(go_at_call 212;apply(Z x w.drew).mono;rintro e t⟨rfl,z⟩;have i:γ w t ν:=aq q z)
    |(go_at_call 211;apply(Z j t i).mono;rintro e A⟨u,B⟩;have s:γ w A ν:=aq i B;obtain rfl:=s8 u (Z m);clear u))
 go_wp2;go_ret;exact⟨rfl,s⟩
def Nx(w:ω):(zeroValue 341).run prog w=.ok (ε #[ι η 0,ι η 0]) w:=by kernel_rfl
def Ny(l:List Rg)(h:0<l.length):cF (l.drop 1)=(cF l).drop 2:=by
 cases l with
 |nil=>simp at h
 |cons r l=>simp[cF]
def Nz(ty:TypeId)(c g k cap:Nat)(l:List Rg)(ho:dp w c (σ (μ ⟨g,0,ν⟩) (k+1) cap) l):
 ∃a,(Builtin.append_ #[227,227] ty #[σ (μ ⟨g,0,ν⟩) 0 cap,σ (μ ⟨g,2,ν⟩) k (cap-1)]).run prog w=.ok (σ (μ ⟨g,0,ν⟩) k cap) a/\dp a c (σ (μ ⟨g,0,ν⟩) k cap) (l.drop 1)/\γ w a (μ g)/\k+1<=cap/\l.length=k+1:=by
 obtain⟨i,E,⟨h0,-⟩|⟨m,n,f,e1,e2,h,F,p,q,s⟩⟩:=ho;cases h0;have hl:l.length=k+1:=by have:=(jy e1).2.1;omega
 obtain⟨t,-,v⟩:=jy e1;obtain rfl:g=m:=by cases t;rfl
 obtain rfl:cap=n:=v;obtain⟨x,hi,G,y,H⟩:=lU uJ;have z:∀j u,(cF l)[j]?=μ u->κ w ⟨g,j,ν⟩=μ u:=λj u b=>by
  have A:j<l.length*2:=by have:=(lA.1 b).1;rwa[rN]at this
  rw[aZ h];have:f.toList[j]?=(cF l)[j]? :=by rw[<-s,jK,aG A]
  rw[qF]at this;rw[this];exact b
 have B:w.ownsRow c 341 2 (σ (μ ⟨g,0,ν⟩) 0 cap) 0 []:=⟨by simp,ψ ⟨g,cap,f,rfl,e2,h,by omega,p,q,by simp⟩⟩
 obtain⟨a,d,e,C⟩:=run_append_fits (P:=prog) w c 227 ty 341 x 2 underlying227 hi y g 0 cap [] B ⟨g,2,ν⟩ k (cap-1) (cF (l.drop 1)) (by rw[rN,dO];omega) (by
  intro j u b;rw[Addr.add_mid];rw[Ny l (by omega),lC]at b;exact z (2+j) u b) (λu D=>xi _ u D) (by omega)
 rw[ep]at d e;rw[jL]at e;refine⟨a,d,⟨λr d=>i r (iH d),?_⟩,C,by omega,hl⟩
 rw[dO,hl];exact e
def NA{c:Array Oper}{K:Act->ω->Prop}{E:Prop}(d:U.guard=ν)(s x:Operand)
 (ho:U.op=.call {callee:=.builtin .append,args:= #[s,x],argTypes:= #[227,227]}) (b g k cap:Nat) (l:List Rg) (hs:H.eval s=σ (μ ⟨g,0,ν⟩) 0 cap) (e:H.eval x=σ (μ ⟨g,2,ν⟩) k (cap-1)) (f:dp w b (σ (μ ⟨g,0,ν⟩) (k+1) cap) l)
 (h:∀a,dp a b (σ (μ ⟨g,0,ν⟩) k cap) (l.drop 1)->γ w a (μ g)->K (H.put U.dst (σ (μ ⟨g,0,ν⟩) k cap)) a):if Region.wanted U (yielded c H.tmps)=ρ then Oper.wp prog U H w K u else E:=by
 have i:Region.wanted U (yielded c H.tmps)=ρ:=by simp[Region.wanted,d]
 rw[aG i];obtain⟨a,j,m,n,-⟩:=Nz (w:=w) U.type b g k cap l f;unfold Oper.wp execOp;simp only[ho,resolve,invoke,builtin,ka,mX,jh,oF,kM,nI,hs,e,j]
 exact h a m n
def NC(o1:dp W n (σ (μ ⟨i,0,ν⟩) k j) Y)(u:k+1<=j):∃b,(Builtin.clear_ #[227] 0 #[σ (μ ⟨i,k*2,ν⟩) 1 (j-k)]).run prog W=.ok (τ #[]) b/\dp b n (σ (μ ⟨i,0,ν⟩) k j) Y/\γ W b (μ i):=by
 obtain⟨e,f,⟨h0,-⟩|⟨g,h,a,e1,e2,c,l,m,v,d⟩⟩:=o1;cases h0;obtain⟨p,q,r⟩:=jy e1;obtain rfl:i=g:=by cases p;rfl
 obtain rfl:j=h:=r;obtain⟨s,x,t⟩:=Cs (w:=W) 0 227 341 _ 2 (by omega) underlying227 Nx (by rfl) (by simp[Value.cells];rfl) i (k*2) 1 (j-k) a _ c (by omega) (by omega);refine⟨_,t,⟨e,f,ψ ⟨i,j,_,e1,e2,setRow_heap W i _ _ _ _ c,l,m,?_,?_⟩⟩,wR _ _ _⟩
 simp only[uk,bF,ct,dO,qG];omega;rw[<-q]at d⊢;rw[<-d,fm];show(a.toList.take (k*2)++(s++a.toList.drop (k*2+1*2))).take (k*2)=a.toList.take (k*2);rw[wj (by rw[ct,qG];omega),List.take_take,Nat.min_self]
def ND(w:ω)(a g k cap:Nat)(l:List Rg)(ho:dp w a (σ (μ ⟨g,0,ν⟩) (k+1) cap) l)(p:0<k)(i:cap<=maxLen):
 Calls prog 216 #[σ (μ ⟨g,0,ν⟩) (k+1) cap,ι δ 0,ι δ 1] w λe c=>e=ξ (σ (μ ⟨g,0,ν⟩) k cap)/\dp c a (σ (μ ⟨g,0,ν⟩) k cap) (l.drop 1)/\γ w c (μ g):=by
 unfold maxLen at i;have j:=J (ho.au (aY (aD w ν)));have m:k+1<=cap:=(ho.nN.1).2.2.1;clear ho;have q:¬cap=1:=by omega
 have r:¬cap=k:=by omega
 have s:(1:Int)<=cap:=by omega
 have t:(k:Int)<=cap:=by omega
 have u:(k:Int)+1<=(cap:Int):=by omega
 have v:(1:Int)<=k+1:=by omega
 go_enter func216,ntmps216;go_wp2_with fail;go_region_law ((refine NA (by rfl) _ _ (by rfl) a g k cap l (by rfl) (by rfl) (Z j) ?_;intro x o1 b;replace o1:=J o1;replace b:=J b));obtain⟨d,y,f,h⟩:=NC (Z o1) m;have n:Hid (dp d a (σ (μ ⟨g,0,ν⟩) k cap) (l.drop 1)/\γ w d (μ g)):=J ⟨f,aq (aq (aY (aD _ _)) (Z b)) h⟩;clear f h;go_wp2;go_ret;exact⟨rfl,Z n⟩
def eJ(l:List Rg)(floor n:Int):List Rg×Int:=
 if 8<(cD l ⟨n,n+1⟩).length then((cD l ⟨n,n+1⟩).drop 1,(ao (cD l ⟨n,n+1⟩) 0).hi)else(cD l ⟨n,n+1⟩,floor)
def NF(w:ω)(sb no:Nat)(cs:Array υ)(t:TypeId)(a:Option Addr)(k cap:Nat)(l:List Rg)(floor n:Int)(x:w.heap[sb]?=μ (ο cs t (0,0)))(c0:cs[no]?=μ (σ a k cap))(c1:cs[no+1]?=μ (ι η floor))(hs:bq w a k cap l)(a3:∀y,a=μ y->y.block≠sb)(Y:aU l)(bt:l.length<=8)(a4:¬Sm l n)(hn:0<=n/\n<=4611686018427387903):
 Calls prog 164 #[π (μ ⟨sb,no,ν⟩),ι η n] w λe b=>e=ξ (τ #[])/\∃r s u,b.heap[sb]?=μ (ο ((cs.setIfInBounds no (σ r s u)).setIfInBounds (no+1) (ι η (eJ l floor n).2)) t (0,0))/\dp b w.heap.size (σ r s u) (eJ l floor n).1/\γ w b (μ sb):=by
 obtain⟨R,L⟩:=exq (λb:ω=>∃r s u,b.heap[sb]?=μ (ο ((cs.setIfInBounds no (σ r s u)).setIfInBounds (no+1) (ι η (eJ l floor n).2)) t (0,0))/\dp b w.heap.size (σ r s u) (eJ l floor n).1/\γ w b (μ sb));have al:(λ(e:Ending) b=>e=ξ (τ #[])/\∃r s u,b.heap[sb]?=μ (ο ((cs.setIfInBounds no (σ r s u)).setIfInBounds (no+1) (ι η (eJ l floor n).2)) t (0,0))/\dp b w.heap.size (σ r s u) (eJ l floor n).1/\γ w b (μ sb))=λe b=>e=ξ (τ #[])/\R b:=by rw[L]
 rw[al];clear al;have bx:sb<w.heap.size:=(bg.1 x).1;have hk:k=l.length:=hs.2.1;have a8:(⟨n,n+1⟩:Rg).ok:=by constructor<;>simp only[aW]<;>omega
 have M:=J (λW=>Ep W n hn);have D:=J (λW(g:γ w W ν)=>BW W sb no cs t a k cap l ⟨n,n+1⟩ (bE x g) c0 (hs.au g) a3 Y a8 (by omega));simp only at D;have gr:γ w w.drew ν:=aY (aD _ _);have N:=ia c0;have bz:=ia c1;go_enter func164,ntmps164;go_upto_region 0 with fail;go_region_held3 (λ_=>True) (trivial)
  (first
    |(go_at_call 212;apply(Z M w.drew).mono;rintro e w5⟨rfl,g5⟩;have E:γ w w5 ν:=aq gr g5)
    |(go_at_call 215;apply(Z D w5 E).mono;rintro e v⟨rfl,a6,f,c6,c,F,z,O,P,G⟩;replace F:=J F;replace z:=J z;replace O:=J O;replace P:=J P;replace G:=J G))
 have ax:c=cD l ⟨n,n+1⟩:=xu Y (Z P) (Z G).2;have aC:c≠l:=λe=>a4 ((e▸((Z G).2 n)).2 (ψ (by omega)))
 have H:dp v w.heap.size (σ a6 f c6) c:=by
  obtain h|h:=Z O
  exact absurd h.2.2.2 aC;obtain⟨Q,I,S⟩:=h;refine⟨Q,I,?_⟩
  obtain S|⟨g,cp,a0,e1,e2,e3⟩:=S
  exact φ S;exact ψ ⟨g,cp,a0,e1,bK E.size e2,e3⟩
 have p:=(Z F).2 _ _ (bE x E);have g6:γ w v (μ sb):=aq (dy E _) (Z F).1;have K:f=c.length:=(Z z).2.1;have bM:=(Z z).2.2.1;have a1:=(Z z).2.2.2.1;have k0:κ v ⟨sb,no,ν⟩=μ (σ a6 f c6):=by rw[aZ p];exact cJ N
 have a2:Hid (eJ l floor n=if 8<c.length then(c.drop 1,(ao c 0).hi)else(c,floor)):=J (by unfold eJ;rw[<-ax]);clear ax aC;by_cases h8:8<f
 ·have d8:decide ((8:Int)<f)=ρ:=dT_;have d:=Z a2;rw[iP_]at d;obtain⟨g,rfl⟩:∃g,a6=μ ⟨g,0,ν⟩:=by
   obtain⟨-,-,⟨h0,-⟩|⟨g,cp,a0,e1,-⟩⟩:=H;cases h0;omega;cases e1;exact⟨g,rfl⟩
  have b0:w.heap.size<=g:=(H.lt g rfl).1;obtain⟨-,y1⟩:=(Z z).cell 0 (by omega);rw[oH,px]at y1;obtain⟨fl,T⟩:=exq ((ao c 0).hi);rw[<-T]at y1 d;obtain⟨m,rfl⟩:∃m,f=m+1:=⟨f-1,by omega⟩
  obtain⟨A,C⟩:=exq (ζ v ⟨sb,no+1,ν⟩ (ι η fl));have B:A.heap[sb]?=μ (ο ((cs.setIfInBounds no (σ (μ ⟨g,0,ν⟩) (m+1) c6)).setIfInBounds (no+1) (ι η fl)) t (0,0)):=by rw[C];exact heap_set p _
  have g7:γ v A (μ sb):=by rw[C];exact aM (aD _ _) _ _ (ψ rfl)
  have a9:(Value.slice (μ ⟨g,0,ν⟩) (m+1) c6).ownBlock≠μ sb:=λe=>by have h:g=sb:=aQ e;omega
  have bb:=H.gb g7 (ψ a9);have hD:=J (ND A w.heap.size g m c6 c bb (by omega) a1);have q0:κ A ⟨sb,no,ν⟩=μ (σ (μ ⟨g,0,ν⟩) (m+1) c6):=by rw[aZ B,aN_];exact cJ N
  have k1:κ v ⟨sb,no+1,ν⟩=μ (ι η floor):=by rw[aZ p,aN_];exact c1
  have f1:χ v ⟨sb,no+1,ν⟩=θ:=fZ_ p;have U:Hid (∀q,dp q w.heap.size (σ (μ ⟨g,0,ν⟩) m c6) (c.drop 1)->γ A q (μ g)->R (ζ q ⟨sb,no,ν⟩ (σ (μ ⟨g,0,ν⟩) m c6))/\κ q ⟨sb,no,ν⟩=μ (σ (μ ⟨g,0,ν⟩) (m+1) c6)/\χ q ⟨sb,no,ν⟩=θ):=J (λq Q I=>by
   have bj:sb<A.heap.size:=(bg.1 B).1;have V:=(I.block sb bj (λe=>by have:=aQ e;omega)).trans B;have gs:=aM (aD q (μ sb)) ⟨sb,no,ν⟩ (σ (μ ⟨g,0,ν⟩) m c6) (ψ rfl);refine⟨?_,by rw[aZ V,<-aZ B];exact q0,by simp[World.frozen?,V]⟩
   rw[L,d];refine⟨μ ⟨g,0,ν⟩,m,c6,?_,Q.gb gs (ψ (λe=>by have h:g=sb:=aQ e;omega)),?_⟩
   rw[heap_set V];congr 2;apply Array.ext_getElem?;intro i;by_cases hi:i=no;subst hi;rw[cJ (by simp;omega),aN_,cJ N];by_cases br:i=no+1;subst br;rw[aN_,cJ (by simp;omega),cJ (by simp;omega)];rw[aN_,aN_,aN_,aN_,aN_]
   ·exact aq (cT (aq g6 g7) I (λj e=>φ (by have:=aQ e;omega))) gs)
  have i0:(0:Int)<((m+1:Nat):Int):=by omega
  unfold maxLen at a1;clear D M;replace⟨p,B,K,T,d,C,x⟩:=iU p B K T d C x;go_upto_region 3 with fail;rw[<-Z C];go_wp2_with fail;apply(Z hD).mono;rintro e q⟨rfl,o8,g8⟩;obtain⟨X,z8,f8⟩:=Z U q o8 g8;replace X:=J X;clear o8 g8;go_wp2_with fail;exact gD (fe rfl _ _ _) rfl ⟨rfl,Z X⟩
 have d8:decide ((8:Int)<f)=θ:=dF_;have d:=Z a2;rw[iN_]at d;have U:Hid (R v):=J (by
  rw[L,d];refine⟨a6,f,c6,?_,H,g6⟩
  rw[p];congr 2;exact(uP (by rw[aN_];exact c1)).symm)
 replace⟨K,d,p,x⟩:=fE K d p x;clear D M;go_wp2_with fail;exact gD (fe rfl _ _ _) rfl ⟨rfl,Z U⟩
