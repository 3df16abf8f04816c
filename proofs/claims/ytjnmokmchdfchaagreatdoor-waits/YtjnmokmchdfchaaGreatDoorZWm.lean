import Derived.Deep.CutBlock
import Derived.Deep.Upon
import Derived.RegionDies
import Derived.Test.YtjnmokmchdfchaaGreatDoorZWc
import Derived.Test.YtjnmokmchdfchaaGreatDoorZWk
set_option maxRecDepth 1000000
set_option maxHeartbeats 0
set_option linter.all false
namespace Go.Proofs.YtjnmokmchdfchaaGreatDoor
open Go.RowKit Tryz
attribute[local go_sem↓]Go.wp_at_zero Go.wp_at_succ
variable{f:Act}{A:Addr}{F:Array Oper}{c:Array Value}{G:Exit->Act->World->Prop}{H:Fr}{L:List Int}{Y:List Rg}{b i j k l m n o:Nat}{I:Oper}{a:Option Addr}{N:Option Nat}{u:Prop}{T:TypeId}{x y z:Value}{V W v w:World}
theorem oU{x:Int×Nat}(h:cK L n=some x):n<x.2:=by
 unfold cK at h;split at h;cases h;have:=su (L.getD n 0);simp only;omega;cases h
theorem Cg{l:List Int}:∀(k p:Nat)(lo:Int)(a rs:List Rg)(q:Nat),jo l k p lo a=some (rs,q)->p<=q
 |0,p,lo,a,rs,q,h=>by
  simp only[jo,kM,qi]at h;omega
 |k+1,p,lo,a,rs,q,h=>by
  simp only[jo]at h;cases b:cK l p with
  |none=>rw[b]at h;cases h
  |some x=>
   rw[b]at h;simp only[eB]at h;have m1:=oU b;cases c:cK l x.2 with
   |none=>rw[c]at h;cases h
   |some y=>
    rw[c]at h;simp only[eB]at h;have d:=oU c;split at h;have:=Cg k _ _ _ _ _ h;omega;cases h
theorem J9{x:List Rg×Nat}(h:jq L n=some x):n<=x.2:=by
 unfold jq at h;cases a:cK L n with
 |none=>rw[a]at h;cases h
 |some d=>
  rw[a]at h;simp only[eB]at h;have m1:=oU a;cases b:cK L d.2 with
  |none=>rw[b]at h;cases h
  |some y=>
   rw[b]at h;simp only[eB]at h;have e:=oU b;cases c:cK L y.2 with
   |none=>rw[c]at h;cases h
   |some z=>
    rw[c]at h;simp only[eB]at h;have f:=oU c;split at h;have:=Cg _ _ _ _ x.1 x.2 h;omega;cases h
theorem Ka{x:Int×Nat}(h:jx L n=some x):n<=x.2:=by
 unfold jx at h;cases a:cK L n with
 |none=>rw[a]at h;cases h
 |some y=>
  rw[a]at h;simp only[eB]at h;have:=oU a;split at h;cases h;omega;cases h
theorem Kb{x:ByteArray×Nat}(h:mN L n=some x):n<=x.2:=by
 unfold mN at h;cases a:cK L n with
 |none=>rw[a]at h;cases h
 |some y=>
  rw[a]at h;simp only[eB]at h;have:=oU a;split at h;cases h;simp only;omega;cases h
theorem bind_mono{α:Type}{o:Option (α×Nat)}{g:α×Nat->Fr}(ho:∀x,o=some x->n<=x.2)(h:(o.bind λx=>some (g x,x.2))=some (H,k)):n<=k:=by
 cases o with
 |none=>cases h
 |some x=>simp only[eB,kM,qi]at h;have:=ho x rfl;omega
theorem Kc(i:j<7):∀s∈dI L j,∀(f:Fr)(p:Nat)(a:Fr)(q:Nat),s f p=some (a,q)->p<=q:=by
 have c:∀(f:Fr)(p:Nat)(a:Fr)(q:Nat),lH L f p=some (a,q)->p<=q:=λf p a q h=>bind_mono (λx b=>Nat.le_of_lt (oU b)) h
 have e:∀(f:Fr)(p:Nat)(a:Fr)(q:Nat),mz L f p=some (a,q)->p<=q:=λf p a q h=>bind_mono (λx b=>Nat.le_of_lt (oU b)) h
 have d:∀(f:Fr)(p:Nat)(a:Fr)(q:Nat),lI L f p=some (a,q)->p<=q:=λf p a q h=>bind_mono (λx b=>Ka b) h
 have g:∀(f:Fr)(p:Nat)(a:Fr)(q:Nat),mC L f p=some (a,q)->p<=q:=λf p a q h=>bind_mono (λx b=>Kb b) h
 have k:∀(f:Fr)(p:Nat)(a:Fr)(q:Nat),oT L f p=some (a,q)->p<=q:=λf p a q h=>bind_mono (λx b=>J9 b) h
 intro s hs;obtain rfl|rfl|rfl|rfl|rfl|rfl|rfl:=pP i<;>simp[dI]at hs
 subst hs;exact k;obtain rfl|rfl|rfl:=hs
 exact d;exact e;exact c;obtain rfl|rfl|rfl:=hs
 exact d;exact c;exact g;obtain rfl|rfl|rfl:=hs
 exact d;exact c;exact g;subst hs;exact e
def FA(w:World)(X:Nat)(sl:Value)(p len:Nat)(r:Option (Fr×Nat))(e:Ending)(a:World):Prop:=
 w.grownBy a (some X)/\((∃f q b,r=some (f,q)/\e=.returned (.agg (bF f b))/\cV a f b/\(b=.slice none 0 0\/∃x n c,b=.slice (some x) n c/\w.heap.size<=x.block)/\cI a X sl q p/\p<q/\q<=len)\/(r=none/\e=PN/\∃d,cI a X sl d p))
theorem cV.set{w:World}(h:cV w H (.slice a n k))(i:Nat)(v:Value)(c:∀x,a=some x->x.block≠j):cV (w.setCell ⟨j,i,none⟩ v) H (.slice a n k):=by
 obtain⟨d,f,ra,cap,b,g⟩:=h;refine⟨d,f,ra,cap,b,?_⟩
 cases b;obtain⟨l,m,k3,k4,k5⟩:=g;refine⟨l,m,k3,k4,?_⟩
 obtain k5|⟨p,q,rfl,k5⟩:=k5
 exact .inl k5;exact .inr ⟨p,q,rfl,tZ k5 _ _ (λe=>c _ rfl e.symm)⟩
theorem Ch(w:World)(X T B D E F G Bo Bc a o n cap:Nat)(l:List Int)(p st:Nat)(hT:jr w T B D E F G Bo Bc)(hX:cI w X (.slice (some ⟨a,o,none⟩) n cap) p st)(aa:bh w (some ⟨a,o,none⟩) n cap l)(xb:a≠X)(hp:p<l.length)(hl:l.length<=100000000):
 Calls prog 190 #[.pointer (some ⟨X,0,none⟩),.slice (some ⟨T,0,none⟩) 7 7] w (FA w X (.slice (some ⟨a,o,none⟩) n cap) p l.length (ml l p)):=by
 have eL:=hX.lt;have h8:=aa.1;obtain⟨x0,V,x2,xf⟩:=sL hX;have bM:=hT.ne x0;have fv:a<w.heap.size:=by
  obtain⟨b1,o1,e1,h1⟩:=sM aa (by have:=aa.2.1;omega);cases e1;exact dN w _ (h1 0 (by have:=aa.2.1;omega))
 go_enter func190,ntmps190;go_wp2_with fail;obtain⟨W1,M⟩:∃W,W=(w.setCell ⟨X,2,none⟩ (.int .i64 (p:Int))).alloc (.cells #[.int .i64 0,.int .i64 0,.int .u64 0,.int .u64 0,.bool false,.string {data:= #[]},.slice none 0 0] 158):=⟨_,rfl⟩
 have de:cI W1 X (.slice (some ⟨a,o,none⟩) n cap) p p:=by
  rw[M];unfold cI at hX⊢;rw[eI _ _ _ (by simpa [World.setCell]using eL),heap_set hX];rfl
 have g1:w.grownBy W1 (some X):=by rw[M];exact aS (aD (av _ _) _ _ (.inr rfl)) _
 have dg:W1.heap[w.heap.size]?=some (.cells #[.int .i64 0,.int .i64 0,.int .u64 0,.int .u64 0,.bool false,.string {data:= #[]},.slice none 0 0] 158 (0,0)):=by
  have:=aH (w.setCell ⟨X,2,none⟩ (.int .i64 (p:Int))) (.cells #[.int .i64 0,.int .i64 0,.int .u64 0,.int .u64 0,.bool false,.string {data:= #[]},.slice none 0 0] 158);rw[M];simpa [World.setCell]using this
 have fy:W1.heap.size=w.heap.size+1:=by rw[M];simp[World.setCell]
 have bb:∀W,w.grownBy W (some X)->bh W (some ⟨a,o,none⟩) n cap l:=λW g=>aa.gb g (λj e=>.inr (.inr (λx H=>by cases H;cases e;exact xb)))
 rw[<-M];replace M:=J M;clear x0 V x2 xf hX;refine(uL X a o n cap l p p 1 1 rfl W1 de (bb W1 g1) xb (by omega) hl (by omega)).mono ?_;rintro e w2⟨g2,⟨hs,rfl,bP⟩|⟨hs,a2,c2,rfl,bS,bP⟩⟩;omega;obtain⟨b2,o2,rfl,dk⟩:=sM bS (by omega);have V:=dk 0 (by omega);rw[xm _ _ _ _ (by omega),lO,lO]at V;obtain⟨t,ht⟩:=exq (l.getD p 0);rw[<-ht]at V;have a4:ml l p=(eR l t (p+1)).bind λx=>by classical exact if dm x.1 then some x else none:=by rw[ht];rfl
 replace ht:=J ht;replace a4:=J a4;replace bS:=J bS;have b0:=aj g1 g2;have dn:=hT.gx (Gx.of (Y:=X) b0 (λk e=>.inl (aJ e).symm)) bM bM;clear dk;go_wp2_with fail;refine(J1 w2 T B D E F G Bo Bc dn t).mono ?_;rintro e w3⟨⟨j,hj,bj,rfl⟩|⟨ds,rfl⟩,N⟩;rotate_left
 ·have O:ml l p=none:=by rw[Z a4,J3 l (p+1) ds];rfl
  replace O:=J O;have eV:=J (bP.gb N (by simp));clear ds V;go_wp2_with (go_at_call 188;refine(rC X _).mono ?_;rintro e w'⟨rfl,rfl⟩);exact⟨rfl,cA b0 (aS N _) (λk e=>by cases e),.inr ⟨Z O,rfl,_,(Z eV).gb (aC _ _ none) (by simp)⟩⟩
 have a8:=J2 l B D E F G (p+1) hj;rw[bj]at a8;have br:=λ(W:World)(e3:jr W T B D E F G Bo Bc)(Y:Nat)(hY:T≠Y/\B≠Y/\D≠Y/\E≠Y/\F≠Y/\G≠Y/\Bo≠Y/\Bc≠Y)(e4:Y<W.heap.size)=>J8 e3 X Y a o n cap l p bM hY e4 hj
 have du:1<=(bn (bO B D E F G) j).k/\(bn (bO B D E F G) j).k<=6:=by
  obtain rfl|rfl|rfl|rfl|rfl|rfl|rfl:=pP hj<;>simp[bn,bO]
 have dx:=dn.ah N;have b3:=Kc (L:=l) hj;have b4:=λ(i:Nat)(hi:i<(dI l j).length)(f f':Fr)(p q:Nat)=>J4 (L:=l) (H:=f) (b:=f') (n:=p) (k:=q) hj hi
 have b5:j=2->(dI l j).length=1:=λe=>by rw[e];rfl
 generalize bn (bO B D E F G) j=S at *;obtain⟨K,FN,TT,PA,b⟩:=S;simp only at a8 br du bj;obtain⟨Y,al⟩:=exq (w3.heap.size+1);have e5:=dx.lt (Y:=Y) (by omega);obtain⟨Q,ax⟩:∃W,W=(w3.alloc (.cells #[.int .i64 K,.bool FN,.int .u8 TT,.slice PA b b] 317)).alloc (.cells #[.int .i64 K,.int .i64 0,.int .u64 0,.int .u64 0,.bool FN,.string {data:= #[]},.slice none 0 0] 158):=⟨_,rfl⟩
 have g5:w3.grownBy Q none:=by rw[ax];exact aS (aC _ _ _) _
 have fA:Q.heap.size=w3.heap.size+2:=by rw[ax];simp
 have b6:Q.heap[Y]?=some (.cells (bF (bX K FN) (.slice none 0 0)) 158 (0,0)):=by
  rw[ax,al,<-dC w3 (.cells #[.int .i64 K,.bool FN,.int .u8 TT,.slice PA b b] 317)];exact aH _ _
 have e6:=dx.ah g5;obtain⟨m,ga,b7⟩:=br Q e6 Y e5 (by omega);have dE:w.grownBy Q (some X):=cA b0 (aj N g5) (λk e=>by cases e);have b8:=bP.gb (aj N g5) (by simp);have ca:Q.heap[w.heap.size]?=some (.cells #[.int .i64 0,.int .i64 0,.int .u64 0,.int .u64 0,.bool false,.string {data:= #[]},.slice none 0 0] 158 (0,0)):=by
  have e1:=(cA g2 (aj N g5) (λk e=>by cases e)).block w.heap.size (by omega) (λe=>by have:=aJ e;omega);exact e1.trans dg
 have gd:=N.size;have gf:=g2.size;replace br:=J br;replace b6:=J b6;replace ca:=J ca;replace a8:=J a8;replace b7:=J b7;replace b3:=J b3;replace b4:=J b4;replace b5:=J b5;replace b8:=J b8;replace bb:=J bb;clear V dg de;have gg:b<=3:=by omega
 replace bj:=J bj;replace m:=J m;replace al:=J al;go_wp2_with fail;rw[<-ax];simp only[<-Z al]
 replace ax:=J ax;have dG:=J uK;have ee:w.heap.size<=Y:=by have:=Z al;omega
 go_loopw [38] (λi wr=>∃(k q:Nat)(f:Fr)(I:Value),k<=b/\i=.int .i64 (k:Int)/\eR l t (p+1)=pV ((dI l j).drop k) f q/\cI wr X (.slice (some ⟨a,o,none⟩) n cap) q p/\wr.heap[Y]?=some (.cells (bF f I) 158 (0,0))/\cV wr f I/\(I=.slice none 0 0\/∃x n c,I=.slice (some x) n c/\w.heap.size<x.block)/\(k<b->f.ranges=[]/\I=.slice none 0 0)/\Gx Q wr X Y/\p+1<=q/\q<=l.length/\f.kind=K) (λi _=>b-(intOf i).toNat);case atStart=>exact⟨0,p+1,bX K FN,_,by omega,rfl,Z a8,Z b8,Z b6,cV.nil _ _ ⟨⟨by simp[bX];omega,by simp[bX];omega⟩,⟨by simp[bX],by simp[bX]⟩,⟨by simp[bX],by simp[bX]⟩,⟨by simp[bX],by simp[bX]⟩,λr hr=>by simp[bX]at hr⟩ rfl (by simp[bX]),.inl rfl,λ_=>⟨rfl,rfl⟩,Gx.refl _ _ _,by omega,by omega,rfl⟩
 case round=>
  obtain⟨k,q,f,I,hk,rfl,z,eg,u,L,cf,cg,gk,gh,ei,a0⟩:=hrel;have ch:w.grownBy wr (some X):=((Gx.of (Y:=Y) dE (λk e=>.inl (aJ e).symm)).trans gk).gb ee;by_cases e7:k<b
  ·obtain⟨cj,rfl⟩:=cg e7;obtain h0|⟨P,e8,ej,ek,eo⟩:=Z b7
   have:=Z m;omega;obtain⟨wf,wc,rd,y1,y2,R,ep,rfl,hE,ew⟩:=eo k (by have:=Z m;omega);subst e8;replace y1:=gk.cell y1 ej ek;replace y2:=gk.cell y2 ej ek;have a9:=aC wr (.cells #[.func (.func wf) #[] wc,.func (.func R) #[] ep] 356) none;have e9:Y<wr.heap.size:=(aO.1 u).1;have cp:RC (wr.alloc (.cells #[.func (.func wf) #[] wc,.func (.func R) #[] ep] 356)) X Y a o n cap l q p f:=
    ⟨eg.gb a9 (by simp),(eI _ _ _ e9).trans u,Z bb _ (cA ch a9 (λk e=>by cases e)),xb,by omega,by omega,ei,hl,L.1,cj,L.2.1⟩
   have hC:=ew _ q f (gk.trans (Gx.of a9 (λk e=>by cases e))) cp;have fa:(dI l j)[k]'(by have:=Z m;omega)∈dI l j:=nt _;have cv:(dI l j).drop k=(dI l j)[k]'(by have:=Z m;omega)::(dI l j).drop (k+1):=yE _;rw[cv]at z;have cw:=Z b3 _ fa f q;have cx:=Z b4 k (by have:=Z m;omega) f;generalize (dI l j)[k]'(by have:=Z m;omega)=s at *;have i1:(0:Int)<=(k:Int):=by omega
   have i2:(k:Int)<(b:Int):=by omega
   have gi:=J gk.size;replace z:=J z;replace u:=J u;replace L:=J L;replace hC:=J hC;replace cp:=J cp;replace cw:=J cw;replace cx:=J cx;replace a0:=J a0;replace cj:=J cj;replace cv:=J cv;clear eo cg ew;go_wp2_with fail;refine(Z hC).mono ?_;rintro e w6⟨g6,⟨f',q',fb,hs,rfl,cy,fc,⟨ff,ey⟩,fo⟩|⟨hs,rfl,cy⟩⟩
   ·replace hs:=J hs;go_wp2_with fail;go_roundw;case rel=>
     refine⟨k+1,q',f',fb,by omega,by simp,?_,cy,fc,ff,?_,?_,(gk.trans (Gx.of a9 (λk e=>by cases e))).trans g6,?_,fo,?_⟩
     rw[Z z];simp only[pV,Z hs,eB]
     obtain⟨-,h⟩|⟨-,x,n,c,h,H⟩:=ey
     exact .inl h;exact .inr ⟨x,n,c,h,by have:=ch.size;simp at H;omega⟩;intro gj;obtain h|⟨h,-⟩:=ey
     exact h;have:=Z b5 (by simpa using h);have:=Z m;omega;have:=Z cw f' q' (Z hs);omega;rw[Z cx f' q q' (Z hs)];exact Z a0
    case measure=>simp[intOf];omega
   refine⟨rfl,?_,.inr ⟨?_,rfl,cy⟩⟩
   exact(((Gx.of (Y:=Y) dE (λk e=>.inl (aJ e).symm)).trans (gk.trans (Gx.of a9 (λk e=>by cases e)))).trans g6).gb ee;rw[Z a4,Z z];simp only[pV,hs];rfl
  obtain rfl:k=b:=by omega
  rw[qf (by have:=Z m;omega)]at z;have a1:=Z a4;rw[z]at a1;simp only[pV,eB]at a1;have bt:=zm f I wr L;obtain⟨A,NN,C,rfl⟩:∃A NN C,I=.slice A NN C:=by
   obtain h|⟨x,n,c,h,-⟩:=cf
   exact⟨_,_,_,h⟩
   exact⟨_,_,_,h⟩
  have bx:wr.heap[w.heap.size]?=some (.cells #[.int .i64 0,.int .i64 0,.int .u64 0,.int .u64 0,.bool false,.string {data:= #[]},.slice none 0 0] 158 (0,0)):=(gk.block w.heap.size (by omega) (by omega) (by have:=Z al;omega)).trans (Z ca);have bz:dm f↔oC f/\pJ f:=⟨λh=>⟨h.1,h.2.1⟩,λh=>⟨h.1,h.2,by rw[a0];exact du⟩⟩
  have fq:Y<wr.heap.size:=(aO.1 u).1;have fs:w.heap.size<wr.heap.size:=(aO.1 bx).1;obtain⟨kd,sm,of,cd,fin,d,rg⟩:=f;simp only[bF]at u bt;replace z:=J z;replace a1:=J a1;replace bt:=J bt;replace bx:=J bx;replace bz:=J bz;replace u:=J u;replace L:=J L;replace a0:=J a0;clear cg;go_wp2_with (refine oj (by rfl) 158 _ (by rfl) Y (by rfl) 158 _ (0,0) _ (Z u) underlying158 (by rfl) (Z dG) ?_);refine(Z bt).mono ?_;rintro e w7⟨⟨bo,rfl,a3⟩,g7⟩;have ez:=eg.gb g7 (by simp);have eK:w.grownBy w7 (some X):=cA ch g7 (λk e=>by cases e);cases bo
  ·have O:ml l p=none:=by
    rw[Z a1];exact ay (λh=>by have:=a3.2 ((Z bz).1 h);cases this)
   replace O:=J O;replace a3:=J a3;go_wp2_with (go_at_call 188;refine(rC X _).mono ?_;rintro e w'⟨rfl,rfl⟩);exact⟨rfl,eK,.inr ⟨Z O,rfl,q,ez⟩⟩
  have cR:ml l p=some (⟨kd,sm,of,cd,fin,d,rg⟩,q):=by
   rw[Z a1];exact aM ((Z bz).2 (a3.1 rfl))
  have c9:=(g7.block Y fq (by simp)).trans (Z u);have bL:=(g7.block w.heap.size fs (by simp)).trans (Z bx);obtain⟨r0,r1,r2,r3,r4,r5,r6⟩:=cH bL;have rf:=rO bL;have db:=(Z L).ah g7;replace cR:=J cR;replace a3:=J a3;replace c9:=J c9;replace bL:=J bL;replace db:=J db;go_wp2_with (refine oj (by rfl) 158 _ (by rfl) Y (by rfl) 158 _ (0,0) _ (Z c9) underlying158 (by rfl) (Z dG) ?_);refine cz (v:=.agg #[.int .i64 kd,.int .i64 sm,.int .u64 of,.int .u64 cd,.bool fin,.string d,.slice A NN C]) ?_ rfl ?_
  ·simp[results,results190,go_sem,r0,r1,r2,r3,r4,r5,r6]
  have U:∀x,A=some x->x.block≠w.heap.size:=λx H=>by
   obtain h|⟨y,n,c,h,hy⟩:=cf
   cases h;cases H;cases h;cases H;omega
  exact⟨aD (aD (aD (aD (aD (aD (aD eK _ _ (.inl (aI _))) _ _ (.inl (aI _))) _ _ (.inl (aI _))) _ _ (.inl (aI _))) _ _ (.inl (aI _))) _ _ (.inl (aI _))) _ _ (.inl (aI _)),.inl ⟨_,q,_,Z cR,rfl,cV.set (cV.set (cV.set (cV.set (cV.set (cV.set (cV.set (Z db) _ _ U) _ _ U) _ _ U) _ _ U) _ _ U) _ _ U) _ _ U,cf.imp id (λ⟨x,n,c,h,H⟩=>⟨x,n,c,h,Nat.le_of_lt H⟩),cI.lY (cI.lY (cI.lY (cI.lY (cI.lY (cI.lY (cI.lY ez (by omega)) (by omega)) (by omega)) (by omega)) (by omega)) (by omega)) (by omega),by omega,ei⟩⟩
abbrev cu:=Fr×Value
def ji(l:List cu):List Value:=l.flatMap λx=>eM x.1 x.2
theorem Kd(l m:List cu):ji (l++m)=ji l++ji m:=by simp[ji]
theorem Ci(l:List cu):(ji l).length=l.length*7:=by
 induction l with
 |nil=>rfl
 |cons r l a=>simp only[ji,pC,bG,dJ,eM,fH]at *;omega
theorem xO(l:List cu)(i:Nat)(h:i<l.length)(j:Nat)(v:Value)(a:(eM l[i].1 l[i].2)[j]?=some v):(ji l)[i*7+j]?=some v:=by
 induction l generalizing i with
 |nil=>simp at h
 |cons r l b=>
  have c:j<7:=by
   have:=(iX.1 a).1;simpa [eM]using this
  cases i with
  |zero=>
   simp only[ji,pC,mK,dv]
   rw[nk (by simp[eM];omega)];exact a
  |succ i=>
   simp only[ji,pC]
   rw[kZ (by simp[eM];omega)];have e:(i+1)*7+j-(eM r.1 r.2).length=i*7+j:=by simp[eM];omega
   rw[e];exact b i (by simpa using h) (by simpa using a)
def ea(w:World)(a:Nat)(v:Value)(l:List cu):Prop:=
 w.ownsRow a 158 7 v l.length (ji l)/\∀x∈l,cV w x.1 x.2/\(x.1.ranges≠[]->∀y n c,x.2=.slice (some y) n c->a<=y.block/\v.ownBlock≠some y.block)
theorem cV.cW(h:cV w H z)(b:H.ranges≠[]->∀y n c,z=.slice (some y) n c->y.block<w.heap.size->W.heap[y.block]?=w.heap[y.block]?):cV W H z:=by
 obtain⟨d,e,ra,cap,rfl,a⟩:=h;refine⟨d,e,ra,cap,rfl,a.cW (λhl x f=>?_)⟩
 subst f;exact b hl x _ _ rfl (a.lt hl)
theorem cV.Ke(h:cV w H (.slice (some A) n k))(hl:H.ranges≠[]):A.block<w.heap.size:=by
 obtain⟨b,c,ra,cap,e,a⟩:=h;cases e;exact a.lt hl
theorem ea.lt{l:List cu}(h:ea w n x l):∀k,x.ownBlock=some k->n<=k/\k<w.heap.size:=h.1.lt
theorem ea.gb{l:List cu}(h:ea w i z l)(g:w.grownBy W N)(b:∀k,N=some k->k<i):ea W i z l:=by
 refine⟨h.1.kept g ?_,λx d=>?_⟩
 cases f:z.ownBlock with
 |none=>exact .inl rfl
 |some k=>exact .inr (λe=>by have:=b k e.symm;have:=(h.lt k f).1;omega)
 have a:=h.2 x d;refine⟨a.1.cW (λhl y n c e j=>?_),a.2⟩
 exact g.block y.block j (λe2=>by have:=b _ e2.symm;have:=(a.2 hl y n c e).1;omega)
theorem ea.nil(w:World)(a:Nat):ea w a (.slice none 0 0) []:=⟨mI _ _ _ _,λx b=>by simp at b⟩
theorem ea.Cj{l:List cu}(h:ea w k (.slice a n m) l):mr w a n m (l.map (·.1)):=by
 obtain⟨⟨u,d⟩,f⟩:=h;obtain⟨e,x⟩|⟨g,cap,cur,e,aa,p,q,hm,hs,r⟩:=d
 cases e;exact⟨by simp;omega,by simp,by simp[maxLen],.inl ⟨rfl,rfl⟩⟩
 cases e;refine⟨by simp,q,hm,.inr ⟨g,0,rfl,λi hi=>?_⟩⟩
 have c:i<l.length:=by simpa using hi
 have ef:lD (l.map (·.1)) i=l[i].1:=by rw[sJ hi];simp
 rw[ef];refine⟨l[i].2,(f _ (nt c)).1,λj v s=>?_⟩
 have b:=xO l i c j v s;have t:i*7+j<l.length*7:=by
  have:=(iX.1 b).1;rwa[Ci]at this
 rw[<-r,jO,aM t]at b;simp only[World.cell?,p,dv]
 simpa using b
theorem Kf:(prog.info? 158).map (λi=>(i.zero,i.size,i.bytes))=some (some (.agg #[.int .i64 0,.int .i64 0,.int .u64 0,.int .u64 0,.bool false,.string ByteArray.empty,.slice none 0 0]),7,80):=by kernel_rfl
theorem Ck(ty:TypeId)(a:Nat)(v:Value)(l:List cu)(t:ea w a v l)(b c:Nat)(x:cu)(D:cV w x.1 x.2)(E:x.1.ranges≠[]->∀y n c,x.2=.slice (some y) n c->a<=y.block/\v.ownBlock≠some y.block)(F:x.2.oneCell'=true)(h0:w.rangeAt b 0 (eM x.1 x.2))(S:l.length<=100000000)(G:a<=w.heap.size):
 ∃i k m d,(Builtin.append_ #[92,92] ty #[v,.slice (some ⟨b,0,none⟩) 1 c]).run prog w=.ok (.slice i k m) d/\ea d a (.slice i k m) (l++[x])/\w.grownBy d v.ownBlock/\((Value.slice i k m).ownBlock=v.ownBlock\/(Value.slice i k m).ownBlock=some w.heap.size):=by
 obtain⟨H,hi,I,K,f⟩:=kj Kf;obtain⟨L,d,A,M,p,_,q⟩:=run_append_own_at (P:=prog) w a 92 ty 158 H _ 7 80 underlying92 hi I K f rfl (by decide) v l.length (ji l) t.1 ⟨b,0,none⟩ 1 c (ji [x]) (by simp[ji,eM]) (by
  intro j u N;rw[Addr.add_mid];exact h0 j u (by simpa [ji]using N)) (by
  intro u B;simp[ji,eM]at B;obtain rfl|rfl|rfl|rfl|rfl|rfl|rfl:=B<;>first|rfl|exact F) (by simp[maxLen];omega) (by omega) G
 have r:ea d a L (l++[x]):=by
  refine⟨by rw[bG,Kd];exact M,λz O=>?_⟩
  have f:cV w z.1 z.2/\(z.1.ranges≠[]->∀y n c,z.2=.slice (some y) n c->a<=y.block/\v.ownBlock≠some y.block):=by
   obtain h|h:=ck.1 O
   exact t.2 z h;rw[dB.1 h];exact⟨D,E⟩
  refine⟨f.1.cW (λhl y n c e Q=>p.block y.block Q (λe2=>(f.2 hl y n c e).2 e2.symm)),λhl y n c e=>⟨(f.2 hl y n c e).1,?_⟩⟩
  obtain s|s:=q
  rw[s];exact(f.2 hl y n c e).2;rw[s];have C:=f.1;rw[e]at C;have:=C.Ke hl;exact λR=>by have:=aJ R;omega
 obtain⟨⟨-,⟨rfl,e2⟩|⟨g,cap,T,rfl,_⟩⟩,-⟩:=id r;exact⟨_,_,_,d,A,r,p,q⟩
 exact⟨_,_,_,d,A,r,p,q⟩
theorem vr{K:Act->World->Prop}(k:I.guard=none)(s x:Operand)
 (ho:I.op=.call {callee:=.builtin .append,args:= #[s,x],argTypes:= #[92,92]})
 (i:Nat) (v:Value) (l:List cu) (hs:f.eval s=v) (m:ea w i v l) (b c:Nat) (a:cu) (p:cV w a.1 a.2) (q:a.1.ranges≠[]->∀y n c,a.2=.slice (some y) n c->i<=y.block/\v.ownBlock≠some y.block) (r:a.2.oneCell'=true) (t:f.eval x=.slice (some ⟨b,0,none⟩) 1 c) (h0:w.rangeAt b 0 (eM a.1 a.2)) (z:l.length<=100000000) (A:i<=w.heap.size)
 (h:∀d e g j,ea j i (.slice d e g) (l++[a])->w.grownBy j v.ownBlock->((Value.slice d e g).ownBlock=v.ownBlock\/(Value.slice d e g).ownBlock=some w.heap.size)->
   K (f.put I.dst (.slice d e g)) j):if Region.wanted I (yielded F f.tmps)=true then Oper.wp prog I f w K G else u:=by
 have B:Region.wanted I (yielded F f.tmps)=true:=by simp[Region.wanted,k]
 rw[aM B];obtain⟨d,e,g,j,C,D,E,H⟩:=Ck (w:=w) I.type i v l m b c a p q r h0 z A;unfold Oper.wp execOp;simp only[ho,resolve,invoke,builtin,ie,kN,ic,lN,ki,kO,hs,t,C]
 exact h d e g j D E H
theorem j7(h:w.heap[b]?=some (.cells #[x] T (0,0))):w.cell? ⟨b,0,none⟩=some x/\w.frozen? ⟨b,0,none⟩=false:=by
 simp[World.cell?,World.frozen?,h]
theorem Kg(X a b:Nat)(st:Int)(lv ev:Value)(c:List PanicEntry)(w:World)(i:w.cell? ⟨X,2,none⟩=some (.int .i64 st))(d:w.heap[a]?=some (.cells #[lv] 92 (0,0)))(f:w.heap[b]?=some (.cells #[ev] 97 (0,0)))(m:a≠b):
 CallsD prog 187 #[.pointer (some ⟨X,0,none⟩),.pointer (some ⟨a,0,none⟩),.pointer (some ⟨b,0,none⟩)] (.panicking ({v:=.iface 34 (.int .i64 5),recovered:=false}::c)) w λe j k=>
  e=.returned (.tuple #[])/\j=.panicking ({v:=.iface 34 (.int .i64 5),recovered:=true}::c)/\k=((w.alloc (.cells #[.int .i64 5,.int .i64 st] 182)).setCell ⟨a,0,none⟩ (.slice none 0 0)).setCell ⟨b,0,none⟩ (.iface 177 (.pointer (some ⟨w.heap.size,0,none⟩))):=by
 refine callsD_of_wpS func187 rfl λn cs l=>?_
 apply wpS_seq;apply wpS_region;simp[wpOpsS,go_sem,recoverD,l,ntmps187,Exit.thenS];refine wpS_cond (t:=true) (by simp[Act.eval,Array.replicate]) ?_;simp only[fJ]
 have g:=j7 ((eI w (.cells #[.int .i64 5,.int .i64 st] 182) a (aO.1 d).1).trans d);have h:=j7 ((eI w (.cells #[.int .i64 5,.int .i64 st] 182) b (aO.1 f).1).trans f);apply wpS_region;simp[wpOpsS,go_sem,i,g.1,g.2,h.1,h.2,bodyPostS,results,results187]
theorem Kh(X a b:Nat)(w:World):
 CallsD prog 187 #[.pointer (some ⟨X,0,none⟩),.pointer (some ⟨a,0,none⟩),.pointer (some ⟨b,0,none⟩)] .returning w λe c d=>e=.returned (.tuple #[])/\c=.returning/\d=w:=by
 refine callsD_of_wpS func187 rfl λf cs g=>?_
 apply wpS_seq;apply wpS_region;simp[wpOpsS,go_sem,recoverD,g,ntmps187,Exit.thenS];refine wpS_cond (t:=false) (by simp[Act.eval,Array.replicate]) ?_;simp only[gM,gp]
 refine wpS_of_wp (wp_skip ?_);cases f;simp_all[bodyPostS,results,results187]
def pW(w:World)(l:List Int)(e:Ending)(b:World):Prop:=
 w.grownBy b none/\((∃af a n c,fU l=(some (af.map (·.1)),-1)/\e=.returned (.tuple #[.slice a n c,.nilIface])/\ea b w.heap.size (.slice a n c) af)\/
  (∃(p F:Nat),fU l=(none,(p:Int))/\e=.returned (.tuple #[.slice none 0 0,.iface 177 (.pointer (some ⟨F,0,none⟩))])/\b.heap[F]?=some (.cells #[.int .i64 5,.int .i64 (p:Int)] 182 (0,0))/\w.heap.size<=F))
theorem FA.isNone{e:Ending}(h:FA w n x k i none e W):w.grownBy W (some n)/\e=PN/\∃a,cI W n x a k:=by
 obtain⟨g,⟨f,q,j,b,-⟩|⟨-,c,d⟩⟩:=h;cases b;exact⟨g,c,d⟩
theorem FA.isSome{e:Ending}(h:FA w k y i j (some (H,l)) e W):w.grownBy W (some k)/\∃A n c,e=.returned (.agg (bF H (.slice A n c)))/\cV W H (.slice A n c)/\((Value.slice A n c)=.slice none 0 0\/∃x d f,(Value.slice A n c)=.slice (some x) d f/\w.heap.size<=x.block)/\cI W k y l i/\i<l/\l<=j:=by
 obtain⟨g,⟨u,v,m,a,p,q,b,r,s,t⟩|⟨a,-,-⟩⟩:=h;cases a;obtain⟨A,n,c,rfl⟩:∃A n c,m=.slice A n c:=by
  obtain h|⟨x,n,c,h,-⟩:=b
  exact⟨_,_,_,h⟩
  exact⟨_,_,_,h⟩
 exact⟨g,A,n,c,p,q,b,r,s,t⟩
 cases a
theorem ea.lower{l:List cu}(h:ea w k z l)(f:i<=k):ea w i z l:=by
 obtain⟨⟨j,a⟩,b⟩:=h;refine⟨⟨j,?_⟩,λx d=>⟨(b x d).1,λhl y n c e=>⟨bC f ((b x d).2 hl y n c e).1,((b x d).2 hl y n c e).2⟩⟩⟩
 obtain a|⟨g,cap,cur,e1,e2,m⟩:=a
 exact .inl a;exact .inr ⟨g,cap,cur,e1,by omega,m⟩
theorem Gx.Ki(h:Gx w W n i)(b:w.heap.size<=n)(hY:w.heap.size<=i):w.grownBy W none:=
 ⟨h.os,h.tape,h.output,h.size,λk a _=>h.block k a (by omega) (by omega)⟩
theorem Cl(w:World)(a b c:Obj)(W:World)(h:W=((w.alloc a).alloc b).alloc c):
 W.heap[w.heap.size]?=some a/\W.heap[w.heap.size+1]?=some b/\W.heap[w.heap.size+1+1]?=some c/\w.grownBy W none:=by
 subst h;refine⟨?_,?_,?_,aS (aS (aC _ _ _) _) _⟩
 all_goals
  simp only[World.alloc,Array.getElem?_push,Array.size_push]
  repeat(first|rw[aM trivial]|rw[aM (by omega)]|rw[ay (by omega)])
theorem Cm(a:Array Value)(W:World)(b c:Nat)(lv ev:Value)(d:a.getD 2 undef=.pointer (some ⟨b,0,none⟩))(e:a.getD 3 undef=.pointer (some ⟨c,0,none⟩))(f:W.cell? ⟨b,0,none⟩=some lv)(g:W.cell? ⟨c,0,none⟩=some ev):
 (results f146 a).run prog W=.ok (.tuple #[lv,ev]) W:=by
 rw[Array.getD_eq_getD_getElem?]at d e;simp[results,results146,go_sem,d,e,f,g]
theorem Cn(w0 W:World)(l:List Int)(c:Array Value)(X a b:Nat)(sl lv ev:Value)(q st:Nat)(j:cI W X sl q st)(d:W.heap[a]?=some (.cells #[lv] 92 (0,0)))(g:W.heap[b]?=some (.cells #[ev] 97 (0,0)))(h:a≠b)(i:w0.grownBy W none)(k:w0.heap.size<=a)(m:w0.heap.size<=b)(hd:fU l=(none,(st:Int)))
 (n:c.getD 2 undef=.pointer (some ⟨a,0,none⟩)) (p:c.getD 3 undef=.pointer (some ⟨b,0,none⟩)):
 Leaves prog f146 c (pW w0 l) [{target:=.fn (.func 187) #[.pointer (some ⟨X,0,none⟩),.pointer (some ⟨a,0,none⟩),.pointer (some ⟨b,0,none⟩)],args:= #[]}] (.panicking [{v:=.iface 34 (.int .i64 5),recovered:=false}]) W:=by
 refine leaves_cons (f:=187) (args:= #[.pointer (some ⟨X,0,none⟩),.pointer (some ⟨a,0,none⟩),.pointer (some ⟨b,0,none⟩)]) (by simp) (by simp[go_sem]) ?_;refine(Kg X a b st lv ev [] W (sL j).2.2.1 d g h).mono ?_;rintro e B C⟨rfl,rfl,rfl⟩;have r:=(aO.1 d).1;have s:=(aO.1 g).1;have t:=(eI W (.cells #[.int .i64 5,.int .i64 (st:Int)] 182) a r).trans d;have u:=(eI W (.cells #[.int .i64 5,.int .i64 (st:Int)] 182) b s).trans g;have w:=heap_set (o:=0) t (.slice none 0 0);have x:=(cY (W.alloc (.cells #[.int .i64 5,.int .i64 (st:Int)] 182)) ⟨a,0,none⟩ (.slice none 0 0) b (Ne.symm h)).trans u;have y:=heap_set (o:=0) x (.iface 177 (.pointer (some ⟨W.heap.size,0,none⟩)));have z:=(cY ((W.alloc (.cells #[.int .i64 5,.int .i64 (st:Int)] 182)).setCell ⟨a,0,none⟩ (.slice none 0 0)) ⟨b,0,none⟩ (.iface 177 (.pointer (some ⟨W.heap.size,0,none⟩))) a h).trans w;have A:=Cm c _ a b _ _ n p (j7 z).1 (j7 y).1;refine⟨_,A,aD (aD (aS i _) _ _ (.inl k)) _ _ (.inl m),.inr ⟨st,W.heap.size,hd,rfl,?_,i.size⟩⟩
 rw[cY _ _ _ _ (by simp;omega),cY _ _ _ _ (by simp;omega)];exact aH _ _
theorem decode_nil(w:World)(a:Option Addr)(n cap:Nat)(c:bh w a n cap []):
 Calls prog 146 #[.slice a n cap] w (pW w []):=by
 have f:=rB;have d:n=0:=c.2.1;subst d;clear c;go_enter_defers func146,ntmps146;go_wp2_with (go_at_call 188;refine(rC _ _).mono ?_;rintro e g⟨rfl,rfl⟩);have b:=Cl w (.cells #[.slice none 0 0] 92) (.cells #[.nilIface] 97) (.cells #[.slice a 0 cap,.int .i64 0,.int .i64 0] 311) _ rfl;exact Cn w _ [] _ (w.heap.size+1+1) w.heap.size (w.heap.size+1) _ _ _ 0 0 b.2.2.1 b.1 b.2.1 (by omega) b.2.2.2 (aI _) (by omega) (by simp[fU]) rfl rfl
theorem Co(w:World)(R o n cap:Nat)(l:List Int)(aa:bh w (some ⟨R,o,none⟩) n cap l)(h0:0<l.length)(hl:l.length<=100000000):
 Calls prog 146 #[.slice (some ⟨R,o,none⟩) n cap] w (pW w l):=by
 have dE:=rB;have hn:n=l.length:=aa.2.1;have e0:((n:Int)==0)=false:=by simp;omega
 have dG:R<w.heap.size:=by
  obtain⟨b1,o1,e1,h1⟩:=sM aa (by omega);cases e1;exact dN w _ (h1 0 (by omega))
 replace hn:=J hn;go_enter_defers func146,ntmps146;go_wp2_with fail;obtain⟨W3,bj⟩:=exq ((((w.alloc (.cells #[.slice none 0 0] 92)).alloc (.cells #[.nilIface] 97)).alloc (.cells #[.slice (some ⟨R,o,none⟩) n cap,.int .i64 0,.int .i64 0] 311)));obtain⟨bt,bx,a8,g3⟩:=Cl w _ _ _ _ bj;have ee:W3.heap.size=w.heap.size+3:=by rw[bj];simp
 rw[<-bj];replace bj:=J bj;obtain⟨i,cf⟩:=exq w.heap.size;obtain⟨s,cg⟩:=exq (w.heap.size+1);obtain⟨X,ch⟩:=exq (w.heap.size+1+1);simp only[<-ch]at a8⊢;simp only[<-cg]at bx⊢;simp only[<-cf]at bt⊢;have z:Hid (w.heap.size=i/\s=i+1/\X=i+2):=J (by omega);replace a8:cI W3 X (.slice (some ⟨R,o,none⟩) n cap) 0 0:=a8;clear cf cg ch;refine(At W3).mono ?_;rintro e E⟨T,P2,P3,P4,P5,P6,Bo,Bc,rfl,hT,g1⟩;have bz:=(g1.block i (by have:=Z z;omega) (by simp)).trans bt;have b4:=(g1.block s (by have:=Z z;omega) (by simp)).trans bx;have bL:=a8.gb g1 (by simp);have cj:=aj g3 g1;have eg:=g1.size;have b5:fU l=ig l (l.length+1) 0 ([]:List cu).unzip.1:=by unfold fU;rw[ay (by omega)];rfl
 have db:=hT.ne (sL bL).1;have de:=hT.ne (j7 bz).1;replace bt:=J bt;replace bx:=J bx;replace a8:=J a8;replace bz:=J bz;replace b4:=J b4;replace bL:=J bL;replace b5:=J b5;go_wp2_with fail;go_loopg [15] l.length (λgh _ wr=>∃(q st k:Nat)(af:List cu)(a:Option Addr)(m c:Nat),gh=l.length-q/\q<=l.length/\af.length<=q/\cI wr X (.slice (some ⟨R,o,none⟩) n cap) q st/\wr.heap[i]?=some (.cells #[.slice a m c] 92 (0,0))/\wr.heap[s]?=some (.cells #[.nilIface] 97 (0,0))/\ea wr E.heap.size (.slice a m c) af/\Gx E wr X i/\fU l=ig l k q (af.map (·.1))/\l.length-q<k);case atStart=>exact⟨0,0,l.length+1,[],none,0,0,by omega,by omega,by simp,Z bL,Z bz,Z b4,ea.nil _ _,Gx.refl _ _ _,Z b5,by omega⟩
 case round=>
  obtain⟨q,st,k,af,a,m,c,rfl,hq,ei,a1,N,S,a2,gr,a3,hk⟩:=hrel;obtain⟨y0,y1,y2,yf⟩:=sL a1;have b6:w.grownBy wr none:=((Gx.of (X:=X) (Y:=i) cj (λk e=>by cases e)).trans gr).Ki (by have:=Z z;omega) (by have:=Z z;omega);by_cases bM:q<l.length
  ·have dg:(q:Int)<(n:Int):=by have:=Z hn;omega
   have cp:=hT.gx gr db de;have cv:=aa.ah b6;have hF:=Ch wr X T P2 P3 P4 P5 P6 Bo Bc R o n cap l q st cp a1 cv (by have:=Z z;omega) bM hl;have a9:=Ch wr.drew X T P2 P3 P4 P5 P6 Bo Bc R o n cap l q st (cp.ah (aP (av _ _))) a1 (cv.ah (aP (av _ _))) (by have:=Z z;omega) bM hl;obtain⟨z0,zf⟩:=j7 N;obtain⟨k',rfl⟩:∃k',k=k'+1:=⟨k-1,by omega⟩
   have bP:Hid (∀(W:World)(p':Nat)(br:Array Value),wr.grownBy W (some X)->cI W X (.slice (some ⟨R,o,none⟩) n cap) p' q->ml l q=none->br.getD 2 undef=.pointer (some ⟨i,0,none⟩)->br.getD 3 undef=.pointer (some ⟨s,0,none⟩)->Leaves prog f146 br (pW w l) [{target:=.fn (.func 187) #[.pointer (some ⟨X,0,none⟩),.pointer (some ⟨i,0,none⟩),.pointer (some ⟨s,0,none⟩)],args:= #[]}] (.panicking [{v:=.iface 34 (.int .i64 5),recovered:=false}]) W):=J (λW p' br g hX hf h2 h3=>by
    refine Cn w W l br X i s _ _ _ p' q hX ((g.block i (aO.1 N).1 (λe=>by have:=aJ e;have:=Z z;omega)).trans N) ((g.block s (aO.1 S).1 (λe=>by have:=aJ e;have:=Z z;omega)).trans S) (by have:=Z z;omega) (cA b6 g (λj e=>.inl (by cases e;have:=Z z;omega))) (by have:=Z z;omega) (by have:=Z z;omega) ?_ h2 h3;rw[a3];simp only[ig]
    rw[aM bM,hf])
   have bS:Hid (∀(W p:World)(f:Fr)(t:Nat)(A:Option Addr)(u C:Nat),wr.grownBy W none->W.heap.size=wr.heap.size->W.grownBy p (some X)->cV p f (.slice A u C)->((Value.slice A u C)=.slice none 0 0\/∃x n c,(Value.slice A u C)=.slice (some x) n c/\W.heap.size<=x.block)->ea p E.heap.size (.slice a m c) af/\(f.ranges≠[]->∀y n' c',Value.slice A u C=.slice (some y) n' c'->E.heap.size<=y.block/\(Value.slice a m c).ownBlock≠some y.block)/\p.heap[i]?=some (.cells #[.slice a m c] 92 (0,0))/\p.heap[s]?=some (.cells #[.nilIface] 97 (0,0))/\E.heap.size<=p.heap.size/\Gx E p X i):=J (λW p f t A u C gW ej O hv hn=>by
    have gA:wr.grownBy p (some X):=cA (cO gW (some X)) O (λj e=>.inr rfl);have hz:=gr.size;refine⟨a2.gb gA (λj e=>by cases e;have:=Z z;omega),λek y n' c' e=>?_,(gA.block i (aO.1 N).1 (λe=>by have:=aJ e;have:=Z z;omega)).trans N,(gA.block s (aO.1 S).1 (λe=>by have:=aJ e;have:=Z z;omega)).trans S,bC hz gA.size,gr.trans (Gx.of gA (λj e=>.inl (aJ e).symm))⟩
    obtain h|⟨x,n2,c2,h,hx⟩:=hn
    rw[h]at e;cases e
    ·rw[h]at e;cases e;exact⟨by omega,λe2=>by have:=(a2.lt _ e2).2;omega⟩)
   cases ax:ml l q with
   |none=>
    rw[ax]at a9;have U:=a9.mono (λe W(h:FA _ _ _ _ _ none e W)=>h.isNone);replace ax:=J ax;replace U:=J U;replace a1:=J a1;replace N:=J N;replace S:=J S;replace a2:=J a2;replace a3:=J a3;clear hF a9 bS;go_wp2_with fail;refine wp_region_any (by kernel_rfl) ?_;try(change wpAny _ _ _ _ _ _ _ (World.drew _))
    refine iI (rs:=[0,1]) (by kernel_rfl) (by simp) ?_;refine fT rfl (λK b=>?_) (fT rfl (λK b=>?_) iH)
    ·go_simp;refine b _ _ ?_;clear b K;refine iI (rs:=[1]) (by kernel_rfl) (by simp) ?_;refine fT rfl (λK b=>?_) iH;go_simp;refine b _ _ ?_;clear b K;refine iI (rs:=[2]) (by kernel_rfl) (by simp) ?_;refine fT rfl (λK b=>?_) iH;go_simp;refine(Z U).mono ?_;rintro e p⟨O,rfl,p',G⟩;exact Z bP _ _ _ (cA (cO (aP (av _ _)) _) O (λj e=>.inr rfl)) G (Z ax) rfl rfl
    go_simp;refine b _ _ ?_;clear b K;refine iI (rs:=[0,2]) (by kernel_rfl) (by simp) ?_;refine fT rfl (λK b=>?_) (fT rfl (λK b=>?_) iH)
    ·go_simp;refine b _ _ ?_;clear b K;refine iI (rs:=[2]) (by kernel_rfl) (by simp) ?_;refine fT rfl (λK b=>?_) iH;go_simp;refine(Z U).mono ?_;rintro e p⟨O,rfl,p',G⟩;exact Z bP _ _ _ (cA (cO (aP (av _ _)) _) O (λj e=>.inr rfl)) G (Z ax) rfl rfl
    go_simp;refine(Z U).mono ?_;rintro e p⟨O,rfl,p',G⟩;exact Z bP _ _ _ (cA (cO (aP (av _ _)) _) O (λj e=>.inr rfl)) G (Z ax) rfl rfl
   |some fq=>
    obtain⟨⟨P,sm,of,cd,fin,d,rg⟩,t⟩:=fq;rw[ax]at a9;have U:=a9.mono (λe W(h:FA _ _ _ _ _ (some _) e W)=>h.isSome);simp only[bF]at U;have a0:fU l=ig l k' t (af.map (·.1)++[⟨P,sm,of,cd,fin,d,rg⟩]):=by
     rw[a3];simp only[ig]
     rw[aM bM,ax]
    have b0:Hid (∀(p F:World)(ob:Obj)(it:cu)(a7:Option Addr)(D c7 t:Nat),cI p X (.slice (some ⟨R,o,none⟩) n cap) t q->p.heap[i]?=some (.cells #[.slice a m c] 92 (0,0))->p.heap[s]?=some (.cells #[.nilIface] 97 (0,0))->Gx E p X i->ea (p.alloc ob) E.heap.size (.slice a m c) af->(p.alloc ob).grownBy F (Value.slice a m c).ownBlock->ea F E.heap.size (.slice a7 D c7) (af++[it])->
     F.heap[i]?=some (.cells #[.slice a m c] 92 (0,0))/\cI (F.setCell ⟨i,0,none⟩ (.slice a7 D c7)) X (.slice (some ⟨R,o,none⟩) n cap) t q/\(F.setCell ⟨i,0,none⟩ (.slice a7 D c7)).heap[i]?=some (.cells #[.slice a7 D c7] 92 (0,0))/\(F.setCell ⟨i,0,none⟩ (.slice a7 D c7)).heap[s]?=some (.cells #[.nilIface] 97 (0,0))/\ea (F.setCell ⟨i,0,none⟩ (.slice a7 D c7)) E.heap.size (.slice a7 D c7) (af++[it])/\Gx E (F.setCell ⟨i,0,none⟩ (.slice a7 D c7)) X i):=J (λp F ob it a7 D c7 t hx hl he gx hA Q I=>by
     have h1:=Z z;have b3:∀B,B<E.heap.size->B<p.heap.size->F.heap[B]?=p.heap[B]? :=λB hB dk=>(Q.block B (by simp;omega) (λe=>by have:=(hA.lt B e.symm).1;omega)).trans (eI _ _ _ dk)
     have dn:=gx.size;have cw:=(b3 i (by omega) (by omega)).trans hl;have ds:=(b3 s (by omega) (by omega)).trans he;have du:cI F X (.slice (some ⟨R,o,none⟩) n cap) t q:=(b3 X (by omega) (by omega)).trans hx;have dx:Gx E F X i:=⟨Q.os.trans gx.os,Q.tape.trans gx.tape,Q.output.trans gx.output,bC dn (bC (by simp) Q.size),λk hk h2 h3=>(b3 k hk (by omega)).trans (gx.block k hk h2 h3)⟩
     refine⟨cw,du.lY (by omega),heap_set cw _,(cY _ _ _ _ (by show s≠i;omega)).trans ds,I.gb (aD (av _ _) _ _ (.inr rfl)) (λk e=>by cases e;show i<E.heap.size;omega),dx.set _ _ (.inr (.inl rfl))⟩)
    replace ax:=J ax;replace U:=J U;replace a1:=J a1;replace N:=J N;replace S:=J S;replace a2:=J a2;replace a3:=J a3;replace a0:=J a0;clear hF a9 bP;go_wp2_with fail;refine wp_region_any (by kernel_rfl) ?_;try(change wpAny _ _ _ _ _ _ _ (World.drew _))
    refine iI (rs:=[0,1]) (by kernel_rfl) (by simp) ?_;refine fT rfl (λK b=>?_) (fT rfl (λK b=>?_) iH)
    ·go_simp;refine b _ _ ?_;clear b K;refine iI (rs:=[1]) (by kernel_rfl) (by simp) ?_;refine fT rfl (λK b=>?_) iH;go_simp;refine b _ _ ?_;clear b K;refine iI (rs:=[2]) (by kernel_rfl) (by simp) ?_;refine fT rfl (λK b=>?_) iH;go_simp;refine(Z U).mono ?_;rintro e p⟨O,A,u,C,rfl,M,al,G,cx,bb⟩;obtain⟨L,V,H,e5,s5,x5⟩:=Z bS _ p _ t A u C (aP (av _ _)) rfl O M al;obtain⟨cy,cR⟩:=j7 H;have c9:=(aO.1 H).1;replace H:=J H;replace e5:=J e5;replace L:=J L;replace V:=J V;replace M:=J M;replace G:=J G;replace al:=J al;refine b _ _ ?_;clear b K;refine iI (rs:=[3]) (by kernel_rfl) (by simp) ?_;refine fT rfl (λK b=>?_) iH;go_simp;refine b _ _ ?_;clear b K;refine iI (rs:=[4]) (by kernel_rfl) (by simp) ?_;refine fT rfl (λK b=>?_) iH;refine vr (by rfl) _ _ (by rfl) E.heap.size _ af (by rfl) ((Z L).gb (aC _ _ none) (λk e=>by cases e)) p.heap.size 1 (⟨P,sm,of,cd,fin,d,rg⟩,.slice A u C) ((Z M).ah (aC _ _ none)) (Z V) (by rfl) (by rfl) (jm (aH _ _)) (by omega) (by simp;omega) ?_;intro a7 D c7 F I Q b7;have a4:=(Z L).gb (aC p (.cells #[.int .i64 P,.int .i64 sm,.int .u64 of,.int .u64 cd,.bool fin,.string d,.slice A u C] 158) none) (λk e=>by cases e);have r:=Z b0 p F _ _ a7 D c7 t (Z G) (Z H) (Z e5) x5 a4 Q I;obtain⟨b8,ca⟩:=j7 r.1;replace r:=J r;replace I:=J I;refine b _ _ ?_;clear b K;refine iI (rs:=[5]) (by kernel_rfl) (by simp) ?_;refine fT rfl (λK b=>?_) iH;go_simp;refine b _ _ ?_;clear b K;refine wpAny_done (by kernel_rfl) ?_ _;go_wp2_with fail;go_roundg (l.length-t);case measure=>omega
     case rel=>exact⟨t,q,k',af++[(⟨P,sm,of,cd,fin,d,rg⟩,.slice A u C)],a7,D,c7,rfl,bb,by simp;omega,(Z r).2.1,(Z r).2.2.1,(Z r).2.2.2.1,(Z r).2.2.2.2.1,(Z r).2.2.2.2.2,by rw[Z a0];simp,by omega⟩
    go_simp;refine b _ _ ?_;clear b K;refine iI (rs:=[0,2]) (by kernel_rfl) (by simp) ?_;refine fT rfl (λK b=>?_) (fT rfl (λK b=>?_) iH)
    ·go_simp;refine b _ _ ?_;clear b K;refine iI (rs:=[2]) (by kernel_rfl) (by simp) ?_;refine fT rfl (λK b=>?_) iH;go_simp;refine(Z U).mono ?_;rintro e p⟨O,A,u,C,rfl,M,al,G,cx,bb⟩;obtain⟨L,V,H,e5,s5,x5⟩:=Z bS _ p _ t A u C (aP (av _ _)) rfl O M al;obtain⟨cy,cR⟩:=j7 H;have c9:=(aO.1 H).1;replace H:=J H;replace e5:=J e5;replace L:=J L;replace V:=J V;replace M:=J M;replace G:=J G;replace al:=J al;refine b _ _ ?_;clear b K;refine iI (rs:=[3]) (by kernel_rfl) (by simp) ?_;refine fT rfl (λK b=>?_) iH;go_simp;refine b _ _ ?_;clear b K;refine iI (rs:=[4]) (by kernel_rfl) (by simp) ?_;refine fT rfl (λK b=>?_) iH;refine vr (by rfl) _ _ (by rfl) E.heap.size _ af (by rfl) ((Z L).gb (aC _ _ none) (λk e=>by cases e)) p.heap.size 1 (⟨P,sm,of,cd,fin,d,rg⟩,.slice A u C) ((Z M).ah (aC _ _ none)) (Z V) (by rfl) (by rfl) (jm (aH _ _)) (by omega) (by simp;omega) ?_;intro a7 D c7 F I Q b7;have a4:=(Z L).gb (aC p (.cells #[.int .i64 P,.int .i64 sm,.int .u64 of,.int .u64 cd,.bool fin,.string d,.slice A u C] 158) none) (λk e=>by cases e);have r:=Z b0 p F _ _ a7 D c7 t (Z G) (Z H) (Z e5) x5 a4 Q I;obtain⟨b8,ca⟩:=j7 r.1;replace r:=J r;replace I:=J I;refine b _ _ ?_;clear b K;refine iI (rs:=[5]) (by kernel_rfl) (by simp) ?_;refine fT rfl (λK b=>?_) iH;go_simp;refine b _ _ ?_;clear b K;refine wpAny_done (by kernel_rfl) ?_ _;go_wp2_with fail;go_roundg (l.length-t);case measure=>omega
     case rel=>exact⟨t,q,k',af++[(⟨P,sm,of,cd,fin,d,rg⟩,.slice A u C)],a7,D,c7,rfl,bb,by simp;omega,(Z r).2.1,(Z r).2.2.1,(Z r).2.2.2.1,(Z r).2.2.2.2.1,(Z r).2.2.2.2.2,by rw[Z a0];simp,by omega⟩
    go_simp;refine(Z U).mono ?_;rintro e p⟨O,A,u,C,rfl,M,al,G,cx,bb⟩;obtain⟨L,V,H,e5,s5,x5⟩:=Z bS _ p _ t A u C (aP (av _ _)) rfl O M al;obtain⟨cy,cR⟩:=j7 H;have c9:=(aO.1 H).1;replace H:=J H;replace e5:=J e5;replace L:=J L;replace V:=J V;replace M:=J M;replace G:=J G;replace al:=J al;refine b _ _ ?_;clear b K;refine iI (rs:=[0,3]) (by kernel_rfl) (by simp) ?_;refine fT rfl (λK b=>?_) (fT rfl (λK b=>?_) iH)
    ·go_simp;refine b _ _ ?_;clear b K;refine iI (rs:=[3]) (by kernel_rfl) (by simp) ?_;refine fT rfl (λK b=>?_) iH;go_simp;refine b _ _ ?_;clear b K;refine iI (rs:=[4]) (by kernel_rfl) (by simp) ?_;refine fT rfl (λK b=>?_) iH;refine vr (by rfl) _ _ (by rfl) E.heap.size _ af (by rfl) ((Z L).gb (aC _ _ none) (λk e=>by cases e)) p.heap.size 1 (⟨P,sm,of,cd,fin,d,rg⟩,.slice A u C) ((Z M).ah (aC _ _ none)) (Z V) (by rfl) (by rfl) (jm (aH _ _)) (by omega) (by simp;omega) ?_;intro a7 D c7 F I Q b7;have a4:=(Z L).gb (aC p (.cells #[.int .i64 P,.int .i64 sm,.int .u64 of,.int .u64 cd,.bool fin,.string d,.slice A u C] 158) none) (λk e=>by cases e);have r:=Z b0 p F _ _ a7 D c7 t (Z G) (Z H) (Z e5) x5 a4 Q I;obtain⟨b8,ca⟩:=j7 r.1;replace r:=J r;replace I:=J I;refine b _ _ ?_;clear b K;refine iI (rs:=[5]) (by kernel_rfl) (by simp) ?_;refine fT rfl (λK b=>?_) iH;go_simp;refine b _ _ ?_;clear b K;refine wpAny_done (by kernel_rfl) ?_ _;go_wp2_with fail;go_roundg (l.length-t);case measure=>omega
     case rel=>exact⟨t,q,k',af++[(⟨P,sm,of,cd,fin,d,rg⟩,.slice A u C)],a7,D,c7,rfl,bb,by simp;omega,(Z r).2.1,(Z r).2.2.1,(Z r).2.2.2.1,(Z r).2.2.2.2.1,(Z r).2.2.2.2.2,by rw[Z a0];simp,by omega⟩
    go_simp;refine b _ _ ?_;clear b K;refine iI (rs:=[0]) (by kernel_rfl) (by simp) ?_;refine fT rfl (λK b=>?_) iH;go_simp;refine b _ _ ?_;clear b K;refine iI (rs:=[4]) (by kernel_rfl) (by simp) ?_;refine fT rfl (λK b=>?_) iH;refine vr (by rfl) _ _ (by rfl) E.heap.size _ af (by rfl) ((Z L).gb (aC _ _ none) (λk e=>by cases e)) p.heap.size 1 (⟨P,sm,of,cd,fin,d,rg⟩,.slice A u C) ((Z M).ah (aC _ _ none)) (Z V) (by rfl) (by rfl) (jm (aH _ _)) (by omega) (by simp;omega) ?_;intro a7 D c7 F I Q b7;have a4:=(Z L).gb (aC p (.cells #[.int .i64 P,.int .i64 sm,.int .u64 of,.int .u64 cd,.bool fin,.string d,.slice A u C] 158) none) (λk e=>by cases e);have r:=Z b0 p F _ _ a7 D c7 t (Z G) (Z H) (Z e5) x5 a4 Q I;obtain⟨b8,ca⟩:=j7 r.1;replace r:=J r;replace I:=J I;refine b _ _ ?_;clear b K;refine iI (rs:=[5]) (by kernel_rfl) (by simp) ?_;refine fT rfl (λK b=>?_) iH;go_simp;refine b _ _ ?_;clear b K;refine wpAny_done (by kernel_rfl) ?_ _;go_wp2_with fail;go_roundg (l.length-t);case measure=>omega
    case rel=>exact⟨t,q,k',af++[(⟨P,sm,of,cd,fin,d,rg⟩,.slice A u C)],a7,D,c7,rfl,bb,by simp;omega,(Z r).2.1,(Z r).2.2.1,(Z r).2.2.2.1,(Z r).2.2.2.2.1,(Z r).2.2.2.2.2,by rw[Z a0];simp,by omega⟩
  obtain rfl:q=l.length:=by omega
  have dg:¬(l.length:Int)<(n:Int):=by have:=Z hn;omega
  obtain⟨z0,zf⟩:=j7 N;obtain⟨z1,zg⟩:=j7 S;obtain⟨k',rfl⟩:∃k',k=k'+1:=⟨k-1,by omega⟩
  have a0:fU l=(some (af.map (·.1)),-1):=by
   rw[a3];simp only[ig]
   rw[ay (by omega)]
  have eo:i≠s:=by have:=Z z;omega
  have ep:=J (Z z);replace a0:=J a0;replace a3:=J a3;replace a1:=J a1;replace N:=J N;replace S:=J S;replace a2:=J a2;go_wp2_with fail;have l1:=heap_set (o:=0) (Z N) (.slice a m c);have l2:=(cY wr ⟨i,0,none⟩ (.slice a m c) s (by show s≠i;omega)).trans (Z S);have l3:=heap_set (o:=0) l2 .nilIface;have l4:=(cY (wr.setCell ⟨i,0,none⟩ (.slice a m c)) ⟨s,0,none⟩ .nilIface i (by show i≠s;omega)).trans l1;refine leaves_cons (f:=187) (args:= #[.pointer (some ⟨X,0,none⟩),.pointer (some ⟨i,0,none⟩),.pointer (some ⟨s,0,none⟩)]) (by simp) (by simp[go_sem]) ?_;refine(Kh X i s _).mono ?_;rintro e u' ew⟨rfl,rfl,rfl⟩;have hO:=((Z a2).gb (aD (av wr _) ⟨i,0,none⟩ (.slice a m c) (.inr rfl)) (λk e=>by cases e;show i<E.heap.size;have:=Z z;omega)).gb (aD (av _ _) ⟨s,0,none⟩ .nilIface (.inr rfl)) (λk e=>by cases e;show s<E.heap.size;have:=Z z;omega);refine⟨_,Cm _ _ i s (.slice a m c) .nilIface rfl rfl (j7 l4).1 (j7 l3).1,aD (aD b6 _ _ (.inl (by show w.heap.size<=i;have:=Z z;omega))) _ _ (.inl (by show w.heap.size<=s;have:=Z z;omega)),.inl ⟨af,a,m,c,Z a0,rfl,hO.lower cj.size⟩⟩
structure MM(w:World)(X a o n cap:Nat)(l:List Int)(p:Nat)(bad:Bool):Prop where
 x:ML w X (.slice (some ⟨a,o,none⟩) n cap) p bad
 b:bh w (some ⟨a,o,none⟩) n cap l
 xb:a≠X
 hp:p<=l.length
 hl:l.length<=100000000
structure ST(w:World)(X Y bb o n cap:Nat)(l:List Int)(W:World)(q:Nat)(bad:Bool)(v0 v1 v2 v3 v4 v5 v6:Value):Prop where
 rc:MM W X bb o n cap l q bad
 y:W.heap[Y]?=some (.cells #[v0,v1,v2,v3,v4,v5,v6] 158 (0,0))
 g:w.grownBy W (some X)
 r:W.heap[w.heap.size]?=some (.cells #[.int .i64 0,.int .i64 0,.int .u64 0,.int .u64 0,.bool false,.string {data:= #[]},.slice none 0 0] 158 (0,0))
 xy:X<w.heap.size
 wy:w.heap.size<Y
 Qk:bb<w.heap.size
section
variable {w:World} {X Y bb o n cap:Nat} {l:List Int} {W W':World} {q q':Nat} {bad bad':Bool} {v0 v1 v2 v3 v4 v5 v6:Value}
end
def Cut(w:World)(X Y b o n cap:Nat)(l:List Int)(t:Int)(p:Nat)(W:World):Prop:=
 (∃(f:Fr)(q:Nat)(A:Option Addr)(a C:Nat),eR l t (p+1)=some (f,q)/\ST w X Y b o n cap l W q false (.int .i64 f.kind) (.int .i64 f.stream) (.int .u64 f.offset) (.int .u64 f.code) (.bool f.fin) (.string f.data) (.slice A a C)/\cV W f (.slice A a C)/\(∀x,A=some x->Y<x.block))\/
 (eR l t (p+1)=none/\∃(q:Nat)(c d e k3:Int)(k4:Bool)(k5:ByteArray)(A:Option Addr)(a C:Nat),ST w X Y b o n cap l W q true (.int .i64 c) (.int .i64 d) (.int .u64 e) (.int .u64 k3) (.bool k4) (.string k5) (.slice A a C))
def CX(w:World)(l:List Int)(e:Ending)(b:World):Prop:=
 w.grownBy b none/\((∃af a n c,fU l=(some (af.map (·.1)),-1)/\e=.returned (.tuple #[.slice a n c,.int .i64 0,.int .i64 (-1)])/\ea b w.heap.size (.slice a n c) af)\/
  (∃p:Nat,fU l=(none,(p:Int))/\e=.returned (.tuple #[.slice none 0 0,.int .i64 5,.int .i64 (p:Int)])))
theorem MN{rest:List Oper}(k:I.guard=none)(s x:Operand)
 (ho:I.op=.call {callee:=.builtin .append,args:= #[s,x],argTypes:= #[92,92]})
 (i:Nat) (v:Value) (l:List cu) (hs:f.eval s=v) (m:ea w i v l) (b c:Nat) (a:cu) (p:cV w a.1 a.2) (q:a.1.ranges≠[]->∀y n c,a.2=.slice (some y) n c->i<=y.block/\v.ownBlock≠some y.block) (r:a.2.oneCell'=true) (t:f.eval x=.slice (some ⟨b,0,none⟩) 1 c) (h0:w.rangeAt b 0 (eM a.1 a.2)) (u:l.length<=100000000) (z:i<=w.heap.size)
 (h:∀d e g j,ea j i (.slice d e g) (l++[a])->w.grownBy j v.ownBlock->((Value.slice d e g).ownBlock=v.ownBlock\/(Value.slice d e g).ownBlock=some w.heap.size)->
   wpList prog F G rest (f.put I.dst (.slice d e g)) j):wpList prog F G (I::rest) f w:=
 qk k λ_ A=>by
  obtain⟨d,e,g,j,B,C,D,E⟩:=Ck (w:=w) I.type i v l m b c a p q r h0 u z;unfold Oper.wp execOp;simp only[ho,resolve,invoke,builtin,ie,kN,ic,lN,ki,kO,hs,t,B]
  exact A _ _ (h d e g j C D E)
theorem N4(w:World)(a:Option Addr)(n cap:Nat)(c:List Fr)(h:mr w a n cap c)(f:fk c<=30000000):
 Calls prog 124 #[.slice a n cap] w (sK w c (.tuple #[.slice none 0 0,.iface 34 (.int .i64 5)]) (λv=>.tuple #[v,.nilIface])):=by
 have i:=J (Av w a n cap c h f);clear h f;obtain⟨R,d⟩:=exq (sK w c (.tuple #[.slice none 0 0,.iface 34 (.int .i64 5)]) (λv=>.tuple #[v,.nilIface]));rw[<-d]at i⊢;replace d:=J d;go_enter func124,ntmps124;go_wp2_with fail;refine(Z i).mono ?_;intro e q j;have k:=Z d;subst k;obtain⟨⟨b,l,m,p,rfl,ho⟩|⟨b,rfl⟩,g⟩:=j
 ·replace b:=J b;replace ho:=J ho;go_wp2_with fail;go_ret2;exact⟨.inl ⟨Z b,l,m,p,rfl,Z ho⟩,g⟩
 replace b:=J b;go_wp2_with fail;go_ret2;exact⟨.inr ⟨Z b,rfl⟩,g⟩
theorem N5(w:World)(a:Option Addr)(n cap:Nat)(l:List Int)(c:bh w a n cap l)(hl:l.length<=100000000):
 Calls prog 146 #[.slice a n cap] w (pW w l):=by
 cases l with
 |nil=>exact decode_nil w a n cap c
 |cons x l=>
  obtain⟨-,e,f,-,d⟩:=id c;obtain⟨d,g⟩|⟨b,o,rfl,d⟩:=d
  simp only[dJ]at e;omega;exact Co w b o n cap _ c (by simp) hl
theorem N6(w:World)(a:Option Addr)(n cap:Nat)(l:List Int)(d:bh w a n cap l)(hl:l.length<=100000000):
 Calls prog 123 #[.slice a n cap] w (pW w l):=by
 have f:=J (N5 w a n cap l d hl);clear d hl;obtain⟨R,c⟩:=exq (pW w l);rw[<-c]at f⊢;replace c:=J c;go_enter func123,ntmps123;go_wp2_with fail;refine(Z f).mono ?_;intro e r h;have i:=Z c;subst i;obtain⟨g,⟨af,j,k,m,b,rfl,ho⟩|⟨p,F,b,rfl,hF,q⟩⟩:=h
 ·replace b:=J b;replace ho:=J ho;go_wp2_with fail;go_ret2;exact⟨g,.inl ⟨af,j,k,m,Z b,rfl,Z ho⟩⟩
 replace b:=J b;replace hF:=J hF;go_wp2_with fail;go_ret2;exact⟨g,.inr ⟨p,F,Z b,rfl,Z hF,q⟩⟩
theorem N7(w:World)(a:Option Addr)(n cap:Nat)(l:List Int)(f:bh w a n cap l)(hl:l.length<=90000000)(r:Laid w):
 Calls prog 87 #[.slice a n cap] w (CX w l):=by
 have z:=J (λ(a:Option Addr)(n cap:Nat)(W:World)(f:bh W a n cap l)=>N6 W a n cap l f (by omega));have A:=J f;have y:n=l.length:=f.2.1;replace y:=J y;clear f;have B:=J r;have M:=r.lt;clear r;obtain⟨R,g⟩:=exq (CX w l);rw[<-g];replace g:=J g;go_enter func87,ntmps87;go_wp2_with (refine tY (by rfl) _ (by rfl) _ _ _ l (by rfl) (Z A) (by omega) ?_;intro N c2 O c m;replace c:=J c);refine(Z z _ _ _ _ (Z c).fB).mono ?_;have h:=J (Z c).lt;rintro e C⟨i,⟨af,D,E,G,b,rfl,ho⟩|⟨p,F,b,rfl,hF,P⟩⟩
 ·replace b:=J b;replace ho:=J ho;have s:=J ((Z c).ah i);go_wp2_with fail;refine(qm _ _ _ l _ _ (Z s) (by omega)).mono ?_;rintro e t⟨rfl,d⟩;have H:=J ((Z ho).gb d (λk e=>(Z h k e).2));go_wp2_with fail;refine(td _).mono ?_;rintro e I⟨rfl,q⟩;go_wp2_with fail;go_ret3;have u:=Z g;subst u;have K:=m.size;exact⟨aj (cA (aj m i) d (λj e=>.inl (by have:=Z h _ e;omega))) q,.inl ⟨af,D,E,G,Z b,rfl,((Z H).gb q (λk e=>by cases e)).lower K⟩⟩
 replace b:=J b;replace hF:=J hF;have s:=J ((Z c).ah i);go_wp2_with fail;refine(qm _ _ _ l _ _ (Z s) (by omega)).mono ?_;rintro e t⟨rfl,d⟩;have v:Laid t:=(((Z B).gb m (by simp)).gb i (by simp)).gb d (λe=>by have:=Z h _ e;omega);replace v:=J v;have L:F<C.heap.size:=(aO.1 (Z hF)).1;have x:t.heap[F]?=some (.cells #[.int .i64 5,.int .i64 (p:Int)] 182 (0,0)):=by
  rw[d.block F L (λe=>by have:=Z h _ e.symm;omega)];exact Z hF
 replace x:=J x;go_wp2_with fail;refine(Cb F 5 p _ (Z v) (Z x)).mono ?_;rintro e I⟨rfl,q⟩;go_wp2_with fail;go_ret3;have u:=Z g;subst u;exact⟨aj (cA (aj m i) d (λj e=>.inl (by have:=Z h _ e;omega))) q,.inr ⟨p,Z b,rfl⟩⟩
structure jt(b c:Nat)(w a:World):Prop where
 os:a.os=w.os
 tape:a.tape=w.tape
 output:a.output=w.output
 size:a.heap.size=w.heap.size
 block:∀k,(k<b\/c<=k)->a.heap[k]?=w.heap[k]?
theorem jt.refl(a b:Nat)(w:World):jt a b w w:=⟨rfl,rfl,rfl,rfl,λ_ _=>rfl⟩
theorem jt.set{w:World}(h:jt n i w W)(p:Addr)(v:Value)(h0:n<=p.block)(b:p.block<i):jt n i w (W.setCell p v):=
 ⟨h.os,h.tape,h.output,by simpa [World.setCell]using h.size,λk a=>by
  rw[cY _ _ _ _ (by omega)];exact h.block k a⟩
theorem jt.da{a c b:Nat}(h0:a<=b)(d:b<c):∀(vs:List Value)(o:Nat){w e:World},jt a c w e->jt a c w (e.setCells b o vs)
 |[],_,_,_,h=>h
 |v::r,o,_,_,h=>jt.da h0 d r (o+1) (h.set ⟨b,o,none⟩ v h0 d)
theorem jt.gb(g:w.grownBy W none)(h:jt w.heap.size n W v):w.grownBy v none:=
 ⟨h.os.trans g.os,h.tape.trans g.tape,h.output.trans g.output,by rw[h.size];exact g.size,λk a b=>(h.block k (.inl a)).trans (g.block k a b)⟩
theorem jt.own(h:jt n k w W)(o:aX w k x L):aX W k x L:=by
 obtain⟨b,c,a⟩:=o;refine⟨b,c,?_⟩
 obtain a|⟨g,cap,cur,e1,e2,d,e⟩:=a
 exact .inl a;exact .inr ⟨g,cap,cur,e1,e2,(h.block g (.inr e2)).trans d,e⟩
theorem Dt(h:w.heap[b]?=some (.cells c T (0,0)))(a:m<=c.size):w.there b 0 m:=λj d=>by
 simp[World.cell?,World.frozen?,h];omega
theorem Dv(h:w.there b 0 m)(a:o+n<=m):w.there b o n:=λj c=>by
 have:=h (o+j) (by omega);simpa using this
structure ni(a b g:Nat)(af:List cu)(d:World)(k:Nat)(w:World):Prop where
 kU:jt a b d w
 row:∀j(e:j<af.length),k<=j->w.rangeAt g (j*7+6) [af[j].2]
 ok:w.there g 0 (af.length*7)
 yv:∀x∈af,x.1.ranges≠[]->∃y c,x.2=.slice (some ⟨y,0,none⟩) x.1.ranges.length c/\a<=y/\y<b/\y≠g/\x.1.ranges.length<=c/\w.there y 0 (x.1.ranges.length*2)
theorem ni.start{af:List cu}(B:ea w k (.slice a n i) af)(C:∀x∈af,x.1.ranges≠[]->dV w k x.2 x.1.ranges)(l:w.grownBy W none):
 ∃g,(0<af.length->a=some ⟨g,0,none⟩/\k<=g/\g<w.heap.size)/\ni k w.heap.size g af W 0 W:=by
 obtain⟨⟨P,D⟩,c⟩:=B;obtain⟨e,E⟩|⟨g,cap,cur,e,aa,m,F,hm,hs,G⟩:=D
 obtain rfl:af=[]:=fR E;exact⟨0,λh=>by simp at h,jt.refl _ _ _,λj b=>by simp at b,λj b=>by simp at b,λx c=>by simp at c⟩
 cases e;have p:g<w.heap.size:=(aO.1 m).1;have r:W.heap[g]?=some (.cells cur 158 (0,0)):=(l.block g p (by simp)).trans m;refine⟨g,λ_=>⟨rfl,aa,p⟩,jt.refl _ _ _,λj b _=>?_,Dt r (by rw[hs];exact Nat.mul_le_mul_right 7 F),λx s d=>?_⟩
 intro q v f;match q,f with
 |0,f=>
  have H:af[j].2=v:=by simpa using f
  subst H;have t:=xO af j b 6 af[j].2 (by simp[eM]);have I:j*7+6<af.length*7:=by omega
  rw[<-G,jO,aM I]at t;simp only[World.cell?,r,lO]
  simpa using t
 have K:=C x s d;obtain⟨-,-,⟨-,e2⟩|⟨y,L,Q,e2,M,u,z,-,N,-⟩⟩:=K;exact absurd (fR e2) d;have A:y<w.heap.size:=(aO.1 u).1;refine⟨y,L,e2,M,A,λO=>?_,z,Dt ((l.block y A (by simp)).trans u) (by rw[N];exact Nat.mul_le_mul_right 2 z)⟩
 exact((c x s).2 d _ _ _ e2).2 (by rw[O];rfl)
theorem ni.Oi{af:List cu}(h:ni n i l af W k w)(h0:n<=m)(a:m<i)(b:m≠l)(o:Nat)(vs:List Value):ni n i l af W k (w.setCells m o vs):=
 ⟨jt.da h0 a vs o h.kU,λj d f=>World.rangeAt_setCells_apart (h.row j d f) m o vs (.inl (Ne.symm b)),World.there_setCells h.ok m o vs,λx g p=>by
  obtain⟨q,c,e,e0,e1,e2,r,s⟩:=h.yv x g p;exact⟨q,c,e,e0,e1,e2,r,World.there_setCells s m o vs⟩⟩
theorem ni.xM{af:List cu}(h:ni n i l af W k w)(h0:n<=l)(a:l<i)(vs:List Value)(q:vs.length=7):ni n i l af W (k+1) (w.setCells l (k*7) vs):=
 ⟨jt.da h0 a vs (k*7) h.kU,λj b r=>World.rangeAt_setCells_apart (h.row j b (by omega)) l (k*7) vs (.inr (.inr (by omega))),World.there_setCells h.ok l (k*7) vs,λx d f=>by
  obtain⟨g,c,e,e0,e1,e2,m,p⟩:=h.yv x d f;exact⟨g,c,e,e0,e1,e2,m,World.there_setCells p l (k*7) vs⟩⟩
theorem dV.nil(w:World)(a:Nat):dV w a (.slice none 0 0) []:=⟨λx b=>by simp at b,mI _ _ _ _⟩
theorem Oj(ty:TypeId)(i:Option Addr)(nx k:Nat)(m:List Rg)(C:ba w i nx k m)(G:m.length<=100000000):
 ∃s t v a,(Builtin.append_ #[133,133] ty #[.slice none 0 0,.slice i nx k]).run prog w=.ok (.slice s t v) a/\dV a w.heap.size (.slice s t v) m/\w.grownBy a none:=by
 obtain⟨l,hi,z,A,B⟩:=kj Az;obtain⟨m1,rfl,H,I,n⟩:=C;have f:=dV.nil w w.heap.size;obtain rfl|⟨b,off,rfl,n⟩:=n
 have:m=[]:=fR (by omega);subst this;obtain _|x:=i
 have D:=run_append_owned_none (P:=prog) (w:=w) w.heap.size 133 ty 200 l 2 underlying133 hi (.slice none 0 0) _ _ f.2;exact⟨_,_,_,w,D,f,av _ _⟩
 obtain⟨p,a,d,q,e,_,E⟩:=run_append_own_at (P:=prog) w w.heap.size 133 ty 200 l (.agg #[.int .u64 0,.int .u64 0]) 2 16 underlying133 hi z A B rfl (by decide) (.slice none 0 0) 0 [] f.2 x 0 0 [] rfl (λj u r=>by simp at r) (λu h=>by simp at h) (by simp[maxLen]) (by omega) (aI _);have c:dV a w.heap.size p []:=⟨m1,by simpa [bY]using q⟩
 obtain⟨-,-,⟨rfl,e2⟩|⟨g,cap,F,rfl,_⟩⟩:=id c;exact⟨_,_,_,a,d,c,e⟩
 exact⟨_,_,_,a,d,c,e⟩
 obtain⟨p,a,d,q,e,_,E⟩:=run_append_own_at (P:=prog) w w.heap.size 133 ty 200 l (.agg #[.int .u64 0,.int .u64 0]) 2 16 underlying133 hi z A B rfl (by decide) (.slice none 0 0) 0 [] f.2 ⟨b,off,none⟩ m.length k (bY m) (pK m) (by
  intro j u r;rw[Addr.add_mid];exact n j u r) (by
  intro u h;simp only[bY,og,eJ,ns,lQ]at h;obtain⟨y,-,rfl|rfl⟩:=h<;>rfl) (by simp[maxLen];omega) (by omega) (aI _)
 have c:dV a w.heap.size p m:=⟨m1,by simpa using q⟩
 obtain⟨-,-,⟨rfl,e2⟩|⟨g,cap,F,rfl,_⟩⟩:=id c;exact⟨_,_,_,a,d,c,e⟩
 exact⟨_,_,_,a,d,c,e⟩
theorem Ok{rest:List Oper}(i:I.guard=none)(x:Operand)
 (ho:I.op=.call {callee:=.builtin .append,args:= #[.const (.slice none 0 0),x],argTypes:= #[133,133]})
 (e:Option Addr) (nx g:Nat) (m:List Rg) (j:f.eval x=.slice e nx g) (k:ba w e nx g m) (l:m.length<=100000000)
 (h:∀b c d a,dV a w.heap.size (.slice b c d) m->w.grownBy a none->wpList prog F G rest (f.put I.dst (.slice b c d)) a):wpList prog F G (I::rest) f w:=
 qk i λ_ n=>by
  obtain⟨b,c,d,a,p,q,r⟩:=Oj (w:=w) I.type e nx g m k l;have hs:f.eval (.const (.slice none 0 0))=.slice none 0 0:=rfl;unfold Oper.wp execOp;simp only[ho,resolve,invoke,builtin,ie,kN,ic,lN,ki,kO,hs,j,p]
  exact n _ _ (h b c d a q r)
theorem dV.lower(h:dV w n x Y)(e:k<=n):dV w k x Y:=by
 obtain⟨b,c,a⟩:=h;refine⟨b,c,?_⟩
 obtain a|⟨g,cap,cur,e1,e2,d⟩:=a
 exact .inl a;exact .inr ⟨g,cap,cur,e1,by omega,d⟩
theorem Ol:(#[Value.int .u64 7,.int .u64 7]:Array Value).all (·.oneCell')=true:=
 all_oneCell_toArray (cs:=[Value.int .u64 7,.int .u64 7]) (λv a=>by
  simp only[eJ,ns,lQ]at a;obtain rfl|rfl:=a<;>rfl)
theorem Om:(#[Value.int .i64 2,.int .i64 0,.int .u64 0,.int .u64 0,.bool false,.string ByteArray.empty,.slice none 0 0]:Array Value).all (·.oneCell')=true:=
 all_oneCell_toArray (cs:=[Value.int .i64 2,.int .i64 0,.int .u64 0,.int .u64 0,.bool false,.string ByteArray.empty,.slice none 0 0]) (λv a=>by
  simp only[eJ,ns,lQ]at a;obtain rfl|rfl|rfl|rfl|rfl|rfl|rfl:=a<;>rfl)
theorem On:(prog.info? 200).map (·.size)=some 2:=by kernel_rfl
theorem Oo{af:List cu}(d:ea w n z af)(f:∀x∈af,x.1.ranges≠[]->dV w n x.2 x.1.ranges)(g:w.grownBy W none)(h:W.grownBy V z.ownBlock):∀x∈af,x.1.ranges≠[]->dV V n x.2 x.1.ranges:=by
 intro x a b;have c:=(f x a b).ah g;refine c.gb h ?_;obtain⟨-,-,⟨e,-⟩|⟨y,cap,i,e,-⟩⟩:=id c;left;rw[e];rfl;right;rw[e];exact λe2=>((d.2 x a).2 b _ _ _ e).2 e2.symm
theorem Oq{o:Obj}(h:W.heap[i]?=some o)(g:W.grownBy w none):w.heap[i]?=some o:=(g.block i (aO.1 h).1 (by simp)).trans h
theorem Ou(h:w.heap[b]?=some (.cells c T (0,0))):∀o,w.frozen? ⟨b,o,none⟩=false:=λo=>by simp[World.frozen?,h]
theorem Ov(w:World)(a:Option Addr)(n cap:Nat)(s:List Fr)(h:mr w a n cap s)(b4:fk s<=30000000)(dG:s.length<=1000000)(hL:Laid w):
 Calls prog 90 #[.slice a n cap] w (sK w s (.tuple #[.slice none 0 0,.int .i64 5]) (λv=>.tuple #[v,.int .i64 0])):=by
 have H:=h.1;have ee:=h.2.1;have cg:=h.2.2.1;unfold maxLen at cg;have eg:n<=1000000:=by omega
 replace H:=J H;obtain⟨R,T⟩:=exq (sK w s (.tuple #[.slice none 0 0,.int .i64 5]) (λv=>.tuple #[v,.int .i64 0]));rw[<-T];replace T:=J T;have ch:=J hL;have ei:=hL.lt;clear hL;go_enter func90,ntmps90;go_wp2_with fail;go_loopw [4,13] (λv i wr=>∃(k:Nat)(af:List cu)(a':Option Addr)(A c':Nat),k<=n/\i=.int .i64 (k:Int)/\v=.slice a' A c'/\af.map (·.1)=s.take k/\ea wr w.heap.size v af/\(∀x∈af,x.1.ranges≠[]->dV wr w.heap.size x.2 x.1.ranges)/\w.grownBy wr none) (λ_ i _=>n-(intOf i).toNat);case atStart=>exact⟨0,[],none,0,0,by omega,rfl,rfl,by simp,ea.nil _ _,λx C=>by simp at C,av _ _⟩
 case round=>
  obtain⟨k,af,a',A,c',u,rfl,rfl,L,B,O,P⟩:=hrel;by_cases ej:k<n
  ·have h1:=h.ah P;obtain⟨b,o,rfl⟩:∃b o,a=some ⟨b,o,none⟩:=by
    obtain⟨-,-,-,⟨rfl,hc⟩|⟨b,o,rfl,-⟩⟩:=h;omega;exact⟨b,o,rfl⟩
   obtain⟨rv,cj,a2⟩:=h1.at k (by have:=Z H;omega);have a3:=xj (l:=s) (j:=k) (by have:=Z H;omega);have a4:s.take (k+1)=s.take k++[lD s k]:=by rw[qc (by have:=Z H;omega),sJ (by have:=Z H;omega)]
   have cp:af.length=k:=by
    have t:=fj List.length L;rw[dY,cC]at t;have:=Z H;omega
   generalize b6:lD s k=f at *;obtain⟨z,sm,of,cd,fin,d,rg⟩:=f;obtain⟨a8,cv,ra,rc,rfl,a9⟩:=cj;have ek:rg.length<=100000000:=by simp only[lS]at a3;omega
   have ga:wr.grownBy (wr.alloc (.cells #[.int .i64 z,.int .i64 sm,.int .u64 of,.int .u64 cd,.bool fin,.string d,.slice ra rg.length rc] 158)) none:=aC _ _ _;have cw:=J (a9.ah ga);have bb:=aH wr (.cells #[.int .i64 z,.int .i64 sm,.int .u64 of,.int .u64 cd,.bool fin,.string d,.slice ra rg.length rc] 158);replace bb:=J bb;replace b6:=J b6;replace a4:=J a4;replace a3:=J a3;replace L:=J L;replace B:=J B;replace O:=J O;replace a9:=J a9;replace a8:=J a8;replace a2:=J a2;replace h:=J h;replace h1:=J h1;have i1:(0:Int)<=(k:Int):=by omega
   have i2:(k:Int)<(n:Int):=by omega
   have b8:=J uK;go_upto_region 6 with(first|(refine wpList_load_mid (by rfl) 158 _ (by rfl) b (o+k*7) (by rfl) (eM ⟨z,sm,of,cd,fin,d,rg⟩ (.slice ra rg.length rc)) _ (Z a2) underlying158 (by rfl) (Z b8) ?_;simp only[eM])|(at_builtin;refine Ok (by rfl) _ (by rfl) _ _ _ rg (by rfl) (Z cw) (by omega) ?_;intro r M c3 U Q g3;have V:=Oq (Z bb) g3;have z3:=Ou V;have y3:=(cH V).2.2.2.2.2.2;replace V:=J V;replace Q:=J Q))
   have cx:U.grownBy (U.setCell ⟨wr.heap.size,6,none⟩ (.slice r M c3)) (some wr.heap.size):=aD (av _ _) _ _ (.inr rfl);have X:=heap_set (o:=6) (Z V) (.slice r M c3);have cy:(Value.slice r M c3).ownBlock=none\/(Value.slice r M c3).ownBlock≠some wr.heap.size:=.inr (λe=>by have t:=((Z Q).lt _ e).1;rw[dC]at t;omega);have I:=(Z Q).gb cx cy;have Y:wr.grownBy (U.setCell ⟨wr.heap.size,6,none⟩ (.slice r M c3)) none:=aD (aj ga g3) _ _ (.inl (aI _));simp only[ke,kK,kJ]at X;have eo:wr.heap.size+1<=U.heap.size:=by have:=g3.size;simpa using this
   obtain⟨w4,bj⟩:=exq (U.setCell ⟨wr.heap.size,6,none⟩ (.slice r M c3));rw[<-bj]at X I Y⊢;replace bj:=J bj;have cR:M=rg.length:=I.km.1.2.1;subst cR;have br:cV w4 ⟨z,sm,of,cd,fin,d,rg⟩ (.slice r rg.length c3):=⟨Z a8,cv,r,c3,rfl,I.km.1⟩
   have a0:(⟨z,sm,of,cd,fin,d,rg⟩:Fr).ranges≠[]->∀y n c,Value.slice r rg.length c3=.slice (some y) n c->w.heap.size<=y.block/\(Value.slice a' A c').ownBlock≠some y.block:=λ_ y n5 c5 e=>by
    cases e;have h8:=I.km.2 y rfl;have h7:=P.size;simp at h8;exact⟨by omega,λe2=>by have:=((Z B).lt _ e2).2;omega⟩
   have al:w4.grownBy (w4.alloc (.cells #[.int .i64 z,.int .i64 sm,.int .u64 of,.int .u64 cd,.bool fin,.string d,.slice r rg.length c3] 158)) none:=aC _ _ _;have c9:=J (br.ah al);have ca:=J (((Z B).gb Y (λk e=>by cases e)).gb al (λk e=>by cases e));have db:=J (jm (cs:=eM ⟨z,sm,of,cd,fin,d,rg⟩ (.slice r rg.length c3)) (aH w4 (.cells #[.int .i64 z,.int .i64 sm,.int .u64 of,.int .u64 cd,.bool fin,.string d,.slice r rg.length c3] 158)));have de:=J (jm (cs:=eM ⟨z,sm,of,cd,fin,d,rg⟩ (.slice r rg.length c3)) X);have ep:=Y.size;have ew:=P.size;replace X:=J X;replace I:=J I;replace a0:=J a0;replace br:=J br;replace Q:=J (Z Q);clear y3 z3;go_wp2_with (first|(refine wpList_load_mid (by rfl) 158 _ (by rfl) wr.heap.size 0 (by rfl) (eM ⟨z,sm,of,cd,fin,d,rg⟩ (.slice r rg.length c3)) _ (Z de) underlying158 (by rfl) (Z b8) ?_;simp only[eM])|(at_builtin;refine MN (by rfl) _ _ (by rfl) w.heap.size _ af (by rfl) (Z ca) w4.heap.size 1 (⟨z,sm,of,cd,fin,d,rg⟩,.slice r rg.length c3) (Z c9) (Z a0) (by rfl) (by rfl) (Z db) (by omega) (by simp;omega) ?_;intro a7 n7 c7 w7 o7 g7 b7));go_roundw;case rel=>
    refine⟨k+1,af++[(⟨z,sm,of,cd,fin,d,rg⟩,.slice r rg.length c3)],a7,n7,c7,by omega,by simp,rfl,?_,o7,?_,?_⟩
    rw[mf,Z L,Z a4];simp;intro x C K;obtain C|C:=ck.1 C
    exact Oo (Z B) (Z O) (aj Y al) g7 x C K;rw[dB.1 C];refine(((Z I).lower (by simp;omega)).ah al).gb g7 (.inr (λe=>?_));rw[dB.1 C]at K;obtain⟨y,e5⟩:∃y,r=some y:=by
     cases r with
     |none=>
      obtain⟨-,-,h3,-,⟨-,h5⟩|⟨b5,o5,h5,-⟩⟩:=(Z I).km.1;exact absurd (fR (l:=rg) (by omega)) K;cases h5
     |some y=>exact⟨y,rfl⟩
    subst e5;exact(Z a0 K y _ _ rfl).2 e.symm;exact cA (aj (aj P Y) al) g7 (λj e=>.inl ((Z ca).lt j e).1)
   case measure=>simp[intOf];omega
  obtain rfl:k=n:=by omega
  have ax:af.map (·.1)=s:=by rw[L,eG (by have:=Z H;omega)]
  obtain⟨w1,rfl⟩:=exq wr;have hE:=N4 w1 a' A c' s (by rw[<-ax];exact B.Cj) b4;have cp:af.length=A:=by have:=B.Cj.1;simpa using this.symm
  replace hE:=J hE;replace B:=J B;replace O:=J O;replace L:=J L;replace ax:=J ax;replace h:=J h;go_wp2_with fail;refine(Z hE).mono ?_;intro e w2 bt;obtain⟨bv,ev,rfl,hA⟩:∃bv ev,e=.returned (.tuple #[bv,ev])/\((ev=.nilIface/\qv s/\(∃a5 n5 c5,bv=.slice a5 n5 c5)/\aX w2 w1.heap.size bv (bu s))\/(ev=.iface 34 (.int .i64 5)/\bv=.slice none 0 0/\¬qv s)):=by
   obtain⟨⟨u,a5,n5,c5,rfl,ho⟩|⟨u,rfl⟩,-⟩:=bt;exact⟨_,_,rfl,.inl ⟨rfl,u,⟨_,_,_,rfl⟩,ho⟩⟩
   exact⟨_,_,rfl,.inr ⟨rfl,rfl,u⟩⟩
  have g2:w1.grownBy w2 none:=bt.2;obtain⟨g,hg,N⟩:=ni.start (Z B) (Z O) g2;have bx:∀x∈af,∃ra rc,x.2=.slice ra x.1.ranges.length rc:=λx C=>by
   obtain⟨-,-,ra,rc,e,-⟩:=((Z B).2 x C).1;exact⟨ra,rc,e⟩
  have ey:A<=1000000:=by
   have t:=fj List.length (Z ax);rw[dY]at t;omega
  replace hA:=J hA;replace bx:=J bx;replace hg:=J hg;clear bt hE;go_wp2_with fail;go_loopw [33] (λi wz=>∃q:Nat,q<=A/\i=.int .i64 (q:Int)/\ni w.heap.size w1.heap.size g af w2 q wz) (λi _=>A-(intOf i).toNat);case atStart=>exact⟨0,by omega,rfl,N⟩
  case round=>
   obtain⟨q,hq,rfl,D⟩:=hrel;obtain⟨w5,rfl⟩:=exq wr;by_cases ez:q<A
   ·obtain⟨rfl,dg,dk⟩:=Z hg (by omega);obtain⟨ra,rc,S⟩:=Z bx af[q] (nt _);have bz:=D.row q (by omega) (aI _) 0 af[q].2 rfl;simp only[lO]at bz;rw[S]at bz;have i1:(0:Int)<=(q:Int):=by omega
    have i2:(q:Int)<(A:Int):=by omega
    obtain⟨m,hm⟩:=exq (af[q].1.ranges.length);rw[<-hm]at bz S;have eK:m<=100000000:=by
     have cf:q<(af.map (·.1)).length:=by rw[dY];omega
     have t:=xj cf;rw[sJ cf,List.getElem_map]at t;have h8:fk (af.map (·.1))<=30000000:=by rw[Z ax];exact b4
     simp only[lS]at t;omega
    replace S:=J S;replace hm:=J hm;replace D:=J D;replace N:=J N;go_wp2_with fail;go_loopw [42] (λi wz=>∃p:Nat,p<=m/\i=.int .i64 (p:Int)/\ni w.heap.size w1.heap.size g af w2 q wz) (λi _=>m-(intOf i).toNat);case atStart=>exact⟨0,by omega,rfl,Z D⟩
    case round=>
     obtain⟨p,hp,rfl,E⟩:=hrel;have eL:wr.cell? ⟨g,q*7+6,none⟩=some (.slice ra m rc):=by
      have t:=E.row q (by omega) (aI _) 0 af[q].2 rfl;simp only[lO]at t;rw[Z S]at t;exact t
     by_cases eV:p<m
     ·have K:af[q].1.ranges≠[]:=λe=>by
       have t:=Z hm;rw[e,fH]at t;omega
      obtain⟨y,c,ex,dn,ds,du,dx,a1⟩:=E.yv af[q] (nt _) K;rw[<-Z hm]at ex dx a1;have e3:=(Z S).symm.trans ex;cases e3;have bL:=J (Dv (o:=p*2) (n:=2) a1 (by omega));have F:=E.Oi dn ds du (p*2) [.int .u64 7,.int .u64 7];obtain⟨W,G⟩:=exq (wr.setCells y (p*2) [.int .u64 7,.int .u64 7]);rw[<-G]at F;replace G:=J G;replace F:=J F;have j1:(0:Int)<=(p:Int):=by omega
      have j2:(p:Int)<(m:Int):=by omega
      have bM:=J On;replace E:=J E;replace a1:=J a1;replace ex:=J ex;replace K:=J K;go_wp2_with (refine wpList_store_mid (by rfl) 200 _ _ (by rfl) y (p*2) #[.int .u64 7,.int .u64 7] (by rfl) (by rfl) (Z bL) (Z bM) Ol ?_;change wpList _ _ _ _ _ (wr.setCells y (p*2) [.int .u64 7,.int .u64 7]);rw[<-Z G]);go_roundw;case rel=>exact⟨p+1,by omega,by simp,Z F⟩
      case measure=>simp[intOf];omega
     obtain rfl:p=m:=by omega
     have bL:=J (Dv (o:=q*7) (n:=7) E.ok (by omega));have F:=E.xM dg dk [.int .i64 2,.int .i64 0,.int .u64 0,.int .u64 0,.bool false,.string ByteArray.empty,.slice none 0 0] rfl;obtain⟨W,G⟩:=exq (wr.setCells g (q*7) [.int .i64 2,.int .i64 0,.int .u64 0,.int .u64 0,.bool false,.string ByteArray.empty,.slice none 0 0]);rw[<-G]at F;replace G:=J G;replace F:=J F;have bM:=J uK;replace E:=J E;go_wp2_with (refine wpList_store_mid (by rfl) 158 _ _ (by rfl) g (q*7) #[.int .i64 2,.int .i64 0,.int .u64 0,.int .u64 0,.bool false,.string ByteArray.empty,.slice none 0 0] (by rfl) (by rfl) (Z bL) (Z bM) Om ?_;change wpList _ _ _ _ _ (wr.setCells g (q*7) [.int .i64 2,.int .i64 0,.int .u64 0,.int .u64 0,.bool false,.string ByteArray.empty,.slice none 0 0]);rw[<-Z G]);go_roundw;case rel=>exact⟨q+1,by omega,by simp,Z F⟩
     case measure=>simp[intOf];omega
   obtain rfl:q=A:=by omega
   have gz:w.grownBy w5 none:=jt.gb (aj P g2) D.kU;have bP:Laid w5:=(Z ch).gb gz (by simp);replace bP:=J bP;obtain⟨bS,u,⟨a5,n5,c5,b0⟩,ho⟩|⟨bS,b0,u⟩:=Z hA
   ·have dE:=J (D.kU.own ho);replace u:=J u;replace D:=J D;replace N:=J N;subst bS b0;clear hA ho;go_wp2_with fail;refine(vq _).mono ?_;rintro e w6⟨rfl,g6⟩;go_wp2_with fail;have b3:=Z T;subst b3;exact⟨.inl ⟨Z u,a5,n5,c5,rfl,((Z dE).ah g6).xk P.size⟩,aj gz g6⟩
   replace u:=J u;replace D:=J D;replace N:=J N;subst bS b0;clear hA;go_wp2_with fail;refine(xL 5 _ (Z bP)).mono ?_;rintro e w6⟨rfl,g6⟩;go_wp2_with fail;have b3:=Z T;subst b3;exact⟨.inr ⟨Z u,rfl⟩,aj gz g6⟩
