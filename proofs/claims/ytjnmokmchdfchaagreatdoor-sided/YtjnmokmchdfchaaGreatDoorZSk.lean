import Derived.Test.YtjnmokmchdfchaaGreatDoorZSj
set_option maxRecDepth 1000000
set_option maxHeartbeats 0
set_option linter.all false
namespace Go.Proofs.YtjnmokmchdfchaaGreatDoor
open Go.RowKit Tryz
open Go.Value renaming int→I,slice→Y,bool→β,pointer→π,agg→ε,string→ς,tuple→τ
open Go.IntKind renaming i64→X,u64→U,u8→Δ
open Go.Ending renaming returned→ξ
open Go.Obj renaming cells→ο
open Or renaming inl→φ,inr→ψ
open Option renaming some→E,none→N
open Bool renaming true→ρ,false→θ
open Go renaming World→D,Value→υ
open Go.World renaming grownBy→G,cell?→κ,frozen?→χ,setCell→ζ
attribute[local go_sem↓]Go.wp_at_zero Go.wp_at_succ
variable{B:Bool}{u:Fr}{p q r t:Int}{K L:List Int}{s:List Rg}{b i j k l m n o:Nat}{P S:Nat->Prop}{a:Option Addr}{H:Ot}{x y z:υ}{V W v w:D}{f:ah}
def aL.reset(i:aL)(f:Fr):aL:={i with ended:=ρ,end_:=f.offset,code:=if i.given then i.code else f.code,given:=ρ}
def aL.uv(i:aL)(f:Fr):Bool:=(i.ended&&(i.end_ !=f.offset))||decide (f.offset<i.high)
def ah.take(s:ah)(f:Fr):Int×ah:=
 if f.kind=3 then(if s.next<=(an f.ranges 0).hi then(8,s)else(0,s.lE f.ranges))
 else if f.kind=4 then(if(s.ins f.stream.toNat).uv f then(7,s)else(0,{s with ins:=aB s.ins f.stream.toNat ((s.ins f.stream.toNat).reset f)}))
 else if f.kind=5 then(((s.ins f.stream.toNat).bytes f).1,{s with ins:=aB s.ins f.stream.toNat ((s.ins f.stream.toNat).bytes f).2})
 else if f.kind=6 then(10,s)
 else(0,s)
def bP.pre(g:G w W N)(h:bP W.heap.size W n S f v):bP w.heap.size w n S f v:=by
 let⟨a,b,H,c,C⟩:=h
 exact⟨a,b,H,λk d=>(c k d).imp id (λe=>bG g.size e),((aj.of g).trans C).mono (λk _ e=>e.elim (nofun) id)⟩
def bP.trans(b:∀k,P k->S k\/w.heap.size<=k)(C:aj w W S)(h:bP W.heap.size W n P f v):bP w.heap.size w n S f v:=by
 let⟨c,d,H,g,i⟩:=h
 refine⟨c,d,H,λk a=>?_,(C.trans i).mono (λk a e=>e.elim id (λe=>(b k e).elim id (λe=>O)))⟩
 obtain e|e:=g k a
 simp_all;exact ψ (bG C.size e)
def jA.to{o:Nat->dH}(h:jA w n S f o W):bP w.heap.size w n S {f with outs:=o} W:=by
 let⟨a,b,H,c⟩:=h.at_
 exact⟨a,b,H,c,h.aA.mono (λk _ e=>e.1)⟩
structure pM(s:ah)(f:Fr):Prop where
 Gd:f.kind=3->f.ranges≠[]
 st:f.kind=4\/f.kind=5->0<=f.stream/\f.stream<4
 off:0<=f.offset/\f.offset<=4611686018427387903
 en:f.kind=5->bm f<=4611686018427387903
 sm:f.kind=5->(s.ins f.stream.toNat).given=θ->bm f<=100000000
structure qO(s:ah):Prop where
 ins:∀k,k<4->iz (s.ins k)
 ay:yM s
 af:∀k,k<4->fZ (s.outs k).af
 len:s.ay.length<=100000000
def QU(w:D)(mb:Nat)(l:cz)(s:ah)(B:Nat->Prop)(H:bV w mb l s B)(hs:qO s)(f:Fr)(a:Option Addr)(n c:Nat)(hr:bq w a n c f.ranges)(a4:f.ranges≠[]->∀y,a=E y->¬B y.block/\y.block<w.heap.size)(A:pM s f):
 Calls prog 79 #[π (E ⟨mb,0,N⟩),ε (bC f (Y a n c))] w λe m=>e=ξ (I X (s.take f).1)/\bP w.heap.size w mb B (s.take f).2 m:=by
 refine r8 (λ(s':ah) m=>bP w.heap.size w mb B s' m) (s.take f).2 λR hR=>?_
 obtain⟨j,p⟩:=í (w.alloc (ο (bC f (Y a n c)) 158));have g1:G w j N:=by rw[p];exact aC _ _ _
 have z:j.heap[w.heap.size]?=E (ο (bC f (Y a n c)) 158 (0,0)):=by rw[p];exact aM _ _
 have q:=H.ag g1;have x:=hr.ag g1;have ao:f.ranges≠[]->∀y,a=E y->¬B y.block/\y.block<j.heap.size:=λak y ey=>⟨(a4 ak y ey).1,bX (a4 ak y ey).2 g1.size⟩
 have W:=J (λs' m(h:bP j.heap.size j mb B s' m)=>(show R s' m by rw[hR];exact h.pre g1));have hsame:=J (λm(g:G j m N)=>Z W s m (q.to g));obtain⟨F,hF⟩:=í w.heap.size;have nF:¬B F:=λe=>by have:=H.lt _ e;omega
 rw[<-hF]at z;unfold bC at *;let⟨x0,x1,x2,x3,x4,x5,x6⟩:=bQ z
 have M:=q.mc;replace hR:=J hR;by_cases k3:f.kind=3
 .have u:s.take f=if s.next<=(an f.ranges 0).hi then(8,s)else(0,s.lE f.ranges):=by unfold ah.take;rw[aH k3]
  rw[u];have ak:=A.Gd k3;have bw:=qt.2 ak;obtain⟨b,o,rfl,y1⟩:∃b o,a=E ⟨b,o,N⟩/\κ j ⟨b,o+1,N⟩=E (I U (an f.ranges 0).hi):=by
   obtain h0|⟨b,o,rfl,-⟩:=x.2.2.2.2
   have:=x.2.1;have:=x.2.2.1;omega;exact⟨b,o,Q,by simpa using (x.cell 0 bw).2⟩
  have b3:=M.next;have hn:=x.2.1;have b4:=x.2.2.1;have bx:=x.2.2.2.1;unfold maxLen at bx;have b5:(0:Int)<n:=O;have gr:G j j.drew N:=aK (au _ N);have bz:=J ((QR j.drew mb l s B (q.ag gr) (E ⟨b,o,N⟩) n c f.ranges (x.ag gr) (λak y ey=>⟨(ao ak y ey).1,bX (ao ak y ey).2 gr.size⟩) hs.ay hs.af hs.len));have d:=J (λm(h:jA j.drew mb B s (s.ay.foldl (jm f.ranges) s.outs) m)=>Z W _ m (h.to.pre gr));have al:=J (Z hsame _ gr);rw[k3]at x0 p⊢;obtain⟨ax,hh⟩:=í ((an f.ranges 0).hi);rw[<-hh]at y1⊢;replace hn:=J hn;by_cases c1:s.next<=ax
  .have d1:decide (ax≥s.next)=ρ:=bU c1;rw[aH c1];go_enter func79,ntmps79;go_upto_region 3 with fail;rw[<-p,<-hF];clear p hF;go_region;go_wp2;go_ret;exact⟨Q,Z al⟩
  have d1:decide (ax≥s.next)=θ:=bT c1;rw[aE c1];go_enter func79,ntmps79;go_upto_region 3 with fail;rw[<-p,<-hF];clear p hF;go_region;go_wp2_with (go_at_call 119;apply(Z bz).mono;rintro e w5⟨rfl,hA⟩;have a0:=J (Z d _ hA);clear hA);go_ret;exact⟨Q,Z a0⟩
 by_cases k4:f.kind=4
 .let⟨s1,s2⟩:=A.st (φ k4)
  obtain⟨k,hk⟩:∃k:Nat,f.stream=(k:Int):=⟨f.stream.toNat,O⟩
  have L:k<4:=O;have ek:f.stream.toNat=k:=O;have u:s.take f=if(s.ins k).uv f then(7,s)else(0,{s with ins:=aB s.ins k ((s.ins k).reset f)}):=by unfold ah.take;rw[aE k3,aH k4,ek]
  rw[u];have bA:=M.ins;have r0:=q.ins.row k L;have bM:=q.ins.ci;unfold maxLen at bM;have I0:=dI.tJ (q.yK L);have ai:=J (λ(m:D) i' a1 a2(T:dI j m (l.ib k) (l.vd k) (l.vt k) a1 a2 i')=>Z W _ m (q.A9 L T));have al:=J (Z hsame _ (aq (aK (au j N)) (aK (au _ N))));have a8:¬ur (l.ib k) (l.vd k) (l.vt k) F:=λe=>by
   obtain e|e|e:=e
   exact nF (e▸(q.bn.aF k L).1);exact nF (qm (q.bn.aF k L).2.1 F e);exact nF (qm (q.bn.aF k L).2.2 F e)
  have S:=J (λwr a1 a2 i'(T:dI j wr (l.ib k) (l.vd k) (l.vt k) a1 a2 i')=>(T.aA.block F (aV.1 z).1 a8).trans z);obtain⟨ib,a9⟩:=í (l.ib k);obtain⟨vd,bb⟩:=í (l.vd k);obtain⟨vt,bj⟩:=í (l.vt k);obtain⟨i,br⟩:=í (s.ins k);rw[<-a9]at r0 I0 ai S;rw[<-bb,<-bj]at I0 ai S;rw[<-br]at I0⊢;let⟨j0,j1,j2,j3,j4,j5,j6,j7,j8,jf⟩:=I0.at_.ic
  replace I0:=J I0;rw[k4,hk]at z p⊢;rw[k4]at x0;rw[hk]at x1;have r:Hid (i.uv f=((i.ended&&(i.end_ !=f.offset))||decide (f.offset<i.high))):=J Q;obtain⟨t,ht⟩:=í (i.uv f);rw[<-ht]at r⊢;have i0:(0:Int)<=k:=O;have i1:(k:Int)<4:=O;obtain⟨wb,C⟩:=í j.drew.drew;have Ib:=(Z I0).gb (show G j wb N by rw[C];exact aq (aK (au j N)) (aK (au _ N)));rw[<-C]at al;replace Ib:=J Ib;obtain⟨P,K⟩:∃P:Int×ah,P=if t=ρ then(7,s)else(0,{s with ins:=aB s.ins k (i.reset f)}):=⟨_,rfl⟩
  rw[<-K];replace K:=J K;clear x q M u A hs ao W hsame k3 k4 a9 bb bj br ht a8 s1 s2 ek jf;replace⟨hk,z⟩:=aT hk z;go_enter func79,ntmps79;go_upto_region 7 with fail;rw[<-p,<-hF];clear p hF;go_region;go_upto_region 8 with fail;go_cut [55] (λv wx=>v=β t/\wx=wb);case first=>
   clear ai S K;replace C:=J C;obtain c1|c1:=(oX i.ended).symm
   .rw[c1]at j4 r;replace c1:=J c1;by_cases c2:f.offset<i.high
    .have d2:decide (f.offset<i.high)=ρ:=bU c2;have d:Hid (t=ρ):=J (by rw[Z r,d2];rfl);clear r;go_region;go_wp2;go_meet;exact⟨by rw[Z d],(Z C).symm⟩
    have d2:decide (f.offset<i.high)=θ:=bT c2;have d:Hid (t=θ):=J (by rw[Z r,d2];rfl);clear r;go_region;go_wp2;go_meet;exact⟨by rw[Z d],(Z C).symm⟩
   rw[c1]at j4 r;replace c1:=J c1;cases c3:(i.end_ !=f.offset)
   .by_cases c2:f.offset<i.high
    .have d2:decide (f.offset<i.high)=ρ:=bU c2;have d:Hid (t=ρ):=J (by rw[Z r,d2,c3];rfl);clear r;go_region;go_wp2;go_meet;exact⟨by rw[Z d],(Z C).symm⟩
    have d2:decide (f.offset<i.high)=θ:=bT c2;have d:Hid (t=θ):=J (by rw[Z r,d2,c3];rfl);clear r;go_region;go_wp2;go_meet;exact⟨by rw[Z d],(Z C).symm⟩
   have d:Hid (t=ρ):=J (by rw[Z r,c3];rfl);clear r;go_region;go_wp2;go_meet;exact⟨by rw[Z d],(Z C).symm⟩
  case rest=>
   obtain⟨rfl,bt⟩:=hcut;rw[bt];clear C bt j0 j1 j2 j3 j4 j5 j6 j7 j8 x0 x1 x2 x3 x4 x5 x6 I0 r r0 bA z;let⟨x0,x1,x2,x3,x4,x5,x6⟩:=bQ (Z S _ _ _ _ (Z Ib))
   let⟨j0,j1,j2,j3,j4,j5,j6,j7,j8,jf⟩:=(Z Ib).at_.ic
   cases t with
   |true=>
    have d:Hid (P.1=7/\R P.2 wb):=J (by rw[Z K];exact⟨Q,Z al⟩);clear ai S;go_wp2;go_ret;exact⟨by rw[(Z d).1];rfl,(Z d).2⟩
   |false=>
    obtain⟨w4,a3⟩:=í ((ζ wb ⟨ib,4,N⟩ (β ρ)).setCell ⟨ib,3,N⟩ (I U f.offset));have V:=((Z Ib).cell 4 (β ρ) {i with ended:=ρ} rfl rfl rfl).cell 3 (I U f.offset) {i with ended:=ρ,end_:=f.offset} rfl rfl rfl;rw[<-a3]at V;have f3:=jf 3;have f4:=jf 4;obtain⟨g,hg⟩:=í i.given;obtain⟨-,-,-,-,-,z5,z6,-,-,zf⟩:=V.at_.ic;obtain⟨-,-,-,y3,-,-,-⟩:=bQ (Z S _ _ _ _ V);have y2:=(bQ (Z S _ _ _ _ ((Z Ib).cell 4 (β ρ) {i with ended:=ρ} rfl rfl rfl))).2.2.1;simp only at z5 z6;rw[<-hg]at z5;have b6:=zf 5;have b7:=zf 6;go_upto_region 12 with fail;rw[<-a3];clear a3 x0 x1 x2 x3 x4 x5 x6 j0 j1 j2 j3 j4 j5 j6 j7 j8 jf zf f3 f4 y2;cases g with
    |true=>
     have d:Hid (P.1=0/\R P.2 (ζ w4 ⟨ib,5,N⟩ (β ρ))):=J (by
      rw[Z K];refine⟨Q,Z ai _ _ vd vt ?_⟩
      have e:i.reset f={i with ended:=ρ,end_:=f.offset,given:=ρ}:=by unfold aL.reset;rw[<-hg];rfl
      rw[e];exact V.cell 5 (β ρ) {i with ended:=ρ,end_:=f.offset,given:=ρ} rfl rfl rfl)
     clear ai S hg;replace V:=J V;go_wp2;go_ret;exact⟨by rw[(Z d).1];rfl,(Z d).2⟩
    |false=>
     have I6:=V.cell 6 (I U f.code) {i with ended:=ρ,end_:=f.offset,code:=f.code} rfl rfl rfl;have v5:=I6.at_.ic.c5;have v6:=I6.at_.ic.fz 5;have d:Hid (P.1=0/\R P.2 ((ζ w4 ⟨ib,6,N⟩ (I U f.code)).setCell ⟨ib,5,N⟩ (β ρ))):=J (by
      rw[Z K];refine⟨Q,Z ai _ _ vd vt ?_⟩
      have e:i.reset f={i with ended:=ρ,end_:=f.offset,code:=f.code,given:=ρ}:=by unfold aL.reset;rw[<-hg];rfl
      rw[e];exact I6.cell 5 (β ρ) {i with ended:=ρ,end_:=f.offset,code:=f.code,given:=ρ} rfl rfl rfl)
     clear ai S hg;replace⟨V,I6⟩:=aT V I6;go_wp2;go_ret;exact⟨by rw[(Z d).1];rfl,(Z d).2⟩
 by_cases k5:f.kind=5
 .let⟨s1,s2⟩:=A.st (ψ k5)
  obtain⟨k,hk⟩:∃k:Nat,f.stream=(k:Int):=⟨f.stream.toNat,O⟩
  have L:k<4:=O;have ek:f.stream.toNat=k:=O;have u:s.take f=(((s.ins k).bytes f).1,{s with ins:=aB s.ins k ((s.ins k).bytes f).2}):=by unfold ah.take;rw[aE k3,aE k4,aH k5,ek]
  rw[u];have hB:=J (QK j mb l s B q f (Y a n c) k L hk A.off.1 (A.en k5) (hs.ins k L) (by rw[<-ek];exact A.sm k5));have d:=J (λm(h:bP j.heap.size j mb B {s with ins:=aB s.ins k ((s.ins k).bytes f).2} m)=>Z W _ m h);rw[k5]at x0 p⊢;unfold bC at hB;rw[k5]at hB;obtain⟨P,K⟩:=í (((s.ins k).bytes f));rw[<-K]at hB d⊢;clear x q M u A hs ao z W hsame k3 k4 k5 K hk s1 s2 ek;go_enter func79,ntmps79;go_upto_region 1 with fail;rw[<-p,<-hF];clear p hF;go_wp2_with (go_at_call 120;apply(Z hB).mono;rintro e w5⟨rfl,hA⟩;have a0:=J (Z d _ hA);clear hA);go_ret;exact⟨Q,Z a0⟩
 have e3:(f.kind==3)=θ:=by simpa using k3
 have e4:(f.kind==4)=θ:=by simpa using k4
 have e5:(f.kind==5)=θ:=by simpa using k5
 have al:=J (Z hsame _ (au j N));by_cases k6:f.kind=6
 .have u:s.take f=(10,s):=by unfold ah.take;rw[aE k3,aE k4,aE k5,aH k6]
  rw[u];rw[k6]at x0 p⊢;clear x q M u A hs ao z W hsame k3 k4 k5 k6 e3 e4 e5;go_enter func79,ntmps79;go_upto_region 1 with fail;rw[<-p,<-hF];clear p hF;go_wp2;go_ret;exact⟨Q,Z al⟩
 have e6:(f.kind==6)=θ:=by simpa using k6
 have u:s.take f=(0,s):=by unfold ah.take;rw[aE k3,aE k4,aE k5,aE k6]
 rw[u];clear x q M u A hs ao z W hsame;go_enter func79,ntmps79;go_upto_region 1 with fail;rw[<-p,<-hF];clear p hF;go_wp2;go_ret;exact⟨Q,Z al⟩
def Ge{l:cz}(h:cI f.key)(v:υ)(d:List Int):(mL f l).toArray.setIfInBounds 25 v=(mL {f with due:=d} {l with pK:=v}).toArray:=by
 let⟨_,_,_,_,_,_,_,_,_,_,_,_,_,_,_,_,e⟩:=uo h
 unfold mL;rw[e];rfl
def bV.QV{l:cz}(h:bV w k l f S){z:cg}(T:rK w W l.aX l.vg z):
 ∃H u,bV W k H {f with aX:=z} u/\(∀j,u j->S j\/w.heap.size<=j)/\aj w W S:=by
 let⟨s,x,g,B⟩:=T
 have C:=(aj.of g).mono (λj _ e=>(aR e).symm);have p:∀q:List TypeId,135∉q->fO w (λj=>j=l.aX) q:=λq K=>fO.one h.cq.aX.ty K
 have F:∀b v y,fg w b v y->b≠l.aX->fg W b v y:=λb v y L M=>L.aA C M (λj e=>p [200] Θ j e _ Γ)
 have i:=h.ins.frame C (p _ Θ);have t:=h.ay.frame C (p _ Θ);refine⟨{l with vg:=s},λj=>S j\/(∃y n c,s=Y (E y) n c/\y.block=j),⟨?_,h.key,⟨?_,?_,h.outs.co,?_,?_,h.outs.od,h.outs.cd⟩,⟨x,?_,h.cq.ne,h.cq.nc⟩,⟨i.row,i.kz,i.ci,i.aF,i.data,i.there,i.id,i.dd,i.td⟩,(h.due.frame C (p _ Θ)),⟨t.row,t.len,t.fr⟩,?_,?_,?_⟩,?_,C.mono (λj _ e=>e▸h.bn.aX.1)⟩
 exact(C.block k (h.lt _ h.bn.m) (λe=>by
  have:Ty w k 107:=⟨_,_,h.aG⟩
  exact p [107] Θ k e _ Γ this)).trans h.aG
 exact λj d=>(iB (C.block _ h.outs.gK.lt (λe=>p [108] Θ _ e _ Γ h.outs.gK))).trans (h.outs.row j d)
 exact h.outs.gK.aA C (λe=>p [108] Θ _ e _ Γ h.outs.gK);intro j d;exact(C.block _ (aV.1 (h.outs.out j d)).1 (λe=>p [110] Θ _ e _ Γ ⟨_,_,h.outs.out j d⟩)).trans (h.outs.out j d);intro j d;exact F _ _ _ (h.outs.af j d) (h.cq.nc j d).1;exact F _ _ _ h.cq.aU (λe=>h.cq.ne e.symm);have r:∀v,gL S v->gL (λj=>S j\/(∃y n c,s=Y (E y) n c/\y.block=j)) v:=λv P y n c e=>φ (P y n c e)
 have A:=h.bn;exact⟨φ A.m,⟨φ A.aX.1,λy n c e=>ψ ⟨y,n,c,e,Q⟩⟩,⟨φ A.aU.1,r _ A.aU.2⟩,φ A.ro,φ A.ri,λj d=>⟨φ (A.out j d).1,φ (A.out j d).2.1,r _ (A.out j d).2.2⟩,λj d=>⟨φ (A.aF j d).1,r _ (A.aF j d).2.1,r _ (A.aF j d).2.2⟩,r _ A.due,r _ A.ay.1,λy R=>r _ (A.ay.2 y R)⟩
 rintro j(d|⟨y,n,c,e,rfl⟩);exact bX (h.lt j d) C.size;obtain⟨a,n',c',V,-,h5⟩:=x.row;rw[V]at e;cases e;exact(h5 y Q).lt;rintro(h0|⟨y,n,c,e,h0⟩);exact h.n0 h0;obtain e2|e2:=B
 exact h.n0 (h0▸h.bn.aX.2 y n c (by rw[<-e2,e]));have:=e2 y n c e;have:=h.lt _ h.bn.m;omega;rintro j(d|⟨y,n,c,e,rfl⟩);simp_all;obtain e2|e2:=B
 exact φ (h.bn.aX.2 y n c (by rw[<-e2,e]));grind
def bV.QW{l:cz}(h:bV w k l f S){z:cg}(T:rK w W l.aU l.ve z):
 ∃H u,bV W k H {f with aU:=z} u/\(∀j,u j->S j\/w.heap.size<=j)/\aj w W S:=by
 let⟨s,x,g,B⟩:=T
 have C:=(aj.of g).mono (λj _ e=>(aR e).symm);have p:∀q:List TypeId,135∉q->fO w (λj=>j=l.aU) q:=λq K=>fO.one h.cq.aU.ty K
 have F:∀b v y,fg w b v y->b≠l.aU->fg W b v y:=λb v y L M=>L.aA C M (λj e=>p [200] Θ j e _ Γ)
 have i:=h.ins.frame C (p _ Θ);have t:=h.ay.frame C (p _ Θ);refine⟨{l with ve:=s},λj=>S j\/(∃y n c,s=Y (E y) n c/\y.block=j),⟨?_,h.key,⟨?_,?_,h.outs.co,?_,?_,h.outs.od,h.outs.cd⟩,⟨?_,x,h.cq.ne,h.cq.nc⟩,⟨i.row,i.kz,i.ci,i.aF,i.data,i.there,i.id,i.dd,i.td⟩,(h.due.frame C (p _ Θ)),⟨t.row,t.len,t.fr⟩,?_,?_,?_⟩,?_,C.mono (λj _ e=>e▸h.bn.aU.1)⟩
 exact(C.block k (h.lt _ h.bn.m) (λe=>by
  have:Ty w k 107:=⟨_,_,h.aG⟩
  exact p [107] Θ k e _ Γ this)).trans h.aG
 exact λj d=>(iB (C.block _ h.outs.gK.lt (λe=>p [108] Θ _ e _ Γ h.outs.gK))).trans (h.outs.row j d)
 exact h.outs.gK.aA C (λe=>p [108] Θ _ e _ Γ h.outs.gK);intro j d;exact(C.block _ (aV.1 (h.outs.out j d)).1 (λe=>p [110] Θ _ e _ Γ ⟨_,_,h.outs.out j d⟩)).trans (h.outs.out j d);intro j d;exact F _ _ _ (h.outs.af j d) (h.cq.nc j d).2;exact F _ _ _ h.cq.aX h.cq.ne;have r:∀v,gL S v->gL (λj=>S j\/(∃y n c,s=Y (E y) n c/\y.block=j)) v:=λv P y n c e=>φ (P y n c e)
 have A:=h.bn;exact⟨φ A.m,⟨φ A.aX.1,r _ A.aX.2⟩,⟨φ A.aU.1,λy n c e=>ψ ⟨y,n,c,e,Q⟩⟩,φ A.ro,φ A.ri,λj d=>⟨φ (A.out j d).1,φ (A.out j d).2.1,r _ (A.out j d).2.2⟩,λj d=>⟨φ (A.aF j d).1,r _ (A.aF j d).2.1,r _ (A.aF j d).2.2⟩,r _ A.due,r _ A.ay.1,λy R=>r _ (A.ay.2 y R)⟩
 rintro j(d|⟨y,n,c,e,rfl⟩);exact bX (h.lt j d) C.size;obtain⟨a,n',c',V,-,h5⟩:=x.row;rw[V]at e;cases e;exact(h5 y Q).lt;rintro(h0|⟨y,n,c,e,h0⟩);exact h.n0 h0;obtain e2|e2:=B
 exact h.n0 (h0▸h.bn.aU.2 y n c (by rw[<-e2,e]));have:=e2 y n c e;have:=h.lt _ h.bn.m;omega;rintro j(d|⟨y,n,c,e,rfl⟩);simp_all;obtain e2|e2:=B
 exact φ (h.bn.aU.2 y n c (by rw[<-e2,e]));grind
def Gf:(prog.info? 30).map (λi=>(i.zero,i.size,i.bytes))=E (E (I U 0),1,8):=Φ
def bV.QX{l:cz}(h:bV W b l f S)(n:Int)(hl:f.due.length<=100000000)(hb:V=W.alloc (ο #[I U n] 30)):
 ∃d g p u,(Builtin.append_ #[78,78] 78 #[l.pK,Y (E ⟨W.heap.size,0,N⟩) 1 1]).run prog V=.ok (Y d g p) u/\MC u b f l/\bP W.heap.size W b S {f with due:=f.due++[n]} (ζ u ⟨b,25,N⟩ (Y d g p)):=by
 have gb:G W V N:=by rw[hb];exact aC _ _ _
 have a8:V.heap[W.heap.size]?=E (ο #[I U n] 30 (0,0)):=by rw[hb];exact aM _ _
 have r:=h.ag gb;let⟨d,g,p,u,hr,R,h3,h4⟩:=uu (w:=V) 78 30 _ 8 Gf underlying78 Q Θ _ _ _ r.due W.heap.size (I U n) Q (by simp[κ,a8]) hl 1
 have K:Ty V b 107:=⟨_,_,r.aG⟩
 have T:=aj.of h3;have nm:l.pK.ownBlock≠E b:=λe=>absurd ((cN r.due _ e).uniq K) Θ
 have L:=(T.block b K.lt nm).trans r.aG;have br:(ζ u ⟨b,25,N⟩ (Y d g p)).heap[b]?=E (ο (mL {f with due:=f.due++[n]} {l with pK:=Y d g p}).toArray 107 (0,0)):=by
  rw[heap_set L,Ge h.key]
 have C3:=(aj.of (aD (au u (E b)) ⟨b,25,N⟩ (Y d g p) (ψ Q))).mono (λk _ e=>(aR e).symm);have C:=T.trans C3;have M:∀q:List TypeId,30∉q->107∉q->fO V (λk=>l.pK.ownBlock=E k\/k=b) q:=λq h1 R k x t ht a1=>by
  obtain e|e:=x
  exact h1 ((cN r.due _ e).uniq a1▸ht);subst e;exact R (K.uniq a1▸ht)
 have F:=r.outs.frame C (M _ Θ Θ);have P:=r.cq.frame C (M _ Θ Θ);have z:=r.ins.frame C (M _ Θ Θ);have ai:=r.ay.frame C (M _ Θ Θ);have a2:u.ownsRow 0 30 1 (Y d g p) (f.due++[n]).length ((f.due++[n]).map (I U ·)):=by rw[bS,oj];exact R
 have bw:Ty u b 107:=⟨_,_,L⟩
 have a3:=dA a2 C3 (λk e1 e2=>by subst e2;exact absurd ((cN a2 _ e1).uniq bw) Θ);have a4:∀k,(Y d g p).ownBlock=E k->S k\/W.heap.size<=k:=λk ek=>by
  obtain e|e:=h4
  exact φ (qm h.bn.due k (e▸ek));grind
 refine⟨d,g,p,u,hr,?_,_,λk=>S k\/(Y d g p).ownBlock=E k,⟨br,h.key,⟨F.row,F.gK,F.co,F.out,F.af,F.od,F.cd⟩,⟨P.aX,P.aU,P.ne,P.nc⟩,⟨z.row,z.kz,z.ci,z.aF,z.data,z.there,z.id,z.dd,z.td⟩,a3,⟨ai.row,ai.len,ai.fr⟩,?_,?_,?_⟩,?_,?_⟩
 have s:=A1 (f:=f) (l:=l) h.key;have a:∀i v,(mL f l).toArray[i]?=E v->κ u ⟨b,i,N⟩=E v:=λi v hv=>(ba L i).trans hv
 have bz:(mL f l).toArray[0]?=E (I X f.az):=rfl;have bA:(mL f l).toArray[1]?=E (I X f.av):=rfl;refine⟨a 0 _ bz,a 1 _ bA,?_,a 18 _ (s 0 _ Q),a 19 _ (s 1 _ Q),a 20 _ (s 2 _ Q),a 21 _ (s 3 _ Q),a 22 _ (s 4 _ Q),a 23 _ (s 5 _ Q),a 24 _ (s 6 _ Q),a 25 _ (s 7 _ Q),a 26 _ (s 8 _ Q),a 27 _ (s 9 _ Q),a 28 _ (s 10 _ Q),λo=>by simp[χ,L]⟩
 exact λj v B=>(iB (T.block b K.lt nm)).trans (r.mc.key j v B)
 have H:∀v,gL S v->gL (λk=>S k\/(Y d g p).ownBlock=E k) v:=λv hv y n c e=>φ (hv y n c e)
 have A:=h.bn;exact⟨φ A.m,⟨φ A.aX.1,H _ A.aX.2⟩,⟨φ A.aU.1,H _ A.aU.2⟩,φ A.ro,φ A.ri,λj B=>⟨φ (A.out j B).1,φ (A.out j B).2.1,H _ (A.out j B).2.2⟩,λj B=>⟨φ (A.aF j B).1,H _ (A.aF j B).2.1,H _ (A.aF j B).2.2⟩,λy n c e=>ψ (by cases e;rfl),H _ A.ay.1,λy hy=>H _ (A.ay.2 y hy)⟩
 rintro k(x|x);exact bX (r.lt k x) C.size;exact(cN a3 _ x).lt;rintro(h0|h0);exact h.n0 h0;obtain e|e:=a4 0 h0
 exact h.n0 e;have:=h.lt _ h.bn.m;omega;rintro k(x|x);exact φ x;exact a4 k x;refine((aj.of gb).trans C).mono (λk x e=>?_);obtain e|e|e:=e
 cases e;exact qm h.bn.due k e;subst e;exact h.bn.m
def mI(l:List Rg)(r:Rg):Bool:=l.any (λq=>decide (q.lo<=r.lo)&&decide (r.hi<=q.hi))
def ah.told(s:ah)(l:List Rg)(n:Int):Bool:=decide (n<s.aX.floor)||bK l n
def ah.dW(s:ah)(f:Fr):ah:={s with due:=s.due.filter (λn=> !s.told f.ranges n)}
def QZ{r:Rg}(h:n<s.length):mI (s.take (n+1)) r=(mI (s.take n) r||(decide ((an s n).lo<=r.lo)&&decide (r.hi<=(an s n).hi))):=by
 unfold mI;rw[oa h,List.any_append];simp[an,List.getD,h]
def Q0{p:Int->Bool}(h:j<L.length):(L.take (j+1)).filter p=if p (L.getD j 0)then(L.take j).filter p++[L.getD j 0]else(L.take j).filter p:=by
 rw[oa h,List.filter_append];grind
def Bf{wr:D}(g:G w wr N)(c:∀k,x.ownBlock=E k->w.heap.size<=k)(d:G wr W x.ownBlock):G w W N:=by
 have a:=aq (cK g _) d;cases b:x.ownBlock with
 |none=>rw[b]at a;exact a
 |some k=>rw[b]at a;exact nB a (c k b)
structure lY(w wr:D)(v:υ)(l:List Int):Prop where
 g:G w wr N
 own:wr.ownsRow 0 30 1 v l.length (l.map (I U ·))
 new:∀k,v.ownBlock=E k->w.heap.size<=k
def lY.gb{w wr:D}(h:lY w wr x L)(g:G wr W N):lY w W x L:=⟨aq h.g g,dA h.own (aj.of g) (λk _ e=>by cases e),h.new⟩
def lY.app{wr:D}(h:lY w wr x L)(n:Int)(hl:L.length<=100000000)(j:W=wr.alloc (ο #[I U n] 30)):
 ∃a b c d,(Builtin.append_ #[78,78] 78 #[x,Y (E ⟨wr.heap.size,0,N⟩) 1 1]).run prog W=.ok (Y a b c) d/\lY w d (Y a b c) (L++[n]):=by
 have gb:G wr W N:=by rw[j];exact aC _ _ _
 have r:W.heap[wr.heap.size]?=E (ο #[I U n] 30 (0,0)):=by rw[j];exact aM _ _
 have f:=h.gb gb;let⟨a,b,c,d,l,m,p,q⟩:=uu (w:=W) 78 30 _ 8 Gf underlying78 Q Θ x _ _ f.own wr.heap.size (I U n) Q (by simp_all) hl 1
 refine⟨a,b,c,d,l,Bf f.g f.new p,by rw[bS,oj];exact m,λk i=>?_⟩
 obtain e|e:=q
 exact h.new k (e▸i);rw[e]at i;cases i;exact f.g.size
def bV.Gg{wr:D}{l:cz}(h:bV w i l f S)(L:lY w wr (Y a n o) K):
 bP w.heap.size w i S {f with due:=K} (ζ wr ⟨i,25,N⟩ (Y a n o)):=by
 have c:=h.ag L.g;have B:Ty wr i 107:=⟨_,_,c.aG⟩
 have F:(ζ wr ⟨i,25,N⟩ (Y a n o)).heap[i]?=E (ο (mL {f with due:=K} {l with pK:=Y a n o}).toArray 107 (0,0)):=by
  rw[heap_set c.aG,Ge h.key]
 have H:=aD (au wr (E i)) ⟨i,25,N⟩ (Y a n o) (ψ Q);have d:=(aj.of H).mono (λk _ e=>(aR e).symm);have u:∀q:List TypeId,107∉q->fO wr (λk=>k=i) q:=λq M=>fO.one B M
 have p:=c.outs.frame d (u _ Θ);have x:=c.cq.frame d (u _ Θ);have b:=c.ins.frame d (u _ Θ);have z:=c.ay.frame d (u _ Θ);have C:=dA L.own d (λk e1 e2=>by subst e2;exact absurd ((cN L.own _ e1).uniq B) Θ);have P:=d.size;refine⟨_,λk=>S k\/(Y a n o).ownBlock=E k,⟨F,h.key,⟨p.row,p.gK,p.co,p.out,p.af,p.od,p.cd⟩,⟨x.aX,x.aU,x.ne,x.nc⟩,⟨b.row,b.kz,b.ci,b.aF,b.data,b.there,b.id,b.dd,b.td⟩,C,⟨z.row,z.len,z.fr⟩,?_,?_,?_⟩,?_,?_⟩
 have r:∀v,gL S v->gL (λk=>S k\/(Y a n o).ownBlock=E k) v:=λv R y n o e=>φ (R y n o e)
 have A:=h.bn;exact⟨φ A.m,⟨φ A.aX.1,r _ A.aX.2⟩,⟨φ A.aU.1,r _ A.aU.2⟩,φ A.ro,φ A.ri,λj s=>⟨φ (A.out j s).1,φ (A.out j s).2.1,r _ (A.out j s).2.2⟩,λj s=>⟨φ (A.aF j s).1,r _ (A.aF j s).2.1,r _ (A.aF j s).2.2⟩,λy n o e=>ψ (by cases e;rfl),r _ A.ay.1,λy T=>r _ (A.ay.2 y T)⟩
 rintro k(t|t);exact bX (c.lt k t) P;exact(cN C _ t).lt;rintro(h0|h0);exact h.n0 h0;have:=L.new 0 h0;have:=h.lt _ h.bn.m;omega;rintro k(t|t);simp_all;exact ψ (L.new k t);refine((aj.of L.g).trans d).mono (λk t e=>?_);obtain e|e:=e
 cases e;subst e;exact h.bn.m
def cg.GA:cg:=⟨[],0,8⟩
def cg.sI:cg:=⟨[],0,1073741824⟩
def dH.new:dH:=⟨⟨#[]⟩,cg.sI,θ,θ,0,0,0⟩
def aL.new:aL:=⟨[],[],0,0,θ,θ,0,0,0⟩
def ah.new(az av:Int)(key:List Int)(f:Bool):ah:=⟨az,av,key,if f then 0 else 1,0,0,θ,0,cg.GA,cg.sI,[],λ_=>dH.new,λ_=>aL.new,[]⟩
def nV:υ:=Y N 0 0
def nL(az av:Int)(key:List υ)(me:Int)(aX aU:Nat)(a vi:υ):List υ:=
 [I X az,I X av]++key++[I X me,I X 0,I U 0,β θ,I U 0,π (E ⟨aX,0,N⟩),π (E ⟨aU,0,N⟩),nV,a,vi,nV]
def sJ(f:Nat->Nat)(j:Nat):List υ:=(List.range j).map (λk=>π (E ⟨f k,0,N⟩))
def GB(f:Nat->Nat)(j x:Nat):sJ (aB f j x) (j+1)=sJ f j++[π (E ⟨x,0,N⟩)]:=by
 unfold sJ;rw[rV,oj];congr 1;apply wN;intro k a;rw[bI _ _ (by grind)];simp[bN]
structure sK(b:Nat)(wr:D)(aX aU:Nat)(ob cb ib:Nat->Nat)(a c:Nat):Prop where
 sL:fg wr aX nV cg.GA
 sM:fg wr aU nV cg.sI
 ne:aX≠aU
 out:∀k,k<a->wr.heap[ob k]?=E (ο (qk dH.new (cb k)) 110 (0,0))
 af:∀k,k<a->fg wr (cb k) nV cg.sI
 aF:∀k,k<c->wr.heap[ib k]?=E (ο (nU aL.new nV nV) 114 (0,0))
 od:∀i j,i<a->j<a->i≠j->ob i≠ob j
 cd:∀i j,i<a->j<a->i≠j->cb i≠cb j
 id:∀i j,i<c->j<c->i≠j->ib i≠ib j
 nc:∀k,k<a->cb k≠aX/\cb k≠aU
 lo:b<=aX/\b<=aU/\(∀k,k<a->b<=ob k/\b<=cb k)/\∀k,k<c->b<=ib k
def sK.frame{wr:D}{ob cb ib:Nat->Nat}(h:sK n wr i l ob cb ib m o)(C:aj wr w S)(b:fO wr S [135,200,110,114]):sK n w i l ob cb ib m o:=
 ⟨h.sL.aA C (λe=>b _ e _ Γ h.sL.ty) (λj e=>b j e _ Γ),h.sM.aA C (λe=>b _ e _ Γ h.sM.ty) (λj e=>b j e _ Γ),h.ne,λk a=>(C.block _ (aV.1 (h.out k a)).1 (λe=>b _ e _ Γ ⟨_,_,h.out k a⟩)).trans (h.out k a),λk a=>(h.af k a).aA C (λe=>b _ e _ Γ (h.af k a).ty) (λj e=>b j e _ Γ),λk a=>(C.block _ (aV.1 (h.aF k a)).1 (λe=>b _ e _ Γ ⟨_,_,h.aF k a⟩)).trans (h.aF k a),h.od,h.cd,h.id,h.nc,h.lo⟩
def sK.gb{wr:D}{ob cb ib:Nat->Nat}(h:sK n wr i j ob cb ib l m)(g:G wr w N):sK n w i j ob cb ib l m:=h.frame (aj.of g) (nofun)
structure kn(w:D)(wr:D)(mb:Nat)(az av:Int)(key:List υ)(me:Int)(aX aU:Nat)(a vi:υ)(ob cb ib:Nat->Nat)(b c:Nat):Prop where
 g:G w wr N
 aG:wr.heap[mb]?=E (ο (nL az av key me aX aU a vi).toArray 107 (0,0))
 rN:w.heap.size<=mb
 ro:wr.ownsRow 0 108 1 a b (sJ ob b)
 ri:wr.ownsRow 0 111 1 vi c (sJ ib c)
 jH:(∀k,a.ownBlock=E k->w.heap.size<=k)/\∀k,vi.ownBlock=E k->w.heap.size<=k
 core:sK w.heap.size wr aX aU ob cb ib b c
def kn.gb{w wr:D}{key:List υ}{ob cb ib:Nat->Nat}(h:kn w wr n p q key r i j x y ob cb ib l m)(g:G wr W N):kn w W n p q key r i j x y ob cb ib l m:=
 ⟨aq h.g g,bp h.aG g,h.rN,dA h.ro (aj.of g) (λk _ e=>by cases e),dA h.ri (aj.of g) (λk _ e=>by cases e),h.jH,h.core.gb g⟩
def RI{key:List υ}(a:key.length=16):(nL p q key r n k x y).toArray.setIfInBounds 26 z=(nL p q key r n k z y).toArray:=by
 let⟨_,_,_,_,_,_,_,_,_,_,_,_,_,_,_,_,e⟩:=rJ _ a
 unfold nL;rw[e];rfl
def RJ{key:List υ}(a:key.length=16):(nL p q key r n k x y).toArray.setIfInBounds 27 z=(nL p q key r n k x z).toArray:=by
 let⟨_,_,_,_,_,_,_,_,_,_,_,_,_,_,_,_,e⟩:=rJ _ a
 unfold nL;rw[e];rfl
def sN{wr:D}{key:List υ}(b:key.length=16)(a:wr.heap[n]?=E (ο (nL q r key t k i x y).toArray 107 (0,0))):κ wr ⟨n,18,N⟩=E (I X t)/\κ wr ⟨n,26,N⟩=E x/\κ wr ⟨n,27,N⟩=E y/\∀p,χ wr ⟨n,p,N⟩=θ:=by
 let⟨_,_,_,_,_,_,_,_,_,_,_,_,_,_,_,_,e⟩:=rJ _ b
 rw[e]at a;refine⟨?_,?_,?_,λp=>by simp[χ,a]⟩
 rw[ba a];rfl;rw[ba a];rfl;rw[ba a];rfl
def RK:(prog.info? 108).map (λi=>(i.zero,i.size,i.bytes))=E (E (π N),1,8):=Φ
def RL:(prog.info? 111).map (λi=>(i.zero,i.size,i.bytes))=E (E (π N),1,8):=Φ
def kn.RM{wr:D}{key:List υ}{ob cb ib:Nat->Nat}(h:kn w wr n p r key q l m x y ob cb ib j o)(d:key.length=16)(hj:j<=100)(T:G wr W N)(S5:fg W b nV cg.sI)(hc:wr.heap.size<=b)(a4:v=(W.alloc (ο (qk dH.new b) 110)).alloc (ο #[π (E ⟨W.heap.size,0,N⟩)] 108)):
 ∃f s u c,(Builtin.append_ #[103,103] 103 #[x,Y (E ⟨W.heap.size+1,0,N⟩) 1 1]).run prog v=.ok (Y f s u) c/\κ c ⟨n,26,N⟩=E x/\χ c ⟨n,26,N⟩=θ/\kn w (ζ c ⟨n,26,N⟩ (Y f s u)) n p r key q l m (Y f s u) y (aB ob j W.heap.size) (aB cb j b) ib (j+1) o:=by
 have V:G W (W.alloc (ο (qk dH.new b) 110)) N:=aC _ _ _;have gb:(W.alloc (ο (qk dH.new b) 110)).grownBy v N:=by rw[a4];exact aC _ _ _
 have M:=bp (aM W _) gb;have a8:v.heap[W.heap.size+1]?=E (ο #[π (E ⟨W.heap.size,0,N⟩)] 108 (0,0)):=by
  have:=aM (W.alloc (ο (qk dH.new b) 110)) (ο #[π (E ⟨W.heap.size,0,N⟩)] 108);simp_all
 have g7:=aq T (aq V gb);have a:=h.gb g7;let⟨f,s,u,c,hr,F,h3,h4⟩:=uu (w:=v) 103 108 _ 8 RK underlying103 Q Θ x j _ a.ro (W.heap.size+1) (π (E ⟨W.heap.size,0,N⟩)) Q (by simp[κ,a8]) O 1
 have P:Ty v n 107:=⟨_,_,a.aG⟩
 have C2:=aj.of h3;have nm:x.ownBlock≠E n:=λe=>absurd ((cN a.ro _ e).uniq P) Θ
 have R:=(C2.block n P.lt nm).trans a.aG;have g9:=aD (au c (E n)) ⟨n,26,N⟩ (Y f s u) (ψ Q);have C3:=(aj.of g9).mono (λk _ e=>(aR e).symm);have C:=C2.trans C3;have z:∀H:List TypeId,108∉H->107∉H->fO v (λk=>x.ownBlock=E k\/k=n) H:=λH h1 F k d t ht a1=>by
  obtain e|e:=d
  exact h1 ((cN a.ro _ e).uniq a1▸ht);subst e;exact F (P.uniq a1▸ht)
 have K:=a.core.frame C (z _ Θ Θ);have bt:Ty c n 107:=⟨_,_,R⟩
 let⟨fI,bw,b3,cf⟩:=sN d R
 have S7:=S5.ag (aq V gb);have hz:=T.size;have hw:=h.g.size;have L:∀k,k<j->ob k<wr.heap.size/\cb k<wr.heap.size:=λk d=>⟨(aV.1 (h.core.out k d)).1,(h.core.af k d).ty.lt⟩
 have b6:l<wr.heap.size/\m<wr.heap.size:=⟨h.core.sL.ty.lt,h.core.sM.ty.lt⟩
 refine⟨f,s,u,c,hr,bw,cf 26,⟨?_,?_,h.rN,?_,dA a.ri C (λk e1 e2=>z [111] Θ Θ k e2 _ Γ (cN a.ri _ e1)),⟨?_,h.jH.2⟩,?_⟩⟩
 have q1:=Bf a.g h.jH.1 h3;exact nB (aq (cK q1 _) g9) h.rN;rw[heap_set R,RI d];rw[GB];exact dA F C3 (λk e1 e2=>by subst e2;exact absurd ((cN F _ e1).uniq bt) Θ);intro k S;obtain e|e:=h4
 exact h.jH.1 k (e▸S);rw[e]at S;cases S;have:=g7.size;omega;refine⟨K.sL,K.sM,K.ne,?_,?_,K.aF,?_,?_,K.id,?_,⟨K.lo.1,K.lo.2.1,?_,K.lo.2.2.2⟩⟩
 intro k A;by_cases e:k=j;subst e;rw[bN,bN];exact(C.block _ (aV.1 M).1 (λe=>z [110] Θ Θ _ e _ Γ ⟨_,_,M⟩)).trans M;rw[bI _ _ e,bI _ _ e];exact K.out k O;intro k A;by_cases e:k=j;subst e;rw[bN];exact S7.aA C (λe=>z [135] Θ Θ _ e _ Γ S7.ty) (λk e=>z [200] Θ Θ k e _ Γ);rw[bI _ _ e];exact K.af k O;intro i k hi A B;by_cases e:i=j;subst e;rw[bN,bI _ _ (λe=>B e.symm)];have:=(L k O).1;omega;by_cases e2:k=j;subst e2;rw[bN,bI _ _ e];have:=(L i O).1;omega;rw[bI _ _ e,bI _ _ e2];exact K.od i k O O B;intro i k hi A B;by_cases e:i=j;subst e;rw[bN,bI _ _ (λe=>B e.symm)];have:=(L k O).2;omega;by_cases e2:k=j;subst e2;rw[bN,bI _ _ e];have:=(L i O).2;omega;rw[bI _ _ e,bI _ _ e2];exact K.cd i k O O B;intro k A;by_cases e:k=j;subst e;rw[bN];omega;rw[bI _ _ e];exact K.nc k O;intro k A;by_cases e:k=j;subst e;rw[bN,bN];omega;rw[bI _ _ e,bI _ _ e];exact K.lo.2.2.1 k O
def kn.RN{wr:D}{key:List υ}{ob cb ib:Nat->Nat}(h:kn w wr n p r key q l m x y ob cb ib o j)(c:key.length=16)(hj:j<=100)(ao:W=(wr.alloc (ο (nU aL.new nV nV) 114)).alloc (ο #[π (E ⟨wr.heap.size,0,N⟩)] 111)):
 ∃d f s b,(Builtin.append_ #[104,104] 104 #[y,Y (E ⟨wr.heap.size+1,0,N⟩) 1 1]).run prog W=.ok (Y d f s) b/\κ b ⟨n,27,N⟩=E y/\χ b ⟨n,27,N⟩=θ/\kn w (ζ b ⟨n,27,N⟩ (Y d f s)) n p r key q l m x (Y d f s) ob cb (aB ib j wr.heap.size) o (j+1):=by
 have ga:G wr (wr.alloc (ο (nU aL.new nV nV) 114)) N:=aC _ _ _;have gb:(wr.alloc (ο (nU aL.new nV nV) 114)).grownBy W N:=by rw[ao];exact aC _ _ _
 have z:=bp (aM wr _) gb;have a0:W.heap[wr.heap.size+1]?=E (ο #[π (E ⟨wr.heap.size,0,N⟩)] 111 (0,0)):=by
  have:=aM (wr.alloc (ο (nU aL.new nV nV) 114)) (ο #[π (E ⟨wr.heap.size,0,N⟩)] 111);simp_all
 have L:=aq ga gb;have a:=h.gb L;let⟨d,f,s,b,hr,u,M,h4⟩:=uu (w:=W) 104 111 _ 8 RL underlying104 Q Θ y j _ a.ri (wr.heap.size+1) (π (E ⟨wr.heap.size,0,N⟩)) Q (by simp[κ,a0]) O 1
 have A:Ty W n 107:=⟨_,_,a.aG⟩
 have P:=aj.of M;have nm:y.ownBlock≠E n:=λe=>absurd ((cN a.ri _ e).uniq A) Θ
 have B:=(P.block n A.lt nm).trans a.aG;have R:=aD (au b (E n)) ⟨n,27,N⟩ (Y d f s) (ψ Q);have S:=(aj.of R).mono (λk _ e=>(aR e).symm);have C:=P.trans S;have F:∀v:List TypeId,111∉v->107∉v->fO W (λk=>y.ownBlock=E k\/k=n) v:=λv h1 u k c t T V=>by
  obtain e|e:=c
  exact h1 ((cN a.ri _ e).uniq V▸T);subst e;exact u (A.uniq V▸T)
 have K:=a.core.frame C (F _ Θ Θ);have a8:Ty b n 107:=⟨_,_,B⟩
 let⟨fI,bt,a9,cf⟩:=sN c B
 have hw:=h.g.size;have ai:∀k,k<j->ib k<wr.heap.size:=λk c=>(aV.1 (h.core.aF k c)).1
 refine⟨d,f,s,b,hr,a9,cf 27,⟨?_,?_,h.rN,dA a.ro C (λk e1 e2=>F [108] Θ Θ k e2 _ Γ (cN a.ro _ e1)),?_,⟨h.jH.1,?_⟩,?_⟩⟩
 have q1:=Bf a.g h.jH.2 M;exact nB (aq (cK q1 _) R) h.rN;rw[heap_set B,RJ c];rw[GB];exact dA u S (λk e1 e2=>by subst e2;exact absurd ((cN u _ e1).uniq a8) Θ);intro k H;obtain e|e:=h4
 exact h.jH.2 k (e▸H);rw[e]at H;cases H;have:=L.size;omega;refine⟨K.sL,K.sM,K.ne,K.out,K.af,?_,K.od,K.cd,?_,K.nc,⟨K.lo.1,K.lo.2.1,K.lo.2.2.1,?_⟩⟩
 intro k ak;by_cases e:k=j;subst e;rw[bN];exact(C.block _ (aV.1 z).1 (λe=>F [114] Θ Θ _ e _ Γ ⟨_,_,z⟩)).trans z;rw[bI _ _ e];exact K.aF k O;intro i k hi ak al;by_cases e:i=j;subst e;rw[bN,bI _ _ (λe=>al e.symm)];have:=ai k O;omega;by_cases e2:k=j;subst e2;rw[bN,bI _ _ e];have:=ai i O;omega;rw[bI _ _ e,bI _ _ e2];exact K.id i k O O al;intro k ak;by_cases e:k=j;subst e;rw[bN];omega;rw[bI _ _ e];exact K.lo.2.2.2 k O
def GC{f:Nat->Nat}(h:k<j):(sJ f j)[k]?=E (π (E ⟨f k,0,N⟩)):=by
 unfold sJ;grind
def kn.end_{wr:D}{ob cb ib:Nat->Nat}(h:kn w wr m p q (bv L) (if B then 0 else 1) o b z x ob cb ib 4 4)(r:cI L)(h0:0<w.heap.size):∃l,bV wr m l (ah.new p q L B) (λk=>w.heap.size<=k/\k<wr.heap.size):=by
 obtain⟨u,co,s,v,A,C,F⟩:=ns h.ro;obtain⟨H,ci,t,M,P,R,S⟩:=ns h.ri;cases u with
 |none=>have:=(C Q).1;omega
 |some f=>
  cases H with
  |none=>have:=(R Q).1;omega
  |some g=>
   obtain⟨T,ro⟩:=F f Q;obtain⟨V,ri⟩:=S g Q;have gK:Ty wr f.block 108:=cN h.ro _ (by rw[s];rfl);have kz:Ty wr g.block 111:=cN h.ri _ (by rw[t];rfl);have W:=h.jH.1 f.block (by rw[s];rfl);have ai:=h.jH.2 g.block (by rw[t];rfl);have K:=h.core;refine⟨⟨o,b,f.block,g.block,co,ci,ob,cb,ib,nV,nV,λ_=>nV,λ_=>nV,λ_=>nV,nV,nV,[]⟩,⟨?_,r,⟨?_,gK,⟨v,A⟩,K.out,K.af,K.od,K.cd⟩,⟨K.sL,K.sM,K.ne,K.nc⟩,⟨?_,kz,⟨M,P⟩,K.aF,λk _=>aS.nil _ _,λk _=>lI _ _ _ _,K.id,λi j _ _ _ k e=>(by cases e),λi j _ _ _ k e=>(by cases e)⟩,lI _ _ _ _,⟨lI _ _ _ _,Q,λi al y hx _=>(by grind)⟩,?_,λk r=>r.2,λe=>O⟩⟩
   rw[h.aG,s,t,T,V];rfl;intro k a;have:=ro k _ (GC a);grind;intro k a;have:=ri k _ (GC a);grind;have d:gL (λk=>w.heap.size<=k/\k<wr.heap.size) nV:=λy n c e=>by cases e
   exact⟨⟨h.rN,(aV.1 h.aG).1⟩,⟨⟨K.lo.1,K.sL.ty.lt⟩,d⟩,⟨⟨K.lo.2.1,K.sM.ty.lt⟩,d⟩,⟨W,gK.lt⟩,⟨ai,kz.lt⟩,λk a=>⟨⟨(K.lo.2.2.1 k a).1,(aV.1 (K.out k a)).1⟩,⟨(K.lo.2.2.1 k a).2,(K.af k a).ty.lt⟩,d⟩,λk a=>⟨⟨K.lo.2.2.2 k a,(aV.1 (K.aF k a)).1⟩,d,d⟩,d,d,λy hy=>(by cases hy)⟩
def RO(w:D)(az av:Int)(K:Array υ)(l:K.size=16)(f:Bool)(h:¬iI az av):
 Calls prog 13 #[ε #[I X az,I X av],ε K,β f] w λe i=>e=ξ (τ #[π N,I X 1])/\G w i N:=by
 have j:az<64\/(¬az<64/\300<az)\/(¬az<64/\¬300<az/\av<16)\/(¬az<64/\¬300<az/\¬av<16/\1024<av):=by unfold iI at h;omega
 have d:∀(a b:Obj),G w ((w.alloc a).alloc b) N:=λa b=>aq (aC _ _ _) (aC _ _ _)
 obtain c|⟨c,g⟩|⟨c,g,k⟩|⟨c,g,k,m⟩:=j
 .have d1:decide (az<64)=ρ:=bU c;go_enter func13,ntmps13;go_wp2;go_ret2;exact⟨Q,d _ _⟩
 .have d1:decide (az<64)=θ:=bT c;have d2:decide (az>300)=ρ:=bU g;go_enter func13,ntmps13;go_wp2;go_ret2;exact⟨Q,d _ _⟩
 .have d1:decide (az<64)=θ:=bT c;go_enter func13,ntmps13;go_wp2;go_ret2;exact⟨Q,d _ _⟩
 have d1:decide (az<64)=θ:=bT c;go_enter func13,ntmps13;go_wp2;go_ret2;exact⟨Q,d _ _⟩
def RP{key:List υ}(a:key.length=16):(nL p q key r n k y z).toArray.setIfInBounds 18 (I X t)=(nL p q key t n k y z).toArray:=by
 obtain⟨_,_,_,_,_,_,_,_,_,_,_,_,_,_,_,_,e⟩:=rJ key a;unfold nL;rw[e];rfl
def kn.me{wr:D}{key:List υ}{ob cb ib:Nat->Nat}(h:kn w wr n p q key r i j y z ob cb ib l m)(d:key.length=16)(x:Int):kn w (ζ wr ⟨n,18,N⟩ (I X x)) n p q key x i j y z ob cb ib l m:=by
 have a:Ty wr n 107:=⟨_,_,h.aG⟩
 have c:=aD (au wr (E n)) ⟨n,18,N⟩ (I X x) (ψ Q);have b:aj wr (ζ wr ⟨n,18,N⟩ (I X x)) (λk=>k=n):=(aj.of c).mono (λk _ e=>(aR e).symm);exact⟨nB (aq (cK h.g (E n)) c) h.rN,by rw[heap_set h.aG,RP d],h.rN,dA h.ro b (λk e1 e2=>by subst e2;exact absurd ((cN h.ro _ e1).uniq a) Θ),dA h.ri b (λk e1 e2=>by subst e2;exact absurd ((cN h.ri _ e1).uniq a) Θ),h.jH,h.core.frame b (fO.one a Θ)⟩
def RQ(w:D)(az av:Int)(key:List Int)(q:cI key)(f:Bool)(h:iI az av)(h0:0<w.heap.size):
 Calls prog 13 #[ε #[I X az,I X av],ε (bY key),β f] w λe x=>∃mb l,e=ξ (τ #[π (E ⟨mb,0,N⟩),I X 0])/\bV x mb l (ah.new az av key f) (λk=>w.heap.size<=k/\k<x.heap.size)/\G w x N:=by
 refine fL λR V=>?_
 have d1:decide (az<64)=θ:=bT (by unfold iI at h;omega);have d2:decide (az>300)=θ:=bT (by unfold iI at h;omega);have d3:decide (av<16)=θ:=bT (by unfold iI at h;omega);have d4:decide (av>1024)=θ:=bT (by unfold iI at h;omega);have dn:prog.cellsOf 24=16:=Φ;have b5:=ly q;have gg:∀(a b:Obj),G w ((w.alloc a).alloc b) N:=λa b=>aq (aC _ _ _) (aC _ _ _)
 have b6:(prog.info? 24).map (·.size)=E (bv key).length:=by rw[gy,q.1];exact mh
 have b7:=underlying24;obtain⟨d,A⟩:=í ((w.alloc (ο #[I X az,I X av] 28)).alloc (ο (bv key).toArray 24));have g2:G w d N:=by rw[A];exact gg _ _
 have B:d.heap[w.heap.size]?=E (ο #[I X az,I X av] 28 (0,0)):=by rw[A];exact bp (aM _ _) (aC _ _ _)
 have H:d.heap[w.heap.size+1]?=E (ο (bv key).toArray 24 (0,0)):=by
  have:=aM (w.alloc (ο #[I X az,I X av] 28)) (ο (bv key).toArray 24);rw[dJ]at this;rw[A];exact this
 have c0:κ d ⟨w.heap.size,0,N⟩=E (I X az):=by simp[κ,B]
 have c1:κ d ⟨w.heap.size,1,N⟩=E (I X av):=by simp[κ,B]
 have ai:d.rangeAt (w.heap.size+1) 0 (bv key)/\G d d N:=⟨λj u hj=>by simpa [κ,H]using hj,au _ _⟩
 replace c0:=kc c0;replace c1:=kc c1;have y:=J (λwr mb aX aU L vi ob cb ib(c:kn w wr mb az av (bv key) (if f then 0 else 1) aX aU L vi ob cb ib 4 4)=>(show R (ξ (τ #[π (E ⟨mb,0,N⟩),I X 0])) wr by
  rw[V];obtain⟨l,hl⟩:=c.end_ q h0;exact⟨mb,l,Q,hl,c.g⟩))
 unfold bY at *;have r:(bv key).length=16:=by rw[gy,q.1]
 replace V:=J V;clear b5;generalize bv key=K at *;replace⟨B,H⟩:=aT B H;clear h;have a4:G d d.drew N:=aK (au _ N);have M:=dT ai a4;have ak:=J (λW=>FV W 8 Θ);have al:=J (λW=>FV W 1073741824 Θ);go_enter func13,ntmps13;go_upto_region 3 with fail;rw[<-A];clear A;go_cut [8] (λv8 wx=>∃mb aX aU,v8=π (E ⟨mb,0,N⟩)/\kn w wx mb az av K 0 aX aU nV nV id id id 0 0);case first=>
  obtain⟨k0,k1,k2,k3,k4,k5,k6,k7,k8,k9,cp,ct,cv,cw,cx,cy,rfl⟩:=rJ K r;clear y;go_region_held3 (λx=>x.rangeAt (w.heap.size+1) 0 [k0,k1,k2,k3,k4,k5,k6,k7,k8,k9,cp,ct,cv,cw,cx,cy]/\G d x N)
   (with_reducible first|exact dT P (aC _ _ _)|exact P|exact bb|exact bj|exact ai|exact M)
   (first
     |(go_at_call 36;apply(Z ak _).mono;rintro e w6⟨rfl,C,z⟩;have P:=dT bj z;have T1:=J C;have T2:=J (fg.ag s z);have U1:=p.size;clear C)
     |(go_at_call 36;apply(Z al _).mono;rintro e w6⟨rfl,C,z⟩;have P:=dT bb z;have T1:=J C;have T2:=J (fg.ag s z);have U1:=p.size;clear C)
     |(go_at_call 36;apply(Z ak _).mono;rintro e n⟨rfl,s,p⟩;have bb:=dT M p)
     |(go_at_call 36;apply(Z al _).mono;rintro e n⟨rfl,s,p⟩;have bj:=dT M p))
  all_goals go_wp2_with fail
  all_goals go_meet
  have c9:=s.ty.lt;have da:=g2.size;have du:=z.size;refine⟨w6.heap.size,d.heap.size,n.heap.size,Q,⟨?_,aM _ _,?_,lI _ _ _ _,lI _ _ _ _,⟨λk e=>(by cases e),λk e=>(by cases e)⟩,⟨fg.ag (Z T2) (aC _ _ _),fg.ag (Z T1) (aC _ _ _),?_,λk q=>O,λk q=>O,λk q=>O,λi j hi=>O,λi j hi=>O,λi j hi=>O,λk q=>O,⟨da,?_,λk q=>O,λk q=>O⟩⟩⟩⟩
  exact aq g2 (aq P.2 (aC _ _ _));have:d.heap.size<=n.heap.size:=U1;omega;have:d.heap.size<n.heap.size:=c9;omega;have:d.heap.size<=n.heap.size:=U1;omega
 case rest=>
  clear ai M a4 ak b6 b7 c0 c1 B H gg;obtain⟨mb,aX,aU,rfl,c⟩:=hcut;have fI:=(sN r c.aG).1;have f18:=(sN r c.aG).2.2.2 18;have bx:Hid (kn w (ζ wc ⟨mb,18,N⟩ (I X 1)) mb az av K 1 aX aU nV nV id id id 0 0):=J (c.me r 1);replace c:=J c;obtain⟨me,F⟩:∃m:Int,m=if f then 0 else 1:=⟨_,Q⟩
  rw[<-F]at y;replace F:=J F;go_upto_if 35 with fail;go_cut [] (λwx=>kn w wx mb az av K me aX aU nV nV id id id 0 0);case first=>
   clear y;cases f
   .have hE:Hid (me=1):=J (Z F);go_wp2;go_meet;rw[Z hE];exact Z bx
   have hE:Hid (me=0):=J (Z F);go_wp2;go_meet;rw[Z hE];exact Z c
  case rest=>
   clear c bx fI f18;go_upto_region 7 with fail;go_loopg [9] 5 (λg v9 wr=>∃(j:Nat)(L vi:υ)(ob cb ib:Nat->Nat),j<=4/\v9=I X j/\g=5-j/\kn w wr mb az av K me aX aU L vi ob cb ib j j);case atStart=>exact⟨0,nV,nV,id,id,id,O,Q,O,hcut⟩
   case round=>
    clear hcut;obtain⟨j,L,vi,ob,cb,ib,hj,rfl,rfl,c⟩:=hrel;by_cases dv:j<4
    .have j1:(j:Int)<4:=O;have gd:G wr wr.drew N:=aK (au _ N);have dc:=(sN r (c.gb gd).aG).2.1;have bz:=J (λn(p:wr.drew.grownBy n N)(s:fg n wr.heap.size nV cg.sI)=>(c.gb gd).RM r O p s (aP _) Q);have S:=J (λn(p:wr.drew.grownBy n N)=>(sN r ((c.gb gd).gb p).aG).2.1);replace c:=J c;go_upto_region 9 with fail;go_cut []from 39 to 65 (λwx=>∃bA bM b3,kn w wx mb az av K me aX aU bA vi bM b3 ib (j+1) j);case first=>
      clear y;go_region_law ((first
       |(refine Ae Ξ 103 103 Ξ _ _ Ξ _ _ _ Ξ Ξ (Z t) ?_)
       |(rw[aH Ξ];go_simp;go_at_call 36;apply(Z al _).mono;rintro e n⟨rfl,s,p⟩;have k5:=Z S n p;have b4:=aq p (aC n (ο #[ς ⟨#[]⟩,π (E ⟨wr.heap.size,0,N⟩),β θ,β θ,I U 0,I U 0,I U 0] 110) N);have k6:=Z S _ b4;have k7:=Z S _ (aq b4 (aC _ (ο #[π (E ⟨n.heap.size,0,N⟩)] 108) N));obtain⟨a8,n8,c8,w8,t,ea,f26,v⟩:=Z bz n p s;replace t:=J t;replace v:=J v;go_wp2_with fail)))
      all_goals go_wp2_with fail
      all_goals go_meet
      all_goals exact⟨_,_,_,Z v⟩
     case rest=>
      clear dc bz S;obtain⟨bA,bM,b3,T⟩:=hcut;have eb:=(sN r T.aG).2.2.1;obtain⟨a8,n8,c8,w8,t,ec,f27,v⟩:=T.RN r O Q;replace⟨t,v,T⟩:=cA t v T;clear y;go_wp2_with (at_builtin;refine jN Ξ 104 104 Ξ _ _ Ξ _ _ _ Ξ Ξ (Z t) ?_);go_roundg (5-(j+1));case measure=>omega
      case rel=>exact⟨j+1,_,_,_,_,_,O,by go_num,Q,Z v⟩
    obtain rfl:j=4:=O;have hf:=J (Z y _ _ _ _ _ _ _ _ _ c);replace c:=J c;go_wp2_with fail;first|exact Z hf|skip
structure jS(i:It)(r:aL):Prop where
 ended:i.ended=r.ended
 last:i.ended=ρ->i.last=r.end_
 given:i.given=r.given
 code:i.given=ρ->i.code=r.code
 fr:i.h.fr=r.read
 high:i.given=θ->i.high=r.high
 hl:i.ended=ρ->i.high<=i.last/\r.high<=i.last
 ge:i.given=ρ->i.ended=ρ
 over:i.over=ρ↔r.state=1
 st:r.state=0\/r.state=1\/(r.state=2/\i.given=ρ)
 ov:i.over=ρ->i.ended=ρ/\i.h.fr=i.last
 th:i.given=θ->∀m:Nat,r.there.getD m θ=ρ↔Sm i.h.af m
 rM:i.given=θ->∀m:Nat,i.h.fr<=m->r.there.getD m θ=ρ->i.h.bytes.getD ((m:Int)-i.h.fr).toNat 0=r.data.getD m 0
def jS.new:jS It.new aL.new:=by
 refine⟨Q,λh=>(by cases h),Q,λh=>(by cases h),Q,λ_=>rfl,λh=>(by cases h),λh=>(by cases h),?_,φ Q,λh=>(by cases h),λ_ m=>?_,λ_ m _ h=>?_⟩
 simp[It.new,aL.new];simp[It.new,aL.new,ij];simp[aL.new]at h
def jS.bad{i:It}{r:aL}(h:jS i r)(f:Fr):i.bad f=r.bad f:=by
 unfold It.bad aL.bad It.iO;rw[h.ended];by_cases a:r.ended=ρ;have hl:=h.last (h.ended.trans a);have c:=h.hl (h.ended.trans a);grind;have a:r.ended=θ:=by simpa using a
 rw[a];have b:i.given=θ:=by
  by_cases b:i.given=ρ;have:=h.ge b;rw[h.ended,a]at this;cases this;grind
 rw[h.high b];simp
def jS.data{i:It}{r:aL}(h:jS i r)(t:iT p i)(u:iz r)(f:Fr)(h0:0<=f.offset)(z:i.bad f=θ)(a0:i.given=θ->bm f<=i.h.fr+p):(r.bytes f).1=0/\jS (i.data f) (r.bytes f).2:=by
 have L:r.bad f=θ:=by rw[<-h.bad];exact z
 unfold aL.bytes;rw[L];simp only[iV,iJ]
 have hE:bm f=f.offset+f.data.size:=rfl;have g:=z;unfold It.bad It.iO at g;by_cases a:i.given=ρ;have q:=h.given▸a;rw[q];simp only[fw]
 have j:=h.ge a;have hl:=h.last j;rw[j]at g;simp only[Bool.true_and,uL,uI,Bool.and_eq_false_iff]at g;have a2:bm f<=i.last:=O;have a3:f.fin=ρ->bm f=i.last:=λb=>by
  grind
 have v:(i.data f).last=i.last:=by
  show(if f.fin then bm f else i.last)=i.last;grind
 have n:(i.data f).h=i.h:=by show(if i.given then i.h else _)=i.h;rw[a];rfl
 refine⟨trivial,⟨?_,λ_=>by rw[v];exact hl,h.given,h.code,by rw[n];exact h.fr,λe=>?_,λ_=>?_,λ_=>?_,h.over,h.st,λe=>?_,λe=>?_,λe=>?_⟩⟩
 show(i.ended||f.fin)=r.ended;rw[j,<-h.ended,j];rfl;exact absurd (show i.given=θ from e) (by rw[a];simp);have:=h.hl j;rw[v];show max i.high (bm f)<=i.last/\r.high<=i.last;omega;show(i.ended||f.fin)=ρ;rw[j];rfl;have:=h.ov e;rw[v,n];exact⟨by show(i.ended||f.fin)=ρ;rw[j];rfl,this.2⟩
 exact absurd (show i.given=θ from e) (by rw[a];simp);exact absurd (show i.given=θ from e) (by rw[a];simp);have a:i.given=θ:=by simpa using a
 have q:=h.given▸a;rw[q];simp only[iV,iJ]
 have A:=h.high a;obtain⟨M,P⟩:=í ((max r.high (bm f)).toNat-r.data.length);rw[<-P];have q1:=u.dl;have q2:=u.tl;have q4:=u.rd;have bb:((r.grow f).pad M).there.length=r.there.length+M:=by simp[aL.pad,aL.grow]
 have bj:((r.grow f).pad M).data.length=r.data.length+M:=by simp[aL.pad,aL.grow]
 have B:∀k,((r.grow f).pad M).there.getD k θ=r.there.getD k θ:=λk=>by
  simp only[aL.pad,aL.grow,List.getD]
  by_cases w:k<r.there.length;rw[qo w];rw[ã,rT (l:=r.there) O,List.getElem?_replicate];split<;>rfl
 have R:∀k,((r.grow f).pad M).data.getD k 0=r.data.getD k 0:=λk=>by
  simp only[aL.pad,aL.grow,List.getD]
  by_cases w:k<r.data.length;rw[qo w];rw[ã,rT (l:=r.data) O,List.getElem?_replicate];split<;>rfl
 have C:=RV f.offset.toNat (bl f.data) (((r.grow f).pad M).data,((r.grow f).pad M).there) (by simp only;omega) f.data.size (by simp only;omega);have S:∀k,(((r.grow f).pad M).fill f f.data.size).there.getD k θ=(r.there.getD k θ||decide (f.offset.toNat<=k/\k<f.offset.toNat+f.data.size)):=λk=>by
  have:=(C k).1;rw[B k]at this;exact this
 have T:∀k,(((r.grow f).pad M).fill f f.data.size).data.getD k 0=if r.there.getD k θ=θ/\f.offset.toNat<=k/\k<f.offset.toNat+f.data.size then(bl f.data).getD (k-f.offset.toNat) 0 else r.data.getD k 0:=λk=>by
  have:=(C k).2;rw[B k,R k]at this;exact this
 have n:(i.data f).h=⟨i.h.fr,iP i.h.fr f.offset (bl f.data) (kK i.h.af ⟨f.offset,bm f⟩) i.h.bytes,eu i.h.af ⟨f.offset,bm f⟩⟩:=by show(if i.given then i.h else _)=_;rw[a];rfl
 have F:∀m:Nat,(((r.grow f).pad M).fill f f.data.size).there.getD m θ=ρ↔Sm (eu i.h.af ⟨f.offset,bm f⟩) m:=λm=>by
  rw[S,Bool.or_eq_true,wP,h.th a m,kJ _ t.ok];simp only
  constructor;rintro(e|e);exact φ e;exact ψ O;rintro(e|e);exact φ e;exact ψ O
 have V:∀x∈kK i.h.af ⟨f.offset,bm f⟩,i.h.fr<=x.lo/\f.offset<=x.lo/\x.lo<=x.hi/\x.hi<=f.offset+(bl f.data).length:=λx y=>by
  have hp:=(vr _ _).2 x y;have H:=(ry _ _ x.lo).1 ⟨x,y,O,O⟩;have W:=(ry _ _ (x.hi-1)).1 ⟨x,y,O,O⟩;simp only at H W;have br:i.h.fr<=x.lo:=by
   by_cases c:i.h.fr<=x.lo;exact c;exact absurd (t.low a _ O O) H.2
  rw[iE];omega
 refine⟨trivial,⟨?_,λe=>?_,a.trans q.symm,λe=>?_,by rw[n];exact h.fr,λ_=>?_,λe=>?_,λe=>?_,h.over,?_,λe=>?_,λ_ m=>by rw[n];exact F m,λ_ m s ht=>?_⟩⟩
 show(i.ended||f.fin)=(r.ended||f.fin);rw[h.ended];show(if f.fin then bm f else i.last)=(if f.fin then bm f else r.end_)
 by_cases b:f.fin=ρ;rw[b];rfl;have b:f.fin=θ:=by simpa using b
 rw[b];have e2:(i.ended||f.fin)=ρ:=e;rw[b,Bool.or_false]at e2;exact h.last e2;exact absurd (show i.given=ρ from e) (by rw[a];simp);show max i.high (bm f)=max r.high (bm f);rw[A];have e2:(i.ended||f.fin)=ρ:=e;show max i.high (bm f)<=(if f.fin then bm f else i.last)/\max r.high (bm f)<=(if f.fin then bm f else i.last);rw[<-A];simp only[uL,Bool.and_eq_false_iff,uI]at g;by_cases b:f.fin=ρ;rw[b];simp only[fw]
 obtain d|d:=g.2
 rw[b]at d;cases d;have:=d.2;omega;have b:f.fin=θ:=by simpa using b
 rw[b,Bool.or_false]at e2;rw[b];simp only[iV,iJ]
 have:=(h.hl e2).1;obtain d|d:=g.1
 rw[e2]at d;cases d;omega;exact absurd (show i.given=ρ from e) (by rw[a];simp);obtain e|e|⟨e,e2⟩:=h.st
 exact φ e;exact ψ (φ e);rw[a]at e2;cases e2;let⟨e1,e2⟩:=h.ov e
 rw[n];refine⟨by show(i.ended||f.fin)=ρ;rw[e1];rfl,?_⟩
 show i.h.fr=(if f.fin then bm f else i.last)
 rw[e1]at g;simp only[Bool.true_and,uL,uI,Bool.and_eq_false_iff]at g;split;rename_i b;obtain d|d:=g.2
 rw[b]at d;cases d;have:=d.1;have:bm f=i.last:=by simpa using this
 omega;exact e2;rw[n]at s⊢;simp only at s⊢;rw[T m];let⟨k1,k2⟩:=RU _ i.h.bytes V _ s
 have hs:=(ry i.h.af ⟨f.offset,bm f⟩ (m:Int))
 simp only at hs;by_cases c:Sm i.h.af (m:Int);rw[k2 (λe=>(hs.1 e).2 c)];have K:=(h.th a m).2 c;rw[aE (by rw[K];simp)];exact h.rM a m s K;have ao:f.offset<=(m:Int)/\(m:Int)<bm f:=by
  obtain e|e:=(kJ _ t.ok _).1 ((F m).1 ht)
  exact absurd e c;exact e
 have ax:r.there.getD m θ=θ:=by
  obtain e|e:=oX (r.there.getD m θ)
  exact absurd ((h.th a m).1 e) c;exact e
 rw[k1 (hs.2 ⟨ao,c⟩),aH ⟨ax,O,O⟩];congr 1;omega
structure ia(o:Ot)(r:dH):Prop where
 af:o.h.af=r.af.sp
 ck:fZ r.af
 fr:o.h.fr=r.af.fX
 sg:o.sG=r.given
 se:r.given=θ->o.sE=r.finished
 ay:o.ay=r.high
 gv:r.given=ρ->o.code=r.code/\r.end_=r.high/\o.sE=θ
 mD:r.given=θ->o.h.bytes=(bl r.data).drop o.h.fr.toNat
 sz:r.data.size<=4096
 sO:o.h.fr<=r.data.size
 hs:0<=r.high/\r.high<=r.data.size
 cb:∀m,Sm o.h.af m->m<r.data.size
def ia.new:ia Ot.new dH.new:=by
 refine⟨Q,fZ.new,?_,Q,λ_=>rfl,Q,λe=>(by cases e),λ_=>rfl,mP _,fv _,⟨fv _,fv _⟩,λm a=>absurd a (ij m)⟩
 simp[Ot.new,dH.new,cg.sI,cg.fX]
def ia.Br{r:dH}(h:ia H r)(a:r.given=θ)(h0:0<=H.h.fr):(H.h.bytes.length:Int)=r.data.size-H.h.fr:=by
 rw[h.mD a,fD,iE];have:=h.sO;omega
def ia.gC{r:dH}(h:ia H r)(a:r.given=θ)(h0:0<=H.h.fr)(b:(H.h.bytes.length:Int)<=p)(n:Nat):((H.gC n p:Nat):Int)=min (min (p-(r.data.size-r.af.fX)) (4096-r.data.size)) n:=by
 have c:=h.Br a h0;have d:=h.fr;have e:=h.sz;unfold Ot.gC;omega
def GD(a b:ByteArray):bl (a++b)=bl a++bl b:=by
 unfold bl;simp_all
def GF(b:ByteArray)(n:Nat):bl (b.extract 0 n)=(bl b).take n:=by
 unfold bl;simp_all
def ia.write{r:dH}(h:ia H r)(a:r.given=θ)(h0:0<=H.h.fr)(b:(H.h.bytes.length:Int)<=p)(d:ByteArray):ia (H.wrote (bl d) p) {r with data:=r.data++d.extract 0 (H.gC (bl d).length p)}:=by
 have e:=h.gC a h0 b (bl d).length;have f:=h.sO;have g:(r.data++d.extract 0 (H.gC (bl d).length p)).size=r.data.size+H.gC (bl d).length p:=by
  rw[<-iE,GD,GF,bS,iE,dK];omega
 refine⟨h.af,h.ck,h.fr,h.sg,h.se,h.ay,h.gv,λ_=>?_,?_,?_,?_,λm c=>?_⟩
 show H.h.bytes++(bl d).take _=(bl (r.data++_)).drop H.h.fr.toNat;rw[GD,GF,List.drop_append_of_le_length (by rw[iE];omega),h.mD a];grind;show H.h.fr<=((r.data++_).size:Int);grind;have:=h.hs;grind;have:=h.cb m c;grind
def ia.finish{r:dH}(h:ia H r)(a:r.given=θ):ia {H with sE:=ρ} {r with finished:=ρ}:=
 ⟨h.af,h.ck,h.fr,h.sg,λ_=>rfl,h.ay,λe=>absurd (show r.given=ρ from e) (by rw[a];simp),h.mD,h.sz,h.sO,h.hs,h.cb⟩
def ia.giveUp{r:dH}(h:ia H r)(code:Int):ia (H.giveUp code) {r with given:=ρ,code:=code,end_:=r.high}:=
 ⟨h.af,h.ck,h.fr,Q,λe=>(by cases e),h.ay,λ_=>⟨Q,Q,Q⟩,λe=>(by cases e),h.sz,h.sO,h.hs,h.cb⟩
def RX(z:cg):z.fX=if z.sp.length=0\/0<(an z.sp 0).lo then 0 else(an z.sp 0).hi:=by
 unfold cg.fX cg.sp;cases z.l with
 |nil=>simp
 |cons a l=>simp[an,dj]
structure GG(o a:Ot):Prop where
 ay:a.ay=o.ay
 sE:a.sE=o.sE
 sG:a.sG=o.sG
 code:a.code=o.code
def RY(L:List (Int×Pc)):∀(out:Nat->Ot)(k:Nat),GG (out k) (eO out L k):=by
 induction L with
 |nil=>intro out k;exact⟨Q,Q,Q,Q⟩
 |cons x L b=>
  intro out k;have e:eO out (x::L)=eO (aB out x.1.toNat ((out x.1.toNat).gY x.2)) L:=rfl;rw[e];obtain⟨c,d,f,g⟩:=b (aB out x.1.toNat ((out x.1.toNat).gY x.2)) k;have a:GG (out k) (aB out x.1.toNat ((out x.1.toNat).gY x.2) k):=by
   unfold aB;split;rename_i h;rw[h];exact⟨Q,Q,Q,Q⟩
   exact⟨Q,Q,Q,Q⟩
  exact⟨c.trans a.ay,d.trans a.sE,f.trans a.sG,g.trans a.code⟩
def RZ(L:List (Int×Pc))(k:Nat):∀(out:Nat->Ot),bk (out k).h.af->bk (eO out L k).h.af/\∀m,Sm (eO out L k).h.af m↔Sm (out k).h.af m\/∃x∈L,x.1.toNat=k/\x.2.x.lo<=m/\m<x.2.x.hi:=by
 induction L with
 |nil=>intro out h;exact⟨h,λm=>⟨φ,λe=>e.elim id (λ⟨x,b,_⟩=>by cases b)⟩⟩
 |cons x L c=>
  intro out h;have e:eO out (x::L)=eO (aB out x.1.toNat ((out x.1.toNat).gY x.2)) L:=rfl;rw[e];have d:bk (aB out x.1.toNat ((out x.1.toNat).gY x.2) k).h.af/\∀m,Sm (aB out x.1.toNat ((out x.1.toNat).gY x.2) k).h.af m↔Sm (out k).h.af m\/(x.1.toNat=k/\x.2.x.lo<=m/\m<x.2.x.hi):=by
   by_cases a:k=x.1.toNat;subst a;rw[bN];refine⟨oD _ h,λm=>?_⟩
   rw[show((out x.1.toNat).gY x.2).h.af=eu (out x.1.toNat).h.af x.2.x from Q,kJ _ h];simp;rw[bI _ _ a];grind
  grind
def R0(h0:0<=H.h.fr)(h:H.h.bytes=L.drop H.h.fr.toNat)(p:Pc):0<=(H.gY p).h.fr/\(H.gY p).h.bytes=L.drop (H.gY p).h.fr.toNat:=by
 obtain⟨W,a⟩:=í ((dL ⟨H.h.fr,H.h.bytes,eu H.h.af p.x⟩).toNat);have e1:(H.gY p).h.fr=H.h.fr+(W:Int):=by rw[a];rfl
 have e2:(H.gY p).h.bytes=H.h.bytes.drop W:=by rw[a];rfl
 refine⟨O,?_⟩
 rw[e2,e1,h,uR];grind
def R1(L:List (Int×Pc))(d:List Int)(k:Nat):∀(out:Nat->Ot),0<=(out k).h.fr->(out k).h.bytes=d.drop (out k).h.fr.toNat->0<=(eO out L k).h.fr/\(eO out L k).h.bytes=d.drop (eO out L k).h.fr.toNat:=by
 induction L with
 |nil=>intro out h0 h;exact⟨h0,h⟩
 |cons x L b=>
  intro out h0 h;have e:eO out (x::L)=eO (aB out x.1.toNat ((out x.1.toNat).gY x.2)) L:=rfl;rw[e];by_cases a:k=x.1.toNat;have:=R0 h0 h x.2;refine b _ ?_ ?_<;>rw[a,bN,<-a];exact this.1;grind;refine b _ ?_ ?_<;>rw[bI _ _ a];exact h0;exact h
def sP(f:Fr)(k:Nat)(m:Int):Prop:=f.kind=5/\0<f.data.size/\f.stream.toNat=k/\f.offset<=m/\m<bm f
def R3{o:Nat->dH}(h:∀k,k<4->fZ (o k).af)(d:pL u)(k:Nat)(c:k<4):
 (∃z,jl o u k={o k with af:=z})/\∀m,Sm (jl o u k).af.sp m↔Sm (o k).af.sp m\/sP u k m:=by
 unfold jl;split;rename_i a;obtain⟨f,g,e,i⟩:=d a.1 a.2;by_cases b:k=u.stream.toNat;subst b;rw[bN];obtain⟨e1,e2⟩:=(h _ c).F9 e (O:u.offset<=u.offset+u.data.size-1) O;refine⟨⟨_,Q⟩,λm=>?_⟩
 rw[e2,kJ _ (h _ c).ok];unfold sP bm;grind;rw[bI _ _ b];exact⟨⟨_,Q⟩,λm=>⟨φ,λq=>q.elim id (λq=>absurd q.2.2.1.symm b)⟩⟩
 rename_i a;exact⟨⟨_,Q⟩,λm=>⟨φ,λq=>q.elim id (λq=>absurd ⟨q.1,q.2.1⟩ a)⟩⟩
def R5(q:List Fr):∀{o:Nat->dH},(∀f∈q,pL f)->(∀k,k<4->fZ (o k).af)->∀(k:Nat),k<4->(∃z,q.foldl jl o k={o k with af:=z})/\∀m,Sm (q.foldl jl o k).af.sp m↔Sm (o k).af.sp m\/∃f∈q,sP f k m:=by
 induction q with
 |nil=>intro o _ _ k _;exact⟨⟨_,Q⟩,λm=>⟨φ,λe=>e.elim id (λ⟨f,a,_⟩=>by cases a)⟩⟩
 |cons f q c=>
  intro o a h k b;obtain⟨⟨i,e1⟩,j⟩:=R3 h (a f Γ) k b;obtain⟨⟨z2,e2⟩,l⟩:=c (o:=jl o f) (λg d=>a g (by simp[d])) (Bd h (a f Γ)) k b;rw[pd];grind
def yV(l:List Rg)(q:List (Int×List Fr)):∀{o:Nat->dH},(∀x∈q,∀f∈x.2,pL f)->(∀k,k<4->fZ (o k).af)->∀(k:Nat),k<4->(∃z,q.foldl (jm l) o k={o k with af:=z})/\∀m,Sm (q.foldl (jm l) o k).af.sp m↔Sm (o k).af.sp m\/∃x∈q,bK l x.1=ρ/\∃f∈x.2,sP f k m:=by
 induction q with
 |nil=>intro o _ _ k _;exact⟨⟨_,Q⟩,λm=>⟨φ,λe=>e.elim id (λ⟨f,a,_⟩=>by cases a)⟩⟩
 |cons x q i=>
  intro o a h k d;obtain⟨⟨z2,e2⟩,j⟩:=i (o:=jm l o x) (λg b=>a g (by simp[b])) (Ga (a x Γ) h) k d;have n:(∃z,jm l o x k={o k with af:=z})/\∀m,Sm (jm l o x k).af.sp m↔Sm (o k).af.sp m\/(bK l x.1=ρ/\∃f∈x.2,sP f k m):=by
   unfold jm;split;rename_i r;obtain⟨s,t⟩:=R5 x.2 (a x Γ) h k d;grind;grind
  obtain⟨⟨u,e1⟩,p⟩:=n;rw[pd];refine⟨⟨z2,by rw[e2,e1]⟩,λm=>?_⟩
  rw[j m,p m];constructor;rintro((c|c)|⟨g,b,c⟩);exact φ c;simp_all;grind;rintro(c|⟨g,b,c⟩);simp_all;grind
def R6{z:cg}(h:fZ z):0<=z.fX/\(∀m,0<=m->m<z.fX->Sm z.sp m)/\¬Sm z.sp z.fX:=by
 have h0:∀m,Sm z.sp m->0<=m:=λm ⟨r,f,e,b⟩=>by
  obtain⟨q,g,rfl⟩:=fu.1 f;have:=(h.bd q g).1;simp only[dj]at e;omega
 rw[RX];by_cases c:z.sp.length=0\/0<(an z.sp 0).lo;rw[aH c];refine⟨fv _,λm e b=>by omega,λhs=>?_⟩
 have d:=h.ok;cases hl:z.sp with
 |nil=>rw[hl]at hs;exact ij 0 hs
 |cons a q=>
  rw[hl]at hs c d;obtain c|c:=c
  simp at c;have c:0<a.lo:=c;obtain b|b:=(eG a q 0).1 hs
  omega;have:=d.behind b;have:=d.2 a Γ;omega
 rw[aE c];obtain⟨i,j,k,l⟩:=CV h.ok h0 c;grind
def R8{S:Int->Prop}(a:0<=p)(b:0<=q)(c:∀m,0<=m->m<p->S m)(d:¬S p)(e:∀m,0<=m->m<q->S m)(f:¬S q):p=q:=by grind
structure rO(af:List Rg)(floor:Int)(z:cg):Prop where
 sp:z.sp=af
 fl:z.floor=floor
 mo:z.aJ=8
 f0:0<=floor/\floor<=4611686018427387904
 ab:∀n,Sm af n->floor<=n
 ne:floor=0\/∃d,Sm af d
def rO.has{z:cg}(h:rO s p z)(n:Int):z.has n=kh s p n:=by
 unfold cg.has kh;rw[h.fl,<-h.sp];unfold cg.sp;rw[List.any_map];congr 1;congr 1;funext r;simp only[Function.comp,dj]
 grind
def rO.ok{z:cg}(h:rO s p z)(f:s.length<=8)(hs:bk s)(b:∀r∈s,0<=r.lo/\r.hi<=4611686018427387904):z.ok:=by
 refine⟨λr c=>?_,by rw[h.fl];have:=h.f0;unfold dQ;omega,?_,by rw[h.mo];omega⟩
 have a:dj r∈s:=by rw[<-h.sp];exact fu.2 ⟨r,c,Q⟩
 have d:=b _ a;have e:=hs.2 _ a;simp only[dj]at d e;unfold dQ;omega;have:z.sp.length=z.l.length:=by unfold cg.sp;rw[fF]
 rw[h.sp]at this;omega
def Sc(l:List Rg)(i:Nat)(h:i<l.length):an (l.map dj) i=dj (an l i):=by
 simp[an,List.getD,h]
def rO.add{z:cg}(h:rO s p z)(hs:bk s)(u:∀r∈s,0<=r.lo/\r.hi<=4611686018427387904)(K:0<=t/\t<=4611686018427387903)(hp:kh s p t=θ):
 rO (gH s p t).1 (gH s p t).2 (z.add t t)/\p<=(gH s p t).2/\∀d,(Sm s d\/d=t)->d<(gH s p t).2\/Sm (gH s p t).1 d:=by
 let⟨L,M⟩:=Fo hp
 have m:=h.sp;have P:=h.f0;have e1:max t z.floor=t:=by rw[h.fl];omega
 have e2:=Bb (s:=z.l) (fv t) (by rw[show z.l.map _=z.sp from Q,m];exact hs);rw[show z.l.map dj=z.sp from Q,m]at e2;obtain⟨b,n⟩:=í ((nT t t z.l).end_);rw[<-n]at e2;have v:z.add t t=z.put b:=by unfold cg.add;rw[e1,ê,n]
 have j:b.length=(eu s ⟨t,t+1⟩).length:=by rw[<-e2,fF]
 have g:bk (eu s ⟨t,t+1⟩):=oD _ hs;have f:∀d,Sm (eu s ⟨t,t+1⟩) d↔Sm s d\/(t<=d/\d<t+1):=λd=>kJ _ hs d
 have k:∀d,Sm (eu s ⟨t,t+1⟩) d->p<=d:=λd hd=>by
  obtain q|q:=(f d).1 hd
  exact h.ab d q;omega
 unfold gH;rw[v];unfold cg.put;rw[h.mo,j];by_cases c:8<(eu s ⟨t,t+1⟩).length;rw[aH c,aH (show(8:Int)<((eu s ⟨t,t+1⟩).length:Int) by omega)];simp only
 cases hl:eu s ⟨t,t+1⟩with
 |nil=>rw[hl]at c;simp at c
 |cons a q=>
  have e0:an (a::q) 0=a:=rfl;rw[e0];rw[hl]at e2 g f k j;have w:0<b.length:=by rw[j];simp
  have x:dj (an b 0)=a:=by rw[<-Sc b 0 w,e2];rfl
  have A:=g.2 a Γ;have R:=k _ ((eG a q _).2 (φ ⟨fv _,A⟩));have B:(an b 0).hi+1=a.hi:=by rw[<-x];rfl
  have C:a.hi<=4611686018427387904:=by
   obtain⟨r,F,S,T⟩|i:=(f (a.hi-1)).1 ((eG a q _).2 (φ ⟨O,O⟩))
   have:=(u r F).2;omega;omega
  refine⟨⟨?_,B,Q,⟨O,C⟩,λd hd=>?_,?_⟩,O,λd hd=>?_⟩
  show(b.drop 1).map dj=q;simp_all;have:=g.behind hd;omega;cases q with
  |nil=>rw[hl]at c;simp at c
  |cons y q=>exact ψ ⟨_,(eG y q _).2 (φ ⟨fv _,g.2 y Γ⟩)⟩
  have H:=(f d).2 (hd.imp id (λe=>O));obtain i|i:=(eG a q d).1 H
  exact φ i.2;exact ψ i
 rw[aE c,aE (show¬(8:Int)<((eu s ⟨t,t+1⟩).length:Int) by omega)];simp only
 refine⟨⟨e2,h.fl,Q,h.f0,k,ψ ⟨t,(f t).2 (ψ ⟨fv _,O⟩)⟩⟩,fv _,λd hd=>ψ ((f d).2 (hd.imp id (λe=>O)))⟩
structure uA(af:List Rg)(z:cg)(n:Nat):Prop where
 ok:bk z.sp
 bd:∀r∈z.l,0<=r.lo/\r.hi<=4611686018427387903
 fl:z.floor=0
 mo:z.aJ=1073741824
 len:z.l.length<=n
 all:∀d,Sm af d->Sm z.sp d
def uA.yL{z:cg}(h:uA s z n)(c:n<=1000000):z.ok:=by
 refine⟨λr a=>?_,by rw[h.fl];unfold dQ;omega,by have:=h.len;omega,by rw[h.mo];omega⟩
 have d:=h.bd r a;have b:=h.ok.2 _ (fu.2 ⟨r,a,Q⟩);simp only[dj]at b;unfold dQ;omega
def uA.add{f:List Rg}{z:cg}(h:uA s z n)(y:n<=1000000)(A:0<=p/\p<=4611686018427387903)(m:∀d,Sm f d->Sm s d\/d=p):uA f (z.add p p) (n+1):=by
 have e1:max p z.floor=p:=by rw[h.fl];omega
 have e2:=Bb (s:=z.l) (fv p) h.ok;obtain⟨c,g⟩:=í ((nT p p z.l).end_);rw[<-g]at e2;have B:c.length<=z.l.length+1:=by
  have:=xF (z.l.map dj) ⟨p,p+1⟩;grind
 have a:z.add p p={z with l:=c}:=by
  unfold cg.add cg.put;rw[e1,ê,<-g,aE (by rw[h.mo];have:=h.len;omega)]
 have b:(z.add p p).sp=eu z.sp ⟨p,p+1⟩:=by rw[a];exact e2
 refine⟨by rw[b];exact oD _ h.ok,λr t=>?_,by rw[a];exact h.fl,by rw[a];exact h.mo,?_,λd hd=>?_⟩
 have e:dj r∈(z.add p p).sp:=fu.2 ⟨r,t,Q⟩;have u:bk (z.add p p).sp:=by rw[b];exact oD _ h.ok
 have hp:=u.2 _ e;have i:∀d,Sm (z.add p p).sp d->0<=d/\d<=4611686018427387903:=λd hd=>by
  rw[b,kJ _ h.ok]at hd;obtain⟨q,v,j,k⟩|⟨j,k⟩:=hd
  obtain⟨w,x,rfl⟩:=fu.1 v;have:=h.bd w x;simp only[dj]at j k;omega;grind
 simp only[dj]at hp;have C:=i r.lo ⟨_,e,by simp only[dj];omega,by simp only[dj];omega⟩;have F:=i r.hi ⟨_,e,by simp only[dj];omega,by simp only[dj];omega⟩;omega;rw[a];have:=h.len;show c.length<=n+1;omega;rw[b,kJ _ h.ok];obtain q|q:=m d hd
 exact φ (h.all d q);grind
