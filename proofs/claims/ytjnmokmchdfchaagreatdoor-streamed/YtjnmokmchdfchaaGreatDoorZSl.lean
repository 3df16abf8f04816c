import Derived.Test.YtjnmokmchdfchaaGreatDoorZSk
set_option maxRecDepth 1000000
set_option maxHeartbeats 0
set_option linter.all false
namespace Go.Proofs.YtjnmokmchdfchaaGreatDoor
open Go.RowKit Tryz
open Go.Value renaming int→I,slice→Y,bool→β,pointer→π,agg→ε,string→ς,tuple→τ
open Go.IntKind renaming i64→X,u64→U,u8→Δ
open Go.Ending renaming returned→ξ
open Go.Obj renaming cells→ο
open Or renaming inl→φ,inr→ψ
open Option renaming some→E,none→N
open Bool renaming true→ρ,false→θ
open Go renaming World→D,Value→υ
open Go.World renaming grownBy→G,cell?→κ,frozen?→χ,setCell→ζ
attribute[local go_sem↓]Go.wp_at_zero Go.wp_at_succ
variable{B:Bool}{u:Fr}{p q r t:Int}{L:List Int}{s:List Rg}{i j k l n:Nat}{S:Nat->Prop}{a:Option Addr}{H:Ot}{d:Sd}{z:υ}{W w:D}{f:ah}
structure Be(o:dH)(f:Fr):Prop where
 gv:o.given=θ
 off:0<=f.offset
 en:bm f<=o.data.size
 rM:o.data.extract f.offset.toNat (bm f).toNat=f.data
 fin:f.fin=(o.finished&&decide (bm f=o.data.size))
 ne:f.data.size=0->f.fin=ρ
 sz:o.data.size<=4096
def dH.qP(o:dH)(f:Fr):dH:={o with high:=max o.high (bm f)}
def QY(w:D)(mb:Nat)(l:cz)(s:ah)(B:Nat->Prop)(H:bV w mb l s B)(f:Fr)(A:υ)(k:Nat)(d:k<4)(C:f.stream=(k:Int))(ho:Be (s.outs k) f):
 Calls prog 122 #[π (E ⟨mb,0,N⟩),ε (bC f A)] w λe w'=>e=ξ (β ρ)/\bP w.heap.size w mb B {s with outs:=aB s.outs k ((s.outs k).qP f)} w':=by
 refine js λR p=>?_
 obtain⟨h,i⟩:=í (w.alloc (ο (bC f A) 158));have q:G w h N:=by rw[i];exact aC _ _ _
 have K:h.heap[w.heap.size]?=E (ο (bC f A) 158 (0,0)):=by rw[i];exact aM _ _
 have c:=H.ag q;obtain⟨F,hF⟩:=í w.heap.size;rw[<-hF]at K;unfold bC at *;obtain⟨x0,x1,x2,x3,r,x5,x6⟩:=bQ K;have M:=c.mc;have bw:=M.outs;have r0:=c.outs.row k d;have bx:=c.outs.co;unfold maxLen at bx;obtain⟨t,b⟩:=í h.drew.drew.drew;have u:G h t N:=by rw[b];exact aq (aq (aK (au h N)) (aK (au _ N))) (aK (au _ N))
 have Hd:=c.ag u;have x:=c.oc d;have L:=Hd.oc d;obtain⟨a,j⟩:=í (bm f);have ao:a=f.offset+f.data.size:=j;have m:Hid (R (ζ t ⟨l.ob k,6,N⟩ (I U (max (s.outs k).high a)))):=J (by
  rw[p];obtain⟨H2,C2⟩:=Hd.uq d 6 (I U (max (s.outs k).high a)) ((s.outs k).qP f) (by rw[j];rfl) Q;exact bP.pre q (bP.pre u ⟨l,B,H2,λk d=>φ d,C2⟩))
 have P:Hid ((s.outs k).high≥a->R t):=J (λb6=>by
  rw[p];have e:(s.outs k).qP f=s.outs k:=by unfold dH.qP;rw[<-j,show max (s.outs k).high a=(s.outs k).high by omega]
  rw[e,sq];exact bP.pre q (c.to u))
 obtain⟨ob,ax⟩:=í (l.ob k);obtain⟨o,a0⟩:=í (s.outs k);have S:=x.c0;have n:=x.c2;have y:=x.c3;have v6:=L.c6;have z6:=L.fz 6;rw[<-ax]at r0 S n y v6 z6 m;rw[<-a0]at S n y v6 ho m P;obtain⟨h1,h2,h3,T,g,z,h7⟩:=ho;rw[<-j]at h3 T g;rw[h1]at y;have fj:∀W,(Instr.slice 9 (ς o.data) (E (I U f.offset)) (E (I U a)) N).run prog W=.ok (ς f.data) W:=λW=>by
  rw[run_slice_string_if W 9 o.data U U f.offset a underlying9,aH ⟨O,h3⟩,aH ⟨h2,O⟩,T]
 have w1:U.wrap (f.data.size:Int)=(f.data.size:Int):=by rw[cZ];omega
 have w2:U.wrap (f.offset+(f.data.size:Int))=a:=by rw[cZ];omega
 have w3:U.wrap (o.data.size:Int)=(o.data.size:Int):=by rw[cZ];omega
 have d1:decide (a>(o.data.size:Int))=θ:=é;rw[C]at x1 i⊢;have i0:(0:Int)<=k:=O;have i1:(k:Int)<4:=O;clear ax a0 H c Hd x L M K h1 T j q u;replace⟨p,ao,g,z,C⟩:=gT p ao g z C;go_enter func122,ntmps122;go_upto_region 1 with fail;rw[<-i,<-hF];clear i hF;go_region;go_upto_region 3 with fail;go_region;go_upto_region 5 with fail;go_cut [76] (λv wx=>v=β θ/\wx=t);case first=>
  replace b:=J b;clear m P;obtain c1|c1:=(oX o.finished).symm
  .have c2:f.fin=θ:=by rw[Z g,c1];rfl
   have c3:¬f.data.size=0:=λe=>by have:=Z z e;rw[c2]at this;cases this
   have V:((f.data.size:Int)==0)=θ:=ze.2 O;rw[c1]at n;rw[c2]at r;replace⟨c1,c2⟩:=aT c1 c2;go_region;go_wp2;go_meet;exact⟨Q,(Z b).symm⟩
  rw[c1]at n;by_cases c4:a=(o.data.size:Int)
  .have b4:(a==(o.data.size:Int))=ρ:=by simpa using c4
   have c2:f.fin=ρ:=by rw[Z g,c1,bU c4];rfl
   rw[c2]at r;replace⟨c1,c2,c4⟩:=cA c1 c2 c4;by_cases c3:f.data.size=0
   .have V:((f.data.size:Int)==0)=ρ:=beq_iff_eq.2 O;go_region;go_wp2;go_meet;exact⟨Q,(Z b).symm⟩
   have V:((f.data.size:Int)==0)=θ:=ze.2 O;go_region;go_wp2;go_meet;exact⟨Q,(Z b).symm⟩
  have b4:(a==(o.data.size:Int))=θ:=by simpa using c4
  have c2:f.fin=θ:=by rw[Z g,c1,bT c4];rfl
  have c3:¬f.data.size=0:=λe=>by have:=Z z e;rw[c2]at this;cases this
  have V:((f.data.size:Int)==0)=θ:=ze.2 O;rw[c2]at r;replace⟨c1,c2,c4⟩:=cA c1 c2 c4;go_region;go_wp2;go_meet;exact⟨Q,(Z b).symm⟩
 case rest=>
  obtain⟨rfl,a4⟩:=hcut;rw[a4];clear b a4 x0 x1 x2 x3 r x5 x6 S n y bw r0;by_cases c1:o.high<a
  .have b1:decide (a>o.high)=ρ:=bU c1;have e:max o.high a=a:=O;rw[e]at m;clear e;go_wp2;go_ret;exact⟨Q,Z m⟩
  have b1:decide (a>o.high)=θ:=bT c1;have hf:=J (Z P O);go_wp2;go_ret;exact⟨Q,Z hf⟩
def ah.fk(s:ah)(f:Fr):Bool:=decide (f.kind=5)&&(decide ((s.ins f.stream.toNat).state≠2)&&(!(s.ins f.stream.toNat).given&&decide ((s.ins f.stream.toNat).read+s.av<bm f)))
def ah.yS(s:ah)(f:Fr)(n:Int):Bool:=kP f&&(decide (s.due.length=0)||(s.due.getD (s.due.length-1) 0 !=n))
def ah.note(s:ah)(f:Fr)(n:Int):ah:=if s.yS f n then{s with due:=s.due++[n]}else s
def ah.fail(s:ah)(e:Int):ah:={s with closed:=e,code:=e,said:=decide (e=10)}
def ah.fP(n:Int):List Fr->ah->Int×ah
 |[],s=>(0,s)
 |f::t,s=>if(s.take f).1=0 then ah.fP n t ((s.take f).2.note f n)else((s.take f).1,(s.take f).2.fail (s.take f).1)
def ah.mark(s:ah)(n:Int):ah:={s with aX:=s.aX.add n n,aU:=s.aU.add n n}
noncomputable def ah.pO(s:ah)(n:Int)(b:List Int):Int×Int×ah:=
 match eX b with
  |(N,q)=>(5,q,{s with closed:=5,code:=5})
  |(E fs,_)=>
   if fs.any s.fk then(6,-1,s)
   else((ah.fP n fs (s.mark n)).1,-1,(ah.fP n fs (s.mark n)).2)
noncomputable def ah.jI(s:ah)(p:List Int):Int×Int×ah:=
 if s.closed≠0 then(9,-1,s)
 else if¬dZ s.key (1-s.me) p then(4,-1,s)
 else if s.aX.has (bu p)then(0,-1,s)
 else s.pO (bu p) (cV s.key (1-s.me) (bu p) (bO p))
def iz.bytes{i:aL}(h:iz i)(c:0<=u.offset)(d:bm u<=4611686018427387903)(hs:i.given=θ->bm u<=100000000):iz (i.bytes u).2:=by
 unfold aL.bytes;split;exact h;split;exact h;rename_i a;have a:i.given=θ:=by simpa using a
 have e:=hs a;have q:=h.dl;have f:=h.tl;have g:=h.hi;have j:=h.rd;have k:0<=bm u:=by unfold bm;omega
 obtain⟨M,b⟩:=í ((max i.high (bm u)).toNat-i.data.length);rw[<-b];have hl:(((i.grow u).pad M).fill u u.data.size).data.length=i.data.length+M:=by
  show(jz _ _ _ _).1.length=_;rw[(vX _ _ _ _).1];simp[aL.pad,aL.grow]
 have l:(((i.grow u).pad M).fill u u.data.size).there.length=i.there.length+M:=by
  show(jz _ _ _ _).2.length=_;rw[(vX _ _ _ _).2];simp[aL.pad,aL.grow]
 refine⟨?_,?_,?_,?_,?_⟩
 rw[hl];show _=max i.high (bm u);omega;simp_all;show max i.high (bm u)<=_;omega;show 0<=(if u.fin then bm u else i.end_)/\(if u.fin then bm u else i.end_)<=_;split;omega;exact h.e0;show 0<=i.read/\i.read<=max i.high (bm u);omega
def iz.reset{i:aL}(h:iz i)(a:0<=u.offset)(b:u.offset<=4611686018427387903):iz (i.reset u):=⟨h.dl,h.tl,h.hi,by show 0<=u.offset/\u.offset<=_;omega,h.rd⟩
def Gp{i:aL}(h:(i.bytes u).2.given=θ):i.given=θ:=by
 unfold aL.bytes at h;grind
structure Bh(s a:ah):Prop where
 az:a.az=s.az
 av:a.av=s.av
 key:a.key=s.key
 me:a.me=s.me
 closed:a.closed=s.closed
 code:a.code=s.code
 said:a.said=s.said
 next:a.next=s.next
 aX:a.aX=s.aX
 aU:a.aU=s.aU
 ay:a.ay=s.ay
def we(s:ah)(f:Fr):Bh s (s.take f).2/\(s.take f).2.due=s.due:=by
 unfold ah.take;split;split;exact⟨⟨Q,Q,Q,Q,Q,Q,Q,Q,Q,Q,Q⟩,Q⟩
 exact⟨⟨Q,Q,Q,Q,Q,Q,Q,Q,Q,Q,Q⟩,Q⟩
 split;split;exact⟨⟨Q,Q,Q,Q,Q,Q,Q,Q,Q,Q,Q⟩,Q⟩
 exact⟨⟨Q,Q,Q,Q,Q,Q,Q,Q,Q,Q,Q⟩,Q⟩
 split;exact⟨⟨Q,Q,Q,Q,Q,Q,Q,Q,Q,Q,Q⟩,Q⟩
 split;exact⟨⟨Q,Q,Q,Q,Q,Q,Q,Q,Q,Q,Q⟩,Q⟩
 exact⟨⟨Q,Q,Q,Q,Q,Q,Q,Q,Q,Q,Q⟩,Q⟩
def Gq{q:List (Int×List Fr)}(a:∀x∈q,∀f∈x.2,pL f){o:Nat->dH}(h:∀k,k<4->fZ (o k).af):∀k,k<4->fZ (q.foldl (jm s) o k).af:=by
 induction q generalizing o with
 |nil=>exact h
 |cons x q b=>
  rw[pd];exact b (λy c=>a y (by simp[c])) (Ga (a x Γ) h)
def Rf{s:ah}(h:qO s)(a:pM s u):qO (s.take u).2/\∀k,((s.take u).2.ins k).given=θ->(s.ins k).given=θ:=by
 unfold ah.take;split;split;exact⟨h,λk e=>e⟩
 exact⟨⟨h.ins,h.ay,Gq h.ay h.af,h.len⟩,λk e=>e⟩
 split;rename_i k4;split;exact⟨h,λk e=>e⟩
 have d:=a.st (φ k4);refine⟨⟨λk b=>?_,h.ay,h.af,h.len⟩,λk e=>?_⟩
 show iz (aB _ _ _ k);unfold aB;split;exact(h.ins _ O).reset a.off.1 a.off.2;exact h.ins k b;simp only[aB]at e;split at e;cases e;exact e;split;rename_i k5;refine⟨⟨λk b=>?_,h.ay,h.af,h.len⟩,λk e=>?_⟩
 show iz (aB _ _ _ k);unfold aB;split;exact(h.ins _ O).bytes a.off.1 (a.en k5) (a.sm k5);exact h.ins k b;simp only[aB]at e;split at e;rename_i c;rw[c];exact Gp e;exact e;grind
def yT(s:ah)(f:Fr)(n:Int):Bh s (s.note f n)/\(s.note f n).outs=s.outs/\(s.note f n).ins=s.ins/\(s.note f n).due.length<=s.due.length+1:=by
 unfold ah.note;split;exact⟨⟨Q,Q,Q,Q,Q,Q,Q,Q,Q,Q,Q⟩,Q,Q,Γ⟩
 exact⟨⟨Q,Q,Q,Q,Q,Q,Q,Q,Q,Q,Q⟩,Q,Q,O⟩
def Bi(a:Fr)(h:f.due=L\/f.due=L++[p]):(f.note a p).due=L\/(f.note a p).due=L++[p]:=by
 unfold ah.note;split;rename_i b;obtain h|h:=h
 simp_all;exfalso;unfold ah.yS at b;grind;exact h
def qO.note(h:qO f)(a:Fr)(n:Int):qO (f.note a n):=by
 obtain⟨hs,b,c,-⟩:=yT f a n;exact⟨by rw[c];exact h.ins,by unfold yM;rw[hs.ay];exact h.ay,by rw[b];exact h.af,by rw[hs.ay];exact h.len⟩
def pM.mono{s a:ah}(h:pM s u)(b:∀k,(a.ins k).given=θ->(s.ins k).given=θ):pM a u:=⟨h.Gd,h.st,h.off,h.en,λc e=>h.sm c (b _ e)⟩
def Rh(s:ah)(f:Fr):(s.take f).1=0\/(s.take f).1=7\/(s.take f).1=8\/(s.take f).1=10:=by
 unfold ah.take;split;grind;split;grind;split;unfold aL.bytes;grind;grind
def Bk(key:List Int)(s:Int)(a:Option Addr)(m c:Nat)(l:List Int)(w:D)(d:cI key)(hs:W8 s)(f:bD w a m c l):
 Calls prog 65 #[ε (bY key),I X s,Y a m c] w λe b=>
  ((dZ key s l/\∃i j,e=ξ (τ #[I U (bu l),Y i (l.length-16) j,β ρ])/\aS b w.heap.size (Y i (l.length-16) j) (cV key s (bu l) (bO l)))\/(¬dZ key s l/\e=ξ (τ #[I U 0,Y N 0 0,β θ])))/\G w b N:=by
 by_cases h:l.length<16\/300<l.length;apply(Mf _ s a m _ l w d f h).mono;rintro e b⟨rfl,g⟩;exact⟨ψ ⟨λk=>by have:=k.1;have:=k.2.1;omega,Q⟩,g⟩
 exact Mg _ s a m _ l w d hs f O O
def Gr(key:List Int)(s:Int)(a:Option Addr)(m b:Nat)(l:List Int)(w:D)(g:cI key)(hs:W8 s)(h:bD w a m b l)(i:dZ key s l):
 Calls prog 65 #[ε (bY key),I X s,Y a m b] w λe c=>∃d f,e=ξ (τ #[I U (bu l),Y d (l.length-16) f,β ρ])/\aS c w.heap.size (Y d (l.length-16) f) (cV key s (bu l) (bO l))/\G w c N:=by
 apply(Bk _ s a m _ l w g hs h).mono;grind
def Ri(key:List Int)(s:Int)(a:Option Addr)(m b:Nat)(l:List Int)(w:D)(c:cI key)(hs:W8 s)(d:bD w a m b l)(g:¬dZ key s l):
 Calls prog 65 #[ε (bY key),I X s,Y a m b] w λe f=>e=ξ (τ #[I U 0,Y N 0 0,β θ])/\G w f N:=by
 apply(Bk _ s a m _ l w c hs d).mono;grind
def Gs(w:D)(a:Option Addr)(n d:Nat)(l:List Int)(c:bD w a n d l)(hl:l.length<=100000000):Calls prog 63 #[Y a n d] w (yR w l):=by
 by_cases h0:l.length=0;obtain rfl:l=[]:=oV h0;exact Gm w a n _ c;obtain⟨-,e⟩|⟨b,o,rfl,-⟩:=c.2.2.2.2
 have:=c.2.1;have:=c.2.2.1;omega;exact Gn w b o n _ l c O hl
def iH.get{aw:List cX}(h:iH k i W (Y a n l) aw)(c:j<aw.length)(d:u=(cS aw j).1):
 ∃b ra rc,a=E ⟨b,0,N⟩/\(κ W ⟨b,j*7,N⟩=E (I X u.kind)/\κ W ⟨b,j*7+1,N⟩=E (I X u.stream)/\κ W ⟨b,j*7+2,N⟩=E (I U u.offset)/\κ W ⟨b,j*7+3,N⟩=E (I U u.code)/\κ W ⟨b,j*7+4,N⟩=E (β u.fin)/\κ W ⟨b,j*7+5,N⟩=E (ς u.data)/\κ W ⟨b,j*7+6,N⟩=E (Y ra u.ranges.length rc))/\bq W ra u.ranges.length rc u.ranges/\(u.ranges≠[]->∀y,ra=E y->k<=y.block/\y.block<i)/\u.ok:=by
 obtain⟨r,-,-⟩:=h.fU;let⟨b,e,p⟩:=h.cells O
 obtain⟨f,-,ra,rc,e2,g⟩:=h.yC j c;have m:=yB (p j c);rw[e2,<-d]at m;rw[<-d]at g f;refine⟨b,ra,rc,e,by simpa using m,g,λs y q=>h.rg _ (sA c) (by grind) y _ _ (by rw[e2,q]),f⟩
def Rj{fs:List Fr}{q:Fr->Bool}(h:∀j,j<fs.length->q (jn fs j)=θ):fs.any q=θ:=by
 rw[List.any_eq_false];intro f a;obtain⟨j,b,rfl⟩:=ko.1 a;have e:=sF b;grind
def Rk{fs:List Fr}{q:Fr->Bool}(a:j<fs.length)(h:q (jn fs j)=ρ):fs.any q=ρ:=tu.2 ⟨_,yN a,h⟩
structure Bl(s:ah):Prop where
 so:qO s
 aX:s.aX.ok
 aU:s.aU.ok
 due:s.due.length<=500000
 av:0<=s.av/\s.av<=1024
 me:s.me=0\/s.me=1
 rd:∀k,k<4->(s.ins k).read<=90000000
 Rl:∀k,k<4->(s.ins k).state=2->(s.ins k).given=ρ
 st:∀k,k<4->ie (s.ins k).state
structure uw(s:ah)(b:ByteArray)(fs:List Fr):Prop where
 ok:dZ s.key s.me (bl b)
 len:(b.size:Int)<=s.az
 num:bu (bl b)=s.next
 dec:eX (cV s.key s.me (bu (bl b)) (bO (bl b)))=(E fs,-1)
 enc:bE fs=cV s.key s.me (bu (bl b)) (bO (bl b))
 Gv:pZ fs
 ux:fh fs<=30000000
 me:s.me=0\/s.me=1
 nx:0<=s.next/\s.next<=4611686018427387903
def Gw(w:D)(mb:Nat)(B:Nat->Prop)(s:ah)(fs:List Fr)(e:Ending)(b:D):Prop:=
 ∃aw a n c d,e=ξ (τ #[Y a n c,β ρ])/\aw.map (·.1)=fs/\w.heap.size<=d/\iH d b.heap.size b (Y a n c) aw/\bP w.heap.size w mb B {s with next:=s.next+1} b/\∃f,bV b mb f {s with next:=s.next+1} B
def iH.up{aw:List cX}(h:iH i j W z aw)(a:j<=l):iH i l W z aw:=
 ⟨h.own,λk e=>⟨(h.row k e).1,bX (h.row k e).2 a⟩,λx b d y n c e=>⟨(h.rg x b d y n c e).1,bX (h.rg x b d y n c e).2 a⟩⟩
def Gy(w:D)(mb:Nat)(l:cz)(s:ah)(B:Nat->Prop)(H:bV w mb l s B)(b:ByteArray)(fs:List Fr)(z:uw s b fs):
 Calls prog 80 #[π (E ⟨mb,0,N⟩),ς b] w (Gw w mb B s fs):=by
 obtain⟨R,hR⟩:=í (Gw w mb B s fs);rw[<-hR];have da:b.size<=300:=by have:=z.ok.2.1;rw[iE]at this;exact this
 have hk:=H.key;have M:=H.mc;have b7:=kc M.me;have b8:W8 s.me:=by unfold W8;obtain e|e:=z.me<;>rw[e]<;>omega
 have bx:(prog.info? 24).map (·.size)=E (bv s.key).length:=by rw[gy,hk.1];exact mh
 have ca:=underlying24;have ai:w.rangeAt mb 2 (bv s.key)/\G w w N:=⟨M.key,au _ _⟩
 obtain⟨p,ak⟩:∃f:D->D,f=λW=>Lib.bytesWorld W 5 b:=⟨_,Q⟩
 obtain⟨cc,a4⟩:∃f:D->Nat,f=λW=>grownCap W b.size 0 5:=⟨_,Q⟩
 have cf:∀W,(convert 9 112 (ς b)).run prog W=.ok (Y (E ⟨W.heap.size,0,N⟩) b.size (cc W)) (p W):=λW=>by rw[ak,a4];exact rq b W
 have bz:=J (λW=>(show Calls prog 65 #[ε (bY s.key),I X s.me,Y (E ⟨W.heap.size,0,N⟩) b.size (cc W)] (p W) (λe r=>∃g h,e=ξ (τ #[I U (bu (bl b)),Y g ((bl b).length-16) h,β ρ])/\aS r (p W).heap.size (Y g ((bl b).length-16) h) (cV s.key s.me (bu (bl b)) (bO (bl b)))/\(p W).grownBy r N) by
  rw[ak,a4];exact Gr s.key s.me (E ⟨W.heap.size,0,N⟩) b.size (grownCap W b.size 0 5) (bl b) (Lib.bytesWorld W 5 b) hk b8 (tB W b) z.ok))
 have gd:G w w.drew N:=aK (au _ N);have gc:w.drew.grownBy (p w.drew) N:=by rw[ak];exact r9 w.drew b
 clear ak a4;have K:Hid (Calls prog 65 #[ε (bY s.key),I X s.me,Y (E ⟨w.heap.size,0,N⟩) b.size (cc w.drew)] (p w.drew) (λe r=>∃g h,e=ξ (τ #[I U (bu (bl b)),Y g ((bl b).length-16) h,β ρ])/\aS r (p w.drew).heap.size (Y g ((bl b).length-16) h) (cV s.key s.me (bu (bl b)) (bO (bl b)))/\(p w.drew).grownBy r N)):=J (Z bz w.drew);clear bz;have al:=dT ai gd;have ao:=dT al gc;obtain⟨key,ax⟩:=í s.key;rw[<-ax]at K bx ai al ao;obtain⟨num,L⟩:=í (bu (bl b));rw[<-L]at K;obtain⟨A,a0⟩:=í (cV key s.me num (bO (bl b)));rw[<-a0]at K;replace⟨L,a0,ax,H,z,hR⟩:=mY L a0 ax H z hR;clear M;go_enter func80,ntmps80;go_upto_region 1 with fail;go_cut [6,7,8] (λv6 v7 v8 wx=>∃g h W,v6=I U num/\v7=Y g ((bl b).length-16) h/\v8=β ρ/\G w W N/\aS wx W.heap.size (Y g ((bl b).length-16) h) A/\G w wx N);case first=>
  go_region_held (λr=>r.rangeAt mb 2 (bv key)/\G w r N)
   (with_reducible first|exact bA|exact ai|exact al|exact ao)
   (first|(go_at_call 65;apply(Z K).mono;rintro e w5⟨g,h,rfl,v,g5⟩;have bA:=dT ao g5;have a1:=J v;clear v))
  go_wp2;go_meet;exact⟨g,h,_,Q,Q,Q,aq gd gc,Z a1,bA.2⟩
 case rest=>
  clear K ai b7 bx ca gc al ao cf;obtain⟨g,h,W,rfl,rfl,rfl,gW,v,g1⟩:=hcut;have t:=Z z;have bM:num=s.next:=by rw[Z L];exact t.num
  have b3:cV s.key s.me (bu (bl b)) (bO (bl b))=A:=by rw[Z a0,Z L,Z ax]
  have P:=t.dec;have a2:=t.enc;rw[b3]at P a2;have ch:=t.len;have cm:=t.nx;have T:=(Z H).ag g1;have M:=T.mc;have c0:=M.c0;have cp:=M.next;have f22:=M.fz 22;let⟨H2,C2⟩:=T.qM 22 (I U (s.next+1)) {s with next:=s.next+1} (Qi T.key _) rfl rfl rfl rfl rfl rfl rfl
  obtain⟨u,a3⟩:=í (ζ wc ⟨mb,22,N⟩ (I U (s.next+1)));rw[<-a3]at H2 C2;have tm:Ty wc mb 107:=⟨_,_,T.aG⟩
  have gs:=aD (au wc (E mb)) ⟨mb,22,N⟩ (I U (s.next+1)) (ψ Q);rw[<-a3]at gs;have Cm:=(aj.of gs).mono (λk _ e=>(aR e).symm);have a1:aS u W.heap.size (Y g ((bl b).length-16) h) A:=⟨v.1,dA v.2 Cm (λk e1 e2=>by subst e2;exact absurd ((cN v.2 _ e1).uniq tm) Θ)⟩
  obtain⟨ab,cb,eb,x,-,-⟩:=a1.bs;injection eb with a8 C a9;subst a8;subst a9;rw[<-C]at x;have b4:=J (Gs u g ((bl b).length-16) h A x (by rw[<-C,iE];omega));have wn:U.wrap (s.next+1)=s.next+1:=by rw[cZ];omega
  have d1:decide ((b.size:Int)>s.az)=θ:=é;have bb:=J (λi aw a c d(j:fe i u.heap.size (Y a c d) aw)(y:aw.map (·.1)=fs)=>Gu i a c d fs (y▸j.E8) t.ux);have ct:=bG g1.size Cm.size;have bj:=J (λi n aw a c d(F:G u i N)(m:G i n N)(j:fe i u.heap.size (Y a c d) aw)(y:aw.map (·.1)=fs)=>(show R (ξ (τ #[Y a c d,β ρ])) n by
   rw[Z hR];refine⟨aw,a,c,d,u.heap.size,Q,y,ct,(j.AG.ag m).up m.size,⟨l,B,H2.ag (aq F m),λk hk=>φ hk,?_⟩,l,H2.ag (aq F m)⟩
   exact(((aj.of g1).trans C2).trans (aj.of (aq F m))).mono (λk _ e=>by obtain(e|e)|e:=e;(·cases e);(·exact e);(·cases e))))
  have db:=t.Gv;rw[bM];clear bM b3 C T M H2 C2 tm gs Cm v a1 t cm ch;replace⟨x,P,a2⟩:=cA x P a2;go_upto_region 5 with fail;rw[<-a3];clear a3 c0 cp f22;go_cut [9,10,11] (λv9 cv dc wx=>∃aw a c d,v9=Y a c d/\cv=I X 0/\G u wx N/\fe wx u.heap.size (Y a c d) aw/\aw.map (·.1)=fs);case first=>
   clear bj bb;go_wp2_with (go_at_call 63;apply(Z b4).mono;rintro e w6⟨g6,(⟨aw,a,c,d,hd,rfl,j⟩|⟨q,hd,rfl⟩)⟩)
   .go_meet;rw[Z P]at hd;exact⟨aw,a,c,d,Q,Q,g6,j,by cases hd;rfl⟩
   exact absurd ((Z P).symm.trans hd) Γ
  case rest=>
   rename D=>i
   obtain⟨aw,a,c,d,rfl,rfl,F,j,y⟩:=hcut;have b5:=J (Z bb i aw a c d j y);have br:=J (λn(m:G i n N)=>Z bj i n aw a c d F m j y);replace x:=J ((Z x).ag F);clear bj bb b4 j y;go_upto_region 8 with fail;go_cut [12,13] (λcw de wx=>∃V n8 c8,cw=Y V n8 c8/\G i wx N/\aS wx i.heap.size (Y V n8 c8) A);case first=>
    clear br;go_wp2_with (go_at_call 67;apply(Z b5).mono;rintro e w6⟨(⟨-,V,n8,c8,rfl,j⟩|⟨dg,-⟩),g6⟩);go_meet;exact⟨V,n8,c8,Q,g6,by rw[<-Z a2];exact j⟩
   case rest=>
    rename D=>n
    obtain⟨V,n8,c8,rfl,m,b6⟩:=hcut;obtain⟨ab,cb,eb,bt,-,-⟩:=b6.bs;injection eb with a8 C a9;subst a8;subst a9;rw[<-C]at bt;have bw:G n n.drew N:=aK (au _ N);have cx:=nG (bt.ag bw);have cy:=nG (((Z x).ag m).ag bw);obtain⟨S,hS⟩:=í (strOfNums A);rw[<-hS]at cx cy;have c9:=J (Z br n.drew (aq m bw));clear hS bt b6 br b5 C;go_upto_region 9 with fail;go_region;go_wp2_with fail;exact Z c9
structure sH(w:D)(B:Nat->Prop)(a:Option Addr)(n c:Nat)(bs:List ByteArray):Prop where
 row:w.ownsRow 0 9 1 (Y a n c) bs.length (bs.map (ς ·))
 out:∀k,(Y a n c).ownBlock=E k->¬B k/\k<w.heap.size
def sH.aA{bs:List ByteArray}(h:sH w S a n i bs)(C:aj w W S):W.ownsRow 0 9 1 (Y a n i) bs.length (bs.map (ς ·)):=dA h.row C (λk e=>(h.out k e).1)
def uz(l:List ByteArray)(j:Nat):ByteArray:=l.getD j ⟨#[]⟩
def yU{bs:List ByteArray}(h:w.ownsRow 0 9 1 (Y a n k) bs.length (bs.map (ς ·))):n=bs.length/\n<=k/\k<=9223372036854775807/\∀j,j<n->∃g,a=E ⟨g,0,N⟩/\κ w ⟨g,j,N⟩=E (ς (uz bs j)):=by
 obtain⟨d,f,e,d2,d3,-,-⟩:=ns h;cases e;refine⟨Q,d2,by simpa [maxLen]using d3,λj b=>?_⟩
 obtain⟨g,i,e2,-,-,c,-,-⟩:=nX h j b;cases e2;refine⟨g,Q,?_⟩
 rw[c,kU,dB b];simp[uz,List.getD,dB b]
def Bp(s:ah)(bs:List ByteArray):Prop:=
 (s.said=ρ/\bs=[])\/(s.said=θ/\∃b f,bs=[b]/\uw s b [f]/\f.kind=6/\f.code=s.code)
def ah.oP(s:ah):ah:=if s.said then s else{s with said:=ρ,next:=s.next+1}
def RF(w:D)(mb:Nat)(l:cz)(s:ah)(B:Nat->Prop)(H:bV w mb l s B)(a:Option Addr)(n c:Nat)(bs:List ByteArray)(hp:sH w B a n c bs)(ho:Bp s bs):
 Calls prog 47 #[π (E ⟨mb,0,N⟩),Y a n c] w λe w'=>e=ξ (β ρ)/\bP w.heap.size w mb B s.oP w':=by
 refine js λR q=>?_
 have M:=H.mc;have y:=M.said;obtain⟨m,rfl⟩|⟨m,b,f,rfl,d,h4,h5⟩:=ho
 .obtain⟨p,a1,a2,-⟩:=yU hp.row;simp only[eJ]at p;subst p;have t:Hid (R w):=J (by
   rw[q];have e:s.oP=s:=by unfold ah.oP;rw[m];rfl
   rw[e];exact H.to (au _ _))
  rw[m]at y;go_enter func47,ntmps47;go_wp2;go_ret;exact⟨Q,Z t⟩
 obtain⟨p,a1,a2,hg⟩:=yU hp.row;simp only[wK]at p;subst p;obtain⟨g,rfl,z⟩:=hg 0 O;have eb:uz [b] 0=b:=rfl;rw[eb]at z;have f21:=M.fz 21;obtain⟨A,u⟩:=H.qM 21 (β ρ) {s with said:=ρ} (FY H.key ρ) rfl rfl rfl rfl rfl rfl rfl;obtain⟨r,v⟩:=í (ζ w ⟨mb,21,N⟩ (β ρ));rw[<-v]at A u;have hy:κ r ⟨g,0,N⟩=E (ς b):=by
  have C:=hp.out g Q;exact(iB (u.block g C.2 C.1)).trans z
 have a8:=J (Gy r mb l {s with said:=ρ} B A b [f] ⟨d.ok,d.len,d.num,d.dec,d.enc,d.Gv,d.ux,d.me,d.nx⟩);have a9:s.oP={s with said:=ρ,next:=s.next+1}:=by unfold ah.oP;rw[m];rfl
 have t:=J (λx F K(L:G x F N)(h:bP r.heap.size r mb B {s with said:=ρ,next:=s.next+1} x)(H3:bV x mb K {s with said:=ρ,next:=s.next+1} B)=>(show R F by
  rw[q];rw[a9];obtain⟨l4,B4,H4,cf,C4⟩:=h;exact⟨K,B,H3.ag L,λk hk=>φ hk,((u.trans C4).trans (aj.of L)).mono (λk _ e=>by obtain(e|e)|e:=e;(·exact e);(·exact e);(·cases e))⟩))
 rw[m]at y;replace q:=J q;go_enter func47,ntmps47;go_upto_region 4 with fail;rw[<-v];clear v;go_upto_region 7 with(go_at_call 80;apply(Z a8).mono;rintro e P⟨aw,fa,fn,fc,ct,rfl,S,hN,T,bt,l1,V⟩)
 obtain⟨W,cw,bx⟩:=T.fU;unfold maxLen at bx;have bz:aw.length=1:=by have:=fR List.length S;simpa using this
 rw[bz]at W;subst W;have bA:f=(cS aw 0).1:=by
  have e0:=sy (l:=aw) (i:=0) O;have:(aw.map (·.1))[0]?=E f:=by rw[S];rfl
  rw[kU,e0]at this;exact(aR this).symm
 obtain⟨gf,ra,rc,rfl,⟨z0,z1,z2,z3,z4,z5,z6⟩,-,-,-⟩:=T.get (j:=0) O bA;simp only[nz,eM]at z0 z1 z2 z3 z4 z5 z6;have cy:=V.mc.code;rw[h4]at z0;rw[h5]at z3;have b6:=J (Z t P P.drew l1 (aK (au _ N)) bt V);go_region;go_wp2;go_ret;exact⟨Q,Z b6⟩
def jS.iO{i:It}{r:aL}(h:jS i r)(f:Fr):i.iO f.offset=r.uv f:=by
 unfold It.iO aL.uv;rw[h.ended];by_cases a:r.ended=ρ;have hl:=h.last (h.ended.trans a);have c:=h.hl (h.ended.trans a);grind;have a:r.ended=θ:=by simpa using a
 have b:i.given=θ:=by
  by_cases b:i.given=ρ;have:=h.ge b;rw[h.ended,a]at this;cases this;grind
 rw[a,h.high b];rfl
def jS.reset{i:It}{r:aL}(h:jS i r)(f:Fr)(d:i.iO f.offset=θ):jS (i.reset f) (r.reset f):=by
 have b:=d;unfold It.iO at b;simp only[uL,Bool.and_eq_false_iff,uI]at b;have g:i.ended=ρ->f.offset=i.last:=λe=>by
  grind
 have c:(i.reset f).h.fr=i.h.fr:=by
  show(if i.given then i.h else⟨i.h.fr,[],[]⟩:Hd).fr=i.h.fr;grind
 refine⟨Q,λ_=>rfl,Q,λ_=>?_,by rw[c];exact h.fr,λe=>(by cases e),λ_=>?_,λ_=>rfl,h.over,?_,λe=>?_,λe=>(by cases e),λe=>(by cases e)⟩
 show(if i.given then i.code else f.code)=(if r.given then r.code else f.code)
 rw[<-h.given];split;rename_i a;exact h.code a;rfl;show i.high<=f.offset/\r.high<=f.offset;refine⟨O,?_⟩
 by_cases a:i.given=ρ;have j:=h.ge a;have:=(h.hl j).2;grind;have a:i.given=θ:=by simpa using a
 rw[<-h.high a];omega;obtain e|e|⟨e,-⟩:=h.st
 exact φ e;exact ψ (φ e);exact ψ (ψ ⟨e,Q⟩);let⟨e1,e2⟩:=h.ov e
 exact⟨Q,by rw[c];show i.h.fr=f.offset;rw[g e1];exact e2⟩
def jS.busy{i:It}{r:aL}(h:jS i r)(f:Fr)(av:Int):i.busy f av=(decide (r.state≠2)&&(!r.given&&decide (r.read+av<bm f))):=by
 unfold It.busy;rw[h.given,h.fr];obtain e|e|⟨e,e2⟩:=h.st
 simp_all;simp_all;rw[h.given]at e2;rw[e2];simp
def Bq{h:Hd}(d:bk h.af)(f:∀m,0<=m->m<h.fr->Sm h.af m)(n:0<=h.fr)(hp:∀m,Sm h.af m->0<=m)(e:0<=dL h):(∀j:Int,0<=j->j<dL h->Sm h.af (h.fr+j))/\¬Sm h.af (h.fr+dL h):=by
 unfold dL at *;cases g:h.af with
 |nil=>
  simp only[eJ,true_or,fw]
  exact⟨λj b i=>by omega,ij _⟩
 |cons a l=>
  rw[g]at d e f;have e0:an (a::l) 0=a:=rfl;rw[e0]at e⊢;have p:∀m,Sm (a::l) m->a.lo<=m:=λm k=>by
   obtain b|b:=(eG a l m).1 k
   omega;have:=d.behind b;have:=d.2 a Γ;omega
  by_cases c:0<a.lo;grind;rw[aE (by grind)]at e⊢;refine⟨λj b i=>(eG a l _).2 (φ O),λhs=>?_⟩
  obtain b|b:=(eG a l _).1 hs
  omega;have:=d.behind b;omega
def RW{i:It}{r:aL}(h:jS i r)(a:iT p i)(d:iz r)(b:i.given=θ):(r.mG:Int)=dL i.h:=by
 have e:=a.whole;let⟨f,j⟩:=Bq a.ok (a.low b) a.fr (λm g=>(a.lR m g).1) e.1
 have k:=d.rd;have l:=h.fr;by_cases c1:(r.mG:Int)<dL i.h;exfalso;have hs:=f _ O c1;have c:=(h.th b (r.read.toNat+r.mG)).2 (by grind);have hl:r.read.toNat+r.mG<r.there.length:=by
  grind
 have:=F8 r hl;grind;by_cases c2:dL i.h<(r.mG:Int);exfalso;have n:=F7 r (dL i.h).toNat O;have c:r.there.getD (r.read.toNat+(dL i.h).toNat) θ=ρ:=by simp_all
 have:=(h.th b _).1 c;grind;omega
def iz.fY{r:aL}(a:iz r)(aJ:Int):iz (r.fY aJ):=by
 have hs:iz r.start:=by
  unfold aL.start;split;exact⟨a.dl,a.tl,a.hi,a.e0,a.rd⟩
  exact a
 have c:=Ba (p:=aJ) hs;have b:iz (r.start.eT (r.start.aQ aJ)):=⟨hs.dl,hs.tl,hs.hi,hs.e0,by have:=hs.rd;show 0<=r.start.read+_/\r.start.read+_<=r.start.high;omega⟩
 unfold aL.fY aL.stop;split;exact⟨b.dl,b.tl,b.hi,b.e0,b.rd⟩
 exact b
def jS.read{i:It}{r:aL}(h:jS i r)(f:iT p i)(s:iz r)(aJ:Int):
 r.text aJ=i.out aJ/\(r.fY aJ).state=i.state aJ/\(r.fY aJ).ik=i.ik/\jS (i.read aJ) (r.fY aJ):=by
 have y:=f.whole;by_cases z:i.given=ρ/\i.over=θ;let⟨b,d⟩:=z
 have A:=h.given▸b;have B:r.state≠1:=λe=>by have:=h.over.2 e;rw[d]at this;cases this
 have n:r.start={r with state:=2}:=by
  unfold aL.start;obtain e|e|⟨e,-⟩:=h.st
  rw[aH ⟨A,e⟩];exact absurd e B;rw[aE (λq=>by have:=q.2;omega),<-e]
 have k:r.start.aQ aJ=0:=by rw[n];unfold aL.aQ;rw[aE Γ]
 have l:r.fY aJ={r with state:=2}:=by
  unfold aL.fY;rw[k,n];unfold aL.stop aL.eT;grind
 have g:(i.given&& !i.over)=ρ:=by rw[b,d];rfl
 have t:i.read aJ=i:=by unfold It.read;rw[aH g]
 refine⟨?_,?_,?_,?_⟩
 unfold aL.text It.out;rw[k,aH g];rfl;rw[l];unfold It.state;rw[aH g];rw[l];unfold aL.ik It.ik;rw[aH Q,aH g];exact(h.code b).symm;rw[t,l];exact⟨h.ended,h.last,h.given,h.code,h.fr,h.high,h.hl,h.ge,by simp[d],ψ (ψ ⟨Q,b⟩),h.ov,h.th,h.rM⟩
 have g:(i.given&& !i.over)=θ:=by
  cases b:i.given;rfl;cases d:i.over;exact absurd ⟨b,d⟩ z;rfl
 by_cases d:i.over=ρ;have B:=h.over.1 d;let⟨K,R⟩:=h.ov d
 have n:r.start=r:=by unfold aL.start;rw[aE (λq=>by have:=q.2;omega)]
 have k:r.start.aQ aJ=0:=by rw[n];unfold aL.aQ;rw[ê]
 have l:r.fY aJ=r:=by
  unfold aL.fY;rw[k,n];unfold aL.stop aL.eT;rw[aE (λq=>by have:=q.2.2;simp only at this;omega)];simp
 have W:dL i.h<=0:=by
  by_cases b:i.given=ρ;unfold dL;rw[(f.uj b).1];simp;have b:i.given=θ:=by simpa using b
  by_cases c:dL i.h<=0;exact c;exfalso;obtain⟨C,-⟩:=Bq f.ok (f.low b) f.fr (λm u=>(f.lR m u).1) y.1;have hs:=C 0 O O;have S:=f.fr;have v:=(h.th b _).2 (by rw[show((i.h.fr.toNat:Nat):Int)=i.h.fr+0 by omega];exact hs);have hl:i.h.fr.toNat<r.there.length:=by
   by_cases c:i.h.fr.toNat<r.there.length;exact c;rw[List.getD,rT O]at v;cases v
  have:=(h.hl K).2;have:=s.dl;have:=s.tl;omega
 have L:i.jG aJ=0:=by unfold It.jG;omega
 have t:i.read aJ=i:=by
  unfold It.read;rw[aE (by rw[g];simp),L];have e1:(i.ended&&(i.h.fr+((0:Nat):Int)==i.last))=i.over:=by rw[K,d];simp[R]
  rw[e1];simp
 refine⟨?_,?_,?_,?_⟩
 unfold aL.text It.out;rw[k,aE (by rw[g];simp),L];rfl;rw[l];unfold It.state;rw[aE (by rw[g];simp),t,aH d];exact B;rw[l];unfold aL.ik It.ik;rw[ê,aE (by rw[g];simp)];rw[t,l];exact h;have d:i.over=θ:=by simpa using d
 have b:i.given=θ:=by
  by_cases b:i.given=ρ;exact absurd ⟨b,d⟩ z;simpa using b
 have A:=h.given▸b;have F:r.state=0:=by
  obtain e|e|⟨-,e⟩:=h.st
  exact e;have:=h.over.2 e;rw[d]at this;cases this;rw[b]at e;cases e
 have n:r.start=r:=by unfold aL.start;rw[aE (λq=>by have:=q.1;rw[A]at this;cases this)]
 have ai:=RW h f s b;have k:r.start.aQ aJ=i.jG aJ:=by
  rw[n];unfold aL.aQ It.jG;rw[aH F];omega
 have T:=Ba (p:=aJ) s;obtain⟨a,w⟩:=í (i.jG aJ);rw[<-w]at k;have ak:(a:Int)<=dL i.h:=by rw[w];exact FM i _ y
 rw[n]at k;rw[k]at T;have M:=h.fr;have S:=f.fr;obtain⟨C,-⟩:=Bq f.ok (f.low b) f.fr (λm u=>(f.lR m u).1) y.1;have V:∀j:Nat,(j:Int)<dL i.h->r.there.getD (r.read.toNat+j) θ=ρ:=λj x=>(h.th b _).2 (by rw[show((r.read.toNat+j:Nat):Int)=i.h.fr+j by push_cast;have:=s.rd;omega];exact C j O x)
 have t:i.read aJ={i with h:=⟨i.h.fr+a,i.h.bytes.drop a,i.h.af⟩,over:=i.ended&&(i.h.fr+a==i.last)}:=by
  unfold It.read;rw[aE (by rw[g];simp),<-w]
 have l:r.fY aJ=(r.eT a).stop:=by unfold aL.fY;rw[n,k]
 have al:=s.dl;have ao:=s.tl;have ax:=s.rd;have H:(r.eT a).stop={r.eT a with state:=if r.ended=ρ/\r.read+a=r.end_ then 1 else 0}:=by
  unfold aL.stop;by_cases c:r.ended=ρ/\r.read+a=r.end_;rw[aH ⟨c.1,c.2,F⟩,aH c];rw[aE (λq=>c ⟨q.1,q.2.1⟩),aE c];unfold aL.eT;rw[<-F]
 have P:(i.ended&&(i.h.fr+a==i.last))=decide (r.ended=ρ/\r.read+a=r.end_):=by
  rw[h.ended,M];by_cases c:r.ended=ρ;rw[h.last (h.ended.trans c),c];by_cases c2:r.read+a=r.end_;rw[bU ⟨Q,c2⟩];simpa using c2;rw[bT (λq=>c2 q.2)];simpa using c2;have c:r.ended=θ:=by simpa using c
  rw[c,bT (λq=>by cases q.1)];rfl
 refine⟨?_,?_,?_,?_⟩
 unfold aL.text It.out;rw[n,k,aE (by rw[g];simp),<-w];apply List.ext_getElem?;intro j;by_cases x:j<a;rw[List.getElem?_take_of_lt x,List.getElem?_take_of_lt x,tp];have hd:=h.rM b _ (by push_cast;omega) (V j O);rw[show((((r.read.toNat+j:Nat)):Int)-i.h.fr).toNat=j by push_cast;omega]at hd;have b1:j<i.h.bytes.length:=O;have b2:r.read.toNat+j<r.data.length:=O;simp only[List.getD,dB b1,dB b2,Option.getD_some]at hd;rw[dB b1,dB b2,hd];rw[rT (by rw[dK];omega),rT (by rw[dK];omega)];have e1:i.state aJ=if(i.ended&&(i.h.fr+a==i.last))=ρ then 1 else 0:=by
  unfold It.state;rw[aE (by rw[g];simp),t]
 rw[e1,P,l,H];show(if r.ended=ρ/\r.read+a=r.end_ then(1:Int)else 0)=_;by_cases c:r.ended=ρ/\r.read+a=r.end_;rw[aH c,aH (bU c)];rw[aE c,aE (by rw[bT c];simp)];have e2:i.ik=0:=by unfold It.ik;rw[aE (by rw[g];simp)]
 rw[e2,l,H];unfold aL.ik;apply aE;show¬(if r.ended=ρ/\r.read+a=r.end_ then(1:Int)else 0)=2;split<;>omega;rw[t,l,H];refine⟨h.ended,h.last,h.given,λe=>absurd (show i.given=ρ from e) (by rw[b];simp),?_,h.high,h.hl,h.ge,?_,?_,λe=>?_,h.th,λ_ m u v=>?_⟩
 show i.h.fr+a=r.read+a;rw[M];show(i.ended&&(i.h.fr+a==i.last))=ρ↔(if r.ended=ρ/\r.read+a=r.end_ then(1:Int)else 0)=1;rw[P,wP];by_cases c:r.ended=ρ/\r.read+a=r.end_;rw[aH c];simp[c];rw[aE c];simp[c];show(if r.ended=ρ/\r.read+a=r.end_ then(1:Int)else 0)=0\/_;by_cases c:r.ended=ρ/\r.read+a=r.end_;right;left;show(if r.ended=ρ/\r.read+a=r.end_ then(1:Int)else 0)=1;rw[aH c];left;rw[aE c];have e2:(i.ended&&(i.h.fr+a==i.last))=ρ:=e;simp only[uP,beq_iff_eq]at e2;exact e2;have a0:i.h.fr+a<=(m:Int):=u;have hd:=h.rM b m O v;show(i.h.bytes.drop a).getD ((m:Int)-(i.h.fr+a)).toNat 0=r.data.getD m 0;rw[<-hd];simp only[List.getD,tp]
 congr 2;omega
def yW(L:List (Int×List Fr))(P:Int->Prop)(k:Nat)(e g:Bool):Prop:=(e=ρ->∃x∈L,P x.1/\∃f∈x.2,f.stream.toNat=k/\(f.kind=4\/(f.kind=5/\f.fin=ρ)))/\(g=ρ->∃x∈L,P x.1/\∃f∈x.2,f.stream.toNat=k/\f.kind=4)
def yW.mono{L d:List (Int×List Fr)}{P e:Int->Prop}{g:Bool}(h:yW L P k B g)(f:∀x∈L,x∈d)(i:∀x∈L,P x.1->e x.1):yW d e k B g:=
 ⟨λq=>by obtain⟨x,a,b,c⟩:=h.1 q;exact⟨x,f x a,i x a b,c⟩,λq=>by obtain⟨x,a,b,c⟩:=h.2 q;exact⟨x,f x a,i x a b,c⟩⟩
structure qQ(s:Sd)(m:ah):Prop where
 told:∀x∈m.ay,∀f∈x.2,∀k,k<4->∀b,sP f k b->Sm (s.out k).h.af b\/∃p∈s.aO++s.lost,p.num=x.1/\p.st.toNat=k/\∃q∈p.ps,q.x.lo<=b/\b<q.x.hi
 back:∀p∈s.aO++s.lost,∀q∈p.ps,∀b,q.x.lo<=b->b<q.x.hi->∃x∈m.ay,x.1=p.num/\∃f∈x.2,sP f p.st.toNat b
 fz:∀x∈m.ay,∀f∈x.2,f.kind=5->0<f.data.size->bm f<=(m.outs f.stream.toNat).data.size
 ma:yM m
 eg:∀p∈s.aO++s.lost,∀q∈p.ps,yW m.ay (λn=>n=p.num) p.st.toNat q.e q.g
def GH{q:Pk->Bool}{l:List Pk}{y:Int×Pc}:y∈oG q l↔∃x∈l,q x=ρ/\y.1=x.st/\y.2∈x.ps:=by
 unfold oG;grind
def R9(M:∀k,k<4->ia (d.out k) (f.outs k))(g:qQ d f)(P:∀k,k<4->im (d.out k))(a9:∀x∈d.aO++d.lost,0<=x.st/\x.st<4/\∀p∈x.ps,mr p)(l:List Rg):
 (∀k,k<4->ia ((d.dW l).out k) ((f.lE l).outs k))/\qQ (d.dW l) (f.lE l):=by
 obtain⟨L,hL⟩:=í (oG (λx=>bK l x.num) d.aO++oG (λx=>bK l x.num) d.lost);have ao:∀y,y∈L↔∃p∈d.aO++d.lost,bK l p.num=ρ/\y.1=p.st/\y.2∈p.ps:=λy=>by
  rw[hL,b9,GH,GH];grind
 have F:(d.dW l).out=eO d.out L:=by rw[hL];rfl
 have A:∀k,k<4->im ((d.dW l).out k):=λk a=>by
  rw[F];exact zU P L (λy hy=>by
   obtain⟨p,hp,-,-,h⟩:=(ao y).1 hy;exact(a9 p hp).2.2 _ h) k a
 have B:∀k,k<4->fZ (f.outs k).af:=λk a=>(M k a).ck
 have T:∀k,k<4->∀b,Sm ((d.dW l).out k).h.af b↔Sm (d.out k).h.af b\/∃p∈d.aO++d.lost,bK l p.num=ρ/\p.st.toNat=k/\∃q∈p.ps,q.x.lo<=b/\b<q.x.hi:=λk a b=>by
  rw[F,(RZ L k d.out (P k a).ok).2 b];constructor;rintro(h|⟨y,hy,j,v⟩);exact φ h;grind;rintro(h|⟨p,hp,w,j,q,u,v⟩);exact φ h;exact ψ ⟨(p.st,q),(ao _).2 ⟨p,hp,w,Q,u⟩,j,v⟩
 have a0:∀k,k<4->∀b,Sm ((d.dW l).out k).h.af b↔Sm ((f.lE l).outs k).af.sp b:=λk a b=>by
  rw[T k a b];have hd:=(yV l f.ay g.ma B k a).2 b;rw[show((f.lE l).outs k)=f.ay.foldl (jm l) f.outs k from Q,hd,<-(M k a).af];constructor;rintro(h|⟨p,hp,w,j,q,u,v,V⟩);exact φ h;obtain⟨x,n,e1,i,s,t⟩:=g.back p hp q u b v V;exact ψ ⟨x,n,by rw[e1];exact w,i,s,by rw[<-j];exact t⟩;rintro(h|⟨x,n,w,i,s,t⟩);exact φ h;obtain h|⟨p,hp,e1,e2,h⟩:=g.told x n i s k a b t
  exact φ h;exact ψ ⟨p,hp,by rw[e1];exact w,e2,h⟩
 have a1:∀p,p∈(d.dW l).aO++(d.dW l).lost->p∈d.aO++d.lost:=λp hp=>by
  have bb:∀p,p∈(d.fN l).aO++(d.fN l).lost->p∈d.aO++d.lost:=λp hp=>by
   unfold Sd.fN at hp;simp only at hp;obtain hp|hp:=b9.1 hp
   exact jK _ (jV.1 (jV.1 hp).1).1;obtain hp|hp:=b9.1 hp
   exact kB _ (jV.1 hp).1;exact jK _ (jV.1 (jV.1 hp).1).1
  apply bb;obtain hp|hp:=b9.1 hp
  exact jK _ hp;exact kB _ (jV.1 hp).1
 refine⟨λk a=>?_,⟨λx n i s k a b t=>?_,λp hp q u b j v=>g.back p (a1 p hp) q u b j v,λx n i s H h0=>?_,g.ma,λp hp=>g.eg p (a1 p hp)⟩⟩
 obtain⟨⟨z,m⟩,-⟩:=yV l f.ay g.ma B k a;have m:(f.lE l).outs k={f.outs k with af:=z}:=m;have W:fZ ((f.lE l).outs k).af:=Gq g.ma B k a;have a2:((d.dW l).out k).h.af=((f.lE l).outs k).af.sp:=(A k a).ok.unique W.ok (a0 k a);obtain⟨p0,p1,p2⟩:=R6 W;have bj:((d.dW l).out k).h.fr=((f.lE l).outs k).af.fX:=by
  rw[<-a2]at p1 p2;exact R8 (S:=λb=>Sm ((d.dW l).out k).h.af b) (A k a).fr p0 (A k a).low (A k a).hole p1 p2
 have R:=M k a;have a4:∀b,Sm ((d.dW l).out k).h.af b->b<(f.outs k).data.size:=λb hb=>by
  have hd:=(yV l f.ay g.ma B k a).2 b;obtain h|⟨x,n,-,i,s,t⟩:=hd.1 ((a0 k a b).1 hb)
  rw[<-R.af]at h;exact R.cb b h;have:=g.fz x n i s t.1 t.2.1;rw[t.2.2.1]at this;have:=t.2.2.2.2;omega
 have sm:=RY L d.out k;rw[<-F]at sm;have C:((f.lE l).outs k).data=(f.outs k).data:=by rw[m]
 have K:((f.lE l).outs k).given=(f.outs k).given:=by rw[m]
 have bt:((f.lE l).outs k).finished=(f.outs k).finished:=by rw[m]
 have ai:((f.lE l).outs k).high=(f.outs k).high:=by rw[m]
 have bw:((f.lE l).outs k).code=(f.outs k).code:=by rw[m]
 have bx:((f.lE l).outs k).end_=(f.outs k).end_:=by rw[m]
 refine⟨a2,W,bj,by rw[sm.sG,K];exact R.sg,λe=>?_,by rw[sm.ay,ai];exact R.ay,λe=>?_,λe=>?_,by rw[C];exact R.sz,?_,by rw[ai,C];exact R.hs,by rw[C];exact a4⟩
 rw[K]at e;rw[sm.sE,bt];exact R.se e;rw[K]at e;rw[sm.code,sm.sE,bw,bx,ai];exact R.gv e;rw[K]at e;have:=(R1 L (bl (f.outs k).data) k d.out (P k a).fr (R.mD e)).2;rw[<-F]at this;rw[C];exact this;rw[C];by_cases c:((d.dW l).out k).h.fr=0;omega;have h0:=(A k a).fr;have:=a4 _ ((A k a).low (((d.dW l).out k).h.fr-1) O O);omega;obtain h|⟨p,hp,e1,e2,q,u,h⟩:=g.told x n i s k a b t
 exact φ ((T k a b).2 (φ h));by_cases w:bK l p.num=ρ;exact φ ((T k a b).2 (ψ ⟨p,hp,w,e2,q,u,h⟩));by_cases a8:p∈(d.dW l).aO++(d.dW l).lost;exact ψ ⟨p,a8,e1,e2,q,u,h⟩;left;have ak:(!bK l p.num)=ρ:=by simpa using w
 have j:p∈(d.fN l).aO++(d.fN l).lost:=by
  unfold Sd.fN;simp only
  obtain hp|hp:=b9.1 hp
  by_cases c:decide (p.num+3<=(an l 0).hi)=ρ;exact kB _ (kB _ (jV.2 ⟨jV.2 ⟨hp,ak⟩,c⟩));exact jK _ (jV.2 ⟨jV.2 ⟨hp,ak⟩,by simpa using c⟩);exact kB _ (jK _ (jV.2 ⟨hp,ak⟩))
 have v:p.ps.all (nh ((d.fN l).out p.st.toNat))=ρ:=by
  by_cases c:p.ps.all (nh ((d.fN l).out p.st.toNat))=ρ;exact c;exfalso;apply a8;obtain j|j:=b9.1 j
  exact jK _ j;exact kB _ (jV.2 ⟨j,by simpa using c⟩)
 have V:=List.all_eq_true.1 v q u;have h4:=(Dz _ _).1 V;obtain H|⟨r,hr,H,h6⟩:=h4.1
 omega;have:Sm ((d.fN l).out p.st.toNat).h.af b:=⟨r,hr,O,O⟩
 rw[e2]at this;exact this;have b3:=g.ma x n i s H h0;have a:i.stream.toNat<4:=O;obtain⟨⟨z,m⟩,-⟩:=yV l f.ay g.ma B _ a;have m:(f.lE l).outs i.stream.toNat={f.outs i.stream.toNat with af:=z}:=m;rw[m];exact g.fz x n i s H h0
structure jq(s:Sd)(m:ah):Prop where
 az:m.az=s.az
 av:m.av=s.av
 key:m.key=s.key
 me:m.me=if s.first then 0 else 1
 cl:m.closed=0
 said:m.said=θ
 next:m.next=s.count
 out:∀k,k<4->ia (s.out k) (m.outs k)
 aF:∀k,k<4->jS (s.aF k) (m.ins k)
 mK:∀k,k<4->iz (m.ins k)
 fl:qQ s m
def qQ.ins(h:qQ d f)(i:Nat->It)(j:Nat->aL):qQ {d with aF:=i} {f with ins:=j}:=⟨h.told,h.back,h.fz,h.ma,h.eg⟩
def jq.sC(h:jq d f)(k:Nat)(i:It)(r:aL)(b:k<4->jS i r)(c:k<4->iz r):jq {d with aF:=aB d.aF k i} {f with ins:=aB f.ins k r}:=by
 refine⟨h.az,h.av,h.key,h.me,h.cl,h.said,h.next,h.out,λj a=>?_,λj a=>?_,h.fl.ins _ _⟩
 by_cases e:j=k;subst e;simp only[bN];exact b a;simp only[bI _ _ e];exact h.aF j a;by_cases e:j=k;subst e;simp only[bN];exact c a;simp only[bI _ _ e];exact h.mK j a
def jq.due(h:jq d f)(a:List Int):jq d {f with due:=a}:=⟨h.az,h.av,h.key,h.me,h.cl,h.said,h.next,h.out,h.aF,h.mK,⟨h.fl.told,h.fl.back,h.fl.fz,h.fl.ma,h.fl.eg⟩⟩
def jq.nums(h:jq d f)(c:List Rg)(fl:Int)(o:Bool)(g e:cg):jq {d with af:=c,floor:=fl,eY:=o} {f with aX:=g,aU:=e}:=⟨h.az,h.av,h.key,h.me,h.cl,h.said,h.next,h.out,h.aF,h.mK,⟨h.fl.told,h.fl.back,h.fl.fz,h.fl.ma,h.fl.eg⟩⟩
def jq.note(h:jq d f)(a:Fr)(n:Int):jq d (f.note a n):=by
 unfold ah.note;split;exact h.due _;exact h
def jq.busy(h:jq d f)(a:Fr)(b:a.kind=5->0<=a.stream/\a.stream<4):d.fk a=f.fk a:=by
 unfold Sd.fk ah.fk;by_cases c:a.kind=5;have:=b c;rw[(h.aF a.stream.toNat O).busy a d.av,h.av];grind
def Sa{m:ah}(h:jq d m)(hs:cJ d n)(g:cT u)(i:0<=u.offset)(k:nN d u)(l:u.kind=5->(m.ins u.stream.toNat).given=θ->bm u<=100000000):(m.take u).1=(d.take u).1/\jq (d.take u).2 (m.take u).2:=by
 have v:=g.st;have a:u.stream.toNat<4:=O;unfold Sd.take ah.take;by_cases c:u.kind=3;rw[aH c,aH c,h.next];split;simp_all;let⟨p,q⟩:=R9 h.out h.fl hs.out hs.pk u.ranges
 exact⟨Q,⟨h.az,h.av,h.key,h.me,h.cl,h.said,h.next,p,h.aF,h.mK,q⟩⟩
 rw[aE c,aE c];by_cases f:u.kind=4;rw[aH f,aH f,(h.aF _ a).iO u];split;simp_all;rename_i r;have s:(d.aF u.stream.toNat).iO u.offset=θ:=by rw[(h.aF _ a).iO u];simpa using r
 exact⟨Q,h.sC _ _ _ (λ_=>(h.aF _ a).reset u s) (λ_=>(h.mK _ a).reset i g.1.1)⟩
 rw[aE f,aE f];by_cases b:u.kind=5;rw[aH b,aH b];cases j:(d.aF u.stream.toNat).bad u;have w:=(h.aF _ a).given;let⟨d1,d2⟩:=(h.aF _ a).data (hs.aF _ a) (h.mK _ a) u i j (λe=>k b e)
 rw[d1];exact⟨Q,h.sC _ _ _ (λ_=>d2) (λ_=>(h.mK _ a).bytes i (g.en b) (l b))⟩
 have t:(m.ins u.stream.toNat).bad u=ρ:=by rw[<-(h.aF _ a).bad u];exact j
 have e:(m.ins u.stream.toNat).bytes u=(7,m.ins u.stream.toNat):=by unfold aL.bytes;rw[t];rfl
 rw[e];refine⟨Q,?_⟩
 simp only[fw,sq]
 exact h;grind
def Sb(p:n<=100000)(num:Int):∀(fs:List Fr)(s:Sd)(m:ah),jq s m->cJ s n->(∀f∈fs,cT f/\0<=f.offset/\nN s f/\(f.kind=5->(m.ins f.stream.toNat).given=θ->bm f<=100000000))->
 (ah.fP num fs m).1=(dP s fs).1/\((dP s fs).1=0->jq (dP s fs).2 (ah.fP num fs m).2)/\((dP s fs).1≠0->∃a,jq (dP s fs).2 a/\(ah.fP num fs m).2=a.fail (dP s fs).1):=by
 intro fs;induction fs with
 |nil=>intro s m h _ _;exact⟨Q,λ_=>h,λe=>absurd Q e⟩
 |cons f fs q=>
  intro s m h hs b;let⟨f1,f2,f3,f4⟩:=b f Γ
  let⟨t1,t2⟩:=Sa h hs f1 f2 f3 f4
  have d:=take_same s f;have e1:dP s (f::fs)=if(s.take f).1=0 then dP (s.take f).2 fs else s.take f:=rfl
  have e2:ah.fP num (f::fs) m=if(m.take f).1=0 then ah.fP num fs ((m.take f).2.note f num)else((m.take f).1,(m.take f).2.fail (m.take f).1):=rfl
  rw[e1,e2,t1];by_cases c:(s.take f).1=0;rw[aH c,aH c];refine q _ _ (t2.note f num) (AW hs p f1 f2 f3) (λg r=>?_);let⟨i,t,u,v⟩:=b g (by simp[r])
  refine⟨i,t,u.same d,λw j=>v w ?_⟩
  have k:g.stream.toNat<4:=by have:=i.st;omega
  have l:((m.take f).2.ins g.stream.toNat).given=θ:=by rw[(yT _ f num).2.2.1]at j;exact j
  rw[<-(t2.aF _ k).given]at l;have:=(d.aF g.stream.toNat).2;rw[<-(h.aF _ k).given];exact this l;rw[aE c,aE c];exact⟨Q,λe=>absurd e c,λ_=>⟨_,t2,Q⟩⟩
def sQ(m:ah)(n:Nat):Prop:=∀k,k<4->(m.ins k).read<=1024*n/\(m.ins k).high<=(m.ins k).read+m.av
structure dU(s:Sd)(m:ah)(n:Nat):Prop where
 c:jq s m
 aX:rO s.af s.floor m.aX
 aU:uA s.af m.aU n
 due:∀d∈m.due,d<s.floor\/(Sm s.af d/\s.eY=ρ)
 dl:m.due.length<=n
 rd:sQ m n
 sl:(m.ay.length:Int)<=m.next
structure uB(aI:Int)(l:List (List Int))(m:ah):Prop where
 cl:m.closed=aI
 w0:aI≠0
 GI:if m.said then l=[]else l=[dC m.key m.me m.next (bE [dD m.code])]
 key:cI m.key
 me:m.me=0\/m.me=1
 az:64<=m.az/\m.az<=300
 nx:0<=m.next/\m.next<=100000001/\(m.said=θ->m.next<=100000000)
 code:0<=m.code/\m.code<=4611686018427387903
def Rel:bg->ah->Nat->Prop
 |.bh s,m,n=>dU s m n
 |.shut aI l,m,_=>uB aI l m
def dU.mono(h:dU d f n)(a:n<=i):dU d f i:=
 ⟨h.c,h.aX,⟨h.aU.ok,h.aU.bd,h.aU.fl,h.aU.mo,bG h.aU.len a,h.aU.all⟩,h.due,bG h.dl a,λk b=>by have:=h.rd k b;omega,h.sl⟩
def jq.bf(h:jq d f):f.me=bf d.first/\1-f.me=bf (!d.first)/\(f.me=0\/f.me=1):=by
 rw[h.me];cases d.first<;>simp[Go.Proofs.YtjnmokmchdfchaaGreatDoor.bf]
def Se(num:Int):∀(fs:List Fr)(m:ah),Bh m (ah.fP num fs m).2\/(ah.fP num fs m).1≠0:=by
 intro fs;induction fs with
 |nil=>intro m;exact φ ⟨Q,Q,Q,Q,Q,Q,Q,Q,Q,Q,Q⟩
 |cons f fs c=>
  intro m;have e2:ah.fP num (f::fs) m=if(m.take f).1=0 then ah.fP num fs ((m.take f).2.note f num)else((m.take f).1,(m.take f).2.fail (m.take f).1):=rfl
  rw[e2];split;obtain h|h:=c ((m.take f).2.note f num)
  left;have a:=(we m f).1;have b:=(yT (m.take f).2 f num).1;exact⟨h.az.trans (b.az.trans a.az),h.av.trans (b.av.trans a.av),h.key.trans (b.key.trans a.key),h.me.trans (b.me.trans a.me),h.closed.trans (b.closed.trans a.closed),h.code.trans (b.code.trans a.code),h.said.trans (b.said.trans a.said),h.next.trans (b.next.trans a.next),h.aX.trans (b.aX.trans a.aX),h.aU.trans (b.aU.trans a.aU),h.ay.trans (b.ay.trans a.ay)⟩
  grind;grind
def Sf(num:Int)(d:List Int):∀(fs:List Fr)(m:ah),(m.due=d\/(m.due=d++[num]))->((ah.fP num fs m).2.due=d\/((ah.fP num fs m).2.due=d++[num]))/\(fs.any kP=θ->(ah.fP num fs m).2.due=m.due):=by
 intro fs;induction fs with
 |nil=>intro m h;exact⟨h,λ_=>rfl⟩
 |cons f fs b=>
  intro m h;have e2:ah.fP num (f::fs) m=if(m.take f).1=0 then ah.fP num fs ((m.take f).2.note f num)else((m.take f).1,(m.take f).2.fail (m.take f).1):=rfl
  rw[e2];have hd:=(we m f).2;split;let⟨c,e⟩:=b ((m.take f).2.note f _) (Bi f (by grind))
  refine⟨c,λa=>?_⟩
  simp only[List.any_cons,uL]at a;rw[e a.2];unfold ah.note ah.yS;grind;refine⟨?_,λ_=>hd⟩
  show(m.take f).2.due=d\/(m.take f).2.due=d++[num];grind
def Sg{m:ah}(h:sQ m n)(d:u.kind=5->u.stream.toNat<4->(m.ins u.stream.toNat).given=θ->bm u<=(m.ins u.stream.toNat).read+m.av):sQ (m.take u).2 n/\∀k,((m.take u).2.ins k).read=(m.ins k).read:=by
 have key:∀(a:Nat)(r:aL),r.read=(m.ins a).read->(a<4->r.high<=(m.ins a).read+m.av)->sQ {m with ins:=aB m.ins a r} n/\∀k,(aB m.ins a r k).read=(m.ins k).read:=λa r e1 e2=>by
  refine⟨λk b=>?_,λk=>?_⟩
  by_cases e:k=a;subst e;have:=h k b;simp only[bN]
  grind;simp only[bI _ _ e];exact h k b;by_cases e:k=a;subst e;rw[bN];exact e1;rw[bI _ _ e]
 unfold ah.take;split;split;exact⟨h,λk=>rfl⟩
 exact⟨h,λk=>rfl⟩
 split;split;exact⟨h,λk=>rfl⟩
 exact key _ _ Q (λb=>(h _ b).2);split;rename_i f;refine key _ _ ?_ (λb=>?_);unfold aL.bytes;split;rfl;split;rfl;rfl;have c:=(h _ b).2;unfold aL.bytes;split;exact c;split;exact c;rename_i g;have:=d f b (by simpa using g);show max _ _<=_;omega;split;exact⟨h,λk=>rfl⟩
 exact⟨h,λk=>rfl⟩
def Si(num:Int):∀(fs:List Fr)(m:ah),sQ m n->(∀f∈fs,f.kind=5->f.stream.toNat<4->(m.ins f.stream.toNat).given=θ->bm f<=(m.ins f.stream.toNat).read+m.av)->(ah.fP num fs m).1=0->sQ (ah.fP num fs m).2 n:=by
 intro fs;induction fs with
 |nil=>intro m h _ _;exact h
 |cons f fs l=>
  intro m h d h0;have e2:ah.fP num (f::fs) m=if(m.take f).1=0 then ah.fP num fs ((m.take f).2.note f num)else((m.take f).1,(m.take f).2.fail (m.take f).1):=rfl
  rw[e2]at h0⊢;let⟨p,q⟩:=Sg h (d f Γ)
  have b:=yT (m.take f).2 f num;have i:=b.1.av.trans (we m f).1.av;split;rename_i a;rw[aH a]at h0;have r:sQ ((m.take f).2.note f num) n:=λk c=>by
   have:=p k c;rw[b.2.2.1,i];rw[(we m f).1.av]at this;exact this
  refine l _ r (λg s t c j=>?_) h0;rw[b.2.2.1]at j⊢;rw[i,q];apply d g (by simp[s]) t c;have u:∀k,((m.take f).2.ins k).given=θ->(m.ins k).given=θ:=λk=>by
   unfold ah.take;split;split;exact id;exact id;split;split;exact id;simp only[aB]
   split;intro e;cases e;exact id;split;simp only[aB]
   split;rename_i v;rw[v];exact Gp;exact id;split;exact id;exact id
  exact u _ j;rename_i a;rw[aE a]at h0;exact absurd h0 a
def Bt{a:ah}(h:jq d f)(hs:cJ d n)(m:n<=100000)(i:p≠0)(j:0<=q/\q<=4611686018427387903)(e1:a.closed=p)(e2:a.code=q)(k:a.said=decide (p=10))(b:a.key=f.key)(e:a.me=f.me)(l:a.next=f.next)(r:a.az=f.az):uB p (d.iS p q) a:=by
 have g:=h.bf;have s:=hs.aQ;have t:=hs.az;have u:=h.next;have v:=h.az;refine⟨e1,i,?_,by rw[b,h.key];exact hs.key,by rw[e];exact g.2.2,O,⟨O,O,λ_=>O⟩,by rw[e2];exact j⟩
 rw[k];unfold Sd.iS;by_cases c:p=10;simp_all;rw[aE c,bT c,b,e,l,e2,h.key,h.next,g.1];rfl
def GJ(s:Sd)(f:Fr):(s.take f).2.af=s.af/\(s.take f).2.floor=s.floor/\(s.take f).2.eY=s.eY/\((s.take f).1=0\/(s.take f).1=7\/(s.take f).1=8\/(s.take f).1=10):=by
 unfold Sd.take;split;split;simp_all;exact⟨Q,Q,Q,φ Q⟩
 grind
def Sj(fs:List Fr):∀s:Sd,(dP s fs).2.af=s.af/\(dP s fs).2.floor=s.floor/\(dP s fs).2.eY=s.eY:=by
 induction fs with
 |nil=>intro s;exact⟨Q,Q,Q⟩
 |cons f fs a=>
  intro s;obtain⟨b,c,d,-⟩:=GJ s f;have e1:dP s (f::fs)=if(s.take f).1=0 then dP (s.take f).2 fs else s.take f:=rfl
  grind
def Sk(fs:List Fr):∀s:Sd,(dP s fs).1=0\/(dP s fs).1=7\/(dP s fs).1=8\/(dP s fs).1=10:=by
 induction fs with
 |nil=>intro s;exact φ Q
 |cons f fs a=>
  intro s;have e1:dP s (f::fs)=if(s.take f).1=0 then dP (s.take f).2 fs else s.take f:=rfl
  rw[e1];split;exact a _;exact(GJ s f).2.2.2
def Sl(hs:bk s)(h:Sm (gH s p t).1 r):Sm s r\/r=t:=by
 have a:Sm (eu s ⟨t,t+1⟩) r:=by
  unfold gH at h;split at h;let⟨b,c,d⟩:=h
  exact⟨b,iC c,d⟩
  exact h
 obtain q|q:=(kJ _ hs r).1 a
 simp_all;grind
def Sn(h:dU d f n)(hs:cJ d n)(hn:n<=90000)(hp:∀x∈L,W8 x):
 (f.jI L).1=(d.recv L).1/\(f.jI L).2.1=(d.recv L).2.1/\Rel (d.recv L).2.2 (f.jI L).2.2 (n+1):=by
 have C:=h.c;let⟨d1,d2,d3⟩:=C.bf
 have v:=FR hp;have em:f.jI L=if¬dZ d.key (bf (!d.first)) L then(4,-1,f)else if kh d.af d.floor (bu L)then(0,-1,f)else f.pO (bu L) (cV d.key (bf (!d.first)) (bu L) (bO L)):=by
  unfold ah.jI;rw[aE (by simpa using C.cl),d2,C.key,h.aX.has]
 rw[em];by_cases s:dZ d.key (bf (!d.first)) L;have t:¬¬dZ d.key (bf (!d.first)) L:=λe=>e s
 have w:=s.2.2.2;cases y:kh d.af d.floor (bu L);have z:(if¬dZ d.key (bf (!d.first)) L then((4:Int),(-1:Int),f)else if θ=ρ then(0,-1,f)else f.pO (bu L) (cV d.key (bf (!d.first)) (bu L) (bO L)))=f.pO (bu L) (cV d.key (bf (!d.first)) (bu L) (bO L)):=by rw[aE t,aE Γ]
 rw[z];unfold Sd.recv;rw[aE t,aE (by rw[y];simp)];unfold ah.pO;obtain⟨b,R⟩:=í (cV d.key (bf (!d.first)) (bu L) (bO L));have ax:∀x∈b,W8 x:=by rw[R];exact vO (FQ hp)
 rw[<-R];cases hd:eX b with
 |mk o q=>
  cases o with
  |none=>
   refine⟨Q,Q,?_⟩
   exact Bt C hs O O O Q Q (by simpa using C.said) Q Q Q Q
  |some fs=>
   have u:=FP hd;subst u;simp only
   have A:=yz hd;have S:=FO ax hd;have a0:fs.any f.fk=fs.any d.fk:=by
    have bt:∀q:List Fr,(∀a∈q,cT a)->q.any f.fk=q.any d.fk:=λq=>by
     induction q with
     |nil=>intro _;rfl
     |cons g q ih=>
      intro u;rw[List.any_cons,List.any_cons,ih (λa i=>u a (by simp[i])),C.busy g (λ_=>(u g Γ).st)]
    grind
   rw[a0];cases a2:fs.any d.fk;simp only[iV,iJ]
   have B:∀a∈fs,d.fk a=θ:=λa i=>by
    have:=List.any_eq_false.1 a2 a i;simpa using this
   have T:=FU hs ⟨v,w⟩ fs;let⟨g1,g2,V⟩:=h.aX.add hs.np hs.cr ⟨v,w⟩ y
   have C1:jq (d.gI (bu L) fs) (f.mark (bu L)):=C.nums _ _ _ _ _;have W:∀a∈fs,a.kind=5->a.stream.toNat<4->(f.ins a.stream.toNat).given=θ->bm a<=(f.ins a.stream.toNat).read+f.av:=λa i F l H=>by
    have hI:=C.aF _ l;have h1:=yA (B a i) F (by rw[hI.given];exact H);rw[<-hI.fr,C.av];exact h1
   let⟨t1,t2,t3⟩:=Sb (n:=n) O (bu L) fs _ _ C1 T (λa i=>⟨A a i,(S a i).1,yA (B a i),λF H=>by
    have bx:=(A a i).st;have l:a.stream.toNat<4:=O;have h1:=W a i F l H;have h2:=(h.rd _ l).1;have h3:=hs.av;have h4:=C.av;omega⟩)
   have K:=Sf (bu L) f.due fs (f.mark (bu L)) (φ Q);rw[t1];by_cases c0:(dP (d.gI (bu L) fs) fs).1=0;rw[aH c0];refine⟨c0,Q,?_⟩
   have M:=t2 c0;have hsame:=(Se _ fs _).resolve_right (by rw[t1];simpa using c0);have m:(dP (d.gI (bu L) fs) fs).2.af=(gH d.af d.floor (bu L)).1/\(dP (d.gI (bu L) fs) fs).2.floor=(gH d.af d.floor (bu L)).2/\(dP (d.gI (bu L) fs) fs).2.eY=(d.eY||fs.any kP):=Sj fs (d.gI (bu L) fs);refine⟨M,?_,?_,λp r=>?_,?_,?_,?_⟩
   rw[m.1,m.2.1,hsame.aX];exact g1;rw[m.1,hsame.aU];refine h.aU.add O ⟨v,w⟩ (λp a8=>?_);exact Sl hs.np a8;rw[m.1,m.2.1,m.2.2];have a9:p∈f.due\/(p=bu L/\fs.any kP=ρ):=by
    cases P:fs.any kP;left;rw[K.2 P]at r;exact r;obtain e|e:=K.1
    rw[e]at r;exact φ r;rw[e]at r;obtain q|q:=b9.1 r
    exact φ q;exact ψ ⟨eE.1 q,Q⟩
   obtain q|⟨q,P⟩:=a9
   obtain q1|⟨q1,q2⟩:=h.due p q
   exact φ O;obtain j|j:=V p (φ q1)
   exact φ j;exact ψ ⟨j,by rw[q2];rfl⟩;obtain j|j:=V p (ψ q)
   exact φ j;exact ψ ⟨j,by rw[P];simp⟩;have:=h.dl;obtain e|e:=K.1<;>rw[e]
   omega;simp;omega;have:=Si (n:=n) (bu L) fs (f.mark (bu L)) h.rd W (by rw[t1];exact c0);exact λk l=>by have:=this k l;omega
   rw[hsame.ay,hsame.next];exact h.sl;rw[aE c0];let⟨m',M,e⟩:=t3 c0
   refine⟨Q,Q,?_⟩
   have b4:=Sk fs (d.gI (bu L) fs);have bj:=AX (n:=n) O fs _ T (λa i=>⟨A a i,(S a i).1,yA (B a i)⟩);rw[e];exact Bt M bj O c0 O Q Q Q Q Q Q Q;exact⟨Q,Q,h.mono O⟩
 have z:(if¬dZ d.key (bf (!d.first)) L then((4:Int),(-1:Int),f)else if ρ=ρ then(0,-1,f)else f.pO (bu L) (cV d.key (bf (!d.first)) (bu L) (bO L)))=(0,-1,f):=by rw[aE t,aH rfl]
 rw[z];unfold Sd.recv;rw[aE t,aH y];exact⟨Q,Q,h.mono O⟩
 rw[aH s];unfold Sd.recv;rw[aH s];exact⟨Q,Q,h.mono O⟩
def qQ.nY(h:qQ d f)(k:Nat)(o:Ot)(r:dH)(e1:o.h.af=(d.out k).h.af)(e2:(f.outs k).data.size<=r.data.size):qQ {d with out:=aB d.out k o} {f with outs:=aB f.outs k r}:=by
 refine⟨λx c a g j i b l=>?_,h.back,λx c a g m h0=>?_,h.ma,h.eg⟩
 obtain q|q:=h.told x c a g j i b l
 left;show Sm (aB d.out k o j).h.af b;by_cases e:j=k;subst e;rw[bN,e1];exact q;rw[bI _ _ e];exact q;grind;have:=h.fz x c a g m h0;show bm a<=((aB f.outs k r a.stream.toNat).data.size:Int);by_cases e:a.stream.toNat=k;rw[e]at this;rw[e,bN];omega;rw[bI _ _ e];exact this
def dU.nY(h:dU d f n)(k:Nat)(o:Ot)(r:dH)(e1:o.h.af=(d.out k).h.af)(e2:(f.outs k).data.size<=r.data.size)(b:k<4->ia o r):dU {d with out:=aB d.out k o} {f with outs:=aB f.outs k r} n:=by
 have C:=h.c;refine⟨⟨C.az,C.av,C.key,C.me,C.cl,C.said,C.next,λj a=>?_,C.aF,C.mK,C.fl.nY k o r e1 e2⟩,h.aX,h.aU,h.due,h.dl,h.rd,h.sl⟩
 by_cases e:j=k;subst e;simp only[bN];exact b a;simp only[bI _ _ e];exact C.out j a
def wi(h:f.closed=0)(k:Int):f.of k=if k<0\/4<=k then 2 else 0:=by
 unfold ah.of;rw[ê]
def ia.shut{r:dH}(h:ia H r):(r.finished||r.given)=(H.sE||H.sG):=by
 rw[h.sg];cases a:r.given;rw[h.se a];simp
def So(h:dU d f n)(hs:cJ d n)(k:Int)(a:ByteArray):
 (f.write k a).1=(bg.write (.bh d) k (bl a)).1/\(f.write k a).2.1=(bg.write (.bh d) k (bl a)).2.1/\Rel (bg.write (.bh d) k (bl a)).2.2 (f.write k a).2.2 n:=by
 have b:=wi h.c.cl k;unfold ah.write bg.write;by_cases e:k<0\/4<=k;rw[aH e]at b;rw[b];simp only[aH e]
 exact⟨by first|rfl|trivial,by first|rfl|trivial,h⟩
 rw[aE e]at b;rw[b];simp only[aE e]
 have g:k.toNat<4:=O;have R:=h.c.out _ g;have i:=hs.out _ g;have m:=R.shut;rw[aE Γ,m];unfold Sd.write;cases q:((d.out k.toNat).sE||(d.out k.toNat).sG);simp only[iV,iJ]
 have j:(f.outs k.toNat).given=θ:=by
  grind
 have l:=hs.qg _ g;have p:=R.gC j i.fr l (bl a).length;have e1:f.gC k.toNat a.size=((d.out k.toNat).gC (bl a).length d.av:Nat):=by
  rw[p];unfold ah.gC;rw[h.c.av,iE]
 rw[e1];refine⟨by first|rfl|trivial,by first|rfl|trivial,?_⟩
 rw[mf];refine h.nY _ _ _ Q ?_ (λ_=>R.write j i.fr l a);grind;simp only[fw]
 exact⟨by first|rfl|trivial,by first|rfl|trivial,h⟩
def Sp(h:dU d f n)(k:Int):(f.finish k).1=(bg.finish (.bh d) k).1/\Rel (bg.finish (.bh d) k).2 (f.finish k).2 n:=by
 have a:=wi h.c.cl k;unfold ah.finish bg.finish;by_cases b:k<0\/4<=k;rw[aH b]at a;rw[a];simp only[aH b]
 exact⟨by first|rfl|trivial,h⟩
 rw[aE b]at a;rw[a];simp only[aE b]
 have e:k.toNat<4:=O;have R:=h.c.out _ e;have g:=R.shut;rw[aE Γ,g];unfold Sd.finish;cases j:((d.out k.toNat).sE||(d.out k.toNat).sG);simp only[iV,iJ]
 have i:(f.outs k.toNat).given=θ:=by
  grind
 exact⟨by first|rfl|trivial,h.nY _ _ _ rfl (aP _) (λ_=>R.finish i)⟩
 simp only[fw]
 exact⟨by first|rfl|trivial,h⟩
def Sq(h:dU d f n)(k code:Int):(f.giveUp k code).1=(bg.giveUp (.bh d) k code).1/\Rel (bg.giveUp (.bh d) k code).2 (f.giveUp k code).2 n:=by
 have a:=wi h.c.cl k;unfold ah.giveUp bg.giveUp;by_cases b:k<0\/4<=k;rw[aH b]at a;rw[a];simp only[aH b]
 exact⟨by first|rfl|trivial,h⟩
 rw[aE b]at a;rw[a];simp only[aE b]
 have g:k.toNat<4:=O;have R:=h.c.out _ g;rw[aE Γ,<-R.sg];unfold Sd.giveUp;by_cases e:(d.out k.toNat).sG=ρ\/4611686018427387903<code;rw[aH e,aH e];exact⟨by first|rfl|trivial,h⟩
 rw[aE e,aE e];exact⟨by first|rfl|trivial,h.nY _ _ _ rfl (aP _) (λ_=>R.giveUp code)⟩
def Sr(h:dU d f n)(k:Int):f.af k=bg.af (.bh d) k:=by
 have a:=wi h.c.cl k;unfold ah.af bg.af;by_cases b:k<0\/4<=k;simp_all;rw[aE b]at a;rw[a];simp only[aE b]
 rw[aE Γ,(h.c.out k.toNat O).fr]
def Ss(h:dU d f n)(hs:cJ d n)(k aJ:Int):
 (f.read k aJ).1=(bg.read (.bh d) k aJ).1/\(f.read k aJ).2.1=(bg.read (.bh d) k aJ).2.1/\(f.read k aJ).2.2.1=(bg.read (.bh d) k aJ).2.2.1/\(f.read k aJ).2.2.2.1=(bg.read (.bh d) k aJ).2.2.2.1/\Rel (bg.read (.bh d) k aJ).2.2.2.2 (f.read k aJ).2.2.2.2 (n+1):=by
 have a:=wi h.c.cl k;unfold ah.read bg.read;by_cases b:k<0\/4<=k;rw[aH b]at a;rw[a];simp only[aH b]
 exact⟨Q,Q,Q,Q,h.mono O⟩
 rw[aE b]at a;rw[a];simp only[aE b]
 have g:k.toNat<4:=O;have R:=h.c.aF _ g;have l:=hs.aF _ g;have i:=h.c.mK _ g;let⟨m,p,q,r⟩:=R.read l i aJ
 rw[aE Γ];refine⟨m,p,q,Q,?_⟩
 have s:=h.c.sC k.toNat _ _ (λ_=>r) (λ_=>i.fY _);refine⟨s,h.aX,⟨h.aU.ok,h.aU.bd,h.aU.fl,h.aU.mo,bG h.aU.len O,h.aU.all⟩,h.due,bG h.dl O,λj t=>?_,h.sl⟩
 have v:=h.rd j t;by_cases e:j=k.toNat;subst e;have w:=hs.av;have x:=h.c.av;have y:=(i.fY aJ).rd;have u:((f.ins k.toNat).fY aJ).high=(f.ins k.toNat).high:=by
  unfold aL.fY aL.stop aL.eT aL.start;grind
 have z:(f.ins k.toNat).read<=((f.ins k.toNat).fY aJ).read:=by
  unfold aL.fY aL.stop aL.eT aL.start;grind
 show(aB f.ins k.toNat _ k.toNat).read<=_/\(aB f.ins k.toNat _ k.toNat).high<=(aB f.ins k.toNat _ k.toNat).read+f.av;rw[bN,u];grind;show(aB f.ins k.toNat _ j).read<=_/\(aB f.ins k.toNat _ j).high<=(aB f.ins k.toNat _ j).read+f.av;rw[bI _ _ e];omega
def Su(h:dU d f n):dU d.jb f n:=by
 have C:=h.c;have a:∀p,p∈d.jb.aO++d.jb.lost↔p∈d.aO++d.lost:=λp=>by
  unfold Sd.jb;grind
 have e:d.jb.out=d.out:=by unfold Sd.jb;split<;>rfl
 have g:d.jb.aF=d.aF:=by unfold Sd.jb;split<;>rfl
 have i:d.jb.az=d.az/\d.jb.av=d.av/\d.jb.key=d.key/\d.jb.first=d.first/\d.jb.count=d.count/\d.jb.af=d.af/\d.jb.floor=d.floor/\d.jb.eY=d.eY:=by
  unfold Sd.jb;grind
 let⟨j,l,m,r,a5,a6,a7,s⟩:=i
 refine⟨⟨by rw[j];exact C.az,by rw[l];exact C.av,by rw[m];exact C.key,by rw[r];exact C.me,C.cl,C.said,by rw[a5];exact C.next,by rw[e];exact C.out,by rw[g];exact C.aF,C.mK,⟨λx t u v k w b y=>?_,λp hp=>C.fl.back p ((a p).1 hp),C.fl.fz,C.fl.ma,λp hp=>C.fl.eg p ((a p).1 hp)⟩⟩,by rw[a6,a7];exact h.aX,by rw[a6];exact h.aU,by rw[a6,a7,s];exact h.due,h.dl,h.rd,h.sl⟩
 rw[e];obtain q|⟨p,hp,q⟩:=C.fl.told x t u v k w b y
 simp_all;grind
def Sw(h:dU d f n)(hs:cJ d n)(a:n<=100000)(code:Int)(g:0<=code):(f.close code).1=(bg.close (.bh d) code).1/\Rel (bg.close (.bh d) code).2 (f.close code).2 n:=by
 have b:¬f.closed≠0:=λe=>e h.c.cl
 unfold ah.close bg.close;rw[aE b];by_cases c:4611686018427387903<code;simp only[aH c]
 exact⟨by first|rfl|trivial,h⟩
 simp only[aE c]
 exact⟨by first|rfl|trivial,Bt h.c hs a O O Q Q (by show f.said=_;rw[h.c.said];rfl) Q Q Q Q⟩
def Sx(h:iI q t):dU (Sd.new q t L B) (ah.new q t L B) 0:=by
 have b:0<=t:=by unfold iI at h;omega
 refine⟨⟨Q,Q,Q,Q,Q,Q,Q,λk _=>ia.new,λk _=>jS.new,λk _=>⟨Q,Q,by simp[ah.new,aL.new],by simp[ah.new,aL.new],by simp[ah.new,aL.new]⟩,⟨λx a=>(by cases a),λp hp=>(by cases hp),λx a=>(by cases a),λx a=>(by cases a),λp hp=>(by cases hp)⟩⟩,⟨Q,Q,Q,by simp[Sd.new],λn c=>absurd c (ij n),φ Q⟩,⟨bk.nil,λr e=>(by cases e),Q,Q,aP _,λd hd=>absurd hd (ij d)⟩,λd hd=>(by cases hd),aP _,λk _=>by simp[ah.new,aL.new];exact b,by simp[ah.new]⟩
def GP(h:∀x∈L,W8 x):bl (strOfNums L)=L:=by
 unfold bl;rw[rX,rZ];conv=>rhs;rw[<-List.map_id L]
 apply wN;intro x a;have:=h x a;unfold W8 at this;simp only[Function.comp,id,UInt8.toNat_ofNat']
 omega
def SN{a b:ByteArray}(h:bl a=bl b):a=b:=by rw[<-Bu a,<-Bu b,h]
def Bv{fs:List Fr}(b:∀a∈fs,a.ok/\cT a/\(a.ranges.length:Int)<=4611686018427387903)(h0:fs≠[])(g:fs.map iU=fs)(c:∀x∈bE fs,W8 x)(hl:((bE fs).length:Int)<=f.az-16)(m:f.az<=300)(h:0<=f.next/\f.next<=4611686018427387903)(j:f.me=0\/f.me=1)(k:fh fs<=30000000):
 uw f (strOfNums (dC f.key f.me f.next (bE fs))) fs:=by
 have l:∀x∈dC f.key f.me f.next (bE fs),W8 x:=Aw c;have e1:=GP l;have d:aZ f.next:=by unfold aZ;omega
 have e2:bu (dC f.key f.me f.next (bE fs))=f.next:=GN d;have e:cV f.key f.me (bu (dC f.key f.me f.next (bE fs))) (bO (dC f.key f.me f.next (bE fs)))=bE fs:=by
  rw[e2,GO];exact SJ _ _ _ _ c
 refine⟨?_,?_,?_,?_,?_,⟨qt.2 h0,λi hi=>?_⟩,k,j,h⟩
 rw[e1,SM d];omega;rw[strOfNums_size,mu];push_cast;omega;rw[e1];exact e2;rw[e1,e,SG b h0,g];rw[e1,e];have:eR fs i∈fs:=by unfold eR;simp[List.getD,dB hi]
 exact(b _ this).2.1
def nO.with{p:Pc}(h:nO H k p u)(x:Int)(b:H.sG=ρ->x=H.ay):nO {H with ay:=x} k p u:=by
 obtain⟨a,c,d,e⟩|h:=h
 exact φ ⟨a,c,d,by rw[e,b a]⟩;exact ψ h
structure Bw(o:Ot)(r:dH)(k:Nat)(p:Pc)(f:Fr):Prop where
 st:f.stream=(k:Int)
 kind:f.kind=4\/f.kind=5
 k4:f.kind=4->o.sG=ρ/\r.given=ρ/\f.offset=r.high/\f.code=r.code/\p.x=⟨0,0⟩
 k5:f.kind=5->o.sG=θ/\f.offset=p.x.lo/\bm f=p.x.hi/\Be r f/\0<=p.x.lo/\p.x.hi<=4096
 ok:f.ok/\cT f/\(f.ranges.length:Int)<=4611686018427387903
 nf:iU f=f
 rg:f.ranges=[]
def nO.GQ{r:dH}{p:Pc}(h:nO H k p u)(R:ia H r)(j:im H)(C:k<4)(l:0<=H.code/\H.code<=4611686018427387903):Bw H r k p u:=by
 have m:=R.sz;have F:=R.hs;obtain⟨b,n,i,rfl⟩|⟨b,n,i,K,L,s,t,rfl⟩:=h
 have a:r.given=ρ:=by rw[<-R.sg];exact b
 let⟨v,M,P⟩:=R.gv a
 have w:=R.ay;refine⟨Q,φ Q,λ_=>⟨b,a,w,v,i⟩,λe=>(by simp at e),⟨⟨?_,?_,?_,?_,λq f=>(by cases f)⟩,⟨⟨by simp only;omega,l.2,by simp only;omega,by simp only;omega⟩,⟨λe=>(by simp at e),λe=>(by simp at e)⟩,Γ,Γ⟩,Γ⟩,?_,Q⟩
 unfold ie;simp only;omega;unfold ie;simp only;omega;unfold aZ;simp only;omega;unfold aZ;simp only;omega;unfold iU;rfl;have a:r.given=θ:=by rw[<-R.sg];exact b
 have y:=j.fr;have S:=R.Br a y;have z:H.en=r.data.size:=by unfold Ot.en;omega
 have hd:strOfNums ((H.h.bytes.drop (p.x.lo-H.h.fr).toNat).take (p.x.hi-p.x.lo).toNat)=r.data.extract p.x.lo.toNat p.x.hi.toNat:=by
  apply SN;have A:∀x∈(H.h.bytes.drop (p.x.lo-H.h.fr).toNat).take (p.x.hi-p.x.lo).toNat,W8 x:=λx B=>by
   have:=iC (jr B);rw[R.mD a]at this;exact qw _ x (iC this)
  rw[GP A,R.mD a,uR];unfold bl;rw[ByteArray.data_extract,Array.toList_extract,List.extract_eq_take_drop,List.map_take,List.map_drop];congr 1;omega;congr 1;omega
 have g:(strOfNums ((H.h.bytes.drop (p.x.lo-H.h.fr).toNat).take (p.x.hi-p.x.lo).toNat)).size=(p.x.hi-p.x.lo).toNat:=by
  rw[strOfNums_size,dK,fD];omega
 have d:bm (⟨5,k,p.x.lo,0,p.e,strOfNums ((H.h.bytes.drop (p.x.lo-H.h.fr).toNat).take (p.x.hi-p.x.lo).toNat),[]⟩:Fr)=p.x.hi:=by
  unfold bm;simp only;rw[g];omega
 refine⟨Q,ψ Q,λe=>(by simp at e),λ_=>⟨b,Q,d,⟨a,by simp only;omega,by rw[d];omega,?_,?_,λe=>?_,m⟩,O,O⟩,⟨⟨?_,?_,?_,?_,λq f=>(by cases f)⟩,⟨⟨by simp only;omega,Γ,by simp only;omega,by simp only;omega⟩,⟨λe=>(by simp at e),λ_=>by simp only;rw[g];omega⟩,Γ,Γ⟩,Γ⟩,?_,Q⟩
 rw[d,hd];rw[d];simp only
 rw[s,z,R.se a];by_cases c:p.x.hi=(r.data.size:Int)
 rw[bU c];simp[c];rw[bT c];have:(p.x.hi==(r.data.size:Int))=θ:=by simpa using c
 rw[this];simp only at e⊢;rw[g]at e;obtain q|q:=t
 omega;exact q;unfold ie;simp only;omega;unfold ie;simp only;omega;unfold aZ;simp only;omega;unfold aZ;simp only;omega;unfold iU;rfl
