import Derived.Test.YtjnmokmchdfchaaGreatDoorZWy
import Derived.Test.YtjnmokmchdfchaaGreatDoorZWz
set_option maxRecDepth 1000000
set_option maxHeartbeats 0
set_option linter.all false
namespace Go.Proofs.YtjnmokmchdfchaaGreatDoor
open Go.RowKit Tryz
attribute[local go_sem↓]Go.wp_at_zero Go.wp_at_succ
variable{p q r:Int}{i j k l m n o:Nat}{S:Nat->Prop}{a:Option Addr}{X:Sd}{x:Value}{W v w:World}{s:aB}
def nj(a b:Value)(ao ai:Int):Array Value:=(([a,.int .i64 ao,.int .i64 ai]:List Value)++bv gm++[b,.slice none 0 0,.int .i64 0,.int .i64 4,.int .u64 0]).toArray
def qI:Array Value:= #[.string ⟨#[]⟩,.slice none 0 0,.slice none 0 0,.bool false,.bool false,.int .i64 0]
def DK:Src:=⟨⟨#[]⟩,0,λ_=>false,λ_=>0,false,false,0⟩
theorem vM:di gm:=⟨rfl,λx a=>by
 have:gm.all (λx=>decide (0<=x)&&decide (x<256))=true:=by rfl
 have:=List.all_eq_true.1 this x a;simp only[ja,kh]at this;exact this⟩
def qa(j:Nat)(lb:Nat->Nat):List Value:=(List.range j).map λi=>.pointer (some ⟨lb i,0,none⟩)
theorem PJ(j:Nat)(lb:Nat->Nat)(P:Nat):qa (j+1) (aw lb j P)=qa j lb++[.pointer (some ⟨P,0,none⟩)]:=by
 unfold qa;rw[pD,mf];simp only[ki,kO,bm]
 congr 1;apply r9;intro i hi;have:=mJ.1 hi;rw[bq _ _ (by omega)]
theorem PK{lb:Nat->Nat}(h:i<j):(qa j lb)[i]?=some (.pointer (some ⟨lb i,0,none⟩)):=by simp[qa,h]
theorem PL:(prog.info? 64).map (λi=>(i.zero,i.size,i.bytes))=some (some (.pointer none),1,8):=by kernel_rfl
structure ph(w0 wr:World)(sb xb xs:Nat)(A:Nat->Prop)(a:Nat)(ao ai:Int)(j:Nat)(b:Value)(lb:Nat->Nat):Prop where
 aG:wr.heap[sb]?=some (.cells (nj (.pointer (some ⟨xb,0,none⟩)) b ao ai) 63 (0,0))
 own:wr.ownsRow 0 64 1 b j (qa j lb)
 tz:∀k,b.ownBlock=some k->a<=k
 src:∀i,i<j->wr.heap[lb i]?=some (.cells qI 68 (0,0))
 lo:∀i,i<j->a<=lb i/\lb i<wr.heap.size
 inj:∀i k,i<k->k<j->lb i≠lb k
 cn:cE wr xb xs (.aL (Sd.new ao ai gm true)) A
 aA:∀k,A k->w0.heap.size<=k/\k<a/\k≠sb
 fu:w0.heap.size<=sb/\sb<a
 laid:Laid wr
 g:w0.grownBy wr none
 n0:a<=wr.heap.size
 z0:0<w0.heap.size
theorem PM(a b x:Value)(ao ai:Int):(nj a b ao ai).setIfInBounds 19 x=nj a x ao ai:=rfl
theorem ph.gl{wr:World}{lb:Nat->Nat}(h:ph w wr n k i S l p q j x lb):wr.cell? ⟨n,19,none⟩=some x:=(aU h.aG 19).trans rfl
theorem ph.app{wr:World}{lb:Nat->Nat}(h:ph W wr n l m S o p r j x lb)(T:j<=4)(f:v=(wr.alloc (.cells qI 68)).alloc (.cells #[.pointer (some ⟨wr.heap.size,0,none⟩)] 64)):
 ∃a7 c c7 a,(Builtin.append_ #[60,60] 60 #[x,.slice (some ⟨wr.heap.size+1,0,none⟩) 1 1]).run prog v=.ok (.slice a7 c c7) a/\a.cell? ⟨n,19,none⟩=some x/\a.frozen? ⟨n,19,none⟩=false/\ph W (a.setCell ⟨n,19,none⟩ (.slice a7 c c7)) n l m S o p r (j+1) (.slice a7 c c7) (aw lb j wr.heap.size):=by
 have s:wr.grownBy v none:=by rw[f];exact aj (aC _ _ _) (aC _ _ _)
 have U:v.heap.size=wr.heap.size+2:=by rw[f,dC,dC]
 have I:v.heap[wr.heap.size]?=some (.cells qI 68 (0,0)):=by rw[f];exact(heap_alloc_old _ _ (by rw[dC];omega)).trans (aH _ _)
 have K:v.heap[wr.heap.size+1]?=some (.cells #[.pointer (some ⟨wr.heap.size,0,none⟩)] 64 (0,0)):=by
  rw[f];have:=aH (wr.alloc (.cells qI 68)) (.cells #[.pointer (some ⟨wr.heap.size,0,none⟩)] 64);rw[dC]at this;exact this
 have u:=fY h.own (ak.of s) (λk _ e=>by cases e);have B:v.heap[n]?=some (.cells (nj (.pointer (some ⟨l,0,none⟩)) x p r) 63 (0,0)):=bf h.aG s;obtain⟨a7,c,c7,a,L,D,E,M⟩:=vD (w:=v) 60 64 (.pointer none) 8 PL underlying60 rfl (by decide) x j (qa j lb) u (wr.heap.size+1) (.pointer (some ⟨wr.heap.size,0,none⟩)) rfl (by simp[World.cell?,K]) (by omega) 1;have tS:Ty v n 63:=⟨_,_,B⟩
 have t:a.heap[n]?=some (.cells (nj (.pointer (some ⟨l,0,none⟩)) x p r) 63 (0,0)):=(E.block n tS.lt (λe=>tS.ne (dM u n e.symm) (by decide) rfl)).trans B;have t7:Ty a n 63:=⟨_,_,t⟩
 have y:=jl a n 19 (.slice a7 c c7);refine⟨a7,c,c7,a,L,(aU t 19).trans rfl,by simp[World.frozen?,t],?_⟩
 obtain⟨d,F⟩:=exq (a.setCell ⟨n,19,none⟩ (.slice a7 c c7));have N:d.heap[n]?=some (.cells (nj (.pointer (some ⟨l,0,none⟩)) (.slice a7 c c7) p r) 63 (0,0)):=by
  rw[F,<-PM (.pointer (some ⟨l,0,none⟩)) x];exact heap_set t _
 rw[<-F]at y⊢;have z:ak v d (λk=>x.ownBlock=some k\/k=n):=(ak.of E).trans y;have C:ak wr d (λk=>x.ownBlock=some k\/k=n):=((ak.of s).trans z).mono (λk _ e=>e.elim (λe=>by cases e) id);have h0:=h.laid.lt;have hs:=h.fu;have O:=h.g.size;have G:∀b:Nat,v.heap[b]?=some (Obj.cells qI 68 (0,0))->d.heap[b]?=some (Obj.cells qI 68 (0,0)):=λb e=>by
  have A:Ty v b 68:=⟨_,_,e⟩
  exact(z.block b A.lt (λq=>by
   obtain q|q:=q
   exact(dM u b q).ne A (by decide) rfl
   ·subst q;exact tS.ne A (by decide) rfl)).trans e
 have P:d.ownsRow 0 64 1 (.slice a7 c c7) (j+1) (qa (j+1) (aw lb j wr.heap.size)):=by
  rw[PJ];exact fY D y (λk e e2=>by subst e2;exact(dM D _ e).ne t7 (by decide) rfl)
 have V:=h.n0;refine⟨N,P,λk e=>?_,λi hi=>?_,λi hi=>?_,λi k Q H=>?_,h.cn.other C (λk _ e R=>?_),h.aA,h.fu,h.laid.aq C (λe=>?_),?_,by have:=C.size;omega,h.z0⟩
 obtain q|q:=M
 exact h.tz k (q▸e);rw[e]at q;have:=aJ q;omega;by_cases e:i=j;rw[e,bm];exact G _ I;rw[bq _ _ e];exact G _ (bf (h.src i (by omega)) s);have X:=z.size;by_cases e:i=j;rw[e,bm];omega;rw[bq _ _ e];have:=h.lo i (by omega);omega;by_cases e:k=j;rw[e,bm,bq _ _ (by omega)];have:=h.lo i (by omega);omega;rw[bq _ _ e,bq _ _ (by omega)];exact h.inj i k Q (by omega);have:=h.aA k R;obtain e|e:=e
 have:=h.tz k e;omega;omega;obtain e|e:=e
 have:=h.tz 0 e;omega;have:=h.fu;have:=h.z0;omega;refine⟨C.os.trans h.g.os,C.tape.trans h.g.tape,C.output.trans h.g.output,bC O C.size,λk H _=>?_⟩
 rw[C.block k (by omega) (λe=>by
  obtain e|e:=e
  have:=h.tz k e;omega
  ·omega)]
 exact h.g.block k H (by simp)
theorem PO(ao ai:Int)(Q:Nat->Pk)(V:aB)(h:V.ao=ao/\V.ai=ai/\V.key=gm/\V.o=(λ_=>DK)/\V.n=0/\V.now=0/\V.wait=4/\V.aV=0):cM V (Sd.new ao ai gm true) Q:=by
 obtain⟨c,d,f,b,a,g,l,p⟩:=h;refine⟨f.symm,rfl,c.symm,d.symm,rfl,by rw[a];rfl,by rw[g];rfl,by rw[l];rfl,by omega,by omega,λm q=>?_,λk s=>?_,λi hi=>by omega,?_,λx r=>(by cases r),λi hi=>by omega,λi hi=>by omega,λk=>?_⟩
 rw[p]at q;show iC [] 0 m=false;unfold iC;simp;omega;rw[b];exact⟨rfl,rfl,rfl,rfl,rfl,λj=>⟨λe=>(by cases e),λe=>absurd e (ij _)⟩,λm e=>absurd e (ij _)⟩
 rw[a];rfl;rw[b,a];exact⟨λj=>rfl,rfl⟩
theorem ph.fin{wr:World}{lb:Nat->Nat}(h:ph w wr n l m S o p r 4 x lb)(B:kD p r):
 ∃V,bH wr n V/\cG V 0/\V.st=.aL (Sd.new p r gm true)/\(∀k,V.tag k≠none->w.heap.size<=k):=by
 classical
 obtain⟨a,oc,s,C,D,E,F⟩:=ix h.own;cases a with
 |none=>have:=(E rfl).1;omega
 |some y=>
  obtain⟨u,v⟩:=F y rfl;obtain⟨ob,G⟩:=exq y.block;rw[<-G]at u v;rw[u]at s;subst s;have z:(Value.slice (some ⟨ob,0,none⟩) 4 oc).ownBlock=some ob:=rfl;have d:=dM h.own ob z;have f:Ty wr n 63:=⟨_,_,h.aG⟩
  have tl:∀i,i<4->Ty wr (lb i) 68:=λi hi=>⟨_,_,h.src i hi⟩
  have H:n≠ob:=λe=>f.ne (e▸d) (by decide) rfl
  have n2:∀i,i<4->lb i≠n:=λi hi e=>(tl i hi).ne (e▸f) (by decide) rfl
  have I:∀i,i<4->lb i≠ob:=λi hi e=>(tl i hi).ne (e▸d) (by decide) rfl
  have X:=h.tz ob z;obtain⟨tag,c⟩:∃tag:Nat->Option Nat,tag=λk=>if k=n then some 1 else if k=ob then some 2 else if k=lb 0 then some 4 else if k=lb 1 then some 5 else if k=lb 2 then some 6 else if k=lb 3 then some 7 else if S k then some 0 else none:=⟨_,rfl⟩
  have K:=h.inj 0 1 (by omega) (by omega);have L:=h.inj 0 2 (by omega) (by omega);have M:=h.inj 0 3 (by omega) (by omega);have N:=h.inj 1 2 (by omega) (by omega);have O:=h.inj 1 3 (by omega) (by omega);have P:=h.inj 2 3 (by omega) (by omega);have t4:∀i,i<4->tag (lb i)=some (4+i):=λi hi=>by
   rw[c];simp only
   rw[ay (n2 i hi),ay (I i hi)];have Q:i=0\/i=1\/i=2\/i=3:=by omega
   obtain rfl|rfl|rfl|rfl:=Q
   rw[aM rfl];rw[ay (Ne.symm K),aM rfl];rw[ay (Ne.symm L),ay (Ne.symm N),aM rfl];rw[ay (Ne.symm M),ay (Ne.symm O),ay (Ne.symm P),aM rfl]
  have tA:∀k,S k->tag k=some 0:=λk b=>by
   have q:=h.aA k b;have Y:=h.lo 0 (by omega);have q1:=h.lo 1 (by omega);have q2:=h.lo 2 (by omega);have q3:=h.lo 3 (by omega);rw[c];simp only
   rw[ay q.2.2,ay (by omega),ay (by omega),ay (by omega),ay (by omega),ay (by omega),aM b]
  have A:∀k,tag k≠none->w.heap.size<=k/\k<wr.heap.size:=λk b=>by
   rw[c]at b;simp only at b;have q:=h.fu;by_cases e1:k=n;rw[e1];exact⟨q.1,f.lt⟩
   rw[ay e1]at b;by_cases e2:k=ob;rw[e2];exact⟨by omega,d.lt⟩
   rw[ay e2]at b;by_cases R:k=lb 0;have:=h.lo 0 (by omega);omega;rw[ay R]at b;by_cases T:k=lb 1;have:=h.lo 1 (by omega);omega;rw[ay T]at b;by_cases U:k=lb 2;have:=h.lo 2 (by omega);omega;rw[ay U]at b;by_cases W:k=lb 3;have:=h.lo 3 (by omega);omega;rw[ay W]at b;by_cases g:S k;exact⟨(h.aA k g).1,h.cn.lt k g⟩
   rw[ay g]at b;exact absurd rfl b
  refine⟨⟨p,r,gm,l,m,.aL (Sd.new p r gm true),S,ob,oc,λk=>(lb k,.slice none 0 0,.slice none 0 0),λ_=>DK,λ_=>(0,.slice none 0 0),λ_=>⟨0,[],false,false,false⟩,0,.slice none 0 0,0,4,0,tag⟩,⟨h.aG,vM,⟨C,D⟩,d,λk b=>?_,λk b=>⟨h.src k b,mI _ _ _ _,mI _ _ _ _⟩,λi hi=>(by cases hi),mI _ _ _ _,h.cn,λk t e=>?_,tA,?_,?_,λk e=>(by cases e),λk b j e=>?_,λi hi=>(by cases hi)⟩,⟨⟨_,λ_=>⟨0,0,0,[]⟩,rfl,PO p r _ _ ⟨rfl,rfl,rfl,rfl,rfl,rfl,rfl,rfl⟩,MC B vM 0⟩,⟨by show(0:Nat)<=_;omega,λi hi=>(by cases hi),λi hi=>(by cases hi),λk _=>by show(0:Nat)<=_;omega⟩,by show(0:Nat)<=_;omega,λi hi=>(by cases hi),by show(0:Int)<=_;omega⟩,rfl,λk b=>(A k b).1⟩
  have:=v k _ (PK b);rw[dv]at this;exact this;have e:tag k=some t:=e;have:=A k (by rw[e];simp);exact⟨this.2,by have:=h.z0;omega⟩
  show tag n=some 1;rw[c];exact aM rfl;show tag ob=some 2;rw[c];exact(ay (Ne.symm H)).trans (aM rfl);obtain rfl|e|e:=e
  exact t4 k b;cases e;cases e
def ka(l:List Bt)(i:Nat):Bt:=l.getD i ⟨0,0,0,⟨#[]⟩⟩
theorem DL{l:List Bt}(h:i<l.length):ka l i∈l:=by
 unfold ka;rw[tC,eF h];exact nt h
structure yD(s:Bt):Prop where
 kind:gC s.kind
 a:gC s.a
 b:gC s.b
 len:s.s.size<=140737488351232
def qJ(w:World)(a:Option Addr)(n cap:Nat)(c:List Bt):Prop:=
 n=c.length/\n<=cap/\cap<=maxLen/\(∀s∈c,yD s)/\(c=[]\/∃b o,a=some ⟨b,o,none⟩/\∀i,i<c.length->w.rangeAt b (o+i*4) (fQ (ka c i)).toList)
theorem qJ.ah{c:List Bt}(h:qJ w a n k c)(g:w.grownBy W none):qJ W a n k c:=by
 obtain⟨d,f,j,l,m⟩:=h;refine⟨d,f,j,l,m.imp id ?_⟩
 rintro⟨b,o,e,p⟩;exact⟨b,o,e,λi hi=>iK (p i hi) g (by simp)⟩
theorem qJ.at'{c:List Bt}(h:qJ w a n k c)(hi:i<c.length):∃b o,a=some ⟨b,o,none⟩/\w.rangeAt b (o+i*4) (fQ (ka c i)).toList/\(w.cell? ⟨b,o+i*4,none⟩=some (.int .i64 (ka c i).kind)/\w.cell? ⟨b,o+i*4+1,none⟩=some (.int .i64 (ka c i).a)/\w.cell? ⟨b,o+i*4+2,none⟩=some (.int .i64 (ka c i).b)/\w.cell? ⟨b,o+i*4+3,none⟩=some (.string (ka c i).s)):=by
 obtain⟨-,-,-,-,d⟩:=h;obtain rfl|⟨b,o,e,f⟩:=d
 simp at hi;have q:=f i hi;exact⟨b,o,e,q,q 0 _ rfl,q 1 _ rfl,q 2 _ rfl,q 3 _ rfl⟩
def jw(a:List Bt):Nat->Nat
 |0=>0
 |i+1=>jw a i+(ka a i).s.size+40
theorem PQ(a:List Bt):∀i,40*i<=jw a i/\∀j,j<i->(ka a j).s.size<=jw a i:=by
 intro i;induction i with
 |zero=>exact⟨by omega,λj h=>by omega⟩
 |succ i b=>
  unfold jw;refine⟨by omega,λj h=>?_⟩
  by_cases e:j=i;subst e;omega;have:=b.2 j (by omega);omega
structure qb(w0 wr:World)(sb:Nat)(V:aB)(n:Nat):Prop where
 at_:bH wr sb V
 ok:cG V n
 laid:Laid wr
 g:w0.grownBy wr none
 lo:∀k,V.tag k≠none->w0.heap.size<=k
theorem qb.go{wr:World}{b:aB}(h:qb w wr i s n)(T:aY wr i s b W)(K:cG b j):qb w W i b j:=by
 have z:=h.g.size;refine⟨T.at_,K,T.laid,⟨T.aq.os.trans h.g.os,T.aq.tape.trans h.g.tape,T.aq.output.trans h.g.output,bC z T.aq.size,λk a _=>?_⟩,λk a=>?_⟩
 rw[T.aq.block k (by omega) (λe=>by have:=h.lo k e;omega)];exact h.g.block k a (by simp);by_cases hl:k<wr.heap.size;rw[T.all k hl]at a;exact h.lo k a;omega
theorem qb.fP{wr:World}(h:qb w wr k s n)(e:s.n=m):∃a vc,wr.cell? ⟨k,20,none⟩=some (.slice a m vc):=by
 obtain⟨a,vc,b,-⟩:=ix h.at_.aE;have c:=h.at_.c.1.2.2.2.2.1;rw[b,e]at c;exact⟨a,vc,c⟩
theorem cG.cU{V:aB}(h:cG V n)(e:V.st=.aL X):(V.n:Int)=X.count:=by
 obtain⟨a,Q,b,W,S⟩:=h.ex;have:a=X:=by rw[b]at e;exact aK.aL.inj e
 rw[<-this];exact W.cU.symm
def mc:ByteArray:=⟨#[102,105,114,115,116]⟩
theorem PR(h:16<=q):((aK.aL (Sd.new p q gm true)).do ⟨1,((0:Nat):Int),0,0,mc⟩).2=.aL (nY p q):=by
 have e1:bl mc=[102,105,114,115,116]:=by rfl
 have e2:Ot.new.iP 5 q=5:=by unfold Ot.iP;simp[Ot.new];omega
 have a:Ot.new.wrote (bl mc) q={Ot.new with h:={Ot.new.h with bytes:=[102,105,114,115,116]}}:=by
  unfold Ot.wrote;rw[e1,show([102,105,114,115,116]:List Int).length=5 from rfl,e2];rfl
 have b:((Sd.new p q gm true).write 0 (bl mc)).2.2=nY p q:=by
  unfold Sd.write;rw[ay (by simp[Sd.new,Ot.new])];show({Sd.new p q gm true with out:=aw (λ_=>Ot.new) 0 (Ot.new.wrote (bl mc) q)}:Sd)=nY p q;rw[a];rfl
 have c:(aK.aL (Sd.new p q gm true)).do ⟨1,((0:Nat):Int),0,0,mc⟩=(⟨(aK.write (.aL (Sd.new p q gm true)) ((0:Nat):Int) (bl mc)).2.1,-1,(aK.write (.aL (Sd.new p q gm true)) ((0:Nat):Int) (bl mc)).1,0,[],[]⟩,(aK.write (.aL (Sd.new p q gm true)) ((0:Nat):Int) (bl mc)).2.2):=by
  unfold aK.do;exact aM rfl
 rw[c];show(aK.write (.aL (Sd.new p q gm true)) ((0:Nat):Int) (bl mc)).2.2=_;unfold aK.write;simp only
 rw[ay (by omega)];show aK.aL ((Sd.new p q gm true).write 0 (bl mc)).2.2=_;rw[b]
theorem DM(s:Sd):((aK.aL s).do ⟨5,0,0,0,⟨#[]⟩⟩).2=.aL (bJ s 4).1:=by unfold aK.do;simp[aK.eY,Sd.eY]
theorem PS(s:Sd):((aK.aL s).do ⟨4,0,0,0,⟨#[]⟩⟩).2=.aL s.jf:=by unfold aK.do;simp[aK.tick]
theorem PT(s:Sd):rY 4 (.aL s)=.aL (kG (kG (kG (kG s)))):=by
 simp only[rY,PS,DM];rfl
theorem DN(h:m<237)(ai:Int):(bJ (nY (64+m) ai) 4).1.count=1/\(kG (kG (kG (kG (bJ (nY (64+m) ai) 4).1)))).count=2:=by
 have:=List.all_eq_true.1 (PI ai) m (mJ.2 h);unfold DJ at this;simp only[ja,kh]at this;exact this
theorem PU(ao ai:Int):nj (.pointer none) (.slice none 0 0) ao ai= #[.pointer none,.int .i64 ao,.int .i64 ai,.int .u8 2,.int .u8 7,.int .u8 1,.int .u8 8,.int .u8 0,.int .u8 0,.int .u8 0,.int .u8 0,.int .u8 0,.int .u8 0,.int .u8 0,.int .u8 0,.int .u8 0,.int .u8 0,.int .u8 0,.int .u8 0,.slice none 0 0,.slice none 0 0,.int .i64 0,.int .i64 4,.int .u64 0]:=rfl
theorem PV(h:w.heap[n]?=some (.cells (nj (.pointer none) (.slice none 0 0) p q) 63 (0,0))):w.rangeAt n 3 (bv gm):=by
 intro j v a;rw[aU h];have b:j<16:=by have:=(iX.1 a).1;simpa [gm,bv]using this
 unfold nj;rw[od,eA,kZ (by simp),nk (by simp[gm,bv];omega)];rw[show 3+j-([Value.pointer none,.int .i64 p,.int .i64 q]:List Value).length=j by simp];exact a
theorem PW(w:World)(hL:Laid w)(a:Option Addr)(n cap:Nat)(c:List Bt)(H:qJ w a n cap c)(mt E:Int)(hm:gC mt)(hw:gC E):
 Calls prog 8 #[.slice a n cap,.int .i64 mt,.int .i64 E] w λe w'=>e=.returned (.bool true)/\w.grownBy w' none:=by
 obtain⟨m0,bM⟩:=exq (jL mt 237);obtain⟨v0,bP⟩:=exq (jL E 300);have bS:m0<237:=by have:=l7 mt (p:=237) (by decide);omega
 have eo:v0<300:=by have:=l7 E (p:=300) (by decide);omega
 have al:=l8 mt 237 w hm.1 hm.2 (by decide) (by decide);have ax:=l8 E 300 w hw.1 hw.2 (by decide) (by decide);rw[<-bM]at al;rw[<-bP]at ax;replace al:=J al;replace ax:=J ax;obtain⟨ao,a0⟩:∃x:Int,x=64+(m0:Int):=⟨_,rfl⟩
 obtain⟨ai,bb⟩:∃x:Int,x=16+(v0:Int):=⟨_,rfl⟩
 have b0:kD ao ai:=by unfold kD;omega
 have ep:IntKind.i64.wrap (64+(m0:Int))=ao:=by simp[IntKind.wrap,IntKind.bits,IntKind.signed];omega
 have ew:IntKind.i64.wrap (16+(v0:Int))=ai:=by simp[IntKind.wrap,IntKind.bits,IntKind.signed];omega
 obtain⟨r,F⟩:=exq (w.alloc (.cells #[.int .i64 ao,.int .i64 ai] 28));have gc:w.grownBy r none:=by rw[F];exact aC _ _ _
 have bc:r.heap[w.heap.size]?=some (.cells #[.int .i64 ao,.int .i64 ai] 28 (0,0)):=by rw[F];exact aH _ _
 have zc:r.heap.size=w.heap.size+1:=by rw[F,dC]
 obtain⟨sb,bj⟩:=exq r.heap.size;obtain⟨d,G⟩:=exq (r.alloc (.cells (nj (.pointer none) (.slice none 0 0) ao ai) 63));have I:r.grownBy d none:=by rw[G];exact aC _ _ _
 have b1:d.heap[sb]?=some (.cells (nj (.pointer none) (.slice none 0 0) ao ai) 63 (0,0)):=by rw[G,bj];exact aH _ _
 obtain⟨y0,y1⟩:r.cell? ⟨w.heap.size,0,none⟩=some (.int .i64 ao)/\r.cell? ⟨w.heap.size,1,none⟩=some (.int .i64 ai):=by simp[World.cell?,bc]
 have k0:=kc (I.cell y0 (by simp));have k1:=kc (I.cell y1 (by simp));have a1:d.rangeAt sb 3 (bv gm)/\d.grownBy d none:=⟨PV b1,av _ _⟩
 have a2:Laid d:=(hL.gb gc (by simp)).gb I (by simp);have K:=LK d.drew ao ai gm vM true (a2.gb (aP (av d none)) (by simp));unfold b9 at K;replace K:=J K;have cw:(prog.info? 24).map (·.size)=some (bv gm).length:=by rw[fK,vM.1];exact mh
 have cx:=underlying24;have br:=G;rw[PU]at br;have bt:=aj gc I;have z1:d.heap.size=w.heap.size+2:=by rw[G,dC,zc]
 replace H:=J H;have cy:=hL.lt;replace hL:=J hL;replace a2:=J a2;replace b1:=J b1;replace bt:=J bt;clear bc gc G I bM bP;replace a0:=J a0;replace bb:=J bb;have b4:Hid (sb=w.heap.size+1/\d.heap.size=w.heap.size+2):=J ⟨by omega,z1⟩;clear zc z1;go_enter func8,ntmps8;go_upto_region 2 with(first|(go_at_call 23;with_reducible refine(Z al).mono ?_;rintro e w2⟨rfl,L⟩;rw[L];clear L)|(go_at_call 23;with_reducible refine(Z ax).mono ?_;rintro e w2⟨rfl,L⟩;rw[L];clear L))
 rw[<-F];clear F;go_upto_region 3 with fail;rw[<-br,<-bj];clear br bj;go_region_held3 (λW=>W.rangeAt sb 3 (bv gm)/\d.grownBy W none)
  (first|with_reducible exact b5|with_reducible exact a1|with_reducible exact ir a1 (aP (av _ none)))
  (first|(go_at_call 12;refine(Z K).mono ?_;rintro e t⟨g3,⟨cR,-⟩|⟨-,xb,xs,A,rfl,hA,bx⟩⟩;(exact absurd b0 cR);have b5:=ir (ir a1 (aP (av _ none))) g3))
 have M:=aj (aP (av d none)) g3;have b3:=bf (Z b1) M;have b6:Laid t:=(Z a2).gb M (by simp);have z3:=M.size;have c9:=(Z b4).1;have db:=(Z b4).2;obtain⟨W6,a3⟩:=exq (t.setCell ⟨sb,0,none⟩ (.pointer (some ⟨xb,0,none⟩)));have c0:t.cell? ⟨sb,0,none⟩=some (.pointer none):=(aU b3 0).trans rfl;have cf:t.frozen? ⟨sb,0,none⟩=false:=by simp[World.frozen?,b3]
 have h:=jl t sb 0 (.pointer (some ⟨xb,0,none⟩));rw[<-a3]at h;have C:=aj (Z bt) M;have B0:ph w W6 sb xb xs A t.heap.size ao ai 0 (.slice none 0 0) (λ_=>0):=by
  refine⟨?_,mI _ _ _ _,λk e=>(by cases e),λi hi=>(by cases hi),λi hi=>(by cases hi),λi k _ u=>(by cases u),bx.other h (λk _ e u=>?_),λk u=>?_,by omega,b6.aq h (by omega),?_,h.size,cy⟩
  rw[a3];exact heap_set b3 _;have:d.heap.size<=k:=hA k u;omega;have:d.heap.size<=k:=hA k u;have:=bx.lt k u;omega;refine⟨h.os.trans C.os,h.tape.trans C.tape,h.output.trans C.output,bC C.size h.size,λk u _=>?_⟩
  rw[h.block k (by have:=C.size;omega) (by omega)];exact C.block k u (by simp)
 clear b5 a1 K cw cx k0 k1 y0 y1 b1 b3 b6 h M g3 hA bx c9 db z3;replace B0:=J B0;go_upto_region 7 with fail;rw[<-a3];clear a3 c0 cf;go_wp2_with fail;go_loopw [11] (λkv wr=>∃(j:Nat)(vo:Value)(lb:Nat->Nat),j<=4/\kv=.int .i64 (j:Int)/\ph w wr sb xb xs A t.heap.size ao ai j vo lb) (λkv _=>4-(intOf kv).toNat);case atStart=>exact⟨0,_,_,by omega,rfl,Z B0⟩
 case round=>
  clear B0;obtain⟨j,vo,lb,hj,rfl,B⟩:=hrel;by_cases de:j<4
  ·have d1:decide ((j:Int)<4)=true:=bp (by omega);obtain⟨va,vc,b7,-⟩:=ix B.own;have gl:=B.gl;obtain⟨a7,n7,c7,w7,N,u1,u2,B7⟩:=B.app hj rfl;rw[b7]at gl N u1;unfold qI at N;replace N:=J N;replace B7:=J B7;clear B b7;go_upto_region 9 with(at_builtin;refine oR (by rfl) 60 60 (by rfl) _ _ (by rfl) _ _ _ (by rfl) (by rfl) (Z N) ?_)
   go_wp2_with fail;exact⟨⟨j+1,_,_,by omega,rfl,Z B7⟩,by simp[intOf];omega⟩
  have d1:decide ((j:Int)<4)=false:=bB (by omega);obtain rfl:j=4:=by omega
  obtain⟨V0,a4,a8,bz,dg⟩:=B.fin b0;have A0:qb w wr sb V0 0:=⟨a4,a8,B.laid,B.g,dg⟩
  have dk:16<=ai:=by have:=Z bb;omega
  have O:=a8.DG wr sb (by omega) a4 B.laid (k:=0) (by omega) mc (by decide);unfold mc at O;replace O:=J O;replace B:=J B;replace A0:=J A0;replace a8:=J a8;replace a4:=J a4;replace bz:=J bz;go_upto_region 12 with(go_at_call 24;refine(Z O).mono ?_;rintro e w4⟨rfl,V1,T1,K1,-,b8⟩)
  have D:=(Z A0).go T1 K1;have e1:V1.st=.aL (nY ao ai):=by rw[b8,Z bz];exact PR dk
  have ca:=J (yC w4 sb V1 _ K1 (by omega) D.at_ D.laid);clear O T1 b8;replace K1:=J K1;replace D:=J D;replace e1:=J e1;go_upto_region 13 with(go_at_call 25;refine(Z ca).mono ?_;rintro e w5⟨rfl,V2,T2,P,DO⟩)
  have v:=(Z D).go T2 P;have e2:V2.st=.aL (bJ (nY ao ai) 4).1:=by rw[DO,Z e1];exact DM _
  have n2:V2.n=1:=by
   have q:=P.cU e2;rw[Z a0,(DN bS ai).1]at q;omega
  obtain⟨ey,ez,fP⟩:=v.fP n2;have Q:=DI w5 sb P (by omega) v.at_ v.laid ⟨3,3,0,⟨#[]⟩⟩ ⟨by simp[gC],by simp[gC],by simp[gC],by decide⟩ rfl yC 3 0 (by decide) (by decide);unfold fQ vK at Q;replace Q:=J Q;clear ca T2 DO n2;replace P:=J P;replace v:=J v;replace e2:=J e2;go_upto_region 16 with(go_at_call 26;refine(Z Q).mono ?_;rintro e w6⟨rfl,V3,n3,T3,K3,-,eK,cg⟩)
  have R:=(Z v).go T3 K3;have ch:V3.n=2:=by
   have e3:V3.st=.aL (kG (kG (kG (kG (bJ (nY ao ai) 4).1)))):=by rw[cg (by decide),Z e2];exact PT _
   have q:=K3.cU e3;rw[Z a0,(DN bS ai).2]at q;omega
  obtain⟨eL,eV,dn⟩:=R.fP ch;clear Q T3 cg ch fP K3;replace R:=J R;go_upto_region 18 with fail;obtain⟨T,e4,ds,a9,-⟩:=Z H;unfold maxLen at ds;clear dn;replace T:=J T;replace a9:=J a9;go_wp2_with fail;go_loopw [14,15] (λnv iv du=>∃(i:Nat),i<=n/\iv=.int .i64 (i:Int)/\nv=.int .i64 ((n:Int)+(jw c i:Int))/\((jw c i:Int)<=140737488400000)/\qb w du sb V3 n3) (λ_ iv _=>n-(intOf iv).toNat);case atStart=>exact⟨0,by omega,rfl,by simp[jw],by simp[jw],Z R⟩
  case round=>
   clear R v D A0;obtain⟨i,hi,rfl,rfl,hs,f⟩:=hrel;by_cases de:i<n
   ·have w1:IntKind.i64.wrap ((i:Int)+1)=(i:Int)+1:=by simp[IntKind.wrap,IntKind.bits,IntKind.signed];omega
    have d1:decide ((i:Int)<(n:Int))=true:=bp (by omega);by_cases U:(n:Int)+(jw c i:Int)<=8192
    ·have d2:decide ((n:Int)+(jw c i:Int)<=8192)=true:=bp U;have j0:(0:Int)<=(i:Int):=by omega
     have j1:(i:Int)<(n:Int):=by omega
     obtain⟨b,o,rfl,-,-,-,-,c4⟩:=((Z H).ah f.g).at' (i:=i) (by have:=Z T;omega);have dx:=(Z a9 _ (DL (l:=c) (i:=i) (by have:=Z T;omega))).len;obtain⟨S,hS⟩:=exq (jw c i);obtain⟨z,hz⟩:=exq ((ka c i).s);have bL:jw c (i+1)=S+z.size+40:=by rw[hS,hz];rfl
     rw[<-hS]at hs U d2;rw[<-hz]at c4 dx;have w2:IntKind.i64.wrap ((n:Int)+(S:Int)+(z.size:Int))=(n:Int)+(S:Int)+(z.size:Int):=by simp[IntKind.wrap,IntKind.bits,IntKind.signed];omega
     have t:IntKind.i64.wrap ((n:Int)+(S:Int)+(z.size:Int)+40)=(n:Int)+(S:Int)+(z.size:Int)+40:=by simp[IntKind.wrap,IntKind.bits,IntKind.signed];omega
     have dE:Hid (Value.int .i64 ((n:Int)+(S:Int)+(z.size:Int)+40)=.int .i64 ((n:Int)+(jw c (i+1):Int))):=J (by rw[bL];congr 1;push_cast;omega);have dG:Hid ((jw c (i+1):Int)<=140737488400000):=J (by rw[bL];push_cast;omega);rw[<-hS];replace f:=J f;clear hS hz bL;go_wp2_with fail;exact⟨⟨i+1,by omega,rfl,Z dE,Z dG,Z f⟩,by simp[intOf];omega⟩
    have d2:decide ((n:Int)+(jw c i:Int)<=8192)=false:=bB U;have d3:decide ((8192:Int)<(n:Int)+(jw c i:Int))=true:=bp (by omega);have X:=J f.g;clear f;go_wp2_with fail;go_ret;exact⟨rfl,Z X⟩
   have d1:decide ((i:Int)<(n:Int))=false:=bB (by omega);obtain rfl:i=n:=by omega
   by_cases U:(i:Int)+(jw c i:Int)<=8192
   ·have d3:decide ((8192:Int)<(i:Int)+(jw c i:Int))=false:=bB (by omega);have eS:=PQ c i;have e5:i<=199:=by omega
    have ee:Hid (∀j,j<i->(ka c j).s.size<=8192):=J (λj hj=>by have:=eS.2 j hj;omega);clear eS U;replace f:=J f;go_wp2_with fail;go_loopw [16] (λjv eg=>∃(j:Nat)(V:aB)(m:Nat),j<=i/\jv=.int .i64 (j:Int)/\m<=90+80*j/\qb w eg sb V m) (λjv _=>i-(intOf jv).toNat);case atStart=>exact⟨0,V3,n3,by omega,rfl,by omega,Z f⟩
    case round=>
     clear f;obtain⟨j,V,m,hj,rfl,e6,p⟩:=hrel;by_cases ei:j<i
     ·have d4:decide ((j:Int)<(i:Int))=true:=bp (by omega);have j0:(0:Int)<=(j:Int):=by omega
      have j1:(j:Int)<(i:Int):=by omega
      have cj:j<c.length:=by have:=Z T;omega
      obtain⟨b,o,rfl,ej,c0,c1,c2,c3⟩:=((Z H).ah p.g).at' cj;have hB:=Z a9 _ (DL cj);have cp:(ka c j).ok:=⟨hB.kind,hB.a,hB.b,by have:=Z ee j ei;omega⟩
      have y:=Pr yC wr sb p.ok (by omega) p.at_ p.laid (ka c j) cp;obtain⟨x,cv⟩:=exq (ka c j);rw[<-cv]at c0 c1 c2 c3 y;unfold fQ iW at y;obtain⟨kind,xa,e7,str⟩:=x;simp only at c0 c1 c2 c3 y;replace y:=J y;replace p:=J p;clear cv cp hB ej;go_upto_region 29 with(go_at_call 26;refine(Z y).mono ?_;rintro e w7⟨rfl,V7,m7,T7,K7,-,e8⟩)
      have Y:=(Z p).go T7 K7;have ek:=J (K7.Pd w7 sb (by omega) Y.at_ Y.laid);replace Y:=J Y;clear T7 K7 y c0 c1 c2 c3;go_wp2_with (go_at_call 27;refine(Z ek).mono ?_;rintro e w8⟨rfl,V8,T8,K8,-⟩;have A8:=J ((Z Y).go T8 K8);clear T8 K8);exact⟨⟨j+1,V8,m7,by omega,rfl,by omega,Z A8⟩,by simp[intOf];omega⟩
     have d4:decide ((j:Int)<(i:Int))=false:=bB (by omega);have X:=J p.g;clear p;go_wp2_with fail;go_ret;exact⟨rfl,Z X⟩
   have d3:decide ((8192:Int)<(i:Int)+(jw c i:Int))=true:=bp (by omega);have X:=J f.g;clear f;go_wp2_with fail;go_ret;exact⟨rfl,Z X⟩
