import Derived.Deep.CutBlock
import Derived.Recover
import Derived.RegionDies
import Derived.Test.YtjnmokmchdfchaaGreatDoorZ2
set_option maxRecDepth 1000000
set_option maxHeartbeats 8000000
set_option linter.all false
namespace Go.Proofs.YtjnmokmchdfchaaGreatDoor
open Go.RowKit Tryz
attribute[local go_sem↓]Go.wp_at_zero Go.wp_at_succ
variable{I:Act}{A:Addr}{F:Exit->Act->World->Prop}{G:Fr}{t:Int}{L:List Int}{X:List Rg}{b i j k l m n o:Nat}{H:Oper}{a:Option Addr}{N:Option Nat}{T:TypeId}{x y z:Value}{W v w:World}
abbrev PN:Ending:=.panicked [{v:=.iface 34 (.int .i64 5),recovered:=false}]
def cI(w:World)(X:Nat)(sl:Value)(p st:Nat):Prop:=w.heap[X]?=some (.cells #[sl,.int .i64 (p:Int),.int .i64 (st:Int)] 311 (0,0))
theorem tI(h:w.heap[b]?=some (.cells #[x,y,z] T (0,0))):w.cell? ⟨b,0,none⟩=some x/\w.cell? ⟨b,1,none⟩=some y/\w.cell? ⟨b,2,none⟩=some z/\∀o,w.frozen? ⟨b,o,none⟩=false:=by
 simp[World.cell?,World.frozen?,h]
theorem cI.set{w:World}(h:cI w n x k i)(q:Nat):cI (w.setCell ⟨n,1,none⟩ (.int .i64 (q:Int))) n x q i:=by
 unfold cI at *;rw[heap_set h];rfl
theorem BS.jV(h:BS w b o L)(n:Nat):BS w b o (L.take n):=by
 refine⟨λi hi=>?_,λx a=>h.2 x (iS a)⟩
 rw[ct]at hi;rw[h.1 i (by omega)];simp[show i<n by omega]
theorem BS.IM(h:BS w b o L)(n:Nat):BS w b (o+n) (L.drop n):=by
 refine⟨λi hi=>?_,λx a=>h.2 x (iG a)⟩
 rw[dF]at hi;have:=h.1 (n+i) (by omega);rw[show o+n+i=o+(n+i) by omega,this];simp[kG]
theorem IN(n x:Int)(h0:0<=n)(d:n<72057594037927936)(a:W8 x):bits .or .u64 (n*256) x=n*256+x:=by
 obtain⟨c,f⟩:=a;obtain⟨m,rfl⟩:=pY h0;obtain⟨y,rfl⟩:=pY c;have e:((m:Int)*256)=((m*256:Nat):Int):=by omega
 rw[e,u64_or_nat _ _ (by omega) (by omega)];have:=wW (i:=8) (b:=y) (by omega) m;rw[Nat.shiftLeft_eq]at this;rw[show m*256=m*2^8 from rfl,<-this];omega
theorem rY(X:Nat)(w:World):Calls prog 188 #[.pointer (some ⟨X,0,none⟩)] w λe a=>e=PN/\a=w:=by
 go_enter func188,ntmps188;go_wp2_with fail;exact⟨rfl,rfl,rfl⟩
theorem vH(X a o n cap:Nat)(l:List Int)(p st:Nat)(k:Nat)(r:Int)(u:r=(k:Int))(w:World)(f:cI w X (.slice (some ⟨a,o,none⟩) n cap) p st)(h:bF w (some ⟨a,o,none⟩) n cap l)(v:a≠X)(hp:p<=l.length)(hl:l.length<=100000000)(C:k<4611686018427387904):
 Calls prog 233 #[.pointer (some ⟨X,0,none⟩),.int .u64 r] w λe d=>
  w.grownBy d (some X)/\((l.length-p<k/\e=PN/\cI d X (.slice (some ⟨a,o,none⟩) n cap) p st)\/(k<=l.length-p/\∃s t,e=.returned (.slice s k t)/\bF d s k t ((l.drop p).take k)/\cI d X (.slice (some ⟨a,o,none⟩) n cap) (p+k) st)):=by
 subst u;obtain⟨D,E,F,G⟩:=tI f;have c:n=l.length:=h.2.1;have H:=h.2.2.1;have y:=h.2.2.2.1;unfold maxLen at y;have I:IntKind.i64.wrap ((n:Int)-(p:Int))=(n:Int)-(p:Int):=by simp[IntKind.wrap,IntKind.bits,IntKind.signed];omega
 have K:IntKind.u64.wrap ((n:Int)-(p:Int))=(n:Int)-(p:Int):=by rw[fh];omega
 have L:IntKind.i64.wrap (k:Int)=(k:Int):=by simp[IntKind.wrap,IntKind.bits,IntKind.signed];omega
 replace c:=J c;by_cases b:l.length-p<k
 ·have e1:decide ((n:Int)-(p:Int)<(k:Int))=true:=bK (by have:=Z c;omega);replace b:=J b;go_enter func233,ntmps233;go_wp2_with fail;go_quiet (fail);go_wp2_with (go_at_call 188;refine(rY X _).mono ?_;rintro e d⟨rfl,rfl⟩);exact⟨rfl,cX (di (aB _ _) _) _,.inl ⟨Z b,rfl,f⟩⟩
 have e1:decide ((n:Int)-(p:Int)<(k:Int))=false:=bI (by have:=Z c;omega);have M:(0:Int)<=(p:Int):=by omega
 have N:(p:Int)<=(p:Int)+(k:Int):=by omega
 have O:(p:Int)+(k:Int)<=(cap:Int):=by have:=Z c;omega
 have P:IntKind.i64.wrap ((p:Int)+(k:Int))=(p:Int)+(k:Int):=by simp[IntKind.wrap,IntKind.bits,IntKind.signed];omega
 replace b:=J b;by_cases i:cap=p
 ·subst i;go_enter func233,ntmps233;go_wp2_with fail;go_quiet (fail);go_wp2_with fail;go_quiet (fail);go_wp2_with fail;go_ret;obtain rfl:k=0:=by have:=Z b;have:=Z c;omega
  refine⟨di (aI (cX (di (aB _ _) _) _) _ _ (.inr rfl)) _,.inr ⟨by omega,some ⟨a,o,none⟩,0,rfl,?_,?_⟩⟩
  exact⟨λx j=>by simp at j,by simp,aP _,by simp[maxLen],.inr ⟨_,_,rfl,by simpa using BS.nil _ _ _⟩⟩
  exact cI.set (w:=w.drewN _) f (cap+0)
 have Q:(cap=p)=False:=by simp[i]
 clear i;have key:Hid (∀m:World,w.grownBy m (some X)->bF m (some ⟨a,o+p,none⟩) k (cap-p) ((l.drop p).take k)):=J (λm g=>by
  obtain⟨z,-,-,-,⟨q,-⟩|⟨R,S,q,A⟩⟩:=h;cases q
  ·cases q;have B:=(A.gb g (λe=>v (aO e).symm)).IM p;exact⟨λx j=>z x (iG (iS j)),by have:=Z b;simp;omega,by have:=Z c;have:=Z b;omega,by simp[maxLen];omega,.inr ⟨_,_,rfl,B.jV k⟩⟩)
 go_enter func233,ntmps233;go_wp2_with fail;go_quiet (fail);go_wp2_with fail;go_quiet (fail);go_wp2_with fail;go_ret;refine⟨di (aI (cX (di (aB _ _) _) _) _ _ (.inr rfl)) _,.inr ⟨by have:=Z b;omega,some ⟨a,o+p,none⟩,cap-p,(by show Ending.returned (.slice (some ⟨a,o+p,none⟩) (p+k-p) (cap-p))=_;rw[sQ]),?_,?_⟩⟩
 exact Z key _ (di (aI (cX (di (aB _ _) _) _) _ _ (.inr rfl)) _);exact cI.set (w:=w.drewN _) f (p+k)
theorem IP(h:W8 t):(eY t=1/\t/64=0)\/(eY t=2/\t/64=1)\/(eY t=4/\t/64=2)\/(eY t=8/\t/64=3):=by
 unfold W8 at h;unfold eY;by_cases a:t<64;left;simp[a];omega;by_cases b:t<128;right;left;simp[a,b];omega;by_cases c:t<192;right;right;left;simp[a,b,c];omega;right;right;right;simp[a,b,c];omega
theorem IQ(h:W8 t):bits .and .u8 t 63=t %64:=by
 obtain⟨h0,a⟩:=h;obtain⟨m,rfl⟩:=pY h0;have e:(63:Int)=((63:Nat):Int):=rfl;rw[e,u8_and_nat _ _ (by omega) (by omega)];have:=Nat.and_two_pow_sub_one_eq_mod m 6;simp only[Nat.reducePow,Nat.reduceSub]at this;rw[this];rfl
def Bw(w:World)(X:Nat)(sl:Value)(st:Nat)(r:Option (Int×Nat))(e:Ending)(a:World):Prop:=
 w.grownBy a (some X)/\((∃v q,r=some (v,q)/\e=.returned (.int .u64 v)/\cI a X sl q st)\/(r=none/\e=PN/\∃b,cI a X sl b st))
theorem tJ(h:bF w a n k L)(d:0<n):∃b o,a=some ⟨b,o,none⟩/\∀i,i<n->w.cell? ⟨b,o+i,none⟩=some (.int .u8 (L.getD i 0)):=by
 obtain⟨-,e,f,-,⟨rfl,c⟩|⟨b,o,rfl,c⟩⟩:=h;omega;exact⟨b,o,rfl,λi hi=>c.1 i (by omega)⟩
theorem yj(l:List Int)(p k i:Nat)(h:i<k):((l.drop p).take k).getD i 0=l.getD (p+i) 0:=by
 simp[List.getD,kG,h]
theorem By(h:L.length<n+eY (L.getD n 0)):cN L n=none:=by unfold cN;rw[ah (by omega)]
theorem IS(h:n+eY (L.getD n 0)<=L.length):cN L n=some (iY L n (eY (L.getD n 0)-1),n+eY (L.getD n 0)):=by unfold cN;rw[az h]
theorem tK(X b o n cap:Nat)(l:List Int)(p st:Nat)(w:World)(S:cI w X (.slice (some ⟨b,o,none⟩) n cap) p st)(s:bF w (some ⟨b,o,none⟩) n cap l)(u:b≠X)(hp:p<=l.length)(hl:l.length<=100000000):
 Calls prog 274 #[.pointer (some ⟨X,0,none⟩)] w (Bw w X (.slice (some ⟨b,o,none⟩) n cap) st (cN l p)):=by
 have y:=s.1;have T:Hid (∀W,w.grownBy W (some X)->bF W (some ⟨b,o,none⟩) n cap l):=J (λW g=>s.gb g (λj e=>.inr (.inr (λx U=>by cases U;cases e;exact u))));go_enter func274,ntmps274;go_wp2_with fail;refine(vH X b o n cap l p st 1 1 rfl w S s u hp hl (by omega)).mono ?_;rintro e I⟨m,⟨hs,rfl,z⟩|⟨hs,a1,c1,rfl,A,z⟩⟩;exact⟨rfl,m,.inr ⟨By (by have:=tp (l.getD p 0);omega),rfl,p,z⟩⟩
 obtain⟨b1,o1,rfl,B⟩:=tJ A (by omega);have C:=B 0 (by omega);rw[yj _ _ _ _ (by omega),ou,ou]at C;have q:=qe y p;have a:=IP q;have L:=IQ q;obtain⟨t,c⟩:=exq (l.getD p 0);rw[<-c]at C q a L;have D:iY l p 0=t %64:=by rw[c];rfl
 have M:Hid (l.length<p+eY t->cN l p=none):=J (λh=>By (by rw[<-c];exact h));have N:Hid (p+eY t<=l.length->cN l p=some (iY l p (eY t-1),p+eY t)):=J (λh=>by rw[c]at h⊢;exact IS h);obtain⟨t0,t1⟩:=q;replace c:=J c;replace B:=J B;replace A:=J A;replace D:=J D;obtain⟨K,r⟩:=exq (eY t-1);have a3:K<=7:=by have:=tp t;omega
 have O:Hid (eY t=K+1):=J (by have:=tp t;omega);rw[Z O,rB]at N;rw[Z O]at M;have E:=xv y p;replace E:=J E;obtain⟨a,hd⟩|⟨a,hd⟩|⟨a,hd⟩|⟨a,hd⟩:=a
 all_goals
  rw[a]at r
  replace r:=J r
  replace a:=J a
  go_wp2_with fail
  refine(vH X b o n cap l (p+1) st K _ (by have:=Z r;omega) I z (Z T I m) u (by omega) hl (by omega)).mono ?_
  rintro e V⟨P,⟨Y,rfl,F⟩|⟨Y,a2,c2,rfl,d,F⟩⟩
  exact⟨rfl,aq m P,.inr ⟨Z M (by omega),rfl,p+1,F⟩⟩
  have al:Hid (∀j,j<K->∃b2 f,a2=some ⟨b2,f,none⟩/\V.cell? ⟨b2,f+j,none⟩=some (.int .u8 (l.getD (p+1+j) 0))):=J (λj G=>by
   obtain⟨b2,f,h1,h2⟩:=tJ d (by omega);exact⟨b2,f,h1,by rw[h2 j G,yj _ _ _ _ G]⟩)
  have a4:K<=c2:=d.2.2.1
  have ax:=d.2.2.2.1
  unfold maxLen at ax
  have aC:=J (Z N (by omega))
  replace d:=J d
  clear C L hd
  go_wp2_with fail
  go_loop [4,21] (λv i=>∃j:Nat,j<=K/\i=.int .i64 (j:Int)/\v=.int .u64 (iY l p j)) (λ_ i=>K-(intOf i).toNat)
  case atStart=>exact⟨0,by omega,rfl,by rw[Z D]⟩
  case round=>
   obtain⟨j,G,rfl,rfl⟩:=hrel
   by_cases a0:j<K
   ·obtain⟨b2,f,rfl,x2⟩:=Z al j a0;have Q:=qe y (p+1+j);have H:iY l p (j+1)=iY l p j*256+l.getD (p+1+j) 0:=by
     show iY l p j*256+l.getD (p+j+1) 0=_;rw[show p+j+1=p+1+j by omega]
    have R:=Z E j;have a8:(256:Int)^j<=256^6:=by
     have:(256:Nat)^j<=256^6:=wZ (by decide) (by omega);have e:∀k:Nat,(256:Int)^k=((256^k:Nat):Int):=λk=>by simp
     rw[e,e];omega
    have ho:=IN (iY l p j) (l.getD (p+1+j) 0) R.1 (by omega) Q;have a9:iY l p j<72057594037927936:=by omega
    obtain⟨bb,-⟩:=R;replace H:=J H;generalize iY l p j=v at *;generalize l.getD (p+1+j) 0=x at *;obtain⟨x0,x9⟩:=Q;have bj:IntKind.u64.wrap (v*256)=v*256:=by rw[fh];omega
    have i1:(0:Int)<=(j:Int):=by omega
    have i2:(j:Int)<(K:Int):=by omega
    go_wp2_with fail;go_round;case rel=>exact⟨j+1,by omega,by simp,by rw[Z H]⟩
    case measure=>simp[intOf];omega
   obtain rfl:j=K:=by omega
   go_wp2_with fail
   go_ret
   exact⟨aq m P,.inl ⟨iY l p j,p+(j+1),Z aC,rfl,by rw[show p+(j+1)=p+1+j by omega];exact F⟩⟩
def iB(w:World)(a:Nat)(v:Value)(l:List Rg):Prop:=(∀r∈l,r.ok)/\w.ownsRow a 200 2 v l.length (cz l)
theorem iB.lt(h:iB w n x X):∀k,x.ownBlock=some k->n<=k/\k<w.heap.size:=h.2.lt
theorem iB.gb(h:iB w n x X)(g:w.grownBy W N)(a:x.ownBlock=none\/x.ownBlock≠N):iB W n x X:=⟨h.1,h.2.kept g a⟩
theorem iB.ao(h:iB w n x X)(g:w.grownBy W none):iB W n x X:=h.gb g (by cases x.ownBlock<;>simp)
theorem iB.mV(h:iB w k (.slice a n i) X):bu w a n i X/\∀x,a=some x->k<=x.block:=by
 obtain⟨d,l,m⟩:=h;obtain⟨e,p⟩|⟨g,cap,cur,e,aa,q,r,hm,hs,s⟩:=m
 cases e;exact⟨⟨d,p.symm,by simp,by simp[maxLen],.inl rfl⟩,λx b=>by cases b⟩
 cases e;refine⟨⟨d,rfl,r,hm,.inr ⟨g,0,rfl,λj v c=>?_⟩⟩,λx b=>by cases b;exact aa⟩
 have f:j<(cz X).length:=(kF.1 c).1;rw[<-s,jA,az (by rw[l]at f;exact f)]at c;simp only[World.cell?,q,dR]
 simpa using c
theorem IT:(prog.info? 200).map (λi=>(i.zero,i.size,i.bytes))=some (some (.agg #[.int .u64 0,.int .u64 0]),2,16):=by kernel_rfl
theorem IU(l m:List Rg):cz (l++m)=cz l++cz m:=by simp[cz]
theorem IV(w:World)(r:Rg)(b:r.ok)(a:Nat)(c:a<=w.heap.size):iB (w.alloc (.cells #[.int .u64 r.lo,.int .u64 r.hi] 200)) a (.slice (some ⟨w.heap.size,0,none⟩) 1 1) [r]:=
 ⟨λx d=>by rw[cS.1 d];exact b,by simp[cz],.inr ⟨w.heap.size,1,#[.int .u64 r.lo,.int .u64 r.hi],rfl,c,aM w _,aP _,by simp[maxLen],by simp,by simp[cz]⟩⟩
theorem Bz(ty:TypeId)(e:Nat)(v:Value)(l:List Rg)(n:iB w e v l)(b o c:Nat)(r:Rg)(x:r.ok)(h0:w.cell? ⟨b,o,none⟩=some (.int .u64 r.lo))(z:w.cell? ⟨b,o+1,none⟩=some (.int .u64 r.hi))(I:l.length<=100000000)(A:e<=w.heap.size):
 ∃f i k a,(Builtin.append_ #[133,133] ty #[v,.slice (some ⟨b,o,none⟩) 1 c]).run prog w=.ok (.slice f i k) a/\iB a e (.slice f i k) (l++[r])/\w.grownBy a v.ownBlock/\((Value.slice f i k).ownBlock=v.ownBlock\/(Value.slice f i k).ownBlock=some w.heap.size):=by
 obtain⟨B,hi,C,D,E⟩:=lg IT;obtain⟨F,a,p,G,q,_,s⟩:=run_append_own_at (P:=prog) w e 133 ty 200 B (.agg #[.int .u64 0,.int .u64 0]) 2 16 underlying133 hi C D E rfl (by decide) v l.length (cz l) n.2 ⟨b,o,none⟩ 1 c (cz [r]) rfl (by
  intro j u d;rw[Addr.add_mid];match j,d with
  |0,d=>simp[cz]at d;rw[<-d];exact h0
  |1,d=>simp[cz]at d;rw[<-d];exact z) (by
  intro u t;simp[cz]at t;obtain rfl|rfl:=t<;>rfl) (by simp[maxLen];omega) (by omega) A
 have m:iB a e F (l++[r]):=⟨λy H=>(bQ.1 H).elim (n.1 y) (λh=>by rw[cS.1 h];exact x),by rw[bH,IU];exact G⟩
 obtain⟨-,-,⟨rfl,e2⟩|⟨g,cap,K,rfl,_⟩⟩:=id m;exact⟨_,_,_,a,p,m,q,s⟩
 exact⟨_,_,_,a,p,m,q,s⟩
theorem IW{j:Array Oper}{rest:List Oper}(k:H.guard=none)(s x:Operand)
 (ho:H.op=.call {callee:=.builtin .append,args:= #[s,x],argTypes:= #[133,133]})
 (i:Nat) (v:Value) (l:List Rg) (hs:I.eval s=v) (m:iB w i v l) (b f c:Nat) (r:Rg) (n:r.ok) (p:I.eval x=.slice (some ⟨b,f,none⟩) 1 c) (h0:w.cell? ⟨b,f,none⟩=some (.int .u64 r.lo)) (q:w.cell? ⟨b,f+1,none⟩=some (.int .u64 r.hi)) (t:l.length<=100000000) (u:i<=w.heap.size)
 (h:∀a d e g,iB g i (.slice a d e) (l++[r])->w.grownBy g v.ownBlock->((Value.slice a d e).ownBlock=v.ownBlock\/(Value.slice a d e).ownBlock=some w.heap.size)->
   wpList prog j F rest (I.put H.dst (.slice a d e)) g):wpList prog j F (H::rest) I w:=
 sZ k λ_ y=>by
  obtain⟨a,d,e,g,z,A,B,C⟩:=Bz (w:=w) H.type i v l m b f c r n h0 q t u;unfold Oper.wp execOp;simp only[ho,resolve,invoke,builtin,iU,mi,iT,nF,ki,mP,hs,p,z]
  exact y _ _ (h a d e g A B C)
def IX(w:World)(X:Nat)(sl:Value)(st:Nat)(r:Option (Int×Nat))(e:Ending)(a:World):Prop:=
 w.grownBy a (some X)/\((∃v q,r=some (v,q)/\e=.returned (.int .i64 v)/\cI a X sl q st)\/(r=none/\e=PN/\∃b,cI a X sl b st))
theorem IY(X b o n cap:Nat)(l:List Int)(p st:Nat)(w:World)(i:cI w X (.slice (some ⟨b,o,none⟩) n cap) p st)(h:bF w (some ⟨b,o,none⟩) n cap l)(j:b≠X)(hp:p<=l.length)(hl:l.length<=100000000):
 Calls prog 268 #[.pointer (some ⟨X,0,none⟩)] w (IX w X (.slice (some ⟨b,o,none⟩) n cap) st (jR l p)):=by
 have k:=h.1;go_enter func268,ntmps268;go_wp2_with fail;refine(tK X b o n cap l p st w i h j hp hl).mono ?_;rintro e r⟨f,⟨v,q,a,rfl,d⟩|⟨a,rfl,d⟩⟩
 ·have m:=kH k a;obtain⟨⟨s,t⟩,-⟩:=m;replace a:=J a;by_cases u:4<=v
  ·have c:jR l p=none:=by unfold jR;rw[Z a];simp;omega
   replace c:=J c;go_wp2_with (go_at_call 188;refine(rY X _).mono ?_;rintro e x⟨rfl,rfl⟩);exact⟨rfl,f,.inr ⟨Z c,rfl,q,d⟩⟩
  have g:jR l p=some (v,q):=by unfold jR;rw[Z a];simp;omega
  replace g:=J g;have y:IntKind.i64.wrap v=v:=by simp[IntKind.wrap,IntKind.bits,IntKind.signed];omega
  go_wp2_with fail;go_ret;exact⟨f,.inl ⟨v,q,Z g,rfl,d⟩⟩
 have c:jR l p=none:=by unfold jR;rw[a];rfl
 exact⟨rfl,f,.inr ⟨c,rfl,d⟩⟩
def IZ(x y:Int)(w:World)(e:Ending)(a:World):Prop:=a=w/\((y<=x/\e=.returned (.int .u64 (x-y)))\/(x<y/\e=PN))
theorem yk(X:Nat)(x y:Int)(w:World)(a:aV x)(b:aV y):Calls prog 296 #[.pointer (some ⟨X,0,none⟩),.int .u64 x,.int .u64 y] w (IZ x y w):=by
 unfold aV at a b;by_cases h:x<y
 ·go_enter func296,ntmps296;go_wp2_with (go_at_call 188;refine(rY X _).mono ?_;rintro e c⟨rfl,rfl⟩);exact⟨rfl,rfl,.inr ⟨h,rfl⟩⟩
 have d:=rV (p:=x) (q:=y) (by omega) (by omega);go_enter func296,ntmps296;go_wp2_with fail;go_ret;exact⟨rfl,.inl ⟨by omega,rfl⟩⟩
def Lh(w:World)(X:Nat)(sl:Value)(st:Nat)(r:Option (List Rg×Nat))(e:Ending)(a:World):Prop:=
 w.grownBy a (some X)/\((∃rs q b c d,r=some (rs,q)/\e=.returned (.slice b c d)/\bu a b c d rs/\(∀x,b=some x->w.heap.size<=x.block)/\cI a X sl q st)\/(r=none/\e=PN/\∃f,cI a X sl f st))
theorem cI.gb(h:cI w n x k i)(g:w.grownBy W N)(a:N≠some n):cI W n x k i:=
 (g.block n (aY.1 h).1 (λe=>a e.symm)).trans h
theorem cI.lt(h:cI w n x k i):n<w.heap.size:=(aY.1 h).1
theorem Li(X d o n cap:Nat)(l:List Int)(p st:Nat)(w:World)(hX:cI w X (.slice (some ⟨d,o,none⟩) n cap) p st)(U:bF w (some ⟨d,o,none⟩) n cap l)(a9:d≠X)(hp:p<=l.length)(hl:l.length<=100000000):
 Calls prog 271 #[.pointer (some ⟨X,0,none⟩)] w (Lh w X (.slice (some ⟨d,o,none⟩) n cap) st (jD l p)):=by
 have C:=U.1;have ca:=hX.lt;have bb:∀W,w.grownBy W (some X)->bF W (some ⟨d,o,none⟩) n cap l:=λW g=>U.gb g (λj e=>.inr (.inr (λx V=>by cases V;cases e;exact a9)))
 have D:Hid (∀(W:World)(q:Nat),w.grownBy W (some X)->cI W X (.slice (some ⟨d,o,none⟩) n cap) q st->q<=l.length->Calls prog 274 #[.pointer (some ⟨X,0,none⟩)] W (Bw W X (.slice (some ⟨d,o,none⟩) n cap) st (cN l q))):=J (λW q g V Y=>tK X d o n cap l q st W V (bb W g) a9 Y hl);clear bb U;go_enter func271,ntmps271;go_wp2_with fail;refine(Z D w p (aB _ _) hX hp).mono ?_;rintro e w1⟨P,⟨hi,q1,f,rfl,al⟩|⟨f,rfl,al⟩⟩;rotate_left
 exact⟨rfl,P,.inr ⟨by unfold jD;rw[f];rfl,rfl,al⟩⟩
 obtain⟨⟨a0,a1⟩,a2,a3⟩:=kH C f;replace f:=J f;go_wp2_with fail;refine(Z D w1 q1 P al a3).mono ?_;rintro e w2⟨A,⟨bj,q2,r,rfl,ax⟩|⟨r,rfl,ax⟩⟩;rotate_left
 exact⟨rfl,aq P A,.inr ⟨by unfold jD;rw[Z f];simp[r],rfl,ax⟩⟩
 obtain⟨⟨b0,b1⟩,b2,b3⟩:=kH C r;replace r:=J r;replace A:=aq P A;go_wp2_with fail;refine(Z D w2 q2 A ax b3).mono ?_;rintro e E⟨t,⟨sz,q3,u,rfl,Q⟩|⟨u,rfl,Q⟩⟩;rotate_left
 exact⟨rfl,aq A t,.inr ⟨by unfold jD;rw[Z f];simp[Z r,u],rfl,Q⟩⟩
 obtain⟨⟨c0,c1⟩,c2,c3⟩:=kH C u;replace u:=J u;replace t:=aq A t;go_wp2_with fail;refine(yk X hi sz E ⟨by omega,by omega⟩ ⟨by omega,by omega⟩).mono ?_;rintro e F⟨rfl,⟨b4,rfl⟩|⟨ch,rfl⟩⟩;rotate_left
 exact⟨rfl,t,.inr ⟨by unfold jD;rw[Z f];simp[Z r,Z u];omega,rfl,q3,Q⟩⟩
 obtain⟨E,rfl⟩:=exq F;obtain⟨M,G⟩:∃M:Nat,(M:Int)=bj:=⟨bj.toNat,by omega⟩
 have R:jD l p=jC l M q3 (hi-sz) [⟨hi-sz,hi⟩]:=by
  unfold jD;rw[Z f];simp only[eV,Z r,Z u,b4,eX]
  rw[<-G,nE]
 have S:=IV E ⟨hi-sz,hi⟩ ⟨⟨by simp;omega,by simp;omega⟩,by simp;omega,by simp;omega⟩ w.heap.size t.size;have cj:=t.size;rw[<-G];replace G:=J G;replace R:=J R;replace S:=J S;have br:=J (Q.gb (aH E (.cells #[.int .u64 (hi-sz),.int .u64 hi] 200) none) (by simp));have bt:=J (cF t (aH E (.cells #[.int .u64 (hi-sz),.int .u64 hi] 200) none) (λj e=>by cases e));go_wp2_with fail;go_loopw [5,6,21] (λlv v cv wr=>∃(j q:Nat)(lo:Int)(s:List Rg)(H:Option Addr)(I K:Nat),j<=M/\cv=.int .u64 (j:Int)/\lv=.int .u64 lo/\v=.slice H I K/\iB wr w.heap.size v s/\cI wr X (.slice (some ⟨d,o,none⟩) n cap) q st/\w.grownBy wr (some X)/\s.length<=q/\q<=l.length/\0<=lo/\lo<=4611686018427387903/\jD l p=jC l (M-j) q lo s) (λ_ _ cv _=>M-(intOf cv).toNat);case atStart=>exact⟨0,q3,hi-sz,_,_,_,_,by omega,rfl,rfl,rfl,Z S,Z br,Z bt,by simp;omega,c3,by omega,by omega,Z R⟩
 case round=>
  obtain⟨j,q,lo,s,H,I,K,hj,rfl,rfl,rfl,L,bx,a,cp,Y,cw,cx,h⟩:=hrel;clear S br bt R;by_cases cy:j<M
  ·obtain⟨m,hm⟩:∃m,M-j=m+1:=⟨M-j-1,by omega⟩
   rw[hm]at h;have b5:m=M-(j+1):=by omega
   replace h:=J h;replace hm:=J hm;replace L:=J L;have cC:(M:Int)<=4611686018427387903:=by have:=Z G;omega
   go_wp2_with fail;refine(Z D wr q a bx Y).mono ?_;rintro e w4⟨g4,⟨qw,q4,i,rfl,T⟩|⟨i,rfl,T⟩⟩;rotate_left
   exact⟨rfl,aq a g4,.inr ⟨by rw[Z h];simp[jC,i],rfl,T⟩⟩
   obtain⟨⟨d0,d1⟩,d2,d3⟩:=kH C i;replace i:=J i;replace a:=aq a g4;have bz:=J ((Z L).gb g4 (by
    by_cases hv:(Value.slice H I K).ownBlock=none;exact .inl hv
    ·exact .inr (λe=>by have:=((Z L).lt X e).1;omega)))
   have c9:IntKind.u64.wrap (qw+2)=qw+2:=by rw[fh];omega
   go_wp2_with fail;refine(yk X lo (qw+2) w4 ⟨by omega,by omega⟩ ⟨by omega,by omega⟩).mono ?_;rintro e F⟨rfl,⟨db,rfl⟩|⟨de,rfl⟩⟩;rotate_left
   refine⟨rfl,a,.inr ⟨?_,rfl,q4,T⟩⟩
   rw[Z h];simp only[jC,Z i,eV]
   cases cN l q4 with
   |none=>rfl
   |some y=>simp only[eV];rw[ah (by omega)]
   obtain⟨w4,rfl⟩:=exq F;go_wp2_with fail;refine(Z D w4 q4 a T d3).mono ?_;rintro e B⟨g5,⟨size,q5,z,rfl,N⟩|⟨z,rfl,N⟩⟩;rotate_left
   exact⟨rfl,aq a g5,.inr ⟨by rw[Z h];simp[jC,Z i,z],rfl,N⟩⟩
   obtain⟨⟨e0,e1⟩,e2,e3⟩:=kH C z;replace z:=J z;replace a:=aq a g5;have b6:=J ((Z bz).gb g5 (by
    by_cases hv:(Value.slice H I K).ownBlock=none;exact .inl hv
    ·exact .inr (λe=>by have:=((Z bz).lt X e).1;omega)))
   obtain⟨b,O⟩:=exq (lo-(qw+2));rw[<-O];have dg:0<=b/\b<=4611686018427387903:=by omega
   replace O:=J O;go_wp2_with fail;refine(yk X b size B ⟨by omega,by omega⟩ ⟨by omega,by omega⟩).mono ?_;rintro e F⟨rfl,⟨dk,rfl⟩|⟨dn,rfl⟩⟩;rotate_left
   refine⟨rfl,a,.inr ⟨?_,rfl,q5,N⟩⟩
   rw[Z h];simp only[jC,Z i,Z z,eV]
   rw[ah (by have:=Z O;omega)];obtain⟨B,rfl⟩:=exq F;obtain⟨c,aC⟩:=exq (b-size);rw[<-aC];have ds:0<=c/\c<=4611686018427387903:=by omega
   have a4:jD l p=jC l (M-(j+1)) q5 c (s++[⟨c,b⟩]):=by
    rw[Z h];simp only[jC,Z i,Z z,eV]
    have q1:=Z O;rw[az (by omega),<-b5];have z1:lo-2-qw-size=c:=by omega
    have z2:lo-2-qw=b:=by omega
    rw[z1,z2]
   replace aC:=J aC;replace a4:=J a4;have a8:=J ((Z b6).ao (aH B (.cells #[.int .u64 c,.int .u64 b] 200) none));have b8:=J (N.gb (aH B (.cells #[.int .u64 c,.int .u64 b] 200) none) (by simp));have g6:=J (cF a (aH B (.cells #[.int .u64 c,.int .u64 b] 200) none) (λj e=>by cases e));have du:=a.size;have dx:=N.lt;go_wp2_with (at_builtin;refine IW (by rfl) _ _ (by rfl) w.heap.size _ s (by rfl) (Z a8) B.heap.size 0 1 ⟨c,b⟩ ⟨⟨by simp;omega,by simp;omega⟩,by simp;omega,by simp;omega⟩ (by rfl) (by simp) (by simp) (by omega) (by simp;omega) ?_;intro a7 n7 c7 w7 o7 g7 b7);go_roundw;case rel=>
    refine⟨j+1,q5,c,s++[⟨c,b⟩],a7,n7,c7,by omega,by simp,rfl,rfl,o7,?_,?_,by simp;omega,e3,by omega,by omega,Z a4⟩
    exact(Z b8).gb g7 (λe=>by have:=((Z a8).lt X e).1;omega);exact cF (Z g6) g7 (λk e=>.inl ((Z a8).lt k e).1)
   case measure=>simp[intOf];omega
  obtain rfl:j=M:=by omega
  go_wp2_with fail;go_ret;have bM:=L.mV;exact⟨a,.inl ⟨s,q,H,I,K,by rw[h,rE];rfl,rfl,bM.1,bM.2,bx⟩⟩
structure Gx(w a:World)(X Y:Nat):Prop where
 os:a.os=w.os
 tape:a.tape=w.tape
 output:a.output=w.output
 size:w.heap.size<=a.heap.size
 block:∀k,k<w.heap.size->k≠X->k≠Y->a.heap[k]?=w.heap[k]?
theorem Gx.refl(w:World)(X Y:Nat):Gx w w X Y:=⟨rfl,rfl,rfl,aP _,λ_ _ _ _=>rfl⟩
theorem Gx.trans(h:Gx w W n j)(k:Gx W v n j):Gx w v n j:=
 ⟨k.os.trans h.os,k.tape.trans h.tape,k.output.trans h.output,bD h.size k.size,λi hi a b=>(k.block i (bY hi h.size) a b).trans (h.block i hi a b)⟩
theorem Gx.of{X Y:Nat}(g:w.grownBy W N)(a:∀k,N=some k->k=X\/k=Y\/w.heap.size<=k):Gx w W X Y:=
 ⟨g.os,g.tape,g.output,g.size,λk b c d=>g.block k b (λe=>by obtain h|h|h:=a k e.symm;exact c h;exact d h;omega)⟩
theorem Gx.set{w:World}(h:Gx w W n i)(p:Addr)(v:Value)(e:p.block=n\/p.block=i\/w.heap.size<=p.block):Gx w (W.setCell p v) n i:=
 ⟨h.os,h.tape,h.output,by simpa [World.setCell]using h.size,λk c a b=>by
  rw[dy _ _ _ _ (by rintro rfl;obtain e|e|e:=e<;>first|exact a e|exact b e|omega)];exact h.block k c a b⟩
theorem Gx.gb(h:Gx w W n i)(hY:w.heap.size<=i):w.grownBy W (some n):=
 ⟨h.os,h.tape,h.output,h.size,λk a b=>h.block k a (λe=>b (by rw[e])) (by omega)⟩
theorem Gx.cell(h:Gx w W n k)(a:w.cell? ⟨b,i,none⟩=some x)(c:b≠n)(d:b≠k):W.cell? ⟨b,i,none⟩=some x:=
 (vG (h.block b (ep w ⟨b,i,none⟩ a) c d) i).trans a
def lZ(l:List Int)(f:Fr)(p:Nat):Option (Fr×Nat):=(cN l p).bind λx=>some ({f with offset:=x.1},x.2)
def ni(l:List Int)(f:Fr)(p:Nat):Option (Fr×Nat):=(cN l p).bind λx=>some ({f with code:=x.1},x.2)
def l7(l:List Int)(f:Fr)(p:Nat):Option (Fr×Nat):=(jR l p).bind λx=>some ({f with stream:=x.1},x.2)
def nj(l:List Int)(f:Fr)(p:Nat):Option (Fr×Nat):=(nH l p).bind λx=>some ({f with data:=x.1},x.2)
def pL(l:List Int)(f:Fr)(p:Nat):Option (Fr×Nat):=(jD l p).bind λx=>some ({f with ranges:=x.1},x.2)
structure RC(w:World)(X Y a o n cap:Nat)(l:List Int)(p st:Nat)(f:Fr):Prop where
 x:cI w X (.slice (some ⟨a,o,none⟩) n cap) p st
 y:w.heap[Y]?=some (.cells (bP f (.slice none 0 0)) 158 (0,0))
 b:bF w (some ⟨a,o,none⟩) n cap l
 xb:a≠X
 yb:a≠Y
 xy:X≠Y
 hp:p<=l.length
 hl:l.length<=100000000
 ok:f.ok
 rg:f.ranges=[]
 dt:f.data.size<=9223372036854775807
def Lj(b:Bool)(w d:World)(f:Fr)(a:Value):Prop:=dr d f a/\((f.ranges=[]/\a=.slice none 0 0)\/(b=true/\∃x n c,a=.slice (some x) n c/\w.heap.size<=x.block))
def sw(d:Bool)(w:World)(X Y:Nat)(sl:Value)(st len:Nat)(r:Option (Fr×Nat))(e:Ending)(a:World):Prop:=
 Gx w a X Y/\((∃b q c,r=some (b,q)/\e=.returned (.tuple #[])/\cI a X sl q st/\a.heap[Y]?=some (.cells (bP b c) 158 (0,0))/\Lj d w a b c/\q<=len)\/(r=none/\e=PN/\∃f,cI a X sl f st))
theorem dr.nil(w:World)(f:Fr)(h:f.ok)(a:f.ranges=[])(hd:f.data.size<=9223372036854775807):dr w f (.slice none 0 0):=
 ⟨h,hd,none,0,by rw[a];rfl,by rw[a];exact⟨λr a=>by simp at a,rfl,by simp,by simp[maxLen],.inl rfl⟩⟩
theorem cI.mr(h:cI w n x j l)(a:n≠k):cI (w.setCell ⟨k,i,none⟩ y) n x j l:=
 (dy _ _ _ _ a).trans h
theorem sx{a c d e:Value}(h:w.heap[b]?=some (.cells #[x,y,z,a,c,d,e] T (0,0))):∀o,w.frozen? ⟨b,o,none⟩=false:=by
 simp[World.frozen?,h]
theorem Lk(w:World)(X Y g o n cap:Nat)(l:List Int)(p st:Nat)(f:Fr)(h:RC w X Y g o n cap l p st f)(B:Nat)(D:w.cell? ⟨B,0,none⟩=some (.func (.func 230) #[] #[])):
 Calls prog 276 #[.pointer (some ⟨X,0,none⟩),.pointer (some ⟨Y,0,none⟩),.pointer (some ⟨B,0,none⟩)] w (sw false w X Y (.slice (some ⟨g,o,none⟩) n cap) st l.length (lZ l f p)):=by
 obtain⟨i,t,d,xb,yb,xy,hp,hl,j,u,x⟩:=h;have y:=d.1;replace i:=J i;replace d:=J d;replace j:=J j;go_enter func276,ntmps276;go_wp2_with fail;refine(Bg Y w).mono ?_;rintro e z⟨rfl,rfl⟩;obtain⟨w,rfl⟩:=exq z;go_wp2_with fail;refine(tK X g o n cap l p st w (Z i) (Z d) xb hp hl).mono ?_;rintro e E⟨m,⟨v,q,a,rfl,b⟩|⟨a,rfl,b⟩⟩
 ·obtain⟨⟨A,F⟩,G,C⟩:=kH y a;have c:=(m.block Y (aY.1 t).1 (λe=>xy (aO e).symm)).trans t;have H:=(cH c).2.2.1;have I:=sx c;have r:lZ l f p=some ({f with offset:=v},q):=by unfold lZ;rw[a];rfl
  replace r:=J r;replace a:=J a;replace c:=J c;replace b:=J b;go_wp2_with fail;refine eW (et rfl _ _ _) rfl ?_;refine⟨(Gx.of m (λk e=>.inl (aO e).symm)).set _ _ (.inr (.inl rfl)),.inl ⟨_,_,_,Z r,rfl,(Z b).mr xy,(heap_set (Z c) _).trans rfl,⟨dr.nil _ _ ?_ u x,.inl ⟨u,rfl⟩⟩,C⟩⟩
  have s:=Z j;exact⟨s.1,s.2.1,⟨A,by simp;omega⟩,s.2.2.2⟩
 exact⟨rfl,Gx.of m (λk e=>.inl (aO e).symm),.inr ⟨by unfold lZ;rw[a];rfl,rfl,b⟩⟩
theorem Ll(w:World)(X Y i o n cap:Nat)(l:List Int)(p st:Nat)(f:Fr)(h:RC w X Y i o n cap l p st f)(B:Nat)(D:w.cell? ⟨B,0,none⟩=some (.func (.func 231) #[] #[])):
 Calls prog 276 #[.pointer (some ⟨X,0,none⟩),.pointer (some ⟨Y,0,none⟩),.pointer (some ⟨B,0,none⟩)] w (sw false w X Y (.slice (some ⟨i,o,none⟩) n cap) st l.length (ni l f p)):=by
 obtain⟨j,t,d,xb,yb,xy,hp,hl,m,u,x⟩:=h;have y:=d.1;replace j:=J j;replace d:=J d;replace m:=J m;go_enter func276,ntmps276;go_wp2_with fail;refine(Bh Y w).mono ?_;rintro e z⟨rfl,rfl⟩;obtain⟨w,rfl⟩:=exq z;go_wp2_with fail;refine(tK X i o n cap l p st w (Z j) (Z d) xb hp hl).mono ?_;rintro e E⟨r,⟨v,q,a,rfl,b⟩|⟨a,rfl,b⟩⟩
 ·obtain⟨⟨A,F⟩,G,C⟩:=kH y a;have c:=(r.block Y (aY.1 t).1 (λe=>xy (aO e).symm)).trans t;have H:=(cH c).2.2.2.1;have I:=sx c;have s:ni l f p=some ({f with code:=v},q):=by unfold ni;rw[a];rfl
  replace s:=J s;replace a:=J a;replace c:=J c;replace b:=J b;go_wp2_with fail;refine eW (et rfl _ _ _) rfl ?_;refine⟨(Gx.of r (λk e=>.inl (aO e).symm)).set _ _ (.inr (.inl rfl)),.inl ⟨_,_,_,Z s,rfl,(Z b).mr xy,(heap_set (Z c) _).trans rfl,⟨dr.nil _ _ ?_ u x,.inl ⟨u,rfl⟩⟩,C⟩⟩
  have g:=Z m;exact⟨g.1,g.2.1,g.2.2.1,⟨A,by simp;omega⟩,g.2.2.2.2⟩
 exact⟨rfl,Gx.of r (λk e=>.inl (aO e).symm),.inr ⟨by unfold ni;rw[a];rfl,rfl,b⟩⟩
theorem Lm(w:World)(X Y g o n cap:Nat)(l:List Int)(p st:Nat)(f:Fr)(h:RC w X Y g o n cap l p st f):
 Calls prog 267 #[.pointer (some ⟨X,0,none⟩),.pointer (some ⟨Y,0,none⟩)] w (sw false w X Y (.slice (some ⟨g,o,none⟩) n cap) st l.length (l7 l f p)):=by
 obtain⟨i,t,d,xb,yb,xy,hp,hl,j,u,z⟩:=h;have A:=d.1;replace i:=J i;replace d:=J d;replace j:=J j;go_enter func267,ntmps267;go_wp2_with fail;refine(IY X g o n cap l p st w (Z i) (Z d) xb hp hl).mono ?_;rintro e D⟨m,⟨v,q,a,rfl,b⟩|⟨a,rfl,b⟩⟩
 ·have B:0<=v/\v<4/\q<=l.length:=by
   unfold jR at a;cases r:cN l p with
   |none=>rw[r]at a;cases a
   |some x=>
    rw[r]at a;simp only[eV]at a;split at a;cases a;have:=kH (q:=q) (n:=v) A r;unfold dS at this;omega;cases a
  obtain⟨E,F,C⟩:=B;have c:=(m.block Y (aY.1 t).1 (λe=>xy (aO e).symm)).trans t;have G:=(cH c).2.1;have H:=sx c;have s:l7 l f p=some ({f with stream:=v},q):=by unfold l7;rw[a];rfl
  replace s:=J s;replace a:=J a;replace c:=J c;replace b:=J b;go_wp2_with fail;refine eW (et rfl _ _ _) rfl ?_;refine⟨(Gx.of m (λk e=>.inl (aO e).symm)).set _ _ (.inr (.inl rfl)),.inl ⟨_,_,_,Z s,rfl,(Z b).mr xy,(heap_set (Z c) _).trans rfl,⟨dr.nil _ _ ?_ u z,.inl ⟨u,rfl⟩⟩,C⟩⟩
  have y:=Z j;exact⟨y.1,⟨by simp;omega,by simp;omega⟩,y.2.2⟩
 exact⟨rfl,Gx.of m (λk e=>.inl (aO e).symm),.inr ⟨by unfold l7;rw[a];rfl,rfl,b⟩⟩
theorem strOfNums_size(l:List Int):(strOfNums l).size=l.length:=by
 have h:=fm List.length (strOfNums_data l);rw[dA,p7]at h;exact h
theorem C9{l:List Int}(c:∀x∈l,W8 x):∀(k p:Nat)(lo:Int)(a rs:List Rg)(q:Nat),p<=l.length->jC l k p lo a=some (rs,q)->q<=l.length
 |0,p,lo,a,rs,q,hp,h=>by
  simp only[jC,mf,qI]at h;omega
 |k+1,p,lo,a,rs,q,hp,h=>by
  simp only[jC]at h;cases d:cN l p with
  |none=>rw[d]at h;cases h
  |some x=>
   rw[d]at h;simp only[eV]at h;cases b:cN l x.2 with
   |none=>rw[b]at h;cases h
   |some y=>
    rw[b]at h;simp only[eV]at h;split at h;exact C9 c k _ _ _ _ _ (kH (n:=y.1) (q:=y.2) c b).2.2 h;cases h
theorem Ln(b:∀x∈L,W8 x)(h:jD L k=some (X,i)):i<=L.length:=by
 unfold jD at h;cases c:cN L k with
 |none=>rw[c]at h;cases h
 |some x=>
  rw[c]at h;simp only[eV]at h;cases d:cN L x.2 with
  |none=>rw[d]at h;cases h
  |some y=>
   rw[d]at h;simp only[eV]at h;cases a:cN L y.2 with
   |none=>rw[a]at h;cases h
   |some z=>
    rw[a]at h;simp only[eV]at h;split at h;exact C9 b _ _ _ _ _ _ (kH (n:=z.1) (q:=z.2) b a).2.2 h;cases h
theorem Lo(w:World)(X Y b o n cap:Nat)(l:List Int)(p st:Nat)(f:Fr)(h:RC w X Y b o n cap l p st f):
 Calls prog 273 #[.pointer (some ⟨X,0,none⟩),.pointer (some ⟨Y,0,none⟩)] w (sw false w X Y (.slice (some ⟨b,o,none⟩) n cap) st l.length (nj l f p)):=by
 obtain⟨c,A,d,xb,yb,xy,hp,hl,s,B,K⟩:=h;have F:=d.1;have G:Hid (∀W,w.grownBy W (some X)->bF W (some ⟨b,o,none⟩) n cap l):=J (λW g=>d.gb g (λj e=>.inr (.inr (λx c=>by cases c;cases e;exact xb))));replace c:=J c;replace d:=J d;replace s:=J s;go_enter func273,ntmps273;go_wp2_with fail;refine(tK X b o n cap l p st w (Z c) (Z d) xb hp hl).mono ?_;rintro e C⟨r,⟨v,q,a,rfl,t⟩|⟨a,rfl,t⟩⟩;rotate_left
 exact⟨rfl,Gx.of r (λk e=>.inl (aO e).symm),.inr ⟨by unfold nj nH;rw[a];rfl,rfl,t⟩⟩
 obtain⟨⟨L,M⟩,N,H⟩:=kH F a;obtain⟨k,I⟩:∃k:Nat,v=(k:Int):=⟨v.toNat,by omega⟩
 subst I;replace a:=J a;go_wp2_with fail;refine(vH X b o n cap l q st k _ rfl C t (Z G C r) xb H hl (by omega)).mono ?_;rintro e O⟨D,⟨hs,rfl,i⟩|⟨hs,P,c2,rfl,u,i⟩⟩;refine⟨rfl,(Gx.of r (λk e=>.inl (aO e).symm)).trans (Gx.of D (λk e=>.inl (aO e).symm)),.inr ⟨?_,rfl,q,i⟩⟩
 unfold nj nH;rw[Z a];simp only[eV]
 rw[ah (by omega)];rfl;have y:nj l f p=some ({f with data:=strOfNums ((l.drop q).take k)},q+k):=by
  unfold nj nH;rw[Z a];simp only[eV]
  rw[az (by omega)];simp
 have E:=aq r D;have m:=(E.block Y (aY.1 A).1 (λe=>xy (aO e).symm)).trans A;have Q:=(cH m).2.2.2.2.2.1;have R:=sx m;have S:=tj u;have z:(strOfNums ((l.drop q).take k)).size<=9223372036854775807:=by rw[strOfNums_size];simp;omega
 replace y:=J y;replace m:=J m;replace i:=J i;replace u:=J u;replace z:=J z;go_wp2_with fail;refine eW (et rfl _ _ _) rfl ?_;exact⟨(Gx.of E (λk e=>.inl (aO e).symm)).set _ _ (.inr (.inl rfl)),.inl ⟨_,_,_,Z y,rfl,(Z i).mr xy,(heap_set (Z m) _).trans rfl,⟨dr.nil _ _ (Z s) B (Z z),.inl ⟨B,rfl⟩⟩,by omega⟩⟩
theorem Lp(w:World)(X Y j o n cap:Nat)(l:List Int)(p st:Nat)(f:Fr)(h:RC w X Y j o n cap l p st f)(K:Y<w.heap.size):
 Calls prog 270 #[.pointer (some ⟨X,0,none⟩),.pointer (some ⟨Y,0,none⟩)] w (sw true w X Y (.slice (some ⟨j,o,none⟩) n cap) st l.length (pL l f p)):=by
 obtain⟨m,z,d,xb,yb,xy,hp,hl,r,L,F⟩:=h;have G:=d.1;replace m:=J m;replace d:=J d;replace r:=J r;go_enter func270,ntmps270;go_wp2_with fail;refine(Li X j o n cap l p st w (Z m) (Z d) xb hp hl).mono ?_;rintro e M⟨s,⟨rs,q,A,H,c1,a,rfl,t,u,b⟩|⟨a,rfl,b⟩⟩
 ·have I:q<=l.length:=Ln G a;have c:=(s.block Y (aY.1 z).1 (λe=>xy (aO e).symm)).trans z;have N:=(cH c).2.2.2.2.2.2;have O:=sx c;have v:pL l f p=some ({f with ranges:=rs},q):=by unfold pL;rw[a];rfl
  replace v:=J v;replace a:=J a;replace c:=J c;replace b:=J b;replace t:=J t;go_wp2_with fail;refine eW (et rfl _ _ _) rfl ?_;have g:=Z r;have i:=Z t;have y:H=rs.length:=i.2.1;refine⟨(Gx.of s (λk e=>.inl (aO e).symm)).set _ _ (.inr (.inl rfl)),.inl ⟨_,_,_,Z v,rfl,(Z b).mr xy,(heap_set (Z c) _).trans rfl,⟨⟨⟨g.1,g.2.1,g.2.2.1,g.2.2.2.1,i.1⟩,F,A,c1,by rw[y],?_⟩,?_⟩,I⟩⟩
  rw[<-y];obtain⟨B,C,k3,k4,k5⟩:=i;refine⟨B,C,k3,k4,?_⟩
  obtain k5|⟨D,E,rfl,k5⟩:=k5
  exact .inl k5;exact .inr ⟨D,E,rfl,uR k5 _ _ (by have:=u _ rfl;simp at this⊢;omega)⟩;obtain⟨B,C,k3,k4,k5|⟨D,E,rfl,k5⟩⟩:=i;obtain _|x:=A
  left;have:rs=[]:=iF (by omega);subst this;refine⟨rfl,?_⟩
  rw[y,k5];rfl;exact .inr ⟨rfl,_,_,_,rfl,u _ rfl⟩;exact .inr ⟨rfl,_,_,_,rfl,u _ rfl⟩
 exact⟨rfl,Gx.of s (λk e=>.inl (aO e).symm),.inr ⟨by unfold pL;rw[a];rfl,rfl,b⟩⟩
abbrev yH:=Fr->Nat->Option (Fr×Nat)
def qx:List yH->Fr->Nat->Option (Fr×Nat)
 |[],f,p=>some (f,p)
 |s::r,f,p=>(s f p).bind λx=>qx r x.1 x.2
def dU(l:List Int)(j:Nat):List yH:=
 if j=2 then[pL l]else if j=3 then[l7 l,ni l,lZ l]else if j=4\/j=5 then[l7 l,lZ l,nj l]else if j=6 then[ni l]else[]
theorem Ls(l:List Int)(a b c d e:Nat)(p:Nat)(f:j<7):fD l (bE (bX a b c d e) j).t p=qx (dU l j) (cu (bE (bX a b c d e) j).k (bE (bX a b c d e) j).fin) p:=by
 obtain rfl|rfl|rfl|rfl|rfl|rfl|rfl:=qo f
 simp[fD,bE,bX,dU,qx];simp[fD,bE,bX,dU,qx];show fD l 2 p=(pL l (cu 3 false) p).bind λx=>some (x.1,x.2)
 unfold fD pL;rw[ah (by decide),ah (by decide),az rfl];cases jD l p<;>rfl;show fD l 4 p=(l7 l (cu 4 false) p).bind λx=>(ni l x.1 x.2).bind λx=>(lZ l x.1 x.2).bind λx=>some (x.1,x.2)
 unfold fD l7 ni lZ;rw[ah (by decide),ah (by decide),ah (by decide),az rfl];cases jR l p with
 |none=>rfl
 |some x=>
  simp only[eV]
  cases cN l x.2 with
  |none=>rfl
  |some y=>
   simp only[eV]
   cases cN l y.2<;>rfl
 show fD l 8 p=(l7 l (cu 5 false) p).bind λx=>(lZ l x.1 x.2).bind λx=>(nj l x.1 x.2).bind λx=>some (x.1,x.2)
 unfold fD l7 lZ nj;rw[ah (by decide),ah (by decide),ah (by decide),ah (by decide),az (by decide)];cases jR l p with
 |none=>rfl
 |some x=>
  simp only[eV]
  cases cN l x.2 with
  |none=>rfl
  |some y=>
   simp only[eV]
   cases nH l y.2<;>rfl
 show fD l 9 p=(l7 l (cu 5 true) p).bind λx=>(lZ l x.1 x.2).bind λx=>(nj l x.1 x.2).bind λx=>some (x.1,x.2)
 unfold fD l7 lZ nj;rw[ah (by decide),ah (by decide),ah (by decide),ah (by decide),az (by decide)];cases jR l p with
 |none=>rfl
 |some x=>
  simp only[eV]
  cases cN l x.2 with
  |none=>rfl
  |some y=>
   simp only[eV]
   cases nH l y.2<;>rfl
 show fD l 28 p=(ni l (cu 6 false) p).bind λx=>some (x.1,x.2)
 unfold fD ni;rw[ah (by decide),ah (by decide),ah (by decide),ah (by decide),ah (by decide),az rfl];cases cN l p<;>rfl
theorem Lt(l:List Int)(p:Nat)(h:∀j,j<7->¬(bE (bX n k i m o) j).t=t):fD l t p=none:=by
 have h0:=h 0 (by omega);have a:=h 1 (by omega);have b:=h 2 (by omega);have c:=h 3 (by omega);have d:=h 4 (by omega);have f:=h 5 (by omega);have g:=h 6 (by omega);simp only[bE,bX,xj,List.getD_cons_succ]at h0 a b c d f g;unfold fD;rw[ah (λe=>h0 e.symm),ah (λe=>a e.symm),ah (λe=>b e.symm),ah (λe=>c e.symm),ah (λe=>e.elim (λe=>d e.symm) (λe=>f e.symm)),ah (λe=>g e.symm)]
theorem Lu{b:Fr}(c:j<7)(hi:i<(dU L j).length)(h:(dU L j)[i] G n=some (b,k)):b.kind=G.kind:=by
 have a:∀{α:Type}(o:Option (α×Nat))(g:α×Nat->Fr×Nat),(∀x,(g x).1.kind=G.kind)->(o.bind λx=>some (g x))=some (b,k)->b.kind=G.kind:=by
  intro α o g d e;cases o with
  |none=>cases e
  |some x=>simp only[eV,mf]at e;have:=d x;rw[e]at this;exact this
 obtain rfl|rfl|rfl|rfl|rfl|rfl|rfl:=qo c
 simp[dU]at hi;simp[dU]at hi;have e:i=0:=by simp[dU]at hi;omega
 subst e;exact a _ _ (λ_=>rfl) h;have e:i=0\/i=1\/i=2:=by simp[dU]at hi;omega
 obtain rfl|rfl|rfl:=e<;>exact a _ _ (λ_=>rfl) h
 have e:i=0\/i=1\/i=2:=by simp[dU]at hi;omega
 obtain rfl|rfl|rfl:=e<;>exact a _ _ (λ_=>rfl) h
 have e:i=0\/i=1\/i=2:=by simp[dU]at hi;omega
 obtain rfl|rfl|rfl:=e<;>exact a _ _ (λ_=>rfl) h
 have e:i=0:=by simp[dU]at hi;omega
 subst e;exact a _ _ (λ_=>rfl) h
theorem jF.ne{s:Nat}(h:jF W k i j l m o b s){X:Nat}{c:Nat}(d:W.cell? ⟨X,0,none⟩=some (.slice a n c)):k≠X/\i≠X/\j≠X/\l≠X/\m≠X/\o≠X/\b≠X/\s≠X:=by
 have e:=h.tab 0 _ rfl;have f:=h.p2 0 _ rfl;have g:=h.p3 0 _ rfl;have p:=h.p4 0 _ rfl;have q:=h.p5 0 _ rfl;have r:=h.p6 0 _ rfl;have t:=h.bo;have u:=h.bc;rw[dR]at e f g p q r;refine⟨?_,?_,?_,?_,?_,?_,?_,?_⟩
 rintro rfl;rw[d]at e;cases e;rintro rfl;rw[d]at f;cases f;rintro rfl;rw[d]at g;cases g;rintro rfl;rw[d]at p;cases p;rintro rfl;rw[d]at q;cases q;rintro rfl;rw[d]at r;cases r;rintro rfl;rw[d]at t;cases t;rintro rfl;rw[d]at u;cases u
theorem sy{cs:List Value}(h:w.rangeAt b o cs)(g:Gx w W n k)(a:b≠n)(c:b≠k):W.rangeAt b o cs:=λj v d=>g.cell (h j v d) a c
theorem jF.gx{a c:Nat}(h:jF w i j l m o b a c)(g:Gx w W n k)(d:i≠n/\j≠n/\l≠n/\m≠n/\o≠n/\b≠n/\a≠n/\c≠n)(hY:i≠k/\j≠k/\l≠k/\m≠k/\o≠k/\b≠k/\a≠k/\c≠k):jF W i j l m o b a c:=by
 obtain⟨e,f,p,q,r,s,t,x8⟩:=d;obtain⟨u,v,x,y,z,A,B,C⟩:=hY;exact⟨sy h.tab g e u,sy h.p2 g f v,sy h.p3 g p x,sy h.p4 g q y,sy h.p5 g r z,sy h.p6 g s A,g.cell h.bo t B,g.cell h.bc x8 C⟩
theorem jF.lt(h:jF W n k i j l m o b){Y:Nat}(hY:W.heap.size<=Y):n≠Y/\k≠Y/\i≠Y/\j≠Y/\l≠Y/\m≠Y/\o≠Y/\b≠Y:=by
 have a:=ep W _ (h.tab 0 _ rfl);have c:=ep W _ (h.p2 0 _ rfl);have d:=ep W _ (h.p3 0 _ rfl);have e:=ep W _ (h.p4 0 _ rfl);have f:=ep W _ (h.p5 0 _ rfl);have g:=ep W _ (h.p6 0 _ rfl);have p:=ep W _ h.bo;have q:=ep W _ h.bc;simp only at a c d e f g p q;omega
def Rd(c:World)(X Y a o n cap:Nat)(l:List Int)(st:Nat)(d:Bool)(e:Value)(s:yH):Prop:=
 ∃R b,e=.func (.func R) #[] b/\(∀args w,(callFunc R args).run prog w=.ok (.enter R args) w)/\∀(w:World)(p:Nat)(f:Fr),Gx c w X Y->RC w X Y a o n cap l p st f->
  Calls prog R (#[.pointer (some ⟨X,0,none⟩),.pointer (some ⟨Y,0,none⟩)]++b) w (sw d w X Y (.slice (some ⟨a,o,none⟩) n cap) st l.length (s f p))
theorem Da(args:Array Value)(w:World):(callFunc 276 args).run prog w=.ok (.enter 276 args) w:=by kernel_rfl
theorem Lv(args:Array Value)(w:World):(callFunc 267 args).run prog w=.ok (.enter 267 args) w:=by kernel_rfl
theorem Lw(args:Array Value)(w:World):(callFunc 273 args).run prog w=.ok (.enter 273 args) w:=by kernel_rfl
theorem Lx(args:Array Value)(w:World):(callFunc 270 args).run prog w=.ok (.enter 270 args) w:=by kernel_rfl
theorem Ly{t:Nat}(h:jF W k m b n i l o t)(X Y d q s cap:Nat)(a:List Int)(st:Nat)(z:k≠X/\m≠X/\b≠X/\n≠X/\i≠X/\l≠X/\o≠X/\t≠X)(hY:k≠Y/\m≠Y/\b≠Y/\n≠Y/\i≠Y/\l≠Y/\o≠Y/\t≠Y)(A:Y<W.heap.size)(B:j<7):
 (bE (bX m b n i l) j).n=(dU a j).length/\(dU a j).length<=3/\((dU a j).length=0\/∃P,(bE (bX m b n i l) j).pa=some ⟨P,0,none⟩/\P≠X/\P≠Y/\∀c(hi:c<(dU a j).length),∃C wc rd,W.cell? ⟨P,c*2,none⟩=some (.func (.func C) #[] wc)/\W.cell? ⟨P,c*2+1,none⟩=some rd/\Rd W X Y d q s cap a st (decide (j=2)) rd (dU a j)[c]):=by
 obtain⟨-,D,E,F,G,H,I,x8⟩:=z;obtain⟨-,K,L,M,N,O,Q,R⟩:=hY;have u:Rd W X Y d q s cap a st false (nR o) (lZ a):=⟨_,_,rfl,Da,λw p f g r=>Lk w X Y d q s cap a p st f r o (g.cell h.bo I Q)⟩
 have x:Rd W X Y d q s cap a st false (nR t) (ni a):=⟨_,_,rfl,Da,λw p f g r=>Ll w X Y d q s cap a p st f r t (g.cell h.bc x8 R)⟩
 have v:Rd W X Y d q s cap a st false sR (l7 a):=⟨_,_,rfl,Lv,λw p f _ r=>Lm w X Y d q s cap a p st f r⟩
 have y:Rd W X Y d q s cap a st false bR (nj a):=⟨_,_,rfl,Lw,λw p f _ r=>Lo w X Y d q s cap a p st f r⟩
 have S:Rd W X Y d q s cap a st true rR (pL a):=⟨_,_,rfl,Lx,λw p f g r=>Lp w X Y d q s cap a p st f r (bY A g.size)⟩
 obtain rfl|rfl|rfl|rfl|rfl|rfl|rfl:=qo B
 exact⟨rfl,by simp[dU],.inl rfl⟩
 exact⟨rfl,by simp[dU],.inl rfl⟩
 refine⟨rfl,by simp[dU],.inr ⟨m,rfl,D,K,λc hi=>?_⟩⟩
 have e:c=0:=by simp[dU]at hi;omega
 subst e;exact⟨_,_,rR,h.p2 0 _ rfl,h.p2 1 _ rfl,S⟩
 refine⟨rfl,by simp[dU],.inr ⟨b,rfl,E,L,λc hi=>?_⟩⟩
 have e:c=0\/c=1\/c=2:=by simp[dU]at hi;omega
 obtain rfl|rfl|rfl:=e
 exact⟨_,_,sR,h.p3 0 _ rfl,h.p3 1 _ rfl,v⟩
 exact⟨_,_,nR t,h.p3 2 _ rfl,h.p3 3 _ rfl,x⟩
 exact⟨_,_,nR o,h.p3 4 _ rfl,h.p3 5 _ rfl,u⟩
 refine⟨rfl,by simp[dU],.inr ⟨n,rfl,F,M,λc hi=>?_⟩⟩
 have e:c=0\/c=1\/c=2:=by simp[dU]at hi;omega
 obtain rfl|rfl|rfl:=e
 exact⟨_,_,sR,h.p4 0 _ rfl,h.p4 1 _ rfl,v⟩
 exact⟨_,_,nR o,h.p4 2 _ rfl,h.p4 3 _ rfl,u⟩
 exact⟨_,_,bR,h.p4 4 _ rfl,h.p4 5 _ rfl,y⟩
 refine⟨rfl,by simp[dU],.inr ⟨i,rfl,G,N,λc hi=>?_⟩⟩
 have e:c=0\/c=1\/c=2:=by simp[dU]at hi;omega
 obtain rfl|rfl|rfl:=e
 exact⟨_,_,sR,h.p5 0 _ rfl,h.p5 1 _ rfl,v⟩
 exact⟨_,_,nR o,h.p5 2 _ rfl,h.p5 3 _ rfl,u⟩
 exact⟨_,_,bR,h.p5 4 _ rfl,h.p5 5 _ rfl,y⟩
 refine⟨rfl,by simp[dU],.inr ⟨l,rfl,H,O,λc hi=>?_⟩⟩
 have e:c=0:=by simp[dU]at hi;omega
 subst e;exact⟨_,_,nR t,h.p6 0 _ rfl,h.p6 1 _ rfl,x⟩
theorem pM{x:Int×Nat}(h:cN L n=some x):n<x.2:=by
 unfold cN at h;split at h;cases h;have:=tp (L.getD n 0);simp only;omega;cases h
theorem Db{l:List Int}:∀(k p:Nat)(lo:Int)(a rs:List Rg)(q:Nat),jC l k p lo a=some (rs,q)->p<=q
 |0,p,lo,a,rs,q,h=>by
  simp only[jC,mf,qI]at h;omega
 |k+1,p,lo,a,rs,q,h=>by
  simp only[jC]at h;cases b:cN l p with
  |none=>rw[b]at h;cases h
  |some x=>
   rw[b]at h;simp only[eV]at h;have m1:=pM b;cases c:cN l x.2 with
   |none=>rw[c]at h;cases h
   |some y=>
    rw[c]at h;simp only[eV]at h;have d:=pM c;split at h;have:=Db k _ _ _ _ _ h;omega;cases h
theorem LA{x:List Rg×Nat}(h:jD L n=some x):n<=x.2:=by
 unfold jD at h;cases a:cN L n with
 |none=>rw[a]at h;cases h
 |some d=>
  rw[a]at h;simp only[eV]at h;have m1:=pM a;cases b:cN L d.2 with
  |none=>rw[b]at h;cases h
  |some y=>
   rw[b]at h;simp only[eV]at h;have e:=pM b;cases c:cN L y.2 with
   |none=>rw[c]at h;cases h
   |some z=>
    rw[c]at h;simp only[eV]at h;have f:=pM c;split at h;have:=Db _ _ _ _ x.1 x.2 h;omega;cases h
theorem LC{x:Int×Nat}(h:jR L n=some x):n<=x.2:=by
 unfold jR at h;cases a:cN L n with
 |none=>rw[a]at h;cases h
 |some y=>
  rw[a]at h;simp only[eV]at h;have:=pM a;split at h;cases h;omega;cases h
theorem LD{x:ByteArray×Nat}(h:nH L n=some x):n<=x.2:=by
 unfold nH at h;cases a:cN L n with
 |none=>rw[a]at h;cases h
 |some y=>
  rw[a]at h;simp only[eV]at h;have:=pM a;split at h;cases h;simp only;omega;cases h
theorem bind_mono{α:Type}{o:Option (α×Nat)}{g:α×Nat->Fr}(ho:∀x,o=some x->n<=x.2)(h:(o.bind λx=>some (g x,x.2))=some (G,k)):n<=k:=by
 cases o with
 |none=>cases h
 |some x=>simp only[eV,mf,qI]at h;have:=ho x rfl;omega
theorem LF(i:j<7):∀s∈dU L j,∀(f:Fr)(p:Nat)(a:Fr)(q:Nat),s f p=some (a,q)->p<=q:=by
 have c:∀(f:Fr)(p:Nat)(a:Fr)(q:Nat),lZ L f p=some (a,q)->p<=q:=λf p a q h=>bind_mono (λx b=>Nat.le_of_lt (pM b)) h
 have e:∀(f:Fr)(p:Nat)(a:Fr)(q:Nat),ni L f p=some (a,q)->p<=q:=λf p a q h=>bind_mono (λx b=>Nat.le_of_lt (pM b)) h
 have d:∀(f:Fr)(p:Nat)(a:Fr)(q:Nat),l7 L f p=some (a,q)->p<=q:=λf p a q h=>bind_mono (λx b=>LC b) h
 have g:∀(f:Fr)(p:Nat)(a:Fr)(q:Nat),nj L f p=some (a,q)->p<=q:=λf p a q h=>bind_mono (λx b=>LD b) h
 have k:∀(f:Fr)(p:Nat)(a:Fr)(q:Nat),pL L f p=some (a,q)->p<=q:=λf p a q h=>bind_mono (λx b=>LA b) h
 intro s hs;obtain rfl|rfl|rfl|rfl|rfl|rfl|rfl:=qo i<;>simp[dU]at hs
 subst hs;exact k;obtain rfl|rfl|rfl:=hs
 exact d;exact e;exact c;obtain rfl|rfl|rfl:=hs
 exact d;exact c;exact g;obtain rfl|rfl|rfl:=hs
 exact d;exact c;exact g;subst hs;exact e
def FA(w:World)(X:Nat)(sl:Value)(p len:Nat)(r:Option (Fr×Nat))(e:Ending)(a:World):Prop:=
 w.grownBy a (some X)/\((∃f q b,r=some (f,q)/\e=.returned (.agg (bP f b))/\dr a f b/\(b=.slice none 0 0\/∃x n c,b=.slice (some x) n c/\w.heap.size<=x.block)/\cI a X sl q p/\p<q/\q<=len)\/(r=none/\e=PN/\∃d,cI a X sl d p))
theorem dr.set{w:World}(h:dr w G (.slice a n k))(i:Nat)(v:Value)(c:∀x,a=some x->x.block≠j):dr (w.setCell ⟨j,i,none⟩ v) G (.slice a n k):=by
 obtain⟨d,f,ra,cap,b,g⟩:=h;refine⟨d,f,ra,cap,b,?_⟩
 cases b;obtain⟨l,m,k3,k4,k5⟩:=g;refine⟨l,m,k3,k4,?_⟩
 obtain k5|⟨p,q,rfl,k5⟩:=k5
 exact .inl k5;exact .inr ⟨p,q,rfl,uR k5 _ _ (λe=>c _ rfl e.symm)⟩
theorem Dc(w:World)(X T B D E F G Bo Bc a o n cap:Nat)(l:List Int)(p st:Nat)(hT:jF w T B D E F G Bo Bc)(hX:cI w X (.slice (some ⟨a,o,none⟩) n cap) p st)(aa:bF w (some ⟨a,o,none⟩) n cap l)(xb:a≠X)(hp:p<l.length)(hl:l.length<=100000000):
 Calls prog 190 #[.pointer (some ⟨X,0,none⟩),.slice (some ⟨T,0,none⟩) 7 7] w (FA w X (.slice (some ⟨a,o,none⟩) n cap) p l.length (mU l p)):=by
 have e5:=hX.lt;have h8:=aa.1;obtain⟨x0,V,x2,xf⟩:=tI hX;have bM:=hT.ne x0;have gg:a<w.heap.size:=by
  obtain⟨b1,o1,e1,h1⟩:=tJ aa (by have:=aa.2.1;omega);cases e1;exact ep w _ (h1 0 (by have:=aa.2.1;omega))
 go_enter func190,ntmps190;go_wp2_with fail;obtain⟨W1,M⟩:∃W,W=(w.setCell ⟨X,2,none⟩ (.int .i64 (p:Int))).alloc (.cells #[.int .i64 0,.int .i64 0,.int .u64 0,.int .u64 0,.bool false,.string {data:= #[]},.slice none 0 0] 158):=⟨_,rfl⟩
 have ds:cI W1 X (.slice (some ⟨a,o,none⟩) n cap) p p:=by
  rw[M];unfold cI at hX⊢;rw[fj _ _ _ (by simpa [World.setCell]using e5),heap_set hX];rfl
 have g1:w.grownBy W1 (some X):=by rw[M];exact ba (aI (aB _ _) _ _ (.inr rfl)) _
 have du:W1.heap[w.heap.size]?=some (.cells #[.int .i64 0,.int .i64 0,.int .u64 0,.int .u64 0,.bool false,.string {data:= #[]},.slice none 0 0] 158 (0,0)):=by
  have:=aM (w.setCell ⟨X,2,none⟩ (.int .i64 (p:Int))) (.cells #[.int .i64 0,.int .i64 0,.int .u64 0,.int .u64 0,.bool false,.string {data:= #[]},.slice none 0 0] 158);rw[M];simpa [World.setCell]using this
 have gh:W1.heap.size=w.heap.size+1:=by rw[M];simp[World.setCell]
 have a9:∀W,w.grownBy W (some X)->bF W (some ⟨a,o,none⟩) n cap l:=λW g=>aa.gb g (λj e=>.inr (.inr (λx H=>by cases H;cases e;exact xb)))
 rw[<-M];replace M:=J M;clear x0 V x2 xf hX;refine(vH X a o n cap l p p 1 1 rfl W1 ds (a9 W1 g1) xb (by omega) hl (by omega)).mono ?_;rintro e w2⟨g2,⟨hs,rfl,b0⟩|⟨hs,a2,c2,rfl,b3,b0⟩⟩;omega;obtain⟨b2,o2,rfl,dx⟩:=tJ b3 (by omega);have V:=dx 0 (by omega);rw[yj _ _ _ _ (by omega),ou,ou]at V;obtain⟨t,ht⟩:=exq (l.getD p 0);rw[<-ht]at V;have a3:mU l p=(fD l t (p+1)).bind λx=>by classical exact if cU x.1 then some x else none:=by rw[ht];rfl
 replace ht:=J ht;replace a3:=J a3;replace b3:=J b3;have b4:=aq g1 g2;have dE:=hT.gx (Gx.of (Y:=X) b4 (λk e=>.inl (aO e).symm)) bM bM;clear dx;go_wp2_with fail;refine(Lr w2 T B D E F G Bo Bc dE t).mono ?_;rintro e w3⟨⟨j,hj,bb,rfl⟩|⟨dG,rfl⟩,N⟩;rotate_left
 ·have O:mU l p=none:=by rw[Z a3,Lt l (p+1) dG];rfl
  replace O:=J O;have e6:=J (b0.gb N (by simp));clear dG V;go_wp2_with (go_at_call 188;refine(rY X _).mono ?_;rintro e w'⟨rfl,rfl⟩);exact⟨rfl,cF b4 (ba N _) (λk e=>by cases e),.inr ⟨Z O,rfl,_,(Z e6).gb (aH _ _ none) (by simp)⟩⟩
 have a4:=Ls l B D E F G (p+1) hj;rw[bb]at a4;have bj:=λ(W:World)(e7:jF W T B D E F G Bo Bc)(Y:Nat)(hY:T≠Y/\B≠Y/\D≠Y/\E≠Y/\F≠Y/\G≠Y/\Bo≠Y/\Bc≠Y)(e8:Y<W.heap.size)=>Ly e7 X Y a o n cap l p bM hY e8 hj
 have ea:1<=(bE (bX B D E F G) j).k/\(bE (bX B D E F G) j).k<=6:=by
  obtain rfl|rfl|rfl|rfl|rfl|rfl|rfl:=qo hj<;>simp[bE,bX]
 have ee:=dE.ao N;have b5:=LF (L:=l) hj;have b6:=λ(i:Nat)(hi:i<(dU l j).length)(f f':Fr)(p q:Nat)=>Lu (L:=l) (G:=f) (b:=f') (n:=p) (k:=q) hj hi
 have b7:j=2->(dU l j).length=1:=λe=>by rw[e];rfl
 generalize bE (bX B D E F G) j=S at *;obtain⟨K,FN,TT,PA,b⟩:=S;simp only at a4 bj ea bb;obtain⟨Y,al⟩:=exq (w3.heap.size+1);have e9:=ee.lt (Y:=Y) (by omega);obtain⟨Q,ax⟩:∃W,W=(w3.alloc (.cells #[.int .i64 K,.bool FN,.int .u8 TT,.slice PA b b] 317)).alloc (.cells #[.int .i64 K,.int .i64 0,.int .u64 0,.int .u64 0,.bool FN,.string {data:= #[]},.slice none 0 0] 158):=⟨_,rfl⟩
 have g5:w3.grownBy Q none:=by rw[ax];exact ba (aH _ _ _) _
 have gi:Q.heap.size=w3.heap.size+2:=by rw[ax];simp
 have b8:Q.heap[Y]?=some (.cells (bP (cu K FN) (.slice none 0 0)) 158 (0,0)):=by
  rw[ax,al,<-dQ w3 (.cells #[.int .i64 K,.bool FN,.int .u8 TT,.slice PA b b] 317)];exact aM _ _
 have fa:=ee.ao g5;obtain⟨m,gj,ca⟩:=bj Q fa Y e9 (by omega);have eg:w.grownBy Q (some X):=cF b4 (aq N g5) (λk e=>by cases e);have ch:=b0.gb (aq N g5) (by simp);have cj:Q.heap[w.heap.size]?=some (.cells #[.int .i64 0,.int .i64 0,.int .u64 0,.int .u64 0,.bool false,.string {data:= #[]},.slice none 0 0] 158 (0,0)):=by
  have e1:=(cF g2 (aq N g5) (λk e=>by cases e)).block w.heap.size (by omega) (λe=>by have:=aO e;omega);exact e1.trans du
 have gn:=N.size;have gq:=g2.size;replace bj:=J bj;replace b8:=J b8;replace cj:=J cj;replace a4:=J a4;replace ca:=J ca;replace b5:=J b5;replace b6:=J b6;replace b7:=J b7;replace ch:=J ch;replace a9:=J a9;clear V du ds;have gr:b<=3:=by omega
 replace bb:=J bb;replace m:=J m;replace al:=J al;go_wp2_with fail;rw[<-ax];simp only[<-Z al]
 replace ax:=J ax;have ei:=J Bv;have ej:w.heap.size<=Y:=by have:=Z al;omega
 go_loopw [38] (λi wr=>∃(k q:Nat)(f:Fr)(I:Value),k<=b/\i=.int .i64 (k:Int)/\fD l t (p+1)=qx ((dU l j).drop k) f q/\cI wr X (.slice (some ⟨a,o,none⟩) n cap) q p/\wr.heap[Y]?=some (.cells (bP f I) 158 (0,0))/\dr wr f I/\(I=.slice none 0 0\/∃x n c,I=.slice (some x) n c/\w.heap.size<x.block)/\(k<b->f.ranges=[]/\I=.slice none 0 0)/\Gx Q wr X Y/\p+1<=q/\q<=l.length/\f.kind=K) (λi _=>b-(intOf i).toNat);case atStart=>exact⟨0,p+1,cu K FN,_,by omega,rfl,Z a4,Z ch,Z b8,dr.nil _ _ ⟨⟨by simp[cu];omega,by simp[cu];omega⟩,⟨by simp[cu],by simp[cu]⟩,⟨by simp[cu],by simp[cu]⟩,⟨by simp[cu],by simp[cu]⟩,λr hr=>by simp[cu]at hr⟩ rfl (by simp[cu]),.inl rfl,λ_=>⟨rfl,rfl⟩,Gx.refl _ _ _,by omega,by omega,rfl⟩
 case round=>
  obtain⟨k,q,f,I,hk,rfl,z,ek,u,L,cp,cv,gk,gu,eo,aC⟩:=hrel;have cw:w.grownBy wr (some X):=((Gx.of (Y:=Y) eg (λk e=>.inl (aO e).symm)).trans gk).gb ej;by_cases fb:k<b
  ·obtain⟨cx,rfl⟩:=cv fb;obtain h0|⟨P,ff,ew,ey,ez⟩:=Z ca
   have:=Z m;omega;obtain⟨wf,wc,rd,y1,y2,R,eK,rfl,hE,eL⟩:=ez k (by have:=Z m;omega);subst ff;replace y1:=gk.cell y1 ew ey;replace y2:=gk.cell y2 ew ey;have a8:=aH wr (.cells #[.func (.func wf) #[] wc,.func (.func R) #[] eK] 356) none;have fo:Y<wr.heap.size:=(aY.1 u).1;have cy:RC (wr.alloc (.cells #[.func (.func wf) #[] wc,.func (.func R) #[] eK] 356)) X Y a o n cap l q p f:=
    ⟨ek.gb a8 (by simp),(fj _ _ _ fo).trans u,Z a9 _ (cF cw a8 (λk e=>by cases e)),xb,by omega,by omega,eo,hl,L.1,cx,L.2.1⟩
   have hC:=eL _ q f (gk.trans (Gx.of a8 (λk e=>by cases e))) cy;have fq:(dU l j)[k]'(by have:=Z m;omega)∈dU l j:=sU _;have cC:(dU l j).drop k=(dU l j)[k]'(by have:=Z m;omega)::(dU l j).drop (k+1):=zG _;rw[cC]at z;have c9:=Z b5 _ fq f q;have db:=Z b6 k (by have:=Z m;omega) f;generalize (dU l j)[k]'(by have:=Z m;omega)=s at *;have i1:(0:Int)<=(k:Int):=by omega
   have i2:(k:Int)<(b:Int):=by omega
   have gw:=J gk.size;replace z:=J z;replace u:=J u;replace L:=J L;replace hC:=J hC;replace cy:=J cy;replace c9:=J c9;replace db:=J db;replace aC:=J aC;replace cx:=J cx;replace cC:=J cC;clear ez cv eL;go_wp2_with fail;refine(Z hC).mono ?_;rintro e w6⟨g6,⟨f',q',fs,hs,rfl,de,fy,⟨fA,eS⟩,ga⟩|⟨hs,rfl,de⟩⟩
   ·replace hs:=J hs;go_wp2_with fail;go_roundw;case rel=>
     refine⟨k+1,q',f',fs,by omega,by simp,?_,de,fy,fA,?_,?_,(gk.trans (Gx.of a8 (λk e=>by cases e))).trans g6,?_,ga,?_⟩
     rw[Z z];simp only[qx,Z hs,eV]
     obtain⟨-,h⟩|⟨-,x,n,c,h,H⟩:=eS
     exact .inl h;exact .inr ⟨x,n,c,h,by have:=cw.size;simp at H;omega⟩;intro gA;obtain h|⟨h,-⟩:=eS
     exact h;have:=Z b7 (by simpa using h);have:=Z m;omega;have:=Z c9 f' q' (Z hs);omega;rw[Z db f' q q' (Z hs)];exact Z aC
    case measure=>simp[intOf];omega
   refine⟨rfl,?_,.inr ⟨?_,rfl,de⟩⟩
   exact(((Gx.of (Y:=Y) eg (λk e=>.inl (aO e).symm)).trans (gk.trans (Gx.of a8 (λk e=>by cases e)))).trans g6).gb ej;rw[Z a3,Z z];simp only[qx,hs];rfl
  obtain rfl:k=b:=by omega
  rw[qE (by have:=Z m;omega)]at z;have a0:=Z a3;rw[z]at a0;simp only[qx,eV]at a0;have br:=Ao f I wr L;obtain⟨A,NN,C,rfl⟩:∃A NN C,I=.slice A NN C:=by
   obtain h|⟨x,n,c,h,-⟩:=cp
   exact⟨_,_,_,h⟩
   exact⟨_,_,_,h⟩
  have bt:wr.heap[w.heap.size]?=some (.cells #[.int .i64 0,.int .i64 0,.int .u64 0,.int .u64 0,.bool false,.string {data:= #[]},.slice none 0 0] 158 (0,0)):=(gk.block w.heap.size (by omega) (by omega) (by have:=Z al;omega)).trans (Z cj);have bx:cU f↔oX f/\qh f:=⟨λh=>⟨h.1,h.2.1⟩,λh=>⟨h.1,h.2,by rw[aC];exact ea⟩⟩
  have gd:Y<wr.heap.size:=(aY.1 u).1;have gf:w.heap.size<wr.heap.size:=(aY.1 bt).1;obtain⟨kd,sm,of,cd,fin,d,rg⟩:=f;simp only[bP]at u br;replace z:=J z;replace a0:=J a0;replace br:=J br;replace bt:=J bt;replace bx:=J bx;replace u:=J u;replace L:=J L;replace aC:=J aC;clear cv;go_wp2_with (refine oS (by rfl) 158 _ (by rfl) Y (by rfl) 158 _ (0,0) _ (Z u) underlying158 (by rfl) (Z ei) ?_);refine(Z br).mono ?_;rintro e w7⟨⟨bo,rfl,a1⟩,g7⟩;have e3:=ek.gb g7 (by simp);have e4:w.grownBy w7 (some X):=cF cw g7 (λk e=>by cases e);cases bo
  ·have O:mU l p=none:=by
    rw[Z a0];exact ah (λh=>by have:=a1.2 ((Z bx).1 h);cases this)
   replace O:=J O;replace a1:=J a1;go_wp2_with (go_at_call 188;refine(rY X _).mono ?_;rintro e w'⟨rfl,rfl⟩);exact⟨rfl,e4,.inr ⟨Z O,rfl,q,e3⟩⟩
  have dg:mU l p=some (⟨kd,sm,of,cd,fin,d,rg⟩,q):=by
   rw[Z a0];exact az ((Z bx).2 (a1.1 rfl))
  have dk:=(g7.block Y gd (by simp)).trans (Z u);have bz:=(g7.block w.heap.size gf (by simp)).trans (Z bt);obtain⟨r0,r1,r2,r3,r4,r5,r6⟩:=cH bz;have rf:=sx bz;have dn:=(Z L).ao g7;replace dg:=J dg;replace a1:=J a1;replace dk:=J dk;replace bz:=J bz;replace dn:=J dn;go_wp2_with (refine oS (by rfl) 158 _ (by rfl) Y (by rfl) 158 _ (0,0) _ (Z dk) underlying158 (by rfl) (Z ei) ?_);refine cA (v:=.agg #[.int .i64 kd,.int .i64 sm,.int .u64 of,.int .u64 cd,.bool fin,.string d,.slice A NN C]) ?_ rfl ?_
  ·simp[results,results190,go_sem,r0,r1,r2,r3,r4,r5,r6]
  have U:∀x,A=some x->x.block≠w.heap.size:=λx H=>by
   obtain h|⟨y,n,c,h,hy⟩:=cp
   cases h;cases H;cases h;cases H;omega
  exact⟨aI (aI (aI (aI (aI (aI (aI e4 _ _ (.inl (aP _))) _ _ (.inl (aP _))) _ _ (.inl (aP _))) _ _ (.inl (aP _))) _ _ (.inl (aP _))) _ _ (.inl (aP _))) _ _ (.inl (aP _)),.inl ⟨_,q,_,Z dg,rfl,dr.set (dr.set (dr.set (dr.set (dr.set (dr.set (dr.set (Z dn) _ _ U) _ _ U) _ _ U) _ _ U) _ _ U) _ _ U) _ _ U,cp.imp id (λ⟨x,n,c,h,H⟩=>⟨x,n,c,h,Nat.le_of_lt H⟩),cI.mr (cI.mr (cI.mr (cI.mr (cI.mr (cI.mr (cI.mr e3 (by omega)) (by omega)) (by omega)) (by omega)) (by omega)) (by omega)) (by omega),by omega,eo⟩⟩
abbrev dV:=Fr×Value
def lz(l:List dV):List Value:=l.flatMap λx=>jT x.1 x.2
theorem LG(l m:List dV):lz (l++m)=lz l++lz m:=by simp[lz]
theorem LH(l:List dV):(lz l).length=l.length*7:=by
 induction l with
 |nil=>rfl
 |cons r l a=>simp only[lz,rC,bH,dq,jT,fB]at *;omega
theorem LI(l:List dV)(i:Nat)(h:i<l.length)(j:Nat)(v:Value)(a:(jT l[i].1 l[i].2)[j]?=some v):(lz l)[i*7+j]?=some v:=by
 induction l generalizing i with
 |nil=>simp at h
 |cons r l b=>
  have c:j<7:=by
   have:=(kF.1 a).1;simpa [jT]using this
  cases i with
  |zero=>
   simp only[lz,rC,nG,dR]
   rw[mc (by simp[jT];omega)];exact a
  |succ i=>
   simp only[lz,rC]
   rw[jz (by simp[jT];omega)];have e:(i+1)*7+j-(jT r.1 r.2).length=i*7+j:=by simp[jT];omega
   rw[e];exact b i (by simpa using h) (by simpa using a)
def gR(w:World)(a:Nat)(v:Value)(l:List dV):Prop:=
 w.ownsRow a 158 7 v l.length (lz l)/\∀x∈l,dr w x.1 x.2/\(x.1.ranges≠[]->∀y n c,x.2=.slice (some y) n c->a<=y.block/\v.ownBlock≠some y.block)
theorem dr.df(h:dr w G z)(b:G.ranges≠[]->∀y n c,z=.slice (some y) n c->y.block<w.heap.size->W.heap[y.block]?=w.heap[y.block]?):dr W G z:=by
 obtain⟨d,e,ra,cap,rfl,a⟩:=h;refine⟨d,e,ra,cap,rfl,a.df (λhl x f=>?_)⟩
 subst f;exact b hl x _ _ rfl (a.lt hl)
theorem dr.LJ(h:dr w G (.slice (some A) n k))(hl:G.ranges≠[]):A.block<w.heap.size:=by
 obtain⟨b,c,ra,cap,e,a⟩:=h;cases e;exact a.lt hl
theorem gR.lt{l:List dV}(h:gR w n x l):∀k,x.ownBlock=some k->n<=k/\k<w.heap.size:=h.1.lt
theorem gR.gb{l:List dV}(h:gR w i z l)(g:w.grownBy W N)(b:∀k,N=some k->k<i):gR W i z l:=by
 refine⟨h.1.kept g ?_,λx d=>?_⟩
 cases f:z.ownBlock with
 |none=>exact .inl rfl
 |some k=>exact .inr (λe=>by have:=b k e.symm;have:=(h.lt k f).1;omega)
 have a:=h.2 x d;refine⟨a.1.df (λhl y n c e j=>?_),a.2⟩
 exact g.block y.block j (λe2=>by have:=b _ e2.symm;have:=(a.2 hl y n c e).1;omega)
theorem gR.nil(w:World)(a:Nat):gR w a (.slice none 0 0) []:=⟨om _ _ _ _,λx b=>by simp at b⟩
theorem LK:(prog.info? 158).map (λi=>(i.zero,i.size,i.bytes))=some (some (.agg #[.int .i64 0,.int .i64 0,.int .u64 0,.int .u64 0,.bool false,.string ByteArray.empty,.slice none 0 0]),7,80):=by kernel_rfl
theorem LL(ty:TypeId)(a:Nat)(v:Value)(l:List dV)(t:gR w a v l)(b c:Nat)(x:dV)(D:dr w x.1 x.2)(E:x.1.ranges≠[]->∀y n c,x.2=.slice (some y) n c->a<=y.block/\v.ownBlock≠some y.block)(F:x.2.oneCell'=true)(h0:w.rangeAt b 0 (jT x.1 x.2))(S:l.length<=100000000)(G:a<=w.heap.size):
 ∃i k m d,(Builtin.append_ #[92,92] ty #[v,.slice (some ⟨b,0,none⟩) 1 c]).run prog w=.ok (.slice i k m) d/\gR d a (.slice i k m) (l++[x])/\w.grownBy d v.ownBlock/\((Value.slice i k m).ownBlock=v.ownBlock\/(Value.slice i k m).ownBlock=some w.heap.size):=by
 obtain⟨H,hi,I,K,f⟩:=lg LK;obtain⟨L,d,A,M,p,_,q⟩:=run_append_own_at (P:=prog) w a 92 ty 158 H _ 7 80 underlying92 hi I K f rfl (by decide) v l.length (lz l) t.1 ⟨b,0,none⟩ 1 c (lz [x]) (by simp[lz,jT]) (by
  intro j u N;rw[Addr.add_mid];exact h0 j u (by simpa [lz]using N)) (by
  intro u B;simp[lz,jT]at B;obtain rfl|rfl|rfl|rfl|rfl|rfl|rfl:=B<;>first|rfl|exact F) (by simp[maxLen];omega) (by omega) G
 have r:gR d a L (l++[x]):=by
  refine⟨by rw[bH,LG];exact M,λz O=>?_⟩
  have f:dr w z.1 z.2/\(z.1.ranges≠[]->∀y n c,z.2=.slice (some y) n c->a<=y.block/\v.ownBlock≠some y.block):=by
   obtain h|h:=bQ.1 O
   exact t.2 z h;rw[cS.1 h];exact⟨D,E⟩
  refine⟨f.1.df (λhl y n c e Q=>p.block y.block Q (λe2=>(f.2 hl y n c e).2 e2.symm)),λhl y n c e=>⟨(f.2 hl y n c e).1,?_⟩⟩
  obtain s|s:=q
  rw[s];exact(f.2 hl y n c e).2;rw[s];have C:=f.1;rw[e]at C;have:=C.LJ hl;exact λR=>by have:=aO R;omega
 obtain⟨⟨-,⟨rfl,e2⟩|⟨g,cap,T,rfl,_⟩⟩,-⟩:=id r;exact⟨_,_,_,d,A,r,p,q⟩
 exact⟨_,_,_,d,A,r,p,q⟩
theorem wj{j:Array Oper}{K:Act->World->Prop}{E:Prop}(k:H.guard=none)(s x:Operand)
 (ho:H.op=.call {callee:=.builtin .append,args:= #[s,x],argTypes:= #[92,92]})
 (g:Nat) (v:Value) (l:List dV) (hs:I.eval s=v) (m:gR w g v l) (b c:Nat) (a:dV) (p:dr w a.1 a.2) (q:a.1.ranges≠[]->∀y n c,a.2=.slice (some y) n c->g<=y.block/\v.ownBlock≠some y.block) (r:a.2.oneCell'=true) (t:I.eval x=.slice (some ⟨b,0,none⟩) 1 c) (h0:w.rangeAt b 0 (jT a.1 a.2)) (u:l.length<=100000000) (z:g<=w.heap.size)
 (h:∀d e f i,gR i g (.slice d e f) (l++[a])->w.grownBy i v.ownBlock->((Value.slice d e f).ownBlock=v.ownBlock\/(Value.slice d e f).ownBlock=some w.heap.size)->
   K (I.put H.dst (.slice d e f)) i):if Region.wanted H (yielded j I.tmps)=true then Oper.wp prog H I w K F else E:=by
 have A:Region.wanted H (yielded j I.tmps)=true:=by simp[Region.wanted,k]
 rw[az A];obtain⟨d,e,f,i,B,C,D,G⟩:=LL (w:=w) H.type g v l m b c a p q r h0 u z;unfold Oper.wp execOp;simp only[ho,resolve,invoke,builtin,iU,mi,iT,nF,ki,mP,hs,t,B]
 exact h d e f i C D G
theorem ky(h:w.heap[b]?=some (.cells #[x] T (0,0))):w.cell? ⟨b,0,none⟩=some x/\w.frozen? ⟨b,0,none⟩=false:=by
 simp[World.cell?,World.frozen?,h]
theorem LM(X a b:Nat)(st:Int)(i ev:Value)(c:List PanicEntry)(w:World)(j:w.cell? ⟨X,2,none⟩=some (.int .i64 st))(d:w.heap[a]?=some (.cells #[i] 92 (0,0)))(f:w.heap[b]?=some (.cells #[ev] 97 (0,0)))(n:a≠b):
 CallsD prog 187 #[.pointer (some ⟨X,0,none⟩),.pointer (some ⟨a,0,none⟩),.pointer (some ⟨b,0,none⟩)] (.panicking ({v:=.iface 34 (.int .i64 5),recovered:=false}::c)) w λe k l=>
  e=.returned (.tuple #[])/\k=.panicking ({v:=.iface 34 (.int .i64 5),recovered:=true}::c)/\l=((w.alloc (.cells #[.int .i64 5,.int .i64 st] 182)).setCell ⟨a,0,none⟩ (.slice none 0 0)).setCell ⟨b,0,none⟩ (.iface 177 (.pointer (some ⟨w.heap.size,0,none⟩))):=by
 refine callsD_of_wpS func187 rfl λp cs m=>?_
 apply wpS_seq;apply wpS_region;simp[wpOpsS,go_sem,recoverD,m,ntmps187,Exit.thenS];refine wpS_cond (t:=true) (by simp[Act.eval,Array.replicate]) ?_;simp only[eX]
 have g:=ky ((fj w (.cells #[.int .i64 5,.int .i64 st] 182) a (aY.1 d).1).trans d);have h:=ky ((fj w (.cells #[.int .i64 5,.int .i64 st] 182) b (aY.1 f).1).trans f);apply wpS_region;simp[wpOpsS,go_sem,j,g.1,g.2,h.1,h.2,bodyPostS,results,results187]
theorem LN(X a b:Nat)(w:World):
 CallsD prog 187 #[.pointer (some ⟨X,0,none⟩),.pointer (some ⟨a,0,none⟩),.pointer (some ⟨b,0,none⟩)] .returning w λe c d=>e=.returned (.tuple #[])/\c=.returning/\d=w:=by
 refine callsD_of_wpS func187 rfl λf cs g=>?_
 apply wpS_seq;apply wpS_region;simp[wpOpsS,go_sem,recoverD,g,ntmps187,Exit.thenS];refine wpS_cond (t:=false) (by simp[Act.eval,Array.replicate]) ?_;simp only[gm,fR]
 refine wpS_of_wp (wp_skip ?_);cases f;simp_all[bodyPostS,results,results187]
def tX(w:World)(l:List Int)(e:Ending)(b:World):Prop:=
 w.grownBy b none/\((∃ay a n c,fE l=(some (ay.map (·.1)),-1)/\e=.returned (.tuple #[.slice a n c,.nilIface])/\gR b w.heap.size (.slice a n c) ay)\/
  (∃(p F:Nat),fE l=(none,(p:Int))/\e=.returned (.tuple #[.slice none 0 0,.iface 177 (.pointer (some ⟨F,0,none⟩))])/\b.heap[F]?=some (.cells #[.int .i64 5,.int .i64 (p:Int)] 182 (0,0))/\w.heap.size<=F))
theorem FA.isNone{e:Ending}(h:FA w n x k i none e W):w.grownBy W (some n)/\e=PN/\∃a,cI W n x a k:=by
 obtain⟨g,⟨f,q,j,b,-⟩|⟨-,c,d⟩⟩:=h;cases b;exact⟨g,c,d⟩
theorem FA.isSome{e:Ending}(h:FA w k y i j (some (G,l)) e W):w.grownBy W (some k)/\∃A n c,e=.returned (.agg (bP G (.slice A n c)))/\dr W G (.slice A n c)/\((Value.slice A n c)=.slice none 0 0\/∃x d f,(Value.slice A n c)=.slice (some x) d f/\w.heap.size<=x.block)/\cI W k y l i/\i<l/\l<=j:=by
 obtain⟨g,⟨u,v,m,a,p,q,b,r,s,t⟩|⟨a,-,-⟩⟩:=h;cases a;obtain⟨A,n,c,rfl⟩:∃A n c,m=.slice A n c:=by
  obtain h|⟨x,n,c,h,-⟩:=b
  exact⟨_,_,_,h⟩
  exact⟨_,_,_,h⟩
 exact⟨g,A,n,c,p,q,b,r,s,t⟩
 cases a
theorem gR.lower{l:List dV}(h:gR w k z l)(f:i<=k):gR w i z l:=by
 obtain⟨⟨j,a⟩,b⟩:=h;refine⟨⟨j,?_⟩,λx d=>⟨(b x d).1,λhl y n c e=>⟨bD f ((b x d).2 hl y n c e).1,((b x d).2 hl y n c e).2⟩⟩⟩
 obtain a|⟨g,cap,cur,e1,e2,m⟩:=a
 exact .inl a;exact .inr ⟨g,cap,cur,e1,by omega,m⟩
theorem Gx.LO(h:Gx w W n i)(b:w.heap.size<=n)(hY:w.heap.size<=i):w.grownBy W none:=
 ⟨h.os,h.tape,h.output,h.size,λk a _=>h.block k a (by omega) (by omega)⟩
theorem Dd(w:World)(a b c:Obj)(W:World)(h:W=((w.alloc a).alloc b).alloc c):
 W.heap[w.heap.size]?=some a/\W.heap[w.heap.size+1]?=some b/\W.heap[w.heap.size+1+1]?=some c/\w.grownBy W none:=by
 subst h;refine⟨?_,?_,?_,ba (ba (aH _ _ _) _) _⟩
 all_goals
  simp only[World.alloc,Array.getElem?_push,Array.size_push]
  repeat(first|rw[az trivial]|rw[az (by omega)]|rw[ah (by omega)])
theorem De(a:Array Value)(W:World)(b c:Nat)(d ev:Value)(e:a.getD 2 undef=.pointer (some ⟨b,0,none⟩))(f:a.getD 3 undef=.pointer (some ⟨c,0,none⟩))(g:W.cell? ⟨b,0,none⟩=some d)(h:W.cell? ⟨c,0,none⟩=some ev):
 (results f146 a).run prog W=.ok (.tuple #[d,ev]) W:=by
 rw[Array.getD_eq_getD_getElem?]at e f;simp[results,results146,go_sem,e,f,g,h]
theorem Df(w0 W:World)(l:List Int)(c:Array Value)(X a b:Nat)(sl i ev:Value)(q st:Nat)(k:cI W X sl q st)(d:W.heap[a]?=some (.cells #[i] 92 (0,0)))(g:W.heap[b]?=some (.cells #[ev] 97 (0,0)))(h:a≠b)(j:w0.grownBy W none)(m:w0.heap.size<=a)(n:w0.heap.size<=b)(hd:fE l=(none,(st:Int)))
 (p:c.getD 2 undef=.pointer (some ⟨a,0,none⟩)) (r:c.getD 3 undef=.pointer (some ⟨b,0,none⟩)):
 Leaves prog f146 c (tX w0 l) [{target:=.fn (.func 187) #[.pointer (some ⟨X,0,none⟩),.pointer (some ⟨a,0,none⟩),.pointer (some ⟨b,0,none⟩)],args:= #[]}] (.panicking [{v:=.iface 34 (.int .i64 5),recovered:=false}]) W:=by
 refine leaves_cons (f:=187) (args:= #[.pointer (some ⟨X,0,none⟩),.pointer (some ⟨a,0,none⟩),.pointer (some ⟨b,0,none⟩)]) (by simp) (by simp[go_sem]) ?_;refine(LM X a b st i ev [] W (tI k).2.2.1 d g h).mono ?_;rintro e C D⟨rfl,rfl,rfl⟩;have s:=(aY.1 d).1;have t:=(aY.1 g).1;have u:=(fj W (.cells #[.int .i64 5,.int .i64 (st:Int)] 182) a s).trans d;have w:=(fj W (.cells #[.int .i64 5,.int .i64 (st:Int)] 182) b t).trans g;have x:=heap_set (o:=0) u (.slice none 0 0);have y:=(dy (W.alloc (.cells #[.int .i64 5,.int .i64 (st:Int)] 182)) ⟨a,0,none⟩ (.slice none 0 0) b (Ne.symm h)).trans w;have z:=heap_set (o:=0) y (.iface 177 (.pointer (some ⟨W.heap.size,0,none⟩)));have A:=(dy ((W.alloc (.cells #[.int .i64 5,.int .i64 (st:Int)] 182)).setCell ⟨a,0,none⟩ (.slice none 0 0)) ⟨b,0,none⟩ (.iface 177 (.pointer (some ⟨W.heap.size,0,none⟩))) a h).trans x;have B:=De c _ a b _ _ p r (ky A).1 (ky z).1;refine⟨_,B,aI (aI (ba j _) _ _ (.inl m)) _ _ (.inl n),.inr ⟨st,W.heap.size,hd,rfl,?_,j.size⟩⟩
 rw[dy _ _ _ _ (by simp;omega),dy _ _ _ _ (by simp;omega)];exact aM _ _
theorem decode_nil(w:World)(a:Option Addr)(n cap:Nat)(c:bF w a n cap []):
 Calls prog 146 #[.slice a n cap] w (tX w []):=by
 have f:=rX;have d:n=0:=c.2.1;subst d;clear c;go_enter_defers func146,ntmps146;go_wp2_with (go_at_call 188;refine(rY _ _).mono ?_;rintro e g⟨rfl,rfl⟩);have b:=Dd w (.cells #[.slice none 0 0] 92) (.cells #[.nilIface] 97) (.cells #[.slice a 0 cap,.int .i64 0,.int .i64 0] 311) _ rfl;exact Df w _ [] _ (w.heap.size+1+1) w.heap.size (w.heap.size+1) _ _ _ 0 0 b.2.2.1 b.1 b.2.1 (by omega) b.2.2.2 (aP _) (by omega) (by simp[fE]) rfl rfl
theorem LQ(w:World)(R o n cap:Nat)(l:List Int)(aa:bF w (some ⟨R,o,none⟩) n cap l)(h0:0<l.length)(hl:l.length<=100000000):
 Calls prog 146 #[.slice (some ⟨R,o,none⟩) n cap] w (tX w l):=by
 have eg:=rX;have hn:n=l.length:=aa.2.1;have e0:((n:Int)==0)=false:=by simp;omega
 have ei:R<w.heap.size:=by
  obtain⟨b1,o1,e1,h1⟩:=tJ aa (by omega);cases e1;exact ep w _ (h1 0 (by omega))
 replace hn:=J hn;go_enter_defers func146,ntmps146;go_wp2_with fail;obtain⟨W3,bb⟩:=exq ((((w.alloc (.cells #[.slice none 0 0] 92)).alloc (.cells #[.nilIface] 97)).alloc (.cells #[.slice (some ⟨R,o,none⟩) n cap,.int .i64 0,.int .i64 0] 311)));obtain⟨br,bt,a4,g3⟩:=Dd w _ _ _ _ bb;have ej:W3.heap.size=w.heap.size+3:=by rw[bb];simp
 rw[<-bb];replace bb:=J bb;obtain⟨i,cp⟩:=exq w.heap.size;obtain⟨s,cv⟩:=exq (w.heap.size+1);obtain⟨X,cw⟩:=exq (w.heap.size+1+1);simp only[<-cw]at a4⊢;simp only[<-cv]at bt⊢;simp only[<-cp]at br⊢;have z:Hid (w.heap.size=i/\s=i+1/\X=i+2):=J (by omega);replace a4:cI W3 X (.slice (some ⟨R,o,none⟩) n cap) 0 0:=a4;clear cp cv cw;refine(Bq W3).mono ?_;rintro e E⟨T,P2,P3,P4,P5,P6,Bo,Bc,rfl,hT,g1⟩;have bx:=(g1.block i (by have:=Z z;omega) (by simp)).trans br;have b6:=(g1.block s (by have:=Z z;omega) (by simp)).trans bt;have bz:=a4.gb g1 (by simp);have cx:=aq g3 g1;have ek:=g1.size;have b8:fE l=iz l (l.length+1) 0 ([]:List dV).unzip.1:=by unfold fE;rw[ah (by omega)];rfl
 have dn:=hT.ne (tI bz).1;have ds:=hT.ne (ky bx).1;replace br:=J br;replace bt:=J bt;replace a4:=J a4;replace bx:=J bx;replace b6:=J b6;replace bz:=J bz;replace b8:=J b8;go_wp2_with fail;go_loopg [15] l.length (λgh _ wr=>∃(q st k:Nat)(ay:List dV)(a:Option Addr)(m c:Nat),gh=l.length-q/\q<=l.length/\ay.length<=q/\cI wr X (.slice (some ⟨R,o,none⟩) n cap) q st/\wr.heap[i]?=some (.cells #[.slice a m c] 92 (0,0))/\wr.heap[s]?=some (.cells #[.nilIface] 97 (0,0))/\gR wr E.heap.size (.slice a m c) ay/\Gx E wr X i/\fE l=iz l k q (ay.map (·.1))/\l.length-q<k);case atStart=>exact⟨0,0,l.length+1,[],none,0,0,by omega,by omega,by simp,Z bz,Z bx,Z b6,gR.nil _ _,Gx.refl _ _ _,Z b8,by omega⟩
 case round=>
  obtain⟨q,st,k,ay,a,m,c,rfl,hq,eo,a0,N,S,a1,gr,a2,hk⟩:=hrel;obtain⟨y0,y1,y2,yf⟩:=tI a0;have ca:w.grownBy wr none:=((Gx.of (X:=X) (Y:=i) cx (λk e=>by cases e)).trans gr).LO (by have:=Z z;omega) (by have:=Z z;omega);by_cases bM:q<l.length
  ·have du:(q:Int)<(n:Int):=by have:=Z hn;omega
   have cy:=hT.gx gr dn ds;have cC:=aa.ao ca;have hF:=Dc wr X T P2 P3 P4 P5 P6 Bo Bc R o n cap l q st cy a0 cC (by have:=Z z;omega) bM hl;have a8:=Dc wr.drew X T P2 P3 P4 P5 P6 Bo Bc R o n cap l q st (cy.ao (aW (aB _ _))) a0 (cC.ao (aW (aB _ _))) (by have:=Z z;omega) bM hl;obtain⟨z0,zf⟩:=ky N;obtain⟨k',rfl⟩:∃k',k=k'+1:=⟨k-1,by omega⟩
   have b0:Hid (∀(W:World)(p':Nat)(bj:Array Value),wr.grownBy W (some X)->cI W X (.slice (some ⟨R,o,none⟩) n cap) p' q->mU l q=none->bj.getD 2 undef=.pointer (some ⟨i,0,none⟩)->bj.getD 3 undef=.pointer (some ⟨s,0,none⟩)->Leaves prog f146 bj (tX w l) [{target:=.fn (.func 187) #[.pointer (some ⟨X,0,none⟩),.pointer (some ⟨i,0,none⟩),.pointer (some ⟨s,0,none⟩)],args:= #[]}] (.panicking [{v:=.iface 34 (.int .i64 5),recovered:=false}]) W):=J (λW p' bj g hX hf h2 h3=>by
    refine Df w W l bj X i s _ _ _ p' q hX ((g.block i (aY.1 N).1 (λe=>by have:=aO e;have:=Z z;omega)).trans N) ((g.block s (aY.1 S).1 (λe=>by have:=aO e;have:=Z z;omega)).trans S) (by have:=Z z;omega) (cF ca g (λj e=>.inl (by cases e;have:=Z z;omega))) (by have:=Z z;omega) (by have:=Z z;omega) ?_ h2 h3;rw[a2];simp only[iz]
    rw[az bM,hf])
   have b3:Hid (∀(W p:World)(f:Fr)(t:Nat)(A:Option Addr)(u C:Nat),wr.grownBy W none->W.heap.size=wr.heap.size->W.grownBy p (some X)->dr p f (.slice A u C)->((Value.slice A u C)=.slice none 0 0\/∃x n c,(Value.slice A u C)=.slice (some x) n c/\W.heap.size<=x.block)->gR p E.heap.size (.slice a m c) ay/\(f.ranges≠[]->∀y n' c',Value.slice A u C=.slice (some y) n' c'->E.heap.size<=y.block/\(Value.slice a m c).ownBlock≠some y.block)/\p.heap[i]?=some (.cells #[.slice a m c] 92 (0,0))/\p.heap[s]?=some (.cells #[.nilIface] 97 (0,0))/\E.heap.size<=p.heap.size/\Gx E p X i):=J (λW p f t A u C gW ew O hv hn=>by
    have gA:wr.grownBy p (some X):=cF (cX gW (some X)) O (λj e=>.inr rfl);have hz:=gr.size;refine⟨a1.gb gA (λj e=>by cases e;have:=Z z;omega),λey y n' c' e=>?_,(gA.block i (aY.1 N).1 (λe=>by have:=aO e;have:=Z z;omega)).trans N,(gA.block s (aY.1 S).1 (λe=>by have:=aO e;have:=Z z;omega)).trans S,bD hz gA.size,gr.trans (Gx.of gA (λj e=>.inl (aO e).symm))⟩
    obtain h|⟨x,n2,c2,h,hx⟩:=hn
    rw[h]at e;cases e
    ·rw[h]at e;cases e;exact⟨by omega,λe2=>by have:=(a1.lt _ e2).2;omega⟩)
   cases ax:mU l q with
   |none=>
    rw[ax]at a8;have U:=a8.mono (λe W(h:FA _ _ _ _ _ none e W)=>h.isNone);replace ax:=J ax;replace U:=J U;replace a0:=J a0;replace N:=J N;replace S:=J S;replace a1:=J a1;replace a2:=J a2;clear hF a8 b3;go_wp2_with fail;refine wp_region_any (by kernel_rfl) ?_;try(change wpAny _ _ _ _ _ _ _ (World.drew _))
    refine iW (rs:=[0,1]) (by kernel_rfl) (by simp) ?_;refine gF rfl (λK b=>?_) (gF rfl (λK b=>?_) iV)
    ·go_simp;refine b _ _ ?_;clear b K;refine iW (rs:=[1]) (by kernel_rfl) (by simp) ?_;refine gF rfl (λK b=>?_) iV;go_simp;refine b _ _ ?_;clear b K;refine iW (rs:=[2]) (by kernel_rfl) (by simp) ?_;refine gF rfl (λK b=>?_) iV;go_simp;refine(Z U).mono ?_;rintro e p⟨O,rfl,p',G⟩;exact Z b0 _ _ _ (cF (cX (aW (aB _ _)) _) O (λj e=>.inr rfl)) G (Z ax) rfl rfl
    go_simp;refine b _ _ ?_;clear b K;refine iW (rs:=[0,2]) (by kernel_rfl) (by simp) ?_;refine gF rfl (λK b=>?_) (gF rfl (λK b=>?_) iV)
    ·go_simp;refine b _ _ ?_;clear b K;refine iW (rs:=[2]) (by kernel_rfl) (by simp) ?_;refine gF rfl (λK b=>?_) iV;go_simp;refine(Z U).mono ?_;rintro e p⟨O,rfl,p',G⟩;exact Z b0 _ _ _ (cF (cX (aW (aB _ _)) _) O (λj e=>.inr rfl)) G (Z ax) rfl rfl
    go_simp;refine(Z U).mono ?_;rintro e p⟨O,rfl,p',G⟩;exact Z b0 _ _ _ (cF (cX (aW (aB _ _)) _) O (λj e=>.inr rfl)) G (Z ax) rfl rfl
   |some fq=>
    obtain⟨⟨P,sm,of,cd,fin,d,rg⟩,t⟩:=fq;rw[ax]at a8;have U:=a8.mono (λe W(h:FA _ _ _ _ _ (some _) e W)=>h.isSome);simp only[bP]at U;have aC:fE l=iz l k' t (ay.map (·.1)++[⟨P,sm,of,cd,fin,d,rg⟩]):=by
     rw[a2];simp only[iz]
     rw[az bM,ax]
    have b4:Hid (∀(p F:World)(ob:Obj)(it:dV)(a7:Option Addr)(D c7 t:Nat),cI p X (.slice (some ⟨R,o,none⟩) n cap) t q->p.heap[i]?=some (.cells #[.slice a m c] 92 (0,0))->p.heap[s]?=some (.cells #[.nilIface] 97 (0,0))->Gx E p X i->gR (p.alloc ob) E.heap.size (.slice a m c) ay->(p.alloc ob).grownBy F (Value.slice a m c).ownBlock->gR F E.heap.size (.slice a7 D c7) (ay++[it])->
     F.heap[i]?=some (.cells #[.slice a m c] 92 (0,0))/\cI (F.setCell ⟨i,0,none⟩ (.slice a7 D c7)) X (.slice (some ⟨R,o,none⟩) n cap) t q/\(F.setCell ⟨i,0,none⟩ (.slice a7 D c7)).heap[i]?=some (.cells #[.slice a7 D c7] 92 (0,0))/\(F.setCell ⟨i,0,none⟩ (.slice a7 D c7)).heap[s]?=some (.cells #[.nilIface] 97 (0,0))/\gR (F.setCell ⟨i,0,none⟩ (.slice a7 D c7)) E.heap.size (.slice a7 D c7) (ay++[it])/\Gx E (F.setCell ⟨i,0,none⟩ (.slice a7 D c7)) X i):=J (λp F ob it a7 D c7 t hx hl he gx hA Q I=>by
     have h1:=Z z;have b5:∀B,B<E.heap.size->B<p.heap.size->F.heap[B]?=p.heap[B]? :=λB hB dx=>(Q.block B (by simp;omega) (λe=>by have:=(hA.lt B e.symm).1;omega)).trans (fj _ _ _ dx)
     have dE:=gx.size;have c9:=(b5 i (by omega) (by omega)).trans hl;have dG:=(b5 s (by omega) (by omega)).trans he;have ea:cI F X (.slice (some ⟨R,o,none⟩) n cap) t q:=(b5 X (by omega) (by omega)).trans hx;have ee:Gx E F X i:=⟨Q.os.trans gx.os,Q.tape.trans gx.tape,Q.output.trans gx.output,bD dE (bD (by simp) Q.size),λk hk h2 h3=>(b5 k hk (by omega)).trans (gx.block k hk h2 h3)⟩
     refine⟨c9,ea.mr (by omega),heap_set c9 _,(dy _ _ _ _ (by show s≠i;omega)).trans dG,I.gb (aI (aB _ _) _ _ (.inr rfl)) (λk e=>by cases e;show i<E.heap.size;omega),ee.set _ _ (.inr (.inl rfl))⟩)
    replace ax:=J ax;replace U:=J U;replace a0:=J a0;replace N:=J N;replace S:=J S;replace a1:=J a1;replace a2:=J a2;replace aC:=J aC;clear hF a8 b0;go_wp2_with fail;refine wp_region_any (by kernel_rfl) ?_;try(change wpAny _ _ _ _ _ _ _ (World.drew _))
    refine iW (rs:=[0,1]) (by kernel_rfl) (by simp) ?_;refine gF rfl (λK b=>?_) (gF rfl (λK b=>?_) iV)
    ·go_simp;refine b _ _ ?_;clear b K;refine iW (rs:=[1]) (by kernel_rfl) (by simp) ?_;refine gF rfl (λK b=>?_) iV;go_simp;refine b _ _ ?_;clear b K;refine iW (rs:=[2]) (by kernel_rfl) (by simp) ?_;refine gF rfl (λK b=>?_) iV;go_simp;refine(Z U).mono ?_;rintro e p⟨O,A,u,C,rfl,M,al,G,db,a9⟩;obtain⟨L,V,H,e5,s5,x5⟩:=Z b3 _ p _ t A u C (aW (aB _ _)) rfl O M al;obtain⟨de,dg⟩:=ky H;have dk:=(aY.1 H).1;replace H:=J H;replace e5:=J e5;replace L:=J L;replace V:=J V;replace M:=J M;replace G:=J G;replace al:=J al;refine b _ _ ?_;clear b K;refine iW (rs:=[3]) (by kernel_rfl) (by simp) ?_;refine gF rfl (λK b=>?_) iV;go_simp;refine b _ _ ?_;clear b K;refine iW (rs:=[4]) (by kernel_rfl) (by simp) ?_;refine gF rfl (λK b=>?_) iV;refine wj (by rfl) _ _ (by rfl) E.heap.size _ ay (by rfl) ((Z L).gb (aH _ _ none) (λk e=>by cases e)) p.heap.size 1 (⟨P,sm,of,cd,fin,d,rg⟩,.slice A u C) ((Z M).ao (aH _ _ none)) (Z V) (by rfl) (by rfl) (kj (aM _ _)) (by omega) (by simp;omega) ?_;intro a7 D c7 F I Q b7;have a3:=(Z L).gb (aH p (.cells #[.int .i64 P,.int .i64 sm,.int .u64 of,.int .u64 cd,.bool fin,.string d,.slice A u C] 158) none) (λk e=>by cases e);have r:=Z b4 p F _ _ a7 D c7 t (Z G) (Z H) (Z e5) x5 a3 Q I;obtain⟨ch,cj⟩:=ky r.1;replace r:=J r;replace I:=J I;refine b _ _ ?_;clear b K;refine iW (rs:=[5]) (by kernel_rfl) (by simp) ?_;refine gF rfl (λK b=>?_) iV;go_simp;refine b _ _ ?_;clear b K;refine wpAny_done (by kernel_rfl) ?_ _;go_wp2_with fail;go_roundg (l.length-t);case measure=>omega
     case rel=>exact⟨t,q,k',ay++[(⟨P,sm,of,cd,fin,d,rg⟩,.slice A u C)],a7,D,c7,rfl,a9,by simp;omega,(Z r).2.1,(Z r).2.2.1,(Z r).2.2.2.1,(Z r).2.2.2.2.1,(Z r).2.2.2.2.2,by rw[Z aC];simp,by omega⟩
    go_simp;refine b _ _ ?_;clear b K;refine iW (rs:=[0,2]) (by kernel_rfl) (by simp) ?_;refine gF rfl (λK b=>?_) (gF rfl (λK b=>?_) iV)
    ·go_simp;refine b _ _ ?_;clear b K;refine iW (rs:=[2]) (by kernel_rfl) (by simp) ?_;refine gF rfl (λK b=>?_) iV;go_simp;refine(Z U).mono ?_;rintro e p⟨O,A,u,C,rfl,M,al,G,db,a9⟩;obtain⟨L,V,H,e5,s5,x5⟩:=Z b3 _ p _ t A u C (aW (aB _ _)) rfl O M al;obtain⟨de,dg⟩:=ky H;have dk:=(aY.1 H).1;replace H:=J H;replace e5:=J e5;replace L:=J L;replace V:=J V;replace M:=J M;replace G:=J G;replace al:=J al;refine b _ _ ?_;clear b K;refine iW (rs:=[3]) (by kernel_rfl) (by simp) ?_;refine gF rfl (λK b=>?_) iV;go_simp;refine b _ _ ?_;clear b K;refine iW (rs:=[4]) (by kernel_rfl) (by simp) ?_;refine gF rfl (λK b=>?_) iV;refine wj (by rfl) _ _ (by rfl) E.heap.size _ ay (by rfl) ((Z L).gb (aH _ _ none) (λk e=>by cases e)) p.heap.size 1 (⟨P,sm,of,cd,fin,d,rg⟩,.slice A u C) ((Z M).ao (aH _ _ none)) (Z V) (by rfl) (by rfl) (kj (aM _ _)) (by omega) (by simp;omega) ?_;intro a7 D c7 F I Q b7;have a3:=(Z L).gb (aH p (.cells #[.int .i64 P,.int .i64 sm,.int .u64 of,.int .u64 cd,.bool fin,.string d,.slice A u C] 158) none) (λk e=>by cases e);have r:=Z b4 p F _ _ a7 D c7 t (Z G) (Z H) (Z e5) x5 a3 Q I;obtain⟨ch,cj⟩:=ky r.1;replace r:=J r;replace I:=J I;refine b _ _ ?_;clear b K;refine iW (rs:=[5]) (by kernel_rfl) (by simp) ?_;refine gF rfl (λK b=>?_) iV;go_simp;refine b _ _ ?_;clear b K;refine wpAny_done (by kernel_rfl) ?_ _;go_wp2_with fail;go_roundg (l.length-t);case measure=>omega
     case rel=>exact⟨t,q,k',ay++[(⟨P,sm,of,cd,fin,d,rg⟩,.slice A u C)],a7,D,c7,rfl,a9,by simp;omega,(Z r).2.1,(Z r).2.2.1,(Z r).2.2.2.1,(Z r).2.2.2.2.1,(Z r).2.2.2.2.2,by rw[Z aC];simp,by omega⟩
    go_simp;refine(Z U).mono ?_;rintro e p⟨O,A,u,C,rfl,M,al,G,db,a9⟩;obtain⟨L,V,H,e5,s5,x5⟩:=Z b3 _ p _ t A u C (aW (aB _ _)) rfl O M al;obtain⟨de,dg⟩:=ky H;have dk:=(aY.1 H).1;replace H:=J H;replace e5:=J e5;replace L:=J L;replace V:=J V;replace M:=J M;replace G:=J G;replace al:=J al;refine b _ _ ?_;clear b K;refine iW (rs:=[0,3]) (by kernel_rfl) (by simp) ?_;refine gF rfl (λK b=>?_) (gF rfl (λK b=>?_) iV)
    ·go_simp;refine b _ _ ?_;clear b K;refine iW (rs:=[3]) (by kernel_rfl) (by simp) ?_;refine gF rfl (λK b=>?_) iV;go_simp;refine b _ _ ?_;clear b K;refine iW (rs:=[4]) (by kernel_rfl) (by simp) ?_;refine gF rfl (λK b=>?_) iV;refine wj (by rfl) _ _ (by rfl) E.heap.size _ ay (by rfl) ((Z L).gb (aH _ _ none) (λk e=>by cases e)) p.heap.size 1 (⟨P,sm,of,cd,fin,d,rg⟩,.slice A u C) ((Z M).ao (aH _ _ none)) (Z V) (by rfl) (by rfl) (kj (aM _ _)) (by omega) (by simp;omega) ?_;intro a7 D c7 F I Q b7;have a3:=(Z L).gb (aH p (.cells #[.int .i64 P,.int .i64 sm,.int .u64 of,.int .u64 cd,.bool fin,.string d,.slice A u C] 158) none) (λk e=>by cases e);have r:=Z b4 p F _ _ a7 D c7 t (Z G) (Z H) (Z e5) x5 a3 Q I;obtain⟨ch,cj⟩:=ky r.1;replace r:=J r;replace I:=J I;refine b _ _ ?_;clear b K;refine iW (rs:=[5]) (by kernel_rfl) (by simp) ?_;refine gF rfl (λK b=>?_) iV;go_simp;refine b _ _ ?_;clear b K;refine wpAny_done (by kernel_rfl) ?_ _;go_wp2_with fail;go_roundg (l.length-t);case measure=>omega
     case rel=>exact⟨t,q,k',ay++[(⟨P,sm,of,cd,fin,d,rg⟩,.slice A u C)],a7,D,c7,rfl,a9,by simp;omega,(Z r).2.1,(Z r).2.2.1,(Z r).2.2.2.1,(Z r).2.2.2.2.1,(Z r).2.2.2.2.2,by rw[Z aC];simp,by omega⟩
    go_simp;refine b _ _ ?_;clear b K;refine iW (rs:=[0]) (by kernel_rfl) (by simp) ?_;refine gF rfl (λK b=>?_) iV;go_simp;refine b _ _ ?_;clear b K;refine iW (rs:=[4]) (by kernel_rfl) (by simp) ?_;refine gF rfl (λK b=>?_) iV;refine wj (by rfl) _ _ (by rfl) E.heap.size _ ay (by rfl) ((Z L).gb (aH _ _ none) (λk e=>by cases e)) p.heap.size 1 (⟨P,sm,of,cd,fin,d,rg⟩,.slice A u C) ((Z M).ao (aH _ _ none)) (Z V) (by rfl) (by rfl) (kj (aM _ _)) (by omega) (by simp;omega) ?_;intro a7 D c7 F I Q b7;have a3:=(Z L).gb (aH p (.cells #[.int .i64 P,.int .i64 sm,.int .u64 of,.int .u64 cd,.bool fin,.string d,.slice A u C] 158) none) (λk e=>by cases e);have r:=Z b4 p F _ _ a7 D c7 t (Z G) (Z H) (Z e5) x5 a3 Q I;obtain⟨ch,cj⟩:=ky r.1;replace r:=J r;replace I:=J I;refine b _ _ ?_;clear b K;refine iW (rs:=[5]) (by kernel_rfl) (by simp) ?_;refine gF rfl (λK b=>?_) iV;go_simp;refine b _ _ ?_;clear b K;refine wpAny_done (by kernel_rfl) ?_ _;go_wp2_with fail;go_roundg (l.length-t);case measure=>omega
    case rel=>exact⟨t,q,k',ay++[(⟨P,sm,of,cd,fin,d,rg⟩,.slice A u C)],a7,D,c7,rfl,a9,by simp;omega,(Z r).2.1,(Z r).2.2.1,(Z r).2.2.2.1,(Z r).2.2.2.2.1,(Z r).2.2.2.2.2,by rw[Z aC];simp,by omega⟩
  obtain rfl:q=l.length:=by omega
  have du:¬(l.length:Int)<(n:Int):=by have:=Z hn;omega
  obtain⟨z0,zf⟩:=ky N;obtain⟨z1,zg⟩:=ky S;obtain⟨k',rfl⟩:∃k',k=k'+1:=⟨k-1,by omega⟩
  have aC:fE l=(some (ay.map (·.1)),-1):=by
   rw[a2];simp only[iz]
   rw[ah (by omega)]
  have ez:i≠s:=by have:=Z z;omega
  have eK:=J (Z z);replace aC:=J aC;replace a2:=J a2;replace a0:=J a0;replace N:=J N;replace S:=J S;replace a1:=J a1;go_wp2_with fail;have l1:=heap_set (o:=0) (Z N) (.slice a m c);have l2:=(dy wr ⟨i,0,none⟩ (.slice a m c) s (by show s≠i;omega)).trans (Z S);have l3:=heap_set (o:=0) l2 .nilIface;have l4:=(dy (wr.setCell ⟨i,0,none⟩ (.slice a m c)) ⟨s,0,none⟩ .nilIface i (by show i≠s;omega)).trans l1;refine leaves_cons (f:=187) (args:= #[.pointer (some ⟨X,0,none⟩),.pointer (some ⟨i,0,none⟩),.pointer (some ⟨s,0,none⟩)]) (by simp) (by simp[go_sem]) ?_;refine(LN X i s _).mono ?_;rintro e u' eL⟨rfl,rfl,rfl⟩;have hO:=((Z a1).gb (aI (aB wr _) ⟨i,0,none⟩ (.slice a m c) (.inr rfl)) (λk e=>by cases e;show i<E.heap.size;have:=Z z;omega)).gb (aI (aB _ _) ⟨s,0,none⟩ .nilIface (.inr rfl)) (λk e=>by cases e;show s<E.heap.size;have:=Z z;omega);refine⟨_,De _ _ i s (.slice a m c) .nilIface rfl rfl (ky l4).1 (ky l3).1,aI (aI ca _ _ (.inl (by show w.heap.size<=i;have:=Z z;omega))) _ _ (.inl (by show w.heap.size<=s;have:=Z z;omega)),.inl ⟨ay,a,m,c,Z aC,rfl,hO.lower cx.size⟩⟩
def N5(w:World)(X:Nat)(sl:Value)(p:Nat)(bad:Bool):Prop:=w.heap[X]?=some (.cells #[sl,.int .i64 (p:Int),.bool bad] 218 (0,0))
structure N6(w:World)(X a o n cap:Nat)(l:List Int)(p:Nat)(bad:Bool):Prop where
 x:N5 w X (.slice (some ⟨a,o,none⟩) n cap) p bad
 b:bF w (some ⟨a,o,none⟩) n cap l
 xb:a≠X
 hp:p<=l.length
 hl:l.length<=100000000
structure ST(w:World)(X Y bb o n cap:Nat)(l:List Int)(W:World)(q:Nat)(bad:Bool)(v0 v1 v2 v3 v4 v5 v6:Value):Prop where
 rc:N6 W X bb o n cap l q bad
 y:W.heap[Y]?=some (.cells #[v0,v1,v2,v3,v4,v5,v6] 158 (0,0))
 g:w.grownBy W (some X)
 r:W.heap[w.heap.size]?=some (.cells #[.int .i64 0,.int .i64 0,.int .u64 0,.int .u64 0,.bool false,.string {data:= #[]},.slice none 0 0] 158 (0,0))
 xy:X<w.heap.size
 wy:w.heap.size<Y
 Rx:bb<w.heap.size
section
variable {w:World} {X Y bb o n cap:Nat} {l:List Int} {W W':World} {q q':Nat} {bad bad':Bool} {v0 v1 v2 v3 v4 v5 v6:Value}
end
def Cut(w:World)(X Y b o n cap:Nat)(l:List Int)(t:Int)(p:Nat)(W:World):Prop:=
 (∃(f:Fr)(q:Nat)(A:Option Addr)(a C:Nat),fD l t (p+1)=some (f,q)/\ST w X Y b o n cap l W q false (.int .i64 f.kind) (.int .i64 f.stream) (.int .u64 f.offset) (.int .u64 f.code) (.bool f.fin) (.string f.data) (.slice A a C)/\dr W f (.slice A a C)/\(∀x,A=some x->Y<x.block))\/
 (fD l t (p+1)=none/\∃(q:Nat)(c d e k3:Int)(k4:Bool)(k5:ByteArray)(A:Option Addr)(a C:Nat),ST w X Y b o n cap l W q true (.int .i64 c) (.int .i64 d) (.int .u64 e) (.int .u64 k3) (.bool k4) (.string k5) (.slice A a C))
