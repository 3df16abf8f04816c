import Derived.Laws.CopyRow
import Derived.Laws.EntriesVeiled
import Derived.Lib.AppendStr
import Derived.Test.YtjnmokmchdfchaaGreatDoorX0
set_option maxRecDepth 1000000
set_option maxHeartbeats 0
set_option linter.all false
namespace Go.Proofs.YtjnmokmchdfchaaGreatDoor
open Go.RowKit Tryz
attribute[local go_sem↓]Go.wp_at_zero Go.wp_at_succ
variable{F:Act}{A:Addr}{H:Exit->Act->World->Prop}{G:Fr}{p q:Int}{K L M:List Int}{D:List Rg}{b i j k l m n o:Nat}{u:Oper}{a:Option Addr}{N:Option Nat}{T:TypeId}{x y z:Value}{V W w:World}
def j8(f:Fr)(a:Value):List Value:=[.int .i64 f.kind,.int .i64 f.stream,.int .u64 f.offset,.int .u64 f.code,.bool f.fin,.string f.data,a]
def bO(f:Fr)(a:Value):Array Value:= #[.int .i64 f.kind,.int .i64 f.stream,.int .u64 f.offset,.int .u64 f.code,.bool f.fin,.string f.data,a]
def dA(w:World)(f:Fr)(a:Value):Prop:=f.ok/\f.data.size<=9223372036854775807/\∃ra cap,a=.slice ra f.ranges.length cap/\bw w ra f.ranges.length cap f.ranges
def cM{a c d e:Value}(h:w.heap[b]?=some (.cells #[x,y,z,a,c,d,e] T (0,0))):w.cell? ⟨b,0,none⟩=some x/\w.cell? ⟨b,1,none⟩=some y/\w.cell? ⟨b,2,none⟩=some z/\w.cell? ⟨b,3,none⟩=some a/\w.cell? ⟨b,4,none⟩=some c/\w.cell? ⟨b,5,none⟩=some d/\w.cell? ⟨b,6,none⟩=some e:=by
 simp[World.cell?,h]
def dA.an(h:dA w G x)(g:w.grownBy W none):dA W G x:=by
 obtain⟨a,h0,ra,cap,b,c⟩:=h;exact⟨a,h0,ra,cap,b,c.an g⟩
def AX(f:Fr)(l:Value)(w:World)(h:dA w f l):
 Calls prog 192 #[.agg (bO f l)] w λe n=>dP (pF f/\qB f) e/\w.grownBy n none:=by
 obtain⟨⟨⟨t,u⟩,⟨s0,s1⟩,⟨v,x⟩,⟨c0,c1⟩,y⟩,z,ra,cap,rfl,p⟩:=h;obtain⟨k,s,o,c,fin,d,rg⟩:=f;obtain⟨R,a⟩:∃R:Prop,R=((o<=4611686018427387903/\c<=4611686018427387903/\0<=s/\s<4)/\(k=3->iQ rg)/\(k=5->(d.size:Int)<=4611686018427387903-o)):=⟨_,rfl⟩
 have m:(pF ⟨k,s,o,c,fin,d,rg⟩/\qB ⟨k,s,o,c,fin,d,rg⟩)=R:=a.symm;rw[m];clear m;simp only[bO]at *;replace a:=J a;by_cases A:4611686018427387903<o
 ·go_enter func192,ntmps192;go_wp2;go_ret;exact⟨lU (λhp=>by rw[Z a]at hp;have:=hp.1.1;omega),aH _ _ _⟩
 by_cases B:4611686018427387903<c
 ·go_enter func192,ntmps192;go_wp2;go_ret;exact⟨lU (λhp=>by rw[Z a]at hp;have:=hp.1.2.1;omega),aH _ _ _⟩
 by_cases C:s<0
 ·go_enter func192,ntmps192;go_wp2;go_ret;exact⟨lU (λhp=>by rw[Z a]at hp;have:=hp.1.2.2.1;omega),aH _ _ _⟩
 by_cases D:4<=s
 ·go_enter func192,ntmps192;go_wp2;go_ret;exact⟨lU (λhp=>by rw[Z a]at hp;have:=hp.1.2.2.2;omega),aH _ _ _⟩
 have g:o<=4611686018427387903/\c<=4611686018427387903/\0<=s/\s<4:=by omega
 replace g:=J g;by_cases k3:k=3
 ·subst k3;have q:=J (λob=>p.an (aH w ob none));go_enter func192,ntmps192;go_wp2_with (go_at_call 234;apply(Gl _ _ _ _ _ (Z q _)).mono;rintro e E⟨⟨b,rfl,i⟩,r⟩;replace i:=J i);go_ret;refine⟨⟨b,rfl,(Z i).trans (by have j:=Z g;rw[Z a];simp[j])⟩,aq (aH _ _ _) r⟩
 by_cases k5:k=5
 ·subst k5;have F:IntKind.u64.wrap (4611686018427387903-o)=4611686018427387903-o:=by rw[fD];omega
  have G:IntKind.u64.wrap (d.size:Int)=(d.size:Int):=by rw[fD];omega
  go_enter func192,ntmps192;go_wp2;go_ret;refine⟨nY (by have j:=Z g;rw[Z a];simp[j]),aH _ _ _⟩
 go_enter func192,ntmps192;go_wp2;go_ret;exact⟨sd (by rw[Z a];exact⟨Z g,λh=>absurd h k3,λh=>absurd h k5⟩),aH _ _ _⟩
def GK(s:ByteArray)(n:Nat):((s.extract 0 n).data.map λb=>Value.int .u8 (b.toNat:Int))=(bv ((aG s).take n)).toArray:=by
 apply Array.ext';simp[bv,aG,xN,Function.comp_def]
def GL(s:ByteArray)(k:Nat):aG (s.extract k s.size)=(aG s).drop k:=by
 unfold aG;have hs:s.data.toList.length=s.size:=by rw[qt];rfl
 rw[xN,Array.toList_extract,List.extract_eq_take_drop,lC (by rw[dM];omega),List.map_drop]
def GM{α:Type}(a b m:List α)(off n:Nat)(h:a.take n=b)(d:off+m.length<=n)(e:off<=a.length):(a.take off++(m++a.drop (off+m.length))).take n=splice b off m:=by
 subst h;unfold splice;have e1:(a.take off).length=off:=by rw[ct];omega
 have e2:(a.take off).take n=a.take off:=lC (by rw[e1];omega);have c:m.take (n-off)=m:=tL_;rw[List.take_take,Nat.min_eq_left (by omega),List.drop_take,List.take_append,e2,e1,List.take_append,c,Nat.sub_sub]
def GN(ty:TypeId)(i g off n c a m:Nat)(l:List Int)(p:bn w i (.slice (some ⟨g,0,none⟩) n c) l)(s:ByteArray)(q:off+((aG s).take a).length<=n):
 ∃d,(Builtin.copy_ #[112,9] ty #[.slice (some ⟨g,off,none⟩) a m,.string s]).run prog w=.ok (goInt ((aG s).take a).length) d/\bn d i (.slice (some ⟨g,0,none⟩) n c) (splice l off ((aG s).take a))/\w.grownBy d (some g):=by
 obtain⟨j,G,⟨h0,-⟩|⟨H,cap,e,r,t,k,v,z,I,A⟩⟩:=p;cases h0;cases r;have B:Nat.min s.size a=((aG s).take a).length:=by rw[ct,fH,Nat.min_comm]
 have C:(aG s).take (Nat.min s.size a)=(aG s).take a:=by
  by_cases h:s.size<=a;rw[show Nat.min s.size a=s.size from Nat.min_eq_left h,lC (by rw[fH];exact aR _),lC (by rw[fH];exact h)];rw[show Nat.min s.size a=a from Nat.min_eq_right (by omega)]
 have D:=run_storeCells_at prog g off 5 (bv ((aG s).take a)) 0 e w k (by rw[fL];omega) (by
  intro u E;obtain⟨y,_,rfl⟩:=fg.1 E;rfl)
 have F:∀w,(sizeOf 5).run prog w=.ok 1 w:=λW=>by kernel_rfl
 have f:(splice l off ((aG s).take a)).length=l.length:=length_splice _ _ _ (by omega);refine⟨w.setRow g (e.toList.take (off+0)++bv ((aG s).take a)++e.toList.drop (off+0+(bv ((aG s).take a)).length)).toArray,?_,⟨?_,?_⟩,vD _ _ _⟩
 simp only[Builtin.copy_,vz underlying112,Builtin.lenOf,Builtin.firstCells,je,mr,jd,F,GK]
 have e1:bv ((aG s).take (min a (aG s).length))=bv ((aG s).take a):=by rw[<-C,fH,Nat.min_comm]
 simp[Builtin.lenOf,B,e1,D];intro x b;unfold splice at b;obtain b|b:=bQ.1 b
 exact j x (jc b);obtain b|b:=bQ.1 b
 exact qA s x (jc b);exact j x (iN b);refine⟨by rw[fL,Nat.mul_one],.inr ⟨g,c,_,by rw[f],t,setRow_heap w g _ _ _ _ k,by rw[f];exact v,z,?_,?_⟩⟩
 simp only[tt,bH,ct,dM,qt,fL]
 rw[ct]at q;omega;rw[f,Az,fC];exact GM _ _ _ _ _ A (by rw[fL];omega) (by rw[qt];omega)
def GO{f:Array Oper}{K:Act->World->Prop}{E:Prop}(d s:Operand)
 (ho:u.op=.call {callee:=.builtin .copy,args:= #[d,s],argTypes:= #[112,9]}) (j:u.guard=none)
 (e g off n c a i:Nat) (hd:F.eval d=.slice (some ⟨g,off,none⟩) a i) (str:ByteArray) (hs:F.eval s=.string str)
 (l:List Int) (k:bn w e (.slice (some ⟨g,0,none⟩) n c) l) (m:off+((aG str).take a).length<=n)
 (h:∀b,bn b e (.slice (some ⟨g,0,none⟩) n c) (splice l off ((aG str).take a))->w.grownBy b (some g)->K (F.put u.dst (goInt ((aG str).take a).length)) b):
 if Region.wanted u (yielded f F.tmps)=true then Oper.wp prog u F w K H else E:=by
 have p:Region.wanted u (yielded f F.tmps)=true:=by simp[Region.wanted,j]
 rw[aD p];obtain⟨b,q,r,t⟩:=GN (w:=w) u.type e g off n c a i l k str m;unfold Oper.wp execOp;simp only[ho,resolve,invoke,builtin,je,mr,jd,nU,ky,mZ,hd,hs,q]
 exact h b r t
def bw.dr(h:bw w a n k D)(e:D≠[]->∀x,a=some x->W.heap[x.block]?=w.heap[x.block]?):bw W a n k D:=by
 obtain⟨f,g,i,l,c⟩:=h;refine⟨f,g,i,l,?_⟩
 obtain c|⟨b,o,rfl,c⟩:=c
 exact .inl c;refine .inr ⟨b,o,rfl,?_⟩;by_cases hl:D=[]
 subst hl;intro j v d;simp[cE]at d;intro j v d;exact(jX (w:=w) (a:=⟨b,o+j,none⟩) (e hl ⟨b,o,none⟩ rfl)).trans (c j v d)
def bw.lt(h:bw w (some A) n k D)(hl:D≠[]):A.block<w.heap.size:=by
 obtain⟨c,d,f,g,a|⟨b,o,e,a⟩⟩:=h;have:=oI.2 hl;omega;cases e;exact eE w _ (a 0 _ (by have:=(AI D 0 (oI.2 hl)).1;simpa using this))
def cH(n:Int):Int:=if n<64 then 1 else if n<16384 then 2 else if n<1073741824 then 4 else 8
def HE(n:Int):((aU n).length:Int)=cH n:=by
 unfold aU cH;split;simp;split;simp;split<;>simp
def tX(n:Int):1<=cH n/\cH n<=8:=by
 unfold cH;split;omega;split;omega;split<;>omega
def HG(n:Int):pw n=0/\cH n=1\/pw n=1/\cH n=2\/pw n=2/\cH n=4\/pw n=3/\cH n=8:=by
 unfold pw cH;split;simp;split;simp;split<;>simp
def vU(n:Int)(w:World):Calls prog 299 #[.int .u64 n] w λe d=>e=.returned (.int .i64 (cH n))/\d=w:=by
 have c:=J (λW=>AG n W);obtain⟨a,b⟩|⟨a,b⟩|⟨a,b⟩|⟨a,b⟩:=HG n
 all_goals
  rw[a]at c
  rw[b]
  clear a b
  go_enter func299,ntmps299
  go_wp2_with (first|(go_at_call 295;apply(Z c _).mono;rintro e f⟨rfl,rfl⟩))
  go_ret
  exact⟨rfl,rfl⟩
def HH(a c:Int)(w:World):Calls prog 283 #[.int .u64 a,.int .u64 c] w λe b=>e=.returned (.int .i64 (2+cH c+cH a))/\b=w:=by
 have d:=J (λW=>vU a W);have f:=J (λW=>vU c W);have b1:=tX a;have b2:=tX c;generalize cH a=x at *;generalize cH c=y at *;have e1:IntKind.i64.wrap (2+y)=2+y:=wI_;have e2:IntKind.i64.wrap (2+y+x)=2+y+x:=wI_;go_enter func283,ntmps283;go_wp2_with fail;apply(Z f _).mono;rintro e g⟨rfl,rfl⟩;go_wp2_with fail;apply(Z d _).mono;rintro e h⟨rfl,rfl⟩;go_wp2;go_ret;exact⟨rfl,rfl⟩
def yz(r m:Int):Prop:=m<=r-1/\(r-1<=0->m=r-1)/\(0<=r-1->0<=m)/\(0<m->cH m+m<=r)/\∀n,m<n->n<=r-1->r<cH n+n
def HI(off a:Int)(w:World)(D: -1000000000000<=a/\a<=1000000000000):Calls prog 284 #[.int .u64 off,.int .i64 a] w λe l=>∃m,e=.returned (.int .i64 m)/\yz (a-(2+cH off)) m/\l=w:=by
 have p:=J (λn W=>vU n W);have b1:=tX off;generalize d:cH off=x at *;replace d:=J d;obtain⟨r,f⟩:=exq (a-(2+x));rw[<-f];have e1:IntKind.i64.wrap (2+x)=2+x:=wI_;have e2:IntKind.i64.wrap (a-(2+x))=r:=by simp[IntKind.wrap,IntKind.bits,IntKind.signed];omega
 have E:IntKind.i64.wrap (r-1)=r-1:=wI_;have F: -1000000000100<=r/\r<=1000000000000:=by omega
 replace f:=J f;go_enter func284,ntmps284;go_wp2_with fail;apply(Z p _ _).mono;rintro e q⟨rfl,rfl⟩;rw[Z d];go_wp2;go_loopw [5] (λi wr=>∃N:Int,i=.int .i64 N/\N<=r-1/\(r-1<=0->N=r-1)/\(0<=r-1->0<=N)/\(∀n,N<n->n<=r-1->r<cH n+n)/\wr=q) (λi _=>(intOf i).toNat);case atStart=>exact⟨r-1,rfl,by omega,λ_=>rfl,λh=>h,λn s k=>by omega,rfl⟩
 case round=>
  obtain⟨N,rfl,s,k,t,b,rfl⟩:=hrel;replace b:=J b;by_cases h0:0<N
  ·have u:decide (0<N)=true:=dO h0;have u1:IntKind.u64.wrap N=N:=by rw[fD];omega
   have v:=tX N;have g:=J (λW=>vU N W);obtain⟨y,c⟩:=exq (cH N);rw[<-c]at g v;replace c:=J c;have u2:IntKind.i64.wrap (y+N)=y+N:=wI_;have u3:IntKind.i64.wrap (N-1)=N-1:=wI_;by_cases j:r<y+N
   ·have z:decide (r<y+N)=true:=dO j;go_wp2_with (first|(go_at_call 299;apply(Z g _).mono;rintro e A⟨rfl,rfl⟩));go_roundw;case rel=>exact⟨N-1,rfl,by omega,λh=>by omega,λh=>by omega,λn G B=>by
     by_cases C:n=N;subst C;rw[<-Z c];exact j
     ·exact Z b n (by omega) B,trivial⟩
    case measure=>simp only[intOf];omega
   have z:decide (r<y+N)=false:=eQ j;go_wp2_with (first|(go_at_call 299;apply(Z g _).mono;rintro e A⟨rfl,rfl⟩));go_ret;exact⟨N,rfl,⟨by omega,λh=>by omega,λh=>by omega,λ_=>by rw[<-Z c];omega,Z b⟩,rfl⟩
  have u:decide (0<N)=false:=eQ h0;go_wp2;go_ret;exact⟨N,rfl,⟨by omega,k,t,λh=>by omega,Z b⟩,rfl⟩
def IZ(t:Nat)(a:Option Addr)(c:Nat)(l:List Int)(n:Int)(w:World)(ho:bn w t (.slice a l.length c) l)(C:dZ n)(U:t<=w.heap.size)(hl:l.length<=90000000):
 Calls prog 266 #[.slice a l.length c,.int .u64 n] w λe A=>
  ∃h m,e=.returned (.slice h (l.length+(aU n).length) m)/\dI w t (.slice a l.length c) A (.slice h (l.length+(aU n).length) m) (l++aU n):=by
 have G:=C;obtain⟨n0,V⟩:=C;obtain⟨k,p,H,D,d,hp,I,E⟩:∃(k p:Nat)(H:Int),aU n=j7 (n+H) k/\((k=1/\p=0/\H=0)\/(k=2/\p=1/\H=16384)\/(k=4/\p=2/\H=2147483648)\/(k=8/\p=3/\H=13835058055282163712))/\pw n=(p:Int)/\bits .or .u64 n H=n+H/\0<=n+H/\n+H<18446744073709551616:=by
  by_cases b:n<64;refine⟨1,0,0,by rw[Int.add_zero];exact Gf b n0,.inl ⟨rfl,rfl,rfl⟩,by simp[pw,b],?_,by omega⟩
  have:=vK n 0 6 n0 (by simpa using b) (by decide);simpa using this;by_cases f:n<16384;exact⟨2,1,16384,Gg b f,.inr (.inl ⟨rfl,rfl,rfl⟩),by simp[pw,b,f],by simpa using vK n 1 14 n0 (by simpa using f) (by decide),by omega⟩
  by_cases u:n<1073741824;exact⟨4,2,2147483648,Gh b f u,.inr (.inr (.inl ⟨rfl,rfl,rfl⟩)),by simp[pw,b,f,u],by simpa using vK n 2 30 n0 (by simpa using u) (by decide),by omega⟩
  exact⟨8,3,13835058055282163712,Gi b f u G,.inr (.inr (.inr ⟨rfl,rfl,rfl⟩)),by simp[pw,b,f,u],by simpa using vK n 3 62 n0 (by simp;omega) (by decide),by omega⟩
 have q:=AH (n+H) k;have x:=Ge (n+H) k;rw[D];rw[q];clear D;replace⟨q,x⟩:=bA q x;have W:1<=k/\k<=8:=by omega
 obtain⟨S,r⟩:∃S:Int,S=8*(k:Int)-8:=⟨_,rfl⟩
 replace r:=J r;obtain⟨M,B⟩:=exq (n+H);rw[<-B]at I E x q⊢;replace B:=J B;obtain⟨d,rfl,rfl⟩|⟨d,rfl,rfl⟩|⟨d,rfl,rfl⟩|⟨d,rfl,rfl⟩:=d
 all_goals
  replace d:=J d
  go_enter func266,ntmps266
  go_wp2_with (go_at_call 295;apply(AG n _).mono;rintro e A⟨rfl,rfl⟩;rw[hp])
  go_loopw [0,7] (λv i wr=>∃(j:Nat)(h:Option Addr)(m:Nat),j<=k/\i=.int .i64 (S-8*(j:Int))/\v=.slice h (l.length+j) m/\dI A t (.slice a l.length c) wr v (l++(j7 M k).take j)) (λ_ i _=>(intOf i+8).toNat)
  case atStart=>exact⟨0,a,c,by omega,fG (Value.int .i64) (by have:=Z d;have:=Z r;omega),rfl,by simpa using dI.refl ho⟩
  case round=>
   obtain⟨j,h,m,X,rfl,rfl,g⟩:=hrel
   by_cases K:j<k
   ·obtain⟨s,hs⟩:∃s:Nat,(s:Int)=S-8*(j:Int):=⟨8*(k-1)-8*j,by have:=Z r;omega⟩
    have F:s=8*(k-1)-8*j:=by have:=Z r;omega
    have Y:s<64:=by omega
    rw[<-hs];replace hs:=J hs;have y:=Z x j K;rw[<-F]at y;replace y:=J y;clear F;have al:=g.size;have L:W8 (M/2^s %256):=by unfold W8;omega
    have N:=J (vB wr _ L);have O:=J (g.still (aH wr (.cells #[.int .u8 (M/2^s %256)] 5) none)).own;have z:(l++(j7 M k).take j).length=l.length+j:=by simp[Z q];omega
    replace⟨z,g⟩:=bA z g;obtain⟨ax,aC⟩:=E;go_wp2_with (at_builtin;refine rZ (by rfl) _ _ (by rfl) t _ (l++(j7 M k).take j) (by rfl) (Z O) _ _ _ [M/2^s %256] (by rfl) (Z N) ?_ ?_ ?_;(rw[Z z];simp;omega);(simp;omega);rw[Z z];intro P c3 w3 Q R T);go_roundw;case rel=>
     refine⟨j+1,P,c3,by omega,by have:=Z hs;simp;omega,rfl,?_⟩
     rw[Z y,<-fC];exact(Z g).app (aH _ _ _) Q R T
    case measure=>have:=Z hs;simp[intOf];omega
   obtain rfl:j=k:=by omega
   have a1:¬(0:Int)<=S-8*(j:Int):=by have:=Z r;omega
   go_wp2
   go_ret
   refine⟨h,m,rfl,?_⟩
   rw[lC (by rw[Z q];exact aR _)]at g
   exact g
def dI.gM(h:dI w n x V y K)(a:W.grownBy w none)(ho:bn w n x L)(b:W.heap.size<=n):W.grownBy V none:=
 cJ a h.gb (λj e=>.inl (bD b (ho.lt j e).1))
def pS(h:dI w k x W (.slice a i j) L)(l:dZ p)(m:k<=w.heap.size)(hl:L.length<=90000000:=by omega):
 Calls prog 266 #[.slice a i j,.int .u64 p] W λe f=>∃b c d,e=.returned (.slice b c d)/\dI w k x f (.slice b c d) (L++aU p)/\dI W k (.slice a i j) f (.slice b c d) (L++aU p):=by
 have e1:i=L.length:=h.own.gT.2.1;subst e1;apply(IZ k a j L p W h.own l (bD m h.size) hl).mono;rintro e q⟨n,c2,rfl,g⟩;exact⟨n,_,c2,rfl,h.trans g,g⟩
def dI.box{wr:World}(h:dI w n x W y K)(ho:bn wr n x L)(a:wr.heap.size<w.heap.size):W.heap[wr.heap.size]?=w.heap[wr.heap.size]? /\y.ownBlock≠some wr.heap.size:=
 h.apart a (λe=>by have:=(ho.lt _ e).2;omega)
def wu(h:W.heap[n]?=w.heap[n]?)(i:Nat):W.cell? ⟨n,i,none⟩=w.cell? ⟨n,i,none⟩:=jX (w:=w) h
def sA(h0:0<=p-q)(a:p-q<18446744073709551616):IntKind.u64.wrap (p-q)=p-q:=by rw[fD];omega
def BU(w0 w:World)(t:Nat)(a:Option Addr)(c:Nat)(l:List Int)(ra:Option Addr)(n cap:Nat)(rg:List Rg)(ho:bn w t (.slice a l.length c) l)(E:w0.grownBy w none)(L:w0.heap.size<=t)(f:bw w0 ra n cap rg)(q:iQ rg)(F:t<=w.heap.size)(hl:l.length+16*rg.length<=80000000):
 Calls prog 238 #[.slice a l.length c,.slice ra n cap] w λe r=>∃u z A,e=.returned (.slice u z A)/\dI w t (.slice a l.length c) r (.slice u z A) (l++gp rg):=by
 have d:n=rg.length:=f.2.1;have b5:=f.2.2.1;have b0:=f.2.2.2.1;unfold maxLen at b0;have G:=q.1;obtain⟨-,-,-,-,h0|⟨b,o,rfl,-⟩⟩:=id f;omega;have B:∀W,w0.grownBy W none->W.cell? ⟨b,o,none⟩=some (.int .u64 (au rg 0).lo)/\W.cell? ⟨b,o+1,none⟩=some (.int .u64 (au rg 0).hi):=λW g=>by
  have:=(f.an g).cell 0 G;rwa[nV,oM]at this
 have br:=pH f.1 q 0 G;have b3:=(q.2 0 G).1;obtain⟨M,O⟩:=exq ((au rg 0).lo);obtain⟨s,P⟩:=exq ((au rg 0).hi);have ax:lR rg=aU s++aU ((n:Int)-1)++aU (s-M):=by rw[O,P,d];rfl
 simp only[<-O,<-P]at B br b3;obtain⟨⟨v1,v2⟩,v3,v4⟩:=br;have b6:=sA (p:=s) (q:=M) (by omega) (by omega);have i0:(0:Int)<n:=by omega
 have b7:0<n:=by omega
 have b8:l.length+16*n<=80000000:=by omega
 replace⟨hl,d,O,P,ax,B,G⟩:=iR hl d O P ax B G;have G0:=dI.refl ho;obtain⟨z1,z2⟩:=Z B w E;go_enter func238,ntmps238;go_wp2_with fail;apply(pS G0 ⟨v3,v4⟩ F).mono;rintro e w1⟨a1,n1,c1,rfl,G1,-⟩;clear z1 z2;have ca:IntKind.u64.wrap ((n:Int)-1)=(n:Int)-1:=sA (by omega) (by omega);go_wp2_with fail;refine(pS G1 ⟨by omega,by omega⟩ F (by have:=gQ s;simp;omega)).mono ?_;rintro e w2⟨a2,n2,c2,rfl,Q,-⟩;have bt:w2.drew.cell? ⟨b,o,none⟩=some (.int .u64 M)/\w2.drew.cell? ⟨b,o+1,none⟩=some (.int .u64 s):=Z B w2 (Q.gM E ho L);replace⟨Q,G0,G1⟩:=cg Q G0 G1;go_wp2_with fail;go_region_held3 (λr=>r.cell? ⟨b,o,none⟩=some (.int .u64 M)/\r.cell? ⟨b,o+1,none⟩=some (.int .u64 s)) (with_reducible first|exact bx|exact bt)
  (first|(go_at_call 266;refine(pS ((Z Q).still (aV (aB _ _))) ⟨by omega,by omega⟩ F (by have:=gQ s;have:=gQ ((n:Int)-1);simp;omega)).mono ?_;rintro e w3⟨R,S,c3,rfl,H,-⟩;have bx:=Z B w3 (H.gM E ho L);replace H:=J H))
 clear bt;have aC:Hid (dI w t (.slice a l.length c) w3 (.slice R S c3) (l++lR rg)):=J (by rw[Z ax,<-fC,<-fC];exact Z H);clear H;by_cases b4:cap=1
 ·obtain rfl:n=1:=by omega
  subst b4;go_wp2;go_loopw [0,33] (λv i wr=>v=.slice R S c3/\i=.int .i64 0/\wr=w3) (λ_ _ _=>0);case atStart=>exact⟨rfl,rfl,rfl⟩
  case round=>
   obtain⟨rfl,rfl,rfl⟩:=hrel;go_wp2;go_ret;refine⟨R,S,c3,rfl,?_⟩
   have:gp rg=lR rg:=by unfold gp;rw[<-Z d];simp[jJ]
   rw[this];exact Z aC
 go_wp2_with fail;clear bx;obtain⟨N,T⟩:=exq (n-1);rw[<-T];go_loopw [0,33] (λv i wr=>∃(j:Nat)(u:Option Addr)(z A:Nat),j<=N/\i=.int .i64 j/\v=.slice u z A/\dI w t (.slice a l.length c) wr v (l++lR rg++jJ rg j)) (λ_ i _=>N-(intOf i).toNat);case atStart=>exact⟨0,R,S,c3,by omega,rfl,rfl,by simpa [jJ]using Z aC⟩
 case round=>
  obtain⟨j,u,z,A,hj,rfl,rfl,C⟩:=hrel;have gj:=C.gM E ho L;by_cases ch:j<N
  ·obtain⟨p1,-⟩:=(f.an gj).cell j (by have:=Z d;omega);obtain⟨p2,p3⟩:=(f.an gj).cell (j+1) (by have:=Z d;omega);have eo:o+(j+1)*2=o+2+j*2:=by omega
   rw[eo]at p2 p3;clear eo;have f1:=pH f.1 q j (by have:=Z d;omega);have f2:=pH f.1 q (j+1) (by have:=Z d;omega);have f3:=q.2 (j+1) (by have:=Z d;omega);unfold ng at f3;rw[rT]at f3;replace f3:=f3.2.2 (by omega);have f4:=(q.2 (j+1) (by have:=Z d;omega)).1;have a0:jJ rg (j+1)=jJ rg j++(aU ((au rg j).lo-(au rg (j+1)).hi-2)++aU ((au rg (j+1)).hi-(au rg (j+1)).lo)):=rfl;have a3:=λW(g:w0.grownBy W none)=>((f.an g).cell j (by have:=Z d;omega)).1
   generalize (au rg j).lo=x at *;generalize (au rg (j+1)).lo=U at *;generalize (au rg (j+1)).hi=m at *;obtain⟨⟨f10,f11⟩,-⟩:=f1;obtain⟨⟨f20,f21⟩,f22,f23⟩:=f2;have cj:=sA (p:=x) (q:=m) (by omega) (by omega);have cp:=sA (p:=x-m) (q:=2) (by omega) (by omega);have cv:=sA (p:=m) (q:=U) (by omega) (by omega);have i1:(0:Int)<=j:=by omega
   have i2:(j:Int)<n:=by omega
   obtain⟨p,D⟩:=exq (wr.alloc (.cells #[.int .u64 U,.int .u64 m] 200));have a4:p.heap.size=wr.heap.size+1:=by rw[D];simp
   have V:wr.grownBy p none:=by rw[D];exact aH _ _ _
   have bb:p.heap[wr.heap.size]?=some (.cells #[.int .u64 U,.int .u64 m] 200 (0,0)):=by rw[D];exact aO _ _
   have I:∀W:World,W.heap[wr.heap.size]?=p.heap[wr.heap.size]? ->W.cell? ⟨wr.heap.size,0,none⟩=some (.int .u64 U)/\W.cell? ⟨wr.heap.size,1,none⟩=some (.int .u64 m):=λW h=>by
    rw[wu h,wu h];simp[World.cell?,bb]
   have p4:p.drew.cell? ⟨b,o+j*2,none⟩=some (.int .u64 x):=gC_ V p1;have bz:p.drew.cell? ⟨b,o+j*2,none⟩=some (.int .u64 x)/\p.drew.cell? ⟨wr.heap.size,1,none⟩=some (.int .u64 m):=⟨p4,(I p.drew rfl).2⟩
   clear p4;have bj:=C.own;have X:∀k,k<=N->(l++lR rg++jJ rg k).length<=85000000:=λk hk=>by
    have q1:=xX rg k;have q2:(lR rg).length<=24:=by
     have a7:=gQ (au rg 0).hi;have a8:=gQ ((rg.length:Int)-1);have a9:=gQ ((au rg 0).hi-(au rg 0).lo);simp only[lR,bH];omega
    simp only[bH];omega
   replace⟨C,bj,I,bb,a0,a3,X,T,V⟩:=pT C bj I bb a0 a3 X T V;replace a4:=J a4;clear aC;go_wp2_with fail;rw[<-D];replace D:=J D;go_region_held3 (λr=>r.cell? ⟨b,o+j*2,none⟩=some (.int .u64 x)/\r.cell? ⟨wr.heap.size,1,none⟩=some (.int .u64 m)) (with_reducible first|exact bM|exact bz)
    (first|(go_at_call 266;refine(pS ((Z C).still (aV (Z V))) ⟨by omega,by omega⟩ F (by have:=Z X j (by omega);omega)).mono ?_;rintro e K⟨a5,n5,c5,rfl,Y,L5⟩;have al:=L5.box (Z bj) (by have:=Z a4;show _<p.heap.size;omega);have bM:K.cell? ⟨b,o+j*2,none⟩=some (.int .u64 x)/\K.cell? ⟨wr.heap.size,1,none⟩=some (.int .u64 m):=⟨Z a3 K (Y.gM E ho L),(Z I K al.1).2⟩;replace al:=J al;replace L5:=J L5;replace Y:=J Y))
   obtain⟨-,y2⟩:=bM;have y1:=(Z I K (Z al).1).1;clear bz p1 p2 p3;go_wp2_with fail;refine(pS (Z Y) ⟨by omega,by omega⟩ F (by have:=Z X j (by omega);have:=gQ (x-m-2);rw[bH];omega)).mono ?_;rintro e w6⟨a6,n6,c6,rfl,G6,-⟩;go_wp2;go_roundw;case rel=>
    refine⟨j+1,a6,n6,c6,by omega,by simp,rfl,?_⟩
    rw[Z a0,<-fC,<-fC];exact G6
   case measure=>simp[intOf];omega
  obtain rfl:j=N:=by omega
  go_wp2;go_ret;refine⟨u,z,A,rfl,?_⟩
  unfold gp;rw[<-fC,<-Z d,<-T];exact C
def I0(s:ByteArray):Lib.strCells s=bv (aG s):=by
 unfold Lib.strCells bv aG;rw[tH];rfl
def I1(ty:TypeId)(e:Nat)(v:Value)(l:List Int)(h:bn w e v l)(s:ByteArray)(H:l.length+s.size<=100000000)(u:e<=w.heap.size):
 ∃b i c d,(Builtin.append_ #[112,9] ty #[v,.string s]).run prog w=.ok (.slice b i c) d/\bn d e (.slice b i c) (l++aG s)/\w.grownBy d v.ownBlock/\((Value.slice b i c).ownBlock=v.ownBlock\/(Value.slice b i c).ownBlock=some w.heap.size):=by
 obtain⟨j,hi,k,m,n⟩:=lD xV;obtain⟨p,d,f,r,x,z⟩:=Lib.run_append_own_string (P:=prog) w e 112 9 ty 5 j underlying112 underlying9 hi k m n v l.length (bv l) h.2 s (by simp[maxLen];omega) (by omega) u;have t:p.ownBlock=v.ownBlock\/p.ownBlock=some w.heap.size:=by
  obtain⟨-,hl,⟨rfl,I⟩|⟨g,cap,A,rfl,K,B,L,M,C,N⟩⟩:=id h;by_cases D:s.size=0;rw[z.2 ⟨rfl,D⟩];exact .inl rfl;have a:=run_append_nil_string (P:=prog) w 112 9 ty 5 j _ underlying112 underlying9 hi k s (by omega) (by omega) (by rw[n];omega);rw[f]at a;simp only[Result.ok.injEq]at a;rw[a.1];exact .inr rfl;by_cases E:l.length+s.size<=cap;have a:=Lib.run_append_room_string (P:=prog) w 112 9 ty 5 j underlying112 underlying9 hi m g l.length cap A B s E (by rw[C];omega);rw[f]at a;simp only[Result.ok.injEq]at a;rw[a.1];exact .inl rfl;have a:=Lib.run_append_grow_string (P:=prog) w 112 9 ty 5 j _ underlying112 underlying9 hi k ⟨g,0,none⟩ l.length cap (bv l) (by rw[m,fL];omega) (h.2.cells (g:=g) rfl) s (by omega) (by omega) (by rw[n];exact growslice_fits (by omega) (by omega));rw[f]at a;simp only[Result.ok.injEq]at a;rw[a.1];exact .inr rfl
 have q:bn d e p (l++aG s):=by
  refine⟨λy F=>(bQ.1 F).elim (h.1 y) (qA s y),?_⟩
  rw[I0]at r;rw[bH,fH];simpa [bv]using r
 obtain⟨b,c,G,_⟩:=q.bs;rw[G]at f q t;exact⟨b,_,c,d,f,q,x,t⟩
def I2{K:Act->World->Prop}(s x:Operand)
 (ho:u.op=.call {callee:=.builtin .append,args:= #[s,x],argTypes:= #[112,9]})
 (f:Nat) (v:Value) (l:List Int) (hs:F.eval s=v) (g:bn w f v l) (d:ByteArray) (i:F.eval x=.string d) (j:l.length+d.size<=100000000) (k:f<=w.heap.size)
 (h:∀a b c e,bn e f (.slice a b c) (l++aG d)->w.grownBy e v.ownBlock->((Value.slice a b c).ownBlock=v.ownBlock\/(Value.slice a b c).ownBlock=some w.heap.size)->
   K (F.put u.dst (.slice a b c)) e):Oper.wp prog u F w K H:=by
 obtain⟨a,b,c,e,m,n,p,q⟩:=I1 (w:=w) u.type f v l g d j k;unfold Oper.wp execOp;simp only[ho,resolve,invoke,builtin,je,mr,jd,nU,ky,mZ,hs,i,m]
 exact h a b c e n p q
def I3{g:Array Oper}{K:Act->World->Prop}{E:Prop}(i:u.guard=none)(s x:Operand)
 (ho:u.op=.call {callee:=.builtin .append,args:= #[s,x],argTypes:= #[112,9]})
 (a:Nat) (v:Value) (l:List Int) (hs:F.eval s=v) (j:bn w a v l) (d:ByteArray) (k:F.eval x=.string d) (m:l.length+d.size<=100000000) (n:a<=w.heap.size)
 (h:∀b c e f,bn f a (.slice b c e) (l++aG d)->w.grownBy f v.ownBlock->((Value.slice b c e).ownBlock=v.ownBlock\/(Value.slice b c e).ownBlock=some w.heap.size)->
   K (F.put u.dst (.slice b c e)) f):if Region.wanted u (yielded g F.tmps)=true then Oper.wp prog u F w K H else E:=by
 have p:Region.wanted u (yielded g F.tmps)=true:=by simp[Region.wanted,i]
 rw[aD p];exact I2 s x ho a v l hs j d k m n h
def Wr(d:World)(f:Fr)(j k:Value)(l:List Int):Prop:=
 ∃F cap,k=.func (.func F) #[] cap/\(∀args w,(callFunc F args).run prog w=.ok (.enter F args) w)/\∀(w:World)(b:Nat)(a:Option Addr)(n c:Nat)(m:List Int),d.grownBy w none->d.heap.size<=b->b<=w.heap.size->bn w b (.slice a n c) m->m.length+16*f.ranges.length+f.data.size<=79000000->
  Calls prog F (#[.slice a n c,.agg (bO f j)]++cap) w λe p=>∃g h i,e=.returned (.slice g h i)/\dI w b (.slice a n c) p (.slice g h i) (m++l)
def I4(args:Array Value)(w:World):(callFunc 272 args).run prog w=.ok (.enter 272 args) w:=by kernel_rfl
def BV(args:Array Value)(w:World):(callFunc 275 args).run prog w=.ok (.enter 275 args) w:=by kernel_rfl
def I5(args:Array Value)(w:World):(callFunc 269 args).run prog w=.ok (.enter 269 args) w:=by kernel_rfl
def I6(args:Array Value)(w:World):(callFunc 265 args).run prog w=.ok (.enter 265 args) w:=by kernel_rfl
def BW(X:Nat)(w:World):Calls prog 230 #[.pointer (some ⟨X,0,none⟩)] w λe a=>e=.returned (.pointer (some ⟨X,2,none⟩))/\a=w:=by
 go_enter func230,ntmps230;go_wp2;go_ret;exact⟨rfl,rfl⟩
def BX(X:Nat)(w:World):Calls prog 231 #[.pointer (some ⟨X,0,none⟩)] w λe a=>e=.returned (.pointer (some ⟨X,3,none⟩))/\a=w:=by
 go_enter func231,ntmps231;go_wp2;go_ret;exact⟨rfl,rfl⟩
def yL(b:World)(f:Fr)(g:Value)(B:Nat)(h:b.cell? ⟨B,0,none⟩=some (.func (.func 230) #[] #[]))(i:dZ f.offset):
 Wr b f g (.func (.func 275) #[] #[.pointer (some ⟨B,0,none⟩)]) (aU f.offset):=by
 refine⟨_,_,rfl,BV,λw r a n c m j t l ho hl=>?_⟩
 obtain⟨k,s,o,cd,fin,d,rg⟩:=f;have u:(w.alloc (.cells #[.int .i64 k,.int .i64 s,.int .u64 o,.int .u64 cd,.bool fin,.string d,g] 158)).cell? ⟨B,0,none⟩=some (.func (.func 230) #[] #[]):=(aH w _ none).cell (gC_ j h) (by simp);have G:=λob=>(dI.refl ho).still (aH w ob none)
 simp only[bO]at *;replace G:=J G;clear h;go_enter func275,ntmps275;go_wp2_with fail;apply(BW _ _).mono;rintro e v⟨rfl,rfl⟩;go_wp2_with fail;apply(pS (Z G _) i l).mono;rintro e x⟨p,n2,c2,rfl,q,-⟩;go_wp2;go_ret;exact⟨p,n2,c2,rfl,q⟩
def BY(b:World)(f:Fr)(g:Value)(B:Nat)(h:b.cell? ⟨B,0,none⟩=some (.func (.func 231) #[] #[]))(i:dZ f.code):
 Wr b f g (.func (.func 275) #[] #[.pointer (some ⟨B,0,none⟩)]) (aU f.code):=by
 refine⟨_,_,rfl,BV,λw r a n c m j t l ho hl=>?_⟩
 obtain⟨k,s,o,cd,fin,d,rg⟩:=f;have u:(w.alloc (.cells #[.int .i64 k,.int .i64 s,.int .u64 o,.int .u64 cd,.bool fin,.string d,g] 158)).cell? ⟨B,0,none⟩=some (.func (.func 231) #[] #[]):=(aH w _ none).cell (gC_ j h) (by simp);have G:=λob=>(dI.refl ho).still (aH w ob none)
 simp only[bO]at *;replace G:=J G;clear h;go_enter func275,ntmps275;go_wp2_with fail;apply(BX _ _).mono;rintro e v⟨rfl,rfl⟩;go_wp2_with fail;apply(pS (Z G _) i l).mono;rintro e x⟨p,n2,c2,rfl,q,-⟩;go_wp2;go_ret;exact⟨p,n2,c2,rfl,q⟩
def yM(b:World)(f:Fr)(g:Value)(l:0<=f.stream)(p:f.stream<4):
 Wr b f g (.func (.func 265) #[] #[]) (aU f.stream):=by
 refine⟨_,_,rfl,I6,λw q a n c m r t h ho hl=>?_⟩
 obtain⟨k,s,o,cd,fin,d,rg⟩:=f;have G:=λob=>(dI.refl ho).still (aH w ob none)
 simp only[bO]at *;replace G:=J G;have u:IntKind.u64.wrap s=s:=by rw[fD];omega
 go_enter func265,ntmps265;go_wp2_with fail;apply(pS (Z G _) ⟨by omega,by omega⟩ h).mono;rintro e v⟨i,n2,c2,rfl,j,-⟩;go_wp2;go_ret;exact⟨i,n2,c2,rfl,j⟩
def I7(b:World)(f:Fr)(g:Value)(h:dA b f g)(i:iQ f.ranges):
 Wr b f g (.func (.func 269) #[] #[]) (gp f.ranges):=by
 obtain⟨-,-,ra,cap,rfl,j⟩:=h;refine⟨_,_,rfl,I5,λw l a n c m p q x ho hl=>?_⟩
 obtain⟨k,s,o,cd,fin,d,rg⟩:=f;have r:n=m.length:=ho.gT.2.1;subst r;have y:m.length+16*rg.length+d.size<=79000000:=hl;have t:=J (λob=>BU b (w.alloc ob) l a c m ra rg.length cap rg (ho.an (aH w ob none)) (aY p ob) q j i (by simp;omega) (by omega));have G:=J (λob=>(dI.refl ho).still (aH w ob none));simp only[bO]at *;go_enter func269,ntmps269;go_wp2_with fail;apply(Z t _).mono;rintro e z⟨u,n2,c2,rfl,v⟩;go_wp2;go_ret;exact⟨u,n2,c2,rfl,(Z G _).trans v⟩
def BZ(y:World)(f:Fr)(p:Value):
 Wr y f p (.func (.func 272) #[] #[]) (aU f.data.size++aG f.data):=by
 refine⟨_,_,rfl,I4,λw z a n c m L M x ho hl=>?_⟩
 obtain⟨k,s,o,cd,fin,d,rg⟩:=f;have G:=λob=>(dI.refl ho).still (aH w ob none)
 simp only[bO]at *;have N:IntKind.u64.wrap (d.size:Int)=(d.size:Int):=by rw[fD];omega
 obtain⟨b,g⟩:=exq (w.alloc (.cells #[.int .i64 k,.int .i64 s,.int .u64 o,.int .u64 cd,.bool fin,.string d,p] 158));have u:b.heap[w.heap.size]?=some (.cells #[.int .i64 k,.int .i64 s,.int .u64 o,.int .u64 cd,.bool fin,.string d,p] 158 (0,0)):=by rw[g];exact aO _ _
 have q:b.heap.size=w.heap.size+1:=by rw[g];simp
 have i:∀W:World,W.heap[w.heap.size]?=b.heap[w.heap.size]? ->W.cell? ⟨w.heap.size,5,none⟩=some (.string d):=λW h=>by
  rw[wu h];simp[World.cell?,u]
 have A:b.drew.cell? ⟨w.heap.size,5,none⟩=some (.string d):=i b.drew rfl;have O:=gQ (d.size:Int);replace G:=G (.cells #[.int .i64 k,.int .i64 s,.int .u64 o,.int .u64 cd,.bool fin,.string d,p] 158);rw[<-g]at G;replace⟨G,i,u,q,ho⟩:=eR G i u q ho;go_enter func272,ntmps272;go_wp2_with fail;rw[<-g];replace g:=J g;go_region_held3 (λB=>B.cell? ⟨w.heap.size,5,none⟩=some (.string d)) (with_reducible first|exact C|exact D|exact A)
  (first
    |(go_at_call 266;apply(pS ((Z G).still (aV (aB _ _))) ⟨by omega,by omega⟩ x).mono;rintro e E⟨P,n2,c2,rfl,j,r⟩;have l:=r.box (Z ho) (by have:=Z q;show _<b.heap.size;omega);have D:=Z i E l.1;replace l:=J l;replace r:=J r;replace j:=J j)
    |(refine I3 (by rfl) _ _ (by rfl) z _ (m++aU (d.size:Int)) (by rfl) (Z j).own d (by rfl) (by rw[bH];omega) (bD x (Z j).size) ?_;intro F H c3 I v t K;have C:=Z i I ((t.block w.heap.size (by have:=(Z r).size;have:=Z q;have:b.drew.heap.size=b.heap.size:=rfl;omega) (λe=>(Z l).2 e.symm)).trans (Z l).1);replace t:=J t;replace v:=J v))
 go_wp2;go_ret;exact⟨F,H,c3,rfl,by rw[<-fC];exact(Z j).app (aB _ _) (Z v) (Z t) K⟩
def iz:List (List Int)->List Int
 |[]=>[]
 |x::r=>x++iz r
def B1(l r:List (List Int)):iz (l++r)=iz l++iz r:=by
 induction l with
 |nil=>rfl
 |cons x l a=>simp[iz,a]
def I8(l:List (List Int))(j:Nat)(h:j<l.length):iz (l.take (j+1))=iz (l.take j)++l.getD j []:=by
 rw[rP h,B1,List.getD,eI h];simp[iz]
def I9(l:List (List Int))(j:Nat):(iz (l.take j)).length<=(iz l).length:=by
 have h:=fG List.length (fG iz (pr j l));rw[B1,bH]at h;omega
def B6(b:World)(f:Fr)(e g:Value)(a:List (List Int)):Prop:=
 ∃pa c,g=.slice pa a.length c/\a.length<=3/\a.length<=c/\(a=[]\/∃P,pa=some ⟨P,0,none⟩/\∀i,i<a.length->∃d R h,b.cell? ⟨P,i*2,none⟩=some d/\b.cell? ⟨P,i*2+1,none⟩=some (.func (.func R) #[] h)/\Wr b f e d (a.getD i []))
def Ja{a b f:Obj}(c:(((w.alloc a).alloc b).alloc f).grownBy W N)(d:∀j,N=some j->j<w.heap.size):W.heap[w.heap.size]?=some a/\W.heap[w.heap.size+1]?=some b:=by
 constructor;rw[c.block w.heap.size (by simp;omega) (λe=>by have:=d _ e.symm;omega),fE _ _ _ (by simp;omega),fE _ _ _ (by simp)];exact aO _ _;rw[c.block (w.heap.size+1) (by simp) (λe=>by have:=d _ e.symm;omega),fE _ _ _ (by simp),<-dL w a];exact aO _ _
def Jb(M:World)(f:Fr)(u W:Value)(g:List (List Int))(O:Int)(Q:Bool)(t:Int)(ht:W8 t)(hp:B6 M f u W g)
 (w:World) (p:Nat) (a:Option Addr) (n c:Nat) (m:List Int) (g0:M.grownBy w none) (X:M.heap.size<=p) (bM:p<=w.heap.size) (ho:bn w p (.slice a n c) m) (hl:m.length+1+(iz g).length+16*f.ranges.length+f.data.size<=79000000):
 Calls prog 193 #[.agg #[.int .i64 O,.bool Q,.int .u8 t,W],.slice a n c,.agg (bO f u)] w λe w'=>∃x y z,e=.returned (.slice x y z)/\dI w p (.slice a n c) w' (.slice x y z) (m++(t::iz g)):=by
 obtain⟨pa,S,rfl,a9,bb,K⟩:=hp;obtain⟨k,s,o,cd,fin,d,rg⟩:=f;have b0:m.length+1+(iz g).length+16*rg.length+d.size<=79000000:=hl;have hn:n=m.length:=ho.gT.2.1;subst hn;simp only[bO]at *;have gW:w.grownBy ((w.alloc (.cells #[.int .i64 O,.bool Q,.int .u8 t,.slice pa g.length S] 317)).alloc (.cells #[.int .i64 k,.int .i64 s,.int .u64 o,.int .u64 cd,.bool fin,.string d,u] 158)) none:=aY (aY (aB _ _) _) _;have A:=vB ((w.alloc (.cells #[.int .i64 O,.bool Q,.int .u8 t,.slice pa g.length S] 317)).alloc (.cells #[.int .i64 k,.int .i64 s,.int .u64 o,.int .u64 cd,.bool fin,.string d,u] 158)) t ht;have C:=((dI.refl ho).still gW).still (aH _ (.cells #[.int .u8 t] 5) none);rw[dL,dL]at A;have Y:=J C.own;replace⟨C,A⟩:=bA C A;have al:=J (λj(e:(Value.slice a m.length c).ownBlock=some j)=>(ho.lt j e).2);go_enter func193,ntmps193;go_wp2_with (at_builtin;refine rZ (by rfl) _ _ (by rfl) p _ m (by rfl) (Z Y) _ _ _ [t] (by rfl) (Z A) ?_ ?_ ?_;(simp;omega);(simp;omega);intro D c3 w3 L E G;obtain⟨T,U⟩:=Ja E (Z al);replace T:w3.cell? ⟨w.heap.size,3,none⟩=some (.slice pa g.length S):=(by simp[World.cell?,T]);replace L:=J L;replace E:=J E;replace G:=J G;replace U:=J U);clear T A Y;have bt:Hid (dI w p (.slice a m.length c) w3 (.slice D (m.length+1) c3) (m++[t])):=J ((Z C).app (aB _ _) (Z L) (Z E) (Z G));have bx:Hid ((Value.slice D (m.length+1) c3).ownBlock≠some (w.heap.size+1)):=J (by
  have g5:(Value.slice D (m.length+1) c3).ownBlock=(Value.slice a m.length c).ownBlock\/(Value.slice D (m.length+1) c3).ownBlock=some (((w.alloc _).alloc _).alloc _).heap.size:=Z G;obtain e|e:=g5
  rw[e];exact λh=>by have:=Z al _ h;omega
  ·rw[e];simp;omega)
 clear L E G C;obtain⟨N,q⟩:=exq g.length;rw[<-q];rw[<-q]at a9 bb;replace q:=J q;go_loopw [1,17] (λv i wr=>∃(j:Nat)(x:Option Addr)(y z:Nat),j<=N/\i=.int .i64 j/\v=.slice x y z/\dI w p (.slice a m.length c) wr v (m++t::iz (g.take j))/\v.ownBlock≠some (w.heap.size+1)/\wr.heap[w.heap.size+1]?=some (.cells #[.int .i64 k,.int .i64 s,.int .u64 o,.int .u64 cd,.bool fin,.string d,u] 158 (0,0))) (λ_ i _=>N-(intOf i).toNat);case atStart=>exact⟨0,D,_,c3,by omega,rfl,rfl,by simpa [iz]using Z bt,Z bx,Z U⟩
 case round=>
  obtain⟨j,x,y,z,hj,rfl,rfl,r,V,H⟩:=hrel;by_cases b4:j<N
  ·obtain rfl|⟨P,rfl,K⟩:=K
   have:=Z q;simp at this;omega;obtain⟨wv,R,l,q1,q2,F,cap,rfl,hE,hF⟩:=K j (by have:=Z q;omega);have I:=r.gM g0 ho X;replace q1:=gC_ I q1;replace q2:=gC_ I q2;have b:∀ob,(wr.alloc ob).heap[w.heap.size+1]?=some (.cells #[.int .i64 k,.int .i64 s,.int .u64 o,.int .u64 cd,.bool fin,.string d,u] 158 (0,0)):=λob=>by
    rw[fE _ _ _ (aZ.1 H).1];exact H
   replace b:=b (.cells #[.func (.func F) #[] cap,.func (.func R) #[] l] 356);have r0:(wr.alloc (.cells #[.func (.func F) #[] cap,.func (.func R) #[] l] 356)).cell? ⟨w.heap.size+1,0,none⟩=some (.int .i64 k):=by simp only[World.cell?,b];rfl
   have r1:(wr.alloc (.cells #[.func (.func F) #[] cap,.func (.func R) #[] l] 356)).cell? ⟨w.heap.size+1,1,none⟩=some (.int .i64 s):=by simp only[World.cell?,b];rfl
   have r2:(wr.alloc (.cells #[.func (.func F) #[] cap,.func (.func R) #[] l] 356)).cell? ⟨w.heap.size+1,2,none⟩=some (.int .u64 o):=by simp only[World.cell?,b];rfl
   have r3:(wr.alloc (.cells #[.func (.func F) #[] cap,.func (.func R) #[] l] 356)).cell? ⟨w.heap.size+1,3,none⟩=some (.int .u64 cd):=by simp only[World.cell?,b];rfl
   have r4:(wr.alloc (.cells #[.func (.func F) #[] cap,.func (.func R) #[] l] 356)).cell? ⟨w.heap.size+1,4,none⟩=some (.bool fin):=by simp only[World.cell?,b];rfl
   have r5:(wr.alloc (.cells #[.func (.func F) #[] cap,.func (.func R) #[] l] 356)).cell? ⟨w.heap.size+1,5,none⟩=some (.string d):=by simp only[World.cell?,b];rfl
   have r6:(wr.alloc (.cells #[.func (.func F) #[] cap,.func (.func R) #[] l] 356)).cell? ⟨w.heap.size+1,6,none⟩=some u:=by simp only[World.cell?,b];rfl
   have i1:(0:Int)<=j:=by omega
   have i2:(j:Int)<N:=by omega
   replace⟨H,b,hF,r,I,V⟩:=nZ H b hF r I V;clear K;go_wp2_with fail;refine(Z hF (wr.alloc (.cells #[.func (.func F) #[] cap,.func (.func R) #[] l] 356)) p x y z _ (aY (Z I) _) X ?_ ((Z r).still (aH _ _ _)).own ?_).mono ?_;have:=(Z r).size;simp;omega;have:=I9 g j;simp only[bH,dc];omega;rintro e w5⟨a5,n5,c5,rfl,G5⟩;have a2:=G5.apart (B:=w.heap.size+1) (by have:=(aZ.1 (Z H)).1;simp;omega) (Z V);go_wp2;go_roundw;case rel=>
    refine⟨j+1,a5,n5,c5,by omega,by simp,rfl,?_,a2.2,a2.1.trans (Z b)⟩
    rw[I8 g j (by have:=Z q;omega)];have:=((Z r).still (aH _ _ _)).trans G5;simpa [fC]using this
   case measure=>simp[intOf];omega
  obtain rfl:j=N:=by omega
  go_wp2;go_ret;refine⟨x,y,z,rfl,?_⟩
  rw[lC (by rw[<-Z q];exact aR _)]at r;exact r
def sW:Value:=.func (.func 265) #[] #[]
def sR:Value:=.func (.func 267) #[] #[]
def rW:Value:=.func (.func 269) #[] #[]
def rR:Value:=.func (.func 270) #[] #[]
def bW:Value:=.func (.func 272) #[] #[]
def bR:Value:=.func (.func 273) #[] #[]
def nW(B:Nat):Value:=.func (.func 275) #[] #[.pointer (some ⟨B,0,none⟩)]
def nR(B:Nat):Value:=.func (.func 276) #[] #[.pointer (some ⟨B,0,none⟩)]
def sB(a:Fn)(first cap:Array Value)(w:World):(Instr.makeFunc a first cap).run prog w=.ok (.func a first cap) w:=rfl
def Jc(w:World):Calls prog 226 #[] w λe a=>e=.returned (.agg #[.func (.func 265) #[] #[],.func (.func 267) #[] #[]])/\w.grownBy a none:=by
 have b:=sB;go_enter func226,ntmps226;go_wp2_with fail;refine cF (v:=.agg #[.func (.func 265) #[] #[],.func (.func 267) #[] #[]]) ?_ rfl ⟨rfl,?_⟩
 ·simp[results,results226,go_sem]
 exact aH _ _ _
def Jd(w:World):Calls prog 227 #[] w λe a=>e=.returned (.agg #[.func (.func 269) #[] #[],.func (.func 270) #[] #[]])/\w.grownBy a none:=by
 have b:=sB;go_enter func227,ntmps227;go_wp2_with fail;refine cF (v:=.agg #[.func (.func 269) #[] #[],.func (.func 270) #[] #[]]) ?_ rfl ⟨rfl,?_⟩
 ·simp[results,results227,go_sem]
 exact aH _ _ _
def Je(w:World):Calls prog 228 #[] w λe a=>e=.returned (.agg #[.func (.func 272) #[] #[],.func (.func 273) #[] #[]])/\w.grownBy a none:=by
 have b:=sB;go_enter func228,ntmps228;go_wp2_with fail;refine cF (v:=.agg #[.func (.func 272) #[] #[],.func (.func 273) #[] #[]]) ?_ rfl ⟨rfl,?_⟩
 ·simp[results,results228,go_sem]
 exact aH _ _ _
def B7(F B:Nat)(w:World)(b:B=w.heap.size):Calls prog 229 #[.func (.func F) #[] #[]] w λe a=>e=.returned (.agg #[.func (.func 275) #[] #[.pointer (some ⟨B,0,none⟩)],.func (.func 276) #[] #[.pointer (some ⟨B,0,none⟩)]])/\a.cell? ⟨B,0,none⟩=some (.func (.func F) #[] #[])/\w.grownBy a none:=by
 subst b;have c:=sB;go_enter func229,ntmps229;go_wp2_with fail;refine cF (v:=.agg #[.func (.func 275) #[] #[.pointer (some ⟨w.heap.size,0,none⟩)],.func (.func 276) #[] #[.pointer (some ⟨w.heap.size,0,none⟩)]]) ?_ rfl ⟨rfl,?_,?_⟩
 ·simp[results,results229,go_sem]
 simp;exact aY (aH _ _ _) _
def B8(a b c d e:Nat):List Value:=
 [.int .i64 1,.bool false,.int .u8 0,.slice none 0 0,.int .i64 2,.bool false,.int .u8 1,.slice none 0 0,.int .i64 3,.bool false,.int .u8 2,.slice (some ⟨a,0,none⟩) 1 1,.int .i64 4,.bool false,.int .u8 4,.slice (some ⟨b,0,none⟩) 3 3,.int .i64 5,.bool false,.int .u8 8,.slice (some ⟨c,0,none⟩) 3 3,.int .i64 5,.bool true,.int .u8 9,.slice (some ⟨d,0,none⟩) 3 3,.int .i64 6,.bool false,.int .u8 28,.slice (some ⟨e,0,none⟩) 1 1]
structure jN(W:World)(T c d e f g a b:Nat):Prop where
 tab:W.rangeAt T 0 (B8 c d e f g)
 p2:W.rangeAt c 0 [rW,rR]
 p3:W.rangeAt d 0 [sW,sR,nW b,nR b,nW a,nR a]
 p4:W.rangeAt e 0 [sW,sR,nW a,nR a,bW,bR]
 p5:W.rangeAt f 0 [sW,sR,nW a,nR a,bW,bR]
 p6:W.rangeAt g 0 [nW b,nR b]
 bo:W.cell? ⟨a,0,none⟩=some (.func (.func 230) #[] #[])
 bc:W.cell? ⟨b,0,none⟩=some (.func (.func 231) #[] #[])
def jN.an(h:jN w n k i j l m o b)(g:w.grownBy W none):jN W n k i j l m o b:=
 ⟨jh h.tab g (by simp),jh h.p2 g (by simp),jh h.p3 g (by simp),jh h.p4 g (by simp),jh h.p5 g (by simp),jh h.p6 g (by simp),gC_ g h.bo,gC_ g h.bc⟩
def Jf(w:World)(g a b c d e f:Obj)(W:World)(h:W=((((((w.alloc g).alloc a).alloc b).alloc c).alloc d).alloc e).alloc f):
 W.heap[w.heap.size+1]?=some a/\W.heap[w.heap.size+1+1]?=some b/\W.heap[w.heap.size+1+1+1]?=some c/\W.heap[w.heap.size+1+1+1+1]?=some d/\W.heap[w.heap.size+1+1+1+1+1]?=some e/\W.heap[w.heap.size+1+1+1+1+1+1]?=some f/\w.grownBy W none:=by
 subst h;refine⟨?_,?_,?_,?_,?_,?_,aY (aY (aY (aY (aY (aY (aH _ _ _) _) _) _) _) _) _⟩
 all_goals
  simp only[World.alloc,Array.getElem?_push,Array.size_push]
  repeat(first|rw[aD trivial]|rw[iP_]|rw[iN_])
def B9(w:World):Calls prog 189 #[] w λe u=>∃T C E F G H I K,e=.returned (.slice (some ⟨T,0,none⟩) 7 7)/\jN u T C E F G H I K/\w.grownBy u none:=by
 go_enter func189,ntmps189;go_wp2_with fail;apply(Jc _).mono;rintro e w1⟨rfl,v⟩;go_wp2_with fail;apply(Jd _).mono;rintro e w2⟨rfl,x⟩;go_wp2_with fail;apply(Je _).mono;rintro e l⟨rfl,y⟩;go_wp2_with fail;obtain⟨A,i⟩:=exq l.heap.size;obtain⟨b,c⟩:=exq ((((l.alloc (.cells #[.func (.func 265) #[] #[],.func (.func 267) #[] #[]] 356)).alloc (.cells #[.func (.func 269) #[] #[],.func (.func 270) #[] #[]] 356)).alloc (.cells #[.func (.func 272) #[] #[],.func (.func 273) #[] #[]] 356)));have m:b.heap[A]?=some (.cells #[.func (.func 265) #[] #[],.func (.func 267) #[] #[]] 356 (0,0))/\b.heap[A+1]?=some (.cells #[.func (.func 269) #[] #[],.func (.func 270) #[] #[]] 356 (0,0))/\b.heap[A+1+1]?=some (.cells #[.func (.func 272) #[] #[],.func (.func 273) #[] #[]] 356 (0,0)):=by
  rw[c,i];refine⟨?_,?_,?_⟩
  rw[fE _ _ _ (by simp;omega),fE _ _ _ (by simp)];exact aO _ _;rw[fE _ _ _ (by simp),<-dL l (.cells #[.func (.func 265) #[] #[],.func (.func 267) #[] #[]] 356)];exact aO _ _;have:=aO ((l.alloc (.cells #[.func (.func 265) #[] #[],.func (.func 267) #[] #[]] 356)).alloc (.cells #[.func (.func 269) #[] #[],.func (.func 270) #[] #[]] 356)) (.cells #[.func (.func 272) #[] #[],.func (.func 273) #[] #[]] 356);rwa[dL,dL]at this
 have L:b.heap.size=A+3:=by rw[c,i];simp
 have z:w.grownBy b none:=by rw[c];exact aY (aY (aY (aq (aq v x) y) _) _) _
 rw[<-c];simp only[<-i]
 replace⟨c,i,m⟩:=cg c i m;clear v x y;apply(B7 230 (A+3) b L.symm).mono;rintro e d⟨rfl,c4,n⟩;have a3:=n.size;replace c4:=J c4;go_wp2_with fail;obtain⟨p,f⟩:=exq (d.alloc (.cells #[.func (.func 275) #[] #[.pointer (some ⟨A+3,0,none⟩)],.func (.func 276) #[] #[.pointer (some ⟨A+3,0,none⟩)]] 356));have r:p.heap[d.heap.size]?=some (.cells #[.func (.func 275) #[] #[.pointer (some ⟨A+3,0,none⟩)],.func (.func 276) #[] #[.pointer (some ⟨A+3,0,none⟩)]] 356 (0,0)):=by rw[f];exact aO _ _
 have s:d.grownBy p none:=by rw[f];exact aH _ _ _
 have M:p.heap.size=d.heap.size+1:=by rw[f];simp
 rw[<-f];replace⟨f,r⟩:=bA f r;apply(B7 231 (d.heap.size+1) p M.symm).mono;rintro e a⟨rfl,c5,h⟩;have a4:=h.size;replace c5:=J c5;obtain⟨D,N⟩:=exq d.heap.size;simp only[<-N]at *;have j:Hid (∀W,a.grownBy W none->W.heap[A]?=some (.cells #[.func (.func 265) #[] #[],.func (.func 267) #[] #[]] 356 (0,0))/\W.heap[A+1]?=some (.cells #[.func (.func 269) #[] #[],.func (.func 270) #[] #[]] 356 (0,0))/\W.heap[A+1+1]?=some (.cells #[.func (.func 272) #[] #[],.func (.func 273) #[] #[]] 356 (0,0))/\W.heap[D]?=some (.cells #[.func (.func 275) #[] #[.pointer (some ⟨A+3,0,none⟩)],.func (.func 276) #[] #[.pointer (some ⟨A+3,0,none⟩)]] 356 (0,0))/\W.cell? ⟨A+3,0,none⟩=some (.func (.func 230) #[] #[])/\W.cell? ⟨D+1,0,none⟩=some (.func (.func 231) #[] #[])):=J (λW g=>by
  have q:=aq (aq (aq n s) h) g;have O:=aq h g;obtain⟨P,Q,R⟩:=Z m;exact⟨(q.block A (by omega) (by simp)).trans P,(q.block (A+1) (by omega) (by simp)).trans Q,(q.block (A+1+1) (by omega) (by simp)).trans R,(O.block D (by omega) (by simp)).trans (Z r),(aq (aq s h) g).cell (Z c4) (by simp),gC_ g (Z c5)⟩)
 have t:w.grownBy a none:=aq (aq (aq z n) s) h;clear m r c4 c5 n s h z;replace t:=J t;have S:Hid (∀W,(a.alloc (.cells #[.func (.func 275) #[] #[.pointer (some ⟨D+1,0,none⟩)],.func (.func 276) #[] #[.pointer (some ⟨D+1,0,none⟩)]] 356)).grownBy W none->W.heap[a.heap.size]?=some (.cells #[.func (.func 275) #[] #[.pointer (some ⟨D+1,0,none⟩)],.func (.func 276) #[] #[.pointer (some ⟨D+1,0,none⟩)]] 356 (0,0))):=J (λW g=>(g.block a.heap.size (by simp) (by simp)).trans (aO _ _));have k:Hid ((prog.info? 356).map (·.size)=some 2):=J (by kernel_rfl);go_wp2_with (first
  |(refine px (by rfl) 356 _ (by rfl) A (by rfl) 356 _ (0,0) _ ((Z j _ ?_).1) underlying356 (by rfl) (Z k) ?_;(repeat(first|exact aB _ _|refine aY ?_ _)))
  |(refine px (by rfl) 356 _ (by rfl) (A+1) (by rfl) 356 _ (0,0) _ ((Z j _ ?_).2.1) underlying356 (by rfl) (Z k) ?_;(repeat(first|exact aB _ _|refine aY ?_ _)))
  |(refine px (by rfl) 356 _ (by rfl) (A+1+1) (by rfl) 356 _ (0,0) _ ((Z j _ ?_).2.2.1) underlying356 (by rfl) (Z k) ?_;(repeat(first|exact aB _ _|refine aY ?_ _)))
  |(refine px (by rfl) 356 _ (by rfl) D (by rfl) 356 _ (0,0) _ ((Z j _ ?_).2.2.2.1) underlying356 (by rfl) (Z k) ?_;(repeat(first|exact aB _ _|refine aY ?_ _)))
  |(refine px (by rfl) 356 _ (by rfl) a.heap.size (by rfl) 356 _ (0,0) _ (Z S _ ?_) underlying356 (by rfl) (Z k) ?_;(repeat(first|exact aB _ _|refine aY ?_ _))))
 go_ret;obtain⟨U,V,X,Y,h5,h6,B⟩:=Jf a _ _ _ _ _ _ _ _ rfl;obtain⟨-,-,-,-,aC,a0⟩:=Z j _ B;exact⟨_,a.heap.size+1,a.heap.size+1+1,a.heap.size+1+1+1,a.heap.size+1+1+1+1,a.heap.size+1+1+1+1+1,A+3,D+1,rfl,⟨kz h6,kz U,kz V,kz X,kz Y,kz h5,aC,a0⟩,aq (Z t) B⟩
def wK:prog.elem 133=200:=by kernel_rfl
def CW(W:World):(sizeOf 200).run prog W=.ok 2 W:=by kernel_rfl
def bw.head(h:bw w a n k D)(i:Nat)(hi:i<=n):bw w a i k (D.take i):=by
 have d:=h.front i hi;obtain⟨p,q,r,f,c⟩:=h;obtain⟨f1,f2,f3,f4,f5⟩:=d;refine⟨f1,f2,by omega,f,?_⟩
 obtain c|⟨b,o,rfl,c⟩:=c
 exact .inl c;obtain f5|⟨g,l,e,f5⟩:=f5
 refine .inr ⟨b,o,rfl,?_⟩;have:D.take i=[]:=eN_;rw[this];intro j v m;simp[cE]at m;exact .inr ⟨g,l,e,f5⟩
def zk(h:iQ D)(i:Nat)(hi:0<i)(hl:i<=D.length):iQ (D.take i):=by
 have e:∀k,k<i->au (D.take i) k=au D k:=λk a=>by simp[au,List.getD,jI,a]
 refine⟨by rw[ct];omega,λk a=>?_⟩
 rw[ct]at a;have:=h.2 k (by omega);unfold ng at *;rw[e k (by omega)];refine⟨this.1,this.2.1,λh0=>?_⟩
 rw[e (k-1) (by omega)];exact this.2.2 h0
def CX(l:List Rg)(h:0<l.length):(gp (l.take 1)).length<=24:=by
 unfold gp lR;have e:(l.take 1).length=1:=by rw[ct];omega
 rw[e];simp only[rX,jJ,oL,bH]
 have:=(gQ (au (l.take 1) 0).hi).2;have:=(gQ (((1:Nat):Int)-1)).2;have:=(gQ ((au (l.take 1) 0).hi-(au (l.take 1) 0).lo)).2;omega
def kn(l:List Rg)(a:Int):Nat->Nat
 |0=>0
 |m+1=>if a<1+((gp (l.take (m+1))).length:Int)then kn l a m else m+1
def K3(w:World)(a:Option Addr)(n cap:Nat)(l:List Rg)(hs:bw w a n cap l)(p:iQ l)(C:n<=1000)(b:Int)(D:40<=b/\b<=1000):
 Calls prog 202 #[.slice a n cap,.int .i64 b] w λe d=>(∃m:Nat,e=.returned (.int .i64 m)/\m=kn l b n/\1<=m/\m<=n/\1+((gp (l.take m)).length:Int)<=b)/\w.grownBy d none:=by
 obtain⟨R,h⟩:∃R:Ending->Prop,R=λe=>∃m:Nat,e=.returned (.int .i64 m)/\m=kn l b n/\1<=m/\m<=n/\1+((gp (l.take m)).length:Int)<=b:=⟨_,rfl⟩
 have r:(λ(e:Ending)(d:World)=>(∃m:Nat,e=.returned (.int .i64 m)/\m=kn l b n/\1<=m/\m<=n/\1+((gp (l.take m)).length:Int)<=b)/\w.grownBy d none)=λe d=>R e/\w.grownBy d none:=by rw[h]
 rw[r];clear r;have f:n=l.length:=hs.2.1;have E:=hs.2.2.1;have F:=p.1;have x:=hs.2.2.2.1;unfold maxLen at x;replace⟨f,h⟩:=bA f h;go_enter func202,ntmps202;go_wp2;go_loopw [5] (λk wr=>∃m:Nat,1<=m/\m<=n/\k=.int .i64 m/\kn l b m=kn l b n/\w.grownBy wr none) (λk _=>(intOf k).toNat);case atStart=>exact⟨n,by have:=Z f;omega,aR _,rfl,rfl,aB _ _⟩
 case round=>
  obtain⟨m,s,t,rfl,i,g⟩:=hrel;replace i:=J i;have d0:decide ((0:Int)<m)=true:=dT_;have y:=hs.head m t;have G:(m:Int)<=cap:=by omega
  have u:=J (BU w wr wr.heap.size none 0 [] a m cap (l.take m) (bn.nil _ _) g g.size y (zk p m s (by have:=Z f;omega)) (aR _) (by rw[ct];simp;omega));simp only[fe,jZ]at u;obtain⟨L,c⟩:=exq ((gp (l.take m)).length);have z:Hid (m=1->L<=24):=J (λe=>by rw[c,e];exact CX l (by have:=Z f;omega));have H:L<=1000000:=by
   rw[c];unfold gp lR;have:=xX (l.take m) ((l.take m).length-1);have:=(gQ (au (l.take m) 0).hi).2;have:=(gQ (((l.take m).length:Int)-1)).2;have:=(gQ ((au (l.take m) 0).hi-(au (l.take m) 0).lo)).2;simp only[bH]
   rw[ct]at *;omega
  have I:IntKind.i64.wrap (1+(L:Int))=1+(L:Int):=wI_;replace c:=J c;go_wp2_with (first|(go_at_call 238;apply(Z u).mono;rintro e A⟨K,n2,c2,rfl,j⟩;have v:wr.grownBy A none:=j.gb;obtain rfl:n2=L:=(j.gT.2.1).trans (Z c).symm;replace j:=J j));have M:m≠1:=λe=>by have:=Z z e;omega
  have B:kn l b (m-1)=kn l b n:=by
   rw[<-Z i];obtain⟨q,rfl⟩:∃q,m=q+1:=⟨m-1,by omega⟩
   show kn l b q=if b<1+((gp (l.take (q+1))).length:Int)then kn l b q else q+1
   rw[<-Z c,iP_]
  exact⟨⟨m-1,by omega,by omega,by congr 1;omega,B,aq g v⟩,by simp[intOf];omega⟩
  go_ret;refine⟨?_,aq g v⟩
  rw[Z h];refine⟨m,rfl,?_,s,t,by rw[<-Z c];omega⟩
  rw[<-Z i];obtain⟨q,rfl⟩:∃q,m=q+1:=⟨m-1,by omega⟩
  show q+1=if b<1+((gp (l.take (q+1))).length:Int)then kn l b q else q+1
  rw[<-Z c,iN_]
def xA(A C:List Int)(k:Nat):(A++C).getD (A.length+k) 0=C.getD k 0:=by
 simp[List.getD,mW]
def qd(A C:List Int):(A++C).getD A.length 0=C.getD 0 0:=xA A C 0
def Py(A B:List Int)(h:dZ p):cU (A++(aU p++B)) A.length=some (p,A.length+(aU p).length):=by
 unfold dZ at h;unfold cU;by_cases b:p<64;have a:aU p=[p]:=by simp[aU,b]
 rw[a,qd];have hs:fv (([p]++B).getD 0 0)=1:=by
  simp only[fv,qv,xR]
  rw[iP_]
 rw[hs,aD (by simp)];simp only[ji,rX,qd]
 simp;omega;by_cases c:p<16384;have a:aU p=[p/256+64,p %256]:=by simp[aU,b,c]
 rw[a,qd];have hs:fv (([p/256+64,p %256]++B).getD 0 0)=2:=by
  simp only[fv,qv,xR]
  rw[iN_,iP_]
 rw[hs,aD (by simp)];simp only[ji,qx,Nat.reduceAdd,Nat.reduceSub,xA,qd]
 simp;omega;by_cases d:p<1073741824;have a:aU p=[p/16777216+128,p/65536 %256,p/256 %256,p %256]:=by simp[aU,b,c,d]
 rw[a,qd];have hs:fv (([p/16777216+128,p/65536 %256,p/256 %256,p %256]++B).getD 0 0)=4:=by
  simp only[fv,qv,xR]
  rw[iN_,iN_,iP_]
 rw[hs,aD (by simp)];simp only[ji,qx,Nat.reduceAdd,Nat.reduceSub,xA,qd]
 simp;omega;have a:aU p=[p/72057594037927936+192,p/281474976710656 %256,p/1099511627776 %256,p/4294967296 %256,p/16777216 %256,p/65536 %256,p/256 %256,p %256]:=by simp[aU,b,c,d]
 rw[a,qd];have hs:fv (([p/72057594037927936+192,p/281474976710656 %256,p/1099511627776 %256,p/4294967296 %256,p/16777216 %256,p/65536 %256,p/256 %256,p %256]++B).getD 0 0)=8:=by
  simp only[fv,qv,xR]
  rw[iN_,iN_,iN_]
 rw[hs,aD (by simp)];simp only[ji,qx,Nat.reduceAdd,Nat.reduceSub,xA,qd]
 simp;omega
def oy(a:L=K++(aU q++M))(hp:k=K.length)(h:dZ q):cU L k=some (q,k+(aU q).length):=by
 subst a hp;exact Py K M h
def jr(l:List Rg):Nat->Nat->List Int
 |_,0=>[]
 |j,k+1=>tN l j++jr l (j+1) k
def PB(l:List Rg)(k:Nat):∀j,jJ l (j+k)=jJ l j++jr l j k:=by
 induction k with
 |zero=>intro j;simp[jr]
 |succ k a=>
  intro j;rw[show j+(k+1)=(j+1)+k by omega,a (j+1)];simp[jJ,jr]
def ER(h:i<D.length):au D i=D[i]:=by
 simp[au,List.getD,h]
def PC(f:∀r∈D,r.ok)(e:iQ D)(B:List Int)(k:Nat):∀(j:Nat)(A:List Int),j+1+k=D.length->
 jK (A++(jr D j k++B)) k A.length (au D j).lo (D.take (j+1))=some (D,A.length+(jr D j k).length):=by
 induction k with
 |zero=>
  intro j A h;simp only[jK,jr,fe,oM,mn,qZ,and_true]
  exact tL_
 |succ k i=>
  intro j A h;have a:=pH f e j;have b:=pH f e (j+1);have c:=e.2 (j+1) (by omega);unfold ng at c;simp only[rT]at c;unfold dZ at a b;obtain⟨x,l⟩:=exq ((au D j).lo-(au D (j+1)).hi-2);obtain⟨y,m⟩:=exq ((au D (j+1)).hi-(au D (j+1)).lo);have d:jr D j (k+1)=aU x++(aU y++jr D (j+1) k):=by simp[jr,tN,l,m]
  have n:dZ x:=by unfold dZ;omega
  have p:dZ y:=by unfold dZ;omega
  have q:cU (A++(jr D j (k+1)++B)) A.length=some (x,A.length+(aU x).length):=oy (M:=aU y++jr D (j+1) k++B) (by rw[d];simp) rfl n;have n2:cU (A++(jr D j (k+1)++B)) (A.length+(aU x).length)=some (y,A.length+(aU x).length+(aU y).length):=oy (K:=A++aU x) (M:=jr D (j+1) k++B) (by rw[d];simp) (by simp) p;have e1:(au D j).lo-2-x=(au D (j+1)).hi:=by omega
  have e2:(au D (j+1)).hi-y=(au D (j+1)).lo:=by omega
  have s:A++(jr D j (k+1)++B)=(A++aU x++aU y)++(jr D (j+1) k++B):=by rw[d];simp
  have g:j+1<D.length:=by omega
  have t:D.take (j+1)++[au D (j+1)]=D.take (j+1+1):=by rw[rP g,ER g]
  simp only[jK,q,n2,fk,e1,e2]
  rw[iP_];have:=i (j+1) (A++aU x++aU y) (by omega);rw[<-s]at this;rw[t];simp only[bH]at this;rw[this,d];simp only[bH]
  congr 2;omega
def PD(g:∀r∈D,r.ok)(d:iQ D)(hl:(D.length:Int)<=4611686018427387903)(e:L=K++(gp D++M))(hp:n=K.length):jL L n=some (D,n+(gp D).length):=by
 subst hp;have f:=d.1;have a:=pH g d 0 f;have c:=(d.2 0 f).1;unfold dZ at a;obtain⟨x,h⟩:=exq ((au D 0).hi);obtain⟨y,i⟩:∃y:Int,y=(D.length:Int)-1:=⟨_,rfl⟩
 obtain⟨z,j⟩:=exq ((au D 0).hi-(au D 0).lo);have b:gp D=aU x++(aU y++(aU z++jr D 0 (D.length-1))):=by
  have:=PB D (D.length-1) 0;simp only[dY,jJ,jZ]at this;simp[gp,lR,this,h,i,j]
 have k:cU L K.length=some (x,K.length+(aU x).length):=oy (K:=K) (M:=aU y++(aU z++jr D 0 (D.length-1))++M) (by rw[e,b];simp) rfl (by unfold dZ;omega);have n2:cU L (K.length+(aU x).length)=some (y,K.length+(aU x).length+(aU y).length):=oy (K:=K++aU x) (M:=aU z++jr D 0 (D.length-1)++M) (by rw[e,b];simp) (by simp) (by unfold dZ;omega);have l:cU L (K.length+(aU x).length+(aU y).length)=some (z,K.length+(aU x).length+(aU y).length+(aU z).length):=oy (K:=K++aU x++aU y) (M:=jr D 0 (D.length-1)++M) (by rw[e,b];simp) (by simp;omega) (by unfold dZ;omega);have e1:x-z=(au D 0).lo:=by omega
 have e2:y.toNat=D.length-1:=by omega
 have m:L=(K++aU x++aU y++aU z)++(jr D 0 (D.length-1)++M):=by rw[e,b];simp
 have p:[(⟨(au D 0).lo,x⟩:Rg)]=D.take (0+1):=by
  rw[rP (by omega),h,ER f];simp
 simp only[jL,k,n2,l,fk,e1,e2,p]
 rw[iP_];have:=PC g d M (D.length-1) 0 (K++aU x++aU y++aU z) (by omega);rw[<-m]at this;simp only[bH]at this;rw[show K.length+(aU x).length+(aU y).length+(aU z).length=K.length+(aU x).length+(aU y).length+(aU z).length from rfl,this,b];simp only[bH]
 congr 2;omega
def gl(f:Fr):Fr:=
 if f.kind=1 then cu 1 false else if f.kind=2 then cu 2 false else if f.kind=3 then{cu 3 false with ranges:=f.ranges}
 else if f.kind=4 then{cu 4 false with stream:=f.stream,code:=f.code,offset:=f.offset}
 else if f.kind=5 then{cu 5 f.fin with stream:=f.stream,offset:=f.offset,data:=f.data}
 else{cu 6 false with code:=f.code}
def xB(d:ByteArray):strOfNums (aG d)=d:=by
 apply ByteArray.ext;apply Array.toList_inj.1;rw[strOfNums_data,aG,tH];refine(xQ (g:=id) λx _=>?_).trans (List.map_id _);simp
def ES(a:L=K++(aU q++M))(hp:k=K.length)(h0:0<=q)(b:q<4):j6 L k=some (q,k+(aU q).length):=by
 unfold j6;rw[oy a hp ⟨h0,by omega⟩];simp[b]
def PE{d:ByteArray}(a:L=K++(aU d.size++(aG d++M)))(hp:k=K.length)(hd:(d.size:Int)<=4611686018427387903):nX L k=some (d,k+(aU d.size).length+d.size):=by
 unfold nX;rw[oy (q:=d.size) a hp ⟨by omega,hd⟩];simp only[fk]
 have b:L.length=K.length+(aU d.size).length+d.size+M.length:=by rw[a];simp[fH];omega
 rw[aD (by rw[b,hp];push_cast;omega)];have e:(L.drop (k+(aU d.size).length)).take d.size=aG d:=by
  rw[a,show K++(aU (d.size:Int)++(aG d++M))=(K++aU (d.size:Int))++(aG d++M) by simp,show k+(aU (d.size:Int)).length=(K++aU (d.size:Int)).length by simp[hp],List.drop_left,<-fH d,List.take_left]
 simp only[nT,e,xB]
def PF(u:G.ok)(hs:cT G)(hl:(G.ranges.length:Int)<=4611686018427387903)(i:L=K++(df G++M)):nh L K.length=some (gl G,K.length+(df G).length):=by
 obtain⟨⟨b1,b2,k,l⟩,⟨q,v⟩,y,z⟩:=id hs;obtain⟨A,B,⟨r,-⟩,⟨s,-⟩,w⟩:=u;have c:G.kind=1\/G.kind=2\/G.kind=3\/G.kind=4\/G.kind=5\/G.kind=6:=by omega
 have e0:L.getD K.length 0=(df G++M).getD 0 0:=by rw[i];exact qd K _
 unfold nh;rw[e0];obtain c|c|c|c|c|c:=c
 have a:df G=[0]:=by simp[df,c]
 have f:gl G=cu 1 false:=by simp[gl,c]
 rw[a,f];have e:cT (cu 1 false):=by simp[cT,pF,qB,cu]
 simp[fM,e];have a:df G=[1]:=by simp[df,c]
 have f:gl G=cu 2 false:=by simp[gl,c]
 rw[a,f];have e:cT (cu 2 false):=by simp[cT,pF,qB,cu]
 simp[fM,e];have a:df G=2::gp G.ranges:=by simp[df,c]
 have f:gl G={cu 3 false with ranges:=G.ranges}:=by simp[gl,c]
 have x:jL L (K.length+1)=some (G.ranges,K.length+1+(gp G.ranges).length):=PD (K:=K++[2]) (M:=M) w (q c) hl (by rw[i,a];simp) (by simp);rw[a,f];have e:cT {cu 3 false with ranges:=G.ranges}:=by
  refine⟨?_,⟨λ_=>q c,λh=>?_⟩,?_⟩<;>simp[pF,cu]at *
 simp[fM,x,e];omega;have a:df G=4::(aU G.stream++aU G.code++aU G.offset):=by simp[df,c]
 have f:gl G={cu 4 false with stream:=G.stream,code:=G.code,offset:=G.offset}:=by simp[gl,c]
 have g:=ES (L:=L) (K:=K++[4]) (M:=aU G.code++(aU G.offset++M)) (q:=G.stream) (k:=K.length+1) (by rw[i,a];simp) (by simp) k l;have n2:=oy (L:=L) (K:=K++[4]++aU G.stream) (M:=aU G.offset++M) (q:=G.code) (k:=K.length+1+(aU G.stream).length) (by rw[i,a];simp) (by simp;omega) ⟨s,b2⟩;have j:=oy (L:=L) (K:=K++[4]++aU G.stream++aU G.code) (M:=M) (q:=G.offset) (k:=K.length+1+(aU G.stream).length+(aU G.code).length) (by rw[i,a];simp) (by simp;omega) ⟨r,b1⟩;rw[a,f];have e:cT {cu 4 false with stream:=G.stream,code:=G.code,offset:=G.offset}:=by
  refine⟨⟨b1,b2,k,l⟩,⟨λh=>?_,λh=>?_⟩,?_⟩<;>simp[cu]at *
 simp[fM,g,n2,j,e];omega;have hd:=v c;have g:=λt:Int=>λa:df G=t::(aU G.stream++aU G.offset++aU G.data.size++aG G.data)=>ES (L:=L) (K:=K++[t]) (M:=aU G.offset++(aU G.data.size++(aG G.data++M))) (q:=G.stream) (k:=K.length+1) (by rw[i,a];simp) (by simp) k l
 have n2:=λt:Int=>λa:df G=t::(aU G.stream++aU G.offset++aU G.data.size++aG G.data)=>oy (L:=L) (K:=K++[t]++aU G.stream) (M:=aU G.data.size++(aG G.data++M)) (q:=G.offset) (k:=K.length+1+(aU G.stream).length) (by rw[i,a];simp) (by simp;omega) ⟨r,b1⟩
 have j:=λt:Int=>λa:df G=t::(aU G.stream++aU G.offset++aU G.data.size++aG G.data)=>PE (L:=L) (K:=K++[t]++aU G.stream++aU G.offset) (M:=M) (d:=G.data) (k:=K.length+1+(aU G.stream).length+(aU G.offset).length) (by rw[i,a];simp) (by simp;omega) (by omega)
 have e:∀b,cT {cu 5 b with stream:=G.stream,offset:=G.offset,data:=G.data}:=λb=>by
  refine⟨⟨b1,by simp[cu],k,l⟩,⟨λh=>?_,λh=>hd⟩,?_⟩<;>simp[cu]at *
 cases m:G.fin with
 |true=>
  have a:df G=9::(aU G.stream++aU G.offset++aU G.data.size++aG G.data):=by simp[df,c,m]
  have f:gl G={cu 5 true with stream:=G.stream,offset:=G.offset,data:=G.data}:=by simp[gl,c,m]
  replace g:=g 9 a;replace n2:=n2 9 a;replace j:=j 9 a;replace e:=e true;rw[a,f];simp[fM,g,n2,j,e,fH];omega
 |false=>
  have a:df G=8::(aU G.stream++aU G.offset++aU G.data.size++aG G.data):=by simp[df,c,m]
  have f:gl G={cu 5 false with stream:=G.stream,offset:=G.offset,data:=G.data}:=by simp[gl,c,m]
  replace g:=g 8 a;replace n2:=n2 8 a;replace j:=j 8 a;replace e:=e false;rw[a,f];simp[fM,g,n2,j,e,fH];omega
 have a:df G=28::aU G.code:=by simp[df,c]
 have f:gl G={cu 6 false with code:=G.code}:=by simp[gl,c]
 have g:=oy (L:=L) (K:=K++[28]) (M:=M) (q:=G.code) (k:=K.length+1) (by rw[i,a];simp) (by simp) ⟨s,b2⟩;rw[a,f];have e:cT {cu 6 false with code:=G.code}:=by
  refine⟨⟨by simp[cu],b2,by simp[cu],by simp[cu]⟩,⟨λh=>?_,λh=>?_⟩,?_⟩<;>simp[cu]at *
 simp[fM,g,e];omega
def PG(a:List Fr):∀(A:List Int)(k:Nat)(b:List Fr),(∀f∈a,f.ok/\cT f/\(f.ranges.length:Int)<=4611686018427387903)->a.length<k->iH (A++bp a) k A.length b=(some (b++a.map gl),-1):=by
 induction a with
 |nil=>
  intro A k b _ c;obtain⟨k,rfl⟩:∃m,k=m+1:=⟨k-1,by simp at c;omega⟩
  simp[iH,bp]
 |cons f r d=>
  intro A k b h c;obtain⟨k,rfl⟩:∃m,k=m+1:=⟨k-1,by simp at c;omega⟩
  obtain⟨e,i,j⟩:=h f (by simp);have l:=PF e i j (L:=A++bp (f::r)) (K:=A) (M:=bp r) rfl;have q:=(vH f).1;have n:A.length<(A++bp (f::r)).length:=by simp[bp];omega
  simp only[iH,aD n,l]
  have:=d (A++df f) k (b++[gl f]) (λg p=>h g (by simp[p])) (by simp at c;omega);simp only[bH]at this;rw[show A++bp (f::r)=A++df f++bp r by simp[bp],this];simp
def PH(a:List Fr):a.length<=(bp a).length:=by
 induction a with
 |nil=>simp[bp]
 |cons f r b=>have:=(vH f).1;simp[bp];omega
def zU{a:List Fr}(h:∀f∈a,f.ok/\cT f/\(f.ranges.length:Int)<=4611686018427387903)(h0:a≠[]):fN (bp a)=(some (a.map gl),-1):=by
 have hl:=PH a;have hp:=oI.2 h0;unfold fN;rw[iN_];have:=PG a [] ((bp a).length+1) [] h (by omega);simpa using this
