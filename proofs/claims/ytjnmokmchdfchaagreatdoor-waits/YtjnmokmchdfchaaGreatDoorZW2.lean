import Derived.Laws.CopyRow
import Derived.Lib.AppendStr
import Derived.Test.YtjnmokmchdfchaaGreatDoorZW0
set_option maxRecDepth 1000000
set_option maxHeartbeats 0
set_option linter.all false
namespace Go.Proofs.YtjnmokmchdfchaaGreatDoor
open Go.RowKit Tryz
attribute[local go_sem↓]Go.wp_at_zero Go.wp_at_succ
variable{f:Act}{A:Addr}{F:Array Oper}{G:Exit->Act->World->Prop}{H:Fr}{p q:Int}{K L M:List Int}{Y:List Rg}{b i j k n:Nat}{I:Oper}{a:Option Addr}{u:Prop}{T:TypeId}{x y z:Value}{V W w:World}
def eM(f:Fr)(a:Value):List Value:=[.int .i64 f.kind,.int .i64 f.stream,.int .u64 f.offset,.int .u64 f.code,.bool f.fin,.string f.data,a]
def bF(f:Fr)(a:Value):Array Value:= #[.int .i64 f.kind,.int .i64 f.stream,.int .u64 f.offset,.int .u64 f.code,.bool f.fin,.string f.data,a]
def cV(w:World)(f:Fr)(a:Value):Prop:=f.ok/\f.data.size<=9223372036854775807/\∃ra cap,a=.slice ra f.ranges.length cap/\ba w ra f.ranges.length cap f.ranges
theorem cH{a c d e:Value}(h:w.heap[b]?=some (.cells #[x,y,z,a,c,d,e] T (0,0))):w.cell? ⟨b,0,none⟩=some x/\w.cell? ⟨b,1,none⟩=some y/\w.cell? ⟨b,2,none⟩=some z/\w.cell? ⟨b,3,none⟩=some a/\w.cell? ⟨b,4,none⟩=some c/\w.cell? ⟨b,5,none⟩=some d/\w.cell? ⟨b,6,none⟩=some e:=by
 simp[World.cell?,h]
theorem cV.ah(h:cV w H x)(g:w.grownBy W none):cV W H x:=by
 obtain⟨a,h0,ra,cap,b,c⟩:=h;exact⟨a,h0,ra,cap,b,c.ah g⟩
theorem zm(f:Fr)(l:Value)(w:World)(h:cV w f l):
 Calls prog 192 #[.agg (bF f l)] w λe n=>dw (oC f/\pJ f) e/\w.grownBy n none:=by
 obtain⟨⟨⟨t,u⟩,⟨s0,s1⟩,⟨v,x⟩,⟨c0,c1⟩,y⟩,z,ra,cap,rfl,p⟩:=h;obtain⟨k,s,o,c,fin,d,rg⟩:=f;obtain⟨R,a⟩:∃R:Prop,R=((o<=4611686018427387903/\c<=4611686018427387903/\0<=s/\s<4)/\(k=3->iL rg)/\(k=5->(d.size:Int)<=4611686018427387903-o)):=⟨_,rfl⟩
 have m:(oC ⟨k,s,o,c,fin,d,rg⟩/\pJ ⟨k,s,o,c,fin,d,rg⟩)=R:=a.symm;rw[m];clear m;simp only[bF]at *;replace a:=J a;by_cases A:4611686018427387903<o
 ·go_enter func192,ntmps192;go_wp2_with fail;go_ret;exact⟨lu (λhp=>by rw[Z a]at hp;have:=hp.1.1;omega),aC _ _ _⟩
 by_cases B:4611686018427387903<c
 ·go_enter func192,ntmps192;go_wp2_with fail;go_ret;exact⟨lu (λhp=>by rw[Z a]at hp;have:=hp.1.2.1;omega),aC _ _ _⟩
 by_cases C:s<0
 ·go_enter func192,ntmps192;go_wp2_with fail;go_ret;exact⟨lu (λhp=>by rw[Z a]at hp;have:=hp.1.2.2.1;omega),aC _ _ _⟩
 by_cases D:4<=s
 ·go_enter func192,ntmps192;go_wp2_with fail;go_ret;exact⟨lu (λhp=>by rw[Z a]at hp;have:=hp.1.2.2.2;omega),aC _ _ _⟩
 have g:o<=4611686018427387903/\c<=4611686018427387903/\0<=s/\s<4:=by omega
 replace g:=J g;by_cases k3:k=3
 ·subst k3;have q:=J (λob=>p.ah (aC w ob none));go_enter func192,ntmps192;go_wp2_with (go_at_call 234;refine(Ef _ _ _ _ _ (Z q _)).mono ?_;rintro e E⟨⟨b,rfl,i⟩,r⟩;replace i:=J i);go_ret;refine⟨⟨b,rfl,(Z i).trans (by have j:=Z g;rw[Z a];simp[j])⟩,aj (aC _ _ _) r⟩
 by_cases k5:k=5
 ·subst k5;have F:IntKind.u64.wrap (4611686018427387903-o)=4611686018427387903-o:=by rw[eH];omega
  have G:IntKind.u64.wrap (d.size:Int)=(d.size:Int):=by rw[eH];omega
  go_enter func192,ntmps192;go_wp2_with fail;go_ret;refine⟨mO (by have j:=Z g;rw[Z a];simp[j]),aC _ _ _⟩
 go_enter func192,ntmps192;go_wp2_with fail;go_ret;exact⟨qU (by rw[Z a];exact⟨Z g,λh=>absurd h k3,λh=>absurd h k5⟩),aC _ _ _⟩
theorem EE(s:ByteArray)(n:Nat):((s.extract 0 n).data.map λb=>Value.int .u8 (b.toNat:Int))=(bv ((bl s).take n)).toArray:=by
 apply Array.ext';simp[bv,bl,ByteArray.data_extract,Function.comp_def]
theorem EF(s:ByteArray)(k:Nat):bl (s.extract k s.size)=(bl s).drop k:=by
 unfold bl;have hs:s.data.toList.length=s.size:=by rw[pB];rfl
 rw[ByteArray.data_extract,Array.toList_extract,List.extract_eq_take_drop,eG (by rw[dO];omega),List.map_drop]
theorem EG{α:Type}(a xs m:List α)(off n:Nat)(h:a.take n=xs)(c:off+m.length<=n)(d:off<=a.length):(a.take off++(m++a.drop (off+m.length))).take n=splice xs off m:=by
 subst h;unfold splice;have e1:(a.take off).length=off:=by rw[cC];omega
 have e2:(a.take off).take n=a.take off:=eG (by rw[e1];omega);have b:m.take (n-off)=m:=eG (by omega);rw[List.take_take,Nat.min_eq_left (by omega),List.drop_take,List.take_append,e2,e1,List.take_append,b,Nat.sub_sub]
theorem EH(ty:TypeId)(i g off n c a m:Nat)(l:List Int)(p:aX w i (.slice (some ⟨g,0,none⟩) n c) l)(s:ByteArray)(q:off+((bl s).take a).length<=n):
 ∃d,(Builtin.copy_ #[112,9] ty #[.slice (some ⟨g,off,none⟩) a m,.string s]).run prog w=.ok (goInt ((bl s).take a).length) d/\aX d i (.slice (some ⟨g,0,none⟩) n c) (splice l off ((bl s).take a))/\w.grownBy d (some g):=by
 obtain⟨j,G,⟨h0,-⟩|⟨H,cap,e,r,t,k,v,z,I,A⟩⟩:=p;cases h0;cases r;have B:Nat.min s.size a=((bl s).take a).length:=by rw[cC,iJ,Nat.min_comm]
 have C:(bl s).take (Nat.min s.size a)=(bl s).take a:=by
  by_cases h:s.size<=a;rw[show Nat.min s.size a=s.size from Nat.min_eq_left h,eG (by rw[iJ];exact aI _),eG (by rw[iJ];exact h)];rw[show Nat.min s.size a=a from Nat.min_eq_right (by omega)]
 have D:=run_storeCells_at prog g off 5 (bv ((bl s).take a)) 0 e w k (by rw[fK];omega) (by
  intro u E;obtain⟨y,_,rfl⟩:=fh.1 E;rfl)
 have F:∀w,(sizeOf 5).run prog w=.ok 1 w:=λW=>by kernel_rfl
 have f:(splice l off ((bl s).take a)).length=l.length:=length_splice _ _ _ (by omega);refine⟨w.setRow g (e.toList.take (off+0)++bv ((bl s).take a)++e.toList.drop (off+0+(bv ((bl s).take a)).length)).toArray,?_,⟨?_,?_⟩,tX _ _ _⟩
 simp only[Builtin.copy_,tM underlying112,Builtin.lenOf,Builtin.firstCells,ie,kN,ic,F,EE]
 have e1:bv ((bl s).take (min a (bl s).length))=bv ((bl s).take a):=by rw[<-C,iJ,Nat.min_comm]
 simp[Builtin.lenOf,B,e1,D];intro x b;unfold splice at b;obtain b|b:=ck.1 b
 exact j x (iY b);obtain b|b:=ck.1 b
 exact qR s x (iY b);exact j x (iZ b);refine⟨by rw[fK,Nat.mul_one],.inr ⟨g,c,_,by rw[f],t,setRow_heap w g _ _ _ _ k,by rw[f];exact v,z,?_,?_⟩⟩
 simp only[sa,bG,cC,dO,pB,fK]
 rw[cC]at q;omega;rw[f,yL,eA];exact EG _ _ _ _ _ A (by rw[fK];omega) (by rw[pB];omega)
theorem EI{K:Act->World->Prop}(d s:Operand)
 (ho:I.op=.call {callee:=.builtin .copy,args:= #[d,s],argTypes:= #[112,9]}) (j:I.guard=none)
 (e g off n c a i:Nat) (hd:f.eval d=.slice (some ⟨g,off,none⟩) a i) (str:ByteArray) (hs:f.eval s=.string str)
 (l:List Int) (k:aX w e (.slice (some ⟨g,0,none⟩) n c) l) (m:off+((bl str).take a).length<=n)
 (h:∀b,aX b e (.slice (some ⟨g,0,none⟩) n c) (splice l off ((bl str).take a))->w.grownBy b (some g)->K (f.put I.dst (goInt ((bl str).take a).length)) b):
 if Region.wanted I (yielded F f.tmps)=true then Oper.wp prog I f w K G else u:=by
 have p:Region.wanted I (yielded F f.tmps)=true:=by simp[Region.wanted,j]
 rw[aM p];obtain⟨b,q,r,t⟩:=EH (w:=w) I.type e g off n c a i l k str m;unfold Oper.wp execOp;simp only[ho,resolve,invoke,builtin,ie,kN,ic,lN,ki,kO,hd,hs,q]
 exact h b r t
theorem ba.cW(h:ba w a n k Y)(e:Y≠[]->∀x,a=some x->W.heap[x.block]?=w.heap[x.block]?):ba W a n k Y:=by
 obtain⟨f,g,i,l,c⟩:=h;refine⟨f,g,i,l,?_⟩
 obtain c|⟨b,o,rfl,c⟩:=c
 exact .inl c;refine .inr ⟨b,o,rfl,?_⟩;by_cases hl:Y=[]
 subst hl;intro j v d;simp[bY]at d;intro j v d;exact(lg (w:=w) (a:=⟨b,o+j,none⟩) (e hl ⟨b,o,none⟩ rfl)).trans (c j v d)
theorem ba.lt(h:ba w (some A) n k Y)(hl:Y≠[]):A.block<w.heap.size:=by
 obtain⟨c,d,f,g,a|⟨b,o,e,a⟩⟩:=h;have:=np.2 hl;omega;cases e;exact dN w _ (a 0 _ (by have:=(yU Y 0 (np.2 hl)).1;simpa using this))
def bZ(n:Int):Int:=if n<64 then 1 else if n<16384 then 2 else if n<1073741824 then 4 else 8
theorem Fo(n:Int):((aN n).length:Int)=bZ n:=by
 unfold aN bZ;split;simp;split;simp;split<;>simp
theorem sD(n:Int):1<=bZ n/\bZ n<=8:=by
 unfold bZ;split;omega;split;omega;split<;>omega
theorem Fp(n:Int):pw n=0/\bZ n=1\/pw n=1/\bZ n=2\/pw n=2/\bZ n=4\/pw n=3/\bZ n=8:=by
 unfold pw bZ;split;simp;split;simp;split<;>simp
theorem uy(n:Int)(w:World):Calls prog 299 #[.int .u64 n] w λe d=>e=.returned (.int .i64 (bZ n))/\d=w:=by
 have c:=J (λW=>yS n W);obtain⟨a,b⟩|⟨a,b⟩|⟨a,b⟩|⟨a,b⟩:=Fp n
 all_goals
  rw[a]at c
  rw[b]
  clear a b
  go_enter func299,ntmps299
  go_wp2_with (first|(go_at_call 295;refine(Z c _).mono ?_;rintro e f⟨rfl,rfl⟩))
  go_ret
  exact⟨rfl,rfl⟩
theorem Fq(a c:Int)(w:World):Calls prog 283 #[.int .u64 a,.int .u64 c] w λe b=>e=.returned (.int .i64 (2+bZ c+bZ a))/\b=w:=by
 have d:=J (λW=>uy a W);have f:=J (λW=>uy c W);have b1:=sD a;have b2:=sD c;generalize bZ a=x at *;generalize bZ c=y at *;have e1:IntKind.i64.wrap (2+y)=2+y:=by simp[IntKind.wrap,IntKind.bits,IntKind.signed];omega
 have e2:IntKind.i64.wrap (2+y+x)=2+y+x:=by simp[IntKind.wrap,IntKind.bits,IntKind.signed];omega
 go_enter func283,ntmps283;go_wp2_with fail;refine(Z f _).mono ?_;rintro e g⟨rfl,rfl⟩;go_wp2_with fail;refine(Z d _).mono ?_;rintro e h⟨rfl,rfl⟩;go_wp2_with fail;go_ret;exact⟨rfl,rfl⟩
def wN(r m:Int):Prop:=m<=r-1/\(r-1<=0->m=r-1)/\(0<=r-1->0<=m)/\(0<m->bZ m+m<=r)/\∀n,m<n->n<=r-1->r<bZ n+n
theorem Fs(off a:Int)(w:World)(D: -1000000000000<=a/\a<=1000000000000):Calls prog 284 #[.int .u64 off,.int .i64 a] w λe l=>∃m,e=.returned (.int .i64 m)/\wN (a-(2+bZ off)) m/\l=w:=by
 have p:=J (λn W=>uy n W);have b1:=sD off;generalize d:bZ off=x at *;replace d:=J d;obtain⟨r,f⟩:=exq (a-(2+x));rw[<-f];have e1:IntKind.i64.wrap (2+x)=2+x:=by simp[IntKind.wrap,IntKind.bits,IntKind.signed];omega
 have e2:IntKind.i64.wrap (a-(2+x))=r:=by simp[IntKind.wrap,IntKind.bits,IntKind.signed];omega
 have E:IntKind.i64.wrap (r-1)=r-1:=by simp[IntKind.wrap,IntKind.bits,IntKind.signed];omega
 have F: -1000000000100<=r/\r<=1000000000000:=by omega
 replace f:=J f;go_enter func284,ntmps284;go_wp2_with fail;refine(Z p _ _).mono ?_;rintro e q⟨rfl,rfl⟩;rw[Z d];go_wp2_with fail;go_loopw [5] (λi wr=>∃N:Int,i=.int .i64 N/\N<=r-1/\(r-1<=0->N=r-1)/\(0<=r-1->0<=N)/\(∀n,N<n->n<=r-1->r<bZ n+n)/\wr=q) (λi _=>(intOf i).toNat);case atStart=>exact⟨r-1,rfl,by omega,λ_=>rfl,λh=>h,λn s k=>by omega,rfl⟩
 case round=>
  obtain⟨N,rfl,s,k,t,b,rfl⟩:=hrel;replace b:=J b;by_cases h0:0<N
  ·have u:decide (0<N)=true:=bp h0;have u1:IntKind.u64.wrap N=N:=by rw[eH];omega
   have v:=sD N;have g:=J (λW=>uy N W);obtain⟨y,c⟩:=exq (bZ N);rw[<-c]at g v;replace c:=J c;have u2:IntKind.i64.wrap (y+N)=y+N:=by simp[IntKind.wrap,IntKind.bits,IntKind.signed];omega
   have u3:IntKind.i64.wrap (N-1)=N-1:=by simp[IntKind.wrap,IntKind.bits,IntKind.signed];omega
   by_cases j:r<y+N
   ·have z:decide (r<y+N)=true:=bp j;go_wp2_with (first|(go_at_call 299;refine(Z g _).mono ?_;rintro e A⟨rfl,rfl⟩));go_roundw;case rel=>exact⟨N-1,rfl,by omega,λh=>by omega,λh=>by omega,λn G B=>by
     by_cases C:n=N;subst C;rw[<-Z c];exact j
     ·exact Z b n (by omega) B,trivial⟩
    case measure=>simp only[intOf];omega
   have z:decide (r<y+N)=false:=bB j;go_wp2_with (first|(go_at_call 299;refine(Z g _).mono ?_;rintro e A⟨rfl,rfl⟩));go_ret;exact⟨N,rfl,⟨by omega,λh=>by omega,λh=>by omega,λ_=>by rw[<-Z c];omega,Z b⟩,rfl⟩
  have u:decide (0<N)=false:=bB h0;go_wp2_with fail;go_ret;exact⟨N,rfl,⟨by omega,k,t,λh=>by omega,Z b⟩,rfl⟩
theorem GD(t:Nat)(a:Option Addr)(c:Nat)(l:List Int)(n:Int)(w:World)(ho:aX w t (.slice a l.length c) l)(C:dH n)(U:t<=w.heap.size)(hl:l.length<=90000000):
 Calls prog 266 #[.slice a l.length c,.int .u64 n] w λe A=>
  ∃h m,e=.returned (.slice h (l.length+(aN n).length) m)/\dp w t (.slice a l.length c) A (.slice h (l.length+(aN n).length) m) (l++aN n):=by
 have G:=C;obtain⟨n0,V⟩:=C;obtain⟨k,p,H,D,d,hp,I,E⟩:∃(k p:Nat)(H:Int),aN n=jy (n+H) k/\((k=1/\p=0/\H=0)\/(k=2/\p=1/\H=16384)\/(k=4/\p=2/\H=2147483648)\/(k=8/\p=3/\H=13835058055282163712))/\pw n=(p:Int)/\bits .or .u64 n H=n+H/\0<=n+H/\n+H<18446744073709551616:=by
  by_cases b:n<64;refine⟨1,0,0,by rw[Int.add_zero];exact Ea b n0,.inl ⟨rfl,rfl,rfl⟩,by simp[pw,b],?_,by omega⟩
  have:=ug n 0 6 n0 (by simpa using b) (by decide);simpa using this;by_cases f:n<16384;exact⟨2,1,16384,Eb b f,.inr (.inl ⟨rfl,rfl,rfl⟩),by simp[pw,b,f],by simpa using ug n 1 14 n0 (by simpa using f) (by decide),by omega⟩
  by_cases u:n<1073741824;exact⟨4,2,2147483648,Ec b f u,.inr (.inr (.inl ⟨rfl,rfl,rfl⟩)),by simp[pw,b,f,u],by simpa using ug n 2 30 n0 (by simpa using u) (by decide),by omega⟩
  exact⟨8,3,13835058055282163712,Ed b f u G,.inr (.inr (.inr ⟨rfl,rfl,rfl⟩)),by simp[pw,b,f,u],by simpa using ug n 3 62 n0 (by simp;omega) (by decide),by omega⟩
 have q:=yT (n+H) k;have x:=D9 (n+H) k;rw[D];rw[q];clear D;replace q:=J q;replace x:=J x;have W:1<=k/\k<=8:=by omega
 obtain⟨S,r⟩:∃S:Int,S=8*(k:Int)-8:=⟨_,rfl⟩
 replace r:=J r;obtain⟨M,B⟩:=exq (n+H);rw[<-B]at I E x q⊢;replace B:=J B;obtain⟨d,rfl,rfl⟩|⟨d,rfl,rfl⟩|⟨d,rfl,rfl⟩|⟨d,rfl,rfl⟩:=d
 all_goals
  replace d:=J d
  go_enter func266,ntmps266
  go_wp2_with (go_at_call 295;refine(yS n _).mono ?_;rintro e A⟨rfl,rfl⟩;rw[hp])
  go_loopw [0,7] (λv i wr=>∃(j:Nat)(h:Option Addr)(m:Nat),j<=k/\i=.int .i64 (S-8*(j:Int))/\v=.slice h (l.length+j) m/\dp A t (.slice a l.length c) wr v (l++(jy M k).take j)) (λ_ i _=>(intOf i+8).toNat)
  case atStart=>exact⟨0,a,c,by omega,fj (Value.int .i64) (by have:=Z d;have:=Z r;omega),rfl,by simpa using dp.refl ho⟩
  case round=>
   obtain⟨j,h,m,X,rfl,rfl,g⟩:=hrel
   by_cases K:j<k
   ·obtain⟨s,hs⟩:∃s:Nat,(s:Int)=S-8*(j:Int):=⟨8*(k-1)-8*j,by have:=Z r;omega⟩
    have F:s=8*(k-1)-8*j:=by have:=Z r;omega
    have Y:s<64:=by omega
    rw[<-hs];replace hs:=J hs;have y:=Z x j K;rw[<-F]at y;replace y:=J y;clear F;have al:=g.size;have L:W8 (M/2^s %256):=by unfold W8;omega
    have N:=J (tT wr _ L);have O:=J (g.still (aC wr (.cells #[.int .u8 (M/2^s %256)] 5) none)).own;have z:(l++(jy M k).take j).length=l.length+j:=by simp[Z q];omega
    replace z:=J z;replace g:=J g;obtain⟨ax,a0⟩:=E;go_wp2_with (at_builtin;refine qQ (by rfl) _ _ (by rfl) t _ (l++(jy M k).take j) (by rfl) (Z O) _ _ _ [M/2^s %256] (by rfl) (Z N) ?_ ?_ ?_;(rw[Z z];simp;omega);(simp;omega);rw[Z z];intro P c3 w3 Q R T);go_roundw;case rel=>
     refine⟨j+1,P,c3,by omega,by have:=Z hs;simp;omega,rfl,?_⟩
     rw[Z y,<-eA];exact(Z g).app (aC _ _ _) Q R T
    case measure=>have:=Z hs;simp[intOf];omega
   obtain rfl:j=k:=by omega
   have a2:¬(0:Int)<=S-8*(j:Int):=by have:=Z r;omega
   go_wp2_with fail
   go_ret
   refine⟨h,m,rfl,?_⟩
   rw[eG (by rw[Z q];exact aI _)]at g
   exact g
theorem dp.old(h:dp w n x V y K)(a:W.grownBy w none)(ho:aX w n x L)(b:W.heap.size<=n):W.grownBy V none:=
 cA a h.gb (λj e=>.inl (bC b (ho.lt j e).1))
theorem oO(h:dp w k x W (.slice a i j) L)(l:dH p)(m:k<=w.heap.size)(hl:L.length<=90000000):
 Calls prog 266 #[.slice a i j,.int .u64 p] W λe f=>∃b c d,e=.returned (.slice b c d)/\dp w k x f (.slice b c d) (L++aN p)/\dp W k (.slice a i j) f (.slice b c d) (L++aN p):=by
 have e1:i=L.length:=h.own.fB.2.1;subst e1;refine(GD k a j L p W h.own l (bC m h.size) hl).mono ?_;rintro e q⟨n,c2,rfl,g⟩;exact⟨n,_,c2,rfl,h.trans g,g⟩
theorem dp.box{wr:World}(h:dp w n x W y K)(ho:aX wr n x L)(a:wr.heap.size<w.heap.size):W.heap[wr.heap.size]?=w.heap[wr.heap.size]? /\y.ownBlock≠some wr.heap.size:=
 h.apart a (λe=>by have:=(ho.lt _ e).2;omega)
theorem uJ(h:W.heap[n]?=w.heap[n]?)(i:Nat):W.cell? ⟨n,i,none⟩=w.cell? ⟨n,i,none⟩:=lg (w:=w) h
theorem rA(h0:0<=p-q)(a:p-q<18446744073709551616):IntKind.u64.wrap (p-q)=p-q:=by rw[eH];omega
theorem Ah(w0 w:World)(t:Nat)(a:Option Addr)(c:Nat)(l:List Int)(ra:Option Addr)(n cap:Nat)(rg:List Rg)(ho:aX w t (.slice a l.length c) l)(E:w0.grownBy w none)(L:w0.heap.size<=t)(f:ba w0 ra n cap rg)(q:iL rg)(F:t<=w.heap.size)(hl:l.length+16*rg.length<=80000000):
 Calls prog 238 #[.slice a l.length c,.slice ra n cap] w λe r=>∃u z A,e=.returned (.slice u z A)/\dp w t (.slice a l.length c) r (.slice u z A) (l++fC rg):=by
 have d:n=rg.length:=f.2.1;have b3:=f.2.2.1;have bP:=f.2.2.2.1;unfold maxLen at bP;have G:=q.1;obtain⟨-,-,-,-,h0|⟨b,o,rfl,-⟩⟩:=id f;omega;have B:∀W,w0.grownBy W none->W.cell? ⟨b,o,none⟩=some (.int .u64 (au rg 0).lo)/\W.cell? ⟨b,o+1,none⟩=some (.int .u64 (au rg 0).hi):=λW g=>by
  have:=(f.ah g).cell 0 G;rwa[mK,lO]at this
 have bt:=oD f.1 q 0 G;have bS:=(q.2 0 G).1;obtain⟨M,O⟩:=exq ((au rg 0).lo);obtain⟨s,P⟩:=exq ((au rg 0).hi);have ax:lq rg=aN s++aN ((n:Int)-1)++aN (s-M):=by rw[O,P,d];rfl
 simp only[<-O,<-P]at B bt bS;obtain⟨⟨v1,v2⟩,v3,v4⟩:=bt;have b4:=rA (p:=s) (q:=M) (by omega) (by omega);have i0:(0:Int)<(n:Int):=by omega
 have b5:0<n:=by omega
 have b6:l.length+16*n<=80000000:=by omega
 replace hl:=J hl;replace d:=J d;replace O:=J O;replace P:=J P;replace ax:=J ax;replace B:=J B;replace G:=J G;have G0:=dp.refl ho;obtain⟨z1,z2⟩:=Z B w E;go_enter func238,ntmps238;go_wp2_with fail;refine(oO G0 ⟨v3,v4⟩ F (by omega)).mono ?_;rintro e w1⟨a1,n1,c1,rfl,G1,-⟩;clear z1 z2;have b7:IntKind.u64.wrap ((n:Int)-1)=(n:Int)-1:=rA (by omega) (by omega);go_wp2_with fail;refine(oO G1 ⟨by omega,by omega⟩ F (by have:=gD s;simp;omega)).mono ?_;rintro e w2⟨a2,n2,c2,rfl,Q,-⟩;have bx:w2.drew.cell? ⟨b,o,none⟩=some (.int .u64 M)/\w2.drew.cell? ⟨b,o+1,none⟩=some (.int .u64 s):=Z B w2 (Q.old E ho L);replace Q:=J Q;replace G0:=J G0;replace G1:=J G1;go_wp2_with fail;go_region_held3 (λr=>r.cell? ⟨b,o,none⟩=some (.int .u64 M)/\r.cell? ⟨b,o+1,none⟩=some (.int .u64 s)) (first|with_reducible exact bz|with_reducible exact bx)
  (first|(go_at_call 266;refine(oO ((Z Q).still (aP (av _ _))) ⟨by omega,by omega⟩ F (by have:=gD s;have:=gD ((n:Int)-1);simp;omega)).mono ?_;rintro e w3⟨R,S,c3,rfl,H,-⟩;have bz:=Z B w3 (H.old E ho L);replace H:=J H))
 clear bx;have a0:Hid (dp w t (.slice a l.length c) w3 (.slice R S c3) (l++lq rg)):=J (by rw[Z ax,<-eA,<-eA];exact Z H);clear H;by_cases b0:cap=1
 ·obtain rfl:n=1:=by omega
  subst b0;go_wp2_with fail;go_loopw [0,33] (λv i wr=>v=.slice R S c3/\i=.int .i64 0/\wr=w3) (λ_ _ _=>0);case atStart=>exact⟨rfl,rfl,rfl⟩
  case round=>
   obtain⟨rfl,rfl,rfl⟩:=hrel;go_wp2_with fail;go_ret;refine⟨R,S,c3,rfl,?_⟩
   have:fC rg=lq rg:=by unfold fC;rw[<-Z d];simp[jn]
   rw[this];exact Z a0
 go_wp2_with fail;clear bz;obtain⟨N,T⟩:=exq (n-1);rw[<-T];go_loopw [0,33] (λv i wr=>∃(j:Nat)(u:Option Addr)(z A:Nat),j<=N/\i=.int .i64 (j:Int)/\v=.slice u z A/\dp w t (.slice a l.length c) wr v (l++lq rg++jn rg j)) (λ_ i _=>N-(intOf i).toNat);case atStart=>exact⟨0,R,S,c3,by omega,rfl,rfl,by simpa [jn]using Z a0⟩
 case round=>
  obtain⟨j,u,z,A,hj,rfl,rfl,C⟩:=hrel;have gj:=C.old E ho L;by_cases b8:j<N
  ·obtain⟨p1,-⟩:=(f.ah gj).cell j (by have:=Z d;omega);obtain⟨p2,p3⟩:=(f.ah gj).cell (j+1) (by have:=Z d;omega);have eo:o+(j+1)*2=o+2+j*2:=by omega
   rw[eo]at p2 p3;clear eo;have f1:=oD f.1 q j (by have:=Z d;omega);have f2:=oD f.1 q (j+1) (by have:=Z d;omega);have f3:=q.2 (j+1) (by have:=Z d;omega);unfold mj at f3;rw[qL]at f3;replace f3:=f3.2.2 (by omega);have f4:=(q.2 (j+1) (by have:=Z d;omega)).1;have a3:jn rg (j+1)=jn rg j++(aN ((au rg j).lo-(au rg (j+1)).hi-2)++aN ((au rg (j+1)).hi-(au rg (j+1)).lo)):=rfl;have a4:=λW(g:w0.grownBy W none)=>((f.ah g).cell j (by have:=Z d;omega)).1
   generalize (au rg j).lo=x at *;generalize (au rg (j+1)).lo=U at *;generalize (au rg (j+1)).hi=m at *;obtain⟨⟨f10,f11⟩,-⟩:=f1;obtain⟨⟨f20,f21⟩,f22,f23⟩:=f2;have ca:=rA (p:=x) (q:=m) (by omega) (by omega);have cf:=rA (p:=x-m) (q:=2) (by omega) (by omega);have cg:=rA (p:=m) (q:=U) (by omega) (by omega);have i1:(0:Int)<=(j:Int):=by omega
   have i2:(j:Int)<(n:Int):=by omega
   obtain⟨p,D⟩:=exq (wr.alloc (.cells #[.int .u64 U,.int .u64 m] 200));have bb:p.heap.size=wr.heap.size+1:=by rw[D];simp
   have V:wr.grownBy p none:=by rw[D];exact aC _ _ _
   have bj:p.heap[wr.heap.size]?=some (.cells #[.int .u64 U,.int .u64 m] 200 (0,0)):=by rw[D];exact aH _ _
   have I:∀W:World,W.heap[wr.heap.size]?=p.heap[wr.heap.size]? ->W.cell? ⟨wr.heap.size,0,none⟩=some (.int .u64 U)/\W.cell? ⟨wr.heap.size,1,none⟩=some (.int .u64 m):=λW h=>by
    rw[uJ h,uJ h];simp[World.cell?,bj]
   have p4:p.drew.cell? ⟨b,o+j*2,none⟩=some (.int .u64 x):=V.cell p1 (by simp);have bL:p.drew.cell? ⟨b,o+j*2,none⟩=some (.int .u64 x)/\p.drew.cell? ⟨wr.heap.size,1,none⟩=some (.int .u64 m):=⟨p4,(I p.drew rfl).2⟩
   clear p4;have br:=C.own;have X:∀k,k<=N->(l++lq rg++jn rg k).length<=85000000:=λk hk=>by
    have q1:=vX rg k;have q2:(lq rg).length<=24:=by
     have a7:=gD (au rg 0).hi;have a8:=gD ((rg.length:Int)-1);have a9:=gD ((au rg 0).hi-(au rg 0).lo);simp only[lq,bG];omega
    simp only[bG];omega
   replace C:=J C;replace br:=J br;replace I:=J I;replace bj:=J bj;replace a3:=J a3;replace a4:=J a4;replace X:=J X;replace T:=J T;replace V:=J V;replace bb:=J bb;clear a0;go_wp2_with fail;rw[<-D];replace D:=J D;go_region_held3 (λr=>r.cell? ⟨b,o+j*2,none⟩=some (.int .u64 x)/\r.cell? ⟨wr.heap.size,1,none⟩=some (.int .u64 m)) (first|with_reducible exact bM|with_reducible exact bL)
    (first|(go_at_call 266;refine(oO ((Z C).still (aP (Z V))) ⟨by omega,by omega⟩ F (by have:=Z X j (by omega);omega)).mono ?_;rintro e K⟨a5,n5,c5,rfl,Y,L5⟩;have al:=L5.box (Z br) (by have:=Z bb;show _<p.heap.size;omega);have bM:K.cell? ⟨b,o+j*2,none⟩=some (.int .u64 x)/\K.cell? ⟨wr.heap.size,1,none⟩=some (.int .u64 m):=⟨Z a4 K (Y.old E ho L),(Z I K al.1).2⟩;replace al:=J al;replace L5:=J L5;replace Y:=J Y))
   obtain⟨-,y2⟩:=bM;have y1:=(Z I K (Z al).1).1;clear bL p1 p2 p3;go_wp2_with fail;refine(oO (Z Y) ⟨by omega,by omega⟩ F (by have:=Z X j (by omega);have:=gD (x-m-2);rw[bG];omega)).mono ?_;rintro e w6⟨a6,n6,c6,rfl,G6,-⟩;go_wp2_with fail;go_roundw;case rel=>
    refine⟨j+1,a6,n6,c6,by omega,by simp,rfl,?_⟩
    rw[Z a3,<-eA,<-eA];exact G6
   case measure=>simp[intOf];omega
  obtain rfl:j=N:=by omega
  go_wp2_with fail;go_ret;refine⟨u,z,A,rfl,?_⟩
  unfold fC;rw[<-eA,<-Z d,<-T];exact C
theorem GF(s:ByteArray):Lib.strCells s=bv (bl s):=by
 unfold Lib.strCells bv bl;rw[pF];rfl
theorem GG(ty:TypeId)(e:Nat)(v:Value)(l:List Int)(h:aX w e v l)(s:ByteArray)(H:l.length+s.size<=100000000)(u:e<=w.heap.size):
 ∃b i c d,(Builtin.append_ #[112,9] ty #[v,.string s]).run prog w=.ok (.slice b i c) d/\aX d e (.slice b i c) (l++bl s)/\w.grownBy d v.ownBlock/\((Value.slice b i c).ownBlock=v.ownBlock\/(Value.slice b i c).ownBlock=some w.heap.size):=by
 obtain⟨j,hi,k,m,n⟩:=kj vV;obtain⟨p,d,f,r,x,z⟩:=Lib.run_append_own_string (P:=prog) w e 112 9 ty 5 j underlying112 underlying9 hi k m n v l.length (bv l) h.2 s (by simp[maxLen];omega) (by omega) u;have t:p.ownBlock=v.ownBlock\/p.ownBlock=some w.heap.size:=by
  obtain⟨-,hl,⟨rfl,I⟩|⟨g,cap,A,rfl,K,B,L,M,C,N⟩⟩:=id h;by_cases D:s.size=0;rw[z.2 ⟨rfl,D⟩];exact .inl rfl;have a:=run_append_nil_string (P:=prog) w 112 9 ty 5 j _ underlying112 underlying9 hi k s (by omega) (by omega) (by rw[n];omega);rw[f]at a;simp only[Result.ok.injEq]at a;rw[a.1];exact .inr rfl;by_cases E:l.length+s.size<=cap;have a:=Lib.run_append_room_string (P:=prog) w 112 9 ty 5 j underlying112 underlying9 hi m g l.length cap A B s E (by rw[C];omega);rw[f]at a;simp only[Result.ok.injEq]at a;rw[a.1];exact .inl rfl;have a:=Lib.run_append_grow_string (P:=prog) w 112 9 ty 5 j _ underlying112 underlying9 hi k ⟨g,0,none⟩ l.length cap (bv l) (by rw[m,fK];omega) (h.2.cells (g:=g) rfl) s (by omega) (by omega) (by rw[n];exact growslice_fits (by omega) (by omega));rw[f]at a;simp only[Result.ok.injEq]at a;rw[a.1];exact .inr rfl
 have q:aX d e p (l++bl s):=by
  refine⟨λy F=>(ck.1 F).elim (h.1 y) (qR s y),?_⟩
  rw[GF]at r;rw[bG,iJ];simpa [bv]using r
 obtain⟨b,c,G,_⟩:=q.bs;rw[G]at f q t;exact⟨b,_,c,d,f,q,x,t⟩
theorem GH{K:Act->World->Prop}(s x:Operand)
 (ho:I.op=.call {callee:=.builtin .append,args:= #[s,x],argTypes:= #[112,9]})
 (g:Nat) (v:Value) (l:List Int) (hs:f.eval s=v) (i:aX w g v l) (d:ByteArray) (j:f.eval x=.string d) (k:l.length+d.size<=100000000) (m:g<=w.heap.size)
 (h:∀a b c e,aX e g (.slice a b c) (l++bl d)->w.grownBy e v.ownBlock->((Value.slice a b c).ownBlock=v.ownBlock\/(Value.slice a b c).ownBlock=some w.heap.size)->
   K (f.put I.dst (.slice a b c)) e):Oper.wp prog I f w K G:=by
 obtain⟨a,b,c,e,n,p,q,r⟩:=GG (w:=w) I.type g v l i d k m;unfold Oper.wp execOp;simp only[ho,resolve,invoke,builtin,ie,kN,ic,lN,ki,kO,hs,j,n]
 exact h a b c e p q r
theorem GI{K:Act->World->Prop}(i:I.guard=none)(s x:Operand)
 (ho:I.op=.call {callee:=.builtin .append,args:= #[s,x],argTypes:= #[112,9]})
 (a:Nat) (v:Value) (l:List Int) (hs:f.eval s=v) (j:aX w a v l) (d:ByteArray) (k:f.eval x=.string d) (m:l.length+d.size<=100000000) (n:a<=w.heap.size)
 (h:∀b c e g,aX g a (.slice b c e) (l++bl d)->w.grownBy g v.ownBlock->((Value.slice b c e).ownBlock=v.ownBlock\/(Value.slice b c e).ownBlock=some w.heap.size)->
   K (f.put I.dst (.slice b c e)) g):if Region.wanted I (yielded F f.tmps)=true then Oper.wp prog I f w K G else u:=by
 have p:Region.wanted I (yielded F f.tmps)=true:=by simp[Region.wanted,i]
 rw[aM p];exact GH s x ho a v l hs j d k m n h
theorem uV:prog.elem 133=200:=by kernel_rfl
theorem Br(W:World):(sizeOf 200).run prog W=.ok 2 W:=by kernel_rfl
theorem ba.head(h:ba w a n k Y)(i:Nat)(hi:i<=n):ba w a i k (Y.take i):=by
 have d:=h.front i hi;obtain⟨p,q,r,f,c⟩:=h;obtain⟨f1,f2,f3,f4,f5⟩:=d;refine⟨f1,f2,by omega,f,?_⟩
 obtain c|⟨b,o,rfl,c⟩:=c
 exact .inl c;obtain f5|⟨g,l,e,f5⟩:=f5
 refine .inr ⟨b,o,rfl,?_⟩;have:Y.take i=[]:=fR (by omega);rw[this];intro j v m;simp[bY]at m;exact .inr ⟨g,l,e,f5⟩
theorem xI(h:iL Y)(i:Nat)(hi:0<i)(hl:i<=Y.length):iL (Y.take i):=by
 have e:∀k,k<i->au (Y.take i) k=au Y k:=λk a=>by simp[au,List.getD,jO,a]
 refine⟨by rw[cC];omega,λk a=>?_⟩
 rw[cC]at a;have:=h.2 k (by omega);unfold mj at *;rw[e k (by omega)];refine⟨this.1,this.2.1,λh0=>?_⟩
 rw[e (k-1) (by omega)];exact this.2.2 h0
theorem Bu(l:List Rg)(h:0<l.length):(fC (l.take 1)).length<=24:=by
 unfold fC lq;have e:(l.take 1).length=1:=by rw[cC];omega
 rw[e];simp only[qO,jn,nw,bG]
 have:=(gD (au (l.take 1) 0).hi).2;have:=(gD (((1:Nat):Int)-1)).2;have:=(gD ((au (l.take 1) 0).hi-(au (l.take 1) 0).lo)).2;omega
def jH(l:List Rg)(a:Int):Nat->Nat
 |0=>0
 |m+1=>if a<1+((fC (l.take (m+1))).length:Int)then jH l a m else m+1
theorem I7(w:World)(a:Option Addr)(n cap:Nat)(l:List Rg)(hs:ba w a n cap l)(p:iL l)(C:n<=1000)(b:Int)(D:40<=b/\b<=1000):
 Calls prog 202 #[.slice a n cap,.int .i64 b] w λe d=>(∃m:Nat,e=.returned (.int .i64 (m:Int))/\m=jH l b n/\1<=m/\m<=n/\1+((fC (l.take m)).length:Int)<=b)/\w.grownBy d none:=by
 obtain⟨R,h⟩:∃R:Ending->Prop,R=λe=>∃m:Nat,e=.returned (.int .i64 (m:Int))/\m=jH l b n/\1<=m/\m<=n/\1+((fC (l.take m)).length:Int)<=b:=⟨_,rfl⟩
 have r:(λ(e:Ending)(d:World)=>(∃m:Nat,e=.returned (.int .i64 (m:Int))/\m=jH l b n/\1<=m/\m<=n/\1+((fC (l.take m)).length:Int)<=b)/\w.grownBy d none)=λe d=>R e/\w.grownBy d none:=by rw[h]
 rw[r];clear r;have f:n=l.length:=hs.2.1;have E:=hs.2.2.1;have F:=p.1;have x:=hs.2.2.2.1;unfold maxLen at x;replace f:=J f;replace h:=J h;go_enter func202,ntmps202;go_wp2_with fail;go_loopw [5] (λk wr=>∃m:Nat,1<=m/\m<=n/\k=.int .i64 (m:Int)/\jH l b m=jH l b n/\w.grownBy wr none) (λk _=>(intOf k).toNat);case atStart=>exact⟨n,by have:=Z f;omega,aI _,rfl,rfl,av _ _⟩
 case round=>
  obtain⟨m,s,t,rfl,i,g⟩:=hrel;replace i:=J i;have d0:decide ((0:Int)<(m:Int))=true:=bp (by omega);have y:=hs.head m t;have G:(m:Int)<=(cap:Int):=by omega
  have u:=J (Ah w wr wr.heap.size none 0 [] a m cap (l.take m) (aX.nil _ _) g g.size y (xI p m s (by have:=Z f;omega)) (aI _) (by rw[cC];simp;omega));simp only[fH,jQ]at u;obtain⟨L,c⟩:=exq ((fC (l.take m)).length);have z:Hid (m=1->L<=24):=J (λe=>by rw[c,e];exact Bu l (by have:=Z f;omega));have H:L<=1000000:=by
   rw[c];unfold fC lq;have:=vX (l.take m) ((l.take m).length-1);have:=(gD (au (l.take m) 0).hi).2;have:=(gD (((l.take m).length:Int)-1)).2;have:=(gD ((au (l.take m) 0).hi-(au (l.take m) 0).lo)).2;simp only[bG]
   rw[cC]at *;omega
  have I:IntKind.i64.wrap (1+(L:Int))=1+(L:Int):=by simp[IntKind.wrap,IntKind.bits,IntKind.signed];omega
  replace c:=J c;go_wp2_with (first|(go_at_call 238;refine(Z u).mono ?_;rintro e A⟨K,n2,c2,rfl,j⟩;have v:wr.grownBy A none:=j.gb;obtain rfl:n2=L:=(j.fB.2.1).trans (Z c).symm;replace j:=J j));have M:m≠1:=λe=>by have:=Z z e;omega
  have B:jH l b (m-1)=jH l b n:=by
   rw[<-Z i];obtain⟨q,rfl⟩:∃q,m=q+1:=⟨m-1,by omega⟩
   show jH l b q=if b<1+((fC (l.take (q+1))).length:Int)then jH l b q else q+1
   rw[<-Z c,aM (by omega)]
  exact⟨⟨m-1,by omega,by omega,by congr 1;omega,B,aj g v⟩,by simp[intOf];omega⟩
  go_ret;refine⟨?_,aj g v⟩
  rw[Z h];refine⟨m,rfl,?_,s,t,by rw[<-Z c];omega⟩
  rw[<-Z i];obtain⟨q,rfl⟩:∃q,m=q+1:=⟨m-1,by omega⟩
  show q+1=if b<1+((fC (l.take (q+1))).length:Int)then jH l b q else q+1
  rw[<-Z c,ay (by omega)]
theorem vE(A C:List Int)(k:Nat):(A++C).getD (A.length+k) 0=C.getD k 0:=by
 simp[List.getD,kZ]
theorem oY(A C:List Int):(A++C).getD A.length 0=C.getD 0 0:=vE A C 0
theorem MQ(A B:List Int)(h:dH p):cK (A++(aN p++B)) A.length=some (p,A.length+(aN p).length):=by
 unfold dH at h;unfold cK;by_cases b:p<64;have a:aN p=[p]:=by simp[aN,b]
 rw[a,oY];have hs:eC (([p]++B).getD 0 0)=1:=by
  simp only[eC,nu,vR]
  rw[aM (by omega)]
 rw[hs,aM (by simp)];simp only[iM,qO,oY]
 simp;omega;by_cases c:p<16384;have a:aN p=[p/256+64,p %256]:=by simp[aN,b,c]
 rw[a,oY];have hs:eC (([p/256+64,p %256]++B).getD 0 0)=2:=by
  simp only[eC,nu,vR]
  rw[ay (by omega),aM (by omega)]
 rw[hs,aM (by simp)];simp only[iM,oq,Nat.reduceAdd,Nat.reduceSub,vE,oY]
 simp;omega;by_cases d:p<1073741824;have a:aN p=[p/16777216+128,p/65536 %256,p/256 %256,p %256]:=by simp[aN,b,c,d]
 rw[a,oY];have hs:eC (([p/16777216+128,p/65536 %256,p/256 %256,p %256]++B).getD 0 0)=4:=by
  simp only[eC,nu,vR]
  rw[ay (by omega),ay (by omega),aM (by omega)]
 rw[hs,aM (by simp)];simp only[iM,oq,Nat.reduceAdd,Nat.reduceSub,vE,oY]
 simp;omega;have a:aN p=[p/72057594037927936+192,p/281474976710656 %256,p/1099511627776 %256,p/4294967296 %256,p/16777216 %256,p/65536 %256,p/256 %256,p %256]:=by simp[aN,b,c,d]
 rw[a,oY];have hs:eC (([p/72057594037927936+192,p/281474976710656 %256,p/1099511627776 %256,p/4294967296 %256,p/16777216 %256,p/65536 %256,p/256 %256,p %256]++B).getD 0 0)=8:=by
  simp only[eC,nu,vR]
  rw[ay (by omega),ay (by omega),ay (by omega)]
 rw[hs,aM (by simp)];simp only[iM,oq,Nat.reduceAdd,Nat.reduceSub,vE,oY]
 simp;omega
theorem nh(a:L=K++(aN q++M))(hp:k=K.length)(h:dH q):cK L k=some (q,k+(aN q).length):=by
 subst a hp;exact MQ K M h
def iT(l:List Rg):Nat->Nat->List Int
 |_,0=>[]
 |j,k+1=>sr l j++iT l (j+1) k
theorem MR(l:List Rg)(k:Nat):∀j,jn l (j+k)=jn l j++iT l j k:=by
 induction k with
 |zero=>intro j;simp[iT]
 |succ k a=>
  intro j;rw[show j+(k+1)=(j+1)+k by omega,a (j+1)];simp[jn,iT]
theorem C0(h:i<Y.length):au Y i=Y[i]:=by
 simp[au,List.getD,h]
theorem MS(f:∀r∈Y,r.ok)(e:iL Y)(B:List Int)(k:Nat):∀(j:Nat)(A:List Int),j+1+k=Y.length->
 jo (A++(iT Y j k++B)) k A.length (au Y j).lo (Y.take (j+1))=some (Y,A.length+(iT Y j k).length):=by
 induction k with
 |zero=>
  intro j A h;simp only[jo,iT,fH,lO,kM,qi,and_true]
  exact eG (by omega)
 |succ k i=>
  intro j A h;have a:=oD f e j (by omega);have b:=oD f e (j+1) (by omega);have c:=e.2 (j+1) (by omega);unfold mj at c;simp only[qL]at c;unfold dH at a b;obtain⟨x,l⟩:=exq ((au Y j).lo-(au Y (j+1)).hi-2);obtain⟨y,m⟩:=exq ((au Y (j+1)).hi-(au Y (j+1)).lo);have d:iT Y j (k+1)=aN x++(aN y++iT Y (j+1) k):=by simp[iT,sr,l,m]
  have n:dH x:=by unfold dH;omega
  have p:dH y:=by unfold dH;omega
  have q:cK (A++(iT Y j (k+1)++B)) A.length=some (x,A.length+(aN x).length):=nh (M:=aN y++iT Y (j+1) k++B) (by rw[d];simp) rfl n;have n2:cK (A++(iT Y j (k+1)++B)) (A.length+(aN x).length)=some (y,A.length+(aN x).length+(aN y).length):=nh (K:=A++aN x) (M:=iT Y (j+1) k++B) (by rw[d];simp) (by simp) p;have e1:(au Y j).lo-2-x=(au Y (j+1)).hi:=by omega
  have e2:(au Y (j+1)).hi-y=(au Y (j+1)).lo:=by omega
  have s:A++(iT Y j (k+1)++B)=(A++aN x++aN y)++(iT Y (j+1) k++B):=by rw[d];simp
  have g:j+1<Y.length:=by omega
  have t:Y.take (j+1)++[au Y (j+1)]=Y.take (j+1+1):=by rw[qc g,C0 g]
  simp only[jo,q,n2,eB,e1,e2]
  rw[aM (by omega)];have:=i (j+1) (A++aN x++aN y) (by omega);rw[<-s]at this;rw[t];simp only[bG]at this;rw[this,d];simp only[bG]
  congr 2;omega
theorem MT(g:∀r∈Y,r.ok)(d:iL Y)(hl:(Y.length:Int)<=4611686018427387903)(e:L=K++(fC Y++M))(hp:n=K.length):jq L n=some (Y,n+(fC Y).length):=by
 subst hp;have f:=d.1;have a:=oD g d 0 f;have c:=(d.2 0 f).1;unfold dH at a;obtain⟨x,h⟩:=exq ((au Y 0).hi);obtain⟨y,i⟩:∃y:Int,y=(Y.length:Int)-1:=⟨_,rfl⟩
 obtain⟨z,j⟩:=exq ((au Y 0).hi-(au Y 0).lo);have b:fC Y=aN x++(aN y++(aN z++iT Y 0 (Y.length-1))):=by
  have:=MR Y (Y.length-1) 0;simp only[dv,jn,jQ]at this;simp[fC,lq,this,h,i,j]
 have k:cK L K.length=some (x,K.length+(aN x).length):=nh (K:=K) (M:=aN y++(aN z++iT Y 0 (Y.length-1))++M) (by rw[e,b];simp) rfl (by unfold dH;omega);have n2:cK L (K.length+(aN x).length)=some (y,K.length+(aN x).length+(aN y).length):=nh (K:=K++aN x) (M:=aN z++iT Y 0 (Y.length-1)++M) (by rw[e,b];simp) (by simp) (by unfold dH;omega);have l:cK L (K.length+(aN x).length+(aN y).length)=some (z,K.length+(aN x).length+(aN y).length+(aN z).length):=nh (K:=K++aN x++aN y) (M:=iT Y 0 (Y.length-1)++M) (by rw[e,b];simp) (by simp;omega) (by unfold dH;omega);have e1:x-z=(au Y 0).lo:=by omega
 have e2:y.toNat=Y.length-1:=by omega
 have m:L=(K++aN x++aN y++aN z)++(iT Y 0 (Y.length-1)++M):=by rw[e,b];simp
 have p:[(⟨(au Y 0).lo,x⟩:Rg)]=Y.take (0+1):=by
  rw[qc (by omega),h,C0 f];simp
 simp only[jq,k,n2,l,eB,e1,e2,p]
 rw[aM (by omega)];have:=MS g d M (Y.length-1) 0 (K++aN x++aN y++aN z) (by omega);rw[<-m]at this;simp only[bG]at this;rw[show K.length+(aN x).length+(aN y).length+(aN z).length=K.length+(aN x).length+(aN y).length+(aN z).length from rfl,this,b];simp only[bG]
 congr 2;omega
def iF(f:Fr):Fr:=
 if f.kind=1 then bX 1 false else if f.kind=2 then bX 2 false else if f.kind=3 then{bX 3 false with ranges:=f.ranges}
 else if f.kind=4 then{bX 4 false with stream:=f.stream,code:=f.code,offset:=f.offset}
 else if f.kind=5 then{bX 5 f.fin with stream:=f.stream,offset:=f.offset,data:=f.data}
 else{bX 6 false with code:=f.code}
theorem MU(d:ByteArray):strOfNums (bl d)=d:=by
 apply ByteArray.ext;apply Array.toList_inj.1;rw[strOfNums_data,bl,pF];refine(r9 (g:=id) λx _=>?_).trans (List.map_id _);simp
theorem C4(a:L=K++(aN q++M))(hp:k=K.length)(h0:0<=q)(b:q<4):jx L k=some (q,k+(aN q).length):=by
 unfold jx;rw[nh a hp ⟨h0,by omega⟩];simp[b]
theorem MV{d:ByteArray}(a:L=K++(aN d.size++(bl d++M)))(hp:k=K.length)(hd:(d.size:Int)<=4611686018427387903):mN L k=some (d,k+(aN d.size).length+d.size):=by
 unfold mN;rw[nh (q:=d.size) a hp ⟨by omega,hd⟩];simp only[eB]
 have b:L.length=K.length+(aN d.size).length+d.size+M.length:=by rw[a];simp[iJ];omega
 rw[aM (by rw[b,hp];push_cast;omega)];have e:(L.drop (k+(aN d.size).length)).take d.size=bl d:=by
  rw[a,show K++(aN (d.size:Int)++(bl d++M))=(K++aN (d.size:Int))++(bl d++M) by simp,show k+(aN (d.size:Int)).length=(K++aN (d.size:Int)).length by simp[hp],List.drop_left,<-iJ d,List.take_left]
 simp only[jP,e,MU]
theorem MW(u:H.ok)(hs:dm H)(hl:(H.ranges.length:Int)<=4611686018427387903)(i:L=K++(cZ H++M)):ml L K.length=some (iF H,K.length+(cZ H).length):=by
 obtain⟨⟨b1,b2,k,l⟩,⟨q,v⟩,y,z⟩:=id hs;obtain⟨A,B,⟨r,-⟩,⟨s,-⟩,w⟩:=u;have c:H.kind=1\/H.kind=2\/H.kind=3\/H.kind=4\/H.kind=5\/H.kind=6:=by omega
 have e0:L.getD K.length 0=(cZ H++M).getD 0 0:=by rw[i];exact oY K _
 unfold ml;rw[e0];obtain c|c|c|c|c|c:=c
 have a:cZ H=[0]:=by simp[cZ,c]
 have f:iF H=bX 1 false:=by simp[iF,c]
 rw[a,f];have e:dm (bX 1 false):=by simp[dm,oC,pJ,bX]
 simp[eR,e];have a:cZ H=[1]:=by simp[cZ,c]
 have f:iF H=bX 2 false:=by simp[iF,c]
 rw[a,f];have e:dm (bX 2 false):=by simp[dm,oC,pJ,bX]
 simp[eR,e];have a:cZ H=2::fC H.ranges:=by simp[cZ,c]
 have f:iF H={bX 3 false with ranges:=H.ranges}:=by simp[iF,c]
 have x:jq L (K.length+1)=some (H.ranges,K.length+1+(fC H.ranges).length):=MT (K:=K++[2]) (M:=M) w (q c) hl (by rw[i,a];simp) (by simp);rw[a,f];have e:dm {bX 3 false with ranges:=H.ranges}:=by
  refine⟨?_,⟨λ_=>q c,λh=>?_⟩,?_⟩<;>simp[oC,bX]at *
 simp[eR,x,e];omega;have a:cZ H=4::(aN H.stream++aN H.code++aN H.offset):=by simp[cZ,c]
 have f:iF H={bX 4 false with stream:=H.stream,code:=H.code,offset:=H.offset}:=by simp[iF,c]
 have g:=C4 (L:=L) (K:=K++[4]) (M:=aN H.code++(aN H.offset++M)) (q:=H.stream) (k:=K.length+1) (by rw[i,a];simp) (by simp) k l;have n2:=nh (L:=L) (K:=K++[4]++aN H.stream) (M:=aN H.offset++M) (q:=H.code) (k:=K.length+1+(aN H.stream).length) (by rw[i,a];simp) (by simp;omega) ⟨s,b2⟩;have j:=nh (L:=L) (K:=K++[4]++aN H.stream++aN H.code) (M:=M) (q:=H.offset) (k:=K.length+1+(aN H.stream).length+(aN H.code).length) (by rw[i,a];simp) (by simp;omega) ⟨r,b1⟩;rw[a,f];have e:dm {bX 4 false with stream:=H.stream,code:=H.code,offset:=H.offset}:=by
  refine⟨⟨b1,b2,k,l⟩,⟨λh=>?_,λh=>?_⟩,?_⟩<;>simp[bX]at *
 simp[eR,g,n2,j,e];omega;have hd:=v c;have g:=λt:Int=>λa:cZ H=t::(aN H.stream++aN H.offset++aN H.data.size++bl H.data)=>C4 (L:=L) (K:=K++[t]) (M:=aN H.offset++(aN H.data.size++(bl H.data++M))) (q:=H.stream) (k:=K.length+1) (by rw[i,a];simp) (by simp) k l
 have n2:=λt:Int=>λa:cZ H=t::(aN H.stream++aN H.offset++aN H.data.size++bl H.data)=>nh (L:=L) (K:=K++[t]++aN H.stream) (M:=aN H.data.size++(bl H.data++M)) (q:=H.offset) (k:=K.length+1+(aN H.stream).length) (by rw[i,a];simp) (by simp;omega) ⟨r,b1⟩
 have j:=λt:Int=>λa:cZ H=t::(aN H.stream++aN H.offset++aN H.data.size++bl H.data)=>MV (L:=L) (K:=K++[t]++aN H.stream++aN H.offset) (M:=M) (d:=H.data) (k:=K.length+1+(aN H.stream).length+(aN H.offset).length) (by rw[i,a];simp) (by simp;omega) (by omega)
 have e:∀b,dm {bX 5 b with stream:=H.stream,offset:=H.offset,data:=H.data}:=λb=>by
  refine⟨⟨b1,by simp[bX],k,l⟩,⟨λh=>?_,λh=>hd⟩,?_⟩<;>simp[bX]at *
 cases m:H.fin with
 |true=>
  have a:cZ H=9::(aN H.stream++aN H.offset++aN H.data.size++bl H.data):=by simp[cZ,c,m]
  have f:iF H={bX 5 true with stream:=H.stream,offset:=H.offset,data:=H.data}:=by simp[iF,c,m]
  replace g:=g 9 a;replace n2:=n2 9 a;replace j:=j 9 a;replace e:=e true;rw[a,f];simp[eR,g,n2,j,e,iJ];omega
 |false=>
  have a:cZ H=8::(aN H.stream++aN H.offset++aN H.data.size++bl H.data):=by simp[cZ,c,m]
  have f:iF H={bX 5 false with stream:=H.stream,offset:=H.offset,data:=H.data}:=by simp[iF,c,m]
  replace g:=g 8 a;replace n2:=n2 8 a;replace j:=j 8 a;replace e:=e false;rw[a,f];simp[eR,g,n2,j,e,iJ];omega
 have a:cZ H=28::aN H.code:=by simp[cZ,c]
 have f:iF H={bX 6 false with code:=H.code}:=by simp[iF,c]
 have g:=nh (L:=L) (K:=K++[28]) (M:=M) (q:=H.code) (k:=K.length+1) (by rw[i,a];simp) (by simp) ⟨s,b2⟩;rw[a,f];have e:dm {bX 6 false with code:=H.code}:=by
  refine⟨⟨by simp[bX],b2,by simp[bX],by simp[bX]⟩,⟨λh=>?_,λh=>?_⟩,?_⟩<;>simp[bX]at *
 simp[eR,g,e];omega
theorem MX(a:List Fr):∀(A:List Int)(k:Nat)(b:List Fr),(∀f∈a,f.ok/\dm f/\(f.ranges.length:Int)<=4611686018427387903)->a.length<k->ig (A++bu a) k A.length b=(some (b++a.map iF),-1):=by
 induction a with
 |nil=>
  intro A k b _ c;obtain⟨k,rfl⟩:∃m,k=m+1:=⟨k-1,by simp at c;omega⟩
  simp[ig,bu]
 |cons f r d=>
  intro A k b h c;obtain⟨k,rfl⟩:∃m,k=m+1:=⟨k-1,by simp at c;omega⟩
  obtain⟨e,i,j⟩:=h f (by simp);have l:=MW e i j (L:=A++bu (f::r)) (K:=A) (M:=bu r) rfl;have q:=(ud f).1;have n:A.length<(A++bu (f::r)).length:=by simp[bu];omega
  simp only[ig,aM n,l]
  have:=d (A++cZ f) k (b++[iF f]) (λg p=>h g (by simp[p])) (by simp at c;omega);simp only[bG]at this;rw[show A++bu (f::r)=A++cZ f++bu r by simp[bu],this];simp
theorem MY(a:List Fr):a.length<=(bu a).length:=by
 induction a with
 |nil=>simp[bu]
 |cons f r b=>have:=(ud f).1;simp[bu];omega
theorem C9{a:List Fr}(h:∀f∈a,f.ok/\dm f/\(f.ranges.length:Int)<=4611686018427387903)(h0:a≠[]):fU (bu a)=(some (a.map iF),-1):=by
 have hl:=MY a;have hp:=np.2 h0;unfold fU;rw[ay (by omega)];have:=MX a [] ((bu a).length+1) [] h (by omega);simpa using this
