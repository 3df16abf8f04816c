import Derived.Test.YtjnmokmchdfchaaGreatDoorZWx
set_option maxRecDepth 1000000
set_option maxHeartbeats 0
set_option linter.all false
namespace Go.Proofs.YtjnmokmchdfchaaGreatDoor
open Go.RowKit Tryz
attribute[local go_sem↓]Go.wp_at_zero Go.wp_at_succ
variable{n:Nat}{s:aB}
theorem Pn(w:World)(sb:Nat)(h:cG s n)(hn:n<=99900)(H:bH w sb s)(G:Laid w)(x:Bt)(D:x.ok)(a2:x.kind=2):
 Calls prog 26 #[.pointer (some ⟨sb,0,none⟩),.agg (fQ x)] w (iW w sb s n):=by
 obtain⟨I,S⟩:=mb.mk' H G x;obtain⟨d0,d1,d2,d3⟩:=S.cells S.refl;obtain⟨k,Y⟩:=exq (jL x.a 4);have v:k<4:=by have:=l7 x.a (p:=4) (by decide);omega
 have k0:(0:Int)<=(k:Int):=by omega
 have k1:(k:Int)<4:=by omega
 have K:=J (l8 x.a 4 I D.a.1 D.a.2 (by decide) (by decide));rw[<-Y]at K;clear Y;obtain⟨f1,f2⟩:=h.fin (by omega) v;obtain⟨⟨c0,-,-,gl,-,-,-,-⟩,-⟩:=S.T.at_.c;have co:=S.T.at_.outs k v;have al:=J h.qH;obtain⟨lb,r⟩:=exq ((s.sl k).1);rw[<-r]at co;have L:=J (λ(w':World)(q:∃E,aY w sb s E w'/\cG E (n+1))=>(show iW w sb s n (.returned (.bool true)) w' from q.elim (λE q=>⟨rfl,E,n+1,q.1,q.2,by omega,by omega⟩)));obtain⟨fi,y⟩:=exq ((s.o k).finished);rw[<-y]at f1 f2;have bt:=J S.T;have l:Hid (fi=true->Calls prog 28 #[.pointer (some ⟨s.xb,0,none⟩),.agg #[.int .i64 2,.int .i64 (k:Int),.int .i64 0,.int .u64 0,.string ⟨#[]⟩]] I λe b=>∃a m c f d,e=.returned (.agg #[.int .i64 3,.int .i64 (-1),.int .i64 0,.int .u64 0,.string ⟨#[]⟩,.slice a m c])/\aY w sb s {s with A:=f,tag:=d} b):=J (λe=>by
  obtain⟨hd,-⟩:=f1 e;refine(pZ S.T (Z al) (by omega) ⟨2,(k:Int),0,0,⟨#[]⟩⟩ (by simp[aR]) (mg _) hd).mono ?_;rintro e b⟨a,m,c,f,d,rfl,-,j,-⟩;exact⟨a,m,c,f,d,by simp[mE,qy],j⟩)
 have M:Hid (fi=false->∃z,(∀N O,cG {s with st:=z,A:=N,tag:=O,o:=aw s.o k {s.o k with finished:=true}} (n+1))/\Calls prog 28 #[.pointer (some ⟨s.xb,0,none⟩),.agg #[.int .i64 2,.int .i64 (k:Int),.int .i64 0,.int .u64 0,.string ⟨#[]⟩]] I λe b=>∃a m c f d,e=.returned (.agg #[.int .i64 0,.int .i64 (-1),.int .i64 0,.int .u64 0,.string ⟨#[]⟩,.slice a m c])/\aY w sb s {s with st:=z,A:=f,tag:=d} b):=J (λe=>by
  obtain⟨z,hd,t⟩:=f2 e;refine⟨z,t,(pZ S.T (Z al) (by omega) ⟨2,(k:Int),0,0,⟨#[]⟩⟩ (by simp[aR]) (mg _) hd).mono ?_⟩
  rintro e b⟨a,m,c,f,d,rfl,-,j,-⟩;exact⟨a,m,c,f,d,by simp[mE,qy],j⟩)
 have Q:Hid (fi=true->∀N O,cG {s with A:=N,tag:=O} (n+1)):=J (λe=>(f1 e).2);clear f1 f2;obtain⟨P,R⟩:=exq (iW w sb s n);rw[<-R]at L⊢;replace R:=J R;have F:=S.e;replace S:=J S;replace H:=J H;replace G:=J G;replace h:=J h;replace D:=J D;replace r:=J r;replace y:=J y;obtain⟨kind,xa,bz,str⟩:=x;simp only at *;subst a2;cases fi
 ·obtain⟨z,t,l⟩:=Z M rfl;replace l:=J l;replace t:=J t;clear M Q;unfold fQ at *;simp only at *;go_enter func26,ntmps26;go_upto_region 1 with fail;rw[<-F];clear F;go_upto_region 2 with(go_at_call 23;refine(Z K).mono ?_;rintro e w2⟨rfl,rfl⟩)
  go_upto_region 8 with(go_at_call 28;refine(Z l).mono ?_;rintro e b⟨a,m,c,f,d,rfl,j⟩)
  obtain⟨g,p⟩:=exq (b.alloc (.cells #[.int .i64 0,.int .i64 (-1),.int .i64 0,.int .u64 0,.string ⟨#[]⟩,.slice a m c] 46));have U:b.grownBy g none:=by rw[p];exact aC _ _ _
  have u:g.heap[b.heap.size]?=some (.cells #[.int .i64 0,.int .i64 (-1),.int .i64 0,.int .u64 0,.string ⟨#[]⟩,.slice a m c] 46 (0,0)):=by rw[p];exact aH _ _
  rw[<-p];clear p l c0 gl co;have i:=j.gb U;have a4:i.at_.tl=i.at_.tl:=rfl;have a8:d b.heap.size=none:=j.at_.fresh (aI _);obtain⟨⟨-,-,-,s3,-,-⟩,sf⟩:=(i.at_.src k v).c;replace s3:g.cell? ⟨lb,3,none⟩=some (.bool false):=by rw[Z r,Z y];exact s3
  have bL:g.frozen? ⟨lb,3,none⟩=false:=by rw[Z r];exact sf 3
  have V:=i.at_.vG i.laid v 3 (.bool true) {s.o k with finished:=true} rfl rfl rfl rfl;have B:=i.trans V;have C:=(V.aq.block b.heap.size (aO.1 u).1 (λh=>h a8)).trans u;simp only at B C;rw[<-Z r]at B C;obtain⟨W6,W⟩:=exq (g.setCell ⟨lb,3,none⟩ (.bool true));rw[<-W]at B C;have y0:W6.cell? ⟨b.heap.size,0,none⟩=some (.int .i64 0):=by simp[World.cell?,C]
  have X:=J (Z L W6 ⟨_,B,Z t f d⟩);clear j i u sf V B C a4;go_upto_region 11 with fail;rw[<-W];clear W;go_wp2_with fail;exact Z X
 replace l:=J (Z l rfl);have t:=J (Z Q rfl);clear M Q;unfold fQ at *;simp only at *;go_enter func26,ntmps26;go_upto_region 1 with fail;rw[<-F];clear F;go_upto_region 2 with(go_at_call 23;refine(Z K).mono ?_;rintro e w2⟨rfl,rfl⟩)
 go_upto_region 8 with(go_at_call 28;refine(Z l).mono ?_;rintro e b⟨a,m,c,f,d,rfl,j⟩)
 obtain⟨g,p⟩:=exq (b.alloc (.cells #[.int .i64 3,.int .i64 (-1),.int .i64 0,.int .u64 0,.string ⟨#[]⟩,.slice a m c] 46));have U:b.grownBy g none:=by rw[p];exact aC _ _ _
 have u:g.heap[b.heap.size]?=some (.cells #[.int .i64 3,.int .i64 (-1),.int .i64 0,.int .u64 0,.string ⟨#[]⟩,.slice a m c] 46 (0,0)):=by rw[p];exact aH _ _
 rw[<-p];clear p l c0 gl co;have i:=j.gb U;obtain⟨⟨-,-,-,s3,-,-⟩,-⟩:=(i.at_.src k v).c;replace s3:g.cell? ⟨lb,3,none⟩=some (.bool true):=by rw[Z r,Z y];exact s3
 have y0:g.cell? ⟨b.heap.size,0,none⟩=some (.int .i64 3):=by simp[World.cell?,u]
 have X:=J (Z L g ⟨_,i,Z t f d⟩);clear j i u;go_wp2_with fail;exact Z X
noncomputable def rY:Nat->aK->aK
 |0,st=>st
 |c+1,st=>(((rY c st).do ⟨4,0,0,0,⟨#[]⟩⟩).2.do ⟨5,0,0,0,⟨#[]⟩⟩).2
def vK(w:World)(sb:Nat)(V:aB)(n N q:Nat)(e:Ending)(c:World):Prop:=e=.returned (.bool true)/\∃a b,aY w sb V a c/\cG a b/\n<=b/\b<=n+80/\(q≠1->a.st=rY (N+1) V.st)
theorem DI(w:World)(sb:Nat)(h:cG s n)(hn:n<=99900)(H:bH w sb s)(C:Laid w)(x:Bt)(g:x.ok)(a8:x.kind=3)(D:tx)(N q:Nat)(U:N=jL x.a 40)(V:q=jL x.b 2):
 Calls prog 26 #[.pointer (some ⟨sb,0,none⟩),.agg (fQ x)] w (vK w sb s n N q):=by
 obtain⟨u,S⟩:=mb.mk' H C x;obtain⟨d0,d1,d2,d3⟩:=S.cells S.refl;obtain⟨k,X⟩:=exq (jL x.a 4);have hk:k<4:=by have:=l7 x.a (p:=4) (by decide);omega
 have k0:(0:Int)<=(k:Int):=by omega
 have k1:(k:Int)<4:=by omega
 have E:=J (l8 x.a 4 u g.a.1 g.a.2 (by decide) (by decide));rw[<-X]at E;clear X;have hN:N<40:=by have:=l7 x.a (p:=40) (by decide);omega
 have F:=J (l8 x.a 40 u g.a.1 g.a.2 (by decide) (by decide));rw[<-U]at F;have hq:q<2:=by have:=l7 x.b (p:=2) (by decide);omega
 have G:=J (λW=>l8 x.b 2 W g.b.1 g.b.2 (by decide) (by decide));rw[<-V]at G;clear U V;have Y:=J (λ(d:aB)(v:World)(T:aY u sb s d v)=>(S.cells T).2.2.1);have T0:=J S.refl;have ax:=J (λ(v:World)(z:∃d m,aY u sb s d v/\cG d m/\n<=m/\m<=n+80/\(q≠1->d.st=rY (N+1) s.st))=>(show vK w sb s n N q (.returned (.bool true)) v from z.elim (λd z=>z.elim (λm z=>⟨rfl,d,m,S.T.trans z.1,z.2.1,z.2.2.1,z.2.2.2.1,z.2.2.2.2⟩))));obtain⟨P,I⟩:=exq (vK w sb s n N q);rw[<-I]at ax⊢;replace I:=J I;have a0:=S.e;replace S:=J S;replace H:=J H;replace C:=J C;replace h:=J h;replace g:=J g;replace D:=J D;obtain⟨kind,xa,b3,str⟩:=x;simp only at *;subst a8;unfold fQ at *;simp only at *;go_enter func26,ntmps26;go_upto_region 1 with fail;rw[<-a0];clear a0;go_upto_region 2 with(go_at_call 23;refine(Z E).mono ?_;rintro e w2⟨rfl,rfl⟩)
 go_upto_region 14 with(go_at_call 23;refine(Z F).mono ?_;rintro e w2⟨rfl,rfl⟩)
 clear d0 d1 d2 d3 E F;go_wp2_with fail;go_loopw [8] (λK wr=>∃(c:Nat)(d:aB)(m:Nat),c<=N+1/\K=.int .i64 ((N:Int)-c)/\aY w2 sb s d wr/\cG d m/\n<=m/\m<=n+2*c/\(q≠1->d.st=rY c s.st)) (λK _=>(intOf K+1).toNat);case atStart=>exact⟨0,s,n,by omega,by simp,Z T0,Z h,by omega,by omega,λ_=>rfl⟩
 case round=>
  clear T0;obtain⟨c,d,m,hc,rfl,T,r,a9,b5,y⟩:=hrel;replace y:=J y;by_cases b6:c<=N
  ·have dd:decide ((0:Int)<=(N:Int)-(c:Int))=true:=bp (by omega);have A:=J (r.Pb wr sb (by omega) T.at_ T.laid);have L:Hid ((N:Int)-(c:Int)-1=(N:Int)-((c+1:Nat):Int)):=J (by omega);obtain⟨j,M⟩:=exq ((N:Int)-(c:Int));have b7:0<=j/\j<40:=by omega
   rw[<-M]at dd L⊢;have a2:Hid ((j-1+1).toNat<(j+1).toNat):=J (by omega);replace M:=J M;replace r:=J r;by_cases a3:q=1
   ·have e1:((q:Int)==1)=true:=by rw[a3];rfl
    have b8:decide ((q:Int)=1)=true:=bp (by omega);replace T:=J T;go_upto_region 17 with(go_at_call 58;refine(Z A).mono ?_;rintro e B⟨rfl,t,i,l,-,p⟩;replace p:=J p)
    have f:=(Z T).trans i;have d2:=Z Y t B f;replace f:=J f;replace l:=J l;clear A i;go_wp2_with (go_at_call 23;refine(Z G _).mono ?_;rintro e w4⟨rfl,rfl⟩);exact⟨⟨c+1,t,m+1,by omega,by rw[Z L],Z f,Z l,by omega,by omega,λe=>absurd a3 e⟩,Z a2⟩
   have e1:((q:Int)==1)=false:=by simp;omega
   replace T:=J T;go_upto_region 17 with(go_at_call 58;refine(Z A).mono ?_;rintro e B⟨rfl,t,i,l,-,p⟩;replace p:=J p)
   have f:=(Z T).trans i;have d2:=Z Y t B f;have bj:=J (Z D B sb t (m+1) l (by omega) i.at_ i.laid);replace f:=J f;replace l:=J l;clear A i;go_wp2_with (first|(go_at_call 23;refine(Z G _).mono ?_;rintro e w4⟨rfl,rfl⟩)|(go_at_call 25;refine(Z bj).mono ?_;rintro e w5⟨rfl,V5,T5,O,Q⟩;replace Q:=J Q;have R:=(Z f).trans T5;replace R:=J R;replace O:=J O;clear T5));exact⟨⟨c+1,V5,m+1+1,by omega,by rw[Z L],Z R,Z O,by omega,by omega,λe=>by rw[Z Q,Z p,Z y e];rfl⟩,Z a2⟩
  have dd:decide ((0:Int)<=(N:Int)-(c:Int))=false:=bB (by omega);have ec:c=N+1:=by omega
  have hf:=J (Z ax wr ⟨d,m,T,r,a9,by omega,λe=>by rw[<-ec];exact Z y e⟩);clear ec;clear T r;go_wp2_with fail;exact Z hf
theorem Po(w:World)(sb:Nat)(h:cG s n)(a:n<=99900)(H:bH w sb s)(b:Laid w)(x:Bt)(c:x.ok)(d:x.kind=3)(f:tx):
 Calls prog 26 #[.pointer (some ⟨sb,0,none⟩),.agg (fQ x)] w (iW w sb s n):=
 (DI w sb h a H b x c d f _ _ rfl rfl).mono (λe i q=>⟨q.1,q.2.elim (λg q=>q.elim (λm q=>⟨g,m,q.1,q.2.1,q.2.2.1,q.2.2.2.1⟩))⟩)
theorem Pp(w:World)(sb:Nat)(h:cG s n)(r:n<=99900)(H:bH w sb s)(d:Laid w)(x:Bt)(b:x.ok)(q:x.kind=5)(h0:s.n=0):
 Calls prog 26 #[.pointer (some ⟨sb,0,none⟩),.agg (fQ x)] w (iW w sb s n):=by
 obtain⟨g,S⟩:=mb.mk' H d x;obtain⟨d0,d1,d2,d3⟩:=S.cells S.refl;obtain⟨k,i⟩:=exq (jL x.a 4);have t:k<4:=by have:=l7 x.a (p:=4) (by decide);omega
 have u:(0:Int)<=(k:Int):=by omega
 have v:(k:Int)<4:=by omega
 have j:=J (l8 x.a 4 g b.a.1 b.a.2 (by decide) (by decide));rw[<-i]at j;clear i;obtain⟨⟨-,-,-,-,fP,-,-,-⟩,-⟩:=S.T.at_.c;obtain⟨y,vc,l,-⟩:=ix S.T.at_.aE;rw[l,h0]at fP;have m:=J (show iW w sb s n (.returned (.bool true)) g from⟨rfl,s,n,S.T,h,by omega,by omega⟩);obtain⟨P,f⟩:=exq (iW w sb s n);rw[<-f]at m⊢;replace f:=J f;have p:=S.e;replace S:=J S;replace H:=J H;replace d:=J d;replace h:=J h;replace b:=J b;clear l;obtain⟨kind,z,A,str⟩:=x;simp only at *;subst q;unfold fQ at *;simp only at *;go_enter func26,ntmps26;go_upto_region 1 with fail;rw[<-p];clear p;go_upto_region 2 with(go_at_call 23;refine(Z j).mono ?_;rintro e B⟨rfl,rfl⟩)
 go_wp2_with fail;exact Z m
theorem Pq(w:World)(sb:Nat)(h:cG s n)(hn:n<=99900)(H:bH w sb s)(r:Laid w)(x:Bt)(f:x.ok)(U:x.kind=5)(h0:s.n≠0):
 Calls prog 26 #[.pointer (some ⟨sb,0,none⟩),.agg (fQ x)] w (iW w sb s n):=by
 obtain⟨t,S⟩:=mb.mk' H r x;obtain⟨d0,d1,d2,d3⟩:=S.cells S.refl;obtain⟨k,G⟩:=exq (jL x.a 4);have hk:k<4:=by have:=l7 x.a (p:=4) (by decide);omega
 have k0:(0:Int)<=(k:Int):=by omega
 have k1:(k:Int)<4:=by omega
 have I:=J (l8 x.a 4 t f.a.1 f.a.2 (by decide) (by decide));rw[<-G]at I;clear G;obtain⟨⟨-,-,-,-,fP,-,-,-⟩,-⟩:=S.T.at_.c;obtain⟨va,vc,u,-⟩:=ix S.T.at_.aE;rw[u]at fP;have a8:=h.B.n;obtain⟨lo,K⟩:=exq (jL x.a s.n);have a9:lo<s.n:=by have:=l7 x.a (p:=(s.n:Int)) (by omega);omega
 have L:=J (λW=>l8 x.a s.n W f.a.1 f.a.2 (by omega) (by omega));rw[<-K]at L;obtain⟨q,M⟩:=exq (jL x.b 4);have hq:q<4:=by have:=l7 x.b (p:=4) (by decide);omega
 have v:=J (λW=>l8 x.b 4 W f.b.1 f.b.2 (by decide) (by decide));rw[<-M]at v;have l0:((s.n:Int)==0)=false:=by simp;omega
 have N:=J (λ(W:World)(g:t.grownBy W none)(hi:Nat)(V:lo<=hi)(X:hi<s.n)=>h.Pg W sb (by omega) (S.T.gb g).at_ (S.T.gb g).laid V X);have y:=J (λ(W O:World)(g:t.grownBy W none)(q:∃i,aY W sb s i O/\cG i (n+1))=>(show iW w sb s n (.returned (.bool true)) O from q.elim (λi q=>⟨rfl,i,n+1,(S.T.gb g).trans q.1,q.2,by omega,by omega⟩)));clear K M;obtain⟨P,z⟩:=exq (iW w sb s n);rw[<-z]at y⊢;replace z:=J z;have Q:=S.e;replace S:=J S;replace H:=J H;replace r:=J r;replace h:=J h;replace f:=J f;replace u:=J u;obtain⟨kind,xa,bt,str⟩:=x;simp only at *;subst U;unfold fQ at *;simp only at *;go_enter func26,ntmps26;go_upto_region 1 with fail;rw[<-Q];clear Q;go_upto_region 2 with(go_at_call 23;refine(Z I).mono ?_;rintro e A⟨rfl,rfl⟩)
 go_upto_region 26 with fail;go_quiet (first|(go_at_call 23;refine Calls.quiet_of_same (Z L _)));obtain⟨j,m⟩:=exq (A.drewN nq);have p:A.grownBy j none:=by rw[m];exact dh (av _ none) _
 have R:∀a,j.cell? a=A.cell? a:=λa=>by rw[m];rfl
 rw[<-R]at d0 d1 d2 d3 fP;rw[<-m];clear m R;by_cases Y:lo+q<s.n
 ·have hb:decide ((s.n:Int)<=(lo:Int)+(q:Int))=false:=bB (by omega);have d:=Z N j p (lo+q) (by omega) Y;rw[Int.natCast_add]at d;replace d:=J d;go_wp2_with (first|(go_at_call 23;refine(Z v _).mono ?_;rintro e w4⟨rfl,l⟩;rw[l];clear l)|(go_at_call 59;refine(Z d).mono ?_;rintro e C⟨rfl,i,D,E,-⟩;have F:=J (Z y j C p ⟨i,D,E⟩)));exact Z F
 have hb:decide ((s.n:Int)<=(lo:Int)+(q:Int))=true:=bp (by omega);have d:=Z N j p (s.n-1) (by omega) (by omega);rw[show((s.n-1:Nat):Int)=(s.n:Int)-1 by omega]at d;replace d:=J d;go_wp2_with (first|(go_at_call 23;refine(Z v _).mono ?_;rintro e w4⟨rfl,l⟩;rw[l];clear l)|(go_at_call 59;refine(Z d).mono ?_;rintro e C⟨rfl,i,D,E,-⟩;have F:=J (Z y j C p ⟨i,D,E⟩)));exact Z F
theorem Pr(e:tx)(w:World)(sb:Nat)(h:cG s n)(a:n<=99900)(H:bH w sb s)(b:Laid w)(x:Bt)(c:x.ok):
 Calls prog 26 #[.pointer (some ⟨sb,0,none⟩),.agg (fQ x)] w (iW w sb s n):=by
 by_cases f:x.kind=1;exact Ph w sb h a H b x c f;by_cases g:x.kind=2;exact Pn w sb h a H b x c g;by_cases i:x.kind=3;exact Po w sb h a H b x c i e;by_cases j:x.kind=4;exact Pj w sb h a H b x c j e;by_cases d:x.kind=5;by_cases h0:s.n=0;exact Pp w sb h a H b x c d h0;exact Pq w sb h a H b x c d h0;exact Pm w sb h a H b x c ⟨f,g,i,j,d⟩
