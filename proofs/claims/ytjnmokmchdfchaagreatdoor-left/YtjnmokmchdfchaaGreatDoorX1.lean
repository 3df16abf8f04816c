import Derived.Test.YtjnmokmchdfchaaGreatDoorX0
set_option maxRecDepth 1000000
set_option maxHeartbeats 0
set_option linter.all false
namespace Go.Proofs.YtjnmokmchdfchaaGreatDoor
open Go.RowKit Tryz
attribute[local go_sem↓]Go.wp_at_zero Go.wp_at_succ
variable{F:Act}{c:Array Value}{H:Exit->Act->World->Prop}{L:List Int}{D:List Rg}{b i j k l m n o:Nat}{u:Oper}{O a:Option Addr}{T:TypeId}{x z:Value}{W v w:World}
def vN(x:Rg)(w:World):Calls prog 244 #[.agg #[.int .u64 x.lo,.int .u64 x.hi]] w λe a=>e=.returned (.bool (decide (x.hi<=x.lo)))/\w.grownBy a none:=by
 go_enter func244,ntmps244;go_wp2_with fail;first
  |go_quiet (fail)
  |skip
 go_wp2;go_ret;exact⟨rfl,by repeat(first|exact aB _ _|apply dy|apply aV|apply aY)⟩
def bB{o:Obj}(h:W.heap[i]?=some o)(g:W.grownBy w none):w.heap[i]?=some o:=(g.block i (aZ.1 h).1 (by simp)).trans h
def vO:prog.elem 227=341:=by kernel_rfl
def AN(W:World):(sizeOf 341).run prog W=.ok 2 W:=by kernel_rfl
def AO(a:Option Addr)(n cap i:Nat)(h:i<=cap)(W:World):(Instr.slice 227 (.slice a n cap) none (some (.int .i64 i)) (some (.int .i64 i))).run prog W=.ok (.slice a i i) W:=by
 rw[run_slice_hm W 227 a n cap (by rw[vO];exact underlying227) .i64 .i64 (i:Int) (i:Int) (by omega) (cS _) (by omega),vO,AN];simp only[jd,sliced,nT,nV,Nat.sub_zero]
 congr 1;cases a with
 |none=>simp
 |some y=>simp[Addr.add]
def AP(a:Option Addr)(n cap j:Nat)(h:j<=n)(W:World):(Instr.slice 227 (.slice a n cap) (some (.int .i64 j)) none none).run prog W=.ok (.slice (if cap=j then a else a.map (·.add (j*2))) (n-j) (cap-j)) W:=by
 rw[run_slice_l W 227 a n cap (by rw[vO];exact underlying227) .i64 (j:Int) (by omega) (by omega),vO,AN];simp only[jd,sliced,nT]
def ya{wc:World}{a b:Value}(h:w.cell? ⟨k,0,none⟩=some z/\w.cell? ⟨i,0,none⟩=some a/\w.cell? ⟨i,1,none⟩=some b/\wc.grownBy w (some n))(g:w.grownBy W none):W.cell? ⟨k,0,none⟩=some z/\W.cell? ⟨i,0,none⟩=some a/\W.cell? ⟨i,1,none⟩=some b/\wc.grownBy W (some n):=
 ⟨gC_ g h.1,gC_ g h.2.1,gC_ g h.2.2.1,aq h.2.2.2 (dd g _)⟩
def dj.lt(h:dj w n x D):∀k,x.ownBlock=some k->n<=k/\k<w.heap.size:=h.2.lt
def AQ{wc:World}(h:wc.grownBy w none)(o:dj w n x D)(a:wc.heap.size<=n)(g:w.grownBy W x.ownBlock):wc.grownBy W none:=cJ h g (λj e=>.inl (bD a (o.lt _ e).1))
def Gz{wc:World}{a b c:Value}(h:w.cell? ⟨k,0,none⟩=some z/\w.cell? ⟨i,0,none⟩=some a/\w.cell? ⟨i,1,none⟩=some b/\wc.grownBy w (some n))(o:dj w m c D)(d:wc.heap.size<=m)(f:k<m)(l:i<m)(g:w.grownBy W c.ownBlock):W.cell? ⟨k,0,none⟩=some z/\W.cell? ⟨i,0,none⟩=some a/\W.cell? ⟨i,1,none⟩=some b/\wc.grownBy W (some n):=
 ⟨g.cell h.1 (λe=>by have:m<=k:=(o.lt _ e.symm).1;omega),g.cell h.2.1 (λe=>by have:m<=i:=(o.lt _ e.symm).1;omega),g.cell h.2.2.1 (λe=>by have:m<=i:=(o.lt _ e.symm).1;omega),cJ h.2.2.2 g (λj e=>.inl (bD d (o.lt _ e).1))⟩
def GA{wc:World}{a b u:Value}(h:W.cell? ⟨i,0,none⟩=some z/\W.cell? ⟨j,0,none⟩=some a/\W.cell? ⟨j,1,none⟩=some b/\wc.grownBy W (some n))(d:i≠n)(c:j≠n):(W.setCell ⟨n,k,none⟩ u).cell? ⟨i,0,none⟩=some z/\(W.setCell ⟨n,k,none⟩ u).cell? ⟨j,0,none⟩=some a/\(W.setCell ⟨n,k,none⟩ u).cell? ⟨j,1,none⟩=some b/\wc.grownBy (W.setCell ⟨n,k,none⟩ u) (some n):=
 ⟨(jX (w:=W) (dF _ _ _ _ d)).trans h.1,(jX (w:=W) (dF _ _ _ _ c)).trans h.2.1,(jX (w:=W) (dF _ _ _ _ c)).trans h.2.2.1,aK h.2.2.2 _ _ (.inr rfl)⟩
def bw.ah{sb:Nat}(h:bw w a n k D)(d:∀z,a=some z->z.block≠sb)(so:Nat)(v:Value):bw (w.setCell ⟨sb,so,none⟩ v) a n k D:=by
 obtain⟨e,f,g,i,c⟩:=h;refine⟨e,f,g,i,?_⟩
 obtain c|⟨b,o,rfl,c⟩:=c
 exact .inl c;exact .inr ⟨b,o,rfl,λj u l=>(jX (w:=w) (a:=⟨b,o+j,none⟩) (dF _ _ _ _ (d _ rfl))).trans (c j u l)⟩
def yd(w a:World)(sb so:Nat)(v:Value):Prop:=
 w.grownBy a (some sb)/\∀cs t,w.heap[sb]?=some (.cells cs t (0,0))->a.heap[sb]?=some (.cells (cs.setIfInBounds so v) t (0,0))
def pK(w d:World)(sb so:Nat)(a:Option Addr)(q:List Rg->Prop):Prop:=
 ∃b e f c,yd w d sb so (.slice b e f)/\bw d b e f c/\(b=a\/∀y,b=some y->w.heap.size<=y.block)/\bl c/\q c
def tR(w d:World)(sb so:Nat)(a:Option Addr)(n cap:Nat)(l:List Rg)(q:List Rg->Prop):Prop:=
 ∃b e f c,yd w d sb so (.slice b e f)/\bw d b e f c/\((b=a/\e=n/\f=cap/\c=l)\/∀y,b=some y->w.heap.size<=y.block/\y.block<d.heap.size)/\bl c/\q c
def tR.set{w:World}{q:List Rg->Prop}(h:tR w W k i a n j D q):pK w W k i a q:=by
 obtain⟨b,c,d,e,f,g,l,m⟩:=h;exact⟨b,c,d,e,f,g,l.imp (λh=>h.1) (λh y p=>(h y p).1),m⟩
def yg(w f:World)(sb so:Nat)(a:Option Addr)(n cap:Nat)(l:List Rg)(q:List Rg->Prop):Prop:=
 ∃c d e b,yd w f sb so (.slice c d e)/\bw f c d e b/\((c=a/\d=n/\e=cap/\b=l)\/dj f w.heap.size (.slice c d e) b)/\bl b/\q b
def yg.to{q:List Rg->Prop}(h:yg w W k i a n j D q):tR w W k i a n j D q:=by
 obtain⟨b,c,d,e,f,g,l,m⟩:=h;refine⟨b,c,d,e,f,g,l.imp id (λh y p=>?_),m⟩
 subst p;exact h.lt y.block rfl
def AR(w:World)(sb so:Nat)(cs:Array Value)(t:TypeId)(a:Option Addr)(n cap:Nat)(l:List Rg)(x:Rg)(N:w.heap[sb]?=some (.cells cs t (0,0)))(O:cs[so]?=some (.slice a n cap))(hs:bw w a n cap l)(dE:∀y,a=some y->y.block≠sb)(r:bl l)(P:x.ok)(hn:n<=1000000):
 Calls prog 215 #[.pointer (some ⟨sb,so,none⟩),.agg #[.int .u64 x.lo,.int .u64 x.hi]] w λe C=>e=.returned (.tuple #[])/\yg w C sb so a n cap l (λl'=>l'.length<=l.length+1/\∀m,Sm l' m↔Sm l m\/(x.lo<=m/\m<x.hi)):=by
 obtain⟨c,d⟩:=x;have Q:w.cell? ⟨sb,so,none⟩=some (.slice a n cap):=by simp[World.cell?,N,O]
 by_cases he:d<=c
 ·have hd:decide (d<=c)=true:=dO he;go_enter func215,ntmps215;go_wp2_with fail;apply(vN ⟨c,d⟩ _).mono;rintro e f⟨rfl,R⟩;have S:decide ((⟨c,d⟩:Rg).hi<=(⟨c,d⟩:Rg).lo)=true:=hd;rw[S];have A:w.grownBy f none:=aq (aH _ _ _) R;replace⟨hs,r⟩:=bA hs r;go_wp2_with fail;refine cF (eF rfl _ _ _) rfl ⟨rfl,a,n,cap,l,⟨dd A _,λb0 t' h=>?_⟩,(Z hs).an A,.inl ⟨rfl,rfl,rfl,rfl⟩,Z r,by omega,λm=>⟨λh=>.inl h,λh=>h.elim id (λh=>by omega)⟩⟩;rw[bB h A];obtain⟨rfl,rfl⟩:b0=cs/\t'=t:=by rw[N]at h;cases h;exact⟨rfl,rfl⟩
  congr 2;obtain⟨h1,h2⟩:=aZ.1 O;rw[Array.setIfInBounds,dif_pos h1,<-h2,Array.set_getElem_self]
 have hd:decide (d<=c)=false:=eQ he;go_enter func215,ntmps215;go_wp2_with fail;apply(vN ⟨c,d⟩ _).mono;rintro e f⟨rfl,R⟩;have S:decide ((⟨c,d⟩:Rg).hi<=(⟨c,d⟩:Rg).lo)=false:=hd;rw[S];have A:w.grownBy f none:=aq (aH _ _ _) R;have cx:=gC_ A Q;have T:f.heap[w.heap.size]?=some (.cells #[.int .u64 c,.int .u64 d] 341 (0,0)):=(R.block w.heap.size (by simp) (by simp)).trans (aO _ _);have x0:f.cell? ⟨w.heap.size,0,none⟩=some (.int .u64 c):=by simp[World.cell?,T]
 have x1:f.cell? ⟨w.heap.size,1,none⟩=some (.int .u64 d):=by simp[World.cell?,T]
 have dG:=(aZ.1 T).1;obtain⟨H,aC⟩:=exq (f.alloc (.cells #[.slice a n cap] 227));have I:f.grownBy H none:=by rw[aC];exact aH _ _ _
 have b3:H.heap[f.heap.size]?=some (.cells #[.slice a n cap] 227 (0,0)):=by rw[aC];exact aO _ _
 have K:pJ H f.heap.size w.heap.size a n cap l ⟨c,d⟩:=⟨by simp[World.cell?,b3],gC_ I x0,gC_ I x1,hs.an (aq A I),P⟩
 have B:n=l.length:=hs.2.1;have b4:=J (vL n 249 #[.pointer (some ⟨f.heap.size,0,none⟩),.pointer (some ⟨w.heap.size,0,none⟩)] H (λk=>c<=(au l k).hi) (by omega) (λi j D hj hp=>by
  obtain h|rfl:=rS D
  have:=r.lt h (by omega);have:=r.pos (i:=j) (by omega);show c<=_;omega
  ·exact hp) (λ_ _=>by kernel_rfl) (λW h g hh=>Gm W _ _ h n cap a l ⟨c,d⟩ (K.an g) hh))
 have b5:=J (λW(gW:H.grownBy W none)=>vL n 250 #[.pointer (some ⟨f.heap.size,0,none⟩),.pointer (some ⟨w.heap.size,0,none⟩)] W (λk=>d<(au l k).lo) (by omega) (λi j D hj hp=>by
  obtain h|rfl:=rS D
  have:=r.lt h (by omega);have:=r.pos (i:=i) (by omega);show d<_;omega
  ·exact hp) (λ_ _=>by kernel_rfl) (λW' h g hh=>Gn W' _ _ h n cap a l ⟨c,d⟩ (K.an (aq gW g)) hh))
 clear hd S;replace⟨B,K,r,hs⟩:=eV B K r hs;go_wp2_with fail;rw[<-aC];apply(Z b4).mono;rintro e w3⟨⟨i,rfl,a0⟩,s⟩;have a8:=(Z K).an s;have cy:=a8.1;clear b4;go_wp2_with fail;apply(Z b5 _ s).mono;rintro e E⟨⟨j,rfl,a9⟩,U⟩;have b6:=a8.an U;obtain⟨k1,k2,k3,k4,-⟩:=id b6;have b7:w.grownBy E none:=aq A (aq I (aq s U));have cA:=gC_ b7 Q;have cB:i<=n:=a0.1;have cC:j<=n:=a9.1;have V:lT l.length i (λk=>c<=(au l k).hi):=by rw[<-Z B];exact a0
 have X:lT l.length j (λk=>d<(au l k).lo):=by rw[<-Z B];exact a9
 have L:E.heap[w.heap.size]?=some (.cells #[.int .u64 c,.int .u64 d] 341 (0,0)):=bB T (aq I (aq s U));have bb:E.heap[f.heap.size]?=some (.cells #[.slice a n cap] 227 (0,0)):=bB b3 (aq s U);have bj:=J (F8 (Z r) (x:=⟨c,d⟩) (show c<d by omega) V X);have c9:i<=j:=F7 (Z r) (show c<d by omega) V X;have db:Hid ((l.take i).length+((l.drop j).length+1)<=l.length+1):=J (by rw[ct,dM];have:=V.1;have:=X.1;omega);clear b5 a8 cy x0 x1 cx a0 a9 V X c9;have ea:n<=cap:=(Z hs).2.2.1;have de:=(Z hs).2.2.2.1;unfold maxLen at de;obtain⟨y,F⟩:∃y:Rg,y=(if i<j then⟨min c (au l i).lo,max d (au l (j-1)).hi⟩else⟨c,d⟩):=⟨_,rfl⟩
 have b8:vI l ⟨c,d⟩ i j=l.take i++(y::l.drop j):=by rw[F];rfl
 rw[b8]at bj;clear b8;replace F:=J F;go_upto_if 22 with fail;go_cut [] (λwx=>wx.heap[w.heap.size]?=some (.cells #[.int .u64 y.lo,.int .u64 y.hi] 341 (0,0))/\E.grownBy wx (some w.heap.size));case first=>
  by_cases D:i<j
  ·obtain⟨b,o,rfl⟩:∃b o,a=some ⟨b,o,none⟩:=by
    obtain⟨-,-,-,-,h0|⟨b,o,rfl,-⟩⟩:=Z hs;omega;exact⟨b,o,rfl⟩
   obtain⟨y0,-⟩:=k4.cell i (by have:=Z B;omega);obtain⟨-,y1⟩:=k4.cell (j-1) (by have:=Z B;omega);obtain⟨p,hp⟩:=exq ((au l i).lo);obtain⟨q,Y⟩:=exq ((au l (j-1)).hi);rw[<-hp]at y0;rw[<-Y]at y1;have br:Hid (y=⟨min c p,max d q⟩):=J (by rw[Z F,aD D,<-hp,<-Y]);have d1:decide ((i:Int)<j)=true:=dT_;have e1:(j:Int)-1=((j-1:Nat):Int):=by omega
   have e2:IntKind.i64.wrap ((j:Int)-1)=((j-1:Nat):Int):=by simp[IntKind.wrap,IntKind.bits,IntKind.signed];omega
   have i1:(i:Int)<n:=by omega
   have i2:((j-1:Nat):Int)<(n:Int):=by omega
   replace⟨hp,Y⟩:=bA hp Y;have f0:E.frozen? ⟨w.heap.size,0,none⟩=false:=fZ_ L;have f1:E.frozen? ⟨w.heap.size,1,none⟩=false:=fZ_ L;go_wp2_with fail;go_region;all_goals go_wp2_with fail
   all_goals go_meet
   all_goals
    refine⟨Eq.trans (heap_set (heap_set L _) _) ?_,aV (aK (aK (aB _ _) _ _ (.inr rfl)) _ _ (.inr rfl))⟩
    rw[Z br]
    simp
    omega
  have d1:decide ((i:Int)<j)=false:=dF_;have br:y=⟨c,d⟩:=by rw[Z F,az D]
  go_wp2;go_meet;rw[br];exact⟨L,aB _ _⟩
 case rest=>
  obtain⟨ca,gc⟩:=hcut;have bt:w.grownBy wc none:=pB (cJ (dd b7 (some w.heap.size)) gc (λj e=>.inr rfl)) (aR _);have bx:bw wc a n cap l:=(Z hs).an bt;have ch:wc.heap[f.heap.size]?=some (.cells #[.slice a n cap] 227 (0,0)):=(gc.block _ (aZ.1 bb).1 (by simp;omega)).trans bb;have c1:wc.cell? ⟨f.heap.size,0,none⟩=some (.slice a n cap):=by simp[World.cell?,ch]
  have c2:wc.cell? ⟨w.heap.size,0,none⟩=some (.int .u64 y.lo):=by simp[World.cell?,ca]
  have c3:wc.cell? ⟨w.heap.size,1,none⟩=some (.int .u64 y.hi):=by simp[World.cell?,ca]
  have c4:=gC_ bt Q;have dg:y.ok:=by
   rw[Z F];split;have a1:=P.1;have a2:=P.2;have a3:=(oQ (Z hs).1 i).1;have a4:=(oQ (Z hs).1 (j-1)).2;simp only[Rg.ok,aS]at a1 a2 a3 a4⊢;omega;exact P
  clear k1 k2 k3 k4 cA L bb b6;obtain⟨a2,al⟩:=exq ((if cap=j then a else a.map (·.add (j*2))));have ee:∀W,(Instr.slice 227 (.slice a n cap) none (some (.int .i64 i)) (some (.int .i64 i))).run prog W=.ok (.slice a i i) W:=λW=>AO a n cap i (by omega) W
  have eg:∀W,(Instr.slice 227 (.slice a n cap) (some (.int .i64 j)) none none).run prog W=.ok (.slice a2 (n-j) (cap-j)) W:=λW=>by rw[al];exact AP a n cap j (by omega) W
  have dk:=J (bx.front i cB);have dn:=J (bx.back (O:=a2) j cC (by
   obtain⟨-,-,-,-,h0|⟨b,o,rfl,-⟩⟩:=bx;left;omega
   ·by_cases O:cap=j;left;omega
    ·right;rw[al,az O];exact⟨b,o,rfl,by simp only[rV,Addr.add_mid]⟩))
  have ds:Hid ((l.take i++[y]).length+(l.drop j).length<=100000000):=J (by have:=Z B;simp;omega);have v:wc.grownBy (wc.alloc (.cells #[.int .u64 y.lo,.int .u64 y.hi] 341)).drew none:=aV (aH _ _ _);have ei:=(aZ.1 N).1;have ej:f.heap.size<wc.heap.size:=(aZ.1 ch).1;have ek:w.heap.size<wc.heap.size:=by omega
  have bz:wc.cell? ⟨f.heap.size,0,none⟩=some (.slice a n cap)/\wc.cell? ⟨w.heap.size,0,none⟩=some (.int .u64 y.lo)/\wc.cell? ⟨w.heap.size,1,none⟩=some (.int .u64 y.hi)/\wc.grownBy wc (some sb):=⟨c1,c2,c3,aB _ _⟩
  have du:=ya bz (aV (aB wc none));have cj:=ya bz v;have bM:(wc.alloc (.cells #[.int .u64 y.lo,.int .u64 y.hi] 341)).drew.heap[wc.heap.size]?=some (.cells #[.int .u64 y.lo,.int .u64 y.hi] 341 (0,0)):=aO wc _;have q0:(wc.alloc (.cells #[.int .u64 y.lo,.int .u64 y.hi] 341)).drew.cell? ⟨wc.heap.size,0,none⟩=some (.int .u64 y.lo):=by simp only[World.cell?,bM];rfl
  have M:(wc.alloc (.cells #[.int .u64 y.lo,.int .u64 y.hi] 341)).drew.cell? ⟨wc.heap.size,0+1,none⟩=some (.int .u64 y.hi):=by simp only[World.cell?,bM];rfl
  replace al:=J al;clear bM bz;replace⟨q0,M⟩:=bA q0 M;clear c1 c2 c3;go_wp2_with fail;go_region_held3 (λC=>C.cell? ⟨f.heap.size,0,none⟩=some (.slice a n cap)/\C.cell? ⟨w.heap.size,0,none⟩=some (.int .u64 y.lo)/\C.cell? ⟨w.heap.size,1,none⟩=some (.int .u64 y.hi)/\wc.grownBy C (some sb))
   (with_reducible first|exact dx|exact cv|exact cw|exact cj|exact du)
   (first
     |(refine Gt (by rfl) _ _ (by rfl) _ i (l.take i) (by rfl) ((Z dk).an v) wc.heap.size 0 1 y dg (by rfl) (Z q0) (Z M) (by omega) ?_;intro a3 n3 c3 w3 o3 s;have cw:=ya cj s)
     |(refine Gu (by rfl) _ _ (by rfl) (wc.alloc (.cells #[.int .u64 y.lo,.int .u64 y.hi] 341)).drew.heap.size _ (l.take i++[y]) (by rfl) o3 _ _ _ (l.drop j) (by rfl) ((Z dn).an (aq v s)) (Z ds) s.size ?_;intro a5 n5 c5 w5 o5 g5;have cv:=Gz cw o3 v.size (by show f.heap.size<_;have:=v.size;omega) (by show w.heap.size<_;have:=v.size;omega) g5;have ax:w.grownBy w5 none:=(aq bt (AQ (aq v s) o3 v.size g5));have eo:=gC_ ax Q;have f5:w5.frozen? ⟨sb,so,none⟩=false:=(by simp[World.frozen?,bB N ax]);have dx:=GA (k:=so) (u:=.slice a5 n5 c5) cv (by omega) (by omega)))
  refine fm (eF rfl _ _ _) rfl ⟨rfl,a5,n5,c5,l.take i++y::l.drop j,⟨aK (dd ax _) _ _ (.inr rfl),λb0 t' h=>heap_set (bB h ax) _⟩,?_,.inr ?_,(Z bj).1,by rw[bH,dc];exact Z db,(Z bj).2⟩;have G:=o5.ni.1;rw[fC,List.singleton_append]at G;refine G.ah (λz hz=>?_) so _;have:=o5.ni.2 z hz;have:=v.size;omega;have h2:=v.size;have G:=o5.gb (aK (aB w5 (some sb)) ⟨sb,so,none⟩ (.slice a5 n5 c5) (.inr rfl)) (.inr (λe=>by have:=(o5.lt _ e).1;omega));rw[fC,List.singleton_append]at G;refine⟨G.1,?_⟩
  obtain⟨e1,e2⟩:=G.2;refine⟨e1,?_⟩
  obtain e2|⟨g,cp,cur,M,q2,q3⟩:=e2
  exact .inl e2;exact .inr ⟨g,cp,cur,M,by omega,q3⟩
def yi(w:World)(sb so:Nat)(cs:Array Value)(t:TypeId)(a:Option Addr)(n cap:Nat)(l:List Rg)(x:Rg)(c:w.heap[sb]?=some (.cells cs t (0,0)))(d:cs[so]?=some (.slice a n cap))(hs:bw w a n cap l)(f:∀y,a=some y->y.block≠sb)(g:bl l)(i:x.ok)(j:n<=1000000):
 Calls prog 215 #[.pointer (some ⟨sb,so,none⟩),.agg #[.int .u64 x.lo,.int .u64 x.hi]] w λe k=>e=.returned (.tuple #[])/\tR w k sb so a n cap l (λb=>b.length<=l.length+1/\∀m,Sm b m↔Sm l m\/(x.lo<=m/\m<x.hi)):=
 (AR w sb so cs t a n cap l x c d hs f g i j).mono (λ_ _ h=>⟨h.1,h.2.to⟩)
def GB(w:World)(sb so:Nat)(cs:Array Value)(t:TypeId)(a:Option Addr)(n cap:Nat)(l:List Rg)(x:Rg)(c:w.heap[sb]?=some (.cells cs t (0,0)))(d:cs[so]?=some (.slice a n cap))(hs:bw w a n cap l)(f:∀y,a=some y->y.block≠sb)(g:bl l)(i:x.ok)(j:n<=1000000):
 Calls prog 215 #[.pointer (some ⟨sb,so,none⟩),.agg #[.int .u64 x.lo,.int .u64 x.hi]] w λe k=>e=.returned (.tuple #[])/\pK w k sb so a (λb=>b.length<=l.length+1/\∀m,Sm b m↔Sm l m\/(x.lo<=m/\m<x.hi)):=
 (yi w sb so cs t a n cap l x c d hs f g i j).mono (λ_ _ h=>⟨h.1,h.2.set⟩)
def vP{x:Rg}(h:x.hi<=x.lo)(w:World):Calls prog 244 #[.agg #[.int .u64 x.lo,.int .u64 x.hi]] w λe a=>e=.returned (.bool true)/\w.grownBy a none:=
 (vN x w).mono λe a ⟨b,c⟩=>⟨by rw[b,dO h],c⟩
def vQ{x:Rg}(h:¬x.hi<=x.lo)(w:World):Calls prog 244 #[.agg #[.int .u64 x.lo,.int .u64 x.hi]] w λe a=>e=.returned (.bool false)/\w.grownBy a none:=
 (vN x w).mono λe a ⟨b,c⟩=>⟨by rw[b,eQ h],c⟩
def pK.same{q:List Rg->Prop}(b:w.heap[k]?=some (.cells c T (0,0)))(d:c[i]?=some (.slice a n j))(hs:bw w a n j D)(e:bl D)(g:w.grownBy W none)(f:q D):pK w W k i a q:=by
 refine⟨a,n,j,D,⟨dd g _,λl m h=>?_⟩,hs.an g,.inl rfl,e,f⟩
 rw[bB h g];obtain⟨rfl,rfl⟩:l=c/\m=T:=by rw[b]at h;cases h;exact⟨rfl,rfl⟩
 congr 2;obtain⟨p,r⟩:=aZ.1 d;rw[Array.setIfInBounds,dif_pos p,<-r,Array.set_getElem_self]
def dj.mono(h:dj w n x D)(e:k<=n):dj w k x D:=by
 obtain⟨b,c,a⟩:=h;refine⟨b,c,?_⟩
 obtain a|⟨g,cap,cur,e1,e2,d⟩:=a
 exact .inl a;exact .inr ⟨g,cap,cur,e1,by omega,d⟩
def Kept.an(h:Kept w k a x D)(g:w.grownBy W none):Kept W k a x D:=by
 obtain⟨n,rfl,h⟩|h:=h
 exact .inl ⟨n,rfl,h.an g⟩;exact .inr (h.an g)
def AS{t:Array Oper}{rest:List Oper}(z:u.guard=none)(s x:Operand)
 (ho:u.op=.call {callee:=.builtin .append,args:= #[s,x],argTypes:= #[227,227]})
 (w0:World) (p:Option Addr) (v:Value) (l:List Rg) (hs:F.eval s=v) (E:Kept w w0.heap.size p v l) (m:w0.grownBy w none) (b f c:Nat) (r:Rg) (A:r.ok) (B:F.eval x=.slice (some ⟨b,f,none⟩) 1 c) (h0:w.cell? ⟨b,f,none⟩=some (.int .u64 r.lo)) (C:w.cell? ⟨b,f+1,none⟩=some (.int .u64 r.hi)) (L:l.length<=2000000) (G:1<=c) (M:c<=10)
 (h:∀e i k a,Kept a w0.heap.size p (.slice e i k) (l++[r])->w0.grownBy a none->wpList prog t H rest (F.put u.dst (.slice e i k)) a):wpList prog t H (u::rest) F w:=by
 obtain⟨n,rfl,hl⟩|D:=E
 have N:n=l.length:=hl.2.1;exact Gv z s x ho p n l hs hl b f c r A B h0 C (by omega) (λe i k a q g=>h e i k a (.inr (q.mono m.size)) (aq m g));have I:bw w (some ⟨b,f,none⟩) 1 c [r]:=by
  refine⟨λy K=>by rw[cL.1 K];exact A,rfl,G,by simp only[maxLen];omega,.inr ⟨b,f,rfl,λj O d=>?_⟩⟩
  match j,d with
  |0,d=>simp[cE]at d;rw[<-d];exact h0
  |1,d=>simp[cE]at d;rw[<-d];exact C
 exact Gw z s x ho w0.heap.size v l hs D (some ⟨b,f,none⟩) 1 c [r] B I (by simp;omega) m.size (λe i k a q g=>h e i k a (.inr q) (AQ m D (aR _) g))
def GC(p r s q:Value)(W:World):(Instr.index 410 (.agg #[p,r,s,q]) (.int .i64 0)).run prog W=.ok (.agg #[p,r]) W:=by kernel_rfl
def GD(p r s q:Value)(W:World):(Instr.index 410 (.agg #[p,r,s,q]) (.int .i64 1)).run prog W=.ok (.agg #[s,q]) W:=by kernel_rfl
def GF{j:Array Oper}{rest:List Oper}(n:u.guard=none)(s x:Operand)
 (ho:u.op=.call {callee:=.builtin .append,args:= #[s,x],argTypes:= #[227,227]})
 (b:Nat) (f:Option Addr) (v:Value) (l:List Rg) (hs:F.eval s=v) (p:Kept w b f v l) (g:Option Addr) (nx i:Nat) (m:List Rg) (q:F.eval x=.slice g nx i) (t:bw w g nx i m) (z:l.length+m.length<=100000000) (A:b<=w.heap.size)
 (h:∀a d e c,bw c a d e (l++m)->(a=f\/∀y,a=some y->b<=y.block)->(∃r,w.grownBy c r/\∀k,r=some k->b<=k)->wpList prog j H rest (F.put u.dst (.slice a d e)) c):wpList prog j H (u::rest) F w:=
 tC n λ_ B=>by
  obtain⟨a,d,e,c,C,D,E,G⟩:=Gy (w:=w) u.type b f v l p g nx i m t z A;unfold Oper.wp execOp;simp only[ho,resolve,invoke,builtin,je,mr,jd,nU,ky,mZ,hs,q,C]
  exact B _ _ (h a d e c D E G)
def iq(p a b q:Int):Nat->List Rg
 |0=>[]
 |1=>if p<a then[⟨p,a⟩]else[]
 |_=>(if p<a then[⟨p,a⟩]else[])++(if b<q then[⟨b,q⟩]else[])
def vR(p a b q:Int)(c:Nat):(iq p a b q c).length<=2:=by
 unfold iq;split;simp;split<;>simp;split<;>split<;>simp
def AT(w:World)(sb so:Nat)(cs:Array Value)(t:TypeId)(a:Option Addr)(n cap:Nat)(l:List Rg)(x:Rg)(S:w.heap[sb]?=some (.cells cs t (0,0)))(T:cs[so]?=some (.slice a n cap))(hs:bw w a n cap l)(a9:l≠[]->∀y,a=some y->y.block≠sb)(C:bl l)(hx:x.ok)(hn:n<=1000000):
 Calls prog 281 #[.pointer (some ⟨sb,so,none⟩),.agg #[.int .u64 x.lo,.int .u64 x.hi]] w λe w'=>e=.returned (.tuple #[])/\pK w w' sb so a (λl'=>l'.length<=l.length+1/\∀m,Sm l' m↔Sm l m/\¬(x.lo<=m/\m<x.hi)):=by
 obtain⟨d,f⟩:=x;have b8:w.cell? ⟨sb,so,none⟩=some (.slice a n cap):=by simp[World.cell?,S,T]
 obtain⟨D,U⟩:=exq (w.alloc (.cells #[.int .u64 d,.int .u64 f] 341));have b0:w.grownBy D none:=by rw[U];exact aH _ _ _
 have b3:D.heap[w.heap.size]?=some (.cells #[.int .u64 d,.int .u64 f] 341 (0,0)):=by rw[U];exact aO _ _
 have ca:D.heap.size=w.heap.size+1:=by rw[U];simp
 have x0:D.cell? ⟨w.heap.size,0,none⟩=some (.int .u64 d):=by simp[World.cell?,b3]
 have x1:D.cell? ⟨w.heap.size,1,none⟩=some (.int .u64 f):=by simp[World.cell?,b3]
 obtain⟨V,ax⟩:=exq (D.alloc (.cells #[.slice a n cap] 227));have g2:D.grownBy V none:=by rw[ax];exact aH _ _ _
 have b4:V.heap[D.heap.size]?=some (.cells #[.slice a n cap] 227 (0,0)):=by rw[ax];exact aO _ _
 have Q:pJ V D.heap.size w.heap.size a n cap l ⟨d,f⟩:=⟨by simp[World.cell?,b4],gC_ g2 x0,gC_ g2 x1,hs.an (aq b0 g2),hx⟩
 rw[ca]at Q b4;have F:n=l.length:=hs.2.1;have b5:=J (vL n 297 #[.pointer (some ⟨w.heap.size+1,0,none⟩),.pointer (some ⟨w.heap.size,0,none⟩)] V (λk=>d<(au l k).hi) (by omega) (λi j X hj hp=>by
  obtain h|rfl:=rS X
  have:=C.lt h (by omega);have:=C.pos (i:=j) (by omega);show d<_;omega
  ·exact hp) (λ_ _=>by kernel_rfl) (λW h g hh=>Gp W _ _ h n cap a l ⟨d,f⟩ (Q.an g) hh))
 have b6:=J (λW(gW:V.grownBy W none)=>vL n 298 #[.pointer (some ⟨w.heap.size+1,0,none⟩),.pointer (some ⟨w.heap.size,0,none⟩)] W (λk=>f<=(au l k).lo) (by omega) (λi j X hj hp=>by
  obtain h|rfl:=rS X
  have:=C.lt h (by omega);have:=C.pos (i:=i) (by omega);show f<=_;omega
  ·exact hp) (λ_ _=>by kernel_rfl) (λW' h g hh=>Gq W' _ _ h n cap a l ⟨d,f⟩ (Q.an (aq gW g)) hh))
 have dn:sb<w.heap.size:=(aZ.1 S).1;replace⟨F,Q,C,hs⟩:=eV F Q C hs;rw[U]at ax;clear U x0 x1;go_enter func281,ntmps281;go_wp2_with fail;rw[<-ax];apply(Z b5).mono;rintro e w3⟨⟨i,rfl,bb⟩,g3⟩;have bj:=(Z Q).an g3;have ch:=bj.1;clear b5;go_wp2_with fail;apply(Z b6 _ g3).mono;rintro e w4⟨⟨j,rfl,br⟩,g4⟩;have R:=bj.an g4;obtain⟨k1,k2,k3,k4,-⟩:=id R;have bt:w.grownBy w4 none:=aq b0 (aq g2 (aq g3 g4));have cj:i<=n:=bb.1;have cp:j<=n:=br.1;have aC:lT l.length i (λk=>d<(au l k).hi):=by rw[<-Z F];exact bb
 have a0:lT l.length j (λk=>f<=(au l k).lo):=by rw[<-Z F];exact br
 have ds:n<=cap:=(Z hs).2.2.1;have cw:=(Z hs).2.2.2.1;unfold maxLen at cw;clear b6 bj ch;by_cases he:f<=d
 ·have hE:=J (λW=>vP (x:=⟨d,f⟩) he W);go_wp2_with fail;apply(Z hE _).mono;rintro e I⟨rfl,G⟩;go_wp2_with fail;exact cF (eF rfl _ _ _) rfl ⟨rfl,pK.same S T (Z hs) (Z C) (aq bt G) ⟨by omega,λm=>⟨λh=>⟨h,by omega⟩,λh=>h.1⟩⟩⟩
 have hE:=J (λW=>vQ (x:=⟨d,f⟩) he W);by_cases X:i<j
 ·replace a9:=a9 (λe=>by have:=Z F;rw[e]at this;simp at this;omega);have cx:decide ((j:Int)<=i)=false:=dF_;have du:decide (j<=i)=false:=dF_;have hcut:=J (Gc (Z C) (x:=⟨d,f⟩) (show d<f by omega) X aC a0);have cy:Hid ((l.take i).length+(l.drop j).length+1<=l.length):=J (by rw[ct,dM];have:=aC.1;have:=a0.1;omega);clear bb br aC a0;obtain⟨b,o,rfl⟩:∃b o,a=some ⟨b,o,none⟩:=by
   obtain⟨-,-,-,-,h0|⟨b,o,rfl,-⟩⟩:=Z hs;omega;exact⟨b,o,rfl⟩
  go_wp2_with fail;apply(Z hE _).mono;rintro e I⟨rfl,G⟩;have a1:=aq bt G;obtain⟨k1,k2,k3,k4,-⟩:=R.an G;obtain⟨y0,-⟩:=k4.cell i (by have:=Z F;omega);obtain⟨-,y1⟩:=k4.cell (j-1) (by have:=Z F;omega);have Y:=oQ (Z hs).1 i;have o1:=oQ (Z hs).1 (j-1);unfold vJ at hcut;obtain⟨p,hp⟩:=exq ((au l i).lo);obtain⟨q,hq⟩:=exq ((au l (j-1)).hi);rw[<-hp]at y0 hcut;rw[<-hq]at y1 hcut;replace Y:aS p:=by rw[hp];exact Y.1
  replace o1:aS q:=by rw[hq];exact o1.2
  clear hp hq;have e1:(j:Int)-1=((j-1:Nat):Int):=by omega
  have e2:IntKind.i64.wrap ((j:Int)-1)=((j-1:Nat):Int):=by simp[IntKind.wrap,IntKind.bits,IntKind.signed];omega
  have i1:(i:Int)<n:=by omega
  have i2:((j-1:Nat):Int)<(n:Int):=by omega
  have dx:∀W,(Instr.slice 227 (.slice (some ⟨b,o,none⟩) n cap) none (some (.int .i64 i)) (some (.int .i64 i))).run prog W=.ok (.slice (some ⟨b,o,none⟩) i i) W:=λW=>AO _ n cap i (by omega) W
  replace⟨Y,o1⟩:=bA Y o1;go_wp2_with fail;go_quiet (fail);go_wp2_with fail;have cA:=(R.an G).2.2.2.1.front i cj;have dE:l.length<=1000000:=by have:=Z F;omega
  replace R:=J R;clear k1 k2 k3 k4 y0 y1;go_loopw [7,50] (λv cv wr=>∃c:Nat,c<=2/\cv=.int .i64 c/\Kept wr I.heap.size (some ⟨b,o,none⟩) v (l.take i++iq p d f q c)/\I.grownBy wr none) (λ_ cv _=>2-(intOf cv).toNat);case atStart=>exact⟨0,by omega,rfl,.inl ⟨i,rfl,by rw[show iq p d f q 0=[]from rfl,oL];exact cA.an (dy (aB _ _) _)⟩,dy (aB _ _) _⟩
  case round=>
   obtain⟨c,cB,rfl,A,K⟩:=hrel;have cC:=GC (.int .u64 p) (.int .u64 d) (.int .u64 f) (.int .u64 q);have c9:=GD (.int .u64 p) (.int .u64 d) (.int .u64 f) (.int .u64 q);match c,cB with
   |0,_=>
    by_cases hp:p<d
    ·have L:=J (λW=>vQ (x:=⟨p,d⟩) (show¬d<=p by omega) W);have u:iq p d f q 1=iq p d f q 0++[⟨p,d⟩]:=by simp[iq,hp]
     replace u:=J u;go_wp2_with fail;apply(Z L _).mono;rintro e s⟨rfl,E⟩;have B:wr.grownBy s none:=aq (aH _ _ _) E;have M:s.heap[wr.heap.size]?=some (.cells #[.int .u64 p,.int .u64 d] 341 (0,0)):=(E.block wr.heap.size (by simp) (by simp)).trans (aO _ _);have r0:s.cell? ⟨wr.heap.size,0,none⟩=some (.int .u64 p):=by simp[World.cell?,M]
     have r1:s.cell? ⟨wr.heap.size,1,none⟩=some (.int .u64 d):=by simp[World.cell?,M]
     have N:=aH s (.cells #[.int .u64 p,.int .u64 d] 341) none;have bx:=J (A.an (aq B N));have bz:=J (aq K (aq B N));have O:(s.alloc (.cells #[.int .u64 p,.int .u64 d] 341)).heap[s.heap.size]?=some (.cells #[.int .u64 p,.int .u64 d] 341 (0,0)):=aO s _;have s0:Hid ((s.alloc (.cells #[.int .u64 p,.int .u64 d] 341)).cell? ⟨s.heap.size,0,none⟩=some (.int .u64 p)):=J (by simp only[World.cell?,O];rfl);have s1:Hid ((s.alloc (.cells #[.int .u64 p,.int .u64 d] 341)).cell? ⟨s.heap.size,0+1,none⟩=some (.int .u64 d)):=J (by simp only[World.cell?,O];rfl);have bM:Hid ((⟨p,d⟩:Rg).ok):=J ⟨Z Y,hx.1⟩;have al:Hid ((l.take i++iq p d f q 0).length<=2000000):=J (by have:=vR p d f q 0;simp;omega);clear M N O;go_wp2_with (at_builtin;refine AS (by rfl) _ _ (by rfl) I (some ⟨b,o,none⟩) _ (l.take i++iq p d f q 0) (by rfl) (Z bx) (Z bz) s.heap.size 0 1 ⟨p,d⟩ (Z bM) (by rfl) (Z s0) (Z s1) (Z al) (by decide) (by decide) ?_;intro a7 n7 c7 w7 P H);go_roundw;case rel=>exact⟨1,by omega,rfl,by rw[Z u,<-fC];exact P,H⟩
     case measure=>simp[intOf]
    have L:=J (λW=>vP (x:=⟨p,d⟩) (show d<=p by omega) W);have u:iq p d f q 1=iq p d f q 0:=by simp[iq,hp]
    replace⟨u,A⟩:=bA u A;go_wp2_with fail;apply(Z L _).mono;rintro e s⟨rfl,E⟩;have B:wr.grownBy s none:=aq (aH _ _ _) E;go_wp2;go_roundw;case rel=>exact⟨1,by omega,rfl,by rw[Z u];exact(Z A).an B,aq K B⟩
    case measure=>simp[intOf]
   |1,_=>
    by_cases hp:f<q
    ·have L:=J (λW=>vQ (x:=⟨f,q⟩) (show¬q<=f by omega) W);have u:iq p d f q 2=iq p d f q 1++[⟨f,q⟩]:=by simp[iq,hp]
     replace u:=J u;go_wp2_with fail;apply(Z L _).mono;rintro e s⟨rfl,E⟩;have B:wr.grownBy s none:=aq (aH _ _ _) E;have M:s.heap[wr.heap.size]?=some (.cells #[.int .u64 f,.int .u64 q] 341 (0,0)):=(E.block wr.heap.size (by simp) (by simp)).trans (aO _ _);have r0:s.cell? ⟨wr.heap.size,0,none⟩=some (.int .u64 f):=by simp[World.cell?,M]
     have r1:s.cell? ⟨wr.heap.size,1,none⟩=some (.int .u64 q):=by simp[World.cell?,M]
     have N:=aH s (.cells #[.int .u64 f,.int .u64 q] 341) none;have bx:=J (A.an (aq B N));have bz:=J (aq K (aq B N));have O:(s.alloc (.cells #[.int .u64 f,.int .u64 q] 341)).heap[s.heap.size]?=some (.cells #[.int .u64 f,.int .u64 q] 341 (0,0)):=aO s _;have s0:Hid ((s.alloc (.cells #[.int .u64 f,.int .u64 q] 341)).cell? ⟨s.heap.size,0,none⟩=some (.int .u64 f)):=J (by simp only[World.cell?,O];rfl);have s1:Hid ((s.alloc (.cells #[.int .u64 f,.int .u64 q] 341)).cell? ⟨s.heap.size,0+1,none⟩=some (.int .u64 q)):=J (by simp only[World.cell?,O];rfl);have bM:Hid ((⟨f,q⟩:Rg).ok):=J ⟨hx.2,Z o1⟩;have al:Hid ((l.take i++iq p d f q 1).length<=2000000):=J (by have:=vR p d f q 1;simp;omega);clear M N O;go_wp2_with (at_builtin;refine AS (by rfl) _ _ (by rfl) I (some ⟨b,o,none⟩) _ (l.take i++iq p d f q 1) (by rfl) (Z bx) (Z bz) s.heap.size 0 1 ⟨f,q⟩ (Z bM) (by rfl) (Z s0) (Z s1) (Z al) (by decide) (by decide) ?_;intro a7 n7 c7 w7 P H);go_roundw;case rel=>exact⟨2,by omega,rfl,by rw[Z u,<-fC];exact P,H⟩
     case measure=>simp[intOf]
    have L:=J (λW=>vP (x:=⟨f,q⟩) (show q<=f by omega) W);have u:iq p d f q 2=iq p d f q 1:=by simp[iq,hp]
    replace⟨u,A⟩:=bA u A;go_wp2_with fail;apply(Z L _).mono;rintro e s⟨rfl,E⟩;have B:wr.grownBy s none:=aq (aH _ _ _) E;go_wp2;go_roundw;case rel=>exact⟨2,by omega,rfl,by rw[Z u];exact(Z A).an B,aq K B⟩
    case measure=>simp[intOf]
   |2,_=>
    clear cC c9;have a3:=(Z R).an (aq G K);have c1:=a3.1;obtain⟨a2,a4⟩:=exq ((if cap=j then some (⟨b,o,none⟩:Addr)else(some (⟨b,o,none⟩:Addr)).map (·.add (j*2))));have dG:∀W,(Instr.slice 227 (.slice (some ⟨b,o,none⟩) n cap) (some (.int .i64 j)) none none).run prog W=.ok (.slice a2 (n-j) (cap-j)) W:=λW=>by rw[a4];exact AP _ n cap j (by omega) W
    have db:=J (a3.2.2.2.1.back (O:=a2) j cp (by
     by_cases T:cap=j;left;omega
     ·right;rw[a4,az T];exact⟨b,o,rfl,by simp only[rV,Addr.add_mid]⟩))
    have al:Hid ((l.take i++iq p d f q 2).length+(l.drop j).length<=100000000):=J (by have:=vR p d f q 2;simp;omega);have de:=aq a1 K;have dg:=K.size;replace⟨a4,A,a3⟩:=cg a4 A a3;have b7:Hid (l.take i++iq p d f q 2++l.drop j=l.take i++((if p<d then[⟨p,d⟩]else[])++((if f<q then[⟨f,q⟩]else[])++l.drop j))):=J (by simp[iq]);go_wp2_with (at_builtin;refine GF (by rfl) _ _ (by rfl) I.heap.size (some ⟨b,o,none⟩) _ (l.take i++iq p d f q 2) (by rfl) (Z A) _ _ _ (l.drop j) (by rfl) (Z db) (Z al) dg ?_;intro a7 n7 c7 w7 P f7 H;have a8:w.grownBy w7 none:=(by obtain⟨r7,H,h7⟩:=H;exact cJ de H (λk e=>.inl (bD a1.size (h7 k e))));clear H;replace P:=J P;replace f7:=J f7;have ea:=gC_ a8 b8;have ee:w7.frozen? ⟨sb,so,none⟩=false:=(by simp[World.frozen?,bB S a8]));refine fm (eF rfl _ _ _) rfl ⟨rfl,a7,n7,c7,_,⟨aK (dd a8 _) _ _ (.inr rfl),λeg t' h=>heap_set (bB h a8) _⟩,?_,?_,(Z hcut).1,?_,(Z hcut).2⟩;have h5:=Z P;rw[Z b7]at h5;refine h5.ah (λz hz=>?_) so _;obtain rfl|hf:=Z f7
    exact a9 z hz;have:=hf z hz;have:=a1.size;omega;obtain rfl|hf:=Z f7
    exact .inl rfl;exact .inr (λz hz=>bD a1.size (hf z hz));rw[<-Z b7,bH,bH];have:=vR p d f q 2;have:=Z cy;omega
 have cx:decide ((j:Int)<=i)=true:=dT_;go_wp2_with fail;apply(Z hE _).mono;rintro e I⟨rfl,G⟩;go_wp2_with fail;refine cF (eF rfl _ _ _) rfl ⟨rfl,pK.same S T (Z hs) (Z C) (aq bt G) ⟨by omega,λm=>⟨λh=>⟨h,?_⟩,λh=>h.1⟩⟩⟩;obtain⟨r,hr,h1,h2⟩:=h;obtain⟨k,hk,rfl⟩:=jY.1 hr;have er:au l k=l[k]:=by simp[au,List.getD,hk]
 by_cases dk:k<i;have:¬d<(au l k).hi:=aC.2.1 k dk;rw[er]at this;omega;have:f<=(au l k).lo:=a0.2.2 k (by omega) hk;rw[er]at this;omega
def GG(a:Option Addr)(n cap f:Nat)(lb:Array Value)(l:List Rg)(w:World)(p:Nat->Prop)(hs:bw w a n cap l)
 (L:∀args w,(callFunc f args).run prog w=.ok (.enter f args) w)
 (s:∀(W:World)(h:Nat),w.grownBy W none->h<n->Calls prog f (#[.agg #[.int .u64 (au l h).lo,.int .u64 (au l h).hi]]++lb) W (λe F=>dP (p h) e/\W.grownBy F none)):
 Calls prog 286 #[.slice a n cap,.func (.func f) #[] lb] w λe d=>(∃k:Int,e=.returned (.int .i64 k)/\((0<=k/\k<n)↔∃i,i<n/\p i)/\(k= -1\/0<=k/\k<n))/\w.grownBy d none:=by
 obtain⟨R,m⟩:∃R:Ending->Prop,R=λe=>∃k:Int,e=.returned (.int .i64 k)/\((0<=k/\k<n)↔∃i,i<n/\p i)/\(k= -1\/0<=k/\k<n):=⟨_,rfl⟩
 have u:∀k:Nat,k<n->p k->R (.returned (.int .i64 k)):=λk c v=>by rw[m];exact⟨k,rfl,⟨λ_=>⟨k,c,v⟩,λ_=>by omega⟩,.inr (by omega)⟩
 have x:(∀i,i<n->¬p i)->R (.returned (.int .i64 (-1))):=λh=>by rw[m];exact⟨-1,rfl,⟨λh=>by omega,λ⟨i,c,v⟩=>absurd v (h i c)⟩,.inl rfl⟩
 have A:(λe d=>(∃k:Int,e=.returned (.int .i64 k)/\((0<=k/\k<n)↔∃i,i<n/\p i)/\(k= -1\/0<=k/\k<n))/\w.grownBy d none)=λe d=>R e/\w.grownBy d none:=by rw[m]
 rw[A];clear A m;have y:=hs.2.1;have M:=hs.2.2.1;have G:=hs.2.2.2.1;unfold maxLen at G;replace⟨y,u,x,s⟩:=eV y u x s;go_enter func286,ntmps286;go_wp2;go_loopw [8] (λz wr=>∃j:Nat,j<=n/\z=.int .i64 j/\(∀i,i<j->¬p i)/\w.grownBy wr none) (λz _=>n-(intOf z).toNat);case atStart=>exact⟨0,by omega,rfl,λi hi=>by omega,aB _ _⟩
 case round=>
  obtain⟨j,N,rfl,q,g⟩:=hrel;replace q:=J q;by_cases B:j<n
  ·have d1:decide ((j:Int)<n)=true:=dT_;have c:=hs.an g;obtain⟨-,-,-,-,h0|⟨b,o,rfl,-⟩⟩:=id c;omega;obtain⟨c1,c2⟩:=c.cell j (by have:=Z y;omega);have hF:=Z s wr j g B;obtain⟨lo,C⟩:=exq ((au l j).lo);obtain⟨hi,D⟩:=exq ((au l j).hi);rw[<-C]at c1 hF;rw[<-D]at c2 hF;replace hF:=J hF;clear C D;have O:(j:Int)<n:=by omega
   go_wp2_with fail;apply(Z hF).mono;rintro e P⟨⟨t,rfl,r⟩,E⟩;cases t
   ·have H:Hid (¬p j):=J (λhp=>by cases r.2 hp);clear r;go_wp2;go_roundw;case rel=>
     refine⟨j+1,by omega,by simp,λi I=>?_,aq g E⟩
     obtain h|rfl:=qm.1 I
     exact Z q i h;exact Z H
    case measure=>simp[intOf];omega
   have K:Hid (p j):=J (r.1 rfl);clear r;go_wp2;go_ret;exact⟨Z u j B (Z K),aq g E⟩
  have d1:decide ((j:Int)<n)=false:=dF_;go_wp2;go_ret;exact⟨Z x (λi hi=>Z q i (by omega)),g⟩
def GH(W:World)(d:Nat)(y x:Rg)(h0:W.cell? ⟨d,0,none⟩=some (.int .u64 x.lo))(l:W.cell? ⟨d,1,none⟩=some (.int .u64 x.hi)):
 Calls prog 246 #[.agg #[.int .u64 y.lo,.int .u64 y.hi],.pointer (some ⟨d,0,none⟩)] W λe k=>dP (y.lo<=x.lo/\x.hi<=y.hi) e/\W.grownBy k none:=by
 obtain⟨a,f⟩:=y;obtain⟨b,g⟩:=x;have m:d<W.heap.size:=eE W _ h0;obtain⟨R,c⟩:∃R:Prop,R=(a<=b/\g<=f):=⟨_,rfl⟩
 have j:((⟨a,f⟩:Rg).lo<=(⟨b,g⟩:Rg).lo/\(⟨b,g⟩:Rg).hi<=(⟨a,f⟩:Rg).hi)=R:=c.symm;rw[j];clear j;replace c:=J c;go_enter func246,ntmps246;by_cases i:a<=b
 ·have d1:decide (a<=b)=true:=dO i;go_wp2;go_ret;exact⟨nY (by rw[Z c];exact⟨λh=>⟨i,h⟩,λh=>h.2⟩),aH _ _ _⟩
 have d1:decide (a<=b)=false:=eQ i;go_wp2;go_ret;exact⟨lU (by rw[Z c];exact λh=>by have:=h.1;omega),aH _ _ _⟩
def GI(a:Option Addr)(n cap b:Nat)(lb:Array Value)(l:List Rg)(w:World)(p:Nat->Prop)(hs:bw w a n cap l)
 (j:∀args w,(callFunc b args).run prog w=.ok (.enter b args) w)
 (f:∀(W:World)(h:Nat),w.grownBy W none->h<n->Calls prog b (#[.agg #[.int .u64 (au l h).lo,.int .u64 (au l h).hi]]++lb) W (λe m=>dP (p h) e/\W.grownBy m none)):
 Calls prog 245 #[.slice a n cap,.func (.func b) #[] lb] w λe q=>dP (∃i,i<n/\p i) e/\w.grownBy q none:=by
 have r:=J (GG a n cap b lb l w p hs j f);obtain⟨R,c⟩:∃R:Prop,R=(∃i,i<n/\p i):=⟨_,rfl⟩
 rw[<-c];replace c:=J c;clear f hs;go_enter func245,ntmps245;go_wp2_with fail;apply(Z r).mono;rintro e u⟨⟨k,rfl,g,s⟩,t⟩;have d:R↔0<=k:=by rw[Z c,<-g];omega
 replace d:=J d;clear g s;go_wp2;go_ret;exact⟨nY (Z d).symm,t⟩
def AU(a:Option Addr)(n cap:Nat)(l:List Rg)(x:Rg)(w:World)(hs:bw w a n cap l):
 Calls prog 211 #[.slice a n cap,.agg #[.int .u64 x.lo,.int .u64 x.hi]] w λe y=>dP (x.hi<=x.lo\/∃r∈l,r.lo<=x.lo/\x.hi<=r.hi) e/\w.grownBy y none:=by
 obtain⟨R,f⟩:∃R:Prop,R=(x.hi<=x.lo\/∃r∈l,r.lo<=x.lo/\x.hi<=r.hi):=⟨_,rfl⟩
 rw[<-f];have j:(∃i,i<n/\((au l i).lo<=x.lo/\x.hi<=(au l i).hi))↔∃r∈l,r.lo<=x.lo/\x.hi<=r.hi:=by
  rw[hs.2.1];constructor;rintro⟨i,hi,h⟩;exact⟨_,pI hi,h⟩
  rintro⟨r,z,h⟩;obtain⟨i,hi,rfl⟩:=jY.1 z;exact⟨i,hi,by simpa [au,List.getD,hi]using h⟩
 replace⟨f,j⟩:=bA f j;obtain⟨b,c⟩:=x;have k:w.grownBy (w.alloc (.cells #[.int .u64 b,.int .u64 c] 341)) none:=aH _ _ _;have m:(w.alloc (.cells #[.int .u64 b,.int .u64 c] 341)).heap[w.heap.size]?=some (.cells #[.int .u64 b,.int .u64 c] 341 (0,0)):=aO _ _;have A:Hid ((w.alloc (.cells #[.int .u64 b,.int .u64 c] 341)).cell? ⟨w.heap.size,0,none⟩=some (.int .u64 b)):=J (by simp only[World.cell?,m];rfl);have B:Hid ((w.alloc (.cells #[.int .u64 b,.int .u64 c] 341)).cell? ⟨w.heap.size,1,none⟩=some (.int .u64 c)):=J (by simp only[World.cell?,m];rfl);replace hs:=J hs;clear m;by_cases p:c<=b
 ·have q:=J (λW=>vP (x:=⟨b,c⟩) p W);go_enter func211,ntmps211;go_wp2_with fail;apply(Z q _).mono;rintro e u⟨rfl,d⟩;go_wp2;go_ret;exact⟨sd (by rw[Z f];exact .inl p),aq k d⟩
 have q:=J (λW=>vQ (x:=⟨b,c⟩) p W);go_enter func211,ntmps211;go_wp2_with fail;apply(Z q _).mono;rintro e u⟨rfl,d⟩;have C:=J (GI a n cap 246 #[.pointer (some ⟨w.heap.size,0,none⟩)] l u (λi=>(au l i).lo<=b/\c<=(au l i).hi) ((Z hs).an (aq k d)) (λ_ _=>by kernel_rfl) (λW h g _=>GH W w.heap.size (au l h) ⟨b,c⟩ ((aq d g).cell (Z A) (by simp)) ((aq d g).cell (Z B) (by simp))));go_wp2_with fail;apply(Z C).mono;rintro e E⟨⟨t,rfl,v⟩,D⟩;have s:t=true↔R:=by
  rw[v,Z f,Z j];constructor;exact .inr;rintro(h|h);omega;exact h
 replace s:=J s;clear v;go_wp2;go_ret;exact⟨⟨t,rfl,Z s⟩,aq k (aq d D)⟩
structure Hd where
 fr:Int
 bytes:List Int
 af:List Rg
def Hd.nice(h:Hd):Prop:=0<=h.fr/\h.fr+h.bytes.length<=4611686018427387903/\bl h.af/\h.bytes.length<=1000000/\h.af.length<=100000
def gV(w:World)(sb ho:Nat)(ab:Option Addr)(nb cb:Nat)(ac:Option Addr)(nc cc:Nat)(h:Hd):Prop:=
 w.cell? ⟨sb,ho,none⟩=some (.int .u64 h.fr)/\w.cell? ⟨sb,ho+1,none⟩=some (.slice ab nb cb)/\w.cell? ⟨sb,ho+2,none⟩=some (.slice ac nc cc)/\bI w ab nb cb h.bytes/\bw w ac nc cc h.af/\h.nice
def gV.an{ac:Option Addr}{h:Hd}(H:gV w n k a i j ac l m h)(g:w.grownBy W none):gV W n k a i j ac l m h:=
 ⟨gC_ g H.1,gC_ g H.2.1,gC_ g H.2.2.1,H.2.2.2.1.an g,H.2.2.2.2.1.an g,H.2.2.2.2.2⟩
def AV(w:World)(sb ho:Nat)(ab:Option Addr)(nb cb:Nat)(ac:Option Addr)(nc cc:Nat)(h:Hd)(H:gV w sb ho ab nb cb ac nc cc h):
 Calls prog 196 #[.pointer (some ⟨sb,ho,none⟩)] w λe c=>e=.returned (.int .u64 (h.fr+h.bytes.length))/\w.grownBy c none:=by
 obtain⟨c0,c1,c2,a,-,⟨f,d,-,k3,-⟩⟩:=H;obtain⟨fr,bytes,af⟩:=h;simp only at *;have b:nb=bytes.length:=a.2.1;rw[<-b]at d k3⊢;clear b a;have g:IntKind.u64.wrap (fr+(nb:Int))=fr+(nb:Int):=by rw[fD];omega
 go_enter func196,ntmps196;go_wp2_with fail;first
  |go_quiet (fail)
  |skip
 go_wp2;go_ret;exact⟨rfl,by repeat(first|exact aB _ _|apply dy|apply aV|apply aY)⟩
def cV(h:Hd):Int:=if h.af.length=0\/0<(au h.af 0).lo then 0 else(au h.af 0).hi-h.fr
def AW(w:World)(sb ho:Nat)(ab:Option Addr)(nb cb:Nat)(ac:Option Addr)(nc cc:Nat)(h:Hd)(H:gV w sb ho ab nb cb ac nc cc h)(c:0<=cV h/\cV h<=4611686018427387903):
 Calls prog 220 #[.pointer (some ⟨sb,ho,none⟩)] w λe j=>e=.returned (.int .i64 (cV h))/\w.grownBy j none:=by
 obtain⟨c0,c1,c2,-,a,⟨p,q,-,k3,-⟩⟩:=H;obtain⟨fr,bytes,af⟩:=h;simp only at *;have d:nc=af.length:=a.2.1;have r:=a.2.2.1;have k:=a.2.2.2.1;unfold maxLen at k;by_cases f:nc=0
 ·have g:cV ⟨fr,bytes,af⟩=0:=by unfold cV;rw[aD];left;simp only;omega
  rw[g];subst f;clear g c d;go_enter func220,ntmps220;go_wp2_with fail;first
   |go_quiet (fail)
   |skip
  go_wp2;go_ret;exact⟨rfl,by repeat(first|exact aB _ _|apply dy|apply aV|apply aY)⟩
 obtain⟨b,o,rfl⟩:∃b o,ac=some ⟨b,o,none⟩:=by
  obtain⟨-,-,-,-,h0|⟨b,o,rfl,-⟩⟩:=a;omega;exact⟨b,o,rfl⟩
 obtain⟨l,m⟩:=a.cell 0 (by omega);have n:=oQ a.1 0;obtain⟨⟨s,t⟩,u,v⟩:=n;have i:cV ⟨fr,bytes,af⟩=if 0<(au af 0).lo then 0 else(au af 0).hi-fr:=by
  unfold cV;by_cases h0:0<(au af 0).lo;rw[aD (.inr h0),aD h0];rw[az (by simp only;omega),az h0]
 rw[i]at c⊢;clear i;generalize (au af 0).lo=lo at *;generalize (au af 0).hi=hi at *;rw[nV,oM]at l m;clear a d;have x:((nc:Int)==0)=false:=by simp[f]
 have y:(0:Int)<nc:=by omega
 by_cases h0:0<lo
 ·have d0:decide (0<lo)=true:=dO h0;rw[aD h0];clear c;go_enter func220,ntmps220;go_wp2_with fail;first
   |go_quiet (fail)
   |skip
  go_wp2;go_ret;exact⟨rfl,by repeat(first|exact aB _ _|apply dy|apply aV|apply aY)⟩
 have d0:decide (0<lo)=false:=eQ h0;rw[az h0]at c⊢;have z:IntKind.u64.wrap (hi-fr)=hi-fr:=by rw[fD];omega
 have A:IntKind.i64.wrap (hi-fr)=hi-fr:=wI_;go_enter func220,ntmps220;go_wp2_with fail;first
  |go_quiet (fail)
  |skip
 go_wp2_with fail;first
  |go_quiet (fail)
  |skip
 go_wp2;go_ret;exact⟨rfl,by repeat(first|exact aB _ _|apply dy|apply aV|apply aY)⟩
def OwnSet(w0 w:World)(N:Nat)(l:List Rg):Prop:=
 ∃a n c,w.heap[N]?=some (.cells #[.slice a n c] 227 (0,0))/\bw w a n c l/\bl l/\(∀y,a=some y->w0.heap.size<=y.block/\y.block≠N)
def OwnSet.an(h:OwnSet W w k D)(g:w.grownBy v none):OwnSet W v k D:=by
 obtain⟨a,n,c,b,d,e,f⟩:=h;exact⟨a,n,c,bB b g,d.an g,e,f⟩
def OwnSet.of{w0:World}{q:List Rg->Prop}(d:w.heap[k]?=some (.cells #[.slice a n i] 227 (0,0)))(f:∀y,a=some y->w0.heap.size<=y.block/\y.block≠k)(u:w0.heap.size<=w.heap.size)(h:pK w W k 0 a q):∃b,OwnSet w0 W k b/\q b:=by
 obtain⟨j,l,m,b,⟨g,p⟩,r,c,s,t⟩:=h;have v:=(aZ.1 d).1;refine⟨b,⟨j,l,m,(p _ _ d).trans rfl,r,s,λy e=>?_⟩,t⟩
 obtain rfl|c:=c
 exact f y e;have:=c y e;omega
def Bb(w:World)(sb ho:Nat)(ab:Option Addr)(nb cb:Nat)(ac:Option Addr)(nc cc:Nat)(h:Hd)(H:gV w sb ho ab nb cb ac nc cc h)(x:Rg)(hx:x.ok):
 Calls prog 278 #[.pointer (some ⟨sb,ho,none⟩),.agg #[.int .u64 x.lo,.int .u64 x.hi]] w λe p=>(∃a n c l,e=.returned (.slice a n c)/\bw p a n c l/\bl l/\(∀y,a=some y->w.heap.size<=y.block)/\l.length<=h.af.length+1/\∀m,Sm l m↔(x.lo<=m/\m<x.hi)/\¬Sm h.af m)/\w.grownBy p none:=by
 obtain⟨c0,c1,c2,-,d,⟨-,-,ax,-,cj⟩⟩:=H;obtain⟨fr,bytes,af⟩:=h;simp only at *;obtain⟨R,D⟩:∃R:Ending->World->Prop,R=λe p=>(∃a n c l,e=.returned (.slice a n c)/\bw p a n c l/\bl l/\(∀y,a=some y->w.heap.size<=y.block)/\l.length<=af.length+1/\∀m,Sm l m↔(x.lo<=m/\m<x.hi)/\¬Sm af m)/\w.grownBy p none:=⟨_,rfl⟩
 rw[<-D];replace D:=J D;obtain⟨E,F⟩:=x;have s:nc=af.length:=d.2.1;have cp:=d.2.2.1;have a3:=d.2.2.2.1;unfold maxLen at a3;have cv:=eE w _ c0;replace⟨d,ax,s⟩:=cg d ax s;go_enter func278,ntmps278;obtain⟨N,G⟩:=exq ((w.alloc (.cells #[.int .u64 E,.int .u64 F] 341)).alloc (.cells #[.slice none 0 0] 227));have g1:w.grownBy N none:=by rw[G];exact aY (aY (aB _ _) _) _
 have B:N.heap[w.heap.size+1]?=some (.cells #[.slice none 0 0] 227 (0,0)):=by
  have:=aO (w.alloc (.cells #[.int .u64 E,.int .u64 F] 341)) (.cells #[.slice none 0 0] 227);rw[dL]at this;rw[G];exact this
 have hA:=J (GB N (w.heap.size+1) 0 #[.slice none 0 0] 227 none 0 0 [] ⟨E,F⟩ B rfl ⟨λr d=>by simp at d,rfl,aR _,by simp[maxLen],.inl rfl⟩ (λy t=>by cases t) bl.nil hx (by omega));replace B:=J B;go_wp2_with fail;rw[<-G];clear G;apply(Z hA).mono;rintro e w2⟨rfl,u⟩;have g2:w.grownBy w2 none:=by
  obtain⟨a',n',c',f,⟨g,-⟩,-⟩:=u;exact pB (cJ (dd g1 (some (w.heap.size+1))) g (λk e=>.inr rfl))
 obtain⟨l1,O,P,Q⟩:=OwnSet.of (w0:=w) (Z B) (λy t=>by cases t) g1.size u;replace⟨O,Q,P⟩:=cg O Q P;have d2:=gC_ g2 c2;clear hA u B;go_wp2;go_loopw [15] (λS wr=>∃(j:Nat)(f:List Rg),j<=nc/\S=.int .i64 j/\OwnSet w wr (w.heap.size+1) f/\f.length<=j+1/\(∀m,Sm f m↔(E<=m/\m<F)/\∀i,i<j->¬((au af i).lo<=m/\m<(au af i).hi))/\w.grownBy wr none) (λS _=>nc-(intOf S).toNat);case atStart=>exact⟨0,l1,by omega,rfl,Z O,Z P,λm=>by rw[Z Q m];exact⟨λh=>h.elim (λh=>absurd h (fU m)) (λh=>⟨h,λi hi=>by omega⟩),λh=>.inr h.1⟩,g2⟩
 case round=>
  obtain⟨j,f,hj,rfl,T,cx,C,g⟩:=hrel;by_cases cy:j<nc
  ·have d1:decide ((j:Int)<nc)=true:=dT_;have I:=(Z d).an g;obtain⟨-,-,-,-,h0|⟨b,o,rfl,-⟩⟩:=id I;omega;obtain⟨y0,y1⟩:=I.cell j (by have:=Z s;omega);have K:=oQ I.1 j;have bx:Hid (∀m,((au af j).lo<=m/\m<(au af j).hi)↔((au af j).lo<=m/\m<(au af j).hi)):=J (λm=>Iff.rfl);obtain⟨r,L⟩:=exq (au af j);rw[<-L]at y0 y1 K;have U:=aH wr (.cells #[.int .u64 r.lo,.int .u64 r.hi] 341) none;obtain⟨v,z,c3,A,p2,p3,p4⟩:=T.an U;have hC:=J (AT (wr.alloc (.cells #[.int .u64 r.lo,.int .u64 r.hi] 341)) (w.heap.size+1) 0 #[.slice v z c3] 227 v z c3 f r A rfl p2 (λ_ y t=>(p4 y t).2) p3 K (by have:=p2.2.1;have:=Z s;omega));have bM:=J (λp(q:List Rg->Prop)(b0:pK (wr.alloc (.cells #[.int .u64 r.lo,.int .u64 r.hi] 341)) p (w.heap.size+1) 0 v q)=>OwnSet.of (w0:=w) A p4 (bD g.size U.size) b0);have i1:(j:Int)<nc:=by omega
   replace⟨L,C,K⟩:=cg L C K;clear A p2 p3 p4 T I bx;go_wp2_with fail;apply(Z hC).mono;rintro e w4⟨rfl,u⟩;have g4:w.grownBy w4 none:=by
    obtain⟨a',n',c',f,⟨g5,-⟩,-⟩:=u;exact pB (cJ (dd (aq g U) (some (w.heap.size+1))) g5 (λk e=>.inr rfl))
   obtain⟨l4,V,cB,W⟩:=Z bM _ _ u;replace⟨W,V⟩:=bA W V;clear u;go_wp2;go_roundw;case rel=>
    refine⟨j+1,l4,by omega,by simp,Z V,by omega,λm=>?_,g4⟩
    rw[Z W m,Z C m,Z L];constructor;rintro⟨⟨X,M⟩,h7⟩;refine⟨X,λi hi=>?_⟩
    obtain h8|rfl:=qm.1 hi
    exact M i h8;exact h7;rintro⟨X,M⟩;exact⟨⟨X,λi hi=>M i (by omega)⟩,M j (by omega)⟩
   case measure=>simp[intOf];omega
  have d1:decide ((j:Int)<nc)=false:=dF_;obtain rfl:j=nc:=by omega
  obtain⟨v,z,c3,A,p2,p3,p4⟩:=T;have s0:wr.cell? ⟨w.heap.size+1,0,none⟩=some (.slice v z c3):=by simp[World.cell?,A]
  have Y:R (.returned (.slice v z c3)) wr:=by
   rw[Z D];refine⟨⟨v,z,c3,f,rfl,p2,p3,λy t=>(p4 y t).1,by have:=Z s;omega,λm=>?_⟩,g⟩
   rw[C m];refine and_congr_right λ_=>⟨λh ⟨r,ca,h3⟩=>?_,λh i hi h3=>h ⟨_,pI (by have:=Z s;omega),h3⟩⟩
   obtain⟨k,hk,rfl⟩:=jY.1 ca;have er:au af k=af[k]:=by simp[au,List.getD,hk]
   exact h k (by have:=Z s;omega) (by rw[er];exact h3)
  replace Y:=J Y;clear A p2 p3 p4 C;go_wp2_with fail;exact Z Y
def GX(w:World)(a:Nat)(b:a<=w.heap.size):bn (w.alloc (.cells #[] 5)) a (.slice (some ⟨w.heap.size,0,none⟩) 0 0) []:=
 ⟨(λx c=>by cases c),by simp[bv],.inr ⟨w.heap.size,0,#[],rfl,b,aO w _,aR _,by simp[maxLen],by simp,by simp[bv]⟩⟩
def GY(w:World):(binOp .eql 112 (.slice none 0 0) (.slice none 0 0)).run prog w=.ok (.bool true) w:=by
 have h:∀d:Nat,(Op.equalIn (d+1) 112 (.slice none 0 0) (.slice none 0 0)).run prog w=.ok true w:=λd=>by
  simp[Op.equalIn,vz underlying112]
 simp only[binOp]
 simp[Op.equal,Op.maxDepth,h 9999]
def GZ(w:World)(y:Addr)(n c:Nat):(binOp .eql 112 (.slice (some y) n c) (.slice none 0 0)).run prog w=.ok (.bool false) w:=by
 have h:∀d:Nat,(Op.equalIn (d+1) 112 (.slice (some y) n c) (.slice none 0 0)).run prog w=.ok false w:=λd=>by
  simp[Op.equalIn,vz underlying112]
 simp only[binOp]
 simp[Op.equal,Op.maxDepth,h 9999]
def G4(a:Option Addr)(n c:Nat)(l:List Int)(w:World)(f:bI w a n c l)(hl:l.length<=2000000):
 Calls prog 259 #[.slice a n c] w λe g=>(∃i j,e=.returned (.slice i n j)/\bn g w.heap.size (.slice i n j) l)/\w.grownBy g none:=by
 obtain⟨R,d⟩:∃R:Ending->World->Prop,R=λe g=>(∃i j,e=.returned (.slice i n j)/\bn g w.heap.size (.slice i n j) l)/\w.grownBy g none:=⟨_,rfl⟩
 rw[<-d];replace d:=J d;have m:n=l.length:=f.2.1;cases a with
 |none=>
  have t:n=0:=by
   obtain⟨-,-,u,-,⟨-,h⟩|⟨b,o,h,-⟩⟩:=f;omega;cases h
  have v:c=0:=by
   obtain⟨-,-,u,-,⟨-,h⟩|⟨b,o,h,-⟩⟩:=f;exact h;cases h
  subst t v;have x:l=[]:=eN_;subst x;have p:Hid (R (.returned (.slice none 0 0)) w):=J (by rw[Z d];exact⟨⟨none,0,rfl,bn.nil _ _⟩,aB _ _⟩);have z:=GY;clear f hl m d;go_enter func259,ntmps259;go_wp2_with fail;exact Z p
 |some y=>
  have q:=J (GX w w.heap.size (aR _));have A:=J (f.an (aH w (.cells #[] 5) none));replace m:=J m;have z:=λW=>GZ W y n c
  go_enter func259,ntmps259;go_wp2_with (at_builtin;refine rZ (by rfl) _ _ (by rfl) w.heap.size _ [] (by rfl) (Z q) _ _ _ l (by rfl) (Z A) (by simp;omega) (by simp) ?_;intro r c3 B s C _;simp only[fe,dY,jZ]at s⊢);have p:R (.returned (.slice r l.length c3)) B:=by
   rw[Z d];refine⟨⟨r,c3,by rw[Z m],?_⟩,cJ (aH w (.cells #[] 5) none) C (λk e=>.inl ((Z q).lt k e).1)⟩
   rw[Z m];simpa using s
  exact p
def bn.low{b2:Nat}(h:bn w n x L)(b:b2<=n):bn w b2 x L:=by
 obtain⟨c,d,a⟩:=h;refine⟨c,d,?_⟩
 obtain a|⟨g,cap,cur,e1,e2,e⟩:=a
 exact .inl a;exact .inr ⟨g,cap,cur,e1,bD b e2,e⟩
def bn.ah{sb:Nat}(h:bn w n x L)(a:x.ownBlock≠some sb)(so:Nat)(u:Value):bn (w.setCell ⟨sb,so,none⟩ u) n x L:=
 h.gb (aK (aB w (some sb)) ⟨sb,so,none⟩ u (.inr rfl)) (.inr a)
def Be(h:BS w b o L)(n:Nat):BS w b (o+n) (L.drop n):=by
 refine⟨λi hi=>?_,λx a=>h.2 x (iN a)⟩
 rw[dM]at hi;have:=h.1 (n+i) (by omega);rw[show o+n+i=o+(n+i) by omega,this];simp[kR]
def sh:prog.elem 112=5:=by kernel_rfl
def yn(W:World):(sizeOf 5).run prog W=.ok 1 W:=by kernel_rfl
def G7(a:Option Addr)(n cap j:Nat)(h:j<=n)(W:World):(Instr.slice 112 (.slice a n cap) (some (.int .i64 j)) none none).run prog W=.ok (.slice (if cap=j then a else a.map (·.add j)) (n-j) (cap-j)) W:=by
 rw[run_slice_l W 112 a n cap (by rw[sh];exact underlying112) .i64 (j:Int) (by omega) (by omega),sh,yn];simp only[jd,sliced,nT,Nat.mul_one]
def G9(h:bI w a n k L)(d:∀z,a=some z->z.block≠j)(so:Nat)(v:Value):bI (w.setCell ⟨j,so,none⟩ v) a n k L:=by
 obtain⟨e,f,g,l,c⟩:=h;refine⟨e,f,g,l,?_⟩
 obtain c|⟨b,o,rfl,c⟩:=c
 exact .inl c;exact .inr ⟨b,o,rfl,λi hi=>(jX (w:=w) (a:=⟨b,o+i,none⟩) (dF _ _ _ _ (d _ rfl))).trans (c.1 i hi),c.2⟩
def yo(h:bI w a n k L)(j:Nat)(m:j<=n)(d:k-j=0/\O=a\/∃b o,a=some ⟨b,o,none⟩/\O=some ⟨b,o+j,none⟩):(k-j=0->O=none\/∃b o,O=some ⟨b,o,none⟩)->bI w O (n-j) (k-j) (L.drop j):=by
 intro g;obtain⟨l,p,q,r,c⟩:=h;refine⟨λx f=>l x (iN f),by rw[dM];omega,by omega,by omega,?_⟩
 obtain⟨d,rfl⟩|⟨b,o,rfl,rfl⟩:=d
 obtain rfl|⟨b,o,rfl⟩:=g d
 exact .inl ⟨rfl,d⟩;refine .inr ⟨b,o,rfl,?_⟩;have:L.drop j=[]:=nM (by rw[dM];omega);rw[this];exact⟨λi hi=>by simp at hi,λx f=>by simp at f⟩
 obtain⟨c,-⟩|⟨s,t,e,c⟩:=c
 cases c;cases e;exact .inr ⟨_,_,rfl,Be c j⟩
def Bf(w:World)(sb ho:Nat)(cs:Array Value)(t:TypeId)(ab:Option Addr)(nb cb:Nat)(ac:Option Addr)(nc cc:Nat)(h:Hd)(K:w.heap[sb]?=some (.cells cs t (0,0)))(H:gV w sb ho ab nb cb ac nc cc h)(k:Nat)(hk:h.fr+k<=4611686018427387903)(ax:∀y,ab=some y->y.block≠sb):
 Calls prog 221 #[.pointer (some ⟨sb,ho,none⟩),.int .i64 k] w λe O=>e=.returned (.tuple #[])/\∃P E,w.grownBy O (some sb)/\O.heap[sb]?=some (.cells ((cs.setIfInBounds ho (.int .u64 (h.fr+k))).setIfInBounds (ho+1) (.slice P (h.bytes.drop k).length E)) t (0,0))/\bn O w.heap.size (.slice P (h.bytes.drop k).length E) (h.bytes.drop k)/\(∀y,P=some y->w.heap.size<=y.block):=by
 obtain⟨c0,c1,c2,r,-,⟨k0,k1,-,k3,-⟩⟩:=H;obtain⟨fr,bytes,af⟩:=h;simp only at *;have F:nb=bytes.length:=r.2.1;have f0:w.frozen? ⟨sb,ho,none⟩=false:=fZ_ K;have hw:IntKind.u64.wrap (fr+(k:Int))=fr+(k:Int):=by rw[fD];omega
 have a8:IntKind.u64.wrap (k:Int)=(k:Int):=by rw[fD];omega
 obtain⟨a,s⟩:=exq (w.setCell ⟨sb,ho,none⟩ (.int .u64 (fr+(k:Int))));have L:w.grownBy a (some sb):=by rw[s];exact aK (aB _ _) _ _ (.inr rfl)
 have p:a.heap[sb]?=some (.cells (cs.setIfInBounds ho (.int .u64 (fr+(k:Int)))) t (0,0)):=by rw[s];exact heap_set K _
 have M:a.cell? ⟨sb,ho+1,none⟩=some (.slice ab nb cb):=by
  simp only[World.cell?,K]at c1;simp only[World.cell?,p]
  rw[aN_];exact c1
 have u:bI a ab nb cb bytes:=by rw[s];exact G9 r ax ho _
 obtain⟨j,V⟩:=exq (min k nb);have N:j<=nb:=by omega
 obtain⟨v,d⟩:=exq ((if cb=j then ab else ab.map (·.add j)));have jk:∀W,(Instr.slice 112 (.slice ab nb cb) (some (.int .i64 j)) none none).run prog W=.ok (.slice v (nb-j) (cb-j)) W:=λW=>by rw[d];exact G7 _ nb cb j N W
 have Q:bI a v (nb-j) (cb-j) (bytes.drop j):=by
  have aC:=u.2.2.1;obtain⟨-,-,-,-,⟨rfl,h0⟩|⟨b,o,rfl,-⟩⟩:=id u;refine yo u j N (.inl ⟨by omega,by rw[d];split<;>rfl⟩) (λ_=>.inl (by rw[d];split<;>rfl));by_cases R:cb=j;refine yo u j N (.inl ⟨by omega,by rw[d,aD R]⟩) (λ_=>.inr ⟨b,o,by rw[d,aD R]⟩);refine yo u j N (.inr ⟨b,o,rfl,by rw[d,az R];simp only[rV,Addr.add_mid]⟩) (λh=>by omega)
 have S:bytes.drop j=bytes.drop k:=by
  by_cases a0:k<=nb;rw[show j=k by omega];rw[uZ (by omega),uZ (by omega)]
 have D:nb-j=(bytes.drop k).length:=by rw[<-S,dM,F]
 have G:=J (λW(g:a.grownBy W none)(X E:Nat)(e1:X=nb-j)(e2:E=cb-j)=>G4 v X E (bytes.drop j) W (by rw[e1,e2];exact Q.an g) (by rw[dM];omega));have a9:sb<w.heap.size:=(aZ.1 K).1;have i:a.heap.size=w.heap.size:=by rw[s];simp[World.setCell]
 replace⟨S,D,r,u,Q,F,d⟩:=iR S D r u Q F d;have Y:min (k:Int) (nb:Int)=(j:Int):=by omega
 have bb:a.grownBy a.drew (some sb):=aV (aB _ _);go_enter func221,ntmps221;go_wp2_with fail;rw[<-s];replace s:=J s;have i1:(j:Int)<=nb:=by omega
 have aC:=(Z r).2.2.1;clear jk;replace i:=J i;by_cases a0:k<=nb
 ·have d1:decide ((k:Int)<=nb)=true:=dT_;have d2:decide ((nb:Int)<k)=false:=dF_;obtain rfl:j=k:=by omega
  clear V Y;by_cases I:cb=j
  ·have x:v=ab:=by rw[Z d,aD I]
   subst x;clear d;go_region_with (first|(go_at_call 259;apply(Z G _ (aV (aB _ _)) _ _ (by omega) (by omega)).mono;rintro e l⟨⟨a5,c5,rfl,f⟩,z⟩;have c:a.grownBy l none:=(aq (aV (aB _ _)) z);have T:=gC_ c M;have f5:l.frozen? ⟨sb,ho+1,none⟩=false:=(by simp[World.frozen?,bB p c])));all_goals
    have A:∀y,a5=some y->w.heap.size<=y.block:=λy B=>by
     have U:a.drew.heap.size<=y.block:=(f.lt y.block (by rw[B];rfl)).1;have m:=Z i;have n:a.drew.heap.size=a.heap.size:=rfl;omega
    refine fm (eF rfl _ _ _) rfl ⟨rfl,a5,c5,aq L (aK (dd c _) _ _ (.inr rfl)),?_,?_,A⟩
    rw[<-Z D];exact heap_set (bB p c) _
    have C:=(f.low (b2:=w.heap.size) (by have m:=Z i;have n:a.drew.heap.size=a.heap.size:=rfl;omega)).ah (sb:=sb) (λe=>by have:=(f.lt _ e).1;have m:=Z i;have n:a.drew.heap.size=a.heap.size:=rfl;omega) (ho+1) (.slice a5 (nb-j) c5)
    rw[<-Z D]
    exact C
  obtain⟨b,o,rfl⟩:∃b o,ab=some ⟨b,o,none⟩:=by
   obtain⟨-,-,-,-,⟨-,h0⟩|⟨b,o,rfl,-⟩⟩:=Z r;omega;exact⟨b,o,rfl⟩
  have x:v=some ⟨b,o+j,none⟩:=by rw[Z d,az I];simp only[rV,Addr.add_mid]
  subst x;clear d;go_region_with (first|(go_at_call 259;apply(Z G _ (aV (aB _ _)) _ _ (by omega) (by omega)).mono;rintro e l⟨⟨a5,c5,rfl,f⟩,z⟩;have c:a.grownBy l none:=(aq (aV (aB _ _)) z);have T:=gC_ c M;have f5:l.frozen? ⟨sb,ho+1,none⟩=false:=(by simp[World.frozen?,bB p c])));all_goals
   have A:∀y,a5=some y->w.heap.size<=y.block:=λy B=>by
    have U:a.drew.heap.size<=y.block:=(f.lt y.block (by rw[B];rfl)).1;have m:=Z i;have n:a.drew.heap.size=a.heap.size:=rfl;omega
   refine fm (eF rfl _ _ _) rfl ⟨rfl,a5,c5,aq L (aK (dd c _) _ _ (.inr rfl)),?_,?_,A⟩
   rw[<-Z D];exact heap_set (bB p c) _
   have C:=(f.low (b2:=w.heap.size) (by have m:=Z i;have n:a.drew.heap.size=a.heap.size:=rfl;omega)).ah (sb:=sb) (λe=>by have:=(f.lt _ e).1;have m:=Z i;have n:a.drew.heap.size=a.heap.size:=rfl;omega) (ho+1) (.slice a5 (nb-j) c5)
   rw[<-Z D]
   exact C
 have d1:decide ((k:Int)<=nb)=false:=dF_;have d2:decide ((nb:Int)<k)=true:=dT_;obtain rfl:j=nb:=by omega
 clear V Y;have q:bytes.drop k=[]/\(bytes.drop k).length=0:=by
  have hd:bytes.drop k=[]:=uZ (by have:=Z F;omega);exact⟨hd,by rw[hd];rfl⟩
 have al:bytes.drop j=[]:=uZ (by have:=Z F;omega);rw[al]at G;clear al;replace q:=J q;by_cases I:cb=j
 ·have x:v=ab:=by rw[Z d,aD I]
  subst x;clear d;go_region_with (first|(go_at_call 259;apply(Z G _ (aV (aB _ _)) _ _ (by omega) (by omega)).mono;rintro e l⟨⟨a5,c5,rfl,f⟩,z⟩;have c:a.grownBy l none:=(aq (aV (aB _ _)) z);have T:=gC_ c M;have f5:l.frozen? ⟨sb,ho+1,none⟩=false:=(by simp[World.frozen?,bB p c])));all_goals
   have A:∀y,a5=some y->w.heap.size<=y.block:=λy B=>by
    have U:a.drew.heap.size<=y.block:=(f.lt y.block (by rw[B];rfl)).1;have m:=Z i;have n:a.drew.heap.size=a.heap.size:=rfl;omega
   refine fm (eF rfl _ _ _) rfl ⟨rfl,a5,c5,aq L (aK (dd c _) _ _ (.inr rfl)),?_,?_,A⟩
   rw[(Z q).2];exact heap_set (bB p c) _
   have C:=(f.low (b2:=w.heap.size) (by have m:=Z i;have n:a.drew.heap.size=a.heap.size:=rfl;omega)).ah (sb:=sb) (λe=>by have:=(f.lt _ e).1;have m:=Z i;have n:a.drew.heap.size=a.heap.size:=rfl;omega) (ho+1) (.slice a5 0 c5)
   rw[(Z q).2,(Z q).1]
   exact C
 obtain⟨b,o,rfl⟩:∃b o,ab=some ⟨b,o,none⟩:=by
  obtain⟨-,-,-,-,⟨-,h0⟩|⟨b,o,rfl,-⟩⟩:=Z r;omega;exact⟨b,o,rfl⟩
 have x:v=some ⟨b,o+j,none⟩:=by rw[Z d,az I];simp only[rV,Addr.add_mid]
 subst x;clear d;go_region_with (first|(go_at_call 259;apply(Z G _ (aV (aB _ _)) _ _ (by omega) (by omega)).mono;rintro e l⟨⟨a5,c5,rfl,f⟩,z⟩;have c:a.grownBy l none:=(aq (aV (aB _ _)) z);have T:=gC_ c M;have f5:l.frozen? ⟨sb,ho+1,none⟩=false:=(by simp[World.frozen?,bB p c])));all_goals
  have A:∀y,a5=some y->w.heap.size<=y.block:=λy B=>by
   have U:a.drew.heap.size<=y.block:=(f.lt y.block (by rw[B];rfl)).1;have m:=Z i;have n:a.drew.heap.size=a.heap.size:=rfl;omega
  refine fm (eF rfl _ _ _) rfl ⟨rfl,a5,c5,aq L (aK (dd c _) _ _ (.inr rfl)),?_,?_,A⟩
  rw[(Z q).2];exact heap_set (bB p c) _
  have C:=(f.low (b2:=w.heap.size) (by have m:=Z i;have n:a.drew.heap.size=a.heap.size:=rfl;omega)).ah (sb:=sb) (λe=>by have:=(f.lt _ e).1;have m:=Z i;have n:a.drew.heap.size=a.heap.size:=rfl;omega) (ho+1) (.slice a5 0 c5)
  rw[(Z q).2,(Z q).1]
  exact C
structure Ot where
 h:Hd
 ay:Int
 sE:Bool
 sG:Bool
 tE:Bool
 tG:Bool
 code:Int
def j9(w:World)(sb a:Nat)(o:Ot):Prop:=
 w.cell? ⟨sb,a+3,none⟩=some (.int .u64 o.ay)/\w.cell? ⟨sb,a+4,none⟩=some (.bool o.sE)/\w.cell? ⟨sb,a+5,none⟩=some (.bool o.sG)/\w.cell? ⟨sb,a+6,none⟩=some (.bool o.tE)/\w.cell? ⟨sb,a+7,none⟩=some (.bool o.tG)/\w.cell? ⟨sb,a+8,none⟩=some (.int .u64 o.code)/\aS o.ay/\aS o.code
def yp(e g x y:Bool)(w:World):Calls prog 282 #[.agg #[.bool e,.bool g],.agg #[.bool x,.bool y]] w λr a=>r=.returned (.agg #[.bool (e&& !x),.bool (g&& !y)])/\w.grownBy a none:=by
 cases e<;>cases g;all_goals
  go_enter func282,ntmps282
  go_wp2_with fail
  refine cF (v:=.agg #[.bool (_&& !x),.bool (_&& !y)]) ?_ rfl ⟨rfl,?_⟩
  ·simp[results,results282,go_sem]
  exact aY (aY (aY (aB _ _) _) _) _
def yq(w:World)(sb a:Nat)(o:Ot)(H:j9 w sb a o):Calls prog 153 #[.pointer (some ⟨sb,a,none⟩)] w λr b=>r=.returned (.bool o.sG)/\w.grownBy b none:=by
 obtain⟨c3,c4,c5,c6,c7,c8,-,-⟩:=H;go_enter func153,ntmps153;go_wp2_with fail;first
  |go_quiet (fail)
  |skip
 go_wp2;go_ret;exact⟨rfl,by repeat(first|exact aB _ _|apply dy|apply aV|apply aY)⟩
def Ha(w:World)(sb a:Nat)(o:Ot)(H:j9 w sb a o):Calls prog 195 #[.pointer (some ⟨sb,a,none⟩)] w λr b=>r=.returned (.bool (o.sE||o.sG))/\w.grownBy b none:=by
 obtain⟨c3,c4,c5,c6,c7,c8,-,-⟩:=H;generalize o.sE=e at *;generalize o.sG=g at *;cases e<;>cases g<;>
 (go_enter func195,ntmps195
  go_wp2_with fail
  first
   |go_quiet (fail)
   |skip
  go_wp2
  go_ret
  exact⟨rfl,by repeat(first|exact aB _ _|apply dy|apply aV|apply aY)⟩)
def Hb(w:World)(sb a:Nat)(fr:Int)(h0:w.cell? ⟨sb,a,none⟩=some (.int .u64 fr))(c:0<=fr/\fr<=4611686018427387903):Calls prog 169 #[.pointer (some ⟨sb,a,none⟩)] w λr b=>r=.returned (.int .i64 fr)/\w.grownBy b none:=by
 have d:IntKind.i64.wrap fr=fr:=wI_;go_enter func169,ntmps169;go_wp2_with fail;first
  |go_quiet (fail)
  |skip
 go_wp2;go_ret;exact⟨rfl,by repeat(first|exact aB _ _|apply dy|apply aV|apply aY)⟩
def Hc(w:World)(sb a:Nat)(cs:Array Value)(t:TypeId)(o:Ot)(b:w.heap[sb]?=some (.cells cs t (0,0)))(H:j9 w sb a o):Calls prog 151 #[.pointer (some ⟨sb,a,none⟩)] w λr c=>r=.returned (.tuple #[])/\w.grownBy c (some sb)/\c.heap[sb]?=some (.cells (cs.setIfInBounds (a+4) (.bool true)) t (0,0)):=by
 obtain⟨c3,c4,c5,c6,c7,c8,-,-⟩:=H;have f4:w.frozen? ⟨sb,a+4,none⟩=false:=fZ_ b;go_enter func151,ntmps151;go_wp2_with fail;exact fm (eF rfl _ _ _) rfl ⟨rfl,aK (aB _ _) _ _ (.inr rfl),heap_set b _⟩
variable{f:Ot}
def j9.an(H:j9 w n k f)(g:w.grownBy W none):j9 W n k f:=
 ⟨gC_ g H.1,gC_ g H.2.1,gC_ g H.2.2.1,gC_ g H.2.2.2.1,gC_ g H.2.2.2.2.1,gC_ g H.2.2.2.2.2.1,H.2.2.2.2.2.2⟩
def Ot.uE(o:Ot):Bool:=o.sE&& !o.tE
def Ot.uG(o:Ot):Bool:=o.sG&& !o.tG
def Bg(w:World)(sb i:Nat)(o:Ot)(H:j9 w sb i o):Calls prog 279 #[.pointer (some ⟨sb,i,none⟩)] w λr n=>r=.returned (.agg #[.bool o.uE,.bool o.uG])/\w.grownBy n none:=by
 obtain⟨c3,c4,c5,c6,c7,c8,-,-⟩:=H;have j:=J (λW=>yp o.sE o.sG o.tE o.tG W);obtain⟨uE,f⟩:=exq o.uE;obtain⟨uG,g⟩:=exq o.uG;have k:(o.sE&& !o.tE)=uE:=f.symm;have l:(o.sG&& !o.tG)=uG:=g.symm;rw[k,l]at j;rw[<-f,<-g];clear f g k l;obtain⟨h,c⟩:=exq (w.alloc (.cells #[.bool false,.bool false] 231));have a:w.grownBy h none:=by rw[c];exact aH _ _ _
 have p:h.heap[w.heap.size]?=some (.cells #[.bool false,.bool false] 231 (0,0)):=by rw[c];exact aO _ _
 replace c4:=gC_ a c4;replace c5:=gC_ a c5;replace c6:=gC_ a c6;replace c7:=gC_ a c7;clear c3 c8;generalize o.sE=e1 at *;generalize o.sG=e2 at *;generalize o.tE=s at *;generalize o.tG=t at *;go_enter func279,ntmps279;go_wp2_with fail;rw[<-c];clear c;go_region_with (first|(go_at_call 282;apply(Z j _).mono;rintro e b⟨rfl,q⟩;have m:h.grownBy b none:=(aq (aV (aB _ _)) q);have d:=bB p m;have u:b.cell? ⟨w.heap.size,0,none⟩=some (.bool false):=(by simp[World.cell?,d]);have b1:b.cell? ⟨w.heap.size,1,none⟩=some (.bool false):=(by simp[World.cell?,d]);have x:b.frozen? ⟨w.heap.size,0,none⟩=false:=(by simp[World.frozen?,d]);have y:b.frozen? ⟨w.heap.size,1,none⟩=false:=(by simp[World.frozen?,d])));all_goals go_wp2_with fail
 all_goals
  refine cF (v:=.agg #[.bool uE,.bool uG]) ?_ rfl ⟨rfl,aK (aK (aq a m) _ _ (.inl (aR _))) _ _ (.inl (aR _))⟩
  simp[results,results279,go_sem, *]
def He(w:World)(sb a:Nat)(cs:Array Value)(t:TypeId)(ab:Option Addr)(nb cb:Nat)(o:Ot)(code:Int)(b:w.heap[sb]?=some (.cells cs t (0,0)))(d:w.cell? ⟨sb,a+1,none⟩=some (.slice ab nb cb))(H:j9 w sb a o):
 Calls prog 154 #[.pointer (some ⟨sb,a,none⟩),.int .u64 code] w λr c=>r=.returned (.tuple #[])/\w.grownBy c (some sb)/\c.heap[sb]?=some (.cells ((((cs.setIfInBounds (a+4) (.bool false)).setIfInBounds (a+5) (.bool true)).setIfInBounds (a+8) (.int .u64 code)).setIfInBounds (a+1) (.slice none 0 0)) t (0,0)):=by
 obtain⟨c3,c4,c5,c6,c7,c8,-,-⟩:=H;have f1:w.frozen? ⟨sb,a+1,none⟩=false:=fZ_ b;have f4:w.frozen? ⟨sb,a+4,none⟩=false:=fZ_ b;have f5:w.frozen? ⟨sb,a+5,none⟩=false:=fZ_ b;have f8:w.frozen? ⟨sb,a+8,none⟩=false:=fZ_ b;have G:w.grownBy ((((w.setCell ⟨sb,a+4,none⟩ (.bool false)).setCell ⟨sb,a+4+1,none⟩ (.bool true)).setCell ⟨sb,a+8,none⟩ (.int .u64 code)).setCell ⟨sb,a+1,none⟩ (.slice none 0 0)) (some sb):=
  aK (aK (aK (aK (aB w (some sb)) ⟨sb,a+4,none⟩ (.bool false) (.inr rfl)) ⟨sb,a+4+1,none⟩ (.bool true) (.inr rfl)) ⟨sb,a+8,none⟩ (.int .u64 code) (.inr rfl)) ⟨sb,a+1,none⟩ (.slice none 0 0) (.inr rfl)
 have B:((((w.setCell ⟨sb,a+4,none⟩ (.bool false)).setCell ⟨sb,a+4+1,none⟩ (.bool true)).setCell ⟨sb,a+8,none⟩ (.int .u64 code)).setCell ⟨sb,a+1,none⟩ (.slice none 0 0)).heap[sb]?=some (.cells ((((cs.setIfInBounds (a+4) (.bool false)).setIfInBounds (a+4+1) (.bool true)).setIfInBounds (a+8) (.int .u64 code)).setIfInBounds (a+1) (.slice none 0 0)) t (0,0)):=
  heap_set (heap_set (heap_set (heap_set b _) _) _) _
 replace⟨G,B⟩:=bA G B;rw[show a+5=a+4+1 from rfl];go_enter func154,ntmps154;go_wp2_with fail;exact fm (eF rfl _ _ _) rfl ⟨rfl,Z G,Z B⟩
