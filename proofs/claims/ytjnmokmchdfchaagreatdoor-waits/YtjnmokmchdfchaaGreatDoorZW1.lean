import Derived.Test.YtjnmokmchdfchaaGreatDoorZW0
set_option maxRecDepth 1000000
set_option maxHeartbeats 0
set_option linter.all false
namespace Go.Proofs.YtjnmokmchdfchaaGreatDoor
open Go.RowKit Tryz
attribute[local go_sem↓]Go.wp_at_zero Go.wp_at_succ
variable{f:Act}{F:Array Oper}{c:Array Value}{G:Exit->Act->World->Prop}{L:List Int}{Y:List Rg}{b i j k l m n o:Nat}{I:Oper}{O a:Option Addr}{U:Rg}{T:TypeId}{x z:Value}{W v w:World}
theorem uj(x:Rg)(w:World):Calls prog 244 #[.agg #[.int .u64 x.lo,.int .u64 x.hi]] w λe a=>e=.returned (.bool (decide (x.hi<=x.lo)))/\w.grownBy a none:=by
 go_enter func244,ntmps244;go_wp2_with fail;first
  |go_quiet (fail)
  |skip
 go_wp2_with fail;go_ret;exact⟨rfl,by repeat(first|exact av _ _|apply dh|apply aP|apply aS)⟩
theorem bf{o:Obj}(h:W.heap[i]?=some o)(g:W.grownBy w none):w.heap[i]?=some o:=(g.block i (aO.1 h).1 (by simp)).trans h
theorem uk:prog.elem 227=341:=by kernel_rfl
theorem yZ(W:World):(sizeOf 341).run prog W=.ok 2 W:=by kernel_rfl
theorem y9(a:Option Addr)(n cap i:Nat)(h:i<=cap)(W:World):(Instr.slice 227 (.slice a n cap) none (some (.int .i64 (i:Int))) (some (.int .i64 (i:Int)))).run prog W=.ok (.slice a i i) W:=by
 rw[run_slice_hm W 227 a n cap (by rw[uk];exact underlying227) .i64 .i64 (i:Int) (i:Int) (by omega) (fI _) (by omega),uk,yZ];simp only[ic,sliced,jP,mK,Nat.sub_zero]
 congr 1;cases a with
 |none=>simp
 |some y=>simp[Addr.add]
theorem zb(a:Option Addr)(n cap j:Nat)(h:j<=n)(W:World):(Instr.slice 227 (.slice a n cap) (some (.int .i64 (j:Int))) none none).run prog W=.ok (.slice (if cap=j then a else a.map (·.add (j*2))) (n-j) (cap-j)) W:=by
 rw[run_slice_l W 227 a n cap (by rw[uk];exact underlying227) .i64 (j:Int) (by omega) (by omega),uk,yZ];simp only[ic,sliced,jP]
theorem v8{wc:World}{a b:Value}(h:w.cell? ⟨k,0,none⟩=some z/\w.cell? ⟨i,0,none⟩=some a/\w.cell? ⟨i,1,none⟩=some b/\wc.grownBy w (some n))(g:w.grownBy W none):W.cell? ⟨k,0,none⟩=some z/\W.cell? ⟨i,0,none⟩=some a/\W.cell? ⟨i,1,none⟩=some b/\wc.grownBy W (some n):=
 ⟨g.cell h.1 (by simp),g.cell h.2.1 (by simp),g.cell h.2.2.1 (by simp),aj h.2.2.2 (cO g _)⟩
theorem cS.lt(h:cS w n x Y):∀k,x.ownBlock=some k->n<=k/\k<w.heap.size:=h.2.lt
theorem zd{wc:World}(h:wc.grownBy w none)(o:cS w n x Y)(a:wc.heap.size<=n)(g:w.grownBy W x.ownBlock):wc.grownBy W none:=cA h g (λj e=>.inl (bC a (o.lt _ e).1))
theorem Et{wc:World}{a b c:Value}(h:w.cell? ⟨k,0,none⟩=some z/\w.cell? ⟨i,0,none⟩=some a/\w.cell? ⟨i,1,none⟩=some b/\wc.grownBy w (some n))(o:cS w m c Y)(d:wc.heap.size<=m)(f:k<m)(l:i<m)(g:w.grownBy W c.ownBlock):W.cell? ⟨k,0,none⟩=some z/\W.cell? ⟨i,0,none⟩=some a/\W.cell? ⟨i,1,none⟩=some b/\wc.grownBy W (some n):=
 ⟨g.cell h.1 (λe=>by have:m<=k:=(o.lt _ e.symm).1;omega),g.cell h.2.1 (λe=>by have:m<=i:=(o.lt _ e.symm).1;omega),g.cell h.2.2.1 (λe=>by have:m<=i:=(o.lt _ e.symm).1;omega),cA h.2.2.2 g (λj e=>.inl (bC d (o.lt _ e).1))⟩
theorem Eu{wc:World}{a b u:Value}(h:W.cell? ⟨i,0,none⟩=some z/\W.cell? ⟨j,0,none⟩=some a/\W.cell? ⟨j,1,none⟩=some b/\wc.grownBy W (some n))(d:i≠n)(c:j≠n):(W.setCell ⟨n,k,none⟩ u).cell? ⟨i,0,none⟩=some z/\(W.setCell ⟨n,k,none⟩ u).cell? ⟨j,0,none⟩=some a/\(W.setCell ⟨n,k,none⟩ u).cell? ⟨j,1,none⟩=some b/\wc.grownBy (W.setCell ⟨n,k,none⟩ u) (some n):=
 ⟨(lg (w:=W) (cY _ _ _ _ d)).trans h.1,(lg (w:=W) (cY _ _ _ _ c)).trans h.2.1,(lg (w:=W) (cY _ _ _ _ c)).trans h.2.2.1,aD h.2.2.2 _ _ (.inr rfl)⟩
theorem ba.aw{sb:Nat}(h:ba w a n k Y)(d:∀z,a=some z->z.block≠sb)(so:Nat)(v:Value):ba (w.setCell ⟨sb,so,none⟩ v) a n k Y:=by
 obtain⟨e,f,g,i,c⟩:=h;refine⟨e,f,g,i,?_⟩
 obtain c|⟨b,o,rfl,c⟩:=c
 exact .inl c;exact .inr ⟨b,o,rfl,λj u l=>(lg (w:=w) (a:=⟨b,o+j,none⟩) (cY _ _ _ _ (d _ rfl))).trans (c j u l)⟩
def wg(w a:World)(sb so:Nat)(v:Value):Prop:=
 w.grownBy a (some sb)/\∀cs t,w.heap[sb]?=some (.cells cs t (0,0))->a.heap[sb]?=some (.cells (cs.setIfInBounds so v) t (0,0))
def oF(w d:World)(sb so:Nat)(a:Option Addr)(q:List Rg->Prop):Prop:=
 ∃b e f c,wg w d sb so (.slice b e f)/\ba d b e f c/\(b=a\/∀y,b=some y->w.heap.size<=y.block)/\aZ c/\q c
def sy(w d:World)(sb so:Nat)(a:Option Addr)(n cap:Nat)(l:List Rg)(q:List Rg->Prop):Prop:=
 ∃b e f c,wg w d sb so (.slice b e f)/\ba d b e f c/\((b=a/\e=n/\f=cap/\c=l)\/∀y,b=some y->w.heap.size<=y.block/\y.block<d.heap.size)/\aZ c/\q c
theorem sy.set{w:World}{q:List Rg->Prop}(h:sy w W k i a n j Y q):oF w W k i a q:=by
 obtain⟨b,c,d,e,f,g,l,m⟩:=h;exact⟨b,c,d,e,f,g,l.imp (λh=>h.1) (λh y p=>(h y p).1),m⟩
def wj(w f:World)(sb so:Nat)(a:Option Addr)(n cap:Nat)(l:List Rg)(q:List Rg->Prop):Prop:=
 ∃c d e b,wg w f sb so (.slice c d e)/\ba f c d e b/\((c=a/\d=n/\e=cap/\b=l)\/cS f w.heap.size (.slice c d e) b)/\aZ b/\q b
theorem wj.to{q:List Rg->Prop}(h:wj w W k i a n j Y q):sy w W k i a n j Y q:=by
 obtain⟨b,c,d,e,f,g,l,m⟩:=h;refine⟨b,c,d,e,f,g,l.imp id (λh y p=>?_),m⟩
 subst p;exact h.lt y.block rfl
theorem ze(w:World)(sb so:Nat)(cs:Array Value)(t:TypeId)(a:Option Addr)(n cap:Nat)(l:List Rg)(x:Rg)(N:w.heap[sb]?=some (.cells cs t (0,0)))(O:cs[so]?=some (.slice a n cap))(hs:ba w a n cap l)(du:∀y,a=some y->y.block≠sb)(r:aZ l)(P:x.ok)(hn:n<=1000000):
 Calls prog 215 #[.pointer (some ⟨sb,so,none⟩),.agg #[.int .u64 x.lo,.int .u64 x.hi]] w λe C=>e=.returned (.tuple #[])/\wj w C sb so a n cap l (λl'=>l'.length<=l.length+1/\∀m,Sm l' m↔Sm l m\/(x.lo<=m/\m<x.hi)):=by
 obtain⟨c,d⟩:=x;have Q:w.cell? ⟨sb,so,none⟩=some (.slice a n cap):=by simp[World.cell?,N,O]
 by_cases he:d<=c
 ·have hd:decide (d<=c)=true:=bp he;go_enter func215,ntmps215;go_wp2_with fail;refine(uj ⟨c,d⟩ _).mono ?_;rintro e f⟨rfl,R⟩;have S:decide ((⟨c,d⟩:Rg).hi<=(⟨c,d⟩:Rg).lo)=true:=hd;rw[S];have A:w.grownBy f none:=aj (aC _ _ _) R;replace hs:=J hs;replace r:=J r;go_wp2_with fail;refine cz (dj rfl _ _ _) rfl ⟨rfl,a,n,cap,l,⟨cO A _,λbP t' h=>?_⟩,(Z hs).ah A,.inl ⟨rfl,rfl,rfl,rfl⟩,Z r,by omega,λm=>⟨λh=>.inl h,λh=>h.elim id (λh=>by omega)⟩⟩;rw[bf h A];obtain⟨rfl,rfl⟩:bP=cs/\t'=t:=by rw[N]at h;cases h;exact⟨rfl,rfl⟩
  congr 2;obtain⟨h1,h2⟩:=aO.1 O;rw[Array.setIfInBounds,dif_pos h1,<-h2,Array.set_getElem_self]
 have hd:decide (d<=c)=false:=bB he;go_enter func215,ntmps215;go_wp2_with fail;refine(uj ⟨c,d⟩ _).mono ?_;rintro e f⟨rfl,R⟩;have S:decide ((⟨c,d⟩:Rg).hi<=(⟨c,d⟩:Rg).lo)=false:=hd;rw[S];have A:w.grownBy f none:=aj (aC _ _ _) R;have ch:=A.cell Q (by simp);have T:f.heap[w.heap.size]?=some (.cells #[.int .u64 c,.int .u64 d] 341 (0,0)):=(R.block w.heap.size (by simp) (by simp)).trans (aH _ _);have x0:f.cell? ⟨w.heap.size,0,none⟩=some (.int .u64 c):=by simp[World.cell?,T]
 have x1:f.cell? ⟨w.heap.size,1,none⟩=some (.int .u64 d):=by simp[World.cell?,T]
 have dx:=(aO.1 T).1;obtain⟨H,a0⟩:=exq (f.alloc (.cells #[.slice a n cap] 227));have I:f.grownBy H none:=by rw[a0];exact aC _ _ _
 have bS:H.heap[f.heap.size]?=some (.cells #[.slice a n cap] 227 (0,0)):=by rw[a0];exact aH _ _
 have K:oE H f.heap.size w.heap.size a n cap l ⟨c,d⟩:=⟨by simp[World.cell?,bS],I.cell x0 (by simp),I.cell x1 (by simp),hs.ah (aj A I),P⟩
 have B:n=l.length:=hs.2.1;have b0:=J (uh n 249 #[.pointer (some ⟨f.heap.size,0,none⟩),.pointer (some ⟨w.heap.size,0,none⟩)] H (λk=>c<=(au l k).hi) (by omega) (λi j D hj hp=>by
  obtain h|rfl:=qK D
  have:=r.lt h (by omega);have:=r.pos (i:=j) (by omega);show c<=_;omega
  ·exact hp) (λ_ _=>by kernel_rfl) (λW h g hh=>Eg W _ _ h n cap a l ⟨c,d⟩ (K.ah g) hh))
 have b3:=J (λW(gW:H.grownBy W none)=>uh n 250 #[.pointer (some ⟨f.heap.size,0,none⟩),.pointer (some ⟨w.heap.size,0,none⟩)] W (λk=>d<(au l k).lo) (by omega) (λi j D hj hp=>by
  obtain h|rfl:=qK D
  have:=r.lt h (by omega);have:=r.pos (i:=i) (by omega);show d<_;omega
  ·exact hp) (λ_ _=>by kernel_rfl) (λW' h g hh=>Eh W' _ _ h n cap a l ⟨c,d⟩ (K.ah (aj gW g)) hh))
 clear hd S;replace B:=J B;replace K:=J K;replace r:=J r;replace hs:=J hs;go_wp2_with fail;rw[<-a0];refine(Z b0).mono ?_;rintro e w3⟨⟨i,rfl,a8⟩,s⟩;have a9:=(Z K).ah s;have cj:=a9.1;clear b0;go_wp2_with fail;refine(Z b3 _ s).mono ?_;rintro e E⟨⟨j,rfl,bb⟩,U⟩;have b4:=a9.ah U;obtain⟨k1,k2,k3,k4,-⟩:=id b4;have b5:w.grownBy E none:=aj A (aj I (aj s U));have cv:=b5.cell Q (by simp);have cw:i<=n:=a8.1;have cx:j<=n:=bb.1;have V:lr l.length i (λk=>c<=(au l k).hi):=by rw[<-Z B];exact a8
 have X:lr l.length j (λk=>d<(au l k).lo):=by rw[<-Z B];exact bb
 have L:E.heap[w.heap.size]?=some (.cells #[.int .u64 c,.int .u64 d] 341 (0,0)):=bf T (aj I (aj s U));have bj:E.heap[f.heap.size]?=some (.cells #[.slice a n cap] 227 (0,0)):=bf bS (aj s U);have br:=J (D5 (Z r) (U:=⟨c,d⟩) (show c<d by omega) V X);have cy:i<=j:=D4 (Z r) (show c<d by omega) V X;have cR:Hid ((l.take i).length+((l.drop j).length+1)<=l.length+1):=J (by rw[cC,dO];have:=V.1;have:=X.1;omega);clear b3 a9 cj x0 x1 ch a8 bb V X cy;have dE:n<=cap:=(Z hs).2.2.1;have c9:=(Z hs).2.2.2.1;unfold maxLen at c9;obtain⟨y,F⟩:∃y:Rg,y=(if i<j then⟨min c (au l i).lo,max d (au l (j-1)).hi⟩else⟨c,d⟩):=⟨_,rfl⟩
 have b6:ue l ⟨c,d⟩ i j=l.take i++(y::l.drop j):=by rw[F];rfl
 rw[b6]at br;clear b6;replace F:=J F;go_upto_if 22 with fail;go_cut [] (λwx=>wx.heap[w.heap.size]?=some (.cells #[.int .u64 y.lo,.int .u64 y.hi] 341 (0,0))/\E.grownBy wx (some w.heap.size));case first=>
  by_cases D:i<j
  ·obtain⟨b,o,rfl⟩:∃b o,a=some ⟨b,o,none⟩:=by
    obtain⟨-,-,-,-,h0|⟨b,o,rfl,-⟩⟩:=Z hs;omega;exact⟨b,o,rfl⟩
   obtain⟨y0,-⟩:=k4.cell i (by have:=Z B;omega);obtain⟨-,y1⟩:=k4.cell (j-1) (by have:=Z B;omega);obtain⟨p,hp⟩:=exq ((au l i).lo);obtain⟨q,Y⟩:=exq ((au l (j-1)).hi);rw[<-hp]at y0;rw[<-Y]at y1;have bt:Hid (y=⟨min c p,max d q⟩):=J (by rw[Z F,aM D,<-hp,<-Y]);have d1:decide ((i:Int)<(j:Int))=true:=bp (by omega);have e1:(j:Int)-1=((j-1:Nat):Int):=by omega
   have e2:IntKind.i64.wrap ((j:Int)-1)=((j-1:Nat):Int):=by simp[IntKind.wrap,IntKind.bits,IntKind.signed];omega
   have i1:(i:Int)<(n:Int):=by omega
   have i2:((j-1:Nat):Int)<(n:Int):=by omega
   replace hp:=J hp;replace Y:=J Y;have f0:E.frozen? ⟨w.heap.size,0,none⟩=false:=by simp[World.frozen?,L]
   have f1:E.frozen? ⟨w.heap.size,1,none⟩=false:=by simp[World.frozen?,L]
   go_wp2_with fail;go_region;all_goals go_wp2_with fail
   all_goals go_meet
   all_goals
    refine⟨Eq.trans (heap_set (heap_set L _) _) ?_,aP (aD (aD (av _ _) _ _ (.inr rfl)) _ _ (.inr rfl))⟩
    rw[Z bt]
    simp
    omega
  have d1:decide ((i:Int)<(j:Int))=false:=bB (by omega);have bt:y=⟨c,d⟩:=by rw[Z F,ay D]
  go_wp2_with fail;go_meet;rw[bt];exact⟨L,av _ _⟩
 case rest=>
  obtain⟨b7,gc⟩:=hcut;have bx:w.grownBy wc none:=ot (cA (cO b5 (some w.heap.size)) gc (λj e=>.inr rfl)) (aI _);have bz:ba wc a n cap l:=(Z hs).ah bx;have b8:wc.heap[f.heap.size]?=some (.cells #[.slice a n cap] 227 (0,0)):=(gc.block _ (aO.1 bj).1 (by simp;omega)).trans bj;have c1:wc.cell? ⟨f.heap.size,0,none⟩=some (.slice a n cap):=by simp[World.cell?,b8]
  have c2:wc.cell? ⟨w.heap.size,0,none⟩=some (.int .u64 y.lo):=by simp[World.cell?,b7]
  have c3:wc.cell? ⟨w.heap.size,1,none⟩=some (.int .u64 y.hi):=by simp[World.cell?,b7]
  have c4:=bx.cell Q (by simp);have db:y.ok:=by
   rw[Z F];split;have a1:=P.1;have a2:=P.2;have a3:=(nB (Z hs).1 i).1;have a4:=(nB (Z hs).1 (j-1)).2;simp only[Rg.ok,aR]at a1 a2 a3 a4⊢;omega;exact P
  clear k1 k2 k3 k4 cv L bj b4;obtain⟨a2,al⟩:=exq ((if cap=j then a else a.map (·.add (j*2))));have dG:∀W,(Instr.slice 227 (.slice a n cap) none (some (.int .i64 (i:Int))) (some (.int .i64 (i:Int)))).run prog W=.ok (.slice a i i) W:=λW=>y9 a n cap i (by omega) W
  have ee:∀W,(Instr.slice 227 (.slice a n cap) (some (.int .i64 (j:Int))) none none).run prog W=.ok (.slice a2 (n-j) (cap-j)) W:=λW=>by rw[al];exact zb a n cap j (by omega) W
  have de:=J (bz.front i cw);have dg:=J (bz.back (O:=a2) j cx (by
   obtain⟨-,-,-,-,h0|⟨b,o,rfl,-⟩⟩:=bz;left;omega
   ·by_cases O:cap=j;left;omega
    ·right;rw[al,ay O];exact⟨b,o,rfl,by simp only[qN,Addr.add_mid]⟩))
  have dk:Hid ((l.take i++[y]).length+(l.drop j).length<=100000000):=J (by have:=Z B;simp;omega);have v:wc.grownBy (wc.alloc (.cells #[.int .u64 y.lo,.int .u64 y.hi] 341)).drew none:=aP (aC _ _ _);have eg:=(aO.1 N).1;have ei:f.heap.size<wc.heap.size:=(aO.1 b8).1;have ej:w.heap.size<wc.heap.size:=by omega
  have bL:wc.cell? ⟨f.heap.size,0,none⟩=some (.slice a n cap)/\wc.cell? ⟨w.heap.size,0,none⟩=some (.int .u64 y.lo)/\wc.cell? ⟨w.heap.size,1,none⟩=some (.int .u64 y.hi)/\wc.grownBy wc (some sb):=⟨c1,c2,c3,av _ _⟩
  have dn:=v8 bL (aP (av wc none));have ca:=v8 bL v;have bM:(wc.alloc (.cells #[.int .u64 y.lo,.int .u64 y.hi] 341)).drew.heap[wc.heap.size]?=some (.cells #[.int .u64 y.lo,.int .u64 y.hi] 341 (0,0)):=aH wc _;have q0:(wc.alloc (.cells #[.int .u64 y.lo,.int .u64 y.hi] 341)).drew.cell? ⟨wc.heap.size,0,none⟩=some (.int .u64 y.lo):=by simp only[World.cell?,bM];rfl
  have M:(wc.alloc (.cells #[.int .u64 y.lo,.int .u64 y.hi] 341)).drew.cell? ⟨wc.heap.size,0+1,none⟩=some (.int .u64 y.hi):=by simp only[World.cell?,bM];rfl
  replace al:=J al;clear bM bL;replace q0:=J q0;replace M:=J M;clear c1 c2 c3;go_wp2_with fail;go_region_held3 (λC=>C.cell? ⟨f.heap.size,0,none⟩=some (.slice a n cap)/\C.cell? ⟨w.heap.size,0,none⟩=some (.int .u64 y.lo)/\C.cell? ⟨w.heap.size,1,none⟩=some (.int .u64 y.hi)/\wc.grownBy C (some sb))
   (first|with_reducible exact ds|with_reducible exact cf|with_reducible exact cg|with_reducible exact ca|with_reducible exact dn)
   (first
     |(refine En (by rfl) _ _ (by rfl) _ i (l.take i) (by rfl) ((Z de).ah v) wc.heap.size 0 1 y db (by rfl) (Z q0) (Z M) (by omega) ?_;intro a3 n3 c3 w3 o3 s;have cg:=v8 ca s)
     |(refine Eo (by rfl) _ _ (by rfl) (wc.alloc (.cells #[.int .u64 y.lo,.int .u64 y.hi] 341)).drew.heap.size _ (l.take i++[y]) (by rfl) o3 _ _ _ (l.drop j) (by rfl) ((Z dg).ah (aj v s)) (Z dk) s.size ?_;intro a5 n5 c5 w5 o5 g5;have cf:=Et cg o3 v.size (by show f.heap.size<_;have:=v.size;omega) (by show w.heap.size<_;have:=v.size;omega) g5;have ax:w.grownBy w5 none:=(aj bx (zd (aj v s) o3 v.size g5));have ek:=ax.cell Q (by simp);have f5:w5.frozen? ⟨sb,so,none⟩=false:=(by simp[World.frozen?,bf N ax]);have ds:=Eu (k:=so) (u:=.slice a5 n5 c5) cf (by omega) (by omega)))
  refine dP (dj rfl _ _ _) rfl ⟨rfl,a5,n5,c5,l.take i++y::l.drop j,⟨aD (cO ax _) _ _ (.inr rfl),λbP t' h=>heap_set (bf h ax) _⟩,?_,.inr ?_,(Z br).1,by rw[bG,dJ];exact Z cR,(Z br).2⟩;have G:=o5.km.1;rw[eA,List.singleton_append]at G;refine G.aw (λz hz=>?_) so _;have:=o5.km.2 z hz;have:=v.size;omega;have h2:=v.size;have G:=o5.gb (aD (av w5 (some sb)) ⟨sb,so,none⟩ (.slice a5 n5 c5) (.inr rfl)) (.inr (λe=>by have:=(o5.lt _ e).1;omega));rw[eA,List.singleton_append]at G;refine⟨G.1,?_⟩
  obtain⟨e1,e2⟩:=G.2;refine⟨e1,?_⟩
  obtain e2|⟨g,cp,cur,M,q2,q3⟩:=e2
  exact .inl e2;exact .inr ⟨g,cp,cur,M,by omega,q3⟩
theorem wo(w:World)(sb so:Nat)(cs:Array Value)(t:TypeId)(a:Option Addr)(n cap:Nat)(l:List Rg)(x:Rg)(c:w.heap[sb]?=some (.cells cs t (0,0)))(d:cs[so]?=some (.slice a n cap))(hs:ba w a n cap l)(f:∀y,a=some y->y.block≠sb)(g:aZ l)(i:x.ok)(j:n<=1000000):
 Calls prog 215 #[.pointer (some ⟨sb,so,none⟩),.agg #[.int .u64 x.lo,.int .u64 x.hi]] w λe k=>e=.returned (.tuple #[])/\sy w k sb so a n cap l (λb=>b.length<=l.length+1/\∀m,Sm b m↔Sm l m\/(x.lo<=m/\m<x.hi)):=
 (ze w sb so cs t a n cap l x c d hs f g i j).mono (λ_ _ h=>⟨h.1,h.2.to⟩)
theorem Ev(w:World)(sb so:Nat)(cs:Array Value)(t:TypeId)(a:Option Addr)(n cap:Nat)(l:List Rg)(x:Rg)(c:w.heap[sb]?=some (.cells cs t (0,0)))(d:cs[so]?=some (.slice a n cap))(hs:ba w a n cap l)(f:∀y,a=some y->y.block≠sb)(g:aZ l)(i:x.ok)(j:n<=1000000):
 Calls prog 215 #[.pointer (some ⟨sb,so,none⟩),.agg #[.int .u64 x.lo,.int .u64 x.hi]] w λe k=>e=.returned (.tuple #[])/\oF w k sb so a (λb=>b.length<=l.length+1/\∀m,Sm b m↔Sm l m\/(x.lo<=m/\m<x.hi)):=
 (wo w sb so cs t a n cap l x c d hs f g i j).mono (λ_ _ h=>⟨h.1,h.2.set⟩)
theorem um(h:U.hi<=U.lo)(w:World):Calls prog 244 #[.agg #[.int .u64 U.lo,.int .u64 U.hi]] w λe a=>e=.returned (.bool true)/\w.grownBy a none:=
 (uj U w).mono λe a ⟨b,c⟩=>⟨by rw[b,bp h],c⟩
theorem uo(h:¬U.hi<=U.lo)(w:World):Calls prog 244 #[.agg #[.int .u64 U.lo,.int .u64 U.hi]] w λe a=>e=.returned (.bool false)/\w.grownBy a none:=
 (uj U w).mono λe a ⟨b,c⟩=>⟨by rw[b,bB h],c⟩
theorem oF.same{q:List Rg->Prop}(b:w.heap[k]?=some (.cells c T (0,0)))(d:c[i]?=some (.slice a n j))(hs:ba w a n j Y)(e:aZ Y)(g:w.grownBy W none)(f:q Y):oF w W k i a q:=by
 refine⟨a,n,j,Y,⟨cO g _,λl m h=>?_⟩,hs.ah g,.inl rfl,e,f⟩
 rw[bf h g];obtain⟨rfl,rfl⟩:l=c/\m=T:=by rw[b]at h;cases h;exact⟨rfl,rfl⟩
 congr 2;obtain⟨p,r⟩:=aO.1 d;rw[Array.setIfInBounds,dif_pos p,<-r,Array.set_getElem_self]
theorem cS.mono(h:cS w n x Y)(e:k<=n):cS w k x Y:=by
 obtain⟨b,c,a⟩:=h;refine⟨b,c,?_⟩
 obtain a|⟨g,cap,cur,e1,e2,d⟩:=a
 exact .inl a;exact .inr ⟨g,cap,cur,e1,by omega,d⟩
theorem Kept.ah(h:Kept w k a x Y)(g:w.grownBy W none):Kept W k a x Y:=by
 obtain⟨n,rfl,h⟩|h:=h
 exact .inl ⟨n,rfl,h.ah g⟩;exact .inr (h.ah g)
theorem zh{rest:List Oper}(z:I.guard=none)(s x:Operand)
 (ho:I.op=.call {callee:=.builtin .append,args:= #[s,x],argTypes:= #[227,227]})
 (w0:World) (q:Option Addr) (v:Value) (l:List Rg) (hs:f.eval s=v) (E:Kept w w0.heap.size q v l) (p:w0.grownBy w none) (b a c:Nat) (r:Rg) (A:r.ok) (B:f.eval x=.slice (some ⟨b,a,none⟩) 1 c) (h0:w.cell? ⟨b,a,none⟩=some (.int .u64 r.lo)) (C:w.cell? ⟨b,a+1,none⟩=some (.int .u64 r.hi)) (M:l.length<=2000000) (H:1<=c) (N:c<=10)
 (h:∀i k m d,Kept d w0.heap.size q (.slice i k m) (l++[r])->w0.grownBy d none->wpList prog F G rest (f.put I.dst (.slice i k m)) d):wpList prog F G (I::rest) f w:=by
 obtain⟨n,rfl,hl⟩|D:=E
 have O:n=l.length:=hl.2.1;exact Ep z s x ho q n l hs hl b a c r A B h0 C (by omega) (λi k m d t g=>h i k m d (.inr (t.mono p.size)) (aj p g));have K:ba w (some ⟨b,a,none⟩) 1 c [r]:=by
  refine⟨λy L=>by rw[dB.1 L];exact A,rfl,H,by simp only[maxLen];omega,.inr ⟨b,a,rfl,λj u e=>?_⟩⟩
  match j,e with
  |0,e=>simp[bY]at e;rw[<-e];exact h0
  |1,e=>simp[bY]at e;rw[<-e];exact C
 exact Er z s x ho w0.heap.size v l hs D (some ⟨b,a,none⟩) 1 c [r] B K (by simp;omega) p.size (λi k m d t g=>h i k m d (.inr t) (zd p D (aI _) g))
theorem Ew(p r s q:Value)(W:World):(Instr.index 410 (.agg #[p,r,s,q]) (.int .i64 0)).run prog W=.ok (.agg #[p,r]) W:=by kernel_rfl
theorem Ex(p r s q:Value)(W:World):(Instr.index 410 (.agg #[p,r,s,q]) (.int .i64 1)).run prog W=.ok (.agg #[s,q]) W:=by kernel_rfl
theorem Ey{rest:List Oper}(n:I.guard=none)(s x:Operand)
 (ho:I.op=.call {callee:=.builtin .append,args:= #[s,x],argTypes:= #[227,227]})
 (b:Nat) (g:Option Addr) (v:Value) (l:List Rg) (hs:f.eval s=v) (p:Kept w b g v l) (i:Option Addr) (nx j:Nat) (m:List Rg) (q:f.eval x=.slice i nx j) (t:ba w i nx j m) (u:l.length+m.length<=100000000) (z:b<=w.heap.size)
 (h:∀a d e c,ba c a d e (l++m)->(a=g\/∀y,a=some y->b<=y.block)->(∃r,w.grownBy c r/\∀k,r=some k->b<=k)->wpList prog F G rest (f.put I.dst (.slice a d e)) c):wpList prog F G (I::rest) f w:=
 qk n λ_ A=>by
  obtain⟨a,d,e,c,B,C,D,E⟩:=Es (w:=w) I.type b g v l p i nx j m t u z;unfold Oper.wp execOp;simp only[ho,resolve,invoke,builtin,ie,kN,ic,lN,ki,kO,hs,q,B]
  exact A _ _ (h a d e c C D E)
def gO(p a b q:Int):Nat->List Rg
 |0=>[]
 |1=>if p<a then[⟨p,a⟩]else[]
 |_=>(if p<a then[⟨p,a⟩]else[])++(if b<q then[⟨b,q⟩]else[])
theorem uq(p a b q:Int)(c:Nat):(gO p a b q c).length<=2:=by
 unfold gO;split;simp;split<;>simp;split<;>split<;>simp
theorem zi(w:World)(sb so:Nat)(cs:Array Value)(t:TypeId)(a:Option Addr)(n cap:Nat)(l:List Rg)(x:Rg)(S:w.heap[sb]?=some (.cells cs t (0,0)))(T:cs[so]?=some (.slice a n cap))(hs:ba w a n cap l)(bb:l≠[]->∀y,a=some y->y.block≠sb)(C:aZ l)(hx:x.ok)(hn:n<=1000000):
 Calls prog 281 #[.pointer (some ⟨sb,so,none⟩),.agg #[.int .u64 x.lo,.int .u64 x.hi]] w λe w'=>e=.returned (.tuple #[])/\oF w w' sb so a (λl'=>l'.length<=l.length+1/\∀m,Sm l' m↔Sm l m/\¬(x.lo<=m/\m<x.hi)):=by
 obtain⟨d,f⟩:=x;have b6:w.cell? ⟨sb,so,none⟩=some (.slice a n cap):=by simp[World.cell?,S,T]
 obtain⟨D,U⟩:=exq (w.alloc (.cells #[.int .u64 d,.int .u64 f] 341));have bP:w.grownBy D none:=by rw[U];exact aC _ _ _
 have bS:D.heap[w.heap.size]?=some (.cells #[.int .u64 d,.int .u64 f] 341 (0,0)):=by rw[U];exact aH _ _
 have b7:D.heap.size=w.heap.size+1:=by rw[U];simp
 have x0:D.cell? ⟨w.heap.size,0,none⟩=some (.int .u64 d):=by simp[World.cell?,bS]
 have x1:D.cell? ⟨w.heap.size,1,none⟩=some (.int .u64 f):=by simp[World.cell?,bS]
 obtain⟨V,ax⟩:=exq (D.alloc (.cells #[.slice a n cap] 227));have g2:D.grownBy V none:=by rw[ax];exact aC _ _ _
 have b0:V.heap[D.heap.size]?=some (.cells #[.slice a n cap] 227 (0,0)):=by rw[ax];exact aH _ _
 have Q:oE V D.heap.size w.heap.size a n cap l ⟨d,f⟩:=⟨by simp[World.cell?,b0],g2.cell x0 (by simp),g2.cell x1 (by simp),hs.ah (aj bP g2),hx⟩
 rw[b7]at Q b0;have F:n=l.length:=hs.2.1;have b3:=J (uh n 297 #[.pointer (some ⟨w.heap.size+1,0,none⟩),.pointer (some ⟨w.heap.size,0,none⟩)] V (λk=>d<(au l k).hi) (by omega) (λi j X hj hp=>by
  obtain h|rfl:=qK X
  have:=C.lt h (by omega);have:=C.pos (i:=j) (by omega);show d<_;omega
  ·exact hp) (λ_ _=>by kernel_rfl) (λW h g hh=>Ei W _ _ h n cap a l ⟨d,f⟩ (Q.ah g) hh))
 have b4:=J (λW(gW:V.grownBy W none)=>uh n 298 #[.pointer (some ⟨w.heap.size+1,0,none⟩),.pointer (some ⟨w.heap.size,0,none⟩)] W (λk=>f<=(au l k).lo) (by omega) (λi j X hj hp=>by
  obtain h|rfl:=qK X
  have:=C.lt h (by omega);have:=C.pos (i:=i) (by omega);show f<=_;omega
  ·exact hp) (λ_ _=>by kernel_rfl) (λW' h g hh=>Ej W' _ _ h n cap a l ⟨d,f⟩ (Q.ah (aj gW g)) hh))
 have dg:sb<w.heap.size:=(aO.1 S).1;replace F:=J F;replace Q:=J Q;replace C:=J C;replace hs:=J hs;rw[U]at ax;clear U x0 x1;go_enter func281,ntmps281;go_wp2_with fail;rw[<-ax];refine(Z b3).mono ?_;rintro e w3⟨⟨i,rfl,bj⟩,g3⟩;have br:=(Z Q).ah g3;have b8:=br.1;clear b3;go_wp2_with fail;refine(Z b4 _ g3).mono ?_;rintro e w4⟨⟨j,rfl,bt⟩,g4⟩;have R:=br.ah g4;obtain⟨k1,k2,k3,k4,-⟩:=id R;have bx:w.grownBy w4 none:=aj bP (aj g2 (aj g3 g4));have ca:i<=n:=bj.1;have cf:j<=n:=bt.1;have a0:lr l.length i (λk=>d<(au l k).hi):=by rw[<-Z F];exact bj
 have a1:lr l.length j (λk=>f<=(au l k).lo):=by rw[<-Z F];exact bt
 have dk:n<=cap:=(Z hs).2.2.1;have cg:=(Z hs).2.2.2.1;unfold maxLen at cg;clear b4 br b8;by_cases he:f<=d
 ·have hE:=J (λW=>um (U:=⟨d,f⟩) he W);go_wp2_with fail;refine(Z hE _).mono ?_;rintro e I⟨rfl,G⟩;go_wp2_with fail;exact cz (dj rfl _ _ _) rfl ⟨rfl,oF.same S T (Z hs) (Z C) (aj bx G) ⟨by omega,λm=>⟨λh=>⟨h,by omega⟩,λh=>h.1⟩⟩⟩
 have hE:=J (λW=>uo (U:=⟨d,f⟩) he W);by_cases X:i<j
 ·replace bb:=bb (λe=>by have:=Z F;rw[e]at this;simp at this;omega);have ch:decide ((j:Int)<=(i:Int))=false:=bB (by omega);have dn:decide (j<=i)=false:=bB (by omega);have hcut:=J (D8 (Z C) (U:=⟨d,f⟩) (show d<f by omega) X a0 a1);have cj:Hid ((l.take i).length+(l.drop j).length+1<=l.length):=J (by rw[cC,dO];have:=a0.1;have:=a1.1;omega);clear bj bt a0 a1;obtain⟨b,o,rfl⟩:∃b o,a=some ⟨b,o,none⟩:=by
   obtain⟨-,-,-,-,h0|⟨b,o,rfl,-⟩⟩:=Z hs;omega;exact⟨b,o,rfl⟩
  go_wp2_with fail;refine(Z hE _).mono ?_;rintro e I⟨rfl,G⟩;have a3:=aj bx G;obtain⟨k1,k2,k3,k4,-⟩:=R.ah G;obtain⟨y0,-⟩:=k4.cell i (by have:=Z F;omega);obtain⟨-,y1⟩:=k4.cell (j-1) (by have:=Z F;omega);have Y:=nB (Z hs).1 i;have o1:=nB (Z hs).1 (j-1);unfold uf at hcut;obtain⟨p,hp⟩:=exq ((au l i).lo);obtain⟨q,hq⟩:=exq ((au l (j-1)).hi);rw[<-hp]at y0 hcut;rw[<-hq]at y1 hcut;replace Y:aR p:=by rw[hp];exact Y.1
  replace o1:aR q:=by rw[hq];exact o1.2
  clear hp hq;have e1:(j:Int)-1=((j-1:Nat):Int):=by omega
  have e2:IntKind.i64.wrap ((j:Int)-1)=((j-1:Nat):Int):=by simp[IntKind.wrap,IntKind.bits,IntKind.signed];omega
  have i1:(i:Int)<(n:Int):=by omega
  have i2:((j-1:Nat):Int)<(n:Int):=by omega
  have ds:∀W,(Instr.slice 227 (.slice (some ⟨b,o,none⟩) n cap) none (some (.int .i64 (i:Int))) (some (.int .i64 (i:Int)))).run prog W=.ok (.slice (some ⟨b,o,none⟩) i i) W:=λW=>y9 _ n cap i (by omega) W
  replace Y:=J Y;replace o1:=J o1;go_wp2_with fail;go_quiet (fail);go_wp2_with fail;have cp:=(R.ah G).2.2.2.1.front i ca;have du:l.length<=1000000:=by have:=Z F;omega
  replace R:=J R;clear k1 k2 k3 k4 y0 y1;go_loopw [7,50] (λv cv wr=>∃c:Nat,c<=2/\cv=.int .i64 (c:Int)/\Kept wr I.heap.size (some ⟨b,o,none⟩) v (l.take i++gO p d f q c)/\I.grownBy wr none) (λ_ cv _=>2-(intOf cv).toNat);case atStart=>exact⟨0,by omega,rfl,.inl ⟨i,rfl,by rw[show gO p d f q 0=[]from rfl,nw];exact cp.ah (dh (av _ _) _)⟩,dh (av _ _) _⟩
  case round=>
   obtain⟨c,cw,rfl,A,K⟩:=hrel;have cx:=Ew (.int .u64 p) (.int .u64 d) (.int .u64 f) (.int .u64 q);have cy:=Ex (.int .u64 p) (.int .u64 d) (.int .u64 f) (.int .u64 q);match c,cw with
   |0,_=>
    by_cases hp:p<d
    ·have L:=J (λW=>uo (U:=⟨p,d⟩) (show¬d<=p by omega) W);have u:gO p d f q 1=gO p d f q 0++[⟨p,d⟩]:=by simp[gO,hp]
     replace u:=J u;go_wp2_with fail;refine(Z L _).mono ?_;rintro e s⟨rfl,E⟩;have B:wr.grownBy s none:=aj (aC _ _ _) E;have M:s.heap[wr.heap.size]?=some (.cells #[.int .u64 p,.int .u64 d] 341 (0,0)):=(E.block wr.heap.size (by simp) (by simp)).trans (aH _ _);have r0:s.cell? ⟨wr.heap.size,0,none⟩=some (.int .u64 p):=by simp[World.cell?,M]
     have r1:s.cell? ⟨wr.heap.size,1,none⟩=some (.int .u64 d):=by simp[World.cell?,M]
     have N:=aC s (.cells #[.int .u64 p,.int .u64 d] 341) none;have bz:=J (A.ah (aj B N));have bL:=J (aj K (aj B N));have O:(s.alloc (.cells #[.int .u64 p,.int .u64 d] 341)).heap[s.heap.size]?=some (.cells #[.int .u64 p,.int .u64 d] 341 (0,0)):=aH s _;have s0:Hid ((s.alloc (.cells #[.int .u64 p,.int .u64 d] 341)).cell? ⟨s.heap.size,0,none⟩=some (.int .u64 p)):=J (by simp only[World.cell?,O];rfl);have s1:Hid ((s.alloc (.cells #[.int .u64 p,.int .u64 d] 341)).cell? ⟨s.heap.size,0+1,none⟩=some (.int .u64 d)):=J (by simp only[World.cell?,O];rfl);have bM:Hid ((⟨p,d⟩:Rg).ok):=J ⟨Z Y,hx.1⟩;have al:Hid ((l.take i++gO p d f q 0).length<=2000000):=J (by have:=uq p d f q 0;simp;omega);clear M N O;go_wp2_with (at_builtin;refine zh (by rfl) _ _ (by rfl) I (some ⟨b,o,none⟩) _ (l.take i++gO p d f q 0) (by rfl) (Z bz) (Z bL) s.heap.size 0 1 ⟨p,d⟩ (Z bM) (by rfl) (Z s0) (Z s1) (Z al) (by decide) (by decide) ?_;intro a7 n7 c7 w7 P H);go_roundw;case rel=>exact⟨1,by omega,rfl,by rw[Z u,<-eA];exact P,H⟩
     case measure=>simp[intOf]
    have L:=J (λW=>um (U:=⟨p,d⟩) (show d<=p by omega) W);have u:gO p d f q 1=gO p d f q 0:=by simp[gO,hp]
    replace u:=J u;replace A:=J A;go_wp2_with fail;refine(Z L _).mono ?_;rintro e s⟨rfl,E⟩;have B:wr.grownBy s none:=aj (aC _ _ _) E;go_wp2_with fail;go_roundw;case rel=>exact⟨1,by omega,rfl,by rw[Z u];exact(Z A).ah B,aj K B⟩
    case measure=>simp[intOf]
   |1,_=>
    by_cases hp:f<q
    ·have L:=J (λW=>uo (U:=⟨f,q⟩) (show¬q<=f by omega) W);have u:gO p d f q 2=gO p d f q 1++[⟨f,q⟩]:=by simp[gO,hp]
     replace u:=J u;go_wp2_with fail;refine(Z L _).mono ?_;rintro e s⟨rfl,E⟩;have B:wr.grownBy s none:=aj (aC _ _ _) E;have M:s.heap[wr.heap.size]?=some (.cells #[.int .u64 f,.int .u64 q] 341 (0,0)):=(E.block wr.heap.size (by simp) (by simp)).trans (aH _ _);have r0:s.cell? ⟨wr.heap.size,0,none⟩=some (.int .u64 f):=by simp[World.cell?,M]
     have r1:s.cell? ⟨wr.heap.size,1,none⟩=some (.int .u64 q):=by simp[World.cell?,M]
     have N:=aC s (.cells #[.int .u64 f,.int .u64 q] 341) none;have bz:=J (A.ah (aj B N));have bL:=J (aj K (aj B N));have O:(s.alloc (.cells #[.int .u64 f,.int .u64 q] 341)).heap[s.heap.size]?=some (.cells #[.int .u64 f,.int .u64 q] 341 (0,0)):=aH s _;have s0:Hid ((s.alloc (.cells #[.int .u64 f,.int .u64 q] 341)).cell? ⟨s.heap.size,0,none⟩=some (.int .u64 f)):=J (by simp only[World.cell?,O];rfl);have s1:Hid ((s.alloc (.cells #[.int .u64 f,.int .u64 q] 341)).cell? ⟨s.heap.size,0+1,none⟩=some (.int .u64 q)):=J (by simp only[World.cell?,O];rfl);have bM:Hid ((⟨f,q⟩:Rg).ok):=J ⟨hx.2,Z o1⟩;have al:Hid ((l.take i++gO p d f q 1).length<=2000000):=J (by have:=uq p d f q 1;simp;omega);clear M N O;go_wp2_with (at_builtin;refine zh (by rfl) _ _ (by rfl) I (some ⟨b,o,none⟩) _ (l.take i++gO p d f q 1) (by rfl) (Z bz) (Z bL) s.heap.size 0 1 ⟨f,q⟩ (Z bM) (by rfl) (Z s0) (Z s1) (Z al) (by decide) (by decide) ?_;intro a7 n7 c7 w7 P H);go_roundw;case rel=>exact⟨2,by omega,rfl,by rw[Z u,<-eA];exact P,H⟩
     case measure=>simp[intOf]
    have L:=J (λW=>um (U:=⟨f,q⟩) (show q<=f by omega) W);have u:gO p d f q 2=gO p d f q 1:=by simp[gO,hp]
    replace u:=J u;replace A:=J A;go_wp2_with fail;refine(Z L _).mono ?_;rintro e s⟨rfl,E⟩;have B:wr.grownBy s none:=aj (aC _ _ _) E;go_wp2_with fail;go_roundw;case rel=>exact⟨2,by omega,rfl,by rw[Z u];exact(Z A).ah B,aj K B⟩
    case measure=>simp[intOf]
   |2,_=>
    clear cx cy;have a4:=(Z R).ah (aj G K);have c1:=a4.1;obtain⟨a2,a8⟩:=exq ((if cap=j then some (⟨b,o,none⟩:Addr)else(some (⟨b,o,none⟩:Addr)).map (·.add (j*2))));have dx:∀W,(Instr.slice 227 (.slice (some ⟨b,o,none⟩) n cap) (some (.int .i64 (j:Int))) none none).run prog W=.ok (.slice a2 (n-j) (cap-j)) W:=λW=>by rw[a8];exact zb _ n cap j (by omega) W
    have cR:=J (a4.2.2.2.1.back (O:=a2) j cf (by
     by_cases T:cap=j;left;omega
     ·right;rw[a8,ay T];exact⟨b,o,rfl,by simp only[qN,Addr.add_mid]⟩))
    have al:Hid ((l.take i++gO p d f q 2).length+(l.drop j).length<=100000000):=J (by have:=uq p d f q 2;simp;omega);have c9:=aj a3 K;have db:=K.size;replace a8:=J a8;replace A:=J A;replace a4:=J a4;have b5:Hid (l.take i++gO p d f q 2++l.drop j=l.take i++((if p<d then[⟨p,d⟩]else[])++((if f<q then[⟨f,q⟩]else[])++l.drop j))):=J (by simp[gO]);go_wp2_with (at_builtin;refine Ey (by rfl) _ _ (by rfl) I.heap.size (some ⟨b,o,none⟩) _ (l.take i++gO p d f q 2) (by rfl) (Z A) _ _ _ (l.drop j) (by rfl) (Z cR) (Z al) db ?_;intro a7 n7 c7 w7 P f7 H;have a9:w.grownBy w7 none:=(by obtain⟨r7,H,h7⟩:=H;exact cA c9 H (λk e=>.inl (bC a3.size (h7 k e))));clear H;replace P:=J P;replace f7:=J f7;have dE:=a9.cell b6 (by simp);have dG:w7.frozen? ⟨sb,so,none⟩=false:=(by simp[World.frozen?,bf S a9]));refine dP (dj rfl _ _ _) rfl ⟨rfl,a7,n7,c7,_,⟨aD (cO a9 _) _ _ (.inr rfl),λee t' h=>heap_set (bf h a9) _⟩,?_,?_,(Z hcut).1,?_,(Z hcut).2⟩;have h5:=Z P;rw[Z b5]at h5;refine h5.aw (λz hz=>?_) so _;obtain rfl|hf:=Z f7
    exact bb z hz;have:=hf z hz;have:=a3.size;omega;obtain rfl|hf:=Z f7
    exact .inl rfl;exact .inr (λz hz=>bC a3.size (hf z hz));rw[<-Z b5,bG,bG];have:=uq p d f q 2;have:=Z cj;omega
 have ch:decide ((j:Int)<=(i:Int))=true:=bp (by omega);go_wp2_with fail;refine(Z hE _).mono ?_;rintro e I⟨rfl,G⟩;go_wp2_with fail;refine cz (dj rfl _ _ _) rfl ⟨rfl,oF.same S T (Z hs) (Z C) (aj bx G) ⟨by omega,λm=>⟨λh=>⟨h,?_⟩,λh=>h.1⟩⟩⟩;obtain⟨r,hr,h1,h2⟩:=h;obtain⟨k,hk,rfl⟩:=lL.1 hr;have er:au l k=l[k]:=by simp[au,List.getD,hk]
 by_cases de:k<i;have:¬d<(au l k).hi:=a0.2.1 k de;rw[er]at this;omega;have:f<=(au l k).lo:=a1.2.2 k (by omega) hk;rw[er]at this;omega
theorem Ez(a:Option Addr)(n cap f:Nat)(lb:Array Value)(l:List Rg)(w:World)(p:Nat->Prop)(hs:ba w a n cap l)
 (L:∀args w,(callFunc f args).run prog w=.ok (.enter f args) w)
 (s:∀(W:World)(h:Nat),w.grownBy W none->h<n->Calls prog f (#[.agg #[.int .u64 (au l h).lo,.int .u64 (au l h).hi]]++lb) W (λe F=>dw (p h) e/\W.grownBy F none)):
 Calls prog 286 #[.slice a n cap,.func (.func f) #[] lb] w λe d=>(∃k:Int,e=.returned (.int .i64 k)/\((0<=k/\k<n)↔∃i,i<n/\p i)/\(k= -1\/0<=k/\k<n))/\w.grownBy d none:=by
 obtain⟨R,m⟩:∃R:Ending->Prop,R=λe=>∃k:Int,e=.returned (.int .i64 k)/\((0<=k/\k<n)↔∃i,i<n/\p i)/\(k= -1\/0<=k/\k<n):=⟨_,rfl⟩
 have u:∀k:Nat,k<n->p k->R (.returned (.int .i64 (k:Int))):=λk c v=>by rw[m];exact⟨k,rfl,⟨λ_=>⟨k,c,v⟩,λ_=>by omega⟩,.inr (by omega)⟩
 have x:(∀i,i<n->¬p i)->R (.returned (.int .i64 (-1))):=λh=>by rw[m];exact⟨-1,rfl,⟨λh=>by omega,λ⟨i,c,v⟩=>absurd v (h i c)⟩,.inl rfl⟩
 have A:(λe d=>(∃k:Int,e=.returned (.int .i64 k)/\((0<=k/\k<n)↔∃i,i<n/\p i)/\(k= -1\/0<=k/\k<n))/\w.grownBy d none)=λe d=>R e/\w.grownBy d none:=by rw[m]
 rw[A];clear A m;have y:=hs.2.1;have M:=hs.2.2.1;have G:=hs.2.2.2.1;unfold maxLen at G;replace y:=J y;replace u:=J u;replace x:=J x;replace s:=J s;go_enter func286,ntmps286;go_wp2_with fail;go_loopw [8] (λz wr=>∃j:Nat,j<=n/\z=.int .i64 (j:Int)/\(∀i,i<j->¬p i)/\w.grownBy wr none) (λz _=>n-(intOf z).toNat);case atStart=>exact⟨0,by omega,rfl,λi hi=>by omega,av _ _⟩
 case round=>
  obtain⟨j,N,rfl,q,g⟩:=hrel;replace q:=J q;by_cases B:j<n
  ·have d1:decide ((j:Int)<(n:Int))=true:=bp (by omega);have c:=hs.ah g;obtain⟨-,-,-,-,h0|⟨b,o,rfl,-⟩⟩:=id c;omega;obtain⟨c1,c2⟩:=c.cell j (by have:=Z y;omega);have hF:=Z s wr j g B;obtain⟨lo,C⟩:=exq ((au l j).lo);obtain⟨hi,D⟩:=exq ((au l j).hi);rw[<-C]at c1 hF;rw[<-D]at c2 hF;replace hF:=J hF;clear C D;have O:(j:Int)<(n:Int):=by omega
   go_wp2_with fail;refine(Z hF).mono ?_;rintro e P⟨⟨t,rfl,r⟩,E⟩;cases t
   ·have H:Hid (¬p j):=J (λhp=>by cases r.2 hp);clear r;go_wp2_with fail;go_roundw;case rel=>
     refine⟨j+1,by omega,by simp,λi I=>?_,aj g E⟩
     obtain h|rfl:=pq.1 I
     exact Z q i h;exact Z H
    case measure=>simp[intOf];omega
   have K:Hid (p j):=J (r.1 rfl);clear r;go_wp2_with fail;go_ret;exact⟨Z u j B (Z K),aj g E⟩
  have d1:decide ((j:Int)<(n:Int))=false:=bB (by omega);go_wp2_with fail;go_ret;exact⟨Z x (λi hi=>Z q i (by omega)),g⟩
theorem EA(W:World)(d:Nat)(y x:Rg)(h0:W.cell? ⟨d,0,none⟩=some (.int .u64 x.lo))(l:W.cell? ⟨d,1,none⟩=some (.int .u64 x.hi)):
 Calls prog 246 #[.agg #[.int .u64 y.lo,.int .u64 y.hi],.pointer (some ⟨d,0,none⟩)] W λe k=>dw (y.lo<=x.lo/\x.hi<=y.hi) e/\W.grownBy k none:=by
 obtain⟨a,f⟩:=y;obtain⟨b,g⟩:=x;have m:d<W.heap.size:=dN W _ h0;obtain⟨R,c⟩:∃R:Prop,R=(a<=b/\g<=f):=⟨_,rfl⟩
 have j:((⟨a,f⟩:Rg).lo<=(⟨b,g⟩:Rg).lo/\(⟨b,g⟩:Rg).hi<=(⟨a,f⟩:Rg).hi)=R:=c.symm;rw[j];clear j;replace c:=J c;go_enter func246,ntmps246;by_cases i:a<=b
 ·have d1:decide (a<=b)=true:=bp i;go_wp2_with fail;go_ret;exact⟨mO (by rw[Z c];exact⟨λh=>⟨i,h⟩,λh=>h.2⟩),aC _ _ _⟩
 have d1:decide (a<=b)=false:=bB i;go_wp2_with fail;go_ret;exact⟨lu (by rw[Z c];exact λh=>by have:=h.1;omega),aC _ _ _⟩
theorem EC(a:Option Addr)(n cap b:Nat)(lb:Array Value)(l:List Rg)(w:World)(p:Nat->Prop)(hs:ba w a n cap l)
 (j:∀args w,(callFunc b args).run prog w=.ok (.enter b args) w)
 (f:∀(W:World)(h:Nat),w.grownBy W none->h<n->Calls prog b (#[.agg #[.int .u64 (au l h).lo,.int .u64 (au l h).hi]]++lb) W (λe m=>dw (p h) e/\W.grownBy m none)):
 Calls prog 245 #[.slice a n cap,.func (.func b) #[] lb] w λe q=>dw (∃i,i<n/\p i) e/\w.grownBy q none:=by
 have r:=J (Ez a n cap b lb l w p hs j f);obtain⟨R,c⟩:∃R:Prop,R=(∃i,i<n/\p i):=⟨_,rfl⟩
 rw[<-c];replace c:=J c;clear f hs;go_enter func245,ntmps245;go_wp2_with fail;refine(Z r).mono ?_;rintro e u⟨⟨k,rfl,g,s⟩,t⟩;have d:R↔0<=k:=by rw[Z c,<-g];omega
 replace d:=J d;clear g s;go_wp2_with fail;go_ret;exact⟨mO (Z d).symm,t⟩
theorem zj(a:Option Addr)(n cap:Nat)(l:List Rg)(x:Rg)(w:World)(hs:ba w a n cap l):
 Calls prog 211 #[.slice a n cap,.agg #[.int .u64 x.lo,.int .u64 x.hi]] w λe y=>dw (x.hi<=x.lo\/∃r∈l,r.lo<=x.lo/\x.hi<=r.hi) e/\w.grownBy y none:=by
 obtain⟨R,f⟩:∃R:Prop,R=(x.hi<=x.lo\/∃r∈l,r.lo<=x.lo/\x.hi<=r.hi):=⟨_,rfl⟩
 rw[<-f];have j:(∃i,i<n/\((au l i).lo<=x.lo/\x.hi<=(au l i).hi))↔∃r∈l,r.lo<=x.lo/\x.hi<=r.hi:=by
  rw[hs.2.1];constructor;rintro⟨i,hi,h⟩;exact⟨_,mm hi,h⟩
  rintro⟨r,z,h⟩;obtain⟨i,hi,rfl⟩:=lL.1 z;exact⟨i,hi,by simpa [au,List.getD,hi]using h⟩
 replace f:=J f;replace j:=J j;obtain⟨b,c⟩:=x;have k:w.grownBy (w.alloc (.cells #[.int .u64 b,.int .u64 c] 341)) none:=aC _ _ _;have m:(w.alloc (.cells #[.int .u64 b,.int .u64 c] 341)).heap[w.heap.size]?=some (.cells #[.int .u64 b,.int .u64 c] 341 (0,0)):=aH _ _;have A:Hid ((w.alloc (.cells #[.int .u64 b,.int .u64 c] 341)).cell? ⟨w.heap.size,0,none⟩=some (.int .u64 b)):=J (by simp only[World.cell?,m];rfl);have B:Hid ((w.alloc (.cells #[.int .u64 b,.int .u64 c] 341)).cell? ⟨w.heap.size,1,none⟩=some (.int .u64 c)):=J (by simp only[World.cell?,m];rfl);replace hs:=J hs;clear m;by_cases p:c<=b
 ·have q:=J (λW=>um (U:=⟨b,c⟩) p W);go_enter func211,ntmps211;go_wp2_with fail;refine(Z q _).mono ?_;rintro e u⟨rfl,d⟩;go_wp2_with fail;go_ret;exact⟨qU (by rw[Z f];exact .inl p),aj k d⟩
 have q:=J (λW=>uo (U:=⟨b,c⟩) p W);go_enter func211,ntmps211;go_wp2_with fail;refine(Z q _).mono ?_;rintro e u⟨rfl,d⟩;have C:=J (EC a n cap 246 #[.pointer (some ⟨w.heap.size,0,none⟩)] l u (λi=>(au l i).lo<=b/\c<=(au l i).hi) ((Z hs).ah (aj k d)) (λ_ _=>by kernel_rfl) (λW h g _=>EA W w.heap.size (au l h) ⟨b,c⟩ ((aj d g).cell (Z A) (by simp)) ((aj d g).cell (Z B) (by simp))));go_wp2_with fail;refine(Z C).mono ?_;rintro e E⟨⟨t,rfl,v⟩,D⟩;have s:t=true↔R:=by
  rw[v,Z f,Z j];constructor;exact .inr;rintro(h|h);omega;exact h
 replace s:=J s;clear v;go_wp2_with fail;go_ret;exact⟨⟨t,rfl,Z s⟩,aj k (aj d D)⟩
structure Hd where
 fr:Int
 bytes:List Int
 ag:List Rg
def Hd.nice(h:Hd):Prop:=0<=h.fr/\h.fr+h.bytes.length<=4611686018427387903/\aZ h.ag/\h.bytes.length<=1000000/\h.ag.length<=100000
def gE(w:World)(sb ho:Nat)(ab:Option Addr)(nb cb:Nat)(ac:Option Addr)(nc cc:Nat)(h:Hd):Prop:=
 w.cell? ⟨sb,ho,none⟩=some (.int .u64 h.fr)/\w.cell? ⟨sb,ho+1,none⟩=some (.slice ab nb cb)/\w.cell? ⟨sb,ho+2,none⟩=some (.slice ac nc cc)/\bh w ab nb cb h.bytes/\ba w ac nc cc h.ag/\h.nice
theorem gE.ah{ac:Option Addr}{h:Hd}(H:gE w n k a i j ac l m h)(g:w.grownBy W none):gE W n k a i j ac l m h:=
 ⟨g.cell H.1 (by simp),g.cell H.2.1 (by simp),g.cell H.2.2.1 (by simp),H.2.2.2.1.ah g,H.2.2.2.2.1.ah g,H.2.2.2.2.2⟩
theorem zk(w:World)(sb ho:Nat)(ab:Option Addr)(nb cb:Nat)(ac:Option Addr)(nc cc:Nat)(h:Hd)(H:gE w sb ho ab nb cb ac nc cc h):
 Calls prog 196 #[.pointer (some ⟨sb,ho,none⟩)] w λe c=>e=.returned (.int .u64 (h.fr+h.bytes.length))/\w.grownBy c none:=by
 obtain⟨c0,c1,c2,a,-,⟨f,d,-,k3,-⟩⟩:=H;obtain⟨fr,bytes,ag⟩:=h;simp only at *;have b:nb=bytes.length:=a.2.1;rw[<-b]at d k3⊢;clear b a;have g:IntKind.u64.wrap (fr+(nb:Int))=fr+(nb:Int):=by rw[eH];omega
 go_enter func196,ntmps196;go_wp2_with fail;first
  |go_quiet (fail)
  |skip
 go_wp2_with fail;go_ret;exact⟨rfl,by repeat(first|exact av _ _|apply dh|apply aP|apply aS)⟩
def dK(h:Hd):Int:=if h.ag.length=0\/0<(au h.ag 0).lo then 0 else(au h.ag 0).hi-h.fr
theorem zl(w:World)(sb ho:Nat)(ab:Option Addr)(nb cb:Nat)(ac:Option Addr)(nc cc:Nat)(h:Hd)(H:gE w sb ho ab nb cb ac nc cc h)(c:0<=dK h/\dK h<=4611686018427387903):
 Calls prog 220 #[.pointer (some ⟨sb,ho,none⟩)] w λe j=>e=.returned (.int .i64 (dK h))/\w.grownBy j none:=by
 obtain⟨c0,c1,c2,-,a,⟨p,q,-,k3,-⟩⟩:=H;obtain⟨fr,bytes,ag⟩:=h;simp only at *;have d:nc=ag.length:=a.2.1;have r:=a.2.2.1;have k:=a.2.2.2.1;unfold maxLen at k;by_cases f:nc=0
 ·have g:dK ⟨fr,bytes,ag⟩=0:=by unfold dK;rw[aM];left;simp only;omega
  rw[g];subst f;clear g c d;go_enter func220,ntmps220;go_wp2_with fail;first
   |go_quiet (fail)
   |skip
  go_wp2_with fail;go_ret;exact⟨rfl,by repeat(first|exact av _ _|apply dh|apply aP|apply aS)⟩
 obtain⟨b,o,rfl⟩:∃b o,ac=some ⟨b,o,none⟩:=by
  obtain⟨-,-,-,-,h0|⟨b,o,rfl,-⟩⟩:=a;omega;exact⟨b,o,rfl⟩
 obtain⟨l,m⟩:=a.cell 0 (by omega);have n:=nB a.1 0;obtain⟨⟨s,t⟩,u,v⟩:=n;have i:dK ⟨fr,bytes,ag⟩=if 0<(au ag 0).lo then 0 else(au ag 0).hi-fr:=by
  unfold dK;by_cases h0:0<(au ag 0).lo;rw[aM (.inr h0),aM h0];rw[ay (by simp only;omega),ay h0]
 rw[i]at c⊢;clear i;generalize (au ag 0).lo=lo at *;generalize (au ag 0).hi=hi at *;rw[mK,lO]at l m;clear a d;have x:((nc:Int)==0)=false:=by simp[f]
 have y:(0:Int)<(nc:Int):=by omega
 by_cases h0:0<lo
 ·have d0:decide (0<lo)=true:=bp h0;rw[aM h0];clear c;go_enter func220,ntmps220;go_wp2_with fail;first
   |go_quiet (fail)
   |skip
  go_wp2_with fail;go_ret;exact⟨rfl,by repeat(first|exact av _ _|apply dh|apply aP|apply aS)⟩
 have d0:decide (0<lo)=false:=bB h0;rw[ay h0]at c⊢;have z:IntKind.u64.wrap (hi-fr)=hi-fr:=by rw[eH];omega
 have A:IntKind.i64.wrap (hi-fr)=hi-fr:=by simp[IntKind.wrap,IntKind.bits,IntKind.signed];omega
 go_enter func220,ntmps220;go_wp2_with fail;first
  |go_quiet (fail)
  |skip
 go_wp2_with fail;first
  |go_quiet (fail)
  |skip
 go_wp2_with fail;go_ret;exact⟨rfl,by repeat(first|exact av _ _|apply dh|apply aP|apply aS)⟩
def OwnSet(w0 w:World)(N:Nat)(l:List Rg):Prop:=
 ∃a n c,w.heap[N]?=some (.cells #[.slice a n c] 227 (0,0))/\ba w a n c l/\aZ l/\(∀y,a=some y->w0.heap.size<=y.block/\y.block≠N)
theorem OwnSet.ah(h:OwnSet W w k Y)(g:w.grownBy v none):OwnSet W v k Y:=by
 obtain⟨a,n,c,b,d,e,f⟩:=h;exact⟨a,n,c,bf b g,d.ah g,e,f⟩
theorem OwnSet.of{w0:World}{q:List Rg->Prop}(d:w.heap[k]?=some (.cells #[.slice a n i] 227 (0,0)))(f:∀y,a=some y->w0.heap.size<=y.block/\y.block≠k)(u:w0.heap.size<=w.heap.size)(h:oF w W k 0 a q):∃b,OwnSet w0 W k b/\q b:=by
 obtain⟨j,l,m,b,⟨g,p⟩,r,c,s,t⟩:=h;have v:=(aO.1 d).1;refine⟨b,⟨j,l,m,(p _ _ d).trans rfl,r,s,λy e=>?_⟩,t⟩
 obtain rfl|c:=c
 exact f y e;have:=c y e;omega
theorem zv(w:World)(sb ho:Nat)(ab:Option Addr)(nb cb:Nat)(ac:Option Addr)(nc cc:Nat)(h:Hd)(H:gE w sb ho ab nb cb ac nc cc h)(x:Rg)(hx:x.ok):
 Calls prog 278 #[.pointer (some ⟨sb,ho,none⟩),.agg #[.int .u64 x.lo,.int .u64 x.hi]] w λe p=>(∃a n c l,e=.returned (.slice a n c)/\ba p a n c l/\aZ l/\(∀y,a=some y->w.heap.size<=y.block)/\l.length<=h.ag.length+1/\∀m,Sm l m↔(x.lo<=m/\m<x.hi)/\¬Sm h.ag m)/\w.grownBy p none:=by
 obtain⟨c0,c1,c2,-,d,⟨-,-,ax,-,ca⟩⟩:=H;obtain⟨fr,bytes,ag⟩:=h;simp only at *;obtain⟨R,D⟩:∃R:Ending->World->Prop,R=λe p=>(∃a n c l,e=.returned (.slice a n c)/\ba p a n c l/\aZ l/\(∀y,a=some y->w.heap.size<=y.block)/\l.length<=ag.length+1/\∀m,Sm l m↔(x.lo<=m/\m<x.hi)/\¬Sm ag m)/\w.grownBy p none:=⟨_,rfl⟩
 rw[<-D];replace D:=J D;obtain⟨E,F⟩:=x;have s:nc=ag.length:=d.2.1;have cf:=d.2.2.1;have a4:=d.2.2.2.1;unfold maxLen at a4;have cg:=dN w _ c0;replace d:=J d;replace ax:=J ax;replace s:=J s;go_enter func278,ntmps278;obtain⟨N,G⟩:=exq ((w.alloc (.cells #[.int .u64 E,.int .u64 F] 341)).alloc (.cells #[.slice none 0 0] 227));have g1:w.grownBy N none:=by rw[G];exact aS (aS (av _ _) _) _
 have B:N.heap[w.heap.size+1]?=some (.cells #[.slice none 0 0] 227 (0,0)):=by
  have:=aH (w.alloc (.cells #[.int .u64 E,.int .u64 F] 341)) (.cells #[.slice none 0 0] 227);rw[dC]at this;rw[G];exact this
 have hA:=J (Ev N (w.heap.size+1) 0 #[.slice none 0 0] 227 none 0 0 [] ⟨E,F⟩ B rfl ⟨λr d=>by simp at d,rfl,aI _,by simp[maxLen],.inl rfl⟩ (λy t=>by cases t) aZ.nil hx (by omega));replace B:=J B;go_wp2_with fail;rw[<-G];clear G;refine(Z hA).mono ?_;rintro e w2⟨rfl,u⟩;have g2:w.grownBy w2 none:=by
  obtain⟨a',n',c',f,⟨g,-⟩,-⟩:=u;exact ot (cA (cO g1 (some (w.heap.size+1))) g (λk e=>.inr rfl)) (by omega)
 obtain⟨l1,O,P,Q⟩:=OwnSet.of (w0:=w) (Z B) (λy t=>by cases t) g1.size u;replace O:=J O;replace Q:=J Q;replace P:=J P;have d2:=g2.cell c2 (by simp);clear hA u B;go_wp2_with fail;go_loopw [15] (λS wr=>∃(j:Nat)(f:List Rg),j<=nc/\S=.int .i64 (j:Int)/\OwnSet w wr (w.heap.size+1) f/\f.length<=j+1/\(∀m,Sm f m↔(E<=m/\m<F)/\∀i,i<j->¬((au ag i).lo<=m/\m<(au ag i).hi))/\w.grownBy wr none) (λS _=>nc-(intOf S).toNat);case atStart=>exact⟨0,l1,by omega,rfl,Z O,Z P,λm=>by rw[Z Q m];exact⟨λh=>h.elim (λh=>absurd h (ij m)) (λh=>⟨h,λi hi=>by omega⟩),λh=>.inr h.1⟩,g2⟩
 case round=>
  obtain⟨j,f,hj,rfl,T,cj,C,g⟩:=hrel;by_cases cp:j<nc
  ·have d1:decide ((j:Int)<(nc:Int))=true:=bp (by omega);have I:=(Z d).ah g;obtain⟨-,-,-,-,h0|⟨b,o,rfl,-⟩⟩:=id I;omega;obtain⟨y0,y1⟩:=I.cell j (by have:=Z s;omega);have K:=nB I.1 j;have bz:Hid (∀m,((au ag j).lo<=m/\m<(au ag j).hi)↔((au ag j).lo<=m/\m<(au ag j).hi)):=J (λm=>Iff.rfl);obtain⟨r,L⟩:=exq (au ag j);rw[<-L]at y0 y1 K;have U:=aC wr (.cells #[.int .u64 r.lo,.int .u64 r.hi] 341) none;obtain⟨v,z,c3,A,p2,p3,p4⟩:=T.ah U;have hC:=J (zi (wr.alloc (.cells #[.int .u64 r.lo,.int .u64 r.hi] 341)) (w.heap.size+1) 0 #[.slice v z c3] 227 v z c3 f r A rfl p2 (λ_ y t=>(p4 y t).2) p3 K (by have:=p2.2.1;have:=Z s;omega));have bM:=J (λp(q:List Rg->Prop)(bP:oF (wr.alloc (.cells #[.int .u64 r.lo,.int .u64 r.hi] 341)) p (w.heap.size+1) 0 v q)=>OwnSet.of (w0:=w) A p4 (bC g.size U.size) bP);have i1:(j:Int)<(nc:Int):=by omega
   replace L:=J L;replace C:=J C;replace K:=J K;clear A p2 p3 p4 T I bz;go_wp2_with fail;refine(Z hC).mono ?_;rintro e w4⟨rfl,u⟩;have g4:w.grownBy w4 none:=by
    obtain⟨a',n',c',f,⟨g5,-⟩,-⟩:=u;exact ot (cA (cO (aj g U) (some (w.heap.size+1))) g5 (λk e=>.inr rfl)) (by omega)
   obtain⟨l4,V,cw,W⟩:=Z bM _ _ u;replace W:=J W;replace V:=J V;clear u;go_wp2_with fail;go_roundw;case rel=>
    refine⟨j+1,l4,by omega,by simp,Z V,by omega,λm=>?_,g4⟩
    rw[Z W m,Z C m,Z L];constructor;rintro⟨⟨X,M⟩,h7⟩;refine⟨X,λi hi=>?_⟩
    obtain h8|rfl:=pq.1 hi
    exact M i h8;exact h7;rintro⟨X,M⟩;exact⟨⟨X,λi hi=>M i (by omega)⟩,M j (by omega)⟩
   case measure=>simp[intOf];omega
  have d1:decide ((j:Int)<(nc:Int))=false:=bB (by omega);obtain rfl:j=nc:=by omega
  obtain⟨v,z,c3,A,p2,p3,p4⟩:=T;have s0:wr.cell? ⟨w.heap.size+1,0,none⟩=some (.slice v z c3):=by simp[World.cell?,A]
  have Y:R (.returned (.slice v z c3)) wr:=by
   rw[Z D];refine⟨⟨v,z,c3,f,rfl,p2,p3,λy t=>(p4 y t).1,by have:=Z s;omega,λm=>?_⟩,g⟩
   rw[C m];refine and_congr_right λ_=>⟨λh ⟨r,b7,h3⟩=>?_,λh i hi h3=>h ⟨_,mm (by have:=Z s;omega),h3⟩⟩
   obtain⟨k,hk,rfl⟩:=lL.1 b7;have er:au ag k=ag[k]:=by simp[au,List.getD,hk]
   exact h k (by have:=Z s;omega) (by rw[er];exact h3)
  replace Y:=J Y;clear A p2 p3 p4 C;go_wp2_with fail;exact Z Y
theorem ER(w:World)(a:Nat)(b:a<=w.heap.size):aX (w.alloc (.cells #[] 5)) a (.slice (some ⟨w.heap.size,0,none⟩) 0 0) []:=
 ⟨(λx c=>by cases c),by simp[bv],.inr ⟨w.heap.size,0,#[],rfl,b,aH w _,aI _,by simp[maxLen],by simp,by simp[bv]⟩⟩
theorem ES(w:World):(binOp .eql 112 (.slice none 0 0) (.slice none 0 0)).run prog w=.ok (.bool true) w:=by
 have h:∀d:Nat,(Op.equalIn (d+1) 112 (.slice none 0 0) (.slice none 0 0)).run prog w=.ok true w:=λd=>by
  simp[Op.equalIn,tM underlying112]
 simp only[binOp]
 simp[Op.equal,Op.maxDepth,h 9999]
theorem ET(w:World)(y:Addr)(n c:Nat):(binOp .eql 112 (.slice (some y) n c) (.slice none 0 0)).run prog w=.ok (.bool false) w:=by
 have h:∀d:Nat,(Op.equalIn (d+1) 112 (.slice (some y) n c) (.slice none 0 0)).run prog w=.ok false w:=λd=>by
  simp[Op.equalIn,tM underlying112]
 simp only[binOp]
 simp[Op.equal,Op.maxDepth,h 9999]
theorem EU(a:Option Addr)(n c:Nat)(l:List Int)(w:World)(f:bh w a n c l)(hl:l.length<=2000000):
 Calls prog 259 #[.slice a n c] w λe g=>(∃i j,e=.returned (.slice i n j)/\aX g w.heap.size (.slice i n j) l)/\w.grownBy g none:=by
 obtain⟨R,d⟩:∃R:Ending->World->Prop,R=λe g=>(∃i j,e=.returned (.slice i n j)/\aX g w.heap.size (.slice i n j) l)/\w.grownBy g none:=⟨_,rfl⟩
 rw[<-d];replace d:=J d;have m:n=l.length:=f.2.1;cases a with
 |none=>
  have t:n=0:=by
   obtain⟨-,-,u,-,⟨-,h⟩|⟨b,o,h,-⟩⟩:=f;omega;cases h
  have v:c=0:=by
   obtain⟨-,-,u,-,⟨-,h⟩|⟨b,o,h,-⟩⟩:=f;exact h;cases h
  subst t v;have x:l=[]:=fR (by omega);subst x;have p:Hid (R (.returned (.slice none 0 0)) w):=J (by rw[Z d];exact⟨⟨none,0,rfl,aX.nil _ _⟩,av _ _⟩);have z:=ES;clear f hl m d;go_enter func259,ntmps259;go_wp2_with fail;exact Z p
 |some y=>
  have q:=J (ER w w.heap.size (aI _));have A:=J (f.ah (aC w (.cells #[] 5) none));replace m:=J m;have z:=λW=>ET W y n c
  go_enter func259,ntmps259;go_wp2_with (at_builtin;refine qQ (by rfl) _ _ (by rfl) w.heap.size _ [] (by rfl) (Z q) _ _ _ l (by rfl) (Z A) (by simp;omega) (by simp) ?_;intro r c3 B s C _;simp only[fH,dv,jQ]at s⊢);have p:R (.returned (.slice r l.length c3)) B:=by
   rw[Z d];refine⟨⟨r,c3,by rw[Z m],?_⟩,cA (aC w (.cells #[] 5) none) C (λk e=>.inl ((Z q).lt k e).1)⟩
   rw[Z m];simpa using s
  exact p
theorem aX.low{b2:Nat}(h:aX w n x L)(b:b2<=n):aX w b2 x L:=by
 obtain⟨c,d,a⟩:=h;refine⟨c,d,?_⟩
 obtain a|⟨g,cap,cur,e1,e2,e⟩:=a
 exact .inl a;exact .inr ⟨g,cap,cur,e1,bC b e2,e⟩
theorem aX.aw{sb:Nat}(h:aX w n x L)(a:x.ownBlock≠some sb)(so:Nat)(u:Value):aX (w.setCell ⟨sb,so,none⟩ u) n x L:=
 h.gb (aD (av w (some sb)) ⟨sb,so,none⟩ u (.inr rfl)) (.inr a)
theorem zw(h:BS w b o L)(n:Nat):BS w b (o+n) (L.drop n):=by
 refine⟨λi hi=>?_,λx a=>h.2 x (iZ a)⟩
 rw[dO]at hi;have:=h.1 (n+i) (by omega);rw[show o+n+i=o+(n+i) by omega,this];simp[qg]
theorem qX:prog.elem 112=5:=by kernel_rfl
theorem wC(W:World):(sizeOf 5).run prog W=.ok 1 W:=by kernel_rfl
theorem EV(a:Option Addr)(n cap j:Nat)(h:j<=n)(W:World):(Instr.slice 112 (.slice a n cap) (some (.int .i64 (j:Int))) none none).run prog W=.ok (.slice (if cap=j then a else a.map (·.add j)) (n-j) (cap-j)) W:=by
 rw[run_slice_l W 112 a n cap (by rw[qX];exact underlying112) .i64 (j:Int) (by omega) (by omega),qX,wC];simp only[ic,sliced,jP,Nat.mul_one]
theorem EW(h:bh w a n k L)(d:∀z,a=some z->z.block≠j)(so:Nat)(v:Value):bh (w.setCell ⟨j,so,none⟩ v) a n k L:=by
 obtain⟨e,f,g,l,c⟩:=h;refine⟨e,f,g,l,?_⟩
 obtain c|⟨b,o,rfl,c⟩:=c
 exact .inl c;exact .inr ⟨b,o,rfl,λi hi=>(lg (w:=w) (a:=⟨b,o+i,none⟩) (cY _ _ _ _ (d _ rfl))).trans (c.1 i hi),c.2⟩
theorem wD(h:bh w a n k L)(j:Nat)(m:j<=n)(d:k-j=0/\O=a\/∃b o,a=some ⟨b,o,none⟩/\O=some ⟨b,o+j,none⟩):(k-j=0->O=none\/∃b o,O=some ⟨b,o,none⟩)->bh w O (n-j) (k-j) (L.drop j):=by
 intro g;obtain⟨l,p,q,r,c⟩:=h;refine⟨λx f=>l x (iZ f),by rw[dO];omega,by omega,by omega,?_⟩
 obtain⟨d,rfl⟩|⟨b,o,rfl,rfl⟩:=d
 obtain rfl|⟨b,o,rfl⟩:=g d
 exact .inl ⟨rfl,d⟩;refine .inr ⟨b,o,rfl,?_⟩;have:L.drop j=[]:=fR (by rw[dO];omega);rw[this];exact⟨λi hi=>by simp at hi,λx f=>by simp at f⟩
 obtain⟨c,-⟩|⟨s,t,e,c⟩:=c
 cases c;cases e;exact .inr ⟨_,_,rfl,zw c j⟩
theorem zx(w:World)(sb ho:Nat)(cs:Array Value)(t:TypeId)(ab:Option Addr)(nb cb:Nat)(ac:Option Addr)(nc cc:Nat)(h:Hd)(K:w.heap[sb]?=some (.cells cs t (0,0)))(H:gE w sb ho ab nb cb ac nc cc h)(k:Nat)(hk:h.fr+k<=4611686018427387903)(ax:∀y,ab=some y->y.block≠sb):
 Calls prog 221 #[.pointer (some ⟨sb,ho,none⟩),.int .i64 (k:Int)] w λe O=>e=.returned (.tuple #[])/\∃P E,w.grownBy O (some sb)/\O.heap[sb]?=some (.cells ((cs.setIfInBounds ho (.int .u64 (h.fr+k))).setIfInBounds (ho+1) (.slice P (h.bytes.drop k).length E)) t (0,0))/\aX O w.heap.size (.slice P (h.bytes.drop k).length E) (h.bytes.drop k)/\(∀y,P=some y->w.heap.size<=y.block):=by
 obtain⟨c0,c1,c2,r,-,⟨k0,k1,-,k3,-⟩⟩:=H;obtain⟨fr,bytes,ag⟩:=h;simp only at *;have F:nb=bytes.length:=r.2.1;have f0:w.frozen? ⟨sb,ho,none⟩=false:=by simp[World.frozen?,K]
 have hw:IntKind.u64.wrap (fr+(k:Int))=fr+(k:Int):=by rw[eH];omega
 have a9:IntKind.u64.wrap (k:Int)=(k:Int):=by rw[eH];omega
 obtain⟨a,s⟩:=exq (w.setCell ⟨sb,ho,none⟩ (.int .u64 (fr+(k:Int))));have L:w.grownBy a (some sb):=by rw[s];exact aD (av _ _) _ _ (.inr rfl)
 have p:a.heap[sb]?=some (.cells (cs.setIfInBounds ho (.int .u64 (fr+(k:Int)))) t (0,0)):=by rw[s];exact heap_set K _
 have M:a.cell? ⟨sb,ho+1,none⟩=some (.slice ab nb cb):=by
  simp only[World.cell?,K]at c1;simp only[World.cell?,p]
  rw[aW (by omega)];exact c1
 have u:bh a ab nb cb bytes:=by rw[s];exact EW r ax ho _
 obtain⟨j,V⟩:=exq (min k nb);have N:j<=nb:=by omega
 obtain⟨v,d⟩:=exq ((if cb=j then ab else ab.map (·.add j)));have eS:∀W,(Instr.slice 112 (.slice ab nb cb) (some (.int .i64 (j:Int))) none none).run prog W=.ok (.slice v (nb-j) (cb-j)) W:=λW=>by rw[d];exact EV _ nb cb j N W
 have Q:bh a v (nb-j) (cb-j) (bytes.drop j):=by
  have a0:=u.2.2.1;obtain⟨-,-,-,-,⟨rfl,h0⟩|⟨b,o,rfl,-⟩⟩:=id u;refine wD u j N (.inl ⟨by omega,by rw[d];split<;>rfl⟩) (λ_=>.inl (by rw[d];split<;>rfl));by_cases R:cb=j;refine wD u j N (.inl ⟨by omega,by rw[d,aM R]⟩) (λ_=>.inr ⟨b,o,by rw[d,aM R]⟩);refine wD u j N (.inr ⟨b,o,rfl,by rw[d,ay R];simp only[qN,Addr.add_mid]⟩) (λh=>by omega)
 have S:bytes.drop j=bytes.drop k:=by
  by_cases a1:k<=nb;rw[show j=k by omega];rw[tH (by omega),tH (by omega)]
 have D:nb-j=(bytes.drop k).length:=by rw[<-S,dO,F]
 have G:=J (λW(g:a.grownBy W none)(X E:Nat)(e1:X=nb-j)(e2:E=cb-j)=>EU v X E (bytes.drop j) W (by rw[e1,e2];exact Q.ah g) (by rw[dO];omega));have bb:sb<w.heap.size:=(aO.1 K).1;have i:a.heap.size=w.heap.size:=by rw[s];simp[World.setCell]
 replace S:=J S;replace D:=J D;replace r:=J r;replace u:=J u;replace Q:=J Q;replace F:=J F;replace d:=J d;have Y:min (k:Int) (nb:Int)=(j:Int):=by omega
 have bj:a.grownBy a.drew (some sb):=aP (av _ _);go_enter func221,ntmps221;go_wp2_with fail;rw[<-s];replace s:=J s;have i1:(j:Int)<=(nb:Int):=by omega
 have a0:=(Z r).2.2.1;clear eS;replace i:=J i;by_cases a1:k<=nb
 ·have d1:decide ((k:Int)<=(nb:Int))=true:=bp (by omega);have d2:decide ((nb:Int)<(k:Int))=false:=bB (by omega);obtain rfl:j=k:=by omega
  clear V Y;by_cases I:cb=j
  ·have x:v=ab:=by rw[Z d,aM I]
   subst x;clear d;go_region_with (first|(go_at_call 259;refine(Z G _ (aP (av _ _)) _ _ (by omega) (by omega)).mono ?_;rintro e l⟨⟨a5,c5,rfl,f⟩,z⟩;have c:a.grownBy l none:=(aj (aP (av _ _)) z);have T:=c.cell M (by simp);have f5:l.frozen? ⟨sb,ho+1,none⟩=false:=(by simp[World.frozen?,bf p c])));all_goals
    have A:∀y,a5=some y->w.heap.size<=y.block:=λy B=>by
     have U:a.drew.heap.size<=y.block:=(f.lt y.block (by rw[B];rfl)).1;have m:=Z i;have n:a.drew.heap.size=a.heap.size:=rfl;omega
    refine dP (dj rfl _ _ _) rfl ⟨rfl,a5,c5,aj L (aD (cO c _) _ _ (.inr rfl)),?_,?_,A⟩
    rw[<-Z D];exact heap_set (bf p c) _
    have C:=(f.low (b2:=w.heap.size) (by have m:=Z i;have n:a.drew.heap.size=a.heap.size:=rfl;omega)).aw (sb:=sb) (λe=>by have:=(f.lt _ e).1;have m:=Z i;have n:a.drew.heap.size=a.heap.size:=rfl;omega) (ho+1) (.slice a5 (nb-j) c5)
    rw[<-Z D]
    exact C
  obtain⟨b,o,rfl⟩:∃b o,ab=some ⟨b,o,none⟩:=by
   obtain⟨-,-,-,-,⟨-,h0⟩|⟨b,o,rfl,-⟩⟩:=Z r;omega;exact⟨b,o,rfl⟩
  have x:v=some ⟨b,o+j,none⟩:=by rw[Z d,ay I];simp only[qN,Addr.add_mid]
  subst x;clear d;go_region_with (first|(go_at_call 259;refine(Z G _ (aP (av _ _)) _ _ (by omega) (by omega)).mono ?_;rintro e l⟨⟨a5,c5,rfl,f⟩,z⟩;have c:a.grownBy l none:=(aj (aP (av _ _)) z);have T:=c.cell M (by simp);have f5:l.frozen? ⟨sb,ho+1,none⟩=false:=(by simp[World.frozen?,bf p c])));all_goals
   have A:∀y,a5=some y->w.heap.size<=y.block:=λy B=>by
    have U:a.drew.heap.size<=y.block:=(f.lt y.block (by rw[B];rfl)).1;have m:=Z i;have n:a.drew.heap.size=a.heap.size:=rfl;omega
   refine dP (dj rfl _ _ _) rfl ⟨rfl,a5,c5,aj L (aD (cO c _) _ _ (.inr rfl)),?_,?_,A⟩
   rw[<-Z D];exact heap_set (bf p c) _
   have C:=(f.low (b2:=w.heap.size) (by have m:=Z i;have n:a.drew.heap.size=a.heap.size:=rfl;omega)).aw (sb:=sb) (λe=>by have:=(f.lt _ e).1;have m:=Z i;have n:a.drew.heap.size=a.heap.size:=rfl;omega) (ho+1) (.slice a5 (nb-j) c5)
   rw[<-Z D]
   exact C
 have d1:decide ((k:Int)<=(nb:Int))=false:=bB (by omega);have d2:decide ((nb:Int)<(k:Int))=true:=bp (by omega);obtain rfl:j=nb:=by omega
 clear V Y;have q:bytes.drop k=[]/\(bytes.drop k).length=0:=by
  have hd:bytes.drop k=[]:=tH (by have:=Z F;omega);exact⟨hd,by rw[hd];rfl⟩
 have al:bytes.drop j=[]:=tH (by have:=Z F;omega);rw[al]at G;clear al;replace q:=J q;by_cases I:cb=j
 ·have x:v=ab:=by rw[Z d,aM I]
  subst x;clear d;go_region_with (first|(go_at_call 259;refine(Z G _ (aP (av _ _)) _ _ (by omega) (by omega)).mono ?_;rintro e l⟨⟨a5,c5,rfl,f⟩,z⟩;have c:a.grownBy l none:=(aj (aP (av _ _)) z);have T:=c.cell M (by simp);have f5:l.frozen? ⟨sb,ho+1,none⟩=false:=(by simp[World.frozen?,bf p c])));all_goals
   have A:∀y,a5=some y->w.heap.size<=y.block:=λy B=>by
    have U:a.drew.heap.size<=y.block:=(f.lt y.block (by rw[B];rfl)).1;have m:=Z i;have n:a.drew.heap.size=a.heap.size:=rfl;omega
   refine dP (dj rfl _ _ _) rfl ⟨rfl,a5,c5,aj L (aD (cO c _) _ _ (.inr rfl)),?_,?_,A⟩
   rw[(Z q).2];exact heap_set (bf p c) _
   have C:=(f.low (b2:=w.heap.size) (by have m:=Z i;have n:a.drew.heap.size=a.heap.size:=rfl;omega)).aw (sb:=sb) (λe=>by have:=(f.lt _ e).1;have m:=Z i;have n:a.drew.heap.size=a.heap.size:=rfl;omega) (ho+1) (.slice a5 0 c5)
   rw[(Z q).2,(Z q).1]
   exact C
 obtain⟨b,o,rfl⟩:∃b o,ab=some ⟨b,o,none⟩:=by
  obtain⟨-,-,-,-,⟨-,h0⟩|⟨b,o,rfl,-⟩⟩:=Z r;omega;exact⟨b,o,rfl⟩
 have x:v=some ⟨b,o+j,none⟩:=by rw[Z d,ay I];simp only[qN,Addr.add_mid]
 subst x;clear d;go_region_with (first|(go_at_call 259;refine(Z G _ (aP (av _ _)) _ _ (by omega) (by omega)).mono ?_;rintro e l⟨⟨a5,c5,rfl,f⟩,z⟩;have c:a.grownBy l none:=(aj (aP (av _ _)) z);have T:=c.cell M (by simp);have f5:l.frozen? ⟨sb,ho+1,none⟩=false:=(by simp[World.frozen?,bf p c])));all_goals
  have A:∀y,a5=some y->w.heap.size<=y.block:=λy B=>by
   have U:a.drew.heap.size<=y.block:=(f.lt y.block (by rw[B];rfl)).1;have m:=Z i;have n:a.drew.heap.size=a.heap.size:=rfl;omega
  refine dP (dj rfl _ _ _) rfl ⟨rfl,a5,c5,aj L (aD (cO c _) _ _ (.inr rfl)),?_,?_,A⟩
  rw[(Z q).2];exact heap_set (bf p c) _
  have C:=(f.low (b2:=w.heap.size) (by have m:=Z i;have n:a.drew.heap.size=a.heap.size:=rfl;omega)).aw (sb:=sb) (λe=>by have:=(f.lt _ e).1;have m:=Z i;have n:a.drew.heap.size=a.heap.size:=rfl;omega) (ho+1) (.slice a5 0 c5)
  rw[(Z q).2,(Z q).1]
  exact C
structure Ot where
 h:Hd
 aE:Int
 sE:Bool
 sG:Bool
 tE:Bool
 tG:Bool
 code:Int
def jA(w:World)(sb a:Nat)(o:Ot):Prop:=
 w.cell? ⟨sb,a+3,none⟩=some (.int .u64 o.aE)/\w.cell? ⟨sb,a+4,none⟩=some (.bool o.sE)/\w.cell? ⟨sb,a+5,none⟩=some (.bool o.sG)/\w.cell? ⟨sb,a+6,none⟩=some (.bool o.tE)/\w.cell? ⟨sb,a+7,none⟩=some (.bool o.tG)/\w.cell? ⟨sb,a+8,none⟩=some (.int .u64 o.code)/\aR o.aE/\aR o.code
theorem wE(e g x y:Bool)(w:World):Calls prog 282 #[.agg #[.bool e,.bool g],.agg #[.bool x,.bool y]] w λr a=>r=.returned (.agg #[.bool (e&& !x),.bool (g&& !y)])/\w.grownBy a none:=by
 cases e<;>cases g;all_goals
  go_enter func282,ntmps282
  go_wp2_with fail
  refine cz (v:=.agg #[.bool (_&& !x),.bool (_&& !y)]) ?_ rfl ⟨rfl,?_⟩
  ·simp[results,results282,go_sem]
  exact aS (aS (aS (av _ _) _) _) _
theorem wF(w:World)(sb a:Nat)(o:Ot)(H:jA w sb a o):Calls prog 153 #[.pointer (some ⟨sb,a,none⟩)] w λr b=>r=.returned (.bool o.sG)/\w.grownBy b none:=by
 obtain⟨c3,c4,c5,c6,c7,c8,-,-⟩:=H;go_enter func153,ntmps153;go_wp2_with fail;first
  |go_quiet (fail)
  |skip
 go_wp2_with fail;go_ret;exact⟨rfl,by repeat(first|exact av _ _|apply dh|apply aP|apply aS)⟩
theorem EX(w:World)(sb a:Nat)(o:Ot)(H:jA w sb a o):Calls prog 195 #[.pointer (some ⟨sb,a,none⟩)] w λr b=>r=.returned (.bool (o.sE||o.sG))/\w.grownBy b none:=by
 obtain⟨c3,c4,c5,c6,c7,c8,-,-⟩:=H;generalize o.sE=e at *;generalize o.sG=g at *;cases e<;>cases g<;>
 (go_enter func195,ntmps195
  go_wp2_with fail
  first
   |go_quiet (fail)
   |skip
  go_wp2_with fail
  go_ret
  exact⟨rfl,by repeat(first|exact av _ _|apply dh|apply aP|apply aS)⟩)
theorem EY(w:World)(sb a:Nat)(fr:Int)(h0:w.cell? ⟨sb,a,none⟩=some (.int .u64 fr))(c:0<=fr/\fr<=4611686018427387903):Calls prog 169 #[.pointer (some ⟨sb,a,none⟩)] w λr b=>r=.returned (.int .i64 fr)/\w.grownBy b none:=by
 have d:IntKind.i64.wrap fr=fr:=by simp[IntKind.wrap,IntKind.bits,IntKind.signed];omega
 go_enter func169,ntmps169;go_wp2_with fail;first
  |go_quiet (fail)
  |skip
 go_wp2_with fail;go_ret;exact⟨rfl,by repeat(first|exact av _ _|apply dh|apply aP|apply aS)⟩
theorem EZ(w:World)(sb a:Nat)(cs:Array Value)(t:TypeId)(o:Ot)(b:w.heap[sb]?=some (.cells cs t (0,0)))(H:jA w sb a o):Calls prog 151 #[.pointer (some ⟨sb,a,none⟩)] w λr c=>r=.returned (.tuple #[])/\w.grownBy c (some sb)/\c.heap[sb]?=some (.cells (cs.setIfInBounds (a+4) (.bool true)) t (0,0)):=by
 obtain⟨c3,c4,c5,c6,c7,c8,-,-⟩:=H;have f4:w.frozen? ⟨sb,a+4,none⟩=false:=by simp[World.frozen?,b]
 go_enter func151,ntmps151;go_wp2_with fail;exact dP (dj rfl _ _ _) rfl ⟨rfl,aD (av _ _) _ _ (.inr rfl),heap_set b _⟩
variable{d:Ot}
theorem jA.ah(H:jA w n k d)(g:w.grownBy W none):jA W n k d:=
 ⟨g.cell H.1 (by simp),g.cell H.2.1 (by simp),g.cell H.2.2.1 (by simp),g.cell H.2.2.2.1 (by simp),g.cell H.2.2.2.2.1 (by simp),g.cell H.2.2.2.2.2.1 (by simp),H.2.2.2.2.2.2⟩
def Ot.uE(o:Ot):Bool:=o.sE&& !o.tE
def Ot.uG(o:Ot):Bool:=o.sG&& !o.tG
theorem zy(w:World)(sb i:Nat)(o:Ot)(H:jA w sb i o):Calls prog 279 #[.pointer (some ⟨sb,i,none⟩)] w λr n=>r=.returned (.agg #[.bool o.uE,.bool o.uG])/\w.grownBy n none:=by
 obtain⟨c3,c4,c5,c6,c7,c8,-,-⟩:=H;have j:=J (λW=>wE o.sE o.sG o.tE o.tG W);obtain⟨uE,f⟩:=exq o.uE;obtain⟨uG,g⟩:=exq o.uG;have k:(o.sE&& !o.tE)=uE:=f.symm;have l:(o.sG&& !o.tG)=uG:=g.symm;rw[k,l]at j;rw[<-f,<-g];clear f g k l;obtain⟨h,c⟩:=exq (w.alloc (.cells #[.bool false,.bool false] 231));have a:w.grownBy h none:=by rw[c];exact aC _ _ _
 have p:h.heap[w.heap.size]?=some (.cells #[.bool false,.bool false] 231 (0,0)):=by rw[c];exact aH _ _
 replace c4:=a.cell c4 (by simp);replace c5:=a.cell c5 (by simp);replace c6:=a.cell c6 (by simp);replace c7:=a.cell c7 (by simp);clear c3 c8;generalize o.sE=e1 at *;generalize o.sG=e2 at *;generalize o.tE=s at *;generalize o.tG=t at *;go_enter func279,ntmps279;go_wp2_with fail;rw[<-c];clear c;go_region_with (first|(go_at_call 282;refine(Z j _).mono ?_;rintro e b⟨rfl,q⟩;have m:h.grownBy b none:=(aj (aP (av _ _)) q);have d:=bf p m;have u:b.cell? ⟨w.heap.size,0,none⟩=some (.bool false):=(by simp[World.cell?,d]);have b1:b.cell? ⟨w.heap.size,1,none⟩=some (.bool false):=(by simp[World.cell?,d]);have z0:b.frozen? ⟨w.heap.size,0,none⟩=false:=(by simp[World.frozen?,d]);have x:b.frozen? ⟨w.heap.size,1,none⟩=false:=(by simp[World.frozen?,d])));all_goals go_wp2_with fail
 all_goals
  refine cz (v:=.agg #[.bool uE,.bool uG]) ?_ rfl ⟨rfl,aD (aD (aj a m) _ _ (.inl (aI _))) _ _ (.inl (aI _))⟩
  simp[results,results279,go_sem, *]
theorem E0(w:World)(sb a:Nat)(cs:Array Value)(t:TypeId)(ab:Option Addr)(nb cb:Nat)(o:Ot)(code:Int)(b:w.heap[sb]?=some (.cells cs t (0,0)))(d:w.cell? ⟨sb,a+1,none⟩=some (.slice ab nb cb))(H:jA w sb a o):
 Calls prog 154 #[.pointer (some ⟨sb,a,none⟩),.int .u64 code] w λr c=>r=.returned (.tuple #[])/\w.grownBy c (some sb)/\c.heap[sb]?=some (.cells ((((cs.setIfInBounds (a+4) (.bool false)).setIfInBounds (a+5) (.bool true)).setIfInBounds (a+8) (.int .u64 code)).setIfInBounds (a+1) (.slice none 0 0)) t (0,0)):=by
 obtain⟨c3,c4,c5,c6,c7,c8,-,-⟩:=H;have f1:w.frozen? ⟨sb,a+1,none⟩=false:=by simp[World.frozen?,b]
 have f4:w.frozen? ⟨sb,a+4,none⟩=false:=by simp[World.frozen?,b]
 have f5:w.frozen? ⟨sb,a+5,none⟩=false:=by simp[World.frozen?,b]
 have f8:w.frozen? ⟨sb,a+8,none⟩=false:=by simp[World.frozen?,b]
 have G:w.grownBy ((((w.setCell ⟨sb,a+4,none⟩ (.bool false)).setCell ⟨sb,a+4+1,none⟩ (.bool true)).setCell ⟨sb,a+8,none⟩ (.int .u64 code)).setCell ⟨sb,a+1,none⟩ (.slice none 0 0)) (some sb):=
  aD (aD (aD (aD (av w (some sb)) ⟨sb,a+4,none⟩ (.bool false) (.inr rfl)) ⟨sb,a+4+1,none⟩ (.bool true) (.inr rfl)) ⟨sb,a+8,none⟩ (.int .u64 code) (.inr rfl)) ⟨sb,a+1,none⟩ (.slice none 0 0) (.inr rfl)
 have B:((((w.setCell ⟨sb,a+4,none⟩ (.bool false)).setCell ⟨sb,a+4+1,none⟩ (.bool true)).setCell ⟨sb,a+8,none⟩ (.int .u64 code)).setCell ⟨sb,a+1,none⟩ (.slice none 0 0)).heap[sb]?=some (.cells ((((cs.setIfInBounds (a+4) (.bool false)).setIfInBounds (a+4+1) (.bool true)).setIfInBounds (a+8) (.int .u64 code)).setIfInBounds (a+1) (.slice none 0 0)) t (0,0)):=
  heap_set (heap_set (heap_set (heap_set b _) _) _) _
 replace G:=J G;replace B:=J B;rw[show a+5=a+4+1 from rfl];go_enter func154,ntmps154;go_wp2_with fail;exact dP (dj rfl _ _ _) rfl ⟨rfl,Z G,Z B⟩
