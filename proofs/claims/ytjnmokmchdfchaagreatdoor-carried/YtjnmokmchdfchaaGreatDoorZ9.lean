import Derived.Laws.StructEq
import Derived.Test.YtjnmokmchdfchaaGreatDoorZ7
set_option maxRecDepth 1000000
set_option maxHeartbeats 8000000
set_option linter.all false
namespace Go.Proofs.YtjnmokmchdfchaaGreatDoor
open Go.RowKit Tryz
attribute[local go_sem↓]Go.wp_at_zero Go.wp_at_succ
variable{I:Act}{F:Exit->Act->World->Prop}{p q:Int}{K L M:List Int}{b k n:Nat}{H:Oper}{T:TypeId}{x y z:Value}{W v w:World}
theorem Ke(n:Nat):(madeCells (Value.cells (.int .u8 0)) (n*1)).toList=bv (List.replicate n 0):=by
 simp only[madeCells,bv,Value.cells,Array.toList_map,Array.toList_range,Nat.mul_one,List.map_replicate]
 rw[show(λx=> #[Value.int IntKind.u8 0][x % #[Value.int IntKind.u8 0].size]!)=λ_=>Value.int IntKind.u8 0 from funext λx=>by
  rw[show #[Value.int IntKind.u8 0].size=1 from rfl,Nat.mod_one];rfl]
 exact List.eq_replicate_iff.2 ⟨by simp,by simp⟩
theorem Cj{d:Array Oper}{rest:List Oper}(l c:Operand)(i:H.op=Op.makeSlice 112 l c)(j:H.guard=none)
 (L:Int) (n:Nat) (hl:I.eval l=.int .i64 L) (k:I.eval c=.int .i64 L) (e:L=(n:Int)) (u:n<=100000000)
 (m:∀a,a.heap[w.heap.size]?=some (.cells (bv (List.replicate n 0)).toArray 5 (0,0))->w.grownBy a none->wpList prog d F rest (I.put H.dst (.slice (some ⟨w.heap.size,0,none⟩) n n)) a):wpList prog d F (H::rest) I w:=by
 obtain⟨p,hi,q,r,s⟩:=lg xp;refine wpList_make_full w j l c _ i w.heap.size 5 p (.int .u8 0) 1 underlying112 hi q r .i64 .i64 L L n hl k e e (by rw[s];omega) (by simp[maxLen];omega) (aP _) ?_;intro a ho g;refine m a ?_ g;obtain⟨v,b⟩:=ho;obtain⟨b,_⟩|⟨x,cap,cur,e1,e2,t,y,z,f,h⟩:=b
 cases b;simp only[Value.slice.injEq,mf,Addr.mk.injEq,and_true,true_and]at e1;obtain⟨rfl,rfl⟩:=e1;rw[t];rw[Ke,Nat.mul_one]at h;rw[Nat.mul_one]at f;have:cur.toList=bv (List.replicate n 0):=by rw[<-h,fJ (by simp[f])]
 rw[<-this]
def aS(f:Bool):Int:=if f then 0 else 1
theorem vM(f:Bool):W8 (aS f):=by cases f<;>simp[aS,W8]
theorem tU(f:Bool)(w:World):Calls prog 173 #[.bool f] w λe a=>e=.returned (.int .u8 (aS f))/\a=w:=by
 cases f
 ·go_enter func173,ntmps173;go_wp2;go_ret;exact⟨rfl,rfl⟩
 go_enter func173,ntmps173;go_wp2;go_ret;exact⟨rfl,rfl⟩
theorem vN(key:List Int)(s n:Int)(l:List Int):(bv (iD key s n l)).toArray= #[.int .u8 (aa (cT key (aD s 2 n++l)) 0),.int .u8 (aa (cT key (aD s 2 n++l)) 1),.int .u8 (aa (cT key (aD s 2 n++l)) 2),.int .u8 (aa (cT key (aD s 2 n++l)) 3),.int .u8 (aa (cT key (aD s 2 n++l)) 4),.int .u8 (aa (cT key (aD s 2 n++l)) 5),.int .u8 (aa (cT key (aD s 2 n++l)) 6),.int .u8 (aa (cT key (aD s 2 n++l)) 7)]:=rfl
theorem vO(h:w.heap[b]?=some (.cells (bv L).toArray T (0,0)))(hl:∀x∈L,W8 x)(o n c:Nat)(f:o+n<=L.length)(a:n<=c)(d:c<=maxLen):bF w (some ⟨b,o,none⟩) n c ((L.drop o).take n):=
 ⟨λx e=>hl x (iG (iS e)),by simp;omega,a,d,.inr ⟨b,o,rfl,(tQ h hl o).take n⟩⟩
theorem Kf(H R l:List Int)(a:H.length=8):splice (splice R 0 H) 8 l=H++(l++R.drop (l.length+8)):=by
 have e:splice R 0 H=H++R.drop 8:=by simp[splice,a]
 have e2:8+(8+l.length-8)=l.length+8:=by omega
 rw[e];unfold splice;rw[uy (by omega),fJ (by omega),List.drop_append,a,qE (by omega),jQ,sX,e2]
theorem Kg(H l m a:List Int)(b:H.length=8)(c:m.length=l.length):splice (H++(l++a)) 8 m=H++(m++a):=by
 have e2:8+m.length-8=l.length:=by omega
 unfold splice;rw[uy (by omega),fJ (by omega),List.drop_append,b,qE (by omega),jQ,e2,List.drop_append,qE (by omega),jQ,rE,qb]
theorem Kh(H m a T:List Int)(b:H.length=8)(c:T.length=a.length):splice (H++(m++a)) (8+m.length) T=H++(m++T):=by
 have e:(H++m).length=8+m.length:=by rw[bH,b]
 unfold splice;rw[<-fg H m a,uy (by omega),fJ (by omega),List.drop_append,qE (by omega),jQ,qE (by omega),ot,fg]
theorem Ck(H l a:List Int)(b:H.length=8):((H++(l++a)).drop 8).take l.length=l:=by
 rw[List.drop_append,b,qE (by omega),jQ,rE,qb,uy (aP _),fJ (aP _)]
theorem tV(hl:∀x∈K,W8 x):∀x∈dN L p q K,W8 x:=by
 intro x a;obtain⟨i,_,rfl⟩:=eQ.1 a;exact Cb (qe hl i) (yz _ _)
theorem Ki(a:∀x∈M,W8 x):∀x∈fH p++(M++List.replicate 8 0),W8 x:=by
 intro x b;obtain h|h:=bQ.1 b
 exact pJ p x h;obtain h|h:=bQ.1 h
 exact a x h;rw[(List.mem_replicate.1 h).2];unfold W8;omega
theorem Cl{f e d c a:Value}(u0 u1 u2 u3 u4 u5 u6 u7:Value)(h:w.heap[b]?=some (.cells #[x,y,z,f,e,d,c,a] T (0,0))):
 ((((((((w.setCell ⟨b,0,none⟩ u0).setCell ⟨b,1,none⟩ u1).setCell ⟨b,2,none⟩ u2).setCell ⟨b,3,none⟩ u3).setCell ⟨b,4,none⟩ u4).setCell ⟨b,5,none⟩ u5).setCell ⟨b,6,none⟩ u6).setCell ⟨b,7,none⟩ u7).heap[b]?=some (.cells #[u0,u1,u2,u3,u4,u5,u6,u7] T (0,0)):=by
 have h0:(w.setCell ⟨b,0,none⟩ u0).heap[b]?=some (.cells #[u0,y,z,f,e,d,c,a] T (0,0)):=heap_set h u0;have g:((w.setCell ⟨b,0,none⟩ u0).setCell ⟨b,1,none⟩ u1).heap[b]?=some (.cells #[u0,u1,z,f,e,d,c,a] T (0,0)):=heap_set h0 u1;have i:(((w.setCell ⟨b,0,none⟩ u0).setCell ⟨b,1,none⟩ u1).setCell ⟨b,2,none⟩ u2).heap[b]?=some (.cells #[u0,u1,u2,f,e,d,c,a] T (0,0)):=heap_set g u2;have j:((((w.setCell ⟨b,0,none⟩ u0).setCell ⟨b,1,none⟩ u1).setCell ⟨b,2,none⟩ u2).setCell ⟨b,3,none⟩ u3).heap[b]?=some (.cells #[u0,u1,u2,u3,e,d,c,a] T (0,0)):=heap_set i u3;have k:(((((w.setCell ⟨b,0,none⟩ u0).setCell ⟨b,1,none⟩ u1).setCell ⟨b,2,none⟩ u2).setCell ⟨b,3,none⟩ u3).setCell ⟨b,4,none⟩ u4).heap[b]?=some (.cells #[u0,u1,u2,u3,u4,d,c,a] T (0,0)):=heap_set j u4;have l:((((((w.setCell ⟨b,0,none⟩ u0).setCell ⟨b,1,none⟩ u1).setCell ⟨b,2,none⟩ u2).setCell ⟨b,3,none⟩ u3).setCell ⟨b,4,none⟩ u4).setCell ⟨b,5,none⟩ u5).heap[b]?=some (.cells #[u0,u1,u2,u3,u4,u5,c,a] T (0,0)):=heap_set k u5;have m:(((((((w.setCell ⟨b,0,none⟩ u0).setCell ⟨b,1,none⟩ u1).setCell ⟨b,2,none⟩ u2).setCell ⟨b,3,none⟩ u3).setCell ⟨b,4,none⟩ u4).setCell ⟨b,5,none⟩ u5).setCell ⟨b,6,none⟩ u6).heap[b]?=some (.cells #[u0,u1,u2,u3,u4,u5,u6,a] T (0,0)):=heap_set l u6;have n:((((((((w.setCell ⟨b,0,none⟩ u0).setCell ⟨b,1,none⟩ u1).setCell ⟨b,2,none⟩ u2).setCell ⟨b,3,none⟩ u3).setCell ⟨b,4,none⟩ u4).setCell ⟨b,5,none⟩ u5).setCell ⟨b,6,none⟩ u6).setCell ⟨b,7,none⟩ u7).heap[b]?=some (.cells #[u0,u1,u2,u3,u4,u5,u6,u7] T (0,0)):=heap_set m u7;exact n
theorem s7{cs:List Value}(h:W.rangeAt n 0 cs/\w.grownBy W none)(g:W.grownBy v none):v.rangeAt n 0 cs/\w.grownBy v none:=
 ⟨iX h.1 g (by simp),aq h.2 g⟩
theorem kU{cs:List Value}(h:W.rangeAt n 0 cs/\w.grownBy W none)(a:w.heap.size<=b)(c:n<w.heap.size)(o:Nat)(v:Value):(W.setCell ⟨b,o,none⟩ v).rangeAt n 0 cs/\w.grownBy (W.setCell ⟨b,o,none⟩ v) none:=
 ⟨uR h.1 _ _ (by dsimp only;omega),aI h.2 _ _ (.inl a)⟩
theorem sq{x:Obj}(h:w.heap[b]?=some x)(g:w.grownBy W none):W.heap[b]?=some x:=iN h g
theorem Kj(key:List Int)(f:Bool)(n:Int)(a:Option Addr)(m cap:Nat)(l:List Int)(w:World)(T:dw key)(U:aV n)(p:bF w a m cap l)(hl:l.length<=50000000):
 Calls prog 148 #[.agg (cJ key),.bool f,.int .u64 n,.slice a m cap] w λe i=>
  ∃g,e=.returned (.slice (some ⟨g,0,none⟩) (l.length+16) (l.length+16))/\w.heap.size<=g/\i.heap[g]?=some (.cells (bv (dm key (aS f) n l)).toArray 5 (0,0))/\w.grownBy i none:=by
 have ch:=p.2.1;subst ch;have cC:=p.2.2.1;have cj:=p.2.2.2.1;unfold maxLen at cj;have bb:=p.1;have c9:(prog.info? 24).map (·.size)=some (bv key).length:=by rw[fC,T.1];exact mQ
 have db:=underlying24;go_enter func148,ntmps148;go_wp2_with (at_make;refine Cj _ _ (by rfl) (by rfl) _ (l.length+16) (by rfl) (by rfl) (by omega) (by omega) ?_;intro H I V);have bj:Below w.heap.size w H:=((Below.refl _ w).alloc (aP _) _).grown V (by simp) (λk e=>by cases e);have cp:=V.size;rw[dQ]at cp I;have de:w.heap.size+1<H.heap.size:=(aY.1 I).1;have br:H.heap[w.heap.size]?=some (.cells (cJ key) 24 (0,0)):=iN (aM _ _) V;refine(vK n _ U).mono ?_;rintro e X⟨rfl,g2⟩;rw[sf];obtain⟨z,s⟩:=exq (X.alloc (.cells #[.int .u8 (aa n 0),.int .u8 (aa n 1),.int .u8 (aa n 2),.int .u8 (aa n 3),.int .u8 (aa n 4),.int .u8 (aa n 5),.int .u8 (aa n 6),.int .u8 (aa n 7)] 300));have Y:H.grownBy z none:=by rw[s];exact ba g2 _
 have bt:z.heap[X.heap.size]?=some (.cells (bv (fH n)).toArray 300 (0,0)):=by rw[s];exact aM _ _
 have al:=iN I Y;have ax:=iN br Y;have K:Below w.heap.size w z:=bj.grown Y bj.size (λk e=>by cases e);have dg:=g2.size;have A:=vO bt (pJ n) 0 8 8 (by simp[iC]) (by omega) (by simp[maxLen]);rw[qb,fJ (by simp[iC])]at A;have bx:=p.ao (tc K);have e1:(fH n).take (l.length+16)=fH n:=fJ (by simp[iC]);have e2:l.take (8+l.length-8)=l:=fJ (by omega);have L:∀W':World,z.grownBy W' (some (w.heap.size+1))->bF W' a l.length cap l:=λW' g=>bx.gb g (λj e=>by
  cases e;by_cases bz:l=[]
  exact .inr (.inl bz)
  ·right;right;intro x N;obtain⟨h,_⟩|⟨b,o,h,cv⟩:=p.2.2.2.2
   rw[h]at N;cases N
   ·rw[h]at N;cases N;have:=cv.lt bz;dsimp only
    omega)
 replace A:=J A;replace al:=J al;replace e1:=J e1;replace e2:=J e2;replace L:=J L;clear bx I bt br;replace p:=J p;go_wp2_with (first|(refine ti _ _ (by rfl) (by rfl) (w.heap.size+1) 0 (l.length+16) (l.length+16) (by rfl) (some ⟨X.heap.size,0,none⟩) 8 8 (by rfl) (fH n) ?_ (List.replicate (l.length+16) 0) 5 ?_ ?_ ?_;(rw[<-s];exact Z A);(rw[<-s];exact Z al);(rw[Z e1];simp[iC]);(rw[Z e1,<-s];intro w4 b0 B))|(refine ti _ _ (by rfl) (by rfl) (w.heap.size+1) 8 (8+l.length-8) (l.length+8) (by rfl) _ _ _ (by rfl) l (Z L _ B) (splice (List.replicate (l.length+16) 0) 0 (fH n)) 5 b0 ?_ ?_;(rw[Z e2,length_splice _ _ _ (by simp[iC])];simp;omega);(rw[Z e2];intro q O g5)));have P:q.heap[w.heap.size]?=some (.cells (cJ key) 24 (0,0)):=by
  have dk:=B.size;have h3:w.heap.size<z.heap.size:=(aY.1 ax).1;exact(g5.block _ (by omega) (by simp)).trans ((B.block _ h3 (by simp)).trans ax)
 have b3:q.drew.rangeAt w.heap.size 0 (bv key):=kj (w:=q.drew) P;have Q:Below w.heap.size w q:=(K.grown B K.size (λk e=>by cases e;omega)).grown g5 (by have:=K.size;have:=B.size;omega) (λk e=>by cases e;omega);obtain⟨r,t⟩:=exq (fH n++(l++List.replicate 8 0));rw[Kf _ _ _ (iC n),List.drop_replicate,show l.length+16-(l.length+8)=8 by omega]at O;have b4:r.length=l.length+16:=by rw[t];simp[iC];omega
 have aC:∀x∈r,W8 x:=by
  rw[t];intro x hx;obtain h|h:=bQ.1 hx
  exact pJ n x h;obtain h|h:=bQ.1 h
  exact bb x h;rw[(List.mem_replicate.1 h).2];unfold W8;omega
 have a0:splice r 8 (dN key (aS f) n ((r.drop 8).take l.length))=fH n++(dN key (aS f) n l++List.replicate 8 0):=by
  rw[t,Ck _ _ _ (iC n),Kg _ _ _ _ (iC n) (ng _ _ _ _)]
 rw[<-t]at O;have a1:q.drew.heap[w.heap.size+1]?=some (.cells (bv r).toArray 5 (0,0)):=O;replace a1:=J a1;replace P:=J P;clear O b0 ax;have dn:=Q.size;have a2:8+l.length<=r.length:=by omega
 replace t:=J t;replace b4:=J b4;replace aC:=J aC;replace a2:=J a2;replace a0:=J a0;clear s L e1 e2 A;go_region_held3 (λi=>i.rangeAt w.heap.size 0 (bv key))
  (first|with_reducible exact b5|with_reducible exact b3)
  (first
    |(go_at_call 173;refine(tU f _).mono ?_;rintro e i⟨rfl,rfl⟩)
    |(go_at_call 174;refine(Ci key (aS f) n (w.heap.size+1) 8 l.length (l.length+8) r 5 _ T (vM f) U (Z aC) (Z a2) (by omega) (by simp[maxLen];omega) (Z a1)).mono ?_;rintro e d⟨rfl,C,D⟩;rw[Z a0]at C;have b5:=iX b3 D (by simp);replace C:=J C;replace D:=J D))
 go_wp2_with fail;have E:=Z C;have a3:=Z D;clear C;replace D:=J a3;have ds:=a3.size;have c:w.heap.size<d.heap.size:=by
  have h5:q.drew.heap.size=q.heap.size:=rfl;have h6:=(aY.1 (Z P)).1;omega
 obtain⟨M,u⟩:=exq (dN key (aS f) n l);rw[<-u]at E;have F:M.length=l.length:=by rw[u];exact ng _ _ _ _
 have a4:∀x∈M,W8 x:=by rw[u];exact tV bb
 have bM:=vO E (Ki a4) 8 M.length (l.length+8) (by simp[iC]) (by omega) (by simp[maxLen];omega);rw[Ck _ _ _ (iC n)]at bM;have hT:Hid (∀W:World,(W.rangeAt w.heap.size 0 (bv key)/\d.grownBy W none)->Calls prog 172 #[.agg (bv key).toArray,.int .u8 (aS f),.int .u64 n,.slice (some ⟨w.heap.size+1,8,none⟩) l.length (l.length+8)] W λe i=>e=.returned (.agg (bv (iD key (aS f) n M)).toArray)/\W.grownBy i none):=J (λW h=>by
  have:=Cg key (aS f) n _ _ _ M W T (vM f) U (bM.ao h.2) (by omega);rw[F]at this;exact this)
 have b7:d.drew.rangeAt w.heap.size 0 (bv key)/\d.grownBy d.drew none:=⟨λj v h=>b5 j v h,aW (aB _ _)⟩
 replace E:=J E;replace u:=J u;replace F:=J F;replace a4:=J a4;clear bM;go_cut [12] (λv wx=>∃G:Nat,v=.pointer (some ⟨G,0,none⟩)/\d.heap.size<=G/\wx.heap[G]?=some (.cells (bv (iD key (aS f) n M)).toArray 300 (0,0))/\d.grownBy wx none);case first=>
  go_region_held3 (λi=>i.rangeAt w.heap.size 0 (bv key)/\d.grownBy i none)
   (first|with_reducible exact y|with_reducible exact b7|(with_reducible exact(kU (kU (kU (kU (kU (kU (kU (kU y (aP _) c _ _) (aP _) c _ _) (aP _) c _ _) (aP _) c _ _) (aP _) c _ _) (aP _) c _ _) (aP _) c _ _) (aP _) c _ _))|with_reducible exact s7 y (aH _ _ none)|with_reducible exact s7 b7 (aH _ _ none))
   (first
     |(go_at_call 173;refine(tU f _).mono ?_;rintro e i⟨rfl,rfl⟩)
     |(go_at_call 172;refine(Z hT _ (by assumption)).mono ?_;rintro e w7⟨rfl,g7⟩;rw[vN];have y:=s7 (w:=d) (by assumption) g7;first|(have R:w7.heap[d.heap.size]?=some (.cells #[.int .u8 0,.int .u8 0,.int .u8 0,.int .u8 0,.int .u8 0,.int .u8 0,.int .u8 0,.int .u8 0] 300 (0,0)):=sq (aM d.drew _) g7;have cw:=qS R;replace R:=J R;obtain⟨⟨z0,z1,z2,z3,z4,z5,z6,z7⟩,zf⟩:=cw)|skip))
  all_goals
   go_wp2_with fail
   go_meet
   refine⟨_,rfl,?_,?_,?_⟩
   first|with_reducible exact aP _|with_reducible exact y.2.size
   rw[vN]
   first|with_reducible exact Cl _ _ _ _ _ _ _ _ (Z R)|with_reducible exact aM _ _
   first|with_reducible exact(kU (kU (kU (kU (kU (kU (kU (kU y (aP _) c _ _) (aP _) c _ _) (aP _) c _ _) (aP _) c _ _) (aP _) c _ _) (aP _) c _ _) (aP _) c _ _) (aP _) c _ _).2|with_reducible exact ba y.2 _
 case rest=>
  obtain⟨G,rfl,du,a8,g8⟩:=hcut;rename_i wx;have cx:=J (iN (Z E) g8);have S:=vO a8 (pJ _) 0 8 8 (by simp[iD,iC]) (by omega) (by simp[maxLen]);rw[qb,fJ (by simp[iD,iC])]at S;replace S:=J S;replace a8:=J a8;go_wp2_with fail;have dx:IntKind.i64.wrap (8+(l.length:Int))=8+(l.length:Int):=by simp[IntKind.wrap,IntKind.bits,IntKind.signed];omega
  have dE:(0:Int)<=8+(l.length:Int):=by omega
  have dG:8+(l.length:Int)<=(l.length:Int)+16:=by omega
  have ea:(8+(l.length:Int)).toNat=8+l.length:=by omega
  have ee:(l.length+16=8+l.length)=False:=by simp;omega
  have eg:l.length+16-(8+l.length)=8:=by omega
  have ca:Hid ((iD key (aS f) n M).take 8=iD key (aS f) n M):=J (fJ (by simp[iD,iC]));have cy:Hid (8+l.length+(iD key (aS f) n M).length<=(fH n++(M++List.replicate 8 (0:Int))).length):=J (by
   have h1:(iD key (aS f) n M).length=8:=by simp[iD,iC]
   have h2:=Z F;have h3:=iC n;simp only[bH,uB]
   omega)
  go_region_held3 (λ_=>True) (trivial) ((refine Ff _ _ (by rfl) (by rfl) (w.heap.size+1) (8+l.length) 8 8 (by rfl) (some ⟨G,0,none⟩) 8 8 (by rfl) (iD key (aS f) n M) (Cf (Z S)) (fH n++(M++List.replicate 8 0)) 5 (Z cx) ?_ ?_;(rw[Z ca];exact Z cy);(rw[Z ca];intro w9 a9 g9;replace a9:=J a9)));go_wp2_with fail;go_ret;refine⟨w.heap.size+1,rfl,by omega,?_,?_⟩
  have h9:=Z a9;rw[<-Z F,Kh _ _ _ _ (iC n) (by simp[iD,iC]),Z u]at h9;unfold dm;rw[fg];exact h9;have b6:Below w.heap.size w d:=(Q.grown (aW (aB q none)) Q.size (λk e=>by cases e)).grown a3 Q.size (λk e=>by cases e;omega);have b8:Below w.heap.size w wc:=b6.grown g8 b6.size (λk e=>by cases e);exact tc ((b8.grown (aW (aB wc none)) b8.size (λk e=>by cases e)).grown g9 b8.size (λk e=>by cases e;omega))
theorem LR(a b c d e f g h i j k l m n p q:Int)(w:World):(Op.equalIn 10000 300 (.agg #[.int .u8 a,.int .u8 b,.int .u8 c,.int .u8 d,.int .u8 e,.int .u8 f,.int .u8 g,.int .u8 h]) (.agg #[.int .u8 i,.int .u8 j,.int .u8 k,.int .u8 l,.int .u8 m,.int .u8 n,.int .u8 p,.int .u8 q])).run prog w=.ok (decide ([a,b,c,d,e,f,g,h]=[i,j,k,l,m,n,p,q])) w:=by
 have u3:=underlying5;have z:=isAgg5;have A:=sizeOf5;rw[show(10000:Nat)=9999+1 from rfl,Op.equalIn];simp only[iU,uK underlying300,iT]
 simp only[Std.Legacy.Range.forIn_eq_forIn_range',Std.Legacy.Range.size,Nat.sub_zero,rB,Nat.div_one,List.range'_succ,List.range'_zero,List.forIn_cons,List.forIn_nil]
 by_cases h0:a=i;case neg=>go_simp
 by_cases r:b=j;case neg=>go_simp
 by_cases s:c=k;case neg=>go_simp
 by_cases t:d=l;case neg=>go_simp
 by_cases u:e=m;case neg=>go_simp
 by_cases v:f=n;case neg=>go_simp
 by_cases x:g=p;case neg=>go_simp
 by_cases y:h=q;case neg=>go_simp
 subst h0 r s t u v x y;go_simp
theorem Dg(key:List Int)(f:Bool)(a:Option Addr)(m cap:Nat)(l:List Int)(w:World)(c:bF w a m cap l)(hl:l.length<16\/300<l.length):
 Calls prog 135 #[.agg (cJ key),.bool f,.slice a m cap] w λe d=>e=.returned (.tuple #[.int .u64 0,.slice none 0 0,.iface 34 (.int .i64 4)])/\w.grownBy d none:=by
 generalize cJ key=K at *;have g:m=l.length:=c.2.1;subst g;clear c;have b:∀W,W=w.alloc (.cells K 24)->w.grownBy W none:=by rintro W rfl;exact aH _ _ _
 replace b:=J b;obtain hl|hl:=hl
 ·have h:decide ((l.length:Int)<16)=true:=by simp;omega
  go_enter func135,ntmps135;go_wp2_with fail;go_ret3;exact⟨rfl,Z b _ rfl⟩
 have h:decide ((l.length:Int)<16)=false:=by simp;omega
 have i:decide (300<(l.length:Int))=true:=by simp;omega
 go_enter func135,ntmps135;go_wp2_with fail;go_ret3;exact⟨rfl,Z b _ rfl⟩
theorem Dh{ob:Obj}(g:(w.drew.alloc ob).grownBy W none):W.heap[w.heap.size]?=some ob:=sq (aM w.drew ob) g
theorem Di{ob:Obj}(g:(w.alloc ob).drew.grownBy W none):W.heap[w.heap.size]?=some ob:=sq (w:=(w.alloc ob).drew) (aM w ob) g
theorem LS(g:W.grownBy w.drew none)(ob:Obj):W.grownBy (w.alloc ob).drew none:=aq g (aH w.drew ob none)
theorem Dj{ob:Obj}(g:(w.alloc ob).grownBy W none):W.heap[w.heap.size]?=some ob:=sq (aM w ob) g
theorem Dk(g:W.grownBy w none)(a:W.heap.size<=b)(u0 u1 u2 u3 u4 u5 u6 u7:Value):W.grownBy ((((((((w.setCell ⟨b,0,none⟩ u0).setCell ⟨b,1,none⟩ u1).setCell ⟨b,2,none⟩ u2).setCell ⟨b,3,none⟩ u3).setCell ⟨b,4,none⟩ u4).setCell ⟨b,5,none⟩ u5).setCell ⟨b,6,none⟩ u6).setCell ⟨b,7,none⟩ u7) none:=
 aI (aI (aI (aI (aI (aI (aI (aI g _ _ (.inl a)) _ _ (.inl a)) _ _ (.inl a)) _ _ (.inl a)) _ _ (.inl a)) _ _ (.inl a)) _ _ (.inl a)) _ _ (.inl a)
theorem LU(n:Nat)(m:List Int)(h:m.length=n):splice (List.replicate n 0) 0 m=m:=by
 unfold splice;rw[List.take_zero,jQ,dR,qE (by simp;omega),ot]
theorem LV(m k:List Int)(h:m.length=k.length):splice m 0 k=k:=by
 unfold splice;rw[List.take_zero,jQ,dR,qE (by omega),ot]
theorem s5{wc:World}{cs:List Value}{a b c d e:Value}(h:w.rangeAt n 0 cs/\(w.cell? ⟨k,0,none⟩=some x/\w.cell? ⟨k,1,none⟩=some y/\w.cell? ⟨k,2,none⟩=some z/\w.cell? ⟨k,3,none⟩=some a/\w.cell? ⟨k,4,none⟩=some b/\w.cell? ⟨k,5,none⟩=some c/\w.cell? ⟨k,6,none⟩=some d/\w.cell? ⟨k,7,none⟩=some e)/\wc.grownBy w none)(g:w.grownBy W none):
 W.rangeAt n 0 cs/\(W.cell? ⟨k,0,none⟩=some x/\W.cell? ⟨k,1,none⟩=some y/\W.cell? ⟨k,2,none⟩=some z/\W.cell? ⟨k,3,none⟩=some a/\W.cell? ⟨k,4,none⟩=some b/\W.cell? ⟨k,5,none⟩=some c/\W.cell? ⟨k,6,none⟩=some d/\W.cell? ⟨k,7,none⟩=some e)/\wc.grownBy W none:=by
 obtain⟨f,⟨c0,c1,c2,c3,c4,c5,c6,c7⟩,i⟩:=h;exact⟨iX f g (by simp),⟨g.cell c0 (by simp),g.cell c1 (by simp),g.cell c2 (by simp),g.cell c3 (by simp),g.cell c4 (by simp),g.cell c5 (by simp),g.cell c6 (by simp),g.cell c7 (by simp)⟩,aq i g⟩
theorem Dl(key:List Int)(f:Bool)(a:Option Addr)(m cap:Nat)(l:List Int)(w:World)(hk:dw key)(M:bF w a m cap l)(dE:16<=l.length)(dG:l.length<=300):
 Calls prog 135 #[.agg (cJ key),.bool f,.slice a m cap] w λe b=>
  ((eC key (aS f) l/\∃V c',e=.returned (.tuple #[.int .u64 (bp l),.slice V (l.length-16) c',.nilIface])/\bF b V (l.length-16) c' (dN key (aS f) (bp l) (bT l))/\(∀x,V=some x->w.heap.size<=x.block)/\(l.length=16->V=none))\/
    (¬eC key (aS f) l/\e=.returned (.tuple #[.int .u64 0,.slice none 0 0,.iface 34 (.int .i64 4)])))/\w.grownBy b none:=by
 have e8:(prog.info? 24).map (·.size)=some (bv key).length:=by rw[fC,hk.1];exact mQ
 have e9:=underlying24;have ea:m=l.length:=M.2.1;subst ea;have ee:=M.2.2.1;have eg:=M.2.2.2.1;unfold maxLen at eg;have G:=M.1;obtain⟨-,-,-,-,h5⟩:=M;obtain⟨rfl,rfl⟩|⟨p,o,rfl,cv⟩:=h5
 omega;have h1:decide ((l.length:Int)<16)=false:=by simp;omega
 have h2:decide (300<(l.length:Int))=false:=by simp;omega
 obtain⟨d,O⟩:=exq (w.alloc (.cells (cJ key) 24));have P:w.grownBy d none:=by rw[O];exact aH _ _ _
 have bz:d.heap[w.heap.size]?=some (.cells (cJ key) 24 (0,0)):=by rw[O];exact aM _ _
 have Q:=cv.gb P (by simp);have hA:Hid (∀W:World,d.grownBy W none->Calls prog 170 #[.slice (some ⟨p,o,none⟩) l.length cap] W λe b=>e=.returned (.agg (bv (l.take 8)).toArray)/\W.grownBy b none):=J (λW g=>
  B8 _ _ _ l W ⟨G,rfl,ee,by simp[maxLen];omega,.inr ⟨p,o,rfl,Q.gb g (by simp)⟩⟩ (by omega))
 have hN:Hid (∀W:World,Calls prog 171 #[.agg (bv (l.take 8)).toArray] W λe b=>e=.returned (.int .u64 (bp l))/\W.grownBy b none):=J (λW=>
  JW _ W (by simp;omega) (λx k=>G x (iS k)))
 have X:(qq l).length=8:=by simp[qq];omega
 obtain⟨s,t,u,v,y,z,A,B,k⟩:=yA X;have hB:Hid (∀W:World,d.grownBy W none->Calls prog 170 #[.slice (some ⟨p,o+(l.length-8),none⟩) (l.length-(l.length-8)) (cap-(l.length-8))] W λe b=>e=.returned (.agg #[.int .u8 s,.int .u8 t,.int .u8 u,.int .u8 v,.int .u8 y,.int .u8 z,.int .u8 A,.int .u8 B])/\W.grownBy b none):=J (λW g=>by
  have:=B8 (some ⟨p,o+(l.length-8),none⟩) (l.length-(l.length-8)) (cap-(l.length-8)) (qq l) W ⟨λx k=>G x (iG k),by rw[X];omega,by omega,by simp[maxLen];omega,.inr ⟨p,_,rfl,(Q.gb g (by simp)).drop _⟩⟩ (by omega);rw[fJ (by omega),k]at this;exact this)
 have iZ:∀W,(Instr.slice 112 (.slice (some ⟨p,o,none⟩) l.length cap) (some (.int .i64 ((l.length:Int)-8))) none none).run prog W=.ok (.slice (some ⟨p,o+(l.length-8),none⟩) (l.length-(l.length-8)) (cap-(l.length-8))) W:=λW=>by
  have:=J2 p o l.length cap (l.length-8) (by omega) (by omega) W;rwa[show((l.length-8:Nat):Int)=(l.length:Int)-8 by omega]at this
 have ff:IntKind.i64.wrap ((l.length:Int)-8)=(l.length:Int)-8:=by simp[IntKind.wrap,IntKind.bits,IntKind.signed];omega
 have fo:(0:Int)<=(l.length:Int)-8:=by omega
 have fq:(8:Int)<=(l.length:Int)-8:=by omega
 have fs:(l.length:Int)-8<=(cap:Int):=by omega
 have fy:(l.length:Int)-8<=(l.length:Int):=by omega
 have fA:((l.length:Int)-8).toNat=l.length-8:=by omega
 have ga:(cap=l.length-8)=False:=by simp;omega
 have gd:(cap=8)=False:=by simp;omega
 replace k:=J k;replace G:=J G;replace X:=J X;replace Q:=J Q;replace bz:=J bz;clear cv;have Y:d.grownBy d.drew none:=aW (aB _ _);go_enter func135,ntmps135;go_upto_region 4 with fail;rw[<-O];replace O:=J O;go_cut [10,11,12] (λej ek eo wx=>∃c:Nat,ej=.int .u64 (bp l)/\ek=.slice (some ⟨p,o+8,none⟩) (l.length-16) (cap-8)/\eo=.pointer (some ⟨c,0,none⟩)/\d.heap.size<=c/\wx.heap[c]?=some (.cells #[.int .u8 s,.int .u8 t,.int .u8 u,.int .u8 v,.int .u8 y,.int .u8 z,.int .u8 A,.int .u8 B] 300 (0,0))/\d.grownBy wx none);case first=>
  go_region_held3 (λb=>d.grownBy b none)
   (first|with_reducible exact K|with_reducible exact bM|with_reducible exact b0|with_reducible exact Y|with_reducible exact Dk K D _ _ _ _ _ _ _ _|with_reducible exact ba K _|with_reducible exact ba bM _|with_reducible exact ba b0 _|with_reducible exact ba Y _|with_reducible exact LS Y _)
   (first
     |(go_at_call 171;refine(Z hN _).mono ?_;rintro e w3⟨rfl,R⟩;have bM:=aq (w:=d) (by assumption) R;first|(have i:=J (Di R);have D:d.heap.size<=d.heap.size:=aP _)|(have i:=J (Dh R);have D:d.heap.size<=d.heap.size:=aP _)|(have i:=J (Dj R);have D:=b0.size)|(have i:=J (sq (Z i) R))|skip)
     |(go_at_call 170;refine(Z hA _ (by assumption)).mono ?_;rintro e w2⟨rfl,g2⟩;have b0:=aq (w:=d) (by assumption) g2;first|(have i:=J (Di g2);have D:d.heap.size<=d.heap.size:=aP _)|(have i:=J (Dh g2);have D:d.heap.size<=d.heap.size:=aP _)|skip)
     |(go_at_call 170;refine(Z hB _ (by assumption)).mono ?_;rintro e w4⟨rfl,g4⟩;have K:=aq (w:=d) (by assumption) g4;first|(have i:=Dj g4;have D:=bM.size;obtain⟨⟨z0,z1,z2,z3,z4,z5,z6,z7⟩,zf⟩:=qS i;replace i:=J i)|(have i:=sq (Z i) g4;obtain⟨⟨z0,z1,z2,z3,z4,z5,z6,z7⟩,zf⟩:=qS i;replace i:=J i)|skip))
  all_goals
   go_wp2_with fail
   go_meet
   refine⟨_,rfl,by rw[Nat.sub_sub],rfl,?_,?_,?_⟩
   first|with_reducible exact D|with_reducible exact K.size
   first|with_reducible exact Cl _ _ _ _ _ _ _ _ (Z i)|with_reducible exact aM _ _
   first|with_reducible exact Dk K D _ _ _ _ _ _ _ _|with_reducible exact ba K _
 case rest=>
  obtain⟨c,rfl,rfl,rfl,D,i,L⟩:=hcut;have ey:=qS i;obtain⟨⟨z0,z1,z2,z3,z4,z5,z6,z7⟩,-⟩:=ey;have S:=iN (Z bz) L;have cC:wc.drew.rangeAt w.heap.size 0 (bv key)/\(wc.drew.cell? ⟨c,0,none⟩=some (.int .u8 s)/\wc.drew.cell? ⟨c,1,none⟩=some (.int .u8 t)/\wc.drew.cell? ⟨c,2,none⟩=some (.int .u8 u)/\wc.drew.cell? ⟨c,3,none⟩=some (.int .u8 v)/\wc.drew.cell? ⟨c,4,none⟩=some (.int .u8 y)/\wc.drew.cell? ⟨c,5,none⟩=some (.int .u8 z)/\wc.drew.cell? ⟨c,6,none⟩=some (.int .u8 A)/\wc.drew.cell? ⟨c,7,none⟩=some (.int .u8 B))/\wc.grownBy wc.drew none:=
   ⟨kj (w:=wc.drew) S,⟨z0,z1,z2,z3,z4,z5,z6,z7⟩,aW (aB _ _)⟩
  replace S:=J S;replace i:=J i;clear z0 z1 z2 z3 z4 z5 z6 z7 iZ hA hN hB Y;have T:(bT l).length=l.length-16:=by simp[bT];omega
  have a4:Hid (bF wc (some ⟨p,o+8,none⟩) (l.length-16) (cap-8) (bT l)):=
   J ⟨λx k=>(Z G) x (iG (iS k)),T.symm,by omega,by simp only[maxLen];omega,.inr ⟨p,o+8,rfl,(((Z Q).gb L (by simp)).drop 8).take _⟩⟩
  have c9:aV (bp l):=by
   have h8:=tS l (Z G) 8 (by omega);exact⟨h8.1,by have:=h8.2;unfold bp;omega⟩
  have hT:Hid (∀W:World,(W.rangeAt w.heap.size 0 (bv key)/\(W.cell? ⟨c,0,none⟩=some (.int .u8 s)/\W.cell? ⟨c,1,none⟩=some (.int .u8 t)/\W.cell? ⟨c,2,none⟩=some (.int .u8 u)/\W.cell? ⟨c,3,none⟩=some (.int .u8 v)/\W.cell? ⟨c,4,none⟩=some (.int .u8 y)/\W.cell? ⟨c,5,none⟩=some (.int .u8 z)/\W.cell? ⟨c,6,none⟩=some (.int .u8 A)/\W.cell? ⟨c,7,none⟩=some (.int .u8 B))/\wc.grownBy W none)->Calls prog 172 #[.agg (bv key).toArray,.int .u8 (aS f),.int .u64 (bp l),.slice (some ⟨p,o+8,none⟩) (l.length-16) (cap-8)] W λe b=>e=.returned (.agg (bv (iD key (aS f) (bp l) (bT l))).toArray)/\W.grownBy b none):=J (λW h=>
   Cg key (aS f) (bp l) _ _ _ (bT l) W hk (vM f) c9 ((Z a4).ao h.2.2) (by omega))
  replace T:=J T;by_cases hn:bp l<=4611686018427387903
  ·have db:decide (4611686018427387903<bp l)=false:=by simp;omega
   obtain⟨N,F⟩:=exq (bp l);have bb:=LR s t u v y z A B (aa (cT key (aD (aS f) 2 N++bT l)) 0) (aa (cT key (aD (aS f) 2 N++bT l)) 1) (aa (cT key (aD (aS f) 2 N++bT l)) 2) (aa (cT key (aD (aS f) 2 N++bT l)) 3) (aa (cT key (aD (aS f) 2 N++bT l)) 4) (aa (cT key (aD (aS f) 2 N++bT l)) 5) (aa (cT key (aD (aS f) 2 N++bT l)) 6) (aa (cT key (aD (aS f) 2 N++bT l)) 7);have bj:([s,t,u,v,y,z,A,B]=[aa (cT key (aD (aS f) 2 N++bT l)) 0,aa (cT key (aD (aS f) 2 N++bT l)) 1,aa (cT key (aD (aS f) 2 N++bT l)) 2,aa (cT key (aD (aS f) 2 N++bT l)) 3,aa (cT key (aD (aS f) 2 N++bT l)) 4,aa (cT key (aD (aS f) 2 N++bT l)) 5,aa (cT key (aD (aS f) 2 N++bT l)) 6,aa (cT key (aD (aS f) 2 N++bT l)) 7])=(iD key (aS f) (bp l) (bT l)=qq l):=by
    rw[Z k,<-F];exact propext ⟨λh=>h.symm,λh=>h.symm⟩
   have ez:aV N:=by rw[F];exact c9
   rw[<-F]at hT db⊢;replace F:=J F;by_cases H:iD key (aS f) (bp l) (bT l)=qq l
   ·have de:∀W,(Op.equalIn 10000 300 (.agg #[.int .u8 s,.int .u8 t,.int .u8 u,.int .u8 v,.int .u8 y,.int .u8 z,.int .u8 A,.int .u8 B]) (.agg #[.int .u8 (aa (cT key (aD (aS f) 2 N++bT l)) 0),.int .u8 (aa (cT key (aD (aS f) 2 N++bT l)) 1),.int .u8 (aa (cT key (aD (aS f) 2 N++bT l)) 2),.int .u8 (aa (cT key (aD (aS f) 2 N++bT l)) 3),.int .u8 (aa (cT key (aD (aS f) 2 N++bT l)) 4),.int .u8 (aa (cT key (aD (aS f) 2 N++bT l)) 5),.int .u8 (aa (cT key (aD (aS f) 2 N++bT l)) 6),.int .u8 (aa (cT key (aD (aS f) 2 N++bT l)) 7)])).run prog W=.ok true W:=λW=>by
     rw[bb W];simp only[bj,H,decide_true]
    have q:eC key (aS f) l:=⟨dE,dG,H,hn⟩
    clear bb bj;replace H:=J H;replace q:=J q;obtain⟨n,r⟩:=exq (l.length-16);rw[<-r];rw[<-r]at hT a4;replace r:=J r;go_wp2_with fail;go_region_held3 (λb=>b.rangeAt w.heap.size 0 (bv key)/\(b.cell? ⟨c,0,none⟩=some (.int .u8 s)/\b.cell? ⟨c,1,none⟩=some (.int .u8 t)/\b.cell? ⟨c,2,none⟩=some (.int .u8 u)/\b.cell? ⟨c,3,none⟩=some (.int .u8 v)/\b.cell? ⟨c,4,none⟩=some (.int .u8 y)/\b.cell? ⟨c,5,none⟩=some (.int .u8 z)/\b.cell? ⟨c,6,none⟩=some (.int .u8 A)/\b.cell? ⟨c,7,none⟩=some (.int .u8 B))/\wc.grownBy b none)
    (first|with_reducible exact C|with_reducible exact cC)
    (first
      |(go_at_call 173;refine(tU f _).mono ?_;rintro e b⟨rfl,rfl⟩)
      |(go_at_call 172;refine(Z hT _ (by assumption)).mono ?_;rintro e I⟨rfl,g7⟩;rw[vN];have C:=s5 (wc:=wc) (by assumption) g7))
    clear de;by_cases E:n=0
    ·have hz:((n:Int)==0)=true:=by simp[E]
     have eL:(n==0)=true:=by simp[E]
     go_wp2_with fail;go_ret3;refine⟨.inl ⟨Z q,none,0,?_,?_,λx k=>(by cases k),λ_=>rfl⟩,aq P (aq L C.2.2)⟩
     rw[Z F,<-Z r,E];rfl;have eS:bT l=[]:=by rw[<-List.length_eq_zero_iff,Z T,<-Z r,E]
     rw[<-Z r,E,eS];exact⟨λx k=>(by cases k),rfl,aP _,by simp[maxLen],.inl ⟨rfl,rfl⟩⟩
    have hz:((n:Int)==0)=false:=by simp[E]
    have eL:(n==0)=false:=by simp[E]
    have e3:=J E;clear E;have gi:n<=300:=by have:=Z r;omega
    have U:(bT l).length=n:=by rw[Z T,Z r]
    have b7:Hid ((bT l).take n=bT l):=J (fJ (by omega));have e4:Hid (0+(bT l).length<=(List.replicate n (0:Int)).length):=J (by simp;omega);have dg:=J (Z a4).1;replace U:=J U;go_wp2_with (first|(at_make;refine Cj _ _ (by rfl) (by rfl) _ n (by rfl) (by rfl) (by omega) (by omega) ?_;intro w8 b8 g8;replace b8:=J b8)|(refine ti _ _ (by rfl) (by rfl) I.heap.size 0 n n (by rfl) (some ⟨p,o+8,none⟩) n (cap-8) (by rfl) (bT l) ((Z a4).ao (aq C.2.2 g8)) (List.replicate n 0) 5 (Z b8) ?_ ?_;(rw[Z b7];exact Z e4);(rw[Z b7];intro w9 br g9;rw[LU n _ (Z U)]at br;replace br:=J br)));have ds:w9.drew.rangeAt w.heap.size 0 (bv key):=by
     have h7:=C.2.2.size;have h8:=(aY.1 (Z S)).1;exact iX (iX C.1 g8 (by simp)) (aW g9) (λe=>by have:=aO e;omega)
    have e6:Hid (w9.drew.heap[I.heap.size]?=some (.cells (bv (bT l)).toArray 5 (0,0))):=J (Z br);go_region_held3 (λb=>b.rangeAt w.heap.size 0 (bv key))
     (first|with_reducible exact e7|with_reducible exact ds)
     (first
       |(go_at_call 173;refine(tU f _).mono ?_;rintro e b⟨rfl,rfl⟩)
       |(go_at_call 174;refine(Ci key (aS f) N I.heap.size 0 n n (bT l) 5 _ hk (vM f) ez (Z dg) (by have:=Z U;omega) (by omega) (by simp[maxLen];omega) (Z e6)).mono ?_;rintro e gn⟨rfl,ch,bt⟩;have e7:=iX ds bt (λe=>by have h6:=aO e;have h7:=C.2.2.size;have h8:=(aY.1 (Z S)).1;omega);replace ch:=J ch;replace bt:=J bt))
    go_wp2_with fail;go_ret3;have du:=Z ch;rw[qb,Z b7,LV _ _ (by rw[ng])]at du;have gr:(dN key (aS f) N (bT l)).length=n:=by rw[ng,Z U]
    have dx:=vO du (tV (Z dg)) 0 n n (by omega) (aP _) (by simp[maxLen];omega);rw[qb,fJ (by omega)]at dx;have cj:w.grownBy I none:=aq P (aq L C.2.2);refine⟨.inl ⟨Z q,some ⟨I.heap.size,0,none⟩,n,?_,?_,λx k=>(by cases k;exact cj.size),λgu=>absurd (show n=0 by have:=Z r;omega) (Z e3)⟩,?_⟩
    rw[Z F,<-Z r];rfl;rw[<-Z r,<-Z F];exact dx;exact oU (cF (cX (aq cj g8) (some I.heap.size)) (aq (aW g9) (Z bt)) (λj e=>.inr rfl)) cj.size
   have de:∀W,(Op.equalIn 10000 300 (.agg #[.int .u8 s,.int .u8 t,.int .u8 u,.int .u8 v,.int .u8 y,.int .u8 z,.int .u8 A,.int .u8 B]) (.agg #[.int .u8 (aa (cT key (aD (aS f) 2 N++bT l)) 0),.int .u8 (aa (cT key (aD (aS f) 2 N++bT l)) 1),.int .u8 (aa (cT key (aD (aS f) 2 N++bT l)) 2),.int .u8 (aa (cT key (aD (aS f) 2 N++bT l)) 3),.int .u8 (aa (cT key (aD (aS f) 2 N++bT l)) 4),.int .u8 (aa (cT key (aD (aS f) 2 N++bT l)) 5),.int .u8 (aa (cT key (aD (aS f) 2 N++bT l)) 6),.int .u8 (aa (cT key (aD (aS f) 2 N++bT l)) 7)])).run prog W=.ok false W:=λW=>by
    rw[bb W];simp only[bj,H,s6]
   have q:¬eC key (aS f) l:=λh=>H h.2.2.1
   clear bb bj H;replace q:=J q;go_wp2_with fail;go_region_held3 (λb=>b.rangeAt w.heap.size 0 (bv key)/\(b.cell? ⟨c,0,none⟩=some (.int .u8 s)/\b.cell? ⟨c,1,none⟩=some (.int .u8 t)/\b.cell? ⟨c,2,none⟩=some (.int .u8 u)/\b.cell? ⟨c,3,none⟩=some (.int .u8 v)/\b.cell? ⟨c,4,none⟩=some (.int .u8 y)/\b.cell? ⟨c,5,none⟩=some (.int .u8 z)/\b.cell? ⟨c,6,none⟩=some (.int .u8 A)/\b.cell? ⟨c,7,none⟩=some (.int .u8 B))/\wc.grownBy b none)
   (first|with_reducible exact C|with_reducible exact cC)
   (first
     |(go_at_call 173;refine(tU f _).mono ?_;rintro e b⟨rfl,rfl⟩)
     |(go_at_call 172;refine(Z hT _ (by assumption)).mono ?_;rintro e I⟨rfl,g7⟩;rw[vN];have C:=s5 (wc:=wc) (by assumption) g7))
   go_wp2_with fail;go_ret3;exact⟨.inr ⟨Z q,rfl⟩,aq P (aq L C.2.2)⟩
  have db:decide (4611686018427387903<bp l)=true:=by simp;omega
  have q:¬eC key (aS f) l:=λh=>hn h.2.2.2
  replace q:=J q;clear hn;go_wp2_with fail;go_quiet (fail);go_wp2_with fail;go_ret3;exact⟨.inr ⟨Z q,rfl⟩,aq P (aq L (di (aB _ _) _))⟩
