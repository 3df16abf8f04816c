import Derived.Laws.StructEq
import Derived.Test.YtjnmokmchdfchaaGreatDoorZWd
set_option maxRecDepth 1000000
set_option maxHeartbeats 0
set_option linter.all false
namespace Go.Proofs.YtjnmokmchdfchaaGreatDoor
open Go.RowKit Tryz
attribute[local go_sem↓]Go.wp_at_zero Go.wp_at_succ
variable{f:Act}{F:Array Oper}{G:Exit->Act->World->Prop}{p q:Int}{K L M:List Int}{b k n:Nat}{I:Oper}{T:TypeId}{x y z:Value}{W v w:World}
theorem IX(n:Nat):(madeCells (Value.cells (.int .u8 0)) (n*1)).toList=bv (List.replicate n 0):=by
 simp only[madeCells,bv,Value.cells,Array.toList_map,Array.toList_range,Nat.mul_one,List.map_replicate]
 rw[show(λx=> #[Value.int IntKind.u8 0][x % #[Value.int IntKind.u8 0].size]!)=λ_=>Value.int IntKind.u8 0 from funext λx=>by
  rw[show #[Value.int IntKind.u8 0].size=1 from rfl,Nat.mod_one];rfl]
 exact List.eq_replicate_iff.2 ⟨by simp,by simp⟩
theorem Bl{rest:List Oper}(l c:Operand)(i:I.op=Op.makeSlice 112 l c)(j:I.guard=none)
 (L:Int) (n:Nat) (hl:f.eval l=.int .i64 L) (k:f.eval c=.int .i64 L) (d:L=(n:Int)) (u:n<=100000000)
 (m:∀a,a.heap[w.heap.size]?=some (.cells (bv (List.replicate n 0)).toArray 5 (0,0))->w.grownBy a none->wpList prog F G rest (f.put I.dst (.slice (some ⟨w.heap.size,0,none⟩) n n)) a):wpList prog F G (I::rest) f w:=by
 obtain⟨p,hi,q,r,s⟩:=kj vV;refine wpList_make_full w j l c _ i w.heap.size 5 p (.int .u8 0) 1 underlying112 hi q r .i64 .i64 L L n hl k d d (by rw[s];omega) (by simp[maxLen];omega) (aI _) ?_;intro a ho g;refine m a ?_ g;obtain⟨v,b⟩:=ho;obtain⟨b,_⟩|⟨x,cap,cur,e1,e2,t,y,z,e,h⟩:=b
 cases b;simp only[Value.slice.injEq,kM,Addr.mk.injEq,and_true,true_and]at e1;obtain⟨rfl,rfl⟩:=e1;rw[t];rw[IX,Nat.mul_one]at h;rw[Nat.mul_one]at e;have:cur.toList=bv (List.replicate n 0):=by rw[<-h,eG (by simp[e])]
 rw[<-this]
def sd(f:Bool):Int:=if f then 0 else 1
theorem uR(f:Bool):W8 (sd f):=by cases f<;>simp[sd,W8]
theorem s6(f:Bool)(w:World):Calls prog 173 #[.bool f] w λe a=>e=.returned (.int .u8 (sd f))/\a=w:=by
 cases f
 ·go_enter func173,ntmps173;go_wp2;go_ret;exact⟨rfl,rfl⟩
 go_enter func173,ntmps173;go_wp2;go_ret;exact⟨rfl,rfl⟩
theorem uS(key:List Int)(s n:Int)(l:List Int):(bv (im key s n l)).toArray= #[.int .u8 (aa (cN key (aL s 2 n++l)) 0),.int .u8 (aa (cN key (aL s 2 n++l)) 1),.int .u8 (aa (cN key (aL s 2 n++l)) 2),.int .u8 (aa (cN key (aL s 2 n++l)) 3),.int .u8 (aa (cN key (aL s 2 n++l)) 4),.int .u8 (aa (cN key (aL s 2 n++l)) 5),.int .u8 (aa (cN key (aL s 2 n++l)) 6),.int .u8 (aa (cN key (aL s 2 n++l)) 7)]:=rfl
theorem s8(h:w.heap[b]?=some (.cells (bv L).toArray T (0,0)))(hl:∀x∈L,W8 x)(o n c:Nat)(f:o+n<=L.length)(a:n<=c)(d:c<=maxLen):bh w (some ⟨b,o,none⟩) n c ((L.drop o).take n):=
 ⟨λx e=>hl x (iZ (iY e)),by simp;omega,a,d,.inr ⟨b,o,rfl,(sV h hl o).take n⟩⟩
theorem IY(H R l:List Int)(a:H.length=8):splice (splice R 0 H) 8 l=H++(l++R.drop (l.length+8)):=by
 have e:splice R 0 H=H++R.drop 8:=by simp[splice,a]
 have e2:8+(8+l.length-8)=l.length+8:=by omega
 rw[e];unfold splice;rw[tB (by omega),eG (by omega),List.drop_append,a,qf (by omega),jQ,List.drop_drop,e2]
theorem IZ(H l m a:List Int)(b:H.length=8)(c:m.length=l.length):splice (H++(l++a)) 8 m=H++(m++a):=by
 have e2:8+m.length-8=l.length:=by omega
 unfold splice;rw[tB (by omega),eG (by omega),List.drop_append,b,qf (by omega),jQ,e2,List.drop_append,qf (by omega),jQ,qO,om]
theorem I0(H m a T:List Int)(b:H.length=8)(c:T.length=a.length):splice (H++(m++a)) (8+m.length) T=H++(m++T):=by
 have e:(H++m).length=8+m.length:=by rw[bG,b]
 unfold splice;rw[<-eA H m a,tB (by omega),eG (by omega),List.drop_append,qf (by omega),jQ,qf (by omega),nw,eA]
theorem Bm(H l a:List Int)(b:H.length=8):((H++(l++a)).drop 8).take l.length=l:=by
 rw[List.drop_append,b,qf (by omega),jQ,qO,om,tB (aI _),eG (aI _)]
theorem uT(hl:∀x∈K,W8 x):∀x∈eu L p q K,W8 x:=by
 intro x a;obtain⟨i,_,rfl⟩:=fh.1 a;exact Bd (pI hl i) (xD _ _)
theorem I1(a:∀x∈M,W8 x):∀x∈eW p++(M++List.replicate 8 0),W8 x:=by
 intro x b;obtain h|h:=ck.1 b
 exact oS p x h;obtain h|h:=ck.1 h
 exact a x h;rw[(List.mem_replicate.1 h).2];unfold W8;omega
theorem Bp{f e d c a:Value}(u0 u1 u2 u3 u4 u5 u6 u7:Value)(h:w.heap[b]?=some (.cells #[x,y,z,f,e,d,c,a] T (0,0))):
 ((((((((w.setCell ⟨b,0,none⟩ u0).setCell ⟨b,1,none⟩ u1).setCell ⟨b,2,none⟩ u2).setCell ⟨b,3,none⟩ u3).setCell ⟨b,4,none⟩ u4).setCell ⟨b,5,none⟩ u5).setCell ⟨b,6,none⟩ u6).setCell ⟨b,7,none⟩ u7).heap[b]?=some (.cells #[u0,u1,u2,u3,u4,u5,u6,u7] T (0,0)):=by
 have h0:(w.setCell ⟨b,0,none⟩ u0).heap[b]?=some (.cells #[u0,y,z,f,e,d,c,a] T (0,0)):=heap_set h u0;have g:((w.setCell ⟨b,0,none⟩ u0).setCell ⟨b,1,none⟩ u1).heap[b]?=some (.cells #[u0,u1,z,f,e,d,c,a] T (0,0)):=heap_set h0 u1;have i:(((w.setCell ⟨b,0,none⟩ u0).setCell ⟨b,1,none⟩ u1).setCell ⟨b,2,none⟩ u2).heap[b]?=some (.cells #[u0,u1,u2,f,e,d,c,a] T (0,0)):=heap_set g u2;have j:((((w.setCell ⟨b,0,none⟩ u0).setCell ⟨b,1,none⟩ u1).setCell ⟨b,2,none⟩ u2).setCell ⟨b,3,none⟩ u3).heap[b]?=some (.cells #[u0,u1,u2,u3,e,d,c,a] T (0,0)):=heap_set i u3;have k:(((((w.setCell ⟨b,0,none⟩ u0).setCell ⟨b,1,none⟩ u1).setCell ⟨b,2,none⟩ u2).setCell ⟨b,3,none⟩ u3).setCell ⟨b,4,none⟩ u4).heap[b]?=some (.cells #[u0,u1,u2,u3,u4,d,c,a] T (0,0)):=heap_set j u4;have l:((((((w.setCell ⟨b,0,none⟩ u0).setCell ⟨b,1,none⟩ u1).setCell ⟨b,2,none⟩ u2).setCell ⟨b,3,none⟩ u3).setCell ⟨b,4,none⟩ u4).setCell ⟨b,5,none⟩ u5).heap[b]?=some (.cells #[u0,u1,u2,u3,u4,u5,c,a] T (0,0)):=heap_set k u5;have m:(((((((w.setCell ⟨b,0,none⟩ u0).setCell ⟨b,1,none⟩ u1).setCell ⟨b,2,none⟩ u2).setCell ⟨b,3,none⟩ u3).setCell ⟨b,4,none⟩ u4).setCell ⟨b,5,none⟩ u5).setCell ⟨b,6,none⟩ u6).heap[b]?=some (.cells #[u0,u1,u2,u3,u4,u5,u6,a] T (0,0)):=heap_set l u6;have n:((((((((w.setCell ⟨b,0,none⟩ u0).setCell ⟨b,1,none⟩ u1).setCell ⟨b,2,none⟩ u2).setCell ⟨b,3,none⟩ u3).setCell ⟨b,4,none⟩ u4).setCell ⟨b,5,none⟩ u5).setCell ⟨b,6,none⟩ u6).setCell ⟨b,7,none⟩ u7).heap[b]?=some (.cells #[u0,u1,u2,u3,u4,u5,u6,u7] T (0,0)):=heap_set m u7;exact n
theorem s7{cs:List Value}(h:W.rangeAt n 0 cs/\w.grownBy W none)(g:W.grownBy v none):v.rangeAt n 0 cs/\w.grownBy v none:=
 ⟨iK h.1 g (by simp),aj h.2 g⟩
theorem kz{cs:List Value}(h:W.rangeAt n 0 cs/\w.grownBy W none)(a:w.heap.size<=b)(c:n<w.heap.size)(o:Nat)(v:Value):(W.setCell ⟨b,o,none⟩ v).rangeAt n 0 cs/\w.grownBy (W.setCell ⟨b,o,none⟩ v) none:=
 ⟨tZ h.1 _ _ (by dsimp only;omega),aD h.2 _ _ (.inl a)⟩
theorem rL{x:Obj}(h:w.heap[b]?=some x)(g:w.grownBy W none):W.heap[b]?=some x:=iq h g
theorem Bq(key:List Int)(f:Bool)(n:Int)(a:Option Addr)(m cap:Nat)(l:List Int)(w:World)(S:di key)(T:aR n)(p:bh w a m cap l)(hl:l.length<=50000000):
 Calls prog 148 #[.agg (b9 key),.bool f,.int .u64 n,.slice a m cap] w λe i=>
  ∃g,e=.returned (.slice (some ⟨g,0,none⟩) (l.length+16) (l.length+16))/\w.heap.size<=g/\i.heap[g]?=some (.cells (bv (cT key (sd f) n l)).toArray 5 (0,0))/\w.grownBy i none:=by
 have b5:=p.2.1;subst b5;have cp:=p.2.2.1;have b7:=p.2.2.2.1;unfold maxLen at b7;have bb:=p.1;have cv:(prog.info? 24).map (·.size)=some (bv key).length:=by rw[fK,S.1];exact mh
 have cw:=underlying24;go_enter func148,ntmps148;go_wp2_with (at_make;refine Bl _ _ (by rfl) (by rfl) _ (l.length+16) (by rfl) (by rfl) (by omega) (by omega) ?_;intro H I U);have bj:Below w.heap.size w H:=((Below.refl _ w).alloc (aI _) _).grown U (by simp) (λk e=>by cases e);have ca:=U.size;rw[dC]at ca I;have cx:w.heap.size+1<H.heap.size:=(aO.1 I).1;have br:H.heap[w.heap.size]?=some (.cells (b9 key) 24 (0,0)):=iq (aH _ _) U;refine(uP n _ T).mono ?_;rintro e V⟨rfl,g2⟩;rw[rH];obtain⟨z,s⟩:=exq (V.alloc (.cells #[.int .u8 (aa n 0),.int .u8 (aa n 1),.int .u8 (aa n 2),.int .u8 (aa n 3),.int .u8 (aa n 4),.int .u8 (aa n 5),.int .u8 (aa n 6),.int .u8 (aa n 7)] 300));have X:H.grownBy z none:=by rw[s];exact aS g2 _
 have bt:z.heap[V.heap.size]?=some (.cells (bv (eW n)).toArray 300 (0,0)):=by rw[s];exact aH _ _
 have Y:=iq I X;have al:=iq br X;have K:Below w.heap.size w z:=bj.grown X bj.size (λk e=>by cases e);have cy:=g2.size;have A:=s8 bt (oS n) 0 8 8 (by simp[il]) (by omega) (by simp[maxLen]);rw[om,eG (by simp[il])]at A;have bx:=p.ah (sh K);have e1:(eW n).take (l.length+16)=eW n:=eG (by simp[il]);have e2:l.take (8+l.length-8)=l:=eG (by omega);have L:∀W':World,z.grownBy W' (some (w.heap.size+1))->bh W' a l.length cap l:=λW' g=>bx.gb g (λj e=>by
  cases e;by_cases bz:l=[]
  exact .inr (.inl bz)
  ·right;right;intro x ex;obtain⟨h,_⟩|⟨b,o,h,cf⟩:=p.2.2.2.2
   rw[h]at ex;cases ex
   ·rw[h]at ex;cases ex;have:=cf.lt bz;dsimp only
    omega)
 replace A:=J A;replace Y:=J Y;replace e1:=J e1;replace e2:=J e2;replace L:=J L;clear bx I bt br;replace p:=J p;go_wp2_with (first|(refine sn _ _ (by rfl) (by rfl) (w.heap.size+1) 0 (l.length+16) (l.length+16) (by rfl) (some ⟨V.heap.size,0,none⟩) 8 8 (by rfl) (eW n) ?_ (List.replicate (l.length+16) 0) 5 ?_ ?_ ?_;(rw[<-s];exact Z A);(rw[<-s];exact Z Y);(rw[Z e1];simp[il]);(rw[Z e1,<-s];intro w4 bL B))|(refine sn _ _ (by rfl) (by rfl) (w.heap.size+1) 8 (8+l.length-8) (l.length+8) (by rfl) _ _ _ (by rfl) l (Z L _ B) (splice (List.replicate (l.length+16) 0) 0 (eW n)) 5 bL ?_ ?_;(rw[Z e2,length_splice _ _ _ (by simp[il])];simp;omega);(rw[Z e2];intro q N g5)));have O:q.heap[w.heap.size]?=some (.cells (b9 key) 24 (0,0)):=by
  have cR:=B.size;have h3:w.heap.size<z.heap.size:=(aO.1 al).1;exact(g5.block _ (by omega) (by simp)).trans ((B.block _ h3 (by simp)).trans al)
 have bP:q.drew.rangeAt w.heap.size 0 (bv key):=jm (w:=q.drew) O;have P:Below w.heap.size w q:=(K.grown B K.size (λk e=>by cases e;omega)).grown g5 (by have:=K.size;have:=B.size;omega) (λk e=>by cases e;omega);obtain⟨r,t⟩:=exq (eW n++(l++List.replicate 8 0));rw[IY _ _ _ (il n),List.drop_replicate,show l.length+16-(l.length+8)=8 by omega]at N;have bS:r.length=l.length+16:=by rw[t];simp[il];omega
 have ax:∀x∈r,W8 x:=by
  rw[t];intro x hx;obtain h|h:=ck.1 hx
  exact oS n x h;obtain h|h:=ck.1 h
  exact bb x h;rw[(List.mem_replicate.1 h).2];unfold W8;omega
 have a0:splice r 8 (eu key (sd f) n ((r.drop 8).take l.length))=eW n++(eu key (sd f) n l++List.replicate 8 0):=by
  rw[t,Bm _ _ _ (il n),IZ _ _ _ _ (il n) (mZ _ _ _ _)]
 rw[<-t]at N;have a1:q.drew.heap[w.heap.size+1]?=some (.cells (bv r).toArray 5 (0,0)):=N;replace a1:=J a1;replace O:=J O;clear N bL al;have c9:=P.size;have a2:8+l.length<=r.length:=by omega
 replace t:=J t;replace bS:=J bS;replace ax:=J ax;replace a2:=J a2;replace a0:=J a0;clear s L e1 e2 A;go_region_held3 (λi=>i.rangeAt w.heap.size 0 (bv key))
  (first|with_reducible exact b0|with_reducible exact bP)
  (first
    |(go_at_call 173;refine(s6 f _).mono ?_;rintro e i⟨rfl,rfl⟩)
    |(go_at_call 174;refine(Bk key (sd f) n (w.heap.size+1) 8 l.length (l.length+8) r 5 _ S (uR f) T (Z ax) (Z a2) (by omega) (by simp[maxLen];omega) (Z a1)).mono ?_;rintro e d⟨rfl,C,D⟩;rw[Z a0]at C;have b0:=iK bP D (by simp);replace C:=J C;replace D:=J D))
 go_wp2_with fail;have E:=Z C;have a3:=Z D;clear C;replace D:=J a3;have db:=a3.size;have c:w.heap.size<d.heap.size:=by
  have h5:q.drew.heap.size=q.heap.size:=rfl;have h6:=(aO.1 (Z O)).1;omega
 obtain⟨M,u⟩:=exq (eu key (sd f) n l);rw[<-u]at E;have F:M.length=l.length:=by rw[u];exact mZ _ _ _ _
 have a4:∀x∈M,W8 x:=by rw[u];exact uT bb
 have bM:=s8 E (I1 a4) 8 M.length (l.length+8) (by simp[il]) (by omega) (by simp[maxLen];omega);rw[Bm _ _ _ (il n)]at bM;have hT:Hid (∀W:World,(W.rangeAt w.heap.size 0 (bv key)/\d.grownBy W none)->Calls prog 172 #[.agg (bv key).toArray,.int .u8 (sd f),.int .u64 n,.slice (some ⟨w.heap.size+1,8,none⟩) l.length (l.length+8)] W λe i=>e=.returned (.agg (bv (im key (sd f) n M)).toArray)/\W.grownBy i none):=J (λW h=>by
  have:=Bi key (sd f) n _ _ _ M W S (uR f) T (bM.ah h.2) (by omega);rw[F]at this;exact this)
 have b3:d.drew.rangeAt w.heap.size 0 (bv key)/\d.grownBy d.drew none:=⟨λj v h=>b0 j v h,aP (av _ _)⟩
 replace E:=J E;replace u:=J u;replace F:=J F;replace a4:=J a4;clear bM;go_cut [12] (λv wx=>∃G:Nat,v=.pointer (some ⟨G,0,none⟩)/\d.heap.size<=G/\wx.heap[G]?=some (.cells (bv (im key (sd f) n M)).toArray 300 (0,0))/\d.grownBy wx none);case first=>
  go_region_held3 (λi=>i.rangeAt w.heap.size 0 (bv key)/\d.grownBy i none)
   (first|with_reducible exact y|with_reducible exact b3|(with_reducible exact(kz (kz (kz (kz (kz (kz (kz (kz y (aI _) c _ _) (aI _) c _ _) (aI _) c _ _) (aI _) c _ _) (aI _) c _ _) (aI _) c _ _) (aI _) c _ _) (aI _) c _ _))|with_reducible exact s7 y (aC _ _ none)|with_reducible exact s7 b3 (aC _ _ none))
   (first
     |(go_at_call 173;refine(s6 f _).mono ?_;rintro e i⟨rfl,rfl⟩)
     |(go_at_call 172;refine(Z hT _ (by assumption)).mono ?_;rintro e w7⟨rfl,g7⟩;rw[uS];have y:=s7 (w:=d) (by assumption) g7;first|(have Q:w7.heap[d.heap.size]?=some (.cells #[.int .u8 0,.int .u8 0,.int .u8 0,.int .u8 0,.int .u8 0,.int .u8 0,.int .u8 0,.int .u8 0] 300 (0,0)):=rL (aH d.drew _) g7;have cg:=qw Q;replace Q:=J Q;obtain⟨⟨z0,z1,z2,z3,z4,z5,z6,z7⟩,zf⟩:=cg)|skip))
  all_goals
   go_wp2_with fail
   go_meet
   refine⟨_,rfl,?_,?_,?_⟩
   first|with_reducible exact aI _|with_reducible exact y.2.size
   rw[uS]
   first|with_reducible exact Bp _ _ _ _ _ _ _ _ (Z Q)|with_reducible exact aH _ _
   first|with_reducible exact(kz (kz (kz (kz (kz (kz (kz (kz y (aI _) c _ _) (aI _) c _ _) (aI _) c _ _) (aI _) c _ _) (aI _) c _ _) (aI _) c _ _) (aI _) c _ _) (aI _) c _ _).2|with_reducible exact aS y.2 _
 case rest=>
  obtain⟨G,rfl,de,a8,g8⟩:=hcut;rename_i wx;have ch:=J (iq (Z E) g8);have R:=s8 a8 (oS _) 0 8 8 (by simp[im,il]) (by omega) (by simp[maxLen]);rw[om,eG (by simp[im,il])]at R;replace R:=J R;replace a8:=J a8;go_wp2_with fail;have dg:IntKind.i64.wrap (8+(l.length:Int))=8+(l.length:Int):=by simp[IntKind.wrap,IntKind.bits,IntKind.signed];omega
  have dk:(0:Int)<=8+(l.length:Int):=by omega
  have dn:8+(l.length:Int)<=(l.length:Int)+16:=by omega
  have ds:(8+(l.length:Int)).toNat=8+l.length:=by omega
  have du:(l.length+16=8+l.length)=False:=by simp;omega
  have dx:l.length+16-(8+l.length)=8:=by omega
  have b4:Hid ((im key (sd f) n M).take 8=im key (sd f) n M):=J (eG (by simp[im,il]));have cj:Hid (8+l.length+(im key (sd f) n M).length<=(eW n++(M++List.replicate 8 (0:Int))).length):=J (by
   have h1:(im key (sd f) n M).length=8:=by simp[im,il]
   have h2:=Z F;have h3:=il n;simp only[bG,List.length_replicate]
   omega)
  go_region_held3 (λ_=>True) (trivial) ((refine D0 _ _ (by rfl) (by rfl) (w.heap.size+1) (8+l.length) 8 8 (by rfl) (some ⟨G,0,none⟩) 8 8 (by rfl) (im key (sd f) n M) (Bh (Z R)) (eW n++(M++List.replicate 8 0)) 5 (Z ch) ?_ ?_;(rw[Z b4];exact Z cj);(rw[Z b4];intro w9 a9 g9;replace a9:=J a9)));go_wp2_with fail;go_ret;refine⟨w.heap.size+1,rfl,by omega,?_,?_⟩
  have h9:=Z a9;rw[<-Z F,I0 _ _ _ _ (il n) (by simp[im,il]),Z u]at h9;unfold cT;rw[eA];exact h9;have b6:Below w.heap.size w d:=(P.grown (aP (av q none)) P.size (λk e=>by cases e)).grown a3 P.size (λk e=>by cases e;omega);have b8:Below w.heap.size w wc:=b6.grown g8 b6.size (λk e=>by cases e);exact sh ((b8.grown (aP (av wc none)) b8.size (λk e=>by cases e)).grown g9 b8.size (λk e=>by cases e;omega))
theorem Kj(a b c d e f g h i j k l m n p q:Int)(w:World):(Op.equalIn 10000 300 (.agg #[.int .u8 a,.int .u8 b,.int .u8 c,.int .u8 d,.int .u8 e,.int .u8 f,.int .u8 g,.int .u8 h]) (.agg #[.int .u8 i,.int .u8 j,.int .u8 k,.int .u8 l,.int .u8 m,.int .u8 n,.int .u8 p,.int .u8 q])).run prog w=.ok (decide ([a,b,c,d,e,f,g,h]=[i,j,k,l,m,n,p,q])) w:=by
 have u3:=underlying5;have z:=isAgg5;have A:=sizeOf5;rw[show(10000:Nat)=9999+1 from rfl,Op.equalIn];simp only[ie,tM underlying300,ic]
 simp only[Std.Legacy.Range.forIn_eq_forIn_range',Std.Legacy.Range.size,Nat.sub_zero,qL,Nat.div_one,List.range'_succ,List.range'_zero,List.forIn_cons,List.forIn_nil]
 by_cases h0:a=i;case neg=>go_simp
 by_cases r:b=j;case neg=>go_simp
 by_cases s:c=k;case neg=>go_simp
 by_cases t:d=l;case neg=>go_simp
 by_cases u:e=m;case neg=>go_simp
 by_cases v:f=n;case neg=>go_simp
 by_cases x:g=p;case neg=>go_simp
 by_cases y:h=q;case neg=>go_simp
 subst h0 r s t u v x y;go_simp
theorem Cp(key:List Int)(f:Bool)(a:Option Addr)(m cap:Nat)(l:List Int)(w:World)(c:bh w a m cap l)(hl:l.length<16\/300<l.length):
 Calls prog 135 #[.agg (b9 key),.bool f,.slice a m cap] w λe d=>e=.returned (.tuple #[.int .u64 0,.slice none 0 0,.iface 34 (.int .i64 4)])/\w.grownBy d none:=by
 generalize b9 key=K at *;have g:m=l.length:=c.2.1;subst g;clear c;have b:∀W,W=w.alloc (.cells K 24)->w.grownBy W none:=by rintro W rfl;exact aC _ _ _
 replace b:=J b;obtain hl|hl:=hl
 ·have h:decide ((l.length:Int)<16)=true:=by simp;omega
  go_enter func135,ntmps135;go_wp2_with fail;go_ret3;exact⟨rfl,Z b _ rfl⟩
 have h:decide ((l.length:Int)<16)=false:=by simp;omega
 have i:decide (300<(l.length:Int))=true:=by simp;omega
 go_enter func135,ntmps135;go_wp2_with fail;go_ret3;exact⟨rfl,Z b _ rfl⟩
theorem Cq{ob:Obj}(g:(w.drew.alloc ob).grownBy W none):W.heap[w.heap.size]?=some ob:=rL (aH w.drew ob) g
theorem Cs{ob:Obj}(g:(w.alloc ob).drew.grownBy W none):W.heap[w.heap.size]?=some ob:=rL (w:=(w.alloc ob).drew) (aH w ob) g
theorem Kk(g:W.grownBy w.drew none)(ob:Obj):W.grownBy (w.alloc ob).drew none:=aj g (aC w.drew ob none)
theorem Ct{ob:Obj}(g:(w.alloc ob).grownBy W none):W.heap[w.heap.size]?=some ob:=rL (aH w ob) g
theorem Cu(g:W.grownBy w none)(a:W.heap.size<=b)(u0 u1 u2 u3 u4 u5 u6 u7:Value):W.grownBy ((((((((w.setCell ⟨b,0,none⟩ u0).setCell ⟨b,1,none⟩ u1).setCell ⟨b,2,none⟩ u2).setCell ⟨b,3,none⟩ u3).setCell ⟨b,4,none⟩ u4).setCell ⟨b,5,none⟩ u5).setCell ⟨b,6,none⟩ u6).setCell ⟨b,7,none⟩ u7) none:=
 aD (aD (aD (aD (aD (aD (aD (aD g _ _ (.inl a)) _ _ (.inl a)) _ _ (.inl a)) _ _ (.inl a)) _ _ (.inl a)) _ _ (.inl a)) _ _ (.inl a)) _ _ (.inl a)
theorem Kl(n:Nat)(m:List Int)(h:m.length=n):splice (List.replicate n 0) 0 m=m:=by
 unfold splice;rw[tN,jQ,dv,qf (by simp;omega),nw]
theorem Km(m k:List Int)(h:m.length=k.length):splice m 0 k=k:=by
 unfold splice;rw[tN,jQ,dv,qf (by omega),nw]
theorem s5{wc:World}{cs:List Value}{a b c d e:Value}(h:w.rangeAt n 0 cs/\(w.cell? ⟨k,0,none⟩=some x/\w.cell? ⟨k,1,none⟩=some y/\w.cell? ⟨k,2,none⟩=some z/\w.cell? ⟨k,3,none⟩=some a/\w.cell? ⟨k,4,none⟩=some b/\w.cell? ⟨k,5,none⟩=some c/\w.cell? ⟨k,6,none⟩=some d/\w.cell? ⟨k,7,none⟩=some e)/\wc.grownBy w none)(g:w.grownBy W none):
 W.rangeAt n 0 cs/\(W.cell? ⟨k,0,none⟩=some x/\W.cell? ⟨k,1,none⟩=some y/\W.cell? ⟨k,2,none⟩=some z/\W.cell? ⟨k,3,none⟩=some a/\W.cell? ⟨k,4,none⟩=some b/\W.cell? ⟨k,5,none⟩=some c/\W.cell? ⟨k,6,none⟩=some d/\W.cell? ⟨k,7,none⟩=some e)/\wc.grownBy W none:=by
 obtain⟨f,⟨c0,c1,c2,c3,c4,c5,c6,c7⟩,i⟩:=h;exact⟨iK f g (by simp),⟨g.cell c0 (by simp),g.cell c1 (by simp),g.cell c2 (by simp),g.cell c3 (by simp),g.cell c4 (by simp),g.cell c5 (by simp),g.cell c6 (by simp),g.cell c7 (by simp)⟩,aj i g⟩
theorem Cv(key:List Int)(f:Bool)(a:Option Addr)(m cap:Nat)(l:List Int)(w:World)(hk:di key)(M:bh w a m cap l)(dk:16<=l.length)(dn:l.length<=300):
 Calls prog 135 #[.agg (b9 key),.bool f,.slice a m cap] w λe b=>
  ((gV key (sd f) l/\∃V c',e=.returned (.tuple #[.int .u64 (bN l),.slice V (l.length-16) c',.nilIface])/\bh b V (l.length-16) c' (eu key (sd f) (bN l) (bQ l))/\(∀x,V=some x->w.heap.size<=x.block)/\(l.length=16->V=none))\/
    (¬gV key (sd f) l/\e=.returned (.tuple #[.int .u64 0,.slice none 0 0,.iface 34 (.int .i64 4)])))/\w.grownBy b none:=by
 have e3:(prog.info? 24).map (·.size)=some (bv key).length:=by rw[fK,hk.1];exact mh
 have e4:=underlying24;have ds:m=l.length:=M.2.1;subst ds;have du:=M.2.2.1;have dx:=M.2.2.2.1;unfold maxLen at dx;have G:=M.1;obtain⟨-,-,-,-,h5⟩:=M;obtain⟨rfl,rfl⟩|⟨p,o,rfl,cf⟩:=h5
 omega;have h1:decide ((l.length:Int)<16)=false:=by simp;omega
 have h2:decide (300<(l.length:Int))=false:=by simp;omega
 obtain⟨d,O⟩:=exq (w.alloc (.cells (b9 key) 24));have P:w.grownBy d none:=by rw[O];exact aC _ _ _
 have bz:d.heap[w.heap.size]?=some (.cells (b9 key) 24 (0,0)):=by rw[O];exact aH _ _
 have Q:=cf.gb P (by simp);have hA:Hid (∀W:World,d.grownBy W none->Calls prog 170 #[.slice (some ⟨p,o,none⟩) l.length cap] W λe b=>e=.returned (.agg (bv (l.take 8)).toArray)/\W.grownBy b none):=J (λW g=>
  A9 _ _ _ l W ⟨G,rfl,du,by simp[maxLen];omega,.inr ⟨p,o,rfl,Q.gb g (by simp)⟩⟩ (by omega))
 have hN:Hid (∀W:World,Calls prog 171 #[.agg (bv (l.take 8)).toArray] W λe b=>e=.returned (.int .u64 (bN l))/\W.grownBy b none):=J (λW=>
  ID _ W (by simp;omega) (λx k=>G x (iY k)))
 have X:(pQ l).length=8:=by simp[pQ];omega
 obtain⟨s,t,u,v,y,z,A,B,k⟩:=xE X;have hB:Hid (∀W:World,d.grownBy W none->Calls prog 170 #[.slice (some ⟨p,o+(l.length-8),none⟩) (l.length-(l.length-8)) (cap-(l.length-8))] W λe b=>e=.returned (.agg #[.int .u8 s,.int .u8 t,.int .u8 u,.int .u8 v,.int .u8 y,.int .u8 z,.int .u8 A,.int .u8 B])/\W.grownBy b none):=J (λW g=>by
  have:=A9 (some ⟨p,o+(l.length-8),none⟩) (l.length-(l.length-8)) (cap-(l.length-8)) (pQ l) W ⟨λx k=>G x (iZ k),by rw[X];omega,by omega,by simp[maxLen];omega,.inr ⟨p,_,rfl,(Q.gb g (by simp)).drop _⟩⟩ (by omega);rw[eG (by omega),k]at this;exact this)
 have eS:∀W,(Instr.slice 112 (.slice (some ⟨p,o,none⟩) l.length cap) (some (.int .i64 ((l.length:Int)-8))) none none).run prog W=.ok (.slice (some ⟨p,o+(l.length-8),none⟩) (l.length-(l.length-8)) (cap-(l.length-8))) W:=λW=>by
  have:=IJ p o l.length cap (l.length-8) (by omega) (by omega) W;rwa[show((l.length-8:Nat):Int)=(l.length:Int)-8 by omega]at this
 have e7:IntKind.i64.wrap ((l.length:Int)-8)=(l.length:Int)-8:=by simp[IntKind.wrap,IntKind.bits,IntKind.signed];omega
 have e8:(0:Int)<=(l.length:Int)-8:=by omega
 have e9:(8:Int)<=(l.length:Int)-8:=by omega
 have fa:(l.length:Int)-8<=(cap:Int):=by omega
 have fb:(l.length:Int)-8<=(l.length:Int):=by omega
 have fc:((l.length:Int)-8).toNat=l.length-8:=by omega
 have ff:(cap=l.length-8)=False:=by simp;omega
 have fo:(cap=8)=False:=by simp;omega
 replace k:=J k;replace G:=J G;replace X:=J X;replace Q:=J Q;replace bz:=J bz;clear cf;have Y:d.grownBy d.drew none:=aP (av _ _);go_enter func135,ntmps135;go_upto_region 4 with fail;rw[<-O];replace O:=J O;go_cut [10,11,12] (λdG ee eg wx=>∃c:Nat,dG=.int .u64 (bN l)/\ee=.slice (some ⟨p,o+8,none⟩) (l.length-16) (cap-8)/\eg=.pointer (some ⟨c,0,none⟩)/\d.heap.size<=c/\wx.heap[c]?=some (.cells #[.int .u8 s,.int .u8 t,.int .u8 u,.int .u8 v,.int .u8 y,.int .u8 z,.int .u8 A,.int .u8 B] 300 (0,0))/\d.grownBy wx none);case first=>
  go_region_held3 (λb=>d.grownBy b none)
   (first|with_reducible exact K|with_reducible exact bL|with_reducible exact bM|with_reducible exact Y|with_reducible exact Cu K D _ _ _ _ _ _ _ _|with_reducible exact aS K _|with_reducible exact aS bL _|with_reducible exact aS bM _|with_reducible exact aS Y _|with_reducible exact Kk Y _)
   (first
     |(go_at_call 171;refine(Z hN _).mono ?_;rintro e w3⟨rfl,R⟩;have bL:=aj (w:=d) (by assumption) R;first|(have i:=J (Cs R);have D:d.heap.size<=d.heap.size:=aI _)|(have i:=J (Cq R);have D:d.heap.size<=d.heap.size:=aI _)|(have i:=J (Ct R);have D:=bM.size)|(have i:=J (rL (Z i) R))|skip)
     |(go_at_call 170;refine(Z hA _ (by assumption)).mono ?_;rintro e w2⟨rfl,g2⟩;have bM:=aj (w:=d) (by assumption) g2;first|(have i:=J (Cs g2);have D:d.heap.size<=d.heap.size:=aI _)|(have i:=J (Cq g2);have D:d.heap.size<=d.heap.size:=aI _)|skip)
     |(go_at_call 170;refine(Z hB _ (by assumption)).mono ?_;rintro e w4⟨rfl,g4⟩;have K:=aj (w:=d) (by assumption) g4;first|(have i:=Ct g4;have D:=bL.size;obtain⟨⟨z0,z1,z2,z3,z4,z5,z6,z7⟩,zf⟩:=qw i;replace i:=J i)|(have i:=rL (Z i) g4;obtain⟨⟨z0,z1,z2,z3,z4,z5,z6,z7⟩,zf⟩:=qw i;replace i:=J i)|skip))
  all_goals
   go_wp2_with fail
   go_meet
   refine⟨_,rfl,by rw[Nat.sub_sub],rfl,?_,?_,?_⟩
   first|with_reducible exact D|with_reducible exact K.size
   first|with_reducible exact Bp _ _ _ _ _ _ _ _ (Z i)|with_reducible exact aH _ _
   first|with_reducible exact Cu K D _ _ _ _ _ _ _ _|with_reducible exact aS K _
 case rest=>
  obtain⟨c,rfl,rfl,rfl,D,i,L⟩:=hcut;have ej:=qw i;obtain⟨⟨z0,z1,z2,z3,z4,z5,z6,z7⟩,-⟩:=ej;have S:=iq (Z bz) L;have cp:wc.drew.rangeAt w.heap.size 0 (bv key)/\(wc.drew.cell? ⟨c,0,none⟩=some (.int .u8 s)/\wc.drew.cell? ⟨c,1,none⟩=some (.int .u8 t)/\wc.drew.cell? ⟨c,2,none⟩=some (.int .u8 u)/\wc.drew.cell? ⟨c,3,none⟩=some (.int .u8 v)/\wc.drew.cell? ⟨c,4,none⟩=some (.int .u8 y)/\wc.drew.cell? ⟨c,5,none⟩=some (.int .u8 z)/\wc.drew.cell? ⟨c,6,none⟩=some (.int .u8 A)/\wc.drew.cell? ⟨c,7,none⟩=some (.int .u8 B))/\wc.grownBy wc.drew none:=
   ⟨jm (w:=wc.drew) S,⟨z0,z1,z2,z3,z4,z5,z6,z7⟩,aP (av _ _)⟩
  replace S:=J S;replace i:=J i;clear z0 z1 z2 z3 z4 z5 z6 z7 eS hA hN hB Y;have T:(bQ l).length=l.length-16:=by simp[bQ];omega
  have a4:Hid (bh wc (some ⟨p,o+8,none⟩) (l.length-16) (cap-8) (bQ l)):=
   J ⟨λx k=>(Z G) x (iZ (iY k)),T.symm,by omega,by simp only[maxLen];omega,.inr ⟨p,o+8,rfl,(((Z Q).gb L (by simp)).drop 8).take _⟩⟩
  have cv:aR (bN l):=by
   have h8:=sY l (Z G) 8 (by omega);exact⟨h8.1,by have:=h8.2;unfold bN;omega⟩
  have hT:Hid (∀W:World,(W.rangeAt w.heap.size 0 (bv key)/\(W.cell? ⟨c,0,none⟩=some (.int .u8 s)/\W.cell? ⟨c,1,none⟩=some (.int .u8 t)/\W.cell? ⟨c,2,none⟩=some (.int .u8 u)/\W.cell? ⟨c,3,none⟩=some (.int .u8 v)/\W.cell? ⟨c,4,none⟩=some (.int .u8 y)/\W.cell? ⟨c,5,none⟩=some (.int .u8 z)/\W.cell? ⟨c,6,none⟩=some (.int .u8 A)/\W.cell? ⟨c,7,none⟩=some (.int .u8 B))/\wc.grownBy W none)->Calls prog 172 #[.agg (bv key).toArray,.int .u8 (sd f),.int .u64 (bN l),.slice (some ⟨p,o+8,none⟩) (l.length-16) (cap-8)] W λe b=>e=.returned (.agg (bv (im key (sd f) (bN l) (bQ l))).toArray)/\W.grownBy b none):=J (λW h=>
   Bi key (sd f) (bN l) _ _ _ (bQ l) W hk (uR f) cv ((Z a4).ah h.2.2) (by omega))
  replace T:=J T;by_cases hn:bN l<=4611686018427387903
  ·have cw:decide (4611686018427387903<bN l)=false:=by simp;omega
   obtain⟨N,F⟩:=exq (bN l);have bb:=Kj s t u v y z A B (aa (cN key (aL (sd f) 2 N++bQ l)) 0) (aa (cN key (aL (sd f) 2 N++bQ l)) 1) (aa (cN key (aL (sd f) 2 N++bQ l)) 2) (aa (cN key (aL (sd f) 2 N++bQ l)) 3) (aa (cN key (aL (sd f) 2 N++bQ l)) 4) (aa (cN key (aL (sd f) 2 N++bQ l)) 5) (aa (cN key (aL (sd f) 2 N++bQ l)) 6) (aa (cN key (aL (sd f) 2 N++bQ l)) 7);have bj:([s,t,u,v,y,z,A,B]=[aa (cN key (aL (sd f) 2 N++bQ l)) 0,aa (cN key (aL (sd f) 2 N++bQ l)) 1,aa (cN key (aL (sd f) 2 N++bQ l)) 2,aa (cN key (aL (sd f) 2 N++bQ l)) 3,aa (cN key (aL (sd f) 2 N++bQ l)) 4,aa (cN key (aL (sd f) 2 N++bQ l)) 5,aa (cN key (aL (sd f) 2 N++bQ l)) 6,aa (cN key (aL (sd f) 2 N++bQ l)) 7])=(im key (sd f) (bN l) (bQ l)=pQ l):=by
    rw[Z k,<-F];exact propext ⟨λh=>h.symm,λh=>h.symm⟩
   have ek:aR N:=by rw[F];exact cv
   rw[<-F]at hT cw⊢;replace F:=J F;by_cases H:im key (sd f) (bN l) (bQ l)=pQ l
   ·have cx:∀W,(Op.equalIn 10000 300 (.agg #[.int .u8 s,.int .u8 t,.int .u8 u,.int .u8 v,.int .u8 y,.int .u8 z,.int .u8 A,.int .u8 B]) (.agg #[.int .u8 (aa (cN key (aL (sd f) 2 N++bQ l)) 0),.int .u8 (aa (cN key (aL (sd f) 2 N++bQ l)) 1),.int .u8 (aa (cN key (aL (sd f) 2 N++bQ l)) 2),.int .u8 (aa (cN key (aL (sd f) 2 N++bQ l)) 3),.int .u8 (aa (cN key (aL (sd f) 2 N++bQ l)) 4),.int .u8 (aa (cN key (aL (sd f) 2 N++bQ l)) 5),.int .u8 (aa (cN key (aL (sd f) 2 N++bQ l)) 6),.int .u8 (aa (cN key (aL (sd f) 2 N++bQ l)) 7)])).run prog W=.ok true W:=λW=>by
     rw[bb W];simp only[bj,H,decide_true]
    have q:gV key (sd f) l:=⟨dk,dn,H,hn⟩
    clear bb bj;replace H:=J H;replace q:=J q;obtain⟨n,r⟩:=exq (l.length-16);rw[<-r];rw[<-r]at hT a4;replace r:=J r;go_wp2_with fail;go_region_held3 (λb=>b.rangeAt w.heap.size 0 (bv key)/\(b.cell? ⟨c,0,none⟩=some (.int .u8 s)/\b.cell? ⟨c,1,none⟩=some (.int .u8 t)/\b.cell? ⟨c,2,none⟩=some (.int .u8 u)/\b.cell? ⟨c,3,none⟩=some (.int .u8 v)/\b.cell? ⟨c,4,none⟩=some (.int .u8 y)/\b.cell? ⟨c,5,none⟩=some (.int .u8 z)/\b.cell? ⟨c,6,none⟩=some (.int .u8 A)/\b.cell? ⟨c,7,none⟩=some (.int .u8 B))/\wc.grownBy b none)
    (first|with_reducible exact C|with_reducible exact cp)
    (first
      |(go_at_call 173;refine(s6 f _).mono ?_;rintro e b⟨rfl,rfl⟩)
      |(go_at_call 172;refine(Z hT _ (by assumption)).mono ?_;rintro e I⟨rfl,g7⟩;rw[uS];have C:=s5 (wc:=wc) (by assumption) g7))
    clear cx;by_cases E:n=0
    ·have hz:((n:Int)==0)=true:=by simp[E]
     have ep:(n==0)=true:=by simp[E]
     go_wp2_with fail;go_ret3;refine⟨.inl ⟨Z q,none,0,?_,?_,λx k=>(by cases k),λ_=>rfl⟩,aj P (aj L C.2.2)⟩
     rw[Z F,<-Z r,E];rfl;have ew:bQ l=[]:=by rw[<-List.length_eq_zero_iff,Z T,<-Z r,E]
     rw[<-Z r,E,ew];exact⟨λx k=>(by cases k),rfl,aI _,by simp[maxLen],.inl ⟨rfl,rfl⟩⟩
    have hz:((n:Int)==0)=false:=by simp[E]
    have ep:(n==0)=false:=by simp[E]
    have ey:=J E;clear E;have fy:n<=300:=by have:=Z r;omega
    have U:(bQ l).length=n:=by rw[Z T,Z r]
    have b4:Hid ((bQ l).take n=bQ l):=J (eG (by omega));have ez:Hid (0+(bQ l).length<=(List.replicate n (0:Int)).length):=J (by simp;omega);have cy:=J (Z a4).1;replace U:=J U;go_wp2_with (first|(at_make;refine Bl _ _ (by rfl) (by rfl) _ n (by rfl) (by rfl) (by omega) (by omega) ?_;intro w8 b5 g8;replace b5:=J b5)|(refine sn _ _ (by rfl) (by rfl) I.heap.size 0 n n (by rfl) (some ⟨p,o+8,none⟩) n (cap-8) (by rfl) (bQ l) ((Z a4).ah (aj C.2.2 g8)) (List.replicate n 0) 5 (Z b5) ?_ ?_;(rw[Z b4];exact Z ez);(rw[Z b4];intro w9 br g9;rw[Kl n _ (Z U)]at br;replace br:=J br)));have db:w9.drew.rangeAt w.heap.size 0 (bv key):=by
     have h7:=C.2.2.size;have h8:=(aO.1 (Z S)).1;exact iK (iK C.1 g8 (by simp)) (aP g9) (λe=>by have:=aJ e;omega)
    have eL:Hid (w9.drew.heap[I.heap.size]?=some (.cells (bv (bQ l)).toArray 5 (0,0))):=J (Z br);go_region_held3 (λb=>b.rangeAt w.heap.size 0 (bv key))
     (first|with_reducible exact eV|with_reducible exact db)
     (first
       |(go_at_call 173;refine(s6 f _).mono ?_;rintro e b⟨rfl,rfl⟩)
       |(go_at_call 174;refine(Bk key (sd f) N I.heap.size 0 n n (bQ l) 5 _ hk (uR f) ek (Z cy) (by have:=Z U;omega) (by omega) (by simp[maxLen];omega) (Z eL)).mono ?_;rintro e ga⟨rfl,b7,bt⟩;have eV:=iK db bt (λe=>by have h6:=aJ e;have h7:=C.2.2.size;have h8:=(aO.1 (Z S)).1;omega);replace b7:=J b7;replace bt:=J bt))
    go_wp2_with fail;go_ret3;have de:=Z b7;rw[om,Z b4,Km _ _ (by rw[mZ])]at de;have gf:(eu key (sd f) N (bQ l)).length=n:=by rw[mZ,Z U]
    have dg:=s8 de (uT (Z cy)) 0 n n (by omega) (aI _) (by simp[maxLen];omega);rw[om,eG (by omega)]at dg;have b8:w.grownBy I none:=aj P (aj L C.2.2);refine⟨.inl ⟨Z q,some ⟨I.heap.size,0,none⟩,n,?_,?_,λx k=>(by cases k;exact b8.size),λgg=>absurd (show n=0 by have:=Z r;omega) (Z ey)⟩,?_⟩
    rw[Z F,<-Z r];rfl;rw[<-Z r,<-Z F];exact dg;exact ot (cA (cO (aj b8 g8) (some I.heap.size)) (aj (aP g9) (Z bt)) (λj e=>.inr rfl)) b8.size
   have cx:∀W,(Op.equalIn 10000 300 (.agg #[.int .u8 s,.int .u8 t,.int .u8 u,.int .u8 v,.int .u8 y,.int .u8 z,.int .u8 A,.int .u8 B]) (.agg #[.int .u8 (aa (cN key (aL (sd f) 2 N++bQ l)) 0),.int .u8 (aa (cN key (aL (sd f) 2 N++bQ l)) 1),.int .u8 (aa (cN key (aL (sd f) 2 N++bQ l)) 2),.int .u8 (aa (cN key (aL (sd f) 2 N++bQ l)) 3),.int .u8 (aa (cN key (aL (sd f) 2 N++bQ l)) 4),.int .u8 (aa (cN key (aL (sd f) 2 N++bQ l)) 5),.int .u8 (aa (cN key (aL (sd f) 2 N++bQ l)) 6),.int .u8 (aa (cN key (aL (sd f) 2 N++bQ l)) 7)])).run prog W=.ok false W:=λW=>by
    rw[bb W];simp only[bj,H,se]
   have q:¬gV key (sd f) l:=λh=>H h.2.2.1
   clear bb bj H;replace q:=J q;go_wp2_with fail;go_region_held3 (λb=>b.rangeAt w.heap.size 0 (bv key)/\(b.cell? ⟨c,0,none⟩=some (.int .u8 s)/\b.cell? ⟨c,1,none⟩=some (.int .u8 t)/\b.cell? ⟨c,2,none⟩=some (.int .u8 u)/\b.cell? ⟨c,3,none⟩=some (.int .u8 v)/\b.cell? ⟨c,4,none⟩=some (.int .u8 y)/\b.cell? ⟨c,5,none⟩=some (.int .u8 z)/\b.cell? ⟨c,6,none⟩=some (.int .u8 A)/\b.cell? ⟨c,7,none⟩=some (.int .u8 B))/\wc.grownBy b none)
   (first|with_reducible exact C|with_reducible exact cp)
   (first
     |(go_at_call 173;refine(s6 f _).mono ?_;rintro e b⟨rfl,rfl⟩)
     |(go_at_call 172;refine(Z hT _ (by assumption)).mono ?_;rintro e I⟨rfl,g7⟩;rw[uS];have C:=s5 (wc:=wc) (by assumption) g7))
   go_wp2_with fail;go_ret3;exact⟨.inr ⟨Z q,rfl⟩,aj P (aj L C.2.2)⟩
  have cw:decide (4611686018427387903<bN l)=true:=by simp;omega
  have q:¬gV key (sd f) l:=λh=>hn h.2.2.2
  replace q:=J q;clear hn;go_wp2_with fail;go_quiet (fail);go_wp2_with fail;go_ret3;exact⟨.inr ⟨Z q,rfl⟩,aj P (aj L (dh (av _ _) _))⟩
