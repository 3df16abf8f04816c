import Derived.Test.YtjnmokmchdfchaaGreatDoorZ3
set_option maxRecDepth 1000000
set_option maxHeartbeats 8000000
set_option linter.all false
namespace Go.Proofs.YtjnmokmchdfchaaGreatDoor
open Go.RowKit Tryz
attribute[local go_sem↓]Go.wp_at_zero Go.wp_at_succ
variable{I:Act}{c:Array Value}{B:Bool}{F:Exit->Act->World->Prop}{p q r:Int}{b i j k l m n o:Nat}{H:Oper}{N:Option Nat}{T:TypeId}{x y z:Value}{V W v w:World}
theorem lS{a:Value}(h:w.heap[b]?=some (.cells #[x,y,z,a] T (0,0))):w.cell? ⟨b,0,none⟩=some x/\w.cell? ⟨b,1,none⟩=some y/\w.cell? ⟨b,2,none⟩=some z/\w.cell? ⟨b,3,none⟩=some a:=by
 simp[World.cell?,h]
theorem AJ(h:w.heap[n]?=some (.cells c T (0,0)))(a b d e:Value):w.grownBy ((((w.setCell ⟨n,o,none⟩ a).setCell ⟨n,o+1,none⟩ b).setCell ⟨n,o+2,none⟩ d).setCell ⟨n,o+3,none⟩ e) (some n)/\((((w.setCell ⟨n,o,none⟩ a).setCell ⟨n,o+1,none⟩ b).setCell ⟨n,o+2,none⟩ d).setCell ⟨n,o+3,none⟩ e).heap[n]?=some (.cells ((((c.setIfInBounds o a).setIfInBounds (o+1) b).setIfInBounds (o+2) d).setIfInBounds (o+3) e) T (0,0)):=
 ⟨aI (aI (aI (aI (aB w (some n)) ⟨n,o,none⟩ a (.inr rfl)) ⟨n,o+1,none⟩ b (.inr rfl)) ⟨n,o+2,none⟩ d (.inr rfl)) ⟨n,o+3,none⟩ e (.inr rfl),heap_set (heap_set (heap_set (heap_set h a) b) d) e⟩
def kA(x:Kt):Array Value:= #[.int .u64 x.1.num,.int .i64 x.1.tick,.int .i64 x.1.st,x.2]
theorem xS(g n cap ax y sb:Nat)(lb:Array Value)(ay:List Kt)(w:World)(q:Nat->Bool)(Inv:Nat->World->Prop)(F:Array Value)
 (a8:ax<=g) (b:n=ay.length) (a9:n<=cap/\cap<=maxLen) (iZ:∀x∈ay,∃a n c,x.2=.slice a n c) (h0:ja w g cap ay [] 0 F) (c9:sb<w.heap.size) (bb:sb≠g)
 (eg:∀args w,(callFunc y args).run prog w=.ok (.enter y args) w) (hI:Inv 0 w)
 (G:∀(W m:World)(h:Nat),Inv h W->W.grownBy m (some g)->Inv h m)
 (Q:∀(W:World)(h:Nat),Inv h W->h<n->Calls prog y (#[.agg (kA (bJ ay h))]++lb) W (λe m=>e=.returned (.bool (q h))/\Inv (h+1) m/\W.grownBy m (some sb))):
 Calls prog 236 #[.slice (some ⟨g,0,none⟩) n cap,.func (.func y) #[] lb] w λe H=>e=.returned (.slice (some ⟨g,0,none⟩) (kp ay q n).length cap)/\cf H ax (.slice (some ⟨g,0,none⟩) (kp ay q n).length cap) (kp ay q n)/\Inv n H:=by
 obtain⟨R,I⟩:∃R:Ending->World->Prop,R=λe H=>e=.returned (.slice (some ⟨g,0,none⟩) (kp ay q n).length cap)/\cf H ax (.slice (some ⟨g,0,none⟩) (kp ay q n).length cap) (kp ay q n)/\Inv n H:=⟨_,rfl⟩
 rw[<-I];replace I:=J I;have b4:g<w.heap.size:=(aY.1 h0.aN).1;have hX:=J (xQ (some ⟨g,0,none⟩) g 0 n cap y #[] lb w (λh=>q h=true) (λh=>.int .u64 (bJ ay h).1.num) (λh=>.int .i64 (bJ ay h).1.tick) (λh=>.int .i64 (bJ ay h).1.st) (λh=>(bJ ay h).2) (λh W=>Inv h W/\ja W g cap ay [] 0 F/\w.heap.size<=W.heap.size) (λ_=>rfl) a9 eg ⟨hI,h0,aP _⟩
  (λW h z hh=>by
    have hm:=z.2.1;have K:∀i,i<4->W.cell? ⟨g,h*4+i,none⟩=(kq (bJ ay h))[i]? :=λi hi=>by
     rw[aX hm.aN,hm.rest _ (by omega) (by omega)];exact rN kq (λ_=>rfl) ay h i _ (nJ (by omega)) hi
    refine⟨?_,?_,?_,?_⟩
    rw[dR];exact K 0 (by omega);rw[dR];exact K 1 (by omega);rw[dR];exact K 2 (by omega)
    ·rw[dR];exact K 3 (by omega))
  (λW h z hh=>(by rw[Array.empty_append];exact Q W h z.1 hh:Calls prog y (#[]++ #[.agg (kA (bJ ay h))]++lb) W (λe m=>e=.returned (.bool (q h))/\Inv (h+1) m/\W.grownBy m (some sb))).mono (λe m ⟨he,hi,hg⟩=>⟨⟨q h,he,Iff.rfl⟩,hi,z.2.1.same (hg.block g (bY b4 z.2.2) (λe=>bb (aO e).symm)),bD z.2.2 hg.size⟩)))
 replace hI:=J hI;replace h0:=J h0;replace Q:=J Q;replace G:=J G;replace b:=J b;obtain⟨db,b5⟩:=a9;unfold maxLen at b5;go_enter func236,ntmps236;go_wp2_with fail;refine(Z hX).mono ?_;rintro e w1(⟨k,hk,rfl,bj,L,t,p,br⟩|⟨rfl,L,t,p,br⟩)
 ·have b6:((k:Int)== -1)=false:=by rw[beq_eq_false_iff_ne];omega
  have b7:k<=ay.length:=by have:=Z b;omega
  have l:kp ay q (k+1)=ay.take k:=by
   unfold kp;rw[az bj,AI ay q k b7 (λi hi=>by have:=L i hi;simpa using this)]
  have A:ja w1 g cap ay (kp ay q (k+1)) (k+1) F:=by
   rw[l];refine⟨p.aN,p.sz,by rw[ct];omega,λx B=>?_,λx h1 h2=>p.rest x (by omega) h2⟩
   rw[ct]at B;rw[He _ _ _ (by omega)];exact p.rest x (by omega) (by omega)
  have S:(kp ay q (k+1)).length=k:=by rw[l,ct];omega
  replace A:=J A;replace t:=J t;clear p L bj l;go_wp2_with fail;go_loopw [5,6] (λiv jv wr=>∃(j:Nat)(d:Array Value),k+1<=j/\j<=n/\iv=.int .i64 ((kp ay q j).length:Int)/\jv=.int .i64 (j:Int)/\(kp ay q j).length<j/\Inv j wr/\ja wr g cap ay (kp ay q j) j d/\w.heap.size<=wr.heap.size) (λ_ jv _=>n-(intOf jv).toNat);case atStart=>exact⟨k+1,F,aP _,by omega,by rw[S],by simp,by rw[S];omega,Z t,Z A,br⟩
  case round=>
   obtain⟨j,d,de,dg,rfl,rfl,bt,C,f,dk⟩:=hrel;obtain⟨M,N⟩:=exq (kp ay q j);rw[<-N]at bt f⊢;obtain⟨i,hi⟩:=exq M.length;rw[<-hi]at bt⊢;replace N:=J N;replace hi:=J hi;by_cases b8:j<n
   ·have d1:decide ((j:Int)<(n:Int))=true:=bK (by omega);have i1:(j:Int)<(n:Int):=by omega
    have i2:(i:Int)<(n:Int):=by omega
    have i3:i<n:=by omega
    obtain⟨y0,y1,y2,y3⟩:=f.at (by have:=Z b;omega);have hF:=J (λW(g1:wr.grownBy W none)=>Z Q W j (Z G _ _ _ C (cX g1 _)) b8);obtain⟨pa,D,E,aC⟩:=iZ _ (oE (i:=j) (by have:=Z b;omega));obtain⟨kt,l⟩:=exq (bJ ay j);rw[<-l]at y0 y1 y2 y3 hF aC;obtain⟨⟨num,tick,st,ps⟩,sv⟩:=kt;simp only at y0 y1 y2 y3 aC;subst aC;unfold kA at hF;simp only at hF;obtain⟨qj,a0⟩:=exq (q j);rw[<-a0]at hF;have bx:Hid (kp ay q (j+1)=if qj then M else M++[(⟨num,tick,st,ps⟩,.slice pa D E)]):=J (by rw[kp,<-a0,l,Z N]);clear a0;replace l:=J l;obtain⟨T,U⟩:=exq (wr.alloc (.cells #[.int .u64 num,.int .i64 tick,.int .i64 st,.slice pa D E] 325));have g3:wr.grownBy T none:=by rw[U];exact aH _ _ _
    have O:T.heap[wr.heap.size]?=some (.cells #[.int .u64 num,.int .i64 tick,.int .i64 st,.slice pa D E] 325 (0,0)):=by rw[U];exact aM _ _
    have ca:wr.heap.size<T.heap.size:=(aY.1 O).1;obtain⟨b0,b1,b2,b3⟩:=lS O;have bz:=J (Z hF T g3);replace C:=J C;replace O:=J O;clear hF;go_wp2_with fail;rw[<-U];clear U;go_wp2_with fail;refine(Z bz).mono ?_;rintro e s⟨rfl,V,g4⟩;have r:ja s g cap ay M j d:=f.same ((g4.block g (by omega) (λe=>bb (aO e).symm)).trans (g3.block g (by omega) (by simp)));have a1:=(g4.block wr.heap.size ca (λe=>by have:=aO e;omega)).trans (Z O);have ch:w.heap.size<=s.heap.size:=by have:=g4.size;omega
    replace V:=J V;clear y0 y1 y2 y3 b0 b1 b2 b3 f bz;cases qj
    ·obtain⟨b0,b1,b2,b3⟩:=lS a1;have dn:d.size=cap*4:=r.sz;have P:∀c,c<4->∃u,s.cell? ⟨g,i*4+c,none⟩=some u:=λc K=>by
      rw[aX r.aN];exact⟨d[i*4+c]'(by omega),Array.getElem?_eq_getElem (by omega)⟩
     obtain⟨u0,z0⟩:=P 0 (by omega);obtain⟨u1,z1⟩:=P 1 (by omega);obtain⟨u2,z2⟩:=P 2 (by omega);obtain⟨u3,z3⟩:=P 3 (by omega);rw[ou]at z0;have f0:s.frozen? ⟨g,i*4,none⟩=false:=by simp[World.frozen?,r.aN]
     have f1:s.frozen? ⟨g,i*4+1,none⟩=false:=by simp[World.frozen?,r.aN]
     have f2:s.frozen? ⟨g,i*4+2,none⟩=false:=by simp[World.frozen?,r.aN]
     have f3:s.frozen? ⟨g,i*4+3,none⟩=false:=by simp[World.frozen?,r.aN]
     obtain⟨W5,X⟩:=exq ((((s.setCell ⟨g,i*4,none⟩ (.int .u64 num)).setCell ⟨g,i*4+1,none⟩ (.int .i64 tick)).setCell ⟨g,i*4+2,none⟩ (.int .i64 st)).setCell ⟨g,i*4+3,none⟩ (.slice pa D E));have bM:=AJ (o:=i*4) r.aN (.int .u64 num) (.int .i64 tick) (.int .i64 st) (.slice pa D E);rw[<-X]at bM;obtain⟨g5,a2⟩:=bM;rw[Z hi]at a2;have cj:=J (r.put (W':=W5) (by have:=Z hi;omega) (by have:=Z b;omega) (by have:=Z b;omega) (⟨num,tick,st,ps⟩,.slice pa D E) a2);clear a2;replace X:=J X;have cp:=J (Z G _ _ _ (Z V) g5);have ds:=g5.size;clear P r;replace a1:=J a1;go_wp2_with fail;rw[<-Z X];obtain⟨cv,Y⟩:=Z cj;have v:=Z bx;simp only[gm,fR]at v;have a3:(kp ay q (j+1)).length=i+1:=by rw[v,bH,List.length_singleton,<-Z hi]
     exact⟨⟨j+1,cv,by omega,by omega,by rw[a3];simp,by simp,by omega,Z cp,by rw[v];exact Y,by omega⟩,by simp[intOf];omega⟩
    go_wp2_with fail;go_roundw;case measure=>simp[intOf];omega
    case rel=>
     have v:=Z bx;simp only[eX]at v;have a3:(kp ay q (j+1)).length=i:=by rw[v,<-Z hi]
     exact⟨j+1,d,by omega,by omega,by rw[a3],by simp,by omega,Z V,by rw[v];exact r.skip rfl,ch⟩
   have d1:decide ((j:Int)<(n:Int))=false:=bI (by omega);obtain rfl:j=n:=by omega
   have du:¬cap=i:=by omega
   have i2:(i:Int)<=(j:Int):=by omega
   have i3:(i:Int)<=(cap:Int):=by omega
   have i4:i<=j:=by omega
   have cw:i*4+(j-i)*4<=d.size:=by rw[f.sz];omega
   have cx:=J f.aN;have dx:g<wr.heap.size:=by omega
   replace C:=J C;obtain⟨zs,dE,cy⟩:=AH (w:=wr) 0 222 325 _ 4 (by omega) underlying222 Hc (by rfl) (by simp[Value.cells];exact⟨rfl,rfl,rfl⟩) g (i*4) (j-i) (cap-i) d _ (Z cx) (by omega) cw;obtain⟨W6,al⟩:=exq (wr.setRow g (d.toList.take (i*4)++zs++d.toList.drop (i*4+(j-i)*4)).toArray);rw[<-al]at cy;have g6:wr.grownBy W6 (some g):=by rw[al];exact uO _ _ _
   have Y:ja W6 g cap ay M j (d.toList.take (i*4)++zs++d.toList.drop (i*4+(j-i)*4)).toArray:=by
    have hs:=f.sz;refine⟨by rw[al];exact setRow_heap wr g _ _ _ _ f.aN,?_,f.le,λx B=>?_,λx h1 h2=>?_⟩
    simp only[sT,bH,ct,dF,p7];omega;have cC:x<i*4:=by rw[Z hi];exact B
    rw[<-f.ahead x B,sS,fg,mc (by rw[ct,p7];omega),jA,az cC,pZ];have:=Z b;omega
   have a4:Hid (R (.returned (.slice (some ⟨g,0,none⟩) i cap)) W6):=J (by
    have S:=Z N;rw[Z I,<-S];refine⟨by rw[Z hi],?_,Z G _ _ _ (Z C) g6⟩
    exact Y.own a8 ⟨by have:=Z hi;omega,by unfold maxLen;omega⟩)
   clear al Y;replace f:=J f;go_wp2_with fail;exact Z a4
 have b6:((-1:Int)== -1)=true:=rfl;have l:kp ay q n=ay:=by
  rw[Z b,AI ay q ay.length (aP _) (λi hi=>by have:=L i (by have:=Z b;omega);simpa using this),oq]
 have A:ja w1 g cap ay ay n F:=⟨p.aN,p.sz,by rw[Z b];exact aP _,λx B=>p.rest x (by omega) B,λx h1 h2=>by have:=Z b;omega⟩
 have a4:Hid (R (.returned (.slice (some ⟨g,0,none⟩) n cap)) w1):=J (by
  rw[Z I,l];refine⟨by rw[Z b],?_,t⟩
  exact A.own a8 ⟨by have:=Z b;omega,by unfold maxLen;omega⟩)
 clear p A L l;replace t:=J t;go_wp2_with fail;exact Z a4
theorem Hg:(prog.info? 325).map (λi=>(i.zero,i.size,i.bytes))=some (some (.agg #[.int .u64 0,.int .i64 0,.int .i64 0,.slice none 0 0]),4,48):=by kernel_rfl
theorem Hh(ty:TypeId)(e:Nat)(v:Value)(l:List Kt)(s:cf w e v l)(b c:Nat)(x:Kt)(t:∃a n c,x.2=.slice a n c)(h0:w.rangeAt b 0 (kq x))(H:l.length<=100000000)(y:e<=w.heap.size):
 ∃f h i d,(Builtin.append_ #[222,222] ty #[v,.slice (some ⟨b,0,none⟩) 1 c]).run prog w=.ok (.slice f h i) d/\cf d e (.slice f h i) (l++[x])/\w.grownBy d v.ownBlock/\((Value.slice f h i).ownBlock=v.ownBlock\/(Value.slice f h i).ownBlock=some w.heap.size):=by
 obtain⟨z,hi,A,B,C⟩:=lg Hg;obtain⟨I,K,xc,D⟩:=t;obtain⟨E,d,m,F,p,_,q⟩:=run_append_own_at (P:=prog) w e 222 ty 325 z _ 4 48 underlying222 hi A B C rfl (by decide) v l.length (iL l) s ⟨b,0,none⟩ 1 c (iL [x]) (by simp[iL,kq]) (by
  intro j u G;rw[Addr.add_mid];exact h0 j u (by simpa [iL]using G)) (by
  intro u r;simp[iL,kq,D]at r;obtain rfl|rfl|rfl|rfl:=r<;>rfl) (by simp[maxLen];omega) (by omega) y
 have k:cf d e E (l++[x]):=by
  unfold cf;rw[bH,show iL (l++[x])=iL l++iL [x] by simp[iL]];exact F
 obtain⟨-,⟨rfl,e2⟩|⟨g,cap,L,rfl,_⟩⟩:=id k;exact⟨_,_,_,d,m,k,p,q⟩
 exact⟨_,_,_,d,m,k,p,q⟩
theorem AK{j:Array Oper}{K:Act->World->Prop}{E:Prop}(k:H.guard=none)(s x:Operand)
 (ho:H.op=.call {callee:=.builtin .append,args:= #[s,x],argTypes:= #[222,222]})
 (g:Nat) (v:Value) (l:List Kt) (hs:I.eval s=v) (m:cf w g v l) (b c:Nat) (i:Kt) (p:∃I n c,i.2=.slice I n c) (q:I.eval x=.slice (some ⟨b,0,none⟩) 1 c) (h0:w.rangeAt b 0 (kq i)) (r:l.length<=100000000) (t:g<=w.heap.size)
 (h:∀a d e f,cf f g (.slice a d e) (l++[i])->w.grownBy f v.ownBlock->((Value.slice a d e).ownBlock=v.ownBlock\/(Value.slice a d e).ownBlock=some w.heap.size)->
   K (I.put H.dst (.slice a d e)) f):if Region.wanted H (yielded j I.tmps)=true then Oper.wp prog H I w K F else E:=by
 have u:Region.wanted H (yielded j I.tmps)=true:=by simp[Region.wanted,k]
 rw[az u];obtain⟨a,d,e,f,y,z,A,B⟩:=Hh (w:=w) H.type g v l m b c i p h0 r t;unfold Oper.wp execOp;simp only[ho,resolve,invoke,builtin,iU,mi,iT,nF,ki,mP,hs,q,y]
 exact h a d e f z A B
structure iA(w:World)(b:Nat)(cs:Array Value)(a:Nat)(c d:Value)(lf ll:List Kt)(count tick wait:Int):Prop where
 c0:cs[a]?=some (.int .u64 count)
 c1:cs[a+1]?=some (.int .i64 tick)
 c2:cs[a+2]?=some (.int .i64 wait)
 c3:cs[a+3]?=some c
 c4:cs[a+4]?=some d
 of:cf w b c lf
 ol:cf w b d ll
theorem Hi(w:World)(sb b c:Nat)(v:Value)(lf:List Kt)(c3:w.cell? ⟨sb,b+3,none⟩=some v)(of:cf w c v lf):Calls prog 208 #[.pointer (some ⟨sb,b,none⟩)] w λr d=>r=.returned (.bool (decide (10<=(lf.length:Int))))/\d=w:=by
 obtain⟨a,cap,rfl,-⟩:=of.gy;go_enter func208,ntmps208;go_wp2_with fail;go_ret;exact⟨rfl,rfl⟩
theorem AL(w:World)(sb a:Nat)(cs:Array Value)(t:TypeId)(count:Int)(b:w.heap[sb]?=some (.cells cs t (0,0)))(c0:cs[a]?=some (.int .u64 count))(d:0<=count/\count<=4611686018427387903):Calls prog 205 #[.pointer (some ⟨sb,a,none⟩)] w λr c=>r=.returned (.int .u64 count)/\w.grownBy c (some sb)/\c.heap[sb]?=some (.cells (cs.setIfInBounds a (.int .u64 (count+1))) t (0,0)):=by
 have d0:=(aX b a).trans c0;have f0:w.frozen? ⟨sb,a,none⟩=false:=by simp[World.frozen?,b]
 have e:IntKind.u64.wrap (count+1)=count+1:=by rw[fh];omega
 have f:IntKind.u64.wrap (count+1-1)=count:=by rw[fh];omega
 go_enter func205,ntmps205;go_wp2_with fail;go_ret;refine⟨?_,aI (aB _ _) _ _ (.inr rfl),heap_set b _⟩
 congr 2
theorem Hj(w:World)(sb b:Nat)(tick wait:Int)(c1:w.cell? ⟨sb,b+1,none⟩=some (.int .i64 tick))(c2:w.cell? ⟨sb,b+2,none⟩=some (.int .i64 wait))(x:Kt)(h:0<=tick/\tick<=1000000000000)(i:0<=x.1.tick/\x.1.tick<=1000000000000):
 Calls prog 198 #[.pointer (some ⟨sb,b,none⟩),.agg (kA x)] w λr g=>r=.returned (.bool (decide (wait<=tick-x.1.tick)))/\w.grownBy g none:=by
 obtain⟨⟨num,tk,st,ps⟩,e⟩:=x;unfold kA at *;simp only at *;obtain⟨f,a⟩:=exq (w.alloc (.cells #[.int .u64 num,.int .i64 tk,.int .i64 st,e] 325));have c:w.grownBy f none:=by rw[a];exact aH _ _ _
 have d:f.heap[w.heap.size]?=some (.cells #[.int .u64 num,.int .i64 tk,.int .i64 st,e] 325 (0,0)):=by rw[a];exact aM _ _
 obtain⟨-,j,-,-⟩:=lS d;have d1:=c.cell c1 (by simp);have d2:=c.cell c2 (by simp);have k:IntKind.i64.wrap (tick-tk)=tick-tk:=by simp[IntKind.wrap,IntKind.bits,IntKind.signed];omega
 replace d:=J d;go_enter func198,ntmps198;go_wp2_with fail;rw[<-a];clear a;go_quiet (fail);go_wp2_with fail;go_ret;exact⟨rfl,di c _⟩
theorem Hk(w:World)(x:Kt):Calls prog 200 #[.agg (kA x)] w λr a=>r=.returned (.bool true)/\w.grownBy a none:=by
 unfold kA;go_enter func200,ntmps200;go_wp2_with fail;go_ret;exact⟨rfl,by repeat(first|exact aB _ _|apply di|apply aW|apply ba)⟩
theorem cf.gb{l:List Kt}(h:cf w n x l)(g:w.grownBy W N)(a:x.ownBlock=none\/x.ownBlock≠N):cf W n x l:=World.ownsRow.kept h g a
theorem cf.ao{l:List Kt}(h:cf w n x l)(g:w.grownBy W none):cf W n x l:=h.gb g (by cases x.ownBlock<;>simp)
theorem Hl(w:World)(sb c l:Nat)(cs:Array Value)(t:TypeId)(n N:Value)(lf ll:List Kt)(count tick wait:Int)(G:w.heap[sb]?=some (.cells cs t (0,0)))(H:iA w l cs c n N lf ll count tick wait)(Y:l<=w.heap.size)(z:n.ownBlock≠some sb)(O:0<=count/\count<=4611686018427387903)(al:lf.length<=1000000)(k:Int)(pa:Option Addr)(d f:Nat)(ps:List Pc):
 Calls prog 210 #[.pointer (some ⟨sb,c,none⟩),.int .i64 k,.slice pa d f] w λr A=>r=.returned (.int .u64 count)/\∃p,A.heap[sb]?=some (.cells ((cs.setIfInBounds c (.int .u64 (count+1))).setIfInBounds (c+3) p) t (0,0))/\cf A l p (lf++[(⟨count,tick,k,ps⟩,.slice pa d f)])/\av w A (λi=>i=sb\/n.ownBlock=some i)/\(p.ownBlock=n.ownBlock\/∀i,p.ownBlock=some i->w.heap.size<=i):=by
 obtain⟨c0,c1,c2,c3,c4,of,ol⟩:=H;have P:=J (AL w sb c cs t count G c0 O);have ax:sb<w.heap.size:=(aY.1 G).1;obtain⟨B,C,rfl,aC,a0⟩:=of.gy;go_enter func210,ntmps210;go_wp2_with fail;refine(Z P).mono ?_;rintro e b⟨rfl,D,h⟩;have d1:b.cell? ⟨sb,c+1,none⟩=some (.int .i64 tick):=by rw[aX h,bg (by omega)];exact c1
 have d3:b.cell? ⟨sb,c+3,none⟩=some (.slice B lf.length C):=by rw[aX h,bg (by omega)];exact c3
 have f3:b.frozen? ⟨sb,c+3,none⟩=false:=by simp[World.frozen?,h]
 have Q:cf b l (.slice B lf.length C) lf:=of.gb D (.inr z);have a1:=D.size;obtain⟨I,j⟩:=exq ((b.alloc (.cells #[.int .u64 count,.int .i64 tick,.int .i64 k,.slice pa d f] 325)).drew);have q:b.grownBy I none:=by rw[j];exact aW (aH _ _ _)
 have E:I.heap[b.heap.size]?=some (.cells #[.int .u64 count,.int .i64 tick,.int .i64 k,.slice pa d f] 325 (0,0)):=by rw[j];exact aM b _
 have K:=J (kj (cs:=kq (⟨count,tick,k,ps⟩,.slice pa d f)) E);have L:=J (Q.ao q);have s:=bA h q;have R:=q.size;rw[j]at K L s;have S:l<=(b.alloc (.cells #[.int .u64 count,.int .i64 tick,.int .i64 k,.slice pa d f] 325)).drew.heap.size:=by rw[<-j];omega
 have T:sb<(b.alloc (.cells #[.int .u64 count,.int .i64 tick,.int .i64 k,.slice pa d f] 325)).drew.heap.size:=by rw[<-j];omega
 replace E:=J E;replace h:=J h;replace s:=J s;have U:=J d3;have M:Hid (b.heap.size<=(b.alloc (.cells #[.int .u64 count,.int .i64 tick,.int .i64 k,.slice pa d f] 325)).drew.heap.size):=J (by rw[<-j];omega);clear q j R;have a2:sb<b.heap.size:=by omega
 go_wp2_with fail;go_region_law ((refine AK (by rfl) _ _ (by rfl) l _ lf (by rfl) (Z L) _ _ (⟨count,tick,k,ps⟩,.slice pa d f) ⟨_,_,_,rfl⟩ (by rfl) (Z K) (by omega) S ?_;intro a7 u c7 v F x y;replace F:=J F;replace y:=J y;have m:=(x.block sb T (λe=>z e.symm)).trans (Z s);have a3:v.cell? ⟨sb,c+3,none⟩=some (.slice B lf.length C):=((lH (w:=b) (a:=⟨sb,c+3,none⟩) (m.trans (Z h).symm)).trans (Z U));have f7:v.frozen? ⟨sb,c+3,none⟩=false:=(by simp[World.frozen?,m]);replace m:=J m;replace x:=J x));all_goals go_wp2_with fail
 all_goals
  go_ret
  have V:(Value.slice a7 u c7).ownBlock≠some sb:=by
   obtain e|e:=Z y
   rw[e];exact z;rw[e];intro e2;have W:=aO e2;have:=Z M;omega
  refine⟨rfl,.slice a7 u c7,heap_set (Z m) _,(Z F).gb (aI (aB v (some sb)) ⟨sb,c+3,none⟩ (.slice a7 u c7) (.inr rfl)) (.inr V),?_,?_⟩
  have X:av b (b.alloc (.cells #[.int .u64 count,.int .i64 tick,.int .i64 k,.slice pa d f] 325)).drew (λ_=>False):=(av.of (aW (aH b _ none))).mono (λk _ e=>by cases e)
  refine((((av.of D).trans X).trans (av.of (Z x))).trans (av.of (aI (aB v (some sb)) ⟨sb,c+3,none⟩ (.slice a7 u c7) (.inr rfl)))).mono (λi _ g=>?_)
  obtain((g|g)|g)|g:=g
  exact .inl (aO g).symm
  exact g.elim
  exact .inr g
  exact .inl (aO g).symm
  obtain e|e:=Z y
  exact .inl e
  refine .inr (λi hi=>?_)
  rw[e]at hi
  have W:=aO hi
  have:=Z M
  omega
theorem xU(a:Option Addr)(cap b:Nat)(lb:Array Value)(w:World)(c:cap<=maxLen)(d:∀args w,(callFunc b args).run prog w=.ok (.enter b args) w):
 Calls prog 236 #[.slice a 0 cap,.func (.func b) #[] lb] w λe f=>e=.returned (.slice a 0 cap)/\f=w:=by
 have g:=J (xQ a 0 0 0 cap b #[] lb w (λ_=>False) (λ_=>undef) (λ_=>undef) (λ_=>undef) (λ_=>undef) (λ_ W=>W=w) (λh=>by omega) ⟨by omega,c⟩ d rfl (λW h _ i=>by omega) (λW h _ i=>by omega));go_enter func236,ntmps236;go_wp2_with fail;refine(Z g).mono ?_;rintro e j(⟨k,l,-⟩|⟨rfl,-,rfl⟩);omega;go_wp2_with fail;go_ret;exact⟨rfl,rfl⟩
def FT(sb:Nat)(a b:Value)(k:Nat):Prop:=k=sb\/a.ownBlock=some k\/b.ownBlock=some k
theorem cf.mid{l:List Kt}(h:cf w k (.slice (some ⟨i,0,none⟩) n j) l):k<=i/\∃a,ja w i j l [] 0 a:=by
 obtain⟨g,⟨c,h0⟩|⟨m,p,a,e1,e2,d,q,r,e,f⟩⟩:=h;cases c;cases e1;refine⟨e2,a,d,e,aP _,λx b=>by simp at b,λx _ b=>?_⟩
 rw[<-f,jA,az b,pZ]
theorem Hm(l:List Kt)(Q:Kt->Bool)(j:Nat)(a:j<l.length):(l.take (j+1)).filter Q=(l.take j).filter Q++(if Q (bJ l j)then[bJ l j]else[]):=by
 rw[qF,nJ a,Option.toList_some,List.filter_append];cases h:Q (bJ l j)<;>simp[h]
structure nK(w:World)(sb e b:Nat)(cs:Array Value)(t:TypeId)(c d:Value)(lf f:List Kt)(a:Value)(W:World):Prop where
 aN:W.heap[sb]?=some (.cells (cs.setIfInBounds (e+4) a) t (0,0))
 of:cf W b c lf
 ol:cf W b a f
 aw:av w W (FT sb c d)
 new:a.ownBlock=d.ownBlock\/∀k,a.ownBlock=some k->w.heap.size<=k
theorem nK.gb{lf a:List Kt}(h:nK w n k i c T x y lf a z W)(g:W.grownBy v none):nK w n k i c T x y lf a z v:=
 ⟨bA h.aN g,h.of.ao g,h.ol.ao g,h.aw.grow g,h.new⟩
theorem nK.apart{lf a:List Kt}(h:nK w n i j c T x y lf a z W)(l:n<w.heap.size)(b:y.ownBlock≠some n)(d:∀k,x.ownBlock=some k->y.ownBlock≠some k)(f:∀k,x.ownBlock=some k->k<w.heap.size):z.ownBlock≠some n/\∀k,x.ownBlock=some k->z.ownBlock≠some k:=by
 obtain e|e:=h.new
 rw[e];exact⟨b,d⟩
 exact⟨λe2=>by have:=e _ e2;omega,λk g e2=>by have:=e _ e2;have:=f k g;omega⟩
theorem nK.app{lf t p:List Kt}{b:Value}(h:nK w n i j c T x y lf t z W)(g:W.grownBy v none)(u:cf V j b p)(f:v.grownBy V z.ownBlock)(q:b.ownBlock=z.ownBlock\/b.ownBlock=some v.heap.size)(r:n<w.heap.size)(A:y.ownBlock≠some n)(B:x.ownBlock≠some n)(C:∀k,x.ownBlock=some k->y.ownBlock≠some k)(D:∀k,x.ownBlock=some k->k<w.heap.size):nK w n i j c T x y lf p b (V.setCell ⟨n,i+4,none⟩ b):=by
 have d:=h.gb g;obtain⟨s,E⟩:=h.apart r A C D;have F:n<v.heap.size:=bY r d.aw.size;have G:V.heap[n]?=some (.cells (c.setIfInBounds (i+4) z) T (0,0)):=(f.block n F (λe=>s e.symm)).trans d.aN;have l:=aI (aB V (some n)) ⟨n,i+4,none⟩ b (.inr rfl);have H:b.ownBlock≠some n:=by
  obtain e|e:=q
  rw[e];exact s;rw[e];intro e2;have:=aO e2;omega
 refine⟨by rw[heap_set G];simp,?_,u.gb l (.inr H),?_,?_⟩
 have I:cf V j x lf:=d.of.gb f (by
  cases K:x.ownBlock with
  |none=>exact .inl rfl
  |some k=>exact .inr (λe=>E k K e.symm))
 exact I.gb l (.inr B);refine((d.aw.trans (av.of f)).trans (av.of l)).mono (λk m a=>?_);obtain(a|a)|a:=a
 exact a;obtain e|e:=h.new
 exact .inr (.inr (e▸a));have:=e k a;omega;exact .inl (aO a).symm;obtain e|e:=q
 rw[e];exact h.new;exact .inr (λk m=>by rw[e]at m;have:=aO m;have:=d.aw.size;omega)
theorem AM(w:World)(sb f m N:Nat)(lb:Array Value)(cs:Array Value)(t:TypeId)(y p:Value)(lf ll:List Kt)(count tick wait:Int)(Q:Kt->Bool)(U:w.heap[sb]?=some (.cells cs t (0,0)))(H:iA w m cs f y p lf ll count tick wait)(ej:m<=w.heap.size)(V:y.ownBlock≠some sb)(a9:p.ownBlock≠some sb)(ax:∀k,y.ownBlock=some k->p.ownBlock≠some k)(ek:lf.length<=1000000/\ll.length<=50000000)(iZ:∀x∈lf,∃a n c,x.2=.slice a n c)
 (eg:∀args w,(callFunc N args).run prog w=.ok (.enter N args) w)
 (X:∀(W:World)(h:Nat),av w W (FT sb y p)->h<lf.length->Calls prog N (#[.agg (kA (bJ lf h))]++lb) W (λe W'=>e=.returned (.bool (Q (bJ lf h)))/\W.grownBy W' none)):
 Calls prog 199 #[.pointer (some ⟨sb,f,none⟩),.func (.func N) #[] lb] w λr q=>r=.returned (.tuple #[])/\∃z d,q.heap[sb]?=some (.cells ((cs.setIfInBounds (f+4) d).setIfInBounds (f+3) z) t (0,0))/\cf q m z (lf.filter (λx=> !Q x))/\cf q m d (ll++lf.filter Q)/\av w q (FT sb y p)/\z.ownBlock=y.ownBlock/\(d.ownBlock=p.ownBlock\/∀k,d.ownBlock=some k->w.heap.size<=k):=by
 obtain⟨R,O⟩:=exq (λq:World=>∃z d,q.heap[sb]?=some (.cells ((cs.setIfInBounds (f+4) d).setIfInBounds (f+3) z) t (0,0))/\cf q m z (lf.filter (λx=> !Q x))/\cf q m d (ll++lf.filter Q)/\av w q (FT sb y p)/\z.ownBlock=y.ownBlock/\(d.ownBlock=p.ownBlock\/∀k,d.ownBlock=some k->w.heap.size<=k));have bz:(λr q=>r=Ending.returned (.tuple #[])/\∃z d,q.heap[sb]?=some (.cells ((cs.setIfInBounds (f+4) d).setIfInBounds (f+3) z) t (0,0))/\cf q m z (lf.filter (λx=> !Q x))/\cf q m d (ll++lf.filter Q)/\av w q (FT sb y p)/\z.ownBlock=y.ownBlock/\(d.ownBlock=p.ownBlock\/∀k,d.ownBlock=some k->w.heap.size<=k))=λr q=>r=Ending.returned (.tuple #[])/\R q:=by rw[O]
 rw[bz];clear bz;replace O:=J O;obtain⟨c0,c1,c2,c3,c4,of,ol⟩:=H;have bb:sb<w.heap.size:=(aY.1 U).1;have d3:=(aX U _).trans c3;have aC:nK w sb f m cs t y p lf (ll++(lf.take 0).filter Q) p w:=⟨by rw[tA c4];exact U,of,by simpa using ol,av.rfl' _ _,.inl rfl⟩
 obtain⟨G,l,rfl,dg,dk⟩:=of.gy;unfold maxLen at dk;replace aC:=J aC;replace X:=J X;replace U:=J U;have eo:=gM c3;have bM:=gM c4;obtain⟨n,B⟩:=exq lf.length;rw[<-B]at d3 aC X dg ax V of O;replace B:=J B;clear c0 c1 c2;go_enter func199,ntmps199;go_wp2_with fail;go_loopw [11] (λjv wr=>∃(j:Nat)(d:Value),j<=n/\jv=.int .i64 (j:Int)/\nK w sb f m cs t (.slice G n l) p lf (ll++(lf.take j).filter Q) d wr) (λjv _=>n-(intOf jv).toNat);case atStart=>exact⟨0,p,by omega,rfl,Z aC⟩
 case round=>
  obtain⟨j,d,hj,rfl,b⟩:=hrel;by_cases dn:j<n
  ·have d1:decide ((j:Int)<(n:Int))=true:=bK (by omega);have i1:(j:Int)<(n:Int):=by omega
   have bj:j<lf.length:=by have:=Z B;omega
   obtain⟨g,rfl,b4⟩:=b.of.cell (by omega);obtain⟨y0,y1,y2,y3⟩:=b4 j bj;clear b4;rw[dR]at y0 y1 y2 y3;obtain⟨pa,D,E,br⟩:=iZ _ (oE bj);have Y:Hid (ll++(lf.take (j+1)).filter Q=(ll++(lf.take j).filter Q)++(if Q (bJ lf j)then[bJ lf j]else[])):=J (by rw[Hm lf Q j bj,fg]);have hF:=J (λW(g1:wr.grownBy W none)=>Z X W j (b.aw.grow g1) dn);have b5:Hid ((ll++(lf.take j).filter Q).length<=60000000):=J (by
    have F:=ny Q (lf.take j);rw[ct]at F;rw[bH];omega)
   obtain⟨kt,b6⟩:=exq (bJ lf j);obtain⟨qj,b7⟩:=exq (Q (bJ lf j));rw[<-b7]at hF Y;rw[<-b6]at y0 y1 y2 y3 hF br Y;clear b6 b7;obtain⟨lj,b8⟩:=exq (ll++(lf.take j).filter Q);rw[<-b8]at b b5 Y;clear b8;obtain⟨⟨num,tk,st,ps⟩,sv⟩:=kt;simp only at y0 y1 y2 y3 br;subst br;unfold kA at hF;simp only at hF;obtain⟨W3,a0⟩:=exq (wr.alloc (.cells #[.int .u64 num,.int .i64 tk,.int .i64 st,.slice pa D E] 325));have g3:wr.grownBy W3 none:=by rw[a0];exact aH _ _ _
   have a1:W3.heap[wr.heap.size]?=some (.cells #[.int .u64 num,.int .i64 tk,.int .i64 st,.slice pa D E] 325 (0,0)):=by rw[a0];exact aM _ _
   obtain⟨b0,b1,b2,b3⟩:=lS a1;have ca:=J (Z hF W3 g3);replace a1:=J a1;clear hF;go_wp2_with fail;rw[<-a0];clear a0;go_wp2_with fail;refine(Z ca).mono ?_;rintro e C⟨rfl,g4⟩;have ds:=aq g3 g4;have s:=b.gb ds;have a2:=bA (Z a1) g4;clear y0 y1 y2 y3 b0 b1 b2 b3 ca;cases qj
   ·have I:=Z Y;simp only[gm,fR,ot]at I;replace I:=J I;replace s:=J s;replace b:=J b;go_wp2_with fail;go_roundw;case measure=>simp[intOf];omega
    case rel=>exact⟨j+1,d,by omega,by simp,by rw[Z I];exact Z s⟩
   obtain⟨b0,b1,b2,b3⟩:=lS a2;have a3:∀k,(Value.slice (some ⟨g,0,none⟩) n l).ownBlock=some k->k<w.heap.size:=λk hk=>(of.lt k hk).2
   obtain⟨la,ew,du,-⟩:=s.ol.gy;have ey:w.heap.size<=C.heap.size:=s.aw.size;have ez:sb<C.heap.size:=by omega
   have eK:wr.heap.size<C.heap.size:=(aY.1 a2).1;obtain⟨K,a4⟩:=exq ((C.alloc (.cells #[.int .u64 num,.int .i64 tk,.int .i64 st,.slice pa D E] 325)).drew);have P:C.grownBy K none:=by rw[a4];exact aW (aH _ _ _)
   have S:K.heap[C.heap.size]?=some (.cells #[.int .u64 num,.int .i64 tk,.int .i64 st,.slice pa D E] 325 (0,0)):=by rw[a4];exact aM C _
   have ch:=J (kj (cs:=kq (⟨num,tk,st,ps⟩,.slice pa D E)) S);have o5:=J (s.ol.ao P);have cj:m<=K.heap.size:=by have:=P.size;omega
   have cp:sb<K.heap.size:=by have:=P.size;omega
   have e4:C.cell? ⟨sb,f+4,none⟩=some d:=by rw[aX s.aN];exact cB bM
   have f4:C.frozen? ⟨sb,f+4,none⟩=false:=by simp[World.frozen?,s.aN]
   have cv:=J (bA s.aN P);have al:=s.apart bb a9 ax a3;have cw:Hid (∀(u:World)(T:Value),cf u m T (lj++[(⟨num,tk,st,ps⟩,.slice pa D E)])->K.grownBy u d.ownBlock->(T.ownBlock=d.ownBlock\/T.ownBlock=some K.heap.size)->nK w sb f m cs t (.slice (some ⟨g,0,none⟩) n l) p lf (lj++[(⟨num,tk,st,ps⟩,.slice pa D E)]) T (u.setCell ⟨sb,f+4,none⟩ T)):=J (λu T F A h3=>s.app P F A h3 bb a9 V ax a3);have cx:Hid (∀u,K.grownBy u d.ownBlock->u.cell? ⟨sb,f+4,none⟩=some d/\u.frozen? ⟨sb,f+4,none⟩=false):=J (λu g7=>by
    have cy:=(g7.block sb cp (λe=>al.1 e.symm)).trans (Z cv);exact⟨by rw[aX cy];exact cB bM,by simp[World.frozen?,cy]⟩)
   subst du;rw[a4]at ch o5 cj cw cx;clear a4 P S cp cv;replace s:=J s;replace b:=J b;replace a2:=J a2;go_upto_region 4 with fail;go_region_law ((refine AK (by rfl) _ _ (by rfl) m _ lj (by rfl) (Z o5) _ _ (⟨num,tk,st,ps⟩,.slice pa D E) ⟨_,_,_,rfl⟩ (by rfl) (Z ch) (by have:=Z b5;omega) cj ?_;intro a7 n7 c7 u o7 g7 h7;have dx:=J (Z cw u _ o7 g7 h7);obtain⟨z7,y7⟩:=Z cx u g7;clear o7 g7 h7));all_goals
    go_wp2_with fail
    have I:=Z Y
    simp only[eX]at I
    exact⟨⟨j+1,_,by omega,by simp,by rw[I];exact Z dx⟩,by simp[intOf];omega⟩
  have d1:decide ((j:Int)<(n:Int))=false:=bI (by omega);obtain rfl:j=n:=by omega
  have cC:lf.take j=lf:=by rw[Z B,oq]
  rw[cC]at b;have a3:∀k,(Value.slice G j l).ownBlock=some k->k<w.heap.size:=λk hk=>(of.lt k hk).2
  have al:=b.apart bb a9 ax a3;have e3:wr.cell? ⟨sb,f+3,none⟩=some (.slice G j l):=by
   rw[aX b.aN,bg (by omega),Z B];exact c3
  have f3:wr.frozen? ⟨sb,f+3,none⟩=false:=by simp[World.frozen?,b.aN]
  have eL:w.heap.size<=wr.heap.size:=b.aw.size;by_cases hz:j=0
  ·subst hz;have dE:lf=[]:=iF (Z B).symm;have hD:=J (xU G l N lb wr (by unfold maxLen;omega) eg);have a8:Hid (R (wr.setCell ⟨sb,f+3,none⟩ (.slice G 0 l))):=J (by
    rw[Z O];have L:=aI (aB wr (some sb)) ⟨sb,f+3,none⟩ (.slice G 0 l) (.inr rfl);refine⟨.slice G 0 l,d,heap_set b.aN _,?_,b.ol.gb L (.inr al.1),(b.aw.trans (av.of L)).mono (λk _ M=>M.elim id (λe=>.inl (aO e).symm)),rfl,b.new⟩
    have F:=b.of.gb L (.inr V);rw[dE]at F⊢;exact F)
   replace b:=J b;go_wp2_with fail;refine(Z hD).mono ?_;rintro e v⟨rfl,rfl⟩;go_wp2_with fail;exact eW (et rfl _ _ _) rfl ⟨rfl,Z a8⟩
  obtain⟨g,rfl,-⟩:=b.of.cell (by omega);obtain⟨dG,ea,bt⟩:=b.of.mid;have c9:sb≠g:=λe=>V (by rw[e];rfl)
  have ee:d.ownBlock≠some g:=al.2 g rfl;have ei:j<=l/\l<=maxLen:=⟨by omega,by unfold maxLen;omega⟩
  have hD:=J (xS g j l m N sb lb lf wr (λh=>Q (bJ lf h)) (λ_ W=>W.heap[sb]?=wr.heap[sb]? /\cf W m d (ll++lf.filter Q)/\av w W (FT sb (.slice (some ⟨g,0,none⟩) j l) p)/\wr.heap.size<=W.heap.size) ea dG (Z B) ei iZ bt (by omega) c9 eg ⟨rfl,b.ol,b.aw,aP _⟩
   (λW W' h hi gg=>⟨(gg.block sb (by omega) (λe=>c9 (aO e))).trans hi.1,hi.2.1.gb gg (.inr ee),(hi.2.2.1.trans (av.of gg)).mono (λk _ M=>M.elim id (λe=>.inr (.inl e))),bD hi.2.2.2 gg.size⟩)
   (λW h hi M=>(Z X W h hi.2.2.1 M).mono (λe W' A=>⟨A.1,⟨(A.2.block sb (by omega) (by simp)).trans hi.1,hi.2.1.ao A.2,hi.2.2.1.grow A.2,bD hi.2.2.2 A.2.size⟩,cX A.2 _⟩)))
  have db:kp lf (λh=>Q (bJ lf h)) j=lf.filter (λx=> !Q x):=by
   rw[xR lf _ Q (λi _=>rfl) j (by have:=Z B;omega),cC]
  rw[db]at hD;have a8:Hid (∀v,cf v m (.slice (some ⟨g,0,none⟩) (lf.filter (λx=> !Q x)).length l) (lf.filter (λx=> !Q x))->v.heap[sb]?=wr.heap[sb]? ->cf v m d (ll++lf.filter Q)->av w v (FT sb (.slice (some ⟨g,0,none⟩) j l) p)->R (v.setCell ⟨sb,f+3,none⟩ (.slice (some ⟨g,0,none⟩) (lf.filter (λx=> !Q x)).length l))/\v.cell? ⟨sb,f+3,none⟩=some (.slice (some ⟨g,0,none⟩) j l)/\v.frozen? ⟨sb,f+3,none⟩=false):=J (λv F A h3 h4=>by
   have S:=A.trans b.aN;have L:=aI (aB v (some sb)) ⟨sb,f+3,none⟩ (.slice (some ⟨g,0,none⟩) (lf.filter (λx=> !Q x)).length l) (.inr rfl);refine⟨?_,by rw[aX S,<-aX b.aN];exact e3,by simp[World.frozen?,S]⟩
   rw[Z O];exact⟨.slice (some ⟨g,0,none⟩) (lf.filter (λx=> !Q x)).length l,d,heap_set S _,F.gb L (.inr V),h3.gb L (.inr al.1),(h4.trans (av.of L)).mono (λk _ M=>M.elim id (λe=>.inl (aO e).symm)),rfl,b.new⟩)
  replace b:=J b;replace bt:=J bt;obtain⟨lk,de⟩:=exq (lf.filter (λx=> !Q x));rw[<-de]at hD a8;clear db de;go_wp2_with fail;refine(Z hD).mono ?_;rintro e v⟨rfl,o5,h5,l5,C5,-⟩;obtain⟨bx,e5,f5⟩:=Z a8 v o5 h5 l5 C5;replace bx:=J bx;clear o5 h5 l5 C5;go_wp2_with fail;exact eW (et rfl _ _ _) rfl ⟨rfl,Z bx⟩
structure qP(w b:World)(sb:Nat)(t:TypeId)(cs a:Array Value)(c:Nat)(d e f g:Value):Prop where
 aN:b.heap[sb]?=some (.cells a t (0,0))
 sz:a.size=cs.size
 out:∀i,i<c\/c+5<=i->a[i]?=cs[i]?
 aw:av w b (FT sb d e)
 Hn:f.ownBlock=d.ownBlock\/∀k,f.ownBlock=some k->w.heap.size<=k
 AN:g.ownBlock=e.ownBlock\/∀k,g.ownBlock=some k->w.heap.size<=k
def qk(w b:World)(sb:Nat)(t:TypeId)(cs:Array Value)(c g:Nat)(d h:Value)(lf ll:List Kt)(count tick wait:Int):Prop:=
 ∃e a f,qP w b sb t cs e c d h a f/\iA b g e c a f lf ll count tick wait/\a.ownBlock=d.ownBlock
def pq(sb:Nat)(a b:Value):Prop:=a.ownBlock≠some sb/\b.ownBlock≠some sb/\∀k,a.ownBlock=some k->b.ownBlock≠some k
theorem Ho(w:World)(sb d p:Nat)(cs:Array Value)(t:TypeId)(s l:Value)(lf ll:List Kt)(count tick wait:Int)(y:w.heap[sb]?=some (.cells cs t (0,0)))(H:iA w p cs d s l lf ll count tick wait)(de:p<=w.heap.size)(b0:pq sb s l)(b3:lf.length<=1000000/\ll.length<=50000000)(iZ:∀x∈lf,∃a n c,x.2=.slice a n c)(ht:0<=tick/\tick<1000000000000)(S:∀x∈lf,0<=x.1.tick/\x.1.tick<=1000000000000)(hw:0<=wait/\wait<=1000):
 Calls prog 156 #[.pointer (some ⟨sb,d,none⟩)] w λr q=>r=.returned (.tuple #[])/\(((∃x∈lf,wait<=tick+1-x.1.tick)/\qk w q sb t cs d p s l [] (ll++lf) count (tick+1) (min (2*wait) 32))\/((¬∃x∈lf,wait<=tick+1-x.1.tick)/\qk w q sb t cs d p s l lf ll count (tick+1) wait)):=by
 obtain⟨R,T⟩:=exq (λq:World=>(((∃x∈lf,wait<=tick+1-x.1.tick)/\qk w q sb t cs d p s l [] (ll++lf) count (tick+1) (min (2*wait) 32))\/((¬∃x∈lf,wait<=tick+1-x.1.tick)/\qk w q sb t cs d p s l lf ll count (tick+1) wait)));have a2:(λ(r:Ending) q=>r=.returned (.tuple #[])/\(((∃x∈lf,wait<=tick+1-x.1.tick)/\qk w q sb t cs d p s l [] (ll++lf) count (tick+1) (min (2*wait) 32))\/((¬∃x∈lf,wait<=tick+1-x.1.tick)/\qk w q sb t cs d p s l lf ll count (tick+1) wait)))=λr q=>r=.returned (.tuple #[])/\R q:=by rw[T]
 rw[a2];clear a2;obtain⟨c0,c1,c2,c3,c4,of,ol⟩:=H;obtain⟨U,V,b4⟩:=b0;have dn:sb<w.heap.size:=(aY.1 y).1;obtain⟨j,D⟩:=exq (w.setCell ⟨sb,d+1,none⟩ (.int .i64 (tick+1)));have E:w.grownBy j (some sb):=by rw[D];exact aI (aB _ _) _ _ (.inr rfl)
 have u:j.heap[sb]?=some (.cells (cs.setIfInBounds (d+1) (.int .i64 (tick+1))) t (0,0)):=by rw[D];exact heap_set y _
 obtain⟨v,L⟩:=exq (cs.setIfInBounds (d+1) (.int .i64 (tick+1)));rw[<-L]at u;have z:∀i,i≠d+1->v[i]?=cs[i]? :=λi h=>by rw[L,bg (by omega)]
 have f:iA j p v d s l lf ll count (tick+1) wait:=⟨by rw[z _ (by omega)];exact c0,by rw[L];exact cB (gM c1),by rw[z _ (by omega)];exact c2,by rw[z _ (by omega)];exact c3,by rw[z _ (by omega)];exact c4,of.gb E (.inr U),ol.gb E (.inr V)⟩
 have a3:v.size=cs.size:=by rw[L];simp
 have ds:w.heap.size<=j.heap.size:=E.size;have e1:=(aX u _).trans f.c1;have e2:=(aX u _).trans f.c2;have e3:=(aX u _).trans f.c3;obtain⟨A,M,rfl,b5,b6⟩:=of.gy;have hC:=J (λb(ha:0<lf.length->A=some ⟨b,0,none⟩)(b8:∀i,i<lf.length->j.cell? ⟨b,0+i*4,none⟩=some (.int .u64 (bJ lf i).1.num)/\j.cell? ⟨b,0+i*4+1,none⟩=some (.int .i64 (bJ lf i).1.tick)/\j.cell? ⟨b,0+i*4+2,none⟩=some (.int .i64 (bJ lf i).1.st)/\j.cell? ⟨b,0+i*4+3,none⟩=some (bJ lf i).2)=>AF A b 0 lf.length M 198 #[.pointer (some ⟨sb,d,none⟩)] #[] j (λi=>wait<=tick+1-(bJ lf i).1.tick) (λi=>.int .u64 (bJ lf i).1.num) (λi=>.int .i64 (bJ lf i).1.tick) (λi=>.int .i64 (bJ lf i).1.st) (λi=>(bJ lf i).2) ha ⟨b5,b6⟩ (λ_ _=>by kernel_rfl)
  (λW i g hi=>by obtain⟨p0,p1,p2,p3⟩:=b8 i hi;exact⟨g.cell p0 (by simp),g.cell p1 (by simp),g.cell p2 (by simp),g.cell p3 (by simp)⟩)
  (λW i g hi=>by
    refine(Hj W sb d (tick+1) wait (g.cell e1 (by simp)) (g.cell e2 (by simp)) (bJ lf i) (by omega) (S _ (oE hi))).mono ?_;rintro e W'⟨rfl,g'⟩;exact⟨nI Iff.rfl,g'⟩))
 obtain⟨cb,a8,a9⟩:∃b,(0<lf.length->A=some ⟨b,0,none⟩)/\(∀i,i<lf.length->j.cell? ⟨b,0+i*4,none⟩=some (.int .u64 (bJ lf i).1.num)/\j.cell? ⟨b,0+i*4+1,none⟩=some (.int .i64 (bJ lf i).1.tick)/\j.cell? ⟨b,0+i*4+2,none⟩=some (.int .i64 (bJ lf i).1.st)/\j.cell? ⟨b,0+i*4+3,none⟩=some (bJ lf i).2):=by
  by_cases hz:0<lf.length;obtain⟨b,e,h⟩:=f.of.cell hz;exact⟨b,λ_=>e,h⟩
  exact⟨0,λh=>absurd h hz,λi hi=>by omega⟩
 have cj:=J (Z hC cb a8 a9);clear hC a8 a9;have bj:Hid ((∃i,i<lf.length/\wait<=tick+1-(bJ lf i).1.tick)↔∃x∈lf,wait<=tick+1-x.1.tick):=J (by
  constructor;rintro⟨i,hi,h⟩;exact⟨_,oE hi,h⟩
  ·rintro⟨x,S,h⟩;obtain⟨i,hi,rfl⟩:=jP.1 S;exact⟨i,hi,by simpa [bJ,List.getD,hi]using h⟩)
 have cp:=J (λW(g:j.grownBy W none)=>AM W sb d p 200 #[] v t (.slice A lf.length M) l lf ll count (tick+1) wait (λ_=>true) (bA u g) ⟨f.c0,f.c1,f.c2,f.c3,f.c4,f.of.ao g,f.ol.ao g⟩ (by have:=g.size;omega) U V b4 b3 iZ (λ_ _=>by kernel_rfl) (λW h _ _=>by rw[Array.append_empty];exact Hk W _));have dE:IntKind.i64.wrap (tick+1)=tick+1:=by simp[IntKind.wrap,IntKind.bits,IntKind.signed];omega
 have d1:=(aX y _).trans c1;have f1:w.frozen? ⟨sb,d+1,none⟩=false:=by simp[World.frozen?,y]
 have cv:Hid (∀W,j.grownBy W none->(¬∃x∈lf,wait<=tick+1-x.1.tick)->R W):=J (λW g N=>by
  rw[T];refine .inr ⟨N,v,.slice A lf.length M,l,⟨bA u g,a3,λi hi=>z i (by omega),((av.of E).trans (av.of g)).mono (λk _ m=>m.elim (λe=>.inl (aO e).symm) (λe=>by cases e)),.inl rfl,.inl rfl⟩,⟨f.c0,f.c1,f.c2,f.c3,f.c4,f.of.ao g,f.ol.ao g⟩,rfl⟩)
 replace u:=J u;replace y:=J y;replace D:=J D;go_enter func156,ntmps156;go_upto_region 1 with fail;rw[<-Z D];go_wp2_with fail;refine(Z cj).mono ?_;rintro e X⟨⟨b,rfl,O⟩,F⟩;cases b
 ·have N:¬∃x∈lf,wait<=tick+1-x.1.tick:=λh=>by have:=O.2 ((Z bj).2 h);cases this
  have G:=J (Z cv X F N);clear O N;go_wp2_with fail;exact cA (et rfl _ _ _) rfl ⟨rfl,Z G⟩
 have cw:Hid (∃x∈lf,wait<=tick+1-x.1.tick):=J ((Z bj).1 (O.1 rfl));clear O;go_wp2_with fail;refine(Z cp X F).mono ?_;rintro e P⟨rfl,br,Y,B,al,ax,C3,Q,aC⟩;have bx:lf.filter (λ_=> !true)=[]:=by simp
 have bz:lf.filter (λ_=>true)=lf:=by simp
 rw[bx]at al;rw[bz]at ax;obtain⟨a0,C⟩:=exq ((v.setIfInBounds (d+4) Y).setIfInBounds (d+3) br);rw[<-C]at B;have I:∀i,i≠d+3->i≠d+4->a0[i]?=v[i]? :=λi h1 h2=>by rw[C,bg (by omega),bg (by omega)]
 have k2:P.cell? ⟨sb,d+2,none⟩=some (.int .i64 wait):=by rw[aX B,I _ (by omega) (by omega)];exact f.c2
 have f2:P.frozen? ⟨sb,d+2,none⟩=false:=by simp[World.frozen?,B]
 have eg:IntKind.i64.wrap (2*wait)=2*wait:=by simp[IntKind.wrap,IntKind.bits,IntKind.signed];omega
 have cx:v.size=a0.size:=by rw[C];simp
 have cy:=gM f.c4;have ei:=gM f.c3;have G:Hid (R (P.setCell ⟨sb,d+2,none⟩ (.int .i64 (min (2*wait) 32)))):=J (by
  rw[T];have gs:=aI (aB P (some sb)) ⟨sb,d+2,none⟩ (.int .i64 (min (2*wait) 32)) (.inr rfl);have cC:av w X (FT sb (.slice A lf.length M) l):=((av.of E).trans (av.of F)).mono (λk _ m=>m.elim (λe=>.inl (aO e).symm) (λe=>by cases e));have c9:Y.ownBlock≠some sb:=by
   obtain e|e:=aC
   rw[e];exact V;intro e2;have:=e _ e2;have:=F.size;omega
  refine .inl ⟨Z cw,a0.setIfInBounds (d+2) (.int .i64 (min (2*wait) 32)),br,Y,⟨heap_set B _,by simp[<-cx,a3],λi hi=>?_,?_,.inl Q,?_⟩,⟨?_,?_,?_,?_,?_,al.gb gs (.inr (by rw[Q];exact U)),ax.gb gs (.inr c9)⟩,Q⟩;rw[bg (by omega),I _ (by omega) (by omega),z _ (by omega)];refine((cC.trans C3).trans (av.of gs)).mono (λk _ m=>?_);obtain(m|m)|m:=m
  exact m;exact m;exact .inl (aO m).symm;exact aC.imp id (λe k hk=>by have:=e k hk;have:=F.size;omega);rw[bg (by omega),I _ (by omega) (by omega)];exact f.c0;rw[bg (by omega),I _ (by omega) (by omega)];exact f.c1;exact cB (by omega);rw[bg (by omega),C];exact cB (by simp;omega)
  ·rw[bg (by omega),C,bg (by omega)];exact cB cy)
 obtain⟨mw,K⟩:=exq (min (2*wait) 32);rw[<-K]at G;replace K:=J K;clear I C al ax C3 Q aC bx bz;replace B:=J B;by_cases ej:32<2*wait
 ·obtain rfl:mw=32:=by rw[Z K];omega
  go_wp2_with fail;exact eW (et rfl _ _ _) rfl ⟨rfl,Z G⟩
 obtain rfl:mw=2*wait:=by rw[Z K];omega
 go_wp2_with fail;exact eW (et rfl _ _ _) rfl ⟨rfl,Z G⟩
def bL(l:List Rg)(n:Int):Bool:=l.any (λr=>decide (r.lo<=n)&&decide (n<=r.hi))
theorem xV(l:List Rg)(n:Int):bL l n=true↔∃i,i<l.length/\(au l i).lo<=n/\n<=(au l i).hi:=by
 unfold bL;rw[qH];constructor;rintro⟨r,a,h⟩;obtain⟨i,hi,rfl⟩:=jP.1 a;refine⟨i,hi,?_⟩
 simpa [au,List.getD,hi]using h;rintro⟨i,hi,h⟩;exact⟨_,oZ hi,by simpa using h⟩
theorem rO{p:Prop}{e:Ending}(h:dJ p e)(a:B=true↔p):e=.returned (.bool B):=by
 obtain⟨c,rfl,b⟩:=h;have:c=B:=by rw[Bool.eq_iff_iff,b,a]
 rw[this]
theorem Hp(W:World)(c:Nat)(y:Rg)(n:Int)(h0:W.cell? ⟨c,0,none⟩=some (.int .u64 n)):
 Calls prog 301 #[.agg #[.int .u64 y.lo,.int .u64 y.hi],.pointer (some ⟨c,0,none⟩)] W λe i=>dJ (y.lo<=n/\n<=y.hi) e/\W.grownBy i none:=by
 obtain⟨a,d⟩:=y;have j:c<W.heap.size:=ep W _ h0;obtain⟨R,b⟩:∃R:Prop,R=(a<=n/\n<=d):=⟨_,rfl⟩
 have g:((⟨a,d⟩:Rg).lo<=n/\n<=(⟨a,d⟩:Rg).hi)=R:=b.symm;rw[g];clear g;replace b:=J b;go_enter func301,ntmps301;by_cases f:a<=n
 ·have d1:decide (a<=n)=true:=bK f;go_wp2_with fail;go_ret;exact⟨nI (by rw[Z b];exact⟨λh=>⟨f,h⟩,λh=>h.2⟩),aH _ _ _⟩
 have d1:decide (a<=n)=false:=bI f;go_wp2_with fail;go_ret;exact⟨lN (by rw[Z b];exact λh=>by have:=h.1;omega),aH _ _ _⟩
theorem Hr(a:Option Addr)(n cap:Nat)(l:List Rg)(num:Int)(w:World)(hs:bu w a n cap l):
 Calls prog 288 #[.slice a n cap,.int .u64 num] w λe u=>e=.returned (.bool (bL l num))/\w.grownBy u none:=by
 obtain⟨c,d⟩:=exq (w.alloc (.cells #[.int .u64 num] 30));have k:w.grownBy c none:=by rw[d];exact aH _ _ _
 have f:c.heap[w.heap.size]?=some (.cells #[.int .u64 num] 30 (0,0)):=by rw[d];exact aM _ _
 have v:c.cell? ⟨w.heap.size,0,none⟩=some (.int .u64 num):=by simp[World.cell?,f]
 have m:=hs.ao k;obtain⟨b,o,j⟩:∃b o,0<n->a=some ⟨b,o,none⟩:=by
  by_cases x:0<n;obtain⟨-,A,B,-,C|⟨b,o,rfl,-⟩⟩:=id hs;omega;exact⟨b,o,λ_=>rfl⟩
  exact⟨0,0,λh=>absurd h x⟩
 have p:n=l.length:=hs.2.1;have y:=J (Ha a b o n cap 301 #[] #[.pointer (some ⟨w.heap.size,0,none⟩)] c (λi=>(au l i).lo<=num/\num<=(au l i).hi) (λi=>.int .u64 (au l i).lo) (λi=>.int .u64 (au l i).hi) j ⟨hs.2.2.1,hs.2.2.2.1⟩ (λ_ _=>by kernel_rfl)
  (λW i g hi=>by
    have q:=m.ao g;rw[j (by omega)]at q;exact q.cell i (by omega))
  (λW i g hi=>Hp W w.heap.size (au l i) num (g.cell v (by simp))))
 have r:Hid (bL l num=true↔∃i,i<n/\(au l i).lo<=num/\num<=(au l i).hi):=J (by rw[p];exact xV l num);obtain⟨nb,s⟩:=exq (bL l num);rw[<-s]at r⊢;clear s p hs m j;replace f:=J f;go_enter func288,ntmps288;go_wp2_with fail;rw[<-d];clear d;refine(Z y).mono ?_;rintro e D⟨t,z⟩;obtain rfl:=rO t (Z r);clear t;go_wp2_with fail;go_ret;exact⟨rfl,aq k z⟩
theorem AO(w:World)(B:Nat)(a:Option Addr)(n cap:Nat)(l:List Rg)(x:Kt)(h0:w.cell? ⟨B,0,none⟩=some (.slice a n cap))(hs:bu w a n cap l):
 Calls prog 287 #[.agg (kA x),.pointer (some ⟨B,0,none⟩)] w λe h=>e=.returned (.bool (bL l x.1.num))/\w.grownBy h none:=by
 obtain⟨⟨num,tk,st,ps⟩,i⟩:=x;unfold kA;simp only
 have k:B<w.heap.size:=ep w _ h0;obtain⟨c,b⟩:=exq (w.alloc (.cells #[.int .u64 num,.int .i64 tk,.int .i64 st,i] 325));have d:w.grownBy c none:=by rw[b];exact aH _ _ _
 have f:=J (Hr a n cap l num c (hs.ao d));obtain⟨nb,g⟩:=exq (bL l num);rw[<-g]at f⊢;clear g;go_enter func287,ntmps287;go_wp2_with fail;rw[<-b];clear b;refine(Z f).mono ?_;rintro e m⟨rfl,j⟩;go_wp2_with fail;go_ret;exact⟨rfl,aq d j⟩
theorem Hs(w:World)(B:Nat)(high:Int)(x:Kt)(h0:w.cell? ⟨B,0,none⟩=some (.int .u64 high))(b:0<=x.1.num/\x.1.num<=4611686018427387903):
 Calls prog 290 #[.agg (kA x),.pointer (some ⟨B,0,none⟩)] w λe a=>e=.returned (.bool (decide (x.1.num+3<=high)))/\w.grownBy a none:=by
 obtain⟨⟨num,tk,st,ps⟩,c⟩:=x;unfold kA;simp only at *;have d:B<w.heap.size:=ep w _ h0;have f:IntKind.u64.wrap (num+3)=num+3:=by rw[fh];omega
 go_enter func290,ntmps290;go_wp2_with fail;go_ret;exact⟨rfl,by repeat(first|exact aB _ _|apply di|apply aW|apply ba)⟩
def pA(p:Pc):Array Value:= #[.int .u64 p.x.lo,.int .u64 p.x.hi,.bool p.e,.bool p.g]
theorem Ht(w:World)(sb n k r s:Nat)(Q lc:Array Value)(x:Kt)(q:Bool)(St:List (Int×Pc)->World->Prop)(l:List (Int×Pc))(pa:Option Addr)(c t:Nat)(S:x.2=.slice pa c t)(hp:ko w pa c t x.1.ps)(a0:∀y,pa=some y->y.block≠sb)(bb:sb<w.heap.size)
 (T:w.cell? ⟨n,0,none⟩=some (.func (.func r) #[] Q)) (U:w.cell? ⟨k,0,none⟩=some (.func (.func s) #[] lc)) (bj:n≠sb) (a1:k≠sb)
 (en:∀args w,(callFunc r args).run prog w=.ok (.enter r args) w) (ec:∀args w,(callFunc s args).run prog w=.ok (.enter s args) w)
 (V:∀W,w.grownBy W none->Calls prog r (#[.agg (kA x)]++Q) W (λe h=>e=.returned (.bool q)/\W.grownBy h none))
 (u:∀(W h:World)(a:List (Int×Pc)),St a W->W.grownBy h none->St a h) (h0:St l w)
 (v:∀(W:World)(a:List (Int×Pc))(p:Pc),St a W->p∈x.1.ps->q=true->Calls prog s (#[.int .i64 x.1.st,.agg (pA p)]++lc) W (λe h=>e=.returned (.tuple #[])/\St (a++[(x.1.st,p)]) h/\W.grownBy h (some sb))):
 Calls prog 302 #[.agg (kA x),.pointer (some ⟨n,0,none⟩),.pointer (some ⟨k,0,none⟩)] w λe d=>e=.returned (.bool q)/\St (l++if q then x.1.ps.map (λp=>(x.1.st,p))else[]) d/\w.grownBy d (some sb):=by
 obtain⟨R,j⟩:∃R:Bool->World->Prop,R=λb d=>St (l++if b then x.1.ps.map (λp=>(x.1.st,p))else[]) d/\w.grownBy d (some sb):=⟨_,rfl⟩
 have X:(λ(e:Ending) d=>e=.returned (.bool q)/\St (l++if q then x.1.ps.map (λp=>(x.1.st,p))else[]) d/\w.grownBy d (some sb))=λe d=>e=.returned (.bool q)/\R q d:=by rw[j]
 rw[X];clear X;replace j:=J j;obtain⟨⟨num,tk,st,ps⟩,sv⟩:=x;simp only at S hp v j;subst S;unfold kA at *;simp only at *;have br:n<w.heap.size:=ep w _ T;have bt:k<w.heap.size:=ep w _ U;obtain⟨K,z⟩:=exq (w.alloc (.cells #[.int .u64 num,.int .i64 tk,.int .i64 st,.slice pa c t] 325));have A:w.grownBy K none:=by rw[z];exact aH _ _ _
 have B:K.heap[w.heap.size]?=some (.cells #[.int .u64 num,.int .i64 tk,.int .i64 st,.slice pa c t] 325 (0,0)):=by rw[z];exact aM _ _
 obtain⟨b0,b1,b2,b3⟩:=lS B;have Y:=A.cell T (by simp);have m1:=A.cell U (by simp);have a2:=J (V K A);replace B:=J B;replace u:=J u;replace h0:=J h0;replace v:=J v;clear V;go_enter func302,ntmps302;go_upto_region 1 with fail;rw[<-z];clear z;go_wp2_with fail;refine(Z a2).mono ?_;rintro e L⟨rfl,C⟩;have D:=aq A C;have al:=J (Z u _ _ _ (Z h0) D);cases q
 ·have M:Hid (R false L):=J (by rw[Z j];exact⟨by simpa using Z al,cX D _⟩);go_wp2_with fail;go_ret;exact⟨rfl,Z M⟩
 have E:=bA (Z B) C;have bx:w.heap.size<L.heap.size:=(aY.1 E).1;obtain⟨d0,d1,d2,d3⟩:=lS E;have F:=hp.ao D;have n0:=C.cell Y (by simp);have n1:=C.cell m1 (by simp);have G:c=ps.length:=hp.2.1;have bz:=hp.2.2.1;have a3:=hp.2.2.2.1;unfold maxLen at a3;have a4:w.heap.size≠sb:=by omega
 replace E:=J E;replace G:=J G;clear b0 b1 b2 b3 Y m1 hp;replace F:=J F;go_wp2_with fail;go_loopw [14] (λN wr=>∃i:Nat,i<=c/\N=.int .i64 (i:Int)/\St (l++(ps.take i).map (λp=>(st,p))) wr/\L.grownBy wr (some sb)) (λN _=>c-(intOf N).toNat);case atStart=>exact⟨0,by omega,rfl,by simpa using Z al,aB _ _⟩
 case round=>
  obtain⟨i,hi,rfl,m,f⟩:=hrel;by_cases bM:i<c
  ·have dl:decide ((i:Int)<(c:Int))=true:=bK (by omega);have i1:(i:Int)<(c:Int):=by omega
   have O:i<ps.length:=by have:=Z G;omega
   obtain⟨-,-,-,-,hz|⟨b,o,rfl,-⟩⟩:=id (Z F);omega;have H:b≠sb:=a0 ⟨b,o,none⟩ rfl;obtain⟨y0,y1,y2,y3⟩:=(Z F).cell i O;have k0:=f.cell y0 (λe=>H (aO e));have k1:=f.cell y1 (λe=>H (aO e));have k2:=f.cell y2 (λe=>H (aO e));have k3:=f.cell y3 (λe=>H (aO e));have e2:=f.cell d2 (λe=>a4 (aO e));have e1:=f.cell n1 (λe=>a1 (aO e));have b4:=f.size;have b5:k<wr.heap.size:=by omega
   have b6:w.heap.size<wr.heap.size:=by omega
   have ax:Hid ((ps.take (i+1)).map (λp=>(st,p))=(ps.take i).map (λp=>(st,p))++[(st,fF ps i)]):=J (by rw[qF,vy O];simp);have I:=J (λW(g:wr.grownBy W none)=>Z v W _ (fF ps i) (Z u _ _ _ m g) (vz O) (by trivial));obtain⟨p,aC⟩:=exq (fF ps i);rw[<-aC]at k0 k1 k2 k3 I ax;clear aC;obtain⟨⟨xl,xh⟩,pe,pg⟩:=p;simp only at k0 k1 k2 k3;unfold pA at I;simp only at I;clear y0 y1 y2 y3;replace m:=J m;have gx:=aH wr (.cells #[.int .u64 xl,.int .u64 xh,.bool pe,.bool pg] 377) none;have a8:=J (Z I _ gx);go_wp2_with fail;refine(Z a8).mono ?_;rintro e w4⟨rfl,P,g4⟩;replace P:=J P;have a9:=aq f (aq (cX gx _) g4);go_wp2_with fail;go_roundw;case measure=>simp[intOf];omega
   case rel=>exact⟨i+1,by omega,by simp,by rw[Z ax,<-fg];exact Z P,a9⟩
  have dl:decide ((i:Int)<(c:Int))=false:=bI (by omega);obtain rfl:i=c:=by omega
  have M:Hid (R true wr):=J (by
   rw[Z j];rw[Z G,oq]at m;exact⟨by simpa using m,aq (cX D _) f⟩)
  go_wp2_with fail;go_ret;exact⟨rfl,Z M⟩
def kN(Q:Kt->Bool)(l:List Kt):List (Int×Pc):=l.flatMap (λx=>if Q x then x.1.ps.map (λp=>(x.1.st,p))else[])
theorem Hu(Q:Kt->Bool)(l:List Kt)(j:Nat)(a:j<l.length):kN Q (l.take (j+1))=kN Q (l.take j)++(if Q (bJ l j)then(bJ l j).1.ps.map (λp=>((bJ l j).1.st,p))else[]):=by
 unfold kN;rw[qF,nJ a,Option.toList_some,List.flatMap_append];simp
def LT(sb:Nat)(v:Value)(k:Nat):Prop:=k=sb\/v.ownBlock=some k
theorem Hv(w:World)(sb G m q:Nat)(t lc:Array Value)(ay:List Kt)(Q:Kt->Bool)(St:List (Int×Pc)->World->Prop)(z:List (Int×Pc))(v:Value)(A:cf w G v ay)(cC:sb<w.heap.size)(a9:v.ownBlock≠some sb)(S:Nat->Prop)(U:∀k,LT sb v k->S k)(M:m8 w S ay)
 (en:∀args w,(callFunc m args).run prog w=.ok (.enter m args) w) (ec:∀args w,(callFunc q args).run prog w=.ok (.enter q args) w)
 (V:∀(W:World)(x:Kt),av w W (LT sb v)->x∈ay->Calls prog m (#[.agg (kA x)]++t) W (λe b=>e=.returned (.bool (Q x))/\W.grownBy b none))
 (B:∀(W b:World)(a:List (Int×Pc))(r:Option Nat),St a W->W.grownBy b r->(r=none\/r=v.ownBlock)->St a b) (h0:St z w)
 (X:∀(W:World)(a:List (Int×Pc))(x:Kt)(p:Pc),St a W->x∈ay->p∈x.1.ps->Q x=true->Calls prog q (#[.int .i64 x.1.st,.agg (pA p)]++lc) W (λe b=>e=.returned (.tuple #[])/\St (a++[(x.1.st,p)]) b/\W.grownBy b (some sb))):
 Calls prog 289 #[v,.func (.func m) #[] t,.func (.func q) #[] lc] w λe j=>∃d,e=.returned d/\cf j G d (ay.filter (λx=> !Q x))/\St (z++kN Q ay) j/\d.ownBlock=v.ownBlock/\av w j (LT sb v):=by
 obtain⟨R,u⟩:∃R:Ending->World->Prop,R=λe j=>∃d,e=.returned d/\cf j G d (ay.filter (λx=> !Q x))/\St (z++kN Q ay) j/\d.ownBlock=v.ownBlock/\av w j (LT sb v):=⟨_,rfl⟩
 rw[<-u];obtain⟨l,C⟩:=exq ((w.alloc (.cells #[.func (.func m) #[] t] 326)).alloc (.cells #[.func (.func q) #[] lc] 386));have s:w.grownBy l none:=by rw[C];exact ba (aH _ _ _) _
 have bb:(w.alloc (.cells #[.func (.func m) #[] t] 326)).heap.size=w.heap.size+1:=by simp
 have N:l.heap[w.heap.size]?=some (.cells #[.func (.func m) #[] t] 326 (0,0)):=by
  rw[C];exact bA (aM _ _) (aH _ _ none)
 have H:l.heap[w.heap.size+1]?=some (.cells #[.func (.func q) #[] lc] 386 (0,0)):=by
  rw[C,<-bb];exact aM _ _
 have Y:w.heap.size+1<l.heap.size:=(aY.1 H).1;have bj:∀k,v.ownBlock=some k->k<w.heap.size:=λk e=>(A.lt k e).2
 have al:∀k,w.heap.size<=k->¬LT sb v k:=λk hk h=>by
  obtain h|h:=h
  omega;have:=bj k h;omega
 obtain⟨va,D,ax,bt,aC⟩:=A.gy;have O:Hid (Calls prog 236 #[v,.func (.func 302) #[] #[.pointer (some ⟨w.heap.size,0,none⟩),.pointer (some ⟨w.heap.size+1,0,none⟩)]] l R):=by
  subst ax;by_cases hz:ay=[]
  subst hz;refine J ((xU va D _ _ l aC (λ_ _=>by kernel_rfl)).mono ?_);rintro e j⟨rfl,rfl⟩;rw[u];exact⟨_,rfl,A.ao s,by simpa [kN]using B _ _ _ none h0 s (.inl rfl),rfl,(av.of s).mono (λk _ e=>by cases e)⟩
  have bx:=oj.2 hz;obtain⟨g,rfl,-⟩:=A.cell bx;obtain⟨bz,bM,b0⟩:=(A.ao s).mid;have b3:sb≠g:=λe=>a9 (by rw[e];rfl)
  have O:=xS g ay.length D G 302 sb #[.pointer (some ⟨w.heap.size,0,none⟩),.pointer (some ⟨w.heap.size+1,0,none⟩)] ay l (λh=>Q (bJ ay h)) (λh W=>St (z++kN Q (ay.take h)) W/\av l W (LT sb (.slice (some ⟨g,0,none⟩) ay.length D))) bM bz rfl ⟨bt,aC⟩ (λx hx=>by obtain⟨a,n,c,e,-⟩:=M x hx;exact⟨a,n,c,e⟩) b0 (by omega) b3 (λ_ _=>by kernel_rfl) ⟨by simpa [kN]using B _ _ _ none h0 s (.inl rfl),av.rfl' _ _⟩
   (λW b h hi I=>⟨B _ _ _ _ hi.1 I (.inr rfl),(hi.2.trans (av.of I)).mono (λk _ f=>f.elim id (λe=>.inr e))⟩)
   (λW h hi f=>by
     have P:=oE f;obtain⟨pa,pn,pp,b5,b6,T⟩:=M _ P;have a3:av w W (LT sb (.slice (some ⟨g,0,none⟩) ay.length D)):=((av.of s).trans hi.2).mono (λk _ f=>f.elim (λe=>by cases e) id);have b7:ko W pa pn pp (bJ ay h).1.ps:=b6.df (λ_ y K=>a3.block _ (T y K).2 (λht=>(T y K).1 (U _ ht)));have db:w.heap.size+1<W.heap.size:=bY Y hi.2.size;have ca:=(hi.2.block w.heap.size (by omega) (al _ (aP _))).trans N;have ch:=(hi.2.block (w.heap.size+1) Y (al _ (by omega))).trans H;refine(Ht W sb w.heap.size (w.heap.size+1) m q t lc (bJ ay h) (Q (bJ ay h)) (λa b=>St a b/\av l b (LT sb (.slice (some ⟨g,0,none⟩) ay.length D))) (z++kN Q (ay.take h)) pa pn pp b5 b7 (λy K=>λe=>(T y K).1 (U _ (.inl e))) (by omega) (by simp[World.cell?,ca]) (by simp[World.cell?,ch]) (by omega) (by omega) en ec
      (λb g'=>V b _ (a3.grow g') P) (λWa Wb a E a8=>⟨B _ _ _ none E.1 a8 (.inl rfl),E.2.grow a8⟩) hi
      (λWa a p E cv hq=>(X Wa a _ p E.1 P cv hq).mono (λe Wb L=>⟨L.1,⟨L.2.1,(E.2.trans (av.of L.2.2)).mono (λk _ f=>f.elim id (λe=>.inl (aO e).symm))⟩,L.2.2⟩))).mono ?_
     rintro e b⟨rfl,hs,I⟩;exact⟨rfl,⟨by rw[Hu Q ay h f,<-fg];exact hs.1,hs.2⟩,I⟩)
  refine J (O.mono ?_);have cx:kp ay (λh=>Q (bJ ay h)) ay.length=ay.filter (λx=> !Q x):=by
   rw[xR ay _ Q (λi _=>rfl) _ (aP _),oq]
  rw[cx];rintro e j⟨rfl,ho,hs,cy⟩;rw[oq]at hs;rw[u];exact⟨_,rfl,ho,hs,rfl,((av.of s).trans cy).mono (λk _ f=>f.elim (λe=>by cases e) id)⟩
 clear V B X h0 M;replace u:=J u;subst ax;replace N:=J N;replace H:=J H;go_enter func289,ntmps289;go_wp2_with fail;rw[<-C];clear C;refine(Z O).mono ?_;rintro e w2 F;obtain⟨d,rfl⟩:∃d,e=.returned d:=by rw[Z u]at F;obtain⟨d,h,-⟩:=F;exact⟨d,h⟩
 replace F:=J F;go_wp2_with fail;exact Z F
def lh(W c:World)(sb b:Nat):Prop:=∀cs t,W.heap[sb]?=some (.cells cs t (0,0))->∃a,c.heap[sb]?=some (.cells a t (0,0))/\a.size=cs.size/\∀i,i<b\/b+5<=i->a[i]?=cs[i]?
def lq(W c:World)(sb b:Nat):Prop:=∀cs t,W.heap[sb]?=some (.cells cs t (0,0))->∃a,c.heap[sb]?=some (.cells a t (0,0))/\a.size=cs.size/\∀i,b<=i->i<b+5->a[i]?=cs[i]?
theorem lh.of(h:w.heap[n]?=W.heap[n]?):lh W w n k:=λcs t a=>⟨cs,h.trans a,rfl,λ_ _=>rfl⟩
structure ks(w W:World)(sb e f:Nat)(t:TypeId)(a b c d:Value)(lf ll:List Kt)(count tick wait:Int)(St:List (Int×Pc)->World->Prop)(g:List (Int×Pc)):Prop where
 fl:∃cs,W.heap[sb]?=some (.cells cs t (0,0))/\iA W f cs e c d lf ll count tick wait
 st:St g W
 aw:av w W (FT sb a b)
 ef:c.ownBlock=a.ownBlock
 el:d.ownBlock=b.ownBlock
theorem iA.ao{lf ll:List Kt}(h:iA w n c k x y lf ll p q r)(g:w.grownBy W none):iA W n c k x y lf ll p q r:=
 ⟨h.c0,h.c1,h.c2,h.c3,h.c4,h.of.ao g,h.ol.ao g⟩
theorem ks.set{w:World}{g:Value}{lf ll:List Kt}{St:List (Int×Pc)->World->Prop}{m:List (Int×Pc)}(h:ks w W n j l T x y z g lf ll p q r St m)(s:pq n x y)
 (u:∀(W c:World)(a:List (Int×Pc)),St a W->av W c (FT n x y)->lh W c n j->St a c) (b:Int):ks w (W.setCell ⟨n,j+2,none⟩ (.int .i64 b)) n j l T x y z g lf ll p q b St m:=by
 obtain⟨cs,d,H⟩:=h.fl;have f:=aI (aB W (some n)) ⟨n,j+2,none⟩ (.int .i64 b) (.inr rfl);have C:av W (W.setCell ⟨n,j+2,none⟩ (.int .i64 b)) (FT n x y):=(av.of f).mono (λk _ e=>.inl (aO e).symm);refine⟨⟨_,heap_set d _,?_⟩,u _ _ _ h.st C ?_,(h.aw.trans C).mono (λk _ v=>v.elim id id),h.ef,h.el⟩
 refine⟨?_,?_,cB (gM H.c2),?_,?_,H.of.gb f (.inr (by rw[h.ef];exact s.1)),H.ol.gb f (.inr (by rw[h.el];exact s.2.1))⟩
 rw[bg (by omega)];exact H.c0;rw[bg (by omega)];exact H.c1;rw[bg (by omega)];exact H.c3;rw[bg (by omega)];exact H.c4;intro A t2 t;rw[d]at t;cases t;exact⟨_,heap_set d _,by simp,λi hi=>by rw[bg (by omega)]⟩
theorem AP{Q:Value}{lf ll:List Kt}{St:List (Int×Pc)->World->Prop}{G:List (Int×Pc)}(h:ks w W j m o T z x y Q lf ll q p r St G)(R:pq j z x)(cj:j<w.heap.size)
 (a3:∀(W b:World)(a:List (Int×Pc)),St a W->av W b (FT j z x)->lh W b j m->St a b)
 (S:Nat->Prop) (hS:∀k,FT j z x k->S k) (ay:List Kt) (v:Value) (U:(ay=lf/\v=y)\/(ay=ll/\v=Q)) (a8:m8 W S ay)
 (B:Nat) (a:Option Addr) (n cap:Nat) (l:List Rg) (a9:W.cell? ⟨B,0,none⟩=some (.slice a n cap)) (hB:¬FT j z x B) (hs:bu W a n cap l) (V:l≠[]->∀f,a=some f->¬FT j z x f.block/\f.block<W.heap.size)
 (g:Nat) (lc:Array Value) (ec:∀args w,(callFunc g args).run prog w=.ok (.enter g args) w)
 (hC:∀(W:World)(a:List (Int×Pc))(c:Kt)(s:Pc),St a W->c∈ay->s∈c.1.ps->bL l c.1.num=true->Calls prog g (#[.int .i64 c.1.st,.agg (pA s)]++lc) W (λe b=>e=.returned (.tuple #[])/\St (a++[(c.1.st,s)]) b/\W.grownBy b (some j)/\lq W b j m)):
 Calls prog 289 #[v,.func (.func 287) #[] #[.pointer (some ⟨B,0,none⟩)],.func (.func g) #[] lc] W λe b=>∃t,e=.returned t/\cf b o t (ay.filter (λc=> !bL l c.1.num))/\t.ownBlock=v.ownBlock/\St (G++kN (λc=>bL l c.1.num) ay) b/\av W b (LT j v)/\lq W b j m:=by
 obtain⟨cp,br,H⟩:=h.fl;have cv:=h.aw.size;have X:v.ownBlock=z.ownBlock\/v.ownBlock=x.ownBlock:=by
  obtain⟨-,rfl⟩|⟨-,rfl⟩:=U
  exact .inl h.ef;exact .inr h.el
 have A:∀k,LT j v k->FT j z x k:=λk d=>by
  obtain d|d:=d
  exact .inl d;obtain e|e:=X
  exact .inr (.inl (e▸d));exact .inr (.inr (e▸d))
 have bt:cf W o v ay:=by
  obtain⟨rfl,rfl⟩|⟨rfl,rfl⟩:=U
  exact H.of;exact H.ol
 have Y:v.ownBlock≠some j:=by
  obtain e|e:=X
  rw[e];exact R.1;rw[e];exact R.2.1
 refine(Hv W j o 287 g #[.pointer (some ⟨B,0,none⟩)] lc ay (λc=>bL l c.1.num) (λC b=>St C b/\lq W b j m) G v bt (by omega) Y S (λk d=>hS k (A k d)) a8 (λ_ _=>by kernel_rfl) ec ?_ ?_ ⟨h.st,λcs T u=>⟨cs,u,rfl,λ_ _ _=>rfl⟩⟩ ?_).mono ?_;intro b c D hx;exact AO b B a n cap l c (D.cell a9 (λI=>hB (A _ I))) (hs.df (λhl f ey=>D.block _ (V hl f ey).2 (λI=>(V hl f ey).1 (A _ I))));rintro K Wb C bx⟨L,E⟩ F hr;have bz:∀k,bx=some k->k≠j:=λk e=>by
  obtain rfl|rfl:=hr
  cases e;rintro rfl;exact Y e
 obtain⟨cw,bM,-,-⟩:=E _ _ br;have a1:Wb.heap[j]?=K.heap[j]? :=F.block j (aY.1 bM).1 (λe=>bz j e.symm rfl);refine⟨a3 _ _ _ L ((av.of F).mono (λk _ e=>?_)) (lh.of a1),λcs T u=>?_⟩
 obtain rfl|rfl:=hr
 cases e;exact A k (.inr e);obtain⟨b0,M,N,O⟩:=E cs T u;exact⟨b0,a1.trans M,N,O⟩
 rintro K C c s⟨L,E⟩ hx hp hq;refine(hC K C c s L hx hp hq).mono ?_;rintro e Wb⟨P,b4,F,d⟩;refine⟨P,⟨b4,λcs T u=>?_⟩,F⟩
 obtain⟨b5,M,N,O⟩:=E cs T u;obtain⟨b6,k1,k2,k3⟩:=d b5 T M;exact⟨b6,k1,k2.trans N,λi hi hj=>(k3 i hi hj).trans (O i hi hj)⟩
 rintro e b⟨t,P,ho,⟨ca,d⟩,ch,D⟩;exact⟨t,P,ho,ch,ca,D,d⟩
theorem ks.aK{t c:Value}{lf ll A:List Kt}{St:List (Int×Pc)->World->Prop}{I B:List (Int×Pc)}(h:ks w W n j l T x y z t lf ll p q r St I)(g:pq n x y)
 (L:∀(W v:World)(a:List (Int×Pc)),St a W->av W v (FT n x y)->lh W v n j->St a v)
 (ho:cf v l c A) (D:c.ownBlock=z.ownBlock) (hs:St B v) (C:av W v (LT n z)) (K:lq W v n j):
 ks w (v.setCell ⟨n,j+3,none⟩ c) n j l T x y c t A ll p q r St B/\v.cell? ⟨n,j+3,none⟩=some z/\v.frozen? ⟨n,j+3,none⟩=false:=by
 obtain⟨cs,M,H⟩:=h.fl;obtain⟨N,d,O,f⟩:=K cs T M;have u:=aI (aB v (some n)) ⟨n,j+3,none⟩ c (.inr rfl);have m:=h.ef;have s:=h.el;have E:av v (v.setCell ⟨n,j+3,none⟩ c) (FT n x y):=(av.of u).mono (λk _ e=>.inl (aO e).symm);have Q:j+4<N.size:=by rw[O];exact gM H.c4
 have P:cf v l t ll:=H.ol.aw C (λk F b=>by
  obtain b|b:=b
  exact g.2.1 (by rw[<-s,F,b])
  ·exact g.2.2 k (m▸b) (s▸F))
 refine⟨⟨⟨_,heap_set d _,?_⟩,L _ _ _ hs E ?_,((h.aw.trans C).trans E).mono (λk _ b=>?_),D.trans m,s⟩,?_,by simp[World.frozen?,d]⟩
 refine⟨?_,?_,?_,cB (by omega),?_,ho.gb u (.inr (by rw[D,m];exact g.1)),P.gb u (.inr (by rw[s];exact g.2.1))⟩
 rw[bg (by omega),f _ (by omega) (by omega)];exact H.c0;rw[bg (by omega),f _ (by omega) (by omega)];exact H.c1;rw[bg (by omega),f _ (by omega) (by omega)];exact H.c2;rw[bg (by omega),f _ (by omega) (by omega)];exact H.c4;intro R t2 G;rw[d]at G;cases G;exact⟨_,heap_set d _,by simp,λi hi=>by rw[bg (by omega)]⟩
 obtain(b|b|b)|b:=b
 exact b;exact .inl b;exact .inr (.inl (m▸b));exact b;rw[aX d,f _ (by omega) (by omega)];exact H.c3
theorem ks.Hw{g c:Value}{lf ll A:List Kt}{St:List (Int×Pc)->World->Prop}{I B:List (Int×Pc)}(h:ks w W n j l T x y z g lf ll p q r St I)(m:pq n x y)
 (L:∀(W v:World)(a:List (Int×Pc)),St a W->av W v (FT n x y)->lh W v n j->St a v)
 (ho:cf v l c A) (D:c.ownBlock=g.ownBlock) (hs:St B v) (C:av W v (LT n g)) (K:lq W v n j):
 ks w (v.setCell ⟨n,j+4,none⟩ c) n j l T x y z c lf A p q r St B/\v.cell? ⟨n,j+4,none⟩=some g/\v.frozen? ⟨n,j+4,none⟩=false:=by
 obtain⟨cs,M,H⟩:=h.fl;obtain⟨N,d,O,f⟩:=K cs T M;have u:=aI (aB v (some n)) ⟨n,j+4,none⟩ c (.inr rfl);have s:=h.ef;have t:=h.el;have E:av v (v.setCell ⟨n,j+4,none⟩ c) (FT n x y):=(av.of u).mono (λk _ e=>.inl (aO e).symm);have Q:j+4<N.size:=by rw[O];exact gM H.c4
 have P:cf v l z lf:=H.of.aw C (λk F b=>by
  obtain b|b:=b
  exact m.1 (by rw[<-s,F,b])
  ·exact m.2.2 k (s▸F) (t▸b))
 refine⟨⟨⟨_,heap_set d _,?_⟩,L _ _ _ hs E ?_,((h.aw.trans C).trans E).mono (λk _ b=>?_),s,D.trans t⟩,?_,by simp[World.frozen?,d]⟩
 refine⟨?_,?_,?_,?_,cB (by omega),P.gb u (.inr (by rw[s];exact m.1)),ho.gb u (.inr (by rw[D,t];exact m.2.1))⟩
 rw[bg (by omega),f _ (by omega) (by omega)];exact H.c0;rw[bg (by omega),f _ (by omega) (by omega)];exact H.c1;rw[bg (by omega),f _ (by omega) (by omega)];exact H.c2;rw[bg (by omega),f _ (by omega) (by omega)];exact H.c3;intro R t2 G;rw[d]at G;cases G;exact⟨_,heap_set d _,by simp,λi hi=>by rw[bg (by omega)]⟩
 obtain(b|b|b)|b:=b
 exact b;exact .inl b;exact .inr (.inr (t▸b));exact b;rw[aX d,f _ (by omega) (by omega)];exact H.c4
theorem ks.gb{c:Value}{lf ll:List Kt}{St:List (Int×Pc)->World->Prop}{d:List (Int×Pc)}(h:ks w W n i j T x y z c lf ll p q r St d)
 (f:∀(W v:World)(a:List (Int×Pc)),St a W->av W v (FT n x y)->lh W v n i->St a v) (g:W.grownBy v none):ks w v n i j T x y z c lf ll p q r St d:=by
 obtain⟨cs,b,H⟩:=h.fl;exact⟨⟨cs,bA b g,H.ao g⟩,f _ _ _ h.st ((av.of g).mono (λk _ e=>by cases e)) (lh.of ((bA b g).trans b.symm)),h.aw.grow g,h.ef,h.el⟩
def xW(w a:World)(sb f i:Nat)(t:TypeId)(e c:Value)(lf ll:List Kt)(count tick wait:Int)(St:List (Int×Pc)->World->Prop)(l:List Rg):Prop:=
 ∃g h b,a.heap[sb]?=some (.cells g t (0,0))/\
  iA a i g f h b ((lf.filter (λx=> !bL l x.1.num)).filter (λx=> !decide (x.1.num+3<=(au l 0).hi))) (ll.filter (λx=> !bL l x.1.num)++(lf.filter (λx=> !bL l x.1.num)).filter (λx=>decide (x.1.num+3<=(au l 0).hi))) count tick (if lf.any (λx=>bL l x.1.num)then 4 else wait)/\
  (∃d,St (kN (λx=>bL l x.1.num) lf++kN (λx=>bL l x.1.num) ll) d/\av d a (FT sb e c)/\lh d a sb f/\(b.ownBlock=c.ownBlock\/∀k,b.ownBlock=some k->d.heap.size<=k))/\av w a (FT sb e c)/\h.ownBlock=e.ownBlock/\(b.ownBlock=c.ownBlock\/∀k,b.ownBlock=some k->w.heap.size<=k)
theorem ks.Hy{g:Value}{lf ll:List Kt}{St:List (Int×Pc)->World->Prop}{u:List (Int×Pc)}(h:ks w W n j l T x y z g lf ll p q r St u)
 (O:∀(W t:World)(a:List (Int×Pc)),St a W->av W t (FT n x y)->lh W t n j->St a t) (I:W.heap[n]?=some (.cells c T (0,0))) (H:iA W l c j z g lf ll p q r) {m f:Value} {A B:List Kt}
 (D:v.heap[n]?=some (.cells ((c.setIfInBounds (j+4) f).setIfInBounds (j+3) m) T (0,0))) (K:cf v l m A) (L:cf v l f B) (C:av W v (FT n z g)) (nf:m.ownBlock=z.ownBlock) (nl:f.ownBlock=g.ownBlock\/∀k,f.ownBlock=some k->W.heap.size<=k):
 ∃E a b,v.heap[n]?=some (.cells E T (0,0))/\iA v l E j a b A B p q r/\(∃s,St u s/\av s v (FT n x y)/\lh s v n j/\(b.ownBlock=y.ownBlock\/∀k,b.ownBlock=some k->s.heap.size<=k))/\av w v (FT n x y)/\a.ownBlock=x.ownBlock/\(b.ownBlock=y.ownBlock\/∀k,b.ownBlock=some k->w.heap.size<=k):=by
 have F:av W v (FT n x y):=C.mono (λk _ d=>by
  obtain d|d|d:=d
  exact .inl d;exact .inr (.inl (h.ef▸d))
  ·exact .inr (.inr (h.el▸d)))
 have P:=gM H.c3;have M:=gM H.c4;refine⟨_,m,f,D,⟨?_,?_,?_,cB (by simp;omega),?_,K,L⟩,⟨W,h.st,F,?_,nl.imp (λe=>e.trans h.el) id⟩,(h.aw.trans F).mono (λk _ d=>d.elim id id),nf.trans h.ef,?_⟩
 rw[bg (by omega),bg (by omega)];exact H.c0;rw[bg (by omega),bg (by omega)];exact H.c1;rw[bg (by omega),bg (by omega)];exact H.c2;rw[bg (by omega)];exact cB M;intro Q t2 G;rw[I]at G;cases G;exact⟨_,D,by simp,λi hi=>by rw[bg (by omega),bg (by omega)]⟩
 obtain e|e:=nl
 exact .inl (e.trans h.el);exact .inr (λk N=>bD h.aw.size (e k N))
theorem Hz(lf:List Kt)(Q:Kt->Bool):lf.any Q=true↔∃i,i<lf.length/\Q (bJ lf i)=true:=by
 rw[qH];constructor;rintro⟨x,a,h⟩;obtain⟨i,hi,rfl⟩:=jP.1 a;exact⟨i,hi,by simpa [bJ,List.getD,hi]using h⟩
 rintro⟨i,hi,h⟩;exact⟨_,oE hi,h⟩
theorem HB(w:World)(sb f r:Nat)(cs:Array Value)(t:TypeId)(j m:Value)(lf ll:List Kt)(count tick wait:Int)(I:w.heap[sb]?=some (.cells cs t (0,0)))(H:iA w r cs f j m lf ll count tick wait)(ff:r<=w.heap.size)(v:pq sb j m)(fo:lf.length<=1000000/\ll.length<=50000000)
 (S:Nat->Prop) (hS:∀k,FT sb j m k->S k) (bb:m8 w S (lf++ll)) (a:Option Addr) (n cap:Nat) (l:List Rg) (hs:bu w a n cap l) (hl:0<l.length) (a0:∀y,a=some y->¬FT sb j m y.block/\y.block<w.heap.size) (db:∀x∈lf,0<=x.1.num/\x.1.num<=4611686018427387903)
 (K:Nat) (lc:Array Value) (ec:∀args w,(callFunc K args).run prog w=.ok (.enter K args) w) (St:List (Int×Pc)->World->Prop) (h0:St [] w)
 (z:∀(W A:World)(a:List (Int×Pc)),St a W->av W A (FT sb j m)->lh W A sb f->St a A)
 (hC:∀(W:World)(a:List (Int×Pc))(x:Kt)(p:Pc),St a W->x∈lf++ll->p∈x.1.ps->bL l x.1.num=true->Calls prog K (#[.int .i64 x.1.st,.agg (pA p)]++lc) W (λe A=>e=.returned (.tuple #[])/\St (a++[(x.1.st,p)]) A/\W.grownBy A (some sb)/\lq W A sb f)):
 Calls prog 253 #[.pointer (some ⟨sb,f,none⟩),.slice a n cap,.func (.func K) #[] lc] w λe q=>(count<=(au l 0).hi/\e=.returned (.iface 34 (.int .i64 8))/\w.grownBy q none)\/((au l 0).hi<count/\e=.returned .nilIface/\xW w q sb f r t j m lf ll count tick wait St l):=by
 obtain⟨R,T⟩:∃R:Ending->World->Prop,R=λe q=>(count<=(au l 0).hi/\e=.returned (.iface 34 (.int .i64 8))/\w.grownBy q none)\/((au l 0).hi<count/\e=.returned .nilIface/\xW w q sb f r t j m lf ll count tick wait St l):=⟨_,rfl⟩
 rw[<-T];replace T:=J T;have b6:sb<w.heap.size:=(aY.1 I).1;have hn:n=l.length:=hs.2.1;have fq:=hs.2.2.1;have de:=hs.2.2.2.1;unfold maxLen at de;obtain⟨b,o,rfl⟩:∃b o,a=some ⟨b,o,none⟩:=by
  obtain⟨-,h2,h3,-,h5|⟨b,o,rfl,-⟩⟩:=id hs;omega;exact⟨b,o,rfl⟩
 have y1:=(hs.cell 0 hl).2;rw[nG,ou]at y1;obtain⟨hi,L⟩:=exq ((au l 0).hi);rw[<-L]at y1;have i0:(0:Int)<(n:Int):=by omega
 have lb:b<w.heap.size:=ep w _ y1;have c0:=(aX I _).trans H.c0;have c3:=(aX I _).trans H.c3;obtain⟨E,U⟩:=exq ((w.alloc (.cells #[.slice (some ⟨b,o,none⟩) n cap] 133)).alloc (.cells #[.int .u64 hi] 30));have g1:w.grownBy E none:=by rw[U];exact ba (aH _ _ _) _
 have dk:(w.alloc (.cells #[.slice (some ⟨b,o,none⟩) n cap] 133)).heap.size=w.heap.size+1:=by simp
 have bj:E.heap[w.heap.size]?=some (.cells #[.slice (some ⟨b,o,none⟩) n cap] 133 (0,0)):=by
  rw[U];exact bA (aM _ _) (aH _ _ none)
 have br:E.heap[w.heap.size+1]?=some (.cells #[.int .u64 hi] 30 (0,0)):=by
  rw[U,<-dk];exact aM _ _
 have p0:E.cell? ⟨w.heap.size,0,none⟩=some (.slice (some ⟨b,o,none⟩) n cap):=by simp[World.cell?,bj]
 have p1:E.cell? ⟨w.heap.size+1,0,none⟩=some (.int .u64 hi):=by simp[World.cell?,br]
 have d0:=g1.cell c0 (by simp);have d3:=g1.cell c3 (by simp);have A0:ks w w sb f r t j m j m lf ll count tick wait St []:=⟨⟨cs,I,H⟩,h0,av.rfl' _ _,rfl,rfl⟩
 have b7:∀k,w.heap.size<=k->¬FT sb j m k:=λk M h=>by
  obtain h|h|h:=h
  omega;have:=(H.of.lt k h).2;omega;have:=(H.ol.lt k h).2;omega
 have e1:Hid (count<=hi->∀W,w.grownBy W none->R (.returned (.iface 34 (.int .i64 8))) W):=J (λh W g=>by rw[Z T];exact .inl ⟨by rw[<-L];exact h,rfl,g⟩);replace L:=J L;replace hn:=J hn;replace bj:=J bj;replace br:=J br;replace I:=J I;go_enter func253,ntmps253;go_upto_region 2 with fail;rw[<-U];clear U;by_cases bt:count<=hi
 ·have dg:decide (count<=hi)=true:=bK bt;go_quiet (fail);go_wp2_with fail;exact Z e1 bt _ (di g1 _)
 have dg:decide (count<=hi)=false:=bI bt;go_quiet (fail);obtain⟨N,bx⟩:=exq (E.drewN nq);have V:E.grownBy N none:=by rw[bx];exact di (aB _ _) nq
 have bz:=aq g1 V;have A2:=A0.gb z bz;have q0:=V.cell p0 (by simp);have q1:=V.cell p1 (by simp);have q3:=V.cell d3 (by simp);have iZ:∀x∈lf,∃a n c,x.2=.slice a n c:=λx F=>by obtain⟨a,n,c,e,-⟩:=bb x (by simp[F]);exact⟨a,n,c,e⟩
 have dn:=hs.ao bz;obtain⟨B,G,X,ds,du⟩:=H.of.gy;obtain⟨cb,b8,ca⟩:∃b,(0<lf.length->B=some ⟨b,0,none⟩)/\(∀i,i<lf.length->N.cell? ⟨b,0+i*4,none⟩=some (.int .u64 (bJ lf i).1.num)/\N.cell? ⟨b,0+i*4+1,none⟩=some (.int .i64 (bJ lf i).1.tick)/\N.cell? ⟨b,0+i*4+2,none⟩=some (.int .i64 (bJ lf i).1.st)/\N.cell? ⟨b,0+i*4+3,none⟩=some (bJ lf i).2):=by
  by_cases hz:0<lf.length;have ho:=H.of.ao bz;rw[X]at ho;obtain⟨b,e,h⟩:=ho.cell hz;exact⟨b,λ_=>e,h⟩
  exact⟨0,λh=>absurd h hz,λi hi=>by omega⟩
 have dx:=J (AF B cb 0 lf.length G 287 #[] #[.pointer (some ⟨w.heap.size,0,none⟩)] N (λi=>bL l (bJ lf i).1.num=true) (λi=>.int .u64 (bJ lf i).1.num) (λi=>.int .i64 (bJ lf i).1.tick) (λi=>.int .i64 (bJ lf i).1.st) (λi=>(bJ lf i).2) b8 ⟨ds,du⟩ (λ_ _=>by kernel_rfl)
  (λW i g hi=>by obtain⟨p0,p1,p2,p3⟩:=ca i hi;exact⟨g.cell p0 (by simp),g.cell p1 (by simp),g.cell p2 (by simp),g.cell p3 (by simp)⟩)
  (λW i g hi=>by
    refine(AO W w.heap.size (some ⟨b,o,none⟩) n cap l (bJ lf i) (g.cell q0 (by simp)) (dn.ao g)).mono ?_;rintro e A⟨rfl,g'⟩;exact⟨⟨_,rfl,Iff.rfl⟩,g'⟩))
 clear b8 ca;obtain⟨a1,a2⟩:=exq (lf.any (λx=>bL l x.1.num));have dE:Hid (a1=true↔∃i,i<lf.length/\bL l (bJ lf i).1.num=true):=J (by rw[a2];exact Hz lf _);replace a2:=J a2;replace A0:=J A0;replace A2:=J A2;rw[X]at q3;replace X:=J X;go_upto_region 5 with fail;rw[<-bx];clear bx;go_wp2_with fail;refine(Z dx).mono ?_;rintro e w3⟨ch,g3⟩;obtain rfl:=rO ch (Z dE);clear ch;have Y:=(Z A2).gb z g3;have fs:=aq V g3;have r0:=g3.cell q0 (by simp);have r1:=g3.cell q1 (by simp);obtain⟨fy,a3,HA⟩:=Y.fl;have k2:=(aX a3 _).trans HA.c2;have f2:w3.frozen? ⟨sb,f+2,none⟩=false:=by simp[World.frozen?,a3]
 replace a3:=J a3;replace Y:=J Y;go_upto_if 26 with fail;go_cut [] (λwx=>ks w wx sb f r t j m j m lf ll count tick (if a1 then 4 else wait) St []/\w3.grownBy wx (some sb));case first=>
  cases a1
  ·go_wp2_with fail;go_meet;exact⟨by simpa using Z Y,aB _ _⟩
  go_wp2_with fail;go_meet;exact⟨by simpa using (Z Y).set v z 4,aI (aB _ _) _ _ (.inr rfl)⟩
 case rest=>
  rename World=>w4
  obtain⟨s,cj⟩:=hcut;obtain⟨la,O,dG,-⟩:=H.ol.gy;have ea:=Z X;subst ea;subst dG;obtain⟨Q,hQ⟩:∃Q:Kt->Bool,Q=λx=>bL l x.1.num:=⟨_,rfl⟩
  obtain⟨wt,cp⟩:=exq ((if a1 then 4 else wait));rw[<-cp]at s;have bM:w.heap.size≠sb:=by omega
  have P:w.heap.size+1≠sb:=by omega
  have s0:=cj.cell r0 (λe=>bM (aO e));have s1:=cj.cell r1 (λe=>P (aO e));have b0:¬FT sb (.slice B lf.length G) (.slice la ll.length O) w.heap.size:=b7 _ (aP _);have a4:¬FT sb (.slice B lf.length G) (.slice la ll.length O) (w.heap.size+1):=b7 _ (by omega);have cv:∀W,av w W (FT sb (.slice B lf.length G) (.slice la ll.length O))->bu W (some ⟨b,o,none⟩) n cap l:=λW C=>hs.df (λ_ y ey=>C.block _ (a0 y ey).2 (a0 y ey).1)
  have cw:∀W,av w W (FT sb (.slice B lf.length G) (.slice la ll.length O))->l≠[]->∀y,some (⟨b,o,none⟩:Addr)=some y->¬FT sb (.slice B lf.length G) (.slice la ll.length O) y.block/\y.block<W.heap.size:=λW C _ y ey=>⟨(a0 y ey).1,bY (a0 y ey).2 C.size⟩
  have b3:=J (AP s v b6 z S hS lf _ (.inl ⟨rfl,rfl⟩) ((bb.sub (λx F=>by simp[F])).aw s.aw (λk _ M=>hS k M)) w.heap.size _ n cap l s0 b0 (cv _ s.aw) (cw _ s.aw) K lc ec (λW a x p h1 h2 h3 h4=>hC W a x p h1 (by simp[h2]) h3 h4));have e3:w4.cell? ⟨sb,f+3,none⟩=some (.slice B lf.length G):=by
   obtain⟨c4,ee,H4⟩:=s.fl;rw[aX ee];exact H4.c3
  rw[jQ]at b3;replace s:=J s;clear r0 r1 q0 q1 q3 k2 f2 p0 p1 d0 d3 c0 c3;go_upto_region 7 with fail;go_wp2_with fail;refine(Z b3).mono ?_;rintro e w5⟨v5,rfl,o5,h5,cx,C5,K5⟩;obtain⟨a5,c5,rfl,-⟩:=o5.gy;obtain⟨u,z3,z4⟩:=(Z s).aK v z o5 h5 cx C5 K5;have eg:=C5.cell s0 (λd=>by obtain d|d:=d;exact bM d;exact b0 (.inr (.inl d)));have ei:=C5.cell s1 (λd=>by obtain d|d:=d;exact P d;exact a4 (.inr (.inl d)));obtain⟨W6,al⟩:=exq (w5.setCell ⟨sb,f+3,none⟩ (.slice a5 (lf.filter (λx=> !bL l x.1.num)).length c5));rw[<-al]at u;have g6:w5.grownBy W6 (some sb):=by rw[al];exact aI (aB _ _) _ _ (.inr rfl)
  have ej:=g6.cell eg (λe=>bM (aO e));have ek:=g6.cell ei (λe=>P (aO e));have cy:=J (AP u v b6 z S hS ll _ (.inr ⟨rfl,rfl⟩) ((bb.sub (λx F=>by simp[F])).aw u.aw (λk _ M=>hS k M)) w.heap.size _ n cap l ej b0 (cv _ u.aw) (cw _ u.aw) K lc ec (λW a x p h1 h2 h3 h4=>hC W a x p h1 (by simp[h2]) h3 h4));have e4:W6.cell? ⟨sb,f+4,none⟩=some (.slice la ll.length O):=by
   obtain⟨c6,eo,H6⟩:=u.fl;rw[aX eo];exact H6.c4
  replace u:=J u;replace al:=J al;clear o5 cx C5 K5 h5 b3 e3;go_upto_region 8 with fail;rw[<-Z al];go_wp2_with fail;refine(Z cy).mono ?_;rintro e w7⟨v7,rfl,o7,h7,cC,C7,K7⟩;obtain⟨a7,c7,rfl,-⟩:=o7.gy;obtain⟨D,z7,z8⟩:=(Z u).Hw v z o7 h7 cC C7 K7;have ew:=C7.cell ek (λd=>by obtain d|d:=d;exact P d;exact a4 (.inr (.inr d)));obtain⟨W8,ax⟩:=exq (w7.setCell ⟨sb,f+4,none⟩ (.slice a7 (ll.filter (λx=> !bL l x.1.num)).length c7));rw[<-ax]at D;have g8:w7.grownBy W8 (some sb):=by rw[ax];exact aI (aB _ _) _ _ (.inr rfl)
  have ez:=g8.cell ew (λe=>P (aO e));obtain⟨c9,a8,H8⟩:=D.fl;have b4:=D.ef;have b5:=D.el;have fA:=ny (λx:Kt=> !bL l x.1.num) lf;have ga:=ny (λx:Kt=> !bL l x.1.num) ll;have gd:=D.aw.size;have eK:=J (AM W8 sb f r 290 #[.pointer (some ⟨w.heap.size+1,0,none⟩)] c9 t _ _ _ _ count tick wt (λx=>decide (x.1.num+3<=hi)) a8 H8 (by omega) (by rw[b4];exact v.1) (by rw[b5];exact v.2.1) (λk M=>by rw[b5];exact v.2.2 k (b4▸M)) (by omega) (λx F=>iZ x ((iy.1 F).1)) (λ_ _=>by kernel_rfl)
   (λW i C eL=>Hs W (w.heap.size+1) hi _ (C.cell ez (λd=>by
     obtain d|d|d:=d
     exact P d;exact a4 (.inr (.inl (b4▸d)))
     ·exact a4 (.inr (.inr (b5▸d))))) (db _ (iy.1 (oE eL)).1)))
  have eS:Hid (∀q,(∃a9 aC,q.heap[sb]?=some (.cells ((c9.setIfInBounds (f+4) aC).setIfInBounds (f+3) a9) t (0,0))/\cf q r a9 ((lf.filter (λx=> !bL l x.1.num)).filter (λx=> !decide (x.1.num+3<=hi)))/\cf q r aC (ll.filter (λx=> !bL l x.1.num)++(lf.filter (λx=> !bL l x.1.num)).filter (λx=>decide (x.1.num+3<=hi)))/\av W8 q (FT sb (.slice a5 (lf.filter (λx=> !bL l x.1.num)).length c5) (.slice a7 (ll.filter (λx=> !bL l x.1.num)).length c7))/\a9.ownBlock=(Value.slice a5 (lf.filter (λx=> !bL l x.1.num)).length c5).ownBlock/\(aC.ownBlock=(Value.slice a7 (ll.filter (λx=> !bL l x.1.num)).length c7).ownBlock\/∀k,aC.ownBlock=some k->W8.heap.size<=k))->R (.returned .nilIface) q):=J (by
   rintro q⟨a9,aC,e5,e6,e7,C',e8,e9⟩;rw[Z T];refine .inr ⟨by rw[<-Z L];omega,rfl,?_⟩;have fa:=D.Hy z a8 H8 e5 e6 e7 C' e8 e9;unfold xW;rw[<-Z a2,<-cp,<-Z L];exact fa)
  replace D:=J D;replace ax:=J ax;replace a8:=J a8;clear o7 cC C7 K7 h7 cy e4 H8;go_upto_region 9 with fail;rw[<-Z ax];go_wp2_with fail;refine(Z eK).mono ?_;rintro e w9⟨rfl,h9⟩;have fb:=J (Z eS w9 h9);clear h9;go_wp2_with fail;exact Z fb
theorem HC(w:World)(b c a:Nat)(ls:Array Value)(st:Int)(p:Pc)(q:Bool)(h0:w.cell? ⟨b,0,none⟩=some (.func (.func a) #[] ls))(i:w.cell? ⟨c,2,none⟩=some (.int .i64 st))(u:∀args w,(callFunc a args).run prog w=.ok (.enter a args) w)
 (f:∀W,w.grownBy W none->Calls prog a (#[.int .i64 st,.agg (pA p)]++ls) W (λe j=>e=.returned (.bool q)/\W.grownBy j none)):
 Calls prog 293 #[.agg (pA p),.pointer (some ⟨b,0,none⟩),.pointer (some ⟨c,0,none⟩)] w λe k=>e=.returned (.bool !q)/\w.grownBy k none:=by
 obtain⟨⟨l,m⟩,n,r⟩:=p;unfold pA at *;simp only at *;have v:b<w.heap.size:=ep w _ h0;have x:c<w.heap.size:=ep w _ i;obtain⟨g,d⟩:=exq (w.alloc (.cells #[.int .u64 l,.int .u64 m,.bool n,.bool r] 377));have h:w.grownBy g none:=by rw[d];exact aH _ _ _
 have s:=J (f g h);clear f;go_enter func293,ntmps293;go_wp2_with fail;rw[<-d];clear d;refine(Z s).mono ?_;rintro e y⟨rfl,t⟩;go_wp2_with fail;go_ret;exact⟨rfl,aq h t⟩
theorem HE(w:World)(c d:Nat)(ls:Array Value)(x:Kt)(T:Int->Pc->Bool)(pa:Option Addr)(a f:Nat)(B:x.2=.slice pa a f)(hp:ko w pa a f x.1.ps)(h0:w.cell? ⟨c,0,none⟩=some (.func (.func d) #[] ls))(C:∀args w,(callFunc d args).run prog w=.ok (.enter d args) w)
 (s:∀W p,w.grownBy W none->p∈x.1.ps->Calls prog d (#[.int .i64 x.1.st,.agg (pA p)]++ls) W (λe j=>e=.returned (.bool (T x.1.st p))/\W.grownBy j none)):
 Calls prog 291 #[.agg (kA x),.pointer (some ⟨c,0,none⟩)] w λe D=>e=.returned (.bool (x.1.ps.all (T x.1.st)))/\w.grownBy D none:=by
 obtain⟨⟨num,tk,st,ps⟩,O⟩:=x;simp only at *;subst B;unfold kA;simp only
 have P:c<w.heap.size:=ep w _ h0;obtain⟨m,k⟩:=exq (w.alloc (.cells #[.int .u64 num,.int .i64 tk,.int .i64 st,.slice pa a f] 325));have l:w.grownBy m none:=by rw[k];exact aH _ _ _
 have n:m.heap[w.heap.size]?=some (.cells #[.int .u64 num,.int .i64 tk,.int .i64 st,.slice pa a f] 325 (0,0)):=by rw[k];exact aM _ _
 obtain⟨-,-,b2,-⟩:=lS n;have E:=l.cell h0 (by simp);have t:=hp.ao l;obtain⟨b,o,q⟩:∃b o,0<a->pa=some ⟨b,o,none⟩:=by
  by_cases F:0<a;obtain⟨-,Q,R,-,S|⟨b,o,rfl,-⟩⟩:=id hp;omega;exact⟨b,o,λ_=>rfl⟩
  exact⟨0,0,λh=>absurd h F⟩
 have u:a=ps.length:=hp.2.1;have G:=J (GZ pa b o a f 293 #[] #[.pointer (some ⟨c,0,none⟩),.pointer (some ⟨w.heap.size,0,none⟩)] m (λi=>(!T st (fF ps i))=true) (λi=>.int .u64 (fF ps i).x.lo) (λi=>.int .u64 (fF ps i).x.hi) (λi=>.bool (fF ps i).e) (λi=>.bool (fF ps i).g) q ⟨hp.2.2.1,hp.2.2.2.1⟩ (λ_ _=>by kernel_rfl)
  (λW i g hi=>by
    have v:=t.ao g;rw[q (by omega)]at v;exact v.cell i (by omega))
  (λW i g hi=>by
    refine(HC W c w.heap.size d ls st (fF ps i) (T st (fF ps i)) (g.cell E (by simp)) (g.cell b2 (by simp)) C (λj r=>s j _ (aq l (aq g r)) (vz (by omega)))).mono ?_;rintro e j⟨rfl,r⟩;exact⟨⟨_,rfl,Iff.rfl⟩,r⟩))
 have y:Hid ((!ps.all (T st))=true↔∃i,i<a/\(!T st (fF ps i))=true):=J (by
  rw[u,Bool.not_eq_true',<-Bool.not_eq_true,List.all_eq_true];constructor;intro h;apply zH;intro H;apply h;intro p I;obtain⟨i,hi,rfl⟩:=jP.1 I;have K:fF ps i=ps[i]:=by simp[fF,List.getD,hi]
  cases L:T st ps[i];exact absurd ⟨i,hi,by rw[K,L];rfl⟩ H;rfl
  ·rintro⟨i,hi,h⟩ M;have:=M _ (vz hi);rw[this]at h;cases h)
 obtain⟨U,z⟩:=exq (ps.all (T st));rw[<-z]at y⊢;clear z u hp t q s;replace n:=J n;go_enter func291,ntmps291;go_wp2_with fail;rw[<-k];clear k;refine(Z G).mono ?_;rintro e V⟨A,N⟩;obtain rfl:=rO A (Z y);clear A;go_wp2_with fail;go_ret;exact⟨by simp,aq l N⟩
theorem HG(w:World)(sb m s:Nat)(cs:Array Value)(t:TypeId)(G d:Value)(lf ll:List Kt)(count tick wait:Int)(z:w.heap[sb]?=some (.cells cs t (0,0)))(H:iA w s cs m G d lf ll count tick wait)(I:pq sb G d)(S:Nat->Prop)(bb:∀k,FT sb G d k->S k)(K:m8 w S ll)(l:Nat)(ls:Array Value)(T:Int->Pc->Bool)(es:∀args w,(callFunc l args).run prog w=.ok (.enter l args) w)
 (P:∀(W:World)(x:Kt)(p:Pc),av w W (λk=>d.ownBlock=some k)->x∈ll->p∈x.1.ps->Calls prog l (#[.int .i64 x.1.st,.agg (pA p)]++ls) W (λe A=>e=.returned (.bool (T x.1.st p))/\W.grownBy A none)):
 Calls prog 254 #[.pointer (some ⟨sb,m,none⟩),.func (.func l) #[] ls] w λe b=>e=.returned (.tuple #[])/\∃j,b.heap[sb]?=some (.cells (cs.setIfInBounds (m+4) j) t (0,0))/\cf b s j (ll.filter (λx=> !x.1.ps.all (T x.1.st)))/\j.ownBlock=d.ownBlock/\av w b (λk=>k=sb\/d.ownBlock=some k):=by
 obtain⟨R,B⟩:=exq (λb:World=>∃j,b.heap[sb]?=some (.cells (cs.setIfInBounds (m+4) j) t (0,0))/\cf b s j (ll.filter (λx=> !x.1.ps.all (T x.1.st)))/\j.ownBlock=d.ownBlock/\av w b (λk=>k=sb\/d.ownBlock=some k));have Q:(λ(e:Ending) b=>e=.returned (.tuple #[])/\∃j,b.heap[sb]?=some (.cells (cs.setIfInBounds (m+4) j) t (0,0))/\cf b s j (ll.filter (λx=> !x.1.ps.all (T x.1.st)))/\j.ownBlock=d.ownBlock/\av w b (λk=>k=sb\/d.ownBlock=some k))=λe b=>e=.returned (.tuple #[])/\R b:=by rw[B]
 rw[Q];clear Q;replace B:=J B;have c9:sb<w.heap.size:=(aY.1 z).1;have c4:=(aX z _).trans H.c4;have db:=gM H.c4;obtain⟨q,C⟩:=exq (w.alloc (.cells #[.func (.func l) #[] ls] 390));have u:w.grownBy q none:=by rw[C];exact aH _ _ _
 have D:q.heap[w.heap.size]?=some (.cells #[.func (.func l) #[] ls] 390 (0,0)):=by rw[C];exact aM _ _
 have br:w.heap.size<q.heap.size:=(aY.1 D).1;have L:=bA z u;obtain⟨va,E,U,bx,V⟩:=H.ol.gy;have bz:∀k,d.ownBlock=some k->k<w.heap.size:=λk e=>(H.ol.lt k e).2
 have M:Hid (Calls prog 236 #[d,.func (.func 291) #[] #[.pointer (some ⟨w.heap.size,0,none⟩)]] q (λe b=>∃a n c,e=.returned (.slice a n c)/\cf b s (.slice a n c) (ll.filter (λx=> !x.1.ps.all (T x.1.st)))/\(Value.slice a n c).ownBlock=d.ownBlock/\av q b (λk=>d.ownBlock=some k))):=by
  subst U;by_cases X:ll=[]
  subst X;refine J ((xU va E _ _ q V (λ_ _=>by kernel_rfl)).mono ?_);rintro e b⟨rfl,rfl⟩;exact⟨_,_,_,rfl,H.ol.ao u,rfl,av.rfl' _ _⟩
  have bM:=oj.2 X;obtain⟨g,rfl,-⟩:=H.ol.cell bM;obtain⟨b0,b3,b4⟩:=(H.ol.ao u).mid;have b5:sb≠g:=λe=>I.2.1 (by rw[e];rfl)
  have M:=xS g ll.length E s 291 sb #[.pointer (some ⟨w.heap.size,0,none⟩)] ll q (λh=>(bJ ll h).1.ps.all (T (bJ ll h).1.st)) (λ_ W=>av q W (λk=>(Value.slice (some ⟨g,0,none⟩) ll.length E).ownBlock=some k)) b3 b0 rfl ⟨bx,V⟩ (λx hx=>by obtain⟨a,n,c,e,-⟩:=K x hx;exact⟨a,n,c,e⟩) b4 (by omega) b5 (λ_ _=>by kernel_rfl) (av.rfl' _ _)
   (λW A h hi gg=>(hi.trans (av.of gg)).mono (λk _ f=>f.elim id id))
   (λW h hi f=>by
     have Y:=oE f;obtain⟨pa,pn,pp,b8,ca,aC⟩:=K _ Y;have a0:av w W (λk=>(Value.slice (some ⟨g,0,none⟩) ll.length E).ownBlock=some k):=((av.of u).trans hi).mono (λk _ f=>f.elim (λe=>by cases e) id);have ch:ko W pa pn pp (bJ ll h).1.ps:=ca.df (λ_ y ey=>a0.block _ (aC y ey).2 (λht=>(aC y ey).1 (bb _ (.inr (.inr ht)))));have cp:=(hi.block w.heap.size br (λe=>by have:=bz _ e;omega)).trans D;refine(HE W w.heap.size l ls (bJ ll h) T pa pn pp b8 ch (by simp[World.cell?,cp]) es (λA p F cv=>P A _ p (a0.grow F) Y cv)).mono ?_;rintro e A⟨rfl,F⟩;exact⟨rfl,hi.grow F,cX F _⟩)
  refine J (M.mono ?_);have cw:kp ll (λh=>(bJ ll h).1.ps.all (T (bJ ll h).1.st)) ll.length=ll.filter (λx=> !x.1.ps.all (T x.1.st)):=by
   rw[xR ll _ (λx=>x.1.ps.all (T x.1.st)) (λi _=>rfl) _ (aP _),oq]
  rw[cw];rintro e b⟨rfl,ho,cx⟩;exact⟨_,_,_,rfl,ho,rfl,cx⟩
 have cy:Hid (∀(r:World)(v:Value),cf r s v (ll.filter (λx=> !x.1.ps.all (T x.1.st)))->v.ownBlock=d.ownBlock->av q r (λk=>d.ownBlock=some k)->R (r.setCell ⟨sb,m+4,none⟩ v)/\r.cell? ⟨sb,m+4,none⟩=some d/\r.frozen? ⟨sb,m+4,none⟩=false):=J (λr v h1 h2 h3=>by
  have N:=(h3.block sb (by omega) (λe=>I.2.1 e)).trans L;have l:=aI (aB r (some sb)) ⟨sb,m+4,none⟩ v (.inr rfl);refine⟨?_,by rw[aX N];exact H.c4,by simp[World.frozen?,N]⟩
  rw[Z B];refine⟨v,heap_set N _,h1.gb l (.inr (by rw[h2];exact I.2.1)),h2,(((av.of u).trans h3).trans (av.of l)).mono (λk _ f=>?_)⟩
  obtain(f|f)|f:=f
  cases f;exact .inr f
  ·exact .inl (aO f).symm)
 have d4:=u.cell c4 (by simp);clear P K H c4;subst U;replace D:=J D;replace L:=J L;replace z:=J z;go_enter func254,ntmps254;go_upto_region 1 with fail;rw[<-C];clear C;go_wp2_with fail;refine(Z M).mono ?_;rintro e r⟨a5,n5,c5,rfl,o5,e5,C5⟩;obtain⟨O,z5,f5⟩:=Z cy r _ o5 e5 C5;replace O:=J O;clear o5 e5 C5;go_wp2_with fail;exact eW (et rfl _ _ _) rfl ⟨rfl,Z O⟩
