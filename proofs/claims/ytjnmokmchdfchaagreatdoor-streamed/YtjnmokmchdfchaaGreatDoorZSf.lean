import Derived.Test.YtjnmokmchdfchaaGreatDoorZSe
set_option maxRecDepth 1000000
set_option maxHeartbeats 0
set_option linter.all false
namespace Go.Proofs.YtjnmokmchdfchaaGreatDoor
open Go.RowKit Tryz
open Go.Value renaming int→I,slice→Y,bool→β,pointer→π,agg→ε,string→ς,tuple→τ
open Go.IntKind renaming i64→X,u64→U,u8→Δ
open Go.Ending renaming returned→ξ
open Go.Obj renaming cells→ο
open Or renaming inl→φ,inr→ψ
open Option renaming some→E,none→N
open Bool renaming true→ρ,false→θ
open Go renaming World→D,Value→υ
open Go.World renaming grownBy→G,cell?→κ,frozen?→χ,setCell→ζ
attribute[local go_sem↓]Go.wp_at_zero Go.wp_at_succ
variable{C c:Array υ}{u:Fr}{p q r:Int}{L:List Int}{s:List Rg}{i j k n:Nat}{H:Ot}{d:Sd}{T:TypeId}{x y z:υ}{V W w:D}{F:aY}
def JZ(lf:List Kt)(a:Kt->Bool):lf.any a=ρ↔∃i,i<lf.length/\a (bZ lf i)=ρ:=by
 rw[tu];constructor;rintro⟨x,b,h⟩;obtain⟨i,hi,rfl⟩:=ko.1 b;exact⟨i,hi,by simpa [bZ,List.getD,hi]using h⟩
 rintro⟨i,hi,h⟩;exact⟨_,pX hi,h⟩
def J0(w:D)(sb f v:Nat)(cs:Array υ)(t:TypeId)(j m:υ)(lf ll:List Kt)(count tick wait:Int)(P:w.heap[sb]?=E (ο cs t (0,0)))(H:jx w v cs f j m lf ll count tick wait)(fa:v<=w.heap.size)(z:qB sb j m)(fb:lf.length<=1000000/\ll.length<=50000000)
 (S:Nat->Prop) (hS:∀k,FT sb j m k->S k) (bw:oF w S (lf++ll)) (a:Option Addr) (n q:Nat) (l:List Rg) (hs:bq w a n q l) (hl:0<l.length) (a4:∀y,a=E y->¬FT sb j m y.block/\y.block<w.heap.size) (da:∀x∈lf,0<=x.1.num/\x.1.num<=4611686018427387903)
 (T:Nat) (lc:Array υ) (ec:∀args w,(callFunc T args).run prog w=.ok (.enter T args) w) (St:List (Int×Pc)->D->Prop) (h0:St [] w)
 (A:∀(W B:D)(a:List (Int×Pc)),St a W->aj W B (FT sb j m)->mq W B sb f->St a B)
 (hC:∀(W:D)(a:List (Int×Pc))(x:Kt)(p:Pc),St a W->x∈lf++ll->p∈x.1.ps->bK l x.1.num=ρ->Calls prog T (#[I X x.1.st,ε (pA p)]++lc) W (λe B=>e=ξ (τ #[])/\St (a++[(x.1.st,p)]) B/\G W B (E sb)/\nH W B sb f)):
 Calls prog 253 #[π (E ⟨sb,f,N⟩),Y a n q,.func (.func T) #[] lc] w λe r=>(count<=(an l 0).hi/\e=ξ (.iface 34 (I X 8))/\G w r N)\/((an l 0).hi<count/\e=ξ .nilIface/\CL w r sb f v t j m lf ll count tick wait St l):=by
 refine fL λR hR=>?_
 replace hR:=J hR;have ca:=(aV.1 P).1;have hn:=hs.2.1;have fc:=hs.2.2.1;have db:=hs.2.2.2.1;unfold maxLen at db;obtain⟨b,o,rfl⟩:∃b o,a=E ⟨b,o,N⟩:=by
  obtain⟨-,h2,h3,-,h5|⟨b,o,rfl,-⟩⟩:=id hs;omega;exact⟨b,o,Q⟩
 have y1:=(hs.cell 0 hl).2;rw[nz,nA]at y1;obtain⟨hi,V⟩:=í ((an l 0).hi);rw[<-V]at y1;have i0:(0:Int)<n:=O;have lb:b<w.heap.size:=eI w _ y1;have c0:=(ba P _).trans H.c0;have c3:=(ba P _).trans H.c3;obtain⟨K,al⟩:=í ((w.alloc (ο #[Y (E ⟨b,o,N⟩) n q] 133)).alloc (ο #[I U hi] 30));have g1:G w K N:=by rw[al];exact aW (aC _ _ _) _
 have dc:(w.alloc (ο #[Y (E ⟨b,o,N⟩) n q] 133)).heap.size=w.heap.size+1:=Γ;have bx:K.heap[w.heap.size]?=E (ο #[Y (E ⟨b,o,N⟩) n q] 133 (0,0)):=by
  rw[al];exact bp (aM _ _) (aC _ _ N)
 have bz:K.heap[w.heap.size+1]?=E (ο #[I U hi] 30 (0,0)):=by
  rw[al,<-dc];exact aM _ _
 have p0:κ K ⟨w.heap.size,0,N⟩=E (Y (E ⟨b,o,N⟩) n q):=by simp[κ,bx]
 have p1:κ K ⟨w.heap.size+1,0,N⟩=E (I U hi):=by simp[κ,bz]
 have d0:=ì g1 c0;have d3:=ì g1 c3;have A0:kZ w w sb f v t j m j m lf ll count tick wait St []:=⟨⟨cs,P,H⟩,h0,aj.rfl' _ _,Q,Q⟩
 have cc:∀k,w.heap.size<=k->¬FT sb j m k:=λk hk h=>by
  obtain h|h|h:=h
  omega;have:=(H.of.lt k h).2;omega;have:=(H.ol.lt k h).2;omega
 have e1:Hid (count<=hi->∀W,G w W N->R (ξ (.iface 34 (I X 8))) W):=J (λh W g=>by rw[Z hR];exact φ ⟨by rw[<-V];exact h,Q,g⟩);replace⟨V,hn,bx,bz,P⟩:=gT V hn bx bz P;go_enter func253,ntmps253;go_upto_region 2 with fail;rw[<-al];clear al;by_cases bA:count<=hi
 .have dg:decide (count<=hi)=ρ:=bU bA;go_quiet (fail);go_wp2_with fail;exact Z e1 bA _ (cu g1 _)
 have dg:decide (count<=hi)=θ:=bT bA;go_quiet (fail);obtain⟨W2,bM⟩:=í (K.drewN nq);have ao:G K W2 N:=by rw[bM];exact cu (au _ _) nq
 have b3:=aq g1 ao;have A2:=A0.gb A b3;have q0:=ì ao p0;have q1:=ì ao p1;have q3:=ì ao d3;have fj:∀x∈lf,∃a n c,x.2=Y a n c:=λx L=>by obtain⟨a,n,c,e,-⟩:=bw x (by simp[L]);exact⟨a,n,c,e⟩
 have de:=hs.ag b3;let⟨M,ai,ax,dk,dm⟩:=H.of.fU
 obtain⟨cb,dn,du⟩:∃b,(0<lf.length->M=E ⟨b,0,N⟩)/\(∀i,i<lf.length->κ W2 ⟨b,0+i*4,N⟩=E (I U (bZ lf i).1.num)/\κ W2 ⟨b,0+i*4+1,N⟩=E (I X (bZ lf i).1.tick)/\κ W2 ⟨b,0+i*4+2,N⟩=E (I X (bZ lf i).1.st)/\κ W2 ⟨b,0+i*4+3,N⟩=E (bZ lf i).2):=by
  by_cases hz:0<lf.length;have ho:=H.of.ag b3;rw[ax]at ho;let⟨b,e,h⟩:=ho.cell hz
  exact⟨b,λ_=>e,h⟩
  exact⟨0,λh=>absurd h hz,λi hi=>O⟩
 have dv:=J ((vz.1 (λi=>I U (bZ lf i).1.num) (λi=>I X (bZ lf i).1.tick) (λi=>I X (bZ lf i).1.st) (λi=>(bZ lf i).2)).1 M cb 0 lf.length ai 287 #[] #[π (E ⟨w.heap.size,0,N⟩)] W2 (λi=>bK l (bZ lf i).1.num=ρ) dn ⟨dk,dm⟩ (λ_ _=>Φ)
  (λW i g hi=>by let⟨p0,p1,p2,p3⟩:=du i hi;exact⟨ì g p0,ì g p1,ì g p2,ì g p3⟩)
  (λW i g hi=>by
    apply(CJ W w.heap.size (E ⟨b,o,N⟩) n q l (bZ lf i) (ì g q0) (de.ag g)).mono;rintro e B⟨rfl,g'⟩;exact⟨⟨_,Q,Iff.rfl⟩,g'⟩))
 obtain⟨a8,a9⟩:=í (lf.any (λx=>bK l x.1.num));have dx:Hid (a8=ρ↔∃i,i<lf.length/\bK l (bZ lf i).1.num=ρ):=J (by rw[a9];exact JZ lf _);replace⟨a9,A0,A2⟩:=cA a9 A0 A2;rw[ax]at q3;replace ax:=J ax;go_upto_region 5 with fail;rw[<-bM];clear bM;go_wp2_with fail;apply(Z dv).mono;rintro e w3⟨cf,g3⟩;obtain rfl:=tM cf (Z dx);clear cf;have A3:=(Z A2).gb A g3;have ff:=aq ao g3;have r0:=ì g3 q0;have r1:=ì g3 q1;let⟨fi,bb,HA⟩:=A3.fl
 have k2:=(ba bb _).trans HA.c2;have f2:χ w3 ⟨sb,f+2,N⟩=θ:=ç bb;replace⟨bb,A3⟩:=aT bb A3;go_upto_if 26 with fail;go_cut [] (λwx=>kZ w wx sb f v t j m j m lf ll count tick (if a8 then 4 else wait) St []/\G w3 wx (E sb));case first=>
  cases a8
  .go_wp2_with fail;go_meet;exact⟨by simpa using Z A3,au _ _⟩
  go_wp2_with fail;go_meet;exact⟨by simpa using (Z A3).set z A 4,aD (au _ _) _ _ (ψ Q)⟩
 case rest=>
  rename D=>w4
  let⟨s,ch⟩:=hcut
  obtain⟨la,a0,ea,-⟩:=H.ol.fU;have eb:=Z ax;subst eb;subst ea;obtain⟨cm,hQ⟩:∃cm:Kt->Bool,cm=λx=>bK l x.1.num:=⟨_,Q⟩
  obtain⟨wt,cp⟩:=í ((if a8 then 4 else wait));rw[<-cp]at s;have b4:w.heap.size≠sb:=O;have ak:w.heap.size+1≠sb:=O;have s0:=ch.cell r0 (λe=>b4 (aR e));have s1:=ch.cell r1 (λe=>ak (aR e));have b5:=cc _ (aP _);have bj:¬FT sb (Y M lf.length ai) (Y la ll.length a0) (w.heap.size+1):=cc _ O;have ct:∀W,aj w W (FT sb (Y M lf.length ai) (Y la ll.length a0))->bq W (E ⟨b,o,N⟩) n q l:=λW C=>hs.dR (λ_ y ey=>C.block _ (a4 y ey).2 (a4 y ey).1)
  have cv:∀W,aj w W (FT sb (Y M lf.length ai) (Y la ll.length a0))->l≠[]->∀y,E (⟨b,o,N⟩:Addr)=E y->¬FT sb (Y M lf.length ai) (Y la ll.length a0) y.block/\y.block<W.heap.size:=λW C _ y ey=>⟨(a4 y ey).1,bX (a4 y ey).2 C.size⟩
  have b6:=J (CK s z ca A S hS lf _ (φ ⟨Q,Q⟩) ((bw.sub (λx L=>by simp[L])).aA s.aA (λk _ hk=>hS k hk)) w.heap.size _ n q l s0 b5 (ct _ s.aA) (cv _ s.aA) T lc ec (λW a x p h1 h2 h3 h4=>hC W a x p h1 (by simp[h2]) h3 h4));have e3:κ w4 ⟨sb,f+3,N⟩=E (Y M lf.length ai):=by
   let⟨c4,ed,H4⟩:=s.fl
   rw[ba ed];exact H4.c3
  rw[mg]at b6;replace s:=J s;clear r0 r1 q0 q1 q3 k2 f2 p0 p1 d0 d3 c0 c3;go_upto_region 7 with fail;go_wp2_with fail;apply(Z b6).mono;rintro e w5⟨v5,rfl,o5,h5,cw,C5,K5⟩;obtain⟨a5,c5,rfl,-⟩:=o5.fU;let⟨u,z3,z4⟩:=(Z s).aO z A o5 h5 cw C5 K5
  have ee:=C5.cell s0 (λd=>by obtain d|d:=d;exact b4 d;exact b5 (ψ (φ d)));have ei:=C5.cell s1 (λd=>by obtain d|d:=d;exact ak d;exact bj (ψ (φ d)));obtain⟨W6,a1⟩:=í (ζ w5 ⟨sb,f+3,N⟩ (Y a5 (lf.filter (λx=> !bK l x.1.num)).length c5));rw[<-a1]at u;have g6:G w5 W6 (E sb):=by rw[a1];exact aD (au _ _) _ _ (ψ Q)
  have ej:=g6.cell ee (λe=>b4 (aR e));have ek:=g6.cell ei (λe=>ak (aR e));have cx:=J (CK u z ca A S hS ll _ (ψ ⟨Q,Q⟩) ((bw.sub (λx L=>by simp[L])).aA u.aA (λk _ hk=>hS k hk)) w.heap.size _ n q l ej b5 (ct _ u.aA) (cv _ u.aA) T lc ec (λW a x p h1 h2 h3 h4=>hC W a x p h1 (by simp[h2]) h3 h4));have e4:κ W6 ⟨sb,f+4,N⟩=E (Y la ll.length a0):=by
   let⟨c6,eo,H6⟩:=u.fl
   rw[ba eo];exact H6.c4
  replace⟨u,a1⟩:=aT u a1;clear o5 cw C5 K5 h5 b6 e3;go_upto_region 8 with fail;rw[<-Z a1];go_wp2_with fail;apply(Z cx).mono;rintro e w7⟨v7,rfl,o7,h7,cy,C7,K7⟩;obtain⟨a7,c7,rfl,-⟩:=o7.fU;let⟨F,z7,z8⟩:=(Z u).JX z A o7 h7 cy C7 K7
  have er:=C7.cell ek (λd=>by obtain d|d:=d;exact ak d;exact bj (ψ (ψ d)));obtain⟨W8,a2⟩:=í (ζ w7 ⟨sb,f+4,N⟩ (Y a7 (ll.filter (λx=> !bK l x.1.num)).length c7));rw[<-a2]at F;have g8:G w7 W8 (E sb):=by rw[a2];exact aD (au _ _) _ _ (ψ Q)
  have et:=g8.cell er (λe=>ak (aR e));let⟨c9,br,H8⟩:=F.fl
  have b7:=F.ef;have b8:=F.el;have fo:=wL (λx:Kt=> !bK l x.1.num) lf;have fy:=wL (λx:Kt=> !bK l x.1.num) ll;have fA:=F.aA.size;have ev:=J (CH W8 sb f v 290 #[π (E ⟨w.heap.size+1,0,N⟩)] c9 t _ _ _ _ count tick wt (λx=>decide (x.1.num+3<=hi)) br H8 O (by rw[b7];exact z.1) (by rw[b8];exact z.2.1) (λk hk=>by rw[b8];exact z.2.2 k (b7▸hk)) O (λx L=>fj x ((jV.1 L).1)) (λ_ _=>Φ)
   (λW i C ez=>JT W (w.heap.size+1) hi _ (C.cell et (λd=>by
     obtain d|d|d:=d
     exact ak d;exact bj (ψ (φ (b7▸d)))
     .exact bj (ψ (ψ (b8▸d))))) (da _ (jV.1 (pX ez)).1)))
  have eK:Hid (∀r,(∃bt a3,r.heap[sb]?=E (ο ((c9.setIfInBounds (f+4) a3).setIfInBounds (f+3) bt) t (0,0))/\df r v bt ((lf.filter (λx=> !bK l x.1.num)).filter (λx=> !decide (x.1.num+3<=hi)))/\df r v a3 (ll.filter (λx=> !bK l x.1.num)++(lf.filter (λx=> !bK l x.1.num)).filter (λx=>decide (x.1.num+3<=hi)))/\aj W8 r (FT sb (Y a5 (lf.filter (λx=> !bK l x.1.num)).length c5) (Y a7 (ll.filter (λx=> !bK l x.1.num)).length c7))/\bt.ownBlock=(Y a5 (lf.filter (λx=> !bK l x.1.num)).length c5).ownBlock/\(a3.ownBlock=(Y a7 (ll.filter (λx=> !bK l x.1.num)).length c7).ownBlock\/∀k,a3.ownBlock=E k->W8.heap.size<=k))->R (ξ .nilIface) r):=J (by
   rintro r⟨bt,a3,eL,eS,e5,C',e6,e7⟩;rw[Z hR];refine ψ ⟨by rw[<-Z V];omega,Q,?_⟩;have e8:=F.JY A br H8 eL eS e5 C' e6 e7;unfold CL;rw[<-Z a9,<-cp,<-Z V];exact e8)
  replace⟨F,a2,br⟩:=cA F a2 br;clear o7 cy C7 K7 h7 cx e4 H8;go_upto_region 9 with fail;rw[<-Z a2];go_wp2_with fail;apply(Z ev).mono;rintro e w9⟨rfl,h9⟩;have e9:=J (Z eK w9 h9);clear h9;go_wp2_with fail;exact Z e9
def bF.lg(H:bF w n k c F d):κ w ⟨k,99,N⟩=E (I X 0):=(ba H.aG _).trans H.dS
def CP(w:D)(sb:Nat)(aI k:Int)(b:υ)(dS:κ w ⟨sb,99,N⟩=E (I X aI))(h:eZ aI k≠0):Calls prog 126 #[π (E ⟨sb,0,N⟩),I X k,b] w λr c=>r=ξ (τ #[I X 0,cF (eZ aI k)])/\G w c N:=by
 have a:=J (CN w sb _ k dS h);let⟨x,d⟩:=tO h
 rw[d]at a⊢;go_enter func126,ntmps126;go_wp2_with fail;apply(Z a).mono;rintro e g⟨rfl,f⟩;go_wp2_with fail;exact cC (v:=τ #[I X 0,.iface 34 (I X x)]) (by simp[results,results126,go_sem]) Q ⟨Q,f⟩
def Ot.wrote(o:Ot)(l:List Int)(av:Int):Ot:={o with h:={o.h with bytes:=o.h.bytes++l.take (o.gC l.length av)}}
def Sd.write(s:Sd)(k:Nat)(l:List Int):Int×Int×Sd:=
 if(s.out k).sE||(s.out k).sG then(0,3,s)else((s.out k).gC l.length s.av,0,{s with out:=aB s.out k ((s.out k).wrote l s.av)})
def Kb(w:D)(i sb:Nat)(n:Array υ)(v:aY)(s:Sd)(H:bF w i sb n v s)(k:Nat)(c:k<4)(d:Option Addr)(nx f:Nat)(l:List Int)(hl:bD w d nx f l)(p:(s.out k).h.nice)(q:((s.out k).h.bytes.length:Int)<=s.av/\s.av<=1000000)(t:(s.out k).h.fr+(s.out k).h.bytes.length<=4096):
 Calls prog 126 #[π (E ⟨sb,0,none⟩),I X k,Y d nx f] w λr j=>r=ξ (τ #[I X (s.write k l).1,cF (s.write k l).2.1])/\eH w.heap.size w i sb v (s.write k l).2.2 j:=by
 have m:=H.out k c;have a:=J (CO w sb k c _ H.lg (m.tail H.aG));unfold Sd.write;cases hd:((s.out k).sE||(s.out k).sG)
 .rw[hd]at a;simp only[iV,iJ]at a⊢;replace H:=J H;go_enter func126,ntmps126;go_wp2_with fail;apply(Z a).mono;rintro e u⟨rfl,b⟩;have A:=b.cell ((ba H.aG _).trans H.c1) Γ;go_wp2_with fail;apply(Z (J (λW(g:G w W none)=>J8 (bp H.aG g) (m.ag g) p (bG H.bl g.size) ((H.ag g).xN k c) d nx f l (hl.ag g) s.av q t)) _ b).mono;rintro e B⟨rfl,x⟩;have y:=J (Z (J (λW z(g:G w W _) o h=>eH.pre (N:=w.heap.size) (dz.ag g) (((H.ag g).xO (W:=z) k c o h).mono g.size))) _ _ b _ x);go_wp2_with fail;exact cC (v:=τ #[I X ((s.out k).gC l.length s.av),.nilIface]) (by simp[results,results126,go_sem]) Q ⟨Q,Z y⟩
 rw[hd]at a;simp only[fw]at a⊢;rw[show cF 3=.iface 34 (I X 3)from rfl]at a;replace H:=J H;go_enter func126,ntmps126;go_wp2_with fail;apply(Z a).mono;rintro e u⟨rfl,b⟩;go_wp2_with fail;exact cC (v:=τ #[I X 0,cF 3]) (by simp[results,results126,go_sem,cF]) Q ⟨Q,Z (J (λW(g:G w W none)=>H.to (N:=w.heap.size) g)) _ b⟩
def CQ(w:D)(sb:Nat)(aI k:Int)(dS:κ w ⟨sb,99,N⟩=E (I X aI))(h:eZ aI k≠0):Calls prog 127 #[π (E ⟨sb,0,N⟩),I X k] w λr b=>r=ξ (cF (eZ aI k))/\G w b N:=by
 have a:=J (CN w sb _ k dS h);let⟨x,c⟩:=tO h
 rw[c]at a⊢;go_enter func127,ntmps127;go_wp2_with fail;apply(Z a).mono;rintro e f⟨rfl,d⟩;go_wp2;go_ret;exact⟨Q,d⟩
def Sd.finish(s:Sd)(k:Nat):Int×Sd:=
 if(s.out k).sE||(s.out k).sG then(3,s)else(0,{s with out:=aB s.out k {s.out k with sE:=ρ}})
def Kc(w:D)(d sb:Nat)(j:Array υ)(v:aY)(s:Sd)(H:bF w d sb j v s)(k:Nat)(b:k<4):
 Calls prog 127 #[π (E ⟨sb,0,none⟩),I X k] w λr f=>r=ξ (cF (s.finish k).1)/\eH w.heap.size w d sb v (s.finish k).2 f:=by
 have i:=H.out k b;have a:=J (CO w sb k b _ H.lg (i.tail H.aG));unfold Sd.finish;cases hd:((s.out k).sE||(s.out k).sG)
 .rw[hd]at a;simp only[iV,iJ]at a⊢;replace H:=J H;go_enter func127,ntmps127;go_wp2_with fail;apply(Z a).mono;rintro e l⟨rfl,c⟩;go_wp2_with fail;apply(Z (J (λW(g:G w W none)=>J6 (bp H.aG g) (i.ag g) ((H.ag g).xN k b))) _ c).mono;rintro e q⟨rfl,m⟩;have n:=J (Z (J (λW p(g:G w W _) o h=>eH.pre (N:=w.heap.size) (dz.ag g) (((H.ag g).xO (W:=p) k b o h).mono g.size))) _ _ c _ m);go_wp2;go_ret;exact⟨Q,Z n⟩
 rw[hd]at a;simp only[fw]at a⊢;rw[show cF 3=.iface 34 (I X 3)from rfl]at a;replace H:=J H;go_enter func127,ntmps127;go_wp2_with fail;apply(Z a).mono;rintro e l⟨rfl,c⟩;go_wp2;go_ret;exact⟨Q,Z (J (λW(g:G w W _)=>H.to (N:=w.heap.size) g)) _ c⟩
def CR(w:D)(sb:Nat)(aI k:Int)(code:Int)(dS:κ w ⟨sb,99,N⟩=E (I X aI))(h:eZ aI k≠0):Calls prog 128 #[π (E ⟨sb,0,N⟩),I X k,I U code] w λr b=>r=ξ (cF (eZ aI k))/\G w b N:=by
 have a:=J (rB w sb _ k dS);let⟨x,c⟩:=tO h
 rw[c]at a⊢;go_enter func128,ntmps128;go_wp2_with fail;apply(Z a).mono;rintro e f⟨rfl,d⟩;go_wp2;go_ret;exact⟨Q,d⟩
def Ot.giveUp(o:Ot)(code:Int):Ot:={o with sE:=θ,sG:=ρ,code:=code,h:={o.h with bytes:=[]}}
def Sd.giveUp(s:Sd)(k:Nat)(code:Int):Int×Sd:=
 if(s.out k).sG=ρ\/4611686018427387903<code then(3,s)else(0,{s with out:=aB s.out k ((s.out k).giveUp code)})
def Kd(w:D)(j sb:Nat)(x:Array υ)(v:aY)(s:Sd)(H:bF w j sb x v s)(k:Nat)(f:k<4)(code:Int)(y:aZ code):
 Calls prog 128 #[π (E ⟨sb,0,none⟩),I X k,I U code] w λr l=>r=ξ (cF (s.giveUp k code).1)/\eH w.heap.size w j sb v (s.giveUp k code).2 l:=by
 have m:=H.out k f;have d:=J (rB w sb 0 (k:Int) H.lg);have e:eZ 0 (k:Int)=0:=by unfold eZ;simp;omega
 rw[e,xP]at d;have b:=J (λW(g:G w W _)=>zx W sb _ _ ((m.tail H.aG).ag g));have n:=J (λW(g:G w W _)=>J7 (bp H.aG g) (m.ag g) ((H.ag g).xN k f) _ y);have p:=J (λW(g:G w W _)=>H.to (N:=w.heap.size) g);rw[<-qG]at b n;unfold Sd.giveUp;cases hd:(s.out k).sG
 .rw[hd]at b;by_cases i:4611686018427387903<code
  .have d2:decide (code>4611686018427387903)=ρ:=bU i;rw[aH (ψ i)];replace H:=J H;go_enter func128,ntmps128;go_wp2_with fail;apply(Z d).mono;rintro e q⟨rfl,a⟩;go_wp2_with fail;apply(Z b _ a).mono;rintro e t⟨rfl,c⟩;go_wp2;go_ret;exact⟨Q,Z p _ (aq a c)⟩
  have d2:decide (code>4611686018427387903)=θ:=bT i;rw[aE Ψ];replace H:=J H;go_enter func128,ntmps128;go_wp2_with fail;apply(Z d).mono;rintro e q⟨rfl,a⟩;go_wp2_with fail;apply(Z b _ a).mono;rintro e t⟨rfl,c⟩;go_wp2_with fail;apply(Z n _ (aq a c)).mono;rintro e B⟨rfl,u⟩;rw[qG]at u;have z:=J (Z (J (λW A(g:G w W _) o h=>eH.pre (N:=w.heap.size) (dz.ag g) (((H.ag g).xO (W:=A) k f o h).mono g.size))) _ _ (aq a c) _ u);go_wp2;go_ret;exact⟨Q,Z z⟩
 rw[hd]at b;rw[aH (φ Q)];go_enter func128,ntmps128;go_wp2_with fail;apply(Z d).mono;rintro e q⟨rfl,a⟩;go_wp2_with fail;apply(Z b _ a).mono;rintro e t⟨rfl,c⟩;go_wp2;go_ret;exact⟨Q,Z p _ (aq a c)⟩
def CS(w:D)(sb:Nat)(aI k:Int)(dS:κ w ⟨sb,99,N⟩=E (I X aI))(h:eZ aI k≠0):Calls prog 134 #[π (E ⟨sb,0,N⟩),I X k] w λr b=>r=ξ (τ #[I X 0,cF (eZ aI k)])/\G w b N:=by
 have a:=J (rB w sb _ k dS);let⟨x,c⟩:=tO h
 rw[c]at a⊢;go_enter func134,ntmps134;go_wp2_with fail;apply(Z a).mono;rintro e f⟨rfl,d⟩;go_wp2_with fail;exact cC (v:=τ #[I X 0,.iface 34 (I X x)]) (by simp[results,results134,go_sem]) Q ⟨Q,d⟩
def Ke(w:D)(d sb:Nat)(f:Array υ)(v:aY)(s:Sd)(H:bF w d sb f v s)(k:Nat)(i:k<4)(j:0<=(s.out k).h.fr/\(s.out k).h.fr<=4611686018427387903):
 Calls prog 134 #[π (E ⟨sb,0,N⟩),I X k] w λr l=>r=ξ (τ #[I X (s.out k).h.fr,.nilIface])/\G w l N:=by
 have a:=J (rB w sb 0 (k:Int) H.lg);have e:eZ 0 (k:Int)=0:=by unfold eZ;simp;omega
 rw[e,xP]at a;have b:=J (λW(g:G w W N)=>I8 W sb _ _ (g.cell ((ba H.aG _).trans (H.out k i).c0) Γ) j);rw[<-qG]at b;go_enter func134,ntmps134;go_wp2_with fail;apply(Z a).mono;rintro e n⟨rfl,c⟩;go_wp2_with fail;apply(Z b _ c).mono;rintro e p⟨rfl,m⟩;go_wp2_with fail;exact cC (v:=τ #[I X (s.out k).h.fr,.nilIface]) (by simp[results,results134,go_sem]) Q ⟨Q,aq c m⟩
def CT(w:D)(sb:Nat)(aI k aJ:Int)(dS:κ w ⟨sb,99,N⟩=E (I X aI))(h:eZ aI k≠0):Calls prog 132 #[π (E ⟨sb,0,N⟩),I X k,I X aJ] w λr b=>r=ξ (τ #[Y N 0 0,I X 0,I U 0,cF (eZ aI k)])/\G w b N:=by
 have a:=J (rB w sb _ k dS);let⟨x,c⟩:=tO h
 rw[c]at a⊢;go_enter func132,ntmps132;go_wp2_with fail;apply(Z a).mono;rintro e f⟨rfl,d⟩;go_wp2_with fail;exact cC (v:=τ #[Y N 0 0,I X 0,I U 0,.iface 34 (I X x)]) (by simp[results,results132,go_sem]) Q ⟨Q,d⟩
def Kf(w:D)(l sb:Nat)(p:Array υ)(v:aY)(s:Sd)(H:bF w l sb p v s)(k:Nat)(m:k<4)(aJ:Int)(y:(s.aF k).h.nice)(z:0<=dL (s.aF k).h/\dL (s.aF k).h<=(s.aF k).h.bytes.length):
 Calls prog 132 #[π (E ⟨sb,0,N⟩),I X k,I X aJ] w λr d=>∃a n c,r=ξ (τ #[Y a n c,I X ((s.aF k).state aJ),I U (s.aF k).ik,.nilIface])/\aS d w.heap.size (Y a n c) ((s.aF k).out aJ)/\∃b,G w b N/\(∀j,(Y a n c).ownBlock=E j->j<b.heap.size)/\eH b.heap.size b l sb v {s with aF:=aB s.aF k ((s.aF k).read aJ)} d:=by
 obtain⟨R,f⟩:∃R:Ending->D->Prop,R=λr d=>∃a n c,r=ξ (τ #[Y a n c,I X ((s.aF k).state aJ),I U (s.aF k).ik,.nilIface])/\aS d w.heap.size (Y a n c) ((s.aF k).out aJ)/\∃b,G w b N/\(∀j,(Y a n c).ownBlock=E j->j<b.heap.size)/\eH b.heap.size b l sb v {s with aF:=aB s.aF k ((s.aF k).read aJ)} d:=⟨_,rfl⟩
 rw[<-f];replace f:=J f;have q:=J (rB w sb 0 (k:Int) H.lg);have e:eZ 0 (k:Int)=0:=by unfold eZ;simp;omega
 rw[e,xP]at q;have t:=J (λW(g:G w W _)=>Jv W sb _ _ p _ _ _ _ (bp H.aG g) ((H.aF k m).ag g) y (bG H.bl g.size) ((H.ag g).zQ k m) aJ z);rw[<-vC]at t;replace H:=J H;go_enter func132,ntmps132;go_wp2_with fail;apply(Z q).mono;rintro e L⟨rfl,i⟩;go_wp2_with fail;apply(Z t _ i).mono;rintro e A⟨a,n,c,b,rfl,B,u,C,x⟩;rw[vC]at x;have F:Hid (R (ξ (τ #[Y a n c,I X ((s.aF k).state aJ),I U (s.aF k).ik,.nilIface])) A):=J (by
  rw[Z f];exact⟨a,n,c,Q,B.low i.size,b,aq i u,C,Z (J (λW K(g:G w W _) o h=>(H.ag g).zR (W:=K) k m o h)) _ _ (aq i u) _ x⟩)
 go_wp2_with fail;exact cC (v:=τ #[Y a n c,I X ((s.aF k).state aJ),I U (s.aF k).ik,.nilIface]) (by simp[results,results132,go_sem]) Q (Z F)
def Sd.jb(s:Sd):Sd:=
 if s.aO.any (λx=>decide (s.wait<=s.tick+1-x.tick))then{s with aO:=[],lost:=s.lost++s.aO,tick:=s.tick+1,wait:=min (2*s.wait) 32}else{s with tick:=s.tick+1}
def any_map{l:List Kt}{f:Pk->Bool}:(l.map (·.1)).any f=ρ↔∃x∈l,f x.1=ρ:=by grind
def bF.fj(H:bF w k i C F d):∀x∈F.lf,∃a n c,x.2=Y a n c:=λx b=>by
 obtain⟨a,n,c,e,-⟩:=H.bB.iG x (jK _ b);exact⟨a,n,c,e⟩
def sn.ne{d:υ}(f:sn w W n T c C i x y z d)(h:z.ownBlock=x.ownBlock)(g:qB n x y)(j:∀k,x.ownBlock=E k->k<w.heap.size):∀k,z.ownBlock=E k->d.ownBlock≠E k:=λk a b=>by
 rw[h]at a;obtain e|e:=f.CI
 rw[e]at b;exact g.2.2 k a b;have:=e k b;have:=j k a;omega
def Kg(w:D)(a sb:Nat)(d:Array υ)(v:aY)(s:Sd)(H:bF w a sb d v s)(hl:s.aO.length<=1000000/\s.lost.length<=50000000)(q:0<=s.tick/\s.tick<1000000000000)(b:∀x∈s.aO,0<=x.tick/\x.tick<=1000000000000)(t:0<=s.wait/\s.wait<=1000):
 Calls prog 129 #[π (E ⟨sb,0,N⟩)] w λr u=>r=ξ (τ #[])/\eH w.heap.size w a sb v s.jb u:=by
 have m:=J (pC w sb 0 H.lg);simp only[ne_eq,wO,uT]at m;have P:v.lf.length=s.aO.length:=by have:=fR List.length H.aO;rw[fF]at this;exact this.symm
 have S:v.ll.length=s.lost.length:=by have:=fR List.length H.lost;rw[fF]at this;exact this.symm
 have y:=J (λW(g:G w W N)=>JP W sb 91 a d 241 _ _ v.lf v.ll s.count s.tick s.wait (bp H.aG g) (H.ag g).fl (bG H.bl g.size) H.tN O H.fj q (λx z=>b x.1 (by rw[H.aO];exact qq z)) t);have A:=J (λW f(g:G w W N)(h:((∃x∈v.lf,s.wait<=s.tick+1-x.1.tick)/\xL W f sb 241 d 91 a (v.own 8) (v.own 9) [] (v.ll++v.lf) s.count (s.tick+1) (min (2*s.wait) 32))\/((¬∃x∈v.lf,s.wait<=s.tick+1-x.1.tick)/\xL W f sb 241 d 91 a (v.own 8) (v.own 9) v.lf v.ll s.count (s.tick+1) s.wait))=>show eH w.heap.size w a sb v s.jb f by
  have c:=H.ag g;have n:s.aO.any (λx=>decide (s.wait<=s.tick+1-x.tick))=ρ↔∃x∈v.lf,s.wait<=s.tick+1-x.1.tick:=by rw[H.aO,any_map];simp
  apply eH.pre (dz.ag g);obtain⟨i,B,j,k,T,F,e⟩|⟨i,B,j,k,T,F,e⟩:=h
  have:=c.zT g.size j k [] (v.ll++v.lf) _ _ _ T F (T.ne e c.tN (c.bB.lt 8 O)) (λx b=>φ (by
   rw[mg]at b;exact(b9.1 b).elim (kB _) (jK _)))
  unfold Sd.jb;rw[aH (n.2 i)];rw[show s.lost++s.aO=(v.ll++v.lf).map (·.1) by rw[oj,<-H.lost,<-H.aO]];exact this
  .have:=c.zT g.size j k v.lf v.ll _ _ _ T F (T.ne e c.tN (c.bB.lt 8 O)) (λx b=>φ b);unfold Sd.jb;rw[aE (λC=>i (n.1 C))];have e2:({s with tick:=s.tick+1}:Sd)={s with aO:=v.lf.map (·.1),lost:=v.ll.map (·.1),count:=s.count,tick:=s.tick+1,wait:=s.wait}:=by rw[<-H.aO,<-H.lost]
   rw[e2];exact this)
 refine js λR l=>?_
 replace l:=J l;go_enter func129,ntmps129;go_wp2_with fail;apply(Z m).mono;rintro e V⟨rfl,p⟩;go_wp2_with fail;apply(Z y _ p).mono;rintro e K⟨rfl,L⟩;have M:Hid (R K):=J (by rw[Z l];exact Z A _ _ p L);go_wp2_with fail;exact eP (dV Q _ _ _) Q ⟨Q,Z M⟩
def Kh(w:D)(sb:Nat)(aI:Int)(dS:κ w ⟨sb,99,N⟩=E (I X aI))(h:aI≠0):Calls prog 129 #[π (E ⟨sb,0,N⟩)] w λr b=>r=ξ (τ #[])/\G w b N:=by
 have a:=J (pC w sb aI dS);rw[bU h]at a;go_enter func129,ntmps129;go_wp2_with fail;apply(Z a).mono;rintro e d⟨rfl,c⟩;go_wp2_with fail;exact eP (dV Q _ _ _) Q ⟨Q,c⟩
def Ot.gY(o:Ot)(p:Pc):Ot:=
 {o with tE:=o.tE||p.e,tG:=o.tG||p.g,h:=⟨o.h.fr+(dL ⟨o.h.fr,o.h.bytes,eu o.h.af p.x⟩).toNat,o.h.bytes.drop (dL ⟨o.h.fr,o.h.bytes,eu o.h.af p.x⟩).toNat,eu o.h.af p.x⟩}
def eO(out:Nat->Ot)(l:List (Int×Pc)):Nat->Ot:=l.foldl (λo x=>aB o x.1.toNat ((o x.1.toNat).gY x.2)) out
def Km(out:Nat->Ot)(l:List (Int×Pc))(x:Int×Pc):eO out (l++[x])=aB (eO out l) x.1.toNat ((eO out l x.1.toNat).gY x.2):=by
 unfold eO;rw[wU];rfl
def bk.CU(h:bk s)(lo hi:Int)(a:∀m,Sm s m->lo<=m/\m<hi):(s.length:Int)<=max 0 (hi-lo):=by
 induction s generalizing lo with
 |nil=>simp;omega
 |cons r s c=>
  have d:=h.2 r Γ;have e:=a r.lo ((eG r s r.lo).2 (φ ⟨fv _,d⟩));have f:=c h.tail (lo+1) (λm b=>by
   have g:=a m ((eG r s m).2 (ψ b));have i:=h.behind b;omega)
  grind
structure im(o:Ot):Prop where
 ok:bk o.h.af
 lR:∀m,Sm o.h.af m->0<=m/\m<4096
 fr:0<=o.h.fr
 low:∀m,0<=m->m<o.h.fr->Sm o.h.af m
 hole:¬Sm o.h.af o.h.fr
 en:o.en<=4096
def im.cl(h:im H):H.h.af.length<=4096:=by
 have:=h.ok.CU 0 4096 h.lR;omega
def im.nice(h:im H):H.h.nice:=by
 have a:=h.en;have b:=h.fr;have c:=h.cl;unfold Ot.en at a;exact⟨b,O,h.ok,O,O⟩
def CV(h:bk s)(h0:∀m,Sm s m->0<=m)(a:¬(s.length=0\/0<(an s 0).lo)):(an s 0).lo=0/\0<(an s 0).hi/\(∀m,0<=m->m<(an s 0).hi->Sm s m)/\¬Sm s (an s 0).hi:=by
 cases s with
 |nil=>exact absurd (φ Q) a
 |cons r s=>
  have e:an (r::s) 0=r:=rfl;rw[e]at a⊢;have c:=h.2 r Γ;have g:=h0 r.lo ((eG r s r.lo).2 (φ ⟨fv _,c⟩));refine⟨O,O,λm i d=>(eG r s m).2 (φ ⟨O,d⟩),λf=>?_⟩
  obtain b|b:=(eG r s r.hi).1 f
  omega;have:=h.behind b;omega
def CW(h:im H)(hl:bk s)(hs:∀m,Sm H.h.af m->Sm s m)(c:∀m,Sm s m->0<=m/\m<4096):
 0<=dL ⟨H.h.fr,H.h.bytes,s⟩/\H.h.fr+dL ⟨H.h.fr,H.h.bytes,s⟩<=4096/\(∀m,0<=m->m<H.h.fr+dL ⟨H.h.fr,H.h.bytes,s⟩->Sm s m)/\¬Sm s (H.h.fr+dL ⟨H.h.fr,H.h.bytes,s⟩):=by
 unfold dL;by_cases a:s.length=0\/0<(an s 0).lo;rw[aH a];have g:¬Sm s 0:=λd=>by
  cases s with
  |nil=>exact ij 0 d
  |cons r s=>
   obtain a|a:=a
   simp at a;have e:an (r::s) 0=r:=rfl;rw[e]at a;obtain b|b:=(eG r s 0).1 d
   omega;have:=hl.behind b;have:=hl.2 r Γ;omega
 have l:H.h.fr=0:=by
  obtain b|b:=Int.lt_or_eq_of_le h.fr
  exact absurd (hs 0 (h.low 0 (fv _) b)) g;grind
 grind;rw[aE a];let⟨b,n,i,j⟩:=CV hl (λm k=>(c m k).1) a
 have f:H.h.fr<=(an s 0).hi:=by
  by_cases f:(an s 0).hi<H.h.fr;exact absurd (hs _ (h.low _ O f)) j;omega
 have p:=(c ((an s 0).hi-1) (i _ O O)).2;grind
def mr(p:Pc):Prop:=0<=p.x.lo/\0<=p.x.hi/\p.x.lo<=4096/\p.x.hi<=4096
def CX(h:im H){p:Pc}(hp:mr p):∀m,Sm (eu H.h.af p.x) m->0<=m/\m<4096:=λm b=>by
 obtain a|a:=(kJ p.x h.ok m).1 b
 exact h.lR m a;unfold mr at hp;omega
def im.gY(h:im H){p:Pc}(hp:mr p):im (H.gY p):=by
 have a:=oD p.x h.ok;have b:=CX h hp;let⟨g,i,c,j⟩:=CW h a (λm d=>(kJ p.x h.ok m).2 (φ d)) b
 have k:=h.fr;have e:=h.en;unfold Ot.en at e;unfold Ot.gY;refine⟨a,b,by simp only;omega,λm f l=>c m f (by grind),?_,?_⟩
 grind;unfold Ot.en;grind
def zU{out:Nat->Ot}(h:∀k,k<4->im (out k))(l:List (Int×Pc))(hl:∀x∈l,mr x.2):∀k,k<4->im (eO out l k):=by
 induction l generalizing out with
 |nil=>exact h
 |cons x l b=>
  have e:eO out (x::l)=eO (aB out x.1.toNat ((out x.1.toNat).gY x.2)) l:=rfl;rw[e];refine b (λk a=>?_) (λy c=>hl y (by simp[c]));by_cases e:k=x.1.toNat;subst e;rw[bN];exact(h _ a).gY (hl x Γ);rw[bI _ _ e];exact h k a
def Kn(l:w.heap[n]?=E (ο c T (0,0)))(q:il w j c i y z H)(a:im H)(s:j<=w.heap.size)(t:kY w n y z)(p:Pc)(u:p.x.ok)(hp:mr p):
 Calls prog 252 #[π (E ⟨n,i,N⟩),ε (pA p)] w λr d=>r=ξ (τ #[])/\pt w d n T c i j y z (H.gY p)/\G w d (E n):=by
 have v:zE H.h p.x:=λA f _ b=>by
  have e:=xE a.ok f b;subst e;obtain⟨F,K,-⟩:=CW a f (λm B=>(b m).2 (φ B)) (CX a hp);grind
 refine(Kk l q a.nice s t p.x p.e p.g u v (by have:=a.cl;omega)).mono ?_;rintro r d⟨rfl,A,k,L,C,-,b,M,g⟩;have e:=xE a.ok C b;subst e;refine⟨Q,?_,g⟩
 unfold Ot.gY;grind
structure m9(w:D)(base sb Bs:Nat)(cs0:Array υ)(v0:aY)(s:Sd)(acc:List (Int×Pc))(W:D)(cs:Array υ)(ob oc:Nat->υ):Prop where
 aG:W.heap[sb]?=E (ο cs 241 (0,0))
 sz:cs.size=cs0.size
 same:∀i,(i<19\/(55<=i/\i<91)\/96<=i)->cs[i]?=cs0[i]?
 out:∀k,k<4->il W base cs (19+9*k) (ob k) (oc k) (eO s.out acc k)
 sr:∀k,k<4->(ob k).ownBlock=(v0.own k).ownBlock\/∀j,(ob k).ownBlock=E j->w.heap.size<=j
 tP:∀j k,j<4->k<4->j≠k->∀b,(ob j).ownBlock=E b->(ob k).ownBlock≠E b
 tQ:∀k,k<4->oc k=v0.set k\/∀y n c,oc k=Y (E y) n c->w.heap.size<=y.block/\y.block<W.heap.size/\∀j,j<4->(ob j).ownBlock≠E y.block
 size:w.heap.size<=W.heap.size
 box:W.heap[Bs]?=E (ο #[π (E ⟨sb,0,N⟩)] 169 (0,0))
def pD(w:D)(base sb Bs:Nat)(cs0:Array υ)(v0:aY)(s:Sd)(acc:List (Int×Pc))(W:D):Prop:=∃cs ob oc,m9 w base sb Bs cs0 v0 s acc W cs ob oc
section
variable {w:D} {base sb Bs:Nat} {cs0:Array υ} {v0:aY} {s:Sd} {acc:List (Int×Pc)} {W W':D} {cs:Array υ} {ob oc:Nat->υ}
def bF.Ko(H:bF w base sb cs0 v0 s)(a:w.heap[Bs]?=E (ο #[π (E ⟨sb,0,N⟩)] 169 (0,0))):pD w base sb Bs cs0 v0 s [] w:=
 ⟨cs0,v0.own,v0.set,H.aG,Q,λ_ _=>rfl,H.out,λ_ _=>φ Q,λj k c d b=>H.bB.sep j k O O b,λ_ _=>φ Q,aP _,a⟩
def CY(H:bF w base sb cs0 v0 s){k:Nat}(h:FT sb (v0.own 8) (v0.own 9) k):k<w.heap.size:=by
 obtain rfl|h|h:=h
 exact H.bB.jy;exact H.bB.lt 8 O k h;exact H.bB.lt 9 O k h
def pF{sb:Nat}{v0:aY}{k:Nat}(h:FT sb (v0.own 8) (v0.own 9) k):cM sb v0 k:=by
 obtain h|h|h:=h
 exact φ h;exact ψ ⟨8,O,h⟩;exact ψ ⟨9,O,h⟩
def CZ(H:bF w base sb cs0 v0 s){i:Nat}(hi:i<8){k:Nat}(e:(v0.own i).ownBlock=E k):¬FT sb (v0.own 8) (v0.own 9) k:=λh=>by
 obtain rfl|h|h:=h
 exact H.bB.iR i O e;exact H.bB.sep i 8 O O O k e h;exact H.bB.sep i 9 O O O k e h
def m9.xR(H:bF w base sb cs0 v0 s)(h:m9 w base sb Bs cs0 v0 s acc W cs ob oc){k:Nat}(c:k<4){j:Nat}(e:(ob k).ownBlock=E j):¬FT sb (v0.own 8) (v0.own 9) j:=λb=>by
 obtain a|a:=h.sr k c
 rw[a]at e;exact CZ H O e b;have:=a j e;have:=CY H b;omega
def m9.tR(H:bF w base sb cs0 v0 s)(h:m9 w base sb Bs cs0 v0 s acc W cs ob oc){k:Nat}(d:k<4){y:Addr}{n c:Nat}(e:oc k=Y (E y) n c):¬FT sb (v0.own 8) (v0.own 9) y.block/\y.block<W.heap.size:=by
 have f:=h.size;obtain a|a:=h.tQ k d
 rw[a]at e;have:=H.bB.cq k O y n c e;exact⟨λb=>this.1 (pF b),O⟩
 have:=a y n c e;exact⟨λb=>by have:=CY H b;omega,this.2.1⟩
def m9.Kp(H:bF w base sb cs0 v0 s)(h:m9 w base sb Bs cs0 v0 s acc W cs ob oc){k:Nat}(f:k<4){y:Addr}{n c:Nat}(e:oc k=Y (E y) n c)(j:Nat)(d:j<4):(ob j).ownBlock≠E y.block:=λe2=>by
 obtain a|a:=h.tQ k f
 rw[a]at e;have:=H.bB.cq k O y n c e;obtain b|b:=h.sr j d
 rw[b]at e2;exact this.1 (ψ ⟨j,O,e2⟩);have:=b _ e2;omega;exact(a y n c e).2.2 j d e2
def pD.dR(H:bF w base sb cs0 v0 s)(d:¬FT sb (v0.own 8) (v0.own 9) Bs)(h:pD w base sb Bs cs0 v0 s acc W)(C:aj W W' (FT sb (v0.own 8) (v0.own 9)))(f:mq W W' sb 91):pD w base sb Bs cs0 v0 s acc W':=by
 let⟨cs,ob,oc,h⟩:=h
 let⟨g,l,m,hs⟩:=f cs _ h.aG
 refine⟨g,ob,oc,l,m.trans h.sz,λi hi=>(hs i O).trans (h.same i hi),λk a=>(h.out k a).frame C (λi b p=>hs i O) (λj e=>h.xR H a e) (λy n c e=>h.tR H a e),h.sr,h.tP,λk a=>(h.tQ k a).imp id (λb y n c e=>⟨(b y n c e).1,bX (b y n c e).2.1 C.size,(b y n c e).2.2⟩),bG h.size C.size,?_⟩
 exact(C.block Bs (aV.1 h.box).1 d).trans h.box
def m9.apart(H:bF w base sb cs0 v0 s)(h:m9 w base sb Bs cs0 v0 s acc W cs ob oc){k:Nat}(a:k<4):kY W sb (ob k) (oc k):=
 ⟨λe=>h.xR H a e (φ Q),λy n c e=>⟨λe2=>(h.tR H a e).1 (φ e2),h.Kp H a e k a,(h.tR H a e).2⟩⟩
def m9.C0(H:bF w base sb cs0 v0 s)(B:¬FT sb (v0.own 8) (v0.own 9) Bs)(h:m9 w base sb Bs cs0 v0 s acc W cs ob oc){k:Nat}(hk:k<4){p:Pc}(K:pt W W' sb 241 cs (19+9*k) base (ob k) (oc k) ((eO s.out acc k).gY p))(g:G W W' (E sb)):pD w base sb Bs cs0 v0 s (acc++[((k:Int),p)]) W'/\nH W W' sb 91:=by
 let⟨L,l,M,T,P,F⟩:=K
 have C:=(aj.of g).mono (λj _ e=>(aR e).symm);have q:FT sb (v0.own 8) (v0.own 9) sb:=φ Q;have u:∀j,j<4->∀b,(ob j).ownBlock=E b->b<W.heap.size:=λj d b e=>((h.out j d).own.lt b e).2
 have R:=h.size;have r:∀b,l.ownBlock=E b->(ob k).ownBlock=E b\/W.heap.size<=b:=λb e=>by
  obtain a|a:=T.new
  rw[a]at e;exact φ e;grind
 refine⟨⟨L,aB ob k l,aB oc k M,T.aG,T.sz.trans h.sz,λi hi=>(T.out i O).trans (h.same i hi),λj d=>?_,λj d=>?_,λi j hi d t b e1 e2=>?_,λj d=>?_,bG R C.size,?_⟩,?_⟩
 rw[Km];simp only[mf]
 by_cases e:j=k;subst e;simp only[bN];exact P;simp only[bI _ _ e]
 exact(h.out j d).frame C (λi a v=>T.out i O) (λb e e2=>h.xR H d e (e2▸q)) (λy n c e=>⟨λe2=>(h.tR H d e).1 (e2▸q),(h.tR H d e).2⟩);by_cases e:j=k;subst e;rw[bN];obtain a|a:=T.new
 rw[a];exact h.sr j d;grind;rw[bI _ _ e];exact h.sr j d;by_cases f:i=k;have m:j≠k:=O;subst f;rw[bN]at e1;rw[bI _ _ m]at e2;obtain a|a:=r b e1
 exact h.tP i j hi d t b a e2;grind;rw[bI _ _ f]at e1;by_cases m:j=k;subst m;rw[bN]at e2;obtain a|a:=r b e2
 exact h.tP i j hi d t b e1 a;have:=u i hi b e1;omega;rw[bI _ _ m]at e2;exact h.tP i j hi d t b e1 e2;have S:∀y:Addr,y.block<W.heap.size->(∀i,i<4->(ob i).ownBlock≠E y.block)->∀i,i<4->(aB ob k l i).ownBlock≠E y.block:=λy hy x i hi e=>by
  by_cases f:i=k;subst f;rw[bN]at e;obtain a|a:=r _ e
  exact x i hi a;omega;rw[bI _ _ f]at e;exact x i hi e
 have z:∀j,j<4->(oc j=v0.set j\/∀y n c,oc j=Y (E y) n c->w.heap.size<=y.block/\y.block<W'.heap.size/\∀i,i<4->(aB ob k l i).ownBlock≠E y.block):=λj d=>(h.tQ j d).imp id (λa y n c e=>⟨(a y n c e).1,bX (a y n c e).2.1 C.size,S y (a y n c e).2.1 (a y n c e).2.2⟩)
 by_cases e:j=k;subst e;rw[bN];obtain a|a:=F
 rw[a];exact z j d;refine ψ (λy n c e=>?_);let⟨v,V,h4⟩:=a y n c e
 refine⟨O,V,λi hi e2=>?_⟩
 by_cases f:i=j;subst f;rw[bN]at e2;exact h4 e2;rw[bI _ _ f]at e2;have:=u i hi _ e2;omega;rw[bI _ _ e];exact z j d;exact(C.block Bs (aV.1 h.box).1 (λe=>B (e▸q))).trans h.box;intro ao t2 A;rw[h.aG]at A;cases A;exact⟨_,T.aG,T.sz,λi a v=>T.out i O⟩
def pD.whole(H:bF w base sb cs0 v0 s)(b8:¬FT sb (v0.own 8) (v0.own 9) Bs){K m:D}(h:pD w base sb Bs cs0 v0 s acc K)(C3:aj K m (FT sb (v0.own 8) (v0.own 9)))(hS:mq K m sb 91){M:Array υ}{ai P:υ}{u v:List Kt}{count tick wait:Int}(a4:m.heap[sb]?=E (ο M 241 (0,0)))(F:jx m base M 91 ai P u v count tick wait)(C:aj w m (FT sb (v0.own 8) (v0.own 9)))(nf:ai.ownBlock=(v0.own 8).ownBlock)(nl:P.ownBlock=(v0.own 9).ownBlock\/∀k,P.ownBlock=E k->K.heap.size<=k)(hm:∀x∈u++v,x∈v0.lf++v0.ll):
 eH w.heap.size w base sb v0 {s with out:=eO s.out acc,aO:=u.map (·.1),lost:=v.map (·.1),count:=count,tick:=tick,wait:=wait} m:=by
 let⟨ca,ob,oc,p⟩:=id h
 have cc:=p.size;have hz:=C.size;let⟨cf,a9,b4,bb⟩:=hS _ _ p.aG
 rw[a4]at a9;cases a9;have bj:∀k,k<4->il m base M (19+9*k) (ob k) (oc k) (eO s.out acc k):=λk q=>(p.out k q).frame C3 (λi d g=>bb i O) (λj e=>p.xR H q e) (λy n c e=>p.tR H q e)
 have hsame:∀i,(i<19\/(55<=i/\i<91)\/96<=i)->M[i]?=cs0[i]? :=λi hi=>(bb i O).trans (p.same i hi)
 have br:∀k,k<4->∀j,(ob k).ownBlock=E j->j<K.heap.size:=λk q j e=>((p.out k q).own.lt j e).2
 obtain⟨l,al⟩:∃f:Nat->υ,f=λi=>if i<4 then ob i else if i=8 then ai else if i=9 then P else v0.own i:=⟨_,Q⟩
 obtain⟨z,bt⟩:∃f:Nat->υ,f=λi=>if i<4 then oc i else v0.set i:=⟨_,Q⟩
 have A:∀i,i<4->l i=ob i:=λi hi=>by rw[al];simp[hi]
 have R:∀i,4<=i->i<8->l i=v0.own i:=λi d g=>by rw[al];simp only;rw[ê,ê,ê]
 have S:l 8=ai:=by rw[al];simp
 have o9:l 9=P:=by rw[al];simp
 have s4:∀i,i<4->z i=oc i:=λi hi=>by rw[bt];simp[hi]
 have s5:∀i,4<=i->z i=v0.set i:=λi hi=>by rw[bt];simp only;rw[ê]
 have ax:∀i,i<10->i<4\/(4<=i/\i<8)\/i=8\/i=9:=λi hi=>by omega
 have T:∀i,i<10->∀k,(l i).ownBlock=E k->(v0.own i).ownBlock=E k\/w.heap.size<=k:=λi hi k e=>by
  obtain d|d|rfl|rfl:=ax i hi
  rw[A i d]at e;obtain g|g:=p.sr i d
  rw[g]at e;exact φ e;grind;rw[R i d.1 d.2]at e;exact φ e;rw[S,nf]at e;exact φ e;grind
 have a0:∀k,cM sb ⟨l,z,u,v⟩ k->cM sb v0 k\/w.heap.size<=k:=λk b=>by
  obtain b|⟨i,hi,b⟩:=b
  exact φ (φ b);obtain d|d:=T i hi k b
  exact φ (ψ ⟨i,hi,d⟩);grind
 have b5:∀i,i<10->∀k,(l i).ownBlock=E k->k<m.heap.size:=λi hi k e=>by
  obtain d|d|rfl|rfl:=ax i hi
  rw[A i d]at e;exact((bj i d).own.lt k e).2;rw[R i d.1 d.2]at e;exact bX (H.bB.lt i hi k e) hz;rw[S]at e;exact(F.of.lt k e).2;rw[o9]at e;exact(F.ol.lt k e).2
 have bx:∀i,i<9->∀y n c,z i=Y (E y) n c->(¬cM sb ⟨l,z,u,v⟩ y.block/\y.block<m.heap.size)/\(v0.set i=Y (E y) n c\/w.heap.size<=y.block):=λi hi y n c e=>by
  have bz:v0.set i=Y (E y) n c->(¬cM sb ⟨l,z,u,v⟩ y.block/\y.block<m.heap.size)/\(v0.set i=Y (E y) n c\/w.heap.size<=y.block):=λe=>by
   have d:=H.bB.cq i hi y n c e;exact⟨⟨λb=>(a0 _ b).elim d.1 O,O⟩,φ e⟩
  by_cases d:i<4;rw[s4 i d]at e;obtain g|g:=p.tQ i d
  rw[g]at e;exact bz e;have h4:=g y n c e;refine⟨⟨λb=>?_,bX h4.2.1 C3.size⟩,ψ h4.1⟩
  obtain b|⟨j,r,b⟩:=b
  have:=H.bB.jy;omega;simp only at b;obtain t|t|rfl|rfl:=ax j r
  rw[A j t]at b;exact h4.2.2 j t b;rw[R j t.1 t.2]at b;have:=H.bB.lt j r _ b;omega;rw[S,nf]at b;have:=H.bB.lt 8 r _ b;omega;rw[o9]at b;obtain B|B:=nl
  rw[B]at b;have:=H.bB.lt 9 r _ b;omega;have:=B _ b;omega;rw[s5 i O]at e;exact bz e
 have hG:jY m sb ⟨l,z,u,v⟩:=by
  refine⟨bX H.bB.jy hz,b5,λi hi e=>?_,λi j hi r bA k e1 e2=>?_,λi hi y n c e=>(bx i hi y n c e).1,λx hx=>?_⟩
  obtain d|d:=T i hi sb e
  exact H.bB.iR i hi d;have:=H.bB.jy;omega;simp only at e1 e2;obtain d|d:=T i hi k e1
  obtain g|g:=T j r k e2
  exact H.bB.sep i j hi r bA k d g;have:=H.bB.lt i hi k d;omega;obtain g|g:=T j r k e2
  have:=H.bB.lt j r k g;omega
  ·
   have bM:∀i,i<10->(l i).ownBlock=E k->i<4\/(i=9/\K.heap.size<=k):=λi hi e=>by
    obtain t|t|rfl|rfl:=ax i hi
    exact φ t;rw[R i t.1 t.2]at e;have:=H.bB.lt i hi k e;omega;rw[S,nf]at e;have:=H.bB.lt 8 hi k e;omega;rw[o9]at e;obtain B|B:=nl
    rw[B]at e;have:=H.bB.lt 9 hi k e;omega;exact ψ ⟨Q,B k e⟩
   obtain V|⟨V,a2⟩:=bM i hi e1<;>rcases bM j r e2 with b1|⟨b1,b2⟩
   rw[A i V]at e1;rw[A j b1]at e2;exact p.tP i j V b1 bA k e1 e2
   rw[A i V]at e1;have:=br i V k e1;omega
   rw[A j b1]at e2;have:=br j b1 k e2;omega
   omega
  let⟨a,n,c,e,hp,W⟩:=H.bB.iG x (hm x hx)
  exact⟨a,n,c,e,hp.dR (λ_ y L=>C.block _ (W y L).2 (λht=>(W y L).1 (pF ht))),λy L=>⟨λb=>(a0 _ b).elim (W y L).1 (by have:=(W y L).2;omega),bX (W y L).2 hz⟩⟩
 refine⟨M,⟨l,z,u,v⟩,⟨a4,b4.trans (p.sz.trans H.sz),(hsame 0 O).trans H.c0,(hsame 1 O).trans H.c1,λi hi=>(hsame _ O).trans (H.key i hi),(hsame 18 O).trans H.fI,λk q=>?_,λk q=>?_,?_,Q,Q,?_,?_,(hsame 97 O).trans H.pY,(hsame 98 O).trans H.lQ,(hsame 99 O).trans H.dS,(hsame 100 O).trans H.qF,hG,bG H.bl hz⟩,⟨C.mono (λk _ b=>pF b),a0,λk b=>?_⟩⟩
 simp only;rw[A k q,s4 k q];exact bj k q;simp only;rw[R (4+k) O O,s5 (4+k) O];exact(H.aF k q).frame C (λi d g=>hsame i O) (λj e=>CZ H O e) (λy n c e=>⟨λb=>(H.bB.cq _ O y n c e).1 (pF b),(H.bB.cq _ O y n c e).2⟩);simp only;rw[S,o9];exact F;simp only;rw[s5 8 O];exact(hsame 96 O).trans H.py;simp only;rw[s5 8 O];exact qD H.pB C (λy n c e=>⟨λb=>(H.bB.cq 8 O y n c e).1 (pF b),(H.bB.cq 8 O y n c e).2⟩);obtain b|⟨i,y,n,c,hi,e,rfl⟩|⟨x,hx,y,n,c,e,rfl⟩:=b
 exact(a0 k b).imp φ id;obtain d|d:=(bx i hi y n c e).2
 exact φ (ψ (φ ⟨i,y,n,c,hi,d,Q⟩));exact ψ d;exact φ (ψ (ψ ⟨x,hm x hx,y,n,c,e,Q⟩))
end
section
variable {w:D} {base sb Bs:Nat} {cs0:Array υ} {v0:aY} {s:Sd} {acc:List (Int×Pc)} {W W':D} {cs:Array υ} {ob oc:Nat->υ}
def m9.ag(h:m9 w base sb Bs cs0 v0 s acc W cs ob oc)(g:G W W' N):m9 w base sb Bs cs0 v0 s acc W' cs ob oc:=
 ⟨bp h.aG g,h.sz,h.same,λk a=>(h.out k a).ag g,h.sr,h.tP,λk a=>(h.tQ k a).imp id (λb y n c e=>⟨(b y n c e).1,bX (b y n c e).2.1 g.size,(b y n c e).2.2⟩),bG h.size g.size,bp h.box g⟩
end
def pH{w:D}{p:Addr}{v:υ}{sb:Nat}(h:κ w p=E v)(a:p.block≠sb):∀W,G w W (E sb)->κ W p=E v:=λ_ g=>g.cell h (λe=>a (aR e))
def nH.pre{W a W':D}{sb b:Nat}{cs:Array υ}{t:TypeId}(e:W.heap[sb]?=E (ο cs t (0,0)))(g:G W a N)(h:nH a W' sb b):nH W W' sb b:=λc t2 d=>h c t2 (bp d g)
def K3(w:D)(base sb Bs:Nat)(cs0:Array υ)(v0:aY)(s:Sd)(H:bF w base sb cs0 v0 s)(l:¬FT sb (v0.own 8) (v0.own 9) Bs)(acc:List (Int×Pc))(W:D)(h:pD w base sb Bs cs0 v0 s acc W)(v:∀k,k<4->im (eO s.out acc k))(k:Nat)(b:k<4)(p:Pc)(S:p.x.ok)(hp:mr p):
 Calls prog 251 #[I X k,ε (pA p),π (E ⟨Bs,0,N⟩)] W λe W'=>e=ξ (τ #[])/\pD w base sb Bs cs0 v0 s (acc++[((k:Int),p)]) W'/\G W W' (E sb)/\nH W W' sb 91:=by
 obtain⟨cs,ob,oc,h⟩:=h;have T:base<=W.heap.size:=bG H.bl h.size;have m:=J (λa(g:G W a N)=>(Kn (h.ag g).aG ((h.ag g).out k b) (v k b) (bG T g.size) ((h.ag g).apart H b) p S hp));have n:=J (λa c(g:G W a N)(d:pt a c sb 241 cs (19+9*k) base (ob k) (oc k) ((eO s.out acc k).gY p))(q:G a c (E sb))=>(show pD w base sb Bs cs0 v0 s (acc++[((k:Int),p)]) c/\G W c (E sb)/\nH W c sb 91 from⟨((h.ag g).C0 H l b d q).1,aq (cK g _) q,nH.pre h.aG g ((h.ag g).C0 H l b d q).2⟩));have V:=(qI h.box).1;rw[<-qG]at m n;have i1:(k:Int)<4:=O;have d1:decide ((k:Int)<4)=ρ:=bU i1;refine js λR r=>?_
 replace⟨r,h,H⟩:=cA r h H;clear v;obtain⟨oA,y⟩:=í ((eO s.out acc k).gY p);rw[<-y]at m n;clear y;obtain⟨⟨z,A⟩,B,C⟩:=p;unfold pA at *;simp only at *;obtain⟨a,f⟩:=í (W.alloc (ο #[I U z,I U A,β B,β C] 377));have t:G W a N:=by rw[f];exact aC _ _ _
 have u:a.heap[W.heap.size]?=E (ο #[I U z,I U A,β B,β C] 377 (0,0)):=by rw[f];exact aM _ _
 have i:W.heap.size≠sb:=by have:=(aV.1 (Z h).aG).1;omega
 have ak:Bs≠sb:=λe=>l (φ e)
 have a2:=pH (sb:=sb) (ì t V) ak;obtain⟨F,K,L,M⟩:=qJ u;replace F:=pH (sb:=sb) F i;replace K:=pH (sb:=sb) K i;replace L:=pH (sb:=sb) L i;replace M:=pH (sb:=sb) M i;replace u:=J u;have j:G a a.drew N:=aK (au _ N);go_enter func251,ntmps251;go_upto_region 1 with fail;rw[<-f];clear f;go_region_held3 (λw'=>G a w' (E sb))
  (with_reducible first|exact ao|exact cK j _)
  (first|(go_at_call 252;apply(Z m _ (aq t j)).mono;rintro e w5⟨rfl,d,P⟩;have ao:=aq (cK j (E sb)) P;have a0:Hid (R w5):=J (by rw[Z r];exact Z n _ _ (aq t j) d P);clear d))
 go_wp2_with fail;exact eP (dV Q _ _ _) Q ⟨Q,Z a0⟩
def nh(o:Ot)(p:Pc):Bool:=(decide (p.x.hi<=p.x.lo)||o.h.af.any (λr=>decide (r.lo<=p.x.lo)&&decide (p.x.hi<=r.hi)))&&(((o.uE&& !p.e)==o.uE)&&((o.uG&& !p.g)==o.uG))
def Dz(o:Ot)(p:Pc):nh o p=ρ↔vs o p.x p.e p.g:=by
 unfold nh vs;simp only[uP,Bool.or_eq_true,wP,tu,beq_iff_eq]
def K4(W:D)(K sb j:Nat)(l:Array υ)(t:TypeId)(L vc:υ)(o:Ot)(k:Nat)(hk:k<4)(b:W.heap[sb]?=E (ο l t (0,0)))(H:il W K l (19+9*k) L vc o)(M:o.h.nice)(P:κ W ⟨j,0,N⟩=E (π (E ⟨sb,0,N⟩)))(p:Pc):
 Calls prog 255 #[I X k,ε (pA p),π (E ⟨j,0,N⟩)] W λe R=>e=ξ (β (nh o p))/\G W R N:=by
 obtain⟨ab,S,cb,ac,nc,T,rfl,rfl⟩:=H.oE;have m:=J (λa(g:G W a _)=>Jg a sb _ ab S cb ac nc T o ((H.ag g).hd (bp b g) M) ((H.ag g).tail (bp b g)) p.x p.e p.g);rw[<-qG]at m;have V:(k:Int)<4:=O;have d1:decide ((k:Int)<4)=ρ:=bU V;have n:=J (Dz o p);obtain⟨q,r⟩:=í (nh o p);rw[<-r]at n⊢;clear r;let⟨⟨s,u⟩,v,w⟩:=p
 unfold pA at *;simp only at *;obtain⟨a,c⟩:=í (W.alloc (ο #[I U s,I U u,β v,β w] 377));have d:G W a N:=by rw[c];exact aC _ _ _
 have f:a.heap[W.heap.size]?=E (ο #[I U s,I U u,β v,β w] 377 (0,0)):=by rw[c];exact aM _ _
 have ao:=kc (ì d P);let⟨y,z,A,B⟩:=qJ f
 replace y:=kc y;replace z:=kc z;replace A:=kc A;replace B:=kc B;replace⟨f,b,H⟩:=cA f b H;have i:G a a.drew N:=aK (au _ _);go_enter func255,ntmps255;go_upto_region 1 with fail;rw[<-c];clear c;go_region_held3 (λw'=>G a w' N)
  (with_reducible first|exact C|exact i)
  (first|(go_at_call 256;apply(Z m _ (aq d i)).mono;rintro e w5⟨F,g5⟩;obtain rfl:=tM F (Z n);have C:=aq i g5;clear F))
 go_wp2;go_ret;exact⟨Q,aq d C⟩
def oG(q:Pk->Bool)(l:List Pk):List (Int×Pc):=l.flatMap (λx=>if q x then x.ps.map (λp=>(x.st,p))else[])
def DA(q:Pk->Bool)(l:List Kt):mn (λx=>q x.1) l=oG q (l.map (·.1)):=by
 unfold mn oG;rw[List.flatMap_map]
def tU(q:Pk->Bool)(l:List Kt):(l.filter (λx=>q x.1)).map (·.1)=(l.map (·.1)).filter q:=by
 induction l with
 |nil=>rfl
 |cons x l a=>
  simp only[List.filter_cons,kD]
  split<;>simp_all
def K6(q:Pk->Bool)(l:List Kt):l.any (λx=>q x.1)=(l.map (·.1)).any q:=by rw[List.any_map];rfl
def Sd.fN(s:Sd)(l:List Rg):Sd:=
 {s with out:=eO s.out (oG (λx=>bK l x.num) s.aO++oG (λx=>bK l x.num) s.lost),aO:=(s.aO.filter (λx=> !bK l x.num)).filter (λx=> !decide (x.num+3<=(an l 0).hi)),lost:=s.lost.filter (λx=> !bK l x.num)++(s.aO.filter (λx=> !bK l x.num)).filter (λx=>decide (x.num+3<=(an l 0).hi)),wait:=if s.aO.any (λx=>bK l x.num)then 4 else s.wait}
def Sd.forget(s:Sd):Sd:={s with lost:=s.lost.filter (λx=> !x.ps.all (nh (s.out x.st.toNat)))}
def Sd.dW(s:Sd)(l:List Rg):Sd:=(s.fN l).forget
structure ni(s:Sd):Prop where
 out:∀k,k<4->im (s.out k)
 pk:∀x∈s.aO++s.lost,0<=x.st/\x.st<4/\∀p∈x.ps,mr p
 num:∀x∈s.aO,0<=x.num/\x.num<=4611686018427387000
def DB{q:Pk->Bool}{l:List Pk}{y:Int×Pc}(h:y∈oG q l):∃x∈l,y.1=x.st/\y.2∈x.ps:=by
 unfold oG at h;let⟨x,b,a⟩:=List.mem_flatMap.1 h
 split at a;obtain⟨p,hp,rfl⟩:=fu.1 a;exact⟨x,b,Q,hp⟩
 cases a
def ni.fN(h:ni d)(l:List Rg):ni (d.fN l):=by
 refine⟨zU h.out _ (λy b=>?_),λx a=>?_,λx a=>?_⟩
 obtain b|b:=b9.1 b
 obtain⟨x,a,-,c⟩:=DB b;exact(h.pk x (jK _ a)).2.2 _ c;obtain⟨x,a,-,c⟩:=DB b;exact(h.pk x (kB _ a)).2.2 _ c;unfold Sd.fN at a;simp only[b9,jV]at a;refine h.pk x (b9.2 ?_);obtain a|a|a:=a
 exact φ a.1.1;exact ψ a.1;exact φ a.1.1;unfold Sd.fN at a;simp only[jV]at a;exact h.num x a.1.1
def K9(H:bF w k i C F d){x:Kt}(b:x∈F.lf++F.ll){p:Pc}(hp:p∈x.1.ps):p.x.ok:=by
 obtain⟨a,n,c,-,h,-⟩:=H.bB.iG x b;exact h.1 p hp
def ni.kt(h:ni d)(H:bF w n k c F d){x:Kt}(a:x∈F.lf++F.ll):0<=x.1.st/\x.1.st<4/\∀p∈x.1.ps,mr p:=by
 apply h.pk _;rw[H.aO,H.lost,<-oj];exact qq a
def La(w:D)(g sb d:Nat)(a:Array υ)(v:aY)(s:Sd)(H:bF w g sb a v s)(hp:ni s)(u:w.heap[d]?=E (ο #[π (E ⟨sb,0,N⟩)] 169 (0,0)))(F:¬cM sb v d):
 Calls prog 254 #[π (E ⟨sb,91,N⟩),.func (.func 255) #[] #[π (E ⟨d,0,N⟩)]] w λe r=>e=ξ (τ #[])/\eH w.heap.size w g sb v s.forget r:=by
 have l:=H.tN;refine(J3 w sb 91 g a 241 _ _ v.lf v.ll s.count s.tick s.wait H.aG H.fl l (cM sb v) (λk m=>pF m) (H.bB.iG.sub (λx b=>kB _ b)) 255 #[π (E ⟨d,0,N⟩)] (λst p=>nh (s.out st.toNat) p) (enters_of func255 Φ Q) (λW x p C b R=>?_)).mono ?_;obtain⟨S,T,-⟩:=hp.kt H (kB _ b);have m:x.1.st.toNat<4:=O;have e:x.1.st=((x.1.st.toNat:Nat):Int):=O;have A:∀j,(v.own 9).ownBlock=E j->cM sb v j:=λj e=>ψ ⟨9,O,e⟩
 have K:=(C.block sb H.bB.jy (λe=>l.2.1 e)).trans H.aG;have t:=(H.out _ m).frame C (cs':=a) (λ_ _ _=>rfl) (λj e1 e2=>H.bB.sep _ 9 O O O j e1 e2) (λy n c e1=>⟨λe2=>(H.bB.cq _ O y n c e1).1 (A _ e2),(H.bB.cq _ O y n c e1).2⟩);have L:=(C.block d (aV.1 u).1 (λe=>F (A _ e))).trans u;have:=K4 W g sb d a 241 _ _ _ _ m K t (hp.out _ m).nice (qI L).1 p;rw[<-e]at this;exact this;rintro e r⟨rfl,f,M,t,B,C⟩;refine⟨Q,?_⟩
 have z:(95:Nat)<a.size:=by rw[H.sz];omega
 have q:∀i,i≠95->(a.setIfInBounds (91+4) f)[i]?=a[i]? :=λi h=>bH
 have P:sn w r sb 241 a (a.setIfInBounds (91+4) f) 91 (v.own 8) (v.own 9) (v.own 8) f:=⟨M,Γ,λi hi=>q i O,C.mono (λk _ h=>h.elim φ (λh=>ψ (ψ h))),φ Q,φ B⟩
 have hF:jx r g (a.setIfInBounds (91+4) f) 91 (v.own 8) f v.lf (v.ll.filter (λx=> !x.1.ps.all (nh (s.out x.1.st.toNat)))) s.count s.tick s.wait:=
  ⟨(q _ O).trans H.fl.c0,(q _ O).trans H.fl.c1,(q _ O).trans H.fl.c2,(q _ O).trans H.fl.c3,cU,H.fl.of.aA C (λj e h=>h.elim (λh=>l.1 (h▸e)) (λh=>l.2.2 j e h)),t⟩
 have:=H.zT (aP _) (v.own 8) f v.lf _ _ _ _ P hF (λk e=>by rw[B];exact l.2.2 k e) (λx b=>φ (by
  obtain b|b:=b9.1 b
  exact jK _ b
  .exact kB _ (jV.1 b).1))
 have e2:({s with aO:=v.lf.map (·.1),lost:=(v.ll.filter (λx=> !x.1.ps.all (nh (s.out x.1.st.toNat)))).map (·.1),count:=s.count,tick:=s.tick,wait:=s.wait}:Sd)=s.forget:=by
  unfold Sd.forget;rw[tU (λx=> !x.ps.all (nh (s.out x.st.toNat))),<-H.aO,<-H.lost]
 rw[<-e2];exact this
def xX(w:D)(b sb:Nat)(v:aY)(s:Sd)(l:List Rg)(e:Ending)(a:D):Prop:=
 (s.count<=(an l 0).hi/\e=ξ (cF 8)/\G w a N)\/((an l 0).hi<s.count/\e=ξ .nilIface/\eH w.heap.size w b sb v (s.dW l) a)
def Lb(w:D)(f sb c:Nat)(i:Array υ)(v:aY)(s:Sd)(H:bF w f sb i v s)(hp:ni s)(ak:s.aO.length<=1000000/\s.lost.length<=40000000)(B:w.heap[c]?=E (ο #[π (E ⟨sb,0,N⟩)] 169 (0,0)))(K:¬cM sb v c)(a:Option Addr)(n q:Nat)(l:List Rg)(hs:bq w a n q l)(hl:0<l.length)(u:∀y,a=E y->¬cM sb v y.block/\y.block<w.heap.size):
 Calls prog 253 #[π (E ⟨sb,91,N⟩),Y a n q,.func (.func 251) #[] #[π (E ⟨c,0,N⟩)]] w λe j=>(s.count<=(an l 0).hi/\e=ξ (.iface 34 (I X 8))/\G w j N)\/((an l 0).hi<s.count/\e=ξ .nilIface/\eH w.heap.size w f sb v (s.fN l) j/\aj w j (FT sb (v.own 8) (v.own 9))):=by
 have al:v.lf.length=s.aO.length:=by have:=fR List.length H.aO;rw[fF]at this;exact this.symm
 have ao:v.ll.length=s.lost.length:=by have:=fR List.length H.lost;rw[fF]at this;exact this.symm
 have r:¬FT sb (v.own 8) (v.own 9) c:=λh=>K (pF h)
 refine(J0 w sb 91 f i 241 _ _ v.lf v.ll s.count s.tick s.wait H.aG H.fl H.bl H.tN O (cM sb v) (λk t=>pF t) H.bB.iG a n q l hs hl (λy z=>⟨λh=>(u y z).1 (pF h),(u y z).2⟩) (λx b=>by
  have:=hp.num x.1 (by rw[H.aO];exact qq b);omega) 251 #[π (E ⟨c,0,N⟩)] (enters_of func251 Φ Q)
  (λd W=>pD w f sb c i v s d W/\∀y∈d,mr y.2) ⟨H.Ko B,λy L=>(by cases L)⟩ (λW W' d h C M=>⟨h.1.dR H r C M,h.2⟩) (λW d x p h b A a0=>?_)).mono ?_
 let⟨m,h2,P⟩:=hp.kt H b
 have t:x.1.st.toNat<4:=O;have e:x.1.st=((x.1.st.toNat:Nat):Int):=O;have:=K3 w f sb c i v s H r d W h.1 (zU hp.out d h.2) _ t p (K9 H b A) (P p A);grind;rintro e j(⟨m,rfl,g⟩|⟨m,rfl,a2,a3,a4,R,F,⟨W3,S,T,V,ai⟩,C,nf,nl⟩);exact φ ⟨m,Q,g⟩;refine ψ ⟨m,Q,?_,C⟩;have:=S.1.whole H r T V R F C nf ai (λx b=>by
  simp only[b9,jV]at b;apply b9.2;obtain b|b|b:=b
  exact φ b.1.1;simp_all
  .exact φ b.1.1)
 have e2:({s with out:=eO s.out (mn (λx=>bK l x.1.num) v.lf++mn (λx=>bK l x.1.num) v.ll),aO:=((v.lf.filter (λx=> !bK l x.1.num)).filter (λx=> !decide (x.1.num+3<=(an l 0).hi))).map (·.1),lost:=(v.ll.filter (λx=> !bK l x.1.num)++(v.lf.filter (λx=> !bK l x.1.num)).filter (λx=>decide (x.1.num+3<=(an l 0).hi))).map (·.1),count:=s.count,tick:=s.tick,wait:=(if v.lf.any (λx=>bK l x.1.num)then 4 else s.wait)}:Sd)=s.fN l:=by
  unfold Sd.fN;rw[DA (λx=>bK l x.num),DA (λx=>bK l x.num),oj,tU (λx=> !decide (x.num+3<=(an l 0).hi)),tU (λx=> !bK l x.num) v.lf,tU (λx=>decide (x.num+3<=(an l 0).hi)),tU (λx=> !bK l x.num) v.lf,tU (λx=> !bK l x.num) v.ll,K6 (λx=>bK l x.num),<-H.aO,<-H.lost]
 grind
def Lc(w:D)(x sb:Nat)(cs:Array υ)(v:aY)(s:Sd)(H:bF w x sb cs v s)(hp:ni s)(a8:s.aO.length<=1000000/\s.lost.length<=40000000)(f:Fr)(a:Option Addr)(n c:Nat)(hs:bq w a n c f.ranges)(hl:0<f.ranges.length)(z:∀y,a=E y->¬cM sb v y.block/\y.block<w.heap.size):
 Calls prog 217 #[π (E ⟨sb,0,N⟩),ε (bC f (Y a n c))] w (xX w x sb v s f.ranges):=by
 refine fL λR q=>?_
 replace q:=J q;obtain⟨k,r⟩:=í (w.alloc (ο #[π (E ⟨sb,0,N⟩)] 169));have g1:G w k N:=by rw[r];exact aC _ _ _
 have C:k.heap[w.heap.size]?=E (ο #[π (E ⟨sb,0,N⟩)] 169 (0,0)):=by rw[r];exact aM _ _
 obtain⟨d,t⟩:=í (k.alloc (ο (bC f (Y a n c)) 158));have g2:G k d N:=by rw[t];exact aC _ _ _
 have A:d.heap[k.heap.size]?=E (ο (bC f (Y a n c)) 158 (0,0)):=by rw[t];exact aM _ _
 have l:=aK (aq g1 g2);have F:¬cM sb v w.heap.size:=λh=>by have:=qE H.bB h;omega
 have m:=bp C (aK g2);have K:=J (Lb _ _ sb _ cs v s (H.ag l) hp a8 m F a n _ _ (hs.ag l) hl (λy ey=>⟨(z y ey).1,bX (z y ey).2 l.size⟩));have b4:¬FT sb (v.own 8) (v.own 9) w.heap.size:=λh=>F (pF h)
 have a2:=J (λL bb M(S3:bF L x sb bb M (s.fN f.ranges))(br:L.heap[w.heap.size]?=E _)(bt:¬cM sb M _)=>La L _ sb _ _ M _ S3 (hp.fN _) br bt);have P:d.drew.cell? ⟨k.heap.size,6,N⟩=E (Y a n c):=(bQ (w:=d) (by unfold bC at A;exact A)).2.2.2.2.2.2;have b5:k.heap.size=w.heap.size+1:=by rw[r];simp
 have gr:G d d.drew N:=aK (au _ _);replace⟨H,hp,C,A,m,hs,z⟩:=mX H hp C A m hs z;let⟨kind,stream,offset,code,fin,data,ranges⟩:=f
 unfold bC at *;simp only at *;rw[r]at t P;rw[dJ]at P;obtain⟨rl,bw⟩:=í ranges;rw[<-bw]at K a2 q;go_enter func217,ntmps217;go_upto_region 2 with fail;rw[<-t];clear t r;have S:∀j,w.heap.size<=j->¬FT sb (v.own 8) (v.own 9) j:=λj hj h=>by have:=qE (Z H).bB (pF h);omega
 have p:d.drew.cell? ⟨w.heap.size,0,N⟩=E (π (E ⟨sb,0,N⟩))/\d.drew.cell? ⟨w.heap.size+1,6,N⟩=E (Y a n c):=⟨((qI m).1),P⟩
 by_cases a3:s.count<=(an rl 0).hi
 .have T:=J ((Z K).mono (λe b h=>(show e=ξ (.iface 34 (I X 8))/\d.drew.grownBy b N from h.elim (λh=>h.2) (λh=>by have:=h.1;omega))));have V:=J (λb(g:d.drew.grownBy b N)=>(show R (ξ (.iface 34 (I X 8))) b by rw[Z q];exact φ ⟨a3,Q,aq l g⟩));go_region_held3 (λb=>κ b ⟨w.heap.size,0,N⟩=E (π (E ⟨sb,0,N⟩))/\κ b ⟨w.heap.size+1,6,N⟩=E (Y a n c))
   (with_reducible first|exact B|exact p)
   (first|(go_at_call 253;apply(Z T).mono;rintro e i⟨rfl,W⟩;have B:κ i ⟨w.heap.size,0,N⟩=E (π (E ⟨sb,0,N⟩))/\κ i ⟨w.heap.size+1,6,N⟩=E (Y a n c):=⟨ì W p.1,ì W p.2⟩;have bx:=J (Z V _ W)))
  go_wp2_with fail;exact Z bx
 have T:=J ((Z K).mono (λe b h=>(show e=ξ _/\eH _ _ _ sb v _ b/\aj _ b _ from h.elim (λh=>absurd h.1 a3) (λh=>h.2))));go_region_held3 (λb=>κ b ⟨w.heap.size,0,N⟩=E (π (E ⟨sb,0,N⟩))/\κ b ⟨w.heap.size+1,6,N⟩=E (Y a n c))
  (with_reducible first|exact B|exact p)
  (first|(go_at_call 253;apply(Z T).mono;rintro e i⟨rfl,ai,u⟩;have B:κ i ⟨w.heap.size,0,N⟩=E (π (E ⟨sb,0,N⟩))/\κ i ⟨w.heap.size+1,6,N⟩=E (Y a n c):=⟨u.cell p.1 (S _ (aP _)),u.cell p.2 (S _ Γ)⟩;have bz:=J ((u.block w.heap.size (aV.1 (Z m)).1 (S _ (aP _))).trans (Z m));replace ai:=J ai;replace u:=J u))
 let⟨bA,v5,S5,ao⟩:=Z ai
 have bM:¬cM sb v5 w.heap.size:=λh=>by
  have b8:=(aV.1 (Z m)).1;obtain h1|h1:=ao.ft _ h
  exact F h1;omega
 have V:=J (λb(h:eH i.heap.size i x sb v5 (s.fN rl).forget b)=>(show R (ξ .nilIface) b by
  rw[Z q];refine ψ ⟨O,Q,?_⟩;exact eH.pre ((dz.ag l).trans (ao.mono l.size)) (h.mono (bG l.size ao.aA.size))))
 have ca:=B.1;replace S5:=J S5;go_wp2_with fail;apply(Z (J (Z a2 i bA v5 S5 (Z bz) bM))).mono;rintro e w6⟨rfl,h6⟩;go_wp2_with fail;exact Z (J (Z V _ h6))
def Sd.take(s:Sd)(f:Fr):Int×Sd:=
 if f.kind=3 then(if s.count<=(an f.ranges 0).hi then(8,s)else(0,s.dW f.ranges))
 else if f.kind=4 then(if(s.aF f.stream.toNat).iO f.offset then(7,s)else(0,{s with aF:=aB s.aF f.stream.toNat ((s.aF f.stream.toNat).reset f)}))
 else if f.kind=5 then(if(s.aF f.stream.toNat).bad f then(7,s)else(0,{s with aF:=aB s.aF f.stream.toNat ((s.aF f.stream.toNat).data f)}))
 else if f.kind=6 then(10,s)else(0,s)
def lT(w:D)(a sb:Nat)(v:aY)(r:Int×Sd)(e:Ending)(b:D):Prop:=e=ξ (cF r.1)/\eH w.heap.size w a sb v r.2 b
def Le(w:D)(a sb k:Nat)(c:Array υ)(v:aY)(s:Sd)(H:bF w a sb c v s)(b:k<4)(f:Fr)(d:υ):
 Calls prog 218 #[π (E ⟨sb,55+k*9,N⟩),ε (bC f d)] w (lT w a sb v (if(s.aF k).iO f.offset then(7,s)else(0,{s with aF:=aB s.aF k ((s.aF k).reset f)}))):=by
 rw[vC];apply(Jq w sb (55+9*k) a c _ _ _ _ H.aG (H.aF k b) (H.zQ k b) f d).mono;rintro r i(⟨h,rfl,g⟩|⟨h,rfl,e⟩);rw[h];exact⟨Q,H.to g⟩
 rw[h];exact⟨Q,H.zR k b _ e⟩
def Lf(w:D)(a sb k:Nat)(c:Array υ)(v:aY)(s:Sd)(H:bF w a sb c v s)(b:k<4)(f:Fr)(d:υ)(e:(s.aF k).h.nice)(i:0<=f.offset)(hs:bm f<=4611686018427387903)(j:(s.aF k).given=θ->∀m,f.offset<=m->m<bm f->¬Sm (s.aF k).h.af m->(s.aF k).h.fr<=m/\m<(s.aF k).h.fr+900000):
 Calls prog 219 #[π (E ⟨sb,55+k*9,N⟩),ε (bC f d)] w (lT w a sb v (if(s.aF k).bad f then(7,s)else(0,{s with aF:=aB s.aF k ((s.aF k).data f)}))):=by
 rw[vC];apply(Jn w sb (55+9*k) a c _ _ _ _ H.aG (H.aF k b) e H.bl (H.zQ k b) f d i hs j).mono;rintro r n(⟨h,rfl,g⟩|⟨h,rfl,l⟩);rw[h];exact⟨Q,H.to g⟩
 rw[h];exact⟨Q,H.zR k b _ l⟩
def lT.pre{r:Int×Sd}{e:Ending}(g:G w W N)(h:lT W n k F r e V):lT w n k F r e V:=⟨h.1,eH.pre (dz.ag g) (h.2.mono g.size)⟩
def lT.aA{r:Int×Sd}{e:Ending}(h:lT w n k F r e W):aj w W (cM k F):=by
 obtain⟨-,b,c,-,a⟩:=h;exact a.aA
def xX.tk{l:List Rg}{e:Ending}(H:bF w n k c F d)(h:xX w n k F d l e W):lT w n k F (if d.count<=(an l 0).hi then(8,d)else(0,d.dW l)) e W:=by
 obtain⟨a,rfl,g⟩|⟨a,rfl,b⟩:=h
 rw[aH a];exact⟨Q,H.to g⟩
 rw[ê];exact⟨Q,b⟩
structure DC(s:Sd)(f:Fr):Prop where
 st:0<=f.stream/\f.stream<4
 rg:f.kind=3->0<f.ranges.length
 off:0<=f.offset
 en:f.kind=5->bm f<=4611686018427387903
 nice:(s.aF f.stream.toNat).h.nice
 lo:f.kind=5->(s.aF f.stream.toNat).given=θ->∀m,f.offset<=m->m<bm f->¬Sm (s.aF f.stream.toNat).h.af m->(s.aF f.stream.toNat).h.fr<=m/\m<(s.aF f.stream.toNat).h.fr+900000
def Lg(w:D)(u sb:Nat)(cs:Array υ)(v:aY)(s:Sd)(H:bF w u sb cs v s)(hp:ni s)(bx:s.aO.length<=1000000/\s.lost.length<=40000000)(f:Fr)(a:Option Addr)(n b:Nat)(hs:bq w a n b f.ranges)(a1:f.ranges≠[]->∀y,a=E y->¬cM sb v y.block/\y.block<w.heap.size)(x:DC s f):
 Calls prog 166 #[π (E ⟨sb,0,N⟩),ε (bC f (Y a n b))] w (lT w u sb v (s.take f)):=by
 refine fL λR c=>?_
 obtain⟨k,hk,z⟩:∃k:Nat,k<4/\f.stream=(k:Int):=⟨f.stream.toNat,by have:=x.st;omega,by have:=x.st;omega⟩
 have j:f.stream.toNat=k:=O;obtain⟨l,m⟩:=í (w.alloc (ο (bC f (Y a n b)) 158));have C:G w l N:=by rw[m];exact aC _ _ _
 have i:l.heap[w.heap.size]?=E (ο (bC f (Y a n b)) 158 (0,0)):=by rw[m];exact aM _ _
 have S:=J (λW(g:G w W N)(hl:0<f.ranges.length)=>(Lc W u sb cs v s (H.ag g) hp bx f a n b (hs.ag g) hl (λy ey=>⟨(a1 (qt.1 hl) y ey).1,bX (a1 (qt.1 hl) y ey).2 g.size⟩)).mono (λe K h=>lT.pre g (xX.tk (H.ag g) h)));have T:=J (λW(g:G w W N)=>Le W u sb k cs v s (H.ag g) hk f (Y a n b));have V:=J (λW(g:G w W N)(d:f.kind=5)=>Lf W u sb k cs v s (H.ag g) hk f (Y a n b) (by rw[<-j];exact x.nice) x.off (x.en d) (by rw[<-j];exact x.lo d));have L:=J (λW(g:G w W N)(e:Int)=>(show lT w u sb v (e,s) (ξ (cF e)) W from⟨Q,H.to g⟩));have bj:s.take f=if f.kind=3 then(if s.count<=(an f.ranges 0).hi then(8,s)else(0,s.dW f.ranges))else if f.kind=4 then(if(s.aF k).iO f.offset then(7,s)else(0,{s with aF:=aB s.aF k ((s.aF k).reset f)}))else if f.kind=5 then(if(s.aF k).bad f then(7,s)else(0,{s with aF:=aB s.aF k ((s.aF k).data f)}))else if f.kind=6 then(10,s)else(0,s):=by unfold Sd.take;rw[j]
 rw[bj]at c;have i1:(k:Int)<4:=O;have d1:decide ((k:Int)<4)=ρ:=bU i1;have a2:=x.rg;have ax:¬cM sb v w.heap.size:=λh=>by have:=qE H.bB h;omega
 clear bj hp hs a1 x;replace⟨H,a2⟩:=aT H a2;have gr:G l l.drew N:=aK (au _ N);have br:∀(r:Int×Sd)(e:Ending)(K:D),lT w u sb v r e K->e=ξ (cF r.1):=λr e K h=>h.1
 obtain⟨rr,ak⟩:∃rr:Int×Sd,R=lT w u sb v rr:=⟨_,c⟩
 by_cases t:f.kind=3
 .have A:=J (Z S l C (Z a2 t));rw[aH t]at c;clear T V L S;obtain⟨q,B⟩:∃q:Int×Sd,q=(if s.count<=(an f.ranges 0).hi then(8,s)else(0,s.dW f.ranges)):=⟨_,Q⟩
  rw[<-B]at c A;clear B ak;replace c:=J c;obtain⟨kind,stream,offset,code,fin,data,ranges⟩:=f;unfold bC at *;simp only at *;subst t;let⟨y0,y1,y2,y3,y4,y5,y6⟩:=bQ i
  replace⟨i,z,j⟩:=cA i z j;go_enter func166,ntmps166;go_upto_region 1 with fail;rw[<-m];clear m;go_wp2_with fail;apply(Z A).mono;rintro e w2 h2;obtain rfl:=h2.1;have p:Hid (R (ξ (cF q.1)) w2):=J (by rw[Z c];exact h2);clear h2;generalize cF q.1=ev at *;go_wp2_with fail;exact Z p
 rw[aE t]at c;by_cases M:f.kind=4
 .have A:=J (Z T l.drew (aq C gr));rw[aH M]at c;clear T V L S;obtain⟨q,B⟩:∃q:Int×Sd,q=(if(s.aF k).iO f.offset then(7,s)else(0,{s with aF:=aB s.aF k ((s.aF k).reset f)})):=⟨_,rfl⟩
  rw[<-B]at c A;clear B ak;replace c:=J c;obtain⟨kind,stream,offset,code,fin,data,ranges⟩:=f;unfold bC at *;simp only at *;subst M;subst z;obtain⟨y0,-⟩:=bQ i;obtain⟨F,hF⟩:=í w.heap.size;rw[<-hF]at i ax y0;have P:l.drew.heap[F]?=E (ο #[I X 4,I X k,I U offset,I U code,β fin,ς data,Y a n b] 158 (0,0)):=i;replace⟨i,j⟩:=aT i j;clear t;go_enter func166,ntmps166;go_upto_region 1 with fail;rw[<-m,<-hF];clear m hF;go_upto_region 5 with fail;have k0:∀W:D,W.heap[F]?=E (ο #[I X 4,I X k,I U offset,I U code,β fin,ς data,Y a n b] 158 (0,0))->κ W ⟨F,0,N⟩=E (I X 4):=λW h=>(bQ h).1
  have k1:∀W:D,W.heap[F]?=E (ο #[I X 4,I X k,I U offset,I U code,β fin,ς data,Y a n b] 158 (0,0))->κ W ⟨F,1,N⟩=E (I X k):=λW h=>(bQ h).2.1
  have k2:∀W:D,W.heap[F]?=E (ο #[I X 4,I X k,I U offset,I U code,β fin,ς data,Y a n b] 158 (0,0))->κ W ⟨F,2,N⟩=E (I U offset):=λW h=>(bQ h).2.2.1
  have k3:∀W:D,W.heap[F]?=E (ο #[I X 4,I X k,I U offset,I U code,β fin,ς data,Y a n b] 158 (0,0))->κ W ⟨F,3,N⟩=E (I U code):=λW h=>(bQ h).2.2.2.1
  have k4:∀W:D,W.heap[F]?=E (ο #[I X 4,I X k,I U offset,I U code,β fin,ς data,Y a n b] 158 (0,0))->κ W ⟨F,4,N⟩=E (β fin):=λW h=>(bQ h).2.2.2.2.1
  have k5:∀W:D,W.heap[F]?=E (ο #[I X 4,I X k,I U offset,I U code,β fin,ς data,Y a n b] 158 (0,0))->κ W ⟨F,5,N⟩=E (ς data):=λW h=>(bQ h).2.2.2.2.2.1
  have k6:∀W:D,W.heap[F]?=E (ο #[I X 4,I X k,I U offset,I U code,β fin,ς data,Y a n b] 158 (0,0))->κ W ⟨F,6,N⟩=E (Y a n b):=λW h=>(bQ h).2.2.2.2.2.2
  go_region_held3 (λK=>K.heap[F]?=E (ο #[I X 4,I X k,I U offset,I U code,β fin,ς data,Y a n b] 158 (0,0)))
   (with_reducible first|exact a4|exact P)
   (first|(go_at_call 218;apply(Z A).mono;rintro e w5 d;obtain rfl:=d.1;have a4:=(d.aA.block F (aV.1 P).1 ax).trans P;have p:Hid (R (ξ (cF q.1)) w5):=J (by rw[Z c];exact lT.pre (aq C gr) d);clear d;generalize cF q.1=ev at p⊢))
  go_wp2_with fail;exact Z p
 rw[aE M]at c;by_cases d:f.kind=5
 .have A:=J (Z V l.drew (aq C gr) d);rw[aH d]at c;clear T V L S;obtain⟨q,B⟩:∃q:Int×Sd,q=(if(s.aF k).bad f then(7,s)else(0,{s with aF:=aB s.aF k ((s.aF k).data f)})):=⟨_,rfl⟩
  rw[<-B]at c A;clear B ak;replace c:=J c;obtain⟨kind,stream,offset,code,fin,data,ranges⟩:=f;unfold bC at *;simp only at *;subst d;subst z;obtain⟨y0,-⟩:=bQ i;obtain⟨F,hF⟩:=í w.heap.size;rw[<-hF]at i ax y0;have P:l.drew.heap[F]?=E (ο #[I X 5,I X k,I U offset,I U code,β fin,ς data,Y a n b] 158 (0,0)):=i;replace⟨i,j⟩:=aT i j;clear t M;go_enter func166,ntmps166;go_upto_region 1 with fail;rw[<-m,<-hF];clear m hF;go_upto_region 7 with fail;have k0:∀W:D,W.heap[F]?=E (ο #[I X 5,I X k,I U offset,I U code,β fin,ς data,Y a n b] 158 (0,0))->κ W ⟨F,0,N⟩=E (I X 5):=λW h=>(bQ h).1
  have k1:∀W:D,W.heap[F]?=E (ο #[I X 5,I X k,I U offset,I U code,β fin,ς data,Y a n b] 158 (0,0))->κ W ⟨F,1,N⟩=E (I X k):=λW h=>(bQ h).2.1
  have k2:∀W:D,W.heap[F]?=E (ο #[I X 5,I X k,I U offset,I U code,β fin,ς data,Y a n b] 158 (0,0))->κ W ⟨F,2,N⟩=E (I U offset):=λW h=>(bQ h).2.2.1
  have k3:∀W:D,W.heap[F]?=E (ο #[I X 5,I X k,I U offset,I U code,β fin,ς data,Y a n b] 158 (0,0))->κ W ⟨F,3,N⟩=E (I U code):=λW h=>(bQ h).2.2.2.1
  have k4:∀W:D,W.heap[F]?=E (ο #[I X 5,I X k,I U offset,I U code,β fin,ς data,Y a n b] 158 (0,0))->κ W ⟨F,4,N⟩=E (β fin):=λW h=>(bQ h).2.2.2.2.1
  have k5:∀W:D,W.heap[F]?=E (ο #[I X 5,I X k,I U offset,I U code,β fin,ς data,Y a n b] 158 (0,0))->κ W ⟨F,5,N⟩=E (ς data):=λW h=>(bQ h).2.2.2.2.2.1
  have k6:∀W:D,W.heap[F]?=E (ο #[I X 5,I X k,I U offset,I U code,β fin,ς data,Y a n b] 158 (0,0))->κ W ⟨F,6,N⟩=E (Y a n b):=λW h=>(bQ h).2.2.2.2.2.2
  go_region_held3 (λK=>K.heap[F]?=E (ο #[I X 5,I X k,I U offset,I U code,β fin,ς data,Y a n b] 158 (0,0)))
   (with_reducible first|exact a4|exact P)
   (first|(go_at_call 219;apply(Z A).mono;rintro e w5 d;obtain rfl:=d.1;have a4:=(d.aA.block F (aV.1 P).1 ax).trans P;have p:Hid (R (ξ (cF q.1)) w5):=J (by rw[Z c];exact lT.pre (aq C gr) d);clear d;generalize cF q.1=ev at p⊢))
  go_wp2_with fail;exact Z p
 rw[aE d]at c;by_cases h6:f.kind=6
 .rw[aH h6]at c;have p:Hid (R (ξ (.iface 34 (I X 10))) l):=J (by rw[c];exact Z L l C 10);clear c ak T V L S br;obtain⟨kind,stream,offset,code,fin,data,ranges⟩:=f;unfold bC at *;simp only at *;subst h6;obtain⟨y0,-⟩:=bQ i;replace⟨i,z,j⟩:=cA i z j;clear t M d;go_enter func166,ntmps166;go_upto_region 1 with fail;rw[<-m];clear m;go_wp2_with fail;exact Z p
 rw[aE h6]at c;have p:Hid (R (ξ .nilIface) l):=J (by rw[c];exact Z L l C 0);clear c ak T V L S br;obtain⟨kind,stream,offset,code,fin,data,ranges⟩:=f;unfold bC at *;simp only at *;obtain⟨y0,-⟩:=bQ i;have e3:(kind==3)=θ:=by simpa using t
 have e4:(kind==4)=θ:=by simpa using M
 have e5:(kind==5)=θ:=by simpa using d
 have e6:(kind==6)=θ:=by simpa using h6
 replace⟨i,z,j⟩:=cA i z j;clear t M d h6;go_enter func166,ntmps166;go_upto_region 1 with fail;rw[<-m];clear m;go_wp2_with fail;exact Z p
def Of(b:List Int):∀(k p:Nat)(a fs:List Fr),gz b k p a=(E fs,-1)->(∀f∈a,cT f)->∀f∈fs,cT f:=by
 intro k;induction k with
 |zero=>intro p a fs h;simp[gz]at h
 |succ k e=>
  intro p a fs h j;unfold gz at h;split at h;split at h;simp at h;rename_i f q d;refine e q (a++[f]) fs h (λg c=>?_);obtain c|c:=b9.1 c
  simp_all;rw[eE.1 c];unfold kG at d;cases i:dy b (b.getD p 0) (p+1)with
  |none=>rw[i]at d;cases d
  |some x=>
   grind
  grind
def yz{fs:List Fr}(h:eX L=(E fs,-1)):∀f∈fs,cT f:=by
 unfold eX at h;split at h;simp_all;exact Of L _ _ _ _ h (λf a=>(by cases a))
structure iT(av:Int)(i:It):Prop where
 ok:bk i.h.af
 fr:0<=i.h.fr
 lR:∀m,Sm i.h.af m->0<=m/\m<i.h.fr+av
 mD:∀m,Sm i.h.af m->m<i.h.fr+i.h.bytes.length
 low:i.given=θ->∀m,0<=m->m<i.h.fr->Sm i.h.af m
 len:(i.h.bytes.length:Int)<=av
 en:i.h.fr+i.h.bytes.length<=4611686018427387903
 uj:i.given=ρ->i.h.af=[]/\i.h.bytes=[]
def iT.cl{i:It}(h:iT p i)(n:p<=1024):i.h.af.length<=1026:=by
 cases b:i.h.af with
 |nil=>simp
 |cons r l=>
  have a:=h.ok;rw[b]at a;by_cases f:i.given=θ;have g:=a.tail.CU i.h.fr (i.h.fr+p) (λm c=>by
   have j:=h.lR m (by rw[b];exact(eG r l m).2 (ψ c));refine⟨?_,j.2⟩
   by_cases q:m<i.h.fr;exfalso;have s:=a.behind c;have k:=a.2 r Γ;have h0:=(h.lR _ (by rw[b];exact(eG r l _).2 (φ ⟨fv _,k⟩))).1;have d:=h.low f r.hi O O;rw[b]at d;obtain e|e:=(eG r l _).1 d
   omega;have:=a.behind e;omega
   .omega)
  grind;have g:=(h.uj (by grind)).1;grind
def iT.nice{i:It}(h:iT p i)(a:p<=1024):i.h.nice:=by
 have b:=h.len;have c:=h.cl a;exact⟨h.fr,h.en,h.ok,O,O⟩
def Og(M:List Rg):∀b:List Int,(∀x∈M,p<=x.lo/\q<=x.lo/\x.lo<=x.hi/\x.hi<=q+L.length)->b.length<=(iP p q L M b).length/\(∀x∈M,(x.hi-p).toNat<=(iP p q L M b).length)/\∀c:Nat,b.length<=c->(∀x∈M,(x.hi-p).toNat<=c)->(iP p q L M b).length<=c:=by
 induction M with
 |nil=>exact λb _=>⟨aP _,λx a=>(by cases a),λc h _=>h⟩
 |cons x M f=>
  intro b h;have a:=h x Γ;have hl:=Cp (L:=L) (K:=b) a.1 a.2.1 a.2.2.1 a.2.2.2;let⟨g,i,j⟩:=f (mW p q L b x) (λy d=>h y (by simp[d]))
  have e:iP p q L (x::M) b=iP p q L M (mW p q L b x):=rfl;rw[e];refine⟨O,λy d=>?_,λc k l=>?_⟩
  obtain rfl|d:=iD.1 d
  omega;grind;grind
def Oh{i:It}(h:iT p i)(c:i.given=θ)(g:0<=q){x:Rg}(a:x∈kK i.h.af ⟨q,r⟩):i.h.fr<=x.lo/\q<=x.lo/\x.lo<=x.hi/\x.hi<=r:=by
 have d:=vr i.h.af ⟨q,r⟩;have e:=d.2 x a;have b:=(ry _ _ _).1 ⟨x,a,fv _,e⟩;have f:=(ry _ _ (x.hi-1)).1 ⟨x,a,O,O⟩;simp only at b f;refine⟨?_,O,O,O⟩
 by_cases hl:x.lo<i.h.fr;exact absurd (h.low c _ O hl) b.2;omega
def iT.data{i:It}(h:iT p i)(f:Fr)(n:0<=f.offset)(s:bm f<=4611686018427387903)(j:i.given=θ->bm f<=i.h.fr+p):iT p (i.data f):=by
 have t:((bl f.data).length:Int)=f.data.size:=by rw[iE]
 cases a:i.given;have k:∀x∈kK i.h.af ⟨f.offset,bm f⟩,i.h.fr<=x.lo/\f.offset<=x.lo/\x.lo<=x.hi/\x.hi<=f.offset+(bl f.data).length:=λx c=>by
  have:=Oh h a n c;unfold bm at this;omega
 let⟨u,v,q⟩:=Og (p:=i.h.fr) (q:=f.offset) (L:=bl _) _ i.h.bytes k
 have e:i.data f={i with high:=max i.high (bm f),ended:=i.ended||f.fin,last:=if f.fin then bm f else i.last,h:=⟨i.h.fr,iP i.h.fr f.offset (bl f.data) (kK i.h.af ⟨f.offset,bm f⟩) i.h.bytes,eu i.h.af ⟨f.offset,bm f⟩⟩}:=by
  unfold It.data;rw[a];rfl
 rw[e];have r:=h.fr;have j:=j a;have w:(iP i.h.fr f.offset (bl f.data) (kK i.h.af ⟨f.offset,bm f⟩) i.h.bytes).length<=max i.h.bytes.length (bm f-i.h.fr).toNat:=q _ O (λx c=>by have:=k x c;unfold bm;omega);have y:=h.len;have z:=h.en;refine⟨oD _ h.ok,r,λm g=>?_,λm g=>?_,λ_ m h0 b=>(kJ _ h.ok m).2 (φ (h.low a m h0 b)),by simp only;omega,by simp only;omega,λe=>by simp only at e;rw[a]at e;cases e⟩
 obtain b|b:=(kJ _ h.ok m).1 g
 exact h.lR m b;grind;simp only
 obtain b|b:=(kJ _ h.ok m).1 g
 have:=h.mD m b;omega;by_cases l:Sm i.h.af m;have:=h.mD m l;omega;let⟨x,c,A,B⟩:=(ry _ _ m).2 ⟨b,l⟩
 grind;have e:(i.data f).h=i.h/\(i.data f).given=i.given:=by unfold It.data;rw[a];exact⟨Q,Q⟩
 refine⟨by rw[e.1];exact h.ok,by rw[e.1];exact h.fr,by rw[e.1];exact h.lR,by rw[e.1];exact h.mD,λe2=>(by rw[e.2,a]at e2;cases e2),by rw[e.1];exact h.len,by rw[e.1];exact h.en,λ_=>by rw[e.1];exact h.uj a⟩
def iT.reset{i:It}(h:iT p i)(f:Fr):iT p (i.reset f):=by
 have c:=h.len;have d:=h.en;cases b:i.given;have e:(i.reset f).h=⟨i.h.fr,[],[]⟩/\(i.reset f).given=ρ:=by unfold It.reset;rw[b];exact⟨Q,Q⟩
 refine⟨by rw[e.1];exact bk.nil,by rw[e.1];exact h.fr,λm a=>by rw[e.1]at a;exact absurd a (ij m),λm a=>by rw[e.1]at a;exact absurd a (ij m),λe2=>(by grind),by rw[e.1];simp only[eJ];omega,by rw[e.1];simp only[eJ];omega,λ_=>by rw[e.1];exact⟨Q,Q⟩⟩
 have e:(i.reset f).h=i.h/\(i.reset f).given=ρ:=by unfold It.reset;rw[b];exact⟨Q,Q⟩
 refine⟨by rw[e.1];exact h.ok,by rw[e.1];exact h.fr,by rw[e.1];exact h.lR,by rw[e.1];exact h.mD,λe2=>(by grind),by rw[e.1];exact h.len,by rw[e.1];exact h.en,λ_=>by rw[e.1];exact h.uj b⟩
structure nM(s:Sd):Prop where
 av:0<=s.av/\s.av<=1024
 aF:∀k,k<4->iT s.av (s.aF k)
 pre:ni s
 fl:s.aO.length<=10
 ll:s.lost.length<=39000000
def nN(s:Sd)(f:Fr):Prop:=f.kind=5->(s.aF f.stream.toNat).given=θ->bm f<=(s.aF f.stream.toNat).h.fr+s.av
def cT.st(h:cT u):0<=u.stream/\u.stream<4:=⟨h.1.2.2.1,h.1.2.2.2⟩
def cT.en(h:cT u)(a:u.kind=5):bm u<=4611686018427387903:=by
 have:=h.2.1.2 a;unfold bm;omega
def nM.tk(h:nM d)(hs:cT u)(e:0<=u.offset)(b:nN d u):DC d u:=by
 have f:=hs.st;have g:u.stream.toNat<4:=O;have hi:=h.aF _ g;have i:=h.av;refine⟨f,λj=>(hs.2.1.1 j).1,e,λa=>hs.en a,hi.nice i.2,λa c m l n k=>?_⟩
 have b:=b a c;refine⟨?_,O⟩
 by_cases hl:m<(d.aF u.stream.toNat).h.fr;exact absurd (hi.low c m O hl) k;omega
def Fj(s:Sd)(l:List Rg):(s.dW l).aO.length<=s.aO.length/\(s.dW l).lost.length<=s.lost.length+s.aO.length:=by
 have e1:(s.dW l).aO=(s.aO.filter (λx=> !bK l x.num)).filter (λx=> !decide (x.num+3<=(an l 0).hi)):=rfl;have e2:(s.dW l).lost=(s.fN l).lost.filter (λx=> !x.ps.all (nh ((s.fN l).out x.st.toNat))):=rfl;have a:(s.fN l).lost.length=(s.lost.filter (λx=> !bK l x.num)).length+((s.aO.filter (λx=> !bK l x.num)).filter (λx=>decide (x.num+3<=(an l 0).hi))).length:=by unfold Sd.fN;simp only[bS]
 grind
def ni.dW(h:ni d)(l:List Rg):ni (d.dW l):=by
 have a:=h.fN l;refine⟨a.out,λx b=>a.pk x ?_,a.num⟩
 have c:x∈(d.fN l).aO++(d.fN l).lost.filter (λx=> !x.ps.all (nh ((d.fN l).out x.st.toNat))):=b;grind
def dP(s:Sd):List Fr->Int×Sd
 |[]=>(0,s)
 |f::r=>if(s.take f).1=0 then dP (s.take f).2 r else s.take f
structure mE(s a:Sd):Prop where
 av:a.av=s.av
 key:a.key=s.key
 first:a.first=s.first
 count:a.count=s.count
 az:a.az=s.az
 aF:∀k,(a.aF k).h.fr=(s.aF k).h.fr/\((a.aF k).given=θ->(s.aF k).given=θ)
def mE.rfl'(s:Sd):mE s s:=⟨Q,Q,Q,Q,Q,λ_=>⟨Q,id⟩⟩
def mE.trans{b c:Sd}(h:mE d b)(k:mE b c):mE d c:=⟨k.av.trans h.av,k.key.trans h.key,k.first.trans h.first,k.count.trans h.count,k.az.trans h.az,λi=>⟨(k.aF i).1.trans (h.aF i).1,λe=>(h.aF i).2 ((k.aF i).2 e)⟩⟩
def Fk(i:It)(f:Fr):(i.data f).h.fr=i.h.fr/\(i.data f).given=i.given:=by
 unfold It.data;grind
def Fl(i:It)(f:Fr):(i.reset f).h.fr=i.h.fr/\(i.reset f).given=ρ:=by
 unfold It.reset;grind
def take_same(s:Sd)(f:Fr):mE s (s.take f).2:=by
 have b:∀(k:Nat)(a:It),a.h.fr=(s.aF k).h.fr->(a.given=θ->(s.aF k).given=θ)->mE s {s with aF:=aB s.aF k a}:=λk a c d=>⟨rfl,rfl,rfl,rfl,rfl,λj=>by
  by_cases e:j=k;subst e;simp only[bN];exact⟨c,d⟩
  .show(aB s.aF k a j).h.fr=_/\((aB s.aF k a j).given=θ->_)
   rw[bI _ _ e];exact⟨Q,id⟩⟩
 unfold Sd.take;split;split;exact mE.rfl' s;exact⟨Q,Q,Q,Q,Q,λ_=>⟨Q,id⟩⟩
 split;split;exact mE.rfl' s;exact b _ _ (Fl _ f).1 (λe=>by rw[(Fl _ f).2]at e;cases e);split;split;exact mE.rfl' s;exact b _ _ (Fk _ f).1 (λe=>by rw[(Fk _ f).2]at e;exact e);split<;>exact mE.rfl' s
def nM.take(h:nM d){B:Nat}(hs:cT u)(g:0<=u.offset)(i:nN d u)(l:d.lost.length+10<=B)(m:B<=39000000):nM (d.take u).2/\(d.take u).2.lost.length<=B:=by
 have n:=hs.st;have b:u.stream.toNat<4:=O;have p:=h.fl;have c:∀(a:It),iT d.av a->nM {d with aF:=aB d.aF u.stream.toNat a}:=λa hi=>⟨h.av,λj k=>by
  by_cases e:j=u.stream.toNat;subst e;simp only[bN];exact hi
  .simp only[bI _ _ e];exact h.aF j k,⟨h.pre.out,h.pre.pk,h.pre.num⟩,h.fl,h.ll⟩
 unfold Sd.take;split;split;exact⟨h,by show d.lost.length<=B;omega⟩
 have hl:=Fj d u.ranges;exact⟨⟨h.av,h.aF,h.pre.dW _,by show(d.dW u.ranges).aO.length<=10;omega,by show(d.dW u.ranges).lost.length<=39000000;omega⟩,by show(d.dW u.ranges).lost.length<=B;omega⟩
 split;split;grind;exact⟨c _ ((h.aF _ b).reset u),by show d.lost.length<=B;omega⟩
 split;split;grind;rename_i f _;exact⟨c _ ((h.aF _ b).data u g (hs.en f) (i f)),by show d.lost.length<=B;omega⟩
 grind
def nN.same{a:Sd}(T:mE d a)(h:nN d u):nN a u:=λb c=>by
 rw[(T.aF _).1,T.av];exact h b ((T.aF _).2 c)
def Sd.fk(s:Sd)(f:Fr):Bool:=decide (f.kind=5)&&(s.aF f.stream.toNat).busy f s.av
def kP(f:Fr):Bool:=decide (f.kind≠3)&&decide (f.kind≠1)
def yA(h:d.fk u=θ):nN d u:=λa b=>by
 unfold Sd.fk It.busy at h;rw[bU a,b]at h;simp only[Bool.true_and,Bool.not_false,uI]at h;omega
def Oi(w:D)(f:Fr)(h:υ):Calls prog 165 #[ε (bC f h)] w λe k=>e=ξ (β (kP f))/\G w k N:=by
 obtain⟨j,a⟩:=í (w.alloc (ο (bC f h) 158));have i:G w j N:=by rw[a];exact aC _ _ _
 have l:j.heap[w.heap.size]?=E (ο (bC f h) 158 (0,0)):=by rw[a];exact aM _ _
 obtain⟨q,b⟩:=í (kP f);rw[<-b];unfold kP at b;let⟨kind,stream,offset,code,fin,data,ranges⟩:=f
 unfold bC at *;simp only at *;obtain⟨m,-⟩:=bQ l;by_cases d:kind=3
 .subst d;have c:q=θ:=by rw[b];rfl
  subst c;clear b;go_enter func165,ntmps165;go_upto_region 1 with fail;rw[<-a];clear a;go_wp2;go_ret;exact⟨Q,i⟩
 have n:(kind !=3)=ρ:=by simpa using d
 by_cases g:kind=1
 .subst g;have c:q=θ:=by rw[b];rfl
  subst c;clear b;go_enter func165,ntmps165;go_upto_region 1 with fail;rw[<-a];clear a;go_wp2;go_ret;exact⟨Q,i⟩
 have e1:(kind !=1)=ρ:=by simpa using g
 have c:q=ρ:=by rw[b];simp[d,g]
 subst c;clear b d g;go_enter func165,ntmps165;go_upto_region 1 with fail;rw[<-a];clear a;go_wp2;go_ret;exact⟨Q,i⟩
def Oj(w:D)(R sb:Nat)(S:Array υ)(v:aY)(s:Sd)(H:bF w R sb S v s)(ao:0<=s.av/\s.av<=1024)(f:Fr)(l:υ)(ax:0<=f.stream/\f.stream<4)(p:(s.aF f.stream.toNat).h.nice)(T:0<=f.offset)(r:f.kind=5->bm f<=4611686018427387903):
 Calls prog 163 #[π (E ⟨sb,0,N⟩),ε (bC f l)] w λe t=>e=ξ (β (s.fk f))/\G w t N:=by
 obtain⟨k,V,u⟩:∃k:Nat,k<4/\f.stream=(k:Int):=⟨f.stream.toNat,O,O⟩
 have F:f.stream.toNat=k:=O;have K:=H.aF k V;obtain⟨b,c⟩:=í (w.alloc (ο (bC f l) 158));have i:G w b N:=by rw[c];exact aC _ _ _
 have d:b.heap[w.heap.size]?=E (ο (bC f l) 158 (0,0)):=by rw[c];exact aM _ _
 rw[F]at p;have m:=J (λW(g:G w W N)(a:f.kind=5)=>II W sb (55+9*k) (s.aF k) (g.cell ((ba H.aG _).trans K.c0) Γ) ((K.tail H.aG).ag g) ⟨p.1,by have:=p.2.1;omega⟩ f l T (by have:=r a;omega) s.av O);rw[<-vC]at m;have ai:s.fk f=(decide (f.kind=5)&&(s.aF k).busy f s.av):=by unfold Sd.fk;rw[F]
 rw[ai];have cw:=kc (i.cell ((ba H.aG _).trans H.c1) Γ);have i1:(k:Int)<4:=O;have d1:decide ((k:Int)<4)=ρ:=bU i1;have n:G b b.drew N:=aK (au _ N);replace H:=J H;by_cases a:f.kind=5
 .have L:=J (Z m b.drew (aq i n) a);rw[bU a,Bool.true_and];obtain⟨q,M⟩:=í ((s.aF k).busy f s.av);rw[<-M]at L⊢;clear M m r;obtain⟨kind,stream,offset,code,fin,data,ranges⟩:=f;unfold bC at *;simp only at *;subst a;subst u;let⟨j,x,y,z,A,B,C⟩:=bQ d
  replace j:=kc j;replace x:=kc x;replace y:=kc y;replace z:=kc z;replace A:=kc A;replace B:=kc B;replace C:=kc C;replace d:=J d;go_enter func163,ntmps163;go_upto_region 1 with fail;rw[<-c];clear c;go_region_held3 (λt=>G b t N)
   (with_reducible first|exact P|exact n)
   (first|(go_at_call 214;apply(Z L).mono;rintro e w5⟨rfl,g5⟩;have P:=aq n g5))
  go_wp2;go_ret;exact⟨Q,aq i P⟩
 rw[bT a,Bool.false_and];clear m r;let⟨kind,stream,offset,code,fin,data,ranges⟩:=f
 unfold bC at *;simp only at *;have e5:(kind==5)=θ:=by simpa using a
 let⟨j,x,y,z,A,B,C⟩:=bQ d
 replace j:=kc j;replace⟨d,u⟩:=aT d u;clear a;go_enter func163,ntmps163;go_upto_region 1 with fail;rw[<-c];clear c;go_big_region;go_wp2;go_ret;exact⟨Q,by first|exact aq i n|exact aq i Ω⟩
