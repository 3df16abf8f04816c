import Derived.Test.YtjnmokmchdfchaaGreatDoorZSe
set_option maxRecDepth 1000000
set_option maxHeartbeats 0
set_option linter.all false
namespace Go.Proofs.YtjnmokmchdfchaaGreatDoor
open Go.RowKit Tryz
open Go.Value renaming int→I,slice→Y,bool→β,pointer→π,agg→ε,string→ς,tuple→τ
open Go.IntKind renaming i64→X,u64→U,u8→Δ
open Go.Ending renaming returned→ξ
open Go.Obj renaming cells→ο
open Or renaming inl→φ,inr→ψ
open Option renaming some→E,none→N
open Bool renaming true→ρ,false→θ
open Go renaming World→D,Value→υ
open Go.World renaming grownBy→G,cell?→κ,frozen?→χ,setCell→ζ
attribute[local go_sem↓]Go.wp_at_zero Go.wp_at_succ
section
variable{C:Array υ}{B:Bool}{p q:Int}{K:List Int}{b i k l m n o:Nat}{S:Nat->Prop}{a:Option Addr}{T:TypeId}{x y z:υ}{W w:D}{F:aY}
def zO:List υ:=[I U 0,Y N 0 0,Y N 0 0,I U 0,β θ,β θ,β θ,β θ,I U 0]
def zI:List υ:=[I U 0,Y N 0 0,Y N 0 0,I U 0,I U 0,I U 0,β θ,β θ,β θ]
def iw(az av:Int)(key:List υ)(first:Bool)(wait aI:Int)(last:υ):List υ:=
 [I X az,I X av]++key++[β first]++zO++zO++zO++zO++zI++zI++zI++zI++[I U 0,I X 0,I X wait,Y N 0 0,Y N 0 0,Y N 0 0,I U 0,β θ,I X aI,last]
def mC:List υ:=[I Δ 0,I Δ 0,I Δ 0,I Δ 0,I Δ 0,I Δ 0,I Δ 0,I Δ 0,I Δ 0,I Δ 0,I Δ 0,I Δ 0,I Δ 0,I Δ 0,I Δ 0,I Δ 0]
def yr(aI:Int)(last:υ):(zeroCells241.setIfInBounds 99 (I X aI)).setIfInBounds 100 last=(iw 0 0 mC θ 0 aI last).toArray:=Φ
def ML:(prog.info? 241).map (·.size)=E 101:=Φ
structure jP(w:D)(b sb:Nat)(aI:Int)(last:υ)(a:List El):Prop where
 aG:w.heap[sb]?=E (ο (iw 0 0 mC θ 0 aI last).toArray 241 (0,0))
 own:fC w b last a
 at_:jg w b a
 nl:last.ownBlock≠E sb
 ne:∀e∈a,e.1≠sb
 s5:∀e∈a,last.ownBlock≠E e.1
def dD(code:Int):Fr:=⟨6,0,0,code,θ,⟨#[]⟩,[]⟩
def Sd.iS(s:Sd)(aI code:Int):List (List Int):=if aI=10 then[]else[dC s.key (bf s.first) s.count (bE [dD code])]
def yt(w:D)(sb:Nat)(v:aY)(aI:Int)(l:List (List Int))(e:Ending)(a:D):Prop:=
 e=ξ (τ #[])/\∃last b,jP a w.heap.size sb aI last b/\b.map (·.2)=l/\aj w a (cM sb v)
def AA(az av:Int)(key:List υ)(first:Bool)(wait aI:Int)(last:υ)(a:key.length=16):(iw az av key first wait aI last).length=101:=by simp[iw,zO,zI,a]
theorem Ep(wait aI:Int)(a:Option Addr)(n c:Nat):((iw 0 0 mC θ wait aI (Y a n c)).toArray).all (·.oneCell')=ρ:=by
 refine all_oneCell_toArray (λv b=>?_);simp only[iw,zO,zI,mC,b9,iD,uN,or_false]at b;obtain(((((((((((b|b)|b)|b)|b)|b)|b)|b)|b)|b)|b)|b):=b<;>(repeat' (obtain rfl|b:=b))<;>first|rfl|(subst b;rfl)
def MM(w:D)(a:0<=p/\p<=4611686018427387903):cD w (dD p) (Y N 0 0)/\cT (dD p)/\fh [dD p]<=30000000:=by
 refine⟨⟨⟨by simp[ie,dD],by simp[ie,dD],by simp[aZ,dD],by simp only[dD];unfold aZ;omega,by simp[dD]⟩,by simp[dD,ByteArray.size],N,0,Q,⟨by simp[dD],Q,aP _,by simp[maxLen],φ Q⟩⟩,⟨⟨by simp[dD],by simp only[dD];omega,by simp[dD],by simp[dD]⟩,⟨λe=>by simp[dD]at e,λe=>by simp[dD]at e⟩,by simp[dD],by simp[dD]⟩,?_⟩
 simp[fh,kX,dD,ByteArray.size]
def MN(cells:Array υ):G w (w.setRow n cells) (E n):=
 (show aj w (w.setRow n cells) (λk=>k=n)from⟨Q,Q,Q,Γ,λk _ a=>setRow_other w n k cells a⟩).gb (λk _ e=>by rw[e])
def Er{v:aY}{x:Ak}{f:List El}(c:jk w i l F v x y a n o W C f)(aI:Int){b:Option Addr}(u:y=Y b m k):jP (W.setRow l (iw 0 0 mC θ 0 aI y).toArray) w.heap.size l aI y f/\aj w (W.setRow l (iw 0 0 mC θ 0 aI y).toArray) (cM l F):=by
 have q:∀j,y.ownBlock=E j->j≠l:=λj e e2=>c.ls.a5 j e (φ (φ e2))
 have r:∀e∈f,e.1≠l:=λe h e2=>c.ls.ae e h (φ (φ e2))
 have d:=(aj.of (MN (w:=W) (n:=l) (iw 0 0 mC θ 0 aI y).toArray)).mono (λp _ e=>(aR e).symm);refine⟨⟨setRow_heap W l C _ _ _ c.side.aG,c.ls.own.aA d (λj e e2=>q j e e2),c.ls.at_.aA d (λe h e2=>r e h e2),λe=>q l e Q,r,c.ls.s5⟩,?_⟩
 refine⟨d.os.trans c.ew.aA.os,d.tape.trans c.ew.aA.tape,d.output.trans c.ew.aA.output,bG c.ew.aA.size d.size,λp s t=>?_⟩
 rw[d.block p (bX s c.ew.aA.size) (λe=>t (φ e))];exact c.ew.aA.block p s t
def Es(w:D)(k sb:Nat)(P:Array υ)(v:aY)(s:Sd)(H:bF w k sb P v s)(b8:cI s.key)(ek:0<=s.count/\s.count<=4611686018427387000)(aI code:Int)(hc:0<=code/\code<=4611686018427387903):
 Calls prog 168 #[π (E ⟨sb,0,N⟩),I X aI,I U code] w (yt w sb v aI (s.iS aI code)):=by
 obtain⟨R,K⟩:=í (λq:D=>∃last ca,jP q w.heap.size sb aI last ca/\ca.map (·.2)=s.iS aI code/\aj w q (cM sb v));have c9:yt w sb v aI (s.iS aI code)=λe q=>e=ξ (τ #[])/\R q:=by rw[K];rfl
 rw[c9];replace K:=J K;have t:jk w k sb v v ⟨s,[],[]⟩ (Y N 0 0) N 0 0 w P []:=⟨H,dz.rfl' _ _ _ _,gG.nil _ _ _ _,Q,⟨λr h=>(by cases h),Q,aP _,by simp[maxLen],φ Q⟩,λh=>absurd Q h⟩
 have u:=ML;have da:=H.bB.jy;by_cases l:aI=10
 .have d:Hid (R (w.setRow sb (iw 0 0 mC θ 0 aI (Y N 0 0)).toArray)):=J (by
   rw[Z K];let⟨h1,h2⟩:=Er t aI Q
   exact⟨_,[],h1,by unfold Sd.iS;rw[aH l];rfl,h2⟩)
  have f:=AA 0 0 mC θ 0 aI (Y N 0 0) Q;have i:=Ep 0 aI N 0 0;have e1:(aI !=10)=θ:=by rw[l];rfl
  have a8:=H.aG;have a9:=H.sz;replace⟨t,H⟩:=aT t H;rw[<-yr]at d i;have bb:((zeroCells241.setIfInBounds 99 (I X aI)).setIfInBounds 100 (Y N 0 0)).size=101:=by rw[yr];simp[f]
  replace⟨a8,a9⟩:=aT a8 a9;replace f:=J bb;replace⟨i,u,l⟩:=cA i u l;go_enter func168,ntmps168;go_wp2_with (refine wpList_store_row Ξ 241 _ _ Ξ sb _ Ξ Ξ 241 P (Z a8) (by rw[Z u,Z f]) (by rw[Z a9,Z f]) (Z i) ?_);first|exact Z d|exact⟨Q,Z d⟩|exact eP (dV Q _ _ _) Q ⟨Q,Z d⟩
 have e1:(aI !=10)=ρ:=by simpa using l
 obtain⟨L,S⟩:=í (w.alloc (ο #[I X 6,I X 0,I U 0,I U code,β θ,ς ⟨#[]⟩,Y N 0 0] 158));have g5:G w L N:=by rw[S];exact aC _ _ _
 obtain⟨F,hF⟩:=í w.heap.size;have bj:L.heap[F]?=E (ο #[I X 6,I X 0,I U 0,I U code,β θ,ς ⟨#[]⟩,Y N 0 0] 158 (0,0)):=by rw[S,hF];exact aM _ _
 have br:=t.gb g5;have db:F≠sb:=O;have k0:∀W:D,W.heap[F]?=E (ο #[I X 6,I X 0,I U 0,I U code,β θ,ς ⟨#[]⟩,Y N 0 0] 158 (0,0))->κ W ⟨F,0,N⟩=E (I X 6):=λW h=>(bQ h).1
 have k1:∀W:D,W.heap[F]?=E (ο #[I X 6,I X 0,I U 0,I U code,β θ,ς ⟨#[]⟩,Y N 0 0] 158 (0,0))->κ W ⟨F,1,N⟩=E (I X 0):=λW h=>(bQ h).2.1
 have k2:∀W:D,W.heap[F]?=E (ο #[I X 6,I X 0,I U 0,I U code,β θ,ς ⟨#[]⟩,Y N 0 0] 158 (0,0))->κ W ⟨F,2,N⟩=E (I U 0):=λW h=>(bQ h).2.2.1
 have k3:∀W:D,W.heap[F]?=E (ο #[I X 6,I X 0,I U 0,I U code,β θ,ς ⟨#[]⟩,Y N 0 0] 158 (0,0))->κ W ⟨F,3,N⟩=E (I U code):=λW h=>(bQ h).2.2.2.1
 have k4:∀W:D,W.heap[F]?=E (ο #[I X 6,I X 0,I U 0,I U code,β θ,ς ⟨#[]⟩,Y N 0 0] 158 (0,0))->κ W ⟨F,4,N⟩=E (β θ):=λW h=>(bQ h).2.2.2.2.1
 have k5:∀W:D,W.heap[F]?=E (ο #[I X 6,I X 0,I U 0,I U code,β θ,ς ⟨#[]⟩,Y N 0 0] 158 (0,0))->κ W ⟨F,5,N⟩=E (ς ⟨#[]⟩):=λW h=>(bQ h).2.2.2.2.2.1
 have k6:∀W:D,W.heap[F]?=E (ο #[I X 6,I X 0,I U 0,I U code,β θ,ς ⟨#[]⟩,Y N 0 0] 158 (0,0))->κ W ⟨F,6,N⟩=E (Y N 0 0):=λW h=>(bQ h).2.2.2.2.2.2
 have dc:=J (En L.drew k sb P v s (H.ag (aK g5)) O);have de:=J (λb M(T:bF b k sb M v {s with count:=s.count+1})(g:L.drew.grownBy b (E sb))=>(br.gb (aK (au _ N))).num da T g);have bt:=λb=>MM b hc
 have bw:=J (λb=>Ag b (dD code) (Y N 0 0) (bt b).1 (bt b).2.1 (bt b).2.2);have bx:(bE [dD code]).length<=1000:=by
  have e:bE [dD code]=28::aN code:=by simp[bE,cH,dD]
  rw[e,dY];have:=(eQ code).2;omega
 have cf:=J (λb m M(p:jk w k sb v v ⟨{s with count:=s.count+1},[],[]⟩ (Y N 0 0) N 0 0 b M [])(j:G b m N)(a7:Option Addr)(n7 c7:Nat)(x:aS m b.heap.size (Y a7 n7 c7) (bE [dD code]))=>Av m sb s.key s.first b8 ((p.side.ag j).rH b8) ((ba (p.side.ag j).aG _).trans (p.side.ag j).fI) s.count (by unfold aZ;omega) a7 n7 c7 _ x.eV O);have ch:=J (λb m V M(p:jk w k sb v v ⟨{s with count:=s.count+1},[],[]⟩ (Y N 0 0) N 0 0 b M [])(j:G b m N)(g8:G m V N)(g:Nat)(hg:m.heap.size<=g)(al:V.heap[g]?=E (ο (bv (dC s.key (bf s.first) s.count (bE [dD code]))).toArray 5 (0,0)))(dg:∀y∈bE [dD code],W8 y)=>Eo p j g8 hg al dg Γ);have cm:=J (λ(W:D)(a:Option Addr)(n c:Nat)(hN:yp w k sb v v ⟨{s with count:=s.count+1},[],[]++[dC s.key (bf s.first) s.count (bE [dD code])]⟩ N 0 0 (Y a n c) W)=>(show(∃ao,W.heap[sb]?=E (ο ao 241 (0,0))/\ao.size=101)/\R (W.setRow sb (iw 0 0 mC θ 0 aI (Y a n c)).toArray) by
  let⟨ao,dm,ax⟩:=hN
  refine⟨⟨ao,ax.side.aG,ax.side.sz⟩,?_⟩
  rw[Z K];let⟨h1,h2⟩:=Er ax aI Q
  exact⟨_,dm,h1,by unfold Sd.iS;rw[aE l];exact ax.el,h2⟩))
 obtain⟨B,hB⟩:=í (bE [dD code]);rw[<-hB]at bw cf ch cm bx;have dn:bC (dD code) (Y N 0 0)= #[I X 6,I X 0,I U 0,I U code,β θ,ς ⟨#[]⟩,Y N 0 0]:=rfl;rw[dn]at bw;have du:(Y N 0 0).ownBlock≠E F:=λe=>by cases e
 obtain⟨a0,hZ⟩:∃a0:υ->D->Prop,a0=λcp W=>∃a' n' c',cp=Y a' n' c'/\yp w k sb v v ⟨{s with count:=s.count+1},[],[]++[dC s.key (bf s.first) s.count B]⟩ N 0 0 cp W:=⟨_,rfl⟩
 have bM:L.drew.heap[F]?=E (ο #[I X 6,I X 0,I U 0,I U code,β θ,ς ⟨#[]⟩,Y N 0 0] 158 (0,0)):=bj;replace⟨bj,hZ,hB,br,t,H,l,u,bx⟩:=rC bj hZ hB br t H l u bx;go_enter func168,ntmps168;go_upto_region 3 with fail;rw[<-S,<-hF];clear S hF;go_cut [6] (λv6 wx=>a0 v6 wx);case first=>
  go_region_held3 (λq=>q.heap[F]?=E (ο #[I X 6,I X 0,I U 0,I U code,β θ,ς ⟨#[]⟩,Y N 0 0] 158 (0,0)))
   (with_reducible first|exact ec|exact b3|exact ct|exact cv|exact cw|exact bM)
   (first
     |(go_at_call 205;apply(Z dc).mono;rintro e b⟨rfl,g6,T⟩;have p:=J (Z de _ _ T g6);have cw:=(g6.block F (aV.1 bM).1 (λe=>db (aR e))).trans bM;clear T)
     |(go_at_call 206;apply(Z bw _).mono;rintro e m⟨⟨a7,n7,c7,rfl,x⟩,j⟩;have cv:=bp cw j;have b4:=x.1;replace x:=J x;replace b4:=J b4)
     |(go_at_call 204;apply(Z cf _ _ _ (Z p) j _ _ _ (Z x)).mono;rintro e V⟨g,rfl,hg,al,g8⟩;have ct:=bp cv g8;let⟨z,A,C,w9,b5,a2,g9⟩:=Z ch _ _ _ _ (Z p) j g8 g hg al (Z b4);have b3:=bp ct (aC V (ο #[Y (E ⟨g,0,N⟩) (B.length+16) (B.length+16)] 112) N);have ec:=(g9.block F (aV.1 b3).1 (λe=>du e.symm)).trans b3;have ei:Hid (a0 (Y z A C) w9):=J (by rw[Z hZ];exact⟨z,A,C,Q,a2⟩);clear al hg a2;replace b5:=J b5)
     |(refine Ae Ξ 206 206 Ξ _ _ Ξ _ _ _ Ξ Ξ (Z b5) ?_))
  all_goals go_wp2_with fail
  all_goals go_meet
  all_goals exact Z ei
 case rest=>
  rw[Z hZ]at hcut;obtain⟨z,A,C,rfl,a2⟩:=hcut;let⟨⟨ej,b6,b7⟩,d⟩:=Z cm _ _ _ _ a2
  have f:=AA 0 0 mC θ 0 aI (Y z A C) Q;have i:=Ep 0 aI z A C;rw[<-yr]at d i;have bb:((zeroCells241.setIfInBounds 99 (I X aI)).setIfInBounds 100 (Y z A C)).size=101:=by rw[yr];simp[f]
  replace⟨b6,b7⟩:=aT b6 b7;replace f:=J bb;replace⟨i,d⟩:=aT i d;go_wp2_with (refine wpList_store_row Ξ 241 _ _ Ξ sb _ Ξ Ξ 241 ej (Z b6) (by rw[Z u,Z f]) (by rw[Z b7,Z f]) (Z i) ?_);first|exact Z d|exact⟨Q,Z d⟩|exact eP (dV Q _ _ _) Q ⟨Q,Z d⟩
def iI(az av:Int):Prop:=64<=az/\az<=300/\16<=av/\av<=1024
def OA(w:D)(az av:Int)(K:Array υ)(l:K.size=16)(f:Bool)(h:¬iI az av):
 Calls prog 70 #[ε #[I X az,I X av],ε K,β f] w λe j=>e=ξ (τ #[π N,cF 1])/\G w j N:=by
 have k:az<64\/(¬az<64/\300<az)\/(¬az<64/\¬300<az/\av<16)\/(¬az<64/\¬300<az/\¬av<16/\1024<av):=by unfold iI at h;omega
 have d:∀(a b:Obj),G w ((w.alloc a).alloc b) N:=λa b=>aq (aC _ _ _) (aC _ _ _)
 obtain c|⟨c,g⟩|⟨c,g,i⟩|⟨c,g,i,m⟩:=k
 .have d1:decide (az<64)=ρ:=bU c;go_enter func70,ntmps70;go_wp2;go_ret2;exact⟨Q,d _ _⟩
 .have d1:decide (az<64)=θ:=bT c;have d2:decide (az>300)=ρ:=bU g;go_enter func70,ntmps70;go_wp2;go_ret2;exact⟨Q,d _ _⟩
 .have d1:decide (az<64)=θ:=bT c;have d2:decide (az>300)=θ:=bT g;have d3:decide (av<16)=ρ:=bU i;go_enter func70,ntmps70;go_wp2;go_ret2;exact⟨Q,d _ _⟩
 have d1:decide (az<64)=θ:=bT c;go_enter func70,ntmps70;go_wp2;go_ret2;exact⟨Q,d _ _⟩
def rJ(l:List υ)(h:l.length=16):∃a b c k3 k4 k5 d e f g i j k m n p,l=[a,b,c,k3,k4,k5,d,e,f,g,i,j,k,m,n,p]:=by
 iterate 16 (obtain _|⟨_,l⟩:=l;·simp at h)
 simp_all
def OB(az av:Int)(a b c k3 k4 k5 d e g h i j k l m n:υ)(f:Bool):(((((((((((((((((((((((zeroCells241.setIfInBounds 0 (I X az)).setIfInBounds 1 (I X av)).setIfInBounds 2 a).setIfInBounds 3 b).setIfInBounds 4 c).setIfInBounds 5 k3).setIfInBounds 6 k4).setIfInBounds 7 k5).setIfInBounds 8 d).setIfInBounds 9 e).setIfInBounds 10 g).setIfInBounds 11 h).setIfInBounds 12 i).setIfInBounds 13 j).setIfInBounds 14 k).setIfInBounds 15 l).setIfInBounds 16 m).setIfInBounds 17 n).setIfInBounds 18 (β f)).setIfInBounds 91 (I U 0)).setIfInBounds 92 (I X 0)).setIfInBounds 93 (I X 4)).setIfInBounds 94 (Y N 0 0)).setIfInBounds 95 (Y N 0 0)=(iw az av [a,b,c,k3,k4,k5,d,e,g,h,i,j,k,l,m,n] f 4 0 (Y N 0 0)).toArray:=Φ
def OD(w:D)(az av:Int)(key:List Int)(k:cI key)(f:Bool)(h:iI az av):
 Calls prog 70 #[ε #[I X az,I X av],ε (bY key),β f] w λe d=>∃sb,e=ξ (τ #[π (E ⟨sb,0,N⟩),.nilIface])/\w.heap.size<=sb/\d.heap[sb]?=E (ο (iw az av (bv key) f 4 0 (Y N 0 0)).toArray 241 (0,0))/\G w d N:=by
 have d1:decide (az<64)=θ:=bT (by unfold iI at h;omega);have d2:decide (az>300)=θ:=bT (by unfold iI at h;omega);have d3:decide (av<16)=θ:=bT (by unfold iI at h;omega);have d4:decide (av>1024)=θ:=bT (by unfold iI at h;omega);have T:prog.cellsOf 24=16:=Φ;have V:=ly k;have r:∀(a b:Obj),G w ((w.alloc a).alloc b) N:=λa b=>aq (aC _ _ _) (aC _ _ _)
 have W:(prog.info? 24).map (·.size)=E (bv key).length:=by rw[gy,k.1];exact mh
 have ai:=underlying24;obtain⟨c,g⟩:=í ((w.alloc (ο #[I X az,I X av] 28)).alloc (ο (bv key).toArray 24));have p:G w c N:=by rw[g];exact r _ _
 have i:c.heap[w.heap.size]?=E (ο #[I X az,I X av] 28 (0,0)):=by rw[g];exact bp (aM _ _) (aC _ _ _)
 have l:c.heap[w.heap.size+1]?=E (ο (bv key).toArray 24 (0,0)):=by
  have:=aM (w.alloc (ο #[I X az,I X av] 28)) (ο (bv key).toArray 24);rw[dJ]at this;rw[g];exact this
 have c0:κ c ⟨w.heap.size,0,N⟩=E (I X az):=by simp[κ,i]
 have c1:κ c ⟨w.heap.size,1,N⟩=E (I X av):=by simp[κ,i]
 have m:c.rangeAt (w.heap.size+1) 0 (bv key)/\G c c N:=⟨λj u s=>by simpa [κ,l]using s,au _ _⟩
 replace c0:=kc c0;replace c1:=kc c1;unfold bY at *;have t:(bv key).length=16:=by rw[gy,k.1]
 generalize bv key=K at *;replace⟨i,l⟩:=aT i l;go_enter func70,ntmps70;go_upto_region 3 with fail;rw[<-g];obtain⟨v,x,y,k3,k4,k5,z,A,B,C,F,H,L,M,P,R,rfl⟩:=rJ K t;clear g;go_region_held3 (λd=>d.rangeAt (w.heap.size+1) 0 [v,x,y,k3,k4,k5,z,A,B,C,F,H,L,M,P,R]/\G c d N)
  (with_reducible first|exact n|exact m|exact dT m (aK (au _ N))|exact dT n (aC _ _ _))
  (first|(go_at_call 110;apply(Z (J N5) _).mono;rintro e S⟨rfl,q⟩;have n:=dT (dT m (aK (au _ N))) q))
 go_wp2;go_ret2;refine⟨S.heap.size,Q,by have:=q.size;have:=p.size;simp at *;omega,?_,?_⟩
 rw[OB];exact aM _ _;exact aq (aq p n.2) (aC _ _ _)
def Ot.new:Ot:=⟨⟨0,[],[]⟩,0,θ,θ,θ,θ,0⟩
def It.new:It:=⟨⟨0,[],[]⟩,0,0,0,θ,θ,θ⟩
def Sd.new(az av:Int)(key:List Int)(f:Bool):Sd:=⟨az,av,key,f,λ_=>Ot.new,λ_=>It.new,[],[],0,0,4,[],0,θ⟩
def aY.new:aY:=⟨λ_=>Y N 0 0,λ_=>Y N 0 0,[],[]⟩
def qd(w:D):bq w N 0 0 []:=⟨λr h=>(by cases h),Q,aP _,by simp[maxLen],φ Q⟩
def AI(az av:Int)(key:List υ)(f:Bool)(a:key.length=16):∃L:List υ,(iw az av key f 4 0 (Y N 0 0))=[I X az,I X av]++key++(β f::L)/\L=zO++zO++zO++zO++zI++zI++zI++zI++[I U 0,I X 0,I X 4,Y N 0 0,Y N 0 0,Y N 0 0,I U 0,β θ,I X 0,Y N 0 0]:=⟨_,by simp[iw],Q⟩
def OE(f:cI K)(g:w.heap[m]?=E (ο (iw p q (bv K) B 4 0 (Y N 0 0)).toArray 241 (0,0)))(r:l<=w.heap.size):bF w l m (iw p q (bv K) B 4 0 (Y N 0 0)).toArray aY.new (Sd.new p q K B):=by
 have d:(bv K).length=16:=by rw[gy,f.1]
 have s:(iw p q (bv K) B 4 0 (Y N 0 0)).length=101:=AA _ _ _ _ _ _ _ d;have t:∀i,i<16->(iw p q (bv K) B 4 0 (Y N 0 0)).toArray[2+i]?=(bv K)[i]? :=by
  intro i hi;obtain⟨L,e,-⟩:=AI p q (bv K) B d;rw[e,tf,eF,pQ Γ,qo Ψ];grind
 have a:∀i v,i<83->(zO++zO++zO++zO++zI++zI++zI++zI++[I U 0,I X 0,I X 4,Y N 0 0,Y N 0 0,Y N 0 0,I U 0,β θ,I X 0,Y N 0 0])[i]?=E v->(iw p q (bv K) B 4 0 (Y N 0 0)).toArray[19+i]?=E v:=by
  intro i v _ h;let⟨L,e,u⟩:=AI p q (bv K) B d
  rw[e,tf,pQ Ψ];have:19+i-([I X p,I X q]++bv K).length=i+1:=by simp[d];omega
  rw[this,List.getElem?_cons_succ,u];exact h
 have b:aS w l (Y N 0 0) []:=aS.nil _ _;refine⟨g,by simp[s],by simp[iw,Sd.new],by simp[iw,Sd.new],t,?_,λk f=>?_,λk f=>?_,?_,Q,Q,a 77 _ O Q,⟨N,0,0,Q,qd w⟩,a 78 _ O Q,a 79 _ O Q,a 80 _ O Q,a 81 _ O Q,⟨((aV.1 g).1),λi _ k e=>(by cases e),λi _ e=>(by cases e),λi j _ _ _ k e=>(by cases e),λi _ y n c e=>(by cases e),λx z=>(by cases z)⟩,r⟩
 obtain⟨L,e,-⟩:=AI p q (bv K) B d;rw[e,tf,pQ Ψ];simp[d,Sd.new];have:k=0\/k=1\/k=2\/k=3:=O;obtain rfl|rfl|rfl|rfl:=this
 exact⟨a 0 _ O Q,a 1 _ O Q,a 2 _ O Q,a 3 _ O Q,a 4 _ O Q,a 5 _ O Q,a 6 _ O Q,a 7 _ O Q,a 8 _ O Q,b,⟨N,0,0,Q,qd w⟩,by simp[aZ,Sd.new,Ot.new]⟩
 exact⟨a 9 _ O Q,a 10 _ O Q,a 11 _ O Q,a 12 _ O Q,a 13 _ O Q,a 14 _ O Q,a 15 _ O Q,a 16 _ O Q,a 17 _ O Q,b,⟨N,0,0,Q,qd w⟩,by simp[aZ,Sd.new,Ot.new]⟩
 exact⟨a 18 _ O Q,a 19 _ O Q,a 20 _ O Q,a 21 _ O Q,a 22 _ O Q,a 23 _ O Q,a 24 _ O Q,a 25 _ O Q,a 26 _ O Q,b,⟨N,0,0,Q,qd w⟩,by simp[aZ,Sd.new,Ot.new]⟩
 exact⟨a 27 _ O Q,a 28 _ O Q,a 29 _ O Q,a 30 _ O Q,a 31 _ O Q,a 32 _ O Q,a 33 _ O Q,a 34 _ O Q,a 35 _ O Q,b,⟨N,0,0,Q,qd w⟩,by simp[aZ,Sd.new,Ot.new]⟩
 have:k=0\/k=1\/k=2\/k=3:=O;obtain rfl|rfl|rfl|rfl:=this
 exact⟨a 36 _ O Q,a 37 _ O Q,a 38 _ O Q,a 39 _ O Q,a 40 _ O Q,a 41 _ O Q,a 42 _ O Q,a 43 _ O Q,a 44 _ O Q,b,⟨N,0,0,Q,qd w⟩⟩
 exact⟨a 45 _ O Q,a 46 _ O Q,a 47 _ O Q,a 48 _ O Q,a 49 _ O Q,a 50 _ O Q,a 51 _ O Q,a 52 _ O Q,a 53 _ O Q,b,⟨N,0,0,Q,qd w⟩⟩
 exact⟨a 54 _ O Q,a 55 _ O Q,a 56 _ O Q,a 57 _ O Q,a 58 _ O Q,a 59 _ O Q,a 60 _ O Q,a 61 _ O Q,a 62 _ O Q,b,⟨N,0,0,Q,qd w⟩⟩
 exact⟨a 63 _ O Q,a 64 _ O Q,a 65 _ O Q,a 66 _ O Q,a 67 _ O Q,a 68 _ O Q,a 69 _ O Q,a 70 _ O Q,a 71 _ O Q,b,⟨N,0,0,Q,qd w⟩⟩
 exact⟨a 72 _ O Q,a 73 _ O Q,a 74 _ O Q,a 75 _ O Q,a 76 _ O Q,lI _ _ _ _,lI _ _ _ _⟩
structure cg where
 l:List Rg
 floor:Int
 aJ:Int
def cg.has(s:cg)(n:Int):Bool:=decide (n<s.floor)||s.l.any (λr=>decide (r.lo<=n)&&decide (n<=r.hi))
structure eh where
 lo:Int
 hi:Int
 out:List Rg
 done:Bool
def eh.step(x:eh)(r:Rg):eh:=
 if r.hi<x.lo/\1<x.lo-r.hi then{x with out:=x.out++[r]}
 else if x.hi<r.lo/\1<r.lo-x.hi then(if x.done then{x with out:=x.out++[r]}else{x with out:=x.out++[⟨x.lo,x.hi⟩]++[r],done:=ρ})
 else{x with lo:=min x.lo r.lo,hi:=max x.hi r.hi}
def eh.end_(x:eh):List Rg:=if x.done then x.out else x.out++[⟨x.lo,x.hi⟩]
def nT(lo hi:Int)(l:List Rg):eh:=l.foldl eh.step ⟨lo,hi,[],θ⟩
def cg.put(s:cg)(l:List Rg):cg:=if s.aJ<(l.length:Int)then⟨l.drop 1,(an l 0).hi+1,s.aJ⟩else{s with l:=l}
def cg.add(s:cg)(lo hi:Int):cg:=if hi<max lo s.floor then s else s.put (nT (max lo s.floor) hi s.l).end_
def Ty(w:D)(b:Nat)(t:TypeId):Prop:=∃a fr,w.heap[b]?=E (ο a t fr)
def Ty.ne{u:TypeId}(h:Ty w n T)(k:Ty w b u)(a:T≠u):n≠b:=by
 rintro rfl;let⟨c,fr,h⟩:=h
 let⟨d,e,k⟩:=k
 grind
def Ty.lt(h:Ty w b T):b<w.heap.size:=by
 let⟨a,fr,h⟩:=h
 grind
def Ty.aA(h:Ty w b T)(C:aj w W S)(a:¬S b):Ty W b T:=by
 have hl:=h.lt;let⟨c,fr,h⟩:=h
 exact⟨c,fr,(C.block b hl a).trans h⟩
structure fg(w:D)(b:Nat)(v:υ)(s:cg):Prop where
 aG:w.heap[b]?=E (ο #[v,I U s.floor,I X s.aJ] 135 (0,0))
 row:∃a n c,v=Y a n c/\bq w a n c s.l/\∀y,a=E y->Ty w y.block 200
def fg.aA{s:cg}(h:fg w b x s)(C:aj w W S)(i:¬S b)(g:∀k,S k->¬Ty w k 200):fg W b x s:=by
 let⟨a,n,c,e,j,f⟩:=h.row
 refine⟨(C.block b (aV.1 h.aG).1 i).trans h.aG,a,n,c,e,j.dR (λ_ y d=>C.block _ (f y d).lt (λhs=>g _ hs (f y d))),λy d=>(f y d).aA C (λhs=>g _ hs (f y d))⟩
def fg.ag{s:cg}(h:fg w b x s)(g:G w W N):fg W b x s:=h.aA (aj.of g) (nofun) (nofun)
def FV(w:D)(aJ:Int)(h:1<=aJ):Calls prog 36 #[I X aJ] w λe b=>e=ξ (π (E ⟨w.heap.size,0,N⟩))/\fg b w.heap.size (Y N 0 0) ⟨[],0,aJ⟩/\G w b N:=by
 have c:Hid (fg (w.alloc (ο #[Y N 0 0,I U 0,I X aJ] 135)) w.heap.size (Y N 0 0) ⟨[],0,aJ⟩):=J ⟨aM _ _,N,0,0,Q,qd _,λy e=>(by cases e)⟩;have a:=aC w (ο #[Y N 0 0,I U 0,I X aJ] 135) N;replace a:=J a;go_enter func36,ntmps36;go_wp2;go_ret;exact⟨Q,Z c,Z a⟩
def P7(w:D)(b:Nat)(v:υ)(s:cg)(h:fg w b v s)(n:Int):Calls prog 77 #[π (E ⟨b,0,N⟩),I U n] w λe M=>e=ξ (β (s.has n))/\G w M N:=by
 obtain⟨R,t⟩:∃R:Bool,R=s.has n:=⟨_,Q⟩
 rw[<-t];obtain⟨a,m,c,rfl,hs,-⟩:=h.row;obtain⟨c0,c1,-⟩:=iq h.aG;by_cases K:n<s.floor
 .have d1:decide (n<s.floor)=ρ:=bU K;have B:R=ρ:=by rw[t];unfold cg.has;rw[d1];rfl
  rw[B];go_enter func77,ntmps77;go_wp2;go_ret;exact⟨Q,au _ _⟩
 have d1:decide (n<s.floor)=θ:=bT K;have k:R=s.l.any (λr=>decide (r.lo<=n)&&decide (n<=r.hi)):=by rw[t];unfold cg.has;rw[d1];rfl
 have p:=hs.2.1;have hc:=hs.2.2.1;have P:=hs.2.2.2.1;unfold maxLen at P;replace⟨k,hs,p⟩:=cA k hs p;clear t h;go_enter func77,ntmps77;go_upto_region 4 with fail;go_loopg [5] (m+1) (λg S wr=>∃j:Nat,j<=m/\S=I X j/\g=m+1-j/\wr=w/\∀i,i<j->¬((an s.l i).lo<=n/\n<=(an s.l i).hi));case atStart=>exact⟨0,O,Q,O,Q,λi hi=>O⟩
 case round=>
  obtain⟨j,hj,rfl,rfl,rfl,d⟩:=hrel;by_cases T:j<m
  .obtain⟨b1,f,rfl,V⟩:∃b1 f,a=E ⟨b1,f,N⟩/\κ wr ⟨b1,f+j*2,N⟩=E (I U (an s.l j).lo)/\κ wr ⟨b1,f+j*2+1,N⟩=E (I U (an s.l j).hi):=by
    obtain h0|⟨b1,f,rfl,L⟩:=(Z hs).2.2.2.2
    omega;exact⟨b1,f,Q,(Z hs).cell j (by have:=Z p;omega)⟩
   obtain⟨W,y1⟩:=V;have i0:(0:Int)<=j:=O;have i1:(j:Int)<m:=O;obtain⟨lo,u⟩:=í ((an s.l j).lo);obtain⟨hi,x⟩:=í ((an s.l j).hi);rw[<-u]at W;rw[<-x]at y1;have q:Hid (¬(lo<=n/\n<=hi)->∀i,i<j+1->¬((an s.l i).lo<=n/\n<=(an s.l i).hi)):=J (λC i a0=>by
    by_cases e:i=j;subst e;rw[<-u,<-x];exact C
    .exact d i O)
   have y:Hid (lo<=n/\n<=hi->R=ρ):=J (λC=>by
    rw[Z k,tu];exact⟨an s.l j,lL (by have:=Z p;omega),by rw[<-u,<-x];simpa using C⟩)
   replace d:=J d;clear u x;by_cases z:lo<=n
   .have e1:decide (lo<=n)=ρ:=bU z;by_cases A:n<=hi
    .have e2:decide (n<=hi)=ρ:=bU A;have B:=J (Z y ⟨z,A⟩);clear k y q;go_wp2;go_ret;exact⟨by rw[Z B];rfl,au _ _⟩
    have e2:decide (n<=hi)=θ:=bT A;have F:=J (Z q (λh=>A h.2));clear y q;go_wp2;go_roundg (m+1-(j+1));case measure=>omega
    case rel=>exact⟨j+1,O,by push_cast;rfl,Q,Q,Z F⟩
   have e1:decide (lo<=n)=θ:=bT z;have F:=J (Z q (λh=>z h.1));clear y q;go_wp2;go_roundg (m+1-(j+1));case measure=>omega
   case rel=>exact⟨j+1,O,by push_cast;rfl,Q,Q,Z F⟩
  have i1:¬((j:Int)<m):=O;have i2:=T;have H:R=θ:=by
   rw[Z k];rw[List.any_eq_false];intro r L;obtain⟨i,hi,rfl⟩:=ko.1 L;have:=d i (by have:=Z p;omega);have e:an s.l i=s.l[i]:=by simp[an,List.getD,hi]
   rw[e]at this;simpa using this
  replace⟨H,d⟩:=aT H d;go_wp2;go_ret;exact⟨by rw[Z H];rfl,au _ _⟩
end
section
variable{p q:Int}{s:List Rg}{b i j k n o:Nat}{a:Option Addr}{x y z:υ}{V W:D}
def dQ(x:Int):Prop:=0<=x/\x<=4611686018427387904
def cg.ok(s:cg):Prop:=(∀r∈s.l,dQ r.lo/\dQ r.hi)/\dQ s.floor/\s.l.length<=1000000/\1<=s.aJ
def rK(w d:D)(b:Nat)(v:υ)(s:cg):Prop:=∃a,fg d b a s/\G w d (E b)/\(a=v\/∀y n c,a=Y (E y) n c->w.heap.size<=y.block)
structure yG(x:eh)(j:Nat):Prop where
 lo:dQ x.lo
 hi:dQ x.hi
 out:∀r∈x.out,dQ r.lo/\dQ r.hi
 len:x.out.length<=2*j
def dQ.w(h:dQ p):aZ p:=by unfold dQ at h;unfold aZ;omega
def yG.step{x:eh}(h:yG x j){r:Rg}(b:dQ r.lo/\dQ r.hi):yG (x.step r) (j+1):=by
 have c:=h.lo;have d:=h.hi;have f:=h.len;unfold eh.step;split;exact⟨c,d,λq a=>(b9.1 a).elim (h.out q) (λe=>by rw[eE.1 e];exact b),Ψ⟩
 split;split;exact⟨c,d,λq a=>(b9.1 a).elim (h.out q) (λe=>by rw[eE.1 e];exact b),Ψ⟩
 refine⟨c,d,λq a=>?_,Ψ⟩
 obtain a|a:=b9.1 a
 obtain a|a:=b9.1 a
 exact h.out q a;grind;grind;obtain⟨g,i⟩:=b;unfold dQ at *;exact⟨by unfold dQ;simp only;omega,by unfold dQ;simp only;omega,h.out,by simp only;omega⟩
def ky(lo hi:Int)(l:List Rg)(j:Nat):eh:=(l.take j).foldl eh.step ⟨lo,hi,[],θ⟩
def FW(lo hi:Int)(l:List Rg)(j:Nat)(h:j<l.length):ky lo hi l (j+1)=(ky lo hi l j).step (an l j):=by
 unfold ky;rw[oa h,wU];simp[an,List.getD,h]
def Qa(lo hi:Int)(l:List Rg):ky lo hi l l.length=nT lo hi l:=by unfold ky nT;rw[kC]
def Qb(a:dQ p)(b:dQ q)(hl:∀r∈s,dQ r.lo/\dQ r.hi):∀j,j<=s.length->yG (ky p q s j) j:=by
 intro j;induction j with
 |zero=>exact λ_=>⟨a,b,λr c=>(by cases c),by simp[ky]⟩
 |succ j d=>
  intro e;rw[FW p q s j O];exact(d O).step (hl _ (lL O))
def Qc(h:fJ W n x s){r:Rg}(i:r.ok)(h0:κ W ⟨b,o,N⟩=E (I U r.lo))(f:κ W ⟨b,o+1,N⟩=E (I U r.hi))(j:s.length<=100000000)(k:n<=W.heap.size)(c:Nat):
 ∃d e g a,(Builtin.append_ #[133,133] 133 #[x,Y (E ⟨b,o,N⟩) 1 c]).run prog W=.ok (Y d e g) a/\fJ a n (Y d e g) (s++[r])/\G W a x.ownBlock:=by
 obtain⟨d,e,l,a,f,m,p,-⟩:=zZ (w:=W) 133 n x s h b o c r i h0 f j k;grind
def Qd{wr:D}(g:G W wr N)(a:fJ wr W.heap.size x s)(b:G wr V x.ownBlock):G W V N:=
 cO g b (λj e=>φ (a.lt j e).1)
def fJ.Qe(w:D)(a:Nat):fJ w a (Y N 0 0) []:=⟨λx b=>by simp at b,lI _ _ _ _⟩
def fJ.ty(h:fJ W k (Y a n i) s):∀y,a=E y->Ty W y.block 200:=by
 obtain⟨-,-,⟨e,-⟩|⟨g,d,b,e1,e2,c,-⟩⟩:=h;simp_all;rintro y rfl;have:=(lJ e1).1;cases this;exact⟨b,_,c⟩
structure kQ(w:D)(b:Nat)(v:υ)(s:cg)(x:eh)(a:υ)(wr:D):Prop where
 g:G w wr N
 own:fJ wr w.heap.size a x.out
def kQ.gb{w wr:D}{s:cg}{x:eh}(h:kQ w b y s x z wr)(g:G wr W N):kQ w b y s x z W:=⟨aq h.g g,h.own.ag g⟩
def kQ.app{wr:D}{s:cg}{x:eh}(h:kQ W b z s x y wr){r:Rg}(j:dQ r.lo/\dQ r.hi)(hl:x.out.length<=10000000)(l:V=wr.alloc (ο #[I U r.lo,I U r.hi] 200)):
 ∃c d f a,(Builtin.append_ #[133,133] 133 #[y,Y (E ⟨wr.heap.size,0,N⟩) 1 1]).run prog V=.ok (Y c d f) a/\(∀i:eh,i.out=x.out++[r]->kQ W b z s i (Y c d f) a)/\∀k,k<wr.heap.size->y.ownBlock≠E k->a.heap[k]?=wr.heap[k]? :=by
 have gb:G wr V N:=by rw[l];exact aC _ _ _
 have w:V.heap[wr.heap.size]?=E (ο #[I U r.lo,I U r.hi] 200 (0,0)):=by rw[l];exact aM _ _
 have m:=h.own.ag gb;obtain⟨c,d,f,a,q,t,n⟩:=Qc m (r:=r) ⟨j.1.w,j.2.w⟩ (b:=wr.heap.size) (o:=0) (by simp_all) (by simp_all) O (bG h.g.size gb.size) 1;exact⟨c,d,f,a,q,λi u=>⟨Qd (aq h.g gb) m n,by rw[u];exact t⟩,λk p v=>(n.block k (bX p gb.size) (λe=>v e.symm)).trans (gb.block k p Γ)⟩
def kQ.Qf{s:cg}{x:eh}(h:kQ V b z s x (Y a k i) W)(H:fg V b z s)(hl:¬s.aJ<(x.out.length:Int)):rK V (ζ W ⟨b,0,N⟩ (Y a k i)) b z (s.put x.out):=by
 have m:=(aV.1 H.aG).1;have j:=bp H.aG h.g;have d:=aD (au W (E b)) ⟨b,0,N⟩ (Y a k i) (ψ Q);have f:=h.own.gb d (ψ (λe=>by have:=(h.own.lt b e).1;omega));have e:s.put x.out={s with l:=x.out}:=by unfold cg.put;rw[aE hl]
 rw[e];refine⟨Y a k i,⟨heap_set j _,a,k,i,Q,f.iL.1,f.ty⟩,aq (cK h.g _) d,ψ (λy n c e=>?_)⟩
 obtain⟨rfl,rfl,rfl⟩:=lJ e;exact(h.own.lt _ Q).1
def kQ.Qg{s:cg}{x:eh}(h:kQ V b y s x (Y a k i) W)(H:fg V b y s)(hl:s.aJ<(x.out.length:Int))(t:0<x.out.length):rK V ((ζ W ⟨b,1,N⟩ (I U ((an x.out 0).hi+1))).setCell ⟨b,0,N⟩ (Y (if i=1 then a else a.map (·.add (1*2))) (k-1) (i-1))) b y (s.put x.out):=by
 have u:=(aV.1 H.aG).1;have m:=bp H.aG h.g;have p:=aD (au W (E b)) ⟨b,1,N⟩ (I U ((an x.out 0).hi+1)) (ψ Q);have f:=aD p ⟨b,0,N⟩ (Y (if i=1 then a else a.map (·.add (1*2))) (k-1) (i-1)) (ψ Q);have j:=h.own.gb f (ψ (λe=>by have:=(h.own.lt b e).1;omega));have e:s.put x.out=⟨x.out.drop 1,(an x.out 0).hi+1,s.aJ⟩:=by unfold cg.put;rw[aH hl]
 rw[e];have l:=j.iL.1;refine⟨_,⟨heap_set (heap_set m _) _,_,_,_,Q,l.rest 1 (by rw[l.2.1];omega),λq r=>?_⟩,aq (cK h.g _) f,ψ (λq n c e=>?_)⟩
 obtain⟨z,d,e2⟩:=Az r;rw[<-e2];exact j.ty z d;obtain⟨e1,-,-⟩:=lJ e;obtain⟨z,d,e2⟩:=Az e1;rw[<-e2];exact(h.own.lt z.block (by rw[d];rfl)).1
def AZ(w:D)(b:Nat)(v:υ)(s:cg)(h:fg w b v s)(hs:s.ok)(lo hi:Int)(ek:dQ lo)(dv:dQ hi):Calls prog 78 #[π (E ⟨b,0,N⟩),I U lo,I U hi] w λe w'=>e=ξ (τ #[])/\rK w w' b v (s.add lo hi):=by
 obtain⟨a,m,c,rfl,hr,eo⟩:=h.row;obtain⟨c0,c1,c2,cf⟩:=iq h.aG;obtain⟨s1,s2,s3,s4⟩:=hs;have hm:=hr.2.1;have hc:=hr.2.2.1;have dx:=hr.2.2.2.1;unfold maxLen at dx;refine js λR hR=>?_
 obtain⟨L,T⟩:=í (max lo s.floor);have ea:dQ L:=by rw[T];unfold dQ at *;omega
 replace⟨hR,h,hr,hm,cf⟩:=gT hR h hr hm cf;by_cases h2:hi<L
 .have c9:Hid (R w):=J (by
   rw[Z hR];have e:s.add lo hi=s:=by unfold cg.add;rw[<-T,aH h2]
   simp only[e]
   exact⟨_,Z h,au _ _,φ Q⟩)
  by_cases h1:lo<s.floor
  .have e:L=s.floor:=by rw[T];omega
   clear T;subst e;have d2:decide (s.floor>hi)=ρ:=bU h2;go_enter func78,ntmps78;go_wp2_with fail;exact cC (dV Q _ _ _) Q ⟨Q,Z c9⟩
  have e:lo=L:=by rw[T];omega
  clear T;subst e;have d2:decide (lo>hi)=ρ:=bU h2;go_enter func78,ntmps78;go_wp2_with fail;exact cC (dV Q _ _ _) Q ⟨Q,Z c9⟩
 have b5:s.add lo hi=s.put (nT L hi s.l).end_:=by unfold cg.add;rw[<-T,aE h2]
 have hA:=J (Qb (p:=L) (q:=hi) ea dv s1);have eb:Hid (kQ w b (Y a m c) s (ky L hi s.l 0) (Y N 0 0) w):=J ⟨au _ _,fJ.Qe _ _⟩;by_cases h1:lo<s.floor;all_goals
  go_enter func78,ntmps78
  go_upto_region 5 with fail
  go_cut [1,6,7,8] (λv1 v6 v7 v8 wx=>v1=I U L/\v6=Y N 0 0/\v7=β θ/\v8=I X 0/\wx=w)
  case first=>
   have e1:Hid (lo<s.floor->L=s.floor):=J (λ_=>by rw[T];omega)
   have e2:Hid (¬lo<s.floor->L=lo):=J (λ_=>by rw[T];omega)
   have da:=J h1
   replace T:=J T
   go_wp2
   go_meet
   exact⟨by first|rw[Z e1 (Z da)]|rw[Z e2 (Z da)],Q,Q,Q,Q⟩
  case rest=>
   obtain⟨rfl,rfl,rfl,rfl,rfl⟩:=hcut
   replace⟨h1,T,b5⟩:=cA h1 T b5
   go_upto_region 6 with fail
   go_loopg [1,2,6,7,8] (m+1) (λg v1 v2 v6 v7 v8 wr=>∃(j:Nat)(a6:Option Addr)(n6 c6:Nat),j<=m/\v8=I X j/\g=m+1-j/\v1=I U (ky L hi s.l j).lo/\v2=I U (ky L hi s.l j).hi/\v7=β (ky L hi s.l j).done/\v6=Y a6 n6 c6/\kQ wc b (Y a m c) s (ky L hi s.l j) (Y a6 n6 c6) wr)
   case atStart=>exact⟨0,N,0,0,O,Q,O,Q,Q,Q,Q,Z eb⟩
   case round=>
    obtain⟨j,a6,n6,c6,hj,rfl,rfl,rfl,rfl,rfl,rfl,A⟩:=hrel
    have d0:=ì A.g c0
    have er:=ì A.g c1
    have et:=ì A.g c2
    by_cases ev:j<m
    .have ch:j<s.l.length:=by have:=Z hm;omega
     obtain⟨b1,o1,rfl,y0,y1⟩:∃b1 o1,a=E ⟨b1,o1,N⟩/\κ wr ⟨b1,o1+j*2,N⟩=E (I U (an s.l j).lo)/\κ wr ⟨b1,o1+j*2+1,N⟩=E (I U (an s.l j).hi):=by
      obtain h0|⟨b1,o1,rfl,-⟩:=(Z hr).2.2.2.2
      omega;have:=(Z hr).cell j ch;exact⟨b1,o1,Q,ì A.g this.1,ì A.g this.2⟩
     have i0:(0:Int)<=j:=O;have i1:(j:Int)<m:=O;have z:=Z hA j O;have bM:=s1 _ (lL ch);have b6:=FW L hi s.l j ch;have b7:=z.len;obtain⟨x,hx⟩:=í (ky L hi s.l j);obtain⟨r,db⟩:=í (an s.l j);rw[<-hx]at A z b6 b7⊢;rw[<-db]at y0 y1 bM b6;clear hx db;obtain⟨W1,b8⟩:=í (wr.alloc (ο #[I U r.lo,I U r.hi] 200));have g1:G wr W1 N:=by rw[b8];exact aC _ _ _
     have br:W1.heap[wr.heap.size]?=E (ο #[I U r.lo,I U r.hi] 200 (0,0)):=by rw[b8];exact aM _ _
     have z0:κ W1 ⟨wr.heap.size,0,N⟩=E (I U r.lo):=by simp[κ,br]
     have z1:κ W1 ⟨wr.heap.size,1,N⟩=E (I U r.hi):=by simp[κ,br]
     have a9:=A.gb g1;have e0:=ì g1 d0;have a4:=J (λ(q:Rg)(hq:dQ q.lo/\dQ q.hi)(dc:eh) ec W(p:kQ wc b (Y (E ⟨b1,o1,N⟩) m c) s dc ec W)(hl:dc.out.length<=10000000)=>p.app hq hl Q);have ax:Hid (∀y,ky L hi s.l (j+1)=y->∀a' n' c' W',kQ wc b (Y (E ⟨b1,o1,N⟩) m c) s y (Y a' n' c') W'->∃(k:Nat)(a6:Option Addr)(n6 c6:Nat),k<=m/\(I X ((j:Int)+1))=I X k/\m+1-(j+1)=m+1-k/\(I U y.lo)=I U (ky L hi s.l k).lo/\(I U y.hi)=I U (ky L hi s.l k).hi/\(β y.done)=β (ky L hi s.l k).done/\(Y a' n' c')=Y a6 n6 c6/\kQ wc b (Y (E ⟨b1,o1,N⟩) m c) s (ky L hi s.l k) (Y a6 n6 c6) W'):=J (λy hy a' n' c' W' p=>⟨j+1,a',n',c',O,by push_cast;rfl,Q,by rw[hy],by rw[hy],by rw[hy],Q,by rw[hy];exact p⟩);rw[b6]at ax;obtain⟨rl,d⟩:=r;obtain⟨i,f,xo,xd⟩:=x;simp only at *;unfold dQ at bM;have cm:=z.lo;have cp:=z.hi;unfold dQ at cm cp;simp only at cm cp;replace⟨A,a9,br,z⟩:=fB A a9 br z;clear b6;go_upto_region 9 with fail;rw[<-b8];clear b8 y0 y1 d0;obtain⟨P,hP⟩:∃P:Prop,P=(d<i/\1<i-d):=⟨_,Q⟩
     obtain⟨bb,hQ⟩:∃bb:Prop,bb=(f<rl/\1<rl-f):=⟨_,Q⟩
     replace⟨hP,hQ⟩:=aT hP hQ;go_cut [49] (λv wx=>(∃t,v=β t/\(t=ρ↔P))/\wx=W1);case first=>
      by_cases q1:d<i
      .have e1:decide (d<i)=ρ:=bU q1;have e2:U.wrap (i-d)=i-d:=by rw[cZ];omega
       by_cases S:1<i-d
       .have e3:decide (i-d>1)=ρ:=bU S;have hT:Hid P:=J (by rw[Z hP];exact⟨q1,S⟩);go_wp2;go_meet;exact⟨⟨ρ,Q,by simp[Z hT]⟩,Q⟩
       have e3:decide (i-d>1)=θ:=bT S;have hT:Hid (¬P):=J (by rw[Z hP];exact λh=>S h.2);go_wp2;go_meet;exact⟨⟨θ,Q,by simp[Z hT]⟩,Q⟩
      have e1:decide (d<i)=θ:=bT q1;have hT:Hid (¬P):=J (by rw[Z hP];exact λh=>q1 h.1);go_wp2;go_meet;exact⟨⟨θ,Q,by simp[Z hT]⟩,Q⟩
     case rest=>
      obtain⟨⟨t,rfl,ht⟩,rfl⟩:=hcut;replace ht:=J ht;rename D=>W1
      cases t
      .go_upto_region 11 with fail;go_cut [64] (λv wx=>(∃t,v=β t/\(t=ρ↔bb))/\wx=W1);case first=>
        by_cases q1:f<rl
        .have e1:decide (rl>f)=ρ:=bU q1;have e2:U.wrap (rl-f)=rl-f:=by rw[cZ];omega
         by_cases S:1<rl-f
         .have e3:decide (rl-f>1)=ρ:=bU S;have hT:Hid bb:=J (by rw[Z hQ];exact⟨q1,S⟩);go_wp2;go_meet;exact⟨⟨ρ,Q,by simp[Z hT]⟩,Q⟩
         have e3:decide (rl-f>1)=θ:=bT S;have hT:Hid (¬bb):=J (by rw[Z hQ];exact λh=>S h.2);go_wp2;go_meet;exact⟨⟨θ,Q,by simp[Z hT]⟩,Q⟩
        have e1:decide (rl>f)=θ:=bT q1;have hT:Hid (¬bb):=J (by rw[Z hQ];exact λh=>q1 h.1);go_wp2;go_meet;exact⟨⟨θ,Q,by simp[Z hT]⟩,Q⟩
       case rest=>
        obtain⟨⟨t,rfl,ca⟩,rfl⟩:=hcut;replace ca:=J ca;rename D=>W1
        have bt:¬(d<i/\1<i-d):=λh=>by
         have h3:P:=by rw[Z hP];exact h
         have:=(Z ht).2 h3;cases this
        cases t
        .have de:¬(f<rl/\1<rl-f):=λh=>by
          have h3:bb:=by rw[Z hQ];exact h
          have:=(Z ca).2 h3;cases this
         have ai:(eh.step ⟨i,f,xo,xd⟩ ⟨rl,d⟩)=⟨min i rl,max f d,xo,xd⟩:=by unfold eh.step;rw[aE bt,aE de]
         have B:=Z ax _ ai a6 n6 c6 W1 ⟨(Z a9).g,(Z a9).own⟩;replace B:=J B;clear ai bt de a4 ax;by_cases q1:rl<i
         .have e1:decide (rl<i)=ρ:=bU q1;have m1:min i rl=rl:=O;by_cases S:f<d
          .have e2:decide (d>f)=ρ:=bU S;have m2:max f d=d:=O;simp only[m1,m2]at B;clear m1 m2;go_wp2;go_roundg (m+1-(j+1));case measure=>omega
           case rel=>exact Z B
          have e2:decide (d>f)=θ:=bT S;have m2:max f d=f:=O;simp only[m1,m2]at B;clear m1 m2;go_wp2;go_roundg (m+1-(j+1));case measure=>omega
          case rel=>exact Z B
         have e1:decide (rl<i)=θ:=bT q1;have m1:min i rl=i:=O;by_cases S:f<d
         .have e2:decide (d>f)=ρ:=bU S;have m2:max f d=d:=O;simp only[m1,m2]at B;clear m1 m2;go_wp2;go_roundg (m+1-(j+1));case measure=>omega
          case rel=>exact Z B
         have e2:decide (d>f)=θ:=bT S;have m2:max f d=f:=O;simp only[m1,m2]at B;clear m1 m2;go_wp2;go_roundg (m+1-(j+1));case measure=>omega
         case rel=>exact Z B
        have cc:f<rl/\1<rl-f:=by have:=(Z ca).1 Q;rwa[Z hQ]at this
        cases xd
        .obtain⟨a7,n,c7,K,M,ak,dg⟩:=Z a4 ⟨i,f⟩ (by unfold dQ;exact⟨cm,cp⟩) _ _ _ (Z a9) (by simp only;omega);have ct:K.heap[wr.heap.size]?=E (ο #[I U rl,I U d] 200 (0,0)):=by
          rw[dg _ (aV.1 (Z br)).1 (λe=>by have:=((Z A).own.lt _ e).2;omega)];exact Z br
         have ey:κ K ⟨wr.heap.size,0,N⟩=E (I U rl):=by simp[κ,ct]
         have ez:κ K ⟨wr.heap.size,1,N⟩=E (I U d):=by simp[κ,ct]
         have dk:=ak ⟨i,f,xo++[⟨i,f⟩],ρ⟩ Q;obtain⟨a8,n8,c8,W8,cv,dm,-⟩:=Z a4 ⟨rl,d⟩ bM _ _ _ dk Ψ;have ai:(eh.step ⟨i,f,xo,θ⟩ ⟨rl,d⟩)=⟨i,f,xo++[⟨i,f⟩]++[⟨rl,d⟩],ρ⟩:=by unfold eh.step;rw[aE bt,aH cc];rfl
         have B:=Z ax _ ai _ _ _ _ (dm _ Q);replace⟨M,cv,B⟩:=cA M cv B;clear ak dk dm ai bt cc a4 ax ct dg;go_upto_region 14 with(at_builtin;refine jN Ξ 133 133 Ξ _ _ Ξ _ _ _ Ξ Ξ (Z M) ?_)
         go_wp2_with (at_builtin;refine jN Ξ 133 133 Ξ _ _ Ξ _ _ _ Ξ Ξ (Z cv) ?_);go_roundg (m+1-(j+1));case measure=>omega
         case rel=>exact Z B
        obtain⟨a7,n,c7,K,M,ak,-⟩:=Z a4 ⟨rl,d⟩ bM _ _ _ (Z a9) (by simp only;omega);have ai:(eh.step ⟨i,f,xo,ρ⟩ ⟨rl,d⟩)=⟨i,f,xo++[⟨rl,d⟩],ρ⟩:=by unfold eh.step;rw[aE bt,aH cc];rfl
        have B:=Z ax _ ai _ _ _ _ (ak _ Q);replace⟨M,B⟩:=aT M B;clear ak ai bt cc a4 ax;go_wp2_with (at_builtin;refine jN Ξ 133 133 Ξ _ _ Ξ _ _ _ Ξ Ξ (Z M) ?_);go_roundg (m+1-(j+1));case measure=>omega
        case rel=>exact Z B
      have dn:d<i/\1<i-d:=by have:=(Z ht).1 Q;rwa[Z hP]at this
      obtain⟨a7,n,c7,K,M,ak,-⟩:=Z a4 ⟨rl,d⟩ bM _ _ _ (Z a9) (by simp only;omega);have ai:(eh.step ⟨i,f,xo,xd⟩ ⟨rl,d⟩)=⟨i,f,xo++[⟨rl,d⟩],xd⟩:=by unfold eh.step;rw[aH dn]
      have B:=Z ax _ ai _ _ _ _ (ak _ Q);replace⟨M,B⟩:=aT M B;clear ak ai dn a4 ax;go_wp2_with (at_builtin;refine jN Ξ 133 133 Ξ _ _ Ξ _ _ _ Ξ Ξ (Z M) ?_);go_roundg (m+1-(j+1));case measure=>omega
      case rel=>exact Z B
    obtain rfl:j=m:=O
    have ed:=Z hm
    have i1:¬((j:Int)<j):=O
    have z:=Z hA j O
    have b7:=z.len
    have cw:ky L hi s.l j=nT L hi s.l:=by rw[ed];exact Qa _ _ _
    rw[cw]at A z b7⊢
    obtain⟨x,hx⟩:=í (nT L hi s.l)
    have bw:=J (λ(W:D)(y:eh) a7 n c7(p:kQ wc b (Y a j c) s y (Y a7 n c7) W)(hy:y.out=x.end_)(hl:¬s.aJ<(y.out.length:Int))=>(show R (ζ W ⟨b,0,N⟩ (Y a7 n c7)) by
     rw[Z hR];simp only;rw[Z b5,<-hx,<-hy];exact p.Qf (Z h) hl))
    have bx:=J (λ(W:D)(y:eh) a7 n c7(p:kQ wc b (Y a j c) s y (Y a7 n c7) W)(hy:y.out=x.end_)(hl:s.aJ<(y.out.length:Int))(h1:0<y.out.length)=>(show R ((ζ W ⟨b,1,N⟩ (I U ((an y.out 0).hi+1))).setCell ⟨b,0,N⟩ (Y (if c7=1 then a7 else a7.map (·.add (1*2))) (n-1) (c7-1))) by
     rw[Z hR];simp only;rw[Z b5,<-hx,<-hy];exact p.Qg (Z h) hl h1))
    rw[<-hx]at A z b7⊢
    have cx:=λ(W:D)(g:G wc W N)=>bp (Z h).aG g
    have bz:∀(W:D),G wc W N->κ W ⟨b,0,N⟩=E (Y a j c)/\κ W ⟨b,1,N⟩=E (I U s.floor)/\κ W ⟨b,2,N⟩=E (I X s.aJ)/\χ W ⟨b,0,N⟩=θ/\χ W ⟨b,1,N⟩=θ:=λW g=>by
     obtain⟨k0,k1,k2,kf⟩:=iq (cx W g);exact⟨k0,k1,k2,kf 0,kf 1⟩
    have bA:∀(W:D)(u:υ),G wc W N->(ζ W ⟨b,1,N⟩ u).cell? ⟨b,0,N⟩=E (Y a j c)/\(ζ W ⟨b,1,N⟩ u).frozen? ⟨b,0,N⟩=θ:=λW u g=>by
     have:=heap_set (o:=1) (cx W g) u;simp[κ,χ,this]
    have fj:∀(a7:Option Addr)(n c7:Nat)(_:1<=n)(W:D),(Instr.slice 133 (Y a7 n c7) (E (I X 1)) N N).run prog W=.ok (Y (if c7=1 then a7 else a7.map (·.add (1*2))) (n-1) (c7-1)) W:=λa7 n c7 hh W=>Ei a7 n c7 1 hh W
    replace⟨hx,cw⟩:=aT hx cw
    clear cx
    cases du:x.done
    .obtain⟨a7,n,c7,K,M,ak,-⟩:=A.app (r:=⟨x.lo,x.hi⟩) ⟨z.lo,z.hi⟩ O Q;obtain⟨C,hY⟩:=í (x.out++[(⟨x.lo,x.hi⟩:Rg)]);have p:=ak ⟨x.lo,x.hi,C,ρ⟩ hY;have a0:C=x.end_:=by unfold eh.end_;rw[du,hY];rfl
     have al:n=C.length:=p.own.iL.1.2.1;have bj:∀r∈C,dQ r.lo/\dQ r.hi:=λr a1=>by
      rw[hY]at a1;obtain a1|a1:=b9.1 a1
      exact z.out r a1;rw[eE.1 a1];exact⟨z.lo,z.hi⟩
     obtain⟨k0,k1,k2,ee,ei⟩:=bz K p.g;replace M:=J M;clear ak hY;by_cases a2:s.aJ<(C.length:Int)
     .have a3:0<C.length:=O;have ao:=p.own.iL.1;obtain⟨F,H,rfl,y1⟩:∃F H,a7=E ⟨F,H,N⟩/\κ K ⟨F,H+1,N⟩=E (I U (an C 0).hi):=by
       obtain h0|⟨F,H,rfl,-⟩:=ao.2.2.2.2
       have:=ao.2.1;have:=ao.2.2.1;simp only at *;omega;exact⟨F,H,Q,by have:=(ao.cell 0 a3).2;simpa using this⟩
      have V:=Z bx K _ _ n c7 p a0 a2 a3;have cy:=fj (E ⟨F,H,N⟩) n c7 O;obtain⟨a8,b3⟩:∃a8:Option Addr,a8=if c7=1 then E ⟨F,H,N⟩else(E (⟨F,H,N⟩:Addr)).map (·.add (1*2)):=⟨_,Q⟩
      rw[<-b3]at V cy;have b4:=bj _ (lL a3);have ej:U.wrap ((an C 0).hi+1)=(an C 0).hi+1:=by rw[cZ];have:=b4.2;unfold dQ at this;omega
      have e1:decide ((n:Int)>s.aJ)=ρ:=bU (by rw[al];omega);obtain⟨k5,k6⟩:=bA K (I U ((an C 0).hi+1)) p.g;generalize (an C 0).hi=h0 at *;replace V:=J V;have i7:(0:Int)<n:=O;clear al a2 a0 p b3 b4 bj ao bA bz fj bw bx a3;replace⟨A,z⟩:=aT A z;go_wp2_with (at_builtin;refine jN Ξ 133 133 Ξ _ _ Ξ _ _ _ Ξ Ξ (Z M) ?_);exact eP (dV Q _ _ _) Q ⟨Q,Z V⟩
     have V:=J (Z bw K _ a7 n c7 p a0 a2);have e1:decide ((n:Int)>s.aJ)=θ:=bT (by rw[al];omega);have e2:¬((n:Int)>s.aJ):=by rw[al];omega
     clear al a2 a0 p bj bA bz fj bw bx;replace⟨A,z⟩:=aT A z;go_wp2_with (at_builtin;refine jN Ξ 133 133 Ξ _ _ Ξ _ _ _ Ξ Ξ (Z M) ?_);exact eP (dV Q _ _ _) Q ⟨Q,Z V⟩
    have p:kQ wc b (Y a j c) s ⟨x.lo,x.hi,x.out,ρ⟩ (Y a6 n6 c6) wr:=⟨A.g,A.own⟩
    obtain⟨C,hY⟩:=í x.out
    have a0:C=x.end_:=by unfold eh.end_;rw[du,hY];rfl
    rw[<-hY]at p
    have al:n6=C.length:=p.own.iL.1.2.1
    have bj:∀r∈C,dQ r.lo/\dQ r.hi:=λr a1=>by rw[hY]at a1;exact z.out r a1
    obtain⟨k0,k1,k2,ee,ei⟩:=bz wr p.g
    clear hY
    obtain⟨a7,rfl⟩:=í a6
    obtain⟨n,rfl⟩:=í n6
    obtain⟨c7,rfl⟩:=í c6
    obtain⟨K,rfl⟩:=í wr
    by_cases a2:s.aJ<(C.length:Int)
    .have a3:0<C.length:=O;have ao:=p.own.iL.1;obtain⟨F,H,rfl,y1⟩:∃F H,a7=E ⟨F,H,N⟩/\κ K ⟨F,H+1,N⟩=E (I U (an C 0).hi):=by
      obtain h0|⟨F,H,rfl,-⟩:=ao.2.2.2.2
      have:=ao.2.1;have:=ao.2.2.1;simp only at *;omega;exact⟨F,H,Q,by have:=(ao.cell 0 a3).2;simpa using this⟩
     have V:=Z bx K _ _ n c7 p a0 a2 a3;have cy:=fj (E ⟨F,H,N⟩) n c7 O;obtain⟨a8,b3⟩:∃a8:Option Addr,a8=if c7=1 then E ⟨F,H,N⟩else(E (⟨F,H,N⟩:Addr)).map (·.add (1*2)):=⟨_,Q⟩
     rw[<-b3]at V cy;have b4:=bj _ (lL a3);have ej:U.wrap ((an C 0).hi+1)=(an C 0).hi+1:=by rw[cZ];have:=b4.2;unfold dQ at this;omega
     have e1:decide ((n:Int)>s.aJ)=ρ:=bU (by rw[al];omega);obtain⟨k5,k6⟩:=bA K (I U ((an C 0).hi+1)) p.g;generalize (an C 0).hi=h0 at *;replace V:=J V;have i7:(0:Int)<n:=O;clear al a2 a0 p b3 b4 bj ao bA bz fj bw bx a3;replace⟨A,z⟩:=aT A z;go_wp2_with fail;exact eP (dV Q _ _ _) Q ⟨Q,Z V⟩
    have V:=J (Z bw K _ a7 n c7 p a0 a2)
    have e1:decide ((n:Int)>s.aJ)=θ:=bT (by rw[al];omega)
    have e2:¬((n:Int)>s.aJ):=by rw[al];omega
    clear al a2 a0 p bj bA bz fj bw bx
    replace⟨A,z⟩:=aT A z
    go_wp2_with fail
    exact eP (dV Q _ _ _) Q ⟨Q,Z V⟩
end
section
variable{p q:Int}{K L:List Int}{s:List Rg}{b i j k l n o:Nat}{P S:Nat->Prop}{a:Option Addr}{T:TypeId}{x y z:υ}{W v w:D}
def dA{l:List υ}(h:w.ownsRow i T j x n l)(C:aj w W S)(c:∀k,x.ownBlock=E k->¬S k):W.ownsRow i T j x n l:=by
 let⟨d,a⟩:=h
 refine⟨d,?_⟩
 obtain a|⟨g,cap,cur,e1,e2,b,e⟩:=a
 simp_all;exact ψ ⟨g,_,_,e1,e2,(C.block g (aV.1 b).1 (c g (by rw[e1];rfl))).trans b,e⟩
def cN{l:List υ}(h:w.ownsRow i T j x n l):∀k,x.ownBlock=E k->Ty w k T:=by
 obtain⟨-,⟨e,-⟩|⟨g,c,d,e1,e2,b,-⟩⟩:=h;rw[e];intro k a;cases a;rw[e1];intro k a;cases a;exact⟨_,_,b⟩
def FX{l:List υ}(h:w.ownsRow k T j x n l)(d:i<=k):w.ownsRow i T j x n l:=by
 let⟨b,a⟩:=h
 refine⟨b,?_⟩
 obtain a|⟨g,cap,cur,e1,e2,c⟩:=a
 simp_all;exact ψ ⟨g,_,_,e1,O,c⟩
def ns{l:List υ}(h:w.ownsRow k T i x n l):∃a c,x=Y a n c/\n<=c/\c<=maxLen/\(a=N->n=0/\c=0)/\∀y,a=E y->y=⟨y.block,0,N⟩/\w.rangeAt y.block 0 l:=by
 obtain⟨q,⟨e,h0⟩|⟨g,b,r,e1,e2,d,f,m,s,t⟩⟩:=h;grind;refine⟨_,b,e1,f,m,λe=>(by cases e),λy p=>?_⟩
 cases p;refine⟨Q,λj u v=>?_⟩
 rw[eM,ba d];grind
structure dH where
 data:ByteArray
 af:cg
 finished:Bool
 given:Bool
 code:Int
 end_:Int
 high:Int
structure aL where
 data:List Int
 there:List Bool
 high:Int
 end_:Int
 ended:Bool
 given:Bool
 code:Int
 read:Int
 state:Int
structure ah where
 az:Int
 av:Int
 key:List Int
 me:Int
 closed:Int
 code:Int
 said:Bool
 next:Int
 aX:cg
 aU:cg
 due:List Int
 outs:Nat->dH
 ins:Nat->aL
 ay:List (Int×List Fr)
structure cz where
 aX:Nat
 aU:Nat
 ro:Nat
 ri:Nat
 co:Nat
 ci:Nat
 ob:Nat->Nat
 cb:Nat->Nat
 ib:Nat->Nat
 vg:υ
 ve:υ
 vc:Nat->υ
 vd:Nat->υ
 vt:Nat->υ
 pK:υ
 oM:υ
 aw:List (υ×List cX)
def mL(s:ah)(l:cz):List υ:=
 [I X s.az,I X s.av]++bv s.key++[I X s.me,I X s.closed,I U s.code,β s.said,I U s.next,π (E ⟨l.aX,0,N⟩),π (E ⟨l.aU,0,N⟩),l.pK,Y (E ⟨l.ro,0,N⟩) 4 l.co,Y (E ⟨l.ri,0,N⟩) 4 l.ci,l.oM]
def qk(o:dH)(cb:Nat):Array υ:= #[ς o.data,π (E ⟨cb,0,N⟩),β o.finished,β o.given,I U o.code,I U o.end_,I U o.high]
def nU(i:aL)(vd vt:υ):Array υ:= #[vd,vt,I U i.high,I U i.end_,β i.ended,β i.given,I U i.code,I U i.read,I X i.state]
def ql(l:List (υ×List cX))(n:List (Int×List Fr)):List υ:=(n.zip l).flatMap (λx=>[I U x.1.1,x.2.1])
structure yH(w:D)(s:ah)(l:cz):Prop where
 row:∀k,k<4->κ w ⟨l.ro,k,N⟩=E (π (E ⟨l.ob k,0,N⟩))
 gK:Ty w l.ro 108
 co:4<=l.co/\l.co<=maxLen
 out:∀k,k<4->w.heap[l.ob k]?=E (ο (qk (s.outs k) (l.cb k)) 110 (0,0))
 af:∀k,k<4->fg w (l.cb k) (l.vc k) (s.outs k).af
 od:∀i j,i<4->j<4->i≠j->l.ob i≠l.ob j
 cd:∀i j,i<4->j<4->i≠j->l.cb i≠l.cb j
structure yI(w:D)(s:ah)(l:cz):Prop where
 aX:fg w l.aX l.vg s.aX
 aU:fg w l.aU l.ve s.aU
 ne:l.aX≠l.aU
 nc:∀k,k<4->l.cb k≠l.aX/\l.cb k≠l.aU
structure yJ(w:D)(s:ah)(l:cz):Prop where
 row:∀k,k<4->κ w ⟨l.ri,k,N⟩=E (π (E ⟨l.ib k,0,N⟩))
 kz:Ty w l.ri 111
 ci:4<=l.ci/\l.ci<=maxLen
 aF:∀k,k<4->w.heap[l.ib k]?=E (ο (nU (s.ins k) (l.vd k) (l.vt k)) 114 (0,0))
 data:∀k,k<4->aS w 0 (l.vd k) (s.ins k).data
 there:∀k,k<4->w.ownsRow 0 4 1 (l.vt k) (s.ins k).there.length ((s.ins k).there.map (β ·))
 id:∀i j,i<4->j<4->i≠j->l.ib i≠l.ib j
 dd:∀i j,i<4->j<4->i≠j->∀k,(l.vd i).ownBlock=E k->(l.vd j).ownBlock≠E k
 td:∀i j,i<4->j<4->i≠j->∀k,(l.vt i).ownBlock=E k->(l.vt j).ownBlock≠E k
def vU(w:D)(s:ah)(l:cz):Prop:=w.ownsRow 0 30 1 l.pK s.due.length (s.due.map (I U ·))
structure um(w:D)(s:ah)(l:cz):Prop where
 row:w.ownsRow 0 192 2 l.oM s.ay.length (ql l.aw s.ay)
 len:l.aw.length=s.ay.length
 fr:∀(i:Nat)(x:Int×List Fr)(y:υ×List cX),s.ay[i]?=E x->l.aw[i]?=E y->x.2=y.2.map (·.1)/\w.ownsRow 0 158 7 y.1 y.2.length (lV y.2)/\∀z∈y.2,∃a n c,z.2=Y a n c
def gL(B:Nat->Prop)(v:υ):Prop:=∀y n c,v=Y (E y) n c->B y.block
structure Qh(B:Nat->Prop)(mb:Nat)(l:cz):Prop where
 m:B mb
 aX:B l.aX/\gL B l.vg
 aU:B l.aU/\gL B l.ve
 ro:B l.ro
 ri:B l.ri
 out:∀k,k<4->B (l.ob k)/\B (l.cb k)/\gL B (l.vc k)
 aF:∀k,k<4->B (l.ib k)/\gL B (l.vd k)/\gL B (l.vt k)
 due:gL B l.pK
 ay:gL B l.oM/\∀y∈l.aw,gL B y.1
structure bV(w:D)(mb:Nat)(l:cz)(s:ah)(B:Nat->Prop):Prop where
 aG:w.heap[mb]?=E (ο (mL s l).toArray 107 (0,0))
 key:cI s.key
 outs:yH w s l
 cq:yI w s l
 ins:yJ w s l
 due:vU w s l
 ay:um w s l
 bn:Qh B mb l
 lt:∀k,B k->k<w.heap.size
 n0:¬B 0
def qm(h:gL S x):∀k,x.ownBlock=E k->S k:=by
 intro k b;cases x with
 |slice a n c=>
  cases a with
  |none=>cases b
  |some y=>cases b;exact h y n c Q
 |_=>cases b
def fO(w:D)(S:Nat->Prop)(l:List TypeId):Prop:=∀k,S k->∀t∈l,¬Ty w k t
def fg.ty{s:cg}(h:fg w b x s):Ty w b 135:=⟨_,_,h.aG⟩
def yH.frame{s:ah}{l:cz}(h:yH w s l)(C:aj w W S)(b:fO w S [108,110,135,200]):yH W s l:=
 ⟨λk a=>(iB (C.block _ h.gK.lt (λe=>b _ e _ Γ h.gK))).trans (h.row k a),h.gK.aA C (λe=>b _ e _ Γ h.gK),h.co,λk a=>(C.block _ (aV.1 (h.out k a)).1 (λe=>b _ e _ Γ ⟨_,_,h.out k a⟩)).trans (h.out k a),λk a=>(h.af k a).aA C (λe=>b _ e _ Γ (h.af k a).ty) (λj e=>b j e _ Γ),h.od,h.cd⟩
def yI.frame{s:ah}{l:cz}(h:yI w s l)(C:aj w W S)(a:fO w S [135,200]):yI W s l:=
 ⟨h.aX.aA C (λe=>a _ e _ Γ h.aX.ty) (λj e=>a j e _ Γ),h.aU.aA C (λe=>a _ e _ Γ h.aU.ty) (λj e=>a j e _ Γ),h.ne,h.nc⟩
def yJ.frame{s:ah}{l:cz}(h:yJ w s l)(C:aj w W S)(b:fO w S [111,114,5,4]):yJ W s l:=
 ⟨λk a=>(iB (C.block _ h.kz.lt (λe=>b _ e _ Γ h.kz))).trans (h.row k a),h.kz.aA C (λe=>b _ e _ Γ h.kz),h.ci,λk a=>(C.block _ (aV.1 (h.aF k a)).1 (λe=>b _ e _ Γ ⟨_,_,h.aF k a⟩)).trans (h.aF k a),λk a=>⟨(h.data k a).1,dA (h.data k a).2 C (λj e1 e2=>b j e2 _ Γ (cN (h.data k a).2 j e1))⟩,λk a=>dA (h.there k a) C (λj e1 e2=>b j e2 _ Γ (cN (h.there k a) j e1)),h.id,h.dd,h.td⟩
def vU.frame{s:ah}{l:cz}(h:vU w s l)(C:aj w W S)(a:fO w S [30]):vU W s l:=dA h C (λj e1 e2=>a j e2 _ Γ (cN h j e1))
def um.frame{s:ah}{l:cz}(h:um w s l)(C:aj w W S)(c:fO w S [192,158]):um W s l:=
 ⟨dA h.row C (λj e1 e2=>c j e2 _ Γ (cN h.row j e1)),h.len,λi x y a b=>⟨(h.fr i x y a b).1,dA (h.fr i x y a b).2.1 C (λj e1 e2=>c j e2 _ Γ (cN (h.fr i x y a b).2.1 j e1)),(h.fr i x y a b).2.2⟩⟩
def Ty.uniq{u:TypeId}(h:Ty w k T)(a:Ty w k u):T=u:=by
 by_cases e:T=u;exact e;exact absurd Q (h.ne a e)
def fO.one(h:Ty w b T){l:List TypeId}(hl:T∉l):fO w (λk=>k=b) l:=λk e u a c=>by
 subst e;exact hl (h.uniq c▸a)
def bV.other{l:cz}{s:ah}(h:bV w o l s P)(C:aj w W S)(K:∀k,k<w.heap.size->S k->¬P k):bV W o l s P:=by
 have p:∀k,P k->W.heap[k]?=w.heap[k]? :=λk d=>C.block k (h.lt k d) (λe=>K k (h.lt k d) e d)
 have A:aj w W (λk=>¬P k):=⟨C.os,C.tape,C.output,C.size,λk d f=>p k (Classical.not_not.1 f)⟩
 have B:∀b v z,P b->gL P v->fg w b v z->fg W b v z:=λb v z r g F=>by
  let⟨a,n,c,e,L,M⟩:=F.row
  refine⟨(p b r).trans F.aG,a,n,c,e,L.dR (λ_ y H=>p _ (g y n c (by grind))),λy H=>(M y H).aA A (λf=>f (g y n c (by grind)))⟩
 have u:∀{t z v n}{q:List υ},gL P v->w.ownsRow 0 t z v n q->W.ownsRow 0 t z v n q:=λr g=>dA g A (λj e f=>f (qm r j e))
 refine⟨(p o h.bn.m).trans h.aG,h.key,⟨λk d=>(iB (p _ h.bn.ro)).trans (h.outs.row k d),h.outs.gK.aA A (λf=>f h.bn.ro),h.outs.co,λk d=>(p _ (h.bn.out k d).1).trans (h.outs.out k d),λk d=>B _ _ _ (h.bn.out k d).2.1 (h.bn.out k d).2.2 (h.outs.af k d),h.outs.od,h.outs.cd⟩,⟨B _ _ _ h.bn.aX.1 h.bn.aX.2 h.cq.aX,B _ _ _ h.bn.aU.1 h.bn.aU.2 h.cq.aU,h.cq.ne,h.cq.nc⟩,⟨λk d=>(iB (p _ h.bn.ri)).trans (h.ins.row k d),h.ins.kz.aA A (λf=>f h.bn.ri),h.ins.ci,λk d=>(p _ (h.bn.aF k d).1).trans (h.ins.aF k d),λk d=>⟨(h.ins.data k d).1,u (h.bn.aF k d).2.1 (h.ins.data k d).2⟩,λk d=>u (h.bn.aF k d).2.2 (h.ins.there k d),h.ins.id,h.ins.dd,h.ins.td⟩,u h.bn.due h.due,⟨u h.bn.ay.1 h.ay.row,h.ay.len,λi x y r g=>⟨(h.ay.fr i x y r g).1,u (h.bn.ay.2 y (uK g)) (h.ay.fr i x y r g).2.1,(h.ay.fr i x y r g).2.2⟩⟩,h.bn,λk d=>bX (h.lt k d) C.size,h.n0⟩
def bV.ag{l:cz}{s:ah}(h:bV w n l s S)(g:G w W N):bV W n l s S:=h.other (aj.of g) (λk _ e=>by cases e)
def bP(c:Nat)(w:D)(mb:Nat)(B:Nat->Prop)(s:ah)(a:D):Prop:=∃d b,bV a mb d s b/\(∀k,b k->B k\/c<=k)/\aj w a B
def bV.to{l:cz}{s:ah}(h:bV w n l s S)(g:G w W none){N:Nat}:bP N w n S s W:=⟨l,S,h.ag g,λk a=>φ a,(aj.of g).mono (λk _ e=>by cases e)⟩
variable{f:ah}
def A1{l:cz}(h:cI f.key)(i:Nat)(v:υ)(a:[I X f.me,I X f.closed,I U f.code,β f.said,I U f.next,π (E ⟨l.aX,0,N⟩),π (E ⟨l.aU,0,N⟩),l.pK,Y (E ⟨l.ro,0,N⟩) 4 l.co,Y (E ⟨l.ri,0,N⟩) 4 l.ci,l.oM][i]?=E v):(mL f l).toArray[18+i]?=E v:=by
 have b:(bv f.key).length=16:=by rw[gy,h.1]
 unfold mL;rw[tf,pQ (by grind)];simp_all
structure MC(w:D)(mb:Nat)(s:ah)(l:cz):Prop where
 c0:κ w ⟨mb,0,N⟩=E (I X s.az)
 c1:κ w ⟨mb,1,N⟩=E (I X s.av)
 key:w.rangeAt mb 2 (bv s.key)
 me:κ w ⟨mb,18,N⟩=E (I X s.me)
 closed:κ w ⟨mb,19,N⟩=E (I X s.closed)
 code:κ w ⟨mb,20,N⟩=E (I U s.code)
 said:κ w ⟨mb,21,N⟩=E (β s.said)
 next:κ w ⟨mb,22,N⟩=E (I U s.next)
 aX:κ w ⟨mb,23,N⟩=E (π (E ⟨l.aX,0,N⟩))
 aU:κ w ⟨mb,24,N⟩=E (π (E ⟨l.aU,0,N⟩))
 due:κ w ⟨mb,25,N⟩=E l.pK
 outs:κ w ⟨mb,26,N⟩=E (Y (E ⟨l.ro,0,N⟩) 4 l.co)
 ins:κ w ⟨mb,27,N⟩=E (Y (E ⟨l.ri,0,N⟩) 4 l.ci)
 ay:κ w ⟨mb,28,N⟩=E l.oM
 fz:∀o,χ w ⟨mb,o,N⟩=θ
def bV.mc{l:cz}(h:bV w n l f S):MC w n f l:=by
 have a:=λi v b=>(ba h.aG _).trans (A1 (f:=f) (l:=l) h.key i v b)
 refine⟨?_,?_,λj u c=>?_,a 0 _ Q,a 1 _ Q,a 2 _ Q,a 3 _ Q,a 4 _ Q,a 5 _ Q,a 6 _ Q,a 7 _ Q,a 8 _ Q,a 9 _ Q,a 10 _ Q,λo=>by simp[χ,h.aG]⟩
 rw[ba h.aG];simp[mL];rw[ba h.aG];simp[mL];rw[ba h.aG];unfold mL;grind
def uo(h:cI f.key):∃a b c k3 k4 k5 d e g i j k l m n p,bv f.key=[a,b,c,k3,k4,k5,d,e,g,i,j,k,l,m,n,p]:=rJ _ (by rw[gy,h.1])
def A5{l:cz}(h:cI f.key)(c:Int):(mL f l).toArray.setIfInBounds 19 (I X c)=(mL {f with closed:=c} l).toArray:=by
 let⟨_,_,_,_,_,_,_,_,_,_,_,_,_,_,_,_,e⟩:=uo h
 unfold mL;rw[e];rfl
def A7{l:cz}(h:cI f.key)(c:Int):(mL f l).toArray.setIfInBounds 20 (I U c)=(mL {f with code:=c} l).toArray:=by
 let⟨_,_,_,_,_,_,_,_,_,_,_,_,_,_,_,_,e⟩:=uo h
 unfold mL;rw[e];rfl
def FY{l:cz}(h:cI f.key)(c:Bool):(mL f l).toArray.setIfInBounds 21 (β c)=(mL {f with said:=c} l).toArray:=by
 let⟨_,_,_,_,_,_,_,_,_,_,_,_,_,_,_,_,e⟩:=uo h
 unfold mL;rw[e];rfl
def Qi{l:cz}(h:cI f.key)(c:Int):(mL f l).toArray.setIfInBounds 22 (I U c)=(mL {f with next:=c} l).toArray:=by
 let⟨_,_,_,_,_,_,_,_,_,_,_,_,_,_,_,_,e⟩:=uo h
 unfold mL;rw[e];rfl
def bV.Qj{l:cz}(h:bV w j l f S)(C:aj w W (λk=>k=j))(a:ah)(e:W.heap[j]?=E (ο (mL a l).toArray 107 (0,0)))(e1:a.key=f.key)(e2:a.outs=f.outs)(c:a.ins=f.ins)(g:a.aX=f.aX)(m:a.aU=f.aU)(p:a.due=f.due)(d:a.ay=f.ay):bV W j l a S:=by
 have b:Ty w j 107:=⟨_,_,h.aG⟩
 have o:=h.outs.frame C (fO.one b Θ);have t:=h.cq.frame C (fO.one b Θ);have i:=h.ins.frame C (fO.one b Θ);have n:=h.ay.frame C (fO.one b Θ);exact⟨e,e1▸h.key,⟨o.row,o.gK,o.co,e2▸o.out,e2▸o.af,o.od,o.cd⟩,⟨g▸t.aX,m▸t.aU,t.ne,t.nc⟩,⟨i.row,i.kz,i.ci,c▸i.aF,c▸i.data,c▸i.there,i.id,i.dd,i.td⟩,by unfold vU;rw[p];exact(h.due.frame C (fO.one b Θ)),⟨d▸n.row,d▸n.len,d▸n.fr⟩,h.bn,λk q=>bX (h.lt k q) C.size,h.n0⟩
def bV.qM{l:cz}(h:bV w n l f S)(o:Nat)(v:υ)(a:ah)(b:(mL f l).toArray.setIfInBounds o v=(mL a l).toArray)(e1:a.key=f.key)(e2:a.outs=f.outs)(c:a.ins=f.ins)(d:a.aX=f.aX)(g:a.aU=f.aU)(i:a.due=f.due)(j:a.ay=f.ay):bV (ζ w ⟨n,o,N⟩ v) n l a S/\aj w (ζ w ⟨n,o,N⟩ v) S:=by
 have C:=(aj.of (aD (au w (E n)) ⟨n,o,N⟩ v (ψ Q))).mono (λk _ e=>(aR e).symm);exact⟨h.Qj C a (b▸heap_set h.aG v) e1 e2 c d g i j,C.mono (λk _ e=>e▸h.bn.m)⟩
def bV.Qk{l:cz}(h:bV w b l f S)(d:k<4)(C:aj w W (λj=>j=l.ob k))(o:dH)(r:W.heap[l.ob k]?=E (ο (qk o (l.cb k)) 110 (0,0)))(s:o.af=(f.outs k).af):bV W b l {f with outs:=aB f.outs k o} S:=by
 have c:Ty w (l.ob k) 110:=⟨_,_,h.outs.out k d⟩
 have t:=h.cq.frame C (fO.one c Θ);have i:=h.ins.frame C (fO.one c Θ);have n:=h.ay.frame C (fO.one c Θ);have g:=h.outs.gK.ne c Θ;refine⟨(C.block b (h.lt _ h.bn.m) (Ty.ne ⟨_,_,h.aG⟩ c Θ)).trans h.aG,h.key,⟨λj a=>(iB (C.block _ h.outs.gK.lt g)).trans (h.outs.row j a),h.outs.gK.aA C g,h.outs.co,λj a=>?_,λj a=>?_,h.outs.od,h.outs.cd⟩,⟨t.aX,t.aU,t.ne,t.nc⟩,⟨i.row,i.kz,i.ci,i.aF,i.data,i.there,i.id,i.dd,i.td⟩,(h.due.frame C (fO.one c Θ)),⟨n.row,n.len,n.fr⟩,h.bn,λj a=>bX (h.lt j a) C.size,h.n0⟩
 by_cases e:j=k;subst e;simp only[bN];exact r;simp only[bI _ _ e]
 exact(C.block _ (aV.1 (h.outs.out j a)).1 (h.outs.od j k a d e)).trans (h.outs.out j a);have p:=(h.outs.af j a).aA C (λe=>(h.outs.af j a).ty.ne c Θ e) (λq e u=>by subst e;exact absurd (u.uniq c) Θ);by_cases e:j=k;subst e;simp only[bN];rw[s];exact p;simp only[bI _ _ e];exact p
def bV.uq{l:cz}(h:bV w n l f S)(a:k<4)(p:Nat)(v:υ)(o:dH)(b:(qk (f.outs k) (l.cb k)).setIfInBounds p v=qk o (l.cb k))(c:o.af=(f.outs k).af):bV (ζ w ⟨l.ob k,p,N⟩ v) n l {f with outs:=aB f.outs k o} S/\aj w (ζ w ⟨l.ob k,p,N⟩ v) S:=by
 have C:=(aj.of (aD (au w (E (l.ob k))) ⟨l.ob k,p,N⟩ v (ψ Q))).mono (λk _ e=>(aR e).symm);exact⟨h.Qk a C o (b▸heap_set (h.outs.out k a) v) c,C.mono (λj _ e=>e▸(h.bn.out k a).1)⟩
structure OC(w:D)(ob cb:Nat)(o:dH):Prop where
 c0:κ w ⟨ob,0,N⟩=E (ς o.data)
 c1:κ w ⟨ob,1,N⟩=E (π (E ⟨cb,0,N⟩))
 c2:κ w ⟨ob,2,N⟩=E (β o.finished)
 c3:κ w ⟨ob,3,N⟩=E (β o.given)
 c4:κ w ⟨ob,4,N⟩=E (I U o.code)
 c5:κ w ⟨ob,5,N⟩=E (I U o.end_)
 c6:κ w ⟨ob,6,N⟩=E (I U o.high)
 fz:∀p,χ w ⟨ob,p,N⟩=θ
def bV.oc{l:cz}(h:bV w n l f S)(a:k<4):OC w (l.ob k) (l.cb k) (f.outs k):=by
 have:=h.outs.out k a;unfold qk at this;exact⟨by simp[κ,this],by simp[κ,this],by simp[κ,this],by simp[κ,this],by simp[κ,this],by simp[κ,this],by simp[κ,this],λp=>by simp[χ,this]⟩
def ah.of(s:ah)(k:Int):Int:=if s.closed≠0 then 9 else if k<0\/4<=k then 2 else 0
def oN(w:D)(mb:Nat)(l:cz)(s:ah)(M:MC w mb s l)(k:Int):Calls prog 75 #[π (E ⟨mb,0,N⟩),I X k] w λe c=>e=ξ (I X (s.of k))/\c=w:=by
 have c3:=M.closed;unfold ah.of;by_cases h:s.closed=0
 .have e0:(s.closed !=0)=θ:=by simpa using h
  rw[aE (by simpa using h)];by_cases a:k<0
  .have d1:decide (k<0)=ρ:=bU a;rw[aH (φ a)];go_enter func75,ntmps75;go_wp2;go_ret;exact⟨Q,Q⟩
  have d1:decide (k<0)=θ:=bT a;by_cases b:4<=k
  .have d2:decide (k≥4)=ρ:=bU b;rw[aH (ψ b)];go_enter func75,ntmps75;go_wp2;go_ret;exact⟨Q,Q⟩
  have d2:decide (k≥4)=θ:=bT b;rw[ê];go_enter func75,ntmps75;go_wp2;go_ret;exact⟨Q,Q⟩
 have e0:(s.closed !=0)=ρ:=by simpa using h
 rw[aH h];go_enter func75,ntmps75;go_wp2;go_ret;exact⟨Q,Q⟩
def FZ(w:D)(mb:Nat)(l:cz)(s:ah)(M:MC w mb s l):Calls prog 69 #[π (E ⟨mb,0,N⟩)] w λe a=>e=ξ (I X s.closed)/\a=w:=by
 have c3:=M.closed;go_enter func69,ntmps69;go_wp2;go_ret;exact⟨Q,Q⟩
def ah.close(s:ah)(code:Int):Int×ah:=if s.closed≠0 then(9,s)else if 4611686018427387903<code then(3,s)else(0,{s with closed:=9,code:=code})
def Ql(w:D)(mb:Nat)(l:cz)(s:ah)(B:Nat->Prop)(H:bV w mb l s B)(code:Int):Calls prog 45 #[π (E ⟨mb,0,N⟩),I U code] w λe f=>e=ξ (I X (s.close code).1)/\bP w.heap.size w mb B (s.close code).2 f:=by
 refine r8 (λ(r:Int×ah) f=>bP w.heap.size w mb B r.2 f) (s.close code) λR b=>?_
 have M:=H.mc;have c3:=M.closed;unfold ah.close;by_cases h:s.closed=0
 .have e0:(s.closed !=0)=θ:=by simpa using h
  rw[aE (by simpa using h)];by_cases c:4611686018427387903<code
  .have d1:decide (code>4611686018427387903)=ρ:=bU c;rw[aH c];have a:Hid (R (3,s) w):=J (by rw[b];exact H.to (au _ _));go_enter func45,ntmps45;go_wp2;go_ret;exact⟨Q,Z a⟩
  have d1:decide (code>4611686018427387903)=θ:=bT c;rw[aE c];let⟨d,g⟩:=H.qM 19 _ _ (A5 H.key 9) Q Q Q Q Q Q Q
  let⟨i,j⟩:=d.qM 20 _ {s with closed:=9,code:=code} (A7 (f:={s with closed:=9}) H.key _) rfl rfl rfl rfl rfl rfl rfl
  have f19:=M.fz 19;have n:=d.mc.code;have f20:=d.mc.fz 20;have a:Hid (R (0,{s with closed:=9,code:=code}) ((ζ w ⟨mb,19,N⟩ (I X 9)).setCell ⟨mb,20,N⟩ (I U code))):=J (by rw[b];exact⟨l,B,i,λk m=>φ m,(g.trans j).mono (λk _ e=>e.elim id id)⟩);clear M b H d i g j;go_enter func45,ntmps45;go_wp2;go_ret;exact⟨Q,Z a⟩
 have e0:(s.closed !=0)=ρ:=by simpa using h
 rw[aH h];have a:Hid (R (9,s) w):=J (by rw[b];exact H.to (au _ _));go_enter func45,ntmps45;go_wp2;go_ret;exact⟨Q,Z a⟩
def vW(w:D)(a:Nat)(v:υ)(l:List Bool):Prop:=w.ownsRow a 4 1 v l.length (l.map (β ·))
structure qN(w:D)(ib:Nat)(vd vt:υ)(i:aL):Prop where
 aG:w.heap[ib]?=E (ο (nU i vd vt) 114 (0,0))
 data:aS w 0 vd i.data
 there:vW w 0 vt i.there
def bV.yK{l:cz}(h:bV w n l f S)(a:k<4):qN w (l.ib k) (l.vd k) (l.vt k) (f.ins k):=⟨h.ins.aF k a,h.ins.data k a,h.ins.there k a⟩
def rL(b:Nat)(v a:υ):Prop:=a.ownBlock=v.ownBlock\/∀k,a.ownBlock=E k->b<=k
def ur(ib:Nat)(vd vt:υ)(k:Nat):Prop:=k=ib\/vd.ownBlock=E k\/vt.ownBlock=E k
structure dI(w a:D)(ib:Nat)(vd vt b c:υ)(i:aL):Prop where
 at_:qN a ib b c i
 aA:aj w a (ur ib vd vt)
 nd:rL w.heap.size vd b
 nt:rL w.heap.size vt c
def bV.A9{l:cz}(h:bV w n l f S)(s:k<4){i:aL}(T:dI w W (l.ib k) (l.vd k) (l.vt k) x z i):bP w.heap.size w n S {f with ins:=aB f.ins k i} W:=by
 have C:=T.aA;have t1:Ty w (l.ib k) 114:=⟨_,_,h.ins.aF k s⟩
 have t2:=cN (h.ins.data k s).2;have t3:=cN (h.ins.there k s);have H:∀q:List TypeId,114∉q->5∉q->4∉q->fO w (ur (l.ib k) (l.vd k) (l.vt k)) q:=λq a b c j g t P R=>by
  obtain rfl|g|g:=g
  exact a (t1.uniq R▸P);exact b ((t2 j g).uniq R▸P);exact c ((t3 j g).uniq R▸P)
 have o:=h.outs.frame C (H _ Θ Θ Θ);have t:=h.cq.frame C (H _ Θ Θ Θ);have d:=h.due.frame C (H _ Θ Θ Θ);have V:=h.ay.frame C (H _ Θ Θ Θ);have hm:¬ur (l.ib k) (l.vd k) (l.vt k) n:=λe=>H [107] Θ Θ Θ n e _ Γ ⟨_,_,h.aG⟩
 have ao:¬ur (l.ib k) (l.vd k) (l.vt k) l.ri:=λe=>H [111] Θ Θ Θ l.ri e _ Γ h.ins.kz
 have a3:∀j,j<4->j≠k->qN W (l.ib j) (l.vd j) (l.vt j) (f.ins j):=λj g p=>by
  refine⟨(C.block _ (aV.1 (h.ins.aF j g)).1 (λe=>?_)).trans (h.ins.aF j g),⟨(h.ins.data j g).1,dA (h.ins.data j g).2 C (λq e1 e2=>?_)⟩,dA (h.ins.there j g) C (λq e1 e2=>?_)⟩
  obtain e|e|e:=e
  exact h.ins.id j k g s p e;exact absurd ((t2 _ e).uniq ⟨_,_,h.ins.aF j g⟩) Θ;exact absurd ((t3 _ e).uniq ⟨_,_,h.ins.aF j g⟩) Θ;have u:=cN (h.ins.data j g).2 q e1;obtain e|e|e:=e2
  subst e;exact absurd (t1.uniq u) Θ;exact h.ins.dd j k g s p q e1 e;exact absurd ((t3 _ e).uniq u) Θ;have u:=cN (h.ins.there j g) q e1;obtain e|e|e:=e2
  subst e;exact absurd (t1.uniq u) Θ;exact absurd ((t2 _ e).uniq u) Θ;exact h.ins.td j k g s p q e1 e
 have bt:∀j,j<4->∀q,(l.vd j).ownBlock=E q->q<w.heap.size:=λj g q e=>(cN (h.ins.data j g).2 q e).lt
 have a4:∀j,j<4->∀q,(l.vt j).ownBlock=E q->q<w.heap.size:=λj g q e=>(cN (h.ins.there j g) q e).lt
 have ax:∀j,j<4->j≠k->∀q,x.ownBlock=E q->(l.vd j).ownBlock≠E q:=λj g p q e e2=>by
  obtain r|r:=T.nd
  rw[r]at e;exact h.ins.dd k j s g (Ne.symm p) q e e2;grind
 have a0:∀j,j<4->j≠k->∀q,z.ownBlock=E q->(l.vt j).ownBlock≠E q:=λj g p q e e2=>by
  obtain r|r:=T.nt
  rw[r]at e;exact h.ins.td k j s g (Ne.symm p) q e e2;have:=r q e;have:=a4 j g q e2;omega
 have a8:mL {f with ins:=aB f.ins k i} {l with vd:=aB l.vd k x,vt:=aB l.vt k z}=mL f l:=rfl;have ai:∀j,j<4->qN W (l.ib j) (aB l.vd k x j) (aB l.vt k z j) (aB f.ins k i j):=λj g=>by
  by_cases e:j=k;subst e;simp only[bN];exact T.at_;simp only[bI _ _ e];exact a3 j g e
 have hz:=C.size;have bw:∀A,(∀q,A.ownBlock=E q->q<W.heap.size)->gL (λq=>S q\/(w.heap.size<=q/\q<W.heap.size)) A\/True:=λ_ _=>ψ trivial
 have a1:∀(v A:υ),gL S v->rL w.heap.size v A->(∀q,A.ownBlock=E q->q<W.heap.size)->gL (λq=>S q\/(w.heap.size<=q/\q<W.heap.size)) A:=λv A r h2 h3 y a c e=>by
  have ho:A.ownBlock=E y.block:=by rw[e];rfl
  obtain h4|h4:=h2
  exact φ (qm r _ (h4▸ho));exact ψ ⟨h4 _ ho,h3 _ ho⟩
 have B:∀v,gL S v->gL (λq=>S q\/(w.heap.size<=q/\q<W.heap.size)) v:=λv r y a c e=>φ (r y a c e)
 refine⟨{l with vd:=aB l.vd k x,vt:=aB l.vt k z},λq=>S q\/(w.heap.size<=q/\q<W.heap.size),⟨?_,h.key,⟨o.row,o.gK,o.co,o.out,o.af,o.od,o.cd⟩,⟨t.aX,t.aU,t.ne,t.nc⟩,⟨λj g=>(iB (C.block _ h.ins.kz.lt ao)).trans (h.ins.row j g),h.ins.kz.aA C ao,h.ins.ci,λj g=>(ai j g).aG,λj g=>(ai j g).data,λj g=>(ai j g).there,h.ins.id,λa b K L p q e=>?_,λa b K L p q e=>?_⟩,d,⟨V.row,V.len,V.fr⟩,⟨φ h.bn.m,⟨φ h.bn.aX.1,B _ h.bn.aX.2⟩,⟨φ h.bn.aU.1,B _ h.bn.aU.2⟩,φ h.bn.ro,φ h.bn.ri,λj g=>⟨φ (h.bn.out j g).1,φ (h.bn.out j g).2.1,B _ (h.bn.out j g).2.2⟩,λj g=>⟨φ (h.bn.aF j g).1,?_,?_⟩,B _ h.bn.due,B _ h.bn.ay.1,λy hy=>B _ (h.bn.ay.2 y hy)⟩,λq u=>u.elim (λr=>bX (h.lt q r) hz) (λr=>r.2),λe=>e.elim h.n0 (λr=>by have:=h.lt n h.bn.m;omega)⟩,λq u=>u.imp id And.left,C.mono (λq _ e=>?_)⟩
 rw[a8];exact(C.block n (h.lt _ h.bn.m) hm).trans h.aG;simp only at e⊢;by_cases F:a=k;subst F;rw[bN]at e;rw[bI _ _ (Ne.symm p)];exact ax b L (Ne.symm p) q e;rw[bI _ _ F]at e;by_cases M:b=k;subst M;rw[bN];exact λe2=>ax a K F q e2 e
 rw[bI _ _ M];exact h.ins.dd a b K L p q e;simp only at e⊢;by_cases F:a=k;subst F;rw[bN]at e;rw[bI _ _ (Ne.symm p)];exact a0 b L (Ne.symm p) q e;rw[bI _ _ F]at e;by_cases M:b=k;subst M;rw[bN];exact λe2=>a0 a K F q e2 e
 rw[bI _ _ M];exact h.ins.td a b K L p q e;by_cases e:j=k;subst e;simp only[bN];exact a1 _ _ (h.bn.aF j g).2.1 T.nd (λq e=>(cN T.at_.data.2 q e).lt);simp only[bI _ _ e];exact B _ (h.bn.aF j g).2.1;by_cases e:j=k;subst e;simp only[bN];exact a1 _ _ (h.bn.aF j g).2.2 T.nt (λq e=>(cN T.at_.there q e).lt);simp only[bI _ _ e];exact B _ (h.bn.aF j g).2.2;obtain rfl|e|e:=e
 exact(h.bn.aF k s).1;exact qm (h.bn.aF k s).2.1 q e;exact qm (h.bn.aF k s).2.2 q e
def Qs:(prog.info? 4).map (λi=>(i.zero,i.size,i.bytes))=E (E (β θ),1,1):=Φ
def uu(T a:TypeId)(z:υ)(bytes:Nat)(m:(prog.info? a).map (λi=>(i.zero,i.size,i.bytes))=E (E z,1,bytes))(p:prog.underlying T=E (.slice a))(q:z.cells.size=1)(r:bytes<=1000)(v:υ)(n:Nat)(l:List υ)(s:w.ownsRow 0 a 1 v n l)(b:Nat)(u:υ)(t:u.oneCell'=ρ)(x:κ w ⟨b,0,N⟩=E u)(L:n<=100000000)(c:Nat):
 ∃d e f h,(Builtin.append_ #[T,T] T #[v,Y (E ⟨b,0,N⟩) 1 c]).run prog w=.ok (Y d e f) h/\h.ownsRow 0 a 1 (Y d e f) (n+1) (l++[u])/\G w h v.ownBlock/\((Y d e f).ownBlock=v.ownBlock\/(Y d e f).ownBlock=E w.heap.size):=by
 let⟨A,hi,B,C,F⟩:=kV m
 let⟨M,h,R,H,S,_,V⟩:=run_append_own_at (P:=prog) w 0 T T a A _ 1 bytes p hi B C F q Θ v n l s ⟨b,0,N⟩ 1 c [u] Q (by
  intro j y k;rw[Addr.add_mid];have:j=0:=by
   grind
  subst this;simp at k;subst k;exact x) (λy K=>by rw[eE.1 K];exact t) (by simp[maxLen];omega) (by have:=Nat.mul_le_mul (O:n+1<=100000001) r;omega) (mP _)
 obtain⟨-,⟨rfl,e2⟩|⟨g,W,ai,rfl,_⟩⟩:=id H;omega;grind
def F5{l:List υ}(h:w.ownsRow 0 T 1 x n l)(a:x.ownBlock=E k)(j:Nat)(u:υ):(ζ w ⟨k,j,N⟩ u).ownsRow 0 T 1 x n (l.set j u):=by
 obtain⟨b,⟨e,-⟩|⟨c,p,q,e1,e2,d,f,g,i,m⟩⟩:=h;rw[e]at a;cases a;rw[e1]at a;cases a;refine⟨by rw[List.length_set];exact b,ψ ⟨c,_,_,e1,e2,heap_set d u,f,g,by rw[Array.size_setIfInBounds];exact i,?_⟩⟩
 rw[Array.toList_setIfInBounds,List.take_set,m]
def jz(off:Nat)(d:List Int)(x:List Int×List Bool):Nat->List Int×List Bool
 |0=>x
 |n+1=>if(jz off d x n).2.getD (off+n) θ then jz off d x n else((jz off d x n).1.set (off+n) (d.getD n 0),(jz off d x n).2.set (off+n) ρ)
def vX(off:Nat)(d:List Int)(x:List Int×List Bool)(n:Nat):(jz off d x n).1.length=x.1.length/\(jz off d x n).2.length=x.2.length:=by
 induction n with
 |zero=>exact⟨Q,Q⟩
 |succ n a=>
  unfold jz;grind
def aL.bad(i:aL)(f:Fr):Bool:=(i.ended&&(decide (i.end_<bm f)||(f.fin&&(bm f !=i.end_))))||(f.fin&&decide (bm f<i.high))
def aL.grow(i:aL)(f:Fr):aL:={i with high:=max i.high (bm f),ended:=i.ended||f.fin,end_:=if f.fin then bm f else i.end_}
def aL.pad(i:aL)(m:Nat):aL:={i with data:=i.data++List.replicate m 0,there:=i.there++List.replicate m θ}
def aL.fill(i:aL)(f:Fr)(n:Nat):aL:={i with data:=(jz f.offset.toNat (bl f.data) (i.data,i.there) n).1,there:=(jz f.offset.toNat (bl f.data) (i.data,i.there) n).2}
def aL.bytes(i:aL)(f:Fr):Int×aL:=
 if i.bad f then(7,i)else if i.given then(0,i)else(0,((i.grow f).pad ((max i.high (bm f)).toNat-i.data.length)).fill f f.data.size)
structure iz(i:aL):Prop where
 dl:(i.data.length:Int)=i.high
 tl:i.there.length=i.data.length
 hi:i.high<=100000000
 e0:0<=i.end_/\i.end_<=4611686018427387904
 rd:0<=i.read/\i.read<=i.high
structure IC(w:D)(ib:Nat)(vd vt:υ)(i:aL):Prop where
 c0:κ w ⟨ib,0,N⟩=E vd
 c1:κ w ⟨ib,1,N⟩=E vt
 c2:κ w ⟨ib,2,N⟩=E (I U i.high)
 c3:κ w ⟨ib,3,N⟩=E (I U i.end_)
 c4:κ w ⟨ib,4,N⟩=E (β i.ended)
 c5:κ w ⟨ib,5,N⟩=E (β i.given)
 c6:κ w ⟨ib,6,N⟩=E (I U i.code)
 c7:κ w ⟨ib,7,N⟩=E (I U i.read)
 c8:κ w ⟨ib,8,N⟩=E (I X i.state)
 fz:∀p,χ w ⟨ib,p,N⟩=θ
def qN.ic{i:aL}(h:qN w n x y i):IC w n x y i:=by
 have:=h.aG;unfold nU at this;exact⟨by simp[κ,this],by simp[κ,this],by simp[κ,this],by simp[κ,this],by simp[κ,this],by simp[κ,this],by simp[κ,this],by simp[κ,this],by simp[κ,this],λp=>by simp[χ,this]⟩
def dI.tJ{i:aL}(h:qN w n x y i):dI w w n x y x y i:=⟨h,(aj.of (au w N)).mono (λk _ e=>by cases e),φ Q,φ Q⟩
def qN.ne{i:aL}(h:qN w n x y i):x.ownBlock≠E n/\y.ownBlock≠E n/\∀k,x.ownBlock=E k->y.ownBlock≠E k:=by
 have t1:Ty w n 114:=⟨_,_,h.aG⟩
 refine⟨λe=>absurd ((cN h.data.2 _ e).uniq t1) Θ,λe=>absurd ((cN h.there _ e).uniq t1) Θ,λk e1 e2=>absurd ((cN h.data.2 _ e1).uniq (cN h.there _ e2)) Θ⟩
def dI.gb{w:D}{a:υ}{i:aL}(h:dI w W n x y z a i)(g:G W v N):dI w v n x y z a i:=
 ⟨⟨bp h.at_.aG g,h.at_.data.ag g,dA h.at_.there (aj.of g) (λk _ e=>by cases e)⟩,(h.aA.trans (aj.of g)).mono (λk _ e=>e.elim id (nofun)),h.nd,h.nt⟩
def dI.pre{b:υ}{i:aL}(g:G w W N)(h:dI W v n x y z b i):dI w v n x y z b i:=by
 refine⟨h.at_,((aj.of g).trans h.aA).mono (λk _ e=>e.elim (nofun) id),?_,?_⟩
 obtain a|a:=h.nd
 exact φ a;exact ψ (λk e=>bG g.size (a k e));obtain a|a:=h.nt
 exact φ a;exact ψ (λk e=>bG g.size (a k e))
def dI.cell{c:υ}{i:aL}(h:dI w W n x y z c i)(p:Nat)(u:υ)(d:aL)(f:(nU i z c).setIfInBounds p u=nU d z c)(e1:d.data=i.data)(e2:d.there=i.there):dI w (ζ W ⟨n,p,N⟩ u) n x y z c d:=by
 have g:=aD (au W (E n)) ⟨n,p,N⟩ u (ψ Q);have C:=(aj.of g).mono (λk _ e=>(aR e).symm);obtain⟨j,n2,-⟩:=h.at_.ne;exact⟨⟨f▸heap_set h.at_.aG u,by rw[e1];exact⟨h.at_.data.1,dA h.at_.data.2 C (λk a b=>j (b▸a))⟩,by rw[e2];exact dA h.at_.there C (λk a b=>n2 (b▸a))⟩,(h.aA.trans C).mono (λk _ e=>e.elim id φ),h.nd,h.nt⟩
def rL.step(h:rL n x y)(a:z.ownBlock=y.ownBlock\/z.ownBlock=E i)(b:n<=i):rL n x z:=by
 obtain a|a:=a
 obtain h|h:=h
 exact φ (a.trans h);exact ψ (λk e=>h k (a▸e));exact ψ (λk e=>by rw[a]at e;cases e;exact b)
def rL.own(h:rL n x y)(a:k<n)(e:y.ownBlock=E k):x.ownBlock=E k:=by
 obtain h|h:=h
 simp_all;grind
def dI.Qt{j:υ}{i:aL}(h:dI w W n y z x j i)(hl:i.data.length<=100000000)(r:v=W.alloc (ο #[I Δ 0] 5)):
 ∃c d f b,(Builtin.append_ #[112,112] 112 #[x,Y (E ⟨W.heap.size,0,N⟩) 1 1]).run prog v=.ok (Y c d f) b/\IC b n x j i/\dI w (ζ b ⟨n,0,N⟩ (Y c d f)) n y z (Y c d f) j {i with data:=i.data++[0]}:=by
 have gb:G W v N:=by rw[r];exact aC _ _ _
 have R:v.heap[W.heap.size]?=E (ο #[I Δ 0] 5 (0,0)):=by rw[r];exact aM _ _
 have g:=h.gb gb;let⟨u,n2,A⟩:=g.at_.ne
 let⟨c,d,f,b,B,C,l,F⟩:=uu (w:=v) 112 5 _ 1 zj underlying112 Q Θ _ _ _ g.at_.data.2 W.heap.size (I Δ 0) Q (by simp_all) hl 1
 have m:aS b 0 (Y c d f) (i.data++[0]):=⟨λH K=>(b9.1 K).elim (h.at_.data.1 H) (λe=>by rw[eE.1 e];simp[W8]),by rw[bS];simpa [bv]using C⟩
 have a:=(l.block n (aV.1 g.at_.aG).1 (λe=>u e.symm)).trans g.at_.aG;have s:vW b 0 j i.there:=dA g.at_.there (aj.of l) (λk e1 e2=>A k e2 e1);have t:Ty b n 114:=⟨_,_,a⟩
 have L:=aD (au b (E n)) ⟨n,0,N⟩ (Y c d f) (ψ Q);have q:=(aj.of L).mono (λk _ e=>(aR e).symm);have M:=g.aA.size;refine⟨c,d,f,b,B,?_,⟨⟨?_,⟨m.1,dA m.2 q (λk e1 e2=>by subst e2;exact absurd ((cN m.2 _ e1).uniq t) Θ)⟩,dA s q (λk e1 e2=>by subst e2;exact absurd ((cN s _ e1).uniq t) Θ)⟩,?_,h.nd.step F M,h.nt⟩⟩
 unfold nU at a;exact⟨by simp[κ,a],by simp[κ,a],by simp[κ,a],by simp[κ,a],by simp[κ,a],by simp[κ,a],by simp[κ,a],by simp[κ,a],by simp[κ,a],λp=>by simp[χ,a]⟩
 exact heap_set a _;refine((g.aA.trans (aj.of l)).trans q).mono (λk P e=>?_);obtain(e|e)|e:=e
 exact e;exact ψ (φ (h.nd.own P e));exact φ e
def dI.Qu{j:υ}{i:aL}(h:dI w W n x y z j i)(hl:i.there.length<=100000000)(r:v=W.alloc (ο #[β θ] 4)):
 ∃c d f b,(Builtin.append_ #[65,65] 65 #[j,Y (E ⟨W.heap.size,0,N⟩) 1 1]).run prog v=.ok (Y c d f) b/\IC b n z j i/\dI w (ζ b ⟨n,1,N⟩ (Y c d f)) n x y z (Y c d f) {i with there:=i.there++[θ]}:=by
 have gb:G W v N:=by rw[r];exact aC _ _ _
 have L:v.heap[W.heap.size]?=E (ο #[β θ] 4 (0,0)):=by rw[r];exact aM _ _
 have g:=h.gb gb;let⟨M,n2,u⟩:=g.at_.ne
 let⟨c,d,f,b,A,B,l,C⟩:=uu (w:=v) 65 4 _ 1 Qs underlying65 Q Θ _ _ _ g.at_.there W.heap.size (β θ) Q (by simp_all) hl 1
 have s:vW b 0 (Y c d f) (i.there++[θ]):=by unfold vW;rw[bS,oj];exact B
 have a:=(l.block n (aV.1 g.at_.aG).1 (λe=>n2 e.symm)).trans g.at_.aG;have m:aS b 0 z i.data:=⟨h.at_.data.1,dA g.at_.data.2 (aj.of l) (λk e1 e2=>u k e1 e2)⟩
 have t:Ty b n 114:=⟨_,_,a⟩
 have F:=aD (au b (E n)) ⟨n,1,N⟩ (Y c d f) (ψ Q);have q:=(aj.of F).mono (λk _ e=>(aR e).symm);have H:=g.aA.size;refine⟨c,d,f,b,A,?_,⟨⟨?_,⟨m.1,dA m.2 q (λk e1 e2=>by subst e2;exact absurd ((cN m.2 _ e1).uniq t) Θ)⟩,dA s q (λk e1 e2=>by subst e2;exact absurd ((cN s _ e1).uniq t) Θ)⟩,?_,h.nd,h.nt.step C H⟩⟩
 unfold nU at a;exact⟨by simp[κ,a],by simp[κ,a],by simp[κ,a],by simp[κ,a],by simp[κ,a],by simp[κ,a],by simp[κ,a],by simp[κ,a],by simp[κ,a],λp=>by simp[χ,a]⟩
 exact heap_set a _;refine((g.aA.trans (aj.of l)).trans q).mono (λk K e=>?_);obtain(e|e)|e:=e
 exact e;exact ψ (ψ (h.nt.own K e));exact φ e
def dI.Qv{b:υ}{i:aL}(h:dI w W n z x y b i)(c:y.ownBlock=E l)(j:Nat)(a:Int)(d:W8 a):dI w (ζ W ⟨l,j,N⟩ (I Δ a)) n z x y b {i with data:=i.data.set j a}:=by
 let⟨f,n2,g⟩:=h.at_.ne
 have m:=aD (au W (E l)) ⟨l,j,N⟩ (I Δ a) (ψ Q);have C:=(aj.of m).mono (λk _ e=>(aR e).symm);refine⟨⟨(C.block n (aV.1 h.at_.aG).1 (λe=>f (by grind))).trans h.at_.aG,⟨λp q=>?_,?_⟩,dA h.at_.there C (λk e1 e2=>g l c (e2▸e1))⟩,(h.aA.trans C).mono (λk r e=>e.elim id (λe=>ψ (φ (h.nd.own r (by grind))))),h.nd,h.nt⟩
 obtain s|rfl:=List.mem_or_eq_of_mem_set q
 exact h.at_.data.1 p s;exact d;have:=F5 h.at_.data.2 c j (I Δ a);rw[List.length_set,show bv (i.data.set j a)=(bv i.data).set j (I Δ a) by simp[bv,List.map_set]];exact this
def dI.Qw{b:υ}{i:aL}(h:dI w W n y z x b i)(c:b.ownBlock=E l)(j:Nat)(a:Bool):dI w (ζ W ⟨l,j,N⟩ (β a)) n y z x b {i with there:=i.there.set j a}:=by
 let⟨m,n2,d⟩:=h.at_.ne
 have f:=aD (au W (E l)) ⟨l,j,N⟩ (β a) (ψ Q);have C:=(aj.of f).mono (λk _ e=>(aR e).symm);refine⟨⟨(C.block n (aV.1 h.at_.aG).1 (λe=>n2 (by grind))).trans h.at_.aG,⟨h.at_.data.1,dA h.at_.data.2 C (λk e1 e2=>d k e1 (by grind))⟩,?_⟩,(h.aA.trans C).mono (λk g e=>e.elim id (λe=>ψ (ψ (h.nt.own g (by grind))))),h.nd,h.nt⟩
 have:=F5 h.at_.there c j (β a);unfold vW;simp_all
def dI.rows{d:υ}{i:aL}(h:dI w W n x y z d i):∃ad cd at_ b,z=Y ad i.data.length cd/\d=Y at_ i.there.length b/\i.data.length<=cd/\cd<=maxLen/\i.there.length<=b/\b<=maxLen:=by
 obtain⟨a,c,e1,e2,e,-⟩:=ns h.at_.data.2;obtain⟨f,g,j,k,l,-⟩:=ns h.at_.there;grind
def nX{l:List υ}(h:w.ownsRow 0 T 1 x n l)(j:Nat)(i:j<n):∃g a,x=Y (E ⟨g,0,N⟩) n a/\n<=a/\a<=maxLen/\κ w ⟨g,j,N⟩=l[j]? /\(∀p,χ w ⟨g,p,N⟩=θ)/\x.ownBlock=E g:=by
 obtain⟨k,⟨e,e0⟩|⟨g,a,m,e1,e2,b,c,d,q,f⟩⟩:=h;omega;refine⟨g,_,e1,c,d,?_,λp=>by simp[χ,b],by rw[e1];rfl⟩
 rw[<-f,List.getElem?_take_of_lt O,Array.getElem?_toList];simp[κ,b]
def aL.Qx(i:aL)(m:Nat):i.pad (m+1)={i.pad m with data:=(i.pad m).data++[0],there:=(i.pad m).there++[θ]}:=by
 unfold aL.pad;rw[List.replicate_succ',List.replicate_succ'];grind
def aL.Qy(i:aL):i.pad 0=i:=by unfold aL.pad;simp
def aL.Qz(i:aL)(f:Fr)(n:Nat)(h:(i.fill f n).there.getD (f.offset.toNat+n) θ=ρ):i.fill f (n+1)=i.fill f n:=by
 unfold aL.fill at *;have:jz f.offset.toNat (bl f.data) (i.data,i.there) (n+1)=jz f.offset.toNat (bl f.data) (i.data,i.there) n:=by
  conv=>lhs;unfold jz
  grind
 rw[this]
def aL.QA(i:aL)(f:Fr)(n:Nat)(h:(i.fill f n).there.getD (f.offset.toNat+n) θ=θ):i.fill f (n+1)={i.fill f n with data:=(i.fill f n).data.set (f.offset.toNat+n) ((bl f.data).getD n 0),there:=(i.fill f n).there.set (f.offset.toNat+n) ρ}:=by
 unfold aL.fill at *;have:jz f.offset.toNat (bl f.data) (i.data,i.there) (n+1)=((jz f.offset.toNat (bl f.data) (i.data,i.there) n).1.set (f.offset.toNat+n) ((bl f.data).getD n 0),(jz f.offset.toNat (bl f.data) (i.data,i.there) n).2.set (f.offset.toNat+n) ρ):=by
  conv=>lhs;unfold jz
  grind
 grind
def QB(s:ByteArray)(n:Nat)(h:n<s.size):(bl s).getD n 0=((s[n]'h).toNat:Int):=by
 have a:n<s.data.toList.length:=by simp_all
 unfold bl;rw[List.getD,kU,dB a];rfl
def aL.start(i:aL):aL:=if i.given=ρ/\i.state=0 then{i with state:=2}else i
def aL.mG(i:aL):Nat:=((i.there.drop i.read.toNat).takeWhile id).length
def aL.aQ(i:aL)(aJ:Int):Nat:=if i.state=0 then min aJ.toNat i.mG else 0
def aL.eT(i:aL)(n:Nat):aL:={i with read:=i.read+n}
def aL.stop(i:aL):aL:=if i.ended=ρ/\i.read=i.end_/\i.state=0 then{i with state:=1}else i
def aL.fY(i:aL)(aJ:Int):aL:=(i.start.eT (i.start.aQ aJ)).stop
def aL.text(i:aL)(aJ:Int):List Int:=(i.data.drop i.read.toNat).take (i.start.aQ aJ)
def aL.ik(i:aL):Int:=if i.state=2 then i.code else 0
def ah.read(s:ah)(k aJ:Int):List Int×Int×Int×Int×ah:=
 if s.of k≠0 then([],0,0,s.of k,s)else((s.ins k.toNat).text aJ,((s.ins k.toNat).fY aJ).state,((s.ins k.toNat).fY aJ).ik,0,{s with ins:=aB s.ins k.toNat ((s.ins k.toNat).fY aJ)})
def QC(l:List Bool)(j:Nat)(h:j<(l.takeWhile id).length):l[j]?=E ρ:=by
 induction l generalizing j with
 |nil=>simp at h
 |cons x l a=>
  cases x with
  |false=>simp at h
  |true=>
   cases j with
   |zero=>rfl
   |succ j=>simp only[List.takeWhile_cons,id,fw,dY]at h;simpa using a j O
def QD(l:List Bool)(h:(l.takeWhile id).length<l.length):l[(l.takeWhile id).length]?=E θ:=by
 induction l with
 |nil=>simp at h
 |cons x l a=>
  cases x with
  |false=>rfl
  |true=>
   simp_all
def F6(i:aL):i.mG<=i.there.length-i.read.toNat:=by
 unfold aL.mG;have h:∀l:List Bool,(l.takeWhile id).length<=l.length:=λl=>by
  induction l with
  |nil=>simp
  |cons x l a=>
   rw[List.takeWhile_cons];grind
 grind
def F7(i:aL)(j:Nat)(h:j<i.mG):i.there[i.read.toNat+j]?=E ρ:=by
 have:=QC _ _ h;grind
def F8(i:aL)(h:i.read.toNat+i.mG<i.there.length):i.there[i.read.toNat+i.mG]?=E θ:=by
 have:=QD (i.there.drop i.read.toNat) (by rw[fD];unfold aL.mG at h;omega);rwa[tp]at this
def QE(a b:List Int):strOfNums a++strOfNums b=strOfNums (a++b):=by
 apply ByteArray.ext;rw[ByteArray.data_append];apply Array.toList_inj.1;rw[Array.toList_append,rX,rX,rX,oj]
def QF(a:Option Addr)(n b i j:Nat)(hi:i<=j)(c:j<=b)(W:D):(Instr.slice 112 (Y a n b) (E (I U i)) (E (I U j)) N).run prog W=.ok (Y (if b=i then a else a.map (·.add i)) (j-i) (b-i)) W:=by
 rw[run_slice_lh W 112 a n b (by rw[rz];exact underlying112) U U (i:Int) (j:Int) O O O,rz,xH];simp only[jC,sliced,mf,tx]
def QG(h:bD w a n k L)(i:Nat)(hi:i<n):bD w (if k=i then a else a.map (·.add i)) 1 (k-i) ((L.drop i).take 1):=by
 have b:=zF h i (i+1) O O;rw[ê,show i+1-i=1 by omega]at b;have e:=h.2.2.1;rw[ê];let⟨c,d,f,g,j⟩:=b
 refine⟨c,d,O,by have:=h.2.2.2.1;omega,?_⟩
 grind
def QH(l:List Int)(r j:Nat):(l.drop r).take j++(l.drop (r+j)).take 1=(l.drop r).take (j+1):=by
 rw[<-uR,List.take_add]
def QI{i:aL}(hi:iz i)(h:j<i.aQ p):i.state=0/\(j:Int)<p/\i.read+j<i.high/\i.there[i.read.toNat+j]?=E ρ:=by
 unfold aL.aQ at h;split at h;rename_i h0;have a:j<i.mG:=O;have:=F6 i;have:=hi.dl;have:=hi.tl;exact⟨h0,O,O,F7 i j a⟩
 omega
def QJ{i:aL}(hi:iz i):i.state≠0\/¬((i.aQ p:Int)<p)\/¬(i.read+i.aQ p<i.high)\/i.there[i.read.toNat+i.aQ p]?=E θ:=by
 by_cases h0:i.state=0;have e:i.aQ p=min p.toNat i.mG:=by unfold aL.aQ;rw[aH h0]
 by_cases b:((i.aQ p:Int)<p);have e2:i.aQ p=i.mG:=O;by_cases a:i.read+i.aQ p<i.high;rw[e2]at a⊢;have:=hi.rd;have:=hi.dl;have:=hi.tl;exact ψ (ψ (ψ (F8 i O)));grind;grind;grind
def Ba{i:aL}(hi:iz i):i.read+i.aQ p<=i.high:=by
 unfold aL.aQ;have:=F6 i;have:=hi.rd;have:=hi.dl;have:=hi.tl;grind
def QK(w:D)(mb:Nat)(l:cz)(s:ah)(B:Nat->Prop)(H:bV w mb l s B)(f:Fr)(rv:υ)(k:Nat)(hk:k<4)(b3:f.stream=(k:Int))(ho:0<=f.offset)(db:bm f<=4611686018427387903)(hi:iz (s.ins k))(bt:(s.ins k).given=θ->bm f<=100000000):
 Calls prog 120 #[π (E ⟨mb,0,N⟩),ε (bC f rv)] w λe w'=>e=ξ (I X ((s.ins k).bytes f).1)/\bP w.heap.size w mb B {s with ins:=aB s.ins k ((s.ins k).bytes f).2} w':=by
 refine js λR hR=>?_
 have c:=J (λ(w':D) u x(T:dI w w' (l.ib k) (l.vd k) (l.vt k) u x ((s.ins k).bytes f).2)=>(show R w' by rw[hR];exact H.A9 hk T));obtain⟨h,a3⟩:=í (w.alloc (ο (bC f rv) 158));have g1:G w h N:=by rw[a3];exact aC _ _ _
 have ax:h.heap[w.heap.size]?=E (ο (bC f rv) 158 (0,0)):=by rw[a3];exact aM _ _
 have V:dI h h (l.ib k) (l.vd k) (l.vt k) (l.vd k) (l.vt k) (s.ins k):=dI.tJ ((H.ag g1).yK hk);have b4:¬ur (l.ib k) (l.vd k) (l.vt k) w.heap.size:=λe=>by
  obtain e|e|e:=e
  have:=H.lt _ (H.bn.aF k hk).1;omega;have:=(cN (H.ins.data k hk).2 _ e).lt;omega;have:=(cN (H.ins.there k hk) _ e).lt;omega
 have M:=H.mc;have dc:=ì g1 M.ins;have r0:=ì g1 (H.ins.row k hk);have de:=H.ins.ci;unfold maxLen at de;have i0:(0:Int)<=k:=O;have i1:(k:Int)<4:=O;obtain⟨ib,b5⟩:=í (l.ib k);obtain⟨vd,b6⟩:=í (l.vd k);obtain⟨vt,b7⟩:=í (l.vt k);obtain⟨i,cp⟩:=í (s.ins k);rw[<-b5]at r0 V c;rw[<-b6,<-b7]at V c;rw[<-cp]at V c hi bt⊢;rw[<-b5,<-b6,<-b7]at b4;obtain⟨F,hF⟩:=í w.heap.size;have kF:=J (λwr u x i'(T:dI h wr ib vd vt u x i')=>(T.aA.block w.heap.size (aV.1 ax).1 b4).trans ax);replace c:=J (λ(w':D) u x(T:dI h w' ib vd vt u x (i.bytes f).2)=>Z c w' u x (T.pre g1));rw[<-hF]at ax kF;have a2:Hid (i.bytes f=if i.bad f then(7,i)else if i.given then(0,i)else(0,((i.grow f).pad ((max i.high (bm f)).toNat-i.data.length)).fill f f.data.size)):=J Q;have j:Hid (i.bad f=((i.ended&&(decide (i.end_<bm f)||(f.fin&&(bm f !=i.end_))))||(f.fin&&decide (bm f<i.high)))):=J Q;obtain⟨a,hE⟩:=í (bm f);have bw:a=f.offset+f.data.size:=hE;obtain⟨x0,x1,x2,x3,x4,x5,x6⟩:=bQ (show h.heap[F]?=E (ο #[I X f.kind,I X f.stream,I U f.offset,I U f.code,β f.fin,ς f.data,rv] 158 (0,0))from ax);rw[<-hE]at a2 j bt db;have wE:U.wrap (f.offset+f.data.size)=a:=by rw[cZ,bw];omega
 have wD:U.wrap (f.data.size:Int)=(f.data.size:Int):=by rw[cZ];omega
 clear b5 b6 b7 cp H M hR b4;obtain⟨j0,j1,j2,j3,j4,j5,j6,j7,j8,jf⟩:=V.at_.ic;replace⟨V,ax,hE,bw,jf⟩:=gT V ax hE bw jf;unfold bC at *;rw[b3]at a3 x1⊢;replace b3:=J b3;go_enter func120,ntmps120;go_upto_region 1 with fail;rw[<-a3,<-hF];clear a3 hF;go_region;go_upto_region 3 with fail;have gd:Hid (G h h.drew N):=J (aK (au _ _));go_cut [59] (λv wx=>v=β (i.bad f)/\wx=h.drew);case first=>
  obtain⟨bd,z⟩:=í (i.bad f);rw[<-z]at j;replace z:=J z;clear a2 c;obtain a0|a0:=(oX i.ended).symm
  .rw[a0]at j4 j;replace a0:=J a0;obtain b|b:=(oX f.fin).symm
   .rw[b]at x4 j;replace b:=J b;have r:Hid (bd=θ):=J (by rw[Z j];rfl);go_wp2;go_meet;exact⟨by rw[<-Z z,Z r],Q⟩
   rw[b]at x4 j;replace b:=J b;by_cases q3:a<i.high
   .have e3:decide (a<i.high)=ρ:=bU q3;have r:Hid (bd=ρ):=J (by rw[Z j,e3];rfl);go_wp2;go_meet;exact⟨by rw[<-Z z,Z r],Q⟩
   have e3:decide (a<i.high)=θ:=bT q3;have r:Hid (bd=θ):=J (by rw[Z j,e3];rfl);go_wp2;go_meet;exact⟨by rw[<-Z z,Z r],Q⟩
  rw[a0]at j4 j;replace a0:=J a0;by_cases q1:i.end_<a
  .have e1:decide (a>i.end_)=ρ:=bU q1;have A:decide (i.end_<a)=ρ:=bU q1;have r:Hid (bd=ρ):=J (by rw[Z j,A];rfl);clear A;go_wp2;go_meet;exact⟨by rw[<-Z z,Z r],Q⟩
  have e1:decide (a>i.end_)=θ:=bT q1;have A:decide (i.end_<a)=θ:=bT q1;obtain b|b:=(oX f.fin).symm
  .rw[b]at x4 j;replace b:=J b;have r:Hid (bd=θ):=J (by rw[Z j,A];rfl);clear A;go_wp2;go_meet;exact⟨by rw[<-Z z,Z r],Q⟩
  rw[b]at x4 j;replace b:=J b;cases q2:(a !=i.end_)
  .by_cases q3:a<i.high
   .have e3:decide (a<i.high)=ρ:=bU q3;have r:Hid (bd=ρ):=J (by rw[Z j,A,e3,q2];rfl);clear A;go_wp2;go_meet;exact⟨by rw[<-Z z,Z r],Q⟩
   have e3:decide (a<i.high)=θ:=bT q3;have r:Hid (bd=θ):=J (by rw[Z j,A,e3,q2];rfl);clear A;go_wp2;go_meet;exact⟨by rw[<-Z z,Z r],Q⟩
  have r:Hid (bd=ρ):=J (by rw[Z j,A,q2];rfl);clear A;go_wp2;go_meet;exact⟨by rw[<-Z z,Z r],Q⟩
 case rest=>
  obtain⟨rfl,rfl⟩:=hcut;clear j;cases ak:i.bad f;rotate_left
  .have p:i.bytes f=(7,i):=by rw[Z a2,ak];rfl
   have hf:Hid (R h.drew):=J (Z c _ vd vt (by rw[p];exact(Z V).gb (Z gd)));have a4:Hid ((i.bytes f).1=7):=J (by rw[p]);clear p c;replace ak:=J ak;go_wp2;go_ret;exact⟨by rw[Z a4];rfl,Z hf⟩
  cases al:i.given;rotate_left
  .have p:i.bytes f=(0,i):=by rw[Z a2,ak,al];rfl
   have hf:Hid (R h.drew):=J (Z c _ vd vt (by rw[p];exact(Z V).gb (Z gd)));have a4:Hid ((i.bytes f).1=0):=J (by rw[p]);rw[al]at j5;clear p c;replace⟨ak,al⟩:=aT ak al;go_wp2;go_ret;exact⟨by rw[Z a4];rfl,Z hf⟩
  have p:i.bytes f=(0,((i.grow f).pad ((max i.high a).toNat-i.data.length)).fill f f.data.size):=by rw[Z a2,ak,al];rfl
  have a4:Hid ((i.bytes f).1=0):=J (by rw[p]);rw[p]at c;have ed:=bt al;rw[al]at j5;clear p a2 bt;replace⟨ak,al⟩:=aT ak al;have f2:=(Z jf) 2;go_upto_if 69 with fail;have I1:=(Z V).gb (Z gd);go_cut [] (λwx=>dI h wx ib vd vt vd vt {i with high:=max i.high a});case first=>
   clear c kF;replace I1:=J I1;by_cases q:a>i.high
   .have d:decide (a>i.high)=ρ:=bU q;have hm:Hid (max i.high a=a):=J O;go_wp2;go_meet;exact(Z I1).cell 2 (I U a) _ (by rw[Z hm];rfl) Q Q
   have d:decide (a>i.high)=θ:=bT q;have hm:Hid (max i.high a=i.high):=J O;go_wp2;go_meet;have:({i with high:=max i.high a}:aL)=i:=by rw[Z hm]
   rw[this];exact Z I1
  case rest=>
   clear I1 V x0 x1 x2 x3 x4 x5 x6 j0 j1 j2 j3 j4 j5 j6 j7 j8 jf ax dc r0;obtain⟨x0,x1,x2,x3,x4,x5,x6⟩:=bQ (Z kF wc _ _ _ hcut);obtain⟨j0,j1,j2,j3,j4,j5,j6,j7,j8,jf⟩:=hcut.at_.ic;have f3:=jf 3;have f4:=jf 4;clear jf;replace hcut:=J hcut;obtain⟨fi,a8⟩:=í f.fin;rw[<-a8]at x4;replace a8:=J a8;go_upto_if 75 with fail;go_cut [] (λwx=>dI h wx ib vd vt vd vt (i.grow f));case first=>
    clear c kF;cases fi
    .have b:=(Z a8).symm;have hg:Hid (i.grow f={i with high:=max i.high a}):=J (by unfold aL.grow;rw[b,<-Z hE];simp);replace b:=J b;go_wp2;go_meet;rw[Z hg];exact Z hcut
    have b:=(Z a8).symm;have hg:Hid (i.grow f={i with high:=max i.high a,ended:=ρ,end_:=a}):=J (by unfold aL.grow;rw[b,<-Z hE];simp);replace b:=J b;go_wp2;go_meet;rw[Z hg];exact((Z hcut).cell 4 (β ρ) {i with high:=max i.high a,ended:=ρ} rfl rfl rfl).cell 3 (I U a) _ rfl rfl rfl
   case rest=>
    clear x0 x1 x2 x3 x4 x5 x6 j0 j1 j2 j3 j4 j5 j6 j7 j8 f3 f4;obtain⟨M,hM⟩:∃M:Nat,M=(max i.high a).toNat-i.data.length:=⟨_,Q⟩
    obtain⟨C,hG⟩:∃C:aL,C=i.grow f:=⟨_,Q⟩
    obtain⟨Hh,bx⟩:=í (max i.high a);obtain⟨L0,a9⟩:=í i.data.length;have g1:Hid (C.high=Hh):=J (by rw[hG,bx,Z hE];rfl);have g2:Hid (C.data.length=L0):=J (by rw[hG,a9];rfl);have g3:Hid (C.there.length=L0):=J (by rw[hG,a9];exact hi.tl);have gM:Hid ((L0:Int)+M=Hh):=J (by have:=hi.dl;omega);have gS:Hid (Hh<=100000000):=J (by have:=hi.hi;omega);have gE:Hid (a<=Hh):=J O;rw[<-hG,<-bx,<-a9]at c;rw[<-bx,<-a9]at hM;rw[<-hM]at c;rw[<-hG]at hcut;clear hM hG bx a9;replace hi:=J hi;go_upto_region 12 with fail;go_loopg [] (M+1) (λg wr=>∃(m:Nat)(u x:υ),m<=M/\g=M+1-m/\dI h wr ib vd vt u x (C.pad m));case atStart=>exact⟨0,vd,vt,O,O,by rw[aL.Qy];exact hcut⟩
    case round=>
     clear hcut;obtain⟨m,u,x,hm,rfl,hI⟩:=hrel;have p1:(C.pad m).data.length=L0+m:=by simp[aL.pad,Z g2]
     have p2:(C.pad m).there.length=L0+m:=by simp[aL.pad,Z g3]
     obtain⟨ad,cd,at_,ct,e1,e2,dg,dk,dm,du⟩:=hI.rows;obtain⟨n,K⟩:=í (L0+m);rw[p1,<-K]at e1 dg;rw[p2,<-K]at e2 dm;subst e1;subst e2;unfold maxLen at dk du;have ee:n<=100000000:=by have:=Z gM;have:=Z gS;omega
     have wn:U.wrap (n:Int)=(n:Int):=by rw[cZ];omega
     obtain⟨k0,k1,k2,-,-,-,-,-,-,-⟩:=hI.at_.ic;rw[show(C.pad m).high=Hh from Z g1]at k2;obtain⟨wd,bb⟩:=í wr.drew;have bj:=hI.gb (show G wr wd N by rw[bb];exact aK (au _ _));replace K:=J K;by_cases ei:m<M
     .have dn:(n:Int)<Hh:=by have:=Z gM;have:=Z K;omega
      obtain⟨a',n',c',w2,b8,ca,hT⟩:=bj.Qt (by rw[p1];have:=Z K;omega) Q;obtain⟨ws,a1⟩:=í (ζ w2 ⟨ib,0,N⟩ (Y a' n' c'));rw[<-a1]at hT;obtain⟨b',m',d',w3,cc,cf,cv⟩:=hT.Qu (by simp only;rw[p2];have:=Z K;omega) Q;have br:Hid (dI h (ζ w3 ⟨ib,1,N⟩ (Y b' m' d')) ib vd vt (Y a' n' c') (Y b' m' d') (C.pad (m+1))):=J (by rw[aL.Qx];exact cv);have q0:=bj.at_.ic.c0;have q1:=ca.c0;have q2:=ca.fz 0;have q3:=hT.at_.ic.c1;have q4:=cf.c1;have q5:=cf.fz 1;replace⟨b8,cc⟩:=aT b8 cc;clear hT cv ca cf bj p1 p2 c kF;replace hI:=J hI;go_upto_region 12 with fail;go_region;rw[<-bb];clear bb k0 k1 k2;go_upto_region 14 with(at_builtin;refine jN Ξ 112 112 Ξ _ _ Ξ _ _ _ Ξ Ξ (Z b8) ?_)
      rw[<-a1];clear a1;go_wp2_with (at_builtin;refine jN Ξ 65 65 Ξ _ _ Ξ _ _ _ Ξ Ξ (Z cc) ?_);go_roundg (M+1-(m+1));case measure=>omega
      case rel=>exact⟨m+1,_,_,O,Q,Z br⟩
     obtain rfl:m=M:=O;have dn:¬(n:Int)<Hh:=by have:=Z gM;have:=Z K;omega
     have dv:Hid ((n:Int)=Hh):=J (by have:=Z gM;have:=Z K;omega);obtain⟨ao,hD⟩:=í f.data.size;obtain⟨P,hP⟩:∃P:aL,P=C.pad m:=⟨_,Q⟩
     have dx:Hid (P.data.length=n):=J (by rw[hP,p1];exact(Z K).symm);have ea:Hid (P.there.length=n):=J (by rw[hP,p2];exact(Z K).symm);have cw:Hid (dI h wd ib vd vt (Y ad n cd) (Y at_ n ct) P):=J (by rw[hP];exact bj);rw[<-hP,<-hD]at c;have eb:Hid (a=f.offset+ao):=J (by rw[Z bw,hD]);clear hI bj p1 p2 hP;replace hD:=J hD;go_upto_region 12 with fail;go_region;rw[<-bb];clear bb k0 k1 k2;go_upto_region 16 with fail;go_loopg [7] (ao+1) (λg v7 wr=>∃(q:Nat)(u x:υ),q<=ao/\v7=I X q/\g=ao+1-q/\dI h wr ib vd vt u x (P.fill f q));case atStart=>exact⟨0,_,_,O,Q,O,Z cw⟩
     case round=>
      clear cw;obtain⟨q,ej,ek,hq,rfl,rfl,t⟩:=hrel;rename D=>bz
      obtain⟨x0,x1,x2,x3,x4,x5,x6⟩:=bQ (Z kF _ _ _ _ t);clear x0 x1 x3 x4 x6;have eD:(f.data.size:Int)=ao:=by rw[<-Z hD]
      by_cases eo:q<ao
      .have l1:(P.fill f q).data.length=n:=by rw[<-Z dx];exact(vX _ _ _ _).1
       have L:(P.fill f q).there.length=n:=by rw[<-Z ea];exact(vX _ _ _ _).2
       have S:f.offset.toNat+q<n:=by have:=Z eb;have:=Z gE;have:=Z dv;omega
       obtain⟨bA,cx,e1,d1,d2,d3,d4,d5⟩:=nX t.at_.data.2 (f.offset.toNat+q) (by rw[l1];exact S);obtain⟨bM,cy,e2,t1,t2,t3,t4,t5⟩:=nX t.at_.there (f.offset.toNat+q) (by rw[L];exact S);obtain⟨j0,j1,-,-,-,-,-,-,-,-⟩:=t.at_.ic;rw[l1]at e1 d1;rw[L]at e2 t1;subst e1;subst e2;unfold maxLen at d2 t2;obtain⟨o,ho⟩:∃o:Nat,o=f.offset.toNat:=⟨_,Q⟩
       have ch:f.offset=(o:Int):=O;rw[<-ho]at S d3 t3;have c9:(bv (P.fill f q).data)[o+q]?=E (I Δ ((P.fill f q).data.getD (o+q) 0)):=by
        unfold bv;rw[kU,dB (by rw[l1];exact S)];simp[List.getD,dB (show o+q<(P.fill f q).data.length by rw[l1];exact S)]
       have da:((P.fill f q).there.map (β ·))[o+q]?=E (β ((P.fill f q).there.getD (o+q) θ)):=by
        rw[kU,dB (by rw[L];exact S)];simp[List.getD,dB (show o+q<(P.fill f q).there.length by rw[L];exact S)]
       rw[c9]at d3;rw[da]at t3;rw[ch]at x2;have w1:U.wrap (q:Int)=(q:Int):=by rw[cZ];omega
       have w2:U.wrap ((o:Int)+q)=(o:Int)+q:=by rw[cZ];omega
       have q0:(0:Int)<=q:=O;have q1:(q:Int)<f.data.size:=O;have k1:(o:Int)+q<n:=O;have k0:(0:Int)<=o+q:=O;have kt:((o:Int)+q).toNat=o+q:=O;clear c9 da;obtain ai|ai:=(oX ((P.fill f q).there.getD (o+q) θ)).symm
       .rw[ai]at t3;have cm:=aL.QA P f q (by rw[<-ho];exact ai);rw[<-ho]at cm;obtain⟨y,p⟩:=í ((bl f.data).getD q 0);have ec:q<f.data.size:=O;have er:∀W,(Instr.index 9 (ς f.data) (I X q)).run prog W=.ok (I Δ y) W:=λW=>by
         rw[run_index_string W 9 f.data X (q:Int) underlying9,dif_pos ⟨q0,q1⟩];rw[p,QB _ _ ec];rfl
        obtain⟨ws,a1⟩:=í ((ζ bz ⟨bA,o+q,N⟩ (I Δ y)).drew);have T1:=(t.Qv d5 (o+q) y (by rw[p];exact mR (qw _) q)).gb (show(ζ bz ⟨bA,o+q,N⟩ (I Δ y)).grownBy ws N by rw[a1];exact aK (au _ _));have s1:=T1.at_.ic.c1;obtain⟨et,ev,e3,-,-,t6,t7,-⟩:=nX T1.at_.there (o+q) (by simp only;rw[L];exact S);simp only[L]at e3;cases e3;have t8:κ ws ⟨bM,o+q,N⟩=E (β θ):=by
         rw[t6];simp only
         rw[kU,dB (by rw[L];exact S)];have:(P.fill f q).there[o+q]'(by rw[L];exact S)=θ:=by
          rw[<-ai];simp[List.getD,dB (show o+q<(P.fill f q).there.length by rw[L];exact S)]
         rw[this];rfl
        have t9:=t7 (o+q);have br:Hid (dI h (ζ ws ⟨bM,o+q,N⟩ (β ρ)) ib vd vt (Y (E ⟨bA,0,N⟩) n cx) (Y (E ⟨bM,0,N⟩) n cy) (P.fill f (q+1))):=J (by rw[cm,<-p];exact T1.Qw t5 (o+q) ρ);have d6:=d4 (o+q);replace⟨ai,t⟩:=aT ai t;clear c kF l1 L ho ch cm p T1 t6 t7 d4 t4 d5 t5;go_upto_region 20 with fail;go_region;rw[<-a1];clear a1;go_wp2;go_roundg (ao+1-(q+1));case measure=>omega
        case rel=>exact⟨q+1,_,_,O,by go_num,Q,Z br⟩
       rw[ai]at t3;have br:Hid (dI h bz ib vd vt (Y (E ⟨bA,0,N⟩) n cx) (Y (E ⟨bM,0,N⟩) n cy) (P.fill f (q+1))):=J (by rw[aL.Qz P f q (by rw[<-ho];exact ai)];exact t);replace⟨ai,t⟩:=aT ai t;clear c kF l1 L ho ch;go_wp2;go_roundg (ao+1-(q+1));case measure=>omega
       case rel=>exact⟨q+1,_,_,O,by go_num,Q,Z br⟩
      obtain rfl:q=ao:=O;have hf:Hid (R bz):=J (Z c _ _ _ t);replace t:=J t;clear c kF;have q1:¬(q:Int)<(f.data.size:Int):=O;go_wp2;go_ret;exact⟨by rw[Z a4];rfl,Z hf⟩
def dj(r:Rg):Rg:=⟨r.lo,r.hi+1⟩
def cg.sp(s:cg):List Rg:=s.l.map dj
def step_done(l:List Rg):∀(x:eh),x.done=ρ->(∀r∈l,x.hi+1<r.lo)->x.lo<=x.hi->(∀r∈l,r.lo<=r.hi)->(l.foldl eh.step x).end_=x.out++l:=by
 induction l with
 |nil=>intro x h _ _ _;simp[eh.end_,h]
 |cons r l a=>
  intro x h b hl c;have e:x.step r={x with out:=x.out++[r]}:=by
   unfold eh.step;grind
  grind
def QL(l:List Rg):∀(lo hi:Int)(out:List Rg),lo<=hi->bk (l.map dj)->(l.foldl eh.step ⟨lo,hi,out,θ⟩).end_.map dj=out.map dj++lM (l.map dj) ⟨lo,hi+1⟩:=by
 induction l with
 |nil=>intro lo hi out h _;simp[eh.end_,lM,dj]
 |cons r l b=>
  intro lo hi out h hs;have hp:r.lo<r.hi+1:=hs.2 (dj r) Γ;rw[pd,kD];have c:lM (dj r::l.map dj) ⟨lo,hi+1⟩=if r.hi+1<lo then dj r::lM (l.map dj) ⟨lo,hi+1⟩else if hi+1<r.lo then⟨lo,hi+1⟩::dj r::l.map dj else lM (l.map dj) ⟨min r.lo lo,max (r.hi+1) (hi+1)⟩:=rfl
  rw[c];by_cases c1:r.hi<lo/\1<lo-r.hi;have e:eh.step ⟨lo,hi,out,θ⟩ r=⟨lo,hi,out++[r],θ⟩:=by unfold eh.step;rw[aH c1]
  rw[e,b lo hi _ h hs.tail,è];simp[dj];by_cases c2:hi<r.lo/\1<r.lo-hi;have e:eh.step ⟨lo,hi,out,θ⟩ r=⟨lo,hi,out++[⟨lo,hi⟩]++[r],ρ⟩:=by unfold eh.step;rw[aE c1,aH c2];rfl
  have d:∀q∈l,r.hi+1<q.lo:=λq a=>(qW.1 hs.1).1 (dj q) (by grind)
  rw[e,step_done l _ Q (λq a=>by have:=d q a;simp only;omega) h (λq a=>by have:=hs.2 (dj q) (by grind);unfold dj at this;simp only at this;omega),ê,è];simp[dj];have e:eh.step ⟨lo,hi,out,θ⟩ r=⟨min lo r.lo,max hi r.hi,out,θ⟩:=by unfold eh.step;rw[aE c1,aE c2]
  rw[e,b _ _ _ O hs.tail,ê,ê];grind
def Bb(h:p<=q)(hs:bk (s.map dj)):(nT p q s).end_.map dj=eu (s.map dj) ⟨p,q+1⟩:=by
 unfold nT;rw[QL s p q [] h hs];unfold eu;grind
def RR(L a:List Int)(off k:Nat)(h:off+a.length<=L.length):(splice L off a).getD k 0=if off<=k/\k<off+a.length then a.getD (k-off) 0 else L.getD k 0:=by
 unfold splice;grind
def RS(fr:Int)(b:List Int)(x:Rg)(k:Nat):(pj fr b x).getD k 0=b.getD k 0:=by
 unfold pj;grind
def RT{x:Rg}(a:p<=x.lo)(b:q<=x.lo)(c:x.lo<=x.hi)(d:x.hi<=q+L.length)(m:Int)(e:p<=m):(mW p q L K x).getD (m-p).toNat 0=if x.lo<=m/\m<x.hi then L.getD (m-q).toNat 0 else K.getD (m-p).toNat 0:=by
 unfold mW;have hl:((L.drop (x.lo-q).toNat).take (x.hi-x.lo).toNat).length=(x.hi-x.lo).toNat:=by grind
 rw[RR _ _ _ _ (by rw[hl,xG];omega),hl,RS];by_cases h:x.lo<=m/\m<x.hi;rw[è,aH h];simp only[List.getD]
 rw[List.getElem?_take_of_lt O,tp];grind;grind
def RU(M:List Rg):∀(b:List Int),(∀x∈M,p<=x.lo/\q<=x.lo/\x.lo<=x.hi/\x.hi<=q+L.length)->∀m,p<=m->((Sm M m->(iP p q L M b).getD (m-p).toNat 0=L.getD (m-q).toNat 0)/\(¬Sm M m->(iP p q L M b).getD (m-p).toNat 0=b.getD (m-p).toNat 0)):=by
 induction M with
 |nil=>intro b _ m _;exact⟨λh=>absurd h (ij m),λ_=>rfl⟩
 |cons x M i=>
  intro b h m f;obtain⟨j,k,l,n⟩:=h x Γ;have hp:=RT (K:=b) j k l n m f;obtain⟨r,g⟩:=i (mW p q L b x) (λy s=>h y (by simp[s])) m f;have e:iP p q L (x::M) b=iP p q L M (mW p q L b x):=rfl;rw[e];by_cases a:Sm M m;exact⟨λ_=>r a,λd=>absurd ((eG x M m).2 (ψ a)) d⟩
  refine⟨λhs=>?_,λd=>?_⟩
  obtain c|c:=(eG x M m).1 hs
  rw[g a,hp,aH c];exact absurd c a;rw[g a,hp,aE (λc=>d ((eG x M m).2 (φ c)))]
def RV(off:Nat)(d:List Int)(x:List Int×List Bool)(a:x.1.length=x.2.length)(n:Nat)(b:off+n<=x.2.length):∀k,(jz off d x n).2.getD k θ=(x.2.getD k θ||decide (off<=k/\k<off+n))/\(jz off d x n).1.getD k 0=if x.2.getD k θ=θ/\off<=k/\k<off+n then d.getD (k-off) 0 else x.1.getD k 0:=by
 induction n with
 |zero=>
  intro k;refine⟨?_,?_⟩
  unfold jz;simp;omega;unfold jz;rw[ê]
 |succ n c=>
  intro k;have hl:=vX off d x n;unfold jz;split;grind;grind
end
