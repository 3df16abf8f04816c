import Derived.Test.YtjnmokmchdfchaaGreatDoorXf
set_option maxRecDepth 1000000
set_option maxHeartbeats 0
set_option linter.all false
namespace Go.Proofs.YtjnmokmchdfchaaGreatDoor
open Go.RowKit Tryz
attribute[local go_sem↓]Go.wp_at_zero Go.wp_at_succ
variable{p q r:Int}{L:List Int}
structure uS(o:End)(aF N code:Int)(data:List Int):Prop where
 rd:0<=o.read
 len:(data.length:Int)<=aF
 fit:o.read+data.length<=o.wrote.size
 mO:data=((aG o.wrote).drop o.read.toNat).take data.length
 st:o.state≠0->data=[]/\N=o.state
 cs:(N=0/\code=0)\/(N=1/\o.finished=true/\o.read+data.length=o.wrote.size/\code=0)\/(N=2/\o.given=true/\code=o.code)
def uS.str{o:End}(h:uS o p q r L):strOfNums L=o.wrote.extract o.read.toNat (o.read+L.length).toNat/\(o.wrote.extract o.read.toNat (o.read+L.length).toNat).size=L.length:=by
 have a:=h.rd;have b:=h.fit;have e:aG (o.wrote.extract o.read.toNat (o.read+L.length).toNat)=L:=by
  rw[E0,show(o.read+(L.length:Int)).toNat-o.read.toNat=L.length by omega];exact h.mO.symm
 refine⟨by rw[<-xB (o.wrote.extract o.read.toNat (o.read+L.length).toNat),e],?_⟩
 rw[rQ];omega
def Fc(w:World)(nb:Nat)(V:Nw)(H:bP w nb V)(M:Laid w)(i b:Nat)(hi:i<2)(j:b<2)(ca:(1:Int)-i=b)(n:Nat)(a9:dU n (V.st i))(hn:n<=100000)(k:Nat)(t:k<4)(aF:Int)(ch:0<=aF/\aF<=1000000)(N code:Int)(data:List Int)(u:aJ)
 (O:(V.st i).do ⟨7,(k:Int),aF,0,⟨#[]⟩⟩=(⟨0,-1,N,code,data,[]⟩,u)) (hR:uS (V.e b k) aF N code data) (bj:(V.e b k).wrote.size<=1000000):
 Calls prog 83 #[.pointer (some ⟨nb,0,none⟩),.int .i64 i,.int .i64 k,.int .i64 aF] w λe w'=>e=.returned (.bool true)/\∃l,bL w nb V {V with st:=ah V.st i u,A:=ah V.A i l,e:=eD V.e b k {V.e b k with read:=(V.e b k).read+data.length,state:=N}} w':=by
 have i0:(0:Int)<=i:=by omega
 have i1:(i:Int)<2:=by omega
 have j0:(0:Int)<=b:=by omega
 have j1:(b:Int)<2:=by omega
 have k0:(0:Int)<=k:=by omega
 have k1:(k:Int)<4:=by omega
 have P:=bL.refl H (aB w none) M;have d:=nG P hi a9 hn ⟨7,(k:Int),aF,0,⟨#[]⟩⟩ (by simp[aS]) (iP _) O;obtain⟨⟨c0,c1,-,-,-,-⟩,-⟩:=H.c;have cx:=H.x i hi;have ce:=H.er b j;have cl:=H.el b j k t;obtain⟨q,B⟩:=hR.str;obtain⟨h1,h2,h3,-,C,Q⟩:=hR;unfold cD mj ja at d;simp only at d;rw[q]at d;obtain⟨o,y⟩:=exq (V.e b k);rw[<-y]at q B h1 h3 C Q bj d⊢;have a2:=J (λ(W:World)(h:Nat->Prop)(T:bL w nb V {V with st:=ah V.st i u,A:=ah V.A i h} W)=>(show(W.cell? ⟨V.eb b k,0,none⟩=some (.string o.wrote)/\W.cell? ⟨V.eb b k,1,none⟩=some (.bool o.finished)/\W.cell? ⟨V.eb b k,2,none⟩=some (.bool o.given)/\W.cell? ⟨V.eb b k,3,none⟩=some (.int .u64 o.code)/\W.cell? ⟨V.eb b k,4,none⟩=some (.int .i64 o.read)/\W.cell? ⟨V.eb b k,5,none⟩=some (.int .i64 o.state))/\∀p,W.frozen? ⟨V.eb b k,p,none⟩=false by
  obtain⟨⟨e0,e1,e2,R,S,U,-⟩,ef⟩:=T.at_.ce j t;simp only[<-y]at e0 e1 e2 R S U;exact⟨⟨e0,e1,e2,R,S,U⟩,ef⟩))
 have X:=J (λ(W:World)(h:Nat->Prop)(T:bL w nb V {V with st:=ah V.st i u,A:=ah V.A i h} W)=>(show∃l,bL w nb V {V with st:=ah V.st i u,A:=ah V.A i l,e:=eD V.e b k {o with read:=o.read+data.length,state:=N}} ((W.setCell ⟨V.eb b k,4,none⟩ (.int .i64 (o.read+data.length))).setCell ⟨V.eb b k,5,none⟩ (.int .i64 N)) by
  have hb:=T.at_.en b j k t;simp only[<-y]at hb;have:=T.trans (T.at_.uP T.laid j t (x:={o with read:=o.read+data.length,state:=N}) (((oD W (V.eb b k) 4 (.int .i64 (o.read+data.length))).trans (oD _ (V.eb b k) 5 (.int .i64 N))).mono (λk _ e=>e.elim id id)) (heap_set (heap_set hb _) _));exact⟨h,this⟩))
 obtain⟨D,r⟩:=exq (o.wrote.extract o.read.toNat (o.read+data.length).toNat);rw[<-r]at q B d;obtain⟨m,Y⟩:=exq data.length;rw[<-Y]at B h2 h3 Q r X⊢;replace⟨d,H,P,M,q,y,r⟩:=iR d H P M q y r;obtain⟨wrote,fin,gv,cd,read,state,af⟩:=o;simp only at *;go_enter func83,ntmps83;go_upto_region 3 with(go_at_call 28;apply(Z d).mono;rintro e g⟨a,m1,m2,h,rfl,-,E,-⟩)
 obtain⟨f,F⟩:=exq (g.alloc (.cells #[.int .i64 0,.int .i64 (-1),.int .i64 N,.int .u64 code,.string D,.slice a m1 m2] 46));have g5:g.grownBy f none:=by rw[F];exact aH _ _ _
 have b5:f.heap[g.heap.size]?=some (.cells #[.int .i64 0,.int .i64 (-1),.int .i64 N,.int .u64 code,.string D,.slice a m1 m2] 46 (0,0)):=by rw[F];exact aO _ _
 rw[<-F];clear F;have G:=E.gb g5;obtain⟨y0,y2,y3,y4⟩:f.cell? ⟨g.heap.size,0,none⟩=some (.int .i64 0)/\f.cell? ⟨g.heap.size,2,none⟩=some (.int .i64 N)/\f.cell? ⟨g.heap.size,3,none⟩=some (.int .u64 code)/\f.cell? ⟨g.heap.size,4,none⟩=some (.string D):=by simp[World.cell?,b5]
 obtain⟨⟨e0,e1,e2,R,S,U⟩,ef⟩:=Z a2 f h G;have hf:=J (Z X f h G);have db:g.heap.size≠V.eb b k:=λe=>by
  have:=E.at_.fc (V.eb b k) (.inr (.inr (.inr (.inr (.inr (.inl ⟨b,k,j,t,rfl⟩))))));omega
 replace Y:=J Y;subst B;have b0:wrote.extract read.toNat (read+(D.size:Int)).toNat=D:=(Z r).symm;have d1:decide (aF<(D.size:Int))=false:=dF_;have s1:IntKind.i64.wrap ((wrote.size:Int)-read)=wrote.size-read:=by simp[IntKind.wrap,IntKind.bits,IntKind.signed];omega
 have d2:decide ((wrote.size:Int)-read<D.size)=false:=dF_;have s2:IntKind.i64.wrap (read+(D.size:Int))=read+D.size:=by simp[IntKind.wrap,IntKind.bits,IntKind.signed];omega
 have l1:read<=read+(D.size:Int):=by omega
 have l2:read+(D.size:Int)<=(wrote.size:Int):=by omega
 clear d X a2 r c0 c1 cx ce cl;replace⟨b5,E,G,O⟩:=eV b5 E G O;go_cut [101] (λv wx=>v=.bool false/\∃nq,wx=f.drewN nq);case first=>
  by_cases s:state=0
  ·subst s;dsimp only[List.append]
   go_quiet (fail);go_wp2;go_meet;exact⟨rfl,_,rfl⟩
  obtain⟨b4,I⟩:=C s;have q1:(state !=0)=true:=by simpa using s
  have dg:(state==0)=false:=by simpa using s
  have K:D=⟨#[]⟩:=by rw[<-Z q,b4];rfl
  have q3:(D.toList==(⟨#[]⟩:ByteArray).toList)=true:=by rw[K];simp
  have q4:D.toList=[]:=by rw[K,ByteArray.toList_eq]
  have q7:D.toList.isEmpty=true:=by rw[q4];rfl
  have q5:(N==state)=true:=by rw[I];simp
  have q6:(N !=state)=false:=by rw[I];simp
  replace⟨K,I,s⟩:=cg K I s;dsimp only[List.append]
  go_quiet (fail);go_wp2;go_meet;exact⟨rfl,_,rfl⟩
 case rest=>
  obtain⟨rfl,nq,a8⟩:=hcut;rw[a8];clear a8 d1 d2 s1 l1 b0;replace C:=J C;obtain⟨z,L⟩|⟨z,b7,aC,L⟩|⟨z,b8,L⟩:=Q
  ·subst z L;go_upto_region 5 with fail;go_region;go_wp2;go_ret;exact⟨rfl,(Z hf).imp (λl T=>T.gb ⟨rfl,rfl,rfl,aR _,λ_ _ _=>rfl⟩)⟩
  ·subst z L b7;have q1:(read+(D.size:Int)==(wrote.size:Int))=true:=by simpa using aC
   replace aC:=J aC;go_upto_region 5 with fail;go_region;go_upto_region 11 with fail;go_region;go_wp2;go_ret;exact⟨rfl,(Z hf).imp (λl T=>T.gb ⟨rfl,rfl,rfl,aR _,λ_ _ _=>rfl⟩)⟩
  subst z b8;go_upto_region 5 with fail;go_region;go_upto_region 13 with fail;go_region;go_wp2;go_ret;exact⟨rfl,(Z hf).imp (λl T=>T.gb ⟨rfl,rfl,rfl,aR _,λ_ _ _=>rfl⟩)⟩
