import Derived.Test.YtjnmokmchdfchaaGreatDoorXf
set_option maxRecDepth 1000000
set_option maxHeartbeats 0
set_option linter.all false
namespace Go.Proofs.YtjnmokmchdfchaaGreatDoor
open Go.RowKit Tryz
attribute[local go_sem↓]Go.wp_at_zero Go.wp_at_succ
variable{C c:Array Value}{i j k l n:Nat}{X:Nw}{a:Option Addr}{x:Value}{W w:World}
structure mS(w:World)(nb:Nat)(V a:Nw)(R:Nat)(cs:Array Value)(sl:Value)(ps:List (List Int))(wr:World):Prop where
 T:bL w nb V a wr
 rb:wr.heap[R]?=some (.cells cs 46 (0,0))
 own:fY wr 0 sl ps
 nR:¬a.dw nb R
 nO:∀k,sl.ownBlock=some k->¬a.dw nb k
def mS.go{a b:Nw}{ps:List (List Int)}{wr:World}(h:mS w n X a i c x ps wr)(S:bL wr n a b W):mS w n X b i c x ps W:=by
 have f:=(aZ.1 h.rb).1;refine⟨h.T.trans S,(S.av.block i f h.nR).trans h.rb,h.own.av S.av h.nO,λe=>(S.all i e).elim h.nR (λq=>by omega),λk d e=>(S.all k e).elim (h.nO k d) (λq=>by have:=(h.own.lt k d).2;omega)⟩
def mS.gb{a:Nw}{ps:List (List Int)}{wr:World}(h:mS w n X a k c x ps wr)(g:wr.grownBy W none):mS w n X a k c x ps W:=h.go (bL.refl h.T.at_ g h.T.laid)
def mS.pk{d:Nw}{ps:List (List Int)}{wr:World}(h:mS w k X d i C (.slice a n l) ps wr)(b:j<ps.length):n=ps.length/\∃g,a=some ⟨g,0,none⟩/\wr.cell? ⟨g,j,none⟩=some (.string (eU (ps.map strOfNums) j)):=by
 obtain⟨-,⟨e,q⟩|⟨g,cap,c,e,-,f,-,-,r,m⟩⟩:=h.own;omega;obtain⟨rfl,rfl,rfl⟩:=js e;refine⟨rfl,g,rfl,?_⟩
 rw[ba f,<-qq];have p:(c.toList.take (ps.length*1))[j]?=c.toList[j]? :=by rw[jI,iP_]
 rw[<-p,m,List.getElem?_map,eI b];simp[eU,List.getD,b]
def jS(V:Nw)(i:Nat)(a:Int)(c:aJ)(bs:List ByteArray)(j:Nat)(d:Nat->Prop)(v:Value):Nw:={V with st:=ah V.st i c,A:=ah V.A i d,bf:=ah V.bf i (V.bf i+j),aI:=V.aI++(bs.take j).map (λb=>(a,b)),vb:=v}
structure uQ(V:Nw)(i:Nat)(b:ByteArray)(j:Nat):Prop where
 ok:eC V.key (aT (decide (i=0))) (aG b)
 num:bq (aG b)=V.bf i+j
 len:(b.size:Int)<=V.aj
 ne:16<b.size
def QH{bs:List ByteArray}(h:j<bs.length):bs.take (j+1)=bs.take j++[eU bs j]:=by
 rw[qW,eI h];simp[eU,List.getD,h]
def bP.QI(h:bP w n X)(hi:i<2):w.cell? ⟨X.cr,i,none⟩=some (.int .u64 (X.bf i))/\w.frozen? ⟨X.cr,i,none⟩=false:=by
 obtain⟨cs,a,b⟩:=h.bf;exact⟨by rw[ba a];exact b i hi,by simp[World.frozen?,a]⟩
def QJ(V:Nw)(i:Nat)(a:Int)(c:aJ)(bs:List ByteArray)(j:Nat)(f:j<bs.length)(d:Nat->Prop)(v e:Value):{jS V i a c bs j d v with bf:=ah (ah V.bf i (V.bf i+j)) i (V.bf i+j+1),aI:=(V.aI++(bs.take j).map (λb=>(a,b)))++[(a,eU bs j)],vb:=e}=jS V i a c bs (j+1) d e:=by
 unfold jS;simp only[rB]
 rw[QH f,mY,fC];congr 1;push_cast;rw[Int.add_assoc]
def uR(w:World)(nb:Nat)(V:Nw)(H:bP w nb V)(S:Laid w)(i:Nat)(b:Int)(hi:i<2)(bM:(1:Int)-i=b)(n:Nat)(a9:dU n (V.st i))(hn:n<=100000)(ps:List (List Int))(b0:ps.length<=1000)(b3:V.aI.length<=9000000)(b4:0<=V.bf i/\V.bf i<=1000000000000)(l:aJ)
 (U:(V.st i).do ⟨5,0,0,0,⟨#[]⟩⟩=(⟨0,-1,0,0,[],ps⟩,l)) (hF:∀j,j<ps.length->uQ V i (eU (ps.map strOfNums) j) j):
 Calls prog 29 #[.pointer (some ⟨nb,0,none⟩),.int .i64 i] w λe G=>e=.returned (.bool true)/\∃A' v,bL w nb V (jS V i b l (ps.map strOfNums) ps.length A' v) G:=by
 have i0:(0:Int)<=i:=by omega
 have i1:(i:Int)<2:=by omega
 have b6:IntKind.i64.wrap b=b:=wI_;have W:=bL.refl H (aB w none) S;have u:=nG W hi a9 hn ⟨5,0,0,0,⟨#[]⟩⟩ (by simp[aS]) (iP _) U;obtain⟨⟨c0,-,-,-,-,-⟩,-⟩:=H.c;have cx:=H.x i hi;unfold cD mj ja at u;simp only[mJ]at u;replace u:=J u;have X:=H.key;have bb:Hid ((prog.info? 24).map (·.size)=some (bv V.key).length):=J (by rw[fL,H.key.1];exact m8);obtain⟨f,Y⟩:=exq (decide (i=0));have b7:((i:Int)==0)=f:=by
  rw[Y];have I:i=0\/i=1:=by omega
  obtain I|I:=I<;>subst I<;>decide
 have ax:Hid (∀j,j<ps.length->eC V.key (aT f) (aG (eU (ps.map strOfNums) j))/\bq (aG (eU (ps.map strOfNums) j))=V.bf i+j/\((eU (ps.map strOfNums) j).size:Int)<=V.aj/\16<(eU (ps.map strOfNums) j).size):=J (λj B=>by rw[Y];exact⟨(hF j B).ok,(hF j B).num,(hF j B).len,(hF j B).ne⟩);clear hF Y;obtain⟨bs,y⟩:=exq (ps.map strOfNums);have b8:bs.length=ps.length:=by rw[y,dH]
 rw[<-y]at ax⊢;replace⟨y,H,W,S,X,U⟩:=nZ y H W S X U;go_enter func29,ntmps29;go_upto_region 2 with(go_at_call 28;apply(Z u).mono;rintro e w3⟨a,m,c,d,rfl,aC,T3,a0⟩)
 obtain⟨W5,K⟩:=exq (w3.alloc (.cells #[.int .i64 0,.int .i64 (-1),.int .i64 0,.int .u64 0,.string ⟨#[]⟩,.slice a m c] 46));obtain⟨R,hR⟩:=exq w3.heap.size;have g5:w3.grownBy W5 none:=by rw[K];exact aH _ _ _
 have b5:W5.heap[R]?=some (.cells #[.int .i64 0,.int .i64 (-1),.int .i64 0,.int .u64 0,.string ⟨#[]⟩,.slice a m c] 46 (0,0)):=by rw[K,hR];exact aO _ _
 have F0:Hid (mS w nb V (jS V i b l bs 0 d V.vb) R #[.int .i64 0,.int .i64 (-1),.int .i64 0,.int .u64 0,.string ⟨#[]⟩,.slice a m c] (.slice a m c) ps W5):=J (by
  have e:jS V i b l bs 0 d V.vb={V with st:=ah V.st i l,A:=ah V.A i d}:=by
   unfold jS;have e1:ah V.bf i (V.bf i+((0:Nat):Int))=V.bf:=by rw[show V.bf i+((0:Nat):Int)=V.bf i by simp,my]
   rw[e1];simp
  rw[e];refine⟨T3.gb g5,b5,(aC.av (ao.of g5) (λk _ e=>by cases e)).low (iP _),λe=>?_,a0⟩
  have:=T3.at_.qe R e;omega)
 rw[<-K,<-hR];clear K T3 a0 aC b5 g5 u c0 cx hR;have hm:(m:Int)=ps.length:=by
  have:=(Z F0).own;obtain⟨a1,c1,e⟩:=this.gK;have:=(js e).2.1;omega
 go_wp2;go_loopw [6] (λjv wr=>∃(j:Nat)(d:Nat->Prop)(v:Value),j<=ps.length/\jv=.int .i64 j/\mS w nb V (jS V i b l bs j d v) R #[.int .i64 0,.int .i64 (-1),.int .i64 0,.int .u64 0,.string ⟨#[]⟩,.slice a m c] (.slice a m c) ps wr) (λjv _=>ps.length-(intOf jv).toNat);case atStart=>exact⟨0,d,V.vb,by omega,rfl,Z F0⟩
 case round=>
  clear F0 d;obtain⟨j,d,v,B,rfl,F⟩:=hrel;obtain⟨va,vc,z,-⟩:=qP F.T.at_.aI;have z:v=.slice va (jS V i b l bs j d v).aI.length vc:=z;obtain⟨vn,a2⟩:=exq ((jS V i b l bs j d v).aI.length);rw[<-a2]at z;clear a2;replace z:=J z;have r5:wr.cell? ⟨R,5,none⟩=some (.slice a m c):=by simp[World.cell?,F.rb]
  by_cases al:j<ps.length
  ·have d1:decide ((j:Int)<m)=true:=dT_;have j0:(0:Int)<=j:=by omega
   have j1:(j:Int)<m:=by omega
   obtain⟨-,g,ha,cp⟩:=F.pk al;rw[<-Z y]at cp;subst ha;obtain⟨f1,f2,f3,f4⟩:=Z ax j al;have ca:(eU bs j).size<=300:=by have:=f1.2.1;rw[fH]at this;exact this
   have ch:=m9 (eU bs j);have C:=F.gb (vE wr (eU bs j));have hU:=E4 (Lib.bytesWorld wr 5 (eU bs j)) V.key f _ _ _ _ (Z X) C.T.laid (xW wr (eU bs j)) (by rw[fH];omega);have a3:=J C.T.at_.qL;have hA:=J (λ(r:World)(g2:(Lib.bytesWorld wr 5 (eU bs j)).grownBy r none)=>(show(r.cell? ⟨nb,2,none⟩=some (.int .i64 V.aj)/\r.cell? ⟨nb,21,none⟩=some (.slice (some ⟨V.cr,0,none⟩) 2 V.cc)/\r.cell? ⟨V.cr,i,none⟩=some (.int .u64 (V.bf i+j))/\r.frozen? ⟨V.cr,i,none⟩=false)/\mS w nb V {jS V i b l bs j d v with bf:=ah (ah V.bf i (V.bf i+j)) i (V.bf i+j+1)} R #[.int .i64 0,.int .i64 (-1),.int .i64 0,.int .u64 0,.string ⟨#[]⟩,.slice (some ⟨g,0,none⟩) m c] (.slice (some ⟨g,0,none⟩) m c) ps (r.setCell ⟨V.cr,i,none⟩ (.int .u64 (V.bf i+j+1))) by
    have D:=C.gb g2;obtain⟨⟨-,-,y2,-,-,y5⟩,-⟩:=D.T.at_.c;obtain⟨y6,y7⟩:=D.T.at_.QI hi;simp only[jS,bk]at y6;exact⟨⟨y2,y5,y6,y7⟩,D.go (D.T.at_.QB D.T.laid hi (V.bf i+j+1))⟩))
   have hB:=J (λ(h:World)(p:mS w nb V {jS V i b l bs j d v with bf:=ah (ah V.bf i (V.bf i+j)) i (V.bf i+j+1)} R #[.int .i64 0,.int .i64 (-1),.int .i64 0,.int .u64 0,.string ⟨#[]⟩,.slice (some ⟨g,0,none⟩) m c] (.slice (some ⟨g,0,none⟩) m c) ps h)=>(show(h.cell? ⟨nb,20,none⟩=some v/\h.cell? ⟨R,5,none⟩=some (.slice (some ⟨g,0,none⟩) m c)/\h.cell? ⟨g,j,none⟩=some (.string (eU bs j))/\nb<h.heap.size/\R<h.heap.size/\g<h.heap.size)/\∃a7 s c7 t,(Builtin.append_ #[77,77] 77 #[v,.slice (some ⟨h.heap.size,0,none⟩) 1 1]).run prog (h.alloc (.cells #[.int .i64 b,.string (eU bs j)] 83)).drew=.ok (.slice a7 s c7) t/\t.cell? ⟨nb,20,none⟩=some v/\t.frozen? ⟨nb,20,none⟩=false/\mS w nb V (jS V i b l bs (j+1) d (.slice a7 s c7)) R #[.int .i64 0,.int .i64 (-1),.int .i64 0,.int .u64 0,.string ⟨#[]⟩,.slice (some ⟨g,0,none⟩) m c] (.slice (some ⟨g,0,none⟩) m c) ps (t.setCell ⟨nb,20,none⟩ (.slice a7 s c7)) by
    have gB:h.grownBy (h.alloc (.cells #[.int .i64 b,.string (eU bs j)] 83)).drew none:=aV (aH _ _ _);have q:=p.gb gB;obtain⟨⟨-,-,-,-,y4,-⟩,-⟩:=p.T.at_.c;obtain⟨⟨-,-,-,-,z4,-⟩,zf⟩:=q.T.at_.c;obtain⟨-,g',eg,a4⟩:=p.pk al;have bj:g=g':=by have:=aQ eg;exact fG Addr.block this
    subst bj;rw[<-Z y]at a4;obtain⟨a7,s,c7,t,hr,hO,g7,h7⟩:=QG v _ q.T.at_.aI h.heap.size 1 (b,eU bs j) (aO h _) (by
     simp only[jS,bH,dH,ct];omega)
    have nn:v.ownBlock≠some nb:=λe=>(show Ty _ nb 80 from⟨_,_,q.T.at_.aP⟩).ne (iY q.T.at_.aI nb e) (by decide) rfl
    have a8:=(g7.block nb (q.T.at_.fc nb (.inl rfl)) (λe=>nn e.symm)).trans q.T.at_.aP;refine⟨⟨y4,by simp[World.cell?,p.rb],a4,p.T.at_.fc nb (.inl rfl),(aZ.1 p.rb).1,(p.own.lt g rfl).2⟩,a7,s,c7,t,hr,?_,by simp[World.frozen?,a8],?_⟩
    rw[ba a8,<-ba q.T.at_.aP];exact z4
    ·have:=q.go (q.T.at_.QD q.T.laid g7 hO h7);rw[<-QJ V i b l bs j (by omega) d v (.slice a7 s c7)];exact this))
   obtain⟨L,M⟩:=exq ((aG (eU bs j)).length-16);have cj:((L:Int)==0)=false:=by rw[M,fH];simp;omega
   have N:Calls prog 61 #[.agg (bv V.key).toArray,.bool f,.slice (some ⟨wr.heap.size,0,none⟩) (eU bs j).size (grownCap wr (eU bs j).size 0 5)] (Lib.bytesWorld wr 5 (eU bs j)) λe G=>(∃O P,e=.returned (.tuple #[.int .u64 (V.bf i+j),.slice O L P,.int .i64 0]))/\(Lib.bytesWorld wr 5 (eU bs j)).grownBy G none:=by
    apply hU.mono;rintro e G⟨⟨-,O,P,rfl,-,-⟩|⟨br,-⟩,g⟩;exact⟨⟨O,P,by rw[f2,M]⟩,g⟩
    exact absurd f1 br
   have q1:decide (V.aj<((eU bs j).size:Int))=false:=dF_;have q2:IntKind.u64.wrap (V.bf i+j+1)=V.bf i+j+1:=wU_;replace⟨N,F,C,f1,f2,M⟩:=nZ N F C f1 f2 M;clear hU;go_upto_region 7 with(first|(refine wpList_load_mid (by rfl) 24 _ (by rfl) nb 4 (by rfl) (bv V.key) _ (Z a3) underlying24 (by rfl) (Z bb) ?_)|(go_at_call 61;apply(Z N).mono;rintro e r⟨⟨O,P,rfl⟩,g2⟩))
   obtain⟨⟨y2,bt,yc,yf⟩,p⟩:=Z hA r g2;obtain⟨h,E⟩:=exq (r.setCell ⟨V.cr,i,none⟩ (.int .u64 (V.bf i+j+1)));rw[<-E]at p;obtain⟨⟨bx,zR,zg,n1,n2,n3⟩,a7,s,c7,t,Q,u20,uf,FE⟩:=Z hB h p;rw[Z z]at bx Q u20;replace⟨FE,p,Q,E⟩:=eV FE p Q E;clear hA hB a3 r5 cp N;go_upto_region 10 with fail;rw[<-Z E];clear E y2 bt yc yf;go_region_law ((refine yS (by rfl) 77 77 (by rfl) _ _ (by rfl) _ _ _ (by rfl) (by rfl) (Z Q) ?_));all_goals
    go_wp2
    exact⟨⟨j+1,d,_,by omega,rfl,Z FE⟩,by simp[intOf];omega⟩
  have d1:decide ((j:Int)<m)=false:=dF_;have bz:j=ps.length:=by omega
  replace F:=J F;go_wp2;go_ret;exact⟨rfl,d,v,by rw[<-bz];exact(Z F).T⟩
