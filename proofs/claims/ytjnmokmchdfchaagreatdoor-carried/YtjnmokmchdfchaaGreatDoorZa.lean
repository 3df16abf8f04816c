import Derived.Test.YtjnmokmchdfchaaGreatDoorZ4
import Derived.Test.YtjnmokmchdfchaaGreatDoorZ5
import Derived.Test.YtjnmokmchdfchaaGreatDoorZ9
set_option maxRecDepth 1000000
set_option maxHeartbeats 8000000
set_option linter.all false
namespace Go.Proofs.YtjnmokmchdfchaaGreatDoor
open Go.RowKit Tryz
attribute[local go_sem↓]Go.wp_at_zero Go.wp_at_succ
variable{I:Act}{C c:Array Value}{F:Exit->Act->World->Prop}{G:Fr}{p q r:Int}{u:It}{L:List Int}{X:List Rg}{b i j k l m n o:Nat}{S:Nat->Prop}{H:Oper}{O:Option Addr}{f:Ot}{T:TypeId}{x y z:Value}{V W w:World}
def jW(r:Int):Int:=if r<=64 then r-1 else if r=65 then 63 else r-2
theorem HH(h:xP r p)(l:r<=1000):p=jW r:=by
 obtain⟨m,i,j,f,d⟩:=h;unfold jW;by_cases a:r-1<=0;rw[az (by omega)];exact i a;have n:=j (by omega);by_cases b:r<=64;rw[az b];apply zH;intro g;have:=d (r-1) (by omega) (cW _);unfold cD at this;rw[az (by omega)]at this;omega;rw[ah b];by_cases c:r=65;subst c;rw[az rfl];have k:p≠64:=λe=>by
  subst e;have:=f (by omega);unfold cD at this;simp at this
 apply zH;intro g;have:=d 63 (by omega) (by omega);unfold cD at this;simp at this;rw[ah c];have k:p≠r-1:=λe=>by
  have:=f (by omega);unfold cD at this;rw[ah (by omega),az (by omega)]at this;omega
 apply zH;intro g;have:=d (r-2) (by omega) (by omega);unfold cD at this;rw[ah (by omega),az (by omega)]at this;omega
def Ot.en(o:Ot):Int:=o.h.fr+o.h.bytes.length
def Ot.fT(o:Ot)(d:List Rg):Rg:=if d.length=0 then⟨o.en,o.en⟩else au d 0
def Ot.ia(o:Ot)(d:List Rg)(b:Bool)(a:Int):Pc×Bool:=
 if jW (a-(2+cD (o.fT d).lo))<0 then(⟨⟨0,0⟩,false,false⟩,false)
 else(⟨⟨(o.fT d).lo,min (o.fT d).hi ((o.fT d).lo+jW (a-(2+cD (o.fT d).lo)))⟩,o.sE&&(min (o.fT d).hi ((o.fT d).lo+jW (a-(2+cD (o.fT d).lo)))==o.en),false⟩,decide ((o.fT d).lo<min (o.fT d).hi ((o.fT d).lo+jW (a-(2+cD (o.fT d).lo))))||((o.sE&&(min (o.fT d).hi ((o.fT d).lo+jW (a-(2+cD (o.fT d).lo)))==o.en))&&b))
theorem HI(w:World)(sb O:Nat)(ab:Option Addr)(nb cb:Nat)(ac:Option Addr)(nc cc:Nat)(o:Ot)(H:gK w sb O ab nb cb ac nc cc o.h)(T:jU w sb O o)(hG:o.sG=false)(a:Option Addr)(n cap:Nat)(d:List Rg)(hs:bu w a n cap d)(t dG:Bool)(p:Int)(e5: -1000<=p/\p<=1000)(hd:∀r∈d,0<=r.lo/\r.lo<=r.hi/\r.hi<=4611686018427387903):
 Calls prog 242 #[.pointer (some ⟨sb,O,none⟩),.agg #[.slice a n cap,.bool t,.bool dG],.int .i64 p] w λr P=>r=.returned (.tuple #[.agg (pA (o.ia d t p).1),.bool (o.ia d t p).2])/\w.grownBy P none:=by
 have bz:=J (λW(g:w.grownBy W none)=>xH W sb O o (T.ao g));rw[hG]at bz;have C:=J (λW(g:w.grownBy W none)=>Am W sb O ab nb cb ac nc cc o.h (H.ao g));have eo:=H.2.2.2.2.2;have cy:0<=(o.fT d).lo/\(o.fT d).lo<=(o.fT d).hi/\(o.fT d).hi<=4611686018427387903:=by
  unfold Ot.fT Ot.en;split;obtain⟨k0,k1,-⟩:=eo;simp only;omega;exact hd _ (oZ (by omega))
 obtain⟨c3,c4,c5,c6,c7,c8,-,-⟩:=T;obtain⟨en,a9⟩:=exq o.en;have cC:o.h.fr+(o.h.bytes.length:Int)=en:=a9.symm;rw[cC]at C;have bb:=J (λW=>GV (o.fT d).lo p W (by omega));obtain⟨X,hX⟩:=exq (o.fT d);obtain⟨res,bM⟩:=exq (o.ia d t p);have Q:Hid (res=if jW (p-(2+cD X.lo))<0 then(⟨⟨0,0⟩,false,false⟩,false)
  else(⟨⟨X.lo,min X.hi (X.lo+jW (p-(2+cD X.lo)))⟩,o.sE&&(min X.hi (X.lo+jW (p-(2+cD X.lo)))==en),false⟩,decide (X.lo<min X.hi (X.lo+jW (p-(2+cD X.lo))))||((o.sE&&(min X.hi (X.lo+jW (p-(2+cD X.lo)))==en))&&t))):=J (by rw[bM,hX,a9];rfl)
 rw[<-hX]at bb cy;rw[<-bM];have c9:Hid (X=if n=0 then⟨en,en⟩else au d 0):=J (by rw[hX,a9,hs.2.1];rfl);obtain⟨c,R⟩:=X;simp only at bb cy Q;clear bM hX a9 cC;obtain⟨S,U⟩:=exq (w.alloc (.cells #[.slice a n cap,.bool t,.bool dG] 332));have g1:w.grownBy S none:=by rw[U];exact aH _ _ _
 have b0:S.heap[w.heap.size]?=some (.cells #[.slice a n cap,.bool t,.bool dG] 332 (0,0)):=by rw[U];exact aM _ _
 have b3:S.heap.size=w.heap.size+1:=by rw[U];simp
 obtain⟨W2,bj⟩:=exq (S.alloc (.cells #[.int .u64 0,.int .u64 0,.bool false,.bool false] 377));have g2:S.grownBy W2 none:=by rw[bj];exact aH _ _ _
 have db:W2.heap[w.heap.size+1]?=some (.cells #[.int .u64 0,.int .u64 0,.bool false,.bool false] 377 (0,0)):=by rw[bj,<-b3];exact aM _ _
 have de:=bA b0 g2;have dg:=aq g1 g2;replace b0:=J b0;replace b3:=J b3;have e6:sb<w.heap.size:=ep w _ c3;go_enter func242,ntmps242;go_upto_region 1 with fail;rw[<-U,<-bj];clear U bj;go_wp2_with fail;refine(Z bz _ dg).mono ?_;rintro e l⟨rfl,g3⟩;have M:=aq dg g3;have b4:=J (bA db g3);have dk:=J (bA de g3);clear db de;have V:l.grownBy l.drew none:=aW (aB _ _);go_upto_region 3 with fail;go_cut [8] (λv wx=>∃B:Nat,v=.pointer (some ⟨B,0,none⟩)/\l.heap.size<=B/\wx.heap[B]?=some (.cells #[.int .u64 en,.int .u64 en] 341 (0,0))/\l.grownBy wx none);case first=>
  go_region_held3 (λP=>l.grownBy P none)
   (first|with_reducible exact u|with_reducible exact q|with_reducible exact V|with_reducible exact aW (ba (aB _ _) _)|with_reducible exact ba V _|with_reducible exact ba q _|with_reducible exact ba u _|with_reducible exact aI (aI u _ _ (.inl (aP _))) _ _ (.inl (aP _))|with_reducible exact aI (aI u _ _ (.inl q.size)) _ _ (.inl q.size))
   (first
     |(go_at_call 196;refine(Z C l.drew (aq M V)).mono ?_;rintro e s⟨rfl,x⟩;have q:l.grownBy s none:=aq V x)
     |(go_at_call 196;refine(Z C (l.alloc (.cells #[.int .u64 0,.int .u64 0] 341)).drew (aq M (aW (aH _ _ _)))).mono ?_;rintro e s⟨rfl,x⟩;have q:l.grownBy s none:=aq (aW (aH _ _ _)) x;have ew:=J (xM x))
     |(go_at_call 196;refine(Z C (s.alloc (.cells #[.int .u64 0,.int .u64 0] 341)) (aq M (ba q _))).mono ?_;rintro e y⟨rfl,E⟩;have u:l.grownBy y none:=aq (ba q _) E;have A:=bA (aM s _) E;obtain⟨⟨k0,k1⟩,z0,z1⟩:=ph A;replace A:=J A)
     |(go_at_call 196;refine(Z C s (aq M q)).mono ?_;rintro e y⟨rfl,E⟩;have u:l.grownBy y none:=aq q E;have A:=bA (Z ew) E;obtain⟨⟨k0,k1⟩,z0,z1⟩:=ph A;replace A:=J A)
     |(go_at_call 196;refine(Z C s (aq M q)).mono ?_;rintro e y⟨rfl,E⟩;have u:l.grownBy y none:=aq q E))
  ·go_wp2_with fail;go_meet;exact⟨_,rfl,u.size,aM _ _,ba u _⟩
  ·go_wp2_with fail;go_meet;exact⟨_,rfl,q.size,heap_set (heap_set (Z A) _) _,aI (aI u ⟨s.heap.size,0,none⟩ _ (.inl q.size)) ⟨s.heap.size,1,none⟩ _ (.inl q.size)⟩
  go_wp2_with fail;go_meet;exact⟨_,rfl,aP _,heap_set (heap_set (Z A) _) _,aI (aI u ⟨l.heap.size,0,none⟩ _ (.inl (aP _))) ⟨l.heap.size,1,none⟩ _ (.inl (aP _))⟩
 case rest=>
  rename World=>w4
  obtain⟨B,rfl,hB,al,F⟩:=hcut;have ds:=aq M F;have br:=bA (Z dk) F;have b5:=bA (Z b4) F;have ey:w.heap.size+1<l.heap.size:=(aY.1 (Z b4)).1;obtain⟨⟨t0,t1,t2⟩,-,-,-⟩:=qM br;obtain⟨⟨u0,u1⟩,v0,v1⟩:=ph al;have ax:=hs.ao ds;have e7:=hs.2.2.1;have ez:=hs.2.2.2.1;unfold maxLen at ez;have du:B≠w.heap.size:=by omega
  have dE:B≠w.heap.size+1:=by omega
  have e8:B≠sb:=by omega
  replace br:=J br;replace b5:=J b5;replace al:=J al;clear V dk b4;go_upto_if 44 with fail;go_cut [] (λwx=>wx.heap[B]?=some (.cells #[.int .u64 c,.int .u64 R] 341 (0,0))/\w4.grownBy wx (some B));case first=>
   by_cases hz:n=0
   ·subst hz;have N:=Z c9;simp only[eX]at N;cases N;go_wp2_with fail;go_meet;exact⟨Z al,aB _ _⟩
   obtain⟨b,ob,rfl⟩:∃b o,a=some ⟨b,o,none⟩:=by
    obtain⟨-,h2,h3,-,h5|⟨b,o,rfl,-⟩⟩:=id hs;omega;exact⟨b,o,rfl⟩
   have N:=Z c9;rw[ah hz]at N;obtain⟨y0,y1⟩:=ax.cell 0 (by have:=hs.2.1;omega);rw[<-N,nG,ou]at y0 y1;simp only at y0 y1;clear N;have i0:(0:Int)<(n:Int):=by omega
   go_wp2_with fail;go_meet;exact⟨heap_set (heap_set (Z al) _) _,aI (aI (aB w4 (some B)) ⟨B,0,none⟩ _ (.inr rfl)) ⟨B,1,none⟩ _ (.inr rfl)⟩
  case rest=>
   rename World=>s
   obtain⟨aC,x⟩:=hcut;have b6:=(x.block w.heap.size (bY (by omega) F.size) (λe=>du (aO e).symm)).trans (Z br);have a0:=(x.block (w.heap.size+1) (bY ey F.size) (λe=>dE (aO e).symm)).trans (Z b5);obtain⟨⟨u0,u1⟩,v0,v1⟩:=ph aC;clear t0 t1 t2 ax;have b7:w.grownBy s none:=oU (aq (cX ds (some B)) x) (by omega);obtain⟨m,hm⟩:=exq (jW (p-(2+cD c)));have e9:=tB c;have fa: -1100<=m/\m<=1000:=by
    rw[hm];unfold jW;split;omega;split<;>omega
   rw[<-hm]at Q;have eK:Hid (∀j,xP (p-(2+cD c)) j->j=m):=J (λj h=>by rw[hm];exact HH h (by omega));clear hm;replace aC:=J aC;replace a0:=J a0;replace b6:=J b6;go_upto_region 6 with fail;go_wp2_with fail;refine(Z bb _).mono ?_;rintro e y⟨j,rfl,ea,rfl⟩;obtain rfl:=Z eK j ea;clear ea;by_cases bt:j<0
   ·have dn:decide (j<0)=true:=bK bt;have G:Hid (res=(⟨⟨0,0⟩,false,false⟩,false)):=J (by rw[Z Q,az bt]);obtain⟨r0,r1,r2,r3⟩:=lS (Z a0);have a1:∀i,y.frozen? ⟨w.heap.size+1,i,none⟩=false:=λi=>by simp[World.frozen?,Z a0]
    have z0:=a1 0;have z1:=a1 1;have z2:=a1 2;have z3:=a1 3;clear a1;go_wp2_with fail;refine cA (v:=.tuple #[.agg #[.int .u64 0,.int .u64 0,.bool false,.bool false],.bool false]) ?_ rfl ⟨by rw[Z G];rfl,aI (aI (aI (aI b7 ⟨w.heap.size+1,0,none⟩ _ (.inl (b9 _))) ⟨w.heap.size+1,1,none⟩ _ (.inl (b9 _))) ⟨w.heap.size+1,2,none⟩ _ (.inl (b9 _))) ⟨w.heap.size+1,3,none⟩ _ (.inl (b9 _))⟩;simp[results,results242,go_sem, *]
   have dn:decide (j<0)=false:=bI bt;obtain⟨h,hh⟩:=exq (min R (c+j));have G:Hid (res=(⟨⟨c,h⟩,o.sE&&(h==en),false⟩,decide (c<h)||((o.sE&&(h==en))&&t))):=J (by rw[Z Q,ah bt,hh]);have fb:IntKind.u64.wrap j=j:=by rw[fh];omega
   have ff:IntKind.u64.wrap (c+j)=c+j:=by rw[fh];omega
   have ee:Hid (h=if c+j<R then c+j else R):=J (by rw[hh];split<;>omega);clear hh Q;go_upto_region 9 with fail;go_cut [] (λwx=>wx.heap[B]?=some (.cells #[.int .u64 c,.int .u64 h] 341 (0,0))/\y.grownBy wx (some B));case first=>
    by_cases eg:c+j<R
    ·have a2:=Z ee;rw[az eg]at a2;subst a2;go_wp2_with fail;go_meet;exact⟨heap_set (Z aC) _,aI (aB y (some B)) ⟨B,1,none⟩ _ (.inr rfl)⟩
    have a2:=Z ee;rw[ah eg]at a2;subst a2;go_wp2_with fail;go_meet;exact⟨heap_set (Z aC) _,aI (aB y (some B)) ⟨B,1,none⟩ _ (.inr rfl)⟩
   case rest=>
    rename World=>f
    obtain⟨b8,g7⟩:=hcut;have fo:=b7.size;have ca:=(g7.block w.heap.size (by have:=F.size;have:=x.size;omega) (λe=>du (aO e).symm)).trans (Z b6);have ch:=(g7.block (w.heap.size+1) (by have:=F.size;have:=x.size;omega) (λe=>dE (aO e).symm)).trans (Z a0);have cj:w.grownBy f none:=oU (aq (cX b7 (some B)) g7) (by omega);obtain⟨⟨u0,u1⟩,-,-⟩:=ph b8;have eL:=kc u0;have eS:=kc u1;have e4:=cj.cell c4 (by simp);have ei:=kc e4;have fq:B<f.heap.size:=ep f _ u0;have fs:sb<f.heap.size:=ep f _ e4;have bx:f.grownBy f.drew none:=aW (aB _ _);have cp:=J (λW(g:f.grownBy W none)=>Z C W (aq cj g));obtain⟨sE,ej⟩:=exq o.sE;rw[<-ej]at e4 ei G;clear ej;obtain⟨I,a3⟩:=exq ((sE&&(h==en)));rw[<-a3]at G;replace a3:=J a3;replace b8:=J b8;replace ch:=J ch;replace ca:=J ca;clear v0 v1;go_upto_region 10 with fail;go_cut [10] (λv wx=>∃Y:Nat,v=.pointer (some ⟨Y,0,none⟩)/\f.heap.size<=Y/\wx.heap[Y]?=some (.cells #[.int .u64 c,.int .u64 h,.bool I,.bool false] 377 (0,0))/\f.grownBy wx none);case first=>
     cases sE
     ·have cv:I=false:=by rw[Z a3];rfl
      subst cv;go_big_region;all_goals
       go_wp2_with fail
       go_meet
       exact⟨_,rfl,aP _,aM f _,aW (ba (aB _ _) _)⟩
     have cv:I=(h==en):=by rw[Z a3];rfl
     subst cv;clear u0 u1 e4;go_region_held3 (λP=>f.grownBy P none)
      (first|with_reducible exact K|with_reducible exact bx|with_reducible exact aW (ba (aB _ _) _)|with_reducible exact ba bx _|with_reducible exact ba K _|with_reducible exact aI (aI (aI (aI K ⟨f.heap.size,0,none⟩ _ (.inl (aP _))) ⟨f.heap.size,1,none⟩ _ (.inl (aP _))) ⟨f.heap.size,2,none⟩ _ (.inl (aP _))) ⟨f.heap.size,3,none⟩ _ (.inl (aP _)))
      (first
        |(go_at_call 196;refine(Z cp f.drew bx).mono ?_;rintro e k⟨rfl,z⟩;have K:f.grownBy k none:=aq bx z)
        |(go_at_call 196;refine(Z cp (f.alloc (.cells #[.int .u64 0,.int .u64 0,.bool false,.bool false] 377)).drew (aW (aH _ _ _))).mono ?_;rintro e k⟨rfl,z⟩;have K:f.grownBy k none:=aq (aW (aH _ _ _)) z;have D:=xM z;obtain⟨k0,k1,k2,k3⟩:=lS D;have z0:k.frozen? ⟨f.heap.size,0,none⟩=false:=(by simp[World.frozen?,D]);have z1:k.frozen? ⟨f.heap.size,1,none⟩=false:=(by simp[World.frozen?,D]);have z2:k.frozen? ⟨f.heap.size,2,none⟩=false:=(by simp[World.frozen?,D]);have z3:k.frozen? ⟨f.heap.size,3,none⟩=false:=(by simp[World.frozen?,D]);replace D:=J D))
     ·go_wp2_with fail;go_meet;exact⟨_,rfl,K.size,aM _ _,ba K _⟩
     go_wp2_with fail;go_meet;have ax:=AJ (o:=0) (Z D) (.int .u64 c) (.int .u64 h) (.bool (h==en)) (.bool false);exact⟨_,rfl,aP _,ax.2,oU (aq (cX K _) ax.1) (aP _)⟩
    case rest=>
     rename World=>k
     obtain⟨Y,rfl,hY,cw,z⟩:=hcut;have e3:=aq cj z;have L:=bA (Z ch) z;have cx:=bA (Z ca) z;obtain⟨r0,r1,r2,r3⟩:=lS L;obtain⟨k0,k1,k2,k3⟩:=lS cw;obtain⟨⟨t0,t1,t2⟩,-,-,-⟩:=qM cx;have x0:=z.cell u0 (by simp);have x1:=z.cell u1 (by simp);have z0:k.frozen? ⟨w.heap.size+1,0,none⟩=false:=by simp[World.frozen?,L]
     have z1:k.frozen? ⟨w.heap.size+1,1,none⟩=false:=by simp[World.frozen?,L]
     have z2:k.frozen? ⟨w.heap.size+1,2,none⟩=false:=by simp[World.frozen?,L]
     have z3:k.frozen? ⟨w.heap.size+1,3,none⟩=false:=by simp[World.frozen?,L]
     have fy:Y≠w.heap.size+1:=by omega
     have a4:∀W,k.grownBy W none->w.grownBy ((((W.setCell ⟨w.heap.size+1,0,none⟩ (.int .u64 c)).setCell ⟨w.heap.size+1,1,none⟩ (.int .u64 h)).setCell ⟨w.heap.size+1,2,none⟩ (.bool I)).setCell ⟨w.heap.size+1,3,none⟩ (.bool false)) none:=λW g=>aI (aI (aI (aI (aq e3 g) ⟨w.heap.size+1,0,none⟩ _ (.inl (b9 _))) ⟨w.heap.size+1,1,none⟩ _ (.inl (b9 _))) ⟨w.heap.size+1,2,none⟩ _ (.inl (b9 _))) ⟨w.heap.size+1,3,none⟩ _ (.inl (b9 _))
     replace a4:=J a4;replace L:=J L;replace cx:=J cx;replace cw:=J cw;clear u0 u1 eL eS e4 ei cp C bz bb;go_upto_region 11 with fail;by_cases ek:c<h
     ·have dx:decide (c<h)=true:=bK ek;have a8:Hid (res=(⟨⟨c,h⟩,I,false⟩,true)):=J (by rw[Z G,dx];rfl);go_big_region;go_wp2_with fail;refine cA (v:=.tuple #[.agg #[.int .u64 c,.int .u64 h,.bool I,.bool false],.bool true]) ?_ rfl ⟨by rw[Z a8];rfl,aW (Z a4 k (aB _ _))⟩;simp[results,results242,go_sem, *]
     have dx:decide (c<h)=false:=bI ek;cases I
     ·have a8:Hid (res=(⟨⟨c,h⟩,false,false⟩,false)):=J (by rw[Z G,dx];rfl);go_big_region;go_wp2_with fail;refine cA (v:=.tuple #[.agg #[.int .u64 c,.int .u64 h,.bool false,.bool false],.bool false]) ?_ rfl ⟨by rw[Z a8];rfl,aW (Z a4 k (aB _ _))⟩;simp[results,results242,go_sem, *]
     have a8:Hid (res=(⟨⟨c,h⟩,true,false⟩,t)):=J (by rw[Z G,dx];simp);go_big_region;go_wp2_with fail;refine cA (v:=.tuple #[.agg #[.int .u64 c,.int .u64 h,.bool true,.bool false],.bool t]) ?_ rfl ⟨by rw[Z a8];rfl,aW (Z a4 k (aB _ _))⟩;simp[results,results242,go_sem, *]
structure gz(w:World)(d:Nat)(cs:Array Value)(b:Nat)(vb vc:Value)(o:Ot):Prop where
 c0:cs[b]?=some (.int .u64 o.h.fr)
 c1:cs[b+1]?=some vb
 c2:cs[b+2]?=some vc
 c3:cs[b+3]?=some (.int .u64 o.aA)
 c4:cs[b+4]?=some (.bool o.sE)
 c5:cs[b+5]?=some (.bool o.sG)
 c6:cs[b+6]?=some (.bool o.tE)
 c7:cs[b+7]?=some (.bool o.tG)
 c8:cs[b+8]?=some (.int .u64 o.code)
 own:bm w d vb o.h.bytes
 set:∃a n c,vc=.slice a n c/\bu w a n c o.h.af
 pr:aV o.aA/\aV o.code
def nL(w a:World)(sb:Nat)(t:TypeId)(cs:Array Value)(c f:Nat)(vb vc:Value)(o:Ot):Prop:=
 ∃d b e,rM w a sb t cs d c 9 vb b/\gz a f d c b e o/\xN w a b vc e
theorem gz.tail(h:gz w k c i x y f)(a:w.heap[n]?=some (.cells c T (0,0))):jU w n i f:=
 ⟨(aX a _).trans h.c3,(aX a _).trans h.c4,(aX a _).trans h.c5,(aX a _).trans h.c6,(aX a _).trans h.c7,(aX a _).trans h.c8,h.pr⟩
theorem gz.mY(h:gz w k C i x y f):∃ab nb cb ac nc cc,x=.slice ab nb cb/\y=.slice ac nc cc:=by
 obtain⟨a,n,c,e,-⟩:=h.set;obtain⟨d,g,b,-⟩:=h.own.bs;exact⟨_,_,_,_,_,_,b,e⟩
theorem gz.hd{ac:Option Addr}(h:gz w i C j (.slice O l m) (.slice ac b n) f)(d:w.heap[k]?=some (.cells C T (0,0)))(g:f.h.nice):gK w k j O l m ac b n f.h:=by
 refine⟨(aX d _).trans h.c0,(aX d _).trans h.c1,(aX d _).trans h.c2,h.own.gI,?_,g⟩
 obtain⟨a,q,c,e,p⟩:=h.set;cases e;exact p
theorem gz.ao(h:gz w k C i x y f)(g:w.grownBy W none):gz W k C i x y f:=
 ⟨h.c0,h.c1,h.c2,h.c3,h.c4,h.c5,h.c6,h.c7,h.c8,h.own.ao g,by obtain⟨a,n,c,e,b⟩:=h.set;exact⟨a,n,c,e,b.ao g⟩,h.pr⟩
theorem bC(h:i≠j):(c.setIfInBounds i x)[j]?=c[j]? :=bg h
theorem vA{ac:Option Addr}(h:∃a n c,Value.slice ac k i=.slice a n c/\bu w a n c X):bu w ac k i X:=by
 obtain⟨a,n,c,e,b⟩:=h;cases e;exact b
theorem vB(a:w.heap[n]?=some (.cells c T (0,0)))(H:gz w l c j x z f)(b:kn w n x z):
 Calls prog 151 #[.pointer (some ⟨n,j,none⟩)] w λr d=>r=.returned (.tuple #[])/\nL w d n T c j l x z {f with sE:=true}:=by
 refine(Gs w n j c T f a (H.tail a)).mono ?_;rintro r d⟨rfl,g,h⟩;obtain⟨ab,nb,cb,ac,nc,cc,rfl,rfl⟩:=H.mY;refine⟨rfl,_,_,_,⟨h,by simp,λi hi=>bC (by omega),(av.of g).mono (λk _ e=>.inl (aO e).symm),.inl rfl⟩,⟨?_,?_,?_,?_,cB (gM H.c4),?_,?_,?_,?_,H.own.gb g (.inr b.1),⟨ac,nc,cc,rfl,(vA H.set).gb g (λy e e2=>(b.2 y nc cc (by rw[e])).1 (aO e2).symm)⟩,H.pr⟩,.inl rfl⟩
 rw[bC (by omega)];exact H.c0;rw[bC (by omega)];exact H.c1;rw[bC (by omega)];exact H.c2;rw[bC (by omega)];exact H.c3;rw[bC (by omega)];exact H.c5;rw[bC (by omega)];exact H.c6;rw[bC (by omega)];exact H.c7;rw[bC (by omega)];exact H.c8
theorem HJ(a:w.heap[n]?=some (.cells c T (0,0)))(H:gz w l c j x z f)(d:kn w n x z)(code:Int)(m:aV code):
 Calls prog 154 #[.pointer (some ⟨n,j,none⟩),.int .u64 code] w λr b=>r=.returned (.tuple #[])/\nL w b n T c j l x z {f with sE:=false,sG:=true,code:=code,h:={f.h with bytes:=[]}}:=by
 obtain⟨ab,nb,cb,ac,nc,cc,rfl,rfl⟩:=H.mY;refine(Gt w n j c T ab nb cb f code a ((aX a _).trans H.c1) (H.tail a)).mono ?_;rintro r b⟨rfl,g,p⟩;have q:=gM H.c8;refine⟨rfl,_,.slice none 0 0,.slice ac nc cc,⟨p,by simp,λi hi=>?_,(av.of g).mono (λk _ e=>.inl (aO e).symm),.inr (λk e=>by cases e)⟩,⟨?_,cB (by simp;omega),?_,?_,?_,?_,?_,?_,?_,bm.nil _ _,⟨ac,nc,cc,rfl,(vA H.set).gb g (λy e e2=>(d.2 y nc cc (by rw[e])).1 (aO e2).symm)⟩,⟨H.pr.1,m⟩⟩,.inl rfl⟩
 rw[bC (by omega),bC (by omega),bC (by omega),bC (by omega)];rw[bC (by omega),bC (by omega),bC (by omega),bC (by omega)];exact H.c0;rw[bC (by omega),bC (by omega),bC (by omega),bC (by omega)];exact H.c2;rw[bC (by omega),bC (by omega),bC (by omega),bC (by omega)];exact H.c3;rw[bC (by omega),bC (by omega),bC (by omega)];exact cB (by omega);rw[bC (by omega),bC (by omega)];exact cB (by simp;omega);rw[bC (by omega),bC (by omega),bC (by omega),bC (by omega)];exact H.c6;rw[bC (by omega),bC (by omega),bC (by omega),bC (by omega)];exact H.c7;rw[bC (by omega)];exact cB (by simp;omega)
def Ot.fv(o:Ot)(n:Nat)(ag:Int):Nat:=(min (min (n:Int) (ag-o.h.bytes.length)) (4096-(o.h.fr+o.h.bytes.length))).toNat
theorem HK(m:w.heap[n]?=some (.cells c T (0,0)))(H:gz w j c k x z f)(q:f.h.nice)(s:j<=w.heap.size)(a:kn w n x z)(b:Option Addr)(nx d:Nat)(l:List Int)(hl:bF w b nx d l)(ag:Int)(t:(f.h.bytes.length:Int)<=ag/\ag<=1000000)(u:f.h.fr+f.h.bytes.length<=4096):
 Calls prog 150 #[.pointer (some ⟨n,k,none⟩),.slice b nx d,.int .i64 ag] w λr p=>r=.returned (.int .i64 (f.fv l.length ag))/\nL w p n T c k j x z {f with h:={f.h with bytes:=f.h.bytes++l.take (f.fv l.length ag)}}:=by
 obtain⟨ab,nb,cb,ac,nc,cc,rfl,rfl⟩:=H.mY;refine(Gw w n k j c T ab nb cb ac nc cc f.h m (H.hd m q) H.own s (λy e e2=>a.1 (by rw[e,<-e2];rfl)) b nx d l hl ag t u (f.fv l.length ag) (by unfold Ot.fv;omega)).mono ?_;rintro r p⟨rfl,v,A,B,ho,C,D,E⟩;have F:=vA H.set;refine⟨rfl,_,.slice v A B,.slice ac nc cc,⟨D,by simp,λi hi=>bC (by omega),C,E⟩,⟨?_,cB (gM H.c1),?_,?_,?_,?_,?_,?_,?_,ho,⟨ac,nc,cc,rfl,F.df (λhl y g=>C.block _ (a.2 y nc cc (by rw[g])).2.2 (λG=>G.elim (a.2 y nc cc (by rw[g])).1 (a.2 y nc cc (by rw[g])).2.1))⟩,H.pr⟩,.inl rfl⟩
 rw[bC (by omega)];exact H.c0;rw[bC (by omega)];exact H.c2;rw[bC (by omega)];exact H.c3;rw[bC (by omega)];exact H.c4;rw[bC (by omega)];exact H.c5;rw[bC (by omega)];exact H.c6;rw[bC (by omega)];exact H.c7;rw[bC (by omega)];exact H.c8
def ai{α:Type}(f:Nat->α)(k:Nat)(x:α):Nat->α:=λi=>if i=k then x else f i
theorem bk{α:Type}(f:Nat->α)(k:Nat)(x:α):ai f k x k=x:=by simp[ai]
theorem bl{α:Type}(f:Nat->α)(x:α)(h:i≠k):ai f k x i=f i:=by simp[ai,h]
theorem ml{α:Type}(f:Nat->α)(k:Nat):ai f k (f k)=f:=by
 funext i;unfold ai;split;rename_i h;rw[h];rfl
theorem bm.aw(h:bm w n x L)(C:av w W S)(c:∀k,x.ownBlock=some k->¬S k):bm W n x L:=by
 obtain⟨h0,d,a⟩:=h;refine⟨h0,d,?_⟩
 obtain a|⟨g,cap,cur,e1,e2,b,e⟩:=a
 exact .inl a;exact .inr ⟨g,cap,cur,e1,e2,(C.block g (aY.1 b).1 (c g (by rw[e1];rfl))).trans b,e⟩
theorem pt(h:∃a n c,x=.slice a n c/\bu w a n c X)(C:av w W S)(hs:∀y n c,x=.slice (some y) n c->¬S y.block/\y.block<w.heap.size):∃a n c,x=.slice a n c/\bu W a n c X:=by
 obtain⟨a,n,c,e,b⟩:=h;refine⟨a,n,c,e,b.df (λ_ y d=>?_)⟩
 have:=hs y n c (by rw[e,d]);exact C.block _ this.2 this.1
theorem gz.frame{cs':Array Value}(h:gz w j c l x z f)(C:av w W S)(a:∀i,l<=i->i<l+9->cs'[i]?=c[i]?)(b:∀k,x.ownBlock=some k->¬S k)(hs:∀y n d,z=.slice (some y) n d->¬S y.block/\y.block<w.heap.size):gz W j cs' l x z f:=
 ⟨(a _ (by omega) (by omega)).trans h.c0,(a _ (by omega) (by omega)).trans h.c1,(a _ (by omega) (by omega)).trans h.c2,(a _ (by omega) (by omega)).trans h.c3,(a _ (by omega) (by omega)).trans h.c4,(a _ (by omega) (by omega)).trans h.c5,(a _ (by omega) (by omega)).trans h.c6,(a _ (by omega) (by omega)).trans h.c7,(a _ (by omega) (by omega)).trans h.c8,h.own.aw C b,pt h.set C hs,h.pr⟩
theorem hb.frame{cs':Array Value}(h:hb w j c l x z u)(C:av w W S)(a:∀i,l<=i->i<l+9->cs'[i]?=c[i]?)(b:∀k,x.ownBlock=some k->¬S k)(hs:∀y n d,z=.slice (some y) n d->¬S y.block/\y.block<w.heap.size):hb W j cs' l x z u:=
 ⟨(a _ (by omega) (by omega)).trans h.c0,(a _ (by omega) (by omega)).trans h.c1,(a _ (by omega) (by omega)).trans h.c2,(a _ (by omega) (by omega)).trans h.c3,(a _ (by omega) (by omega)).trans h.c4,(a _ (by omega) (by omega)).trans h.c5,(a _ (by omega) (by omega)).trans h.c6,(a _ (by omega) (by omega)).trans h.c7,(a _ (by omega) (by omega)).trans h.c8,h.own.aw C b,pt h.set C hs⟩
theorem iA.frame{cs':Array Value}{lf ll:List Kt}(h:iA w n c j x y lf ll p q r)(C:av w W S)(a:∀i,j<=i->i<j+5->cs'[i]?=c[i]?)(b:∀k,x.ownBlock=some k->¬S k)(hl:∀k,y.ownBlock=some k->¬S k):iA W n cs' j x y lf ll p q r:=
 ⟨(a _ (by omega) (by omega)).trans h.c0,(a _ (by omega) (by omega)).trans h.c1,(a _ (by omega) (by omega)).trans h.c2,(a _ (by omega) (by omega)).trans h.c3,(a _ (by omega) (by omega)).trans h.c4,h.of.aw C b,h.ol.aw C hl⟩
structure aU where
 own:Nat->Value
 set:Nat->Value
 lf:List Kt
 ll:List Kt
def cg(sb:Nat)(v:aU)(k:Nat):Prop:=k=sb\/∃i,i<10/\(v.own i).ownBlock=some k
def eA(sb:Nat)(v:aU)(k:Nat):Prop:=cg sb v k\/(∃i y n c,i<9/\v.set i=.slice (some y) n c/\y.block=k)\/∃x∈v.lf++v.ll,∃y n c,x.2=.slice (some y) n c/\y.block=k
structure jn(w:World)(sb:Nat)(v:aU):Prop where
 ig:sb<w.heap.size
 lt:∀i,i<10->∀k,(v.own i).ownBlock=some k->k<w.heap.size
 gO:∀i,i<10->(v.own i).ownBlock≠some sb
 sep:∀i j,i<10->j<10->i≠j->∀k,(v.own i).ownBlock=some k->(v.own j).ownBlock≠some k
 dK:∀i,i<9->∀y n c,v.set i=.slice (some y) n c->¬cg sb v y.block/\y.block<w.heap.size
 fN:m8 w (cg sb v) (v.lf++v.ll)
structure cY(N:Nat)(w b:World)(sb:Nat)(v a:aU):Prop where
 aw:av w b (cg sb v)
 ft:∀k,cg sb a k->cg sb v k\/w.heap.size<=k
 ar:∀k,eA sb a k->eA sb v k\/N<=k
theorem px{v:aU}(G:jn w n v)(h:cg n v k):k<w.heap.size:=by
 obtain rfl|⟨i,hi,h⟩:=h
 exact G.ig;exact G.lt i hi k h
theorem nM{v:aU}(G:jn w j v)(h:eA j v k):k<w.heap.size:=by
 obtain h|⟨i,y,n,c,hi,e,rfl⟩|⟨x,d,y,n,c,e,rfl⟩:=h
 exact px G h;exact(G.dK i hi y n c e).2;obtain⟨a,g,l,b,-,f⟩:=G.fN x d;rw[e]at b;exact(f y (jg b).1.symm).2
theorem cY.mono{v a:aU}(h:cY n w W j v a)(b:i<=n):cY i w W j v a:=⟨h.aw,h.ft,λk c=>(h.ar k c).imp id (λe=>bD b e)⟩
theorem cY.rfl'(N:Nat)(w:World)(sb:Nat)(v:aU):cY N w w sb v v:=⟨av.rfl' _ _,λ_ h=>.inl h,λ_ h=>.inl h⟩
theorem cY.trans{u v x:aU}(h:cY n w W j u v)(k:cY n W V j v x):cY n w V j u x:=by
 refine⟨⟨k.aw.os.trans h.aw.os,k.aw.tape.trans h.aw.tape,k.aw.output.trans h.aw.output,bD h.aw.size k.aw.size,λi hi b=>?_⟩,λi hi=>?_,λi hi=>?_⟩
 rw[k.aw.block i (bY hi h.aw.size) (λc=>(h.ft i c).elim b (by omega))];exact h.aw.block i hi b;obtain a|a:=k.ft i hi
 exact h.ft i a;exact .inr (bD h.aw.size a);obtain a|a:=k.ar i hi
 exact h.ar i a;exact .inr a
theorem jn.ao{v:aU}(G:jn w j v)(g:w.grownBy W none):jn W j v:=
 ⟨bY G.ig g.size,λi hi k e=>bY (G.lt i hi k e) g.size,G.gO,G.sep,λi hi y n c e=>⟨(G.dK i hi y n c e).1,bY (G.dK i hi y n c e).2 g.size⟩,G.fN.aw (av.of g) (λk _ e=>by cases e)⟩
theorem cY.ao{v:aU}(g:w.grownBy W none):cY n w W i v v:=⟨(av.of g).mono (λk _ e=>by cases e),λ_ h=>.inl h,λ_ h=>.inl h⟩
theorem jn.other{v:aU}(G:jn w j v)(C:av w W S)(g:∀k,k<w.heap.size->S k->¬eA j v k):jn W j v:=by
 refine⟨bY G.ig C.size,λi hi k e=>bY (G.lt i hi k e) C.size,G.gO,G.sep,λi hi y n c e=>⟨(G.dK i hi y n c e).1,bY (G.dK i hi y n c e).2 C.size⟩,λx f=>?_⟩
 obtain⟨a,n,c,e,hp,d⟩:=G.fN x f;refine⟨a,n,c,e,hp.df (λ_ y b=>C.block _ (d y b).2 (λh=>g _ (d y b).2 h (.inr (.inr ⟨x,f,y,n,c,by rw[e,b],rfl⟩)))),λy b=>⟨(d y b).1,bY (d y b).2 C.size⟩⟩
theorem jn.oV{v:aU}(G:jn w l v)(i:Nat)(hi:i<8)(m r:Value)(C:av w W (λk=>k=l\/(v.own i).ownBlock=some k))(z:m.ownBlock=(v.own i).ownBlock\/∀k,m.ownBlock=some k->w.heap.size<=k)(K:∀k,m.ownBlock=some k->k<W.heap.size)(F:xN w W m (v.set i) r):
 jn W l {v with own:=ai v.own i m,set:=ai v.set i r}/\cY w.heap.size w W l v {v with own:=ai v.own i m,set:=ai v.set i r}:=by
 have A:∀k,cg l {v with own:=ai v.own i m,set:=ai v.set i r} k->cg l v k\/w.heap.size<=k:=λk h=>by
  obtain rfl|⟨j,d,h⟩:=h
  exact .inl (.inl rfl);simp only at h;by_cases e:j=i;subst e;rw[bk]at h;obtain b|b:=z
  exact .inl (.inr ⟨j,d,by rw[<-b];exact h⟩);exact .inr (b k h);rw[bl _ _ e]at h;exact .inl (.inr ⟨j,d,h⟩)
 have E:∀j,j<9->∀y n c,(ai v.set i r) j=.slice (some y) n c->(¬cg l {v with own:=ai v.own i m,set:=ai v.set i r} y.block/\y.block<W.heap.size)/\(v.set j=.slice (some y) n c\/w.heap.size<=y.block):=λj d y n c e=>by
  have H:v.set j=.slice (some y) n c->(¬cg l {v with own:=ai v.own i m,set:=ai v.set i r} y.block/\y.block<W.heap.size)/\(v.set j=.slice (some y) n c\/w.heap.size<=y.block):=λe=>by
   obtain⟨g,f⟩:=G.dK j d y n c e;exact⟨⟨λh=>(A _ h).elim g (by omega),bY f C.size⟩,.inl e⟩
  by_cases I:j=i;subst I;rw[bk]at e;obtain rfl|F:=F
  exact H e;obtain⟨g,f,L⟩:=F y n c e;refine⟨⟨λh=>?_,f⟩,.inr g⟩
  obtain h|⟨q,s,h⟩:=h
  have:=G.ig;omega;simp only at h;by_cases eq:q=j;subst eq;rw[bk]at h;exact L h;rw[bl _ _ eq]at h;have:=G.lt q s _ h;omega;rw[bl _ _ I]at e;exact H e
 refine⟨⟨bY G.ig C.size,λj d k h=>?_,λj d h=>?_,λp q hp s B k g f=>?_,λj d y n c e=>(E j d y n c e).1,λx D=>?_⟩,⟨C.mono (λk _ h=>h.elim .inl (λh=>.inr ⟨i,by omega,h⟩)),A,λk h=>?_⟩⟩
 simp only at h;by_cases e:j=i;subst e;rw[bk]at h;exact K k h;rw[bl _ _ e]at h;exact bY (G.lt j d k h) C.size;simp only at h;by_cases e:j=i;subst e;rw[bk]at h;obtain b|b:=z
 rw[b]at h;exact G.gO j d h;have:=b _ h;have:=G.ig;omega;rw[bl _ _ e]at h;exact G.gO j d h;simp only at g f;by_cases e1:p=i;have e2:q≠i:=by omega
 subst e1;rw[bk]at g;rw[bl _ _ e2]at f;obtain b|b:=z
 rw[b]at g;exact G.sep p q hp s B k g f;have:=b _ g;have:=G.lt q s k f;omega;rw[bl _ _ e1]at g;by_cases e2:q=i;subst e2;rw[bk]at f;obtain b|b:=z
 rw[b]at f;exact G.sep p q hp s B k g f;have:=b _ f;have:=G.lt p hp k g;omega;rw[bl _ _ e2]at f;exact G.sep p q hp s B k g f;obtain⟨a,n,c,e,hp,u⟩:=G.fN x D;exact⟨a,n,c,e,hp.df (λ_ y t=>C.block _ (u y t).2 (λM=>(u y t).1 (M.elim .inl (λh=>.inr ⟨i,by omega,h⟩)))),λy t=>⟨λh=>(A _ h).elim (u y t).1 (by have:=(u y t).2;omega),bY (u y t).2 C.size⟩⟩
 obtain h|⟨j,y,n,c,d,e,rfl⟩|⟨x,D,y,n,c,e,rfl⟩:=h
 exact(A k h).imp .inl id;simp only at e;obtain e2|e2:=(E j d y n c e).2
 exact .inl (.inr (.inl ⟨j,y,n,c,d,e2,rfl⟩));exact .inr e2;exact .inl (.inr (.inr ⟨x,D,y,n,c,e,rfl⟩))
theorem jn.HM{v:aU}(U:i<=w.heap.size)(G:jn w l v)(m r:Value)(E F:List Kt)(C:av w W (FT l (v.own 8) (v.own 9)))(I:m.ownBlock=(v.own 8).ownBlock\/∀k,m.ownBlock=some k->w.heap.size<=k)(K:r.ownBlock=(v.own 9).ownBlock\/∀k,r.ownBlock=some k->w.heap.size<=k)(M:∀k,m.ownBlock=some k->r.ownBlock≠some k)(V:∀k,m.ownBlock=some k->k<W.heap.size)(X:∀k,r.ownBlock=some k->k<W.heap.size)
 (N:∀x∈E++F,x∈v.lf++v.ll\/∃a n c,x.2=.slice a n c/\ko W a n c x.1.ps/\∀y,a=some y->(i<=y.block/\y.block<W.heap.size/\¬cg l v y.block/\m.ownBlock≠some y.block/\r.ownBlock≠some y.block)):
 jn W l ⟨ai (ai v.own 8 m) 9 r,v.set,E,F⟩/\cY i w W l v ⟨ai (ai v.own 8 m) 9 r,v.set,E,F⟩:=by
 have z:ai (ai v.own 8 m) 9 r 8=m:=by rw[bl _ _ (by omega),bk]
 have A:ai (ai v.own 8 m) 9 r 9=r:=bk _ _ _;have s:∀j,j<8->ai (ai v.own 8 m) 9 r j=v.own j:=λj d=>by rw[bl _ _ (by omega),bl _ _ (by omega)]
 have D:∀j,j<10->j<8\/j=8\/j=9:=λj d=>by omega
 have H:∀k,cg l ⟨ai (ai v.own 8 m) 9 r,v.set,E,F⟩ k->cg l v k\/w.heap.size<=k:=λk h=>by
  obtain rfl|⟨j,d,h⟩:=h
  exact .inl (.inl rfl);simp only at h;obtain e|rfl|rfl:=D j d
  rw[s j e]at h;exact .inl (.inr ⟨j,d,h⟩);rw[z]at h;obtain f|f:=I
  exact .inl (.inr ⟨8,d,by rw[<-f];exact h⟩);exact .inr (f k h);rw[A]at h;obtain f|f:=K
  exact .inl (.inr ⟨9,d,by rw[<-f];exact h⟩);exact .inr (f k h)
 have O:∀k,FT l (v.own 8) (v.own 9) k->cg l v k:=λk h=>by
  obtain rfl|h|h:=h
  exact .inl rfl;exact .inr ⟨8,by omega,h⟩;exact .inr ⟨9,by omega,h⟩
 have P:∀j,j<8->∀k,(v.own j).ownBlock=some k->m.ownBlock≠some k:=λj d k g b=>by
  obtain f|f:=I
  rw[f]at b;exact G.sep j 8 (by omega) (by omega) (by omega) k g b;have:=f _ b;have:=G.lt j (by omega) k g;omega
 have Q:∀j,j<8->∀k,(v.own j).ownBlock=some k->r.ownBlock≠some k:=λj d k g b=>by
  obtain f|f:=K
  rw[f]at b;exact G.sep j 9 (by omega) (by omega) (by omega) k g b;have:=f _ b;have:=G.lt j (by omega) k g;omega
 refine⟨⟨bY G.ig C.size,λj d k h=>?_,λj d h=>?_,λp q hp R L k g b=>?_,λj d y n c e=>?_,λx B=>?_⟩,⟨C.mono (λk _ h=>O k h),H,λk h=>?_⟩⟩
 simp only at h;obtain e|rfl|rfl:=D j d
 rw[s j e]at h;exact bY (G.lt j d k h) C.size;rw[z]at h;exact V k h;rw[A]at h;exact X k h;simp only at h;obtain e|rfl|rfl:=D j d
 rw[s j e]at h;exact G.gO j d h;rw[z]at h;obtain f|f:=I
 rw[f]at h;exact G.gO 8 d h;have:=f _ h;have:=G.ig;omega;rw[A]at h;obtain f|f:=K
 rw[f]at h;exact G.gO 9 d h;have:=f _ h;have:=G.ig;omega;simp only at g b;obtain e1|rfl|rfl:=D p hp<;>rcases D q R with e2|rfl|rfl
 rw[s p e1]at g;rw[s q e2]at b;exact G.sep p q hp R L k g b;rw[s p e1]at g;rw[z]at b;exact P p e1 k g b;rw[s p e1]at g;rw[A]at b;exact Q p e1 k g b;rw[z]at g;rw[s q e2]at b;exact P q e2 k b g;exact L rfl;rw[z]at g;rw[A]at b;exact M k g b;rw[A]at g;rw[s q e2]at b;exact Q q e2 k b g;rw[A]at g;rw[z]at b;exact M k b g;exact L rfl;obtain⟨g,b⟩:=G.dK j d y n c e;exact⟨λh=>(H _ h).elim g (by omega),bY b C.size⟩
 obtain B|⟨a,n,c,e,hp,t⟩:=N x B
 obtain⟨a,n,c,e,hp,t⟩:=G.fN x B;exact⟨a,n,c,e,hp.df (λ_ y u=>C.block _ (t y u).2 (λY=>(t y u).1 (O _ Y))),λy u=>⟨λh=>(H _ h).elim (t y u).1 (by have:=(t y u).2;omega),bY (t y u).2 C.size⟩⟩
 refine⟨a,n,c,e,hp,λy u=>⟨λh=>?_,(t y u).2.1⟩⟩
 obtain⟨y1,y2,S,y3,y4⟩:=t y u;obtain h|⟨j,d,h⟩:=h
 exact S (.inl h);simp only at h;obtain e|rfl|rfl:=D j d
 rw[s j e]at h;exact S (.inr ⟨j,d,h⟩);rw[z]at h;exact y3 h;rw[A]at h;exact y4 h;obtain h|⟨j,y,n,c,d,e,rfl⟩|⟨x,B,y,n,c,e,rfl⟩:=h
 exact(H k h).imp .inl (λe=>bD U e);exact .inl (.inr (.inl ⟨j,y,n,c,d,e,rfl⟩));obtain B|⟨a,n',c',T,hp,t⟩:=N x B
 exact .inl (.inr (.inr ⟨x,B,y,n,c,e,rfl⟩));rw[e]at T;exact .inr (t y (jg T).1.symm).1
theorem jn.HP{v:aU}(G:jn w l v)(i:Nat)(hi:i<9)(d:Value)(C:av w W (λk=>k=l))(F:d=v.set i\/∀y n c,d=.slice (some y) n c->w.heap.size<=y.block/\y.block<W.heap.size):
 jn W l {v with set:=ai v.set i d}/\cY w.heap.size w W l v {v with set:=ai v.set i d}:=by
 have r:∀j,j<9->∀y n c,(ai v.set i d) j=.slice (some y) n c->(¬cg l {v with set:=ai v.set i d} y.block/\y.block<W.heap.size)/\(v.set j=.slice (some y) n c\/w.heap.size<=y.block):=λj b y n c e=>by
  have s:v.set j=.slice (some y) n c->(¬cg l {v with set:=ai v.set i d} y.block/\y.block<W.heap.size)/\(v.set j=.slice (some y) n c\/w.heap.size<=y.block):=λe=>by
   obtain⟨m,p⟩:=G.dK j b y n c e;exact⟨⟨m,bY p C.size⟩,.inl e⟩
  by_cases t:j=i;subst t;rw[bk]at e;obtain rfl|F:=F
  exact s e;obtain⟨m,p⟩:=F y n c e;exact⟨⟨λh=>by have:=px G h;omega,p⟩,.inr m⟩
  rw[bl _ _ t]at e;exact s e
 refine⟨⟨bY G.ig C.size,λj b k h=>bY (G.lt j b k h) C.size,G.gO,G.sep,λj b y n c e=>(r j b y n c e).1,λx q=>?_⟩,⟨C.mono (λk _ h=>.inl h),λk h=>.inl h,λk h=>?_⟩⟩
 obtain⟨a,n,c,e,hp,g⟩:=G.fN x q;exact⟨a,n,c,e,hp.df (λ_ y f=>C.block _ (g y f).2 (λu=>(g y f).1 (.inl u))),λy f=>⟨(g y f).1,bY (g y f).2 C.size⟩⟩
 obtain h|⟨j,y,n,c,b,e,rfl⟩|⟨x,q,y,n,c,e,rfl⟩:=h
 exact .inl (.inl h);simp only at e;obtain e2|e2:=(r j b y n c e).2
 exact .inl (.inr (.inl ⟨j,y,n,c,b,e2,rfl⟩));exact .inr e2;exact .inl (.inr (.inr ⟨x,q,y,n,c,e,rfl⟩))
variable{D:aU}
structure Sd where
 an:Int
 ag:Int
 key:List Int
 first:Bool
 out:Nat->Ot
 aJ:Nat->It
 aK:List Pk
 lost:List Pk
 count:Int
 tick:Int
 wait:Int
 af:List Rg
 floor:Int
 eG:Bool
structure bB(w:World)(b sb:Nat)(cs:Array Value)(v:aU)(s:Sd):Prop where
 aN:w.heap[sb]?=some (.cells cs 241 (0,0))
 sz:cs.size=101
 c0:cs[0]?=some (.int .i64 s.an)
 c1:cs[1]?=some (.int .i64 s.ag)
 key:∀i,i<16->cs[2+i]?=(bv s.key)[i]?
 ij:cs[18]?=some (.bool s.first)
 out:∀k,k<4->gz w b cs (19+9*k) (v.own k) (v.set k) (s.out k)
 aJ:∀k,k<4->hb w b cs (55+9*k) (v.own (4+k)) (v.set (4+k)) (s.aJ k)
 fl:iA w b cs 91 (v.own 8) (v.own 9) v.lf v.ll s.count s.tick s.wait
 aK:s.aK=v.lf.map (·.1)
 lost:s.lost=v.ll.map (·.1)
 nN:cs[96]?=some (v.set 8)
 nP:∃a n c,v.set 8=.slice a n c/\bu w a n c s.af
 oF:cs[97]?=some (.int .u64 s.floor)
 kO:cs[98]?=some (.bool s.eG)
 dC:cs[99]?=some (.int .i64 0)
 py:cs[100]?=some (.slice none 0 0)
 bq:jn w sb v
 aG:b<=w.heap.size
def dO(N:Nat)(w:World)(c sb:Nat)(v:aU)(d:Sd)(a:World):Prop:=∃e b,bB a c sb e b d/\cY N w a sb v b
theorem bB.ao{s:Sd}(H:bB w i j C D s)(g:w.grownBy W none):bB W i j C D s:=
 ⟨bA H.aN g,H.sz,H.c0,H.c1,H.key,H.ij,λk b=>(H.out k b).ao g,λk b=>(H.aJ k b).ao g,H.fl.ao g,H.aK,H.lost,H.nN,by obtain⟨a,n,c,e,h⟩:=H.nP;exact⟨a,n,c,e,h.ao g⟩,H.oF,H.kO,H.dC,H.py,H.bq.ao g,bD H.aG g.size⟩
theorem bB.to{s:Sd}(H:bB w n k c D s)(g:w.grownBy W none){N:Nat}:dO N w n k D s W:=⟨c,D,H.ao g,cY.ao g⟩
theorem dO.mono{s:Sd}(H:dO n w j l D s W)(h:i<=n):dO i w j l D s W:=by
 obtain⟨cs,a,b,k⟩:=H;exact⟨cs,a,b,k.mono h⟩
theorem dO.pre{N:Nat}{a:aU}{s:Sd}(b:cY N w V i D a)(H:dO N V n i a s W):dO N w n i D s W:=by
 obtain⟨cs,c,h,k⟩:=H;exact⟨cs,c,h,b.trans k⟩
theorem bB.vC{s:Sd}(H:bB w i j C D s)(k:Nat)(a:k<4):kn w j (D.own k) (D.set k):=
 ⟨H.bq.gO k (by omega),λy n c e=>⟨λh=>(H.bq.dK k (by omega) y n c e).1 (.inl h),λh=>(H.bq.dK k (by omega) y n c e).1 (.inr ⟨k,by omega,h⟩),(H.bq.dK k (by omega) y n c e).2⟩⟩
theorem bB.xX{s:Sd}(H:bB w i j C D s)(k:Nat)(a:k<4):kn w j (D.own (4+k)) (D.set (4+k)):=
 ⟨H.bq.gO _ (by omega),λy n c e=>⟨λh=>(H.bq.dK _ (by omega) y n c e).1 (.inl h),λh=>(H.bq.dK _ (by omega) y n c e).1 (.inr ⟨4+k,by omega,h⟩),(H.bq.dK _ (by omega) y n c e).2⟩⟩
theorem bB.rP{s:Sd}(H:bB w n k c D s):pq k (D.own 8) (D.own 9):=
 ⟨H.bq.gO 8 (by omega),H.bq.gO 9 (by omega),H.bq.sep 8 9 (by omega) (by omega) (by omega)⟩
theorem bB.tC{s:Sd}(H:bB w l m c D s)(b:av w W S)(d:∀k,S k->cg m D k)(j:Nat)(f:j<4)(g:∀i,19+9*j<=i->i<19+9*j+9->C[i]?=c[i]?)(p:∀k,(D.own j).ownBlock=some k->¬S k):gz W l C (19+9*j) (D.own j) (D.set j) (s.out j):=
 (H.out j f).frame b g p (λy n a e=>⟨λh=>(H.bq.dK j (by omega) y n a e).1 (d _ h),(H.bq.dK j (by omega) y n a e).2⟩)
theorem bB.tD{s:Sd}(H:bB w l m c D s)(b:av w W S)(d:∀k,S k->cg m D k)(j:Nat)(f:j<4)(g:∀i,55+9*j<=i->i<55+9*j+9->C[i]?=c[i]?)(p:∀k,(D.own (4+j)).ownBlock=some k->¬S k):hb W l C (55+9*j) (D.own (4+j)) (D.set (4+j)) (s.aJ j):=
 (H.aJ j f).frame b g p (λy n a e=>⟨λh=>(H.bq.dK (4+j) (by omega) y n a e).1 (d _ h),(H.bq.dK (4+j) (by omega) y n a e).2⟩)
theorem bB.ql{s:Sd}(H:bB w n l c D s)(i j:Nat)(hi:i<10)(b:j<10)(d:j≠i):∀k,(D.own j).ownBlock=some k->¬(k=l\/(D.own i).ownBlock=some k):=λk h a=>by
 obtain rfl|a:=a
 exact H.bq.gO j b h;exact H.bq.sep j i b hi d k h a
theorem bB.vD{s:Sd}(H:bB w l m C D s)(k:Nat)(v:k<4)(o:Ot)(h:nL w W m 241 C (19+9*k) l (D.own k) (D.set k) o):dO w.heap.size w l m D {s with out:=ai s.out k o} W:=by
 obtain⟨r,d,f,T,g,F⟩:=h;obtain⟨t,u⟩:=H.bq.oV k (by omega) d f T.aw T.new (λj e=>(g.own.lt j e).2) F;have a:∀j,(j=m\/(D.own k).ownBlock=some j)->cg m D j:=λj h=>h.elim .inl (λh=>.inr ⟨k,by omega,h⟩)
 refine⟨r,{D with own:=ai D.own k d,set:=ai D.set k f},⟨T.aN,T.sz.trans H.sz,(T.out 0 (by omega)).trans H.c0,(T.out 1 (by omega)).trans H.c1,λi hi=>(T.out _ (by omega)).trans (H.key i hi),(T.out 18 (by omega)).trans H.ij,λj b=>?_,λj b=>?_,?_,H.aK,H.lost,?_,?_,(T.out 97 (by omega)).trans H.oF,(T.out 98 (by omega)).trans H.kO,(T.out 99 (by omega)).trans H.dC,(T.out 100 (by omega)).trans H.py,t,bD H.aG T.aw.size⟩,u⟩
 by_cases e:j=k;subst e;simp only[bk];exact g;simp only[bl _ _ e]
 exact H.tC T.aw a j b (λi p q=>T.out i (by omega)) (H.ql k j (by omega) (by omega) e);simp only[bl _ _ (show 4+j≠k by omega)]
 exact H.tD T.aw a j b (λi p q=>T.out i (by omega)) (H.ql k (4+j) (by omega) (by omega) (by omega));simp only[bl _ _ (show 8≠k by omega),bl _ _ (show 9≠k by omega)]
 exact H.fl.frame T.aw (λi p q=>T.out i (by omega)) (H.ql k 8 (by omega) (by omega) (by omega)) (H.ql k 9 (by omega) (by omega) (by omega));simp only[bl _ _ (show 8≠k by omega)];exact(T.out 96 (by omega)).trans H.nN;simp only[bl _ _ (show 8≠k by omega)]
 exact pt H.nP T.aw (λy n c e=>⟨λh=>(H.bq.dK 8 (by omega) y n c e).1 (a _ h),(H.bq.dK 8 (by omega) y n c e).2⟩)
theorem bB.xY{s:Sd}(H:bB w l m C D s)(k:Nat)(v:k<4)(o:It)(h:mZ w W m 241 C (55+9*k) l (D.own (4+k)) (D.set (4+k)) o):dO w.heap.size w l m D {s with aJ:=ai s.aJ k o} W:=by
 obtain⟨r,d,f,T,g,F⟩:=h;obtain⟨t,u⟩:=H.bq.oV (4+k) (by omega) d f T.aw T.new (λj e=>(g.own.lt j e).2) F;have a:∀j,(j=m\/(D.own (4+k)).ownBlock=some j)->cg m D j:=λj h=>h.elim .inl (λh=>.inr ⟨4+k,by omega,h⟩)
 refine⟨r,{D with own:=ai D.own (4+k) d,set:=ai D.set (4+k) f},⟨T.aN,T.sz.trans H.sz,(T.out 0 (by omega)).trans H.c0,(T.out 1 (by omega)).trans H.c1,λi hi=>(T.out _ (by omega)).trans (H.key i hi),(T.out 18 (by omega)).trans H.ij,λj b=>?_,λj b=>?_,?_,H.aK,H.lost,?_,?_,(T.out 97 (by omega)).trans H.oF,(T.out 98 (by omega)).trans H.kO,(T.out 99 (by omega)).trans H.dC,(T.out 100 (by omega)).trans H.py,t,bD H.aG T.aw.size⟩,u⟩
 simp only[bl _ _ (show j≠4+k by omega)]
 exact H.tC T.aw a j b (λi p q=>T.out i (by omega)) (H.ql (4+k) j (by omega) (by omega) (by omega));by_cases e:j=k;subst e;simp only[bk];exact g;simp only[bl _ _ (show 4+j≠4+k by omega),bl _ _ e]
 exact H.tD T.aw a j b (λi p q=>T.out i (by omega)) (H.ql (4+k) (4+j) (by omega) (by omega) (by omega));simp only[bl _ _ (show 8≠4+k by omega),bl _ _ (show 9≠4+k by omega)]
 exact H.fl.frame T.aw (λi p q=>T.out i (by omega)) (H.ql (4+k) 8 (by omega) (by omega) (by omega)) (H.ql (4+k) 9 (by omega) (by omega) (by omega));simp only[bl _ _ (show 8≠4+k by omega)];exact(T.out 96 (by omega)).trans H.nN;simp only[bl _ _ (show 8≠4+k by omega)]
 exact pt H.nP T.aw (λy n c e=>⟨λh=>(H.bq.dK 8 (by omega) y n c e).1 (a _ h),(H.bq.dK 8 (by omega) y n c e).2⟩)
theorem bB.xZ{s:Sd}(H:bB w m o C D s)(v:l<=w.heap.size)(b d:Value)(f g:List Kt)(count tick wait:Int)(T:qP w W o 241 C c 91 (D.own 8) (D.own 9) b d)(q:iA W m c 91 b d f g count tick wait)(z:∀k,b.ownBlock=some k->d.ownBlock≠some k)
 (A:∀x∈f++g,x∈D.lf++D.ll\/∃a n p,x.2=.slice a n p/\ko W a n p x.1.ps/\∀y,a=some y->(l<=y.block/\y.block<W.heap.size/\¬cg o D y.block/\b.ownBlock≠some y.block/\d.ownBlock≠some y.block)):
 bB W m o c ⟨ai (ai D.own 8 b) 9 d,D.set,f,g⟩ {s with aK:=f.map (·.1),lost:=g.map (·.1),count:=count,tick:=tick,wait:=wait}/\cY l w W o D ⟨ai (ai D.own 8 b) 9 d,D.set,f,g⟩:=by
 obtain⟨B,E⟩:=H.bq.HM v b d f g T.aw T.Hn T.AN z (λk e=>(q.of.lt k e).2) (λk e=>(q.ol.lt k e).2) A;have r:∀j,FT o (D.own 8) (D.own 9) j->cg o D j:=λj h=>by
  obtain h|h|h:=h
  exact .inl h;exact .inr ⟨8,by omega,h⟩;exact .inr ⟨9,by omega,h⟩
 have u:∀i,i<8->∀k,(D.own i).ownBlock=some k->¬FT o (D.own 8) (D.own 9) k:=λi hi k e h=>by
  obtain rfl|h|h:=h
  exact H.bq.gO i (by omega) e;exact H.bq.sep i 8 (by omega) (by omega) (by omega) k e h;exact H.bq.sep i 9 (by omega) (by omega) (by omega) k e h
 refine⟨⟨T.aN,T.sz.trans H.sz,(T.out 0 (by omega)).trans H.c0,(T.out 1 (by omega)).trans H.c1,λi hi=>(T.out _ (by omega)).trans (H.key i hi),(T.out 18 (by omega)).trans H.ij,λj t=>?_,λj t=>?_,?_,rfl,rfl,(T.out 96 (by omega)).trans H.nN,?_,(T.out 97 (by omega)).trans H.oF,(T.out 98 (by omega)).trans H.kO,(T.out 99 (by omega)).trans H.dC,(T.out 100 (by omega)).trans H.py,B,bD H.aG T.aw.size⟩,E⟩
 simp only[bl _ _ (show j≠8 by omega),bl _ _ (show j≠9 by omega)]
 exact H.tC T.aw r j t (λi F G=>T.out i (by omega)) (u j (by omega));simp only[bl _ _ (show 4+j≠8 by omega),bl _ _ (show 4+j≠9 by omega)]
 exact H.tD T.aw r j t (λi F G=>T.out i (by omega)) (u (4+j) (by omega));simp only[bl _ _ (show 8≠9 by omega),bk];exact q;exact pt H.nP T.aw (λy n p e=>⟨λh=>(H.bq.dK 8 (by omega) y n p e).1 (r _ h),(H.bq.dK 8 (by omega) y n p e).2⟩)
theorem bB.ya{s:Sd}(H:bB w j l C D s)(g:i<=w.heap.size)(b d:Value)(e f:List Kt)(count tick wait:Int)(T:qP w W l 241 C c 91 (D.own 8) (D.own 9) b d)(h:iA W j c 91 b d e f count tick wait)(m:∀k,b.ownBlock=some k->d.ownBlock≠some k)
 (p:∀x∈e++f,x∈D.lf++D.ll\/∃a n q,x.2=.slice a n q/\ko W a n q x.1.ps/\∀y,a=some y->(i<=y.block/\y.block<W.heap.size/\¬cg l D y.block/\b.ownBlock≠some y.block/\d.ownBlock≠some y.block)):
 dO i w j l D {s with aK:=e.map (·.1),lost:=f.map (·.1),count:=count,tick:=tick,wait:=wait} W:=⟨c,_,(H.xZ g b d e f count tick wait T h m p).1,(H.xZ g b d e f count tick wait T h m p).2⟩
theorem bB.AQ{s:Sd}(H:bB w l m c D s)(vc:Value)(af:List Rg)(floor:Int)(eG:Bool)(r:W.heap[m]?=some (.cells C 241 (0,0)))(t:C.size=c.size)(ho:∀i,i<96\/99<=i->C[i]?=c[i]?)(u:C[96]?=some vc)(v:C[97]?=some (.int .u64 floor))(x:C[98]?=some (.bool eG))(b:av w W (λk=>k=m))(hs:∃a n d,vc=.slice a n d/\bu W a n d af)(F:vc=D.set 8\/∀y n d,vc=.slice (some y) n d->w.heap.size<=y.block/\y.block<W.heap.size):
 dO w.heap.size w l m D {s with af:=af,floor:=floor,eG:=eG} W:=by
 obtain⟨z,A⟩:=H.bq.HP 8 (by omega) vc b F;have g:∀j,j=m->cg m D j:=λj h=>.inl h
 refine⟨C,{D with set:=ai D.set 8 vc},⟨r,t.trans H.sz,(ho 0 (by omega)).trans H.c0,(ho 1 (by omega)).trans H.c1,λi hi=>(ho _ (by omega)).trans (H.key i hi),(ho 18 (by omega)).trans H.ij,λj f=>?_,λj f=>?_,?_,H.aK,H.lost,?_,?_,v,x,(ho 99 (by omega)).trans H.dC,(ho 100 (by omega)).trans H.py,z,bD H.aG b.size⟩,A⟩
 simp only[bl _ _ (show j≠8 by omega)]
 exact H.tC b g j f (λi p q=>ho i (by omega)) (λk e h=>H.bq.gO j (by omega) (h▸e));simp only[bl _ _ (show 4+j≠8 by omega)]
 exact H.tD b g j f (λi p q=>ho i (by omega)) (λk e h=>H.bq.gO (4+j) (by omega) (h▸e));exact H.fl.frame b (λi p q=>ho i (by omega)) (λk e h=>H.bq.gO 8 (by omega) (h▸e)) (λk e h=>H.bq.gO 9 (by omega) (h▸e));simp only[bk];exact u;simp only[bk];exact hs
theorem bB.other{s:Sd}(H:bB w j l c D s)(C:av w W S)(b:∀k,k<w.heap.size->S k->¬eA l D k):bB W j l c D s:=by
 have d:∀i,i<10->∀k,(D.own i).ownBlock=some k->¬S k:=λi hi k e h=>b k (H.bq.lt i hi k e) h (.inl (.inr ⟨i,hi,e⟩))
 have hs:∀i,i<9->∀y n a,D.set i=.slice (some y) n a->¬S y.block/\y.block<w.heap.size:=λi hi y n a e=>⟨λh=>b _ (H.bq.dK i hi y n a e).2 h (.inr (.inl ⟨i,y,n,a,hi,e,rfl⟩)),(H.bq.dK i hi y n a e).2⟩
 exact⟨(C.block l H.bq.ig (λh=>b l H.bq.ig h (.inl (.inl rfl)))).trans H.aN,H.sz,H.c0,H.c1,H.key,H.ij,λk f=>(H.out k f).frame C (λ_ _ _=>rfl) (d k (by omega)) (hs k (by omega)),λk f=>(H.aJ k f).frame C (λ_ _ _=>rfl) (d _ (by omega)) (hs _ (by omega)),H.fl.frame C (λ_ _ _=>rfl) (d 8 (by omega)) (d 9 (by omega)),H.aK,H.lost,H.nN,pt H.nP C (hs 8 (by omega)),H.oF,H.kO,H.dC,H.py,H.bq.other C b,bD H.aG C.size⟩
def bN(e:Int):Value:=if e=0 then .nilIface else .iface 34 (.int .i64 e)
theorem vE:bN 0=.nilIface:=rfl
theorem nQ(w:World)(sb:Nat)(aF:Int)(dC:w.cell? ⟨sb,99,none⟩=some (.int .i64 aF)):Calls prog 155 #[.pointer (some ⟨sb,0,none⟩)] w λr a=>r=.returned (.bool (decide (aF≠0)))/\w.grownBy a none:=by
 by_cases h:aF=0
 ·subst h;go_enter func155,ntmps155;go_wp2_with fail;go_ret;exact⟨rfl,aB _ _⟩
 have e:(aF !=0)=true:=by simpa using h
 have d:decide (aF≠0)=true:=by simpa using h
 rw[d];clear d;go_enter func155,ntmps155;go_wp2_with fail;go_ret;exact⟨rfl,aB _ _⟩
def eH(aF k:Int):Int:=if aF≠0 then 9 else if k<0\/4<=k then 2 else 0
theorem qm(w:World)(sb:Nat)(aF k:Int)(dC:w.cell? ⟨sb,99,none⟩=some (.int .i64 aF)):Calls prog 152 #[.pointer (some ⟨sb,0,none⟩),.int .i64 k] w λr i=>r=.returned (bN (eH aF k))/\w.grownBy i none:=by
 have b:=J (nQ w sb aF dC);by_cases h:aF=0
 ·have d:decide (aF≠0)=false:=by simpa using h
  rw[d]at b;by_cases c:k<0
  ·have e1:decide (k<0)=true:=bK c;have e:eH aF k=2:=by unfold eH;simp[h,c]
   rw[e];replace h:=J h;go_enter func152,ntmps152;go_wp2_with fail;refine(Z b).mono ?_;rintro e g⟨rfl,a⟩;go_wp2_with fail;go_ret;exact⟨rfl,a⟩
  have e1:decide (k<0)=false:=bI c;by_cases f:4<=k
  ·have e2:decide (k≥4)=true:=bK f;have e:eH aF k=2:=by unfold eH;simp[h,f]
   rw[e];replace h:=J h;go_enter func152,ntmps152;go_wp2_with fail;refine(Z b).mono ?_;rintro e g⟨rfl,a⟩;go_wp2_with fail;go_ret;exact⟨rfl,a⟩
  have e2:decide (k≥4)=false:=bI f;have e:eH aF k=0:=by unfold eH;simp[h,c,f]
  rw[e];replace h:=J h;go_enter func152,ntmps152;go_wp2_with fail;refine(Z b).mono ?_;rintro e g⟨rfl,a⟩;go_wp2_with fail;go_ret;exact⟨rfl,a⟩
 have d:decide (aF≠0)=true:=by simpa using h
 rw[d]at b;have e:eH aF k=9:=by unfold eH;simp[h]
 rw[e];replace h:=J h;go_enter func152,ntmps152;go_wp2_with fail;refine(Z b).mono ?_;rintro e g⟨rfl,a⟩;go_wp2_with fail;go_ret;exact⟨rfl,a⟩
theorem rQ(h:eH p q≠0):∃e:Int,bN (eH p q)=.iface 34 (.int .i64 e):=⟨eH p q,by unfold bN;rw[ah h]⟩
theorem AR(w:World)(sb:Nat)(aF k:Int)(dC:w.cell? ⟨sb,99,none⟩=some (.int .i64 aF))(h:eH aF k≠0):Calls prog 149 #[.pointer (some ⟨sb,0,none⟩),.int .i64 k] w λr c=>r=.returned (.tuple #[.pointer none,bN (eH aF k)])/\w.grownBy c none:=by
 have a:=J (qm w sb aF k dC);obtain⟨x,b⟩:=rQ h;rw[b]at a⊢;clear b h;go_enter func149,ntmps149;go_wp2_with fail;refine(Z a).mono ?_;rintro e f⟨rfl,d⟩;go_wp2_with fail;exact cA (v:=.tuple #[.pointer none,.iface 34 (.int .i64 x)]) (by simp[results,results149,go_sem,bN]) rfl ⟨rfl,d⟩
theorem pB(k:Nat):19+k*9=19+9*k:=by omega
theorem tF(k:Nat):55+k*9=55+9*k:=by omega
theorem AS(w:World)(sb:Nat)(k:Nat)(l:k<4)(o:Ot)(dC:w.cell? ⟨sb,99,none⟩=some (.int .i64 0))(T:jU w sb (19+9*k) o):Calls prog 149 #[.pointer (some ⟨sb,0,none⟩),.int .i64 (k:Int)] w λr f=>r=.returned (if o.sE||o.sG then .tuple #[.pointer none,bN 3]else .tuple #[.pointer (some ⟨sb,19+9*k,none⟩),.nilIface])/\w.grownBy f none:=by
 have c:=J (qm w sb 0 k dC);have e:eH 0 (k:Int)=0:=by unfold eH;simp;omega
 rw[e,vE]at c;have a:=J (λW(g:w.grownBy W none)=>Gq W sb (19+9*k) o (T.ao g));rw[<-pB]at a⊢;have h:(k:Int)<4:=by omega
 have d1:decide ((k:Int)<4)=true:=bK h;clear e;cases hd:(o.sE||o.sG)
 ·rw[hd]at a;go_enter func149,ntmps149;go_wp2_with fail;refine(Z c).mono ?_;rintro e i⟨rfl,b⟩;go_wp2_with fail;refine(Z a _ b).mono ?_;rintro e j⟨rfl,d⟩;go_wp2_with fail;exact cA (v:=.tuple #[.pointer (some ⟨sb,19+k*9,none⟩),.nilIface]) (by simp[results,results149,go_sem,bN]) rfl ⟨rfl,aq b d⟩
 rw[hd]at a;go_enter func149,ntmps149;go_wp2_with fail;refine(Z c).mono ?_;rintro e i⟨rfl,b⟩;go_wp2_with fail;refine(Z a _ b).mono ?_;rintro e j⟨rfl,d⟩;go_wp2_with fail;exact cA (v:=.tuple #[.pointer none,bN 3]) (by simp[results,results149,go_sem,bN]) rfl ⟨rfl,aq b d⟩
theorem Ia(p:w.heap[l]?=some (.cells C T (0,0)))(H:gz w n C b z x f)(A:f.h.nice)(B:n<=w.heap.size)(v:kn w l z x)(a:Rg)(q s:Bool)(D:a.ok)(E:xL f.h a)(F:f.h.af.length<100000):
 Calls prog 252 #[.pointer (some ⟨l,b,none⟩),.agg #[.int .u64 a.lo,.int .u64 a.hi,.bool q,.bool s]] w λr t=>r=.returned (.tuple #[])/\
  ∃(d:List Rg)(k:Nat),(k:Int)=cO ⟨f.h.fr,f.h.bytes,d⟩/\bh d/\d.length<=f.h.af.length+1/\(∀m,Sm d m↔Sm f.h.af m\/(a.lo<=m/\m<a.hi))/\nL w t l T C b n z x {f with tE:=f.tE||q,tG:=f.tG||s,h:=⟨f.h.fr+k,f.h.bytes.drop k,d⟩}/\w.grownBy t (some l):=by
 obtain⟨ab,nb,cb,ac,nc,cc,rfl,rfl⟩:=H.mY;refine(GB w l b C T ab nb cb ac nc cc f p (H.hd p A) (H.tail p) a q s D (λy e e2=>v.1 (by rw[e,<-e2];rfl)) (λy e=>(v.2 y nc cc (by rw[e])).1) E F).mono ?_;rintro r t⟨rfl,G,I,K,d,L,M,k,N,O,P,Q,g,R,ho,S,u⟩;have U:=gM H.c8;refine⟨rfl,d,k,N,O,P,Q,⟨_,.slice L (f.h.bytes.drop k).length M,.slice G I K,⟨R,by simp,λi hi=>?_,(av.of g).mono (λk _ e=>.inl (aO e).symm),.inr (λj e=>?_)⟩,⟨?_,?_,?_,?_,?_,?_,?_,?_,?_,ho.low B,⟨_,_,_,rfl,S⟩,H.pr⟩,?_⟩,g⟩
 rw[bC (by omega),bC (by omega),bC (by omega),bC (by omega),bC (by omega)];exact(ho.lt j e).1;rw[bC (by omega),bC (by omega),bC (by omega)];exact cB (by simp;omega);rw[bC (by omega),bC (by omega)];exact cB (by simp;omega);rw[bC (by omega),bC (by omega),bC (by omega),bC (by omega)];exact cB (by omega);rw[bC (by omega),bC (by omega),bC (by omega),bC (by omega),bC (by omega)];exact H.c3;rw[bC (by omega),bC (by omega),bC (by omega),bC (by omega),bC (by omega)];exact H.c4;rw[bC (by omega),bC (by omega),bC (by omega),bC (by omega),bC (by omega)];exact H.c5;rw[bC (by omega)];exact cB (by simp;omega);exact cB (by simp;omega);rw[bC (by omega),bC (by omega),bC (by omega),bC (by omega),bC (by omega)];exact H.c8;obtain⟨rfl,rfl,rfl⟩|u:=u
 exact .inl rfl;refine .inr (λy V c e=>?_);have e2:=(jg e).1;exact u y e2
theorem Ib(d:w.heap[n]?=some (.cells c T (0,0)))(H:gz w m c l z x f)(s:f.h.nice)(b:kn w n z x)(k:Int)(a:Rg)(p:Bool)(i j:Nat)(hi:i<=j)(t:j<=f.h.bytes.length)(u:a.lo=f.h.fr+i)(v:a.hi=f.h.fr+j)(A:aV a.hi):
 Calls prog 243 #[.pointer (some ⟨n,l,none⟩),.int .i64 k,.agg #[.int .u64 a.lo,.int .u64 a.hi,.bool p,.bool false]] w λe q=>e=.returned (.agg #[.int .i64 5,.int .i64 k,.int .u64 a.lo,.int .u64 0,.bool p,.string (strOfNums ((f.h.bytes.drop i).take (j-i))),.slice none 0 0])/\nL w q n T c l m z x {f with aA:=max f.aA a.hi}:=by
 obtain⟨ab,nb,cb,ac,nc,cc,rfl,rfl⟩:=H.mY;refine(H9 w n l c T ab nb cb ac nc cc f d (H.hd d s) (H.tail d) k a p i j hi t u v (λy e e2=>b.1 (by rw[e,<-e2];rfl)) (λy e=>(b.2 y nc cc (by rw[e])).1)).mono ?_;rintro r q⟨rfl,g,B⟩;have C:aV (max f.aA a.hi):=by
  obtain h|h:=Int.le_total f.aA a.hi
  rw[Int.max_eq_right h];exact A;rw[Int.max_eq_left h];exact H.pr.1
 refine⟨rfl,_,_,_,⟨B,by simp,λi hi=>bC (by omega),(av.of g).mono (λk _ e=>.inl (aO e).symm),.inl rfl⟩,⟨?_,?_,?_,cB (gM H.c3),?_,?_,?_,?_,?_,H.own.gb g (.inr b.1),⟨ac,nc,cc,rfl,(vA H.set).gb g (λy e e2=>(b.2 y nc cc (by rw[e])).1 (aO e2).symm)⟩,⟨C,H.pr.2⟩⟩,.inl rfl⟩
 rw[bC (by omega)];exact H.c0;rw[bC (by omega)];exact H.c1;rw[bC (by omega)];exact H.c2;rw[bC (by omega)];exact H.c4;rw[bC (by omega)];exact H.c5;rw[bC (by omega)];exact H.c6;rw[bC (by omega)];exact H.c7;rw[bC (by omega)];exact H.c8
theorem pH{a:Array Oper}{rest:List Oper}(c:H.guard=none)(T ty:TypeId)(d:H.type=ty)(s x:Operand)
 (ho:H.op=.call {callee:=.builtin .append,args:= #[s,x],argTypes:= #[T,T]}) (v b u:Value) (hs:I.eval s=v) (e:I.eval x=b)
 (f:(Builtin.append_ #[T,T] ty #[v,b]).run prog w=.ok u W) (h:wpList prog a F rest (I.put H.dst u) W):wpList prog a F (H::rest) I w:=
 sZ c λ_ g=>by
  unfold Oper.wp execOp;simp only[ho,resolve,invoke,builtin,iU,mi,iT,nF,ki,mP,hs,e,d,f]
  exact g _ _ h
theorem yq{a:Array Oper}{K:Act->World->Prop}{E:Prop}(c:H.guard=none)(T ty:TypeId)(d:H.type=ty)(s x:Operand)
 (ho:H.op=.call {callee:=.builtin .append,args:= #[s,x],argTypes:= #[T,T]}) (v b u:Value) (hs:I.eval s=v) (e:I.eval x=b)
 (f:(Builtin.append_ #[T,T] ty #[v,b]).run prog w=.ok u W) (h:K (I.put H.dst u) W):if Region.wanted H (yielded a I.tmps)=true then Oper.wp prog H I w K F else E:=by
 have g:Region.wanted H (yielded a I.tmps)=true:=by simp[Region.wanted,c]
 rw[az g];unfold Oper.wp execOp;simp only[ho,resolve,invoke,builtin,iU,mi,iT,nF,ki,mP,hs,e,d,f]
 exact h
def il(w:World)(a:Nat)(v:Value)(l:List Pc):Prop:=(∀p∈l,p.x.ok)/\w.ownsRow a 377 4 v l.length (fN l)
theorem Jl:(prog.info? 377).map (λi=>(i.zero,i.size,i.bytes))=some (some (.agg #[.int .u64 0,.int .u64 0,.bool false,.bool false]),4,24):=by kernel_rfl
theorem il.nil(w:World)(a:Nat):il w a (.slice none 0 0) []:=⟨λp hp=>(by cases hp),rfl,.inl ⟨rfl,rfl⟩⟩
theorem il.lt{l:List Pc}(h:il w n x l):∀k,x.ownBlock=some k->n<=k/\k<w.heap.size:=h.2.lt
theorem il.aw{l:List Pc}(h:il w n x l)(C:av w W S)(c:∀k,x.ownBlock=some k->¬S k):il W n x l:=by
 obtain⟨h0,d,a⟩:=h;refine⟨h0,d,?_⟩
 obtain a|⟨g,cap,cur,e1,e2,b,e⟩:=a
 exact .inl a;exact .inr ⟨g,cap,cur,e1,e2,(C.block g (aY.1 b).1 (c g (by rw[e1];rfl))).trans b,e⟩
theorem il.ao{l:List Pc}(h:il w n x l)(g:w.grownBy W none):il W n x l:=h.aw (av.of g) (λk _ e=>by cases e)
theorem il.BM{l:List Pc}(h:il w n x l):∃a cap,x=.slice a l.length cap/\ko w a l.length cap l/\∀y,a=some y->x.ownBlock=some y.block:=by
 obtain⟨h0,r,⟨e,d⟩|⟨g,cap,f,e1,e2,i,k,m,s,p⟩⟩:=h;exact⟨none,0,by rw[d];exact e,⟨h0,rfl,by omega,by simp[maxLen],.inl rfl⟩,λy b=>by cases b⟩
 refine⟨some ⟨g,0,none⟩,cap,e1,⟨h0,rfl,k,m,.inr ⟨g,0,rfl,λj u c=>?_⟩⟩,λy b=>by cases b;rw[e1];rfl⟩
 rw[dR,aX i];have q:j<l.length*4:=by rw[<-Hb];exact(kF.1 c).1
 have:f.toList[j]?=(fN l)[j]? :=by rw[<-p,jA,az q]
 rw[pZ]at this;rw[this];exact c
theorem Jm(l:List Pc):∀u∈fN l,u.oneCell'=true:=by
 intro u a;unfold fN at a;obtain⟨p,-,hp⟩:=uI.1 a;simp[qN]at hp;obtain rfl|rfl|rfl|rfl:=hp<;>rfl
theorem Jn(ty:TypeId)(d:Nat)(v:Value)(l:List Pc)(k:il w d v l)(b c:Nat)(x:Pc)(r:x.x.ok)(h0:w.rangeAt b 0 (qN x))(E:l.length<=100000000)(s:d<=w.heap.size):
 ∃e f h a,(Builtin.append_ #[323,323] ty #[v,.slice (some ⟨b,0,none⟩) 1 c]).run prog w=.ok (.slice e f h) a/\il a d (.slice e f h) (l++[x])/\w.grownBy a v.ownBlock/\((Value.slice e f h).ownBlock=v.ownBlock\/(Value.slice e f h).ownBlock=some w.heap.size):=by
 obtain⟨t,hi,y,z,A⟩:=lg Jl;obtain⟨B,a,m,C,n,_,q⟩:=run_append_own_at (P:=prog) w d 323 ty 377 t _ 4 24 underlying323 hi y z A rfl (by decide) v l.length (fN l) k.2 ⟨b,0,none⟩ 1 c (fN [x]) (by simp[fN,qN]) (by
  intro j u D;rw[Addr.add_mid];exact h0 j u (by simpa [fN]using D)) (Jm _) (by simp[maxLen];omega) (by omega) s
 have i:il a d B (l++[x]):=⟨λp hp=>by
  obtain hp|hp:=bQ.1 hp
  exact k.1 p hp
  ·rw[cS.1 hp];exact r,by rw[bH,show fN (l++[x])=fN l++fN [x] by simp[fN]];exact C⟩
 obtain⟨-,-,⟨rfl,e2⟩|⟨g,cap,F,rfl,_⟩⟩:=id i;exact⟨_,_,_,a,m,i,n,q⟩
 exact⟨_,_,_,a,m,i,n,q⟩
abbrev El:=Nat×List Int
def jX(e:El):Value:=.slice (some ⟨e.1,0,none⟩) e.2.length e.2.length
def eO(w:World)(a:Nat)(v:Value)(l:List El):Prop:=w.ownsRow a 112 1 v l.length (l.map jX)
structure gP(w:World)(N:Nat)(l:List El):Prop where
 at_:∀e∈l,N<=e.1/\(∀x∈e.2,W8 x)/\w.heap[e.1]?=some (.cells (bv e.2).toArray 5 (0,0))
 sep:l.Pairwise (λa b=>a.1≠b.1)
theorem gP.nil(w:World)(N:Nat):gP w N []:=⟨λe a=>(by cases a),.nil⟩
theorem gP.aw{l:List El}(h:gP w n l)(C:av w W S)(b:∀e∈l,¬S e.1):gP W n l:=
 ⟨λe a=>⟨(h.at_ e a).1,(h.at_ e a).2.1,(C.block e.1 (aY.1 (h.at_ e a).2.2).1 (b e a)).trans (h.at_ e a).2.2⟩,h.sep⟩
theorem gP.ao{l:List El}(h:gP w n l)(g:w.grownBy W none):gP W n l:=h.aw (av.of g) (λ_ _ e=>by cases e)
theorem gP.lt{l:List El}(h:gP w n l){e:El}(a:e∈l):e.1<w.heap.size:=(aY.1 (h.at_ e a).2.2).1
theorem gP.app{l m:List El}(h:gP w n l)(k:gP w n m)(hd:∀a∈l,∀b∈m,a.1≠b.1):gP w n (l++m):=
 ⟨λe c=>(bQ.1 c).elim (h.at_ e) (k.at_ e),List.pairwise_append.2 ⟨h.sep,k.sep,hd⟩⟩
theorem BN:(prog.info? 112).map (λi=>(i.zero,i.size,i.bytes))=some (some (.slice none 0 0),1,24):=by kernel_rfl
theorem eO.nil(w:World)(a:Nat):eO w a (.slice none 0 0) []:=⟨rfl,.inl ⟨rfl,rfl⟩⟩
theorem eO.lt{l:List El}(h:eO w n x l):∀k,x.ownBlock=some k->n<=k/\k<w.heap.size:=World.ownsRow.lt h
theorem eO.aw{l:List El}(h:eO w n x l)(C:av w W S)(c:∀k,x.ownBlock=some k->¬S k):eO W n x l:=by
 obtain⟨d,a⟩:=h;refine⟨d,?_⟩
 obtain a|⟨g,cap,cur,e1,e2,b,e⟩:=a
 exact .inl a;exact .inr ⟨g,cap,cur,e1,e2,(C.block g (aY.1 b).1 (c g (by rw[e1];rfl))).trans b,e⟩
theorem eO.ao{l:List El}(h:eO w n x l)(g:w.grownBy W none):eO W n x l:=h.aw (av.of g) (λk _ e=>by cases e)
theorem eO.low{b2:Nat}{l:List El}(h:eO w n x l)(d:b2<=n):eO w b2 x l:=by
 obtain⟨b,a⟩:=h;refine⟨b,?_⟩
 obtain a|⟨g,cap,cur,e1,e2,c⟩:=a
 exact .inl a;exact .inr ⟨g,cap,cur,e1,by omega,c⟩
theorem eO.gy{l:List El}(h:eO w n x l):∃a cap,x=.slice a l.length cap/\l.length<=cap/\cap<=maxLen/\(a=none->l=[]/\cap=0)/\(∀y,a=some y->x.ownBlock=some y.block/\y=⟨y.block,0,none⟩/\w.rangeAt y.block 0 (l.map jX)):=by
 obtain⟨s,⟨d,h0⟩|⟨g,f,i,e1,e2,k,m,p,t,q⟩⟩:=h;exact⟨none,0,by rw[h0];exact d,by omega,by simp[maxLen],λ_=>⟨iF h0,rfl⟩,λy b=>by cases b⟩
 refine⟨_,f,e1,m,p,λe=>(by cases e),λy b=>?_⟩
 cases b;refine⟨by rw[e1];rfl,rfl,λj u c=>?_⟩
 rw[dR,aX k];have r:j<l.length*1:=by have:=(kF.1 c).1;simpa using this
 have:i.toList[j]?=(l.map jX)[j]? :=by rw[<-q,jA,az r]
 rw[pZ]at this;rw[this];exact c
theorem yr(ty:TypeId)(b:Nat)(v:Value)(l:List El)(q:eO w b v l)(y:Addr)(c:Nat)(m:List El)(h0:∀j u,(m.map jX)[j]?=some u->w.cell? (y.add j)=some u)(D:l.length+m.length<=100000000)(r:b<=w.heap.size):
 ∃d f h a,(Builtin.append_ #[206,206] ty #[v,.slice (some y) m.length c]).run prog w=.ok (.slice d f h) a/\eO a b (.slice d f h) (l++m)/\w.grownBy a v.ownBlock/\((Value.slice d f h).ownBlock=v.ownBlock\/(Value.slice d f h).ownBlock=some w.heap.size):=by
 obtain⟨s,hi,t,x,z⟩:=lg BN;obtain⟨A,a,k,B,n,_,p⟩:=run_append_own_at (P:=prog) w b 206 ty 112 s _ 1 24 underlying206 hi t x z rfl (by decide) v l.length (l.map jX) q y m.length c (m.map jX) (by simp) h0 (λu C=>by
  obtain⟨e,-,rfl⟩:=eQ.1 C;rfl) (by simp[maxLen];omega) (by omega) r
 have i:eO a b A (l++m):=by
  unfold eO;rw[bH,mO];exact B
 obtain⟨-,⟨rfl,e2⟩|⟨g,cap,E,rfl,_⟩⟩:=id i;exact⟨_,_,_,a,k,i,n,p⟩
 exact⟨_,_,_,a,k,i,n,p⟩
theorem Jo(ty:TypeId)(b:Nat)(v:Value)(l:List El)(c:eO w b v l)(n:Nat)(x:Value)(m:List El)(p:eO w n x m)(q:l.length+m.length<=100000000)(r:b<=w.heap.size):
 ∃d f h k,(Builtin.append_ #[206,206] ty #[v,x]).run prog w=.ok (.slice d f h) k/\eO k b (.slice d f h) (l++m)/\w.grownBy k v.ownBlock/\((Value.slice d f h).ownBlock=v.ownBlock\/(Value.slice d f h).ownBlock=some w.heap.size):=by
 obtain⟨a,cap,rfl,D,E,s,t⟩:=p.gy;cases a with
 |some y=>
  obtain⟨-,e,i⟩:=t y rfl;refine yr ty b v l c y cap m (λj u z=>?_) q r;rw[e,Addr.add_mid];exact i j u z
 |none=>
  obtain⟨A,B⟩:=s rfl;subst A B;obtain⟨C,hi,F,G,H⟩:=lg BN;have i:=run_append_owned_none (P:=prog) (w:=w) b 206 ty 112 C 1 underlying206 hi v _ _ c;rw[ot];obtain⟨-,⟨rfl,e2⟩|⟨g,cap,I,rfl,_⟩⟩:=id c;exact⟨_,_,_,w,i,c,aB _ _,.inl rfl⟩
  exact⟨_,_,_,w,i,c,aB _ _,.inl rfl⟩
theorem Jp(c:w.heap[b]?=some (.cells (bP G x) T (0,0)))(d:dr w G x)(f:1<=n)(g:n<=maxLen):qp w (some ⟨b,0,none⟩) 1 n [G]:=by
 refine⟨rfl,f,g,.inr ⟨b,0,rfl,λi hi=>?_⟩⟩
 have:i=0:=by simp at hi;omega
 subst this;refine⟨x,d,λj u a=>?_⟩
 have e:mn [G] 0=G:=rfl;rw[e]at a;rw[nG,dR,aX c];have:bP G x=(jT G x).toArray:=rfl;rw[this];simpa using a
theorem ys(w:World)(f:Fr)(d:Value)(v:dr w f d)(hs:cU f)(x:fL [f]<=30000000):
 Calls prog 206 #[.agg (bP f d)] w λe j=>(∃a n c,e=.returned (.slice a n c)/\bm j w.heap.size (.slice a n c) (bw [f]))/\w.grownBy j none:=by
 have y:=J (λW a n cap(g:w.grownBy W none)(h:qp W a n cap [f])=>IL W a n cap [f] h x);have F:tH [f]:=⟨by simp,λi hi=>by
  have:i=0:=by simp at hi;omega
  subst this;exact hs⟩
 have z:=J (λ(W:World)(b:Nat)(g:w.grownBy W none)(h:W.heap[b]?=some (.cells (bP f d) 158 (0,0)))=>Jp (n:=1) h (v.ao g) (by omega) (by simp[maxLen]));obtain⟨R,l⟩:∃R:Ending->World->Prop,R=λe j=>(∃a n c,e=.returned (.slice a n c)/\bm j w.heap.size (.slice a n c) (bw [f]))/\w.grownBy j none:=⟨_,rfl⟩
 rw[<-l];replace l:=J l;obtain⟨k,m⟩:=exq (w.alloc (.cells (bP f d) 158));have s:w.grownBy k none:=by rw[m];exact aH _ _ _
 have t:k.heap[w.heap.size]?=some (.cells (bP f d) 158 (0,0)):=by rw[m];exact aM _ _
 obtain⟨p,q⟩:=exq (k.alloc (.cells (bP f d) 158));have u:k.grownBy p none:=by rw[q];exact aH _ _ _
 have r:p.heap[k.heap.size]?=some (.cells (bP f d) 158 (0,0)):=by rw[q];exact aM _ _
 have G:=J (Z y p _ _ _ (aq s u) (Z z p _ (aq s u) r));have A:=aq s u;replace r:=J r;clear y z v hs x;obtain⟨kind,stream,offset,code,fin,data,ranges⟩:=f;unfold bP at *;simp only at *;have H:=cH t;obtain⟨N,O,P,Q,S,T,U⟩:=H;replace t:=J t;go_enter func206,ntmps206;go_upto_region 1 with fail;rw[<-m];clear m;go_wp2_with fail;rw[<-q];refine(Z G).mono ?_;rintro e I⟨⟨-,B,C,D,rfl,E⟩|⟨K,-⟩,L⟩
 ·have M:Hid (R (.returned (.slice B C D)) I):=J (by
   rw[Z l];exact⟨⟨B,C,D,rfl,E.Bu A.size⟩,aq A L⟩)
  clear q r E;go_wp2_with fail;exact Z M
 exact absurd F K
theorem BO(w:World)(sb:Nat)(an:Int)(c0:w.cell? ⟨sb,0,none⟩=some (.int .i64 an))(b:16<=an/\an<=1000000):Calls prog 203 #[.pointer (some ⟨sb,0,none⟩)] w λe a=>e=.returned (.int .i64 (an-16))/\w.grownBy a none:=by
 have c:IntKind.i64.wrap (an-16)=an-16:=by simp[IntKind.wrap,IntKind.bits,IntKind.signed];omega
 go_enter func203,ntmps203;go_wp2_with fail;go_ret;exact⟨rfl,aB _ _⟩
theorem js{l:List Value}(h:W.rangeAt n o l/\w.grownBy W none)(g:W.grownBy V none):V.rangeAt n o l/\w.grownBy V none:=⟨λj v a=>g.cell (h.1 j v a) (by simp),aq h.2 g⟩
theorem yD(w:World)(sb:Nat)(key:List Int)(f:Bool)(h:dw key)(i:w.rangeAt sb 2 (bv key))(ij:w.cell? ⟨sb,18,none⟩=some (.bool f))(n:Int)(r:aV n)(a:Option Addr)(m cap:Nat)(l:List Int)(j:bF w a m cap l)(hl:l.length<=50000000):
 Calls prog 204 #[.pointer (some ⟨sb,0,none⟩),.int .u64 n,.slice a m cap] w λe b=>
  ∃g,e=.returned (.slice (some ⟨g,0,none⟩) (l.length+16) (l.length+16))/\w.heap.size<=g/\b.heap[g]?=some (.cells (bv (dm key (aS f) n l)).toArray 5 (0,0))/\w.grownBy b none:=by
 obtain⟨R,c⟩:∃R:Ending->World->Prop,R=λe b=>∃g,e=.returned (.slice (some ⟨g,0,none⟩) (l.length+16) (l.length+16))/\w.heap.size<=g/\b.heap[g]?=some (.cells (bv (dm key (aS f) n l)).toArray 5 (0,0))/\w.grownBy b none:=⟨_,rfl⟩
 rw[<-c];replace c:=J c;have s:=J (λW(g:w.grownBy W none)=>Kj key f n a m cap l W h r (j.ao g) hl);have x:(prog.info? 24).map (·.size)=some (bv key).length:=by rw[fC,h.1];exact mQ
 have y:=underlying24;have z:=kc ij;have d:w.rangeAt sb 2 (bv key)/\w.grownBy w none:=⟨i,aB _ _⟩
 clear ij i j;go_enter func204,ntmps204;go_wp2_with fail;go_region_held3 (λb=>b.rangeAt sb 2 (bv key)/\w.grownBy b none)
  (first|with_reducible exact k|with_reducible exact d|with_reducible exact js d (aW (aB _ none)))
  (first|(go_at_call 148;refine(Z s _ (aW (aB _ none))).mono ?_;rintro e t⟨g,rfl,p,q,u⟩;have k:=js (js d (aW (aB _ none))) u;have v:Hid (R (.returned (.slice (some ⟨g,0,none⟩) (l.length+16) (l.length+16))) t):=J (by rw[Z c];exact⟨g,rfl,p,q,k.2⟩);clear p q))
 go_wp2_with fail;exact Z v
