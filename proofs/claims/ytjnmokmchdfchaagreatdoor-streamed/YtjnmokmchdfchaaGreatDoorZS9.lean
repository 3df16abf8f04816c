import Derived.Deep.RegionLaw
import Derived.Test.YtjnmokmchdfchaaGreatDoorZS0
set_option maxRecDepth 1000000
set_option maxHeartbeats 0
set_option linter.all false
namespace Go.Proofs.YtjnmokmchdfchaaGreatDoor
open Go.RowKit Tryz
open Go.Value renaming int→I,slice→Y,bool→β,pointer→π,agg→ε,string→ς,tuple→τ
open Go.IntKind renaming i64→X,u64→U,u8→Δ
open Go.Ending renaming returned→ξ
open Go.Obj renaming cells→ο
open Or renaming inl→φ,inr→ψ
open Option renaming some→E,none→N
open Bool renaming true→ρ,false→θ
open Go renaming World→D,Value→υ
open Go.World renaming grownBy→G,cell?→κ,frozen?→χ,setCell→ζ
attribute[local go_sem↓]Go.wp_at_zero Go.wp_at_succ
variable{c:Array υ}{p q r t:Int}{K L:List Int}{b i j k m n o:Nat}{a:Option Addr}{T:TypeId}{x y:υ}{V W v w:D}
def LI(k:Nat)(a:k<=63):bits .and U (k:Int) 63=k:=by
 have:=u64_and_nat k 63 O O;rw[show((63:Nat):Int)=63 from rfl]at this;rw[this,show(63:Nat)=2^6-1 from Q,Nat.and_two_pow_sub_one_eq_mod];omega
def tV(x:Int)(k:Nat)(w:D)(b:aZ x)(c:k<=63)(h0:0<k):Calls prog 306 #[I U x,I X k] w λe d=>e=ξ (I U (rotl x k))/\d=w:=by
 have f:=LI k c;have a:=Hy b k c h0;rw[Int.natCast_pow,Int.natCast_pow]at a;replace a:=J a;obtain⟨g,h⟩:=b;go_enter func306,ntmps306;go_wp2;go_ret;exact⟨fR (λz=>ξ (I U z)) (Z a),Q⟩
def tW(x:Int)(n:Nat)(w:D)(c:aZ x)(g:n<=64):Calls prog 225 #[I U x,I X n] w λe d=>e=ξ (I U (rotl x n))/\d=w:=by
 go_enter func225,ntmps225;go_wp2;go_loop [0,5] (λa i=>∃k:Nat,k<=n/\i=I X k/\a=I U (rotl x k)) (λ_ i=>n-(intOf i).toNat);case atStart=>exact⟨0,mP _,Q,Q⟩
 case round=>
  obtain⟨k,h,rfl,rfl⟩:=hrel;have b:=nC c k;have f:=J (Hv b);obtain⟨j,l⟩:=b;by_cases m:k<n
  .go_wp2;go_round;case rel=>exact⟨k+1,O,by go_num,by rw[Z f];rfl⟩
   case measure=>simp[intOf];omega
  obtain rfl:k=n:=O;go_wp2;go_ret;exact⟨Q,Q⟩
def St(B:Nat)(a b c d:Int)(w0 w:D):Prop:=w.heap[B]?=E (ο #[I U a,I U b,I U c,I U d] 393 (0,0))/\G w0 w (E B)
def St.cells(h:St n p q r t W w):(κ w ⟨n,0,N⟩=E (I U p)/\κ w ⟨n,1,N⟩=E (I U q)/\κ w ⟨n,2,N⟩=E (I U r)/\κ w ⟨n,3,N⟩=E (I U t))/\(∀o,χ w ⟨n,o,N⟩=θ):=by
 obtain⟨h,_⟩:=h;simp[κ,χ,h]
def St.drew(h:St n p q r t W w):St n p q r t W w.drew:=⟨h.1,aK h.2⟩
def St.s0(h:St n p q r t W w)(x:Int):St n x q r t W (ζ w ⟨n,0,N⟩ (I U x)):=⟨heap_set h.1 _,aD h.2 _ _ (ψ Q)⟩
def St.s1(h:St n p q r t W w)(x:Int):St n p x r t W (ζ w ⟨n,1,N⟩ (I U x)):=⟨heap_set h.1 _,aD h.2 _ _ (ψ Q)⟩
def St.s2(h:St n p q r t W w)(x:Int):St n p q x t W (ζ w ⟨n,2,N⟩ (I U x)):=⟨heap_set h.1 _,aD h.2 _ _ (ψ Q)⟩
def St.s3(h:St n p q r t W w)(x:Int):St n p q r x W (ζ w ⟨n,3,N⟩ (I U x)):=⟨heap_set h.1 _,aD h.2 _ _ (ψ Q)⟩
def oH(B:Nat)(s:S4)(w0 w:D):Prop:=St B s.a s.b s.c s.d w0 w
def LJ(B:Nat)(a b c d:Int)(w0 w:D)(h:St B a b c d w0 w)(P:aZ b)(R:aZ d):Calls prog 304 #[π (E ⟨B,0,N⟩)] w λe n=>e=ξ (τ #[])/\oH B (jD ⟨a,b,c,d⟩) w0 n:=by
 have f:=h;obtain⟨⟨h0,g,i,j⟩,k⟩:=h.cells;clear h;go_enter func304,ntmps304;go_upto_region 0 with fail;go_cut [] (λwx=>St B (U.wrap (a+b)) b c d w0 wx);case first=>
  go_region;all_goals
   go_wp2
   go_meet
   exact(f.s0 _).drew
 case rest=>
  clear h0 g i j k f;obtain⟨p,t⟩:=í (U.wrap (a+b));rw[<-t]at hcut;have L:aZ p:=by rw[t];exact mQ _ _
  replace t:=J t;have f:=hcut;obtain⟨⟨h0,g,i,j⟩,k⟩:=hcut.cells;clear hcut;go_upto_region 1 with fail;go_cut [] (λwx=>St B p (bits .xor U (rotl b 13) p) c d w0 wx);case first=>
   go_region_with (first|(go_at_call 306;apply(tV b 13 _ Ω Θ Θ).mono;rintro e n⟨rfl,rfl⟩));all_goals
    go_wp2
    go_meet
    exact(f.s1 _).drew
  case rest=>
   clear h0 g i j k f;obtain⟨l,u⟩:=í (bits .xor U (rotl b 13) p);rw[<-u]at hcut;have S:aZ l:=by rw[u];exact iK (nC P 13) L
   replace u:=J u;have f:=hcut;obtain⟨⟨h0,g,i,j⟩,k⟩:=hcut.cells;clear hcut;go_upto_region 2 with fail;go_cut [] (λwx=>St B (rotl p 32) l c d w0 wx);case first=>
    go_region_with (first|(go_at_call 306;apply(tV p 32 _ Ω Θ Θ).mono;rintro e n⟨rfl,rfl⟩));all_goals
     go_wp2
     go_meet
     exact(f.s0 _).drew
   case rest=>
    clear h0 g i j k f;obtain⟨v,x⟩:=í (rotl p 32);rw[<-x]at hcut;have ak:aZ v:=by rw[x];exact nC L 32
    replace x:=J x;have f:=hcut;obtain⟨⟨h0,g,i,j⟩,k⟩:=hcut.cells;clear hcut;go_upto_region 3 with fail;go_cut [] (λwx=>St B v l (U.wrap (c+d)) d w0 wx);case first=>
     go_region;all_goals
      go_wp2
      go_meet
      exact(f.s2 _).drew
    case rest=>
     clear h0 g i j k f;obtain⟨m,y⟩:=í (U.wrap (c+d));rw[<-y]at hcut;have T:aZ m:=by rw[y];exact mQ _ _
     replace y:=J y;have f:=hcut;obtain⟨⟨h0,g,i,j⟩,k⟩:=hcut.cells;clear hcut;go_upto_region 4 with fail;go_cut [] (λwx=>St B v l m (bits .xor U (rotl d 16) m) w0 wx);case first=>
      go_region_with (first|(go_at_call 306;apply(tV d 16 _ Ω Θ Θ).mono;rintro e n⟨rfl,rfl⟩));all_goals
       go_wp2
       go_meet
       exact(f.s3 _).drew
     case rest=>
      clear h0 g i j k f;obtain⟨q,z⟩:=í (bits .xor U (rotl d 16) m);rw[<-z]at hcut;have V:aZ q:=by rw[z];exact iK (nC R 16) T
      replace z:=J z;have f:=hcut;obtain⟨⟨h0,g,i,j⟩,k⟩:=hcut.cells;clear hcut;go_upto_region 5 with fail;go_cut [] (λwx=>St B (U.wrap (v+q)) l m q w0 wx);case first=>
       go_region;all_goals
        go_wp2
        go_meet
        exact(f.s0 _).drew
      case rest=>
       clear h0 g i j k f;obtain⟨r,A⟩:=í (U.wrap (v+q));rw[<-A]at hcut;have W:aZ r:=by rw[A];exact mQ _ _
       replace A:=J A;have f:=hcut;obtain⟨⟨h0,g,i,j⟩,k⟩:=hcut.cells;clear hcut;go_upto_region 6 with fail;go_cut [] (λwx=>St B r l m (bits .xor U (rotl q 21) r) w0 wx);case first=>
        go_region_with (first|(go_at_call 306;apply(tV q 21 _ Ω Θ Θ).mono;rintro e n⟨rfl,rfl⟩));all_goals
         go_wp2
         go_meet
         exact(f.s3 _).drew
       case rest=>
        clear h0 g i j k f;obtain⟨K,C⟩:=í (bits .xor U (rotl q 21) r);rw[<-C]at hcut;have al:aZ K:=by rw[C];exact iK (nC V 21) W
        replace C:=J C;have f:=hcut;obtain⟨⟨h0,g,i,j⟩,k⟩:=hcut.cells;clear hcut;go_upto_region 7 with fail;go_cut [] (λwx=>St B r l (U.wrap (m+l)) K w0 wx);case first=>
         go_region;all_goals
          go_wp2
          go_meet
          exact(f.s2 _).drew
        case rest=>
         clear h0 g i j k f;obtain⟨s,F⟩:=í (U.wrap (m+l));rw[<-F]at hcut;have ai:aZ s:=by rw[F];exact mQ _ _
         replace F:=J F;have f:=hcut;obtain⟨⟨h0,g,i,j⟩,k⟩:=hcut.cells;clear hcut;go_upto_region 8 with fail;go_cut [] (λwx=>St B r (bits .xor U (rotl l 17) s) s K w0 wx);case first=>
          go_region_with (first|(go_at_call 306;apply(tV l 17 _ Ω Θ Θ).mono;rintro e n⟨rfl,rfl⟩));all_goals
           go_wp2
           go_meet
           exact(f.s1 _).drew
         case rest=>
          clear h0 g i j k f;obtain⟨M,H⟩:=í (bits .xor U (rotl l 17) s);rw[<-H]at hcut;have ao:aZ M:=by rw[H];exact iK (nC S 17) ai
          replace H:=J H;have f:=hcut;obtain⟨⟨h0,g,i,j⟩,k⟩:=hcut.cells;clear hcut;go_upto_region 9 with fail;go_region_with (first|(go_at_call 306;apply(tV s 32 _ Ω Θ Θ).mono;rintro e n⟨rfl,rfl⟩));all_goals
           go_end0
           refine⟨Q,?_⟩
           have e:jD ⟨a,b,c,d⟩=⟨r,M,rotl s 32,K⟩:=by
            obtain rfl:=Z t;obtain rfl:=Z u;obtain rfl:=Z x;obtain rfl:=Z y;obtain rfl:=Z z;obtain rfl:=Z A;obtain rfl:=Z C;obtain rfl:=Z F;obtain rfl:=Z H;rfl
           rw[e];exact(f.s2 _).drew
def Al(a b c d:Int)(w:D)(k:aZ a)(g:aZ b)(l:aZ c)(h:aZ d):Calls prog 176 #[ε #[I U a,I U b,I U c,I U d]] w λe f=>
 e=ξ (ε #[I U (jD ⟨a,b,c,d⟩).a,I U (jD ⟨a,b,c,d⟩).b,I U (jD ⟨a,b,c,d⟩).c,I U (jD ⟨a,b,c,d⟩).d])/\G w f N:=by
 go_enter func176,ntmps176;go_wp2_with fail;apply(tW _ 13 _ g Θ).mono;rintro e f⟨rfl,rfl⟩;go_wp2_with fail;apply(tW _ 32 _ (mQ _ _) Θ).mono;rintro e f⟨rfl,rfl⟩;go_wp2_with fail;apply(tW _ 16 _ h Θ).mono;rintro e f⟨rfl,rfl⟩;have i:=iK (nC h 16) (mQ c d);go_wp2_with fail;apply(tW _ 21 _ i Θ).mono;rintro e f⟨rfl,rfl⟩;have j:=iK (nC g 13) (mQ a b);go_wp2_with fail;apply(tW _ 17 _ j Θ).mono;rintro e f⟨rfl,rfl⟩;go_wp2_with fail;apply(tW _ 32 _ (mQ _ _) Θ).mono;rintro e f⟨rfl,rfl⟩;go_wp2_with fail;refine cC (v:=ε #[I U (jD ⟨a,b,c,d⟩).a,I U (jD ⟨a,b,c,d⟩).b,I U (jD ⟨a,b,c,d⟩).c,I U (jD ⟨a,b,c,d⟩).d]) ?_ Q ⟨Q,?_⟩
 .simp[results,results176,go_sem,jD,ad,xo]
 exact aW (aW (au _ _) _) _
def ku(s:S4):Nat->S4
 |0=>s
 |k+1=>jD (ku s k)
def DP{s:S4}(h:s.ok)(k:Nat):(ku s k).ok:=by
 induction k with
 |zero=>exact h
 |succ k a=>exact rp a
def DQ(B n:Nat)(s:S4)(w0 w:D)(h:oH B s w0 w)(hs:s.ok)(f:n<=100):Calls prog 294 #[π (E ⟨B,0,N⟩),I X n] w λe a=>e=ξ (τ #[])/\oH B (ku s n) w0 a:=by
 go_enter func294,ntmps294;go_wp2;go_loopw [5] (λi wr=>∃k:Nat,k<=n/\i=I X k/\oH B (ku s k) w0 wr) (λi _=>n-(intOf i).toNat);case atStart=>exact⟨0,O,Q,h⟩
 case round=>
  obtain⟨k,g,rfl,b⟩:=hrel;have c:=DP hs k;by_cases j:k<n
  .go_wp2_with (first|(go_at_call 304;apply(LJ B _ _ _ _ w0 _ b c.2.1 c.2.2.2).mono;rintro e a⟨rfl,d⟩));go_roundw;case rel=>exact⟨k+1,O,by go_num,d⟩
   case measure=>simp[intOf];omega
  obtain rfl:k=n:=O;go_wp2;go_end0;exact⟨Q,b⟩
def DR(B:Nat)(s:S4)(m:Int)(w0 w:D)(h:oH B s w0 w)(hs:s.ok)(q:aZ m):Calls prog 261 #[π (E ⟨B,0,N⟩),I U m] w λe g=>e=ξ (τ #[])/\oH B (tz s m) w0 g:=by
 obtain⟨a,b,c,d⟩:=s;have f:St B a b c d w0 w:=h;obtain⟨⟨h0,r,u,v⟩,x⟩:=h.cells;go_enter func261,ntmps261;go_upto_region 0 with fail;go_cut [] (λwx=>oH B ⟨a,b,c,xo d m⟩ w0 wx);case first=>
  go_region;all_goals
   go_wp2
   go_meet
   exact(f.s3 _).drew
 case rest=>
  have y:(S4.mk a b c (xo d m)).ok:=⟨hs.1,hs.2.1,hs.2.2.1,iK hs.2.2.2 q⟩
  go_wp2_with (first|(go_at_call 294;apply(DQ B 2 _ w0 _ hcut y Θ).mono;rintro e g⟨rfl,i⟩));obtain⟨t,j⟩:=í (ku ⟨a,b,c,xo d m⟩ 2);rw[<-j]at i;obtain⟨k,l,n,p⟩:=t;have z:Hid (tz ⟨a,b,c,d⟩ m=⟨xo k m,l,n,p⟩):=by
   show S4.mk (xo (ku ⟨a,b,c,xo d m⟩ 2).a m) (ku ⟨a,b,c,xo d m⟩ 2).b (ku ⟨a,b,c,xo d m⟩ 2).c (ku ⟨a,b,c,xo d m⟩ 2).d=_;rw[<-j]
  have f:St B k l n p w0 _:=i;obtain⟨⟨h0,r,u,v⟩,x⟩:=f.cells;go_region;all_goals
   go_end0
   refine⟨Q,?_⟩
   rw[Z z]
   exact(f.s0 _).drew
def LK(B:Nat)(s:S4)(w0 w:D)(h:oH B s w0 w)(hs:s.ok):Calls prog 263 #[π (E ⟨B,0,N⟩)] w λe g=>e=ξ (I U (tA s))/\G w0 g (E B):=by
 obtain⟨a,b,c,d⟩:=s;have f:St B a b c d w0 w:=h;obtain⟨⟨h0,p,q,r⟩,u⟩:=h.cells;go_enter func263,ntmps263;go_upto_region 1 with fail;go_cut [] (λwx=>oH B ⟨a,b,xo c 255,d⟩ w0 wx);case first=>
  go_region;all_goals
   go_wp2
   go_meet
   exact(f.s2 _).drew
 case rest=>
  have v:(S4.mk a b (xo c 255) d).ok:=⟨hs.1,hs.2.1,iK hs.2.2.1 (by unfold aZ;omega),hs.2.2.2⟩
  go_wp2_with (first|(go_at_call 294;apply(DQ B 4 _ w0 _ hcut v Θ).mono;rintro e g⟨rfl,i⟩));obtain⟨t,j⟩:=í (ku ⟨a,b,xo c 255,d⟩ 4);rw[<-j]at i;obtain⟨k,l,m,n⟩:=t;have x:Hid (tA ⟨a,b,c,d⟩=xo (xo (xo k l) m) n):=by
   show xo (xo (xo (ku ⟨a,b,xo c 255,d⟩ 4).a (ku ⟨a,b,xo c 255,d⟩ 4).b) (ku ⟨a,b,xo c 255,d⟩ 4).c) (ku ⟨a,b,xo c 255,d⟩ 4).d=_;rw[<-j]
  have f:St B k l m n w0 _:=i;obtain⟨⟨h0,p,q,r⟩,u⟩:=f.cells;go_quiet (fail);go_wp2;go_ret;exact⟨by rw[Z x];rfl,cu f.2 _⟩
def bY(key:List Int):Array υ:=(bv key).toArray
def cI(key:List Int):Prop:=key.length=16/\∀x∈key,W8 x
def ly(h:cI L):(bY L).size=16:=by simp[bY,bv,h.1]
def su{fr:Nat×Nat}(h:w.heap[b]?=E (ο (bv L).toArray T fr))(hl:∀x∈L,W8 x)(o:Nat):BS w b o (L.drop o):=by
 refine⟨λi hi=>?_,λx a=>hl x (iC a)⟩
 rw[fD]at hi;have:=uW L (o+i) O;simp only[κ,h]
 grind
def BS.take(h:BS w b o L)(n:Nat):BS w b o (L.take n):=by
 refine⟨λi hi=>?_,λx a=>h.2 x (jr a)⟩
 rw[dK]at hi;rw[h.1 i O];grind
def BS.drop(h:BS w b o L)(n:Nat):BS w b (o+n) (L.drop n):=by
 refine⟨λi hi=>?_,λx a=>h.2 x (iC a)⟩
 rw[fD]at hi;have:=h.1 (n+i) O;grind
def Am(s:S4)(k:Nat)(l:List Int):kW s (k+1) l=kW (tz s (fG (l.take 8))) k (l.drop 8):=by rw[kW]
def DS(s:S4)(l:List Int):kW s 0 l=s:=by rw[kW]
def ya(s:S4)(k:Nat)(l:List Int):kW s (k+1) l=tz (kW s k l) (fG ((l.drop (8*k)).take 8)):=by
 induction k generalizing s l with
 |zero=>rw[Am,DS,DS,Nat.mul_zero,qZ]
 |succ k a=>
  rw[Am,a,uR,Am s k l];grind
def tX(h:∀x∈L,W8 x)(hl:L.length<=8):aZ (fG L):=by
 have a:=wY L h;have b:=BG L.length hl;exact⟨a.1,O⟩
def An(h:cI L):(eU L).ok:=by
 have b:aZ (fG (L.take 8)):=tX (λx a=>h.2 x (jr a)) (by grind);have c:aZ (fG (L.drop 8)):=tX (λx a=>h.2 x (iC a)) (by simp[h.1]);exact⟨iK b (by unfold aZ;omega),iK c (by unfold aZ;omega),iK b (by unfold aZ;omega),iK c (by unfold aZ;omega)⟩
def tY{s:S4}(h:s.ok)(hl:∀x∈L,W8 x)(k:Nat):(kW s k L).ok:=by
 induction k with
 |zero=>exact h
 |succ k a=>rw[ya];exact Hz a (tX (λx b=>hl x (iC (jr b))) (by grind))
def DT(l:List Int)(n:Int):(nE l n).length=8*(l.length/8+1):=by simp[nE];omega
def Ao(hl:∀x∈L,W8 x)(n:Int):∀x∈nE L n,W8 x:=by
 intro x a;simp only[nE,b9,List.mem_replicate,eE]at a;obtain(a|⟨_,rfl⟩)|rfl:=a
 simp_all;unfold W8;omega;unfold W8;omega
def yc:υ->Nat|Y _ n _=>n|_=>0
def DU(h:aS w n x L)(hl:0<L.length):∃g b,x=Y (E ⟨g,0,N⟩) L.length b/\n<=g/\g<w.heap.size/\BS w g 0 L/\L.length<=b/\b<=maxLen:=by
 obtain⟨a,b,rfl,⟨c,d,e,f,i⟩,j,k⟩:=h.bs;grind
def Sv(B:Nat)(s:S4)(w0 w:D):Prop:=w.heap[B]?=E (ο #[I U s.a,I U s.b,I U s.c,I U s.d] 306 (0,0))/\G w0 w (E B)
def Sv.cells{s:S4}(h:Sv n s W w):(κ w ⟨n,0,N⟩=E (I U s.a)/\κ w ⟨n,1,N⟩=E (I U s.b)/\κ w ⟨n,2,N⟩=E (I U s.c)/\κ w ⟨n,3,N⟩=E (I U s.d))/\(∀o,χ w ⟨n,o,N⟩=θ):=by
 let⟨h,_⟩:=h
 simp[κ,χ,h]
def Sv.set{s t:S4}{w:D}(h:Sv n s W w)(e:v=(((ζ w ⟨n,0,N⟩ (I U t.a)).setCell ⟨n,1,N⟩ (I U t.b)).setCell ⟨n,2,N⟩ (I U t.c)).setCell ⟨n,3,N⟩ (I U t.d)):Sv n t W v:=by
 subst e;exact⟨heap_set (heap_set (heap_set (heap_set h.1 _) _) _) _,aD (aD (aD (aD h.2 _ _ (ψ Q)) _ _ (ψ Q)) _ _ (ψ Q)) _ _ (ψ Q)⟩
def Sv.gb{s:S4}{w:D}(h:Sv n s W w)(g:G w v N):Sv n s W v:=
 ⟨(g.block n (aV.1 h.1).1 Γ).trans h.1,cO h.2 g (nofun)⟩
def DV(key:List Int)(a:Option Addr)(n a0:Nat)(l:List Int)(w:D)(M:cI key)(aa:bD w a n a0 l)(hl:l.length<=1000000):Calls prog 140 #[ε (bY key),Y a n a0] w λe w'=>
 e=ξ (I U (cQ key l))/\G w w' N:=by
 have b7:=ly M;have hK:=M;let⟨k1,k2⟩:=M
 have a4:(w.alloc (ο (bY key) 24)).heap[w.heap.size]?=E (ο (bY key) 24 (0,0)):=aM w _;have b1:=(su a4 k2 0).take 8;have b2:=su a4 k2 8;rw[qZ]at b1;obtain⟨K,bt⟩:=í (bY key);rw[<-bt]at b7 b1 b2⊢;clear a4 bt;replace⟨b1,b2⟩:=aT b1 b2;go_enter func140,ntmps140;go_wp2_with fail;apply(zi _ 0 8 16 _ _ (Z b1) (by simp[k1]) Θ Θ (by simp[maxLen])).mono;rintro e w'⟨rfl,rfl⟩;go_wp2_with fail;apply(zi _ 8 8 8 _ _ (Z b2) (by simp[k1]) Θ Θ (by simp[maxLen])).mono;rintro e w'⟨rfl,rfl⟩;go_wp2_with (at_builtin;refine jt Ξ _ _ Ξ (w.heap.size+1+1) _ [] Ξ (aS.nil _ _) a n a0 l Ξ ?_ ?_ ?_ ?_;exact aa.ag (aW (aW (au _ _) _) _);(simp;omega);simp;intro a1 c1 w1 F g1 _);have ak:Sv (w.heap.size+1) (eU key) w1 w1:=by
  refine⟨(g1.block (w.heap.size+1) Γ (by simp[Value.ownBlock])).trans ?_,au _ _⟩
  have:=aM (w.alloc (ο K 24)) (ο #[I U (eU key).a,I U (eU key).b,I U (eU key).c,I U (eU key).d] 306);rw[dJ]at this;exact this
 have gw:=wX (aq (aW (aW (au w N) _) _) g1);have hz:w.heap.size+2<=w1.heap.size:=by have:=g1.size;simpa using this
 obtain⟨pad,al⟩:=í (7-l.length %8);have b8:pad<=7:=O;have ca:(l.length+pad) %8=7:=O;replace al:=J al;have cc:=aa.2.1;subst cc;replace ak:=J ak;have cf:=aa.1;go_loopw [8] (λv wr=>∃(j:Nat)(a2:Option Addr)(c2:Nat),j<=pad/\v=Y a2 (l.length+j) c2/\aS wr (w.heap.size+2) v (l++List.replicate j 0)/\Below (w.heap.size+2) w1 wr) (λv _=>(l.length+pad)-yc v);case atStart=>exact⟨0,a1,c1,O,Γ,by simpa using F,rm _ _⟩
 case round=>
  obtain⟨j,a2,c2,hj,rfl,B,g2⟩:=hrel;have ch:=g2.size;have H:aS (wr.alloc (ο #[I Δ 0] 5)) (w.heap.size+2) (Y a2 (l.length+j) c2) (l++List.replicate j 0):=B.ag (aC _ _ _);have bz:=ph wr 0 (by unfold W8;omega);by_cases a8:j<pad
  .have e1:(((l.length:Int)+j) %8 !=7)=ρ:=by rw[bne_iff_ne];omega
   go_wp2_with (at_builtin;refine jt Ξ _ _ Ξ (w.heap.size+2) _ (l++List.replicate j 0) Ξ H _ _ _ [0] Ξ bz ?_ ?_ ?_;(simp;omega);(simp;omega);intro a3 c3 C r g3 _);go_roundw;case rel=>
    refine⟨j+1,a3,c3,O,by simp[pS],by simpa [List.replicate_succ',eF,pS]using r,?_⟩
    exact pV (g2.alloc O _) H g3 Ψ (aP _)
   case measure=>simp[yc];omega
  obtain rfl:j=pad:=O;have e1:(((l.length:Int)+j) %8 !=7)=θ:=by rw[bne_eq_false_iff_eq];omega
  have bw:W8 ((l.length:Int) %256):=by unfold W8;omega
  have bz:=ph wr _ bw;have H:aS (wr.alloc (ο #[I Δ ((l.length:Int) %256)] 5)) (w.heap.size+2) (Y a2 (l.length+j) c2) (l++List.replicate j 0):=B.ag (aC _ _ _);go_wp2_with (at_builtin;refine jt Ξ _ _ Ξ (w.heap.size+2) _ (l++List.replicate j 0) Ξ H _ _ _ [(l.length:Int) %256] Ξ bz ?_ ?_ ?_;(simp;omega);(simp;omega);intro a3 c3 C r g3 _);have a9:=pV (g2.alloc O _) H g3 Ψ (aP _);have bx:l++List.replicate j 0++[(l.length:Int) %256]=nE l l.length:=by rw[Z al];rfl
  have cm:(l++List.replicate j 0).length+[(l.length:Int) %256].length=8*(l.length/8+1):=Ψ;rw[bx]at r;have bA:=DU r (by rw[DT];omega);obtain⟨P,R⟩:=í (nE l l.length);have cp:P.length=8*(l.length/8+1):=by rw[R,DT]
  have bM:∀x∈P,W8 x:=by rw[R];exact Ao cf _
  rw[<-R]at bA;let⟨g,c,hv,cx,cy,bb,c9,da⟩:=bA
  have bj:Sv (w.heap.size+1) (eU key) C C:=⟨(a9.block _ O).trans (Z ak).1,au _ _⟩
  have b3:=An hK;have ao:Hid (cQ key l=tA (kW (eU key) (l.length/8+1) P)):=by rw[R];rfl
  have b4:=gw.trans (a9.mono O);obtain⟨q,hq⟩:=í (l.length/8+1);rw[<-hq]at cp ao;have db:q<=200000:=O;obtain⟨T,hT⟩:=í (l.length+j+1);have e3:=hv;simp only[wQ]at e3;obtain⟨rfl,-,rfl⟩:=e3;rw[<-hT];have t1:T<=8*q:=O;have t2:8*q<=T:=O;have t3:T<=c3:=O;clear bx cm hv r g3 B H g2 R hq hT bz bw e1 ca ak hj a8 b8 al a9 gw hz ch F;replace bb:=J bb;go_loopw [9] (λi wr=>∃k:Nat,k<=q/\i=I X (8*(k:Int))/\Sv (w.heap.size+1) (kW (eU key) k P) C wr) (λi _=>8*q-(intOf i).toNat);case atStart=>exact⟨0,O,Q,bj⟩
  case round=>
   obtain⟨k,M,rfl,f⟩:=hrel;by_cases a8:k<q
   .have S:=ya (eU key) k P;have h:=tY b3 bM k;obtain⟨⟨p,b0,c0,d0⟩,hs⟩:∃s,s=kW (eU key) k P:=⟨_,Q⟩
    have V:BS wr g (8*k) ((P.drop (8*k)).take 8):=by
     have:=(((Z bb).gb f.2 Ψ).drop (8*k)).take 8;rwa[eM]at this
    have h8:((P.drop (8*k)).take 8).length=8:=Ψ;have wm:=tX V.2 O;rw[<-hs]at S f h;replace S:=J S;clear hs;replace V:=J V;have ct:=f.cells;let⟨⟨u,y,z,A⟩,L⟩:=ct
    dsimp only at u y z A;go_wp2_with fail;apply(zi _ _ _ _ _ _ (Z V) h8 O O O).mono;rintro e w4⟨rfl,rfl⟩;obtain⟨m,b5⟩:=í (fG ((P.drop (8*k)).take 8));rw[<-b5]at wm S⊢;clear b5 V h8;let⟨F,B,r,o4⟩:=h
    dsimp only at F B r o4;go_wp2_with fail;apply(Al p b0 c0 _ _ F B r (iK o4 wm)).mono;rintro e w5⟨rfl,g5⟩;have br:Sv (w.heap.size+1) ⟨p,b0,c0,xo d0 m⟩ C w5:=Sv.gb (w:=_) ⟨heap_set f.1 _,aD f.2 _ _ (ψ Q)⟩ g5;have ax:(jD ⟨p,b0,c0,xo d0 m⟩).ok:=rp ⟨F,B,r,iK o4 wm⟩;let⟨⟨u,y,z,A⟩,L⟩:=br.cells
    clear g5;go_wp2_with fail;apply(Al _ _ _ _ _ ax.1 ax.2.1 ax.2.2.1 ax.2.2.2).mono;rintro e w6⟨rfl,W⟩;have ai:=(br.set Q).gb W;let⟨⟨u,y,z,A⟩,L⟩:=ai.cells
    clear W br;go_wp2;go_roundw;case rel=>
     refine⟨k+1,O,by go_num,?_⟩
     rw[Z S];have b6:=ai.set (t:=jD (jD ⟨p,b0,c0,xo d0 m⟩)) Q;exact⟨heap_set b6.1 _,aD b6.2 _ _ (ψ Q)⟩
    case measure=>simp[intOf];omega
   obtain rfl:k=q:=O;have h:=tY b3 bM k;obtain⟨⟨p,b0,c0,d0⟩,hs⟩:∃s,s=kW (eU key) k P:=⟨_,Q⟩
   rw[<-hs]at f h ao;clear hs;let⟨⟨u,y,z,A⟩,L⟩:=f.cells
   dsimp only at u y z A;go_wp2_with fail;have bj:Sv (w.heap.size+1) ⟨p,b0,xo c0 255,d0⟩ C (ζ wr ⟨w.heap.size+1,2,N⟩ (I U (bits .xor U c0 255))):=⟨heap_set f.1 _,aD f.2 _ _ (ψ Q)⟩
   have cv:(S4.mk p b0 (xo c0 255) d0).ok:=⟨h.1,h.2.1,iK h.2.2.1 (by unfold aZ;omega),h.2.2.2⟩
   have cw:Hid (cQ key l=xo (xo (xo (ku ⟨p,b0,xo c0 255,d0⟩ 4).a (ku ⟨p,b0,xo c0 255,d0⟩ 4).b) (ku ⟨p,b0,xo c0 255,d0⟩ 4).c) (ku ⟨p,b0,xo c0 255,d0⟩ 4).d):=by
    rw[Z ao];rfl
   clear ao f u y z A L h;generalize S4.mk p b0 (xo c0 255) d0=s0 at *;go_loopw [11] (λi wr=>∃k:Nat,k<=4/\i=I X k/\Sv (w.heap.size+1) (ku s0 k) C wr) (λi _=>4-(intOf i).toNat);case atStart=>exact⟨0,O,Q,bj⟩
   case round=>
    obtain⟨k,M,rfl,f⟩:=hrel;have h:=DP cv k;let⟨⟨u,y,z,A⟩,L⟩:=f.cells
    by_cases a8:k<4
    .go_wp2_with fail;apply(Al _ _ _ _ _ h.1 h.2.1 h.2.2.1 h.2.2.2).mono;rintro e w6⟨rfl,W⟩;have ai:=f.gb W;let⟨⟨u,y,z,A⟩,L⟩:=ai.cells
     clear W f;go_wp2;go_roundw;case rel=>exact⟨k+1,O,by go_num,ai.set Q⟩
     case measure=>simp[intOf];omega
    obtain rfl:k=4:=O;go_wp2;go_ret;refine⟨by rw[Z cw];rfl,?_⟩
    exact ot (b4.grown f.2 b4.size (λk e=>by cases e;omega))
def LL(key:List Int)(w:D)(i:cI key):Calls prog 260 #[ε (bY key)] w λe g=>
 e=ξ (ε #[I U (eU key).a,I U (eU key).b,I U (eU key).c,I U (eU key).d])/\G w g N:=by
 have n:=ly i;let⟨j,k⟩:=i
 have l:(w.alloc (ο (bY key) 24)).heap[w.heap.size]?=E (ο (bY key) 24 (0,0)):=aM w _;have b1:∀W:D,W.heap[w.heap.size]?=E (ο (bY key) 24 (0,0))->BS W w.heap.size 0 (key.take 8):=λW h=>by
  have:=(su h k 0).take 8;rwa[qZ]at this
 have b2:∀W:D,W.heap[w.heap.size]?=E (ο (bY key) 24 (0,0))->BS W w.heap.size 8 (key.drop 8):=λW h=>su h k 8
 have f:(((w.alloc (ο (bY key) 24)).alloc (ο #[I U 0,I U 0,I U 0,I U 0] 393))).heap[w.heap.size]?=E (ο (bY key) 24 (0,0)):=by
  rw[fE _ _ _ Γ];exact l
 obtain⟨K,m⟩:=í (bY key);rw[<-m]at n b1 b2 f⊢;clear l m;replace⟨f,b1,b2⟩:=cA f b1 b2;go_enter func260,ntmps260;go_wp2_with fail;go_region_with (first
  |(go_at_call_of 262 (Y (E ⟨w.heap.size,0,N⟩) 8 16);refine(wZ _ _ _ (key.take 8) _ ?_ (by simp[j]) Θ).mono ?_;exact Z b1 _ (Z f);rintro e g⟨rfl,rfl⟩)
  |(go_at_call_of 262 (Y (E ⟨w.heap.size,8,N⟩) 8 8);refine(wZ _ _ _ (key.drop 8) _ ?_ (by simp[j]) Θ).mono ?_;exact Z b2 _ (Z f);rintro e g⟨rfl,rfl⟩))
 all_goals
  go_wp2
  refine cC (v:=ε #[I U (eU key).a,I U (eU key).b,I U (eU key).c,I U (eU key).d]) ?_ Q ⟨Q,?_⟩
  .simp[results,results260,go_sem,eU,xo]
  first|exact aK (aW (aW (au _ _) _) _)|exact aW (aW (au _ _) _) _
def LM(l:List Int)(n:Int)(k:Nat)(h:8*k+8<=l.length):((nE l n).drop (8*k)).take 8=(l.drop (8*k)).take 8:=by
 simp only[nE,eF]
 grind
def LN(l:List Int)(n:Int):((nE l n).drop (8*(l.length/8))).take 8=splice [0,0,0,0,0,0,0,n %256] 0 ((l.drop (8*(l.length/8))).take 8):=by
 have a:(l.drop (8*(l.length/8))).length=l.length %8:=by grind
 simp only[nE,eF]
 rw[List.drop_append_of_le_length O];generalize l.drop (8*(l.length/8))=r at *;have b:r.length<8:=O;rw[<-a];have e:r.take 8=r:=à;rw[e,splice,List.take_zero,mg,eM];rw[oe (by grind)];congr 1;obtain _|⟨_,_|⟨_,_|⟨_,_|⟨_,_|⟨_,_|⟨_,_|⟨_,_|⟨_,r⟩⟩⟩⟩⟩⟩⟩⟩:=r<;>first|rfl|(simp at b;omega)
def DW(a:∀x∈L,W8 x)(b:n=(L.drop 8).length)(c:n<=j)(d:j<=maxLen)(e:BS W k o L)(h:i=o+8\/(L.drop 8).length=0):bD W (E ⟨k,i,N⟩) n j (L.drop 8):=by
 refine⟨λx f=>a x (iC f),b,c,d,ψ ⟨k,i,Q,?_⟩⟩
 obtain rfl|h:=h
 exact e.drop 8;rw[oV h];exact BS.nil _ _ _
def LO{b:Option Addr}(c:a=b)(d:n=m)(e:k=i):Y a n k=Y b m i:=by grind
def DX(key:List Int)(a:Option Addr)(n t:Nat)(l:List Int)(w:D)(z:cI key)(p:bD w a n t l)(cm:l.length<=100000000):Calls prog 222 #[ε (bY key),Y a n t] w λe w'=>
 e=ξ (I U (cQ key l))/\G w w' N:=by
 have a9:=ly z;have A:=λW=>LL key W z
 have hK:=z;obtain⟨K,L⟩:=í (bY key);rw[<-L];simp only[<-L]at A a9;clear L;replace A:=J A;have b4:=p.2.1;subst b4;go_enter func222,ntmps222;go_wp2_with (refine lK _ Ξ Ξ _ Ξ K ?_ a9 ?_;exact aM _ _);apply(Z A _).mono;rintro e f⟨rfl,g1⟩;go_wp2_with fail;obtain⟨r,B⟩:=í ((f.alloc (ο #[I U (eU key).a,I U (eU key).b,I U (eU key).c,I U (eU key).d] 393)).alloc (ο #[I Δ 0,I Δ 0,I Δ 0,I Δ 0,I Δ 0,I Δ 0,I Δ 0,I Δ ((l.length:Int) %256)] 299));have M:G w r N:=by rw[B];exact aW (aW (aq (aW (au w N) _) g1) _) _
 have b5:oH f.heap.size (eU key) r r:=by
  refine⟨?_,au _ _⟩
  rw[B,fE _ _ _ Γ];exact aM _ _
 have C:r.heap[f.heap.size+1]?=E (ο (bv [0,0,0,0,0,0,0,(l.length:Int) %256]).toArray 299 (0,0)):=by
  have:=aM (f.alloc (ο #[I U (eU key).a,I U (eU key).b,I U (eU key).c,I U (eU key).d] 393)) (ο #[I Δ 0,I Δ 0,I Δ 0,I Δ 0,I Δ 0,I Δ 0,I Δ 0,I Δ ((l.length:Int) %256)] 299);rw[dJ]at this;rw[B];exact this
 have cp:w.heap.size<f.heap.size:=by have:=g1.size;rw[dJ]at this;omega
 have R:=p.ag M;rw[<-B];have S:=An hK;have u:=Ao p.1 (l.length:Int);have T:Hid (cQ key l=tA (kW (eU key) (l.length/8+1) (nE l l.length))):=rfl;have F:=LM l (l.length:Int);have s:=LN l (l.length:Int);obtain⟨P,V⟩:=í (nE l (l.length:Int));rw[<-V]at u T s;simp only[<-V]at F;replace⟨s,F⟩:=aT s F;clear V;obtain⟨q,hq⟩:=í (l.length/8);rw[<-hq]at T s;have q1:8*q<=l.length:=O;have q2:l.length<8*q+8:=O;clear hq;replace⟨R,C⟩:=aT R C;have ai:∀x,a=E x->l≠[]->x.block<w.heap.size:=λx e ak=>by
  obtain⟨h,_⟩|⟨b,o,h,g⟩:=p.2.2.2.2
  rw[h]at e;cases e;rw[h]at e;cases e;exact g.lt ak
 replace ai:=J ai;have cw:=p.2.2.1;have b6:=p.2.2.2.1;unfold maxLen at b6;go_loopw [1] (λv wr=>∃(k:Nat)(y:Option Addr),k<=q/\v=Y y (l.length-8*k) (t-8*k)/\bD r y (l.length-8*k) (t-8*k) (l.drop (8*k))/\(∀x,y=E x->l.drop (8*k)≠[]->x.block<w.heap.size)/\oH f.heap.size (kW (eU key) k P) r wr) (λv _=>yc v);case atStart=>exact⟨0,a,O,Q,by simpa using Z R,by simpa using Z ai,b5⟩
 case round=>
  obtain⟨k,y,z,rfl,al,H,i⟩:=hrel;replace H:=J H;by_cases cx:k<q
  .have ak:l.drop (8*k)≠[]:=by intro e;have:=fR List.length e;simp at this;omega
   obtain⟨br,-,cy,c9,h5⟩:=al;obtain⟨rfl,h0⟩|⟨bb,o,rfl,g⟩:=h5
   omega;have bt:=Z H _ Q ak;have bw:=g.gb i.2 (by intro e;cases e;dsimp only at bt;omega);have m:=J (bw.take 8);have h8:((l.drop (8*k)).take 8).length=8:=Ψ;have hm:=J (ya (eU key) k P);have a0:=tY S u k;have wm:=tX (Z m).2 O;have b8:Hid (l.drop (8*(k+1))=(l.drop (8*k)).drop 8):=by
    rw[uR];rfl
   replace g:=J g;clear bw;go_wp2_with fail;apply(wZ _ _ _ _ _ (Z m) h8 O).mono;rintro e w4⟨rfl,rfl⟩;go_wp2_with fail;apply(DR _ _ _ _ _ i a0 wm).mono;rintro e w5⟨rfl,ca⟩;go_wp2_with fail;all_goals go_roundw
   all_goals first
    |(show _<_;simp[yc];omega)
    |(refine⟨k+1,_,O,LO Q O O,?_,?_,by rw[Z hm,Z F k O];exact ca⟩<;>rw[Z b8]<;>skip)
   split;exact DW br Ψ O O (Z g) (ψ Ψ);exact DW br Ψ O O (Z g) (φ Q);intro x e _;split at e<;>(cases e;exact bt)
  obtain rfl:k=q:=O;have a2:bD wr y (l.length-8*k) (t-8*k) (l.drop (8*k)):=
   al.gb i.2 (λj e=>by
    cases e;right;by_cases hl:l.drop (8*k)=[]
    exact φ hl
    .right;intro x e;have:=Z H x e hl;omega)
  have a3:=(i.2.block _ (aV.1 (Z C)).1 Γ).trans (Z C);replace⟨a2,a3⟩:=aT a2 a3;have a0:=tY S u k;clear al;go_wp2_with (refine uY _ _ Ξ Ξ (f.heap.size+1) 0 8 8 Ξ _ _ _ Ξ (l.drop (8*k)) (Z a2) [0,0,0,0,0,0,0,(l.length:Int) %256] _ (Z a3) ?_ ?_;(simp;omega);intro w6 a8 g6);have cc:oH f.heap.size (kW (eU key) k P) w6 w6:=⟨(g6.block _ (aV.1 i.1).1 Γ).trans i.1,au _ _⟩
  have m:BS w6 (f.heap.size+1) 0 ((P.drop (8*k)).take 8):=by
   have bz:∀x∈(P.drop (8*k)).take 8,W8 x:=λx hx=>u x (iC (jr hx))
   rw[Z s]at bz⊢;have:=su a8 bz 0;rwa[qZ]at this
  have h8:((P.drop (8*k)).take 8).length=8:=by rw[Z s,length_splice]<;>simp<;>omega
  have hm:=J (ya (eU key) k P);have wm:=tX m.2 O;replace⟨m,a8⟩:=aT m a8;go_wp2_with fail;apply(wZ _ _ _ _ _ (Z m) h8 O).mono;rintro e w7⟨rfl,rfl⟩;go_wp2_with fail;apply(DR _ _ _ _ _ cc a0 wm).mono;rintro e w8⟨rfl,bA⟩;rw[<-Z hm]at bA;go_wp2_with fail;apply(LK _ _ _ _ bA (tY S u _)).mono;rintro e w9⟨rfl,g9⟩;go_wp2;go_ret;refine⟨by rw[Z T];rfl,?_⟩
  have b1:=(wX M).grown i.2 M.size (λj e=>by cases e;omega);have b2:=b1.grown g6 b1.size (λj e=>by cases e;omega);exact ot (b2.grown g9 b2.size (λj e=>by cases e;omega))
def bh(s u n:Int):List Int:=s::u::eA n
def lz(key:List Int)(s n:Int)(i:Nat):Int:=aa (cQ key (bh s 1 n++[((i/8:Nat):Int) %256])) (i %8)
def x8(a b:Int):Int:=bits .xor Δ a b
def ke(key:List Int)(s n:Int)(l:List Int)(j:Nat):List Int:=(List.range j).map λi=>x8 (l.getD i 0) (lz key s n i)
def cV(key:List Int)(s n:Int)(l:List Int):List Int:=ke key s n l l.length
def fV(key:List Int)(s n:Int)(c:List Int):List Int:=eA (cQ key (bh s 2 n++c))
def dC(key:List Int)(s n:Int)(l:List Int):List Int:=eA n++cV key s n l++fV key s n (cV key s n l)
def D2(key:List Int)(s n:Int)(l:List Int)(j:Nat):ke key s n l (j+1)=ke key s n l j++[x8 (l.getD j 0) (lz key s n j)]:=by simp[ke,rV]
def rF(key:List Int)(s n:Int)(l:List Int)(j:Nat):(ke key s n l j).length=j:=by simp[ke]
def Ar(a:W8 p)(b:W8 q):W8 (x8 p q):=by
 unfold x8;rw[u8_xor p q a.1 a.2 b.1 b.2];have:=Nat.xor_lt_two_pow (n:=8) (x:=p.toNat) (y:=q.toNat) (by have:=a.2;have:=a.1;omega) (by have:=b.2;have:=b.1;omega);unfold W8;omega
def Mb(hs:W8 p)(b:W8 q):∀x∈bh p q r,W8 x:=by
 intro x a;simp only[bh,iD]at a;obtain rfl|rfl|a:=a
 exact hs;exact b;exact qc r x a
def pI(s u n:Int):(bh s u n).length=10:=rfl
def ye(key l:List Int)(a:cI key)(hl:∀x∈l,W8 x):aZ (cQ key l):=HB (tY (An a) (Ao hl _) _)
def vM(h:w.heap[n]?=E (ο c 24 (0,0)))(b:Below k w W)(a:n<k):W.heap[n]?=E (ο c 24 (0,0)):=(b.block n a).trans h
def As(w:D)(x y:Int)(b:W8 x)(c:W8 y):aS (w.alloc (ο #[I Δ x,I Δ y] 5)) w.heap.size (Y (E ⟨w.heap.size,0,N⟩) [x,y].length 2) [x,y]:=
 LQ w [x,y] (λz a=>by simp only[iD,uN,or_false]at a;obtain rfl|rfl:=a;exact b;exact c) Γ _ (aP _)
def D3(key:List Int)(s n:Int)(a:Option Addr)(m c:Nat)(l:List Int)(w:D)(f:cI key)(hs:W8 s)(B:aZ n)(C:bD w a m c l)(hl:l.length<=900000):
 Calls prog 105 #[ε (bY key),I X s,I U n,Y a m c] w λe j=>
  ∃p q,e=ξ (Y p 8 q)/\aS j w.heap.size (Y p 8 q) (fV key s n l)/\G w j N:=by
 have r:=ly f;have d:=λ(a:Option Addr)(n c:Nat)(l:List Int)(W:D)=>DV key a n c l W f
 obtain⟨K,g⟩:=í (bY key);rw[<-g];simp only[<-g]at d r;clear g;replace d:=J d;have t:=As (w.alloc (ο K 24)) s 2 hs (by unfold W8;omega);rw[dJ]at t;let⟨s0,s1⟩:=hs
 go_enter func105,ntmps105;go_wp2_with fail;apply(vL (w.heap.size+1) _ 2 [s,2] n _ t B Γ Γ).mono;rintro e u⟨F,c1,rfl,b,b2⟩;replace b:aS u (w.heap.size+1) (Y F 10 c1) (bh s 2 n):=b;have v:=(((rm _ w).alloc (aP _) _).alloc Γ _).trans (b2.mono O);have h:u.heap[w.heap.size]?=E (ο K 24 (0,0)):=vM (by rw[fE _ _ _ Γ];exact aM _ _) b2 O;have i:=C.ag (ot v);have H:=b2.size;rw[dJ,dJ]at H;replace⟨h,i,b⟩:=cA h i b;go_wp2_with (first|(at_builtin;refine jt Ξ _ _ Ξ (w.heap.size+1) _ (bh s 2 n) Ξ (Z b) _ _ _ l Ξ (Z i) ?_ ?_ ?_;(rw[pI];omega);omega;rw[pI];intro S c3 T x y _;have L:=(J ((y.block w.heap.size O (λe=>by have:=((Z b).lt _ e.symm).1;omega)).trans (Z h))))|(refine lK _ Ξ Ξ _ Ξ K ?_ r ?_;exact Z L));have V:(bh s 2 n++l).length=10+l.length:=by simp[pI]
 have z:=pV v (Z b) y O O;apply(Z d _ _ _ (bh s 2 n++l) _ x.eV O).mono;rintro e w5⟨rfl,M⟩;have A:=z.grown M z.size (nofun);go_wp2_with fail;apply(vL w.heap.size N 0 [] _ _ (aS.nil _ _) (ye key _ f x.1) A.size Γ).mono;rintro e w6⟨a6,c6,rfl,P,R⟩;go_wp2;go_ret;exact⟨a6,c6,Q,P,ot (A.trans R)⟩
def D4(key:List Int)(s n:Int)(a:Option Addr)(m b:Nat)(l:List Int)(w:D)(H:cI key)(hs:W8 s)(hn:aZ n)(q:bD w a m b l)(hl:l.length<=900000):
 Calls prog 106 #[ε (bY key),I X s,I U n,Y a m b] w λe w'=>
  ∃d f,e=ξ (Y d l.length f)/\aS w' w.heap.size (Y d l.length f) (cV key s n l)/\G w w' N:=by
 have ai:=ly H;have z:=λ(a:Option Addr)(n b:Nat)(l:List Int)(W:D)=>DV key a n b l W H
 obtain⟨K,L⟩:=í (bY key);rw[<-L];simp only[<-L]at z ai;clear L;replace z:=J z;have bt:=q.2.1;subst bt;have s8:=hs;let⟨s0,s1⟩:=hs
 have cc:=q.2.2.1;have bx:=q.2.2.2.1;unfold maxLen at bx;go_enter func106,ntmps106;go_wp2;go_loopw [9,10] (λv i wr=>∃(j:Nat)(d:Option Addr)(f:Nat),j<=l.length/\i=I X j/\v=Y d j f/\aS wr (w.heap.size+1) v (ke key s n l j)/\Below (w.heap.size+1) (w.alloc (ο K 24)) wr) (λ_ i _=>l.length-(intOf i).toNat);case atStart=>exact⟨0,N,0,O,Q,Q,aS.nil _ _,rm _ _⟩
 case round=>
  obtain⟨j,d,f,hj,rfl,rfl,t,b1⟩:=hrel;have ak:=b1.size;rw[dJ]at ak;by_cases al:j<l.length
  .have o2:=As wr s 1 s8 (by unfold W8;omega);have bw:=((rm _ w).alloc (aP _) _).trans (b1.mono O);have ao:=J (vM (aM w _) b1 O);have bz:=q.ag (ot bw);obtain⟨bA,-,-,-,h5⟩:=bz;obtain⟨rfl,rfl⟩|⟨bb,o,rfl,M⟩:=h5
   omega;replace t:=J t;go_wp2_with fail;apply(vL wr.heap.size _ 2 [s,1] n _ o2 hn Γ Γ).mono;rintro e P⟨a2,c2,rfl,A,b3⟩;replace A:aS P wr.heap.size (Y a2 10 c2) (bh s 1 n):=A;have B:=((rm _ wr).alloc (aP _) _).trans b3;have bM:=B.size;have b4:W8 ((j:Int)/8 %256):=by unfold W8;omega
   have u:=J (ph P _ b4);have R:=J (A.ag (aC P (ο #[I Δ ((j:Int)/8 %256)] 5) N));have b7:=J (vM (Z ao) B O);clear b3 o2;go_wp2_with (first|(at_builtin;refine jt Ξ _ _ Ξ wr.heap.size _ (bh s 1 n) Ξ (Z R) _ _ _ [(j:Int)/8 %256] Ξ (Z u) ?_ ?_ ?_;(rw[pI];simp);(simp;omega);rw[pI];intro a4 c4 w4 S g4 _;have C:=pV (B.alloc bM _) (Z R) g4 Ψ (aP _);have ax:=J (vM (Z ao) C O))|(refine lK _ Ξ Ξ _ Ξ K ?_ ai ?_;exact Z ax));have a0:=S.1;apply(Z z _ _ _ _ _ S.eV (by simp[pI])).mono;rintro e w5⟨rfl,g5⟩;have b5:=C.grown g5 C.size (nofun);have b8:=b5.size;have a1:=ye key _ H a0;clear S g4 ax b7 u R A g5 C B;go_wp2_with fail;apply(vL w5.heap.size N 0 [] _ _ (aS.nil _ _) a1 (aP _) Γ).mono;rintro e w6⟨a6,c6,rfl,o6,b6⟩;have F:=b5.trans (b6.mono b8);let⟨g,c,hv,cf,ch,a3,cm,cp⟩:=DU o6 (by simp[gF])
   simp only[eJ,mg,eM,wQ]at hv;obtain⟨rfl,-,rfl⟩:=hv;have a8:Hid ((eA (cQ key (bh s 1 n++[(j:Int)/8 %256]))).getD (j %8) 0=lz key s n j):=by
    show _=aa _ _;have:j %8<8:=Nat.mod_lt _ Θ;rw[show((j/8:Nat):Int)=(j:Int)/8 from rfl];generalize cQ key (bh s 1 n++[(j:Int)/8 %256])=h;have e:j %8=0\/j %8=1\/j %8=2\/j %8=3\/j %8=4\/j %8=5\/j %8=6\/j %8=7:=O;obtain e|e|e|e|e|e|e|e:=e<;>rw[e]<;>rfl
   have q2:=a3.1 (j %8) (by simp[gF];omega);rw[mg,Z a8,eM]at q2;have q1:κ w6 ⟨bb,o+j,N⟩=E (I Δ (l.getD j 0)):=by
    have ca:=eI wr _ (M.1 j al);rw[F.cell (p:=⟨bb,o+j,N⟩) ca];exact M.1 j al
   have a9:W8 (x8 (l.getD j 0) (lz key s n j)):=Ar (mR bA j) (vK _ _);have bj:=J ((Z t).below F (aP _));have u:=J (ph w6 _ a9);have br:=J (D2 key s n l j);unfold x8 at a9 u br;generalize l.getD j 0=x at *;generalize lz key s n j=y at *;have ct:=F.size;have i1:(j:Int)<l.length:=O;obtain⟨r,T⟩:∃r:Nat,r=j %8:=⟨_,Q⟩
   have i2:(j:Int).tmod 8=(r:Int):=by rw[Int.tmod_eq_emod_of_nonneg O,T];rfl
   have i3:r<8:=O;have i5:(0:Int)<=r:=O;have i6:(r:Int)<8:=O;rw[<-T]at q2;clear T;clear a3 M a8 o6 b6 a1 a0 q;go_wp2_with fail;go_region_law ((refine uX Ξ _ _ Ξ (w.heap.size+1) _ (ke key s n l j) Ξ ((Z bj).ag (aK (aC _ _ _))) _ _ _ [bits .xor Δ x y] Ξ ((Z u).ag (aK (au _ _))) (by rw[rF];simp;omega) Ψ ?_;intro a7 c7 w7 o7 g7 _));all_goals (go_wp2_with fail)
   all_goals
    refine⟨⟨j+1,a7,c7,O,by go_num,by rw[rF],?_,?_⟩,by simp[intOf];omega⟩
    rw[Z br];exact o7
    exact pV ((((b1.trans (F.mono ak)).alloc O _)).drew) ((Z bj).ag (aK (aC _ _ _))) g7 Ψ (aP _)
  obtain rfl:j=l.length:=O;go_wp2;go_ret;refine⟨d,f,Q,⟨t.1,?_⟩,?_⟩
  let⟨h1,V⟩:=t.2
  refine⟨h1,?_⟩
  obtain V|⟨g,b,cur,e1,e2,e3⟩:=V
  exact φ V;exact ψ ⟨g,b,cur,e1,O,e3⟩;exact ot (((rm _ w).alloc (aP _) _).trans (b1.mono O))
def Mc(o:aS w n x L)(a:aS W i y K)(h:W.heap.size<=n):x.ownBlock=N\/x.ownBlock≠y.ownBlock:=by
 cases b:x.ownBlock with
 |none=>exact φ Q
 |some k=>
  right;intro e;have c:=(o.lt k b).1;have d:=(a.lt k e.symm).2;omega
def aS.lower(o:aS w n x L)(h:k<=n):aS w k x L:=by
 refine⟨o.1,o.2.1,?_⟩
 obtain b|⟨g,cap,cur,e1,e2,a⟩:=o.2.2
 simp_all;exact ψ ⟨g,cap,cur,e1,O,a⟩
def nI(key:List Int)(s n:Int)(l:List Int):(cV key s n l).length=l.length:=rF _ _ _ _ _
def Md(key:List Int)(s n:Int)(l:List Int):(fV key s n l).length=8:=rfl
def mu(key:List Int)(s n:Int)(l:List Int):(dC key s n l).length=l.length+16:=by simp[dC,nI,Md,gF];omega
def D5(key:List Int)(s n:Int)(a:Option Addr)(m b:Nat)(l:List Int)(w:D)(j:cI key)(hs:W8 s)(p:aZ n)(S:bD w a m b l)(hl:l.length<=800000):
 Calls prog 68 #[ε (bY key),I X s,I U n,Y a m b] w λe y=>
  ∃z A,e=ξ (Y z (l.length+16) A)/\aS y w.heap.size (Y z (l.length+16) A) (dC key s n l)/\G w y N:=by
 have q:=ly j;have d:=λ(a:Option Addr)(m b:Nat)(l:List Int)(W:D)=>D3 key s n a m b l W j hs p
 have f:=λ(a:Option Addr)(m b:Nat)(l:List Int)(W:D)=>D4 key s n a m b l W j hs p
 obtain⟨K,r⟩:=í (bY key);rw[<-r];simp only[<-r]at d f q;clear r;replace⟨d,f⟩:=aT d f;go_enter func68,ntmps68;go_wp2_with fail;apply(vL (w.heap.size+1) N 0 [] n _ (aS.nil _ _) p Γ Γ).mono;rintro e B⟨T,c1,rfl,g,b1⟩;replace g:aS B (w.heap.size+1) (Y T 8 c1) (eA n):=g;have V:=b1.size;rw[dJ]at V;have C:=J (vM (aM w (ο K 24)) b1 O);have t:Below w.heap.size w B:=((rm _ w).alloc (aP _) _).trans (b1.mono O);have ai:=S.ag (ot t);go_wp2_with (refine lK _ Ξ Ξ _ Ξ K ?_ q ?_;exact Z C);apply(Z f _ _ _ _ _ ai O).mono;rintro e w2⟨a2,c2,rfl,c,h⟩;have a9:=h.size;have u:=J (g.ag h);have ak:=J ((h.block w.heap.size O Γ).trans (Z C));have al:Below w.heap.size w w2:=t.grown h t.size (nofun);have ao:=J c.eV;have v:=nI key s n l;replace c:=J c;go_wp2_with (first|(at_builtin;refine jt Ξ _ _ Ξ (w.heap.size+1) _ (eA n) Ξ (Z u) _ _ _ (cV key s n l) Ξ (Z ao) ?_ ?_ ?_;(rw[gF,v];omega);omega;rw[gF,v];intro a3 c3 w3 o3 i _;have ax:=J ((i.block w.heap.size O (λe=>by have:=((Z u).lt _ e.symm).1;omega)).trans (Z ak)))|(refine lK _ Ξ Ξ _ Ξ K ?_ q ?_;exact Z ax));have a0:=(Z c).gb i (Mc (Z c) g (aP _));have F:=pV al (Z u) i O O;have bb:=i.size;apply(Z d _ _ _ _ _ a0.eV O).mono;rintro e w4⟨a4,c4,rfl,o4,x⟩;have H:=J (o3.ag x);have a1:=J o4.eV;have a8:Below w.heap.size w w4:=F.grown x F.size (nofun);have bj:=x.size;have L:(eA n++cV key s n l).length=8+l.length:=by simp[gF,v]
 have M:(fV key s n (cV key s n l)).length=8:=rfl;go_wp2_with (at_builtin;refine jt Ξ _ _ Ξ (w.heap.size+1) _ (eA n++cV key s n l) Ξ (Z H) _ _ _ (fV key s n (cV key s n l)) Ξ (Z a1) ?_ ?_ ?_;(rw[L,M];omega);omega;rw[L,M];intro a5 c5 w5 P g5 _);go_ret;have R:8+l.length+8=l.length+16:=O;rw[R]at P;exact⟨a5,c5,by simp only[R];rfl,P.lower O,ot (pV a8 (Z H) g5 O O)⟩
def bu(p:List Int):Int:=iu (p.take 8)
def bO(p:List Int):List Int:=(p.drop 8).take (p.length-16)
def my(p:List Int):List Int:=p.drop (p.length-8)
def Me(W:D):(sizeOf 5).run prog W=.ok 1 W:=Φ
def D6:prog.elem 112=5:=Φ
def D7(b o n c t:Nat)(h:t<=n)(a:t<c)(W:D):(Instr.slice 112 (Y (E ⟨b,o,N⟩) n c) (E (I X t)) N N).run prog W=.ok (Y (E ⟨b,o+t,N⟩) (n-t) (c-t)) W:=by
 rw[run_slice_l W 112 (E ⟨b,o,N⟩) n c (by rw[D6];exact underlying112) X (t:Int) O O,D6,Me];simp only[jC,sliced,mf,tx,tv]
 rw[ê,Addr.add_lit]
def dZ(key:List Int)(s:Int)(p:List Int):Prop:=16<=p.length/\p.length<=300/\fV key s (bu p) (bO p)=my p/\bu p<=4611686018427387903
def Mf(key:List Int)(s:Int)(a:Option Addr)(m b:Nat)(l:List Int)(w:D)(i:cI key)(c:bD w a m b l)(hl:l.length<16\/300<l.length):
 Calls prog 65 #[ε (bY key),I X s,Y a m b] w λe d=>e=ξ (τ #[I U 0,Y N 0 0,β θ])/\G w d N:=by
 generalize bY key=K at *;have f:=c.2.1;subst f;have g:=c.2.2.2.1;unfold maxLen at g;obtain hl|hl:=hl
 .have h:decide ((l.length:Int)<16)=ρ:=Ψ;go_enter func65,ntmps65;go_wp2;go_ret3;exact⟨Q,aW (au _ _) _⟩
 have h:decide ((l.length:Int)<16)=θ:=Ψ;go_enter func65,ntmps65;go_wp2;go_ret3;exact⟨Q,aW (au _ _) _⟩
def Mg(key:List Int)(s:Int)(a:Option Addr)(m b:Nat)(l:List Int)(w:D)(F:cI key)(hs:W8 s)(q:bD w a m b l)(ao:16<=l.length)(ax:l.length<=300):
 Calls prog 65 #[ε (bY key),I X s,Y a m b] w λe w'=>
  ((dZ key s l/\∃a' c',e=ξ (τ #[I U (bu l),Y a' (l.length-16) c',β ρ])/\aS w' w.heap.size (Y a' (l.length-16) c') (cV key s (bu l) (bO l)))\/(¬dZ key s l/\e=ξ (τ #[I U 0,Y N 0 0,β θ])))/\G w w' N:=by
 have H:=ly F;have y:=λ(n:Int)(L:aZ n)(a:Option Addr)(m b:Nat)(l:List Int)(W:D)=>D4 key s n a m b l W F hs L
 have z:=λ(n:Int)(L:aZ n)(a:Option Addr)(m b:Nat)(l:List Int)(W:D)=>D3 key s n a m b l W F hs L
 obtain⟨K,M⟩:=í (bY key);rw[<-M];simp only[<-M]at z y H;clear M;replace⟨y,z⟩:=aT y z;have a0:=q.2.1;subst a0;have br:=q.2.2.1;have a1:=q.2.2.2.1;unfold maxLen at a1;have g:=q.1;obtain⟨-,-,-,-,h5⟩:=q;obtain⟨rfl,rfl⟩|⟨r,o,rfl,a4⟩:=h5
 omega;have h1:decide ((l.length:Int)<16)=θ:=Ψ;have h2:decide (300<(l.length:Int))=θ:=Ψ;have A:=a4.gb (aC w (ο K 24) N) Γ;go_enter func65,ntmps65;go_wp2;go_loop [9,10] (λv i=>∃j:Nat,j<=8/\i=I X j/\v=I U (iu (l.take j))) (λ_ i=>8-(intOf i).toNat);case atStart=>exact⟨0,O,Q,Q⟩
 case round=>
  obtain⟨j,hj,rfl,rfl⟩:=hrel;by_cases bt:j<8
  .have d:=mR g j;have h3:=sx l g j O;have h4:=J (Aq l j O);have hc:=A.1 j O;have hp:(256:Int)^j<=72057594037927936:=by
    have:(256:Nat)^j<=256^7:=uJ Θ O;have e:(256:Int)^j=((256^j:Nat):Int):=Γ;rw[e];omega
   let⟨x0,x1⟩:=d
   let⟨m0,m1⟩:=h3
   have bw:j<l.length:=O;generalize l.getD j 0=x at *;generalize iu (l.take j)=mm at *;have m2:mm<72057594037927936:=O;go_wp2;go_round;case rel=>exact⟨j+1,O,by go_num,by rw[Z h4]⟩
   case measure=>simp[intOf];omega
  obtain rfl:j=8:=O;have h8:=sx l g 8 O;have B:aZ (iu (l.take 8)):=⟨h8.1,by have:=h8.2;omega⟩
  have P:=aM w (ο K 24);go_wp2_with (refine lK _ Ξ Ξ _ Ξ K ?_ H ?_;exact P);have R:bD (w.alloc (ο K 24)) (E ⟨r,o+8,N⟩) (l.length-8-8) (b-8) (bO l):=by
   refine⟨λx d=>g x (iC (jr d)),by simp[bO];omega,O,by simp only[maxLen];omega,ψ ⟨r,o+8,Q,(A.drop 8).take _⟩⟩
  have S:(bO l).length=l.length-16:=by simp[bO];omega
  apply(Z z _ B _ _ _ (bO l) _ R O).mono;rintro e u⟨a2,c2,rfl,o2,p⟩;have a8:=A.gb p;obtain⟨t,ht⟩:∃t:Nat,t=l.length-8:=⟨_,Q⟩
  have ai:bD u (E ⟨r,o+t,N⟩) (l.length-t) (b-t) (my l):=by
   rw[ht];refine⟨λx d=>g x (iC d),by simp[my],O,by simp only[maxLen];omega,ψ ⟨r,o+(l.length-8),Q,a8.drop _⟩⟩
  have bx:(l.length:Int)-8=(t:Int):=O;have t1:(t:Int)<=l.length:=O;have t2:¬b=t:=O;have t3:¬b-t=0:=O;have t4:¬b<=t:=O;have fj:=λW=>D7 r o l.length b t O O W
  have bz:X.wrap (t:Int)=(t:Int):=by simp[IntKind.wrap,IntKind.bits,IntKind.signed];omega
  clear ht;have bA:=λk=>nG (o2.eV.ag (cu (au u N) k))
  have bM:=λk=>nG (ai.ag (cu (au u N) k))
  have a9:=J ((p.block w.heap.size Γ Γ).trans P);have T:=aq (aW (au w N) _) p;have bb:=J (R.ag p);have bj:=p.size;rw[dJ]at bj;clear P p R o2 ai A;replace B:=J B;have b3:(8:Int)<=l.length:=O;by_cases c:fV key s (iu (l.take 8)) (bO l)=my l
  .have C:((strOfNums (fV key s (iu (l.take 8)) (bO l))).toList==(strOfNums (my l)).toList)=ρ:=by rw[c];simp
   by_cases ak:iu (l.take 8)<=4611686018427387903
   .have hd:decide ((4611686018427387903:Int)<iu (l.take 8))=θ:=Ψ;have V:dZ key s l:=⟨ao,ax,c,ak⟩
    replace⟨c,V⟩:=aT c V;have al:(!((strOfNums (fV key s (iu (l.take 8)) (bO l))).toList==(strOfNums (my l)).toList))=θ:=by rw[C];rfl
    clear C;go_wp2_with fail;go_quiet (fail);go_wp2_with (refine lK _ Ξ Ξ _ Ξ K ?_ H ?_;exact Z a9);apply(Z y _ (Z B) _ _ _ (bO l) _ ((Z bb).ag (cu (au u N) _)) O).mono;rintro e w3⟨a3,c3,rfl,o3,g3⟩;go_wp2;go_ret3;rw[S]at o3;refine⟨φ ⟨Z V,a3,c3,?_,o3.lower (by show w.heap.size<=u.heap.size;omega)⟩,aq (cu T _) g3⟩
    first|rfl|(simp only[S];rfl)|(rw[S];rfl)
   have f:¬dZ key s l:=λh=>ak h.2.2.2
   have hd:decide ((4611686018427387903:Int)<iu (l.take 8))=ρ:=Ψ;have al:(!((strOfNums (fV key s (iu (l.take 8)) (bO l))).toList==(strOfNums (my l)).toList))=θ:=by rw[C];rfl
   replace f:=J f;clear C c;go_wp2_with fail;go_quiet (fail);go_wp2;go_ret3;exact⟨ψ ⟨Z f,Q⟩,cu T _⟩
  have f:¬dZ key s l:=λh=>c h.2.2.1
  have al:(!((strOfNums (fV key s (iu (l.take 8)) (bO l))).toList==(strOfNums (my l)).toList))=ρ:=by
   rw[Bool.not_eq_true',ze,ByteArray.toList_eq,ByteArray.toList_eq];intro e;have e2:=ByteArray.ext (Array.toList_inj.1 e);exact c (HK (qc _) (λx d=>g x (iC d)) e2)
  replace⟨f,c⟩:=aT f c;go_wp2_with fail;go_quiet (fail);go_wp2;go_ret3;exact⟨ψ ⟨Z f,Q⟩,cu T _⟩
def D8(s u n:Int)(w:D)(hs:W8 s)(i:W8 u)(j:aZ n):Calls prog 223 #[I Δ s,I Δ u,I U n] w λe d=>
 ∃f g,e=ξ (Y f 10 g)/\aS d w.heap.size (Y f 10 g) (bh s u n)/\G w d N:=by
 go_enter func223,ntmps223;go_wp2_with fail;apply(yd n _ j).mono;rintro e a⟨rfl,h⟩;rw[tZ];have k:=h.size;have b:=As (a.alloc (ο (bv (eA n)).toArray 300)) s u hs i;have l:=aM a (ο (bv (eA n)).toArray 300);have m:((a.alloc (ο (bv (eA n)).toArray 300)).alloc (ο #[I Δ s,I Δ u] 5)).heap[a.heap.size]?=E (ο (bv (eA n)).toArray 300 (0,0)):=by
  rw[fE _ _ _ Γ];exact l
 have c:bD ((a.alloc (ο (bv (eA n)).toArray 300)).alloc (ο #[I Δ s,I Δ u] 5)) (E ⟨a.heap.size,0,N⟩) 8 8 (eA n):=by
  refine⟨qc n,Q,Γ,by simp[maxLen],ψ ⟨_,_,Q,?_⟩⟩
  have:=su m (qc n) 0;rwa[qZ]at this
 rw[dJ]at b;rw[tZ]at b c;replace⟨b,c⟩:=aT b c;go_wp2_with (at_builtin;refine jt Ξ _ _ Ξ (a.heap.size+1) _ [s,u] Ξ (Z b) _ _ _ (eA n) Ξ (Z c) ?_ ?_ ?_;(simp[gF]);(simp);intro p c3 t q r _);go_ret;refine⟨p,c3,Q,q.lower O,?_⟩
 have b0:=wX h;exact ot (pV ((b0.alloc k _).alloc Ψ _) (Z b) r Ψ O)
def rG(h:W.rangeAt n 0 (bv L)/\G w W (E (n+1)))(o:Nat)(v:υ):(ζ W ⟨n+1,o,N⟩ v).rangeAt n 0 (bv L)/\G w (ζ W ⟨n+1,o,N⟩ v) (E (n+1)):=
 ⟨xk h.1 _ _ Γ,aD h.2 _ _ (ψ Q)⟩
def At(h:W.rangeAt n 0 (bv L)/\G w W (E (n+1)))(g:G W v N):v.rangeAt n 0 (bv L)/\G w v (E (n+1)):=
 ⟨jE h.1 g Γ,cO h.2 g (nofun)⟩
def Mh(h:W.rangeAt n 0 (bv L)/\G w W (E (n+1)))(o:aS W k x K)(a:w.heap.size<=k)(b:n<k)(g:G W V x.ownBlock):V.rangeAt n 0 (bv L)/\G w V (E (n+1)):=
 ⟨jE h.1 g (λe=>by have:=(o.lt _ e).1;omega),cO h.2 g (λj e=>φ (bG a (o.lt _ e).1))⟩
def D9(h:bD w a n k L):bD w.drew a n k L:=h.ag (aK (au w N))
def Ea(key:List Int)(s n:Int)(a:Option Addr)(m g:Nat)(l:List Int)(w:D)(k:cI key)(hs:W8 s)(L:aZ n)(z:bD w a m g l)(hl:l.length<=60000000):
 Calls prog 172 #[ε (bY key),I Δ s,I U n,Y a m g] w λe h=>
  e=ξ (ε (bv (fV key s n l)).toArray)/\G w h N:=by
 have a0:(prog.info? 24).map (·.size)=E (bv key).length:=by rw[gy,k.1];exact mh
 have a2:=underlying24;have M:=z.2.1;subst M;obtain⟨b,c⟩:=í ((w.alloc (ο (bY key) 24)).alloc (ο #[I Δ 0,I Δ 0,I Δ 0,I Δ 0,I Δ 0,I Δ 0,I Δ 0,I Δ 0] 300));have i:G w b N:=by rw[c];exact aW (aW (au w _) _) _
 have d:b.heap.size=w.heap.size+2:=by rw[c];simp
 have p:b.heap[w.heap.size+1]?=E (ο #[I Δ 0,I Δ 0,I Δ 0,I Δ 0,I Δ 0,I Δ 0,I Δ 0,I Δ 0] 300 (0,0)):=by
  have:=aM (w.alloc (ο (bY key) 24)) (ο #[I Δ 0,I Δ 0,I Δ 0,I Δ 0,I Δ 0,I Δ 0,I Δ 0,I Δ 0] 300);rw[dJ]at this;rw[c];exact this
 have A:b.drew.rangeAt w.heap.size 0 (bv key)/\G b b.drew (E (w.heap.size+1)):=by
  refine⟨?_,aK (au _ _)⟩
  have:b.heap[w.heap.size]?=E (ο (bv key).toArray 24 (0,0)):=by rw[c,fE _ _ _ Γ];exact aM _ _
  exact mj (w:=b.drew) this
 have P:=J (D9 (z.ag i));have R:=J (λ(a:Option _)(n g:Nat)(l:List _)(W:D)=>DX _ a n g l W k);have S:=J (λW=>D8 s 2 n W hs (by unfold W8;omega) L);go_enter func172,ntmps172;go_wp2_with fail;rw[<-c];replace⟨i,d,p⟩:=cA i d p;clear c;go_region_held3 (λh=>h.rangeAt w.heap.size 0 (bv key)/\G b h (E (w.heap.size+1)))
  (with_reducible first|exact q|exact B|exact C|exact F|exact A|exact rG (rG (rG (rG (rG (rG (rG (rG q _ _) _ _) _ _) _ _) _ _) _ _) _ _) _ _)
  (first
    |(go_at_call 223;apply(Z S _).mono;rintro e T⟨a1,c1,rfl,r,f⟩;have F:=At A f;have V:=J ((Z P).ag f);have a4:w.heap.size+2<=T.heap.size:=(by have h1:=f.size;have t:=Z d;have u:b.drew.heap.size=b.heap.size:=rfl;omega);have ai:=J ((f.block (w.heap.size+1) (by have t:=Z d;have u:b.drew.heap.size=b.heap.size:=rfl;omega) Γ).trans (Z p)))
    |(refine uX Ξ _ _ Ξ _ _ _ Ξ r _ _ _ l Ξ (Z V) (by rw[pI];omega) f.size ?_;intro a3 c3 w3 H x _;have C:=Mh F r (aP _) (by have t:=Z d;have u:b.drew.heap.size=b.heap.size:=rfl;omega) x;have a8:=x.size;have ak:=J ((x.block _ O (λe=>by have h1:=(r.lt _ e.symm).1;have t:=Z d;have u:b.drew.heap.size=b.heap.size:=rfl;omega)).trans (Z ai)))
    |(go_at_call 222;refine(Z R _ _ _ (bh s 2 n++l) _ H.eV (by rw[bS,pI];omega)).mono ?_;rintro e w4⟨rfl,y⟩;have B:=At C y;have a9:=y.size;have al:=J ((y.block (w.heap.size+1) O Γ).trans (Z ak)))
    |(go_at_call 194;apply(yd _ _ (ye key _ k H.1)).mono;rintro e w5⟨rfl,K⟩;rw[tZ];have q:=At B K;have ao:=sw ((K.block (w.heap.size+1) O Γ).trans (Z al));let⟨⟨z0,z1,z2,z3,z4,z5,z6,z7⟩,zf⟩:=ao))
 go_wp2_with fail;refine cC (v:=ε _) ?_ Q ⟨Q,?_⟩
 .unfold fV;rw[tZ];simp[results,results172,go_sem, *]
 have ax:=nB (cO (cK (Z i) _) q.2 (λj e=>ψ Q)) O;iterate 8 (refine aD ?_ _ _ (φ (dw _)))
 exact ax
def SH(b:W8 p)(a:W8 q):x8 (x8 p q) q=p:=by
 have c:=Ar b a;have e:x8 p q=((p.toNat^^^q.toNat:Nat):Int):=by unfold x8;rw[u8_xor p q b.1 b.2 a.1 a.2]
 rw[e]at c⊢;unfold x8;rw[u8_xor _ q c.1 c.2 a.1 a.2,mf,Nat.xor_assoc,Nat.xor_self,Nat.xor_zero];have:=b.1;omega
def SI(key:List Int)(s n:Int)(i:Nat):W8 (lz key s n i):=vK _ _
def GM(key:List Int)(s n:Int)(l:List Int)(i:Nat)(h:i<l.length):(cV key s n l).getD i 0=x8 (l.getD i 0) (lz key s n i):=by
 simp[cV,ke,List.getD,h]
def SJ(key:List Int)(s n:Int)(l:List Int)(hl:∀x∈l,W8 x):cV key s n (cV key s n l)=l:=by
 apply List.ext_getElem;rw[nI,nI];intro i c a;have b:i<(cV key s n l).length:=by rw[nI];exact a
 have e1:=GM key s n (cV key s n l) i b;rw[GM key s n l i a,SH (mR hl i) (SI key s n i)]at e1;grind
def SK(h:aZ p):iu (eA p)=p:=by
 unfold aZ at h;simp only[iu,eA,aa,pd,List.foldl_nil,Nat.reduceMul,Nat.reduceSub,Int.reducePow]
 omega
def GN(h:aZ q):bu (dC L p q K)=q:=by
 unfold bu dC;rw[eF,List.take_left' (gF q)];exact SK h
def GO(key:List Int)(s n:Int)(l:List Int):bO (dC key s n l)=cV key s n l:=by
 unfold bO;rw[mu,dC,eF,List.drop_left' (gF n),oZ,List.take_left' (nI _ _ _ _)]
def SL(key:List Int)(s n:Int)(l:List Int):my (dC key s n l)=fV key s n (cV key s n l):=by
 unfold my;rw[mu,dC,List.drop_left' (by simp[gF,nI];omega)]
def SM(h:aZ q):dZ L p (dC L p q K)↔K.length+16<=300/\q<=4611686018427387903:=by
 unfold dZ;rw[GN h,GO,SL,mu];simp
