import Derived.Deep.QuietTactic
import Derived.Deep.RegionLaw
import Derived.Test.YtjnmokmchdfchaaGreatDoorX0
set_option maxRecDepth 1000000
set_option maxHeartbeats 0
set_option linter.all false
namespace Go.Proofs.YtjnmokmchdfchaaGreatDoor
open Go.RowKit Tryz
attribute[local go_sem↓]Go.wp_at_zero Go.wp_at_succ
variable{p q r t:Int}{K L:List Int}{b i j k m n o:Nat}{O a:Option Addr}{T:TypeId}{x y z:Value}{V W v w:World}
def Kc(k:Nat)(a:k<=63):bits .and .u64 (k:Int) 63=k:=by
 have:=u64_and_nat k 63 (by omega) (by omega);rw[show((63:Nat):Int)=63 from rfl]at this;rw[this,show(63:Nat)=2^6-1 from rfl,Nat.and_two_pow_sub_one_eq_mod];omega
def sI(x:Int)(k:Nat)(w:World)(b:aS x)(c:k<=63)(h0:0<k):Calls prog 306 #[.int .u64 x,.int .i64 k] w λe d=>e=.returned (.int .u64 (rotl x k))/\d=w:=by
 have f:=Kc k c;have a:=FO b k c h0;rw[Int.natCast_pow,Int.natCast_pow]at a;replace a:=J a;obtain⟨g,h⟩:=b;go_enter func306,ntmps306;go_wp2;go_ret;exact⟨fG (λz=>Ending.returned (.int .u64 z)) (Z a),rfl⟩
def St(B:Nat)(a b c d:Int)(w0 w:World):Prop:=w.heap[B]?=some (.cells #[.int .u64 a,.int .u64 b,.int .u64 c,.int .u64 d] 393 (0,0))/\w0.grownBy w (some B)
def St.cells(h:St n p q r t W w):(w.cell? ⟨n,0,none⟩=some (.int .u64 p)/\w.cell? ⟨n,1,none⟩=some (.int .u64 q)/\w.cell? ⟨n,2,none⟩=some (.int .u64 r)/\w.cell? ⟨n,3,none⟩=some (.int .u64 t))/\(∀o,w.frozen? ⟨n,o,none⟩=false):=by
 obtain⟨h,_⟩:=h;simp[World.cell?,World.frozen?,h]
def St.drew(h:St n p q r t W w):St n p q r t W w.drew:=⟨h.1,aV h.2⟩
def St.s0(h:St n p q r t W w)(x:Int):St n x q r t W (w.setCell ⟨n,0,none⟩ (.int .u64 x)):=⟨heap_set h.1 _,aK h.2 _ _ (.inr rfl)⟩
def St.s1(h:St n p q r t W w)(x:Int):St n p x r t W (w.setCell ⟨n,1,none⟩ (.int .u64 x)):=⟨heap_set h.1 _,aK h.2 _ _ (.inr rfl)⟩
def St.s2(h:St n p q r t W w)(x:Int):St n p q x t W (w.setCell ⟨n,2,none⟩ (.int .u64 x)):=⟨heap_set h.1 _,aK h.2 _ _ (.inr rfl)⟩
def St.s3(h:St n p q r t W w)(x:Int):St n p q r x W (w.setCell ⟨n,3,none⟩ (.int .u64 x)):=⟨heap_set h.1 _,aK h.2 _ _ (.inr rfl)⟩
def nt(B:Nat)(s:S4)(w0 w:World):Prop:=St B s.a s.b s.c s.d w0 w
def Kd(B:Nat)(a b c d:Int)(w0 w:World)(h:St B a b c d w0 w)(I:aS b)(K:aS d):Calls prog 304 #[.pointer (some ⟨B,0,none⟩)] w λe n=>e=.returned (.tuple #[])/\nt B (oP ⟨a,b,c,d⟩) w0 n:=by
 have f:=h;obtain⟨⟨h0,g,i,j⟩,k⟩:=h.cells;clear h;go_enter func304,ntmps304;go_upto_region 0 with fail;go_cut [] (λwx=>St B (IntKind.u64.wrap (a+b)) b c d w0 wx);case first=>
  go_region;all_goals
   go_wp2
   go_meet
   exact(f.s0 _).drew
 case rest=>
  clear h0 g i j k f;obtain⟨p,t⟩:=exq (IntKind.u64.wrap (a+b));rw[<-t]at hcut;have G:aS p:=by rw[t];exact oO _ _
  replace t:=J t;have f:=hcut;obtain⟨⟨h0,g,i,j⟩,k⟩:=hcut.cells;clear hcut;go_upto_region 1 with fail;go_cut [] (λwx=>St B p (bits .xor .u64 (rotl b 13) p) c d w0 wx);case first=>
   go_region_with (first|(go_at_call 306;apply(sI b 13 _ (by assumption) (by decide) (by decide)).mono;rintro e n⟨rfl,rfl⟩));all_goals
    go_wp2
    go_meet
    exact(f.s1 _).drew
  case rest=>
   clear h0 g i j k f;obtain⟨l,u⟩:=exq (bits .xor .u64 (rotl b 13) p);rw[<-u]at hcut;have L:aS l:=by rw[u];exact jt (oN I 13) G
   replace u:=J u;have f:=hcut;obtain⟨⟨h0,g,i,j⟩,k⟩:=hcut.cells;clear hcut;go_upto_region 2 with fail;go_cut [] (λwx=>St B (rotl p 32) l c d w0 wx);case first=>
    go_region_with (first|(go_at_call 306;apply(sI p 32 _ (by assumption) (by decide) (by decide)).mono;rintro e n⟨rfl,rfl⟩));all_goals
     go_wp2
     go_meet
     exact(f.s0 _).drew
   case rest=>
    clear h0 g i j k f;obtain⟨v,x⟩:=exq (rotl p 32);rw[<-x]at hcut;have Q:aS v:=by rw[x];exact oN G 32
    replace x:=J x;have f:=hcut;obtain⟨⟨h0,g,i,j⟩,k⟩:=hcut.cells;clear hcut;go_upto_region 3 with fail;go_cut [] (λwx=>St B v l (IntKind.u64.wrap (c+d)) d w0 wx);case first=>
     go_region;all_goals
      go_wp2
      go_meet
      exact(f.s2 _).drew
    case rest=>
     clear h0 g i j k f;obtain⟨m,y⟩:=exq (IntKind.u64.wrap (c+d));rw[<-y]at hcut;have M:aS m:=by rw[y];exact oO _ _
     replace y:=J y;have f:=hcut;obtain⟨⟨h0,g,i,j⟩,k⟩:=hcut.cells;clear hcut;go_upto_region 4 with fail;go_cut [] (λwx=>St B v l m (bits .xor .u64 (rotl d 16) m) w0 wx);case first=>
      go_region_with (first|(go_at_call 306;apply(sI d 16 _ (by assumption) (by decide) (by decide)).mono;rintro e n⟨rfl,rfl⟩));all_goals
       go_wp2
       go_meet
       exact(f.s3 _).drew
     case rest=>
      clear h0 g i j k f;obtain⟨q,z⟩:=exq (bits .xor .u64 (rotl d 16) m);rw[<-z]at hcut;have N:aS q:=by rw[z];exact jt (oN K 16) M
      replace z:=J z;have f:=hcut;obtain⟨⟨h0,g,i,j⟩,k⟩:=hcut.cells;clear hcut;go_upto_region 5 with fail;go_cut [] (λwx=>St B (IntKind.u64.wrap (v+q)) l m q w0 wx);case first=>
       go_region;all_goals
        go_wp2
        go_meet
        exact(f.s0 _).drew
      case rest=>
       clear h0 g i j k f;obtain⟨r,A⟩:=exq (IntKind.u64.wrap (v+q));rw[<-A]at hcut;have O:aS r:=by rw[A];exact oO _ _
       replace A:=J A;have f:=hcut;obtain⟨⟨h0,g,i,j⟩,k⟩:=hcut.cells;clear hcut;go_upto_region 6 with fail;go_cut [] (λwx=>St B r l m (bits .xor .u64 (rotl q 21) r) w0 wx);case first=>
        go_region_with (first|(go_at_call 306;apply(sI q 21 _ (by assumption) (by decide) (by decide)).mono;rintro e n⟨rfl,rfl⟩));all_goals
         go_wp2
         go_meet
         exact(f.s3 _).drew
       case rest=>
        clear h0 g i j k f;obtain⟨F,C⟩:=exq (bits .xor .u64 (rotl q 21) r);rw[<-C]at hcut;have R:aS F:=by rw[C];exact jt (oN N 21) O
        replace C:=J C;have f:=hcut;obtain⟨⟨h0,g,i,j⟩,k⟩:=hcut.cells;clear hcut;go_upto_region 7 with fail;go_cut [] (λwx=>St B r l (IntKind.u64.wrap (m+l)) F w0 wx);case first=>
         go_region;all_goals
          go_wp2
          go_meet
          exact(f.s2 _).drew
        case rest=>
         clear h0 g i j k f;obtain⟨s,D⟩:=exq (IntKind.u64.wrap (m+l));rw[<-D]at hcut;have P:aS s:=by rw[D];exact oO _ _
         replace D:=J D;have f:=hcut;obtain⟨⟨h0,g,i,j⟩,k⟩:=hcut.cells;clear hcut;go_upto_region 8 with fail;go_cut [] (λwx=>St B r (bits .xor .u64 (rotl l 17) s) s F w0 wx);case first=>
          go_region_with (first|(go_at_call 306;apply(sI l 17 _ (by assumption) (by decide) (by decide)).mono;rintro e n⟨rfl,rfl⟩));all_goals
           go_wp2
           go_meet
           exact(f.s1 _).drew
         case rest=>
          clear h0 g i j k f;obtain⟨H,E⟩:=exq (bits .xor .u64 (rotl l 17) s);rw[<-E]at hcut;have S:aS H:=by rw[E];exact jt (oN L 17) P
          replace E:=J E;have f:=hcut;obtain⟨⟨h0,g,i,j⟩,k⟩:=hcut.cells;clear hcut;go_upto_region 9 with fail;go_region_with (first|(go_at_call 306;apply(sI s 32 _ (by assumption) (by decide) (by decide)).mono;rintro e n⟨rfl,rfl⟩));all_goals
           go_end0
           refine⟨rfl,?_⟩
           have e:oP ⟨a,b,c,d⟩=⟨r,H,rotl s 32,F⟩:=by
            obtain rfl:=Z t;obtain rfl:=Z u;obtain rfl:=Z x;obtain rfl:=Z y;obtain rfl:=Z z;obtain rfl:=Z A;obtain rfl:=Z C;obtain rfl:=Z D;obtain rfl:=Z E;rfl
           rw[e];exact(f.s2 _).drew
def mf(s:S4):Nat->S4
 |0=>s
 |k+1=>oP (mf s k)
def Ke{s:S4}(h:s.ok)(k:Nat):(mf s k).ok:=by
 induction k with
 |zero=>exact h
 |succ k a=>exact rh a
def CA(B n:Nat)(s:S4)(w0 w:World)(h:nt B s w0 w)(hs:s.ok)(f:n<=100):Calls prog 294 #[.pointer (some ⟨B,0,none⟩),.int .i64 n] w λe a=>e=.returned (.tuple #[])/\nt B (mf s n) w0 a:=by
 go_enter func294,ntmps294;go_wp2;go_loopw [5] (λi wr=>∃k:Nat,k<=n/\i=.int .i64 k/\nt B (mf s k) w0 wr) (λi _=>n-(intOf i).toNat);case atStart=>exact⟨0,by omega,rfl,h⟩
 case round=>
  obtain⟨k,g,rfl,b⟩:=hrel;have c:=Ke hs k;by_cases j:k<n
  ·go_wp2_with (first|(go_at_call 304;apply(Kd B _ _ _ _ w0 _ b c.2.1 c.2.2.2).mono;rintro e a⟨rfl,d⟩));go_roundw;case rel=>exact⟨k+1,by omega,by go_num,d⟩
   case measure=>simp[intOf];omega
  obtain rfl:k=n:=by omega
  go_wp2;go_end0;exact⟨rfl,b⟩
def CB(B:Nat)(s:S4)(m:Int)(w0 w:World)(h:nt B s w0 w)(hs:s.ok)(x:aS m):Calls prog 261 #[.pointer (some ⟨B,0,none⟩),.int .u64 m] w λe j=>e=.returned (.tuple #[])/\nt B (rY s m) w0 j:=by
 obtain⟨a,b,c,d⟩:=s;have f:St B a b c d w0 w:=h;obtain⟨⟨h0,k,l,n⟩,p⟩:=h.cells;clear h;go_enter func261,ntmps261;go_upto_region 0 with fail;go_cut [] (λwx=>nt B ⟨a,b,c,xo d m⟩ w0 wx);case first=>
  go_region;all_goals
   go_wp2
   go_meet
   exact(f.s3 _).drew
 case rest=>
  clear h0 k l n p f;have y:(S4.mk a b c (xo d m)).ok:=⟨hs.1,hs.2.1,hs.2.2.1,jt hs.2.2.2 x⟩
  go_wp2_with (first|(go_at_call 294;apply(CA B 2 _ w0 _ hcut y (by decide)).mono;rintro e j⟨rfl,g⟩));obtain⟨t,i⟩:=exq (mf ⟨a,b,c,xo d m⟩ 2);rw[<-i]at g;obtain⟨q,r,u,v⟩:=t;have z:Hid (rY ⟨a,b,c,d⟩ m=⟨xo q m,r,u,v⟩):=by
   show S4.mk (xo (mf ⟨a,b,c,xo d m⟩ 2).a m) (mf ⟨a,b,c,xo d m⟩ 2).b (mf ⟨a,b,c,xo d m⟩ 2).c (mf ⟨a,b,c,xo d m⟩ 2).d=_;rw[<-i]
  clear i;have f:St B q r u v w0 _:=g;obtain⟨⟨h0,k,l,n⟩,p⟩:=f.cells;clear hcut g;go_region;all_goals
   go_end0
   refine⟨rfl,?_⟩
   rw[Z z]
   exact(f.s0 _).drew
def Kf(B:Nat)(s:S4)(w0 w:World)(h:nt B s w0 w)(hs:s.ok):Calls prog 263 #[.pointer (some ⟨B,0,none⟩)] w λe j=>e=.returned (.int .u64 (tJ s))/\w0.grownBy j (some B):=by
 obtain⟨a,b,c,d⟩:=s;have f:St B a b c d w0 w:=h;obtain⟨⟨h0,k,l,m⟩,n⟩:=h.cells;clear h;go_enter func263,ntmps263;go_upto_region 1 with fail;go_cut [] (λwx=>nt B ⟨a,b,xo c 255,d⟩ w0 wx);case first=>
  go_region;all_goals
   go_wp2
   go_meet
   exact(f.s2 _).drew
 case rest=>
  clear h0 k l m n f;have v:(S4.mk a b (xo c 255) d).ok:=⟨hs.1,hs.2.1,jt hs.2.2.1 (by unfold aS;omega),hs.2.2.2⟩
  go_wp2_with (first|(go_at_call 294;apply(CA B 4 _ w0 _ hcut v (by decide)).mono;rintro e j⟨rfl,g⟩));obtain⟨t,i⟩:=exq (mf ⟨a,b,xo c 255,d⟩ 4);rw[<-i]at g;obtain⟨p,q,r,u⟩:=t;have x:Hid (tJ ⟨a,b,c,d⟩=xo (xo (xo p q) r) u):=by
   show xo (xo (xo (mf ⟨a,b,xo c 255,d⟩ 4).a (mf ⟨a,b,xo c 255,d⟩ 4).b) (mf ⟨a,b,xo c 255,d⟩ 4).c) (mf ⟨a,b,xo c 255,d⟩ 4).d=_;rw[<-i]
  clear i;have f:St B p q r u w0 _:=g;obtain⟨⟨h0,k,l,m⟩,n⟩:=f.cells;clear hcut g;go_quiet (fail);go_wp2;go_ret;exact⟨by rw[Z x];rfl,dy f.2 _⟩
def cO(key:List Int):Array Value:=(bv key).toArray
def dD(key:List Int):Prop:=key.length=16/\∀x∈key,W8 x
def pX(h:dD L):(cO L).size=16:=by simp[cO,bv,h.1]
def uq{fr:Nat×Nat}(h:w.heap[b]?=some (.cells (bv L).toArray T fr))(hl:∀x∈L,W8 x)(o:Nat):BS w b o (L.drop o):=by
 refine⟨λi hi=>?_,λx a=>hl x (iN a)⟩
 rw[dM]at hi;have:=tK L (o+i) (by omega);simp only[World.cell?,h]
 simpa [kR]using this
def BS.take(h:BS w b o L)(n:Nat):BS w b o (L.take n):=by
 refine⟨λi hi=>?_,λx a=>h.2 x (jc a)⟩
 rw[ct]at hi;rw[h.1 i (by omega)];simp[show i<n by omega]
def BS.drop(h:BS w b o L)(n:Nat):BS w b (o+n) (L.drop n):=by
 refine⟨λi hi=>?_,λx a=>h.2 x (iN a)⟩
 rw[dM]at hi;have:=h.1 (n+i) (by omega);rw[show o+n+i=o+(n+i) by omega,this];simp[kR]
def yY(s:S4)(k:Nat)(l:List Int):mu s (k+1) l=mu (rY s (im (l.take 8))) k (l.drop 8):=by rw[mu]
def CC(s:S4)(l:List Int):mu s 0 l=s:=by rw[mu]
def yZ(s:S4)(k:Nat)(l:List Int):mu s (k+1) l=rY (mu s k l) (im ((l.drop (8*k)).take 8)):=by
 induction k generalizing s l with
 |zero=>rw[yY,CC,CC,Nat.mul_zero,qw]
 |succ k a=>
  rw[yY,a,tz,yY s k l];rw[show 8+8*k=8*(k+1) by omega]
def uu(h:∀x∈L,W8 x)(hl:L.length<=8:=by omega):aS (im L):=by
 have a:=xU L h;have b:=Au L.length hl;exact⟨a.1,by omega⟩
def CD(h:dD L):(gS L).ok:=by
 have b:aS (im (L.take 8)):=uu (λx a=>h.2 x (jc a)) (by simp[h.1]);have c:aS (im (L.drop 8)):=uu (λx a=>h.2 x (iN a)) (by simp[h.1]);exact⟨jt b (by unfold aS;omega),jt c (by unfold aS;omega),jt b (by unfold aS;omega),jt c (by unfold aS;omega)⟩
def wC{s:S4}(h:s.ok)(hl:∀x∈L,W8 x)(k:Nat):(mu s k L).ok:=by
 induction k with
 |zero=>exact h
 |succ k a=>rw[yZ];exact FP a (uu (λx b=>hl x (iN (jc b))) (by simp;omega))
def CE(hl:∀x∈L,W8 x)(n:Int):∀x∈pD L n,W8 x:=by
 intro x a;simp only[pD,bQ,List.mem_replicate,cL]at a;obtain(a|⟨_,rfl⟩)|rfl:=a
 exact hl x a;unfold W8;omega;unfold W8;omega
def CF:Value->Nat|.slice _ n _=>n|_=>0
def Kg(key:List Int)(w:World)(i:dD key):Calls prog 260 #[.agg (cO key)] w λe g=>
 e=.returned (.agg #[.int .u64 (gS key).a,.int .u64 (gS key).b,.int .u64 (gS key).c,.int .u64 (gS key).d])/\w.grownBy g none:=by
 have n:=pX i;obtain⟨j,k⟩:=i;have l:(w.alloc (.cells (cO key) 24)).heap[w.heap.size]?=some (.cells (cO key) 24 (0,0)):=aO w _;have b1:∀W:World,W.heap[w.heap.size]?=some (.cells (cO key) 24 (0,0))->BS W w.heap.size 0 (key.take 8):=λW h=>by
  have:=(uq h k 0).take 8;rwa[qw]at this
 have b2:∀W:World,W.heap[w.heap.size]?=some (.cells (cO key) 24 (0,0))->BS W w.heap.size 8 (key.drop 8):=λW h=>uq h k 8
 have f:(((w.alloc (.cells (cO key) 24)).alloc (.cells #[.int .u64 0,.int .u64 0,.int .u64 0,.int .u64 0] 393))).heap[w.heap.size]?=some (.cells (cO key) 24 (0,0)):=by
  rw[fE _ _ _ (by simp)];exact l
 obtain⟨K,m⟩:=exq (cO key);rw[<-m]at n b1 b2 f⊢;clear l m;replace⟨f,b1,b2⟩:=cg f b1 b2;go_enter func260,ntmps260;go_wp2_with fail;go_region_with (first
  |(go_at_call_of 262 (Value.slice (some ⟨w.heap.size,0,none⟩) 8 16);refine(vA _ _ _ (key.take 8) _ ?_ (by simp[j]) (by decide)).mono ?_;exact Z b1 _ (Z f);rintro e g⟨rfl,rfl⟩)
  |(go_at_call_of 262 (Value.slice (some ⟨w.heap.size,8,none⟩) 8 8);refine(vA _ _ _ (key.drop 8) _ ?_ (by simp[j]) (by decide)).mono ?_;exact Z b2 _ (Z f);rintro e g⟨rfl,rfl⟩))
 all_goals
  go_wp2
  refine cF (v:=.agg #[.int .u64 (gS key).a,.int .u64 (gS key).b,.int .u64 (gS key).c,.int .u64 (gS key).d]) ?_ rfl ⟨rfl,?_⟩
  ·simp[results,results260,go_sem,gS,xo]
  first|exact aV (aY (aY (aB _ _) _) _)|exact aY (aY (aB _ _) _) _
def Kh(l:List Int)(n:Int)(k:Nat)(h:8*k+8<=l.length):((pD l n).drop (8*k)).take 8=(l.drop (8*k)).take 8:=by
 simp only[pD,fC]
 rw[List.drop_append_of_le_length (by omega),uX (by simp;omega)]
def Ki(l:List Int)(n:Int):((pD l n).drop (8*(l.length/8))).take 8=splice [0,0,0,0,0,0,0,n %256] 0 ((l.drop (8*(l.length/8))).take 8):=by
 have a:(l.drop (8*(l.length/8))).length=l.length %8:=by simp;omega
 simp only[pD,fC]
 rw[List.drop_append_of_le_length (by omega)];generalize l.drop (8*(l.length/8))=r at *;have b:r.length<8:=by omega
 rw[<-a];have e:r.take 8=r:=tL_;rw[e,splice,List.take_zero,jZ,dY];rw[lC (by simp;omega)];congr 1;obtain _|⟨_,_|⟨_,_|⟨_,_|⟨_,_|⟨_,_|⟨_,_|⟨_,_|⟨_,r⟩⟩⟩⟩⟩⟩⟩⟩:=r<;>first|rfl|(simp at b;omega)
def CG(a:∀x∈L,W8 x)(b:n=(L.drop 8).length)(c:n<=j)(d:j<=maxLen)(e:BS W k o L)(h:i=o+8\/(L.drop 8).length=0):bI W (some ⟨k,i,none⟩) n j (L.drop 8):=by
 refine⟨λx f=>a x (iN f),b,c,d,.inr ⟨k,i,rfl,?_⟩⟩
 obtain rfl|h:=h
 exact e.drop 8;rw[nM h];exact BS.nil _ _ _
def Kj(b:a=O)(c:n=m)(d:k=i):Value.slice a n k=.slice O m i:=by rw[b,c,d]
def CH(key:List Int)(a:Option Addr)(n cap:Nat)(l:List Int)(w:World)(z:dD key)(p:bI w a n cap l)(b6:l.length<=100000000):Calls prog 222 #[.agg (cO key),.slice a n cap] w λe w'=>
 e=.returned (.int .u64 (cZ key l))/\w.grownBy w' none:=by
 have ax:=pX z;have A:=λW=>Kg key W z
 have hK:dD key:=z;obtain⟨K,E⟩:=exq (cO key);rw[<-E];simp only[<-E]at A ax;clear E;replace A:=J A;have bj:n=l.length:=p.2.1;subst bj;go_enter func222,ntmps222;go_wp2_with (refine rj _ (by rfl) (by rfl) _ (by rfl) K ?_ ax ?_;exact aO _ _);apply(Z A _).mono;rintro e f⟨rfl,F⟩;go_wp2_with fail;obtain⟨r,t⟩:=exq ((f.alloc (.cells #[.int .u64 (gS key).a,.int .u64 (gS key).b,.int .u64 (gS key).c,.int .u64 (gS key).d] 393)).alloc (.cells #[.int .u8 0,.int .u8 0,.int .u8 0,.int .u8 0,.int .u8 0,.int .u8 0,.int .u8 0,.int .u8 ((l.length:Int) %256)] 299));have G:w.grownBy r none:=by rw[t];exact aY (aY (aq (aY (aB w none) _) F) _) _
 have br:nt f.heap.size (gS key) r r:=by
  refine⟨?_,aB _ _⟩
  rw[t,fE _ _ _ (by simp)];exact aO _ _
 have B:r.heap[f.heap.size+1]?=some (.cells (bv [0,0,0,0,0,0,0,(l.length:Int) %256]).toArray 299 (0,0)):=by
  have:=aO (f.alloc (.cells #[.int .u64 (gS key).a,.int .u64 (gS key).b,.int .u64 (gS key).c,.int .u64 (gS key).d] 393)) (.cells #[.int .u8 0,.int .u8 0,.int .u8 0,.int .u8 0,.int .u8 0,.int .u8 0,.int .u8 0,.int .u8 ((l.length:Int) %256)] 299);rw[dL]at this;rw[t];exact this
 have b7:w.heap.size<f.heap.size:=by have:=F.size;rw[dL]at this;omega
 have H:=p.an G;rw[<-t];clear t F;have I:=CD hK;have u:=CE p.1 (l.length:Int);have L:Hid (cZ key l=tJ (mu (gS key) (l.length/8+1) (pD l l.length))):=rfl;have C:=Kh l (l.length:Int);have s:=Ki l (l.length:Int);obtain⟨P,M⟩:=exq (pD l (l.length:Int));rw[<-M]at u L s;simp only[<-M]at C;replace⟨s,C⟩:=bA s C;clear M;obtain⟨q,hq⟩:=exq (l.length/8);rw[<-hq]at L s;have q1:8*q<=l.length:=by omega
 have q2:l.length<8*q+8:=by omega
 clear hq;replace⟨H,B⟩:=bA H B;have N:∀x,a=some x->l≠[]->x.block<w.heap.size:=λx e O=>by
  obtain⟨h,_⟩|⟨b,o,h,g⟩:=p.2.2.2.2
  rw[h]at e;cases e;rw[h]at e;cases e;exact g.lt O
 replace N:=J N;have ch:=p.2.2.1;have bt:=p.2.2.2.1;unfold maxLen at bt;go_loopw [1] (λv wr=>∃(k:Nat)(y:Option Addr),k<=q/\v=.slice y (l.length-8*k) (cap-8*k)/\bI r y (l.length-8*k) (cap-8*k) (l.drop (8*k))/\(∀x,y=some x->l.drop (8*k)≠[]->x.block<w.heap.size)/\nt f.heap.size (mu (gS key) k P) r wr) (λv _=>CF v);case atStart=>exact⟨0,a,by omega,rfl,by simpa using Z H,by simpa using Z N,br⟩
 case round=>
  obtain⟨k,y,z,rfl,Q,D,i⟩:=hrel;replace D:=J D;by_cases cj:k<q
  ·have O:l.drop (8*k)≠[]:=by intro e;have:=fG List.length e;simp at this;omega
   obtain⟨a0,-,cp,cv,h5⟩:=Q;obtain⟨rfl,h0⟩|⟨bb,o,rfl,g⟩:=h5
   omega;have a1:=Z D _ rfl O;have a2:BS wr bb o (l.drop (8*k)):=g.gb i.2 (by intro e;cases e;dsimp only at a1;omega);have m:=J (a2.take 8);have R:((l.drop (8*k)).take 8).length=8:=by simp;omega
   have S:=J (yZ (gS key) k P);have T:=wC I u k;have U:=uu (Z m).2;have bM:Hid (l.drop (8*(k+1))=(l.drop (8*k)).drop 8):=by
    show _=_;rw[tz];rfl
   replace g:=J g;clear a2;go_wp2_with fail;apply(vA _ _ _ _ _ (Z m) R (by omega)).mono;rintro e w4⟨rfl,rfl⟩;go_wp2_with fail;apply(CB _ _ _ _ _ i T U).mono;rintro e w5⟨rfl,b0⟩;go_wp2_with fail;all_goals go_roundw
   all_goals first
    |(show _<_;simp[CF];omega)
    |(refine⟨k+1,_,by omega,Kj rfl (by omega) (by omega),?_,?_,by rw[Z S,Z C k (by omega)];exact b0⟩<;>rw[Z bM]<;>skip)
   split;exact CG a0 (by simp;omega) (by omega) (by omega) (Z g) (.inr (by simp;omega));exact CG a0 (by simp;omega) (by omega) (by omega) (Z g) (.inl rfl);intro x e _;split at e<;>(cases e;exact a1)
  obtain rfl:k=q:=by omega
  have V:bI wr y (l.length-8*k) (cap-8*k) (l.drop (8*k)):=
   Q.gb i.2 (λj e=>by
    cases e;right;by_cases hl:l.drop (8*k)=[]
    exact .inl hl
    ·right;intro x e;have:=Z D x e hl;omega)
  have X:wr.heap[f.heap.size+1]?=some (.cells (bv [0,0,0,0,0,0,0,(l.length:Int) %256]).toArray 299 (0,0)):=(i.2.block _ (aZ.1 (Z B)).1 (by simp)).trans (Z B);replace⟨V,X⟩:=bA V X;have T:=wC I u k;clear Q;go_wp2_with (refine tL _ _ (by rfl) (by rfl) (f.heap.size+1) 0 8 8 (by rfl) _ _ _ (by rfl) (l.drop (8*k)) (Z V) [0,0,0,0,0,0,0,(l.length:Int) %256] _ (Z X) ?_ ?_;(simp;omega);intro Y al g6);have b3:nt f.heap.size (mu (gS key) k P) Y Y:=⟨(g6.block _ (aZ.1 i.1).1 (by simp)).trans i.1,aB _ _⟩
  have m:BS Y (f.heap.size+1) 0 ((P.drop (8*k)).take 8):=by
   have a4:∀x∈(P.drop (8*k)).take 8,W8 x:=λx hx=>u x (iN (jc hx))
   rw[Z s]at a4⊢;have:=uq al a4 0;rwa[qw]at this
  have R:((P.drop (8*k)).take 8).length=8:=by rw[Z s,length_splice]<;>simp<;>omega
  have S:=J (yZ (gS key) k P);have U:=uu m.2;replace⟨m,al⟩:=bA m al;go_wp2_with fail;apply(vA _ _ _ _ _ (Z m) R (by omega)).mono;rintro e w7⟨rfl,rfl⟩;go_wp2_with fail;apply(CB _ _ _ _ _ b3 T U).mono;rintro e w8⟨rfl,a8⟩;rw[<-Z S]at a8;go_wp2_with fail;apply(Kf _ _ _ _ a8 (wC I u _)).mono;rintro e w9⟨rfl,g9⟩;go_wp2;go_ret;refine⟨by rw[Z L];rfl,?_⟩
  have b1:Below w.heap.size w wr:=(xS G).grown i.2 G.size (λj e=>by cases e;omega);have b2:=b1.grown g6 b1.size (λj e=>by cases e;omega);exact tI (b2.grown g9 b2.size (λj e=>by cases e;omega))
def aa(n:Int)(i:Nat):Int:=n/2^(56-8*i) %256
def fQ(n:Int):List Int:=[aa n 0,aa n 1,aa n 2,aa n 3,aa n 4,aa n 5,aa n 6,aa n 7]
def y9(n:Int)(i:Nat):W8 (aa n i):=by unfold aa W8;omega
def pY(n:Int):∀x∈fQ n,W8 x:=by
 intro x a;simp only[fQ,fF,qX,py]at a;obtain rfl|rfl|rfl|rfl|rfl|rfl|rfl|rfl:=a<;>exact y9 _ _
def iK(n:Int):(fQ n).length=8:=rfl
def Kk(w:World)(l:List Int)(hl:∀x∈l,W8 x)(c:l.length<=1000)(a:Nat)(b:a<=w.heap.size):bn (w.alloc (.cells (bv l).toArray 5)) a (.slice (some ⟨w.heap.size,0,none⟩) l.length l.length) l:=by
 refine⟨hl,by simp[bv],.inr ⟨w.heap.size,l.length,(bv l).toArray,rfl,b,aO w _,aR _,by simp[maxLen];omega,by simp[bv],?_⟩⟩
 exact lC (by simp[bv])
def sJ(n:Int):(bv (fQ n)).toArray= #[.int .u8 (aa n 0),.int .u8 (aa n 1),.int .u8 (aa n 2),.int .u8 (aa n 3),.int .u8 (aa n 4),.int .u8 (aa n 5),.int .u8 (aa n 6),.int .u8 (aa n 7)]:=rfl
def sK:Array Value:= #[.int .u8 0,.int .u8 0,.int .u8 0,.int .u8 0,.int .u8 0,.int .u8 0,.int .u8 0,.int .u8 0]
def wD(n:Int)(w:World)(a:aS n):Calls prog 194 #[.int .u64 n] w λe b=>e=.returned (.agg (bv (fQ n)).toArray)/\w.grownBy b none:=by
 obtain⟨n0,c⟩:=a;rw[sJ];go_enter func194,ntmps194;go_wp2_with fail;refine tw 9 ?_;iterate 8 (rw[qy];go_wp2_with fail)
 rw[qy];go_wp2_with fail;refine cF (v:=.agg #[.int .u8 (aa n 0),.int .u8 (aa n 1),.int .u8 (aa n 2),.int .u8 (aa n 3),.int .u8 (aa n 4),.int .u8 (aa n 5),.int .u8 (aa n 6),.int .u8 (aa n 7)]) ?_ rfl ⟨rfl,?_⟩
 ·simp[results,results194,go_sem,aa];omega
 exact aY (aY (aB _ _) _) _
def rC{a c d e f:Value}(h:w.heap[b]?=some (.cells #[x,y,z,a,c,d,e,f] T (0,0))):(w.cell? ⟨b,0,none⟩=some x/\w.cell? ⟨b,1,none⟩=some y/\w.cell? ⟨b,2,none⟩=some z/\w.cell? ⟨b,3,none⟩=some a/\w.cell? ⟨b,4,none⟩=some c/\w.cell? ⟨b,5,none⟩=some d/\w.cell? ⟨b,6,none⟩=some e/\w.cell? ⟨b,7,none⟩=some f)/\∀o,w.frozen? ⟨b,o,none⟩=false:=by
 simp[World.cell?,World.frozen?,h]
def zd(h:L.length=8):∃a b c d e f g i,L=[a,b,c,d,e,f,g,i]:=by
 match L,h with
 |[a,b,c,d,e,f,g,i],_=>exact⟨a,b,c,d,e,f,g,i,rfl⟩
def Kl(a:((w.alloc (.cells #[.int .u8 0,.int .u8 0,.int .u8 0,.int .u8 0,.int .u8 0,.int .u8 0,.int .u8 0,.int .u8 0] 300)).alloc (.cells #[.int .u8 0,.int .u8 0,.int .u8 0,.int .u8 0,.int .u8 0,.int .u8 0,.int .u8 0,.int .u8 0] 300)).grownBy W (some (w.heap.size+1))):
 W.heap[w.heap.size]?=some (.cells #[.int .u8 0,.int .u8 0,.int .u8 0,.int .u8 0,.int .u8 0,.int .u8 0,.int .u8 0,.int .u8 0] 300 (0,0)):=by
 refine(a.block w.heap.size (by simp;omega) (by simp)).trans ?_;rw[fE _ _ _ (by simp)];exact aO _ _
def CI(a:Option Addr)(n c:Nat)(l:List Int)(w:World)(y:bI w a n c l)(hl:8<=l.length):Calls prog 170 #[.slice a n c] w λe z=>e=.returned (.agg (bv (l.take 8)).toArray)/\w.grownBy z none:=by
 have A:=J (y.an (aY (aY (aB w none) (.cells sK 300)) (.cells sK 300)));have f:=aO (w.alloc (.cells sK 300)) (.cells sK 300);rw[dL]at f;have g:((w.alloc (.cells sK 300)).alloc (.cells sK 300)).heap[w.heap.size+1]?=some (.cells (bv [0,0,0,0,0,0,0,0]).toArray 300 (0,0)):=f;replace g:=J g;clear f;have h:(l.take 8).length=8:=by simp;omega
 obtain⟨i,k,m,p,q,r,s,t,b⟩:=zd h;rw[b];clear h;replace b:=J b;go_enter func170,ntmps170;go_wp2_with (refine tL _ _ (by rfl) (by rfl) (w.heap.size+1) 0 8 8 (by rfl) _ _ _ (by rfl) l (Z A) [0,0,0,0,0,0,0,0] _ (Z g) ?_ ?_;(rw[Z b];simp);(rw[Z b];intro u d x;replace d:u.heap[w.heap.size+1]?=some (.cells #[.int .u8 i,.int .u8 k,.int .u8 m,.int .u8 p,.int .u8 q,.int .u8 r,.int .u8 s,.int .u8 t] 300 (0,0)):=d;replace d:=rC d;have B:=rC (Kl x);obtain⟨⟨D,E,F,k3,k4,k5,G,H⟩,I⟩:=d;obtain⟨⟨K,L,z2,M,N,O,P,Q⟩,R⟩:=B));refine cF (v:=.agg #[.int .u8 i,.int .u8 k,.int .u8 m,.int .u8 p,.int .u8 q,.int .u8 r,.int .u8 s,.int .u8 t]) ?_ rfl ⟨rfl,?_⟩
 ·simp[results,results170,go_sem, *]
 have C:w.grownBy u none:=cJ (aY (aY (aB w none) _) _) x (λj e=>by cases e;left;omega);repeat(refine aK ?_ _ _ (.inl (aR _)))
 exact C
def lh(l:List Int):Int:=l.foldl (λn x=>n*256+x) 0
def Km(l:List Int)(x:Int):lh (l++[x])=lh l*256+x:=by simp[lh]
def CJ(l:List Int)(j:Nat)(h:j<l.length):lh (l.take (j+1))=lh (l.take j)*256+l.getD j 0:=by
 rw[rP h,Km,ql,eI h];rfl
def uv(l:List Int)(h:∀x∈l,W8 x):∀j,j<=l.length->0<=lh (l.take j)/\lh (l.take j)<256^j
 |0,_=>by simp[lh]
 |j+1,b=>by
  have c:=uv l h j (by omega);have a:=qz h j;unfold W8 at a;rw[CJ l j (by omega),Int.pow_succ];generalize (256:Int)^j=p at *;omega
def Kn(n x:Int)(h0:0<=n)(d:n<72057594037927936)(a:W8 x):bits .or .u64 (n*256) x=n*256+x:=by
 obtain⟨c,f⟩:=a;obtain⟨m,rfl⟩:=qp h0;obtain⟨y,rfl⟩:=qp c;have e:((m:Int)*256)=((m*256:Nat):Int):=by omega
 rw[e,u64_or_nat _ _ (by omega) (by omega)];have:=xL (i:=8) (b:=y) (by omega) m;rw[Nat.shiftLeft_eq]at this;rw[show m*256=m*2^8 from rfl,<-this];omega
def Ko(a b c d e f g h:Int)(w:World):(Instr.index 300 (.agg #[.int .u8 a,.int .u8 b,.int .u8 c,.int .u8 d,.int .u8 e,.int .u8 f,.int .u8 g,.int .u8 h]) (.int .i64 0)).run prog w=.ok (.int .u8 a) w:=by kernel_rfl
def Kq(b a c d e f g h:Int)(w:World):(Instr.index 300 (.agg #[.int .u8 b,.int .u8 a,.int .u8 c,.int .u8 d,.int .u8 e,.int .u8 f,.int .u8 g,.int .u8 h]) (.int .i64 1)).run prog w=.ok (.int .u8 a) w:=by kernel_rfl
def Kr(b c a d e f g h:Int)(w:World):(Instr.index 300 (.agg #[.int .u8 b,.int .u8 c,.int .u8 a,.int .u8 d,.int .u8 e,.int .u8 f,.int .u8 g,.int .u8 h]) (.int .i64 2)).run prog w=.ok (.int .u8 a) w:=by kernel_rfl
def Ks(b c d a e f g h:Int)(w:World):(Instr.index 300 (.agg #[.int .u8 b,.int .u8 c,.int .u8 d,.int .u8 a,.int .u8 e,.int .u8 f,.int .u8 g,.int .u8 h]) (.int .i64 3)).run prog w=.ok (.int .u8 a) w:=by kernel_rfl
def Ku(b c d e a f g h:Int)(w:World):(Instr.index 300 (.agg #[.int .u8 b,.int .u8 c,.int .u8 d,.int .u8 e,.int .u8 a,.int .u8 f,.int .u8 g,.int .u8 h]) (.int .i64 4)).run prog w=.ok (.int .u8 a) w:=by kernel_rfl
def Kv(b c d e f a g h:Int)(w:World):(Instr.index 300 (.agg #[.int .u8 b,.int .u8 c,.int .u8 d,.int .u8 e,.int .u8 f,.int .u8 a,.int .u8 g,.int .u8 h]) (.int .i64 5)).run prog w=.ok (.int .u8 a) w:=by kernel_rfl
def Kw(b c d e f g a h:Int)(w:World):(Instr.index 300 (.agg #[.int .u8 b,.int .u8 c,.int .u8 d,.int .u8 e,.int .u8 f,.int .u8 g,.int .u8 a,.int .u8 h]) (.int .i64 6)).run prog w=.ok (.int .u8 a) w:=by kernel_rfl
def Kx(b c d e f g h a:Int)(w:World):(Instr.index 300 (.agg #[.int .u8 b,.int .u8 c,.int .u8 d,.int .u8 e,.int .u8 f,.int .u8 g,.int .u8 h,.int .u8 a]) (.int .i64 7)).run prog w=.ok (.int .u8 a) w:=by kernel_rfl
def CK(a b c d e f g h:Int)(j:Nat)(i:j<8)(w:World):(Instr.index 300 (.agg #[.int .u8 a,.int .u8 b,.int .u8 c,.int .u8 d,.int .u8 e,.int .u8 f,.int .u8 g,.int .u8 h]) (.int .i64 j)).run prog w=.ok (.int .u8 ([a,b,c,d,e,f,g,h].getD j 0)) w:=by
 have:j=0\/j=1\/j=2\/j=3\/j=4\/j=5\/j=6\/j=7:=by omega
 obtain rfl|rfl|rfl|rfl|rfl|rfl|rfl|rfl:=this
 exact Ko _ _ _ _ _ _ _ _ w;exact Kq _ _ _ _ _ _ _ _ w;exact Kr _ _ _ _ _ _ _ _ w;exact Ks _ _ _ _ _ _ _ _ w;exact Ku _ _ _ _ _ _ _ _ w;exact Kv _ _ _ _ _ _ _ _ w;exact Kw _ _ _ _ _ _ _ _ w;exact Kx _ _ _ _ _ _ _ _ w
def Ky(l:List Int)(w:World)(g:l.length=8)(h:∀x∈l,W8 x):Calls prog 171 #[.agg (bv l).toArray] w λe s=>e=.returned (.int .u64 (lh l))/\w.grownBy s none:=by
 have hi:∀(j:Nat)(w:World),j<8->(Instr.index 300 (.agg (bv l).toArray) (.int .i64 j)).run prog w=.ok (.int .u8 (l.getD j 0)) w:=by
  obtain⟨t,u,z,A,B,C,D,E,rfl⟩:=zd g;exact λj w k=>CK _ _ _ _ _ _ _ _ j k w
 have a:=uv l h;have b:=CJ l;have c:lh l=lh (l.take 8):=by rw[tL_]
 have d:=qz h;have p:(bv l).toArray.size=8:=by simp[bv,g]
 obtain⟨K,f⟩:=exq ((bv l).toArray);rw[<-f]at p⊢;simp only[<-f]at hi;clear f;replace⟨c,b,a,d,hi⟩:=eR c b a d hi;go_enter func171,ntmps171;go_wp2_with (refine px (by rfl) 300 _ (by rfl) w.heap.size (by rfl) 300 K (0,0) _ ?_ underlying300 (by rfl) ?_ ?_;exact aO _ _;(rw[p];kernel_rfl));go_loop [3,7] (λn i=>∃j:Nat,j<=8/\i=.int .i64 j/\n=.int .u64 (lh (l.take j))) (λ_ i=>8-(intOf i).toNat);case atStart=>exact⟨0,by omega,rfl,rfl⟩
 case round=>
  obtain⟨j,k,rfl,rfl⟩:=hrel;by_cases v:j<8
  ·have F:=λW=>Z hi j W v
   have q:=Z d j;have r:=Z a j (by omega);have y:=J (Z b j (by omega));have hp:(256:Int)^j<=72057594037927936:=by
    have:(256:Nat)^j<=256^7:=xO (by decide) (by omega);have e:(256:Int)^j=((256^j:Nat):Int):=by simp
    rw[e];omega
   have ho:=J (Kn _ _ r.1 (by omega) q);obtain⟨t,u⟩:=q;obtain⟨G,m1⟩:=r;generalize l.getD j 0=x at *;generalize lh (l.take j)=m at *;go_wp2;go_round;case rel=>exact⟨j+1,by omega,by go_num,by rw[Z ho,<-Z y]⟩
   case measure=>simp[intOf];omega
  obtain rfl:j=8:=by omega
  go_wp2;go_ret;exact⟨by rw[Z c];rfl,aY (aB _ _) _⟩
def aE(s u n:Int):List Int:=s::u::fQ n
def lH(key:List Int)(s n:Int)(i:Nat):Int:=aa (cZ key (aE s 1 n++[((i/8:Nat):Int) %256])) (i %8)
def x8(a b:Int):Int:=bits .xor .u8 a b
def kj(key:List Int)(s n:Int)(l:List Int)(j:Nat):List Int:=(List.range j).map λi=>x8 (l.getD i 0) (lH key s n i)
def dT(key:List Int)(s n:Int)(l:List Int):List Int:=kj key s n l l.length
def iL(key:List Int)(s n:Int)(c:List Int):List Int:=fQ (cZ key (aE s 2 n++c))
def cK(key:List Int)(s n:Int)(l:List Int):List Int:=fQ n++dT key s n l++iL key s n (dT key s n l)
def Kz(key:List Int)(s n:Int)(l:List Int)(j:Nat):kj key s n l (j+1)=kj key s n l j++[x8 (l.getD j 0) (lH key s n j)]:=by simp[kj,vy]
def sL(key:List Int)(s n:Int)(l:List Int)(j:Nat):(kj key s n l j).length=j:=by simp[kj]
def CL(a:W8 p)(b:W8 q):W8 (x8 p q):=by
 unfold x8;rw[u8_xor p q a.1 a.2 b.1 b.2];have:=Nat.xor_lt_two_pow (n:=8) (x:=p.toNat) (y:=q.toNat) (by have:=a.2;have:=a.1;omega) (by have:=b.2;have:=b.1;omega);unfold W8;omega
def KA(hs:W8 p)(b:W8 q):∀x∈aE p q r,W8 x:=by
 intro x a;simp only[aE,fF]at a;obtain rfl|rfl|a:=a
 exact hs;exact b;exact pY r x a
def uw(s u n:Int):(aE s u n).length=10:=rfl
def CM(key l:List Int)(a:dD key)(hl:∀x∈l,W8 x):aS (cZ key l):=FQ (wC (CD a) (CE hl _) _)
def KB(w:World)(x y:Int)(b:W8 x)(c:W8 y):bn (w.alloc (.cells #[.int .u8 x,.int .u8 y] 5)) w.heap.size (.slice (some ⟨w.heap.size,0,none⟩) [x,y].length 2) [x,y]:=
 Kk w [x,y] (λz a=>by simp only[fF,qX,py]at a;obtain rfl|rfl:=a;exact b;exact c) (by simp) _ (aR _)
def bn.lower(o:bn w n x L)(h:k<=n):bn w k x L:=by
 refine⟨o.1,o.2.1,?_⟩
 obtain a|⟨g,cap,cur,e1,e2,b⟩:=o.2.2
 exact .inl a;exact .inr ⟨g,cap,cur,e1,by omega,b⟩
def nu(key:List Int)(s n:Int)(l:List Int):(dT key s n l).length=l.length:=sL _ _ _ _ _
def KC(key:List Int)(s n:Int)(l:List Int):(iL key s n l).length=8:=rfl
def nw(key:List Int)(s n:Int)(l:List Int):(cK key s n l).length=l.length+16:=by simp[cK,nu,KC,iK];omega
def bq(p:List Int):Int:=lh (p.take 8)
def bS(p:List Int):List Int:=(p.drop 8).take (p.length-16)
def qJ(p:List Int):List Int:=p.drop (p.length-8)
def KD(W:World):(sizeOf 5).run prog W=.ok 1 W:=by kernel_rfl
def CN:prog.elem 112=5:=by kernel_rfl
def KE(b o n c t:Nat)(h:t<=n)(d:t<c)(W:World):(Instr.slice 112 (.slice (some ⟨b,o,none⟩) n c) (some (.int .i64 t)) none none).run prog W=.ok (.slice (some ⟨b,o+t,none⟩) (n-t) (c-t)) W:=by
 have h0:(0:Int)<=t:=by omega
 have a:(t:Int)<=n:=by omega
 rw[run_slice_l W 112 (some ⟨b,o,none⟩) n c (by rw[CN];exact underlying112) .i64 (t:Int) h0 a,CN,KD];simp only[jd,sliced,nT,Nat.mul_one,rV]
 rw[iN_,Addr.add_lit]
def eC(key:List Int)(s:Int)(p:List Int):Prop:=16<=p.length/\p.length<=300/\iL key s (bq p) (bS p)=qJ p/\bq p<=4611686018427387903
def CO(s u n:Int)(w:World)(hs:W8 s)(k:W8 u)(l:aS n):Calls prog 223 #[.int .u8 s,.int .u8 u,.int .u64 n] w λe d=>
 ∃f g,e=.returned (.slice f 10 g)/\bn d w.heap.size (.slice f 10 g) (aE s u n)/\w.grownBy d none:=by
 go_enter func223,ntmps223;go_wp2_with fail;apply(wD n _ l).mono;rintro e a⟨rfl,h⟩;rw[sJ];have m:=h.size;have b:=KB (a.alloc (.cells (bv (fQ n)).toArray 300)) s u hs k;have i:=aO a (.cells (bv (fQ n)).toArray 300);have j:((a.alloc (.cells (bv (fQ n)).toArray 300)).alloc (.cells #[.int .u8 s,.int .u8 u] 5)).heap[a.heap.size]?=some (.cells (bv (fQ n)).toArray 300 (0,0)):=by
  rw[fE _ _ _ (by simp)];exact i
 have c:bI ((a.alloc (.cells (bv (fQ n)).toArray 300)).alloc (.cells #[.int .u8 s,.int .u8 u] 5)) (some ⟨a.heap.size,0,none⟩) 8 8 (fQ n):=by
  refine⟨pY n,rfl,by simp,by simp[maxLen],.inr ⟨_,_,rfl,?_⟩⟩
  have:=uq j (pY n) 0;rwa[qw]at this
 rw[dL]at b;rw[sJ]at b c;replace⟨b,c⟩:=bA b c;clear i j;go_wp2_with (at_builtin;refine rZ (by rfl) _ _ (by rfl) (a.heap.size+1) _ [s,u] (by rfl) (Z b) _ _ _ (fQ n) (by rfl) (Z c) ?_ ?_ ?_;(simp[iK]);(simp);intro p c3 v q r _);go_ret;refine⟨p,c3,rfl,q.lower (by omega),?_⟩
 have t:Below w.heap.size w a:=xS h;exact tI (Av ((t.alloc m _).alloc (by simp;omega) _) (Z b) r (by simp;omega))
def qK(h:W.rangeAt n 0 (bv L)/\w.grownBy W (some (n+1)))(o:Nat)(v:Value):(W.setCell ⟨n+1,o,none⟩ v).rangeAt n 0 (bv L)/\w.grownBy (W.setCell ⟨n+1,o,none⟩ v) (some (n+1)):=
 ⟨vG h.1 _ _ (by simp),aK h.2 _ _ (.inr rfl)⟩
def zh(h:W.rangeAt n 0 (bv L)/\w.grownBy W (some (n+1)))(g:W.grownBy v none):v.rangeAt n 0 (bv L)/\w.grownBy v (some (n+1)):=
 ⟨jh h.1 g (by simp),cJ h.2 g (λj e=>by cases e)⟩
def KF(h:W.rangeAt n 0 (bv L)/\w.grownBy W (some (n+1)))(o:bn W k x K)(a:w.heap.size<=k)(b:n<k)(g:W.grownBy V x.ownBlock):V.rangeAt n 0 (bv L)/\w.grownBy V (some (n+1)):=
 ⟨jh h.1 g (λe=>by have:=(o.lt _ e).1;omega),cJ h.2 g (λj e=>.inl (bD a (o.lt _ e).1))⟩
def CP(h:bI w a n k L):bI w.drew a n k L:=h.an (aV (aB w none))
def CQ(key:List Int)(s n:Int)(a:Option Addr)(m cap:Nat)(l:List Int)(w:World)(g:dD key)(hs:W8 s)(F:aS n)(k:bI w a m cap l)(hl:l.length<=60000000):
 Calls prog 172 #[.agg (cO key),.int .u8 s,.int .u64 n,.slice a m cap] w λe h=>
  e=.returned (.agg (bv (iL key s n l)).toArray)/\w.grownBy h none:=by
 have U:=pX g;have V:(prog.info? 24).map (·.size)=some (bv key).length:=by rw[fL,g.1];exact m8
 have X:=underlying24;have G:=k.2.1;subst G;obtain⟨b,c⟩:=exq ((w.alloc (.cells (cO key) 24)).alloc (.cells #[.int .u8 0,.int .u8 0,.int .u8 0,.int .u8 0,.int .u8 0,.int .u8 0,.int .u8 0,.int .u8 0] 300));have i:w.grownBy b none:=by rw[c];exact aY (aY (aB w none) _) _
 have d:b.heap.size=w.heap.size+2:=by rw[c];simp
 have p:b.heap[w.heap.size+1]?=some (.cells #[.int .u8 0,.int .u8 0,.int .u8 0,.int .u8 0,.int .u8 0,.int .u8 0,.int .u8 0,.int .u8 0] 300 (0,0)):=by
  have:=aO (w.alloc (.cells (cO key) 24)) (.cells #[.int .u8 0,.int .u8 0,.int .u8 0,.int .u8 0,.int .u8 0,.int .u8 0,.int .u8 0,.int .u8 0] 300);rw[dL]at this;rw[c];exact this
 have z:b.drew.rangeAt w.heap.size 0 (bv key)/\b.grownBy b.drew (some (w.heap.size+1)):=by
  refine⟨?_,aV (aB _ _)⟩
  have:b.heap[w.heap.size]?=some (.cells (bv key).toArray 24 (0,0)):=by rw[c,fE _ _ _ (by simp)];exact aO _ _
  exact kz (w:=b.drew) this
 have H:=J (CP (k.an i));have I:=J (λ(a:Option Addr)(n cap:Nat)(l:List Int)(W:World)=>CH key a n cap l W g);have K:=J (λW=>CO s 2 n W hs (by unfold W8;omega) F);clear k;go_enter func172,ntmps172;go_wp2_with fail;rw[<-c];replace⟨i,d,p⟩:=cg i d p;clear c;go_region_held3 (λh=>h.rangeAt w.heap.size 0 (bv key)/\b.grownBy h (some (w.heap.size+1)))
  (with_reducible first|exact q|exact A|exact B|exact C|exact z|exact qK (qK (qK (qK (qK (qK (qK (qK q _ _) _ _) _ _) _ _) _ _) _ _) _ _) _ _)
  (first
    |(go_at_call 223;apply(Z K _).mono;rintro e L⟨Y,c1,rfl,r,f⟩;have C:=zh z f;have M:=J ((Z H).an f);have al:w.heap.size+2<=L.heap.size:=(by have N:=f.size;have t:=Z d;have u:b.drew.heap.size=b.heap.size:=rfl;omega);have O:=J ((f.block (w.heap.size+1) (by have t:=Z d;have u:b.drew.heap.size=b.heap.size:=rfl;omega) (by simp)).trans (Z p)))
    |(refine vC (by rfl) _ _ (by rfl) b.drew.heap.size _ (aE s 2 n) (by rfl) r _ _ _ l (by rfl) (Z M) (by rw[uw];omega) f.size ?_;intro a3 c3 w3 D x _;have B:=KF C r (aR _) (by have t:=Z d;have u:b.drew.heap.size=b.heap.size:=rfl;omega) x;have a0:=x.size;have P:=J ((x.block (w.heap.size+1) (by omega) (λe=>by have N:=(r.lt _ e.symm).1;have t:=Z d;have u:b.drew.heap.size=b.heap.size:=rfl;omega)).trans (Z O)))
    |(go_at_call 222;refine(Z I _ _ _ (aE s 2 n++l) _ D.gT (by rw[bH,uw];omega)).mono ?_;rintro e w4⟨rfl,y⟩;have A:=zh B y;have a2:=y.size;have Q:=J ((y.block (w.heap.size+1) (by omega) (by simp)).trans (Z P)))
    |(go_at_call 194;apply(wD _ _ (CM key _ g D.1)).mono;rintro e R⟨rfl,E⟩;rw[sJ];have q:=zh A E;have S:=rC ((E.block (w.heap.size+1) (by omega) (by simp)).trans (Z Q));obtain⟨⟨z0,z1,z2,z3,z4,z5,z6,z7⟩,zf⟩:=S))
 go_wp2_with fail;refine cF (v:=.agg (bv (iL key s n l)).toArray) ?_ rfl ⟨rfl,?_⟩
 ·unfold iL;rw[sJ];simp[results,results172,go_sem, *]
 have T:w.grownBy R none:=pB (cJ (dd (Z i) (some (w.heap.size+1))) q.2 (λj e=>.inr rfl));iterate 8 (refine aK ?_ _ _ (.inl (bZ _)))
 exact T
def PI(b:W8 p)(a:W8 q):x8 (x8 p q) q=p:=by
 have c:=CL b a;have e:x8 p q=((p.toNat^^^q.toNat:Nat):Int):=by unfold x8;rw[u8_xor p q b.1 b.2 a.1 a.2]
 rw[e]at c⊢;unfold x8;rw[u8_xor _ q c.1 c.2 a.1 a.2,nT,Nat.xor_assoc,Nat.xor_self,Nat.xor_zero];have:=b.1;omega
def PJ(key:List Int)(s n:Int)(i:Nat):W8 (lH key s n i):=y9 _ _
def ET(key:List Int)(s n:Int)(l:List Int)(i:Nat)(h:i<l.length):(dT key s n l).getD i 0=x8 (l.getD i 0) (lH key s n i):=by
 simp[dT,kj,List.getD,h]
def zV(key:List Int)(s n:Int)(l:List Int)(hl:∀x∈l,W8 x):dT key s n (dT key s n l)=l:=by
 apply List.ext_getElem;rw[nu,nu];intro i b a;have c:i<(dT key s n l).length:=by rw[nu];exact a
 have e1:=ET key s n (dT key s n l) i c;rw[ET key s n l i a,PI (qz hl i) (PJ key s n i)]at e1;simpa [List.getD,b,a]using e1
def PK(h:aS p):lh (fQ p)=p:=by
 unfold aS at h;simp only[lh,fQ,aa,mq,List.foldl_nil,Nat.reduceMul,Nat.reduceSub,Int.reducePow]
 omega
def xC(h:aS q):bq (cK L p q K)=q:=by
 unfold bq cK;rw[fC,List.take_left' (iK q)];exact PK h
def xD(key:List Int)(s n:Int)(l:List Int):bS (cK key s n l)=dT key s n l:=by
 unfold bS;rw[nw,cK,fC,List.drop_left' (iK n),rT,List.take_left' (nu _ _ _ _)]
def PL(key:List Int)(s n:Int)(l:List Int):qJ (cK key s n l)=iL key s n (dT key s n l):=by
 unfold qJ;rw[nw,cK,List.drop_left' (by simp[iK,nu];omega)]
def zW(h:aS q):eC L p (cK L p q K)↔K.length+16<=300/\q<=4611686018427387903:=by
 unfold eC;rw[xC h,xD,PL,nw];simp
