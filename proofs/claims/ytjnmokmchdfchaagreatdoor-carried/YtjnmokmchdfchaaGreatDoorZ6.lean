import Derived.Deep.QuietTactic
import Derived.Deep.RegionLaw
import Derived.Test.YtjnmokmchdfchaaGreatDoorZ0
set_option maxRecDepth 1000000
set_option maxHeartbeats 8000000
set_option linter.all false
namespace Go.Proofs.YtjnmokmchdfchaaGreatDoor
open Go.RowKit Tryz
attribute[local go_sem↓]Go.wp_at_zero Go.wp_at_succ
variable{p q r t:Int}{K L:List Int}{b i j k m n o:Nat}{O a:Option Addr}{T:TypeId}{x y z:Value}{V W v w:World}
theorem JC(k:Nat)(a:k<=63):bits .and .u64 (k:Int) 63=k:=by
 have:=u64_and_nat k 63 (by omega) (by omega);rw[show((63:Nat):Int)=63 from rfl]at this;rw[this,show(63:Nat)=2^6-1 from rfl,Nat.and_two_pow_sub_one_eq_mod];omega
theorem sd(x:Int)(k:Nat)(w:World)(b:aV x)(c:k<=63)(h0:0<k):Calls prog 306 #[.int .u64 x,.int .i64 k] w λe d=>e=.returned (.int .u64 (rotl x k))/\d=w:=by
 have f:=JC k c;have a:=E5 b k c h0;rw[Int.natCast_pow,Int.natCast_pow]at a;replace a:=J a;obtain⟨g,h⟩:=b;go_enter func306,ntmps306;go_wp2;go_ret;exact⟨fm (λz=>Ending.returned (.int .u64 z)) (Z a),rfl⟩
def St(B:Nat)(a b c d:Int)(w0 w:World):Prop:=w.heap[B]?=some (.cells #[.int .u64 a,.int .u64 b,.int .u64 c,.int .u64 d] 393 (0,0))/\w0.grownBy w (some B)
theorem St.cells(h:St n p q r t W w):(w.cell? ⟨n,0,none⟩=some (.int .u64 p)/\w.cell? ⟨n,1,none⟩=some (.int .u64 q)/\w.cell? ⟨n,2,none⟩=some (.int .u64 r)/\w.cell? ⟨n,3,none⟩=some (.int .u64 t))/\(∀o,w.frozen? ⟨n,o,none⟩=false):=by
 obtain⟨h,_⟩:=h;simp[World.cell?,World.frozen?,h]
theorem St.drew(h:St n p q r t W w):St n p q r t W w.drew:=⟨h.1,aW h.2⟩
theorem St.s0(h:St n p q r t W w)(x:Int):St n x q r t W (w.setCell ⟨n,0,none⟩ (.int .u64 x)):=⟨heap_set h.1 _,aI h.2 _ _ (.inr rfl)⟩
theorem St.s1(h:St n p q r t W w)(x:Int):St n p x r t W (w.setCell ⟨n,1,none⟩ (.int .u64 x)):=⟨heap_set h.1 _,aI h.2 _ _ (.inr rfl)⟩
theorem St.s2(h:St n p q r t W w)(x:Int):St n p q x t W (w.setCell ⟨n,2,none⟩ (.int .u64 x)):=⟨heap_set h.1 _,aI h.2 _ _ (.inr rfl)⟩
theorem St.s3(h:St n p q r t W w)(x:Int):St n p q r x W (w.setCell ⟨n,3,none⟩ (.int .u64 x)):=⟨heap_set h.1 _,aI h.2 _ _ (.inr rfl)⟩
def nd(B:Nat)(s:S4)(w0 w:World):Prop:=St B s.a s.b s.c s.d w0 w
theorem JD(B:Nat)(a b c d:Int)(w0 w:World)(h:St B a b c d w0 w)(I:aV b)(K:aV d):Calls prog 304 #[.pointer (some ⟨B,0,none⟩)] w λe n=>e=.returned (.tuple #[])/\nd B (oC ⟨a,b,c,d⟩) w0 n:=by
 have f:=h;obtain⟨⟨h0,g,i,j⟩,k⟩:=h.cells;clear h;go_enter func304,ntmps304;go_upto_region 0 with fail;go_cut [] (λwx=>St B (IntKind.u64.wrap (a+b)) b c d w0 wx);case first=>
  go_region;all_goals
   go_wp2_with fail
   go_meet
   exact(f.s0 _).drew
 case rest=>
  clear h0 g i j k f;obtain⟨p,t⟩:=exq (IntKind.u64.wrap (a+b));rw[<-t]at hcut;have G:aV p:=by rw[t];exact oy _ _
  replace t:=J t;have f:=hcut;obtain⟨⟨h0,g,i,j⟩,k⟩:=hcut.cells;clear hcut;go_upto_region 1 with fail;go_cut [] (λwx=>St B p (bits .xor .u64 (rotl b 13) p) c d w0 wx);case first=>
   go_region_with (first|(go_at_call 306;refine(sd b 13 _ (by assumption) (by decide) (by decide)).mono ?_;rintro e n⟨rfl,rfl⟩));all_goals
    go_wp2_with fail
    go_meet
    exact(f.s1 _).drew
  case rest=>
   clear h0 g i j k f;obtain⟨l,u⟩:=exq (bits .xor .u64 (rotl b 13) p);rw[<-u]at hcut;have L:aV l:=by rw[u];exact ji (ox I 13) G
   replace u:=J u;have f:=hcut;obtain⟨⟨h0,g,i,j⟩,k⟩:=hcut.cells;clear hcut;go_upto_region 2 with fail;go_cut [] (λwx=>St B (rotl p 32) l c d w0 wx);case first=>
    go_region_with (first|(go_at_call 306;refine(sd p 32 _ (by assumption) (by decide) (by decide)).mono ?_;rintro e n⟨rfl,rfl⟩));all_goals
     go_wp2_with fail
     go_meet
     exact(f.s0 _).drew
   case rest=>
    clear h0 g i j k f;obtain⟨v,x⟩:=exq (rotl p 32);rw[<-x]at hcut;have Q:aV v:=by rw[x];exact ox G 32
    replace x:=J x;have f:=hcut;obtain⟨⟨h0,g,i,j⟩,k⟩:=hcut.cells;clear hcut;go_upto_region 3 with fail;go_cut [] (λwx=>St B v l (IntKind.u64.wrap (c+d)) d w0 wx);case first=>
     go_region;all_goals
      go_wp2_with fail
      go_meet
      exact(f.s2 _).drew
    case rest=>
     clear h0 g i j k f;obtain⟨m,y⟩:=exq (IntKind.u64.wrap (c+d));rw[<-y]at hcut;have M:aV m:=by rw[y];exact oy _ _
     replace y:=J y;have f:=hcut;obtain⟨⟨h0,g,i,j⟩,k⟩:=hcut.cells;clear hcut;go_upto_region 4 with fail;go_cut [] (λwx=>St B v l m (bits .xor .u64 (rotl d 16) m) w0 wx);case first=>
      go_region_with (first|(go_at_call 306;refine(sd d 16 _ (by assumption) (by decide) (by decide)).mono ?_;rintro e n⟨rfl,rfl⟩));all_goals
       go_wp2_with fail
       go_meet
       exact(f.s3 _).drew
     case rest=>
      clear h0 g i j k f;obtain⟨q,z⟩:=exq (bits .xor .u64 (rotl d 16) m);rw[<-z]at hcut;have N:aV q:=by rw[z];exact ji (ox K 16) M
      replace z:=J z;have f:=hcut;obtain⟨⟨h0,g,i,j⟩,k⟩:=hcut.cells;clear hcut;go_upto_region 5 with fail;go_cut [] (λwx=>St B (IntKind.u64.wrap (v+q)) l m q w0 wx);case first=>
       go_region;all_goals
        go_wp2_with fail
        go_meet
        exact(f.s0 _).drew
      case rest=>
       clear h0 g i j k f;obtain⟨r,A⟩:=exq (IntKind.u64.wrap (v+q));rw[<-A]at hcut;have O:aV r:=by rw[A];exact oy _ _
       replace A:=J A;have f:=hcut;obtain⟨⟨h0,g,i,j⟩,k⟩:=hcut.cells;clear hcut;go_upto_region 6 with fail;go_cut [] (λwx=>St B r l m (bits .xor .u64 (rotl q 21) r) w0 wx);case first=>
        go_region_with (first|(go_at_call 306;refine(sd q 21 _ (by assumption) (by decide) (by decide)).mono ?_;rintro e n⟨rfl,rfl⟩));all_goals
         go_wp2_with fail
         go_meet
         exact(f.s3 _).drew
       case rest=>
        clear h0 g i j k f;obtain⟨F,C⟩:=exq (bits .xor .u64 (rotl q 21) r);rw[<-C]at hcut;have R:aV F:=by rw[C];exact ji (ox N 21) O
        replace C:=J C;have f:=hcut;obtain⟨⟨h0,g,i,j⟩,k⟩:=hcut.cells;clear hcut;go_upto_region 7 with fail;go_cut [] (λwx=>St B r l (IntKind.u64.wrap (m+l)) F w0 wx);case first=>
         go_region;all_goals
          go_wp2_with fail
          go_meet
          exact(f.s2 _).drew
        case rest=>
         clear h0 g i j k f;obtain⟨s,D⟩:=exq (IntKind.u64.wrap (m+l));rw[<-D]at hcut;have P:aV s:=by rw[D];exact oy _ _
         replace D:=J D;have f:=hcut;obtain⟨⟨h0,g,i,j⟩,k⟩:=hcut.cells;clear hcut;go_upto_region 8 with fail;go_cut [] (λwx=>St B r (bits .xor .u64 (rotl l 17) s) s F w0 wx);case first=>
          go_region_with (first|(go_at_call 306;refine(sd l 17 _ (by assumption) (by decide) (by decide)).mono ?_;rintro e n⟨rfl,rfl⟩));all_goals
           go_wp2_with fail
           go_meet
           exact(f.s1 _).drew
         case rest=>
          clear h0 g i j k f;obtain⟨H,E⟩:=exq (bits .xor .u64 (rotl l 17) s);rw[<-E]at hcut;have S:aV H:=by rw[E];exact ji (ox L 17) P
          replace E:=J E;have f:=hcut;obtain⟨⟨h0,g,i,j⟩,k⟩:=hcut.cells;clear hcut;go_upto_region 9 with fail;go_region_with (first|(go_at_call 306;refine(sd s 32 _ (by assumption) (by decide) (by decide)).mono ?_;rintro e n⟨rfl,rfl⟩));all_goals
           go_end0
           refine⟨rfl,?_⟩
           have e:oC ⟨a,b,c,d⟩=⟨r,H,rotl s 32,F⟩:=by
            obtain rfl:=Z t;obtain rfl:=Z u;obtain rfl:=Z x;obtain rfl:=Z y;obtain rfl:=Z z;obtain rfl:=Z A;obtain rfl:=Z C;obtain rfl:=Z D;obtain rfl:=Z E;rfl
           rw[e];exact(f.s2 _).drew
def lY(s:S4):Nat->S4
 |0=>s
 |k+1=>oC (lY s k)
theorem JE{s:S4}(h:s.ok)(k:Nat):(lY s k).ok:=by
 induction k with
 |zero=>exact h
 |succ k a=>exact qJ a
theorem BV(B n:Nat)(s:S4)(w0 w:World)(h:nd B s w0 w)(hs:s.ok)(f:n<=100):Calls prog 294 #[.pointer (some ⟨B,0,none⟩),.int .i64 n] w λe a=>e=.returned (.tuple #[])/\nd B (lY s n) w0 a:=by
 go_enter func294,ntmps294;go_wp2;go_loopw [5] (λi wr=>∃k:Nat,k<=n/\i=.int .i64 k/\nd B (lY s k) w0 wr) (λi _=>n-(intOf i).toNat);case atStart=>exact⟨0,by omega,rfl,h⟩
 case round=>
  obtain⟨k,g,rfl,b⟩:=hrel;have c:=JE hs k;by_cases j:k<n
  ·go_wp2_with (first|(go_at_call 304;refine(JD B _ _ _ _ w0 _ b c.2.1 c.2.2.2).mono ?_;rintro e a⟨rfl,d⟩));go_roundw;case rel=>exact⟨k+1,by omega,by go_num,d⟩
   case measure=>simp[intOf];omega
  obtain rfl:k=n:=by omega
  go_wp2;go_end0;exact⟨rfl,b⟩
theorem BW(B:Nat)(s:S4)(m:Int)(w0 w:World)(h:nd B s w0 w)(hs:s.ok)(x:aV m):Calls prog 261 #[.pointer (some ⟨B,0,none⟩),.int .u64 m] w λe j=>e=.returned (.tuple #[])/\nd B (rF s m) w0 j:=by
 obtain⟨a,b,c,d⟩:=s;have f:St B a b c d w0 w:=h;obtain⟨⟨h0,k,l,n⟩,p⟩:=h.cells;clear h;go_enter func261,ntmps261;go_upto_region 0 with fail;go_cut [] (λwx=>nd B ⟨a,b,c,xo d m⟩ w0 wx);case first=>
  go_region;all_goals
   go_wp2_with fail
   go_meet
   exact(f.s3 _).drew
 case rest=>
  clear h0 k l n p f;have y:(S4.mk a b c (xo d m)).ok:=⟨hs.1,hs.2.1,hs.2.2.1,ji hs.2.2.2 x⟩
  go_wp2_with (first|(go_at_call 294;refine(BV B 2 _ w0 _ hcut y (by decide)).mono ?_;rintro e j⟨rfl,g⟩));obtain⟨t,i⟩:=exq (lY ⟨a,b,c,xo d m⟩ 2);rw[<-i]at g;obtain⟨q,r,u,v⟩:=t;have z:Hid (rF ⟨a,b,c,d⟩ m=⟨xo q m,r,u,v⟩):=by
   show S4.mk (xo (lY ⟨a,b,c,xo d m⟩ 2).a m) (lY ⟨a,b,c,xo d m⟩ 2).b (lY ⟨a,b,c,xo d m⟩ 2).c (lY ⟨a,b,c,xo d m⟩ 2).d=_;rw[<-i]
  clear i;have f:St B q r u v w0 _:=g;obtain⟨⟨h0,k,l,n⟩,p⟩:=f.cells;clear hcut g;go_region;all_goals
   go_end0
   refine⟨rfl,?_⟩
   rw[Z z]
   exact(f.s0 _).drew
theorem JF(B:Nat)(s:S4)(w0 w:World)(h:nd B s w0 w)(hs:s.ok):Calls prog 263 #[.pointer (some ⟨B,0,none⟩)] w λe j=>e=.returned (.int .u64 (td s))/\w0.grownBy j (some B):=by
 obtain⟨a,b,c,d⟩:=s;have f:St B a b c d w0 w:=h;obtain⟨⟨h0,k,l,m⟩,n⟩:=h.cells;clear h;go_enter func263,ntmps263;go_upto_region 1 with fail;go_cut [] (λwx=>nd B ⟨a,b,xo c 255,d⟩ w0 wx);case first=>
  go_region;all_goals
   go_wp2_with fail
   go_meet
   exact(f.s2 _).drew
 case rest=>
  clear h0 k l m n f;have v:(S4.mk a b (xo c 255) d).ok:=⟨hs.1,hs.2.1,ji hs.2.2.1 (by unfold aV;omega),hs.2.2.2⟩
  go_wp2_with (first|(go_at_call 294;refine(BV B 4 _ w0 _ hcut v (by decide)).mono ?_;rintro e j⟨rfl,g⟩));obtain⟨t,i⟩:=exq (lY ⟨a,b,xo c 255,d⟩ 4);rw[<-i]at g;obtain⟨p,q,r,u⟩:=t;have x:Hid (td ⟨a,b,c,d⟩=xo (xo (xo p q) r) u):=by
   show xo (xo (xo (lY ⟨a,b,xo c 255,d⟩ 4).a (lY ⟨a,b,xo c 255,d⟩ 4).b) (lY ⟨a,b,xo c 255,d⟩ 4).c) (lY ⟨a,b,xo c 255,d⟩ 4).d=_;rw[<-i]
  clear i;have f:St B p q r u w0 _:=g;obtain⟨⟨h0,k,l,m⟩,n⟩:=f.cells;clear hcut g;go_quiet (fail);go_wp2;go_ret;exact⟨by rw[Z x];rfl,di f.2 _⟩
def cJ(key:List Int):Array Value:=(bv key).toArray
def dw(key:List Int):Prop:=key.length=16/\∀x∈key,W8 x
theorem pI(h:dw L):(cJ L).size=16:=by simp[cJ,bv,h.1]
theorem tQ{fr:Nat×Nat}(h:w.heap[b]?=some (.cells (bv L).toArray T fr))(hl:∀x∈L,W8 x)(o:Nat):BS w b o (L.drop o):=by
 refine⟨λi hi=>?_,λx a=>hl x (iG a)⟩
 rw[dF]at hi;have:=tf L (o+i) (by omega);simp only[World.cell?,h]
 simpa [kG]using this
theorem BS.take(h:BS w b o L)(n:Nat):BS w b o (L.take n):=by
 refine⟨λi hi=>?_,λx a=>h.2 x (iS a)⟩
 rw[ct]at hi;rw[h.1 i (by omega)];simp[show i<n by omega]
theorem BS.drop(h:BS w b o L)(n:Nat):BS w b (o+n) (L.drop n):=by
 refine⟨λi hi=>?_,λx a=>h.2 x (iG a)⟩
 rw[dF]at hi;have:=h.1 (n+i) (by omega);rw[show o+n+i=o+(n+i) by omega,this];simp[kG]
theorem yw(s:S4)(k:Nat)(l:List Int):mj s (k+1) l=mj (rF s (gY (l.take 8))) k (l.drop 8):=by rw[mj]
theorem BX(s:S4)(l:List Int):mj s 0 l=s:=by rw[mj]
theorem yy(s:S4)(k:Nat)(l:List Int):mj s (k+1) l=rF (mj s k l) (gY ((l.drop (8*k)).take 8)):=by
 induction k generalizing s l with
 |zero=>rw[yw,BX,BX,Nat.mul_zero,qb]
 |succ k a=>
  rw[yw,a,sX,yw s k l];rw[show 8+8*k=8*(k+1) by omega]
theorem tR(h:∀x∈L,W8 x)(hl:L.length<=8):aV (gY L):=by
 have a:=xm L h;have b:=zK L.length hl;exact⟨a.1,by omega⟩
theorem BY(h:dw L):(gH L).ok:=by
 have b:aV (gY (L.take 8)):=tR (λx a=>h.2 x (iS a)) (by simp[h.1]);have c:aV (gY (L.drop 8)):=tR (λx a=>h.2 x (iG a)) (by simp[h.1]);exact⟨ji b (by unfold aV;omega),ji c (by unfold aV;omega),ji b (by unfold aV;omega),ji c (by unfold aV;omega)⟩
theorem vJ{s:S4}(h:s.ok)(hl:∀x∈L,W8 x)(k:Nat):(mj s k L).ok:=by
 induction k with
 |zero=>exact h
 |succ k a=>rw[yy];exact E6 a (tR (λx b=>hl x (iG (iS b))) (by simp;omega))
theorem BZ(hl:∀x∈L,W8 x)(n:Int):∀x∈oW L n,W8 x:=by
 intro x a;simp only[oW,bQ,List.mem_replicate,cS]at a;obtain(a|⟨_,rfl⟩)|rfl:=a
 exact hl x a;unfold W8;omega;unfold W8;omega
def B1:Value->Nat|.slice _ n _=>n|_=>0
theorem JG(key:List Int)(w:World)(i:dw key):Calls prog 260 #[.agg (cJ key)] w λe g=>
 e=.returned (.agg #[.int .u64 (gH key).a,.int .u64 (gH key).b,.int .u64 (gH key).c,.int .u64 (gH key).d])/\w.grownBy g none:=by
 have n:=pI i;obtain⟨j,k⟩:=i;have l:(w.alloc (.cells (cJ key) 24)).heap[w.heap.size]?=some (.cells (cJ key) 24 (0,0)):=aM w _;have b1:∀W:World,W.heap[w.heap.size]?=some (.cells (cJ key) 24 (0,0))->BS W w.heap.size 0 (key.take 8):=λW h=>by
  have:=(tQ h k 0).take 8;rwa[qb]at this
 have b2:∀W:World,W.heap[w.heap.size]?=some (.cells (cJ key) 24 (0,0))->BS W w.heap.size 8 (key.drop 8):=λW h=>tQ h k 8
 have f:(((w.alloc (.cells (cJ key) 24)).alloc (.cells #[.int .u64 0,.int .u64 0,.int .u64 0,.int .u64 0] 393))).heap[w.heap.size]?=some (.cells (cJ key) 24 (0,0)):=by
  rw[fj _ _ _ (by simp)];exact l
 obtain⟨K,m⟩:=exq (cJ key);rw[<-m]at n b1 b2 f⊢;clear l m;replace f:=J f;replace b1:=J b1;replace b2:=J b2;go_enter func260,ntmps260;go_wp2_with fail;go_region_with (first
  |(go_at_call_of 262 (Value.slice (some ⟨w.heap.size,0,none⟩) 8 16);refine(uL _ _ _ (key.take 8) _ ?_ (by simp[j]) (by decide)).mono ?_;exact Z b1 _ (Z f);rintro e g⟨rfl,rfl⟩)
  |(go_at_call_of 262 (Value.slice (some ⟨w.heap.size,8,none⟩) 8 8);refine(uL _ _ _ (key.drop 8) _ ?_ (by simp[j]) (by decide)).mono ?_;exact Z b2 _ (Z f);rintro e g⟨rfl,rfl⟩))
 all_goals
  go_wp2
  refine cA (v:=.agg #[.int .u64 (gH key).a,.int .u64 (gH key).b,.int .u64 (gH key).c,.int .u64 (gH key).d]) ?_ rfl ⟨rfl,?_⟩
  ·simp[results,results260,go_sem,gH,xo]
  first|exact aW (ba (ba (aB _ _) _) _)|exact ba (ba (aB _ _) _) _
theorem JH(l:List Int)(n:Int)(k:Nat)(h:8*k+8<=l.length):((oW l n).drop (8*k)).take 8=(l.drop (8*k)).take 8:=by
 simp only[oW,fg]
 rw[List.drop_append_of_le_length (by omega),uy (by simp;omega)]
theorem JI(l:List Int)(n:Int):((oW l n).drop (8*(l.length/8))).take 8=splice [0,0,0,0,0,0,0,n %256] 0 ((l.drop (8*(l.length/8))).take 8):=by
 have a:(l.drop (8*(l.length/8))).length=l.length %8:=by simp;omega
 simp only[oW,fg]
 rw[List.drop_append_of_le_length (by omega)];generalize l.drop (8*(l.length/8))=r at *;have b:r.length<8:=by omega
 rw[<-a];have e:r.take 8=r:=fJ (by omega);rw[e,splice,List.take_zero,jQ,dR];rw[fJ (by simp;omega)];congr 1;obtain _|⟨_,_|⟨_,_|⟨_,_|⟨_,_|⟨_,_|⟨_,_|⟨_,_|⟨_,r⟩⟩⟩⟩⟩⟩⟩⟩:=r<;>first|rfl|(simp at b;omega)
theorem B6(a:∀x∈L,W8 x)(b:n=(L.drop 8).length)(c:n<=j)(d:j<=maxLen)(e:BS W k o L)(h:i=o+8\/(L.drop 8).length=0):bF W (some ⟨k,i,none⟩) n j (L.drop 8):=by
 refine⟨λx f=>a x (iG f),b,c,d,.inr ⟨k,i,rfl,?_⟩⟩
 obtain rfl|h:=h
 exact e.drop 8;rw[iF h];exact BS.nil _ _ _
theorem JJ(b:a=O)(c:n=m)(d:k=i):Value.slice a n k=.slice O m i:=by rw[b,c,d]
theorem B7(key:List Int)(a:Option Addr)(n cap:Nat)(l:List Int)(w:World)(z:dw key)(p:bF w a n cap l)(b6:l.length<=100000000):Calls prog 222 #[.agg (cJ key),.slice a n cap] w λe w'=>
 e=.returned (.int .u64 (cT key l))/\w.grownBy w' none:=by
 have ax:=pI z;have A:=λW=>JG key W z
 have hK:dw key:=z;obtain⟨K,E⟩:=exq (cJ key);rw[<-E];simp only[<-E]at A ax;clear E;replace A:=J A;have bj:n=l.length:=p.2.1;subst bj;go_enter func222,ntmps222;go_wp2_with (refine qK _ (by rfl) (by rfl) _ (by rfl) K ?_ ax ?_;exact aM _ _);refine(Z A _).mono ?_;rintro e f⟨rfl,F⟩;go_wp2_with fail;obtain⟨r,t⟩:=exq ((f.alloc (.cells #[.int .u64 (gH key).a,.int .u64 (gH key).b,.int .u64 (gH key).c,.int .u64 (gH key).d] 393)).alloc (.cells #[.int .u8 0,.int .u8 0,.int .u8 0,.int .u8 0,.int .u8 0,.int .u8 0,.int .u8 0,.int .u8 ((l.length:Int) %256)] 299));have G:w.grownBy r none:=by rw[t];exact ba (ba (aq (ba (aB w none) _) F) _) _
 have br:nd f.heap.size (gH key) r r:=by
  refine⟨?_,aB _ _⟩
  rw[t,fj _ _ _ (by simp)];exact aM _ _
 have B:r.heap[f.heap.size+1]?=some (.cells (bv [0,0,0,0,0,0,0,(l.length:Int) %256]).toArray 299 (0,0)):=by
  have:=aM (f.alloc (.cells #[.int .u64 (gH key).a,.int .u64 (gH key).b,.int .u64 (gH key).c,.int .u64 (gH key).d] 393)) (.cells #[.int .u8 0,.int .u8 0,.int .u8 0,.int .u8 0,.int .u8 0,.int .u8 0,.int .u8 0,.int .u8 ((l.length:Int) %256)] 299);rw[dQ]at this;rw[t];exact this
 have b7:w.heap.size<f.heap.size:=by have:=F.size;rw[dQ]at this;omega
 have H:=p.ao G;rw[<-t];clear t F;have I:=BY hK;have u:=BZ p.1 (l.length:Int);have L:Hid (cT key l=td (mj (gH key) (l.length/8+1) (oW l l.length))):=rfl;have C:=JH l (l.length:Int);have s:=JI l (l.length:Int);obtain⟨P,M⟩:=exq (oW l (l.length:Int));rw[<-M]at u L s;simp only[<-M]at C;replace s:=J s;replace C:=J C;clear M;obtain⟨q,hq⟩:=exq (l.length/8);rw[<-hq]at L s;have q1:8*q<=l.length:=by omega
 have q2:l.length<8*q+8:=by omega
 clear hq;replace H:=J H;replace B:=J B;have N:∀x,a=some x->l≠[]->x.block<w.heap.size:=λx e O=>by
  obtain⟨h,_⟩|⟨b,o,h,g⟩:=p.2.2.2.2
  rw[h]at e;cases e;rw[h]at e;cases e;exact g.lt O
 replace N:=J N;have ch:=p.2.2.1;have bt:=p.2.2.2.1;unfold maxLen at bt;go_loopw [1] (λv wr=>∃(k:Nat)(y:Option Addr),k<=q/\v=.slice y (l.length-8*k) (cap-8*k)/\bF r y (l.length-8*k) (cap-8*k) (l.drop (8*k))/\(∀x,y=some x->l.drop (8*k)≠[]->x.block<w.heap.size)/\nd f.heap.size (mj (gH key) k P) r wr) (λv _=>B1 v);case atStart=>exact⟨0,a,by omega,rfl,by simpa using Z H,by simpa using Z N,br⟩
 case round=>
  obtain⟨k,y,z,rfl,Q,D,i⟩:=hrel;replace D:=J D;by_cases cj:k<q
  ·have O:l.drop (8*k)≠[]:=by intro e;have:=fm List.length e;simp at this;omega
   obtain⟨a0,-,cp,cv,h5⟩:=Q;obtain⟨rfl,h0⟩|⟨bb,o,rfl,g⟩:=h5
   omega;have a1:=Z D _ rfl O;have a2:BS wr bb o (l.drop (8*k)):=g.gb i.2 (by intro e;cases e;dsimp only at a1;omega);have m:=J (a2.take 8);have R:((l.drop (8*k)).take 8).length=8:=by simp;omega
   have S:=J (yy (gH key) k P);have T:=vJ I u k;have U:=tR (Z m).2 (by omega);have bM:Hid (l.drop (8*(k+1))=(l.drop (8*k)).drop 8):=by
    show _=_;rw[sX];rfl
   replace g:=J g;clear a2;go_wp2_with fail;refine(uL _ _ _ _ _ (Z m) R (by omega)).mono ?_;rintro e w4⟨rfl,rfl⟩;go_wp2_with fail;refine(BW _ _ _ _ _ i T U).mono ?_;rintro e w5⟨rfl,b0⟩;go_wp2_with fail;all_goals go_roundw
   all_goals first
    |(show _<_;simp[B1];omega)
    |(refine⟨k+1,_,by omega,JJ rfl (by omega) (by omega),?_,?_,by rw[Z S,Z C k (by omega)];exact b0⟩<;>rw[Z bM]<;>skip)
   split;exact B6 a0 (by simp;omega) (by omega) (by omega) (Z g) (.inr (by simp;omega));exact B6 a0 (by simp;omega) (by omega) (by omega) (Z g) (.inl rfl);intro x e _;split at e<;>(cases e;exact a1)
  obtain rfl:k=q:=by omega
  have V:bF wr y (l.length-8*k) (cap-8*k) (l.drop (8*k)):=
   Q.gb i.2 (λj e=>by
    cases e;right;by_cases hl:l.drop (8*k)=[]
    exact .inl hl
    ·right;intro x e;have:=Z D x e hl;omega)
  have X:wr.heap[f.heap.size+1]?=some (.cells (bv [0,0,0,0,0,0,0,(l.length:Int) %256]).toArray 299 (0,0)):=(i.2.block _ (aY.1 (Z B)).1 (by simp)).trans (Z B);replace V:=J V;replace X:=J X;have T:=vJ I u k;clear Q;go_wp2_with (refine ti _ _ (by rfl) (by rfl) (f.heap.size+1) 0 8 8 (by rfl) _ _ _ (by rfl) (l.drop (8*k)) (Z V) [0,0,0,0,0,0,0,(l.length:Int) %256] _ (Z X) ?_ ?_;(simp;omega);intro Y al g6);have b3:nd f.heap.size (mj (gH key) k P) Y Y:=⟨(g6.block _ (aY.1 i.1).1 (by simp)).trans i.1,aB _ _⟩
  have m:BS Y (f.heap.size+1) 0 ((P.drop (8*k)).take 8):=by
   have a4:∀x∈(P.drop (8*k)).take 8,W8 x:=λx hx=>u x (iG (iS hx))
   rw[Z s]at a4⊢;have:=tQ al a4 0;rwa[qb]at this
  have R:((P.drop (8*k)).take 8).length=8:=by rw[Z s,length_splice]<;>simp<;>omega
  have S:=J (yy (gH key) k P);have U:=tR m.2 (by omega);replace m:=J m;replace al:=J al;go_wp2_with fail;refine(uL _ _ _ _ _ (Z m) R (by omega)).mono ?_;rintro e w7⟨rfl,rfl⟩;go_wp2_with fail;refine(BW _ _ _ _ _ b3 T U).mono ?_;rintro e w8⟨rfl,a8⟩;rw[<-Z S]at a8;go_wp2_with fail;refine(JF _ _ _ _ a8 (vJ I u _)).mono ?_;rintro e w9⟨rfl,g9⟩;go_wp2;go_ret;refine⟨by rw[Z L];rfl,?_⟩
  have b1:Below w.heap.size w wr:=(xk G).grown i.2 G.size (λj e=>by cases e;omega);have b2:=b1.grown g6 b1.size (λj e=>by cases e;omega);exact tc (b2.grown g9 b2.size (λj e=>by cases e;omega))
def aa(n:Int)(i:Nat):Int:=n/2^(56-8*i) %256
def fH(n:Int):List Int:=[aa n 0,aa n 1,aa n 2,aa n 3,aa n 4,aa n 5,aa n 6,aa n 7]
theorem yz(n:Int)(i:Nat):W8 (aa n i):=by unfold aa W8;omega
theorem pJ(n:Int):∀x∈fH n,W8 x:=by
 intro x a;simp only[fH,fk,qG,oT]at a;obtain rfl|rfl|rfl|rfl|rfl|rfl|rfl|rfl:=a<;>exact yz _ _
theorem iC(n:Int):(fH n).length=8:=rfl
theorem JK(w:World)(l:List Int)(hl:∀x∈l,W8 x)(c:l.length<=1000)(a:Nat)(b:a<=w.heap.size):bm (w.alloc (.cells (bv l).toArray 5)) a (.slice (some ⟨w.heap.size,0,none⟩) l.length l.length) l:=by
 refine⟨hl,by simp[bv],.inr ⟨w.heap.size,l.length,(bv l).toArray,rfl,b,aM w _,aP _,by simp[maxLen];omega,by simp[bv],?_⟩⟩
 exact fJ (by simp[bv])
theorem sf(n:Int):(bv (fH n)).toArray= #[.int .u8 (aa n 0),.int .u8 (aa n 1),.int .u8 (aa n 2),.int .u8 (aa n 3),.int .u8 (aa n 4),.int .u8 (aa n 5),.int .u8 (aa n 6),.int .u8 (aa n 7)]:=rfl
def sh:Array Value:= #[.int .u8 0,.int .u8 0,.int .u8 0,.int .u8 0,.int .u8 0,.int .u8 0,.int .u8 0,.int .u8 0]
theorem vK(n:Int)(w:World)(a:aV n):Calls prog 194 #[.int .u64 n] w λe b=>e=.returned (.agg (bv (fH n)).toArray)/\w.grownBy b none:=by
 obtain⟨n0,c⟩:=a;rw[sf];go_enter func194,ntmps194;go_wp2_with fail;refine sV 9 ?_;iterate 8 (rw[qd];go_wp2_with fail)
 rw[qd];go_wp2_with fail;refine cA (v:=.agg #[.int .u8 (aa n 0),.int .u8 (aa n 1),.int .u8 (aa n 2),.int .u8 (aa n 3),.int .u8 (aa n 4),.int .u8 (aa n 5),.int .u8 (aa n 6),.int .u8 (aa n 7)]) ?_ rfl ⟨rfl,?_⟩
 ·simp[results,results194,go_sem,aa];omega
 exact ba (ba (aB _ _) _) _
theorem qS{a c d e f:Value}(h:w.heap[b]?=some (.cells #[x,y,z,a,c,d,e,f] T (0,0))):(w.cell? ⟨b,0,none⟩=some x/\w.cell? ⟨b,1,none⟩=some y/\w.cell? ⟨b,2,none⟩=some z/\w.cell? ⟨b,3,none⟩=some a/\w.cell? ⟨b,4,none⟩=some c/\w.cell? ⟨b,5,none⟩=some d/\w.cell? ⟨b,6,none⟩=some e/\w.cell? ⟨b,7,none⟩=some f)/\∀o,w.frozen? ⟨b,o,none⟩=false:=by
 simp[World.cell?,World.frozen?,h]
theorem yA(h:L.length=8):∃a b c d e f g i,L=[a,b,c,d,e,f,g,i]:=by
 match L,h with
 |[a,b,c,d,e,f,g,i],_=>exact⟨a,b,c,d,e,f,g,i,rfl⟩
theorem JL(a:((w.alloc (.cells #[.int .u8 0,.int .u8 0,.int .u8 0,.int .u8 0,.int .u8 0,.int .u8 0,.int .u8 0,.int .u8 0] 300)).alloc (.cells #[.int .u8 0,.int .u8 0,.int .u8 0,.int .u8 0,.int .u8 0,.int .u8 0,.int .u8 0,.int .u8 0] 300)).grownBy W (some (w.heap.size+1))):
 W.heap[w.heap.size]?=some (.cells #[.int .u8 0,.int .u8 0,.int .u8 0,.int .u8 0,.int .u8 0,.int .u8 0,.int .u8 0,.int .u8 0] 300 (0,0)):=by
 refine(a.block w.heap.size (by simp;omega) (by simp)).trans ?_;rw[fj _ _ _ (by simp)];exact aM _ _
theorem B8(a:Option Addr)(n c:Nat)(l:List Int)(w:World)(y:bF w a n c l)(hl:8<=l.length):Calls prog 170 #[.slice a n c] w λe z=>e=.returned (.agg (bv (l.take 8)).toArray)/\w.grownBy z none:=by
 have A:=J (y.ao (ba (ba (aB w none) (.cells sh 300)) (.cells sh 300)));have f:=aM (w.alloc (.cells sh 300)) (.cells sh 300);rw[dQ]at f;have g:((w.alloc (.cells sh 300)).alloc (.cells sh 300)).heap[w.heap.size+1]?=some (.cells (bv [0,0,0,0,0,0,0,0]).toArray 300 (0,0)):=f;replace g:=J g;clear f;have h:(l.take 8).length=8:=by simp;omega
 obtain⟨i,k,m,p,q,r,s,t,b⟩:=yA h;rw[b];clear h;replace b:=J b;go_enter func170,ntmps170;go_wp2_with (refine ti _ _ (by rfl) (by rfl) (w.heap.size+1) 0 8 8 (by rfl) _ _ _ (by rfl) l (Z A) [0,0,0,0,0,0,0,0] _ (Z g) ?_ ?_;(rw[Z b];simp);(rw[Z b];intro u d x;replace d:u.heap[w.heap.size+1]?=some (.cells #[.int .u8 i,.int .u8 k,.int .u8 m,.int .u8 p,.int .u8 q,.int .u8 r,.int .u8 s,.int .u8 t] 300 (0,0)):=d;replace d:=qS d;have B:=qS (JL x);obtain⟨⟨D,E,F,k3,k4,k5,G,H⟩,I⟩:=d;obtain⟨⟨K,L,z2,M,N,O,P,Q⟩,R⟩:=B));refine cA (v:=.agg #[.int .u8 i,.int .u8 k,.int .u8 m,.int .u8 p,.int .u8 q,.int .u8 r,.int .u8 s,.int .u8 t]) ?_ rfl ⟨rfl,?_⟩
 ·simp[results,results170,go_sem, *]
 have C:w.grownBy u none:=cF (ba (ba (aB w none) _) _) x (λj e=>by cases e;left;omega);repeat(refine aI ?_ _ _ (.inl (aP _)))
 exact C
def kT(l:List Int):Int:=l.foldl (λn x=>n*256+x) 0
theorem JM(l:List Int)(x:Int):kT (l++[x])=kT l*256+x:=by simp[kT]
theorem B9(l:List Int)(j:Nat)(h:j<l.length):kT (l.take (j+1))=kT (l.take j)*256+l.getD j 0:=by
 rw[ry h,JM,pW,eD h];rfl
theorem tS(l:List Int)(h:∀x∈l,W8 x):∀j,j<=l.length->0<=kT (l.take j)/\kT (l.take j)<256^j
 |0,_=>by simp[kT]
 |j+1,b=>by
  have c:=tS l h j (by omega);have a:=qe h j;unfold W8 at a;rw[B9 l j (by omega),Int.pow_succ];generalize (256:Int)^j=p at *;omega
theorem JN(n x:Int)(h0:0<=n)(d:n<72057594037927936)(a:W8 x):bits .or .u64 (n*256) x=n*256+x:=by
 obtain⟨c,f⟩:=a;obtain⟨m,rfl⟩:=pY h0;obtain⟨y,rfl⟩:=pY c;have e:((m:Int)*256)=((m*256:Nat):Int):=by omega
 rw[e,u64_or_nat _ _ (by omega) (by omega)];have:=wW (i:=8) (b:=y) (by omega) m;rw[Nat.shiftLeft_eq]at this;rw[show m*256=m*2^8 from rfl,<-this];omega
theorem JO(a b c d e f g h:Int)(w:World):(Instr.index 300 (.agg #[.int .u8 a,.int .u8 b,.int .u8 c,.int .u8 d,.int .u8 e,.int .u8 f,.int .u8 g,.int .u8 h]) (.int .i64 0)).run prog w=.ok (.int .u8 a) w:=by kernel_rfl
theorem JP(b a c d e f g h:Int)(w:World):(Instr.index 300 (.agg #[.int .u8 b,.int .u8 a,.int .u8 c,.int .u8 d,.int .u8 e,.int .u8 f,.int .u8 g,.int .u8 h]) (.int .i64 1)).run prog w=.ok (.int .u8 a) w:=by kernel_rfl
theorem JQ(b c a d e f g h:Int)(w:World):(Instr.index 300 (.agg #[.int .u8 b,.int .u8 c,.int .u8 a,.int .u8 d,.int .u8 e,.int .u8 f,.int .u8 g,.int .u8 h]) (.int .i64 2)).run prog w=.ok (.int .u8 a) w:=by kernel_rfl
theorem JR(b c d a e f g h:Int)(w:World):(Instr.index 300 (.agg #[.int .u8 b,.int .u8 c,.int .u8 d,.int .u8 a,.int .u8 e,.int .u8 f,.int .u8 g,.int .u8 h]) (.int .i64 3)).run prog w=.ok (.int .u8 a) w:=by kernel_rfl
theorem JS(b c d e a f g h:Int)(w:World):(Instr.index 300 (.agg #[.int .u8 b,.int .u8 c,.int .u8 d,.int .u8 e,.int .u8 a,.int .u8 f,.int .u8 g,.int .u8 h]) (.int .i64 4)).run prog w=.ok (.int .u8 a) w:=by kernel_rfl
theorem JT(b c d e f a g h:Int)(w:World):(Instr.index 300 (.agg #[.int .u8 b,.int .u8 c,.int .u8 d,.int .u8 e,.int .u8 f,.int .u8 a,.int .u8 g,.int .u8 h]) (.int .i64 5)).run prog w=.ok (.int .u8 a) w:=by kernel_rfl
theorem JU(b c d e f g a h:Int)(w:World):(Instr.index 300 (.agg #[.int .u8 b,.int .u8 c,.int .u8 d,.int .u8 e,.int .u8 f,.int .u8 g,.int .u8 a,.int .u8 h]) (.int .i64 6)).run prog w=.ok (.int .u8 a) w:=by kernel_rfl
theorem JV(b c d e f g h a:Int)(w:World):(Instr.index 300 (.agg #[.int .u8 b,.int .u8 c,.int .u8 d,.int .u8 e,.int .u8 f,.int .u8 g,.int .u8 h,.int .u8 a]) (.int .i64 7)).run prog w=.ok (.int .u8 a) w:=by kernel_rfl
theorem Ca(a b c d e f g h:Int)(j:Nat)(i:j<8)(w:World):(Instr.index 300 (.agg #[.int .u8 a,.int .u8 b,.int .u8 c,.int .u8 d,.int .u8 e,.int .u8 f,.int .u8 g,.int .u8 h]) (.int .i64 j)).run prog w=.ok (.int .u8 ([a,b,c,d,e,f,g,h].getD j 0)) w:=by
 have:j=0\/j=1\/j=2\/j=3\/j=4\/j=5\/j=6\/j=7:=by omega
 obtain rfl|rfl|rfl|rfl|rfl|rfl|rfl|rfl:=this
 exact JO _ _ _ _ _ _ _ _ w;exact JP _ _ _ _ _ _ _ _ w;exact JQ _ _ _ _ _ _ _ _ w;exact JR _ _ _ _ _ _ _ _ w;exact JS _ _ _ _ _ _ _ _ w;exact JT _ _ _ _ _ _ _ _ w;exact JU _ _ _ _ _ _ _ _ w;exact JV _ _ _ _ _ _ _ _ w
theorem JW(l:List Int)(w:World)(g:l.length=8)(h:∀x∈l,W8 x):Calls prog 171 #[.agg (bv l).toArray] w λe s=>e=.returned (.int .u64 (kT l))/\w.grownBy s none:=by
 have hi:∀(j:Nat)(w:World),j<8->(Instr.index 300 (.agg (bv l).toArray) (.int .i64 j)).run prog w=.ok (.int .u8 (l.getD j 0)) w:=by
  obtain⟨t,u,z,A,B,C,D,E,rfl⟩:=yA g;exact λj w k=>Ca _ _ _ _ _ _ _ _ j k w
 have a:=tS l h;have b:=B9 l;have c:kT l=kT (l.take 8):=by rw[fJ (by omega)]
 have d:=qe h;have p:(bv l).toArray.size=8:=by simp[bv,g]
 obtain⟨K,f⟩:=exq ((bv l).toArray);rw[<-f]at p⊢;simp only[<-f]at hi;clear f;replace c:=J c;replace b:=J b;replace a:=J a;replace d:=J d;replace hi:=J hi;go_enter func171,ntmps171;go_wp2_with (refine oS (by rfl) 300 _ (by rfl) w.heap.size (by rfl) 300 K (0,0) _ ?_ underlying300 (by rfl) ?_ ?_;exact aM _ _;(rw[p];kernel_rfl));go_loop [3,7] (λn i=>∃j:Nat,j<=8/\i=.int .i64 (j:Int)/\n=.int .u64 (kT (l.take j))) (λ_ i=>8-(intOf i).toNat);case atStart=>exact⟨0,by omega,rfl,rfl⟩
 case round=>
  obtain⟨j,k,rfl,rfl⟩:=hrel;by_cases v:j<8
  ·have F:=λW=>Z hi j W v
   have q:=Z d j;have r:=Z a j (by omega);have y:=J (Z b j (by omega));have hp:(256:Int)^j<=72057594037927936:=by
    have:(256:Nat)^j<=256^7:=wZ (by decide) (by omega);have e:(256:Int)^j=((256^j:Nat):Int):=by simp
    rw[e];omega
   have ho:=J (JN _ _ r.1 (by omega) q);obtain⟨t,u⟩:=q;obtain⟨G,m1⟩:=r;generalize l.getD j 0=x at *;generalize kT (l.take j)=m at *;go_wp2;go_round;case rel=>exact⟨j+1,by omega,by go_num,by rw[Z ho,<-Z y]⟩
   case measure=>simp[intOf];omega
  obtain rfl:j=8:=by omega
  go_wp2;go_ret;exact⟨by rw[Z c];rfl,ba (aB _ _) _⟩
def aD(s u n:Int):List Int:=s::u::fH n
def lu(key:List Int)(s n:Int)(i:Nat):Int:=aa (cT key (aD s 1 n++[((i/8:Nat):Int) %256])) (i %8)
def x8(a b:Int):Int:=bits .xor .u8 a b
def jZ(key:List Int)(s n:Int)(l:List Int)(j:Nat):List Int:=(List.range j).map λi=>x8 (l.getD i 0) (lu key s n i)
def dN(key:List Int)(s n:Int)(l:List Int):List Int:=jZ key s n l l.length
def iD(key:List Int)(s n:Int)(c:List Int):List Int:=fH (cT key (aD s 2 n++c))
def dm(key:List Int)(s n:Int)(l:List Int):List Int:=fH n++dN key s n l++iD key s n (dN key s n l)
theorem JX(key:List Int)(s n:Int)(l:List Int)(j:Nat):jZ key s n l (j+1)=jZ key s n l j++[x8 (l.getD j 0) (lu key s n j)]:=by simp[jZ,uJ]
theorem si(key:List Int)(s n:Int)(l:List Int)(j:Nat):(jZ key s n l j).length=j:=by simp[jZ]
theorem Cb(a:W8 p)(b:W8 q):W8 (x8 p q):=by
 unfold x8;rw[u8_xor p q a.1 a.2 b.1 b.2];have:=Nat.xor_lt_two_pow (n:=8) (x:=p.toNat) (y:=q.toNat) (by have:=a.2;have:=a.1;omega) (by have:=b.2;have:=b.1;omega);unfold W8;omega
theorem JY(hs:W8 p)(b:W8 q):∀x∈aD p q r,W8 x:=by
 intro x a;simp only[aD,fk]at a;obtain rfl|rfl|a:=a
 exact hs;exact b;exact pJ r x a
theorem tT(s u n:Int):(aD s u n).length=10:=rfl
theorem Cc(key l:List Int)(a:dw key)(hl:∀x∈l,W8 x):aV (cT key l):=E7 (vJ (BY a) (BZ hl _) _)
theorem JZ(w:World)(x y:Int)(b:W8 x)(c:W8 y):bm (w.alloc (.cells #[.int .u8 x,.int .u8 y] 5)) w.heap.size (.slice (some ⟨w.heap.size,0,none⟩) [x,y].length 2) [x,y]:=
 JK w [x,y] (λz a=>by simp only[fk,qG,oT]at a;obtain rfl|rfl:=a;exact b;exact c) (by simp) _ (aP _)
theorem bm.lower(o:bm w n x L)(h:k<=n):bm w k x L:=by
 refine⟨o.1,o.2.1,?_⟩
 obtain a|⟨g,cap,cur,e1,e2,b⟩:=o.2.2
 exact .inl a;exact .inr ⟨g,cap,cur,e1,by omega,b⟩
theorem ng(key:List Int)(s n:Int)(l:List Int):(dN key s n l).length=l.length:=si _ _ _ _ _
theorem J0(key:List Int)(s n:Int)(l:List Int):(iD key s n l).length=8:=rfl
theorem pK(key:List Int)(s n:Int)(l:List Int):(dm key s n l).length=l.length+16:=by simp[dm,ng,J0,iC];omega
def bp(p:List Int):Int:=kT (p.take 8)
def bT(p:List Int):List Int:=(p.drop 8).take (p.length-16)
def qq(p:List Int):List Int:=p.drop (p.length-8)
theorem J1(W:World):(sizeOf 5).run prog W=.ok 1 W:=by kernel_rfl
theorem Cd:prog.elem 112=5:=by kernel_rfl
theorem J2(b o n c t:Nat)(h:t<=n)(d:t<c)(W:World):(Instr.slice 112 (.slice (some ⟨b,o,none⟩) n c) (some (.int .i64 (t:Int))) none none).run prog W=.ok (.slice (some ⟨b,o+t,none⟩) (n-t) (c-t)) W:=by
 have h0:(0:Int)<=(t:Int):=by omega
 have a:(t:Int)<=(n:Int):=by omega
 rw[run_slice_l W 112 (some ⟨b,o,none⟩) n c (by rw[Cd];exact underlying112) .i64 (t:Int) h0 a,Cd,J1];simp only[iT,sliced,nE,Nat.mul_one,rD]
 rw[ah (by omega),Addr.add_lit]
def eC(key:List Int)(s:Int)(p:List Int):Prop:=16<=p.length/\p.length<=300/\iD key s (bp p) (bT p)=qq p/\bp p<=4611686018427387903
theorem Ce(s u n:Int)(w:World)(hs:W8 s)(k:W8 u)(l:aV n):Calls prog 223 #[.int .u8 s,.int .u8 u,.int .u64 n] w λe d=>
 ∃f g,e=.returned (.slice f 10 g)/\bm d w.heap.size (.slice f 10 g) (aD s u n)/\w.grownBy d none:=by
 go_enter func223,ntmps223;go_wp2_with fail;refine(vK n _ l).mono ?_;rintro e a⟨rfl,h⟩;rw[sf];have m:=h.size;have b:=JZ (a.alloc (.cells (bv (fH n)).toArray 300)) s u hs k;have i:=aM a (.cells (bv (fH n)).toArray 300);have j:((a.alloc (.cells (bv (fH n)).toArray 300)).alloc (.cells #[.int .u8 s,.int .u8 u] 5)).heap[a.heap.size]?=some (.cells (bv (fH n)).toArray 300 (0,0)):=by
  rw[fj _ _ _ (by simp)];exact i
 have c:bF ((a.alloc (.cells (bv (fH n)).toArray 300)).alloc (.cells #[.int .u8 s,.int .u8 u] 5)) (some ⟨a.heap.size,0,none⟩) 8 8 (fH n):=by
  refine⟨pJ n,rfl,by simp,by simp[maxLen],.inr ⟨_,_,rfl,?_⟩⟩
  have:=tQ j (pJ n) 0;rwa[qb]at this
 rw[dQ]at b;rw[sf]at b c;replace b:=J b;replace c:=J c;clear i j;go_wp2_with (at_builtin;refine rG (by rfl) _ _ (by rfl) (a.heap.size+1) _ [s,u] (by rfl) (Z b) _ _ _ (fH n) (by rfl) (Z c) ?_ ?_ ?_;(simp[iC]);(simp);intro p c3 v q r _);go_ret;refine⟨p,c3,rfl,q.lower (by omega),?_⟩
 have t:Below w.heap.size w a:=xk h;exact tc (zL ((t.alloc m _).alloc (by simp;omega) _) (Z b) r (by simp;omega) (by omega))
theorem qt(h:W.rangeAt n 0 (bv L)/\w.grownBy W (some (n+1)))(o:Nat)(v:Value):(W.setCell ⟨n+1,o,none⟩ v).rangeAt n 0 (bv L)/\w.grownBy (W.setCell ⟨n+1,o,none⟩ v) (some (n+1)):=
 ⟨uR h.1 _ _ (by simp),aI h.2 _ _ (.inr rfl)⟩
theorem yB(h:W.rangeAt n 0 (bv L)/\w.grownBy W (some (n+1)))(g:W.grownBy v none):v.rangeAt n 0 (bv L)/\w.grownBy v (some (n+1)):=
 ⟨iX h.1 g (by simp),cF h.2 g (λj e=>by cases e)⟩
theorem J3(h:W.rangeAt n 0 (bv L)/\w.grownBy W (some (n+1)))(o:bm W k x K)(a:w.heap.size<=k)(b:n<k)(g:W.grownBy V x.ownBlock):V.rangeAt n 0 (bv L)/\w.grownBy V (some (n+1)):=
 ⟨iX h.1 g (λe=>by have:=(o.lt _ e).1;omega),cF h.2 g (λj e=>.inl (bD a (o.lt _ e).1))⟩
theorem Cf(h:bF w a n k L):bF w.drew a n k L:=h.ao (aW (aB w none))
theorem Cg(key:List Int)(s n:Int)(a:Option Addr)(m cap:Nat)(l:List Int)(w:World)(g:dw key)(hs:W8 s)(F:aV n)(k:bF w a m cap l)(hl:l.length<=60000000):
 Calls prog 172 #[.agg (cJ key),.int .u8 s,.int .u64 n,.slice a m cap] w λe h=>
  e=.returned (.agg (bv (iD key s n l)).toArray)/\w.grownBy h none:=by
 have U:=pI g;have V:(prog.info? 24).map (·.size)=some (bv key).length:=by rw[fC,g.1];exact mQ
 have X:=underlying24;have G:=k.2.1;subst G;obtain⟨b,c⟩:=exq ((w.alloc (.cells (cJ key) 24)).alloc (.cells #[.int .u8 0,.int .u8 0,.int .u8 0,.int .u8 0,.int .u8 0,.int .u8 0,.int .u8 0,.int .u8 0] 300));have i:w.grownBy b none:=by rw[c];exact ba (ba (aB w none) _) _
 have d:b.heap.size=w.heap.size+2:=by rw[c];simp
 have p:b.heap[w.heap.size+1]?=some (.cells #[.int .u8 0,.int .u8 0,.int .u8 0,.int .u8 0,.int .u8 0,.int .u8 0,.int .u8 0,.int .u8 0] 300 (0,0)):=by
  have:=aM (w.alloc (.cells (cJ key) 24)) (.cells #[.int .u8 0,.int .u8 0,.int .u8 0,.int .u8 0,.int .u8 0,.int .u8 0,.int .u8 0,.int .u8 0] 300);rw[dQ]at this;rw[c];exact this
 have z:b.drew.rangeAt w.heap.size 0 (bv key)/\b.grownBy b.drew (some (w.heap.size+1)):=by
  refine⟨?_,aW (aB _ _)⟩
  have:b.heap[w.heap.size]?=some (.cells (bv key).toArray 24 (0,0)):=by rw[c,fj _ _ _ (by simp)];exact aM _ _
  exact kj (w:=b.drew) this
 have H:=J (Cf (k.ao i));have I:=J (λ(a:Option Addr)(n cap:Nat)(l:List Int)(W:World)=>B7 key a n cap l W g);have K:=J (λW=>Ce s 2 n W hs (by unfold W8;omega) F);clear k;go_enter func172,ntmps172;go_wp2_with fail;rw[<-c];replace i:=J i;replace d:=J d;replace p:=J p;clear c;go_region_held3 (λh=>h.rangeAt w.heap.size 0 (bv key)/\b.grownBy h (some (w.heap.size+1)))
  (first|with_reducible exact q|with_reducible exact A|with_reducible exact B|with_reducible exact C|with_reducible exact z|with_reducible exact qt (qt (qt (qt (qt (qt (qt (qt q _ _) _ _) _ _) _ _) _ _) _ _) _ _) _ _)
  (first
    |(go_at_call 223;refine(Z K _).mono ?_;rintro e L⟨Y,c1,rfl,r,f⟩;have C:=yB z f;have M:=J ((Z H).ao f);have al:w.heap.size+2<=L.heap.size:=(by have N:=f.size;have t:=Z d;have u:b.drew.heap.size=b.heap.size:=rfl;omega);have O:=J ((f.block (w.heap.size+1) (by have t:=Z d;have u:b.drew.heap.size=b.heap.size:=rfl;omega) (by simp)).trans (Z p)))
    |(refine uN (by rfl) _ _ (by rfl) b.drew.heap.size _ (aD s 2 n) (by rfl) r _ _ _ l (by rfl) (Z M) (by rw[tT];omega) f.size ?_;intro a3 c3 w3 D x _;have B:=J3 C r (aP _) (by have t:=Z d;have u:b.drew.heap.size=b.heap.size:=rfl;omega) x;have a0:=x.size;have P:=J ((x.block (w.heap.size+1) (by omega) (λe=>by have N:=(r.lt _ e.symm).1;have t:=Z d;have u:b.drew.heap.size=b.heap.size:=rfl;omega)).trans (Z O)))
    |(go_at_call 222;refine(Z I _ _ _ (aD s 2 n++l) _ D.gI (by rw[bH,tT];omega)).mono ?_;rintro e w4⟨rfl,y⟩;have A:=yB B y;have a2:=y.size;have Q:=J ((y.block (w.heap.size+1) (by omega) (by simp)).trans (Z P)))
    |(go_at_call 194;refine(vK _ _ (Cc key _ g D.1)).mono ?_;rintro e R⟨rfl,E⟩;rw[sf];have q:=yB A E;have S:=qS ((E.block (w.heap.size+1) (by omega) (by simp)).trans (Z Q));obtain⟨⟨z0,z1,z2,z3,z4,z5,z6,z7⟩,zf⟩:=S))
 go_wp2_with fail;refine cA (v:=.agg (bv (iD key s n l)).toArray) ?_ rfl ⟨rfl,?_⟩
 ·unfold iD;rw[sf];simp[results,results172,go_sem, *]
 have T:w.grownBy R none:=oU (cF (cX (Z i) (some (w.heap.size+1))) q.2 (λj e=>.inr rfl)) (by omega);iterate 8 (refine aI ?_ _ _ (.inl (b9 _)))
 exact T
theorem OT(b:W8 p)(a:W8 q):x8 (x8 p q) q=p:=by
 have c:=Cb b a;have e:x8 p q=((p.toNat^^^q.toNat:Nat):Int):=by unfold x8;rw[u8_xor p q b.1 b.2 a.1 a.2]
 rw[e]at c⊢;unfold x8;rw[u8_xor _ q c.1 c.2 a.1 a.2,nE,Nat.xor_assoc,Nat.xor_self,Nat.xor_zero];have:=b.1;omega
theorem OU(key:List Int)(s n:Int)(i:Nat):W8 (lu key s n i):=yz _ _
theorem Ee(key:List Int)(s n:Int)(l:List Int)(i:Nat)(h:i<l.length):(dN key s n l).getD i 0=x8 (l.getD i 0) (lu key s n i):=by
 simp[dN,jZ,List.getD,h]
theorem Ef(key:List Int)(s n:Int)(l:List Int)(hl:∀x∈l,W8 x):dN key s n (dN key s n l)=l:=by
 apply List.ext_getElem;rw[ng,ng];intro i b a;have c:i<(dN key s n l).length:=by rw[ng];exact a
 have e1:=Ee key s n (dN key s n l) i c;rw[Ee key s n l i a,OT (qe hl i) (OU key s n i)]at e1;simpa [List.getD,b,a]using e1
theorem OV(h:aV p):kT (fH p)=p:=by
 unfold aV at h;simp only[kT,fH,aa,mh,List.foldl_nil,Nat.reduceMul,Nat.reduceSub,Int.reducePow]
 omega
theorem zl(h:aV q):bp (dm L p q K)=q:=by
 unfold bp dm;rw[fg,List.take_left' (iC q)];exact OV h
theorem zo(key:List Int)(s n:Int)(l:List Int):bT (dm key s n l)=dN key s n l:=by
 unfold bT;rw[pK,dm,fg,List.drop_left' (iC n),rB,List.take_left' (ng _ _ _ _)]
theorem OW(key:List Int)(s n:Int)(l:List Int):qq (dm key s n l)=iD key s n (dN key s n l):=by
 unfold qq;rw[pK,dm,List.drop_left' (by simp[iC,ng];omega)]
theorem Eg(h:aV q):eC L p (dm L p q K)↔K.length+16<=300/\q<=4611686018427387903:=by
 unfold eC;rw[zl h,zo,OW,pK];simp
