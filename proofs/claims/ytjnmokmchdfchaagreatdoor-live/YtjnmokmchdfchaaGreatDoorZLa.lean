import Derived.Deep.QuietTactic
import Derived.Deep.RegionLaw
import Derived.Test.YtjnmokmchdfchaaGreatDoorZL0
set_option maxRecDepth 1000000
set_option maxHeartbeats 0
set_option linter.all false
namespace Go.Proofs.YtjnmokmchdfchaaGreatDoor
open Go.RowKit Tryz
open Go.Value renaming int→ι,slice→σ,bool→β,pointer→π,agg→ε,string→ς,tuple→τ
open Go.IntKind renaming i64→δ,u64→η,u8→Δ
open Go.Ending renaming returned→ξ
open Go.Obj renaming cells→ο
open Or renaming inl→φ,inr→ψ
open Option renaming some→μ,none→ν
open Bool renaming true→ρ,false→θ
open Go renaming World→ω,Value→υ
open Go.World renaming grownBy→γ,cell?→κ,frozen?→χ,setCell→ζ
attribute[local go_sem↓]Go.wp_at_zero Go.wp_at_succ
variable{p q r t:Int}{K L:List Int}{b i j k m n o:Nat}{O a:Option Addr}{T:TypeId}{x y z:υ}{V W v w:ω}
def K0(k:Nat)(a:k<=63):bits .and η (k:Int) 63=k:=by
 have:=u64_and_nat k 63 (by omega) (by omega);rw[show((63:Nat):Int)=63 from rfl]at this;rw[this,show(63:Nat)=2^6-1 from rfl,Nat.and_two_pow_sub_one_eq_mod];omega
def tB(x:Int)(k:Nat)(w:ω)(b:aW x)(c:k<=63)(h0:0<k):Calls prog 306 #[ι η x,ι δ k] w λe d=>e=ξ (ι η (rotl x k))/\d=w:=by
 have f:=K0 k c;have a:=GK b k c h0;rw[Int.natCast_pow,Int.natCast_pow]at a;replace a:=J a;obtain⟨g,h⟩:=b;go_enter func306,ntmps306;go_wp2;go_ret;exact⟨fD (λz=>Ending.returned (ι η z)) (Z a),rfl⟩
def St(B:Nat)(a b c d:Int)(e w:ω):Prop:=w.heap[B]?=μ (ο #[ι η a,ι η b,ι η c,ι η d] 393 (0,0))/\γ e w (μ B)
def St.cells(h:St n p q r t W w):(κ w ⟨n,0,ν⟩=μ (ι η p)/\κ w ⟨n,1,ν⟩=μ (ι η q)/\κ w ⟨n,2,ν⟩=μ (ι η r)/\κ w ⟨n,3,ν⟩=μ (ι η t))/\(∀o,χ w ⟨n,o,ν⟩=θ):=by
 obtain⟨h,_⟩:=h;simp[World.cell?,World.frozen?,h]
def St.drew(h:St n p q r t W w):St n p q r t W w.drew:=⟨h.1,aY h.2⟩
def St.s0(h:St n p q r t W w)(x:Int):St n x q r t W (ζ w ⟨n,0,ν⟩ (ι η x)):=⟨heap_set h.1 _,aM h.2 _ _ (ψ rfl)⟩
def St.s1(h:St n p q r t W w)(x:Int):St n p x r t W (ζ w ⟨n,1,ν⟩ (ι η x)):=⟨heap_set h.1 _,aM h.2 _ _ (ψ rfl)⟩
def St.s2(h:St n p q r t W w)(x:Int):St n p q x t W (ζ w ⟨n,2,ν⟩ (ι η x)):=⟨heap_set h.1 _,aM h.2 _ _ (ψ rfl)⟩
def St.s3(h:St n p q r t W w)(x:Int):St n p q r x W (ζ w ⟨n,3,ν⟩ (ι η x)):=⟨heap_set h.1 _,aM h.2 _ _ (ψ rfl)⟩
def nZ(B:Nat)(s:S4)(e w:ω):Prop:=St B s.a s.b s.c s.d e w
def K3(B:Nat)(a b c d:Int)(m w:ω)(h:St B a b c d m w)(K:aW b)(L:aW d):Calls prog 304 #[π (μ ⟨B,0,ν⟩)] w λe p=>e=ξ (τ #[])/\nZ B (pC ⟨a,b,c,d⟩) m p:=by
 have f:=h;obtain⟨⟨h0,g,i,j⟩,k⟩:=h.cells;clear h;go_enter func304,ntmps304;go_upto_region 0 with fail;go_cut [] (λwx=>St B (IntKind.u64.wrap (a+b)) b c d m wx);case first=>
  go_region;all_goals
   go_wp2
   go_meet
   exact(f.s0 _).drew
 case rest=>
  clear h0 g i j k f;obtain⟨q,u⟩:=exq (IntKind.u64.wrap (a+b));rw[<-u]at hcut;have H:aW q:=by rw[u];exact pB _ _
  replace u:=J u;have f:=hcut;obtain⟨⟨h0,g,i,j⟩,k⟩:=hcut.cells;clear hcut;go_upto_region 1 with fail;go_cut [] (λwx=>St B q (bits .xor η (rotl b 13) q) c d m wx);case first=>
   go_region_with (first|(go_at_call 306;apply(tB b 13 _ (by assumption) (by decide) (by decide)).mono;rintro e p⟨rfl,rfl⟩));all_goals
    go_wp2
    go_meet
    exact(f.s1 _).drew
  case rest=>
   clear h0 g i j k f;obtain⟨l,v⟩:=exq (bits .xor η (rotl b 13) q);rw[<-v]at hcut;have M:aW l:=by rw[v];exact jz (py K 13) H
   replace v:=J v;have f:=hcut;obtain⟨⟨h0,g,i,j⟩,k⟩:=hcut.cells;clear hcut;go_upto_region 2 with fail;go_cut [] (λwx=>St B (rotl q 32) l c d m wx);case first=>
    go_region_with (first|(go_at_call 306;apply(tB q 32 _ (by assumption) (by decide) (by decide)).mono;rintro e p⟨rfl,rfl⟩));all_goals
     go_wp2
     go_meet
     exact(f.s0 _).drew
   case rest=>
    clear h0 g i j k f;obtain⟨x,y⟩:=exq (rotl q 32);rw[<-y]at hcut;have R:aW x:=by rw[y];exact py H 32
    replace y:=J y;have f:=hcut;obtain⟨⟨h0,g,i,j⟩,k⟩:=hcut.cells;clear hcut;go_upto_region 3 with fail;go_cut [] (λwx=>St B x l (IntKind.u64.wrap (c+d)) d m wx);case first=>
     go_region;all_goals
      go_wp2
      go_meet
      exact(f.s2 _).drew
    case rest=>
     clear h0 g i j k f;obtain⟨n,z⟩:=exq (IntKind.u64.wrap (c+d));rw[<-z]at hcut;have N:aW n:=by rw[z];exact pB _ _
     replace z:=J z;have f:=hcut;obtain⟨⟨h0,g,i,j⟩,k⟩:=hcut.cells;clear hcut;go_upto_region 4 with fail;go_cut [] (λwx=>St B x l n (bits .xor η (rotl d 16) n) m wx);case first=>
      go_region_with (first|(go_at_call 306;apply(tB d 16 _ (by assumption) (by decide) (by decide)).mono;rintro e p⟨rfl,rfl⟩));all_goals
       go_wp2
       go_meet
       exact(f.s3 _).drew
     case rest=>
      clear h0 g i j k f;obtain⟨r,A⟩:=exq (bits .xor η (rotl d 16) n);rw[<-A]at hcut;have O:aW r:=by rw[A];exact jz (py L 16) N
      replace A:=J A;have f:=hcut;obtain⟨⟨h0,g,i,j⟩,k⟩:=hcut.cells;clear hcut;go_upto_region 5 with fail;go_cut [] (λwx=>St B (IntKind.u64.wrap (x+r)) l n r m wx);case first=>
       go_region;all_goals
        go_wp2
        go_meet
        exact(f.s0 _).drew
      case rest=>
       clear h0 g i j k f;obtain⟨s,C⟩:=exq (IntKind.u64.wrap (x+r));rw[<-C]at hcut;have P:aW s:=by rw[C];exact pB _ _
       replace C:=J C;have f:=hcut;obtain⟨⟨h0,g,i,j⟩,k⟩:=hcut.cells;clear hcut;go_upto_region 6 with fail;go_cut [] (λwx=>St B s l n (bits .xor η (rotl r 21) s) m wx);case first=>
        go_region_with (first|(go_at_call 306;apply(tB r 21 _ (by assumption) (by decide) (by decide)).mono;rintro e p⟨rfl,rfl⟩));all_goals
         go_wp2
         go_meet
         exact(f.s3 _).drew
       case rest=>
        clear h0 g i j k f;obtain⟨G,D⟩:=exq (bits .xor η (rotl r 21) s);rw[<-D]at hcut;have S:aW G:=by rw[D];exact jz (py O 21) P
        replace D:=J D;have f:=hcut;obtain⟨⟨h0,g,i,j⟩,k⟩:=hcut.cells;clear hcut;go_upto_region 7 with fail;go_cut [] (λwx=>St B s l (IntKind.u64.wrap (n+l)) G m wx);case first=>
         go_region;all_goals
          go_wp2
          go_meet
          exact(f.s2 _).drew
        case rest=>
         clear h0 g i j k f;obtain⟨t,E⟩:=exq (IntKind.u64.wrap (n+l));rw[<-E]at hcut;have Q:aW t:=by rw[E];exact pB _ _
         replace E:=J E;have f:=hcut;obtain⟨⟨h0,g,i,j⟩,k⟩:=hcut.cells;clear hcut;go_upto_region 8 with fail;go_cut [] (λwx=>St B s (bits .xor η (rotl l 17) t) t G m wx);case first=>
          go_region_with (first|(go_at_call 306;apply(tB l 17 _ (by assumption) (by decide) (by decide)).mono;rintro e p⟨rfl,rfl⟩));all_goals
           go_wp2
           go_meet
           exact(f.s1 _).drew
         case rest=>
          clear h0 g i j k f;obtain⟨I,F⟩:=exq (bits .xor η (rotl l 17) t);rw[<-F]at hcut;have T:aW I:=by rw[F];exact jz (py M 17) Q
          replace F:=J F;have f:=hcut;obtain⟨⟨h0,g,i,j⟩,k⟩:=hcut.cells;clear hcut;go_upto_region 9 with fail;go_region_with (first|(go_at_call 306;apply(tB t 32 _ (by assumption) (by decide) (by decide)).mono;rintro e p⟨rfl,rfl⟩));all_goals
           go_end0
           refine⟨rfl,?_⟩
           have e:pC ⟨a,b,c,d⟩=⟨s,I,rotl t 32,G⟩:=by
            obtain rfl:=Z u;obtain rfl:=Z v;obtain rfl:=Z y;obtain rfl:=Z z;obtain rfl:=Z A;obtain rfl:=Z C;obtain rfl:=Z D;obtain rfl:=Z E;obtain rfl:=Z F;rfl
           rw[e];exact(f.s2 _).drew
def mK(s:S4):Nat->S4
 |0=>s
 |k+1=>pC (mK s k)
def K4{s:S4}(h:s.ok)(k:Nat):(mK s k).ok:=by
 induction k with
 |zero=>exact h
 |succ k a=>exact rL a
def Dz(B n:Nat)(s:S4)(a w:ω)(h:nZ B s a w)(hs:s.ok)(g:n<=100):Calls prog 294 #[π (μ ⟨B,0,ν⟩),ι δ n] w λe b=>e=ξ (τ #[])/\nZ B (mK s n) a b:=by
 go_enter func294,ntmps294;go_wp2;go_loopw [5] (λi wr=>∃k:Nat,k<=n/\i=ι δ k/\nZ B (mK s k) a wr) (λi _=>n-(intOf i).toNat);case atStart=>exact⟨0,by omega,rfl,h⟩
 case round=>
  obtain⟨k,j,rfl,c⟩:=hrel;have d:=K4 hs k;by_cases l:k<n
  ·go_wp2_with (first|(go_at_call 304;apply(K3 B _ _ _ _ a _ c d.2.1 d.2.2.2).mono;rintro e b⟨rfl,f⟩));go_roundw;case rel=>exact⟨k+1,by omega,by go_num,f⟩
   case measure=>simp[intOf];omega
  obtain rfl:k=n:=by omega
  go_wp2;go_end0;exact⟨rfl,c⟩
def DA(B:Nat)(s:S4)(m:Int)(f w:ω)(h:nZ B s f w)(hs:s.ok)(y:aW m):Calls prog 261 #[π (μ ⟨B,0,ν⟩),ι η m] w λe k=>e=ξ (τ #[])/\nZ B (sQ s m) f k:=by
 obtain⟨a,b,c,d⟩:=s;have g:St B a b c d f w:=h;obtain⟨⟨h0,l,n,p⟩,q⟩:=h.cells;clear h;go_enter func261,ntmps261;go_upto_region 0 with fail;go_cut [] (λwx=>nZ B ⟨a,b,c,xo d m⟩ f wx);case first=>
  go_region;all_goals
   go_wp2
   go_meet
   exact(g.s3 _).drew
 case rest=>
  clear h0 l n p q g;have z:(S4.mk a b c (xo d m)).ok:=⟨hs.1,hs.2.1,hs.2.2.1,jz hs.2.2.2 y⟩
  go_wp2_with (first|(go_at_call 294;apply(Dz B 2 _ f _ hcut z (by decide)).mono;rintro e k⟨rfl,i⟩));obtain⟨t,j⟩:=exq (mK ⟨a,b,c,xo d m⟩ 2);rw[<-j]at i;obtain⟨r,u,v,x⟩:=t;have A:Hid (sQ ⟨a,b,c,d⟩ m=⟨xo r m,u,v,x⟩):=by
   show S4.mk (xo (mK ⟨a,b,c,xo d m⟩ 2).a m) (mK ⟨a,b,c,xo d m⟩ 2).b (mK ⟨a,b,c,xo d m⟩ 2).c (mK ⟨a,b,c,xo d m⟩ 2).d=_;rw[<-j]
  clear j;have g:St B r u v x f _:=i;obtain⟨⟨h0,l,n,p⟩,q⟩:=g.cells;clear hcut i;go_region;all_goals
   go_end0
   refine⟨rfl,?_⟩
   rw[Z A]
   exact(g.s0 _).drew
def K6(B:Nat)(s:S4)(f w:ω)(h:nZ B s f w)(hs:s.ok):Calls prog 263 #[π (μ ⟨B,0,ν⟩)] w λe k=>e=ξ (ι η (uB s))/\γ f k (μ B):=by
 obtain⟨a,b,c,d⟩:=s;have g:St B a b c d f w:=h;obtain⟨⟨h0,l,m,n⟩,p⟩:=h.cells;clear h;go_enter func263,ntmps263;go_upto_region 1 with fail;go_cut [] (λwx=>nZ B ⟨a,b,xo c 255,d⟩ f wx);case first=>
  go_region;all_goals
   go_wp2
   go_meet
   exact(g.s2 _).drew
 case rest=>
  clear h0 l m n p g;have x:(S4.mk a b (xo c 255) d).ok:=⟨hs.1,hs.2.1,jz hs.2.2.1 (by unfold aW;omega),hs.2.2.2⟩
  go_wp2_with (first|(go_at_call 294;apply(Dz B 4 _ f _ hcut x (by decide)).mono;rintro e k⟨rfl,i⟩));obtain⟨t,j⟩:=exq (mK ⟨a,b,xo c 255,d⟩ 4);rw[<-j]at i;obtain⟨q,r,u,v⟩:=t;have y:Hid (uB ⟨a,b,c,d⟩=xo (xo (xo q r) u) v):=by
   show xo (xo (xo (mK ⟨a,b,xo c 255,d⟩ 4).a (mK ⟨a,b,xo c 255,d⟩ 4).b) (mK ⟨a,b,xo c 255,d⟩ 4).c) (mK ⟨a,b,xo c 255,d⟩ 4).d=_;rw[<-j]
  clear j;have g:St B q r u v f _:=i;obtain⟨⟨h0,l,m,n⟩,p⟩:=g.cells;clear hcut i;go_quiet (fail);go_wp2;go_ret;exact⟨by rw[Z y];rfl,dv g.2 _⟩
def cV(key:List Int):Array υ:=(bv key).toArray
def eP(key:List Int):Prop:=key.length=16/\∀x∈key,W8 x
def qm(h:eP L):(cV L).size=16:=by simp[cV,bv,h.1]
def vq{fr:Nat×Nat}(h:w.heap[b]?=μ (ο (bv L).toArray T fr))(hl:∀x∈L,W8 x)(o:Nat):BS w b o (L.drop o):=by
 refine⟨λi hi=>?_,λx a=>hl x (iH a)⟩
 rw[dO]at hi;have:=uC L (o+i) (by omega);simp only[World.cell?,h]
 simpa [lC]using this
def BS.take(h:BS w b o L)(n:Nat):BS w b o (L.take n):=by
 refine⟨λi hi=>?_,λx a=>h.2 x (jg a)⟩
 rw[ct]at hi;rw[h.1 i (by omega)];simp[show i<n by omega]
def BS.drop(h:BS w b o L)(n:Nat):BS w b (o+n) (L.drop n):=by
 refine⟨λi hi=>?_,λx a=>h.2 x (iH a)⟩
 rw[dO]at hi;have:=h.1 (n+i) (by omega);rw[show o+n+i=o+(n+i) by omega,this];simp[lC]
def z9(s:S4)(k:Nat)(l:List Int):mY s (k+1) l=mY (sQ s (iw (l.take 8))) k (l.drop 8):=by rw[mY]
def DB(s:S4)(l:List Int):mY s 0 l=s:=by rw[mY]
def Aa(s:S4)(k:Nat)(l:List Int):mY s (k+1) l=sQ (mY s k l) (iw ((l.drop (8*k)).take 8)):=by
 induction k generalizing s l with
 |zero=>rw[z9,DB,DB,Nat.mul_zero,qI]
 |succ k a=>
  rw[z9,a,uv,z9 s k l];rw[show 8+8*k=8*(k+1) by omega]
def vs(h:∀x∈L,W8 x)(hl:L.length<=8:=by omega):aW (iw L):=by
 have a:=yX L h;have b:=Bw L.length hl;exact⟨a.1,by omega⟩
def DC(h:eP L):(gY L).ok:=by
 have b:aW (iw (L.take 8)):=vs (λx a=>h.2 x (jg a)) (by simp[h.1]);have c:aW (iw (L.drop 8)):=vs (λx a=>h.2 x (iH a)) (by simp[h.1]);exact⟨jz b (by unfold aW;omega),jz c (by unfold aW;omega),jz b (by unfold aW;omega),jz c (by unfold aW;omega)⟩
def xQ{s:S4}(h:s.ok)(hl:∀x∈L,W8 x)(k:Nat):(mY s k L).ok:=by
 induction k with
 |zero=>exact h
 |succ k a=>rw[Aa];exact GL a (vs (λx b=>hl x (iH (jg b))) (by simp;omega))
def DD(hl:∀x∈L,W8 x)(n:Int):∀x∈pX L n,W8 x:=by
 intro x a;simp only[pX,bL,List.mem_replicate,cA]at a;obtain(a|⟨_,rfl⟩)|rfl:=a
 exact hl x a;unfold W8;omega;unfold W8;omega
def DE:υ->Nat|σ _ n _=>n|_=>0
def K9(key:List Int)(w:ω)(i:eP key):Calls prog 260 #[ε (cV key)] w λe g=>
 e=ξ (ε #[ι η (gY key).a,ι η (gY key).b,ι η (gY key).c,ι η (gY key).d])/\γ w g ν:=by
 have n:=qm i;obtain⟨j,k⟩:=i;have l:(w.alloc (ο (cV key) 24)).heap[w.heap.size]?=μ (ο (cV key) 24 (0,0)):=aO w _;have b1:∀W:ω,W.heap[w.heap.size]?=μ (ο (cV key) 24 (0,0))->BS W w.heap.size 0 (key.take 8):=λW h=>by
  have:=(vq h k 0).take 8;rwa[qI]at this
 have b2:∀W:ω,W.heap[w.heap.size]?=μ (ο (cV key) 24 (0,0))->BS W w.heap.size 8 (key.drop 8):=λW h=>vq h k 8
 have f:(((w.alloc (ο (cV key) 24)).alloc (ο #[ι η 0,ι η 0,ι η 0,ι η 0] 393))).heap[w.heap.size]?=μ (ο (cV key) 24 (0,0)):=by
  rw[fS _ _ _ (by simp)];exact l
 obtain⟨K,m⟩:=exq (cV key);rw[<-m]at n b1 b2 f⊢;clear l m;replace⟨f,b1,b2⟩:=cz f b1 b2;go_enter func260,ntmps260;go_wp2_with fail;go_region_with (first
  |(go_at_call_of 262 (Value.slice (μ ⟨w.heap.size,0,ν⟩) 8 16);refine(wL _ _ _ (key.take 8) _ ?_ (by simp[j]) (by decide)).mono ?_;exact Z b1 _ (Z f);rintro e g⟨rfl,rfl⟩)
  |(go_at_call_of 262 (Value.slice (μ ⟨w.heap.size,8,ν⟩) 8 8);refine(wL _ _ _ (key.drop 8) _ ?_ (by simp[j]) (by decide)).mono ?_;exact Z b2 _ (Z f);rintro e g⟨rfl,rfl⟩))
 all_goals
  go_wp2
  refine df (v:=ε #[ι η (gY key).a,ι η (gY key).b,ι η (gY key).c,ι η (gY key).d]) ?_ rfl ⟨rfl,?_⟩
  ·simp[results,results260,go_sem,gY,xo]
  first|exact aY (bk (bk (aD _ _) _) _)|exact bk (bk (aD _ _) _) _
def La(l:List Int)(n:Int)(k:Nat)(h:8*k+8<=l.length):((pX l n).drop (8*k)).take 8=(l.drop (8*k)).take 8:=by
 simp only[pX,fm]
 rw[Br (by omega),wj (by simp;omega)]
def Lb(l:List Int)(n:Int):((pX l n).drop (8*(l.length/8))).take 8=splice [0,0,0,0,0,0,0,n %256] 0 ((l.drop (8*(l.length/8))).take 8):=by
 have a:(l.drop (8*(l.length/8))).length=l.length %8:=by simp;omega
 simp only[pX,fm]
 rw[Br (by omega)];generalize l.drop (8*(l.length/8))=r at *;have b:r.length<8:=by omega
 rw[<-a];have e:r.take 8=r:=tL_;rw[e,splice,List.take_zero,jL,ep];rw[jx (by simp;omega)];congr 1;obtain _|⟨_,_|⟨_,_|⟨_,_|⟨_,_|⟨_,_|⟨_,_|⟨_,_|⟨_,r⟩⟩⟩⟩⟩⟩⟩⟩:=r<;>first|rfl|(simp at b;omega)
def DF(a:∀x∈L,W8 x)(b:n=(L.drop 8).length)(c:n<=j)(d:j<=maxLen)(e:BS W k o L)(h:i=o+8\/(L.drop 8).length=0):bN W (μ ⟨k,i,ν⟩) n j (L.drop 8):=by
 refine⟨λx f=>a x (iH f),b,c,d,ψ ⟨k,i,rfl,?_⟩⟩
 obtain rfl|h:=h
 exact e.drop 8;rw[kJ h];exact BS.nil _ _ _
def Lc(b:a=O)(c:n=m)(d:k=i):Value.slice a n k=σ O m i:=by rw[b,c,d]
def DG(key:List Int)(a:Option Addr)(n cap:Nat)(l:List Int)(w:ω)(z:eP key)(p:bN w a n cap l)(bt:l.length<=100000000):Calls prog 222 #[ε (cV key),σ a n cap] w λe w'=>
 e=ξ (ι η (dh key l))/\γ w w' ν:=by
 have al:=qm z;have A:=λW=>K9 key W z
 have hK:eP key:=z;obtain⟨K,E⟩:=exq (cV key);rw[<-E];simp only[<-E]at A al;clear E;replace A:=J A;have a3:n=l.length:=p.2.1;subst a3;go_enter func222,ntmps222;go_wp2_with (refine rM _ (by rfl) (by rfl) _ (by rfl) K ?_ al ?_;exact aO _ _);apply(Z A _).mono;rintro e f⟨rfl,F⟩;go_wp2_with fail;obtain⟨r,t⟩:=exq ((f.alloc (ο #[ι η (gY key).a,ι η (gY key).b,ι η (gY key).c,ι η (gY key).d] 393)).alloc (ο #[ι Δ 0,ι Δ 0,ι Δ 0,ι Δ 0,ι Δ 0,ι Δ 0,ι Δ 0,ι Δ ((l.length:Int) %256)] 299));have G:γ w r ν:=by rw[t];exact bk (bk (aq (bk (aD w ν) _) F) _) _
 have a4:nZ f.heap.size (gY key) r r:=by
  refine⟨?_,aD _ _⟩
  rw[t,fS _ _ _ (by simp)];exact aO _ _
 have B:r.heap[f.heap.size+1]?=μ (ο (bv [0,0,0,0,0,0,0,(l.length:Int) %256]).toArray 299 (0,0)):=by
  have:=aO (f.alloc (ο #[ι η (gY key).a,ι η (gY key).b,ι η (gY key).c,ι η (gY key).d] 393)) (ο #[ι Δ 0,ι Δ 0,ι Δ 0,ι Δ 0,ι Δ 0,ι Δ 0,ι Δ 0,ι Δ ((l.length:Int) %256)] 299);rw[eh]at this;rw[t];exact this
 have bx:w.heap.size<f.heap.size:=by have:=F.size;rw[eh]at this;omega
 have H:=p.au G;rw[<-t];clear t F;have I:=DC hK;have u:=DD p.1 (l.length:Int);have L:Hid (dh key l=uB (mY (gY key) (l.length/8+1) (pX l l.length))):=rfl;have C:=La l (l.length:Int);have s:=Lb l (l.length:Int);obtain⟨P,hP⟩:=exq (pX l (l.length:Int));rw[<-hP]at u L s;simp only[<-hP]at C;replace⟨s,C⟩:=bD s C;clear hP;obtain⟨q,hq⟩:=exq (l.length/8);rw[<-hq]at L s;have q1:8*q<=l.length:=by omega
 have q2:l.length<8*q+8:=by omega
 clear hq;replace⟨H,B⟩:=bD H B;have M:∀x,a=μ x->l≠[]->x.block<w.heap.size:=λx e N=>by
  obtain⟨h,_⟩|⟨b,o,h,g⟩:=p.2.2.2.2
  rw[h]at e;cases e;rw[h]at e;cases e;exact g.lt N
 replace M:=J M;have bz:=p.2.2.1;have a8:=p.2.2.2.1;unfold maxLen at a8;go_loopw [1] (λv wr=>∃(k:Nat)(y:Option Addr),k<=q/\v=σ y (l.length-8*k) (cap-8*k)/\bN r y (l.length-8*k) (cap-8*k) (l.drop (8*k))/\(∀x,y=μ x->l.drop (8*k)≠[]->x.block<w.heap.size)/\nZ f.heap.size (mY (gY key) k P) r wr) (λv _=>DE v);case atStart=>exact⟨0,a,by omega,rfl,by simpa using Z H,by simpa using Z M,a4⟩
 case round=>
  obtain⟨k,y,z,rfl,O,D,i⟩:=hrel;replace D:=J D;by_cases bM:k<q
  ·have N:l.drop (8*k)≠[]:=by intro e;have:=fD List.length e;simp at this;omega
   obtain⟨ax,-,b0,b3,h5⟩:=O;obtain⟨rfl,h0⟩|⟨bb,o,rfl,g⟩:=h5
   omega;have aC:=Z D _ rfl N;have a0:BS wr bb o (l.drop (8*k)):=g.gb i.2 (by intro e;cases e;dsimp only at aC;omega);have m:=J (a0.take 8);have Q:((l.drop (8*k)).take 8).length=8:=by simp;omega
   have R:=J (Aa (gY key) k P);have S:=xQ I u k;have T:=vs (Z m).2;have a9:Hid (l.drop (8*(k+1))=(l.drop (8*k)).drop 8):=by
    show _=_;rw[uv];rfl
   replace g:=J g;clear a0;go_wp2_with fail;apply(wL _ _ _ _ _ (Z m) Q (by omega)).mono;rintro e w4⟨rfl,rfl⟩;go_wp2_with fail;apply(DA _ _ _ _ _ i S T).mono;rintro e w5⟨rfl,bj⟩;go_wp2_with fail;all_goals go_roundw
   all_goals first
    |(show _<_;simp[DE];omega)
    |(refine⟨k+1,_,by omega,Lc rfl (by omega) (by omega),?_,?_,by rw[Z R,Z C k (by omega)];exact bj⟩<;>rw[Z a9]<;>skip)
   split;exact DF ax (by simp;omega) (by omega) (by omega) (Z g) (ψ (by simp;omega));exact DF ax (by simp;omega) (by omega) (by omega) (Z g) (φ rfl);intro x e _;split at e<;>(cases e;exact aC)
  obtain rfl:k=q:=by omega
  have U:bN wr y (l.length-8*k) (cap-8*k) (l.drop (8*k)):=
   O.gb i.2 (λj e=>by
    cases e;right;by_cases hl:l.drop (8*k)=[]
    exact φ hl
    ·right;intro x e;have:=Z D x e hl;omega)
  have V:wr.heap[f.heap.size+1]?=μ (ο (bv [0,0,0,0,0,0,0,(l.length:Int) %256]).toArray 299 (0,0)):=(i.2.block _ (bg.1 (Z B)).1 (by simp)).trans (Z B);replace⟨U,V⟩:=bD U V;have S:=xQ I u k;clear O;go_wp2_with (refine uD _ _ (by rfl) (by rfl) (f.heap.size+1) 0 8 8 (by rfl) _ _ _ (by rfl) (l.drop (8*k)) (Z U) [0,0,0,0,0,0,0,(l.length:Int) %256] _ (Z V) ?_ ?_;(simp;omega);intro X Y g6);have br:nZ f.heap.size (mY (gY key) k P) X X:=⟨(g6.block _ (bg.1 i.1).1 (by simp)).trans i.1,aD _ _⟩
  have m:BS X (f.heap.size+1) 0 ((P.drop (8*k)).take 8):=by
   have a1:∀x∈(P.drop (8*k)).take 8,W8 x:=λx hx=>u x (iH (jg hx))
   rw[Z s]at a1⊢;have:=vq Y a1 0;rwa[qI]at this
  have Q:((P.drop (8*k)).take 8).length=8:=by rw[Z s,length_splice]<;>simp<;>omega
  have R:=J (Aa (gY key) k P);have T:=vs m.2;replace⟨m,Y⟩:=bD m Y;go_wp2_with fail;apply(wL _ _ _ _ _ (Z m) Q (by omega)).mono;rintro e w7⟨rfl,rfl⟩;go_wp2_with fail;apply(DA _ _ _ _ _ br S T).mono;rintro e w8⟨rfl,a2⟩;rw[<-Z R]at a2;go_wp2_with fail;apply(K6 _ _ _ _ a2 (xQ I u _)).mono;rintro e w9⟨rfl,g9⟩;go_wp2;go_ret;refine⟨by rw[Z L];rfl,?_⟩
  have b1:Below w.heap.size w wr:=(yW G).grown i.2 G.size (λj e=>by cases e;omega);have b2:=b1.grown g6 b1.size (λj e=>by cases e;omega);exact uA (b2.grown g9 b2.size (λj e=>by cases e;omega))
def aa(n:Int)(i:Nat):Int:=n/2^(56-8*i) %256
def gl(n:Int):List Int:=[aa n 0,aa n 1,aa n 2,aa n 3,aa n 4,aa n 5,aa n 6,aa n 7]
def Ab(n:Int)(i:Nat):W8 (aa n i):=by unfold aa W8;omega
def qo(n:Int):∀x∈gl n,W8 x:=by
 intro x a;simp only[gl,dY,sL,or_false]at a;obtain rfl|rfl|rfl|rfl|rfl|rfl|rfl|rfl:=a<;>exact Ab _ _
def iQ(n:Int):(gl n).length=8:=rfl
def Le(w:ω)(l:List Int)(hl:∀x∈l,W8 x)(c:l.length<=1000)(a:Nat)(b:a<=w.heap.size):bn (w.alloc (ο (bv l).toArray 5)) a (σ (μ ⟨w.heap.size,0,ν⟩) l.length l.length) l:=by
 refine⟨hl,by simp[bv],ψ ⟨w.heap.size,l.length,(bv l).toArray,rfl,b,aO w _,aP _,by simp[maxLen];omega,by simp[bv],?_⟩⟩
 exact jx (by simp[bv])
def tC(n:Int):(bv (gl n)).toArray= #[ι Δ (aa n 0),ι Δ (aa n 1),ι Δ (aa n 2),ι Δ (aa n 3),ι Δ (aa n 4),ι Δ (aa n 5),ι Δ (aa n 6),ι Δ (aa n 7)]:=rfl
def tD:Array υ:= #[ι Δ 0,ι Δ 0,ι Δ 0,ι Δ 0,ι Δ 0,ι Δ 0,ι Δ 0,ι Δ 0]
def xR(n:Int)(w:ω)(a:aW n):Calls prog 194 #[ι η n] w λe b=>e=ξ (ε (bv (gl n)).toArray)/\γ w b ν:=by
 obtain⟨n0,c⟩:=a;rw[tC];go_enter func194,ntmps194;go_wp2_with fail;refine wp_loop_rounds 9 ?_;iterate 8 (rw[rounds_succ];go_wp2_with fail)
 rw[rounds_succ];go_wp2_with fail;refine df (v:=ε #[ι Δ (aa n 0),ι Δ (aa n 1),ι Δ (aa n 2),ι Δ (aa n 3),ι Δ (aa n 4),ι Δ (aa n 5),ι Δ (aa n 6),ι Δ (aa n 7)]) ?_ rfl ⟨rfl,?_⟩
 ·simp[results,results194,go_sem,aa];omega
 exact bk (bk (aD _ _) _) _
def rX{a c d e f:υ}(h:w.heap[b]?=μ (ο #[x,y,z,a,c,d,e,f] T (0,0))):(κ w ⟨b,0,ν⟩=μ x/\κ w ⟨b,1,ν⟩=μ y/\κ w ⟨b,2,ν⟩=μ z/\κ w ⟨b,3,ν⟩=μ a/\κ w ⟨b,4,ν⟩=μ c/\κ w ⟨b,5,ν⟩=μ d/\κ w ⟨b,6,ν⟩=μ e/\κ w ⟨b,7,ν⟩=μ f)/\∀o,χ w ⟨b,o,ν⟩=θ:=by
 simp[World.cell?,World.frozen?,h]
def Ac(h:L.length=8):∃a b c d e f g i,L=[a,b,c,d,e,f,g,i]:=by
 match L,h with
 |[a,b,c,d,e,f,g,i],_=>exact⟨a,b,c,d,e,f,g,i,rfl⟩
def Lf(a:((w.alloc (ο #[ι Δ 0,ι Δ 0,ι Δ 0,ι Δ 0,ι Δ 0,ι Δ 0,ι Δ 0,ι Δ 0] 300)).alloc (ο #[ι Δ 0,ι Δ 0,ι Δ 0,ι Δ 0,ι Δ 0,ι Δ 0,ι Δ 0,ι Δ 0] 300)).grownBy W (μ (w.heap.size+1))):
 W.heap[w.heap.size]?=μ (ο #[ι Δ 0,ι Δ 0,ι Δ 0,ι Δ 0,ι Δ 0,ι Δ 0,ι Δ 0,ι Δ 0] 300 (0,0)):=by
 refine(a.block w.heap.size (by simp;omega) (by simp)).trans ?_;rw[fS _ _ _ (by simp)];exact aO _ _
def DH(a:Option Addr)(n c:Nat)(l:List Int)(w:ω)(y:bN w a n c l)(hl:8<=l.length):Calls prog 170 #[σ a n c] w λe z=>e=ξ (ε (bv (l.take 8)).toArray)/\γ w z ν:=by
 have A:=J (y.au (bk (bk (aD w ν) (ο tD 300)) (ο tD 300)));have f:=aO (w.alloc (ο tD 300)) (ο tD 300);rw[eh]at f;have g:((w.alloc (ο tD 300)).alloc (ο tD 300)).heap[w.heap.size+1]?=μ (ο (bv [0,0,0,0,0,0,0,0]).toArray 300 (0,0)):=f;replace g:=J g;clear f;have h:(l.take 8).length=8:=by simp;omega
 obtain⟨i,k,m,p,q,r,s,t,b⟩:=Ac h;rw[b];clear h;replace b:=J b;go_enter func170,ntmps170;go_wp2_with (refine uD _ _ (by rfl) (by rfl) (w.heap.size+1) 0 8 8 (by rfl) _ _ _ (by rfl) l (Z A) [0,0,0,0,0,0,0,0] _ (Z g) ?_ ?_;(rw[Z b];simp);(rw[Z b];intro u d x;replace d:u.heap[w.heap.size+1]?=μ (ο #[ι Δ i,ι Δ k,ι Δ m,ι Δ p,ι Δ q,ι Δ r,ι Δ s,ι Δ t] 300 (0,0)):=d;replace d:=rX d;have B:=rX (Lf x);obtain⟨⟨D,E,F,k3,k4,k5,G,H⟩,I⟩:=d;obtain⟨⟨K,L,z2,M,N,O,P,Q⟩,R⟩:=B));refine df (v:=ε #[ι Δ i,ι Δ k,ι Δ m,ι Δ p,ι Δ q,ι Δ r,ι Δ s,ι Δ t]) ?_ rfl ⟨rfl,?_⟩
 ·simp[results,results170,go_sem, *]
 have C:γ w u ν:=cT (bk (bk (aD w ν) _) _) x (λj e=>by cases e;left;omega);repeat(refine aM ?_ _ _ (φ (aP _)))
 exact C
def lM(l:List Int):Int:=l.foldl (λn x=>n*256+x) 0
def Lg(l:List Int)(x:Int):lM (l++[x])=lM l*256+x:=by simp[lM]
def DI(l:List Int)(j:Nat)(h:j<l.length):lM (l.take (j+1))=lM (l.take j)*256+l.getD j 0:=by
 rw[sH h,Lg,oy,dT h];rfl
def vu(l:List Int)(h:∀x∈l,W8 x):∀j,j<=l.length->0<=lM (l.take j)/\lM (l.take j)<256^j
 |0,_=>by simp[lM]
 |j+1,b=>by
  have c:=vu l h j (by omega);have a:=qL h j;unfold W8 at a;rw[DI l j (by omega),Int.pow_succ];generalize (256:Int)^j=p at *;omega
def Lh(n x:Int)(h0:0<=n)(d:n<72057594037927936)(a:W8 x):bits .or η (n*256) x=n*256+x:=by
 obtain⟨c,f⟩:=a;obtain⟨m,rfl⟩:=qE h0;obtain⟨y,rfl⟩:=qE c;have e:((m:Int)*256)=((m*256:Nat):Int):=by omega
 rw[e,u64_or_nat _ _ (by omega) (by omega)];have:=yQ (i:=8) (b:=y) (by omega) m;rw[Nat.shiftLeft_eq]at this;rw[show m*256=m*2^8 from rfl,<-this];omega
def Li(a b c d e f g h:Int)(w:ω):(Instr.index 300 (ε #[ι Δ a,ι Δ b,ι Δ c,ι Δ d,ι Δ e,ι Δ f,ι Δ g,ι Δ h]) (ι δ 0)).run prog w=.ok (ι Δ a) w:=by kernel_rfl
def Lj(b a c d e f g h:Int)(w:ω):(Instr.index 300 (ε #[ι Δ b,ι Δ a,ι Δ c,ι Δ d,ι Δ e,ι Δ f,ι Δ g,ι Δ h]) (ι δ 1)).run prog w=.ok (ι Δ a) w:=by kernel_rfl
def Lk(b c a d e f g h:Int)(w:ω):(Instr.index 300 (ε #[ι Δ b,ι Δ c,ι Δ a,ι Δ d,ι Δ e,ι Δ f,ι Δ g,ι Δ h]) (ι δ 2)).run prog w=.ok (ι Δ a) w:=by kernel_rfl
def Ll(b c d a e f g h:Int)(w:ω):(Instr.index 300 (ε #[ι Δ b,ι Δ c,ι Δ d,ι Δ a,ι Δ e,ι Δ f,ι Δ g,ι Δ h]) (ι δ 3)).run prog w=.ok (ι Δ a) w:=by kernel_rfl
def Lm(b c d e a f g h:Int)(w:ω):(Instr.index 300 (ε #[ι Δ b,ι Δ c,ι Δ d,ι Δ e,ι Δ a,ι Δ f,ι Δ g,ι Δ h]) (ι δ 4)).run prog w=.ok (ι Δ a) w:=by kernel_rfl
def Ln(b c d e f a g h:Int)(w:ω):(Instr.index 300 (ε #[ι Δ b,ι Δ c,ι Δ d,ι Δ e,ι Δ f,ι Δ a,ι Δ g,ι Δ h]) (ι δ 5)).run prog w=.ok (ι Δ a) w:=by kernel_rfl
def Lo(b c d e f g a h:Int)(w:ω):(Instr.index 300 (ε #[ι Δ b,ι Δ c,ι Δ d,ι Δ e,ι Δ f,ι Δ g,ι Δ a,ι Δ h]) (ι δ 6)).run prog w=.ok (ι Δ a) w:=by kernel_rfl
def Lp(b c d e f g h a:Int)(w:ω):(Instr.index 300 (ε #[ι Δ b,ι Δ c,ι Δ d,ι Δ e,ι Δ f,ι Δ g,ι Δ h,ι Δ a]) (ι δ 7)).run prog w=.ok (ι Δ a) w:=by kernel_rfl
def DJ(a b c d e f g h:Int)(j:Nat)(i:j<8)(w:ω):(Instr.index 300 (ε #[ι Δ a,ι Δ b,ι Δ c,ι Δ d,ι Δ e,ι Δ f,ι Δ g,ι Δ h]) (ι δ j)).run prog w=.ok (ι Δ ([a,b,c,d,e,f,g,h].getD j 0)) w:=by
 have:j=0\/j=1\/j=2\/j=3\/j=4\/j=5\/j=6\/j=7:=by omega
 obtain rfl|rfl|rfl|rfl|rfl|rfl|rfl|rfl:=this
 exact Li _ _ _ _ _ _ _ _ w;exact Lj _ _ _ _ _ _ _ _ w;exact Lk _ _ _ _ _ _ _ _ w;exact Ll _ _ _ _ _ _ _ _ w;exact Lm _ _ _ _ _ _ _ _ w;exact Ln _ _ _ _ _ _ _ _ w;exact Lo _ _ _ _ _ _ _ _ w;exact Lp _ _ _ _ _ _ _ _ w
def Lq(l:List Int)(w:ω)(g:l.length=8)(h:∀x∈l,W8 x):Calls prog 171 #[ε (bv l).toArray] w λe s=>e=ξ (ι η (lM l))/\γ w s ν:=by
 have hi:∀(j:Nat)(w:ω),j<8->(Instr.index 300 (ε (bv l).toArray) (ι δ j)).run prog w=.ok (ι Δ (l.getD j 0)) w:=by
  obtain⟨t,u,z,A,B,C,D,E,rfl⟩:=Ac g;exact λj w k=>DJ _ _ _ _ _ _ _ _ j k w
 have a:=vu l h;have b:=DI l;have c:lM l=lM (l.take 8):=by rw[tL_]
 have d:=qL h;have p:(bv l).toArray.size=8:=by simp[bv,g]
 obtain⟨K,f⟩:=exq ((bv l).toArray);rw[<-f]at p⊢;simp only[<-f]at hi;clear f;replace⟨c,b,a,d,hi⟩:=fF c b a d hi;go_enter func171,ntmps171;go_wp2_with (refine pU (by rfl) 300 _ (by rfl) w.heap.size (by rfl) 300 K (0,0) _ ?_ underlying300 (by rfl) ?_ ?_;exact aO _ _;(rw[p];kernel_rfl));go_loop [3,7] (λn i=>∃j:Nat,j<=8/\i=ι δ j/\n=ι η (lM (l.take j))) (λ_ i=>8-(intOf i).toNat);case atStart=>exact⟨0,by omega,rfl,rfl⟩
 case round=>
  obtain⟨j,k,rfl,rfl⟩:=hrel;by_cases v:j<8
  ·have F:=λW=>Z hi j W v
   have q:=Z d j;have r:=Z a j (by omega);have y:=J (Z b j (by omega));have hp:(256:Int)^j<=72057594037927936:=by
    have:(256:Nat)^j<=256^7:=yT (by decide) (by omega);have e:(256:Int)^j=((256^j:Nat):Int):=by simp
    rw[e];omega
   have ho:=J (Lh _ _ r.1 (by omega) q);obtain⟨t,u⟩:=q;obtain⟨G,m1⟩:=r;generalize l.getD j 0=x at *;generalize lM (l.take j)=m at *;go_wp2;go_round;case rel=>exact⟨j+1,by omega,by go_num,by rw[Z ho,<-Z y]⟩
   case measure=>simp[intOf];omega
  obtain rfl:j=8:=by omega
  go_wp2;go_ret;exact⟨by rw[Z c];rfl,bk (aD _ _) _⟩
def ai(s u n:Int):List Int:=s::u::gl n
def l9(key:List Int)(s n:Int)(i:Nat):Int:=aa (dh key (ai s 1 n++[((i/8:Nat):Int) %256])) (i %8)
def x8(a b:Int):Int:=bits .xor Δ a b
def kx(key:List Int)(s n:Int)(l:List Int)(j:Nat):List Int:=(List.range j).map λi=>x8 (l.getD i 0) (l9 key s n i)
def dJ(key:List Int)(s n:Int)(l:List Int):List Int:=kx key s n l l.length
def iR(key:List Int)(s n:Int)(c:List Int):List Int:=gl (dh key (ai s 2 n++c))
def dq(key:List Int)(s n:Int)(l:List Int):List Int:=gl n++dJ key s n l++iR key s n (dJ key s n l)
def Lr(key:List Int)(s n:Int)(l:List Int)(j:Nat):kx key s n l (j+1)=kx key s n l j++[x8 (l.getD j 0) (l9 key s n j)]:=by simp[kx,wI]
def tF(key:List Int)(s n:Int)(l:List Int)(j:Nat):(kx key s n l j).length=j:=by simp[kx]
def DK(a:W8 p)(b:W8 q):W8 (x8 p q):=by
 unfold x8;rw[u8_xor p q a.1 a.2 b.1 b.2];have:=Nat.xor_lt_two_pow (n:=8) (x:=p.toNat) (y:=q.toNat) (by have:=a.2;have:=a.1;omega) (by have:=b.2;have:=b.1;omega);unfold W8;omega
def Ls(hs:W8 p)(b:W8 q):∀x∈ai p q r,W8 x:=by
 intro x a;simp only[ai,dY]at a;obtain rfl|rfl|a:=a
 exact hs;exact b;exact qo r x a
def vz(s u n:Int):(ai s u n).length=10:=rfl
def DL(key l:List Int)(a:eP key)(hl:∀x∈l,W8 x):aW (dh key l):=GM (xQ (DC a) (DD hl _) _)
def Lt(w:ω)(x y:Int)(b:W8 x)(c:W8 y):bn (w.alloc (ο #[ι Δ x,ι Δ y] 5)) w.heap.size (σ (μ ⟨w.heap.size,0,ν⟩) [x,y].length 2) [x,y]:=
 Le w [x,y] (λz a=>by simp only[dY,sL,or_false]at a;obtain rfl|rfl:=a;exact b;exact c) (by simp) _ (aP _)
def bn.lower(o:bn w n x L)(h:k<=n):bn w k x L:=by
 refine⟨o.1,o.2.1,?_⟩
 obtain a|⟨g,cap,cur,e1,e2,b⟩:=o.2.2
 exact φ a;exact ψ ⟨g,cap,cur,e1,by omega,b⟩
def oa(key:List Int)(s n:Int)(l:List Int):(dJ key s n l).length=l.length:=tF _ _ _ _ _
def Lu(key:List Int)(s n:Int)(l:List Int):(iR key s n l).length=8:=rfl
def qX(key:List Int)(s n:Int)(l:List Int):(dq key s n l).length=l.length+16:=by simp[dq,oa,Lu,iQ];omega
def bm(p:List Int):Int:=lM (p.take 8)
def bX(p:List Int):List Int:=(p.drop 8).take (p.length-16)
def qY(p:List Int):List Int:=p.drop (p.length-8)
def Lw(W:ω):(sizeOf 5).run prog W=.ok 1 W:=by kernel_rfl
def DM:prog.elem 112=5:=by kernel_rfl
def Lx(b o n c t:Nat)(h:t<=n)(d:t<c)(W:ω):(Instr.slice 112 (σ (μ ⟨b,o,ν⟩) n c) (μ (ι δ t)) ν ν).run prog W=.ok (σ (μ ⟨b,o+t,ν⟩) (n-t) (c-t)) W:=by
 have h0:(0:Int)<=t:=by omega
 have a:(t:Int)<=n:=by omega
 rw[run_slice_l W 112 (μ ⟨b,o,ν⟩) n c (by rw[DM];exact underlying112) δ (t:Int) h0 a,DM,Lw];simp only[jh,sliced,oE,Nat.mul_one,sN]
 rw[iN_,Addr.add_lit]
def eH(key:List Int)(s:Int)(p:List Int):Prop:=16<=p.length/\p.length<=300/\iR key s (bm p) (bX p)=qY p/\bm p<=4611686018427387903
def DN(s u n:Int)(w:ω)(hs:W8 s)(k:W8 u)(l:aW n):Calls prog 223 #[ι Δ s,ι Δ u,ι η n] w λe d=>
 ∃f g,e=ξ (σ f 10 g)/\bn d w.heap.size (σ f 10 g) (ai s u n)/\γ w d ν:=by
 go_enter func223,ntmps223;go_wp2_with fail;apply(xR n _ l).mono;rintro e a⟨rfl,h⟩;rw[tC];have m:=h.size;have b:=Lt (a.alloc (ο (bv (gl n)).toArray 300)) s u hs k;have i:=aO a (ο (bv (gl n)).toArray 300);have j:((a.alloc (ο (bv (gl n)).toArray 300)).alloc (ο #[ι Δ s,ι Δ u] 5)).heap[a.heap.size]?=μ (ο (bv (gl n)).toArray 300 (0,0)):=by
  rw[fS _ _ _ (by simp)];exact i
 have c:bN ((a.alloc (ο (bv (gl n)).toArray 300)).alloc (ο #[ι Δ s,ι Δ u] 5)) (μ ⟨a.heap.size,0,ν⟩) 8 8 (gl n):=by
  refine⟨qo n,rfl,by simp,by simp[maxLen],ψ ⟨_,_,rfl,?_⟩⟩
  have:=vq j (qo n) 0;rwa[qI]at this
 rw[eh]at b;rw[tC]at b c;replace⟨b,c⟩:=bD b c;clear i j;go_wp2_with (at_builtin;refine sS (by rfl) _ _ (by rfl) (a.heap.size+1) _ [s,u] (by rfl) (Z b) _ _ _ (gl n) (by rfl) (Z c) ?_ ?_ ?_;(simp[iQ]);(simp);intro p c3 v q r _);go_ret;refine⟨p,c3,rfl,q.lower (by omega),?_⟩
 have t:Below w.heap.size w a:=yW h;exact uA (By ((t.alloc m _).alloc (by simp;omega) _) (Z b) r (by simp;omega))
def qZ(h:W.rangeAt n 0 (bv L)/\γ w W (μ (n+1)))(o:Nat)(v:υ):(ζ W ⟨n+1,o,ν⟩ v).rangeAt n 0 (bv L)/\γ w (ζ W ⟨n+1,o,ν⟩ v) (μ (n+1)):=
 ⟨wV h.1 _ _ (by simp),aM h.2 _ _ (ψ rfl)⟩
def Ad(h:W.rangeAt n 0 (bv L)/\γ w W (μ (n+1)))(g:γ W v ν):v.rangeAt n 0 (bv L)/\γ w v (μ (n+1)):=
 ⟨jn h.1 g (by simp),cT h.2 g (λj e=>by cases e)⟩
def Ly(h:W.rangeAt n 0 (bv L)/\γ w W (μ (n+1)))(o:bn W k x K)(a:w.heap.size<=k)(b:n<k)(g:γ W V x.ownBlock):V.rangeAt n 0 (bv L)/\γ w V (μ (n+1)):=
 ⟨jn h.1 g (λe=>by have:=(o.lt _ e).1;omega),cT h.2 g (λj e=>φ (bK a (o.lt _ e).1))⟩
def DO(h:bN w a n k L):bN w.drew a n k L:=h.au (aY (aD w ν))
def DP(key:List Int)(s n:Int)(a:Option Addr)(m cap:Nat)(l:List Int)(w:ω)(g:eP key)(hs:W8 s)(E:aW n)(k:bN w a m cap l)(hl:l.length<=60000000):
 Calls prog 172 #[ε (cV key),ι Δ s,ι η n,σ a m cap] w λe h=>
  e=ξ (ε (bv (iR key s n l)).toArray)/\γ w h ν:=by
 have T:=qm g;have U:(prog.info? 24).map (·.size)=μ (bv key).length:=by rw[fX,g.1];exact nJ
 have V:=underlying24;have F:=k.2.1;subst F;obtain⟨b,c⟩:=exq ((w.alloc (ο (cV key) 24)).alloc (ο #[ι Δ 0,ι Δ 0,ι Δ 0,ι Δ 0,ι Δ 0,ι Δ 0,ι Δ 0,ι Δ 0] 300));have i:γ w b ν:=by rw[c];exact bk (bk (aD w ν) _) _
 have d:b.heap.size=w.heap.size+2:=by rw[c];simp
 have p:b.heap[w.heap.size+1]?=μ (ο #[ι Δ 0,ι Δ 0,ι Δ 0,ι Δ 0,ι Δ 0,ι Δ 0,ι Δ 0,ι Δ 0] 300 (0,0)):=by
  have:=aO (w.alloc (ο (cV key) 24)) (ο #[ι Δ 0,ι Δ 0,ι Δ 0,ι Δ 0,ι Δ 0,ι Δ 0,ι Δ 0,ι Δ 0] 300);rw[eh]at this;rw[c];exact this
 have y:b.drew.rangeAt w.heap.size 0 (bv key)/\γ b b.drew (μ (w.heap.size+1)):=by
  refine⟨?_,aY (aD _ _)⟩
  have:b.heap[w.heap.size]?=μ (ο (bv key).toArray 24 (0,0)):=by rw[c,fS _ _ _ (by simp)];exact aO _ _
  exact kN (w:=b.drew) this
 have G:=J (DO (k.au i));have H:=J (λ(a:Option Addr)(n cap:Nat)(l:List Int)(W:ω)=>DG key a n cap l W g);have I:=J (λW=>DN s 2 n W hs (by unfold W8;omega) E);clear k;go_enter func172,ntmps172;go_wp2_with fail;rw[<-c];replace⟨i,d,p⟩:=cz i d p;clear c;go_region_held3 (λh=>h.rangeAt w.heap.size 0 (bv key)/\γ b h (μ (w.heap.size+1)))
  (with_reducible first|exact q|exact z|exact A|exact B|exact y|exact qZ (qZ (qZ (qZ (qZ (qZ (qZ (qZ q _ _) _ _) _ _) _ _) _ _) _ _) _ _) _ _)
  (first
    |(go_at_call 223;apply(Z I _).mono;rintro e K⟨X,c1,rfl,o1,f⟩;have B:=Ad y f;have L:=J ((Z G).au f);have Y:w.heap.size+2<=K.heap.size:=(by have M:=f.size;have r:=Z d;have t:b.drew.heap.size=b.heap.size:=rfl;omega);have N:=J ((f.block (w.heap.size+1) (by have r:=Z d;have t:b.drew.heap.size=b.heap.size:=rfl;omega) (by simp)).trans (Z p)))
    |(refine wQ (by rfl) _ _ (by rfl) b.drew.heap.size _ (ai s 2 n) (by rfl) o1 _ _ _ l (by rfl) (Z L) (by rw[vz];omega) f.size ?_;intro a3 c3 w3 C u _;have A:=Ly B o1 (aP _) (by have r:=Z d;have t:b.drew.heap.size=b.heap.size:=rfl;omega) u;have aC:=u.size;have O:=J ((u.block (w.heap.size+1) (by omega) (λe=>by have M:=(o1.lt _ e.symm).1;have r:=Z d;have t:b.drew.heap.size=b.heap.size:=rfl;omega)).trans (Z N)))
    |(go_at_call 222;refine(Z H _ _ _ (ai s 2 n++l) _ C.iy (by rw[bF,vz];omega)).mono ?_;rintro e w4⟨rfl,x⟩;have z:=Ad A x;have a1:=x.size;have P:=J ((x.block (w.heap.size+1) (by omega) (by simp)).trans (Z O)))
    |(go_at_call 194;apply(xR _ _ (DL key _ g C.1)).mono;rintro e Q⟨rfl,D⟩;rw[tC];have q:=Ad z D;have R:=rX ((D.block (w.heap.size+1) (by omega) (by simp)).trans (Z P));obtain⟨⟨z0,z1,z2,z3,z4,z5,z6,z7⟩,zf⟩:=R))
 go_wp2_with fail;refine df (v:=ε (bv (iR key s n l)).toArray) ?_ rfl ⟨rfl,?_⟩
 ·unfold iR;rw[tC];simp[results,results172,go_sem, *]
 have S:γ w Q ν:=qK (cT (dy (Z i) (μ (w.heap.size+1))) q.2 (λj e=>ψ rfl));iterate 8 (refine aM ?_ _ _ (φ (cf _)))
 exact S
def QS(b:W8 p)(a:W8 q):x8 (x8 p q) q=p:=by
 have c:=DK b a;have e:x8 p q=((p.toNat^^^q.toNat:Nat):Int):=by unfold x8;rw[u8_xor p q b.1 b.2 a.1 a.2]
 rw[e]at c⊢;unfold x8;rw[u8_xor _ q c.1 c.2 a.1 a.2,oE,Nat.xor_assoc,Nat.xor_self,Nat.xor_zero];have:=b.1;omega
def QT(key:List Int)(s n:Int)(i:Nat):W8 (l9 key s n i):=Ab _ _
def Fu(key:List Int)(s n:Int)(l:List Int)(i:Nat)(h:i<l.length):(dJ key s n l).getD i 0=x8 (l.getD i 0) (l9 key s n i):=by
 simp[dJ,kx,List.getD,h]
def AJ(key:List Int)(s n:Int)(l:List Int)(hl:∀x∈l,W8 x):dJ key s n (dJ key s n l)=l:=by
 apply List.ext_getElem;rw[oa,oa];intro i b a;have c:i<(dJ key s n l).length:=by rw[oa];exact a
 have e1:=Fu key s n (dJ key s n l) i c;rw[Fu key s n l i a,QS (qL hl i) (QT key s n i)]at e1;simpa [List.getD,b,a]using e1
def QU(h:aW p):lM (gl p)=p:=by
 unfold aW at h;simp only[lM,gl,aa,lD,List.foldl_nil,Nat.reduceMul,Nat.reduceSub,Int.reducePow]
 omega
def yI(h:aW q):bm (dq L p q K)=q:=by
 unfold bm dq;rw[fm,List.take_left' (iQ q)];exact QU h
def yJ(key:List Int)(s n:Int)(l:List Int):bX (dq key s n l)=dJ key s n l:=by
 unfold bX;rw[qX,dq,fm,List.drop_left' (iQ n),sK,List.take_left' (oa _ _ _ _)]
def QV(key:List Int)(s n:Int)(l:List Int):qY (dq key s n l)=iR key s n (dJ key s n l):=by
 unfold qY;rw[qX,dq,List.drop_left' (by simp[iQ,oa];omega)]
def AK(h:aW q):eH L p (dq L p q K)↔K.length+16<=300/\q<=4611686018427387903:=by
 unfold eH;rw[yI h,yJ,QV,qX];simp
