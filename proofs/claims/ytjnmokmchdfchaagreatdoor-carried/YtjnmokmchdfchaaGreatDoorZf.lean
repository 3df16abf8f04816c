import Derived.Test.YtjnmokmchdfchaaGreatDoorZe
set_option maxRecDepth 1000000
set_option maxHeartbeats 8000000
set_option linter.all false
namespace Go.Proofs.YtjnmokmchdfchaaGreatDoor
open Go.RowKit Tryz
attribute[local go_sem↓]Go.wp_at_zero Go.wp_at_succ
variable{c:Array Value}{B:Bool}{G:Fr}{p q t:Int}{u:It}{K L:List Int}{X:List Rg}{b i j k l m n o:Nat}{P S:Nat->Prop}{a:Option Addr}{f:Ot}{s:Sd}{T:TypeId}{x y z:Value}{V W v w:World}{D:aU}
def jH(an ag:Int):Prop:=64<=an/\an<=300/\16<=ag/\ag<=1024
theorem Mu(w:World)(an ag:Int)(K:Array Value)(m:K.size=16)(f:Bool)(h:¬jH an ag):
 Calls prog 70 #[.agg #[.int .i64 an,.int .i64 ag],.agg K,.bool f] w λe j=>e=.returned (.tuple #[.pointer none,bN 1])/\w.grownBy j none:=by
 have k:an<64\/(¬an<64/\300<an)\/(¬an<64/\¬300<an/\ag<16)\/(¬an<64/\¬300<an/\¬ag<16/\1024<ag):=by unfold jH at h;omega
 have n:prog.cellsOf 24=16:=by kernel_rfl
 clear h;have g:∀(a b:Obj),w.grownBy ((w.alloc a).alloc b) none:=λa b=>aq (aH _ _ _) (aH _ _ _)
 obtain c|⟨c,d⟩|⟨c,d,i⟩|⟨c,d,i,l⟩:=k
 ·have d1:decide (an<64)=true:=bK c;go_enter func70,ntmps70;go_wp2_with fail;go_ret2;exact⟨rfl,g _ _⟩
 ·have d1:decide (an<64)=false:=bI c;have d2:decide (an>300)=true:=bK d;go_enter func70,ntmps70;go_wp2_with fail;go_ret2;exact⟨rfl,g _ _⟩
 ·have d1:decide (an<64)=false:=bI c;have d2:decide (an>300)=false:=bI d;have d3:decide (ag<16)=true:=bK i;go_enter func70,ntmps70;go_wp2_with fail;go_ret2;exact⟨rfl,g _ _⟩
 have d1:decide (an<64)=false:=bI c;have d2:decide (an>300)=false:=bI d;have d3:decide (ag<16)=false:=bI i;have d4:decide (ag>1024)=true:=bK l;go_enter func70,ntmps70;go_wp2_with fail;go_ret2;exact⟨rfl,g _ _⟩
theorem wC(l:List Value)(h:l.length=16):∃a b c k3 k4 k5 d e f g i j k m n p,l=[a,b,c,k3,k4,k5,d,e,f,g,i,j,k,m,n,p]:=by
 iterate 16 (obtain _|⟨_,l⟩:=l;·simp at h)
 obtain _|⟨_,l⟩:=l
 exact⟨_,_,_,_,_,_,_,_,_,_,_,_,_,_,_,_,rfl⟩
 simp at h
theorem Mv(an ag:Int)(a b c k3 k4 k5 d e g h i j k l m n:Value)(f:Bool):(((((((((((((((((((((((zeroCells241.setIfInBounds 0 (.int .i64 an)).setIfInBounds 1 (.int .i64 ag)).setIfInBounds 2 a).setIfInBounds 3 b).setIfInBounds 4 c).setIfInBounds 5 k3).setIfInBounds 6 k4).setIfInBounds 7 k5).setIfInBounds 8 d).setIfInBounds 9 e).setIfInBounds 10 g).setIfInBounds 11 h).setIfInBounds 12 i).setIfInBounds 13 j).setIfInBounds 14 k).setIfInBounds 15 l).setIfInBounds 16 m).setIfInBounds 17 n).setIfInBounds 18 (.bool f)).setIfInBounds 91 (.int .u64 0)).setIfInBounds 92 (.int .i64 0)).setIfInBounds 93 (.int .i64 4)).setIfInBounds 94 (.slice none 0 0)).setIfInBounds 95 (.slice none 0 0)=(fX an ag [a,b,c,k3,k4,k5,d,e,g,h,i,j,k,l,m,n] f 4 0 (.slice none 0 0)).toArray:=by kernel_rfl
theorem Mw(w:World)(an ag:Int)(key:List Int)(k:dw key)(f:Bool)(h:jH an ag):
 Calls prog 70 #[.agg #[.int .i64 an,.int .i64 ag],.agg (cJ key),.bool f] w λe d=>∃sb,e=.returned (.tuple #[.pointer (some ⟨sb,0,none⟩),.nilIface])/\w.heap.size<=sb/\d.heap[sb]?=some (.cells (fX an ag (bv key) f 4 0 (.slice none 0 0)).toArray 241 (0,0))/\w.grownBy d none:=by
 have d1:decide (an<64)=false:=bI (by unfold jH at h;omega);have d2:decide (an>300)=false:=bI (by unfold jH at h;omega);have d3:decide (ag<16)=false:=bI (by unfold jH at h;omega);have d4:decide (ag>1024)=false:=bI (by unfold jH at h;omega);have N:prog.cellsOf 24=16:=by kernel_rfl
 have O:=pI k;have r:∀(a b:Obj),w.grownBy ((w.alloc a).alloc b) none:=λa b=>aq (aH _ _ _) (aH _ _ _)
 have s:=J LW;have P:(prog.info? 24).map (·.size)=some (bv key).length:=by rw[fC,k.1];exact mQ
 have Q:=underlying24;obtain⟨c,g⟩:=exq ((w.alloc (.cells #[.int .i64 an,.int .i64 ag] 28)).alloc (.cells (bv key).toArray 24));have p:w.grownBy c none:=by rw[g];exact r _ _
 have i:c.heap[w.heap.size]?=some (.cells #[.int .i64 an,.int .i64 ag] 28 (0,0)):=by rw[g];exact bA (aM _ _) (aH _ _ _)
 have l:c.heap[w.heap.size+1]?=some (.cells (bv key).toArray 24 (0,0)):=by
  have:=aM (w.alloc (.cells #[.int .i64 an,.int .i64 ag] 28)) (.cells (bv key).toArray 24);rw[dQ]at this;rw[g];exact this
 have c0:c.cell? ⟨w.heap.size,0,none⟩=some (.int .i64 an):=by simp[World.cell?,i]
 have c1:c.cell? ⟨w.heap.size,1,none⟩=some (.int .i64 ag):=by simp[World.cell?,i]
 have m:c.rangeAt (w.heap.size+1) 0 (bv key)/\c.grownBy c none:=⟨λj u t=>by simpa [World.cell?,l]using t,aB _ _⟩
 replace c0:=kc c0;replace c1:=kc c1;unfold cJ at *;have v:(bv key).length=16:=by rw[fC,k.1]
 generalize bv key=K at *;replace i:=J i;replace l:=J l;clear h;go_enter func70,ntmps70;go_upto_region 3 with fail;rw[<-g];obtain⟨x,y,z,k3,k4,k5,A,B,C,D,E,F,G,H,I,L,rfl⟩:=wC K v;clear g;go_region_held3 (λd=>d.rangeAt (w.heap.size+1) 0 [x,y,z,k3,k4,k5,A,B,C,D,E,F,G,H,I,L]/\c.grownBy d none)
  (first|with_reducible exact n|with_reducible exact m|with_reducible exact js m (aW (aB _ none))|with_reducible exact js n (aH _ _ _))
  (first|(go_at_call 110;refine(Z s _).mono ?_;rintro e M⟨rfl,q⟩;have n:=js (js m (aW (aB _ none))) q))
 go_wp2_with fail;go_ret2;refine⟨M.heap.size,rfl,by have:=q.size;have:=p.size;simp at *;omega,?_,?_⟩
 rw[Mv];exact aM _ _;exact aq (aq p n.2) (aH _ _ _)
def Ot.new:Ot:=⟨⟨0,[],[]⟩,0,false,false,false,false,0⟩
def It.new:It:=⟨⟨0,[],[]⟩,0,0,0,false,false,false⟩
def Sd.new(an ag:Int)(key:List Int)(f:Bool):Sd:=⟨an,ag,key,f,λ_=>Ot.new,λ_=>It.new,[],[],0,0,4,[],0,false⟩
def aU.new:aU:=⟨λ_=>.slice none 0 0,λ_=>.slice none 0 0,[],[]⟩
theorem pN(w:World):bu w none 0 0 []:=⟨λr h=>(by cases h),rfl,aP _,by simp[maxLen],.inl rfl⟩
theorem yK(an ag:Int)(key:List Value)(f:Bool)(a:key.length=16):∃L:List Value,(fX an ag key f 4 0 (.slice none 0 0))=[.int .i64 an,.int .i64 ag]++key++(.bool f::L)/\L=zO++zO++zO++zO++zI++zI++zI++zI++[.int .u64 0,.int .i64 0,.int .i64 4,.slice none 0 0,.slice none 0 0,.slice none 0 0,.int .u64 0,.bool false,.int .i64 0,.slice none 0 0]:=⟨_,by simp[fX],rfl⟩
theorem Mx(f:dw K)(g:w.heap[m]?=some (.cells (fX p q (bv K) B 4 0 (.slice none 0 0)).toArray 241 (0,0)))(r:l<=w.heap.size):bB w l m (fX p q (bv K) B 4 0 (.slice none 0 0)).toArray aU.new (Sd.new p q K B):=by
 have d:(bv K).length=16:=by rw[fC,f.1]
 have s:(fX p q (bv K) B 4 0 (.slice none 0 0)).length=101:=yF _ _ _ _ _ _ _ d;have t:=(aY.1 g).1;have u:∀i,i<16->(fX p q (bv K) B 4 0 (.slice none 0 0)).toArray[2+i]?=(bv K)[i]? :=by
  intro i hi;obtain⟨L,e,-⟩:=yK p q (bv K) B d;rw[e,sS,fg,jz (by simp),mc (by simp;omega)];congr 1;simp
 have a:∀i v,i<83->(zO++zO++zO++zO++zI++zI++zI++zI++[.int .u64 0,.int .i64 0,.int .i64 4,.slice none 0 0,.slice none 0 0,.slice none 0 0,.int .u64 0,.bool false,.int .i64 0,.slice none 0 0])[i]?=some v->(fX p q (bv K) B 4 0 (.slice none 0 0)).toArray[19+i]?=some v:=by
  intro i v _ h;obtain⟨L,e,z⟩:=yK p q (bv K) B d;rw[e,sS,jz (by simp;omega)];have:19+i-([Value.int .i64 p,.int .i64 q]++bv K).length=i+1:=by simp[d];omega
  rw[this,List.getElem?_cons_succ,z];exact h
 have b:bm w l (.slice none 0 0) []:=bm.nil _ _;refine⟨g,by simp[s],by simp[fX,Sd.new],by simp[fX,Sd.new],u,?_,λk f=>?_,λk f=>?_,?_,rfl,rfl,a 77 _ (by omega) rfl,⟨none,0,0,rfl,pN w⟩,a 78 _ (by omega) rfl,a 79 _ (by omega) rfl,a 80 _ (by omega) rfl,a 81 _ (by omega) rfl,⟨t,λi _ k e=>(by cases e),λi _ e=>(by cases e),λi j _ _ _ k e=>(by cases e),λi _ y n c e=>(by cases e),λx A=>(by cases A)⟩,r⟩
 obtain⟨L,e,-⟩:=yK p q (bv K) B d;rw[e,sS,jz (by simp;omega)];simp[d,Sd.new];have:k=0\/k=1\/k=2\/k=3:=by omega
 obtain rfl|rfl|rfl|rfl:=this
 exact⟨a 0 _ (by omega) rfl,a 1 _ (by omega) rfl,a 2 _ (by omega) rfl,a 3 _ (by omega) rfl,a 4 _ (by omega) rfl,a 5 _ (by omega) rfl,a 6 _ (by omega) rfl,a 7 _ (by omega) rfl,a 8 _ (by omega) rfl,b,⟨none,0,0,rfl,pN w⟩,by simp[aV,Sd.new,Ot.new]⟩
 exact⟨a 9 _ (by omega) rfl,a 10 _ (by omega) rfl,a 11 _ (by omega) rfl,a 12 _ (by omega) rfl,a 13 _ (by omega) rfl,a 14 _ (by omega) rfl,a 15 _ (by omega) rfl,a 16 _ (by omega) rfl,a 17 _ (by omega) rfl,b,⟨none,0,0,rfl,pN w⟩,by simp[aV,Sd.new,Ot.new]⟩
 exact⟨a 18 _ (by omega) rfl,a 19 _ (by omega) rfl,a 20 _ (by omega) rfl,a 21 _ (by omega) rfl,a 22 _ (by omega) rfl,a 23 _ (by omega) rfl,a 24 _ (by omega) rfl,a 25 _ (by omega) rfl,a 26 _ (by omega) rfl,b,⟨none,0,0,rfl,pN w⟩,by simp[aV,Sd.new,Ot.new]⟩
 exact⟨a 27 _ (by omega) rfl,a 28 _ (by omega) rfl,a 29 _ (by omega) rfl,a 30 _ (by omega) rfl,a 31 _ (by omega) rfl,a 32 _ (by omega) rfl,a 33 _ (by omega) rfl,a 34 _ (by omega) rfl,a 35 _ (by omega) rfl,b,⟨none,0,0,rfl,pN w⟩,by simp[aV,Sd.new,Ot.new]⟩
 have:k=0\/k=1\/k=2\/k=3:=by omega
 obtain rfl|rfl|rfl|rfl:=this
 exact⟨a 36 _ (by omega) rfl,a 37 _ (by omega) rfl,a 38 _ (by omega) rfl,a 39 _ (by omega) rfl,a 40 _ (by omega) rfl,a 41 _ (by omega) rfl,a 42 _ (by omega) rfl,a 43 _ (by omega) rfl,a 44 _ (by omega) rfl,b,⟨none,0,0,rfl,pN w⟩⟩
 exact⟨a 45 _ (by omega) rfl,a 46 _ (by omega) rfl,a 47 _ (by omega) rfl,a 48 _ (by omega) rfl,a 49 _ (by omega) rfl,a 50 _ (by omega) rfl,a 51 _ (by omega) rfl,a 52 _ (by omega) rfl,a 53 _ (by omega) rfl,b,⟨none,0,0,rfl,pN w⟩⟩
 exact⟨a 54 _ (by omega) rfl,a 55 _ (by omega) rfl,a 56 _ (by omega) rfl,a 57 _ (by omega) rfl,a 58 _ (by omega) rfl,a 59 _ (by omega) rfl,a 60 _ (by omega) rfl,a 61 _ (by omega) rfl,a 62 _ (by omega) rfl,b,⟨none,0,0,rfl,pN w⟩⟩
 exact⟨a 63 _ (by omega) rfl,a 64 _ (by omega) rfl,a 65 _ (by omega) rfl,a 66 _ (by omega) rfl,a 67 _ (by omega) rfl,a 68 _ (by omega) rfl,a 69 _ (by omega) rfl,a 70 _ (by omega) rfl,a 71 _ (by omega) rfl,b,⟨none,0,0,rfl,pN w⟩⟩
 exact⟨a 72 _ (by omega) rfl,a 73 _ (by omega) rfl,a 74 _ (by omega) rfl,a 75 _ (by omega) rfl,a 76 _ (by omega) rfl,om _ _ _ _,om _ _ _ _⟩
theorem pO(w:World)(xb sb:Nat)(c:w.cell? ⟨xb,0,none⟩=some (.pointer (some ⟨sb,0,none⟩))):
 Calls prog 72 #[.pointer (some ⟨xb,0,none⟩)] w λe a=>e=.returned (.pointer (some ⟨sb,0,none⟩))/\a=w:=by
 go_enter func72,ntmps72;go_wp2_with fail;go_ret;exact⟨rfl,rfl⟩
theorem My(w:World)(xb sb:Nat)(c:w.cell? ⟨xb,0,none⟩=some (.pointer (some ⟨sb,0,none⟩)))(k:Int)(f:Value)(Q:Ending->World->Prop)(hs:∀e g,Q e g->∃a b,e=.returned (.tuple #[a,b]))(d:Calls prog 126 #[.pointer (some ⟨sb,0,none⟩),.int .i64 k,f] w Q):
 Calls prog 92 #[.pointer (some ⟨xb,0,none⟩),.int .i64 k,f] w Q:=by
 have i:=J (pO w xb sb c);replace d:=J d;go_enter func92,ntmps92;go_wp2_with fail;refine(Z i).mono ?_;rintro e j⟨rfl,rfl⟩;go_wp2_with fail;refine(Z d).mono ?_;rintro e l h;obtain⟨a,b,rfl⟩:=hs _ _ h;replace h:=J h;go_wp2_with fail;first|exact Z h|exact cA (v:=.tuple #[a,b]) (by simp[results,results92,go_sem]) rfl (Z h)
theorem Mz(w:World)(xb sb:Nat)(c:w.cell? ⟨xb,0,none⟩=some (.pointer (some ⟨sb,0,none⟩)))(k:Int)(Q:Ending->World->Prop)(hs:∀e b,Q e b->∃v,e=.returned v)(a:Calls prog 127 #[.pointer (some ⟨sb,0,none⟩),.int .i64 k] w Q):
 Calls prog 93 #[.pointer (some ⟨xb,0,none⟩),.int .i64 k] w Q:=by
 have d:=J (pO w xb sb c);replace a:=J a;go_enter func93,ntmps93;go_wp2_with fail;refine(Z d).mono ?_;rintro e f⟨rfl,rfl⟩;go_wp2_with fail;refine(Z a).mono ?_;rintro e g h;obtain⟨v,rfl⟩:=hs _ _ h;replace h:=J h;go_wp2_with fail;exact Z h
theorem MA(w:World)(xb sb:Nat)(c:w.cell? ⟨xb,0,none⟩=some (.pointer (some ⟨sb,0,none⟩)))(k:Int)(code:Int)(Q:Ending->World->Prop)(hs:∀e b,Q e b->∃v,e=.returned v)(a:Calls prog 128 #[.pointer (some ⟨sb,0,none⟩),.int .i64 k,.int .u64 code] w Q):
 Calls prog 94 #[.pointer (some ⟨xb,0,none⟩),.int .i64 k,.int .u64 code] w Q:=by
 have d:=J (pO w xb sb c);replace a:=J a;go_enter func94,ntmps94;go_wp2_with fail;refine(Z d).mono ?_;rintro e f⟨rfl,rfl⟩;go_wp2_with fail;refine(Z a).mono ?_;rintro e g h;obtain⟨v,rfl⟩:=hs _ _ h;replace h:=J h;go_wp2_with fail;exact Z h
theorem MB(w:World)(xb sb:Nat)(c:w.cell? ⟨xb,0,none⟩=some (.pointer (some ⟨sb,0,none⟩)))(k:Int)(Q:Ending->World->Prop)(hs:∀e f,Q e f->∃a b,e=.returned (.tuple #[a,b]))(d:Calls prog 134 #[.pointer (some ⟨sb,0,none⟩),.int .i64 k] w Q):
 Calls prog 101 #[.pointer (some ⟨xb,0,none⟩),.int .i64 k] w Q:=by
 have g:=J (pO w xb sb c);replace d:=J d;go_enter func101,ntmps101;go_wp2_with fail;refine(Z g).mono ?_;rintro e i⟨rfl,rfl⟩;go_wp2_with fail;refine(Z d).mono ?_;rintro e j h;obtain⟨a,b,rfl⟩:=hs _ _ h;replace h:=J h;go_wp2_with fail;first|exact Z h|exact cA (v:=.tuple #[a,b]) (by simp[results,results101,go_sem]) rfl (Z h)
theorem MC(w:World)(xb sb:Nat)(c:w.cell? ⟨xb,0,none⟩=some (.pointer (some ⟨sb,0,none⟩)))(Q:Ending->World->Prop)(hs:∀e b,Q e b->e=.returned (.tuple #[]))(a:Calls prog 129 #[.pointer (some ⟨sb,0,none⟩)] w Q):
 Calls prog 95 #[.pointer (some ⟨xb,0,none⟩)] w Q:=by
 have d:=J (pO w xb sb c);replace a:=J a;go_enter func95,ntmps95;go_wp2_with fail;refine(Z d).mono ?_;rintro e f⟨rfl,rfl⟩;go_wp2_with fail;refine(Z a).mono ?_;rintro e g h;obtain rfl:=hs _ _ h;replace h:=J h;go_wp2_with fail;first|exact Z h|exact eW (et rfl _ _ _) rfl (Z h)
theorem MD(w:World)(xb sb:Nat)(c:w.cell? ⟨xb,0,none⟩=some (.pointer (some ⟨sb,0,none⟩)))(Q:Ending->World->Prop)(hs:∀e b,Q e b->∃v,e=.returned v)(a:Calls prog 130 #[.pointer (some ⟨sb,0,none⟩)] w Q):
 Calls prog 96 #[.pointer (some ⟨xb,0,none⟩)] w Q:=by
 have d:=J (pO w xb sb c);replace a:=J a;go_enter func96,ntmps96;go_wp2_with fail;refine(Z d).mono ?_;rintro e f⟨rfl,rfl⟩;go_wp2_with fail;refine(Z a).mono ?_;rintro e g h;obtain⟨v,rfl⟩:=hs _ _ h;replace h:=J h;go_wp2_with fail;exact Z h
theorem ME(w:World)(xb sb:Nat)(c:w.cell? ⟨xb,0,none⟩=some (.pointer (some ⟨sb,0,none⟩)))(b:Value)(Q:Ending->World->Prop)(hs:∀e d,Q e d->∃v,e=.returned v)(a:Calls prog 131 #[.pointer (some ⟨sb,0,none⟩),b] w Q):
 Calls prog 98 #[.pointer (some ⟨xb,0,none⟩),b] w Q:=by
 have f:=J (pO w xb sb c);replace a:=J a;go_enter func98,ntmps98;go_wp2_with fail;refine(Z f).mono ?_;rintro e g⟨rfl,rfl⟩;go_wp2_with fail;refine(Z a).mono ?_;rintro e i h;obtain⟨v,rfl⟩:=hs _ _ h;replace h:=J h;go_wp2_with fail;exact Z h
theorem MF(w:World)(xb sb:Nat)(c:w.cell? ⟨xb,0,none⟩=some (.pointer (some ⟨sb,0,none⟩)))(k:Int)(aE:Int)(Q:Ending->World->Prop)(hs:∀e i,Q e i->∃a n c b d f,e=.returned (.tuple #[.slice a n c,b,d,f]))(g:Calls prog 132 #[.pointer (some ⟨sb,0,none⟩),.int .i64 k,.int .i64 aE] w Q):
 Calls prog 99 #[.pointer (some ⟨xb,0,none⟩),.int .i64 k,.int .i64 aE] w Q:=by
 have j:=J (pO w xb sb c);replace g:=J g;go_enter func99,ntmps99;go_wp2_with fail;refine(Z j).mono ?_;rintro e l⟨rfl,rfl⟩;go_wp2_with fail;refine(Z g).mono ?_;rintro e m h;obtain⟨a,n,c,b,d,f,rfl⟩:=hs _ _ h;replace h:=J h;go_wp2_with fail;first|exact Z h|exact cA (v:=.tuple #[.slice a n c,b,d,f]) (by simp[results,results99,go_sem]) rfl (Z h)
theorem MG(w:World)(xb sb:Nat)(c:w.cell? ⟨xb,0,none⟩=some (.pointer (some ⟨sb,0,none⟩)))(code:Int)(Q:Ending->World->Prop)(hs:∀e b,Q e b->∃v,e=.returned v)(a:Calls prog 133 #[.pointer (some ⟨sb,0,none⟩),.int .u64 code] w Q):
 Calls prog 100 #[.pointer (some ⟨xb,0,none⟩),.int .u64 code] w Q:=by
 have d:=J (pO w xb sb c);replace a:=J a;go_enter func100,ntmps100;go_wp2_with fail;refine(Z d).mono ?_;rintro e f⟨rfl,rfl⟩;go_wp2_with fail;refine(Z a).mono ?_;rintro e g h;obtain⟨v,rfl⟩:=hs _ _ h;replace h:=J h;go_wp2_with fail;exact Z h
theorem MH{fr:Nat×Nat}(h:w.heap[n]?=some (.cells c T fr))(v:Value):(w.setCell ⟨n,o,none⟩ v).heap[n]?=some (.cells (c.setIfInBounds o v) T fr):=by
 simp[World.setCell,Array.getElem?_modify,h]
theorem MI(g n c:Nat)(cs:Array Value)(fr:Nat×Nat)(w:World)(f:w.heap[g]?=some (.cells cs 5 fr))(hs:n<=cs.size)(h:n<=fr.1)(p:n<=100000000):
 Calls prog 97 #[.slice (some ⟨g,0,none⟩) n c] w λe k=>e=.returned (.tuple #[])/\w.grownBy k (some g):=by
 go_enter func97,ntmps97;go_wp2;go_loopg [5] n (λl i wr=>∃j:Nat,j<=n/\l=n-j/\i=.int .i64 (j:Int)/\w.grownBy wr (some g)/\∃a,wr.heap[g]?=some (.cells a 5 fr)/\n<=a.size);case atStart=>exact⟨0,by omega,by omega,rfl,aB _ _,cs,f,hs⟩
 case round=>
  obtain⟨j,q,rfl,rfl,d,a,b,m⟩:=hrel;by_cases r:j<n
  ·have s:wr.cell? ⟨g,j,none⟩=some (a.getD j undef):=by simp[World.cell?,b,Array.getD,show j<a.size by omega]
   have h:wr.frozen? ⟨g,j,none⟩=false:=by simp[World.frozen?,b];omega
   replace b:=J b;go_wp2;go_roundg (n-(j+1));case measure=>omega
   case rel=>exact⟨j+1,by omega,rfl,by go_num,aI d _ _ (.inr rfl),_,MH (Z b) _,by simpa using m⟩
  go_wp2;refine eW (et rfl _ _ _) rfl ?_;exact⟨rfl,d⟩
theorem MJ(w W:World)(s:ByteArray)(hs:s.size<=100000000)(a:W.heap[w.heap.size]?=(Lib.bytesWorld w 5 s).heap[w.heap.size]?)(c:Nat):
 Calls prog 97 #[.slice (some ⟨w.heap.size,0,none⟩) s.size c] W λe d=>e=.returned (.tuple #[])/\W.grownBy d (some w.heap.size):=by
 rw[Lib.bytesWorld_at_new]at a;have b:s.size<=(Lib.bytesCells w 5 s).size:=by unfold Lib.bytesCells;rw[Array.size_append,Array.size_map];exact Nat.le_add_right _ _
 exact MI w.heap.size s.size c _ _ W a b b hs
def tY(w:World)(ev:Value)(n p:Int):Prop:=(ev=bN n/\p= -1)\/∃F,ev=.iface 177 (.pointer (some ⟨F,0,none⟩))/\w.heap[F]?=some (.cells #[.int .i64 n,.int .i64 p] 182 (0,0))
theorem MK(w:World)(ev:Value)(n p:Int)(a:Laid w)(h:tY w ev n p):Calls prog 39 #[ev] w λe b=>e=.returned (.tuple #[.int .i64 n,.int .i64 p])/\w.grownBy b none:=by
 obtain⟨rfl,rfl⟩|⟨F,rfl,hF⟩:=h
 unfold bN;split;rename_i h;subst h;exact wg w;exact CW n w a;exact K0 F n p w a hF
theorem ML(n:Int)(w:World)(a:Laid w):Calls prog 35 #[bN n] w λe b=>e=.returned (.int .i64 n)/\w.grownBy b none:=by
 unfold bN;split;rename_i h;subst h;exact yG w;exact CX n w a
inductive aQ where
 |aD (s:Sd)
 |shut (aF:Int) (l:List (List Int))
def wD(w:World)(sb:Nat)(A:Nat->Prop):aQ->Prop
 |.aD s=>∃cs v,bB w 0 sb cs v s/\∀k,eA sb v k->A k
 |.shut aF l=>aF≠0/\∃last a,jc w 0 sb aF last a/\a.map (·.2)=l/\∀k,su sb last a k->A k
structure cq(w:World)(xb sb:Nat)(st:aQ)(A:Nat->Prop):Prop where
 aN:w.heap[xb]?=some (.cells #[.pointer (some ⟨sb,0,none⟩)] 173 (0,0))
 side:wD w sb (λk=>A k/\k≠xb) st
 kz:A xb
 lt:∀k,A k->k<w.heap.size
 n0:¬A 0
theorem wD.other{st:aQ}(h:wD w n S st)(C:av w W P)(d:∀k,k<w.heap.size->P k->¬S k):wD W n S st:=by
 cases st with
 |aD s=>
  obtain⟨cs,v,H,a⟩:=h;exact⟨cs,v,H.other C (λk b e c=>d k b e (a k c)),a⟩
 |shut aF l=>
  obtain⟨f,last,g,H,e,a⟩:=h;exact⟨f,last,g,H.other C (λk b e c=>d k b e (a k c)),e,a⟩
theorem cq.other{st:aQ}(h:cq w n i st S)(C:av w W P)(b:∀k,k<w.heap.size->P k->¬S k):cq W n i st S:=
 ⟨(C.block n (aY.1 h.aN).1 (λe=>b n (h.lt n h.kz) e h.kz)).trans h.aN,h.side.other C (λk a e c=>b k a e c.1),h.kz,λk a=>bY (h.lt k a) C.size,h.n0⟩
theorem cq.ao{st:aQ}(h:cq w n i st S)(g:w.grownBy W none):cq W n i st S:=h.other (av.of g) (λk _ e=>by cases e)
theorem cq.cell{st:aQ}(h:cq w n k st S):w.cell? ⟨n,0,none⟩=some (.pointer (some ⟨k,0,none⟩)):=by simp[World.cell?,h.aN]
def cK(N:Nat)(w:World)(xb sb:Nat)(A:Nat->Prop)(st:aQ)(a:World):Prop:=∃b,cq a xb sb st b/\(∀k,b k->A k\/N<=k)/\av w a A
theorem cq.to{st:aQ}(h:cq w n i st S)(g:w.grownBy W none){N:Nat}:cK N w n i S st W:=⟨S,h.ao g,λk a=>.inl a,(av.of g).mono (λk _ e=>by cases e)⟩
theorem cq.jw{g:Sd}(h:cq w n i (.aD s) P)(H:bB w 0 i c D s)(f:∀k,eA i D k->P k/\k≠n)(T:dO w.heap.size w 0 i D g W):cK w.heap.size w n i P (.aD g) W:=by
 obtain⟨m,j,S,d⟩:=T;have l:=h.lt n h.kz;refine⟨λk=>k=n\/eA i j k,⟨(d.aw.block n l (λe=>(f n (.inl e)).2 rfl)).trans h.aN,⟨m,j,S,λk a=>⟨.inr a,λe=>?_⟩⟩,.inl rfl,λk a=>?_,λe=>?_⟩,λk a=>?_,d.aw.mono (λk _ e=>(f k (.inl e)).1)⟩
 subst e;obtain b|b:=d.ar k a
 exact(f k b).2 rfl;omega;obtain rfl|a:=a
 exact bY l d.aw.size;exact nM S.bq a;obtain e|e:=e
 exact h.n0 (e▸h.kz);obtain b|b:=d.ar 0 e
 exact h.n0 (f 0 b).1;omega;obtain rfl|a:=a
 exact .inl h.kz;obtain b|b:=d.ar k a
 exact .inl (f k b).1;exact .inr b
theorem MM{b:List El}(h:jc w n i p x b)(a:su i x b k):k<w.heap.size:=by
 obtain rfl|a|⟨e,he,rfl⟩:=a
 exact(aY.1 h.aN).1;exact(h.own.lt k a).2;exact h.at_.lt he
theorem MN{b:List El}(h:jc w n i p x b)(a:su i x b k):k=i\/n<=k:=by
 obtain rfl|a|⟨e,he,rfl⟩:=a
 exact .inl rfl;exact .inr (h.own.lt k a).1;exact .inr (h.at_.at_ e he).1
theorem cq.close{l:List (List Int)}(h:cq w n i (.aD s) P)(H:bB w 0 i c D s)(d:∀k,eA i D k->P k/\k≠n)(m:p≠0)(T:jd w i D p l W):cK w.heap.size w n i P (.shut p l) W:=by
 obtain⟨last,f,S,e,C⟩:=T;have j:=h.lt n h.kz;have q:=d i (.inl (.inl rfl));have g:∀k,su i last f k->P k/\k≠n\/w.heap.size<=k:=λk a=>by
  obtain rfl|b:=MN S a
  exact .inl q;exact .inr b
 refine⟨λk=>k=n\/su i last f k,⟨(C.block n j (λe=>(d n (.inl e)).2 rfl)).trans h.aN,⟨m,last,f,S.low (jh _),e,λk a=>⟨.inr a,λe=>?_⟩⟩,.inl rfl,λk a=>?_,λe=>?_⟩,λk a=>?_,C.mono (λk _ e=>(d k (.inl e)).1)⟩
 obtain b|b:=g k a
 exact b.2 e;omega;obtain rfl|a:=a
 exact bY j C.size;exact MM S a;obtain e|e:=e
 exact h.n0 (e▸h.kz);obtain b|b:=g 0 e
 exact h.n0 b.1;omega;obtain rfl|a:=a
 exact .inl h.kz;exact(g k a).imp And.left id
theorem cK.other{st:aQ}(h:cK n w i j S st W)(C:av W v P)(c:∀k,k<W.heap.size->P k->¬S k/\k<n/\w.heap.size<=k):cK n w i j S st v:=by
 obtain⟨g,l,d,a⟩:=h;refine⟨g,l.other C (λk b e m=>?_),d,?_⟩
 have:=c k b e;obtain f|f:=d k m
 exact this.1 f;omega;refine⟨C.os.trans a.os,C.tape.trans a.tape,C.output.trans a.output,bD a.size C.size,λk b p=>?_⟩
 rw[C.block k (bY b a.size) (λe=>by have:=c k (bY b a.size) e;omega)];exact a.block k b p
theorem cK.ao{st:aQ}(h:cK n w i j S st W)(g:W.grownBy v none):cK n w i j S st v:=h.other (av.of g) (λk _ e=>by cases e)
theorem cK.pre{N:Nat}{st:aQ}(g:W.grownBy w none)(h:cK N w n i S st v):cK N W n i S st v:=by
 obtain⟨a,b,c,d⟩:=h;exact⟨a,b,c,((av.of g).trans d).mono (λk _ e=>e.elim (λe=>by cases e) id)⟩
theorem cK.mono{st:aQ}(h:cK n w j l S st W)(a:i<=n):cK i w j l S st W:=by
 obtain⟨b,c,d,e⟩:=h;exact⟨b,c,λk f=>(d k f).imp id (λh=>bD a h),e⟩
structure bZ(s:Sd)(n:Nat):Prop where
 key:dw s.key
 an:64<=s.an/\s.an<=300
 ag:16<=s.ag/\s.ag<=1024
 out:∀k,k<4->fV (s.out k)
 oI:∀k,k<4->((s.out k).h.bytes.length:Int)<=s.ag
 aA:∀k,k<4->0<=(s.out k).aA/\(s.out k).aA<=4096
 code:∀k,k<4->0<=(s.out k).code/\(s.out k).code<=4611686018427387903
 aJ:∀k,k<4->gS s.ag (s.aJ k)
 pk:∀x∈s.aK++s.lost,0<=x.st/\x.st<4/\∀p∈x.ps,lr p
 num:∀x∈s.aK,0<=x.num/\x.num<=100*n
 fl:s.aK.length<=10
 fp:∀x∈s.aK,x.ps.length<=1000
 ft:∀x∈s.aK,0<=x.tick/\x.tick<=s.tick
 tick:0<=s.tick/\s.tick<=n
 wait:0<=s.wait/\s.wait<=32
 bn:0<=s.count/\s.count<=100*n
 ll:s.lost.length+s.aK.length<=100*n
 mC:bh s.af
 c8:s.af.length<=8
 cr:∀r∈s.af,0<=r.lo/\r.hi<=4611686018427387904
def dY(n:Nat):aQ->Prop
 |.aD s=>bZ s n
 |.shut _ l=>l.length<=1/\∀p∈l,(p.length:Int)<=300
theorem bZ.DC(h:bZ s n)(a:k<4):DA (s.out k):=⟨(h.out k a).nice,(h.out k a).en,h.aA k a,h.code k a,by have:=(h.out k a).cl;omega⟩
theorem bZ.yN(h:bZ s n):l9 s:=⟨h.key,by have:=h.an;omega,λk a=>h.DC a,h.fl,h.fp⟩
theorem bZ.DD(h:bZ s n)(b:n<=100000):lV s:=⟨h.out,h.pk,λx a=>by have:=h.num x a;omega⟩
theorem bZ.MW(h:bZ s n)(a:n<=100000):mu s:=⟨by have:=h.ag;omega,h.aJ,h.DD a,h.fl,by have:=h.ll;omega⟩
theorem bh.qw{r:Rg}(h:bh (r::X)):¬Sm (r::X) r.hi:=by
 intro a;obtain c|⟨x,b,d,e⟩:=(eu r X r.hi).1 a
 omega;have f:=(p8.1 h.1).1 x b;omega
theorem bh.run{r:Rg}(h:bh (r::X))(h0:0<=p)(b:r.lo=0)(hl:∀m,0<=m->m<p->Sm (r::X) m):p<=r.hi:=by
 by_cases a:p<=r.hi;exact a;have:=h.2 r (by simp);exact absurd (hl r.hi (by omega) (by omega)) h.qw
theorem gS.whole(h:gS p u):0<=cO u.h/\cO u.h<=u.h.bytes.length:=by
 unfold cO;split;omega;rename_i b;cases a:u.h.af with
 |nil=>rw[a]at b;simp at b
 |cons r t=>
  rw[a]at b;have e0:au (r::t) 0=r:=rfl;rw[e0]at b⊢;have c:=h.ok;rw[a]at c;have f:=c.2 r (by simp);have g:=h.kQ r.lo (by rw[a];exact⟨r,by simp,cW _,f⟩);have i:=h.lA (r.hi-1) (by rw[a];exact⟨r,by simp,by omega,by omega⟩);have d:u.given=false:=by
   cases d:u.given;rfl;have:=(h.sA d).1;rw[a]at this;cases this
  have e:=h.low d;rw[a]at e;have:=c.run h.fr (by omega) e;omega
def aQ.write(st:aQ)(k:Int)(l:List Int):Int×Int×aQ:=
 match st with
 |.aD s=>if k<0\/4<=k then(0,2,st)else((s.write k.toNat l).1,(s.write k.toNat l).2.1,.aD (s.write k.toNat l).2.2)
 |.shut _ _=>(0,9,st)
def aQ.finish(st:aQ)(k:Int):Int×aQ:=
 match st with
 |.aD s=>if k<0\/4<=k then(2,st)else((s.finish k.toNat).1,.aD (s.finish k.toNat).2)
 |.shut _ _=>(9,st)
def aQ.giveUp(st:aQ)(k code:Int):Int×aQ:=
 match st with
 |.aD s=>if k<0\/4<=k then(2,st)else((s.giveUp k.toNat code).1,.aD (s.giveUp k.toNat code).2)
 |.shut _ _=>(9,st)
def aQ.af(st:aQ)(k:Int):Int×Int:=
 match st with
 |.aD s=>if k<0\/4<=k then(0,2)else((s.out k.toNat).h.fr,0)
 |.shut _ _=>(0,9)
def aQ.tick(st:aQ):aQ:=
 match st with
 |.aD s=>.aD s.eN
 |.shut _ _=>st
def aQ.dh(st:aQ):aQ×List (List Int):=
 match st with
 |.aD s=>(.aD s.dh.1,s.dh.2)
 |.shut aF l=>(.shut aF [],l)
def aQ.read(st:aQ)(k aE:Int):List Int×Int×Int×Int×aQ:=
 match st with
 |.aD s=>if k<0\/4<=k then([],0,0,2,st)else((s.aJ k.toNat).out aE,(s.aJ k.toNat).state aE,(s.aJ k.toNat).jm,0,.aD {s with aJ:=ai s.aJ k.toNat ((s.aJ k.toNat).read aE)})
 |.shut _ _=>([],0,0,9,st)
def aQ.close(st:aQ)(code:Int):Int×aQ:=
 match st with
 |.aD s=>if 4611686018427387903<code then(3,st)else(0,.shut 9 (s.gQ 9 code))
 |.shut _ _=>(9,st)
instance Rw(key:List Int)(s:Int)(p:List Int):Decidable (eC key s p):=by unfold eC;infer_instance
noncomputable def Sd.recv(s:Sd)(p:List Int):Int×Int×aQ:=
 if¬eC s.key (aS (!s.first)) p then(4,-1,.aD s)
 else if jt s.af s.floor (bp p)then(0,-1,.aD s)
 else match fE (dN s.key (aS (!s.first)) (bp p) (bT p))with
  |(none,q)=>(5,q,.shut 5 (s.gQ 5 5))
  |(some a,_)=>
   if a.any s.gC then(6,-1,.aD s)
   else if(dp (s.fI (bp p) a) a).1=0 then(0,-1,.aD (dp (s.fI (bp p) a) a).2)
   else((dp (s.fI (bp p) a) a).1,-1,.shut (dp (s.fI (bp p) a) a).1 ((dp (s.fI (bp p) a) a).2.gQ (dp (s.fI (bp p) a) a).1 (dp (s.fI (bp p) a) a).1))
noncomputable def aQ.recv(st:aQ)(p:List Int):Int×Int×aQ:=
 match st with
 |.aD s=>s.recv p
 |.shut _ _=>(9,-1,st)
theorem oJ(h:p<0\/4<=p):eH 0 p=2:=by unfold eH;rw[ah (by simp),az h]
theorem oK(h:p≠0):eH p q=9:=by unfold eH;rw[az h]
theorem MX(w:World)(xb sb:Nat)(st:aQ)(A:Nat->Prop)(n:Nat)(h:cq w xb sb st A)(i:dY n st)(k:Int)(a:Option Addr)(m c:Nat)(l:List Int)(r:bF w a m c l):
 Calls prog 92 #[.pointer (some ⟨xb,0,none⟩),.int .i64 k,.slice a m c] w λe b=>e=.returned (.tuple #[.int .i64 (st.write k l).1,bN (st.write k l).2.1])/\cK w.heap.size w xb sb A (st.write k l).2.2 b:=by
 refine My w xb sb h.cell k _ _ (λe b t=>⟨_,_,t.1⟩) ?_;cases st with
 |aD s=>
  obtain⟨cs,v,H,u⟩:=h.side;unfold aQ.write;by_cases d:k<0\/4<=k;simp only[az d]
  refine(AT w sb 0 k _ H.kP (by rw[oJ d];decide)).mono ?_;rintro e b⟨rfl,g⟩;rw[oJ d];exact⟨rfl,h.to g⟩
  simp only[ah d]
  have j:k.toNat<4:=by omega
  have x:((k.toNat:Nat):Int)=k:=by omega
  have p:=i.out _ j;have f:=i.oI _ j;have y:=i.ag;have q:=p.en;unfold Ot.en at q;refine(x▸HQ w 0 sb cs v s H k.toNat j a m c l r p.nice ⟨f,by omega⟩ q).mono ?_;rintro e b⟨rfl,T⟩;exact⟨rfl,h.jw H u T⟩
 |shut aF z=>
  obtain⟨f,last,B,H,-,-⟩:=h.side;refine(AT w sb aF k _ H.dC (by rw[oK f];decide)).mono ?_;rintro e b⟨rfl,g⟩;rw[oK f];exact⟨rfl,h.to g⟩
theorem MY(w:World)(xb sb:Nat)(st:aQ)(A:Nat->Prop)(h:cq w xb sb st A)(k:Int):
 Calls prog 93 #[.pointer (some ⟨xb,0,none⟩),.int .i64 k] w λe a=>e=.returned (bN (st.finish k).1)/\cK w.heap.size w xb sb A (st.finish k).2 a:=by
 refine Mz w xb sb h.cell k _ (λe a d=>⟨_,d.1⟩) ?_;cases st with
 |aD s=>
  obtain⟨cs,v,H,f⟩:=h.side;unfold aQ.finish;by_cases b:k<0\/4<=k;simp only[az b]
  refine(AU w sb 0 k H.kP (by rw[oJ b];decide)).mono ?_;rintro e a⟨rfl,g⟩;rw[oJ b];exact⟨rfl,h.to g⟩
  simp only[ah b]
  have i:k.toNat<4:=by omega
  have j:((k.toNat:Nat):Int)=k:=by omega
  refine(j▸HU w 0 sb cs v s H k.toNat i).mono ?_;rintro e a⟨rfl,T⟩;exact⟨rfl,h.jw H f T⟩
 |shut aF l=>
  obtain⟨c,last,m,H,-,-⟩:=h.side;refine(AU w sb aF k H.dC (by rw[oK c];decide)).mono ?_;rintro e a⟨rfl,g⟩;rw[oK c];exact⟨rfl,h.to g⟩
theorem MZ(w:World)(xb sb:Nat)(st:aQ)(A:Nat->Prop)(h:cq w xb sb st A)(k code:Int)(d:aV code):
 Calls prog 94 #[.pointer (some ⟨xb,0,none⟩),.int .i64 k,.int .u64 code] w λe a=>e=.returned (bN (st.giveUp k code).1)/\cK w.heap.size w xb sb A (st.giveUp k code).2 a:=by
 refine MA w xb sb h.cell k code _ (λe a f=>⟨_,f.1⟩) ?_;cases st with
 |aD s=>
  obtain⟨cs,v,H,i⟩:=h.side;unfold aQ.giveUp;by_cases b:k<0\/4<=k;simp only[az b]
  refine(AV w sb 0 k code H.kP (by rw[oJ b];decide)).mono ?_;rintro e a⟨rfl,g⟩;rw[oJ b];exact⟨rfl,h.to g⟩
  simp only[ah b]
  have j:k.toNat<4:=by omega
  have l:((k.toNat:Nat):Int)=k:=by omega
  refine(l▸HX w 0 sb cs v s H k.toNat j code d).mono ?_;rintro e a⟨rfl,T⟩;exact⟨rfl,h.jw H i T⟩
 |shut aF m=>
  obtain⟨c,last,n,H,-,-⟩:=h.side;refine(AV w sb aF k code H.dC (by rw[oK c];decide)).mono ?_;rintro e a⟨rfl,g⟩;rw[oK c];exact⟨rfl,h.to g⟩
theorem M0(w:World)(xb sb:Nat)(st:aQ)(A:Nat->Prop)(n:Nat)(h:cq w xb sb st A)(i:dY n st)(k:Int):
 Calls prog 101 #[.pointer (some ⟨xb,0,none⟩),.int .i64 k] w λe a=>e=.returned (.tuple #[.int .i64 (st.af k).1,bN (st.af k).2])/\w.grownBy a none:=by
 refine MB w xb sb h.cell k _ (λe a j=>⟨_,_,j.1⟩) ?_;cases st with
 |aD s=>
  obtain⟨cs,v,H,p⟩:=h.side;unfold aQ.af;by_cases b:k<0\/4<=k;simp only[az b]
  refine(AW w sb 0 k H.kP (by rw[oJ b];decide)).mono ?_;rintro e a⟨rfl,g⟩;rw[oJ b];exact⟨rfl,g⟩
  simp only[ah b]
  have c:k.toNat<4:=by omega
  have l:((k.toNat:Nat):Int)=k:=by omega
  have d:=i.out _ c;have m:=d.en;unfold Ot.en at m;refine(l▸HY w 0 sb cs v s H k.toNat c ⟨d.fr,by omega⟩).mono ?_;rintro e a⟨rfl,T⟩;exact⟨rfl,T⟩
 |shut aF q=>
  obtain⟨f,last,r,H,-,-⟩:=h.side;refine(AW w sb aF k H.dC (by rw[oK f];decide)).mono ?_;rintro e a⟨rfl,g⟩;rw[oK f];exact⟨rfl,g⟩
theorem M1(w:World)(xb sb:Nat)(st:aQ)(A:Nat->Prop)(n:Nat)(h:cq w xb sb st A)(a:dY n st)(j:n<=100000):
 Calls prog 95 #[.pointer (some ⟨xb,0,none⟩)] w λe b=>e=.returned (.tuple #[])/\cK w.heap.size w xb sb A st.tick b:=by
 refine MC w xb sb h.cell _ (λe b c=>c.1) ?_;cases st with
 |aD s=>
  obtain⟨cs,v,H,d⟩:=h.side;have k:=a.fl;have l:=a.ll;have m:=a.tick;refine(H0 w 0 sb cs v s H ⟨by omega,by omega⟩ (by omega) (λx f=>by have:=a.ft x f;omega) (by have:=a.wait;omega)).mono ?_;rintro e b⟨rfl,T⟩;exact⟨rfl,h.jw H d T⟩
 |shut aF p=>
  obtain⟨i,last,q,H,-,-⟩:=h.side;refine(H5 w sb aF H.dC i).mono ?_;rintro e b⟨rfl,g⟩;exact⟨rfl,h.to g⟩
theorem M3(w:World)(xb sb:Nat)(st:aQ)(A:Nat->Prop)(n:Nat)(h:cq w xb sb st A)(c:dY n st)(l:n<=100000)(code:Int)(d:aV code):
 Calls prog 100 #[.pointer (some ⟨xb,0,none⟩),.int .u64 code] w λe a=>e=.returned (bN (st.close code).1)/\cK w.heap.size w xb sb A (st.close code).2 a:=by
 refine MG w xb sb h.cell code _ (λe a f=>⟨_,f.1⟩) ?_;cases st with
 |aD s=>
  obtain⟨cs,v,H,i⟩:=h.side;unfold aQ.close;by_cases b:4611686018427387903<code;simp only[az b]
  refine(Lb w sb code H.kP b).mono ?_;rintro e a⟨rfl,g⟩;exact⟨rfl,h.to g⟩
  simp only[ah b]
  have j:=c.bn;refine(Lc w 0 sb cs v s H c.key ⟨j.1,by omega⟩ code ⟨d.1,by omega⟩).mono ?_;rintro e a⟨rfl,T⟩;exact⟨rfl,h.close H i (by decide) T⟩
 |shut aF m=>
  obtain⟨k,last,p,H,-,-⟩:=h.side;refine(La w sb aF code H.dC k).mono ?_;rintro e a⟨rfl,g⟩;exact⟨rfl,h.to g⟩
theorem M4(w:World)(xb sb:Nat)(st:aQ)(A:Nat->Prop)(n:Nat)(h:cq w xb sb st A)(t:dY n st)(k aE:Int):
 Calls prog 99 #[.pointer (some ⟨xb,0,none⟩),.int .i64 k,.int .i64 aE] w λe d=>∃a m c,e=.returned (.tuple #[.slice a m c,.int .i64 (st.read k aE).2.1,.int .u64 (st.read k aE).2.2.1,bN (st.read k aE).2.2.2.1])/\bm d w.heap.size (.slice a m c) (st.read k aE).1/\∃b,cq d xb sb (st.read k aE).2.2.2.2 b/\(∀k,b k->A k\/w.heap.size<=k)/\av w d A/\∀j,(Value.slice a m c).ownBlock=some j->¬b j:=by
 refine MF w xb sb h.cell k aE _ (λe d r=>?_) ?_;obtain⟨a,m,c,r,-⟩:=r;exact⟨a,m,c,_,_,_,r⟩
 cases st with
 |aD s=>
  obtain⟨cs,v,H,C⟩:=h.side;unfold aQ.read;by_cases f:k<0\/4<=k;simp only[az f]
  refine(AX w sb 0 k aE H.kP (by rw[oJ f];decide)).mono ?_;rintro e d⟨rfl,g⟩;rw[oJ f];obtain⟨b,l,i,p⟩:=h.to (N:=w.heap.size) g;exact⟨none,0,0,rfl,bm.nil _ _,b,l,i,p,λj e=>by cases e⟩
  simp only[ah f]
  have u:k.toNat<4:=by omega
  have D:((k.toNat:Nat):Int)=k:=by omega
  have x:=t.aJ _ u;refine(D▸HZ w 0 sb cs v s H k.toNat u aE (x.nice t.ag.2) x.whole).mono ?_;rintro e d⟨a,m,c,rfl,y,G,q,E,T⟩;obtain⟨b,l,i,p⟩:=(h.ao q).jw (H.ao q) C T;have I:=q.size;refine⟨a,m,c,rfl,y,b,l,λk f=>(i k f).imp id (λh=>by omega),((av.of q).trans p).mono (λk _ e=>e.elim (λe=>by cases e) id),λj e F=>?_⟩
  have K:=E j e;have L:=(y.lt j e).1;obtain z|z:=i j F
  have:=h.lt j z;omega;omega
 |shut aF M=>
  obtain⟨B,last,O,H,-,-⟩:=h.side;refine(AX w sb aF k aE H.dC (by rw[oK B];decide)).mono ?_;rintro e d⟨rfl,g⟩;rw[oK B];obtain⟨b,l,i,p⟩:=h.to (N:=w.heap.size) g;exact⟨none,0,0,rfl,bm.nil _ _,b,l,i,p,λj e=>by cases e⟩
def M5(w:World)(xb sb:Nat)(st:aQ)(A:Nat->Prop)(e:Ending)(b:World):Prop:=
 ∃a n c d f,e=.returned (.slice a n c)/\eO b 0 (.slice a n c) d/\gP b 0 d/\d.map (·.2)=st.dh.2/\cq b xb sb st.dh.1 f/\(∀k,f k->A k\/w.heap.size<=k)/\av w b A/\∀e∈d,¬f e.1/\(Value.slice a n c).ownBlock≠some e.1/\(A e.1\/w.heap.size<=e.1)
theorem cq.M6{j:Sd}{f:aU}(h:cq w n i (.aD s) P)(g:∀k,eA i D k->P k/\k≠n)(S:bB W 0 i c f j)(d:cY w.heap.size w W i D f):cq W n i (.aD j) (λk=>k=n\/eA i f k)/\(∀k,(k=n\/eA i f k)->P k\/w.heap.size<=k)/\av w W P:=by
 have l:=h.lt n h.kz;refine⟨⟨(d.aw.block n l (λe=>(g n (.inl e)).2 rfl)).trans h.aN,⟨c,f,S,λk a=>⟨.inr a,λe=>?_⟩⟩,.inl rfl,λk a=>?_,λe=>?_⟩,λk a=>?_,d.aw.mono (λk _ e=>(g k (.inl e)).1)⟩
 subst e;obtain b|b:=d.ar k a
 exact(g k b).2 rfl;omega;obtain rfl|a:=a
 exact bY l d.aw.size;exact nM S.bq a;obtain e|e:=e
 exact h.n0 (e▸h.kz);obtain b|b:=d.ar 0 e
 exact h.n0 (g 0 b).1;omega;obtain rfl|a:=a
 exact .inl h.kz;obtain b|b:=d.ar k a
 exact .inl (g k b).1;exact .inr b
theorem M7(w:World)(xb sb:Nat)(st:aQ)(A:Nat->Prop)(n:Nat)(h:cq w xb sb st A)(j:dY n st)(F:n<=100000):
 Calls prog 96 #[.pointer (some ⟨xb,0,none⟩)] w (M5 w xb sb st A):=by
 refine MD w xb sb h.cell _ (λe q r=>?_) ?_;obtain⟨a,n,c,-,-,r,-⟩:=r;exact⟨_,r⟩
 cases st with
 |aD s=>
  obtain⟨cs,v,H,l⟩:=h.side;have z:=j.bn;refine(MV w 0 sb cs v s H j.yN ⟨z.1,by omega⟩ j.c8 j.mC j.cr).mono ?_;rintro e q⟨a,n,c,G,I,m,rfl,S,B,L,t⟩;obtain⟨u,p,D⟩:=h.M6 l S B;refine⟨a,n,c,m,_,rfl,L.own.low (jh _),⟨λe b=>⟨jh _,(L.at_.at_ e b).2⟩,L.at_.sep⟩,t,u,p,D,λe b=>⟨λd=>?_,L.s5 e b,.inr (L.at_.at_ e b).1⟩⟩
  obtain d|d:=d
  have K:=(L.at_.at_ e b).1;have M:=h.lt xb h.kz;omega;exact L.ae e b d
 |shut aF N=>
  obtain⟨x,last,m,H,t,l⟩:=h.side;have y:=h.lt xb h.kz;have i:=l sb (.inl rfl);refine(Lg w 0 sb aF last m H x).mono ?_;rintro e q⟨a,n,c,rfl,S,O,E,u,p,g⟩;have C:av w q (λk=>k=sb):=(av.of g).mono (λk _ e=>(aO e).symm);refine⟨a,n,c,m,λk=>k=xb\/k=sb,rfl,O,E,t,⟨(C.block xb y (λe=>i.2 e.symm)).trans h.aN,⟨x,_,[],S,rfl,λk f=>?_⟩,.inl rfl,λk f=>?_,λe=>?_⟩,λk f=>?_,C.mono (λk _ e=>by rw[e];exact i.1),λe b=>⟨λd=>?_,(p e b).2,.inl (l e.1 (.inr (.inr ⟨e,b,rfl⟩))).1⟩⟩
  obtain rfl|f|⟨e,b,-⟩:=f
  exact⟨.inr rfl,i.2⟩
  cases f;cases b;obtain rfl|rfl:=f
  exact bY y C.size;exact bY (h.lt _ i.1) C.size;obtain e|e:=e
  exact h.n0 (e▸h.kz);exact h.n0 (e▸i.1);obtain rfl|rfl:=f
  exact .inl h.kz;exact .inl i.1;obtain d|d:=d
  exact(l e.1 (.inr (.inr ⟨e,b,rfl⟩))).2 d;exact(p e b).1 d
theorem M8(w:World)(xb sb:Nat)(st:aQ)(A:Nat->Prop)(n:Nat)(h:cq w xb sb st A)(j:dY n st)(x:n<=100000)(y:Laid w)(a:Option Addr)(m c:Nat)(p:List Int)(z:bF w a m c p):
 Calls prog 98 #[.pointer (some ⟨xb,0,none⟩),.slice a m c] w λe b=>∃ev,e=.returned ev/\tY b ev (st.recv p).1 (st.recv p).2.1/\(∀F,ev=.iface 177 (.pointer (some ⟨F,0,none⟩))->w.heap.size<=F)/\cK w.heap.size w xb sb A (st.recv p).2.2 b:=by
 refine ME w xb sb h.cell _ _ (λe b u=>?_) ?_;obtain⟨ev,u,-⟩:=u;exact⟨_,u⟩
 have r:∀(n:Int) F,bN n=.iface 177 (.pointer (some ⟨F,0,none⟩))->w.heap.size<=F:=λn F e=>by
  unfold bN at e;split at e;cases e;have:=(Value.iface.inj e).1;simp at this
 cases st with
 |aD s=>
  obtain⟨cs,v,H,f⟩:=h.side;have B:=j.bn;have E:=j.ll;refine(Ms w 0 sb cs v s p H j.key (j.MW x) (by omega) ⟨B.1,by omega⟩ j.mC j.c8 y (λe=>h.n0 (f 0 (.inl e)).1) a m c z).mono ?_;show∀e b,sC w 0 sb v s p e b->∃ev,e=.returned ev/\tY b ev (s.recv p).1 (s.recv p).2.1/\(∀F,ev=.iface 177 (.pointer (some ⟨F,0,none⟩))->w.heap.size<=F)/\cK w.heap.size w xb sb A (s.recv p).2.2 b;rintro e b(⟨d,rfl,T⟩|⟨d,i,rfl,T⟩|⟨d,i,q,F,k,rfl,hF,C,T⟩|⟨d,i,G,k,⟨l,rfl,T⟩|⟨l,t,rfl,T⟩|⟨l,t,rfl,T⟩⟩);unfold Sd.recv;rw[az d];exact⟨_,rfl,.inl ⟨rfl,rfl⟩,r 4,h.jw H f T⟩
  unfold Sd.recv;rw[ah (by simpa using d),az i];exact⟨_,rfl,.inl ⟨rfl,rfl⟩,λF e=>(by cases e),h.jw H f T⟩
  unfold Sd.recv;rw[ah (by simpa using d),ah (by rw[i];decide),k];refine⟨_,rfl,.inr ⟨F,rfl,C⟩,λI e=>?_,h.close H f (by decide) T⟩
  have e2:=(Value.iface.inj e).2;cases e2;exact hF;unfold Sd.recv;rw[ah (by simpa using d),ah (by rw[i];decide),k];simp only[az l]
  exact⟨_,rfl,.inl ⟨rfl,rfl⟩,r 6,h.jw H f T⟩
  unfold Sd.recv;rw[ah (by simpa using d),ah (by rw[i];decide),k];simp only[l,gm,fR,az t]
  exact⟨_,rfl,.inl ⟨rfl,rfl⟩,λF e=>(by cases e),h.jw H f T⟩
  unfold Sd.recv;rw[ah (by simpa using d),ah (by rw[i];decide),k];simp only[l,gm,fR,ah t]
  exact⟨_,rfl,.inl ⟨rfl,rfl⟩,r _,h.close H f t T⟩
 |shut aF K=>
  obtain⟨D,last,L,H,-,-⟩:=h.side;refine(Mt w sb aF H.dC D _).mono ?_;rintro e b⟨rfl,g⟩;exact⟨_,rfl,.inl ⟨rfl,rfl⟩,r 9,h.to g⟩
def wF(w:World)(an ag:Int)(key:List Int)(f:Bool)(bad:Value)(b:Value->Value)(e:Ending)(a:World):Prop:=
 w.grownBy a none/\((¬jH an ag/\e=.returned bad)\/(jH an ag/\∃xb sb A,e=.returned (b (.pointer (some ⟨xb,0,none⟩)))/\(∀k,A k->w.heap.size<=k)/\cq a xb sb (.aD (Sd.new an ag key f)) A))
theorem M9(w:World)(an ag:Int)(key:List Int)(d:dw key)(f:Bool)(F:0<w.heap.size):
 Calls prog 34 #[.agg #[.int .i64 an,.int .i64 ag],.agg (cJ key),.bool f] w (wF w an ag key f (.tuple #[.pointer none,bN 1]) (λv=>.tuple #[v,.nilIface])):=by
 obtain⟨R,p⟩:=exq (wF w an ag key f (.tuple #[.pointer none,bN 1]) (λv=>.tuple #[v,.nilIface]));rw[<-p];replace p:=J p;have t:=pI d;obtain⟨b,j⟩:=exq ((w.alloc (.cells #[.int .i64 an,.int .i64 ag] 28)).alloc (.cells (cJ key) 24));have u:w.grownBy b none:=by rw[j];exact aq (aH _ _ _) (aH _ _ _)
 have l:b.heap[w.heap.size]?=some (.cells #[.int .i64 an,.int .i64 ag] 28 (0,0)):=by rw[j];exact bA (aM _ _) (aH _ _ _)
 have m:b.heap[w.heap.size+1]?=some (.cells (cJ key) 24 (0,0)):=by
  have:=aM (w.alloc (.cells #[.int .i64 an,.int .i64 ag] 28)) (.cells (cJ key) 24);rw[dQ]at this;rw[j];exact this
 have c0:b.cell? ⟨w.heap.size,0,none⟩=some (.int .i64 an):=by simp[World.cell?,l]
 have c1:b.cell? ⟨w.heap.size,1,none⟩=some (.int .i64 ag):=by simp[World.cell?,l]
 have G:prog.cellsOf 24=16:=by kernel_rfl
 by_cases h:jH an ag
 ·have r:=J (Mw b an ag key d f h);have s:=J (λ(a:World)(sb:Nat)(g:b.grownBy a none)(hs:b.heap.size<=sb)(q:a.heap[sb]?=some (.cells (fX an ag (bv key) f 4 0 (.slice none 0 0)).toArray 241 (0,0)))=>(show R (.returned (.tuple #[.pointer (some ⟨a.heap.size,0,none⟩),.nilIface])) (a.alloc (.cells #[.pointer (some ⟨sb,0,none⟩)] 173)) by
   rw[Z p];have B:=aH a (.cells #[.pointer (some ⟨sb,0,none⟩)] 173) none;have H:=u.size;have I:=g.size;have iZ:=(aY.1 q).1;have L:(a.alloc (.cells #[.pointer (some ⟨sb,0,none⟩)] 173)).heap.size=a.heap.size+1:=dQ _ _;have C:∀k,eA sb aU.new k->k=sb:=λk d=>by
    obtain(D|⟨i,-,e⟩)|⟨i,y,n,c,-,e,-⟩|⟨x,E,-⟩:=d
    exact D;cases e;cases e;cases E
   refine⟨aq u (aq g B),.inr ⟨h,a.heap.size,sb,λk=>k=a.heap.size\/k=sb,rfl,λk d=>(by omega),⟨aM _ _,⟨_,aU.new,Mx d (bA q B) (jh _),λk d=>?_⟩,.inl rfl,λk d=>(by omega),λe=>(by omega)⟩⟩⟩
   rw[C k d];exact⟨.inr rfl,by omega⟩))
  generalize cJ key=K at *;replace l:=J l;replace m:=J m;clear h;go_enter func34,ntmps34;go_upto_region 1 with fail;rw[<-j];clear j;go_wp2_with (refine qK _ (by rfl) (by rfl) _ (by rfl) K ?_ t ?_;exact Z m);refine(Z r).mono ?_;rintro e a⟨sb,rfl,hs,q,z⟩;have A:=J (Z s a sb z hs q);clear q hs;go_wp2_with fail;exact Z A
 have r:=J (Mu b an ag _ t f h);have s:=J (λ(a:World)(g:b.grownBy a none)=>(show R (.returned (.tuple #[.pointer none,bN 1])) a by
  rw[Z p];exact⟨aq u g,.inl ⟨h,rfl⟩⟩))
 rw[show bN 1=.iface 34 (.int .i64 1)from rfl]at r s;generalize cJ key=K at *;replace l:=J l;replace m:=J m;clear h;go_enter func34,ntmps34;go_upto_region 1 with fail;rw[<-j];clear j;go_wp2_with (refine qK _ (by rfl) (by rfl) _ (by rfl) K ?_ t ?_;exact Z m);refine(Z r).mono ?_;rintro e a⟨rfl,z⟩;have A:=J (Z s a z);go_wp2_with fail;exact Z A
theorem Na(w:World)(an ag:Int)(key:List Int)(i:dw key)(f:Bool)(j:Laid w):
 Calls prog 12 #[.agg #[.int .i64 an,.int .i64 ag],.agg (cJ key),.bool f] w (wF w an ag key f (.tuple #[.pointer none,.int .i64 1]) (λv=>.tuple #[v,.int .i64 0])):=by
 obtain⟨R,b⟩:=exq (wF w an ag key f (.tuple #[.pointer none,.int .i64 1]) (λv=>.tuple #[v,.int .i64 0]));rw[<-b];replace b:=J b;have y:=pI i;obtain⟨a,c⟩:=exq ((w.alloc (.cells #[.int .i64 an,.int .i64 ag] 28)).alloc (.cells (cJ key) 24));have d:w.grownBy a none:=by rw[c];exact aq (aH _ _ _) (aH _ _ _)
 have l:a.heap[w.heap.size]?=some (.cells #[.int .i64 an,.int .i64 ag] 28 (0,0)):=by rw[c];exact bA (aM _ _) (aH _ _ _)
 have n:a.heap[w.heap.size+1]?=some (.cells (cJ key) 24 (0,0)):=by
  have:=aM (w.alloc (.cells #[.int .i64 an,.int .i64 ag] 28)) (.cells (cJ key) 24);rw[dQ]at this;rw[c];exact this
 have c0:a.cell? ⟨w.heap.size,0,none⟩=some (.int .i64 an):=by simp[World.cell?,l]
 have c1:a.cell? ⟨w.heap.size,1,none⟩=some (.int .i64 ag):=by simp[World.cell?,l]
 have D:prog.cellsOf 24=16:=by kernel_rfl
 have s:=J (M9 a an ag key i f (bY j.lt d.size));have t:=J (λ(h:World)(g:w.grownBy h none)=>ML 1 h (j.gb g (by simp)));have z:=J (λ(h:World)=>yG h);rw[show bN 1=.iface 34 (.int .i64 1)from rfl]at s t;generalize cJ key=K at *;replace l:=J l;replace n:=J n;replace j:=J j;go_enter func12,ntmps12;go_upto_region 1 with fail;rw[<-c];clear c;go_wp2_with (refine qK _ (by rfl) (by rfl) _ (by rfl) K ?_ y ?_;exact Z n);refine(Z s).mono ?_;rintro e h⟨p,⟨B,rfl⟩|⟨C,xb,sb,A,rfl,u,x⟩⟩
 ·go_wp2_with fail;refine(Z t _ (aq d p)).mono ?_;rintro e q⟨rfl,m⟩;have r:Hid (R (.returned (.tuple #[.pointer none,.int .i64 1])) q):=J (by rw[Z b];exact⟨aq d (aq p m),.inl ⟨B,rfl⟩⟩);go_wp2_with fail;exact Z r
 go_wp2_with fail;refine(Z z _).mono ?_;rintro e q⟨rfl,m⟩;have r:Hid (R (.returned (.tuple #[.pointer (some ⟨xb,0,none⟩),.int .i64 0])) q):=J (by rw[Z b];exact⟨aq d (aq p m),.inr ⟨C,xb,sb,A,rfl,λk i=>bD d.size (u k i),x.ao m⟩⟩);clear x u;go_wp2_with fail;exact Z r
structure fY where
 op:Int
 stream:Int
 n:Int
 code:Int
 data:ByteArray
def cG(q:fY):Array Value:= #[.int .i64 q.op,.int .i64 q.stream,.int .i64 q.n,.int .u64 q.code,.string q.data]
structure Rs where
 e:Int
 at_:Int
 n:Int
 code:Int
 data:List Int
 dh:List (List Int)
noncomputable def aQ.do(st:aQ)(q:fY):Rs×aQ:=
 if q.op=1 then(⟨(st.write q.stream (aG q.data)).2.1,-1,(st.write q.stream (aG q.data)).1,0,[],[]⟩,(st.write q.stream (aG q.data)).2.2)
 else if q.op=2 then(⟨(st.finish q.stream).1,-1,0,0,[],[]⟩,(st.finish q.stream).2)
 else if q.op=3 then(⟨(st.giveUp q.stream q.code).1,-1,0,0,[],[]⟩,(st.giveUp q.stream q.code).2)
 else if q.op=4 then(⟨0,-1,0,0,[],[]⟩,st.tick)
 else if q.op=5 then(⟨0,-1,0,0,[],st.dh.2⟩,st.dh.1)
 else if q.op=6 then(⟨(st.recv (aG q.data)).1,(st.recv (aG q.data)).2.1,0,0,[],[]⟩,(st.recv (aG q.data)).2.2)
 else if q.op=7 then(⟨(st.read q.stream q.n).2.2.2.1,-1,(st.read q.stream q.n).2.1,(st.read q.stream q.n).2.2.1,(st.read q.stream q.n).1,[]⟩,(st.read q.stream q.n).2.2.2.2)
 else if q.op=8 then(⟨(st.close q.code).1,-1,0,0,[],[]⟩,(st.close q.code).2)
 else if q.op=9 then(⟨(st.af q.stream).2,-1,(st.af q.stream).1,0,[],[]⟩,st)
 else(⟨0,-1,0,0,[],[]⟩,st)
def fP(w:World)(a:Nat)(v:Value)(l:List (List Int)):Prop:=w.ownsRow a 9 1 v l.length (l.map λp=>.string (strOfNums p))
theorem fP.nil(w:World)(a:Nat):fP w a (.slice none 0 0) []:=om _ _ _ _
def iO(w:World)(xb sb:Nat)(A:Nat->Prop)(r:Rs×aQ)(e:Ending)(b:World):Prop:=
 ∃a n c,e=.returned (.tuple #[.int .i64 r.1.e,.int .i64 r.1.at_,.int .i64 r.1.n,.int .u64 r.1.code,.string (strOfNums r.1.data),.slice a n c])/\fP b w.heap.size (.slice a n c) r.1.dh/\∃d,cq b xb sb r.2 d/\(∀k,d k->A k\/w.heap.size<=k)/\av w b A/\∀j,(Value.slice a n c).ownBlock=some j->¬d j
theorem pP:strOfNums []=⟨#[]⟩:=rfl
structure iE(w:World)(q:fY)(c a:World):Prop where
 e1:c=w.alloc (.cells (cG q) 32)
 e2:a=Lib.bytesWorld c 5 q.data
 g:w.grownBy a none
 z:c.heap.size=w.heap.size+1
 z2:a.heap.size=w.heap.size+2
 b:a.heap[w.heap.size]?=some (.cells (cG q) 32 (0,0))
theorem iE.mk'(w:World)(q:fY):∃a b,iE w q a b:=by
 refine⟨_,_,rfl,rfl,aq (aH _ _ _) (uP _ _),dQ _ _,by rw[Lib.bytesWorld_size,dQ],bA (aM _ _) (uP _ _)⟩
theorem iE.fin{a b:World}{q:fY}(D:iE w q W v){st:aQ}(c:∀k,S k->k<w.heap.size)(T:cK v.heap.size v n i S st V)(d:V.grownBy a (some (w.heap.size+1)))(f:a.grownBy b none):cK w.heap.size w n i S st b:=by
 have l:=D.z2;have h:cK v.heap.size w n i S st a:=(T.pre D.g).other (av.of d) (λk _ e=>by
  have:=aO e;exact⟨λj=>by have:=c k j;omega,by omega,by omega⟩)
 exact(h.ao f).mono (by omega)
theorem iE.post{q:fY}(f:iE w q W v){r:Rs×aQ}(hd:r.1.data=[])(hp:r.1.dh=[])(T:cK w.heap.size w k i S r.2 V):iO w k i S r (.returned (.tuple #[.int .i64 r.1.e,.int .i64 r.1.at_,.int .i64 r.1.n,.int .u64 r.1.code,.string ⟨#[]⟩,.slice none 0 0])) V:=by
 obtain⟨a,b,c,d⟩:=T;exact⟨none,0,0,by rw[hd];rfl,by rw[hp];exact fP.nil _ _,a,b,c,d,λj e=>by cases e⟩
theorem iE.oL{q:fY}(D:iE w q W v)(a:∀k,S k->k<w.heap.size)(C:av v V S)(hd:q.data.size<=1000000)(c:Nat):
 Calls prog 97 #[.slice (some ⟨w.heap.size+1,0,none⟩) q.data.size c] V λe b=>e=.returned (.tuple #[])/\V.grownBy b (some (w.heap.size+1)):=by
 have:=MJ W V q.data (by omega) (by rw[C.block _ (by rw[D.z,D.z2];omega) (λd=>by have:=a _ d;rw[D.z]at this;omega),D.e2]) c;rw[D.z]at this;exact this
theorem iE.bs{q:fY}(D:iE w q W v)(hd:q.data.size<=1000000):bF v (some ⟨w.heap.size+1,0,none⟩) q.data.size (grownCap W q.data.size 0 5) (aG q.data):=by
 have:=xq W q.data (by omega);rw[D.z,<-D.e2]at this;exact this
theorem iE.told{a:World}{q:fY}(D:iE w q W v)(h0:¬S 0)(d:Laid w)(C:av v V S)(c:V.grownBy a (some (w.heap.size+1))){ev:Value}{n p:Int}(b:tY V ev n p)(hF:∀F,ev=.iface 177 (.pointer (some ⟨F,0,none⟩))->v.heap.size<=F):
 Calls prog 39 #[ev] a λe f=>e=.returned (.tuple #[.int .i64 n,.int .i64 p])/\a.grownBy f none:=by
 have h:=D.z2;refine MK a ev n p (((d.gb D.g (by simp)).aw C h0).gb c (by simp)) ?_;obtain b|⟨F,e,aa⟩:=b
 exact .inl b;have i:=hF F e;exact .inr ⟨F,e,(c.block F (aY.1 aa).1 (by simp only[ne_eq,mf];omega)).trans aa⟩
theorem qV(e:bN p=.iface 177 (.pointer (some ⟨i,0,none⟩))):k<=i:=by
 unfold bN at e;split at e;cases e;have:=(Value.iface.inj e).1;simp at this
theorem Nb(w:World)(xb sb:Nat)(st:aQ)(A:Nat->Prop)(n:Nat)(h:cq w xb sb st A)(N:dY n st)(O:n<=100000)(m:Laid w)(q:fY)(x:aV q.code)(y:q.op=2)(hd:q.data.size<=1000000):
 Calls prog 60 #[.pointer (some ⟨xb,0,none⟩),.agg (cG q)] w (iO w xb sb A (st.do q)):=by
 obtain⟨R,j⟩:=exq (iO w xb sb A (st.do q));rw[<-j];obtain⟨I,a,D⟩:=iE.mk' w q;have k:=J (MY a xb sb st A (h.ao D.g) q.stream);have s:=J (λ(c:World)(T:cK a.heap.size a xb sb A ((st.finish q.stream).2) c)=>D.oL h.lt T.choose_spec.2.2 hd);have l:=J (λ(c d:World)(T:cK a.heap.size a xb sb A ((st.finish q.stream).2) c)(f:c.grownBy d (some (w.heap.size+1)))=>D.told h.n0 m T.choose_spec.2.2 f (ev:=bN ((st.finish q.stream).1)) (n:=(st.finish q.stream).1) (p:= -1) (.inl ⟨rfl,rfl⟩) (λF e=>qV e));have t:=J (λ(c d i:World)(T:cK a.heap.size a xb sb A ((st.finish q.stream).2) c)(f:c.grownBy d (some (w.heap.size+1)))(u:d.grownBy i none)=>(show R (.returned (.tuple #[.int .i64 ((st.finish q.stream).1),.int .i64 (-1),.int .i64 (0),.int .u64 0,.string ⟨#[]⟩,.slice none 0 0])) i by
  have e:st.do q=(⟨(st.finish q.stream).1,-1,0,0,[],[]⟩,(st.finish q.stream).2):=by unfold aQ.do;rw[ah (by omega),az y]
  rw[j,e];exact D.post (r:=(⟨(st.finish q.stream).1,-1,0,0,[],[]⟩,(st.finish q.stream).2)) rfl rfl (D.fin h.lt T f u)))
 have P:=mR q.data;obtain⟨r,B⟩:=exq (st.finish q.stream);rw[<-B]at k s l t;clear B;obtain⟨C,Q⟩:=r;simp only at k s l t;obtain⟨d0,d1,d2,d3,d4⟩:a.cell? ⟨w.heap.size,0,none⟩=some (.int .i64 q.op)/\a.cell? ⟨w.heap.size,1,none⟩=some (.int .i64 q.stream)/\a.cell? ⟨w.heap.size,2,none⟩=some (.int .i64 q.n)/\a.cell? ⟨w.heap.size,3,none⟩=some (.int .u64 q.code)/\a.cell? ⟨w.heap.size,4,none⟩=some (.string q.data):=by simp[World.cell?,D.b,cG]
 have E:=D.e1;have G:=D.e2;have S:=D.z;replace D:=J D;replace j:=J j;replace h:=J h;replace m:=J m;replace x:=J x;unfold cG at *;obtain⟨op,stream,U,code,data⟩:=q;simp only at *;subst y;generalize bN C=ev at k l;go_enter func60,ntmps60;go_upto_region 3 with fail;rw[<-E,<-G];generalize grownCap I data.size 0 5=cap at *;clear E G;go_wp2_with fail;refine(Z k).mono ?_;rintro e c⟨rfl,T⟩;have K:=J (Z s c T cap);have L:=J (λd=>Z l c d T);have M:=J (λd i=>Z t c d i T);clear T;go_wp2_with fail;refine(Z K).mono ?_;rintro e d⟨rfl,f⟩;go_wp2_with fail;refine(Z L _ f).mono ?_;rintro e i⟨rfl,u⟩;have H:=J (Z M _ _ f u);go_wp2_with fail;first|exact Z H|exact cA (v:=.tuple #[.int .i64 C,.int .i64 (-1),.int .i64 0,.int .u64 0,.string ⟨#[]⟩,.slice none 0 0]) (by simp[results,results60,go_sem]) rfl (Z H)
theorem Nc(w:World)(xb sb:Nat)(st:aQ)(A:Nat->Prop)(n:Nat)(h:cq w xb sb st A)(N:dY n st)(O:n<=100000)(m:Laid w)(q:fY)(s:aV q.code)(y:q.op=3)(hd:q.data.size<=1000000):
 Calls prog 60 #[.pointer (some ⟨xb,0,none⟩),.agg (cG q)] w (iO w xb sb A (st.do q)):=by
 obtain⟨R,j⟩:=exq (iO w xb sb A (st.do q));rw[<-j];obtain⟨I,a,D⟩:=iE.mk' w q;have k:=J (MZ a xb sb st A (h.ao D.g) q.stream q.code s);have t:=J (λ(c:World)(T:cK a.heap.size a xb sb A ((st.giveUp q.stream q.code).2) c)=>D.oL h.lt T.choose_spec.2.2 hd);have l:=J (λ(c d:World)(T:cK a.heap.size a xb sb A ((st.giveUp q.stream q.code).2) c)(f:c.grownBy d (some (w.heap.size+1)))=>D.told h.n0 m T.choose_spec.2.2 f (ev:=bN ((st.giveUp q.stream q.code).1)) (n:=(st.giveUp q.stream q.code).1) (p:= -1) (.inl ⟨rfl,rfl⟩) (λF e=>qV e));have u:=J (λ(c d i:World)(T:cK a.heap.size a xb sb A ((st.giveUp q.stream q.code).2) c)(f:c.grownBy d (some (w.heap.size+1)))(x:d.grownBy i none)=>(show R (.returned (.tuple #[.int .i64 ((st.giveUp q.stream q.code).1),.int .i64 (-1),.int .i64 (0),.int .u64 0,.string ⟨#[]⟩,.slice none 0 0])) i by
  have e:st.do q=(⟨(st.giveUp q.stream q.code).1,-1,0,0,[],[]⟩,(st.giveUp q.stream q.code).2):=by unfold aQ.do;rw[ah (by omega),ah (by omega),az y]
  rw[j,e];exact D.post (r:=(⟨(st.giveUp q.stream q.code).1,-1,0,0,[],[]⟩,(st.giveUp q.stream q.code).2)) rfl rfl (D.fin h.lt T f x)))
 have P:=mR q.data;obtain⟨r,B⟩:=exq (st.giveUp q.stream q.code);rw[<-B]at k t l u;clear B;obtain⟨C,Q⟩:=r;simp only at k t l u;obtain⟨d0,d1,d2,d3,d4⟩:a.cell? ⟨w.heap.size,0,none⟩=some (.int .i64 q.op)/\a.cell? ⟨w.heap.size,1,none⟩=some (.int .i64 q.stream)/\a.cell? ⟨w.heap.size,2,none⟩=some (.int .i64 q.n)/\a.cell? ⟨w.heap.size,3,none⟩=some (.int .u64 q.code)/\a.cell? ⟨w.heap.size,4,none⟩=some (.string q.data):=by simp[World.cell?,D.b,cG]
 have E:=D.e1;have G:=D.e2;have S:=D.z;replace D:=J D;replace j:=J j;replace h:=J h;replace m:=J m;replace s:=J s;unfold cG at *;obtain⟨op,stream,U,code,data⟩:=q;simp only at *;subst y;generalize bN C=ev at k l;go_enter func60,ntmps60;go_upto_region 3 with fail;rw[<-E,<-G];generalize grownCap I data.size 0 5=cap at *;clear E G;go_wp2_with fail;refine(Z k).mono ?_;rintro e c⟨rfl,T⟩;have K:=J (Z t c T cap);have L:=J (λd=>Z l c d T);have M:=J (λd i=>Z u c d i T);clear T;go_wp2_with fail;refine(Z K).mono ?_;rintro e d⟨rfl,f⟩;go_wp2_with fail;refine(Z L _ f).mono ?_;rintro e i⟨rfl,x⟩;have H:=J (Z M _ _ f x);go_wp2_with fail;first|exact Z H|exact cA (v:=.tuple #[.int .i64 C,.int .i64 (-1),.int .i64 0,.int .u64 0,.string ⟨#[]⟩,.slice none 0 0]) (by simp[results,results60,go_sem]) rfl (Z H)
theorem Nd(w:World)(xb sb:Nat)(st:aQ)(A:Nat->Prop)(n:Nat)(h:cq w xb sb st A)(I:dY n st)(K:n<=100000)(m:Laid w)(q:fY)(s:aV q.code)(y:q.op=8)(hd:q.data.size<=1000000):
 Calls prog 60 #[.pointer (some ⟨xb,0,none⟩),.agg (cG q)] w (iO w xb sb A (st.do q)):=by
 obtain⟨R,j⟩:=exq (iO w xb sb A (st.do q));rw[<-j];obtain⟨L,a,D⟩:=iE.mk' w q;have k:=J (M3 a xb sb st A n (h.ao D.g) I K q.code s);have t:=J (λ(c:World)(T:cK a.heap.size a xb sb A ((st.close q.code).2) c)=>D.oL h.lt T.choose_spec.2.2 hd);have l:=J (λ(c d:World)(T:cK a.heap.size a xb sb A ((st.close q.code).2) c)(f:c.grownBy d (some (w.heap.size+1)))=>D.told h.n0 m T.choose_spec.2.2 f (ev:=bN ((st.close q.code).1)) (n:=(st.close q.code).1) (p:= -1) (.inl ⟨rfl,rfl⟩) (λF e=>qV e));have u:=J (λ(c d i:World)(T:cK a.heap.size a xb sb A ((st.close q.code).2) c)(f:c.grownBy d (some (w.heap.size+1)))(x:d.grownBy i none)=>(show R (.returned (.tuple #[.int .i64 ((st.close q.code).1),.int .i64 (-1),.int .i64 (0),.int .u64 0,.string ⟨#[]⟩,.slice none 0 0])) i by
  have e:st.do q=(⟨(st.close q.code).1,-1,0,0,[],[]⟩,(st.close q.code).2):=by unfold aQ.do;rw[ah (by omega),ah (by omega),ah (by omega),ah (by omega),ah (by omega),ah (by omega),ah (by omega),az y]
  rw[j,e];exact D.post (r:=(⟨(st.close q.code).1,-1,0,0,[],[]⟩,(st.close q.code).2)) rfl rfl (D.fin h.lt T f x)))
 have P:=mR q.data;obtain⟨r,B⟩:=exq (st.close q.code);rw[<-B]at k t l u;clear B;obtain⟨C,Q⟩:=r;simp only at k t l u;obtain⟨d0,d1,d2,d3,d4⟩:a.cell? ⟨w.heap.size,0,none⟩=some (.int .i64 q.op)/\a.cell? ⟨w.heap.size,1,none⟩=some (.int .i64 q.stream)/\a.cell? ⟨w.heap.size,2,none⟩=some (.int .i64 q.n)/\a.cell? ⟨w.heap.size,3,none⟩=some (.int .u64 q.code)/\a.cell? ⟨w.heap.size,4,none⟩=some (.string q.data):=by simp[World.cell?,D.b,cG]
 have E:=D.e1;have G:=D.e2;have S:=D.z;replace D:=J D;replace j:=J j;replace h:=J h;replace m:=J m;replace s:=J s;unfold cG at *;obtain⟨op,stream,U,code,data⟩:=q;simp only at *;subst y;generalize bN C=ev at k l;go_enter func60,ntmps60;go_upto_region 3 with fail;rw[<-E,<-G];generalize grownCap L data.size 0 5=cap at *;clear E G;go_wp2_with fail;refine(Z k).mono ?_;rintro e c⟨rfl,T⟩;have M:=J (Z t c T cap);have N:=J (λd=>Z l c d T);have O:=J (λd i=>Z u c d i T);clear T;go_wp2_with fail;refine(Z M).mono ?_;rintro e d⟨rfl,f⟩;go_wp2_with fail;refine(Z N _ f).mono ?_;rintro e i⟨rfl,x⟩;have H:=J (Z O _ _ f x);go_wp2_with fail;first|exact Z H|exact cA (v:=.tuple #[.int .i64 C,.int .i64 (-1),.int .i64 0,.int .u64 0,.string ⟨#[]⟩,.slice none 0 0]) (by simp[results,results60,go_sem]) rfl (Z H)
theorem Nf(w:World)(xb sb:Nat)(st:aQ)(A:Nat->Prop)(n:Nat)(h:cq w xb sb st A)(K:dY n st)(P:n<=100000)(m:Laid w)(q:fY)(x:aV q.code)(y:q.op=1)(hd:q.data.size<=1000000):
 Calls prog 60 #[.pointer (some ⟨xb,0,none⟩),.agg (cG q)] w (iO w xb sb A (st.do q)):=by
 obtain⟨R,j⟩:=exq (iO w xb sb A (st.do q));rw[<-j];obtain⟨B,a,D⟩:=iE.mk' w q;have k:=J (MX a xb sb st A n (h.ao D.g) K q.stream (some ⟨w.heap.size+1,0,none⟩) q.data.size (grownCap B q.data.size 0 5) (aG q.data) (D.bs hd));have s:=J (λ(c:World)(T:cK a.heap.size a xb sb A ((st.write q.stream (aG q.data)).2.2) c)=>D.oL h.lt T.choose_spec.2.2 hd);have l:=J (λ(c d:World)(T:cK a.heap.size a xb sb A ((st.write q.stream (aG q.data)).2.2) c)(f:c.grownBy d (some (w.heap.size+1)))=>D.told h.n0 m T.choose_spec.2.2 f (ev:=bN ((st.write q.stream (aG q.data)).2.1)) (n:=(st.write q.stream (aG q.data)).2.1) (p:= -1) (.inl ⟨rfl,rfl⟩) (λF e=>qV e));have t:=J (λ(c d i:World)(T:cK a.heap.size a xb sb A ((st.write q.stream (aG q.data)).2.2) c)(f:c.grownBy d (some (w.heap.size+1)))(u:d.grownBy i none)=>(show R (.returned (.tuple #[.int .i64 ((st.write q.stream (aG q.data)).2.1),.int .i64 (-1),.int .i64 ((st.write q.stream (aG q.data)).1),.int .u64 0,.string ⟨#[]⟩,.slice none 0 0])) i by
  have e:st.do q=(⟨(st.write q.stream (aG q.data)).2.1,-1,(st.write q.stream (aG q.data)).1,0,[],[]⟩,(st.write q.stream (aG q.data)).2.2):=by unfold aQ.do;rw[az y]
  rw[j,e];exact D.post (r:=(⟨(st.write q.stream (aG q.data)).2.1,-1,(st.write q.stream (aG q.data)).1,0,[],[]⟩,(st.write q.stream (aG q.data)).2.2)) rfl rfl (D.fin h.lt T f u)))
 have Q:=mR q.data;obtain⟨r,C⟩:=exq (st.write q.stream (aG q.data));rw[<-C]at k s l t;clear C;obtain⟨L,E,S⟩:=r;simp only at k s l t;obtain⟨d0,d1,d2,d3,d4⟩:a.cell? ⟨w.heap.size,0,none⟩=some (.int .i64 q.op)/\a.cell? ⟨w.heap.size,1,none⟩=some (.int .i64 q.stream)/\a.cell? ⟨w.heap.size,2,none⟩=some (.int .i64 q.n)/\a.cell? ⟨w.heap.size,3,none⟩=some (.int .u64 q.code)/\a.cell? ⟨w.heap.size,4,none⟩=some (.string q.data):=by simp[World.cell?,D.b,cG]
 have G:=D.e1;have H:=D.e2;have U:=D.z;replace D:=J D;replace j:=J j;replace h:=J h;replace m:=J m;replace x:=J x;unfold cG at *;obtain⟨op,stream,V,code,data⟩:=q;simp only at *;subst y;generalize bN E=ev at k l;go_enter func60,ntmps60;go_upto_region 3 with fail;rw[<-G,<-H];generalize grownCap B data.size 0 5=cap at *;clear G H;go_wp2_with fail;refine(Z k).mono ?_;rintro e c⟨rfl,T⟩;have M:=J (Z s c T cap);have N:=J (λd=>Z l c d T);have O:=J (λd i=>Z t c d i T);clear T;go_wp2_with fail;refine(Z M).mono ?_;rintro e d⟨rfl,f⟩;go_wp2_with fail;refine(Z N _ f).mono ?_;rintro e i⟨rfl,u⟩;have I:=J (Z O _ _ f u);go_wp2_with fail;first|exact Z I|exact cA (v:=.tuple #[.int .i64 E,.int .i64 (-1),.int .i64 L,.int .u64 0,.string ⟨#[]⟩,.slice none 0 0]) (by simp[results,results60,go_sem]) rfl (Z I)
theorem Ng(w:World)(xb sb:Nat)(st:aQ)(A:Nat->Prop)(n:Nat)(h:cq w xb sb st A)(I:dY n st)(S:n<=100000)(m:Laid w)(q:fY)(u:aV q.code)(x:q.op=9)(hd:q.data.size<=1000000):
 Calls prog 60 #[.pointer (some ⟨xb,0,none⟩),.agg (cG q)] w (iO w xb sb A (st.do q)):=by
 obtain⟨R,j⟩:=exq (iO w xb sb A (st.do q));rw[<-j];obtain⟨K,a,D⟩:=iE.mk' w q;have k:=J ((M0 a xb sb st A n (h.ao D.g) I q.stream).mono (λe L y=>(show e=.returned (.tuple #[.int .i64 (st.af q.stream).1,bN (st.af q.stream).2])/\cK a.heap.size a xb sb A st L from⟨y.1,(h.ao D.g).to y.2⟩)));have M:=J (λ(c:World)(T:cK a.heap.size a xb sb A (st) c)=>D.oL h.lt T.choose_spec.2.2 hd);have l:=J (λ(c d:World)(T:cK a.heap.size a xb sb A (st) c)(f:c.grownBy d (some (w.heap.size+1)))=>D.told h.n0 m T.choose_spec.2.2 f (ev:=bN ((st.af q.stream).2)) (n:=(st.af q.stream).2) (p:= -1) (.inl ⟨rfl,rfl⟩) (λF e=>qV e));have s:=J (λ(c d i:World)(T:cK a.heap.size a xb sb A (st) c)(f:c.grownBy d (some (w.heap.size+1)))(t:d.grownBy i none)=>(show R (.returned (.tuple #[.int .i64 ((st.af q.stream).2),.int .i64 (-1),.int .i64 ((st.af q.stream).1),.int .u64 0,.string ⟨#[]⟩,.slice none 0 0])) i by
  have e:st.do q=(⟨(st.af q.stream).2,-1,(st.af q.stream).1,0,[],[]⟩,st):=by unfold aQ.do;rw[ah (by omega),ah (by omega),ah (by omega),ah (by omega),ah (by omega),ah (by omega),ah (by omega),ah (by omega),az x]
  rw[j,e];exact D.post (r:=(⟨(st.af q.stream).2,-1,(st.af q.stream).1,0,[],[]⟩,st)) rfl rfl (D.fin h.lt T f t)))
 have U:=mR q.data;obtain⟨r,B⟩:=exq (st.af q.stream);rw[<-B]at k l s;clear B;obtain⟨N,C⟩:=r;simp only at k l s;obtain⟨d0,d1,d2,d3,d4⟩:a.cell? ⟨w.heap.size,0,none⟩=some (.int .i64 q.op)/\a.cell? ⟨w.heap.size,1,none⟩=some (.int .i64 q.stream)/\a.cell? ⟨w.heap.size,2,none⟩=some (.int .i64 q.n)/\a.cell? ⟨w.heap.size,3,none⟩=some (.int .u64 q.code)/\a.cell? ⟨w.heap.size,4,none⟩=some (.string q.data):=by simp[World.cell?,D.b,cG]
 have E:=D.e1;have G:=D.e2;have V:=D.z;replace D:=J D;replace j:=J j;replace h:=J h;replace m:=J m;replace u:=J u;unfold cG at *;obtain⟨op,stream,W,code,data⟩:=q;simp only at *;subst x;generalize bN C=ev at k l;go_enter func60,ntmps60;go_upto_region 3 with fail;rw[<-E,<-G];generalize grownCap K data.size 0 5=cap at *;clear E G;go_wp2_with fail;refine(Z k).mono ?_;rintro e c⟨rfl,T⟩;have O:=J (Z M c T cap);have P:=J (λd=>Z l c d T);have Q:=J (λd i=>Z s c d i T);clear T;go_wp2_with fail;refine(Z O).mono ?_;rintro e d⟨rfl,f⟩;go_wp2_with fail;refine(Z P _ f).mono ?_;rintro e i⟨rfl,t⟩;have H:=J (Z Q _ _ f t);go_wp2_with fail;first|exact Z H|exact cA (v:=.tuple #[.int .i64 C,.int .i64 (-1),.int .i64 N,.int .u64 0,.string ⟨#[]⟩,.slice none 0 0]) (by simp[results,results60,go_sem]) rfl (Z H)
theorem Nh(w:World)(xb sb:Nat)(st:aQ)(A:Nat->Prop)(n:Nat)(h:cq w xb sb st A)(B:dY n st)(C:n<=100000)(k:Laid w)(q:fY)(m:aV q.code)(s:q.op=4)(hd:q.data.size<=1000000):
 Calls prog 60 #[.pointer (some ⟨xb,0,none⟩),.agg (cG q)] w (iO w xb sb A (st.do q)):=by
 obtain⟨R,j⟩:=exq (iO w xb sb A (st.do q));rw[<-j];obtain⟨E,a,D⟩:=iE.mk' w q;have G:=J (M1 a xb sb st A n (h.ao D.g) B C);have H:=J (λ(c:World)(T:cK a.heap.size a xb sb A ((st.tick)) c)=>D.oL h.lt T.choose_spec.2.2 hd);have t:=J (λ(c d:World)(T:cK a.heap.size a xb sb A ((st.tick)) c)(f:c.grownBy d (some (w.heap.size+1)))=>D.told h.n0 k T.choose_spec.2.2 f (ev:=bN (0)) (n:=0) (p:= -1) (.inl ⟨rfl,rfl⟩) (λF e=>qV e));have I:=J (λ(c d i:World)(T:cK a.heap.size a xb sb A ((st.tick)) c)(f:c.grownBy d (some (w.heap.size+1)))(l:d.grownBy i none)=>(show R (.returned (.tuple #[.int .i64 (0),.int .i64 (-1),.int .i64 (0),.int .u64 0,.string ⟨#[]⟩,.slice none 0 0])) i by
  have e:st.do q=(⟨0,-1,0,0,[],[]⟩,(st.tick)):=by unfold aQ.do;rw[ah (by omega),ah (by omega),ah (by omega),az s]
  rw[j,e];exact D.post (r:=(⟨0,-1,0,0,[],[]⟩,(st.tick))) rfl rfl (D.fin h.lt T f l)))
 have N:=mR q.data;obtain⟨d0,d1,d2,d3,d4⟩:a.cell? ⟨w.heap.size,0,none⟩=some (.int .i64 q.op)/\a.cell? ⟨w.heap.size,1,none⟩=some (.int .i64 q.stream)/\a.cell? ⟨w.heap.size,2,none⟩=some (.int .i64 q.n)/\a.cell? ⟨w.heap.size,3,none⟩=some (.int .u64 q.code)/\a.cell? ⟨w.heap.size,4,none⟩=some (.string q.data):=by simp[World.cell?,D.b,cG]
 have u:=D.e1;have x:=D.e2;have O:=D.z;replace D:=J D;replace j:=J j;replace h:=J h;replace k:=J k;replace m:=J m;unfold cG at *;obtain⟨op,stream,P,code,data⟩:=q;simp only at *;subst s;rw[show bN 0=.nilIface from rfl]at t;go_enter func60,ntmps60;go_upto_region 3 with fail;rw[<-u,<-x];generalize grownCap E data.size 0 5=cap at *;clear u x;go_wp2_with fail;refine(Z G).mono ?_;rintro e c⟨rfl,T⟩;have K:=J (Z H c T cap);have L:=J (λd=>Z t c d T);have M:=J (λd i=>Z I c d i T);clear T;go_wp2_with fail;refine(Z K).mono ?_;rintro e d⟨rfl,f⟩;go_wp2_with fail;refine(Z L _ f).mono ?_;rintro e i⟨rfl,l⟩;have y:=J (Z M _ _ f l);go_wp2_with fail;first|exact Z y|exact cA (v:=.tuple #[.int .i64 0,.int .i64 (-1),.int .i64 0,.int .u64 0,.string ⟨#[]⟩,.slice none 0 0]) (by simp[results,results60,go_sem]) rfl (Z y)
theorem Ni(w:World)(xb sb:Nat)(st:aQ)(A:Nat->Prop)(n:Nat)(h:cq w xb sb st A)(I:dY n st)(K:n<=100000)(j:Laid w)(q:fY)(x:aV q.code)(y:q.op=6)(hd:q.data.size<=1000000):
 Calls prog 60 #[.pointer (some ⟨xb,0,none⟩),.agg (cG q)] w (iO w xb sb A (st.do q)):=by
 obtain⟨R,k⟩:=exq (iO w xb sb A (st.do q));rw[<-k];obtain⟨B,a,D⟩:=iE.mk' w q;have m:=J (M8 a xb sb st A n (h.ao D.g) I K (j.gb D.g (by simp)) (some ⟨w.heap.size+1,0,none⟩) q.data.size (grownCap B q.data.size 0 5) (aG q.data) (D.bs hd));have p:=J (λ(c:World)(T:cK a.heap.size a xb sb A (st.recv (aG q.data)).2.2 c)=>D.oL h.lt T.choose_spec.2.2 hd);have s:=J (λ(c d:World)(T:cK a.heap.size a xb sb A (st.recv (aG q.data)).2.2 c)(ev:Value)(l:tY c ev (st.recv (aG q.data)).1 (st.recv (aG q.data)).2.1)(hF:∀F,ev=.iface 177 (.pointer (some ⟨F,0,none⟩))->a.heap.size<=F) (f:c.grownBy d (some (w.heap.size+1)))=>D.told h.n0 j T.choose_spec.2.2 f l hF);have t:=J (λ(c d i:World)(T:cK a.heap.size a xb sb A (st.recv (aG q.data)).2.2 c)(f:c.grownBy d (some (w.heap.size+1)))(u:d.grownBy i none)=>(show R (.returned (.tuple #[.int .i64 (st.recv (aG q.data)).1,.int .i64 (st.recv (aG q.data)).2.1,.int .i64 0,.int .u64 0,.string ⟨#[]⟩,.slice none 0 0])) i by
  have e:st.do q=(⟨(st.recv (aG q.data)).1,(st.recv (aG q.data)).2.1,0,0,[],[]⟩,(st.recv (aG q.data)).2.2):=by unfold aQ.do;rw[ah (by omega),ah (by omega),ah (by omega),ah (by omega),ah (by omega),az y]
  rw[k,e];exact D.post (r:=(⟨(st.recv (aG q.data)).1,(st.recv (aG q.data)).2.1,0,0,[],[]⟩,(st.recv (aG q.data)).2.2)) rfl rfl (D.fin h.lt T f u)))
 have Q:=mR q.data;obtain⟨r,C⟩:=exq (st.recv (aG q.data));rw[<-C]at m p s t;clear C;obtain⟨L,M,S⟩:=r;simp only at m p s t;obtain⟨d0,d1,d2,d3,d4⟩:a.cell? ⟨w.heap.size,0,none⟩=some (.int .i64 q.op)/\a.cell? ⟨w.heap.size,1,none⟩=some (.int .i64 q.stream)/\a.cell? ⟨w.heap.size,2,none⟩=some (.int .i64 q.n)/\a.cell? ⟨w.heap.size,3,none⟩=some (.int .u64 q.code)/\a.cell? ⟨w.heap.size,4,none⟩=some (.string q.data):=by simp[World.cell?,D.b,cG]
 have E:=D.e1;have G:=D.e2;have U:=D.z;replace D:=J D;replace k:=J k;replace h:=J h;replace j:=J j;replace x:=J x;unfold cG at *;obtain⟨op,stream,V,code,data⟩:=q;simp only at *;subst y;go_enter func60,ntmps60;go_upto_region 3 with fail;rw[<-E,<-G];generalize grownCap B data.size 0 5=cap at *;clear E G;go_wp2_with fail;refine(Z m).mono ?_;rintro e c⟨ev,rfl,l,hF,T⟩;have N:=J (Z p c T cap);have O:=J (λd=>Z s c d T ev l hF);have P:=J (λd i=>Z t c d i T);clear T l hF;go_wp2_with fail;refine(Z N).mono ?_;rintro e d⟨rfl,f⟩;go_wp2_with fail;refine(Z O _ f).mono ?_;rintro e i⟨rfl,u⟩;have H:=J (Z P _ _ f u);go_wp2_with fail;first|exact Z H|exact cA (v:=.tuple #[.int .i64 L,.int .i64 M,.int .i64 0,.int .u64 0,.string ⟨#[]⟩,.slice none 0 0]) (by simp[results,results60,go_sem]) rfl (Z H)
theorem Nj(w:World)(xb sb:Nat)(st:aQ)(A:Nat->Prop)(n:Nat)(h:cq w xb sb st A)(C:dY n st)(E:n<=100000)(k:Laid w)(q:fY)(l:aV q.code)(t:q.op<1\/9<q.op)(hd:q.data.size<=1000000):
 Calls prog 60 #[.pointer (some ⟨xb,0,none⟩),.agg (cG q)] w (iO w xb sb A (st.do q)):=by
 obtain⟨R,d⟩:=exq (iO w xb sb A (st.do q));rw[<-d];obtain⟨u,a,D⟩:=iE.mk' w q;have T:cK a.heap.size a xb sb A st a:=(h.ao D.g).to (aB _ _);have x:=J (D.oL h.lt T.choose_spec.2.2 hd);have y:=J (λ(c:World)=>wg c);have B:=J (λ(c f:World)(i:a.grownBy c (some (w.heap.size+1)))(j:c.grownBy f none)=>(show R (.returned (.tuple #[.int .i64 0,.int .i64 (-1),.int .i64 0,.int .u64 0,.string ⟨#[]⟩,.slice none 0 0])) f by
  have e:st.do q=(⟨0,-1,0,0,[],[]⟩,st):=by unfold aQ.do;rw[ah (by omega),ah (by omega),ah (by omega),ah (by omega),ah (by omega),ah (by omega),ah (by omega),ah (by omega),ah (by omega)]
  rw[d,e];exact D.post (r:=(⟨0,-1,0,0,[],[]⟩,st)) rfl rfl (D.fin h.lt T i j)))
 have F:=mR q.data;have G:(q.op==1)=false:=by simp;omega
 have H:(q.op==2)=false:=by simp;omega
 have I:(q.op==3)=false:=by simp;omega
 have K:(q.op==4)=false:=by simp;omega
 have L:(q.op==5)=false:=by simp;omega
 have M:(q.op==6)=false:=by simp;omega
 have N:(q.op==7)=false:=by simp;omega
 have O:(q.op==8)=false:=by simp;omega
 have P:(q.op==9)=false:=by simp;omega
 clear t T;obtain⟨d0,d1,d2,d3,d4⟩:a.cell? ⟨w.heap.size,0,none⟩=some (.int .i64 q.op)/\a.cell? ⟨w.heap.size,1,none⟩=some (.int .i64 q.stream)/\a.cell? ⟨w.heap.size,2,none⟩=some (.int .i64 q.n)/\a.cell? ⟨w.heap.size,3,none⟩=some (.int .u64 q.code)/\a.cell? ⟨w.heap.size,4,none⟩=some (.string q.data):=by simp[World.cell?,D.b,cG]
 have m:=D.e1;have p:=D.e2;have Q:=D.z;replace D:=J D;replace d:=J d;replace h:=J h;replace k:=J k;replace l:=J l;unfold cG at *;obtain⟨op,stream,S,code,data⟩:=q;simp only at *;go_enter func60,ntmps60;go_upto_region 3 with fail;rw[<-m,<-p];generalize grownCap u data.size 0 5=cap at *;clear m p;go_wp2_with fail;refine(Z x cap).mono ?_;rintro e c⟨rfl,i⟩;go_wp2_with fail;refine(Z y _).mono ?_;rintro e f⟨rfl,j⟩;have s:=J (Z B _ _ i j);go_wp2_with fail;first|exact Z s|exact cA (v:=.tuple #[.int .i64 0,.int .i64 (-1),.int .i64 0,.int .u64 0,.string ⟨#[]⟩,.slice none 0 0]) (by simp[results,results60,go_sem]) rfl (Z s)
def ua(w:World)(xb sb:Nat)(A:Nat->Prop)(r:List Int×Int×Int×Int×aQ)(a:Option Addr)(m c:Nat)(b:World):Prop:=bm b w.heap.size (.slice a m c) r.1/\∃d,cq b xb sb r.2.2.2.2 d/\(∀k,d k->A k\/w.heap.size<=k)/\av w b A/\∀j,(Value.slice a m c).ownBlock=some j->¬d j
theorem ua.fin{r:List Int×Int×Int×Int×aQ}(h:ua w n i S r a m j W)(g:W.grownBy v (Value.slice a m j).ownBlock):cK w.heap.size w n i S r.2.2.2.2 v:=by
 obtain⟨b,c,d,f,l,p⟩:=h;refine⟨c,d.other (av.of g) (λk _ e=>p k e),f,?_⟩
 refine((l.trans (av.of g))).mono (λk q e=>e.elim id (λe=>?_));have:=(b.lt k e).1;omega
theorem Nk(w:World)(xb sb:Nat)(st:aQ)(A:Nat->Prop)(n:Nat)(h:cq w xb sb st A)(B:dY n st)(hn:n<=100000)(C:Laid w)(q:fY)(K:aV q.code)(L:q.op=7)(hd:q.data.size<=1000000):
 Calls prog 60 #[.pointer (some ⟨xb,0,none⟩),.agg (cG q)] w (iO w xb sb A (st.do q)):=by
 obtain⟨R,t⟩:=exq (iO w xb sb A (st.do q));rw[<-t];obtain⟨Y,f,D⟩:=iE.mk' w q;have u:=J ((M4 f xb sb st A n (h.ao D.g) B q.stream q.n).mono (λe w' hh=>(show∃a m c,e=.returned (.tuple #[.slice a m c,.int .i64 (st.read q.stream q.n).2.1,.int .u64 (st.read q.stream q.n).2.2.1,bN (st.read q.stream q.n).2.2.2.1])/\ua f xb sb A (st.read q.stream q.n) a m c w' from hh)));have M:Hid ((st.read q.stream q.n).1.length<=100000000):=J (by
  unfold aQ.read;cases st with
  |shut _ _=>simp
  |aD s=>
   simp only
   split;simp
   ·rename_i hk;have hI:=B.aJ q.stream.toNat (by omega);have:=hI.len;have:=B.ag;have N:((s.aJ q.stream.toNat).out q.n).length<=(s.aJ q.stream.toNat).h.bytes.length:=by
     unfold It.out;split;simp;rw[ct];omega
    simp only;omega)
 have O:=J (λ(a:Option Addr)(m c:Nat)(d:World)(T:ua f xb sb A (st.read q.stream q.n) a m c d)=>uQ a m c _ d _ T.1 (by rw[T.1.gI.2.1];exact Z M));have P:=J (λ(a:Option Addr)(m c:Nat)(d:World)(T:ua f xb sb A (st.read q.stream q.n) a m c d)=>tj T.1.gI);have E:=J (λ(d:World)(T:cK f.heap.size f xb sb A (st.read q.stream q.n).2.2.2.2 d)=>D.oL h.lt T.choose_spec.2.2 hd);have x:=J (λ(d i:World)(T:cK f.heap.size f xb sb A (st.read q.stream q.n).2.2.2.2 d)(l:d.grownBy i (some (w.heap.size+1)))=>D.told h.n0 C T.choose_spec.2.2 l (ev:=bN (st.read q.stream q.n).2.2.2.1) (n:=(st.read q.stream q.n).2.2.2.1) (p:= -1) (.inl ⟨rfl,rfl⟩) (λF e=>qV e));have G:=J (λ(d i k:World)(T:cK f.heap.size f xb sb A (st.read q.stream q.n).2.2.2.2 d)(l:d.grownBy i (some (w.heap.size+1)))(y:i.grownBy k none)=>(show R (.returned (.tuple #[.int .i64 (st.read q.stream q.n).2.2.2.1,.int .i64 (-1),.int .i64 (st.read q.stream q.n).2.1,.int .u64 (st.read q.stream q.n).2.2.1,.string (strOfNums (st.read q.stream q.n).1),.slice none 0 0])) k by
  have e:st.do q=(⟨(st.read q.stream q.n).2.2.2.1,-1,(st.read q.stream q.n).2.1,(st.read q.stream q.n).2.2.1,(st.read q.stream q.n).1,[]⟩,(st.read q.stream q.n).2.2.2.2):=by unfold aQ.do;rw[ah (by omega),ah (by omega),ah (by omega),ah (by omega),ah (by omega),ah (by omega),az L]
  rw[t,e];obtain⟨A',N,h2,h3⟩:=D.fin h.lt T l y;exact⟨none,0,0,rfl,fP.nil _ _,A',N,h2,h3,λj e=>by cases e⟩))
 have bz:=mR q.data;obtain⟨r,Q⟩:=exq (st.read q.stream q.n);rw[<-Q]at u E x G O P M;clear Q;obtain⟨rl,rs,rc,S,bM⟩:=r;simp only at u E x G;obtain⟨d0,d1,d2,d3,d4⟩:f.cell? ⟨w.heap.size,0,none⟩=some (.int .i64 q.op)/\f.cell? ⟨w.heap.size,1,none⟩=some (.int .i64 q.stream)/\f.cell? ⟨w.heap.size,2,none⟩=some (.int .i64 q.n)/\f.cell? ⟨w.heap.size,3,none⟩=some (.int .u64 q.code)/\f.cell? ⟨w.heap.size,4,none⟩=some (.string q.data):=by simp[World.cell?,D.b,cG]
 have U:=D.e1;have V:=D.e2;have b0:=D.z;replace D:=J D;replace t:=J t;replace h:=J h;replace C:=J C;replace K:=J K;unfold cG at *;obtain⟨op,stream,qn,code,data⟩:=q;simp only at *;subst L;generalize bN S=ev at u x;go_enter func60,ntmps60;go_upto_region 3 with fail;rw[<-U,<-V];generalize grownCap Y data.size 0 5=cap at *;clear U V;go_wp2_with fail;refine(Z u).mono ?_;rintro e d⟨H,I,c3,rfl,T⟩;have a3:=Z P H I c3 d T;have a4:=J (Z O H I c3 d T);have a8:=J (λi(g:d.grownBy i (Value.slice H I c3).ownBlock)=>T.fin g);clear T;go_wp2_with fail;refine(Z a4).mono ?_;rintro e i⟨rfl,l⟩;have T:=Z a8 i l;have a9:=J (Z E i T cap);have bb:=J (λk=>Z x i k T);have bj:=J (λk W=>Z G i k W T);clear T l a3;go_wp2_with fail;refine(Z a9).mono ?_;rintro e k⟨rfl,y⟩;go_wp2_with fail;refine(Z bb _ y).mono ?_;rintro e W⟨rfl,g6⟩;have X:=J (Z bj _ _ y g6);go_wp2_with fail;first|exact Z X|exact cA (v:=.tuple #[.int .i64 S,.int .i64 (-1),.int .i64 rs,.int .u64 rc,.string (strOfNums rl),.slice none 0 0]) (by simp[results,results60,go_sem]) rfl (Z X)
def mD(o:Ot)(k:Nat)(p:Pc)(f:Fr):Prop:=
 (o.sG=true/\p.g=true/\p.x=⟨0,0⟩/\f=⟨4,k,o.aA,o.code,false,⟨#[]⟩,[]⟩)\/
 (o.sG=false/\p.g=false/\o.h.fr<=p.x.lo/\p.x.lo<=p.x.hi/\p.x.hi<=o.en/\p.e=(o.sE&&p.x.hi==o.en)/\(p.x.lo<p.x.hi\/p.e=true)/\
   f=⟨5,k,p.x.lo,0,p.e,strOfNums ((o.h.bytes.drop (p.x.lo-o.h.fr).toNat).take (p.x.hi-p.x.lo).toNat),[]⟩)
abbrev Told:=List (Pc×Fr)
def mE(m:Int)(L:Told):Int:=L.foldl (λm y=>max m y.1.x.hi) m
def dd(o:Ot)(m:Int)(L:Told):Int:=if o.sG then m else mE m L
def Nl(d:Du)(L:Told):Du:=L.foldl (λd y=>d.leave y.1) d
theorem Nm{o:Ot}{d:Du}(ho:o={f with aA:=o.aA})(hs:f.sG=true->o.aA=f.aA)(h:jG o d)(m:q<=1000)(a:(o.next d q).2=true)(n:0<=o.h.fr):mD f k (o.next d q).1 (o.dj k (o.next d q).1)/\(o.jY (o.next d q).1).aA=dd f o.aA [((o.next d q).1,o.dj k (o.next d q).1)]:=by
 have e1:o.sG=f.sG:=by rw[ho]
 have e2:o.sE=f.sE:=by rw[ho]
 have c:o.h=f.h:=by rw[ho]
 have r:o.code=f.code:=by rw[ho]
 have i:o.en=f.en:=by unfold Ot.en;rw[c]
 unfold Ot.next at a⊢;cases b:o.sG;rw[b]at a;simp only[gm,fR]at a⊢;obtain⟨s,t,u,g,-⟩:=tO h m a n;have j:(o.ia d.l d.e q).1.e=(o.sE&&(o.ia d.l d.e q).1.x.hi==o.en)/\((o.ia d.l d.e q).1.x.lo<(o.ia d.l d.e q).1.x.hi\/(o.ia d.l d.e q).1.e=true):=by
  unfold Ot.ia at a⊢;split at a;simp at a;rename_i v;rw[ah v];refine⟨rfl,?_⟩
  simp only[Bool.or_eq_true,nA,mg]at a;obtain a|a:=a
  exact .inl a;right;simp only[mg]
  exact a.1
 generalize (o.ia d.l d.e q).1=p at *;refine⟨.inr ⟨by rw[<-e1];exact b,g,by rw[<-c];exact s,t,by rw[<-i];exact u,by rw[j.1,e2,i],j.2,?_⟩,?_⟩
 unfold Ot.dj;rw[g,c];simp;unfold Ot.jY dd mE;rw[g,<-e1,b];simp;rw[b]at a;simp only[eX]at a⊢;simp only[mg]at a;refine⟨.inl ⟨by rw[<-e1];exact b,a.1,rfl,?_⟩,?_⟩
 unfold Ot.dj;simp only[a.1,eX]
 rw[hs (by rw[<-e1];exact b),r];unfold Ot.jY dd;simp only[a.1,eX];rw[<-e1,b];simp
theorem Nn{d0:Du}(n:k<4)(r:q<=1000)(c:0<=f.h.fr)(s:f.en<=4096):∀(m:Nat)(x:Ld),oH f d0 q x->x.o={f with aA:=x.o.aA}->(f.sG=true->x.o.aA=f.aA)->
 ∃L:Told,(jr k q m x).fr=x.fr++bw (L.map (·.2))/\(jr k q m x).ps=x.ps++L.map (·.1)/\(∀y∈L,mD f k y.1 y.2)/\(jr k q m x).o.aA=dd f x.o.aA L/\(jr k q m x).d=Nl x.d L:=by
 intro m;induction m with
 |zero=>exact λx e g b=>⟨[],by simp[jr,bw],by simp[jr],λy a=>(by cases a),by simp[jr,dd,mE],rfl⟩
 |succ m u=>
  intro x H ho hs;unfold jr;cases i:(x.o.next x.d (q-x.fr.length)).2;simp only[gm,fR]
  exact⟨[],by simp[bw],by simp,λy a=>(by cases a),by simp[dd,mE],rfl⟩
  simp only[eX]
  have v:0<=x.o.h.fr:=by rw[H.h];exact c
  obtain⟨e,g⟩:=Nm (k:=k) ho hs H.lW (q:=q-x.fr.length) (by omega) i v;have w:=(H.step k n r c s i).1;generalize (x.o.next x.d (q-x.fr.length)).1=p at *;have z:(x.step k p).o={f with aA:=(x.step k p).o.aA}:=by
   show x.o.jY p={f with aA:=(x.o.jY p).aA}
   have b:=Dy x.o p;generalize (x.o.jY p).aA=t at b⊢;rw[b,ho]
  have j:(x.step k p).o.aA=dd f x.o.aA [(p,x.o.dj k p)]:=g;obtain⟨L,A,B,C,D,E⟩:=u (x.step k p) w z (λl=>by rw[j];unfold dd;rw[az l];exact hs l);refine⟨(p,x.o.dj k p)::L,?_,?_,λy a=>?_,?_,?_⟩
  rw[A];show(x.fr++bw [x.o.dj k p])++_=_;simp[bw];rw[B];show(x.ps++[p])++_=_;simp;obtain rfl|a:=fk.1 a
  exact e;exact C y a;rw[D,j];unfold dd mE;cases f.sG<;>simp;rw[E];rfl
def jx(key:List Int)(s:Int):Int->List (List Fr)->List (List Int)
 |_,[]=>[]
 |n,f::r=>dm key s n (bw f)::jx key s (n+1) r
def mF(tick:Int)(k:Int):Int->List (List Pc)->List Pk
 |_,[]=>[]
 |n,p::r=>⟨n,tick,k,p⟩::mF tick k (n+1) r
theorem yO(key:List Int)(s:Int)(a:List (List Fr)):∀n,(jx key s n a).length=a.length:=by
 induction a with
 |nil=>intro n;rfl
 |cons f a b=>intro n;simp[jx,b]
theorem DE{a:List (List Fr)}:∀{n:Int}{p:List Int},p∈jx L q n a->∃f∈a,∃m,p=dm L q m (bw f):=by
 induction a with
 |nil=>intro n p h;cases h
 |cons f a b=>
  intro n p h;obtain h|h:=fk.1 h
  exact⟨f,by simp,n,h⟩
  obtain⟨g,c,m,e⟩:=b h;exact⟨g,by simp[c],m,e⟩
structure yP(s:Sd)(k:Nat)(x y:Pz)(E:List Told):Prop where
 l:y.l=x.l++jx s.key (aS s.first) x.s.count (E.map (·.map (·.2)))
 aK:y.s.aK=x.s.aK++mF s.tick k x.s.count (E.map (·.map (·.1)))
 count:y.s.count=x.s.count+E.length
 fr:∀L∈E,L≠[]/\((bw (L.map (·.2))).length:Int)<=s.an-16/\∀z∈L,mD (s.out k) k z.1 z.2
 aA:(y.s.out k).aA=dd (s.out k) (x.s.out k).aA E.flatten
theorem yQ(o:Ot)(m:Int)(a b:Told):dd o (dd o m a) b=dd o m (a++b):=by
 unfold dd mE;cases o.sG<;>simp
theorem No(j:k<4)(u:16<=s.an/\s.an<=1000)(n:0<=(s.out k).h.fr)(p:(s.out k).en<=4096):∀(m:Nat)(x:Pz),nh s k x->x.s.out k={s.out k with aA:=(x.s.out k).aA}->((s.out k).sG=true->(x.s.out k).aA=(s.out k).aA)->x.s.first=s.first->x.s.tick=s.tick->∃E,yP s k x (ly k m x) E:=by
 intro m;induction m with
 |zero=>exact λx b M N O P=>⟨[],by simp[ly,jx],by simp[ly,mF],by simp[ly],λL c=>(by cases c),by simp[ly,dd,mE]⟩
 |succ m A=>
  intro x a ho hs v w;have B:=a.ld j u n p;have q:=a.an;have C:=a.key;have D:=a.h;obtain⟨L,i,f,F,g,-⟩:=Nn (f:=s.out k) (d0:=x.d) (q:=x.s.an-16) j (by rw[q];omega) n p ((x.s.an-16).toNat+1) ⟨x.s.out k,x.d,[],[]⟩ ⟨D,a.sG,a.code,a.aA,a.lW,by simp,by rw[q];simp;omega,by simp⟩ ho hs;have i:(x.load k).fr=bw (L.map (·.2)):=i.trans (by simp);have f:(x.load k).ps=L.map (·.1):=f.trans (by simp);have g:(x.load k).o.aA=dd (s.out k) (x.s.out k).aA L:=g;have G:(x.load k).o={x.s.out k with aA:=(x.load k).o.aA}:=Dz k (x.s.an-16) ((x.s.an-16).toNat+1) ⟨x.s.out k,x.d,[],[]⟩;unfold ly;split;exact⟨[],by simp[jx],by simp[mF],by simp,λL c=>(by cases c),by simp[dd,mE]⟩
  split;rename_i H h0;have I:L=[]:=by rw[f,dA]at h0;exact iF h0
  subst I;refine⟨[],by simp[jx,Pz.stay],by simp[mF,Pz.stay],by simp[Pz.stay],λL c=>(by cases c),?_⟩
  show(ai x.s.out k (x.load k).o k).aA=_;rw[bk,g];rfl;rename_i H h0;have y:(x.jb k).s.out k={s.out k with aA:=(x.load k).o.aA}:=by
   show ai x.s.out k (x.load k).o k=_;rw[bk,G,ho]
  have r:((x.jb k).s.out k).aA=(x.load k).o.aA:=by rw[y]
  obtain⟨E,b⟩:=A (x.jb k) (a.jb j u n p (by omega)) (by rw[r];exact y) (λz=>by rw[r,g];unfold dd;rw[az z];exact hs z) v w;refine⟨L::E,?_,?_,?_,λK t=>?_,?_⟩
  rw[b.l];show(x.l++[dm x.s.key (aS x.s.first) x.s.count (x.load k).fr])++jx s.key (aS s.first) (x.s.count+1) _=_;rw[i,v,C];simp[jx];rw[b.aK];show(x.s.aK++[⟨x.s.count,x.s.tick,k,(x.load k).ps⟩])++mF s.tick k (x.s.count+1) _=_;rw[f,w];simp[mF];rw[b.count];show x.s.count+1+_=_;simp;omega;obtain rfl|t:=fk.1 t
  refine⟨λe=>h0 (by rw[f,e];rfl),?_,F⟩
  rw[<-i];have:=B.fl;rw[q]at this;exact this;exact b.fr K t;rw[b.aA,r,g,yQ];rfl
theorem Np(l:List Rg)(a:Int)(h0:0<l.length)(e:40<=a):∀m,1<=m->1<=j6 l a m/\1+((fS (l.take (j6 l a m))).length:Int)<=a:=by
 intro m;induction m with
 |zero=>omega
 |succ m c=>
  intro _;unfold j6;split;rename_i b;by_cases d:1<=m;exact c d;have:m=0:=by omega
  subst this;have:=Cn l h0;simp only[dR]at b;omega;rename_i b;exact⟨by omega,by omega⟩
theorem Nq(l:List Rg):bw [bV l]=2::fS l:=by simp[bw,da,bV]
theorem Nr(y:56<=q):∀(m:Nat)(x:Ak),x.rest.length<=m->x.s.an=q->x.s.key=L->aS x.s.first=p->(x.rest≠[]->iI x.rest)->
 ∃C:List (List Rg),(mq m x).l=x.l++jx L p x.s.count (C.map λc=>[bV c])/\(mq m x).s={x.s with count:=x.s.count+C.length}/\C.flatten=x.rest/\∀c∈C,iI c/\((bw [bV c]).length:Int)<=q-16:=by
 intro m;induction m with
 |zero=>
  intro x h0 g b d h;have:x.rest=[]:=iF (by omega);exact⟨[],by simp[mq,jx],by simp[mq],by rw[this];rfl,λc a=>(by cases a)⟩
 |succ m k=>
  intro x h0 g b d h;unfold mq;split;rename_i f;have:x.rest=[]:=iF f;exact⟨[],by simp[jx],by simp,by rw[this];rfl,λc a=>(by cases a)⟩
  rename_i f;have r:x.rest≠[]:=λe=>f (by rw[e];rfl)
  have t:0<x.rest.length:=by omega
  obtain⟨u,v⟩:=Np x.rest (x.s.an-16) t (by omega) x.rest.length (by omega);have i:=Kv x.rest (x.s.an-16) x.rest.length;have en:x.n=j6 x.rest (x.s.an-16) x.rest.length:=rfl;rw[<-en]at u v i;have j:=h r;obtain⟨C,c1,c2,c3,c4⟩:=k x.step (by show(x.rest.drop x.n).length<=m;rw[dF];omega) g b d (λw=>Co j x.n (by
   have:(x.rest.drop x.n).length≠0:=λe=>w (iF e)
   rw[dF]at this;omega))
  refine⟨x.rest.take x.n::C,?_,?_,?_,λc a=>?_⟩
  rw[c1];show(x.l++[dm x.s.key (aS x.s.first) x.s.count (bw [bV (x.rest.take x.n)])])++jx L p (x.s.count+1) _=_;rw[b,d];simp[jx];rw[c2];show({x.s with count:=x.s.count+1+_}:Sd)=_;congr 1;simp;omega;rw[List.flatten_cons,c3];exact oQ _ _;obtain rfl|a:=fk.1 a
  refine⟨yE j _ (by omega) i,?_⟩
  rw[Nq,dq];push_cast;omega;exact c4 c a
structure DF(s:Sd)(C:List (List Rg)):Prop where
 l:s.fW.l=jx s.key (aS s.first) s.count (C.map λc=>[bV c])
 st:s.fW.s={s with eG:=false,count:=s.count+C.length}
 all:s.eG=true->C.flatten=fG s.af s.af.length
 no:s.eG=false->C=[]
 fr:∀c∈C,iI c/\((bw [bV c]).length:Int)<=s.an-16
theorem Nt(h:bZ s n):∃C,DF s C:=by
 cases ho:s.eG;refine⟨[],?_,?_,λe=>(by rw[ho]at e;cases e),λ_=>rfl,λc a=>(by cases a)⟩
 unfold Sd.fW;rw[ho];simp[jx];unfold Sd.fW;rw[ah (by rw[ho];decide)];simp only[fB];rw[<-ho];simp;have d:=h.c8;have f:=h.an;obtain⟨C,c1,c2,c3,c4⟩:=Nr (L:=s.key) (p:=aS s.first) (q:=s.an) (by omega) 10 ⟨{s with eG:=false},fG s.af s.af.length,[]⟩ (by simp only[lU];omega) rfl rfl rfl (λb=>Cq s.af h.mC (by
  have:(fG s.af s.af.length).length≠0:=λe=>b (iF e)
  rw[lU]at this;omega) h.cr)
 refine⟨C,?_,?_,λ_=>c3,λe=>(by rw[ho]at e;cases e),c4⟩
 unfold Sd.fW;rw[ho];simpa using c1;unfold Sd.fW;rw[ho];simpa using c2
theorem bZ.mono(h:bZ s n)(b:n<=m):bZ s m:=
 {h with num:=λx a=>(by have:=h.num x a;omega),tick:=(by have:=h.tick;omega),bn:=(by have:=h.bn;omega),ll:=(by have:=h.ll;omega)}
theorem fV.same{a:Ot}(h:fV f)(e:a.h=f.h):fV a:=⟨by rw[e];exact h.ok,by rw[e];exact h.kQ,by rw[e];exact h.fr,by rw[e];exact h.low,by rw[e];exact h.hole,by unfold Ot.en;rw[e];exact h.en⟩
theorem mD.ok{o:Ot}{p:Pc}(h:mD o k p G)(ho:fV o):lr p:=by
 have a:=ho.fr;have b:=ho.en;obtain⟨-,-,e,-⟩|⟨-,-,c,d,f,-⟩:=h
 unfold lr;rw[e];simp;unfold lr;omega
theorem Nu{a:List (List Pc)}:∀{n:Int}{x:Pk},x∈mF p q n a->x.tick=p/\x.st=q/\x.ps∈a/\n<=x.num/\x.num<n+a.length:=by
 induction a with
 |nil=>intro n x h;cases h
 |cons f a b=>
  intro n x h;obtain rfl|h:=fk.1 h
  exact⟨rfl,rfl,by simp,cW _,by simp;omega⟩
  obtain⟨c,d,e,g,i⟩:=b h;exact⟨c,d,by simp[e],by omega,by simp;omega⟩
theorem DG(tick k:Int)(a:List (List Pc)):∀n,(mF tick k n a).length=a.length:=by
 induction a with
 |nil=>intro n;rfl
 |cons f a b=>intro n;simp[mF,b]
theorem yR(h:bZ s n)(c:n<=100001)(k:Nat)(a:k<4):tZ s k (s.pieces k).s/\(s.pieces k).l.length<=10:=by
 have b:=h.bn;exact yL h.yN k a ⟨b.1,by omega⟩ (s.aK.map (λx=>(x,Value.slice none 0 0))) (by rw[s9];show _=List.map id _;rw[List.map_id])
theorem DH(h:bZ s n)(F:n<=100001)(w:s.count+10<=100*n)(hl:s.lost.length+s.aK.length+10<=100*n)(k:Nat)(i:k<4):bZ (s.pieces k).s n/\∃E,yP s k ⟨s,s.due k,[]⟩ (s.pieces k) E/\E.length<=10:=by
 obtain⟨R,P⟩:=yR h F k i;have g:∃E,yP s k ⟨s,s.due k,[]⟩ (s.pieces k) E:=by
  have w:=h.bn;have G:=h.yN;obtain⟨c,l,m⟩:=G.p0 k i ⟨w.1,by omega⟩ (s.aK.map (λx=>(x,Value.slice none 0 0))) (by rw[s9];show _=List.map id _;rw[List.map_id]);have ho:=h.DC i;have z:=h.fl;have Q:=h.an;exact No i (by omega) ho.nice.1 ho.en 11 ⟨s,s.due k,[]⟩ ⟨rfl,rfl,rfl,rfl,rfl,ho.aA,m,by simp only;omega,z,by simp only;omega,by simp⟩ rfl (λ_=>rfl) rfl rfl
 obtain⟨E,g⟩:=g;have A:=g.count;have H:E.length<=10:=by have:=R.bn;simp only at A;omega
 have q:=g.aK;simp only at q;have r:∀x∈(s.pieces k).s.aK,x∈s.aK\/(x.tick=s.tick/\x.st=(k:Int)/\(∃L∈E,x.ps=L.map (·.1))/\s.count<=x.num/\x.num<s.count+E.length):=λx a=>by
  rw[q]at a;obtain a|a:=bQ.1 a
  exact .inl a;obtain⟨c,l,m,B,C⟩:=Nu a;obtain⟨L,t,e⟩:=eQ.1 m;rw[dA]at C;exact .inr ⟨c,l,⟨L,t,e.symm⟩,B,C⟩
 have S:=h.bn;have u:∀j,j<4->((s.pieces k).s.out j).h=(s.out j).h/\((s.pieces k).s.out j).code=(s.out j).code:=λj _=>by
  rw[R.eq];by_cases e:j=k;subst e;simp only[bk];exact⟨trivial,trivial⟩
  simp only[bl _ _ e];exact⟨trivial,trivial⟩
 refine⟨?_,E,g,H⟩
 have d:∀{α:Type}(f:Sd->α),f (s.pieces k).s=f {s with out:=ai s.out k {s.out k with aA:=((s.pieces k).s.out k).aA},aK:=(s.pieces k).s.aK,count:=(s.pieces k).s.count}:=λf=>fm f R.eq
 have I:(s.pieces k).s.key=s.key:=d (·.key);have K:(s.pieces k).s.an=s.an:=d (·.an);have k3:(s.pieces k).s.ag=s.ag:=d (·.ag);have k4:(s.pieces k).s.aJ=s.aJ:=d (·.aJ);have k5:(s.pieces k).s.lost=s.lost:=d (·.lost);have D:(s.pieces k).s.tick=s.tick:=d (·.tick);have M:(s.pieces k).s.wait=s.wait:=d (·.wait);have v:(s.pieces k).s.af=s.af:=d (·.af);have N:∀x∈(s.pieces k).s.aK,0<=x.st/\x.st<4/\∀p∈x.ps,lr p:=λx a=>by
  obtain c|⟨-,l,⟨L,t,e⟩,-⟩:=r x a
  exact h.pk x (iH _ c);refine⟨by omega,by omega,λp hp=>?_⟩
  rw[e]at hp;obtain⟨y,O,rfl⟩:=eQ.1 hp;exact((g.fr L t).2.2 y O).ok (h.out k i)
 simp only at A;have z:(s.pieces k).s.aK.length=s.aK.length+E.length:=by rw[q,bH,DG,dA]
 refine⟨by rw[I];exact h.key,by rw[K];exact h.an,by rw[k3];exact h.ag,λj b=>(h.out j b).same (u j b).1,λj b=>by rw[(u j b).1,k3];exact h.oI j b,λj b=>?_,λj b=>by rw[(u j b).2];exact h.code j b,by rw[k3,k4];exact h.aJ,λx a=>?_,λx a=>?_,R.fl,R.fp,λx a=>?_,by rw[D];exact h.tick,by rw[M];exact h.wait,by omega,by rw[k5];omega,by rw[v];exact h.mC,by rw[v];exact h.c8,by rw[v];exact h.cr⟩
 by_cases e:j=k;subst e;exact R.aA;have:((s.pieces k).s.out j).aA=(s.out j).aA:=by rw[R.eq];simp only[bl _ _ e]
 rw[this];exact h.aA j b;obtain a|a:=bQ.1 a
 exact N x a;rw[k5]at a;exact h.pk x (jO _ a);obtain c|⟨-,-,-,m,B⟩:=r x a
 exact h.num x c;omega;rw[D];obtain c|⟨l,-⟩:=r x a
 exact h.ft x c;have:=h.tick;omega
theorem DI(h:bZ s n)(d:s.count+10<=100*n):bZ s.fW.s n/\∃C,DF s C/\C.length<=10:=by
 obtain⟨C,a⟩:=Nt h;obtain⟨c,e,f,g,b⟩:=yM s;have hl:C.length<=10:=by rw[a.l,yO,dA]at b;exact b
 refine⟨?_,C,a,hl⟩
 rw[a.st];have:=h.bn;exact⟨h.key,h.an,h.ag,h.out,h.oI,h.aA,h.code,h.aJ,h.pk,h.num,h.fl,h.fp,h.ft,h.tick,h.wait,by simp only;omega,h.ll,h.mC,h.c8,h.cr⟩
theorem DJ(h:bZ s n)(z:n<=100000):∀k,k<=4->bZ (cQ s k).1 (n+1)/\(cQ s k).1.count<=100*n+10+10*k/\(cQ s k).1.lost.length+(cQ s k).1.aK.length<=100*n+10*k/\(cQ s k).1.an=s.an/\(cQ s k).2.length<=10+10*k/\∀p∈(cQ s k).2,(p.length:Int)<=s.an:=by
 intro k;induction k with
 |zero=>
  intro _;have t:=h.mono (b9 n);have A:=h.bn;obtain⟨d,C,a,hl⟩:=DI t (by omega);have B:=h.ll;refine⟨d,?_,?_,?_,?_,λp hp=>?_⟩
  show s.fW.s.count<=_;rw[a.st];simp only;omega;show s.fW.s.lost.length+s.fW.s.aK.length<=_;rw[a.st];simp only;omega;show s.fW.s.an=_;rw[a.st];show s.fW.l.length<=_;rw[a.l,yO,dA];omega;have hp:p∈s.fW.l:=hp;rw[a.l]at hp;obtain⟨f,g,m,e⟩:=DE hp;obtain⟨c,u,rfl⟩:=eQ.1 g;have:=(a.fr c u).2;rw[e,pK];push_cast;omega
 |succ k v=>
  intro D;obtain⟨i,F,G,j,H,w⟩:=v (by omega);obtain⟨d,E,b,hl⟩:=DH i (by omega) (by push_cast;omega) (by omega) k (by omega);have x:=b.count;have q:=b.aK;simp only at x q;have I:((cQ s k).1.pieces k).s.aK.length=(cQ s k).1.aK.length+E.length:=by rw[q,bH,DG,dA]
  have R:=(yR i (by omega) k (by omega)).1;have e1:((cQ s k).1.pieces k).s.lost=(cQ s k).1.lost:=by rw[R.eq]
  have e2:((cQ s k).1.pieces k).s.an=(cQ s k).1.an:=by rw[R.eq]
  have r:((cQ s k).1.pieces k).l=jx (cQ s k).1.key (aS (cQ s k).1.first) (cQ s k).1.count (E.map (·.map (·.2))):=by rw[b.l];rfl
  refine⟨d,?_,?_,?_,?_,λp hp=>?_⟩
  show((cQ s k).1.pieces k).s.count<=_;omega;show((cQ s k).1.pieces k).s.lost.length+((cQ s k).1.pieces k).s.aK.length<=_;rw[e1];omega;show((cQ s k).1.pieces k).s.an=_;rw[e2];exact j;show((cQ s k).2++((cQ s k).1.pieces k).l).length<=_;rw[bH,r,yO,dA];omega;have hp:p∈(cQ s k).2++((cQ s k).1.pieces k).l:=hp;obtain hp|hp:=bQ.1 hp
  exact w p hp;rw[r]at hp;obtain⟨f,g,m,e⟩:=DE hp;obtain⟨L,y,rfl⟩:=eQ.1 g;have:=(b.fr L y).2.1;rw[e,pK];push_cast;rw[<-j];omega
theorem DK(h:bZ s n)(a:n<=100000):bZ s.dh.1 (n+1)/\s.dh.2.length<=50/\∀p∈s.dh.2,(p.length:Int)<=300:=by
 obtain⟨b,-,-,-,c,d⟩:=DJ h a 4 (aP _);exact⟨b,by have:s.dh.2.length<=10+10*4:=c;omega,λp hp=>by have:=d p hp;have:=h.an;omega⟩
theorem Nv:(prog.info? 9).map (λi=>(i.zero,i.size,i.bytes))=some (some (.string ⟨#[]⟩),1,16):=by kernel_rfl
theorem fP.lt{l:List (List Int)}(h:fP w n x l):∀k,x.ownBlock=some k->n<=k/\k<w.heap.size:=World.ownsRow.lt h
theorem fP.aw{l:List (List Int)}(h:fP w n x l)(C:av w W S)(c:∀k,x.ownBlock=some k->¬S k):fP W n x l:=by
 obtain⟨d,a⟩:=h;refine⟨d,?_⟩
 obtain a|⟨g,cap,cur,e1,e2,b,e⟩:=a
 exact .inl a;exact .inr ⟨g,cap,cur,e1,e2,(C.block g (aY.1 b).1 (c g (by rw[e1];rfl))).trans b,e⟩
theorem fP.low{b2:Nat}{l:List (List Int)}(h:fP w n x l)(d:b2<=n):fP w b2 x l:=by
 obtain⟨b,a⟩:=h;refine⟨b,?_⟩
 obtain a|⟨g,cap,cur,e1,e2,c⟩:=a
 exact .inl a;exact .inr ⟨g,cap,cur,e1,by omega,c⟩
theorem fP.gy{l:List (List Int)}(h:fP w n x l):∃a cap,x=.slice a l.length cap:=by
 obtain⟨c,⟨b,h0⟩|⟨g,d,e,e1,-⟩⟩:=h;exact⟨none,0,by rw[h0];exact b⟩
 exact⟨_,_,e1⟩
theorem Nx(ty:TypeId)(d:Nat)(v:Value)(l:List (List Int))(r:fP w d v l)(b c:Nat)(p:List Int)(h0:w.cell? ⟨b,0,none⟩=some (.string (strOfNums p)))(D:l.length<=1000000)(s:d<=w.heap.size):
 ∃i k m a,(Builtin.append_ #[44,44] ty #[v,.slice (some ⟨b,0,none⟩) 1 c]).run prog w=.ok (.slice i k m) a/\fP a d (.slice i k m) (l++[p])/\w.grownBy a v.ownBlock:=by
 obtain⟨t,hi,x,y,z⟩:=lg Nv;obtain⟨A,a,n,B,q,_,E⟩:=run_append_own_at (P:=prog) w d 44 ty 9 t _ 1 16 underlying44 hi x y z rfl (by decide) v l.length (l.map λp=>.string (strOfNums p)) r ⟨b,0,none⟩ 1 c ([p].map λp=>.string (strOfNums p)) (by simp) (by
  intro j u f;rw[Addr.add_mid];have:j=0:=by
   have:=(kF.1 f).1;simp at this;exact this
  subst this;simp at f;subst f;exact h0) (λu C=>by
  obtain⟨e,-,rfl⟩:=eQ.1 C;rfl) (by simp[maxLen];omega) (by omega) s
 have h:fP a d A (l++[p]):=by
  unfold fP;rw[bH,mO];exact B
 obtain⟨-,⟨rfl,e2⟩|⟨g,cap,F,rfl,_⟩⟩:=id h;exact⟨_,_,_,a,n,h,q⟩
 exact⟨_,_,_,a,n,h,q⟩
def eP(l:List El)(i:Nat):El:=l.getD i (0,[])
theorem wG{l:List El}(h:i<l.length):l[i]?=some (eP l i):=by simp[eP,List.getD,h]
theorem yS{l:List El}(h:i<l.length):eP l i∈l:=xd (wG h)
theorem yT{l:List El}(h:j<l.length):l.take (j+1)=l.take j++[eP l j]:=by
 rw[qF,wG h];rfl
theorem Ny(h:∀x∈L,W8 x)(a:w.heap[n]?=some (.cells (bv L).toArray 5 (0,0)))(hl:L.length<=1000000):bm w 0 (jX (n,L)) L:=by
 have e:=fC L;refine⟨h,by omega,.inr ⟨n,L.length,(bv L).toArray,rfl,jh _,a,aP _,by simp[maxLen];omega,by simp[e],?_⟩⟩
 rw[fJ (by simp[e])]
structure lD(a:World)(b:List El)(j:Nat)(c:Value)(wr:World):Prop where
 own:fP wr a.heap.size c ((b.take j).map (·.2))
 aw:av a wr (λk=>∃e∈b.take j,e.1=k)
theorem lD.el{wr:World}{a:List El}(h:lD w a j x wr)(c:gP w 0 a)(b:j<a.length)(hl:∀e∈a,e.2.length<=1000000):bm wr 0 (jX (eP a j)) (eP a j).2:=by
 have d:=yS b;obtain⟨-,f,g⟩:=c.at_ _ d;have i:wr.heap[(eP a j).1]?=some (.cells (bv (eP a j).2).toArray 5 (0,0)):=by
  rw[h.aw.block _ (c.lt d) ?_];exact g;rintro⟨e,k,e2⟩;have hs:=c.sep;rw[<-oQ j a]at hs;have hd:eP a j∈a.drop j:=by
   rw[zG b];have:a[j]=eP a j:=by have:=wG b;rw[eD b]at this;exact aO this
   rw[this];simp
  exact(List.pairwise_append.1 hs).2.2 e k _ hd e2
 have:=hl _ d;exact Ny f i this
theorem lD.row{wr:World}{b:List El}(h:lD w b j y wr)(c:eO w 0 (.slice a n i) b)(d:∀e∈b,(Value.slice a n i).ownBlock≠some e.1):eO wr 0 (.slice a n i) b:=c.aw h.aw (λk e ⟨x,f,e2⟩=>d x (iS f) (by rw[e2];exact e))
theorem lD.step{wr:World}{b:List El}(h:lD w b j x wr)(f:j<b.length)(gb:wr.grownBy W none)(g:fP v w.heap.size (.slice a n i) ((b.take j).map (·.2)++[(eP b j).2]))(c:W.grownBy v x.ownBlock)(d:v.grownBy V (some (eP b j).1))(q:(eP b j).1<w.heap.size):lD w b (j+1) (.slice a n i) V:=by
 refine⟨?_,?_⟩
 have e:(b.take (j+1)).map (·.2)=(b.take j).map (·.2)++[(eP b j).2]:=by rw[yT f];simp
 rw[e];refine g.aw (av.of d) (λk e1 e2=>?_);have:=(g.lt k e1).1;have:=aO e2;omega;refine⟨d.os.trans (c.os.trans (gb.os.trans h.aw.os)),d.tape.trans (c.tape.trans (gb.tape.trans h.aw.tape)),d.output.trans (c.output.trans (gb.output.trans h.aw.output)),bD h.aw.size (bD gb.size (bD c.size d.size)),λk m l=>?_⟩
 have r:=h.aw.size;have z2:=gb.size;have s:=c.size;rw[d.block k (by omega) (λe=>l ⟨eP b j,by rw[yT f];simp,(aO e).symm▸rfl⟩),c.block k (by omega) (λe=>by have:=(h.own.lt k e.symm).1;omega),gb.block k (by omega) (by simp)];refine h.aw.block k m (λ⟨e,p,e2⟩=>l ⟨e,?_,e2⟩);rw[yT f];exact iH _ p
theorem aQ.DL{st:aQ}(a:dY n st)(b:n<=100000):st.dh.2.length<=50/\∀p∈st.dh.2,(p.length:Int)<=300:=by
 cases st with
 |aD s=>exact(DK a b).2
 |shut aF l=>exact⟨bD a.1 (by omega),a.2⟩
theorem lD.done{wr f m:World}{q:fY}(D:iE w q W v){st:aQ}{b:List El}(E:∀k,S k->k<w.heap.size)(T:lD V b b.length x wr)(z:cq V i l st P)(A:∀k,P k->S k\/v.heap.size<=k)(C:av v V S)(B:∀e∈b,¬P e.1/\(S e.1\/v.heap.size<=e.1))(p:wr.grownBy f (some (w.heap.size+1)))(r:f.grownBy m none):
 ∃a n c,x=.slice a n c/\fP m w.heap.size x (b.map (·.2))/\cq m i l st P/\(∀k,P k->S k\/w.heap.size<=k)/\av w m S/\∀j,x.ownBlock=some j->¬P j:=by
 have O:=D.z2;have Q:=C.size;have R:=T.aw.size;have d:=T.own;rw[oq]at d;obtain⟨a,cap,F⟩:=d.gy;have G:¬P (w.heap.size+1):=λh=>by
  obtain s|s:=A _ h
  have:=E _ s;omega;omega
 have H:cq wr i l st P:=z.other T.aw (λk _ ⟨e,t,e2⟩ u=>(B e (iS t)).1 (e2▸u));have I:cq f i l st P:=H.other (av.of p) (λk _ e u=>G (by have:=aO e;rw[this];exact u));refine⟨a,_,cap,F,?_,I.ao r,λk y=>(A k y).imp id (λh=>by omega),?_,λj e K=>?_⟩
 have L:fP f V.heap.size x (b.map (·.2)):=d.aw (av.of p) (λk e e2=>by have:=(d.lt k e).1;have:=aO e2;omega);exact(L.aw (av.of r) (λk _ e=>by cases e)).low (by omega);have M:av v wr S:=(C.trans T.aw).mono (λk y h=>h.elim id (λ⟨e,t,e2⟩=>(B e (iS t)).2.elim (λh=>e2▸h) (λh=>by omega)));have N:=((av.of D.g).trans M).trans ((av.of p).trans (av.of r));refine N.mono (λk y h=>?_);obtain(h|h)|(h|h):=h
 cases h;exact h;have:=aO h;omega;cases h;have s:=(d.lt j e).1;have U:=z.lt j K;omega
theorem Nz(w:World)(xb sb:Nat)(st:aQ)(A:Nat->Prop)(n:Nat)(h:cq w xb sb st A)(al:dY n st)(hn:n<=100000)(hL:Laid w)(q:fY)(ax:aV q.code)(hq:q.op=5)(hd:q.data.size<=1000000):
 Calls prog 60 #[.pointer (some ⟨xb,0,none⟩),.agg (cG q)] w (iO w xb sb A (st.do q)):=by
 obtain⟨R,K⟩:=exq (iO w xb sb A (st.do q));rw[<-K];obtain⟨W1,p,D⟩:=iE.mk' w q;obtain⟨cC,b0⟩:=aQ.DL al hn;have L:=J (M7 p xb sb st A n (h.ao D.g) al hn);have aC:=J (λ(f:World)(C:av p f A)=>D.oL h.lt C hd);have a0:=J (λ(f wr t i:World)(F:Nat->Prop)(d:List El)(r:Value)(T:lD f d d.length r wr)(L:cq f xb sb st.dh.1 F)(M:∀k,F k->A k\/p.heap.size<=k) (C:av p f A) (s:∀e∈d,¬F e.1/\(A e.1\/p.heap.size<=e.1)) (u:d.map (·.2)=st.dh.2) (P:wr.grownBy t (some (w.heap.size+1))) (B:t.grownBy i none)=>(show R (.returned (.tuple #[.int .i64 0,.int .i64 (-1),.int .i64 0,.int .u64 0,.string ⟨#[]⟩,r])) i by
  have e:st.do q=(⟨0,-1,0,0,[],st.dh.2⟩,st.dh.1):=by unfold aQ.do;rw[ah (by omega),ah (by omega),ah (by omega),ah (by omega),az hq]
  rw[K,e];obtain⟨a,m,c,rfl,Q,h2,h3,h4,h5⟩:=lD.done D h.lt T L M C s P B;exact⟨a,m,c,rfl,u▸Q,F,h2,h3,h4,h5⟩))
 have db:=mR q.data;have b3:=J wg;obtain⟨d0,d1,d2,d3,d4⟩:p.cell? ⟨w.heap.size,0,none⟩=some (.int .i64 q.op)/\p.cell? ⟨w.heap.size,1,none⟩=some (.int .i64 q.stream)/\p.cell? ⟨w.heap.size,2,none⟩=some (.int .i64 q.n)/\p.cell? ⟨w.heap.size,3,none⟩=some (.int .u64 q.code)/\p.cell? ⟨w.heap.size,4,none⟩=some (.string q.data):=by simp[World.cell?,D.b,cG]
 have a1:=D.e1;have a2:=D.e2;have de:=D.z;replace D:=J D;replace K:=J K;replace h:=J h;replace hL:=J hL;replace ax:=J ax;unfold cG at *;obtain⟨op,stream,qn,code,data⟩:=q;simp only at *;subst hq;go_enter func60,ntmps60;go_upto_region 3 with fail;rw[<-a1,<-a2];generalize grownCap W1 data.size 0 5=cap at *;clear a1 a2;go_wp2_with fail;refine(Z L).mono ?_;rintro e f⟨a3,n3,c3,d,F,rfl,H,N,u,I,M,S,G⟩;have dg:d.length<=50:=by have:=fm List.length u;rw[dA]at this;omega
 have a4:∀e∈d,e.2.length<=1000000:=λe s=>by
  have:=b0 e.2 (by rw[<-u];exact oR s);omega
 obtain⟨a',c',ev,dk,b4,-,a8⟩:=H.gy;obtain⟨e1,e2,e3⟩:=jg ev;subst e1 e2 e3;have hF:=J (λ(wr t i:World)(r:Value)(T:lD f d d.length r wr)=>Z a0 f wr t i F d r T I M S (λe s=>⟨(G e s).1,(G e s).2.2⟩) u);have b5:=J (λ(wr:World) r(T:lD f d d.length r wr)=>Z aC wr ((S.trans T.aw).mono (λk hk h=>h.elim id (λ⟨e,b6,e2⟩=>(G e (iS b6)).2.2.elim (λh=>e2▸h) (λh=>by omega)))) cap);have b7:Hid (lD f d 0 (.slice none 0 0) f):=J ⟨by simpa using fP.nil _ _,(av.of (aB f none)).mono (λk _ e=>by cases e)⟩;have dn:0<f.heap.size:=by
  have:=I.lt xb I.kz;omega
 replace I:=J I;replace N:=J N;replace H:=J H;replace G:=J G;replace u:=J u;replace a8:=J a8;clear L aC a0 M S;unfold maxLen at b4;go_upto_region 14 with fail;go_loopg [9,53] (d.length+1) (λg r b8 wr=>∃(j:Nat),j<=d.length/\b8=.int .i64 (j:Int)/\g=d.length+1-j/\lD f d j r wr);case atStart=>exact⟨0,by omega,rfl,by omega,Z b7⟩
 case round=>
  obtain⟨j,hj,rfl,rfl,l⟩:=hrel;obtain⟨a9,c9,rfl⟩:=l.own.gy;by_cases E:j<d.length
  ·have i1:(j:Int)<(d.length:Int):=by omega
   have i0:(0:Int)<=(j:Int):=by omega
   obtain⟨y,rfl⟩:∃y,a3=some y:=by
    cases a3 with
    |some y=>exact⟨y,rfl⟩
    |none=>
     obtain⟨a',c',ev,-,-,h0,-⟩:=(Z H).gy;obtain⟨e1,-,-⟩:=jg ev;have:=(h0 e1.symm).1;rw[this]at E;simp at E
   have bb:=l.row (Z H) (λe s=>(Z G e s).2.1);obtain⟨a',c',ev,-,-,-,bj⟩:=bb.gy;obtain⟨e1,-,-⟩:=jg ev;obtain⟨-,ey,U⟩:=bj y e1.symm;obtain⟨yb,ca⟩:=exq y.block;rw[<-ca]at ey U;subst ey;have ds:wr.cell? ⟨yb,j,none⟩=some (jX (eP d j)):=by
    have:=U j (jX (eP d j)) (by rw[List.getElem?_map,wG E];rfl);rwa[dR]at this
   have V:=l.el (Z N) E a4;have du:=tj V.gI;have br:=J (λ(i:World)(B:wr.grownBy i none\/True)(ho:bm i 0 (jX (eP d j)) (eP d j).2)=>uQ (some ⟨(eP d j).1,0,none⟩) (eP d j).2.length (eP d j).2.length (eP d j).2 i 0 ho (by have:=a4 _ (yS E);omega));obtain⟨W,X⟩:=exq (wr.alloc (.cells #[.string (strOfNums (eP d j).2)] 9));have O:wr.grownBy W none:=by rw[X];exact aH _ _ _
   have bt:W.cell? ⟨wr.heap.size,0,none⟩=some (.string (strOfNums (eP d j).2)):=by
    have:=aM wr (.cells #[.string (strOfNums (eP d j).2)] 9);rw[<-X]at this;simp[World.cell?,this]
   have bx:=l.own.aw (av.of O) (λk _ e=>by cases e);obtain⟨a5,n5,c5,i,Y,bz,B⟩:=Nx (w:=W) 44 f.heap.size _ _ bx wr.heap.size 1 (eP d j).2 bt (by simp;omega) (bD l.aw.size O.size);have ch:(eP d j).1<f.heap.size:=(Z N).lt (yS E);have bM:bm i 0 (jX (eP d j)) (eP d j).2:=by
    refine(V.ao O).gb B (.inr (λe=>?_));have Q:(jX (eP d j)).ownBlock=some (eP d j).1:=rfl;rw[Q]at e;have:=(l.own.lt _ e.symm).1;omega
   have cj:=J (Z br i (.inr trivial) bM);have cp:=J (λw6(g6:i.grownBy w6 (some (eP d j).1))=>l.step E O bz B g6 ch);generalize dx:eP d j=el at *;obtain⟨eb,dE⟩:=el;unfold jX at *;simp only at *;replace l:=J l;replace Y:=J Y;clear V bb bj U bt bx bz bM br;go_upto_region 16 with fail;go_wp2_with (at_builtin;rw[<-X];refine pH (by rfl) 44 44 (by rfl) _ _ (by rfl) _ _ _ (by rfl) (by rfl) (Z Y) ?_);refine(Z cj).mono ?_;rintro e w6⟨rfl,g6⟩;have cv:=J (Z cp w6 g6);go_wp2_with fail;go_roundg (d.length+1-(j+1));case measure=>omega
   case rel=>exact⟨j+1,by omega,by push_cast;rfl,rfl,Z cv⟩
  have cw:j=d.length:=by omega
  subst cw;have cx:=J (Z b5 wr _ l);have cy:=J (λt i=>Z hF wr t i _ l);have i1:¬((d.length:Int)<(d.length:Int)):=by omega
  replace l:=J l;go_wp2_with fail;refine(Z cx).mono ?_;rintro e t⟨rfl,P⟩;go_wp2_with fail;refine(Z b3 _).mono ?_;rintro e i⟨rfl,B⟩;have hf:=J (Z cy _ _ P B);go_wp2_with fail;first|exact Z hf|exact cA (v:=.tuple #[.int .i64 0,.int .i64 (-1),.int .i64 0,.int .u64 0,.string ⟨#[]⟩,.slice a9 (List.map (λx=>x.2) (List.take d.length d)).length c9]) (by simp[results,results60,go_sem]) rfl (Z hf)
theorem NA(w:World)(xb sb:Nat)(st:aQ)(A:Nat->Prop)(n:Nat)(h:cq w xb sb st A)(a:dY n st)(b:n<=100000)(c:Laid w)(q:fY)(d:aV q.code)(hd:q.data.size<=1000000):
 Calls prog 60 #[.pointer (some ⟨xb,0,none⟩),.agg (cG q)] w (iO w xb sb A (st.do q)):=by
 by_cases e:q.op=1;exact Nf w xb sb st A n h a b c q d e hd;by_cases f:q.op=2;exact Nb w xb sb st A n h a b c q d f hd;by_cases g:q.op=3;exact Nc w xb sb st A n h a b c q d g hd;by_cases i:q.op=4;exact Nh w xb sb st A n h a b c q d i hd;by_cases j:q.op=5;exact Nz w xb sb st A n h a b c q d j hd;by_cases k:q.op=6;exact Ni w xb sb st A n h a b c q d k hd;by_cases l:q.op=7;exact Nk w xb sb st A n h a b c q d l hd;by_cases m:q.op=8;exact Nd w xb sb st A n h a b c q d m hd;by_cases p:q.op=9;exact Ng w xb sb st A n h a b c q d p hd;exact Nj w xb sb st A n h a b c q d (by omega) hd
theorem bZ.qW(h:bZ s n)(k:Nat)(o:Ot)(f:k<4->fV o)(g:k<4->(o.h.bytes.length:Int)<=s.ag)(i:k<4->0<=o.aA/\o.aA<=4096)(l:k<4->0<=o.code/\o.code<=4611686018427387903):bZ {s with out:=ai s.out k o} n:=by
 have c:∀(P:Nat->Ot->Prop),(k<4->P k o)->(∀j,j<4->P j (s.out j))->∀j,j<4->P j (ai s.out k o j):=λP a b j d=>by
  by_cases e:j=k;subst e;rw[bk];exact a d;rw[bl _ _ e];exact b j d
 exact{h with out:=c (λ_ o=>fV o) f h.out,oI:=c (λ_ o=>(o.h.bytes.length:Int)<=s.ag) g h.oI,aA:=c (λ_ o=>0<=o.aA/\o.aA<=4096) i h.aA,code:=c (λ_ o=>0<=o.code/\o.code<=4611686018427387903) l h.code}
theorem bZ.nk(h:bZ s n)(k:Nat)(i:It)(b:k<4->gS s.ag i):bZ {s with aJ:=ai s.aJ k i} n:=by
 have c:∀j,j<4->gS s.ag (ai s.aJ k i j):=λj a=>by
  by_cases e:j=k;subst e;rw[bk];exact b a;rw[bl _ _ e];exact h.aJ j a
 exact{h with aJ:=c}
theorem NB(h:bZ s n)(a:k<4)(l:List Int):bZ (s.write k l).2.2 n:=by
 unfold Sd.write;split;exact h;have b:=h.out k a;have d:=b.en;have hl:=h.oI k a;unfold Ot.en at d;have c:(((s.out k).wrote l s.ag).h.bytes.length:Int)<=s.ag/\(s.out k).h.fr+((s.out k).wrote l s.ag).h.bytes.length<=4096:=by
  unfold Ot.wrote Ot.fv;simp only[bH,ct]
  omega
 refine h.qW k _ (λ_=>⟨b.ok,b.kQ,b.fr,b.low,b.hole,?_⟩) (λ_=>c.1) (λa=>h.aA k a) (λa=>h.code k a);exact c.2
theorem NC(h:bZ s n)(a:k<4):bZ (s.finish k).2 n:=by
 unfold Sd.finish;split;exact h;exact h.qW k _ (λa=>(h.out k a).same rfl) (λa=>h.oI k a) (λa=>h.aA k a) (λa=>h.code k a)
theorem ND(h:bZ s n)(b:k<4)(c:aV p):bZ (s.giveUp k p).2 n:=by
 unfold Sd.giveUp;split;exact h;rename_i d;have a:=h.out k b;have g:=h.ag;have f:=a.en;unfold Ot.en at f;refine h.qW k _ (λ_=>⟨a.ok,a.kQ,a.fr,a.low,a.hole,?_⟩) (λ_=>by unfold Ot.giveUp;simp;omega) (λb=>h.aA k b) (λ_=>⟨c.1,?_⟩);unfold Ot.giveUp Ot.en;simp;omega;show p<=_;have:¬(4611686018427387903<p):=λe=>d (.inr e)
 omega
theorem NF(h:bZ s n):bZ s.eN (n+1):=by
 have b:=h.mono (b9 n);have c:=h.tick;have d:=h.wait;unfold Sd.eN;split;exact{b with
  pk:=λx a=>h.pk x (by simp at a;simp;exact a.symm),num:=λx a=>(by cases a),fl:=(by simp),fp:=λx a=>(by cases a),ft:=λx a=>(by cases a),tick:=(by simp only;omega),wait:=(by simp only;omega),ll:=(by have:=h.ll;simp only[bH,fB];omega)}
 exact{b with ft:=λx a=>(by have:=h.ft x a;simp only;omega),tick:=(by simp only;omega)}
theorem DM(i:It)(aE:Int)(h:0<=cO i.h/\cO i.h<=i.h.bytes.length):(i.iK aE:Int)<=cO i.h:=by
 unfold It.iK;omega
theorem gS.read(h:gS p u)(j:0<=p)(aE:Int):gS p (u.read aE):=by
 unfold It.read;split;exact h;have f:=h.whole;have a:=DM u aE f;have k:=h.fr;have l:=h.len;have n:=h.en;refine⟨h.ok,by simp only;omega,λm c=>?_,λm c=>?_,λd m h0 e=>?_,?_,?_,λd=>?_⟩
 have:=h.kQ m c;simp only;omega;have:=h.lA m c;simp only[dF];omega;simp only at e;by_cases hl:m<u.h.fr;exact h.low d m h0 hl;unfold cO at a f;split at a;omega;rename_i b;cases g:u.h.af with
 |nil=>rw[g]at b;simp at b
 |cons r t=>
  rw[g]at b a;have e0:au (r::t) 0=r:=rfl;rw[e0]at b a;exact⟨r,by simp,by omega,by omega⟩
 simp only[dF];omega;simp only[dF];omega;obtain⟨e,i⟩:=h.sA d;exact⟨e,by simp[i]⟩
theorem NG(h:bZ s n)(k:Nat)(aE:Int):bZ {s with aJ:=ai s.aJ k ((s.aJ k).read aE)} n:=
 h.nk k _ (λa=>(h.aJ k a).read (by have:=h.ag;omega) aE)
theorem NH(h:bh X)(l:X.length<=8)(f:∀r∈X,0<=r.lo/\r.hi<=4611686018427387904)(m:0<=q/\q<=4611686018427387903):bh (eT X p q).1/\(eT X p q).1.length<=8/\∀r∈(eT X p q).1,0<=r.lo/\r.hi<=4611686018427387904:=by
 have b:=mW ⟨q,q+1⟩ h;have hl:=tt X ⟨q,q+1⟩;have g:∀r∈dv X ⟨q,q+1⟩,0<=r.lo/\r.hi<=4611686018427387904:=λr a=>by
  have i:=b.2 r a;have c:=(jE ⟨q,q+1⟩ h r.lo).1 ⟨r,a,cW _,i⟩;have d:=(jE ⟨q,q+1⟩ h (r.hi-1)).1 ⟨r,a,by omega,by omega⟩;refine⟨?_,?_⟩
  obtain⟨x,e,j,k⟩|c:=c
  have:=f x e;omega;simp only at c;omega;obtain⟨x,e,j,k⟩|d:=d
  have:=f x e;omega;simp only at d;omega
 unfold eT;split;refine⟨⟨b.1.sublist (List.drop_sublist _ _),λr a=>b.2 r (iG a)⟩,by simp;omega,λr a=>g r (iG a)⟩
 refine⟨b,?_,g⟩
 show(dv X ⟨q,q+1⟩).length<=8;omega
theorem NI(l:List (Int×Pc)):∀(out:Nat->Ot)(k:Nat),(eB out l k).aA=(out k).aA/\(eB out l k).code=(out k).code/\(eB out l k).h.bytes.length<=(out k).h.bytes.length:=by
 induction l with
 |nil=>intro out k;exact⟨rfl,rfl,aP _⟩
 |cons x l f=>
  intro out k;have e:eB out (x::l)=eB (ai out x.1.toNat ((out x.1.toNat).fU x.2)) l:=rfl;rw[e];obtain⟨b,c,a⟩:=f (ai out x.1.toNat ((out x.1.toNat).fU x.2)) k;by_cases d:k=x.1.toNat;rw[b,c];rw[<-d]at a⊢;rw[bk]at a⊢;refine⟨rfl,rfl,bD a ?_⟩
  unfold Ot.fU;simp only[dF];omega;rw[bl _ _ d]at b c a;exact⟨b,c,a⟩
theorem NJ{α:Type}(l:List α)(p:α->Bool):(l.filter p).length+(l.filter (λx=> !p x)).length=l.length:=by
 induction l with
 |nil=>rfl
 |cons a l b=>cases h:p a<;>simp[h]<;>omega
theorem NK(h:bZ s n)(f:n<=100000)(l:List Rg):bZ (s.dT l) n:=by
 have e:=(h.DD f).dT l;obtain⟨i,j⟩:=Dn s l;have m:=h.fl;have c:=NI (m9 (λx=>bL l x.num) s.aK++m9 (λx=>bL l x.num) s.lost) s.out;have d:∀x∈(s.dT l).aK,x∈s.aK:=λx a=>by
  have a:x∈(s.aK.filter (λx=> !bL l x.num)).filter (λx=> !decide (x.num+3<=(au l 0).hi)):=a;exact(iy.1 (iy.1 a).1).1
 have p:(s.dT l).lost.length+(s.dT l).aK.length<=s.lost.length+s.aK.length:=by
  have e1:(s.dT l).aK=(s.aK.filter (λx=> !bL l x.num)).filter (λx=> !decide (x.num+3<=(au l 0).hi)):=rfl;have e2:(s.dT l).lost=(s.eE l).lost.filter (λx=> !x.ps.all (kS ((s.eE l).out x.st.toNat))):=rfl;have q:(s.eE l).lost.length=(s.lost.filter (λx=> !bL l x.num)).length+((s.aK.filter (λx=> !bL l x.num)).filter (λx=>decide (x.num+3<=(au l 0).hi))).length:=by unfold Sd.eE;simp only[bH]
  have b1:=ny (λx:Pk=> !x.ps.all (kS ((s.eE l).out x.st.toNat))) (s.eE l).lost;have b2:=NJ (s.aK.filter (λx=> !bL l x.num)) (λx=>decide (x.num+3<=(au l 0).hi));have r:=ny (λx:Pk=> !bL l x.num) s.aK;have t:=ny (λx:Pk=> !bL l x.num) s.lost;rw[e1,e2];omega
 have g:0<=(s.dT l).wait/\(s.dT l).wait<=32:=by
  show 0<=(if s.aK.any (λx=>bL l x.num)then(4:Int)else s.wait)/\(if s.aK.any (λx=>bL l x.num)then(4:Int)else s.wait)<=32;have:=h.wait;split<;>omega
 have u:=h.ll;exact⟨h.key,h.an,h.ag,e.out,λk b=>Int.le_trans (by have:=(c k).2.2;exact Int.ofNat_le.2 this) (h.oI k b),λk b=>by show 0<=(eB _ _ k).aA/\(eB _ _ k).aA<=4096;rw[(c k).1];exact h.aA k b,λk b=>by show 0<=(eB _ _ k).code/\(eB _ _ k).code<=_;rw[(c k).2.1];exact h.code k b,h.aJ,e.pk,λx a=>h.num x (d x a),by omega,λx a=>h.fp x (d x a),λx a=>h.ft x (d x a),h.tick,g,h.bn,by omega,h.mC,h.c8,h.cr⟩
theorem yU(h:bZ s n)(c:n<=100000)(hs:cU G)(ho:0<=G.offset)(d:my s G):bZ (s.take G).2 n:=by
 have e:=hs.st;unfold Sd.take;split;split;exact h;exact NK h c _;split;split;exact h;exact h.nk _ _ (λa=>(h.aJ _ a).reset G);split;rename_i b;split;exact h;exact h.nk _ _ (λa=>(h.aJ _ a).data G ho (hs.en b) (d b));split<;>exact h
theorem yV{n:Nat}(a:n<=100000):∀(b:List Fr)(s:Sd),bZ s n->(∀f∈b,cU f/\0<=f.offset/\my s f)->bZ (dp s b).2 n
 |[],s,h,_=>h
 |f::r,s,h,c=>by
  obtain⟨d,e,i⟩:=c f (by simp);rw[yJ];split;exact yV a r _ (yU h a d e i) (λg j=>by
   obtain⟨k,l,k3⟩:=c g (by simp[j]);exact⟨k,l,k3.same (take_same s f)⟩)
  exact yU h a d e i
theorem yW(s:Sd)(aF code:Int):(s.gQ aF code).length<=1/\∀p∈s.gQ aF code,(p.length:Int)<=300:=by
 unfold Sd.gQ;split;exact⟨by simp,λp hp=>(by cases hp)⟩
 refine⟨by simp,λp hp=>?_⟩
 rw[cS.1 hp,pK];have e:bw [eR code]=28::aR code:=by simp[bw,da,eR]
 rw[e,dq];have:=(gJ code).2;omega
theorem NL(a:∀x∈L,W8 x){x:Fr×Nat}(h:fD L t n=some x):0<=x.1.offset/\0<=x.1.code:=by
 unfold fD at h;split at h;cases h;simp[cu];split at h;cases h;simp[cu];split at h;obtain⟨y,-,h⟩:=qD.1 h;cases h;simp[cu];split at h;obtain⟨y,-,h⟩:=qD.1 h;obtain⟨z,b,h⟩:=qD.1 h;obtain⟨u,c,h⟩:=qD.1 h;cases h;exact⟨(kH a c).1.1,(kH a b).1.1⟩
 split at h;obtain⟨y,-,h⟩:=qD.1 h;obtain⟨z,b,h⟩:=qD.1 h;obtain⟨u,c,h⟩:=qD.1 h;cases h;exact⟨(kH a b).1.1,by simp[cu]⟩
 split at h;obtain⟨y,d,h⟩:=qD.1 h;cases h;exact⟨by simp[cu],(kH a d).1.1⟩
 cases h
theorem NO(i:∀x∈L,W8 x):∀(k p:Nat)(c d:List Fr),iz L k p c=(some d,-1)->(∀f∈c,0<=f.offset/\0<=f.code)->∀f∈d,0<=f.offset/\0<=f.code:=by
 intro k;induction k with
 |zero=>intro p c d h;simp[iz]at h
 |succ k j=>
  intro p c d h e;unfold iz at h;split at h;split at h;simp at h;rename_i f q a;refine j _ _ _ h (λg b=>?_);obtain b|b:=bQ.1 b
  exact e g b;rw[cS.1 b];unfold mU at a;obtain⟨x,l,a⟩:=qD.1 a;split at a;cases a;exact NL i l;cases a;simp only[qI,mf]at h;rw[<-h.1];exact e
theorem DN(b:∀x∈L,W8 x){a:List Fr}(h:fE L=(some a,-1)):∀f∈a,0<=f.offset/\0<=f.code:=by
 unfold fE at h;split at h;simp at h;exact NO b _ _ _ _ h (λf c=>(by cases c))
theorem NP(b:List Int):∀(k p:Nat)(a c:List Fr)(q:Int),iz b k p a=(some c,q)->q= -1:=by
 intro k;induction k with
 |zero=>intro p a c q h;simp[iz]at h
 |succ k d=>
  intro p a c q h;unfold iz at h;split at h;split at h;simp at h;exact d _ _ _ _ h;simp only[qI]at h;exact h.2.symm
theorem DO{a:List Fr}(h:fE L=(some a,q)):q= -1:=by
 unfold fE at h;split at h;simp at h;exact NP _ _ _ _ _ _ h
theorem DP(hp:∀x∈L,W8 x):∀x∈bT L,W8 x:=λx a=>hp x (iG (iS a))
theorem DQ(hp:∀x∈L,W8 x):0<=bp L:=by
 have h:=tS L hp;unfold bp;by_cases hl:8<=L.length;exact(h 8 hl).1;rw[fJ (by omega)];have:=(h L.length (aP _)).1;rwa[oq]at this
theorem DR(h:bZ s n)(a:0<=p/\p<=4611686018427387903)(b:List Fr):bZ (s.fI p b) n:=by
 obtain⟨c,d,e⟩:=NH (p:=s.floor) h.mC h.c8 h.cr a;exact{h with mC:=c,c8:=d,cr:=e}
theorem NQ(h:bZ s n)(c:n<=100000)(hp:∀x∈L,W8 x):dY n (s.recv L).2.2:=by
 unfold Sd.recv;split;exact h;rename_i d;split;exact h;split;exact yW _ _ _;rename_i a q hd;have:=DO hd;subst this;have hs:=wu hd;have ho:=DN (tV (DP hp)) hd;split;exact h;rename_i e;have g:a.any s.gC=false:=by simpa using e
 have i:eC s.key (aS (!s.first)) L:=by simpa using d
 have j:=yV c a _ (DR h ⟨DQ hp,i.2.2.2⟩ a) (λf b=>⟨hs f b,(ho f b).1,Dx g _ f b⟩);split;exact j;exact yW _ _ _
theorem DS{st:aQ}(h:dY n st)(c:n<=100000)(q:fY)(e:aV q.code):dY (n+1) (st.do q).2:=by
 cases st with
 |shut aF l=>
  have a:dY (n+1) (.shut aF l):=h;have h0:dY (n+1) (.shut aF []):=⟨by simp,λp hp=>(by cases hp)⟩
  unfold aQ.do;repeat' split
  all_goals first|exact a|exact h0
 |aD s=>
  have b:=h.mono (b9 n);have a:dY (n+1) (.aD s):=b;unfold aQ.do;split;unfold aQ.write;simp only;split;exact a;exact NB b (by omega) _;split;unfold aQ.finish;simp only;split;exact a;exact NC b (by omega);split;unfold aQ.giveUp;simp only;split;exact a;exact ND b (by omega) e;split;exact NF h;split;exact(DK h c).1;split;have:=NQ h c (qg q.data);unfold aQ.recv;simp only
  cases d:(s.recv (aG q.data)).2.2 with
  |aD f=>rw[d]at this;exact bZ.mono this (b9 n)
  |shut aF l=>rw[d]at this;exact this
  split;unfold aQ.read;simp only;split;exact a;exact NG b _ _;split;unfold aQ.close;simp only;split;exact a;exact yW _ _ _;split;exact a;exact a
theorem NR(h:jH p q)(d:dw L)(n:Nat):bZ (Sd.new p q L B) n:=by
 have f:fV Ot.new:=⟨bh.nil,λm b=>absurd b (fM m),by simp[Ot.new],λm h0 c=>by simp[Ot.new]at c;omega,fM _,by simp[Ot.new,Ot.en]⟩
 have g:gS q It.new:=⟨bh.nil,by simp[It.new],λm b=>absurd b (fM m),λm b=>absurd b (fM m),λ_ m h0 c=>by simp[It.new]at c;omega,by simp[It.new];unfold jH at h;omega,by simp[It.new],λe=>by simp[It.new]at e⟩
 unfold jH at h;exact⟨d,⟨h.1,h.2.1⟩,h.2.2,λ_ _=>f,λ_ _=>by simp[Sd.new,Ot.new];omega,λ_ _=>by simp[Sd.new,Ot.new],λ_ _=>by simp[Sd.new,Ot.new],λ_ _=>g,λx a=>(by cases a),λx a=>(by cases a),by simp[Sd.new],λx a=>(by cases a),λx a=>(by cases a),by simp[Sd.new],by simp[Sd.new],by simp[Sd.new];omega,by simp[Sd.new],bh.nil,by simp[Sd.new],λr i=>(by cases i)⟩
structure cL where
 l:List Rg
 floor:Int
 aE:Int
def cL.has(s:cL)(n:Int):Bool:=decide (n<s.floor)||s.l.any (λr=>decide (r.lo<=n)&&decide (n<=r.hi))
structure jI where
 lo:Int
 hi:Int
 out:List Rg
 done:Bool
def jI.step(x:jI)(r:Rg):jI:=
 if r.hi<x.lo/\1<x.lo-r.hi then{x with out:=x.out++[r]}
 else if x.hi<r.lo/\1<r.lo-x.hi then(if x.done then{x with out:=x.out++[r]}else{x with out:=x.out++[⟨x.lo,x.hi⟩]++[r],done:=true})
 else{x with lo:=min x.lo r.lo,hi:=max x.hi r.hi}
def jI.end_(x:jI):List Rg:=if x.done then x.out else x.out++[⟨x.lo,x.hi⟩]
def pQ(lo hi:Int)(l:List Rg):jI:=l.foldl jI.step ⟨lo,hi,[],false⟩
def cL.put(s:cL)(l:List Rg):cL:=if s.aE<(l.length:Int)then⟨l.drop 1,(au l 0).hi+1,s.aE⟩else{s with l:=l}
def cL.add(s:cL)(lo hi:Int):cL:=if hi<max lo s.floor then s else s.put (pQ (max lo s.floor) hi s.l).end_
def Ty(w:World)(b:Nat)(t:TypeId):Prop:=∃cs fr,w.heap[b]?=some (.cells cs t fr)
theorem Ty.ne{u:TypeId}(h:Ty w n T)(k:Ty w b u)(a:T≠u):n≠b:=by
 rintro rfl;obtain⟨cs,fr,h⟩:=h;obtain⟨c,d,k⟩:=k;rw[h]at k;simp only[mf,Obj.cells.injEq]at k;exact a k.2.1
theorem Ty.lt(h:Ty w b T):b<w.heap.size:=by
 obtain⟨cs,fr,h⟩:=h;exact(aY.1 h).1
theorem Ty.aw(h:Ty w b T)(C:av w W S)(a:¬S b):Ty W b T:=by
 have hl:=h.lt;obtain⟨cs,fr,h⟩:=h;exact⟨cs,fr,(C.block b hl a).trans h⟩
theorem kB{l:List Value}(h:w.ownsRow i T j x n l)(C:av w W S)(c:∀k,x.ownBlock=some k->¬S k):W.ownsRow i T j x n l:=by
 obtain⟨d,a⟩:=h;refine⟨d,?_⟩
 obtain a|⟨g,cap,cur,e1,e2,b,e⟩:=a
 exact .inl a;exact .inr ⟨g,cap,cur,e1,e2,(C.block g (aY.1 b).1 (c g (by rw[e1];rfl))).trans b,e⟩
theorem iP{l:List Value}(h:w.ownsRow i T j x n l):∀k,x.ownBlock=some k->Ty w k T:=by
 obtain⟨-,⟨e,-⟩|⟨g,cap,b,e1,e2,c,-⟩⟩:=h;rw[e];intro k a;cases a;rw[e1];intro k a;cases a;exact⟨b,_,c⟩
theorem qX{l:List Value}(h:w.ownsRow k T i x n l):∃a c,x=.slice a n c/\n<=c/\c<=maxLen/\(a=none->n=0/\c=0)/\∀y,a=some y->y=⟨y.block,0,none⟩/\w.rangeAt y.block 0 l:=by
 obtain⟨f,⟨e,h0⟩|⟨g,cap,m,e1,e2,p,q,r,v,s⟩⟩:=h;exact⟨none,0,by rw[h0];exact e,by omega,by simp[maxLen],λ_=>⟨h0,rfl⟩,λy b=>by cases b⟩
 refine⟨_,cap,e1,q,r,λe=>(by cases e),λy b=>?_⟩
 cases b;refine⟨rfl,λj u d=>?_⟩
 rw[dR,aX p];have t:j<n*i:=by rw[<-f];exact(kF.1 d).1
 have:m.toList[j]?=l[j]? :=by rw[<-s,jA,az t]
 rw[pZ]at this;rw[this];exact d
structure cV where
 data:ByteArray
 af:cL
 finished:Bool
 given:Bool
 code:Int
 end_:Int
 high:Int
structure aL where
 data:List Int
 there:List Bool
 high:Int
 end_:Int
 ended:Bool
 given:Bool
 code:Int
 read:Int
 state:Int
structure aj where
 an:Int
 ag:Int
 key:List Int
 me:Int
 closed:Int
 code:Int
 said:Bool
 next:Int
 dZ:cL
 bU:cL
 due:List Int
 outs:Nat->cV
 ins:Nat->aL
 aA:List (Int×List Fr)
structure NS where
 dZ:Nat
 bU:Nat
 ro:Nat
 ri:Nat
 co:Nat
 ci:Nat
 ob:Nat->Nat
 cb:Nat->Nat
 ib:Nat->Nat
 vg:Value
 ve:Value
 vc:Nat->Value
 vd:Nat->Value
 vt:Nat->Value
 NT:Value
 NU:Value
 ay:List (Value×List dV)
def mL(s:aj)(l:NS):List Value:=
 [.int .i64 s.an,.int .i64 s.ag]++bv s.key++[.int .i64 s.me,.int .i64 s.closed,.int .u64 s.code,.bool s.said,.int .u64 s.next,.pointer (some ⟨l.dZ,0,none⟩),.pointer (some ⟨l.bU,0,none⟩),l.NT,.slice (some ⟨l.ro,0,none⟩) 4 l.co,.slice (some ⟨l.ri,0,none⟩) 4 l.ci,l.NU]
variable{Y:aj}
def aj.of(s:aj)(k:Int):Int:=if s.closed≠0 then 9 else if k<0\/4<=k then 2 else 0
def aj.close(s:aj)(code:Int):Int×aj:=if s.closed≠0 then(9,s)else if 4611686018427387903<code then(3,s)else(0,{s with closed:=9,code:=code})
def cL.eF(s:cL):Int:=if s.l.length=0\/0<(au s.l 0).lo then 0 else(au s.l 0).hi+1
def aj.af(s:aj)(k:Int):Int×Int:=if s.of k≠0 then(0,s.of k)else((s.outs k.toNat).af.eF,0)
def aj.finish(s:aj)(k:Int):Int×aj:=
 if s.of k≠0 then(s.of k,s)else if(s.outs k.toNat).finished||(s.outs k.toNat).given then(3,s)else(0,{s with outs:=ai s.outs k.toNat {s.outs k.toNat with finished:=true}})
def aj.giveUp(s:aj)(k code:Int):Int×aj:=
 if s.of k≠0 then(s.of k,s)else if(s.outs k.toNat).given=true\/4611686018427387903<code then(3,s)else(0,{s with outs:=ai s.outs k.toNat {s.outs k.toNat with given:=true,code:=code,end_:=(s.outs k.toNat).high}})
def aj.fv(s:aj)(k:Nat)(m:Nat):Int:=min (min (s.ag-((s.outs k).data.size-(s.outs k).af.eF)) (4096-(s.outs k).data.size)) m
def aj.write(s:aj)(k:Int)(d:ByteArray):Int×Int×aj:=
 if s.of k≠0 then(0,s.of k,s)else if(s.outs k.toNat).finished||(s.outs k.toNat).given then(0,3,s)
 else(s.fv k.toNat d.size,0,{s with outs:=ai s.outs k.toNat {s.outs k.toNat with data:=(s.outs k.toNat).data++d.extract 0 (s.fv k.toNat d.size).toNat}})
def kC(off:Nat)(d:List Int)(x:List Int×List Bool):Nat->List Int×List Bool
 |0=>x
 |n+1=>if(kC off d x n).2.getD (off+n) false then kC off d x n else((kC off d x n).1.set (off+n) (d.getD n 0),(kC off d x n).2.set (off+n) true)
theorem yX(off:Nat)(d:List Int)(x:List Int×List Bool)(n:Nat):(kC off d x n).1.length=x.1.length/\(kC off d x n).2.length=x.2.length:=by
 induction n with
 |zero=>exact⟨rfl,rfl⟩
 |succ n a=>
  unfold kC;split;exact a;simp only[List.length_set];exact a
def aL.bad(i:aL)(f:Fr):Bool:=(i.ended&&(decide (i.end_<aT f)||(f.fin&&(aT f !=i.end_))))||(f.fin&&decide (aT f<i.high))
def aL.grow(i:aL)(f:Fr):aL:={i with high:=max i.high (aT f),ended:=i.ended||f.fin,end_:=if f.fin then aT f else i.end_}
def aL.pad(i:aL)(m:Nat):aL:={i with data:=i.data++List.replicate m 0,there:=i.there++List.replicate m false}
def aL.fill(i:aL)(f:Fr)(n:Nat):aL:={i with data:=(kC f.offset.toNat (aG f.data) (i.data,i.there) n).1,there:=(kC f.offset.toNat (aG f.data) (i.data,i.there) n).2}
def aL.bytes(i:aL)(f:Fr):Int×aL:=
 if i.bad f then(7,i)else if i.given then(0,i)else(0,((i.grow f).pad ((max i.high (aT f)).toNat-i.data.length)).fill f f.data.size)
structure fQ(i:aL):Prop where
 dl:(i.data.length:Int)=i.high
 tl:i.there.length=i.data.length
 hi:i.high<=100000000
 e0:0<=i.end_/\i.end_<=4611686018427387904
 rd:0<=i.read/\i.read<=i.high
def aL.start(i:aL):aL:=if i.given=true/\i.state=0 then{i with state:=2}else i
def aL.kD(i:aL):Nat:=((i.there.drop i.read.toNat).takeWhile id).length
def aL.bn(i:aL)(aE:Int):Nat:=if i.state=0 then min aE.toNat i.kD else 0
def aL.kW(i:aL)(n:Nat):aL:={i with read:=i.read+n}
def aL.stop(i:aL):aL:=if i.ended=true/\i.read=i.end_/\i.state=0 then{i with state:=1}else i
def aL.dD(i:aL)(aE:Int):aL:=(i.start.kW (i.start.bn aE)).stop
def aL.text(i:aL)(aE:Int):List Int:=(i.data.drop i.read.toNat).take (i.start.bn aE)
def aL.jm(i:aL):Int:=if i.state=2 then i.code else 0
def aj.read(s:aj)(k aE:Int):List Int×Int×Int×Int×aj:=
 if s.of k≠0 then([],0,0,s.of k,s)else((s.ins k.toNat).text aE,((s.ins k.toNat).dD aE).state,((s.ins k.toNat).dD aE).jm,0,{s with ins:=ai s.ins k.toNat ((s.ins k.toNat).dD aE)})
theorem NV(l:List Bool)(j:Nat)(h:j<(l.takeWhile id).length):l[j]?=some true:=by
 induction l generalizing j with
 |nil=>simp at h
 |cons x l a=>
  cases x with
  |false=>simp at h
  |true=>
   cases j with
   |zero=>rfl
   |succ j=>simp only[List.takeWhile_cons,id,eX,dq]at h;simpa using a j (by omega)
theorem NW(l:List Bool)(h:(l.takeWhile id).length<l.length):l[(l.takeWhile id).length]?=some false:=by
 induction l with
 |nil=>simp at h
 |cons x l a=>
  cases x with
  |false=>rfl
  |true=>
   simp only[List.takeWhile_cons,id,eX,dq]at h⊢;simpa using a (by omega)
theorem DT(i:aL):i.kD<=i.there.length-i.read.toNat:=by
 unfold aL.kD;have h:∀l:List Bool,(l.takeWhile id).length<=l.length:=λl=>by
  induction l with
  |nil=>simp
  |cons x l a=>
   rw[List.takeWhile_cons];split;simp only[dq];omega;simp
 have:=h (i.there.drop i.read.toNat);rwa[dF]at this
theorem DU(i:aL)(j:Nat)(h:j<i.kD):i.there[i.read.toNat+j]?=some true:=by
 have:=NV _ _ h;rwa[kG]at this
theorem NX(i:aL)(h:i.read.toNat+i.kD<i.there.length):i.there[i.read.toNat+i.kD]?=some false:=by
 have:=NW (i.there.drop i.read.toNat) (by rw[dF];unfold aL.kD at h;omega);rwa[kG]at this
theorem NY{i:aL}(hi:fQ i)(h:j<i.bn p):i.state=0/\(j:Int)<p/\i.read+j<i.high/\i.there[i.read.toNat+j]?=some true:=by
 unfold aL.bn at h;split at h;rename_i h0;have a:j<i.kD:=by omega
 have:=DT i;have:=hi.rd;have:=hi.dl;have:=hi.tl;exact⟨h0,by omega,by omega,DU i j a⟩
 omega
theorem yY{i:aL}(hi:fQ i):i.read+i.bn p<=i.high:=by
 unfold aL.bn;have:=DT i;have:=hi.rd;have:=hi.dl;have:=hi.tl;split<;>omega
def cM(r:Rg):Rg:=⟨r.lo,r.hi+1⟩
def cL.sp(s:cL):List Rg:=s.l.map cM
theorem step_done(l:List Rg):∀(x:jI),x.done=true->(∀r∈l,x.hi+1<r.lo)->x.lo<=x.hi->(∀r∈l,r.lo<=r.hi)->(l.foldl jI.step x).end_=x.out++l:=by
 induction l with
 |nil=>intro x h _ _ _;simp[jI.end_,h]
 |cons r l d=>
  intro x h b hl c;have f:=b r (by simp);have g:=c r (by simp);have e:x.step r={x with out:=x.out++[r]}:=by
   unfold jI.step;rw[ah (by omega),az (by omega),az h]
  have k:=d {x with out:=x.out++[r]} h (λq a=>b q (by simp[a])) hl (λq a=>c q (by simp[a]));rw[mh,e];refine k.trans ?_;simp
theorem NZ(l:List Rg):∀(lo hi:Int)(out:List Rg),lo<=hi->bh (l.map cM)->(l.foldl jI.step ⟨lo,hi,out,false⟩).end_.map cM=out.map cM++kJ (l.map cM) ⟨lo,hi+1⟩:=by
 induction l with
 |nil=>intro lo hi out h _;simp[jI.end_,kJ,cM]
 |cons r l b=>
  intro lo hi out h hs;have hp:r.lo<r.hi+1:=hs.2 (cM r) (by simp);rw[mh,ki];have c:kJ (cM r::l.map cM) ⟨lo,hi+1⟩=if r.hi+1<lo then cM r::kJ (l.map cM) ⟨lo,hi+1⟩else if hi+1<r.lo then⟨lo,hi+1⟩::cM r::l.map cM else kJ (l.map cM) ⟨min r.lo lo,max (r.hi+1) (hi+1)⟩:=rfl
  rw[c];by_cases c1:r.hi<lo/\1<lo-r.hi;have e:jI.step ⟨lo,hi,out,false⟩ r=⟨lo,hi,out++[r],false⟩:=by unfold jI.step;rw[az c1]
  rw[e,b lo hi _ h hs.tail,az (by omega)];simp[cM];by_cases c2:hi<r.lo/\1<r.lo-hi;have e:jI.step ⟨lo,hi,out,false⟩ r=⟨lo,hi,out++[⟨lo,hi⟩]++[r],true⟩:=by unfold jI.step;rw[ah c1,az c2];rfl
  have d:∀q∈l,r.hi+1<q.lo:=λq a=>(p8.1 hs.1).1 (cM q) (by simp;exact⟨q,a,rfl⟩)
  rw[e,step_done l _ rfl (λq a=>by have:=d q a;simp only;omega) h (λq a=>by have:=hs.2 (cM q) (by simp;exact .inr ⟨q,a,rfl⟩);unfold cM at this;simp only at this;omega),ah (by omega),az (by omega)];simp[cM];have e:jI.step ⟨lo,hi,out,false⟩ r=⟨min lo r.lo,max hi r.hi,out,false⟩:=by unfold jI.step;rw[ah c1,ah c2]
  rw[e,b _ _ _ (by omega) hs.tail,ah (by omega),ah (by omega)];have:max hi r.hi+1=max (r.hi+1) (hi+1):=by omega
  have:min lo r.lo=min r.lo lo:=by omega
  simp only[*]
theorem wH(h:p<=q)(hs:bh (X.map cM)):(pQ p q X).end_.map cM=dv (X.map cM) ⟨p,q+1⟩:=by
 unfold pQ;rw[NZ X p q [] h hs];unfold dv;rw[az (by simp only;omega)];rfl
theorem N3(h:bh X)(a:∀r∈X,p<=r.lo/\r.hi<=t):X=[]\/(X.length:Int)<=t-p:=by
 induction X generalizing p with
 |nil=>exact .inl rfl
 |cons r X c=>
  right;have d:=a r (by simp);have f:=h.2 r (by simp);obtain e|e:=c (p:=r.hi) h.tail (λq b=>⟨by have:=(p8.1 h.1).1 q b;omega,(a q (by simp[b])).2⟩)
  subst e;simp;omega;simp only[dq];push_cast;omega
structure eZ(z:cL):Prop where
 ok:bh z.sp
 bd:∀r∈z.l,0<=r.lo/\r.hi<4096
 fl:z.floor=0
 mo:z.aE=1073741824
theorem eZ.len{z:cL}(h:eZ z):z.l.length<=4096:=by
 have:=N3 (p:=0) (t:=4096) h.ok (λr c=>by
  obtain⟨q,d,rfl⟩:=eQ.1 c;have:=h.bd q d;simp only[cM]
  omega)
 have e:z.sp.length=z.l.length:=by unfold cL.sp;rw[dA]
 obtain h0|h0:=this
 rw[h0]at e;simp at e;omega;omega
theorem eZ.new:eZ ⟨[],0,1073741824⟩:=⟨bh.nil,λr a=>(by cases a),rfl,rfl⟩
theorem eZ.DV{z:cL}(h:eZ z)(c:0<=p)(b:p<=q)(d:q<4096):z.add p q={z with l:=(pQ p q z.l).end_}/\(z.add p q).sp=dv z.sp ⟨p,q+1⟩:=by
 have e1:max p z.floor=p:=by rw[h.fl];omega
 have e2:=wH (X:=z.l) b h.ok;have e:(pQ p q z.l).end_.length<=z.l.length+1:=by
  have:=tt (z.l.map cM) ⟨p,q+1⟩;rw[<-e2,dA,dA]at this;exact this
 have a:z.add p q={z with l:=(pQ p q z.l).end_}:=by
  unfold cL.add cL.put;rw[e1,ah (by omega),ah (by rw[h.mo];have:=h.len;omega)]
 exact⟨a,by rw[a];exact e2⟩
theorem eZ.add{z:cL}(h:eZ z)(f:0<=p)(g:p<=t)(i:t<4096):eZ (z.add p t):=by
 obtain⟨e1,e2⟩:=h.DV f g i;refine⟨by rw[e2];exact mW _ h.ok,λr j=>?_,by rw[e1];exact h.fl,by rw[e1];exact h.mo⟩
 have a:cM r∈(z.add p t).sp:=eQ.2 ⟨r,j,rfl⟩;have k:bh (z.add p t).sp:=by rw[e2];exact mW _ h.ok
 have hp:=k.2 _ a;have d:∀n,Sm (z.add p t).sp n->0<=n/\n<4096:=λn e=>by
  rw[e2,jE _ h.ok]at e;obtain⟨q,l,b,c⟩|⟨b,c⟩:=e
  obtain⟨m,s,rfl⟩:=eQ.1 l;have:=h.bd m s;simp only[cM]at b c;omega;simp only at b c;omega
 simp only[cM]at hp;have u:=d r.lo ⟨_,a,by simp only[cM];omega,by simp only[cM];omega⟩;have v:=d r.hi ⟨_,a,by simp only[cM];omega,by simp only[cM];omega⟩;omega
def oM(o:Nat->cV)(f:Fr):Nat->cV:=if f.kind=5/\0<f.data.size then ai o f.stream.toNat {o f.stream.toNat with af:=(o f.stream.toNat).af.add f.offset (f.offset+f.data.size-1)}else o
def nU(l:List Rg)(o:Nat->cV)(x:Int×List Fr):Nat->cV:=if bL l x.1 then x.2.foldl oM o else o
def aj.kX(s:aj)(l:List Rg):aj:={s with outs:=s.aA.foldl (nU l) s.outs}
def qy(f:Fr):Prop:=f.kind=5->0<f.data.size->0<=f.stream/\f.stream<4/\0<=f.offset/\f.offset+f.data.size<=4096
def uc(s:aj):Prop:=∀x∈s.aA,∀f∈x.2,qy f
theorem DW{o:Nat->cV}(h:∀k,k<4->eZ (o k).af)(c:qy G):∀k,k<4->eZ (oM o G k).af:=by
 intro k a;unfold oM;split;rename_i b;obtain⟨e,f,d,g⟩:=c b.1 b.2;unfold ai;split;exact(h _ (by omega)).add d (by omega) (by omega);exact h k a;exact h k a
theorem N4{q:List Fr}(a:∀f∈q,qy f){o:Nat->cV}(h:∀k,k<4->eZ (o k).af):∀k,k<4->eZ (q.foldl oM o k).af:=by
 induction q generalizing o with
 |nil=>exact h
 |cons f q b=>
  rw[mh];exact b (λg c=>a g (by simp[c])) (DW h (a f (by simp)))
theorem DX{x:Int×List Fr}(a:∀f∈x.2,qy f){o:Nat->cV}(h:∀k,k<4->eZ (o k).af):∀k,k<4->eZ (nU X o x k).af:=by
 unfold nU;split;exact N4 a h;exact h
def yZ(l:List Fr)(j:Nat):Fr:=l.getD j ⟨0,0,0,0,false,⟨#[]⟩,[]⟩
def aL.reset(i:aL)(f:Fr):aL:={i with ended:=true,end_:=f.offset,code:=if i.given then i.code else f.code,given:=true}
def aL.ud(i:aL)(f:Fr):Bool:=(i.ended&&(i.end_ !=f.offset))||decide (f.offset<i.high)
def aj.take(s:aj)(f:Fr):Int×aj:=
 if f.kind=3 then(if s.next<=(au f.ranges 0).hi then(8,s)else(0,s.kX f.ranges))
 else if f.kind=4 then(if(s.ins f.stream.toNat).ud f then(7,s)else(0,{s with ins:=ai s.ins f.stream.toNat ((s.ins f.stream.toNat).reset f)}))
 else if f.kind=5 then(((s.ins f.stream.toNat).bytes f).1,{s with ins:=ai s.ins f.stream.toNat ((s.ins f.stream.toNat).bytes f).2})
 else if f.kind=6 then(10,s)
 else(0,s)
structure DY(o:cV)(f:Fr):Prop where
 gv:o.given=false
 off:0<=f.offset
 en:aT f<=o.data.size
 mG:o.data.extract f.offset.toNat (aT f).toNat=f.data
 fin:f.fin=(o.finished&&decide (aT f=o.data.size))
 ne:f.data.size=0->f.fin=true
 sz:o.data.size<=4096
def cV.qY(o:cV)(f:Fr):cV:={o with high:=max o.high (aT f)}
def ue(l:List Rg)(r:Rg):Bool:=l.any (λq=>decide (q.lo<=r.lo)&&decide (r.hi<=q.hi))
def aj.told(s:aj)(l:List Rg)(n:Int):Bool:=decide (n<s.dZ.floor)||bL l n
def aj.dT(s:aj)(f:Fr):aj:={s with due:=s.due.filter (λn=> !s.told f.ranges n)}
def aj.gC(s:aj)(f:Fr):Bool:=decide (f.kind=5)&&(decide ((s.ins f.stream.toNat).state≠2)&&(!(s.ins f.stream.toNat).given&&decide ((s.ins f.stream.toNat).read+s.ag<aT f)))
def aj.y9(s:aj)(f:Fr)(n:Int):Bool:=mz f&&(decide (s.due.length=0)||(s.due.getD (s.due.length-1) 0 !=n))
def aj.note(s:aj)(f:Fr)(n:Int):aj:=if s.y9 f n then{s with due:=s.due++[n]}else s
def aj.fail(s:aj)(e:Int):aj:={s with closed:=e,code:=e,said:=decide (e=10)}
def aj.fc(n:Int):List Fr->aj->Int×aj
 |[],s=>(0,s)
 |f::t,s=>if(s.take f).1=0 then aj.fc n t ((s.take f).2.note f n)else((s.take f).1,(s.take f).2.fail (s.take f).1)
def aj.mark(s:aj)(n:Int):aj:={s with dZ:=s.dZ.add n n,bU:=s.bU.add n n}
noncomputable def aj.pR(s:aj)(n:Int)(b:List Int):Int×Int×aj:=
 match fE b with
  |(none,q)=>(5,q,{s with closed:=5,code:=5})
  |(some a,_)=>
   if a.any s.gC then(6,-1,s)
   else((aj.fc n a (s.mark n)).1,-1,(aj.fc n a (s.mark n)).2)
noncomputable def aj.eI(s:aj)(p:List Int):Int×Int×aj:=
 if s.closed≠0 then(9,-1,s)
 else if¬eC s.key (1-s.me) p then(4,-1,s)
 else if s.dZ.has (bp p)then(0,-1,s)
 else s.pR (bp p) (dN s.key (1-s.me) (bp p) (bT p))
theorem fQ.bytes{i:aL}(h:fQ i)(ho:0<=G.offset)(d:aT G<=4611686018427387903)(hs:i.given=false->aT G<=100000000):fQ (i.bytes G).2:=by
 unfold aL.bytes;split;exact h;split;exact h;rename_i a;have a:i.given=false:=by simpa using a
 have e:=hs a;have q:=h.dl;have f:=h.tl;have g:=h.hi;have j:=h.rd;have k:0<=aT G:=by unfold aT;omega
 obtain⟨M,b⟩:=exq ((max i.high (aT G)).toNat-i.data.length);rw[<-b];have hl:(((i.grow G).pad M).fill G G.data.size).data.length=i.data.length+M:=by
  show(kC _ _ _ _).1.length=_;rw[(yX _ _ _ _).1];simp[aL.pad,aL.grow]
 have c:(((i.grow G).pad M).fill G G.data.size).there.length=i.there.length+M:=by
  show(kC _ _ _ _).2.length=_;rw[(yX _ _ _ _).2];simp[aL.pad,aL.grow]
 refine⟨?_,?_,?_,?_,?_⟩
 rw[hl];show _=max i.high (aT G);omega;rw[hl,c];omega;show max i.high (aT G)<=_;omega;show 0<=(if G.fin then aT G else i.end_)/\(if G.fin then aT G else i.end_)<=_;split;omega;exact h.e0;show 0<=i.read/\i.read<=max i.high (aT G);omega
theorem fQ.reset{i:aL}(h:fQ i)(ho:0<=G.offset)(a:G.offset<=4611686018427387903):fQ (i.reset G):=⟨h.dl,h.tl,h.hi,by show 0<=G.offset/\G.offset<=_;omega,h.rd⟩
theorem N7{i:aL}(h:(i.bytes G).2.given=false):i.given=false:=by
 unfold aL.bytes at h;split at h;exact h;split at h;exact h;exact h
structure qZ(s a:aj):Prop where
 an:a.an=s.an
 ag:a.ag=s.ag
 key:a.key=s.key
 me:a.me=s.me
 closed:a.closed=s.closed
 code:a.code=s.code
 said:a.said=s.said
 next:a.next=s.next
 dZ:a.dZ=s.dZ
 bU:a.bU=s.bU
 aA:a.aA=s.aA
theorem wI(s:aj)(f:Fr):qZ s (s.take f).2/\(s.take f).2.due=s.due:=by
 unfold aj.take;split;split;exact⟨⟨rfl,rfl,rfl,rfl,rfl,rfl,rfl,rfl,rfl,rfl,rfl⟩,rfl⟩
 exact⟨⟨rfl,rfl,rfl,rfl,rfl,rfl,rfl,rfl,rfl,rfl,rfl⟩,rfl⟩
 split;split;exact⟨⟨rfl,rfl,rfl,rfl,rfl,rfl,rfl,rfl,rfl,rfl,rfl⟩,rfl⟩
 exact⟨⟨rfl,rfl,rfl,rfl,rfl,rfl,rfl,rfl,rfl,rfl,rfl⟩,rfl⟩
 split;exact⟨⟨rfl,rfl,rfl,rfl,rfl,rfl,rfl,rfl,rfl,rfl,rfl⟩,rfl⟩
 split;exact⟨⟨rfl,rfl,rfl,rfl,rfl,rfl,rfl,rfl,rfl,rfl,rfl⟩,rfl⟩
 exact⟨⟨rfl,rfl,rfl,rfl,rfl,rfl,rfl,rfl,rfl,rfl,rfl⟩,rfl⟩
theorem DZ{q:List (Int×List Fr)}(a:∀x∈q,∀f∈x.2,qy f){o:Nat->cV}(h:∀k,k<4->eZ (o k).af):∀k,k<4->eZ (q.foldl (nU X) o k).af:=by
 induction q generalizing o with
 |nil=>exact h
 |cons x q b=>
  rw[mh];exact b (λy c=>a y (by simp[c])) (DX (a x (by simp)) h)
theorem ug(s:aj)(f:Fr)(n:Int):qZ s (s.note f n)/\(s.note f n).outs=s.outs/\(s.note f n).ins=s.ins/\(s.note f n).due.length<=s.due.length+1:=by
 unfold aj.note;split;exact⟨⟨rfl,rfl,rfl,rfl,rfl,rfl,rfl,rfl,rfl,rfl,rfl⟩,rfl,rfl,by simp⟩
 exact⟨⟨rfl,rfl,rfl,rfl,rfl,rfl,rfl,rfl,rfl,rfl,rfl⟩,rfl,rfl,by omega⟩
theorem N8(f:Fr)(h:Y.due=L\/Y.due=L++[p]):(Y.note f p).due=L\/(Y.note f p).due=L++[p]:=by
 unfold aj.note;split;rename_i a;obtain h|h:=h
 right;simp only;rw[h];exfalso;unfold aj.y9 at a;rw[h]at a;simp[List.getD]at a;exact h
def lF(r:Rs)(v:Value):Array Value:= #[.int .i64 r.e,.int .i64 r.at_,.int .i64 r.n,.int .u64 r.code,.string (strOfNums r.data),v]
def uj(w:World)(xb sb:Nat)(A:Nat->Prop)(r:Rs×aQ)(e:Ending)(b:World):Prop:=
 ∃a n c,e=.returned (.agg (lF r.1 (.slice a n c)))/\fP b w.heap.size (.slice a n c) r.1.dh/\∃d,cq b xb sb r.2 d/\(∀k,d k->A k\/w.heap.size<=k)/\av w b A/\∀j,(Value.slice a n c).ownBlock=some j->¬d j
theorem PC(a c d f g a5:Value):av w ((((((w.setCell ⟨b,0,none⟩ a).setCell ⟨b,1,none⟩ c).setCell ⟨b,2,none⟩ d).setCell ⟨b,3,none⟩ f).setCell ⟨b,4,none⟩ g).setCell ⟨b,5,none⟩ a5) (λj=>j=b):=
 (av.of (aI (aI (aI (aI (aI (aI (aB w (some b)) ⟨b,0,none⟩ a (.inr rfl)) ⟨b,1,none⟩ c (.inr rfl)) ⟨b,2,none⟩ d (.inr rfl)) ⟨b,3,none⟩ f (.inr rfl)) ⟨b,4,none⟩ g (.inr rfl)) ⟨b,5,none⟩ a5 (.inr rfl))).mono (λk _ e=>(aO e).symm)
theorem PD{g i j:Value}(h:w.heap[b]?=some (.cells #[x,y,z,g,i,j] T (0,0)))(a c d e f a5:Value):((((((w.setCell ⟨b,0,none⟩ a).setCell ⟨b,1,none⟩ c).setCell ⟨b,2,none⟩ d).setCell ⟨b,3,none⟩ e).setCell ⟨b,4,none⟩ f).setCell ⟨b,5,none⟩ a5).heap[b]?=some (.cells #[a,c,d,e,f,a5] T (0,0)):=
 heap_set (heap_set (heap_set (heap_set (heap_set (heap_set h a) c) d) e) f) a5
theorem PE:(prog.info? 46).map (·.size)=some 6:=by kernel_rfl
theorem uj.of{d:World}{r:Rs×aQ}(g:w.grownBy W none)(p:∀k,S k->k<w.heap.size)(f:fP V W.heap.size (.slice a n m) r.1.dh)(s:cq V i l r.2 P)(h:∀k,P k->S k\/W.heap.size<=k)(C:av W V S)(t:∀j,(Value.slice a n m).ownBlock=some j->¬P j){R:Nat}(z:w.heap.size<=R)(A:R<W.heap.size)(b:av V d (λk=>k=R))(u:x=.agg (lF r.1 (.slice a n m))):uj w i l S r (.returned x) d:=by
 refine⟨a,n,m,by rw[u],(f.aw b (λk e e2=>?_)).low g.size,P,s.other b (λk _ e v=>?_),λk c=>(h k c).imp id (λq=>bD g.size q),?_,t⟩
 have:=(f.lt k e).1;omega;obtain q|q:=h k v
 have:=p k q;omega;omega;refine⟨b.os.trans (C.os.trans g.os),b.tape.trans (C.tape.trans g.tape),b.output.trans (C.output.trans g.output),bD g.size (bD C.size b.size),λk c y=>?_⟩
 rw[b.block k (by have:=C.size;omega) (by omega),C.block k (by omega) y];exact g.block k c (by simp)
theorem Et(w:World)(xb sb:Nat)(st:aQ)(A:Nat->Prop)(n:Nat)(h:cq w xb sb st A)(E:dY n st)(F:n<=100000)(G:Laid w)(q:fY)(H:aV q.code)(hd:q.data.size<=1000000):
 Calls prog 28 #[.pointer (some ⟨xb,0,none⟩),.agg (cG q)] w (uj w xb sb A (st.do q)):=by
 obtain⟨d,f⟩:=exq ((w.alloc (.cells (cG q) 32)).alloc (.cells #[.int .i64 0,.int .i64 0,.int .i64 0,.int .u64 0,.string ⟨#[]⟩,.slice none 0 0] 46));have t:w.grownBy d none:=by rw[f];exact aq (aH _ _ none) (aH _ _ none)
 have P:d.heap.size=w.heap.size+2:=by rw[f,dQ,dQ]
 have u:d.heap[w.heap.size]?=some (.cells (cG q) 32 (0,0)):=by rw[f];exact(heap_alloc_old _ _ (by rw[dQ];omega)).trans (aM _ _)
 have b1:d.heap[w.heap.size+1]?=some (.cells #[.int .i64 0,.int .i64 0,.int .i64 0,.int .u64 0,.string ⟨#[]⟩,.slice none 0 0] 46 (0,0)):=by rw[f];have:=aM (w.alloc (.cells (cG q) 32)) (.cells #[.int .i64 0,.int .i64 0,.int .i64 0,.int .u64 0,.string ⟨#[]⟩,.slice none 0 0] 46);rw[dQ]at this;exact this
 have s:=NA d xb sb st A n (h.ao t) E F (G.gb t (by simp)) q H hd;have B:=h.lt;have x:∀b,av d b A->b.heap[w.heap.size+1]?=some (.cells #[.int .i64 0,.int .i64 0,.int .i64 0,.int .u64 0,.string ⟨#[]⟩,.slice none 0 0] 46 (0,0)):=λb C=>(C.block _ (by omega) (λe=>by have:=B _ e;omega)).trans b1
 obtain⟨d0,d1,d2,d3,d4⟩:d.cell? ⟨w.heap.size,0,none⟩=some (.int .i64 q.op)/\d.cell? ⟨w.heap.size,1,none⟩=some (.int .i64 q.stream)/\d.cell? ⟨w.heap.size,2,none⟩=some (.int .i64 q.n)/\d.cell? ⟨w.heap.size,3,none⟩=some (.int .u64 q.code)/\d.cell? ⟨w.heap.size,4,none⟩=some (.string q.data):=by simp[World.cell?,u,cG]
 obtain⟨op,stream,I,code,data⟩:=q;simp only at *;unfold cG at *;obtain⟨r,D⟩:=exq (st.do ⟨op,stream,I,code,data⟩);rw[<-D]at s⊢;clear D;replace u:=J u;replace b1:=J b1;replace x:=J x;replace s:=J s;have K:=J (λ(b L:World)(g:Nat->Prop)(a:Option Addr)(m c:Nat)(i:fP b d.heap.size (.slice a m c) r.1.dh)(l:cq b xb sb r.2 g)(y:∀k,g k->A k\/d.heap.size<=k) (C:av d b A) (z:∀j,(Value.slice a m c).ownBlock=some j->¬g j) (M:av b L (λk=>k=w.heap.size+1)) (v:Value) (N:v=.agg (lF r.1 (.slice a m c)))=>uj.of (R:=w.heap.size+1) t B i l y C z (by omega) (by omega) M N);replace h:=J h;go_enter func28,ntmps28;go_upto_region 1 with fail;rw[<-f];clear f;go_wp2_with (go_at_call 60;refine(Z s).mono ?_;rintro e b⟨a,m,c,rfl,i,g,l,y,C,z⟩;have p:=Z x b C;obtain⟨Q,S,T,U,V,W⟩:b.cell? ⟨w.heap.size+1,0,none⟩=some (.int .i64 0)/\b.cell? ⟨w.heap.size+1,1,none⟩=some (.int .i64 0)/\b.cell? ⟨w.heap.size+1,2,none⟩=some (.int .i64 0)/\b.cell? ⟨w.heap.size+1,3,none⟩=some (.int .u64 0)/\b.cell? ⟨w.heap.size+1,4,none⟩=some (.string ⟨#[]⟩)/\b.cell? ⟨w.heap.size+1,5,none⟩=some (.slice none 0 0):=(by simp[World.cell?,p]);have fz:∀o,b.frozen? ⟨w.heap.size+1,o,none⟩=false:=(λo=>by simp[World.frozen?,p]);replace p:=J p;replace l:=J l;replace i:=J i);have O:=PD (Z p) (.int .i64 r.1.e) (.int .i64 r.1.at_) (.int .i64 r.1.n) (.int .u64 r.1.code) (.string (strOfNums r.1.data)) (.slice a m c);exact cA (results_cell_row results28 _ _ (w.heap.size+1) 46 _ (0,0) _ (by rfl) O underlying46 (by rfl) PE) rfl (Z K _ _ g a m c (Z i) (Z l) y C z (PC _ _ _ _ _ _) _ rfl)
def wR(key:List Int)(f:Bool)(l:List Int)(c:Nat)(bad d:Value)(e:Ending)(g:World):Prop:=
 (eC key (aS f) l/\∃a b,e=.returned (.tuple #[.int .u64 (bp l),.slice a (l.length-16) b,d])/\bF g a (l.length-16) b (dN key (aS f) (bp l) (bT l))/\∀x,a=some x->c<=x.block)\/
   (¬eC key (aS f) l/\e=.returned (.tuple #[.int .u64 0,.slice none 0 0,bad]))
theorem PF(w:World)(key:List Int)(f:Bool)(a:Option Addr)(m cap:Nat)(l:List Int)(i:dw key)(d:bF w a m cap l):
 Calls prog 135 #[.agg (cJ key),.bool f,.slice a m cap] w λe b=>wR key f l w.heap.size (.iface 34 (.int .i64 4)) .nilIface e b/\w.grownBy b none:=by
 by_cases hl:l.length<16\/300<l.length;refine(Dg key f a m cap l w d hl).mono ?_;rintro e b⟨rfl,g⟩;exact⟨.inr ⟨λh=>by have:=h.1;have:=h.2.1;omega,rfl⟩,g⟩
 refine(Dl key f a m cap l w i d (by omega) (by omega)).mono ?_;rintro e b⟨h,g⟩;refine⟨?_,g⟩
 obtain⟨c,j,k,rfl,n,p,-⟩|⟨c,rfl⟩:=h
 exact .inl ⟨c,j,k,rfl,n,p⟩;exact .inr ⟨c,rfl⟩
theorem PG(w:World)(key:List Int)(f:Bool)(a:Option Addr)(m cap:Nat)(l:List Int)(h:dw key)(k:bF w a m cap l):
 Calls prog 102 #[.agg (cJ key),.bool f,.slice a m cap] w λe i=>wR key f l w.heap.size (.iface 34 (.int .i64 4)) .nilIface e i/\w.grownBy i none:=by
 have n:=pI h;have c:=aM w (.cells (cJ key) 24);have p:=J (PF (w.alloc (.cells (cJ key) 24)) key f a m cap l h (k.ao (aH _ _ _)));generalize cJ key=K at *;replace c:=J c;go_enter func102,ntmps102;go_wp2_with (refine qK _ (by rfl) (by rfl) _ (by rfl) K ?_ n ?_;exact Z c);refine(Z p).mono ?_;rintro e u⟨⟨b,q,r,rfl,d,s⟩|⟨b,rfl⟩,j⟩
 ·have g:=J b;clear b;replace d:=J d;go_wp2_with fail;go_ret3;exact⟨.inl ⟨Z g,q,r,rfl,Z d,λx t=>(by have:=s x t;rw[dQ]at this;omega)⟩,aq (aH _ _ _) j⟩
 have g:=J b;clear b;go_wp2_with fail;go_ret3;exact⟨.inr ⟨Z g,rfl⟩,aq (aH _ _ _) j⟩
theorem Eu(w:World)(key:List Int)(f:Bool)(a:Option Addr)(m cap:Nat)(l:List Int)(B:dw key)(s:Laid w)(p:bF w a m cap l)(hl:l.length<=50000000):
 Calls prog 61 #[.agg (cJ key),.bool f,.slice a m cap] w λe C=>wR key f l w.heap.size (.int .i64 4) (.int .i64 0) e C/\w.grownBy C none:=by
 have G:=pI B;obtain⟨D,q⟩:=exq (w.alloc (.cells (cJ key) 24));have d:w.grownBy D none:=by rw[q];exact aH _ _ _
 have t:D.heap[w.heap.size]?=some (.cells (cJ key) 24 (0,0)):=by rw[q];exact aM _ _
 have H:=J (p.ao d);replace t:=J t;have I:=J (λ(a:Option Addr)(m cap:Nat)(W:World)(p:bF W a m cap l)=>PG W key f a m cap l B p);generalize cJ key=K at *;clear p;have E:=J (s.gb d (by simp));have R:=s.lt;clear s;go_enter func61,ntmps61;go_upto_region 1 with fail;rw[<-q];clear q;go_wp2_with (first|(refine zU (by rfl) _ (by rfl) _ _ _ l (by rfl) (Z H) (by omega) ?_;intro S c2 T b c;replace b:=J b)|(refine qK _ (by rfl) (by rfl) _ (by rfl) K ?_ G ?_;exact iN (Z t) c));refine(Z I _ _ _ _ (Z b).gI).mono ?_;rintro e U⟨⟨n,L,M,rfl,u,F⟩|⟨n,rfl⟩,g⟩
 ·have v:=J n;clear n;replace u:=J u;have y:=J ((Z b).ao g);go_wp2_with fail;refine(uQ _ _ _ l _ _ (Z y) (by omega)).mono ?_;rintro e z⟨rfl,h⟩;have N:=d.size;have i:=J (Z b).lt;have k:Laid z:=(((Z E).gb c (by simp)).gb g (by simp)).gb h (λe=>by have:=Z i _ e;omega);replace k:=J k;go_wp2_with fail;refine(yG _).mono ?_;rintro e O⟨rfl,r⟩;go_wp2_with fail;go_ret3;have P:=(Z u).gb h (λj e=>.inr (.inr (λx A=>by have V:=F x A;have X:=Z i _ e;have Q:=c.size;omega)));exact⟨.inl ⟨Z v,L,M,rfl,P.ao r,λx A=>(by have:=F x A;have Q:=c.size;omega)⟩,aq (cF (aq (aq d c) g) h (λj e=>.inl (by have:=Z i _ e;omega))) r⟩
 have v:=J n;clear n;have y:=J ((Z b).ao g);go_wp2_with fail;refine(uQ _ _ _ l _ _ (Z y) (by omega)).mono ?_;rintro e z⟨rfl,h⟩;have N:=d.size;have i:=J (Z b).lt;have k:Laid z:=(((Z E).gb c (by simp)).gb g (by simp)).gb h (λe=>by have:=Z i _ e;omega);replace k:=J k;go_wp2_with fail;refine(CX 4 _ (Z k)).mono ?_;rintro e O⟨rfl,r⟩;go_wp2_with fail;go_ret3;exact⟨.inr ⟨Z v,rfl⟩,aq (cF (aq (aq d c) g) h (λj e=>.inl (by have:=Z i _ e;omega))) r⟩
def bf(c n:Int):Nat:=((if c<0 then-(c+1)else c) %n).toNat
theorem eM(c:Int)(a:0<p):(bf c p:Int)<p:=by
 unfold bf;have b:=Int.emod_nonneg (if c<0 then-(c+1)else c) (show p≠0 by omega);have d:=Int.emod_lt_of_pos (if c<0 then-(c+1)else c) a;omega
theorem eU(c n:Int)(w:World)(d: -9223372036854775808<=c)(f:c<=9223372036854775807)(j:0<n)(k:n<=1000000000):
 Calls prog 23 #[.int .i64 c,.int .i64 n] w λe g=>e=.returned (.int .i64 (bf c n:Int))/\g=w:=by
 have a:∀x:Int,-9223372036854775808<=x->x<=9223372036854775807->IntKind.i64.wrap x=x:=λx d f=>by simp[IntKind.wrap,IntKind.bits,IntKind.signed];omega
 replace a:=J a;have l:(n==0)=false:=by simp;omega
 have hp:∀x:Int,(0<=x)->x.tmod n=((x %n).toNat:Int):=λx h=>by
  rw[Int.tmod_eq_emod_of_nonneg h];have:=Int.emod_nonneg x (show n≠0 by omega);omega
 replace hp:=J hp;by_cases b:c<0
 ·have i:decide (c<0)=true:=by simp[b]
  have e1:=Z a (c+1) (by omega) (by omega);have e2:=Z a (-(c+1)) (by omega) (by omega);have m:=Z a (-1+ -c) (by omega) (by omega);go_enter func23,ntmps23;go_wp2_with fail;go_ret;have hi:=Z hp (-(c+1)) (by omega);rw[Int.neg_tmod]at hi;refine⟨?_,rfl⟩
  rw[hi];unfold bf;rw[az b];rfl
 have i:decide (c<0)=false:=by simp[b]
 go_enter func23,ntmps23;go_wp2_with fail;go_ret;have hi:=Z hp c (by omega);refine⟨?_,rfl⟩
 unfold bf;rw[ah (show¬c<0 by omega)];rw[<-hi,Int.tmod_eq_emod_of_nonneg (show(0:Int)<=c by omega)];rfl
