import Derived.Test.YtjnmokmchdfchaaGreatDoorXb
import Derived.Test.YtjnmokmchdfchaaGreatDoorXc
import Derived.Test.YtjnmokmchdfchaaGreatDoorXd
set_option maxRecDepth 1000000
set_option maxHeartbeats 0
set_option linter.all false
namespace Go.Proofs.YtjnmokmchdfchaaGreatDoor
open Go.RowKit Tryz
attribute[local go_sem↓]Go.wp_at_zero Go.wp_at_succ
variable{C c:Array Value}{B:Bool}{G:Fr}{p q r t:Int}{E:It}{K L:List Int}{D:List Rg}{b i j k l m n o:Nat}{P S:Nat->Prop}{O a:Option Addr}{f:Ot}{s:Sd}{T:TypeId}{x y z:Value}{V W v w:World}{d:aX}
def zO:List Value:=[.int .u64 0,.slice none 0 0,.slice none 0 0,.int .u64 0,.bool false,.bool false,.bool false,.bool false,.int .u64 0]
def zI:List Value:=[.int .u64 0,.slice none 0 0,.slice none 0 0,.int .u64 0,.int .u64 0,.int .u64 0,.bool false,.bool false,.bool false]
def gF(aj ag:Int)(key:List Value)(first:Bool)(wait aA:Int)(last:Value):List Value:=
 [.int .i64 aj,.int .i64 ag]++key++[.bool first]++zO++zO++zO++zO++zI++zI++zI++zI++[.int .u64 0,.int .i64 0,.int .i64 wait,.slice none 0 0,.slice none 0 0,.slice none 0 0,.int .u64 0,.bool false,.int .i64 aA,last]
def lr:List Value:=[.int .u8 0,.int .u8 0,.int .u8 0,.int .u8 0,.int .u8 0,.int .u8 0,.int .u8 0,.int .u8 0,.int .u8 0,.int .u8 0,.int .u8 0,.int .u8 0,.int .u8 0,.int .u8 0,.int .u8 0,.int .u8 0]
def wQ(aA:Int)(last:Value):(zeroCells241.setIfInBounds 99 (.int .i64 aA)).setIfInBounds 100 last=(gF 0 0 lr false 0 aA last).toArray:=by kernel_rfl
def Lf:(prog.info? 241).map (·.size)=some 101:=by kernel_rfl
structure jn(w:World)(b sb:Nat)(aA:Int)(last:Value)(a:List El):Prop where
 aP:w.heap[sb]?=some (.cells (gF 0 0 lr false 0 aA last).toArray 241 (0,0))
 own:eX w b last a
 at_:ig w b a
 nl:last.ownBlock≠some sb
 ne:∀e∈a,e.1≠sb
 s5:∀e∈a,last.ownBlock≠some e.1
def cz(code:Int):Fr:=⟨6,0,0,code,false,⟨#[]⟩,[]⟩
def Sd.gN(s:Sd)(aA code:Int):List (List Int):=if aA=10 then[]else[cK s.key (aT s.first) s.count (bp [cz code])]
def wR(w:World)(sb:Nat)(v:aX)(aA:Int)(l:List (List Int))(e:Ending)(a:World):Prop:=
 e=.returned (.tuple #[])/\∃last b,jn a w.heap.size sb aA last b/\b.map (·.2)=l/\ao w a (cq sb v)
def zl(aj ag:Int)(key:List Value)(first:Bool)(wait aA:Int)(last:Value)(a:key.length=16):(gF aj ag key first wait aA last).length=101:=by simp[gF,zO,zI,a]
theorem Dc(wait aA:Int)(a:Option Addr)(n c:Nat):((gF 0 0 lr false wait aA (.slice a n c)).toArray).all (·.oneCell')=true:=by
 refine all_oneCell_toArray (λv b=>?_);simp only[gF,zO,zI,lr,bQ,fF,qX,py]at b;obtain(((((((((((b|b)|b)|b)|b)|b)|b)|b)|b)|b)|b)|b):=b<;>(repeat' (obtain rfl|b:=b))<;>first|rfl|(subst b;rfl)
def Lg(w:World)(a:0<=p/\p<=4611686018427387903):dA w (cz p) (.slice none 0 0)/\cT (cz p)/\fT [cz p]<=30000000:=by
 refine⟨⟨⟨by simp[dq,cz],by simp[dq,cz],by simp[aS,cz],by simp only[cz];unfold aS;omega,by simp[cz]⟩,by simp[cz,ByteArray.size],none,0,rfl,⟨by simp[cz],rfl,aR _,by simp[maxLen],.inl rfl⟩⟩,⟨⟨by simp[cz],by simp only[cz];omega,by simp[cz],by simp[cz]⟩,⟨λe=>by simp[cz]at e,λe=>by simp[cz]at e⟩,by simp[cz],by simp[cz]⟩,?_⟩
 simp[fT,lS,cz,ByteArray.size]
def Lh(cells:Array Value):w.grownBy (w.setRow n cells) (some n):=
 (show ao w (w.setRow n cells) (λk=>k=n)from⟨rfl,rfl,rfl,by simp,λk _ a=>setRow_other w n k cells a⟩).gb (λk _ e=>by rw[e])
def Dd{p v:aX}{x:Ak}{f:List El}(b:iC w i l p v x y a n o W C f)(aA:Int)(u:y=.slice O m k):jn (W.setRow l (gF 0 0 lr false 0 aA y).toArray) w.heap.size l aA y f/\ao w (W.setRow l (gF 0 0 lr false 0 aA y).toArray) (cq l p):=by
 have g:=Lh (w:=W) (n:=l) (gF 0 0 lr false 0 aA y).toArray;have q:∀j,y.ownBlock=some j->j≠l:=λj e e2=>b.ls.a5 j e (.inl (.inl e2))
 have r:∀e∈f,e.1≠l:=λe h e2=>b.ls.ae e h (.inl (.inl e2))
 have c:ao W (W.setRow l (gF 0 0 lr false 0 aA y).toArray) (λd=>d=l):=(ao.of g).mono (λd _ e=>(aQ e).symm);refine⟨⟨setRow_heap W l C _ _ _ b.side.aP,b.ls.own.av c (λj e e2=>q j e e2),b.ls.at_.av c (λe h e2=>r e h e2),λe=>q l e rfl,r,b.ls.s5⟩,?_⟩
 refine⟨c.os.trans b.dS.av.os,c.tape.trans b.dS.av.tape,c.output.trans b.dS.av.output,bD b.dS.av.size c.size,λd s t=>?_⟩
 rw[c.block d (bX s b.dS.av.size) (λe=>t (.inl e))];exact b.dS.av.block d s t
def De(w:World)(k sb:Nat)(cs:Array Value)(v:aX)(s:Sd)(H:bC w k sb cs v s)(b3:dD s.key)(ej:0<=s.count/\s.count<=4611686018427387000)(aA code:Int)(hc:0<=code/\code<=4611686018427387903):
 Calls prog 168 #[.pointer (some ⟨sb,0,none⟩),.int .i64 aA,.int .u64 code] w (wR w sb v aA (s.gN aA code)):=by
 obtain⟨R,D⟩:=exq (λq:World=>∃last b4,jn q w.heap.size sb aA last b4/\b4.map (·.2)=s.gN aA code/\ao w q (cq sb v));have b5:wR w sb v aA (s.gN aA code)=λe q=>e=.returned (.tuple #[])/\R q:=by rw[D];rfl
 rw[b5];clear b5;replace D:=J D;have t:iC w k sb v v ⟨s,[],[]⟩ (.slice none 0 0) none 0 0 w cs []:=⟨H,dh.rfl' _ _ _ _,fJ.nil _ _ _ _,rfl,⟨λr h=>(by cases h),rfl,aR _,by simp[maxLen],.inl rfl⟩,λh=>absurd rfl h⟩
 have u:=Lf;have cy:=H.bu.iw;by_cases l:aA=10
 ·have d:Hid (R (w.setRow sb (gF 0 0 lr false 0 aA (.slice none 0 0)).toArray)):=J (by
   rw[Z D];obtain⟨h1,h2⟩:=Dd t aA rfl;exact⟨_,[],h1,by unfold Sd.gN;rw[aD l];rfl,h2⟩)
  have f:=zl 0 0 lr false 0 aA (.slice none 0 0) rfl;have i:=Dc 0 aA none 0 0;have e1:(aA !=10)=false:=by rw[l];rfl
  have aC:=H.aP;have a0:=H.sz;replace⟨t,H⟩:=bA t H;rw[<-wQ]at d i;have a1:((zeroCells241.setIfInBounds 99 (.int .i64 aA)).setIfInBounds 100 (.slice none 0 0)).size=101:=by rw[wQ];simp[f]
  replace⟨aC,a0⟩:=bA aC a0;replace f:=J a1;replace⟨i,u,l⟩:=cg i u l;go_enter func168,ntmps168;go_wp2_with (refine wpList_store_row (by rfl) 241 _ _ (by rfl) sb _ (by rfl) (by rfl) 241 cs (Z aC) (by rw[Z u,Z f]) (by rw[Z a0,Z f]) (Z i) ?_);first|exact Z d|exact⟨rfl,Z d⟩|exact fm (eF rfl _ _ _) rfl ⟨rfl,Z d⟩
 have e1:(aA !=10)=true:=by simpa using l
 obtain⟨E,K⟩:=exq (w.alloc (.cells #[.int .i64 6,.int .i64 0,.int .u64 0,.int .u64 code,.bool false,.string ⟨#[]⟩,.slice none 0 0] 158));have g5:w.grownBy E none:=by rw[K];exact aH _ _ _
 obtain⟨F,hF⟩:=exq w.heap.size;have a2:E.heap[F]?=some (.cells #[.int .i64 6,.int .i64 0,.int .u64 0,.int .u64 code,.bool false,.string ⟨#[]⟩,.slice none 0 0] 158 (0,0)):=by rw[K,hF];exact aO _ _
 have a3:=t.gb g5;have cA:F≠sb:=by omega
 have k0:∀W:World,W.heap[F]?=some (.cells #[.int .i64 6,.int .i64 0,.int .u64 0,.int .u64 code,.bool false,.string ⟨#[]⟩,.slice none 0 0] 158 (0,0))->W.cell? ⟨F,0,none⟩=some (.int .i64 6):=λW h=>(cM h).1
 have k1:∀W:World,W.heap[F]?=some (.cells #[.int .i64 6,.int .i64 0,.int .u64 0,.int .u64 code,.bool false,.string ⟨#[]⟩,.slice none 0 0] 158 (0,0))->W.cell? ⟨F,1,none⟩=some (.int .i64 0):=λW h=>(cM h).2.1
 have k2:∀W:World,W.heap[F]?=some (.cells #[.int .i64 6,.int .i64 0,.int .u64 0,.int .u64 code,.bool false,.string ⟨#[]⟩,.slice none 0 0] 158 (0,0))->W.cell? ⟨F,2,none⟩=some (.int .u64 0):=λW h=>(cM h).2.2.1
 have k3:∀W:World,W.heap[F]?=some (.cells #[.int .i64 6,.int .i64 0,.int .u64 0,.int .u64 code,.bool false,.string ⟨#[]⟩,.slice none 0 0] 158 (0,0))->W.cell? ⟨F,3,none⟩=some (.int .u64 code):=λW h=>(cM h).2.2.2.1
 have k4:∀W:World,W.heap[F]?=some (.cells #[.int .i64 6,.int .i64 0,.int .u64 0,.int .u64 code,.bool false,.string ⟨#[]⟩,.slice none 0 0] 158 (0,0))->W.cell? ⟨F,4,none⟩=some (.bool false):=λW h=>(cM h).2.2.2.2.1
 have k5:∀W:World,W.heap[F]?=some (.cells #[.int .i64 6,.int .i64 0,.int .u64 0,.int .u64 code,.bool false,.string ⟨#[]⟩,.slice none 0 0] 158 (0,0))->W.cell? ⟨F,5,none⟩=some (.string ⟨#[]⟩):=λW h=>(cM h).2.2.2.2.2.1
 have k6:∀W:World,W.heap[F]?=some (.cells #[.int .i64 6,.int .i64 0,.int .u64 0,.int .u64 code,.bool false,.string ⟨#[]⟩,.slice none 0 0] 158 (0,0))->W.cell? ⟨F,6,none⟩=some (.slice none 0 0):=λW h=>(cM h).2.2.2.2.2.2
 have b7:=J (C9 E.drew k sb cs v s (H.an (aV g5)) (by omega));have b8:=J (λb G(L:bC b k sb G v {s with count:=s.count+1})(g:E.drew.grownBy b (some sb))=>(a3.gb (aV (aB _ none))).num cy L g);have M:=λb=>Lg b hc
 have N:=J (λb=>yU b (cz code) (.slice none 0 0) (M b).1 (M b).2.1 (M b).2.2);have a4:(bp [cz code]).length<=1000:=by
  have e:bp [cz code]=28::aU code:=by simp[bp,df,cz]
  rw[e,dc];have:=(gQ code).2;omega
 have a8:=J (λb m G(p:iC w k sb v v ⟨{s with count:=s.count+1},[],[]⟩ (.slice none 0 0) none 0 0 b G [])(j:b.grownBy m none)(a7:Option Addr)(n7 c7:Nat)(x:bn m b.heap.size (.slice a7 n7 c7) (bp [cz code]))=>zj m sb s.key s.first b3 ((p.side.an j).qL b3) ((ba (p.side.an j).aP _).trans (p.side.an j).iy) s.count (by unfold aS;omega) a7 n7 c7 _ x.gT);have bb:=J (λb m O G(p:iC w k sb v v ⟨{s with count:=s.count+1},[],[]⟩ (.slice none 0 0) none 0 0 b G [])(j:b.grownBy m none)(P:m.grownBy O none)(g:Nat)(Q:m.heap.size<=g)(S:O.heap[g]?=some (.cells (bv (cK s.key (aT s.first) s.count (bp [cz code]))).toArray 5 (0,0)))(de:∀y∈bp [cz code],W8 y)=>Da p j P Q S de (by simp));have bj:=J (λ(W:World)(a:Option Addr)(n c:Nat)(hN:wL w k sb v v ⟨{s with count:=s.count+1},[],[]++[cK s.key (aT s.first) s.count (bp [cz code])]⟩ none 0 0 (.slice a n c) W)=>(show(∃T,W.heap[sb]?=some (.cells T 241 (0,0))/\T.size=101)/\R (W.setRow sb (gF 0 0 lr false 0 aA (.slice a n c)).toArray) by
  obtain⟨T,dk,U⟩:=hN;refine⟨⟨T,U.side.aP,U.side.sz⟩,?_⟩
  rw[Z D];obtain⟨h1,h2⟩:=Dd U aA rfl;exact⟨_,dk,h1,by unfold Sd.gN;rw[az l];exact U.el,h2⟩))
 obtain⟨B,hB⟩:=exq (bp [cz code]);rw[<-hB]at N a8 bb bj a4;have ca:bO (cz code) (.slice none 0 0)= #[.int .i64 6,.int .i64 0,.int .u64 0,.int .u64 code,.bool false,.string ⟨#[]⟩,.slice none 0 0]:=rfl;rw[ca]at N;clear ca M;have dn:(Value.slice none 0 0).ownBlock≠some F:=λe=>by cases e
 obtain⟨V,X⟩:∃V:Value->World->Prop,V=λch W=>∃a' n' c',ch=.slice a' n' c'/\wL w k sb v v ⟨{s with count:=s.count+1},[],[]++[cK s.key (aT s.first) s.count B]⟩ none 0 0 ch W:=⟨_,rfl⟩
 have Y:E.drew.heap[F]?=some (.cells #[.int .i64 6,.int .i64 0,.int .u64 0,.int .u64 code,.bool false,.string ⟨#[]⟩,.slice none 0 0] 158 (0,0)):=a2;replace⟨a2,X,hB,a3,t,H,l,u,a4⟩:=pT a2 X hB a3 t H l u a4;go_enter func168,ntmps168;go_upto_region 3 with fail;rw[<-K,<-hF];clear K hF;go_cut [6] (λv6 wx=>V v6 wx);case first=>
  go_region_held3 (λq=>q.heap[F]?=some (.cells #[.int .i64 6,.int .i64 0,.int .u64 0,.int .u64 code,.bool false,.string ⟨#[]⟩,.slice none 0 0] 158 (0,0)))
   (with_reducible first|exact dG|exact bt|exact cj|exact cp|exact cv|exact Y)
   (first
     |(go_at_call 205;apply(Z b7).mono;rintro e b⟨rfl,g6,L⟩;have p:=J (Z b8 _ _ L g6);have cv:=(g6.block F (aZ.1 Y).1 (λe=>cA (aQ e))).trans Y;clear L)
     |(go_at_call 206;apply(Z N _).mono;rintro e m⟨⟨a7,n7,c7,rfl,x⟩,j⟩;have cp:=bB cv j;have bx:=x.1;replace x:=J x;replace bx:=J bx)
     |(go_at_call 204;apply(Z a8 _ _ _ (Z p) j _ _ _ (Z x)).mono;rintro e O⟨g,rfl,Q,S,P⟩;have cj:=bB cp P;obtain⟨z,A,C,w9,bz,I,g9⟩:=Z bb _ _ _ _ (Z p) j P g Q S (Z bx);have bt:=bB cj (aH O (.cells #[.slice (some ⟨g,0,none⟩) (B.length+16) (B.length+16)] 112) none);have dG:=(g9.block F (aZ.1 bt).1 (λe=>dn e.symm)).trans bt;have eg:Hid (V (.slice z A C) w9):=J (by rw[Z X];exact⟨z,A,C,rfl,I⟩);clear S Q I;replace bz:=J bz)
     |(refine yS (by rfl) 206 206 (by rfl) _ _ (by rfl) _ _ _ (by rfl) (by rfl) (Z bz) ?_))
  all_goals go_wp2_with fail
  all_goals go_meet
  all_goals exact Z eg
 case rest=>
  rw[Z X]at hcut;obtain⟨z,A,C,rfl,I⟩:=hcut;obtain⟨⟨ei,bM,b0⟩,d⟩:=Z bj _ _ _ _ I;have f:=zl 0 0 lr false 0 aA (.slice z A C) rfl;have i:=Dc 0 aA z A C;rw[<-wQ]at d i;have a1:((zeroCells241.setIfInBounds 99 (.int .i64 aA)).setIfInBounds 100 (.slice z A C)).size=101:=by rw[wQ];simp[f]
  replace⟨bM,b0⟩:=bA bM b0;replace f:=J a1;replace⟨i,d⟩:=bA i d;clear I b7 b8 N a8 bb bj k0 k1 k2 k3 k4 k5 k6 Y;go_wp2_with (refine wpList_store_row (by rfl) 241 _ _ (by rfl) sb _ (by rfl) (by rfl) 241 ei (Z bM) (by rw[Z u,Z f]) (by rw[Z b0,Z f]) (Z i) ?_);first|exact Z d|exact⟨rfl,Z d⟩|exact fm (eF rfl _ _ _) rfl ⟨rfl,Z d⟩
def jo(w:World)(sb:Nat)(v:aX)(aA:Int)(l:List (List Int))(a:World):Prop:=∃last b,jn a w.heap.size sb aA last b/\b.map (·.2)=l/\ao w a (cq sb v)
def jn.low{b2:Nat}{a:List El}(h:jn w n k p x a)(b:b2<=n):jn w b2 k p x a:=
 ⟨h.aP,h.own.low b,⟨λe c=>⟨bD b (h.at_.at_ e c).1,(h.at_.at_ e c).2⟩,h.at_.sep⟩,h.nl,h.ne,h.s5⟩
def jo.pre{l:List (List Int)}(g:w.grownBy W none)(h:jo W n d p l V):jo w n d p l V:=by
 obtain⟨last,a,b,c,f⟩:=h;refine⟨last,a,b.low g.size,c,?_⟩
 exact((ao.of g).trans f).mono (λk _ e=>e.elim (λe=>by cases e) id)
def DJ(w:World)(l sb:Nat)(cs:Array Value)(v:aX)(s:Sd)(H:bC w l sb cs v s)(r:dD s.key)(u:0<=s.count/\s.count<=4611686018427387000)(m:Laid w)(err:Value)(n:Int)(D:0<=n/\n<=1000)
 (p:∀(W:World)(t:Addr),w.grownBy W none->Laid W->W.cell? t=some (.int .i64 0)->W.frozen? t=false->Calls prog 73 #[err,.iface 183 (.pointer (some t))] W (λev b=>ev=.returned (.bool true)/\b.cell? t=some (.int .i64 n)/\W.grownBy b (some t.block))):
 Calls prog 161 #[.pointer (some ⟨sb,0,none⟩),err] w λe b=>e=.returned err/\jo w sb v n (s.gN n n) b:=by
 obtain⟨R,d⟩:=exq (jo w sb v n (s.gN n n));rw[<-d];replace d:=J d;obtain⟨c,f⟩:=exq (w.alloc (.cells #[.int .i64 0] 34));have i:w.grownBy c none:=by rw[f];exact aH _ _ _
 have j:c.heap[w.heap.size]?=some (.cells #[.int .i64 0] 34 (0,0)):=by rw[f];exact aO _ _
 have c1:c.cell? ⟨w.heap.size,0,none⟩=some (.int .i64 0)/\c.frozen? ⟨w.heap.size,0,none⟩=false:=by simp[World.cell?,World.frozen?,j]
 have x:=J (p c ⟨w.heap.size,0,none⟩ i (m.gb i) c1.1 c1.2);have y:∀a,c.grownBy a (some w.heap.size)->w.grownBy a none:=λa g=>pB (aq (dd i _) g) (aR _)
 have z:=J (λa(g:w.grownBy a none)=>De a l sb cs v s (H.an g) r u n n (by omega));have E:IntKind.u64.wrap n=n:=by rw[fD];omega
 have A:=J (λa b(g:w.grownBy a none)(h:wR a sb v n (s.gN n n) (.returned (.tuple #[])) b)=>(show R b by rw[Z d];exact jo.pre g h.2));replace⟨j,H⟩:=bA j H;clear p c1 m;go_enter func161,ntmps161;go_upto_region 2 with fail;rw[<-f];clear f;go_wp2_with fail;apply(Z x).mono;rintro e a⟨rfl,c2,B⟩;have q:=y a B;go_wp2_with fail;apply(Z z _ q).mono;rintro e F k;obtain rfl:=k.1;have C:=J (Z A _ _ q k);clear k;go_wp2;go_ret;exact⟨rfl,Z C⟩
def LN(w:World)(a sb:Nat)(cs:Array Value)(v:aX)(s:Sd)(H:bC w a sb cs v s)(b:dD s.key)(c:0<=s.count/\s.count<=4611686018427387000)(d:Laid w)(n:Int)(f:0<=n/\n<=1000):
 Calls prog 161 #[.pointer (some ⟨sb,0,none⟩),.iface 34 (.int .i64 n)] w λe g=>e=.returned (.iface 34 (.int .i64 n))/\jo w sb v n (s.gN n n) g:=
 DJ w a sb cs v s H b c d _ n f (λW t _ hl h0 h=>DC n t _ W hl h0 h)
def LO(w:World)(a sb F:Nat)(cs:Array Value)(v:aX)(s:Sd)(H:bC w a sb cs v s)(b:dD s.key)(c:0<=s.count/\s.count<=4611686018427387000)(d:Laid w)(n:Int)(f:0<=n/\n<=1000)(hF:w.cell? ⟨F,0,none⟩=some (.int .i64 n)):
 Calls prog 161 #[.pointer (some ⟨sb,0,none⟩),.iface 177 (.pointer (some ⟨F,0,none⟩))] w λe h=>e=.returned (.iface 177 (.pointer (some ⟨F,0,none⟩)))/\jo w sb v n (s.gN n n) h:=
 DJ w a sb cs v s H b c d _ n f (λW t g hl h0 i=>LM F n t _ W hl (gC_ g hF) h0 i)
def LQ(w:World)(sb:Nat)(aA code:Int)(dC:w.cell? ⟨sb,99,none⟩=some (.int .i64 aA))(h:aA≠0):Calls prog 133 #[.pointer (some ⟨sb,0,none⟩),.int .u64 code] w λr b=>r=.returned (bJ 9)/\w.grownBy b none:=by
 have a:=J (om w sb aA dC);rw[dO h]at a;go_enter func133,ntmps133;go_wp2_with fail;apply(Z a).mono;rintro e d⟨rfl,c⟩;go_wp2;go_ret;exact⟨rfl,c⟩
def LR(w:World)(sb:Nat)(code:Int)(dC:w.cell? ⟨sb,99,none⟩=some (.int .i64 0))(h:4611686018427387903<code):Calls prog 133 #[.pointer (some ⟨sb,0,none⟩),.int .u64 code] w λr b=>r=.returned (bJ 3)/\w.grownBy b none:=by
 have a:=J (om w sb 0 dC);simp only[ne_eq,vp,tD]at a;have d1:decide (code>4611686018427387903)=true:=dO h;go_enter func133,ntmps133;go_wp2_with fail;apply(Z a).mono;rintro e d⟨rfl,c⟩;go_wp2;go_ret;exact⟨rfl,c⟩
def LS(w:World)(f sb:Nat)(cs:Array Value)(v:aX)(s:Sd)(H:bC w f sb cs v s)(k:dD s.key)(l:0<=s.count/\s.count<=4611686018427387000)(code:Int)(m:0<=code/\code<=4611686018427387903):Calls prog 133 #[.pointer (some ⟨sb,0,none⟩),.int .u64 code] w λr b=>r=.returned .nilIface/\jo w sb v 9 (s.gN 9 code) b:=by
 obtain⟨R,c⟩:=exq (jo w sb v 9 (s.gN 9 code));rw[<-c];replace c:=J c;have i:=J (om w sb 0 H.kF);simp only[ne_eq,vp,tD]at i;have d1:decide (code>4611686018427387903)=false:=dF_;have n:=J (λa(g:w.grownBy a none)=>De a f sb cs v s (H.an g) k l 9 code m);have p:=J (λa b(g:w.grownBy a none)(h:wR a sb v 9 (s.gN 9 code) (.returned (.tuple #[])) b)=>(show R b by rw[Z c];exact jo.pre g h.2));replace H:=J H;go_enter func133,ntmps133;go_wp2_with fail;apply(Z i).mono;rintro e t⟨rfl,j⟩;go_wp2_with fail;apply(Z n _ j).mono;rintro e u d;obtain rfl:=d.1;have q:=J (Z p _ _ j d);clear d;go_wp2;go_ret;exact⟨rfl,Z q⟩
def DK(w:World)(sb:Nat)(aA:Int)(dC:w.cell? ⟨sb,99,none⟩=some (.int .i64 aA)):Calls prog 103 #[.pointer (some ⟨sb,0,none⟩)] w λr a=>r=.returned (bJ aA)/\w.grownBy a none:=by
 by_cases h:aA=0
 ·subst h;go_enter func103,ntmps103;go_wp2;go_ret;exact⟨rfl,aB _ _⟩
 have e1:(aA==0)=false:=by simpa using h
 have e2:bJ aA=.iface 34 (.int .i64 aA):=by unfold bJ;rw[az h]
 rw[e2];go_enter func103,ntmps103;go_wp2;go_ret;exact⟨rfl,aB _ _⟩
def DL(aA:Int)(last:Value):(gF 0 0 lr false 0 aA last).toArray[99]?=some (.int .i64 aA)/\(gF 0 0 lr false 0 aA last).toArray[100]?=some last:=⟨rfl,rfl⟩
def LU(aA:Int)(last a:Value):((gF 0 0 lr false 0 aA last).toArray).setIfInBounds 100 a=(gF 0 0 lr false 0 aA a).toArray:=by kernel_rfl
def jn.dC{a:List El}(h:jn w n k p x a):w.cell? ⟨k,99,none⟩=some (.int .i64 p):=(ba h.aP _).trans (DL p x).1
def jn.an{a:List El}(h:jn w n k p x a)(g:w.grownBy W none):jn W n k p x a:=
 ⟨bB h.aP g,h.own.an g,h.at_.an g,h.nl,h.ne,h.s5⟩
def sP(sb:Nat)(last:Value)(a:List El)(k:Nat):Prop:=k=sb\/last.ownBlock=some k\/∃e∈a,e.1=k
def jn.other{a:List El}(h:jn w n i p x a)(C:ao w W S)(b:∀k,k<w.heap.size->S k->¬sP i x a k):jn W n i p x a:=by
 have c:=(aZ.1 h.aP).1;exact⟨(C.block i c (λe=>b i c e (.inl rfl))).trans h.aP,h.own.av C (λj e e2=>b j (h.own.lt j e).2 e2 (.inr (.inl e))),h.at_.av C (λe d e2=>b _ (h.at_.lt d) e2 (.inr (.inr ⟨e,d,rfl⟩))),h.nl,h.ne,h.s5⟩
def qM(w:World)(d sb:Nat)(aA:Int)(f:List El)(e:Ending)(b:World):Prop:=
 ∃a n c,e=.returned (.slice a n c)/\jn b d sb aA (.slice none 0 0) []/\eX b d (.slice a n c) f/\ig b d f/\(Value.slice a n c).ownBlock≠some sb/\(∀e∈f,e.1≠sb/\(Value.slice a n c).ownBlock≠some e.1)/\w.grownBy b (some sb)
def LV(w:World)(i sb:Nat)(aA:Int)(last:Value)(d:List El)(h:jn w i sb aA last d):Calls prog 157 #[.pointer (some ⟨sb,0,none⟩)] w (qM w i sb aA d):=by
 obtain⟨R,f⟩:=exq (qM w i sb aA d);rw[<-f];replace f:=J f;obtain⟨a,c,rfl,-⟩:=h.own.gK;have pQ:=(ba h.aP _).trans (DL aA (.slice a d.length c)).2;have f100:w.frozen? ⟨sb,100,none⟩=false:=by simp[World.frozen?,h.aP]
 have g:=aK (aB w (some sb)) ⟨sb,100,none⟩ (.slice none 0 0) (.inr rfl);have k:Hid (R (.returned (.slice a d.length c)) (w.setCell ⟨sb,100,none⟩ (.slice none 0 0))):=J (by
  rw[Z f];refine⟨a,_,c,rfl,⟨?_,eX.nil _ _,ig.nil _ _,λe=>(by cases e),λe b=>(by cases b),λe b=>(by cases b)⟩,h.own.av (ao.of g) (λj e e2=>h.nl (by rw[e];exact e2.symm)),h.at_.av (ao.of g) (λe b e2=>h.ne e b (aQ e2).symm),h.nl,λe b=>⟨h.ne e b,h.s5 e b⟩,g⟩
  rw[<-LU aA (.slice a d.length c)];exact heap_set h.aP _)
 replace h:=J h;clear g;go_enter func157,ntmps157;go_wp2_with fail;exact Z k
def qM.pre{b:List El}{e:Ending}(g:w.grownBy W none)(h:qM W k i p b e v):qM w k i p b e v:=by
 obtain⟨a,n,c,d,f,j,l,m,q,r⟩:=h;exact⟨a,n,c,d,f,j,l,m,q,aq (dd g _) r⟩
def LW(w:World)(d sb:Nat)(aA:Int)(last:Value)(f:List El)(h:jn w d sb aA last f)(k:aA≠0):Calls prog 130 #[.pointer (some ⟨sb,0,none⟩)] w (qM w d sb aA f):=by
 obtain⟨R,i⟩:=exq (qM w d sb aA f);rw[<-i];have j:=J (om w sb aA h.dC);rw[dO k]at j;have l:=J (λW(g:w.grownBy W none)=>(LV W d sb aA last f (h.an g)).mono (λe m p=>(show∃a n c,e=.returned (.slice a n c)/\R e m by
  have b:=qM.pre g p;obtain⟨a,n,c,q,-⟩:=id b;exact⟨a,n,c,q,by rw[i];exact b⟩)))
 replace⟨i,h⟩:=bA i h;go_enter func130,ntmps130;go_wp2_with fail;apply(Z j).mono;rintro e s⟨rfl,r⟩;go_wp2_with fail;apply(Z l _ r).mono;rintro e t⟨a,n,c,rfl,b⟩;replace b:=J b;go_wp2_with fail;exact Z b
def MP(b:List Int):∀(k p:Nat)(c d:List Fr),iH b k p c=(some d,-1)->(∀f∈c,cT f)->∀f∈d,cT f:=by
 intro k;induction k with
 |zero=>intro p c d h;simp[iH]at h
 |succ k l=>
  intro p c d h i;unfold iH at h;split at h;split at h;simp at h;rename_i f q a;refine l q (c++[f]) d h (λg e=>?_);obtain e|e:=bQ.1 e
  exact i g e;rw[cL.1 e];unfold nh at a;cases j:fM b (b.getD p 0) (p+1)with
  |none=>rw[j]at a;cases a
  |some x=>
   rw[j]at a;simp only[fk]at a;split at a;rename_i hs;simp only[mn]at a;rw[a]at hs;exact hs;cases a
  simp only[qZ,mn]at h;rw[<-h.1];exact i
def xd{a:List Fr}(h:fN L=(some a,-1)):∀f∈a,cT f:=by
 unfold fN at h;split at h;simp at h;exact MP L _ _ _ _ h (λf b=>(by cases b))
structure ik(ag:Int)(i:It):Prop where
 ok:bl i.h.af
 fr:0<=i.h.fr
 kY:∀m,Sm i.h.af m->0<=m/\m<i.h.fr+ag
 lK:∀m,Sm i.h.af m->m<i.h.fr+i.h.bytes.length
 low:i.given=false->∀m,0<=m->m<i.h.fr->Sm i.h.af m
 len:(i.h.bytes.length:Int)<=ag
 en:i.h.fr+i.h.bytes.length<=4611686018427387903
 sU:i.given=true->i.h.af=[]/\i.h.bytes=[]
def ik.cl(h:ik p E)(k:p<=1024):E.h.af.length<=1026:=by
 cases a:E.h.af with
 |nil=>simp
 |cons r l=>
  have b:=h.ok;rw[a]at b;by_cases d:E.given=false;have c:=b.tail.BM E.h.fr (E.h.fr+p) (λm e=>by
   have i:=h.kY m (by rw[a];exact(eB r l m).2 (.inr e));refine⟨?_,i.2⟩
   by_cases n:m<E.h.fr;exfalso;have q:=b.behind e;have j:=b.2 r (by simp);have h0:=(h.kY r.lo (by rw[a];exact(eB r l r.lo).2 (.inl ⟨cS _,j⟩))).1;have f:=h.low d r.hi (by omega) (by omega);rw[a]at f;obtain g|g:=(eB r l r.hi).1 f
   omega;have:=b.behind g;omega
   ·omega)
  simp only[dc]
  omega;have c:=(h.sU (by simpa using d)).1;rw[a]at c;cases c
def ik.nice(h:ik p E)(a:p<=1024):E.h.nice:=by
 have b:=h.len;have c:=h.cl a;exact⟨h.fr,h.en,h.ok,by omega,by omega⟩
def MQ(M:List Rg):∀b:List Int,(∀x∈M,p<=x.lo/\q<=x.lo/\x.lo<=x.hi/\x.hi<=q+L.length)->b.length<=(gY p q L M b).length/\(∀x∈M,(x.hi-p).toNat<=(gY p q L M b).length)/\∀N:Nat,b.length<=N->(∀x∈M,(x.hi-p).toNat<=N)->(gY p q L M b).length<=N:=by
 induction M with
 |nil=>exact λb _=>⟨aR _,λx c=>(by cases c),λN h _=>h⟩
 |cons x M f=>
  intro b h;have c:=h x (by simp);have hl:=Ba (L:=L) (K:=b) c.1 c.2.1 c.2.2.1 c.2.2.2;obtain⟨j,g,i⟩:=f (lY p q L b x) (λy a=>h y (by simp[a]));have e:gY p q L (x::M) b=gY p q L M (lY p q L b x):=rfl;rw[e];refine⟨by omega,λy a=>?_,λN k d=>?_⟩
  obtain rfl|a:=fF.1 a
  omega;exact g y a;have l:=d x (by simp);exact i N (by omega) (λy a=>d y (by simp[a]))
def MR(h:ik p E)(c:E.given=false)(ho:0<=q){x:Rg}(a:x∈ju E.h.af ⟨q,r⟩):E.h.fr<=x.lo/\q<=x.lo/\x.lo<=x.hi/\x.hi<=r:=by
 have d:=tU E.h.af ⟨q,r⟩;have e:=d.2 x a;have b:=(qC E.h.af ⟨q,r⟩ x.lo).1 ⟨x,a,cS _,e⟩;have f:=(qC E.h.af ⟨q,r⟩ (x.hi-1)).1 ⟨x,a,by omega,by omega⟩;simp only at b f;refine⟨?_,by omega,by omega,by omega⟩
 by_cases hl:x.lo<E.h.fr;exact absurd (h.low c x.lo (by omega) hl) b.2;omega
def ik.data(h:ik p E)(f:Fr)(ho:0<=f.offset)(r:aW f<=4611686018427387903)(j:E.given=false->aW f<=E.h.fr+p):ik p (E.data f):=by
 have s:((aG f.data).length:Int)=f.data.size:=by rw[fH]
 cases b:E.given;have g:∀x∈ju E.h.af ⟨f.offset,aW f⟩,E.h.fr<=x.lo/\f.offset<=x.lo/\x.lo<=x.hi/\x.hi<=f.offset+(aG f.data).length:=λx c=>by
  have:=MR h b ho c;unfold aW at this;omega
 obtain⟨t,l,n⟩:=MQ (p:=E.h.fr) (q:=f.offset) (L:=aG f.data) (ju E.h.af ⟨f.offset,aW f⟩) E.h.bytes g;have e:E.data f={E with high:=max E.high (aW f),ended:=E.ended||f.fin,last:=if f.fin then aW f else E.last,h:=⟨E.h.fr,gY E.h.fr f.offset (aG f.data) (ju E.h.af ⟨f.offset,aW f⟩) E.h.bytes,dB E.h.af ⟨f.offset,aW f⟩⟩}:=by
  unfold It.data;rw[b];rfl
 rw[e];have q:=h.fr;have j:=j b;have u:(gY E.h.fr f.offset (aG f.data) (ju E.h.af ⟨f.offset,aW f⟩) E.h.bytes).length<=max E.h.bytes.length (aW f-E.h.fr).toNat:=n _ (by omega) (λx c=>by have:=g x c;unfold aW;omega);have v:=h.len;have w:=h.en;refine⟨nj _ h.ok,q,λm i=>?_,λm i=>?_,λ_ m h0 a=>(jM _ h.ok m).2 (.inl (h.low b m h0 a)),by simp only;omega,by simp only;omega,λe=>by simp only at e;rw[b]at e;cases e⟩
 obtain a|a:=(jM _ h.ok m).1 i
 exact h.kY m a;simp only at a⊢;omega;simp only
 obtain a|a:=(jM _ h.ok m).1 i
 have:=h.lK m a;omega;by_cases k:Sm E.h.af m;have:=h.lK m k;omega;obtain⟨x,c,y,z⟩:=(qC E.h.af ⟨f.offset,aW f⟩ m).2 ⟨a,k⟩;have:=l x c;have:=g x c;omega;have e:(E.data f).h=E.h/\(E.data f).given=E.given:=by unfold It.data;rw[b];exact⟨rfl,rfl⟩
 refine⟨by rw[e.1];exact h.ok,by rw[e.1];exact h.fr,by rw[e.1];exact h.kY,by rw[e.1];exact h.lK,λe2=>(by rw[e.2,b]at e2;cases e2),by rw[e.1];exact h.len,by rw[e.1];exact h.en,λ_=>by rw[e.1];exact h.sU b⟩
def ik.reset(h:ik p E)(f:Fr):ik p (E.reset f):=by
 have c:=h.len;have d:=h.en;cases b:E.given;have e:(E.reset f).h=⟨E.h.fr,[],[]⟩/\(E.reset f).given=true:=by unfold It.reset;rw[b];exact⟨rfl,rfl⟩
 refine⟨by rw[e.1];exact bl.nil,by rw[e.1];exact h.fr,λm a=>by rw[e.1]at a;exact absurd a (fU m),λm a=>by rw[e.1]at a;exact absurd a (fU m),λe2=>(by rw[e.2]at e2;cases e2),by rw[e.1];simp only[fe];omega,by rw[e.1];simp only[fe];omega,λ_=>by rw[e.1];exact⟨rfl,rfl⟩⟩
 have e:(E.reset f).h=E.h/\(E.reset f).given=true:=by unfold It.reset;rw[b];exact⟨rfl,rfl⟩
 refine⟨by rw[e.1];exact h.ok,by rw[e.1];exact h.fr,by rw[e.1];exact h.kY,by rw[e.1];exact h.lK,λe2=>(by rw[e.2]at e2;cases e2),by rw[e.1];exact h.len,by rw[e.1];exact h.en,λ_=>by rw[e.1];exact h.sU b⟩
structure mF(s:Sd):Prop where
 ag:0<=s.ag/\s.ag<=1024
 aL:∀k,k<4->ik s.ag (s.aL k)
 pre:mb s
 fl:s.aM.length<=10
 ll:s.lost.length<=39000000
def mG(s:Sd)(f:Fr):Prop:=f.kind=5->(s.aL f.stream.toNat).given=false->aW f<=(s.aL f.stream.toNat).h.fr+s.ag
def cT.st(h:cT G):0<=G.stream/\G.stream<4:=⟨h.1.2.2.1,h.1.2.2.2⟩
def cT.en(h:cT G)(a:G.kind=5):aW G<=4611686018427387903:=by
 have:=h.2.1.2 a;unfold aW;omega
def mF.tk(h:mF s)(hs:cT G)(ho:0<=G.offset)(b:mG s G):Cm s G:=by
 have d:=hs.st;have e:G.stream.toNat<4:=by omega
 have hi:=h.aL _ e;have f:=h.ag;refine⟨d,λg=>(hs.2.1.1 g).1,ho,λa=>hs.en a,hi.nice f.2,λa c m j k i=>?_⟩
 have b:=b a c;refine⟨?_,by omega⟩
 by_cases hl:m<(s.aL G.stream.toNat).h.fr;exact absurd (hi.low c m (by omega) hl) i;omega
def D0(s:Sd)(l:List Rg):(s.eh l).aM.length<=s.aM.length/\(s.eh l).lost.length<=s.lost.length+s.aM.length:=by
 have a:=nP (λx:Pk=> !decide (x.num+3<=(au l 0).hi)) (s.aM.filter (λx=> !bN l x.num));have b:=nP (λx:Pk=> !bN l x.num) s.aM;have c:=nP (λx:Pk=> !bN l x.num) s.lost;have d:=nP (λx:Pk=>decide (x.num+3<=(au l 0).hi)) (s.aM.filter (λx=> !bN l x.num));have a5:=nP (λx:Pk=> !x.ps.all (lg ((s.eJ l).out x.st.toNat))) (s.eJ l).lost;have e1:(s.eh l).aM=(s.aM.filter (λx=> !bN l x.num)).filter (λx=> !decide (x.num+3<=(au l 0).hi)):=rfl;have e2:(s.eh l).lost=(s.eJ l).lost.filter (λx=> !x.ps.all (lg ((s.eJ l).out x.st.toNat))):=rfl;have e:(s.eJ l).lost.length=(s.lost.filter (λx=> !bN l x.num)).length+((s.aM.filter (λx=> !bN l x.num)).filter (λx=>decide (x.num+3<=(au l 0).hi))).length:=by unfold Sd.eJ;simp only[bH]
 rw[e1,e2];exact⟨by omega,by omega⟩
def mb.eh(h:mb s)(l:List Rg):mb (s.eh l):=by
 have a:=h.eJ l;refine⟨a.out,λx c=>a.pk x ?_,a.num⟩
 have d:x∈(s.eJ l).aM++(s.eJ l).lost.filter (λx=> !x.ps.all (lg ((s.eJ l).out x.st.toNat))):=c;obtain b|b:=bQ.1 d
 exact iO _ b;exact jW _ (iG.1 b).1
def dm(s:Sd):List Fr->Int×Sd
 |[]=>(0,s)
 |f::r=>if(s.take f).1=0 then dm (s.take f).2 r else s.take f
structure lL(s a:Sd):Prop where
 ag:a.ag=s.ag
 key:a.key=s.key
 first:a.first=s.first
 count:a.count=s.count
 aj:a.aj=s.aj
 aL:∀k,(a.aL k).h.fr=(s.aL k).h.fr/\((a.aL k).given=false->(s.aL k).given=false)
def lL.rfl'(s:Sd):lL s s:=⟨rfl,rfl,rfl,rfl,rfl,λ_=>⟨rfl,id⟩⟩
def lL.trans{b c:Sd}(h:lL s b)(k:lL b c):lL s c:=⟨k.ag.trans h.ag,k.key.trans h.key,k.first.trans h.first,k.count.trans h.count,k.aj.trans h.aj,λi=>⟨(k.aL i).1.trans (h.aL i).1,λe=>(h.aL i).2 ((k.aL i).2 e)⟩⟩
def D1(i:It)(f:Fr):(i.data f).h.fr=i.h.fr/\(i.data f).given=i.given:=by
 unfold It.data;refine⟨?_,rfl⟩
 simp only
 split<;>rfl
def D3(i:It)(f:Fr):(i.reset f).h.fr=i.h.fr/\(i.reset f).given=true:=by
 unfold It.reset;refine⟨?_,rfl⟩
 simp only
 split<;>rfl
def take_same(s:Sd)(f:Fr):lL s (s.take f).2:=by
 have b:∀(k:Nat)(a:It),a.h.fr=(s.aL k).h.fr->(a.given=false->(s.aL k).given=false)->lL s {s with aL:=ah s.aL k a}:=λk a c d=>⟨rfl,rfl,rfl,rfl,rfl,λj=>by
  by_cases e:j=k;subst e;simp only[bk];exact⟨c,d⟩
  ·show(ah s.aL k a j).h.fr=_/\((ah s.aL k a j).given=false->_)
   rw[bm _ _ e];exact⟨rfl,id⟩⟩
 unfold Sd.take;split;split;exact lL.rfl' s;exact⟨rfl,rfl,rfl,rfl,rfl,λ_=>⟨rfl,id⟩⟩
 split;split;exact lL.rfl' s;exact b _ _ (D3 _ f).1 (λe=>by rw[(D3 _ f).2]at e;cases e);split;split;exact lL.rfl' s;exact b _ _ (D1 _ f).1 (λe=>by rw[(D1 _ f).2]at e;exact e);split<;>exact lL.rfl' s
def mF.take(h:mF s){B:Nat}(hs:cT G)(ho:0<=G.offset)(f:mG s G)(i:s.lost.length+10<=B)(k:B<=39000000):mF (s.take G).2/\(s.take G).2.lost.length<=B:=by
 have l:=hs.st;have b:G.stream.toNat<4:=by omega
 have m:=h.fl;have c:∀(a:It),ik s.ag a->mF {s with aL:=ah s.aL G.stream.toNat a}:=λa hi=>⟨h.ag,λj g=>by
  by_cases e:j=G.stream.toNat;subst e;simp only[bk];exact hi
  ·simp only[bm _ _ e];exact h.aL j g,⟨h.pre.out,h.pre.pk,h.pre.num⟩,h.fl,h.ll⟩
 unfold Sd.take;split;split;exact⟨h,by show s.lost.length<=B;omega⟩
 have hl:=D0 s G.ranges;exact⟨⟨h.ag,h.aL,h.pre.eh _,by show(s.eh G.ranges).aM.length<=10;omega,by show(s.eh G.ranges).lost.length<=39000000;omega⟩,by show(s.eh G.ranges).lost.length<=B;omega⟩
 split;split;exact⟨h,by show s.lost.length<=B;omega⟩
 exact⟨c _ ((h.aL _ b).reset G),by show s.lost.length<=B;omega⟩
 split;split;exact⟨h,by show s.lost.length<=B;omega⟩
 rename_i d _;exact⟨c _ ((h.aL _ b).data G ho (hs.en d) (f d)),by show s.lost.length<=B;omega⟩
 split;exact⟨h,by show s.lost.length<=B;omega⟩
 exact⟨h,by show s.lost.length<=B;omega⟩
def mG.same{a:Sd}(T:lL s a)(h:mG s G):mG a G:=λb c=>by
 rw[(T.aL _).1,T.ag];exact h b ((T.aL _).2 c)
def Sd.fX(s:Sd)(f:Fr):Bool:=decide (f.kind=5)&&(s.aL f.stream.toNat).busy f s.ag
def mH(f:Fr):Bool:=decide (f.kind≠3)&&decide (f.kind≠1)
def xi(h:s.fX G=false):mG s G:=λa b=>by
 unfold Sd.fX It.busy at h;rw[dO a,b]at h;simp only[Bool.true_and,Bool.not_false,tq]at h;omega
def MS(w:World)(f:Fr)(h:Value):Calls prog 165 #[.agg (bO f h)] w λe l=>e=.returned (.bool (mH f))/\w.grownBy l none:=by
 obtain⟨k,a⟩:=exq (w.alloc (.cells (bO f h) 158));have i:w.grownBy k none:=by rw[a];exact aH _ _ _
 have j:k.heap[w.heap.size]?=some (.cells (bO f h) 158 (0,0)):=by rw[a];exact aO _ _
 obtain⟨q,b⟩:=exq (mH f);rw[<-b];unfold mH at b;obtain⟨kind,stream,offset,code,fin,data,ranges⟩:=f;unfold bO at *;simp only at *;obtain⟨m,-⟩:=cM j;replace j:=J j;by_cases d:kind=3
 ·subst d;have c:q=false:=by rw[b];rfl
  subst c;clear b;go_enter func165,ntmps165;go_upto_region 1 with fail;rw[<-a];clear a;go_wp2;go_ret;exact⟨rfl,i⟩
 have n:(kind !=3)=true:=by simpa using d
 by_cases g:kind=1
 ·subst g;have c:q=false:=by rw[b];rfl
  subst c;clear b;go_enter func165,ntmps165;go_upto_region 1 with fail;rw[<-a];clear a;go_wp2;go_ret;exact⟨rfl,i⟩
 have e1:(kind !=1)=true:=by simpa using g
 have c:q=true:=by rw[b];simp[d,g]
 subst c;clear b d g;go_enter func165,ntmps165;go_upto_region 1 with fail;rw[<-a];clear a;go_wp2;go_ret;exact⟨rfl,i⟩
def MT(w:World)(L sb:Nat)(cs:Array Value)(v:aX)(s:Sd)(H:bC w L sb cs v s)(Q:0<=s.ag/\s.ag<=1024)(f:Fr)(l:Value)(M:0<=f.stream/\f.stream<4)(m:(s.aL f.stream.toNat).h.nice)(ho:0<=f.offset)(r:f.kind=5->aW f<=4611686018427387903):
 Calls prog 163 #[.pointer (some ⟨sb,0,none⟩),.agg (bO f l)] w λe t=>e=.returned (.bool (s.fX f))/\w.grownBy t none:=by
 obtain⟨k,N,u⟩:∃k:Nat,k<4/\f.stream=(k:Int):=⟨f.stream.toNat,by omega,by omega⟩
 have x:f.stream.toNat=k:=by omega
 have y:=H.aL k N;obtain⟨b,c⟩:=exq (w.alloc (.cells (bO f l) 158));have i:w.grownBy b none:=by rw[c];exact aH _ _ _
 have d:b.heap[w.heap.size]?=some (.cells (bO f l) 158 (0,0)):=by rw[c];exact aO _ _
 rw[x]at m;have n:=J (λW(g:w.grownBy W none)(a:f.kind=5)=>GJ W sb (55+9*k) (s.aL k) (g.cell ((ba H.aP _).trans y.c0) (by simp)) ((y.tail H.aP).an g) ⟨m.1,by have:=m.2.1;omega⟩ f l ho (by have:=r a;omega) s.ag (by omega));rw[<-ua]at n;have F:s.fX f=(decide (f.kind=5)&&(s.aL k).busy f s.ag):=by unfold Sd.fX;rw[x]
 rw[F];have R:=kc (i.cell ((ba H.aP _).trans H.c1) (by simp));have O:(k:Int)<4:=by omega
 have d1:decide ((k:Int)<4)=true:=dO O;have p:b.grownBy b.drew none:=aV (aB _ none);clear F m M x y;replace H:=J H;by_cases a:f.kind=5
 ·have G:=J (Z n b.drew (aq i p) a);rw[dO a,Bool.true_and];obtain⟨q,I⟩:=exq ((s.aL k).busy f s.ag);rw[<-I]at G⊢;clear I n r;obtain⟨kind,stream,offset,code,fin,data,ranges⟩:=f;unfold bO at *;simp only at *;subst a;subst u;obtain⟨j,z,A,B,C,D,E⟩:=cM d;replace j:=kc j;replace z:=kc z;replace A:=kc A;replace B:=kc B;replace C:=kc C;replace D:=kc D;replace E:=kc E;replace d:=J d;go_enter func163,ntmps163;go_upto_region 1 with fail;rw[<-c];clear c;go_region_held3 (λt=>b.grownBy t none)
   (with_reducible first|exact K|exact p)
   (first|(go_at_call 214;apply(Z G).mono;rintro e S⟨rfl,P⟩;have K:=aq p P))
  go_wp2;go_ret;exact⟨rfl,aq i K⟩
 rw[eQ a,Bool.false_and];clear n r;obtain⟨kind,stream,offset,code,fin,data,ranges⟩:=f;unfold bO at *;simp only at *;have T:(kind==5)=false:=by simpa using a
 obtain⟨j,z,A,B,C,D,E⟩:=cM d;replace j:=kc j;replace⟨d,u⟩:=bA d u;clear a;go_enter func163,ntmps163;go_upto_region 1 with fail;rw[<-c];clear c;go_big_region;go_wp2;go_ret;exact⟨rfl,by first|exact aq i p|exact aq i (by assumption)⟩
def MU(b:List Int):∀(k p:Nat)(a c:List Fr),iH b k p a=(some c,-1)->c.length<=a.length+k:=by
 intro k;induction k with
 |zero=>intro p a c h;simp[iH]at h
 |succ k d=>
  intro p a c h;unfold iH at h;split at h;split at h;simp at h;have:=d _ _ _ h;simp only[bH,dc,fe]at this;omega;simp only[qZ,mn]at h;rw[<-h.1];omega
def MV{a:List Fr}(h:fN L=(some a,-1)):a.length<=L.length+1:=by
 unfold fN at h;split at h;simp at h;simpa using MU L _ _ _ _ h
def MW(w:World)(a:Option Addr)(n cap:Nat)(l:List Int)(c:bI w a n cap l)(hl:l.length<=100000000):Calls prog 146 #[.slice a n cap] w (uB w l):=by
 by_cases h0:l=[]
 subst h0;exact decode_nil w a n cap c;have e:=oI.2 h0;obtain⟨-,f,g,-,d⟩:=id c;obtain⟨d,h⟩|⟨b,o,rfl,-⟩:=d
 omega;exact MB w b o n cap l c e hl
def D4(w:World)(key:List Int)(f:Bool)(a:Option Addr)(m cap:Nat)(l:List Int)(k:dD key)(j:bI w a m cap l):
 Calls prog 135 #[.agg (cO key),.bool f,.slice a m cap] w λe b=>
  ((eC key (aT f) l/\∃c d,e=.returned (.tuple #[.int .u64 (bq l),.slice c (l.length-16) d,.nilIface])/\bI b c (l.length-16) d (dT key (aT f) (bq l) (bS l)))\/
    (¬eC key (aT f) l/\e=.returned (.tuple #[.int .u64 0,.slice none 0 0,.iface 34 (.int .i64 4)])))/\w.grownBy b none:=by
 by_cases hl:l.length<16\/300<l.length;apply(DT key f a m cap l w j hl).mono;rintro e b⟨rfl,g⟩;exact⟨.inr ⟨λh=>by have:=h.1;have:=h.2.1;omega,rfl⟩,g⟩
 apply(DY key f a m cap l w k j).mono;rintro e b⟨h,g⟩;refine⟨?_,g⟩
 obtain⟨i,c,d,rfl,n,-,-⟩|⟨i,rfl⟩:=h
 exact .inl ⟨i,c,d,rfl,n⟩;exact .inr ⟨i,rfl⟩
def D5(h:iW D p q=false):¬Sm D q/\p<=q:=by
 unfold iW at h;simp only[oH,tq,List.any_eq_false,lQ,mX]at h;exact⟨λ⟨r,a,b⟩=>h.2 r a b,by omega⟩
structure ko(a b:Nat)(W:World)(v:Value)(aw:List et):Prop where
 own:ij W a v aw
 row:∀k,v.ownBlock=some k->a<=k/\k<b
 rg:∀x∈aw,x.1.ranges≠[]->∀y n c,x.2=.slice (some y) n c->a<=y.block/\y.block<b
def ij.MX{aw:List et}(h:ij w i z aw):ko i w.heap.size w z aw:=by
 refine⟨h,λk e=>h.lt k e,λx a b y n c e=>⟨((h.2 x a).2 b y n c e).1,?_⟩⟩
 obtain⟨-,-,ra,cap,e2,d⟩:=(h.2 x a).1;rw[e]at e2;obtain⟨rfl,rfl,rfl⟩:=js e2;exact d.lt b
def ko.av{aw:List et}(h:ko k i W z aw)(C:ao W w S)(d:∀j,k<=j->j<i->¬S j):ko k i w z aw:=by
 obtain⟨⟨q,b⟩,f⟩:=id h.own;refine⟨⟨⟨q,?_⟩,λx a=>⟨(f x a).1.dr (λl y n c e r=>C.block _ r (d _ (h.rg x a l y n c e).1 (h.rg x a l y n c e).2)),(f x a).2⟩⟩,h.row,h.rg⟩
 obtain b|⟨g,cap,cur,e1,e2,m,s⟩:=b
 exact .inl b;have p:=h.row g (by rw[e1];rfl);exact .inr ⟨g,cap,cur,e1,e2,(C.block g (aZ.1 m).1 (d g p.1 p.2)).trans m,s⟩
def ko.an{aw:List et}(h:ko n k W x aw)(g:W.grownBy w none):ko n k w x aw:=h.av (ao.of g) (λj _ _ e=>by cases e)
def cW(l:List et)(i:Nat):et:=l.getD i (cu 0 false,.slice none 0 0)
def xj{l:List et}(h:i<l.length):l[i]?=some (cW l i):=by simp[cW,List.getD,h]
def sV{l:List et}(h:i<l.length):cW l i∈l:=xP (xj h)
def ko.gK{aw:List et}(h:ko k i W (.slice a n j) aw):n=aw.length/\n<=j/\j<=maxLen:=by
 obtain⟨⟨-,b⟩,-⟩:=h.own;obtain⟨e,c⟩|⟨g,cap,cur,e,aa,f,d,hm,hs,l⟩:=b
 cases e;exact⟨c.symm,aR _,by simp[maxLen]⟩
 cases e;exact⟨rfl,d,hm⟩
def ko.cells{aw:List et}(h:ko k l W (.slice a n m) aw)(h0:0<n):∃g,a=some ⟨g,0,none⟩/\∀j,j<aw.length->W.rangeAt g (0+j*7) (j8 (cW aw j).1 (cW aw j).2):=by
 obtain⟨⟨-,d⟩,-⟩:=h.own;obtain⟨e,s⟩|⟨g,cap,cur,e,aa,f,t,hm,hs,p⟩:=d
 cases e;omega;cases e;refine⟨g,rfl,λi hi j v c=>?_⟩
 have q:aw[i]=cW aw i:=by have:=xj hi;rw[eI hi]at this;exact aQ this
 rw[<-q]at c;have b:=Mu aw i hi j v c;have r:i*7+j<aw.length*7:=by
  have:=(kQ.1 b).1;rwa[Mt]at this
 rw[<-p,jI,aD r]at b;simp only[World.cell?,f,dY]
 simpa using b
def D6(h:W.rangeAt n o (j8 G x)):W.cell? ⟨n,o,none⟩=some (.int .i64 G.kind)/\W.cell? ⟨n,o+1,none⟩=some (.int .i64 G.stream)/\W.cell? ⟨n,o+2,none⟩=some (.int .u64 G.offset)/\W.cell? ⟨n,o+3,none⟩=some (.int .u64 G.code)/\W.cell? ⟨n,o+4,none⟩=some (.bool G.fin)/\W.cell? ⟨n,o+5,none⟩=some (.string G.data)/\W.cell? ⟨n,o+6,none⟩=some x:=
 ⟨h 0 _ rfl,h 1 _ rfl,h 2 _ rfl,h 3 _ rfl,h 4 _ rfl,h 5 _ rfl,h 6 _ rfl⟩
def ko.zq{aw:List et}(h:ko n k W x aw)(j:Nat)(a:j<aw.length):dA W (cW aw j).1 (cW aw j).2:=(h.own.2 _ (sV a)).1
def D7(w:World)(u v:Nat)(a:Option Addr)(n c d:Nat)(la lb:Array Value)(aw:List et)(q:Fr->Bool)(h:ko u v w (.slice a n c) aw)(y:∀args w,(callFunc d args).run prog w=.ok (.enter d args) w)
 (k:∀(W:World)(x:et),w.grownBy W none->x∈aw->Calls prog d (la++ #[.agg (bO x.1 x.2)]++lb) W (λe r=>e=.returned (.bool (q x.1))/\W.grownBy r none)):
 Calls prog 162 #[.slice a n c,.func (.func d) la lb] w λe s=>e=.returned (.bool ((aw.map (·.1)).any q))/\w.grownBy s none:=by
 obtain⟨E,z,A⟩:=h.gK;obtain⟨b,t⟩:∃b,(0<n->a=some ⟨b,0,none⟩)/\∀j,j<aw.length->w.rangeAt b (0+j*7) (j8 (cW aw j).1 (cW aw j).2):=by
  by_cases h0:0<n;obtain⟨g,e,l⟩:=h.cells h0;exact⟨g,λ_=>e,l⟩
  exact⟨0,λl=>absurd l h0,λj F=>by omega⟩
 refine(HU a b 0 n c d la lb w (λi=>q (cW aw i).1=true) (λi=>.int .i64 (cW aw i).1.kind) (λi=>.int .i64 (cW aw i).1.stream) (λi=>.int .u64 (cW aw i).1.offset) (λi=>.int .u64 (cW aw i).1.code) (λi=>.bool (cW aw i).1.fin) (λi=>.string (cW aw i).1.data) (λi=>(cW aw i).2) t.1 ⟨z,A⟩ y (λW i g hi=>?_) (λW i g hi=>?_)).mono ?_;have:=D6 (t.2 i (by omega));exact⟨gC_ g this.1,gC_ g this.2.1,gC_ g this.2.2.1,gC_ g this.2.2.2.1,gC_ g this.2.2.2.2.1,gC_ g this.2.2.2.2.2.1,gC_ g this.2.2.2.2.2.2⟩
 apply(k W (cW aw i) g (sV (by omega))).mono;rintro e r⟨rfl,B⟩;refine⟨?_,B⟩
 have:=nY (p:=q (cW aw i).1=true) (q:=q (cW aw i).1=true) Iff.rfl;simpa using this;rintro e s⟨hs,g⟩;refine⟨sq hs ?_,g⟩
 rw[qY];constructor;rintro⟨f,k,m⟩;obtain⟨x,C,rfl⟩:=fg.1 k;obtain⟨i,hi,rfl⟩:=jY.1 C;have D:aw[i]=cW aw i:=by have:=xj hi;rw[eI hi]at this;exact aQ this
 exact⟨i,by omega,by rw[<-D];exact m⟩
 rintro⟨i,hi,m⟩;exact⟨_,pt (sV (by omega)),m⟩
def Sd.fR(s:Sd)(n:Int)(a:List Fr):Sd:={s with af:=(fh s.af s.floor n).1,floor:=(fh s.af s.floor n).2,eN:=s.eN||a.any mH}
def sX(w:World)(c sb:Nat)(v:aX)(s:Sd)(p:List Int)(e:Ending)(b:World):Prop:=
 (¬eC s.key (aT (!s.first)) p/\e=.returned (bJ 4)/\dV w.heap.size w c sb v s b)\/
 (eC s.key (aT (!s.first)) p/\iW s.af s.floor (bq p)=true/\e=.returned .nilIface/\dV w.heap.size w c sb v s b)\/
 (eC s.key (aT (!s.first)) p/\iW s.af s.floor (bq p)=false/\∃(q:Int)(F:Nat),fN (dT s.key (aT (!s.first)) (bq p) (bS p))=(none,q)/\e=.returned (.iface 177 (.pointer (some ⟨F,0,none⟩)))/\w.heap.size<=F/\b.heap[F]?=some (.cells #[.int .i64 5,.int .i64 q] 182 (0,0))/\jo w sb v 5 (s.gN 5 5) b)\/
 (eC s.key (aT (!s.first)) p/\iW s.af s.floor (bq p)=false/\∃a,fN (dT s.key (aT (!s.first)) (bq p) (bS p))=(some a,-1)/\
   ((a.any s.fX=true/\e=.returned (bJ 6)/\dV w.heap.size w c sb v s b)\/
    (a.any s.fX=false/\(dm (s.fR (bq p) a) a).1=0/\e=.returned .nilIface/\dV w.heap.size w c sb v (dm (s.fR (bq p) a) a).2 b)\/
    (a.any s.fX=false/\(dm (s.fR (bq p) a) a).1≠0/\e=.returned (bJ (dm (s.fR (bq p) a) a).1)/\jo w sb v (dm (s.fR (bq p) a) a).1 ((dm (s.fR (bq p) a) a).2.gN (dm (s.fR (bq p) a) a).1 (dm (s.fR (bq p) a) a).1) b)))
def jo.dS{b:aX}{l:List (List Int)}(a:dh n w W i d b)(h:jo W i b p l V):jo w i d p l V:=by
 obtain⟨last,g,j,m,C⟩:=h;refine⟨last,g,j.low a.av.size,m,⟨C.os.trans a.av.os,C.tape.trans a.av.tape,C.output.trans a.av.output,bD a.av.size C.size,λk c f=>?_⟩⟩
 rw[C.block k (bX c a.av.size) (λe=>(a.ft k e).elim f (by omega))];exact a.av.block k c f
def Laid.av(h:Laid w)(C:ao w W S)(h0:¬S 0):Laid W:=(jX (C.block 0 h.lt h0)).trans h
def MY(s:Sd)(f:Fr):(s.take f).1=0\/(s.take f).1=7\/(s.take f).1=8\/(s.take f).1=10:=by
 unfold Sd.take;split;split<;>simp;split;split<;>simp;split;split<;>simp;split<;>simp
def zr(s:Sd)(f:Fr)(r:List Fr):dm s (f::r)=if(s.take f).1=0 then dm (s.take f).2 r else s.take f:=rfl
structure jD(w:World)(g sb:Nat)(v:aX)(s1:Sd)(aw:List et)(a:Option Addr)(n c f d h:Nat)(j:Nat)(b:Sd)(W:World)(k:Array Value)(e:aX):Prop where
 side:bC W g sb k e b
 dS:dh w.heap.size w W sb v e
 fr:ko f d W (.slice a n c) aw
 n2:d<=W.heap.size
 na:∀i,f<=i->i<d->¬eG sb e i
 ri:mF b
 ll:b.lost.length<=h+10*j
 same:lL s1 b
 all:dm b ((aw.map (·.1)).drop j)=dm s1 (aw.map (·.1))
def jD.gb{aw:List et}{c:Sd}{e:aX}(h:jD w k i d s aw a n l m o b j c W C e)(g:W.grownBy V none):jD w k i d s aw a n l m o b j c V C e:=
 ⟨h.side.an g,h.dS.trans (dh.an g),h.fr.an g,bD h.n2 g.size,h.na,h.ri,h.ll,h.same,h.all⟩
def D8{aw:List et}(a:j<aw.length):(aw.map (·.1)).drop j=(cW aw j).1::(aw.map (·.1)).drop (j+1):=by
 rw[Ar (by simpa using a)];congr 1;have b:aw[j]=cW aw j:=by have:=xj a;rw[eI a]at this;exact aQ this
 simp[b]
def jD.step{aw:List et}{c:Sd}{W':World}{u:aX}(h:jD w k l d s aw a n m o b i j c W C u)(x:j<aw.length)(hs:cT (cW aw j).1)(ho:0<=(cW aw j).1.offset)(y:mG s (cW aw j).1)(z:i+10*(j+1)<=39000000)(A:dV W.heap.size W k l u (c.take (cW aw j).1).2 W')(h0:(c.take (cW aw j).1).1=0):∃p q,jD w k l d s aw a n m o b i (j+1) (c.take (cW aw j).1).2 W' p q:=by
 obtain⟨p,q,S,f⟩:=A;obtain⟨D,E⟩:=h.ri.take hs ho (y.same h.same) (B:=i+10*(j+1)) (by have:=h.ll;omega) z;have F:=h.dS.av.size;refine⟨p,q,S,h.dS.trans (f.mono F),h.fr.av f.av (λg r t e=>h.na g r t (.inl e)),bD h.n2 f.av.size,λg r t e=>?_,D,E,h.same.trans (take_same _ _),?_⟩
 obtain v|v:=f.ar g e
 exact h.na g r t v;have:=h.n2;omega;rw[<-h.all,D8 x];rw[zr,aD h0]
def jD.stop{aw:List et}{c:Sd}{e:aX}(h:jD w k i d s aw a n l m o b j c W C e)(f:j<aw.length)(h0:(c.take (cW aw j).1).1≠0):dm s (aw.map (·.1))=c.take (cW aw j).1:=by
 rw[<-h.all,D8 f];rw[zr,az h0]
def jD.MZ{aw:List et}{c:Sd}{f:aX}(h:jD w k i d s aw a n l m o b j c W C f)(g:j<aw.length)(hs:cT (cW aw j).1)(p:mG s (cW aw j).1):
 Calls prog 166 #[.pointer (some ⟨i,0,none⟩),.agg (bO (cW aw j).1 (cW aw j).2)] W (kG W k i f (c.take (cW aw j).1)):=by
 obtain⟨q,-,ra,cap,e,r⟩:=h.fr.zq j g;rw[e];refine JP W k i C f c h.side h.ri.pre ⟨by have:=h.ri.fl;omega,by have:=h.ri.ll;omega⟩ _ ra _ cap r (λt y u=>?_) (h.ri.tk hs q.2.2.1.1 (p.same h.same));have:=h.fr.rg _ (sV g) t y _ cap (by rw[e,u]);exact⟨λv=>h.na _ this.1 this.2 (.inl v),bX this.2 h.n2⟩
def M0(h:mF s)(n:Int)(a:List Fr):mF (s.fR n a):=⟨h.ag,h.aL,⟨h.pre.out,h.pre.pk,h.pre.num⟩,h.fl,h.ll⟩
def D9{a:List Fr}(h:a.any s.fX=false)(n:Int):∀f∈a,mG (s.fR n a) f:=λf b=>by
 have c:=List.any_eq_false.1 h f b;have d:=xi (s:=s) (G:=f) (by simpa using c);exact λe g=>d e g
def jD.start{f:World}{aw:List et}{h:Nat}{num:Int}(H:bC w l m C d s)(p:w.grownBy W none)(X:w.heap.size<=j)(I:h<=W.heap.size)(hF:ko j h W (.slice a n b) aw)(K:mF s)
 (L:V.heap[m]?=some (.cells ((C.setIfInBounds 96 (.slice O k i)).setIfInBounds 97 (.int .u64 (fh s.af s.floor num).2)) 241 (0,0))) (q:dj V W.heap.size (.slice O k i) (fh s.af s.floor num).1) (B:W.grownBy V (some m)) (g:V.grownBy f none) (c:Bool) (ho:c=(s.eN||(aw.map (·.1)).any mH)):
 ∃r t,jD w l m d (s.fR num (aw.map (·.1))) aw a n b j h s.lost.length 0 (s.fR num (aw.map (·.1))) (f.setCell ⟨m,98,none⟩ (.bool c)) r t:=by
 have Y:=H.bu.iw;have M:=p.size;have al:=B.size;have ax:=g.size;have N:=bB L g;have P:=heap_set N (o:=98) (.bool c);have u:=aK (aB f (some m)) ⟨m,98,none⟩ (.bool c) (.inr rfl);have v:ao W (f.setCell ⟨m,98,none⟩ (.bool c)) (λD=>D=m):=(ao.of (aq (aq B (dd g _)) u)).mono (λD _ e=>(aQ e).symm);have aC:=u.size;obtain⟨Q,R⟩:=q.ni;have U:bw (f.setCell ⟨m,98,none⟩ (.bool c)) O k i (fh s.af s.floor num).1:=(Q.an g).dr (λ_ x e=>u.block _ (by
  obtain⟨z,A⟩:=q.lt x.block (by rw[e];rfl);omega) (by have:=R x e;simp only[ne_eq,mn];omega))
 have T:=(H.an p).BD (.slice O k i) (fh s.af s.floor num).1 (fh s.af s.floor num).2 c P (by simp) (λE hi=>?_) (by simp[H.sz]) (by simp[H.sz]) (by simp[H.sz]) v ⟨O,k,i,rfl,U⟩ (.inr (λy n b e=>?_));obtain⟨r,t,S,F⟩:=T;refine⟨r,t,?_,(dh.an p).trans (F.mono M),hF.av v (λa0 z A e=>by omega),bD I v.size,λE z A e=>?_,M0 K _ _,by simp[Sd.fR],lL.rfl' _,rfl⟩
 subst ho;exact S;obtain G|G:=F.ar E e
 have:=og H.bu G;omega;omega;obtain hi|hi:=hi
 rw[aN_,aN_,aN_];rw[aN_,aN_,aN_];obtain⟨rfl,rfl,rfl⟩:=js e;obtain⟨z,A⟩:=q.lt y.block rfl;omega
def M1(w:World)(i sb:Nat)(cs:Array Value)(v:aX)(s:Sd)(H:bC w i sb cs v s)(j:dD s.key)(a:Option Addr)(m cap:Nat)(p:List Int)(u:bI w a m cap p)(k:¬eC s.key (aT (!s.first)) p):
 Calls prog 131 #[.pointer (some ⟨sb,0,none⟩),.slice a m cap] w (sX w i sb v s p):=by
 obtain⟨R,b⟩:=exq (sX w i sb v s p);rw[<-b];replace b:=J b;have x:=J (om w sb 0 H.kF);have l:=H.qL j;have iy:w.cell? ⟨sb,18,none⟩=some (.bool s.first):=(ba H.aP _).trans H.iy;have n:=J (λW(g:w.grownBy W none)=>(D4 W s.key (!s.first) a m cap p j (u.an g)).mono (λe c h=>show e=.returned (.tuple #[.int .u64 0,.slice none 0 0,.iface 34 (.int .i64 4)])/\W.grownBy c none from⟨by
  obtain q|q:=h.1
  exact absurd q.1 k
  ·exact q.2,h.2⟩))
 have z:=J (λW(g:w.grownBy W none)=>(show R (.returned (.iface 34 (.int .i64 4))) W by rw[Z b];exact .inl ⟨k,rfl,H.to g⟩));have A:(prog.info? 24).map (·.size)=some (bv s.key).length:=by rw[fL,j.1];exact m8
 have F:=underlying24;clear u k;replace H:=J H;obtain⟨key,r⟩:=exq s.key;obtain⟨f,t⟩:=exq s.first;rw[<-r]at A n l;rw[<-t]at n iy;replace⟨r,t⟩:=bA r t;simp only[ne_eq,vp,tD]at x;go_enter func131,ntmps131;go_wp2_with fail;apply(Z x).mono;rintro e G⟨rfl,B⟩;have I:=kc iy;have d:=jC ⟨l,aB w none⟩ B;clear iy l;go_upto_region 3 with fail;go_region_held3 (λc=>c.rangeAt sb 2 (bv key)/\w.grownBy c none)
  (with_reducible first|exact y|exact d|exact jC d (aV (aB _ none)))
  (first|(go_at_call 135;apply(Z n _ (jC d (aV (aB _ none))).2).mono;rintro e C⟨rfl,D⟩;have y:=jC (jC d (aV (aB _ none))) D;have E:Hid (R (.returned (.iface 34 (.int .i64 4))) C):=J (Z z _ y.2)))
 go_wp2_with fail;exact Z E
def M3(b:bI w a m n L):0<=bq L:=by
 have h:=uv L b.1;unfold bq;by_cases hl:8<=L.length;exact(h 8 hl).1;rw[tL_];have:=(h L.length (aR _)).1;rwa[oK]at this
structure rE(w:World)(a sb:Nat)(cs:Array Value)(v:aX)(s:Sd)(p:List Int):Prop where
 at_:bC w a sb cs v s
 key:dD s.key
 recv:mF s
 lost:s.lost.length<=30000000
 bf:0<=s.count/\s.count<=4611686018427387000
 mI:bl s.af
 c8:s.af.length<=8
 laid:Laid w
 n0:¬cq sb v 0
 ok:eC s.key (aT (!s.first)) p
 num:0<=bq p
def rE.M4(h:rE w k i C d s L)(W:World)(g:w.grownBy W none):
 Calls prog 160 #[.pointer (some ⟨i,96,none⟩),.int .u64 (bq L)] W λe b=>e=.returned (.bool (iW s.af s.floor (bq L)))/\W.grownBy b none:=by
 obtain⟨a,n,c,e,f⟩:=h.at_.oj;exact MH W i 96 a n c s.af s.floor (bq L) (g.cell ((ba h.at_.aP _).trans (e▸h.at_.oh)) (by simp)) (g.cell ((ba h.at_.aP _).trans h.at_.oS) (by simp)) (f.an g) ⟨h.num,h.ok.2.2.2⟩
def rE.fh(h:rE w k i C d s L)(hp:iW s.af s.floor (bq L)=false)(W:World)(g:w.grownBy W none):
 Calls prog 164 #[.pointer (some ⟨i,96,none⟩),.int .u64 (bq L)] W λe b=>e=.returned (.tuple #[])/\∃f j l,b.heap[i]?=some (.cells ((C.setIfInBounds 96 (.slice f j l)).setIfInBounds 97 (.int .u64 (fh s.af s.floor (bq L)).2)) 241 (0,0))/\dj b W.heap.size (.slice f j l) (fh s.af s.floor (bq L)).1/\W.grownBy b (some i):=by
 obtain⟨a,n,c,e,m⟩:=h.at_.oj;refine MO W i 96 C _ a n c s.af s.floor (bq L) (bB h.at_.aP g) (e▸h.at_.oh) h.at_.oS (m.an g) (λy p e2=>?_) h.mI h.c8 (D5 hp).1 ⟨h.num,h.ok.2.2.2⟩;exact(h.at_.bu.dQ 8 (by omega) y n c (by rw[e,p])).1 (.inl e2)
def rE.busy(h:rE w k i C d s L)(g:w.grownBy W none){aw:List et}(hF:ko j l W (.slice a n m) aw)(hs:∀f∈aw.map (·.1),cT f):
 Calls prog 162 #[.slice a n m,.func (.func 163) #[.pointer (some ⟨i,0,none⟩)] #[]] W λe p=>e=.returned (.bool ((aw.map (·.1)).any s.fX))/\W.grownBy p none:=by
 refine D7 W j l a n m _ #[.pointer (some ⟨i,0,none⟩)] #[] aw s.fX hF (λargs w=>by kernel_rfl) (λq x r b=>?_);have c:=hs x.1 (pt b);have t:=c.st;exact MT q k i C d s (h.at_.an (aq g r)) h.recv.ag x.1 x.2 t ((h.recv.aL _ (by omega)).nice h.recv.ag.2) (hF.own.2 x b).1.1.2.2.1.1 (λu=>c.en u)
def M5{aw:List et}(hF:ko k i W (.slice a n j) aw):
 Calls prog 162 #[.slice a n j,.func (.func 165) #[] #[]] W λe b=>e=.returned (.bool ((aw.map (·.1)).any mH))/\W.grownBy b none:=
 D7 W k i a n j _ #[] #[] aw mH hF (λargs w=>by kernel_rfl) (λc x d f=>MS c x.1 x.2)
def jD.ended{aw:List et}{b:Sd}{c:aX}(h:jD w k i d s aw a n j l m o aw.length b W C c):dm s (aw.map (·.1))=(0,b):=by
 rw[<-h.all,uZ (by simp)];rfl
def jD.fail{aw:List et}{c:Sd}{W':World}{f:aX}(h:jD w k i d s aw a n l m o b j c W C f)(q:Laid w)(h0:¬cq i d 0)(t:dD s.key)(u:0<=s.count/\s.count<=4611686018427387000)(v:dV W.heap.size W k i f (c.take (cW aw j).1).2 W')(e:Int)(x:0<=e/\e<=1000):
 Calls prog 161 #[.pointer (some ⟨i,0,none⟩),.iface 34 (.int .i64 e)] W' λr g=>r=.returned (.iface 34 (.int .i64 e))/\jo w i d e ((c.take (cW aw j).1).2.gN e e) g:=by
 obtain⟨y,z,S,A⟩:=v;have T:=h.same.trans (take_same c (cW aw j).1);have p:=h.dS.trans (A.mono h.dS.av.size);refine(LN W' k i y z _ S (by rw[T.key];exact t) (by rw[T.count];exact u) (q.av p.av h0) e x).mono ?_;rintro r g⟨rfl,B⟩;exact⟨rfl,jo.dS p B⟩
def M6(w:World)(y sb:Nat)(cs:Array Value)(v:aX)(s:Sd)(p:List Int)(h:rE w y sb cs v s p)(a:Option Addr)(m cap:Nat)(aa:bI w a m cap p):
 Calls prog 131 #[.pointer (some ⟨sb,0,none⟩),.slice a m cap] w (sX w y sb v s p):=by
 obtain⟨R,z⟩:=exq (sX w y sb v s p);rw[<-z];replace z:=J z;have hC:=J (om w sb 0 h.at_.kF);have a8:=h.at_.qL h.key;have iy:w.cell? ⟨sb,18,none⟩=some (.bool s.first):=(ba h.at_.aP _).trans h.at_.iy;have kX:=kc ((ba h.at_.aP _).trans h.at_.kX);have A:=J (λW(g:w.grownBy W none)=>(D4 W s.key (!s.first) a m cap p h.key (aa.an g)).mono (λe U G=>show∃a' c',e=.returned (.tuple #[.int .u64 (bq p),.slice a' (p.length-16) c',.nilIface])/\bI U a' (p.length-16) c' (dT s.key (aT (!s.first)) (bq p) (bS p))/\W.grownBy U none from by
  obtain⟨-,a',c',h1,h2⟩|h1:=G.1
  exact⟨a',c',h1,h2,G.2⟩
  ·exact absurd h.ok h1.1))
 have bb:=J h.M4;have cx:(prog.info? 24).map (·.size)=some (bv s.key).length:=by rw[fL,h.key.1];exact m8
 have dE:=underlying24;have bj:Hid ((dT s.key (aT (!s.first)) (bq p) (bS p)).length<=300):=J (by
  rw[nu];have:=h.ok.2.1;unfold bS;rw[ct];omega)
 obtain⟨M,H⟩:=exq (dT s.key (aT (!s.first)) (bq p) (bS p));rw[<-H]at A bj;have e3:=h.at_.bu.iw;clear aa;replace h:=J h;obtain⟨key,hK⟩:=exq s.key;obtain⟨f,hf⟩:=exq s.first;obtain⟨num,d⟩:=exq (bq p);obtain⟨pl,br⟩:=exq (p.length-16);rw[<-hK]at cx A a8;rw[<-hf]at A iy;rw[<-d]at A bb;rw[<-br]at A;replace⟨hK,hf,d,H,br⟩:=eR hK hf d H br;simp only[ne_eq,vp,tD]at hC;go_enter func131,ntmps131;go_wp2_with fail;apply(Z hC).mono;rintro e w1⟨rfl,g1⟩;have dG:=kc iy;have V:=jC ⟨a8,aB w none⟩ g1;clear iy a8;go_upto_region 3 with fail;go_region_held3 (λU=>U.rangeAt sb 2 (bv key)/\w.grownBy U none)
  (with_reducible first|exact bt|exact V|exact jC V (aV (aB _ none)))
  (first|(go_at_call 135;apply(Z A _ (jC V (aV (aB _ none))).2).mono;rintro e w5⟨a5,c5,rfl,a0,g5⟩;have bt:=jC (jC V (aV (aB _ none))) g5;replace a0:=J a0))
 clear A dG cx dE;have cy:=bt.2;clear bt V;go_wp2_with fail;apply(Z bb _ cy).mono;rintro e X⟨rfl,g6⟩;have Y:=aq cy g6;have cA:=J ((Z a0).an g6);clear a0 bb;cases hp:iW s.af s.floor num;rotate_left
 ·have l:Hid (R (.returned .nilIface) X):=J (by
   rw[Z z];exact .inr (.inl ⟨(Z h).ok,by rw[<-Z d];exact hp,rfl,(Z h).at_.to Y⟩))
  go_wp2_with fail;exact Z l
 have cB:=J (MW X a5 pl c5 M (Z cA) (by have:=Z bj;omega));replace hp:=J hp;go_wp2_with fail;apply(Z cB).mono;rintro e I⟨g7,⟨aw,a7,n,c7,hd,rfl,hO⟩|⟨q,F,hd,rfl,hF,cC⟩⟩;rotate_left
 ·have B:=aq Y g7;have ea:=J (LO I y sb F cs v s ((Z h).at_.an B) (Z h).key (Z h).bf ((Z h).laid.gb B) 5 (by omega) (by simp[World.cell?,hF]));go_wp2_with fail;apply(Z ea).mono;rintro e w8⟨rfl,bx⟩;have l:Hid (R (.returned (.iface 177 (.pointer (some ⟨F,0,none⟩)))) w8):=J (by
   rw[Z z];have hz:=Y.size;refine .inr (.inr (.inl ⟨(Z h).ok,by rw[<-Z d];exact Z hp,(q:Int),F,?_,rfl,by omega,?_,jo.pre B bx⟩));rw[<-Z H];exact hd
   ·obtain⟨last,e4,-,-,C⟩:=bx;rw[C.block F (aZ.1 hF).1 (λe=>by have:=pP (Z h).at_.bu e;omega)];exact hF)
  clear bx hF;go_wp2_with fail;exact Z l
 have B:=aq Y g7;have K:=hO.MX;have ee:=Y.size;have a1:=xd hd;have eg:=MV hd;rw[dH]at eg;have ei:=J K.gK;have bz:=J ((Z h).busy B K a1);have bM:=J (λW(C:ao I W (λk=>k=sb))=>M5 (K.av C (λj h1 _ e=>by omega)));have b0:=J (λW(g:I.grownBy W none)=>(Z h).fh (by rw[<-Z d];exact Z hp) W (aq B g));rw[<-Z d]at b0;replace⟨hO,K,a1,hd⟩:=eV hO K a1 hd;obtain⟨fs,b⟩:=exq (aw.map (·.1));rw[<-b]at bz bM;replace b:=J b;clear cB cA;go_wp2_with fail;apply(Z bz).mono;rintro e w8⟨rfl,g8⟩;have db:=aq B g8;cases L:fs.any s.fX;rotate_left
 ·have l:Hid (R (.returned (.iface 34 (.int .i64 6))) w8):=J (by
   rw[Z z];refine .inr (.inr (.inr ⟨(Z h).ok,by rw[<-Z d];exact Z hp,fs,?_,.inl ⟨L,rfl,(Z h).at_.to db⟩⟩));rw[<-Z H,Z b];exact Z hd)
  go_wp2_with fail;exact Z l
 replace L:=J L;clear bz;go_wp2_with fail;apply(Z b0 _ g8).mono;rintro e N⟨rfl,a9,k9,c9,D,de,g9⟩;have kX:N.cell? ⟨sb,98,none⟩=some (.bool s.eN):=by rw[ba D,aN_,aN_];exact(Z h).at_.kX
 have f98:N.frozen? ⟨sb,98,none⟩=false:=fZ_ D;have al:=J (λO(ax:N.grownBy O none) ow ho=>jD.start (Z h).at_ db ee g8.size ((Z K).an g8) (Z h).recv D de g9 ax ow ho);have dg:=J (Z bM N (((ao.of g8).trans (ao.of g9)).mono (λk _ e=>e.elim (λe=>by cases e) (λe=>(aQ e).symm))));replace D:=J D;clear de bM b0;rw[<-Z b]at al;have dk:=J (λj(P:j<aw.length)=>Z a1 (cW aw j).1 (pt (sV P)));have b3:=J (λj(P:j<aw.length)=>D9 (Z L) num (cW aw j).1 (by rw[Z b];exact pt (sV P)));obtain⟨s1,Q⟩:=exq (s.fR num fs);rw[<-Q]at al b3;obtain⟨b4,S⟩:=exq (λW:World=>∃r t,jD w y sb v s1 aw a7 n c7 X.heap.size I.heap.size s.lost.length 0 s1 W r t);replace⟨S,Q⟩:=bA S Q;go_upto_region 14 with fail;go_cut [] (λwx=>b4 wx);case first=>
  cases a2:s.eN
  ·rw[a2]at kX;go_wp2_with fail;apply(Z dg).mono;rintro e O⟨rfl,ax⟩;have e5:O.frozen? ⟨sb,98,none⟩=false:=by simp[World.frozen?,bB (Z D) ax]
   have e6:=gC_ ax kX;have b5:Hid (b4 (O.setCell ⟨sb,98,none⟩ (.bool (fs.any mH)))):=J (by rw[Z S];exact Z al O ax _ (by rw[a2,tB]));go_wp2;go_meet;exact Z b5
  rw[a2]at kX;have b5:Hid (b4 (N.setCell ⟨sb,98,none⟩ (.bool true))):=J (by rw[Z S];exact Z al N (aB _ _) _ (by rw[a2,Bool.true_or]));go_wp2;go_meet;exact Z b5
 case rest=>
  rw[Z S]at hcut;rename World=>O
  obtain⟨ej,ek,b6⟩:=hcut;clear dg al kX f98 D S;replace b6:=J b6;have eo:=J (λj u W E r t(G:jD w y sb v s1 aw a7 n c7 X.heap.size I.heap.size s.lost.length j u W r t) x e he=>G.fail (Z h).laid (Z h).n0 (by rw[Z Q];exact(Z h).key) (by rw[Z Q];exact(Z h).bf) x e he (W':=E));have b7:=J (λ(e:Ending)(W:World) G=>(show R e W by
   rw[Z z];refine .inr (.inr (.inr ⟨(Z h).ok,by rw[<-Z d];exact Z hp,fs,?_,.inr G⟩));rw[<-Z H,Z b];exact Z hd))
  rw[<-Z d,<-Z Q]at b7;obtain⟨b8,e7,ew⟩:=Z ei;unfold maxLen at ew;replace b8:=J b8;have ey:Hid (s.lost.length<=30000000):=J (Z h).lost;have e8:=Z bj;go_upto_region 16 with fail;go_loopg [71] (aw.length+1) (λg ez wr=>∃(j:Nat)(u:Sd)(r:Array Value)(t:aX),j<=aw.length/\ez=.int .i64 j/\g=aw.length+1-j/\jD w y sb v s1 aw a7 n c7 X.heap.size I.heap.size s.lost.length j u wr r t);case atStart=>exact⟨0,s1,ej,ek,by omega,rfl,by omega,Z b6⟩
  case round=>
   obtain⟨j,u,r,t,eK,rfl,rfl,i⟩:=hrel;have dn:=Z b8;by_cases c:j<aw.length
   ·have d1:decide ((j:Int)<n)=true:=dT_;obtain⟨g,rfl,ds⟩:=i.fr.cells (by omega);obtain⟨y0,y1,y2,y3,y4,y5,y6⟩:=D6 (G:=(cW aw j).1) (by have:=ds j c;rwa[dY]at this);obtain⟨WB,a3⟩:=exq (wr.alloc (.cells (bO (cW aw j).1 (cW aw j).2) 158));have eL:wr.grownBy WB none:=by rw[a3];exact aH _ _ _
    have ca:WB.heap[wr.heap.size]?=some (.cells (bO (cW aw j).1 (cW aw j).2) 158 (0,0)):=by rw[a3];exact aO _ _
    have T:=i.gb eL;have ch:=J (T.MZ c (Z dk j c) (Z b3 j c));have cj:=J (λE x h0=>T.step (W':=E) c (Z dk j c) (i.fr.zq j c).1.2.2.1.1 (Z b3 j c) (by have:=Z ey;omega) x h0);have aC:=J (T.stop c);have cp:=J (λE=>Z eo j u WB E r t T);have a4:=MY u (cW aw j).1;obtain⟨q,hq⟩:=exq (u.take (cW aw j).1);rw[<-hq]at ch cj aC cp a4;replace hq:=J hq;obtain⟨-,-,ra,e9,du,-⟩:=i.fr.zq j c;generalize (cW aw j).1.ranges.length=rl at du;generalize (cW aw j).2=rv at *;subst du;generalize (cW aw j).1=ff at *;replace⟨i,T⟩:=bA i T;clear ds;obtain⟨kind,stream,offset,code,fin,data,ranges⟩:=ff;unfold bO at *;simp only at *;have i1:(0:Int)<=j:=by omega
    have i2:(j:Int)<n:=by omega
    clear dn;obtain⟨x0,x1,x2,x3,x4,x5,x6⟩:=cM ca;replace ca:=J ca;go_upto_region 18 with fail;rw[<-a3];clear y0 y1 y2 y3 y4 y5 y6 a3;go_wp2_with fail;apply(Z ch).mono;rintro e dx⟨rfl,x⟩;by_cases h0:q.1=0
    ·have ev:bJ q.1=.nilIface:=by rw[h0];rfl
     rw[ev];obtain⟨eS,v2,cv⟩:=Z cj dx x h0;clear x cj aC cp ch a4;replace⟨cv,h0⟩:=bA cv h0;go_wp2;go_roundg (aw.length+1-(j+1));case measure=>omega
     case rel=>exact⟨j+1,q.2,eS,v2,by omega,by push_cast;rfl,rfl,Z cv⟩
    have ev:bJ q.1=.iface 34 (.int .i64 q.1):=by unfold bJ;rw[az h0]
    rw[ev];have cC:=J (Z cp dx x q.1 (by omega));have l:=J (λW(hS:jo w sb v q.1 (q.2.gN q.1 q.1) W)=>Z b7 (.returned (.iface 34 (.int .i64 q.1))) W (.inr ⟨Z L,by rw[Z b,Z aC h0];exact h0,by rw[Z b,Z aC h0,ev],by rw[Z b,Z aC h0];exact hS⟩));replace⟨h0,ev,a4⟩:=cg h0 ev a4;clear x;go_wp2_with fail;apply(Z cC).mono;rintro e fa⟨rfl,hS⟩;replace hS:=J hS;go_wp2_with fail;exact Z l _ (Z hS)
   have P:j=aw.length:=by omega
   have i3:¬((j:Int)<n):=by omega
   have i4:¬(j<n):=by omega
   have d1:decide ((j:Int)<n)=false:=dF_;have d2:decide (j<n)=false:=dF_;have cw:dm s1 (aw.map (·.1))=(0,u):=by subst P;exact i.ended
   have l:Hid (R (.returned .nilIface) wr):=J (by
    refine Z b7 _ _ (.inl ⟨Z L,?_,rfl,?_⟩);rw[Z b,cw]
    ·rw[Z b,cw];exact⟨r,t,i.side,i.dS⟩)
   clear i dn P c eK cw;go_wp2_with fail;exact Z l
def M7(w:World)(b sb:Nat)(cs:Array Value)(v:aX)(s:Sd)(p:List Int)(H:bC w b sb cs v s)(d:dD s.key)(f:mF s)(hl:s.lost.length<=30000000)(g:0<=s.count/\s.count<=4611686018427387000)(h:bl s.af)(i:s.af.length<=8)(j:Laid w)(h0:¬cq sb v 0)(a:Option Addr)(m cap:Nat)(c:bI w a m cap p):
 Calls prog 131 #[.pointer (some ⟨sb,0,none⟩),.slice a m cap] w (sX w b sb v s p):=by
 by_cases e:eC s.key (aT (!s.first)) p;exact M6 w b sb cs v s p ⟨H,d,f,hl,g,h,i,j,h0,e,M3 c⟩ a m cap c;exact M1 w b sb cs v s H d a m cap p c e
def M8(w:World)(sb:Nat)(aA:Int)(dC:w.cell? ⟨sb,99,none⟩=some (.int .i64 aA))(h:aA≠0)(b:Value):Calls prog 131 #[.pointer (some ⟨sb,0,none⟩),b] w λr c=>r=.returned (bJ 9)/\w.grownBy c none:=by
 have a:=J (om w sb aA dC);rw[dO h]at a;go_enter func131,ntmps131;go_wp2_with fail;apply(Z a).mono;rintro e f⟨rfl,d⟩;go_wp2;go_ret;exact⟨rfl,d⟩
def jP(aj ag:Int):Prop:=64<=aj/\aj<=300/\16<=ag/\ag<=1024
def M9(w:World)(aj ag:Int)(K:Array Value)(m:K.size=16)(f:Bool)(h:¬jP aj ag):
 Calls prog 70 #[.agg #[.int .i64 aj,.int .i64 ag],.agg K,.bool f] w λe j=>e=.returned (.tuple #[.pointer none,bJ 1])/\w.grownBy j none:=by
 have k:aj<64\/(¬aj<64/\300<aj)\/(¬aj<64/\¬300<aj/\ag<16)\/(¬aj<64/\¬300<aj/\¬ag<16/\1024<ag):=by unfold jP at h;omega
 have n:prog.cellsOf 24=16:=by kernel_rfl
 clear h;have g:∀(a b:Obj),w.grownBy ((w.alloc a).alloc b) none:=λa b=>aq (aH _ _ _) (aH _ _ _)
 obtain c|⟨c,d⟩|⟨c,d,i⟩|⟨c,d,i,l⟩:=k
 ·have d1:decide (aj<64)=true:=dO c;go_enter func70,ntmps70;go_wp2;go_ret2;exact⟨rfl,g _ _⟩
 ·have d1:decide (aj<64)=false:=eQ c;have d2:decide (aj>300)=true:=dO d;go_enter func70,ntmps70;go_wp2;go_ret2;exact⟨rfl,g _ _⟩
 ·have d1:decide (aj<64)=false:=eQ c;have d2:decide (aj>300)=false:=eQ d;have d3:decide (ag<16)=true:=dO i;go_enter func70,ntmps70;go_wp2;go_ret2;exact⟨rfl,g _ _⟩
 have d1:decide (aj<64)=false:=eQ c;have d2:decide (aj>300)=false:=eQ d;have d3:decide (ag<16)=false:=eQ i;have d4:decide (ag>1024)=true:=dO l;go_enter func70,ntmps70;go_wp2;go_ret2;exact⟨rfl,g _ _⟩
def xk(l:List Value)(h:l.length=16):∃a b c k3 k4 k5 d e f g i j k m n p,l=[a,b,c,k3,k4,k5,d,e,f,g,i,j,k,m,n,p]:=by
 iterate 16 (obtain _|⟨_,l⟩:=l;·simp at h)
 obtain _|⟨_,l⟩:=l
 exact⟨_,_,_,_,_,_,_,_,_,_,_,_,_,_,_,_,rfl⟩
 simp at h
def Na(aj ag:Int)(a b c k3 k4 k5 d e g h i j k l m n:Value)(f:Bool):(((((((((((((((((((((((zeroCells241.setIfInBounds 0 (.int .i64 aj)).setIfInBounds 1 (.int .i64 ag)).setIfInBounds 2 a).setIfInBounds 3 b).setIfInBounds 4 c).setIfInBounds 5 k3).setIfInBounds 6 k4).setIfInBounds 7 k5).setIfInBounds 8 d).setIfInBounds 9 e).setIfInBounds 10 g).setIfInBounds 11 h).setIfInBounds 12 i).setIfInBounds 13 j).setIfInBounds 14 k).setIfInBounds 15 l).setIfInBounds 16 m).setIfInBounds 17 n).setIfInBounds 18 (.bool f)).setIfInBounds 91 (.int .u64 0)).setIfInBounds 92 (.int .i64 0)).setIfInBounds 93 (.int .i64 4)).setIfInBounds 94 (.slice none 0 0)).setIfInBounds 95 (.slice none 0 0)=(gF aj ag [a,b,c,k3,k4,k5,d,e,g,h,i,j,k,l,m,n] f 4 0 (.slice none 0 0)).toArray:=by kernel_rfl
def Nb(w:World)(aj ag:Int)(key:List Int)(k:dD key)(f:Bool)(h:jP aj ag):
 Calls prog 70 #[.agg #[.int .i64 aj,.int .i64 ag],.agg (cO key),.bool f] w λe d=>∃sb,e=.returned (.tuple #[.pointer (some ⟨sb,0,none⟩),.nilIface])/\w.heap.size<=sb/\d.heap[sb]?=some (.cells (gF aj ag (bv key) f 4 0 (.slice none 0 0)).toArray 241 (0,0))/\w.grownBy d none:=by
 have d1:decide (aj<64)=false:=eQ (by unfold jP at h;omega);have d2:decide (aj>300)=false:=eQ (by unfold jP at h;omega);have d3:decide (ag<16)=false:=eQ (by unfold jP at h;omega);have d4:decide (ag>1024)=false:=eQ (by unfold jP at h;omega);have N:prog.cellsOf 24=16:=by kernel_rfl
 have O:=pX k;have r:∀(a b:Obj),w.grownBy ((w.alloc a).alloc b) none:=λa b=>aq (aH _ _ _) (aH _ _ _)
 have s:=J MG;have P:(prog.info? 24).map (·.size)=some (bv key).length:=by rw[fL,k.1];exact m8
 have Q:=underlying24;obtain⟨c,g⟩:=exq ((w.alloc (.cells #[.int .i64 aj,.int .i64 ag] 28)).alloc (.cells (bv key).toArray 24));have p:w.grownBy c none:=by rw[g];exact r _ _
 have i:c.heap[w.heap.size]?=some (.cells #[.int .i64 aj,.int .i64 ag] 28 (0,0)):=by rw[g];exact bB (aO _ _) (aH _ _ _)
 have l:c.heap[w.heap.size+1]?=some (.cells (bv key).toArray 24 (0,0)):=by
  have:=aO (w.alloc (.cells #[.int .i64 aj,.int .i64 ag] 28)) (.cells (bv key).toArray 24);rw[dL]at this;rw[g];exact this
 have c0:c.cell? ⟨w.heap.size,0,none⟩=some (.int .i64 aj):=by simp[World.cell?,i]
 have c1:c.cell? ⟨w.heap.size,1,none⟩=some (.int .i64 ag):=by simp[World.cell?,i]
 have m:c.rangeAt (w.heap.size+1) 0 (bv key)/\c.grownBy c none:=⟨λj u t=>by simpa [World.cell?,l]using t,aB _ _⟩
 replace c0:=kc c0;replace c1:=kc c1;unfold cO at *;have v:(bv key).length=16:=by rw[fL,k.1]
 generalize bv key=K at *;replace⟨i,l⟩:=bA i l;clear h;go_enter func70,ntmps70;go_upto_region 3 with fail;rw[<-g];obtain⟨x,y,z,k3,k4,k5,A,B,C,D,E,F,G,H,I,L,rfl⟩:=xk K v;clear g;go_region_held3 (λd=>d.rangeAt (w.heap.size+1) 0 [x,y,z,k3,k4,k5,A,B,C,D,E,F,G,H,I,L]/\c.grownBy d none)
  (with_reducible first|exact n|exact m|exact jC m (aV (aB _ none))|exact jC n (aH _ _ _))
  (first|(go_at_call 110;apply(Z s _).mono;rintro e M⟨rfl,q⟩;have n:=jC (jC m (aV (aB _ none))) q))
 go_wp2;go_ret2;refine⟨M.heap.size,rfl,by have:=q.size;have:=p.size;simp at *;omega,?_,?_⟩
 rw[Na];exact aO _ _;exact aq (aq p n.2) (aH _ _ _)
def Ot.new:Ot:=⟨⟨0,[],[]⟩,0,false,false,false,false,0⟩
def It.new:It:=⟨⟨0,[],[]⟩,0,0,0,false,false,false⟩
def Sd.new(aj ag:Int)(key:List Int)(f:Bool):Sd:=⟨aj,ag,key,f,λ_=>Ot.new,λ_=>It.new,[],[],0,0,4,[],0,false⟩
def aX.new:aX:=⟨λ_=>.slice none 0 0,λ_=>.slice none 0 0,[],[]⟩
def p8(w:World):bw w none 0 0 []:=⟨λr h=>(by cases h),rfl,aR _,by simp[maxLen],.inl rfl⟩
def zt(aj ag:Int)(key:List Value)(f:Bool)(a:key.length=16):∃L:List Value,(gF aj ag key f 4 0 (.slice none 0 0))=[.int .i64 aj,.int .i64 ag]++key++(.bool f::L)/\L=zO++zO++zO++zO++zI++zI++zI++zI++[.int .u64 0,.int .i64 0,.int .i64 4,.slice none 0 0,.slice none 0 0,.slice none 0 0,.int .u64 0,.bool false,.int .i64 0,.slice none 0 0]:=⟨_,by simp[gF],rfl⟩
def Nc(f:dD K)(g:w.heap[m]?=some (.cells (gF p q (bv K) B 4 0 (.slice none 0 0)).toArray 241 (0,0)))(r:l<=w.heap.size):bC w l m (gF p q (bv K) B 4 0 (.slice none 0 0)).toArray aX.new (Sd.new p q K B):=by
 have d:(bv K).length=16:=by rw[fL,f.1]
 have s:(gF p q (bv K) B 4 0 (.slice none 0 0)).length=101:=zl _ _ _ _ _ _ _ d;have t:=(aZ.1 g).1;have u:∀i,i<16->(gF p q (bv K) B 4 0 (.slice none 0 0)).toArray[2+i]?=(bv K)[i]? :=by
  intro i hi;obtain⟨L,e,-⟩:=zt p q (bv K) B d;rw[e,ts,fC,mW (by simp),mm (by simp;omega)];congr 1;simp
 have a:∀i v,i<83->(zO++zO++zO++zO++zI++zI++zI++zI++[.int .u64 0,.int .i64 0,.int .i64 4,.slice none 0 0,.slice none 0 0,.slice none 0 0,.int .u64 0,.bool false,.int .i64 0,.slice none 0 0])[i]?=some v->(gF p q (bv K) B 4 0 (.slice none 0 0)).toArray[19+i]?=some v:=by
  intro i v _ h;obtain⟨L,e,z⟩:=zt p q (bv K) B d;rw[e,ts,mW (by simp;omega)];have:19+i-([Value.int .i64 p,.int .i64 q]++bv K).length=i+1:=by simp[d];omega
  rw[this,List.getElem?_cons_succ,z];exact h
 have b:bn w l (.slice none 0 0) []:=bn.nil _ _;refine⟨g,by simp[s],by simp[gF,Sd.new],by simp[gF,Sd.new],u,?_,λk f=>?_,λk f=>?_,?_,rfl,rfl,a 77 _ (by omega) rfl,⟨none,0,0,rfl,p8 w⟩,a 78 _ (by omega) rfl,a 79 _ (by omega) rfl,a 80 _ (by omega) rfl,a 81 _ (by omega) rfl,⟨t,λi _ k e=>(by cases e),λi _ e=>(by cases e),λi j _ _ _ k e=>(by cases e),λi _ y n c e=>(by cases e),λx A=>(by cases A)⟩,r⟩
 obtain⟨L,e,-⟩:=zt p q (bv K) B d;rw[e,ts,mW (by simp;omega)];simp[d,Sd.new];have:k=0\/k=1\/k=2\/k=3:=by omega
 obtain rfl|rfl|rfl|rfl:=this
 exact⟨a 0 _ (by omega) rfl,a 1 _ (by omega) rfl,a 2 _ (by omega) rfl,a 3 _ (by omega) rfl,a 4 _ (by omega) rfl,a 5 _ (by omega) rfl,a 6 _ (by omega) rfl,a 7 _ (by omega) rfl,a 8 _ (by omega) rfl,b,⟨none,0,0,rfl,p8 w⟩,by simp[aS,Sd.new,Ot.new]⟩
 exact⟨a 9 _ (by omega) rfl,a 10 _ (by omega) rfl,a 11 _ (by omega) rfl,a 12 _ (by omega) rfl,a 13 _ (by omega) rfl,a 14 _ (by omega) rfl,a 15 _ (by omega) rfl,a 16 _ (by omega) rfl,a 17 _ (by omega) rfl,b,⟨none,0,0,rfl,p8 w⟩,by simp[aS,Sd.new,Ot.new]⟩
 exact⟨a 18 _ (by omega) rfl,a 19 _ (by omega) rfl,a 20 _ (by omega) rfl,a 21 _ (by omega) rfl,a 22 _ (by omega) rfl,a 23 _ (by omega) rfl,a 24 _ (by omega) rfl,a 25 _ (by omega) rfl,a 26 _ (by omega) rfl,b,⟨none,0,0,rfl,p8 w⟩,by simp[aS,Sd.new,Ot.new]⟩
 exact⟨a 27 _ (by omega) rfl,a 28 _ (by omega) rfl,a 29 _ (by omega) rfl,a 30 _ (by omega) rfl,a 31 _ (by omega) rfl,a 32 _ (by omega) rfl,a 33 _ (by omega) rfl,a 34 _ (by omega) rfl,a 35 _ (by omega) rfl,b,⟨none,0,0,rfl,p8 w⟩,by simp[aS,Sd.new,Ot.new]⟩
 have:k=0\/k=1\/k=2\/k=3:=by omega
 obtain rfl|rfl|rfl|rfl:=this
 exact⟨a 36 _ (by omega) rfl,a 37 _ (by omega) rfl,a 38 _ (by omega) rfl,a 39 _ (by omega) rfl,a 40 _ (by omega) rfl,a 41 _ (by omega) rfl,a 42 _ (by omega) rfl,a 43 _ (by omega) rfl,a 44 _ (by omega) rfl,b,⟨none,0,0,rfl,p8 w⟩⟩
 exact⟨a 45 _ (by omega) rfl,a 46 _ (by omega) rfl,a 47 _ (by omega) rfl,a 48 _ (by omega) rfl,a 49 _ (by omega) rfl,a 50 _ (by omega) rfl,a 51 _ (by omega) rfl,a 52 _ (by omega) rfl,a 53 _ (by omega) rfl,b,⟨none,0,0,rfl,p8 w⟩⟩
 exact⟨a 54 _ (by omega) rfl,a 55 _ (by omega) rfl,a 56 _ (by omega) rfl,a 57 _ (by omega) rfl,a 58 _ (by omega) rfl,a 59 _ (by omega) rfl,a 60 _ (by omega) rfl,a 61 _ (by omega) rfl,a 62 _ (by omega) rfl,b,⟨none,0,0,rfl,p8 w⟩⟩
 exact⟨a 63 _ (by omega) rfl,a 64 _ (by omega) rfl,a 65 _ (by omega) rfl,a 66 _ (by omega) rfl,a 67 _ (by omega) rfl,a 68 _ (by omega) rfl,a 69 _ (by omega) rfl,a 70 _ (by omega) rfl,a 71 _ (by omega) rfl,b,⟨none,0,0,rfl,p8 w⟩⟩
 exact⟨a 72 _ (by omega) rfl,a 73 _ (by omega) rfl,a 74 _ (by omega) rfl,a 75 _ (by omega) rfl,a 76 _ (by omega) rfl,oJ _ _ _ _,oJ _ _ _ _⟩
def oV(w:World)(xb sb:Nat)(c:w.cell? ⟨xb,0,none⟩=some (.pointer (some ⟨sb,0,none⟩))):
 Calls prog 72 #[.pointer (some ⟨xb,0,none⟩)] w λe a=>e=.returned (.pointer (some ⟨sb,0,none⟩))/\a=w:=by
 go_enter func72,ntmps72;go_wp2;go_ret;exact⟨rfl,rfl⟩
def Nd(w:World)(xb sb:Nat)(c:w.cell? ⟨xb,0,none⟩=some (.pointer (some ⟨sb,0,none⟩)))(k:Int)(f:Value)(Q:Ending->World->Prop)(hs:∀e g,Q e g->∃a b,e=.returned (.tuple #[a,b]))(d:Calls prog 126 #[.pointer (some ⟨sb,0,none⟩),.int .i64 k,f] w Q):
 Calls prog 92 #[.pointer (some ⟨xb,0,none⟩),.int .i64 k,f] w Q:=by
 have i:=J (oV w xb sb c);replace d:=J d;go_enter func92,ntmps92;go_wp2_with fail;apply(Z i).mono;rintro e j⟨rfl,rfl⟩;go_wp2_with fail;apply(Z d).mono;rintro e l h;obtain⟨a,b,rfl⟩:=hs _ _ h;replace h:=J h;go_wp2_with fail;first|exact Z h|exact cF (v:=.tuple #[a,b]) (by simp[results,results92,go_sem]) rfl (Z h)
def Nf(w:World)(xb sb:Nat)(c:w.cell? ⟨xb,0,none⟩=some (.pointer (some ⟨sb,0,none⟩)))(k:Int)(Q:Ending->World->Prop)(hs:∀e b,Q e b->∃v,e=.returned v)(a:Calls prog 127 #[.pointer (some ⟨sb,0,none⟩),.int .i64 k] w Q):
 Calls prog 93 #[.pointer (some ⟨xb,0,none⟩),.int .i64 k] w Q:=by
 have d:=J (oV w xb sb c);replace a:=J a;go_enter func93,ntmps93;go_wp2_with fail;apply(Z d).mono;rintro e f⟨rfl,rfl⟩;go_wp2_with fail;apply(Z a).mono;rintro e g h;obtain⟨v,rfl⟩:=hs _ _ h;replace h:=J h;go_wp2_with fail;exact Z h
def Ng(w:World)(xb sb:Nat)(c:w.cell? ⟨xb,0,none⟩=some (.pointer (some ⟨sb,0,none⟩)))(k:Int)(code:Int)(Q:Ending->World->Prop)(hs:∀e b,Q e b->∃v,e=.returned v)(a:Calls prog 128 #[.pointer (some ⟨sb,0,none⟩),.int .i64 k,.int .u64 code] w Q):
 Calls prog 94 #[.pointer (some ⟨xb,0,none⟩),.int .i64 k,.int .u64 code] w Q:=by
 have d:=J (oV w xb sb c);replace a:=J a;go_enter func94,ntmps94;go_wp2_with fail;apply(Z d).mono;rintro e f⟨rfl,rfl⟩;go_wp2_with fail;apply(Z a).mono;rintro e g h;obtain⟨v,rfl⟩:=hs _ _ h;replace h:=J h;go_wp2_with fail;exact Z h
def Nh(w:World)(xb sb:Nat)(c:w.cell? ⟨xb,0,none⟩=some (.pointer (some ⟨sb,0,none⟩)))(k:Int)(Q:Ending->World->Prop)(hs:∀e f,Q e f->∃a b,e=.returned (.tuple #[a,b]))(d:Calls prog 134 #[.pointer (some ⟨sb,0,none⟩),.int .i64 k] w Q):
 Calls prog 101 #[.pointer (some ⟨xb,0,none⟩),.int .i64 k] w Q:=by
 have g:=J (oV w xb sb c);replace d:=J d;go_enter func101,ntmps101;go_wp2_with fail;apply(Z g).mono;rintro e i⟨rfl,rfl⟩;go_wp2_with fail;apply(Z d).mono;rintro e j h;obtain⟨a,b,rfl⟩:=hs _ _ h;replace h:=J h;go_wp2_with fail;first|exact Z h|exact cF (v:=.tuple #[a,b]) (by simp[results,results101,go_sem]) rfl (Z h)
def Ni(w:World)(xb sb:Nat)(c:w.cell? ⟨xb,0,none⟩=some (.pointer (some ⟨sb,0,none⟩)))(Q:Ending->World->Prop)(hs:∀e b,Q e b->e=.returned (.tuple #[]))(a:Calls prog 129 #[.pointer (some ⟨sb,0,none⟩)] w Q):
 Calls prog 95 #[.pointer (some ⟨xb,0,none⟩)] w Q:=by
 have d:=J (oV w xb sb c);replace a:=J a;go_enter func95,ntmps95;go_wp2_with fail;apply(Z d).mono;rintro e f⟨rfl,rfl⟩;go_wp2_with fail;apply(Z a).mono;rintro e g h;obtain rfl:=hs _ _ h;replace h:=J h;go_wp2_with fail;first|exact Z h|exact fm (eF rfl _ _ _) rfl (Z h)
def Nj(w:World)(xb sb:Nat)(c:w.cell? ⟨xb,0,none⟩=some (.pointer (some ⟨sb,0,none⟩)))(Q:Ending->World->Prop)(hs:∀e b,Q e b->∃v,e=.returned v)(a:Calls prog 130 #[.pointer (some ⟨sb,0,none⟩)] w Q):
 Calls prog 96 #[.pointer (some ⟨xb,0,none⟩)] w Q:=by
 have d:=J (oV w xb sb c);replace a:=J a;go_enter func96,ntmps96;go_wp2_with fail;apply(Z d).mono;rintro e f⟨rfl,rfl⟩;go_wp2_with fail;apply(Z a).mono;rintro e g h;obtain⟨v,rfl⟩:=hs _ _ h;replace h:=J h;go_wp2_with fail;exact Z h
def Nk(w:World)(xb sb:Nat)(c:w.cell? ⟨xb,0,none⟩=some (.pointer (some ⟨sb,0,none⟩)))(b:Value)(Q:Ending->World->Prop)(hs:∀e d,Q e d->∃v,e=.returned v)(a:Calls prog 131 #[.pointer (some ⟨sb,0,none⟩),b] w Q):
 Calls prog 98 #[.pointer (some ⟨xb,0,none⟩),b] w Q:=by
 have f:=J (oV w xb sb c);replace a:=J a;go_enter func98,ntmps98;go_wp2_with fail;apply(Z f).mono;rintro e g⟨rfl,rfl⟩;go_wp2_with fail;apply(Z a).mono;rintro e i h;obtain⟨v,rfl⟩:=hs _ _ h;replace h:=J h;go_wp2_with fail;exact Z h
def Nl(w:World)(xb sb:Nat)(c:w.cell? ⟨xb,0,none⟩=some (.pointer (some ⟨sb,0,none⟩)))(k:Int)(aF:Int)(Q:Ending->World->Prop)(hs:∀e i,Q e i->∃a n c b d f,e=.returned (.tuple #[.slice a n c,b,d,f]))(g:Calls prog 132 #[.pointer (some ⟨sb,0,none⟩),.int .i64 k,.int .i64 aF] w Q):
 Calls prog 99 #[.pointer (some ⟨xb,0,none⟩),.int .i64 k,.int .i64 aF] w Q:=by
 have j:=J (oV w xb sb c);replace g:=J g;go_enter func99,ntmps99;go_wp2_with fail;apply(Z j).mono;rintro e l⟨rfl,rfl⟩;go_wp2_with fail;apply(Z g).mono;rintro e m h;obtain⟨a,n,c,b,d,f,rfl⟩:=hs _ _ h;replace h:=J h;go_wp2_with fail;first|exact Z h|exact cF (v:=.tuple #[.slice a n c,b,d,f]) (by simp[results,results99,go_sem]) rfl (Z h)
def Nm(w:World)(xb sb:Nat)(c:w.cell? ⟨xb,0,none⟩=some (.pointer (some ⟨sb,0,none⟩)))(code:Int)(Q:Ending->World->Prop)(hs:∀e b,Q e b->∃v,e=.returned v)(a:Calls prog 133 #[.pointer (some ⟨sb,0,none⟩),.int .u64 code] w Q):
 Calls prog 100 #[.pointer (some ⟨xb,0,none⟩),.int .u64 code] w Q:=by
 have d:=J (oV w xb sb c);replace a:=J a;go_enter func100,ntmps100;go_wp2_with fail;apply(Z d).mono;rintro e f⟨rfl,rfl⟩;go_wp2_with fail;apply(Z a).mono;rintro e g h;obtain⟨v,rfl⟩:=hs _ _ h;replace h:=J h;go_wp2_with fail;exact Z h
def Nn(w:World)(xb sb:Nat)(c:w.cell? ⟨xb,0,none⟩=some (.pointer (some ⟨sb,0,none⟩)))(Q:Ending->World->Prop)(hs:∀e b,Q e b->∃v,e=.returned v)(a:Calls prog 103 #[.pointer (some ⟨sb,0,none⟩)] w Q):
 Calls prog 62 #[.pointer (some ⟨xb,0,none⟩)] w Q:=by
 have d:=J (oV w xb sb c);replace a:=J a;go_enter func62,ntmps62;go_wp2_with fail;apply(Z d).mono;rintro e f⟨rfl,rfl⟩;go_wp2_with fail;apply(Z a).mono;rintro e g h;obtain⟨v,rfl⟩:=hs _ _ h;replace h:=J h;go_wp2_with fail;exact Z h
def No{fr:Nat×Nat}(h:w.heap[n]?=some (.cells c T fr))(v:Value):(w.setCell ⟨n,o,none⟩ v).heap[n]?=some (.cells (c.setIfInBounds o v) T fr):=by
 simp[World.setCell,Array.getElem?_modify,h]
def Np(g n c:Nat)(cs:Array Value)(fr:Nat×Nat)(w:World)(f:w.heap[g]?=some (.cells cs 5 fr))(hs:n<=cs.size)(h:n<=fr.1)(p:n<=100000000):
 Calls prog 97 #[.slice (some ⟨g,0,none⟩) n c] w λe k=>e=.returned (.tuple #[])/\w.grownBy k (some g):=by
 go_enter func97,ntmps97;go_wp2;go_loopg [5] n (λl i wr=>∃j:Nat,j<=n/\l=n-j/\i=.int .i64 j/\w.grownBy wr (some g)/\∃a,wr.heap[g]?=some (.cells a 5 fr)/\n<=a.size);case atStart=>exact⟨0,by omega,by omega,rfl,aB _ _,cs,f,hs⟩
 case round=>
  obtain⟨j,q,rfl,rfl,d,a,b,m⟩:=hrel;by_cases r:j<n
  ·have s:wr.cell? ⟨g,j,none⟩=some (a.getD j undef):=by simp[World.cell?,b,Array.getD,show j<a.size by omega]
   have h:wr.frozen? ⟨g,j,none⟩=false:=by simp[World.frozen?,b];omega
   replace b:=J b;go_wp2;go_roundg (n-(j+1));case measure=>omega
   case rel=>exact⟨j+1,by omega,rfl,by go_num,aK d _ _ (.inr rfl),_,No (Z b) _,by simpa using m⟩
  go_wp2;refine fm (eF rfl _ _ _) rfl ?_;exact⟨rfl,d⟩
def Nq(w W:World)(s:ByteArray)(hs:s.size<=100000000)(a:W.heap[w.heap.size]?=(Lib.bytesWorld w 5 s).heap[w.heap.size]?)(c:Nat):
 Calls prog 97 #[.slice (some ⟨w.heap.size,0,none⟩) s.size c] W λe d=>e=.returned (.tuple #[])/\W.grownBy d (some w.heap.size):=by
 rw[Lib.bytesWorld_at_new]at a;have b:s.size<=(Lib.bytesCells w 5 s).size:=by unfold Lib.bytesCells;rw[Array.size_append,Array.size_map];exact Nat.le_add_right _ _
 exact Np w.heap.size s.size c _ _ W a b b hs
def uC(w:World)(ev:Value)(n p:Int):Prop:=(ev=bJ n/\p= -1)\/∃F,ev=.iface 177 (.pointer (some ⟨F,0,none⟩))/\w.heap[F]?=some (.cells #[.int .i64 n,.int .i64 p] 182 (0,0))
def Nr(w:World)(ev:Value)(n p:Int)(a:Laid w)(h:uC w ev n p):Calls prog 39 #[ev] w λe b=>e=.returned (.tuple #[.int .i64 n,.int .i64 p])/\w.grownBy b none:=by
 obtain⟨rfl,rfl⟩|⟨F,rfl,hF⟩:=h
 unfold bJ;split;rename_i h;subst h;exact wY w;exact DF n w a;exact LK F n p w a hF
def Ea(n:Int)(w:World)(a:Laid w):Calls prog 35 #[bJ n] w λe b=>e=.returned (.int .i64 n)/\w.grownBy b none:=by
 unfold bJ;split;rename_i h;subst h;exact zo w;exact DG n w a
inductive aJ where
 |aE (s:Sd)
 |shut (aA:Int) (l:List (List Int))
def xm(w:World)(sb:Nat)(A:Nat->Prop):aJ->Prop
 |.aE s=>∃cs v,bC w 0 sb cs v s/\∀k,eG sb v k->A k
 |.shut aA l=>aA≠0/\∃last a,jn w 0 sb aA last a/\a.map (·.2)=l/\∀k,sP sb last a k->A k
structure b9(w:World)(xb sb:Nat)(st:aJ)(A:Nat->Prop):Prop where
 aP:w.heap[xb]?=some (.cells #[.pointer (some ⟨sb,0,none⟩)] 173 (0,0))
 side:xm w sb (λk=>A k/\k≠xb) st
 kK:A xb
 lt:∀k,A k->k<w.heap.size
 n0:¬A 0
def xm.other{st:aJ}(h:xm w n S st)(C:ao w W P)(d:∀k,k<w.heap.size->P k->¬S k):xm W n S st:=by
 cases st with
 |aE s=>
  obtain⟨cs,v,H,a⟩:=h;exact⟨cs,v,H.other C (λk b e c=>d k b e (a k c)),a⟩
 |shut aA l=>
  obtain⟨f,last,g,H,e,a⟩:=h;exact⟨f,last,g,H.other C (λk b e c=>d k b e (a k c)),e,a⟩
def b9.other{st:aJ}(h:b9 w n i st S)(C:ao w W P)(b:∀k,k<w.heap.size->P k->¬S k):b9 W n i st S:=
 ⟨(C.block n (aZ.1 h.aP).1 (λe=>b n (h.lt n h.kK) e h.kK)).trans h.aP,h.side.other C (λk a e c=>b k a e c.1),h.kK,λk a=>bX (h.lt k a) C.size,h.n0⟩
def b9.an{st:aJ}(h:b9 w n i st S)(g:w.grownBy W none):b9 W n i st S:=h.other (ao.of g) (λk _ e=>by cases e)
def b9.cell{st:aJ}(h:b9 w n k st S):w.cell? ⟨n,0,none⟩=some (.pointer (some ⟨k,0,none⟩)):=by simp[World.cell?,h.aP]
def cP(N:Nat)(w:World)(xb sb:Nat)(A:Nat->Prop)(st:aJ)(a:World):Prop:=∃b,b9 a xb sb st b/\(∀k,b k->A k\/N<=k)/\ao w a A
def b9.to{st:aJ}(h:b9 w n i st S)(g:w.grownBy W none){N:Nat}:cP N w n i S st W:=⟨S,h.an g,λk a=>.inl a,(ao.of g).mono (λk _ e=>by cases e)⟩
def b9.jE{j:Sd}(h:b9 w n i (.aE s) P)(H:bC w 0 i c d s)(g:∀k,eG i d k->P k/\k≠n)(T:dV w.heap.size w 0 i d j W):cP w.heap.size w n i P (.aE j) W:=by
 obtain⟨p,l,S,f⟩:=T;have m:=h.lt n h.kK;refine⟨λk=>k=n\/eG i l k,⟨(f.av.block n m (λe=>(g n (.inl e)).2 rfl)).trans h.aP,⟨p,l,S,λk a=>⟨.inr a,λe=>?_⟩⟩,.inl rfl,λk a=>?_,λe=>?_⟩,λk a=>?_,f.av.mono (λk _ e=>(g k (.inl e)).1)⟩
 subst e;obtain b|b:=f.ar k a
 exact(g k b).2 rfl;omega;obtain rfl|a:=a
 exact bX m f.av.size;exact og S.bu a;obtain e|e:=e
 exact h.n0 (e▸h.kK);obtain b|b:=f.ar 0 e
 exact h.n0 (g 0 b).1;omega;obtain rfl|a:=a
 exact .inl h.kK;obtain b|b:=f.ar k a
 exact .inl (g k b).1;exact .inr b
def Nt{b:List El}(h:jn w n i p x b)(a:sP i x b k):k<w.heap.size:=by
 obtain rfl|a|⟨e,he,rfl⟩:=a
 exact(aZ.1 h.aP).1;exact(h.own.lt k a).2;exact h.at_.lt he
def Nu{b:List El}(h:jn w n i p x b)(a:sP i x b k):k=i\/n<=k:=by
 obtain rfl|a|⟨e,he,rfl⟩:=a
 exact .inl rfl;exact .inr (h.own.lt k a).1;exact .inr (h.at_.at_ e he).1
def b9.close{l:List (List Int)}(h:b9 w n i (.aE s) P)(H:bC w 0 i c d s)(f:∀k,eG i d k->P k/\k≠n)(q:p≠0)(T:jo w i d p l W):cP w.heap.size w n i P (.shut p l) W:=by
 obtain⟨last,g,S,e,C⟩:=T;have m:=h.lt n h.kK;have r:=f i (.inl (.inl rfl));have j:∀k,sP i last g k->P k/\k≠n\/w.heap.size<=k:=λk a=>by
  obtain rfl|b:=Nu S a
  exact .inl r;exact .inr b
 refine⟨λk=>k=n\/sP i last g k,⟨(C.block n m (λe=>(f n (.inl e)).2 rfl)).trans h.aP,⟨q,last,g,S.low (iP _),e,λk a=>⟨.inr a,λe=>?_⟩⟩,.inl rfl,λk a=>?_,λe=>?_⟩,λk a=>?_,C.mono (λk _ e=>(f k (.inl e)).1)⟩
 obtain b|b:=j k a
 exact b.2 e;omega;obtain rfl|a:=a
 exact bX m C.size;exact Nt S a;obtain e|e:=e
 exact h.n0 (e▸h.kK);obtain b|b:=j 0 e
 exact h.n0 b.1;omega;obtain rfl|a:=a
 exact .inl h.kK;exact(j k a).imp And.left id
def cP.other{st:aJ}(h:cP n w i j S st W)(C:ao W v P)(c:∀k,k<W.heap.size->P k->¬S k/\k<n/\w.heap.size<=k):cP n w i j S st v:=by
 obtain⟨g,l,d,a⟩:=h;refine⟨g,l.other C (λk b e m=>?_),d,?_⟩
 have:=c k b e;obtain f|f:=d k m
 exact this.1 f;omega;refine⟨C.os.trans a.os,C.tape.trans a.tape,C.output.trans a.output,bD a.size C.size,λk b p=>?_⟩
 rw[C.block k (bX b a.size) (λe=>by have:=c k (bX b a.size) e;omega)];exact a.block k b p
def cP.an{st:aJ}(h:cP n w i j S st W)(g:W.grownBy v none):cP n w i j S st v:=h.other (ao.of g) (λk _ e=>by cases e)
def cP.pre{N:Nat}{st:aJ}(g:W.grownBy w none)(h:cP N w n i S st v):cP N W n i S st v:=by
 obtain⟨a,b,c,d⟩:=h;exact⟨a,b,c,((ao.of g).trans d).mono (λk _ e=>e.elim (λe=>by cases e) id)⟩
def cP.mono{st:aJ}(h:cP n w j l S st W)(a:i<=n):cP i w j l S st W:=by
 obtain⟨b,c,d,e⟩:=h;exact⟨b,c,λk f=>(d k f).imp id (λh=>bD a h),e⟩
variable{I:aJ}
structure bY(s:Sd)(n:Nat):Prop where
 key:dD s.key
 aj:64<=s.aj/\s.aj<=300
 ag:16<=s.ag/\s.ag<=1024
 out:∀k,k<4->gC (s.out k)
 oW:∀k,k<4->((s.out k).h.bytes.length:Int)<=s.ag
 ay:∀k,k<4->0<=(s.out k).ay/\(s.out k).ay<=4096
 code:∀k,k<4->0<=(s.out k).code/\(s.out k).code<=4611686018427387903
 aL:∀k,k<4->ik s.ag (s.aL k)
 pk:∀x∈s.aM++s.lost,0<=x.st/\x.st<4/\∀p∈x.ps,lG p
 num:∀x∈s.aM,0<=x.num/\x.num<=100*n
 fl:s.aM.length<=10
 fp:∀x∈s.aM,x.ps.length<=1000
 ft:∀x∈s.aM,0<=x.tick/\x.tick<=s.tick
 tick:0<=s.tick/\s.tick<=n
 wait:0<=s.wait/\s.wait<=32
 bf:0<=s.count/\s.count<=100*n
 ll:s.lost.length+s.aM.length<=100*n
 mI:bl s.af
 c8:s.af.length<=8
 cr:∀r∈s.af,0<=r.lo/\r.hi<=4611686018427387904
def dU(n:Nat):aJ->Prop
 |.aE s=>bY s n
 |.shut _ l=>l.length<=1/\∀p∈l,(p.length:Int)<=300
def bY.Ef(h:bY s n)(a:k<4):Ed (s.out k):=⟨(h.out k a).nice,(h.out k a).en,h.ay k a,h.code k a,by have:=(h.out k a).cl;omega⟩
def bY.zw(h:bY s n):mi s:=⟨h.key,by have:=h.aj;omega,λk a=>h.Ef a,h.fl,h.fp⟩
def bY.Eg(h:bY s n)(b:n<=100000):mb s:=⟨h.out,h.pk,λx a=>by have:=h.num x a;omega⟩
def bY.NF(h:bY s n)(a:n<=100000):mF s:=⟨by have:=h.ag;omega,h.aL,h.Eg a,h.fl,by have:=h.ll;omega⟩
def bl.qN{r:Rg}(h:bl (r::D)):¬Sm (r::D) r.hi:=by
 intro a;obtain c|⟨x,b,d,e⟩:=(eB r D r.hi).1 a
 omega;have f:=(qu.1 h.1).1 x b;omega
def bl.run{r:Rg}(h:bl (r::D))(h0:0<=p)(b:r.lo=0)(hl:∀m,0<=m->m<p->Sm (r::D) m):p<=r.hi:=by
 by_cases a:p<=r.hi;exact a;have:=h.2 r (by simp);exact absurd (hl r.hi (by omega) (by omega)) h.qN
def ik.whole(h:ik p E):0<=cV E.h/\cV E.h<=E.h.bytes.length:=by
 unfold cV;split;omega;rename_i b;cases a:E.h.af with
 |nil=>rw[a]at b;simp at b
 |cons r t=>
  rw[a]at b;have e0:au (r::t) 0=r:=rfl;rw[e0]at b⊢;have c:=h.ok;rw[a]at c;have f:=c.2 r (by simp);have g:=h.kY r.lo (by rw[a];exact⟨r,by simp,cS _,f⟩);have i:=h.lK (r.hi-1) (by rw[a];exact⟨r,by simp,by omega,by omega⟩);have d:E.given=false:=by
   cases d:E.given;rfl;have:=(h.sU d).1;rw[a]at this;cases this
  have e:=h.low d;rw[a]at e;have:=c.run h.fr (by omega) e;omega
def aJ.aA:aJ->Int
 |.aE _=>0
 |.shut aA _=>aA
def aJ.write(st:aJ)(k:Int)(l:List Int):Int×Int×aJ:=
 match st with
 |.aE s=>if k<0\/4<=k then(0,2,st)else((s.write k.toNat l).1,(s.write k.toNat l).2.1,.aE (s.write k.toNat l).2.2)
 |.shut _ _=>(0,9,st)
def aJ.finish(st:aJ)(k:Int):Int×aJ:=
 match st with
 |.aE s=>if k<0\/4<=k then(2,st)else((s.finish k.toNat).1,.aE (s.finish k.toNat).2)
 |.shut _ _=>(9,st)
def aJ.giveUp(st:aJ)(k code:Int):Int×aJ:=
 match st with
 |.aE s=>if k<0\/4<=k then(2,st)else((s.giveUp k.toNat code).1,.aE (s.giveUp k.toNat code).2)
 |.shut _ _=>(9,st)
def aJ.af(st:aJ)(k:Int):Int×Int:=
 match st with
 |.aE s=>if k<0\/4<=k then(0,2)else((s.out k.toNat).h.fr,0)
 |.shut _ _=>(0,9)
def aJ.tick(st:aJ):aJ:=
 match st with
 |.aE s=>.aE s.eW
 |.shut _ _=>st
def aJ.dv(st:aJ):aJ×List (List Int):=
 match st with
 |.aE s=>(.aE s.dv.1,s.dv.2)
 |.shut aA l=>(.shut aA [],l)
def aJ.read(st:aJ)(k aF:Int):List Int×Int×Int×Int×aJ:=
 match st with
 |.aE s=>if k<0\/4<=k then([],0,0,2,st)else((s.aL k.toNat).out aF,(s.aL k.toNat).state aF,(s.aL k.toNat).jx,0,.aE {s with aL:=ah s.aL k.toNat ((s.aL k.toNat).read aF)})
 |.shut _ _=>([],0,0,9,st)
def aJ.close(st:aJ)(code:Int):Int×aJ:=
 match st with
 |.aE s=>if 4611686018427387903<code then(3,st)else(0,.shut 9 (s.gN 9 code))
 |.shut _ _=>(9,st)
instance Sv(key:List Int)(s:Int)(p:List Int):Decidable (eC key s p):=by unfold eC;infer_instance
noncomputable def Sd.recv(s:Sd)(p:List Int):Int×Int×aJ:=
 if¬eC s.key (aT (!s.first)) p then(4,-1,.aE s)
 else if iW s.af s.floor (bq p)then(0,-1,.aE s)
 else match fN (dT s.key (aT (!s.first)) (bq p) (bS p))with
  |(none,q)=>(5,q,.shut 5 (s.gN 5 5))
  |(some a,_)=>
   if a.any s.fX then(6,-1,.aE s)
   else if(dm (s.fR (bq p) a) a).1=0 then(0,-1,.aE (dm (s.fR (bq p) a) a).2)
   else((dm (s.fR (bq p) a) a).1,-1,.shut (dm (s.fR (bq p) a) a).1 ((dm (s.fR (bq p) a) a).2.gN (dm (s.fR (bq p) a) a).1 (dm (s.fR (bq p) a) a).1))
noncomputable def aJ.recv(st:aJ)(p:List Int):Int×Int×aJ:=
 match st with
 |.aE s=>s.recv p
 |.shut _ _=>(9,-1,st)
def oX(h:p<0\/4<=p):eO 0 p=2:=by unfold eO;rw[az (by simp),aD h]
def oY(h:p≠0):eO p q=9:=by unfold eO;rw[aD h]
def NG(w:World)(xb sb:Nat)(st:aJ)(A:Nat->Prop)(n:Nat)(h:b9 w xb sb st A)(i:dU n st)(k:Int)(a:Option Addr)(m c:Nat)(l:List Int)(r:bI w a m c l):
 Calls prog 92 #[.pointer (some ⟨xb,0,none⟩),.int .i64 k,.slice a m c] w λe b=>e=.returned (.tuple #[.int .i64 (st.write k l).1,bJ (st.write k l).2.1])/\cP w.heap.size w xb sb A (st.write k l).2.2 b:=by
 refine Nd w xb sb h.cell k _ _ (λe b t=>⟨_,_,t.1⟩) ?_;cases st with
 |aE s=>
  obtain⟨cs,v,H,u⟩:=h.side;unfold aJ.write;by_cases d:k<0\/4<=k;simp only[aD d]
  refine(BH w sb 0 k _ H.kF (by rw[oX d];decide)).mono ?_;rintro e b⟨rfl,g⟩;rw[oX d];exact⟨rfl,h.to g⟩
  simp only[az d]
  have j:k.toNat<4:=by omega
  have x:((k.toNat:Nat):Int)=k:=by omega
  have p:=i.out _ j;have f:=i.oW _ j;have y:=i.ag;have q:=p.en;unfold Ot.en at q;apply(x▸IF w 0 sb cs v s H k.toNat j a m c l r p.nice ⟨f,by omega⟩ q).mono;rintro e b⟨rfl,T⟩;exact⟨rfl,h.jE H u T⟩
 |shut aA z=>
  obtain⟨f,last,B,H,-,-⟩:=h.side;refine(BH w sb aA k _ H.dC (by rw[oY f];decide)).mono ?_;rintro e b⟨rfl,g⟩;rw[oY f];exact⟨rfl,h.to g⟩
def NH(w:World)(xb sb:Nat)(st:aJ)(A:Nat->Prop)(h:b9 w xb sb st A)(k:Int):
 Calls prog 93 #[.pointer (some ⟨xb,0,none⟩),.int .i64 k] w λe a=>e=.returned (bJ (st.finish k).1)/\cP w.heap.size w xb sb A (st.finish k).2 a:=by
 refine Nf w xb sb h.cell k _ (λe a d=>⟨_,d.1⟩) ?_;cases st with
 |aE s=>
  obtain⟨cs,v,H,f⟩:=h.side;unfold aJ.finish;by_cases b:k<0\/4<=k;simp only[aD b]
  refine(BI w sb 0 k H.kF (by rw[oX b];decide)).mono ?_;rintro e a⟨rfl,g⟩;rw[oX b];exact⟨rfl,h.to g⟩
  simp only[az b]
  have i:k.toNat<4:=by omega
  have j:((k.toNat:Nat):Int)=k:=by omega
  apply(j▸IG w 0 sb cs v s H k.toNat i).mono;rintro e a⟨rfl,T⟩;exact⟨rfl,h.jE H f T⟩
 |shut aA l=>
  obtain⟨c,last,m,H,-,-⟩:=h.side;refine(BI w sb aA k H.dC (by rw[oY c];decide)).mono ?_;rintro e a⟨rfl,g⟩;rw[oY c];exact⟨rfl,h.to g⟩
def NI(w:World)(xb sb:Nat)(st:aJ)(A:Nat->Prop)(h:b9 w xb sb st A)(k code:Int)(d:aS code):
 Calls prog 94 #[.pointer (some ⟨xb,0,none⟩),.int .i64 k,.int .u64 code] w λe a=>e=.returned (bJ (st.giveUp k code).1)/\cP w.heap.size w xb sb A (st.giveUp k code).2 a:=by
 refine Ng w xb sb h.cell k code _ (λe a f=>⟨_,f.1⟩) ?_;cases st with
 |aE s=>
  obtain⟨cs,v,H,i⟩:=h.side;unfold aJ.giveUp;by_cases b:k<0\/4<=k;simp only[aD b]
  refine(BJ w sb 0 k code H.kF (by rw[oX b];decide)).mono ?_;rintro e a⟨rfl,g⟩;rw[oX b];exact⟨rfl,h.to g⟩
  simp only[az b]
  have j:k.toNat<4:=by omega
  have l:((k.toNat:Nat):Int)=k:=by omega
  apply(l▸IH w 0 sb cs v s H k.toNat j code d).mono;rintro e a⟨rfl,T⟩;exact⟨rfl,h.jE H i T⟩
 |shut aA m=>
  obtain⟨c,last,n,H,-,-⟩:=h.side;refine(BJ w sb aA k code H.dC (by rw[oY c];decide)).mono ?_;rintro e a⟨rfl,g⟩;rw[oY c];exact⟨rfl,h.to g⟩
def NJ(w:World)(xb sb:Nat)(st:aJ)(A:Nat->Prop)(n:Nat)(h:b9 w xb sb st A)(i:dU n st)(k:Int):
 Calls prog 101 #[.pointer (some ⟨xb,0,none⟩),.int .i64 k] w λe a=>e=.returned (.tuple #[.int .i64 (st.af k).1,bJ (st.af k).2])/\w.grownBy a none:=by
 refine Nh w xb sb h.cell k _ (λe a j=>⟨_,_,j.1⟩) ?_;cases st with
 |aE s=>
  obtain⟨cs,v,H,p⟩:=h.side;unfold aJ.af;by_cases b:k<0\/4<=k;simp only[aD b]
  refine(BK w sb 0 k H.kF (by rw[oX b];decide)).mono ?_;rintro e a⟨rfl,g⟩;rw[oX b];exact⟨rfl,g⟩
  simp only[az b]
  have c:k.toNat<4:=by omega
  have l:((k.toNat:Nat):Int)=k:=by omega
  have d:=i.out _ c;have m:=d.en;unfold Ot.en at m;apply(l▸II w 0 sb cs v s H k.toNat c ⟨d.fr,by omega⟩).mono;rintro e a⟨rfl,T⟩;exact⟨rfl,T⟩
 |shut aA q=>
  obtain⟨f,last,r,H,-,-⟩:=h.side;refine(BK w sb aA k H.dC (by rw[oY f];decide)).mono ?_;rintro e a⟨rfl,g⟩;rw[oY f];exact⟨rfl,g⟩
def NK(w:World)(xb sb:Nat)(st:aJ)(A:Nat->Prop)(n:Nat)(h:b9 w xb sb st A)(a:dU n st)(j:n<=100000):
 Calls prog 95 #[.pointer (some ⟨xb,0,none⟩)] w λe b=>e=.returned (.tuple #[])/\cP w.heap.size w xb sb A st.tick b:=by
 refine Ni w xb sb h.cell _ (λe b c=>c.1) ?_;cases st with
 |aE s=>
  obtain⟨cs,v,H,d⟩:=h.side;have k:=a.fl;have l:=a.ll;have m:=a.tick;refine(IK w 0 sb cs v s H ⟨by omega,by omega⟩ (by omega) (λx f=>by have:=a.ft x f;omega) (by have:=a.wait;omega)).mono ?_;rintro e b⟨rfl,T⟩;exact⟨rfl,h.jE H d T⟩
 |shut aA p=>
  obtain⟨i,last,q,H,-,-⟩:=h.side;apply(IL w sb aA H.dC i).mono;rintro e b⟨rfl,g⟩;exact⟨rfl,h.to g⟩
def NL(w:World)(xb sb:Nat)(st:aJ)(A:Nat->Prop)(n:Nat)(h:b9 w xb sb st A)(c:dU n st)(l:n<=100000)(code:Int)(d:aS code):
 Calls prog 100 #[.pointer (some ⟨xb,0,none⟩),.int .u64 code] w λe a=>e=.returned (bJ (st.close code).1)/\cP w.heap.size w xb sb A (st.close code).2 a:=by
 refine Nm w xb sb h.cell code _ (λe a f=>⟨_,f.1⟩) ?_;cases st with
 |aE s=>
  obtain⟨cs,v,H,i⟩:=h.side;unfold aJ.close;by_cases b:4611686018427387903<code;simp only[aD b]
  apply(LR w sb code H.kF b).mono;rintro e a⟨rfl,g⟩;exact⟨rfl,h.to g⟩
  simp only[az b]
  have j:=c.bf;apply(LS w 0 sb cs v s H c.key ⟨j.1,by omega⟩ code ⟨d.1,by omega⟩).mono;rintro e a⟨rfl,T⟩;exact⟨rfl,h.close H i (by decide) T⟩
 |shut aA m=>
  obtain⟨k,last,p,H,-,-⟩:=h.side;apply(LQ w sb aA code H.dC k).mono;rintro e a⟨rfl,g⟩;exact⟨rfl,h.to g⟩
def NO(w:World)(xb sb:Nat)(st:aJ)(A:Nat->Prop)(h:b9 w xb sb st A):
 Calls prog 62 #[.pointer (some ⟨xb,0,none⟩)] w λe a=>e=.returned (bJ st.aA)/\w.grownBy a none:=by
 refine Nn w xb sb h.cell _ (λe a b=>⟨_,b.1⟩) ?_;cases st with
 |aE s=>
  obtain⟨cs,v,H,c⟩:=h.side;exact DK w sb 0 H.kF
 |shut aA d=>
  obtain⟨f,last,g,H,-,-⟩:=h.side;exact DK w sb aA H.dC
def NP(w:World)(xb sb:Nat)(st:aJ)(A:Nat->Prop)(n:Nat)(h:b9 w xb sb st A)(t:dU n st)(k aF:Int):
 Calls prog 99 #[.pointer (some ⟨xb,0,none⟩),.int .i64 k,.int .i64 aF] w λe d=>∃a m c,e=.returned (.tuple #[.slice a m c,.int .i64 (st.read k aF).2.1,.int .u64 (st.read k aF).2.2.1,bJ (st.read k aF).2.2.2.1])/\bn d w.heap.size (.slice a m c) (st.read k aF).1/\∃b,b9 d xb sb (st.read k aF).2.2.2.2 b/\(∀k,b k->A k\/w.heap.size<=k)/\ao w d A/\∀j,(Value.slice a m c).ownBlock=some j->¬b j:=by
 refine Nl w xb sb h.cell k aF _ (λe d r=>?_) ?_;obtain⟨a,m,c,r,-⟩:=r;exact⟨a,m,c,_,_,_,r⟩
 cases st with
 |aE s=>
  obtain⟨cs,v,H,C⟩:=h.side;unfold aJ.read;by_cases f:k<0\/4<=k;simp only[aD f]
  refine(BL w sb 0 k aF H.kF (by rw[oX f];decide)).mono ?_;rintro e d⟨rfl,g⟩;rw[oX f];obtain⟨b,l,i,p⟩:=h.to (N:=w.heap.size) g;exact⟨none,0,0,rfl,bn.nil _ _,b,l,i,p,λj e=>by cases e⟩
  simp only[az f]
  have u:k.toNat<4:=by omega
  have D:((k.toNat:Nat):Int)=k:=by omega
  have x:=t.aL _ u;apply(D▸IJ w 0 sb cs v s H k.toNat u aF (x.nice t.ag.2) x.whole).mono;rintro e d⟨a,m,c,rfl,y,G,q,E,T⟩;obtain⟨b,l,i,p⟩:=(h.an q).jE (H.an q) C T;have I:=q.size;refine⟨a,m,c,rfl,y,b,l,λk f=>(i k f).imp id (λh=>by omega),((ao.of q).trans p).mono (λk _ e=>e.elim (λe=>by cases e) id),λj e F=>?_⟩
  have K:=E j e;have L:=(y.lt j e).1;obtain z|z:=i j F
  have:=h.lt j z;omega;omega
 |shut aA M=>
  obtain⟨B,last,O,H,-,-⟩:=h.side;refine(BL w sb aA k aF H.dC (by rw[oY B];decide)).mono ?_;rintro e d⟨rfl,g⟩;rw[oY B];obtain⟨b,l,i,p⟩:=h.to (N:=w.heap.size) g;exact⟨none,0,0,rfl,bn.nil _ _,b,l,i,p,λj e=>by cases e⟩
def NQ(w:World)(xb sb:Nat)(st:aJ)(A:Nat->Prop)(e:Ending)(b:World):Prop:=
 ∃a n c d f,e=.returned (.slice a n c)/\eX b 0 (.slice a n c) d/\ig b 0 d/\d.map (·.2)=st.dv.2/\b9 b xb sb st.dv.1 f/\(∀k,f k->A k\/w.heap.size<=k)/\ao w b A/\∀e∈d,¬f e.1/\(Value.slice a n c).ownBlock≠some e.1/\(A e.1\/w.heap.size<=e.1)
def b9.NR{l:Sd}{g:aX}(h:b9 w n i (.aE s) P)(j:∀k,eG i d k->P k/\k≠n)(S:bC W 0 i c g l)(f:dh w.heap.size w W i d g):b9 W n i (.aE l) (λk=>k=n\/eG i g k)/\(∀k,(k=n\/eG i g k)->P k\/w.heap.size<=k)/\ao w W P:=by
 have m:=h.lt n h.kK;refine⟨⟨(f.av.block n m (λe=>(j n (.inl e)).2 rfl)).trans h.aP,⟨c,g,S,λk a=>⟨.inr a,λe=>?_⟩⟩,.inl rfl,λk a=>?_,λe=>?_⟩,λk a=>?_,f.av.mono (λk _ e=>(j k (.inl e)).1)⟩
 subst e;obtain b|b:=f.ar k a
 exact(j k b).2 rfl;omega;obtain rfl|a:=a
 exact bX m f.av.size;exact og S.bu a;obtain e|e:=e
 exact h.n0 (e▸h.kK);obtain b|b:=f.ar 0 e
 exact h.n0 (j 0 b).1;omega;obtain rfl|a:=a
 exact .inl h.kK;obtain b|b:=f.ar k a
 exact .inl (j k b).1;exact .inr b
def NS(w:World)(xb sb:Nat)(st:aJ)(A:Nat->Prop)(n:Nat)(h:b9 w xb sb st A)(j:dU n st)(F:n<=100000):
 Calls prog 96 #[.pointer (some ⟨xb,0,none⟩)] w (NQ w xb sb st A):=by
 refine Nj w xb sb h.cell _ (λe q r=>?_) ?_;obtain⟨a,n,c,-,-,r,-⟩:=r;exact⟨_,r⟩
 cases st with
 |aE s=>
  obtain⟨cs,v,H,l⟩:=h.side;have z:=j.bf;apply(ND w 0 sb cs v s H j.zw ⟨z.1,by omega⟩ j.c8 j.mI j.cr).mono;rintro e q⟨a,n,c,G,I,m,rfl,S,B,L,t⟩;obtain⟨u,p,D⟩:=h.NR l S B;refine⟨a,n,c,m,_,rfl,L.own.low (iP _),⟨λe b=>⟨iP _,(L.at_.at_ e b).2⟩,L.at_.sep⟩,t,u,p,D,λe b=>⟨λd=>?_,L.s5 e b,.inr (L.at_.at_ e b).1⟩⟩
  obtain d|d:=d
  have K:=(L.at_.at_ e b).1;have M:=h.lt xb h.kK;omega;exact L.ae e b d
 |shut aA N=>
  obtain⟨x,last,m,H,t,l⟩:=h.side;have y:=h.lt xb h.kK;have i:=l sb (.inl rfl);apply(LW w 0 sb aA last m H x).mono;rintro e q⟨a,n,c,rfl,S,O,E,u,p,g⟩;have C:ao w q (λk=>k=sb):=(ao.of g).mono (λk _ e=>(aQ e).symm);refine⟨a,n,c,m,λk=>k=xb\/k=sb,rfl,O,E,t,⟨(C.block xb y (λe=>i.2 e.symm)).trans h.aP,⟨x,_,[],S,rfl,λk f=>?_⟩,.inl rfl,λk f=>?_,λe=>?_⟩,λk f=>?_,C.mono (λk _ e=>by rw[e];exact i.1),λe b=>⟨λd=>?_,(p e b).2,.inl (l e.1 (.inr (.inr ⟨e,b,rfl⟩))).1⟩⟩
  obtain rfl|f|⟨e,b,-⟩:=f
  exact⟨.inr rfl,i.2⟩
  cases f;cases b;obtain rfl|rfl:=f
  exact bX y C.size;exact bX (h.lt _ i.1) C.size;obtain e|e:=e
  exact h.n0 (e▸h.kK);exact h.n0 (e▸i.1);obtain rfl|rfl:=f
  exact .inl h.kK;exact .inl i.1;obtain d|d:=d
  exact(l e.1 (.inr (.inr ⟨e,b,rfl⟩))).2 d;exact(p e b).1 d
def NT(w:World)(xb sb:Nat)(st:aJ)(A:Nat->Prop)(n:Nat)(h:b9 w xb sb st A)(j:dU n st)(x:n<=100000)(y:Laid w)(a:Option Addr)(m c:Nat)(p:List Int)(z:bI w a m c p):
 Calls prog 98 #[.pointer (some ⟨xb,0,none⟩),.slice a m c] w λe b=>∃ev,e=.returned ev/\uC b ev (st.recv p).1 (st.recv p).2.1/\(∀F,ev=.iface 177 (.pointer (some ⟨F,0,none⟩))->w.heap.size<=F)/\cP w.heap.size w xb sb A (st.recv p).2.2 b:=by
 refine Nk w xb sb h.cell _ _ (λe b u=>?_) ?_;obtain⟨ev,u,-⟩:=u;exact⟨_,u⟩
 have r:∀(n:Int) F,bJ n=.iface 177 (.pointer (some ⟨F,0,none⟩))->w.heap.size<=F:=λn F e=>by
  unfold bJ at e;split at e;cases e;have:=(Value.iface.inj e).1;simp at this
 cases st with
 |aE s=>
  obtain⟨cs,v,H,f⟩:=h.side;have B:=j.bf;have E:=j.ll;apply(M7 w 0 sb cs v s p H j.key (j.NF x) (by omega) ⟨B.1,by omega⟩ j.mI j.c8 y (λe=>h.n0 (f 0 (.inl e)).1) a m c z).mono;show∀e b,sX w 0 sb v s p e b->∃ev,e=.returned ev/\uC b ev (s.recv p).1 (s.recv p).2.1/\(∀F,ev=.iface 177 (.pointer (some ⟨F,0,none⟩))->w.heap.size<=F)/\cP w.heap.size w xb sb A (s.recv p).2.2 b;rintro e b(⟨d,rfl,T⟩|⟨d,i,rfl,T⟩|⟨d,i,q,F,k,rfl,hF,C,T⟩|⟨d,i,G,k,⟨l,rfl,T⟩|⟨l,t,rfl,T⟩|⟨l,t,rfl,T⟩⟩);unfold Sd.recv;rw[aD d];exact⟨_,rfl,.inl ⟨rfl,rfl⟩,r 4,h.jE H f T⟩
  unfold Sd.recv;rw[az (by simpa using d),aD i];exact⟨_,rfl,.inl ⟨rfl,rfl⟩,λF e=>(by cases e),h.jE H f T⟩
  unfold Sd.recv;rw[az (by simpa using d),az (by rw[i];decide),k];refine⟨_,rfl,.inr ⟨F,rfl,C⟩,λI e=>?_,h.close H f (by decide) T⟩
  have e2:=(Value.iface.inj e).2;cases e2;exact hF;unfold Sd.recv;rw[az (by simpa using d),az (by rw[i];decide),k];simp only[aD l]
  exact⟨_,rfl,.inl ⟨rfl,rfl⟩,r 6,h.jE H f T⟩
  unfold Sd.recv;rw[az (by simpa using d),az (by rw[i];decide),k];simp only[l,gI,gm,aD t]
  exact⟨_,rfl,.inl ⟨rfl,rfl⟩,λF e=>(by cases e),h.jE H f T⟩
  unfold Sd.recv;rw[az (by simpa using d),az (by rw[i];decide),k];simp only[l,gI,gm,az t]
  exact⟨_,rfl,.inl ⟨rfl,rfl⟩,r _,h.close H f t T⟩
 |shut aA K=>
  obtain⟨D,last,L,H,-,-⟩:=h.side;apply(M8 w sb aA H.dC D _).mono;rintro e b⟨rfl,g⟩;exact⟨_,rfl,.inl ⟨rfl,rfl⟩,r 9,h.to g⟩
def xp(w:World)(aj ag:Int)(key:List Int)(f:Bool)(bad:Value)(b:Value->Value)(e:Ending)(a:World):Prop:=
 w.grownBy a none/\((¬jP aj ag/\e=.returned bad)\/(jP aj ag/\∃xb sb A,e=.returned (b (.pointer (some ⟨xb,0,none⟩)))/\(∀k,A k->w.heap.size<=k)/\b9 a xb sb (.aE (Sd.new aj ag key f)) A))
def NU(w:World)(aj ag:Int)(key:List Int)(d:dD key)(f:Bool)(F:0<w.heap.size):
 Calls prog 34 #[.agg #[.int .i64 aj,.int .i64 ag],.agg (cO key),.bool f] w (xp w aj ag key f (.tuple #[.pointer none,bJ 1]) (λv=>.tuple #[v,.nilIface])):=by
 obtain⟨R,p⟩:=exq (xp w aj ag key f (.tuple #[.pointer none,bJ 1]) (λv=>.tuple #[v,.nilIface]));rw[<-p];replace p:=J p;have t:=pX d;obtain⟨b,j⟩:=exq ((w.alloc (.cells #[.int .i64 aj,.int .i64 ag] 28)).alloc (.cells (cO key) 24));have u:w.grownBy b none:=by rw[j];exact aq (aH _ _ _) (aH _ _ _)
 have l:b.heap[w.heap.size]?=some (.cells #[.int .i64 aj,.int .i64 ag] 28 (0,0)):=by rw[j];exact bB (aO _ _) (aH _ _ _)
 have m:b.heap[w.heap.size+1]?=some (.cells (cO key) 24 (0,0)):=by
  have:=aO (w.alloc (.cells #[.int .i64 aj,.int .i64 ag] 28)) (.cells (cO key) 24);rw[dL]at this;rw[j];exact this
 have c0:b.cell? ⟨w.heap.size,0,none⟩=some (.int .i64 aj):=by simp[World.cell?,l]
 have c1:b.cell? ⟨w.heap.size,1,none⟩=some (.int .i64 ag):=by simp[World.cell?,l]
 have G:prog.cellsOf 24=16:=by kernel_rfl
 by_cases h:jP aj ag
 ·have r:=J (Nb b aj ag key d f h);have s:=J (λ(a:World)(sb:Nat)(g:b.grownBy a none)(hs:b.heap.size<=sb)(q:a.heap[sb]?=some (.cells (gF aj ag (bv key) f 4 0 (.slice none 0 0)).toArray 241 (0,0)))=>(show R (.returned (.tuple #[.pointer (some ⟨a.heap.size,0,none⟩),.nilIface])) (a.alloc (.cells #[.pointer (some ⟨sb,0,none⟩)] 173)) by
   rw[Z p];have B:=aH a (.cells #[.pointer (some ⟨sb,0,none⟩)] 173) none;have H:=u.size;have I:=g.size;have jk:=(aZ.1 q).1;have L:(a.alloc (.cells #[.pointer (some ⟨sb,0,none⟩)] 173)).heap.size=a.heap.size+1:=dL _ _;have C:∀k,eG sb aX.new k->k=sb:=λk d=>by
    obtain(D|⟨i,-,e⟩)|⟨i,y,n,c,-,e,-⟩|⟨x,E,-⟩:=d
    exact D;cases e;cases e;cases E
   refine⟨aq u (aq g B),.inr ⟨h,a.heap.size,sb,λk=>k=a.heap.size\/k=sb,rfl,λk d=>(by omega),⟨aO _ _,⟨_,aX.new,Nc d (bB q B) (iP _),λk d=>?_⟩,.inl rfl,λk d=>(by omega),λe=>(by omega)⟩⟩⟩
   rw[C k d];exact⟨.inr rfl,by omega⟩))
  generalize cO key=K at *;replace⟨l,m⟩:=bA l m;clear h;go_enter func34,ntmps34;go_upto_region 1 with fail;rw[<-j];clear j;go_wp2_with (refine rj _ (by rfl) (by rfl) _ (by rfl) K ?_ t ?_;exact Z m);apply(Z r).mono;rintro e a⟨sb,rfl,hs,q,z⟩;have A:=J (Z s a sb z hs q);clear q hs;go_wp2_with fail;exact Z A
 have r:=J (M9 b aj ag _ t f h);have s:=J (λ(a:World)(g:b.grownBy a none)=>(show R (.returned (.tuple #[.pointer none,bJ 1])) a by
  rw[Z p];exact⟨aq u g,.inl ⟨h,rfl⟩⟩))
 rw[show bJ 1=.iface 34 (.int .i64 1)from rfl]at r s;generalize cO key=K at *;replace⟨l,m⟩:=bA l m;clear h;go_enter func34,ntmps34;go_upto_region 1 with fail;rw[<-j];clear j;go_wp2_with (refine rj _ (by rfl) (by rfl) _ (by rfl) K ?_ t ?_;exact Z m);apply(Z r).mono;rintro e a⟨rfl,z⟩;have A:=J (Z s a z);go_wp2_with fail;exact Z A
def NV(w:World)(aj ag:Int)(key:List Int)(i:dD key)(f:Bool)(j:Laid w):
 Calls prog 12 #[.agg #[.int .i64 aj,.int .i64 ag],.agg (cO key),.bool f] w (xp w aj ag key f (.tuple #[.pointer none,.int .i64 1]) (λv=>.tuple #[v,.int .i64 0])):=by
 obtain⟨R,b⟩:=exq (xp w aj ag key f (.tuple #[.pointer none,.int .i64 1]) (λv=>.tuple #[v,.int .i64 0]));rw[<-b];replace b:=J b;have y:=pX i;obtain⟨a,c⟩:=exq ((w.alloc (.cells #[.int .i64 aj,.int .i64 ag] 28)).alloc (.cells (cO key) 24));have d:w.grownBy a none:=by rw[c];exact aq (aH _ _ _) (aH _ _ _)
 have l:a.heap[w.heap.size]?=some (.cells #[.int .i64 aj,.int .i64 ag] 28 (0,0)):=by rw[c];exact bB (aO _ _) (aH _ _ _)
 have n:a.heap[w.heap.size+1]?=some (.cells (cO key) 24 (0,0)):=by
  have:=aO (w.alloc (.cells #[.int .i64 aj,.int .i64 ag] 28)) (.cells (cO key) 24);rw[dL]at this;rw[c];exact this
 have c0:a.cell? ⟨w.heap.size,0,none⟩=some (.int .i64 aj):=by simp[World.cell?,l]
 have c1:a.cell? ⟨w.heap.size,1,none⟩=some (.int .i64 ag):=by simp[World.cell?,l]
 have D:prog.cellsOf 24=16:=by kernel_rfl
 have s:=J (NU a aj ag key i f (bX j.lt d.size));have t:=J (λ(h:World)(g:w.grownBy h none)=>Ea 1 h (j.gb g));have z:=J (λ(h:World)=>zo h);rw[show bJ 1=.iface 34 (.int .i64 1)from rfl]at s t;generalize cO key=K at *;replace⟨l,n,j⟩:=cg l n j;go_enter func12,ntmps12;go_upto_region 1 with fail;rw[<-c];clear c;go_wp2_with (refine rj _ (by rfl) (by rfl) _ (by rfl) K ?_ y ?_;exact Z n);apply(Z s).mono;rintro e h⟨p,⟨B,rfl⟩|⟨C,xb,sb,A,rfl,u,x⟩⟩
 ·go_wp2_with fail;apply(Z t _ (aq d p)).mono;rintro e q⟨rfl,m⟩;have r:Hid (R (.returned (.tuple #[.pointer none,.int .i64 1])) q):=J (by rw[Z b];exact⟨aq d (aq p m),.inl ⟨B,rfl⟩⟩);go_wp2_with fail;exact Z r
 go_wp2_with fail;apply(Z z _).mono;rintro e q⟨rfl,m⟩;have r:Hid (R (.returned (.tuple #[.pointer (some ⟨xb,0,none⟩),.int .i64 0])) q):=J (by rw[Z b];exact⟨aq d (aq p m),.inr ⟨C,xb,sb,A,rfl,λk i=>bD d.size (u k i),x.an m⟩⟩);clear x u;go_wp2_with fail;exact Z r
def NW(w:World)(xb sb:Nat)(st:aJ)(A:Nat->Prop)(h:b9 w xb sb st A)(a:Laid w):
 Calls prog 30 #[.pointer (some ⟨xb,0,none⟩)] w λe d=>e=.returned (.int .i64 st.aA)/\w.grownBy d none:=by
 have f:=J (NO w xb sb st A h);have i:=J (λ(b:World)(g:w.grownBy b none)=>Ea st.aA b (a.gb g));generalize bJ st.aA=ev at *;replace⟨a,h⟩:=bA a h;go_enter func30,ntmps30;go_wp2_with fail;apply(Z f).mono;rintro e k⟨rfl,c⟩;go_wp2_with fail;apply(Z i _ c).mono;rintro e l⟨rfl,j⟩;go_wp2;go_ret;exact⟨rfl,aq c j⟩
structure fK where
 op:Int
 stream:Int
 n:Int
 code:Int
 data:ByteArray
def cD(q:fK):Array Value:= #[.int .i64 q.op,.int .i64 q.stream,.int .i64 q.n,.int .u64 q.code,.string q.data]
structure Rs where
 e:Int
 at_:Int
 n:Int
 code:Int
 data:List Int
 dv:List (List Int)
noncomputable def aJ.do(st:aJ)(q:fK):Rs×aJ:=
 if q.op=1 then(⟨(st.write q.stream (aG q.data)).2.1,-1,(st.write q.stream (aG q.data)).1,0,[],[]⟩,(st.write q.stream (aG q.data)).2.2)
 else if q.op=2 then(⟨(st.finish q.stream).1,-1,0,0,[],[]⟩,(st.finish q.stream).2)
 else if q.op=3 then(⟨(st.giveUp q.stream q.code).1,-1,0,0,[],[]⟩,(st.giveUp q.stream q.code).2)
 else if q.op=4 then(⟨0,-1,0,0,[],[]⟩,st.tick)
 else if q.op=5 then(⟨0,-1,0,0,[],st.dv.2⟩,st.dv.1)
 else if q.op=6 then(⟨(st.recv (aG q.data)).1,(st.recv (aG q.data)).2.1,0,0,[],[]⟩,(st.recv (aG q.data)).2.2)
 else if q.op=7 then(⟨(st.read q.stream q.n).2.2.2.1,-1,(st.read q.stream q.n).2.1,(st.read q.stream q.n).2.2.1,(st.read q.stream q.n).1,[]⟩,(st.read q.stream q.n).2.2.2.2)
 else if q.op=8 then(⟨(st.close q.code).1,-1,0,0,[],[]⟩,(st.close q.code).2)
 else if q.op=9 then(⟨(st.af q.stream).2,-1,(st.af q.stream).1,0,[],[]⟩,st)
 else(⟨0,-1,0,0,[],[]⟩,st)
def fY(w:World)(a:Nat)(v:Value)(l:List (List Int)):Prop:=w.ownsRow a 9 1 v l.length (l.map λp=>.string (strOfNums p))
def fY.nil(w:World)(a:Nat):fY w a (.slice none 0 0) []:=oJ _ _ _ _
def iX(w:World)(xb sb:Nat)(A:Nat->Prop)(r:Rs×aJ)(e:Ending)(b:World):Prop:=
 ∃a n c,e=.returned (.tuple #[.int .i64 r.1.e,.int .i64 r.1.at_,.int .i64 r.1.n,.int .u64 r.1.code,.string (strOfNums r.1.data),.slice a n c])/\fY b w.heap.size (.slice a n c) r.1.dv/\∃d,b9 b xb sb r.2 d/\(∀k,d k->A k\/w.heap.size<=k)/\ao w b A/\∀j,(Value.slice a n c).ownBlock=some j->¬d j
def mJ:strOfNums []=⟨#[]⟩:=rfl
structure iM(w:World)(q:fK)(c a:World):Prop where
 e1:c=w.alloc (.cells (cD q) 32)
 e2:a=Lib.bytesWorld c 5 q.data
 g:w.grownBy a none
 z:c.heap.size=w.heap.size+1
 z2:a.heap.size=w.heap.size+2
 b:a.heap[w.heap.size]?=some (.cells (cD q) 32 (0,0))
def iM.mk'(w:World)(q:fK):∃a b,iM w q a b:=by
 refine⟨_,_,rfl,rfl,aq (aH _ _ _) (vE _ _),dL _ _,by rw[Lib.bytesWorld_size,dL],bB (aO _ _) (vE _ _)⟩
def iM.fin{a b:World}{q:fK}(D:iM w q W v)(c:∀k,S k->k<w.heap.size)(T:cP v.heap.size v n i S I V)(d:V.grownBy a (some (w.heap.size+1)))(f:a.grownBy b none):cP w.heap.size w n i S I b:=by
 have l:=D.z2;have h:cP v.heap.size w n i S I a:=(T.pre D.g).other (ao.of d) (λk _ e=>by
  have:=aQ e;exact⟨λj=>by have:=c k j;omega,by omega,by omega⟩)
 exact(h.an f).mono (by omega)
def iM.post{q:fK}(f:iM w q W v){r:Rs×aJ}(hd:r.1.data=[])(hp:r.1.dv=[])(T:cP w.heap.size w k i S r.2 V):iX w k i S r (.returned (.tuple #[.int .i64 r.1.e,.int .i64 r.1.at_,.int .i64 r.1.n,.int .u64 r.1.code,.string ⟨#[]⟩,.slice none 0 0])) V:=by
 obtain⟨a,b,c,d⟩:=T;exact⟨none,0,0,by rw[hd];rfl,by rw[hp];exact fY.nil _ _,a,b,c,d,λj e=>by cases e⟩
def iM.oZ{q:fK}(D:iM w q W v)(a:∀k,S k->k<w.heap.size)(C:ao v V S)(hd:q.data.size<=1000000)(c:Nat):
 Calls prog 97 #[.slice (some ⟨w.heap.size+1,0,none⟩) q.data.size c] V λe b=>e=.returned (.tuple #[])/\V.grownBy b (some (w.heap.size+1)):=by
 have:=Nq W V q.data (by omega) (by rw[C.block _ (by rw[D.z,D.z2];omega) (λd=>by have:=a _ d;rw[D.z]at this;omega),D.e2]) c;rw[D.z]at this;exact this
def iM.bs{q:fK}(D:iM w q W v)(hd:q.data.size<=1000000):bI v (some ⟨w.heap.size+1,0,none⟩) q.data.size (grownCap W q.data.size 0 5) (aG q.data):=by
 have:=xW W q.data;rw[D.z,<-D.e2]at this;exact this
def iM.told{a:World}{q:fK}(D:iM w q W v)(h0:¬S 0)(d:Laid w)(C:ao v V S)(c:V.grownBy a (some (w.heap.size+1))){ev:Value}{n p:Int}(b:uC V ev n p)(hF:∀F,ev=.iface 177 (.pointer (some ⟨F,0,none⟩))->v.heap.size<=F):
 Calls prog 39 #[ev] a λe f=>e=.returned (.tuple #[.int .i64 n,.int .i64 p])/\a.grownBy f none:=by
 have h:=D.z2;refine Nr a ev n p (((d.gb D.g).av C h0).gb c) ?_;obtain b|⟨F,e,aa⟩:=b
 exact .inl b;have i:=hF F e;exact .inr ⟨F,e,(c.block F (aZ.1 aa).1 (by simp only[ne_eq,mn];omega)).trans aa⟩
def rF(e:bJ p=.iface 177 (.pointer (some ⟨i,0,none⟩))):k<=i:=by
 unfold bJ at e;split at e;cases e;have:=(Value.iface.inj e).1;simp at this
def NX(w:World)(xb sb:Nat)(st:aJ)(A:Nat->Prop)(n:Nat)(h:b9 w xb sb st A)(N:dU n st)(O:n<=100000)(m:Laid w)(q:fK)(x:aS q.code)(y:q.op=2)(hd:q.data.size<=1000000):
 Calls prog 60 #[.pointer (some ⟨xb,0,none⟩),.agg (cD q)] w (iX w xb sb A (st.do q)):=by
 obtain⟨R,j⟩:=exq (iX w xb sb A (st.do q));rw[<-j];obtain⟨I,a,D⟩:=iM.mk' w q;have k:=J (NH a xb sb st A (h.an D.g) q.stream);have s:=J (λ(c:World)(T:cP a.heap.size a xb sb A ((st.finish q.stream).2) c)=>D.oZ h.lt T.choose_spec.2.2 hd);have l:=J (λ(c d:World)(T:cP a.heap.size a xb sb A ((st.finish q.stream).2) c)(f:c.grownBy d (some (w.heap.size+1)))=>D.told h.n0 m T.choose_spec.2.2 f (ev:=bJ ((st.finish q.stream).1)) (n:=(st.finish q.stream).1) (p:= -1) (.inl ⟨rfl,rfl⟩) (λF e=>rF e));have t:=J (λ(c d i:World)(T:cP a.heap.size a xb sb A ((st.finish q.stream).2) c)(f:c.grownBy d (some (w.heap.size+1)))(u:d.grownBy i none)=>(show R (.returned (.tuple #[.int .i64 ((st.finish q.stream).1),.int .i64 (-1),.int .i64 (0),.int .u64 0,.string ⟨#[]⟩,.slice none 0 0])) i by
  have e:st.do q=(⟨(st.finish q.stream).1,-1,0,0,[],[]⟩,(st.finish q.stream).2):=by unfold aJ.do;rw[iN_,aD y]
  rw[j,e];exact D.post (r:=(⟨(st.finish q.stream).1,-1,0,0,[],[]⟩,(st.finish q.stream).2)) rfl rfl (D.fin h.lt T f u)))
 have P:=m9 q.data;obtain⟨r,B⟩:=exq (st.finish q.stream);rw[<-B]at k s l t;clear B;obtain⟨C,Q⟩:=r;simp only at k s l t;obtain⟨d0,d1,d2,d3,d4⟩:a.cell? ⟨w.heap.size,0,none⟩=some (.int .i64 q.op)/\a.cell? ⟨w.heap.size,1,none⟩=some (.int .i64 q.stream)/\a.cell? ⟨w.heap.size,2,none⟩=some (.int .i64 q.n)/\a.cell? ⟨w.heap.size,3,none⟩=some (.int .u64 q.code)/\a.cell? ⟨w.heap.size,4,none⟩=some (.string q.data):=by simp[World.cell?,D.b,cD]
 have E:=D.e1;have G:=D.e2;have S:=D.z;replace⟨D,j,h,m,x⟩:=eR D j h m x;unfold cD at *;obtain⟨op,stream,U,code,data⟩:=q;simp only at *;subst y;generalize bJ C=ev at k l;go_enter func60,ntmps60;go_upto_region 3 with fail;rw[<-E,<-G];generalize grownCap I data.size 0 5=cap at *;clear E G;go_wp2_with fail;apply(Z k).mono;rintro e c⟨rfl,T⟩;have K:=J (Z s c T cap);have L:=J (λd=>Z l c d T);have M:=J (λd i=>Z t c d i T);clear T;go_wp2_with fail;apply(Z K).mono;rintro e d⟨rfl,f⟩;go_wp2_with fail;apply(Z L _ f).mono;rintro e i⟨rfl,u⟩;have H:=J (Z M _ _ f u);go_wp2_with fail;first|exact Z H|exact cF (v:=.tuple #[.int .i64 C,.int .i64 (-1),.int .i64 0,.int .u64 0,.string ⟨#[]⟩,.slice none 0 0]) (by simp[results,results60,go_sem]) rfl (Z H)
def NY(w:World)(xb sb:Nat)(st:aJ)(A:Nat->Prop)(n:Nat)(h:b9 w xb sb st A)(N:dU n st)(O:n<=100000)(m:Laid w)(q:fK)(s:aS q.code)(y:q.op=3)(hd:q.data.size<=1000000):
 Calls prog 60 #[.pointer (some ⟨xb,0,none⟩),.agg (cD q)] w (iX w xb sb A (st.do q)):=by
 obtain⟨R,j⟩:=exq (iX w xb sb A (st.do q));rw[<-j];obtain⟨I,a,D⟩:=iM.mk' w q;have k:=J (NI a xb sb st A (h.an D.g) q.stream q.code s);have t:=J (λ(c:World)(T:cP a.heap.size a xb sb A ((st.giveUp q.stream q.code).2) c)=>D.oZ h.lt T.choose_spec.2.2 hd);have l:=J (λ(c d:World)(T:cP a.heap.size a xb sb A ((st.giveUp q.stream q.code).2) c)(f:c.grownBy d (some (w.heap.size+1)))=>D.told h.n0 m T.choose_spec.2.2 f (ev:=bJ ((st.giveUp q.stream q.code).1)) (n:=(st.giveUp q.stream q.code).1) (p:= -1) (.inl ⟨rfl,rfl⟩) (λF e=>rF e));have u:=J (λ(c d i:World)(T:cP a.heap.size a xb sb A ((st.giveUp q.stream q.code).2) c)(f:c.grownBy d (some (w.heap.size+1)))(x:d.grownBy i none)=>(show R (.returned (.tuple #[.int .i64 ((st.giveUp q.stream q.code).1),.int .i64 (-1),.int .i64 (0),.int .u64 0,.string ⟨#[]⟩,.slice none 0 0])) i by
  have e:st.do q=(⟨(st.giveUp q.stream q.code).1,-1,0,0,[],[]⟩,(st.giveUp q.stream q.code).2):=by unfold aJ.do;rw[iN_,iN_,aD y]
  rw[j,e];exact D.post (r:=(⟨(st.giveUp q.stream q.code).1,-1,0,0,[],[]⟩,(st.giveUp q.stream q.code).2)) rfl rfl (D.fin h.lt T f x)))
 have P:=m9 q.data;obtain⟨r,B⟩:=exq (st.giveUp q.stream q.code);rw[<-B]at k t l u;clear B;obtain⟨C,Q⟩:=r;simp only at k t l u;obtain⟨d0,d1,d2,d3,d4⟩:a.cell? ⟨w.heap.size,0,none⟩=some (.int .i64 q.op)/\a.cell? ⟨w.heap.size,1,none⟩=some (.int .i64 q.stream)/\a.cell? ⟨w.heap.size,2,none⟩=some (.int .i64 q.n)/\a.cell? ⟨w.heap.size,3,none⟩=some (.int .u64 q.code)/\a.cell? ⟨w.heap.size,4,none⟩=some (.string q.data):=by simp[World.cell?,D.b,cD]
 have E:=D.e1;have G:=D.e2;have S:=D.z;replace⟨D,j,h,m,s⟩:=eR D j h m s;unfold cD at *;obtain⟨op,stream,U,code,data⟩:=q;simp only at *;subst y;generalize bJ C=ev at k l;go_enter func60,ntmps60;go_upto_region 3 with fail;rw[<-E,<-G];generalize grownCap I data.size 0 5=cap at *;clear E G;go_wp2_with fail;apply(Z k).mono;rintro e c⟨rfl,T⟩;have K:=J (Z t c T cap);have L:=J (λd=>Z l c d T);have M:=J (λd i=>Z u c d i T);clear T;go_wp2_with fail;apply(Z K).mono;rintro e d⟨rfl,f⟩;go_wp2_with fail;apply(Z L _ f).mono;rintro e i⟨rfl,x⟩;have H:=J (Z M _ _ f x);go_wp2_with fail;first|exact Z H|exact cF (v:=.tuple #[.int .i64 C,.int .i64 (-1),.int .i64 0,.int .u64 0,.string ⟨#[]⟩,.slice none 0 0]) (by simp[results,results60,go_sem]) rfl (Z H)
def NZ(w:World)(xb sb:Nat)(st:aJ)(A:Nat->Prop)(n:Nat)(h:b9 w xb sb st A)(I:dU n st)(K:n<=100000)(m:Laid w)(q:fK)(s:aS q.code)(y:q.op=8)(hd:q.data.size<=1000000):
 Calls prog 60 #[.pointer (some ⟨xb,0,none⟩),.agg (cD q)] w (iX w xb sb A (st.do q)):=by
 obtain⟨R,j⟩:=exq (iX w xb sb A (st.do q));rw[<-j];obtain⟨L,a,D⟩:=iM.mk' w q;have k:=J (NL a xb sb st A n (h.an D.g) I K q.code s);have t:=J (λ(c:World)(T:cP a.heap.size a xb sb A ((st.close q.code).2) c)=>D.oZ h.lt T.choose_spec.2.2 hd);have l:=J (λ(c d:World)(T:cP a.heap.size a xb sb A ((st.close q.code).2) c)(f:c.grownBy d (some (w.heap.size+1)))=>D.told h.n0 m T.choose_spec.2.2 f (ev:=bJ ((st.close q.code).1)) (n:=(st.close q.code).1) (p:= -1) (.inl ⟨rfl,rfl⟩) (λF e=>rF e));have u:=J (λ(c d i:World)(T:cP a.heap.size a xb sb A ((st.close q.code).2) c)(f:c.grownBy d (some (w.heap.size+1)))(x:d.grownBy i none)=>(show R (.returned (.tuple #[.int .i64 ((st.close q.code).1),.int .i64 (-1),.int .i64 (0),.int .u64 0,.string ⟨#[]⟩,.slice none 0 0])) i by
  have e:st.do q=(⟨(st.close q.code).1,-1,0,0,[],[]⟩,(st.close q.code).2):=by unfold aJ.do;rw[iN_,iN_,iN_,iN_,iN_,iN_,iN_,aD y]
  rw[j,e];exact D.post (r:=(⟨(st.close q.code).1,-1,0,0,[],[]⟩,(st.close q.code).2)) rfl rfl (D.fin h.lt T f x)))
 have P:=m9 q.data;obtain⟨r,B⟩:=exq (st.close q.code);rw[<-B]at k t l u;clear B;obtain⟨C,Q⟩:=r;simp only at k t l u;obtain⟨d0,d1,d2,d3,d4⟩:a.cell? ⟨w.heap.size,0,none⟩=some (.int .i64 q.op)/\a.cell? ⟨w.heap.size,1,none⟩=some (.int .i64 q.stream)/\a.cell? ⟨w.heap.size,2,none⟩=some (.int .i64 q.n)/\a.cell? ⟨w.heap.size,3,none⟩=some (.int .u64 q.code)/\a.cell? ⟨w.heap.size,4,none⟩=some (.string q.data):=by simp[World.cell?,D.b,cD]
 have E:=D.e1;have G:=D.e2;have S:=D.z;replace⟨D,j,h,m,s⟩:=eR D j h m s;unfold cD at *;obtain⟨op,stream,U,code,data⟩:=q;simp only at *;subst y;generalize bJ C=ev at k l;go_enter func60,ntmps60;go_upto_region 3 with fail;rw[<-E,<-G];generalize grownCap L data.size 0 5=cap at *;clear E G;go_wp2_with fail;apply(Z k).mono;rintro e c⟨rfl,T⟩;have M:=J (Z t c T cap);have N:=J (λd=>Z l c d T);have O:=J (λd i=>Z u c d i T);clear T;go_wp2_with fail;apply(Z M).mono;rintro e d⟨rfl,f⟩;go_wp2_with fail;apply(Z N _ f).mono;rintro e i⟨rfl,x⟩;have H:=J (Z O _ _ f x);go_wp2_with fail;first|exact Z H|exact cF (v:=.tuple #[.int .i64 C,.int .i64 (-1),.int .i64 0,.int .u64 0,.string ⟨#[]⟩,.slice none 0 0]) (by simp[results,results60,go_sem]) rfl (Z H)
def N3(w:World)(xb sb:Nat)(st:aJ)(A:Nat->Prop)(n:Nat)(h:b9 w xb sb st A)(K:dU n st)(P:n<=100000)(m:Laid w)(q:fK)(x:aS q.code)(y:q.op=1)(hd:q.data.size<=1000000):
 Calls prog 60 #[.pointer (some ⟨xb,0,none⟩),.agg (cD q)] w (iX w xb sb A (st.do q)):=by
 obtain⟨R,j⟩:=exq (iX w xb sb A (st.do q));rw[<-j];obtain⟨B,a,D⟩:=iM.mk' w q;have k:=J (NG a xb sb st A n (h.an D.g) K q.stream (some ⟨w.heap.size+1,0,none⟩) q.data.size (grownCap B q.data.size 0 5) (aG q.data) (D.bs hd));have s:=J (λ(c:World)(T:cP a.heap.size a xb sb A ((st.write q.stream (aG q.data)).2.2) c)=>D.oZ h.lt T.choose_spec.2.2 hd);have l:=J (λ(c d:World)(T:cP a.heap.size a xb sb A ((st.write q.stream (aG q.data)).2.2) c)(f:c.grownBy d (some (w.heap.size+1)))=>D.told h.n0 m T.choose_spec.2.2 f (ev:=bJ ((st.write q.stream (aG q.data)).2.1)) (n:=(st.write q.stream (aG q.data)).2.1) (p:= -1) (.inl ⟨rfl,rfl⟩) (λF e=>rF e));have t:=J (λ(c d i:World)(T:cP a.heap.size a xb sb A ((st.write q.stream (aG q.data)).2.2) c)(f:c.grownBy d (some (w.heap.size+1)))(u:d.grownBy i none)=>(show R (.returned (.tuple #[.int .i64 ((st.write q.stream (aG q.data)).2.1),.int .i64 (-1),.int .i64 ((st.write q.stream (aG q.data)).1),.int .u64 0,.string ⟨#[]⟩,.slice none 0 0])) i by
  have e:st.do q=(⟨(st.write q.stream (aG q.data)).2.1,-1,(st.write q.stream (aG q.data)).1,0,[],[]⟩,(st.write q.stream (aG q.data)).2.2):=by unfold aJ.do;rw[aD y]
  rw[j,e];exact D.post (r:=(⟨(st.write q.stream (aG q.data)).2.1,-1,(st.write q.stream (aG q.data)).1,0,[],[]⟩,(st.write q.stream (aG q.data)).2.2)) rfl rfl (D.fin h.lt T f u)))
 have Q:=m9 q.data;obtain⟨r,C⟩:=exq (st.write q.stream (aG q.data));rw[<-C]at k s l t;clear C;obtain⟨L,E,S⟩:=r;simp only at k s l t;obtain⟨d0,d1,d2,d3,d4⟩:a.cell? ⟨w.heap.size,0,none⟩=some (.int .i64 q.op)/\a.cell? ⟨w.heap.size,1,none⟩=some (.int .i64 q.stream)/\a.cell? ⟨w.heap.size,2,none⟩=some (.int .i64 q.n)/\a.cell? ⟨w.heap.size,3,none⟩=some (.int .u64 q.code)/\a.cell? ⟨w.heap.size,4,none⟩=some (.string q.data):=by simp[World.cell?,D.b,cD]
 have G:=D.e1;have H:=D.e2;have U:=D.z;replace⟨D,j,h,m,x⟩:=eR D j h m x;unfold cD at *;obtain⟨op,stream,V,code,data⟩:=q;simp only at *;subst y;generalize bJ E=ev at k l;go_enter func60,ntmps60;go_upto_region 3 with fail;rw[<-G,<-H];generalize grownCap B data.size 0 5=cap at *;clear G H;go_wp2_with fail;apply(Z k).mono;rintro e c⟨rfl,T⟩;have M:=J (Z s c T cap);have N:=J (λd=>Z l c d T);have O:=J (λd i=>Z t c d i T);clear T;go_wp2_with fail;apply(Z M).mono;rintro e d⟨rfl,f⟩;go_wp2_with fail;apply(Z N _ f).mono;rintro e i⟨rfl,u⟩;have I:=J (Z O _ _ f u);go_wp2_with fail;first|exact Z I|exact cF (v:=.tuple #[.int .i64 E,.int .i64 (-1),.int .i64 L,.int .u64 0,.string ⟨#[]⟩,.slice none 0 0]) (by simp[results,results60,go_sem]) rfl (Z I)
def N4(w:World)(xb sb:Nat)(st:aJ)(A:Nat->Prop)(n:Nat)(h:b9 w xb sb st A)(I:dU n st)(S:n<=100000)(m:Laid w)(q:fK)(u:aS q.code)(x:q.op=9)(hd:q.data.size<=1000000):
 Calls prog 60 #[.pointer (some ⟨xb,0,none⟩),.agg (cD q)] w (iX w xb sb A (st.do q)):=by
 obtain⟨R,j⟩:=exq (iX w xb sb A (st.do q));rw[<-j];obtain⟨K,a,D⟩:=iM.mk' w q;have k:=J ((NJ a xb sb st A n (h.an D.g) I q.stream).mono (λe L y=>(show e=.returned (.tuple #[.int .i64 (st.af q.stream).1,bJ (st.af q.stream).2])/\cP a.heap.size a xb sb A st L from⟨y.1,(h.an D.g).to y.2⟩)));have M:=J (λ(c:World)(T:cP a.heap.size a xb sb A (st) c)=>D.oZ h.lt T.choose_spec.2.2 hd);have l:=J (λ(c d:World)(T:cP a.heap.size a xb sb A (st) c)(f:c.grownBy d (some (w.heap.size+1)))=>D.told h.n0 m T.choose_spec.2.2 f (ev:=bJ ((st.af q.stream).2)) (n:=(st.af q.stream).2) (p:= -1) (.inl ⟨rfl,rfl⟩) (λF e=>rF e));have s:=J (λ(c d i:World)(T:cP a.heap.size a xb sb A (st) c)(f:c.grownBy d (some (w.heap.size+1)))(t:d.grownBy i none)=>(show R (.returned (.tuple #[.int .i64 ((st.af q.stream).2),.int .i64 (-1),.int .i64 ((st.af q.stream).1),.int .u64 0,.string ⟨#[]⟩,.slice none 0 0])) i by
  have e:st.do q=(⟨(st.af q.stream).2,-1,(st.af q.stream).1,0,[],[]⟩,st):=by unfold aJ.do;rw[iN_,iN_,iN_,iN_,iN_,iN_,iN_,iN_,aD x]
  rw[j,e];exact D.post (r:=(⟨(st.af q.stream).2,-1,(st.af q.stream).1,0,[],[]⟩,st)) rfl rfl (D.fin h.lt T f t)))
 have U:=m9 q.data;obtain⟨r,B⟩:=exq (st.af q.stream);rw[<-B]at k l s;clear B;obtain⟨N,C⟩:=r;simp only at k l s;obtain⟨d0,d1,d2,d3,d4⟩:a.cell? ⟨w.heap.size,0,none⟩=some (.int .i64 q.op)/\a.cell? ⟨w.heap.size,1,none⟩=some (.int .i64 q.stream)/\a.cell? ⟨w.heap.size,2,none⟩=some (.int .i64 q.n)/\a.cell? ⟨w.heap.size,3,none⟩=some (.int .u64 q.code)/\a.cell? ⟨w.heap.size,4,none⟩=some (.string q.data):=by simp[World.cell?,D.b,cD]
 have E:=D.e1;have G:=D.e2;have V:=D.z;replace⟨D,j,h,m,u⟩:=eR D j h m u;unfold cD at *;obtain⟨op,stream,W,code,data⟩:=q;simp only at *;subst x;generalize bJ C=ev at k l;go_enter func60,ntmps60;go_upto_region 3 with fail;rw[<-E,<-G];generalize grownCap K data.size 0 5=cap at *;clear E G;go_wp2_with fail;apply(Z k).mono;rintro e c⟨rfl,T⟩;have O:=J (Z M c T cap);have P:=J (λd=>Z l c d T);have Q:=J (λd i=>Z s c d i T);clear T;go_wp2_with fail;apply(Z O).mono;rintro e d⟨rfl,f⟩;go_wp2_with fail;apply(Z P _ f).mono;rintro e i⟨rfl,t⟩;have H:=J (Z Q _ _ f t);go_wp2_with fail;first|exact Z H|exact cF (v:=.tuple #[.int .i64 C,.int .i64 (-1),.int .i64 N,.int .u64 0,.string ⟨#[]⟩,.slice none 0 0]) (by simp[results,results60,go_sem]) rfl (Z H)
def N5(w:World)(xb sb:Nat)(st:aJ)(A:Nat->Prop)(n:Nat)(h:b9 w xb sb st A)(B:dU n st)(C:n<=100000)(k:Laid w)(q:fK)(m:aS q.code)(s:q.op=4)(hd:q.data.size<=1000000):
 Calls prog 60 #[.pointer (some ⟨xb,0,none⟩),.agg (cD q)] w (iX w xb sb A (st.do q)):=by
 obtain⟨R,j⟩:=exq (iX w xb sb A (st.do q));rw[<-j];obtain⟨E,a,D⟩:=iM.mk' w q;have G:=J (NK a xb sb st A n (h.an D.g) B C);have H:=J (λ(c:World)(T:cP a.heap.size a xb sb A ((st.tick)) c)=>D.oZ h.lt T.choose_spec.2.2 hd);have t:=J (λ(c d:World)(T:cP a.heap.size a xb sb A ((st.tick)) c)(f:c.grownBy d (some (w.heap.size+1)))=>D.told h.n0 k T.choose_spec.2.2 f (ev:=bJ (0)) (n:=0) (p:= -1) (.inl ⟨rfl,rfl⟩) (λF e=>rF e));have I:=J (λ(c d i:World)(T:cP a.heap.size a xb sb A ((st.tick)) c)(f:c.grownBy d (some (w.heap.size+1)))(l:d.grownBy i none)=>(show R (.returned (.tuple #[.int .i64 (0),.int .i64 (-1),.int .i64 (0),.int .u64 0,.string ⟨#[]⟩,.slice none 0 0])) i by
  have e:st.do q=(⟨0,-1,0,0,[],[]⟩,(st.tick)):=by unfold aJ.do;rw[iN_,iN_,iN_,aD s]
  rw[j,e];exact D.post (r:=(⟨0,-1,0,0,[],[]⟩,(st.tick))) rfl rfl (D.fin h.lt T f l)))
 have N:=m9 q.data;obtain⟨d0,d1,d2,d3,d4⟩:a.cell? ⟨w.heap.size,0,none⟩=some (.int .i64 q.op)/\a.cell? ⟨w.heap.size,1,none⟩=some (.int .i64 q.stream)/\a.cell? ⟨w.heap.size,2,none⟩=some (.int .i64 q.n)/\a.cell? ⟨w.heap.size,3,none⟩=some (.int .u64 q.code)/\a.cell? ⟨w.heap.size,4,none⟩=some (.string q.data):=by simp[World.cell?,D.b,cD]
 have u:=D.e1;have x:=D.e2;have O:=D.z;replace⟨D,j,h,k,m⟩:=eR D j h k m;unfold cD at *;obtain⟨op,stream,P,code,data⟩:=q;simp only at *;subst s;rw[show bJ 0=.nilIface from rfl]at t;go_enter func60,ntmps60;go_upto_region 3 with fail;rw[<-u,<-x];generalize grownCap E data.size 0 5=cap at *;clear u x;go_wp2_with fail;apply(Z G).mono;rintro e c⟨rfl,T⟩;have K:=J (Z H c T cap);have L:=J (λd=>Z t c d T);have M:=J (λd i=>Z I c d i T);clear T;go_wp2_with fail;apply(Z K).mono;rintro e d⟨rfl,f⟩;go_wp2_with fail;apply(Z L _ f).mono;rintro e i⟨rfl,l⟩;have y:=J (Z M _ _ f l);go_wp2_with fail;first|exact Z y|exact cF (v:=.tuple #[.int .i64 0,.int .i64 (-1),.int .i64 0,.int .u64 0,.string ⟨#[]⟩,.slice none 0 0]) (by simp[results,results60,go_sem]) rfl (Z y)
def N6(w:World)(xb sb:Nat)(st:aJ)(A:Nat->Prop)(n:Nat)(h:b9 w xb sb st A)(I:dU n st)(K:n<=100000)(j:Laid w)(q:fK)(x:aS q.code)(y:q.op=6)(hd:q.data.size<=1000000):
 Calls prog 60 #[.pointer (some ⟨xb,0,none⟩),.agg (cD q)] w (iX w xb sb A (st.do q)):=by
 obtain⟨R,k⟩:=exq (iX w xb sb A (st.do q));rw[<-k];obtain⟨B,a,D⟩:=iM.mk' w q;have m:=J (NT a xb sb st A n (h.an D.g) I K (j.gb D.g) (some ⟨w.heap.size+1,0,none⟩) q.data.size (grownCap B q.data.size 0 5) (aG q.data) (D.bs hd));have p:=J (λ(c:World)(T:cP a.heap.size a xb sb A (st.recv (aG q.data)).2.2 c)=>D.oZ h.lt T.choose_spec.2.2 hd);have s:=J (λ(c d:World)(T:cP a.heap.size a xb sb A (st.recv (aG q.data)).2.2 c)(ev:Value)(l:uC c ev (st.recv (aG q.data)).1 (st.recv (aG q.data)).2.1)(hF:∀F,ev=.iface 177 (.pointer (some ⟨F,0,none⟩))->a.heap.size<=F) (f:c.grownBy d (some (w.heap.size+1)))=>D.told h.n0 j T.choose_spec.2.2 f l hF);have t:=J (λ(c d i:World)(T:cP a.heap.size a xb sb A (st.recv (aG q.data)).2.2 c)(f:c.grownBy d (some (w.heap.size+1)))(u:d.grownBy i none)=>(show R (.returned (.tuple #[.int .i64 (st.recv (aG q.data)).1,.int .i64 (st.recv (aG q.data)).2.1,.int .i64 0,.int .u64 0,.string ⟨#[]⟩,.slice none 0 0])) i by
  have e:st.do q=(⟨(st.recv (aG q.data)).1,(st.recv (aG q.data)).2.1,0,0,[],[]⟩,(st.recv (aG q.data)).2.2):=by unfold aJ.do;rw[iN_,iN_,iN_,iN_,iN_,aD y]
  rw[k,e];exact D.post (r:=(⟨(st.recv (aG q.data)).1,(st.recv (aG q.data)).2.1,0,0,[],[]⟩,(st.recv (aG q.data)).2.2)) rfl rfl (D.fin h.lt T f u)))
 have Q:=m9 q.data;obtain⟨r,C⟩:=exq (st.recv (aG q.data));rw[<-C]at m p s t;clear C;obtain⟨L,M,S⟩:=r;simp only at m p s t;obtain⟨d0,d1,d2,d3,d4⟩:a.cell? ⟨w.heap.size,0,none⟩=some (.int .i64 q.op)/\a.cell? ⟨w.heap.size,1,none⟩=some (.int .i64 q.stream)/\a.cell? ⟨w.heap.size,2,none⟩=some (.int .i64 q.n)/\a.cell? ⟨w.heap.size,3,none⟩=some (.int .u64 q.code)/\a.cell? ⟨w.heap.size,4,none⟩=some (.string q.data):=by simp[World.cell?,D.b,cD]
 have E:=D.e1;have G:=D.e2;have U:=D.z;replace⟨D,k,h,j,x⟩:=eR D k h j x;unfold cD at *;obtain⟨op,stream,V,code,data⟩:=q;simp only at *;subst y;go_enter func60,ntmps60;go_upto_region 3 with fail;rw[<-E,<-G];generalize grownCap B data.size 0 5=cap at *;clear E G;go_wp2_with fail;apply(Z m).mono;rintro e c⟨ev,rfl,l,hF,T⟩;have N:=J (Z p c T cap);have O:=J (λd=>Z s c d T ev l hF);have P:=J (λd i=>Z t c d i T);clear T l hF;go_wp2_with fail;apply(Z N).mono;rintro e d⟨rfl,f⟩;go_wp2_with fail;apply(Z O _ f).mono;rintro e i⟨rfl,u⟩;have H:=J (Z P _ _ f u);go_wp2_with fail;first|exact Z H|exact cF (v:=.tuple #[.int .i64 L,.int .i64 M,.int .i64 0,.int .u64 0,.string ⟨#[]⟩,.slice none 0 0]) (by simp[results,results60,go_sem]) rfl (Z H)
def N7(w:World)(xb sb:Nat)(st:aJ)(A:Nat->Prop)(n:Nat)(h:b9 w xb sb st A)(C:dU n st)(E:n<=100000)(k:Laid w)(q:fK)(l:aS q.code)(t:q.op<1\/9<q.op)(hd:q.data.size<=1000000):
 Calls prog 60 #[.pointer (some ⟨xb,0,none⟩),.agg (cD q)] w (iX w xb sb A (st.do q)):=by
 obtain⟨R,d⟩:=exq (iX w xb sb A (st.do q));rw[<-d];obtain⟨u,a,D⟩:=iM.mk' w q;have T:cP a.heap.size a xb sb A st a:=(h.an D.g).to (aB _ _);have x:=J (D.oZ h.lt T.choose_spec.2.2 hd);have y:=J (λ(c:World)=>wY c);have B:=J (λ(c f:World)(i:a.grownBy c (some (w.heap.size+1)))(j:c.grownBy f none)=>(show R (.returned (.tuple #[.int .i64 0,.int .i64 (-1),.int .i64 0,.int .u64 0,.string ⟨#[]⟩,.slice none 0 0])) f by
  have e:st.do q=(⟨0,-1,0,0,[],[]⟩,st):=by unfold aJ.do;rw[iN_,iN_,iN_,iN_,iN_,iN_,iN_,iN_,iN_]
  rw[d,e];exact D.post (r:=(⟨0,-1,0,0,[],[]⟩,st)) rfl rfl (D.fin h.lt T i j)))
 have F:=m9 q.data;have G:(q.op==1)=false:=by simp;omega
 have H:(q.op==2)=false:=by simp;omega
 have I:(q.op==3)=false:=by simp;omega
 have K:(q.op==4)=false:=by simp;omega
 have L:(q.op==5)=false:=by simp;omega
 have M:(q.op==6)=false:=by simp;omega
 have N:(q.op==7)=false:=by simp;omega
 have O:(q.op==8)=false:=by simp;omega
 have P:(q.op==9)=false:=by simp;omega
 clear t T;obtain⟨d0,d1,d2,d3,d4⟩:a.cell? ⟨w.heap.size,0,none⟩=some (.int .i64 q.op)/\a.cell? ⟨w.heap.size,1,none⟩=some (.int .i64 q.stream)/\a.cell? ⟨w.heap.size,2,none⟩=some (.int .i64 q.n)/\a.cell? ⟨w.heap.size,3,none⟩=some (.int .u64 q.code)/\a.cell? ⟨w.heap.size,4,none⟩=some (.string q.data):=by simp[World.cell?,D.b,cD]
 have m:=D.e1;have p:=D.e2;have Q:=D.z;replace⟨D,d,h,k,l⟩:=eR D d h k l;unfold cD at *;obtain⟨op,stream,S,code,data⟩:=q;simp only at *;go_enter func60,ntmps60;go_upto_region 3 with fail;rw[<-m,<-p];generalize grownCap u data.size 0 5=cap at *;clear m p;go_wp2_with fail;apply(Z x cap).mono;rintro e c⟨rfl,i⟩;go_wp2_with fail;apply(Z y _).mono;rintro e f⟨rfl,j⟩;have s:=J (Z B _ _ i j);go_wp2_with fail;first|exact Z s|exact cF (v:=.tuple #[.int .i64 0,.int .i64 (-1),.int .i64 0,.int .u64 0,.string ⟨#[]⟩,.slice none 0 0]) (by simp[results,results60,go_sem]) rfl (Z s)
def uF(w:World)(xb sb:Nat)(A:Nat->Prop)(r:List Int×Int×Int×Int×aJ)(a:Option Addr)(m c:Nat)(b:World):Prop:=bn b w.heap.size (.slice a m c) r.1/\∃d,b9 b xb sb r.2.2.2.2 d/\(∀k,d k->A k\/w.heap.size<=k)/\ao w b A/\∀j,(Value.slice a m c).ownBlock=some j->¬d j
def uF.fin{r:List Int×Int×Int×Int×aJ}(h:uF w n i S r a m j W)(g:W.grownBy v (Value.slice a m j).ownBlock):cP w.heap.size w n i S r.2.2.2.2 v:=by
 obtain⟨b,c,d,f,l,p⟩:=h;refine⟨c,d.other (ao.of g) (λk _ e=>p k e),f,?_⟩
 refine((l.trans (ao.of g))).mono (λk q e=>e.elim id (λe=>?_));have:=(b.lt k e).1;omega
def N8(w:World)(xb sb:Nat)(st:aJ)(A:Nat->Prop)(n:Nat)(h:b9 w xb sb st A)(B:dU n st)(hn:n<=100000)(C:Laid w)(q:fK)(K:aS q.code)(L:q.op=7)(hd:q.data.size<=1000000):
 Calls prog 60 #[.pointer (some ⟨xb,0,none⟩),.agg (cD q)] w (iX w xb sb A (st.do q)):=by
 obtain⟨R,t⟩:=exq (iX w xb sb A (st.do q));rw[<-t];obtain⟨Y,f,D⟩:=iM.mk' w q;have u:=J ((NP f xb sb st A n (h.an D.g) B q.stream q.n).mono (λe w' hh=>(show∃a m c,e=.returned (.tuple #[.slice a m c,.int .i64 (st.read q.stream q.n).2.1,.int .u64 (st.read q.stream q.n).2.2.1,bJ (st.read q.stream q.n).2.2.2.1])/\uF f xb sb A (st.read q.stream q.n) a m c w' from hh)));have M:Hid ((st.read q.stream q.n).1.length<=100000000):=J (by
  unfold aJ.read;cases st with
  |shut _ _=>simp
  |aE s=>
   simp only
   split;simp
   ·rename_i hk;have hI:=B.aL q.stream.toNat (by omega);have:=hI.len;have:=B.ag;have N:((s.aL q.stream.toNat).out q.n).length<=(s.aL q.stream.toNat).h.bytes.length:=by
     unfold It.out;split;simp;rw[ct];omega
    simp only;omega)
 have O:=J (λ(a:Option Addr)(m c:Nat)(d:World)(T:uF f xb sb A (st.read q.stream q.n) a m c d)=>vF a m c _ d _ T.1 (by rw[T.1.gT.2.1];exact Z M));have P:=J (λ(a:Option Addr)(m c:Nat)(d:World)(T:uF f xb sb A (st.read q.stream q.n) a m c d)=>tM T.1.gT);have E:=J (λ(d:World)(T:cP f.heap.size f xb sb A (st.read q.stream q.n).2.2.2.2 d)=>D.oZ h.lt T.choose_spec.2.2 hd);have x:=J (λ(d i:World)(T:cP f.heap.size f xb sb A (st.read q.stream q.n).2.2.2.2 d)(l:d.grownBy i (some (w.heap.size+1)))=>D.told h.n0 C T.choose_spec.2.2 l (ev:=bJ (st.read q.stream q.n).2.2.2.1) (n:=(st.read q.stream q.n).2.2.2.1) (p:= -1) (.inl ⟨rfl,rfl⟩) (λF e=>rF e));have G:=J (λ(d i k:World)(T:cP f.heap.size f xb sb A (st.read q.stream q.n).2.2.2.2 d)(l:d.grownBy i (some (w.heap.size+1)))(y:i.grownBy k none)=>(show R (.returned (.tuple #[.int .i64 (st.read q.stream q.n).2.2.2.1,.int .i64 (-1),.int .i64 (st.read q.stream q.n).2.1,.int .u64 (st.read q.stream q.n).2.2.1,.string (strOfNums (st.read q.stream q.n).1),.slice none 0 0])) k by
  have e:st.do q=(⟨(st.read q.stream q.n).2.2.2.1,-1,(st.read q.stream q.n).2.1,(st.read q.stream q.n).2.2.1,(st.read q.stream q.n).1,[]⟩,(st.read q.stream q.n).2.2.2.2):=by unfold aJ.do;rw[iN_,iN_,iN_,iN_,iN_,iN_,aD L]
  rw[t,e];obtain⟨A',N,h2,h3⟩:=D.fin h.lt T l y;exact⟨none,0,0,rfl,fY.nil _ _,A',N,h2,h3,λj e=>by cases e⟩))
 have bz:=m9 q.data;obtain⟨r,Q⟩:=exq (st.read q.stream q.n);rw[<-Q]at u E x G O P M;clear Q;obtain⟨rl,rs,rc,S,bM⟩:=r;simp only at u E x G;obtain⟨d0,d1,d2,d3,d4⟩:f.cell? ⟨w.heap.size,0,none⟩=some (.int .i64 q.op)/\f.cell? ⟨w.heap.size,1,none⟩=some (.int .i64 q.stream)/\f.cell? ⟨w.heap.size,2,none⟩=some (.int .i64 q.n)/\f.cell? ⟨w.heap.size,3,none⟩=some (.int .u64 q.code)/\f.cell? ⟨w.heap.size,4,none⟩=some (.string q.data):=by simp[World.cell?,D.b,cD]
 have U:=D.e1;have V:=D.e2;have b0:=D.z;replace⟨D,t,h,C,K⟩:=eR D t h C K;unfold cD at *;obtain⟨op,stream,qn,code,data⟩:=q;simp only at *;subst L;generalize bJ S=ev at u x;go_enter func60,ntmps60;go_upto_region 3 with fail;rw[<-U,<-V];generalize grownCap Y data.size 0 5=cap at *;clear U V;go_wp2_with fail;apply(Z u).mono;rintro e d⟨H,I,c3,rfl,T⟩;have a3:=Z P H I c3 d T;have a4:=J (Z O H I c3 d T);have a8:=J (λi(g:d.grownBy i (Value.slice H I c3).ownBlock)=>T.fin g);clear T;go_wp2_with fail;apply(Z a4).mono;rintro e i⟨rfl,l⟩;have T:=Z a8 i l;have a9:=J (Z E i T cap);have bb:=J (λk=>Z x i k T);have bj:=J (λk W=>Z G i k W T);clear T l a3;go_wp2_with fail;apply(Z a9).mono;rintro e k⟨rfl,y⟩;go_wp2_with fail;apply(Z bb _ y).mono;rintro e W⟨rfl,g6⟩;have X:=J (Z bj _ _ y g6);go_wp2_with fail;first|exact Z X|exact cF (v:=.tuple #[.int .i64 S,.int .i64 (-1),.int .i64 rs,.int .u64 rc,.string (strOfNums rl),.slice none 0 0]) (by simp[results,results60,go_sem]) rfl (Z X)
def mK(o:Ot)(k:Nat)(p:Pc)(f:Fr):Prop:=
 (o.sG=true/\p.g=true/\p.x=⟨0,0⟩/\f=⟨4,k,o.ay,o.code,false,⟨#[]⟩,[]⟩)\/
 (o.sG=false/\p.g=false/\o.h.fr<=p.x.lo/\p.x.lo<=p.x.hi/\p.x.hi<=o.en/\p.e=(o.sE&&p.x.hi==o.en)/\(p.x.lo<p.x.hi\/p.e=true)/\
   f=⟨5,k,p.x.lo,0,p.e,strOfNums ((o.h.bytes.drop (p.x.lo-o.h.fr).toNat).take (p.x.hi-p.x.lo).toNat),[]⟩)
abbrev Told:=List (Pc×Fr)
def mM(m:Int)(L:Told):Int:=L.foldl (λm y=>max m y.1.x.hi) m
def dp(o:Ot)(m:Int)(L:Told):Int:=if o.sG then m else mM m L
def N9(d:Du)(L:Told):Du:=L.foldl (λd y=>d.leave y.1) d
def Oa{o:Ot}{d:Du}(ho:o={f with ay:=o.ay})(hs:f.sG=true->o.ay=f.ay)(h:jO o d)(m:q<=1000)(a:(o.next d q).2=true)(n:0<=o.h.fr):mK f k (o.next d q).1 (o.dz k (o.next d q).1)/\(o.ki (o.next d q).1).ay=dp f o.ay [((o.next d q).1,o.dz k (o.next d q).1)]:=by
 have e1:o.sG=f.sG:=by rw[ho]
 have e2:o.sE=f.sE:=by rw[ho]
 have c:o.h=f.h:=by rw[ho]
 have r:o.code=f.code:=by rw[ho]
 have i:o.en=f.en:=by unfold Ot.en;rw[c]
 unfold Ot.next at a⊢;cases b:o.sG;rw[b]at a;simp only[gI,gm]at a⊢;obtain⟨s,t,u,g,-⟩:=uk h m a n;have j:(o.iu d.l d.e q).1.e=(o.sE&&(o.iu d.l d.e q).1.x.hi==o.en)/\((o.iu d.l d.e q).1.x.lo<(o.iu d.l d.e q).1.x.hi\/(o.iu d.l d.e q).1.e=true):=by
  unfold Ot.iu at a⊢;split at a;simp at a;rename_i v;rw[az v];refine⟨rfl,?_⟩
  simp only[Bool.or_eq_true,mX,lQ]at a;obtain a|a:=a
  exact .inl a;right;simp only[lQ]
  exact a.1
 generalize (o.iu d.l d.e q).1=p at *;refine⟨.inr ⟨by rw[<-e1];exact b,g,by rw[<-c];exact s,t,by rw[<-i];exact u,by rw[j.1,e2,i],j.2,?_⟩,?_⟩
 unfold Ot.dz;rw[g,c];simp;unfold Ot.ki dp mM;rw[g,<-e1,b];simp;rw[b]at a;simp only[fu]at a⊢;simp only[lQ]at a;refine⟨.inl ⟨by rw[<-e1];exact b,a.1,rfl,?_⟩,?_⟩
 unfold Ot.dz;simp only[a.1,fu]
 rw[hs (by rw[<-e1];exact b),r];unfold Ot.ki dp;simp only[a.1,fu];rw[<-e1,b];simp
def Ob{d0:Du}(n:k<4)(r:q<=1000)(c:0<=f.h.fr)(s:f.en<=4096):∀(m:Nat)(x:Ld),oU f d0 q x->x.o={f with ay:=x.o.ay}->(f.sG=true->x.o.ay=f.ay)->
 ∃L:Told,(jB k q m x).fr=x.fr++bp (L.map (·.2))/\(jB k q m x).ps=x.ps++L.map (·.1)/\(∀y∈L,mK f k y.1 y.2)/\(jB k q m x).o.ay=dp f x.o.ay L/\(jB k q m x).d=N9 x.d L:=by
 intro m;induction m with
 |zero=>exact λx e g b=>⟨[],by simp[jB,bp],by simp[jB],λy a=>(by cases a),by simp[jB,dp,mM],rfl⟩
 |succ m u=>
  intro x H ho hs;unfold jB;cases i:(x.o.next x.d (q-x.fr.length)).2;simp only[gI,gm]
  exact⟨[],by simp[bp],by simp,λy a=>(by cases a),by simp[dp,mM],rfl⟩
  simp only[fu]
  have v:0<=x.o.h.fr:=by rw[H.h];exact c
  obtain⟨e,g⟩:=Oa (k:=k) ho hs H.mc (q:=q-x.fr.length) (by omega) i v;have w:=(H.step k n r c s i).1;generalize (x.o.next x.d (q-x.fr.length)).1=p at *;have z:(x.step k p).o={f with ay:=(x.step k p).o.ay}:=by
   show x.o.ki p={f with ay:=(x.o.ki p).ay}
   have b:=Eb x.o p;generalize (x.o.ki p).ay=t at b⊢;rw[b,ho]
  have j:(x.step k p).o.ay=dp f x.o.ay [(p,x.o.dz k p)]:=g;obtain⟨L,A,B,C,D,E⟩:=u (x.step k p) w z (λl=>by rw[j];unfold dp;rw[aD l];exact hs l);refine⟨(p,x.o.dz k p)::L,?_,?_,λy a=>?_,?_,?_⟩
  rw[A];show(x.fr++bp [x.o.dz k p])++_=_;simp[bp];rw[B];show(x.ps++[p])++_=_;simp;obtain rfl|a:=fF.1 a
  exact e;exact C y a;rw[D,j];unfold dp mM;cases f.sG<;>simp;rw[E];rfl
def jF(key:List Int)(s:Int):Int->List (List Fr)->List (List Int)
 |_,[]=>[]
 |n,f::r=>cK key s n (bp f)::jF key s (n+1) r
def mN(tick:Int)(k:Int):Int->List (List Pc)->List Pk
 |_,[]=>[]
 |n,p::r=>⟨n,tick,k,p⟩::mN tick k (n+1) r
def zx(key:List Int)(s:Int)(a:List (List Fr)):∀n,(jF key s n a).length=a.length:=by
 induction a with
 |nil=>intro n;rfl
 |cons f a b=>intro n;simp[jF,b]
def Eh{a:List (List Fr)}:∀{n:Int}{p:List Int},p∈jF L q n a->∃f∈a,∃m,p=cK L q m (bp f):=by
 induction a with
 |nil=>intro n p h;cases h
 |cons f a b=>
  intro n p h;obtain h|h:=fF.1 h
  exact⟨f,by simp,n,h⟩
  obtain⟨g,c,m,e⟩:=b h;exact⟨g,by simp[c],m,e⟩
structure zy(s:Sd)(k:Nat)(x y:Pz)(E:List Told):Prop where
 l:y.l=x.l++jF s.key (aT s.first) x.s.count (E.map (·.map (·.2)))
 aM:y.s.aM=x.s.aM++mN s.tick k x.s.count (E.map (·.map (·.1)))
 count:y.s.count=x.s.count+E.length
 fr:∀L∈E,L≠[]/\((bp (L.map (·.2))).length:Int)<=s.aj-16/\∀z∈L,mK (s.out k) k z.1 z.2
 ay:(y.s.out k).ay=dp (s.out k) (x.s.out k).ay E.flatten
def zA(o:Ot)(m:Int)(a b:Told):dp o (dp o m a) b=dp o m (a++b):=by
 unfold dp mM;cases o.sG<;>simp
def Oc(j:k<4)(u:16<=s.aj/\s.aj<=1000)(n:0<=(s.out k).h.fr)(p:(s.out k).en<=4096):∀(m:Nat)(x:Pz),ny s k x->x.s.out k={s.out k with ay:=(x.s.out k).ay}->((s.out k).sG=true->(x.s.out k).ay=(s.out k).ay)->x.s.first=s.first->x.s.tick=s.tick->∃E,zy s k x (lI k m x) E:=by
 intro m;induction m with
 |zero=>exact λx b M N O P=>⟨[],by simp[lI,jF],by simp[lI,mN],by simp[lI],λL c=>(by cases c),by simp[lI,dp,mM]⟩
 |succ m A=>
  intro x a ho hs v w;have B:=a.ld j u n p;have q:=a.aj;have C:=a.key;have D:=a.h;obtain⟨L,i,f,F,g,-⟩:=Ob (f:=s.out k) (d0:=x.d) (q:=x.s.aj-16) j (by rw[q];omega) n p ((x.s.aj-16).toNat+1) ⟨x.s.out k,x.d,[],[]⟩ ⟨D,a.sG,a.code,a.ay,a.mc,by simp,by rw[q];simp;omega,by simp⟩ ho hs;have i:(x.load k).fr=bp (L.map (·.2)):=i.trans (by simp);have f:(x.load k).ps=L.map (·.1):=f.trans (by simp);have g:(x.load k).o.ay=dp (s.out k) (x.s.out k).ay L:=g;have G:(x.load k).o={x.s.out k with ay:=(x.load k).o.ay}:=Ec k (x.s.aj-16) ((x.s.aj-16).toNat+1) ⟨x.s.out k,x.d,[],[]⟩;unfold lI;split;exact⟨[],by simp[jF],by simp[mN],by simp,λL c=>(by cases c),by simp[dp,mM]⟩
  split;rename_i H h0;have I:L=[]:=by rw[f,dH]at h0;exact nM h0
  subst I;refine⟨[],by simp[jF,Pz.stay],by simp[mN,Pz.stay],by simp[Pz.stay],λL c=>(by cases c),?_⟩
  show(ah x.s.out k (x.load k).o k).ay=_;rw[bk,g];rfl;rename_i H h0;have y:(x.jm k).s.out k={s.out k with ay:=(x.load k).o.ay}:=by
   show ah x.s.out k (x.load k).o k=_;rw[bk,G,ho]
  have r:((x.jm k).s.out k).ay=(x.load k).o.ay:=by rw[y]
  obtain⟨E,b⟩:=A (x.jm k) (a.jm j u n p (by omega)) (by rw[r];exact y) (λz=>by rw[r,g];unfold dp;rw[aD z];exact hs z) v w;refine⟨L::E,?_,?_,?_,λK t=>?_,?_⟩
  rw[b.l];show(x.l++[cK x.s.key (aT x.s.first) x.s.count (x.load k).fr])++jF s.key (aT s.first) (x.s.count+1) _=_;rw[i,v,C];simp[jF];rw[b.aM];show(x.s.aM++[⟨x.s.count,x.s.tick,k,(x.load k).ps⟩])++mN s.tick k (x.s.count+1) _=_;rw[f,w];simp[mN];rw[b.count];show x.s.count+1+_=_;simp;omega;obtain rfl|t:=fF.1 t
  refine⟨λe=>h0 (by rw[f,e];rfl),?_,F⟩
  rw[<-i];have:=B.fl;rw[q]at this;exact this;exact b.fr K t;rw[b.ay,r,g,zA];rfl
def Od(l:List Rg)(a:Int)(h0:0<l.length)(e:40<=a):∀m,1<=m->1<=kn l a m/\1+((gp (l.take (kn l a m))).length:Int)<=a:=by
 intro m;induction m with
 |zero=>omega
 |succ m c=>
  intro _;unfold kn;split;rename_i b;by_cases d:1<=m;exact c d;have:m=0:=by omega
  subst this;have:=CX l h0;simp only[dY]at b;omega;rename_i b;exact⟨by omega,by omega⟩
def Oe(l:List Rg):bp [bU l]=2::gp l:=by simp[bp,df,bU]
def Of(y:56<=q):∀(m:Nat)(x:Ak),x.rest.length<=m->x.s.aj=q->x.s.key=L->aT x.s.first=p->(x.rest≠[]->iQ x.rest)->
 ∃C:List (List Rg),(mD m x).l=x.l++jF L p x.s.count (C.map λc=>[bU c])/\(mD m x).s={x.s with count:=x.s.count+C.length}/\C.flatten=x.rest/\∀c∈C,iQ c/\((bp [bU c]).length:Int)<=q-16:=by
 intro m;induction m with
 |zero=>
  intro x h0 g b d h;have:x.rest=[]:=eN_;exact⟨[],by simp[mD,jF],by simp[mD],by rw[this];rfl,λc a=>(by cases a)⟩
 |succ m k=>
  intro x h0 g b d h;unfold mD;split;rename_i f;have:x.rest=[]:=nM f;exact⟨[],by simp[jF],by simp,by rw[this];rfl,λc a=>(by cases a)⟩
  rename_i f;have r:x.rest≠[]:=λe=>f (by rw[e];rfl)
  have t:0<x.rest.length:=by omega
  obtain⟨u,v⟩:=Od x.rest (x.s.aj-16) t (by omega) x.rest.length (by omega);have i:=Lb x.rest (x.s.aj-16) x.rest.length;have en:x.n=kn x.rest (x.s.aj-16) x.rest.length:=rfl;rw[<-en]at u v i;have j:=h r;obtain⟨C,c1,c2,c3,c4⟩:=k x.step (by show(x.rest.drop x.n).length<=m;rw[dM];omega) g b d (λw=>CY j x.n (by
   have:(x.rest.drop x.n).length≠0:=λe=>w (nM e)
   rw[dM]at this;omega))
  refine⟨x.rest.take x.n::C,?_,?_,?_,λc a=>?_⟩
  rw[c1];show(x.l++[cK x.s.key (aT x.s.first) x.s.count (bp [bU (x.rest.take x.n)])])++jF L p (x.s.count+1) _=_;rw[b,d];simp[jF];rw[c2];show({x.s with count:=x.s.count+1+_}:Sd)=_;congr 1;simp;omega;rw[List.flatten_cons,c3];exact pr _ _;obtain rfl|a:=fF.1 a
  refine⟨zk j _ (by omega) i,?_⟩
  rw[Oe,dc];push_cast;omega;exact c4 c a
structure Ei(s:Sd)(C:List (List Rg)):Prop where
 l:s.gD.l=jF s.key (aT s.first) s.count (C.map λc=>[bU c])
 st:s.gD.s={s with eN:=false,count:=s.count+C.length}
 all:s.eN=true->C.flatten=fP s.af s.af.length
 no:s.eN=false->C=[]
 fr:∀c∈C,iQ c/\((bp [bU c]).length:Int)<=s.aj-16
def Og(h:bY s n):∃C,Ei s C:=by
 cases ho:s.eN;refine⟨[],?_,?_,λe=>(by rw[ho]at e;cases e),λ_=>rfl,λc a=>(by cases a)⟩
 unfold Sd.gD;rw[ho];simp[jF];unfold Sd.gD;rw[az (by rw[ho];decide)];simp only[fe];rw[<-ho];simp;have d:=h.c8;have f:=h.aj;obtain⟨C,c1,c2,c3,c4⟩:=Of (L:=s.key) (p:=aT s.first) (q:=s.aj) (by omega) 10 ⟨{s with eN:=false},fP s.af s.af.length,[]⟩ (by simp only[ma];omega) rfl rfl rfl (λb=>C4 s.af h.mI (by
  have:(fP s.af s.af.length).length≠0:=λe=>b (nM e)
  rw[ma]at this;omega) h.cr)
 refine⟨C,?_,?_,λ_=>c3,λe=>(by rw[ho]at e;cases e),c4⟩
 unfold Sd.gD;rw[ho];simpa using c1;unfold Sd.gD;rw[ho];simpa using c2
def bY.mono(h:bY s n)(b:n<=m):bY s m:=
 {h with num:=λx a=>(by have:=h.num x a;omega),tick:=(by have:=h.tick;omega),bf:=(by have:=h.bf;omega),ll:=(by have:=h.ll;omega)}
def gC.same{a:Ot}(h:gC f)(e:a.h=f.h):gC a:=⟨by rw[e];exact h.ok,by rw[e];exact h.kY,by rw[e];exact h.fr,by rw[e];exact h.low,by rw[e];exact h.hole,by unfold Ot.en;rw[e];exact h.en⟩
def mK.ok{o:Ot}{p:Pc}(h:mK o k p G)(ho:gC o):lG p:=by
 have a:=ho.fr;have b:=ho.en;obtain⟨-,-,e,-⟩|⟨-,-,c,d,f,-⟩:=h
 unfold lG;rw[e];simp;unfold lG;omega
def Oh{a:List (List Pc)}:∀{n:Int}{x:Pk},x∈mN p q n a->x.tick=p/\x.st=q/\x.ps∈a/\n<=x.num/\x.num<n+a.length:=by
 induction a with
 |nil=>intro n x h;cases h
 |cons f a b=>
  intro n x h;obtain rfl|h:=fF.1 h
  exact⟨rfl,rfl,by simp,cS _,by simp;omega⟩
  obtain⟨c,d,e,g,i⟩:=b h;exact⟨c,d,by simp[e],by omega,by simp;omega⟩
def Ej(tick k:Int)(a:List (List Pc)):∀n,(mN tick k n a).length=a.length:=by
 induction a with
 |nil=>intro n;rfl
 |cons f a b=>intro n;simp[mN,b]
def zB(h:bY s n)(c:n<=100001)(k:Nat)(a:k<4):uD s k (s.pieces k).s/\(s.pieces k).l.length<=10:=by
 have b:=h.bf;exact zu h.zw k a ⟨b.1,by omega⟩ (s.aM.map (λx=>(x,Value.slice none 0 0))) (by rw[tH];show _=List.map id _;rw[List.map_id])
def Ek(h:bY s n)(F:n<=100001)(w:s.count+10<=100*n)(hl:s.lost.length+s.aM.length+10<=100*n)(k:Nat)(i:k<4):bY (s.pieces k).s n/\∃E,zy s k ⟨s,s.due k,[]⟩ (s.pieces k) E/\E.length<=10:=by
 obtain⟨R,P⟩:=zB h F k i;have g:∃E,zy s k ⟨s,s.due k,[]⟩ (s.pieces k) E:=by
  have w:=h.bf;have G:=h.zw;obtain⟨c,l,m⟩:=G.p0 k i ⟨w.1,by omega⟩ (s.aM.map (λx=>(x,Value.slice none 0 0))) (by rw[tH];show _=List.map id _;rw[List.map_id]);have ho:=h.Ef i;have z:=h.fl;have Q:=h.aj;exact Oc i (by omega) ho.nice.1 ho.en 11 ⟨s,s.due k,[]⟩ ⟨rfl,rfl,rfl,rfl,rfl,ho.ay,m,by simp only;omega,z,by simp only;omega,by simp⟩ rfl (λ_=>rfl) rfl rfl
 obtain⟨E,g⟩:=g;have A:=g.count;have H:E.length<=10:=by have:=R.bf;simp only at A;omega
 have q:=g.aM;simp only at q;have r:∀x∈(s.pieces k).s.aM,x∈s.aM\/(x.tick=s.tick/\x.st=(k:Int)/\(∃L∈E,x.ps=L.map (·.1))/\s.count<=x.num/\x.num<s.count+E.length):=λx a=>by
  rw[q]at a;obtain a|a:=bQ.1 a
  exact .inl a;obtain⟨c,l,m,B,C⟩:=Oh a;obtain⟨L,t,e⟩:=fg.1 m;rw[dH]at C;exact .inr ⟨c,l,⟨L,t,e.symm⟩,B,C⟩
 have S:=h.bf;have u:∀j,j<4->((s.pieces k).s.out j).h=(s.out j).h/\((s.pieces k).s.out j).code=(s.out j).code:=λj _=>by
  rw[R.eq];by_cases e:j=k;subst e;simp only[bk];exact⟨trivial,trivial⟩
  simp only[bm _ _ e];exact⟨trivial,trivial⟩
 refine⟨?_,E,g,H⟩
 have d:∀{α:Type}(f:Sd->α),f (s.pieces k).s=f {s with out:=ah s.out k {s.out k with ay:=((s.pieces k).s.out k).ay},aM:=(s.pieces k).s.aM,count:=(s.pieces k).s.count}:=λf=>fG f R.eq
 have I:(s.pieces k).s.key=s.key:=d (·.key);have K:(s.pieces k).s.aj=s.aj:=d (·.aj);have k3:(s.pieces k).s.ag=s.ag:=d (·.ag);have k4:(s.pieces k).s.aL=s.aL:=d (·.aL);have k5:(s.pieces k).s.lost=s.lost:=d (·.lost);have D:(s.pieces k).s.tick=s.tick:=d (·.tick);have M:(s.pieces k).s.wait=s.wait:=d (·.wait);have v:(s.pieces k).s.af=s.af:=d (·.af);have N:∀x∈(s.pieces k).s.aM,0<=x.st/\x.st<4/\∀p∈x.ps,lG p:=λx a=>by
  obtain c|⟨-,l,⟨L,t,e⟩,-⟩:=r x a
  exact h.pk x (iO _ c);refine⟨by omega,by omega,λp hp=>?_⟩
  rw[e]at hp;obtain⟨y,O,rfl⟩:=fg.1 hp;exact((g.fr L t).2.2 y O).ok (h.out k i)
 simp only at A;have z:(s.pieces k).s.aM.length=s.aM.length+E.length:=by rw[q,bH,Ej,dH]
 refine⟨by rw[I];exact h.key,by rw[K];exact h.aj,by rw[k3];exact h.ag,λj b=>(h.out j b).same (u j b).1,λj b=>by rw[(u j b).1,k3];exact h.oW j b,λj b=>?_,λj b=>by rw[(u j b).2];exact h.code j b,by rw[k3,k4];exact h.aL,λx a=>?_,λx a=>?_,R.fl,R.fp,λx a=>?_,by rw[D];exact h.tick,by rw[M];exact h.wait,by omega,by rw[k5];omega,by rw[v];exact h.mI,by rw[v];exact h.c8,by rw[v];exact h.cr⟩
 by_cases e:j=k;subst e;exact R.ay;have:((s.pieces k).s.out j).ay=(s.out j).ay:=by rw[R.eq];simp only[bm _ _ e]
 rw[this];exact h.ay j b;obtain a|a:=bQ.1 a
 exact N x a;rw[k5]at a;exact h.pk x (jW _ a);obtain c|⟨-,-,-,m,B⟩:=r x a
 exact h.num x c;omega;rw[D];obtain c|⟨l,-⟩:=r x a
 exact h.ft x c;have:=h.tick;omega
def Em(h:bY s n)(d:s.count+10<=100*n):bY s.gD.s n/\∃C,Ei s C/\C.length<=10:=by
 obtain⟨C,a⟩:=Og h;obtain⟨c,e,f,g,b⟩:=zv s;have hl:C.length<=10:=by rw[a.l,zx,dH]at b;exact b
 refine⟨?_,C,a,hl⟩
 rw[a.st];have:=h.bf;exact⟨h.key,h.aj,h.ag,h.out,h.oW,h.ay,h.code,h.aL,h.pk,h.num,h.fl,h.fp,h.ft,h.tick,h.wait,by simp only;omega,h.ll,h.mI,h.c8,h.cr⟩
def En(h:bY s n)(z:n<=100000):∀k,k<=4->bY (cX s k).1 (n+1)/\(cX s k).1.count<=100*n+10+10*k/\(cX s k).1.lost.length+(cX s k).1.aM.length<=100*n+10*k/\(cX s k).1.aj=s.aj/\(cX s k).2.length<=10+10*k/\∀p∈(cX s k).2,(p.length:Int)<=s.aj:=by
 intro k;induction k with
 |zero=>
  intro _;have t:=h.mono (bZ n);have A:=h.bf;obtain⟨d,C,a,hl⟩:=Em t (by omega);have B:=h.ll;refine⟨d,?_,?_,?_,?_,λp hp=>?_⟩
  show s.gD.s.count<=_;rw[a.st];simp only;omega;show s.gD.s.lost.length+s.gD.s.aM.length<=_;rw[a.st];simp only;omega;show s.gD.s.aj=_;rw[a.st];show s.gD.l.length<=_;rw[a.l,zx,dH];omega;have hp:p∈s.gD.l:=hp;rw[a.l]at hp;obtain⟨f,g,m,e⟩:=Eh hp;obtain⟨c,u,rfl⟩:=fg.1 g;have:=(a.fr c u).2;rw[e,nw];push_cast;omega
 |succ k v=>
  intro D;obtain⟨i,F,G,j,H,w⟩:=v (by omega);obtain⟨d,E,b,hl⟩:=Ek i (by omega) (by push_cast;omega) (by omega) k (by omega);have x:=b.count;have q:=b.aM;simp only at x q;have I:((cX s k).1.pieces k).s.aM.length=(cX s k).1.aM.length+E.length:=by rw[q,bH,Ej,dH]
  have R:=(zB i (by omega) k (by omega)).1;have e1:((cX s k).1.pieces k).s.lost=(cX s k).1.lost:=by rw[R.eq]
  have e2:((cX s k).1.pieces k).s.aj=(cX s k).1.aj:=by rw[R.eq]
  have r:((cX s k).1.pieces k).l=jF (cX s k).1.key (aT (cX s k).1.first) (cX s k).1.count (E.map (·.map (·.2))):=by rw[b.l];rfl
  refine⟨d,?_,?_,?_,?_,λp hp=>?_⟩
  show((cX s k).1.pieces k).s.count<=_;omega;show((cX s k).1.pieces k).s.lost.length+((cX s k).1.pieces k).s.aM.length<=_;rw[e1];omega;show((cX s k).1.pieces k).s.aj=_;rw[e2];exact j;show((cX s k).2++((cX s k).1.pieces k).l).length<=_;rw[bH,r,zx,dH];omega;have hp:p∈(cX s k).2++((cX s k).1.pieces k).l:=hp;obtain hp|hp:=bQ.1 hp
  exact w p hp;rw[r]at hp;obtain⟨f,g,m,e⟩:=Eh hp;obtain⟨L,y,rfl⟩:=fg.1 g;have:=(b.fr L y).2.1;rw[e,nw];push_cast;rw[<-j];omega
def Eo(h:bY s n)(a:n<=100000):bY s.dv.1 (n+1)/\s.dv.2.length<=50/\∀p∈s.dv.2,(p.length:Int)<=300:=by
 obtain⟨b,-,-,-,c,d⟩:=En h a 4 (aR _);exact⟨b,by have:s.dv.2.length<=10+10*4:=c;omega,λp hp=>by have:=d p hp;have:=h.aj;omega⟩
def Oi:(prog.info? 9).map (λi=>(i.zero,i.size,i.bytes))=some (some (.string ⟨#[]⟩),1,16):=by kernel_rfl
def fY.lt{l:List (List Int)}(h:fY w n x l):∀k,x.ownBlock=some k->n<=k/\k<w.heap.size:=World.ownsRow.lt h
def fY.av{l:List (List Int)}(h:fY w n x l)(C:ao w W S)(c:∀k,x.ownBlock=some k->¬S k):fY W n x l:=by
 obtain⟨d,a⟩:=h;refine⟨d,?_⟩
 obtain a|⟨g,cap,cur,e1,e2,b,e⟩:=a
 exact .inl a;exact .inr ⟨g,cap,cur,e1,e2,(C.block g (aZ.1 b).1 (c g (by rw[e1];rfl))).trans b,e⟩
def fY.low{b2:Nat}{l:List (List Int)}(h:fY w n x l)(d:b2<=n):fY w b2 x l:=by
 obtain⟨b,a⟩:=h;refine⟨b,?_⟩
 obtain a|⟨g,cap,cur,e1,e2,c⟩:=a
 exact .inl a;exact .inr ⟨g,cap,cur,e1,by omega,c⟩
def fY.gK{l:List (List Int)}(h:fY w n x l):∃a cap,x=.slice a l.length cap:=by
 obtain⟨c,⟨b,h0⟩|⟨g,d,e,e1,-⟩⟩:=h;exact⟨none,0,by rw[h0];exact b⟩
 exact⟨_,_,e1⟩
def Oj(ty:TypeId)(d:Nat)(v:Value)(l:List (List Int))(r:fY w d v l)(b c:Nat)(p:List Int)(h0:w.cell? ⟨b,0,none⟩=some (.string (strOfNums p)))(D:l.length<=1000000)(s:d<=w.heap.size):
 ∃i k m a,(Builtin.append_ #[44,44] ty #[v,.slice (some ⟨b,0,none⟩) 1 c]).run prog w=.ok (.slice i k m) a/\fY a d (.slice i k m) (l++[p])/\w.grownBy a v.ownBlock:=by
 obtain⟨t,hi,x,y,z⟩:=lD Oi;obtain⟨A,a,n,B,q,_,E⟩:=run_append_own_at (P:=prog) w d 44 ty 9 t _ 1 16 underlying44 hi x y z rfl (by decide) v l.length (l.map λp=>.string (strOfNums p)) r ⟨b,0,none⟩ 1 c ([p].map λp=>.string (strOfNums p)) (by simp) (by
  intro j u f;rw[Addr.add_mid];have:j=0:=by
   have:=(kQ.1 f).1;simp at this;exact this
  subst this;simp at f;subst f;exact h0) (λu C=>by
  obtain⟨e,-,rfl⟩:=fg.1 C;rfl) (by simp[maxLen];omega) (by omega) s
 have h:fY a d A (l++[p]):=by
  unfold fY;rw[bH,mY];exact B
 obtain⟨-,⟨rfl,e2⟩|⟨g,cap,F,rfl,_⟩⟩:=id h;exact⟨_,_,_,a,n,h,q⟩
 exact⟨_,_,_,a,n,h,q⟩
def eY(l:List El)(i:Nat):El:=l.getD i (0,[])
def xq{l:List El}(h:i<l.length):l[i]?=some (eY l i):=by simp[eY,List.getD,h]
def zC{l:List El}(h:i<l.length):eY l i∈l:=xP (xq h)
def zE{l:List El}(h:j<l.length):l.take (j+1)=l.take j++[eY l j]:=by
 rw[qW,xq h];rfl
def Ok(h:∀x∈L,W8 x)(a:w.heap[n]?=some (.cells (bv L).toArray 5 (0,0)))(hl:L.length<=1000000):bn w 0 (kh (n,L)) L:=by
 have e:=fL L;refine⟨h,by omega,.inr ⟨n,L.length,(bv L).toArray,rfl,iP _,a,aR _,by simp[maxLen];omega,by simp[e],?_⟩⟩
 rw[lC (by simp[e])]
structure lM(a:World)(b:List El)(j:Nat)(c:Value)(wr:World):Prop where
 own:fY wr a.heap.size c ((b.take j).map (·.2))
 av:ao a wr (λk=>∃e∈b.take j,e.1=k)
def lM.el{wr:World}{a:List El}(h:lM w a j x wr)(c:ig w 0 a)(b:j<a.length)(hl:∀e∈a,e.2.length<=1000000):bn wr 0 (kh (eY a j)) (eY a j).2:=by
 have d:=zC b;obtain⟨-,f,g⟩:=c.at_ _ d;have i:wr.heap[(eY a j).1]?=some (.cells (bv (eY a j).2).toArray 5 (0,0)):=by
  rw[h.av.block _ (c.lt d) ?_];exact g;rintro⟨e,k,e2⟩;have hs:=c.sep;rw[<-pr j a]at hs;have hd:eY a j∈a.drop j:=by
   rw[Ar b];have:a[j]=eY a j:=by have:=xq b;rw[eI b]at this;exact aQ this
   rw[this];simp
  exact(List.pairwise_append.1 hs).2.2 e k _ hd e2
 have:=hl _ d;exact Ok f i this
def lM.row{wr:World}{b:List El}(h:lM w b j y wr)(c:eX w 0 (.slice a n i) b)(d:∀e∈b,(Value.slice a n i).ownBlock≠some e.1):eX wr 0 (.slice a n i) b:=c.av h.av (λk e ⟨x,f,e2⟩=>d x (jc f) (by rw[e2];exact e))
def lM.step{wr:World}{b:List El}(h:lM w b j x wr)(f:j<b.length)(gb:wr.grownBy W none)(g:fY v w.heap.size (.slice a n i) ((b.take j).map (·.2)++[(eY b j).2]))(c:W.grownBy v x.ownBlock)(d:v.grownBy V (some (eY b j).1))(q:(eY b j).1<w.heap.size):lM w b (j+1) (.slice a n i) V:=by
 refine⟨?_,?_⟩
 have e:(b.take (j+1)).map (·.2)=(b.take j).map (·.2)++[(eY b j).2]:=by rw[zE f];simp
 rw[e];refine g.av (ao.of d) (λk e1 e2=>?_);have:=(g.lt k e1).1;have:=aQ e2;omega;refine⟨d.os.trans (c.os.trans (gb.os.trans h.av.os)),d.tape.trans (c.tape.trans (gb.tape.trans h.av.tape)),d.output.trans (c.output.trans (gb.output.trans h.av.output)),bD h.av.size (bD gb.size (bD c.size d.size)),λk m l=>?_⟩
 have r:=h.av.size;have z2:=gb.size;have s:=c.size;rw[d.block k (by omega) (λe=>l ⟨eY b j,by rw[zE f];simp,(aQ e).symm▸rfl⟩),c.block k (by omega) (λe=>by have:=(h.own.lt k e.symm).1;omega),gb.block k (by omega) (by simp)];refine h.av.block k m (λ⟨e,p,e2⟩=>l ⟨e,?_,e2⟩);rw[zE f];exact iO _ p
def aJ.Ep(a:dU n I)(b:n<=100000):I.dv.2.length<=50/\∀p∈I.dv.2,(p.length:Int)<=300:=by
 cases I with
 |aE s=>exact(Eo a b).2
 |shut aA l=>exact⟨bD a.1 (by omega),a.2⟩
def lM.done{wr f m:World}{q:fK}(D:iM w q W v){b:List El}(E:∀k,S k->k<w.heap.size)(T:lM V b b.length x wr)(z:b9 V i l I P)(A:∀k,P k->S k\/v.heap.size<=k)(C:ao v V S)(B:∀e∈b,¬P e.1/\(S e.1\/v.heap.size<=e.1))(p:wr.grownBy f (some (w.heap.size+1)))(r:f.grownBy m none):
 ∃a n c,x=.slice a n c/\fY m w.heap.size x (b.map (·.2))/\b9 m i l I P/\(∀k,P k->S k\/w.heap.size<=k)/\ao w m S/\∀j,x.ownBlock=some j->¬P j:=by
 have Q:=D.z2;have R:=C.size;have U:=T.av.size;have d:=T.own;rw[oK]at d;obtain⟨a,cap,F⟩:=d.gK;have G:¬P (w.heap.size+1):=λh=>by
  obtain s|s:=A _ h
  have:=E _ s;omega;omega
 have H:b9 wr i l I P:=z.other T.av (λk _ ⟨e,t,e2⟩ u=>(B e (jc t)).1 (e2▸u));have K:b9 f i l I P:=H.other (ao.of p) (λk _ e u=>G (by have:=aQ e;rw[this];exact u));refine⟨a,_,cap,F,?_,K.an r,λk y=>(A k y).imp id (λh=>by omega),?_,λj e L=>?_⟩
 have M:fY f V.heap.size x (b.map (·.2)):=d.av (ao.of p) (λk e e2=>by have:=(d.lt k e).1;have:=aQ e2;omega);exact(M.av (ao.of r) (λk _ e=>by cases e)).low (by omega);have N:ao v wr S:=(C.trans T.av).mono (λk y h=>h.elim id (λ⟨e,t,e2⟩=>(B e (jc t)).2.elim (λh=>e2▸h) (λh=>by omega)));have O:=((ao.of D.g).trans N).trans ((ao.of p).trans (ao.of r));refine O.mono (λk y h=>?_);obtain(h|h)|(h|h):=h
 cases h;exact h;have:=aQ h;omega;cases h;have s:=(d.lt j e).1;have X:=z.lt j L;omega
def Ol(w:World)(xb sb:Nat)(st:aJ)(A:Nat->Prop)(n:Nat)(h:b9 w xb sb st A)(al:dU n st)(hn:n<=100000)(hL:Laid w)(q:fK)(ax:aS q.code)(hq:q.op=5)(hd:q.data.size<=1000000):
 Calls prog 60 #[.pointer (some ⟨xb,0,none⟩),.agg (cD q)] w (iX w xb sb A (st.do q)):=by
 obtain⟨R,K⟩:=exq (iX w xb sb A (st.do q));rw[<-K];obtain⟨W1,p,D⟩:=iM.mk' w q;obtain⟨cA,b0⟩:=aJ.Ep al hn;have L:=J (NS p xb sb st A n (h.an D.g) al hn);have aC:=J (λ(f:World)(C:ao p f A)=>D.oZ h.lt C hd);have a0:=J (λ(f wr t i:World)(F:Nat->Prop)(d:List El)(r:Value)(T:lM f d d.length r wr)(L:b9 f xb sb st.dv.1 F)(M:∀k,F k->A k\/p.heap.size<=k) (C:ao p f A) (s:∀e∈d,¬F e.1/\(A e.1\/p.heap.size<=e.1)) (u:d.map (·.2)=st.dv.2) (P:wr.grownBy t (some (w.heap.size+1))) (B:t.grownBy i none)=>(show R (.returned (.tuple #[.int .i64 0,.int .i64 (-1),.int .i64 0,.int .u64 0,.string ⟨#[]⟩,r])) i by
  have e:st.do q=(⟨0,-1,0,0,[],st.dv.2⟩,st.dv.1):=by unfold aJ.do;rw[iN_,iN_,iN_,iN_,aD hq]
  rw[K,e];obtain⟨a,m,c,rfl,Q,h2,h3,h4,h5⟩:=lM.done D h.lt T L M C s P B;exact⟨a,m,c,rfl,u▸Q,F,h2,h3,h4,h5⟩))
 have cB:=m9 q.data;have b3:=J wY;obtain⟨d0,d1,d2,d3,d4⟩:p.cell? ⟨w.heap.size,0,none⟩=some (.int .i64 q.op)/\p.cell? ⟨w.heap.size,1,none⟩=some (.int .i64 q.stream)/\p.cell? ⟨w.heap.size,2,none⟩=some (.int .i64 q.n)/\p.cell? ⟨w.heap.size,3,none⟩=some (.int .u64 q.code)/\p.cell? ⟨w.heap.size,4,none⟩=some (.string q.data):=by simp[World.cell?,D.b,cD]
 have a1:=D.e1;have a2:=D.e2;have cC:=D.z;replace⟨D,K,h,hL,ax⟩:=eR D K h hL ax;unfold cD at *;obtain⟨op,stream,qn,code,data⟩:=q;simp only at *;subst hq;go_enter func60,ntmps60;go_upto_region 3 with fail;rw[<-a1,<-a2];generalize grownCap W1 data.size 0 5=cap at *;clear a1 a2;go_wp2_with fail;apply(Z L).mono;rintro e f⟨a3,n3,c3,d,F,rfl,H,N,u,I,M,S,G⟩;have db:d.length<=50:=by have:=fG List.length u;rw[dH]at this;omega
 have a4:∀e∈d,e.2.length<=1000000:=λe s=>by
  have:=b0 e.2 (by rw[<-u];exact pt s);omega
 obtain⟨a',c',ev,de,b4,-,a8⟩:=H.gK;obtain⟨e1,e2,e3⟩:=js ev;subst e1 e2 e3;have hF:=J (λ(wr t i:World)(r:Value)(T:lM f d d.length r wr)=>Z a0 f wr t i F d r T I M S (λe s=>⟨(G e s).1,(G e s).2.2⟩) u);have b5:=J (λ(wr:World) r(T:lM f d d.length r wr)=>Z aC wr ((S.trans T.av).mono (λk hk h=>h.elim id (λ⟨e,b6,e2⟩=>(G e (jc b6)).2.2.elim (λh=>e2▸h) (λh=>by omega)))) cap);have b7:Hid (lM f d 0 (.slice none 0 0) f):=J ⟨by simpa using fY.nil _ _,(ao.of (aB f none)).mono (λk _ e=>by cases e)⟩;have dg:0<f.heap.size:=by
  have:=I.lt xb I.kK;omega
 replace⟨I,N,H,G,u,a8⟩:=nZ I N H G u a8;clear L aC a0 M S;unfold maxLen at b4;go_upto_region 14 with fail;go_loopg [9,53] (d.length+1) (λg r b8 wr=>∃(j:Nat),j<=d.length/\b8=.int .i64 j/\g=d.length+1-j/\lM f d j r wr);case atStart=>exact⟨0,by omega,rfl,by omega,Z b7⟩
 case round=>
  obtain⟨j,hj,rfl,rfl,l⟩:=hrel;obtain⟨a9,c9,rfl⟩:=l.own.gK;by_cases E:j<d.length
  ·have i1:(j:Int)<d.length:=by omega
   have i0:(0:Int)<=j:=by omega
   obtain⟨y,rfl⟩:∃y,a3=some y:=by
    cases a3 with
    |some y=>exact⟨y,rfl⟩
    |none=>
     obtain⟨a',c',ev,-,-,h0,-⟩:=(Z H).gK;obtain⟨e1,-,-⟩:=js ev;have:=(h0 e1.symm).1;rw[this]at E;simp at E
   have bb:=l.row (Z H) (λe s=>(Z G e s).2.1);obtain⟨a',c',ev,-,-,-,bj⟩:=bb.gK;obtain⟨e1,-,-⟩:=js ev;obtain⟨-,ey,U⟩:=bj y e1.symm;obtain⟨yb,ca⟩:=exq y.block;rw[<-ca]at ey U;subst ey;have dk:wr.cell? ⟨yb,j,none⟩=some (kh (eY d j)):=by
    have:=U j (kh (eY d j)) (by rw[List.getElem?_map,xq E];rfl);rwa[dY]at this
   have V:=l.el (Z N) E a4;have dn:=tM V.gT;have br:=J (λ(i:World)(B:wr.grownBy i none\/True)(ho:bn i 0 (kh (eY d j)) (eY d j).2)=>vF (some ⟨(eY d j).1,0,none⟩) (eY d j).2.length (eY d j).2.length (eY d j).2 i 0 ho (by have:=a4 _ (zC E);omega));obtain⟨W,X⟩:=exq (wr.alloc (.cells #[.string (strOfNums (eY d j).2)] 9));have O:wr.grownBy W none:=by rw[X];exact aH _ _ _
   have bt:W.cell? ⟨wr.heap.size,0,none⟩=some (.string (strOfNums (eY d j).2)):=by
    have:=aO wr (.cells #[.string (strOfNums (eY d j).2)] 9);rw[<-X]at this;simp[World.cell?,this]
   have bx:=l.own.av (ao.of O) (λk _ e=>by cases e);obtain⟨a5,n5,c5,i,Y,bz,B⟩:=Oj (w:=W) 44 f.heap.size _ _ bx wr.heap.size 1 (eY d j).2 bt (by simp;omega) (bD l.av.size O.size);have ch:(eY d j).1<f.heap.size:=(Z N).lt (zC E);have bM:bn i 0 (kh (eY d j)) (eY d j).2:=by
    refine(V.an O).gb B (.inr (λe=>?_));have Q:(kh (eY d j)).ownBlock=some (eY d j).1:=rfl;rw[Q]at e;have:=(l.own.lt _ e.symm).1;omega
   have cj:=J (Z br i (.inr trivial) bM);have cp:=J (λw6(g6:i.grownBy w6 (some (eY d j).1))=>l.step E O bz B g6 ch);generalize ds:eY d j=el at *;obtain⟨eb,du⟩:=el;unfold kh at *;simp only at *;replace⟨l,Y⟩:=bA l Y;clear V bb bj U bt bx bz bM br;go_upto_region 16 with fail;go_wp2_with (at_builtin;rw[<-X];refine pW (by rfl) 44 44 (by rfl) _ _ (by rfl) _ _ _ (by rfl) (by rfl) (Z Y) ?_);apply(Z cj).mono;rintro e w6⟨rfl,g6⟩;have cv:=J (Z cp w6 g6);go_wp2;go_roundg (d.length+1-(j+1));case measure=>omega
   case rel=>exact⟨j+1,by omega,by push_cast;rfl,rfl,Z cv⟩
  have cw:j=d.length:=by omega
  subst cw;have cx:=J (Z b5 wr _ l);have cy:=J (λt i=>Z hF wr t i _ l);have i1:¬((d.length:Int)<d.length):=by omega
  replace l:=J l;go_wp2_with fail;apply(Z cx).mono;rintro e t⟨rfl,P⟩;go_wp2_with fail;apply(Z b3 _).mono;rintro e i⟨rfl,B⟩;have hf:=J (Z cy _ _ P B);go_wp2_with fail;first|exact Z hf|exact cF (v:=.tuple #[.int .i64 0,.int .i64 (-1),.int .i64 0,.int .u64 0,.string ⟨#[]⟩,.slice a9 (List.map (λx=>x.2) (List.take d.length d)).length c9]) (by simp[results,results60,go_sem]) rfl (Z hf)
def Om(w:World)(xb sb:Nat)(st:aJ)(A:Nat->Prop)(n:Nat)(h:b9 w xb sb st A)(a:dU n st)(b:n<=100000)(c:Laid w)(q:fK)(d:aS q.code)(hd:q.data.size<=1000000):
 Calls prog 60 #[.pointer (some ⟨xb,0,none⟩),.agg (cD q)] w (iX w xb sb A (st.do q)):=by
 by_cases e:q.op=1;exact N3 w xb sb st A n h a b c q d e hd;by_cases f:q.op=2;exact NX w xb sb st A n h a b c q d f hd;by_cases g:q.op=3;exact NY w xb sb st A n h a b c q d g hd;by_cases i:q.op=4;exact N5 w xb sb st A n h a b c q d i hd;by_cases j:q.op=5;exact Ol w xb sb st A n h a b c q d j hd;by_cases k:q.op=6;exact N6 w xb sb st A n h a b c q d k hd;by_cases l:q.op=7;exact N8 w xb sb st A n h a b c q d l hd;by_cases m:q.op=8;exact NZ w xb sb st A n h a b c q d m hd;by_cases p:q.op=9;exact N4 w xb sb st A n h a b c q d p hd;exact N7 w xb sb st A n h a b c q d (by omega) hd
def bY.rG(h:bY s n)(k:Nat)(o:Ot)(f:k<4->gC o)(g:k<4->(o.h.bytes.length:Int)<=s.ag)(i:k<4->0<=o.ay/\o.ay<=4096)(l:k<4->0<=o.code/\o.code<=4611686018427387903):bY {s with out:=ah s.out k o} n:=by
 have c:∀(P:Nat->Ot->Prop),(k<4->P k o)->(∀j,j<4->P j (s.out j))->∀j,j<4->P j (ah s.out k o j):=λP a b j d=>by
  by_cases e:j=k;subst e;rw[bk];exact a d;rw[bm _ _ e];exact b j d
 exact{h with out:=c (λ_ o=>gC o) f h.out,oW:=c (λ_ o=>(o.h.bytes.length:Int)<=s.ag) g h.oW,ay:=c (λ_ o=>0<=o.ay/\o.ay<=4096) i h.ay,code:=c (λ_ o=>0<=o.code/\o.code<=4611686018427387903) l h.code}
def bY.nE(h:bY s n)(k:Nat)(i:It)(b:k<4->ik s.ag i):bY {s with aL:=ah s.aL k i} n:=by
 have c:∀j,j<4->ik s.ag (ah s.aL k i j):=λj a=>by
  by_cases e:j=k;subst e;rw[bk];exact b a;rw[bm _ _ e];exact h.aL j a
 exact{h with aL:=c}
def On(h:bY s n)(a:k<4)(l:List Int):bY (s.write k l).2.2 n:=by
 unfold Sd.write;split;exact h;have b:=h.out k a;have d:=b.en;have hl:=h.oW k a;unfold Ot.en at d;have c:(((s.out k).wrote l s.ag).h.bytes.length:Int)<=s.ag/\(s.out k).h.fr+((s.out k).wrote l s.ag).h.bytes.length<=4096:=by
  unfold Ot.wrote Ot.fI;simp only[bH,ct]
  omega
 refine h.rG k _ (λ_=>⟨b.ok,b.kY,b.fr,b.low,b.hole,?_⟩) (λ_=>c.1) (λa=>h.ay k a) (λa=>h.code k a);exact c.2
def Oo(h:bY s n)(a:k<4):bY (s.finish k).2 n:=by
 unfold Sd.finish;split;exact h;exact h.rG k _ (λa=>(h.out k a).same rfl) (λa=>h.oW k a) (λa=>h.ay k a) (λa=>h.code k a)
def Oq(h:bY s n)(b:k<4)(c:aS p):bY (s.giveUp k p).2 n:=by
 unfold Sd.giveUp;split;exact h;rename_i d;have a:=h.out k b;have g:=h.ag;have f:=a.en;unfold Ot.en at f;refine h.rG k _ (λ_=>⟨a.ok,a.kY,a.fr,a.low,a.hole,?_⟩) (λ_=>by unfold Ot.giveUp;simp;omega) (λb=>h.ay k b) (λ_=>⟨c.1,?_⟩);unfold Ot.giveUp Ot.en;simp;omega;show p<=_;have:¬(4611686018427387903<p):=λe=>d (.inr e)
 omega
def Ou(h:bY s n):bY s.eW (n+1):=by
 have b:=h.mono (bZ n);have c:=h.tick;have d:=h.wait;unfold Sd.eW;split;exact{b with
  pk:=λx a=>h.pk x (by simp at a;simp;exact a.symm),num:=λx a=>(by cases a),fl:=(by simp),fp:=λx a=>(by cases a),ft:=λx a=>(by cases a),tick:=(by simp only;omega),wait:=(by simp only;omega),ll:=(by have:=h.ll;simp only[bH,fe];omega)}
 exact{b with ft:=λx a=>(by have:=h.ft x a;simp only;omega),tick:=(by simp only;omega)}
def Er(i:It)(aF:Int)(h:0<=cV i.h/\cV i.h<=i.h.bytes.length):(i.iT aF:Int)<=cV i.h:=by
 unfold It.iT;omega
def ik.read(h:ik p E)(j:0<=p)(aF:Int):ik p (E.read aF):=by
 unfold It.read;split;exact h;have f:=h.whole;have a:=Er E aF f;have k:=h.fr;have l:=h.len;have n:=h.en;refine⟨h.ok,by simp only;omega,λm c=>?_,λm c=>?_,λd m h0 e=>?_,?_,?_,λd=>?_⟩
 have:=h.kY m c;simp only;omega;have:=h.lK m c;simp only[dM];omega;simp only at e;by_cases hl:m<E.h.fr;exact h.low d m h0 hl;unfold cV at a f;split at a;omega;rename_i b;cases g:E.h.af with
 |nil=>rw[g]at b;simp at b
 |cons r t=>
  rw[g]at b a;have e0:au (r::t) 0=r:=rfl;rw[e0]at b a;exact⟨r,by simp,by omega,by omega⟩
 simp only[dM];omega;simp only[dM];omega;obtain⟨e,i⟩:=h.sU d;exact⟨e,by simp[i]⟩
def Ov(h:bY s n)(k:Nat)(aF:Int):bY {s with aL:=ah s.aL k ((s.aL k).read aF)} n:=
 h.nE k _ (λa=>(h.aL k a).read (by have:=h.ag;omega) aF)
def Ow(h:bl D)(l:D.length<=8)(f:∀r∈D,0<=r.lo/\r.hi<=4611686018427387904)(m:0<=q/\q<=4611686018427387903):bl (fh D p q).1/\(fh D p q).1.length<=8/\∀r∈(fh D p q).1,0<=r.lo/\r.hi<=4611686018427387904:=by
 have b:=nj ⟨q,q+1⟩ h;have hl:=tS D ⟨q,q+1⟩;have g:∀r∈dB D ⟨q,q+1⟩,0<=r.lo/\r.hi<=4611686018427387904:=λr a=>by
  have i:=b.2 r a;have c:=(jM ⟨q,q+1⟩ h r.lo).1 ⟨r,a,cS _,i⟩;have d:=(jM ⟨q,q+1⟩ h (r.hi-1)).1 ⟨r,a,by omega,by omega⟩;refine⟨?_,?_⟩
  obtain⟨x,e,j,k⟩|c:=c
  have:=f x e;omega;simp only at c;omega;obtain⟨x,e,j,k⟩|d:=d
  have:=f x e;omega;simp only at d;omega
 unfold fh;split;refine⟨⟨b.1.sublist (List.drop_sublist _ _),λr a=>b.2 r (iN a)⟩,by simp;omega,λr a=>g r (iN a)⟩
 refine⟨b,?_,g⟩
 show(dB D ⟨q,q+1⟩).length<=8;omega
def Ox(l:List (Int×Pc)):∀(out:Nat->Ot)(k:Nat),(eH out l k).ay=(out k).ay/\(eH out l k).code=(out k).code/\(eH out l k).h.bytes.length<=(out k).h.bytes.length:=by
 induction l with
 |nil=>intro out k;exact⟨rfl,rfl,aR _⟩
 |cons x l f=>
  intro out k;have e:eH out (x::l)=eH (ah out x.1.toNat ((out x.1.toNat).gz x.2)) l:=rfl;rw[e];obtain⟨b,c,a⟩:=f (ah out x.1.toNat ((out x.1.toNat).gz x.2)) k;by_cases d:k=x.1.toNat;rw[b,c];rw[<-d]at a⊢;rw[bk]at a⊢;refine⟨rfl,rfl,bD a ?_⟩
  unfold Ot.gz;simp only[dM];omega;rw[bm _ _ d]at b c a;exact⟨b,c,a⟩
def Oy{α:Type}(l:List α)(p:α->Bool):(l.filter p).length+(l.filter (λx=> !p x)).length=l.length:=by
 induction l with
 |nil=>rfl
 |cons a l b=>cases h:p a<;>simp[h]<;>omega
def Oz(h:bY s n)(f:n<=100000)(l:List Rg):bY (s.eh l) n:=by
 have e:=(h.Eg f).eh l;obtain⟨i,j⟩:=D0 s l;have m:=h.fl;have c:=Ox (ns (λx=>bN l x.num) s.aM++ns (λx=>bN l x.num) s.lost) s.out;have d:∀x∈(s.eh l).aM,x∈s.aM:=λx a=>by
  have a:x∈(s.aM.filter (λx=> !bN l x.num)).filter (λx=> !decide (x.num+3<=(au l 0).hi)):=a;exact(iG.1 (iG.1 a).1).1
 have p:(s.eh l).lost.length+(s.eh l).aM.length<=s.lost.length+s.aM.length:=by
  have e1:(s.eh l).aM=(s.aM.filter (λx=> !bN l x.num)).filter (λx=> !decide (x.num+3<=(au l 0).hi)):=rfl;have e2:(s.eh l).lost=(s.eJ l).lost.filter (λx=> !x.ps.all (lg ((s.eJ l).out x.st.toNat))):=rfl;have q:(s.eJ l).lost.length=(s.lost.filter (λx=> !bN l x.num)).length+((s.aM.filter (λx=> !bN l x.num)).filter (λx=>decide (x.num+3<=(au l 0).hi))).length:=by unfold Sd.eJ;simp only[bH]
  have b1:=nP (λx:Pk=> !x.ps.all (lg ((s.eJ l).out x.st.toNat))) (s.eJ l).lost;have b2:=Oy (s.aM.filter (λx=> !bN l x.num)) (λx=>decide (x.num+3<=(au l 0).hi));have r:=nP (λx:Pk=> !bN l x.num) s.aM;have t:=nP (λx:Pk=> !bN l x.num) s.lost;rw[e1,e2];omega
 have g:0<=(s.eh l).wait/\(s.eh l).wait<=32:=by
  show 0<=(if s.aM.any (λx=>bN l x.num)then(4:Int)else s.wait)/\(if s.aM.any (λx=>bN l x.num)then(4:Int)else s.wait)<=32;have:=h.wait;split<;>omega
 have u:=h.ll;exact⟨h.key,h.aj,h.ag,e.out,λk b=>Int.le_trans (by have:=(c k).2.2;exact Int.ofNat_le.2 this) (h.oW k b),λk b=>by show 0<=(eH _ _ k).ay/\(eH _ _ k).ay<=4096;rw[(c k).1];exact h.ay k b,λk b=>by show 0<=(eH _ _ k).code/\(eH _ _ k).code<=_;rw[(c k).2.1];exact h.code k b,h.aL,e.pk,λx a=>h.num x (d x a),by omega,λx a=>h.fp x (d x a),λx a=>h.ft x (d x a),h.tick,g,h.bf,by omega,h.mI,h.c8,h.cr⟩
def zF(h:bY s n)(c:n<=100000)(hs:cT G)(ho:0<=G.offset)(d:mG s G):bY (s.take G).2 n:=by
 have e:=hs.st;unfold Sd.take;split;split;exact h;exact Oz h c _;split;split;exact h;exact h.nE _ _ (λa=>(h.aL _ a).reset G);split;rename_i b;split;exact h;exact h.nE _ _ (λa=>(h.aL _ a).data G ho (hs.en b) (d b));split<;>exact h
def zG{n:Nat}(a:n<=100000):∀(b:List Fr)(s:Sd),bY s n->(∀f∈b,cT f/\0<=f.offset/\mG s f)->bY (dm s b).2 n
 |[],s,h,_=>h
 |f::r,s,h,c=>by
  obtain⟨d,e,i⟩:=c f (by simp);rw[zr];split;exact zG a r _ (zF h a d e i) (λg j=>by
   obtain⟨k,l,k3⟩:=c g (by simp[j]);exact⟨k,l,k3.same (take_same s f)⟩)
  exact zF h a d e i
def zH(s:Sd)(aA code:Int):(s.gN aA code).length<=1/\∀p∈s.gN aA code,(p.length:Int)<=300:=by
 unfold Sd.gN;split;exact⟨by simp,λp hp=>(by cases hp)⟩
 refine⟨by simp,λp hp=>?_⟩
 rw[cL.1 hp,nw];have e:bp [cz code]=28::aU code:=by simp[bp,df,cz]
 rw[e,dc];have:=(gQ code).2;omega
def OA(a:∀x∈L,W8 x){x:Fr×Nat}(h:fM L t n=some x):0<=x.1.offset/\0<=x.1.code:=by
 unfold fM at h;split at h;cases h;simp[cu];split at h;cases h;simp[cu];split at h;obtain⟨y,-,h⟩:=qV.1 h;cases h;simp[cu];split at h;obtain⟨y,-,h⟩:=qV.1 h;obtain⟨z,b,h⟩:=qV.1 h;obtain⟨u,c,h⟩:=qV.1 h;cases h;exact⟨(kS a c).1.1,(kS a b).1.1⟩
 split at h;obtain⟨y,-,h⟩:=qV.1 h;obtain⟨z,b,h⟩:=qV.1 h;obtain⟨u,c,h⟩:=qV.1 h;cases h;exact⟨(kS a b).1.1,by simp[cu]⟩
 split at h;obtain⟨y,d,h⟩:=qV.1 h;cases h;exact⟨by simp[cu],(kS a d).1.1⟩
 cases h
def OB(i:∀x∈L,W8 x):∀(k p:Nat)(c d:List Fr),iH L k p c=(some d,-1)->(∀f∈c,0<=f.offset/\0<=f.code)->∀f∈d,0<=f.offset/\0<=f.code:=by
 intro k;induction k with
 |zero=>intro p c d h;simp[iH]at h
 |succ k j=>
  intro p c d h e;unfold iH at h;split at h;split at h;simp at h;rename_i f q a;refine j _ _ _ h (λg b=>?_);obtain b|b:=bQ.1 b
  exact e g b;rw[cL.1 b];unfold nh at a;obtain⟨x,l,a⟩:=qV.1 a;split at a;cases a;exact OA i l;cases a;simp only[qZ,mn]at h;rw[<-h.1];exact e
def Es(b:∀x∈L,W8 x){a:List Fr}(h:fN L=(some a,-1)):∀f∈a,0<=f.offset/\0<=f.code:=by
 unfold fN at h;split at h;simp at h;exact OB b _ _ _ _ h (λf c=>(by cases c))
def OC(b:List Int):∀(k p:Nat)(a c:List Fr)(q:Int),iH b k p a=(some c,q)->q= -1:=by
 intro k;induction k with
 |zero=>intro p a c q h;simp[iH]at h
 |succ k d=>
  intro p a c q h;unfold iH at h;split at h;split at h;simp at h;exact d _ _ _ _ h;simp only[qZ]at h;exact h.2.symm
def Et{a:List Fr}(h:fN L=(some a,q)):q= -1:=by
 unfold fN at h;split at h;simp at h;exact OC _ _ _ _ _ _ h
def Eu(hp:∀x∈L,W8 x):∀x∈bS L,W8 x:=λx a=>hp x (iN (jc a))
def Ev(hp:∀x∈L,W8 x):0<=bq L:=by
 have h:=uv L hp;unfold bq;by_cases hl:8<=L.length;exact(h 8 hl).1;rw[tL_];have:=(h L.length (aR _)).1;rwa[oK]at this
def Ew(h:bY s n)(a:0<=p/\p<=4611686018427387903)(b:List Fr):bY (s.fR p b) n:=by
 obtain⟨c,d,e⟩:=Ow (p:=s.floor) h.mI h.c8 h.cr a;exact{h with mI:=c,c8:=d,cr:=e}
def OD(h:bY s n)(c:n<=100000)(hp:∀x∈L,W8 x):dU n (s.recv L).2.2:=by
 unfold Sd.recv;split;exact h;rename_i d;split;exact h;split;exact zH _ _ _;rename_i a q hd;have:=Et hd;subst this;have hs:=xd hd;have ho:=Es (uy (Eu hp)) hd;split;exact h;rename_i e;have g:a.any s.fX=false:=by simpa using e
 have i:eC s.key (aT (!s.first)) L:=by simpa using d
 have j:=zG c a _ (Ew h ⟨Ev hp,i.2.2.2⟩ a) (λf b=>⟨hs f b,(ho f b).1,D9 g _ f b⟩);split;exact j;exact zH _ _ _
def Ex(h:dU n I)(c:n<=100000)(q:fK)(e:aS q.code):dU (n+1) (I.do q).2:=by
 cases I with
 |shut aA l=>
  have a:dU (n+1) (.shut aA l):=h;have h0:dU (n+1) (.shut aA []):=⟨by simp,λp hp=>(by cases hp)⟩
  unfold aJ.do;repeat' split
  all_goals first|exact a|exact h0
 |aE s=>
  have b:=h.mono (bZ n);have a:dU (n+1) (.aE s):=b;unfold aJ.do;split;unfold aJ.write;simp only;split;exact a;exact On b (by omega) _;split;unfold aJ.finish;simp only;split;exact a;exact Oo b (by omega);split;unfold aJ.giveUp;simp only;split;exact a;exact Oq b (by omega) e;split;exact Ou h;split;exact(Eo h c).1;split;have:=OD h c (qA q.data);unfold aJ.recv;simp only
  cases d:(s.recv (aG q.data)).2.2 with
  |aE f=>rw[d]at this;exact bY.mono this (bZ n)
  |shut aA l=>rw[d]at this;exact this
  split;unfold aJ.read;simp only;split;exact a;exact Ov b _ _;split;unfold aJ.close;simp only;split;exact a;exact zH _ _ _;split;exact a;exact a
def OE(h:jP p q)(d:dD L)(n:Nat):bY (Sd.new p q L B) n:=by
 have f:gC Ot.new:=⟨bl.nil,λm b=>absurd b (fU m),by simp[Ot.new],λm h0 c=>by simp[Ot.new]at c;omega,fU _,by simp[Ot.new,Ot.en]⟩
 have g:ik q It.new:=⟨bl.nil,by simp[It.new],λm b=>absurd b (fU m),λm b=>absurd b (fU m),λ_ m h0 c=>by simp[It.new]at c;omega,by simp[It.new];unfold jP at h;omega,by simp[It.new],λe=>by simp[It.new]at e⟩
 unfold jP at h;exact⟨d,⟨h.1,h.2.1⟩,h.2.2,λ_ _=>f,λ_ _=>by simp[Sd.new,Ot.new];omega,λ_ _=>by simp[Sd.new,Ot.new],λ_ _=>by simp[Sd.new,Ot.new],λ_ _=>g,λx a=>(by cases a),λx a=>(by cases a),by simp[Sd.new],λx a=>(by cases a),λx a=>(by cases a),by simp[Sd.new],by simp[Sd.new],by simp[Sd.new];omega,by simp[Sd.new],bl.nil,by simp[Sd.new],λr i=>(by cases i)⟩
structure cQ where
 l:List Rg
 floor:Int
 aF:Int
def cQ.has(s:cQ)(n:Int):Bool:=decide (n<s.floor)||s.l.any (λr=>decide (r.lo<=n)&&decide (n<=r.hi))
structure jQ where
 lo:Int
 hi:Int
 out:List Rg
 done:Bool
def jQ.step(x:jQ)(r:Rg):jQ:=
 if r.hi<x.lo/\1<x.lo-r.hi then{x with out:=x.out++[r]}
 else if x.hi<r.lo/\1<r.lo-x.hi then(if x.done then{x with out:=x.out++[r]}else{x with out:=x.out++[⟨x.lo,x.hi⟩]++[r],done:=true})
 else{x with lo:=min x.lo r.lo,hi:=max x.hi r.hi}
def jQ.end_(x:jQ):List Rg:=if x.done then x.out else x.out++[⟨x.lo,x.hi⟩]
def qa(lo hi:Int)(l:List Rg):jQ:=l.foldl jQ.step ⟨lo,hi,[],false⟩
def cQ.put(s:cQ)(l:List Rg):cQ:=if s.aF<(l.length:Int)then⟨l.drop 1,(au l 0).hi+1,s.aF⟩else{s with l:=l}
def cQ.add(s:cQ)(lo hi:Int):cQ:=if hi<max lo s.floor then s else s.put (qa (max lo s.floor) hi s.l).end_
def Ty(w:World)(b:Nat)(t:TypeId):Prop:=∃cs fr,w.heap[b]?=some (.cells cs t fr)
def Ty.ne{u:TypeId}(h:Ty w n T)(k:Ty w b u)(a:T≠u):n≠b:=by
 rintro rfl;obtain⟨cs,fr,h⟩:=h;obtain⟨c,d,k⟩:=k;rw[h]at k;simp only[mn,Obj.cells.injEq]at k;exact a k.2.1
def Ty.lt(h:Ty w b T):b<w.heap.size:=by
 obtain⟨cs,fr,h⟩:=h;exact(aZ.1 h).1
def Ty.av(h:Ty w b T)(C:ao w W S)(a:¬S b):Ty W b T:=by
 have hl:=h.lt;obtain⟨cs,fr,h⟩:=h;exact⟨cs,fr,(C.block b hl a).trans h⟩
def kM{l:List Value}(h:w.ownsRow i T j x n l)(C:ao w W S)(c:∀k,x.ownBlock=some k->¬S k):W.ownsRow i T j x n l:=by
 obtain⟨d,a⟩:=h;refine⟨d,?_⟩
 obtain a|⟨g,cap,cur,e1,e2,b,e⟩:=a
 exact .inl a;exact .inr ⟨g,cap,cur,e1,e2,(C.block g (aZ.1 b).1 (c g (by rw[e1];rfl))).trans b,e⟩
def iY{l:List Value}(h:w.ownsRow i T j x n l):∀k,x.ownBlock=some k->Ty w k T:=by
 obtain⟨-,⟨e,-⟩|⟨g,cap,b,e1,e2,c,-⟩⟩:=h;rw[e];intro k a;cases a;rw[e1];intro k a;cases a;exact⟨b,_,c⟩
def qP{l:List Value}(h:w.ownsRow k T i x n l):∃a c,x=.slice a n c/\n<=c/\c<=maxLen/\(a=none->n=0/\c=0)/\∀y,a=some y->y=⟨y.block,0,none⟩/\w.rangeAt y.block 0 l:=by
 obtain⟨f,⟨e,h0⟩|⟨g,cap,m,e1,e2,p,q,r,v,s⟩⟩:=h;exact⟨none,0,by rw[h0];exact e,by omega,by simp[maxLen],λ_=>⟨h0,rfl⟩,λy b=>by cases b⟩
 refine⟨_,cap,e1,q,r,λe=>(by cases e),λy b=>?_⟩
 cases b;refine⟨rfl,λj u d=>?_⟩
 rw[dY,ba p];have t:j<n*i:=by rw[<-f];exact(kQ.1 d).1
 have:m.toList[j]?=l[j]? :=by rw[<-s,jI,aD t]
 rw[qq]at this;rw[this];exact d
structure da where
 data:ByteArray
 af:cQ
 finished:Bool
 given:Bool
 code:Int
 end_:Int
 high:Int
structure aN where
 data:List Int
 there:List Bool
 high:Int
 end_:Int
 ended:Bool
 given:Bool
 code:Int
 read:Int
 state:Int
structure ai where
 aj:Int
 ag:Int
 key:List Int
 me:Int
 closed:Int
 code:Int
 said:Bool
 next:Int
 dW:cQ
 bT:cQ
 due:List Int
 outs:Nat->da
 ins:Nat->aN
 ay:List (Int×List Fr)
structure OF where
 dW:Nat
 bT:Nat
 ro:Nat
 ri:Nat
 co:Nat
 ci:Nat
 ob:Nat->Nat
 cb:Nat->Nat
 ib:Nat->Nat
 vg:Value
 ve:Value
 vc:Nat->Value
 vd:Nat->Value
 vt:Nat->Value
 OG:Value
 OH:Value
 aw:List (Value×List et)
def mL(s:ai)(l:OF):List Value:=
 [.int .i64 s.aj,.int .i64 s.ag]++bv s.key++[.int .i64 s.me,.int .i64 s.closed,.int .u64 s.code,.bool s.said,.int .u64 s.next,.pointer (some ⟨l.dW,0,none⟩),.pointer (some ⟨l.bT,0,none⟩),l.OG,.slice (some ⟨l.ro,0,none⟩) 4 l.co,.slice (some ⟨l.ri,0,none⟩) 4 l.ci,l.OH]
def ai.of(s:ai)(k:Int):Int:=if s.closed≠0 then 9 else if k<0\/4<=k then 2 else 0
def ai.close(s:ai)(code:Int):Int×ai:=if s.closed≠0 then(9,s)else if 4611686018427387903<code then(3,s)else(0,{s with closed:=9,code:=code})
def cQ.eM(s:cQ):Int:=if s.l.length=0\/0<(au s.l 0).lo then 0 else(au s.l 0).hi+1
def ai.af(s:ai)(k:Int):Int×Int:=if s.of k≠0 then(0,s.of k)else((s.outs k.toNat).af.eM,0)
def ai.finish(s:ai)(k:Int):Int×ai:=
 if s.of k≠0 then(s.of k,s)else if(s.outs k.toNat).finished||(s.outs k.toNat).given then(3,s)else(0,{s with outs:=ah s.outs k.toNat {s.outs k.toNat with finished:=true}})
def ai.giveUp(s:ai)(k code:Int):Int×ai:=
 if s.of k≠0 then(s.of k,s)else if(s.outs k.toNat).given=true\/4611686018427387903<code then(3,s)else(0,{s with outs:=ah s.outs k.toNat {s.outs k.toNat with given:=true,code:=code,end_:=(s.outs k.toNat).high}})
def cR(r:Rg):Rg:=⟨r.lo,r.hi+1⟩
def cQ.sp(s:cQ):List Rg:=s.l.map cR
def step_done(l:List Rg):∀(x:jQ),x.done=true->(∀r∈l,x.hi+1<r.lo)->x.lo<=x.hi->(∀r∈l,r.lo<=r.hi)->(l.foldl jQ.step x).end_=x.out++l:=by
 induction l with
 |nil=>intro x h _ _ _;simp[jQ.end_,h]
 |cons r l d=>
  intro x h b hl c;have f:=b r (by simp);have g:=c r (by simp);have e:x.step r={x with out:=x.out++[r]}:=by
   unfold jQ.step;rw[iN_,iP_,aD h]
  have k:=d {x with out:=x.out++[r]} h (λq a=>b q (by simp[a])) hl (λq a=>c q (by simp[a]));rw[mq,e];refine k.trans ?_;simp
def ON(l:List Rg):∀(lo hi:Int)(out:List Rg),lo<=hi->bl (l.map cR)->(l.foldl jQ.step ⟨lo,hi,out,false⟩).end_.map cR=out.map cR++kT (l.map cR) ⟨lo,hi+1⟩:=by
 induction l with
 |nil=>intro lo hi out h _;simp[jQ.end_,kT,cR]
 |cons r l b=>
  intro lo hi out h hs;have hp:r.lo<r.hi+1:=hs.2 (cR r) (by simp);rw[mq,ky];have c:kT (cR r::l.map cR) ⟨lo,hi+1⟩=if r.hi+1<lo then cR r::kT (l.map cR) ⟨lo,hi+1⟩else if hi+1<r.lo then⟨lo,hi+1⟩::cR r::l.map cR else kT (l.map cR) ⟨min r.lo lo,max (r.hi+1) (hi+1)⟩:=rfl
  rw[c];by_cases c1:r.hi<lo/\1<lo-r.hi;have e:jQ.step ⟨lo,hi,out,false⟩ r=⟨lo,hi,out++[r],false⟩:=by unfold jQ.step;rw[aD c1]
  rw[e,b lo hi _ h hs.tail,iP_];simp[cR];by_cases c2:hi<r.lo/\1<r.lo-hi;have e:jQ.step ⟨lo,hi,out,false⟩ r=⟨lo,hi,out++[⟨lo,hi⟩]++[r],true⟩:=by unfold jQ.step;rw[az c1,aD c2];rfl
  have d:∀q∈l,r.hi+1<q.lo:=λq a=>(qu.1 hs.1).1 (cR q) (by simp;exact⟨q,a,rfl⟩)
  rw[e,step_done l _ rfl (λq a=>by have:=d q a;simp only;omega) h (λq a=>by have:=hs.2 (cR q) (by simp;exact .inr ⟨q,a,rfl⟩);unfold cR at this;simp only at this;omega),iN_,iP_];simp[cR];have e:jQ.step ⟨lo,hi,out,false⟩ r=⟨min lo r.lo,max hi r.hi,out,false⟩:=by unfold jQ.step;rw[az c1,az c2]
  rw[e,b _ _ _ (by omega) hs.tail,iN_,iN_];have:max hi r.hi+1=max (r.hi+1) (hi+1):=by omega
  have:min lo r.lo=min r.lo lo:=by omega
  simp only[*]
def xu(h:p<=q)(hs:bl (D.map cR)):(qa p q D).end_.map cR=dB (D.map cR) ⟨p,q+1⟩:=by
 unfold qa;rw[ON D p q [] h hs];unfold dB;rw[aD (by simp only;omega)];rfl
def ja(r:Rs)(v:Value):Array Value:= #[.int .i64 r.e,.int .i64 r.at_,.int .i64 r.n,.int .u64 r.code,.string (strOfNums r.data),v]
def uN(w:World)(xb sb:Nat)(A:Nat->Prop)(r:Rs×aJ)(e:Ending)(b:World):Prop:=
 ∃a n c,e=.returned (.agg (ja r.1 (.slice a n c)))/\fY b w.heap.size (.slice a n c) r.1.dv/\∃d,b9 b xb sb r.2 d/\(∀k,d k->A k\/w.heap.size<=k)/\ao w b A/\∀j,(Value.slice a n c).ownBlock=some j->¬d j
def xF(a c d f g a5:Value):ao w ((((((w.setCell ⟨b,0,none⟩ a).setCell ⟨b,1,none⟩ c).setCell ⟨b,2,none⟩ d).setCell ⟨b,3,none⟩ f).setCell ⟨b,4,none⟩ g).setCell ⟨b,5,none⟩ a5) (λj=>j=b):=
 (ao.of (aK (aK (aK (aK (aK (aK (aB w (some b)) ⟨b,0,none⟩ a (.inr rfl)) ⟨b,1,none⟩ c (.inr rfl)) ⟨b,2,none⟩ d (.inr rfl)) ⟨b,3,none⟩ f (.inr rfl)) ⟨b,4,none⟩ g (.inr rfl)) ⟨b,5,none⟩ a5 (.inr rfl))).mono (λk _ e=>(aQ e).symm)
def zZ{g i j:Value}(h:w.heap[b]?=some (.cells #[x,y,z,g,i,j] T (0,0)))(a c d e f a5:Value):((((((w.setCell ⟨b,0,none⟩ a).setCell ⟨b,1,none⟩ c).setCell ⟨b,2,none⟩ d).setCell ⟨b,3,none⟩ e).setCell ⟨b,4,none⟩ f).setCell ⟨b,5,none⟩ a5).heap[b]?=some (.cells #[a,c,d,e,f,a5] T (0,0)):=
 heap_set (heap_set (heap_set (heap_set (heap_set (heap_set h a) c) d) e) f) a5
def Qv:(prog.info? 46).map (·.size)=some 6:=by kernel_rfl
def uN.of{d:World}{r:Rs×aJ}(g:w.grownBy W none)(p:∀k,S k->k<w.heap.size)(f:fY V W.heap.size (.slice a n m) r.1.dv)(s:b9 V i l r.2 P)(h:∀k,P k->S k\/W.heap.size<=k)(C:ao W V S)(t:∀j,(Value.slice a n m).ownBlock=some j->¬P j){R:Nat}(z:w.heap.size<=R)(A:R<W.heap.size)(b:ao V d (λk=>k=R))(u:x=.agg (ja r.1 (.slice a n m))):uN w i l S r (.returned x) d:=by
 refine⟨a,n,m,by rw[u],(f.av b (λk e e2=>?_)).low g.size,P,s.other b (λk _ e v=>?_),λk c=>(h k c).imp id (λq=>bD g.size q),?_,t⟩
 have:=(f.lt k e).1;omega;obtain q|q:=h k v
 have:=p k q;omega;omega;refine⟨b.os.trans (C.os.trans g.os),b.tape.trans (C.tape.trans g.tape),b.output.trans (C.output.trans g.output),bD g.size (bD C.size b.size),λk c y=>?_⟩
 rw[b.block k (by have:=C.size;omega) (by omega),C.block k (by omega) y];exact g.block k c (by simp)
def z9(w:World)(xb sb:Nat)(st:aJ)(A:Nat->Prop)(n:Nat)(h:b9 w xb sb st A)(E:dU n st)(F:n<=100000)(G:Laid w)(q:fK)(H:aS q.code)(hd:q.data.size<=1000000):
 Calls prog 28 #[.pointer (some ⟨xb,0,none⟩),.agg (cD q)] w (uN w xb sb A (st.do q)):=by
 obtain⟨d,f⟩:=exq ((w.alloc (.cells (cD q) 32)).alloc (.cells #[.int .i64 0,.int .i64 0,.int .i64 0,.int .u64 0,.string ⟨#[]⟩,.slice none 0 0] 46));have t:w.grownBy d none:=by rw[f];exact aq (aH _ _ none) (aH _ _ none)
 have P:d.heap.size=w.heap.size+2:=by rw[f,dL,dL]
 have u:d.heap[w.heap.size]?=some (.cells (cD q) 32 (0,0)):=by rw[f];exact(heap_alloc_old _ _ (by rw[dL];omega)).trans (aO _ _)
 have b1:d.heap[w.heap.size+1]?=some (.cells #[.int .i64 0,.int .i64 0,.int .i64 0,.int .u64 0,.string ⟨#[]⟩,.slice none 0 0] 46 (0,0)):=by rw[f];have:=aO (w.alloc (.cells (cD q) 32)) (.cells #[.int .i64 0,.int .i64 0,.int .i64 0,.int .u64 0,.string ⟨#[]⟩,.slice none 0 0] 46);rw[dL]at this;exact this
 have s:=Om d xb sb st A n (h.an t) E F (G.gb t) q H hd;have B:=h.lt;have x:∀b,ao d b A->b.heap[w.heap.size+1]?=some (.cells #[.int .i64 0,.int .i64 0,.int .i64 0,.int .u64 0,.string ⟨#[]⟩,.slice none 0 0] 46 (0,0)):=λb C=>(C.block _ (by omega) (λe=>by have:=B _ e;omega)).trans b1
 obtain⟨d0,d1,d2,d3,d4⟩:d.cell? ⟨w.heap.size,0,none⟩=some (.int .i64 q.op)/\d.cell? ⟨w.heap.size,1,none⟩=some (.int .i64 q.stream)/\d.cell? ⟨w.heap.size,2,none⟩=some (.int .i64 q.n)/\d.cell? ⟨w.heap.size,3,none⟩=some (.int .u64 q.code)/\d.cell? ⟨w.heap.size,4,none⟩=some (.string q.data):=by simp[World.cell?,u,cD]
 obtain⟨op,stream,I,code,data⟩:=q;simp only at *;unfold cD at *;obtain⟨r,D⟩:=exq (st.do ⟨op,stream,I,code,data⟩);rw[<-D]at s⊢;clear D;replace⟨u,b1,x,s⟩:=eV u b1 x s;have K:=J (λ(b L:World)(g:Nat->Prop)(a:Option Addr)(m c:Nat)(i:fY b d.heap.size (.slice a m c) r.1.dv)(l:b9 b xb sb r.2 g)(y:∀k,g k->A k\/d.heap.size<=k) (C:ao d b A) (z:∀j,(Value.slice a m c).ownBlock=some j->¬g j) (M:ao b L (λk=>k=w.heap.size+1)) (v:Value) (N:v=.agg (ja r.1 (.slice a m c)))=>uN.of (R:=w.heap.size+1) t B i l y C z (by omega) (by omega) M N);replace h:=J h;go_enter func28,ntmps28;go_upto_region 1 with fail;rw[<-f];clear f;go_wp2_with (go_at_call 60;apply(Z s).mono;rintro e b⟨a,m,c,rfl,i,g,l,y,C,z⟩;have p:=Z x b C;obtain⟨Q,S,T,U,V,W⟩:b.cell? ⟨w.heap.size+1,0,none⟩=some (.int .i64 0)/\b.cell? ⟨w.heap.size+1,1,none⟩=some (.int .i64 0)/\b.cell? ⟨w.heap.size+1,2,none⟩=some (.int .i64 0)/\b.cell? ⟨w.heap.size+1,3,none⟩=some (.int .u64 0)/\b.cell? ⟨w.heap.size+1,4,none⟩=some (.string ⟨#[]⟩)/\b.cell? ⟨w.heap.size+1,5,none⟩=some (.slice none 0 0):=(by simp[World.cell?,p]);have fz:∀o,b.frozen? ⟨w.heap.size+1,o,none⟩=false:=(λo=>by simp[World.frozen?,p]);replace p:=J p;replace l:=J l;replace i:=J i);have O:=zZ (Z p) (.int .i64 r.1.e) (.int .i64 r.1.at_) (.int .i64 r.1.n) (.int .u64 r.1.code) (.string (strOfNums r.1.data)) (.slice a m c);exact cF (results_cell_row results28 _ _ (w.heap.size+1) 46 _ (0,0) _ (by rfl) O underlying46 (by rfl) Qv) rfl (Z K _ _ g a m c (Z i) (Z l) y C z (xF _ _ _ _ _ _) _ rfl)
def xG(key:List Int)(f:Bool)(l:List Int)(c:Nat)(bad d:Value)(e:Ending)(g:World):Prop:=
 (eC key (aT f) l/\∃a b,e=.returned (.tuple #[.int .u64 (bq l),.slice a (l.length-16) b,d])/\bI g a (l.length-16) b (dT key (aT f) (bq l) (bS l))/\∀x,a=some x->c<=x.block)\/
   (¬eC key (aT f) l/\e=.returned (.tuple #[.int .u64 0,.slice none 0 0,bad]))
def Qw(w:World)(key:List Int)(f:Bool)(a:Option Addr)(m cap:Nat)(l:List Int)(i:dD key)(d:bI w a m cap l):
 Calls prog 135 #[.agg (cO key),.bool f,.slice a m cap] w λe b=>xG key f l w.heap.size (.iface 34 (.int .i64 4)) .nilIface e b/\w.grownBy b none:=by
 by_cases hl:l.length<16\/300<l.length;apply(DT key f a m cap l w d hl).mono;rintro e b⟨rfl,g⟩;exact⟨.inr ⟨λh=>by have:=h.1;have:=h.2.1;omega,rfl⟩,g⟩
 apply(DY key f a m cap l w i d).mono;rintro e b⟨h,g⟩;refine⟨?_,g⟩
 obtain⟨c,j,k,rfl,n,p,-⟩|⟨c,rfl⟩:=h
 exact .inl ⟨c,j,k,rfl,n,p⟩;exact .inr ⟨c,rfl⟩
def Qx(w:World)(key:List Int)(f:Bool)(a:Option Addr)(m cap:Nat)(l:List Int)(h:dD key)(k:bI w a m cap l):
 Calls prog 102 #[.agg (cO key),.bool f,.slice a m cap] w λe i=>xG key f l w.heap.size (.iface 34 (.int .i64 4)) .nilIface e i/\w.grownBy i none:=by
 have n:=pX h;have c:=aO w (.cells (cO key) 24);have p:=J (Qw (w.alloc (.cells (cO key) 24)) key f a m cap l h (k.an (aH _ _ _)));generalize cO key=K at *;replace c:=J c;go_enter func102,ntmps102;go_wp2_with (refine rj _ (by rfl) (by rfl) _ (by rfl) K ?_ n ?_;exact Z c);apply(Z p).mono;rintro e u⟨⟨b,q,r,rfl,d,s⟩|⟨b,rfl⟩,j⟩
 ·have g:=J b;clear b;replace d:=J d;go_wp2;go_ret3;exact⟨.inl ⟨Z g,q,r,rfl,Z d,λx t=>(by have:=s x t;rw[dL]at this;omega)⟩,aq (aH _ _ _) j⟩
 have g:=J b;clear b;go_wp2;go_ret3;exact⟨.inr ⟨Z g,rfl⟩,aq (aH _ _ _) j⟩
def E4(w:World)(key:List Int)(f:Bool)(a:Option Addr)(m cap:Nat)(l:List Int)(B:dD key)(s:Laid w)(p:bI w a m cap l)(hl:l.length<=50000000):
 Calls prog 61 #[.agg (cO key),.bool f,.slice a m cap] w λe C=>xG key f l w.heap.size (.int .i64 4) (.int .i64 0) e C/\w.grownBy C none:=by
 have G:=pX B;obtain⟨D,q⟩:=exq (w.alloc (.cells (cO key) 24));have d:w.grownBy D none:=by rw[q];exact aH _ _ _
 have t:D.heap[w.heap.size]?=some (.cells (cO key) 24 (0,0)):=by rw[q];exact aO _ _
 have H:=J (p.an d);replace t:=J t;have I:=J (λ(a:Option Addr)(m cap:Nat)(W:World)(p:bI W a m cap l)=>Qx W key f a m cap l B p);generalize cO key=K at *;clear p;have E:=J (s.gb d);have R:=s.lt;clear s;go_enter func61,ntmps61;go_upto_region 1 with fail;rw[<-q];clear q;go_wp2_with (first|(refine AD (by rfl) _ (by rfl) _ _ _ l (by rfl) (Z H) (by omega) ?_;intro S c2 T b c;replace b:=J b)|(refine rj _ (by rfl) (by rfl) _ (by rfl) K ?_ G ?_;exact iV (Z t) c));apply(Z I _ _ _ _ (Z b).gT).mono;rintro e U⟨⟨n,L,M,rfl,u,F⟩|⟨n,rfl⟩,g⟩
 ·have v:=J n;clear n;replace u:=J u;have y:=J ((Z b).an g);go_wp2_with fail;apply(vF _ _ _ l _ _ (Z y) (by omega)).mono;rintro e z⟨rfl,h⟩;have N:=d.size;have i:=J (Z b).lt;have k:Laid z:=(((Z E).gb c).gb g).gb h (λe=>by have:=Z i _ e;omega);replace k:=J k;go_wp2_with fail;apply(zo _).mono;rintro e O⟨rfl,r⟩;go_wp2;go_ret3;have P:=(Z u).gb h (λj e=>.inr (.inr (λx A=>by have V:=F x A;have X:=Z i _ e;have Q:=c.size;omega)));exact⟨.inl ⟨Z v,L,M,rfl,P.an r,λx A=>(by have:=F x A;have Q:=c.size;omega)⟩,aq (cJ (aq (aq d c) g) h (λj e=>.inl (by have:=Z i _ e;omega))) r⟩
 have v:=J n;clear n;have y:=J ((Z b).an g);go_wp2_with fail;apply(vF _ _ _ l _ _ (Z y) (by omega)).mono;rintro e z⟨rfl,h⟩;have N:=d.size;have i:=J (Z b).lt;have k:Laid z:=(((Z E).gb c).gb g).gb h (λe=>by have:=Z i _ e;omega);replace k:=J k;go_wp2_with fail;apply(DG 4 _ (Z k)).mono;rintro e O⟨rfl,r⟩;go_wp2;go_ret3;exact⟨.inr ⟨Z v,rfl⟩,aq (cJ (aq (aq d c) g) h (λj e=>.inl (by have:=Z i _ e;omega))) r⟩
def bh(c n:Int):Nat:=((if c<0 then-(c+1)else c) %n).toNat
def eP(c:Int)(a:0<p):(bh c p:Int)<p:=by
 unfold bh;have b:=Int.emod_nonneg (if c<0 then-(c+1)else c) (show p≠0 by omega);have d:=Int.emod_lt_of_pos (if c<0 then-(c+1)else c) a;omega
def eZ(c n:Int)(w:World)(d: -9223372036854775808<=c)(f:c<=9223372036854775807)(j:0<n:=by omega)(k:n<=1000000000:=by omega):
 Calls prog 23 #[.int .i64 c,.int .i64 n] w λe g=>e=.returned (.int .i64 (bh c n:Int))/\g=w:=by
 have a:∀x:Int,-9223372036854775808<=x->x<=9223372036854775807->IntKind.i64.wrap x=x:=λx d f=>by simp[IntKind.wrap,IntKind.bits,IntKind.signed];omega
 replace a:=J a;have l:(n==0)=false:=by simp;omega
 have hp:∀x:Int,(0<=x)->x.tmod n=((x %n).toNat:Int):=λx h=>by
  rw[Int.tmod_eq_emod_of_nonneg h];have:=Int.emod_nonneg x (show n≠0 by omega);omega
 replace hp:=J hp;by_cases b:c<0
 ·have i:decide (c<0)=true:=by simp[b]
  have e1:=Z a (c+1) (by omega) (by omega);have e2:=Z a (-(c+1)) (by omega) (by omega);have m:=Z a (-1+ -c) (by omega) (by omega);go_enter func23,ntmps23;go_wp2;go_ret;have hi:=Z hp (-(c+1)) (by omega);rw[Int.neg_tmod]at hi;refine⟨?_,rfl⟩
  rw[hi];unfold bh;rw[aD b];rfl
 have i:decide (c<0)=false:=by simp[b]
 go_enter func23,ntmps23;go_wp2;go_ret;have hi:=Z hp c (by omega);refine⟨?_,rfl⟩
 unfold bh;rw[az (show¬c<0 by omega)];rw[<-hi,Int.tmod_eq_emod_of_nonneg (show(0:Int)<=c by omega)];rfl
