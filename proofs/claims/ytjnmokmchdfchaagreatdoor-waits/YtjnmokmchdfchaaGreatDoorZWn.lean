import Derived.Test.YtjnmokmchdfchaaGreatDoorZWf
import Derived.Test.YtjnmokmchdfchaaGreatDoorZWj
import Derived.Test.YtjnmokmchdfchaaGreatDoorZWl
import Derived.Test.YtjnmokmchdfchaaGreatDoorZWm
set_option maxRecDepth 1000000
set_option maxHeartbeats 0
set_option linter.all false
namespace Go.Proofs.YtjnmokmchdfchaaGreatDoor
open Go.RowKit Tryz
attribute[local go_sem↓]Go.wp_at_zero Go.wp_at_succ
variable{C:Array Value}{H:Fr}{p q r:Int}{E:It}{L:List Int}{Y:List Rg}{i j k l m n o:Nat}{S:Nat->Prop}{O a:Option Addr}{U:Rg}{X:Sd}{x y z:Value}{V W v w:World}{D:aQ}
def zO:List Value:=[.int .u64 0,.slice none 0 0,.slice none 0 0,.int .u64 0,.bool false,.bool false,.bool false,.bool false,.int .u64 0]
def zI:List Value:=[.int .u64 0,.slice none 0 0,.slice none 0 0,.int .u64 0,.int .u64 0,.int .u64 0,.bool false,.bool false,.bool false]
def fF(ao ai:Int)(key:List Value)(first:Bool)(wait aF:Int)(last:Value):List Value:=
 [.int .i64 ao,.int .i64 ai]++key++[.bool first]++zO++zO++zO++zO++zI++zI++zI++zI++[.int .u64 0,.int .i64 0,.int .i64 wait,.slice none 0 0,.slice none 0 0,.slice none 0 0,.int .u64 0,.bool false,.int .i64 aF,last]
def kB:List Value:=[.int .u8 0,.int .u8 0,.int .u8 0,.int .u8 0,.int .u8 0,.int .u8 0,.int .u8 0,.int .u8 0,.int .u8 0,.int .u8 0,.int .u8 0,.int .u8 0,.int .u8 0,.int .u8 0,.int .u8 0,.int .u8 0]
theorem uY(aF:Int)(last:Value):(zeroCells241.setIfInBounds 99 (.int .i64 aF)).setIfInBounds 100 last=(fF 0 0 kB false 0 aF last).toArray:=by kernel_rfl
theorem Jf:(prog.info? 241).map (·.size)=some 101:=by kernel_rfl
structure iR(w:World)(b sb:Nat)(aF:Int)(last:Value)(a:List El):Prop where
 aG:w.heap[sb]?=some (.cells (fF 0 0 kB false 0 aF last).toArray 241 (0,0))
 own:dZ w b last a
 at_:gI w b a
 nl:last.ownBlock≠some sb
 ne:∀e∈a,e.1≠sb
 s5:∀e∈a,last.ownBlock≠some e.1
def eE(code:Int):Fr:=⟨6,0,0,code,false,⟨#[]⟩,[]⟩
def Sd.iu(s:Sd)(aF code:Int):List (List Int):=if aF=10 then[]else[cT s.key (sd s.first) s.count (bu [eE code])]
def uZ(w:World)(sb:Nat)(v:aQ)(aF:Int)(l:List (List Int))(e:Ending)(a:World):Prop:=
 e=.returned (.tuple #[])/\∃last b,iR a w.heap.size sb aF last b/\b.map (·.2)=l/\ak w a (bV sb v)
theorem xK(ao ai:Int)(key:List Value)(first:Bool)(wait aF:Int)(last:Value)(a:key.length=16):(fF ao ai key first wait aF last).length=101:=by simp[fF,zO,zI,a]
theorem BC(wait aF:Int)(a:Option Addr)(n c:Nat):((fF 0 0 kB false wait aF (.slice a n c)).toArray).all (·.oneCell')=true:=by
 refine all_oneCell_toArray (λv b=>?_);simp only[fF,zO,zI,kB,ck,eJ,ns,lQ]at b;obtain(((((((((((b|b)|b)|b)|b)|b)|b)|b)|b)|b)|b)|b):=b<;>(repeat' (obtain rfl|b:=b))<;>first|rfl|(subst b;rfl)
theorem Jg(w:World)(a:0<=p/\p<=4611686018427387903):cV w (eE p) (.slice none 0 0)/\dm (eE p)/\fk [eE p]<=30000000:=by
 refine⟨⟨⟨by simp[gC,eE],by simp[gC,eE],by simp[aR,eE],by simp only[eE];unfold aR;omega,by simp[eE]⟩,by simp[eE,ByteArray.size],none,0,rfl,⟨by simp[eE],rfl,aI _,by simp[maxLen],.inl rfl⟩⟩,⟨⟨by simp[eE],by simp only[eE];omega,by simp[eE],by simp[eE]⟩,⟨λe=>by simp[eE]at e,λe=>by simp[eE]at e⟩,by simp[eE],by simp[eE]⟩,?_⟩
 simp[fk,lS,eE,ByteArray.size]
theorem Jh(cells:Array Value):w.grownBy (w.setRow n cells) (some n):=
 (show ak w (w.setRow n cells) (λk=>k=n)from⟨rfl,rfl,rfl,by simp,λk _ a=>setRow_other w n k cells a⟩).gb (λk _ e=>by rw[e])
theorem BD{v:aQ}{x:Ak}{f:List El}(b:gY w i l D v x y a n o W C f)(aF:Int)(t:y=.slice O m k):iR (W.setRow l (fF 0 0 kB false 0 aF y).toArray) w.heap.size l aF y f/\ak w (W.setRow l (fF 0 0 kB false 0 aF y).toArray) (bV l D):=by
 have g:=Jh (w:=W) (n:=l) (fF 0 0 kB false 0 aF y).toArray;have p:∀j,y.ownBlock=some j->j≠l:=λj e e2=>b.ls.a5 j e (.inl (.inl e2))
 have q:∀e∈f,e.1≠l:=λe h e2=>b.ls.ae e h (.inl (.inl e2))
 have c:ak W (W.setRow l (fF 0 0 kB false 0 aF y).toArray) (λd=>d=l):=(ak.of g).mono (λd _ e=>(aJ e).symm);refine⟨⟨setRow_heap W l C _ _ _ b.side.aG,b.ls.own.aq c (λj e e2=>p j e e2),b.ls.at_.aq c (λe h e2=>q e h e2),λe=>p l e rfl,q,b.ls.s5⟩,?_⟩
 refine⟨c.os.trans b.dA.aq.os,c.tape.trans b.dA.aq.tape,c.output.trans b.dA.aq.output,bC b.dA.aq.size c.size,λd r s=>?_⟩
 rw[c.block d (bK r b.dA.aq.size) (λe=>s (.inl e))];exact b.dA.aq.block d r s
theorem BE(w:World)(k sb:Nat)(cs:Array Value)(v:aQ)(s:Sd)(H:bg w k sb cs v s)(bS:di s.key)(ei:0<=s.count/\s.count<=4611686018427387000)(aF code:Int)(hc:0<=code/\code<=4611686018427387903):
 Calls prog 168 #[.pointer (some ⟨sb,0,none⟩),.int .i64 aF,.int .u64 code] w (uZ w sb v aF (s.iu aF code)):=by
 obtain⟨R,D⟩:=exq (λq:World=>∃last b0,iR q w.heap.size sb aF last b0/\b0.map (·.2)=s.iu aF code/\ak w q (bV sb v));have b3:uZ w sb v aF (s.iu aF code)=λe q=>e=.returned (.tuple #[])/\R q:=by rw[D];rfl
 rw[b3];clear b3;replace D:=J D;have t:gY w k sb v v ⟨s,[],[]⟩ (.slice none 0 0) none 0 0 w cs []:=⟨H,cP.rfl' _ _ _ _,eO.nil _ _ _ _,rfl,⟨λr h=>(by cases h),rfl,aI _,by simp[maxLen],.inl rfl⟩,λh=>absurd rfl h⟩
 have u:=Jf;have cp:=H.bd.fu;by_cases l:aF=10
 ·have d:Hid (R (w.setRow sb (fF 0 0 kB false 0 aF (.slice none 0 0)).toArray)):=J (by
   rw[Z D];obtain⟨h1,h2⟩:=BD t aF rfl;exact⟨_,[],h1,by unfold Sd.iu;rw[aM l];rfl,h2⟩)
  have f:=xK 0 0 kB false 0 aF (.slice none 0 0) rfl;have i:=BC 0 aF none 0 0;have e1:(aF !=10)=false:=by rw[l];rfl
  have a0:=H.aG;have a1:=H.sz;replace t:=J t;replace H:=J H;rw[<-uY]at d i;have a2:((zeroCells241.setIfInBounds 99 (.int .i64 aF)).setIfInBounds 100 (.slice none 0 0)).size=101:=by rw[uY];simp[f]
  replace a0:=J a0;replace a1:=J a1;replace f:=J a2;replace i:=J i;replace u:=J u;replace l:=J l;go_enter func168,ntmps168;go_wp2_with (refine wpList_store_row (by rfl) 241 _ _ (by rfl) sb _ (by rfl) (by rfl) 241 cs (Z a0) (by rw[Z u,Z f]) (by rw[Z a1,Z f]) (Z i) ?_);first|exact Z d|exact⟨rfl,Z d⟩|exact dP (dj rfl _ _ _) rfl ⟨rfl,Z d⟩
 have e1:(aF !=10)=true:=by simpa using l
 obtain⟨E,K⟩:=exq (w.alloc (.cells #[.int .i64 6,.int .i64 0,.int .u64 0,.int .u64 code,.bool false,.string ⟨#[]⟩,.slice none 0 0] 158));have g5:w.grownBy E none:=by rw[K];exact aC _ _ _
 obtain⟨F,hF⟩:=exq w.heap.size;have a3:E.heap[F]?=some (.cells #[.int .i64 6,.int .i64 0,.int .u64 0,.int .u64 code,.bool false,.string ⟨#[]⟩,.slice none 0 0] 158 (0,0)):=by rw[K,hF];exact aH _ _
 have a4:=t.gb g5;have cv:F≠sb:=by omega
 have k0:∀W:World,W.heap[F]?=some (.cells #[.int .i64 6,.int .i64 0,.int .u64 0,.int .u64 code,.bool false,.string ⟨#[]⟩,.slice none 0 0] 158 (0,0))->W.cell? ⟨F,0,none⟩=some (.int .i64 6):=λW h=>(cH h).1
 have k1:∀W:World,W.heap[F]?=some (.cells #[.int .i64 6,.int .i64 0,.int .u64 0,.int .u64 code,.bool false,.string ⟨#[]⟩,.slice none 0 0] 158 (0,0))->W.cell? ⟨F,1,none⟩=some (.int .i64 0):=λW h=>(cH h).2.1
 have k2:∀W:World,W.heap[F]?=some (.cells #[.int .i64 6,.int .i64 0,.int .u64 0,.int .u64 code,.bool false,.string ⟨#[]⟩,.slice none 0 0] 158 (0,0))->W.cell? ⟨F,2,none⟩=some (.int .u64 0):=λW h=>(cH h).2.2.1
 have k3:∀W:World,W.heap[F]?=some (.cells #[.int .i64 6,.int .i64 0,.int .u64 0,.int .u64 code,.bool false,.string ⟨#[]⟩,.slice none 0 0] 158 (0,0))->W.cell? ⟨F,3,none⟩=some (.int .u64 code):=λW h=>(cH h).2.2.2.1
 have k4:∀W:World,W.heap[F]?=some (.cells #[.int .i64 6,.int .i64 0,.int .u64 0,.int .u64 code,.bool false,.string ⟨#[]⟩,.slice none 0 0] 158 (0,0))->W.cell? ⟨F,4,none⟩=some (.bool false):=λW h=>(cH h).2.2.2.2.1
 have k5:∀W:World,W.heap[F]?=some (.cells #[.int .i64 6,.int .i64 0,.int .u64 0,.int .u64 code,.bool false,.string ⟨#[]⟩,.slice none 0 0] 158 (0,0))->W.cell? ⟨F,5,none⟩=some (.string ⟨#[]⟩):=λW h=>(cH h).2.2.2.2.2.1
 have k6:∀W:World,W.heap[F]?=some (.cells #[.int .i64 6,.int .i64 0,.int .u64 0,.int .u64 code,.bool false,.string ⟨#[]⟩,.slice none 0 0] 158 (0,0))->W.cell? ⟨F,6,none⟩=some (.slice none 0 0):=λW h=>(cH h).2.2.2.2.2.2
 have b5:=J (Bz E.drew k sb cs v s (H.ah (aP g5)) (by omega));have b6:=J (λb G(L:bg b k sb G v {s with count:=s.count+1})(g:E.drew.grownBy b (some sb))=>(a4.gb (aP (av _ none))).num cp L g);have M:=λb=>Jg b hc
 have N:=J (λb=>xw b (eE code) (.slice none 0 0) (M b).1 (M b).2.1 (M b).2.2);have a8:(bu [eE code]).length<=1000:=by
  have e:bu [eE code]=28::aN code:=by simp[bu,cZ,eE]
  rw[e,dJ];have:=(gD code).2;omega
 have a9:=J (λb m G(p:gY w k sb v v ⟨{s with count:=s.count+1},[],[]⟩ (.slice none 0 0) none 0 0 b G [])(j:b.grownBy m none)(a7:Option Addr)(n7 c7:Nat)(x:aX m b.heap.size (.slice a7 n7 c7) (bu [eE code]))=>xH m sb s.key s.first bS ((p.side.ah j).pS bS) ((aU (p.side.ah j).aG _).trans (p.side.ah j).gQ) s.count (by unfold aR;omega) a7 n7 c7 _ x.fB (by omega));have bj:=J (λb m O G(p:gY w k sb v v ⟨{s with count:=s.count+1},[],[]⟩ (.slice none 0 0) none 0 0 b G [])(j:b.grownBy m none)(P:m.grownBy O none)(g:Nat)(Q:m.heap.size<=g)(S:O.heap[g]?=some (.cells (bv (cT s.key (sd s.first) s.count (bu [eE code]))).toArray 5 (0,0)))(c9:∀y∈bu [eE code],W8 y)=>BA p j P Q S c9 (by simp));have br:=J (λ(W:World)(a:Option Addr)(n c:Nat)(hN:uW w k sb v v ⟨{s with count:=s.count+1},[],[]++[cT s.key (sd s.first) s.count (bu [eE code])]⟩ none 0 0 (.slice a n c) W)=>(show(∃T,W.heap[sb]?=some (.cells T 241 (0,0))/\T.size=101)/\R (W.setRow sb (fF 0 0 kB false 0 aF (.slice a n c)).toArray) by
  obtain⟨T,de,U⟩:=hN;refine⟨⟨T,U.side.aG,U.side.sz⟩,?_⟩
  rw[Z D];obtain⟨h1,h2⟩:=BD U aF rfl;exact⟨_,de,h1,by unfold Sd.iu;rw[ay l];exact U.el,h2⟩))
 obtain⟨B,hB⟩:=exq (bu [eE code]);rw[<-hB]at N a9 bj br a8;have b7:bF (eE code) (.slice none 0 0)= #[.int .i64 6,.int .i64 0,.int .u64 0,.int .u64 code,.bool false,.string ⟨#[]⟩,.slice none 0 0]:=rfl;rw[b7]at N;clear b7 M;have dg:(Value.slice none 0 0).ownBlock≠some F:=λe=>by cases e
 obtain⟨V,X⟩:∃V:Value->World->Prop,V=λb8 W=>∃a' n' c',b8=.slice a' n' c'/\uW w k sb v v ⟨{s with count:=s.count+1},[],[]++[cT s.key (sd s.first) s.count B]⟩ none 0 0 b8 W:=⟨_,rfl⟩
 have Y:E.drew.heap[F]?=some (.cells #[.int .i64 6,.int .i64 0,.int .u64 0,.int .u64 code,.bool false,.string ⟨#[]⟩,.slice none 0 0] 158 (0,0)):=a3;replace a3:=J a3;replace X:=J X;replace hB:=J hB;replace a4:=J a4;replace t:=J t;replace H:=J H;replace l:=J l;replace u:=J u;replace a8:=J a8;go_enter func168,ntmps168;go_upto_region 3 with fail;rw[<-K,<-hF];clear K hF;go_cut [6] (λv6 wx=>V v6 wx);case first=>
  go_region_held3 (λq=>q.heap[F]?=some (.cells #[.int .i64 6,.int .i64 0,.int .u64 0,.int .u64 code,.bool false,.string ⟨#[]⟩,.slice none 0 0] 158 (0,0)))
   (first|with_reducible exact dx|with_reducible exact bx|with_reducible exact ca|with_reducible exact cf|with_reducible exact cg|with_reducible exact Y)
   (first
     |(go_at_call 205;refine(Z b5).mono ?_;rintro e b⟨rfl,g6,L⟩;have p:=J (Z b6 _ _ L g6);have cg:=(g6.block F (aO.1 Y).1 (λe=>cv (aJ e))).trans Y;clear L)
     |(go_at_call 206;refine(Z N _).mono ?_;rintro e m⟨⟨a7,n7,c7,rfl,x⟩,j⟩;have cf:=bf cg j;have bz:=x.1;replace x:=J x;replace bz:=J bz)
     |(go_at_call 204;refine(Z a9 _ _ _ (Z p) j _ _ _ (Z x)).mono ?_;rintro e O⟨g,rfl,Q,S,P⟩;have ca:=bf cf P;obtain⟨z,A,C,w9,bL,I,g9⟩:=Z bj _ _ _ _ (Z p) j P g Q S (Z bz);have bx:=bf ca (aC O (.cells #[.slice (some ⟨g,0,none⟩) (B.length+16) (B.length+16)] 112) none);have dx:=(g9.block F (aO.1 bx).1 (λe=>dg e.symm)).trans bx;have ee:Hid (V (.slice z A C) w9):=J (by rw[Z X];exact⟨z,A,C,rfl,I⟩);clear S Q I;replace bL:=J bL)
     |(refine xt (by rfl) 206 206 (by rfl) _ _ (by rfl) _ _ _ (by rfl) (by rfl) (Z bL) ?_))
  all_goals go_wp2_with fail
  all_goals go_meet
  all_goals exact Z ee
 case rest=>
  rw[Z X]at hcut;obtain⟨z,A,C,rfl,I⟩:=hcut;obtain⟨⟨eg,bM,bP⟩,d⟩:=Z br _ _ _ _ I;have f:=xK 0 0 kB false 0 aF (.slice z A C) rfl;have i:=BC 0 aF z A C;rw[<-uY]at d i;have a2:((zeroCells241.setIfInBounds 99 (.int .i64 aF)).setIfInBounds 100 (.slice z A C)).size=101:=by rw[uY];simp[f]
  replace bM:=J bM;replace bP:=J bP;replace f:=J a2;replace i:=J i;replace d:=J d;clear I b5 b6 N a9 bj br k0 k1 k2 k3 k4 k5 k6 Y;go_wp2_with (refine wpList_store_row (by rfl) 241 _ _ (by rfl) sb _ (by rfl) (by rfl) 241 eg (Z bM) (by rw[Z u,Z f]) (by rw[Z bP,Z f]) (Z i) ?_);first|exact Z d|exact⟨rfl,Z d⟩|exact dP (dj rfl _ _ _) rfl ⟨rfl,Z d⟩
def iS(w:World)(sb:Nat)(v:aQ)(aF:Int)(l:List (List Int))(a:World):Prop:=∃last b,iR a w.heap.size sb aF last b/\b.map (·.2)=l/\ak w a (bV sb v)
theorem iR.low{b2:Nat}{a:List El}(h:iR w n k p x a)(b:b2<=n):iR w b2 k p x a:=
 ⟨h.aG,h.own.low b,⟨λe c=>⟨bC b (h.at_.at_ e c).1,(h.at_.at_ e c).2⟩,h.at_.sep⟩,h.nl,h.ne,h.s5⟩
theorem iS.pre{l:List (List Int)}(g:w.grownBy W none)(h:iS W n D p l V):iS w n D p l V:=by
 obtain⟨last,a,b,c,d⟩:=h;refine⟨last,a,b.low g.size,c,?_⟩
 exact((ak.of g).trans d).mono (λk _ e=>e.elim (λe=>by cases e) id)
theorem Cc(w:World)(m sb:Nat)(cs:Array Value)(v:aQ)(s:Sd)(H:bg w m sb cs v s)(u:di s.key)(x:0<=s.count/\s.count<=4611686018427387000)(p:Laid w)(i:Value)(n:Int)(E:0<=n/\n<=1000)
 (q:∀(W:World)(t:Addr),w.grownBy W none->Laid W->W.cell? t=some (.int .i64 0)->W.frozen? t=false->Calls prog 73 #[i,.iface 183 (.pointer (some t))] W (λev b=>ev=.returned (.bool true)/\b.cell? t=some (.int .i64 n)/\W.grownBy b (some t.block))):
 Calls prog 161 #[.pointer (some ⟨sb,0,none⟩),i] w λe b=>e=.returned i/\iS w sb v n (s.iu n n) b:=by
 obtain⟨R,d⟩:=exq (iS w sb v n (s.iu n n));rw[<-d];replace d:=J d;obtain⟨c,f⟩:=exq (w.alloc (.cells #[.int .i64 0] 34));have j:w.grownBy c none:=by rw[f];exact aC _ _ _
 have k:c.heap[w.heap.size]?=some (.cells #[.int .i64 0] 34 (0,0)):=by rw[f];exact aH _ _
 have c1:c.cell? ⟨w.heap.size,0,none⟩=some (.int .i64 0)/\c.frozen? ⟨w.heap.size,0,none⟩=false:=by simp[World.cell?,World.frozen?,k]
 have y:=J (q c ⟨w.heap.size,0,none⟩ j (p.gb j (by simp)) c1.1 c1.2);have z:∀a,c.grownBy a (some w.heap.size)->w.grownBy a none:=λa g=>ot (aj (cO j _) g) (aI _)
 have A:=J (λa(g:w.grownBy a none)=>BE a m sb cs v s (H.ah g) u x n n (by omega));have F:IntKind.u64.wrap n=n:=by rw[eH];omega
 have B:=J (λa b(g:w.grownBy a none)(h:uZ a sb v n (s.iu n n) (.returned (.tuple #[])) b)=>(show R b by rw[Z d];exact iS.pre g h.2));replace k:=J k;replace H:=J H;clear q c1 p;go_enter func161,ntmps161;go_upto_region 2 with fail;rw[<-f];clear f;go_wp2_with fail;refine(Z y).mono ?_;rintro e a⟨rfl,c2,C⟩;have r:=z a C;go_wp2_with fail;refine(Z A _ r).mono ?_;rintro e G l;obtain rfl:=l.1;have D:=J (Z B _ _ r l);clear l;go_wp2_with fail;go_ret;exact⟨rfl,Z D⟩
theorem JJ(w:World)(a sb:Nat)(cs:Array Value)(v:aQ)(s:Sd)(H:bg w a sb cs v s)(b:di s.key)(c:0<=s.count/\s.count<=4611686018427387000)(d:Laid w)(n:Int)(f:0<=n/\n<=1000):
 Calls prog 161 #[.pointer (some ⟨sb,0,none⟩),.iface 34 (.int .i64 n)] w λe g=>e=.returned (.iface 34 (.int .i64 n))/\iS w sb v n (s.iu n n) g:=
 Cc w a sb cs v s H b c d _ n f (λW t _ hl h0 h=>B4 n t _ W hl h0 h)
theorem JK(w:World)(a sb F:Nat)(cs:Array Value)(v:aQ)(s:Sd)(H:bg w a sb cs v s)(b:di s.key)(c:0<=s.count/\s.count<=4611686018427387000)(d:Laid w)(n:Int)(f:0<=n/\n<=1000)(hF:w.cell? ⟨F,0,none⟩=some (.int .i64 n)):
 Calls prog 161 #[.pointer (some ⟨sb,0,none⟩),.iface 177 (.pointer (some ⟨F,0,none⟩))] w λe h=>e=.returned (.iface 177 (.pointer (some ⟨F,0,none⟩)))/\iS w sb v n (s.iu n n) h:=
 Cc w a sb cs v s H b c d _ n f (λW t g hl h0 i=>JI F n t _ W hl (g.cell hF (by simp)) h0 i)
theorem JL(w:World)(sb:Nat)(aF code:Int)(dq:w.cell? ⟨sb,99,none⟩=some (.int .i64 aF))(h:aF≠0):Calls prog 133 #[.pointer (some ⟨sb,0,none⟩),.int .u64 code] w λr b=>r=.returned (bE 9)/\w.grownBy b none:=by
 have a:=J (mW w sb aF dq);rw[bp h]at a;go_enter func133,ntmps133;go_wp2_with fail;refine(Z a).mono ?_;rintro e d⟨rfl,c⟩;go_wp2_with fail;go_ret;exact⟨rfl,c⟩
theorem JM(w:World)(sb:Nat)(code:Int)(dq:w.cell? ⟨sb,99,none⟩=some (.int .i64 0))(h:4611686018427387903<code):Calls prog 133 #[.pointer (some ⟨sb,0,none⟩),.int .u64 code] w λr b=>r=.returned (bE 3)/\w.grownBy b none:=by
 have a:=J (mW w sb 0 dq);simp only[ne_eq,tJ,se]at a;have d1:decide (code>4611686018427387903)=true:=bp h;go_enter func133,ntmps133;go_wp2_with fail;refine(Z a).mono ?_;rintro e d⟨rfl,c⟩;go_wp2_with fail;go_ret;exact⟨rfl,c⟩
theorem JN(w:World)(f sb:Nat)(cs:Array Value)(v:aQ)(s:Sd)(H:bg w f sb cs v s)(k:di s.key)(l:0<=s.count/\s.count<=4611686018427387000)(code:Int)(m:0<=code/\code<=4611686018427387903):Calls prog 133 #[.pointer (some ⟨sb,0,none⟩),.int .u64 code] w λr b=>r=.returned .nilIface/\iS w sb v 9 (s.iu 9 code) b:=by
 obtain⟨R,c⟩:=exq (iS w sb v 9 (s.iu 9 code));rw[<-c];replace c:=J c;have i:=J (mW w sb 0 H.ks);simp only[ne_eq,tJ,se]at i;have d1:decide (code>4611686018427387903)=false:=bB (by omega);have n:=J (λa(g:w.grownBy a none)=>BE a f sb cs v s (H.ah g) k l 9 code m);have p:=J (λa b(g:w.grownBy a none)(h:uZ a sb v 9 (s.iu 9 code) (.returned (.tuple #[])) b)=>(show R b by rw[Z c];exact iS.pre g h.2));replace H:=J H;go_enter func133,ntmps133;go_wp2_with fail;refine(Z i).mono ?_;rintro e t⟨rfl,j⟩;go_wp2_with fail;refine(Z n _ j).mono ?_;rintro e u d;obtain rfl:=d.1;have q:=J (Z p _ _ j d);clear d;go_wp2_with fail;go_ret;exact⟨rfl,Z q⟩
theorem Cd(aF:Int)(last:Value):(fF 0 0 kB false 0 aF last).toArray[99]?=some (.int .i64 aF)/\(fF 0 0 kB false 0 aF last).toArray[100]?=some last:=⟨rfl,rfl⟩
theorem JO(aF:Int)(last a:Value):((fF 0 0 kB false 0 aF last).toArray).setIfInBounds 100 a=(fF 0 0 kB false 0 aF a).toArray:=by kernel_rfl
theorem iR.dq{a:List El}(h:iR w n k p x a):w.cell? ⟨k,99,none⟩=some (.int .i64 p):=(aU h.aG _).trans (Cd p x).1
theorem iR.ah{a:List El}(h:iR w n k p x a)(g:w.grownBy W none):iR W n k p x a:=
 ⟨bf h.aG g,h.own.ah g,h.at_.ah g,h.nl,h.ne,h.s5⟩
def rM(sb:Nat)(last:Value)(a:List El)(k:Nat):Prop:=k=sb\/last.ownBlock=some k\/∃e∈a,e.1=k
theorem iR.other{a:List El}(h:iR w n i p x a)(C:ak w W S)(b:∀k,k<w.heap.size->S k->¬rM i x a k):iR W n i p x a:=by
 have c:=(aO.1 h.aG).1;exact⟨(C.block i c (λe=>b i c e (.inl rfl))).trans h.aG,h.own.aq C (λj e e2=>b j (h.own.lt j e).2 e2 (.inr (.inl e))),h.at_.aq C (λe d e2=>b _ (h.at_.lt d) e2 (.inr (.inr ⟨e,d,rfl⟩))),h.nl,h.ne,h.s5⟩
def pT(w:World)(d sb:Nat)(aF:Int)(f:List El)(e:Ending)(b:World):Prop:=
 ∃a n c,e=.returned (.slice a n c)/\iR b d sb aF (.slice none 0 0) []/\dZ b d (.slice a n c) f/\gI b d f/\(Value.slice a n c).ownBlock≠some sb/\(∀e∈f,e.1≠sb/\(Value.slice a n c).ownBlock≠some e.1)/\w.grownBy b (some sb)
theorem JP(w:World)(i sb:Nat)(aF:Int)(last:Value)(d:List El)(h:iR w i sb aF last d):Calls prog 157 #[.pointer (some ⟨sb,0,none⟩)] w (pT w i sb aF d):=by
 obtain⟨R,f⟩:=exq (pT w i sb aF d);rw[<-f];replace f:=J f;obtain⟨a,c,rfl,-⟩:=h.own.fL;have oM:=(aU h.aG _).trans (Cd aF (.slice a d.length c)).2;have f100:w.frozen? ⟨sb,100,none⟩=false:=by simp[World.frozen?,h.aG]
 have g:=aD (av w (some sb)) ⟨sb,100,none⟩ (.slice none 0 0) (.inr rfl);have k:Hid (R (.returned (.slice a d.length c)) (w.setCell ⟨sb,100,none⟩ (.slice none 0 0))):=J (by
  rw[Z f];refine⟨a,_,c,rfl,⟨?_,dZ.nil _ _,gI.nil _ _,λe=>(by cases e),λe b=>(by cases b),λe b=>(by cases b)⟩,h.own.aq (ak.of g) (λj e e2=>h.nl (by rw[e];exact e2.symm)),h.at_.aq (ak.of g) (λe b e2=>h.ne e b (aJ e2).symm),h.nl,λe b=>⟨h.ne e b,h.s5 e b⟩,g⟩
  rw[<-JO aF (.slice a d.length c)];exact heap_set h.aG _)
 replace h:=J h;clear g;go_enter func157,ntmps157;go_wp2_with fail;exact Z k
theorem pT.pre{b:List El}{e:Ending}(g:w.grownBy W none)(h:pT W k i p b e v):pT w k i p b e v:=by
 obtain⟨a,n,c,d,f,j,l,m,q,r⟩:=h;exact⟨a,n,c,d,f,j,l,m,q,aj (cO g _) r⟩
theorem JQ(w:World)(d sb:Nat)(aF:Int)(last:Value)(f:List El)(h:iR w d sb aF last f)(k:aF≠0):Calls prog 130 #[.pointer (some ⟨sb,0,none⟩)] w (pT w d sb aF f):=by
 obtain⟨R,i⟩:=exq (pT w d sb aF f);rw[<-i];have j:=J (mW w sb aF h.dq);rw[bp k]at j;have l:=J (λW(g:w.grownBy W none)=>(JP W d sb aF last f (h.ah g)).mono (λe m p=>(show∃a n c,e=.returned (.slice a n c)/\R e m by
  have b:=pT.pre g p;obtain⟨a,n,c,q,-⟩:=id b;exact⟨a,n,c,q,by rw[i];exact b⟩)))
 replace i:=J i;replace h:=J h;go_enter func130,ntmps130;go_wp2_with fail;refine(Z j).mono ?_;rintro e s⟨rfl,r⟩;go_wp2_with fail;refine(Z l _ r).mono ?_;rintro e t⟨a,n,c,rfl,b⟩;replace b:=J b;go_wp2_with fail;exact Z b
theorem Kx(b:List Int):∀(k p:Nat)(c d:List Fr),ig b k p c=(some d,-1)->(∀f∈c,dm f)->∀f∈d,dm f:=by
 intro k;induction k with
 |zero=>intro p c d h;simp[ig]at h
 |succ k l=>
  intro p c d h i;unfold ig at h;split at h;split at h;simp at h;rename_i f q a;refine l q (c++[f]) d h (λg e=>?_);obtain e|e:=ck.1 e
  exact i g e;rw[dB.1 e];unfold ml at a;cases j:eR b (b.getD p 0) (p+1)with
  |none=>rw[j]at a;cases a
  |some x=>
   rw[j]at a;simp only[eB]at a;split at a;rename_i hs;simp only[kM]at a;rw[a]at hs;exact hs;cases a
  simp only[qi,kM]at h;rw[<-h.1];exact i
theorem Cx{a:List Fr}(h:fU L=(some a,-1)):∀f∈a,dm f:=by
 unfold fU at h;split at h;simp at h;exact Kx L _ _ _ _ h (λf b=>(by cases b))
structure iD(ai:Int)(i:It):Prop where
 ok:aZ i.h.ag
 fr:0<=i.h.fr
 jC:∀m,Sm i.h.ag m->0<=m/\m<i.h.fr+ai
 rQ:∀m,Sm i.h.ag m->m<i.h.fr+i.h.bytes.length
 low:i.given=false->∀m,0<=m->m<i.h.fr->Sm i.h.ag m
 len:(i.h.bytes.length:Int)<=ai
 en:i.h.fr+i.h.bytes.length<=4611686018427387903
 tf:i.given=true->i.h.ag=[]/\i.h.bytes=[]
theorem iD.cl(h:iD p E)(k:p<=1024):E.h.ag.length<=1026:=by
 cases a:E.h.ag with
 |nil=>simp
 |cons r l=>
  have b:=h.ok;rw[a]at b;by_cases d:E.given=false;have c:=b.tail.Ac E.h.fr (E.h.fr+p) (λm e=>by
   have i:=h.jC m (by rw[a];exact(fD r l m).2 (.inr e));refine⟨?_,i.2⟩
   by_cases n:m<E.h.fr;exfalso;have q:=b.behind e;have j:=b.2 r (by simp);have h0:=(h.jC r.lo (by rw[a];exact(fD r l r.lo).2 (.inl ⟨fI _,j⟩))).1;have f:=h.low d r.hi (by omega) (by omega);rw[a]at f;obtain g|g:=(fD r l r.hi).1 f
   omega;have:=b.behind g;omega
   ·omega)
  simp only[dJ]
  omega;have c:=(h.tf (by simpa using d)).1;rw[a]at c;cases c
theorem iD.nice(h:iD p E)(a:p<=1024):E.h.nice:=by
 have b:=h.len;have c:=h.cl a;exact⟨h.fr,h.en,h.ok,by omega,by omega⟩
theorem Ky(M:List Rg):∀b:List Int,(∀x∈M,p<=x.lo/\q<=x.lo/\x.lo<=x.hi/\x.hi<=q+L.length)->b.length<=(jc p q L M b).length/\(∀x∈M,(x.hi-p).toNat<=(jc p q L M b).length)/\∀N:Nat,b.length<=N->(∀x∈M,(x.hi-p).toNat<=N)->(jc p q L M b).length<=N:=by
 induction M with
 |nil=>exact λb _=>⟨aI _,λx c=>(by cases c),λN h _=>h⟩
 |cons x M f=>
  intro b h;have c:=h x (by simp);have hl:=zu (L:=L) (K:=b) c.1 c.2.1 c.2.2.1 c.2.2.2;obtain⟨j,g,i⟩:=f (nE p q L b x) (λy a=>h y (by simp[a]));have e:jc p q L (x::M) b=jc p q L M (nE p q L b x):=rfl;rw[e];refine⟨by omega,λy a=>?_,λN k d=>?_⟩
  obtain rfl|a:=eJ.1 a
  omega;exact g y a;have l:=d x (by simp);exact i N (by omega) (λy a=>d y (by simp[a]))
theorem Kz(h:iD p E)(c:E.given=false)(ho:0<=q)(a:U∈jz E.h.ag ⟨q,r⟩):E.h.fr<=U.lo/\q<=U.lo/\U.lo<=U.hi/\U.hi<=r:=by
 have d:=ux E.h.ag ⟨q,r⟩;have e:=d.2 U a;have b:=(qW E.h.ag ⟨q,r⟩ U.lo).1 ⟨U,a,fI _,e⟩;have f:=(qW E.h.ag ⟨q,r⟩ (U.hi-1)).1 ⟨U,a,by omega,by omega⟩;simp only at b f;refine⟨?_,by omega,by omega,by omega⟩
 by_cases hl:U.lo<E.h.fr;exact absurd (h.low c U.lo (by omega) hl) b.2;omega
theorem iD.data(h:iD p E)(f:Fr)(ho:0<=f.offset)(r:cq f<=4611686018427387903)(j:E.given=false->cq f<=E.h.fr+p):iD p (E.data f):=by
 have s:((bl f.data).length:Int)=f.data.size:=by rw[iJ]
 cases b:E.given;have g:∀x∈jz E.h.ag ⟨f.offset,cq f⟩,E.h.fr<=x.lo/\f.offset<=x.lo/\x.lo<=x.hi/\x.hi<=f.offset+(bl f.data).length:=λx c=>by
  have:=Kz h b ho c;unfold cq at this;omega
 obtain⟨t,l,n⟩:=Ky (p:=E.h.fr) (q:=f.offset) (L:=bl f.data) (jz E.h.ag ⟨f.offset,cq f⟩) E.h.bytes g;have e:E.data f={E with high:=max E.high (cq f),ended:=E.ended||f.fin,last:=if f.fin then cq f else E.last,h:=⟨E.h.fr,jc E.h.fr f.offset (bl f.data) (jz E.h.ag ⟨f.offset,cq f⟩) E.h.bytes,dT E.h.ag ⟨f.offset,cq f⟩⟩}:=by
  unfold It.data;rw[b];rfl
 rw[e];have q:=h.fr;have j:=j b;have u:(jc E.h.fr f.offset (bl f.data) (jz E.h.ag ⟨f.offset,cq f⟩) E.h.bytes).length<=max E.h.bytes.length (cq f-E.h.fr).toNat:=n _ (by omega) (λx c=>by have:=g x c;unfold cq;omega);have v:=h.len;have w:=h.en;refine⟨oG _ h.ok,q,λm i=>?_,λm i=>?_,λ_ m h0 a=>(lT _ h.ok m).2 (.inl (h.low b m h0 a)),by simp only;omega,by simp only;omega,λe=>by simp only at e;rw[b]at e;cases e⟩
 obtain a|a:=(lT _ h.ok m).1 i
 exact h.jC m a;simp only at a⊢;omega;simp only
 obtain a|a:=(lT _ h.ok m).1 i
 have:=h.rQ m a;omega;by_cases k:Sm E.h.ag m;have:=h.rQ m k;omega;obtain⟨x,c,y,z⟩:=(qW E.h.ag ⟨f.offset,cq f⟩ m).2 ⟨a,k⟩;have:=l x c;have:=g x c;omega;have e:(E.data f).h=E.h/\(E.data f).given=E.given:=by unfold It.data;rw[b];exact⟨rfl,rfl⟩
 refine⟨by rw[e.1];exact h.ok,by rw[e.1];exact h.fr,by rw[e.1];exact h.jC,by rw[e.1];exact h.rQ,λe2=>(by rw[e.2,b]at e2;cases e2),by rw[e.1];exact h.len,by rw[e.1];exact h.en,λ_=>by rw[e.1];exact h.tf b⟩
theorem iD.reset(h:iD p E)(f:Fr):iD p (E.reset f):=by
 have c:=h.len;have d:=h.en;cases b:E.given;have e:(E.reset f).h=⟨E.h.fr,[],[]⟩/\(E.reset f).given=true:=by unfold It.reset;rw[b];exact⟨rfl,rfl⟩
 refine⟨by rw[e.1];exact aZ.nil,by rw[e.1];exact h.fr,λm a=>by rw[e.1]at a;exact absurd a (ij m),λm a=>by rw[e.1]at a;exact absurd a (ij m),λe2=>(by rw[e.2]at e2;cases e2),by rw[e.1];simp only[fH];omega,by rw[e.1];simp only[fH];omega,λ_=>by rw[e.1];exact⟨rfl,rfl⟩⟩
 have e:(E.reset f).h=E.h/\(E.reset f).given=true:=by unfold It.reset;rw[b];exact⟨rfl,rfl⟩
 refine⟨by rw[e.1];exact h.ok,by rw[e.1];exact h.fr,by rw[e.1];exact h.jC,by rw[e.1];exact h.rQ,λe2=>(by rw[e.2]at e2;cases e2),by rw[e.1];exact h.len,by rw[e.1];exact h.en,λ_=>by rw[e.1];exact h.tf b⟩
structure lZ(s:Sd):Prop where
 ai:0<=s.ai/\s.ai<=1024
 aT:∀k,k<4->iD s.ai (s.aT k)
 pre:lE s
 fl:s.az.length<=10
 ll:s.lost.length<=39000000
def m9(s:Sd)(f:Fr):Prop:=f.kind=5->(s.aT f.stream.toNat).given=false->cq f<=(s.aT f.stream.toNat).h.fr+s.ai
theorem dm.st(h:dm H):0<=H.stream/\H.stream<4:=⟨h.1.2.2.1,h.1.2.2.2⟩
theorem dm.en(h:dm H)(a:H.kind=5):cq H<=4611686018427387903:=by
 have:=h.2.1.2 a;unfold cq;omega
theorem lZ.tk(h:lZ X)(hs:dm H)(ho:0<=H.offset)(b:m9 X H):AG X H:=by
 have d:=hs.st;have e:H.stream.toNat<4:=by omega
 have hi:=h.aT _ e;have f:=h.ai;refine⟨d,λg=>(hs.2.1.1 g).1,ho,λa=>hs.en a,hi.nice f.2,λa c m j k i=>?_⟩
 have b:=b a c;refine⟨?_,by omega⟩
 by_cases hl:m<(X.aT H.stream.toNat).h.fr;exact absurd (hi.low c m (by omega) hl) i;omega
theorem Cy(s:Sd)(l:List Rg):(s.dR l).az.length<=s.az.length/\(s.dR l).lost.length<=s.lost.length+s.az.length:=by
 have a:=oa (λx:Pk=> !decide (x.num+3<=(au l 0).hi)) (s.az.filter (λx=> !bw l x.num));have b:=oa (λx:Pk=> !bw l x.num) s.az;have c:=oa (λx:Pk=> !bw l x.num) s.lost;have d:=oa (λx:Pk=>decide (x.num+3<=(au l 0).hi)) (s.az.filter (λx=> !bw l x.num));have a5:=oa (λx:Pk=> !x.ps.all (kx ((s.eN l).out x.st.toNat))) (s.eN l).lost;have e1:(s.dR l).az=(s.az.filter (λx=> !bw l x.num)).filter (λx=> !decide (x.num+3<=(au l 0).hi)):=rfl;have e2:(s.dR l).lost=(s.eN l).lost.filter (λx=> !x.ps.all (kx ((s.eN l).out x.st.toNat))):=rfl;have e:(s.eN l).lost.length=(s.lost.filter (λx=> !bw l x.num)).length+((s.az.filter (λx=> !bw l x.num)).filter (λx=>decide (x.num+3<=(au l 0).hi))).length:=by unfold Sd.eN;simp only[bG]
 rw[e1,e2];exact⟨by omega,by omega⟩
theorem lE.dR(h:lE X)(l:List Rg):lE (X.dR l):=by
 have a:=h.eN l;refine⟨a.out,λx c=>a.pk x ?_,a.num⟩
 have d:x∈(X.eN l).az++(X.eN l).lost.filter (λx=> !x.ps.all (kx ((X.eN l).out x.st.toNat))):=c;obtain b|b:=ck.1 d
 exact oe _ b;exact px _ (jR.1 b).1
def gJ(s:Sd):List Fr->Int×Sd
 |[]=>(0,s)
 |f::r=>if(s.take f).1=0 then gJ (s.take f).2 r else s.take f
structure kT(s a:Sd):Prop where
 ai:a.ai=s.ai
 key:a.key=s.key
 first:a.first=s.first
 count:a.count=s.count
 ao:a.ao=s.ao
 aT:∀k,(a.aT k).h.fr=(s.aT k).h.fr/\((a.aT k).given=false->(s.aT k).given=false)
theorem kT.rfl'(s:Sd):kT s s:=⟨rfl,rfl,rfl,rfl,rfl,λ_=>⟨rfl,id⟩⟩
theorem kT.trans{b c:Sd}(h:kT X b)(k:kT b c):kT X c:=⟨k.ai.trans h.ai,k.key.trans h.key,k.first.trans h.first,k.count.trans h.count,k.ao.trans h.ao,λi=>⟨(k.aT i).1.trans (h.aT i).1,λe=>(h.aT i).2 ((k.aT i).2 e)⟩⟩
theorem Cz(i:It)(f:Fr):(i.data f).h.fr=i.h.fr/\(i.data f).given=i.given:=by
 unfold It.data;refine⟨?_,rfl⟩
 simp only
 split<;>rfl
theorem CA(i:It)(f:Fr):(i.reset f).h.fr=i.h.fr/\(i.reset f).given=true:=by
 unfold It.reset;refine⟨?_,rfl⟩
 simp only
 split<;>rfl
theorem take_same(s:Sd)(f:Fr):kT s (s.take f).2:=by
 have b:∀(k:Nat)(a:It),a.h.fr=(s.aT k).h.fr->(a.given=false->(s.aT k).given=false)->kT s {s with aT:=aw s.aT k a}:=λk a c d=>⟨rfl,rfl,rfl,rfl,rfl,λj=>by
  by_cases e:j=k;subst e;simp only[bm];exact⟨c,d⟩
  ·show(aw s.aT k a j).h.fr=_/\((aw s.aT k a j).given=false->_)
   rw[bq _ _ e];exact⟨rfl,id⟩⟩
 unfold Sd.take;split;split;exact kT.rfl' s;exact⟨rfl,rfl,rfl,rfl,rfl,λ_=>⟨rfl,id⟩⟩
 split;split;exact kT.rfl' s;exact b _ _ (CA _ f).1 (λe=>by rw[(CA _ f).2]at e;cases e);split;split;exact kT.rfl' s;exact b _ _ (Cz _ f).1 (λe=>by rw[(Cz _ f).2]at e;exact e);split<;>exact kT.rfl' s
theorem lZ.take(h:lZ X){B:Nat}(hs:dm H)(ho:0<=H.offset)(f:m9 X H)(i:X.lost.length+10<=B)(k:B<=39000000):lZ (X.take H).2/\(X.take H).2.lost.length<=B:=by
 have l:=hs.st;have b:H.stream.toNat<4:=by omega
 have m:=h.fl;have c:∀(a:It),iD X.ai a->lZ {X with aT:=aw X.aT H.stream.toNat a}:=λa hi=>⟨h.ai,λj g=>by
  by_cases e:j=H.stream.toNat;subst e;simp only[bm];exact hi
  ·simp only[bq _ _ e];exact h.aT j g,⟨h.pre.out,h.pre.pk,h.pre.num⟩,h.fl,h.ll⟩
 unfold Sd.take;split;split;exact⟨h,by show X.lost.length<=B;omega⟩
 have hl:=Cy X H.ranges;exact⟨⟨h.ai,h.aT,h.pre.dR _,by show(X.dR H.ranges).az.length<=10;omega,by show(X.dR H.ranges).lost.length<=39000000;omega⟩,by show(X.dR H.ranges).lost.length<=B;omega⟩
 split;split;exact⟨h,by show X.lost.length<=B;omega⟩
 exact⟨c _ ((h.aT _ b).reset H),by show X.lost.length<=B;omega⟩
 split;split;exact⟨h,by show X.lost.length<=B;omega⟩
 rename_i d _;exact⟨c _ ((h.aT _ b).data H ho (hs.en d) (f d)),by show X.lost.length<=B;omega⟩
 split;exact⟨h,by show X.lost.length<=B;omega⟩
 exact⟨h,by show X.lost.length<=B;omega⟩
theorem m9.same{a:Sd}(T:kT X a)(h:m9 X H):m9 a H:=λb c=>by
 rw[(T.aT _).1,T.ai];exact h b ((T.aT _).2 c)
def Sd.kC(s:Sd)(f:Fr):Bool:=decide (f.kind=5)&&(s.aT f.stream.toNat).busy f s.ai
def mD(f:Fr):Bool:=decide (f.kind≠3)&&decide (f.kind≠1)
theorem KA(h:X.kC H=false):m9 X H:=λa b=>by
 unfold Sd.kC It.busy at h;rw[bp a,b]at h;simp only[Bool.true_and,Bool.not_false,vO]at h;omega
theorem KB(w:World)(f:Fr)(h:Value):Calls prog 165 #[.agg (bF f h)] w λe l=>e=.returned (.bool (mD f))/\w.grownBy l none:=by
 obtain⟨k,a⟩:=exq (w.alloc (.cells (bF f h) 158));have i:w.grownBy k none:=by rw[a];exact aC _ _ _
 have j:k.heap[w.heap.size]?=some (.cells (bF f h) 158 (0,0)):=by rw[a];exact aH _ _
 obtain⟨q,b⟩:=exq (mD f);rw[<-b];unfold mD at b;obtain⟨kind,stream,offset,code,fin,data,ranges⟩:=f;unfold bF at *;simp only at *;obtain⟨m,-⟩:=cH j;replace j:=J j;by_cases d:kind=3
 ·subst d;have c:q=false:=by rw[b];rfl
  subst c;clear b;go_enter func165,ntmps165;go_upto_region 1 with fail;rw[<-a];clear a;go_wp2_with fail;go_ret;exact⟨rfl,i⟩
 have n:(kind !=3)=true:=by simpa using d
 by_cases g:kind=1
 ·subst g;have c:q=false:=by rw[b];rfl
  subst c;clear b;go_enter func165,ntmps165;go_upto_region 1 with fail;rw[<-a];clear a;go_wp2_with fail;go_ret;exact⟨rfl,i⟩
 have e1:(kind !=1)=true:=by simpa using g
 have c:q=true:=by rw[b];simp[d,g]
 subst c;clear b d g;go_enter func165,ntmps165;go_upto_region 1 with fail;rw[<-a];clear a;go_wp2_with fail;go_ret;exact⟨rfl,i⟩
theorem KC(w:World)(L sb:Nat)(cs:Array Value)(v:aQ)(s:Sd)(H:bg w L sb cs v s)(Q:0<=s.ai/\s.ai<=1024)(f:Fr)(l:Value)(M:0<=f.stream/\f.stream<4)(m:(s.aT f.stream.toNat).h.nice)(ho:0<=f.offset)(r:f.kind=5->cq f<=4611686018427387903):
 Calls prog 163 #[.pointer (some ⟨sb,0,none⟩),.agg (bF f l)] w λe t=>e=.returned (.bool (s.kC f))/\w.grownBy t none:=by
 obtain⟨k,N,u⟩:∃k:Nat,k<4/\f.stream=(k:Int):=⟨f.stream.toNat,by omega,by omega⟩
 have x:f.stream.toNat=k:=by omega
 have y:=H.aT k N;obtain⟨b,c⟩:=exq (w.alloc (.cells (bF f l) 158));have i:w.grownBy b none:=by rw[c];exact aC _ _ _
 have d:b.heap[w.heap.size]?=some (.cells (bF f l) 158 (0,0)):=by rw[c];exact aH _ _
 rw[x]at m;have n:=J (λW(g:w.grownBy W none)(a:f.kind=5)=>ED W sb (55+9*k) (s.aT k) (g.cell ((aU H.aG _).trans y.c0) (by simp)) ((y.tail H.aG).ah g) ⟨m.1,by have:=m.2.1;omega⟩ f l ho (by have:=r a;omega) s.ai (by omega));rw[<-sI]at n;have F:s.kC f=(decide (f.kind=5)&&(s.aT k).busy f s.ai):=by unfold Sd.kC;rw[x]
 rw[F];have R:=kc (i.cell ((aU H.aG _).trans H.c1) (by simp));have O:(k:Int)<4:=by omega
 have d1:decide ((k:Int)<4)=true:=bp O;have p:b.grownBy b.drew none:=aP (av _ none);clear F m M x y;replace H:=J H;by_cases a:f.kind=5
 ·have G:=J (Z n b.drew (aj i p) a);rw[bp a,Bool.true_and];obtain⟨q,I⟩:=exq ((s.aT k).busy f s.ai);rw[<-I]at G⊢;clear I n r;obtain⟨kind,stream,offset,code,fin,data,ranges⟩:=f;unfold bF at *;simp only at *;subst a;subst u;obtain⟨j,z,A,B,C,D,E⟩:=cH d;replace j:=kc j;replace z:=kc z;replace A:=kc A;replace B:=kc B;replace C:=kc C;replace D:=kc D;replace E:=kc E;replace d:=J d;go_enter func163,ntmps163;go_upto_region 1 with fail;rw[<-c];clear c;go_region_held3 (λt=>b.grownBy t none)
   (first|with_reducible exact K|with_reducible exact p)
   (first|(go_at_call 214;refine(Z G).mono ?_;rintro e S⟨rfl,P⟩;have K:=aj p P))
  go_wp2_with fail;go_ret;exact⟨rfl,aj i K⟩
 rw[bB a,Bool.false_and];clear n r;obtain⟨kind,stream,offset,code,fin,data,ranges⟩:=f;unfold bF at *;simp only at *;have T:(kind==5)=false:=by simpa using a
 obtain⟨j,z,A,B,C,D,E⟩:=cH d;replace j:=kc j;replace d:=J d;replace u:=J u;clear a;go_enter func163,ntmps163;go_upto_region 1 with fail;rw[<-c];clear c;go_big_region;go_wp2_with fail;go_ret;exact⟨rfl,by first|exact aj i p|exact aj i (by assumption)⟩
theorem KD(b:List Int):∀(k p:Nat)(a c:List Fr),ig b k p a=(some c,-1)->c.length<=a.length+k:=by
 intro k;induction k with
 |zero=>intro p a c h;simp[ig]at h
 |succ k d=>
  intro p a c h;unfold ig at h;split at h;split at h;simp at h;have:=d _ _ _ h;simp only[bG,dJ,fH]at this;omega;simp only[qi,kM]at h;rw[<-h.1];omega
theorem KF{a:List Fr}(h:fU L=(some a,-1)):a.length<=L.length+1:=by
 unfold fU at h;split at h;simp at h;simpa using KD L _ _ _ _ h
theorem KG(w:World)(a:Option Addr)(n cap:Nat)(l:List Int)(c:bh w a n cap l)(hl:l.length<=100000000):Calls prog 146 #[.slice a n cap] w (pW w l):=by
 by_cases h0:l=[]
 subst h0;exact decode_nil w a n cap c;have e:=np.2 h0;obtain⟨-,f,g,-,d⟩:=id c;obtain⟨d,h⟩|⟨b,o,rfl,-⟩:=d
 omega;exact Co w b o n cap l c e hl
theorem CC(w:World)(key:List Int)(f:Bool)(a:Option Addr)(m cap:Nat)(l:List Int)(k:di key)(j:bh w a m cap l):
 Calls prog 135 #[.agg (b9 key),.bool f,.slice a m cap] w λe b=>
  ((gV key (sd f) l/\∃c d,e=.returned (.tuple #[.int .u64 (bN l),.slice c (l.length-16) d,.nilIface])/\bh b c (l.length-16) d (eu key (sd f) (bN l) (bQ l)))\/
    (¬gV key (sd f) l/\e=.returned (.tuple #[.int .u64 0,.slice none 0 0,.iface 34 (.int .i64 4)])))/\w.grownBy b none:=by
 by_cases hl:l.length<16\/300<l.length;refine(Cp key f a m cap l w j hl).mono ?_;rintro e b⟨rfl,g⟩;exact⟨.inr ⟨λh=>by have:=h.1;have:=h.2.1;omega,rfl⟩,g⟩
 refine(Cv key f a m cap l w k j (by omega) (by omega)).mono ?_;rintro e b⟨h,g⟩;refine⟨?_,g⟩
 obtain⟨i,c,d,rfl,n,-,-⟩|⟨i,rfl⟩:=h
 exact .inl ⟨i,c,d,rfl,n⟩;exact .inr ⟨i,rfl⟩
theorem KH(h:iC Y p q=false):¬Sm Y q/\p<=q:=by
 unfold iC at h;simp only[Bool.or_eq_false_iff,vO,List.any_eq_false,ja,kh]at h;exact⟨λ⟨r,a,b⟩=>h.2 r a b,by omega⟩
structure jI(a b:Nat)(W:World)(v:Value)(af:List cu):Prop where
 own:ea W a v af
 row:∀k,v.ownBlock=some k->a<=k/\k<b
 rg:∀x∈af,x.1.ranges≠[]->∀y n c,x.2=.slice (some y) n c->a<=y.block/\y.block<b
theorem ea.KI{af:List cu}(h:ea w i z af):jI i w.heap.size w z af:=by
 refine⟨h,λk e=>h.lt k e,λx a b y n c e=>⟨((h.2 x a).2 b y n c e).1,?_⟩⟩
 obtain⟨-,-,ra,cap,e2,d⟩:=(h.2 x a).1;rw[e]at e2;obtain⟨rfl,rfl,rfl⟩:=fS e2;exact d.lt b
theorem jI.aq{af:List cu}(h:jI k i W z af)(C:ak W w S)(d:∀j,k<=j->j<i->¬S j):jI k i w z af:=by
 obtain⟨⟨q,b⟩,f⟩:=id h.own;refine⟨⟨⟨q,?_⟩,λx a=>⟨(f x a).1.cW (λl y n c e r=>C.block _ r (d _ (h.rg x a l y n c e).1 (h.rg x a l y n c e).2)),(f x a).2⟩⟩,h.row,h.rg⟩
 obtain b|⟨g,cap,cur,e1,e2,m,s⟩:=b
 exact .inl b;have p:=h.row g (by rw[e1];rfl);exact .inr ⟨g,cap,cur,e1,e2,(C.block g (aO.1 m).1 (d g p.1 p.2)).trans m,s⟩
theorem jI.ah{af:List cu}(h:jI n k W x af)(g:W.grownBy w none):jI n k w x af:=h.aq (ak.of g) (λj _ _ e=>by cases e)
def cL(l:List cu)(i:Nat):cu:=l.getD i (bX 0 false,.slice none 0 0)
theorem vu{l:List cu}(h:i<l.length):l[i]?=some (cL l i):=by simp[cL,List.getD,h]
theorem rS{l:List cu}(h:i<l.length):cL l i∈l:=vQ (vu h)
theorem jI.fL{af:List cu}(h:jI k i W (.slice a n j) af):n=af.length/\n<=j/\j<=maxLen:=by
 obtain⟨⟨-,b⟩,-⟩:=h.own;obtain⟨e,c⟩|⟨g,cap,cur,e,aa,f,d,hm,hs,l⟩:=b
 cases e;exact⟨c.symm,aI _,by simp[maxLen]⟩
 cases e;exact⟨rfl,d,hm⟩
theorem jI.cells{af:List cu}(h:jI k l W (.slice a n m) af)(h0:0<n):∃g,a=some ⟨g,0,none⟩/\∀j,j<af.length->W.rangeAt g (0+j*7) (eM (cL af j).1 (cL af j).2):=by
 obtain⟨⟨-,d⟩,-⟩:=h.own;obtain⟨e,s⟩|⟨g,cap,cur,e,aa,f,t,hm,hs,p⟩:=d
 cases e;omega;cases e;refine⟨g,rfl,λi hi j v c=>?_⟩
 have q:af[i]=cL af i:=by have:=vu hi;rw[eF hi]at this;exact aJ this
 rw[<-q]at c;have b:=xO af i hi j v c;have r:i*7+j<af.length*7:=by
  have:=(iX.1 b).1;rwa[Ci]at this
 rw[<-p,jO,aM r]at b;simp only[World.cell?,f,dv]
 simpa using b
theorem CD(h:W.rangeAt n o (eM H x)):W.cell? ⟨n,o,none⟩=some (.int .i64 H.kind)/\W.cell? ⟨n,o+1,none⟩=some (.int .i64 H.stream)/\W.cell? ⟨n,o+2,none⟩=some (.int .u64 H.offset)/\W.cell? ⟨n,o+3,none⟩=some (.int .u64 H.code)/\W.cell? ⟨n,o+4,none⟩=some (.bool H.fin)/\W.cell? ⟨n,o+5,none⟩=some (.string H.data)/\W.cell? ⟨n,o+6,none⟩=some x:=
 ⟨h 0 _ rfl,h 1 _ rfl,h 2 _ rfl,h 3 _ rfl,h 4 _ rfl,h 5 _ rfl,h 6 _ rfl⟩
theorem jI.xP{af:List cu}(h:jI n k W x af)(j:Nat)(a:j<af.length):cV W (cL af j).1 (cL af j).2:=(h.own.2 _ (rS a)).1
theorem CE(w:World)(u v:Nat)(a:Option Addr)(n c d:Nat)(la lb:Array Value)(af:List cu)(q:Fr->Bool)(h:jI u v w (.slice a n c) af)(y:∀args w,(callFunc d args).run prog w=.ok (.enter d args) w)
 (k:∀(W:World)(x:cu),w.grownBy W none->x∈af->Calls prog d (la++ #[.agg (bF x.1 x.2)]++lb) W (λe r=>e=.returned (.bool (q x.1))/\W.grownBy r none)):
 Calls prog 162 #[.slice a n c,.func (.func d) la lb] w λe s=>e=.returned (.bool ((af.map (·.1)).any q))/\w.grownBy s none:=by
 obtain⟨E,z,A⟩:=h.fL;obtain⟨b,t⟩:∃b,(0<n->a=some ⟨b,0,none⟩)/\∀j,j<af.length->w.rangeAt b (0+j*7) (eM (cL af j).1 (cL af j).2):=by
  by_cases h0:0<n;obtain⟨g,e,l⟩:=h.cells h0;exact⟨g,λ_=>e,l⟩
  exact⟨0,λl=>absurd l h0,λj F=>by omega⟩
 refine(Fy a b 0 n c d la lb w (λi=>q (cL af i).1=true) (λi=>.int .i64 (cL af i).1.kind) (λi=>.int .i64 (cL af i).1.stream) (λi=>.int .u64 (cL af i).1.offset) (λi=>.int .u64 (cL af i).1.code) (λi=>.bool (cL af i).1.fin) (λi=>.string (cL af i).1.data) (λi=>(cL af i).2) t.1 ⟨z,A⟩ y (λW i g hi=>?_) (λW i g hi=>?_)).mono ?_;have:=CD (t.2 i (by omega));exact⟨g.cell this.1 (by simp),g.cell this.2.1 (by simp),g.cell this.2.2.1 (by simp),g.cell this.2.2.2.1 (by simp),g.cell this.2.2.2.2.1 (by simp),g.cell this.2.2.2.2.2.1 (by simp),g.cell this.2.2.2.2.2.2 (by simp)⟩
 refine(k W (cL af i) g (rS (by omega))).mono ?_;rintro e r⟨rfl,B⟩;refine⟨?_,B⟩
 have:=mO (u:=q (cL af i).1=true) (q:=q (cL af i).1=true) Iff.rfl;simpa using this;rintro e s⟨hs,g⟩;refine⟨rh hs ?_,g⟩
 rw[oh];constructor;rintro⟨f,k,m⟩;obtain⟨x,C,rfl⟩:=fh.1 k;obtain⟨i,hi,rfl⟩:=lL.1 C;have D:af[i]=cL af i:=by have:=vu hi;rw[eF hi]at this;exact aJ this
 exact⟨i,by omega,by rw[<-D];exact m⟩
 rintro⟨i,hi,m⟩;exact⟨_,lM (rS (by omega)),m⟩
