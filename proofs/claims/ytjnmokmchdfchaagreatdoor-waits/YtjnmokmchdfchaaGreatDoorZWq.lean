import Derived.Test.YtjnmokmchdfchaaGreatDoorZWp
set_option maxRecDepth 1000000
set_option maxHeartbeats 0
set_option linter.all false
namespace Go.Proofs.YtjnmokmchdfchaaGreatDoor
open Go.RowKit Tryz
attribute[local go_sem↓]Go.wp_at_zero Go.wp_at_succ
variable{b i j k n:Nat}{S:Nat->Prop}{T:TypeId}{x:Value}{W w:World}
structure yg where
 l:List Rg
 floor:Int
 bI:Int
def Ty(w:World)(b:Nat)(t:TypeId):Prop:=∃cs fr,w.heap[b]?=some (.cells cs t fr)
theorem Ty.ne{u:TypeId}(h:Ty w n T)(k:Ty w b u)(a:T≠u):n≠b:=by
 rintro rfl;obtain⟨cs,fr,h⟩:=h;obtain⟨c,d,k⟩:=k;rw[h]at k;simp only[kM,Obj.cells.injEq]at k;exact a k.2.1
theorem Ty.lt(h:Ty w b T):b<w.heap.size:=by
 obtain⟨cs,fr,h⟩:=h;exact(aO.1 h).1
theorem Ty.aq(h:Ty w b T)(C:ak w W S)(a:¬S b):Ty W b T:=by
 have hl:=h.lt;obtain⟨cs,fr,h⟩:=h;exact⟨cs,fr,(C.block b hl a).trans h⟩
theorem fY{l:List Value}(h:w.ownsRow i T j x n l)(C:ak w W S)(c:∀k,x.ownBlock=some k->¬S k):W.ownsRow i T j x n l:=by
 obtain⟨d,a⟩:=h;refine⟨d,?_⟩
 obtain a|⟨g,cap,cur,e1,e2,b,e⟩:=a
 exact .inl a;exact .inr ⟨g,cap,cur,e1,e2,(C.block g (aO.1 b).1 (c g (by rw[e1];rfl))).trans b,e⟩
theorem dM{l:List Value}(h:w.ownsRow i T j x n l):∀k,x.ownBlock=some k->Ty w k T:=by
 obtain⟨-,⟨e,-⟩|⟨g,cap,b,e1,e2,c,-⟩⟩:=h;rw[e];intro k a;cases a;rw[e1];intro k a;cases a;exact⟨b,_,c⟩
theorem MD{l:List Value}(h:w.ownsRow k T j x n l)(d:i<=k):w.ownsRow i T j x n l:=by
 obtain⟨b,a⟩:=h;refine⟨b,?_⟩
 obtain a|⟨g,cap,cur,e1,e2,c⟩:=a
 exact .inl a;exact .inr ⟨g,cap,cur,e1,by omega,c⟩
theorem ix{l:List Value}(h:w.ownsRow k T i x n l):∃a c,x=.slice a n c/\n<=c/\c<=maxLen/\(a=none->n=0/\c=0)/\∀y,a=some y->y=⟨y.block,0,none⟩/\w.rangeAt y.block 0 l:=by
 obtain⟨f,⟨e,h0⟩|⟨g,cap,m,e1,e2,p,q,r,v,s⟩⟩:=h;exact⟨none,0,by rw[h0];exact e,by omega,by simp[maxLen],λ_=>⟨h0,rfl⟩,λy b=>by cases b⟩
 refine⟨_,cap,e1,q,r,λe=>(by cases e),λy b=>?_⟩
 cases b;refine⟨rfl,λj u d=>?_⟩
 rw[dv,aU p];have t:j<n*i:=by rw[<-f];exact(iX.1 d).1
 have:m.toList[j]?=l[j]? :=by rw[<-s,jO,aM t]
 rw[py]at this;rw[this];exact d
structure ME where
 data:ByteArray
 ag:yg
 finished:Bool
 given:Bool
 code:Int
 end_:Int
 high:Int
structure MF where
 data:List Int
 there:List Bool
 high:Int
 end_:Int
 ended:Bool
 given:Bool
 code:Int
 read:Int
 state:Int
structure MG where
 ao:Int
 ai:Int
 key:List Int
 me:Int
 closed:Int
 code:Int
 said:Bool
 next:Int
 CU:yg
 CV:yg
 due:List Int
 outs:Nat->ME
 ins:Nat->MF
 aE:List (Int×List Fr)
structure MH where
 CU:Nat
 CV:Nat
 ro:Nat
 ri:Nat
 co:Nat
 ci:Nat
 ob:Nat->Nat
 cb:Nat->Nat
 ib:Nat->Nat
 vg:Value
 ve:Value
 vc:Nat->Value
 vd:Nat->Value
 vt:Nat->Value
 MI:Value
 MJ:Value
 af:List (Value×List cu)
def mL(s:MG)(l:MH):List Value:=
 [.int .i64 s.ao,.int .i64 s.ai]++bv s.key++[.int .i64 s.me,.int .i64 s.closed,.int .u64 s.code,.bool s.said,.int .u64 s.next,.pointer (some ⟨l.CU,0,none⟩),.pointer (some ⟨l.CV,0,none⟩),l.MI,.slice (some ⟨l.ro,0,none⟩) 4 l.co,.slice (some ⟨l.ri,0,none⟩) 4 l.ci,l.MJ]
theorem MK:(prog.info? 4).map (λi=>(i.zero,i.size,i.bytes))=some (some (.bool false),1,1):=by kernel_rfl
theorem vD(T E:TypeId)(z:Value)(bytes:Nat)(r:(prog.info? E).map (λi=>(i.zero,i.size,i.bytes))=some (some z,1,bytes))(s:prog.underlying T=some (.slice E))(t:z.cells.size=1)(x:bytes<=1000)(v:Value)(n:Nat)(l:List Value)(A:w.ownsRow 0 E 1 v n l)(b:Nat)(u:Value)(B:u.oneCell'=true)(C:w.cell? ⟨b,0,none⟩=some u)(K:n<=100000000)(c:Nat):
 ∃d e f a,(Builtin.append_ #[T,T] T #[v,.slice (some ⟨b,0,none⟩) 1 c]).run prog w=.ok (.slice d e f) a/\a.ownsRow 0 E 1 (.slice d e f) (n+1) (l++[u])/\w.grownBy a v.ownBlock/\((Value.slice d e f).ownBlock=v.ownBlock\/(Value.slice d e f).ownBlock=some w.heap.size):=by
 obtain⟨D,hi,F,G,H⟩:=kj r;obtain⟨L,a,m,h,p,_,q⟩:=run_append_own_at (P:=prog) w 0 T T E D _ 1 bytes s hi F G H t (by decide) v n l A ⟨b,0,none⟩ 1 c [u] rfl (by
  intro j y k;rw[Addr.add_mid];have:j=0:=by
   have:=(iX.1 k).1;simp at this;exact this
  subst this;simp at k;subst k;exact C) (λy I=>by rw[dB.1 I];exact B) (by simp[maxLen];omega) (by have:=Nat.mul_le_mul (show n+1<=100000001 by omega) x;omega) (mg _)
 obtain⟨-,⟨rfl,e2⟩|⟨g,cap,M,rfl,_⟩⟩:=id h;exact⟨_,_,_,a,m,h,p,q⟩
 exact⟨_,_,_,a,m,h,p,q⟩
theorem CW{l:List Value}(h:w.ownsRow 0 T 1 x n l)(a:x.ownBlock=some k)(j:Nat)(u:Value):(w.setCell ⟨k,j,none⟩ u).ownsRow 0 T 1 x n (l.set j u):=by
 obtain⟨b,⟨e,-⟩|⟨c,cap,d,e1,e2,f,g,i,m,p⟩⟩:=h;rw[e]at a;cases a;rw[e1]at a;cases a;refine⟨by rw[List.length_set];exact b,.inr ⟨c,cap,d.setIfInBounds j u,e1,e2,heap_set f u,g,i,by rw[Array.size_setIfInBounds];exact m,?_⟩⟩
 rw[Array.toList_setIfInBounds,List.take_set,p]
theorem yi{l:List Value}(h:w.ownsRow 0 T 1 x n l)(j:Nat)(f:j<n):∃g cap,x=.slice (some ⟨g,0,none⟩) n cap/\n<=cap/\cap<=maxLen/\w.cell? ⟨g,j,none⟩=l[j]? /\(∀p,w.frozen? ⟨g,p,none⟩=false)/\x.ownBlock=some g:=by
 obtain⟨i,⟨e,e0⟩|⟨g,cap,k,e1,e2,a,b,c,m,d⟩⟩:=h;omega;refine⟨g,cap,e1,b,c,?_,λp=>by simp[World.frozen?,a],by rw[e1];rfl⟩
 rw[<-d,List.getElem?_take_of_lt (by omega),py];simp[World.cell?,a]
