import Derived.Test.YtjnmokmchdfchaaGreatDoorZS1
set_option maxRecDepth 1000000
set_option maxHeartbeats 0
set_option linter.all false
namespace Go.Proofs.YtjnmokmchdfchaaGreatDoor
open Go.RowKit Tryz
open Go.Value renaming int→I,slice→Y,bool→β,pointer→π,agg→ε,string→ς,tuple→τ
open Go.IntKind renaming i64→X,u64→U,u8→Δ
open Go.Ending renaming returned→ξ
open Go.Obj renaming cells→ο
open Or renaming inl→φ,inr→ψ
open Option renaming some→E,none→N
open Bool renaming true→ρ,false→θ
open Go renaming World→D,Value→υ
open Go.World renaming grownBy→G,cell?→κ,frozen?→χ,setCell→ζ
attribute[local go_sem↓]Go.wp_at_zero Go.wp_at_succ
variable{c:Array υ}{L:List Int}{s:List Rg}{b j k n o:Nat}{P S:Nat->Prop}{a:Option Addr}{T:TypeId}{x:υ}{W v w:D}
def IX(w:D)(a:Nat)(b:a<=w.heap.size):aS (w.alloc (ο #[] 5)) a (Y (E ⟨w.heap.size,0,N⟩) 0 0) []:=
 ⟨(nofun),by simp[bv],ψ ⟨w.heap.size,0,#[],Q,b,aM w _,aP _,by simp[maxLen],Γ,by simp[bv]⟩⟩
def IY(w:D):(binOp .eql 112 (Y N 0 0) (Y N 0 0)).run prog w=.ok (β ρ) w:=by
 have h:∀d:Nat,(Op.equalIn (d+1) 112 (Y N 0 0) (Y N 0 0)).run prog w=.ok ρ w:=λd=>by
  simp[Op.equalIn,run_underlying underlying112]
 simp only[binOp]
 simp[Op.equal,Op.maxDepth,h 9999]
def IZ(w:D)(y:Addr)(n c:Nat):(binOp .eql 112 (Y (E y) n c) (Y N 0 0)).run prog w=.ok (β θ) w:=by
 have h:∀d:Nat,(Op.equalIn (d+1) 112 (Y (E y) n c) (Y N 0 0)).run prog w=.ok θ w:=λd=>by
  simp[Op.equalIn,run_underlying underlying112]
 simp only[binOp]
 simp[Op.equal,Op.maxDepth,h 9999]
def I2(a:Option Addr)(n c:Nat)(l:List Int)(w:D)(d:bD w a n c l)(hl:l.length<=2000000):
 Calls prog 259 #[Y a n c] w λe j=>(∃m p,e=ξ (Y m n p)/\aS j w.heap.size (Y m n p) l)/\G w j N:=by
 refine fL λR f=>?_
 replace f:=J f;have g:=d.2.1;cases a with
 |none=>
  have t:n=0:=by
   obtain⟨-,-,u,-,⟨-,h⟩|⟨b,o,h,-⟩⟩:=d;omega;cases h
  have v:c=0:=by
   obtain⟨-,-,u,-,⟨-,h⟩|⟨b,o,h,-⟩⟩:=d;exact h;cases h
  subst t v;have x:l=[]:=â;subst x;have i:Hid (R (ξ (Y N 0 0)) w):=J (by rw[Z f];exact⟨⟨N,0,Q,aS.nil _ _⟩,au _ _⟩);have z:=IY;clear d hl g f;go_enter func259,ntmps259;go_wp2_with fail;exact Z i
 |some y=>
  have q:=J (IX w w.heap.size (aP _));replace g:=J g;have z:=λW=>IZ W y n c
  go_enter func259,ntmps259;go_wp2_with (at_builtin;refine jt Ξ _ _ Ξ w.heap.size _ [] Ξ (Z q) _ _ _ l Ξ (Z (J (d.ag (aC w (ο #[] 5) N)))) Ψ Γ ?_;intro r c3 A s B _;simp only[eJ,eM,mg]at s⊢);have i:R (ξ (Y r l.length c3)) A:=by
   rw[Z f];refine⟨⟨r,c3,by rw[Z g],?_⟩,cO (aC w (ο #[] 5) N) B (λk e=>φ ((Z q).lt k e).1)⟩
   rw[Z g];simpa using s
  exact i
def aS.low{b2:Nat}(h:aS w n x L)(b:b2<=n):aS w b2 x L:=by
 let⟨c,d,a⟩:=h
 refine⟨c,d,?_⟩
 obtain a|⟨g,cap,cur,e1,e2,e⟩:=a
 simp_all;exact ψ ⟨g,cap,cur,e1,bG b e2,e⟩
def aS.aB{sb:Nat}(h:aS w n x L)(a:x.ownBlock≠E sb)(so:Nat)(u:υ):aS (ζ w ⟨sb,so,N⟩ u) n x L:=
 h.gb (aD (au w (E sb)) ⟨sb,so,N⟩ u (ψ Q)) (ψ a)
def Ct(h:BS w b o L)(n:Nat):BS w b (o+n) (L.drop n):=by
 refine⟨λi hi=>?_,λx a=>h.2 x (iC a)⟩
 rw[fD]at hi;have:=h.1 (n+i) O;grind
def rz:prog.elem 112=5:=Φ
def xH(W:D):(sizeOf 5).run prog W=.ok 1 W:=Φ
def I3(a:Option Addr)(n b j:Nat)(h:j<=n)(W:D):(Instr.slice 112 (Y a n b) (E (I X j)) N N).run prog W=.ok (Y (if b=j then a else a.map (·.add j)) (n-j) (b-j)) W:=by
 rw[run_slice_l W 112 a n b (by rw[rz];exact underlying112) X (j:Int) O O,rz,xH];simp only[jC,sliced,mf,tx]
def I5(h:bD w a n k L)(d:∀z,a=E z->z.block≠j)(so:Nat)(v:υ):bD (ζ w ⟨j,so,N⟩ v) a n k L:=by
 let⟨e,f,g,l,c⟩:=h
 refine⟨e,f,g,l,?_⟩
 obtain c|⟨b,o,rfl,c⟩:=c
 simp_all;exact ψ ⟨b,o,Q,λi hi=>(iB (w:=w) (a:=⟨b,o+i,N⟩) (dr _ _ _ _ (d _ Q))).trans (c.1 i hi),c.2⟩
def zv{c:Option Addr}(h:bD w a n k L)(j:Nat)(p:j<=n)(f:k-j=0/\c=a\/∃b o,a=E ⟨b,o,N⟩/\c=E ⟨b,o+j,N⟩):(k-j=0->c=N\/∃b o,c=E ⟨b,o,N⟩)->bD w c (n-j) (k-j) (L.drop j):=by
 intro l;let⟨m,q,r,s,d⟩:=h
 refine⟨λx g=>m x (iC g),by rw[fD];omega,O,O,?_⟩
 obtain⟨f,rfl⟩|⟨b,o,rfl,rfl⟩:=f
 obtain rfl|⟨b,o,rfl⟩:=l f
 simp_all;refine ψ ⟨b,o,Q,?_⟩;have:L.drop j=[]:=oV (by grind);rw[this];exact⟨λi hi=>by simp at hi,λx g=>by simp at g⟩
 obtain⟨d,-⟩|⟨t,u,e,d⟩:=d
 cases d;cases e;exact ψ ⟨_,_,Q,Ct d j⟩
def Cu(w:D)(sb f:Nat)(cs:Array υ)(t:TypeId)(ab:Option Addr)(c cb:Nat)(ac:Option Addr)(nc cc:Nat)(h:Hd)(T:w.heap[sb]?=E (ο cs t (0,0)))(H:iM w sb f ab c cb ac nc cc h)(k:Nat)(hk:h.fr+k<=4611686018427387903)(bt:∀y,ab=E y->y.block≠sb):
 Calls prog 221 #[π (E ⟨sb,f,N⟩),I X k] w λe w'=>e=ξ (τ #[])/\∃a' M,G w w' (E sb)/\w'.heap[sb]?=E (ο ((cs.setIfInBounds f (I U (h.fr+k))).setIfInBounds (f+1) (Y a' (h.bytes.drop k).length M)) t (0,0))/\aS w' w.heap.size (Y a' (h.bytes.drop k).length M) (h.bytes.drop k)/\(∀y,a'=E y->w.heap.size<=y.block):=by
 obtain⟨c0,c1,c2,u,-,⟨k0,k1,-,k3,-⟩⟩:=H;let⟨fr,bytes,af⟩:=h
 simp only at *;have P:=u.2.1;have f0:χ w ⟨sb,f,N⟩=θ:=ç T;have hw:U.wrap (fr+(k:Int))=fr+(k:Int):=by rw[cZ];omega
 have b4:U.wrap (k:Int)=(k:Int):=by rw[cZ];omega
 obtain⟨a,v⟩:=í (ζ w ⟨sb,f,N⟩ (I U (fr+(k:Int))));have V:G w a (E sb):=by rw[v];exact aD (au _ _) _ _ (ψ Q)
 have r:a.heap[sb]?=E (ο (cs.setIfInBounds f (I U (fr+(k:Int)))) t (0,0)):=by rw[v];exact heap_set T _
 have ai:κ a ⟨sb,f+1,N⟩=E (Y ab c cb):=by
  simp only[κ,T]at c1;simp only[κ,r]
  rw[ë];exact c1
 have x:bD a ab c cb bytes:=by rw[v];exact I5 u bt f _
 obtain⟨j,hj⟩:=í (min k c);have ak:j<=c:=O;obtain⟨z,l⟩:=í ((if cb=j then ab else ab.map (·.add j)));have fj:∀W,(Instr.slice 112 (Y ab c cb) (E (I X j)) N N).run prog W=.ok (Y z (c-j) (cb-j)) W:=λW=>by rw[l];exact I3 _ c cb j ak W
 have a0:bD a z (c-j) (cb-j) (bytes.drop j):=by
  have bw:=x.2.2.1;obtain⟨-,-,-,-,⟨rfl,h0⟩|⟨b,o,rfl,-⟩⟩:=id x;refine zv x j ak (φ ⟨O,by rw[l];split<;>rfl⟩) (λ_=>φ (by rw[l];split<;>rfl));by_cases hc:cb=j;refine zv x j ak (φ ⟨O,by rw[l,aH hc]⟩) (λ_=>ψ ⟨b,o,by rw[l,aH hc]⟩);refine zv x j ak (ψ ⟨b,o,Q,by rw[l,aE hc];simp only[tv,Addr.add_mid]⟩) (λh=>O)
 have a2:bytes.drop j=bytes.drop k:=by
  by_cases bx:k<=c;rw[show j=k by omega];rw[wJ O,wJ O]
 have L:c-j=(bytes.drop k).length:=by rw[<-a2,fD,P]
 have R:=J (λW(g:G a W N)(n' M:Nat)(e1:n'=c-j)(e2:M=cb-j)=>I2 z n' M (bytes.drop j) W (by rw[e1,e2];exact a0.ag g) (by rw[fD];omega));have b5:=(aV.1 T).1;have m:a.heap.size=w.heap.size:=by rw[v];simp[ζ]
 replace⟨a2,L,u,x,a0,P,l⟩:=mX a2 L u x a0 P l;have bb:min (k:Int) (c:Int)=(j:Int):=O;have b6:G a a.drew (E sb):=aK (au _ _);go_enter func221,ntmps221;go_wp2_with fail;rw[<-v];replace v:=J v;have i1:(j:Int)<=c:=O;have bw:=(Z u).2.2.1;replace m:=J m;by_cases bx:k<=c
 .have d1:decide ((k:Int)<=c)=ρ:=α;have d2:decide ((c:Int)<k)=θ:=é;obtain rfl:j=k:=O;clear hj bb;by_cases S:cb=j
  .have A:z=ab:=by rw[Z l,aH S]
   subst A;go_region_with (first|(go_at_call 259;apply(Z R _ (aK (au _ _)) _ _ O O).mono;rintro e n⟨⟨a5,c5,rfl,i⟩,B⟩;have d:G a n N:=(aq (aK (au _ _)) B);have a3:=ì d ai;have f5:χ n ⟨sb,f+1,N⟩=θ:=(by simp[χ,bp r d])));all_goals
    have C:∀y,a5=E y->w.heap.size<=y.block:=λy F=>by
     have h7:=(i.lt y.block (by rw[F];rfl)).1;have p:=Z m;have q:a.drew.heap.size=a.heap.size:=rfl;omega
    refine eP (dV Q _ _ _) Q ⟨Q,a5,c5,aq V (aD (cK d _) _ _ (ψ Q)),?_,?_,C⟩
    rw[<-Z L];exact heap_set (bp r d) _
    have K:=(i.low (b2:=w.heap.size) (by have p:=Z m;have q:a.drew.heap.size=a.heap.size:=rfl;omega)).aB (sb:=sb) (λe=>by have:=(i.lt _ e).1;have p:=Z m;have q:a.drew.heap.size=a.heap.size:=rfl;omega) (f+1) (Y a5 (c-j) c5)
    rw[<-Z L]
    exact K
  obtain⟨b,o,rfl⟩:∃b o,ab=E ⟨b,o,N⟩:=by
   obtain⟨-,-,-,-,⟨-,h0⟩|⟨b,o,rfl,-⟩⟩:=Z u;omega;exact⟨b,o,Q⟩
  have A:z=E ⟨b,o+j,N⟩:=by rw[Z l,aE S];simp only[tv,Addr.add_mid]
  subst A;go_region_with (first|(go_at_call 259;apply(Z R _ (aK (au _ _)) _ _ O O).mono;rintro e n⟨⟨a5,c5,rfl,i⟩,B⟩;have d:G a n N:=(aq (aK (au _ _)) B);have a3:=ì d ai;have f5:χ n ⟨sb,f+1,N⟩=θ:=(by simp[χ,bp r d])));all_goals
   have C:∀y,a5=E y->w.heap.size<=y.block:=λy F=>by
    have h7:=(i.lt y.block (by rw[F];rfl)).1;have p:=Z m;have q:a.drew.heap.size=a.heap.size:=rfl;omega
   refine eP (dV Q _ _ _) Q ⟨Q,a5,c5,aq V (aD (cK d _) _ _ (ψ Q)),?_,?_,C⟩
   rw[<-Z L];exact heap_set (bp r d) _
   have K:=(i.low (b2:=w.heap.size) (by have p:=Z m;have q:a.drew.heap.size=a.heap.size:=rfl;omega)).aB (sb:=sb) (λe=>by have:=(i.lt _ e).1;have p:=Z m;have q:a.drew.heap.size=a.heap.size:=rfl;omega) (f+1) (Y a5 (c-j) c5)
   rw[<-Z L]
   exact K
 have d1:decide ((k:Int)<=c)=θ:=é;have d2:decide ((c:Int)<k)=ρ:=α;obtain rfl:j=c:=O;clear hj bb;have s:bytes.drop k=[]/\(bytes.drop k).length=0:=by
  have hd:bytes.drop k=[]:=wJ (by have:=Z P;omega);exact⟨hd,by rw[hd];rfl⟩
 have bj:bytes.drop j=[]:=wJ (by have:=Z P;omega);rw[bj]at R;clear bj;replace s:=J s;by_cases S:cb=j
 .have A:z=ab:=by rw[Z l,aH S]
  subst A;clear l;go_region_with (first|(go_at_call 259;apply(Z R _ (aK (au _ _)) _ _ O O).mono;rintro e n⟨⟨a5,c5,rfl,i⟩,B⟩;have d:G a n N:=(aq (aK (au _ _)) B);have a3:=ì d ai;have f5:χ n ⟨sb,f+1,N⟩=θ:=(by simp[χ,bp r d])));all_goals
   have C:∀y,a5=E y->w.heap.size<=y.block:=λy F=>by
    have h7:=(i.lt y.block (by rw[F];rfl)).1;have p:=Z m;have q:a.drew.heap.size=a.heap.size:=rfl;omega
   refine eP (dV Q _ _ _) Q ⟨Q,a5,c5,aq V (aD (cK d _) _ _ (ψ Q)),?_,?_,C⟩
   rw[(Z s).2];exact heap_set (bp r d) _
   have K:=(i.low (b2:=w.heap.size) (by have p:=Z m;have q:a.drew.heap.size=a.heap.size:=rfl;omega)).aB (sb:=sb) (λe=>by have:=(i.lt _ e).1;have p:=Z m;have q:a.drew.heap.size=a.heap.size:=rfl;omega) (f+1) (Y a5 0 c5)
   rw[(Z s).2,(Z s).1]
   exact K
 obtain⟨b,o,rfl⟩:∃b o,ab=E ⟨b,o,N⟩:=by
  obtain⟨-,-,-,-,⟨-,h0⟩|⟨b,o,rfl,-⟩⟩:=Z u;omega;exact⟨b,o,Q⟩
 have A:z=E ⟨b,o+j,N⟩:=by rw[Z l,aE S];simp only[tv,Addr.add_mid]
 subst A;clear l;go_region_with (first|(go_at_call 259;apply(Z R _ (aK (au _ _)) _ _ O O).mono;rintro e n⟨⟨a5,c5,rfl,i⟩,B⟩;have d:G a n N:=(aq (aK (au _ _)) B);have a3:=ì d ai;have f5:χ n ⟨sb,f+1,N⟩=θ:=(by simp[χ,bp r d])));all_goals
  have C:∀y,a5=E y->w.heap.size<=y.block:=λy F=>by
   have h7:=(i.lt y.block (by rw[F];rfl)).1;have p:=Z m;have q:a.drew.heap.size=a.heap.size:=rfl;omega
  refine eP (dV Q _ _ _) Q ⟨Q,a5,c5,aq V (aD (cK d _) _ _ (ψ Q)),?_,?_,C⟩
  rw[(Z s).2];exact heap_set (bp r d) _
  have K:=(i.low (b2:=w.heap.size) (by have p:=Z m;have q:a.drew.heap.size=a.heap.size:=rfl;omega)).aB (sb:=sb) (λe=>by have:=(i.lt _ e).1;have p:=Z m;have q:a.drew.heap.size=a.heap.size:=rfl;omega) (f+1) (Y a5 0 c5)
  rw[(Z s).2,(Z s).1]
  exact K
structure aj(w a:D)(S:Nat->Prop):Prop where
 os:a.os=w.os
 tape:a.tape=w.tape
 output:a.output=w.output
 size:w.heap.size<=a.heap.size
 block:∀k,k<w.heap.size->¬S k->a.heap[k]?=w.heap[k]?
def aj.of{r:Option Nat}(g:G w W r):aj w W (λk=>r=E k):=
 ⟨g.os,g.tape,g.output,g.size,λk a h=>g.block k a (λe=>h e.symm)⟩
def aj.trans(h:aj w W S)(k:aj W v P):aj w v (λi=>S i\/P i):=
 ⟨k.os.trans h.os,k.tape.trans h.tape,k.output.trans h.output,bG h.size k.size,λi hi a=>(k.block i (bX hi h.size) (λe=>a (ψ e))).trans (h.block i hi (λe=>a (φ e)))⟩
def aj.mono(h:aj w W S)(b:∀k,k<w.heap.size->S k->P k):aj w W P:=
 ⟨h.os,h.tape,h.output,h.size,λk a c=>h.block k a (λe=>c (b k a e))⟩
def aj.gb(h:aj w W S){r:Option Nat}(b:∀k,k<w.heap.size->S k->r=E k):G w W r:=
 ⟨h.os,h.tape,h.output,h.size,λk a c=>h.block k a (λe=>c (b k a e).symm)⟩
def aj.rfl'(w:D)(S:Nat->Prop):aj w w S:=⟨Q,Q,Q,aP _,λ_ _ _=>rfl⟩
def Cw(w:D)(sb a:Nat)(ab:Option Addr)(d cb:Nat)(ac:Option Addr)(nc f:Nat)(h:Hd)(H:iM w sb a ab d cb ac nc f h):
 Calls prog 196 #[π (E ⟨sb,a,N⟩)] w λe g=>e=ξ (I U (h.fr+h.bytes.length))/\∃k,g=w.drewN k:=by
 obtain⟨c0,c1,c2,b,-,⟨j,i,-,k3,-⟩⟩:=H;let⟨fr,bytes,af⟩:=h
 simp only at *;have c:=b.2.1;rw[<-c]at i k3⊢;clear c b;go_enter func196,ntmps196;go_wp2_with fail;go_quiet (fail);go_wp2;go_ret;exact⟨Q,_,Q⟩
def Jb(a:Option Addr)(n b i:Nat)(h:i<=b)(W:D):(Instr.slice 112 (Y a n b) N (E (I X i)) N).run prog W=.ok (Y a i b) W:=by
 rw[run_slice_h W 112 a n b (by rw[rz];exact underlying112) X (i:Int) O O,rz,xH];simp only[jC,sliced,mf,nz,Nat.sub_zero]
 congr 1;cases a with
 |none=>simp
 |some y=>simp[Addr.add]
def zy(h:BS w b o L)(n:Nat):BS w b o (L.take n):=by
 refine⟨λi hi=>?_,λx a=>h.2 x (jr a)⟩
 rw[dK]at hi;rw[h.1 i O];grind
def Jc(h:bD w a n k L)(m:Nat)(g:m<=n):bD w a m k (L.take m):=by
 let⟨d,i,j,e,c⟩:=h
 refine⟨λx f=>d x (jr f),by rw[dK];omega,O,e,?_⟩
 obtain c|⟨b,o,rfl,c⟩:=c
 simp_all;exact ψ ⟨b,o,Q,zy c m⟩
def Jd(w:D)(sb c j:Nat)(x:Array υ)(t:TypeId)(ab:Option Addr)(b cb:Nat)(ac:Option Addr)(nc M:Nat)(h:Hd)(n:w.heap[sb]?=E (ο x t (0,0)))(H:iM w sb c ab b cb ac nc M h)(z:aS w j (Y ab b cb) h.bytes)(ai:j<=w.heap.size)(ak:∀y,ab=E y->y.block≠sb)
 (f:Option Addr) (nx g:Nat) (l:List Int) (hl:bD w f nx g l) (av:Int) (hw:(h.bytes.length:Int)<=av/\av<=1000000) (h4:h.fr+h.bytes.length<=4096) (m:Nat) (d:(m:Int)=min (min (l.length:Int) (av-h.bytes.length)) (4096-(h.fr+h.bytes.length))):
 Calls prog 150 #[π (E ⟨sb,c,N⟩),Y f nx g,I X av] w λr A=>r=ξ (I X m)/\∃p q s,aS A j (Y p q s) (h.bytes++l.take m)/\aj w A (λk=>k=sb\/(Y ab b cb).ownBlock=E k)/\A.heap[sb]?=E (ο (x.setIfInBounds (c+1) (Y p q s)) t (0,0))/\((Y p q s).ownBlock=(Y ab b cb).ownBlock\/∀k,(Y p q s).ownBlock=E k->w.heap.size<=k):=by
 have P:=J (λk=>Cw (w.drewN k) sb c ab b cb ac nc M h (H.ag (cu (au _ _) k)));obtain⟨c0,c1,c2,B,-,⟨k0,k1,-,k3,-⟩⟩:=H;let⟨fr,bytes,af⟩:=h
 simp only at *;have u:=B.2.1;have C:=hl.2.1;rw[<-u]at P d hw h4 k1 k3;rw[<-C]at d;go_enter func150,ntmps150;replace⟨u,C,B,hl,z⟩:=gT u C B hl z;have w1:X.wrap (av-(b:Int))=av-(b:Int):=ä;have w2:X.wrap (fr+(b:Int))=fr+(b:Int):=ä;have w3:X.wrap (4096-(fr+(b:Int)))=4096-(fr+(b:Int)):=ä;replace d:=J d;go_wp2_with fail;go_quiet (first|(go_at_call 196;exact Calls.quiet_of (Z P _)));have a0:(if 4096-(fr+(b:Int))<(if av-(b:Int)<(nx:Int)then av-(b:Int)else(nx:Int))then 4096-(fr+(b:Int))else(if av-(b:Int)<(nx:Int)then av-(b:Int)else(nx:Int)))=(m:Int):=by
  have:=Z d;split<;>split at * <;>omega
 rw[a0];have a1:m<=nx:=by have:=Z d;omega
 have bx:=(Z hl).2.2.1;have bz:∀W,(Instr.slice 112 (Y f nx g) N (E (I X m)) N).run prog W=.ok (Y f m g) W:=λW=>Jb f nx g m O W
 have a2:Hid (bytes.length+(l.take m).length<=100000000):=J (by have:=Z u;have:=Z d;rw[dK];omega);have f1:χ w ⟨sb,c+1,N⟩=θ:=ç n;have a3:=(aV.1 n).1;have R:Hid ((Y ab b cb).ownBlock≠E sb):=J (by
  cases ab with
  |none=>simp[Value.ownBlock]
  |some y=>simp only[Value.ownBlock];exact λe=>ak y Q (aR e))
 go_wp2_with fail;go_region_law ((refine uX Ξ _ _ Ξ j _ bytes Ξ ((Z z).ag (aK (cu (au _ _) _))) _ _ _ (l.take m) Ξ ((Z (J (Jc (Z hl) m a1))).ag (aK (cu (au _ _) _))) (Z a2) ai ?_;intro a7 c7 i F S v;replace F:=J F;replace v:=J v;have K:i.heap[sb]?=E (ο x t (0,0)):=((S.block sb a3 (λe=>Z R e.symm)).trans n);have bA:κ i ⟨sb,c+1,N⟩=E (Y ab b cb):=((iB (w:=w) (a:=⟨sb,c+1,N⟩) (K.trans n.symm)).trans c1);have f7:χ i ⟨sb,c+1,N⟩=θ:=(by simp[χ,K])));all_goals go_wp2_with fail
 all_goals
  go_ret
  have a4:(Y a7 (bytes.length+(l.take m).length) c7).ownBlock≠E sb:=by
   obtain e|e:=Z v
   rw[e];exact Z R;rw[e];intro e2;have h8:w.heap.size=sb:=aR e2;omega
  have T:=(Z F).gb (aD (au i (E sb)) ⟨sb,c+1,N⟩ (Y a7 (bytes.length+(l.take m).length) c7) (ψ Q)) (ψ a4)
  rw[dK]at T
  have a8:(Y a7 (bytes.length+min m l.length) c7).ownBlock=(Y ab b cb).ownBlock\/∀k,(Y a7 (bytes.length+min m l.length) c7).ownBlock=E k->w.heap.size<=k:=by
   have V:=Z v;rw[dK]at V;refine V.imp id (λe k L=>?_);rw[e]at L;have b3:w.heap.size=k:=aR L;omega
  refine⟨Q,a7,_,c7,T,?_,heap_set K _,a8⟩
  have C1:aj w (w.drewN nq).drew (λ_=>False):=⟨Q,Q,Q,aP _,λ_ _ _=>rfl⟩
  have C3:=aj.of (aD (au i (E sb)) ⟨sb,c+1,N⟩ (Y a7 (bytes.length+min m l.length) c7) (ψ Q))
  refine((C1.trans (aj.of S)).trans C3).mono (λk L h=>?_)
  obtain(h|h)|h:=h
  exact h.elim
  exact ψ h
  exact φ (aR h).symm
def zE(h:Hd)(x:Rg):Prop:=∀a,bk a->a.length<=h.af.length+1->(∀m,Sm a m↔Sm h.af m\/(x.lo<=m/\m<x.hi))->0<=dL ⟨h.fr,h.bytes,a⟩/\h.fr+dL ⟨h.fr,h.bytes,a⟩<=4611686018427387903
def bq.gb{w:D}{r:Option Nat}(h:bq w a n k s)(g:G w W r)(d:∀y,a=E y->r≠E y.block:=by simp):bq W a n k s:=by
 let⟨e,f,i,j,c⟩:=h
 refine⟨e,f,i,j,?_⟩
 obtain c|⟨b,o,rfl,c⟩:=c
 omega;exact ψ ⟨b,o,Q,jE c g (d _ Q)⟩
def ba(h:w.heap[b]?=E (ο c T (0,0)))(i:Nat):κ w ⟨b,i,N⟩=c[i]? :=by simp[κ,h]
def Jh(w:D)(sb a:Nat)(F:Array υ)(t:TypeId)(ab:Option Addr)(R cb:Nat)(ac:Option Addr)(nc cc:Nat)(o:Ot)(S:w.heap[sb]?=E (ο F t (0,0)))(H:iM w sb a ab R cb ac nc cc o.h)(T:kM w sb a o)(x:Rg)(K v:Bool)(hx:x.ok)(bj:∀y,ab=E y->y.block≠sb)(br:∀y,ac=E y->y.block≠sb)(b4:zE o.h x)(cf:o.h.af.length<100000):
 Calls prog 252 #[π (E ⟨sb,a,N⟩),ε #[I U x.lo,I U x.hi,β K,β v]] w λr V=>r=ξ (τ #[])/\
  ∃(c:Option Addr)(d f:Nat)(i:List Rg)(q:Option Addr)(u k:Nat),(k:Int)=dL ⟨o.h.fr,o.h.bytes,i⟩/\bk i/\i.length<=o.h.af.length+1/\(∀m,Sm i m↔Sm o.h.af m\/(x.lo<=m/\m<x.hi))/\G w V (E sb)/\
   V.heap[sb]?=E (ο (((((F.setIfInBounds (a+2) (Y c d f)).setIfInBounds a (I U (o.h.fr+k))).setIfInBounds (a+1) (Y q (o.h.bytes.drop k).length u)).setIfInBounds (a+6) (β (o.tE||K))).setIfInBounds (a+7) (β (o.tG||v))) t (0,0))/\
   aS V w.heap.size (Y q (o.h.bytes.drop k).length u) (o.h.bytes.drop k)/\bq V c d f i/\((c=ac/\d=nc/\f=cc)\/∀y,c=E y->w.heap.size<=y.block/\y.block<V.heap.size/\(Y q (o.h.bytes.drop k).length u).ownBlock≠E y.block):=by
 obtain⟨l,z⟩:=í ((o.tE||K));obtain⟨n,A⟩:=í ((o.tG||v));rw[<-z,<-A];replace⟨z,A⟩:=aT z A;have ch:=(aV.1 S).1;let⟨c0,c1,c2,aa,hr,⟨k0,k1,k2,k3,k4⟩⟩:=H
 obtain⟨c3,c4,c5,c6,c7,c8,-,-⟩:=T;rw[ba S]at c0 c1 c2 c3 c4 c5 c6 c7 c8;have hn:=hr.2.1;let⟨xl,xh⟩:=x
 obtain⟨p,ai⟩:=í (w.alloc (ο #[I U xl,I U xh,β K,β v] 377));have g1:G w p N:=by rw[ai];exact aC _ _ _
 have ak:p.heap[w.heap.size]?=E (ο #[I U xl,I U xh,β K,β v] 377 (0,0)):=by rw[ai];exact aM _ _
 have cm:p.heap.size=w.heap.size+1:=by rw[ai];simp
 have p0:κ p ⟨w.heap.size,0,N⟩=E (I U xl):=by simp[κ,ak]
 have p1:κ p ⟨w.heap.size,1,N⟩=E (I U xh):=by simp[κ,ak]
 have ao:=bp S g1;go_enter func252,ntmps252;go_wp2_with fail;rw[<-ai];clear ai;go_region_with (first|(go_at_call 215;apply(Z (J (zr p.drew sb (a+2) F t ac nc cc o.h.af ⟨xl,xh⟩ ao c2 (hr.ag (aK g1)) br k2 hx O))).mono;rintro e w2⟨rfl,c,d,f,i,⟨gU,hU⟩,bt,L,a2,bw,bx⟩));go_wp2_with fail;have a3:=aq (cK (aK g1) _) gU;have B:=hU F t ao;have cp:p.heap.size<=w2.heap.size:=gU.size;have ax:=(gU.block _ (by show w.heap.size<p.heap.size;omega) (λe=>by cases e;omega)).trans ak;have a4:∀y,c=E y->y.block≠sb:=λy e=>by
  obtain L|L:=L
  exact br y (L.1▸e);have:p.heap.size<=y.block:=(L y e).1;omega
 have b5:=(aV.1 c2).1;obtain⟨C,s⟩:=í (F.setIfInBounds (a+2) (Y c d f));rw[<-s]at B;have d0:C[a]?=E (I U o.h.fr):=by rw[s];simpa [oW]using c0
 have d1:C[a+1]?=E (Y ab R cb):=by rw[s];simpa [oW]using c1
 have d2:C[a+2]?=E (Y c d f):=by rw[s];simp[b5]
 have d6:C[a+6]?=E (β o.tE):=by rw[s];simpa [oW]using c6
 have d7:C[a+7]?=E (β o.tG):=by rw[s];simpa [oW]using c7
 have H2:iM w2 sb a ab R cb c d f ⟨o.h.fr,o.h.bytes,i⟩:=⟨(ba B _).trans d0,(ba B _).trans d1,(ba B _).trans d2,aa.gb a3 (λj e=>ψ (ψ (λy ey=>by cases e;exact bj y ey))),bt,⟨k0,k1,a2,k3,(O:i.length<=100000)⟩⟩
 let⟨q0,q1⟩:=b4 i a2 bw bx
 let⟨k,hk⟩:=qV q0
 have bz:=J (Ch w2.drew sb a ab R cb c d f _ (H2.ag (aK (au _ _))) ⟨q0,O⟩);have hD:=J (λW(g:G w2 W N)=>Cu W sb a C t ab R cb c d f _ (bp B g) (H2.ag g) k (by show o.h.fr+k<=_;omega) bj);rw[hk]at bz;replace⟨B,ax,ak,ao,S,s,hk⟩:=mX B ax ak ao S s hk;go_region_with (first
  |(go_at_call 220;apply(Z bz).mono;rintro e w3⟨rfl,g3⟩;have al:G w2 w3 N:=aq (aK (au _ _)) g3)
  |(go_at_call 221;apply(Z hD _ al).mono;rintro e b⟨rfl,q,u,g4,M,a8,b6⟩))
 go_wp2_with fail;have a0:=aq (cK al _) g4;have bA:=aq a3 a0;have b7:=bt.gb a0 (λy e e'=>a4 y e (by cases e';rfl));have bM:=(a0.block _ (aV.1 (Z ax)).1 (λe=>by cases e;omega)).trans (Z ax);obtain⟨a9,a1⟩:=í ((C.setIfInBounds a (I U (o.h.fr+k))).setIfInBounds (a+1) (Y q (o.h.bytes.drop k).length u));rw[<-a1]at M;have e6:a9[a+6]?=E (β o.tE):=by rw[a1];simpa [oW]using d6
 have e7:a9[a+6+1]?=E (β o.tG):=by rw[a1,show a+6+1=a+7 from rfl];simpa [oW]using d7
 have m6:=(ba M _).trans e6;have m7:=(ba M _).trans e7;have f6:χ b ⟨sb,a+6,N⟩=θ:=ç M;have f7:χ b ⟨sb,a+6+1,N⟩=θ:=ç M;have n2:κ b ⟨w.heap.size,2,N⟩=E (β K):=by simp[κ,bM]
 have n3:κ b ⟨w.heap.size,2+1,N⟩=E (β v):=by simp[κ,bM]
 have ct:κ b ⟨w.heap.size,3,N⟩=E (β v):=n3;have cv:=bA.size;have b8:Hid (G w ((b.drew.setCell ⟨sb,a+6,N⟩ (β l)).setCell ⟨sb,a+6+1,N⟩ (β n)) (E sb)/\
  ((b.drew.setCell ⟨sb,a+6,N⟩ (β l)).setCell ⟨sb,a+6+1,N⟩ (β n)).heap[sb]?=E (ο ((a9.setIfInBounds (a+6) (β l)).setIfInBounds (a+6+1) (β n)) t (0,0))/\
  aS ((b.drew.setCell ⟨sb,a+6,N⟩ (β l)).setCell ⟨sb,a+6+1,N⟩ (β n)) w.heap.size (Y q (o.h.bytes.drop k).length u) (o.h.bytes.drop k)/\
  bq ((b.drew.setCell ⟨sb,a+6,N⟩ (β l)).setCell ⟨sb,a+6+1,N⟩ (β n)) c d f i):=by
  have cw:∀y,q=E y->y.block≠sb:=λy e=>by
   have h3:=b6 y e;have h4:=al.size;omega
  have bb:G b b.drew N:=aK (au _ _);have ca:=bG a3.size al.size;have b3:(Y q (o.h.bytes.drop k).length u).ownBlock≠E sb:=λe=>by have:=(a8.lt _ e).1;omega
  exact J ⟨aD (aD (aK bA) _ _ (ψ Q)) _ _ (ψ Q),heap_set (heap_set (bp M bb) _) _,(((a8.low ca).ag bb).aB b3 _ _).aB b3 _ _,((b7.ag bb).aB a4 _ _).aB a4 _ _⟩
 replace z:=Z z;replace A:=Z A;have HV:Hid (∃(a₁:Option Addr)(n₁ c₁:Nat)(l₁:List Rg)(b₁:Option Addr)(d₁ P:Nat),(P:Int)=dL ⟨o.h.fr,o.h.bytes,l₁⟩/\bk l₁/\l₁.length<=o.h.af.length+1/\(∀m,Sm l₁ m↔Sm o.h.af m\/(xl<=m/\m<xh))/\G w ((b.drew.setCell ⟨sb,a+6,N⟩ (β l)).setCell ⟨sb,a+6+1,N⟩ (β n)) (E sb)/\
  ((b.drew.setCell ⟨sb,a+6,N⟩ (β l)).setCell ⟨sb,a+6+1,N⟩ (β n)).heap[sb]?=E (ο (((((F.setIfInBounds (a+2) (Y a₁ n₁ c₁)).setIfInBounds a (I U (o.h.fr+P))).setIfInBounds (a+1) (Y b₁ (o.h.bytes.drop P).length d₁)).setIfInBounds (a+6) (β l)).setIfInBounds (a+7) (β n)) t (0,0))/\
  aS ((b.drew.setCell ⟨sb,a+6,N⟩ (β l)).setCell ⟨sb,a+6+1,N⟩ (β n)) w.heap.size (Y b₁ (o.h.bytes.drop P).length d₁) (o.h.bytes.drop P)/\bq ((b.drew.setCell ⟨sb,a+6,N⟩ (β l)).setCell ⟨sb,a+6+1,N⟩ (β n)) a₁ n₁ c₁ l₁/\((a₁=ac/\n₁=nc/\c₁=cc)\/∀y,a₁=E y->w.heap.size<=y.block/\y.block<((b.drew.setCell ⟨sb,a+6,N⟩ (β l)).setCell ⟨sb,a+6+1,N⟩ (β n)).heap.size/\(Y b₁ (o.h.bytes.drop P).length d₁).ownBlock≠E y.block)):=by
  let⟨F1,F2,F3,F4⟩:=Z b8
  rw[a1,Z s]at F2;refine J ⟨c,d,f,i,q,u,k,(Z hk).symm,a2,bw,bx,F1,F2,F3,F4,L.imp (λh=>⟨h.1,h.2.1,h.2.2.1⟩) (λh y e=>?_)⟩;have h1:p.heap.size<=y.block:=(h y e).1;have h2:=(h y e).2;have h4:=al.size;have h5:=a0.size;refine⟨O,Ψ,λe2=>?_⟩
  have:=(a8.lt _ e2).1;omega
 generalize o.tE=tE at *;generalize o.tG=tG at *;have cx:w.heap.size≠sb:=O;cases tE<;>cases tG<;>simp only[Bool.false_or,Bool.true_or]at z A<;>subst z<;>subst A;all_goals
  go_big_region
  go_wp2_with fail
  exact eP (dV Q _ _ _) Q ⟨Q,Z HV⟩
def zF(h:bD w a n k L)(i j:Nat)(hi:i<=j)(l:j<=n):bD w (if j=i then a else a.map (·.add i)) (j-i) (j-i) ((L.drop i).take (j-i)):=by
 let⟨e,m,p,q,c⟩:=h
 refine⟨λx f=>e x (iC (jr f)),by rw[dK,fD];omega,O,O,?_⟩
 by_cases d:j=i;rw[aH d,d,tw,List.take_zero];obtain⟨c,g⟩|⟨b,o,rfl,c⟩:=c
 simp_all;exact ψ ⟨b,o,Q,BS.nil _ _ _⟩;rw[aE d];obtain⟨c,g⟩|⟨b,o,rfl,c⟩:=c
 omega;exact ψ ⟨b,o+i,by simp[Addr.add],zy (Ct c i) _⟩
def Cz(w:D)(sb l:Nat)(ab:Option Addr)(p cb:Nat)(ac:Option Addr)(nc q:Nat)(h:Hd)(H:iM w sb l ab p cb ac nc q h)(i j:Nat)(hi:i<=j)(v:j<=h.bytes.length)(lo a:Int)(m:lo=h.fr+i)(n:a=h.fr+j):
 Calls prog 285 #[π (E ⟨sb,l,N⟩),ε #[I U lo,I U a]] w λe r=>∃c,e=ξ (Y c (j-i) (j-i))/\bD w c (j-i) (j-i) ((h.bytes.drop i).take (j-i))/\((∀y,c=E y->∃z,ab=E z/\z.block=y.block)/\(i<j->c=ab.map (·.add i)))/\G w r N:=by
 obtain⟨c0,c1,c2,b,-,⟨x,A,-,k3,-⟩⟩:=H;let⟨fr,bytes,af⟩:=h
 simp only at *;have B:=b.2.1;have C:=b.2.2.1;have e1:U.wrap (lo-fr)=(i:Int):=by rw[m,show fr+(i:Int)-fr=i by omega];rw[cZ];omega
 have e2:U.wrap (a-fr)=(j:Int):=by rw[n,show fr+(j:Int)-fr=j by omega];rw[cZ];omega
 have s:=J (by have:=zF b i i (aP _) O;simpa using this);have t:Hid (j≠i->bD w (ab.map (·.add i)) (j-i) (j-i) ((bytes.drop i).take (j-i))):=J (λh=>by have:=zF b i j hi O;rwa[aE h]at this);have u:Hid (∀y,ab.map (·.add i)=E y->∃z,ab=E z/\z.block=y.block):=J (λy e=>by
  cases ab with
  |none=>cases e
  |some z=>cases e;exact⟨z,Q,by simp only[Addr.add];split<;>rfl⟩)
 clear m n b;obtain⟨d,f⟩:=í (w.alloc (ο #[I U lo,I U a] 341));have g:G w d N:=by rw[f];exact aC _ _ _
 have k:d.heap[w.heap.size]?=E (ο #[I U lo,I U a] 341 (0,0)):=by rw[f];exact aM _ _
 have p0:κ d ⟨w.heap.size,0,N⟩=E (I U lo):=by simp[κ,k]
 have F:κ d ⟨w.heap.size,1,N⟩=E (I U a):=by simp[κ,k]
 have d0:=ì g c0;have d1:=ì g c1;replace k:=J k;go_enter func285,ntmps285;go_wp2_with fail;rw[<-f];clear f;go_quiet (fail);go_wp2_with fail;case inl=>
  go_ret;exact⟨ab,Q,Z s,λy e=>⟨y,e,Q⟩,cu g _⟩
 case inr=>
  go_ret;exact⟨_,Q,Z t O,⟨Z u,λ_=>rfl⟩,cu g _⟩
