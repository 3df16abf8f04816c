import Derived.Laws.OwnMore
import Derived.Test.YtjnmokmchdfchaaGreatDoorZW9
set_option maxRecDepth 1000000
set_option maxHeartbeats 0
set_option linter.all false
namespace Go.Proofs.YtjnmokmchdfchaaGreatDoor
open Go.RowKit Tryz
attribute[local go_sem↓]Go.wp_at_zero Go.wp_at_succ
variable{f:Act}{F:Array Oper}{G:Exit->Act->World->Prop}{Y:List Rg}{i j k n:Nat}{I:Oper}{u:Prop}{W w:World}
theorem Cw(w:World)(n:Int)(b:0<=n/\n<=4611686018427387903):Calls prog 212 #[.int .u64 n] w λe a=>e=.returned (.agg #[.int .u64 n,.int .u64 (n+1)])/\w.grownBy a none:=by
 have c:IntKind.u64.wrap (n+1)=n+1:=by rw[eH];omega
 go_enter func212,ntmps212;go_wp2_with fail;exact cz (v:=.agg #[.int .u64 n,.int .u64 (n+1)]) (by simp[results,results212,go_sem]) rfl ⟨rfl,by repeat(first|exact av _ _|apply dh|apply aP|apply aS)⟩
theorem Kn(w:World):Calls prog 110 #[] w λe a=>e=.returned (.agg #[.int .u64 0,.int .i64 0,.int .i64 4,.slice none 0 0,.slice none 0 0])/\w.grownBy a none:=by
 go_enter func110,ntmps110;go_wp2_with fail;exact cz (v:=.agg #[.int .u64 0,.int .i64 0,.int .i64 4,.slice none 0 0,.slice none 0 0]) (by simp[results,results110,go_sem]) rfl ⟨rfl,by repeat(first|exact av _ _|apply dh|apply aP|apply aS)⟩
def iC(l:List Rg)(floor n:Int):Bool:=decide (n<floor)||l.any (λr=>decide (r.lo<=n)&&decide (n<r.hi))
theorem Ko(w:World)(sb no:Nat)(a:Option Addr)(k cap:Nat)(l:List Rg)(floor n:Int)(c0:w.cell? ⟨sb,no,none⟩=some (.slice a k cap))(c1:w.cell? ⟨sb,no+1,none⟩=some (.int .u64 floor))(hs:ba w a k cap l)(v:0<=n/\n<=4611686018427387903):
 Calls prog 160 #[.pointer (some ⟨sb,no,none⟩),.int .u64 n] w λe b=>e=.returned (.bool (iC l floor n))/\w.grownBy b none:=by
 have x:=J (λW=>Cw W n v);have j:=J (λW(g:w.grownBy W none)=>zj a k cap l ⟨n,n+1⟩ W (hs.ah g));simp only at j;by_cases c:n<floor
 ·have dl:decide (n<floor)=true:=bp c;have hp:iC l floor n=true:=by simp[iC,c]
  rw[hp];go_enter func160,ntmps160;go_wp2_with fail;go_big_region;go_wp2_with fail;go_ret;exact⟨rfl,aP (av _ _)⟩
 have dl:decide (n<floor)=false:=bB c;have m:Hid (iC l floor n=true↔(n+1<=n\/∃r∈l,r.lo<=n/\n+1<=r.hi)):=J (by
  simp only[iC,dl,Bool.false_or,oh,ja,kh]
  constructor;rintro⟨r,d,f,y⟩;exact .inr ⟨r,d,f,by omega⟩
  ·rintro(h|⟨r,d,f,y⟩);omega
   ·exact⟨r,d,f,by omega⟩)
 obtain⟨C,p⟩:=exq (iC l floor n);rw[<-p]at m⊢;clear p;have u0:=kc c0;have u1:=kc c1;have q:w.grownBy w.drew none:=aP (av _ _);clear c0 c1;go_enter func160,ntmps160;go_wp2_with fail;go_region_held3 (λb=>w.grownBy b none)
  (first|with_reducible exact s|with_reducible exact i|with_reducible exact q)
  (first
    |(go_at_call 212;refine(Z x w.drew).mono ?_;rintro e t⟨rfl,z⟩;have i:w.grownBy t none:=aj q z)
    |(go_at_call 211;refine(Z j t i).mono ?_;rintro e A⟨u,B⟩;have s:w.grownBy A none:=aj i B;obtain rfl:=rh u (Z m);clear u))
 go_wp2_with fail;go_ret;exact⟨rfl,s⟩
theorem Kp(w:World):(zeroValue 341).run prog w=.ok (.agg #[.int .u64 0,.int .u64 0]) w:=by kernel_rfl
theorem Kq(l:List Rg)(h:0<l.length):bY (l.drop 1)=(bY l).drop 2:=by
 cases l with
 |nil=>simp at h
 |cons r l=>simp[bY]
theorem Kr(ty:TypeId)(c g k cap:Nat)(l:List Rg)(ho:cS w c (.slice (some ⟨g,0,none⟩) (k+1) cap) l):
 ∃a,(Builtin.append_ #[227,227] ty #[.slice (some ⟨g,0,none⟩) 0 cap,.slice (some ⟨g,2,none⟩) k (cap-1)]).run prog w=.ok (.slice (some ⟨g,0,none⟩) k cap) a/\cS a c (.slice (some ⟨g,0,none⟩) k cap) (l.drop 1)/\w.grownBy a (some g)/\k+1<=cap/\l.length=k+1:=by
 obtain⟨i,E,⟨h0,-⟩|⟨m,n,f,e1,e2,h,F,p,q,s⟩⟩:=ho;cases h0;have hl:l.length=k+1:=by have:=(fS e1).2.1;omega
 obtain⟨t,-,v⟩:=fS e1;obtain rfl:g=m:=by cases t;rfl
 obtain rfl:cap=n:=v;obtain⟨x,hi,G,y,H⟩:=kj sw;have z:∀j u,(bY l)[j]?=some u->w.cell? ⟨g,j,none⟩=some u:=λj u b=>by
  have A:j<l.length*2:=by have:=(iX.1 b).1;rwa[pK]at this
  rw[aU h];have:f.toList[j]?=(bY l)[j]? :=by rw[<-s,jO,aM A]
  rw[py]at this;rw[this];exact b
 have B:w.ownsRow c 341 2 (.slice (some ⟨g,0,none⟩) 0 cap) 0 []:=⟨by simp,.inr ⟨g,cap,f,rfl,e2,h,by omega,p,q,by simp⟩⟩
 obtain⟨a,d,e,C⟩:=run_append_fits (P:=prog) w c 227 ty 341 x 2 underlying227 hi y g 0 cap [] B ⟨g,2,none⟩ k (cap-1) (bY (l.drop 1)) (by rw[pK,dO];omega) (by
  intro j u b;rw[Addr.add_mid];rw[Kq l (by omega),qg]at b;exact z (2+j) u b) (λu D=>ui _ u D) (by omega)
 rw[dv]at d e;rw[jQ]at e;refine⟨a,d,⟨λr d=>i r (iZ d),?_⟩,C,by omega,hl⟩
 rw[dO,hl];exact e
theorem Ks{K:Act->World->Prop}(c:I.guard=none)(s x:Operand)
 (ho:I.op=.call {callee:=.builtin .append,args:= #[s,x],argTypes:= #[227,227]}) (b g k cap:Nat) (l:List Rg) (hs:f.eval s=.slice (some ⟨g,0,none⟩) 0 cap) (d:f.eval x=.slice (some ⟨g,2,none⟩) k (cap-1)) (e:cS w b (.slice (some ⟨g,0,none⟩) (k+1) cap) l)
 (h:∀a,cS a b (.slice (some ⟨g,0,none⟩) k cap) (l.drop 1)->w.grownBy a (some g)->K (f.put I.dst (.slice (some ⟨g,0,none⟩) k cap)) a):if Region.wanted I (yielded F f.tmps)=true then Oper.wp prog I f w K G else u:=by
 have i:Region.wanted I (yielded F f.tmps)=true:=by simp[Region.wanted,c]
 rw[aM i];obtain⟨a,j,m,n,-⟩:=Kr (w:=w) I.type b g k cap l e;unfold Oper.wp execOp;simp only[ho,resolve,invoke,builtin,ie,kN,ic,lN,ki,kO,hs,d,j]
 exact h a m n
theorem Ku(e:cS W n (.slice (some ⟨i,0,none⟩) k j) Y)(v:k+1<=j):∃b,(Builtin.clear_ #[227] 0 #[.slice (some ⟨i,k*2,none⟩) 1 (j-k)]).run prog W=.ok (.tuple #[]) b/\cS b n (.slice (some ⟨i,0,none⟩) k j) Y/\W.grownBy b (some i):=by
 obtain⟨f,g,⟨h0,-⟩|⟨h,l,a,e1,e2,c,m,p,x,d⟩⟩:=e;cases h0;obtain⟨q,r,s⟩:=fS e1;obtain rfl:i=h:=by cases q;rfl
 obtain rfl:j=l:=s;obtain⟨t,y,u⟩:=zL (w:=W) 0 227 341 _ 2 (by omega) underlying227 Kp (by rfl) (by simp[Value.cells];rfl) i (k*2) 1 (j-k) a _ c (by omega) (by omega);refine⟨_,u,⟨f,g,.inr ⟨i,j,_,e1,e2,setRow_heap W i _ _ _ _ c,m,p,?_,?_⟩⟩,tX _ _ _⟩
 simp only[sa,bG,cC,dO,pB];omega;rw[<-r]at d⊢;rw[<-d,eA];show(a.toList.take (k*2)++(t++a.toList.drop (k*2+1*2))).take (k*2)=a.toList.take (k*2);rw[tB (by rw[cC,pB];omega),List.take_take,Nat.min_self]
theorem Kv(w:World)(a g k cap:Nat)(l:List Rg)(ho:cS w a (.slice (some ⟨g,0,none⟩) (k+1) cap) l)(q:0<k)(j:cap<=maxLen):
 Calls prog 216 #[.slice (some ⟨g,0,none⟩) (k+1) cap,.int .i64 0,.int .i64 1] w λe d=>e=.returned (.slice (some ⟨g,0,none⟩) k cap)/\cS d a (.slice (some ⟨g,0,none⟩) k cap) (l.drop 1)/\w.grownBy d (some g):=by
 unfold maxLen at j;have m:=J (ho.ah (aP (av w none)));have n:k+1<=cap:=(ho.km.1).2.2.1;clear ho;have r:¬cap=1:=by omega
 have s:¬cap=k:=by omega
 have t:(1:Int)<=(cap:Int):=by omega
 have u:(k:Int)<=(cap:Int):=by omega
 have v:(k:Int)+1<=(cap:Int):=by omega
 have x:(1:Int)<=(k:Int)+1:=by omega
 go_enter func216,ntmps216;go_wp2_with fail;go_region_law ((refine Ks (by rfl) _ _ (by rfl) a g k cap l (by rfl) (by rfl) (Z m) ?_;intro y b c;replace b:=J b;replace c:=J c));obtain⟨f,z,h,i⟩:=Ku (Z b) n;have p:Hid (cS f a (.slice (some ⟨g,0,none⟩) k cap) (l.drop 1)/\w.grownBy f (some g)):=J ⟨h,aj (aj (aP (av _ _)) (Z c)) i⟩;clear h i;go_wp2_with fail;go_ret;exact⟨rfl,Z p⟩
def fX(l:List Rg)(floor n:Int):List Rg×Int:=
 if 8<(dT l ⟨n,n+1⟩).length then((dT l ⟨n,n+1⟩).drop 1,(au (dT l ⟨n,n+1⟩) 0).hi)else(dT l ⟨n,n+1⟩,floor)
theorem Kw(w:World)(sb no:Nat)(cs:Array Value)(t:TypeId)(a:Option Addr)(k cap:Nat)(l:List Rg)(floor n:Int)(x:w.heap[sb]?=some (.cells cs t (0,0)))(c0:cs[no]?=some (.slice a k cap))(c1:cs[no+1]?=some (.int .u64 floor))(hs:ba w a k cap l)(a4:∀y,a=some y->y.block≠sb)(Y:aZ l)(bx:l.length<=8)(a8:¬Sm l n)(hn:0<=n/\n<=4611686018427387903):
 Calls prog 164 #[.pointer (some ⟨sb,no,none⟩),.int .u64 n] w λe b=>e=.returned (.tuple #[])/\∃r s u,b.heap[sb]?=some (.cells ((cs.setIfInBounds no (.slice r s u)).setIfInBounds (no+1) (.int .u64 (fX l floor n).2)) t (0,0))/\cS b w.heap.size (.slice r s u) (fX l floor n).1/\w.grownBy b (some sb):=by
 obtain⟨R,L⟩:=exq (λb:World=>∃r s u,b.heap[sb]?=some (.cells ((cs.setIfInBounds no (.slice r s u)).setIfInBounds (no+1) (.int .u64 (fX l floor n).2)) t (0,0))/\cS b w.heap.size (.slice r s u) (fX l floor n).1/\w.grownBy b (some sb));have al:(λ(e:Ending) b=>e=.returned (.tuple #[])/\∃r s u,b.heap[sb]?=some (.cells ((cs.setIfInBounds no (.slice r s u)).setIfInBounds (no+1) (.int .u64 (fX l floor n).2)) t (0,0))/\cS b w.heap.size (.slice r s u) (fX l floor n).1/\w.grownBy b (some sb))=λe b=>e=.returned (.tuple #[])/\R b:=by rw[L]
 rw[al];clear al;have bz:sb<w.heap.size:=(aO.1 x).1;have hk:k=l.length:=hs.2.1;have a9:(⟨n,n+1⟩:Rg).ok:=by constructor<;>simp only[aR]<;>omega
 have M:=J (λW=>Cw W n hn);have D:=J (λW(g:w.grownBy W none)=>ze W sb no cs t a k cap l ⟨n,n+1⟩ (bf x g) c0 (hs.ah g) a4 Y a9 (by omega));simp only at D;have gr:w.grownBy w.drew none:=aP (av _ _);have N:=gF c0;have bL:=gF c1;go_enter func164,ntmps164;go_upto_region 0 with fail;go_region_held3 (λ_=>True) (trivial)
  (first
    |(go_at_call 212;refine(Z M w.drew).mono ?_;rintro e w5⟨rfl,g5⟩;have E:w.grownBy w5 none:=aj gr g5)
    |(go_at_call 215;refine(Z D w5 E).mono ?_;rintro e v⟨rfl,a6,f,c6,c,F,z,O,P,G⟩;replace F:=J F;replace z:=J z;replace O:=J O;replace P:=J P;replace G:=J G))
 have ax:c=dT l ⟨n,n+1⟩:=ur Y (Z P) (Z G).2;have a0:c≠l:=λe=>a8 ((e▸((Z G).2 n)).2 (.inr (by omega)))
 have H:cS v w.heap.size (.slice a6 f c6) c:=by
  obtain h|h:=Z O
  exact absurd h.2.2.2 a0;obtain⟨Q,I,S⟩:=h;refine⟨Q,I,?_⟩
  obtain S|⟨g,cp,a1,e1,e2,e3⟩:=S
  exact .inl S;exact .inr ⟨g,cp,a1,e1,bC E.size e2,e3⟩
 have p:=(Z F).2 _ _ (bf x E);have g6:w.grownBy v (some sb):=aj (cO E _) (Z F).1;have K:f=c.length:=(Z z).2.1;have bM:=(Z z).2.2.1;have a2:=(Z z).2.2.2.1;have k0:v.cell? ⟨sb,no,none⟩=some (.slice a6 f c6):=by rw[aU p];exact cB N
 have a3:Hid (fX l floor n=if 8<c.length then(c.drop 1,(au c 0).hi)else(c,floor)):=J (by unfold fX;rw[<-ax]);clear ax a0;by_cases h8:8<f
 ·have d8:decide ((8:Int)<(f:Int))=true:=bp (by omega);have d:=Z a3;rw[aM (by omega)]at d;obtain⟨g,rfl⟩:∃g,a6=some ⟨g,0,none⟩:=by
   obtain⟨-,-,⟨h0,-⟩|⟨g,cp,a1,e1,-⟩⟩:=H;cases h0;omega;cases e1;exact⟨g,rfl⟩
  have bP:w.heap.size<=g:=(H.lt g rfl).1;obtain⟨-,y1⟩:=(Z z).cell 0 (by omega);rw[mK,lO]at y1;obtain⟨fl,T⟩:=exq ((au c 0).hi);rw[<-T]at y1 d;obtain⟨m,rfl⟩:∃m,f=m+1:=⟨f-1,by omega⟩
  obtain⟨A,C⟩:=exq (v.setCell ⟨sb,no+1,none⟩ (.int .u64 fl));have B:A.heap[sb]?=some (.cells ((cs.setIfInBounds no (.slice (some ⟨g,0,none⟩) (m+1) c6)).setIfInBounds (no+1) (.int .u64 fl)) t (0,0)):=by rw[C];exact heap_set p _
  have g7:v.grownBy A (some sb):=by rw[C];exact aD (av _ _) _ _ (.inr rfl)
  have bb:(Value.slice (some ⟨g,0,none⟩) (m+1) c6).ownBlock≠some sb:=λe=>by have h:g=sb:=aJ e;omega
  have bj:=H.gb g7 (.inr bb);have hD:=J (Kv A w.heap.size g m c6 c bj (by omega) a2);have q0:A.cell? ⟨sb,no,none⟩=some (.slice (some ⟨g,0,none⟩) (m+1) c6):=by rw[aU B,aW (by omega)];exact cB N
  have k1:v.cell? ⟨sb,no+1,none⟩=some (.int .u64 floor):=by rw[aU p,aW (by omega)];exact c1
  have f1:v.frozen? ⟨sb,no+1,none⟩=false:=by simp[World.frozen?,p]
  have U:Hid (∀q,cS q w.heap.size (.slice (some ⟨g,0,none⟩) m c6) (c.drop 1)->A.grownBy q (some g)->R (q.setCell ⟨sb,no,none⟩ (.slice (some ⟨g,0,none⟩) m c6))/\q.cell? ⟨sb,no,none⟩=some (.slice (some ⟨g,0,none⟩) (m+1) c6)/\q.frozen? ⟨sb,no,none⟩=false):=J (λq Q I=>by
   have br:sb<A.heap.size:=(aO.1 B).1;have V:=(I.block sb br (λe=>by have:=aJ e;omega)).trans B;have gs:=aD (av q (some sb)) ⟨sb,no,none⟩ (.slice (some ⟨g,0,none⟩) m c6) (.inr rfl);refine⟨?_,by rw[aU V,<-aU B];exact q0,by simp[World.frozen?,V]⟩
   rw[L,d];refine⟨some ⟨g,0,none⟩,m,c6,?_,Q.gb gs (.inr (λe=>by have h:g=sb:=aJ e;omega)),?_⟩
   rw[heap_set V];congr 2;apply Array.ext_getElem?;intro i;by_cases hi:i=no;subst hi;rw[cB (by simp;omega),aW (by omega),cB N];by_cases bt:i=no+1;subst bt;rw[aW (by omega),cB (by simp;omega),cB (by simp;omega)];rw[aW (by omega),aW (by omega),aW (by omega),aW (by omega),aW (by omega)]
   ·exact aj (cA (aj g6 g7) I (λj e=>.inl (by have:=aJ e;omega))) gs)
  have i0:(0:Int)<((m+1:Nat):Int):=by omega
  unfold maxLen at a2;clear D M;replace p:=J p;replace B:=J B;replace K:=J K;replace T:=J T;replace d:=J d;replace C:=J C;replace x:=J x;go_upto_region 3 with fail;rw[<-Z C];go_wp2_with fail;refine(Z hD).mono ?_;rintro e q⟨rfl,o8,g8⟩;obtain⟨X,z8,f8⟩:=Z U q o8 g8;replace X:=J X;clear o8 g8;go_wp2_with fail;exact dP (dj rfl _ _ _) rfl ⟨rfl,Z X⟩
 have d8:decide ((8:Int)<(f:Int))=false:=bB (by omega);have d:=Z a3;rw[ay (by omega)]at d;have U:Hid (R v):=J (by
  rw[L,d];refine⟨a6,f,c6,?_,H,g6⟩
  rw[p];congr 2;exact(sC (by rw[aW (by omega)];exact c1)).symm)
 replace K:=J K;replace d:=J d;replace p:=J p;replace x:=J x;clear D M;go_wp2_with fail;exact dP (dj rfl _ _ _) rfl ⟨rfl,Z U⟩
